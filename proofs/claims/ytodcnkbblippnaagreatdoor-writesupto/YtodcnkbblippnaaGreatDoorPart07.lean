/-
  The statement WritesUptoCardSaid is proved: the law Writes answers true for every setting and every script of at most 1048576 bytes; there is no other condition.
  Part 7 of 33.
-/
import Derived.Test.YtodcnkbblippnaaGreatDoorPart06
import Derived.Test.YtodcnkbblippnaaGreatDoorPart04
import Derived.Test.YtodcnkbblippnaaGreatDoorPart05
namespace Go.Proofs.YtodcnkbblippnaaGreatDoor
open Go.RowKit
attribute [local go_sem ↓] Go.wp_at_zero Go.wp_at_succ
def rho:List Nat→List Nat→Nat→Nat
 | x :: xs,y :: ys,f=>if x=f then y else rho xs ys f
 | _,_,_=>0
theorem A8g:∀ (xs ys:List Nat) (i f m:Nat),xs.Nodup→xs[i]?=some f→ys[i]?=some m→rho xs ys f=m
 | [],_,i,_,_,_,h,_=>by simp at h
 | x :: xs,[],i,_,_,_,_,h=>by simp at h
 | x :: xs,y :: ys,0,f,m,_,h1,h2=>by
  simp only [List.getElem?_cons_zero,Option.some.injEq] at h1 h2
  subst h1;subst h2;simp [rho]
 | x :: xs,y :: ys,i+1,f,m,hn,h1,h2=>by
  simp only [List.getElem?_cons_succ] at h1 h2
  have hx:x≠f:=fun e=>by subst e;exact (List.nodup_cons.1 hn).1 (List.mem_of_getElem? h1)
  simp only [rho,hx,if_false]
  exact A8g xs ys i f m (List.nodup_cons.1 hn).2 h1 h2
def ren (r:Nat→Nat) (es:List Ent):List Ent:=es.map fun e=>(e.1,r e.2)
def DS.ren (r:Nat→Nat) (D:DS):DS:={ dir:=Go.Proofs.YtodcnkbblippnaaGreatDoor.ren r D.dir,safe:=Go.Proofs.YtodcnkbblippnaaGreatDoor.ren r D.safe,changes:=D.changes.map (Go.Proofs.YtodcnkbblippnaaGreatDoor.ren r),n:=D.n }
theorem Ren.eq {L M:List Nat} {es es':List Ent} (h:Ren L M es es') (hn:L.Nodup):es'=ren (rho L M) es:=by
 apply List.ext_getElem
 ·simp [ren,h.1]
 ·intro k h1 h2
  have hk:k<es.length:=by rw [← h.1];exact h1
  obtain ⟨q1,i,q2,q3⟩:=h.2 k hk h1
  simp only [ren,List.getElem_map]
  rw [A8g L M i _ _ hn q2 q3]
  exact Prod.ext q1 rfl
theorem CS.elem2 {N:Nat} {w:World} {bo bm:Nat} {F:Nat→FC} {old made:List Nat} {vo vm:Value} {VB:Nat→Value} (h:CS N w bo bm F old made vo vm VB) {k:Nat} (hk:CB bo bm vo vm made VB k∨k∈old):∃ c e,w.heap[k]?=some (.cells c e (0,0))∧e≠125∧e≠120∧e≠95:=by
 have hl:=h.made_len
 rcases hk with (rfl | rfl | hk | hk | hk | ⟨m,hm,hk⟩) | hk
 ·exact ⟨_,_,h.ob,by decide⟩
 ·exact ⟨_,_,h.mb,by decide⟩
 ·obtain ⟨c,hc⟩:=A0f h.ol hk;exact ⟨c,_,hc,by decide⟩
 ·obtain ⟨c,hc⟩:=A0f h.ml hk;exact ⟨c,_,hc,by decide⟩
 ·obtain ⟨i,hi,rfl⟩:=List.getElem_of_mem hk
  exact ⟨_,_,(h.fil i hi (by omega)).1,by decide⟩
 ·obtain ⟨i,hi,rfl⟩:=List.getElem_of_mem hm
  obtain ⟨c,hc⟩:=A0f (h.fil i hi (by omega)).2 hk;exact ⟨c,_,hc,by decide⟩
 ·obtain ⟨c,hc⟩:=(h.ofil k hk).2;exact ⟨c,_,hc,by decide⟩
theorem CS.far {N:Nat} {w:World} {bo bm:Nat} {F:Nat→FC} {old made:List Nat} {vo vm:Value} {VB:Nat→Value} (h:CS N w bo bm F old made vo vm VB) {k e:Nat} {c:Array Value} (hk:w.heap[k]?=some (.cells c e (0,0))) (he:e=125∨e=120∨e=95):¬ CF bo bm vo vm k:=by
 intro hc
 have hcb:CB bo bm vo vm made VB k:=by
  rcases hc with h | h | h | h
  ·exact .inl h
  ·exact .inr (.inl h)
  ·exact .inr (.inr (.inl h))
  ·exact .inr (.inr (.inr (.inl h)))
 obtain ⟨c',e',h1,h2,h3,h4⟩:=h.elem2 (.inl hcb)
 rw [hk] at h1;cases h1
 rcases he with e | e | e <;> simp_all
def A6k (l:List (List Ent)):Nat:=(l.map List.length).sum
theorem A9h (l:List (List Ent)) (i:Nat) (h:i<l.length):A6k (l.take (i+1))=A6k (l.take i)+(l[i]'h).length:=by
 unfold A6k
 rw [List.take_succ_eq_append_getElem h,List.map_append,List.sum_append]
 simp
structure CR (N:Nat) (w wr:World) (b2 bo bm:Nat) (D:DS) (F:Nat→FC) (i:Nat) (L M:List Nat) (vo vm v1 v2 vc:Value) (VB:Nat→Value) (vals:List Value) (e1 e2:List Ent) (cs:List (List Ent)):Prop where
 cs0:CS N wr bo bm F L M vo vm VB
 blk:A0H wr b2 v1 v2 vc D.n
 d1:A1l wr v1 e1
 d2:A1l wr v2 e2
 r1:Ren L M D.dir e1
 r2:Ren L M D.safe e2
 ch:wr.ownsRow 0 120 1 vc i vals
 cl:cs.length=i
 che:∀ k (h:k<cs.length),∃ v,vals[k]?=some v∧A1l wr v (cs[k]'h)
 chr:∀ k (h:k<cs.length) (h':k<D.changes.length),Ren L M (D.changes[k]'h') (cs[k]'h)
 cnt:L.length≤D.dir.length+D.safe.length+A6k (D.changes.take i)
 lids:∀ f∈L,D.ids f
 chg:Chg (fun _=>False) w wr
 nb:N≤b2
 nv1:∀ g,v1.ownBlock=some g→N≤g
 nv2:∀ g,v2.ownBlock=some g→N≤g
 nvc:∀ g,vc.ownBlock=some g→N≤g
 nvs:∀ v∈vals,∀ g,v.ownBlock=some g→N≤g
theorem CR.step {w wr W1 w2 w3:World} {b2 bo bm:Nat} {D:DS} {F:Nat→FC} {i nq:Nat} {L M L2 M2:List Nat} {vo vm v1 v2 vc vo2 vm2 v:Value} {VB VB2:Nat→Value} {vals:List Value} {e1 e2 es2:List Ent} {cs:List (List Ent)} {a3:Option Addr} {c3:Nat}
 (h:CR w.heap.size w wr b2 bo bm D F i L M vo vm v1 v2 vc VB vals e1 e2 cs) (hi:i<D.changes.length) {es:List Ent} (hes:D.changes[i]'hi=es) (hW:Chg (fun _=>False) wr W1)
 (ho:OR1 w.heap.size W1 bo bm F L M vo vm VB es es.length es.length v w2 L2 M2 vo2 vm2 VB2 es2)
 (hA:App ((w2.drewN nq).alloc (.cells #[v] 120)) w3 120 1 vc (.slice a3 (i+1) c3) (i+1) (vals ++ [v])):
 CR w.heap.size w (w3.setCell ⟨b2,2,none⟩ (.slice a3 (i+1) c3)) b2 bo bm D F (i+1) L2 M2 vo2 vm2 v1 v2 (.slice a3 (i+1) c3) VB2 (vals ++ [v]) e1 e2 (cs ++ [es2]):=by
 subst hes
 have csW:CS w.heap.size W1 bo bm F L M vo vm VB:=h.cs0.chg hW (fun _ _ h=>h) (fun _ _ h=>h)
 have k12:∀ (k:Nat) (c:Array Value) (e:Nat),wr.heap[k]?=some (Obj.cells c e (0,0))→(e=125∨e=120∨e=95)→w2.heap[k]?=some (Obj.cells c e (0,0)):=fun k c e hk he=>by
  have h1:W1.heap[k]?=some (Obj.cells c e (0,0)):=(hW.block k (lt_of_block hk) (fun h=>h)).trans hk
  exact (ho.chg.block k (lt_of_block h1) (csW.far h1 he)).trans h1
 have k23:∀ (k:Nat) (c:Array Value) (e:Nat),w2.heap[k]?=some (Obj.cells c e (0,0))→e≠120→w3.heap[k]?=some (Obj.cells c e (0,0)):=fun k c e hk he=>by
  have h1:((w2.drewN nq).alloc (.cells #[v] 120)).heap[k]?=some (Obj.cells c e (0,0)):=(Below.heap_alloc _ _ _ (by simpa using lt_of_block hk)).trans hk
  refine (hA.grown.block k (lt_of_block h1) (fun e2=>?_)).trans h1
  obtain ⟨c',hh⟩:=A0f h.ch e2.symm
  have:=k12 _ _ _ hh (.inr (.inl rfl))
  rw [hk] at this;cases this;exact he rfl
 have hb3:A0H w3 b2 v1 v2 vc D.n:=k23 _ _ _ (k12 _ _ _ h.blk (.inr (.inr rfl))) (by decide)
 have hb4:=hb3.s2 (.slice a3 (i+1) c3)
 have k34:Chg (One b2) w3 (w3.setCell ⟨b2,2,none⟩ (.slice a3 (i+1) c3)):=(Chg.refl (One b2) w3).setAt rfl 2 _
 generalize hW4:w3.setCell ⟨b2,2,none⟩ (.slice a3 (i+1) c3)=W4 at hb4 k34 ⊢
 have k34':∀ (k:Nat) (c:Array Value) (e:Nat),w3.heap[k]?=some (Obj.cells c e (0,0))→e≠95→W4.heap[k]?=some (Obj.cells c e (0,0)):=fun k c e hk he=>
  (k34.block k (lt_of_block hk) (fun e2=>A0r hk hb3 he e2)).trans hk
 have kE:∀ (k:Nat) (c:Array Value),wr.heap[k]?=some (Obj.cells c 125 (0,0))→W4.heap[k]?=wr.heap[k]?:=fun k c hk=>
  (k34' _ _ _ (k23 _ _ _ (k12 _ _ _ hk (.inl rfl)) (by decide)) (by decide)).trans hk.symm
 have kE2:∀ (k:Nat) (c:Array Value),w2.heap[k]?=some (Obj.cells c 125 (0,0))→W4.heap[k]?=w2.heap[k]?:=fun k c hk=>
  (k34' _ _ _ (k23 _ _ _ hk (by decide)) (by decide)).trans hk.symm
 have hEn:∀ {v:Value} {es:List Ent},A1l wr v es→A1l W4 v es:=fun he=>A0a he fun g hg=>by
  obtain ⟨c,hh⟩:=A0f he hg;exact kE _ _ hh
 have hvE:A1l W4 v es2:=A0a ho.ent fun g hg=>by
  obtain ⟨c,hh⟩:=A0f ho.ent hg;exact kE2 _ _ hh
 have hlM:∀ {es es':List Ent},Ren L M es es'→Ren L2 M2 es es':=fun hr=>by
  obtain ⟨o,q1,_⟩:=ho.pre
  obtain ⟨o2,q2,_⟩:=ho.prm
  rw [q1,q2];exact hr.mono
 have hsz1:=h.chg.size
 have hsz2:=hW.size
 have hvl:vals.length=i:=by simpa using h.ch.1
 refine ⟨?_,hb4,hEn h.d1,hEn h.d2,hlM h.r1,hlM h.r2,?_,by simp [h.cl],?_,?_,?_,?_,?_,h.nb,h.nv1,h.nv2,?_,?_⟩
 ·refine ho.cs.frame (fun k hk=>?_) (fun k hk=>?_)
  ·obtain ⟨c,e,h1,h2,h3,h4⟩:=ho.cs.elem2 (.inl hk)
   exact (k34' _ _ _ (k23 _ _ _ h1 h3) h4).trans h1.symm
  ·obtain ⟨c,e,h1,h2,h3,h4⟩:=ho.cs.elem2 (.inr hk)
   exact (k34' _ _ _ (k23 _ _ _ h1 h3) h4).trans h1.symm
 ·exact A0a hA.own fun g hg=>by
   obtain ⟨c,hh⟩:=A0f hA.own hg
   exact (k34' _ _ _ hh (by decide)).trans hh.symm
 ·intro k hk
  by_cases hlt:k<cs.length
  ·obtain ⟨u,q1,q2⟩:=h.che k hlt
   refine ⟨u,?_,?_⟩
   ·rw [List.getElem?_append_left (by rw [hvl,← h.cl];exact hlt)];exact q1
   ·simp only [List.getElem_append_left hlt];exact hEn q2
  ·obtain rfl:k=cs.length:=by simp at hk;omega
   refine ⟨v,?_,?_⟩
   ·rw [List.getElem?_append_right (by rw [hvl,h.cl];omega),hvl,h.cl];simp
   ·simpa using hvE
 ·intro k hk hk'
  by_cases hlt:k<cs.length
  ·simp only [List.getElem_append_left hlt];exact hlM (h.chr k hlt hk')
  ·obtain rfl:k=cs.length:=by simp at hk;omega
   have hcl:=h.cl
   have:=ho.ren
   rw [List.take_length] at this
   simp only [hcl]
   have e1:(cs ++ [es2])[i]'(by simp [hcl])=es2:=by simp [← hcl]
   rw [e1];exact this
 ·obtain ⟨o,q1,q2,_⟩:=ho.pre
  have:=h.cnt
  rw [A9h _ _ hi,q1,List.length_append];omega
 ·intro f hf
  obtain ⟨o,q1,_,q3⟩:=ho.pre
  rw [q1] at hf
  rcases List.mem_append.1 hf with hf | hf
  ·exact h.lids f hf
  ·exact .inr (.inr ⟨_,List.getElem_mem hi,q3 f hf⟩)
 ·have c1:Chg (fun _=>False) w W1:=h.chg.trans hW (fun _ h _=>h)
  have c2:Chg (fun _=>False) w w2:=c1.trans ho.chg (fun x hx hlt=>by
   rcases hx with rfl | rfl | hx | hx
   ·have:=csW.nobo;omega
   ·have:=csW.nobm;omega
   ·have:=csW.novo x hx;omega
   ·have:=csW.novm x hx;omega)
  have c3:Chg (fun _=>False) w w3:=((c2.drewN nq).alloc (.cells #[v] 120)).grown hA.grown (fun k hk hlt=>by have:=h.nvc k hk;omega)
  exact c3.trans k34 (fun x hx hlt=>by have:=h.nb;have:x=b2:=hx;omega)
 ·intro g hg
  rcases hA.at_ with e | e
  ·rw [e] at hg;exact h.nvc g hg
  ·rw [e] at hg;cases hg
   have:=ho.chg.size
   simp;omega
 ·intro u hu g hg
  rcases List.mem_append.1 hu with hu | hu
  ·exact h.nvs u hu g hg
  ·simp at hu;subst hu
   have:=ho.fresh g hg;omega
theorem B1d {w W:World} {b bo bm:Nat} {D:DS} {F:Nat→FC} {vd vs vc vo vm vl:Value} {vals:List Value} {VB VB1:Nat→Value} {L M:List Nat} {es:List Ent} (hr:A2j w b D F vd vs vc vals VB) (hc:Chg (fun _=>False) w W) (hcs:CS w.heap.size W bo bm F L M vo vm VB1)
 (hes:A1l w vl es) (hids:∀ f,A1f f es→D.ids f) (hF:∀ f,D.ids f→(F f).1.length≤1099511627776) (hn:es.length<1099511627776∧L.length<1099511627776):
 Calls Tryz.prog 87 #[vl,.pointer (some ⟨bo,0,none⟩),.pointer (some ⟨bm,0,none⟩)] W fun e w'=>∃ v L2 M2 vo2 vm2 VB2 es2,e=.returned v∧OR1 w.heap.size W bo bm F L M vo vm VB1 es es.length es.length v w' L2 M2 vo2 vm2 VB2 es2:=by
 have hb:∀ k,k<w.heap.size→W.heap[k]?=w.heap[k]?:=fun k hk=>hc.block k hk (fun h=>h)
 refine (B2D w.heap.size W bo bm F L M vo vm VB1 hcs es vl (A0a hes fun g hg=>hb g (A0c hes hg)) (fun g hg=>A0c hes hg) hn fun f hf=>?_).mono ?_
 ·obtain ⟨h1,h2⟩:=hr.fil f (hids f hf)
  refine ⟨lt_of_block h1,hF f (hids f hf),VB f,(hb f (lt_of_block h1)).trans h1,A0a h2 fun g hg=>hb g (A0c h2 hg),fun g hg=>A0c h2 hg⟩
 ·rintro e w' ⟨v,rfl,L2,M2,vo2,vm2,VB2,es2,h⟩
  exact ⟨v,L2,M2,vo2,vm2,VB2,es2,rfl,h⟩
theorem OR1.chgW {w W w':World} {bo bm:Nat} {F:Nat→FC} {old made L2 M2:List Nat} {vo vm v vo2 vm2:Value} {VB VB2:Nat→Value} {es es2:List Ent} {i cn:Nat} (h:OR1 w.heap.size W bo bm F old made vo vm VB es i cn v w' L2 M2 vo2 vm2 VB2 es2) (hc:Chg (fun _=>False) w W) (hcs:CS w.heap.size W bo bm F old made vo vm VB):Chg (fun _=>False) w w':=
 hc.trans h.chg (fun x hx hlt=>by
  rcases hx with rfl | rfl | hx | hx
  ·have:=hcs.nobo;omega
  ·have:=hcs.nobm;omega
  ·have:=hcs.novo x hx;omega
  ·have:=hcs.novm x hx;omega)
theorem A4W {r:Nat→Nat} {es:List Ent} {f':Nat} (h:A1f f' (ren r es)):∃ f,A1f f es∧r f=f':=by
 obtain ⟨e,he,rfl⟩:=h
 obtain ⟨e0,he0,rfl⟩:=List.mem_map.1 he
 exact ⟨e0.2,⟨e0,he0,rfl⟩,rfl⟩
theorem DS.ids_ren {r:Nat→Nat} {D:DS} {f':Nat} (h:(D.ren r).ids f'):∃ f,D.ids f∧r f=f':=by
 rcases h with h | h | ⟨c,hc,h⟩
 ·obtain ⟨f,h1,h2⟩:=A4W h;exact ⟨f,.inl h1,h2⟩
 ·obtain ⟨f,h1,h2⟩:=A4W h;exact ⟨f,.inr (.inl h1),h2⟩
 ·obtain ⟨c0,hc0,rfl⟩:=List.mem_map.1 hc
  obtain ⟨f,h1,h2⟩:=A4W h;exact ⟨f,.inr (.inr ⟨c0,hc0,h1⟩),h2⟩
theorem Ren.ids {L M:List Nat} {es es':List Ent} (h:Ren L M es es') {f:Nat} (hf:A1f f es):∃ (i:Nat) (m:Nat),L[i]?=some f∧M[i]?=some m:=by
 obtain ⟨e,he,rfl⟩:=hf
 obtain ⟨k,hk,rfl⟩:=List.getElem_of_mem he
 obtain ⟨_,i,h1,h2⟩:=h.2 k hk (by rw [h.1];exact hk)
 exact ⟨i,_,h1,h2⟩
theorem CR.fin {w wr:World} {b2 bo bm:Nat} {D:DS} {F:Nat→FC} {L M:List Nat} {vo vm v1 v2 vc:Value} {VB:Nat→Value} {vals:List Value} {e1 e2:List Ent} {cs:List (List Ent)}
 (h:CR w.heap.size w wr b2 bo bm D F D.changes.length L M vo vm v1 v2 vc VB vals e1 e2 cs):
 ∃ r F2 Ft2,Rep wr b2 (D.ren r) F2 Ft2∧(∀ k,Ft2 k→w.heap.size≤k∧k<wr.heap.size)∧Chg (fun _=>False) w wr∧(∀ f,D.ids f→F2 (r f)=F f)∧∀ f f',D.ids f→D.ids f'→r f=r f'→f=f':=by
 have q1:e1=ren (rho L M) D.dir:=h.r1.eq h.cs0.odup
 have q2:e2=ren (rho L M) D.safe:=h.r2.eq h.cs0.odup
 have q3:cs=D.changes.map (ren (rho L M)):=by
  apply List.ext_getElem
  ·simp [h.cl]
  ·intro k h1 h2
   rw [List.getElem_map]
   exact (h.chr k h1 (by simpa using h2)).eq h.cs0.odup
 have hids:∀ f,D.ids f→∃ (i:Nat) (m:Nat),L[i]?=some f∧M[i]?=some m:=by
  rintro f (hf | hf | ⟨c,hc,hf⟩)
  ·exact h.r1.ids hf
  ·exact h.r2.ids hf
  ·obtain ⟨k,hk,rfl⟩:=List.getElem_of_mem hc
   exact (h.chr k (by rw [h.cl];exact hk) hk).ids hf
 have hback:∀ f,D.ids f→rho M L (rho L M f)=f:=fun f hf=>by
  obtain ⟨i,m,h1,h2⟩:=hids f hf
  rw [A8g L M i f m h.cs0.odup h1 h2,A8g M L i m f h.cs0.dup h2 h1]
 have hmade:∀ f',(D.ren (rho L M)).ids f'→∃ i,∃ hi:i<M.length,∃ hi':i<L.length,M[i]'hi=f'∧L[i]'hi'=rho M L f':=fun f' hf'=>by
  obtain ⟨f,h1,rfl⟩:=DS.ids_ren hf'
  obtain ⟨i,m,h2,h3⟩:=hids f h1
  rw [hback f h1,A8g L M i f m h.cs0.odup h2 h3]
  obtain ⟨k1,k2⟩:=List.getElem?_eq_some_iff.1 h2
  obtain ⟨k3,k4⟩:=List.getElem?_eq_some_iff.1 h3
  exact ⟨i,k3,k1,k4,k2⟩
 have hmem:∀ f',(D.ren (rho L M)).ids f'→f'∈M:=fun f' hf'=>by
  obtain ⟨i,k1,_,k2,_⟩:=hmade f' hf'
  rw [← k2];exact List.getElem_mem k1
 have hv:A2j wr b2 (D.ren (rho L M)) (fun m=>F (rho M L m)) v1 v2 vc vals VB:=by
  refine ⟨h.blk,?_,?_,?_,?_,?_,?_⟩
  ·have:=h.d1;rw [q1] at this;exact this
  ·have:=h.d2;rw [q2] at this;exact this
  ·have:=h.ch;simpa [DS.ren] using this
  ·intro i hi
   have hi':i<cs.length:=by rw [h.cl];simpa [DS.ren] using hi
   obtain ⟨v,k1,k2⟩:=h.che i hi'
   refine ⟨v,k1,?_⟩
   subst q3
   exact k2
  ·intro f' hf'
   obtain ⟨i,k1,k2,k3,k4⟩:=hmade f' hf'
   have:=h.cs0.fil i k1 k2
   rw [k3,k4] at this;exact this
  ·exact fun f f' g hf hf'=>h.cs0.inj f f' g (hmem f hf) (hmem f' hf')
 refine ⟨rho L M,fun m=>F (rho M L m),A2M b2 (D.ren (rho L M)) v1 v2 vc vals VB,⟨_,_,_,_,_,hv,fun _ h=>h⟩,fun k hk=>⟨?_,hv.lt hk⟩,h.chg,fun f hf=>by simp only [hback f hf],fun f f' hf hf' e=>by rw [← hback f hf,← hback f' hf',e]⟩
 cases hk using A2M.elim with
 | blk=>exact h.nb
 | dir e=>exact h.nv1 _ e
 | safe e=>exact h.nv2 _ e
 | chg e=>exact h.nvc _ e
 | che hm e=>exact h.nvs _ hm _ e
 | fil hf=>exact h.cs0.nomade _ (hmem _ hf)
 | byt hf e=>exact h.cs0.nobyt _ (hmem _ hf) _ e
theorem B2P (w:World) (n:DN) (F:Nat→FC) (VB:Nat→Value) (W:World) (hW:W=(((w.alloc (.cells #[.slice none 0 0,.slice none 0 0,.slice none 0 0,.int .i64 n.room,.int .i64 n.calls,.int .i64 n.cut,.int .i64 n.fail,.int .i64 n.part,.int .i64 n.refused,.int .i64 n.fulls,.bool n.dead] 95)).alloc (.cells #[.slice none 0 0] 138)).alloc (.cells #[.slice none 0 0] 138)).drew):
 CS w.heap.size W (w.heap.size+1) (w.heap.size+2) F [] [] (.slice none 0 0) (.slice none 0 0) VB∧A0H W w.heap.size (.slice none 0 0) (.slice none 0 0) (.slice none 0 0) n∧Chg (fun _=>False) w W:=by
 subst hW
 refine ⟨⟨?_,?_,by omega,World.ownsRow_nil _ _ _ _,World.ownsRow_nil _ _ _ _,by simp [Value.ownBlock],by simp,by simp,by simp,by simp,by simp,by omega,by omega,by simp [Value.ownBlock],by simp [Value.ownBlock],by simp,by simp⟩,?_,(((Chg.refl _ w).alloc _).alloc _).alloc _ |>.drew⟩
 ·show ((((w.alloc _).alloc _).alloc _).heap[w.heap.size+1]?)=_
  rw [Below.heap_alloc _ _ _ (by simp)]
  have:=heap_alloc_new (w.alloc (.cells #[.slice none 0 0,.slice none 0 0,.slice none 0 0,.int .i64 n.room,.int .i64 n.calls,.int .i64 n.cut,.int .i64 n.fail,.int .i64 n.part,.int .i64 n.refused,.int .i64 n.fulls,.bool n.dead] 95)) (.cells #[.slice none 0 0] 138)
  rw [World.size_alloc] at this;exact this
 ·show ((((w.alloc _).alloc _).alloc _).heap[w.heap.size+2]?)=_
  have:=heap_alloc_new ((w.alloc (.cells #[.slice none 0 0,.slice none 0 0,.slice none 0 0,.int .i64 n.room,.int .i64 n.calls,.int .i64 n.cut,.int .i64 n.fail,.int .i64 n.part,.int .i64 n.refused,.int .i64 n.fulls,.bool n.dead] 95)).alloc (.cells #[.slice none 0 0] 138)) (.cells #[.slice none 0 0] 138)
  rw [World.size_alloc,World.size_alloc] at this;exact this
 ·show ((((w.alloc _).alloc _).alloc _).heap[w.heap.size]?)=_
  rw [Below.heap_alloc _ _ _ (by simp;omega),Below.heap_alloc _ _ _ (by simp)]
  exact heap_alloc_new _ _
theorem B1c {w W w2 w3:World} {bo bm:Nat} {D:DS} {F:Nat→FC} {vo vm v1 v2 vo2 vm2:Value} {VB0 VB1 VB2:Nat→Value} {L M L2 M2:List Nat} {e1 e2:List Ent} (hcs:CS w.heap.size W bo bm F [] [] (.slice none 0 0) (.slice none 0 0) VB0) (hb:A0H W w.heap.size (.slice none 0 0) (.slice none 0 0) (.slice none 0 0) D.n) (hc:Chg (fun _=>False) w W)
 (h1:OR1 w.heap.size W bo bm F [] [] (.slice none 0 0) (.slice none 0 0) VB0 D.dir D.dir.length D.dir.length v1 w2 L M vo vm VB1 e1)
 (h2:OR1 w.heap.size w2 bo bm F L M vo vm VB1 D.safe D.safe.length D.safe.length v2 w3 L2 M2 vo2 vm2 VB2 e2):
 A0H w3 w.heap.size (.slice none 0 0) (.slice none 0 0) (.slice none 0 0) D.n∧CR w.heap.size w ((w3.setCell ⟨w.heap.size,0,none⟩ v1).setCell ⟨w.heap.size,1,none⟩ v2) w.heap.size bo bm D F 0 L2 M2 vo2 vm2 v1 v2 (.slice none 0 0) VB2 [] e1 e2 []:=by
 have cs1:=h1.cs
 have c2:=h1.chgW hc hcs
 have c3:=h2.chgW c2 cs1
 have hb2:A0H w2 w.heap.size (.slice none 0 0) (.slice none 0 0) (.slice none 0 0) D.n:=(h1.chg.block _ hb.lt (hcs.far hb (.inr (.inr rfl)))).trans hb
 have hb3:A0H w3 w.heap.size (.slice none 0 0) (.slice none 0 0) (.slice none 0 0) D.n:=(h2.chg.block _ hb2.lt (cs1.far hb2 (.inr (.inr rfl)))).trans hb2
 refine ⟨hb3,?_⟩
 have hb4:=(hb3.s0 v1).s1 v2
 have k34:Chg (One w.heap.size) w3 ((w3.setCell ⟨w.heap.size,0,none⟩ v1).setCell ⟨w.heap.size,1,none⟩ v2):=((Chg.refl (One w.heap.size) w3).setAt rfl 0 _).setAt rfl 1 _
 generalize hW4:(w3.setCell ⟨w.heap.size,0,none⟩ v1).setCell ⟨w.heap.size,1,none⟩ v2=W4 at hb4 k34 ⊢
 have k34':∀ (k:Nat) (c:Array Value) (e:Nat),w3.heap[k]?=some (Obj.cells c e (0,0))→e≠95→W4.heap[k]?=w3.heap[k]?:=fun k c e hk he=>
  k34.block k (lt_of_block hk) (fun e2=>A0r hk hb3 he e2)
 have d1:A1l w3 v1 e1:=A0a h1.ent fun g hg=>by
  obtain ⟨c,hh⟩:=A0f h1.ent hg
  exact h2.chg.block g (lt_of_block hh) (cs1.far hh (.inl rfl))
 have sz:=hc.size
 have sz2:=h1.chg.size
 have hren:Ren L2 M2 D.dir e1:=by
  obtain ⟨o,q1,_⟩:=h2.pre
  obtain ⟨o2,q2,_⟩:=h2.prm
  have:=h1.ren
  rw [List.take_length] at this
  rw [q1,q2];exact this.mono
 refine ⟨?_,hb4,?_,?_,hren,?_,World.ownsRow_nil _ _ _ _,rfl,by simp,by simp,?_,?_,?_,Nat.le_refl _,?_,?_,by simp [Value.ownBlock],by simp⟩
 ·refine h2.cs.frame (fun k hk=>?_) (fun k hk=>?_)
  ·obtain ⟨c,e,q1,q2,q3,q4⟩:=h2.cs.elem2 (.inl hk)
   exact k34' _ _ _ q1 q4
  ·obtain ⟨c,e,q1,q2,q3,q4⟩:=h2.cs.elem2 (.inr hk)
   exact k34' _ _ _ q1 q4
 ·exact A0a d1 fun g hg=>by
   obtain ⟨c,hh⟩:=A0f d1 hg;exact k34' _ _ _ hh (by decide)
 ·exact A0a h2.ent fun g hg=>by
   obtain ⟨c,hh⟩:=A0f h2.ent hg;exact k34' _ _ _ hh (by decide)
 ·have:=h2.ren
  rw [List.take_length] at this;exact this
 ·obtain ⟨o,q1,q2,_⟩:=h1.pre
  obtain ⟨o2,q3,q4,_⟩:=h2.pre
  rw [q3,q1];simp;omega
 ·intro f hf
  obtain ⟨o,q1,_,q2⟩:=h1.pre
  obtain ⟨o2,q3,_,q4⟩:=h2.pre
  rw [q3,q1] at hf
  rcases List.mem_append.1 hf with hf | hf
  ·simp at hf;exact .inl (q2 f hf)
  ·exact .inr (.inl (q4 f hf))
 ·exact c3.trans k34 (fun x hx hlt=>by have:x=w.heap.size:=hx;omega)
 ·intro g hg;have:=h1.fresh g hg;omega
 ·intro g hg;have:=h2.fresh g hg;omega
end Go.Proofs.YtodcnkbblippnaaGreatDoor
namespace Go.Proofs.YtodcnkbblippnaaGreatDoor
open Go.RowKit
theorem A2X (r:Nat→Nat) (es:List Ent):(ren r es).length=es.length:=by simp [ren]
theorem B2i (r:Nat→Nat):ren r [] = []:=rfl
theorem A3O (r:Nat→Nat) (a b:List Ent):ren r (a ++ b)=ren r a ++ ren r b:=by simp [ren]
theorem B4c (r:Nat→Nat) (es:List Ent) (k:Nat):(ren r es).take k=ren r (es.take k):=by simp [ren,List.map_take]
theorem B4j (r:Nat→Nat) (es:List Ent) (k:Nat):(ren r es).drop k=ren r (es.drop k):=by simp [ren,List.map_drop]
theorem A7e (r:Nat→Nat) (es:List Ent) (name:ByteArray):A1x (ren r es) name=A1x es name:=by
 induction es with
 | nil=>rfl
 | cons e t ih=>simp only [ren,List.map_cons,A1x] at ih ⊢;rw [ih]
theorem A2Y (r:Nat→Nat) (es:List Ent) (name:ByteArray):A0u (ren r es) name=(A0u es name).map r:=by
 induction es with
 | nil=>rfl
 | cons e t ih=>
  simp only [ren,List.map_cons,A0u] at ih ⊢
  by_cases h:e.1=name
  ·simp [h]
  ·simp [h,ih]
theorem A5n (r:Nat→Nat) (es:List Ent) (k:Nat):(ren r es)[k]?=(es[k]?).map fun e=>(e.1,r e.2):=by simp [ren]
theorem B4a (r:Nat→Nat) (es:List Ent) (i:Nat) (name:ByteArray) (k:Nat):A4z (ren r es) i name k=ren r (A4z es i name k):=by
 induction k with
 | zero=>rfl
 | succ k ih=>
  simp only [A4z,ih,A5n,A3O]
  cases es[k]? with
  | none=>simp [B2i]
  | some e=>
   simp only [Option.map_some]
   by_cases h:k≠i∧e.1≠name
   ·rw [if_pos h,if_pos h];rfl
   ·rw [if_neg h,if_neg h,B2i]
theorem B0K (r:Nat→Nat) (es:List Ent) (k:Nat):A2G (ren r es) k=A2G es k:=by
 induction k with
 | zero=>rfl
 | succ k ih=>
  simp only [A2G,ih,A5n]
  cases es[k]? <;> rfl
theorem B1z (r:Nat→Nat) (es:List Ent):A7A (ren r es)=A7A es:=by unfold A7A;rw [A2X,B0K]
theorem A5S (r:Nat→Nat) (G F:Nat→FC) (es:List Ent) (h:∀ f,A1f f es→G (r f)=F f):A0J G (ren r es)=A0J F es:=by
 induction es with
 | nil=>rfl
 | cons e t ih=>
  have h1:=h e.2 ⟨e,by simp,rfl⟩
  have h2:=ih fun f hf=>h f (by obtain ⟨x,hx,he⟩:=hf;exact ⟨x,List.mem_cons_of_mem _ hx,he⟩)
  simp only [ren,List.map_cons,A0J] at h2 ⊢
  rw [h1,h2]
theorem B2r {es:List Ent} {name:ByteArray} {f:Nat} (h:A0u es name=some f):A1f f es:=by
 induction es with
 | nil=>cases h
 | cons e t ih=>
  simp only [A0u] at h
  by_cases he:e.1=name
  ·simp [he] at h;exact ⟨e,by simp,h⟩
  ·simp [he] at h
   obtain ⟨x,hx,hh⟩:=ih h
   exact ⟨x,List.mem_cons_of_mem _ hx,hh⟩
theorem ren_congr {r r':Nat→Nat} {es:List Ent} (h:∀ f,A1f f es→r' f=r f):ren r' es=ren r es:=by
 unfold ren
 exact List.map_congr_left fun e he=>by rw [h e.2 ⟨e,he,rfl⟩]
theorem DS.ren_congr {r r':Nat→Nat} {D:DS} (h:∀ f,D.ids f→r' f=r f):D.ren r'=D.ren r:=by
 unfold DS.ren
 rw [Go.Proofs.YtodcnkbblippnaaGreatDoor.ren_congr fun f hf=>h f (.inl hf),Go.Proofs.YtodcnkbblippnaaGreatDoor.ren_congr (es:=D.safe) fun f hf=>h f (.inr (.inl hf))]
 congr 1
 exact List.map_congr_left fun c hc=>Go.Proofs.YtodcnkbblippnaaGreatDoor.ren_congr fun f hf=>h f (.inr (.inr ⟨c,hc,hf⟩))
def A0R (w:World) (b:Nat) (D:DS) (F:Nat→FC) (Ft:Nat→Prop):Prop:=
 ∃ r G,Rep w b (D.ren r) G Ft∧(∀ f,D.ids f→G (r f)=F f)∧∀ f f',D.ids f→D.ids f'→r f=r f'→f=f'
def A1T (w:World) (Ft:Nat→Prop) (w':World) (b:Nat) (D':DS) (F':Nat→FC):Prop:=
 Chg Ft w w'∧∃ Ft',A0R w' b D' F' Ft'∧(∀ k,Ft' k→k<w'.heap.size)∧∀ k,Ft' k→Ft k∨w.heap.size≤k
theorem A0R.frame {w w':World} {b:Nat} {D:DS} {F:Nat→FC} {Ft:Nat→Prop} (h:A0R w b D F Ft) (hs:A9f Ft w w'):A0R w' b D F Ft:=by
 obtain ⟨r,G,h1,h2,h3⟩:=h
 exact ⟨r,G,h1.frame hs,h2,h3⟩
theorem A0R.blk {w:World} {b:Nat} {D:DS} {F:Nat→FC} {Ft:Nat→Prop} (h:A0R w b D F Ft):∃ vd vs vc,A0H w b vd vs vc D.n:=by
 obtain ⟨r,G,⟨vd,vs,vc,vals,VB,hr,_⟩,_⟩:=h
 exact ⟨vd,vs,vc,hr.blk⟩
theorem A0R.of {w:World} {b:Nat} {D:DS} {F:Nat→FC} {Ft:Nat→Prop} (h:Rep w b D F Ft):A0R w b D F Ft:=by
 refine ⟨id,F,?_,fun _ _=>rfl,fun _ _ _ _ h=>h⟩
 have:D.ren id=D:=by
  have e:∀ es,Go.Proofs.YtodcnkbblippnaaGreatDoor.ren id es=es:=fun es=>by simp [Go.Proofs.YtodcnkbblippnaaGreatDoor.ren]
  have e2:(Go.Proofs.YtodcnkbblippnaaGreatDoor.ren id)=id:=funext e
  unfold DS.ren;rw [e2];simp
 rw [this];exact h
theorem A1O.toU {w w':World} {Ft:Nat→Prop} {b:Nat} {D1 D':DS} {G1 F':Nat→FC} {r:Nat→Nat} (h:A1O w Ft w' b D1 G1) (hD:D1=D'.ren r) (hG:∀ f,D'.ids f→G1 (r f)=F' f) (hi:∀ f f',D'.ids f→D'.ids f'→r f=r f'→f=f'):A1T w Ft w' b D' F':=by
 obtain ⟨h1,Ft',h2,h3,h4⟩:=h
 subst hD
 exact ⟨h1,Ft',⟨r,G1,h2,hG,hi⟩,h3,h4⟩
theorem A1p (D:DS) (r:Nat→Nat):(D.ren r).dir.length=D.dir.length∧(D.ren r).safe.length=D.safe.length∧(D.ren r).changes.length=D.changes.length∧A6k (D.ren r).changes=A6k D.changes:=by
 refine ⟨A2X _ _,A2X _ _,by simp [DS.ren],?_⟩
 unfold A6k DS.ren
 rw [List.map_map]
 congr 1
 exact List.map_congr_left fun c _=>A2X r c
section
variable {w:World} {b:Nat} {D:DS} {F:Nat→FC} {Ft:Nat→Prop}
theorem B5Y (room:Int) (w:World):
 Calls Tryz.prog 21 #[.int .i64 room] w fun e w'=>e=.returned (.pointer (some ⟨w.heap.size,0,none⟩))∧A0R w' w.heap.size ⟨[],[],[],B1L room⟩ F (One w.heap.size)∧Chg (fun _=>False) w w'∧w'.heap.size=w.heap.size+1:=by
 refine (B4S room w).mono ?_
 rintro e w' ⟨h1,h2,h3,h4⟩
 refine ⟨h1,A0R.of ⟨_,_,_,[],fun _=>.slice none 0 0,⟨h2,World.ownsRow_nil _ _ _ _,World.ownsRow_nil _ _ _ _,World.ownsRow_nil _ _ _ _,by intro i hi;simp at hi,?_,?_⟩,?_⟩,h4,h3⟩
 ·rintro f (⟨e,he,_⟩ | ⟨e,he,_⟩ | ⟨c,hc,_⟩)
  ·cases he
  ·cases he
  ·cases hc
 ·intro f f' g _ _ hg;simp [Value.ownBlock] at hg
 ·intro k hk
  cases hk using A2M.elim with
  | blk=>rfl
  | dir e=>simp [Value.ownBlock] at e
  | safe e=>simp [Value.ownBlock] at e
  | chg e=>simp [Value.ownBlock] at e
  | che hm e=>cases hm
  | fil hf=>rcases hf with ⟨e,he,_⟩ | ⟨e,he,_⟩ | ⟨c,hc,_⟩ <;> contradiction
  | byt hf e=>simp [Value.ownBlock] at e
theorem B3w (h:A0R w b D F Ft):
 Calls Tryz.prog 86 #[.pointer (some ⟨b,0,none⟩)] w fun e w'=>e=.returned (.int .i64 (A1n D).1)∧A1T w Ft w' b (A1n D).2 F:=by
 obtain ⟨r,G,h1,h2,h3⟩:=h
 refine (A9d w b _ G Ft h1).mono ?_
 rintro e w' ⟨q1,q2⟩
 have hD:(A1n (D.ren r)).2=(A1n D).2.ren r:=by
  unfold A1n
  by_cases hb:(bg D.n).2.1=0
  ·have hb':(bg (D.ren r).n).2.1=0:=hb
   rw [if_pos hb,if_pos hb'];rfl
  ·have hb':¬ (bg (D.ren r).n).2.1=0:=hb
   rw [if_neg hb,if_neg hb'];rfl
 have hids:∀ f,(A1n D).2.ids f→D.ids f:=by
  intro f hf
  unfold A1n at hf
  simp only at hf
  split at hf
  ·rcases hf with hf | hf | ⟨c,hc,_⟩
   ·exact .inl hf
   ·exact .inl hf
   ·cases hc
  ·exact hf
 exact ⟨q1,q2.toU hD (fun f hf=>h2 f (hids f hf)) fun f f' hf hf'=>h3 f f' (hids f hf) (hids f' hf')⟩
theorem A0T {name:ByteArray} {f:Nat} (h:A0u D.dir name=some f):D.ids f:=.inl (B2r h)
theorem B5q (h:A0R w b D F Ft) (name:ByteArray):
 Calls Tryz.prog 85 #[.pointer (some ⟨b,0,none⟩),.string name] w fun e w'=>e=.returned (.int .i64 (A1X D F name).1)∧A1T w Ft w' b (A1X D F name).2.1 (A1X D F name).2.2:=by
 obtain ⟨r,G,h1,h2,h3⟩:=h
 refine (B3j w b _ G Ft h1 name).mono ?_
 rintro e w' ⟨q1,q2⟩
 have hl:A0u (D.ren r).dir name=(A0u D.dir name).map r:=A2Y r D.dir name
 cases hx:A0u D.dir name with
 | none=>
  rw [hx] at hl
  have e1:A1X (D.ren r) G name=(8,D.ren r,G):=by unfold A1X;rw [hl];rfl
  have e2:A1X D F name=(8,D,F):=by unfold A1X;rw [hx]
  rw [e1] at q1 q2;rw [e2]
  exact ⟨q1,q2.toU rfl h2 h3⟩
 | some f=>
  rw [hx] at hl
  have e1:A1X (D.ren r) G name=((bg D.n).2.1,{ D with n:=(bg D.n).2.2 }.ren r,if (bg D.n).2.1=0 then upd G (r f) ((G (r f)).1,(G (r f)).1.length) else G):=by unfold A1X;rw [hl];rfl
  have e2:A1X D F name=((bg D.n).2.1,{ D with n:=(bg D.n).2.2 },if (bg D.n).2.1=0 then upd F f ((F f).1,(F f).1.length) else F):=by unfold A1X;rw [hx]
  rw [e1] at q1 q2;rw [e2]
  refine ⟨q1,q2.toU rfl (fun f' hf'=>?_) h3⟩
  have hf:=A0T hx
  show (if (bg D.n).2.1=0 then upd G (r f) ((G (r f)).1,(G (r f)).1.length) else G) (r f')=(if (bg D.n).2.1=0 then upd F f ((F f).1,(F f).1.length) else F) f'
  by_cases hb:(bg D.n).2.1=0
  ·rw [if_pos hb,if_pos hb]
   unfold upd
   by_cases hff:f'=f
   ·subst hff;simp [h2 f' hf]
   ·have:r f'≠r f:=fun e=>hff (h3 f' f hf' hf e)
    simp only [this,hff,if_false];exact h2 f' hf'
  ·rw [if_neg hb,if_neg hb];exact h2 f' hf'
theorem B5X {r:Nat→Nat} {G:Nat→FC} (h2:∀ f,D.ids f→G (r f)=F f) (h3:∀ f f',D.ids f→D.ids f'→r f=r f'→f=f') {f:Nat} (hf:D.ids f) (c:FC):∀ f',D.ids f'→upd G (r f) c (r f')=upd F f c f':=fun f' hf'=>by
 unfold upd
 by_cases hff:f'=f
 ·subst hff;simp
 ·have:r f'≠r f:=fun e=>hff (h3 f' f hf' hf e)
  simp only [this,hff,if_false];exact h2 f' hf'
theorem A9N {r:Nat→Nat} {G:Nat→FC} (h2:∀ f,D.ids f→G (r f)=F f) (h3:∀ f f',D.ids f→D.ids f'→r f=r f'→f=f') {f:Nat} (hf:D.ids f) (data:ByteArray) (n0 e:Int):
 (A3d (D.ren r) G (r f) data n0 e).1=(A3d D F f data n0 e).1∧(A3d (D.ren r) G (r f) data n0 e).2.1=(A3d D F f data n0 e).2.1.ren r∧(∀ f',D.ids f'→(A3d (D.ren r) G (r f) data n0 e).2.2 (r f')=(A3d D F f data n0 e).2.2 f')∧(∀ f',(A3d D F f data n0 e).2.1.ids f'↔D.ids f'):=by
 have hleft:A5O (D.ren r) G=A5O D F:=by
  unfold A5O
  have:A0J G (D.ren r).dir=A0J F D.dir:=A5S r G F D.dir fun f hf=>h2 f (.inl hf)
  rw [this];rfl
 unfold A3d
 rw [hleft]
 by_cases hc:n0>A5O D F
 ·simp only [hc,if_true]
  rw [h2 f hf]
  refine ⟨by first | trivial | rfl,?_,fun f' hf'=>B5X h2 h3 hf _ f' hf',fun f'=>?_⟩
  ·by_cases he:e=0
   ·rw [if_pos he,if_pos he];rfl
   ·rw [if_neg he,if_neg he]
  ·by_cases he:e=0
   ·rw [if_pos he];exact Iff.rfl
   ·rw [if_neg he]
 ·simp only [hc,if_false]
  rw [h2 f hf]
  exact ⟨by first | trivial | rfl,by first | trivial | rfl,fun f' hf'=>B5X h2 h3 hf _ f' hf',fun _=>by first | trivial | exact Iff.rfl⟩
theorem B4Z (h:A0R w b D F Ft) (name data:ByteArray) (hroom : -4611686018427387904≤D.n.room∧D.n.room≤9223372036854775807)
 (hu:A0J F D.dir≤4611686018427387904) (hp:0≤D.n.part∧D.n.part≤9223372036854775807) (hl:∀ f,A0u D.dir name=some f→(F f).1.length+data.size≤70368744177664):
 Calls Tryz.prog 84 #[.pointer (some ⟨b,0,none⟩),.string name,.string data] w fun e w'=>e=.returned (.int .i64 (A0q D F name data).1)∧A1T w Ft w' b (A0q D F name data).2.1 (A0q D F name data).2.2:=by
 obtain ⟨r,G,h1,h2,h3⟩:=h
 have hlk:A0u (D.ren r).dir name=(A0u D.dir name).map r:=A2Y r D.dir name
 refine (B1e w b _ G Ft h1 name data hroom (by
  have:A0J G (D.ren r).dir=A0J F D.dir:=A5S r G F D.dir fun f hf=>h2 f (.inl hf)
  rw [this];exact hu) hp (fun f hf=>by
   rw [hlk] at hf
   cases hx:A0u D.dir name with
   | none=>rw [hx] at hf;cases hf
   | some f0=>
    rw [hx] at hf;simp at hf;subst hf
    rw [h2 f0 (A0T hx)];exact hl f0 hx)).mono ?_
 rintro e w' ⟨q1,q2⟩
 cases hx:A0u D.dir name with
 | none=>
  rw [hx] at hlk
  have e1:A0q (D.ren r) G name data=(8,D.ren r,G):=by unfold A0q;rw [hlk];rfl
  have e2:A0q D F name data=(8,D,F):=by unfold A0q;rw [hx]
  rw [e1] at q1 q2;rw [e2]
  exact ⟨q1,q2.toU rfl h2 h3⟩
 | some f=>
  rw [hx] at hlk
  have hf:=A0T hx
  have hfn:({ D with n:=(bg D.n).2.2 }:DS).ids f:=hf
  by_cases c1:(bg D.n).1=true
  ·have e1:A0q (D.ren r) G name data=A3d ({ D with n:=(bg D.n).2.2 }.ren r) G (r f) data data.size (bg D.n).2.1:=by
    unfold A0q;rw [hlk];show (if (bg D.n).1=true then _ else _)=_;rw [if_pos c1];rfl
   have e2:A0q D F name data=A3d { D with n:=(bg D.n).2.2 } F f data data.size (bg D.n).2.1:=by
    unfold A0q;rw [hx];show (if (bg D.n).1=true then _ else _)=_;rw [if_pos c1]
   rw [e1] at q1 q2;rw [e2]
   obtain ⟨k1,k2,k3,k4⟩:=A9N (D:={ D with n:=(bg D.n).2.2 }) (r:=r) (G:=G) (F:=F) h2 h3 hfn data data.size (bg D.n).2.1
   rw [k1] at q1
   exact ⟨q1,q2.toU k2 (fun f' hf'=>k3 f' ((k4 f').1 hf')) fun f' f'' hf' hf''=>h3 f' f'' ((k4 f').1 hf') ((k4 f'').1 hf'')⟩
  ·by_cases c2:(bg D.n).2.2.dead=false∧0<data.size
   ·have e1:A0q (D.ren r) G name data=A3d ({ D with n:=(bg D.n).2.2 }.ren r) G (r f) data ((bg D.n).2.2.part % data.size) (bg D.n).2.1:=by
     unfold A0q;rw [hlk];show (if (bg D.n).1=true then _ else if (bg D.n).2.2.dead=false∧0<data.size then _ else _)=_;rw [if_neg c1,if_pos c2];rfl
    have e2:A0q D F name data=A3d { D with n:=(bg D.n).2.2 } F f data ((bg D.n).2.2.part % data.size) (bg D.n).2.1:=by
     unfold A0q;rw [hx];show (if (bg D.n).1=true then _ else if (bg D.n).2.2.dead=false∧0<data.size then _ else _)=_;rw [if_neg c1,if_pos c2]
    rw [e1] at q1 q2;rw [e2]
    obtain ⟨k1,k2,k3,k4⟩:=A9N (D:={ D with n:=(bg D.n).2.2 }) (r:=r) (G:=G) (F:=F) h2 h3 hfn data ((bg D.n).2.2.part % data.size) (bg D.n).2.1
    rw [k1] at q1
    exact ⟨q1,q2.toU k2 (fun f' hf'=>k3 f' ((k4 f').1 hf')) fun f' f'' hf' hf''=>h3 f' f'' ((k4 f').1 hf') ((k4 f'').1 hf'')⟩
   ·have e1:A0q (D.ren r) G name data=((bg D.n).2.1,{ D with n:=(bg D.n).2.2 }.ren r,G):=by
     unfold A0q;rw [hlk];show (if (bg D.n).1=true then _ else if (bg D.n).2.2.dead=false∧0<data.size then _ else _)=_;rw [if_neg c1,if_neg c2];rfl
    have e2:A0q D F name data=((bg D.n).2.1,{ D with n:=(bg D.n).2.2 },F):=by
     unfold A0q;rw [hx];show (if (bg D.n).1=true then _ else if (bg D.n).2.2.dead=false∧0<data.size then _ else _)=_;rw [if_neg c1,if_neg c2]
    rw [e1] at q1 q2;rw [e2]
    exact ⟨q1,q2.toU rfl h2 h3⟩
theorem A3I {es:List Ent} {n:DN} (hes:∀ f,A1f f es→D.ids f) (f:Nat) (hf:({ D with dir:=es,changes:=D.changes ++ [es],n:=n }:DS).ids f):D.ids f:=by
 rcases hf with hf | hf | ⟨c,hc,hf⟩
 ·exact hes f hf
 ·exact .inr (.inl hf)
 ·rcases List.mem_append.1 hc with hc | hc
  ·exact .inr (.inr ⟨c,hc,hf⟩)
  ·simp at hc;subst hc;exact hes f hf
theorem A7c (r:Nat→Nat) (es:List Ent) (n:DN):({ D.ren r with dir:=ren r es,changes:=(D.ren r).changes ++ [ren r es],n:=n }:DS)=({ D with dir:=es,changes:=D.changes ++ [es],n:=n }:DS).ren r:=by
 simp [DS.ren]
theorem B4X (h:A0R w b D F Ft) (name:ByteArray) (hs:D.dir.length<1099511627776∧D.changes.length<1099511627776):
 Calls Tryz.prog 193 #[.pointer (some ⟨b,0,none⟩),.string name] w fun e w'=>e=.returned (.int .i64 (A1a D name).1)∧A1T w Ft w' b (A1a D name).2 F:=by
 obtain ⟨r,G,h1,h2,h3⟩:=h
 obtain ⟨l1,l2,l3,l4⟩:=A1p D r
 refine (B0u w b _ G Ft h1 name (by rw [l1,l3];exact hs)).mono ?_
 rintro e w' ⟨q1,q2⟩
 have hfi:A1x (D.ren r).dir name=A1x D.dir name:=A7e r D.dir name
 by_cases c1:A1x D.dir name<0
 ·have e1:A1a (D.ren r) name=(8,D.ren r):=by unfold A1a;rw [hfi,if_pos c1]
  have e2:A1a D name=(8,D):=by unfold A1a;rw [if_pos c1]
  rw [e1] at q1 q2;rw [e2]
  exact ⟨q1,q2.toU rfl h2 h3⟩
 ·by_cases c2:(bg D.n).1=true
  ·have e2:A1a D name=((bg D.n).2.1,{ D with dir:=D.dir.take (A1x D.dir name).toNat ++ D.dir.drop ((A1x D.dir name).toNat+1),changes:=D.changes ++ [D.dir.take (A1x D.dir name).toNat ++ D.dir.drop ((A1x D.dir name).toNat+1)],n:=(bg D.n).2.2 }):=by
    unfold A1a;rw [if_neg c1];simp only [c2,if_true]
   have e1:A1a (D.ren r) name=((bg D.n).2.1,{ D with dir:=D.dir.take (A1x D.dir name).toNat ++ D.dir.drop ((A1x D.dir name).toNat+1),changes:=D.changes ++ [D.dir.take (A1x D.dir name).toNat ++ D.dir.drop ((A1x D.dir name).toNat+1)],n:=(bg D.n).2.2 }.ren r):=by
    have c2':(bg (D.ren r).n).1=true:=c2
    unfold A1a;rw [hfi,if_neg c1];simp only [c2',if_true]
    rw [← A7c,A3O,← B4c,← B4j];rfl
   rw [e1] at q1 q2;rw [e2]
   have hin:∀ f,A1f f (D.dir.take (A1x D.dir name).toNat ++ D.dir.drop ((A1x D.dir name).toNat+1))→D.ids f:=by
    rintro f ⟨x,hx,he⟩
    rcases List.mem_append.1 hx with hx | hx
    ·exact .inl ⟨x,List.mem_of_mem_take hx,he⟩
    ·exact .inl ⟨x,List.mem_of_mem_drop hx,he⟩
   exact ⟨q1,q2.toU rfl (fun f hf=>h2 f (A3I hin f hf)) fun f f' hf hf'=>h3 f f' (A3I hin f hf) (A3I hin f' hf')⟩
  ·have e2:A1a D name=((bg D.n).2.1,{ D with n:=(bg D.n).2.2 }):=by unfold A1a;rw [if_neg c1];simp only [c2];rfl
   have e1:A1a (D.ren r) name=((bg D.n).2.1,{ D with n:=(bg D.n).2.2 }.ren r):=by
    have c2':¬ (bg (D.ren r).n).1=true:=c2
    unfold A1a;rw [hfi,if_neg c1];simp only [c2'];rfl
   rw [e1] at q1 q2;rw [e2]
   exact ⟨q1,q2.toU rfl h2 h3⟩
theorem B5k (h:A0R w b D F Ft) (old name:ByteArray) (hs:D.dir.length<1099511627776∧D.changes.length<1099511627776):
 Calls Tryz.prog 242 #[.pointer (some ⟨b,0,none⟩),.string old,.string name] w fun e w'=>e=.returned (.int .i64 (A0Q D old name).1)∧A1T w Ft w' b (A0Q D old name).2 F:=by
 obtain ⟨r,G,h1,h2,h3⟩:=h
 obtain ⟨l1,l2,l3,l4⟩:=A1p D r
 refine (B0C w b _ G Ft h1 old name (by rw [l1,l3];exact hs)).mono ?_
 rintro e w' ⟨q1,q2⟩
 have hlk:A0u (D.ren r).dir old=(A0u D.dir old).map r:=A2Y r D.dir old
 cases hx:A0u D.dir old with
 | none=>
  rw [hx] at hlk
  have e1:A0Q (D.ren r) old name=(8,D.ren r):=by unfold A0Q;rw [hlk];rfl
  have e2:A0Q D old name=(8,D):=by unfold A0Q;rw [hx]
  rw [e1] at q1 q2;rw [e2]
  exact ⟨q1,q2.toU rfl h2 h3⟩
 | some f=>
  rw [hx] at hlk
  by_cases c1:name=ByteArray.empty
  ·have e1:A0Q (D.ren r) old name=(8,D.ren r):=by unfold A0Q;rw [hlk];simp only [Option.map_some];rw [if_pos c1]
   have e2:A0Q D old name=(8,D):=by unfold A0Q;rw [hx];simp only;rw [if_pos c1]
   rw [e1] at q1 q2;rw [e2]
   exact ⟨q1,q2.toU rfl h2 h3⟩
  ·by_cases c2:(bg D.n).1=true
   ·have e2:A0Q D old name=((bg D.n).2.1,{ D with dir:=A4z D.dir (A1x D.dir old).toNat name D.dir.length ++ [(name,f)],changes:=D.changes ++ [A4z D.dir (A1x D.dir old).toNat name D.dir.length ++ [(name,f)]],n:=(bg D.n).2.2 }):=by
     unfold A0Q;rw [hx];simp only;rw [if_neg c1];simp only [c2,if_true]
    have e1:A0Q (D.ren r) old name=((bg D.n).2.1,{ D with dir:=A4z D.dir (A1x D.dir old).toNat name D.dir.length ++ [(name,f)],changes:=D.changes ++ [A4z D.dir (A1x D.dir old).toNat name D.dir.length ++ [(name,f)]],n:=(bg D.n).2.2 }.ren r):=by
     have c2':(bg (D.ren r).n).1=true:=c2
     have hfi:A1x (D.ren r).dir old=A1x D.dir old:=A7e r D.dir old
     unfold A0Q;rw [hlk];simp only [Option.map_some];rw [if_neg c1];simp only [c2',if_true]
     rw [← A7c,A3O,← B4a,hfi,l1];rfl
    rw [e1] at q1 q2;rw [e2]
    have hin:∀ f',A1f f' (A4z D.dir (A1x D.dir old).toNat name D.dir.length ++ [(name,f)])→D.ids f':=by
     rintro f' ⟨x,hx',he⟩
     rcases List.mem_append.1 hx' with hx' | hx'
     ·exact .inl ⟨x,A7i _ _ _ _ x hx',he⟩
     ·simp at hx';subst hx';cases he;exact A0T hx
    exact ⟨q1,q2.toU rfl (fun f hf=>h2 f (A3I hin f hf)) fun f f' hf hf'=>h3 f f' (A3I hin f hf) (A3I hin f' hf')⟩
   ·have e2:A0Q D old name=((bg D.n).2.1,{ D with n:=(bg D.n).2.2 }):=by unfold A0Q;rw [hx];simp only;rw [if_neg c1];simp only [c2];rfl
    have e1:A0Q (D.ren r) old name=((bg D.n).2.1,{ D with n:=(bg D.n).2.2 }.ren r):=by
     have c2':¬ (bg (D.ren r).n).1=true:=c2
     unfold A0Q;rw [hlk];simp only [Option.map_some];rw [if_neg c1];simp only [c2'];rfl
    rw [e1] at q1 q2;rw [e2]
    exact ⟨q1,q2.toU rfl h2 h3⟩
theorem B4Y (h:A0R w b D F Ft) (name:ByteArray) (k:Nat) (hk:¬ D.ids k) (hs:D.dir.length<1099511627776∧D.changes.length<1099511627776):
 Calls Tryz.prog 83 #[.pointer (some ⟨b,0,none⟩),.string name] w fun e w'=>e=.returned (.int .i64 (A0I D name k).1)∧A1T w Ft w' b (A0I D name k).2 (upd F k ([],0)):=by
 obtain ⟨r,G,h1,h2,h3⟩:=h
 obtain ⟨l1,l2,l3,l4⟩:=A1p D r
 have hlt:∀ f,D.ids f→r f<w.heap.size:=by
  obtain ⟨vd,vs,vc,vals,VB,hr,_⟩:=h1
  intro f hf
  refine hr.lt (.fil ?_)
  rcases hf with ⟨x,hx,rfl⟩ | ⟨x,hx,rfl⟩ | ⟨c,hc,x,hx,rfl⟩
  ·exact .inl ⟨_,List.mem_map_of_mem hx,rfl⟩
  ·exact .inr (.inl ⟨_,List.mem_map_of_mem hx,rfl⟩)
  ·exact .inr (.inr ⟨_,List.mem_map_of_mem hc,_,List.mem_map_of_mem hx,rfl⟩)
 refine (B1q w b _ G Ft h1 name (by rw [l1,l3];exact hs)).mono ?_
 rintro e w' ⟨f0,q0,q1,q2⟩
 have hfi:A1x (D.ren r).dir name=A1x D.dir name:=A7e r D.dir name
 have hG:∀ f,D.ids f→upd G f0 ([],0) (r f)=upd F k ([],0) f:=fun f hf=>by
  unfold upd
  have n1:r f≠f0:=by have:=hlt f hf;omega
  have n2:f≠k:=fun e=>hk (e ▸ hf)
  simp only [n1,n2,if_false];exact h2 f hf
 by_cases c1:name=ByteArray.empty∨A1x D.dir name≥0
 ·have e1:A0I (D.ren r) name f0=(8,D.ren r):=by unfold A0I;rw [hfi,if_pos c1]
  have e2:A0I D name k=(8,D):=by unfold A0I;rw [if_pos c1]
  rw [e1] at q1 q2;rw [e2]
  exact ⟨q1,q2.toU rfl hG h3⟩
 ·by_cases c2:(bg D.n).1=true
  ·have e2:A0I D name k=((bg D.n).2.1,{ D with dir:=D.dir ++ [(name,k)],changes:=D.changes ++ [D.dir ++ [(name,k)]],n:=(bg D.n).2.2 }):=by
    unfold A0I;rw [if_neg c1];simp only [c2,if_true]
   have hr':∀ f,D.ids f→(fun f=>if f=k then f0 else r f) f=r f:=fun f hf=>by
    have n2:f≠k:=fun e=>hk (e ▸ hf)
    simp only [n2,if_false]
   have hDr:D.ren (fun f=>if f=k then f0 else r f)=D.ren r:=DS.ren_congr hr'
   have e1:A0I (D.ren r) name f0=((bg D.n).2.1,{ D with dir:=D.dir ++ [(name,k)],changes:=D.changes ++ [D.dir ++ [(name,k)]],n:=(bg D.n).2.2 }.ren (fun f=>if f=k then f0 else r f)):=by
    have c2':(bg (D.ren r).n).1=true:=c2
    unfold A0I;rw [hfi,if_neg c1];simp only [c2',if_true]
    rw [← A7c,hDr,A3O]
    have e3:ren (fun f=>if f=k then f0 else r f) D.dir=(D.ren r).dir:=by
     have:=congrArg DS.dir hDr;exact this
    rw [e3]
    have e4:ren (fun f=>if f=k then f0 else r f) [(name,k)] = [(name,f0)]:=by simp [ren]
    rw [e4];rfl
   rw [e1] at q1 q2;rw [e2]
   have hids:∀ f,({ D with dir:=D.dir ++ [(name,k)],changes:=D.changes ++ [D.dir ++ [(name,k)]],n:=(bg D.n).2.2 }:DS).ids f→D.ids f∨f=k:=by
    have key:∀ f,A1f f (D.dir ++ [(name,k)])→D.ids f∨f=k:=by
     rintro f ⟨x,hx,rfl⟩
     rcases List.mem_append.1 hx with hx | hx
     ·exact .inl (.inl ⟨x,hx,rfl⟩)
     ·simp at hx;subst hx;exact .inr rfl
    rintro f (hf | hf | ⟨c,hc,hf⟩)
    ·exact key f hf
    ·exact .inl (.inr (.inl hf))
    ·rcases List.mem_append.1 hc with hc | hc
     ·exact .inl (.inr (.inr ⟨c,hc,hf⟩))
     ·simp at hc;subst hc;exact key f hf
   refine ⟨q1,q2.toU rfl (fun f hf=>?_) fun f f' hf hf' e=>?_⟩
   ·rcases hids f hf with h | h
    ·simp only [hr' f h];exact hG f h
    ·subst h;simp [upd]
   ·rcases hids f hf with h | h <;> rcases hids f' hf' with h' | h'
    ·simp only [hr' f h,hr' f' h'] at e;exact h3 f f' h h' e
    ·subst h';simp only [hr' f h,if_true] at e;have:=hlt f h;omega
    ·subst h;simp only [hr' f' h',if_true] at e;have:=hlt f' h';omega
    ·rw [h,h']
  ·have e2:A0I D name k=((bg D.n).2.1,{ D with n:=(bg D.n).2.2 }):=by unfold A0I;rw [if_neg c1];simp only [c2];rfl
   have e1:A0I (D.ren r) name f0=((bg D.n).2.1,{ D with n:=(bg D.n).2.2 }.ren r):=by
    have c2':¬ (bg (D.ren r).n).1=true:=c2
    unfold A0I;rw [hfi,if_neg c1];simp only [c2'];rfl
   rw [e1] at q1 q2;rw [e2]
   exact ⟨q1,q2.toU rfl hG h3⟩
theorem B5O (h:A0R w b D F Ft) (name:ByteArray) (p n:Int):
 Calls Tryz.prog 82 #[.pointer (some ⟨b,0,none⟩),.string name,.int .i64 p,.int .i64 n] w fun e w'=>e=.returned (.tuple #[.string ⟨(A3v D F name p n).1.toArray⟩,.int .i64 (A3v D F name p n).2])∧w=w':=by
 obtain ⟨r,G,h1,h2,h3⟩:=h
 have hlk:A0u (D.ren r).dir name=(A0u D.dir name).map r:=A2Y r D.dir name
 have e1:A3v (D.ren r) G name p n=A3v D F name p n:=by
  unfold A3v
  rw [hlk]
  cases hx:A0u D.dir name with
  | none=>rfl
  | some f=>simp only [Option.map_some,h2 f (A0T hx)]
 have:=B3n w b _ G Ft h1 name p n
 rwa [e1] at this
theorem B5d (h:A0R w b D F Ft) (name:ByteArray):
 Calls Tryz.prog 81 #[.pointer (some ⟨b,0,none⟩),.string name] w fun e w'=>e=.returned (.tuple #[.int .i64 (A1o D F name).1,.int .i64 (A1o D F name).2])∧w=w':=by
 obtain ⟨r,G,h1,h2,h3⟩:=h
 have hlk:A0u (D.ren r).dir name=(A0u D.dir name).map r:=A2Y r D.dir name
 have e1:A1o (D.ren r) G name=A1o D F name:=by
  unfold A1o
  rw [hlk]
  cases hx:A0u D.dir name with
  | none=>rfl
  | some f=>simp only [Option.map_some,h2 f (A0T hx)]
 obtain ⟨vd,vs,vc,vals,VB,hr,_⟩:=h1
 have:=B3O w b _ G vd vs vc vals VB hr name
 rwa [e1] at this
theorem B5U (h:A0R w b D F Ft) (hs:D.dir.length<1099511627776):
 Calls Tryz.prog 76 #[.pointer (some ⟨b,0,none⟩)] w fun e w'=>∃ v,e=.returned v∧w'.ownsRow 0 9 1 v D.dir.length (A1J (A7A D.dir))∧Chg (fun _=>False) w w'∧(∀ g,v.ownBlock=some g→w.heap.size≤g):=by
 obtain ⟨r,G,h1,h2,h3⟩:=h
 obtain ⟨l1,l2,l3,l4⟩:=A1p D r
 have:=B3F w b _ G Ft h1 (by rw [l1];exact hs)
 have e1:A7A (D.ren r).dir=A7A D.dir:=B1z r D.dir
 rwa [l1,e1] at this
theorem B5M (h:A0R w b D F Ft) (hu:A0J F D.dir≤4611686018427387904):
 Calls Tryz.prog 90 #[.pointer (some ⟨b,0,none⟩)] w fun e w'=>e=.returned (.int .i64 (A0J F D.dir))∧Chg (fun _=>False) w w':=by
 obtain ⟨r,G,h1,h2,h3⟩:=h
 have e1:A0J G (D.ren r).dir=A0J F D.dir:=A5S r G F D.dir fun f hf=>h2 f (.inl hf)
 have:=A3S w b _ G Ft h1 (by rw [e1];exact hu)
 rwa [e1] at this
theorem B5z (h:A0R w b D F Ft):Calls Tryz.prog 36 #[.pointer (some ⟨b,0,none⟩)] w fun e w'=>e=.returned (.bool D.n.dead)∧w=w':=by
 obtain ⟨vd,vs,vc,h⟩:=h.blk
 exact B3s w b vd vs vc D.n h
theorem A7t (h:A0R w b D F Ft):Calls Tryz.prog 50 #[.pointer (some ⟨b,0,none⟩)] w fun e w'=>e=.returned (.int .i64 D.n.refused)∧w=w':=by
 obtain ⟨vd,vs,vc,h⟩:=h.blk
 exact A8W w b vd vs vc D.n h
theorem B5u (h:A0R w b D F Ft):Calls Tryz.prog 88 #[.pointer (some ⟨b,0,none⟩)] w fun e w'=>e=.returned (.int .i64 D.n.fulls)∧w=w':=by
 obtain ⟨vd,vs,vc,h⟩:=h.blk
 exact B1u w b vd vs vc D.n h
theorem B6c (h:A0R w b D F Ft) (c:Int):Calls Tryz.prog 35 #[.pointer (some ⟨b,0,none⟩),.int .i64 c] w fun e w'=>e=.returned (.tuple #[])∧A1T w Ft w' b { D with n:={ D.n with cut:=if c>0 then wrap64 (D.n.calls+c) else 0 } } F:=by
 obtain ⟨r,G,⟨vd,vs,vc,vals,VB,hr,hf⟩,h2,h3⟩:=h
 refine (B5h w b vd vs vc D.n c hr.blk).mono ?_
 rintro e w' ⟨q1,q2,q3⟩
 exact ⟨q1,(hr.afterN hf q2 q3).toU (D':={ D with n:={ D.n with cut:=if c>0 then wrap64 (D.n.calls+c) else 0 } }) rfl h2 h3⟩
theorem B5S (h:A0R w b D F Ft) (c p:Int):Calls Tryz.prog 78 #[.pointer (some ⟨b,0,none⟩),.int .i64 c,.int .i64 p] w fun e w'=>e=.returned (.tuple #[])∧A1T w Ft w' b { D with n:=A5x D.n c p } F:=by
 obtain ⟨r,G,⟨vd,vs,vc,vals,VB,hr,hf⟩,h2,h3⟩:=h
 refine (B4k w b vd vs vc D.n c p hr.blk).mono ?_
 rintro e w' ⟨q1,q2,q3⟩
 exact ⟨q1,(hr.afterN hf q2 q3).toU (D':={ D with n:=A5x D.n c p }) rfl h2 h3⟩
end
end Go.Proofs.YtodcnkbblippnaaGreatDoor
namespace Go.Proofs.YtodcnkbblippnaaGreatDoor
open Go.RowKit
def Up (N:Nat):Nat→Prop:=fun k=>N≤k
end Go.Proofs.YtodcnkbblippnaaGreatDoor
