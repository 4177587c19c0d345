/-
  The statement WritesUptoCardSaid is proved: the law Writes answers true for every setting and every script of at most 1048576 bytes; there is no other condition.
  Part 6 of 33.
-/
import Derived.Test.YtodcnkbblippnaaGreatDoorPart05
import Derived.Test.YtodcnkbblippnaaGreatDoorPart02
import Derived.Deep.RegionHeld3
import Derived.Deep.RegionLaw
import Derived.BigQuiet
import Derived.LaidEql
import Derived.Deep.QuietTactic
import Derived.StillTailTactics
import Derived.StillTactics
namespace Go.Proofs.YtodcnkbblippnaaGreatDoor
open Go.RowKit
attribute [local go_sem ↓] Go.wp_at_zero Go.wp_at_succ
theorem A5q (l:List UInt8):∀ u∈A0K l,u.oneCell'=true:=by
 intro u hu
 obtain ⟨x,_,rfl⟩:=List.mem_map.1 hu
 rfl
def A1c (l:List Nat):List Value:=l.map fun f=>.pointer (some ⟨f,0,none⟩)
structure CS (N:Nat) (w:World) (bo bm:Nat) (F:Nat→FC) (old made:List Nat) (vo vm:Value) (VB:Nat→Value):Prop where
 ob:w.heap[bo]?=some (.cells #[vo] 138 (0,0))
 mb:w.heap[bm]?=some (.cells #[vm] 138 (0,0))
 ne:bo≠bm
 ol:w.ownsRow 0 123 1 vo old.length (A1c old)
 ml:w.ownsRow 0 123 1 vm old.length (A1c made)
 vne:∀ g,vo.ownBlock=some g→vm.ownBlock=some g→False
 fil:∀ i (h:i<made.length) (h':i<old.length),A2Z w (made[i]'h) (VB (made[i]'h)) (F (old[i]'h')).2∧BSl w (VB (made[i]'h)) (F (old[i]'h')).1
 ofil:∀ f∈old,f<N∧∃ c,w.heap[f]?=some (.cells c 129 (0,0))
 odup:old.Nodup
 dup:made.Nodup
 inj:∀ m m' g,m∈made→m'∈made→(VB m).ownBlock=some g→(VB m').ownBlock=some g→m=m'
 nobo:N≤bo
 nobm:N≤bm
 novo:∀ g,vo.ownBlock=some g→N≤g
 novm:∀ g,vm.ownBlock=some g→N≤g
 nomade:∀ m∈made,N≤m
 nobyt:∀ m∈made,∀ g,(VB m).ownBlock=some g→N≤g
def CF (bo bm:Nat) (vo vm:Value):Nat→Prop:=fun k=>k=bo∨k=bm∨vo.ownBlock=some k∨vm.ownBlock=some k
def Ren (old made:List Nat) (es es':List Ent):Prop:=
 es'.length=es.length∧∀ k (h:k<es.length) (h':k<es'.length),(es'[k]'h').1=(es[k]'h).1∧∃ i:Nat,old[i]?=some (es[k]'h).2∧made[i]?=some (es'[k]'h').2
def CB (bo bm:Nat) (vo vm:Value) (made:List Nat) (VB:Nat→Value):Nat→Prop:=fun k=>
 k=bo∨k=bm∨vo.ownBlock=some k∨vm.ownBlock=some k∨k∈made∨∃ m∈made,(VB m).ownBlock=some k
theorem Ren.mono {old made old' made':List Nat} {es es':List Ent} (h:Ren old made es es'):Ren (old ++ old') (made ++ made') es es':=by
 refine ⟨h.1,fun k hk hk'=>⟨(h.2 k hk hk').1,?_⟩⟩
 obtain ⟨i,h1,h2⟩:=(h.2 k hk hk').2
 refine ⟨i,?_,?_⟩
 ·rw [List.getElem?_append_left (List.getElem?_eq_some_iff.1 h1).1];exact h1
 ·rw [List.getElem?_append_left (List.getElem?_eq_some_iff.1 h2).1];exact h2
theorem Ren.push {old made:List Nat} {es es':List Ent} (h:Ren old made es es') {i f m:Nat} {n:ByteArray} (h1:old[i]?=some f) (h2:made[i]?=some m):Ren old made (es ++ [(n,f)]) (es' ++ [(n,m)]):=by
 refine ⟨by simp [h.1],fun k hk hk'=>?_⟩
 by_cases hl:k<es.length
 ·have hl':k<es'.length:=by have:=h.1;omega
  rw [List.getElem_append_left hl,List.getElem_append_left hl']
  exact h.2 k hl hl'
 ·have e1:k=es.length:=by simp at hk;omega
  have e2:k=es'.length:=by have:=h.1;omega
  subst e1
  refine ⟨?_,i,?_⟩
  ·rw [List.getElem_append_right (by omega),List.getElem_append_right (by omega)];simp
  ·rw [List.getElem_append_right (by omega),List.getElem_append_right (by omega)];simp [h1,h2]
theorem CS.made_len {N:Nat} {w:World} {bo bm:Nat} {F:Nat→FC} {old made:List Nat} {vo vm:Value} {VB:Nat→Value} (h:CS N w bo bm F old made vo vm VB):made.length=old.length:=by
 have:=h.ml.1;simpa [A1c] using this
theorem CS.lt {N:Nat} {w:World} {bo bm:Nat} {F:Nat→FC} {old made:List Nat} {vo vm:Value} {VB:Nat→Value} (h:CS N w bo bm F old made vo vm VB) {k:Nat} (hk:CB bo bm vo vm made VB k):k<w.heap.size:=by
 have hl:=h.made_len
 rcases hk with rfl | rfl | hk | hk | hk | ⟨m,hm,hk⟩
 ·exact lt_of_block h.ob
 ·exact lt_of_block h.mb
 ·exact A0c h.ol hk
 ·exact A0c h.ml hk
 ·obtain ⟨i,hi,rfl⟩:=List.getElem_of_mem hk
  exact lt_of_block (h.fil i hi (by omega)).1
 ·obtain ⟨i,hi,rfl⟩:=List.getElem_of_mem hm
  exact A0c (h.fil i hi (by omega)).2 hk
theorem CS.frame {N:Nat} {w w':World} {bo bm:Nat} {F:Nat→FC} {old made:List Nat} {vo vm:Value} {VB:Nat→Value} (h:CS N w bo bm F old made vo vm VB) (hs:A9f (CB bo bm vo vm made VB) w w') (ho:A9f (fun k=>k∈old) w w'):CS N w' bo bm F old made vo vm VB:=by
 refine ⟨(hs bo (.inl rfl)).trans h.ob,(hs bm (.inr (.inl rfl))).trans h.mb,h.ne,A0a h.ol fun g hg=>hs g (.inr (.inr (.inl hg))),A0a h.ml fun g hg=>hs g (.inr (.inr (.inr (.inl hg)))),h.vne,fun i hi hi'=>?_,
  fun f hf=>⟨(h.ofil f hf).1,?_⟩,h.odup,h.dup,h.inj,h.nobo,h.nobm,h.novo,h.novm,h.nomade,h.nobyt⟩
 ·obtain ⟨h1,h2⟩:=h.fil i hi hi'
  refine ⟨?_,A0a h2 fun g hg=>hs g (.inr (.inr (.inr (.inr (.inr ⟨_,List.getElem_mem hi,hg⟩)))))⟩
  unfold A2Z at h1 ⊢;rw [hs _ (.inr (.inr (.inr (.inr (.inl (List.getElem_mem hi))))))];exact h1
 ·obtain ⟨c,hc⟩:=(h.ofil f hf).2
  exact ⟨c,(ho f hf).trans hc⟩
theorem CS.chg {N:Nat} {w w':World} {bo bm:Nat} {F:Nat→FC} {old made:List Nat} {vo vm:Value} {VB:Nat→Value} {S:Nat→Prop} (h:CS N w bo bm F old made vo vm VB) (hc:Chg S w w') (hS:∀ k,CB bo bm vo vm made VB k→¬ S k) (hO:∀ k,k<N→¬ S k):CS N w' bo bm F old made vo vm VB:=
 h.frame (fun k hk=>hc.block k (h.lt hk) (hS k hk)) fun k hk=>hc.block k (lt_of_block (h.ofil k hk).2.choose_spec) (hO k (h.ofil k hk).1)
theorem Tryz.infoFile:(Tryz.prog.info? 129).map (fun i=>(i.zero,i.size,i.bytes))=some (some (.agg #[.slice none 0 0,.int .i64 0]),2,32):=by kernel_rfl
theorem Tryz.infoPtr:(Tryz.prog.info? 123).map (fun i=>(i.zero,i.size,i.bytes))=some (some (.pointer none),1,8):=by kernel_rfl
theorem B1Y (W:World) (d x f:Nat) (cx cf:Array Value) (hx:W.heap[x]?=some (.cells cx 129 (0,0))) (hf:W.heap[f]?=some (.cells cf 129 (0,0))) (h:x≠f):
 (Op.equalIn (d+1) 123 (.pointer (some ⟨x,0,none⟩)) (.pointer (some ⟨f,0,none⟩))).run Tryz.prog W=.ok false W:=by
 obtain ⟨j0,hj,hy0,hy1,hy2⟩:=info_parts Tryz.infoFile
 have:=run_sameAddr_other (P:=Tryz.prog) W (a:=⟨x,0,none⟩) (b:=⟨f,0,none⟩) (by simp) hx hf
 simp [Op.equalIn,run_underlying Tryz.underlying123,typeInfo,sizeOf,hj,hy1,this]
theorem B3I (W:World) (d x:Nat):(Op.equalIn (d+1) 123 (.pointer (some ⟨x,0,none⟩)) (.pointer (some ⟨x,0,none⟩))).run Tryz.prog W=.ok true W:=by
 obtain ⟨j0,hj,_,_,_⟩:=info_parts Tryz.infoFile
 simp [Op.equalIn,run_underlying Tryz.underlying123,typeInfo,sizeOf,hj,run_sameAddr_same]
theorem B5b (W:World) (x f:Nat) (cx cf:Array Value) (hx:W.heap[x]?=some (.cells cx 129 (0,0))) (hf:W.heap[f]?=some (.cells cf 129 (0,0))) (h:x≠f):
 (binOp .neq 123 (.pointer (some ⟨x,0,none⟩)) (.pointer (some ⟨f,0,none⟩))).run Tryz.prog W=.ok (.bool true) W:=by
 simp only [binOp]
 simp [Op.equal,Op.maxDepth,B1Y W 9999 x f cx cf hx hf h]
theorem A7U (W:World) (x:Nat):(binOp .neq 123 (.pointer (some ⟨x,0,none⟩)) (.pointer (some ⟨x,0,none⟩))).run Tryz.prog W=.ok (.bool false) W:=by
 simp only [binOp]
 simp [Op.equal,Op.maxDepth,B3I W 9999 x]
structure OR1 (N:Nat) (w:World) (bo bm:Nat) (F:Nat→FC) (old made:List Nat) (vo vm:Value) (VB:Nat→Value) (es:List Ent) (i cn:Nat) (ov:Value) (wr:World) (L M:List Nat) (vo' vm':Value) (VB':Nat→Value) (es':List Ent):Prop where
 cs:CS N wr bo bm F L M vo' vm' VB'
 ent:A1l wr ov es'
 ren:Ren L M (es.take i) es'
 pre:∃ old',L=old ++ old'∧old'.length≤cn∧∀ f∈old',A1f f es
 prm:∃ made',M=made ++ made'∧∀ m∈made',w.heap.size≤m
 fresh:∀ g,ov.ownBlock=some g→w.heap.size≤g
 chg:Chg (CF bo bm vo vm) w wr
 bvo:∀ g,vo'.ownBlock=some g→vo.ownBlock=some g∨w.heap.size≤g
 bvm:∀ g,vm'.ownBlock=some g→vm.ownBlock=some g∨w.heap.size≤g
 bvb:∀ m∈made,VB' m=VB m
def OR (N:Nat) (w:World) (bo bm:Nat) (F:Nat→FC) (old made:List Nat) (vo vm:Value) (VB:Nat→Value) (es:List Ent) (i:Nat) (ov:Value) (wr:World):Prop:=
 ∃ L M vo' vm' VB' es',OR1 N w bo bm F old made vo vm VB es i i ov wr L M vo' vm' VB' es'
theorem CS.elem {N:Nat} {w:World} {bo bm:Nat} {F:Nat→FC} {old made:List Nat} {vo vm:Value} {VB:Nat→Value} (h:CS N w bo bm F old made vo vm VB) {k:Nat} (hk:CB bo bm vo vm made VB k∨k∈old):∃ c e,w.heap[k]?=some (.cells c e (0,0))∧e≠125:=by
 have hl:=h.made_len
 rcases hk with (rfl | rfl | hk | hk | hk | ⟨m,hm,hk⟩) | hk
 ·exact ⟨_,_,h.ob,by decide⟩
 ·exact ⟨_,_,h.mb,by decide⟩
 ·obtain ⟨c,hc⟩:=A0f h.ol hk;exact ⟨c,_,hc,by decide⟩
 ·obtain ⟨c,hc⟩:=A0f h.ml hk;exact ⟨c,_,hc,by decide⟩
 ·obtain ⟨i,hi,rfl⟩:=List.getElem_of_mem hk
  exact ⟨_,_,(h.fil i hi (by omega)).1,by decide⟩
 ·obtain ⟨i,hi,rfl⟩:=List.getElem_of_mem hm
  obtain ⟨c,hc⟩:=A0f (h.fil i hi (by omega)).2 hk;exact ⟨c,_,hc,by decide⟩
 ·obtain ⟨c,hc⟩:=(h.ofil k hk).2;exact ⟨c,_,hc,by decide⟩
section
variable {N:Nat} {w wr W w3:World} {bo bm:Nat} {F:Nat→FC} {old made:List Nat} {vo vm:Value} {VB:Nat→Value} {es:List Ent} {i cn:Nat} {ov:Value} {L M:List Nat} {vo' vm':Value} {VB':Nat→Value} {es':List Ent}
theorem OR1.quiet (h:OR1 N w bo bm F old made vo vm VB es i cn ov wr L M vo' vm' VB' es') (hc:Chg (fun _=>False) wr W):OR1 N w bo bm F old made vo vm VB es i cn ov W L M vo' vm' VB' es':=
 ⟨h.cs.chg hc (fun _ _ h=>h) (fun _ _ h=>h),A0a h.ent fun g hg=>hc.block g (A0c h.ent hg) (fun h=>h),h.ren,h.pre,h.prm,h.fresh,h.chg.trans hc (fun _ h _=>h.elim),h.bvo,h.bvm,h.bvb⟩
theorem OR1.push (h:OR1 N w bo bm F old made vo vm VB es i cn ov W L M vo' vm' VB' es') {j f mf:Nat} {nm:ByteArray} {v':Value} (hi:i<es.length) (he1:(es[i]'hi).1=nm) (he2:(es[i]'hi).2=f) (hj:L[j]?=some f) (hm:M[j]?=some mf) (hcn:cn≤i+1)
 (hA:App W w3 125 2 ov v' (es'.length+1) (A0s es' ++ [.string nm,.pointer (some ⟨mf,0,none⟩)])):OR1 N w bo bm F old made vo vm VB es (i+1) (i+1) v' w3 L M vo' vm' VB' (es' ++ [(nm,mf)]):=by
 have hs:∀ k,CB bo bm vo' vm' M VB' k∨k∈L→w3.heap[k]?=W.heap[k]?:=by
  intro k hk
  obtain ⟨c,e,h1,h2⟩:=h.cs.elem hk
  exact hA.grown.block k (lt_of_block h1) (fun e=>by
   obtain ⟨c',h3⟩:=A0f h.ent e.symm
   exact A0r h1 h3 h2 rfl)
 refine ⟨h.cs.frame (fun k hk=>hs k (.inl hk)) (fun k hk=>hs k (.inr hk)),?_,?_,?_,h.prm,?_,?_,h.bvo,h.bvm,h.bvb⟩
 ·have:=hA.own
  unfold A1l
  rw [A1G,List.length_append];exact this
 ·rw [← List.take_append_getElem hi]
  have:es[i]'hi=(nm,f):=by rw [← he1,← he2]
  rw [this];exact h.ren.push hj hm
 ·obtain ⟨o,h1,h2,h3⟩:=h.pre
  exact ⟨o,h1,by omega,h3⟩
 ·intro g hg
  rcases hA.at_ with h1 | h1
  ·exact h.fresh g (h1.symm.trans hg)
  ·rw [hg] at h1;cases h1;exact h.chg.size
 ·exact h.chg.grown hA.grown fun k hk hlt=>by have:=h.fresh k hk;omega
theorem OR1.new {w1 w2 w4 w6 W3:World} {f nq ne:Nat} {vb:Value} {a3 a6:Option Addr} {c3 c6:Nat} (h:OR1 N w bo bm F old made vo vm VB es i cn ov w1 L M vo' vm' VB' es') (hne:L.length=ne) (hf:f∉L) (hfi:A1f f es) (hfN:f<N) (hfc:∃ c,w1.heap[f]?=some (.cells c 129 (0,0)))
 (hc2:Chg (fun _=>False) w1 w2)
 (hA:App ((w2.drewN nq).alloc (.cells #[.pointer (some ⟨f,0,none⟩)] 123)) w3 123 1 vo' (.slice a3 (ne+1) c3) (ne+1) (A1c L ++ [.pointer (some ⟨f,0,none⟩)]))
 (hW3:w3.setCell ⟨bo,0,none⟩ (.slice a3 (ne+1) c3)=W3)
 (hB:App W3.drew w4 5 1 (.slice none 0 0) vb (F f).1.length (A0K (F f).1))
 (hC:App ((w4.alloc (.cells #[vb,.int .i64 (F f).2] 129)).alloc (.cells #[.pointer (some ⟨w4.heap.size,0,none⟩)] 123)) w6 123 1 vm' (.slice a6 (ne+1) c6) (ne+1) (A1c M ++ [.pointer (some ⟨w4.heap.size,0,none⟩)])):
 OR1 N w bo bm F old made vo vm VB es i (cn+1) ov (w6.setCell ⟨bm,0,none⟩ (.slice a6 (ne+1) c6)) (L ++ [f]) (M ++ [w4.heap.size]) (.slice a3 (ne+1) c3) (.slice a6 (ne+1) c6) (fun m=>if m=w4.heap.size then vb else VB' m) es':=by
 subst hne
 have hl:=h.cs.made_len
 have s2:=hc2.size
 have s3:=hA.grown.size
 have s4:W3.heap.size≤w4.heap.size:=hB.grown.size
 have s6:=hC.grown.size
 have sW:W3.heap.size=w3.heap.size:=by rw [← hW3];simp
 simp only [World.size_alloc,World.heap_drewN] at s3 s6
 have hbo:bo<w1.heap.size:=lt_of_block h.cs.ob
 have hbm:bm<w1.heap.size:=lt_of_block h.cs.mb
 have hvo:∀ g,vo'.ownBlock=some g→g<w1.heap.size:=fun g hg=>A0c h.cs.ol hg
 have hvm:∀ g,vm'.ownBlock=some g→g<w1.heap.size:=fun g hg=>A0c h.cs.ml hg
 have k3:Chg (fun k=>vo'.ownBlock=some k) w1 w3:=((((hc2.mono (S':=fun k=>vo'.ownBlock=some k) fun _ _ h=>h.elim)).drewN nq).alloc (.cells #[.pointer (some ⟨f,0,none⟩)] 123)).grown hA.grown (fun k hk _=>hk)
 have k36:Chg (fun k=>vm'.ownBlock=some k) W3 w6:=((((Chg.refl (fun k=>vm'.ownBlock=some k) W3).drew.grown hB.grown (fun k hk _=>by simp [Value.ownBlock] at hk)).alloc (.cells #[vb,.int .i64 (F f).2] 129)).alloc (.cells #[.pointer (some ⟨w4.heap.size,0,none⟩)] 123)).grown hC.grown (fun k hk _=>hk)
 have eb3:w3.heap[bo]?=some (.cells #[vo'] 138 (0,0)):=(k3.block bo hbo (fun e=>by obtain ⟨c,hh⟩:=A0f h.cs.ol e;exact A0r hh h.cs.ob (by decide) rfl)).trans h.cs.ob
 have eW3:W3.heap[bo]?=some (.cells #[.slice a3 (L.length+1) c3] 138 (0,0)):=by rw [← hW3];exact A0h eb3
 have kW:Chg (One bo) w3 W3:=by rw [← hW3];exact (Chg.refl (One bo) w3).setAt rfl 0 _
 have em3:w3.heap[bm]?=some (.cells #[vm'] 138 (0,0)):=(k3.block bm hbm (fun e=>by obtain ⟨c,hh⟩:=A0f h.cs.ol e;exact A0r hh h.cs.mb (by decide) rfl)).trans h.cs.mb
 have emW:W3.heap[bm]?=some (.cells #[vm'] 138 (0,0)):=(kW.block bm (lt_of_block em3) (fun e=>h.cs.ne e.symm)).trans em3
 have em6:w6.heap[bm]?=some (.cells #[vm'] 138 (0,0)):=(k36.block bm (lt_of_block emW) (fun e=>by
  obtain ⟨c,hh⟩:=A0f h.cs.ml e;exact A0r hh h.cs.mb (by decide) rfl)).trans emW
 have k7:Chg (One bm) w6 (w6.setCell ⟨bm,0,none⟩ (.slice a6 (L.length+1) c6)):=(Chg.refl (One bm) w6).setAt rfl 0 _
 have e7:(w6.setCell ⟨bm,0,none⟩ (.slice a6 (L.length+1) c6)).heap[bm]?=some (.cells #[.slice a6 (L.length+1) c6] 138 (0,0)):=A0h em6
 generalize hW7:w6.setCell ⟨bm,0,none⟩ (.slice a6 (L.length+1) c6)=W7 at k7 e7 ⊢
 have s7:W7.heap.size=w6.heap.size:=by rw [← hW7];simp
 have tot:Chg (fun k=>k=bo∨k=bm∨vo'.ownBlock=some k∨vm'.ownBlock=some k) w1 W7:=by
  refine (((k3.mono (S':=fun k=>k=bo∨k=bm∨vo'.ownBlock=some k∨vm'.ownBlock=some k) (fun x _ hx=>.inr (.inr (.inl hx)))).trans kW (fun x hx _=>.inl hx)).trans k36 (fun x hx _=>.inr (.inr (.inr hx)))).trans k7 (fun x hx _=>.inr (.inl hx))
 have key:∀ (k:Nat) (c:Array Value) (e:Nat),w1.heap[k]?=some (Obj.cells c e (0,0))→e≠138→e≠123→W7.heap[k]?=w1.heap[k]?:=fun k c e hk h1 h2=>
  tot.block k (lt_of_block hk) (by
   rintro (rfl | rfl | hg | hg)
   ·exact A0r hk h.cs.ob h1 rfl
   ·exact A0r hk h.cs.mb h1 rfl
   ·obtain ⟨c',hh⟩:=A0f h.cs.ol hg;exact A0r hk hh h2 rfl
   ·obtain ⟨c',hh⟩:=A0f h.cs.ml hg;exact A0r hk hh h2 rfl)
 have nvo:∀ g,(Value.slice a3 (L.length+1) c3).ownBlock=some g→vo'.ownBlock=some g∨(w1.heap.size≤g∧g<w3.heap.size):=fun g hg=>by
  have hlt:=A0c hA.own hg
  rcases hA.at_ with e | e
  ·rw [e] at hg;exact .inl hg
  ·rw [e] at hg;cases hg;right;simp at hlt ⊢;omega
 have nvm:∀ g,(Value.slice a6 (L.length+1) c6).ownBlock=some g→vm'.ownBlock=some g∨w4.heap.size+2≤g:=fun g hg=>by
  rcases hC.at_ with e | e
  ·rw [e] at hg;exact .inl hg
  ·rw [e] at hg;cases hg;right;simp
 have nvb:∀ g,vb.ownBlock=some g→W3.heap.size≤g:=fun g hg=>by
  rcases hB.at_ with e | e
  ·rw [e] at hg;simp [Value.ownBlock] at hg
  ·rw [e] at hg;cases hg;simp
 have hM:∀ m∈M,m<w1.heap.size:=fun m hm=>h.cs.lt (.inr (.inr (.inr (.inr (.inl hm)))))
 have hMb:∀ m∈M,∀ g,(VB' m).ownBlock=some g→g<w1.heap.size:=fun m hm g hg=>h.cs.lt (.inr (.inr (.inr (.inr (.inr ⟨m,hm,hg⟩)))))
 have hNw:N≤w1.heap.size:=by have:=h.cs.nobo;omega
 have hww:=h.chg.size
 have oL:W7.ownsRow 0 123 1 (.slice a3 (L.length+1) c3) (L.length+1) (A1c L ++ [.pointer (some ⟨f,0,none⟩)]):=by
  have q1:W3.ownsRow 0 123 1 (.slice a3 (L.length+1) c3) (L.length+1) (A1c L ++ [.pointer (some ⟨f,0,none⟩)]):=
   A0a hA.own fun g hg=>kW.block g (A0c hA.own hg) (fun e=>by obtain ⟨c,hh⟩:=A0f hA.own hg;exact A0r hh eb3 (by decide) e)
  have q2:w6.ownsRow 0 123 1 (.slice a3 (L.length+1) c3) (L.length+1) (A1c L ++ [.pointer (some ⟨f,0,none⟩)]):=A0a q1 fun g hg=>by
   have hlt:=A0c hA.own hg
   refine k36.block g (by omega) (fun e=>?_)
   rcases nvo g hg with e2 | e2
   ·exact h.cs.vne g e2 e
   ·have:=hvm g e;omega
  refine A0a q2 fun g hg=>?_
  have hlt:=A0c hA.own hg
  refine k7.block g (by omega) (fun e=>?_)
  rcases nvo g hg with e2 | e2
  ·obtain ⟨c,hh⟩:=A0f h.cs.ol e2
   exact A0r hh h.cs.mb (by decide) e
  ·have:g=bm:=e
   omega
 have oM:W7.ownsRow 0 123 1 (.slice a6 (L.length+1) c6) (L.length+1) (A1c M ++ [.pointer (some ⟨w4.heap.size,0,none⟩)]):=by
  refine A0a hC.own fun g hg=>k7.block g (A0c hC.own hg) (fun e=>?_)
  obtain ⟨c,hh⟩:=A0f hC.own hg
  exact A0r hh em6 (by decide) e
 have fB:A2Z W7 w4.heap.size vb (F f).2:=by
  have h5:((w4.alloc (.cells #[vb,.int .i64 (F f).2] 129)).alloc (.cells #[.pointer (some ⟨w4.heap.size,0,none⟩)] 123)).heap[w4.heap.size]?=some (.cells #[vb,.int .i64 (F f).2] 129 (0,0)):=by
   rw [Below.heap_alloc _ _ _ (by simp)];exact heap_alloc_new _ _
  have h6:w6.heap[w4.heap.size]?=some (.cells #[vb,.int .i64 (F f).2] 129 (0,0)):=(hC.grown.block _ (by simp;omega) (fun e=>by have:=hvm _ e.symm;omega)).trans h5
  exact (k7.block _ (by omega) (fun e=>by have:w4.heap.size=bm:=e;omega)).trans h6
 have bB:BSl W7 vb (F f).1:=by
  refine A0a hB.own fun g hg=>?_
  have hlt:=A0c hB.own hg
  have hge:=nvb g hg
  have h5:((w4.alloc (.cells #[vb,.int .i64 (F f).2] 129)).alloc (.cells #[.pointer (some ⟨w4.heap.size,0,none⟩)] 123)).heap[g]?=w4.heap[g]?:=by
   rw [Below.heap_alloc _ _ _ (by simp;omega),Below.heap_alloc _ _ _ hlt]
  rw [← h5,← hC.grown.block g (by simp;omega) (fun e=>by have:=hvm _ e.symm;omega)]
  exact k7.block _ (by omega) (fun e=>by have:g=bm:=e;omega)
 have hnM:w4.heap.size∉M:=fun hm=>by have:=hM _ hm;omega
 have hcs:CS N W7 bo bm F (L ++ [f]) (M ++ [w4.heap.size]) (.slice a3 (L.length+1) c3) (.slice a6 (L.length+1) c6) (fun m=>if m=w4.heap.size then vb else VB' m):=by
  refine ⟨?_,e7,h.cs.ne,?_,?_,?_,?_,?_,?_,?_,?_,h.cs.nobo,h.cs.nobm,?_,?_,?_,?_⟩
  ·refine (k7.block bo (by omega) h.cs.ne).trans ((k36.block bo (by omega) (fun e=>?_)).trans eW3)
   obtain ⟨c,hh⟩:=A0f h.cs.ml e
   exact A0r hh h.cs.ob (by decide) rfl
  ·simpa [A1c] using oL
  ·simpa [A1c] using oM
  ·intro g h1 h2
   rcases nvo g h1 with e1 | e1 <;> rcases nvm g h2 with e2 | e2
   ·exact h.cs.vne g e1 e2
   ·have:=hvo g e1;omega
   ·have:=hvm g e2;omega
   ·omega
  ·intro j hj hj'
   by_cases hlt:j<M.length
   ·have hlt':j<L.length:=by omega
    have hm:M[j]'hlt≠w4.heap.size:=fun e=>hnM (e ▸ List.getElem_mem hlt)
    obtain ⟨q1,q2⟩:=h.cs.fil j hlt hlt'
    simp only [List.getElem_append_left hlt,List.getElem_append_left hlt',hm,if_false]
    refine ⟨?_,A0a q2 fun g hg=>?_⟩
    ·unfold A2Z at q1 ⊢;rw [key _ _ _ q1 (by decide) (by decide)];exact q1
    ·obtain ⟨c,hh⟩:=A0f q2 hg
     exact key _ _ _ hh (by decide) (by decide)
   ·obtain rfl:j=M.length:=by simp at hj;omega
    have e1:(M ++ [w4.heap.size])[M.length]'hj=w4.heap.size:=by simp
    have e2:(L ++ [f])[M.length]'hj'=f:=by simp [hl]
    rw [e1,e2]
    simp only [if_true]
    exact ⟨fB,bB⟩
  ·intro x hx
   rcases List.mem_append.1 hx with hx | hx
   ·obtain ⟨q1,c,q2⟩:=h.cs.ofil x hx
    exact ⟨q1,c,(key _ _ _ q2 (by decide) (by decide)).trans q2⟩
   ·simp at hx;subst hx
    obtain ⟨c,hc⟩:=hfc
    exact ⟨hfN,c,(key _ _ _ hc (by decide) (by decide)).trans hc⟩
  ·refine List.nodup_append.2 ⟨h.cs.odup,by simp,fun a ha b hb e=>?_⟩
   simp at hb;subst hb;subst e;exact hf ha
  ·refine List.nodup_append.2 ⟨h.cs.dup,by simp,fun a ha b hb e=>?_⟩
   simp at hb;subst hb;subst e;exact hnM ha
  ·intro m m' g hm hm' hg hg'
   rcases List.mem_append.1 hm with hm | hm <;> rcases List.mem_append.1 hm' with hm' | hm'
   ·have n1:m≠w4.heap.size:=fun e=>hnM (e ▸ hm)
    have n2:m'≠w4.heap.size:=fun e=>hnM (e ▸ hm')
    simp only [n1,n2,if_false] at hg hg'
    exact h.cs.inj m m' g hm hm' hg hg'
   ·have n1:m≠w4.heap.size:=fun e=>hnM (e ▸ hm)
    simp at hm';subst hm'
    simp only [n1,if_false] at hg
    simp at hg'
    have:=hMb m hm g hg
    have:=nvb g hg'
    omega
   ·have n1:m'≠w4.heap.size:=fun e=>hnM (e ▸ hm')
    simp at hm;subst hm
    simp only [n1,if_false] at hg'
    simp at hg
    have:=hMb m' hm' g hg'
    have:=nvb g hg
    omega
   ·simp at hm hm';rw [hm,hm']
  ·intro g hg
   rcases nvo g hg with e | e
   ·exact h.cs.novo g e
   ·omega
  ·intro g hg
   rcases nvm g hg with e | e
   ·exact h.cs.novm g e
   ·omega
  ·intro m hm
   rcases List.mem_append.1 hm with hm | hm
   ·exact h.cs.nomade m hm
   ·simp at hm;omega
  ·intro m hm g hg
   rcases List.mem_append.1 hm with hm | hm
   ·have n1:m≠w4.heap.size:=fun e=>hnM (e ▸ hm)
    simp only [n1,if_false] at hg
    exact h.cs.nobyt m hm g hg
   ·simp at hm;subst hm;simp at hg
    have:=nvb g hg
    omega
 refine ⟨hcs,?_,h.ren.mono,?_,?_,h.fresh,?_,?_,?_,?_⟩
 ·refine A0a h.ent fun g hg=>?_
  obtain ⟨c,hh⟩:=A0f h.ent hg
  exact key _ _ _ hh (by decide) (by decide)
 ·obtain ⟨o,h1,h2,h3⟩:=h.pre
  refine ⟨o ++ [f],by rw [h1,List.append_assoc],by simp;omega,fun x hx=>?_⟩
  rcases List.mem_append.1 hx with hx | hx
  ·exact h3 x hx
  ·simp at hx;subst hx;exact hfi
 ·obtain ⟨o,h1,h2⟩:=h.prm
  refine ⟨o ++ [w4.heap.size],by rw [h1,List.append_assoc],fun x hx=>?_⟩
  rcases List.mem_append.1 hx with hx | hx
  ·exact h2 x hx
  ·simp at hx;omega
 ·refine h.chg.trans tot ?_
  rintro x (rfl | rfl | hx | hx) hlt
  ·exact .inl rfl
  ·exact .inr (.inl rfl)
  ·rcases h.bvo x hx with e | e
   ·exact .inr (.inr (.inl e))
   ·omega
  ·rcases h.bvm x hx with e | e
   ·exact .inr (.inr (.inr e))
   ·omega
 ·intro g hg
  rcases nvo g hg with e | e
  ·exact h.bvo g e
  ·right;omega
 ·intro g hg
  rcases nvm g hg with e | e
  ·exact h.bvm g e
  ·right;omega
 ·intro m hm
  obtain ⟨o,h1,_⟩:=h.prm
  have hmM:m∈M:=by rw [h1];exact List.mem_append.2 (.inl hm)
  have n1:m≠w4.heap.size:=fun e=>hnM (e ▸ hmM)
  simp only [n1,if_false]
  exact h.bvb m hm
end
set_option maxRecDepth 100000 in
set_option maxHeartbeats 4000000 in
theorem B2D (N:Nat) (w:World) (bo bm:Nat) (F:Nat→FC) (old made:List Nat) (vo vm:Value) (VB:Nat→Value) (h:CS N w bo bm F old made vo vm VB) (es:List Ent) (vl:Value) (hes:A1l w vl es) (hvl:∀ g,vl.ownBlock=some g→g<N)
 (hn:es.length<1099511627776∧old.length<1099511627776) (hf:∀ f,A1f f es→f<N∧(F f).1.length≤1099511627776∧∃ v,A2Z w f v (F f).2∧BSl w v (F f).1∧∀ g,v.ownBlock=some g→g<N):
 Calls Tryz.prog 87 #[vl,.pointer (some ⟨bo,0,none⟩),.pointer (some ⟨bm,0,none⟩)] w fun e w'=>∃ v,e=.returned v∧OR N w bo bm F old made vo vm VB es es.length v w':=by
 have H:=A0b h
 have HF:=A0b hf
 have HE:=A0b hes
 have HN:=A0b hvl
 obtain ⟨a,cap,rfl,hle,hcm,he⟩:=hes.form
 have HG:=A0b he
 obtain ⟨hn1,hn2⟩:=hn
 unfold maxLen at hcm
 clear h hf hes hvl he
 go_enter Tryz.func87,Tryz.ntmps87
 go_wp2
 go_loopw [5,11] (fun ov iv wr=>∃ i:Nat,i≤es.length∧iv=.int .i64 i∧Hid (OR N w bo bm F old made vo vm VB es i ov wr)) (fun _ iv _=>es.length - (intOf iv).toNat)
 case atStart=>exact ⟨0,Nat.zero_le _,rfl,old,made,vo,vm,VB,[],H.out,World.ownsRow_nil _ _ _ _,⟨by simp,by simp⟩,⟨[],by simp⟩,⟨[],by simp⟩,by simp [Value.ownBlock],Chg.refl _ _,fun _ h=>.inl h,fun _ h=>.inl h,fun _ _=>rfl⟩
 case round=>
  obtain ⟨i,hi,rfl,hor⟩:=hrel
  by_cases hli:i<es.length
  ·obtain ⟨L,M,vo',vm',VB',es',k0⟩:=hor.out
   have k1:=k0.cs
   have k6:=k0.chg
   obtain ⟨g,rfl,e1,e2⟩:=HG.out i hli
   have hgN:g<N:=HN.out g rfl
   have hgw:g<w.heap.size:=A0c HE.out (g:=g) rfl
   have hnc:¬ CF bo bm vo vm g:=by
    rintro (rfl | rfl | hg | hg)
    ·have:=H.out.nobo;omega
    ·have:=H.out.nobm;omega
    ·have:=H.out.novo g hg;omega
    ·have:=H.out.novm g hg;omega
   have e3:=(World.cell?_of_block (k6.block g hgw hnc)).trans e1
   have e4:=(World.cell?_of_block (k6.block g hgw hnc)).trans e2
   obtain ⟨nm,hnm⟩:∃ nm,(es[i]'hli).1=nm:=⟨_,rfl⟩
   obtain ⟨f,hff⟩:∃ f,(es[i]'hli).2=f:=⟨_,rfl⟩
   rw [hnm] at e3
   rw [hff] at e4
   have K1:=A0b k1
   have CW1:=A0b k6
   have HF1:Hid ((F f).1.length≤1099511627776):=(HF.out f ⟨_,List.getElem_mem hli,hff⟩).2.1
   have HFV:Hid (∃ v,(∀ g,v.ownBlock=some g→g<N)∧∀ W,Chg (CF bo bm vo vm) w W→A2Z W f v (F f).2∧BSl W v (F f).1):=by
    obtain ⟨h1,_,v,h2,h3,h4⟩:=HF.out f ⟨_,List.getElem_mem hli,hff⟩
    have key:∀ k,k<N→¬ CF bo bm vo vm k:=by
     rintro k hk (rfl | rfl | hg | hg)
     ·have:=H.out.nobo;omega
     ·have:=H.out.nobm;omega
     ·have:=H.out.novo k hg;omega
     ·have:=H.out.novm k hg;omega
    refine ⟨v,h4,fun W hc=>⟨(hc.block f (lt_of_block h2) (key f h1)).trans h2,A0a h3 fun g hg=>hc.block g (A0c h3 hg) (key g (h4 g hg))⟩⟩
   have HFB:Hid (∀ W:World,Chg (CF bo bm vo vm) w W→∃ c,W.heap[f]?=some (.cells c 129 (0,0))):=by
    intro W hc
    obtain ⟨h1,_,v,h2,_⟩:=HF.out f ⟨_,List.getElem_mem hli,hff⟩
    refine ⟨_,(hc.block f (lt_of_block h2) ?_).trans h2⟩
    rintro (rfl | rfl | hg | hg)
    ·have:=H.out.nobo;omega
    ·have:=H.out.nobm;omega
    ·have:=H.out.novo f hg;omega
    ·have:=H.out.novm f hg;omega
   have hLl:L.length<2199023255552:=by
    obtain ⟨o,h1,h2,_⟩:=k0.pre
    rw [h1,List.length_append];omega
   have hEl:es'.length=i:=by have:=k0.ren.1;rw [List.length_take] at this;omega
   have HEL:=A0b hEl
   obtain ⟨i0,hi0,hz0,hz1,hz2⟩:=info_parts Tryz.infoEntry
   have HNM:=A0b hnm
   have HFF:=A0b hff
   obtain ⟨ne,hne⟩:∃ ne,es'.length=ne:=⟨_,rfl⟩
   have hne2:ne<1099511627776:=by omega
   have HNE:=A0b hne
   have K0:=A0b k0
   clear hne hEl k0 hor
   obtain ⟨ao,co,rfl,ho1,ho2,ho3,_,_⟩:=A0g k1.ol
   unfold maxLen at ho2
   clear hnm hff e1 e2 hgN hnc k1 k6
   go_wp2
   have HO3:=A0b ho3
   clear ho3
   obtain ⟨w1,hw1⟩:∃ w1,w1=wr:=⟨_,rfl⟩
   subst hw1
   have hsz:bo<w1.heap.size:=lt_of_block K1.out.ob
   go_loopw [8] (fun jv w2=>∃ j:Nat,j≤L.length∧jv=.int .i64 j∧Hid (∀ m (h:m<L.length),m<j→L[m]'h≠f)∧Hid (Chg (fun _=>False) (w1.alloc (.cells #[.string nm,.pointer (some ⟨f,0,none⟩)] 125)) w2)) (fun jv _=>L.length - (intOf jv).toNat)
   case atStart=>exact ⟨0,Nat.zero_le _,rfl,fun m h hm=>by omega,Chg.refl _ _⟩
   case round=>
    obtain ⟨j,hj,rfl,hno,hc2⟩:=hrel
    obtain ⟨w2,hw2⟩:∃ w2,w2=wr:=⟨_,rfl⟩
    subst hw2
    have CW2:Hid (Chg (CF bo bm vo vm) w w2):=(CW1.out.alloc _).trans hc2.out (fun _ h _=>h.elim)
    have K2:Hid (CS N w2 bo bm F L M (.slice ao L.length co) vm' VB'):=(K1.out.chg ((Chg.refl (fun _=>False) w1).alloc _) (fun _ _ h=>h) (fun _ _ h=>h)).chg hc2.out (fun _ _ h=>h) (fun _ _ h=>h)
    have b1:w2.cell? ⟨bo,0,none⟩=some (.slice ao L.length co):=by have:=K2.out.ob;simp [World.cell?,this]
    have hE:=(hc2.out.block w1.heap.size (by simp) (fun h=>h)).trans (heap_alloc_new w1 _)
    have b2:w2.cell? ⟨w1.heap.size,0,none⟩=some (.string nm):=by simp [World.cell?,hE]
    have b3:w2.cell? ⟨w1.heap.size,1,none⟩=some (.pointer (some ⟨f,0,none⟩)):=by simp [World.cell?,hE]
    clear hE
    by_cases hjl:j<L.length
    ·obtain ⟨go,rfl⟩:=HO3.out (by omega)
     obtain ⟨x,hx⟩:∃ x,L[j]'hjl=x:=⟨_,rfl⟩
     have b4:w2.cell? ⟨go,j,none⟩=some (.pointer (some ⟨x,0,none⟩)):=by
      refine A0j K2.out.ol (g:=go) rfl ?_
      unfold A1c;rw [List.getElem?_map,List.getElem?_eq_getElem hjl,hx];rfl
     have Hx:=A0b hx
     clear hx
     by_cases hxf:x=f
     ·subst hxf
      have q:=fun W=>A7U W x
      go_wp2
      go_quiet (fail)
      go_wp2
      obtain ⟨mf,hmf⟩:∃ mf,M[j]?=some mf:=⟨M[j]'(by rw [K2.out.made_len];exact hjl),List.getElem?_eq_getElem _⟩
      obtain ⟨am,cm,hvm,hm1,hm2,hm3,_,_⟩:=A0g K2.out.ml
      subst hvm
      obtain ⟨gm,rfl⟩:=hm3 (by omega)
      unfold maxLen at hm2
      have b5:w2.cell? ⟨bm,0,none⟩=some (.slice (some ⟨gm,0,none⟩) L.length cm):=by have:=K2.out.mb;simp [World.cell?,this]
      have b6:w2.cell? ⟨gm,j,none⟩=some (.pointer (some ⟨mf,0,none⟩)):=by
       refine A0j K2.out.ml (g:=gm) rfl ?_
       unfold A1c;rw [List.getElem?_map,hmf];rfl
      have Hmf:=A0b hmf
      clear hmf q b1 hm3
      have hq1:Hid (∀ n,OR1 N w bo bm F old made vo vm VB es i i u5 ((w2.drewN n).alloc (.cells #[.string nm,.pointer (some ⟨mf,0,none⟩)] 125)) L M (.slice (some ⟨go,0,none⟩) L.length co) (.slice (some ⟨gm,0,none⟩) L.length cm) VB' es'):=
       fun n=>K0.out.quiet (((((Chg.refl (fun _=>False) w1).alloc _).trans hc2.out (fun _ h _=>h)).drewN n).alloc _)
      have hown:Hid (∀ n,((w2.drewN n).alloc (.cells #[.string nm,.pointer (some ⟨mf,0,none⟩)] 125)).ownsRow 0 125 2 u5 ne (A0s es')):=fun n=>HNE.out ▸ (hq1.out n).ent
      have hsr:Hid (∀ n,Src Tryz.prog 2 92 (.slice (some ⟨w2.heap.size,0,none⟩) 1 1) 1 [.string nm,.pointer (some ⟨mf,0,none⟩)] ((w2.drewN n).alloc (.cells #[.string nm,.pointer (some ⟨mf,0,none⟩)] 125))):=
       fun n=>Src.ofNew Tryz.underlying92 (w2.drewN n) #[.string nm,.pointer (some ⟨mf,0,none⟩)] 125 w2.heap.size (by simp) 1 1 rfl (by simp [Value.oneCell'])
      have hbb:(ne+1)*24≤140737488355328:=by omega
      have hfin:Hid (∀ n b3 cap3 w3,App ((w2.drewN n).alloc (.cells #[.string nm,.pointer (some ⟨mf,0,none⟩)] 125)) w3 125 2 u5 (.slice b3 (ne+1) cap3) (ne+1) (A0s es' ++ [.string nm,.pointer (some ⟨mf,0,none⟩)])→OR N w bo bm F old made vo vm VB es (i+1) (.slice b3 (ne+1) cap3) w3):=by
       intro n b3 cap3 w3 hA
       exact ⟨_,_,_,_,_,_,(hq1.out n).push hli HNM.out HFF.out (by rw [List.getElem?_eq_getElem hjl,Hx.out]) Hmf.out (by omega) (by rw [HNE.out];exact hA)⟩
      go_region_law
       ((refine A3L ?_ (.tmp 55) (.tmp 63) 92 92 ?_ 125 i0 _ 2 24 Tryz.underlying92 hi0 hz0 hz1 hz2 rfl (Nat.zero_lt_succ 23) u5 ne (A0s es') ?_ (hown.out (nq+1)) (.slice (some ⟨w2.heap.size,0,none⟩) 1 1) 1 [.string nm,.pointer (some ⟨mf,0,none⟩)] ?_ (hsr.out (nq+1)) hbb ?_;(· rfl);(· rfl);(· rfl);(· rfl);intro b3 cap3 w3 hA;have hf3:=A0b (hfin.out (nq+1) b3 cap3 w3 hA)))
      all_goals (go_wp2;go_roundw;(case rel=>exact ⟨i+1,by omega,by go_num,hf3.out⟩);(case measure=>simp [intOf];omega))
     ·obtain ⟨cx,hcx⟩:=(K2.out.ofil x (Hx.out ▸ List.getElem_mem hjl)).2
      have q:∀ n:Nat,(binOp .neq 123 (.pointer (some ⟨x,0,none⟩)) (.pointer (some ⟨f,0,none⟩))).run Tryz.prog (w2.drewN n)=.ok (.bool true) (w2.drewN n):=by
       intro n
       obtain ⟨cf,hcf⟩:=HFB.out w2 (CW2.out)
       exact B5b _ x f cx cf (by simpa using hcx) (by simpa using hcf) hxf
      clear hcx
      go_wp2
      go_quiet (fail)
      go_wp2
      go_roundw
      case rel=>
       refine ⟨j+1,by omega,by go_num,fun m h hm=>?_,hc2.out.drewN _⟩
       by_cases hmj:m=j
       ·subst hmj;rw [Hx.out];exact hxf
       ·exact hno.out m h (by omega)
      case measure=>simp [intOf];omega
    ·obtain rfl:j=L.length:=by omega
     obtain ⟨p0,hp,hp0,hp1,hp2⟩:=info_parts Tryz.infoPtr
     have hsr:Hid (∀ n,Src Tryz.prog 1 138 (.slice (some ⟨w2.heap.size,0,none⟩) 1 1) 1 [.pointer (some ⟨f,0,none⟩)] ((w2.drewN n).alloc (.cells #[.pointer (some ⟨f,0,none⟩)] 123))):=
      fun n=>Src.ofNew Tryz.underlying138 (w2.drewN n) #[.pointer (some ⟨f,0,none⟩)] 123 w2.heap.size (by simp) 1 1 rfl (by simp [Value.oneCell'])
     have hol:Hid (∀ n,((w2.drewN n).alloc (.cells #[.pointer (some ⟨f,0,none⟩)] 123)).ownsRow 0 123 1 (.slice ao L.length co) L.length (A1c L)):=
      fun n=>A0a K2.out.ol fun g hg=>Below.heap_alloc _ _ _ (by simpa using A0c K2.out.ol hg)
     have hbb:(L.length+1)*8≤140737488355328:=by omega
     have C3:Hid (∀ n w3 a3 cap3,App ((w2.drewN n).alloc (.cells #[.pointer (some ⟨f,0,none⟩)] 123)) w3 123 1 (.slice ao L.length co) (.slice a3 (L.length+1) cap3) (L.length+1) (A1c L ++ [.pointer (some ⟨f,0,none⟩)])→
      w3.frozen? ⟨bo,0,none⟩=false∧w3.cell? ⟨bo,0,none⟩=some (.slice ao L.length co)∧Chg (fun k=>k=bo∨(Value.slice ao L.length co).ownBlock=some k) w2 (w3.setCell ⟨bo,0,none⟩ (.slice a3 (L.length+1) cap3))):=by
      intro n w3 a3 cap3 hA
      have hne:(Value.slice ao L.length co).ownBlock≠some bo:=fun e=>by
       obtain ⟨c,hh⟩:=A0f K2.out.ol e
       exact A0r hh K2.out.ob (by decide) rfl
      have hbo:w3.heap[bo]?=some (.cells #[.slice ao L.length co] 138 (0,0)):=by
       rw [hA.grown.block bo (by have:=lt_of_block K2.out.ob;simp;omega) (fun e=>hne e.symm),Below.heap_alloc _ _ _ (by simpa using lt_of_block K2.out.ob)]
       exact K2.out.ob
      refine ⟨by simp [World.frozen?,hbo],by simp [World.cell?,hbo],?_⟩
      exact ((((Chg.refl _ w2).drewN n).alloc _).grown hA.grown (fun k hk _=>.inr hk)).setAt (.inl rfl) 0 _
     go_wp2
     go_quiet (fail)
     go_wp2_with (at_builtin;refine A0o rfl (.tmp 34) (.tmp 37) 138 138 rfl 123 p0 _ 1 8 Tryz.underlying138 hp hp0 hp1 hp2 rfl (by decide) _ _ _ (by rfl) (hol.out nq) _ 1 _ (by rfl) (hsr.out nq) hbb ?_;intro a3 cap3 w3 hA;have c3:=A0b (C3.out nq w3 a3 cap3 hA);have f3:=c3.out.1;have g3:=c3.out.2.1)
     have c3b:=c3.out.2.2
     generalize hW3:w3.setCell ⟨bo,0,none⟩ (.slice a3 (L.length+1) cap3)=W3 at c3b ⊢
     have C3b:=A0b c3b
     have HW3:=A0b hW3
     have HA:=A0b hA
     obtain ⟨am,cm,hvm,hm1,hm2,hm3,_,_⟩:=A0g K2.out.ml
     subst hvm
     unfold maxLen at hm2
     have CW3:Hid (Chg (CF bo bm vo vm) w W3):=CW2.out.trans c3b (fun x hx hlt=>by
      rcases hx with rfl | hx
      ·exact .inl rfl
      ·rcases K0.out.bvo x hx with h | h
       ·exact .inr (.inr (.inl h))
       ·omega)
     obtain ⟨vf,hvf1,hvf2⟩:=HFV.out
     obtain ⟨hq1,hq2⟩:=hvf2 W3 CW3.out
     obtain ⟨af,cf,rfl,hf1,hf2⟩:=hq2.form
     unfold maxLen at hf2
     have d1:W3.cell? ⟨f,0,none⟩=some (.slice af (F f).1.length cf):=hq1.c0
     have d2:W3.cell? ⟨f,1,none⟩=some (.int .i64 (F f).2):=hq1.c1
     have hmo:¬ (Value.slice ao L.length co).ownBlock=some bm:=fun e=>by
      obtain ⟨c,hh⟩:=A0f K2.out.ol e
      exact A0r hh K2.out.mb (by decide) rfl
     have hmb:W3.heap[bm]?=some (.cells #[.slice am L.length cm] 138 (0,0)):=
      (c3b.block bm (lt_of_block K2.out.mb) (fun e=>e.elim (fun e=>K2.out.ne e.symm) hmo)).trans K2.out.mb
     have d3:W3.cell? ⟨bm,0,none⟩=some (.slice am L.length cm):=by simp [World.cell?,hmb]
     have hge:w1.heap.size≤w2.heap.size:=by have:=hc2.out.size;simp at this;omega
     have hwo:∀ g,(Value.slice ao L.length co).ownBlock=some g→g<w1.heap.size:=fun g hg=>A0c K1.out.ol hg
     have hE3:=(c3b.block w1.heap.size (by have:=hc2.out.size;simp at this;omega) (fun e=>e.elim (fun e=>by omega) (fun e=>by have:=hwo _ e;omega))).trans ((hc2.out.block w1.heap.size (by simp) (fun h=>h)).trans (heap_alloc_new w1 _))
     have d4:W3.cell? ⟨w1.heap.size,0,none⟩=some (.string nm):=by simp [World.cell?,hE3]
     have d5:W3.cell? ⟨w1.heap.size,1,none⟩=some (.pointer (some ⟨f,0,none⟩)):=by simp [World.cell?,hE3]
     obtain ⟨y0,hy,hy0,hy1,hy2⟩:=info_parts Tryz.infoByte
     have hs1:Hid (Src Tryz.prog 1 127 (.slice af (F f).1.length cf) (F f).1.length (A0K (F f).1) W3.drew):=Src.ofOwn (w:=W3.drew) Tryz.underlying127 hq2 (A5q _)
     have hb1:(0+(F f).1.length)*1≤140737488355328:=by have:=HF1.out;omega
     have D1:Hid (∀ w4 v4 n xs,App W3.drew w4 5 1 (.slice none 0 0) v4 n xs→w4.cell? ⟨w1.heap.size,1,none⟩=some (.pointer (some ⟨f,0,none⟩))∧w4.cell? ⟨f,0,none⟩=some (.slice af (F f).1.length cf)∧w4.cell? ⟨f,1,none⟩=some (.int .i64 (F f).2)∧w4.cell? ⟨bm,0,none⟩=some (.slice am L.length cm)∧w4.cell? ⟨w1.heap.size,0,none⟩=some (.string nm)):=by
      intro w4 v4 n xs hB
      have hc:∀ k o,W3.heap[k]?=some o→w4.heap[k]?=some o:=fun k o ho=>(hB.chgNil.block k (lt_of_block ho) (fun h=>h)).trans ho
      exact ⟨(World.cell?_of_block ((hc _ _ hE3).trans hE3.symm)).trans d5,(World.cell?_of_block ((hc _ _ hq1).trans hq1.symm)).trans d1,(World.cell?_of_block ((hc _ _ hq1).trans hq1.symm)).trans d2,(World.cell?_of_block ((hc _ _ hmb).trans hmb.symm)).trans d3,(World.cell?_of_block ((hc _ _ hE3).trans hE3.symm)).trans d4⟩
     have D2:Hid (∀ w4 v4 n xs o1 o2,App W3.drew w4 5 1 (.slice none 0 0) v4 n xs→((w4.alloc o1).alloc o2).ownsRow 0 123 1 (.slice am L.length cm) L.length (A1c M)):=by
      intro w4 v4 n xs o1 o2 hB
      have hm3:W3.ownsRow 0 123 1 (.slice am L.length cm) L.length (A1c M):=A0a K2.out.ml fun g hg=>c3b.block g (A0c K2.out.ml hg) (by
       rintro (e | e)
       ·obtain ⟨c,hh⟩:=A0f K2.out.ml hg
        exact A0r hh K2.out.ob (by decide) e
       ·exact K2.out.vne g e hg)
      have hm4:w4.ownsRow 0 123 1 (.slice am L.length cm) L.length (A1c M):=A0a hm3 fun g hg=>hB.chgNil.block g (A0c hm3 hg) (fun h=>h)
      have hm5:(w4.alloc o1).ownsRow 0 123 1 (.slice am L.length cm) L.length (A1c M):=A0a hm4 fun g hg=>Below.heap_alloc _ _ _ (A0c hm4 hg)
      exact A0a hm5 fun g hg=>Below.heap_alloc _ _ _ (A0c hm5 hg)
     have C6:Hid (∀ w4 v4 n xs o1 o2 w6 a6 cap6 ys,App W3.drew w4 5 1 (.slice none 0 0) v4 n xs→App ((w4.alloc o1).alloc o2) w6 123 1 (.slice am L.length cm) (.slice a6 (L.length+1) cap6) (L.length+1) ys→
      (w6.cell? ⟨w1.heap.size,1,none⟩=some (.pointer (some ⟨f,0,none⟩))∧w6.cell? ⟨f,0,none⟩=some (.slice af (F f).1.length cf)∧w6.cell? ⟨f,1,none⟩=some (.int .i64 (F f).2)∧w6.cell? ⟨bm,0,none⟩=some (.slice am L.length cm)∧w6.cell? ⟨w1.heap.size,0,none⟩=some (.string nm))∧w6.frozen? ⟨bm,0,none⟩=false∧(w6.setCell ⟨bm,0,none⟩ (.slice a6 (L.length+1) cap6)).cell? ⟨w1.heap.size,0,none⟩=some (.string nm)):=by
      intro w4 v4 n xs o1 o2 w6 a6 cap6 ys hB hC
      have hc:∀ k o,W3.heap[k]?=some o→(Value.slice am L.length cm).ownBlock≠some k→w6.heap[k]?=some o:=fun k o ho hn=>by
       have h4:w4.heap[k]?=some o:=(hB.chgNil.block k (lt_of_block ho) (fun h=>h)).trans ho
       have h5:((w4.alloc o1).alloc o2).heap[k]?=some o:=by
        rw [Below.heap_alloc _ _ _ (by have:=lt_of_block h4;simp;omega),Below.heap_alloc _ _ _ (lt_of_block h4)];exact h4
       exact (hC.grown.block k (lt_of_block h5) (fun e=>hn e.symm)).trans h5
      have hel:∀ k (c:Array Value) (e:Nat),W3.heap[k]?=some (Obj.cells c e (0,0))→e≠123→(Value.slice am L.length cm).ownBlock≠some k:=fun k c e hk he hn=>by
       have hlt:=A0c K2.out.ml hn
       obtain ⟨c',hh⟩:=A0f K2.out.ml hn
       have:W3.heap[k]?=w2.heap[k]?:=c3b.block k hlt (by
        rintro (e2 | e2)
        ·exact A0r hh K2.out.ob (by decide) e2
        ·exact K2.out.vne k e2 hn)
       rw [this,hh] at hk;cases hk;exact he rfl
      have x1:=hc _ _ hE3 (hel _ _ _ hE3 (by decide))
      have x2:=hc _ _ hq1 (hel _ _ _ hq1 (by decide))
      have x3:=hc _ _ hmb (hel _ _ _ hmb (by decide))
      have hbmlt:bm≠w1.heap.size:=by have:=lt_of_block K1.out.mb;omega
      refine ⟨⟨(World.cell?_of_block (x1.trans hE3.symm)).trans d5,(World.cell?_of_block (x2.trans hq1.symm)).trans d1,(World.cell?_of_block (x2.trans hq1.symm)).trans d2,(World.cell?_of_block (x3.trans hmb.symm)).trans d3,(World.cell?_of_block (x1.trans hE3.symm)).trans d4⟩,by simp [World.frozen?,x3],?_⟩
      rw [World.cell?_setCell_far _ _ _ _ hbmlt]
      exact (World.cell?_of_block (x1.trans hE3.symm)).trans d4
     have hfL:f∉L:=fun hm=>by
      obtain ⟨m,hm1,hm2⟩:=List.getElem_of_mem hm
      exact hno.out m hm1 hm1 hm2
     have hfes:A1f f es:=⟨_,List.getElem_mem hli,HFF.out⟩
     have OR7:Hid (∀ w4 b4 cap4 w6 a6 cap6,App W3.drew w4 5 1 (.slice none 0 0) (.slice b4 (F f).1.length cap4) (F f).1.length (A0K (F f).1)→
      App ((w4.alloc (.cells #[.slice b4 (F f).1.length cap4,.int .i64 (F f).2] 129)).alloc (.cells #[.pointer (some ⟨w4.heap.size,0,none⟩)] 123)) w6 123 1 (.slice am L.length cm) (.slice a6 (L.length+1) cap6) (L.length+1) (A1c M ++ [.pointer (some ⟨w4.heap.size,0,none⟩)])→
      OR1 N w bo bm F old made vo vm VB es i (i+1) u5 (w6.setCell ⟨bm,0,none⟩ (.slice a6 (L.length+1) cap6)) (L ++ [f]) (M ++ [w4.heap.size]) (.slice a3 (L.length+1) cap3) (.slice a6 (L.length+1) cap6) (fun m=>if m=w4.heap.size then .slice b4 (F f).1.length cap4 else VB' m) es'):=
      fun w4 b4 cap4 w6 a6 cap6 hB hC=>K0.out.new rfl hfL hfes (HF.out f hfes).1 (HFB.out w1 CW1.out) (((Chg.refl (fun _=>False) w1).alloc _).trans hc2.out (fun _ h _=>h)) HA.out HW3.out hB hC
     have S0:Hid (W3.drew.cell? ⟨w1.heap.size,1,none⟩=some (.pointer (some ⟨f,0,none⟩))∧W3.drew.cell? ⟨f,0,none⟩=some (.slice af (F f).1.length cf)∧W3.drew.cell? ⟨f,1,none⟩=some (.int .i64 (F f).2)∧W3.drew.cell? ⟨bm,0,none⟩=some (.slice am L.length cm)∧W3.drew.cell? ⟨w1.heap.size,0,none⟩=some (.string nm)):=⟨d5,d1,d2,d3,d4⟩
     clear hq1 hq2 hmb hE3 c3b hvf1 hvf2 hA hW3 c3 f3 g3 b1 b2 b3 hfL hfes d1 d2 d3 d4 d5 hwo hge hmo
     refine A0e (fun w'=>w'.cell? ⟨w1.heap.size,1,none⟩=some (.pointer (some ⟨f,0,none⟩))∧w'.cell? ⟨f,0,none⟩=some (.slice af (F f).1.length cf)∧w'.cell? ⟨f,1,none⟩=some (.int .i64 (F f).2)∧w'.cell? ⟨bm,0,none⟩=some (.slice am L.length cm)∧w'.cell? ⟨w1.heap.size,0,none⟩=some (.string nm)) 16
      [(0,true),(1,true),(2,true),(3,true),(4,true),(5,true),(7,true),(8,true),(9,true),(10,true),(11,true),(6,false),(12,true),(13,false),(14,false),(15,false)] (by kernel_rfl) (by kernel_rfl) (fun _ _ _ _ _ h=>h) S0.out ?_
     iterate 11 (refine A0d (v:=?_) rfl (by rfl) ?_ ?_;rotate_left;(· (intro w' hS;(try dsimp only at hS);go_simp;try with_reducible rfl));(try simp only [Act.put,List.setIfInBounds_toArray,List.set_cons_zero,List.set_cons_succ,List.getElem_toArray,List.getElem_cons_zero,List.getElem_cons_succ]))
     refine A0i rfl (by rfl) (fun K hK=>?_)
     refine A3q (.const (.slice none 0 0)) (.tmp 44) 127 127 (by rfl) 5 y0 _ 1 1 Tryz.underlying127 hy hy0 hy1 hy2 rfl (by decide) (.slice none 0 0) 0 [] (by rfl) (World.ownsRow_nil _ _ _ _) _ (F f).1.length _ (by rfl) hs1.out hb1 ?_
     intro b4 cap4 w4 hB
     simp only [Nat.zero_add,List.nil_append] at hB ⊢
     refine hK _ _ (D1.out _ _ _ _ hB) (fun hS=>?_)
     clear hK K
     (try simp only [Act.put,List.setIfInBounds_toArray,List.set_cons_zero,List.set_cons_succ,List.getElem_toArray,List.getElem_cons_zero,List.getElem_cons_succ])
     obtain ⟨q1,q2,q3,q4,q5⟩:=hS
     (refine A0d (v:=?_) rfl (by rfl) ?_ ?_;rotate_left;(· (intro w' hS;(try dsimp only at hS);go_simp;try with_reducible rfl));(try simp only [Act.put,List.setIfInBounds_toArray,List.set_cons_zero,List.set_cons_succ,List.getElem_toArray,List.getElem_cons_zero,List.getElem_cons_succ]))
     refine A0i rfl (by rfl) (fun K hK=>?_)
     go_simp
     refine hK _ _ ?_ (fun hS=>?_)
     ·simp [World.cell?_alloc_some,q1,q2,q3,q4,q5]
     clear hK K
     (try simp only [Act.put,List.setIfInBounds_toArray,List.set_cons_zero,List.set_cons_succ,List.getElem_toArray,List.getElem_cons_zero,List.getElem_cons_succ])
     obtain ⟨q1',q2',q3',q4',q5'⟩:=hS
     refine A0i rfl (by rfl) (fun K hK=>?_)
     go_simp
     refine hK _ _ ?_ (fun hS=>?_)
     ·simp [World.cell?_alloc_some,q1,q2,q3,q4,q5]
     clear hK K hS q1 q2 q3 q4 q5 q1' q2' q3' q4' q5'
     (try simp only [Act.put,List.setIfInBounds_toArray,List.set_cons_zero,List.set_cons_succ,List.getElem_toArray,List.getElem_cons_zero,List.getElem_cons_succ])
     have hsq:Hid (Src Tryz.prog 1 138 (.slice (some ⟨w4.heap.size+1,0,none⟩) 1 1) 1 [.pointer (some ⟨w4.heap.size,0,none⟩)] ((w4.alloc (.cells #[.slice b4 (F f).1.length cap4,.int .i64 (F f).2] 129)).alloc (.cells #[.pointer (some ⟨w4.heap.size,0,none⟩)] 123))):=
      Src.ofNew Tryz.underlying138 (w4.alloc (.cells #[.slice b4 (F f).1.length cap4,.int .i64 (F f).2] 129)) #[.pointer (some ⟨w4.heap.size,0,none⟩)] 123 (w4.heap.size+1) (by simp) 1 1 rfl (by simp [Value.oneCell'])
     refine A0i rfl (by rfl) (fun K hK=>?_)
     refine A3q (.tmp 39) (.tmp 53) 138 138 (by rfl) 123 p0 _ 1 8 Tryz.underlying138 hp hp0 hp1 hp2 rfl (by decide) (.slice am L.length cm) L.length (A1c M) (by rfl) (D2.out _ _ _ _ _ _ hB) _ 1 _ (by rfl) hsq.out hbb ?_
     intro a6 cap6 w6 hC
     have k7:=A0b (OR7.out w4 b4 cap4 w6 a6 cap6 hB hC)
     obtain ⟨r1,r2,r3⟩:=C6.out _ _ _ _ _ _ _ _ _ _ hB hC
     refine hK _ _ r1 (fun hS=>?_)
     obtain ⟨_,_,_,r4,_⟩:=r1
     clear hK K hS hB hC
     (try simp only [Act.put,List.setIfInBounds_toArray,List.set_cons_zero,List.set_cons_succ,List.getElem_toArray,List.getElem_cons_zero,List.getElem_cons_succ])
     refine A0k ?_
     simp only [List.drop_succ_cons,List.drop_zero]
     go_wp2
     generalize hW7:w6.setCell ⟨bm,0,none⟩ (.slice a6 (L.length+1) cap6)=W7 at k7 r3 ⊢
     clear hW7 r2 r4
     generalize hmf:w4.heap.size=mf at k7
     clear hmf
     have hl7:=k7.out.cs.ml
     have hlen7:(L ++ [f]).length=L.length+1:=by simp
     rw [hlen7] at hl7
     obtain ⟨a7,c7,e7,hm1',hm2',hm3',_,_⟩:=A0g hl7
     cases e7
     obtain ⟨g6,rfl⟩:=hm3' (by omega)
     unfold maxLen at hm2'
     have m1:W7.cell? ⟨bm,0,none⟩=some (.slice (some ⟨g6,0,none⟩) (L.length+1) cap6):=by have:=k7.out.cs.mb;simp [World.cell?,this]
     have m2:W7.cell? ⟨g6,L.length,none⟩=some (.pointer (some ⟨mf,0,none⟩)):=by
      refine A0j hl7 (g:=g6) rfl ?_
      have hml:M.length=L.length:=K2.out.made_len
      unfold A1c
      rw [List.map_append,List.getElem?_append_right (by simp [hml])]
      simp [hml]
     have hown:Hid (((W7.drew).alloc (.cells #[.string nm,.pointer (some ⟨mf,0,none⟩)] 125)).ownsRow 0 125 2 u5 ne (A0s es')):=HNE.out ▸ (k7.out.quiet ((Chg.refl _ W7).drew.alloc _)).ent
     have hsr2:Hid (Src Tryz.prog 2 92 (.slice (some ⟨W7.heap.size,0,none⟩) 1 1) 1 [.string nm,.pointer (some ⟨mf,0,none⟩)] ((W7.drew).alloc (.cells #[.string nm,.pointer (some ⟨mf,0,none⟩)] 125))):=
      Src.ofNew Tryz.underlying92 W7.drew #[.string nm,.pointer (some ⟨mf,0,none⟩)] 125 W7.heap.size (by simp) 1 1 rfl (by simp [Value.oneCell'])
     have hbb2:(ne+1)*24≤140737488355328:=by omega
     have hfin:Hid (∀ b8 cap8 w8,App ((W7.drew).alloc (.cells #[.string nm,.pointer (some ⟨mf,0,none⟩)] 125)) w8 125 2 u5 (.slice b8 (ne+1) cap8) (ne+1) (A0s es' ++ [.string nm,.pointer (some ⟨mf,0,none⟩)])→OR N w bo bm F old made vo vm VB es (i+1) (.slice b8 (ne+1) cap8) w8):=by
      intro b8 cap8 w8 hA
      have hml:M.length=L.length:=K2.out.made_len
      exact ⟨_,_,_,_,_,_,(k7.out.quiet ((Chg.refl _ W7).drew.alloc (.cells #[.string nm,.pointer (some ⟨mf,0,none⟩)] 125))).push (j:=L.length) (mf:=mf) hli HNM.out HFF.out (by simp) (by simp [← hml]) (Nat.le_refl _) (by rw [HNE.out];exact hA)⟩
     have j0:(0:Int)≤(L.length:Int):=Int.natCast_nonneg _
     obtain ⟨nl,hnl,j1⟩:∃ nl:Nat,L.length+1=nl∧(L.length:Int)<(nl:Int):=⟨_,rfl,by omega⟩
     rw [hnl] at m1
     clear hl7 hlen7 hm3' hsq k7 hbb hnl
     refine A0e (fun w'=>w'.cell? ⟨w1.heap.size,0,none⟩=some (.string nm)∧w'.cell? ⟨bm,0,none⟩=some (.slice (some ⟨g6,0,none⟩) nl cap6)∧w'.cell? ⟨g6,L.length,none⟩=some (.pointer (some ⟨mf,0,none⟩))) 9
      [(0,true),(1,true),(2,true),(3,true),(4,true),(5,true),(6,true),(7,true),(8,false)] (by kernel_rfl) (by kernel_rfl) (fun _ _ _ _ _ h=>h) ⟨r3,m1,m2⟩ ?_
     iterate 8 (refine A0d (v:=?_) rfl (by rfl) ?_ ?_;rotate_left;(· (intro w' hS;(try dsimp only at hS);go_simp;try with_reducible rfl));(try simp only [Act.put,List.setIfInBounds_toArray,List.set_cons_zero,List.set_cons_succ,List.getElem_toArray,List.getElem_cons_zero,List.getElem_cons_succ]))
     refine A0i rfl (by rfl) (fun K hK=>?_)
     go_simp
     refine hK _ _ ?_ (fun hS=>?_)
     ·simp [World.cell?_alloc_some,r3,m1,m2]
     clear hK K hS
     (try simp only [Act.put,List.setIfInBounds_toArray,List.set_cons_zero,List.set_cons_succ,List.getElem_toArray,List.getElem_cons_zero,List.getElem_cons_succ])
     refine A0k ?_
     simp only [List.drop_succ_cons,List.drop_zero]
     go_wp2_with (at_builtin;refine A0o rfl (.tmp 55) (.tmp 63) 92 92 rfl 125 i0 _ 2 24 Tryz.underlying92 hi0 hz0 hz1 hz2 rfl (by decide) u5 ne (A0s es') (by rfl) hown.out _ 1 _ (by rfl) hsr2.out hbb2 ?_;intro b8 cap8 w8 hD;have hf8:=A0b (hfin.out b8 cap8 w8 hD))
     go_roundw
     case rel=>exact ⟨i+1,by omega,by go_num,hf8.out⟩
     case measure=>simp [intOf];omega
  ·obtain rfl:i=es.length:=by omega
   go_wp2
   go_ret
   exact ⟨_,rfl,hor.out⟩
end Go.Proofs.YtodcnkbblippnaaGreatDoor
