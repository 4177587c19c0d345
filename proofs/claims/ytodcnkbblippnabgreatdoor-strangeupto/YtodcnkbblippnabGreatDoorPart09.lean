/- Part 9 of a proof: walks of the program. -/
import Derived.LaidEql
import Derived.StillTailTactics
import Derived.StillTactics
import Derived.Test.YtodcnkbblippnabGreatDoorPart07
namespace Go.Proofs.YtodcnkbblippnabGreatDoor
set_option maxRecDepth 100000
set_option maxHeartbeats 32000000
set_option linter.defProp false
open Go.Proofs.Tryz
section
open Go.RowKit
attribute [local go_sem ↓] Go.wp_at_zero Go.wp_at_succ
def A1U(l:List UInt8):∀u∈E6 l,u.oneCell'=true:=by
 intro u hu;obtain⟨x,_,rfl⟩:=C9.1 hu;rfl
def EX(l:List Nat):List Value:=l.map λf=>(A7 f)
structure CS (N:Nat) (w:World) (bo bm:Nat) (F:Nat->FC) (old made:List Nat) (vo vm:Value) (VB:Nat->Value):Prop where
 ob:w.heap[bo]?=some (.cells #[vo] 95 (0,0))
 mb:w.heap[bm]?=some (.cells #[vm] 95 (0,0))
 ne:bo≠bm
 ol:w.ownsRow 0 65 1 vo old.length (EX old)
 ml:w.ownsRow 0 65 1 vm old.length (EX made)
 Kn:∀g,vo.ownBlock=some g->vm.ownBlock=some g->False
 BL:∀i (h:i<made.length) (h':i<old.length),CY w (made[i]'h) (VB (made[i]'h)) (F (old[i]' h')).2/\FQ w (VB (made[i]'h)) (F (old[i]' h')).1
 I7:∀f∈old,f<N/\∃c,w.heap[f]?=some (.cells c 68 (0,0))
 I8:old.Nodup
 OF:made.Nodup
 Gb:∀m m' g,m∈made->m'∈made->(VB m).ownBlock=some g->(VB m').ownBlock=some g->m=m'
 Ia:N<=bo
 IM:N<=bm
 IK:∀g,vo.ownBlock=some g->N<=g
 IL:∀g,vm.ownBlock=some g->N<=g
 O0:∀m∈made,N<=m
 O1:∀m∈made,∀g,(VB m).ownBlock=some g->N<=g
def CF(bo bm:Nat)(vo vm:Value):Nat->Prop:=λk=>k=bo\/k=bm\/vo.ownBlock=some k\/vm.ownBlock=some k
def Ren(old made:List Nat)(es aA:List AI):Prop:=
 aA.length=es.length/\∀k (h:k<es.length) (z:k<aA.length),(aA[k]'z).1=(es[k]'h).1/\∃i:Nat,old[i]?=some (es[k]'h).2/\made[i]?=some (aA[k]'z).2
def CB(bo bm:Nat)(vo vm:Value)(made:List Nat)(VB:Nat->Value):Nat->Prop:=λk=>
 k=bo\/k=bm\/vo.ownBlock=some k\/vm.ownBlock=some k\/k∈made\/∃m∈made,(VB m).ownBlock=some k
def Ren.ae{old made H z:List Nat}{es aA:List AI}(h:Ren old made es aA):Ren (old++H) (made++z) es aA:=by
 refine⟨h.1,λk O I=>⟨(h.2 k O I).1,?_⟩⟩;have⟨i,h1,h2⟩:=(h.2 k O I).2;refine⟨i,?_,?_⟩
 ·rw[Iw (Hs.1 h1).1];exact h1
 ·rw[Iw (Hs.1 h2).1];exact h2
def Ren.cj{old made:List Nat}{es aA:List AI}(h:Ren old made es aA){i f m:Nat}{n:ByteArray}(Y:old[i]?=some f)(X:made[i]?=some m):Ren old made (es++[(n,f)]) (aA++[(n,m)]):=by
 refine⟨by simp[h.1],λk I hk'=>?_⟩;by_cases H:k<es.length
 ·have z:k<aA.length:=by have:=h.1;omega
  rw[F9 H,F9 z];exact h.2 k H z
 ·have O:k=es.length:=by simp at I;omega
  have e2:k=aA.length:=by have:=h.1;omega
  subst O;refine⟨?_,i,?_⟩
  ·rw[Gl (by omega),Gl (by omega)];simp
  ·rw[Gl (by omega),Gl (by omega)];simp[Y,X]
def CS.bW{N:Nat}{w:World}{bo bm:Nat}{F:Nat->FC}{old made:List Nat}{vo vm:Value}{VB:Nat->Value}(h:CS N w bo bm F old made vo vm VB):made.length=old.length:=by
 have:=h.ml.1;simpa[EX] using this
def CS.lt{N:Nat}{w:World}{bo bm:Nat}{F:Nat->FC}{old made:List Nat}{vo vm:Value}{VB:Nat->Value}(h:CS N w bo bm F old made vo vm VB){k:Nat}(z:CB bo bm vo vm made VB k):k<w.heap.size:=by
 have hl:=h.bW;rcases z with rfl|rfl|z|z|z|⟨m,I,z⟩
 ·exact Bo h.ob
 ·exact Bo h.mb
 ·exact AG h.ol z
 ·exact AG h.ml z
 ·obtain⟨i,H,rfl⟩:=Ee z;exact Bo (h.BL i H (by omega)).1
 ·obtain⟨i,H,rfl⟩:=Ee I;exact AG (h.BL i H (by omega)).2 z
def CS.aM{N:Nat}{w w':World}{bo bm:Nat}{F:Nat->FC}{old made:List Nat}{vo vm:Value}{VB:Nat->Value}(h:CS N w bo bm F old made vo vm VB)(z:G3 (CB bo bm vo vm made VB) w w')(Y:G3 (λk=>k∈old) w w'):CS N w' bo bm F old made vo vm VB:=by
 refine⟨(z bo (.inl rfl)).trans h.ob,(z bm (.inr (.inl rfl))).trans h.mb,h.ne,AA h.ol λg H=>z g (.inr (.inr (.inl H))),AA h.ml λg H=>z g (.inr (.inr (.inr (.inl H)))),h.Kn,λi X I=>?_,
  λf O=>⟨(h.I7 f O).1,?_⟩,h.I8,h.OF,h.Gb,h.Ia,h.IM,h.IK,h.IL,h.O0,h.O1⟩
 ·have⟨h1,h2⟩:=h.BL i X I;refine⟨?_,AA h2 λg H=>z g (.inr (.inr (.inr (.inr (.inr ⟨_,BS X,H⟩)))))⟩;unfold CY at h1 ⊢;rw[z _ (.inr (.inr (.inr (.inr (.inl (BS X))))))];exact h1
 ·have⟨c,hc⟩:=(h.I7 f O).2;exact⟨c,(Y f O).trans hc⟩
def CS.An{N:Nat}{w w':World}{bo bm:Nat}{F:Nat->FC}{old made:List Nat}{vo vm:Value}{VB:Nat->Value}{S:Nat->Prop}(h:CS N w bo bm F old made vo vm VB)(H:A5 S w w')(I:∀k,CB bo bm vo vm made VB k->¬S k)(O:∀k,k<N->¬S k):CS N w' bo bm F old made vo vm VB:=
 h.aM (λk z=>H.Ao k (h.lt z) (I k z)) λk z=>H.Ao k (Bo (h.I7 k z).2.choose_spec) (O k (h.I7 k z).1)
def Tryz.eh:(Tryz.prog.info? 68).map (λi=>(i.zero,i.size,i.bytes))=some (some (.agg #[.slice none 0 0,A0 0]),2,32):=by kernel_rfl
def Tryz.fa:(Tryz.prog.info? 65).map (λi=>(i.zero,i.size,i.bytes))=some (some (.pointer none),1,8):=by kernel_rfl
def Yh(W:World)(d x f:Nat)(H I:Array Value)(O:W.heap[x]?=some (.cells H 68 (0,0)))(z:W.heap[f]?=some (.cells I 68 (0,0)))(h:x≠f):
 (Op.equalIn (d+1) 65 (.pointer (some ⟨x,0,none⟩)) (.pointer (some ⟨f,0,none⟩))).run Tryz.prog W=.ok false W:=by
 have⟨j0,hj,hy0,hy1,hy2⟩:=Eb Tryz.eh;have:=run_sameAddr_other (P:=Tryz.prog) W (a:=⟨x,0,none⟩) (b:=⟨f,0,none⟩) (by simp) O z;simp[Op.equalIn,run_underlying underlying65,typeInfo,sizeOf,hj,hy1,this]
def Yg(W:World)(d x:Nat):(Op.equalIn (d+1) 65 (A7 x) (A7 x)).run Tryz.prog W=.ok true W:=by
 have⟨j0,hj,_,_,_⟩:=Eb Tryz.eh;simp[Op.equalIn,run_underlying underlying65,typeInfo,sizeOf,hj,run_sameAddr_same]
def Yj(W:World)(x f:Nat)(H z:Array Value)(O:W.heap[x]?=some (.cells H 68 (0,0)))(I:W.heap[f]?=some (.cells z 68 (0,0)))(h:x≠f):
 (binOp .neq 65 (.pointer (some ⟨x,0,none⟩)) (.pointer (some ⟨f,0,none⟩))).run Tryz.prog W=.ok (.bool true) W:=by
 simp only[binOp];simp[Op.equal,Op.maxDepth,Yh W 9999 x f H z O I h]
def Yi(W:World)(x:Nat):(binOp .neq 65 (A7 x) (A7 x)).run Tryz.prog W=.ok (.bool false) W:=by
 simp only[binOp];simp[Op.equal,Op.maxDepth,Yg W 9999 x]
structure Et (N:Nat) (w:World) (bo bm:Nat) (F:Nat->FC) (old made:List Nat) (vo vm:Value) (VB:Nat->Value) (es:List AI) (i cn:Nat) (ov:Value) (wr:World) (L M:List Nat) (aB aD:Value) (VB':Nat->Value) (aA:List AI):Prop where
 cs:CS N wr bo bm F L M aB aD VB'
 Er:CG wr ov aA
 ren:Ren L M (es.take i) aA
 G9:∃old',L=old++old'/\old'.length<=cn/\∀f∈old',D9 f es
 Jv:∃made',M=made++made'/\∀m∈made',w.heap.size<=m
 AS:∀g,ov.ownBlock=some g->w.heap.size<=g
 An:A5 (CF bo bm vo vm) w wr
 KX:∀g,aB.ownBlock=some g->vo.ownBlock=some g\/w.heap.size<=g
 Mu:∀g,aD.ownBlock=some g->vm.ownBlock=some g\/w.heap.size<=g
 OX:∀m∈made,VB' m=VB m
def OR(N:Nat)(w:World)(bo bm:Nat)(F:Nat->FC)(old made:List Nat)(vo vm:Value)(VB:Nat->Value)(es:List AI)(i:Nat)(ov:Value)(wr:World):Prop:=
 ∃L M aB aD VB' aA,Et N w bo bm F old made vo vm VB es i i ov wr L M aB aD VB' aA
def CS.cS{N:Nat}{w:World}{bo bm:Nat}{F:Nat->FC}{old made:List Nat}{vo vm:Value}{VB:Nat->Value}(h:CS N w bo bm F old made vo vm VB){k:Nat}(z:CB bo bm vo vm made VB k\/k∈old):∃c e,w.heap[k]?=some (.cells c e (0,0))/\e≠70:=by
 have hl:=h.bW;rcases z with (rfl|rfl|z|z|z|⟨m,I,z⟩)|z
 ·exact⟨_,_,h.ob,by decide⟩
 ·exact⟨_,_,h.mb,by decide⟩
 ·have⟨c,hc⟩:=Bd h.ol z;exact⟨c,_,hc,by decide⟩
 ·have⟨c,hc⟩:=Bd h.ml z;exact⟨c,_,hc,by decide⟩
 ·obtain⟨i,H,rfl⟩:=Ee z;exact⟨_,_,(h.BL i H (by omega)).1,by decide⟩
 ·obtain⟨i,H,rfl⟩:=Ee I;have⟨c,hc⟩:=Bd (h.BL i H (by omega)).2 z;exact⟨c,_,hc,by decide⟩
 ·have⟨c,hc⟩:=(h.I7 k z).2;exact⟨c,_,hc,by decide⟩
section
variable{N:Nat}{w wr W w3:World}{bo bm:Nat}{F:Nat->FC}{old made:List Nat}{vo vm:Value}{VB:Nat->Value}{es:List AI}{i cn:Nat}{ov:Value}{L M:List Nat}{aB aD:Value}{VB':Nat->Value}{aA:List AI}
def Et.bY(h:Et N w bo bm F old made vo vm VB es i cn ov wr L M aB aD VB' aA)(z:A5 Ab wr W):Et N w bo bm F old made vo vm VB es i cn ov W L M aB aD VB' aA:=
 ⟨h.cs.An z (λ_ _ h=>h) (λ_ _ h=>h),AA h.Er λg H=>z.Ao g (AG h.Er H) (λh=>h),h.ren,h.G9,h.Jv,h.AS,h.An.AJ z (λ_ h _=>h.elim),h.KX,h.Mu,h.OX⟩
def Et.cj(h:Et N w bo bm F old made vo vm VB es i cn ov W L M aB aD VB' aA){j f mf:Nat}{nm:ByteArray}{v':Value}(O:i<es.length)(Y:(es[i]'O).1=nm)(X:(es[i]'O).2=f)(hj:L[j]?=some f)(hm:M[j]?=some mf)(hcn:cn<=i+1)(I:App W w3 70 2 ov v' (aA.length+1) (BW aA++[.string nm,.pointer (some ⟨mf,0,none⟩)])):Et N w bo bm F old made vo vm VB es (i+1) (i+1) v' w3 L M aB aD VB' (aA++[(nm,mf)]):=by
 have hs:∀k,CB bo bm aB aD M VB' k\/k∈L->w3.heap[k]?=W.heap[k]?:=by
  intro k H;have⟨c,e,z,h2⟩:=h.cs.cS H
  exact I.Cp.block k (Bo z) (λe=>by
   have⟨c',h3⟩:=Bd h.Er e.symm
   exact BP z h3 h2 rfl)
 refine⟨h.cs.aM (λk H=>hs k (.inl H)) (λk H=>hs k (.inr H)),?_,?_,?_,h.Jv,?_,?_,h.KX,h.Mu,h.OX⟩
 ·have:=I.AP;unfold CG;rw[KU,AX];exact this
 ·rw[<-List.take_append_getElem O];have:es[i]'O=(nm,f):=by rw[<-Y,<-X]
  rw[this];exact h.ren.cj hj hm
 ·have⟨o,z,h2,h3⟩:=h.G9;exact⟨o,z,by omega,h3⟩
 ·intro g hg;rcases I.Cu with z|z
  ·exact h.AS g (z.symm.trans hg)
  ·rw[hg]at z;cases z;exact h.An.Am
 ·exact h.An.Cp I.Cp λk H hlt=>by have:=h.AS k H;omega
def Et.cC{w1 w2 O w6 aK:World}{f nq ne:Nat}{vb:Value}{a3 a6:Option Addr}{c3 c6:Nat}(h:Et N w bo bm F old made vo vm VB es i cn ov w1 L M aB aD VB' aA)(aV:L.length=ne)(hf:f∉L)(a4:D9 f es)(a0:f<N)(aW:∃c,w1.heap[f]?=some (.cells c 68 (0,0)))(aR:A5 (λ_=>False) w1 w2)(hA:App ((w2.drewN nq).alloc (.cells #[.pointer (some ⟨f,0,none⟩)] 65)) w3 65 1 aB (.slice a3 (ne+1) c3) (ne+1) (EX L++[.pointer (some ⟨f,0,none⟩)]))(aM:w3.setCell ⟨bo,0,none⟩ (.slice a3 (ne+1) c3)=aK)(hB:App aK.drew O 5 1 (.slice none 0 0) vb (F f).1.length (E6 (F f).1))(hC:App ((O.alloc (.cells #[vb,.int .i64 (F f).2] 68)).alloc (.cells #[.pointer (some ⟨O.heap.size,0,none⟩)] 65)) w6 65 1 aD (.slice a6 (ne+1) c6) (ne+1) (EX M++[.pointer (some ⟨O.heap.size,0,none⟩)])):
 Et N w bo bm F old made vo vm VB es i (cn+1) ov (w6.setCell ⟨bm,0,none⟩ (.slice a6 (ne+1) c6)) (L++[f]) (M++[O.heap.size]) (.slice a3 (ne+1) c3) (.slice a6 (ne+1) c6) (λm=>if m=O.heap.size then vb else VB' m) aA:=by
 subst aV;have hl:=h.cs.bW;have s2:=aR.Am;have s3:=hA.Cp.size;have s4:aK.heap.size<=O.heap.size:=hB.Cp.size;have s6:=hC.Cp.size;have sW:aK.heap.size=w3.heap.size:=by rw[<-aM];simp
 simp only[MF,World.heap_drewN]at s3 s6;have aX:=Bo h.cs.ob;have a5:=Bo h.cs.mb;have a2:∀g,aB.ownBlock=some g->g<w1.heap.size:=λg z=>AG h.cs.ol z;have aJ:∀g,aD.ownBlock=some g->g<w1.heap.size:=λg z=>AG h.cs.ml z;have k3:=((((aR.aZ (S:=λk=>aB.ownBlock=some k))).bb nq).aj (.cells #[.pointer (some ⟨f,0,none⟩)] 65)).Cp hA.Cp (λk hk _=>hk);have aI:=((((A5.C (λk=>aD.ownBlock=some k) aK).ad.Cp hB.Cp (λk hk _=>by simp[Value.ownBlock]at hk)).aj (.cells #[vb,.int .i64 (F f).2] 68)).aj (.cells #[.pointer (some ⟨O.heap.size,0,none⟩)] 65)).Cp hC.Cp (λk hk _=>hk);have aS:=(k3.Ao bo aX (λe=>by have⟨c,hh⟩:=Bd h.cs.ol e;exact BP hh h.cs.ob (by decide) rfl)).trans h.cs.ob;have a1:aK.heap[bo]?=some (.cells #[.slice a3 (L.length+1) c3] 95 (0,0)):=by rw[<-aM];exact CE aS
 have kW:A5 (One bo) w3 aK:=by rw[<-aM];exact(A5.C (One bo) w3).ao rfl 0 _
 have aQ:=(k3.Ao bm a5 (λe=>by have⟨c,hh⟩:=Bd h.cs.ol e;exact BP hh h.cs.mb (by decide) rfl)).trans h.cs.mb;have aO:=(kW.Ao bm (Bo aQ) (λe=>h.cs.ne e.symm)).trans aQ
 have aU:=(aI.Ao bm (Bo aO) (λe=>by
  have⟨c,hh⟩:=Bd h.cs.ml e;exact BP hh h.cs.mb (by decide) rfl)).trans aO
 have k7:A5 (One bm) w6 (w6.setCell ⟨bm,0,none⟩ (.slice a6 (L.length+1) c6)):=(A5.C (One bm) w6).ao rfl 0 _;have e7:(w6.setCell ⟨bm,0,none⟩ (.slice a6 (L.length+1) c6)).heap[bm]?=some (.cells #[.slice a6 (L.length+1) c6] 95 (0,0)):=CE aU;generalize aY:w6.setCell ⟨bm,0,none⟩ (.slice a6 (L.length+1) c6)=W7 at k7 e7 ⊢;have s7:W7.heap.size=w6.heap.size:=by rw[<-aY];simp
 have aT:A5 (λk=>k=bo\/k=bm\/aB.ownBlock=some k\/aD.ownBlock=some k) w1 W7:=by
  refine(((k3.ae (S':=λk=>k=bo\/k=bm\/aB.ownBlock=some k\/aD.ownBlock=some k) (λx _ I=>.inr (.inr (.inl I)))).AJ kW (λx I _=>.inl I)).AJ aI (λx I _=>.inr (.inr (.inr I)))).AJ k7 (λx I _=>.inr (.inl I))
 have key:∀(k:Nat) (c:Array Value) (e:Nat),w1.heap[k]?=some (Obj.cells c e (0,0))->e≠95->e≠65->W7.heap[k]?=w1.heap[k]?:=λk c e hk h1 h2=>
  aT.Ao k (Bo hk) (by
   rintro (rfl|rfl|z|z)
   ·exact BP hk h.cs.ob h1 rfl
   ·exact BP hk h.cs.mb h1 rfl
   ·have⟨c',hh⟩:=Bd h.cs.ol z;exact BP hk hh h2 rfl
   ·have⟨c',hh⟩:=Bd h.cs.ml z;exact BP hk hh h2 rfl)
 have aG:∀g,(Value.slice a3 (L.length+1) c3).ownBlock=some g->aB.ownBlock=some g\/(w1.heap.size<=g/\g<w3.heap.size):=λg z=>by
  have X:=AG hA.AP z;rcases hA.Cu with e|e
  ·rw[e]at z;exact .inl z
  ·rw[e]at z;cases z;right;simp at X ⊢;omega
 have aN:∀g,(Value.slice a6 (L.length+1) c6).ownBlock=some g->aD.ownBlock=some g\/O.heap.size+2<=g:=λg z=>by
  rcases hC.Cu with e|e
  ·rw[e]at z;exact .inl z
  ·rw[e]at z;cases z;right;simp
 have aH:∀g,vb.ownBlock=some g->aK.heap.size<=g:=λg z=>by
  rcases hB.Cu with e|e
  ·rw[e]at z;simp[Value.ownBlock]at z
  ·rw[e]at z;cases z;simp
 have hM:∀m∈M,m<w1.heap.size:=λm H=>h.cs.lt (.inr (.inr (.inr (.inr (.inl H)))));have aP:∀m∈M,∀g,(VB' m).ownBlock=some g->g<w1.heap.size:=λm H g z=>h.cs.lt (.inr (.inr (.inr (.inr (.inr ⟨m,H,z⟩)))));have hNw:N<=w1.heap.size:=by have:=h.cs.Ia;omega
 have hww:=h.An.Am;have oL:W7.ownsRow 0 65 1 (.slice a3 (L.length+1) c3) (L.length+1) (EX L++[.pointer (some ⟨f,0,none⟩)]):=by
  have q1:=
   AA hA.AP λg z=>kW.Ao g (AG hA.AP z) (λe=>by have⟨c,hh⟩:=Bd hA.AP z;exact BP hh aS (by decide) e)
  have q2:=AA q1 λg z=>by
   have X:=AG hA.AP z;refine aI.Ao g (by omega) (λe=>?_);rcases aG g z with e2|e2
   ·exact h.cs.Kn g e2 e
   ·have:=aJ g e;omega
  refine AA q2 λg z=>?_;have X:=AG hA.AP z;refine k7.Ao g (by omega) (λe=>?_);rcases aG g z with e2|e2
  ·have⟨c,hh⟩:=Bd h.cs.ol e2;exact BP hh h.cs.mb (by decide) e
  ·have:g=bm:=e;omega
 have oM:W7.ownsRow 0 65 1 (.slice a6 (L.length+1) c6) (L.length+1) (EX M++[.pointer (some ⟨O.heap.size,0,none⟩)]):=by
  refine AA hC.AP λg z=>k7.Ao g (AG hC.AP z) (λe=>?_);have⟨c,hh⟩:=Bd hC.AP z;exact BP hh aU (by decide) e
 have fB:CY W7 O.heap.size vb (F f).2:=by
  have h5:((O.alloc (.cells #[vb,.int .i64 (F f).2] 68)).alloc (.cells #[.pointer (some ⟨O.heap.size,0,none⟩)] 65)).heap[O.heap.size]?=some (.cells #[vb,.int .i64 (F f).2] 68 (0,0)):=by
   rw[CU _ _ _ (by simp)];exact BN _ _
  have h6:=(hC.Cp.block _ (by simp;omega) (λe=>by have:=aJ _ e.symm;omega)).trans h5;exact(k7.Ao _ (by omega) (λe=>by have:O.heap.size=bm:=e;omega)).trans h6
 have bB:FQ W7 vb (F f).1:=by
  refine AA hB.AP λg z=>?_;have X:=AG hB.AP z;have hge:=aH g z;have h5:((O.alloc (.cells #[vb,.int .i64 (F f).2] 68)).alloc (.cells #[.pointer (some ⟨O.heap.size,0,none⟩)] 65)).heap[g]?=O.heap[g]?:=by
   rw[CU _ _ _ (by simp;omega),CU _ _ _ X]
  rw[<-h5,<-hC.Cp.block g (by simp;omega) (λe=>by have:=aJ _ e.symm;omega)];exact k7.Ao _ (by omega) (λe=>by have:g=bm:=e;omega)
 have aE:O.heap.size∉M:=λH=>by have:=hM _ H;omega
 have aZ:CS N W7 bo bm F (L++[f]) (M++[O.heap.size]) (.slice a3 (L.length+1) c3) (.slice a6 (L.length+1) c6) (λm=>if m=O.heap.size then vb else VB' m):=by
  refine⟨?_,e7,h.cs.ne,?_,?_,?_,?_,?_,?_,?_,?_,h.cs.Ia,h.cs.IM,?_,?_,?_,?_⟩
  ·refine(k7.Ao bo (by omega) h.cs.ne).trans ((aI.Ao bo (by omega) (λe=>?_)).trans a1);have⟨c,hh⟩:=Bd h.cs.ml e;exact BP hh h.cs.ob (by decide) rfl
  ·simpa[EX] using oL
  ·simpa[EX] using oM
  ·intro g h1 h2;rcases aG g h1 with e1|e1<;>rcases aN g h2 with e2|e2
   ·exact h.cs.Kn g e1 e2
   ·have:=a2 g e1;omega
   ·have:=aJ g e2;omega
   ·omega
  ·intro j hj a8;by_cases X:j<M.length
   ·(have aL:j<L.length:=by omega);have H:M[j]'X≠O.heap.size:=λe=>aE (e ▸ BS X);have⟨q1,q2⟩:=h.cs.BL j X aL;simp only[F9 X,F9 aL,H,C4];refine⟨?_,AA q2 λg z=>?_⟩
    ·unfold CY at q1 ⊢;rw[key _ _ _ q1 (by decide) (by decide)];exact q1
    ·have⟨c,hh⟩:=Bd q2 z;exact key _ _ _ hh (by decide) (by decide)
   ·(obtain rfl:j=M.length:=by simp at hj;omega);(have e1:(M++[O.heap.size])[M.length]'hj=O.heap.size:=by simp);(have e2:(L++[f])[M.length]'a8=f:=by simp[hl]);rw[e1,e2];simp only[Cn];exact⟨fB,bB⟩
  ·intro x I;rcases AU.1 I with I|I
   ·have⟨q1,c,q2⟩:=h.cs.I7 x I;exact⟨q1,c,(key _ _ _ q2 (by decide) (by decide)).trans q2⟩
   ·simp at I;subst I;obtain⟨c,hc⟩:=aW;exact⟨a0,c,(key _ _ _ hc (by decide) (by decide)).trans hc⟩
  ·refine GD.2 ⟨h.cs.I8,by simp,λa ha b hb e=>?_⟩;simp at hb;subst hb;subst e;exact hf ha
  ·refine GD.2 ⟨h.cs.OF,by simp,λa ha b hb e=>?_⟩;simp at hb;subst hb;subst e;exact aE ha
  ·intro m m' g H Y z aF;rcases AU.1 H with H|H<;>rcases AU.1 Y with Y | Y
   ·have n1:m≠O.heap.size:=λe=>aE (e ▸ H);have n2:m'≠O.heap.size:=λe=>aE (e ▸ Y);simp only[n1,n2,C4]at z aF;exact h.cs.Gb m m' g H Y z aF
   ·have n1:m≠O.heap.size:=λe=>aE (e ▸ H);simp at Y;subst Y;simp only[n1,C4]at z;simp at aF;have:=aP m H g z;have:=aH g aF;omega
   ·have n1:m'≠O.heap.size:=λe=>aE (e ▸ Y);simp at H;subst H;simp only[n1,C4]at aF;simp at z;have:=aP m' Y g aF;have:=aH g z;omega
   ·simp at H Y;rw[H,Y]
  ·intro g z;rcases aG g z with e|e
   ·exact h.cs.IK g e
   ·omega
  ·intro g z;rcases aN g z with e|e
   ·exact h.cs.IL g e
   ·omega
  ·intro m H;rcases AU.1 H with H|H
   ·exact h.cs.O0 m H
   ·simp at H;omega
  ·intro m H g z;rcases AU.1 H with H|H
   ·have n1:m≠O.heap.size:=λe=>aE (e ▸ H);simp only[n1,C4]at z;exact h.cs.O1 m H g z
   ·simp at H;subst H;simp at z;have:=aH g z;omega
 refine⟨aZ,?_,h.ren.ae,?_,?_,h.AS,?_,?_,?_,?_⟩
 ·refine AA h.Er λg z=>?_;have⟨c,hh⟩:=Bd h.Er z;exact key _ _ _ hh (by decide) (by decide)
 ·have⟨o,h1,h2,h3⟩:=h.G9;refine⟨o++[f],by rw[h1,C6],by simp;omega,λx I=>?_⟩;rcases AU.1 I with I|I
  ·exact h3 x I
  ·simp at I;subst I;exact a4
 ·have⟨o,h1,h2⟩:=h.Jv;refine⟨o++[O.heap.size],by rw[h1,C6],λx I=>?_⟩;rcases AU.1 I with I|I
  ·exact h2 x I
  ·simp at I;omega
 ·refine h.An.AJ aT ?_;rintro x (rfl|rfl|I|I) X
  ·exact .inl rfl
  ·exact .inr (.inl rfl)
  ·rcases h.KX x I with e|e
   ·exact .inr (.inr (.inl e))
   ·omega
  ·rcases h.Mu x I with e|e
   ·exact .inr (.inr (.inr e))
   ·omega
 ·intro g z;rcases aG g z with e|e
  ·exact h.KX g e
  ·right;omega
 ·intro g z;rcases aN g z with e|e
  ·exact h.Mu g e
  ·right;omega
 ·intro m H;have⟨o,h1,_⟩:=h.Jv;have a7:m∈M:=by rw[h1];exact AU.2 (.inl H)
  have n1:m≠O.heap.size:=λe=>aE (e ▸ a7);simp only[n1,C4];exact h.OX m H
end
def Yw(N:Nat)(w:World)(bo bm:Nat)(F:Nat->FC)(old made:List Nat)(vo vm:Value)(VB:Nat->Value)(h:CS N w bo bm F old made vo vm VB)(es:List AI)(vl:Value)(bK:CG w vl es)(cI:∀g,vl.ownBlock=some g->g<N)(hn:es.length<1099511627776/\old.length<1099511627776)(hf:∀f,D9 f es->f<N/\(F f).1.length<=1099511627776/\∃v,CY w f v (F f).2/\FQ w v (F f).1/\∀g,v.ownBlock=some g->g<N):
 Aj 40 #[vl,A7 bo,A7 bm] w λe w'=>∃v,e=.returned v/\OR N w bo bm F old made vo vm VB es es.length v w':=by
 have H:=A4 h;have bN:=A4 hf;have cV:=A4 bK;have cZ:=A4 cI;obtain⟨a,cap,rfl,hle,b9,he⟩:=bK.BV;have cX:=A4 he;obtain⟨hn1,hn2⟩:=hn;unfold maxLen at b9
 go_enter func40,ntmps40
 go_wp2;go_loopw [5,11] (λov iv wr=>∃i:Nat,i<=es.length/\iv=A0 i/\Hid (OR N w bo bm F old made vo vm VB es i ov wr)) (λ_ iv _=>es.length-(intOf iv).toNat)
 ·exact⟨0,C8 _,rfl,old,made,vo,vm,VB,[],H.o,CL _ _ _ _,⟨by simp,by simp⟩,⟨[],by simp⟩,⟨[],by simp⟩,by simp[Value.ownBlock],A5.C _ _,λ_ h=>.inl h,λ_ h=>.inl h,λ_ _=>rfl⟩
 ·obtain⟨i,hi,rfl,bF⟩:=hrel;by_cases aI:i<es.length
  ·have⟨L,M,aB,aD,VB',aA,k0⟩:=bF.o;have k1:=k0.cs;have k6:=k0.An;obtain⟨g,rfl,e1,e2⟩:=cX.o i aI;have hgN:=cZ.o g rfl;have a5:=AG cV.o (g:=g) rfl;have bI:¬CF bo bm vo vm g:=by
    rintro (rfl|rfl|hg|hg)
    ·have:=H.o.Ia;omega
    ·have:=H.o.IM;omega
    ·have:=H.o.IK g hg;omega
    ·have:=H.o.IL g hg;omega
   have e3:=(Dp (k6.Ao g a5 bI)).trans e1;have e4:=(Dp (k6.Ao g a5 bI)).trans e2;obtain⟨nm,bA⟩:∃nm,(es[i]'aI).1=nm:=⟨_,rfl⟩;obtain⟨f,aN⟩:∃f,(es[i]'aI).2=f:=⟨_,rfl⟩;rw[bA]at e3;rw[aN]at e4;have bO:=A4 k1;have bM:=A4 k6;have bS:=A4 <| (bN.o f ⟨_,BS aI,aN⟩).2.1;have cC:Hid (∃v,(∀g,v.oB g->g<N)/\∀W,A5 (CF bo bm vo vm) w W->CY W f v (F f).2/\FQ W v (F f).1):=by
    have⟨h1,_,v,h2,h3,h4⟩:=bN.o f ⟨_,BS aI,aN⟩;have key:∀k,k<N->¬CF bo bm vo vm k:=by
     rintro k hk (rfl|rfl|hg|hg)
     ·have:=H.o.Ia;omega
     ·have:=H.o.IM;omega
     ·have:=H.o.IK k hg;omega
     ·have:=H.o.IL k hg;omega
    refine⟨v,h4,λW hc=>⟨(hc.Ao f (Bo h2) (key f h1)).trans h2,AA h3 λg hg=>hc.Ao g (AG h3 hg) (key g (h4 g hg))⟩⟩
   have bJ:Hid (∀W:World,A5 (CF bo bm vo vm) w W->∃c,W.heap[f]?=some (.cells c 68 (0,0))):=by
    intro W hc;have⟨h1,_,v,h2,_⟩:=bN.o f ⟨_,BS aI,aN⟩;refine⟨_,(hc.Ao f (Bo h2) ?_).trans h2⟩;rintro (rfl|rfl|hg|hg)
    ·have:=H.o.Ia;omega
    ·have:=H.o.IM;omega
    ·have:=H.o.IK f hg;omega
    ·have:=H.o.IL f hg;omega
   have hLl:L.length<2199023255552:=by
    have⟨o,h1,h2,_⟩:=k0.G9;rw[h1,AX];omega
   (have hEl:aA.length=i:=by have:=k0.ren.1;rw[BU]at this;omega);have⟨i0,hi0,hz0,hz1,hz2⟩:=Eb Tryz.cI;have bE:=A4 bA;have aW:=A4 aN;obtain⟨ne,aV⟩:∃ne,aA.length=ne:=⟨_,rfl⟩;(have hne2:ne<1099511627776:=by omega);have aT:=A4 aV;have bQ:=A4 k0;obtain⟨ao,co,rfl,ho1,b7,cH,_,_⟩:=Bb k1.ol;unfold maxLen at b7;go_wp2;have cL:=A4 cH;obtain⟨Y,bR⟩:∃Y,Y=wr:=⟨_,rfl⟩;subst bR;have hsz:=Bo bO.o.ob;go_loopw [8] (λjv w2=>∃j:Nat,j<=L.length/\jv=A0 j/\Hid (∀m (h:m<L.length),m<j->L[m]'h≠f)/\Hid (A5 Ab (Y.aC #[.string nm,A7 f] 70) w2)) (λjv _=>L.length-(intOf jv).toNat)
   ·exact⟨0,C8 _,rfl,λm h hm=>by omega,A5.C _ _⟩
   ·obtain⟨j,hj,rfl,bB,aH⟩:=hrel;obtain⟨w2,bP⟩:∃w2,w2=wr:=⟨_,rfl⟩;subst bP;have bH:=A4 <| (bM.o.aj _).AJ aH.o (λ_ h _=>h.elim);have X:=A4 <| (bO.o.An ((A5.C Ab Y).aj _) (λ_ _ h=>h) (λ_ _ h=>h)).An aH.o (λ_ _ h=>h) (λ_ _ h=>h);(have b1:w2.cell? (Ad bo 0)=some (.slice ao L.length co):=by have:=X.o.ob;simp[World.cell?,this]);have hE:=(aH.o.Ao Y.heap.size (by simp) (λh=>h)).trans (BN Y _);(have b2:w2.cell? (Ad Y.heap.size 0)=some (.string nm):=by simp[World.cell?,hE]);(have b3:w2.cell? (Ad Y.heap.size 1)=some (A7 f):=by simp[World.cell?,hE]);by_cases aM:j<L.length
    ·obtain⟨go,rfl⟩:=cL.o (by omega);obtain⟨x,hx⟩:∃x,L[j]'aM=x:=⟨_,rfl⟩;have b4:w2.cell? (Ad go j)=some (A7 x):=by
      refine BB X.o.ol (g:=go) rfl ?_;unfold EX;rw[Po,Ef aM,hx];rfl
     have cF:=A4 hx;by_cases aZ:x=f
     ·subst aZ;have q:=λW=>Yi W x;go_wp2;go_quiet (fail);go_wp2;obtain⟨mf,a4⟩:∃mf,M[j]?=some mf:=⟨M[j]'(by rw[X.o.bW];exact aM),Ef _⟩;have⟨am,cm,hvm,hm1,hm2,aQ,_,_⟩:=Bb X.o.ml;subst hvm;obtain⟨gm,rfl⟩:=aQ (by omega);unfold maxLen at hm2;(have b5:w2.cell? (Ad bm 0)=some (AN gm L.length cm):=by have:=X.o.mb;simp[World.cell?,this]);have b6:w2.cell? (Ad gm j)=some (A7 mf):=by
       refine BB X.o.ml (g:=gm) rfl ?_;unfold EX;rw[Po,a4];rfl
      have bZ:=A4 a4;have aE:Hid (∀n,Et N w bo bm F old made vo vm VB es i i u5 ((w2.drewN n).aC #[.string nm,A7 mf] 70) L M (AN go L.length co) (AN gm L.length cm) VB' aA):=
       λn=>bQ.o.bY (((((A5.C Ab Y).aj _).tr aH.o).bb n).aj _)
      have aP:Hid (∀n,((w2.drewN n).aC #[.string nm,A7 mf] 70).ownsRow 0 70 2 u5 ne (BW aA)):=λn=>aT.o ▸ (aE.o n).Er;have aY:Hid (∀n,Src Tryz.prog 2 57 (AN w2.heap.size 1 1) 1 [.string nm,A7 mf] ((w2.drewN n).aC #[.string nm,A7 mf] 70)):=
       λn=>Src.ba underlying57 (w2.drewN n) #[.string nm,A7 mf] 70 w2.heap.size (by simp) 1 1 rfl (by simp[Value.oneCell'])
      (have aR:(ne+1)*24<=140737488355328:=by omega);have aO:Hid (∀n b3 I w3,App ((w2.drewN n).aC #[.string nm,A7 mf] 70) w3 70 2 u5 (.slice b3 (ne+1) I) (ne+1) (BW aA++[.string nm,A7 mf])->OR N w bo bm F old made vo vm VB es (i+1) (.slice b3 (ne+1) I) w3):=by
       intro n b3 I w3 hA;exact⟨_,_,_,_,_,_,(aE.o n).cj aI bE.o aW.o (by rw[Ef aM,cF.o]) bZ.o (by omega) (by rw[aT.o];exact hA)⟩
      go_region_law
       ((refine Jp ?_ (.tmp 55) (.tmp 63) 57 57 ?_ 70 i0 _ 2 24 underlying57 hi0 hz0 hz1 hz2 rfl (Nat.zero_lt_succ 23) u5 ne (BW aA) ?_ (aP.o (nq+1)) (AN w2.heap.size 1 1) 1 [.string nm,A7 mf] ?_ (aY.o (nq+1)) aR ?_;(· rfl);(· rfl);(· rfl);(· rfl);intro b3 I w3 hA;have bX:=A4 (aO.o (nq+1) b3 I w3 hA)))
      all_goals (go_wp2;go_roundw;(case rel=>exact⟨i+1,by omega,by go_num,bX.o⟩);(case measure=>simp[intOf];omega))
     ·have⟨cx,hcx⟩:=(X.o.I7 x (cF.o ▸ BS aM)).2;have q:∀n:Nat,(binOp .neq 65 (A7 x) (A7 f)).run Tryz.prog (w2.drewN n)=.ok (.bool true) (w2.drewN n):=by
       intro n;have⟨cf,hcf⟩:=bJ.o w2 (bH.o);exact Yj _ x f cx cf (by simpa using hcx) (by simpa using hcf) aZ
      go_wp2;go_quiet (fail);go_wp2;go_roundw
      ·refine⟨j+1,by omega,by go_num,λm h hm=>?_,aH.o.bb _⟩;by_cases bW:m=j
       ·subst bW;rw[cF.o];exact aZ
       ·exact bB.o m h (by omega)
      ·simp[intOf];omega
    ·(obtain rfl:j=L.length:=by omega);have⟨p0,hp,hp0,hp1,hp2⟩:=Eb Tryz.fa;have aY:Hid (∀n,Src Tryz.prog 1 95 (AN w2.heap.size 1 1) 1 [A7 f] ((w2.drewN n).aC #[A7 f] 65)):=
      λn=>Src.ba underlying95 (w2.drewN n) #[A7 f] 65 w2.heap.size (by simp) 1 1 rfl (by simp[Value.oneCell'])
     have bV:Hid (∀n,((w2.drewN n).aC #[A7 f] 65).ownsRow 0 65 1 (.slice ao L.length co) L.length (EX L)):=
      λn=>AA X.o.ol λg hg=>CU _ _ _ (by simpa using AG X.o.ol hg)
     (have aR:(L.length+1)*8<=140737488355328:=by omega)
     have cU:Hid (∀n w3 a3 I,App ((w2.drewN n).aC #[A7 f] 65) w3 65 1 (.slice ao L.length co) (.slice a3 (L.length+1) I) (L.length+1) (EX L++[A7 f])->
      w3.frozen? (Ad bo 0)=false/\w3.cell? (Ad bo 0)=some (.slice ao L.length co)/\A5 (λk=>k=bo\/(Value.slice ao L.length co).oB k) w2 (w3.setCell (Ad bo 0) (.slice a3 (L.length+1) I))):=by
      intro n w3 a3 I hA;have aV:(Value.slice ao L.length co).ownBlock≠some bo:=λe=>by
       have⟨c,hh⟩:=Bd X.o.ol e;exact BP hh X.o.ob (by decide) rfl
      have bD:w3.heap[bo]?=some (.cells #[.slice ao L.length co] 95 (0,0)):=by
       rw[hA.Cp.block bo (by have:=Bo X.o.ob;simp;omega) (λe=>aV e.symm),CU _ _ _ (by simpa using Bo X.o.ob)];exact X.o.ob
      refine⟨by simp[World.frozen?,bD],by simp[World.cell?,bD],?_⟩;exact((((A5.C _ w2).bb n).aj _).Cp hA.Cp (λk hk _=>.inr hk)).ao (.inl rfl) 0 _
     go_wp2;go_quiet (fail);go_wp2_with (at_builtin;refine De rfl (.tmp 34) (.tmp 37) 95 95 rfl 65 p0 _ 1 8 underlying95 hp hp0 hp1 hp2 rfl (by decide) _ _ _ (by rfl) (bV.o nq) _ 1 _ (by rfl) (aY.o nq) aR ?_;intro a3 I w3 hA;have c3:=A4 (cU.o nq w3 a3 I hA);have f3:=c3.o.1;have g3:=c3.o.2.1);have aK:=c3.o.2.2;generalize cD:w3.setCell (Ad bo 0) (.slice a3 (L.length+1) I)=W3 at aK ⊢;have C3b:=A4 aK;have cA:=A4 cD;have cP:=A4 hA;have⟨am,cm,hvm,hm1,hm2,aQ,_,_⟩:=Bb X.o.ml;subst hvm;unfold maxLen at hm2
     have cJ:=A4 <| bH.o.AJ aK (λx hx bC=>by
      rcases hx with rfl|hx
      ·exact .inl rfl
      ·rcases bQ.o.KX x hx with h|h
       ·exact .inr (.inr (.inl h))
       ·omega)
     have⟨vf,hvf1,hvf2⟩:=cC.o;have⟨aE,hq2⟩:=hvf2 W3 cJ.o;obtain⟨af,cf,rfl,hf1,bY⟩:=hq2.BV;unfold maxLen at bY;have d1:=aE.c0;have d2:=aE.c1;have b0:¬(Value.slice ao L.length co).oB bm:=λe=>by
      have⟨c,hh⟩:=Bd X.o.ol e;exact BP hh X.o.mb (by decide) rfl
     have aL:=
      (aK.Ao bm (Bo X.o.mb) (λe=>e.elim (λe=>X.o.ne e.symm) b0)).trans X.o.mb
     (have d3:W3.cell? (Ad bm 0)=some (.slice am L.length cm):=by simp[World.cell?,aL]);(have hge:Y.heap.size<=w2.heap.size:=by have:=aH.o.Am;simp at this;omega);have cE:∀g,(Value.slice ao L.length co).oB g->g<Y.heap.size:=λg hg=>AG bO.o.ol hg;have aG:=(aK.Ao Y.heap.size (by have:=aH.o.Am;simp at this;omega) (λe=>e.elim (λe=>by omega) (λe=>by have:=cE _ e;omega))).trans ((aH.o.Ao Y.heap.size (by simp) (λh=>h)).trans (BN Y _));(have d4:W3.cell? (Ad Y.heap.size 0)=some (.string nm):=by simp[World.cell?,aG]);(have d5:W3.cell? (Ad Y.heap.size 1)=some (A7 f):=by simp[World.cell?,aG]);have⟨y0,hy,hy0,hy1,hy2⟩:=Eb Tryz.infoByte;have cB:=A4 <| Src.bM (w:=W3.drew) underlying66 hq2 (A1U _);(have cO:(0+(F f).1.length)*1<=140737488355328:=by have:=bS.o;omega);have cQ:Hid (∀O v4 n xs,App W3.drew O 5 1 (.slice none 0 0) v4 n xs->O.cell? (Ad Y.heap.size 1)=some (A7 f)/\O.cell? (Ad f 0)=some (.slice af (F f).1.length cf)/\O.cell? (Ad f 1)=some (A0 (F f).2)/\O.cell? (Ad bm 0)=some (.slice am L.length cm)/\O.cell? (Ad Y.heap.size 0)=some (.string nm)):=by
      intro O v4 n xs hB;have hc:∀k o,W3.heap[k]?=some o->O.heap[k]?=some o:=λk o ho=>(hB.bL.Ao k (Bo ho) (λh=>h)).trans ho
      exact⟨(Dp ((hc _ _ aG).trans aG.symm)).trans d5,(Dp ((hc _ _ aE).trans aE.symm)).trans d1,(Dp ((hc _ _ aE).trans aE.symm)).trans d2,(Dp ((hc _ _ aL).trans aL.symm)).trans d3,(Dp ((hc _ _ aG).trans aG.symm)).trans d4⟩
     have cY:Hid (∀O v4 n xs o1 o2,App W3.drew O 5 1 (.slice none 0 0) v4 n xs->((O.alloc o1).alloc o2).ownsRow 0 65 1 (.slice am L.length cm) L.length (EX M)):=by
      intro O v4 n xs o1 o2 hB
      have aQ:=AA X.o.ml λg hg=>aK.Ao g (AG X.o.ml hg) (by
       rintro (e|e)
       ·have⟨c,hh⟩:=Bd X.o.ml hg;exact BP hh X.o.ob (by decide) e
       ·exact X.o.Kn g e hg)
      have a8:=AA aQ λg hg=>hB.bL.Ao g (AG aQ hg) (λh=>h);have a9:(O.alloc o1).ownsRow 0 65 1 (.slice am L.length cm) L.length (EX M):=AA a8 λg hg=>CU _ _ _ (AG a8 hg);exact AA a9 λg hg=>CU _ _ _ (AG a9 hg)
     have cS:Hid (∀O v4 n xs o1 o2 w6 a6 z ys,App W3.drew O 5 1 (.slice none 0 0) v4 n xs->App ((O.alloc o1).alloc o2) w6 65 1 (.slice am L.length cm) (.slice a6 (L.length+1) z) (L.length+1) ys->
      (w6.cell? (Ad Y.heap.size 1)=some (A7 f)/\w6.cell? (Ad f 0)=some (.slice af (F f).1.length cf)/\w6.cell? (Ad f 1)=some (A0 (F f).2)/\w6.cell? (Ad bm 0)=some (.slice am L.length cm)/\w6.cell? (Ad Y.heap.size 0)=some (.string nm))/\w6.frozen? (Ad bm 0)=false/\(w6.setCell (Ad bm 0) (.slice a6 (L.length+1) z)).cell? (Ad Y.heap.size 0)=some (.string nm)):=by
      intro O v4 n xs o1 o2 w6 a6 z ys hB hC;have hc:∀k o,W3.heap[k]?=some o->(Value.slice am L.length cm).ownBlock≠some k->w6.heap[k]?=some o:=λk o ho hn=>by
       have h4:=(hB.bL.Ao k (Bo ho) (λh=>h)).trans ho;have h5:((O.alloc o1).alloc o2).heap[k]?=some o:=by
        rw[CU _ _ _ (by have:=Bo h4;simp;omega),CU _ _ _ (Bo h4)];exact h4
       exact(hC.Cp.block k (Bo h5) (λe=>hn e.symm)).trans h5
      have a0:∀k (c:Array Value) (e:Nat),W3.heap[k]?=some (Obj.cells c e (0,0))->e≠65->(Value.slice am L.length cm).ownBlock≠some k:=λk c e hk he hn=>by
       have bC:=AG X.o.ml hn;have⟨c',hh⟩:=Bd X.o.ml hn
       have:W3.heap[k]?=w2.heap[k]?:=aK.Ao k bC (by
        rintro (e2|e2)
        ·exact BP hh X.o.ob (by decide) e2
        ·exact X.o.Kn k e2 hn)
       rw[this,hh]at hk;cases hk;exact he rfl
      have x1:=hc _ _ aG (a0 _ _ _ aG (by decide));have x2:=hc _ _ aE (a0 _ _ _ aE (by decide));have x3:=hc _ _ aL (a0 _ _ _ aL (by decide));(have aX:bm≠Y.heap.size:=by have:=Bo bO.o.mb;omega);refine⟨⟨(Dp (x1.trans aG.symm)).trans d5,(Dp (x2.trans aE.symm)).trans d1,(Dp (x2.trans aE.symm)).trans d2,(Dp (x3.trans aL.symm)).trans d3,(Dp (x1.trans aG.symm)).trans d4⟩,by simp[World.frozen?,x3],?_⟩;rw[UI _ _ _ _ aX];exact(Dp (x1.trans aG.symm)).trans d4
     have cG:f∉L:=λhm=>by
      have⟨m,hm1,hm2⟩:=Ee hm;exact bB.o m hm1 hm1 hm2
     have aU:D9 f es:=⟨_,BS aI,aW.o⟩
     have cN:Hid (∀O b4 aF w6 a6 z,App W3.drew O 5 1 (.slice none 0 0) (.slice b4 (F f).1.length aF) (F f).1.length (E6 (F f).1)->
      App ((O.aC #[.slice b4 (F f).1.length aF,A0 (F f).2] 68).aC #[A7 O.heap.size] 65) w6 65 1 (.slice am L.length cm) (.slice a6 (L.length+1) z) (L.length+1) (EX M++[A7 O.heap.size])->
      Et N w bo bm F old made vo vm VB es i (i+1) u5 (w6.setCell (Ad bm 0) (.slice a6 (L.length+1) z)) (L++[f]) (M++[O.heap.size]) (.slice a3 (L.length+1) I) (.slice a6 (L.length+1) z) (λm=>if m=O.heap.size then .slice b4 (F f).1.length aF else VB' m) aA):=
      λO b4 aF w6 a6 z hB hC=>bQ.o.cC rfl cG aU (bN.o f aU).1 (bJ.o Y bM.o) (((A5.C Ab Y).aj _).tr aH.o) cP.o cA.o hB hC
     have cT:Hid (W3.drew.cell? (Ad Y.heap.size 1)=some (A7 f)/\W3.drew.cell? (Ad f 0)=some (.slice af (F f).1.length cf)/\W3.drew.cell? (Ad f 1)=some (A0 (F f).2)/\W3.drew.cell? (Ad bm 0)=some (.slice am L.length cm)/\W3.drew.cell? (Ad Y.heap.size 0)=some (.string nm)):=⟨d5,d1,d2,d3,d4⟩;refine Ff (λw'=>w'.cell? (Ad Y.heap.size 1)=some (A7 f)/\w'.cell? (Ad f 0)=some (.slice af (F f).1.length cf)/\w'.cell? (Ad f 1)=some (A0 (F f).2)/\w'.cell? (Ad bm 0)=some (.slice am L.length cm)/\w'.cell? (Ad Y.heap.size 0)=some (.string nm)) 16
      (BD [0,1,2,3,4,5,7,8,9,10,11,6,12,13,14,15] [6,13,14,15]) (by kernel_rfl) (by kernel_rfl) (λ_ _ _ _ _ h=>h) cT.o ?_
     iterate 11 (refine DO (v:=?_) rfl (by rfl) ?_ ?_;rotate_left;(· (intro w' hS;(try dsimp only at hS);go_simp;try with_reducible rfl));(try simp only[BQ]))
     refine Dt rfl (by rfl) (λK hK=>?_);refine Hx (.const (.slice none 0 0)) (.tmp 44) 66 66 (by rfl) 5 y0 _ 1 1 underlying66 hy hy0 hy1 hy2 rfl (by decide) (.slice none 0 0) 0 [] (by rfl) (CL _ _ _ _) _ (F f).1.length _ (by rfl) cB.o cO ?_;intro b4 aF O hB;simp only[GC,F7]at hB ⊢;refine hK _ _ (cQ.o _ _ _ _ hB) (λhS=>?_)
     (try simp only[BQ])
     obtain⟨q1,q2,q3,q4,q5⟩:=hS
     (refine DO (v:=?_) rfl (by rfl) ?_ ?_;rotate_left;(· (intro w' hS;(try dsimp only at hS);go_simp;try with_reducible rfl));(try simp only[BQ]))
     refine Dt rfl (by rfl) (λK hK=>?_);go_simp;refine hK _ _ ?_ (λhS=>?_)
     ·simp[World.cell?_alloc_some,q1,q2,q3,q4,q5]
     (try simp only[BQ])
     obtain⟨q1',q2',q3',q4',q5'⟩:=hS;refine Dt rfl (by rfl) (λK hK=>?_);go_simp;refine hK _ _ ?_ (λhS=>?_)
     ·simp[World.cell?_alloc_some,q1,q2,q3,q4,q5]
     (try simp only[BQ])
     have bT:Hid (Src Tryz.prog 1 95 (AN (O.heap.size+1) 1 1) 1 [A7 O.heap.size] ((O.aC #[.slice b4 (F f).1.length aF,A0 (F f).2] 68).aC #[A7 O.heap.size] 65)):=
      Src.ba underlying95 (O.aC #[.slice b4 (F f).1.length aF,A0 (F f).2] 68) #[A7 O.heap.size] 65 (O.heap.size+1) (by simp) 1 1 rfl (by simp[Value.oneCell'])
     refine Dt rfl (by rfl) (λK hK=>?_);refine Hx (.tmp 39) (.tmp 53) 95 95 (by rfl) 65 p0 _ 1 8 underlying95 hp hp0 hp1 hp2 rfl (by decide) (.slice am L.length cm) L.length (EX M) (by rfl) (cY.o _ _ _ _ _ _ hB) _ 1 _ (by rfl) bT.o aR ?_;intro a6 z w6 hC;have k7:=A4 (cN.o O b4 aF w6 a6 z hB hC);have⟨r1,r2,r3⟩:=cS.o _ _ _ _ _ _ _ _ _ _ hB hC;refine hK _ _ r1 (λhS=>?_);obtain⟨_,_,_,r4,_⟩:=r1
     (try simp only[BQ])
     refine Fg ?_;simp only[DA,Dj];go_wp2;generalize hW7:w6.setCell (Ad bm 0) (.slice a6 (L.length+1) z)=W7 at k7 r3 ⊢;generalize a4:O.heap.size=mf at k7;have a1:=k7.o.cs.ml;(have a2:(L++[f]).length=L.length+1:=by simp);rw[a2]at a1;have⟨a7,c7,e7,hm1',hm2',hm3',_,_⟩:=Bb a1;cases e7;obtain⟨g6,rfl⟩:=hm3' (by omega);unfold maxLen at hm2';(have m1:W7.cell? (Ad bm 0)=some (AN g6 (L.length+1) z):=by have:=k7.o.cs.mb;simp[World.cell?,this]);have m2:W7.cell? (Ad g6 L.length)=some (A7 mf):=by
      refine BB a1 (g:=g6) rfl ?_;have aS:=X.o.bW;unfold EX;rw[Ed,Ht (by simp[aS])];simp[aS]
     have aP:Hid (((W7.drew).aC #[.string nm,A7 mf] 70).ownsRow 0 70 2 u5 ne (BW aA)):=aT.o ▸ (k7.o.bY ((A5.C _ W7).ad.aj _)).Er;have bL:Hid (Src Tryz.prog 2 57 (AN W7.heap.size 1 1) 1 [.string nm,A7 mf] ((W7.drew).aC #[.string nm,A7 mf] 70)):=
      Src.ba underlying57 W7.drew #[.string nm,A7 mf] 70 W7.heap.size (by simp) 1 1 rfl (by simp[Value.oneCell'])
     (have bG:(ne+1)*24<=140737488355328:=by omega);have aO:Hid (∀b8 aJ w8,App ((W7.drew).aC #[.string nm,A7 mf] 70) w8 70 2 u5 (.slice b8 (ne+1) aJ) (ne+1) (BW aA++[.string nm,A7 mf])->OR N w bo bm F old made vo vm VB es (i+1) (.slice b8 (ne+1) aJ) w8):=by
      intro b8 aJ w8 hA;have aS:M.length=L.length:=X.o.bW;exact⟨_,_,_,_,_,_,(k7.o.bY ((A5.C _ W7).ad.aj (.cells #[.string nm,A7 mf] 70))).cj (j:=L.length) (mf:=mf) aI bE.o aW.o (by simp) (by simp[<-aS]) (Aq _) (by rw[aT.o];exact hA)⟩
     have j0:(0:Int)<=(L.length:Int):=Gn _;obtain⟨nl,cM,j1⟩:∃nl:Nat,L.length+1=nl/\(L.length:Int)<(nl:Int):=⟨_,rfl,by omega⟩;rw[cM]at m1;refine Ff (λw'=>w'.cell? (Ad Y.heap.size 0)=some (.string nm)/\w'.cell? (Ad bm 0)=some (AN g6 nl z)/\w'.cell? (Ad g6 L.length)=some (A7 mf)) 9
      (BD [0,1,2,3,4,5,6,7,8] [8]) (by kernel_rfl) (by kernel_rfl) (λ_ _ _ _ _ h=>h) ⟨r3,m1,m2⟩ ?_
     iterate 8 (refine DO (v:=?_) rfl (by rfl) ?_ ?_;rotate_left;(· (intro w' hS;(try dsimp only at hS);go_simp;try with_reducible rfl));(try simp only[BQ]))
     refine Dt rfl (by rfl) (λK hK=>?_);go_simp;refine hK _ _ ?_ (λhS=>?_)
     ·simp[World.cell?_alloc_some,r3,m1,m2]
     (try simp only[BQ])
     refine Fg ?_;simp only[DA,Dj];go_wp2_with (at_builtin;refine De rfl (.tmp 55) (.tmp 63) 57 57 rfl 70 i0 _ 2 24 underlying57 hi0 hz0 hz1 hz2 rfl (by decide) u5 ne (BW aA) (by rfl) aP.o _ 1 _ (by rfl) bL.o bG ?_;intro b8 aJ w8 hD;have bU:=A4 (aO.o b8 aJ w8 hD));go_roundw
     ·exact⟨i+1,by omega,by go_num,bU.o⟩
     ·simp[intOf];omega
  ·(obtain rfl:i=es.length:=by omega);go_wp2;go_ret;exact⟨_,rfl,bF.o⟩
end
end Go.Proofs.YtodcnkbblippnabGreatDoor
