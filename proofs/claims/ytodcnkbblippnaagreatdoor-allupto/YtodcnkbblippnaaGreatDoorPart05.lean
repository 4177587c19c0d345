/- Part 5 of a proof: walks of the program. -/
import Derived.Deep.RegionLaw
import Derived.BigQuiet
import Derived.LaidEql
import Derived.Deep.QuietTactic
import Derived.StillTailTactics
import Derived.StillTactics
import Derived.Test.YtodcnkbblippnaaGreatDoorPart02
namespace Go.Proofs.YtodcnkbblippnaaGreatDoor
set_option maxRecDepth 100000
set_option maxHeartbeats 32000000
set_option linter.defProp false
open Go.Proofs.Tryz
section
open Go.RowKit
attribute [local go_sem ↓] Go.wp_at_zero Go.wp_at_succ
def A3p(l:gF UInt8):∀u∈Et l,u.oneCell'=true:=by
 intro u hu;obtain⟨x,_,rfl⟩:=Cn.1 hu;rfl
def FI(l:gF Nat):gF Value:=l.map λf=>(A5 f)
structure CS (N:Nat) (w:gC) (bo bm:Nat) (F:Nat->FC) (oe ma:gF Nat) (vo vm:gD) (VB:Nat->gD):Prop where
 ob:w.heap[bo]?=some (.cells #[vo] 138 (0,0))
 mb:w.heap[bm]?=some (.cells #[vm] 138 (0,0))
 ne:bo≠bm
 ol:w.ownsRow 0 123 1 vo oe.length (FI oe)
 ml:w.ownsRow 0 123 1 vm oe.length (FI ma)
 Lg:∀g,vo.ownBlock=some g->vm.ownBlock=some g->False
 BN:∀i (h:i<ma.length) (h':i<oe.length),Dd w (ma[i]'h) (VB (ma[i]'h)) (F (oe[i]' h')).2/\Gm w (VB (ma[i]'h)) (F (oe[i]' h')).1
 IU:∀f∈oe,f<N/\∃c,w.heap[f]?=some (.cells c 129 (0,0))
 IV:oe.Nodup
 PX:ma.Nodup
 GL:∀m m' g,m∈ma->m'∈ma->(VB m).ownBlock=some g->(VB m').ownBlock=some g->m=m'
 IX:N<=bo
 JE:N<=bm
 JA:∀g,vo.ownBlock=some g->N<=g
 JB:∀g,vm.ownBlock=some g->N<=g
 Pa:∀m∈ma,N<=m
 Pb:∀m∈ma,∀g,(VB m).ownBlock=some g->N<=g
def CF(bo bm:Nat)(vo vm:gD):Nat->Prop:=λk=>k=bo\/k=bm\/vo.ownBlock=some k\/vm.ownBlock=some k
def Ren(oe ma:gF Nat)(es aA:gF AP):Prop:=
 aA.length=es.length/\∀k (h:k<es.length) (d:k<aA.length),(aA[k]'d).1=(es[k]'h).1/\∃i:Nat,oe[i]?=some (es[k]'h).2/\ma[i]?=some (aA[k]'d).2
def CB(bo bm:Nat)(vo vm:gD)(ma:gF Nat)(VB:Nat->gD):Nat->Prop:=λk=>
 k=bo\/k=bm\/vo.ownBlock=some k\/vm.ownBlock=some k\/k∈ma\/∃m∈ma,(VB m).ownBlock=some k
def Ren.ah{oe ma z E:gF Nat}{es aA:gF AP}(h:Ren oe ma es aA):Ren (oe++z) (ma++E) es aA:=by
 refine⟨h.1,λk I d=>⟨(h.2 k I d).1,?_⟩⟩;have⟨i,h1,h2⟩:=(h.2 k I d).2;refine⟨i,?_,?_⟩
 ·rw[Jl (Ik.1 h1).1];exact h1
 ·rw[Jl (Ik.1 h2).1];exact h2
def Ren.cA{oe ma:gF Nat}{es aA:gF AP}(h:Ren oe ma es aA){i f m:Nat}{n:gE}(X:oe[i]?=some f)(O:ma[i]?=some m):Ren oe ma (es++[(n,f)]) (aA++[(n,m)]):=by
 refine⟨by simp[h.1],λk E hk'=>?_⟩;by_cases z:k<es.length
 ·have d:k<aA.length:=by have:=h.1;omega
  rw[Fy z,Fy d];exact h.2 k z d
 ·have I:k=es.length:=by simp at E;omega
  have e2:k=aA.length:=by have:=h.1;omega
  subst I;refine⟨?_,i,?_⟩
  ·rw[Gj iC,Gj iC];simp
  ·rw[Gj iC,Gj iC];simp[X,O]
def CS.ca{N:Nat}{w:gC}{bo bm:Nat}{F:Nat->FC}{oe ma:gF Nat}{vo vm:gD}{VB:Nat->gD}(h:CS N w bo bm F oe ma vo vm VB):ma.length=oe.length:=by
 have:=h.ml.1;simpa[FI] using this
def CS.lt{N:Nat}{w:gC}{bo bm:Nat}{F:Nat->FC}{oe ma:gF Nat}{vo vm:gD}{VB:Nat->gD}(h:CS N w bo bm F oe ma vo vm VB){k:Nat}(d:CB bo bm vo vm ma VB k):k<w.heap.size:=by
 have hl:=h.ca;rcases d with rfl|rfl|d|d|d|⟨m,E,d⟩
 ·exact Bv h.ob
 ·exact Bv h.mb
 ·exact Aw h.ol d
 ·exact Aw h.ml d
 ·obtain⟨i,z,rfl⟩:=DD d;exact Bv (h.BN i z iC).1
 ·obtain⟨i,z,rfl⟩:=DD E;exact Aw (h.BN i z iC).2 d
def CS.aK{N:Nat}{w w':gC}{bo bm:Nat}{F:Nat->FC}{oe ma:gF Nat}{vo vm:gD}{VB:Nat->gD}(h:CS N w bo bm F oe ma vo vm VB)(d:Gz (CB bo bm vo vm ma VB) w w')(X:Gz (λk=>k∈oe) w w'):CS N w' bo bm F oe ma vo vm VB:=by
 refine⟨(d bo (.inl rfl)).trans h.ob,(d bm (.inr (.inl rfl))).trans h.mb,h.ne,Au h.ol λg z=>d g (.inr (.inr (.inl z))),Au h.ml λg z=>d g (.inr (.inr (.inr (.inl z)))),h.Lg,λi O E=>?_,
  λf I=>⟨(h.IU f I).1,?_⟩,h.IV,h.PX,h.GL,h.IX,h.JE,h.JA,h.JB,h.Pa,h.Pb⟩
 ·have⟨h1,h2⟩:=h.BN i O E;refine⟨?_,Au h2 λg z=>d g (.inr (.inr (.inr (.inr (.inr ⟨_,BT O,z⟩)))))⟩;unfold Dd at h1 ⊢;rw[d _ (.inr (.inr (.inr (.inr (.inl (BT O))))))];exact h1
 ·have⟨c,hc⟩:=(h.IU f I).2;exact⟨c,(X f I).trans hc⟩
def CS.Am{N:Nat}{w w':gC}{bo bm:Nat}{F:Nat->FC}{oe ma:gF Nat}{vo vm:gD}{VB:Nat->gD}{S:Nat->Prop}(h:CS N w bo bm F oe ma vo vm VB)(z:A4 S w w')(E:∀k,CB bo bm vo vm ma VB k->¬S k)(I:∀k,k<N->¬S k):CS N w' bo bm F oe ma vo vm VB:=
 h.aK (λk d=>z.Al k (h.lt d) (E k d)) λk d=>z.Al k (Bv (h.IU k d).2.choose_spec) (I k (h.IU k d).1)
def Tryz.eR:(Tryz.prog.info? 129).map (λi=>(i.zero,i.size,i.bytes))=some (some (.agg #[.slice none 0 0,A0 0]),2,32):=by kernel_rfl
def Tryz.fO:(Tryz.prog.info? 123).map (λi=>(i.zero,i.size,i.bytes))=some (some (.pointer none),1,8):=by kernel_rfl
def ZH(W:gC)(d x f:Nat)(E I:Array gD)(O:W.heap[x]?=some (.cells E 129 (0,0)))(z:W.heap[f]?=some (.cells I 129 (0,0)))(h:x≠f):
 (Op.equalIn (d+1) 123 (.pointer (some ⟨x,0,none⟩)) (.pointer (some ⟨f,0,none⟩))).run Tryz.prog W=.ok false W:=by
 have⟨j0,hj,hy0,hy1,hy2⟩:=DQ Tryz.eR;have:=run_sameAddr_other (P:=Tryz.prog) W (a:=⟨x,0,none⟩) (b:=⟨f,0,none⟩) iE O z;simp[Op.equalIn,run_underlying underlying123,typeInfo,sizeOf,hj,hy1,this]
def ZG(W:gC)(d x:Nat):(Op.equalIn (d+1) 123 (A5 x) (A5 x)).run Tryz.prog W=.ok true W:=by
 have⟨j0,hj,_,_,_⟩:=DQ Tryz.eR;simp[Op.equalIn,run_underlying underlying123,typeInfo,sizeOf,hj,run_sameAddr_same]
def ZJ(W:gC)(x f:Nat)(z d:Array gD)(I:W.heap[x]?=some (.cells z 129 (0,0)))(E:W.heap[f]?=some (.cells d 129 (0,0)))(h:x≠f):
 (binOp .neq 123 (.pointer (some ⟨x,0,none⟩)) (.pointer (some ⟨f,0,none⟩))).run Tryz.prog W=.ok (.bool true) W:=by
 simp only[binOp];simp[Op.equal,Op.maxDepth,ZH W 9999 x f z d I E h]
def ZI(W:gC)(x:Nat):(binOp .neq 123 (A5 x) (A5 x)).run Tryz.prog W=.ok (.bool false) W:=by
 simp only[binOp];simp[Op.equal,Op.maxDepth,ZG W 9999 x]
structure EV (N:Nat) (w:gC) (bo bm:Nat) (F:Nat->FC) (oe ma:gF Nat) (vo vm:gD) (VB:Nat->gD) (es:gF AP) (i cn:Nat) (ov:gD) (wr:gC) (L M:gF Nat) (aB aD:gD) (VB':Nat->gD) (aA:gF AP):Prop where
 cs:CS N wr bo bm F L M aB aD VB'
 DT:Df wr ov aA
 ren:Ren L M (es.take i) aA
 H9:∃oe',L=oe++oe'/\oe'.length<=cn/\∀f∈oe',Dr f es
 Kr:∃ma',M=ma++ma'/\∀m∈ma',w.heap.size<=m
 AW:∀g,ov.ownBlock=some g->w.heap.size<=g
 Am:A4 (CF bo bm vo vm) w wr
 LS:∀g,aB.ownBlock=some g->vo.ownBlock=some g\/w.heap.size<=g
 Nr:∀g,aD.ownBlock=some g->vm.ownBlock=some g\/w.heap.size<=g
 Qh:∀m∈ma,VB' m=VB m
def OR(N:Nat)(w:gC)(bo bm:Nat)(F:Nat->FC)(oe ma:gF Nat)(vo vm:gD)(VB:Nat->gD)(es:gF AP)(i:Nat)(ov:gD)(wr:gC):Prop:=
 ∃L M aB aD VB' aA,EV N w bo bm F oe ma vo vm VB es i i ov wr L M aB aD VB' aA
def CS.bZ{N:Nat}{w:gC}{bo bm:Nat}{F:Nat->FC}{oe ma:gF Nat}{vo vm:gD}{VB:Nat->gD}(h:CS N w bo bm F oe ma vo vm VB){k:Nat}(d:CB bo bm vo vm ma VB k\/k∈oe):∃c e,w.heap[k]?=some (.cells c e (0,0))/\e≠125:=by
 have hl:=h.ca;rcases d with (rfl|rfl|d|d|d|⟨m,E,d⟩)|d
 ·exact⟨_,_,h.ob,iF⟩
 ·exact⟨_,_,h.mb,iF⟩
 ·have⟨c,hc⟩:=B9 h.ol d;exact⟨c,_,hc,iF⟩
 ·have⟨c,hc⟩:=B9 h.ml d;exact⟨c,_,hc,iF⟩
 ·obtain⟨i,z,rfl⟩:=DD d;exact⟨_,_,(h.BN i z iC).1,iF⟩
 ·obtain⟨i,z,rfl⟩:=DD E;have⟨c,hc⟩:=B9 (h.BN i z iC).2 d;exact⟨c,_,hc,iF⟩
 ·have⟨c,hc⟩:=(h.IU k d).2;exact⟨c,_,hc,iF⟩
section
variable{N:Nat}{w wr W w3:gC}{bo bm:Nat}{F:Nat->FC}{oe ma:gF Nat}{vo vm:gD}{VB:Nat->gD}{es:gF AP}{i cn:Nat}{ov:gD}{L M:gF Nat}{aB aD:gD}{VB':Nat->gD}{aA:gF AP}
def EV.b2(h:EV N w bo bm F oe ma vo vm VB es i cn ov wr L M aB aD VB' aA)(d:A4 Aa wr W):EV N w bo bm F oe ma vo vm VB es i cn ov W L M aB aD VB' aA:=
 ⟨h.cs.Am d (λ_ _ h=>h) (λ_ _ h=>h),Au h.DT λg z=>d.Al g (Aw h.DT z) (λh=>h),h.ren,h.H9,h.Kr,h.AW,h.Am.AF d (λ_ h _=>h.elim),h.LS,h.Nr,h.Qh⟩
def EV.cA(h:EV N w bo bm F oe ma vo vm VB es i cn ov W L M aB aD VB' aA){j f mf:Nat}{nm:gE}{Y:gD}(I:i<es.length)(X:(es[i]'I).1=nm)(O:(es[i]'I).2=f)(hj:L[j]?=some f)(hm:M[j]?=some mf)(hcn:cn<=i+1)(E:App W w3 125 2 ov Y (aA.length+1) (C8 aA++[.string nm,.pointer (some ⟨mf,0,none⟩)])):EV N w bo bm F oe ma vo vm VB es (i+1) (i+1) Y w3 L M aB aD VB' (aA++[(nm,mf)]):=by
 have hs:∀k,CB bo bm aB aD M VB' k\/k∈L->w3.heap[k]?=W.heap[k]?:=by
  intro k z;have⟨c,e,d,h2⟩:=h.cs.bZ z
  exact E.C7.block k (Bv d) (λe=>by
   have⟨c',h3⟩:=B9 h.DT e.symm
   exact BR d h3 h2 rfl)
 refine⟨h.cs.aK (λk z=>hs k (.inl z)) (λk z=>hs k (.inr z)),?_,?_,?_,h.Kr,?_,?_,h.LS,h.Nr,h.Qh⟩
 ·have:=E.AB;unfold Df;rw[LP,B3];exact this
 ·rw[<-List.take_append_getElem I];have:es[i]'I=(nm,f):=by rw[<-X,<-O]
  rw[this];exact h.ren.cA hj hm
 ·have⟨o,d,h2,h3⟩:=h.H9;exact⟨o,d,iC,h3⟩
 ·intro g hg;rcases E.BX with d|d
  ·exact h.AW g (d.symm.trans hg)
  ·rw[hg]at d;cases d;exact h.Am.Ak
 ·exact h.Am.C7 E.C7 λk z hlt=>by have:=h.AW k z;omega
def EV.DP{w1 w2 I w6 aJ:gC}{f nq ne:Nat}{vb:gD}{a3 a6:Option Addr}{c3 c6:Nat}(h:EV N w bo bm F oe ma vo vm VB es i cn ov w1 L M aB aD VB' aA)(aU:L.length=ne)(hf:f∉L)(a2:Dr f es)(aZ:f<N)(aV:∃c,w1.heap[f]?=some (.cells c 129 (0,0)))(aQ:A4 (λ_=>False) w1 w2)(hA:App ((w2.drewN nq).alloc (.cells #[.pointer (some ⟨f,0,none⟩)] 123)) w3 123 1 aB (.slice a3 (ne+1) c3) (ne+1) (FI L++[.pointer (some ⟨f,0,none⟩)]))(aL:w3.setCell ⟨bo,0,none⟩ (.slice a3 (ne+1) c3)=aJ)(hB:App aJ.drew I 5 1 (.slice none 0 0) vb (F f).1.length (Et (F f).1))(hC:App ((I.alloc (.cells #[vb,.int .i64 (F f).2] 129)).alloc (.cells #[.pointer (some ⟨I.heap.size,0,none⟩)] 123)) w6 123 1 aD (.slice a6 (ne+1) c6) (ne+1) (FI M++[.pointer (some ⟨I.heap.size,0,none⟩)])):
 EV N w bo bm F oe ma vo vm VB es i (cn+1) ov (w6.setCell ⟨bm,0,none⟩ (.slice a6 (ne+1) c6)) (L++[f]) (M++[I.heap.size]) (.slice a3 (ne+1) c3) (.slice a6 (ne+1) c6) (λm=>if m=I.heap.size then vb else VB' m) aA:=by
 subst aU;have hl:=h.cs.ca;have s2:=aQ.Ak;have s3:=hA.C7.size;have s4:aJ.heap.size<=I.heap.size:=hB.C7.size;have s6:=hC.C7.size;have sW:aJ.heap.size=w3.heap.size:=by rw[<-aL];simp
 simp only[NA,World.heap_drewN]at s3 s6;have aW:=Bv h.cs.ob;have a4:=Bv h.cs.mb;have a1:∀g,aB.ownBlock=some g->g<w1.heap.size:=λg d=>Aw h.cs.ol d;have aI:∀g,aD.ownBlock=some g->g<w1.heap.size:=λg d=>Aw h.cs.ml d;have k3:=((((aQ.aS (S:=λk=>aB.ownBlock=some k))).a7 nq).ai (.cells #[.pointer (some ⟨f,0,none⟩)] 123)).C7 hA.C7 (λk hk _=>hk);have aH:=((((A4.C (λk=>aD.ownBlock=some k) aJ).aa.C7 hB.C7 (λk hk _=>by simp[Value.ownBlock]at hk)).ai (.cells #[vb,.int .i64 (F f).2] 129)).ai (.cells #[.pointer (some ⟨I.heap.size,0,none⟩)] 123)).C7 hC.C7 (λk hk _=>hk);have aR:=(k3.Al bo aW (λe=>by have⟨c,hh⟩:=B9 h.cs.ol e;exact BR hh h.cs.ob iF rfl)).trans h.cs.ob;have a0:aJ.heap[bo]?=some (.cells #[.slice a3 (L.length+1) c3] 138 (0,0)):=by rw[<-aL];exact BQ aR
 have kW:A4 (One bo) w3 aJ:=by rw[<-aL];exact(A4.C (One bo) w3).an rfl 0 _
 have aP:=(k3.Al bm a4 (λe=>by have⟨c,hh⟩:=B9 h.cs.ol e;exact BR hh h.cs.mb iF rfl)).trans h.cs.mb;have aN:=(kW.Al bm (Bv aP) (λe=>h.cs.ne e.symm)).trans aP
 have aT:=(aH.Al bm (Bv aN) (λe=>by
  have⟨c,hh⟩:=B9 h.cs.ml e;exact BR hh h.cs.mb iF rfl)).trans aN
 have k7:A4 (One bm) w6 (w6.setCell ⟨bm,0,none⟩ (.slice a6 (L.length+1) c6)):=(A4.C (One bm) w6).an rfl 0 _;have e7:(w6.setCell ⟨bm,0,none⟩ (.slice a6 (L.length+1) c6)).heap[bm]?=some (.cells #[.slice a6 (L.length+1) c6] 138 (0,0)):=BQ aT;generalize aX:w6.setCell ⟨bm,0,none⟩ (.slice a6 (L.length+1) c6)=W7 at k7 e7 ⊢;have s7:W7.heap.size=w6.heap.size:=by rw[<-aX];simp
 have aS:A4 (λk=>k=bo\/k=bm\/aB.ownBlock=some k\/aD.ownBlock=some k) w1 W7:=by
  refine(((k3.ah (S':=λk=>k=bo\/k=bm\/aB.ownBlock=some k\/aD.ownBlock=some k) (λx _ E=>.inr (.inr (.inl E)))).AF kW (λx E _=>.inl E)).AF aH (λx E _=>.inr (.inr (.inr E)))).AF k7 (λx E _=>.inr (.inl E))
 have key:∀(k:Nat) (c:Array gD) (e:Nat),w1.heap[k]?=some (Obj.cells c e (0,0))->e≠138->e≠123->W7.heap[k]?=w1.heap[k]?:=λk c e hk h1 h2=>
  aS.Al k (Bv hk) (by
   rintro (rfl|rfl|d|d)
   ·exact BR hk h.cs.ob h1 rfl
   ·exact BR hk h.cs.mb h1 rfl
   ·have⟨c',hh⟩:=B9 h.cs.ol d;exact BR hk hh h2 rfl
   ·have⟨c',hh⟩:=B9 h.cs.ml d;exact BR hk hh h2 rfl)
 have aF:∀g,(Value.slice a3 (L.length+1) c3).ownBlock=some g->aB.ownBlock=some g\/(w1.heap.size<=g/\g<w3.heap.size):=λg d=>by
  have O:=Aw hA.AB d;rcases hA.BX with e|e
  ·rw[e]at d;exact .inl d
  ·rw[e]at d;cases d;right;simp at O ⊢;omega
 have aM:∀g,(Value.slice a6 (L.length+1) c6).ownBlock=some g->aD.ownBlock=some g\/I.heap.size+2<=g:=λg d=>by
  rcases hC.BX with e|e
  ·rw[e]at d;exact .inl d
  ·rw[e]at d;cases d;right;simp
 have aG:∀g,vb.ownBlock=some g->aJ.heap.size<=g:=λg d=>by
  rcases hB.BX with e|e
  ·rw[e]at d;simp[Value.ownBlock]at d
  ·rw[e]at d;cases d;simp
 have hM:∀m∈M,m<w1.heap.size:=λm z=>h.cs.lt (.inr (.inr (.inr (.inr (.inl z)))));have aO:∀m∈M,∀g,(VB' m).ownBlock=some g->g<w1.heap.size:=λm z g d=>h.cs.lt (.inr (.inr (.inr (.inr (.inr ⟨m,z,d⟩)))));have hNw:N<=w1.heap.size:=by have:=h.cs.IX;omega
 have hww:=h.Am.Ak;have oL:W7.ownsRow 0 123 1 (.slice a3 (L.length+1) c3) (L.length+1) (FI L++[.pointer (some ⟨f,0,none⟩)]):=by
  have q1:=
   Au hA.AB λg d=>kW.Al g (Aw hA.AB d) (λe=>by have⟨c,hh⟩:=B9 hA.AB d;exact BR hh aR iF e)
  have q2:=Au q1 λg d=>by
   have O:=Aw hA.AB d;refine aH.Al g iC (λe=>?_);rcases aF g d with e2|e2
   ·exact h.cs.Lg g e2 e
   ·have:=aI g e;omega
  refine Au q2 λg d=>?_;have O:=Aw hA.AB d;refine k7.Al g iC (λe=>?_);rcases aF g d with e2|e2
  ·have⟨c,hh⟩:=B9 h.cs.ol e2;exact BR hh h.cs.mb iF e
  ·have:g=bm:=e;omega
 have oM:W7.ownsRow 0 123 1 (.slice a6 (L.length+1) c6) (L.length+1) (FI M++[.pointer (some ⟨I.heap.size,0,none⟩)]):=by
  refine Au hC.AB λg d=>k7.Al g (Aw hC.AB d) (λe=>?_);have⟨c,hh⟩:=B9 hC.AB d;exact BR hh aT iF e
 have fB:Dd W7 I.heap.size vb (F f).2:=by
  have h5:((I.alloc (.cells #[vb,.int .i64 (F f).2] 129)).alloc (.cells #[.pointer (some ⟨I.heap.size,0,none⟩)] 123)).heap[I.heap.size]?=some (.cells #[vb,.int .i64 (F f).2] 129 (0,0)):=by
   rw[CW _ _ _ iE];exact Bn _ _
  have h6:=(hC.C7.block _ (by simp;omega) (λe=>by have:=aI _ e.symm;omega)).trans h5;exact(k7.Al _ iC (λe=>by have:I.heap.size=bm:=e;omega)).trans h6
 have bB:Gm W7 vb (F f).1:=by
  refine Au hB.AB λg d=>?_;have O:=Aw hB.AB d;have hge:=aG g d;have h5:((I.alloc (.cells #[vb,.int .i64 (F f).2] 129)).alloc (.cells #[.pointer (some ⟨I.heap.size,0,none⟩)] 123)).heap[g]?=I.heap[g]?:=by
   rw[CW _ _ _ (by simp;omega),CW _ _ _ O]
  rw[<-h5,<-hC.C7.block g (by simp;omega) (λe=>by have:=aI _ e.symm;omega)];exact k7.Al _ iC (λe=>by have:g=bm:=e;omega)
 have Y:I.heap.size∉M:=λz=>by have:=hM _ z;omega
 have aY:CS N W7 bo bm F (L++[f]) (M++[I.heap.size]) (.slice a3 (L.length+1) c3) (.slice a6 (L.length+1) c6) (λm=>if m=I.heap.size then vb else VB' m):=by
  refine⟨?_,e7,h.cs.ne,?_,?_,?_,?_,?_,?_,?_,?_,h.cs.IX,h.cs.JE,?_,?_,?_,?_⟩
  ·refine(k7.Al bo iC h.cs.ne).trans ((aH.Al bo iC (λe=>?_)).trans a0);have⟨c,hh⟩:=B9 h.cs.ml e;exact BR hh h.cs.ob iF rfl
  ·simpa[FI] using oL
  ·simpa[FI] using oM
  ·intro g h1 h2;rcases aF g h1 with e1|e1<;>rcases aM g h2 with e2|e2
   ·exact h.cs.Lg g e1 e2
   ·have:=a1 g e1;omega
   ·have:=aI g e2;omega
   ·omega
  ·intro j hj a7;by_cases O:j<M.length
   ·have aK:j<L.length:=iC;have z:M[j]'O≠I.heap.size:=λe=>Y (e ▸ BT O);have⟨q1,q2⟩:=h.cs.BN j O aK;simp only[Fy O,Fy aK,z,Cf];refine⟨?_,Au q2 λg d=>?_⟩
    ·unfold Dd at q1 ⊢;rw[key _ _ _ q1 iF iF];exact q1
    ·have⟨c,hh⟩:=B9 q2 d;exact key _ _ _ hh iF iF
   ·(obtain rfl:j=M.length:=by simp at hj;omega);have e1:(M++[I.heap.size])[M.length]'hj=I.heap.size:=iE;(have e2:(L++[f])[M.length]'a7=f:=by simp[hl]);rw[e1,e2];simp only[Cs];exact⟨fB,bB⟩
  ·intro x E;rcases AX.1 E with E|E
   ·have⟨q1,c,q2⟩:=h.cs.IU x E;exact⟨q1,c,(key _ _ _ q2 iF iF).trans q2⟩
   ·simp at E;subst E;obtain⟨c,hc⟩:=aV;exact⟨aZ,c,(key _ _ _ hc iF iF).trans hc⟩
  ·refine Hl.2 ⟨h.cs.IV,iE,λa ha b hb e=>?_⟩;simp at hb;subst hb;subst e;exact hf ha
  ·refine Hl.2 ⟨h.cs.PX,iE,λa ha b hb e=>?_⟩;simp at hb;subst hb;subst e;exact Y ha
  ·intro m m' g z X d aE;rcases AX.1 z with z|z<;>rcases AX.1 X with X | X
   ·have n1:m≠I.heap.size:=λe=>Y (e ▸ z);have n2:m'≠I.heap.size:=λe=>Y (e ▸ X);simp only[n1,n2,Cf]at d aE;exact h.cs.GL m m' g z X d aE
   ·have n1:m≠I.heap.size:=λe=>Y (e ▸ z);simp at X;subst X;simp only[n1,Cf]at d;simp at aE;have:=aO m z g d;have:=aG g aE;omega
   ·have n1:m'≠I.heap.size:=λe=>Y (e ▸ X);simp at z;subst z;simp only[n1,Cf]at aE;simp at d;have:=aO m' X g aE;have:=aG g d;omega
   ·simp at z X;rw[z,X]
  ·intro g d;rcases aF g d with e|e
   ·exact h.cs.JA g e
   ·omega
  ·intro g d;rcases aM g d with e|e
   ·exact h.cs.JB g e
   ·omega
  ·intro m z;rcases AX.1 z with z|z
   ·exact h.cs.Pa m z
   ·simp at z;omega
  ·intro m z g d;rcases AX.1 z with z|z
   ·have n1:m≠I.heap.size:=λe=>Y (e ▸ z);simp only[n1,Cf]at d;exact h.cs.Pb m z g d
   ·simp at z;subst z;simp at d;have:=aG g d;omega
 refine⟨aY,?_,h.ren.ah,?_,?_,h.AW,?_,?_,?_,?_⟩
 ·refine Au h.DT λg d=>?_;have⟨c,hh⟩:=B9 h.DT d;exact key _ _ _ hh iF iF
 ·have⟨o,h1,h2,h3⟩:=h.H9;refine⟨o++[f],by rw[h1,Ci],by simp;omega,λx E=>?_⟩;rcases AX.1 E with E|E
  ·exact h3 x E
  ·simp at E;subst E;exact a2
 ·have⟨o,h1,h2⟩:=h.Kr;refine⟨o++[I.heap.size],by rw[h1,Ci],λx E=>?_⟩;rcases AX.1 E with E|E
  ·exact h2 x E
  ·simp at E;omega
 ·refine h.Am.AF aS ?_;rintro x (rfl|rfl|E|E) O
  ·exact .inl rfl
  ·exact .inr (.inl rfl)
  ·rcases h.LS x E with e|e
   ·exact .inr (.inr (.inl e))
   ·omega
  ·rcases h.Nr x E with e|e
   ·exact .inr (.inr (.inr e))
   ·omega
 ·intro g d;rcases aF g d with e|e
  ·exact h.LS g e
  ·right;omega
 ·intro g d;rcases aM g d with e|e
  ·exact h.Nr g e
  ·right;omega
 ·intro m z;have⟨o,h1,_⟩:=h.Kr;have a5:m∈M:=by rw[h1];exact AX.2 (.inl z)
  have n1:m≠I.heap.size:=λe=>Y (e ▸ a5);simp only[n1,Cf];exact h.Qh m z
end
def ZU(N:Nat)(w:gC)(bo bm:Nat)(F:Nat->FC)(oe ma:gF Nat)(vo vm:gD)(VB:Nat->gD)(h:CS N w bo bm F oe ma vo vm VB)(es:gF AP)(vl:gD)(bJ:Df w vl es)(cH:∀g,vl.ownBlock=some g->g<N)(hn:es.length<1099511627776/\oe.length<1099511627776)(hf:∀f,Dr f es->f<N/\(F f).1.length<=1099511627776/\∃v,Dd w f v (F f).2/\Gm w v (F f).1/\∀g,v.ownBlock=some g->g<N):
 Ag 87 #[vl,A5 bo,A5 bm] w λe w'=>∃v,e=.returned v/\OR N w bo bm F oe ma vo vm VB es es.length v w':=by
 have H:=A1 h;have bM:=A1 hf;have cU:=A1 bJ;have cY:=A1 cH;obtain⟨a,cap,rfl,hle,b7,he⟩:=bJ.BW;have cV:=A1 he;obtain⟨hn1,hn2⟩:=hn;unfold maxLen at b7
 go_enter func87,ntmps87
 go_wp2;go_loopw [5,11] (λov iv wr=>∃i:Nat,i<=es.length/\iv=A0 i/\Hid (OR N w bo bm F oe ma vo vm VB es i ov wr)) (λ_ iv _=>es.length-(intOf iv).toNat)
 ·exact⟨0,Cb _,rfl,oe,ma,vo,vm,VB,[],H.o,Cq _ _ _ _,⟨iE,iE⟩,⟨[],iE⟩,⟨[],iE⟩,by simp[Value.ownBlock],A4.C _ _,λ_ h=>.inl h,λ_ h=>.inl h,λ_ _=>rfl⟩
 ·obtain⟨i,hi,rfl,bE⟩:=hrel;by_cases aH:i<es.length
  ·have⟨L,M,aB,aD,VB',aA,k0⟩:=bE.o;have k1:=k0.cs;have k6:=k0.Am;obtain⟨g,rfl,e1,e2⟩:=cV.o i aH;have hgN:=cY.o g rfl;have a4:=Aw cU.o (g:=g) rfl;have bH:¬CF bo bm vo vm g:=by
    rintro (rfl|rfl|X|X)
    ·have:=H.o.IX;omega
    ·have:=H.o.JE;omega
    ·have:=H.o.JA g X;omega
    ·have:=H.o.JB g X;omega
   have e3:=(DU (k6.Al g a4 bH)).trans e1;have e4:=(DU (k6.Al g a4 bH)).trans e2;obtain⟨nm,a9⟩:=iG ((es[i]'aH).1);obtain⟨f,aM⟩:=iG ((es[i]'aH).2);rw[a9]at e3;rw[aM]at e4;have bN:=A1 k1;have bL:=A1 k6;have bR:=A1 <| (bM.o f ⟨_,BT aH,aM⟩).2.1;have cB:Hid (∃v,(∀g,v.oB g->g<N)/\∀W,A4 (CF bo bm vo vm) w W->Dd W f v (F f).2/\Gm W v (F f).1):=by
    have⟨h1,_,v,h2,h3,h4⟩:=bM.o f ⟨_,BT aH,aM⟩;have key:∀k,k<N->¬CF bo bm vo vm k:=by
     rintro k hk (rfl|rfl|X|X)
     ·have:=H.o.IX;omega
     ·have:=H.o.JE;omega
     ·have:=H.o.JA k X;omega
     ·have:=H.o.JB k X;omega
    refine⟨v,h4,λW hc=>⟨(hc.Al f (Bv h2) (key f h1)).trans h2,Au h3 λg X=>hc.Al g (Aw h3 X) (key g (h4 g X))⟩⟩
   have bI:Hid (∀W:gC,A4 (CF bo bm vo vm) w W->∃c,W.heap[f]?=some (.cells c 129 (0,0))):=by
    intro W hc;have⟨h1,_,v,h2,_⟩:=bM.o f ⟨_,BT aH,aM⟩;refine⟨_,(hc.Al f (Bv h2) ?_).trans h2⟩;rintro (rfl|rfl|X|X)
    ·have:=H.o.IX;omega
    ·have:=H.o.JE;omega
    ·have:=H.o.JA f X;omega
    ·have:=H.o.JB f X;omega
   have hLl:L.length<2199023255552:=by
    have⟨o,h1,h2,_⟩:=k0.H9;rw[h1,B3];omega
   (have hEl:aA.length=i:=by have:=k0.ren.1;rw[BK]at this;omega);have⟨i0,hi0,hz0,hz1,hz2⟩:=DQ Tryz.df;have bD:=A1 a9;have aV:=A1 aM;obtain⟨ne,aU⟩:=iG aA.length;have hne2:ne<1099511627776:=iC;have aS:=A1 aU;have bP:=A1 k0;obtain⟨ao,co,rfl,ho1,b0,cG,_,_⟩:=B8 k1.ol;unfold maxLen at b0;go_wp2;have cJ:=A1 cG;obtain⟨O,bQ⟩:=iH wr;subst bQ;have hsz:=Bv bN.o.ob;go_loopw [8] (λjv w2=>∃j:Nat,j<=L.length/\jv=A0 j/\Hid (∀m (h:m<L.length),m<j->L[m]'h≠f)/\Hid (A4 Aa (O.aC #[.string nm,A5 f] 125) w2)) (λjv _=>L.length-(intOf jv).toNat)
   ·exact⟨0,Cb _,rfl,λm h hm=>iC,A4.C _ _⟩
   ·obtain⟨j,hj,rfl,bA,aG⟩:=hrel;obtain⟨w2,bO⟩:=iH wr;subst bO;have bG:=A1 <| (bL.o.ai _).AF aG.o (λ_ h _=>h.elim);have I:=A1 <| (bN.o.Am ((A4.C Aa O).ai _) (λ_ _ h=>h) (λ_ _ h=>h)).Am aG.o (λ_ _ h=>h) (λ_ _ h=>h);(have b1:w2.cell? (A9 bo 0)=some (.slice ao L.length co):=by have:=I.o.ob;simp[World.cell?,this]);have hE:=(aG.o.Al O.heap.size iE (λh=>h)).trans (Bn O _);(have b2:w2.cell? (A9 O.heap.size 0)=some (.string nm):=by simp[World.cell?,hE]);(have b3:w2.cell? (A9 O.heap.size 1)=some (A5 f):=by simp[World.cell?,hE]);by_cases aL:j<L.length
    ·obtain⟨go,rfl⟩:=cJ.o iC;obtain⟨x,hx⟩:=iG (L[j]'aL);have b4:w2.cell? (A9 go j)=some (A5 x):=by
      refine Bu I.o.ol (g:=go) rfl ?_;unfold FI;rw[QB,Dx aL,hx];rfl
     have cE:=A1 hx;by_cases aY:x=f
     ·subst aY;have q:=λW=>ZI W x;go_wp2;go_quiet (fail);go_wp2;obtain⟨mf,a2⟩:∃mf,M[j]?=some mf:=⟨M[j]'(by rw[I.o.ca];exact aL),Dx _⟩;have⟨am,cm,hvm,hm1,hm2,aP,_,_⟩:=B8 I.o.ml;subst hvm;obtain⟨gm,rfl⟩:=aP iC;unfold maxLen at hm2;(have b5:w2.cell? (A9 bm 0)=some (AA gm L.length cm):=by have:=I.o.mb;simp[World.cell?,this]);have b6:w2.cell? (A9 gm j)=some (A5 mf):=by
       refine Bu I.o.ml (g:=gm) rfl ?_;unfold FI;rw[QB,a2];rfl
      have bY:=A1 a2;have Y:Hid (∀n,EV N w bo bm F oe ma vo vm VB es i i u5 ((w2.drewN n).aC #[.string nm,A5 mf] 125) L M (AA go L.length co) (AA gm L.length cm) VB' aA):=
       λn=>bP.o.b2 (((((A4.C Aa O).ai _).tr aG.o).a7 n).ai _)
      have aO:Hid (∀n,((w2.drewN n).aC #[.string nm,A5 mf] 125).ownsRow 0 125 2 u5 ne (C8 aA)):=λn=>aS.o ▸ (Y.o n).DT;have aX:Hid (∀n,Src Tryz.prog 2 92 (AA w2.heap.size 1 1) 1 [.string nm,A5 mf] ((w2.drewN n).aC #[.string nm,A5 mf] 125)):=
       λn=>Src.bb Fp (w2.drewN n) #[.string nm,A5 mf] 125 w2.heap.size iE 1 1 rfl (by simp[Value.oneCell'])
      have aQ:(ne+1)*24<=140737488355328:=iC;have aN:Hid (∀n b3 z w3,App ((w2.drewN n).aC #[.string nm,A5 mf] 125) w3 125 2 u5 (.slice b3 (ne+1) z) (ne+1) (C8 aA++[.string nm,A5 mf])->OR N w bo bm F oe ma vo vm VB es (i+1) (.slice b3 (ne+1) z) w3):=by
       intro n b3 z w3 hA;exact⟨_,_,_,_,_,_,(Y.o n).cA aH bD.o aV.o (by rw[Dx aL,cE.o]) bY.o iC (by rw[aS.o];exact hA)⟩
      go_region_law
       ((refine Kh ?_ (.tmp 55) (.tmp 63) 92 92 ?_ 125 i0 _ 2 24 Fp hi0 hz0 hz1 hz2 rfl (Nat.zero_lt_succ 23) u5 ne (C8 aA) ?_ (aO.o (nq+1)) (AA w2.heap.size 1 1) 1 [.string nm,A5 mf] ?_ (aX.o (nq+1)) aQ ?_;(· rfl);(· rfl);(· rfl);(· rfl);intro b3 z w3 hA;have bW:=A1 (aN.o (nq+1) b3 z w3 hA)))
      all_goals (go_wp2;go_roundw;(case rel=>exact⟨i+1,iC,by go_num,bW.o⟩);(case measure=>simp[intOf];omega))
     ·have⟨cx,hcx⟩:=(I.o.IU x (cE.o ▸ BT aL)).2;have q:∀n:Nat,(binOp .neq 123 (A5 x) (A5 f)).run Tryz.prog (w2.drewN n)=.ok (.bool true) (w2.drewN n):=by
       intro n;have⟨cf,hcf⟩:=bI.o w2 (bG.o);exact ZJ _ x f cx cf (by simpa using hcx) (by simpa using hcf) aY
      go_wp2;go_quiet (fail);go_wp2;go_roundw
      ·refine⟨j+1,iC,by go_num,λm h hm=>?_,aG.o.a7 _⟩;by_cases bV:m=j
       ·subst bV;rw[cE.o];exact aY
       ·exact bA.o m h iC
      ·simp[intOf];omega
    ·(obtain rfl:j=L.length:=iC);have⟨p0,hp,hp0,hp1,hp2⟩:=DQ Tryz.fO;have aX:Hid (∀n,Src Tryz.prog 1 138 (AA w2.heap.size 1 1) 1 [A5 f] ((w2.drewN n).aC #[A5 f] 123)):=
      λn=>Src.bb underlying138 (w2.drewN n) #[A5 f] 123 w2.heap.size iE 1 1 rfl (by simp[Value.oneCell'])
     have bU:Hid (∀n,((w2.drewN n).aC #[A5 f] 123).ownsRow 0 123 1 (.slice ao L.length co) L.length (FI L)):=
      λn=>Au I.o.ol λg X=>CW _ _ _ (by simpa using Aw I.o.ol X)
     have aQ:(L.length+1)*8<=140737488355328:=iC
     have cT:Hid (∀n w3 a3 z,App ((w2.drewN n).aC #[A5 f] 123) w3 123 1 (.slice ao L.length co) (.slice a3 (L.length+1) z) (L.length+1) (FI L++[A5 f])->
      w3.frozen? (A9 bo 0)=false/\w3.cell? (A9 bo 0)=some (.slice ao L.length co)/\A4 (λk=>k=bo\/(Value.slice ao L.length co).oB k) w2 (w3.setCell (A9 bo 0) (.slice a3 (L.length+1) z))):=by
      intro n w3 a3 z hA;have aU:(Value.slice ao L.length co).ownBlock≠some bo:=λe=>by
       have⟨c,hh⟩:=B9 I.o.ol e;exact BR hh I.o.ob iF rfl
      have bC:w3.heap[bo]?=some (.cells #[.slice ao L.length co] 138 (0,0)):=by
       rw[hA.C7.block bo (by have:=Bv I.o.ob;simp;omega) (λe=>aU e.symm),CW _ _ _ (by simpa using Bv I.o.ob)];exact I.o.ob
      refine⟨by simp[World.frozen?,bC],by simp[World.cell?,bC],?_⟩;exact((((A4.C _ w2).a7 n).ai _).C7 hA.C7 (λk hk _=>.inr hk)).an (.inl rfl) 0 _
     go_wp2;go_quiet (fail);go_wp2_with (at_builtin;refine CX rfl (.tmp 34) (.tmp 37) 138 138 rfl 123 p0 _ 1 8 underlying138 hp hp0 hp1 hp2 rfl iF _ _ _ (by rfl) (bU.o nq) _ 1 _ (by rfl) (aX.o nq) aQ ?_;intro a3 z w3 hA;have c3:=A1 (cT.o nq w3 a3 z hA);have f3:=c3.o.1;have g3:=c3.o.2.1);have aJ:=c3.o.2.2;generalize cC:w3.setCell (A9 bo 0) (.slice a3 (L.length+1) z)=W3 at aJ ⊢;have C3b:=A1 aJ;have b9:=A1 cC;have cO:=A1 hA;have⟨am,cm,hvm,hm1,hm2,aP,_,_⟩:=B8 I.o.ml;subst hvm;unfold maxLen at hm2
     have cI:=A1 <| bG.o.AF aJ (λx hx bB=>by
      rcases hx with rfl|hx
      ·exact .inl rfl
      ·rcases bP.o.LS x hx with h|h
       ·exact .inr (.inr (.inl h))
       ·omega)
     have⟨vf,hvf1,hvf2⟩:=cB.o;have⟨Y,hq2⟩:=hvf2 W3 cI.o;obtain⟨af,cf,rfl,hf1,bX⟩:=hq2.BW;unfold maxLen at bX;have d1:=Y.c0;have d2:=Y.c1;have bZ:¬(Value.slice ao L.length co).oB bm:=λe=>by
      have⟨c,hh⟩:=B9 I.o.ol e;exact BR hh I.o.mb iF rfl
     have aK:=
      (aJ.Al bm (Bv I.o.mb) (λe=>e.elim (λe=>I.o.ne e.symm) bZ)).trans I.o.mb
     (have d3:W3.cell? (A9 bm 0)=some (.slice am L.length cm):=by simp[World.cell?,aK]);(have hge:O.heap.size<=w2.heap.size:=by have:=aG.o.Ak;simp at this;omega);have cD:∀g,(Value.slice ao L.length co).oB g->g<O.heap.size:=λg X=>Aw bN.o.ol X;have aF:=(aJ.Al O.heap.size (by have:=aG.o.Ak;simp at this;omega) (λe=>e.elim (λe=>iC) (λe=>by have:=cD _ e;omega))).trans ((aG.o.Al O.heap.size iE (λh=>h)).trans (Bn O _));(have d4:W3.cell? (A9 O.heap.size 0)=some (.string nm):=by simp[World.cell?,aF]);(have d5:W3.cell? (A9 O.heap.size 1)=some (A5 f):=by simp[World.cell?,aF]);have⟨y0,hy,hy0,hy1,hy2⟩:=DQ Tryz.infoByte;have cA:=A1 <| Src.bN (w:=W3.drew) Hx hq2 (A3p _);(have cN:(0+(F f).1.length)*1<=140737488355328:=by have:=bR.o;omega);have cP:Hid (∀E v4 n xs,App W3.drew E 5 1 (.slice none 0 0) v4 n xs->E.cell? (A9 O.heap.size 1)=some (A5 f)/\E.cell? (A9 f 0)=some (.slice af (F f).1.length cf)/\E.cell? (A9 f 1)=some (A0 (F f).2)/\E.cell? (A9 bm 0)=some (.slice am L.length cm)/\E.cell? (A9 O.heap.size 0)=some (.string nm)):=by
      intro E v4 n xs hB;have hc:∀k o,W3.heap[k]?=some o->E.heap[k]?=some o:=λk o ho=>(hB.bE.Al k (Bv ho) (λh=>h)).trans ho
      exact⟨(DU ((hc _ _ aF).trans aF.symm)).trans d5,(DU ((hc _ _ Y).trans Y.symm)).trans d1,(DU ((hc _ _ Y).trans Y.symm)).trans d2,(DU ((hc _ _ aK).trans aK.symm)).trans d3,(DU ((hc _ _ aF).trans aF.symm)).trans d4⟩
     have cX:Hid (∀E v4 n xs o1 o2,App W3.drew E 5 1 (.slice none 0 0) v4 n xs->((E.alloc o1).alloc o2).ownsRow 0 123 1 (.slice am L.length cm) L.length (FI M)):=by
      intro E v4 n xs o1 o2 hB
      have aP:=Au I.o.ml λg X=>aJ.Al g (Aw I.o.ml X) (by
       rintro (e|e)
       ·have⟨c,hh⟩:=B9 I.o.ml X;exact BR hh I.o.ob iF e
       ·exact I.o.Lg g e X)
      have a5:=Au aP λg X=>hB.bE.Al g (Aw aP X) (λh=>h);have a8:(E.alloc o1).ownsRow 0 123 1 (.slice am L.length cm) L.length (FI M):=Au a5 λg X=>CW _ _ _ (Aw a5 X);exact Au a8 λg X=>CW _ _ _ (Aw a8 X)
     have cQ:Hid (∀E v4 n xs o1 o2 w6 a6 d ys,App W3.drew E 5 1 (.slice none 0 0) v4 n xs->App ((E.alloc o1).alloc o2) w6 123 1 (.slice am L.length cm) (.slice a6 (L.length+1) d) (L.length+1) ys->
      (w6.cell? (A9 O.heap.size 1)=some (A5 f)/\w6.cell? (A9 f 0)=some (.slice af (F f).1.length cf)/\w6.cell? (A9 f 1)=some (A0 (F f).2)/\w6.cell? (A9 bm 0)=some (.slice am L.length cm)/\w6.cell? (A9 O.heap.size 0)=some (.string nm))/\w6.frozen? (A9 bm 0)=false/\(w6.setCell (A9 bm 0) (.slice a6 (L.length+1) d)).cell? (A9 O.heap.size 0)=some (.string nm)):=by
      intro E v4 n xs o1 o2 w6 a6 d ys hB hC;have hc:∀k o,W3.heap[k]?=some o->(Value.slice am L.length cm).ownBlock≠some k->w6.heap[k]?=some o:=λk o ho hn=>by
       have h4:=(hB.bE.Al k (Bv ho) (λh=>h)).trans ho;have h5:((E.alloc o1).alloc o2).heap[k]?=some o:=by
        rw[CW _ _ _ (by have:=Bv h4;simp;omega),CW _ _ _ (Bv h4)];exact h4
       exact(hC.C7.block k (Bv h5) (λe=>hn e.symm)).trans h5
      have aZ:∀k (c:Array gD) (e:Nat),W3.heap[k]?=some (Obj.cells c e (0,0))->e≠123->(Value.slice am L.length cm).ownBlock≠some k:=λk c e hk he hn=>by
       have bB:=Aw I.o.ml hn;have⟨c',hh⟩:=B9 I.o.ml hn
       have:W3.heap[k]?=w2.heap[k]?:=aJ.Al k bB (by
        rintro (e2|e2)
        ·exact BR hh I.o.ob iF e2
        ·exact I.o.Lg k e2 hn)
       rw[this,hh]at hk;cases hk;exact he rfl
      have x1:=hc _ _ aF (aZ _ _ _ aF iF);have x2:=hc _ _ Y (aZ _ _ _ Y iF);have x3:=hc _ _ aK (aZ _ _ _ aK iF);(have aW:bm≠O.heap.size:=by have:=Bv bN.o.mb;omega);refine⟨⟨(DU (x1.trans aF.symm)).trans d5,(DU (x2.trans Y.symm)).trans d1,(DU (x2.trans Y.symm)).trans d2,(DU (x3.trans aK.symm)).trans d3,(DU (x1.trans aF.symm)).trans d4⟩,by simp[World.frozen?,x3],?_⟩;rw[A4v _ _ _ _ aW];exact(DU (x1.trans aF.symm)).trans d4
     have cF:f∉L:=λhm=>by
      have⟨m,hm1,hm2⟩:=DD hm;exact bA.o m hm1 hm1 hm2
     have aT:Dr f es:=⟨_,BT aH,aV.o⟩
     have cM:Hid (∀E b4 aE w6 a6 d,App W3.drew E 5 1 (.slice none 0 0) (.slice b4 (F f).1.length aE) (F f).1.length (Et (F f).1)->
      App ((E.aC #[.slice b4 (F f).1.length aE,A0 (F f).2] 129).aC #[A5 E.heap.size] 123) w6 123 1 (.slice am L.length cm) (.slice a6 (L.length+1) d) (L.length+1) (FI M++[A5 E.heap.size])->
      EV N w bo bm F oe ma vo vm VB es i (i+1) u5 (w6.setCell (A9 bm 0) (.slice a6 (L.length+1) d)) (L++[f]) (M++[E.heap.size]) (.slice a3 (L.length+1) z) (.slice a6 (L.length+1) d) (λm=>if m=E.heap.size then .slice b4 (F f).1.length aE else VB' m) aA):=
      λE b4 aE w6 a6 d hB hC=>bP.o.DP rfl cF aT (bM.o f aT).1 (bI.o O bL.o) (((A4.C Aa O).ai _).tr aG.o) cO.o b9.o hB hC
     have cS:Hid (W3.drew.cell? (A9 O.heap.size 1)=some (A5 f)/\W3.drew.cell? (A9 f 0)=some (.slice af (F f).1.length cf)/\W3.drew.cell? (A9 f 1)=some (A0 (F f).2)/\W3.drew.cell? (A9 bm 0)=some (.slice am L.length cm)/\W3.drew.cell? (A9 O.heap.size 0)=some (.string nm)):=⟨d5,d1,d2,d3,d4⟩;refine G1 (λw'=>w'.cell? (A9 O.heap.size 1)=some (A5 f)/\w'.cell? (A9 f 0)=some (.slice af (F f).1.length cf)/\w'.cell? (A9 f 1)=some (A0 (F f).2)/\w'.cell? (A9 bm 0)=some (.slice am L.length cm)/\w'.cell? (A9 O.heap.size 0)=some (.string nm)) 16
      (Ba [0,1,2,3,4,5,7,8,9,10,11,6,12,13,14,15] [6,13,14,15]) (by kernel_rfl) (by kernel_rfl) (λ_ _ _ _ _ h=>h) cS.o ?_
     iterate 11 (refine E8 (v:=?_) rfl (by rfl) ?_ ?_;rotate_left;(· (intro w' hS;(try dsimp only at hS);go_simp;try with_reducible rfl));(try simp only[BO]))
     refine Dy rfl (by rfl) (λK hK=>?_);refine I1 (.const (.slice none 0 0)) (.tmp 44) 127 127 (by rfl) 5 y0 _ 1 1 Hx hy hy0 hy1 hy2 rfl iF (.slice none 0 0) 0 [] (by rfl) (Cq _ _ _ _) _ (F f).1.length _ (by rfl) cA.o cN ?_;intro b4 aE E hB;simp only[Hj,Fh]at hB ⊢;refine hK _ _ (cP.o _ _ _ _ hB) (λhS=>?_)
     (try simp only[BO])
     obtain⟨q1,q2,q3,q4,q5⟩:=hS
     (refine E8 (v:=?_) rfl (by rfl) ?_ ?_;rotate_left;(· (intro w' hS;(try dsimp only at hS);go_simp;try with_reducible rfl));(try simp only[BO]))
     refine Dy rfl (by rfl) (λK hK=>?_);go_simp;refine hK _ _ ?_ (λhS=>?_)
     ·simp[World.cell?_alloc_some,q1,q2,q3,q4,q5]
     (try simp only[BO])
     obtain⟨q1',q2',q3',q4',q5'⟩:=hS;refine Dy rfl (by rfl) (λK hK=>?_);go_simp;refine hK _ _ ?_ (λhS=>?_)
     ·simp[World.cell?_alloc_some,q1,q2,q3,q4,q5]
     (try simp only[BO])
     have bS:Hid (Src Tryz.prog 1 138 (AA (E.heap.size+1) 1 1) 1 [A5 E.heap.size] ((E.aC #[.slice b4 (F f).1.length aE,A0 (F f).2] 129).aC #[A5 E.heap.size] 123)):=
      Src.bb underlying138 (E.aC #[.slice b4 (F f).1.length aE,A0 (F f).2] 129) #[A5 E.heap.size] 123 (E.heap.size+1) iE 1 1 rfl (by simp[Value.oneCell'])
     refine Dy rfl (by rfl) (λK hK=>?_);refine I1 (.tmp 39) (.tmp 53) 138 138 (by rfl) 123 p0 _ 1 8 underlying138 hp hp0 hp1 hp2 rfl iF (.slice am L.length cm) L.length (FI M) (by rfl) (cX.o _ _ _ _ _ _ hB) _ 1 _ (by rfl) bS.o aQ ?_;intro a6 d w6 hC;have k7:=A1 (cM.o E b4 aE w6 a6 d hB hC);have⟨r1,r2,r3⟩:=cQ.o _ _ _ _ _ _ _ _ _ _ hB hC;refine hK _ _ r1 (λhS=>?_);obtain⟨_,_,_,r4,_⟩:=r1
     (try simp only[BO])
     refine FD ?_;simp only[DK,Dm];go_wp2;generalize hW7:w6.setCell (A9 bm 0) (.slice a6 (L.length+1) d)=W7 at k7 r3 ⊢;generalize a2:E.heap.size=mf at k7;have a0:=k7.o.cs.ml;have a1:(L++[f]).length=L.length+1:=iE;rw[a1]at a0;have⟨a7,c7,e7,hm1',hm2',hm3',_,_⟩:=B8 a0;cases e7;obtain⟨g6,rfl⟩:=hm3' iC;unfold maxLen at hm2';(have m1:W7.cell? (A9 bm 0)=some (AA g6 (L.length+1) d):=by have:=k7.o.cs.mb;simp[World.cell?,this]);have m2:W7.cell? (A9 g6 L.length)=some (A5 mf):=by
      refine Bu a0 (g:=g6) rfl ?_;have aR:=I.o.ca;unfold FI;rw[EM,Il (by simp[aR])];simp[aR]
     have aO:Hid (((W7.drew).aC #[.string nm,A5 mf] 125).ownsRow 0 125 2 u5 ne (C8 aA)):=aS.o ▸ (k7.o.b2 ((A4.C _ W7).aa.ai _)).DT;have bK:Hid (Src Tryz.prog 2 92 (AA W7.heap.size 1 1) 1 [.string nm,A5 mf] ((W7.drew).aC #[.string nm,A5 mf] 125)):=
      Src.bb Fp W7.drew #[.string nm,A5 mf] 125 W7.heap.size iE 1 1 rfl (by simp[Value.oneCell'])
     have bF:(ne+1)*24<=140737488355328:=iC;have aN:Hid (∀b8 aI w8,App ((W7.drew).aC #[.string nm,A5 mf] 125) w8 125 2 u5 (.slice b8 (ne+1) aI) (ne+1) (C8 aA++[.string nm,A5 mf])->OR N w bo bm F oe ma vo vm VB es (i+1) (.slice b8 (ne+1) aI) w8):=by
      intro b8 aI w8 hA;have aR:M.length=L.length:=I.o.ca;exact⟨_,_,_,_,_,_,(k7.o.b2 ((A4.C _ W7).aa.ai (.cells #[.string nm,A5 mf] 125))).cA (j:=L.length) (mf:=mf) aH bD.o aV.o iE (by simp[<-aR]) (An _) (by rw[aS.o];exact hA)⟩
     have j0:(0:Int)<=(L.length:Int):=GA _;obtain⟨nl,cL,j1⟩:∃nl:Nat,L.length+1=nl/\(L.length:Int)<(nl:Int):=⟨_,rfl,iC⟩;rw[cL]at m1;refine G1 (λw'=>w'.cell? (A9 O.heap.size 0)=some (.string nm)/\w'.cell? (A9 bm 0)=some (AA g6 nl d)/\w'.cell? (A9 g6 L.length)=some (A5 mf)) 9
      (Ba [0,1,2,3,4,5,6,7,8] [8]) (by kernel_rfl) (by kernel_rfl) (λ_ _ _ _ _ h=>h) ⟨r3,m1,m2⟩ ?_
     iterate 8 (refine E8 (v:=?_) rfl (by rfl) ?_ ?_;rotate_left;(· (intro w' hS;(try dsimp only at hS);go_simp;try with_reducible rfl));(try simp only[BO]))
     refine Dy rfl (by rfl) (λK hK=>?_);go_simp;refine hK _ _ ?_ (λhS=>?_)
     ·simp[World.cell?_alloc_some,r3,m1,m2]
     (try simp only[BO])
     refine FD ?_;simp only[DK,Dm];go_wp2_with (at_builtin;refine CX rfl (.tmp 55) (.tmp 63) 92 92 rfl 125 i0 _ 2 24 Fp hi0 hz0 hz1 hz2 rfl iF u5 ne (C8 aA) (by rfl) aO.o _ 1 _ (by rfl) bK.o bF ?_;intro b8 aI w8 hD;have bT:=A1 (aN.o b8 aI w8 hD));go_roundw
     ·exact⟨i+1,iC,by go_num,bT.o⟩
     ·simp[intOf];omega
  ·(obtain rfl:i=es.length:=iC);go_wp2;go_ret;exact⟨_,rfl,bE.o⟩
def Ca.aa{w:gC}{b:Nat}{D:DS}{F:Nat->FC}{L E z:gD}{d:gF gD}{I:Nat->gD}(h:Ca w b D F L E z d I):Ca w.drew b D F L E z d I:=
 ⟨h.Ae,h.A6,h.AG,h.Am,h.Dj,h.BN,h.GL⟩
def Dk.aa{w:gC}{b:Nat}{D:DS}{F:Nat->FC}{Ft:Nat->Prop}(h:Dk w b D F Ft):Dk w.drew b D F Ft:=by
 obtain⟨X,I,E,d,O,L,z⟩:=h;exact⟨X,I,E,d,O,L.aa,z⟩
def A3r(s:gE):byteCells s=Et s.data.toList:=rfl
def Nd(s:gE)(m:Nat):(s.extract 0 m).data.toList=s.data.toList.take m:=by
 simp[ByteArray.data_extract]
def Gw(D:DS)(F:Nat->FC):Int:=max (D.n.Av-AV F D.A6) 0
def BP(D:DS)(F:Nat->FC)(f:Nat)(data:gE)(n0:Int)(e:Int):Int×DS×(Nat->FC):=
 if n0>Gw D F then
  (if e=0 then 6 else e,if e=0 then {D with n:={D.n with Bm:=wrap64 (D.n.Bm+1),fulls:=wrap64 (D.n.fulls+1)}} else D,upd F f ((F f).1++data.data.toList.take (Gw D F).toNat,(F f).2))
 else (e,D,upd F f ((F f).1++data.data.toList.take n0.toNat,(F f).2))
def BA(D:DS)(F:Nat->FC)(d data:gE):Int×DS×(Nat->FC):=match lookup D.A6 d with
 | none=>(8,D,F)
 | some f=>
  let r:=bg D.n
  let D1:={D with n:=r.2.2}
  if r.1 then BP D1 F f data data.size r.2.1
  else if r.2.2.Bh=false/\0<data.size then BP D1 F f data (r.2.2.BG % data.size) r.2.1
  else (r.2.1,D1,F)
def A3Z{w w2 W X:gC}{b:Nat}{D:DS}{F:Nat->FC}{vd vs vc v3:gD}{z:gF gD}{L:Nat->gD}{Ft:Nat->Prop}{f:Nat}{n2:DN}{news:gF UInt8}(hc:A4 Ft w w2)(h2:Ca w2 b D F vd vs vc z L)(d:∀k,Cj b D vd vs vc z L k->Ft k)(Y:D.Aq f)(hW:AM W b vd vs vc n2)(I:A4 (One b) w2 W)(hA:App W X 5 1 (L f) v3 ((F f).1.length+news.length) (Et (F f).1++Et news)):
 Dd X f (L f) (F f).2/\DF w Ft (X.setCell ⟨f,0,none⟩ v3) b {D with n:=n2} (upd F f ((F f).1++news,(F f).2)):=by
 have rW:=h2.al hW I;have⟨hf1,hf2⟩:=rW.BN f Y
 have E:=hf1.av (hA.C7.block f (Bv hf1) (λe=>by
  have⟨c,hh⟩:=B9 hf2 e.symm
  exact BR hh hf1 iF rfl))
 refine⟨E,?_⟩;have O:Gm X v3 ((F f).1++news):=by
  have:=hA.AB;unfold Gm;rw[A3q,B3];exact this
 have aA:Gm (X.setCell ⟨f,0,none⟩ v3) v3 ((F f).1++news):=by
  refine OW O (a:=⟨f,0,none⟩) ?_ _;intro e;have⟨c,hh⟩:=B9 O e;exact BR hh E iF rfl
 have aB:=(hA.Am (S:=λk=>k=f\/(L f).ownBlock=some k) (λk hk=>.inr hk)).an (.inl rfl) 0 v3;have hv:∀g,v3.ownBlock=some g->(L f).ownBlock=some g\/W.heap.size<=g:=by
  intro g hg;rcases hA.BX with h|h
  ·exact .inl (h.symm.trans hg)
  ·rw[hg]at h;cases h;exact .inr (An _)
 have r3:=rW.cb Y (E.s0 v3) aA aB (λk hk=>hk) hv;have s1:=hc.Ak;have s2:=I.Ak;refine DF.bB ?_ r3 ?_
 ·refine(hc.AF I (S':=One b) λx hx _=>by cases hx;exact d b .Ae).AF aB ?_;rintro x (rfl|hx) _
  ·exact d _ (.BN Y)
  ·exact d _ (.bD Y hx)
 ·intro x hx;rcases Cj.cb (N:=w.heap.size) (vb':=v3) (f:=f) Y (λg hg=>(hv g hg).imp id λh=>iC) hx.n with h|h
  ·exact .inl (d x h)
  ·exact .inr h
def A30(w:gC)(b:Nat)(D:DS)(F:Nat->FC)(Ft:Nat->Prop)(h:Dk w b D F Ft)(nd data:gE)(hroom : -4611686018427387904<=D.n.Av/\D.n.Av<=9223372036854775807)(hu:AV F D.A6<=4611686018427387904)(hp:0<=D.n.BG/\D.n.BG<=9223372036854775807)(hl:∀f,lookup D.A6 nd=some f->(F f).1.length+data.size<=70368744177664):
 Ag 84 #[A5 b,.string nd,.string data] w (Aj (A0 (BA D F nd data).1) λw'=>DF w Ft w' b (BA D F nd data).2.1 (BA D F nd data).2.2):=by
 obtain⟨vd,vs,vc,aN,bF,hr,aU⟩:=h;have c0:=hr.Ae.c0;have hd:=A1 hr.A6;have aM:=A1 hr.Ae;have bN:=A1 hr;rcases JH D.A6 nd with⟨h1,h2⟩|⟨k,hk,h1,h2,h3⟩
 ·have q:Hid (BA D F nd data=(8,D,F)):=by unfold Hid BA;rw[h2]
  have hfi:Bb D.A6 nd<0:=iC
  go_enter func84,ntmps84
  go_wp2_with (go_at_call 77;refine(DR _ _ _ _ hd.o).k ?_;rintro w' rfl);go_ret;rw[q.o];exact⟨rfl,DF.bB (A4.C _ _) bN.o λk hk=>.inl (aU k hk)⟩
 ·obtain⟨g,cap,a',aD,rfl,hv,z1,z2,z3,z4⟩:=hr.BX k hk;generalize hf:(D.A6[k]'hk).2=f at hv h2 z3;have hl1:=hl f h2;have bG:=A1 hv;unfold maxLen at z2 z4;have aV:Hid (D.Aq f):=.inl ⟨_,BT hk,hf⟩;have aY:=A1 h1;have H2:=A1 h2;have a6:=A1 hu;have a3:=A1 aU;have⟨i0,hi,hz0,hz1,hz2⟩:=DQ Tryz.infoByte;have hk0:=BJ k;have hk1:(k:Int)<(D.A6.length:Int):=iC
  have a4:Hid (∀w1,AM w1 b (AA g D.A6.length cap) vs vc (bg D.n).2.2->A4 (One b) w w1->
   Ca w1 b {D with n:=(bg D.n).2.2} F (AA g D.A6.length cap) vs vc aN bF/\Dk w1 b {D with n:=(bg D.n).2.2} F Ft):=by
   intro w1 z Y;have r1:=hr.al z Y;exact⟨r1,_,_,_,_,_,r1,λk hk=>aU k hk.n⟩
  have a5:Hid (∀w1 X,AM w1 b (AA g D.A6.length cap) vs vc (bg D.n).2.2->A4 (One b) w w1->A4 Aa w1.drew X->
   Ca X b {D with n:=(bg D.n).2.2} F (AA g D.A6.length cap) vs vc aN bF/\A4 Ft w X/\QR X b g k f D.A6.length cap (F f).1.length aD a' (D.A6[k]'hk).1 (F f).2/\AM X b (AA g D.A6.length cap) vs vc (bg D.n).2.2):=by
   intro w1 X z Y aB;have r1:=(hr.al z Y).aa;have r2:=r1.aK λx hx=>aB.Al x (r1.lt hx) (λh=>h);refine⟨r2,?_,?_,r2.Ae⟩
   ·exact((Y.ah (S':=Ft) λk _ hk=>by cases hk;exact aU b .Ae).aa).AF aB (λx hx=>hx.elim)
   ·subst hf;exact r2.dN k hk rfl bG.o
  have aW:Hid (-4611686018427387904<=(bg D.n).2.2.Av/\(bg D.n).2.2.Av<=9223372036854775807/\0<=(bg D.n).2.2.BG/\(bg D.n).2.2.BG<=9223372036854775807):=by
   unfold Hid bg;dsimp only;split
   ·exact⟨hroom.1,hroom.2,hp.1,hp.2⟩
   ·split
    ·exact⟨hroom.1,hroom.2,hp.1,hp.2⟩
    ·split<;>exact⟨hroom.1,hroom.2,hp.1,hp.2⟩
  have q:Hid (BA D F nd data=(let r:=bg D.n
   let D1:={D with n:=r.2.2}
   if r.1 then BP D1 F f data data.size r.2.1
   else if r.2.2.Bh=false/\0<data.size then BP D1 F f data (r.2.2.BG % data.size) r.2.1
   else (r.2.1,D1,F))):=by unfold Hid BA;rw[h2]
  obtain⟨O,a7⟩:=iG ((bg D.n).2.2);obtain⟨e1,bI⟩:=iG ((bg D.n).2.1);obtain⟨d1,bM⟩:=iG ((bg D.n).1);have a2:Hid (bg D.n=(d1,e1,O)):=by unfold Hid;rw[<-a7,<-bI,<-bM]
  rw[a7]at a4 a5 aW;have aZ:Hid (∀(W:gC),AM W b (AA g D.A6.length cap) vs vc D.n->Ag 121 #[A5 b] W (Aj (.tuple #[.bool d1,A0 e1]) λw'=>AM w' b (AA g D.A6.length cap) vs vc O/\A4 (One b) W w')):=by
   intro W hW;have:=Hv W b _ _ _ _ hW;rw[a2.o]at this;exact this
  rw[a2.o]at q;have⟨r1,r2,r3,r4⟩:=aW.o;have hun:(0:Int)<=AV F D.A6:=GA _;have hul:(AV F D.A6:Int)<=4611686018427387904:=by have:=a6.o;omega
  have hw:IntKind.i64.wrap (O.Av-(AV F D.A6:Int))=O.Av-(AV F D.A6:Int):=by simp only[K8];omega
  obtain⟨L,hL⟩:=iG ((if O.Av-(AV F D.A6:Int)<0 then 0 else O.Av-(AV F D.A6:Int)));have bJ:0<=L:=by rw[<-hL];split<;>omega
  have hLm:L<=9223372036854775807:=by rw[<-hL];split<;>omega
  have aO:Hid (Gw {D with n:=O} F=L):=by unfold Hid Gw;show max (O.Av-(AV F D.A6:Int)) 0=L;rw[<-hL];split<;>omega
  have bC:Hid (∀(X W:gC) (n2:DN),Ca X b {D with n:=O} F (AA g D.A6.length cap) vs vc aN bF->AM W b (AA g D.A6.length cap) vs vc n2->A4 (One b) X W->W.ownsRow 0 5 1 (.slice a' (F f).1.length aD) (F f).1.length (Et (F f).1)):=by
   intro X W n2 h2 hW hc;have:=((h2.al hW hc).BN f aV.o).2;rw[bG.o]at this;exact this
  have bE:Hid (∀(X W w3:gC) (n2:DN) (s:gE) (b3:Option Addr) (aA:Nat),Ca X b {D with n:=O} F (AA g D.A6.length cap) vs vc aN bF->A4 Ft w X->AM W b (AA g D.A6.length cap) vs vc n2->A4 (One b) X W->
   App W w3 5 1 (.slice a' (F f).1.length aD) (.slice b3 ((F f).1.length+s.size) aA) ((F f).1.length+s.size) (Et (F f).1++byteCells s)->
   Dd w3 f (.slice a' (F f).1.length aD) (F f).2/\DF w Ft (w3.sC f 0 (.slice b3 ((F f).1.length+s.size) aA)) b {D with n:=n2} (upd F f ((F f).1++s.data.toList,(F f).2))):=by
   intro X W w3 n2 s b3 aA h2 hc hW bL hA;have:=A3Z (n2:=n2) (f:=f) (v3:=.slice b3 ((F f).1.length+s.size) aA) (news:=s.data.toList) hc h2 (λk hk=>a3.o k hk.n) aV.o hW bL (by rw[bG.o];simpa[A3r] using hA);rw[bG.o]at this;exact this
  obtain⟨l,rfl⟩:=Mr bJ;have BE:(if e1=0 then True else True):=by split<;>trivial
  cases d1 with
  | true=>
   by_cases aT:(l:Int)<(data.size:Int)
   ·by_cases he:e1=0
    ·(have bA:(e1==0)=true:=by simpa using he);have aL:=A1 he;have aX:l<=data.size:=iC;(have aH:(data.extract 0 l).size=l:=by simp;omega)
     go_enter func84,ntmps84
     go_wp2_with (first
      | (go_at_call 77;refine(DR _ _ _ _ hd.o).k ?_;rintro w' rfl;rw[aY.o])
      | (go_at_call 121;refine(aZ.o _ aM.o).k ?_;rintro w1⟨z,Y⟩))
     have⟨R1,P1⟩:=a4.o w1 z Y;have aK:=A1 P1;have aP:=z.c3;go_region_held3 (λw'=>w'.cell? ⟨b,3,none⟩=some (A0 O.Av)) (first|exact(AM.Am (w:=w1.drew) z aB (λh=>h)).c3|go_simp) ((go_at_call 90;refine(Kc _ b _ F Ft aK.o.aa a6.o).k ?_;rintro X aB));have⟨R2,C2,K2,B2⟩:=a5.o w1 X z Y aB;have aF:=A1 R2;have aJ:=A1 C2;have aE:=A1 B2;have x1:=K2.d;have x2:=K2.p;have x3:=K2.f0;have x8:=K2.gb;have x9:=K2.bf;have aR:=K2.fb;have y8:=B2.c8;have y9:=B2.c9;have yz:=B2.fz;go_wp2;have aG:=A1 (bC.o X ((X.sC b 8 (A0 (wrap64 (O.Bm+1)))).sC b 9 (A0 (wrap64 (O.fulls+1)))).drew {O with Bm:=wrap64 (O.Bm+1),fulls:=wrap64 (O.fulls+1)} aF.o ((aE.o.s8 _).s9 _) ((((A4.C (One b) X).an rfl 8 _).an rfl 9 _).aa));(have aI:((F f).1.length+(data.extract 0 l).size)*1<=140737488355328:=by rw[aH];omega);go_region_law
      ((refine Kh ?_ (.tmp 90) (.tmp 93) 127 9 ?_ 5 i0 _ 1 1 Hx hi hz0 hz1 hz2 rfl NK (.slice a' (F f).1.length aD) (F f).1.length (Et (F f).1) ?_ aG.o (.string (data.extract 0 l)) (data.extract 0 l).size (byteCells (data.extract 0 l)) ?_ (NG _ GX (data.extract 0 l)) aI ?_;(· rfl);(· rfl);(· rfl);(· rfl);intro b3 aA w3 hA;have E:=A1 (bE.o X ((X.sC b 8 (A0 (wrap64 (O.Bm+1)))).sC b 9 (A0 (wrap64 (O.fulls+1)))).drew w3 {O with Bm:=wrap64 (O.Bm+1),fulls:=wrap64 (O.fulls+1)} (data.extract 0 l) b3 aA aF.o aJ.o ((aE.o.s8 _).s9 _) ((((A4.C (One b) X).an rfl 8 _).an rfl 9 _).aa) hA);have aQ:=E.o.1.fz;have aS:=E.o.1.c0))
     go_wp2;go_ret;have q1:=q.o;have q2:BP {D with n:=O} F f data (data.size:Int) e1=(6,{D with n:={O with Bm:=wrap64 (O.Bm+1),fulls:=wrap64 (O.fulls+1)}},upd F f ((F f).1++data.data.toList.take l,(F f).2)):=by
      unfold BP;rw[aO.o,Ai aT,Ai aL.o,Ai aL.o,EX]
     have I:=E.o.2;rw[Nd,aH]at I;rw[q1,q2];exact⟨rfl,I⟩
    ·(have bA:(e1==0)=false:=by simpa using he);have aL:=A1 he;have aX:l<=data.size:=iC;(have aH:(data.extract 0 l).size=l:=by simp;omega)
     go_enter func84,ntmps84
     go_wp2_with (first
      | (go_at_call 77;refine(DR _ _ _ _ hd.o).k ?_;rintro w' rfl;rw[aY.o])
      | (go_at_call 121;refine(aZ.o _ aM.o).k ?_;rintro w1⟨z,Y⟩))
     have⟨R1,P1⟩:=a4.o w1 z Y;have aK:=A1 P1;have aP:=z.c3;go_region_held3 (λw'=>w'.cell? ⟨b,3,none⟩=some (A0 O.Av)) (first|exact(AM.Am (w:=w1.drew) z aB (λh=>h)).c3|go_simp) ((go_at_call 90;refine(Kc _ b _ F Ft aK.o.aa a6.o).k ?_;rintro X aB));have⟨R2,C2,K2,B2⟩:=a5.o w1 X z Y aB;have aF:=A1 R2;have aJ:=A1 C2;have aE:=A1 B2;have x1:=K2.d;have x2:=K2.p;have x3:=K2.f0;have x8:=K2.gb;have x9:=K2.bf;have aR:=K2.fb;go_wp2;have aG:=A1 (bC.o X X.drew O aF.o aE.o ((A4.C (One b) X).aa));(have aI:((F f).1.length+(data.extract 0 l).size)*1<=140737488355328:=by rw[aH];omega);go_region_law
      ((refine Kh ?_ (.tmp 90) (.tmp 93) 127 9 ?_ 5 i0 _ 1 1 Hx hi hz0 hz1 hz2 rfl NK (.slice a' (F f).1.length aD) (F f).1.length (Et (F f).1) ?_ aG.o (.string (data.extract 0 l)) (data.extract 0 l).size (byteCells (data.extract 0 l)) ?_ (NG _ GX (data.extract 0 l)) aI ?_;(· rfl);(· rfl);(· rfl);(· rfl);intro b3 aA w3 hA;have E:=A1 (bE.o X X.drew w3 O (data.extract 0 l) b3 aA aF.o aJ.o aE.o ((A4.C (One b) X).aa) hA);have aQ:=E.o.1.fz;have aS:=E.o.1.c0))
     go_wp2;go_ret;have q1:=q.o;have q2:BP {D with n:=O} F f data (data.size:Int) e1=(e1,{D with n:=O},upd F f ((F f).1++data.data.toList.take l,(F f).2)):=by
      unfold BP;rw[aO.o,Ai aT,Af aL.o,Af aL.o,EX]
     have I:=E.o.2;rw[Nd,aH]at I;rw[q1,q2];exact⟨rfl,I⟩
   ·have a9:(data.size:Int)<=l:=iC
    go_enter func84,ntmps84
    go_wp2_with (first
     | (go_at_call 77;refine(DR _ _ _ _ hd.o).k ?_;rintro w' rfl;rw[aY.o])
     | (go_at_call 121;refine(aZ.o _ aM.o).k ?_;rintro w1⟨z,Y⟩))
    have⟨R1,P1⟩:=a4.o w1 z Y;have aK:=A1 P1;have aP:=z.c3;go_region_held3 (λw'=>w'.cell? ⟨b,3,none⟩=some (A0 O.Av)) (first|exact(AM.Am (w:=w1.drew) z aB (λh=>h)).c3|go_simp) ((go_at_call 90;refine(Kc _ b _ F Ft aK.o.aa a6.o).k ?_;rintro X aB));have⟨R2,C2,K2,B2⟩:=a5.o w1 X z Y aB;have aF:=A1 R2;have aJ:=A1 C2;have aE:=A1 B2;have x1:=K2.d;have x2:=K2.p;have x3:=K2.f0;have x8:=K2.gb;have x9:=K2.bf;have aR:=K2.fb;go_wp2;have aG:=A1 (bC.o X X.drew O aF.o aE.o ((A4.C (One b) X).aa));(have aI:((F f).1.length+data.size)*1<=140737488355328:=iC);go_region_law
     ((refine Kh ?_ (.tmp 90) (.tmp 93) 127 9 ?_ 5 i0 _ 1 1 Hx hi hz0 hz1 hz2 rfl NK (.slice a' (F f).1.length aD) (F f).1.length (Et (F f).1) ?_ aG.o (.string data) data.size (byteCells data) ?_ (NG _ GX data) aI ?_;(· rfl);(· rfl);(· rfl);(· rfl);intro b3 aA w3 hA;have E:=A1 (bE.o X X.drew w3 O data b3 aA aF.o aJ.o aE.o ((A4.C (One b) X).aa) hA);have aQ:=E.o.1.fz;have aS:=E.o.1.c0))
    go_wp2;go_ret;have q1:=q.o;have q2:BP {D with n:=O} F f data (data.size:Int) e1=(e1,{D with n:=O},upd F f ((F f).1++data.data.toList,(F f).2)):=by
     unfold BP;rw[aO.o,Af iC,EX,Eu (by show data.data.toList.length<=data.data.size;rw[Ms];exact An _)]
    have I:=E.o.2;rw[q1,q2];exact⟨rfl,I⟩
  | false=>
   have a8:Hid (e1=5/\O.Bh=O.Bh):=by
    have:=a2.o;unfold Hid;unfold bg at this;dsimp only at this;split at this
    ·cases this;exact⟨rfl,rfl⟩
    ·split at this
     ·cases this
     ·split at this
      ·cases this;exact⟨rfl,rfl⟩
      ·cases this
   by_cases hC:O.Bh=false/\0<data.size
   ·obtain⟨a1,bB⟩:=hC;have bD:(0:Int)<(data.size:Int):=iC;have⟨m,hm⟩:=Mr (O3 O.BG (b:=(data.size:Int)) iC);(have hml:(m:Int)<(data.size:Int):=by rw[<-hm];exact WD _ bD);have qC:Hid (BA D F nd data=BP {D with n:=O} F f data (m:Int) e1):=by
     have:=q.o;rw[<-hm];unfold Hid;rw[this];simp only[QP,Cf,a1,bB,and_self,Cs]
    (have aL:Hid (¬e1=0):=by have:=a8.o.1;unfold Hid;omega);(have bA:(e1==0)=false:=by have:=a8.o.1;simp[this]);by_cases aT:(l:Int)<(m:Int)
    ·have aX:l<=data.size:=iC;(have aH:(data.extract 0 l).size=l:=by simp;omega)
     go_enter func84,ntmps84
     go_wp2_with (first
      | (go_at_call 77;refine(DR _ _ _ _ hd.o).k ?_;rintro w' rfl;rw[aY.o])
      | (go_at_call 121;refine(aZ.o _ aM.o).k ?_;rintro w1⟨z,Y⟩;have bH:=z.c7;have a0:=z.br))
     have⟨R1,P1⟩:=a4.o w1 z Y;have aK:=A1 P1;have aP:=z.c3;go_region_held3 (λw'=>w'.cell? ⟨b,3,none⟩=some (A0 O.Av)) (first|exact(AM.Am (w:=w1.drew) z aB (λh=>h)).c3|go_simp) ((go_at_call 90;refine(Kc _ b _ F Ft aK.o.aa a6.o).k ?_;rintro X aB));have⟨R2,C2,K2,B2⟩:=a5.o w1 X z Y aB;have aF:=A1 R2;have aJ:=A1 C2;have aE:=A1 B2;have x1:=K2.d;have x2:=K2.p;have x3:=K2.f0;have x8:=K2.gb;have x9:=K2.bf;have aR:=K2.fb;go_wp2;have aG:=A1 (bC.o X X.drew O aF.o aE.o ((A4.C (One b) X).aa));(have aI:((F f).1.length+(data.extract 0 l).size)*1<=140737488355328:=by rw[aH];omega);go_region_law
      ((refine Kh ?_ (.tmp 90) (.tmp 93) 127 9 ?_ 5 i0 _ 1 1 Hx hi hz0 hz1 hz2 rfl NK (.slice a' (F f).1.length aD) (F f).1.length (Et (F f).1) ?_ aG.o (.string (data.extract 0 l)) (data.extract 0 l).size (byteCells (data.extract 0 l)) ?_ (NG _ GX (data.extract 0 l)) aI ?_;(· rfl);(· rfl);(· rfl);(· rfl);intro b3 aA w3 hA;have E:=A1 (bE.o X X.drew w3 O (data.extract 0 l) b3 aA aF.o aJ.o aE.o ((A4.C (One b) X).aa) hA);have aQ:=E.o.1.fz;have aS:=E.o.1.c0))
     go_wp2;go_ret;have q1:=qC.o;have q2:BP {D with n:=O} F f data (m:Int) e1=(e1,{D with n:=O},upd F f ((F f).1++data.data.toList.take l,(F f).2)):=by
      unfold BP;rw[aO.o,Ai aT,Af aL.o,Af aL.o,EX]
     have I:=E.o.2;rw[Nd,aH]at I;rw[q1,q2];exact⟨rfl,I⟩
    ·have a9:(m:Int)<=l:=iC;have aX:m<=data.size:=iC;(have aH:(data.extract 0 m).size=m:=by simp;omega)
     go_enter func84,ntmps84
     go_wp2_with (first
      | (go_at_call 77;refine(DR _ _ _ _ hd.o).k ?_;rintro w' rfl;rw[aY.o])
      | (go_at_call 121;refine(aZ.o _ aM.o).k ?_;rintro w1⟨z,Y⟩;have bH:=z.c7;have a0:=z.br))
     have⟨R1,P1⟩:=a4.o w1 z Y;have aK:=A1 P1;have aP:=z.c3;go_region_held3 (λw'=>w'.cell? ⟨b,3,none⟩=some (A0 O.Av)) (first|exact(AM.Am (w:=w1.drew) z aB (λh=>h)).c3|go_simp) ((go_at_call 90;refine(Kc _ b _ F Ft aK.o.aa a6.o).k ?_;rintro X aB));have⟨R2,C2,K2,B2⟩:=a5.o w1 X z Y aB;have aF:=A1 R2;have aJ:=A1 C2;have aE:=A1 B2;have x1:=K2.d;have x2:=K2.p;have x3:=K2.f0;have x8:=K2.gb;have x9:=K2.bf;have aR:=K2.fb;go_wp2;have aG:=A1 (bC.o X X.drew O aF.o aE.o ((A4.C (One b) X).aa));(have aI:((F f).1.length+(data.extract 0 m).size)*1<=140737488355328:=by rw[aH];omega);go_region_law
      ((refine Kh ?_ (.tmp 90) (.tmp 93) 127 9 ?_ 5 i0 _ 1 1 Hx hi hz0 hz1 hz2 rfl NK (.slice a' (F f).1.length aD) (F f).1.length (Et (F f).1) ?_ aG.o (.string (data.extract 0 m)) (data.extract 0 m).size (byteCells (data.extract 0 m)) ?_ (NG _ GX (data.extract 0 m)) aI ?_;(· rfl);(· rfl);(· rfl);(· rfl);intro b3 aA w3 hA;have E:=A1 (bE.o X X.drew w3 O (data.extract 0 m) b3 aA aF.o aJ.o aE.o ((A4.C (One b) X).aa) hA);have aQ:=E.o.1.fz;have aS:=E.o.1.c0))
     go_wp2;go_ret;have q1:=qC.o;have q2:BP {D with n:=O} F f data (m:Int) e1=(e1,{D with n:=O},upd F f ((F f).1++data.data.toList.take m,(F f).2)):=by
      unfold BP;rw[aO.o,Af iC,EX]
     have I:=E.o.2;rw[Nd,aH]at I;rw[q1,q2];exact⟨rfl,I⟩
   ·have qC:Hid (BA D F nd data=(e1,{D with n:=O},F)):=by
     have:=q.o;unfold Hid;rw[this];simp only[QP,Cf,hC]
    by_cases a1:O.Bh=true
    ·go_enter func84,ntmps84
     go_wp2_with (first
      | (go_at_call 77;refine(DR _ _ _ _ hd.o).k ?_;rintro w' rfl;rw[aY.o])
      | (go_at_call 121;refine(aZ.o _ aM.o).k ?_;rintro w1⟨z,Y⟩;have a0:=z.br))
     go_ret;rw[qC.o];exact⟨rfl,bN.o.bT a3.o z Y⟩
    ·(have bK:O.Bh=false:=by simpa using a1);have bB:(data.size:Int)<=0:=by
      have:¬0<data.size:=λh=>hC ⟨bK,h⟩;omega
     go_enter func84,ntmps84
     go_wp2_with (first
      | (go_at_call 77;refine(DR _ _ _ _ hd.o).k ?_;rintro w' rfl;rw[aY.o])
      | (go_at_call 121;refine(aZ.o _ aM.o).k ?_;rintro w1⟨z,Y⟩;have a0:=z.br))
     go_ret;rw[qC.o];exact⟨rfl,bN.o.bT a3.o z Y⟩
end
end Go.Proofs.YtodcnkbblippnaaGreatDoor
