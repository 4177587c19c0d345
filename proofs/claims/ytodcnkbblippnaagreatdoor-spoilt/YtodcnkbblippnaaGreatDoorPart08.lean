/- Part 8 of a proof: walks of the program. -/
import Derived.Deep.RegionLaw
import Derived.BigQuiet
import Derived.LaidEql
import Derived.Deep.QuietTactic
import Derived.StillTailTactics
import Derived.StillTactics
import Derived.Test.YtodcnkbblippnaaGreatDoorPart04
namespace Go.Proofs.YtodcnkbblippnaaGreatDoor
set_option maxRecDepth 100000
set_option maxHeartbeats 32000000
set_option linter.defProp false
open Go.Proofs.Tryz
section
open Go.RowKit
attribute [local go_sem ↓] Go.wp_at_zero Go.wp_at_succ
def A3T(l:gh UInt8):∀u∈Ea l,u.oneCell'=true:=by
 intro u hu;obtain⟨x,_,rfl⟩:=CC.1 hu;rfl
def F8(l:gh Nat):gh Value:=l.map λf=>(A5 f)
structure CS (N:Nat) (w:ga) (bo bm:Nat) (F:Nat->FC) (oe ma:gh Nat) (vo vm:gd) (VB:Nat->gd):Prop where
 ob:w.heap[bo]?=some (.cells #[vo] 138 (0,0))
 mb:w.heap[bm]?=some (.cells #[vm] 138 (0,0))
 ne:bo≠bm
 ol:w.ownsRow 0 123 1 vo oe.length (F8 oe)
 ml:w.ownsRow 0 123 1 vm oe.length (F8 ma)
 Lc:∀g,vo.ownBlock=some g->vm.ownBlock=some g->False
 BK:∀i (h:i<ma.length) (h':i<oe.length),CY w (ma[i]'h) (VB (ma[i]'h)) (F (oe[i]' h')).2/\FZ w (VB (ma[i]'h)) (F (oe[i]' h')).1
 IF:∀f∈oe,f<N/\∃c,w.heap[f]?=some (.cells c 129 (0,0))
 IG:oe.Nodup
 Q9:ma.Nodup
 Gq:∀m m' g,m∈ma->m'∈ma->(VB m).ownBlock=some g->(VB m').ownBlock=some g->m=m'
 IH:N<=bo
 Jr:N<=bm
 Jm:∀g,vo.ownBlock=some g->N<=g
 Jo:∀g,vm.ownBlock=some g->N<=g
 Pn:∀m∈ma,N<=m
 Po:∀m∈ma,∀g,(VB m).ownBlock=some g->N<=g
def CF(bo bm:Nat)(vo vm:gd):Nat->Prop:=λk=>k=bo\/k=bm\/vo.ownBlock=some k\/vm.ownBlock=some k
def Ren(oe ma:gh Nat)(es aA:gh AM):Prop:=
 aA.length=es.length/\∀k (h:k<es.length) (d:k<aA.length),(aA[k]'d).1=(es[k]'h).1/\∃i:Nat,oe[i]?=some (es[k]'h).2/\ma[i]?=some (aA[k]'d).2
def CB(bo bm:Nat)(vo vm:gd)(ma:gh Nat)(VB:Nat->gd):Nat->Prop:=λk=>
 k=bo\/k=bm\/vo.ownBlock=some k\/vm.ownBlock=some k\/k∈ma\/∃m∈ma,(VB m).ownBlock=some k
def Ren.af{oe ma z E:gh Nat}{es aA:gh AM}(h:Ren oe ma es aA):Ren (oe++z) (ma++E) es aA:=by
 refine⟨h.1,λk H d=>⟨(h.2 k H d).1,?_⟩⟩;have⟨i,h1,h2⟩:=(h.2 k H d).2;refine⟨i,?_,?_⟩
 ·rw[J9 (Ht.1 h1).1];exact h1
 ·rw[J9 (Ht.1 h2).1];exact h2
def Ren.cj{oe ma:gh Nat}{es aA:gh AM}(h:Ren oe ma es aA){i f m:Nat}{n:gg}(O:oe[i]?=some f)(I:ma[i]?=some m):Ren oe ma (es++[(n,f)]) (aA++[(n,m)]):=by
 refine⟨by simp[h.1],λk E hk'=>?_⟩;by_cases z:k<es.length
 ·have d:k<aA.length:=by have:=h.1;omega
  rw[Fg z,Fg d];exact h.2 k z d
 ·have H:k=es.length:=by simp at E;omega
  have e2:k=aA.length:=by have:=h.1;omega
  subst H;refine⟨?_,i,?_⟩
  ·rw[GH (by omega),GH (by omega)];simp
  ·rw[GH (by omega),GH (by omega)];simp[O,I]
def CS.bZ{N:Nat}{w:ga}{bo bm:Nat}{F:Nat->FC}{oe ma:gh Nat}{vo vm:gd}{VB:Nat->gd}(h:CS N w bo bm F oe ma vo vm VB):ma.length=oe.length:=by
 have:=h.ml.1;simpa[F8] using this
def CS.lt{N:Nat}{w:ga}{bo bm:Nat}{F:Nat->FC}{oe ma:gh Nat}{vo vm:gd}{VB:Nat->gd}(h:CS N w bo bm F oe ma vo vm VB){k:Nat}(d:CB bo bm vo vm ma VB k):k<w.heap.size:=by
 have hl:=h.bZ;rcases d with rfl|rfl|d|d|d|⟨m,E,d⟩
 ·exact Bv h.ob
 ·exact Bv h.mb
 ·exact AF h.ol d
 ·exact AF h.ml d
 ·obtain⟨i,z,rfl⟩:=DV d;exact Bv (h.BK i z (by omega)).1
 ·obtain⟨i,z,rfl⟩:=DV E;exact AF (h.BK i z (by omega)).2 d
def CS.aN{N:Nat}{w w':ga}{bo bm:Nat}{F:Nat->FC}{oe ma:gh Nat}{vo vm:gd}{VB:Nat->gd}(h:CS N w bo bm F oe ma vo vm VB)(d:Gb (CB bo bm vo vm ma VB) w w')(O:Gb (λk=>k∈oe) w w'):CS N w' bo bm F oe ma vo vm VB:=by
 refine⟨(d bo (.inl rfl)).trans h.ob,(d bm (.inr (.inl rfl))).trans h.mb,h.ne,Ax h.ol λg z=>d g (.inr (.inr (.inl z))),Ax h.ml λg z=>d g (.inr (.inr (.inr (.inl z)))),h.Lc,λi I E=>?_,
  λf H=>⟨(h.IF f H).1,?_⟩,h.IG,h.Q9,h.Gq,h.IH,h.Jr,h.Jm,h.Jo,h.Pn,h.Po⟩
 ·have⟨h1,h2⟩:=h.BK i I E;refine⟨?_,Ax h2 λg z=>d g (.inr (.inr (.inr (.inr (.inr ⟨_,BU I,z⟩)))))⟩;unfold CY at h1 ⊢;rw[d _ (.inr (.inr (.inr (.inr (.inl (BU I))))))];exact h1
 ·have⟨c,hc⟩:=(h.IF f H).2;exact⟨c,(O f H).trans hc⟩
def CS.Al{N:Nat}{w w':ga}{bo bm:Nat}{F:Nat->FC}{oe ma:gh Nat}{vo vm:gd}{VB:Nat->gd}{S:Nat->Prop}(h:CS N w bo bm F oe ma vo vm VB)(z:A3 S w w')(E:∀k,CB bo bm vo vm ma VB k->¬S k)(H:∀k,k<N->¬S k):CS N w' bo bm F oe ma vo vm VB:=
 h.aN (λk d=>z.An k (h.lt d) (E k d)) λk d=>z.An k (Bv (h.IF k d).2.choose_spec) (H k (h.IF k d).1)
def Tryz.eo:(Tryz.prog.info? 129).map (λi=>(i.zero,i.size,i.bytes))=some (some (.agg #[.slice none 0 0,A0 0]),2,32):=by kernel_rfl
def Tryz.fo:(Tryz.prog.info? 123).map (λi=>(i.zero,i.size,i.bytes))=some (some (.pointer none),1,8):=by kernel_rfl
def A0g(W:ga)(d x f:Nat)(E H:Array gd)(I:W.heap[x]?=some (.cells E 129 (0,0)))(z:W.heap[f]?=some (.cells H 129 (0,0)))(h:x≠f):
 (Op.equalIn (d+1) 123 (.pointer (some ⟨x,0,none⟩)) (.pointer (some ⟨f,0,none⟩))).run Tryz.prog W=.ok false W:=by
 have⟨j0,hj,hy0,hy1,hy2⟩:=Eg Tryz.eo;have:=run_sameAddr_other (P:=Tryz.prog) W (a:=⟨x,0,none⟩) (b:=⟨f,0,none⟩) (by simp) I z;simp[Op.equalIn,run_underlying underlying123,typeInfo,sizeOf,hj,hy1,this]
def A0f(W:ga)(d x:Nat):(Op.equalIn (d+1) 123 (A5 x) (A5 x)).run Tryz.prog W=.ok true W:=by
 have⟨j0,hj,_,_,_⟩:=Eg Tryz.eo;simp[Op.equalIn,run_underlying underlying123,typeInfo,sizeOf,hj,run_sameAddr_same]
def A0i(W:ga)(x f:Nat)(z d:Array gd)(H:W.heap[x]?=some (.cells z 129 (0,0)))(E:W.heap[f]?=some (.cells d 129 (0,0)))(h:x≠f):
 (binOp .neq 123 (.pointer (some ⟨x,0,none⟩)) (.pointer (some ⟨f,0,none⟩))).run Tryz.prog W=.ok (.bool true) W:=by
 simp only[binOp];simp[Op.equal,Op.maxDepth,A0g W 9999 x f z d H E h]
def A0h(W:ga)(x:Nat):(binOp .neq 123 (A5 x) (A5 x)).run Tryz.prog W=.ok (.bool false) W:=by
 simp only[binOp];simp[Op.equal,Op.maxDepth,A0f W 9999 x]
structure EE (N:Nat) (w:ga) (bo bm:Nat) (F:Nat->FC) (oe ma:gh Nat) (vo vm:gd) (VB:Nat->gd) (es:gh AM) (i cn:Nat) (ov:gd) (wr:ga) (L M:gh Nat) (aB aD:gd) (VB':Nat->gd) (aA:gh AM):Prop where
 cs:CS N wr bo bm F L M aB aD VB'
 EW:D8 wr ov aA
 ren:Ren L M (es.take i) aA
 GO:∃oe',L=oe++oe'/\oe'.length<=cn/\∀f∈oe',Dm f es
 K5:∃ma',M=ma++ma'/\∀m∈ma',w.heap.size<=m
 AR:∀g,ov.ownBlock=some g->w.heap.size<=g
 Al:A3 (CF bo bm vo vm) w wr
 LY:∀g,aB.ownBlock=some g->vo.ownBlock=some g\/w.heap.size<=g
 Np:∀g,aD.ownBlock=some g->vm.ownBlock=some g\/w.heap.size<=g
 Qu:∀m∈ma,VB' m=VB m
def OR(N:Nat)(w:ga)(bo bm:Nat)(F:Nat->FC)(oe ma:gh Nat)(vo vm:gd)(VB:Nat->gd)(es:gh AM)(i:Nat)(ov:gd)(wr:ga):Prop:=
 ∃L M aB aD VB' aA,EE N w bo bm F oe ma vo vm VB es i i ov wr L M aB aD VB' aA
def CS.cZ{N:Nat}{w:ga}{bo bm:Nat}{F:Nat->FC}{oe ma:gh Nat}{vo vm:gd}{VB:Nat->gd}(h:CS N w bo bm F oe ma vo vm VB){k:Nat}(d:CB bo bm vo vm ma VB k\/k∈oe):∃c e,w.heap[k]?=some (.cells c e (0,0))/\e≠125:=by
 have hl:=h.bZ;rcases d with (rfl|rfl|d|d|d|⟨m,E,d⟩)|d
 ·exact⟨_,_,h.ob,by decide⟩
 ·exact⟨_,_,h.mb,by decide⟩
 ·have⟨c,hc⟩:=Be h.ol d;exact⟨c,_,hc,by decide⟩
 ·have⟨c,hc⟩:=Be h.ml d;exact⟨c,_,hc,by decide⟩
 ·obtain⟨i,z,rfl⟩:=DV d;exact⟨_,_,(h.BK i z (by omega)).1,by decide⟩
 ·obtain⟨i,z,rfl⟩:=DV E;have⟨c,hc⟩:=Be (h.BK i z (by omega)).2 d;exact⟨c,_,hc,by decide⟩
 ·have⟨c,hc⟩:=(h.IF k d).2;exact⟨c,_,hc,by decide⟩
section
variable{N:Nat}{w wr W w3:ga}{bo bm:Nat}{F:Nat->FC}{oe ma:gh Nat}{vo vm:gd}{VB:Nat->gd}{es:gh AM}{i cn:Nat}{ov:gd}{L M:gh Nat}{aB aD:gd}{VB':Nat->gd}{aA:gh AM}
def EE.b0(h:EE N w bo bm F oe ma vo vm VB es i cn ov wr L M aB aD VB' aA)(d:A3 Ab wr W):EE N w bo bm F oe ma vo vm VB es i cn ov W L M aB aD VB' aA:=
 ⟨h.cs.Al d (λ_ _ h=>h) (λ_ _ h=>h),Ax h.EW λg z=>d.An g (AF h.EW z) (λh=>h),h.ren,h.GO,h.K5,h.AR,h.Al.Av d (λ_ h _=>h.elim),h.LY,h.Np,h.Qu⟩
def EE.cj(h:EE N w bo bm F oe ma vo vm VB es i cn ov W L M aB aD VB' aA){j f mf:Nat}{nm:gg}{Y:gd}(H:i<es.length)(O:(es[i]'H).1=nm)(I:(es[i]'H).2=f)(hj:L[j]?=some f)(hm:M[j]?=some mf)(hcn:cn<=i+1)(E:App W w3 125 2 ov Y (aA.length+1) (BX aA++[.string nm,.pointer (some ⟨mf,0,none⟩)])):EE N w bo bm F oe ma vo vm VB es (i+1) (i+1) Y w3 L M aB aD VB' (aA++[(nm,mf)]):=by
 have hs:∀k,CB bo bm aB aD M VB' k\/k∈L->w3.heap[k]?=W.heap[k]?:=by
  intro k z;have⟨c,e,d,h2⟩:=h.cs.cZ z
  exact E.Cx.block k (Bv d) (λe=>by
   have⟨c',h3⟩:=Be h.EW e.symm
   exact BR d h3 h2 rfl)
 refine⟨h.cs.aN (λk z=>hs k (.inl z)) (λk z=>hs k (.inr z)),?_,?_,?_,h.K5,?_,?_,h.LY,h.Np,h.Qu⟩
 ·have:=E.AE;unfold D8;rw[LS,AY];exact this
 ·rw[<-List.take_append_getElem H];have:es[i]'H=(nm,f):=by rw[<-O,<-I]
  rw[this];exact h.ren.cj hj hm
 ·have⟨o,d,h2,h3⟩:=h.GO;exact⟨o,d,by omega,h3⟩
 ·intro g hg;rcases E.CA with d|d
  ·exact h.AR g (d.symm.trans hg)
  ·rw[hg]at d;cases d;exact h.Al.Aj
 ·exact h.Al.Cx E.Cx λk z hlt=>by have:=h.AR k z;omega
def EE.cC{w1 w2 H w6 aJ:ga}{f nq ne:Nat}{vb:gd}{a3 a6:Option Addr}{c3 c6:Nat}(h:EE N w bo bm F oe ma vo vm VB es i cn ov w1 L M aB aD VB' aA)(aU:L.length=ne)(hf:f∉L)(a2:Dm f es)(aZ:f<N)(aV:∃c,w1.heap[f]?=some (.cells c 129 (0,0)))(aQ:A3 (λ_=>False) w1 w2)(hA:App ((w2.drewN nq).alloc (.cells #[.pointer (some ⟨f,0,none⟩)] 123)) w3 123 1 aB (.slice a3 (ne+1) c3) (ne+1) (F8 L++[.pointer (some ⟨f,0,none⟩)]))(aL:w3.setCell ⟨bo,0,none⟩ (.slice a3 (ne+1) c3)=aJ)(hB:App aJ.drew H 5 1 (.slice none 0 0) vb (F f).1.length (Ea (F f).1))(hC:App ((H.alloc (.cells #[vb,.int .i64 (F f).2] 129)).alloc (.cells #[.pointer (some ⟨H.heap.size,0,none⟩)] 123)) w6 123 1 aD (.slice a6 (ne+1) c6) (ne+1) (F8 M++[.pointer (some ⟨H.heap.size,0,none⟩)])):
 EE N w bo bm F oe ma vo vm VB es i (cn+1) ov (w6.setCell ⟨bm,0,none⟩ (.slice a6 (ne+1) c6)) (L++[f]) (M++[H.heap.size]) (.slice a3 (ne+1) c3) (.slice a6 (ne+1) c6) (λm=>if m=H.heap.size then vb else VB' m) aA:=by
 subst aU;have hl:=h.cs.bZ;have s2:=aQ.Aj;have s3:=hA.Cx.size;have s4:aJ.heap.size<=H.heap.size:=hB.Cx.size;have s6:=hC.Cx.size;have sW:aJ.heap.size=w3.heap.size:=by rw[<-aL];simp
 simp only[Nz,World.heap_drewN]at s3 s6;have aW:=Bv h.cs.ob;have a4:=Bv h.cs.mb;have a1:∀g,aB.ownBlock=some g->g<w1.heap.size:=λg d=>AF h.cs.ol d;have aI:∀g,aD.ownBlock=some g->g<w1.heap.size:=λg d=>AF h.cs.ml d;have k3:=((((aQ.aY (S:=λk=>aB.ownBlock=some k))).bb nq).al (.cells #[.pointer (some ⟨f,0,none⟩)] 123)).Cx hA.Cx (λk hk _=>hk);have aH:=((((A3.I (λk=>aD.ownBlock=some k) aJ).ag.Cx hB.Cx (λk hk _=>by simp[Value.ownBlock]at hk)).al (.cells #[vb,.int .i64 (F f).2] 129)).al (.cells #[.pointer (some ⟨H.heap.size,0,none⟩)] 123)).Cx hC.Cx (λk hk _=>hk);have aR:=(k3.An bo aW (λe=>by have⟨c,hh⟩:=Be h.cs.ol e;exact BR hh h.cs.ob (by decide) rfl)).trans h.cs.ob;have a0:aJ.heap[bo]?=some (.cells #[.slice a3 (L.length+1) c3] 138 (0,0)):=by rw[<-aL];exact CL aR
 have kW:A3 (One bo) w3 aJ:=by rw[<-aL];exact(A3.I (One bo) w3).aq rfl 0 _
 have aP:=(k3.An bm a4 (λe=>by have⟨c,hh⟩:=Be h.cs.ol e;exact BR hh h.cs.mb (by decide) rfl)).trans h.cs.mb;have aN:=(kW.An bm (Bv aP) (λe=>h.cs.ne e.symm)).trans aP
 have aT:=(aH.An bm (Bv aN) (λe=>by
  have⟨c,hh⟩:=Be h.cs.ml e;exact BR hh h.cs.mb (by decide) rfl)).trans aN
 have k7:A3 (One bm) w6 (w6.setCell ⟨bm,0,none⟩ (.slice a6 (L.length+1) c6)):=(A3.I (One bm) w6).aq rfl 0 _;have e7:(w6.setCell ⟨bm,0,none⟩ (.slice a6 (L.length+1) c6)).heap[bm]?=some (.cells #[.slice a6 (L.length+1) c6] 138 (0,0)):=CL aT;generalize aX:w6.setCell ⟨bm,0,none⟩ (.slice a6 (L.length+1) c6)=W7 at k7 e7 ⊢;have s7:W7.heap.size=w6.heap.size:=by rw[<-aX];simp
 have aS:A3 (λk=>k=bo\/k=bm\/aB.ownBlock=some k\/aD.ownBlock=some k) w1 W7:=by
  refine(((k3.af (S':=λk=>k=bo\/k=bm\/aB.ownBlock=some k\/aD.ownBlock=some k) (λx _ E=>.inr (.inr (.inl E)))).Av kW (λx E _=>.inl E)).Av aH (λx E _=>.inr (.inr (.inr E)))).Av k7 (λx E _=>.inr (.inl E))
 have key:∀(k:Nat) (c:Array gd) (e:Nat),w1.heap[k]?=some (Obj.cells c e (0,0))->e≠138->e≠123->W7.heap[k]?=w1.heap[k]?:=λk c e hk h1 h2=>
  aS.An k (Bv hk) (by
   rintro (rfl|rfl|d|d)
   ·exact BR hk h.cs.ob h1 rfl
   ·exact BR hk h.cs.mb h1 rfl
   ·have⟨c',hh⟩:=Be h.cs.ol d;exact BR hk hh h2 rfl
   ·have⟨c',hh⟩:=Be h.cs.ml d;exact BR hk hh h2 rfl)
 have aF:∀g,(Value.slice a3 (L.length+1) c3).ownBlock=some g->aB.ownBlock=some g\/(w1.heap.size<=g/\g<w3.heap.size):=λg d=>by
  have I:=AF hA.AE d;rcases hA.CA with e|e
  ·rw[e]at d;exact .inl d
  ·rw[e]at d;cases d;right;simp at I ⊢;omega
 have aM:∀g,(Value.slice a6 (L.length+1) c6).ownBlock=some g->aD.ownBlock=some g\/H.heap.size+2<=g:=λg d=>by
  rcases hC.CA with e|e
  ·rw[e]at d;exact .inl d
  ·rw[e]at d;cases d;right;simp
 have aG:∀g,vb.ownBlock=some g->aJ.heap.size<=g:=λg d=>by
  rcases hB.CA with e|e
  ·rw[e]at d;simp[Value.ownBlock]at d
  ·rw[e]at d;cases d;simp
 have hM:∀m∈M,m<w1.heap.size:=λm z=>h.cs.lt (.inr (.inr (.inr (.inr (.inl z)))));have aO:∀m∈M,∀g,(VB' m).ownBlock=some g->g<w1.heap.size:=λm z g d=>h.cs.lt (.inr (.inr (.inr (.inr (.inr ⟨m,z,d⟩)))));have hNw:N<=w1.heap.size:=by have:=h.cs.IH;omega
 have hww:=h.Al.Aj;have oL:W7.ownsRow 0 123 1 (.slice a3 (L.length+1) c3) (L.length+1) (F8 L++[.pointer (some ⟨f,0,none⟩)]):=by
  have q1:=
   Ax hA.AE λg d=>kW.An g (AF hA.AE d) (λe=>by have⟨c,hh⟩:=Be hA.AE d;exact BR hh aR (by decide) e)
  have q2:=Ax q1 λg d=>by
   have I:=AF hA.AE d;refine aH.An g (by omega) (λe=>?_);rcases aF g d with e2|e2
   ·exact h.cs.Lc g e2 e
   ·have:=aI g e;omega
  refine Ax q2 λg d=>?_;have I:=AF hA.AE d;refine k7.An g (by omega) (λe=>?_);rcases aF g d with e2|e2
  ·have⟨c,hh⟩:=Be h.cs.ol e2;exact BR hh h.cs.mb (by decide) e
  ·have:g=bm:=e;omega
 have oM:W7.ownsRow 0 123 1 (.slice a6 (L.length+1) c6) (L.length+1) (F8 M++[.pointer (some ⟨H.heap.size,0,none⟩)]):=by
  refine Ax hC.AE λg d=>k7.An g (AF hC.AE d) (λe=>?_);have⟨c,hh⟩:=Be hC.AE d;exact BR hh aT (by decide) e
 have fB:CY W7 H.heap.size vb (F f).2:=by
  have h5:((H.alloc (.cells #[vb,.int .i64 (F f).2] 129)).alloc (.cells #[.pointer (some ⟨H.heap.size,0,none⟩)] 123)).heap[H.heap.size]?=some (.cells #[vb,.int .i64 (F f).2] 129 (0,0)):=by
   rw[Di _ _ _ (by simp)];exact BL _ _
  have h6:=(hC.Cx.block _ (by simp;omega) (λe=>by have:=aI _ e.symm;omega)).trans h5;exact(k7.An _ (by omega) (λe=>by have:H.heap.size=bm:=e;omega)).trans h6
 have bB:FZ W7 vb (F f).1:=by
  refine Ax hB.AE λg d=>?_;have I:=AF hB.AE d;have hge:=aG g d;have h5:((H.alloc (.cells #[vb,.int .i64 (F f).2] 129)).alloc (.cells #[.pointer (some ⟨H.heap.size,0,none⟩)] 123)).heap[g]?=H.heap[g]?:=by
   rw[Di _ _ _ (by simp;omega),Di _ _ _ I]
  rw[<-h5,<-hC.Cx.block g (by simp;omega) (λe=>by have:=aI _ e.symm;omega)];exact k7.An _ (by omega) (λe=>by have:g=bm:=e;omega)
 have Y:H.heap.size∉M:=λz=>by have:=hM _ z;omega
 have aY:CS N W7 bo bm F (L++[f]) (M++[H.heap.size]) (.slice a3 (L.length+1) c3) (.slice a6 (L.length+1) c6) (λm=>if m=H.heap.size then vb else VB' m):=by
  refine⟨?_,e7,h.cs.ne,?_,?_,?_,?_,?_,?_,?_,?_,h.cs.IH,h.cs.Jr,?_,?_,?_,?_⟩
  ·refine(k7.An bo (by omega) h.cs.ne).trans ((aH.An bo (by omega) (λe=>?_)).trans a0);have⟨c,hh⟩:=Be h.cs.ml e;exact BR hh h.cs.ob (by decide) rfl
  ·simpa[F8] using oL
  ·simpa[F8] using oM
  ·intro g h1 h2;rcases aF g h1 with e1|e1<;>rcases aM g h2 with e2|e2
   ·exact h.cs.Lc g e1 e2
   ·have:=a1 g e1;omega
   ·have:=aI g e2;omega
   ·omega
  ·intro j hj a7;by_cases I:j<M.length
   ·(have aK:j<L.length:=by omega);have z:M[j]'I≠H.heap.size:=λe=>Y (e ▸ BU I);have⟨q1,q2⟩:=h.cs.BK j I aK;simp only[Fg I,Fg aK,z,C9];refine⟨?_,Ax q2 λg d=>?_⟩
    ·unfold CY at q1 ⊢;rw[key _ _ _ q1 (by decide) (by decide)];exact q1
    ·have⟨c,hh⟩:=Be q2 d;exact key _ _ _ hh (by decide) (by decide)
   ·(obtain rfl:j=M.length:=by simp at hj;omega);(have e1:(M++[H.heap.size])[M.length]'hj=H.heap.size:=by simp);(have e2:(L++[f])[M.length]'a7=f:=by simp[hl]);rw[e1,e2];simp only[Cp];exact⟨fB,bB⟩
  ·intro x E;rcases AU.1 E with E|E
   ·have⟨q1,c,q2⟩:=h.cs.IF x E;exact⟨q1,c,(key _ _ _ q2 (by decide) (by decide)).trans q2⟩
   ·simp at E;subst E;obtain⟨c,hc⟩:=aV;exact⟨aZ,c,(key _ _ _ hc (by decide) (by decide)).trans hc⟩
  ·refine GW.2 ⟨h.cs.IG,by simp,λa ha b hb e=>?_⟩;simp at hb;subst hb;subst e;exact hf ha
  ·refine GW.2 ⟨h.cs.Q9,by simp,λa ha b hb e=>?_⟩;simp at hb;subst hb;subst e;exact Y ha
  ·intro m m' g z O d aE;rcases AU.1 z with z|z<;>rcases AU.1 O with O | O
   ·have n1:m≠H.heap.size:=λe=>Y (e ▸ z);have n2:m'≠H.heap.size:=λe=>Y (e ▸ O);simp only[n1,n2,C9]at d aE;exact h.cs.Gq m m' g z O d aE
   ·have n1:m≠H.heap.size:=λe=>Y (e ▸ z);simp at O;subst O;simp only[n1,C9]at d;simp at aE;have:=aO m z g d;have:=aG g aE;omega
   ·have n1:m'≠H.heap.size:=λe=>Y (e ▸ O);simp at z;subst z;simp only[n1,C9]at aE;simp at d;have:=aO m' O g aE;have:=aG g d;omega
   ·simp at z O;rw[z,O]
  ·intro g d;rcases aF g d with e|e
   ·exact h.cs.Jm g e
   ·omega
  ·intro g d;rcases aM g d with e|e
   ·exact h.cs.Jo g e
   ·omega
  ·intro m z;rcases AU.1 z with z|z
   ·exact h.cs.Pn m z
   ·simp at z;omega
  ·intro m z g d;rcases AU.1 z with z|z
   ·have n1:m≠H.heap.size:=λe=>Y (e ▸ z);simp only[n1,C9]at d;exact h.cs.Po m z g d
   ·simp at z;subst z;simp at d;have:=aG g d;omega
 refine⟨aY,?_,h.ren.af,?_,?_,h.AR,?_,?_,?_,?_⟩
 ·refine Ax h.EW λg d=>?_;have⟨c,hh⟩:=Be h.EW d;exact key _ _ _ hh (by decide) (by decide)
 ·have⟨o,h1,h2,h3⟩:=h.GO;refine⟨o++[f],by rw[h1,Ch],by simp;omega,λx E=>?_⟩;rcases AU.1 E with E|E
  ·exact h3 x E
  ·simp at E;subst E;exact a2
 ·have⟨o,h1,h2⟩:=h.K5;refine⟨o++[H.heap.size],by rw[h1,Ch],λx E=>?_⟩;rcases AU.1 E with E|E
  ·exact h2 x E
  ·simp at E;omega
 ·refine h.Al.Av aS ?_;rintro x (rfl|rfl|E|E) I
  ·exact .inl rfl
  ·exact .inr (.inl rfl)
  ·rcases h.LY x E with e|e
   ·exact .inr (.inr (.inl e))
   ·omega
  ·rcases h.Np x E with e|e
   ·exact .inr (.inr (.inr e))
   ·omega
 ·intro g d;rcases aF g d with e|e
  ·exact h.LY g e
  ·right;omega
 ·intro g d;rcases aM g d with e|e
  ·exact h.Np g e
  ·right;omega
 ·intro m z;have⟨o,h1,_⟩:=h.K5;have a5:m∈M:=by rw[h1];exact AU.2 (.inl z)
  have n1:m≠H.heap.size:=λe=>Y (e ▸ a5);simp only[n1,C9];exact h.Qu m z
end
def A0w(N:Nat)(w:ga)(bo bm:Nat)(F:Nat->FC)(oe ma:gh Nat)(vo vm:gd)(VB:Nat->gd)(h:CS N w bo bm F oe ma vo vm VB)(es:gh AM)(vl:gd)(bK:D8 w vl es)(cI:∀g,vl.ownBlock=some g->g<N)(hn:es.length<1099511627776/\oe.length<1099511627776)(hf:∀f,Dm f es->f<N/\(F f).1.length<=1099511627776/\∃v,CY w f v (F f).2/\FZ w v (F f).1/\∀g,v.ownBlock=some g->g<N):
 Ag 87 #[vl,A5 bo,A5 bm] w λe w'=>∃v,e=.returned v/\OR N w bo bm F oe ma vo vm VB es es.length v w':=by
 have H:=A1 h;have bN:=A1 hf;have cV:=A1 bK;have cZ:=A1 cI;obtain⟨a,cap,rfl,hle,b9,he⟩:=bK.Cd;have cX:=A1 he;obtain⟨hn1,hn2⟩:=hn;unfold maxLen at b9
 go_enter func87,ntmps87
 go_wp2;go_loopw [5,11] (λov iv wr=>∃i:Nat,i<=es.length/\iv=A0 i/\Hid (OR N w bo bm F oe ma vo vm VB es i ov wr)) (λ_ iv _=>es.length-(intOf iv).toNat)
 ·exact⟨0,Cb _,rfl,oe,ma,vo,vm,VB,[],H.o,CT _ _ _ _,⟨by simp,by simp⟩,⟨[],by simp⟩,⟨[],by simp⟩,by simp[Value.ownBlock],A3.I _ _,λ_ h=>.inl h,λ_ h=>.inl h,λ_ _=>rfl⟩
 ·obtain⟨i,hi,rfl,bF⟩:=hrel;by_cases aI:i<es.length
  ·have⟨L,M,aB,aD,VB',aA,k0⟩:=bF.o;have k1:=k0.cs;have k6:=k0.Al;obtain⟨g,rfl,e1,e2⟩:=cX.o i aI;have hgN:=cZ.o g rfl;have a5:=AF cV.o (g:=g) rfl;have bI:¬CF bo bm vo vm g:=by
    rintro (rfl|rfl|Y|Y)
    ·have:=H.o.IH;omega
    ·have:=H.o.Jr;omega
    ·have:=H.o.Jm g Y;omega
    ·have:=H.o.Jo g Y;omega
   have e3:=(E3 (k6.An g a5 bI)).trans e1;have e4:=(E3 (k6.An g a5 bI)).trans e2;obtain⟨nm,bA⟩:∃nm,(es[i]'aI).1=nm:=⟨_,rfl⟩;obtain⟨f,aN⟩:∃f,(es[i]'aI).2=f:=⟨_,rfl⟩;rw[bA]at e3;rw[aN]at e4;have bO:=A1 k1;have bM:=A1 k6;have bS:=A1 <| (bN.o f ⟨_,BU aI,aN⟩).2.1;have cC:Hid (∃v,(∀g,v.oB g->g<N)/\∀W,A3 (CF bo bm vo vm) w W->CY W f v (F f).2/\FZ W v (F f).1):=by
    have⟨h1,_,v,h2,h3,h4⟩:=bN.o f ⟨_,BU aI,aN⟩;have key:∀k,k<N->¬CF bo bm vo vm k:=by
     rintro k hk (rfl|rfl|Y|Y)
     ·have:=H.o.IH;omega
     ·have:=H.o.Jr;omega
     ·have:=H.o.Jm k Y;omega
     ·have:=H.o.Jo k Y;omega
    refine⟨v,h4,λW hc=>⟨(hc.An f (Bv h2) (key f h1)).trans h2,Ax h3 λg Y=>hc.An g (AF h3 Y) (key g (h4 g Y))⟩⟩
   have bJ:Hid (∀W:ga,A3 (CF bo bm vo vm) w W->∃c,W.heap[f]?=some (.cells c 129 (0,0))):=by
    intro W hc;have⟨h1,_,v,h2,_⟩:=bN.o f ⟨_,BU aI,aN⟩;refine⟨_,(hc.An f (Bv h2) ?_).trans h2⟩;rintro (rfl|rfl|Y|Y)
    ·have:=H.o.IH;omega
    ·have:=H.o.Jr;omega
    ·have:=H.o.Jm f Y;omega
    ·have:=H.o.Jo f Y;omega
   have hLl:L.length<2199023255552:=by
    have⟨o,h1,h2,_⟩:=k0.GO;rw[h1,AY];omega
   (have hEl:aA.length=i:=by have:=k0.ren.1;rw[BT]at this;omega);have⟨i0,hi0,hz0,hz1,hz2⟩:=Eg Tryz.cM;have bE:=A1 bA;have aW:=A1 aN;obtain⟨ne,aV⟩:∃ne,aA.length=ne:=⟨_,rfl⟩;(have hne2:ne<1099511627776:=by omega);have aT:=A1 aV;have bQ:=A1 k0;obtain⟨ao,co,rfl,ho1,b7,cH,_,_⟩:=B9 k1.ol;unfold maxLen at b7;go_wp2;have cL:=A1 cH;obtain⟨O,bR⟩:∃O,O=wr:=⟨_,rfl⟩;subst bR;have hsz:=Bv bO.o.ob;go_loopw [8] (λjv w2=>∃j:Nat,j<=L.length/\jv=A0 j/\Hid (∀m (h:m<L.length),m<j->L[m]'h≠f)/\Hid (A3 Ab (O.aC #[.string nm,A5 f] 125) w2)) (λjv _=>L.length-(intOf jv).toNat)
   ·exact⟨0,Cb _,rfl,λm h hm=>by omega,A3.I _ _⟩
   ·obtain⟨j,hj,rfl,bB,aH⟩:=hrel;obtain⟨w2,bP⟩:∃w2,w2=wr:=⟨_,rfl⟩;subst bP;have bH:=A1 <| (bM.o.al _).Av aH.o (λ_ h _=>h.elim);have I:=A1 <| (bO.o.Al ((A3.I Ab O).al _) (λ_ _ h=>h) (λ_ _ h=>h)).Al aH.o (λ_ _ h=>h) (λ_ _ h=>h);(have b1:w2.cell? (Ac bo 0)=some (.slice ao L.length co):=by have:=I.o.ob;simp[World.cell?,this]);have hE:=(aH.o.An O.heap.size (by simp) (λh=>h)).trans (BL O _);(have b2:w2.cell? (Ac O.heap.size 0)=some (.string nm):=by simp[World.cell?,hE]);(have b3:w2.cell? (Ac O.heap.size 1)=some (A5 f):=by simp[World.cell?,hE]);by_cases aM:j<L.length
    ·obtain⟨go,rfl⟩:=cL.o (by omega);obtain⟨x,hx⟩:∃x,L[j]'aM=x:=⟨_,rfl⟩;have b4:w2.cell? (Ac go j)=some (A5 x):=by
      refine BH I.o.ol (g:=go) rfl ?_;unfold F8;rw[QL,DL aM,hx];rfl
     have cF:=A1 hx;by_cases aZ:x=f
     ·subst aZ;have q:=λW=>A0h W x;go_wp2;go_quiet (fail);go_wp2;obtain⟨mf,a4⟩:∃mf,M[j]?=some mf:=⟨M[j]'(by rw[I.o.bZ];exact aM),DL _⟩;have⟨am,cm,hvm,hm1,hm2,aQ,_,_⟩:=B9 I.o.ml;subst hvm;obtain⟨gm,rfl⟩:=aQ (by omega);unfold maxLen at hm2;(have b5:w2.cell? (Ac bm 0)=some (AH gm L.length cm):=by have:=I.o.mb;simp[World.cell?,this]);have b6:w2.cell? (Ac gm j)=some (A5 mf):=by
       refine BH I.o.ml (g:=gm) rfl ?_;unfold F8;rw[QL,a4];rfl
      have bZ:=A1 a4;have aE:Hid (∀n,EE N w bo bm F oe ma vo vm VB es i i u5 ((w2.drewN n).aC #[.string nm,A5 mf] 125) L M (AH go L.length co) (AH gm L.length cm) VB' aA):=
       λn=>bQ.o.b0 (((((A3.I Ab O).al _).tr aH.o).bb n).al _)
      have aP:Hid (∀n,((w2.drewN n).aC #[.string nm,A5 mf] 125).ownsRow 0 125 2 u5 ne (BX aA)):=λn=>aT.o ▸ (aE.o n).EW;have aY:Hid (∀n,Src Tryz.prog 2 92 (AH w2.heap.size 1 1) 1 [.string nm,A5 mf] ((w2.drewN n).aC #[.string nm,A5 mf] 125)):=
       λn=>Src.bh underlying92 (w2.drewN n) #[.string nm,A5 mf] 125 w2.heap.size (by simp) 1 1 rfl (by simp[Value.oneCell'])
      (have aR:(ne+1)*24<=140737488355328:=by omega);have aO:Hid (∀n b3 z w3,App ((w2.drewN n).aC #[.string nm,A5 mf] 125) w3 125 2 u5 (.slice b3 (ne+1) z) (ne+1) (BX aA++[.string nm,A5 mf])->OR N w bo bm F oe ma vo vm VB es (i+1) (.slice b3 (ne+1) z) w3):=by
       intro n b3 z w3 hA;exact⟨_,_,_,_,_,_,(aE.o n).cj aI bE.o aW.o (by rw[DL aM,cF.o]) bZ.o (by omega) (by rw[aT.o];exact hA)⟩
      go_region_law
       ((refine JU ?_ (.tmp 55) (.tmp 63) 92 92 ?_ 125 i0 _ 2 24 underlying92 hi0 hz0 hz1 hz2 rfl (Nat.zero_lt_succ 23) u5 ne (BX aA) ?_ (aP.o (nq+1)) (AH w2.heap.size 1 1) 1 [.string nm,A5 mf] ?_ (aY.o (nq+1)) aR ?_;(· rfl);(· rfl);(· rfl);(· rfl);intro b3 z w3 hA;have bX:=A1 (aO.o (nq+1) b3 z w3 hA)))
      all_goals (go_wp2;go_roundw;(case rel=>exact⟨i+1,by omega,by go_num,bX.o⟩);(case measure=>simp[intOf];omega))
     ·have⟨cx,hcx⟩:=(I.o.IF x (cF.o ▸ BU aM)).2;have q:∀n:Nat,(binOp .neq 123 (A5 x) (A5 f)).run Tryz.prog (w2.drewN n)=.ok (.bool true) (w2.drewN n):=by
       intro n;have⟨cf,hcf⟩:=bJ.o w2 (bH.o);exact A0i _ x f cx cf (by simpa using hcx) (by simpa using hcf) aZ
      go_wp2;go_quiet (fail);go_wp2;go_roundw
      ·refine⟨j+1,by omega,by go_num,λm h hm=>?_,aH.o.bb _⟩;by_cases bW:m=j
       ·subst bW;rw[cF.o];exact aZ
       ·exact bB.o m h (by omega)
      ·simp[intOf];omega
    ·(obtain rfl:j=L.length:=by omega);have⟨p0,hp,hp0,hp1,hp2⟩:=Eg Tryz.fo;have aY:Hid (∀n,Src Tryz.prog 1 138 (AH w2.heap.size 1 1) 1 [A5 f] ((w2.drewN n).aC #[A5 f] 123)):=
      λn=>Src.bh underlying138 (w2.drewN n) #[A5 f] 123 w2.heap.size (by simp) 1 1 rfl (by simp[Value.oneCell'])
     have bV:Hid (∀n,((w2.drewN n).aC #[A5 f] 123).ownsRow 0 123 1 (.slice ao L.length co) L.length (F8 L)):=
      λn=>Ax I.o.ol λg Y=>Di _ _ _ (by simpa using AF I.o.ol Y)
     (have aR:(L.length+1)*8<=140737488355328:=by omega)
     have cU:Hid (∀n w3 a3 z,App ((w2.drewN n).aC #[A5 f] 123) w3 123 1 (.slice ao L.length co) (.slice a3 (L.length+1) z) (L.length+1) (F8 L++[A5 f])->
      w3.frozen? (Ac bo 0)=false/\w3.cell? (Ac bo 0)=some (.slice ao L.length co)/\A3 (λk=>k=bo\/(Value.slice ao L.length co).oB k) w2 (w3.setCell (Ac bo 0) (.slice a3 (L.length+1) z))):=by
      intro n w3 a3 z hA;have aV:(Value.slice ao L.length co).ownBlock≠some bo:=λe=>by
       have⟨c,hh⟩:=Be I.o.ol e;exact BR hh I.o.ob (by decide) rfl
      have bD:w3.heap[bo]?=some (.cells #[.slice ao L.length co] 138 (0,0)):=by
       rw[hA.Cx.block bo (by have:=Bv I.o.ob;simp;omega) (λe=>aV e.symm),Di _ _ _ (by simpa using Bv I.o.ob)];exact I.o.ob
      refine⟨by simp[World.frozen?,bD],by simp[World.cell?,bD],?_⟩;exact((((A3.I _ w2).bb n).al _).Cx hA.Cx (λk hk _=>.inr hk)).aq (.inl rfl) 0 _
     go_wp2;go_quiet (fail);go_wp2_with (at_builtin;refine Dj rfl (.tmp 34) (.tmp 37) 138 138 rfl 123 p0 _ 1 8 underlying138 hp hp0 hp1 hp2 rfl (by decide) _ _ _ (by rfl) (bV.o nq) _ 1 _ (by rfl) (aY.o nq) aR ?_;intro a3 z w3 hA;have c3:=A1 (cU.o nq w3 a3 z hA);have f3:=c3.o.1;have g3:=c3.o.2.1);have aK:=c3.o.2.2;generalize cD:w3.setCell (Ac bo 0) (.slice a3 (L.length+1) z)=W3 at aK ⊢;have C3b:=A1 aK;have cA:=A1 cD;have cP:=A1 hA;have⟨am,cm,hvm,hm1,hm2,aQ,_,_⟩:=B9 I.o.ml;subst hvm;unfold maxLen at hm2
     have cJ:=A1 <| bH.o.Av aK (λx hx bC=>by
      rcases hx with rfl|hx
      ·exact .inl rfl
      ·rcases bQ.o.LY x hx with h|h
       ·exact .inr (.inr (.inl h))
       ·omega)
     have⟨vf,hvf1,hvf2⟩:=cC.o;have⟨aE,hq2⟩:=hvf2 W3 cJ.o;obtain⟨af,cf,rfl,hf1,bY⟩:=hq2.Cd;unfold maxLen at bY;have d1:=aE.c0;have d2:=aE.c1;have b0:¬(Value.slice ao L.length co).oB bm:=λe=>by
      have⟨c,hh⟩:=Be I.o.ol e;exact BR hh I.o.mb (by decide) rfl
     have aL:=
      (aK.An bm (Bv I.o.mb) (λe=>e.elim (λe=>I.o.ne e.symm) b0)).trans I.o.mb
     (have d3:W3.cell? (Ac bm 0)=some (.slice am L.length cm):=by simp[World.cell?,aL]);(have hge:O.heap.size<=w2.heap.size:=by have:=aH.o.Aj;simp at this;omega);have cE:∀g,(Value.slice ao L.length co).oB g->g<O.heap.size:=λg Y=>AF bO.o.ol Y;have aG:=(aK.An O.heap.size (by have:=aH.o.Aj;simp at this;omega) (λe=>e.elim (λe=>by omega) (λe=>by have:=cE _ e;omega))).trans ((aH.o.An O.heap.size (by simp) (λh=>h)).trans (BL O _));(have d4:W3.cell? (Ac O.heap.size 0)=some (.string nm):=by simp[World.cell?,aG]);(have d5:W3.cell? (Ac O.heap.size 1)=some (A5 f):=by simp[World.cell?,aG]);have⟨y0,hy,hy0,hy1,hy2⟩:=Eg Tryz.infoByte;have cB:=A1 <| Src.bN (w:=W3.drew) GA hq2 (A3T _);(have cO:(0+(F f).1.length)*1<=140737488355328:=by have:=bS.o;omega);have cQ:Hid (∀E v4 n xs,App W3.drew E 5 1 (.slice none 0 0) v4 n xs->E.cell? (Ac O.heap.size 1)=some (A5 f)/\E.cell? (Ac f 0)=some (.slice af (F f).1.length cf)/\E.cell? (Ac f 1)=some (A0 (F f).2)/\E.cell? (Ac bm 0)=some (.slice am L.length cm)/\E.cell? (Ac O.heap.size 0)=some (.string nm)):=by
      intro E v4 n xs hB;have hc:∀k o,W3.heap[k]?=some o->E.heap[k]?=some o:=λk o ho=>(hB.bM.An k (Bv ho) (λh=>h)).trans ho
      exact⟨(E3 ((hc _ _ aG).trans aG.symm)).trans d5,(E3 ((hc _ _ aE).trans aE.symm)).trans d1,(E3 ((hc _ _ aE).trans aE.symm)).trans d2,(E3 ((hc _ _ aL).trans aL.symm)).trans d3,(E3 ((hc _ _ aG).trans aG.symm)).trans d4⟩
     have cY:Hid (∀E v4 n xs o1 o2,App W3.drew E 5 1 (.slice none 0 0) v4 n xs->((E.alloc o1).alloc o2).ownsRow 0 123 1 (.slice am L.length cm) L.length (F8 M)):=by
      intro E v4 n xs o1 o2 hB
      have aQ:=Ax I.o.ml λg Y=>aK.An g (AF I.o.ml Y) (by
       rintro (e|e)
       ·have⟨c,hh⟩:=Be I.o.ml Y;exact BR hh I.o.ob (by decide) e
       ·exact I.o.Lc g e Y)
      have a8:=Ax aQ λg Y=>hB.bM.An g (AF aQ Y) (λh=>h);have a9:(E.alloc o1).ownsRow 0 123 1 (.slice am L.length cm) L.length (F8 M):=Ax a8 λg Y=>Di _ _ _ (AF a8 Y);exact Ax a9 λg Y=>Di _ _ _ (AF a9 Y)
     have cS:Hid (∀E v4 n xs o1 o2 w6 a6 d ys,App W3.drew E 5 1 (.slice none 0 0) v4 n xs->App ((E.alloc o1).alloc o2) w6 123 1 (.slice am L.length cm) (.slice a6 (L.length+1) d) (L.length+1) ys->
      (w6.cell? (Ac O.heap.size 1)=some (A5 f)/\w6.cell? (Ac f 0)=some (.slice af (F f).1.length cf)/\w6.cell? (Ac f 1)=some (A0 (F f).2)/\w6.cell? (Ac bm 0)=some (.slice am L.length cm)/\w6.cell? (Ac O.heap.size 0)=some (.string nm))/\w6.frozen? (Ac bm 0)=false/\(w6.setCell (Ac bm 0) (.slice a6 (L.length+1) d)).cell? (Ac O.heap.size 0)=some (.string nm)):=by
      intro E v4 n xs o1 o2 w6 a6 d ys hB hC;have hc:∀k o,W3.heap[k]?=some o->(Value.slice am L.length cm).ownBlock≠some k->w6.heap[k]?=some o:=λk o ho hn=>by
       have h4:=(hB.bM.An k (Bv ho) (λh=>h)).trans ho;have h5:((E.alloc o1).alloc o2).heap[k]?=some o:=by
        rw[Di _ _ _ (by have:=Bv h4;simp;omega),Di _ _ _ (Bv h4)];exact h4
       exact(hC.Cx.block k (Bv h5) (λe=>hn e.symm)).trans h5
      have a0:∀k (c:Array gd) (e:Nat),W3.heap[k]?=some (Obj.cells c e (0,0))->e≠123->(Value.slice am L.length cm).ownBlock≠some k:=λk c e hk he hn=>by
       have bC:=AF I.o.ml hn;have⟨c',hh⟩:=Be I.o.ml hn
       have:W3.heap[k]?=w2.heap[k]?:=aK.An k bC (by
        rintro (e2|e2)
        ·exact BR hh I.o.ob (by decide) e2
        ·exact I.o.Lc k e2 hn)
       rw[this,hh]at hk;cases hk;exact he rfl
      have x1:=hc _ _ aG (a0 _ _ _ aG (by decide));have x2:=hc _ _ aE (a0 _ _ _ aE (by decide));have x3:=hc _ _ aL (a0 _ _ _ aL (by decide));(have aX:bm≠O.heap.size:=by have:=Bv bO.o.mb;omega);refine⟨⟨(E3 (x1.trans aG.symm)).trans d5,(E3 (x2.trans aE.symm)).trans d1,(E3 (x2.trans aE.symm)).trans d2,(E3 (x3.trans aL.symm)).trans d3,(E3 (x1.trans aG.symm)).trans d4⟩,by simp[World.frozen?,x3],?_⟩;rw[A4M _ _ _ _ aX];exact(E3 (x1.trans aG.symm)).trans d4
     have cG:f∉L:=λhm=>by
      have⟨m,hm1,hm2⟩:=DV hm;exact bB.o m hm1 hm1 hm2
     have aU:Dm f es:=⟨_,BU aI,aW.o⟩
     have cN:Hid (∀E b4 aF w6 a6 d,App W3.drew E 5 1 (.slice none 0 0) (.slice b4 (F f).1.length aF) (F f).1.length (Ea (F f).1)->
      App ((E.aC #[.slice b4 (F f).1.length aF,A0 (F f).2] 129).aC #[A5 E.heap.size] 123) w6 123 1 (.slice am L.length cm) (.slice a6 (L.length+1) d) (L.length+1) (F8 M++[A5 E.heap.size])->
      EE N w bo bm F oe ma vo vm VB es i (i+1) u5 (w6.setCell (Ac bm 0) (.slice a6 (L.length+1) d)) (L++[f]) (M++[E.heap.size]) (.slice a3 (L.length+1) z) (.slice a6 (L.length+1) d) (λm=>if m=E.heap.size then .slice b4 (F f).1.length aF else VB' m) aA):=
      λE b4 aF w6 a6 d hB hC=>bQ.o.cC rfl cG aU (bN.o f aU).1 (bJ.o O bM.o) (((A3.I Ab O).al _).tr aH.o) cP.o cA.o hB hC
     have cT:Hid (W3.drew.cell? (Ac O.heap.size 1)=some (A5 f)/\W3.drew.cell? (Ac f 0)=some (.slice af (F f).1.length cf)/\W3.drew.cell? (Ac f 1)=some (A0 (F f).2)/\W3.drew.cell? (Ac bm 0)=some (.slice am L.length cm)/\W3.drew.cell? (Ac O.heap.size 0)=some (.string nm)):=⟨d5,d1,d2,d3,d4⟩;refine G0 (λw'=>w'.cell? (Ac O.heap.size 1)=some (A5 f)/\w'.cell? (Ac f 0)=some (.slice af (F f).1.length cf)/\w'.cell? (Ac f 1)=some (A0 (F f).2)/\w'.cell? (Ac bm 0)=some (.slice am L.length cm)/\w'.cell? (Ac O.heap.size 0)=some (.string nm)) 16
      (BG [0,1,2,3,4,5,7,8,9,10,11,6,12,13,14,15] [6,13,14,15]) (by kernel_rfl) (by kernel_rfl) (λ_ _ _ _ _ h=>h) cT.o ?_
     iterate 11 (refine Ek (v:=?_) rfl (by rfl) ?_ ?_;rotate_left;(· (intro w' hS;(try dsimp only at hS);go_simp;try with_reducible rfl));(try simp only[Cs]))
     refine Eb rfl (by rfl) (λK hK=>?_);refine Ir (.const (.slice none 0 0)) (.tmp 44) 127 127 (by rfl) 5 y0 _ 1 1 GA hy hy0 hy1 hy2 rfl (by decide) (.slice none 0 0) 0 [] (by rfl) (CT _ _ _ _) _ (F f).1.length _ (by rfl) cB.o cO ?_;intro b4 aF E hB;simp only[GF,Ff]at hB ⊢;refine hK _ _ (cQ.o _ _ _ _ hB) (λhS=>?_)
     (try simp only[Cs])
     obtain⟨q1,q2,q3,q4,q5⟩:=hS
     (refine Ek (v:=?_) rfl (by rfl) ?_ ?_;rotate_left;(· (intro w' hS;(try dsimp only at hS);go_simp;try with_reducible rfl));(try simp only[Cs]))
     refine Eb rfl (by rfl) (λK hK=>?_);go_simp;refine hK _ _ ?_ (λhS=>?_)
     ·simp[World.cell?_alloc_some,q1,q2,q3,q4,q5]
     (try simp only[Cs])
     obtain⟨q1',q2',q3',q4',q5'⟩:=hS;refine Eb rfl (by rfl) (λK hK=>?_);go_simp;refine hK _ _ ?_ (λhS=>?_)
     ·simp[World.cell?_alloc_some,q1,q2,q3,q4,q5]
     (try simp only[Cs])
     have bT:Hid (Src Tryz.prog 1 138 (AH (E.heap.size+1) 1 1) 1 [A5 E.heap.size] ((E.aC #[.slice b4 (F f).1.length aF,A0 (F f).2] 129).aC #[A5 E.heap.size] 123)):=
      Src.bh underlying138 (E.aC #[.slice b4 (F f).1.length aF,A0 (F f).2] 129) #[A5 E.heap.size] 123 (E.heap.size+1) (by simp) 1 1 rfl (by simp[Value.oneCell'])
     refine Eb rfl (by rfl) (λK hK=>?_);refine Ir (.tmp 39) (.tmp 53) 138 138 (by rfl) 123 p0 _ 1 8 underlying138 hp hp0 hp1 hp2 rfl (by decide) (.slice am L.length cm) L.length (F8 M) (by rfl) (cY.o _ _ _ _ _ _ hB) _ 1 _ (by rfl) bT.o aR ?_;intro a6 d w6 hC;have k7:=A1 (cN.o E b4 aF w6 a6 d hB hC);have⟨r1,r2,r3⟩:=cS.o _ _ _ _ _ _ _ _ _ _ hB hC;refine hK _ _ r1 (λhS=>?_);obtain⟨_,_,_,r4,_⟩:=r1
     (try simp only[Cs])
     refine G1 ?_;simp only[DW,Dz];go_wp2;generalize hW7:w6.setCell (Ac bm 0) (.slice a6 (L.length+1) d)=W7 at k7 r3 ⊢;generalize a4:E.heap.size=mf at k7;have a1:=k7.o.cs.ml;(have a2:(L++[f]).length=L.length+1:=by simp);rw[a2]at a1;have⟨a7,c7,e7,hm1',hm2',hm3',_,_⟩:=B9 a1;cases e7;obtain⟨g6,rfl⟩:=hm3' (by omega);unfold maxLen at hm2';(have m1:W7.cell? (Ac bm 0)=some (AH g6 (L.length+1) d):=by have:=k7.o.cs.mb;simp[World.cell?,this]);have m2:W7.cell? (Ac g6 L.length)=some (A5 mf):=by
      refine BH a1 (g:=g6) rfl ?_;have aS:=I.o.bZ;unfold F8;rw[Ei,HV (by simp[aS])];simp[aS]
     have aP:Hid (((W7.drew).aC #[.string nm,A5 mf] 125).ownsRow 0 125 2 u5 ne (BX aA)):=aT.o ▸ (k7.o.b0 ((A3.I _ W7).ag.al _)).EW;have bL:Hid (Src Tryz.prog 2 92 (AH W7.heap.size 1 1) 1 [.string nm,A5 mf] ((W7.drew).aC #[.string nm,A5 mf] 125)):=
      Src.bh underlying92 W7.drew #[.string nm,A5 mf] 125 W7.heap.size (by simp) 1 1 rfl (by simp[Value.oneCell'])
     (have bG:(ne+1)*24<=140737488355328:=by omega);have aO:Hid (∀b8 aJ w8,App ((W7.drew).aC #[.string nm,A5 mf] 125) w8 125 2 u5 (.slice b8 (ne+1) aJ) (ne+1) (BX aA++[.string nm,A5 mf])->OR N w bo bm F oe ma vo vm VB es (i+1) (.slice b8 (ne+1) aJ) w8):=by
      intro b8 aJ w8 hA;have aS:M.length=L.length:=I.o.bZ;exact⟨_,_,_,_,_,_,(k7.o.b0 ((A3.I _ W7).ag.al (.cells #[.string nm,A5 mf] 125))).cj (j:=L.length) (mf:=mf) aI bE.o aW.o (by simp) (by simp[<-aS]) (Ao _) (by rw[aT.o];exact hA)⟩
     have j0:(0:Int)<=(L.length:Int):=GK _;obtain⟨nl,cM,j1⟩:∃nl:Nat,L.length+1=nl/\(L.length:Int)<(nl:Int):=⟨_,rfl,by omega⟩;rw[cM]at m1;refine G0 (λw'=>w'.cell? (Ac O.heap.size 0)=some (.string nm)/\w'.cell? (Ac bm 0)=some (AH g6 nl d)/\w'.cell? (Ac g6 L.length)=some (A5 mf)) 9
      (BG [0,1,2,3,4,5,6,7,8] [8]) (by kernel_rfl) (by kernel_rfl) (λ_ _ _ _ _ h=>h) ⟨r3,m1,m2⟩ ?_
     iterate 8 (refine Ek (v:=?_) rfl (by rfl) ?_ ?_;rotate_left;(· (intro w' hS;(try dsimp only at hS);go_simp;try with_reducible rfl));(try simp only[Cs]))
     refine Eb rfl (by rfl) (λK hK=>?_);go_simp;refine hK _ _ ?_ (λhS=>?_)
     ·simp[World.cell?_alloc_some,r3,m1,m2]
     (try simp only[Cs])
     refine G1 ?_;simp only[DW,Dz];go_wp2_with (at_builtin;refine Dj rfl (.tmp 55) (.tmp 63) 92 92 rfl 125 i0 _ 2 24 underlying92 hi0 hz0 hz1 hz2 rfl (by decide) u5 ne (BX aA) (by rfl) aP.o _ 1 _ (by rfl) bL.o bG ?_;intro b8 aJ w8 hD;have bU:=A1 (aO.o b8 aJ w8 hD));go_roundw
     ·exact⟨i+1,by omega,by go_num,bU.o⟩
     ·simp[intOf];omega
  ·(obtain rfl:i=es.length:=by omega);go_wp2;go_ret;exact⟨_,rfl,bF.o⟩
end
end Go.Proofs.YtodcnkbblippnaaGreatDoor
