/- Part 11 of a proof: walks of the program. -/
import Derived.Shelf.Spec.SearchS
import Derived.Shelf.SlicesE.Clone
import Derived.Sort.OwnSorted
import Derived.Sort.OwnSortedInts
import Derived.Test.YtodcnkbblippnaaGreatDoorPart10
namespace Go.Proofs.YtodcnkbblippnaaGreatDoor
set_option maxRecDepth 100000
set_option maxHeartbeats 32000000
set_option linter.defProp false
open Go.Proofs.Tryz
section
open Go.RowKit
attribute [local go_sem ↓] Cw
def A0S(w:World)(g X O:Nat)(aA aB:Int->World->Prop)(hb:w.heap[g]?=some (.cells #[.func (Fn.func 118) #[A6 X] #[],.func (Fn.func 150) #[A6 O] #[]] 50 (0,0)))(h1:Ag 118 #[A6 X] w λe w'=>∃n,e=.returned (A0 n)/\aA n w'/\w'.heap[g]?=w.heap[g]?)(h2:∀d,aA 0 d->d.heap[g]?=w.heap[g]?->Ag 150 #[A6 O] d λe w'=>∃n,e=.returned (A0 n)/\aB n w'):
 Ag 117 #[AB g 2 2] w λe w'=>∃n,e=.returned (A0 n)/\((n≠0/\aA n w')\/aB n w'):=by
 have c0:A8 w g 0 (.func (Fn.func 118) #[A6 X] #[]):=by simp[A8,World.cell?,hb]
 have aE:Hid (∀d:World,d.heap[g]?=w.heap[g]?->A8 d g 1 (.func (Fn.func 150) #[A6 O] #[])):=λd h=>by simp[A8,World.cell?,h,hb]
 have aD:=A1 h1;have aF:=A1 h2
 go_enter func117,ntmps117
 go_wp2;refine I5 3 ?_;rw[Fh];go_wp2_with (fail);refine aD.m ?_;rintro e d⟨n1,rfl,q1,k1⟩;have I:=A1 q1;have c1:=aE.o d k1;have W:=A1 k1;by_cases z:n1=0
 case neg=>
  have hb1:(n1 !=0)=true:=by simpa using z
  go_wp2;go_ret;exact⟨n1,rfl,.inl ⟨z,I.o⟩⟩
 case pos=>
 subst z;have Y:=A1 (aF.o d I.o W.o);go_wp2;rw[Fh];go_wp2_with (fail);refine Y.m ?_;rintro e w2⟨n2,rfl,q2⟩;have E:=A1 q2;by_cases L:n2=0
 case neg=>
  have hb2:(n2 !=0)=true:=by simpa using L
  go_wp2;go_ret;exact⟨n2,rfl,.inr (E.o)⟩
 case pos=>
 subst L;go_wp2;rw[Fh];go_wp2;go_ret;exact⟨0,rfl,.inr (E.o)⟩
def A0R(w:World)(g X O:Nat)(aA aB:Int->World->Prop)(hb:w.heap[g]?=some (.cells #[.func (Fn.func 150) #[A6 X] #[],.func (Fn.func 86) #[A6 O] #[]] 50 (0,0)))(h1:Ag 150 #[A6 X] w λe w'=>∃n,e=.returned (A0 n)/\aA n w'/\w'.heap[g]?=w.heap[g]?)(h2:∀d,aA 0 d->d.heap[g]?=w.heap[g]?->Ag 86 #[A6 O] d λe w'=>∃n,e=.returned (A0 n)/\aB n w'):
 Ag 117 #[AB g 2 2] w λe w'=>∃n,e=.returned (A0 n)/\((n≠0/\aA n w')\/aB n w'):=by
 have c0:A8 w g 0 (.func (Fn.func 150) #[A6 X] #[]):=by simp[A8,World.cell?,hb]
 have aE:Hid (∀d:World,d.heap[g]?=w.heap[g]?->A8 d g 1 (.func (Fn.func 86) #[A6 O] #[])):=λd h=>by simp[A8,World.cell?,h,hb]
 have aD:=A1 h1;have aF:=A1 h2
 go_enter func117,ntmps117
 go_wp2;refine I5 3 ?_;rw[Fh];go_wp2_with (fail);refine aD.m ?_;rintro e d⟨n1,rfl,q1,k1⟩;have I:=A1 q1;have c1:=aE.o d k1;have W:=A1 k1;by_cases z:n1=0
 case neg=>
  have hb1:(n1 !=0)=true:=by simpa using z
  go_wp2;go_ret;exact⟨n1,rfl,.inl ⟨z,I.o⟩⟩
 case pos=>
 subst z;have Y:=A1 (aF.o d I.o W.o);go_wp2;rw[Fh];go_wp2_with (fail);refine Y.m ?_;rintro e w2⟨n2,rfl,q2⟩;have E:=A1 q2;by_cases L:n2=0
 case neg=>
  have hb2:(n2 !=0)=true:=by simpa using L
  go_wp2;go_ret;exact⟨n2,rfl,.inr (E.o)⟩
 case pos=>
 subst L;go_wp2;rw[Fh];go_wp2;go_ret;exact⟨0,rfl,.inr (E.o)⟩
def A0T(w:World)(g p1 p2 X:Nat)(aE aF aG:Int->World->Prop)(hb:w.heap[g]?=some (.cells #[.func (Fn.func 118) #[A6 p1] #[],.func (Fn.func 119) #[A6 p2] #[],.func (Fn.func 86) #[A6 X] #[]] 50 (0,0)))(h1:Ag 118 #[A6 p1] w λe w'=>∃n,e=.returned (A0 n)/\aE n w'/\w'.heap[g]?=w.heap[g]?)(h2:∀d,aE 0 d->d.heap[g]?=w.heap[g]?->Ag 119 #[A6 p2] d λe w'=>∃n,e=.returned (A0 n)/\aF n w'/\w'.heap[g]?=w.heap[g]?)(h3:∀d,aF 0 d->d.heap[g]?=w.heap[g]?->Ag 86 #[A6 X] d λe w'=>∃n,e=.returned (A0 n)/\aG n w'):
 Ag 117 #[AB g 3 3] w λe w'=>∃n,e=.returned (A0 n)/\((n≠0/\aE n w')\/(n≠0/\aF n w')\/aG n w'):=by
 have c0:A8 w g 0 (.func (Fn.func 118) #[A6 p1] #[]):=by simp[A8,World.cell?,hb]
 have aK:Hid (∀d:World,d.heap[g]?=w.heap[g]?->A8 d g 1 (.func (Fn.func 119) #[A6 p2] #[])):=λd h=>by simp[A8,World.cell?,h,hb]
 have aH:Hid (∀d:World,d.heap[g]?=w.heap[g]?->A8 d g 2 (.func (Fn.func 86) #[A6 X] #[])):=λd h=>by simp[A8,World.cell?,h,hb]
 have aJ:=A1 h1;have aL:=A1 h2;have aI:=A1 h3
 go_enter func117,ntmps117
 go_wp2;refine I5 4 ?_;rw[Fh];go_wp2_with (fail);refine aJ.m ?_;rintro e d⟨n1,rfl,q1,k1⟩;have O:=A1 q1;have c1:=aK.o d k1;have aA:=A1 k1;by_cases z:n1=0
 case neg=>
  have hb1:(n1 !=0)=true:=by simpa using z
  go_wp2;go_ret;exact⟨n1,rfl,.inl ⟨z,O.o⟩⟩
 case pos=>
 subst z;have aD:=A1 (aL.o d O.o aA.o);go_wp2;rw[Fh];go_wp2_with (fail);refine aD.m ?_;rintro e w2⟨n2,rfl,q2,k2⟩;have I:=A1 q2;have c2:=aH.o w2 k2;have aB:=A1 k2;by_cases E:n2=0
 case neg=>
  have hb2:(n2 !=0)=true:=by simpa using E
  go_wp2;go_ret;exact⟨n2,rfl,.inr (.inl ⟨E,I.o⟩)⟩
 case pos=>
 subst E;have Y:=A1 (aI.o w2 I.o aB.o);go_wp2;rw[Fh];go_wp2_with (fail);refine Y.m ?_;rintro e w3⟨n3,rfl,q3⟩;have L:=A1 q3;by_cases W:n3=0
 case neg=>
  have hb3:(n3 !=0)=true:=by simpa using W
  go_wp2;go_ret;exact⟨n3,rfl,.inr (.inr (L.o))⟩
 case pos=>
 subst W;go_wp2;rw[Fh];go_wp2;go_ret;exact⟨0,rfl,.inr (.inr (L.o))⟩
end
section
open Go.RowKit
def Tryz.fB:Go.Shelf.Ren:=⟨fun|26=>138|33=>179|34=>180|38=>234|n=>n,fun|0=>0|3=>3|4=>4|9=>9|24=>121|40=>232|n=>n,fun|n=>n⟩
def Tryz.eK:Go.Proofs.Lays2.n26 Tryz.prog Tryz.fB:={
 mixed:=by kernel_rfl
 f26:=func138.trans (Eu some (by kernel_rfl))
 f33:=func179.trans (Eu some (by kernel_rfl))
 f34:=func180.trans (Eu some (by kernel_rfl))
 f38:=func234.trans (Eu some (by kernel_rfl))
 t0:=underlying0
 a0:=isAgg0
 z0:=sizeOf0
 v0:=zeroValue0
 t3:=underlying3
 a3:=isAgg3
 z3:=sizeOf3
 v3:=zeroValue3
 t4:=underlying4
 a4:=isAgg4
 z4:=sizeOf4
 v4:=zeroValue4
 t9:=underlying9
 a9:=isAgg9
 z9:=sizeOf9
 v9:=zeroValue9
 t24:=underlying121
 a24:=isAgg121
 z24:=sizeOf121
 v24:=zeroValue121
 t40:=underlying232
 a40:=isAgg232
 z40:=sizeOf232
 v40:=zeroValue232}
def Tryz.fK:Go.Shelf.Ren:=⟨fun|41=>153|n=>n,fun|22=>97|23=>113|4=>4|n=>n,fun|n=>n⟩
def Tryz.eI:Go.Proofs.SlLaysE0.n41 Tryz.prog Tryz.fK:={
 mixed:=by kernel_rfl
 f41:=⟨Tryz.f153.name,by decide,func153.trans (Eu some (by kernel_rfl))⟩
 t4:=underlying4
 a4:=isAgg4
 z4:=sizeOf4
 v4:=zeroValue4
 t22:=underlying97
 a22:=isAgg97
 z22:=sizeOf97
 v22:=zeroValue97}
def TQ(a b:List UInt8):Op.bytesLess a b=decide (a<b):=by
 induction a generalizing b with
 | nil=>cases b with
  | nil=>simp[Op.bytesLess]
  | cons y r=>simp[Op.bytesLess]
 | cons x a ih=>
  cases b with
  | nil=>simp[Op.bytesLess]
  | cons y r=>
   unfold Op.bytesLess;rw[ih r];by_cases h:x<y
   ·simp[h,List.cons_lt_cons_iff]
   ·by_cases d:x=y
    ·subst d;simp
    ·(have:¬(x::a<y::r):=by rw[Jh];simp[h,d]);simp[h,d,this]
end
section
open Go.RowKit
attribute [local go_sem ↓] Cw
def As.a7{w W Y:World}{Ft d:Nat->Prop}{R:World->(Nat->Prop)->Prop}(hc:A4 Ft w W)(X:∀k,d k->Ft k\/w.heap.size<=k)(h2:As W d Y R):As w Ft Y R:=by
 obtain⟨L,I,E,z,O⟩:=h2;refine⟨hc.Au L λx hx hlt=>(X x hx).resolve_right (by omega),I,E,z,λk hk=>?_⟩;rcases O k hk with h|h
 ·exact X k h
 ·exact .inr (AQ hc.Al h)
section
variable {w:World} {ab b xb jb B:Nat} {sv ov lv jo:Value} {A:Ar} {P:PD} {Ft FT:Nat->Prop} {a c m:Nat}
def A1B(h:Bu w b P Ft)(nm:Bs):
 Ag 85 #[A6 b,.string ⟨nm.toArray⟩] w (Aj (A0 (P.ae (Ab nm)).1) λw'=>As w Ft w' (λw' d=>Bu w' b (P.ae (Ab nm)).2 d)):=Qh h (Ab nm)
def Qm(nm:Bs)(r:List Bs)(P:PD):PD.aw (nm::r) P=if (P.ae (Ab nm)).1≠0 then P.ae (Ab nm) else PD.aw r (P.ae (Ab nm)).2:=rfl
def QA(w:World)(h:AD w ab b A P FT):
 Ag 118 #[A6 ab] w (Aj (A0 (A.I P).1) λw'=>As w FT w' (λw' aU=>AD w' ab b (A.I P).2.1 (A.I P).2.2 aU)/\w'.cell? (A9 ab 2)=w.cell? (A9 ab 2)):=by
 obtain⟨xb,jb,sv,ov,lv,jo,Ft,hV,aJ⟩:=h;have a4:=hV.Af.c4;obtain⟨oa,O,rfl,oc1,aY⟩:=hV.AR.BP;unfold maxLen at aY;have aL:=A1 hV;have E:=A1 aJ;have aP:Hid (A.I P=if (PD.aw A.AR P).1≠0 then ((PD.aw A.AR P).1,A,(PD.aw A.AR P).2) else (0,{A with AR:=[]},(PD.aw A.AR P).2)):=rfl;have aZ:=A1 Qm;generalize hR:A.I P=R at aP ⊢;obtain⟨X,hX⟩:∃X,PD.aw A.AR P=X:=⟨_,rfl⟩;have a0:=A1 hX;rw[hX]at aP
 go_enter func118,ntmps118
 go_wp2;go_loopw [11] (λiv wr=>∃(k:Nat),iv=A0 k/\k<=A.AR.length/\Hid (∃aB,As w Ft wr (λw' I=>Cn w' ab b xb jb sv (.slice oa A.AR.length O) lv jo A aB I)/\X=PD.aw (A.AR.drop k) aB)) (λiv _=>A.AR.length-(intOf iv).toNat)
 case atStart=>exact⟨0,rfl,by omega,P,⟨A4.C _ _,Ft,aL.o,aL.o.lt,λk z=>.inl z⟩,a0.o.symm⟩
 case round=>
  obtain⟨k,rfl,z,hI⟩:=hrel;obtain⟨aB,hi,hx⟩:=hI.o;obtain⟨c1,aI,d,lt1,s1⟩:=hi;by_cases aF:k<A.AR.length
  ·obtain⟨g,o,rfl,d1⟩:=GK.at d.AR k aF;have aK:=FW aF;generalize hne:(A.AR[k]'aF)=nm at d1 aK;rw[aK,aZ.o]at hx;have e0:=d.Af.c0;have aO:=A1 (A1B d.dk nm);generalize hY:aB.ae (Ab nm)=Y at aO hx;have aE:Hid (∀w6,As wr aI w6 (λw' I=>Bu w' b Y.2 I)->As w Ft w6 (λw' I=>Cn w' ab b xb jb sv (.slice (some (A9 g o)) A.AR.length O) lv jo A Y.2 I)):=λw6 h6=>As.a7 c1 s1 (d.bI h6);have aG:=A1 hx;(have aT:(k:Int)<(A.AR.length:Int):=by omega);have hk0:=BR k;obtain⟨aM,aN⟩:=Y;dsimp only at aO aE aG;by_cases hy:aM=0
   case neg=>
    (have aA:X=(aM,aN):=by rw[aG.o,Ai hy]);subst aA;(have aH:R=(aM,A,aN):=by rw[aP.o,Ai hy]);subst aH;(have hyb:(aM !=0)=true:=by simpa using hy);go_wp2_with (go_at_call 85;refine aO.m ?_;rintro e w6⟨rfl,aD⟩;have L:=A1 (aE.o w6 aD));go_ret;obtain⟨_,_,aS,_⟩:=L.o;exact⟨rfl,aL.o.cA E.o L.o,aS.Af.c2.trans aL.o.Af.c2.symm⟩
   case pos=>
    subst hy;(have aX:Hid (X=PD.aw (A.AR.drop (k+1)) aN):=by unfold Hid;rw[aG.o,Ae (by simp)]);go_wp2_with (go_at_call 85;refine aO.m ?_;rintro e w6⟨rfl,aD⟩;have L:=A1 (aE.o w6 aD));go_roundw
    case rel=>exact⟨k+1,by go_num,by omega,aN,L.o,aX.o⟩
    case measure=>simp[intOf];omega
  ·(obtain rfl:k=A.AR.length:=by omega);rw[GN]at hx;have aA:X=(0,aB):=hx;subst aA;(have aH:R=(0,{A with AR:=[]},aB):=by rw[aP.o,Ae (by simp)]);subst aH;(have aT:¬((A.AR.length:Int)<(A.AR.length:Int)):=by omega);have g4:=d.Af.c4;have f4:=d.Af.fz 4;have aR:=A1 d;have aV:=A1 c1;have aQ:=A1 s1;go_wp2;go_ret;have d:=aR.o;have kz:A4 (One ab) wr (wr.sC ab 4 (.slice none 0 0)):=(A4.C (One ab) wr).aj (b:=ab) rfl 4 _;have hs:∀k,k≠ab->k<wr.heap.size->(wr.sC ab 4 (.slice none 0 0)).heap[k]?=wr.heap[k]?:=λk z hl=>kz.Am k hl z;have aW:∀k,De jb lv jo k->k≠ab:=λk z=>(d.FQ k z).1
   have W:Cn (wr.sC ab 4 (.slice none 0 0)) ab b xb jb sv (.slice none 0 0) lv jo {A with AR:=[]} aB aI:=
    ⟨d.Af.s4 _,(hs xb d.ne.symm d.ix.lt).trans d.ix,d.segs.aI λg hg=>hs g (d.Fz g hg).1 (d.segs.lt hg),Dt.bN,d.jn.aI λk z=>hs k (aW k z) (d.jn.lt z),
     AU.aI d.dk λk z=>hs k (λe=>by subst e;exact d.Dc _ (.inl rfl) z) (d.lt k z),λk z=>Bi (d.lt k z) kz.Al,
     λk z=>d.Dc k (by
      rcases z with h|h|h|h|h
      ·exact .inl h
      ·exact .inr (.inl h)
      ·exact .inr (.inr (.inl h))
      ·simp[Value.ownBlock]at h
      ·exact .inr (.inr (.inr (.inr h)))),d.Fz,λg hg=>by simp[Value.ownBlock]at hg,d.FQ⟩
   refine⟨rfl,?_,W.Af.c2.trans aL.o.Af.c2.symm⟩;refine(W.bK ((aV.o.ad (S':=λk=>Ft k\/k=ab) λ_ _ h=>.inl h).Au kz λ_ h _=>.inr h) ?_ (λk z=>(aQ.o k z).imp (λh=>E.o k (.inl h)) id) ?_)
   ·rintro k _ (h|rfl)
    ·exact E.o k (.inl h)
    ·exact E.o _ (.inr (.inl rfl))
   ·intro k z;refine .inl (E.o k (.inr ?_));rcases z with h|h|h|h|h
    ·exact .inl h
    ·exact .inr (.inl h)
    ·exact .inr (.inr (.inl h))
    ·simp[Value.ownBlock]at h
    ·exact .inr (.inr (.inr (.inr h)))
def QB(w:World)(h:AD w ab b A P FT):
 Ag 118 #[A6 ab] w (Aj (A0 (A.I P).1) λw'=>As w FT w' (λw' d=>AD w' ab b (A.I P).2.1 (A.I P).2.2 d)):=
 (QA w h).mono λ_ _ ⟨E,z,_⟩=>⟨E,z⟩
end
end
section
open Go.RowKit
def A4.df{w w':World}(h:Below w.heap.size w w'):A4 Aa w w':=⟨h.os,h.tape,h.output,h.size,λk d _=>h.block k d⟩
def NT{w:World}{d e size n:Nat}{v:Value}{xs:List Value}(h:w.ownsRow d e size v n xs):w.ownsRow 0 e size v n xs/\∀g,v.ownBlock=some g->d<=g:=by
 refine⟨⟨h.1,?_⟩,λg I=>(h.lt g I).1⟩;rcases h.2 with E|⟨g,cap,z,E,_,L⟩
 ·exact .inl E
 ·exact .inr ⟨g,cap,z,E,Ce _,L⟩
def A2B(l:List Bs):Dh l=l.map encStr:=rfl
def X5(w:World)(v:Value)(l:List Bs)(h:Dm w v l)(hl:l.length<4611686018427387904):
 Calls Tryz.prog 137 #[v] w λe w'=>e=.returned (.tuple #[])/\Dm w' v (l.mergeSort λx y=>decide (x<=y))/\A4 (λk=>v.ownBlock=some k) w w':=by
 obtain⟨h1,W⟩:=h;rcases W with⟨rfl,X⟩|⟨g,cap,I,rfl,_,E,z,hm,hs,O⟩
 ·have e:=Hj.1 X;subst e;refine(Tryz.slices_Sort_string_none none 0 w).mono ?_;rintro e w'⟨rfl,rfl⟩;exact⟨rfl,by rw[List.mergeSort_nil];exact Cp _ _ _ _,A4.C _ _⟩
 ·have L:I.toList.take l.length=l.map encStr:=by rw[Uz]at O;rw[O];rfl
  refine(Tryz.slices_Sort_string g 0 cap l w (holds_of_block E L) (By E) hl).mono ?_;rintro e w'⟨rfl,n,os,rfl⟩;have d:(l.mergeSort λx y=>decide (x<=y)).length=l.length:=by simp
  refine⟨rfl,?_,(A4.C _ w).C4 (grownBy_sorted _) λk Y _=>by cases Y;rfl⟩;unfold Dm;rw[A2B,d];exact ownsRow_sorted d (Ce _) E z hm hs
def Qv(x:Bs):∀(l:List Bs),(l.Pairwise λa b=>¬b<a)->∃k,k<=l.length/\(∀t (d:t<l.length),t<k->(l[t]'d)<x)/\∀t (d:t<l.length),k<=t->¬(l[t]'d)<x
 | [],_=>⟨0,Ao _,λt d=>by simp at d,λt d=>by simp at d⟩
 | y::r,hs=>by
  obtain⟨X,W⟩:=Dn.1 hs;by_cases E:y<x
  ·obtain⟨k,k0,I,O⟩:=Qv x r W;refine⟨k+1,by simp;omega,λt d z=>?_,λt d z=>?_⟩
   ·cases t with
    | zero=>exact E
    | succ t=>exact I t (by simp at d;omega) (by omega)
   ·cases t with
    | zero=>omega
    | succ t=>exact O t (by simp at d;omega) (by omega)
  ·refine⟨0,Ce _,λt _ z=>by omega,λt d _ h=>?_⟩;cases t with
   | zero=>exact E h
   | succ t=>
    have L:=X _ (BT (show t<r.length by simp at d;omega));exact E (List.lt_of_le_of_lt (show y<=_ from L) h)
def A2A(w:World)(v:Value)(l:List Bs)(x:Bs)(h:GK w v l)(hl:l.length<4611686018427387904)(hs:l.Pairwise λa b=>¬b<a):
 Calls Tryz.prog 138 #[v,.string ⟨x.toArray⟩] w λe w'=>∃i,e=.returned (.tuple #[.int .i64 i,.bool (decide (x∈l))])/\∃q,w'=w.drewN q:=by
 obtain⟨a,cap,rfl,hcap,hm⟩:=h.BP;by_cases h0:l.length=0
 ·have e:l=[]:=Hj.1 h0;subst e;refine(Any2.slices_BinarySearch_string_empty Tryz.eK a cap ⟨x.toArray⟩ w).mono ?_;rintro e w'⟨rfl,rfl⟩;exact⟨0,by simp,0,rfl⟩
 ·obtain⟨g,o,rfl,-⟩:=GK.at h 0 (by omega)
  let Sx:Nat->ByteArray:=λt=>if d:t<l.length then ⟨(l[t]'d).toArray⟩ else ⟨x.toArray⟩
  have I:∀t (d:t<l.length),Sx t=⟨(l[t]'d).toArray⟩:=λt d=>by simp only[Sx,OO d]
  refine(Any2.slices_BinarySearch_string Tryz.eK g o l.length cap Sx ⟨x.toArray⟩ w hl (λj Y=>?_)).mono ?_
  ·obtain⟨g',o',e,hc⟩:=GK.at h j Y;cases e;rw[I j Y];exact hc
  rintro e w'⟨W,q,rfl⟩;have E:∀t,Op.bytesLess (Sx t).toList (⟨x.toArray⟩:ByteArray).toList=decide (∃d:t<l.length,(l[t]'d)<x):=λt=>by
   rw[TQ,K4,K4];by_cases d:t<l.length
   ·rw[I t d];by_cases L:(l[t]'d)<x
    ·have O:decide (∃d:t<l.length,(l[t]'d)<x)=true:=Ct ⟨d,L⟩;rw[O];exact Ct L
    ·have O:decide (∃d:t<l.length,(l[t]'d)<x)=false:=Cu λ⟨_,h⟩=>L h
     rw[O];exact Cu L
   ·(have e:Sx t=⟨x.toArray⟩:=by simp only[Sx,OP d]);have O:decide (∃d:t<l.length,(l[t]'d)<x)=false:=Cu λ⟨h,_⟩=>d h
    rw[e,O];exact Cu (Lf _)
  have aG:∀(i j:Nat) (hi:i<l.length) (Y:j<l.length),i<j->¬(l[j]'Y)<(l[i]'hi):=λi j hi Y aE=>Lb.1 hs i j hi Y aE;obtain⟨k,hk,k1,k2⟩:=Qv x l hs;have aD:Lib.bsGo (λt=>Op.bytesLess (Sx t).toList (⟨x.toArray⟩:ByteArray).toList) l.length 0 l.length=k:=by
   refine Lib.bsGo_spec _ k (λt d=>?_) (λt d=>?_) _ 0 l.length (by omega) (by omega) hk
   ·rw[E t];exact Ct ⟨by omega,k1 t (by omega) d⟩
   ·rw[E t];exact Cu λ⟨O,h2⟩=>k2 t O d h2
  rw[aD]at W;have:(k<l.length/\Sx k=⟨x.toArray⟩)↔x∈l:=by
   constructor
   ·rintro⟨z,aA⟩;rw[I k z]at aA;have:(l[k]'z)=x:=by
     have:=Eu (λ(b:ByteArray)=>b.data.toList) aA;simpa using this
    rw[<-this];exact BT z
   ·intro hm;obtain⟨t,d,W⟩:=Ep hm;have htk:k<=t:=by
     rcases F9 t k with X | X
     ·have:=k1 t d X;rw[W]at this;exact absurd this (Lf _)
     ·exact X
    (have z:k<l.length:=by omega);refine⟨z,?_⟩;have aF:¬x<(l[k]'z):=by
     rcases F9 k t with X | X
     ·have:=aG k t z d X;rwa [W]at this
     ·(have e:k=t:=by omega);subst e;rw[W];exact Lf _
    have aB:=k2 k z (Ao _);have:(l[k]'z)=x:=List.le_antisymm (show (l[k]'z)<=x from aF) (show x<=(l[k]'z) from aB);rw[I k z,this]
  have hd:decide (k<l.length/\Sx k=⟨x.toArray⟩)=decide (x∈l):=by
   by_cases L:x∈l
   ·rw[Ct L];exact Ct (this.2 L)
   ·rw[Cu L];exact Cu λh=>L (this.1 h)
  rw[hd]at W;exact⟨_,W,q,rfl⟩
def A2m(w:World)(v:Value)(l:List Pu)(h:B5 w v l)(hl:l.length*24<=140737488355328):
 Calls Tryz.prog 153 #[v] w λe w'=>∃d,e=.returned d/\B5 w' d l/\(∀g,d.ownBlock=some g->w.heap.size<=g)/\A4 (λ_=>False) w w':=by
 obtain⟨i0,hi,z,E,I⟩:=DG J2;obtain⟨a,cap,rfl,h1,L,h3,W,Y⟩:=Bk h;cases a with
 | none=>
  have e:=Hj.1 (W rfl).1;subst e;refine(AnyE.slices_Clone_nil Tryz.eI _ cap w).mono ?_;rintro e w'⟨rfl,rfl⟩;exact⟨_,rfl,Cp _ _ _ _,λg O=>by simp[Value.ownBlock]at O,A4.C _ _⟩
 | some x=>
  obtain⟨g,rfl⟩:=Y x rfl;unfold maxLen at L;refine(AnyE.slices_Clone Tryz.eI i0 _ 3 24 hi z E I rfl (by decide) (λw=>sizeOf113 w) g 0 l.length cap (AZ l) w h.1 (by unfold maxLen;omega) hl (λj u hj=>?_) (Hp l)).mono ?_
  ·have:=BD h rfl hj;simpa using this
  rintro e w'⟨d,rfl,h6,h7,h8⟩;obtain⟨X,q2⟩:=NT h6;exact⟨d,rfl,X,q2,A4.df h8⟩
def A2n(w:World)(v:Value)(l:List Int)(h:D6 w v l)(hl:l.length*8<=140737488355328):
 Calls Tryz.prog 108 #[v] w λe w'=>∃d,e=.returned d/\Ee w' d l/\(∀g,d.ownBlock=some g->w.heap.size<=g)/\A4 (λ_=>False) w w':=by
 obtain⟨a,cap,rfl,h1,h2⟩:=h.BP;by_cases W:l.length=0
 ·have e:=Hj.1 W;subst e;cases a with
  | none=>
   refine(Tryz.slices_Clone_int_nil 0 cap w).mono ?_;rintro e w'⟨rfl,rfl⟩;exact⟨_,rfl,Cp _ _ _ _,λg X=>by simp[Value.ownBlock]at X,A4.C _ _⟩
  | some x=>
   refine(Tryz.slices_Clone_int_zero x cap w).mono ?_;rintro e w'⟨d,rfl,z,Y,I⟩;obtain⟨E,L⟩:=NT z;exact⟨d,rfl,E,L,A4.df I⟩
 ·obtain⟨g,o,rfl,-⟩:=D6.at h 0 (by omega);refine(Tryz.slices_Clone_int g o l.length cap l w (Ao _) hl (λj O=>?_)).mono ?_
  ·obtain⟨g',o',e,hc⟩:=D6.at h j O;cases e;rw[OB l j O];exact hc
  rintro e w'⟨d,rfl,z,Y,I⟩;rw[Cc]at z;obtain⟨E,L⟩:=NT z;exact⟨d,rfl,E,L,A4.df I⟩
end
section
open Go.RowKit
attribute [local go_sem ↓] Cw
def Tryz.fL:(Tryz.prog.info? 9).map (λi=>(i.zero,i.size,i.bytes))=some (some (.string ⟨#[]⟩),1,16):=by kernel_rfl
def WR:∃d,Tryz.prog.info? 9=some d/\d.zero=some (.string ⟨#[]⟩)/\d.size=1/\d.bytes=16:=by
 have h:=Tryz.fL;cases hx:Tryz.prog.info? 9 with
 | none=>rw[hx]at h;cases h
 | some i=>rw[hx]at h;simp at h;exact⟨i,rfl,h.1,h.2.1,h.2.2⟩
def JI(l:List Bs):List Bs:=l.mergeSort λx y=>decide (x<=y)
def A0V(l:List Bs):(JI l).Pairwise λa b=>¬b<a:=by
 have h:=List.pairwise_mergeSort (le:=λx y:Bs=>decide (x<=y)) (λa b c E z=>by simp at E z ⊢;exact List.le_trans E z) (λa b=>by simp;exact List.le_total a b) l;exact h.imp λd=>by simpa using d
def T9(l:List Bs)(x:Bs):x∈JI l↔x∈l:=List.mem_mergeSort
def A0U(l:List Bs):(JI l).length=l.length:=List.length_mergeSort _
section
variable {w:World} {ab b xb jb B:Nat} {sv ov lv jo:Value} {A:Ar} {P:PD} {Ft FT:Nat->Prop} {a c m:Nat}
def KO{w:World}{e X size z n n2 E d:Nat}{v Y:Value}{xs O:List Value}(h:w.ownsRow E e size v n xs)(h2:w.ownsRow d X z Y n2 O)(I:e≠X){g:Nat}(hg:v.ownBlock=some g):¬Y.ownBlock=some g:=λL=>by
 obtain⟨c,hc⟩:=B7 h hg;obtain⟨c2,W⟩:=B7 h2 L;exact BM hc W I rfl
def RD(w:World)(h:Cn w ab b xb jb sv ov lv jo A P Ft)(hF:Fit P a c m)(hl:CV a c m)(hn:∀n∈A.ix.segs,CJ n)(dG:∀n∈A.j.Av,CJ n)(hsl:A.ix.segs.length<=1073741824)(dF:A.j.Av.length<=1073741824)(hL:Lets B w):
 Ag 100 #[A6 ab] w λe w'=>∃v1 v2,e=.returned (.tuple #[v1,v2])/\Dm w' v1 (A.aU P)/\Dm w' v2 (A.aS P)/\(∀g,v1.ownBlock=some g->w.heap.size<=g)/\(∀g,v2.ownBlock=some g->w.heap.size<=g)/\A4 Aa w w':=by
 obtain⟨i0,hi,aV,aZ,aX⟩:=WR;have cF:=A1 h;have cL:Hid (∀L k n,A4 Aa w L->1<=k/\k<=4->CJ n->Ag 134 #[A0 (k:Nat),A0 n] L λe w'=>e=.returned (.string ⟨(BN k n).toArray⟩)/\A4 Aa L w'):=λL k n hc hk hn=>M4 (n:=n) L k hk ⟨by have:=hn.1;omega,hn.2.1⟩ hn.2.2 (hL.aM hc);have dJ:=A1 (cL.o w 3 0 (A4.C _ w) (by omega) (Hq (by omega) (by omega)));have dK:Hid (∀L,A4 Aa w L->Ag 136 #[A6 jb] L λe w'=>∃v,e=.returned v/\Ee w' v A.j.Av/\(∀g,v.ownBlock=some g->L.heap.size<=g)/\A4 Aa L w'):=λL hc=>ZD L (h.jn.al hc) dF;have LI:Hid (∀L,A4 Aa w L->Ag 76 #[A6 b] L λe w'=>∃v,e=.returned v/\Dm w' v P.Az/\A4 Aa L w'/\(∀g,v.ownBlock=some g->L.heap.size<=g)):=λL hc=>Og (AU.au h.dk h.lt hc) hF hl;have dC:P.Az.length<=1073741824:=by rw[Kx];exact AQ hF.A5 hl.a
 have aL:Hid (A.Az=[AK]++A.j.Av.map Ah++A.ix.segs.map AJ):=rfl;have bL:Hid (A.aU P=P.Az.filter λnm=>decide (nm∈A.Az)):=rfl;have bF:Hid (A.aS P=P.Az.filter λnm=>!decide (nm∈A.Az)):=rfl;have cX:=A1 hn;have cQ:=A1 dG;obtain⟨dM,cA⟩:∃x,A.aU P=x:=⟨_,rfl⟩;obtain⟨dL,bV⟩:∃x,A.aS P=x:=⟨_,rfl⟩;obtain⟨E,bG⟩:∃x,A.Az=x:=⟨_,rfl⟩;rw[cA,bG]at bL;rw[bV,bG]at bF;rw[bG]at aL;rw[cA,bV];have b2:E.length<=4294967296:=by rw[aL.o];simp;omega
 have b4:=h.segs;generalize hns:P.Az=ns at *;generalize hlgs:A.j.Av=lgs at *;generalize hss:A.ix.segs=ss at *;obtain⟨sa,scap,rfl,sc1,cT⟩:=b4.BP;unfold maxLen at cT;have cS:=A1 b4
 go_enter func100,ntmps100
 go_wp2_with (fail);refine dJ.o.mono ?_;rintro e L⟨rfl,b1⟩;have e3:BN ((3:Nat):Int) 0=AK:=rfl;rw[e3];have bH:A4 Aa w (L.alloc (.cells #[.string ⟨AK.toArray⟩] 9)):=b1.ah _;have a2:=((cF.o.al bH).Af).c2;have a6:Hid (Dm (L.alloc (.cells #[.string ⟨AK.toArray⟩] 9)) (.slice (some (A9 L.heap.size 0)) 1 1) [AK]):=
  ⟨rfl,.inr ⟨L.heap.size,1,_,rfl,Ce _,Bf L _,Ao _,by decide,rfl,rfl⟩⟩
 have cN:=A1 (dK.o _ bH);have cZ:=A1 bH;have cI:Hid (w.heap.size<=L.heap.size):=b1.Al;go_wp2_with (fail);refine cN.o.mono ?_;rintro e w2⟨v,rfl,hv,dD,aW⟩;obtain⟨la,bQ,rfl,lc1,cM⟩:=(Ee.rd hv).BP;unfold maxLen at cM;have dH:=A1 hv;have HLO:=A1 dD;have cV:Hid (A4 Aa w w2):=cZ.o.Au aW λ_ h _=>h;have bA:Hid (Dm w2 (.slice (some (A9 L.heap.size 0)) 1 1) [AK]):=Aw a6.o λg d=>aW.Am g (Ay a6.o d) (λh=>h);go_wp2;go_loopw [4,23] (λv iv wr=>∃k:Nat,iv=A0 k/\k<=lgs.length/\Hid (Dm wr v ([AK]++(lgs.take k).map Ah)/\(∀g,v.ownBlock=some g->w.heap.size<=g)/\A4 Aa w wr/\Ee wr (.slice la lgs.length bQ) lgs)) (λ_ iv _=>lgs.length-(intOf iv).toNat)
 case atStart=>exact⟨0,rfl,by omega,by simpa using bA.o,λg d=>by simp[Value.ownBlock]at d;have:=cI.o;omega,cV.o,dH.o⟩
 case round=>
  obtain⟨k,rfl,hk,hI⟩:=hrel;obtain⟨i1,i2,i3,i4⟩:=hI.o;obtain⟨ap,cp,rfl,aP,aI,-⟩:=Bk i1;unfold maxLen at aI;by_cases I:k<lgs.length
  ·obtain⟨g,o,rfl,d1⟩:=D6.at (Ee.rd i4) k I;have aB:=cQ.o _ (BT I);have Y:lgs.take (k+1)=lgs.take k++[lgs[k]'I]:=DL I;generalize bR:(lgs[k]'I)=n at d1 aB Y;have aA:=A1 (cL.o wr 1 n i3 (by omega) aB);rw[show ((1:Nat):Int)=1 from rfl]at aA;(have aF:Hid ([AK]++(lgs.take (k+1)).map Ah=([AK]++(lgs.take k).map Ah)++[Ah n]):=by unfold Hid;rw[Y];simp);have bD:BN 1 n=Ah n:=rfl;rw[bD]at aA;(have bO:([AK]++(lgs.take k).map Ah).length<=4294967296:=by simp;omega);generalize X:[AK]++(lgs.take k).map Ah=z at i1 i2 aF bO aP;have bN:=A1 bO;(have el:([AK]++(lgs.take k).map Ah).length=z.length:=by rw[X])
   try rw[el]
   generalize b7:Ah n=nm at aA aF;have bX:=A1 i1;have cE:=A1 i2;have cD:=A1 i3;have dB:=A1 i4;(have aO:(k:Int)<(lgs.length:Int):=by omega);have b0:(0:Int)<=(k:Int):=Ge _;go_wp2_with (fail);refine aA.o.mono ?_;rintro e w6⟨rfl,aQ⟩;have bU:=A1 aQ;have W:Hid ((w6.alloc (.cells #[.string ⟨nm.toArray⟩] 9)).ownsRow 0 9 1 (.slice ap z.length cp) z.length (Dh z)):=Aw bX.o λg d=>(aQ.ah _).Am g (Ay bX.o d) (λh=>h)
   have aH:=A1 (Src.a8 (size:=1) (B:=w6.heap.size) underlying121 w6 #[.string ⟨nm.toArray⟩] 9 (by simp) 1 1 rfl (Mz [nm]));go_wp2_with (at_builtin;refine CZ rfl (.tmp 27) (.tmp 30) 121 121 rfl 9 i0 _ 1 16 underlying121 hi aV aZ aX rfl (by decide) (.slice ap z.length cp) z.length (Dh z) (by rfl) W.o _ 1 _ (by rfl) aH.o (by have:=bN.o;omega) ?_;intro a8 aE w8 O;have bC:=A1 O);go_roundw
   case rel=>
    have O:=bC.o;have k7:A4 Aa wr (w6.alloc (.cells #[.string ⟨nm.toArray⟩] 9)):=bU.o.ah _;have aG:=O.An (S:=λk=>(Value.slice ap z.length cp).ownBlock=some k) λ_ h=>h;have k8:A4 (λk=>(Value.slice ap z.length cp).ownBlock=some k) wr w8:=(k7.ad λ_ _ h=>h.elim).Au aG λ_ h _=>h;(have e:(z++[nm]).length=z.length+1:=by simp);have e2:Dh (z++[nm])=Dh z++Dh [nm]:=MA _ _;refine⟨k+1,by go_num,by omega,?_,?_,?_,?_⟩
    ·rw[aF.o];unfold Dm;rw[e,e2];exact O.AE
    ·intro g d;rcases O.BS with h|h
     ·rw[h]at d;exact cE.o g d
     ·rw[h]at d;cases d;have:=cD.o.Al;have:=k7.Al;have:=bU.o.Al;omega
    ·exact cD.o.Au k8 λy hy aU=>by have:=cE.o y hy;omega
    ·exact Aw dB.o λg d=>k8.Am g (Ay dB.o d) (KO dB.o bX.o (by decide) d)
   case measure=>simp[intOf];omega
  ·(obtain rfl:k=lgs.length:=by omega);rw[Cc]at i1 i2;(have aO:¬((lgs.length:Int)<(lgs.length:Int)):=by omega);obtain⟨z,X⟩:∃z,[AK]++lgs.map Ah=z:=⟨_,rfl⟩;(have el:([AK]++(lgs.take lgs.length).map Ah).length=z.length:=by rw[Cc,X]);rw[X]at i1 i2;rw[X]at aL
   try rw[el]
   have bX:=A1 i1;have cE:=A1 i2;have cD:=A1 i3;have a1:=(cF.o.al i3).Af.c1;have x4:=(cF.o.al i3).ix.c4;have HCUR:=A1 X;go_wp2;(have bO:z.length+ss.length<=4294967296:=by have:=b2;rw[aL.o]at this;simpa using this);go_loopw [4,41] (λv iv wr=>∃k:Nat,iv=A0 k/\k<=ss.length/\Hid (Dm wr v (z++(ss.take k).map AJ)/\(∀g,v.ownBlock=some g->w.heap.size<=g)/\A4 Aa w wr)) (λ_ iv _=>ss.length-(intOf iv).toNat)
   case atStart=>exact⟨0,rfl,by omega,by simpa using bX.o,cE.o,cD.o⟩
   case round=>
    obtain⟨k,rfl,hk,hI⟩:=hrel;obtain⟨i1,i2,i3⟩:=hI.o;obtain⟨aJ,aK,rfl,bB,bE,-⟩:=Bk i1;unfold maxLen at bE;by_cases I:k<ss.length
    ·obtain⟨g,o,rfl,d0⟩:=D6.at cS.o k I;have d1:=i3.ag d0;have aB:=cX.o _ (BT I);have Y:ss.take (k+1)=ss.take k++[ss[k]'I]:=DL I;generalize bR:(ss[k]'I)=n at d0 d1 aB Y;have aA:=A1 (cL.o wr 2 n i3 (by omega) aB);rw[show ((2:Nat):Int)=2 from rfl]at aA;(have aF:Hid (z++(ss.take (k+1)).map AJ=(z++(ss.take k).map AJ)++[AJ n]):=by unfold Hid;rw[Y];simp);have bD:BN 2 n=AJ n:=rfl;rw[bD]at aA;(have a4:(z++(ss.take k).map AJ).length<=4294967296:=by simp;omega);generalize dE:z++(ss.take k).map AJ=cu at i1 i2 aF a4 bB;have bN:=A1 a4;(have el:(z++(ss.take k).map AJ).length=cu.length:=by rw[dE])
     try rw[el]
     generalize b7:AJ n=nm at aA aF;have aS:=A1 i1;have aM:=A1 i2;have aT:=A1 i3;(have aO:(k:Int)<(ss.length:Int):=by omega);have b0:(0:Int)<=(k:Int):=Ge _;go_wp2_with (fail);refine aA.o.mono ?_;rintro e w6⟨rfl,aQ⟩;have bU:=A1 aQ;have W:Hid ((w6.alloc (.cells #[.string ⟨nm.toArray⟩] 9)).ownsRow 0 9 1 (.slice aJ cu.length aK) cu.length (Dh cu)):=Aw aS.o λg d=>(aQ.ah _).Am g (Ay aS.o d) (λh=>h)
     have aH:=A1 (Src.a8 (size:=1) (B:=w6.heap.size) underlying121 w6 #[.string ⟨nm.toArray⟩] 9 (by simp) 1 1 rfl (Mz [nm]));go_wp2_with (at_builtin;refine CZ rfl (.tmp 45) (.tmp 48) 121 121 rfl 9 i0 _ 1 16 underlying121 hi aV aZ aX rfl (by decide) (.slice aJ cu.length aK) cu.length (Dh cu) (by rfl) W.o _ 1 _ (by rfl) aH.o (by have:=bN.o;omega) ?_;intro a8 aE w8 O;have bC:=A1 O);go_roundw
     case rel=>
      have O:=bC.o;have k7:A4 Aa wr (w6.alloc (.cells #[.string ⟨nm.toArray⟩] 9)):=bU.o.ah _;have aG:=O.An (S:=λk=>(Value.slice aJ cu.length aK).ownBlock=some k) λ_ h=>h;have k8:A4 (λk=>(Value.slice aJ cu.length aK).ownBlock=some k) wr w8:=(k7.ad λ_ _ h=>h.elim).Au aG λ_ h _=>h;(have e:(cu++[nm]).length=cu.length+1:=by simp);have e2:Dh (cu++[nm])=Dh cu++Dh [nm]:=MA _ _;refine⟨k+1,by go_num,by omega,?_,?_,?_⟩
      ·rw[aF.o];unfold Dm;rw[e,e2];exact O.AE
      ·intro g d;rcases O.BS with h|h
       ·rw[h]at d;exact aM.o g d
       ·rw[h]at d;cases d;have:=aT.o.Al;have:=k7.Al;have:=bU.o.Al;omega
      ·exact aT.o.Au k8 λy hy aU=>by have:=aM.o y hy;omega
     case measure=>simp[intOf];omega
    ·(obtain rfl:k=ss.length:=by omega);rw[Cc,<-aL.o]at i1 i2;(have aO:¬((ss.length:Int)<(ss.length:Int)):=by omega);(have el:(z++(ss.take ss.length).map AJ).length=E.length:=by rw[Cc,aL.o])
     try rw[el]
     have dN:=A1 (X5 wr _ E i1 (by omega));have aM:=A1 i2;have aT:=A1 i3;go_wp2_with (fail);refine dN.o.mono ?_;rintro e w3⟨rfl,cH,aW⟩;(have dA:Hid (A4 Aa w w3):=aT.o.Au aW λy hy aU=>by have:=aM.o y hy;omega);have cY:Hid (GK w3 (.slice aJ E.length aK) (JI E)):=Dm.rd cH;have cP:=A1 (LI.o w3 dA.o);have a0:=(cF.o.al dA.o).Af.c0;go_wp2_with (fail);refine cP.o.mono ?_;rintro e w4⟨v,rfl,bW,b3,hvo4⟩;obtain⟨na,ncap,rfl,nc1,cO⟩:=(Dm.rd bW).BP;unfold maxLen at cO;have cU:=A1 (Dm.rd bW);have cJ:Hid (A4 Aa w w4):=dA.o.Au b3 λ_ h _=>h;have bI:=A1 (cY.o.An b3 (λ_ _ h=>h));have a7:Hid (∀x,decide (x∈JI E)=decide (x∈E)):=λx=>by
      by_cases h:x∈E
      ·rw[Ct h,Ct ((T9 E x).2 h)]
      ·rw[Cu h,Cu λh'=>h ((T9 E x).1 h')]
     have a9:=A0V E;have a5:=A0U E;generalize hSN:JI E=SN at bI a7 a9 a5;have bZ:=A1 a9;obtain⟨sn,bY⟩:∃sn,E.length=sn:=⟨_,rfl⟩
     try rw[bY]
     rw[bY]at bI a5;(have hsnl:sn<=4294967296:=by omega);have dI:Hid (∀wx x,A4 Aa w4 wx->Ag 138 #[.slice aJ sn aK,.string ⟨x.toArray⟩] wx λe w'=>∃i,e=.returned (.tuple #[A0 i,.bool (decide (x∈E))])/\∃q,w'=wx.drewN q):=λwx x hx=>by
      have:=A2A wx _ SN x (bI.o.An hx (λ_ _ h=>h)) (by omega) bZ.o;rw[a7.o x]at this;exact this
     have bT:ns.length<=1073741824:=dC;have cB:Hid (∀p:Bs->Bool,∀k,((ns.take k).filter p).length<=1073741824):=λp k=>AQ (MV _ _) (AQ (List.length_take_le' _ _) bT);go_wp2;go_loopw [9,10,59] (λv1 v2 iv wr=>∃k:Nat,iv=A0 k/\k<=ns.length/\Hid (Dm wr v1 ((ns.take k).filter λnm=>decide (nm∈E))/\Dm wr v2 ((ns.take k).filter λnm=>!decide (nm∈E))/\(∀g,v1.ownBlock=some g->w4.heap.size<=g)/\(∀g,v2.ownBlock=some g->w4.heap.size<=g)/\(∀g,v1.ownBlock=some g->¬v2.ownBlock=some g)/\A4 Aa w4 wr)) (λ_ _ iv _=>ns.length-(intOf iv).toNat)
     case atStart=>exact⟨0,rfl,by omega,Cp _ _ _ _,Cp _ _ _ _,λg d=>by simp[Value.ownBlock]at d,λg d=>by simp[Value.ownBlock]at d,λg d=>by simp[Value.ownBlock]at d,A4.C _ _⟩
     case round=>
      obtain⟨k,rfl,hk,hI⟩:=hrel;obtain⟨i1,i2,i3,i4,i5,i6⟩:=hI.o;obtain⟨ap,cp,rfl,aP,aI,-⟩:=Bk i1;obtain⟨aq,cq,rfl,hcaq1,bK,-⟩:=Bk i2;unfold maxLen at aI bK;by_cases I:k<ns.length
      ·obtain⟨g,o,rfl,d0⟩:=GK.at cU.o k I;have d1:=i6.ag d0;have Y:ns.take (k+1)=ns.take k++[ns[k]'I]:=DL I;generalize bR:(ns[k]'I)=nm at d0 d1 Y;have aY:=A1 (dI.o wr nm i6);have aR:Hid ((ns.take (k+1)).filter (λnm=>decide (nm∈E))=(ns.take k).filter (λnm=>decide (nm∈E))++(if nm∈E then [nm] else [])):=by
        unfold Hid;rw[Y,Li];by_cases hx:nm∈E<;>simp[hx]
       have aN:Hid ((ns.take (k+1)).filter (λnm=>!decide (nm∈E))=(ns.take k).filter (λnm=>!decide (nm∈E))++(if nm∈E then [] else [nm])):=by
        unfold Hid;rw[Y,Li];by_cases hx:nm∈E<;>simp[hx]
       have b6:=A1 (cB.o (λnm=>decide (nm∈E)) k);have b8:=A1 (cB.o (λnm=>!decide (nm∈E)) k);obtain⟨l1,bS⟩:∃l1,(ns.take k).filter (λnm=>decide (nm∈E))=l1:=⟨_,rfl⟩;obtain⟨l2,b9⟩:∃l2,(ns.take k).filter (λnm=>!decide (nm∈E))=l2:=⟨_,rfl⟩;rw[bS]at aR b6 i1 i3 i5;rw[b9]at aN b8 i2 i4 i5;(have bM:((ns.take k).filter (λnm=>decide (nm∈E))).length=l1.length:=by rw[bS]);(have bJ:((ns.take k).filter (λnm=>!decide (nm∈E))).length=l2.length:=by rw[b9])
       try rw[bM]
       try rw[bJ]
       have aS:=A1 i1;have aM:=A1 i2;have aT:=A1 i3;have cC:=A1 i4;have cG:=A1 i5;have bP:=A1 i6;(have aO:(k:Int)<(ns.length:Int):=by omega);have b0:(0:Int)<=(k:Int):=Ge _;by_cases hx:nm∈E
       ·rw[Ct hx]at aY;rw[Ai hx]at aR aN;go_wp2_with (fail);refine aY.o.mono ?_;rintro e w6⟨i,rfl,q,rfl⟩;have W:Hid (((wr.drewN q).alloc (.cells #[.string ⟨nm.toArray⟩] 9)).ownsRow 0 9 1 (.slice ap l1.length cp) l1.length (Dh l1)):=Aw aS.o λg d=>(((A4.C Aa wr).aX q).ah _).Am g (Ay aS.o d) (λh=>h)
        have aH:=A1 (Src.a8 (size:=1) (B:=(wr.drewN q).heap.size) underlying121 (wr.drewN q) #[.string ⟨nm.toArray⟩] 9 (by simp) 1 1 rfl (Mz [nm]));have b5:Hid (A4 Aa wr ((wr.drewN q).alloc (.cells #[.string ⟨nm.toArray⟩] 9))):=((A4.C Aa wr).aX q).ah _;go_wp2_with (at_builtin;refine CZ rfl (.tmp 70) (.tmp 72) 121 121 rfl 9 i0 _ 1 16 underlying121 hi aV aZ aX rfl (by decide) (.slice ap l1.length cp) l1.length (Dh l1) (by rfl) W.o _ 1 _ (by rfl) aH.o (by have:=b6.o;omega) ?_;intro a8 aE w8 O;have bC:=A1 O);go_roundw
        case rel=>
         have O:=bC.o;have aG:=O.An (S:=λk=>(Value.slice ap l1.length cp).ownBlock=some k) λ_ h=>h;have k8:A4 (λk=>(Value.slice ap l1.length cp).ownBlock=some k) wr w8:=(b5.o.ad λ_ _ h=>h.elim).Au aG λ_ h _=>h;(have e:(l1++[nm]).length=l1.length+1:=by simp);have e2:Dh (l1++[nm])=Dh l1++Dh [nm]:=MA _ _;have aD:∀g,(Value.slice a8 (l1.length+1) aE).ownBlock=some g->(Value.slice ap l1.length cp).ownBlock=some g\/wr.heap.size<=g:=λg d=>by
          rcases O.BS with h|h
          ·rw[h]at d;exact .inl d
          ·rw[h]at d;cases d;exact .inr b5.o.Al
         refine⟨k+1,by go_num,by omega,?_,?_,?_,cC.o,?_,?_⟩
         ·rw[aR.o];unfold Dm;rw[e,e2];exact O.AE
         ·rw[aN.o,EF];exact Aw aM.o λg d=>k8.Am g (Ay aM.o d) λh=>cG.o g h d
         ·exact λg d=>(aD g d).elim (aT.o g) λh=>AQ bP.o.Al h
         ·exact λg d a3=>(aD g d).elim (λh=>cG.o g h a3) λh=>by have:=Ay aM.o a3;omega
         ·exact bP.o.Au k8 λy hy aU=>by have:=aT.o y hy;omega
        case measure=>simp[intOf];omega
       ·rw[Cu hx]at aY;rw[Ae hx]at aR aN;go_wp2_with (fail);refine aY.o.mono ?_;rintro e w6⟨i,rfl,q,rfl⟩;have W:Hid (((wr.drewN q).alloc (.cells #[.string ⟨nm.toArray⟩] 9)).ownsRow 0 9 1 (.slice aq l2.length cq) l2.length (Dh l2)):=Aw aM.o λg d=>(((A4.C Aa wr).aX q).ah _).Am g (Ay aM.o d) (λh=>h)
        have aH:=A1 (Src.a8 (size:=1) (B:=(wr.drewN q).heap.size) underlying121 (wr.drewN q) #[.string ⟨nm.toArray⟩] 9 (by simp) 1 1 rfl (Mz [nm]));have b5:Hid (A4 Aa wr ((wr.drewN q).alloc (.cells #[.string ⟨nm.toArray⟩] 9))):=((A4.C Aa wr).aX q).ah _;go_wp2_with (at_builtin;refine CZ rfl (.tmp 74) (.tmp 76) 121 121 rfl 9 i0 _ 1 16 underlying121 hi aV aZ aX rfl (by decide) (.slice aq l2.length cq) l2.length (Dh l2) (by rfl) W.o _ 1 _ (by rfl) aH.o (by have:=b8.o;omega) ?_;intro a8 aE w8 O;have bC:=A1 O);go_roundw
        case rel=>
         have O:=bC.o;have aG:=O.An (S:=λk=>(Value.slice aq l2.length cq).ownBlock=some k) λ_ h=>h;have k8:A4 (λk=>(Value.slice aq l2.length cq).ownBlock=some k) wr w8:=(b5.o.ad λ_ _ h=>h.elim).Au aG λ_ h _=>h;(have e:(l2++[nm]).length=l2.length+1:=by simp);have e2:Dh (l2++[nm])=Dh l2++Dh [nm]:=MA _ _;have aD:∀g,(Value.slice a8 (l2.length+1) aE).ownBlock=some g->(Value.slice aq l2.length cq).ownBlock=some g\/wr.heap.size<=g:=λg d=>by
          rcases O.BS with h|h
          ·rw[h]at d;exact .inl d
          ·rw[h]at d;cases d;exact .inr b5.o.Al
         refine⟨k+1,by go_num,by omega,?_,?_,aT.o,?_,?_,?_⟩
         ·rw[aR.o,EF];exact Aw aS.o λg d=>k8.Am g (Ay aS.o d) λh=>cG.o g d h
         ·rw[aN.o];unfold Dm;rw[e,e2];exact O.AE
         ·exact λg d=>(aD g d).elim (cC.o g) λh=>AQ bP.o.Al h
         ·exact λg d a3=>(aD g a3).elim (λh=>cG.o g d h) λh=>by have:=Ay aS.o d;omega
         ·exact bP.o.Au k8 λy hy aU=>by have:=cC.o y hy;omega
        case measure=>simp[intOf];omega
      ·(obtain rfl:k=ns.length:=by omega);rw[Cc,<-bL.o]at i1 i3;rw[Cc,<-bF.o]at i2 i4;(have bM:((ns.take ns.length).filter (λnm=>decide (nm∈E))).length=dM.length:=by rw[Cc,<-bL.o]);(have bJ:((ns.take ns.length).filter (λnm=>!decide (nm∈E))).length=dL.length:=by rw[Cc,<-bF.o])
       try rw[bM]
       try rw[bJ]
       have aS:=A1 i1;have aM:=A1 i2;have aT:=A1 i3;have cC:=A1 i4;have bP:=A1 i6;(have aO:¬((ns.length:Int)<(ns.length:Int)):=by omega);go_wp2;go_ret2;exact⟨_,_,rfl,aS.o,aM.o,λg d=>AQ cJ.o.Al (aT.o g d),λg d=>AQ cJ.o.Al (cC.o g d),cJ.o.Au bP.o λ_ h _=>h⟩
end
section
variable {w:World} {ab b xb jb B:Nat} {sv ov lv jo:Value} {A:Ar} {P:PD} {Ft FT:Nat->Prop} {a c m:Nat}
def A1C(h:Bu w b P Ft)(nm:Bs)(E:Fit P a c m)(z:CV a c m):
 Ag 193 #[A6 b,.string ⟨nm.toArray⟩] w (Aj (A0 (P.az (Ab nm)).1) λw'=>As w Ft w' (λw' d=>Bu w' b (P.az (Ab nm)).2 d)):=
 Y8 h (Ab nm) (by have:=E.A5;have:=E.An;have:=z.a;have:=z.c;omega)
def removeAll_cons(nm:Bs)(r:List Bs)(P:PD):PD.aL (nm::r) P=if (P.az (Ab nm)).1≠0 then P.az (Ab nm) else PD.aL r (P.az (Ab nm)).2:=rfl
def RI(A:Ar)(P:PD)(h:Fit P a c m):(A.aS P).length<=a:=by
 unfold Ar.aS;exact AQ (MV _ _) (by rw[Kx];exact h.A5)
def Qp(w:World)(h:AD w ab b A P FT)(hF:Fit P a c m)(hl:CV a (c+a) m)(hn:∀n∈A.ix.segs,CJ n)(aX:∀n∈A.j.Av,CJ n)(aS:A.ix.segs.length<=1073741824)(aV:A.j.Av.length<=1073741824)(hL:Lets B w):
 Ag 150 #[A6 ab] w (Aj (A0 (A.ax P).1) λw'=>As w FT w' (λw' aR=>AD w' ab b A (A.ax P).2 aR)):=by
 obtain⟨xb,jb,sv,ov,lv,jo,Ft,hV,aI⟩:=h;have a5:=A1 (RD w hV hF ⟨hl.a,by have:=hl.c;omega,hl.m⟩ hn aX aS aV hL);have hol:=RI A P hF;have a1:=A1 hV;have I:=A1 aI;have a2:Hid (A.ax P=PD.aL (A.aS P) P):=rfl;have a3:=A1 removeAll_cons;generalize hR:A.ax P=R at a2 ⊢;have aZ:=A1 hF;have aE:=A1 hl;generalize A.aS P=os at *
 go_enter func150,ntmps150
 go_wp2_with (fail);refine a5.m ?_;rintro e w1⟨v1,v2,rfl,-,h2,-,aU,aK⟩;obtain⟨oa,ocap,rfl,oc1,a0⟩:=(Dm.rd h2).BP;unfold maxLen at a0;have aT:=A1 (Dm.rd h2);have aY:=A1 aU;have aG:=A1 aK;have z:=A1 (a1.o.al aK);go_wp2;go_loopw [15] (λiv wr=>∃(k:Nat),iv=A0 k/\k<=os.length/\Hid (∃E,As w1 Ft wr (λw' d=>Cn w' ab b xb jb sv ov lv jo A E d)/\Fit E a (c+k) m/\R=PD.aL (os.drop k) E)) (λiv _=>os.length-(intOf iv).toNat)
 case atStart=>exact⟨0,rfl,by omega,P,⟨A4.C _ _,Ft,z.o,z.o.lt,λk hk=>.inl hk⟩,aZ.o,a2.o⟩
 case round=>
  obtain⟨k,rfl,hk,hI⟩:=hrel;obtain⟨E,hi,hf,hx⟩:=hI.o;obtain⟨c1,aH,hv,aO,s1⟩:=hi;by_cases aB:k<os.length
  ·obtain⟨g,o,rfl,d0⟩:=GK.at aT.o k aB;have d1:=c1.bD d0 (λh=>by have:=a1.o.lt _ h;have:=aY.o g rfl;have h':g<w.heap.size:=a1.o.lt _ h;omega);have aJ:=FW aB;generalize hne:(os[k]'aB)=nm at d0 d1 aJ;rw[aJ,a3.o]at hx;have e0:=hv.Af.c0;have aN:CV a (c+k) m:=⟨aE.o.a,by have:=aE.o.c;omega,aE.o.m⟩;have aL:=A1 (A1C hv.dk nm hf aN);(have aF:Hid (Fit (E.az (Ab nm)).2 a (c+(k+1)) m):=by have:=hf.az (Ab nm);exact this);generalize hY:E.az (Ab nm)=Y at aL hx aF;have aA:Hid (∀W,As wr aH W (λw' d=>Bu w' b Y.2 d)->As w1 Ft W (λw' d=>Cn w' ab b xb jb sv ov lv jo A Y.2 d)):=λW h6=>As.a7 c1 s1 (hv.bI h6);have aD:=A1 hx;(have aP:(k:Int)<(os.length:Int):=by omega);have hk0:=BR k;obtain⟨aM,aQ⟩:=Y;dsimp only at aL aA aD aF;by_cases hy:aM=0
   case neg=>
    (have L:R=(aM,aQ):=by rw[aD.o,Ai hy]);subst L;(have hyb:(aM !=0)=true:=by simpa using hy);go_wp2_with (go_at_call 193;refine aL.m ?_;rintro e W⟨rfl,X⟩;have O:=A1 (aA.o W X));go_ret;exact⟨rfl,(z.o.cA I.o O.o).aY aG.o⟩
   case pos=>
    subst hy;(have aW:Hid (R=PD.aL (os.drop (k+1)) aQ):=by unfold Hid;rw[aD.o,Ae (by simp)]);go_wp2_with (go_at_call 193;refine aL.m ?_;rintro e W⟨rfl,X⟩;have O:=A1 (aA.o W X));go_roundw
    case rel=>exact⟨k+1,by go_num,by omega,aQ,O.o,aF.o,aW.o⟩
    case measure=>simp[intOf];omega
  ·(obtain rfl:k=os.length:=by omega);rw[GN]at hx;have L:R=(0,E):=hx;subst L;(have aP:¬((os.length:Int)<(os.length:Int)):=by omega);have a4:Hid (As w1 Ft wr (λw' d=>Cn w' ab b xb jb sv ov lv jo A E d)):=⟨c1,aH,hv,aO,s1⟩;go_wp2;go_ret;exact⟨rfl,(z.o.cA I.o a4.o).aY aG.o⟩
def A0n{nm:Bs}{s:Nat}{f0:Int}{E:List Int}(w:World)(h:BY w xb 162 b nm s f0 sv)(X:D6 w sv E)(L:Value)(l:List Int)(W:D6 w L l)(z:Int):
 Ag 198 #[A6 xb,A0 z,L] w (Aj (.bool (decide (f0=z/\E=l))) λw'=>∃q,w'=w.drewN q):=by
 have c3:=h.c3;have c4:=h.c4;have O:=A1 (A1t w sv L E l X W);obtain⟨ka,kcap,rfl,k1,k2⟩:=W.BP;obtain⟨sa,scap,rfl,s1,s2⟩:=X.BP;by_cases I:f0=z
 ·subst I;have e:decide (f0=f0/\E=l)=decide (E=l):=by simp
  rw[e];generalize hd:decide (E=l)=d at O ⊢
  go_enter func198,ntmps198
  go_wp2_with (go_at_call 241;refine O.m ?_;rintro e w2⟨rfl,q,rfl⟩);go_ret;exact⟨rfl,q,rfl⟩
 ·have e:decide (f0=z/\E=l)=false:=Cu λh=>I h.1;rw[e];have hb:(f0==z)=false:=by simpa using I
  go_enter func198,ntmps198
  go_wp2;go_ret;exact⟨rfl,0,rfl⟩
def Cn.eE{w':World}{P':PD}{f':Int}{E:Value}{z:List Int}(h:Cn w ab b xb jb sv ov lv jo A P Ft)(X:BY w' xb 162 b AK (AI AK) f' E)(hr:D6 w' E z)(hI:Ji w Ft xb w' b P')(O:∀g,E.ownBlock=some g->sv.ownBlock=some g\/(g<w.heap.size/\¬Ft g/\¬Fv ab xb jb sv ov lv jo g)):
 ∃L,Cn w' ab b xb jb E ov lv jo {A with ix:=⟨f',z⟩} P' L/\A4 (λk=>Ft k\/k=xb) w w'/\∀k,L k->Ft k\/w.heap.size<=k:=by
 obtain⟨hc,L,h2,h3,h4⟩:=hI;have key:∀k,Fv ab xb jb sv ov lv jo k->k≠xb->w'.heap[k]?=w.heap[k]?:=λk d Y=>hc.Am k (h.bE d) λX=>X.elim (h.Dc k d) Y;have sS:∀g,E.ownBlock=some g->g≠ab/\g≠xb/\¬De jb lv jo g:=λg I=>by
  rcases O g I with I|⟨_,_,I⟩
  ·exact h.Fz g I
  ·exact⟨λe=>I (.inl e),λe=>I (.inr (.inl e)),λe=>I (.inr (.inr (.inr (.inr e))))⟩
 refine⟨L,⟨(key ab (.inl rfl) h.ne).trans h.Af,X,hr,h.AR.aI λg I=>key g (.inr (.inr (.inr (.inl I)))) (h.Gg g I).2.1,h.jn.aI λk d=>key k (.inr (.inr (.inr (.inr d)))) (h.FQ k d).2,h2,h3,?_,sS,h.Gg,h.FQ⟩,hc,h4⟩;intro k d X;rcases h4 k X with W|W
 ·rcases d with d|d|d|d|d
  ·exact h.Dc k (.inl d) W
  ·exact h.Dc k (.inr (.inl d)) W
  ·rcases O k d with d|⟨_,d,_⟩
   ·exact h.Dc k (.inr (.inr (.inl d))) W
   ·exact d W
  ·exact h.Dc k (.inr (.inr (.inr (.inl d)))) W
  ·exact h.Dc k (.inr (.inr (.inr (.inr d)))) W
 ·have:k<w.heap.size:=by
   rcases d with d|d|d|d|d
   ·exact h.bE (.inl d)
   ·exact h.bE (.inr (.inl d))
   ·rcases O k d with d|⟨d,_⟩
    ·exact h.bE (.inr (.inr (.inl d)))
    ·exact d
   ·exact h.bE (.inr (.inr (.inr (.inl d))))
   ·exact h.bE (.inr (.inr (.inr (.inr d))))
  omega
def Cn.fP{w':World}{lv' L:Value}{Y:Jn}(h:Cn w ab b xb jb sv ov lv jo A P Ft)(hj:DA w' jb b lv' L Y)(hc:A4 (One jb) w w')(O:lv'.ownBlock=none)(W:L=.pointer none):Cn w' ab b xb jb sv ov lv' L {A with j:=Y} P Ft:=by
 have key:∀k,k≠jb->k<w.heap.size->w'.heap[k]?=w.heap[k]?:=λk d hl=>hc.Am k hl d;have E:∀k,De jb lv' L k->k=jb:=λk d=>by
  rcases d with h|h|h
  ·exact h
  ·rw[O]at h;cases h
  ·rw[W]at h;cases h
 have I:De jb lv jo jb:=.inl rfl
 refine⟨(key ab (λe=>(h.FQ jb I).1 e.symm) h.Af.lt).trans h.Af,(key xb (λe=>(h.FQ jb I).2 e.symm) h.ix.lt).trans h.ix,h.segs.aI λg z=>key g (λe=>(h.Fz g z).2.2 (e ▸ I)) (h.segs.lt z),h.AR.aI λg z=>key g (λe=>(h.Gg g z).2.2 (e ▸ I)) (h.AR.lt z),hj,
  AU.aI h.dk λk d=>key k (λe=>by subst e;exact h.Dc _ (.inr (.inr (.inr (.inr I)))) d) (h.lt k d),λk d=>Bi (h.lt k d) hc.Al,?_,λg z=>?_,λg z=>?_,λk d=>?_⟩
 ·intro k d;rcases d with d|d|d|d|d
  ·exact h.Dc k (.inl d)
  ·exact h.Dc k (.inr (.inl d))
  ·exact h.Dc k (.inr (.inr (.inl d)))
  ·exact h.Dc k (.inr (.inr (.inr (.inl d))))
  ·rw[E k d];exact h.Dc jb (.inr (.inr (.inr (.inr I))))
 ·exact⟨(h.Fz g z).1,(h.Fz g z).2.1,λX=>(h.Fz g z).2.2 (by rw[E g X];exact I)⟩
 ·exact⟨(h.Gg g z).1,(h.Gg g z).2.1,λX=>(h.Gg g z).2.2 (by rw[E g X];exact I)⟩
 ·rw[E k d];exact h.FQ jb I
def A2T(w:World)(h:AD w ab b A P FT)(kv:Value)(l:List Int)(E:D6 w kv l)(aZ:∀g,kv.ownBlock=some g->¬FT g)(hr:Ax (A.j.Ac+1))(aT:∀x∈l,Ax x)(aU:l.length<=134217728)(hF:Fit P a c m)(hl:CV (a+2) (c+2) (m+12+8*l.length))(hL:Lets B w):
 Ag 152 #[A6 ab,kv] w (Aj (A0 (A.ak P l).1) λw'=>As w (λk=>FT k\/kv.ownBlock=some k) w' (λw' aS=>AD w' ab b (A.ak P l).2.1 (A.ak P l).2.2 aS)):=by
 obtain⟨xb,jb,sv,ov,lv,jo,Ft,X,aN⟩:=h
 have aM:Hid (A.ak P l=if A.ix.B9=A.j.Ac+1/\A.ix.segs=l then (0,A,P) else
  if (P.ak (A.j.Ac+1) l).1≠0 then ((P.ak (A.j.Ac+1) l).1,A,(P.ak (A.j.Ac+1) l).2) else
  (0,{A with ix:=⟨A.j.Ac+1,l⟩,j:=⟨[],A.j.Ac,0,none⟩},(P.ak (A.j.Ac+1) l).2)):=rfl
 have aX:Hid (∀w1,A4 Aa w w1->_):=λw1 hc=>S6 w1 (X.jn.al hc) hr;have aK:Hid (∀w1,A4 Aa w w1->_):=λw1 hc=>A0n w1 (X.ix.ai hc (λh=>h)) (X.segs.An hc (λ_ _ h=>h)) kv l (E.An hc (λ_ _ h=>h)) (A.j.Ac+1);have aR:Hid (∀w1,A4 Aa w w1->_):=λw1 hc=>VR w1 (A.j.Ac+1) A.ix.B9 kv sv l (X.ix.ai hc (λh=>h)) (AU.au X.dk X.lt hc) (λk E=>Bi (X.lt k E) hc.Al) (X.Dc xb (.inr (.inl rfl))) hF hl (hL.aM hc) (E.An hc (λ_ _ h=>h)) hr aT aU;obtain⟨ka,I,rfl,k1,k2⟩:=E.BP;have a1:=A1 X;have d:=A1 aN;have a2:=A1 E;have aL:=A1 aZ;generalize hR:A.ak P l=R at aM ⊢;generalize hT:P.ak (A.j.Ac+1) l=T at aM aR;generalize hLL:A.j.Ac+1=L at aM aX aK aR;have HB:=A1 X.Af;have d1:=X.Af.aa.c1;have d2:=X.Af.aa.c2;have aO:=A1 (aX.o w.drew (A4.C _ w).aa);by_cases z:A.ix.B9=L/\A.ix.segs=l
 case pos=>
  have aA:R=(0,A,P):=by rw[aM.o,Ai z]
  subst aA;rw[Ct z]at aK;have aF:=A1 (aK.o w.drew (A4.C _ w).aa)
  go_enter func152,ntmps152
  go_wp2;refine Bt (λw'=>A8 w' ab 1 (A6 xb)/\A8 w' ab 2 (A6 jb)) 10
   (Bb [0,1,2,3,4,5,6,7,9,8] [8]) ⟨d1,d2⟩ ?_
  iterate 9 (refine B1 ?_;(try simp only[Ak]))
  refine Bd λK hK=>?_;go_simp;refine aO.m ?_;rintro e w3⟨rfl,rfl⟩;refine hK _ _ ⟨d1,d2⟩ (λhS=>?_)
  (try simp only[Ak])
  refine B4 ?_;simp only[Bm,Bl];go_wp2_with (go_at_call 198;refine aF.m ?_;rintro e w4⟨rfl,q,rfl⟩);go_ret;have kq:=(A4.C Aa w).aX (1+q);exact⟨rfl,Cn.bK (FT:=λk=>FT k\/(Value.slice ka l.length I).oB k) (a1.o.al kq) kq (λ_ _ h=>h.elim) (λk E=>.inl (.inl (d.o k (.inl E)))) λk E=>.inl (.inl (d.o k (.inr E)))⟩
 case neg=>
  rw[Cu z]at aK;have aF:=A1 (aK.o w.drew (A4.C _ w).aa);have aH:Hid (R=if T.1≠0 then (T.1,A,T.2) else (0,{A with ix:=⟨L,l⟩,j:=⟨[],A.j.Ac,0,none⟩},T.2)):=by unfold Hid;rw[aM.o,Ae z]
  go_enter func152,ntmps152
  go_wp2;refine Bt (λw'=>A8 w' ab 1 (A6 xb)/\A8 w' ab 2 (A6 jb)) 10
   (Bb [0,1,2,3,4,5,6,7,9,8] [8]) ⟨d1,d2⟩ ?_
  iterate 9 (refine B1 ?_;(try simp only[Ak]))
  refine Bd λK hK=>?_;go_simp;refine aO.m ?_;rintro e w3⟨rfl,rfl⟩;refine hK _ _ ⟨d1,d2⟩ (λhS=>?_)
  (try simp only[Ak])
  refine B4 ?_;simp only[Bm,Bl];go_wp2_with (fail);refine aF.m ?_;rintro e w4⟨rfl,q,rfl⟩;have k4:A4 Aa w (w.drewN (1+q)):=(A4.C Aa w).aX (1+q);have a3:=a1.o.al k4;have x1:=a3.Af.aa.c1;have x2:=a3.Af.aa.c2;have Y:=A1 (a1.o.al k4.aa);have aG:=A1 k4.aa;have aB:=A1 (aR.o _ k4.aa);have aE:=A1 (aX.o _ k4.aa);go_wp2;generalize w.drewN (1+q)=w4 at Y aG aB aE x1 x2 ⊢;obtain⟨aY,a4⟩:=T;dsimp only at aB aH;have aD:Hid (ab≠xb/\¬Ft ab):=⟨Y.o.ne,Y.o.Dc ab (.inl rfl)⟩;by_cases ht:aY=0
  case neg=>
   (have aA:R=(aY,A,a4):=by rw[aH.o,Ai ht]);subst aA;(have htb:(aY !=0)=true:=by simpa using ht);refine Bt (λw'=>A8 w' ab 1 (A6 xb)/\A8 w' ab 2 (A6 jb)) 11
    (Bb [0,1,2,3,4,5,6,7,9,8,10] [8,10]) ⟨x1,x2⟩ ?_
   iterate 9 (refine B1 ?_;(try simp only[Ak]))
   refine Bd λK hK=>?_;go_simp;refine aE.m ?_;rintro e w3⟨rfl,rfl⟩;refine hK _ _ ⟨x1,x2⟩ (λhS=>?_)
   (try simp only[Ak])
   refine Bd λK hK=>?_;go_simp;refine aB.m ?_;rintro e w6⟨rfl,hx,hI⟩;have b6:D5 w6 ab b xb jb A.Ac ov:=Y.o.Af.ai hI.1 λh=>h.elim aD.o.2 aD.o.1;refine hK _ _ ⟨b6.c1,b6.c2⟩ (λhS=>?_);rw[Ae ht,Ae ht]at hx;have aP:=A1 (Y.o.eE hx (Y.o.segs.aI λg O=>hI.1.Am g (Y.o.segs.lt O) λh=>h.elim (Y.o.Dc g (.inr (.inr (.inl O)))) (Y.o.Fz g O).2.1) hI λg O=>.inl O)
   (try simp only[Ak])
   refine B4 ?_;simp only[Bm,Bl];go_wp2;go_ret;obtain⟨aJ,h1,h2,h3⟩:=aP.o;have aW:A4 (λk=>Ft k\/k=xb) w w6:=(aG.o.ad (S':=λk=>Ft k\/k=xb) λ_ _ h=>h.elim).tr h2;refine⟨rfl,Cn.bK (FT:=λk=>FT k\/(Value.slice ka l.length I).oB k) h1 aW ?_ ?_ ?_⟩
   ·rintro k _ (h|rfl)
    ·exact .inl (d.o k (.inl h))
    ·exact .inl (d.o _ (.inr (.inr (.inl rfl))))
   ·exact λk E=>(h3 k E).imp (λh=>.inl (d.o k (.inl h))) λh=>AQ aG.o.Al h
   ·exact λk E=>.inl (.inl (d.o k (.inr E)))
  case pos=>
   subst ht;(have aA:R=(0,{A with ix:=⟨L,l⟩,j:=⟨[],A.j.Ac,0,none⟩},a4):=by rw[aH.o,Ae (by simp)]);subst aA;have W:Hid (∀g,(Value.slice ka l.length I).oB g->g<w4.drew.heap.size/\¬Ft g/\¬Fv ab xb jb sv ov lv jo g):=λg O=>⟨Bi (a2.o.lt O) aG.o.Al,λh=>aL.o g O (d.o g (.inl h)),λh=>aL.o g O (d.o g (.inr h))⟩
   refine Bt (λw'=>A8 w' ab 1 (A6 xb)/\A8 w' ab 2 (A6 jb)) 11
    (Bb [0,1,2,3,4,5,6,7,9,8,10] [8,10]) ⟨x1,x2⟩ ?_
   iterate 9 (refine B1 ?_;(try simp only[Ak]))
   refine Bd λK hK=>?_;go_simp;refine aE.m ?_;rintro e w3⟨rfl,rfl⟩;refine hK _ _ ⟨x1,x2⟩ (λhS=>?_)
   (try simp only[Ak])
   refine Bd λK hK=>?_;go_simp;refine aB.m ?_;rintro e w6⟨rfl,hx,hI⟩;have b6:D5 w6 ab b xb jb A.Ac ov:=Y.o.Af.ai hI.1 λh=>h.elim aD.o.2 aD.o.1;refine hK _ _ ⟨b6.c1,b6.c2⟩ (λhS=>?_);rw[Ai rfl,Ai rfl]at hx;have aV:D6 w6 (.slice ka l.length I) l:=(a2.o.An aG.o (λ_ _ h=>h)).aI λg O=>hI.1.Am g (W.o g O).1 λh=>h.elim (W.o g O).2.1 λe=>(W.o g O).2.2 (.inr (.inl e))
   have aP:=A1 (Y.o.eE hx aV hI λg O=>.inr (W.o g O));have d2:=b6.c2
   (try simp only[Ak])
   refine B4 ?_;simp only[Bm,Bl];obtain⟨aJ,h1,h2,h3⟩:=aP.o;have a8:=A1 (ZS w6 h1.jn);have a7:=A1 h1;have a6:Hid (A4 (λk=>Ft k\/k=xb) w w6):=(aG.o.ad (S':=λk=>Ft k\/k=xb) λ_ _ h=>h.elim).tr h2;have a5:Hid (∀k,aJ k->Ft k\/w.heap.size<=k):=λk E=>(h3 k E).imp id λh=>AQ aG.o.Al h
   go_wp2_with (go_at_call 201;refine a8.m ?_;rintro e w7⟨rfl,hj,aQ⟩;have a9:=A1 hj;have aI:=A1 aQ);go_ret;have a0:=a7.o.fP a9.o aI.o (by simp[Value.ownBlock]) rfl;refine⟨rfl,Cn.bK (FT:=λk=>FT k\/(Value.slice ka l.length I).oB k) (S:=λk=>(Ft k\/k=xb)\/k=jb) a0 ((a6.o.ad λ_ _ h=>.inl h).Au aI.o λ_ h _=>.inr h) ?_ ?_ ?_⟩
   ·rintro k _ ((h|rfl)|rfl)
    ·exact .inl (d.o k (.inl h))
    ·exact .inl (d.o _ (.inr (.inr (.inl rfl))))
    ·exact .inl (d.o _ (.inr (.inr (.inr (.inr (.inr (.inl rfl)))))))
   ·exact λk E=>(a5.o k E).imp (λh=>.inl (d.o k (.inl h))) id
   ·rintro k (h|h|h|h|h)
    ·exact .inl (.inl (d.o k (.inr (.inl h))))
    ·exact .inl (.inl (d.o k (.inr (.inr (.inl h)))))
    ·exact .inl (.inr h)
    ·exact .inl (.inl (d.o k (.inr (.inr (.inr (.inr (.inl h)))))))
    ·rcases h with h|h|h
     ·exact .inl (.inl (d.o k (.inr (.inr (.inr (.inr (.inr (.inl h))))))))
     ·simp[Value.ownBlock]at h
     ·cases h
end
def Fit.aw{a c m:Nat}:∀(l:List Bs) (P:PD),Fit P a c m->Fit (PD.aw l P).2 a c m
 | [],P,h=>h
 | nm::r,P,h=>by
  rw[Qm];split
  ·exact h.ae _
  ·exact Fit.aw r _ (h.ae _)
def Fit.I{A:Ar}{P:PD}{a c m:Nat}(h:Fit P a c m):Fit (A.I P).2.2 a c m:=by
 unfold Ar.I;split
 ·exact h.aw _ _
 ·exact h.aw _ _
def Fit.aL{a m:Nat}:∀(l:List Bs) (P:PD) (c:Nat),Fit P a c m->Fit (PD.aL l P).2 a (c+l.length) m
 | [],P,c,h=>h
 | nm::r,P,c,h=>by
  rw[removeAll_cons];split
  ·exact(h.az _).ad (Ao _) (by simp) (Ao _)
  ·exact(Fit.aL r _ _ (h.az _)).ad (Ao _) (by simp;omega) (Ao _)
def Fit.ax{A:Ar}{P:PD}{a c m:Nat}(h:Fit P a c m):Fit (A.ax P).2 a (c+a) m:=by
 have d:=Fit.aL (A.aS P) P c h;have h2:=RI A P h;exact d.ad (Ao _) (by omega) (Ao _)
def Nu(A:Ar)(P:PD):(A.I P).2.1.ix=A.ix/\(A.I P).2.1.j=A.j/\(A.I P).2.1.Ac=A.Ac:=by
 unfold Ar.I;split<;>exact⟨rfl,rfl,rfl⟩
def Ar.aK(A:Ar)(P:PD):Int×Ar×PD:=
 if (A.I P).1≠0 then A.I P else (((A.I P).2.1.ax (A.I P).2.2).1,(A.I P).2.1,((A.I P).2.1.ax (A.I P).2.2).2)
def YF(A:Ar)(P:PD):(A.aK P).2.1.ix=A.ix/\(A.aK P).2.1.j=A.j/\(A.aK P).2.1.Ac=A.Ac:=by
 unfold Ar.aK;split<;>exact Nu A P
def Fit.aK{A:Ar}{P:PD}{a c m:Nat}(h:Fit P a c m):Fit (A.aK P).2.2 a (c+a) m:=by
 unfold Ar.aK;split
 ·exact h.I.ad (Ao _) (by omega) (Ao _)
 ·exact h.I.ax
def QV(A:Ar)(P:PD)(kept:List Int)(fresh:List (List Pu)):A.aJ P kept fresh=if (A.aK P).1≠0 then A.aK P else
 if (PD.an fresh (A.aK P).2.1.Ac kept (A.aK P).2.2).1≠0 then ((PD.an fresh (A.aK P).2.1.Ac kept (A.aK P).2.2).1,{ (A.aK P).2.1 with Ac:=(PD.an fresh (A.aK P).2.1.Ac kept (A.aK P).2.2).2.1},(PD.an fresh (A.aK P).2.1.Ac kept (A.aK P).2.2).2.2.2) else
 if (({ (A.aK P).2.1 with Ac:=(PD.an fresh (A.aK P).2.1.Ac kept (A.aK P).2.2).2.1}:Ar).ak (PD.an fresh (A.aK P).2.1.Ac kept (A.aK P).2.2).2.2.2 (PD.an fresh (A.aK P).2.1.Ac kept (A.aK P).2.2).2.2.1).1≠0 then
  ({ (A.aK P).2.1 with Ac:=(PD.an fresh (A.aK P).2.1.Ac kept (A.aK P).2.2).2.1}:Ar).ak (PD.an fresh (A.aK P).2.1.Ac kept (A.aK P).2.2).2.2.2 (PD.an fresh (A.aK P).2.1.Ac kept (A.aK P).2.2).2.2.1
 else (({ (A.aK P).2.1 with Ac:=(PD.an fresh (A.aK P).2.1.Ac kept (A.aK P).2.2).2.1}:Ar).ak (PD.an fresh (A.aK P).2.1.Ac kept (A.aK P).2.2).2.2.2 (PD.an fresh (A.aK P).2.1.Ac kept (A.aK P).2.2).2.2.1).2.1.a6
  (({ (A.aK P).2.1 with Ac:=(PD.an fresh (A.aK P).2.1.Ac kept (A.aK P).2.2).2.1}:Ar).ak (PD.an fresh (A.aK P).2.1.Ac kept (A.aK P).2.2).2.2.2 (PD.an fresh (A.aK P).2.1.Ac kept (A.aK P).2.2).2.2.1).2.2:=by
 unfold Ar.aJ Ar.aK;dsimp only
 by_cases d:(A.I P).1=0
 ·by_cases h:((A.I P).2.1.ax (A.I P).2.2).1=0
  ·simp only[d,h,JH,not_true,C3]
  ·simp only[d,h,JH,not_true,O5,C3,Ci]
 ·simp only[d,JH,O5,Ci]
section
variable {w w':World} {ab b xb jb B:Nat} {sv ov lv jo:Value} {A:Ar} {P:PD} {Ft FT:Nat->Prop} {a c m:Nat}
def AD.bn(h:AD w ab b A P FT):A8 w ab 0 (A6 b)/\A8 w ab 3 (A0 A.Ac)/\w.frozen? (A9 ab 3)=false/\ab<w.heap.size/\FT ab:=by
 obtain⟨xb,jb,sv,ov,lv,jo,Ft,d,z⟩:=h;exact⟨d.Af.c0,d.Af.c3,d.Af.fz 3,d.Af.lt,z ab (.inr (.inl rfl))⟩
def AD.gg(h:AD w ab b A P FT)(x:Int):AD (w.setCell ⟨ab,3,none⟩ (.int .i64 x)) ab b {A with Ac:=x} P FT:=by
 obtain⟨xb,jb,sv,ov,lv,jo,Ft,d,O⟩:=h;have L:A4 (One ab) w (w.setCell ⟨ab,3,none⟩ (.int .i64 x)):=(A4.C (One ab) w).aj (b:=ab) rfl 3 _;have I:∀k,k≠ab->k<w.heap.size->(w.setCell ⟨ab,3,none⟩ (.int .i64 x)).heap[k]?=w.heap[k]?:=λk z W=>L.Am k W z
 exact⟨xb,jb,sv,ov,lv,jo,Ft,⟨d.Af.s3 x,(I xb d.ne.symm d.ix.lt).trans d.ix,d.segs.aI λg E=>I g (d.Fz g E).1 (d.segs.lt E),d.AR.aI λg E=>I g (d.Gg g E).1 (d.AR.lt E),d.jn.aI λk z=>I k (d.FQ k z).1 (d.jn.lt z),
  AU.aI d.dk λk z=>I k (λe=>by subst e;exact d.Dc _ (.inl rfl) z) (d.lt k z),λk z=>Bi (d.lt k z) L.Al,d.Dc,d.Fz,d.Gg,d.FQ⟩,O⟩
def A1A(h:Bu w b P Ft):
 Ag 86 #[A6 b] w (Aj (A0 P.aF.1) λw'=>As w Ft w' (λw' d=>Bu w' b P.aF.2 d)):=Wc h
def Uh(h:AD w ab b A P FT):
 Ag 86 #[A6 b] w (Aj (A0 P.aF.1) λw'=>As w FT w' (λw' z=>AD w' ab b A P.aF.2 z)):=by
 obtain⟨xb,jb,sv,ov,lv,jo,Ft,d,E⟩:=h;refine(A1A d.dk).mono ?_;rintro e w'⟨L,I⟩;exact⟨L,d.cA E (d.bI I)⟩
def YG(w:World)(g:Nat)(h:AD w ab b A P FT)(_hlt:∀k,FT k->k<w.heap.size)(hg:¬FT g)(Y:g<w.heap.size)(hb:w.heap[g]?=some (.cells #[.func (Fn.func 118) #[.pointer (some ⟨ab,0,none⟩)] #[],.func (Fn.func 150) #[.pointer (some ⟨ab,0,none⟩)] #[]] 50 (0,0)))(hF:Fit P a c m)(hl:CV a (c+a) m)(hn:∀n∈A.ix.segs,CJ n)(W:∀n∈A.j.Av,CJ n)(O:A.ix.segs.length<=1073741824)(L:A.j.Av.length<=1073741824)(hL:Lets B w)(X:∀k,FT k->B<=k):
 Calls Tryz.prog 117 #[.slice (some ⟨g,0,none⟩) 2 2] w λe w'=>e=.returned (.int .i64 (A.aK P).1)/\As w FT w' (λw' d=>AD w' ab b (A.aK P).2.1 (A.aK P).2.2 d):=by
 obtain⟨s1,s2,s3⟩:=Nu A P;refine(A0S w g ab ab (λn w'=>n=(A.I P).1/\As w FT w' (λw' d=>AD w' ab b (A.I P).2.1 (A.I P).2.2 d)) (λn w'=>(A.I P).1=0/\n=((A.I P).2.1.ax (A.I P).2.2).1/\As w FT w' (λw' d=>AD w' ab b (A.I P).2.1 ((A.I P).2.1.ax (A.I P).2.2).2 d)) hb ?_ ?_).mono ?_
 ·refine(QB w h).mono ?_;rintro e w'⟨E,z⟩;exact⟨_,E,⟨rfl,z⟩,z.1.Am g Y hg⟩
 ·rintro w1⟨h0,c1,F1,z,I,h4⟩ -;refine(Qp w1 z hF.I hl (by rw[s1];exact hn) (by rw[s2];exact W) (by rw[s1];exact O) (by rw[s2];exact L) (hL.ai c1 X)).mono ?_;rintro e w'⟨h5,h6⟩;exact⟨_,h5,h0.symm,rfl,As.a7 c1 h4 h6⟩
 ·rintro e w'⟨n,rfl,⟨E,z,I⟩|⟨E,z,I⟩⟩
  ·subst z;unfold Ar.aK;rw[Ai E];exact⟨rfl,I⟩
  ·subst z;unfold Ar.aK;rw[Ae (by simp[E])];exact⟨rfl,I⟩
def A2l(w:World)(g:Nat)(h:AD w ab b A P FT)(_hlt:∀k,FT k->k<w.heap.size)(hg:¬FT g)(X:g<w.heap.size)(hb:w.heap[g]?=some (.cells #[.func (Fn.func 150) #[.pointer (some ⟨ab,0,none⟩)] #[],.func (Fn.func 86) #[.pointer (some ⟨b,0,none⟩)] #[]] 50 (0,0)))(hF:Fit P a c m)(hl:CV a (c+a) m)(hn:∀n∈A.ix.segs,CJ n)(W:∀n∈A.j.Av,CJ n)(O:A.ix.segs.length<=1073741824)(L:A.j.Av.length<=1073741824)(hL:Lets B w):
 Calls Tryz.prog 117 #[.slice (some ⟨g,0,none⟩) 2 2] w λe w'=>e=.returned (.int .i64 (A.a6 P).1)/\As w FT w' (λw' d=>AD w' ab b (A.a6 P).2.1 (A.a6 P).2.2 d):=by
 refine(A0R w g ab b (λn w'=>n=(A.ax P).1/\As w FT w' (λw' d=>AD w' ab b A (A.ax P).2 d)) (λn w'=>(A.ax P).1=0/\n=(A.ax P).2.aF.1/\As w FT w' (λw' d=>AD w' ab b A (A.ax P).2.aF.2 d)) hb ?_ ?_).mono ?_
 ·refine(Qp w h hF hl hn W O L hL).mono ?_;rintro e w'⟨E,z⟩;exact⟨_,E,⟨rfl,z⟩,z.1.Am g X hg⟩
 ·rintro w1⟨Y,c1,F1,z,I,h4⟩ -;refine(Uh z).mono ?_;rintro e w'⟨h5,h6⟩;exact⟨_,h5,Y.symm,rfl,As.a7 c1 h4 h6⟩
 ·rintro e w'⟨n,rfl,⟨E,z,I⟩|⟨E,z,I⟩⟩
  ·subst z;unfold Ar.a6;rw[Ai E];exact⟨rfl,I⟩
  ·subst z;unfold Ar.a6;rw[Ae (by simp[E])];exact⟨rfl,I⟩
end
end
end Go.Proofs.YtodcnkbblippnaaGreatDoor
