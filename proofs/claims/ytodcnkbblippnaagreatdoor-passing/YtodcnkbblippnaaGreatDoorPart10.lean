/- Part 10 of a proof: walks of the program. -/
import Derived.Shelf.Spec.SearchS
import Derived.Shelf.SlicesE.Clone
import Derived.Sort.OwnSorted
import Derived.Sort.OwnSortedInts
import Derived.Test.YtodcnkbblippnaaGreatDoorPart09
namespace Go.Proofs.YtodcnkbblippnaaGreatDoor
set_option maxRecDepth 100000
set_option maxHeartbeats 32000000
set_option linter.defProp false
open Go.Proofs.Tryz
section
open Go.RowKit
attribute [local go_sem ↓] C5
def Rz(w:World)(g L I:Nat)(U Z:Int->World->Prop)(Y:w.heap[g]?=some (.cells #[.func (Fn.func 118) #[A4 L] #[],.func (Fn.func 150) #[A4 I] #[]] 50 (0,0)))(h1:Ac 118 #[A4 L] w λe w'=>∃n,e=.returned (A0 n)/\U n w'/\w'.heap[g]?=w.heap[g]?)(h2:∀d,U 0 d->d.heap[g]?=w.heap[g]?->Ac 150 #[A4 I] d λe w'=>∃n,e=.returned (A0 n)/\Z n w'):
 Ac 117 #[AH g 2 2] w λe w'=>∃n,e=.returned (A0 n)/\((n≠0/\U n w')\/Z n w'):=by
 have c0:A5 w g 0 (.func (Fn.func 118) #[A4 L] #[]):=by simp[A5,World.cell?,Y]
 have aB:Hid (∀d:World,d.heap[g]?=w.heap[g]?->A5 d g 1 (.func (Fn.func 150) #[A4 I] #[])):=λd h=>by simp[A5,World.cell?,h,Y]
 have aA:=A1 h1;have aD:=A1 h2
 go_enter func117,ntmps117
 go_wp2;refine FY 3 ?_;rw[E6];go_wp2_with (fail);refine aA.m ?_;rintro e d⟨V,rfl,q1,W⟩;have E:=A1 q1;have c1:=aB.o d W;have J:=A1 W;by_cases y:V=0
 case neg=>
  have hb1:(V !=0)=true:=by simpa using y
  go_wp2;go_ret;exact⟨V,rfl,.inl ⟨y,E.o⟩⟩
 case pos=>
 subst y;have O:=A1 (aD.o d E.o J.o);go_wp2;rw[E6];go_wp2_with (fail);refine O.m ?_;rintro e w2⟨n2,rfl,q2⟩;have z:=A1 q2;by_cases H:n2=0
 case neg=>
  have hb2:(n2 !=0)=true:=by simpa using H
  go_wp2;go_ret;exact⟨n2,rfl,.inr (z.o)⟩
 case pos=>
 subst H;go_wp2;rw[E6];go_wp2;go_ret;exact⟨0,rfl,.inr (z.o)⟩
def Ry(w:World)(g L I:Nat)(U Z:Int->World->Prop)(Y:w.heap[g]?=some (.cells #[.func (Fn.func 150) #[A4 L] #[],.func (Fn.func 86) #[A4 I] #[]] 50 (0,0)))(h1:Ac 150 #[A4 L] w λe w'=>∃n,e=.returned (A0 n)/\U n w'/\w'.heap[g]?=w.heap[g]?)(h2:∀d,U 0 d->d.heap[g]?=w.heap[g]?->Ac 86 #[A4 I] d λe w'=>∃n,e=.returned (A0 n)/\Z n w'):
 Ac 117 #[AH g 2 2] w λe w'=>∃n,e=.returned (A0 n)/\((n≠0/\U n w')\/Z n w'):=by
 have c0:A5 w g 0 (.func (Fn.func 150) #[A4 L] #[]):=by simp[A5,World.cell?,Y]
 have aB:Hid (∀d:World,d.heap[g]?=w.heap[g]?->A5 d g 1 (.func (Fn.func 86) #[A4 I] #[])):=λd h=>by simp[A5,World.cell?,h,Y]
 have aA:=A1 h1;have aD:=A1 h2
 go_enter func117,ntmps117
 go_wp2;refine FY 3 ?_;rw[E6];go_wp2_with (fail);refine aA.m ?_;rintro e d⟨V,rfl,q1,W⟩;have E:=A1 q1;have c1:=aB.o d W;have J:=A1 W;by_cases y:V=0
 case neg=>
  have hb1:(V !=0)=true:=by simpa using y
  go_wp2;go_ret;exact⟨V,rfl,.inl ⟨y,E.o⟩⟩
 case pos=>
 subst y;have O:=A1 (aD.o d E.o J.o);go_wp2;rw[E6];go_wp2_with (fail);refine O.m ?_;rintro e w2⟨n2,rfl,q2⟩;have z:=A1 q2;by_cases H:n2=0
 case neg=>
  have hb2:(n2 !=0)=true:=by simpa using H
  go_wp2;go_ret;exact⟨n2,rfl,.inr (z.o)⟩
 case pos=>
 subst H;go_wp2;rw[E6];go_wp2;go_ret;exact⟨0,rfl,.inr (z.o)⟩
end
section
open Go.RowKit
def Tryz.dI:Go.Shelf.Ren:=⟨fun|26=>138|33=>179|34=>180|38=>234|n=>n,fun|0=>0|3=>3|4=>4|9=>9|24=>121|40=>232|n=>n,fun|n=>n⟩
def Tryz.cY:Go.Proofs.Lays2.n26 Tryz.prog Tryz.dI:={
 mixed:=by kernel_rfl
 f26:=func138.trans (ER some (by kernel_rfl))
 f33:=func179.trans (ER some (by kernel_rfl))
 f34:=func180.trans (ER some (by kernel_rfl))
 f38:=func234.trans (ER some (by kernel_rfl))
 t0:=underlying0
 a0:=isAgg0
 z0:=sizeOf0
 v0:=zeroValue0
 t3:=underlying3
 a3:=isAgg3
 z3:=sizeOf3
 v3:=zeroValue3
 t4:=underlying4
 a4:=isAgg4
 z4:=sizeOf4
 v4:=zeroValue4
 t9:=underlying9
 a9:=isAgg9
 z9:=sizeOf9
 v9:=zeroValue9
 t24:=underlying121
 a24:=isAgg121
 z24:=sizeOf121
 v24:=zeroValue121
 t40:=underlying232
 a40:=isAgg232
 z40:=sizeOf232
 v40:=zeroValue232}
def Tryz.dO:Go.Shelf.Ren:=⟨fun|41=>153|n=>n,fun|22=>97|23=>113|4=>4|n=>n,fun|n=>n⟩
def Tryz.cV:Go.Proofs.SlLaysE0.n41 Tryz.prog Tryz.dO:={
 mixed:=by kernel_rfl
 f41:=⟨Tryz.f153.name,by decide,func153.trans (ER some (by kernel_rfl))⟩
 t4:=underlying4
 a4:=isAgg4
 z4:=sizeOf4
 v4:=zeroValue4
 t22:=underlying97
 a22:=isAgg97
 z22:=sizeOf97
 v22:=zeroValue97}
def Sr(a b:List UInt8):Op.bytesLess a b=decide (a<b):=by
 induction a generalizing b with
 | nil=>cases b with
  | nil=>simp[Op.bytesLess]
  | cons y r=>simp[Op.bytesLess]
 | cons x a ih=>
  cases b with
  | nil=>simp[Op.bytesLess]
  | cons y r=>
   unfold Op.bytesLess;rw[ih r];by_cases h:x<y
   ·simp[h,List.cons_lt_cons_iff]
   ·by_cases d:x=y
    ·subst d;simp
    ·(have:¬(x::a<y::r):=by rw[Tu];simp[h,d]);simp[h,d,this]
end
section
open Go.RowKit
attribute [local go_sem ↓] C5
def Al.aZ{w J O:World}{Ft d:Nat->Prop}{R:World->(Nat->Prop)->Prop}(U:A2 Ft w J)(L:∀k,d k->Ft k\/w.heap.size<=k)(V:Al J d O R):Al w Ft O R:=by
 obtain⟨H,E,z,y,I⟩:=V;refine⟨U.As H λx Y hlt=>(L x Y).resolve_right (by omega),E,z,y,λk W=>?_⟩;rcases I k W with h|h
 ·exact L k h
 ·exact .inr (Az U.Af h)
section
variable {w:World} {ab b xb jb B:Nat} {sv ov lv jo:Value} {A:Ar} {P:PD} {Ft FT:Nat->Prop} {a c m:Nat}
def RX(h:B4 w b P Ft)(nm:Bs):
 Ac 85 #[A4 b,.string ⟨nm.toArray⟩] w (Ak (A0 (P.az (Aa nm)).1) λw'=>Al w Ft w' (λw' d=>B4 w' b (P.az (Aa nm)).2 d)):=KR h (Aa nm)
def KS(nm:Bs)(r:List Bs)(P:PD):PD.aJ (nm::r) P=if (P.az (Aa nm)).1≠0 then P.az (Aa nm) else PD.aJ r (P.az (Aa nm)).2:=rfl
def ON(w:World)(h:AD w ab b A P FT):
 Ac 118 #[A4 ab] w (Ak (A0 (A.ah P).1) λw'=>Al w FT w' (λw' aP=>AD w' ab b (A.ah P).2.1 (A.ah P).2.2 aP)/\w'.cell? (A8 ab 2)=w.cell? (A8 ab 2)):=by
 obtain⟨xb,jb,sv,ov,lv,jo,Ft,hV,aE⟩:=h;have a4:=hV.Ae.c4;obtain⟨oa,I,rfl,oc1,aT⟩:=hV.AS.BU;unfold maxLen at aT;have aG:=A1 hV;have z:=A1 aE;have aK:Hid (A.ah P=if (PD.aJ A.AS P).1≠0 then ((PD.aJ A.AS P).1,A,(PD.aJ A.AS P).2) else (0,{A with AS:=[]},(PD.aJ A.AS P).2)):=rfl;have aU:=A1 KS;generalize hR:A.ah P=R at aK ⊢;obtain⟨X,hX⟩:∃X,PD.aJ A.AS P=X:=⟨_,rfl⟩;have aV:=A1 hX;rw[hX]at aK
 go_enter func118,ntmps118
 go_wp2;go_loopw [11] (λiv wr=>∃(k:Nat),iv=A0 k/\k<=A.AS.length/\Hid (∃U,Al w Ft wr (λw' E=>Bu w' ab b xb jb sv (.slice oa A.AS.length I) lv jo A U E)/\X=PD.aJ (A.AS.drop k) U)) (λiv _=>A.AS.length-(intOf iv).toNat)
 case atStart=>exact⟨0,rfl,by omega,P,⟨A2.C _ _,Ft,aG.o,aG.o.lt,λk y=>.inl y⟩,aV.o.symm⟩
 case round=>
  obtain⟨k,rfl,y,hI⟩:=hrel;obtain⟨U,hi,hx⟩:=hI.o;obtain⟨c1,aD,d,lt1,s1⟩:=hi;by_cases Z:k<A.AS.length
  ·obtain⟨g,o,rfl,d1⟩:=Es.at d.AS k Z;have aF:=EH Z;generalize hne:(A.AS[k]'Z)=nm at d1 aF;rw[aF,aU.o]at hx;have e0:=d.Ae.c0;have aJ:=A1 (RX d.dk nm);generalize hY:U.az (Aa nm)=Y at aJ hx;have W:Hid (∀O,Al wr aD O (λw' E=>B4 w' b Y.2 E)->Al w Ft O (λw' E=>Bu w' ab b xb jb sv (.slice (some (A8 g o)) A.AS.length I) lv jo A Y.2 E)):=λO h6=>Al.aZ c1 s1 (d.bN h6);have aA:=A1 hx;(have aO:(k:Int)<(A.AS.length:Int):=by omega);have hk0:=C3 k;obtain⟨aH,aI⟩:=Y;dsimp only at aJ W aA;by_cases hy:aH=0
   case neg=>
    (have L:X=(aH,aI):=by rw[aA.o,Am hy]);subst L;(have aB:R=(aH,A,aI):=by rw[aK.o,Am hy]);subst aB;(have hyb:(aH !=0)=true:=by simpa using hy);go_wp2_with (go_at_call 85;refine aJ.m ?_;rintro e O⟨rfl,V⟩;have H:=A1 (W.o O V));go_ret;obtain⟨_,_,aN,_⟩:=H.o;exact⟨rfl,aG.o.bM z.o H.o,aN.Ae.c2.trans aG.o.Ae.c2.symm⟩
   case pos=>
    subst hy;(have aS:Hid (X=PD.aJ (A.AS.drop (k+1)) aI):=by unfold Hid;rw[aA.o,Ad (by simp)]);go_wp2_with (go_at_call 85;refine aJ.m ?_;rintro e O⟨rfl,V⟩;have H:=A1 (W.o O V));go_roundw
    case rel=>exact⟨k+1,by go_num,by omega,aI,H.o,aS.o⟩
    case measure=>simp[intOf];omega
  ·(obtain rfl:k=A.AS.length:=by omega);rw[Fz]at hx;have L:X=(0,U):=hx;subst L;(have aB:R=(0,{A with AS:=[]},U):=by rw[aK.o,Ad (by simp)]);subst aB;(have aO:¬((A.AS.length:Int)<(A.AS.length:Int)):=by omega);have g4:=d.Ae.c4;have f4:=d.Ae.fz 4;have aM:=A1 d;have aQ:=A1 c1;have aL:=A1 s1;go_wp2;go_ret;have d:=aM.o;have kz:A2 (One ab) wr (wr.sC ab 4 (.slice none 0 0)):=(A2.C (One ab) wr).ak (b:=ab) rfl 4 _;have hs:∀k,k≠ab->k<wr.heap.size->(wr.sC ab 4 (.slice none 0 0)).heap[k]?=wr.heap[k]?:=λk y hl=>kz.Ao k hl y;have aR:∀k,C9 jb lv jo k->k≠ab:=λk y=>(d.E0 k y).1
   have J:Bu (wr.sC ab 4 (.slice none 0 0)) ab b xb jb sv (.slice none 0 0) lv jo {A with AS:=[]} U aD:=
    ⟨d.Ae.s4 _,(hs xb d.ne.symm d.ix.lt).trans d.ix,d.A6.aq λg hg=>hs g (d.DP g hg).1 (d.A6.lt hg),Cq.bx,d.jn.aq λk y=>hs k (aR k y) (d.jn.lt y),
     AP.aq d.dk λk y=>hs k (λe=>by subst e;exact d.Cg _ (.inl rfl) y) (d.lt k y),λk y=>Bc (d.lt k y) kz.Af,
     λk y=>d.Cg k (by
      rcases y with h|h|h|h|h
      ·exact .inl h
      ·exact .inr (.inl h)
      ·exact .inr (.inr (.inl h))
      ·simp[Value.ownBlock]at h
      ·exact .inr (.inr (.inr (.inr h)))),d.DP,λg hg=>by simp[Value.ownBlock]at hg,d.E0⟩
   refine⟨rfl,?_,J.Ae.c2.trans aG.o.Ae.c2.symm⟩;refine(J.bj ((aQ.o.U (S':=λk=>Ft k\/k=ab) λ_ _ h=>.inl h).As kz λ_ h _=>.inr h) ?_ (λk y=>(aL.o k y).imp (λh=>z.o k (.inl h)) id) ?_)
   ·rintro k _ (h|rfl)
    ·exact z.o k (.inl h)
    ·exact z.o _ (.inr (.inl rfl))
   ·intro k y;refine .inl (z.o k (.inr ?_));rcases y with h|h|h|h|h
    ·exact .inl h
    ·exact .inr (.inl h)
    ·exact .inr (.inr (.inl h))
    ·simp[Value.ownBlock]at h
    ·exact .inr (.inr (.inr (.inr h)))
def L0(w:World)(h:AD w ab b A P FT):
 Ac 118 #[A4 ab] w (Ak (A0 (A.ah P).1) λw'=>Al w FT w' (λw' d=>AD w' ab b (A.ah P).2.1 (A.ah P).2.2 d)):=
 (ON w h).mono λ_ _ ⟨z,y,_⟩=>⟨z,y⟩
end
end
section
open Go.RowKit
def A2.bU{w w':World}(h:Below w.heap.size w w'):A2 A7 w w':=⟨h.os,h.tape,h.output,h.size,λk d _=>h.block k d⟩
def Jm{w:World}{d e size n:Nat}{v:Value}{xs:List Value}(h:w.ownsRow d e size v n xs):w.ownsRow 0 e size v n xs/\∀g,v.ownBlock=some g->d<=g:=by
 refine⟨⟨h.1,?_⟩,λg E=>(h.lt g E).1⟩;rcases h.2 with z|⟨g,cap,y,z,_,H⟩
 ·exact .inl z
 ·exact .inr ⟨g,cap,y,z,CL _,H⟩
def Sz(l:List Bs):Cd l=l.map encStr:=rfl
def OH(w:World)(v:Value)(l:List Bs)(h:Cl w v l)(V:l.length<4611686018427387904):
 Calls Tryz.prog 137 #[v] w λe w'=>e=.returned (.tuple #[])/\Cl w' v (l.mergeSort λx y=>decide (x<=y))/\A2 (λk=>v.ownBlock=some k) w w':=by
 obtain⟨h1,L⟩:=h;rcases L with⟨rfl,O⟩|⟨g,cap,H,rfl,_,E,z,Y,W,J⟩
 ·have e:=Fy.1 O;subst e;refine(Tryz.slices_Sort_string_none none 0 w).mono ?_;rintro e w'⟨rfl,rfl⟩;exact⟨rfl,by rw[Tf];exact BW _ _ _ _,A2.C _ _⟩
 ·have I:H.toList.take l.length=l.map encStr:=by rw[Nk]at J;rw[J];rfl
  refine(Tryz.slices_Sort_string g 0 cap l w (holds_of_block E I) (CD E) V).mono ?_;rintro e w'⟨rfl,n,os,rfl⟩;have d:(l.mergeSort λx y=>decide (x<=y)).length=l.length:=by simp
  refine⟨rfl,?_,(A2.C _ w).Dc (grownBy_sorted _) λk U _=>by cases U;rfl⟩;unfold Cl;rw[Sz,d];exact ownsRow_sorted d (CL _) E z Y W
def OJ(w:World)(v:Value)(l:List Int)(h:Cs w v l)(V:l.length<4611686018427387904):
 Calls Tryz.prog 115 #[v] w λe w'=>e=.returned (.tuple #[])/\Cs w' v (l.mergeSort λx y=>decide (x<=y))/\A2 (λk=>v.ownBlock=some k) w w':=by
 obtain⟨h1,L⟩:=h;rcases L with⟨rfl,O⟩|⟨g,cap,H,rfl,_,E,z,Y,W,J⟩
 ·have e:=Fy.1 O;subst e;refine(Tryz.slices_Sort_int_none none 0 w).mono ?_;rintro e w'⟨rfl,rfl⟩;exact⟨rfl,by rw[Tf];exact BW _ _ _ _,A2.C _ _⟩
 ·have I:H.toList.take l.length=l.map (Value.int .i64):=by rw[Nk]at J;rw[J];rfl
  refine(Tryz.slices_Sort_int g 0 cap l w (holds_of_blockI E I) (CD E) V).mono ?_;rintro e w'⟨rfl,n,os,rfl⟩;have d:(l.mergeSort λx y=>decide (x<=y)).length=l.length:=by simp
  refine⟨rfl,?_,(A2.C _ w).Dc (grownBy_sortedI _) λk U _=>by cases U;rfl⟩;unfold Cs;rw[d];exact ownsRow_sortedI d (CL _) E z Y W
def KX(x:Bs):∀(l:List Bs),(l.Pairwise λa b=>¬b<a)->∃k,k<=l.length/\(∀t (d:t<l.length),t<k->(l[t]'d)<x)/\∀t (d:t<l.length),k<=t->¬(l[t]'d)<x
 | [],_=>⟨0,Aw _,λt d=>by simp at d,λt d=>by simp at d⟩
 | y::r,hs=>by
  obtain⟨O,L⟩:=D3.1 hs;by_cases E:y<x
  ·obtain⟨k,k0,H,J⟩:=KX x r L;refine⟨k+1,by simp;omega,λt d z=>?_,λt d z=>?_⟩
   ·cases t with
    | zero=>exact E
    | succ t=>exact H t (by simp at d;omega) (by omega)
   ·cases t with
    | zero=>omega
    | succ t=>exact J t (by simp at d;omega) (by omega)
  ·refine⟨0,CL _,λt _ z=>by omega,λt d _ h=>?_⟩;cases t with
   | zero=>exact E h
   | succ t=>
    have I:=O _ (Cx (show t<r.length by simp at d;omega));exact E (List.lt_of_le_of_lt (show y<=_ from I) h)
def Sw(w:World)(v:Value)(l:List Bs)(x:Bs)(h:Es w v l)(hl:l.length<4611686018427387904)(hs:l.Pairwise λa b=>¬b<a):
 Calls Tryz.prog 138 #[v,.string ⟨x.toArray⟩] w λe w'=>∃i,e=.returned (.tuple #[.int .i64 i,.bool (decide (x∈l))])/\∃q,w'=w.drewN q:=by
 obtain⟨a,cap,rfl,hcap,hm⟩:=h.BU;by_cases h0:l.length=0
 ·have e:l=[]:=Fy.1 h0;subst e;refine(Any2.slices_BinarySearch_string_empty Tryz.cY a cap ⟨x.toArray⟩ w).mono ?_;rintro e w'⟨rfl,rfl⟩;exact⟨0,by simp,0,rfl⟩
 ·obtain⟨g,o,rfl,-⟩:=Es.at h 0 (by omega)
  let Sx:Nat->ByteArray:=λt=>if d:t<l.length then ⟨(l[t]'d).toArray⟩ else ⟨x.toArray⟩
  have E:∀t (d:t<l.length),Sx t=⟨(l[t]'d).toArray⟩:=λt d=>by simp only[Sx,dif_pos d]
  refine(Any2.slices_BinarySearch_string Tryz.cY g o l.length cap Sx ⟨x.toArray⟩ w hl (λj O=>?_)).mono ?_
  ·obtain⟨g',o',e,hc⟩:=Es.at h j O;cases e;rw[E j O];exact hc
  rintro e w'⟨J,q,rfl⟩;have z:∀t,Op.bytesLess (Sx t).toList (⟨x.toArray⟩:ByteArray).toList=decide (∃d:t<l.length,(l[t]'d)<x):=λt=>by
   rw[Sr,IN,IN];by_cases d:t<l.length
   ·rw[E t d];by_cases H:(l[t]'d)<x
    ·have I:decide (∃d:t<l.length,(l[t]'d)<x)=true:=Cc ⟨d,H⟩;rw[I];exact Cc H
    ·have I:decide (∃d:t<l.length,(l[t]'d)<x)=false:=Cj λ⟨_,h⟩=>H h
     rw[I];exact Cj H
   ·(have e:Sx t=⟨x.toArray⟩:=by simp only[Sx,dif_neg d]);have I:decide (∃d:t<l.length,(l[t]'d)<x)=false:=Cj λ⟨h,_⟩=>d h
    rw[e,I];exact Cj (Nv _)
  have aB:∀(i j:Nat) (Z:i<l.length) (O:j<l.length),i<j->¬(l[j]'O)<(l[i]'Z):=λi j Z O Y=>IH.1 hs i j Z O Y;obtain⟨k,hk,k1,k2⟩:=KX x l hs;have W:Lib.bsGo (λt=>Op.bytesLess (Sx t).toList (⟨x.toArray⟩:ByteArray).toList) l.length 0 l.length=k:=by
   refine Lib.bsGo_spec _ k (λt d=>?_) (λt d=>?_) _ 0 l.length (by omega) (by omega) hk
   ·rw[z t];exact Cc ⟨by omega,k1 t (by omega) d⟩
   ·rw[z t];exact Cj λ⟨I,h2⟩=>k2 t I d h2
  rw[W]at J;have:(k<l.length/\Sx k=⟨x.toArray⟩)↔x∈l:=by
   constructor
   ·rintro⟨y,U⟩;rw[E k y]at U;have:(l[k]'y)=x:=by
     have:=ER (λ(b:ByteArray)=>b.data.toList) U;simpa using this
    rw[<-this];exact Cx y
   ·intro hm;obtain⟨t,d,J⟩:=GW hm;have htk:k<=t:=by
     rcases Eg t k with L | L
     ·have:=k1 t d L;rw[J]at this;exact absurd this (Nv _)
     ·exact L
    (have y:k<l.length:=by omega);refine⟨y,?_⟩;have aA:¬x<(l[k]'y):=by
     rcases Eg k t with L | L
     ·have:=aB k t y d L;rwa [J]at this
     ·(have e:k=t:=by omega);subst e;rw[J];exact Nv _
    have V:=k2 k y (Aw _);have:(l[k]'y)=x:=List.le_antisymm (show (l[k]'y)<=x from aA) (show x<=(l[k]'y) from V);rw[E k y,this]
  have hd:decide (k<l.length/\Sx k=⟨x.toArray⟩)=decide (x∈l):=by
   by_cases H:x∈l
   ·rw[Cc H];exact Cc (this.2 H)
   ·rw[Cj H];exact Cj λh=>H (this.1 h)
  rw[hd]at J;exact⟨_,J,q,rfl⟩
def Sk(w:World)(v:Value)(l:List Pu)(h:AO w v l)(W:l.length*24<=140737488355328):
 Calls Tryz.prog 153 #[v] w λe w'=>∃d,e=.returned d/\AO w' d l/\(∀g,d.ownBlock=some g->w.heap.size<=g)/\A2 (λ_=>False) w w':=by
 obtain⟨U,Y,y,z,E⟩:=Dr FK;obtain⟨a,cap,rfl,h1,H,h3,J,O⟩:=AR h;cases a with
 | none=>
  have e:=Fy.1 (J rfl).1;subst e;refine(AnyE.slices_Clone_nil Tryz.cV _ cap w).mono ?_;rintro e w'⟨rfl,rfl⟩;exact⟨_,rfl,BW _ _ _ _,λg I=>by simp[Value.ownBlock]at I,A2.C _ _⟩
 | some x=>
  obtain⟨g,rfl⟩:=O x rfl;unfold maxLen at H;refine(AnyE.slices_Clone Tryz.cV U _ 3 24 Y y z E rfl (by decide) (λw=>sizeOf113 w) g 0 l.length cap (Bv l) w h.1 (by unfold maxLen;omega) W (λj u hj=>?_) (FE l)).mono ?_
  ·have:=Be h rfl hj;simpa using this
  rintro e w'⟨d,rfl,Z,h7,V⟩;obtain⟨L,q2⟩:=Jm Z;exact⟨d,rfl,L,q2,A2.bU V⟩
def Sl(w:World)(v:Value)(l:List Int)(h:C4 w v l)(V:l.length*8<=140737488355328):
 Calls Tryz.prog 108 #[v] w λe w'=>∃d,e=.returned d/\Cs w' d l/\(∀g,d.ownBlock=some g->w.heap.size<=g)/\A2 (λ_=>False) w w':=by
 obtain⟨a,cap,rfl,h1,h2⟩:=h.BU;by_cases J:l.length=0
 ·have e:=Fy.1 J;subst e;cases a with
  | none=>
   refine(Tryz.slices_Clone_int_nil 0 cap w).mono ?_;rintro e w'⟨rfl,rfl⟩;exact⟨_,rfl,BW _ _ _ _,λg L=>by simp[Value.ownBlock]at L,A2.C _ _⟩
  | some x=>
   refine(Tryz.slices_Clone_int_zero x cap w).mono ?_;rintro e w'⟨d,rfl,y,O,E⟩;obtain⟨z,H⟩:=Jm y;exact⟨d,rfl,z,H,A2.bU E⟩
 ·obtain⟨g,o,rfl,-⟩:=C4.at h 0 (by omega);refine(Tryz.slices_Clone_int g o l.length cap l w (Aw _) V (λj I=>?_)).mono ?_
  ·obtain⟨g',o',e,U⟩:=C4.at h j I;cases e;rw[JJ l j I];exact U
  rintro e w'⟨d,rfl,y,O,E⟩;rw[CP]at y;obtain⟨z,H⟩:=Jm y;exact⟨d,rfl,z,H,A2.bU E⟩
end
section
open Go.RowKit
attribute [local go_sem ↓] C5
def Tryz.dP:(Tryz.prog.info? 9).map (λi=>(i.zero,i.size,i.bytes))=some (some (.string ⟨#[]⟩),1,16):=by kernel_rfl
def OA:∃d,Tryz.prog.info? 9=some d/\d.zero=some (.string ⟨#[]⟩)/\d.size=1/\d.bytes=16:=by
 have h:=Tryz.dP;cases hx:Tryz.prog.info? 9 with
 | none=>rw[hx]at h;cases h
 | some i=>rw[hx]at h;simp at h;exact⟨i,rfl,h.1,h.2.1,h.2.2⟩
def GI(l:List Bs):List Bs:=l.mergeSort λx y=>decide (x<=y)
def RB(l:List Bs):(GI l).Pairwise λa b=>¬b<a:=by
 have h:=Te (le:=λx y:Bs=>decide (x<=y)) (λa b c E z=>by simp at E z ⊢;exact List.le_trans E z) (λa b=>by simp;exact List.le_total a b) l;exact h.imp λd=>by simpa using d
def My(l:List Bs)(x:Bs):x∈GI l↔x∈l:=Ti
def RA(l:List Bs):(GI l).length=l.length:=Nx _
section
variable {w:World} {ab b xb jb B:Nat} {sv ov lv jo:Value} {A:Ar} {P:PD} {Ft FT:Nat->Prop} {a c m:Nat}
def FL{w:World}{e L size y n n2 z d:Nat}{v O:Value}{xs I:List Value}(h:w.ownsRow z e size v n xs)(U:w.ownsRow d L y O n2 I)(E:e≠L){g:Nat}(V:v.ownBlock=some g):¬O.ownBlock=some g:=λH=>by
 obtain⟨c,W⟩:=BA h V;obtain⟨c2,J⟩:=BA U H;exact Cb W J E rfl
def Lz(w:World)(h:Bu w ab b xb jb sv ov lv jo A P Ft)(hF:Fit P a c m)(hl:BL a c m)(hn:∀n∈A.ix.A6,By n)(dE:∀n∈A.j.Ah,By n)(hsl:A.ix.A6.length<=1073741824)(dD:A.j.Ah.length<=1073741824)(hL:Lets B w):
 Ac 100 #[A4 ab] w λe w'=>∃v1 v2,e=.returned (.tuple #[v1,v2])/\Cl w' v1 (A.aQ P)/\Cl w' v2 (A.aY P)/\(∀g,v1.ownBlock=some g->w.heap.size<=g)/\(∀g,v2.ownBlock=some g->w.heap.size<=g)/\A2 A7 w w':=by
 obtain⟨i0,hi,aT,aX,aV⟩:=OA;have cD:=A1 h;have cI:Hid (∀I k n,A2 A7 w I->1<=k/\k<=4->By n->Ac 134 #[A0 (k:Nat),A0 n] I λe w'=>e=.returned (.string ⟨(B9 k n).toArray⟩)/\A2 A7 I w'):=λI k n hc hk hn=>I5 (n:=n) I k hk ⟨by have:=hn.1;omega,hn.2.1⟩ hn.2.2 (hL.ao hc);have dH:=A1 (cI.o w 3 0 (A2.C _ w) (by omega) (Fo (by omega) (by omega)));have dJ:Hid (∀I,A2 A7 w I->Ac 136 #[A4 jb] I λe w'=>∃v,e=.returned v/\Cs w' v A.j.Ah/\(∀g,v.ownBlock=some g->I.heap.size<=g)/\A2 A7 I w'):=λI hc=>Qw I (h.jn.an hc) dD;have dI:Hid (∀I,A2 A7 w I->Ac 76 #[A4 b] I λe w'=>∃v,e=.returned v/\Cl w' v P.ad/\A2 A7 I w'/\(∀g,v.ownBlock=some g->I.heap.size<=g)):=λI hc=>Jt (AP.au h.dk h.lt hc) hF hl;have dA:P.ad.length<=1073741824:=by rw[GA];exact Az hF.A3 hl.a
 have aJ:Hid (A.ad=[AF]++A.j.Ah.map Ai++A.ix.A6.map AJ):=rfl;have bJ:Hid (A.aQ P=P.ad.filter λnm=>decide (nm∈A.ad)):=rfl;have bD:Hid (A.aY P=P.ad.filter λnm=>!decide (nm∈A.ad)):=rfl;have cU:=A1 hn;have cO:=A1 dE;obtain⟨dL,b8⟩:∃x,A.aQ P=x:=⟨_,rfl⟩;obtain⟨dK,bT⟩:∃x,A.aY P=x:=⟨_,rfl⟩;obtain⟨E,bE⟩:∃x,A.ad=x:=⟨_,rfl⟩;rw[b8,bE]at bJ;rw[bT,bE]at bD;rw[bE]at aJ;rw[b8,bT];have b0:E.length<=4294967296:=by rw[aJ.o];simp;omega
 have b2:=h.A6;generalize hns:P.ad=ns at *;generalize hlgs:A.j.Ah=lgs at *;generalize hss:A.ix.A6=ss at *;obtain⟨sa,scap,rfl,sc1,cQ⟩:=b2.BU;unfold maxLen at cQ;have cP:=A1 b2
 go_enter func100,ntmps100
 go_wp2_with (fail);refine dH.o.mono ?_;rintro e I⟨rfl,bZ⟩;have e3:B9 ((3:Nat):Int) 0=AF:=rfl;rw[e3];have bF:A2 A7 w (I.alloc (.cells #[.string ⟨AF.toArray⟩] 9)):=bZ.ae _;have a2:=((cD.o.an bF).Ae).c2;have a4:Hid (Cl (I.alloc (.cells #[.string ⟨AF.toArray⟩] 9)) (.slice (some (A8 I.heap.size 0)) 1 1) [AF]):=
  ⟨rfl,.inr ⟨I.heap.size,1,_,rfl,CL _,Bw I _,Aw _,by decide,rfl,rfl⟩⟩
 have cL:=A1 (dJ.o _ bF);have cX:=A1 bF;have cG:Hid (w.heap.size<=I.heap.size):=bZ.Af;go_wp2_with (fail);refine cL.o.mono ?_;rintro e w2⟨v,rfl,hv,dB,aU⟩;obtain⟨la,bO,rfl,lc1,cJ⟩:=(Cs.rd hv).BU;unfold maxLen at cJ;have dF:=A1 hv;have HLO:=A1 dB;have cT:Hid (A2 A7 w w2):=cX.o.As aU λ_ h _=>h;have a7:Hid (Cl w2 (.slice (some (A8 I.heap.size 0)) 1 1) [AF]):=Aq a4.o λg d=>aU.Ao g (Av a4.o d) (λh=>h);go_wp2;go_loopw [4,23] (λv iv wr=>∃k:Nat,iv=A0 k/\k<=lgs.length/\Hid (Cl wr v ([AF]++(lgs.take k).map Ai)/\(∀g,v.ownBlock=some g->w.heap.size<=g)/\A2 A7 w wr/\Cs wr (.slice la lgs.length bO) lgs)) (λ_ iv _=>lgs.length-(intOf iv).toNat)
 case atStart=>exact⟨0,rfl,by omega,by simpa using a7.o,λg d=>by simp[Value.ownBlock]at d;have:=cG.o;omega,cT.o,dF.o⟩
 case round=>
  obtain⟨k,rfl,hk,hI⟩:=hrel;obtain⟨W,i2,i3,i4⟩:=hI.o;obtain⟨ap,cp,rfl,aN,aG,-⟩:=AR W;unfold maxLen at aG;by_cases H:k<lgs.length
  ·obtain⟨g,o,rfl,d1⟩:=C4.at (Cs.rd i4) k H;have Y:=cO.o _ (Cx H);have U:lgs.take (k+1)=lgs.take k++[lgs[k]'H]:=D9 H;generalize bP:(lgs[k]'H)=n at d1 Y U;have V:=A1 (cI.o wr 1 n i3 (by omega) Y);rw[show ((1:Nat):Int)=1 from rfl]at V;(have aD:Hid ([AF]++(lgs.take (k+1)).map Ai=([AF]++(lgs.take k).map Ai)++[Ai n]):=by unfold Hid;rw[U];simp);have bB:B9 1 n=Ai n:=rfl;rw[bB]at V;(have bM:([AF]++(lgs.take k).map Ai).length<=4294967296:=by simp;omega);generalize O:[AF]++(lgs.take k).map Ai=z at W i2 aD bM aN;have bL:=A1 bM;(have el:([AF]++(lgs.take k).map Ai).length=z.length:=by rw[O])
   try rw[el]
   generalize b5:Ai n=nm at V aD;have bV:=A1 W;have cC:=A1 i2;have cB:=A1 i3;have cZ:=A1 i4;(have aM:(k:Int)<(lgs.length:Int):=by omega);have bY:(0:Int)<=(k:Int):=EU _;go_wp2_with (fail);refine V.o.mono ?_;rintro e w6⟨rfl,aO⟩;have bS:=A1 aO;have L:Hid ((w6.alloc (.cells #[.string ⟨nm.toArray⟩] 9)).ownsRow 0 9 1 (.slice ap z.length cp) z.length (Cd z)):=Aq bV.o λg d=>(aO.ae _).Ao g (Av bV.o d) (λh=>h)
   have aF:=A1 (Src.aW (size:=1) (B:=w6.heap.size) underlying121 w6 #[.string ⟨nm.toArray⟩] 9 (by simp) 1 1 rfl (Iu [nm]));go_wp2_with (at_builtin;refine C7 rfl (.tmp 27) (.tmp 30) 121 121 rfl 9 i0 _ 1 16 underlying121 hi aT aX aV rfl (by decide) (.slice ap z.length cp) z.length (Cd z) (by rfl) L.o _ 1 _ (by rfl) aF.o (by have:=bL.o;omega) ?_;intro a8 aB w8 J;have bA:=A1 J);go_roundw
   case rel=>
    have J:=bA.o;have k7:A2 A7 wr (w6.alloc (.cells #[.string ⟨nm.toArray⟩] 9)):=bS.o.ae _;have aE:=J.Aj (S:=λk=>(Value.slice ap z.length cp).ownBlock=some k) λ_ h=>h;have k8:A2 (λk=>(Value.slice ap z.length cp).ownBlock=some k) wr w8:=(k7.U λ_ _ h=>h.elim).As aE λ_ h _=>h;(have e:(z++[nm]).length=z.length+1:=by simp);have e2:Cd (z++[nm])=Cd z++Cd [nm]:=Iv _ _;refine⟨k+1,by go_num,by omega,?_,?_,?_,?_⟩
    ·rw[aD.o];unfold Cl;rw[e,e2];exact J.AA
    ·intro g d;rcases J.BJ with h|h
     ·rw[h]at d;exact cC.o g d
     ·rw[h]at d;cases d;have:=cB.o.Af;have:=k7.Af;have:=bS.o.Af;omega
    ·exact cB.o.As k8 λy hy aS=>by have:=cC.o y hy;omega
    ·exact Aq cZ.o λg d=>k8.Ao g (Av cZ.o d) (FL cZ.o bV.o (by decide) d)
   case measure=>simp[intOf];omega
  ·(obtain rfl:k=lgs.length:=by omega);rw[CP]at W i2;(have aM:¬((lgs.length:Int)<(lgs.length:Int)):=by omega);obtain⟨z,O⟩:∃z,[AF]++lgs.map Ai=z:=⟨_,rfl⟩;(have el:([AF]++(lgs.take lgs.length).map Ai).length=z.length:=by rw[CP,O]);rw[O]at W i2;rw[O]at aJ
   try rw[el]
   have bV:=A1 W;have cC:=A1 i2;have cB:=A1 i3;have a1:=(cD.o.an i3).Ae.c1;have x4:=(cD.o.an i3).ix.c4;have HCUR:=A1 O;go_wp2;(have bM:z.length+ss.length<=4294967296:=by have:=b0;rw[aJ.o]at this;simpa using this);go_loopw [4,41] (λv iv wr=>∃k:Nat,iv=A0 k/\k<=ss.length/\Hid (Cl wr v (z++(ss.take k).map AJ)/\(∀g,v.ownBlock=some g->w.heap.size<=g)/\A2 A7 w wr)) (λ_ iv _=>ss.length-(intOf iv).toNat)
   case atStart=>exact⟨0,rfl,by omega,by simpa using bV.o,cC.o,cB.o⟩
   case round=>
    obtain⟨k,rfl,hk,hI⟩:=hrel;obtain⟨W,i2,i3⟩:=hI.o;obtain⟨aH,aI,rfl,a9,bC,-⟩:=AR W;unfold maxLen at bC;by_cases H:k<ss.length
    ·obtain⟨g,o,rfl,d0⟩:=C4.at cP.o k H;have d1:=i3.af d0;have Y:=cU.o _ (Cx H);have U:ss.take (k+1)=ss.take k++[ss[k]'H]:=D9 H;generalize bP:(ss[k]'H)=n at d0 d1 Y U;have V:=A1 (cI.o wr 2 n i3 (by omega) Y);rw[show ((2:Nat):Int)=2 from rfl]at V;(have aD:Hid (z++(ss.take (k+1)).map AJ=(z++(ss.take k).map AJ)++[AJ n]):=by unfold Hid;rw[U];simp);have bB:B9 2 n=AJ n:=rfl;rw[bB]at V;(have aZ:(z++(ss.take k).map AJ).length<=4294967296:=by simp;omega);generalize dC:z++(ss.take k).map AJ=cu at W i2 aD aZ a9;have bL:=A1 aZ;(have el:(z++(ss.take k).map AJ).length=cu.length:=by rw[dC])
     try rw[el]
     generalize b5:AJ n=nm at V aD;have aQ:=A1 W;have aK:=A1 i2;have aR:=A1 i3;(have aM:(k:Int)<(ss.length:Int):=by omega);have bY:(0:Int)<=(k:Int):=EU _;go_wp2_with (fail);refine V.o.mono ?_;rintro e w6⟨rfl,aO⟩;have bS:=A1 aO;have L:Hid ((w6.alloc (.cells #[.string ⟨nm.toArray⟩] 9)).ownsRow 0 9 1 (.slice aH cu.length aI) cu.length (Cd cu)):=Aq aQ.o λg d=>(aO.ae _).Ao g (Av aQ.o d) (λh=>h)
     have aF:=A1 (Src.aW (size:=1) (B:=w6.heap.size) underlying121 w6 #[.string ⟨nm.toArray⟩] 9 (by simp) 1 1 rfl (Iu [nm]));go_wp2_with (at_builtin;refine C7 rfl (.tmp 45) (.tmp 48) 121 121 rfl 9 i0 _ 1 16 underlying121 hi aT aX aV rfl (by decide) (.slice aH cu.length aI) cu.length (Cd cu) (by rfl) L.o _ 1 _ (by rfl) aF.o (by have:=bL.o;omega) ?_;intro a8 aB w8 J;have bA:=A1 J);go_roundw
     case rel=>
      have J:=bA.o;have k7:A2 A7 wr (w6.alloc (.cells #[.string ⟨nm.toArray⟩] 9)):=bS.o.ae _;have aE:=J.Aj (S:=λk=>(Value.slice aH cu.length aI).ownBlock=some k) λ_ h=>h;have k8:A2 (λk=>(Value.slice aH cu.length aI).ownBlock=some k) wr w8:=(k7.U λ_ _ h=>h.elim).As aE λ_ h _=>h;(have e:(cu++[nm]).length=cu.length+1:=by simp);have e2:Cd (cu++[nm])=Cd cu++Cd [nm]:=Iv _ _;refine⟨k+1,by go_num,by omega,?_,?_,?_⟩
      ·rw[aD.o];unfold Cl;rw[e,e2];exact J.AA
      ·intro g d;rcases J.BJ with h|h
       ·rw[h]at d;exact aK.o g d
       ·rw[h]at d;cases d;have:=aR.o.Af;have:=k7.Af;have:=bS.o.Af;omega
      ·exact aR.o.As k8 λy hy aS=>by have:=aK.o y hy;omega
     case measure=>simp[intOf];omega
    ·(obtain rfl:k=ss.length:=by omega);rw[CP,<-aJ.o]at W i2;(have aM:¬((ss.length:Int)<(ss.length:Int)):=by omega);(have el:(z++(ss.take ss.length).map AJ).length=E.length:=by rw[CP,aJ.o])
     try rw[el]
     have dM:=A1 (OH wr _ E W (by omega));have aK:=A1 i2;have aR:=A1 i3;go_wp2_with (fail);refine dM.o.mono ?_;rintro e w3⟨rfl,cF,aU⟩;(have cY:Hid (A2 A7 w w3):=aR.o.As aU λy hy aS=>by have:=aK.o y hy;omega);have cV:Hid (Es w3 (.slice aH E.length aI) (GI E)):=Cl.rd cF;have cN:=A1 (dI.o w3 cY.o);have a0:=(cD.o.an cY.o).Ae.c0;go_wp2_with (fail);refine cN.o.mono ?_;rintro e w4⟨v,rfl,bU,b1,hvo4⟩;obtain⟨na,ncap,rfl,nc1,cM⟩:=(Cl.rd bU).BU;unfold maxLen at cM;have cS:=A1 (Cl.rd bU);have cH:Hid (A2 A7 w w4):=cY.o.As b1 λ_ h _=>h;have bG:=A1 (cV.o.Aj b1 (λ_ _ h=>h));have a5:Hid (∀x,decide (x∈GI E)=decide (x∈E)):=λx=>by
      by_cases h:x∈E
      ·rw[Cc h,Cc ((My E x).2 h)]
      ·rw[Cj h,Cj λh'=>h ((My E x).1 h')]
     have a6:=RB E;have a3:=RA E;generalize hSN:GI E=SN at bG a5 a6 a3;have bX:=A1 a6;obtain⟨sn,bW⟩:∃sn,E.length=sn:=⟨_,rfl⟩
     try rw[bW]
     rw[bW]at bG a3;(have hsnl:sn<=4294967296:=by omega);have dG:Hid (∀wx x,A2 A7 w4 wx->Ac 138 #[.slice aH sn aI,.string ⟨x.toArray⟩] wx λe w'=>∃i,e=.returned (.tuple #[A0 i,.bool (decide (x∈E))])/\∃q,w'=wx.drewN q):=λwx x hx=>by
      have:=Sw wx _ SN x (bG.o.Aj hx (λ_ _ h=>h)) (by omega) bX.o;rw[a5.o x]at this;exact this
     have bR:ns.length<=1073741824:=dA;have b9:Hid (∀p:Bs->Bool,∀k,((ns.take k).filter p).length<=1073741824):=λp k=>Az (Ny _ _) (Az (List.length_take_le' _ _) bR);go_wp2;go_loopw [9,10,59] (λv1 v2 iv wr=>∃k:Nat,iv=A0 k/\k<=ns.length/\Hid (Cl wr v1 ((ns.take k).filter λnm=>decide (nm∈E))/\Cl wr v2 ((ns.take k).filter λnm=>!decide (nm∈E))/\(∀g,v1.ownBlock=some g->w4.heap.size<=g)/\(∀g,v2.ownBlock=some g->w4.heap.size<=g)/\(∀g,v1.ownBlock=some g->¬v2.ownBlock=some g)/\A2 A7 w4 wr)) (λ_ _ iv _=>ns.length-(intOf iv).toNat)
     case atStart=>exact⟨0,rfl,by omega,BW _ _ _ _,BW _ _ _ _,λg d=>by simp[Value.ownBlock]at d,λg d=>by simp[Value.ownBlock]at d,λg d=>by simp[Value.ownBlock]at d,A2.C _ _⟩
     case round=>
      obtain⟨k,rfl,hk,hI⟩:=hrel;obtain⟨W,i2,i3,i4,i5,i6⟩:=hI.o;obtain⟨ap,cp,rfl,aN,aG,-⟩:=AR W;obtain⟨aq,cq,rfl,hcaq1,bI,-⟩:=AR i2;unfold maxLen at aG bI;by_cases H:k<ns.length
      ·obtain⟨g,o,rfl,d0⟩:=Es.at cS.o k H;have d1:=i6.af d0;have U:ns.take (k+1)=ns.take k++[ns[k]'H]:=D9 H;generalize bP:(ns[k]'H)=nm at d0 d1 U;have aW:=A1 (dG.o wr nm i6);have aP:Hid ((ns.take (k+1)).filter (λnm=>decide (nm∈E))=(ns.take k).filter (λnm=>decide (nm∈E))++(if nm∈E then [nm] else [])):=by
        unfold Hid;rw[U,Ht];by_cases hx:nm∈E<;>simp[hx]
       have aL:Hid ((ns.take (k+1)).filter (λnm=>!decide (nm∈E))=(ns.take k).filter (λnm=>!decide (nm∈E))++(if nm∈E then [] else [nm])):=by
        unfold Hid;rw[U,Ht];by_cases hx:nm∈E<;>simp[hx]
       have b4:=A1 (b9.o (λnm=>decide (nm∈E)) k);have b6:=A1 (b9.o (λnm=>!decide (nm∈E)) k);obtain⟨l1,bQ⟩:∃l1,(ns.take k).filter (λnm=>decide (nm∈E))=l1:=⟨_,rfl⟩;obtain⟨Z,b7⟩:∃Z,(ns.take k).filter (λnm=>!decide (nm∈E))=Z:=⟨_,rfl⟩;rw[bQ]at aP b4 W i3 i5;rw[b7]at aL b6 i2 i4 i5;(have bK:((ns.take k).filter (λnm=>decide (nm∈E))).length=l1.length:=by rw[bQ]);(have bH:((ns.take k).filter (λnm=>!decide (nm∈E))).length=Z.length:=by rw[b7])
       try rw[bK]
       try rw[bH]
       have aQ:=A1 W;have aK:=A1 i2;have aR:=A1 i3;have cA:=A1 i4;have cE:=A1 i5;have bN:=A1 i6;(have aM:(k:Int)<(ns.length:Int):=by omega);have bY:(0:Int)<=(k:Int):=EU _;by_cases hx:nm∈E
       ·rw[Cc hx]at aW;rw[Am hx]at aP aL;go_wp2_with (fail);refine aW.o.mono ?_;rintro e w6⟨i,rfl,q,rfl⟩;have L:Hid (((wr.drewN q).alloc (.cells #[.string ⟨nm.toArray⟩] 9)).ownsRow 0 9 1 (.slice ap l1.length cp) l1.length (Cd l1)):=Aq aQ.o λg d=>(((A2.C A7 wr).aU q).ae _).Ao g (Av aQ.o d) (λh=>h)
        have aF:=A1 (Src.aW (size:=1) (B:=(wr.drewN q).heap.size) underlying121 (wr.drewN q) #[.string ⟨nm.toArray⟩] 9 (by simp) 1 1 rfl (Iu [nm]));have b3:Hid (A2 A7 wr ((wr.drewN q).alloc (.cells #[.string ⟨nm.toArray⟩] 9))):=((A2.C A7 wr).aU q).ae _;go_wp2_with (at_builtin;refine C7 rfl (.tmp 70) (.tmp 72) 121 121 rfl 9 i0 _ 1 16 underlying121 hi aT aX aV rfl (by decide) (.slice ap l1.length cp) l1.length (Cd l1) (by rfl) L.o _ 1 _ (by rfl) aF.o (by have:=b4.o;omega) ?_;intro a8 aB w8 J;have bA:=A1 J);go_roundw
        case rel=>
         have J:=bA.o;have aE:=J.Aj (S:=λk=>(Value.slice ap l1.length cp).ownBlock=some k) λ_ h=>h;have k8:A2 (λk=>(Value.slice ap l1.length cp).ownBlock=some k) wr w8:=(b3.o.U λ_ _ h=>h.elim).As aE λ_ h _=>h;(have e:(l1++[nm]).length=l1.length+1:=by simp);have e2:Cd (l1++[nm])=Cd l1++Cd [nm]:=Iv _ _;have aA:∀g,(Value.slice a8 (l1.length+1) aB).ownBlock=some g->(Value.slice ap l1.length cp).ownBlock=some g\/wr.heap.size<=g:=λg d=>by
          rcases J.BJ with h|h
          ·rw[h]at d;exact .inl d
          ·rw[h]at d;cases d;exact .inr b3.o.Af
         refine⟨k+1,by go_num,by omega,?_,?_,?_,cA.o,?_,?_⟩
         ·rw[aP.o];unfold Cl;rw[e,e2];exact J.AA
         ·rw[aL.o,EI];exact Aq aK.o λg d=>k8.Ao g (Av aK.o d) λh=>cE.o g h d
         ·exact λg d=>(aA g d).elim (aR.o g) λh=>Az bN.o.Af h
         ·exact λg d aY=>(aA g d).elim (λh=>cE.o g h aY) λh=>by have:=Av aK.o aY;omega
         ·exact bN.o.As k8 λy hy aS=>by have:=aR.o y hy;omega
        case measure=>simp[intOf];omega
       ·rw[Cj hx]at aW;rw[Ad hx]at aP aL;go_wp2_with (fail);refine aW.o.mono ?_;rintro e w6⟨i,rfl,q,rfl⟩;have L:Hid (((wr.drewN q).alloc (.cells #[.string ⟨nm.toArray⟩] 9)).ownsRow 0 9 1 (.slice aq Z.length cq) Z.length (Cd Z)):=Aq aK.o λg d=>(((A2.C A7 wr).aU q).ae _).Ao g (Av aK.o d) (λh=>h)
        have aF:=A1 (Src.aW (size:=1) (B:=(wr.drewN q).heap.size) underlying121 (wr.drewN q) #[.string ⟨nm.toArray⟩] 9 (by simp) 1 1 rfl (Iu [nm]));have b3:Hid (A2 A7 wr ((wr.drewN q).alloc (.cells #[.string ⟨nm.toArray⟩] 9))):=((A2.C A7 wr).aU q).ae _;go_wp2_with (at_builtin;refine C7 rfl (.tmp 74) (.tmp 76) 121 121 rfl 9 i0 _ 1 16 underlying121 hi aT aX aV rfl (by decide) (.slice aq Z.length cq) Z.length (Cd Z) (by rfl) L.o _ 1 _ (by rfl) aF.o (by have:=b6.o;omega) ?_;intro a8 aB w8 J;have bA:=A1 J);go_roundw
        case rel=>
         have J:=bA.o;have aE:=J.Aj (S:=λk=>(Value.slice aq Z.length cq).ownBlock=some k) λ_ h=>h;have k8:A2 (λk=>(Value.slice aq Z.length cq).ownBlock=some k) wr w8:=(b3.o.U λ_ _ h=>h.elim).As aE λ_ h _=>h;(have e:(Z++[nm]).length=Z.length+1:=by simp);have e2:Cd (Z++[nm])=Cd Z++Cd [nm]:=Iv _ _;have aA:∀g,(Value.slice a8 (Z.length+1) aB).ownBlock=some g->(Value.slice aq Z.length cq).ownBlock=some g\/wr.heap.size<=g:=λg d=>by
          rcases J.BJ with h|h
          ·rw[h]at d;exact .inl d
          ·rw[h]at d;cases d;exact .inr b3.o.Af
         refine⟨k+1,by go_num,by omega,?_,?_,aR.o,?_,?_,?_⟩
         ·rw[aP.o,EI];exact Aq aQ.o λg d=>k8.Ao g (Av aQ.o d) λh=>cE.o g d h
         ·rw[aL.o];unfold Cl;rw[e,e2];exact J.AA
         ·exact λg d=>(aA g d).elim (cA.o g) λh=>Az bN.o.Af h
         ·exact λg d aY=>(aA g aY).elim (λh=>cE.o g d h) λh=>by have:=Av aQ.o d;omega
         ·exact bN.o.As k8 λy hy aS=>by have:=cA.o y hy;omega
        case measure=>simp[intOf];omega
      ·(obtain rfl:k=ns.length:=by omega);rw[CP,<-bJ.o]at W i3;rw[CP,<-bD.o]at i2 i4;(have bK:((ns.take ns.length).filter (λnm=>decide (nm∈E))).length=dL.length:=by rw[CP,<-bJ.o]);(have bH:((ns.take ns.length).filter (λnm=>!decide (nm∈E))).length=dK.length:=by rw[CP,<-bD.o])
       try rw[bK]
       try rw[bH]
       have aQ:=A1 W;have aK:=A1 i2;have aR:=A1 i3;have cA:=A1 i4;have bN:=A1 i6;(have aM:¬((ns.length:Int)<(ns.length:Int)):=by omega);go_wp2;go_ret2;exact⟨_,_,rfl,aQ.o,aK.o,λg d=>Az cH.o.Af (aR.o g d),λg d=>Az cH.o.Af (cA.o g d),cH.o.As bN.o λ_ h _=>h⟩
end
section
variable {w:World} {ab b xb jb B:Nat} {sv ov lv jo:Value} {A:Ar} {P:PD} {Ft FT:Nat->Prop} {a c m:Nat}
def RZ(h:B4 w b P Ft)(nm:Bs)(z:Fit P a c m)(y:BL a c m):
 Ac 193 #[A4 b,.string ⟨nm.toArray⟩] w (Ak (A0 (P.aL (Aa nm)).1) λw'=>Al w Ft w' (λw' d=>B4 w' b (P.aL (Aa nm)).2 d)):=
 Pm h (Aa nm) (by have:=z.A3;have:=z.Aj;have:=y.a;have:=y.c;omega)
def removeAll_cons(nm:Bs)(r:List Bs)(P:PD):PD.aS (nm::r) P=if (P.aL (Aa nm)).1≠0 then P.aL (Aa nm) else PD.aS r (P.aL (Aa nm)).2:=rfl
def LC(A:Ar)(P:PD)(h:Fit P a c m):(A.aY P).length<=a:=by
 unfold Ar.aY;exact Az (Ny _ _) (by rw[GA];exact h.A3)
def KT(w:World)(h:AD w ab b A P FT)(hF:Fit P a c m)(hl:BL a (c+a) m)(hn:∀n∈A.ix.A6,By n)(aS:∀n∈A.j.Ah,By n)(aN:A.ix.A6.length<=1073741824)(aQ:A.j.Ah.length<=1073741824)(hL:Lets B w):
 Ac 150 #[A4 ab] w (Ak (A0 (A.ax P).1) λw'=>Al w FT w' (λw' aM=>AD w' ab b A (A.ax P).2 aM)):=by
 obtain⟨xb,jb,sv,ov,lv,jo,Ft,hV,aD⟩:=h;have a0:=A1 (Lz w hV hF ⟨hl.a,by have:=hl.c;omega,hl.m⟩ hn aS aN aQ hL);have hol:=LC A P hF;have aW:=A1 hV;have E:=A1 aD;have aX:Hid (A.ax P=PD.aS (A.aY P) P):=rfl;have aY:=A1 removeAll_cons;generalize hR:A.ax P=R at aX ⊢;have aU:=A1 hF;have W:=A1 hl;generalize A.aY P=os at *
 go_enter func150,ntmps150
 go_wp2_with (fail);refine a0.m ?_;rintro e w1⟨v1,v2,rfl,-,h2,-,aP,aF⟩;obtain⟨oa,ocap,rfl,oc1,aV⟩:=(Cl.rd h2).BU;unfold maxLen at aV;have aO:=A1 (Cl.rd h2);have aT:=A1 aP;have aA:=A1 aF;have y:=A1 (aW.o.an aF);go_wp2;go_loopw [15] (λiv wr=>∃(k:Nat),iv=A0 k/\k<=os.length/\Hid (∃z,Al w1 Ft wr (λw' d=>Bu w' ab b xb jb sv ov lv jo A z d)/\Fit z a (c+k) m/\R=PD.aS (os.drop k) z)) (λiv _=>os.length-(intOf iv).toNat)
 case atStart=>exact⟨0,rfl,by omega,P,⟨A2.C _ _,Ft,y.o,y.o.lt,λk hk=>.inl hk⟩,aU.o,aX.o⟩
 case round=>
  obtain⟨k,rfl,hk,hI⟩:=hrel;obtain⟨z,hi,hf,hx⟩:=hI.o;obtain⟨c1,aB,hv,aJ,s1⟩:=hi;by_cases U:k<os.length
  ·obtain⟨g,o,rfl,d0⟩:=Es.at aO.o k U;have d1:=c1.bq d0 (λh=>by have:=aW.o.lt _ h;have:=aT.o g rfl;have h':g<w.heap.size:=aW.o.lt _ h;omega);have aE:=EH U;generalize hne:(os[k]'U)=nm at d0 d1 aE;rw[aE,aY.o]at hx;have e0:=hv.Ae.c0;have aI:BL a (c+k) m:=⟨W.o.a,by have:=W.o.c;omega,W.o.m⟩;have aG:=A1 (RZ hv.dk nm hf aI);(have Z:Hid (Fit (z.aL (Aa nm)).2 a (c+(k+1)) m):=by have:=hf.aL (Aa nm);exact this);generalize hY:z.aL (Aa nm)=Y at aG hx Z;have O:Hid (∀J,Al wr aB J (λw' d=>B4 w' b Y.2 d)->Al w1 Ft J (λw' d=>Bu w' ab b xb jb sv ov lv jo A Y.2 d)):=λJ h6=>Al.aZ c1 s1 (hv.bN h6);have V:=A1 hx;(have aK:(k:Int)<(os.length:Int):=by omega);have hk0:=C3 k;obtain⟨aH,aL⟩:=Y;dsimp only at aG O V Z;by_cases hy:aH=0
   case neg=>
    (have H:R=(aH,aL):=by rw[V.o,Am hy]);subst H;(have hyb:(aH !=0)=true:=by simpa using hy);go_wp2_with (go_at_call 193;refine aG.m ?_;rintro e J⟨rfl,L⟩;have I:=A1 (O.o J L));go_ret;exact⟨rfl,(y.o.bM E.o I.o).aN aA.o⟩
   case pos=>
    subst hy;(have aR:Hid (R=PD.aS (os.drop (k+1)) aL):=by unfold Hid;rw[V.o,Ad (by simp)]);go_wp2_with (go_at_call 193;refine aG.m ?_;rintro e J⟨rfl,L⟩;have I:=A1 (O.o J L));go_roundw
    case rel=>exact⟨k+1,by go_num,by omega,aL,I.o,Z.o,aR.o⟩
    case measure=>simp[intOf];omega
  ·(obtain rfl:k=os.length:=by omega);rw[Fz]at hx;have H:R=(0,z):=hx;subst H;(have aK:¬((os.length:Int)<(os.length:Int)):=by omega);have aZ:Hid (Al w1 Ft wr (λw' d=>Bu w' ab b xb jb sv ov lv jo A z d)):=⟨c1,aB,hv,aJ,s1⟩;go_wp2;go_ret;exact⟨rfl,(y.o.bM E.o aZ.o).aN aA.o⟩
def R6{nm:Bs}{s:Nat}{f0:Int}{z:List Int}(w:World)(h:Bh w xb 162 b nm s f0 sv)(L:C4 w sv z)(H:Value)(l:List Int)(J:C4 w H l)(y:Int):
 Ac 198 #[A4 xb,A0 y,H] w (Ak (.bool (decide (f0=y/\z=l))) λw'=>∃q,w'=w.drewN q):=by
 have c3:=h.c3;have c4:=h.c4;have I:=A1 (RQ w sv H z l L J);obtain⟨ka,kcap,rfl,k1,k2⟩:=J.BU;obtain⟨sa,scap,rfl,s1,s2⟩:=L.BU;by_cases E:f0=y
 ·subst E;have e:decide (f0=f0/\z=l)=decide (z=l):=by simp
  rw[e];generalize hd:decide (z=l)=d at I ⊢
  go_enter func198,ntmps198
  go_wp2_with (go_at_call 241;refine I.m ?_;rintro e w2⟨rfl,q,rfl⟩);go_ret;exact⟨rfl,q,rfl⟩
 ·have e:decide (f0=y/\z=l)=false:=Cj λh=>E h.1;rw[e];have hb:(f0==y)=false:=by simpa using E
  go_enter func198,ntmps198
  go_wp2;go_ret;exact⟨rfl,0,rfl⟩
def Bu.cN{w':World}{P':PD}{W:Int}{z:Value}{y:List Int}(h:Bu w ab b xb jb sv ov lv jo A P Ft)(L:Bh w' xb 162 b AF (AB AF) W z)(hr:C4 w' z y)(hI:Gl w Ft xb w' b P')(I:∀g,z.ownBlock=some g->sv.ownBlock=some g\/(g<w.heap.size/\¬Ft g/\¬El ab xb jb sv ov lv jo g)):
 ∃H,Bu w' ab b xb jb z ov lv jo {A with ix:=⟨W,y⟩} P' H/\A2 (λk=>Ft k\/k=xb) w w'/\∀k,H k->Ft k\/w.heap.size<=k:=by
 obtain⟨V,H,Y,h3,U⟩:=hI;have key:∀k,El ab xb jb sv ov lv jo k->k≠xb->w'.heap[k]?=w.heap[k]?:=λk d O=>V.Ao k (h.bl d) λL=>L.elim (h.Cg k d) O;have Z:∀g,z.ownBlock=some g->g≠ab/\g≠xb/\¬C9 jb lv jo g:=λg E=>by
  rcases I g E with E|⟨_,_,E⟩
  ·exact h.DP g E
  ·exact⟨λe=>E (.inl e),λe=>E (.inr (.inl e)),λe=>E (.inr (.inr (.inr (.inr e))))⟩
 refine⟨H,⟨(key ab (.inl rfl) h.ne).trans h.Ae,L,hr,h.AS.aq λg E=>key g (.inr (.inr (.inr (.inl E)))) (h.Ep g E).2.1,h.jn.aq λk d=>key k (.inr (.inr (.inr (.inr d)))) (h.E0 k d).2,Y,h3,?_,Z,h.Ep,h.E0⟩,V,U⟩;intro k d L;rcases U k L with J|J
 ·rcases d with d|d|d|d|d
  ·exact h.Cg k (.inl d) J
  ·exact h.Cg k (.inr (.inl d)) J
  ·rcases I k d with d|⟨_,d,_⟩
   ·exact h.Cg k (.inr (.inr (.inl d))) J
   ·exact d J
  ·exact h.Cg k (.inr (.inr (.inr (.inl d)))) J
  ·exact h.Cg k (.inr (.inr (.inr (.inr d)))) J
 ·have:k<w.heap.size:=by
   rcases d with d|d|d|d|d
   ·exact h.bl (.inl d)
   ·exact h.bl (.inr (.inl d))
   ·rcases I k d with d|⟨d,_⟩
    ·exact h.bl (.inr (.inr (.inl d)))
    ·exact d
   ·exact h.bl (.inr (.inr (.inr (.inl d))))
   ·exact h.bl (.inr (.inr (.inr (.inr d))))
  omega
def Bu.dV{w':World}{lv' H:Value}{O:Jn}(h:Bu w ab b xb jb sv ov lv jo A P Ft)(W:Cy w' jb b lv' H O)(U:A2 (One jb) w w')(I:lv'.ownBlock=none)(J:H=.pointer none):Bu w' ab b xb jb sv ov lv' H {A with j:=O} P Ft:=by
 have key:∀k,k≠jb->k<w.heap.size->w'.heap[k]?=w.heap[k]?:=λk d V=>U.Ao k V d;have z:∀k,C9 jb lv' H k->k=jb:=λk d=>by
  rcases d with h|h|h
  ·exact h
  ·rw[I]at h;cases h
  ·rw[J]at h;cases h
 have E:C9 jb lv jo jb:=.inl rfl
 refine⟨(key ab (λe=>(h.E0 jb E).1 e.symm) h.Ae.lt).trans h.Ae,(key xb (λe=>(h.E0 jb E).2 e.symm) h.ix.lt).trans h.ix,h.A6.aq λg y=>key g (λe=>(h.DP g y).2.2 (e ▸ E)) (h.A6.lt y),h.AS.aq λg y=>key g (λe=>(h.Ep g y).2.2 (e ▸ E)) (h.AS.lt y),W,
  AP.aq h.dk λk d=>key k (λe=>by subst e;exact h.Cg _ (.inr (.inr (.inr (.inr E)))) d) (h.lt k d),λk d=>Bc (h.lt k d) U.Af,?_,λg y=>?_,λg y=>?_,λk d=>?_⟩
 ·intro k d;rcases d with d|d|d|d|d
  ·exact h.Cg k (.inl d)
  ·exact h.Cg k (.inr (.inl d))
  ·exact h.Cg k (.inr (.inr (.inl d)))
  ·exact h.Cg k (.inr (.inr (.inr (.inl d))))
  ·rw[z k d];exact h.Cg jb (.inr (.inr (.inr (.inr E))))
 ·exact⟨(h.DP g y).1,(h.DP g y).2.1,λL=>(h.DP g y).2.2 (by rw[z g L];exact E)⟩
 ·exact⟨(h.Ep g y).1,(h.Ep g y).2.1,λL=>(h.Ep g y).2.2 (by rw[z g L];exact E)⟩
 ·rw[z k d];exact h.E0 jb E
def SM(w:World)(h:AD w ab b A P FT)(kv:Value)(l:List Int)(z:C4 w kv l)(aX:∀g,kv.ownBlock=some g->¬FT g)(hr:AE (A.j.A9+1))(aR:∀x∈l,AE x)(aS:l.length<=134217728)(hF:Fit P a c m)(hl:BL (a+2) (c+2) (m+12+8*l.length))(hL:Lets B w):
 Ac 152 #[A4 ab,kv] w (Ak (A0 (A.ag P l).1) λw'=>Al w (λk=>FT k\/kv.ownBlock=some k) w' (λw' aQ=>AD w' ab b (A.ag P l).2.1 (A.ag P l).2.2 aQ)):=by
 obtain⟨xb,jb,sv,ov,lv,jo,Ft,J,aL⟩:=h
 have aK:Hid (A.ag P l=if A.ix.BR=A.j.A9+1/\A.ix.A6=l then (0,A,P) else
  if (P.ag (A.j.A9+1) l).1≠0 then ((P.ag (A.j.A9+1) l).1,A,(P.ag (A.j.A9+1) l).2) else
  (0,{A with ix:=⟨A.j.A9+1,l⟩,j:=⟨[],A.j.A9,0,none⟩},(P.ag (A.j.A9+1) l).2)):=rfl
 have aV:Hid (∀V,A2 A7 w V->_):=λV U=>LN V (J.jn.an U) hr;have aI:Hid (∀V,A2 A7 w V->_):=λV U=>R6 V (J.ix.Ap U (λh=>h)) (J.A6.Aj U (λ_ _ h=>h)) kv l (z.Aj U (λ_ _ h=>h)) (A.j.A9+1);have aP:Hid (∀V,A2 A7 w V->_):=λV U=>Od V (A.j.A9+1) A.ix.BR kv sv l (J.ix.Ap U (λh=>h)) (AP.au J.dk J.lt U) (λk z=>Bc (J.lt k z) U.Af) (J.Cg xb (.inr (.inl rfl))) hF hl (hL.ao U) (z.Aj U (λ_ _ h=>h)) hr aR aS;obtain⟨ka,E,rfl,k1,k2⟩:=z.BU;have aZ:=A1 J;have d:=A1 aL;have a0:=A1 z;have aJ:=A1 aX;generalize hR:A.ag P l=R at aK ⊢;generalize hT:P.ag (A.j.A9+1) l=T at aK aP;generalize hLL:A.j.A9+1=L at aK aV aI aP;have HB:=A1 J.Ae;have d1:=J.Ae.I.c1;have d2:=J.Ae.I.c2;have aM:=A1 (aV.o w.drew (A2.C _ w).I);by_cases y:A.ix.BR=L/\A.ix.A6=l
 case pos=>
  have Y:R=(0,A,P):=by rw[aK.o,Am y]
  subst Y;rw[Cc y]at aI;have aD:=A1 (aI.o w.drew (A2.C _ w).I)
  go_enter func152,ntmps152
  go_wp2;refine BH (λw'=>A5 w' ab 1 (A4 xb)/\A5 w' ab 2 (A4 jb)) 10
   (Bj [0,1,2,3,4,5,6,7,9,8] [8]) ⟨d1,d2⟩ ?_
  iterate 9 (refine B5 ?_;(try simp only[An]))
  refine B7 λK W=>?_;go_simp;refine aM.m ?_;rintro e w3⟨rfl,rfl⟩;refine W _ _ ⟨d1,d2⟩ (λhS=>?_)
  (try simp only[An])
  refine Bd ?_;simp only[BD,BC];go_wp2_with (go_at_call 198;refine aD.m ?_;rintro e w4⟨rfl,q,rfl⟩);go_ret;have kq:=(A2.C A7 w).aU (1+q);exact⟨rfl,Bu.bj (FT:=λk=>FT k\/(Value.slice ka l.length E).oB k) (aZ.o.an kq) kq (λ_ _ h=>h.elim) (λk z=>.inl (.inl (d.o k (.inl z)))) λk z=>.inl (.inl (d.o k (.inr z)))⟩
 case neg=>
  rw[Cj y]at aI;have aD:=A1 (aI.o w.drew (A2.C _ w).I);have aF:Hid (R=if T.1≠0 then (T.1,A,T.2) else (0,{A with ix:=⟨L,l⟩,j:=⟨[],A.j.A9,0,none⟩},T.2)):=by unfold Hid;rw[aK.o,Ad y]
  go_enter func152,ntmps152
  go_wp2;refine BH (λw'=>A5 w' ab 1 (A4 xb)/\A5 w' ab 2 (A4 jb)) 10
   (Bj [0,1,2,3,4,5,6,7,9,8] [8]) ⟨d1,d2⟩ ?_
  iterate 9 (refine B5 ?_;(try simp only[An]))
  refine B7 λK W=>?_;go_simp;refine aM.m ?_;rintro e w3⟨rfl,rfl⟩;refine W _ _ ⟨d1,d2⟩ (λhS=>?_)
  (try simp only[An])
  refine Bd ?_;simp only[BD,BC];go_wp2_with (fail);refine aD.m ?_;rintro e w4⟨rfl,q,rfl⟩;have k4:A2 A7 w (w.drewN (1+q)):=(A2.C A7 w).aU (1+q);have a1:=aZ.o.an k4;have x1:=a1.Ae.I.c1;have x2:=a1.Ae.I.c2;have O:=A1 (aZ.o.an k4.I);have aE:=A1 k4.I;have Z:=A1 (aP.o _ k4.I);have aB:=A1 (aV.o _ k4.I);go_wp2;generalize w.drewN (1+q)=w4 at O aE Z aB x1 x2 ⊢;obtain⟨aW,a2⟩:=T;dsimp only at Z aF;have aA:Hid (ab≠xb/\¬Ft ab):=⟨O.o.ne,O.o.Cg ab (.inl rfl)⟩;by_cases ht:aW=0
  case neg=>
   (have Y:R=(aW,A,a2):=by rw[aF.o,Am ht]);subst Y;(have htb:(aW !=0)=true:=by simpa using ht);refine BH (λw'=>A5 w' ab 1 (A4 xb)/\A5 w' ab 2 (A4 jb)) 11
    (Bj [0,1,2,3,4,5,6,7,9,8,10] [8,10]) ⟨x1,x2⟩ ?_
   iterate 9 (refine B5 ?_;(try simp only[An]))
   refine B7 λK W=>?_;go_simp;refine aB.m ?_;rintro e w3⟨rfl,rfl⟩;refine W _ _ ⟨x1,x2⟩ (λhS=>?_)
   (try simp only[An])
   refine B7 λK W=>?_;go_simp;refine Z.m ?_;rintro e w6⟨rfl,hx,hI⟩;have b6:C0 w6 ab b xb jb A.A9 ov:=O.o.Ae.Ap hI.1 λh=>h.elim aA.o.2 aA.o.1;refine W _ _ ⟨b6.c1,b6.c2⟩ (λhS=>?_);rw[Ad ht,Ad ht]at hx;have aN:=A1 (O.o.cN hx (O.o.A6.aq λg H=>hI.1.Ao g (O.o.A6.lt H) λh=>h.elim (O.o.Cg g (.inr (.inr (.inl H)))) (O.o.DP g H).2.1) hI λg H=>.inl H)
   (try simp only[An])
   refine Bd ?_;simp only[BD,BC];go_wp2;go_ret;obtain⟨aH,h1,h2,h3⟩:=aN.o;have aU:A2 (λk=>Ft k\/k=xb) w w6:=(aE.o.U (S':=λk=>Ft k\/k=xb) λ_ _ h=>h.elim).tr h2;refine⟨rfl,Bu.bj (FT:=λk=>FT k\/(Value.slice ka l.length E).oB k) h1 aU ?_ ?_ ?_⟩
   ·rintro k _ (h|rfl)
    ·exact .inl (d.o k (.inl h))
    ·exact .inl (d.o _ (.inr (.inr (.inl rfl))))
   ·exact λk z=>(h3 k z).imp (λh=>.inl (d.o k (.inl h))) λh=>Az aE.o.Af h
   ·exact λk z=>.inl (.inl (d.o k (.inr z)))
  case pos=>
   subst ht;(have Y:R=(0,{A with ix:=⟨L,l⟩,j:=⟨[],A.j.A9,0,none⟩},a2):=by rw[aF.o,Ad (by simp)]);subst Y;have I:Hid (∀g,(Value.slice ka l.length E).oB g->g<w4.drew.heap.size/\¬Ft g/\¬El ab xb jb sv ov lv jo g):=λg H=>⟨Bc (a0.o.lt H) aE.o.Af,λh=>aJ.o g H (d.o g (.inl h)),λh=>aJ.o g H (d.o g (.inr h))⟩
   refine BH (λw'=>A5 w' ab 1 (A4 xb)/\A5 w' ab 2 (A4 jb)) 11
    (Bj [0,1,2,3,4,5,6,7,9,8,10] [8,10]) ⟨x1,x2⟩ ?_
   iterate 9 (refine B5 ?_;(try simp only[An]))
   refine B7 λK W=>?_;go_simp;refine aB.m ?_;rintro e w3⟨rfl,rfl⟩;refine W _ _ ⟨x1,x2⟩ (λhS=>?_)
   (try simp only[An])
   refine B7 λK W=>?_;go_simp;refine Z.m ?_;rintro e w6⟨rfl,hx,hI⟩;have b6:C0 w6 ab b xb jb A.A9 ov:=O.o.Ae.Ap hI.1 λh=>h.elim aA.o.2 aA.o.1;refine W _ _ ⟨b6.c1,b6.c2⟩ (λhS=>?_);rw[Am rfl,Am rfl]at hx;have aT:C4 w6 (.slice ka l.length E) l:=(a0.o.Aj aE.o (λ_ _ h=>h)).aq λg H=>hI.1.Ao g (I.o g H).1 λh=>h.elim (I.o g H).2.1 λe=>(I.o g H).2.2 (.inr (.inl e))
   have aN:=A1 (O.o.cN hx aT hI λg H=>.inr (I.o g H));have d2:=b6.c2
   (try simp only[An])
   refine Bd ?_;simp only[BD,BC];obtain⟨aH,h1,h2,h3⟩:=aN.o;have a6:=A1 (QJ w6 h1.jn);have a5:=A1 h1;have a4:Hid (A2 (λk=>Ft k\/k=xb) w w6):=(aE.o.U (S':=λk=>Ft k\/k=xb) λ_ _ h=>h.elim).tr h2;have a3:Hid (∀k,aH k->Ft k\/w.heap.size<=k):=λk z=>(h3 k z).imp id λh=>Az aE.o.Af h
   go_wp2_with (go_at_call 201;refine a6.m ?_;rintro e w7⟨rfl,hj,aO⟩;have a7:=A1 hj;have aG:=A1 aO);go_ret;have aY:=a5.o.dV a7.o aG.o (by simp[Value.ownBlock]) rfl;refine⟨rfl,Bu.bj (FT:=λk=>FT k\/(Value.slice ka l.length E).oB k) (S:=λk=>(Ft k\/k=xb)\/k=jb) aY ((a4.o.U λ_ _ h=>.inl h).As aG.o λ_ h _=>.inr h) ?_ ?_ ?_⟩
   ·rintro k _ ((h|rfl)|rfl)
    ·exact .inl (d.o k (.inl h))
    ·exact .inl (d.o _ (.inr (.inr (.inl rfl))))
    ·exact .inl (d.o _ (.inr (.inr (.inr (.inr (.inr (.inl rfl)))))))
   ·exact λk z=>(a3.o k z).imp (λh=>.inl (d.o k (.inl h))) id
   ·rintro k (h|h|h|h|h)
    ·exact .inl (.inl (d.o k (.inr (.inl h))))
    ·exact .inl (.inl (d.o k (.inr (.inr (.inl h)))))
    ·exact .inl (.inr h)
    ·exact .inl (.inl (d.o k (.inr (.inr (.inr (.inr (.inl h)))))))
    ·rcases h with h|h|h
     ·exact .inl (.inl (d.o k (.inr (.inr (.inr (.inr (.inr (.inl h))))))))
     ·simp[Value.ownBlock]at h
     ·cases h
end
def Fit.aJ{a c m:Nat}:∀(l:List Bs) (P:PD),Fit P a c m->Fit (PD.aJ l P).2 a c m
 | [],P,h=>h
 | nm::r,P,h=>by
  rw[KS];split
  ·exact h.az _
  ·exact Fit.aJ r _ (h.az _)
def Fit.ah{A:Ar}{P:PD}{a c m:Nat}(h:Fit P a c m):Fit (A.ah P).2.2 a c m:=by
 unfold Ar.ah;split
 ·exact h.aJ _ _
 ·exact h.aJ _ _
def Fit.aS{a m:Nat}:∀(l:List Bs) (P:PD) (c:Nat),Fit P a c m->Fit (PD.aS l P).2 a (c+l.length) m
 | [],P,c,h=>h
 | nm::r,P,c,h=>by
  rw[removeAll_cons];split
  ·exact(h.aL _).U (Aw _) (by simp) (Aw _)
  ·exact(Fit.aS r _ _ (h.aL _)).U (Aw _) (by simp;omega) (Aw _)
def Fit.ax{A:Ar}{P:PD}{a c m:Nat}(h:Fit P a c m):Fit (A.ax P).2 a (c+a) m:=by
 have d:=Fit.aS (A.aY P) P c h;have h2:=LC A P h;exact d.U (Aw _) (by omega) (Aw _)
def HJ(A:Ar)(P:PD):(A.ah P).2.1.ix=A.ix/\(A.ah P).2.1.j=A.j/\(A.ah P).2.1.A9=A.A9:=by
 unfold Ar.ah;split<;>exact⟨rfl,rfl,rfl⟩
def Ar.ai(A:Ar)(P:PD):Int×Ar×PD:=
 if (A.ah P).1≠0 then A.ah P else (((A.ah P).2.1.ax (A.ah P).2.2).1,(A.ah P).2.1,((A.ah P).2.1.ax (A.ah P).2.2).2)
def PJ(A:Ar)(P:PD):(A.ai P).2.1.ix=A.ix/\(A.ai P).2.1.j=A.j/\(A.ai P).2.1.A9=A.A9:=by
 unfold Ar.ai;split<;>exact HJ A P
def Fit.ai{A:Ar}{P:PD}{a c m:Nat}(h:Fit P a c m):Fit (A.ai P).2.2 a (c+a) m:=by
 unfold Ar.ai;split
 ·exact h.ah.U (Aw _) (by omega) (Aw _)
 ·exact h.ah.ax
def Ld(A:Ar)(P:PD)(kept:List Int)(fresh:List (List Pu)):A.ay P kept fresh=if (A.ai P).1≠0 then A.ai P else
 if (PD.aj fresh (A.ai P).2.1.A9 kept (A.ai P).2.2).1≠0 then ((PD.aj fresh (A.ai P).2.1.A9 kept (A.ai P).2.2).1,{ (A.ai P).2.1 with A9:=(PD.aj fresh (A.ai P).2.1.A9 kept (A.ai P).2.2).2.1},(PD.aj fresh (A.ai P).2.1.A9 kept (A.ai P).2.2).2.2.2) else
 if (({ (A.ai P).2.1 with A9:=(PD.aj fresh (A.ai P).2.1.A9 kept (A.ai P).2.2).2.1}:Ar).ag (PD.aj fresh (A.ai P).2.1.A9 kept (A.ai P).2.2).2.2.2 (PD.aj fresh (A.ai P).2.1.A9 kept (A.ai P).2.2).2.2.1).1≠0 then
  ({ (A.ai P).2.1 with A9:=(PD.aj fresh (A.ai P).2.1.A9 kept (A.ai P).2.2).2.1}:Ar).ag (PD.aj fresh (A.ai P).2.1.A9 kept (A.ai P).2.2).2.2.2 (PD.aj fresh (A.ai P).2.1.A9 kept (A.ai P).2.2).2.2.1
 else (({ (A.ai P).2.1 with A9:=(PD.aj fresh (A.ai P).2.1.A9 kept (A.ai P).2.2).2.1}:Ar).ag (PD.aj fresh (A.ai P).2.1.A9 kept (A.ai P).2.2).2.2.2 (PD.aj fresh (A.ai P).2.1.A9 kept (A.ai P).2.2).2.2.1).2.1.ba
  (({ (A.ai P).2.1 with A9:=(PD.aj fresh (A.ai P).2.1.A9 kept (A.ai P).2.2).2.1}:Ar).ag (PD.aj fresh (A.ai P).2.1.A9 kept (A.ai P).2.2).2.2.2 (PD.aj fresh (A.ai P).2.1.A9 kept (A.ai P).2.2).2.2.1).2.2:=by
 unfold Ar.ay Ar.ai;dsimp only
 by_cases d:(A.ah P).1=0
 ·by_cases h:((A.ah P).2.1.ax (A.ah P).2.2).1=0
  ·simp only[d,h,Gz,not_true,BG]
  ·simp only[d,h,Gz,not_true,Jp,BG,BM]
 ·simp only[d,Gz,Jp,BM]
section
variable {w w':World} {ab b xb jb B:Nat} {sv ov lv jo:Value} {A:Ar} {P:PD} {Ft FT:Nat->Prop} {a c m:Nat}
def AD.bh(h:AD w ab b A P FT):A5 w ab 0 (A4 b)/\A5 w ab 3 (A0 A.A9)/\w.frozen? (A8 ab 3)=false/\ab<w.heap.size/\FT ab:=by
 obtain⟨xb,jb,sv,ov,lv,jo,Ft,d,y⟩:=h;exact⟨d.Ae.c0,d.Ae.c3,d.Ae.fz 3,d.Ae.lt,y ab (.inr (.inl rfl))⟩
def AD.eg(h:AD w ab b A P FT)(x:Int):AD (w.setCell ⟨ab,3,none⟩ (.int .i64 x)) ab b {A with A9:=x} P FT:=by
 obtain⟨xb,jb,sv,ov,lv,jo,Ft,d,I⟩:=h;have H:A2 (One ab) w (w.setCell ⟨ab,3,none⟩ (.int .i64 x)):=(A2.C (One ab) w).ak (b:=ab) rfl 3 _;have E:∀k,k≠ab->k<w.heap.size->(w.setCell ⟨ab,3,none⟩ (.int .i64 x)).heap[k]?=w.heap[k]?:=λk y J=>H.Ao k J y
 exact⟨xb,jb,sv,ov,lv,jo,Ft,⟨d.Ae.s3 x,(E xb d.ne.symm d.ix.lt).trans d.ix,d.A6.aq λg z=>E g (d.DP g z).1 (d.A6.lt z),d.AS.aq λg z=>E g (d.Ep g z).1 (d.AS.lt z),d.jn.aq λk y=>E k (d.E0 k y).1 (d.jn.lt y),
  AP.aq d.dk λk y=>E k (λe=>by subst e;exact d.Cg _ (.inl rfl) y) (d.lt k y),λk y=>Bc (d.lt k y) H.Af,d.Cg,d.DP,d.Ep,d.E0⟩,I⟩
def RW(h:B4 w b P Ft):
 Ac 86 #[A4 b] w (Ak (A0 P.aM.1) λw'=>Al w Ft w' (λw' d=>B4 w' b P.aM.2 d)):=Om h
def T5(h:AD w ab b A P FT):
 Ac 86 #[A4 b] w (Ak (A0 P.aM.1) λw'=>Al w FT w' (λw' y=>AD w' ab b A P.aM.2 y)):=by
 obtain⟨xb,jb,sv,ov,lv,jo,Ft,d,z⟩:=h;refine(RW d.dk).mono ?_;rintro e w'⟨H,E⟩;exact⟨H,d.bM z (d.bN E)⟩
def PK(w:World)(g:Nat)(h:AD w ab b A P FT)(_hlt:∀k,FT k->k<w.heap.size)(Y:¬FT g)(O:g<w.heap.size)(W:w.heap[g]?=some (.cells #[.func (Fn.func 118) #[.pointer (some ⟨ab,0,none⟩)] #[],.func (Fn.func 150) #[.pointer (some ⟨ab,0,none⟩)] #[]] 50 (0,0)))(hF:Fit P a c m)(hl:BL a (c+a) m)(hn:∀n∈A.ix.A6,By n)(J:∀n∈A.j.Ah,By n)(I:A.ix.A6.length<=1073741824)(H:A.j.Ah.length<=1073741824)(hL:Lets B w)(L:∀k,FT k->B<=k):
 Calls Tryz.prog 117 #[.slice (some ⟨g,0,none⟩) 2 2] w λe w'=>e=.returned (.int .i64 (A.ai P).1)/\Al w FT w' (λw' d=>AD w' ab b (A.ai P).2.1 (A.ai P).2.2 d):=by
 obtain⟨s1,s2,s3⟩:=HJ A P;refine(Rz w g ab ab (λn w'=>n=(A.ah P).1/\Al w FT w' (λw' d=>AD w' ab b (A.ah P).2.1 (A.ah P).2.2 d)) (λn w'=>(A.ah P).1=0/\n=((A.ah P).2.1.ax (A.ah P).2.2).1/\Al w FT w' (λw' d=>AD w' ab b (A.ah P).2.1 ((A.ah P).2.1.ax (A.ah P).2.2).2 d)) W ?_ ?_).mono ?_
 ·refine(L0 w h).mono ?_;rintro e w'⟨z,y⟩;exact⟨_,z,⟨rfl,y⟩,y.1.Ao g O Y⟩
 ·rintro U⟨V,c1,F1,y,E,Z⟩ -;refine(KT U y hF.ah hl (by rw[s1];exact hn) (by rw[s2];exact J) (by rw[s1];exact I) (by rw[s2];exact H) (hL.Ap c1 L)).mono ?_;rintro e w'⟨h5,h6⟩;exact⟨_,h5,V.symm,rfl,Al.aZ c1 Z h6⟩
 ·rintro e w'⟨n,rfl,⟨z,y,E⟩|⟨z,y,E⟩⟩
  ·subst y;unfold Ar.ai;rw[Am z];exact⟨rfl,E⟩
  ·subst y;unfold Ar.ai;rw[Ad (by simp[z])];exact⟨rfl,E⟩
def Sj(w:World)(g:Nat)(h:AD w ab b A P FT)(_hlt:∀k,FT k->k<w.heap.size)(V:¬FT g)(L:g<w.heap.size)(U:w.heap[g]?=some (.cells #[.func (Fn.func 150) #[.pointer (some ⟨ab,0,none⟩)] #[],.func (Fn.func 86) #[.pointer (some ⟨b,0,none⟩)] #[]] 50 (0,0)))(hF:Fit P a c m)(hl:BL a (c+a) m)(hn:∀n∈A.ix.A6,By n)(J:∀n∈A.j.Ah,By n)(I:A.ix.A6.length<=1073741824)(H:A.j.Ah.length<=1073741824)(Z:Lets B w):
 Calls Tryz.prog 117 #[.slice (some ⟨g,0,none⟩) 2 2] w λe w'=>e=.returned (.int .i64 (A.ba P).1)/\Al w FT w' (λw' d=>AD w' ab b (A.ba P).2.1 (A.ba P).2.2 d):=by
 refine(Ry w g ab b (λn w'=>n=(A.ax P).1/\Al w FT w' (λw' d=>AD w' ab b A (A.ax P).2 d)) (λn w'=>(A.ax P).1=0/\n=(A.ax P).2.aM.1/\Al w FT w' (λw' d=>AD w' ab b A (A.ax P).2.aM.2 d)) U ?_ ?_).mono ?_
 ·refine(KT w h hF hl hn J I H Z).mono ?_;rintro e w'⟨z,y⟩;exact⟨_,z,⟨rfl,y⟩,y.1.Ao g L V⟩
 ·rintro w1⟨O,c1,F1,y,E,W⟩ -;refine(T5 y).mono ?_;rintro e w'⟨Y,h6⟩;exact⟨_,Y,O.symm,rfl,Al.aZ c1 W h6⟩
 ·rintro e w'⟨n,rfl,⟨z,y,E⟩|⟨z,y,E⟩⟩
  ·subst y;unfold Ar.ba;rw[Am z];exact⟨rfl,E⟩
  ·subst y;unfold Ar.ba;rw[Ad (by simp[z])];exact⟨rfl,E⟩
end
end
end Go.Proofs.YtodcnkbblippnaaGreatDoor
