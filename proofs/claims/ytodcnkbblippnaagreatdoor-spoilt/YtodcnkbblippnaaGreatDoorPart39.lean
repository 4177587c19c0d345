/- Part 39 of a proof: walks of the program. -/
import Derived.Test.YtodcnkbblippnaaGreatDoorPart38
namespace Go.Proofs.YtodcnkbblippnaaGreatDoor
set_option maxRecDepth 100000
set_option maxHeartbeats 32000000
set_option linter.defProp false
open Go.Proofs.Tryz
section
open Go.RowKit
def C7(k:Nat)(n:DN)(e:Int)(d:DN):Prop:=
 d.Ce=n.Ce/\d.Cv=n.Cv/\(0<=n.AQ->n.AQ+k<=4611686018427387904->n.AQ<=d.AQ/\d.AQ<=n.AQ+k/\
  (e=5->n.AW=true\/(d.AW=true/\n.AQ<n.Ce/\n.Ce<=d.AQ)\/(d.AW=false/\n.AQ<n.Cv/\n.Cv<=d.AQ))/\(e≠5->d.AW=n.AW/\¬(n.AQ<n.Cv/\n.Cv<=d.AQ)))
def C7.I(n:DN){e:Int}(d:e≠5):C7 0 n e n:=⟨rfl,rfl,λ_ _=>⟨I0 _,by omega,λh=>absurd h d,λ_=>⟨rfl,λh=>by omega⟩⟩⟩
def C7.af{n d:DN}{e:Int}{k z:Nat}(h:C7 k n e d)(hk:k<=z):C7 z n e d:=⟨h.1,h.2.1,λE h1=>by
 obtain⟨a,b,c⟩:=h.2.2 E (by omega)
 exact⟨a,by omega,c⟩⟩
def C7.Av{n L n2:DN}{a e:Int}{E I:Nat}(h:C7 E n a L)(ha:a=0)(O:C7 I L e n2):C7 (E+I) n e n2:=by
 obtain⟨c1,f1,g1⟩:=h;obtain⟨c2,f2,Y⟩:=O;refine⟨c2.trans c1,f2.trans f1,λW hk=>?_⟩;obtain⟨a1,a2,-,a4⟩:=g1 W (by omega);obtain⟨d1,d2⟩:=a4 (by omega);obtain⟨b1,b2,z,H⟩:=Y (by omega) (by omega);rw[f1]at z H;rw[c1,d1]at z;refine⟨by omega,by omega,λd=>(z d).imp id (Or.imp (λh=>⟨h.1,by omega,h.2.2⟩) λh=>⟨h.1,by omega,h.2.2⟩),λd=>?_⟩;obtain⟨x1,x2⟩:=H d;exact⟨x1.trans d1,by omega⟩
def R8{x:Int}(h0:0<=x)(h1:x+1<=4611686018427387904):wrap64 (x+1)=x+1:=by
 unfold wrap64;omega
def Ku(n:DN):C7 1 n (bg n).2.1 (bg n).2.2:=by
 have z:(bg n).2.2.Ce=n.Ce/\(bg n).2.2.Cv=n.Cv:=by
  unfold bg;dsimp only;split
  ·exact⟨rfl,rfl⟩
  ·split
   ·exact⟨rfl,rfl⟩
   ·split<;>exact⟨rfl,rfl⟩
 refine⟨z.1,z.2,λI h1=>?_⟩;have E:=R8 I (by omega);unfold bg;rw[E];dsimp only
 split
 ·rename_i d;exact⟨by dsimp only;omega,by dsimp only;omega,λ_=>.inl d,λh=>absurd rfl h⟩
 ·rename_i d;split
  ·rename_i hk;exact⟨by dsimp only;omega,by dsimp only;omega,λ_=>.inr (.inl ⟨rfl,by omega,by dsimp only;omega⟩),λh=>absurd rfl h⟩
  ·split
   ·rename_i H;exact⟨by dsimp only;omega,by dsimp only;omega,λ_=>.inr (.inr ⟨by simpa using d,by omega,by dsimp only;omega⟩),λh=>absurd rfl h⟩
   ·rename_i H;exact⟨by dsimp only;omega,by dsimp only;omega,λh=>(by cases h),λ_=>⟨rfl,λh=>by dsimp only at h;omega⟩⟩
section
variable{P:PD}{A:Ar}{J:Jn}{nm oe:gg}
def LX(P:PD)(nm:gg):C7 1 P.D.n (P.ai nm).1 (P.ai nm).2.D.n:=by
 unfold PD.ai CN;split
 ·exact(C7.I _ (by simp)).af (by omega)
 ·have:=Ku P.D.n;dsimp only
  split<;>exact this
def Ni(P:PD)(nm:gg):C7 1 P.D.n (P.ad nm).1 (P.ad nm).2.D.n:=by
 unfold PD.ad Cq;split
 ·exact(C7.I _ (by simp)).af (by omega)
 ·exact Ku P.D.n
def VD(P:PD):C7 1 P.D.n P.av.1 P.av.2.D.n:=by
 have:=Ku P.D.n;unfold PD.av DC;dsimp only
 split<;>exact this
def VF(P:PD)(nm:gg):C7 1 P.D.n (P.aG nm).1 (P.aG nm).2.D.n:=by
 have:=Ku P.D.n;unfold PD.aG Dn;split
 ·exact(C7.I _ (by simp)).af (by omega)
 ·dsimp only
  split<;>exact this
def A3w(P:PD)(oe nm:gg):C7 1 P.D.n (P.aM oe nm).1 (P.aM oe nm).2.D.n:=by
 have:=Ku P.D.n;unfold PD.aM CU;split
 ·exact(C7.I _ (by simp)).af (by omega)
 ·split
  ·exact(C7.I _ (by simp)).af (by omega)
  ·dsimp only
   split<;>exact this
def C7.cB{n d n2:DN}{k:Nat}(h:C7 k n 0 d)(H:n2.Ce=d.Ce)(z:n2.Cv=d.Cv)(I:n2.AQ=d.AQ)(E:n2.AW=d.AW):C7 k n 6 n2:=by
 obtain⟨a,b,c⟩:=h;refine⟨H.trans a,z.trans b,λx y=>?_⟩;obtain⟨c1,c2,-,c4⟩:=c x y;rw[I,E];exact⟨c1,c2,λh=>(by cases h),λ_=>c4 (by decide)⟩
def VI(D:DS)(F:Nat->FC)(f:Nat)(x:gg)(d e:Int)(n:DN)(h:C7 1 n e D.n)(z:e=0\/e=5):C7 1 n (Bw D F f x d e).1 (Bw D F f x d e).2.1.n:=by
 unfold Bw;split
 ·dsimp only
  rcases z with rfl|rfl
  ·rw[Ae rfl,Ae rfl];exact h.cB rfl rfl rfl rfl
  ·rw[Aa (by decide),Aa (by decide)];exact h
 ·exact h
def A3E(P:PD)(nm:gg)(l:Bs):C7 1 P.D.n (P.ak nm l).1 (P.ak nm l).2.D.n:=by
 have d:=Ku P.D.n;have h:=Gw P.D.n;unfold PD.ak Bj;split
 ·exact(C7.I _ (by simp)).af (by omega)
 ·dsimp only
  split
  ·exact VI _ _ _ _ _ _ _ d h
  ·split
   ·exact VI _ _ _ _ _ _ _ d h
   ·exact d
def Nj(P:PD)(nm:gg)(s:Nat)(l:Bs):C7 1 P.D.n (P.ae nm s l).2.1 (P.ae nm s l).2.2.D.n:=A3E P nm (AS s l)
def Nh(P:PD)(nm:Bs)(s:Nat)(l:Bs):C7 3 P.D.n (P.aH nm s l).1 (P.aH nm s l).2.D.n:=by
 unfold PD.aH;split
 ·exact(LX P _).af (by omega)
 ·rename_i d;split
  ·exact((LX P _).Av (Cy d) (Nj _ _ _ _)).af (by omega)
  ·rename_i h;exact((LX P _).Av (Cy d) (Nj _ _ _ _)).Av (Cy h) (Ni _ _)
def VE:∀(l:gh Bs) (P:PD),C7 l.length P.D.n (PD.az l P).1 (PD.az l P).2.D.n
 | [],P=>C7.I _ (by simp[PD.az])
 | nm::r,P=>by
  unfold PD.az;split
  ·exact(Ni P _).af (by simp)
  ·rename_i d;exact((Ni P _).Av (Cy d) (VE r _)).af (by simp;omega)
def Ql:∀(l:gh Bs) (P:PD),C7 l.length P.D.n (PD.aK l P).1 (PD.aK l P).2.D.n
 | [],P=>C7.I _ (by simp[PD.aK])
 | nm::r,P=>by
  unfold PD.aK;split
  ·exact(VF P _).af (by simp)
  ·rename_i d;exact((VF P _).Av (Cy d) (Ql r _)).af (by simp;omega)
def JG(A:Ar)(P:PD):C7 A.AN.length P.D.n (A.C P).1 (A.C P).2.2.D.n:=by
 have:=VE A.AN P;unfold Ar.C;split
 ·exact this
 ·rename_i d;rw[Cy d]at this;exact this
def Qm(J:Jn)(P:PD):C7 2 P.D.n (J.aw P).1 (J.aw P).2.2.D.n:=by
 unfold Jn.aw;split
 ·exact(LX P _).af (by omega)
 ·rename_i d;have:=(LX P _).Av (Cy d) (Nj (P.ai (A6 (Af (J.A8+1)))).2 (A6 (Af (J.A8+1))) (AB (Af (J.A8+1))) (AO J.pd));dsimp only
  split
  ·exact this
  ·rename_i h;rw[Cy h]at this;exact this
def VG(J:Jn)(P:PD)(p:Pu):C7 1 P.D.n (J.ax P p).2.1 (J.ax P p).2.2.2.D.n:=by
 unfold Jn.ax;split
 ·exact(C7.I _ (by simp)).af (by omega)
 ·exact Nj P _ _ _
def A3z(J:Jn)(P:PD)(p:Pu):C7 3 P.D.n (J.ae P p).2.1 (J.ae P p).2.2.2.D.n:=by
 unfold Jn.ae;split
 ·split
  ·exact(Qm J P).af (by omega)
  ·rename_i d;exact(Qm J P).Av (Cy d) (VG _ _ p)
 ·exact(VG J P p).af (by omega)
def A3D(A:Ar)(P:PD)(p:Pu):C7 (A.AN.length+3) P.D.n (A.ae P p).2.1 (A.ae P p).2.2.2.D.n:=by
 unfold Ar.ae;split
 ·exact(JG A P).af (by omega)
 ·rename_i d;exact(JG A P).Av (Cy d) (A3z _ _ p)
def A3y(J:Jn)(P:PD):C7 1 P.D.n (J.ad P).1 (J.ad P).2.D.n:=by
 unfold Jn.ad;split
 ·exact(C7.I _ (by simp)).af (by omega)
 ·exact Ni P _
def A3C(A:Ar)(P:PD):C7 (A.AN.length+2) P.D.n (A.ad P).1 (A.ad P).2.2.D.n:=by
 unfold Ar.ad;split
 ·exact(JG A P).af (by omega)
 ·rename_i z;have h:=(JG A P).Av (Cy z) (A3y (A.C P).2.1.j (A.C P).2.2);split
  ·exact h.af (by omega)
  ·rename_i d;exact h.Av (Cy d) (VD _)
def VH:∀(h:gh (gh Pu)) (z:Int) (d:gh Int) (P:PD),C7 (3*h.length) P.D.n (PD.aj h z d P).1 (PD.aj h z d P).2.2.2.D.n
 | [],_,_,P=>C7.I _ (by simp[PD.aj])
 | l::r,z,d,P=>by
  unfold PD.aj;split
  ·exact(Nh P _ _ _).af (by simp;omega)
  ·rename_i E;exact((Nh P _ _ _).Av (Cy E) (VH r _ _ _)).af (by simp;omega)
def A3x(P:PD)(first:Int)(sd:gh Int):C7 4 P.D.n (P.ah first sd).1 (P.ah first sd).2.D.n:=by
 unfold PD.ah;split
 ·exact(Nh P _ _ _).af (by omega)
 ·rename_i d;exact(Nh P _ _ _).Av (Cy d) (A3w _ _ _)
def A3B(A:Ar)(P:PD)(sd:gh Int):C7 4 P.D.n (A.ah P sd).1 (A.ah P sd).2.2.D.n:=by
 have:=A3x P (A.j.A8+1) sd;unfold Ar.ah;split
 ·exact(C7.I _ (by simp)).af (by omega)
 ·split
  ·exact this
  ·rename_i d;rw[Cy d]at this;exact this
def Ty(A:Ar)(P:PD):(A.aV P).length<=P.dl:=by
 rw[<-HJ];exact J8 _ _
def A3A(A:Ar)(P:PD):C7 (P.dl+1) P.D.n (A.a6 P).1 (A.a6 P).2.2.D.n:=by
 have d:=(Ql (A.aV P) P).af (Ty A P);unfold Ar.a6;split
 ·exact d.af (by omega)
 ·rename_i h;exact d.Av (Cy h) (VD _)
def A3v(A:Ar)(P:PD)(h:gh Int)(d:gh (gh Pu)):C7 (A.AN.length+2*P.dl+4*d.length+7) P.D.n (A.aF P h d).1 (A.aF P h d).2.2.D.n:=by
 have z:(A.C P).2.2.dl=P.dl:=by unfold PD.dl;rw[OD]
 unfold Ar.aF;dsimp only
 split
 ·exact(JG A P).af (by omega)
 ·rename_i W;have o1:=Ty (A.C P).2.1 (A.C P).2.2;rw[z]at o1;have O:C7 ((A.C P).2.1.aV (A.C P).2.2).length (A.C P).2.2.D.n ((A.C P).2.1.au (A.C P).2.2).1 ((A.C P).2.1.au (A.C P).2.2).2.D.n:=Ql _ _;have E:=(JG A P).Av (Cy W) O;have d2:((A.C P).2.1.au (A.C P).2.2).2.dl<=P.dl:=by rw[<-z];exact Nd _ _
  split
  ·exact E.af (by omega)
  ·rename_i L;have H:=E.Av (Cy L) (VH d (A.C P).2.1.A8 h ((A.C P).2.1.au (A.C P).2.2).2);obtain⟨d3,-⟩:=Kr d (A.C P).2.1.A8 h ((A.C P).2.1.au (A.C P).2.2).2;split
   ·exact H.af (by omega)
   ·rename_i h3;have I:=H.Av (Cy h3) (A3B { (A.C P).2.1 with A8:=(PD.aj d (A.C P).2.1.A8 h ((A.C P).2.1.au (A.C P).2.2).2).2.1} _ (PD.aj d (A.C P).2.1.A8 h ((A.C P).2.1.au (A.C P).2.2).2).2.2.1);have d4:=Qb { (A.C P).2.1 with A8:=(PD.aj d (A.C P).2.1.A8 h ((A.C P).2.1.au (A.C P).2.2).2).2.1} (PD.aj d (A.C P).2.1.A8 h ((A.C P).2.1.au (A.C P).2.2).2).2.2.2 (PD.aj d (A.C P).2.1.A8 h ((A.C P).2.1.au (A.C P).2.2).2).2.2.1;split
    ·exact I.af (by omega)
    ·rename_i Y;exact(I.Av (Cy Y) (A3A _ _)).af (by omega)
def A4s{l:Bs}(h:(P.ak nm l).1=0)(I:0<=P.D.n.AQ)(H:P.D.n.AQ+1<=4611686018427387904):(P.ak nm l).2.D.n.AQ=P.D.n.AQ+1:=by
 have E:=R8 I H;have d:(bg P.D.n).2.2.AQ=P.D.n.AQ+1:=by
  unfold bg;rw[E];dsimp only
  split
  ·rfl
  ·split
   ·rfl
   ·split<;>rfl
 have key:∀(D:DS) (F:Nat->FC) (f:Nat) (x:gg) (z e:Int),(Bw D F f x z e).2.1.n.AQ=D.n.AQ:=λD F f x z e=>by
  unfold Bw;split
  ·dsimp only
   split<;>rfl
  ·rfl
 unfold PD.ak Bj at h ⊢;cases hf:lookup P.D.A4 nm with
 | none=>rw[hf]at h;cases h
 | some f=>
  dsimp only
  split
  ·rw[key];exact d
  ·split
   ·rw[key];exact d
   ·exact d
def Tc{p:Pu}{x:Int×Nat}(d:J.AE=some x)(h:(J.ax P p).2.1=0)(E:0<=P.D.n.AQ)(z:P.D.n.AQ+1<=4611686018427387904):P.D.n.AQ+1<=(J.ax P p).2.2.2.D.n.AQ:=by
 unfold Jn.ax at h ⊢;rw[d]at h ⊢;exact Int.le_of_eq (A4s h E z).symm
def A4m{p:Pu}(h:(A.ae P p).2.1=0)(W:0<=P.D.n.AQ)(z:P.D.n.AQ+(A.AN.length+3)<=4611686018427387904):P.D.n.AQ+1<=(A.ae P p).2.2.2.D.n.AQ:=by
 have c1:=(JG A P).2.2 W (by omega);have O:(A.C P).1=0:=by
  by_cases e:(A.C P).1=0
  ·exact e
  ·unfold Ar.ae at h;rw[Ae e]at h;exact absurd h e
 have e:A.ae P p=(((A.C P).2.1.j.ae (A.C P).2.2 p).1,((A.C P).2.1.j.ae (A.C P).2.2 p).2.1,{ (A.C P).2.1 with j:=((A.C P).2.1.j.ae (A.C P).2.2 p).2.2.1},((A.C P).2.1.j.ae (A.C P).2.2 p).2.2.2):=by
  unfold Ar.ae;rw[Aa (nn O)]
 rw[e]at h ⊢;dsimp only at h ⊢;generalize (A.C P).2.1.j=J at h ⊢;generalize (A.C P).2.2=Q at h c1 ⊢;obtain⟨d1,d2,-⟩:=c1;unfold Jn.ae at h ⊢;split at h
 ·rename_i E;rw[Ae E];by_cases d:(J.aw Q).1=0
  ·rw[Aa (nn d)]at h ⊢;have c2:=(Qm J Q).2.2 (by omega) (by omega);have L:(J.aw Q).2.1.AE≠none:=by
    unfold Jn.aw at d ⊢;split at d
    ·rename_i z;exact absurd d z
    ·rename_i z;rw[Aa z];dsimp only at d ⊢;split at d
     ·rename_i H;exact absurd d H
     ·rename_i H;rw[Aa H];simp
   obtain⟨x,I⟩:=JL.1 L;have:=Tc I h (by omega) (by omega);omega
  ·rw[Ae d]at h;exact absurd h d
 ·rename_i E;rw[Aa E];obtain⟨x,I⟩:=JL.1 E;have:=Tc I h (by omega) (by omega);omega
end
section
variable{P:PD}{A:Ar}{a m:Nat}
def A4o{nm:gg}{l:Bs}(h:Wd P a m)(hl:l.length<=m)(hr:((a*m+m:Nat):Int)<=P.D.n.AA):(P.ak nm l).1≠6:=λe=>by
 have h6:=Qw e;have hu:=Ob (F:=P.F) (m:=m) P.D.A4 λf d=>h.B4 f (.inl d);have:=Gd m h.A4;omega
def R6{nm:Bs}{s:Nat}{l:Bs}(h:Wd P a m)(d:P.dl+1<=a)(E:l.length+4<=m)(H:((a*m+m:Nat):Int)<=P.D.n.AA):(P.aH nm s l).1≠6:=by
 have z:Wd (P.ai (A6 nm)).2 a m:=h.bG (Kq P nm).1 d (by unfold PD.ai;simp[upd]);unfold PD.aH;split
 ·exact Vu P _
 ·split
  ·refine A4o (l:=AS s l) z (by rw[EL];exact E) ?_;rw[Ji];exact H
  ·exact Oj _ _
def TX:∀(I:gh (gh Pu)) (d:Int) (H:gh Int) {P:PD},Wd P a m->P.dl+I.length<=a->(∀l∈I,17*l.length+4<=m)->((a*m+m:Nat):Int)<=P.D.n.AA->(PD.aj I d H P).1≠6
 | [],_,_,_,_,_,_,_=>by simp[PD.aj]
 | l::r,d,H,P,h,hd,hl,hr=>by
  simp only[Cg]at hd;have E:(Ci l).length+4<=m:=by rw[ID];exact hl l (Bt ..)
  have z:PD.aj (l::r) d H P=if (P.aI (d+1) l).1≠0 then ((P.aI (d+1) l).1,d+1,H,(P.aI (d+1) l).2) else PD.aj r (d+1) (H++[d+1]) (P.aI (d+1) l).2:=rfl
  rw[z];split
  ·exact R6 h (by omega) E hr
  ·have hdl:(P.aI (d+1) l).2.dl<=P.dl+1:=LU P _ _ _;exact TX r _ _ (h.aH _ _ _ (by omega) E) (by omega) (λx L=>hl x (Bp _ L)) (by rw[show (P.aI (d+1) l).2.D.n.AA=P.D.n.AA from Ll P _ _ _];exact hr)
def Zt(P:PD)(oe nm:gg):(P.aM oe nm).1≠6:=by
 have hb:=Gw P.D.n;unfold PD.aM CU;split
 ·simp
 ·split
  ·simp
  ·dsimp only;omega
def ZC(P:PD)(nm:gg):(P.aG nm).1≠6:=by
 have hb:=Gw P.D.n;unfold PD.aG Dn;split
 ·simp
 ·dsimp only;omega
def OV:∀(l:gh Bs) (P:PD),(PD.aK l P).1≠6
 | [],P=>by simp[PD.aK]
 | nm::r,P=>by
  unfold PD.aK;split
  ·exact ZC P _
  ·exact OV r _
def A4j(h:Wd P a m)(sd:gh Int)(d:P.dl+1<=a)(hl:12+8*sd.length<=m)(E:((a*m+m:Nat):Int)<=P.D.n.AA):(A.ah P sd).1≠6:=by
 have z:(P.ah (A.j.A8+1) sd).1≠6:=by
  unfold PD.ah;split
  ·refine R6 h d ?_ E;unfold Cl;rw[AY,JB,CQ];omega
  ·exact Zt _ _ _
 unfold Ar.ah;split
 ·simp
 ·split
  ·exact z
  ·simp
def A3K(A:Ar)(P:PD):(A.a6 P).1≠6:=by
 unfold Ar.a6;split
 ·exact OV _ P
 ·exact Rz _
def Zs{k:Nat}(h:Wd P a m)(hi:Bg P k)(hn:Gc P)(z:gh Int)(d:gh (gh Pu))(hd:A.Ai.length+d.length+2<=a)(I:∀l∈d,17*l.length+4<=m)(hk:12+8*(z.length+d.length)<=m)(L:((a*m+m:Nat):Int)<=P.D.n.AA):
 (A.aF P z d).1≠6:=by
 have Y:Wd (A.C P).2.2 a m:=h.C;have i1:Bg (A.C P).2.2 k:=hi.C;have n1:Gc (A.C P).2.2:=U0 hn (OD A P);have H:(A.C P).2.1.Ai=A.Ai:=by unfold Ar.C;split<;>rfl
 have a0:=Jh A P;have O:((A.C P).2.1.au (A.C P).2.2).2.D.n.AA=P.D.n.AA:=(Lm _ _).trans a0;unfold Ar.aF;dsimp only
 split
 ·exact OC A P
 ·have W:Wd ((A.C P).2.1.au (A.C P).2.2).2 a m:=Wd.aK _ Y;have i2:Bg ((A.C P).2.1.au (A.C P).2.2).2 k:=Bg.aK _ i1;split
  ·exact OV _ _
  ·rename_i h2;have E:=RH n1 (Cy h2);rw[H]at E;obtain⟨w3,i3⟩:=Pq d (A.C P).2.1.A8 z W i2 (by omega) I;obtain⟨d3,d4⟩:=Kr d (A.C P).2.1.A8 z ((A.C P).2.1.au (A.C P).2.2).2;split
   ·exact TX _ _ _ W (by omega) I (by rw[O];exact L)
   ·have h4:=A4j (A:={ (A.C P).2.1 with A8:=(PD.aj d (A.C P).2.1.A8 z ((A.C P).2.1.au (A.C P).2.2).2).2.1}) w3 (PD.aj d (A.C P).2.1.A8 z ((A.C P).2.1.au (A.C P).2.2).2).2.2.1 (by omega) (by omega) (by rw[OM,O];exact L);split
    ·exact h4
    ·exact A3K _ _
end
section
variable{P:PD}{A:Ar}{ps pl:gh Pu}{sg:gh (Int×gh Pu)}{N R i T:Nat}
structure M9 (P:PD) (i T:Nat):Prop where
 cm:Cm P (1000000000000-2*i) (1152921504606846976-T)
 AA:P.D.n.AA=1152921504606846976
 BQ:Fit P i i T
 A5p:P.bs []=none
 Lh:∀nm,P.bs nm≠none->nm.length<=T
def M9.hollow:M9 (Go.Proofs.YtodcnkbblippnaaGreatDoor.hollow 1152921504606846976) 0 0:=
 ⟨A2o (by omega) (by omega),rfl,⟨Ao _,Ao _,λl z=>(by cases z),Ao _,λf d=>absurd d (PX f),⟨by decide,by decide⟩,⟨by decide,by decide⟩⟩,rfl,λnm h=>absurd (PY _ nm) h⟩
def PD.AV(P:PD)(nm l:Bs):PD:=((P.ai (A6 nm)).2.ak (A6 nm) l).2
def Tg{l:Bs}(h:(l.headD 0).toNat<8):B8 (K3 l):=by
 refine⟨⟨?_,?_⟩,PN _,PN _⟩<;>(unfold K3;dsimp only;omega)
def Sb:∀(k:Nat) (l:Bs) (r:gh Pu×Bs),DO k l=some r->∀p∈r.1,B8 p
 | 0,l,r,h,p,d=>by cases h;cases d
 | k+1,l,r,h,p,d=>by
  unfold DO at h;split at h
  ·cases h;cases d
  ·split at h
   ·rename_i z;cases hx:DO k (l.drop 17) with
    | none=>rw[hx]at h;cases h
    | some q=>
     rw[hx]at h;cases h;rcases BB.1 d with rfl|d
     ·exact Tg z
     ·exact Sb k _ q hx p d
   ·cases h
def YU{n:Int}{l:gh Pu}(h:P.BN n=some l):∀p∈l,B8 p:=by
 unfold PD.BN Hj at h;split at h
 ·cases h
 ·cases hx:DO (P.aS (Aw n)).1.length (P.aS (Aw n)).1 with
  | none=>rw[hx]at h;cases h
  | some q=>
   rw[hx]at h;dsimp only at h;split at h
   ·cases h;exact Sb _ _ q hx
   ·cases h
def S7:∀(z:gh Int) (l:gh (Int×gh Pu)),P.sd z=some l->∀p∈l.flatMap (·.2),B8 p
 | [],l,h,p,d=>by cases h;cases d
 | n::r,l,h,p,d=>by
  unfold PD.sd at h;cases hs:P.BN n with
  | none=>rw[hs]at h;cases h
  | some x=>
   rw[hs]at h;cases hr:P.sd r with
   | none=>rw[hr]at h;cases h
   | some y=>
    rw[hr]at h;cases h;rw[KR]at d;rcases AU.1 d with d|d
    ·exact YU hs p d
    ·exact S7 r y hr p d
def SZ:∀(k s:Nat) (l:Bs),∀p∈(Da k s l).1,B8 p
 | 0,_,_,p,d=>by cases d
 | k+1,s,l,p,d=>by
  unfold Da at d;split at d
  ·cases d
  ·split at d
   ·rename_i h;rcases BB.1 d with rfl|d
    ·exact Tg h.2
    ·exact SZ k _ _ p d
   ·cases d
def ZT(s:Nat)(h:Int)(l:Bs):∀p∈(Ee s h l).1,B8 p:=by
 intro p d;unfold Ee at d;split at d
 ·cases d
 ·split at d
  ·split at d
   ·exact SZ _ _ _ p d
   ·cases d
  ·cases d
def T9:∀(l:gh Int) (d:gh Pu),(∀n∈l,P.bs (Af n)≠none)->(∀p∈d,B8 p)->∀p∈(P.a1 l d).1,B8 p
 | [],d,_,ha,p,hp=>ha p hp
 | n::r,d,h,ha,p,hp=>by
  unfold PD.a1 at hp;cases hb:P.bs (Af n) with
  | none=>exact absurd hb (h n (Bt ..))
  | some x=>
   rw[MY hb]at hp;split at hp
   ·cases hp
   ·exact T9 r _ (λk z=>h k (Bp _ z)) (λq E=>(AU.1 E).elim (ha q) (ZT _ _ _ q)) p hp
def NF.ok(h:NF P A sg pl):∀p∈sg.flatMap (·.2)++pl,B8 p:=by
 intro p d;rcases AU.1 d with d|d
 ·exact S7 _ _ h.sd p d
 ·have E:∀n∈A.j.Ak,P.bs (Af n)≠none:=λn I=>(Uq (first:=A.ix.AZ) (by rw[<-h.Ak];exact I)).2.2
  have H:(P.a1 A.j.Ak []).1=pl:=ES Prod.fst h.pd;exact T9 _ [] E (λq z=>by cases z) p (by rw[H];exact d)
end
def Ru:∀ {l l':gh Bs},l.Pairwise (· < ·)->l'.Pairwise (· < ·)->(∀x,x∈l↔x∈l')->l=l'
 | [],[],_,_,_=>rfl
 | [],y::r,_,_,h=>by have:=(h y).2 (Bt ..);cases this
 | x::r,[],_,_,h=>by have:=(h x).1 (Bt ..);cases this
 | x::r,y::s,h1,h2,h=>by
  have E:=D7.1 h1;have d:=D7.1 h2;have I:x=y:=by
   rcases BB.1 ((h x).1 (Bt ..)) with e|e
   ·exact e
   ·rcases BB.1 ((h y).2 (Bt ..)) with L|L
    ·exact L.symm
    ·exact absurd (List.lt_trans (d.1 x e) (E.1 y L)) (Hs _)
  subst I
  congr 1
  refine Ru E.2 d.2 λz=>⟨λH=>?_,λH=>?_⟩
  ·rcases BB.1 ((h z).1 (Bp _ H)) with e|e
   ·subst e;exact absurd (E.1 z H) (Hs _)
   ·exact e
  ·rcases BB.1 ((h z).2 (Bp _ H)) with e|e
   ·subst e;exact absurd (d.1 z H) (Hs _)
   ·exact e
section
variable{P Q:PD}{i k T M N R N' R':Nat}{nm l:Bs}
def A0Y(z:Cm P N R)(d:Cm Q N' R')(h:∀m,Q.bs m≠none↔P.bs m≠none):Q.Ai=P.Ai:=
 Ru d.up z.up λm=>by rw[Es,Es];exact h m
def PD.ba(P:PD)(nm l:Bs):PD:=((P.AV nm l).ad (A6 nm)).2
structure Io (P:PD) (i:Nat):Prop where
 AQ:P.D.n.AQ=3*(i:Int)
 refQ:P.D.n.Bl=0
 HI:P.D.n.fulls=0
 AA:P.D.n.AA=1152921504606846976
 Ap:Bg P i
 Fu:∀m c,P.fl m=some c->BV c
def A3j{c:FC}(h:Cm P (N+1) R)(E:P.fl nm=some c)(m:Bs):(P.ad (A6 nm)).2.fl m=if m=nm then some ((c.1,((c.1.length:Nat):Int)):FC) else P.fl m:=by
 obtain⟨f,z,rfl⟩:=JC E;unfold PD.ad Cq;rw[z];dsimp only
 rw[h.bg];dsimp only
 rw[Ae rfl];unfold PD.fl;dsimp only
 by_cases d:m=nm
 ·subst d;rw[z];simp[upd]
 ·rw[Aa d];cases hk:lookup P.D.A4 (A6 m) with
  | none=>rfl
  | some g=>
   have:g≠f:=λe=>d (by
    have:=Jq h.Ap (DY hk) (DY z) e
    exact FN.1 (Me this).1)
   simp[upd,this]
def A23(h:Cm P (N+1) R)(I:P.fl nm=none)(H:nm≠[]){k:Nat}(E:Bg P k):(P.ai (A6 nm)).2.D.n = {P.D.n with AQ:=P.D.n.AQ+1}/\Bg (P.ai (A6 nm)).2 (k+1):=by
 have d:=Vf.1 I;have L:¬(A6 nm=ByteArray.empty\/B5 P.D.A4 (A6 nm)≥0):=by
  rintro (h|h)
  ·exact Pp H h
  ·have:=(IT P.D.A4 (A6 nm)).2 d;omega
 have hf:=E.AR;unfold PD.ai CN;rw[Aa L];dsimp only
 rw[h.bg];dsimp only
 rw[Ae rfl];have key:∀e∈P.D.A4++[(A6 nm,P.D.AR)],e.2<k+1:=λe z=>by
  rcases AU.1 z with z|z
  ·have:=E.A4 e z;omega
  ·rw[Hd.1 z];omega
 refine⟨rfl,(E.af (Hq k)).b7 (.inl rfl) key λl d=>?_⟩;rcases AU.1 d with d|d
 ·exact .inl d
 ·exact .inr (Hd.1 d)
def A4p{c:FC}(h:Cm P (N+1) R)(E:P.fl nm=some c)(l:Bs)(hl:l.length<=R):(P.ak (A6 nm) l).2.D = {P.D with n:={P.D.n with AQ:=P.D.n.AQ+1}}:=by
 obtain⟨f,z,rfl⟩:=JC E;have hroom:=h.AA;have d:¬((A6 l).size:Int)>Fv {P.D with n:={P.D.n with AQ:=P.D.n.AQ+1}} P.F:=by
  unfold Fv;rw[Kc];dsimp only;omega
 unfold PD.ak Bj;rw[z];dsimp only
 rw[h.bg];dsimp only
 rw[Ae rfl];unfold Bw;rw[Aa d]
def XJ{c:FC}(h:Cm P (N+1) R)(z:P.fl nm=some c):(P.ad (A6 nm)).2.D = {P.D with n:={P.D.n with AQ:=P.D.n.AQ+1}}:=by
 obtain⟨f,d,rfl⟩:=JC z;unfold PD.ad Cq;rw[d];dsimp only
 rw[h.bg]
def Io.ba(h:Io Q i)(hc:Cm Q (N+3) (R+l.length))(h0:Q.bs nm=none)(d:nm≠[]):Io (Q.ba nm l) (i+1):=by
 have z:=Gv.1 h0;obtain⟨-,a2,O⟩:=Cm.ai (N:=N+2) hc z d;obtain⟨a4,a5⟩:=A23 (N:=N+2) hc z d h.Ap;have a6:(Q.ai (A6 nm)).2.fl nm=some ([],0):=by rw[O,Ae rfl]
 obtain⟨-,Y,L⟩:=Cm.ak (N:=N+1) a2 a6 l (by omega);have b4:=A4p (N:=N+1) a2 a6 l (by omega);have I:((Q.ai (A6 nm)).2.ak (A6 nm) l).2.fl nm=some ([]++l,0):=by rw[L,Ae rfl]
 have c3:=A3j (N:=N) Y I;have c4:=XJ (N:=N) Y I;have e1:Q.ba nm l=(((Q.ai (A6 nm)).2.ak (A6 nm) l).2.ad (A6 nm)).2:=rfl;have E:(Q.ba nm l).D = { (Q.ai (A6 nm)).2.D with n:={Q.D.n with AQ:=Q.D.n.AQ+1+1+1}}:=by rw[e1,c4,b4,a4]
 refine⟨?_,?_,?_,?_,λf W=>a5 f ?_,λm c H=>?_⟩
 ·rw[E];have:=h.AQ;dsimp only;omega
 ·rw[E];exact h.refQ
 ·rw[E];exact h.HI
 ·rw[E];exact h.AA
 ·rw[E]at W;exact W
 ·rw[e1,c3]at H;by_cases e:m=nm
  ·rw[Ae e]at H;obtain rfl:=KB H;rfl
  ·rw[Aa e,L,Aa e,O,Aa e]at H;exact h.Fu m c H
def Io.hollow:Io (Go.Proofs.YtodcnkbblippnaaGreatDoor.hollow 1152921504606846976) 0:=by
 refine⟨rfl,rfl,rfl,rfl,λf z=>?_,λm c h=>?_⟩
 ·rcases z with⟨e,d,-⟩|⟨e,d,-⟩|⟨l,E,-⟩
  ·cases d
  ·cases d
  ·cases E
 ·have:=PY 1152921504606846976 m;rw[Gv.1 this]at h;cases h
structure Jc (P:PD) (i T:Nat):Prop where
 cm:Cm P (1000000000000-3*i) (1152921504606846976-T)
 BQ:Fit P i i T
 Lh:∀nm,P.bs nm≠none->nm.length<=T
 TO:Io P i
def Jc.hollow:Jc (Go.Proofs.YtodcnkbblippnaaGreatDoor.hollow 1152921504606846976) 0 0:=⟨M9.hollow.cm,M9.hollow.BQ,M9.hollow.Lh,Io.hollow⟩
def Jc.ba(h:Jc Q i T)(H:Q.bs nm=none)(E:nm≠[])(hi:i+1<=400000)(hT:T+nm.length+l.length<=3000000):
 Jc (Q.ba nm l) (i+1) (T+nm.length+l.length)/\∀m,(Q.ba nm l).bs m=if m=nm then some l else Q.bs m:=by
 have O:Cm Q (1000000000000-3*(i+1)+3) (1152921504606846976-(T+nm.length+l.length)+l.length):=h.cm.af (by omega) (by omega);obtain⟨-,W,I⟩:=Cm.db (N:=1000000000000-3*(i+1)+2) O H E;obtain⟨-,Y,L⟩:=Cm.ea (N:=1000000000000-3*(i+1)+1) (c:=[]) W (by rw[I,Ae rfl]) l (by omega);obtain⟨-,c2,c3⟩:=Cm.cG (N:=1000000000000-3*(i+1)) (nm:=nm) (c:=l) Y (by rw[L,Ae rfl];simp);have z:∀m,(Q.ba nm l).bs m=if m=nm then some l else Q.bs m:=λm=>by
  show ((((Q.ai (A6 nm)).2.ak (A6 nm) l).2.ad (A6 nm)).2).bs m=_;rw[c3,L,I];by_cases d:m=nm
  ·rw[Ae d,Ae d];simp
  ·rw[Aa d,Aa d,Aa d]
 refine⟨⟨c2.af (Ao _) (by omega),?_,λm d=>?_,?_⟩,z⟩
 ·exact(((h.BQ.ai (A6 nm)).ak (A6 nm) l).ad (A6 nm)).af (Ao _) (Ao _) (by omega)
 ·rw[z]at d;by_cases e:m=nm
  ·subst e;omega
  ·rw[Aa e]at d;have:=h.Lh m d;omega
 ·exact h.TO.ba (N:=1000000000000-3*(i+1)) (R:=1152921504606846976-(T+nm.length+l.length)) O H E
def I2(P:PD)(d:Bs->Option Bs)(M k:Nat)(Q:PD):Prop:=(∃T,Jc Q k T/\T<=k*M)/\∀m,Q.bs m=if m∈P.Ai.take k then d m else none
def I2.bI(P:PD)(d:Bs->Option Bs)(M:Nat):I2 P d M 0 (hollow 1152921504606846976):=
 ⟨⟨0,Jc.hollow,by simp⟩,λm=>by rw[PY];simp⟩
def I2.eP{E:Bs->Option Bs}(h:I2 P E M k Q)(hP:P.Ai.Pairwise (· < ·))(z:k<P.Ai.length)(W:P.Ai[k]'z≠[])(hl:E (P.Ai[k]'z)=some l)(hM:(P.Ai[k]'z).length+l.length<=M)(O:k+1<=400000)(hM2:(k+1)*M<=3000000):
 I2 P E M (k+1) (Q.ba (P.Ai[k]'z) l):=by
 obtain⟨⟨T,hB,hT⟩,H⟩:=h;have L:P.Ai[k]'z∉P.Ai.take k:=λY=>by
  obtain⟨j,hj,e⟩:=DV Y;rw[BT]at hj;rw[WS]at e;have:=Ij.1 hP j k (by omega) z (by omega);rw[e]at this;exact Hs _ this
 have h0:Q.bs (P.Ai[k]'z)=none:=by rw[H,Aa L]
 have Y:k*M+M=(k+1)*M:=(KE ..).symm;obtain⟨b1,b2⟩:=hB.ba (l:=l) h0 W O (by omega);have d:∀m,m∈P.Ai.take (k+1)↔m∈P.Ai.take k\/m=P.Ai[k]'z:=λm=>by rw[Dy z,AU,Hd]
 refine⟨⟨_,b1,by omega⟩,λm=>?_⟩;rw[b2,H];by_cases e:m=P.Ai[k]'z
 ·rw[Ae e,Ae ((d m).2 (.inr e)),e,hl]
 ·rw[Aa e];by_cases I:m∈P.Ai.take k
  ·rw[Ae I,Ae ((d m).2 (.inl I))]
  ·rw[Aa I,Aa λh=>((d m).1 h).elim I e]
structure Mt (P:PD) (i:Nat):Prop where
 AQ:P.D.n.AQ=3*(i:Int)+1
 refQ:P.D.n.Bl=0
 HI:P.D.n.fulls=0
 AA:P.D.n.AA=1152921504606846976
 Ap:Bg P i
 Fu:∀m c,P.fl m=some c->BV c
 AI:P.D.AI=P.D.A4
 Al:P.D.As=[]
def Io.bR(h:Io Q i)(z:Cm Q (N+1) R):Mt Q.av.2 i:=by
 have H:=h.Ap.av;have d:=z.av.2.2;have e:Q.av.2.D = {Q.D with AI:=Q.D.A4,As:=[],n:={Q.D.n with AQ:=Q.D.n.AQ+1}}:=by
  unfold PD.av DC;dsimp only
  rw[z.bg];dsimp only
  rw[Ae rfl]
 refine⟨?_,?_,?_,?_,H,λm c E=>h.Fu m c (by rw[<-d];exact E),?_,?_⟩
 ·rw[e];have:=h.AQ;dsimp only;omega
 ·rw[e];exact h.refQ
 ·rw[e];exact h.HI
 ·rw[e];exact h.AA
 ·rw[e]
 ·rw[e]
def I2.Ck{d:Bs->Option Bs}(h:I2 P d M P.Ai.length Q)(W:Cm P N R)(z:∀m,d m≠none↔P.bs m≠none)(hl:P.Ai.length<=400000):
 (∀m,Q.av.2.bs m=d m)/\Q.av.2.Ai=P.Ai/\(∃O,Cm Q.av.2 100000000000 O)/\Fit Q.av.2 P.Ai.length 0 (P.Ai.length*M)/\Mt Q.av.2 P.Ai.length:=by
 obtain⟨⟨T,E,Y⟩,I⟩:=h;obtain⟨s1,s2,s3⟩:=Cm.dc (N:=100000000000) (E.cm.af (by omega) (Ao _));have e:∀m,Q.av.2.bs m=d m:=λm=>by
  rw[s3,I,Cf];by_cases H:m∈P.Ai
  ·rw[Ae H]
  ·rw[Aa H];have:=mt Es.2 H;have L:=mt (z m).1 this;simp at L;exact L.symm
 refine⟨e,A0Y W s2 λm=>by rw[e];exact z m,⟨_,s2⟩,(E.BQ.bR s1).af (Ao _) (Ao _) Y,E.TO.bR (N:=100000000000) (E.cm.af (by omega) (Ao _))⟩
end
def LR(l:Bs)(q:Nat):Bs:=l.set (q/8) (l.getD (q/8) 0 ^^^ UInt8.ofNat (2 ^ (q % 8)))
def Dc(l:Bs)(a:Nat)(d:Int):Nat->Bs
 | 0=>l
 | k+1=>if a+k<8*l.length/\(d >>> k) % 2=1 then LR (Dc l a d k) (a+k) else Dc l a d k
def A2v(l:Bs)(q:Nat):(LR l q).length=l.length:=by simp[LR]
def JV(l:Bs)(a:Nat)(d:Int):∀k,(Dc l a d k).length=l.length
 | 0=>rfl
 | k+1=>by
  unfold Dc;split
  ·rw[A2v,JV l a d k]
  ·exact JV l a d k
def Ox(l:Bs)(a:Nat)(d:Int):∀k,∃m,m<2 ^ k/\HN l (Dc l a d k) a m/\(d=0->m=0)
 | 0=>⟨0,by decide,HN.bI l a,λ_=>rfl⟩
 | k+1=>by
  obtain⟨m,H,E,L⟩:=Ox l a d k;have hp:2 ^ (k+1)=2*2 ^ k:=by rw[J4,Hb]
  unfold Dc;by_cases h:a+k<8*l.length/\(d >>> k) % 2=1
  ·rw[Ae h];(have z:(a+k)/8<(Dc l a d k).length:=by rw[JV];omega);refine⟨m+2 ^ k,by omega,?_,λI=>?_⟩
   ·unfold LR;rw[He,DL z];exact E.fU H z
   ·exfalso;have:=h.2;rw[I]at this;simp at this
  ·rw[Aa h];exact⟨m,by omega,E,L⟩
def RR(l:Bs)(a:Nat)(d:Int){k:Nat}(h:8*l.length<=a+k):∀j,Dc l a d (k+j)=Dc l a d k
 | 0=>rfl
 | j+1=>by
  show (if a+(k+j)<8*l.length/\(d >>> (k+j)) % 2=1 then _ else Dc l a d (k+j))=_;rw[Aa (λz=>by have:=z.1;omega),RR l a d h j]
def GS(P:PD)(i:Nat)(a:Nat)(d:Int)(m:Bs):Option Bs:=
 if P.Ai[i]?=some m then (P.bs m).map λl=>Dc l a d 32 else P.bs m
def A20(P:PD)(i a:Nat)(d:Int)(m:Bs):GS P i a d m≠none↔P.bs m≠none:=by
 unfold GS;split<;>cases P.bs m<;>simp
def A2Z{P Q:PD}{i a:Nat}{d:Int}(h:∀m,Q.bs m=GS P i a d m)(Y:Q.Ai=P.Ai):(∀m,Q.bs m=P.bs m)\/(d≠0/\∃nm l es,Ex P Q nm l es):=by
 by_cases E:d=0
 ·left;intro m;rw[h m];unfold GS;split
  ·cases hb:P.bs m with
   | none=>rfl
   | some l=>
    obtain⟨k,-,z,O⟩:=Ox l a d 32;have I:=O E;subst I;have e:Dc l a d 32=l:=LK z.1 (by rw[z.2];simp);simp[e]
  ·rfl
 ·cases hi:P.Ai[i]? with
  | none=>
   left;intro m;rw[h m];unfold GS;rw[hi,Aa (by simp)]
  | some nm=>
   right;refine⟨E,?_⟩;have hm:=KM hi;obtain⟨l,H⟩:=JL.1 (Es.1 hm);obtain⟨k,L,z,-⟩:=Ox l a d 32;refine⟨nm,l,_,Ex.by (λx W=>?_) H ?_ z L Y⟩
   ·rw[h x];unfold GS;rw[hi,Aa (λe=>W (KB e).symm)]
   ·rw[h nm];unfold GS;rw[hi,Ae rfl,H];rfl
section
variable{w w':ga}{b H i k T M:Nat}{P Q:PD}{aA:Bs->Option Bs}
def Fj(S:Nat->Prop)(K b:Nat)(Q:PD)(w:ga):Prop:=K<=w.heap.size/\(∀x,K<=x->S x)/\∃Ft,Bf w b Q Ft/\(∀x,Ft x->x<w.heap.size)/\∀x,Ft x->S x
def Fj.aJ{S:Nat->Prop}(h:Fj S H b Q w)(d:A3 Ab w w'):Fj S H b Q w':=by
 obtain⟨I,E,Ft,L,z,O⟩:=h;exact⟨AJ I d.Aj,E,Ft,B1.ay L z d,λx W=>Bi (z x W) d.Aj,O⟩
def Fj.eI{S:Nat->Prop}(h:Fj S H b Q w)(E:A3 (λ_=>False) w w')(W:w.heap.size<w'.heap.size):Fj (λx=>S x/\x≠w.heap.size) (w.heap.size+1) b Q w':=by
 obtain⟨hH,I,Ft,L,z,O⟩:=h;exact⟨W,λx d=>⟨I x (by omega),by omega⟩,Ft,B1.ay L z E,λx d=>Bi (z x d) E.Aj,λx d=>⟨O x d,by have:=z x d;omega⟩⟩
def Fj.aZ{S d:Nat->Prop}{E:Nat}(h:Fj S H b Q w)(Y:∀x,S x->d x)(L:E<=w.heap.size)(z:∀x,E<=x->d x):Fj d E b Q w:=by
 obtain⟨-,-,Ft,O,I,W⟩:=h;exact⟨L,z,Ft,O,I,λx hx=>Y x (W x hx)⟩
def Fj.dh{S Ft:Nat->Prop}{P':PD}(E:H<=w.heap.size)(z:∀x,H<=x->S x)(I:∀x,Ft x->S x)(Y:EA w Ft w' b P'.D P'.F):A3 S w w'/\Fj S H b P' w':=by
 obtain⟨c,d,O,q2,W⟩:=Y;exact⟨c.af λx _ L=>I x L,AJ E c.Aj,z,d,O,q2,λx hx=>(W x hx).elim (I x) λh=>z x (AJ E h)⟩
def Fj.ba{S:Nat->Prop}(h:Fj S H b Q w)(hB:Jc Q i T)(nm l:gg)(hi:i+1<=400000)(hT:T+nm.size+l.size<=3000000):
 Calls Tryz.prog 83 #[.pointer (some ⟨b,0,none⟩),.string nm] w λe I=>∃n1,e=.returned (.int .i64 n1)/\A3 S w I/\
  ∀w2,A3 (λ_=>False) I w2->Calls Tryz.prog 84 #[.pointer (some ⟨b,0,none⟩),.string nm,.string l] w2 λe L=>∃n2,e=.returned (.int .i64 n2)/\A3 S w L/\
   ∀E,A3 (λ_=>False) L E->Calls Tryz.prog 85 #[.pointer (some ⟨b,0,none⟩),.string nm] E λe w5=>∃n3,e=.returned (.int .i64 n3)/\A3 S w w5/\Fj S H b (Q.ba nm.data.toList l.data.toList) w5:=by
 obtain⟨hH,hS,Ft,h1,h2,h3⟩:=h;have hd:=hB.BQ.A4;have hcg:=hB.BQ.Al;have d:=hB.BQ.ai nm;refine(Vv h1 nm Q.D.AR Q.D.cg ⟨by omega,by omega⟩).mono ?_;rintro e I⟨rfl,hA⟩;obtain⟨k1,s1⟩:=Fj.dh (P':=(Q.ai nm).2) hH hS h3 hA;refine⟨_,rfl,k1,λw2 k2=>?_⟩;obtain⟨aD,-,Ft2,g1,g2,g3⟩:=s1.aJ k2;have Y:∀f,lookup (Q.ai nm).2.D.A4 nm=some f->((Q.ai nm).2.F f).1.length+l.size<=70368744177664:=λf hf=>by have:=d.B4 f (FP hf);omega
 refine(Wc g1 nm l d.AA (AJ d.cV (AJ (Ih hi (show T<=3000000 by omega)) (by decide))) d.BC Y).mono ?_;rintro e L⟨rfl,aB⟩;have e2:(A6 l.data.toList)=l:=FO l
 obtain⟨k3,s3⟩:=Fj.dh (P':=((Q.ai nm).2.ak nm l.data.toList).2) aD hS g3 (by
  have hx:((Q.ai nm).2.ak nm l.data.toList).2=⟨(Bj (Q.ai nm).2.D (Q.ai nm).2.F nm l).2.1,(Bj (Q.ai nm).2.D (Q.ai nm).2.F nm l).2.2⟩:=by unfold PD.ak;rw[e2]
  rw[hx];exact aB)
 have z:=(k1.Av k2 λ_ h _=>h.elim).Av k3 λ_ h _=>h;refine⟨_,rfl,z,λE k4=>?_⟩;obtain⟨W,-,Ft4,r1,r2,r3⟩:=s3.aJ k4;refine(On r1 nm).mono ?_;rintro e w5⟨rfl,O⟩;obtain⟨k5,s5⟩:=Fj.dh (P':=(((Q.ai nm).2.ak nm l.data.toList).2.ad nm).2) W hS r3 O;refine⟨_,rfl,(z.Av k4 λ_ h _=>h.elim).Av k5 λ_ h _=>h,?_⟩;have e1:Q.ba nm.data.toList l.data.toList=(((Q.ai nm).2.ak nm l.data.toList).2.ad nm).2:=by unfold PD.ba PD.AV;rw[FO]
 rw[e1];exact s5
end
end
end Go.Proofs.YtodcnkbblippnaaGreatDoor
