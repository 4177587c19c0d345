/- Part 12 of a proof: walks of the program. -/
import Derived.Test.YtodcnkbblippnaaGreatDoorPart11
namespace Go.Proofs.YtodcnkbblippnaaGreatDoor
set_option maxRecDepth 100000
set_option maxHeartbeats 32000000
set_option linter.defProp false
open Go.Proofs.Tryz
section
open Go.RowKit
def PD.dl(P:PD):Nat:=P.D.A4.length
def Hk(P:PD):P.Ax.length=P.dl:=by
 unfold PD.Ax PD.dl;rw[F9,(L9 P.D.A4).length_eq,F9]
def A08(P:PD)(nm:ByteArray):(P.ai nm).2.dl<=P.dl+1:=by
 unfold PD.dl PD.ai CM;split
 ·exact Gl _
 ·dsimp only;split
  ·simp
  ·exact Gl _
def A1a(P:PD)(f:Nat)(x:ByteArray)(d e:Int):(BA P.D P.F f x d e).2.1.A4=P.D.A4:=by
 unfold BA;split
 ·dsimp only;split<;>rfl
 ·rfl
def A09(P:PD)(nm:ByteArray)(l:Bs):(P.an nm l).2.dl=P.dl:=by
 unfold PD.dl PD.an Bp;cases lookup P.D.A4 nm with
 | none=>rfl
 | some f=>
  dsimp only
  have h:∀d e,(BA {P.D with n:=(bg P.D.n).2.2} P.F f (A8 l) d e).2.1.A4=P.D.A4:=λd e=>A1a ⟨{P.D with n:=(bg P.D.n).2.2},P.F⟩ f (A8 l) d e;split
  ·rw[h]
  ·split
   ·rw[h]
   ·rfl
def TP(P:PD)(nm:ByteArray):(P.ae nm).2.dl=P.dl:=by
 unfold PD.dl PD.ae CA;cases lookup P.D.A4 nm<;>rfl
def TR(P:PD)(nm:ByteArray):(P.az nm).2.dl<=P.dl:=by
 unfold PD.dl PD.az Dg;split
 ·exact As _
 ·dsimp only;split
  ·dsimp only;rw[AY,BU,Cu];omega
  ·exact As _
def TQ(P:PD)(old nm:ByteArray):(P.aO old nm).2.dl<=P.dl+1:=by
 unfold PD.dl PD.aO CQ;cases lookup P.D.A4 old with
 | none=>exact Gl _
 | some f=>
  dsimp only
  split
  ·exact Gl _
  ·dsimp only;split
   ·dsimp only
    have:=NV P.D.A4 (B2 P.D.A4 old).toNat nm P.D.A4.length;rw[AY];simp;omega
   ·exact Gl _
def L7(P:PD)(nm:Bs)(s:Nat)(l:Bs):(P.aI nm s l).2.dl<=P.dl+1:=by
 have d:=A08 P (A8 nm);have h:((P.ai (A8 nm)).2.ad (A8 nm) s l).2.2.dl=(P.ai (A8 nm)).2.dl:=A09 _ _ _;unfold PD.aI;split
 ·exact d
 ·split
  ·rw[h];exact d
  ·rw[TP,h];exact d
def Mr:∀(l:List Bs) (P:PD),(PD.aL l P).2.dl<=P.dl
 | [],P=>As _
 | x::r,P=>by
  have d:=TR P (A8 x);unfold PD.aL;split
  ·exact d
  ·exact AM (Mr r _) d
def OX:∀(l:List Bs) (P:PD),(PD.ax l P).2.dl=P.dl
 | [],P=>rfl
 | x::r,P=>by
  have d:=TP P (A8 x);unfold PD.ax;split
  ·exact d
  ·exact(OX r _).trans d
def K1:∀(fresh:List (List Pu)) (last:Int) (kept:List Int) (P:PD),(PD.ah fresh last kept P).2.2.2.dl<=P.dl+fresh.length/\(PD.ah fresh last kept P).2.2.1.length<=kept.length+fresh.length
 | [],last,kept,P=>⟨As _,by simp[PD.ah]⟩
 | l::r,last,kept,P=>by
  have h1:(P.aK (last+1) l).2.dl<=P.dl+1:=L7 _ _ _ _;have d:PD.ah (l::r) last kept P=if (P.aK (last+1) l).1≠0 then ((P.aK (last+1) l).1,last+1,kept,(P.aK (last+1) l).2) else PD.ah r (last+1) (kept++[last+1]) (P.aK (last+1) l).2:=rfl
  rw[d];split
  ·exact⟨by simp;omega,by simp⟩
  ·obtain⟨i1,h⟩:=K1 r (last+1) (kept++[last+1]) (P.aK (last+1) l).2;exact⟨by simp;omega,by simp at h ⊢;omega⟩
def OY(A:Ar)(P:PD)(l:List Int):(A.ag P l).2.2.dl<=P.dl+2:=by
 have d:(P.ag (A.j.A9+1) l).2.dl<=P.dl+2:=by
  unfold PD.ag;have h2:=L7 P Bo (AE AI) (Ch (A.j.A9+1) l);split
  ·omega
  ·have h3:=TQ (P.aI Bo (AE AI) (Ch (A.j.A9+1) l)).2 (A8 Bo) (A8 AI);omega
 unfold Ar.ag;split
 ·exact PG _ _
 ·split
  ·exact d
  ·exact d
def M7(A:Ar)(P:PD):(A.aU P).length<=P.dl:=by
 rw[<-Hk];unfold Ar.aU;exact Jj _ _
section
variable {P Q:PD} {N R:Nat} {A:Ar}
def AG.ay(h:AG P Q)(kept:List Int)(fresh:List (List Pu))(hc:Cm Q (N+A.AP.length+2*Q.dl+4*fresh.length+8) (R+Di fresh+12+8*(kept.length+fresh.length)))(d:(A.ay P kept fresh).1=0):
 (A.ay Q kept fresh).1=0/\(A.ay P kept fresh).2.1=(A.ay Q kept fresh).2.1/\AG (A.ay P kept fresh).2.2 (A.ay Q kept fresh).2.2/\Cm (A.ay Q kept fresh).2.2 N R:=by
 unfold Ar.ay at d ⊢;dsimp only at d ⊢;by_cases L:(A.C P).1=0
 ·rw[Ad (nn L)]at d;obtain⟨a1,a2,a3,a4⟩:=h.C (N:=N+2*Q.dl+4*fresh.length+8) (hc.aa (by omega) (As _)) L;rw[Ad (nn L),Ad (nn a1)];rw[a2]at d ⊢;have d1:(A.C Q).2.2.dl=Q.dl:=by unfold Ar.C;split<;>exact OX _ _
  by_cases H:((A.C Q).2.1.aq (A.C P).2.2).1=0
  ·rw[Ad (nn H)]at d;have o1:=M7 (A.C Q).2.1 (A.C Q).2.2;obtain⟨b1,b2,b3⟩:=a3.aq (A:=(A.C Q).2.1) (N:=N+Q.dl+4*fresh.length+8) (a4.aa (by omega) (As _)) H;(have d2:((A.C Q).2.1.aq (A.C Q).2.2).2.dl<=Q.dl:=by rw[<-d1];exact Mr _ _);rw[Ad (nn H),Ad (nn b1)];by_cases W:(PD.ah fresh (A.C Q).2.1.A9 kept ((A.C Q).2.1.aq (A.C P).2.2).2).1=0
   ·rw[Ad (nn W)]at d;obtain⟨c1,c2,c3,c4,c5⟩:=AG.ah (N:=N+Q.dl+fresh.length+8) (R:=R+12+8*(kept.length+fresh.length)) fresh (A.C Q).2.1.A9 kept b2 (b3.aa (by omega) (by omega)) W;obtain⟨d3,d4⟩:=K1 fresh (A.C Q).2.1.A9 kept ((A.C Q).2.1.aq (A.C Q).2.2).2;rw[Ad (nn W),Ad (nn c1)];rw[c2,c3]at d ⊢;obtain⟨A2,aA⟩:∃A2:Ar,({ (A.C Q).2.1 with A9:=(PD.ah fresh (A.C Q).2.1.A9 kept ((A.C Q).2.1.aq (A.C Q).2.2).2).2.1}:Ar)=A2:=⟨_,rfl⟩;rw[aA]at d ⊢;generalize hsg:(PD.ah fresh (A.C Q).2.1.A9 kept ((A.C Q).2.1.aq (A.C Q).2.2).2).2.2.1=sg at d d4 ⊢;obtain⟨Y,X⟩:∃Y,(PD.ah fresh (A.C Q).2.1.A9 kept ((A.C Q).2.1.aq (A.C P).2.2).2).2.2.2=Y:=⟨_,rfl⟩;obtain⟨z,E⟩:∃z,(PD.ah fresh (A.C Q).2.1.A9 kept ((A.C Q).2.1.aq (A.C Q).2.2).2).2.2.2=z:=⟨_,rfl⟩;rw[X]at d c4;rw[X,E];rw[E]at c4 c5 d3;by_cases I:(A2.ag Y sg).1=0
    ·rw[Ad (nn I)]at d;obtain⟨e1,e2,e3,e4⟩:=c4.cD (A:=A2) (segs:=sg) (N:=N+Q.dl+fresh.length+4) (c5.aa (by omega) (As _)) (by omega) I;have d5:=OY A2 z sg;rw[Ad (nn I),Ad (nn e1)];rw[e2]at d ⊢;unfold Ar.aY at d ⊢;by_cases O:((A2.ag z sg).2.1.aq (A2.ag Y sg).2.2).1=0
     ·rw[Ad (nn O)]at d;have o2:=M7 (A2.ag z sg).2.1 (A2.ag z sg).2.2;obtain⟨f1,f2,f3⟩:=e3.aq (A:=(A2.ag z sg).2.1) (N:=N+1) (e4.aa (by omega) (As _)) O;obtain⟨g1,g2,g3⟩:=f2.aJ (N:=N) f3 d;rw[Ad (nn O),Ad (nn f1)];exact⟨g1,rfl,g2,g3.aa (As _) (by omega)⟩
     ·rw[Ah O]at d;exact absurd d O
    ·rw[Ah I]at d;exact absurd d I
   ·rw[Ah W]at d;exact absurd d W
  ·rw[Ah H]at d;exact absurd d H
 ·rw[Ah L]at d;exact absurd d L
end
def Cp(n:DN)(e:Int)(d:DN):Prop:=
 (e≠5/\e≠6/\d.Bt=n.Bt/\d.fulls=n.fulls/\d.AX=n.AX)\/(e=5/\d.Bt=wrap64 (n.Bt+1)/\d.fulls=n.fulls)\/(e=6/\d.Bt=wrap64 (n.Bt+1)/\d.fulls=wrap64 (n.fulls+1)/\d.AX=n.AX)
def Cp.I(n:DN){e:Int}(d:e≠5)(h:e≠6):Cp n e n:=.inl ⟨d,h,rfl,rfl,rfl⟩
def Cp.Ap{n E n2:DN}{a e:Int}(h:Cp n a E)(H:a=0)(d:Cp E e n2):Cp n e n2:=by
 subst H;rcases h with⟨_,_,L,O,I⟩|⟨z,_⟩|⟨z,_⟩
 ·unfold Cp at d ⊢;rw[L,O,I]at d;exact d
 ·cases z
 ·cases z
def K9(n:DN):Cp n (bg n).2.1 (bg n).2.2:=by
 unfold bg;dsimp only
 split
 ·exact .inr (.inl ⟨rfl,rfl,rfl⟩)
 ·split
  ·exact .inr (.inl ⟨rfl,rfl,rfl⟩)
  ·split
   ·exact .inr (.inl ⟨rfl,rfl,rfl⟩)
   ·exact .inl ⟨by simp,by simp,rfl,rfl,rfl⟩
def Gh(n:DN):(bg n).2.1=0\/(bg n).2.1=5:=by
 unfold bg;dsimp only
 split
 ·exact .inr rfl
 ·split
  ·exact .inr rfl
  ·split
   ·exact .inr rfl
   ·exact .inl rfl
section
variable {P:PD} {A:Ar} {J:Jn} {nm old:ByteArray}
def Lg(P:PD)(nm:ByteArray):Cp P.D.n (P.ai nm).1 (P.ai nm).2.D.n:=by
 unfold PD.ai CM;split
 ·exact Cp.I _ (by simp) (by simp)
 ·have:=K9 P.D.n;dsimp only
  split<;>exact this
def MH(P:PD)(nm:ByteArray):Cp P.D.n (P.ae nm).1 (P.ae nm).2.D.n:=by
 unfold PD.ae CA;split
 ·exact Cp.I _ (by simp) (by simp)
 ·exact K9 P.D.n
def Ux(P:PD):Cp P.D.n P.aJ.1 P.aJ.2.D.n:=by
 have:=K9 P.D.n;unfold PD.aJ DH;dsimp only
 split<;>exact this
def Uz(P:PD)(nm:ByteArray):Cp P.D.n (P.az nm).1 (P.az nm).2.D.n:=by
 have:=K9 P.D.n;unfold PD.az Dg;split
 ·exact Cp.I _ (by simp) (by simp)
 ·dsimp only
  split<;>exact this
def A2J(P:PD)(old nm:ByteArray):Cp P.D.n (P.aO old nm).1 (P.aO old nm).2.D.n:=by
 have:=K9 P.D.n;unfold PD.aO CQ;split
 ·exact Cp.I _ (by simp) (by simp)
 ·split
  ·exact Cp.I _ (by simp) (by simp)
  ·dsimp only
   split<;>exact this
def UD(D:DS)(F:Nat->FC)(f:Nat)(x:ByteArray)(z e:Int)(n:DN)(h:Cp n e D.n)(E:e=0\/e=5):Cp n (BA D F f x z e).1 (BA D F f x z e).2.1.n:=by
 unfold BA;split
 ·dsimp only
  rcases E with rfl|rfl
  ·rw[Ah rfl,Ah rfl];rcases h with⟨_,_,I,L,H⟩|⟨d,_⟩|⟨d,_⟩
   ·exact .inr (.inr ⟨rfl,by dsimp only;rw[I],by dsimp only;rw[L],H⟩)
   ·cases d
   ·cases d
  ·rw[Ad (by decide),Ad (by decide)];exact h
 ·exact h
def A2R(P:PD)(nm:ByteArray)(l:Bs):Cp P.D.n (P.an nm l).1 (P.an nm l).2.D.n:=by
 have d:=K9 P.D.n;have h:=Gh P.D.n;unfold PD.an Bp;split
 ·exact Cp.I _ (by simp) (by simp)
 ·dsimp only
  split
  ·exact UD _ _ _ _ _ _ _ d h
  ·split
   ·exact UD _ _ _ _ _ _ _ d h
   ·exact d
def MJ(P:PD)(nm:ByteArray)(s:Nat)(l:Bs):Cp P.D.n (P.ad nm s l).2.1 (P.ad nm s l).2.2.D.n:=A2R P nm (AR s l)
def Cz{x:Int}(h:¬x≠0):x=0:=by omega
def MG(P:PD)(nm:Bs)(s:Nat)(l:Bs):Cp P.D.n (P.aI nm s l).1 (P.aI nm s l).2.D.n:=by
 unfold PD.aI;split
 ·exact Lg P _
 ·rename_i d;split
  ·exact(Lg P _).Ap (Cz d) (MJ _ _ _ _)
  ·rename_i h;exact((Lg P _).Ap (Cz d) (MJ _ _ _ _)).Ap (Cz h) (MH _ _)
def Uy:∀(l:List Bs) (P:PD),Cp P.D.n (PD.ax l P).1 (PD.ax l P).2.D.n
 | [],P=>Cp.I _ (by simp[PD.ax]) (by simp[PD.ax])
 | nm::r,P=>by
  unfold PD.ax;split
  ·exact MH P _
  ·rename_i d;exact(MH P _).Ap (Cz d) (Uy r _)
def MI:∀(l:List Bs) (P:PD),Cp P.D.n (PD.aL l P).1 (PD.aL l P).2.D.n
 | [],P=>Cp.I _ (by simp[PD.aL]) (by simp[PD.aL])
 | nm::r,P=>by
  unfold PD.aL;split
  ·exact Uz P _
  ·rename_i d;exact(Uz P _).Ap (Cz d) (MI r _)
def K8(A:Ar)(P:PD):Cp P.D.n (A.C P).1 (A.C P).2.2.D.n:=by
 have:=Uy A.AP P;unfold Ar.C;split
 ·exact this
 ·rename_i d;rw[Cz d]at this;exact this
def UC(J:Jn)(P:PD):Cp P.D.n (J.au P).1 (J.au P).2.2.D.n:=by
 unfold Jn.au;split
 ·exact Lg P _
 ·rename_i d;have:=(Lg P _).Ap (Cz d) (MJ (P.ai (A8 (Ae (J.A9+1)))).2 (A8 (Ae (J.A9+1))) (AE (Ae (J.A9+1))) (AQ J.puts));dsimp only
  split
  ·exact this
  ·rename_i h;rw[Cz h]at this;exact this
def UA(J:Jn)(P:PD)(p:Pu):Cp P.D.n (J.av P p).2.1 (J.av P p).2.2.2.D.n:=by
 unfold Jn.av;split
 ·exact Cp.I _ (by simp) (by simp)
 ·exact MJ P _ _ _
def A2M(J:Jn)(P:PD)(p:Pu):Cp P.D.n (J.ad P p).2.1 (J.ad P p).2.2.2.D.n:=by
 unfold Jn.ad;split
 ·split
  ·exact UC J P
  ·rename_i d;exact(UC J P).Ap (Cz d) (UA _ _ p)
 ·exact UA J P p
def A2Q(A:Ar)(P:PD)(p:Pu):Cp P.D.n (A.ad P p).2.1 (A.ad P p).2.2.2.D.n:=by
 unfold Ar.ad;split
 ·exact K8 A P
 ·rename_i d;exact(K8 A P).Ap (Cz d) (A2M _ _ p)
def A2L(J:Jn)(P:PD):Cp P.D.n (J.ae P).1 (J.ae P).2.D.n:=by
 unfold Jn.ae;split
 ·exact Cp.I _ (by simp) (by simp)
 ·exact MH P _
def A2P(A:Ar)(P:PD):Cp P.D.n (A.ae P).1 (A.ae P).2.2.D.n:=by
 unfold Ar.ae;split
 ·exact K8 A P
 ·rename_i z;have h:=(K8 A P).Ap (Cz z) (A2L (A.C P).2.1.j (A.C P).2.2);split
  ·exact h
  ·rename_i d;exact h.Ap (Cz d) (Ux _)
def UB:∀(fresh:List (List Pu)) (last:Int) (kept:List Int) (P:PD),Cp P.D.n (PD.ah fresh last kept P).1 (PD.ah fresh last kept P).2.2.2.D.n
 | [],_,_,P=>Cp.I _ (by simp[PD.ah]) (by simp[PD.ah])
 | l::r,last,kept,P=>by
  unfold PD.ah;split
  ·exact MG P _ _ _
  ·rename_i d;exact(MG P _ _ _).Ap (Cz d) (UB r _ _ _)
def A2K(P:PD)(d:Int)(segs:List Int):Cp P.D.n (P.ag d segs).1 (P.ag d segs).2.D.n:=by
 unfold PD.ag;split
 ·exact MG P _ _ _
 ·rename_i h;exact(MG P _ _ _).Ap (Cz h) (A2J _ _ _)
def A2O(A:Ar)(P:PD)(segs:List Int):Cp P.D.n (A.ag P segs).1 (A.ag P segs).2.2.D.n:=by
 have:=A2K P (A.j.A9+1) segs;unfold Ar.ag;split
 ·exact Cp.I _ (by simp) (by simp)
 ·split
  ·exact this
  ·rename_i d;rw[Cz d]at this;exact this
def A2N(A:Ar)(P:PD):Cp P.D.n (A.aY P).1 (A.aY P).2.2.D.n:=by
 unfold Ar.aY;split
 ·exact MI _ P
 ·rename_i d;exact(MI _ P).Ap (Cz d) (Ux _)
def A2I(A:Ar)(P:PD)(kept:List Int)(fresh:List (List Pu)):Cp P.D.n (A.ay P kept fresh).1 (A.ay P kept fresh).2.2.D.n:=by
 unfold Ar.ay;dsimp only
 split
 ·exact K8 A P
 ·rename_i I;have d:=(K8 A P).Ap (Cz I) (MI ((A.C P).2.1.aU (A.C P).2.2) (A.C P).2.2);split
  ·exact d
  ·rename_i E;have h:=d.Ap (Cz E) (UB fresh (A.C P).2.1.A9 kept _);split
   ·exact h
   ·rename_i L;have z:=h.Ap (Cz L) (A2O { (A.C P).2.1 with A9:=(PD.ah fresh (A.C P).2.1.A9 kept ((A.C P).2.1.aq (A.C P).2.2).2).2.1} _ (PD.ah fresh (A.C P).2.1.A9 kept ((A.C P).2.1.aq (A.C P).2.2).2).2.2.1);split
    ·exact z
    ·rename_i H;exact z.Ap (Cz H) (A2N _ _)
def Ny(P:PD)(nm:ByteArray):(P.ae nm).1≠6:=by
 unfold PD.ae CA;split
 ·simp
 ·have:=Gh P.D.n;dsimp only;omega
def QA(P:PD):P.aJ.1≠6:=by
 have:=Gh P.D.n;unfold PD.aJ DH;dsimp only;omega
def QC:∀(l:List Bs) (P:PD),(PD.ax l P).1≠6
 | [],P=>by simp[PD.ax]
 | nm::r,P=>by
  unfold PD.ax;split
  ·exact Ny P _
  ·exact QC r _
def NH(A:Ar)(P:PD):(A.C P).1≠6:=by
 unfold Ar.C;split
 ·exact QC _ P
 ·simp
def Uv(A:Ar)(P:PD):(A.ae P).1≠6:=by
 unfold Ar.ae;split
 ·exact NH A P
 ·split
  ·unfold Jn.ae;split
   ·simp
   ·exact Ny _ _
  ·exact QA _
end
def Bu(P:PD):List (List AL):=P.D.AO::P.D.Av
structure DI (bd:Int×Int) (P:PD) (puts:List Pu) (Ac:Nat) (o:Int):Prop where
 DM:∀s∈Bu P,Holds bd (vw P.F s) puts Ac o
 Au:∀s∈Bu P,(s.map (·.2)).Nodup
 Cl:∀s∈Bu P,(s.map (·.1)).Nodup
 CK:P.D.A4∈Bu P
section
variable {bd:Int×Int} {P P':PD} {puts:List Pu} {Ac:Nat} {o:Int} {nm:Bs}
def DI.bj(h:DI bd P puts Ac o):FY P:=⟨h.Au _ h.CK,h.Cl _ h.CK⟩
def DI.cc(h:DI bd P puts Ac o)(q:List Pu):DI bd P (puts++q) Ac o:=⟨λs d=>(h.DM s d).cc q,h.Au,h.Cl,h.CK⟩
def DI.bc{d:Int}(h:DI bd P puts Ac o)(z:o<=d):DI bd P puts Ac d:=⟨λs E=>(h.DM s E).bc z,h.Au,h.Cl,h.CK⟩
def DI.a1{d:Int×Int}(h:DI bd P puts Ac o)(z:Hw bd d):DI d P puts Ac o:=⟨λs E=>(h.DM s E).a1 z,h.Au,h.Cl,h.CK⟩
def Ij{s:List AL}(d:s∈Bu P){e:AL}(z:e∈s):e.2≠P.D.AS:=λh=>P.D.cB (by
 rcases BR.1 d with rfl|d
 ·exact .inr (.inl ⟨e,z,h⟩)
 ·exact .inr (.inr ⟨s,d,e,z,h⟩))
def Kt{F F':Nat->FC}{s:List AL}(h:∀e∈s,F' e.2=F e.2):vw F' s=vw F s:=by
 funext m
 unfold vw;cases hx:lookup s (A8 m) with
 | none=>rfl
 | some f=>simp[h _ (E6 hx)]
def Ks{F:Nat->FC}{s:List AL}{g:Nat}(z:lookup s (A8 nm)=none)(m:Bs):vw F (s++[(A8 nm,g)]) m=if m=nm then some (F g) else vw F s m:=by
 unfold vw;rw[lookup_append];by_cases d:m=nm
 ·subst d;rw[z];simp[lookup]
 ·have h:¬A8 nm=A8 m:=λe=>d (FO.1 e).symm;simp[lookup,h,d]
def Holds.bJ{V V':View}(h:Holds bd V puts Ac o)(h0:V nm=none)(z:nm=Bo\/∃k,(isNum k=true/\k<=bd.2)/\nm=AF k)(c:FC)(hc:0<=c.2/\c.2<=c.1.length)(hV:∀m,V' m=if m=nm then some c else V m):Holds bd V' puts Ac o:=by
 obtain⟨ix,sg,cl,lo,nb,O,W,hs,g1,g2⟩:=h;have H:∀m,(m=AI\/(∃x∈sg,m=AF x.1)\/∃n,isNum n=true/\ix.B7<=n/\m=Ae n)->m≠nm:=by
  rintro m (rfl|⟨x,hx,rfl⟩|⟨n,hn,_,rfl⟩) e
  ·rcases z with z|⟨k,_,z⟩
   ·exact J6 (e.trans z)
   ·exact JB k (z.symm.trans e.symm)
  ·obtain⟨_,d,I,_⟩:=O.Cw x hx;rw[e,h0]at I;cases I
  ·rcases z with z|⟨k,_,z⟩
   ·exact KU n (e.trans z)
   ·exact FR n k (e.trans z)
 have E:∀m,m≠nm->V' m=V m:=λm L=>by rw[hV,Ad L]
 refine⟨ix,sg,cl,lo,nb,O.bR (λm L=>?_) (λm L=>?_) (λm d I=>?_),W,hs,λn l e=>?_,g2⟩
 ·rw[E m (H m L)];cases hv:V m with
  | none=>exact .inl ⟨rfl,rfl⟩
  | some d=>exact .inr ⟨d,d,rfl,rfl,rfl,.inl rfl⟩
 ·by_cases e:m=nm
  ·subst e;rcases z with rfl|⟨k,X,rfl⟩
   ·exact Sr bd
   ·exact Sq X.1 X.2
  ·rw[E m e]at L;exact O.Ed m L
 ·by_cases e:m=nm
  ·rw[hV,Ah e]at I;cases I;exact hc
  ·rw[E m e]at I;exact O.DX m d I
 ·obtain⟨d,d1,d2,d3⟩:=g1 n l e;have Y:=(O.A9 n l e).1;exact⟨d,by rw[E _ (H _ (.inr (.inr ⟨n,Y.1,Y.2,rfl⟩)))];exact d1,d2,d3⟩
structure Extra (P:PD) (nm:Bs) (P':PD):Prop where
 Eg:∀f,f≠P.D.AS->P'.F f=P.F f
 DX:0<=(P'.F P.D.AS).2/\(P'.F P.D.AS).2<=(P'.F P.D.AS).1.length
 AO:P'.D.AO=P.D.AO
 Hl:(P'.D.A4=P.D.A4/\P'.D.Av=P.D.Av)\/(lookup P.D.A4 (A8 nm)=none/\P'.D.A4=P.D.A4++[(A8 nm,P.D.AS)]/\P'.D.Av=P.D.Av++[P.D.A4++[(A8 nm,P.D.AS)]])
def DI.bJ(h:DI bd P puts Ac o)(H:Extra P nm P')(O:nm=Bo\/∃k,(isNum k=true/\k<=bd.2)/\nm=AF k):DI bd P' puts Ac o:=by
 have old:∀s∈Bu P,vw P'.F s=vw P.F s:=λs d=>Kt λe I=>H.Eg _ (Ij d I);rcases H.Hl with⟨d1,d2⟩|⟨d0,d1,d2⟩
 ·have es:Bu P'=Bu P:=by unfold Bu;rw[H.AO,d2]
  exact⟨λs d=>by rw[es]at d;rw[old s d];exact h.DM s d,by rw[es];exact h.Au,by rw[es];exact h.Cl,by rw[es,d1];exact h.CK⟩
 ·have es:Bu P'=Bu P++[P.D.A4++[(A8 nm,P.D.AS)]]:=by unfold Bu;rw[H.AO,d2];rfl
  have z:∀s,s∈Bu P'->s∈Bu P\/s=P.D.A4++[(A8 nm,P.D.AS)]:=λs d=>by
   rw[es]at d;rcases AU.1 d with d|d
   ·exact .inl d
   ·exact .inr (by simpa using d)
  refine⟨λs d=>?_,λs d=>?_,λs d=>?_,by rw[es,d1];simp⟩
  ·rcases z s d with d|rfl
   ·rw[old s d];exact h.DM s d
   ·refine(h.DM _ h.CK).bJ (nm:=nm) (c:=P'.F P.D.AS) (by unfold vw;rw[d0];rfl) O H.DX λm=>?_;rw[Ks d0,old _ h.CK]
  ·rcases z s d with d|rfl
   ·exact h.Au s d
   ·rw[El,GC];refine⟨h.Au _ h.CK,by simp,λa L b E=>?_⟩;simp at E;subst E;obtain⟨e,I,rfl⟩:=Ct.1 L;exact Ij h.CK I
  ·rcases z s d with d|rfl
   ·exact h.Cl s d
   ·rw[El,GC];refine⟨h.Cl _ h.CK,by simp,λa L b E=>?_⟩;simp at E;subst E;obtain⟨e,I,rfl⟩:=Ct.1 L;exact(J0.1 d0) e I
end
section
variable {bd:Int×Int} {P P':PD} {puts:List Pu} {Ac:Nat} {o:Int} {nm:Bs}
def K0(P:PD)(nm:Bs):Extra P nm (P.ai (A8 nm)).2/\((P.ai (A8 nm)).1=0->lookup (P.ai (A8 nm)).2.D.A4 (A8 nm)=some P.D.AS):=by
 unfold PD.ai CM;by_cases E:A8 nm=ByteArray.empty\/B2 P.D.A4 (A8 nm)≥0
 ·rw[Ah E];exact⟨⟨λf d=>by simp[upd,d],by simp[upd],rfl,.inl ⟨rfl,rfl⟩⟩,λh=>by cases h⟩
 ·rw[Ad E];have H:lookup P.D.A4 (A8 nm)=none:=(J8 _ _).1 (by (have:¬B2 P.D.A4 (A8 nm)≥0:=λe=>E (.inr e));omega);dsimp only
  by_cases z:(bg P.D.n).1=true
  ·rw[Ah z];refine⟨⟨λf d=>by simp[upd,d],by simp[upd],rfl,.inr ⟨H,rfl,rfl⟩⟩,λ_=>?_⟩;dsimp only
   rw[lookup_append,H];simp[lookup]
  ·rw[Ad z];exact⟨⟨λf d=>by simp[upd,d],by simp[upd],rfl,.inl ⟨rfl,rfl⟩⟩,λh=>absurd (GL h) z⟩
def TV(D:DS)(F:Nat->FC)(f:Nat)(x:ByteArray)(d e:Int):(BA D F f x d e).2.1.A4=D.A4/\(BA D F f x d e).2.1.AO=D.AO/\(BA D F f x d e).2.1.Av=D.Av/\∃j:Nat,(BA D F f x d e).2.2=upd F f ((F f).1++x.data.toList.take j,(F f).2):=by
 unfold BA;split
 ·dsimp only
  refine⟨?_,?_,?_,_,rfl⟩<;>split<;>rfl
 ·exact⟨rfl,rfl,rfl,_,rfl⟩
def Is{P:PD}{nm:ByteArray}{f:Nat}(l:Bs)(h:lookup P.D.A4 nm=some f):(P.an nm l).2.D.A4=P.D.A4/\(P.an nm l).2.D.AO=P.D.AO/\(P.an nm l).2.D.Av=P.D.Av/\
 ((P.an nm l).2.F=P.F\/∃j:Nat,(P.an nm l).2.F=upd P.F f ((P.F f).1++l.take j,(P.F f).2)):=by
 unfold PD.an Bp;rw[h];dsimp only
 have I:(A8 l).data.toList=l:=by simp[A8]
 split
 ·obtain⟨z,E,H,j,d⟩:=TV {P.D with n:=(bg P.D.n).2.2} P.F f (A8 l) (A8 l).size (bg P.D.n).2.1;exact⟨z,E,H,.inr ⟨j,by rw[d,I]⟩⟩
 ·split
  ·obtain⟨z,E,H,j,d⟩:=TV {P.D with n:=(bg P.D.n).2.2} P.F f (A8 l) ((bg P.D.n).2.2.BJ % (A8 l).size) (bg P.D.n).2.1;exact⟨z,E,H,.inr ⟨j,by rw[d,I]⟩⟩
  ·exact⟨rfl,rfl,rfl,.inl rfl⟩
def II{P:PD}{nm:ByteArray}{f:Nat}(h:lookup P.D.A4 nm=some f):(P.ae nm).2.D.A4=P.D.A4/\(P.ae nm).2.D.AO=P.D.AO/\(P.ae nm).2.D.Av=P.D.Av/\
 ((P.ae nm).2.F=P.F\/(P.ae nm).2.F=upd P.F f ((P.F f).1,(P.F f).1.length)):=by
 unfold PD.ae CA;rw[h];dsimp only
 refine⟨rfl,rfl,rfl,?_⟩;split
 ·exact .inr rfl
 ·exact .inl rfl
def Extra.an(h:Extra P nm P')(E:lookup P'.D.A4 (A8 nm)=some P.D.AS)(l:Bs):Extra P nm (P'.an (A8 nm) l).2:=by
 obtain⟨H,I,L,d⟩:=Is l E;refine⟨λf z=>?_,?_,I.trans h.AO,by rw[H,L];exact h.Hl⟩
 ·rcases d with d|⟨j,d⟩
  ·rw[d];exact h.Eg f z
  ·rw[d];simp[upd,z];exact h.Eg f z
 ·have:=h.DX;rcases d with d|⟨j,d⟩
  ·rw[d];exact this
  ·rw[d];simp only[upd,Cg,AY];omega
def Extra.ae(h:Extra P nm P')(E:lookup P'.D.A4 (A8 nm)=some P.D.AS):Extra P nm (P'.ae (A8 nm)).2:=by
 obtain⟨H,I,L,d⟩:=II E;refine⟨λf z=>?_,?_,I.trans h.AO,by rw[H,L];exact h.Hl⟩
 ·rcases d with d|d
  ·rw[d];exact h.Eg f z
  ·rw[d];simp[upd,z];exact h.Eg f z
 ·have:=h.DX;rcases d with d|d
  ·rw[d];exact this
  ·rw[d];simp only[upd,Cg];omega
def JZ(P:PD)(nm:Bs)(s:Nat)(l:Bs):Extra P nm (P.aI nm s l).2/\((P.aI nm s l).1=0->lookup (P.aI nm s l).2.D.A4 (A8 nm)=some P.D.AS/\C2 ((P.aI nm s l).2.F P.D.AS)):=by
 obtain⟨O,Y⟩:=K0 P nm;unfold PD.aI;by_cases z:(P.ai (A8 nm)).1=0
 ·rw[Ad (nn z)];have H:=Y z;have L:=O.an H (AR s l);have d:lookup ((P.ai (A8 nm)).2.an (A8 nm) (AR s l)).2.D.A4 (A8 nm)=some P.D.AS:=by rw[(Is (AR s l) H).1];exact H
  have X:((P.ai (A8 nm)).2.ad (A8 nm) s l).2.2=((P.ai (A8 nm)).2.an (A8 nm) (AR s l)).2:=rfl;by_cases I:((P.ai (A8 nm)).2.ad (A8 nm) s l).2.1=0
  ·rw[Ad (nn I),X];refine⟨L.ae d,λE=>?_⟩;obtain⟨W,_,_,_⟩:=II d;refine⟨by rw[W];exact d,?_⟩;unfold PD.ae CA at E ⊢;rw[d]at E ⊢;dsimp only at E ⊢;rw[Ah E];simp[upd,C2]
  ·rw[Ah I];exact⟨L,λh=>absurd h I⟩
 ·rw[Ah z];exact⟨O,λh=>absurd h z⟩
def DI.aI(h:DI bd P puts Ac o)(d:nm=Bo\/∃k,(isNum k=true/\k<=bd.2)/\nm=AF k)(s:Nat)(l:Bs):DI bd (P.aI nm s l).2 puts Ac o:=h.bJ (JZ P nm s l).1 d
def DI.ah:∀(fresh:List (List Pu)) (last:Int) (kept:List Int) {P:PD},DI bd P puts Ac o->0<=last->last+fresh.length<=4611686018427387904->last+fresh.length<=bd.2->DI bd (PD.ah fresh last kept P).2.2.2 puts Ac o
 | [],last,kept,P,h,_,_,_=>h
 | l::r,last,kept,P,h,h0,h1,h2=>by
  simp only[Cv]at h1 h2;have d:PD.ah (l::r) last kept P=if (P.aK (last+1) l).1≠0 then ((P.aK (last+1) l).1,last+1,kept,(P.aK (last+1) l).2) else PD.ah r (last+1) (kept++[last+1]) (P.aK (last+1) l).2:=rfl
  have z:DI bd (P.aK (last+1) l).2 puts Ac o:=h.aI (.inr ⟨last+1,⟨by unfold isNum;simp;omega,by omega⟩,rfl⟩) _ _;rw[d];split
  ·exact z
  ·exact DI.ah r (last+1) _ z (by omega) (by omega) (by omega)
def DI.cG(h:DI bd P puts Ac o)(nm:ByteArray):DI bd (P.ae nm).2 puts Ac o:=by
 cases hx:lookup P.D.A4 nm with
 | none=>
  have e:(P.ae nm).2=P:=by unfold PD.ae CA;rw[hx]
  rw[e];exact h
 | some f=>
  obtain⟨H,I,L,d⟩:=II hx;have es:Bu (P.ae nm).2=Bu P:=by unfold Bu;rw[I,L]
  refine⟨λs E=>?_,by rw[es];exact h.Au,by rw[es];exact h.Cl,by rw[es,H];exact h.CK⟩;rw[es]at E;rcases d with d|d
  ·rw[d];exact h.DM s E
  ·refine(h.DM s E).bR λm=>?_;unfold vw;cases hk:lookup s (A8 m) with
   | none=>exact⟨λc z=>by simp at z,λ_=>rfl⟩
   | some g=>
    refine⟨λc z=>?_,λO=>by simp at O⟩;simp at z;subst z;rw[d];by_cases e:g=f
    ·subst e;exact⟨_,rfl,by simp[upd],.inr (by simp[upd,C2])⟩
    ·exact⟨P.F g,by simp[upd,e],rfl,.inl rfl⟩
def DI.ax:∀(l:List Bs) {P:PD},DI bd P puts Ac o->DI bd (PD.ax l P).2 puts Ac o
 | [],P,h=>h
 | x::r,P,h=>by
  have d:=h.cG (A8 x);unfold PD.ax;split
  ·exact d
  ·exact DI.ax r d
def DI.C{A:Ar}(h:DI bd P puts Ac o):DI bd (A.C P).2.2 puts Ac o:=by
 unfold Ar.C;split
 ·exact h.ax _
 ·exact h.ax _
def DI.en(h:DI bd P puts Ac o):DI bd P.aJ.2 puts Ac o:=by
 unfold PD.aJ DH;dsimp only
 split
 ·have z:=h.CK;exact⟨λs d=>by simp[Bu]at d;subst d;exact h.DM _ z,λs d=>by simp[Bu]at d;subst d;exact h.Au _ z,λs d=>by simp[Bu]at d;subst d;exact h.Cl _ z,by simp[Bu]⟩
 ·exact⟨h.DM,h.Au,h.Cl,h.CK⟩
end
def CX(bd:Int×Int)(V:View)(ix:Ix)(sg cl:List (Int×List Pu))(lo:Option (Int×List Pu))(puts:List Pu)(Ac:Nat)(o:Int):Prop:=
 ∃nb,CW bd V ix sg cl lo/\nb<=puts.length/\C9 o (Aw sg++Aw cl) (puts.take nb)/\
  (∀n l,lo=some (n,l)->∃c,V (Ae n)=some c/\Ac<=nb+EM c l/\l=(puts.drop nb).take l.length)/\(lo=none->Ac<=nb)
section
variable {bd:Int×Int} {P P':PD} {V V':View} {ix:Ix} {sg cl:List (Int×List Pu)} {lo:Option (Int×List Pu)} {puts:List Pu} {Ac:Nat} {o:Int} {nm:Bs}
def CX.cd(h:CX bd V ix sg cl lo puts Ac o):Holds bd V puts Ac o:=by
 obtain⟨nb,d⟩:=h;exact⟨ix,sg,cl,lo,nb,d⟩
def CX.bu(h:CX bd V ix sg cl lo puts Ac o):CW bd V ix sg cl lo:=h.choose_spec.1
def Km(ix:Ix)(sg:List (Int×List Pu))(nm:Bs):Prop:=nm=AI\/(∃x∈sg,nm=AF x.1)\/∃n,isNum n=true/\ix.B7<=n/\nm=Ae n
def CX.ff(h:CX bd V ix sg cl lo puts Ac o)(L:¬Km ix sg nm)(hV:∀m,V' m=if m=nm then none else V m):CX bd V' ix sg cl lo puts Ac o:=by
 obtain⟨nb,O,X,hs,g1,g2⟩:=h;have z:∀m,m≠nm->V' m=V m:=λm I=>by rw[hV,Ad I]
 have H:∀m,V' m≠none->m≠nm:=λm I e=>I (by rw[hV,Ah e]);refine⟨nb,O.bR (λm I=>?_) (λm I=>?_) (λm d W=>?_),X,hs,λn l e=>?_,g2⟩
 ·have E:m≠nm:=λe=>L (e ▸ I);rw[z m E];cases hv:V m with
  | none=>exact .inl ⟨rfl,rfl⟩
  | some d=>exact .inr ⟨d,d,rfl,rfl,rfl,.inl rfl⟩
 ·have E:=H m I;rw[z m E]at I;exact O.Ed m I
 ·have E:=H m (by rw[W];simp);rw[z m E]at W;exact O.DX m d W
 ·obtain⟨d,d1,d2,d3⟩:=g1 n l e;have Y:=(O.A9 n l e).1;exact⟨d,by rw[z _ λe2=>L (.inr (.inr ⟨n,Y.1,Y.2,e2.symm⟩))];exact d1,d2,d3⟩
def Rt(h:FY P)(nm:ByteArray):(P.az nm).2.F=P.F/\(P.az nm).2.D.AO=P.D.AO/\
 (((P.az nm).2.D.A4=P.D.A4/\(P.az nm).2.D.Av=P.D.Av/\(P.az nm).1≠0)\/((P.az nm).2.D.A4=(P.D.A4.filter λe=>decide (e.1≠nm))/\(P.az nm).2.D.Av=P.D.Av++[P.D.A4.filter λe=>decide (e.1≠nm)])):=by
 unfold PD.az Dg;by_cases z:B2 P.D.A4 nm<0
 ·rw[Ah z];exact⟨rfl,rfl,.inl ⟨rfl,rfl,by simp⟩⟩
 ·rw[Ad z];dsimp only
  rw[TO _ _ h.Cl z];by_cases d:(bg P.D.n).1=true
  ·rw[Ah d];exact⟨rfl,rfl,.inr ⟨rfl,rfl⟩⟩
  ·rw[Ad d];exact⟨rfl,rfl,.inl ⟨rfl,rfl,λh=>d (GL h)⟩⟩
def Qk(F:Nat->FC)(s:List AL)(nm m:Bs):vw F (s.filter λe=>decide (e.1≠A8 nm)) m=if m=nm then none else vw F s m:=by
 unfold vw;rw[KT s (λx=>decide (x≠A8 nm))];by_cases d:m=nm
 ·subst d;simp
 ·have:A8 m≠A8 nm:=λe=>d (FO.1 e);simp[this,d]
def DI.eg(h:DI bd P puts Ac o)(W:CX bd P.fl ix sg cl lo puts Ac o)(L:¬Km ix sg nm):DI bd (P.az (A8 nm)).2 puts Ac o/\CX bd (P.az (A8 nm)).2.fl ix sg cl lo puts Ac o:=by
 obtain⟨H,O,X⟩:=Rt h.bj (A8 nm);rcases X with⟨d1,d2,_⟩|⟨d1,d2⟩
 ·have es:Bu (P.az (A8 nm)).2=Bu P:=by unfold Bu;rw[O,d2]
  have I:(P.az (A8 nm)).2.fl=P.fl:=by unfold PD.fl;rw[d1,H]
  exact⟨⟨λs d=>by rw[es]at d;rw[H];exact h.DM s d,by rw[es];exact h.Au,by rw[es];exact h.Cl,by rw[es,d1];exact h.CK⟩,by rw[I];exact W⟩
 ·have es:Bu (P.az (A8 nm)).2=Bu P++[P.D.A4.filter λe=>decide (e.1≠A8 nm)]:=by unfold Bu;rw[O,d2];rfl
  have z:∀s,s∈Bu (P.az (A8 nm)).2->s∈Bu P\/s=P.D.A4.filter λe=>decide (e.1≠A8 nm):=λs d=>by
   rw[es]at d;rcases AU.1 d with d|d
   ·exact .inl d
   ·exact .inr (by simpa using d)
  have E:=W.ff L (Qk P.F P.D.A4 nm);refine⟨⟨λs d=>?_,λs d=>?_,λs d=>?_,by rw[es,d1];simp⟩,?_⟩
  ·rw[H];rcases z s d with d|rfl
   ·exact h.DM s d
   ·exact E.cd
  ·rcases z s d with d|rfl
   ·exact h.Au s d
   ·exact(h.Au _ h.CK).sublist (GS.map _)
  ·rcases z s d with d|rfl
   ·exact h.Cl s d
   ·exact(h.Cl _ h.CK).sublist (GS.map _)
  ·have I:(P.az (A8 nm)).2.fl=vw P.F (P.D.A4.filter λe=>decide (e.1≠A8 nm)):=by
    funext m;unfold PD.fl vw;rw[d1,H]
   rw[I];exact E
def DI.aL:∀(l:List Bs) {P:PD},DI bd P puts Ac o->CX bd P.fl ix sg cl lo puts Ac o->(∀m∈l,¬Km ix sg m)->DI bd (PD.aL l P).2 puts Ac o/\CX bd (PD.aL l P).2.fl ix sg cl lo puts Ac o
 | [],P,h,hT,_=>⟨h,hT⟩
 | x::r,P,h,hT,hm=>by
  obtain⟨E,z⟩:=h.eg hT (hm x (BF ..));unfold PD.aL;split
  ·exact⟨E,z⟩
  ·exact DI.aL r E z λm d=>hm m (Bx _ d)
def DI.aq{A:Ar}(h:DI bd P puts Ac o)(z:CX bd P.fl A.ix sg cl lo puts Ac o)(I:A.j.Am=cl.map (·.1)++(lo.map (·.1)).toList)(d:sg.map (·.1)=A.ix.segs):DI bd (A.aq P).2 puts Ac o/\CX bd (A.aq P).2.fl A.ix sg cl lo puts Ac o:=by
 refine DI.aL _ h z λm E X=>?_;obtain⟨W,O⟩:=IU.1 E;refine O ?_;unfold Ar.Ax;rcases X with rfl|⟨x,Y,rfl⟩|⟨n,hn,H,rfl⟩
 ·simp
 ·refine Ha _ (DT ?_);rw[<-d];exact DT Y
 ·refine FE _ (Bx _ (DT ?_));rw[I];refine z.bu.Co n hn H λL=>W ?_;unfold PD.bs;rw[L];rfl
def Ej(bd:Int×Int)(P:PD)(puts:List Pu)(Ac:Nat)(o:Int)(n:Int)(f ahead:Nat):Prop:=
 lookup P.D.A4 (A8 (Ae n))=some f/\∀s∈Bu P,(∀e∈s,e.2≠f)\/(lookup s (A8 (Ae n))=some f/\EP bd (vw P.F s) puts Ac o n ahead)
def Qi{F:Nat->FC}{s:List AL}{f:Nat}{c:FC}(z:(s.map (·.2)).Nodup)(h:lookup s (A8 nm)=some f)(m:Bs):vw (upd F f c) s m=if m=nm then some c else vw F s m:=by
 unfold vw;by_cases d:m=nm
 ·subst d;rw[h];simp[upd]
 ·rw[Ad d];cases hk:lookup s (A8 m) with
  | none=>rfl
  | some g=>
   have:g≠f:=λe=>d (by
    have:=JM z (E6 hk) (E6 h) e
    exact FO.1 (Pv this).1)
   simp[upd,this]
def Ej.an{n:Int}{f ahead:Nat}{l0:List Pu}{c0:FC}(h:DI bd P puts Ac o)(hO:Ej bd P puts Ac o n f ahead)(aB:P.F f=c0)(L:c0.1=DZ (Ae n) ahead l0)(p:Pu)(hp:Bi p)(j:Nat)(hd:P'.D.A4=P.D.A4)(d:P'.D.AO=P.D.AO)(aD:P'.D.Av=P.D.Av)(hF:P'.F=upd P.F f (c0.1++(AR (EY (Ae n) ahead l0) (Bc p.1 p.2.1 p.2.2)).take j,c0.2)):
 DI bd P' (puts++[p]) Ac o/\(21<=j->Ej bd P' (puts++[p]) Ac o n f ahead)/\(j<21->DI bd P' puts Ac o):=by
 have es:Bu P'=Bu P:=by unfold Bu;rw[d,aD]
 have inj:∀ {l l':List Pu},DZ (Ae n) ahead l=DZ (Ae n) ahead l'->(∀p∈l,Bi p)->(∀p∈l',Bi p)->l=l':=λ{l l'} e W O=>by
  have X:l.length=l'.length:=by have:=Ei List.length e;rw[J4,J4]at this;omega
  have hx:DY (AT (AE (Ae n)) (AQ ahead)) l=DY (AT (AE (Ae n)) (AQ ahead)) l':=by unfold DZ at e;exact Vs e
  have r1:=M0 l (AT (AE (Ae n)) (AQ ahead)) (l.length+1) [] W (by omega) (by simp);have r2:=M0 l' (AT (AE (Ae n)) (AQ ahead)) (l.length+1) [] O (by omega) (by simp);rw[hx]at r1;rw[r1]at r2;simpa using r2
 have each:∀s∈Bu P,((∀e∈s,e.2≠f)/\vw P'.F s=vw P.F s)\/(lookup s (A8 (Ae n))=some f/\(21<=j->EP bd (vw P'.F s) (puts++[p]) Ac o n ahead)/\(j<21->Holds bd (vw P'.F s) puts Ac o)):=λs d=>by
  rcases hO.2 s d with z|⟨I,Y⟩
  ·exact .inl ⟨z,Kt λe he=>by rw[hF];simp[upd,z e he]⟩
  ·refine .inr ⟨I,?_⟩;(have H:vw P.F s (Ae n)=some c0:=by unfold vw;rw[I];simp[aB]);refine Y.an p hp j (s:=EY (Ae n) ahead l0) (λl c hc aA=>?_) (λm hm=>?_) (λc hc=>?_)
   ·rw[H]at hc;cases hc;obtain⟨ix,sg,cl,l1,nb,c1,hL,_,_,g1,g2,g3,_,_⟩:=Y;rw[H]at g1;cases g1;have X:l.length=l0.length:=by
     have:=Ei List.length (aA.symm.trans L);rw[J4,J4]at this;omega
    have key:∀(a b:List Pu) (s:Nat),DY s a=DY s b->Hh s a=Hh s b:=by
     intro a
     induction a with
     | nil=>
      intro b s e;cases b with
      | nil=>rfl
      | cons y r=>
       have:=Ei List.length e;rw[J3,J3]at this;simp at this
     | cons x a ih=>
      intro b s e;cases b with
      | nil=>
       have:=Ei List.length e;rw[J3,J3]at this;simp at this
      | cons y r=>
       simp only[DY]at e;have E:=
        List.append_inj e (by rw[Ez,Ez,EW,EW])
       have hb:=(List.append_inj E.1 (by rw[EW,EW])).1;simp only[Hh];rw[hb]at E ⊢;exact ih r _ E.2
    have e1:=aA.symm.trans L;unfold DZ at e1;unfold EY;exact(key l l0 _ (Vs e1)).symm
   ·rw[hF,Qi (h.Au s d) I,Ad hm]
   ·rw[H]at hc;cases hc;rw[hF,Qi (h.Au s d) I,Ah rfl]
 refine⟨⟨λs d=>?_,by rw[es];exact h.Au,by rw[es];exact h.Cl,by rw[es,hd];exact h.CK⟩,λhj=>⟨by rw[hd];exact hO.1,λs d=>?_⟩,λhj=>⟨λs d=>?_,by rw[es];exact h.Au,by rw[es];exact h.Cl,by rw[es,hd];exact h.CK⟩⟩
 ·rw[es]at d;rcases each s d with⟨_,H⟩|⟨_,W,O⟩
  ·rw[H];exact(h.DM s d).cc [p]
  ·by_cases hj:21<=j
   ·exact(W hj).cd
   ·exact(O (by omega)).cc [p]
 ·rw[es]at d;rcases each s d with⟨z,_⟩|⟨I,W,_⟩
  ·exact .inl z
  ·exact .inr ⟨I,W hj⟩
 ·rw[es]at d;rcases each s d with⟨_,H⟩|⟨_,_,O⟩
  ·rw[H];exact h.DM s d
  ·exact O hj
end
section
variable {bd:Int×Int} {P P':PD} {V V':View} {ix:Ix} {sg cl:List (Int×List Pu)} {lo:Option (Int×List Pu)} {puts:List Pu} {Ac:Nat} {o:Int} {nm:Bs}
def DI.e8(h:DI bd P puts Ac o)(L:Extra P nm P')(I:lookup P.D.A4 (A8 nm)=none->Holds bd (vw P'.F (P.D.A4++[(A8 nm,P.D.AS)])) puts Ac o):DI bd P' puts Ac o:=by
 have old:∀s∈Bu P,vw P'.F s=vw P.F s:=λs d=>Kt λe E=>L.Eg _ (Ij d E);rcases L.Hl with⟨d1,d2⟩|⟨d0,d1,d2⟩
 ·have es:Bu P'=Bu P:=by unfold Bu;rw[L.AO,d2]
  exact⟨λs d=>by rw[es]at d;rw[old s d];exact h.DM s d,by rw[es];exact h.Au,by rw[es];exact h.Cl,by rw[es,d1];exact h.CK⟩
 ·have es:Bu P'=Bu P++[P.D.A4++[(A8 nm,P.D.AS)]]:=by unfold Bu;rw[L.AO,d2];rfl
  have z:∀s,s∈Bu P'->s∈Bu P\/s=P.D.A4++[(A8 nm,P.D.AS)]:=λs d=>by
   rw[es]at d;rcases AU.1 d with d|d
   ·exact .inl d
   ·exact .inr (by simpa using d)
  refine⟨λs d=>?_,λs d=>?_,λs d=>?_,by rw[es,d1];simp⟩
  ·rcases z s d with d|rfl
   ·rw[old s d];exact h.DM s d
   ·exact I d0
  ·rcases z s d with d|rfl
   ·exact h.Au s d
   ·rw[El,GC];refine⟨h.Au _ h.CK,by simp,λa O b H=>?_⟩;simp at H;subst H;obtain⟨e,E,rfl⟩:=Ct.1 O;exact Ij h.CK E
  ·rcases z s d with d|rfl
   ·exact h.Cl s d
   ·rw[El,GC];refine⟨h.Cl _ h.CK,by simp,λa O b H=>?_⟩;simp at H;subst H;obtain⟨e,E,rfl⟩:=Ct.1 O;exact(J0.1 d0) e E
def CW.dq(E:CW bd V ix sg cl none)(hs:C9 o (Aw sg++Aw cl) puts)(hsafe:Ac<=puts.length){n:Int}(hn:isNum n=true)(aA:n<=bd.1)(hf:ix.B7<=n)(L:∀x∈cl,x.1<n)(j:Nat)(hV:∀m,V' m=if m=Ae n then some ((AR (AE (Ae n)) (AQ ((Aw cl).length:Int))).take j,0) else V m):
 CX bd V' ix sg cl (some (n,[])) puts Ac o/\(12<=j->EP bd V' puts Ac o n (Aw cl).length):=by
 have hpl:(AR (AE (Ae n)) (AQ ((Aw cl).length:Int))).length=12:=by rw[Ez,CL]
 have h:∀m,m≠Ae n->V' m=V m:=λm hm=>by rw[hV,Ad hm]
 have z:V' (Ae n)=some ((AR (AE (Ae n)) (AQ ((Aw cl).length:Int))).take j,0):=by rw[hV,Ah rfl]
 have O:∀x∈cl,Ae x.1≠Ae n:=λx H e=>by
  have:=FN (E.CT x H).1.1 hn e;have:=L x H;omega
 have I:12<=j->(AR (AE (Ae n)) (AQ ((Aw cl).length:Int))).take j=DZ (Ae n) ((Aw cl).length:Int) []:=λhj=>by
  rw[Er (by omega)];simp[DZ,DY]
 have W:HN ((AR (AE (Ae n)) (AQ ((Aw cl).length:Int))).take j) (Ae n) (Aw cl).length []:=by
  by_cases hj:12<=j
  ·exact .inl ⟨[],by rw[I hj];simp,by simp⟩
  ·exact .inr ⟨rfl,by rw[BU];omega⟩
 have X:CW bd V' ix sg cl (some (n,[])):=by
  refine⟨E.DC,by rw[h _ (Hg n).symm];exact E.Ii,E.segs,λx H=>by rw[h _ (FR n x.1).symm];exact E.Cw x H,λx H=>by rw[h _ (O x H)];exact E.CT x H,
   E.Am.br λx H=>by rw[h _ (O x H)],λn' l e=>by cases e;exact⟨⟨hn,hf⟩,λp hp=>(by cases hp),_,z,W⟩,?_,λk h1 h2 h3=>?_,λm hm=>?_,λm d Y=>?_⟩
  ·have:=E.EJ;simp only[Option.map_none,Option.toList_none,FF]at this;refine Ek.2 ⟨this,by simp,λa ha b hb=>?_⟩;simp at hb;subst hb;obtain⟨x,H,rfl⟩:=Ct.1 ha;exact L x H
  ·by_cases e:Ae k=Ae n
   ·have:=FN h1 hn e;subst this;simp
   ·rw[h _ e]at h3;have:=E.Co k h1 h2 h3;simp at this;simp[this]
  ·by_cases e:m=Ae n
   ·subst e;exact YU hn aA
   ·rw[h _ e]at hm;exact E.Ed m hm
  ·by_cases e:m=Ae n
   ·subst e;rw[z]at Y;cases Y;dsimp only;omega
   ·rw[h _ e]at Y;exact E.DX m d Y
 refine⟨⟨puts.length,X,As _,by rw[C6];exact hs,λn' l e=>by cases e;exact⟨_,z,by omega,by simp⟩,λe=>by cases e⟩,λhj=>?_⟩;exact⟨ix,sg,cl,[],puts.length,_,X,As _,by rw[C6];exact hs,z,I hj,rfl,by omega,by simp⟩
def Uw{nm:ByteArray}{f:Nat}(l:Bs)(h:lookup P.D.A4 nm=some f)(d:(P.an nm l).1=0):(P.an nm l).2.F=upd P.F f ((P.F f).1++l,(P.F f).2):=by
 have W:(A8 l).data.toList=l:=by simp[A8]
 unfold PD.an Bp at d ⊢;rw[h]at d ⊢;dsimp only at d ⊢;have z:∀D L e,(BA D P.F f (A8 l) L e).1=0->e=0/\(BA D P.F f (A8 l) L e).2.2=upd P.F f ((P.F f).1++l.take L.toNat,(P.F f).2):=λD L e E=>by
  unfold BA at E ⊢;split at E
  ·dsimp only at E;split at E
   ·cases E
   ·rename_i H O;exact absurd E O
  ·rename_i H;rw[Ad H,W];exact⟨E,rfl⟩
 split at d
 ·rename_i I;rw[Ah I];obtain⟨_,O⟩:=z _ _ _ d;rw[O];have:((A8 l).size:Int).toNat=l.length:=by rw[KL];simp
  rw[this,C6]
 ·rename_i I;split at d
  ·obtain⟨H,_⟩:=z _ _ _ d;exact absurd (GL H) I
  ·exact absurd (GL d) I
def MF(P:PD)(J:Jn):Extra P (Ae (J.A9+1)) (J.au P).2.2/\(∃j,(J.au P).2.2.F P.D.AS=((AR (AE (Ae (J.A9+1))) (AQ J.puts)).take j,0))/\
 ((J.au P).1=0->lookup (J.au P).2.2.D.A4 (A8 (Ae (J.A9+1)))=some P.D.AS/\(J.au P).2.2.F P.D.AS=(AR (AE (Ae (J.A9+1))) (AQ J.puts),0)):=by
 obtain⟨nm,O⟩:∃nm,Ae (J.A9+1)=nm:=⟨_,rfl⟩;obtain⟨W,e2⟩:=K0 P nm;have E:(P.ai (A8 nm)).2.F P.D.AS=([],0):=by
  unfold PD.ai;simp[upd]
 unfold Jn.au;rw[O];dsimp only
 by_cases H:(P.ai (A8 nm)).1=0
 ·rw[Ad (nn H)];have I:=e2 H;have ea:((P.ai (A8 nm)).2.ad (A8 nm) (AE nm) (AQ J.puts)).2.2=((P.ai (A8 nm)).2.an (A8 nm) (AR (AE nm) (AQ J.puts))).2:=rfl;have L:((P.ai (A8 nm)).2.ad (A8 nm) (AE nm) (AQ J.puts)).2.1=((P.ai (A8 nm)).2.an (A8 nm) (AR (AE nm) (AQ J.puts))).1:=rfl;have X:=W.an I (AR (AE nm) (AQ J.puts));obtain⟨a1,a2,a3,d⟩:=Is (AR (AE nm) (AQ J.puts)) I;have Y:∃j,((P.ai (A8 nm)).2.an (A8 nm) (AR (AE nm) (AQ J.puts))).2.F P.D.AS=((AR (AE nm) (AQ J.puts)).take j,0):=by
   rcases d with d|⟨j,d⟩
   ·exact⟨0,by rw[d,E];simp⟩
   ·exact⟨j,by rw[d];simp[upd,E]⟩
  by_cases z:((P.ai (A8 nm)).2.ad (A8 nm) (AE nm) (AQ J.puts)).2.1=0
  ·rw[Ad (nn z),ea];refine⟨X,Y,λ_=>⟨by rw[a1];exact I,?_⟩⟩;rw[Uw _ I (by rw[<-L];exact z)];simp[upd,E]
  ·rw[Ah z,ea];exact⟨X,Y,λh=>absurd h z⟩
 ·rw[Ah H];exact⟨W,⟨0,by rw[E];simp⟩,λh=>absurd h H⟩
def DI.au(h:DI bd P puts Ac o){J:Jn}(hL:CW bd P.fl ix sg cl none)(hs:C9 o (Aw sg++Aw cl) puts)(z:Ac<=puts.length)(hn:isNum (J.A9+1)=true)(I:J.A9+1<=bd.1)(hf:ix.B7<=J.A9+1)(H:∀x∈cl,x.1<J.A9+1)(hp:J.puts=((Aw cl).length:Int)):
 DI bd (J.au P).2.2 puts Ac o/\((J.au P).1=0->Ej bd (J.au P).2.2 puts Ac o (J.A9+1) P.D.AS (Aw cl).length):=by
 obtain⟨L,⟨j,b2⟩,Y⟩:=MF P J;rw[hp]at b2 Y;have E:=Kt λe X=>L.Eg _ (Ij h.CK X);have W:=h.e8 L λh0=>by
  refine((hL.dq hs z hn I hf H j (V':=vw (J.au P).2.2.F (P.D.A4++[(A8 (Ae (J.A9+1)),P.D.AS)])) λm=>?_).1).cd;rw[Ks h0,b2,E];rfl
 refine⟨W,λO=>?_⟩;obtain⟨c1,c2⟩:=Y O;refine⟨c1,λs d=>?_⟩;rcases L.Hl with⟨d1,d2⟩|⟨d0,d1,d2⟩
 ·
  rw[d1]at c1;exact absurd (E6 c1) (λhm=>Ij h.CK hm rfl)
 ·have es:Bu (J.au P).2.2=Bu P++[P.D.A4++[(A8 (Ae (J.A9+1)),P.D.AS)]]:=by unfold Bu;rw[L.AO,d2];rfl
  rw[es]at d;rcases AU.1 d with d | d
  ·exact .inl λe X=>Ij d X
  ·simp at d;subst d;refine .inr ⟨by rw[<-d1];exact c1,?_⟩;refine(hL.dq hs z hn I hf H 12 (V':=vw (J.au P).2.2.F (P.D.A4++[(A8 (Ae (J.A9+1)),P.D.AS)])) λm=>?_).2 (As _);rw[Ks d0,c2,E,Er (by rw[Ez,CL];omega)];rfl
end
section
variable {bd:Int×Int} {P P':PD} {V V':View} {A:Ar} {ix:Ix} {sg cl:List (Int×List Pu)} {lo:Option (Int×List Pu)} {ol:Option (List Pu)} {puts:List Pu} {Ac:Nat} {o:Int} {nm:Bs}
def Pk{c:FC}(h:P.fl nm=some c):P.bs nm=some c.1:=by unfold PD.bs;rw[h];rfl
def Ik{b:Bs}(h:P.bs nm=some b):∃c,P.fl nm=some c/\c.1=b:=by
 obtain⟨k,d⟩:=Lc h;exact⟨(b,k),d,rfl⟩
def Lay.bu(h:Lay P A sg cl ol)(_hl:(Aw cl).length<=1099511627776)(hr:∀nm c,P.fl nm=some c->0<=c.2/\c.2<=c.1.length)(L:∀nm c,(nm=AI\/(∃x∈sg,nm=AF x.1)\/∃x∈cl,nm=Ae x.1)->P.fl nm=some c->C2 c)(O:Hu bd A.ix sg)(X:∀nm,P.fl nm≠none->F6 bd nm):CW bd P.fl A.ix sg cl (ol.map λl=>(A.j.A9,l)):=by
 have d:cl.map (·.1)++(Option.map (·.1) (ol.map λl=>(A.j.A9,l))).toList=A.j.Am:=by
  rw[h.bS];cases ol<;>simp[shut]
 refine⟨O,?_,h.segs,λx z=>?_,λx z=>?_,Fv.at.2 h.Am,λn l e=>?_,by rw[d];exact h.H5,λn E H W=>?_,X,hr⟩
 ·rcases h.ix with⟨E,H⟩|E
  ·exact .inl ⟨Ip.1 E,H⟩
  ·obtain⟨c,c1,c2⟩:=Ik E;exact .inr ⟨c,c1,L _ _ (.inl rfl) c1,c2⟩
 ·obtain⟨E,H⟩:=h.Cw x z;obtain⟨c,c1,c2⟩:=Ik H;exact⟨E,c,c1,L _ _ (.inr (.inl ⟨x,z,rfl⟩)) c1,c2⟩
 ·have I:=h.Am.DB z;obtain⟨b,I⟩:=Lm.1 I;obtain⟨c,c1,_⟩:=Ik I;exact⟨⟨(h.CT x z).1.1,h.ED.1 x z⟩,(h.CT x z).2,c,c1,L _ _ (.inr (.inr ⟨x,z,rfl⟩)) c1⟩
 ·cases ol with
  | none=>cases e
  | some l'=>
   cases e;obtain⟨_,_,W,Y,h5⟩:=h.AA;obtain⟨c,c1,c2⟩:=Ik W;exact⟨⟨h5,h.ED.2 (by simp)⟩,Y,c,c1,.inl ⟨[],by rw[c2,h.Gi];simp,by simp⟩⟩
 ·rw[d];exact h.Hf n E H λI=>W (Ip.1 I)
def CX.bJ(h:CX bd V ix sg cl lo puts Ac o)(h0:V nm=none)(z:nm=Bo\/∃k,(isNum k=true/\k<=bd.2)/\nm=AF k)(c:FC)(hc:0<=c.2/\c.2<=c.1.length)(hV:∀m,V' m=if m=nm then some c else V m):CX bd V' ix sg cl lo puts Ac o:=by
 obtain⟨nb,O,W,hs,g1,g2⟩:=h;have H:∀m,Km ix sg m->m≠nm:=by
  rintro m (rfl|⟨x,hx,rfl⟩|⟨n,hn,_,rfl⟩) e
  ·rcases z with z|⟨k,_,z⟩
   ·exact J6 (e.trans z)
   ·exact JB k (z.symm.trans e.symm)
  ·obtain⟨_,d,I,_⟩:=O.Cw x hx;rw[e,h0]at I;cases I
  ·rcases z with z|⟨k,_,z⟩
   ·exact KU n (e.trans z)
   ·exact FR n k (e.trans z)
 have E:∀m,m≠nm->V' m=V m:=λm L=>by rw[hV,Ad L]
 refine⟨nb,O.bR (λm L=>?_) (λm L=>?_) (λm d I=>?_),W,hs,λn l e=>?_,g2⟩
 ·rw[E m (H m L)];cases hv:V m with
  | none=>exact .inl ⟨rfl,rfl⟩
  | some d=>exact .inr ⟨d,d,rfl,rfl,rfl,.inl rfl⟩
 ·by_cases e:m=nm
  ·subst e;rcases z with rfl|⟨k,X,rfl⟩
   ·exact Sr bd
   ·exact Sq X.1 X.2
  ·rw[E m e]at L;exact O.Ed m L
 ·by_cases e:m=nm
  ·rw[hV,Ah e]at I;cases I;exact hc
  ·rw[E m e]at I;exact O.DX m d I
 ·obtain⟨d,d1,d2,d3⟩:=g1 n l e;have Y:=(O.A9 n l e).1;exact⟨d,by rw[E _ (H _ (.inr (.inr ⟨n,Y.1,Y.2,rfl⟩)))];exact d1,d2,d3⟩
def Extra.fl(h:DI bd P puts Ac o)(d:Extra P nm P'):(P'.fl=P.fl)\/(P.fl nm=none/\∀m,P'.fl m=if m=nm then some (P'.F P.D.AS) else P.fl m):=by
 have old:=Kt λe z=>d.Eg _ (Ij h.CK z);rcases d.Hl with⟨d1,_⟩|⟨d0,d1,_⟩
 ·refine .inl ?_;have:P'.fl=vw P'.F P.D.A4:=by funext m;unfold PD.fl vw;rw[d1]
  rw[this,old];rfl
 ·refine .inr ⟨by unfold PD.fl;rw[d0];rfl,λm=>?_⟩;have:P'.fl m=vw P'.F (P.D.A4++[(A8 nm,P.D.AS)]) m:=by unfold PD.fl vw;rw[d1]
  rw[this,Ks d0,old];rfl
def CX.ef(h:DI bd P puts Ac o)(E:CX bd P.fl ix sg cl lo puts Ac o)(z:Extra P nm P')(d:nm=Bo\/∃k,(isNum k=true/\k<=bd.2)/\nm=AF k):CX bd P'.fl ix sg cl lo puts Ac o:=by
 rcases Extra.fl h z with e|⟨H,e⟩
 ·rw[e];exact E
 ·exact E.bJ H d _ z.DX e
def CX.ah:∀(fresh:List (List Pu)) (last:Int) (kept:List Int) {P:PD},DI bd P puts Ac o->CX bd P.fl ix sg cl lo puts Ac o->0<=last->last+fresh.length<=4611686018427387904->last+fresh.length<=bd.2->CX bd (PD.ah fresh last kept P).2.2.2.fl ix sg cl lo puts Ac o
 | [],last,kept,P,_,hT,_,_,_=>hT
 | l::r,last,kept,P,h,hT,h0,h1,h2=>by
  simp only[Cv]at h1 h2;have z:PD.ah (l::r) last kept P=if (P.aK (last+1) l).1≠0 then ((P.aK (last+1) l).1,last+1,kept,(P.aK (last+1) l).2) else PD.ah r (last+1) (kept++[last+1]) (P.aK (last+1) l).2:=rfl
  have d:AF (last+1)=Bo\/∃k,(isNum k=true/\k<=bd.2)/\AF (last+1)=AF k:=.inr ⟨last+1,⟨by unfold isNum;simp;omega,by omega⟩,rfl⟩;have H:=(JZ P (AF (last+1)) (AE (AF (last+1))) (Cd l)).1;have I:DI bd (P.aK (last+1) l).2 puts Ac o:=h.aI d _ _;have E:CX bd (P.aK (last+1) l).2.fl ix sg cl lo puts Ac o:=hT.ef h H d;rw[z];split
  ·exact E
  ·exact CX.ah r (last+1) _ I E (by omega) (by omega) (by omega)
def Rn(h:FY P){old nw:Bs}{f:Nat}(E:lookup P.D.A4 (A8 old)=some f):(P.aO (A8 old) (A8 nw)).2.F=P.F/\(P.aO (A8 old) (A8 nw)).2.D.AO=P.D.AO/\
 (((P.aO (A8 old) (A8 nw)).2.D.A4=P.D.A4/\(P.aO (A8 old) (A8 nw)).2.D.Av=P.D.Av/\(P.aO (A8 old) (A8 nw)).1≠0)\/
   ((P.aO (A8 old) (A8 nw)).2.D.A4=(P.D.A4.filter λe=>decide (e.1≠A8 old/\e.1≠A8 nw))++[(A8 nw,f)]/\(P.aO (A8 old) (A8 nw)).2.D.Av=P.D.Av++[(P.D.A4.filter λe=>decide (e.1≠A8 old/\e.1≠A8 nw))++[(A8 nw,f)]])):=by
 have d:¬B2 P.D.A4 (A8 old)<0:=λd=>by rw[J8,E]at d;cases d
 unfold PD.aO CQ;rw[E];dsimp only
 by_cases H:A8 nw=ByteArray.empty
 ·rw[Ah H];exact⟨rfl,rfl,.inl ⟨rfl,rfl,by simp⟩⟩
 ·rw[Ad H];dsimp only
  rw[Rs _ _ _ h.Cl d];by_cases z:(bg P.D.n).1=true
  ·rw[Ah z];exact⟨rfl,rfl,.inr ⟨rfl,rfl⟩⟩
  ·rw[Ad z];exact⟨rfl,rfl,.inl ⟨rfl,rfl,λh=>z (GL h)⟩⟩
def Qj{F:Nat->FC}{s:List AL}{old nw:Bs}{f:Nat}(hd:old≠nw)(m:Bs):vw F ((s.filter λe=>decide (e.1≠A8 old/\e.1≠A8 nw))++[(A8 nw,f)]) m=if m=nw then some (F f) else if m=old then none else vw F s m:=by
 have E:lookup (s.filter λe=>decide (e.1≠A8 old/\e.1≠A8 nw)) (A8 nw)=none:=by
  rw[KT s (λx=>decide (x≠A8 old/\x≠A8 nw))];simp
 rw[Ks E];by_cases d:m=nw
 ·rw[Ah d,Ah d]
 ·rw[Ad d,Ad d];unfold vw;rw[KT s (λx=>decide (x≠A8 old/\x≠A8 nw))];have z:A8 m≠A8 nw:=λe=>d (FO.1 e);by_cases h:m=old
  ·subst h;simp
  ·have:A8 m≠A8 old:=λe=>h (FO.1 e);simp[this,z,h]
def DI.eW(h:DI bd P puts Ac o){f:Nat}(hl:lookup P.D.A4 (A8 Bo)=some f)(I:Holds bd (λm=>if m=AI then some (P.F f) else if m=Bo then none else P.fl m) puts Ac o):DI bd (P.aO (A8 Bo) (A8 AI)).2 puts Ac o:=by
 obtain⟨a1,a2,a3⟩:=Rn (nw:=AI) h.bj hl;have L:=E6 hl;rcases a3 with⟨d1,d2,_⟩|⟨d1,d2⟩
 ·have es:Bu (P.aO (A8 Bo) (A8 AI)).2=Bu P:=by unfold Bu;rw[a2,d2]
  exact⟨λs d=>by rw[es]at d;rw[a1];exact h.DM s d,by rw[es];exact h.Au,by rw[es];exact h.Cl,by rw[es,d1];exact h.CK⟩
 ·obtain⟨s1,E⟩:∃s1,(P.D.A4.filter λe=>decide (e.1≠A8 Bo/\e.1≠A8 AI))++[(A8 AI,f)]=s1:=⟨_,rfl⟩;rw[E]at d1 d2;have es:Bu (P.aO (A8 Bo) (A8 AI)).2=Bu P++[s1]:=by unfold Bu;rw[a2,d2];rfl
  have z:∀s,s∈Bu (P.aO (A8 Bo) (A8 AI)).2->s∈Bu P\/s=s1:=λs d=>by
   rw[es]at d;rcases AU.1 d with d|d
   ·exact .inl d
   ·exact .inr (by simpa using d)
  have hv:vw P.F s1=λm=>if m=AI then some (P.F f) else if m=Bo then none else P.fl m:=by
   funext m;rw[<-E,Qj J6.symm];rfl
  refine⟨λs d=>?_,λs d=>?_,λs d=>?_,by rw[es,d1];simp⟩
  ·rw[a1];rcases z s d with d|rfl
   ·exact h.DM s d
   ·rw[hv];exact I
  ·rcases z s d with d|rfl
   ·exact h.Au s d
   ·rw[<-E,El,GC];refine⟨(h.Au _ h.CK).sublist (GS.map _),by simp,λa X b H=>?_⟩;simp at H;subst H;obtain⟨e,Y,rfl⟩:=Ct.1 X;obtain⟨W,O⟩:=GQ.1 Y;intro aA;have:=JM (h.Au _ h.CK) W L aA;subst this;simp at O
  ·rcases z s d with d|rfl
   ·exact h.Cl s d
   ·rw[<-E,El,GC];refine⟨(h.Cl _ h.CK).sublist (GS.map _),by simp,λa X b H=>?_⟩;simp at H;subst H;obtain⟨e,Y,rfl⟩:=Ct.1 X;have:=(GQ.1 Y).2;simp at this;exact this.2
def CW.fs{V:View}{h:Int}{I:List (Int×List Pu)}{c:FC}(aA:Hu bd ⟨h,I.map (·.1)⟩ I)(hc:C2 c/\c.1=AR (AE AI) (Ch h (I.map (·.1))))(X:∀x∈I,((∀p∈x.2,Bi p)/\Cx Cn x.2=true)/\∃c,V (AF x.1)=some c/\C2 c/\c.1=AR (AE (AF x.1)) (Cd x.2))(L:∀n,isNum n=true->h<=n->V (Ae n)=none)(E:∀nm,V nm≠none->F6 bd nm)(O:∀nm c,V nm=some c->0<=c.2/\c.2<=c.1.length)(Y:∀m,V' m=if m=AI then some c else if m=Bo then none else V m):CW bd V' ⟨h,I.map (·.1)⟩ I [] none:=by
 have z:∀m,m≠AI->m≠Bo->V' m=V m:=λm h1 h2=>by rw[Y,Ad h1,Ad h2]
 refine⟨aA,.inr ⟨c,by rw[Y,Ah rfl],hc.1,hc.2⟩,rfl,λx hx=>?_,λx hx=>(by cases hx),trivial,λn l e=>(by cases e),List.Pairwise.nil,λn h1 h2 h3=>?_,λnm hn=>?_,λnm d H=>?_⟩
 ·rw[z _ (JB _) (LU _)];exact X x hx
 ·rw[z _ (Hg _) (KU _),L n h1 h2]at h3;exact absurd rfl h3
 ·by_cases e:nm=AI
  ·subst e;exact YV bd
  ·by_cases W:nm=Bo
   ·rw[Y,Ad e,Ah W]at hn;exact absurd rfl hn
   ·rw[z nm e W]at hn;exact E nm hn
 ·by_cases e:nm=AI
  ·rw[Y,Ah e]at H;cases H;have:=hc.1;unfold C2 at this;omega
  ·by_cases W:nm=Bo
   ·rw[Y,Ad e,Ah W]at H;cases H
   ·rw[z nm e W]at H;exact O nm d H
end
def Reads(bd:Int×Int)(P:PD)(q:List Pu)(o:Int):Prop:=∃A sg cl ol,Lay P A sg cl ol/\C9 o (B6 sg cl ol) q/\Hu bd A.ix sg
def Whole(bd:Int×Int)(V:View)(q:List Pu)(o:Int):Prop:=∃ix sg cl lo,CW bd V ix sg cl lo/\(Aw cl).length<=1099511627776/\C9 o (Aw sg++Aw cl++EA lo) q
section
variable {bd:Int×Int} {P P':PD} {V V':View} {A:Ar} {ix:Ix} {sg cl:List (Int×List Pu)} {lo:Option (Int×List Pu)} {ol:Option (List Pu)} {puts q:List Pu} {Ac:Nat} {o:Int} {nm:Bs}
def CW.AV(h:CW bd P.fl ix sg cl lo)(hl:(Aw cl).length<=1099511627776)(K L:Int)(hK:0<=K/\ix.B7<=K+1)(aA:∀n,isNum n=true->P.fl (Ae n)≠none->n<=K)(hL:0<=L)(aB:∀n,isNum n=true->P.fl (AF n)≠none->n<=L):
 Lay P ⟨ix,⟨cl.map (·.1)++(lo.map (·.1)).toList,K,((Aw cl++EA lo).length:Int),none⟩,L,[]⟩ sg (cl++lo.toList) none:=by
 have O:∀m,P.bs m≠none->P.fl m≠none:=λm Y e=>Y (Ip.2 e);have z:∀x∈cl++lo.toList,(isNum x.1=true/\ix.B7<=x.1)/\(∀p∈x.2,Bi p)/\P.fl (Ae x.1)≠none:=λx d=>by
  rcases AU.1 d with d|d
  ·obtain⟨H,E,c,I,_⟩:=h.CT x d;exact⟨H,E,by rw[I];simp⟩
  ·cases lo with
   | none=>simp at d
   | some y=>
    simp at d;subst d;obtain⟨n,l⟩:=x;obtain⟨H,E,c,I,_⟩:=h.A9 n l rfl;exact⟨H,E,by rw[I];simp⟩
 have X:Aw (cl++lo.toList)=Aw cl++EA lo:=by
  cases lo with
  | none=>simp[Aw,EA]
  | some y=>simp[Aw,EA]
 have W:Fv P.fl 0 (cl++lo.toList):=by
  cases lo with
  | none=>simpa using h.Am
  | some y=>
   obtain⟨n,l⟩:=y;obtain⟨_,E,c,I,h4⟩:=h.A9 n l rfl;refine h.Am.bU ?_;unfold J2;rw[I];dsimp only
   rw[Nb];exact h4.aZ (by constructor<;>omega) E
 refine⟨h.DC.1,?_,h.segs,λx d=>?_,λx d=>⟨⟨(z x d).1.1,aA _ (z x d).1.1 (z x d).2.2⟩,(z x d).2.1⟩,λx _ d=>absurd rfl d,⟨λx d=>(z x d).1.2,λd=>absurd rfl d⟩,Fv.at.1 W,?_,⟨rfl,?_⟩,⟨hK.1,hK.2,λn H E=>aA n H (O _ E)⟩,⟨hL,λn H E=>aB n H (O _ E)⟩,λm Y=>(by cases Y),h.EJ,λm Y=>(h.Ed m (O m Y)).1,λn H E I=>h.Co n H E (O _ I)⟩
 ·rcases h.Ii with⟨H,E⟩|⟨c,H,_,I⟩
  ·exact .inl ⟨Ip.2 H,E⟩
  ·exact .inr (by rw[Pk H,I])
 ·obtain⟨H,c,E,_,h4⟩:=h.Cw x d;exact⟨H,by rw[Pk E,h4]⟩
 ·dsimp only;rw[X]
 ·dsimp only
  rw[El];cases lo<;>simp
def Whole.bw(h:Whole bd P.fl q o):Reads bd P q o:=by
 obtain⟨ix,sg,cl,lo,H,L,O⟩:=h;have I:=H.DC.1.B7;unfold isNum at I;simp at I;have E:=H.AV L 4611686018427387904 4611686018427387904 ⟨by decide,by omega⟩ (λn d _=>by unfold isNum at d;simp at d;exact d.2) (by decide) (λn d _=>by unfold isNum at d;simp at d;exact d.2);refine⟨_,sg,_,none,E,?_,H.DC⟩;unfold B6;have z:Aw (cl++lo.toList)=Aw cl++EA lo:=by
  cases lo<;>simp[Aw,EA]
 rw[z];simpa[List.append_assoc] using O
def EP.bC{n:Int}{ahead:Nat}(h:EP bd V puts Ac o n ahead)(ha:ahead<=1099511627776):Whole bd V puts o:=by
 obtain⟨ix,sg,cl,l,nb,c,E,hnb,d,h1,h2,h3,h4,z⟩:=h;refine⟨ix,sg,cl,some (n,l),E,by omega,?_⟩;have:puts=puts.take nb++l:=by rw[z,DK]
 conv=>rhs;rw[this]
 exact d.dE l
def Reads.a1{d:Int×Int}(h:Reads bd P q o)(z:Hw bd d):Reads d P q o:=by
 obtain⟨A,sg,cl,ol,H,E,I⟩:=h;exact⟨A,sg,cl,ol,H,E,I.a1 z⟩
def Reads.bc{d:Int}(h:Reads bd P q o)(z:o<=d):Reads bd P q d:=by
 obtain⟨A,sg,cl,ol,H,E,I⟩:=h;exact⟨A,sg,cl,ol,H,E.bc z,I⟩
def Reads.aH(h:Reads bd P q o)(d:∀m,P'.bs m=P.bs m):Reads bd P' q o:=by
 obtain⟨A,sg,cl,ol,E,z,H⟩:=h;exact⟨A,sg,cl,ol,E.aH d,z,H⟩
def Qx(P:PD)(nm:ByteArray)(m:Bs):(P.fl m=none/\(P.ae nm).2.fl m=none)\/∃c d,P.fl m=some c/\(P.ae nm).2.fl m=some d/\d.1=c.1/\(d.2=c.2\/C2 d):=by
 cases hx:lookup P.D.A4 nm with
 | none=>
  have e:(P.ae nm).2=P:=by unfold PD.ae CA;rw[hx]
  rw[e];cases hf:P.fl m with
  | none=>exact .inl ⟨rfl,rfl⟩
  | some c=>exact .inr ⟨c,c,rfl,rfl,rfl,.inl rfl⟩
 | some f=>
  obtain⟨z,a2,a3,h⟩:=II hx;unfold PD.fl;rw[z];cases hk:lookup P.D.A4 (A8 m) with
  | none=>exact .inl ⟨rfl,rfl⟩
  | some g=>
   refine .inr ⟨P.F g,(P.ae nm).2.F g,rfl,rfl,?_⟩;rcases h with h|h
   ·rw[h];exact⟨rfl,.inl rfl⟩
   ·rw[h];by_cases e:g=f
    ·subst e;simp[upd,C2]
    ·simp[upd,e]
def NA(P:PD)(nm:ByteArray)(m:Bs):(P.ae nm).2.bs m=P.bs m:=by
 unfold PD.bs;rcases Qx P nm m with⟨z,h⟩|⟨c,d,z,h,E,_⟩
 ·rw[z,h]
 ·rw[z,h];simp[E]
def QF:∀(l:List Bs) (P:PD) (m:Bs),(PD.ax l P).2.bs m=P.bs m
 | [],P,m=>rfl
 | x::r,P,m=>by
  unfold PD.ax;split
  ·exact NA P (A8 x) m
  ·rw[QF r,NA]
def NJ(A:Ar)(P:PD)(m:Bs):(A.C P).2.2.bs m=P.bs m:=by
 unfold Ar.C;split<;>exact QF _ _ m
def Nz{c:FC}{P:PD}{nm:ByteArray}{m:Bs}(h:∀c,P.fl m=some c->C2 c)(E:(P.ae nm).2.fl m=some c):C2 c:=by
 rcases Qx P nm m with⟨_,H⟩|⟨a,d,I,H,L,z⟩
 ·rw[H]at E;cases E
 ·rw[H]at E;cases E;rcases z with z|z
  ·have:=h a I;unfold C2 at this ⊢;rw[z,L];exact this
  ·exact z
def NB:∀(l:List Bs) {P:PD} {m:Bs},(∀c,P.fl m=some c->C2 c)->∀c,(PD.ax l P).2.fl m=some c->C2 c
 | [],P,m,h,c,d=>h c d
 | x::r,P,m,h,c,d=>by
  unfold PD.ax at d;split at d
  ·exact Nz h d
  ·exact NB r (λc d=>Nz h d) c d
def Qw{P:PD}{x:Bs}(d:(P.ae (A8 x)).1=0):∀c,(P.ae (A8 x)).2.fl x=some c->C2 c:=by
 intro c h;unfold PD.fl PD.ae CA at h;unfold PD.ae CA at d;cases hx:lookup P.D.A4 (A8 x) with
 | none=>rw[hx]at d;cases d
 | some f=>
  rw[hx]at d h;dsimp only at d h;rw[Ah d,hx]at h;simp[upd]at h;subst h;rfl
def QD:∀(l:List Bs) {P:PD},(PD.ax l P).1=0->∀m∈l,∀c,(PD.ax l P).2.fl m=some c->C2 c
 | x::r,P,hok,m,h,c,hc=>by
  unfold PD.ax at hok hc;by_cases d:(P.ae (A8 x)).1=0
  ·rw[Ad (nn d)]at hok hc;rcases BR.1 h with rfl|h
   ·exact NB r (Qw d) c hc
   ·exact QD r hok m h c hc
  ·rw[Ah d]at hok;exact absurd hok d
def X0(d:(A.C P).1=0){m:Bs}(h:∀c,P.fl m=some c->m∈A.AP\/C2 c):∀c,(A.C P).2.2.fl m=some c->C2 c:=by
 intro c z;unfold Ar.C at d z;by_cases E:(P.ax A.AP).1=0
 ·rw[Ad (nn E)]at z;by_cases H:m∈A.AP
  ·exact QD A.AP E m H c z
  ·exact NB A.AP (λc z=>(h c z).resolve_left H) c z
 ·rw[Ah E]at d;exact absurd d E
def EP.bR{n:Int}{ahead:Nat}(h:EP bd V puts Ac o n ahead)(H:∀nm,(∀c,V nm=some c->∃d,V' nm=some d/\d.1=c.1/\(d.2=c.2\/C2 d))/\(V nm=none->V' nm=none)):EP bd V' puts Ac o n ahead:=by
 obtain⟨ix,sg,cl,l,nb,c,L,O,hs,X,Y,g3,g4,g5⟩:=h;have I:∀nm,V' nm≠none->V nm≠none:=λnm z E=>z ((H nm).2 E);obtain⟨d,e1,W,e3⟩:=(H _).1 c X;refine⟨ix,sg,cl,l,nb,d,L.bR (λnm _=>?_) (λnm z=>L.Ed nm (I nm z)) (λnm c z=>?_),O,hs,e1,by rw[W];exact Y,g3,AM g4 (Lp (TN W e3 (L.DX _ _ X).2) _),g5⟩
 ·cases E:V nm with
  | none=>exact .inl ⟨rfl,(H nm).2 E⟩
  | some c=>obtain⟨d,d1,d2,d3⟩:=(H nm).1 c E;exact .inr ⟨c,d,rfl,d1,d2,d3⟩
 ·cases E:V nm with
  | none=>rw[(H nm).2 E]at z;cases z
  | some x=>
   obtain⟨d,d1,d2,d3⟩:=(H nm).1 x E;rw[d1]at z;cases z;have:=L.DX nm x E;rcases d3 with d3|d3
   ·rw[d2,d3];exact this
   ·unfold C2 at d3;omega
def Ej.cG{n:Int}{f ahead:Nat}(h:Ej bd P puts Ac o n f ahead)(nm:ByteArray):Ej bd (P.ae nm).2 puts Ac o n f ahead:=by
 cases hx:lookup P.D.A4 nm with
 | none=>
  have e:(P.ae nm).2=P:=by unfold PD.ae CA;rw[hx]
  rw[e];exact h
 | some g0=>
  obtain⟨X,Y,L,d⟩:=II hx;have es:Bu (P.ae nm).2=Bu P:=by unfold Bu;rw[Y,L]
  refine⟨by rw[X];exact h.1,λs I=>?_⟩;rw[es]at I;rcases h.2 s I with E|⟨O,H⟩
  ·exact .inl E
  ·refine .inr ⟨O,?_⟩;rcases d with d|d
   ·rw[d];exact H
   ·refine H.bR λm=>?_;unfold vw;cases hk:lookup s (A8 m) with
    | none=>exact⟨λc z=>by simp at z,λ_=>rfl⟩
    | some g=>
     refine⟨λc z=>?_,λW=>by simp at W⟩;simp at z;subst z;rw[d];by_cases e:g=g0
     ·subst e;exact⟨_,rfl,by simp[upd],.inr (by simp[upd,C2])⟩
     ·exact⟨P.F g,by simp[upd,e],rfl,.inl rfl⟩
def Ej.ax{n:Int}{f ahead:Nat}:∀(l:List Bs) {P:PD},Ej bd P puts Ac o n f ahead->Ej bd (PD.ax l P).2 puts Ac o n f ahead
 | [],P,h=>h
 | x::r,P,h=>by
  have d:=h.cG (A8 x);unfold PD.ax;split
  ·exact d
  ·exact Ej.ax r d
def Ej.C{n:Int}{f ahead:Nat}(h:Ej bd P puts Ac o n f ahead):Ej bd (A.C P).2.2 puts Ac o n f ahead:=by
 unfold Ar.C;split<;>exact h.ax _
end
end
end Go.Proofs.YtodcnkbblippnaaGreatDoor
