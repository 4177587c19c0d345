/- Part 12 of a proof: walks of the program. -/
import Derived.Test.YtodcnkbblippnaaGreatDoorPk11
namespace Go.Proofs.YtodcnkbblippnaaGreatDoor
set_option maxRecDepth 100000
set_option maxHeartbeats 32000000
set_option linter.defProp false
open Go.Proofs.Tryz
section
open Go.RowKit
def PD.dl(P:PD):Nat:=P.D.A4.length
def Ho(P:PD):P.Ay.length=P.dl:=by
 unfold PD.Ay PD.dl;rw[Fx,(Ld P.D.A4).length_eq,Fx]
def A14(P:PD)(nm:ByteArray):(P.ak nm).2.dl<=P.dl+1:=by
 unfold PD.dl PD.ak CT;split
 ·exact Ep _
 ·dsimp only;split
  ·simp
  ·exact Ep _
def A16(P:PD)(f:Nat)(x:ByteArray)(d e:Int):(BB P.D P.F f x d e).2.1.A4=P.D.A4:=by
 unfold BB;split
 ·dsimp only;split<;>rfl
 ·rfl
def A15(P:PD)(nm:ByteArray)(l:Bs):(P.an nm l).2.dl=P.dl:=by
 unfold PD.dl PD.an Bp;cases lookup P.D.A4 nm with
 | none=>rfl
 | some f=>
  dsimp only
  have h:∀d e,(BB {P.D with n:=(bg P.D.n).2.2} P.F f (A9 l) d e).2.1.A4=P.D.A4:=λd e=>A16 ⟨{P.D with n:=(bg P.D.n).2.2},P.F⟩ f (A9 l) d e;split
  ·rw[h]
  ·split
   ·rw[h]
   ·rfl
def Uc(P:PD)(nm:ByteArray):(P.ae nm).2.dl=P.dl:=by
 unfold PD.dl PD.ae CG;cases lookup P.D.A4 nm<;>rfl
def Ue(P:PD)(nm:ByteArray):(P.aH nm).2.dl<=P.dl:=by
 unfold PD.dl PD.aH Dh;split
 ·exact As _
 ·dsimp only;split
  ·dsimp only;rw[B1,BW,Cw];omega
  ·exact As _
def Ud(P:PD)(old nm:ByteArray):(P.aO old nm).2.dl<=P.dl+1:=by
 unfold PD.dl PD.aO CV;cases lookup P.D.A4 old with
 | none=>exact Ep _
 | some f=>
  dsimp only
  split
  ·exact Ep _
  ·dsimp only;split
   ·dsimp only
    have:=Oa P.D.A4 (B4 P.D.A4 old).toNat nm P.D.A4.length;rw[B1];simp;omega
   ·exact Ep _
def Lc(P:PD)(nm:Bs)(s:Nat)(l:Bs):(P.aI nm s l).2.dl<=P.dl+1:=by
 have d:=A14 P (A9 nm);have h:((P.ak (A9 nm)).2.ad (A9 nm) s l).2.2.dl=(P.ak (A9 nm)).2.dl:=A15 _ _ _;unfold PD.aI;split
 ·exact d
 ·split
  ·rw[h];exact d
  ·rw[Uc,h];exact d
def MF:∀(l:List Bs) (P:PD),(PD.aL l P).2.dl<=P.dl
 | [],P=>As _
 | x::r,P=>by
  have d:=Ue P (A9 x);unfold PD.aL;split
  ·exact d
  ·exact AR (MF r _) d
def Pk:∀(l:List Bs) (P:PD),(PD.az l P).2.dl=P.dl
 | [],P=>rfl
 | x::r,P=>by
  have d:=Uc P (A9 x);unfold PD.az;split
  ·exact d
  ·exact(Pk r _).trans d
def JX:∀(fresh:List (List Pu)) (last:Int) (kept:List Int) (P:PD),(PD.ah fresh last kept P).2.2.2.dl<=P.dl+fresh.length/\(PD.ah fresh last kept P).2.2.1.length<=kept.length+fresh.length
 | [],last,kept,P=>⟨As _,by simp[PD.ah]⟩
 | l::r,last,kept,P=>by
  have h1:(P.aK (last+1) l).2.dl<=P.dl+1:=Lc _ _ _ _;have d:PD.ah (l::r) last kept P=if (P.aK (last+1) l).1≠0 then ((P.aK (last+1) l).1,last+1,kept,(P.aK (last+1) l).2) else PD.ah r (last+1) (kept++[last+1]) (P.aK (last+1) l).2:=rfl
  rw[d];split
  ·exact⟨by simp;omega,by simp⟩
  ·obtain⟨i1,h⟩:=JX r (last+1) (kept++[last+1]) (P.aK (last+1) l).2;exact⟨by simp;omega,by simp at h ⊢;omega⟩
def Pm(A:Ar)(P:PD)(l:List Int):(A.ag P l).2.2.dl<=P.dl+2:=by
 have d:(P.ag (A.j.Aa+1) l).2.dl<=P.dl+2:=by
  unfold PD.ag;have h2:=Lc P Bo (AH AL) (Ci (A.j.Aa+1) l);split
  ·omega
  ·have h3:=Ud (P.aI Bo (AH AL) (Ci (A.j.Aa+1) l)).2 (A9 Bo) (A9 AL);omega
 unfold Ar.ag;split
 ·exact Vr _ _
 ·split
  ·exact d
  ·exact d
def Mi(A:Ar)(P:PD):(A.aV P).length<=P.dl:=by
 rw[<-Ho];unfold Ar.aV;exact Jg _ _
section
variable {P Q:PD} {N R:Nat} {A:Ar}
def AK.aG(h:AK P Q)(kept:List Int)(fresh:List (List Pu))(hc:Cm Q (N+A.AQ.length+2*Q.dl+4*fresh.length+8) (R+Dk fresh+12+8*(kept.length+fresh.length)))(d:(A.aG P kept fresh).1=0):
 (A.aG Q kept fresh).1=0/\(A.aG P kept fresh).2.1=(A.aG Q kept fresh).2.1/\AK (A.aG P kept fresh).2.2 (A.aG Q kept fresh).2.2/\Cm (A.aG Q kept fresh).2.2 N R:=by
 unfold Ar.aG at d ⊢;dsimp only at d ⊢;by_cases L:(A.C P).1=0
 ·rw[Ae (nn L)]at d;obtain⟨a1,a2,a3,a4⟩:=h.C (N:=N+2*Q.dl+4*fresh.length+8) (hc.aa (by omega) (As _)) L;rw[Ae (nn L),Ae (nn a1)];rw[a2]at d ⊢;have d1:(A.C Q).2.2.dl=Q.dl:=by unfold Ar.C;split<;>exact Pk _ _
  by_cases H:((A.C Q).2.1.av (A.C P).2.2).1=0
  ·rw[Ae (nn H)]at d;have o1:=Mi (A.C Q).2.1 (A.C Q).2.2;obtain⟨b1,b2,b3⟩:=a3.av (A:=(A.C Q).2.1) (N:=N+Q.dl+4*fresh.length+8) (a4.aa (by omega) (As _)) H;(have d2:((A.C Q).2.1.av (A.C Q).2.2).2.dl<=Q.dl:=by rw[<-d1];exact MF _ _);rw[Ae (nn H),Ae (nn b1)];by_cases W:(PD.ah fresh (A.C Q).2.1.Aa kept ((A.C Q).2.1.av (A.C P).2.2).2).1=0
   ·rw[Ae (nn W)]at d;obtain⟨c1,c2,c3,c4,c5⟩:=AK.ah (N:=N+Q.dl+fresh.length+8) (R:=R+12+8*(kept.length+fresh.length)) fresh (A.C Q).2.1.Aa kept b2 (b3.aa (by omega) (by omega)) W;obtain⟨d3,d4⟩:=JX fresh (A.C Q).2.1.Aa kept ((A.C Q).2.1.av (A.C Q).2.2).2;rw[Ae (nn W),Ae (nn c1)];rw[c2,c3]at d ⊢;obtain⟨A2,aB⟩:∃A2:Ar,({ (A.C Q).2.1 with Aa:=(PD.ah fresh (A.C Q).2.1.Aa kept ((A.C Q).2.1.av (A.C Q).2.2).2).2.1}:Ar)=A2:=⟨_,rfl⟩;rw[aB]at d ⊢;generalize hsg:(PD.ah fresh (A.C Q).2.1.Aa kept ((A.C Q).2.1.av (A.C Q).2.2).2).2.2.1=sg at d d4 ⊢;obtain⟨aA,Y⟩:∃aA,(PD.ah fresh (A.C Q).2.1.Aa kept ((A.C Q).2.1.av (A.C P).2.2).2).2.2.2=aA:=⟨_,rfl⟩;obtain⟨z,E⟩:∃z,(PD.ah fresh (A.C Q).2.1.Aa kept ((A.C Q).2.1.av (A.C Q).2.2).2).2.2.2=z:=⟨_,rfl⟩;rw[Y]at d c4;rw[Y,E];rw[E]at c4 c5 d3;by_cases I:(A2.ag aA sg).1=0
    ·rw[Ae (nn I)]at d;obtain⟨e1,e2,e3,e4⟩:=c4.cB (A:=A2) (segs:=sg) (N:=N+Q.dl+fresh.length+4) (c5.aa (by omega) (As _)) (by omega) I;have d5:=Pm A2 z sg;rw[Ae (nn I),Ae (nn e1)];rw[e2]at d ⊢;unfold Ar.aZ at d ⊢;by_cases O:((A2.ag z sg).2.1.av (A2.ag aA sg).2.2).1=0
     ·rw[Ae (nn O)]at d;have o2:=Mi (A2.ag z sg).2.1 (A2.ag z sg).2.2;obtain⟨f1,f2,f3⟩:=e3.av (A:=(A2.ag z sg).2.1) (N:=N+1) (e4.aa (by omega) (As _)) O;obtain⟨g1,g2,g3⟩:=f2.aJ (N:=N) f3 d;rw[Ae (nn O),Ae (nn f1)];exact⟨g1,rfl,g2,g3.aa (As _) (by omega)⟩
     ·rw[Ai O]at d;exact absurd d O
    ·rw[Ai I]at d;exact absurd d I
   ·rw[Ai W]at d;exact absurd d W
  ·rw[Ai H]at d;exact absurd d H
 ·rw[Ai L]at d;exact absurd d L
end
def Cs(n:DN)(e:Int)(n':DN):Prop:=
 (e≠5/\e≠6/\n'.Bm=n.Bm/\n'.fulls=n.fulls/\n'.AF=n.AF)\/(e=5/\n'.Bm=wrap64 (n.Bm+1)/\n'.fulls=n.fulls)\/(e=6/\n'.Bm=wrap64 (n.Bm+1)/\n'.fulls=wrap64 (n.fulls+1)/\n'.AF=n.AF)
def Cs.I(n:DN){e:Int}(d:e≠5)(h:e≠6):Cs n e n:=.inl ⟨d,h,rfl,rfl,rfl⟩
def Cs.Aw{n E n2:DN}{a e:Int}(h:Cs n a E)(H:a=0)(d:Cs E e n2):Cs n e n2:=by
 subst H;rcases h with⟨_,_,L,O,I⟩|⟨z,_⟩|⟨z,_⟩
 ·unfold Cs at d ⊢;rw[L,O,I]at d;exact d
 ·cases z
 ·cases z
def K7(n:DN):Cs n (bg n).2.1 (bg n).2.2:=by
 unfold bg;dsimp only
 split
 ·exact .inr (.inl ⟨rfl,rfl,rfl⟩)
 ·split
  ·exact .inr (.inl ⟨rfl,rfl,rfl⟩)
  ·split
   ·exact .inr (.inl ⟨rfl,rfl,rfl⟩)
   ·exact .inl ⟨by simp,by simp,rfl,rfl,rfl⟩
def Gp(n:DN):(bg n).2.1=0\/(bg n).2.1=5:=by
 unfold bg;dsimp only
 split
 ·exact .inr rfl
 ·split
  ·exact .inr rfl
  ·split
   ·exact .inr rfl
   ·exact .inl rfl
section
variable {P:PD} {A:Ar} {J:Jn} {nm old:ByteArray}
def Ll(P:PD)(nm:ByteArray):Cs P.D.n (P.ak nm).1 (P.ak nm).2.D.n:=by
 unfold PD.ak CT;split
 ·exact Cs.I _ (by simp) (by simp)
 ·have:=K7 P.D.n;dsimp only
  split<;>exact this
def MX(P:PD)(nm:ByteArray):Cs P.D.n (P.ae nm).1 (P.ae nm).2.D.n:=by
 unfold PD.ae CG;split
 ·exact Cs.I _ (by simp) (by simp)
 ·exact K7 P.D.n
def UT(P:PD):Cs P.D.n P.aJ.1 P.aJ.2.D.n:=by
 have:=K7 P.D.n;unfold PD.aJ DK;dsimp only
 split<;>exact this
def UW(P:PD)(nm:ByteArray):Cs P.D.n (P.aH nm).1 (P.aH nm).2.D.n:=by
 have:=K7 P.D.n;unfold PD.aH Dh;split
 ·exact Cs.I _ (by simp) (by simp)
 ·dsimp only
  split<;>exact this
def A3I(P:PD)(old nm:ByteArray):Cs P.D.n (P.aO old nm).1 (P.aO old nm).2.D.n:=by
 have:=K7 P.D.n;unfold PD.aO CV;split
 ·exact Cs.I _ (by simp) (by simp)
 ·split
  ·exact Cs.I _ (by simp) (by simp)
  ·dsimp only
   split<;>exact this
def V0(D:DS)(F:Nat->FC)(f:Nat)(x:ByteArray)(z e:Int)(n:DN)(h:Cs n e D.n)(E:e=0\/e=5):Cs n (BB D F f x z e).1 (BB D F f x z e).2.1.n:=by
 unfold BB;split
 ·dsimp only
  rcases E with rfl|rfl
  ·rw[Ai rfl,Ai rfl];rcases h with⟨_,_,I,L,H⟩|⟨d,_⟩|⟨d,_⟩
   ·exact .inr (.inr ⟨rfl,by dsimp only;rw[I],by dsimp only;rw[L],H⟩)
   ·cases d
   ·cases d
  ·rw[Ae (by decide),Ae (by decide)];exact h
 ·exact h
def A3Q(P:PD)(nm:ByteArray)(l:Bs):Cs P.D.n (P.an nm l).1 (P.an nm l).2.D.n:=by
 have d:=K7 P.D.n;have h:=Gp P.D.n;unfold PD.an Bp;split
 ·exact Cs.I _ (by simp) (by simp)
 ·dsimp only
  split
  ·exact V0 _ _ _ _ _ _ _ d h
  ·split
   ·exact V0 _ _ _ _ _ _ _ d h
   ·exact d
def MZ(P:PD)(nm:ByteArray)(s:Nat)(l:Bs):Cs P.D.n (P.ad nm s l).2.1 (P.ad nm s l).2.2.D.n:=A3Q P nm (AT s l)
def CD{x:Int}(h:¬x≠0):x=0:=by omega
def MW(P:PD)(nm:Bs)(s:Nat)(l:Bs):Cs P.D.n (P.aI nm s l).1 (P.aI nm s l).2.D.n:=by
 unfold PD.aI;split
 ·exact Ll P _
 ·rename_i d;split
  ·exact(Ll P _).Aw (CD d) (MZ _ _ _ _)
  ·rename_i h;exact((Ll P _).Aw (CD d) (MZ _ _ _ _)).Aw (CD h) (MX _ _)
def UU:∀(l:List Bs) (P:PD),Cs P.D.n (PD.az l P).1 (PD.az l P).2.D.n
 | [],P=>Cs.I _ (by simp[PD.az]) (by simp[PD.az])
 | nm::r,P=>by
  unfold PD.az;split
  ·exact MX P _
  ·rename_i d;exact(MX P _).Aw (CD d) (UU r _)
def MY:∀(l:List Bs) (P:PD),Cs P.D.n (PD.aL l P).1 (PD.aL l P).2.D.n
 | [],P=>Cs.I _ (by simp[PD.aL]) (by simp[PD.aL])
 | nm::r,P=>by
  unfold PD.aL;split
  ·exact UW P _
  ·rename_i d;exact(UW P _).Aw (CD d) (MY r _)
def K6(A:Ar)(P:PD):Cs P.D.n (A.C P).1 (A.C P).2.2.D.n:=by
 have:=UU A.AQ P;unfold Ar.C;split
 ·exact this
 ·rename_i d;rw[CD d]at this;exact this
def UZ(J:Jn)(P:PD):Cs P.D.n (J.ax P).1 (J.ax P).2.2.D.n:=by
 unfold Jn.ax;split
 ·exact Ll P _
 ·rename_i d;have:=(Ll P _).Aw (CD d) (MZ (P.ak (A9 (Ah (J.Aa+1)))).2 (A9 (Ah (J.Aa+1))) (AH (Ah (J.Aa+1))) (AS J.puts));dsimp only
  split
  ·exact this
  ·rename_i h;rw[CD h]at this;exact this
def UX(J:Jn)(P:PD)(p:Pu):Cs P.D.n (J.aw P p).2.1 (J.aw P p).2.2.2.D.n:=by
 unfold Jn.aw;split
 ·exact Cs.I _ (by simp) (by simp)
 ·exact MZ P _ _ _
def A3L(J:Jn)(P:PD)(p:Pu):Cs P.D.n (J.ad P p).2.1 (J.ad P p).2.2.2.D.n:=by
 unfold Jn.ad;split
 ·split
  ·exact UZ J P
  ·rename_i d;exact(UZ J P).Aw (CD d) (UX _ _ p)
 ·exact UX J P p
def A3P(A:Ar)(P:PD)(p:Pu):Cs P.D.n (A.ad P p).2.1 (A.ad P p).2.2.2.D.n:=by
 unfold Ar.ad;split
 ·exact K6 A P
 ·rename_i d;exact(K6 A P).Aw (CD d) (A3L _ _ p)
def A3K(J:Jn)(P:PD):Cs P.D.n (J.ae P).1 (J.ae P).2.D.n:=by
 unfold Jn.ae;split
 ·exact Cs.I _ (by simp) (by simp)
 ·exact MX P _
def A3O(A:Ar)(P:PD):Cs P.D.n (A.ae P).1 (A.ae P).2.2.D.n:=by
 unfold Ar.ae;split
 ·exact K6 A P
 ·rename_i z;have h:=(K6 A P).Aw (CD z) (A3K (A.C P).2.1.j (A.C P).2.2);split
  ·exact h
  ·rename_i d;exact h.Aw (CD d) (UT _)
def UY:∀(fresh:List (List Pu)) (last:Int) (kept:List Int) (P:PD),Cs P.D.n (PD.ah fresh last kept P).1 (PD.ah fresh last kept P).2.2.2.D.n
 | [],_,_,P=>Cs.I _ (by simp[PD.ah]) (by simp[PD.ah])
 | l::r,last,kept,P=>by
  unfold PD.ah;split
  ·exact MW P _ _ _
  ·rename_i d;exact(MW P _ _ _).Aw (CD d) (UY r _ _ _)
def A3J(P:PD)(d:Int)(segs:List Int):Cs P.D.n (P.ag d segs).1 (P.ag d segs).2.D.n:=by
 unfold PD.ag;split
 ·exact MW P _ _ _
 ·rename_i h;exact(MW P _ _ _).Aw (CD h) (A3I _ _ _)
def A3N(A:Ar)(P:PD)(segs:List Int):Cs P.D.n (A.ag P segs).1 (A.ag P segs).2.2.D.n:=by
 have:=A3J P (A.j.Aa+1) segs;unfold Ar.ag;split
 ·exact Cs.I _ (by simp) (by simp)
 ·split
  ·exact this
  ·rename_i d;rw[CD d]at this;exact this
def A3M(A:Ar)(P:PD):Cs P.D.n (A.aZ P).1 (A.aZ P).2.2.D.n:=by
 unfold Ar.aZ;split
 ·exact MY _ P
 ·rename_i d;exact(MY _ P).Aw (CD d) (UT _)
def A3H(A:Ar)(P:PD)(kept:List Int)(fresh:List (List Pu)):Cs P.D.n (A.aG P kept fresh).1 (A.aG P kept fresh).2.2.D.n:=by
 unfold Ar.aG;dsimp only
 split
 ·exact K6 A P
 ·rename_i I;have d:=(K6 A P).Aw (CD I) (MY ((A.C P).2.1.aV (A.C P).2.2) (A.C P).2.2);split
  ·exact d
  ·rename_i E;have h:=d.Aw (CD E) (UY fresh (A.C P).2.1.Aa kept _);split
   ·exact h
   ·rename_i L;have z:=h.Aw (CD L) (A3N { (A.C P).2.1 with Aa:=(PD.ah fresh (A.C P).2.1.Aa kept ((A.C P).2.1.av (A.C P).2.2).2).2.1} _ (PD.ah fresh (A.C P).2.1.Aa kept ((A.C P).2.1.av (A.C P).2.2).2).2.2.1);split
    ·exact z
    ·rename_i H;exact z.Aw (CD H) (A3M _ _)
def NM(P:PD)(nm:ByteArray):(P.ae nm).1≠6:=by
 unfold PD.ae CG;split
 ·simp
 ·have:=Gp P.D.n;dsimp only;omega
def QN(P:PD):P.aJ.1≠6:=by
 have:=Gp P.D.n;unfold PD.aJ DK;dsimp only;omega
def QP:∀(l:List Bs) (P:PD),(PD.az l P).1≠6
 | [],P=>by simp[PD.az]
 | nm::r,P=>by
  unfold PD.az;split
  ·exact NM P _
  ·exact QP r _
def NV(A:Ar)(P:PD):(A.C P).1≠6:=by
 unfold Ar.C;split
 ·exact QP _ P
 ·simp
def UR(A:Ar)(P:PD):(A.ae P).1≠6:=by
 unfold Ar.ae;split
 ·exact NV A P
 ·split
  ·unfold Jn.ae;split
   ·simp
   ·exact NM _ _
  ·exact QN _
end
def Bx(P:PD):List (List AO):=P.D.AP::P.D.Av
structure DI (bd:Int×Int) (P:PD) (puts:List Pu) (A8:Nat) (o:Int):Prop where
 Dw:∀s∈Bx P,Holds bd (vw P.F s) puts A8 o
 Au:∀s∈Bx P,(s.map (·.2)).Nodup
 Ce:∀s∈Bx P,(s.map (·.1)).Nodup
 Cu:P.D.A4∈Bx P
section
variable {bd:Int×Int} {P P':PD} {puts:List Pu} {A8:Nat} {o:Int} {nm:Bs}
def DI.bh(h:DI bd P puts A8 o):G5 P:=⟨h.Au _ h.Cu,h.Ce _ h.Cu⟩
def DI.cb(h:DI bd P puts A8 o)(q:List Pu):DI bd P (puts++q) A8 o:=⟨λs d=>(h.Dw s d).cb q,h.Au,h.Ce,h.Cu⟩
def DI.bc{d:Int}(h:DI bd P puts A8 o)(z:o<=d):DI bd P puts A8 d:=⟨λs E=>(h.Dw s E).bc z,h.Au,h.Ce,h.Cu⟩
def DI.aW{d:Int×Int}(h:DI bd P puts A8 o)(z:HD bd d):DI d P puts A8 o:=⟨λs E=>(h.Dw s E).aW z,h.Au,h.Ce,h.Cu⟩
def Il{s:List AO}(d:s∈Bx P){e:AO}(z:e∈s):e.2≠P.D.AU:=λh=>P.D.cz (by
 rcases BQ.1 d with rfl|d
 ·exact .inr (.inl ⟨e,z,h⟩)
 ·exact .inr (.inr ⟨s,d,e,z,h⟩))
def Kw{F F':Nat->FC}{s:List AO}(h:∀e∈s,F' e.2=F e.2):vw F' s=vw F s:=by
 funext m
 unfold vw;cases hx:lookup s (A9 m) with
 | none=>rfl
 | some f=>simp[h _ (E8 hx)]
def Kv{F:Nat->FC}{s:List AO}{g:Nat}(z:lookup s (A9 nm)=none)(m:Bs):vw F (s++[(A9 nm,g)]) m=if m=nm then some (F g) else vw F s m:=by
 unfold vw;rw[lookup_append];by_cases d:m=nm
 ·subst d;rw[z];simp[lookup]
 ·have h:¬A9 nm=A9 m:=λe=>d (FY.1 e).symm;simp[lookup,h,d]
def Holds.bJ{V V':View}(h:Holds bd V puts A8 o)(h0:V nm=none)(z:nm=Bo\/∃k,(isNum k=true/\k<=bd.2)/\nm=AJ k)(c:FC)(hc:0<=c.2/\c.2<=c.1.length)(hV:∀m,V' m=if m=nm then some c else V m):Holds bd V' puts A8 o:=by
 obtain⟨ix,sg,cl,lo,nb,O,W,hs,g1,g2⟩:=h;have H:∀m,(m=AL\/(∃x∈sg,m=AJ x.1)\/∃n,isNum n=true/\ix.B8<=n/\m=Ah n)->m≠nm:=by
  rintro m (rfl|⟨x,hx,rfl⟩|⟨n,hn,_,rfl⟩) e
  ·rcases z with z|⟨k,_,z⟩
   ·exact J4 (e.trans z)
   ·exact Jy k (z.symm.trans e.symm)
  ·obtain⟨_,d,I,_⟩:=O.Cy x hx;rw[e,h0]at I;cases I
  ·rcases z with z|⟨k,_,z⟩
   ·exact L1 n (e.trans z)
   ·exact G1 n k (e.trans z)
 have E:∀m,m≠nm->V' m=V m:=λm L=>by rw[hV,Ae L]
 refine⟨ix,sg,cl,lo,nb,O.bR (λm L=>?_) (λm L=>?_) (λm d I=>?_),W,hs,λn l e=>?_,g2⟩
 ·rw[E m (H m L)];cases hv:V m with
  | none=>exact .inl ⟨rfl,rfl⟩
  | some d=>exact .inr ⟨d,d,rfl,rfl,rfl,.inl rfl⟩
 ·by_cases e:m=nm
  ·subst e;rcases z with rfl|⟨k,Y,rfl⟩
   ·exact SO bd
   ·exact SM Y.1 Y.2
  ·rw[E m e]at L;exact O.Ek m L
 ·by_cases e:m=nm
  ·rw[hV,Ai e]at I;cases I;exact hc
  ·rw[E m e]at I;exact O.DZ m d I
 ·obtain⟨d,d1,d2,d3⟩:=g1 n l e;have hq:=(O.Aa n l e).1;exact⟨d,by rw[E _ (H _ (.inr (.inr ⟨n,hq.1,hq.2,rfl⟩)))];exact d1,d2,d3⟩
structure Extra (P:PD) (nm:Bs) (P':PD):Prop where
 En:∀f,f≠P.D.AU->P'.F f=P.F f
 DZ:0<=(P'.F P.D.AU).2/\(P'.F P.D.AU).2<=(P'.F P.D.AU).1.length
 AP:P'.D.AP=P.D.AP
 Hp:(P'.D.A4=P.D.A4/\P'.D.Av=P.D.Av)\/(lookup P.D.A4 (A9 nm)=none/\P'.D.A4=P.D.A4++[(A9 nm,P.D.AU)]/\P'.D.Av=P.D.Av++[P.D.A4++[(A9 nm,P.D.AU)]])
def DI.bJ(h:DI bd P puts A8 o)(H:Extra P nm P')(O:nm=Bo\/∃k,(isNum k=true/\k<=bd.2)/\nm=AJ k):DI bd P' puts A8 o:=by
 have old:∀s∈Bx P,vw P'.F s=vw P.F s:=λs d=>Kw λe I=>H.En _ (Il d I);rcases H.Hp with⟨d1,d2⟩|⟨d0,d1,d2⟩
 ·have es:Bx P'=Bx P:=by unfold Bx;rw[H.AP,d2]
  exact⟨λs d=>by rw[es]at d;rw[old s d];exact h.Dw s d,by rw[es];exact h.Au,by rw[es];exact h.Ce,by rw[es,d1];exact h.Cu⟩
 ·have es:Bx P'=Bx P++[P.D.A4++[(A9 nm,P.D.AU)]]:=by unfold Bx;rw[H.AP,d2];rfl
  have z:∀s,s∈Bx P'->s∈Bx P\/s=P.D.A4++[(A9 nm,P.D.AU)]:=λs d=>by
   rw[es]at d;rcases AV.1 d with d|d
   ·exact .inl d
   ·exact .inr (by simpa using d)
  refine⟨λs d=>?_,λs d=>?_,λs d=>?_,by rw[es,d1];simp⟩
  ·rcases z s d with d|rfl
   ·rw[old s d];exact h.Dw s d
   ·refine(h.Dw _ h.Cu).bJ (nm:=nm) (c:=P'.F P.D.AU) (by unfold vw;rw[d0];rfl) O H.DZ λm=>?_;rw[Kv d0,old _ h.Cu]
  ·rcases z s d with d|rfl
   ·exact h.Au s d
   ·rw[Eg,GI];refine⟨h.Au _ h.Cu,by simp,λa L b E=>?_⟩;simp at E;subst E;obtain⟨e,I,rfl⟩:=Cr.1 L;exact Il h.Cu I
  ·rcases z s d with d|rfl
   ·exact h.Ce s d
   ·rw[Eg,GI];refine⟨h.Ce _ h.Cu,by simp,λa L b E=>?_⟩;simp at E;subst E;obtain⟨e,I,rfl⟩:=Cr.1 L;exact(IV.1 d0) e I
end
section
variable {bd:Int×Int} {P P':PD} {puts:List Pu} {A8:Nat} {o:Int} {nm:Bs}
def JV(P:PD)(nm:Bs):Extra P nm (P.ak (A9 nm)).2/\((P.ak (A9 nm)).1=0->lookup (P.ak (A9 nm)).2.D.A4 (A9 nm)=some P.D.AU):=by
 unfold PD.ak CT;by_cases E:A9 nm=ByteArray.empty\/B4 P.D.A4 (A9 nm)≥0
 ·rw[Ai E];exact⟨⟨λf d=>by simp[upd,d],by simp[upd],rfl,.inl ⟨rfl,rfl⟩⟩,λh=>by cases h⟩
 ·rw[Ae E];have H:lookup P.D.A4 (A9 nm)=none:=(J6 _ _).1 (by (have:¬B4 P.D.A4 (A9 nm)≥0:=λe=>E (.inr e));omega);dsimp only
  by_cases z:(bg P.D.n).1=true
  ·rw[Ai z];refine⟨⟨λf d=>by simp[upd,d],by simp[upd],rfl,.inr ⟨H,rfl,rfl⟩⟩,λ_=>?_⟩;dsimp only
   rw[lookup_append,H];simp[lookup]
  ·rw[Ae z];exact⟨⟨λf d=>by simp[upd,d],by simp[upd],rfl,.inl ⟨rfl,rfl⟩⟩,λh=>absurd (GS h) z⟩
def Uj(D:DS)(F:Nat->FC)(f:Nat)(x:ByteArray)(d e:Int):(BB D F f x d e).2.1.A4=D.A4/\(BB D F f x d e).2.1.AP=D.AP/\(BB D F f x d e).2.1.Av=D.Av/\∃j:Nat,(BB D F f x d e).2.2=upd F f ((F f).1++x.data.toList.take j,(F f).2):=by
 unfold BB;split
 ·dsimp only
  refine⟨?_,?_,?_,_,rfl⟩<;>split<;>rfl
 ·exact⟨rfl,rfl,rfl,_,rfl⟩
def Is{P:PD}{nm:ByteArray}{f:Nat}(l:Bs)(h:lookup P.D.A4 nm=some f):(P.an nm l).2.D.A4=P.D.A4/\(P.an nm l).2.D.AP=P.D.AP/\(P.an nm l).2.D.Av=P.D.Av/\
 ((P.an nm l).2.F=P.F\/∃j:Nat,(P.an nm l).2.F=upd P.F f ((P.F f).1++l.take j,(P.F f).2)):=by
 unfold PD.an Bp;rw[h];dsimp only
 have I:(A9 l).data.toList=l:=by simp[A9]
 split
 ·obtain⟨z,E,H,j,d⟩:=Uj {P.D with n:=(bg P.D.n).2.2} P.F f (A9 l) (A9 l).size (bg P.D.n).2.1;exact⟨z,E,H,.inr ⟨j,by rw[d,I]⟩⟩
 ·split
  ·obtain⟨z,E,H,j,d⟩:=Uj {P.D with n:=(bg P.D.n).2.2} P.F f (A9 l) ((bg P.D.n).2.2.Bv % (A9 l).size) (bg P.D.n).2.1;exact⟨z,E,H,.inr ⟨j,by rw[d,I]⟩⟩
  ·exact⟨rfl,rfl,rfl,.inl rfl⟩
def ID{P:PD}{nm:ByteArray}{f:Nat}(h:lookup P.D.A4 nm=some f):(P.ae nm).2.D.A4=P.D.A4/\(P.ae nm).2.D.AP=P.D.AP/\(P.ae nm).2.D.Av=P.D.Av/\
 ((P.ae nm).2.F=P.F\/(P.ae nm).2.F=upd P.F f ((P.F f).1,(P.F f).1.length)):=by
 unfold PD.ae CG;rw[h];dsimp only
 refine⟨rfl,rfl,rfl,?_⟩;split
 ·exact .inr rfl
 ·exact .inl rfl
def Extra.an(h:Extra P nm P')(E:lookup P'.D.A4 (A9 nm)=some P.D.AU)(l:Bs):Extra P nm (P'.an (A9 nm) l).2:=by
 obtain⟨H,I,L,d⟩:=Is l E;refine⟨λf z=>?_,?_,I.trans h.AP,by rw[H,L];exact h.Hp⟩
 ·rcases d with d|⟨j,d⟩
  ·rw[d];exact h.En f z
  ·rw[d];simp[upd,z];exact h.En f z
 ·have:=h.DZ;rcases d with d|⟨j,d⟩
  ·rw[d];exact this
  ·rw[d];simp only[upd,Ch,B1];omega
def Extra.ae(h:Extra P nm P')(E:lookup P'.D.A4 (A9 nm)=some P.D.AU):Extra P nm (P'.ae (A9 nm)).2:=by
 obtain⟨H,I,L,d⟩:=ID E;refine⟨λf z=>?_,?_,I.trans h.AP,by rw[H,L];exact h.Hp⟩
 ·rcases d with d|d
  ·rw[d];exact h.En f z
  ·rw[d];simp[upd,z];exact h.En f z
 ·have:=h.DZ;rcases d with d|d
  ·rw[d];exact this
  ·rw[d];simp only[upd,Ch];omega
def JU(P:PD)(nm:Bs)(s:Nat)(l:Bs):Extra P nm (P.aI nm s l).2/\((P.aI nm s l).1=0->lookup (P.aI nm s l).2.D.A4 (A9 nm)=some P.D.AU/\C6 ((P.aI nm s l).2.F P.D.AU)):=by
 obtain⟨O,e2⟩:=JV P nm;unfold PD.aI;by_cases z:(P.ak (A9 nm)).1=0
 ·rw[Ae (nn z)];have H:=e2 z;have L:=O.an H (AT s l);have d:lookup ((P.ak (A9 nm)).2.an (A9 nm) (AT s l)).2.D.A4 (A9 nm)=some P.D.AU:=by rw[(Is (AT s l) H).1];exact H
  have Y:((P.ak (A9 nm)).2.ad (A9 nm) s l).2.2=((P.ak (A9 nm)).2.an (A9 nm) (AT s l)).2:=rfl;by_cases I:((P.ak (A9 nm)).2.ad (A9 nm) s l).2.1=0
  ·rw[Ae (nn I),Y];refine⟨L.ae d,λE=>?_⟩;obtain⟨W,_,_,_⟩:=ID d;refine⟨by rw[W];exact d,?_⟩;unfold PD.ae CG at E ⊢;rw[d]at E ⊢;dsimp only at E ⊢;rw[Ai E];simp[upd,C6]
  ·rw[Ai I];exact⟨L,λh=>absurd h I⟩
 ·rw[Ai z];exact⟨O,λh=>absurd h z⟩
def DI.aI(h:DI bd P puts A8 o)(d:nm=Bo\/∃k,(isNum k=true/\k<=bd.2)/\nm=AJ k)(s:Nat)(l:Bs):DI bd (P.aI nm s l).2 puts A8 o:=h.bJ (JU P nm s l).1 d
def DI.ah:∀(fresh:List (List Pu)) (last:Int) (kept:List Int) {P:PD},DI bd P puts A8 o->0<=last->last+fresh.length<=4611686018427387904->last+fresh.length<=bd.2->DI bd (PD.ah fresh last kept P).2.2.2 puts A8 o
 | [],last,kept,P,h,_,_,_=>h
 | l::r,last,kept,P,h,h0,h1,h2=>by
  simp only[Cx]at h1 h2;have d:PD.ah (l::r) last kept P=if (P.aK (last+1) l).1≠0 then ((P.aK (last+1) l).1,last+1,kept,(P.aK (last+1) l).2) else PD.ah r (last+1) (kept++[last+1]) (P.aK (last+1) l).2:=rfl
  have z:DI bd (P.aK (last+1) l).2 puts A8 o:=h.aI (.inr ⟨last+1,⟨by unfold isNum;simp;omega,by omega⟩,rfl⟩) _ _;rw[d];split
  ·exact z
  ·exact DI.ah r (last+1) _ z (by omega) (by omega) (by omega)
def DI.cD(h:DI bd P puts A8 o)(nm:ByteArray):DI bd (P.ae nm).2 puts A8 o:=by
 cases hx:lookup P.D.A4 nm with
 | none=>
  have e:(P.ae nm).2=P:=by unfold PD.ae CG;rw[hx]
  rw[e];exact h
 | some f=>
  obtain⟨H,I,L,d⟩:=ID hx;have es:Bx (P.ae nm).2=Bx P:=by unfold Bx;rw[I,L]
  refine⟨λs E=>?_,by rw[es];exact h.Au,by rw[es];exact h.Ce,by rw[es,H];exact h.Cu⟩;rw[es]at E;rcases d with d|d
  ·rw[d];exact h.Dw s E
  ·refine(h.Dw s E).bR λm=>?_;unfold vw;cases hk:lookup s (A9 m) with
   | none=>exact⟨λc z=>by simp at z,λ_=>rfl⟩
   | some g=>
    refine⟨λc z=>?_,λO=>by simp at O⟩;simp at z;subst z;rw[d];by_cases e:g=f
    ·subst e;exact⟨_,rfl,by simp[upd],.inr (by simp[upd,C6])⟩
    ·exact⟨P.F g,by simp[upd,e],rfl,.inl rfl⟩
def DI.az:∀(l:List Bs) {P:PD},DI bd P puts A8 o->DI bd (PD.az l P).2 puts A8 o
 | [],P,h=>h
 | x::r,P,h=>by
  have d:=h.cD (A9 x);unfold PD.az;split
  ·exact d
  ·exact DI.az r d
def DI.C{A:Ar}(h:DI bd P puts A8 o):DI bd (A.C P).2.2 puts A8 o:=by
 unfold Ar.C;split
 ·exact h.az _
 ·exact h.az _
def DI.ep(h:DI bd P puts A8 o):DI bd P.aJ.2 puts A8 o:=by
 unfold PD.aJ DK;dsimp only
 split
 ·have z:=h.Cu;exact⟨λs d=>by simp[Bx]at d;subst d;exact h.Dw _ z,λs d=>by simp[Bx]at d;subst d;exact h.Au _ z,λs d=>by simp[Bx]at d;subst d;exact h.Ce _ z,by simp[Bx]⟩
 ·exact⟨h.Dw,h.Au,h.Ce,h.Cu⟩
end
def CY(bd:Int×Int)(V:View)(ix:Ix)(sg cl:List (Int×List Pu))(lo:Option (Int×List Pu))(puts:List Pu)(A8:Nat)(o:Int):Prop:=
 ∃nb,CX bd V ix sg cl lo/\nb<=puts.length/\Cb o (Ax sg++Ax cl) (puts.take nb)/\
  (∀n l,lo=some (n,l)->∃c,V (Ah n)=some c/\A8<=nb+ER c l/\l=(puts.drop nb).take l.length)/\(lo=none->A8<=nb)
section
variable {bd:Int×Int} {P P':PD} {V V':View} {ix:Ix} {sg cl:List (Int×List Pu)} {lo:Option (Int×List Pu)} {puts:List Pu} {A8:Nat} {o:Int} {nm:Bs}
def CY.cc(h:CY bd V ix sg cl lo puts A8 o):Holds bd V puts A8 o:=by
 obtain⟨nb,d⟩:=h;exact⟨ix,sg,cl,lo,nb,d⟩
def CY.br(h:CY bd V ix sg cl lo puts A8 o):CX bd V ix sg cl lo:=h.choose_spec.1
def Ko(ix:Ix)(sg:List (Int×List Pu))(nm:Bs):Prop:=nm=AL\/(∃x∈sg,nm=AJ x.1)\/∃n,isNum n=true/\ix.B8<=n/\nm=Ah n
def CY.fp(h:CY bd V ix sg cl lo puts A8 o)(L:¬Ko ix sg nm)(hV:∀m,V' m=if m=nm then none else V m):CY bd V' ix sg cl lo puts A8 o:=by
 obtain⟨nb,O,Y,hs,g1,g2⟩:=h;have z:∀m,m≠nm->V' m=V m:=λm I=>by rw[hV,Ae I]
 have H:∀m,V' m≠none->m≠nm:=λm I e=>I (by rw[hV,Ai e]);refine⟨nb,O.bR (λm I=>?_) (λm I=>?_) (λm d W=>?_),Y,hs,λn l e=>?_,g2⟩
 ·have E:m≠nm:=λe=>L (e ▸ I);rw[z m E];cases hv:V m with
  | none=>exact .inl ⟨rfl,rfl⟩
  | some d=>exact .inr ⟨d,d,rfl,rfl,rfl,.inl rfl⟩
 ·have E:=H m I;rw[z m E]at I;exact O.Ek m I
 ·have E:=H m (by rw[W];simp);rw[z m E]at W;exact O.DZ m d W
 ·obtain⟨d,d1,d2,d3⟩:=g1 n l e;have hq:=(O.Aa n l e).1;exact⟨d,by rw[z _ λe2=>L (.inr (.inr ⟨n,hq.1,hq.2,e2.symm⟩))];exact d1,d2,d3⟩
def RJ(h:G5 P)(nm:ByteArray):(P.aH nm).2.F=P.F/\(P.aH nm).2.D.AP=P.D.AP/\
 (((P.aH nm).2.D.A4=P.D.A4/\(P.aH nm).2.D.Av=P.D.Av/\(P.aH nm).1≠0)\/((P.aH nm).2.D.A4=(P.D.A4.filter λe=>decide (e.1≠nm))/\(P.aH nm).2.D.Av=P.D.Av++[P.D.A4.filter λe=>decide (e.1≠nm)])):=by
 unfold PD.aH Dh;by_cases z:B4 P.D.A4 nm<0
 ·rw[Ai z];exact⟨rfl,rfl,.inl ⟨rfl,rfl,by simp⟩⟩
 ·rw[Ae z];dsimp only
  rw[Ub _ _ h.Ce z];by_cases d:(bg P.D.n).1=true
  ·rw[Ai d];exact⟨rfl,rfl,.inr ⟨rfl,rfl⟩⟩
  ·rw[Ae d];exact⟨rfl,rfl,.inl ⟨rfl,rfl,λh=>d (GS h)⟩⟩
def Qx(F:Nat->FC)(s:List AO)(nm m:Bs):vw F (s.filter λe=>decide (e.1≠A9 nm)) m=if m=nm then none else vw F s m:=by
 unfold vw;rw[L0 s (λx=>decide (x≠A9 nm))];by_cases d:m=nm
 ·subst d;simp
 ·have:A9 m≠A9 nm:=λe=>d (FY.1 e);simp[this,d]
def DI.ei(h:DI bd P puts A8 o)(W:CY bd P.fl ix sg cl lo puts A8 o)(L:¬Ko ix sg nm):DI bd (P.aH (A9 nm)).2 puts A8 o/\CY bd (P.aH (A9 nm)).2.fl ix sg cl lo puts A8 o:=by
 obtain⟨H,O,Y⟩:=RJ h.bh (A9 nm);rcases Y with⟨d1,d2,_⟩|⟨d1,d2⟩
 ·have es:Bx (P.aH (A9 nm)).2=Bx P:=by unfold Bx;rw[O,d2]
  have I:(P.aH (A9 nm)).2.fl=P.fl:=by unfold PD.fl;rw[d1,H]
  exact⟨⟨λs d=>by rw[es]at d;rw[H];exact h.Dw s d,by rw[es];exact h.Au,by rw[es];exact h.Ce,by rw[es,d1];exact h.Cu⟩,by rw[I];exact W⟩
 ·have es:Bx (P.aH (A9 nm)).2=Bx P++[P.D.A4.filter λe=>decide (e.1≠A9 nm)]:=by unfold Bx;rw[O,d2];rfl
  have z:∀s,s∈Bx (P.aH (A9 nm)).2->s∈Bx P\/s=P.D.A4.filter λe=>decide (e.1≠A9 nm):=λs d=>by
   rw[es]at d;rcases AV.1 d with d|d
   ·exact .inl d
   ·exact .inr (by simpa using d)
  have E:=W.fp L (Qx P.F P.D.A4 nm);refine⟨⟨λs d=>?_,λs d=>?_,λs d=>?_,by rw[es,d1];simp⟩,?_⟩
  ·rw[H];rcases z s d with d|rfl
   ·exact h.Dw s d
   ·exact E.cc
  ·rcases z s d with d|rfl
   ·exact h.Au s d
   ·exact(h.Au _ h.Cu).sublist (GZ.map _)
  ·rcases z s d with d|rfl
   ·exact h.Ce s d
   ·exact(h.Ce _ h.Cu).sublist (GZ.map _)
  ·have I:(P.aH (A9 nm)).2.fl=vw P.F (P.D.A4.filter λe=>decide (e.1≠A9 nm)):=by
    funext m;unfold PD.fl vw;rw[d1,H]
   rw[I];exact E
def DI.aL:∀(l:List Bs) {P:PD},DI bd P puts A8 o->CY bd P.fl ix sg cl lo puts A8 o->(∀m∈l,¬Ko ix sg m)->DI bd (PD.aL l P).2 puts A8 o/\CY bd (PD.aL l P).2.fl ix sg cl lo puts A8 o
 | [],P,h,hT,_=>⟨h,hT⟩
 | x::r,P,h,hT,hm=>by
  obtain⟨E,z⟩:=h.ei hT (hm x (BC ..));unfold PD.aL;split
  ·exact⟨E,z⟩
  ·exact DI.aL r E z λm d=>hm m (Bw _ d)
def DI.av{A:Ar}(h:DI bd P puts A8 o)(z:CY bd P.fl A.ix sg cl lo puts A8 o)(I:A.j.Am=cl.map (·.1)++(lo.map (·.1)).toList)(d:sg.map (·.1)=A.ix.segs):DI bd (A.av P).2 puts A8 o/\CY bd (A.av P).2.fl A.ix sg cl lo puts A8 o:=by
 refine DI.aL _ h z λm E Y=>?_;obtain⟨W,O⟩:=IN.1 E;refine O ?_;unfold Ar.Ay;rcases Y with rfl|⟨x,hx,rfl⟩|⟨n,hn,H,rfl⟩
 ·simp
 ·refine Hd _ (DV ?_);rw[<-d];exact DV hx
 ·refine FN _ (Bw _ (DV ?_));rw[I];refine z.br.Cp n hn H λL=>W ?_;unfold PD.bs;rw[L];rfl
def Eo(bd:Int×Int)(P:PD)(puts:List Pu)(A8:Nat)(o:Int)(n:Int)(f ahead:Nat):Prop:=
 lookup P.D.A4 (A9 (Ah n))=some f/\∀s∈Bx P,(∀e∈s,e.2≠f)\/(lookup s (A9 (Ah n))=some f/\ET bd (vw P.F s) puts A8 o n ahead)
def Qv{F:Nat->FC}{s:List AO}{f:Nat}{c:FC}(z:(s.map (·.2)).Nodup)(h:lookup s (A9 nm)=some f)(m:Bs):vw (upd F f c) s m=if m=nm then some c else vw F s m:=by
 unfold vw;by_cases d:m=nm
 ·subst d;rw[h];simp[upd]
 ·rw[Ae d];cases hk:lookup s (A9 m) with
  | none=>rfl
  | some g=>
   have:g≠f:=λe=>d (by
    have:=JH z (E8 hk) (E8 h) e
    exact FY.1 (PO this).1)
   simp[upd,this]
def Eo.an{n:Int}{f ahead:Nat}{l0:List Pu}{c0:FC}(h:DI bd P puts A8 o)(hO:Eo bd P puts A8 o n f ahead)(aD:P.F f=c0)(L:c0.1=E2 (Ah n) ahead l0)(p:Pu)(hp:Bh p)(j:Nat)(hd:P'.D.A4=P.D.A4)(d:P'.D.AP=P.D.AP)(aE:P'.D.Av=P.D.Av)(hF:P'.F=upd P.F f (c0.1++(AT (F4 (Ah n) ahead l0) (Bb p.1 p.2.1 p.2.2)).take j,c0.2)):
 DI bd P' (puts++[p]) A8 o/\(21<=j->Eo bd P' (puts++[p]) A8 o n f ahead)/\(j<21->DI bd P' puts A8 o):=by
 have es:Bx P'=Bx P:=by unfold Bx;rw[d,aE]
 have inj:∀ {l l':List Pu},E2 (Ah n) ahead l=E2 (Ah n) ahead l'->(∀p∈l,Bh p)->(∀p∈l',Bh p)->l=l':=λ{l l'} e W O=>by
  have Y:l.length=l'.length:=by have:=EK List.length e;rw[IZ,IZ]at this;omega
  have hx:E1 (AW (AH (Ah n)) (AS ahead)) l=E1 (AW (AH (Ah n)) (AS ahead)) l':=by unfold E2 at e;exact VJ e
  have r1:=Mc l (AW (AH (Ah n)) (AS ahead)) (l.length+1) [] W (by omega) (by simp);have r2:=Mc l' (AW (AH (Ah n)) (AS ahead)) (l.length+1) [] O (by omega) (by simp);rw[hx]at r1;rw[r1]at r2;simpa using r2
 have each:∀s∈Bx P,((∀e∈s,e.2≠f)/\vw P'.F s=vw P.F s)\/(lookup s (A9 (Ah n))=some f/\(21<=j->ET bd (vw P'.F s) (puts++[p]) A8 o n ahead)/\(j<21->Holds bd (vw P'.F s) puts A8 o)):=λs d=>by
  rcases hO.2 s d with z|⟨I,aA⟩
  ·exact .inl ⟨z,Kw λe he=>by rw[hF];simp[upd,z e he]⟩
  ·refine .inr ⟨I,?_⟩;(have H:vw P.F s (Ah n)=some c0:=by unfold vw;rw[I];simp[aD]);refine aA.an p hp j (s:=F4 (Ah n) ahead l0) (λl c hc aB=>?_) (λm hm=>?_) (λc hc=>?_)
   ·rw[H]at hc;cases hc;obtain⟨ix,sg,cl,l1,nb,c1,hL,_,_,g1,g2,g3,_,_⟩:=aA;rw[H]at g1;cases g1;have Y:l.length=l0.length:=by
     have:=EK List.length (aB.symm.trans L);rw[IZ,IZ]at this;omega
    have key:∀(a b:List Pu) (s:Nat),E1 s a=E1 s b->Hl s a=Hl s b:=by
     intro a
     induction a with
     | nil=>
      intro b s e;cases b with
      | nil=>rfl
      | cons y r=>
       have:=EK List.length e;rw[IY,IY]at this;simp at this
     | cons x a ih=>
      intro b s e;cases b with
      | nil=>
       have:=EK List.length e;rw[IY,IY]at this;simp at this
      | cons y r=>
       simp only[E1]at e;have E:=
        List.append_inj e (by rw[EE,EE,EY,EY])
       have hb:=(List.append_inj E.1 (by rw[EY,EY])).1;simp only[Hl];rw[hb]at E ⊢;exact ih r _ E.2
    have e1:=aB.symm.trans L;unfold E2 at e1;unfold F4;exact(key l l0 _ (VJ e1)).symm
   ·rw[hF,Qv (h.Au s d) I,Ae hm]
   ·rw[H]at hc;cases hc;rw[hF,Qv (h.Au s d) I,Ai rfl]
 refine⟨⟨λs d=>?_,by rw[es];exact h.Au,by rw[es];exact h.Ce,by rw[es,hd];exact h.Cu⟩,λhj=>⟨by rw[hd];exact hO.1,λs d=>?_⟩,λhj=>⟨λs d=>?_,by rw[es];exact h.Au,by rw[es];exact h.Ce,by rw[es,hd];exact h.Cu⟩⟩
 ·rw[es]at d;rcases each s d with⟨_,H⟩|⟨_,W,O⟩
  ·rw[H];exact(h.Dw s d).cb [p]
  ·by_cases hj:21<=j
   ·exact(W hj).cc
   ·exact(O (by omega)).cb [p]
 ·rw[es]at d;rcases each s d with⟨z,_⟩|⟨I,W,_⟩
  ·exact .inl z
  ·exact .inr ⟨I,W hj⟩
 ·rw[es]at d;rcases each s d with⟨_,H⟩|⟨_,_,O⟩
  ·rw[H];exact h.Dw s d
  ·exact O hj
end
section
variable {bd:Int×Int} {P P':PD} {V V':View} {ix:Ix} {sg cl:List (Int×List Pu)} {lo:Option (Int×List Pu)} {puts:List Pu} {A8:Nat} {o:Int} {nm:Bs}
def DI.fh(h:DI bd P puts A8 o)(L:Extra P nm P')(I:lookup P.D.A4 (A9 nm)=none->Holds bd (vw P'.F (P.D.A4++[(A9 nm,P.D.AU)])) puts A8 o):DI bd P' puts A8 o:=by
 have old:∀s∈Bx P,vw P'.F s=vw P.F s:=λs d=>Kw λe E=>L.En _ (Il d E);rcases L.Hp with⟨d1,d2⟩|⟨d0,d1,d2⟩
 ·have es:Bx P'=Bx P:=by unfold Bx;rw[L.AP,d2]
  exact⟨λs d=>by rw[es]at d;rw[old s d];exact h.Dw s d,by rw[es];exact h.Au,by rw[es];exact h.Ce,by rw[es,d1];exact h.Cu⟩
 ·have es:Bx P'=Bx P++[P.D.A4++[(A9 nm,P.D.AU)]]:=by unfold Bx;rw[L.AP,d2];rfl
  have z:∀s,s∈Bx P'->s∈Bx P\/s=P.D.A4++[(A9 nm,P.D.AU)]:=λs d=>by
   rw[es]at d;rcases AV.1 d with d|d
   ·exact .inl d
   ·exact .inr (by simpa using d)
  refine⟨λs d=>?_,λs d=>?_,λs d=>?_,by rw[es,d1];simp⟩
  ·rcases z s d with d|rfl
   ·rw[old s d];exact h.Dw s d
   ·exact I d0
  ·rcases z s d with d|rfl
   ·exact h.Au s d
   ·rw[Eg,GI];refine⟨h.Au _ h.Cu,by simp,λa O b H=>?_⟩;simp at H;subst H;obtain⟨e,E,rfl⟩:=Cr.1 O;exact Il h.Cu E
  ·rcases z s d with d|rfl
   ·exact h.Ce s d
   ·rw[Eg,GI];refine⟨h.Ce _ h.Cu,by simp,λa O b H=>?_⟩;simp at H;subst H;obtain⟨e,E,rfl⟩:=Cr.1 O;exact(IV.1 d0) e E
def CX.dn(E:CX bd V ix sg cl none)(hs:Cb o (Ax sg++Ax cl) puts)(hsafe:A8<=puts.length){n:Int}(hn:isNum n=true)(aA:n<=bd.1)(hf:ix.B8<=n)(L:∀x∈cl,x.1<n)(j:Nat)(hV:∀m,V' m=if m=Ah n then some ((AT (AH (Ah n)) (AS ((Ax cl).length:Int))).take j,0) else V m):
 CY bd V' ix sg cl (some (n,[])) puts A8 o/\(12<=j->ET bd V' puts A8 o n (Ax cl).length):=by
 have hpl:(AT (AH (Ah n)) (AS ((Ax cl).length:Int))).length=12:=by rw[EE,CP]
 have h:∀m,m≠Ah n->V' m=V m:=λm hm=>by rw[hV,Ae hm]
 have z:V' (Ah n)=some ((AT (AH (Ah n)) (AS ((Ax cl).length:Int))).take j,0):=by rw[hV,Ai rfl]
 have O:∀x∈cl,Ah x.1≠Ah n:=λx H e=>by
  have:=FW (E.CW x H).1.1 hn e;have:=L x H;omega
 have I:12<=j->(AT (AH (Ah n)) (AS ((Ax cl).length:Int))).take j=E2 (Ah n) ((Ax cl).length:Int) []:=λhj=>by
  rw[Er (by omega)];simp[E2,E1]
 have W:HP ((AT (AH (Ah n)) (AS ((Ax cl).length:Int))).take j) (Ah n) (Ax cl).length []:=by
  by_cases hj:12<=j
  ·exact .inl ⟨[],by rw[I hj];simp,by simp⟩
  ·exact .inr ⟨rfl,by rw[BW];omega⟩
 have Y:CX bd V' ix sg cl (some (n,[])):=by
  refine⟨E.DG,by rw[h _ (Hk n).symm];exact E.Ik,E.segs,λx H=>by rw[h _ (G1 n x.1).symm];exact E.Cy x H,λx H=>by rw[h _ (O x H)];exact E.CW x H,
   E.Am.bD λx H=>by rw[h _ (O x H)],λn' l e=>by cases e;exact⟨⟨hn,hf⟩,λp hp=>(by cases hp),_,z,W⟩,?_,λk h1 h2 h3=>?_,λm hm=>?_,λm d hd=>?_⟩
  ·have:=E.EN;simp only[Option.map_none,Option.toList_none,FA]at this;refine Es.2 ⟨this,by simp,λa ha b hb=>?_⟩;simp at hb;subst hb;obtain⟨x,H,rfl⟩:=Cr.1 ha;exact L x H
  ·by_cases e:Ah k=Ah n
   ·have:=FW h1 hn e;subst this;simp
   ·rw[h _ e]at h3;have:=E.Cp k h1 h2 h3;simp at this;simp[this]
  ·by_cases e:m=Ah n
   ·subst e;exact Zz hn aA
   ·rw[h _ e]at hm;exact E.Ek m hm
  ·by_cases e:m=Ah n
   ·subst e;rw[z]at hd;cases hd;dsimp only;omega
   ·rw[h _ e]at hd;exact E.DZ m d hd
 refine⟨⟨puts.length,Y,As _,by rw[Cl];exact hs,λn' l e=>by cases e;exact⟨_,z,by omega,by simp⟩,λe=>by cases e⟩,λhj=>?_⟩;exact⟨ix,sg,cl,[],puts.length,_,Y,As _,by rw[Cl];exact hs,z,I hj,rfl,by omega,by simp⟩
def US{nm:ByteArray}{f:Nat}(l:Bs)(h:lookup P.D.A4 nm=some f)(d:(P.an nm l).1=0):(P.an nm l).2.F=upd P.F f ((P.F f).1++l,(P.F f).2):=by
 have W:(A9 l).data.toList=l:=by simp[A9]
 unfold PD.an Bp at d ⊢;rw[h]at d ⊢;dsimp only at d ⊢;have z:∀D L e,(BB D P.F f (A9 l) L e).1=0->e=0/\(BB D P.F f (A9 l) L e).2.2=upd P.F f ((P.F f).1++l.take L.toNat,(P.F f).2):=λD L e E=>by
  unfold BB at E ⊢;split at E
  ·dsimp only at E;split at E
   ·cases E
   ·rename_i H O;exact absurd E O
  ·rename_i H;rw[Ae H,W];exact⟨E,rfl⟩
 split at d
 ·rename_i I;rw[Ai I];obtain⟨_,O⟩:=z _ _ _ d;rw[O];have:((A9 l).size:Int).toNat=l.length:=by rw[KU];simp
  rw[this,Cl]
 ·rename_i I;split at d
  ·obtain⟨H,_⟩:=z _ _ _ d;exact absurd (GS H) I
  ·exact absurd (GS d) I
def MV(P:PD)(J:Jn):Extra P (Ah (J.Aa+1)) (J.ax P).2.2/\(∃j,(J.ax P).2.2.F P.D.AU=((AT (AH (Ah (J.Aa+1))) (AS J.puts)).take j,0))/\
 ((J.ax P).1=0->lookup (J.ax P).2.2.D.A4 (A9 (Ah (J.Aa+1)))=some P.D.AU/\(J.ax P).2.2.F P.D.AU=(AT (AH (Ah (J.Aa+1))) (AS J.puts),0)):=by
 obtain⟨nm,O⟩:∃nm,Ah (J.Aa+1)=nm:=⟨_,rfl⟩;obtain⟨W,e2⟩:=JV P nm;have E:(P.ak (A9 nm)).2.F P.D.AU=([],0):=by
  unfold PD.ak;simp[upd]
 unfold Jn.ax;rw[O];dsimp only
 by_cases H:(P.ak (A9 nm)).1=0
 ·rw[Ae (nn H)];have I:=e2 H;have ea:((P.ak (A9 nm)).2.ad (A9 nm) (AH nm) (AS J.puts)).2.2=((P.ak (A9 nm)).2.an (A9 nm) (AT (AH nm) (AS J.puts))).2:=rfl;have L:((P.ak (A9 nm)).2.ad (A9 nm) (AH nm) (AS J.puts)).2.1=((P.ak (A9 nm)).2.an (A9 nm) (AT (AH nm) (AS J.puts))).1:=rfl;have Y:=W.an I (AT (AH nm) (AS J.puts));obtain⟨a1,a2,a3,d⟩:=Is (AT (AH nm) (AS J.puts)) I;have hj:∃j,((P.ak (A9 nm)).2.an (A9 nm) (AT (AH nm) (AS J.puts))).2.F P.D.AU=((AT (AH nm) (AS J.puts)).take j,0):=by
   rcases d with d|⟨j,d⟩
   ·exact⟨0,by rw[d,E];simp⟩
   ·exact⟨j,by rw[d];simp[upd,E]⟩
  by_cases z:((P.ak (A9 nm)).2.ad (A9 nm) (AH nm) (AS J.puts)).2.1=0
  ·rw[Ae (nn z),ea];refine⟨Y,hj,λ_=>⟨by rw[a1];exact I,?_⟩⟩;rw[US _ I (by rw[<-L];exact z)];simp[upd,E]
  ·rw[Ai z,ea];exact⟨Y,hj,λh=>absurd h z⟩
 ·rw[Ai H];exact⟨W,⟨0,by rw[E];simp⟩,λh=>absurd h H⟩
def DI.ax(h:DI bd P puts A8 o){J:Jn}(hL:CX bd P.fl ix sg cl none)(hs:Cb o (Ax sg++Ax cl) puts)(z:A8<=puts.length)(hn:isNum (J.Aa+1)=true)(I:J.Aa+1<=bd.1)(hf:ix.B8<=J.Aa+1)(H:∀x∈cl,x.1<J.Aa+1)(hp:J.puts=((Ax cl).length:Int)):
 DI bd (J.ax P).2.2 puts A8 o/\((J.ax P).1=0->Eo bd (J.ax P).2.2 puts A8 o (J.Aa+1) P.D.AU (Ax cl).length):=by
 obtain⟨L,⟨j,b2⟩,b3⟩:=MV P J;rw[hp]at b2 b3;have E:=Kw λe Y=>L.En _ (Il h.Cu Y);have W:=h.fh L λh0=>by
  refine((hL.dn hs z hn I hf H j (V':=vw (J.ax P).2.2.F (P.D.A4++[(A9 (Ah (J.Aa+1)),P.D.AU)])) λm=>?_).1).cc;rw[Kv h0,b2,E];rfl
 refine⟨W,λO=>?_⟩;obtain⟨c1,c2⟩:=b3 O;refine⟨c1,λs d=>?_⟩;rcases L.Hp with⟨d1,d2⟩|⟨d0,d1,d2⟩
 ·
  rw[d1]at c1;exact absurd (E8 c1) (λhm=>Il h.Cu hm rfl)
 ·have es:Bx (J.ax P).2.2=Bx P++[P.D.A4++[(A9 (Ah (J.Aa+1)),P.D.AU)]]:=by unfold Bx;rw[L.AP,d2];rfl
  rw[es]at d;rcases AV.1 d with d | d
  ·exact .inl λe Y=>Il d Y
  ·simp at d;subst d;refine .inr ⟨by rw[<-d1];exact c1,?_⟩;refine(hL.dn hs z hn I hf H 12 (V':=vw (J.ax P).2.2.F (P.D.A4++[(A9 (Ah (J.Aa+1)),P.D.AU)])) λm=>?_).2 (As _);rw[Kv d0,c2,E,Er (by rw[EE,CP];omega)];rfl
end
section
variable {bd:Int×Int} {P P':PD} {V V':View} {A:Ar} {ix:Ix} {sg cl:List (Int×List Pu)} {lo:Option (Int×List Pu)} {ol:Option (List Pu)} {puts:List Pu} {A8:Nat} {o:Int} {nm:Bs}
def PH{c:FC}(h:P.fl nm=some c):P.bs nm=some c.1:=by unfold PD.bs;rw[h];rfl
def Im{b:Bs}(h:P.bs nm=some b):∃c,P.fl nm=some c/\c.1=b:=by
 obtain⟨k,d⟩:=Lh h;exact⟨(b,k),d,rfl⟩
def Lay.br(h:Lay P A sg cl ol)(_hl:(Ax cl).length<=1099511627776)(hr:∀nm c,P.fl nm=some c->0<=c.2/\c.2<=c.1.length)(L:∀nm c,(nm=AL\/(∃x∈sg,nm=AJ x.1)\/∃x∈cl,nm=Ah x.1)->P.fl nm=some c->C6 c)(O:Hz bd A.ix sg)(Y:∀nm,P.fl nm≠none->F8 bd nm):CX bd P.fl A.ix sg cl (ol.map λl=>(A.j.Aa,l)):=by
 have d:cl.map (·.1)++(Option.map (·.1) (ol.map λl=>(A.j.Aa,l))).toList=A.j.Am:=by
  rw[h.bS];cases ol<;>simp[shut]
 refine⟨O,?_,h.segs,λx z=>?_,λx z=>?_,Fw.at.2 h.Am,λn l e=>?_,by rw[d];exact h.H8,λn E H W=>?_,Y,hr⟩
 ·rcases h.ix with⟨E,H⟩|E
  ·exact .inl ⟨Iq.1 E,H⟩
  ·obtain⟨c,c1,c2⟩:=Im E;exact .inr ⟨c,c1,L _ _ (.inl rfl) c1,c2⟩
 ·obtain⟨E,H⟩:=h.Cy x z;obtain⟨c,c1,c2⟩:=Im H;exact⟨E,c,c1,L _ _ (.inr (.inl ⟨x,z,rfl⟩)) c1,c2⟩
 ·have I:=h.Am.DF z;obtain⟨b,I⟩:=Ls.1 I;obtain⟨c,c1,_⟩:=Im I;exact⟨⟨(h.CW x z).1.1,h.EI.1 x z⟩,(h.CW x z).2,c,c1,L _ _ (.inr (.inr ⟨x,z,rfl⟩)) c1⟩
 ·cases ol with
  | none=>cases e
  | some l'=>
   cases e;obtain⟨_,_,W,h4,h5⟩:=h.AB;obtain⟨c,c1,c2⟩:=Im W;exact⟨⟨h5,h.EI.2 (by simp)⟩,h4,c,c1,.inl ⟨[],by rw[c2,h.Gq];simp,by simp⟩⟩
 ·rw[d];exact h.Hj n E H λI=>W (Iq.1 I)
def CY.bJ(h:CY bd V ix sg cl lo puts A8 o)(h0:V nm=none)(z:nm=Bo\/∃k,(isNum k=true/\k<=bd.2)/\nm=AJ k)(c:FC)(hc:0<=c.2/\c.2<=c.1.length)(hV:∀m,V' m=if m=nm then some c else V m):CY bd V' ix sg cl lo puts A8 o:=by
 obtain⟨nb,O,W,hs,g1,g2⟩:=h;have H:∀m,Ko ix sg m->m≠nm:=by
  rintro m (rfl|⟨x,hx,rfl⟩|⟨n,hn,_,rfl⟩) e
  ·rcases z with z|⟨k,_,z⟩
   ·exact J4 (e.trans z)
   ·exact Jy k (z.symm.trans e.symm)
  ·obtain⟨_,d,I,_⟩:=O.Cy x hx;rw[e,h0]at I;cases I
  ·rcases z with z|⟨k,_,z⟩
   ·exact L1 n (e.trans z)
   ·exact G1 n k (e.trans z)
 have E:∀m,m≠nm->V' m=V m:=λm L=>by rw[hV,Ae L]
 refine⟨nb,O.bR (λm L=>?_) (λm L=>?_) (λm d I=>?_),W,hs,λn l e=>?_,g2⟩
 ·rw[E m (H m L)];cases hv:V m with
  | none=>exact .inl ⟨rfl,rfl⟩
  | some d=>exact .inr ⟨d,d,rfl,rfl,rfl,.inl rfl⟩
 ·by_cases e:m=nm
  ·subst e;rcases z with rfl|⟨k,Y,rfl⟩
   ·exact SO bd
   ·exact SM Y.1 Y.2
  ·rw[E m e]at L;exact O.Ek m L
 ·by_cases e:m=nm
  ·rw[hV,Ai e]at I;cases I;exact hc
  ·rw[E m e]at I;exact O.DZ m d I
 ·obtain⟨d,d1,d2,d3⟩:=g1 n l e;have hq:=(O.Aa n l e).1;exact⟨d,by rw[E _ (H _ (.inr (.inr ⟨n,hq.1,hq.2,rfl⟩)))];exact d1,d2,d3⟩
def Extra.fl(h:DI bd P puts A8 o)(d:Extra P nm P'):(P'.fl=P.fl)\/(P.fl nm=none/\∀m,P'.fl m=if m=nm then some (P'.F P.D.AU) else P.fl m):=by
 have old:=Kw λe z=>d.En _ (Il h.Cu z);rcases d.Hp with⟨d1,_⟩|⟨d0,d1,_⟩
 ·refine .inl ?_;have:P'.fl=vw P'.F P.D.A4:=by funext m;unfold PD.fl vw;rw[d1]
  rw[this,old];rfl
 ·refine .inr ⟨by unfold PD.fl;rw[d0];rfl,λm=>?_⟩;have:P'.fl m=vw P'.F (P.D.A4++[(A9 nm,P.D.AU)]) m:=by unfold PD.fl vw;rw[d1]
  rw[this,Kv d0,old];rfl
def CY.eh(h:DI bd P puts A8 o)(E:CY bd P.fl ix sg cl lo puts A8 o)(z:Extra P nm P')(d:nm=Bo\/∃k,(isNum k=true/\k<=bd.2)/\nm=AJ k):CY bd P'.fl ix sg cl lo puts A8 o:=by
 rcases Extra.fl h z with e|⟨H,e⟩
 ·rw[e];exact E
 ·exact E.bJ H d _ z.DZ e
def CY.ah:∀(fresh:List (List Pu)) (last:Int) (kept:List Int) {P:PD},DI bd P puts A8 o->CY bd P.fl ix sg cl lo puts A8 o->0<=last->last+fresh.length<=4611686018427387904->last+fresh.length<=bd.2->CY bd (PD.ah fresh last kept P).2.2.2.fl ix sg cl lo puts A8 o
 | [],last,kept,P,_,hT,_,_,_=>hT
 | l::r,last,kept,P,h,hT,h0,h1,h2=>by
  simp only[Cx]at h1 h2;have z:PD.ah (l::r) last kept P=if (P.aK (last+1) l).1≠0 then ((P.aK (last+1) l).1,last+1,kept,(P.aK (last+1) l).2) else PD.ah r (last+1) (kept++[last+1]) (P.aK (last+1) l).2:=rfl
  have d:AJ (last+1)=Bo\/∃k,(isNum k=true/\k<=bd.2)/\AJ (last+1)=AJ k:=.inr ⟨last+1,⟨by unfold isNum;simp;omega,by omega⟩,rfl⟩;have H:=(JU P (AJ (last+1)) (AH (AJ (last+1))) (Cf l)).1;have I:DI bd (P.aK (last+1) l).2 puts A8 o:=h.aI d _ _;have E:CY bd (P.aK (last+1) l).2.fl ix sg cl lo puts A8 o:=hT.eh h H d;rw[z];split
  ·exact E
  ·exact CY.ah r (last+1) _ I E (by omega) (by omega) (by omega)
def RD(h:G5 P){old nw:Bs}{f:Nat}(E:lookup P.D.A4 (A9 old)=some f):(P.aO (A9 old) (A9 nw)).2.F=P.F/\(P.aO (A9 old) (A9 nw)).2.D.AP=P.D.AP/\
 (((P.aO (A9 old) (A9 nw)).2.D.A4=P.D.A4/\(P.aO (A9 old) (A9 nw)).2.D.Av=P.D.Av/\(P.aO (A9 old) (A9 nw)).1≠0)\/
   ((P.aO (A9 old) (A9 nw)).2.D.A4=(P.D.A4.filter λe=>decide (e.1≠A9 old/\e.1≠A9 nw))++[(A9 nw,f)]/\(P.aO (A9 old) (A9 nw)).2.D.Av=P.D.Av++[(P.D.A4.filter λe=>decide (e.1≠A9 old/\e.1≠A9 nw))++[(A9 nw,f)]])):=by
 have d:¬B4 P.D.A4 (A9 old)<0:=λd=>by rw[J6,E]at d;cases d
 unfold PD.aO CV;rw[E];dsimp only
 by_cases H:A9 nw=ByteArray.empty
 ·rw[Ai H];exact⟨rfl,rfl,.inl ⟨rfl,rfl,by simp⟩⟩
 ·rw[Ae H];dsimp only
  rw[RI _ _ _ h.Ce d];by_cases z:(bg P.D.n).1=true
  ·rw[Ai z];exact⟨rfl,rfl,.inr ⟨rfl,rfl⟩⟩
  ·rw[Ae z];exact⟨rfl,rfl,.inl ⟨rfl,rfl,λh=>z (GS h)⟩⟩
def Qw{F:Nat->FC}{s:List AO}{old nw:Bs}{f:Nat}(hd:old≠nw)(m:Bs):vw F ((s.filter λe=>decide (e.1≠A9 old/\e.1≠A9 nw))++[(A9 nw,f)]) m=if m=nw then some (F f) else if m=old then none else vw F s m:=by
 have E:lookup (s.filter λe=>decide (e.1≠A9 old/\e.1≠A9 nw)) (A9 nw)=none:=by
  rw[L0 s (λx=>decide (x≠A9 old/\x≠A9 nw))];simp
 rw[Kv E];by_cases d:m=nw
 ·rw[Ai d,Ai d]
 ·rw[Ae d,Ae d];unfold vw;rw[L0 s (λx=>decide (x≠A9 old/\x≠A9 nw))];have z:A9 m≠A9 nw:=λe=>d (FY.1 e);by_cases h:m=old
  ·subst h;simp
  ·have:A9 m≠A9 old:=λe=>h (FY.1 e);simp[this,z,h]
def DI.e1(h:DI bd P puts A8 o){f:Nat}(hl:lookup P.D.A4 (A9 Bo)=some f)(I:Holds bd (λm=>if m=AL then some (P.F f) else if m=Bo then none else P.fl m) puts A8 o):DI bd (P.aO (A9 Bo) (A9 AL)).2 puts A8 o:=by
 obtain⟨a1,a2,a3⟩:=RD (nw:=AL) h.bh hl;have L:=E8 hl;rcases a3 with⟨d1,d2,_⟩|⟨d1,d2⟩
 ·have es:Bx (P.aO (A9 Bo) (A9 AL)).2=Bx P:=by unfold Bx;rw[a2,d2]
  exact⟨λs d=>by rw[es]at d;rw[a1];exact h.Dw s d,by rw[es];exact h.Au,by rw[es];exact h.Ce,by rw[es,d1];exact h.Cu⟩
 ·obtain⟨s1,E⟩:∃s1,(P.D.A4.filter λe=>decide (e.1≠A9 Bo/\e.1≠A9 AL))++[(A9 AL,f)]=s1:=⟨_,rfl⟩;rw[E]at d1 d2;have es:Bx (P.aO (A9 Bo) (A9 AL)).2=Bx P++[s1]:=by unfold Bx;rw[a2,d2];rfl
  have z:∀s,s∈Bx (P.aO (A9 Bo) (A9 AL)).2->s∈Bx P\/s=s1:=λs d=>by
   rw[es]at d;rcases AV.1 d with d|d
   ·exact .inl d
   ·exact .inr (by simpa using d)
  have hv:vw P.F s1=λm=>if m=AL then some (P.F f) else if m=Bo then none else P.fl m:=by
   funext m;rw[<-E,Qw J4.symm];rfl
  refine⟨λs d=>?_,λs d=>?_,λs d=>?_,by rw[es,d1];simp⟩
  ·rw[a1];rcases z s d with d|rfl
   ·exact h.Dw s d
   ·rw[hv];exact I
  ·rcases z s d with d|rfl
   ·exact h.Au s d
   ·rw[<-E,Eg,GI];refine⟨(h.Au _ h.Cu).sublist (GZ.map _),by simp,λa Y b H=>?_⟩;simp at H;subst H;obtain⟨e,he,rfl⟩:=Cr.1 Y;obtain⟨W,O⟩:=GX.1 he;intro aA;have:=JH (h.Au _ h.Cu) W L aA;subst this;simp at O
  ·rcases z s d with d|rfl
   ·exact h.Ce s d
   ·rw[<-E,Eg,GI];refine⟨(h.Ce _ h.Cu).sublist (GZ.map _),by simp,λa Y b H=>?_⟩;simp at H;subst H;obtain⟨e,he,rfl⟩:=Cr.1 Y;have:=(GX.1 he).2;simp at this;exact this.2
def CX.fB{V:View}{h:Int}{I:List (Int×List Pu)}{c:FC}(aA:Hz bd ⟨h,I.map (·.1)⟩ I)(hc:C6 c/\c.1=AT (AH AL) (Ci h (I.map (·.1))))(Y:∀x∈I,((∀p∈x.2,Bh p)/\Cz Co x.2=true)/\∃c,V (AJ x.1)=some c/\C6 c/\c.1=AT (AH (AJ x.1)) (Cf x.2))(L:∀n,isNum n=true->h<=n->V (Ah n)=none)(E:∀nm,V nm≠none->F8 bd nm)(O:∀nm c,V nm=some c->0<=c.2/\c.2<=c.1.length)(hV:∀m,V' m=if m=AL then some c else if m=Bo then none else V m):CX bd V' ⟨h,I.map (·.1)⟩ I [] none:=by
 have z:∀m,m≠AL->m≠Bo->V' m=V m:=λm h1 h2=>by rw[hV,Ae h1,Ae h2]
 refine⟨aA,.inr ⟨c,by rw[hV,Ai rfl],hc.1,hc.2⟩,rfl,λx hx=>?_,λx hx=>(by cases hx),trivial,λn l e=>(by cases e),List.Pairwise.nil,λn h1 h2 h3=>?_,λnm hn=>?_,λnm d H=>?_⟩
 ·rw[z _ (Jy _) (M3 _)];exact Y x hx
 ·rw[z _ (Hk _) (L1 _),L n h1 h2]at h3;exact absurd rfl h3
 ·by_cases e:nm=AL
  ·subst e;exact ZA bd
  ·by_cases W:nm=Bo
   ·rw[hV,Ae e,Ai W]at hn;exact absurd rfl hn
   ·rw[z nm e W]at hn;exact E nm hn
 ·by_cases e:nm=AL
  ·rw[hV,Ai e]at H;cases H;have:=hc.1;unfold C6 at this;omega
  ·by_cases W:nm=Bo
   ·rw[hV,Ae e,Ai W]at H;cases H
   ·rw[z nm e W]at H;exact O nm d H
end
def Reads(bd:Int×Int)(P:PD)(q:List Pu)(o:Int):Prop:=∃A sg cl ol,Lay P A sg cl ol/\Cb o (B7 sg cl ol) q/\Hz bd A.ix sg
def Whole(bd:Int×Int)(V:View)(q:List Pu)(o:Int):Prop:=∃ix sg cl lo,CX bd V ix sg cl lo/\(Ax cl).length<=1099511627776/\Cb o (Ax sg++Ax cl++EF lo) q
section
variable {bd:Int×Int} {P P':PD} {V V':View} {A:Ar} {ix:Ix} {sg cl:List (Int×List Pu)} {lo:Option (Int×List Pu)} {ol:Option (List Pu)} {puts q:List Pu} {A8:Nat} {o:Int} {nm:Bs}
def CX.AX(h:CX bd P.fl ix sg cl lo)(hl:(Ax cl).length<=1099511627776)(K L:Int)(hK:0<=K/\ix.B8<=K+1)(aA:∀n,isNum n=true->P.fl (Ah n)≠none->n<=K)(hL:0<=L)(aB:∀n,isNum n=true->P.fl (AJ n)≠none->n<=L):
 Lay P ⟨ix,⟨cl.map (·.1)++(lo.map (·.1)).toList,K,((Ax cl++EF lo).length:Int),none⟩,L,[]⟩ sg (cl++lo.toList) none:=by
 have O:∀m,P.bs m≠none->P.fl m≠none:=λm hm e=>hm (Iq.2 e);have z:∀x∈cl++lo.toList,(isNum x.1=true/\ix.B8<=x.1)/\(∀p∈x.2,Bh p)/\P.fl (Ah x.1)≠none:=λx d=>by
  rcases AV.1 d with d|d
  ·obtain⟨H,E,c,I,_⟩:=h.CW x d;exact⟨H,E,by rw[I];simp⟩
  ·cases lo with
   | none=>simp at d
   | some y=>
    simp at d;subst d;obtain⟨n,l⟩:=x;obtain⟨H,E,c,I,_⟩:=h.Aa n l rfl;exact⟨H,E,by rw[I];simp⟩
 have Y:Ax (cl++lo.toList)=Ax cl++EF lo:=by
  cases lo with
  | none=>simp[Ax,EF]
  | some y=>simp[Ax,EF]
 have W:Fw P.fl 0 (cl++lo.toList):=by
  cases lo with
  | none=>simpa using h.Am
  | some y=>
   obtain⟨n,l⟩:=y;obtain⟨_,E,c,I,h4⟩:=h.Aa n l rfl;refine h.Am.bU ?_;unfold IX;rw[I];dsimp only
   rw[Nq];exact h4.a1 (by constructor<;>omega) E
 refine⟨h.DG.1,?_,h.segs,λx d=>?_,λx d=>⟨⟨(z x d).1.1,aA _ (z x d).1.1 (z x d).2.2⟩,(z x d).2.1⟩,λx _ d=>absurd rfl d,⟨λx d=>(z x d).1.2,λd=>absurd rfl d⟩,Fw.at.1 W,?_,⟨rfl,?_⟩,⟨hK.1,hK.2,λn H E=>aA n H (O _ E)⟩,⟨hL,λn H E=>aB n H (O _ E)⟩,λm hm=>(by cases hm),h.EN,λm hm=>(h.Ek m (O m hm)).1,λn H E I=>h.Cp n H E (O _ I)⟩
 ·rcases h.Ik with⟨H,E⟩|⟨c,H,_,I⟩
  ·exact .inl ⟨Iq.2 H,E⟩
  ·exact .inr (by rw[PH H,I])
 ·obtain⟨H,c,E,_,h4⟩:=h.Cy x d;exact⟨H,by rw[PH E,h4]⟩
 ·dsimp only;rw[Y]
 ·dsimp only
  rw[Eg];cases lo<;>simp
def Whole.bw(h:Whole bd P.fl q o):Reads bd P q o:=by
 obtain⟨ix,sg,cl,lo,H,L,O⟩:=h;have I:=H.DG.1.B8;unfold isNum at I;simp at I;have E:=H.AX L 4611686018427387904 4611686018427387904 ⟨by decide,by omega⟩ (λn d _=>by unfold isNum at d;simp at d;exact d.2) (by decide) (λn d _=>by unfold isNum at d;simp at d;exact d.2);refine⟨_,sg,_,none,E,?_,H.DG⟩;unfold B7;have z:Ax (cl++lo.toList)=Ax cl++EF lo:=by
  cases lo<;>simp[Ax,EF]
 rw[z];simpa[List.append_assoc] using O
def ET.bC{n:Int}{ahead:Nat}(h:ET bd V puts A8 o n ahead)(ha:ahead<=1099511627776):Whole bd V puts o:=by
 obtain⟨ix,sg,cl,l,nb,c,E,hnb,d,h1,h2,h3,h4,z⟩:=h;refine⟨ix,sg,cl,some (n,l),E,by omega,?_⟩;have:puts=puts.take nb++l:=by rw[z,DM]
 conv=>rhs;rw[this]
 exact d.dE l
def Reads.aW{d:Int×Int}(h:Reads bd P q o)(z:HD bd d):Reads d P q o:=by
 obtain⟨A,sg,cl,ol,H,E,I⟩:=h;exact⟨A,sg,cl,ol,H,E,I.aW z⟩
def Reads.bc{d:Int}(h:Reads bd P q o)(z:o<=d):Reads bd P q d:=by
 obtain⟨A,sg,cl,ol,H,E,I⟩:=h;exact⟨A,sg,cl,ol,H,E.bc z,I⟩
def Reads.ay(h:Reads bd P q o)(d:∀m,P'.bs m=P.bs m):Reads bd P' q o:=by
 obtain⟨A,sg,cl,ol,E,z,H⟩:=h;exact⟨A,sg,cl,ol,E.ay d,z,H⟩
def QK(P:PD)(nm:ByteArray)(m:Bs):(P.fl m=none/\(P.ae nm).2.fl m=none)\/∃c d,P.fl m=some c/\(P.ae nm).2.fl m=some d/\d.1=c.1/\(d.2=c.2\/C6 d):=by
 cases hx:lookup P.D.A4 nm with
 | none=>
  have e:(P.ae nm).2=P:=by unfold PD.ae CG;rw[hx]
  rw[e];cases hf:P.fl m with
  | none=>exact .inl ⟨rfl,rfl⟩
  | some c=>exact .inr ⟨c,c,rfl,rfl,rfl,.inl rfl⟩
 | some f=>
  obtain⟨z,a2,a3,h⟩:=ID hx;unfold PD.fl;rw[z];cases hk:lookup P.D.A4 (A9 m) with
  | none=>exact .inl ⟨rfl,rfl⟩
  | some g=>
   refine .inr ⟨P.F g,(P.ae nm).2.F g,rfl,rfl,?_⟩;rcases h with h|h
   ·rw[h];exact⟨rfl,.inl rfl⟩
   ·rw[h];by_cases e:g=f
    ·subst e;simp[upd,C6]
    ·simp[upd,e]
def NO(P:PD)(nm:ByteArray)(m:Bs):(P.ae nm).2.bs m=P.bs m:=by
 unfold PD.bs;rcases QK P nm m with⟨z,h⟩|⟨c,d,z,h,E,_⟩
 ·rw[z,h]
 ·rw[z,h];simp[E]
def QS:∀(l:List Bs) (P:PD) (m:Bs),(PD.az l P).2.bs m=P.bs m
 | [],P,m=>rfl
 | x::r,P,m=>by
  unfold PD.az;split
  ·exact NO P (A9 x) m
  ·rw[QS r,NO]
def NX(A:Ar)(P:PD)(m:Bs):(A.C P).2.2.bs m=P.bs m:=by
 unfold Ar.C;split<;>exact QS _ _ m
def NN{c:FC}{P:PD}{nm:ByteArray}{m:Bs}(h:∀c,P.fl m=some c->C6 c)(E:(P.ae nm).2.fl m=some c):C6 c:=by
 rcases QK P nm m with⟨_,H⟩|⟨a,d,I,H,L,z⟩
 ·rw[H]at E;cases E
 ·rw[H]at E;cases E;rcases z with z|z
  ·have:=h a I;unfold C6 at this ⊢;rw[z,L];exact this
  ·exact z
def NP:∀(l:List Bs) {P:PD} {m:Bs},(∀c,P.fl m=some c->C6 c)->∀c,(PD.az l P).2.fl m=some c->C6 c
 | [],P,m,h,c,d=>h c d
 | x::r,P,m,h,c,d=>by
  unfold PD.az at d;split at d
  ·exact NN h d
  ·exact NP r (λc d=>NN h d) c d
def QJ{P:PD}{x:Bs}(d:(P.ae (A9 x)).1=0):∀c,(P.ae (A9 x)).2.fl x=some c->C6 c:=by
 intro c h;unfold PD.fl PD.ae CG at h;unfold PD.ae CG at d;cases hx:lookup P.D.A4 (A9 x) with
 | none=>rw[hx]at d;cases d
 | some f=>
  rw[hx]at d h;dsimp only at d h;rw[Ai d,hx]at h;simp[upd]at h;subst h;rfl
def QQ:∀(l:List Bs) {P:PD},(PD.az l P).1=0->∀m∈l,∀c,(PD.az l P).2.fl m=some c->C6 c
 | x::r,P,hok,m,h,c,hc=>by
  unfold PD.az at hok hc;by_cases d:(P.ae (A9 x)).1=0
  ·rw[Ae (nn d)]at hok hc;rcases BQ.1 h with rfl|h
   ·exact NP r (QJ d) c hc
   ·exact QQ r hok m h c hc
  ·rw[Ai d]at hok;exact absurd hok d
def Xw(d:(A.C P).1=0){m:Bs}(h:∀c,P.fl m=some c->m∈A.AQ\/C6 c):∀c,(A.C P).2.2.fl m=some c->C6 c:=by
 intro c z;unfold Ar.C at d z;by_cases E:(P.az A.AQ).1=0
 ·rw[Ae (nn E)]at z;by_cases H:m∈A.AQ
  ·exact QQ A.AQ E m H c z
  ·exact NP A.AQ (λc z=>(h c z).resolve_left H) c z
 ·rw[Ai E]at d;exact absurd d E
def ET.bR{n:Int}{ahead:Nat}(h:ET bd V puts A8 o n ahead)(H:∀nm,(∀c,V nm=some c->∃d,V' nm=some d/\d.1=c.1/\(d.2=c.2\/C6 d))/\(V nm=none->V' nm=none)):ET bd V' puts A8 o n ahead:=by
 obtain⟨ix,sg,cl,l,nb,c,L,O,hs,Y,g2,g3,g4,g5⟩:=h;have I:∀nm,V' nm≠none->V nm≠none:=λnm z E=>z ((H nm).2 E);obtain⟨d,e1,W,e3⟩:=(H _).1 c Y;refine⟨ix,sg,cl,l,nb,d,L.bR (λnm _=>?_) (λnm z=>L.Ek nm (I nm z)) (λnm c z=>?_),O,hs,e1,by rw[W];exact g2,g3,AR g4 (Lx (Ua W e3 (L.DZ _ _ Y).2) _),g5⟩
 ·cases E:V nm with
  | none=>exact .inl ⟨rfl,(H nm).2 E⟩
  | some c=>obtain⟨d,d1,d2,d3⟩:=(H nm).1 c E;exact .inr ⟨c,d,rfl,d1,d2,d3⟩
 ·cases E:V nm with
  | none=>rw[(H nm).2 E]at z;cases z
  | some x=>
   obtain⟨d,d1,d2,d3⟩:=(H nm).1 x E;rw[d1]at z;cases z;have:=L.DZ nm x E;rcases d3 with d3|d3
   ·rw[d2,d3];exact this
   ·unfold C6 at d3;omega
def Eo.cD{n:Int}{f ahead:Nat}(h:Eo bd P puts A8 o n f ahead)(nm:ByteArray):Eo bd (P.ae nm).2 puts A8 o n f ahead:=by
 cases hx:lookup P.D.A4 nm with
 | none=>
  have e:(P.ae nm).2=P:=by unfold PD.ae CG;rw[hx]
  rw[e];exact h
 | some g0=>
  obtain⟨Y,a2,L,d⟩:=ID hx;have es:Bx (P.ae nm).2=Bx P:=by unfold Bx;rw[a2,L]
  refine⟨by rw[Y];exact h.1,λs I=>?_⟩;rw[es]at I;rcases h.2 s I with E|⟨O,H⟩
  ·exact .inl E
  ·refine .inr ⟨O,?_⟩;rcases d with d|d
   ·rw[d];exact H
   ·refine H.bR λm=>?_;unfold vw;cases hk:lookup s (A9 m) with
    | none=>exact⟨λc z=>by simp at z,λ_=>rfl⟩
    | some g=>
     refine⟨λc z=>?_,λW=>by simp at W⟩;simp at z;subst z;rw[d];by_cases e:g=g0
     ·subst e;exact⟨_,rfl,by simp[upd],.inr (by simp[upd,C6])⟩
     ·exact⟨P.F g,by simp[upd,e],rfl,.inl rfl⟩
def Eo.az{n:Int}{f ahead:Nat}:∀(l:List Bs) {P:PD},Eo bd P puts A8 o n f ahead->Eo bd (PD.az l P).2 puts A8 o n f ahead
 | [],P,h=>h
 | x::r,P,h=>by
  have d:=h.cD (A9 x);unfold PD.az;split
  ·exact d
  ·exact Eo.az r d
def Eo.C{n:Int}{f ahead:Nat}(h:Eo bd P puts A8 o n f ahead):Eo bd (A.C P).2.2 puts A8 o n f ahead:=by
 unfold Ar.C;split<;>exact h.az _
end
end
end Go.Proofs.YtodcnkbblippnaaGreatDoor
