/- Part 12 of a proof: walks of the program. -/
import Derived.Test.YtodcnkbblippnabGreatDoorPart11
namespace Go.Proofs.YtodcnkbblippnabGreatDoor
set_option maxRecDepth 100000
set_option maxHeartbeats 32000000
set_option linter.defProp false
open Go.Proofs.Tryz
section
open Go.RowKit
def PD.dl(P:PD):Nat:=P.D.A4.length
def Ha(P:PD):P.Ax.length=P.dl:=by
 unfold PD.Ax PD.dl;rw[FR,(KJ P.D.A4).length_eq,FR]
def A0R(P:PD)(nm:ByteArray):(P.ai nm).2.dl<=P.dl+1:=by
 unfold PD.dl PD.ai CK;split
 ·exact Hj _
 ·dsimp only;split
  ·simp
  ·exact Hj _
def A0T(P:PD)(f:Nat)(x:ByteArray)(d e:Int):(By P.D P.F f x d e).2.1.A4=P.D.A4:=by
 unfold By;split
 ·dsimp only;split<;>rfl
 ·rfl
def A0S(P:PD)(nm:ByteArray)(l:Bs):(P.an nm l).2.dl=P.dl:=by
 unfold PD.dl PD.an Bl;cases lookup P.D.A4 nm with
 | none=>rfl
 | some f=>
  dsimp only
  have h:∀d e,(By {P.D with n:=(bg P.D.n).2.2} P.F f (A7 l) d e).2.1.A4=P.D.A4:=λd e=>A0T ⟨{P.D with n:=(bg P.D.n).2.2},P.F⟩ f (A7 l) d e;split
  ·rw[h]
  ·split
   ·rw[h]
   ·rfl
def Tx(P:PD)(nm:ByteArray):(P.ae nm).2.dl=P.dl:=by
 unfold PD.dl PD.ae Cw;cases lookup P.D.A4 nm<;>rfl
def Tz(P:PD)(nm:ByteArray):(P.az nm).2.dl<=P.dl:=by
 unfold PD.dl PD.az Dd;split
 ·exact Au _
 ·dsimp only;split
  ·dsimp only;rw[AZ,BU,CP];omega
  ·exact Au _
def Ty(P:PD)(old nm:ByteArray):(P.aO old nm).2.dl<=P.dl+1:=by
 unfold PD.dl PD.aO CN;cases lookup P.D.A4 old with
 | none=>exact Hj _
 | some f=>
  dsimp only
  split
  ·exact Hj _
  ·dsimp only;split
   ·dsimp only
    have:=Nx P.D.A4 (B2 P.D.A4 old).toNat nm P.D.A4.length;rw[AZ];simp;omega
   ·exact Hj _
def KH(P:PD)(nm:Bs)(s:Nat)(l:Bs):(P.aH nm s l).2.dl<=P.dl+1:=by
 have d:=A0R P (A7 nm);have h:((P.ai (A7 nm)).2.aa (A7 nm) s l).2.2.dl=(P.ai (A7 nm)).2.dl:=A0S _ _ _;unfold PD.aH;split
 ·exact d
 ·split
  ·rw[h];exact d
  ·rw[Tx,h];exact d
def M3:∀(l:List Bs) (P:PD),(PD.aM l P).2.dl<=P.dl
 | [],P=>Au _
 | x::r,P=>by
  have d:=Tz P (A7 x);unfold PD.aM;split
  ·exact d
  ·exact AQ (M3 r _) d
def OG:∀(l:List Bs) (P:PD),(PD.ax l P).2.dl=P.dl
 | [],P=>rfl
 | x::r,P=>by
  have d:=Tx P (A7 x);unfold PD.ax;split
  ·exact d
  ·exact(OG r _).trans d
def JC:∀(fresh:List (List Pu)) (last:Int) (kept:List Int) (P:PD),(PD.ah fresh last kept P).2.2.2.dl<=P.dl+fresh.length/\(PD.ah fresh last kept P).2.2.1.length<=kept.length+fresh.length
 | [],last,kept,P=>⟨Au _,by simp[PD.ah]⟩
 | l::r,last,kept,P=>by
  have h1:(P.aL (last+1) l).2.dl<=P.dl+1:=KH _ _ _ _;have d:PD.ah (l::r) last kept P=if (P.aL (last+1) l).1≠0 then ((P.aL (last+1) l).1,last+1,kept,(P.aL (last+1) l).2) else PD.ah r (last+1) (kept++[last+1]) (P.aL (last+1) l).2:=rfl
  rw[d];split
  ·exact⟨by simp;omega,by simp⟩
  ·obtain⟨i1,h⟩:=JC r (last+1) (kept++[last+1]) (P.aL (last+1) l).2;exact⟨by simp;omega,by simp at h ⊢;omega⟩
def OH(A:Ar)(P:PD)(l:List Int):(A.ag P l).2.2.dl<=P.dl+2:=by
 have d:(P.ag (A.j.A8+1) l).2.dl<=P.dl+2:=by
  unfold PD.ag;have h2:=KH P Bk (AE AI) (Ch (A.j.A8+1) l);split
  ·omega
  ·have h3:=Ty (P.aH Bk (AE AI) (Ch (A.j.A8+1) l)).2 (A7 Bk) (A7 AI);omega
 unfold Ar.ag;split
 ·exact UO _ _
 ·split
  ·exact d
  ·exact d
def LI(A:Ar)(P:PD):(A.aV P).length<=P.dl:=by
 rw[<-Ha];unfold Ar.aV;exact J1 _ _
section
variable {P Q:PD} {N R:Nat} {A:Ar}
def AH.ay(h:AH P Q)(kept:List Int)(fresh:List (List Pu))(hc:Cm Q (N+A.AN.length+2*Q.dl+4*fresh.length+8) (R+Dg fresh+12+8*(kept.length+fresh.length)))(d:(A.ay P kept fresh).1=0):
 (A.ay Q kept fresh).1=0/\(A.ay P kept fresh).2.1=(A.ay Q kept fresh).2.1/\AH (A.ay P kept fresh).2.2 (A.ay Q kept fresh).2.2/\Cm (A.ay Q kept fresh).2.2 N R:=by
 unfold Ar.ay at d ⊢;dsimp only at d ⊢;by_cases L:(A.C P).1=0
 ·rw[Ac (nn L)]at d;obtain⟨a1,a2,a3,a4⟩:=h.C (N:=N+2*Q.dl+4*fresh.length+8) (hc.ad (by omega) (Au _)) L;rw[Ac (nn L),Ac (nn a1)];rw[a2]at d ⊢;have d1:(A.C Q).2.2.dl=Q.dl:=by unfold Ar.C;split<;>exact OG _ _
  by_cases H:((A.C Q).2.1.au (A.C P).2.2).1=0
  ·rw[Ac (nn H)]at d;have o1:=LI (A.C Q).2.1 (A.C Q).2.2;obtain⟨b1,b2,b3⟩:=a3.au (A:=(A.C Q).2.1) (N:=N+Q.dl+4*fresh.length+8) (a4.ad (by omega) (Au _)) H;(have d2:((A.C Q).2.1.au (A.C Q).2.2).2.dl<=Q.dl:=by rw[<-d1];exact M3 _ _);rw[Ac (nn H),Ac (nn b1)];by_cases W:(PD.ah fresh (A.C Q).2.1.A8 kept ((A.C Q).2.1.au (A.C P).2.2).2).1=0
   ·rw[Ac (nn W)]at d;obtain⟨c1,c2,c3,c4,c5⟩:=AH.ah (N:=N+Q.dl+fresh.length+8) (R:=R+12+8*(kept.length+fresh.length)) fresh (A.C Q).2.1.A8 kept b2 (b3.ad (by omega) (by omega)) W;obtain⟨d3,d4⟩:=JC fresh (A.C Q).2.1.A8 kept ((A.C Q).2.1.au (A.C Q).2.2).2;rw[Ac (nn W),Ac (nn c1)];rw[c2,c3]at d ⊢;obtain⟨A2,aB⟩:∃A2:Ar,({ (A.C Q).2.1 with A8:=(PD.ah fresh (A.C Q).2.1.A8 kept ((A.C Q).2.1.au (A.C Q).2.2).2).2.1}:Ar)=A2:=⟨_,rfl⟩;rw[aB]at d ⊢;generalize hsg:(PD.ah fresh (A.C Q).2.1.A8 kept ((A.C Q).2.1.au (A.C Q).2.2).2).2.2.1=sg at d d4 ⊢;obtain⟨aA,Y⟩:∃aA,(PD.ah fresh (A.C Q).2.1.A8 kept ((A.C Q).2.1.au (A.C P).2.2).2).2.2.2=aA:=⟨_,rfl⟩;obtain⟨z,E⟩:∃z,(PD.ah fresh (A.C Q).2.1.A8 kept ((A.C Q).2.1.au (A.C Q).2.2).2).2.2.2=z:=⟨_,rfl⟩;rw[Y]at d c4;rw[Y,E];rw[E]at c4 c5 d3;by_cases I:(A2.ag aA sg).1=0
    ·rw[Ac (nn I)]at d;obtain⟨e1,e2,e3,e4⟩:=c4.cw (A:=A2) (segs:=sg) (N:=N+Q.dl+fresh.length+4) (c5.ad (by omega) (Au _)) (by omega) I;have d5:=OH A2 z sg;rw[Ac (nn I),Ac (nn e1)];rw[e2]at d ⊢;unfold Ar.aZ at d ⊢;by_cases O:((A2.ag z sg).2.1.au (A2.ag aA sg).2.2).1=0
     ·rw[Ac (nn O)]at d;have o2:=LI (A2.ag z sg).2.1 (A2.ag z sg).2.2;obtain⟨f1,f2,f3⟩:=e3.au (A:=(A2.ag z sg).2.1) (N:=N+1) (e4.ad (by omega) (Au _)) O;obtain⟨g1,g2,g3⟩:=f2.aK (N:=N) f3 d;rw[Ac (nn O),Ac (nn f1)];exact⟨g1,rfl,g2,g3.ad (Au _) (by omega)⟩
     ·rw[Af O]at d;exact absurd d O
    ·rw[Af I]at d;exact absurd d I
   ·rw[Af W]at d;exact absurd d W
  ·rw[Af H]at d;exact absurd d H
 ·rw[Af L]at d;exact absurd d L
end
def Cn(n:DN)(e:Int)(d:DN):Prop:=
 (e≠5/\e≠6/\d.B5=n.B5/\d.fulls=n.fulls/\d.AS=n.AS)\/(e=5/\d.B5=wrap64 (n.B5+1)/\d.fulls=n.fulls)\/(e=6/\d.B5=wrap64 (n.B5+1)/\d.fulls=wrap64 (n.fulls+1)/\d.AS=n.AS)
def Cn.I(n:DN){e:Int}(d:e≠5)(h:e≠6):Cn n e n:=.inl ⟨d,h,rfl,rfl,rfl⟩
def Cn.Av{n E n2:DN}{a e:Int}(h:Cn n a E)(H:a=0)(d:Cn E e n2):Cn n e n2:=by
 subst H;rcases h with⟨_,_,L,O,I⟩|⟨z,_⟩|⟨z,_⟩
 ·unfold Cn at d ⊢;rw[L,O,I]at d;exact d
 ·cases z
 ·cases z
def JL(n:DN):Cn n (bg n).2.1 (bg n).2.2:=by
 unfold bg;dsimp only
 split
 ·exact .inr (.inl ⟨rfl,rfl,rfl⟩)
 ·split
  ·exact .inr (.inl ⟨rfl,rfl,rfl⟩)
  ·split
   ·exact .inr (.inl ⟨rfl,rfl,rfl⟩)
   ·exact .inl ⟨by simp,by simp,rfl,rfl,rfl⟩
def Gb(n:DN):(bg n).2.1=0\/(bg n).2.1=5:=by
 unfold bg;dsimp only
 split
 ·exact .inr rfl
 ·split
  ·exact .inr rfl
  ·split
   ·exact .inr rfl
   ·exact .inl rfl
section
variable {P:PD} {A:Ar} {J:Jn} {nm old:ByteArray}
def KT(P:PD)(nm:ByteArray):Cn P.D.n (P.ai nm).1 (P.ai nm).2.D.n:=by
 unfold PD.ai CK;split
 ·exact Cn.I _ (by simp) (by simp)
 ·have:=JL P.D.n;dsimp only
  split<;>exact this
def Mk(P:PD)(nm:ByteArray):Cn P.D.n (P.ae nm).1 (P.ae nm).2.D.n:=by
 unfold PD.ae Cw;split
 ·exact Cn.I _ (by simp) (by simp)
 ·exact JL P.D.n
def Ug(P:PD):Cn P.D.n P.aK.1 P.aK.2.D.n:=by
 have:=JL P.D.n;unfold PD.aK DC;dsimp only
 split<;>exact this
def Ui(P:PD)(nm:ByteArray):Cn P.D.n (P.az nm).1 (P.az nm).2.D.n:=by
 have:=JL P.D.n;unfold PD.az Dd;split
 ·exact Cn.I _ (by simp) (by simp)
 ·dsimp only
  split<;>exact this
def A2u(P:PD)(old nm:ByteArray):Cn P.D.n (P.aO old nm).1 (P.aO old nm).2.D.n:=by
 have:=JL P.D.n;unfold PD.aO CN;split
 ·exact Cn.I _ (by simp) (by simp)
 ·split
  ·exact Cn.I _ (by simp) (by simp)
  ·dsimp only
   split<;>exact this
def Um(D:DS)(F:Nat->FC)(f:Nat)(x:ByteArray)(z e:Int)(n:DN)(h:Cn n e D.n)(E:e=0\/e=5):Cn n (By D F f x z e).1 (By D F f x z e).2.1.n:=by
 unfold By;split
 ·dsimp only
  rcases E with rfl|rfl
  ·rw[Af rfl,Af rfl];rcases h with⟨_,_,I,L,H⟩|⟨d,_⟩|⟨d,_⟩
   ·exact .inr (.inr ⟨rfl,by dsimp only;rw[I],by dsimp only;rw[L],H⟩)
   ·cases d
   ·cases d
  ·rw[Ac (by decide),Ac (by decide)];exact h
 ·exact h
def A2C(P:PD)(nm:ByteArray)(l:Bs):Cn P.D.n (P.an nm l).1 (P.an nm l).2.D.n:=by
 have d:=JL P.D.n;have h:=Gb P.D.n;unfold PD.an Bl;split
 ·exact Cn.I _ (by simp) (by simp)
 ·dsimp only
  split
  ·exact Um _ _ _ _ _ _ _ d h
  ·split
   ·exact Um _ _ _ _ _ _ _ d h
   ·exact d
def Mm(P:PD)(nm:ByteArray)(s:Nat)(l:Bs):Cn P.D.n (P.aa nm s l).2.1 (P.aa nm s l).2.2.D.n:=A2C P nm (AR s l)
def Cu{x:Int}(h:¬x≠0):x=0:=by omega
def Mj(P:PD)(nm:Bs)(s:Nat)(l:Bs):Cn P.D.n (P.aH nm s l).1 (P.aH nm s l).2.D.n:=by
 unfold PD.aH;split
 ·exact KT P _
 ·rename_i d;split
  ·exact(KT P _).Av (Cu d) (Mm _ _ _ _)
  ·rename_i h;exact((KT P _).Av (Cu d) (Mm _ _ _ _)).Av (Cu h) (Mk _ _)
def Uh:∀(l:List Bs) (P:PD),Cn P.D.n (PD.ax l P).1 (PD.ax l P).2.D.n
 | [],P=>Cn.I _ (by simp[PD.ax]) (by simp[PD.ax])
 | nm::r,P=>by
  unfold PD.ax;split
  ·exact Mk P _
  ·rename_i d;exact(Mk P _).Av (Cu d) (Uh r _)
def Ml:∀(l:List Bs) (P:PD),Cn P.D.n (PD.aM l P).1 (PD.aM l P).2.D.n
 | [],P=>Cn.I _ (by simp[PD.aM]) (by simp[PD.aM])
 | nm::r,P=>by
  unfold PD.aM;split
  ·exact Ui P _
  ·rename_i d;exact(Ui P _).Av (Cu d) (Ml r _)
def JK(A:Ar)(P:PD):Cn P.D.n (A.C P).1 (A.C P).2.2.D.n:=by
 have:=Uh A.AN P;unfold Ar.C;split
 ·exact this
 ·rename_i d;rw[Cu d]at this;exact this
def Ul(J:Jn)(P:PD):Cn P.D.n (J.av P).1 (J.av P).2.2.D.n:=by
 unfold Jn.av;split
 ·exact KT P _
 ·rename_i d;have:=(KT P _).Av (Cu d) (Mm (P.ai (A7 (Ae (J.A8+1)))).2 (A7 (Ae (J.A8+1))) (AE (Ae (J.A8+1))) (AO J.puts));dsimp only
  split
  ·exact this
  ·rename_i h;rw[Cu h]at this;exact this
def Uj(J:Jn)(P:PD)(p:Pu):Cn P.D.n (J.aw P p).2.1 (J.aw P p).2.2.2.D.n:=by
 unfold Jn.aw;split
 ·exact Cn.I _ (by simp) (by simp)
 ·exact Mm P _ _ _
def A2x(J:Jn)(P:PD)(p:Pu):Cn P.D.n (J.aa P p).2.1 (J.aa P p).2.2.2.D.n:=by
 unfold Jn.aa;split
 ·split
  ·exact Ul J P
  ·rename_i d;exact(Ul J P).Av (Cu d) (Uj _ _ p)
 ·exact Uj J P p
def A2B(A:Ar)(P:PD)(p:Pu):Cn P.D.n (A.aa P p).2.1 (A.aa P p).2.2.2.D.n:=by
 unfold Ar.aa;split
 ·exact JK A P
 ·rename_i d;exact(JK A P).Av (Cu d) (A2x _ _ p)
def A2w(J:Jn)(P:PD):Cn P.D.n (J.ae P).1 (J.ae P).2.D.n:=by
 unfold Jn.ae;split
 ·exact Cn.I _ (by simp) (by simp)
 ·exact Mk P _
def A2A(A:Ar)(P:PD):Cn P.D.n (A.ae P).1 (A.ae P).2.2.D.n:=by
 unfold Ar.ae;split
 ·exact JK A P
 ·rename_i z;have h:=(JK A P).Av (Cu z) (A2w (A.C P).2.1.j (A.C P).2.2);split
  ·exact h
  ·rename_i d;exact h.Av (Cu d) (Ug _)
def Uk:∀(fresh:List (List Pu)) (last:Int) (kept:List Int) (P:PD),Cn P.D.n (PD.ah fresh last kept P).1 (PD.ah fresh last kept P).2.2.2.D.n
 | [],_,_,P=>Cn.I _ (by simp[PD.ah]) (by simp[PD.ah])
 | l::r,last,kept,P=>by
  unfold PD.ah;split
  ·exact Mj P _ _ _
  ·rename_i d;exact(Mj P _ _ _).Av (Cu d) (Uk r _ _ _)
def A2v(P:PD)(d:Int)(segs:List Int):Cn P.D.n (P.ag d segs).1 (P.ag d segs).2.D.n:=by
 unfold PD.ag;split
 ·exact Mj P _ _ _
 ·rename_i h;exact(Mj P _ _ _).Av (Cu h) (A2u _ _ _)
def A2z(A:Ar)(P:PD)(segs:List Int):Cn P.D.n (A.ag P segs).1 (A.ag P segs).2.2.D.n:=by
 have:=A2v P (A.j.A8+1) segs;unfold Ar.ag;split
 ·exact Cn.I _ (by simp) (by simp)
 ·split
  ·exact this
  ·rename_i d;rw[Cu d]at this;exact this
def A2y(A:Ar)(P:PD):Cn P.D.n (A.aZ P).1 (A.aZ P).2.2.D.n:=by
 unfold Ar.aZ;split
 ·exact Ml _ P
 ·rename_i d;exact(Ml _ P).Av (Cu d) (Ug _)
def A2t(A:Ar)(P:PD)(kept:List Int)(fresh:List (List Pu)):Cn P.D.n (A.ay P kept fresh).1 (A.ay P kept fresh).2.2.D.n:=by
 unfold Ar.ay;dsimp only
 split
 ·exact JK A P
 ·rename_i I;have d:=(JK A P).Av (Cu I) (Ml ((A.C P).2.1.aV (A.C P).2.2) (A.C P).2.2);split
  ·exact d
  ·rename_i E;have h:=d.Av (Cu E) (Uk fresh (A.C P).2.1.A8 kept _);split
   ·exact h
   ·rename_i L;have z:=h.Av (Cu L) (A2z { (A.C P).2.1 with A8:=(PD.ah fresh (A.C P).2.1.A8 kept ((A.C P).2.1.au (A.C P).2.2).2).2.1} _ (PD.ah fresh (A.C P).2.1.A8 kept ((A.C P).2.1.au (A.C P).2.2).2).2.2.1);split
    ·exact z
    ·rename_i H;exact z.Av (Cu H) (A2y _ _)
def N8(P:PD)(nm:ByteArray):(P.ae nm).1≠6:=by
 unfold PD.ae Cw;split
 ·simp
 ·have:=Gb P.D.n;dsimp only;omega
def Qb(P:PD):P.aK.1≠6:=by
 have:=Gb P.D.n;unfold PD.aK DC;dsimp only;omega
def Qd:∀(l:List Bs) (P:PD),(PD.ax l P).1≠6
 | [],P=>by simp[PD.ax]
 | nm::r,P=>by
  unfold PD.ax;split
  ·exact N8 P _
  ·exact Qd r _
def Nh(A:Ar)(P:PD):(A.C P).1≠6:=by
 unfold Ar.C;split
 ·exact Qd _ P
 ·simp
def Ue(A:Ar)(P:PD):(A.ae P).1≠6:=by
 unfold Ar.ae;split
 ·exact Nh A P
 ·split
  ·unfold Jn.ae;split
   ·simp
   ·exact N8 _ _
  ·exact Qb _
end
def Bp(P:PD):List (List AL):=P.D.AM::P.D.As
structure DI (bd:Int×Int) (P:PD) (puts:List Pu) (Ad:Nat) (o:Int):Prop where
 Ds:∀s∈Bp P,Holds bd (vw P.F s) puts Ad o
 Aq:∀s∈Bp P,(s.map (·.2)).Nodup
 Cb:∀s∈Bp P,(s.map (·.1)).Nodup
 Co:P.D.A4∈Bp P
section
variable {bd:Int×Int} {P P':PD} {puts:List Pu} {Ad:Nat} {o:Int} {nm:Bs}
def DI.bh(h:DI bd P puts Ad o):FP P:=⟨h.Aq _ h.Co,h.Cb _ h.Co⟩
def DI.ca(h:DI bd P puts Ad o)(q:List Pu):DI bd P (puts++q) Ad o:=⟨λs d=>(h.Ds s d).ca q,h.Aq,h.Cb,h.Co⟩
def DI.bQ{d:Int}(h:DI bd P puts Ad o)(z:o<=d):DI bd P puts Ad d:=⟨λs E=>(h.Ds s E).bQ z,h.Aq,h.Cb,h.Co⟩
def DI.a6{d:Int×Int}(h:DI bd P puts Ad o)(z:Hq bd d):DI d P puts Ad o:=⟨λs E=>(h.Ds s E).a6 z,h.Aq,h.Cb,h.Co⟩
def I6{s:List AL}(d:s∈Bp P){e:AL}(z:e∈s):e.2≠P.D.AT:=λh=>P.D.cv (by
 rcases BP.1 d with rfl|d
 ·exact .inr (.inl ⟨e,z,h⟩)
 ·exact .inr (.inr ⟨s,d,e,z,h⟩))
def K6{F F':Nat->FC}{s:List AL}(h:∀e∈s,F' e.2=F e.2):vw F' s=vw F s:=by
 funext m
 unfold vw;cases hx:lookup s (A7 m) with
 | none=>rfl
 | some f=>simp[h _ (E1 hx)]
def K5{F:Nat->FC}{s:List AL}{g:Nat}(z:lookup s (A7 nm)=none)(m:Bs):vw F (s++[(A7 nm,g)]) m=if m=nm then some (F g) else vw F s m:=by
 unfold vw;rw[lookup_append];by_cases d:m=nm
 ·subst d;rw[z];simp[lookup]
 ·have h:¬A7 nm=A7 m:=λe=>d (FH.1 e).symm;simp[lookup,h,d]
def Holds.bI{V V':View}(h:Holds bd V puts Ad o)(h0:V nm=none)(z:nm=Bk\/∃k,(isNum k=true/\k<=bd.2)/\nm=AG k)(c:FC)(hc:0<=c.2/\c.2<=c.1.length)(hV:∀m,V' m=if m=nm then some c else V m):Holds bd V' puts Ad o:=by
 obtain⟨ix,sg,cl,lo,nb,O,W,hs,g1,g2⟩:=h;have H:∀m,(m=AI\/(∃x∈sg,m=AG x.1)\/∃n,isNum n=true/\ix.B7<=n/\m=Ae n)->m≠nm:=by
  rintro m (rfl|⟨x,hx,rfl⟩|⟨n,hn,_,rfl⟩) e
  ·rcases z with z|⟨k,_,z⟩
   ·exact IN (e.trans z)
   ·exact Jf k (z.symm.trans e.symm)
  ·obtain⟨_,d,I,_⟩:=O.Cq x hx;rw[e,h0]at I;cases I
  ·rcases z with z|⟨k,_,z⟩
   ·exact Ku n (e.trans z)
   ·exact FK n k (e.trans z)
 have E:∀m,m≠nm->V' m=V m:=λm L=>by rw[hV,Ac L]
 refine⟨ix,sg,cl,lo,nb,O.bT (λm L=>?_) (λm L=>?_) (λm d I=>?_),W,hs,λn l e=>?_,g2⟩
 ·rw[E m (H m L)];cases hv:V m with
  | none=>exact .inl ⟨rfl,rfl⟩
  | some d=>exact .inr ⟨d,d,rfl,rfl,rfl,.inl rfl⟩
 ·by_cases e:m=nm
  ·subst e;rcases z with rfl|⟨k,Y,rfl⟩
   ·exact S4 bd
   ·exact S3 Y.1 Y.2
  ·rw[E m e]at L;exact O.Eb m L
 ·by_cases e:m=nm
  ·rw[hV,Af e]at I;cases I;exact hc
  ·rw[E m e]at I;exact O.DT m d I
 ·obtain⟨d,d1,d2,d3⟩:=g1 n l e;have hq:=(O.A8 n l e).1;exact⟨d,by rw[E _ (H _ (.inr (.inr ⟨n,hq.1,hq.2,rfl⟩)))];exact d1,d2,d3⟩
structure Extra (P:PD) (nm:Bs) (P':PD):Prop where
 Ee:∀f,f≠P.D.AT->P'.F f=P.F f
 DT:0<=(P'.F P.D.AT).2/\(P'.F P.D.AT).2<=(P'.F P.D.AT).1.length
 AM:P'.D.AM=P.D.AM
 Hb:(P'.D.A4=P.D.A4/\P'.D.As=P.D.As)\/(lookup P.D.A4 (A7 nm)=none/\P'.D.A4=P.D.A4++[(A7 nm,P.D.AT)]/\P'.D.As=P.D.As++[P.D.A4++[(A7 nm,P.D.AT)]])
def DI.bI(h:DI bd P puts Ad o)(H:Extra P nm P')(O:nm=Bk\/∃k,(isNum k=true/\k<=bd.2)/\nm=AG k):DI bd P' puts Ad o:=by
 have old:∀s∈Bp P,vw P'.F s=vw P.F s:=λs d=>K6 λe I=>H.Ee _ (I6 d I);rcases H.Hb with⟨d1,d2⟩|⟨d0,d1,d2⟩
 ·have es:Bp P'=Bp P:=by unfold Bp;rw[H.AM,d2]
  exact⟨λs d=>by rw[es]at d;rw[old s d];exact h.Ds s d,by rw[es];exact h.Aq,by rw[es];exact h.Cb,by rw[es,d1];exact h.Co⟩
 ·have es:Bp P'=Bp P++[P.D.A4++[(A7 nm,P.D.AT)]]:=by unfold Bp;rw[H.AM,d2];rfl
  have z:∀s,s∈Bp P'->s∈Bp P\/s=P.D.A4++[(A7 nm,P.D.AT)]:=λs d=>by
   rw[es]at d;rcases AV.1 d with d|d
   ·exact .inl d
   ·exact .inr (by simpa using d)
  refine⟨λs d=>?_,λs d=>?_,λs d=>?_,by rw[es,d1];simp⟩
  ·rcases z s d with d|rfl
   ·rw[old s d];exact h.Ds s d
   ·refine(h.Ds _ h.Co).bI (nm:=nm) (c:=P'.F P.D.AT) (by unfold vw;rw[d0];rfl) O H.DT λm=>?_;rw[K5 d0,old _ h.Co]
  ·rcases z s d with d|rfl
   ·exact h.Aq s d
   ·rw[E6,Gy];refine⟨h.Aq _ h.Co,by simp,λa L b E=>?_⟩;simp at E;subst E;obtain⟨e,I,rfl⟩:=CA.1 L;exact I6 h.Co I
  ·rcases z s d with d|rfl
   ·exact h.Cb s d
   ·rw[E6,Gy];refine⟨h.Cb _ h.Co,by simp,λa L b E=>?_⟩;simp at E;subst E;obtain⟨e,I,rfl⟩:=CA.1 L;exact(IG.1 d0) e I
end
section
variable {bd:Int×Int} {P P':PD} {puts:List Pu} {Ad:Nat} {o:Int} {nm:Bs}
def JB(P:PD)(nm:Bs):Extra P nm (P.ai (A7 nm)).2/\((P.ai (A7 nm)).1=0->lookup (P.ai (A7 nm)).2.D.A4 (A7 nm)=some P.D.AT):=by
 unfold PD.ai CK;by_cases E:A7 nm=ByteArray.empty\/B2 P.D.A4 (A7 nm)≥0
 ·rw[Af E];exact⟨⟨λf d=>by simp[upd,d],by simp[upd],rfl,.inl ⟨rfl,rfl⟩⟩,λh=>by cases h⟩
 ·rw[Ac E];have H:lookup P.D.A4 (A7 nm)=none:=(IQ _ _).1 (by (have:¬B2 P.D.A4 (A7 nm)≥0:=λe=>E (.inr e));omega);dsimp only
  by_cases z:(bg P.D.n).1=true
  ·rw[Af z];refine⟨⟨λf d=>by simp[upd,d],by simp[upd],rfl,.inr ⟨H,rfl,rfl⟩⟩,λ_=>?_⟩;dsimp only
   rw[lookup_append,H];simp[lookup]
  ·rw[Ac z];exact⟨⟨λf d=>by simp[upd,d],by simp[upd],rfl,.inl ⟨rfl,rfl⟩⟩,λh=>absurd (GG h) z⟩
def TD(D:DS)(F:Nat->FC)(f:Nat)(x:ByteArray)(d e:Int):(By D F f x d e).2.1.A4=D.A4/\(By D F f x d e).2.1.AM=D.AM/\(By D F f x d e).2.1.As=D.As/\∃j:Nat,(By D F f x d e).2.2=upd F f ((F f).1++x.data.toList.take j,(F f).2):=by
 unfold By;split
 ·dsimp only
  refine⟨?_,?_,?_,_,rfl⟩<;>split<;>rfl
 ·exact⟨rfl,rfl,rfl,_,rfl⟩
def Ie{P:PD}{nm:ByteArray}{f:Nat}(l:Bs)(h:lookup P.D.A4 nm=some f):(P.an nm l).2.D.A4=P.D.A4/\(P.an nm l).2.D.AM=P.D.AM/\(P.an nm l).2.D.As=P.D.As/\
 ((P.an nm l).2.F=P.F\/∃j:Nat,(P.an nm l).2.F=upd P.F f ((P.F f).1++l.take j,(P.F f).2)):=by
 unfold PD.an Bl;rw[h];dsimp only
 have I:(A7 l).data.toList=l:=by simp[A7]
 split
 ·obtain⟨z,E,H,j,d⟩:=TD {P.D with n:=(bg P.D.n).2.2} P.F f (A7 l) (A7 l).size (bg P.D.n).2.1;exact⟨z,E,H,.inr ⟨j,by rw[d,I]⟩⟩
 ·split
  ·obtain⟨z,E,H,j,d⟩:=TD {P.D with n:=(bg P.D.n).2.2} P.F f (A7 l) ((bg P.D.n).2.2.Bq % (A7 l).size) (bg P.D.n).2.1;exact⟨z,E,H,.inr ⟨j,by rw[d,I]⟩⟩
  ·exact⟨rfl,rfl,rfl,.inl rfl⟩
def Iq{P:PD}{nm:ByteArray}{f:Nat}(h:lookup P.D.A4 nm=some f):(P.ae nm).2.D.A4=P.D.A4/\(P.ae nm).2.D.AM=P.D.AM/\(P.ae nm).2.D.As=P.D.As/\
 ((P.ae nm).2.F=P.F\/(P.ae nm).2.F=upd P.F f ((P.F f).1,(P.F f).1.length)):=by
 unfold PD.ae Cw;rw[h];dsimp only
 refine⟨rfl,rfl,rfl,?_⟩;split
 ·exact .inr rfl
 ·exact .inl rfl
def Extra.an(h:Extra P nm P')(E:lookup P'.D.A4 (A7 nm)=some P.D.AT)(l:Bs):Extra P nm (P'.an (A7 nm) l).2:=by
 obtain⟨H,I,L,d⟩:=Ie l E;refine⟨λf z=>?_,?_,I.trans h.AM,by rw[H,L];exact h.Hb⟩
 ·rcases d with d|⟨j,d⟩
  ·rw[d];exact h.Ee f z
  ·rw[d];simp[upd,z];exact h.Ee f z
 ·have:=h.DT;rcases d with d|⟨j,d⟩
  ·rw[d];exact this
  ·rw[d];simp only[upd,Cg,AZ];omega
def Extra.ae(h:Extra P nm P')(E:lookup P'.D.A4 (A7 nm)=some P.D.AT):Extra P nm (P'.ae (A7 nm)).2:=by
 obtain⟨H,I,L,d⟩:=Iq E;refine⟨λf z=>?_,?_,I.trans h.AM,by rw[H,L];exact h.Hb⟩
 ·rcases d with d|d
  ·rw[d];exact h.Ee f z
  ·rw[d];simp[upd,z];exact h.Ee f z
 ·have:=h.DT;rcases d with d|d
  ·rw[d];exact this
  ·rw[d];simp only[upd,Cg];omega
def JA(P:PD)(nm:Bs)(s:Nat)(l:Bs):Extra P nm (P.aH nm s l).2/\((P.aH nm s l).1=0->lookup (P.aH nm s l).2.D.A4 (A7 nm)=some P.D.AT/\C2 ((P.aH nm s l).2.F P.D.AT)):=by
 obtain⟨O,e2⟩:=JB P nm;unfold PD.aH;by_cases z:(P.ai (A7 nm)).1=0
 ·rw[Ac (nn z)];have H:=e2 z;have L:=O.an H (AR s l);have d:lookup ((P.ai (A7 nm)).2.an (A7 nm) (AR s l)).2.D.A4 (A7 nm)=some P.D.AT:=by rw[(Ie (AR s l) H).1];exact H
  have Y:((P.ai (A7 nm)).2.aa (A7 nm) s l).2.2=((P.ai (A7 nm)).2.an (A7 nm) (AR s l)).2:=rfl;by_cases I:((P.ai (A7 nm)).2.aa (A7 nm) s l).2.1=0
  ·rw[Ac (nn I),Y];refine⟨L.ae d,λE=>?_⟩;obtain⟨W,_,_,_⟩:=Iq d;refine⟨by rw[W];exact d,?_⟩;unfold PD.ae Cw at E ⊢;rw[d]at E ⊢;dsimp only at E ⊢;rw[Af E];simp[upd,C2]
  ·rw[Af I];exact⟨L,λh=>absurd h I⟩
 ·rw[Af z];exact⟨O,λh=>absurd h z⟩
def DI.aH(h:DI bd P puts Ad o)(d:nm=Bk\/∃k,(isNum k=true/\k<=bd.2)/\nm=AG k)(s:Nat)(l:Bs):DI bd (P.aH nm s l).2 puts Ad o:=h.bI (JA P nm s l).1 d
def DI.ah:∀(fresh:List (List Pu)) (last:Int) (kept:List Int) {P:PD},DI bd P puts Ad o->0<=last->last+fresh.length<=4611686018427387904->last+fresh.length<=bd.2->DI bd (PD.ah fresh last kept P).2.2.2 puts Ad o
 | [],last,kept,P,h,_,_,_=>h
 | l::r,last,kept,P,h,h0,h1,h2=>by
  simp only[CG]at h1 h2;have d:PD.ah (l::r) last kept P=if (P.aL (last+1) l).1≠0 then ((P.aL (last+1) l).1,last+1,kept,(P.aL (last+1) l).2) else PD.ah r (last+1) (kept++[last+1]) (P.aL (last+1) l).2:=rfl
  have z:DI bd (P.aL (last+1) l).2 puts Ad o:=h.aH (.inr ⟨last+1,⟨by unfold isNum;simp;omega,by omega⟩,rfl⟩) _ _;rw[d];split
  ·exact z
  ·exact DI.ah r (last+1) _ z (by omega) (by omega) (by omega)
def DI.cy(h:DI bd P puts Ad o)(nm:ByteArray):DI bd (P.ae nm).2 puts Ad o:=by
 cases hx:lookup P.D.A4 nm with
 | none=>
  have e:(P.ae nm).2=P:=by unfold PD.ae Cw;rw[hx]
  rw[e];exact h
 | some f=>
  obtain⟨H,I,L,d⟩:=Iq hx;have es:Bp (P.ae nm).2=Bp P:=by unfold Bp;rw[I,L]
  refine⟨λs E=>?_,by rw[es];exact h.Aq,by rw[es];exact h.Cb,by rw[es,H];exact h.Co⟩;rw[es]at E;rcases d with d|d
  ·rw[d];exact h.Ds s E
  ·refine(h.Ds s E).bT λm=>?_;unfold vw;cases hk:lookup s (A7 m) with
   | none=>exact⟨λc z=>by simp at z,λ_=>rfl⟩
   | some g=>
    refine⟨λc z=>?_,λO=>by simp at O⟩;simp at z;subst z;rw[d];by_cases e:g=f
    ·subst e;exact⟨_,rfl,by simp[upd],.inr (by simp[upd,C2])⟩
    ·exact⟨P.F g,by simp[upd,e],rfl,.inl rfl⟩
def DI.ax:∀(l:List Bs) {P:PD},DI bd P puts Ad o->DI bd (PD.ax l P).2 puts Ad o
 | [],P,h=>h
 | x::r,P,h=>by
  have d:=h.cy (A7 x);unfold PD.ax;split
  ·exact d
  ·exact DI.ax r d
def DI.C{A:Ar}(h:DI bd P puts Ad o):DI bd (A.C P).2.2 puts Ad o:=by
 unfold Ar.C;split
 ·exact h.ax _
 ·exact h.ax _
def DI.ee(h:DI bd P puts Ad o):DI bd P.aK.2 puts Ad o:=by
 unfold PD.aK DC;dsimp only
 split
 ·have z:=h.Co;exact⟨λs d=>by simp[Bp]at d;subst d;exact h.Ds _ z,λs d=>by simp[Bp]at d;subst d;exact h.Aq _ z,λs d=>by simp[Bp]at d;subst d;exact h.Cb _ z,by simp[Bp]⟩
 ·exact⟨h.Ds,h.Aq,h.Cb,h.Co⟩
end
def CV(bd:Int×Int)(V:View)(ix:Ix)(sg cl:List (Int×List Pu))(lo:Option (Int×List Pu))(puts:List Pu)(Ad:Nat)(o:Int):Prop:=
 ∃nb,CU bd V ix sg cl lo/\nb<=puts.length/\C8 o (Aw sg++Aw cl) (puts.take nb)/\
  (∀n l,lo=some (n,l)->∃c,V (Ae n)=some c/\Ad<=nb+EH c l/\l=(puts.drop nb).take l.length)/\(lo=none->Ad<=nb)
section
variable {bd:Int×Int} {P P':PD} {V V':View} {ix:Ix} {sg cl:List (Int×List Pu)} {lo:Option (Int×List Pu)} {puts:List Pu} {Ad:Nat} {o:Int} {nm:Bs}
def CV.cb(h:CV bd V ix sg cl lo puts Ad o):Holds bd V puts Ad o:=by
 obtain⟨nb,d⟩:=h;exact⟨ix,sg,cl,lo,nb,d⟩
def CV.bq(h:CV bd V ix sg cl lo puts Ad o):CU bd V ix sg cl lo:=h.choose_spec.1
def JZ(ix:Ix)(sg:List (Int×List Pu))(nm:Bs):Prop:=nm=AI\/(∃x∈sg,nm=AG x.1)\/∃n,isNum n=true/\ix.B7<=n/\nm=Ae n
def CV.e6(h:CV bd V ix sg cl lo puts Ad o)(L:¬JZ ix sg nm)(hV:∀m,V' m=if m=nm then none else V m):CV bd V' ix sg cl lo puts Ad o:=by
 obtain⟨nb,O,Y,hs,g1,g2⟩:=h;have z:∀m,m≠nm->V' m=V m:=λm I=>by rw[hV,Ac I]
 have H:∀m,V' m≠none->m≠nm:=λm I e=>I (by rw[hV,Af e]);refine⟨nb,O.bT (λm I=>?_) (λm I=>?_) (λm d W=>?_),Y,hs,λn l e=>?_,g2⟩
 ·have E:m≠nm:=λe=>L (e ▸ I);rw[z m E];cases hv:V m with
  | none=>exact .inl ⟨rfl,rfl⟩
  | some d=>exact .inr ⟨d,d,rfl,rfl,rfl,.inl rfl⟩
 ·have E:=H m I;rw[z m E]at I;exact O.Eb m I
 ·have E:=H m (by rw[W];simp);rw[z m E]at W;exact O.DT m d W
 ·obtain⟨d,d1,d2,d3⟩:=g1 n l e;have hq:=(O.A8 n l e).1;exact⟨d,by rw[z _ λe2=>L (.inr (.inr ⟨n,hq.1,hq.2,e2.symm⟩))];exact d1,d2,d3⟩
def R5(h:FP P)(nm:ByteArray):(P.az nm).2.F=P.F/\(P.az nm).2.D.AM=P.D.AM/\
 (((P.az nm).2.D.A4=P.D.A4/\(P.az nm).2.D.As=P.D.As/\(P.az nm).1≠0)\/((P.az nm).2.D.A4=(P.D.A4.filter λe=>decide (e.1≠nm))/\(P.az nm).2.D.As=P.D.As++[P.D.A4.filter λe=>decide (e.1≠nm)])):=by
 unfold PD.az Dd;by_cases z:B2 P.D.A4 nm<0
 ·rw[Af z];exact⟨rfl,rfl,.inl ⟨rfl,rfl,by simp⟩⟩
 ·rw[Ac z];dsimp only
  rw[Tw _ _ h.Cb z];by_cases d:(bg P.D.n).1=true
  ·rw[Af d];exact⟨rfl,rfl,.inr ⟨rfl,rfl⟩⟩
  ·rw[Ac d];exact⟨rfl,rfl,.inl ⟨rfl,rfl,λh=>d (GG h)⟩⟩
def PW(F:Nat->FC)(s:List AL)(nm m:Bs):vw F (s.filter λe=>decide (e.1≠A7 nm)) m=if m=nm then none else vw F s m:=by
 unfold vw;rw[Kt s (λx=>decide (x≠A7 nm))];by_cases d:m=nm
 ·subst d;simp
 ·have:A7 m≠A7 nm:=λe=>d (FH.1 e);simp[this,d]
def DI.dZ(h:DI bd P puts Ad o)(W:CV bd P.fl ix sg cl lo puts Ad o)(L:¬JZ ix sg nm):DI bd (P.az (A7 nm)).2 puts Ad o/\CV bd (P.az (A7 nm)).2.fl ix sg cl lo puts Ad o:=by
 obtain⟨H,O,Y⟩:=R5 h.bh (A7 nm);rcases Y with⟨d1,d2,_⟩|⟨d1,d2⟩
 ·have es:Bp (P.az (A7 nm)).2=Bp P:=by unfold Bp;rw[O,d2]
  have I:(P.az (A7 nm)).2.fl=P.fl:=by unfold PD.fl;rw[d1,H]
  exact⟨⟨λs d=>by rw[es]at d;rw[H];exact h.Ds s d,by rw[es];exact h.Aq,by rw[es];exact h.Cb,by rw[es,d1];exact h.Co⟩,by rw[I];exact W⟩
 ·have es:Bp (P.az (A7 nm)).2=Bp P++[P.D.A4.filter λe=>decide (e.1≠A7 nm)]:=by unfold Bp;rw[O,d2];rfl
  have z:∀s,s∈Bp (P.az (A7 nm)).2->s∈Bp P\/s=P.D.A4.filter λe=>decide (e.1≠A7 nm):=λs d=>by
   rw[es]at d;rcases AV.1 d with d|d
   ·exact .inl d
   ·exact .inr (by simpa using d)
  have E:=W.e6 L (PW P.F P.D.A4 nm);refine⟨⟨λs d=>?_,λs d=>?_,λs d=>?_,by rw[es,d1];simp⟩,?_⟩
  ·rw[H];rcases z s d with d|rfl
   ·exact h.Ds s d
   ·exact E.cb
  ·rcases z s d with d|rfl
   ·exact h.Aq s d
   ·exact(h.Aq _ h.Co).sublist (GL.map _)
  ·rcases z s d with d|rfl
   ·exact h.Cb s d
   ·exact(h.Cb _ h.Co).sublist (GL.map _)
  ·have I:(P.az (A7 nm)).2.fl=vw P.F (P.D.A4.filter λe=>decide (e.1≠A7 nm)):=by
    funext m;unfold PD.fl vw;rw[d1,H]
   rw[I];exact E
def DI.aM:∀(l:List Bs) {P:PD},DI bd P puts Ad o->CV bd P.fl ix sg cl lo puts Ad o->(∀m∈l,¬JZ ix sg m)->DI bd (PD.aM l P).2 puts Ad o/\CV bd (PD.aM l P).2.fl ix sg cl lo puts Ad o
 | [],P,h,hT,_=>⟨h,hT⟩
 | x::r,P,h,hT,hm=>by
  obtain⟨E,z⟩:=h.dZ hT (hm x (BD ..));unfold PD.aM;split
  ·exact⟨E,z⟩
  ·exact DI.aM r E z λm d=>hm m (Br _ d)
def DI.au{A:Ar}(h:DI bd P puts Ad o)(z:CV bd P.fl A.ix sg cl lo puts Ad o)(I:A.j.Aj=cl.map (·.1)++(lo.map (·.1)).toList)(d:sg.map (·.1)=A.ix.segs):DI bd (A.au P).2 puts Ad o/\CV bd (A.au P).2.fl A.ix sg cl lo puts Ad o:=by
 refine DI.aM _ h z λm E Y=>?_;obtain⟨W,O⟩:=IA.1 E;refine O ?_;unfold Ar.Ax;rcases Y with rfl|⟨x,hx,rfl⟩|⟨n,hn,H,rfl⟩
 ·simp
 ·refine GX _ (DP ?_);rw[<-d];exact DP hx
 ·refine Fx _ (Br _ (DP ?_));rw[I];refine z.bq.Cl n hn H λL=>W ?_;unfold PD.bs;rw[L];rfl
def Ef(bd:Int×Int)(P:PD)(puts:List Pu)(Ad:Nat)(o:Int)(n:Int)(f ahead:Nat):Prop:=
 lookup P.D.A4 (A7 (Ae n))=some f/\∀s∈Bp P,(∀e∈s,e.2≠f)\/(lookup s (A7 (Ae n))=some f/\Fw bd (vw P.F s) puts Ad o n ahead)
def PU{F:Nat->FC}{s:List AL}{f:Nat}{c:FC}(z:(s.map (·.2)).Nodup)(h:lookup s (A7 nm)=some f)(m:Bs):vw (upd F f c) s m=if m=nm then some c else vw F s m:=by
 unfold vw;by_cases d:m=nm
 ·subst d;rw[h];simp[upd]
 ·rw[Ac d];cases hk:lookup s (A7 m) with
  | none=>rfl
  | some g=>
   have:g≠f:=λe=>d (by
    have:=Jo z (E1 hk) (E1 h) e
    exact FH.1 (P9 this).1)
   simp[upd,this]
def Ef.an{n:Int}{f ahead:Nat}{l0:List Pu}{c0:FC}(h:DI bd P puts Ad o)(hO:Ef bd P puts Ad o n f ahead)(aD:P.F f=c0)(L:c0.1=DV (Ae n) ahead l0)(p:Pu)(hp:Bg p)(j:Nat)(hd:P'.D.A4=P.D.A4)(d:P'.D.AM=P.D.AM)(aE:P'.D.As=P.D.As)(hF:P'.F=upd P.F f (c0.1++(AR (ES (Ae n) ahead l0) (Bb p.1 p.2.1 p.2.2)).take j,c0.2)):
 DI bd P' (puts++[p]) Ad o/\(21<=j->Ef bd P' (puts++[p]) Ad o n f ahead)/\(j<21->DI bd P' puts Ad o):=by
 have es:Bp P'=Bp P:=by unfold Bp;rw[d,aE]
 have inj:∀ {l l':List Pu},DV (Ae n) ahead l=DV (Ae n) ahead l'->(∀p∈l,Bg p)->(∀p∈l',Bg p)->l=l':=λ{l l'} e W O=>by
  have Y:l.length=l'.length:=by have:=EB List.length e;rw[IK,IK]at this;omega
  have hx:DU (AU (AE (Ae n)) (AO ahead)) l=DU (AU (AE (Ae n)) (AO ahead)) l':=by unfold DV at e;exact V5 e
  have r1:=LF l (AU (AE (Ae n)) (AO ahead)) (l.length+1) [] W (by omega) (by simp);have r2:=LF l' (AU (AE (Ae n)) (AO ahead)) (l.length+1) [] O (by omega) (by simp);rw[hx]at r1;rw[r1]at r2;simpa using r2
 have each:∀s∈Bp P,((∀e∈s,e.2≠f)/\vw P'.F s=vw P.F s)\/(lookup s (A7 (Ae n))=some f/\(21<=j->Fw bd (vw P'.F s) (puts++[p]) Ad o n ahead)/\(j<21->Holds bd (vw P'.F s) puts Ad o)):=λs d=>by
  rcases hO.2 s d with z|⟨I,aA⟩
  ·exact .inl ⟨z,K6 λe he=>by rw[hF];simp[upd,z e he]⟩
  ·refine .inr ⟨I,?_⟩;(have H:vw P.F s (Ae n)=some c0:=by unfold vw;rw[I];simp[aD]);refine aA.an p hp j (s:=ES (Ae n) ahead l0) (λl c hc aB=>?_) (λm hm=>?_) (λc hc=>?_)
   ·rw[H]at hc;cases hc;obtain⟨ix,sg,cl,l1,nb,c1,hL,_,_,g1,g2,g3,_,_⟩:=aA;rw[H]at g1;cases g1;have Y:l.length=l0.length:=by
     have:=EB List.length (aB.symm.trans L);rw[IK,IK]at this;omega
    have key:∀(a b:List Pu) (s:Nat),DU s a=DU s b->H7 s a=H7 s b:=by
     intro a
     induction a with
     | nil=>
      intro b s e;cases b with
      | nil=>rfl
      | cons y r=>
       have:=EB List.length e;rw[IJ,IJ]at this;simp at this
     | cons x a ih=>
      intro b s e;cases b with
      | nil=>
       have:=EB List.length e;rw[IJ,IJ]at this;simp at this
      | cons y r=>
       simp only[DU]at e;have E:=
        List.append_inj e (by rw[Eu,Eu,EP,EP])
       have hb:=(List.append_inj E.1 (by rw[EP,EP])).1;simp only[H7];rw[hb]at E ⊢;exact ih r _ E.2
    have e1:=aB.symm.trans L;unfold DV at e1;unfold ES;exact(key l l0 _ (V5 e1)).symm
   ·rw[hF,PU (h.Aq s d) I,Ac hm]
   ·rw[H]at hc;cases hc;rw[hF,PU (h.Aq s d) I,Af rfl]
 refine⟨⟨λs d=>?_,by rw[es];exact h.Aq,by rw[es];exact h.Cb,by rw[es,hd];exact h.Co⟩,λhj=>⟨by rw[hd];exact hO.1,λs d=>?_⟩,λhj=>⟨λs d=>?_,by rw[es];exact h.Aq,by rw[es];exact h.Cb,by rw[es,hd];exact h.Co⟩⟩
 ·rw[es]at d;rcases each s d with⟨_,H⟩|⟨_,W,O⟩
  ·rw[H];exact(h.Ds s d).ca [p]
  ·by_cases hj:21<=j
   ·exact(W hj).cb
   ·exact(O (by omega)).ca [p]
 ·rw[es]at d;rcases each s d with⟨z,_⟩|⟨I,W,_⟩
  ·exact .inl z
  ·exact .inr ⟨I,W hj⟩
 ·rw[es]at d;rcases each s d with⟨_,H⟩|⟨_,_,O⟩
  ·rw[H];exact h.Ds s d
  ·exact O hj
end
section
variable {bd:Int×Int} {P P':PD} {V V':View} {ix:Ix} {sg cl:List (Int×List Pu)} {lo:Option (Int×List Pu)} {puts:List Pu} {Ad:Nat} {o:Int} {nm:Bs}
def DI.e1(h:DI bd P puts Ad o)(L:Extra P nm P')(I:lookup P.D.A4 (A7 nm)=none->Holds bd (vw P'.F (P.D.A4++[(A7 nm,P.D.AT)])) puts Ad o):DI bd P' puts Ad o:=by
 have old:∀s∈Bp P,vw P'.F s=vw P.F s:=λs d=>K6 λe E=>L.Ee _ (I6 d E);rcases L.Hb with⟨d1,d2⟩|⟨d0,d1,d2⟩
 ·have es:Bp P'=Bp P:=by unfold Bp;rw[L.AM,d2]
  exact⟨λs d=>by rw[es]at d;rw[old s d];exact h.Ds s d,by rw[es];exact h.Aq,by rw[es];exact h.Cb,by rw[es,d1];exact h.Co⟩
 ·have es:Bp P'=Bp P++[P.D.A4++[(A7 nm,P.D.AT)]]:=by unfold Bp;rw[L.AM,d2];rfl
  have z:∀s,s∈Bp P'->s∈Bp P\/s=P.D.A4++[(A7 nm,P.D.AT)]:=λs d=>by
   rw[es]at d;rcases AV.1 d with d|d
   ·exact .inl d
   ·exact .inr (by simpa using d)
  refine⟨λs d=>?_,λs d=>?_,λs d=>?_,by rw[es,d1];simp⟩
  ·rcases z s d with d|rfl
   ·rw[old s d];exact h.Ds s d
   ·exact I d0
  ·rcases z s d with d|rfl
   ·exact h.Aq s d
   ·rw[E6,Gy];refine⟨h.Aq _ h.Co,by simp,λa O b H=>?_⟩;simp at H;subst H;obtain⟨e,E,rfl⟩:=CA.1 O;exact I6 h.Co E
  ·rcases z s d with d|rfl
   ·exact h.Cb s d
   ·rw[E6,Gy];refine⟨h.Cb _ h.Co,by simp,λa O b H=>?_⟩;simp at H;subst H;obtain⟨e,E,rfl⟩:=CA.1 O;exact(IG.1 d0) e E
def CU.dd(E:CU bd V ix sg cl none)(hs:C8 o (Aw sg++Aw cl) puts)(hsafe:Ad<=puts.length){n:Int}(hn:isNum n=true)(aA:n<=bd.1)(hf:ix.B7<=n)(L:∀x∈cl,x.1<n)(j:Nat)(hV:∀m,V' m=if m=Ae n then some ((AR (AE (Ae n)) (AO ((Aw cl).length:Int))).take j,0) else V m):
 CV bd V' ix sg cl (some (n,[])) puts Ad o/\(12<=j->Fw bd V' puts Ad o n (Aw cl).length):=by
 have hpl:(AR (AE (Ae n)) (AO ((Aw cl).length:Int))).length=12:=by rw[Eu,CJ]
 have h:∀m,m≠Ae n->V' m=V m:=λm hm=>by rw[hV,Ac hm]
 have z:V' (Ae n)=some ((AR (AE (Ae n)) (AO ((Aw cl).length:Int))).take j,0):=by rw[hV,Af rfl]
 have O:∀x∈cl,Ae x.1≠Ae n:=λx H e=>by
  have:=FG (E.CO x H).1.1 hn e;have:=L x H;omega
 have I:12<=j->(AR (AE (Ae n)) (AO ((Aw cl).length:Int))).take j=DV (Ae n) ((Aw cl).length:Int) []:=λhj=>by
  rw[Em (by omega)];simp[DV,DU]
 have W:Hz ((AR (AE (Ae n)) (AO ((Aw cl).length:Int))).take j) (Ae n) (Aw cl).length []:=by
  by_cases hj:12<=j
  ·exact .inl ⟨[],by rw[I hj];simp,by simp⟩
  ·exact .inr ⟨rfl,by rw[BU];omega⟩
 have Y:CU bd V' ix sg cl (some (n,[])):=by
  refine⟨E.Dz,by rw[h _ (H6 n).symm];exact E.I5,E.segs,λx H=>by rw[h _ (FK n x.1).symm];exact E.Cq x H,λx H=>by rw[h _ (O x H)];exact E.CO x H,
   E.Aj.bC λx H=>by rw[h _ (O x H)],λn' l e=>by cases e;exact⟨⟨hn,hf⟩,λp hp=>(by cases hp),_,z,W⟩,?_,λk h1 h2 h3=>?_,λm hm=>?_,λm d hd=>?_⟩
  ·have:=E.EE;simp only[Option.map_none,Option.toList_none,Gh]at this;refine Eg.2 ⟨this,by simp,λa ha b hb=>?_⟩;simp at hb;subst hb;obtain⟨x,H,rfl⟩:=CA.1 ha;exact L x H
  ·by_cases e:Ae k=Ae n
   ·have:=FG h1 hn e;subst this;simp
   ·rw[h _ e]at h3;have:=E.Cl k h1 h2 h3;simp at this;simp[this]
  ·by_cases e:m=Ae n
   ·subst e;exact Yu hn aA
   ·rw[h _ e]at hm;exact E.Eb m hm
  ·by_cases e:m=Ae n
   ·subst e;rw[z]at hd;cases hd;dsimp only;omega
   ·rw[h _ e]at hd;exact E.DT m d hd
 refine⟨⟨puts.length,Y,Au _,by rw[C9];exact hs,λn' l e=>by cases e;exact⟨_,z,by omega,by simp⟩,λe=>by cases e⟩,λhj=>?_⟩;exact⟨ix,sg,cl,[],puts.length,_,Y,Au _,by rw[C9];exact hs,z,I hj,rfl,by omega,by simp⟩
def Uf{nm:ByteArray}{f:Nat}(l:Bs)(h:lookup P.D.A4 nm=some f)(d:(P.an nm l).1=0):(P.an nm l).2.F=upd P.F f ((P.F f).1++l,(P.F f).2):=by
 have W:(A7 l).data.toList=l:=by simp[A7]
 unfold PD.an Bl at d ⊢;rw[h]at d ⊢;dsimp only at d ⊢;have z:∀D L e,(By D P.F f (A7 l) L e).1=0->e=0/\(By D P.F f (A7 l) L e).2.2=upd P.F f ((P.F f).1++l.take L.toNat,(P.F f).2):=λD L e E=>by
  unfold By at E ⊢;split at E
  ·dsimp only at E;split at E
   ·cases E
   ·rename_i H O;exact absurd E O
  ·rename_i H;rw[Ac H,W];exact⟨E,rfl⟩
 split at d
 ·rename_i I;rw[Af I];obtain⟨_,O⟩:=z _ _ _ d;rw[O];have:((A7 l).size:Int).toNat=l.length:=by rw[Ko];simp
  rw[this,C9]
 ·rename_i I;split at d
  ·obtain⟨H,_⟩:=z _ _ _ d;exact absurd (GG H) I
  ·exact absurd (GG d) I
def Mi(P:PD)(J:Jn):Extra P (Ae (J.A8+1)) (J.av P).2.2/\(∃j,(J.av P).2.2.F P.D.AT=((AR (AE (Ae (J.A8+1))) (AO J.puts)).take j,0))/\
 ((J.av P).1=0->lookup (J.av P).2.2.D.A4 (A7 (Ae (J.A8+1)))=some P.D.AT/\(J.av P).2.2.F P.D.AT=(AR (AE (Ae (J.A8+1))) (AO J.puts),0)):=by
 obtain⟨nm,O⟩:∃nm,Ae (J.A8+1)=nm:=⟨_,rfl⟩;obtain⟨W,e2⟩:=JB P nm;have E:(P.ai (A7 nm)).2.F P.D.AT=([],0):=by
  unfold PD.ai;simp[upd]
 unfold Jn.av;rw[O];dsimp only
 by_cases H:(P.ai (A7 nm)).1=0
 ·rw[Ac (nn H)];have I:=e2 H;have ea:((P.ai (A7 nm)).2.aa (A7 nm) (AE nm) (AO J.puts)).2.2=((P.ai (A7 nm)).2.an (A7 nm) (AR (AE nm) (AO J.puts))).2:=rfl;have L:((P.ai (A7 nm)).2.aa (A7 nm) (AE nm) (AO J.puts)).2.1=((P.ai (A7 nm)).2.an (A7 nm) (AR (AE nm) (AO J.puts))).1:=rfl;have Y:=W.an I (AR (AE nm) (AO J.puts));obtain⟨a1,a2,a3,d⟩:=Ie (AR (AE nm) (AO J.puts)) I;have hj:∃j,((P.ai (A7 nm)).2.an (A7 nm) (AR (AE nm) (AO J.puts))).2.F P.D.AT=((AR (AE nm) (AO J.puts)).take j,0):=by
   rcases d with d|⟨j,d⟩
   ·exact⟨0,by rw[d,E];simp⟩
   ·exact⟨j,by rw[d];simp[upd,E]⟩
  by_cases z:((P.ai (A7 nm)).2.aa (A7 nm) (AE nm) (AO J.puts)).2.1=0
  ·rw[Ac (nn z),ea];refine⟨Y,hj,λ_=>⟨by rw[a1];exact I,?_⟩⟩;rw[Uf _ I (by rw[<-L];exact z)];simp[upd,E]
  ·rw[Af z,ea];exact⟨Y,hj,λh=>absurd h z⟩
 ·rw[Af H];exact⟨W,⟨0,by rw[E];simp⟩,λh=>absurd h H⟩
def DI.av(h:DI bd P puts Ad o){J:Jn}(hL:CU bd P.fl ix sg cl none)(hs:C8 o (Aw sg++Aw cl) puts)(z:Ad<=puts.length)(hn:isNum (J.A8+1)=true)(I:J.A8+1<=bd.1)(hf:ix.B7<=J.A8+1)(H:∀x∈cl,x.1<J.A8+1)(hp:J.puts=((Aw cl).length:Int)):
 DI bd (J.av P).2.2 puts Ad o/\((J.av P).1=0->Ef bd (J.av P).2.2 puts Ad o (J.A8+1) P.D.AT (Aw cl).length):=by
 obtain⟨L,⟨j,b2⟩,b3⟩:=Mi P J;rw[hp]at b2 b3;have E:=K6 λe Y=>L.Ee _ (I6 h.Co Y);have W:=h.e1 L λh0=>by
  refine((hL.dd hs z hn I hf H j (V':=vw (J.av P).2.2.F (P.D.A4++[(A7 (Ae (J.A8+1)),P.D.AT)])) λm=>?_).1).cb;rw[K5 h0,b2,E];rfl
 refine⟨W,λO=>?_⟩;obtain⟨c1,c2⟩:=b3 O;refine⟨c1,λs d=>?_⟩;rcases L.Hb with⟨d1,d2⟩|⟨d0,d1,d2⟩
 ·
  rw[d1]at c1;exact absurd (E1 c1) (λhm=>I6 h.Co hm rfl)
 ·have es:Bp (J.av P).2.2=Bp P++[P.D.A4++[(A7 (Ae (J.A8+1)),P.D.AT)]]:=by unfold Bp;rw[L.AM,d2];rfl
  rw[es]at d;rcases AV.1 d with d | d
  ·exact .inl λe Y=>I6 d Y
  ·simp at d;subst d;refine .inr ⟨by rw[<-d1];exact c1,?_⟩;refine(hL.dd hs z hn I hf H 12 (V':=vw (J.av P).2.2.F (P.D.A4++[(A7 (Ae (J.A8+1)),P.D.AT)])) λm=>?_).2 (Au _);rw[K5 d0,c2,E,Em (by rw[Eu,CJ];omega)];rfl
end
section
variable {bd:Int×Int} {P P':PD} {V V':View} {A:Ar} {ix:Ix} {sg cl:List (Int×List Pu)} {lo:Option (Int×List Pu)} {ol:Option (List Pu)} {puts:List Pu} {Ad:Nat} {o:Int} {nm:Bs}
def P3{c:FC}(h:P.fl nm=some c):P.bs nm=some c.1:=by unfold PD.bs;rw[h];rfl
def I7{b:Bs}(h:P.bs nm=some b):∃c,P.fl nm=some c/\c.1=b:=by
 obtain⟨k,d⟩:=KM h;exact⟨(b,k),d,rfl⟩
def Lay.bq(h:Lay P A sg cl ol)(_hl:(Aw cl).length<=1099511627776)(hr:∀nm c,P.fl nm=some c->0<=c.2/\c.2<=c.1.length)(L:∀nm c,(nm=AI\/(∃x∈sg,nm=AG x.1)\/∃x∈cl,nm=Ae x.1)->P.fl nm=some c->C2 c)(O:Hn bd A.ix sg)(Y:∀nm,P.fl nm≠none->EV bd nm):CU bd P.fl A.ix sg cl (ol.map λl=>(A.j.A8,l)):=by
 have d:cl.map (·.1)++(Option.map (·.1) (ol.map λl=>(A.j.A8,l))).toList=A.j.Aj:=by
  rw[h.bU];cases ol<;>simp[shut]
 refine⟨O,?_,h.segs,λx z=>?_,λx z=>?_,Fl.at.2 h.Aj,λn l e=>?_,by rw[d];exact h.GU,λn E H W=>?_,Y,hr⟩
 ·rcases h.ix with⟨E,H⟩|E
  ·exact .inl ⟨Ia.1 E,H⟩
  ·obtain⟨c,c1,c2⟩:=I7 E;exact .inr ⟨c,c1,L _ _ (.inl rfl) c1,c2⟩
 ·obtain⟨E,H⟩:=h.Cq x z;obtain⟨c,c1,c2⟩:=I7 H;exact⟨E,c,c1,L _ _ (.inr (.inl ⟨x,z,rfl⟩)) c1,c2⟩
 ·have I:=h.Aj.Dy z;obtain⟨b,I⟩:=L3.1 I;obtain⟨c,c1,_⟩:=I7 I;exact⟨⟨(h.CO x z).1.1,h.Ey.1 x z⟩,(h.CO x z).2,c,c1,L _ _ (.inr (.inr ⟨x,z,rfl⟩)) c1⟩
 ·cases ol with
  | none=>cases e
  | some l'=>
   cases e;obtain⟨_,_,W,h4,h5⟩:=h.AF;obtain⟨c,c1,c2⟩:=I7 W;exact⟨⟨h5,h.Ey.2 (by simp)⟩,h4,c,c1,.inl ⟨[],by rw[c2,h.Gc];simp,by simp⟩⟩
 ·rw[d];exact h.H5 n E H λI=>W (Ia.1 I)
def CV.bI(h:CV bd V ix sg cl lo puts Ad o)(h0:V nm=none)(z:nm=Bk\/∃k,(isNum k=true/\k<=bd.2)/\nm=AG k)(c:FC)(hc:0<=c.2/\c.2<=c.1.length)(hV:∀m,V' m=if m=nm then some c else V m):CV bd V' ix sg cl lo puts Ad o:=by
 obtain⟨nb,O,W,hs,g1,g2⟩:=h;have H:∀m,JZ ix sg m->m≠nm:=by
  rintro m (rfl|⟨x,hx,rfl⟩|⟨n,hn,_,rfl⟩) e
  ·rcases z with z|⟨k,_,z⟩
   ·exact IN (e.trans z)
   ·exact Jf k (z.symm.trans e.symm)
  ·obtain⟨_,d,I,_⟩:=O.Cq x hx;rw[e,h0]at I;cases I
  ·rcases z with z|⟨k,_,z⟩
   ·exact Ku n (e.trans z)
   ·exact FK n k (e.trans z)
 have E:∀m,m≠nm->V' m=V m:=λm L=>by rw[hV,Ac L]
 refine⟨nb,O.bT (λm L=>?_) (λm L=>?_) (λm d I=>?_),W,hs,λn l e=>?_,g2⟩
 ·rw[E m (H m L)];cases hv:V m with
  | none=>exact .inl ⟨rfl,rfl⟩
  | some d=>exact .inr ⟨d,d,rfl,rfl,rfl,.inl rfl⟩
 ·by_cases e:m=nm
  ·subst e;rcases z with rfl|⟨k,Y,rfl⟩
   ·exact S4 bd
   ·exact S3 Y.1 Y.2
  ·rw[E m e]at L;exact O.Eb m L
 ·by_cases e:m=nm
  ·rw[hV,Af e]at I;cases I;exact hc
  ·rw[E m e]at I;exact O.DT m d I
 ·obtain⟨d,d1,d2,d3⟩:=g1 n l e;have hq:=(O.A8 n l e).1;exact⟨d,by rw[E _ (H _ (.inr (.inr ⟨n,hq.1,hq.2,rfl⟩)))];exact d1,d2,d3⟩
def Extra.fl(h:DI bd P puts Ad o)(d:Extra P nm P'):(P'.fl=P.fl)\/(P.fl nm=none/\∀m,P'.fl m=if m=nm then some (P'.F P.D.AT) else P.fl m):=by
 have old:=K6 λe z=>d.Ee _ (I6 h.Co z);rcases d.Hb with⟨d1,_⟩|⟨d0,d1,_⟩
 ·refine .inl ?_;have:P'.fl=vw P'.F P.D.A4:=by funext m;unfold PD.fl vw;rw[d1]
  rw[this,old];rfl
 ·refine .inr ⟨by unfold PD.fl;rw[d0];rfl,λm=>?_⟩;have:P'.fl m=vw P'.F (P.D.A4++[(A7 nm,P.D.AT)]) m:=by unfold PD.fl vw;rw[d1]
  rw[this,K5 d0,old];rfl
def CV.dY(h:DI bd P puts Ad o)(E:CV bd P.fl ix sg cl lo puts Ad o)(z:Extra P nm P')(d:nm=Bk\/∃k,(isNum k=true/\k<=bd.2)/\nm=AG k):CV bd P'.fl ix sg cl lo puts Ad o:=by
 rcases Extra.fl h z with e|⟨H,e⟩
 ·rw[e];exact E
 ·exact E.bI H d _ z.DT e
def CV.ah:∀(fresh:List (List Pu)) (last:Int) (kept:List Int) {P:PD},DI bd P puts Ad o->CV bd P.fl ix sg cl lo puts Ad o->0<=last->last+fresh.length<=4611686018427387904->last+fresh.length<=bd.2->CV bd (PD.ah fresh last kept P).2.2.2.fl ix sg cl lo puts Ad o
 | [],last,kept,P,_,hT,_,_,_=>hT
 | l::r,last,kept,P,h,hT,h0,h1,h2=>by
  simp only[CG]at h1 h2;have z:PD.ah (l::r) last kept P=if (P.aL (last+1) l).1≠0 then ((P.aL (last+1) l).1,last+1,kept,(P.aL (last+1) l).2) else PD.ah r (last+1) (kept++[last+1]) (P.aL (last+1) l).2:=rfl
  have d:AG (last+1)=Bk\/∃k,(isNum k=true/\k<=bd.2)/\AG (last+1)=AG k:=.inr ⟨last+1,⟨by unfold isNum;simp;omega,by omega⟩,rfl⟩;have H:=(JA P (AG (last+1)) (AE (AG (last+1))) (Cd l)).1;have I:DI bd (P.aL (last+1) l).2 puts Ad o:=h.aH d _ _;have E:CV bd (P.aL (last+1) l).2.fl ix sg cl lo puts Ad o:=hT.dY h H d;rw[z];split
  ·exact E
  ·exact CV.ah r (last+1) _ I E (by omega) (by omega) (by omega)
def QV(h:FP P){old nw:Bs}{f:Nat}(E:lookup P.D.A4 (A7 old)=some f):(P.aO (A7 old) (A7 nw)).2.F=P.F/\(P.aO (A7 old) (A7 nw)).2.D.AM=P.D.AM/\
 (((P.aO (A7 old) (A7 nw)).2.D.A4=P.D.A4/\(P.aO (A7 old) (A7 nw)).2.D.As=P.D.As/\(P.aO (A7 old) (A7 nw)).1≠0)\/
   ((P.aO (A7 old) (A7 nw)).2.D.A4=(P.D.A4.filter λe=>decide (e.1≠A7 old/\e.1≠A7 nw))++[(A7 nw,f)]/\(P.aO (A7 old) (A7 nw)).2.D.As=P.D.As++[(P.D.A4.filter λe=>decide (e.1≠A7 old/\e.1≠A7 nw))++[(A7 nw,f)]])):=by
 have d:¬B2 P.D.A4 (A7 old)<0:=λd=>by rw[IQ,E]at d;cases d
 unfold PD.aO CN;rw[E];dsimp only
 by_cases H:A7 nw=ByteArray.empty
 ·rw[Af H];exact⟨rfl,rfl,.inl ⟨rfl,rfl,by simp⟩⟩
 ·rw[Ac H];dsimp only
  rw[R0 _ _ _ h.Cb d];by_cases z:(bg P.D.n).1=true
  ·rw[Af z];exact⟨rfl,rfl,.inr ⟨rfl,rfl⟩⟩
  ·rw[Ac z];exact⟨rfl,rfl,.inl ⟨rfl,rfl,λh=>z (GG h)⟩⟩
def PV{F:Nat->FC}{s:List AL}{old nw:Bs}{f:Nat}(hd:old≠nw)(m:Bs):vw F ((s.filter λe=>decide (e.1≠A7 old/\e.1≠A7 nw))++[(A7 nw,f)]) m=if m=nw then some (F f) else if m=old then none else vw F s m:=by
 have E:lookup (s.filter λe=>decide (e.1≠A7 old/\e.1≠A7 nw)) (A7 nw)=none:=by
  rw[Kt s (λx=>decide (x≠A7 old/\x≠A7 nw))];simp
 rw[K5 E];by_cases d:m=nw
 ·rw[Af d,Af d]
 ·rw[Ac d,Ac d];unfold vw;rw[Kt s (λx=>decide (x≠A7 old/\x≠A7 nw))];have z:A7 m≠A7 nw:=λe=>d (FH.1 e);by_cases h:m=old
  ·subst h;simp
  ·have:A7 m≠A7 old:=λe=>h (FH.1 e);simp[this,z,h]
def DI.eP(h:DI bd P puts Ad o){f:Nat}(hl:lookup P.D.A4 (A7 Bk)=some f)(I:Holds bd (λm=>if m=AI then some (P.F f) else if m=Bk then none else P.fl m) puts Ad o):DI bd (P.aO (A7 Bk) (A7 AI)).2 puts Ad o:=by
 obtain⟨a1,a2,a3⟩:=QV (nw:=AI) h.bh hl;have L:=E1 hl;rcases a3 with⟨d1,d2,_⟩|⟨d1,d2⟩
 ·have es:Bp (P.aO (A7 Bk) (A7 AI)).2=Bp P:=by unfold Bp;rw[a2,d2]
  exact⟨λs d=>by rw[es]at d;rw[a1];exact h.Ds s d,by rw[es];exact h.Aq,by rw[es];exact h.Cb,by rw[es,d1];exact h.Co⟩
 ·obtain⟨s1,E⟩:∃s1,(P.D.A4.filter λe=>decide (e.1≠A7 Bk/\e.1≠A7 AI))++[(A7 AI,f)]=s1:=⟨_,rfl⟩;rw[E]at d1 d2;have es:Bp (P.aO (A7 Bk) (A7 AI)).2=Bp P++[s1]:=by unfold Bp;rw[a2,d2];rfl
  have z:∀s,s∈Bp (P.aO (A7 Bk) (A7 AI)).2->s∈Bp P\/s=s1:=λs d=>by
   rw[es]at d;rcases AV.1 d with d|d
   ·exact .inl d
   ·exact .inr (by simpa using d)
  have hv:vw P.F s1=λm=>if m=AI then some (P.F f) else if m=Bk then none else P.fl m:=by
   funext m;rw[<-E,PV IN.symm];rfl
  refine⟨λs d=>?_,λs d=>?_,λs d=>?_,by rw[es,d1];simp⟩
  ·rw[a1];rcases z s d with d|rfl
   ·exact h.Ds s d
   ·rw[hv];exact I
  ·rcases z s d with d|rfl
   ·exact h.Aq s d
   ·rw[<-E,E6,Gy];refine⟨(h.Aq _ h.Co).sublist (GL.map _),by simp,λa Y b H=>?_⟩;simp at H;subst H;obtain⟨e,he,rfl⟩:=CA.1 Y;obtain⟨W,O⟩:=GJ.1 he;intro aA;have:=Jo (h.Aq _ h.Co) W L aA;subst this;simp at O
  ·rcases z s d with d|rfl
   ·exact h.Cb s d
   ·rw[<-E,E6,Gy];refine⟨(h.Cb _ h.Co).sublist (GL.map _),by simp,λa Y b H=>?_⟩;simp at H;subst H;obtain⟨e,he,rfl⟩:=CA.1 Y;have:=(GJ.1 he).2;simp at this;exact this.2
def CU.fj{V:View}{h:Int}{I:List (Int×List Pu)}{c:FC}(aA:Hn bd ⟨h,I.map (·.1)⟩ I)(hc:C2 c/\c.1=AR (AE AI) (Ch h (I.map (·.1))))(Y:∀x∈I,((∀p∈x.2,Bg p)/\Cr Ck x.2=true)/\∃c,V (AG x.1)=some c/\C2 c/\c.1=AR (AE (AG x.1)) (Cd x.2))(L:∀n,isNum n=true->h<=n->V (Ae n)=none)(E:∀nm,V nm≠none->EV bd nm)(O:∀nm c,V nm=some c->0<=c.2/\c.2<=c.1.length)(hV:∀m,V' m=if m=AI then some c else if m=Bk then none else V m):CU bd V' ⟨h,I.map (·.1)⟩ I [] none:=by
 have z:∀m,m≠AI->m≠Bk->V' m=V m:=λm h1 h2=>by rw[hV,Ac h1,Ac h2]
 refine⟨aA,.inr ⟨c,by rw[hV,Af rfl],hc.1,hc.2⟩,rfl,λx hx=>?_,λx hx=>(by cases hx),trivial,λn l e=>(by cases e),List.Pairwise.nil,λn h1 h2 h3=>?_,λnm hn=>?_,λnm d H=>?_⟩
 ·rw[z _ (Jf _) (Ly _)];exact Y x hx
 ·rw[z _ (H6 _) (Ku _),L n h1 h2]at h3;exact absurd rfl h3
 ·by_cases e:nm=AI
  ·subst e;exact Yv bd
  ·by_cases W:nm=Bk
   ·rw[hV,Ac e,Af W]at hn;exact absurd rfl hn
   ·rw[z nm e W]at hn;exact E nm hn
 ·by_cases e:nm=AI
  ·rw[hV,Af e]at H;cases H;have:=hc.1;unfold C2 at this;omega
  ·by_cases W:nm=Bk
   ·rw[hV,Ac e,Af W]at H;cases H
   ·rw[z nm e W]at H;exact O nm d H
end
def Reads(bd:Int×Int)(P:PD)(q:List Pu)(o:Int):Prop:=∃A sg cl ol,Lay P A sg cl ol/\C8 o (B6 sg cl ol) q/\Hn bd A.ix sg
def Whole(bd:Int×Int)(V:View)(q:List Pu)(o:Int):Prop:=∃ix sg cl lo,CU bd V ix sg cl lo/\(Aw cl).length<=1099511627776/\C8 o (Aw sg++Aw cl++Ev lo) q
section
variable {bd:Int×Int} {P P':PD} {V V':View} {A:Ar} {ix:Ix} {sg cl:List (Int×List Pu)} {lo:Option (Int×List Pu)} {ol:Option (List Pu)} {puts q:List Pu} {Ad:Nat} {o:Int} {nm:Bs}
def CU.AX(h:CU bd P.fl ix sg cl lo)(hl:(Aw cl).length<=1099511627776)(K L:Int)(hK:0<=K/\ix.B7<=K+1)(aA:∀n,isNum n=true->P.fl (Ae n)≠none->n<=K)(hL:0<=L)(aB:∀n,isNum n=true->P.fl (AG n)≠none->n<=L):
 Lay P ⟨ix,⟨cl.map (·.1)++(lo.map (·.1)).toList,K,((Aw cl++Ev lo).length:Int),none⟩,L,[]⟩ sg (cl++lo.toList) none:=by
 have O:∀m,P.bs m≠none->P.fl m≠none:=λm hm e=>hm (Ia.2 e);have z:∀x∈cl++lo.toList,(isNum x.1=true/\ix.B7<=x.1)/\(∀p∈x.2,Bg p)/\P.fl (Ae x.1)≠none:=λx d=>by
  rcases AV.1 d with d|d
  ·obtain⟨H,E,c,I,_⟩:=h.CO x d;exact⟨H,E,by rw[I];simp⟩
  ·cases lo with
   | none=>simp at d
   | some y=>
    simp at d;subst d;obtain⟨n,l⟩:=x;obtain⟨H,E,c,I,_⟩:=h.A8 n l rfl;exact⟨H,E,by rw[I];simp⟩
 have Y:Aw (cl++lo.toList)=Aw cl++Ev lo:=by
  cases lo with
  | none=>simp[Aw,Ev]
  | some y=>simp[Aw,Ev]
 have W:Fl P.fl 0 (cl++lo.toList):=by
  cases lo with
  | none=>simpa using h.Aj
  | some y=>
   obtain⟨n,l⟩:=y;obtain⟨_,E,c,I,h4⟩:=h.A8 n l rfl;refine h.Aj.bV ?_;unfold II;rw[I];dsimp only
   rw[MQ];exact h4.a1 (by constructor<;>omega) E
 refine⟨h.Dz.1,?_,h.segs,λx d=>?_,λx d=>⟨⟨(z x d).1.1,aA _ (z x d).1.1 (z x d).2.2⟩,(z x d).2.1⟩,λx _ d=>absurd rfl d,⟨λx d=>(z x d).1.2,λd=>absurd rfl d⟩,Fl.at.1 W,?_,⟨rfl,?_⟩,⟨hK.1,hK.2,λn H E=>aA n H (O _ E)⟩,⟨hL,λn H E=>aB n H (O _ E)⟩,λm hm=>(by cases hm),h.EE,λm hm=>(h.Eb m (O m hm)).1,λn H E I=>h.Cl n H E (O _ I)⟩
 ·rcases h.I5 with⟨H,E⟩|⟨c,H,_,I⟩
  ·exact .inl ⟨Ia.2 H,E⟩
  ·exact .inr (by rw[P3 H,I])
 ·obtain⟨H,c,E,_,h4⟩:=h.Cq x d;exact⟨H,by rw[P3 E,h4]⟩
 ·dsimp only;rw[Y]
 ·dsimp only
  rw[E6];cases lo<;>simp
def Whole.bu(h:Whole bd P.fl q o):Reads bd P q o:=by
 obtain⟨ix,sg,cl,lo,H,L,O⟩:=h;have I:=H.Dz.1.B7;unfold isNum at I;simp at I;have E:=H.AX L 4611686018427387904 4611686018427387904 ⟨by decide,by omega⟩ (λn d _=>by unfold isNum at d;simp at d;exact d.2) (by decide) (λn d _=>by unfold isNum at d;simp at d;exact d.2);refine⟨_,sg,_,none,E,?_,H.Dz⟩;unfold B6;have z:Aw (cl++lo.toList)=Aw cl++Ev lo:=by
  cases lo<;>simp[Aw,Ev]
 rw[z];simpa[List.append_assoc] using O
def Fw.bB{n:Int}{ahead:Nat}(h:Fw bd V puts Ad o n ahead)(ha:ahead<=1099511627776):Whole bd V puts o:=by
 obtain⟨ix,sg,cl,l,nb,c,E,hnb,d,h1,h2,h3,h4,z⟩:=h;refine⟨ix,sg,cl,some (n,l),E,by omega,?_⟩;have:puts=puts.take nb++l:=by rw[z,DO]
 conv=>rhs;rw[this]
 exact d.dx l
def Reads.a6{d:Int×Int}(h:Reads bd P q o)(z:Hq bd d):Reads d P q o:=by
 obtain⟨A,sg,cl,ol,H,E,I⟩:=h;exact⟨A,sg,cl,ol,H,E,I.a6 z⟩
def Reads.bQ{d:Int}(h:Reads bd P q o)(z:o<=d):Reads bd P q d:=by
 obtain⟨A,sg,cl,ol,H,E,I⟩:=h;exact⟨A,sg,cl,ol,H,E.bQ z,I⟩
def Reads.aI(h:Reads bd P q o)(d:∀m,P'.bs m=P.bs m):Reads bd P' q o:=by
 obtain⟨A,sg,cl,ol,E,z,H⟩:=h;exact⟨A,sg,cl,ol,E.aI d,z,H⟩
def Q8(P:PD)(nm:ByteArray)(m:Bs):(P.fl m=none/\(P.ae nm).2.fl m=none)\/∃c d,P.fl m=some c/\(P.ae nm).2.fl m=some d/\d.1=c.1/\(d.2=c.2\/C2 d):=by
 cases hx:lookup P.D.A4 nm with
 | none=>
  have e:(P.ae nm).2=P:=by unfold PD.ae Cw;rw[hx]
  rw[e];cases hf:P.fl m with
  | none=>exact .inl ⟨rfl,rfl⟩
  | some c=>exact .inr ⟨c,c,rfl,rfl,rfl,.inl rfl⟩
 | some f=>
  obtain⟨z,a2,a3,h⟩:=Iq hx;unfold PD.fl;rw[z];cases hk:lookup P.D.A4 (A7 m) with
  | none=>exact .inl ⟨rfl,rfl⟩
  | some g=>
   refine .inr ⟨P.F g,(P.ae nm).2.F g,rfl,rfl,?_⟩;rcases h with h|h
   ·rw[h];exact⟨rfl,.inl rfl⟩
   ·rw[h];by_cases e:g=f
    ·subst e;simp[upd,C2]
    ·simp[upd,e]
def Na(P:PD)(nm:ByteArray)(m:Bs):(P.ae nm).2.bs m=P.bs m:=by
 unfold PD.bs;rcases Q8 P nm m with⟨z,h⟩|⟨c,d,z,h,E,_⟩
 ·rw[z,h]
 ·rw[z,h];simp[E]
def Qg:∀(l:List Bs) (P:PD) (m:Bs),(PD.ax l P).2.bs m=P.bs m
 | [],P,m=>rfl
 | x::r,P,m=>by
  unfold PD.ax;split
  ·exact Na P (A7 x) m
  ·rw[Qg r,Na]
def Nj(A:Ar)(P:PD)(m:Bs):(A.C P).2.2.bs m=P.bs m:=by
 unfold Ar.C;split<;>exact Qg _ _ m
def N9{c:FC}{P:PD}{nm:ByteArray}{m:Bs}(h:∀c,P.fl m=some c->C2 c)(E:(P.ae nm).2.fl m=some c):C2 c:=by
 rcases Q8 P nm m with⟨_,H⟩|⟨a,d,I,H,L,z⟩
 ·rw[H]at E;cases E
 ·rw[H]at E;cases E;rcases z with z|z
  ·have:=h a I;unfold C2 at this ⊢;rw[z,L];exact this
  ·exact z
def Nb:∀(l:List Bs) {P:PD} {m:Bs},(∀c,P.fl m=some c->C2 c)->∀c,(PD.ax l P).2.fl m=some c->C2 c
 | [],P,m,h,c,d=>h c d
 | x::r,P,m,h,c,d=>by
  unfold PD.ax at d;split at d
  ·exact N9 h d
  ·exact Nb r (λc d=>N9 h d) c d
def Q7{P:PD}{x:Bs}(d:(P.ae (A7 x)).1=0):∀c,(P.ae (A7 x)).2.fl x=some c->C2 c:=by
 intro c h;unfold PD.fl PD.ae Cw at h;unfold PD.ae Cw at d;cases hx:lookup P.D.A4 (A7 x) with
 | none=>rw[hx]at d;cases d
 | some f=>
  rw[hx]at d h;dsimp only at d h;rw[Af d,hx]at h;simp[upd]at h;subst h;rfl
def Qe:∀(l:List Bs) {P:PD},(PD.ax l P).1=0->∀m∈l,∀c,(PD.ax l P).2.fl m=some c->C2 c
 | x::r,P,hok,m,h,c,hc=>by
  unfold PD.ax at hok hc;by_cases d:(P.ae (A7 x)).1=0
  ·rw[Ac (nn d)]at hok hc;rcases BP.1 h with rfl|h
   ·exact Nb r (Q7 d) c hc
   ·exact Qe r hok m h c hc
  ·rw[Af d]at hok;exact absurd hok d
def Ww(d:(A.C P).1=0){m:Bs}(h:∀c,P.fl m=some c->m∈A.AN\/C2 c):∀c,(A.C P).2.2.fl m=some c->C2 c:=by
 intro c z;unfold Ar.C at d z;by_cases E:(P.ax A.AN).1=0
 ·rw[Ac (nn E)]at z;by_cases H:m∈A.AN
  ·exact Qe A.AN E m H c z
  ·exact Nb A.AN (λc z=>(h c z).resolve_left H) c z
 ·rw[Af E]at d;exact absurd d E
def Fw.bT{n:Int}{ahead:Nat}(h:Fw bd V puts Ad o n ahead)(H:∀nm,(∀c,V nm=some c->∃d,V' nm=some d/\d.1=c.1/\(d.2=c.2\/C2 d))/\(V nm=none->V' nm=none)):Fw bd V' puts Ad o n ahead:=by
 obtain⟨ix,sg,cl,l,nb,c,L,O,hs,Y,g2,g3,g4,g5⟩:=h;have I:∀nm,V' nm≠none->V nm≠none:=λnm z E=>z ((H nm).2 E);obtain⟨d,e1,W,e3⟩:=(H _).1 c Y;refine⟨ix,sg,cl,l,nb,d,L.bT (λnm _=>?_) (λnm z=>L.Eb nm (I nm z)) (λnm c z=>?_),O,hs,e1,by rw[W];exact g2,g3,AQ g4 (L7 (Tv W e3 (L.DT _ _ Y).2) _),g5⟩
 ·cases E:V nm with
  | none=>exact .inl ⟨rfl,(H nm).2 E⟩
  | some c=>obtain⟨d,d1,d2,d3⟩:=(H nm).1 c E;exact .inr ⟨c,d,rfl,d1,d2,d3⟩
 ·cases E:V nm with
  | none=>rw[(H nm).2 E]at z;cases z
  | some x=>
   obtain⟨d,d1,d2,d3⟩:=(H nm).1 x E;rw[d1]at z;cases z;have:=L.DT nm x E;rcases d3 with d3|d3
   ·rw[d2,d3];exact this
   ·unfold C2 at d3;omega
def Ef.cy{n:Int}{f ahead:Nat}(h:Ef bd P puts Ad o n f ahead)(nm:ByteArray):Ef bd (P.ae nm).2 puts Ad o n f ahead:=by
 cases hx:lookup P.D.A4 nm with
 | none=>
  have e:(P.ae nm).2=P:=by unfold PD.ae Cw;rw[hx]
  rw[e];exact h
 | some g0=>
  obtain⟨Y,a2,L,d⟩:=Iq hx;have es:Bp (P.ae nm).2=Bp P:=by unfold Bp;rw[a2,L]
  refine⟨by rw[Y];exact h.1,λs I=>?_⟩;rw[es]at I;rcases h.2 s I with E|⟨O,H⟩
  ·exact .inl E
  ·refine .inr ⟨O,?_⟩;rcases d with d|d
   ·rw[d];exact H
   ·refine H.bT λm=>?_;unfold vw;cases hk:lookup s (A7 m) with
    | none=>exact⟨λc z=>by simp at z,λ_=>rfl⟩
    | some g=>
     refine⟨λc z=>?_,λW=>by simp at W⟩;simp at z;subst z;rw[d];by_cases e:g=g0
     ·subst e;exact⟨_,rfl,by simp[upd],.inr (by simp[upd,C2])⟩
     ·exact⟨P.F g,by simp[upd,e],rfl,.inl rfl⟩
def Ef.ax{n:Int}{f ahead:Nat}:∀(l:List Bs) {P:PD},Ef bd P puts Ad o n f ahead->Ef bd (PD.ax l P).2 puts Ad o n f ahead
 | [],P,h=>h
 | x::r,P,h=>by
  have d:=h.cy (A7 x);unfold PD.ax;split
  ·exact d
  ·exact Ef.ax r d
def Ef.C{n:Int}{f ahead:Nat}(h:Ef bd P puts Ad o n f ahead):Ef bd (A.C P).2.2 puts Ad o n f ahead:=by
 unfold Ar.C;split<;>exact h.ax _
end
end
end Go.Proofs.YtodcnkbblippnabGreatDoor
