/- Part 38 of a proof: walks of the program. -/
import Derived.Test.YtodcnkbblippnabGreatDoorPart33
import Derived.Test.YtodcnkbblippnabGreatDoorPart37
namespace Go.Proofs.YtodcnkbblippnabGreatDoor
set_option maxRecDepth 100000
set_option maxHeartbeats 32000000
set_option linter.defProp false
open Go.Proofs.Tryz
section
open Go.RowKit
def JU(n:DN):(bg n).2.2.B1=n.B1:=by
 unfold bg;dsimp only
 split
 ·rfl
 ·split
  ·rfl
  ·split<;>rfl
def Nb{F G:Nat->FC}:∀ {es:List AI},(∀e∈es,(G e.2).1.length=(F e.2).1.length)->B6 G es=B6 F es
 | [],_=>rfl
 | e::r,h=>by
  simp only[B6];rw[h e (Bp ..),Nb λx z=>h x (Bn _ z)]
section
variable{P P':PD}{A:Ar}{J:Jn}{nm:Bs}
def Q7(z:Extra P nm P'):B6 P'.F P'.D.A6<=B6 P.F P.D.A6+(P'.F P.D.AS).1.length:=by
 have old:B6 P'.F P.D.A6=B6 P.F P.D.A6:=Nb λe H=>by
  rw[z.Ep _ λh=>P.D.b3 (h ▸ .inl ⟨e,H,rfl⟩)]
 rcases z.Hl with⟨d1,_⟩|⟨_,d1,_⟩
 ·rw[d1,old];omega
 ·rw[d1,Kp,old];simp[B6]
def Q6(P:PD)(x:ByteArray):B6 (P.aq x).2.F (P.aq x).2.D.A6=B6 P.F P.D.A6:=by
 unfold PD.aq Cx;split
 ·rfl
 ·dsimp only
  refine Nb λe _=>?_;split
  ·unfold upd;split
   ·rename_i h;rw[h]
   ·rfl
  ·rfl
def Q5:∀(l:List Bs) (P:PD),B6 (PD.av l P).2.F (PD.av l P).2.D.A6=B6 P.F P.D.A6
 | [],_=>rfl
 | nm::r,P=>by
  unfold PD.av;split
  ·exact Q6 P _
  ·rw[Q5 r,Q6]
def VF(A:Ar)(P:PD):B6 (A.aa P).2.2.F (A.aa P).2.2.D.A6=B6 P.F P.D.A6:=by
 unfold Ar.aa;split<;>exact Q5 _ P
def QU(P:PD)(x:ByteArray):(P.aq x).2.D.n.B1=P.D.n.B1:=by
 unfold PD.aq Cx;split
 ·rfl
 ·exact JU _
def QT:∀(l:List Bs) (P:PD),(PD.av l P).2.D.n.B1=P.D.n.B1
 | [],_=>rfl
 | nm::r,P=>by
  unfold PD.av;split
  ·exact QU P _
  ·rw[QT r,QU]
def Xq(A:Ar)(P:PD):(A.aa P).2.2.D.n.B1=P.D.n.B1:=by
 unfold Ar.aa;split<;>exact QT _ P
def Nt(P:PD)(x:ByteArray):(P.af x).2.D.n.B1=P.D.n.B1:=by
 unfold PD.af Cy;split
 ·rfl
 ·dsimp only
  split<;>exact JU _
def Xs(P:PD)(x:ByteArray)(l:Bs):(P.al x l).2.D.n.B1=P.D.n.B1:=by
 have h:∀D F f y z e,(BI D F f y z e).2.1.n.B1=D.n.B1:=λD F f y z e=>by
  unfold BI;split
  ·dsimp only;split<;>rfl
  ·rfl
 unfold PD.al Bj;split
 ·rfl
 ·dsimp only
  split
  ·rw[h];exact JU _
  ·split
   ·rw[h];exact JU _
   ·exact JU _
def Xr(J:Jn)(P:PD):(J.au P).2.2.D.n.B1=P.D.n.B1:=by
 unfold Jn.au;split
 ·exact Nt P _
 ·dsimp only
  have h:((P.af (A9 (Af (J.A8+1)))).2.I (A9 (Af (J.A8+1))) (AB (Af (J.A8+1))) (AR J.puts)).2.2.D.n.B1=P.D.n.B1:=(Xs _ _ _).trans (Nt P _);split<;>exact h
def Uv{x:ByteArray}{l:Bs}(h:(P.al x l).1=6):P.D.n.B1-B6 P.F P.D.A6<l.length:=by
 have X:=Hm P.D.n;have z:∀D H,∀e:Int,e=0\/e=5->(BI D P.F 0 (A9 l) H e).1=6->e=0/\H>FZ D P.F:=λD H e he h=>by
  unfold BI at h;split at h
  ·rename_i I;dsimp only at h;split at h
   ·rename_i h2;exact⟨h2,I⟩
   ·omega
  ·dsimp only at h;omega
 have Y:∀D f H e,(BI D P.F f (A9 l) H e).1=(BI D P.F 0 (A9 l) H e).1:=λD f H e=>by unfold BI;split<;>rfl
 have W:((A9 l).size:Int)=l.length:=by rw[KG]
 unfold PD.al Bj at h;split at h
 ·cases h
 ·rename_i f hf;dsimp only at h;split at h
  ·rw[Y]at h;have⟨_,I⟩:=z _ _ _ X h;unfold FZ at I;dsimp only at I;rw[JU,W]at I;omega
  ·rename_i O;split at h
   ·rw[Y]at h;have⟨h0,_⟩:=z _ _ _ X h;exact absurd (GS h0) O
   ·omega
def A1l(P:PD)(x:ByteArray):(P.af x).1≠6:=by
 have:=Hm P.D.n;unfold PD.af Cy;split
 ·simp
 ·dsimp only;omega
def A16(h:(J.au P).1=6):P.D.n.B1-B6 P.F P.D.A6<12:=by
 have⟨e1,e2⟩:=KT P (Af (J.A8+1));have z:(P.af (A9 (Af (J.A8+1)))).2.F P.D.AS=([],0):=by unfold PD.af;simp[upd]
 have hu:=Q7 e1;rw[z]at hu;unfold Jn.au at h;split at h
 ·exact absurd h (A1l P _)
 ·dsimp only at h;split at h
  ·have:=Uv (P:=(P.af (A9 (Af (J.A8+1)))).2) (x:=A9 (Af (J.A8+1))) (l:=AT (AB (Af (J.A8+1))) (AR J.puts)) h;rw[EN,CD,Nt]at this;simp only[Gk]at hu;omega
  ·cases h
def RG{p:Pu}(h:(J.ax P p).2.1=6):P.D.n.B1-B6 P.F P.D.A6<21:=by
 unfold Jn.ax at h;split at h
 ·cases h
 ·rename_i n s _;have:=Uv (P:=P) (x:=A9 (Af n)) (l:=AT s (B9 p.1 p.2.1 p.2.2)) h;rw[EN,EE]at this;omega
def ZW{p:Pu}(h:(J.I P p).2.1=6):P.D.n.B1-B6 P.F P.D.A6<33:=by
 unfold Jn.I at h;split at h
 ·split at h
  ·have:=A16 h;omega
  ·have z:=RG h;have⟨b1,⟨j,b2⟩,_⟩:=My P J;have hu:=Q7 b1;rw[b2]at hu;dsimp only at hu;rw[BU,EN,CD]at hu;rw[Xr]at z;omega
 ·have:=RG h;omega
def A2i{p:Pu}(h:(A.I P p).2.1=6):P.D.n.B1-B6 P.F P.D.A6<200:=by
 unfold Ar.I at h;split at h
 ·exact absurd h (X3 A P)
 ·have:=ZW h;rw[Xq,VF]at this;omega
end
section
variable{P:PD}{A:Ar}{a c m:Nat}
def Fit.ah:∀(fresh:List (List Pu)) (last:Int) (kept:List Int) (P:PD) (a c m:Nat),Fit P a c m->Fit (PD.ah fresh last kept P).2.2.2 (a+fresh.length) (c+fresh.length) (m+CC fresh)/\(PD.ah fresh last kept P).2.2.1.length<=kept.length+fresh.length
 | [],last,kept,P,a,c,m,h=>⟨h,by simp[PD.ah]⟩
 | l::r,last,kept,P,a,c,m,h=>by
  have H:=h.aI (last+1) l;have z:CC (l::r)=(17*l.length+4)+CC r:=by simp[CC]
  rw[Su];split
  ·exact⟨H.ae (by simp) (by simp) (by rw[z];omega),by simp⟩
  ·have⟨i1,i2⟩:=Fit.ah r (last+1) (kept++[last+1]) _ _ _ _ H;exact⟨i1.ae (by simp;omega) (by simp;omega) (by rw[z];omega),by simp at i2 ⊢;omega⟩
def Fit.ay(h:Fit P a c m)(kept:List Int)(fresh:List (List Pu)):Fit (A.ay P kept fresh).2.2 (a+fresh.length+2) (c+2*a+2*fresh.length+4) (m+CC fresh+12+8*(kept.length+fresh.length)):=by
 rw[Nu];have H:=h.aK (A:=A);split
 ·exact H.ae (by omega) (by omega) (by omega)
 ·have⟨h2,h3⟩:=Fit.ah fresh (A.aK P).2.1.A8 kept _ _ _ _ H;split
  ·exact h2.ae (by omega) (by omega) (by omega)
  ·have z:=h2.cx (A:={ (A.aK P).2.1 with A8:=(PD.ah fresh (A.aK P).2.1.A8 kept (A.aK P).2.2).2.1}) (PD.ah fresh (A.aK P).2.1.A8 kept (A.aK P).2.2).2.2.1;split
   ·exact z.ae (by omega) (by omega) (by omega)
   ·unfold Ar.a6;have I:=Fit.aw (A:=(({ (A.aK P).2.1 with A8:=(PD.ah fresh (A.aK P).2.1.A8 kept (A.aK P).2.2).2.1}:Ar).ai (PD.ah fresh (A.aK P).2.1.A8 kept (A.aK P).2.2).2.2.2 (PD.ah fresh (A.aK P).2.1.A8 kept (A.aK P).2.2).2.2.1).2.1) z;split
    ·exact I.ae (by omega) (by omega) (by omega)
    ·exact I.aN.ae (by omega) (by omega) (by omega)
def Fit.bU(h:Fit P a c m)(nm:ByteArray)(s:Nat)(l:Bs):Fit (P.I nm s l).2.2 a c (m+(l.length+4)):=by
 have:=h.al nm (AT s l);rw[EN]at this;exact this
def Fit.dI{J:Jn}(h:Fit P a c m):Fit (J.au P).2.2 (a+1) (c+1) (m+12):=by
 unfold Jn.au;have H:=h.af (A9 (Af (J.A8+1)));have z:=H.bU (A9 (Af (J.A8+1))) (AB (Af (J.A8+1))) (AR J.puts);rw[CD]at z;split
 ·exact H.ae (Aq _) (Aq _) (by omega)
 ·dsimp only
  split
  ·exact z
  ·exact z
def Fit.dx{J:Jn}(h:Fit P a c m)(p:Pu):Fit (J.ax P p).2.2.2 a c (m+21):=by
 unfold Jn.ax;cases J.AP with
 | none=>exact h.ae (Aq _) (Aq _) (by omega)
 | some x=>
  obtain⟨n,s⟩:=x;have z:=h.bU (A9 (Af n)) s (B9 p.1 p.2.1 p.2.2);rw[EE]at z;exact z
def Fit.fu{J:Jn}(h:Fit P a c m)(p:Pu):Fit (J.I P p).2.2.2 (a+1) (c+1) (m+33):=by
 unfold Jn.I;split
 ·split
  ·exact h.dI.ae (Aq _) (Aq _) (by omega)
  ·exact(h.dI.dx p).ae (Aq _) (Aq _) (by omega)
 ·exact(h.dx p).ae (by omega) (by omega) (by omega)
def Fit.dj(h:Fit P a c m)(p:Pu):Fit (A.I P p).2.2.2 (a+1) (c+1) (m+33):=by
 unfold Ar.I;split
 ·exact h.aa.ae (by omega) (by omega) (by omega)
 ·exact h.aa.fu p
def UF(A:Ar)(P:PD)(p:Pu):(A.I P p).2.2.1.A8=A.A8/\((A.I P p).2.2.1.j.A8=A.j.A8\/(A.I P p).2.2.1.j.A8=A.j.A8+1):=by
 have I:=LF A P;have h:∀(J:Jn) (Q:PD),(J.ax Q p).2.2.1.A8=J.A8:=λJ Q=>by
  unfold Jn.ax;cases J.AP<;>rfl
 have z:∀(J:Jn) (Q:PD),(J.au Q).2.1.A8=J.A8\/(J.au Q).2.1.A8=J.A8+1:=λJ Q=>by
  unfold Jn.au;split
  ·exact .inl rfl
  ·dsimp only
   split
   ·exact .inl rfl
   ·exact .inr rfl
 have H:∀(J:Jn) (Q:PD),(J.I Q p).2.2.1.A8=J.A8\/(J.I Q p).2.2.1.A8=J.A8+1:=λJ Q=>by
  unfold Jn.I;split
  ·split
   ·exact z J Q
   ·rw[h];exact z J Q
  ·exact .inl (h J Q)
 unfold Ar.I;split
 ·exact⟨I.2.2,.inl (by rw[I.2.1])⟩
 ·dsimp only
  rw[<-I.2.1];exact⟨I.2.2,H _ _⟩
def Xz(kept:List Int)(fresh:List (List Pu))(h:(A.ay P kept fresh).1=0):(A.ay P kept fresh).2.2.D.Ap=[]/\(A.ay P kept fresh).2.2.D.AK=(A.ay P kept fresh).2.2.D.A6:=by
 have key:∀Q:PD,Q.aN.1=0->Q.aN.2.D.Ap=[]/\Q.aN.2.D.AK=Q.aN.2.D.A6:=λQ z=>by
  unfold PD.aN E4 at z ⊢;dsimp only at z ⊢;rw[Ah z];exact⟨rfl,rfl⟩
 rw[Nu]at h ⊢;split at h
 ·rename_i O;exact absurd h O
 ·rename_i O;rw[Ae O];split at h
  ·rename_i H;exact absurd h H
  ·rename_i H;rw[Ae H];split at h
   ·rename_i W;exact absurd h W
   ·rename_i W;rw[Ae W];unfold Ar.a6 at h ⊢;split at h
    ·rename_i I;exact absurd h I
    ·rename_i I;rw[Ae I];exact key _ h
end
end
section
open Go.RowKit
attribute [local go_sem ↓] Cz
def AZ.bu{w:World}{g n cap:Nat}{l:List Pu}(h:w.ownsRow 0 90 3 (AN g n cap) n (Ba l))(k:Nat)(z:k<l.length)(p:Pu)(H:l[k]'z=p):
 w.cell? (Ad g (k*3))=some (A0 p.1)/\Aa w g (k*3+1) (A0 p.2.1)/\Aa w g (k*3+2) (A0 p.2.2):=by
 have⟨q1,q2,q3⟩:=He l k z;rw[H]at q1 q2 q3;exact⟨BB h rfl q1,BB h rfl q2,BB h rfl q3⟩
def Ov{α:Type}(A C:List α)(x:α)(h:A.length<(A++x::C).length):(A++x::C)[A.length]'h=x:=by
 rw[Gl (Aq _)];simp
def Jq{α:Type}(A C:List α)(x y:α):(A++x::C).set A.length y=A++y::C:=by
 rw[K7 _ _ (Aq _)];simp
def Wa{a b c n:Nat}(hn:n<=9223372036854775807)(hbn:b+c<=n)(hab:a+c<=b)(i:Nat)(hi:i<c):
 a+i<n/\b+i<n/\IntKind.i64.wrap ((a:Int)+(i:Int))=((a+i:Nat):Int)/\IntKind.i64.wrap ((b:Int)+(i:Int))=((b+i:Nat):Int)/\wrap64 ((a:Int)+(i:Int))=((a+i:Nat):Int)/\wrap64 ((b:Int)+(i:Int))=((b+i:Nat):Int)/\((a+i:Nat):Int)<(n:Int)/\((b+i:Nat):Int)<(n:Int):=by
 refine⟨by omega,by omega,?_,?_,by unfold wrap64;omega,by unfold wrap64;omega,by omega,by omega⟩
 ·simp[IntKind.wrap,IntKind.bits,IntKind.signed];omega
 ·simp[IntKind.wrap,IntKind.bits,IntKind.signed];omega
section
variable{w w':World}{g cap n:Nat}
def Wc(w:World)(g cap n:Nat)(A X M Y Z:List Pu)(cv:Value)(aE:X.length=Y.length)(hn:n=(A++X++M++Y++Z).length)(h:w.ownsRow 0 90 3 (AN g n cap) n (Ba (A++X++M++Y++Z))):
 Aj 228 #[AN g n cap,A0 A.length,A0 ((A.length+X.length+M.length:Nat):Int),A0 X.length,cv] w (Au (.tuple #[]) λw'=>
  w'.ownsRow 0 90 3 (AN g n cap) n (Ba (A++Y++M++X++Z))/\A5 (One g) w w'):=by
 obtain⟨a,ha⟩:∃a,A.length=a:=⟨_,rfl⟩;obtain⟨b,hb⟩:∃b,A.length+X.length+M.length=b:=⟨_,rfl⟩;obtain⟨c,hc⟩:∃c,X.length=c:=⟨_,rfl⟩;have aD:n<=cap/\cap<=9223372036854775807:=by
  have⟨a',c',e,h1,h2,_⟩:=Bb h;cases e;unfold maxLen at h2;omega
 obtain⟨aR,aM⟩:=aD;have aP:b+c<=n:=by rw[hn];simp only[AX];omega
 have aO:a+c<=b:=by omega
 obtain⟨H,I⟩:∃H:Nat->List Pu,H=λi=>A++(Y.take i++X.drop i)++M++(X.take i++Y.drop i)++Z:=⟨_,rfl⟩;have aB:Hid (∀i,i<c->∃x y,(∀hk,(H i)[a+i]'hk=x)/\(∀hk,(H i)[b+i]'hk=y)/\(H i).length=n/\(∀hk,((H i).set (a+i) y)[b+i]'hk=y)/\((H i).set (a+i) y).set (b+i) x=H (i+1)):=λi hi=>by
  have O:i<X.length:=by omega
  have aA:i<Y.length:=by omega
  have dx:X.drop i=X[i]'O::X.drop (i+1):=Fy O;have dy:Y.drop i=Y[i]'aA::Y.drop (i+1):=Fy aA;have tx:X.take (i+1)=X.take i++[X[i]'O]:=Dz O;have ty:Y.take (i+1)=Y.take i++[Y[i]'aA]:=Dz aA;obtain⟨x,hx⟩:∃x,X[i]'O=x:=⟨_,rfl⟩;obtain⟨y,hy⟩:∃y,Y[i]'aA=y:=⟨_,rfl⟩;rw[hx]at dx tx;rw[hy]at dy ty;have e1:H i=(A++Y.take i)++x::((X.drop (i+1)++M++X.take i)++y::(Y.drop (i+1)++Z)):=by
   rw[I];dsimp only;rw[dx,dy];simp
  have e2:H (i+1)=(A++Y.take i)++y::((X.drop (i+1)++M++X.take i)++x::(Y.drop (i+1)++Z)):=by
   rw[I];dsimp only;rw[tx,ty];simp
  have l1:(A++Y.take i).length=a+i:=by simp;omega
  have e3:∀z:Pu,(A++Y.take i)++z::((X.drop (i+1)++M++X.take i)++y::(Y.drop (i+1)++Z))=((A++Y.take i)++z::(X.drop (i+1)++M++X.take i))++y::(Y.drop (i+1)++Z):=λz=>by simp
  have l2:∀z:Pu,((A++Y.take i)++z::(X.drop (i+1)++M++X.take i)).length=b+i:=λz=>by simp;omega
  have s1:(H i).set (a+i) y=((A++Y.take i)++y::(X.drop (i+1)++M++X.take i))++y::(Y.drop (i+1)++Z):=by
   rw[e1,<-l1,Jq,e3]
  refine⟨x,y,λhk=>?_,λhk=>?_,?_,λhk=>?_,?_⟩
  ·have:=Ov (A++Y.take i) ((X.drop (i+1)++M++X.take i)++y::(Y.drop (i+1)++Z)) x (by simp);simp only[e1,<-l1];exact this
  ·have:=Ov ((A++Y.take i)++x::(X.drop (i+1)++M++X.take i)) (Y.drop (i+1)++Z) y (by simp);simp only[e1,e3,<-l2 x];exact this
  ·rw[e1,hn];simp;omega
  ·have:=Ov ((A++Y.take i)++y::(X.drop (i+1)++M++X.take i)) (Y.drop (i+1)++Z) y (by simp);simp only[s1,<-l2 y];exact this
  ·rw[s1,<-l2 y,Jq,e2];simp
 have aL:Hid (∀i,i<c->_):=Wa (AH aR aM) aP aO;have aS:Hid (w.ownsRow 0 90 3 (AN g n cap) n (Ba (H 0))):=by
  unfold Hid;rw[I];simpa using h
 have aT:Hid (H c=A++Y++M++X++Z):=by
  unfold Hid;rw[I];dsimp only;rw[<-hc,Cj,Gm,aE,Cj,Gm];simp
 rw[hb,ha,hc];clear I h hn hb ha hc aE
 go_enter func228,ntmps228
 go_wp2;go_loopw [10] (λiv wr=>∃i:Nat,iv=A0 (i:Int)/\i<=c/\Hid (wr.ownsRow 0 90 3 (AN g n cap) n (Ba (H i))/\A5 (One g) w wr)) (λiv _=>c-(intOf iv).toNat)
 ·exact⟨0,by go_num,by omega,aS.o,A5.C _ _⟩
 ·obtain⟨i,rfl,hic,hI⟩:=hrel;by_cases W:i<c
  ·have hltI:(i:Int)<(c:Int):=EW.2 W;have⟨hPn,hQn,ew1,ew2,eu1,eu2,PI,QI⟩:=aL.o i W;have⟨i1,i2⟩:=hI.o;have⟨x,y,sx,sy,sl,sb,sn⟩:=aB.o i W;obtain⟨P,hP⟩:∃P,a+i=P:=⟨_,rfl⟩;obtain⟨Q,hQ⟩:∃Q,b+i=Q:=⟨_,rfl⟩;rw[hP]at sx sb sn hPn ew1 eu1 PI;rw[hQ]at sy sb sn hQn ew2 eu2 QI;have⟨x1,x2,x3⟩:=AZ.bu i1 P (MO hPn sl.symm) x (sx _);have⟨y1,y2,y3⟩:=AZ.bu i1 Q (MO hQn sl.symm) y (sy _);have P0:=Cd P;have Q0:=Cd Q;have tP:(P:Int).toNat=P:=EA P;have tQ:(Q:Int).toNat=Q:=EA Q;have aG:=AZ.bp i1 P (MO hPn sl.symm) y;have aI:=AZ.bp aG Q (MO hQn ((J9 ..).trans sl).symm) x;rw[sn]at aI;have fz:∀o,wr.frozen? (Ad g o)=false:=λo=>Ga i1 rfl o;obtain⟨xa,xb,xc⟩:=x;obtain⟨ya,yb,yc⟩:=y;dsimp only at x1 x2 x3 y1 y2 y3 aG aI;have aQ:∀o,((((wr.setCell (Ad g (P*3)) (A0 ya)).setCell (Ad g (P*3+1)) (A0 yb)).setCell (Ad g (P*3+2)) (A0 yc))).drew.frozen? (Ad g o)=false:=λo=>Ga aG rfl o;have z:=AZ.bu aG Q (MO hQn ((J9 ..).trans sl).symm) _ (sb _);obtain⟨z1,z2,z3⟩:=z;dsimp only at z1 z2 z3;have aK:((((wr.setCell (Ad g (P*3)) (A0 ya)).setCell (Ad g (P*3+1)) (A0 yb)).setCell (Ad g (P*3+2)) (A0 yc))).drew.cell? (Ad g (Q*3))=some (A0 ya):=z1;have aN:((((wr.setCell (Ad g (P*3)) (A0 ya)).setCell (Ad g (P*3+1)) (A0 yb)).setCell (Ad g (P*3+2)) (A0 yc))).drew.cell? (Ad g (Q*3+1))=some (A0 yb):=z2;have aJ:((((wr.setCell (Ad g (P*3)) (A0 ya)).setCell (Ad g (P*3+1)) (A0 yb)).setCell (Ad g (P*3+2)) (A0 yc))).drew.cell? (Ad g (Q*3+2))=some (A0 yc):=z3;have aV:Hid (A5 (One g) w (((((((wr.setCell (Ad g (P*3)) (A0 ya)).setCell (Ad g (P*3+1)) (A0 yb)).setCell (Ad g (P*3+2)) (A0 yc)).drew.setCell (Ad g (Q*3)) (A0 xa)).setCell (Ad g (Q*3+1)) (A0 xb)).setCell (Ad g (Q*3+2)) (A0 xc)))):=
    (((((i2.ao (b:=g) rfl _ _).ao (b:=g) rfl _ _).ao (b:=g) rfl _ _).ad.ao (b:=g) rfl _ _).ao (b:=g) rfl _ _).ao (b:=g) rfl _ _
   have aH:Hid ((((((((wr.setCell (Ad g (P*3)) (A0 ya)).setCell (Ad g (P*3+1)) (A0 yb)).setCell (Ad g (P*3+2)) (A0 yc)).drew.setCell (Ad g (Q*3)) (A0 xa)).setCell (Ad g (Q*3+1)) (A0 xb)).setCell (Ad g (Q*3+2)) (A0 xc))).ownsRow 0 90 3 (AN g n cap) n (Ba (H (i+1)))):=aI;have aF:=A4 W;clear aG aI z1 z2 z3 i1 i2 sx sy sl sb sn hI aB aS aT hP hQ W hPn hQn;go_wp2;refine Ls 21 (λw'=>Aa w' g (P*3) (A0 xa)/\Aa w' g (P*3+1) (A0 xb)/\Aa w' g (P*3+2) (A0 xc)/\Aa w' g (Q*3) (A0 ya)/\Aa w' g (Q*3+1) (A0 yb)/\Aa w' g (Q*3+2) (A0 yc)) 22
    [(0,1),(1,1),(2,1),(3,1),(8,1),(9,1),(10,1),(11,1),(12,1),(13,1),(14,2),(15,2),(16,2),(17,2),(18,2),(19,1),(20,1),(4,2),(5,2),(6,2),(7,2),(21,0)] ⟨x1,x2,x3,y1,y2,y3⟩ ?_
   iterate 10 refine I0 ?_
   iterate 5 refine I1 ?_
   iterate 2 refine I0 ?_
   iterate 4 refine I1 ?_
   refine Lu λK hK=>?_;go_simp;refine hK _ _ ?_;refine Lt ?_;generalize (((wr.setCell (Ad g (P*3)) (A0 ya)).setCell (Ad g (P*3+1)) (A0 yb)).setCell (Ad g (P*3+2)) (A0 yc)).drew=w7 at aQ aV aH aK aN aJ ⊢;go_wp2;go_roundw
   ·exact⟨i+1,by go_num,aF.o,AA aH.o λ_ _=>rfl,aV.o⟩
   ·have h:=aF.o;simp[intOf];omega
  ·(obtain rfl:i=c:=by omega);have aU:=A4 hI.o;(have hno:¬((i:Int)<(i:Int)):=by omega);go_wp2;go_end0;exact⟨rfl,by have h:=aU.o.1;rw[aT.o]at h;simpa using h,aU.o.2⟩
end
def Fv(n m:Nat)(T h:List Pu)(i j:Nat):Prop:=∃L U V R:List Pu,h=L++U++V++R/\T=L++V++U++R/\U.length=i/\V.length=j/\L.length+i=m/\0<i/\0<j/\h.length=n
def La(n:Nat)(h z:List Pu)(p q c:Nat):Prop:=∃A X M Y Z:List Pu,h=A++X++M++Y++Z/\z=A++Y++M++X++Z/\X.length=Y.length/\A.length=p/\A.length+X.length+M.length=q/\X.length=c/\n=h.length
def Fv.gt{n m i j:Nat}{T I:List Pu}(h:Fv n m T I i j)(hij:j<i):∃z,La n I z (m-i) m j/\Fv n m T z (i-j) j:=by
 obtain⟨L,U,V,R,Y,e2,h1,h2,h3,h4,h5,X⟩:=h;have W:U=U.take j++U.drop j:=(DK j U).symm;obtain⟨U1,H⟩:∃U1,U.take j=U1:=⟨_,rfl⟩;obtain⟨U2,O⟩:∃U2,U.drop j=U2:=⟨_,rfl⟩;have l1:U1.length=j:=by rw[<-H,BU];omega
 have l2:U2.length=i-j:=by rw[<-O,CM];omega
 rw[H,O]at W;subst W;refine⟨L++V++U2++U1++R,⟨L,U1,U2,V,R,by rw[Y];simp,rfl,by omega,by omega,by omega,by omega,X.symm⟩,L++V,U2,U1,R,rfl,by rw[e2];simp,l2,l1,by simp;omega,by omega,h5,?_⟩;rw[<-X,Y];simp;omega
def Fv.lt{n m i j:Nat}{T I:List Pu}(h:Fv n m T I i j)(hij:i<j):∃H,La n I H (m-i) (m+j-i) i/\Fv n m T H i (j-i):=by
 obtain⟨L,U,V,R,X,e2,h1,h2,h3,h4,h5,W⟩:=h;have Y:V=V.take (j-i)++V.drop (j-i):=(DK _ V).symm;obtain⟨V1,z⟩:∃V1,V.take (j-i)=V1:=⟨_,rfl⟩;obtain⟨V2,O⟩:∃V2,V.drop (j-i)=V2:=⟨_,rfl⟩;have l1:V1.length=j-i:=by rw[<-z,BU];omega
 have l2:V2.length=i:=by rw[<-O,CM];omega
 rw[z,O]at Y;subst Y;refine⟨L++V2++V1++U++R,⟨L,U,V1,V2,R,by rw[X];simp,rfl,by omega,by omega,by omega,by omega,W.symm⟩,L,V2,V1,U++R,by simp,by rw[e2];simp,l2,l1,by omega,h4,by omega,?_⟩;rw[<-W,X];simp;omega
def Fv.eq{n m i:Nat}{T z:List Pu}(h:Fv n m T z i i):La n z T (m-i) m i:=by
 obtain⟨L,U,V,R,I,W,O,h2,h3,h4,h5,H⟩:=h;exact⟨L,U,[],V,R,by rw[I];simp,by rw[W];simp,by omega,by omega,by simp;omega,O,H.symm⟩
def Fv.bk{n m i j:Nat}{T H:List Pu}(hn:n<=9223372036854775807)(h:Fv n m T H i j):
 i<=n/\j<=n/\IntKind.i64.wrap ((m:Int)-(i:Int))=((m-i:Nat):Int)/\wrap64 ((m:Int)-(i:Int))=((m-i:Nat):Int)/\IntKind.i64.wrap ((m:Int)+(j:Int))=((m+j:Nat):Int)/\wrap64 ((m:Int)+(j:Int))=((m+j:Nat):Int)/\
 IntKind.i64.wrap (((m+j:Nat):Int)-(i:Int))=((m+j-i:Nat):Int)/\wrap64 (((m+j:Nat):Int)-(i:Int))=((m+j-i:Nat):Int)/\
 (j<i->IntKind.i64.wrap ((i:Int)-(j:Int))=((i-j:Nat):Int)/\wrap64 ((i:Int)-(j:Int))=((i-j:Nat):Int))/\(i<j->IntKind.i64.wrap ((j:Int)-(i:Int))=((j-i:Nat):Int)/\wrap64 ((j:Int)-(i:Int))=((j-i:Nat):Int)):=by
 obtain⟨L,U,V,R,Y,e2,h1,h2,h3,h4,h5,O⟩:=h;have hl:L.length+i+j<=n:=by rw[<-O,Y];simp;omega
 clear Y e2 O h1 h2;have W:∀x:Int,-9223372036854775808<=x->x<=9223372036854775807->IntKind.i64.wrap x=x/\wrap64 x=x:=λx a b=>by
  refine⟨?_,by unfold wrap64;omega⟩;simp[IntKind.wrap,IntKind.bits,IntKind.signed];omega
 have z:∀(x:Int) (k:Nat),x=(k:Int)->k<=9223372036854775807->IntKind.i64.wrap x=(k:Int)/\wrap64 x=(k:Int):=λx k e hk=>by
  subst e;exact W _ (by omega) (by omega)
 have I:=z ((m:Int)-i) (m-i) (by omega) (by omega);have aA:=z ((m:Int)+j) (m+j) (by omega) (by omega);have X:=z (((m+j:Nat):Int)-i) (m+j-i) (by omega) (by omega);exact⟨by omega,by omega,I.1,I.2,aA.1,aA.2,X.1,X.2,λh=>z _ _ (by omega) (by omega),λh=>z _ _ (by omega) (by omega)⟩
section
variable{w w':World}{g cap n:Nat}
def La.b9{z H:List Pu}{p q c:Nat}(h:La n z H p q c)(I:Value)(O:w.ownsRow 0 90 3 (AN g n cap) n (Ba z)):
 Aj 228 #[AN g n cap,A0 (p:Int),A0 (q:Int),A0 (c:Int),I] w (Au (.tuple #[]) λw'=>
  w'.ownsRow 0 90 3 (AN g n cap) n (Ba H)/\A5 (One g) w w'):=by
 obtain⟨A,X,M,Y,Z,rfl,rfl,e,rfl,rfl,rfl,W⟩:=h;exact Wc w g cap n A X M Y Z I e W O
def Xp(w:World)(g cap n:Nat)(A U V Z:List Pu)(cv:Value)(hu:U≠[])(hv:V≠[])(hn:n=(A++U++V++Z).length)(h:w.ownsRow 0 90 3 (AN g n cap) n (Ba (A++U++V++Z))):
 Aj 217 #[AN g n cap,A0 A.length,A0 ((A.length+U.length:Nat):Int),A0 ((A.length+U.length+V.length:Nat):Int),cv] w (Au (.tuple #[]) λw'=>
  w'.ownsRow 0 90 3 (AN g n cap) n (Ba (A++V++U++Z))/\A5 (One g) w w'):=by
 have O:n<=9223372036854775807:=by
  have⟨a',c',e,h1,h2,_⟩:=Bb h;cases e;unfold maxLen at h2;omega
 have aM:=Ja.2 hu;have aR:=Ja.2 hv;have aF:A.length+U.length+V.length<=n:=by rw[hn];simp;omega
 obtain⟨T,hT⟩:∃T,A++V++U++Z=T:=⟨_,rfl⟩;obtain⟨C,hC⟩:∃C,A++U++V++Z=C:=⟨_,rfl⟩;obtain⟨a,ha⟩:∃a,A.length=a:=⟨_,rfl⟩;obtain⟨m,hm⟩:∃m,A.length+U.length=m:=⟨_,rfl⟩;obtain⟨b,hb⟩:∃b,A.length+U.length+V.length=b:=⟨_,rfl⟩;obtain⟨i0,aI⟩:∃i0,U.length=i0:=⟨_,rfl⟩;obtain⟨j0,aG⟩:∃j0,V.length=j0:=⟨_,rfl⟩;have aJ:Hid (Fv n m T C i0 j0):=⟨A,U,V,Z,hC.symm,hT.symm,aI,aG,by omega,by omega,by omega,by rw[hn,hC]⟩;have ei:IntKind.i64.wrap ((m:Int)-(a:Int))=(i0:Int)/\wrap64 ((m:Int)-(a:Int))=(i0:Int):=by
  refine⟨?_,by unfold wrap64;omega⟩;simp[IntKind.wrap,IntKind.bits,IntKind.signed];omega
 have ej:IntKind.i64.wrap ((b:Int)-(m:Int))=(j0:Int)/\wrap64 ((b:Int)-(m:Int))=(j0:Int):=by
  refine⟨?_,by unfold wrap64;omega⟩;simp[IntKind.wrap,IntKind.bits,IntKind.signed];omega
 obtain⟨aA,aE⟩:=ei;obtain⟨aB,aD⟩:=ej;have I:Hid (∀z i j,Fv n m T z i j->_):=λz i j h=>Fv.bk O h;rw[hC]at h;rw[hT,hb,hm,ha];have aK:=A4 h;clear h hn hu hv aM aR aF hT hC ha hm hb aI aG O
 go_enter func217,ntmps217
 go_wp2;go_loopw [10,11] (λiv jv wr=>∃(i j:Nat) (z:List Pu),iv=A0 (i:Int)/\jv=A0 (j:Int)/\Hid (Fv n m T z i j/\wr.ownsRow 0 90 3 (AN g n cap) n (Ba z)/\A5 (One g) w wr)) (λiv jv _=>(intOf iv).toNat+(intOf jv).toNat)
 ·exact⟨i0,j0,C,by go_num,by go_num,aJ.o,aK.o,A5.C _ _⟩
 ·obtain⟨i,j,z,rfl,rfl,hI⟩:=hrel;have⟨i1,i2,i3⟩:=hI.o;have⟨z1,z2,z3,z4,z5,z6,z7,z8,z9,z10⟩:=I.o _ _ _ i1;obtain⟨p,hp⟩:∃p,m-i=p:=⟨_,rfl⟩;obtain⟨q,hq⟩:∃q,m+j-i=q:=⟨_,rfl⟩;obtain⟨mj,H⟩:∃mj,m+j=mj:=⟨_,rfl⟩;rw[hp]at z3 z4;rw[hq,H]at z7 z8;rw[H]at z5 z6;have aN:=A4 i3;by_cases he:i=j
  ·subst he;have S:=A4 ((Fv.eq i1).b9 cv i2);rw[hp]at S;clear hI i1 i2 i3 z1 z2 z5 z6 z7 z8 z9 z10 hp hq H I aJ aK aA aE aB aD;go_wp2_with (go_at_call 228;refine(S.o).k ?_;rintro w5⟨X,Y⟩;have R:=A4 (And.intro X (aN.o.tr Y));clear X Y);go_end0;exact⟨rfl,R.o⟩
  ·have hne:((i:Int)=(j:Int))=False:=Mj λh=>he (Int.ofNat_inj.1 h);by_cases W:j<i
   ·have⟨nxt,S1,S2⟩:=Fv.gt i1 W;have S:=A4 (S1.b9 cv i2);rw[hp]at S;have⟨y1,y2⟩:=z9 W;have aL:(j:Int)<(i:Int):=EW.2 W;have aH:=A4 S2;have aQ:=A4 W;obtain⟨d,hd⟩:∃d,i-j=d:=⟨_,rfl⟩;rw[hd]at y1 y2 aH;have aP:=A4 hd;(have aO:Hid (0<j):=by obtain⟨_,_,_,_,_,_,_,_,_,_,h5,_⟩:=i1;exact h5);clear hI i1 i2 i3 z1 z2 z5 z6 z7 z8 z9 z10 hp hq H I aJ aK aA aE aB aD S1 S2 W hd;go_wp2_with (go_at_call 228;refine(S.o).k ?_;rintro w5⟨X,Y⟩;have R:=A4 (And.intro X (aN.o.tr Y));clear X Y);go_roundw
    ·exact⟨d,j,nxt,by go_num,by go_num,aH.o,R.o⟩
    ·have h1:=aQ.o;have h2:=aP.o;have h3:=aO.o;simp[intOf];omega
   ·have hl:i<j:=Nat.lt_of_le_of_ne (Iu W) he;have⟨nxt,S1,S2⟩:=Fv.lt i1 hl;have S:=A4 (S1.b9 cv i2);rw[hp,hq]at S;have⟨y1,y2⟩:=z10 hl;(have aL:((j:Int)<(i:Int))=False:=by simp;exact Iu W);have aH:=A4 S2;have aQ:=A4 hl;obtain⟨d,hd⟩:∃d,j-i=d:=⟨_,rfl⟩;rw[hd]at y1 y2 aH;have aP:=A4 hd;(have aO:Hid (0<i):=by obtain⟨_,_,_,_,_,_,_,_,_,h5,_,_⟩:=i1;exact h5);clear hI i1 i2 i3 z1 z2 z9 z10 hp hq H I aJ aK aA aE aB aD S1 S2 W hl hd;go_wp2_with (go_at_call 228;refine(S.o).k ?_;rintro w5⟨X,Y⟩;have R:=A4 (And.intro X (aN.o.tr Y));clear X Y);go_roundw
    ·exact⟨i,d,nxt,by go_num,by go_num,aH.o,R.o⟩
    ·have h1:=aQ.o;have h2:=aP.o;have h3:=aO.o;simp[intOf];omega
end
end
end Go.Proofs.YtodcnkbblippnabGreatDoor
