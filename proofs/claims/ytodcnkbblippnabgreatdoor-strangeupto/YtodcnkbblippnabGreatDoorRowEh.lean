/- The law Strange returns true for every list of files of bulk at most 1048576, every clock and every window: a store on a disk with any files on it (as a row, and its tied card). -/
import Derived.Test.YtodcnkbblippnabGreatDoorPart50
namespace Go.Proofs.YtodcnkbblippnabGreatDoor
set_option maxRecDepth 100000
set_option maxHeartbeats 32000000
set_option linter.defProp false
open Go.Proofs.Tryz
section
open Go.RowKit
attribute [local go_sem ↓] Go.wp_at_zero Go.wp_at_succ
section
variable{w w':World}{b B H i T:Nat}{P:PD}
def H8(H b:Nat)(P:PD)(w:World):Prop:=H<=w.heap.size/\∃Ft,Bh w b P Ft/\(∀k,Ft k->k<w.heap.size)/\∀k,Ft k->H<=k
def H8.aJ(h:H8 H b P w)(z:A5 Ab w w'):H8 H b P w':=by
 obtain⟨W,Ft,X,I,Y⟩:=h;exact⟨AH W z.Am,Ft,B5.az X I z,λk O=>Bm (I k O) z.Am,Y⟩
def H8.dJ{Ft:Nat->Prop}{P':PD}(O:H<=w.heap.size)(W:∀k,Ft k->H<=k)(hA:Ev w Ft w' b P'.D P'.F):A5 (Up H) w w'/\H8 H b P' w':=by
 obtain⟨c,I,X,q2,Y⟩:=hA;exact⟨c.ae λk _ z=>W k z,AH O c.Am,I,X,q2,λk z=>(Y k z).elim (W k) λh=>AH O h⟩
def H8.ca(h:H8 H b P w)(Y:G2 P i T)(nm l:ByteArray)(hi:i+1<=400000)(hT:T+nm.size+l.size<=1048576):
 Calls Tryz.prog 7 #[.pointer (some ⟨b,0,none⟩),.string nm] w λe I=>∃n1,e=.returned (.int .i64 n1)/\A5 (Up H) w I/\
  ∀w2,A5 (λ_=>False) I w2->Calls Tryz.prog 8 #[.pointer (some ⟨b,0,none⟩),.string nm,.string l] w2 λe O=>∃n2,e=.returned (.int .i64 n2)/\A5 (Up H) w O/\H8 H b (P.B7 nm.data.toList l.data.toList) O:=by
 obtain⟨hH,Ft,h1,h2,h3⟩:=h;have hd:=Y.BO.A6;have hcg:=Y.BO.An;have z:=Y.BO.af nm;refine(TX h1 nm P.D.AS P.D.b3 ⟨by omega,by omega⟩).mono ?_;rintro e I⟨rfl,hA⟩;obtain⟨k1,s1⟩:=H8.dJ (P':=(P.af nm).2) hH h3 hA;refine⟨_,rfl,k1,λw2 k2=>?_⟩;obtain⟨aB,Ft2,g1,g2,g3⟩:=s1.aJ k2;have W:∀f,lookup (P.af nm).2.D.A6 nm=some f->((P.af nm).2.F f).1.length+l.size<=70368744177664:=λf hf=>by have:=z.Bi f (FK hf);omega
 refine(Uu g1 nm l z.B1 (AH z.cg (AH (HN hi (show T<=1048576 by omega)) (by decide))) z.BA W).mono ?_;rintro e O⟨rfl,X⟩;have e1:(P.B7 nm.data.toList l.data.toList)=((P.af nm).2.al nm l.data.toList).2:=by unfold PD.B7;rw[Fm]
 have e2:(A9 l.data.toList)=l:=Fm l
 obtain⟨k3,s3⟩:=H8.dJ (P':=((P.af nm).2.al nm l.data.toList).2) aB g3 (by
  have hx:((P.af nm).2.al nm l.data.toList).2=⟨(Bj (P.af nm).2.D (P.af nm).2.F nm l).2.1,(Bj (P.af nm).2.D (P.af nm).2.F nm l).2.2⟩:=by unfold PD.al;rw[e2]
  rw[hx];exact X)
 exact⟨_,rfl,(k1.AJ k2 λ_ h _=>h.elim).AJ k3 λ_ h _=>h,by rw[e1];exact s3⟩
def WC(h:G2 P 0 T):Ar.aR P≠.error 7:=by
 have h1:=h.BO.A6;have z:P.D.A6=[]:=G4.1 (by omega);have I:∀nm,P.bs nm=none:=λnm=>by unfold PD.bs PD.fl;rw[z];rfl
 obtain⟨A',e,-⟩:=(Lay.ed I).aR h.cm (by simp[Az]);rw[e];simp
def FM(H sb ab b:Nat)(Ak aA:Int)(L:Nat->List Pt)(A:Ar)(P:PD)(w:World):Prop:=H<=w.heap.size/\∃FT,SF w sb ab b 0 1000 Ak aA false L A P FT/\(∀k,FT k->k<w.heap.size)/\∀k,FT k->H<=k
section
variable{sb ab:Nat}{Ak aA:Int}{A:Ar}{sg:List (Int×List Pu)}{pl:List Pu}{L:Nat->List Pt}{Ft:Nat->Prop}{p:Pu}
def FM.aJ(h:FM H sb ab b Ak aA L A P w)(z:A5 Ab w w'):FM H sb ab b Ak aA L A P w':=by
 obtain⟨W,FT,X,O,Y⟩:=h;exact⟨AH W z.Am,FT,X.aJ z,λk I=>Bm (O k I) z.Am,Y⟩
def FM.of(O:H<=w.heap.size)(W:∀k,Ft k->H<=k)(X:Ax w Ft w' (λw' z=>SF w' sb ab b 0 1000 Ak aA false L A P z)):A5 (Up H) w w'/\FM H sb ab b Ak aA L A P w':=by
 obtain⟨c,z,Y,q2,q3⟩:=X;exact⟨c.ae λk _ I=>W k I,AH O c.Am,z,Y,q2,λk I=>(q3 k I).elim (W k) λh=>AH O h⟩
def FM.ax(h:FM H sb ab b Ak aA (En (Bu aA 1000) (sg.flatMap (·.2)++pl)) A P w)(Y:Ec P A sg pl)(hS:G2 P i T)(hi:i<=399000)(W:T<=1048576)(hp:B8 p)(hL:Lets B w)(hB:B<=H)(hc:AY aA):
 Aj 12 #[A7 sb,A0 p.1,A0 p.2.1,A0 p.2.2] w (Au (A0 0) λw'=>A5 (Up H) w w'/\FM H sb ab b Ak aA (En (Bu aA 1000) (sg.flatMap (·.2)++pl++[p])) (A.I P p).2.2.1 (A.I P p).2.2.2 w'):=by
 obtain⟨hH,FT,X,I,z⟩:=h;refine(Wz w Y hS hi W X I p hp hL (λk O=>AH hB (z k O)) hc).mono ?_;rintro e w'⟨rfl,hI⟩;exact⟨rfl,FM.of hH z hI⟩
def FM.aX(I:FN 61681)(h:FM H sb ab b Ak aA L (A.I P p).2.2.1 (A.I P p).2.2.2 w)(hO:Ec P A sg pl)(hS:G2 P i T)(hi:i<=399000)(hT:T<=1048576)(hp:B8 p)(hw:1<=Ak/\Ak<=4611686018427387904)(hL:Lets B w)(hB:B<=H)(hc:AY aA):
 Aj 14 #[A7 sb] w λe w'=>∃W z c2,e=.returned (A0 0)/\A5 (Up H) w w'/\FM H sb ab b Ak aA L W z w'/\
  GH z (i+61684) c2 2837370/\z.D.A6.length+z.D.AK.length+Fh z.D.Ap<1099511627776/\(i=0->Ar.aR z≠.error 7):=by
 obtain⟨hH,FT,h1,X,O⟩:=h;refine(WE I w hO hS hi hT hp h1 X hw hL (λk Y=>AH hB (O k Y)) hc).mono ?_;rintro e w'⟨rfl,W,z,hI,⟨⟨c2,f1⟩,f2⟩,f3⟩;obtain⟨g1,g2⟩:=FM.of hH O hI;exact⟨_,_,_,rfl,g1,g2,f1,f2,f3⟩
def FM.at{z:List Pu}(h:FM H sb ab b Ak aA (En (Bu aA 1000) z) A P w)(O:∀p∈z,B8 p)(hc:AY aA)(k:Nat)(W:k<8)(t v:Int)(X:refQ z k t t 1000 aA=[(t,v)]):
 Aj 13 #[A7 sb,A0 k,A0 t,A0 v] w (Au (.bool true) λw'=>A5 Ab w w'):=by
 obtain⟨hH,FT,Y,h2,h3⟩:=h;refine(WG w Y rfl O hc k W t v).mono ?_;rintro e w'⟨rfl,I⟩;exact⟨by rw[CJ X],I⟩
end
def WA(I:List Pu)(k:Nat)(t v:Int)(h:H5 t 1000 t=true):refQ (I++[((k:Int),t,v)]) k t t 1000 t=[(t,v)]:=by
 refine Nj (LL ..) (by unfold E7;simp) λx=>?_;rw[Nz _ _ _ _ _ _ _ _ rfl,HH];obtain⟨a,u⟩:=x;simp only[Hr,Prod.mk.injEq];constructor
 ·rintro⟨⟨h1,h2,-⟩,z⟩;obtain rfl:a=t:=by omega
  simp at z;exact⟨rfl,z.symm⟩
 ·rintro⟨rfl,rfl⟩;exact⟨⟨Ha _,Ha _,h⟩,by simp⟩
end
def FD(fs:List (ByteArray×ByteArray))(i:Nat):Nat:=((fs.take i).map λf=>f.1.size+f.2.size).sum
def VL{fs:List (ByteArray×ByteArray)}{i:Nat}(h:i<fs.length):FD fs (i+1)=FD fs i+(fs[i]'h).1.size+(fs[i]'h).2.size:=by
 unfold FD;rw[Dz h,Ed,List.sum_append];simp;omega
def VM{fs:List (ByteArray×ByteArray)}:∀i,FD fs i<=FD fs fs.length:=λi=>by
 unfold FD;have e:=DK i fs;have:((fs.take fs.length).map λf=>f.1.size+f.2.size).sum=((fs.take i).map λf=>f.1.size+f.2.size).sum+((fs.drop i).map λf=>f.1.size+f.2.size).sum:=by
  rw[Cj,<-List.sum_append,<-Ed,e]
 omega
def P5(w:World)(fs:List (ByteArray×ByteArray))(b i:Nat)(wr:World):Prop:=A5 (Up w.heap.size) w wr/\∃P,H8 w.heap.size b P wr/\G2 P i (FD fs i)
def WS{k n:Nat}(h:k<n):n-(intOf (A0 ((k:Int)+1))).toNat<n-(intOf (A0 (k:Int))).toNat:=by simp[intOf];omega
def Wp{B g o:Nat}(bO:FN 61681)(w:World)(fs:List (ByteArray×ByteArray))(c Ay:Int)(cap:Nat)(hS:∀i (h:i<fs.length),Aa w g (o+i*2) (.string (fs[i]'h).1)/\Aa w g (o+i*2+1) (.string (fs[i]'h).2))(hn:3*fs.length+FD fs fs.length<=1048576)(hg:fs.length≠0->g<w.heap.size)(hE:Env B w)(sv:Value)(aB:sv=.slice (some (Ad g o)) fs.length cap\/(fs.length=0/\∃x,sv=.slice x 0 cap))(hc:AY c)(aY:AY Ay)(a3:FN 10):
 Aj 3 #[sv,A0 c,A0 Ay] w (Au (.bool true) λw'=>A5 Ab w w'):=by
 obtain⟨n,aK⟩:∃n,fs.length=n:=⟨_,rfl⟩;obtain⟨ad,aD⟩:∃ad,sv=.slice ad n cap/\(n≠0->ad=some (Ad g o)):=by
  rw[aK]at aB;rcases aB with rfl|⟨rfl,x,rfl⟩
  ·exact⟨_,rfl,λ_=>rfl⟩
  ·exact⟨x,rfl,λh=>absurd rfl h⟩
 obtain⟨rfl,aP⟩:=aD;rw[aK]at hn hg;have aZ:n<=349525:=by omega
 have bR:=A4 (ZM (B:=B) a3 ⟨by decide,by decide⟩ w 0 ⟨by decide,by decide⟩ hE);have b4:=A4 (λw1=>Sq (F:=λ_=>([],0)) 1152921504606846976 w1);have KS:=A4 (λw'=>ZK w' c hc);have aR:=WN c;have I:Hid (AY (IE c)):=by constructor<;>omega
 generalize IE c=aA at KS aR I;obtain⟨p1,aS,bC⟩:=Ys Ay 300 aY (by decide);have bI:=A4 p1;clear p1;generalize E1 Ay 300=pw at bI aS bC;have bH:Hid (1<=1+pw/\1+pw<=4611686018427387904):=by constructor<;>omega
 have X:=A4 hE;have cE:=A4 hS;have cG:=A4 hg;have bN:=A4 aP;have Y:=A4 (And.intro hn aZ);have cJ:=A4 hc;have bL:Hid (H5 aA 1000 aA=true):=by unfold H5;simp only[Hid,DT];omega
 clear hE hS hg aP hn aZ hc aY aB aR aS
 go_enter func3,ntmps3
 go_wp2_with (fail);refine bR.m ?_;rintro e w1⟨xb,rfl,k1,-⟩;have a5:=A4 k1;clear k1 bR;go_wp2_with (fail);refine(b4.o w1).k ?_;rintro w2⟨hd,k2,hz⟩;have bX:Hid (P5 w fs w1.heap.size 0 w2):=⟨(a5.o.tr k2).ae λ_ _ h=>h.elim,hollow 1152921504606846976,⟨AH a5.o.Am k2.Am,_,hd,λk hk=>by cases hk;omega,λk hk=>by cases hk;exact a5.o.Am⟩,G2.hollow⟩;clear hd k2 hz b4 a5;generalize w1.heap.size=b at bX ⊢;go_wp2;go_loopw [9] (λiv wr=>∃k:Nat,k<=n/\iv=A0 k/\Hid (P5 w fs b k wr)) (λiv _=>n-(intOf iv).toNat)
 ·exact⟨0,C8 _,rfl,bX⟩
 ·obtain⟨k,hk,rfl,hH⟩:=hrel;obtain⟨w4,bA⟩:∃w4,w4=wr:=⟨_,rfl⟩;subst bA;have k0:=Cd k;by_cases aE:k<n
  ·(have i1:(k:Int)<(n:Int):=by omega);(have aV:n≠0:=by omega);obtain rfl:=bN.o aV;have aO:=cG.o aV;(have z:k<fs.length:=by omega);obtain⟨s0,s1⟩:=cE.o k z;have a0:=VL z;have a1:=VM (fs:=fs) (k+1);rw[aK]at a1;have ek:IntKind.i64.wrap ((k:Int)+1)=(k:Int)+1:=GN (by have:=Y.o.2;omega);have cL:=A4 (WS aE);obtain⟨O,P,hP,hB⟩:=hH;have c0:=JT O s0 (by unfold Up;omega);have c1:=JT O s1 (by unfold Up;omega);have a4:=A4 (hP.ca hB (fs[k]'z).1 (fs[k]'z).2 (by have:=Y.o.2;omega) (by have:=Y.o.1;omega));have a6:=A4 (hB.B7 (fs[k]'z).1.data.toList (fs[k]'z).2.data.toList (by have:=Y.o.2;omega) (by have:=Y.o.1;simp only[Jh];have e1:(fs[k]'z).1.data.size=(fs[k]'z).1.size:=rfl;have e2:(fs[k]'z).2.data.size=(fs[k]'z).2.size:=rfl;omega));have aF:=A4 O;(have e3:FD fs k+(fs[k]'z).1.data.toList.length+(fs[k]'z).2.data.toList.length=FD fs (k+1):=by rw[a0];simp only[Jh];rfl);rw[e3]at a6;generalize (fs[k]'z).1=nm at c0 c1 a4 a6;generalize (fs[k]'z).2=by_ at c1 a4 a6;have aI:=A4 (And.intro aE aO);clear s0 s1 a0 a1 hP hB O e3 aO;go_wp2_with (fail);refine a4.m ?_;rintro e w5⟨n1,rfl,W,h5⟩;have aM:Hid (A5 (Up w.heap.size) w w5):=aF.o.tr W;have d0:=JT W c0 (by have:=aI.o.2;unfold Up;omega);have d1:=JT W c1 (by have:=aI.o.2;unfold Up;omega);have bQ:=A4 (h5 _ (A5.C _ w5).ad);have cB:=A4 aF.o;clear W h5 a4 c0 c1;go_wp2;refine Ce (λw'=>Aa w' g (o+k*2) (.string nm)/\Aa w' g (o+k*2+1) (.string by_)) 11
    (BD [0,1,2,3,4,5,6,7,8,9,10] []) ⟨d0,d1⟩ ?_
   iterate 11 refine Bq ?_
   refine Cc ?_;go_wp2_with (fail);refine bQ.m ?_;rintro e w6⟨n2,rfl,k6,h6⟩;have cI:Hid (P5 w fs b (k+1) w6):=⟨cB.o.tr k6,_,h6,a6⟩;clear k6 h6 bQ d0 d1;go_wp2;go_roundw
   ·exact⟨k+1,aI.o.1,by simp,cI⟩
   ·exact cL.o
  ·obtain rfl:k=n:=K1 hk (Pc.1 aE);have i1:¬(k:Int)<(k:Int):=Lo _;obtain⟨O,P,⟨bF,Ft,hd,aQ,a2⟩,hB⟩:=hH;(have a7:Hid (FD fs k<=1048576):=by have:=Y.o.1;unfold Hid;omega);have cD:Hid (GH P k k (FD fs k)):=⟨hB.BO,by have:=Y.o.2;omega,by have:=Y.o.2;omega,by have:=a7.o;omega,λnm h=>AH (hB.Kq nm h) a7.o⟩;have aF:=A4 O;have bM:=A4 hB;have bJ:=A4 (X.o.ak O λx e=>AH X.o.1.1 e);have aL:=A4 (Qw w4 hd aQ bJ.o cD.o bH.o I.o (Ak:=1+pw));have aN:=A4 a2;clear O hB hd aQ a2 bF;go_wp2_with (fail);refine(KS.o _).k ?_;rintro w' rfl;go_wp2_with (fail);refine(bI.o _).k ?_;rintro w' rfl;go_wp2_with (fail);refine aL.m ?_;rintro e w5 (⟨her,rfl,W⟩|⟨A,sg,pl,ab,sb,hO,rfl,W,FT,hSF,hlt5,hs5⟩)
   ·have aM:A5 Ab w w5:=(A5.C Ab w).bH (aF.o.AJ W λ_ h _=>h.elim) λ_ h=>h;(have aG:k≠0:=λh0=>by have:=bM.o;rw[h0]at this;exact WC this her);(have j1:((k:Int)>0):=by omega);clear her aL W;go_wp2;go_ret;exact⟨E5 (λb=>Ending.returned (.bool b)) (CJ (Nat.pos_of_ne_zero aG)),aM⟩
   ·have b5:Hid (FM w.heap.size sb ab b (1+pw) aA (En (Bu aA 1000) (sg.flatMap (·.2)++pl)) A P w5):=⟨AH aF.o.Am W.Am,FT,hSF,hlt5,λq hq=>(hs5 q hq).elim (aN.o q) λh=>AH aF.o.Am h⟩;have aM:=A4 (aF.o.AJ W λq hq _=>aN.o q hq);have bV:=A4 hO;have aJ:B8 ((6:Int),aA,c):=⟨show (0:Int)<=6/\(6:Int)<8 by decide,I.o,cJ.o⟩;have aU:∀q∈sg.flatMap (·.2)++pl++[((6:Int),aA,c)],B8 q:=λq hq=>(AU.1 hq).elim (hO.ok q) λh=>by rw[Hr.1 h];exact aJ
    have cA:=A4 aJ;have aX:=A4 aU;have b8:=A4 (WA (sg.flatMap (·.2)++pl) 6 aA c bL.o);have b0:=A4 (X.o.ak aM.o λ_ h=>AH X.o.1.1 h);have bY:=A4 (b5.o.ax bV.o bM.o (by have:=Y.o.2;omega) a7.o cA.o b0.o.1 X.o.1.1 I.o);clear hO W hSF hlt5 hs5 aJ aU b5;go_wp2_with (fail);refine bY.m ?_;rintro e w6⟨rfl,k6,s6⟩;have b1:Hid (A5 (Up w.heap.size) w w6):=aM.o.tr k6;have bB:=A4 s6;clear k6 s6 bY b0 aM;have bS:=A4 (bB.o.at aX.o I.o 6 (by decide) aA c b8.o);go_wp2_with (fail);refine bS.m ?_;rintro e w7⟨rfl,k7⟩;have bD:Hid (A5 (Up w.heap.size) w w7):=b1.o.AJ k7 λ_ h _=>h.elim;have b9:=A4 (bB.o.aJ k7);have b6:=A4 (X.o.ak bD.o λ_ h=>AH X.o.1.1 h);have bU:=A4 (b9.o.aX bO bV.o bM.o (by have:=Y.o.2;omega) a7.o cA.o bH.o b6.o.1 X.o.1.1 I.o);clear k7 bS b1 bB;go_wp2_with (fail);refine bU.m ?_;rintro e w8⟨A2,P2,c2,rfl,k8,s8,f1,f2,f3⟩;have b3:Hid (A5 (Up w.heap.size) w w8):=bD.o.tr k8;have bP:=A4 s8;have bW:=A4 f1;have cF:=A4 f2;have cH:=A4 f3;clear k8 s8 f1 f2 f3 bU b6 bD b9;have b7:=A4 (bP.o.at aX.o I.o 6 (by decide) aA c b8.o);go_wp2_with (fail);refine b7.m ?_;rintro e w9⟨rfl,k9⟩;have bG:Hid (A5 (Up w.heap.size) w w9):=b3.o.AJ k9 λ_ h _=>h.elim;have bK:=A4 (bP.o.aJ k9);clear k9 b7 b3 bP;have cM:=A4 bK.o.2;obtain⟨FS,q1,-,-⟩:=bK.o.2;have bZ:=A4 (WD w9 q1 bW.o cF.o);clear q1 cM bK;go_wp2_with (fail);refine bZ.m ?_;rintro e wA⟨b2,bE,rfl,aW,aH,kA⟩;have a8:Hid (A5 (Up w.heap.size) w wA):=bG.o.AJ kA λ_ h _=>h.elim;have cC:=A4 (X.o.ak a8.o λ_ h=>AH X.o.1.1 h);have aL:=A4 (Qw wA aW (λq hq=>(aH q hq).2) cC.o bW.o bH.o I.o (Ak:=1+pw));have aT:Hid (∀q,bE q->w.heap.size<=q):=λq hq=>AH bG.o.Am (aH q hq).1;clear aW aH kA bZ bG;go_wp2_with (fail);refine(bI.o _).k ?_;rintro w' rfl;go_wp2_with (fail);refine aL.m ?_;rintro e wB (⟨her,rfl,kB⟩|⟨A3,sg3,pl3,ab3,sb3,-,rfl,kB,FT3,hSF3,-,-⟩)
    ·have a9:A5 Ab w wB:=(A5.C Ab w).bH (a8.o.AJ kB λ_ h _=>h.elim) λ_ h=>h;have aG:k≠0:=λh0=>cH.o h0 her;(have j1:((k:Int)>0):=by omega);clear her aL kB;go_wp2;go_ret;exact⟨E5 (λb=>Ending.returned (.bool b)) (CJ (Nat.pos_of_ne_zero aG)),a9⟩
    ·have a9:Hid (A5 (Up w.heap.size) w wB):=a8.o.AJ kB λq h _=>aT.o q h;have bT:=A4 (Wy wB hSF3 I.o 6 (by decide) (-9223372036854775808) 9223372036854775807);clear hSF3 kB aL a8 aT;go_wp2_with (fail);refine bT.m ?_;rintro e wC⟨x,rfl,kC⟩;have KC:A5 Ab w wC:=(A5.C Ab w).bH (a9.o.AJ kC λ_ h _=>h.elim) λ_ h=>h;clear kC bT a9;go_wp2;go_ret;exact⟨rfl,KC⟩
end
section
open Go.ChangeAt Go.ChangeShapes Go.RowKit Go.WideShapes
def Tryz.dP:Tryz.prog.cellsOf 30=2:=by kernel_rfl
def Tryz.e6:Tryz.prog.cellsOf 9=1:=by kernel_rfl
section
variable{H:Type}{enc:TypeId×Value->H}{W:World}{sp:Nat->Bool}{aA:Nat}
def A0R{I:List Value}{x:DataW H×List MemPlace}(h:DataW.trod enc Tryz.prog W 0 sp true aA 30 I=some x):
 ∃f:ByteArray×ByteArray,I=[.string f.1,.string f.2]/\Rows.uptoBulk x.1=3+(f.1.size+f.2.size):=by
 obtain⟨xs,n,rfl,O,Y,hx,X⟩:=DataW.trod_struct underlying30 h;rw[Tryz.dP]at Y;have z:xs.length=2:=hx
 match I,Y with
 | [c0,c1],_=>
 have f0:DataW.trod enc Tryz.prog W 0 sp true n 9 (([c0,c1].drop 0).take (Tryz.prog.cellsOf 9))=xs[0]?:=X 0 _ rfl;have f1:DataW.trod enc Tryz.prog W 0 sp true n 9 (([c0,c1].drop 1).take (Tryz.prog.cellsOf 9))=xs[1]?:=X 1 _ rfl;rw[Tryz.e6]at f0 f1
 match xs,z with
 | [x0,x1],_=>
 obtain⟨s0,e0,rfl,-⟩:=DataW.trod_string underlying9 f0;obtain⟨s1,e1,rfl,-⟩:=DataW.trod_string underlying9 f1;obtain rfl:c0=.string s0:=(Pq (show [c0]=[.string s0] from e0)).1;obtain rfl:c1=.string s1:=(Pq (show [c1]=[.string s1] from e1)).1;refine⟨(s0,s1),rfl,?_⟩;rw[O];simp only[F8,List.map_nil,Rows.uptoBulk,Rows.uptoBulkAll];have e2:s0.data.toList.length=s0.size:=rfl;have e3:s1.data.toList.length=s1.size:=rfl;omega
def Ui{E:Nat->DataW H}{f:Nat->ByteArray×ByteArray}:∀l:List Nat,(∀i∈l,Rows.uptoBulk (E i)=3+((f i).1.size+(f i).2.size))->Rows.uptoBulkAll (l.map E)=3*l.length+((l.map f).map λf=>f.1.size+f.2.size).sum
 | [],_=>rfl
 | x::r,h=>by
  have h1:=h x (Bp ..);have h2:=Ui r λy z=>h y (Bn _ z);simp only[F8,Rows.uptoBulkAll,BM,K6];omega
def A0Q{v:Value}{d:DataW H}{ps:List MemPlace}(hv:∃a len cap,v=.slice a len cap)(h:DataW.Trod enc Tryz.prog W 0 (λ_=>true) true 22 v d ps)(hd:Rows.uptoBulk d<=1048576):
 ∃g o cap,∃fs:List (ByteArray×ByteArray),(∀i (h:i<fs.length),W.cell? ⟨g,o+i*2,none⟩=some (.string (fs[i]'h).1)/\W.cell? ⟨g,o+i*2+1,none⟩=some (.string (fs[i]'h).2))/\3*fs.length+FD fs fs.length<=1048576/\(fs.length≠0->g<W.heap.size)/\(v=.slice (some ⟨g,o,none⟩) fs.length cap\/(fs.length=0/\∃x,v=.slice x 0 cap)):=by
 obtain⟨ad,O,cp,rfl⟩:=hv;obtain⟨aA,h⟩:=h;have nil:∀x,∃g o cap,∃fs:List (ByteArray×ByteArray),(∀i (h:i<fs.length),W.cell? ⟨g,o+i*2,none⟩=some (.string (fs[i]'h).1)/\W.cell? ⟨g,o+i*2+1,none⟩=some (.string (fs[i]'h).2))/\3*fs.length+FD fs fs.length<=1048576/\(fs.length≠0->g<W.heap.size)/\(Value.slice x 0 cp=.slice (some ⟨g,o,none⟩) fs.length cap\/(fs.length=0/\∃y,Value.slice x 0 cp=.slice y 0 cap)):=
  λx=>⟨0,0,cp,[],λi X=>absurd X (Pb _),by simp[FD],λh=>absurd rfl h,.inr ⟨rfl,x,rfl⟩⟩
 rcases Deep.open_slice underlying22 h with⟨I,-⟩|⟨a,len,cap,m,n,E,Pl,I,-,hlc,-,hm,hx,Y⟩
 ·simp[Value.cells]at I;obtain⟨rfl,rfl,rfl⟩:=I;exact nil none
 ·simp[Value.cells]at I;obtain⟨rfl,rfl,rfl⟩:=I;rw[Tryz.dP]at Y;by_cases h0:O=0
  ·subst h0;exact nil (some a)
  ·have key:∀i,∃f:ByteArray×ByteArray,i<O->W.cell? ((a.add (i*2)).add 0)=some (.string f.1)/\W.cell? ((a.add (i*2)).add 1)=some (.string f.2)/\Rows.uptoBulk (E i)=3+(f.1.size+f.2.size):=λi=>by
    by_cases X:i<O
    ·obtain⟨cs',hc,ht⟩:=Y i (by rw[hm];split<;>omega);obtain⟨-,-,z⟩:=World.cells?_some hc;obtain⟨f,rfl,hb⟩:=A0R ht;exact⟨f,λ_=>⟨z 0 (by decide),z 1 (by decide),hb⟩⟩
    ·exact⟨(ByteArray.empty,ByteArray.empty),λh=>absurd h X⟩
   obtain⟨f,hf⟩:=Classical.axiomOfChoice key;obtain⟨g,o,spot⟩:=a;have k0:=(hf 0 (by omega)).1;have aD:spot=none:=by
    cases spot with
    | none=>rfl
    | some s=>
     simp[Addr.add,World.cell?]at k0;split at k0<;>cases k0
   subst aD;have hg:g<W.heap.size:=by
    have:=H7 W _ k0;simpa[Addr.add] using this
   (have hl:((List.range O).map f).length=O:=by rw[H9,V6]);have aB:=Ui (E:=E) (f:=f) (List.range O) λi X=>(hf i (K8.1 X)).2.2
   have e:d=.slice ((List.range O).map E) ((List.range (m-O)).map λj=>E (O+j)):=E5 Prod.fst hx;rw[e]at hd;simp only[Rows.uptoBulk]at hd;rw[aB,V6]at hd;refine⟨g,o,cp,(List.range O).map f,λi X=>?_,?_,λ_=>hg,.inl (by rw[hl])⟩
   ·rw[hl]at X;obtain⟨s0,s1,-⟩:=hf i X;have ha:∀j,((⟨g,o,none⟩:Addr).add (i*2)).add j=⟨g,o+i*2+j,none⟩:=λj=>by
     unfold Addr.add;by_cases h1:i*2=0<;>by_cases h2:j=0<;>simp[h1,h2]
    rw[ha]at s0 s1;rw[List.getElem_map,List.getElem_range];exact⟨s0,s1⟩
   ·unfold FD;rw[Cj,hl];omega
def Wx(H:Type)(enc:TypeId×Value->H)(W:World)(X:Nat)(args:Array Value)(ds gs:List (DataW H))(before:List MemPlace)(z:∀(j:Nat) t v,Tryz.f3.params[j]?=some t->args[j]?=some v->Value.okWide Tryz.prog W .any X t v)(hW:DataW.Whole enc Tryz.prog Tryz.f3.params.toList Rows.strangeSpec.vars false W args.toList ds gs before)(hL:laidMetH Tryz.prog Rows.strangeUptoRow.laid W)(hk:Rows.uptoSmall H (ds++gs)=true):
 Calls Tryz.prog 3 args W λe aE=>∃v,e=.returned v/\Rows.strangeSpec.post enc Tryz.prog Tryz.f3 false true false false W args v aE:=by
 have I:=hW;obtain⟨p,q,aB,hV,rfl,hfz,hnd⟩:=hW;have hA:=aB;rw[Tryz.params3]at hA z;obtain⟨v0,vs0,d0,ds0,p0,q0,hargs,rfl,rfl,h0,r0⟩:=trodAll_cons hA;obtain⟨v1,vs1,d1,ds1,p1,q1,rfl,rfl,rfl,h1,r1⟩:=trodAll_cons r0;obtain⟨v2,vs2,d2,ds2,p2,q2,rfl,rfl,rfl,h2,r2⟩:=trodAll_cons r1;obtain⟨rfl,rfl,rfl⟩:=trodAll_nil r2;obtain rfl:args = #[v0,v1,v2]:=by cases args;simp_all
 obtain⟨rfl,rfl⟩:=trodVars_none hV;have hb:Rows.uptoBulk d0<=1048576:=by
  have h:=KE hk;simp only[Fz,Rows.uptoBulkAll]at h;omega
 obtain⟨n1,rfl,rfl,rfl,w1⟩:=open_int underlying3 (z 1 3 v1 rfl rfl) h1;obtain⟨n2,rfl,rfl,rfl,w2⟩:=open_int underlying3 (z 2 3 v2 rfl rfl) h2;have Y:=h0;obtain⟨g,o,cap,fs,hS,hn,hg,aD⟩:=A0Q (okWide_slice underlying22 (z 0 22 v0 rfl rfl)) h0 hb;simp only[Fz]at I;refine(Wp (QC 61681 (by decide)) W fs n1 n2 cap hS hn hg (ZF hL) v0 aD (PY w1) (PY w2) (QC 10 (by decide))).mono λe aE ⟨he,hc⟩=>?_;subst he;have O:Below W.heap.size W aE:=hc.dB (Aq _) λk _ h=>h.elim;have lt0:∀x∈p0,x.block<W.heap.size:=λx hx=>by simpa using I.lt x (by simp[hx])
 exact⟨_,rfl,[d0,.lit (.int .i64 n1),.lit (.int .i64 n2)],[],p0,[],p0,[],I,trodAll_cons_mk (shut_bool underlying4 _) trodAll_mk0,
  (by
   have hT:=trodAll_cons_mk (Below.trod Tryz.laidOut (by kernel_rfl) (KE (by kernel_rfl)) Y O lt0) (trodAll_cons_mk (shut_int underlying3 w1) (trodAll_mk1 (shut_int underlying3 w2)));simp only[Fz]at hT
   exact hT),rfl,O.frame _,λh=>by cases h⟩
end
abbrev Oa:Array Value:=#[.slice none 0 0,A0 0,A0 0]
def Wm(os:Os)(W:World)(h:HT os W){H:Type}(enc:TypeId×Value->H):∃places,DataW.whole enc Tryz.prog (W.forCall (λ_ _=>0) ⟨#[],Oa,[]⟩).memory Tryz.f3.params.toList Rows.strangeSpec.vars false Oa.toList 8=some ([.nil,.lit (.int .i64 0),.lit (.int .i64 0)],[],places):=by
 unfold HT at h;subst h;exact⟨[],by kernel_rfl⟩
def Wo(os:Os)(started:os.Started)(H:Type)(enc:TypeId×Value->H)(F:Stop.Interp):
 ReturnsInHanded {} Tryz.checked os 3 .any ((Rows.OpenSpec.upto Rows.strangeSpec).preRow enc Tryz.prog Tryz.f3 Rows.strangeUptoRow.domain false Rows.strangeUptoRow.laid) (((Rows.OpenSpec.upto Rows.strangeSpec).at F).post enc Tryz.prog Tryz.f3 false true false false):=by
 obtain⟨I,h⟩:∃I,HT os I:=⟨_,rfl⟩;obtain⟨places,hx⟩:=Wm os I h enc;have hm:=ZC os I h;refine returnsInHanded_of_row (C:=Tryz.checked) (s:=Rows.OpenSpec.upto Rows.strangeSpec) Tryz.own started (by kernel_rfl) func3
  (witness_row_at (enc:=enc) (C:=Tryz.checked) false I Oa (by unfold HT at h;subst h;rfl) (by unfold HT at h;subst h;kernel_rfl) (by unfold HT at h;subst h;kernel_rfl) (by unfold HT at h;subst h;kernel_rfl)
   (OpenSpec.preRow_of_cond 8 hx (by kernel_rfl) (λk Y=>by cases Y;kernel_rfl) (by kernel_rfl) (hm _))) ?_
 intro W O args ds gs before X hW _ z _ hL _ _;exact Wx H enc W O args ds gs before X hW hL (z _ rfl)
def Ww:(Rows.strangeUptoRow.inPlace==Tryz.pinned.checked.prog.inPlace 3)=true:=by kernel_rfl
def Wv:(Rows.strangeUptoRow.unfollowed==Tryz.pinned.checked.prog.unfollowed 3)=true:=by kernel_rfl
def Wu:(Rows.strangeUptoRow.recurses==Tryz.pinned.checked.prog.recurses 3)=true:=by kernel_rfl
def Wt:(Rows.strangeUptoRow.named==Tryz.pinned.checked.prog.varsNamed 3)=true:=by kernel_rfl
def Ws:(Rows.strangeUptoRow.wf (OpenSpec.ofChange (Rows.OpenSpec.upto Rows.strangeSpec).bare)&&laidOutB Tryz.pinned.checked.prog&&mapsRowed Tryz.pinned.checked.prog)=true:=by kernel_rfl
def Wr:(Rows.strangeUptoRow.lifted==Tryz.pinned.checked.prog.liftsFinal)=true:=by kernel_rfl
def Wq:joinedFacts Tryz.pinned.checked.prog 3 Tryz.f3 (Rows.OpenSpec.upto Rows.strangeSpec).bare Rows.strangeUptoRow=true:=by
 unfold joinedFacts;simp only[Ws,Ww,Wv,Wu,Wt,Wr,N2]
 kernel_rfl
def Wl:Rows.StrangeUptoSaid:=
 OpenClaim.holds_of_cond 3 Tryz.f3 rfl rfl rfl rfl rfl rfl rfl ⟨rfl,rfl,rfl,rfl,rfl⟩ rfl rfl rfl rfl rfl (by kernel_rfl) func3 Wq
  (KE (by kernel_rfl)) (by unfold Func.isWrapper;first|(rw[Ah (by decide +kernel)];kernel_rfl)|(rw[Ae (by decide +kernel)];exact⟨rfl,rfl⟩))
  (λos started H enc _ F=>by rw[OpenClaim.pre_eq_preRow];exact Wo os started H enc F)
def Wn(f:FuncId)(fn:Func)(O:Tryz.pinned.checked.prog.funcNamed "tides/tideskeep.Strange" = some f)(h:Tryz.pinned.checked.prog.funcs[f]?=some fn):
 true=Tryz.pinned.checked.prog.looks []/\∀(j:Nat) t,fn.params[j]?=some t->Tryz.pinned.checked.prog.wantsStandIn t=false:=by
 obtain rfl:f=3:=MJ ((show Tryz.prog.funcNamed "tides/tideskeep.Strange" = some 3 by kernel_rfl).symm.trans O) |>.symm;obtain rfl:fn=Tryz.f3:=(MJ (func3.symm.trans h)).symm;refine⟨by kernel_rfl,λj t I=>?_⟩;rw[Tryz.params3]at I;have z:=Array.mem_of_getElem? I;simp at z;rcases z with rfl|rfl
 ·exact(show Tryz.prog.wantsStandIn 22=false by kernel_rfl)
 ·exact(show Tryz.prog.wantsStandIn 3=false by kernel_rfl)
theorem strange_holds:Rows.StrangeUptoCardSaid:=
 Claim7.holds_tied_plain_at .later [] _ _ _ _ Wl (λ_ h=>by cases h) (by kernel_rfl) (λ_ h=>by cases h) strangeUpto_row_tie rfl ⟨rfl,rfl⟩ (by kernel_rfl) rfl Wn (by kernel_rfl)
#print axioms strange_holds
end
end Go.Proofs.YtodcnkbblippnabGreatDoor
