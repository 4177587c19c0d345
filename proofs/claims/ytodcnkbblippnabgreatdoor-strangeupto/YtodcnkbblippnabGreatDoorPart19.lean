/- Part 19 of a proof: walks of the program. -/
import Derived.Test.YtodcnkbblippnabGreatDoorPart17
namespace Go.Proofs.YtodcnkbblippnabGreatDoor
set_option maxRecDepth 100000
set_option maxHeartbeats 32000000
set_option linter.defProp false
open Go.Proofs.Tryz
section
open Go.RowKit
attribute [local go_sem ↓] Go.wp_at_zero Go.wp_at_succ
section
variable{w:World}{b B:Nat}{D:DS}{F:Nat->FC}{Ft:Nat->Prop}{n:Int}
def Gs(D:DS)(F:Nat->FC)(nm:List UInt8)(ahead:Int):List Pu×Int:=
 if (DV D F ⟨nm.toArray⟩).2≠0 then ([],(DV D F ⟨nm.toArray⟩).2) else Ew (AB nm) ahead (DV D F ⟨nm.toArray⟩).1
def Y8(w:World)(ahead:Int)(h:B5 w b D F Ft)(aL:∀k,Ft k->k<w.heap.size)(hn:Cv n)(hL:Lets B w)(aK:(DV D F ⟨(BJ 1 n).toArray⟩).1.length<=70368744177664):
 Aj 100 #[A7 b,A0 n,A0 ahead] w λe w'=>∃v,e=.returned (.tuple #[v,A0 (Gs D F (BJ 1 n) ahead).2])/\AZ w' v (Gs D F (BJ 1 n) ahead).1/\(∀g,v.ownBlock=some g->w.heap.size<=g)/\A5 Ab w w':=by
 have cF:=A4 (T3 w b hn hL);generalize hnm:BJ 1 n=nm at cF aK ⊢;have aW:Hid (AB nm<4294967296):=Jo nm;have H:=A4 h;have b4:=A4 aL;obtain⟨R,hR⟩:∃R,Gs D F nm ahead=R:=⟨_,rfl⟩;rw[hR];unfold Gs at hR;obtain⟨al,aU⟩:∃al,(DV D F ⟨nm.toArray⟩).1=al:=⟨_,rfl⟩;obtain⟨ae,bR⟩:∃ae,(DV D F ⟨nm.toArray⟩).2=ae:=⟨_,rfl⟩
 have cO:Hid (∀w1 lb,A5 Ab w w1->Be w1 lb 196 (A7 b) ⟨nm.toArray⟩ (AB nm)->
  Aj 119 #[A7 lb] w1 (Au (.tuple #[.string ⟨al.toArray⟩,A0 ae]) λw'=>A5 Ab w1 w')):=λw1 lb k1 hf=>by
  have:=UD hf (H.o.az b4.o k1)
  rwa [aU,bR]at this
 rw[aU,bR]at hR;rw[aU]at aK;generalize hs:AB nm=s0 at cF aW hR cO;have cI:=A4 hR;have⟨i0,hi,hz0,hz1,hz2⟩:=Eb Ig
 go_enter func100,ntmps100
 go_wp2_with (go_at_call 145;refine cF.m ?_;rintro e w1⟨lb,rfl,bT,bE,cL⟩;have cC:=A4 (cO.o w1 lb bE bT);have b2:=A4 bT;have b5:=A4 bE;have bA:=A4 cL);refine cC.k ?_;rintro w2 bF;have cJ:=A4 (b2.o.ak bF (λh=>h));have aZ:Hid (A5 Ab w w2):=b5.o.tr bF;have aD:Hid (∀x:Int,R=([],x)->∀w3,A5 Ab w w3->∃v,(Ending.returned (.tuple #[.slice none 0 0,A0 x]):Ending)=.returned (.tuple #[v,A0 R.2])/\AZ w3 v R.1/\(∀g,v.ownBlock=some g->w.heap.size<=g)/\A5 Ab w w3):=λx hx w3 h3=>by
  subst hx;exact⟨_,rfl,CL _ _ _ _,λg hg=>by simp[Value.ownBlock]at hg,h3⟩
 by_cases he:ae=0
 case neg=>
  have W:R=([],ae):=by rw[<-cI.o,Ah he]
  go_wp2;go_ret2;exact aD.o _ W _ aZ.o
 case pos=>
 subst he;have I:(ByteArray.mk al.toArray).size=al.length:=by show al.toArray.size=_;simp
 by_cases a0:al.length<12
 case pos=>
  have W:R=([],0):=by rw[<-cI.o,Ae (by simp)];unfold Ew;rw[Ah a0]
  go_wp2;go_ret2;exact aD.o _ W _ aZ.o
 case neg=>
 obtain⟨hd,t4,r,rfl,aG,z⟩:=A0I (l:=al) (by omega);have cM:R=if Ca (AV s0 hd)=t4/\BK hd=ahead then (if (Dh (r.length+12) (AV s0 hd) r).2=true then ((Dh (r.length+12) (AV s0 hd) r).1,0) else ([],7)) else ([],7):=by
  rw[<-cI.o,Ae (by simp),Rr aG z]
 have aJ:=A4 cM;have bW:=A4 (Nd w2.drew lb 196 _ _ s0 hd t4 cJ.o aW.o z (by omega));have e1:(ByteArray.mk (hd++t4++r).toArray).extract 0 12=⟨(hd++t4).toArray⟩:=by
  rw[extract_mk,Dj,GW (by simp[aG,z]),Ez (by simp[aG,z])]
 obtain⟨tx,a7⟩:∃tx,ByteArray.mk (hd++t4++r).toArray=tx:=⟨_,rfl⟩;have bG:tx.extract 12 (r.length+12)=⟨r.toArray⟩:=by
  rw[<-a7,extract_mk]
  congr 2
  rw[Lm,Ke (by simp[aG,z]),F7,show 12-(hd++t4).length=0 by simp[aG,z],Dj,Ez (by omega)]
 have aS:(hd++t4++r).length=r.length+12:=by simp[aG,z];omega
 rw[a7]at e1 I ⊢;rw[aS]at I aK a0;have bP:(0:Int)<=(r.length:Int):=Gn _;generalize b9:r.length=rl at I aK a0 bG bP;have aV:=A4 b9;go_wp2;refine Ce (λ_=>True) 10
  (BD [0,1,2,3,4,5,6,7,8,9] [5]) trivial ?_
 iterate 5 refine Bq ?_
 refine By λK hK=>?_;go_simp;refine bW.k ?_;rintro w3⟨b6,cA⟩;refine hK _ _ trivial (λhS=>?_);have a5:=A4 b6;have aI:Hid (A5 Ab w w3):=aZ.o.ad.AJ cA λk hk aL=>by cases hk;have:=bA.o;omega
 iterate 4 refine Bq ?_
 refine Cc ?_;by_cases aB:Ca (AV s0 hd)=t4
 case neg=>
  have W:R=([],7):=by rw[aJ.o,Ae (λh=>aB h.1)]
  have aR:decide (Ca (AV s0 hd)=t4)=false:=Dw aB;go_wp2;go_ret2;exact aD.o _ W _ aI.o
 case pos=>
 have aR:decide (Ca (AV s0 hd)=t4)=true:=CJ aB;have aX:=A4 (Md w3 hd (by omega));have cG:Hid (-9223372036854775808<=BK hd/\BK hd<=9223372036854775807):=by unfold Hid BK wrap64;omega
 generalize hih2:BK hd=ih at aX aJ cG;obtain⟨s1,bM⟩:∃s1,AV s0 hd=s1:=⟨_,rfl⟩;have bD:Hid (s1<4294967296):=by rw[<-bM];exact Jk _ _ aW.o
 rw[bM]at aJ a5 aR aB ⊢;have bZ:=A4 aB;rw[aR];by_cases aF:ih=ahead
 case neg=>
  have W:R=([],7):=by rw[aJ.o,Ae (λh=>aF h.2)]
  have bJ:(ih !=ahead)=true:=by simpa using aF
  go_wp2_with (go_at_call 121;refine aX.k ?_;rintro w4 rfl);go_ret2;exact aD.o _ W _ aI.o
 case pos=>
 have aY:Hid (R=if (Dh (rl+12) s1 r).2=true then ((Dh (rl+12) s1 r).1,0) else ([],7)):=by
  have:=aJ.o;rw[Ah ⟨bZ.o,aF⟩]at this
  rwa [aV.o]at this
 generalize hP:Dh (rl+12) s1 r=P at aY;have cU:=A4 hP;have bJ:(ih !=ahead)=false:=by simpa using aF
 go_wp2_with (go_at_call 121;refine aX.k ?_;rintro w4 rfl);go_loopw [9,13] (λtv v wr=>∃(l:List UInt8) (k:Nat) (Y:List Pu),tv=.string ⟨l.toArray⟩/\Y.length*21+l.length<=rl/\Hid (∃s,s<4294967296/\Be wr lb 196 (A7 b) ⟨nm.toArray⟩ s/\AZ wr v Y/\(∀g,v.ownBlock=some g->w3.heap.size<=g)/\(A5 Ab w wr/\w3.heap.size<=wr.heap.size)/\l.length<=k/\P=(Y++(Dh k s l).1,(Dh k s l).2))) (λtv _ _=>match tv with | .string x=>x.size|_=>0)
 ·exact⟨r,rl+12,[],rfl,by simp[aV.o],s1,bD.o,a5.o,CL _ _ _ _,λg hg=>by simp[Value.ownBlock]at hg,⟨aI.o,Aq _⟩,by have:=aV.o;omega,by rw[cU.o];simp⟩
 ·obtain⟨l,k,Y,rfl,bI,hI⟩:=hrel;have I:(ByteArray.mk l.toArray).size=l.length:=by show l.toArray.size=_;simp
  by_cases a2:l.length<21
  case pos=>
   obtain⟨s,-,-,i3,i4,⟨i5,-⟩,-,i7⟩:=hI.o;rw[Rl a2]at i7;simp only[Fz]at i7;have bY:R=(Y,0):=by
    have:=aY.o;rw[i7]at this;simpa using this
   subst bY;go_wp2;go_ret2;exact⟨_,rfl,i3,λg hg=>AH aI.o.Am (i4 g hg),i5⟩
  case neg=>
   obtain⟨c,d,t,q,rfl,X,z⟩:=Zh (l:=l) (by omega);have⟨s,i1,i2,i3,i4,⟨i5,i5b⟩,i6,i7⟩:=hI.o;obtain⟨k,rfl⟩:∃k',k=k'+1:=⟨k-1,by simp at i6;omega⟩;obtain⟨ap,cp,rfl,hcap1,a6,-⟩:=Bb i3;unfold maxLen at a6;have bW:=A4 (Nd wr.drew lb 196 _ _ s (c::d) t i2 i1 z (by simp;omega));have e1:(ByteArray.mk (c::d++t++q).toArray).extract 0 21=⟨(c::d++t).toArray⟩:=by
    rw[extract_mk,Dj,GW (by simp[X,z]),Ez (by simp[X,z])]
   (have aS:(c::d++t++q).length=q.length+21:=by simp[X,z];omega);obtain⟨ty,a9⟩:∃ty,ByteArray.mk (c::d++t++q).toArray=ty:=⟨_,rfl⟩;have e2:ty.extract 21 (q.length+21)=⟨q.toArray⟩:=by
    rw[<-a9,extract_mk]
    congr 2
    rw[Lm,Ke (by simp[X,z]),F7,show 21-(c::d++t).length=0 by simp[X,z],Dj,Ez (by omega)]
   rw[a9]at e1 I ⊢;rw[aS]at I bI a2 i6;have aN:=λh1 h2=>@Rq k s c d t q X z h1 h2;have bL:=λh=>@XY k s c d t q X z h;generalize hRP:Dh (k+1) s (c::d++t++q)=RP at i7 aN bL;have cB:=A4 aN;have bC:=A4 bL;have bB:=A4 i7;have H2:=A4 i2;have cP:=A4 i3;have bV:=A4 i4;have cQ:=A4 i5;have b0:=A4 i5b;have cN:=A4 i6;have cT:=A4 (λw5=>RC w5 c d (by omega));obtain⟨s',bH⟩:∃s',AV s (c::d)=s':=⟨_,rfl⟩;(have bU:Hid (s'<4294967296):=by rw[<-bH];exact Jk _ _ i1);rw[bH]at bW cB bC;generalize cE:q.length=ql at I bI a2 cN e2;have aQ:=A4 cE;have hq0:=Cd ql;go_wp2;refine Ce (λ_=>True) 10
    (BD [0,1,2,3,4,5,6,7,8,9] [5]) trivial ?_
   iterate 5 refine Bq ?_
   refine By λK hK=>?_;go_simp;refine bW.k ?_;rintro w5⟨b7,a4⟩;refine hK _ _ trivial (λhS=>?_);have cD:=A4 b7;have bK:Hid (lb<w3.heap.size):=a5.o.lt;(have a1:Hid (A5 Ab w w5):=cQ.o.ad.AJ a4 λx hx aL=>by cases hx;have:=bA.o;omega);have bQ:Hid (AZ w5 (.slice ap Y.length cp) Y):=AA cP.o λg hg=>a4.Ao g (AG cP.o hg) (λe=>by cases e;have:=bV.o _ hg;have:=bK.o;omega);have b8:Hid (w3.heap.size<=w5.heap.size):=AH b0.o a4.Am
   iterate 4 refine Bq ?_
   refine Cc ?_;have aH:=A4 (cT.o w5);have aP:Hid (¬(Ca s'=t/\c.toNat<8)->R=([],7)):=λh=>by
    have h1:=bB.o;rw[bC.o h]at h1;have h2:=aY.o;rw[h1]at h2;simpa using h2
   obtain⟨x1,cH⟩:∃x1,BK d=x1:=⟨_,rfl⟩;obtain⟨x2,bX⟩:∃x2,BK (d.drop 8)=x2:=⟨_,rfl⟩;rw[cH,bX]at aH cB;have aM:Hid (∀O,A5 Ab w5 O->C5 (O.alloc (.cells #[A0 c.toNat,A0 x1,A0 x2] 90)) O.heap.size c.toNat x1 x2/\A5 Ab w5 (O.alloc (.cells #[A0 c.toNat,A0 x1,A0 x2] 90))):=λO aA=>
    ⟨BN O _,aA.aj _⟩
   by_cases aB:Ca s'=t
   case neg=>
    have W:=aP.o (λh=>aB h.1);rw[show decide (Ca s'=t)=false from Dw aB];go_wp2_with (go_at_call 129;refine aH.k ?_;rintro O aA;have⟨b1,k7⟩:=aM.o O aA;have q0:=b1.c0;have q1:=b1.c1;have q2:=b1.c2;have a3:=A4 k7);go_ret2;exact aD.o _ W _ (a1.o.tr a3.o)
   case pos=>
   rw[show decide (Ca s'=t)=true from CJ aB];by_cases aF:c.toNat<8
   case neg=>
    have W:=aP.o (λh=>aF h.2);rw[show decide (c.toNat<8)=false from Dw aF]at aH;go_wp2_with (go_at_call 129;refine aH.k ?_;rintro O aA;have⟨b1,k7⟩:=aM.o O aA;have q0:=b1.c0;have q1:=b1.c1;have q2:=b1.c2;have a3:=A4 k7);go_ret2;exact aD.o _ W _ (a1.o.tr a3.o)
   case pos=>
    have bN:Hid (∀O,A5 Ab w5 O->
     (((O.alloc (.cells #[A0 c.toNat,A0 x1,A0 x2] 90)).alloc (.cells #[A0 c.toNat,A0 x1,A0 x2] 90)).ownsRow 0 90 3 (.slice ap Y.length cp) Y.length (Ba Y))/\
     ∀w8 a8 aE,App ((O.alloc (.cells #[A0 c.toNat,A0 x1,A0 x2] 90)).alloc (.cells #[A0 c.toNat,A0 x1,A0 x2] 90)) w8 90 3 (.slice ap Y.length cp) (.slice a8 (Y.length+1) aE) (Y.length+1) (Ba Y++Ba [((c.toNat:Int),x1,x2)])->
      Be w8 lb 196 (A7 b) ⟨nm.toArray⟩ s'/\AZ w8 (.slice a8 (Y.length+1) aE) (Y++[((c.toNat:Int),x1,x2)])/\(∀g,(Value.slice a8 (Y.length+1) aE).ownBlock=some g->w3.heap.size<=g)/\A5 Ab w w8/\w3.heap.size<=w8.heap.size):=λO aA=>by
     have k9:A5 Ab w5 ((O.alloc (.cells #[A0 c.toNat,A0 x1,A0 x2] 90)).alloc (.cells #[A0 c.toNat,A0 x1,A0 x2] 90)):=(aM.o O aA).2.aj _;generalize ((O.alloc (.cells #[A0 c.toNat,A0 x1,A0 x2] 90)).alloc (.cells #[A0 c.toNat,A0 x1,A0 x2] 90))=w9 at k9 ⊢;refine⟨AA bQ.o λg hg=>k9.Ao g (AG bQ.o hg) (λh=>h),λw8 a8 aE hA=>?_⟩;have aT:=hA.An (S:=λk=>(Value.slice ap Y.length cp).ownBlock=some k) λ_ h=>h;have bS:w3.heap.size<=w9.heap.size:=AH b8.o k9.Am;refine⟨(cD.o.ak k9 (λh=>h)).ak aT (λhg=>by have:=bV.o _ hg;have:=bK.o;omega),?_,?_,?_,?_⟩
     ·have:=hA.AP;unfold AZ;rw[IJ];simpa using this
     ·intro g hg;rcases hA.Cu with h|h
      ·rw[h]at hg;exact bV.o g hg
      ·rw[h]at hg;cases hg;exact bS
     ·exact(a1.o.tr k9).AJ aT λx hx aL=>by have:=bV.o x hx;have:=aI.o.Am;omega
     ·exact AH bS aT.Am
    rw[show decide (c.toNat<8)=true from CJ aF]at aH
    go_wp2_with (first
     | (go_at_call 129;refine aH.k ?_;rintro O aA;have⟨b1,k7⟩:=aM.o O aA;have q0:=b1.c0;have q1:=b1.c1;have q2:=b1.c2;have b3:=A4 aA)
     | (at_builtin
        have aO:=A4 (bN.o O b3.o);have bO:=A4 (Src.ba (size:=3) (B:=O.heap.size+1) underlying72 (O.alloc (.cells #[A0 c.toNat,A0 x1,A0 x2] 90)) #[A0 c.toNat,A0 x1,A0 x2] 90 (by simp) 1 1 rfl (I6 [((c.toNat:Int),x1,x2)]));refine De rfl (.tmp 80) (.tmp 82) 72 72 rfl 90 i0 _ 3 24 underlying72 hi hz0 hz1 hz2 rfl (by decide) (.slice ap Y.length cp) Y.length (Ba Y) (by rfl) aO.o.1 _ 1 _ (by rfl) bO.o (by omega) ?_;intro a8 aE w8 hA;have cS:=A4 (aO.o.2 w8 a8 aE hA)
        clear hA))
    go_roundw
    ·have⟨r1,r2,r3,r4,r5⟩:=cS.o;refine⟨q,k,Y++[((c.toNat:Int),x1,x2)],rfl,by have:=aQ.o;simp;omega,s',bU.o,r1,r2,r3,⟨r4,r5⟩,by have:=cN.o;have:=aQ.o;omega,?_⟩;rw[bB.o,cB.o aB aF];simp
    ·(have e:(ByteArray.mk q.toArray).size=q.length:=by show q.toArray.size=_;simp);have:=aQ.o;simp only[e,I];omega
end
end
section
open Go.RowKit
structure PD where
 D:DS
 F:Nat->FC
def Il:List AI->Nat
 | []=>0
 | e::r=>max (e.2+1) (Il r)
def OE{es:List AI}{f:Nat}(h:D9 f es):f<Il es:=by
 induction es with
 | nil=>obtain⟨e,z,_⟩:=h;cases z
 | cons x t ih=>
  obtain⟨e,z,rfl⟩:=h;unfold Il;rcases BF.1 z with rfl|z
  ·omega
  ·have:=ih ⟨e,z,rfl⟩;omega
def JS:List (List AI)->Nat
 | []=>0
 | c::r=>max (Il c) (JS r)
def A1Q{l:List (List AI)}{c:List AI}{f:Nat}(z:c∈l)(h:D9 f c):f<JS l:=by
 induction l with
 | nil=>cases z
 | cons x t ih=>
  unfold JS;rcases BF.1 z with rfl|z
  ·have:=OE h;omega
  ·have:=ih z;omega
def DS.AS(D:DS):Nat:=max (Il D.A6) (max (Il D.AK) (JS D.Ap))
def DS.b3(D:DS):¬D.As D.AS:=by
 intro h;have:D.AS<D.AS:=by
  rcases h with h|h|⟨c,z,h⟩
  ·have:=OE h;unfold DS.AS at *;omega
  ·have:=OE h;unfold DS.AS at *;omega
  ·have:=A1Q z h;unfold DS.AS at *;omega
 omega
abbrev Bs:=List UInt8
def A9(l:Bs):ByteArray:=⟨l.toArray⟩
def FV{a b:Bs}:A9 a=A9 b↔a=b:=by
 constructor
 ·intro h;have:=E5 (λx=>x.data.toList) h;simpa[A9] using this
 ·rintro rfl;rfl
def Fm(b:ByteArray):A9 b.data.toList=b:=by simp[A9]
def PD.af(P:PD)(nm:ByteArray):Int×PD:=((Cy P.D nm P.D.AS).1,⟨(Cy P.D nm P.D.AS).2,upd P.F P.D.AS ([],0)⟩)
def PD.al(P:PD)(nm:ByteArray)(l:Bs):Int×PD:=((Bj P.D P.F nm (A9 l)).1,⟨(Bj P.D P.F nm (A9 l)).2.1,(Bj P.D P.F nm (A9 l)).2.2⟩)
def PD.aq(P:PD)(nm:ByteArray):Int×PD:=((Cx P.D P.F nm).1,⟨(Cx P.D P.F nm).2.1,(Cx P.D P.F nm).2.2⟩)
def PD.aN(P:PD):Int×PD:=((E4 P.D).1,⟨(E4 P.D).2,P.F⟩)
def PD.aG(P:PD)(nm:ByteArray):Int×PD:=((Dx P.D nm).1,⟨(Dx P.D nm).2,P.F⟩)
def PD.aO(P:PD)(old nm:ByteArray):Int×PD:=((CZ P.D old nm).1,⟨(CZ P.D old nm).2,P.F⟩)
structure Fit (P:PD) (a c m:Nat):Prop where
 A6:P.D.A6.length<=a
 AK:P.D.AK.length<=a
 Fu:∀l∈P.D.Ap,l.length<=a
 An:P.D.Ap.length<=c
 Bi:∀f,P.D.As f->(P.F f).1.length<=m
 B1 : -4611686018427387904<=P.D.n.B1/\P.D.n.B1<=9223372036854775807
 BA:0<=P.D.n.BA/\P.D.n.BA<=9223372036854775807
def Fit.ae{P:PD}{a c m a' H m':Nat}(h:Fit P a c m)(z:a<=a')(X:c<=H)(I:m<=m'):Fit P a' H m':=
 ⟨AH h.A6 z,AH h.AK z,λl W=>AH (h.Fu l W) z,AH h.An X,λf O=>AH (h.Bi f O) I,h.B1,h.BA⟩
def Qc{F:Nat->FC}{m:Nat}:∀(es:List AI),(∀f,D9 f es->(F f).1.length<=m)->B6 F es<=es.length*m
 | [],_=>by simp[B6]
 | e::r,h=>by
  have h1:=h e.2 ⟨e,Bp ..,rfl⟩;have h2:=Qc r λf z=>h f (by obtain⟨x,I,H⟩:=z;exact⟨x,Bn _ I,H⟩);simp only[B6,BM,Hq,UW];omega
def Fit.cg{P:PD}{a c m:Nat}(h:Fit P a c m):B6 P.F P.D.A6<=a*m:=
 AH (Qc _ λf z=>h.Bi f (.inl z)) (HM _ h.A6)
def J4(n:DN):(bg n).2.2.B1=n.B1/\(bg n).2.2.BA=n.BA:=by
 unfold bg;dsimp only
 split
 ·exact⟨rfl,rfl⟩
 ·split
  ·exact⟨rfl,rfl⟩
  ·split<;>exact⟨rfl,rfl⟩
def Fit.bD{P:PD}{a c m:Nat}(h:Fit P a c m):Fit ⟨{P.D with n:=(bg P.D.n).2.2},P.F⟩ a c m:=
 ⟨h.A6,h.AK,h.Fu,h.An,h.Bi,by have:=(J4 P.D.n).1;show _<=(Go.Proofs.YtodcnkbblippnabGreatDoor.bg P.D.n).2.2.B1/\(Go.Proofs.YtodcnkbblippnabGreatDoor.bg P.D.n).2.2.B1<=_;rw[this];exact h.B1,by have:=(J4 P.D.n).2;show _<=(Go.Proofs.YtodcnkbblippnabGreatDoor.bg P.D.n).2.2.BA/\(Go.Proofs.YtodcnkbblippnabGreatDoor.bg P.D.n).2.2.BA<=_;rw[this];exact h.BA⟩
def A0T{es:List AI}{nm:ByteArray}(h:¬B4 es nm<0):(B4 es nm).toNat<es.length:=by
 have:=TJ es nm;omega
def Fit.ai{P:PD}{a c m a':Nat}(h:Fit P a c m){es:List AI}(W:es.length<=a')(X:a<=a')(O:∀f,D9 f es->(P.F f).1.length<=m):Fit ⟨{P.D with A6:=es,Ap:=P.D.Ap++[es],n:=(Go.Proofs.YtodcnkbblippnabGreatDoor.bg P.D.n).2.2},P.F⟩ a' (c+1) m:=by
 have Y:=h.bD;refine⟨W,AH h.AK X,λl H=>?_,?_,λf z=>?_,Y.B1,Y.BA⟩
 ·rcases AU.1 H with H|H
  ·exact AH (h.Fu l H) X
  ·simp at H;subst H;exact W
 ·have:=h.An;simp;omega
 ·rcases z with z|z|⟨x,I,z⟩
  ·exact O f z
  ·exact h.Bi f (.inr (.inl z))
  ·rcases AU.1 I with I|I
   ·exact h.Bi f (.inr (.inr ⟨x,I,z⟩))
   ·simp at I;subst I;exact O f z
def Fit.af{P:PD}{a c m:Nat}(h:Fit P a c m)(nm:ByteArray):Fit (P.af nm).2 (a+1) (c+1) m:=by
 have H:Fit ⟨P.D,upd P.F P.D.AS ([],0)⟩ a c m:=⟨h.A6,h.AK,h.Fu,h.An,λf O=>by
  unfold upd;by_cases I:f=P.D.AS
  ·simp[I]
  ·simp only[I,C4];exact h.Bi f O,h.B1,h.BA⟩
 unfold PD.af Cy;split
 ·exact H.ae (by omega) (by omega) (Aq _)
 ·dsimp only
  split
  ·refine H.ai (a':=a+1) ?_ (by omega) ?_
   ·have:=h.A6;simp;omega
   ·rintro f⟨x,z,rfl⟩;rcases AU.1 z with z|z
    ·exact H.Bi _ (.inl ⟨x,z,rfl⟩)
    ·simp at z;subst z;simp[upd]
  ·exact H.bD.ae (by omega) (by omega) (Aq _)
def Fit.ca{P:PD}{a c m:Nat}(h:Fit P a c m)(f:Nat)(x:FC)(I:x.1.length<=m):Fit ⟨P.D,Go.Proofs.YtodcnkbblippnabGreatDoor.upd P.F f x⟩ a c m:=⟨h.A6,h.AK,h.Fu,h.An,λg H=>by
 unfold Go.Proofs.YtodcnkbblippnabGreatDoor.upd;by_cases z:g=f
 ·simp[z];exact I
 ·simp only[z,C4];exact h.Bi g H,h.B1,h.BA⟩
def Fit.dz{P:PD}{a c m:Nat}(h:Fit P a c m){f:Nat}(O:P.D.As f)(l:Bs)(I e:Int):Fit ⟨(BI P.D P.F f (A9 l) I e).2.1,(BI P.D P.F f (A9 l) I e).2.2⟩ a c (m+l.length):=by
 have z:=h.ae (Aq a) (Aq c) (V0 m l.length);have hl:=h.Bi f O;have hu:∀k:Nat,((P.F f).1++(A9 l).data.toList.take k).length<=m+l.length:=λk=>by
  simp only[AX,BU,A9];omega
 unfold BI;split
 ·by_cases H:e=0
  ·simp only[H,Cn];have:=z.ca f ((P.F f).1++(A9 l).data.toList.take (FZ P.D P.F).toNat,(P.F f).2) (hu _);exact⟨this.A6,this.AK,this.Fu,this.An,this.Bi,this.B1,this.BA⟩
  ·simp only[H,C4];exact z.ca f _ (hu _)
 ·exact z.ca f _ (hu _)
def Fit.al{P:PD}{a c m:Nat}(h:Fit P a c m)(nm:ByteArray)(l:Bs):Fit (P.al nm l).2 a c (m+l.length):=by
 unfold PD.al Bj;cases hx:lookup P.D.A6 nm with
 | none=>exact h.ae (Aq _) (Aq _) (by omega)
 | some f=>
  have z:=FK hx;dsimp only
  split
  ·exact h.bD.dz (P:=⟨{P.D with n:=(bg P.D.n).2.2},P.F⟩) z l _ _
  ·split
   ·exact h.bD.dz (P:=⟨{P.D with n:=(bg P.D.n).2.2},P.F⟩) z l _ _
   ·exact h.bD.ae (Aq _) (Aq _) (by omega)
def Fit.aq{P:PD}{a c m:Nat}(h:Fit P a c m)(nm:ByteArray):Fit (P.aq nm).2 a c m:=by
 unfold PD.aq Cx;cases hx:lookup P.D.A6 nm with
 | none=>exact h
 | some f=>
  have z:=FK hx;dsimp only
  split
  ·exact h.bD.ca (P:=⟨{P.D with n:=(bg P.D.n).2.2},P.F⟩) f _ (h.Bi f z)
  ·exact h.bD
def Fit.aN{P:PD}{a c m:Nat}(h:Fit P a c m):Fit P.aN.2 a c m:=by
 unfold PD.aN E4;dsimp only
 split
 ·have H:=h.bD;refine⟨h.A6,h.A6,λl I=>(by cases I),C8 _,λf z=>h.Bi f ?_,H.B1,H.BA⟩;rcases z with z|z|⟨x,O,_⟩
  ·exact .inl z
  ·exact .inl z
  ·cases O
 ·exact h.bD
def Fit.aG{P:PD}{a c m:Nat}(h:Fit P a c m)(nm:ByteArray):Fit (P.aG nm).2 a (c+1) m:=by
 unfold PD.aG Dx;split
 ·exact h.ae (Aq _) (by omega) (Aq _)
 ·rename_i z;have hl:=A0T z;dsimp only
  split
  ·refine h.ai (a':=a) ?_ (Aq _) ?_
   ·have:=h.A6;simp;omega
   ·rintro f⟨x,z,rfl⟩;rcases AU.1 z with z|z
    ·exact h.Bi _ (.inl ⟨x,Iv z,rfl⟩)
    ·exact h.Bi _ (.inl ⟨x,Lh z,rfl⟩)
  ·exact h.bD.ae (Aq _) (by omega) (Aq _)
def XI(es:List AI)(i:Nat)(nm:ByteArray)(k:Nat):(Dm es i nm k).length<=k:=by
 induction k with
 | zero=>simp[Dm]
 | succ k ih=>
  simp only[Dm,AX];cases es[k]? with
  | none=>simp;omega
  | some e=>
   dsimp only
   split
   ·simp;omega
   ·simp;omega
def Fit.aO{P:PD}{a c m:Nat}(h:Fit P a c m)(old nm:ByteArray):Fit (P.aO old nm).2 (a+1) (c+1) m:=by
 unfold PD.aO CZ;cases hx:lookup P.D.A6 old with
 | none=>exact h.ae (by omega) (by omega) (Aq _)
 | some f=>
  dsimp only
  split
  ·exact h.ae (by omega) (by omega) (Aq _)
  ·dsimp only
   split
   ·refine h.ai (a':=a+1) ?_ (by omega) ?_
    ·have h1:=h.A6;have h2:=XI P.D.A6 (B4 P.D.A6 old).toNat nm P.D.A6.length;simp;omega
    ·rintro g⟨x,z,rfl⟩;rcases AU.1 z with z | z
     ·exact h.Bi _ (.inl ⟨x,LK _ _ _ _ x z,rfl⟩)
     ·simp at z;subst z;exact h.Bi _ (FK hx)
   ·exact h.bD.ae (by omega) (by omega) (Aq _)
def AT(s:Nat)(l:Bs):Bs:=l++Ca (AV s l)
def PD.I(P:PD)(nm:ByteArray)(s:Nat)(l:Bs):Bool×Int×PD:=
 (H6 P.D P.F nm (AT s l),(P.al nm (AT s l)).1,(P.al nm (AT s l)).2)
def PD.aH(P:PD)(nm:Bs)(s:Nat)(l:Bs):Int×PD:=
 if (P.af (A9 nm)).1≠0 then P.af (A9 nm) else
 if ((P.af (A9 nm)).2.I (A9 nm) s l).2.1≠0 then ((P.af (A9 nm)).2.I (A9 nm) s l).2 else
 ((P.af (A9 nm)).2.I (A9 nm) s l).2.2.aq (A9 nm)
def PD.CK(P:PD)(nm:Bs):Bs×Int:=DV P.D P.F (A9 nm)
def Hc(s:Nat)(t:Bs):Option Bs:=
 if t.length<4 then none else if Ca (AV s (t.take (t.length-4)))=t.drop (t.length-4) then some (t.take (t.length-4)) else none
def PD.aT(P:PD)(nm:Bs):Bs×Int:=
 if (P.CK nm).2≠0 then ([],(P.CK nm).2) else match Hc (AB nm) (P.CK nm).1 with
 | some d=>(d,0)
 | none=>([],7)
def Fo:Nat->Bs->List Int
 | 0,_=>[]
 | k+1,l=>if l.length<8 then [] else BK l::Fo k (l.drop 8)
def Eo(l:Bs):List Int:=Fo l.length l
def Cs{α:Type}(cmp:α->α->Int):List α->Bool
 | []=>true
 | [_]=>true
 | x::y::r=>decide (cmp x y<0)&&Cs cmp (y::r)
def Ch(x y:Int):Int:=if x<y then -1 else if y<x then 1 else 0
structure Ix where
 AW:Int
 segs:List Int
def indexOf(d:Bs×Int):Option Ix:=
 if d.2=8 then some ⟨1,[]⟩ else
 if d.2≠0\/Eo d.1=[]\/d.1.length≠(Eo d.1).length*8 then none else
 if (Eo d.1).all isNum=false then none else
 if Cs Ch (Eo d.1).tail then some ⟨(Eo d.1).headD 0,(Eo d.1).tail⟩ else none
def PD.CV(P:PD):Option Ix:=indexOf (P.aT AF)
def Co(first:Int)(segs:List Int):Bs:=AR first++segs.flatMap AR
def PD.ai(P:PD)(first:Int)(segs:List Int):Int×PD:=
 if (P.aH Bl (AB AF) (Co first segs)).1≠0 then P.aH Bl (AB AF) (Co first segs) else
 (P.aH Bl (AB AF) (Co first segs)).2.aO (A9 Bl) (A9 AF)
def Cb(l:List Pu):Bs:=l.flatMap λp=>B9 p.1 p.2.1 p.2.2
def PD.aI(P:PD)(n:Int)(l:List Pu):Int×PD:=P.aH (Aw n) (AB (Aw n)) (Cb l)
def Cq(p q:Pu):Int:=if Ch p.1 q.1≠0 then Ch p.1 q.1 else Ch p.2.1 q.2.1
def Jt(l:Bs):Pu:=(((l.headD 0).toNat:Int),BK (l.drop 1),BK (l.drop 9))
def DL:Nat->Bs->Option (List Pu×Bs)
 | 0,l=>some ([],l)
 | k+1,l=>if l.length<17 then some ([],l) else
  if (l.headD 0).toNat<8 then (DL k (l.drop 17)).map λr=>(Jt l::r.1,r.2) else none
def Hz(d:Bs×Int):Option (List Pu):=
 if d.2≠0 then none else match DL d.1.length d.1 with
 | none=>none
 | some (l,r)=>if r=[]/\Cs Cq l=true then some l else none
def PD.BT(P:PD)(n:Int):Option (List Pu):=Hz (P.aT (Aw n))
def PD.segs(P:PD):List Int->Option (List (Int×List Pu))
 | []=>some []
 | n::r=>match P.BT n with
  | none=>none
  | some l=>(P.segs r).map λx=>(n,l):: x
structure Jn where
 Al:List Int
 A8:Int
 puts:Int
 AP:Option (Int×Nat)
def PD.aY(P:PD)(n:Int)(ahead:Int):List Pu×Int:=Gs P.D P.F (Af n) ahead
def PD.aU(P:PD):List Int->List Pu->List Pu×Int
 | [],acc=>(acc,0)
 | n::r,acc=>if (P.aY n acc.length).2≠0 then ([],(P.aY n acc.length).2) else P.aU r (acc++(P.aY n acc.length).1)
def PD.puts(P:PD)(Al:List Int):List Pu×Int:=P.aU Al []
def PD.Av(P:PD):List Bs:=(dList P.D.A6).map λb=>b.data.toList
def Bv(first:Int)(l:List Bs):List Int:=l.filterMap λnm=>if (Bc nm).1=1/\first<=(Bc nm).2 then some (Bc nm).2 else none
def PD.bP(P:PD)(first:Int):Jn:=⟨Bv first P.Av,(Bv first P.Av).getLastD (first-1),(P.puts (Bv first P.Av)).1.length,none⟩
def Jn.au(J:Jn)(P:PD):Int×Jn×PD:=
 if (P.af (A9 (Af (J.A8+1)))).1≠0 then ((P.af (A9 (Af (J.A8+1)))).1,J,(P.af (A9 (Af (J.A8+1)))).2) else
 let a:=(P.af (A9 (Af (J.A8+1)))).2.I (A9 (Af (J.A8+1))) (AB (Af (J.A8+1))) (AR J.puts)
 if a.2.1≠0 then (a.2.1,J,a.2.2) else
 (0,⟨J.Al++[J.A8+1],J.A8+1,J.puts,some (J.A8+1,AV (AB (Af (J.A8+1))) (AR J.puts))⟩,a.2.2)
def Jn.ax(J:Jn)(P:PD)(p:Pu):Bool×Int×Jn×PD:=match J.AP with
 | none=>(false,0,J,P)
 | some (n,s)=>
  let a:=P.I (A9 (Af n)) s (B9 p.1 p.2.1 p.2.2)
  (a.1,a.2.1,{J with AP:=some (n,AV s (B9 p.1 p.2.1 p.2.2))},a.2.2)
def Jn.I(J:Jn)(P:PD)(p:Pu):Bool×Int×Jn×PD:=
 if J.AP=none then
  (if (J.au P).1≠0 then (false,(J.au P).1,(J.au P).2.1,(J.au P).2.2) else (J.au P).2.1.ax (J.au P).2.2 p)
 else J.ax P p
structure Ar where
 ix:Ix
 j:Jn
 A8:Int
 AM:List Bs
def Ar.Av(A:Ar):List Bs:=AF::A.j.Al.map Af++A.ix.segs.map Aw
def Ar.a1(A:Ar)(P:PD):List Bs:=P.Av.filter λnm=>decide (nm∈A.Av)
def Ar.aV(A:Ar)(P:PD):List Bs:=P.Av.filter λnm=>!decide (nm∈A.Av)
def PD.av:List Bs->PD->Int×PD
 | [],P=>(0,P)
 | nm::r,P=>if (P.aq (A9 nm)).1≠0 then P.aq (A9 nm) else PD.av r (P.aq (A9 nm)).2
def PD.aL:List Bs->PD->Int×PD
 | [],P=>(0,P)
 | nm::r,P=>if (P.aG (A9 nm)).1≠0 then P.aG (A9 nm) else PD.aL r (P.aG (A9 nm)).2
def Ar.aa(A:Ar)(P:PD):Int×Ar×PD:=
 if (P.av A.AM).1≠0 then ((P.av A.AM).1,A,(P.av A.AM).2) else (0,{A with AM:=[]},(P.av A.AM).2)
def Ar.aw(A:Ar)(P:PD):Int×PD:=P.aL (A.aV P)
def Ar.I(A:Ar)(P:PD)(p:Pu):Bool×Int×Ar×PD:=
 if (A.aa P).1≠0 then (false,(A.aa P).1,(A.aa P).2.1,(A.aa P).2.2) else
 let r:=(A.aa P).2.1.j.I (A.aa P).2.2 p
 (r.1,r.2.1,{ (A.aa P).2.1 with j:=r.2.2.1},r.2.2.2)
def PD.ah:List (List Pu)->Int->List Int->PD->Int×Int×List Int×PD
 | [],last,kept,P=>(0,last,kept,P)
 | l::r,last,kept,P=>if (P.aI (last+1) l).1≠0 then ((P.aI (last+1) l).1,last+1,kept,(P.aI (last+1) l).2) else
  PD.ah r (last+1) (kept++[last+1]) (P.aI (last+1) l).2
def Ar.ai(A:Ar)(P:PD)(segs:List Int):Int×Ar×PD:=
 if A.ix.AW=A.j.A8+1/\A.ix.segs=segs then (0,A,P) else
 if (P.ai (A.j.A8+1) segs).1≠0 then ((P.ai (A.j.A8+1) segs).1,A,(P.ai (A.j.A8+1) segs).2) else
 (0,{A with ix:=⟨A.j.A8+1,segs⟩,j:=⟨[],A.j.A8,0,none⟩},(P.ai (A.j.A8+1) segs).2)
def Ar.a6(A:Ar)(P:PD):Int×Ar×PD:=
 if (A.aw P).1≠0 then ((A.aw P).1,A,(A.aw P).2) else ((A.aw P).2.aN.1,A,(A.aw P).2.aN.2)
def Ar.ay(A:Ar)(P:PD)(kept:List Int)(fresh:List (List Pu)):Int×Ar×PD:=
 let a:=A.aa P
 if a.1≠0 then a else
 let b:=a.2.1.aw a.2.2
 if b.1≠0 then (b.1,a.2.1,b.2) else
 let c:=PD.ah fresh a.2.1.A8 kept b.2
 if c.1≠0 then (c.1,{a.2.1 with A8:=c.2.1},c.2.2.2) else
 let d:=({a.2.1 with A8:=c.2.1}:Ar).ai c.2.2.2 c.2.2.1
 if d.1≠0 then d else d.2.1.a6 d.2.2
def BH(t len:Int):Int:=t/len
def AE(len:Int)(p q:Pu):Bool:=
 decide (BH p.2.1 len<BH q.2.1 len\/BH p.2.1 len=BH q.2.1 len/\(p.1<q.1\/p.1=q.1/\p.2.1<q.2.1))
def EZ{α:Type}(lt:α->α->Bool)(x:α):List α->List α
 | []=>[x]
 | y::r=>if lt x y then x::y::r else y::EZ lt x r
def E8{α:Type}(lt:α->α->Bool)(l:List α):List α:=l.foldl (λs x=>EZ lt x s) []
def EC(len:Int)(ws:List (List Pu))(first:Bool)(h p:Pu):List (List Pu):=
 let ws1:=if first\/BH p.2.1 len≠BH h.2.1 len then ws++[[]] else ws
 let last:=ws1.getLastD []
 if last≠[]/\Cq p (last.getLastD (0,0,0))=0 then ws1.dropLast++[last.dropLast++[p]] else ws1.dropLast++[last++[p]]
def Ej(len:Int):List Pu->Bool->Pu->List (List Pu)->List (List Pu)
 | [],_,_,ws=>ws
 | p::r,first,prev,ws=>Ej len r false p (EC len ws first prev p)
def Dd(len:Int)(l:List Pu):List (List Pu):=Ej len (E8 (AE len) l) true (0,0,0) []
def Ar.aQ(A:Ar)(P:PD)(Ay:Int):Int×Ar×PD:=
 if (P.puts A.j.Al).2≠0 then ((P.puts A.j.Al).2,A,P) else A.ay P A.ix.segs (Dd Ay (P.puts A.j.Al).1)
def C3(segs:List (Int×List Pu))(oldest:Int):List (List Pu)->List Int×List (List Pu)
 | []=>([],[])
 | l::r=>if l.any (λp=>decide (oldest<=p.2.1))=false then C3 segs oldest r else
  match segs.find? λs=>decide (s.2=l) with
  | none=>((C3 segs oldest r).1,l::(C3 segs oldest r).2)
  | some s=>(s.1::(C3 segs oldest r).1,(C3 segs oldest r).2)
def Ar.aX(A:Ar)(P:PD)(Ay oldest:Int):Int×Ar×PD:=match P.segs A.ix.segs with
 | none=>(7,A,P)
 | some segs=>if (P.puts A.j.Al).2≠0 then ((P.puts A.j.Al).2,A,P) else
  let k:=C3 segs oldest (Dd Ay (segs.flatMap (·.2)++(P.puts A.j.Al).1))
  A.ay P (k.1.mergeSort λx y=>decide (x<=y)) k.2
def Ar.aR(P:PD):Except Int (Ar×List Pu):=match P.CV with
 | none=>.error 7
 | some ix=>if P.Av.any (λnm=>decide ((Bc nm).1=0)) then .error 7 else
  match P.segs ix.segs with
  | none=>.error 7
  | some segs=>if (P.puts (Bv ix.AW P.Av)).2≠0 then .error (P.puts (Bv ix.AW P.Av)).2 else
   let A:Ar:=⟨ix,P.bP ix.AW,(P.Av.filterMap λnm=>if (Bc nm).1=2 then some (Bc nm).2 else none).getLastD 0,[]⟩
   .ok ({A with AM:=A.a1 P},segs.flatMap (·.2)++(P.puts (Bv ix.AW P.Av)).1)
def Ax(w:World)(Ft:Nat->Prop)(w':World)(R:World->(Nat->Prop)->Prop):Prop:=
 A5 Ft w w'/\∃h,R w' h/\(∀k,h k->k<w'.heap.size)/\∀k,h k->Ft k\/w.heap.size<=k
def Ax.AJ{w I X:World}{Ft:Nat->Prop}{R W:World->(Nat->Prop)->Prop}(h:Ax w Ft I R)(h2:∀z,R I z->(∀k,z k->k<I.heap.size)->(∀k,z k->Ft k\/w.heap.size<=k)->Ax I z X W):Ax w Ft X W:=by
 obtain⟨Y,z,hr,H,O⟩:=h;have⟨hc2,Ft2,hr2,hlt2,hs2⟩:=h2 z hr H O;refine⟨Y.AJ hc2 λx hx H=>(O x hx).resolve_right (by omega),Ft2,hr2,hlt2,λk hk=>?_⟩;rcases hs2 k hk with h|h
 ·exact O k h
 ·exact .inr (AH Y.Am h)
def Ax.a7{w H w':World}{Ft:Nat->Prop}{R:World->(Nat->Prop)->Prop}(h:Ax H Ft w' R)(I:A5 Ab w H):Ax w Ft w' R:=by
 obtain⟨Y,z,W,h3,X⟩:=h;exact⟨(I.aZ).tr Y,z,W,h3,λk O=>(X k O).imp id λh=>AH I.Am h⟩
def Ax.fe{w w':World}{Ft:Nat->Prop}{R H:World->(Nat->Prop)->Prop}(h:Ax w Ft w' R)(Y:∀z,(∀k,z k->k<w'.heap.size)->R w' z->H w' z):Ax w Ft w' H:=by
 obtain⟨X,z,O,I,W⟩:=h;exact⟨X,z,Y z I O,I,W⟩
def Ax.bc{w w':World}{Ft z:Nat->Prop}{R:World->(Nat->Prop)->Prop}(h:Ax w Ft w' R)(I:∀k,Ft k->z k):Ax w z w' R:=by
 obtain⟨Y,H,W,h3,X⟩:=h;exact⟨Y.ae λx _ hx=>I x hx,H,W,h3,λk O=>(X k O).imp (I k) id⟩
def Bh(w:World)(b:Nat)(P:PD)(Ft:Nat->Prop):Prop:=B5 w b P.D P.F Ft
def Bh.aM{w w':World}{b:Nat}{P:PD}{Ft:Nat->Prop}(h:Bh w b P Ft)(z:G3 Ft w w'):Bh w' b P Ft:=B5.aM h z
def Dy(w:World)(size:Nat)(v:Value)(n:Nat)(xs:List Value):Prop:=
 xs.length=n*size/\∃a cap,v=.slice a n cap/\n<=cap/\cap<=maxLen/\(∀g,v.ownBlock=some g->g<w.heap.size)/\
  ∀j u,xs[j]?=some u->∃g o,a=some ⟨g,o,none⟩/\w.cell? ⟨g,o+j,none⟩=some u
def Dy.aM{w w':World}{size n:Nat}{v:Value}{xs:List Value}(h:Dy w size v n xs)(H:∀g,v.ownBlock=some g->w'.heap[g]?=w.heap[g]?):Dy w' size v n xs:=by
 obtain⟨X,a,cap,rfl,O,h3,W,Y⟩:=h;refine⟨X,a,cap,rfl,O,h3,λg z=>?_,λj u hj=>?_⟩
 ·have:=H g z;have hl:=W g z;rcases F6 g w'.heap.size with h|h
  ·exact h
  ·rw[N4 h]at this;rw[A3g hl]at this;cases this
 ·obtain⟨g,o,rfl,I⟩:=Y j u hj;refine⟨g,o,rfl,?_⟩;have:=H g rfl;unfold World.cell? at I ⊢;rw[this];exact I
def Dy.An{S:Nat->Prop}{w w':World}{size n:Nat}{v:Value}{xs:List Value}(h:Dy w size v n xs)(O:A5 S w w')(I:∀g,v.ownBlock=some g->¬S g):Dy w' size v n xs:=by
 refine h.aM λg z=>O.Ao g ?_ (I g z);obtain⟨_,a,cap,rfl,_,_,H,_⟩:=h;exact H g z
def Dy.lt{w:World}{size n:Nat}{v:Value}{xs:List Value}(h:Dy w size v n xs){g:Nat}(H:v.ownBlock=some g):g<w.heap.size:=by
 obtain⟨_,a,cap,rfl,_,_,z,_⟩:=h;exact z g H
def Dy.da{w:World}{z e size n:Nat}{v:Value}{xs:List Value}(h:w.ownsRow z e size v n xs):Dy w size v n xs:=by
 obtain⟨a,cap,rfl,h1,O,h3,Y,h5⟩:=Bb h;refine⟨h.1,a,cap,rfl,h1,O,λg X=>AG h X,λj u H=>?_⟩;cases ha:a with
 | none=>
  subst ha;have W:=(Y rfl).1;have I:=h.1;rw[W]at I;have:xs=[]:=by simpa using I
  rw[this]at H;simp at H
 | some x=>
  subst ha;obtain⟨g,rfl⟩:=h5 x rfl;exact⟨g,0,rfl,by simpa using BB h rfl H⟩
def Dy.BV{w:World}{size n:Nat}{v:Value}{xs:List Value}(h:Dy w size v n xs):∃a cap,v=.slice a n cap/\n<=cap/\cap<=maxLen:=by
 obtain⟨_,a,cap,H,z,I,_⟩:=h;exact⟨a,cap,H,z,I⟩
def Dy.b4{w:World}{size:Nat}:Dy w size (.slice none 0 0) 0 []:=
 ⟨by simp,none,0,rfl,Aq _,by decide,λg z=>by simp[Value.ownBlock]at z,λj u h=>by simp at h⟩
def DR(l:List Int):List Value:=l.map λn=>A0 n
def Tl(l:List Int):(DR l).length=l.length:=by simp[DR]
def KK(a b:List Int):DR (a++b)=DR a++DR b:=by simp[DR]
def Og(l:List Int)(k:Nat)(h:k<l.length):(DR l)[k]?=some (A0 (l[k]'h)):=by simp[DR,h]
def JJ(l:List Int):∀u∈DR l,u.oneCell'=true:=by
 intro u hu;simp[DR]at hu;obtain⟨x,_,rfl⟩:=hu;rfl
def Dc(w:World)(v:Value)(l:List Int):Prop:=Dy w 1 v l.length (DR l)
def DF(w:World)(v:Value)(l:List Int):Prop:=w.ownsRow 0 3 1 v l.length (DR l)
def DF.rd{w:World}{v:Value}{l:List Int}(h:DF w v l):Dc w v l:=Dy.da h
def Dl(l:List Bs):List Value:=l.map λx=>.string ⟨x.toArray⟩
def Mw(a b:List Bs):Dl (a++b)=Dl a++Dl b:=by simp[Dl]
def A11(l:List Bs)(k:Nat)(h:k<l.length):(Dl l)[k]?=some (.string ⟨(l[k]'h).toArray⟩):=by simp[Dl,h]
def Mv(l:List Bs):∀u∈Dl l,u.oneCell'=true:=by
 intro u hu;simp[Dl]at hu;obtain⟨x,_,rfl⟩:=hu;rfl
def WH(l:List ByteArray):FE l=Dl (l.map λb=>b.data.toList):=by simp[FE,Dl]
def GB(w:World)(v:Value)(l:List Bs):Prop:=Dy w 1 v l.length (Dl l)
def Dq(w:World)(v:Value)(l:List Bs):Prop:=w.ownsRow 0 9 1 v l.length (Dl l)
def Dq.rd{w:World}{v:Value}{l:List Bs}(h:Dq w v l):GB w v l:=Dy.da h
def Hp(w:World)(v:Value)(l:List Pu):Prop:=Dy w 3 v l.length (Ba l)
def AZ.rd{w:World}{v:Value}{l:List Pu}(h:AZ w v l):Hp w v l:=Dy.da h
def Dc.at{w:World}{a:Option Addr}{n cap:Nat}{l:List Int}(h:Dc w (.slice a n cap) l)(k:Nat)(z:k<l.length):∃g o,a=some (Ad g o)/\Aa w g (o+k) (A0 (l[k]'z)):=by
 obtain⟨_,a',cap',e,_,_,_,H⟩:=h;cases e;exact H k _ (Og l k z)
def Hp.at{w:World}{a:Option Addr}{n cap:Nat}{l:List Pu}(h:Hp w (.slice a n cap) l)(k:Nat)(z:k<l.length):∃g o,a=some (Ad g o)/\g<w.heap.size/\Aa w g (o+k*3) (A0 (l[k]'z).1)/\Aa w g (o+k*3+1) (A0 (l[k]'z).2.1)/\Aa w g (o+k*3+2) (A0 (l[k]'z).2.2):=by
 obtain⟨_,a',cap',e,_,_,I,H⟩:=h;cases e;have⟨q1,q2,q3⟩:=He l k z;obtain⟨g,o,rfl,c1⟩:=H _ _ q1;have⟨g',o',e,c2⟩:=H _ _ q2;cases e;have⟨g',o',e,c3⟩:=H _ _ q3;cases e;exact⟨g,o,rfl,I g rfl,c1,c2,c3⟩
def GB.at{w:World}{a:Option Addr}{n cap:Nat}{l:List Bs}(h:GB w (.slice a n cap) l)(k:Nat)(z:k<l.length):∃g o,a=some (Ad g o)/\Aa w g (o+k) (.string ⟨(l[k]'z).toArray⟩):=by
 obtain⟨_,a',cap',e,_,_,_,H⟩:=h;cases e;exact H k _ (A11 l k z)
end
end Go.Proofs.YtodcnkbblippnabGreatDoor
