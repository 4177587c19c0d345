/- Part 17 of a proof: walks of the program. -/
import Derived.Test.YtodcnkbblippnaaGreatDoorPart15
namespace Go.Proofs.YtodcnkbblippnaaGreatDoor
set_option maxRecDepth 100000
set_option maxHeartbeats 32000000
set_option linter.defProp false
open Go.Proofs.Tryz
section
open Go.RowKit
attribute [local go_sem ↓] Go.wp_at_zero Go.wp_at_succ
section
variable{w:ga}{b B:Nat}{D:DS}{F:Nat->FC}{Ft:Nat->Prop}{n:Int}
def Gi(D:DS)(F:Nat->FC)(nm:gh UInt8)(d:Int):gh Pu×Int:=
 if (DQ D F ⟨nm.toArray⟩).2≠0 then ([],(DQ D F ⟨nm.toArray⟩).2) else Ee (AB nm) d (DQ D F ⟨nm.toArray⟩).1
def ZW(w:ga)(aa:Int)(h:B1 w b D F Ft)(aK:∀k,Ft k->k<w.heap.size)(hn:CH n)(hL:Lets B w)(aJ:(DQ D F ⟨(BO 1 n).toArray⟩).1.length<=70368744177664):
 Ag 149 #[A5 b,A0 n,A0 aa] w λe w'=>∃v,e=.returned (.tuple #[v,A0 (Gi D F (BO 1 n) aa).2])/\AX w' v (Gi D F (BO 1 n) aa).1/\(∀g,v.ownBlock=some g->w.heap.size<=g)/\A3 Ab w w':=by
 have cE:=A1 (Uu w b hn hL);generalize hnm:BO 1 n=nm at cE aJ ⊢;have aV:Hid (AB nm<4294967296):=Iw nm;have H:=A1 h;have b3:=A1 aK;obtain⟨R,hR⟩:∃R,Gi D F nm aa=R:=⟨_,rfl⟩;rw[hR];unfold Gi at hR;obtain⟨al,aT⟩:∃al,(DQ D F ⟨nm.toArray⟩).1=al:=⟨_,rfl⟩;obtain⟨ae,bQ⟩:∃ae,(DQ D F ⟨nm.toArray⟩).2=ae:=⟨_,rfl⟩
 have cN:Hid (∀w1 lb,A3 Ab w w1->Bd w1 lb 237 (A5 b) ⟨nm.toArray⟩ (AB nm)->
  Ag 166 #[A5 lb] w1 (Am (.tuple #[.string ⟨al.toArray⟩,A0 ae]) λw'=>A3 Ab w1 w')):=λw1 lb k1 hf=>by
  have:=Wm hf (H.o.ay b3.o k1)
  rwa [aT,bQ]at this
 rw[aT,bQ]at hR;rw[aT]at aJ;generalize hs:AB nm=s0 at cE aV hR cN;have cH:=A1 hR;have⟨i0,hi,hz0,hz1,hz2⟩:=Eg IN
 go_enter func149,ntmps149
 go_wp2_with (go_at_call 192;refine cE.m ?_;rintro e w1⟨lb,rfl,bS,bD,cJ⟩;have cB:=A1 (cN.o w1 lb bD bS);have b0:=A1 bS;have b4:=A1 bD;have a9:=A1 cJ);refine cB.k ?_;rintro w2 bE;have cI:=A1 (b0.o.an bE (λh=>h));have aY:Hid (A3 Ab w w2):=b4.o.tr bE;have aB:Hid (∀x:Int,R=([],x)->∀w3,A3 Ab w w3->∃v,(Ending.returned (.tuple #[.slice none 0 0,A0 x]):Ending)=.returned (.tuple #[v,A0 R.2])/\AX w3 v R.1/\(∀g,v.ownBlock=some g->w.heap.size<=g)/\A3 Ab w w3):=λx hx w3 h3=>by
  subst hx;exact⟨_,rfl,CT _ _ _ _,λg hg=>by simp[Value.ownBlock]at hg,h3⟩
 by_cases he:ae=0
 case neg=>
  have L:R=([],ae):=by rw[<-cH.o,Ae he]
  go_wp2;go_ret2;exact aB.o _ L _ aY.o
 case pos=>
 subst he;have E:(ByteArray.mk al.toArray).size=al.length:=by show al.toArray.size=_;simp
 by_cases aZ:al.length<12
 case pos=>
  have L:R=([],0):=by rw[<-cH.o,Aa (by simp)];unfold Ee;rw[Ae aZ]
  go_wp2;go_ret2;exact aB.o _ L _ aY.o
 case neg=>
 obtain⟨hd,t4,r,rfl,aF,z⟩:=V9 (l:=al) (by omega);have cL:R=if BM (AP s0 hd)=t4/\BI hd=aa then (if (Da (r.length+12) (AP s0 hd) r).2=true then ((Da (r.length+12) (AP s0 hd) r).1,0) else ([],7)) else ([],7):=by
  rw[<-cH.o,Aa (by simp),Lp aF z]
 have aI:=A1 cL;have bV:=A1 (Of w2.drew lb 237 _ _ s0 hd t4 cI.o aV.o z (by omega));have e1:(ByteArray.mk (hd++t4++r).toArray).extract 0 12=⟨(hd++t4).toArray⟩:=by
  rw[extract_mk,Dz,Hc (by simp[aF,z]),EG (by simp[aF,z])]
 obtain⟨tx,a6⟩:∃tx,ByteArray.mk (hd++t4++r).toArray=tx:=⟨_,rfl⟩;have bF:tx.extract 12 (r.length+12)=⟨r.toArray⟩:=by
  rw[<-a6,extract_mk]
  congr 2
  rw[Mp,KU (by simp[aF,z]),Ff,show 12-(hd++t4).length=0 by simp[aF,z],Dz,EG (by omega)]
 have aR:(hd++t4++r).length=r.length+12:=by simp[aF,z];omega
 rw[a6]at e1 E ⊢;rw[aR]at E aJ aZ;have bO:(0:Int)<=(r.length:Int):=GK _;generalize b8:r.length=rl at E aJ aZ bF bO;have aU:=A1 b8;go_wp2;refine Cc (λ_=>True) 10
  (BG [0,1,2,3,4,5,6,7,8,9] [5]) trivial ?_
 iterate 5 refine Bq ?_
 refine Bx λK hK=>?_;go_simp;refine bV.k ?_;rintro w3⟨b5,b9⟩;refine hK _ _ trivial (λhS=>?_);have a4:=A1 b5;have aH:Hid (A3 Ab w w3):=aY.o.ag.Av b9 λk hk aK=>by cases hk;have:=a9.o;omega
 iterate 4 refine Bq ?_
 refine C8 ?_;by_cases aA:BM (AP s0 hd)=t4
 case neg=>
  have L:R=([],7):=by rw[aI.o,Aa (λh=>aA h.1)]
  have aQ:decide (BM (AP s0 hd)=t4)=false:=De aA;go_wp2;go_ret2;exact aB.o _ L _ aH.o
 case pos=>
 have aQ:decide (BM (AP s0 hd)=t4)=true:=CM aA;have aW:=A1 (N4 w3 hd (by omega));have cF:Hid (-9223372036854775808<=BI hd/\BI hd<=9223372036854775807):=by unfold Hid BI wrap64;omega
 generalize hih2:BI hd=ih at aW aI cF;obtain⟨s1,bL⟩:∃s1,AP s0 hd=s1:=⟨_,rfl⟩;have bC:Hid (s1<4294967296):=by rw[<-bL];exact I5 _ _ aV.o
 rw[bL]at aI a4 aQ aA ⊢;have bY:=A1 aA;rw[aQ];by_cases aE:ih=aa
 case neg=>
  have L:R=([],7):=by rw[aI.o,Aa (λh=>aE h.2)]
  have bI:(ih !=aa)=true:=by simpa using aE
  go_wp2_with (go_at_call 168;refine aW.k ?_;rintro w4 rfl);go_ret2;exact aB.o _ L _ aH.o
 case pos=>
 have aX:Hid (R=if (Da (rl+12) s1 r).2=true then ((Da (rl+12) s1 r).1,0) else ([],7)):=by
  have:=aI.o;rw[Ae ⟨bY.o,aE⟩]at this
  rwa [aU.o]at this
 generalize hP:Da (rl+12) s1 r=P at aX;have cT:=A1 hP;have bI:(ih !=aa)=false:=by simpa using aE
 go_wp2_with (go_at_call 168;refine aW.k ?_;rintro w4 rfl);go_loopw [9,13] (λtv v wr=>∃(l:gh UInt8) (k:Nat) (W:gh Pu),tv=.string ⟨l.toArray⟩/\W.length*21+l.length<=rl/\Hid (∃s,s<4294967296/\Bd wr lb 237 (A5 b) ⟨nm.toArray⟩ s/\AX wr v W/\(∀g,v.ownBlock=some g->w3.heap.size<=g)/\(A3 Ab w wr/\w3.heap.size<=wr.heap.size)/\l.length<=k/\P=(W++(Da k s l).1,(Da k s l).2))) (λtv _ _=>match tv with | .string x=>x.size|_=>0)
 ·exact⟨r,rl+12,[],rfl,by simp[aU.o],s1,bC.o,a4.o,CT _ _ _ _,λg hg=>by simp[Value.ownBlock]at hg,⟨aH.o,Ao _⟩,by have:=aU.o;omega,by rw[cT.o];simp⟩
 ·obtain⟨l,k,W,rfl,bH,hI⟩:=hrel;have E:(ByteArray.mk l.toArray).size=l.length:=by show l.toArray.size=_;simp
  by_cases a1:l.length<21
  case pos=>
   obtain⟨s,-,-,i3,i4,⟨i5,-⟩,-,i7⟩:=hI.o;rw[MP a1]at i7;simp only[GJ]at i7;have bX:R=(W,0):=by
    have:=aX.o;rw[i7]at this;simpa using this
   subst bX;go_wp2;go_ret2;exact⟨_,rfl,i3,λg hg=>AJ aH.o.Aj (i4 g hg),i5⟩
  case neg=>
   obtain⟨c,d,t,q,rfl,O,z⟩:=Ur (l:=l) (by omega);have⟨s,i1,i2,i3,i4,⟨i5,i5b⟩,i6,i7⟩:=hI.o;obtain⟨k,rfl⟩:∃k',k=k'+1:=⟨k-1,by simp at i6;omega⟩;obtain⟨ap,cp,rfl,hcap1,a5,-⟩:=B9 i3;unfold maxLen at a5;have bV:=A1 (Of wr.drew lb 237 _ _ s (c::d) t i2 i1 z (by simp;omega));have e1:(ByteArray.mk (c::d++t++q).toArray).extract 0 21=⟨(c::d++t).toArray⟩:=by
    rw[extract_mk,Dz,Hc (by simp[O,z]),EG (by simp[O,z])]
   (have aR:(c::d++t++q).length=q.length+21:=by simp[O,z];omega);obtain⟨ty,a7⟩:∃ty,ByteArray.mk (c::d++t++q).toArray=ty:=⟨_,rfl⟩;have e2:ty.extract 21 (q.length+21)=⟨q.toArray⟩:=by
    rw[<-a7,extract_mk]
    congr 2
    rw[Mp,KU (by simp[O,z]),Ff,show 21-(c::d++t).length=0 by simp[O,z],Dz,EG (by omega)]
   rw[a7]at e1 E ⊢;rw[aR]at E bH a1 i6;have aM:=λh1 h2=>@MR k s c d t q O z h1 h2;have bK:=λh=>@OX k s c d t q O z h;generalize hRP:Da (k+1) s (c::d++t++q)=RP at i7 aM bK;have cA:=A1 aM;have bB:=A1 bK;have bA:=A1 i7;have H2:=A1 i2;have cO:=A1 i3;have bU:=A1 i4;have cP:=A1 i5;have bZ:=A1 i5b;have cM:=A1 i6;have cS:=A1 (λw5=>Te w5 c d (by omega));obtain⟨s',bG⟩:∃s',AP s (c::d)=s':=⟨_,rfl⟩;(have bT:Hid (s'<4294967296):=by rw[<-bG];exact I5 _ _ i1);rw[bG]at bV cA bB;generalize cD:q.length=ql at E bH a1 cM e2;have aP:=A1 cD;have hq0:=C3 ql;go_wp2;refine Cc (λ_=>True) 10
    (BG [0,1,2,3,4,5,6,7,8,9] [5]) trivial ?_
   iterate 5 refine Bq ?_
   refine Bx λK hK=>?_;go_simp;refine bV.k ?_;rintro w5⟨b6,a3⟩;refine hK _ _ trivial (λhS=>?_);have cC:=A1 b6;have bJ:Hid (lb<w3.heap.size):=a4.o.lt;(have a0:Hid (A3 Ab w w5):=cP.o.ag.Av a3 λx hx aK=>by cases hx;have:=a9.o;omega);have bP:Hid (AX w5 (.slice ap W.length cp) W):=Ax cO.o λg hg=>a3.An g (AF cO.o hg) (λe=>by cases e;have:=bU.o _ hg;have:=bJ.o;omega);have b7:Hid (w3.heap.size<=w5.heap.size):=AJ bZ.o a3.Aj
   iterate 4 refine Bq ?_
   refine C8 ?_;have aG:=A1 (cS.o w5);have aO:Hid (¬(BM s'=t/\c.toNat<8)->R=([],7)):=λh=>by
    have h1:=bA.o;rw[bB.o h]at h1;have h2:=aX.o;rw[h1]at h2;simpa using h2
   obtain⟨x1,cG⟩:∃x1,BI d=x1:=⟨_,rfl⟩;obtain⟨x2,bW⟩:∃x2,BI (d.drop 8)=x2:=⟨_,rfl⟩;rw[cG,bW]at aG cA;have aL:Hid (∀I,A3 Ab w5 I->C5 (I.alloc (.cells #[A0 c.toNat,A0 x1,A0 x2] 113)) I.heap.size c.toNat x1 x2/\A3 Ab w5 (I.alloc (.cells #[A0 c.toNat,A0 x1,A0 x2] 113))):=λI Y=>
    ⟨BL I _,Y.al _⟩
   by_cases aA:BM s'=t
   case neg=>
    have L:=aO.o (λh=>aA h.1);rw[show decide (BM s'=t)=false from De aA];go_wp2_with (go_at_call 176;refine aG.k ?_;rintro I Y;have⟨b1,k7⟩:=aL.o I Y;have q0:=b1.c0;have q1:=b1.c1;have q2:=b1.c2;have a2:=A1 k7);go_ret2;exact aB.o _ L _ (a0.o.tr a2.o)
   case pos=>
   rw[show decide (BM s'=t)=true from CM aA];by_cases aE:c.toNat<8
   case neg=>
    have L:=aO.o (λh=>aE h.2);rw[show decide (c.toNat<8)=false from De aE]at aG;go_wp2_with (go_at_call 176;refine aG.k ?_;rintro I Y;have⟨b1,k7⟩:=aL.o I Y;have q0:=b1.c0;have q1:=b1.c1;have q2:=b1.c2;have a2:=A1 k7);go_ret2;exact aB.o _ L _ (a0.o.tr a2.o)
   case pos=>
    have bM:Hid (∀I,A3 Ab w5 I->
     (((I.alloc (.cells #[A0 c.toNat,A0 x1,A0 x2] 113)).alloc (.cells #[A0 c.toNat,A0 x1,A0 x2] 113)).ownsRow 0 113 3 (.slice ap W.length cp) W.length (Bb W))/\
     ∀w8 a8 aD,App ((I.alloc (.cells #[A0 c.toNat,A0 x1,A0 x2] 113)).alloc (.cells #[A0 c.toNat,A0 x1,A0 x2] 113)) w8 113 3 (.slice ap W.length cp) (.slice a8 (W.length+1) aD) (W.length+1) (Bb W++Bb [((c.toNat:Int),x1,x2)])->
      Bd w8 lb 237 (A5 b) ⟨nm.toArray⟩ s'/\AX w8 (.slice a8 (W.length+1) aD) (W++[((c.toNat:Int),x1,x2)])/\(∀g,(Value.slice a8 (W.length+1) aD).ownBlock=some g->w3.heap.size<=g)/\A3 Ab w w8/\w3.heap.size<=w8.heap.size):=λI Y=>by
     have k9:A3 Ab w5 ((I.alloc (.cells #[A0 c.toNat,A0 x1,A0 x2] 113)).alloc (.cells #[A0 c.toNat,A0 x1,A0 x2] 113)):=(aL.o I Y).2.al _;generalize ((I.alloc (.cells #[A0 c.toNat,A0 x1,A0 x2] 113)).alloc (.cells #[A0 c.toNat,A0 x1,A0 x2] 113))=w9 at k9 ⊢;refine⟨Ax bP.o λg hg=>k9.An g (AF bP.o hg) (λh=>h),λw8 a8 aD hA=>?_⟩;have aS:=hA.Al (S:=λk=>(Value.slice ap W.length cp).ownBlock=some k) λ_ h=>h;have bR:w3.heap.size<=w9.heap.size:=AJ b7.o k9.Aj;refine⟨(cC.o.an k9 (λh=>h)).an aS (λhg=>by have:=bU.o _ hg;have:=bJ.o;omega),?_,?_,?_,?_⟩
     ·have:=hA.AE;unfold AX;rw[Jk];simpa using this
     ·intro g hg;rcases hA.CA with h|h
      ·rw[h]at hg;exact bU.o g hg
      ·rw[h]at hg;cases hg;exact bR
     ·exact(a0.o.tr k9).Av aS λx hx aK=>by have:=bU.o x hx;have:=aH.o.Aj;omega
     ·exact AJ bR aS.Aj
    rw[show decide (c.toNat<8)=true from CM aE]at aG
    go_wp2_with (first
     | (go_at_call 176;refine aG.k ?_;rintro I Y;have⟨b1,k7⟩:=aL.o I Y;have q0:=b1.c0;have q1:=b1.c1;have q2:=b1.c2;have b2:=A1 Y)
     | (at_builtin
        have aN:=A1 (bM.o I b2.o);have bN:=A1 (Src.bh (size:=3) (B:=I.heap.size+1) Gy (I.alloc (.cells #[A0 c.toNat,A0 x1,A0 x2] 113)) #[A0 c.toNat,A0 x1,A0 x2] 113 (by simp) 1 1 rfl (IE [((c.toNat:Int),x1,x2)]));refine Dj rfl (.tmp 80) (.tmp 82) 97 97 rfl 113 i0 _ 3 24 Gy hi hz0 hz1 hz2 rfl (by decide) (.slice ap W.length cp) W.length (Bb W) (by rfl) aN.o.1 _ 1 _ (by rfl) bN.o (by omega) ?_;intro a8 aD w8 hA;have cQ:=A1 (aN.o.2 w8 a8 aD hA)
        clear hA))
    go_roundw
    ·have⟨r1,r2,r3,r4,r5⟩:=cQ.o;refine⟨q,k,W++[((c.toNat:Int),x1,x2)],rfl,by have:=aP.o;simp;omega,s',bT.o,r1,r2,r3,⟨r4,r5⟩,by have:=cM.o;have:=aP.o;omega,?_⟩;rw[bA.o,cA.o aA aE];simp
    ·(have e:(ByteArray.mk q.toArray).size=q.length:=by show q.toArray.size=_;simp);have:=aP.o;simp only[e,E];omega
end
end
section
open Go.RowKit
structure PD where
 D:DS
 F:Nat->FC
def IU:gh AM->Nat
 | []=>0
 | e::r=>max (e.2+1) (IU r)
def Q8{es:gh AM}{f:Nat}(h:Dm f es):f<IU es:=by
 induction es with
 | nil=>obtain⟨e,d,_⟩:=h;cases d
 | cons x t ih=>
  obtain⟨e,d,rfl⟩:=h;unfold IU;rcases BB.1 d with rfl|d
  ·omega
  ·have:=ih ⟨e,d,rfl⟩;omega
def Kv:gh (gh AM)->Nat
 | []=>0
 | c::r=>max (IU c) (Kv r)
def A3O{l:gh (gh AM)}{c:gh AM}{f:Nat}(d:c∈l)(h:Dm f c):f<Kv l:=by
 induction l with
 | nil=>cases d
 | cons x t ih=>
  unfold Kv;rcases BB.1 d with rfl|d
  ·have:=Q8 h;omega
  ·have:=ih d;omega
def DS.AR(D:DS):Nat:=max (IU D.A4) (max (IU D.AI) (Kv D.As))
def DS.cg(D:DS):¬D.Ap D.AR:=by
 intro h;have:D.AR<D.AR:=by
  rcases h with h|h|⟨c,d,h⟩
  ·have:=Q8 h;unfold DS.AR at *;omega
  ·have:=Q8 h;unfold DS.AR at *;omega
  ·have:=A3O d h;unfold DS.AR at *;omega
 omega
abbrev Bs:=gh UInt8
def A6(l:Bs):ByteArray:=⟨l.toArray⟩
def FN{a b:Bs}:A6 a=A6 b↔a=b:=by
 constructor
 ·intro h;have:=ES (λx=>x.data.toList) h;simpa[A6] using this
 ·rintro rfl;rfl
def FO(b:gg):A6 b.data.toList=b:=by simp[A6]
def PD.ai(P:PD)(nm:gg):Int×PD:=((CN P.D nm P.D.AR).1,⟨(CN P.D nm P.D.AR).2,upd P.F P.D.AR ([],0)⟩)
def PD.ak(P:PD)(nm:gg)(l:Bs):Int×PD:=((Bj P.D P.F nm (A6 l)).1,⟨(Bj P.D P.F nm (A6 l)).2.1,(Bj P.D P.F nm (A6 l)).2.2⟩)
def PD.ad(P:PD)(nm:gg):Int×PD:=((Cq P.D P.F nm).1,⟨(Cq P.D P.F nm).2.1,(Cq P.D P.F nm).2.2⟩)
def PD.av(P:PD):Int×PD:=((DC P.D).1,⟨(DC P.D).2,P.F⟩)
def PD.aG(P:PD)(nm:gg):Int×PD:=((Dn P.D nm).1,⟨(Dn P.D nm).2,P.F⟩)
def PD.aM(P:PD)(oe nm:gg):Int×PD:=((CU P.D oe nm).1,⟨(CU P.D oe nm).2,P.F⟩)
structure Fit (P:PD) (a c m:Nat):Prop where
 A4:P.D.A4.length<=a
 AI:P.D.AI.length<=a
 Fb:∀l∈P.D.As,l.length<=a
 Al:P.D.As.length<=c
 B4:∀f,P.D.Ap f->(P.F f).1.length<=m
 AA : -4611686018427387904<=P.D.n.AA/\P.D.n.AA<=9223372036854775807
 BC:0<=P.D.n.BC/\P.D.n.BC<=9223372036854775807
def Fit.af{P:PD}{a c m a' z m':Nat}(h:Fit P a c m)(d:a<=a')(L:c<=z)(E:m<=m'):Fit P a' z m':=
 ⟨AJ h.A4 d,AJ h.AI d,λl I=>AJ (h.Fb l I) d,AJ h.Al L,λf H=>AJ (h.B4 f H) E,h.AA,h.BC⟩
def Ob{F:Nat->FC}{m:Nat}:∀(es:gh AM),(∀f,Dm f es->(F f).1.length<=m)->B6 F es<=es.length*m
 | [],_=>by simp[B6]
 | e::r,h=>by
  have h1:=h e.2 ⟨e,Bt ..,rfl⟩;have h2:=Ob r λf d=>h f (by obtain⟨x,E,z⟩:=d;exact⟨x,Bp _ E,z⟩);simp only[B6,Cg,HT,QD];omega
def Fit.cV{P:PD}{a c m:Nat}(h:Fit P a c m):B6 P.F P.D.A4<=a*m:=
 AJ (Ob _ λf d=>h.B4 f (.inl d)) (Gd _ h.A4)
def W0(n:DN):(bg n).2.2.AA=n.AA/\(bg n).2.2.BC=n.BC:=by
 unfold bg;dsimp only
 split
 ·exact⟨rfl,rfl⟩
 ·split
  ·exact⟨rfl,rfl⟩
  ·split<;>exact⟨rfl,rfl⟩
def Fit.bH{P:PD}{a c m:Nat}(h:Fit P a c m):Fit ⟨{P.D with n:=(bg P.D.n).2.2},P.F⟩ a c m:=
 ⟨h.A4,h.AI,h.Fb,h.Al,h.B4,by have:=(W0 P.D.n).1;show _<=(Go.Proofs.YtodcnkbblippnaaGreatDoor.bg P.D.n).2.2.AA/\(Go.Proofs.YtodcnkbblippnaaGreatDoor.bg P.D.n).2.2.AA<=_;rw[this];exact h.AA,by have:=(W0 P.D.n).2;show _<=(Go.Proofs.YtodcnkbblippnaaGreatDoor.bg P.D.n).2.2.BC/\(Go.Proofs.YtodcnkbblippnaaGreatDoor.bg P.D.n).2.2.BC<=_;rw[this];exact h.BC⟩
def A2y{es:gh AM}{nm:gg}(h:¬B5 es nm<0):(B5 es nm).toNat<es.length:=by
 have:=Vh es nm;omega
def Fit.ah{P:PD}{a c m a':Nat}(h:Fit P a c m){es:gh AM}(I:es.length<=a')(L:a<=a')(H:∀f,Dm f es->(P.F f).1.length<=m):Fit ⟨{P.D with A4:=es,As:=P.D.As++[es],n:=(Go.Proofs.YtodcnkbblippnaaGreatDoor.bg P.D.n).2.2},P.F⟩ a' (c+1) m:=by
 have O:=h.bH;refine⟨I,AJ h.AI L,λl z=>?_,?_,λf d=>?_,O.AA,O.BC⟩
 ·rcases AU.1 z with z|z
  ·exact AJ (h.Fb l z) L
  ·simp at z;subst z;exact I
 ·have:=h.Al;simp;omega
 ·rcases d with d|d|⟨x,E,d⟩
  ·exact H f d
  ·exact h.B4 f (.inr (.inl d))
  ·rcases AU.1 E with E|E
   ·exact h.B4 f (.inr (.inr ⟨x,E,d⟩))
   ·simp at E;subst E;exact H f d
def Fit.ai{P:PD}{a c m:Nat}(h:Fit P a c m)(nm:gg):Fit (P.ai nm).2 (a+1) (c+1) m:=by
 have z:Fit ⟨P.D,upd P.F P.D.AR ([],0)⟩ a c m:=⟨h.A4,h.AI,h.Fb,h.Al,λf H=>by
  unfold upd;by_cases E:f=P.D.AR
  ·simp[E]
  ·simp only[E,C9];exact h.B4 f H,h.AA,h.BC⟩
 unfold PD.ai CN;split
 ·exact z.af (by omega) (by omega) (Ao _)
 ·dsimp only
  split
  ·refine z.ah (a':=a+1) ?_ (by omega) ?_
   ·have:=h.A4;simp;omega
   ·rintro f⟨x,d,rfl⟩;rcases AU.1 d with d|d
    ·exact z.B4 _ (.inl ⟨x,d,rfl⟩)
    ·simp at d;subst d;simp[upd]
  ·exact z.bH.af (by omega) (by omega) (Ao _)
def Fit.ba{P:PD}{a c m:Nat}(h:Fit P a c m)(f:Nat)(x:FC)(E:x.1.length<=m):Fit ⟨P.D,Go.Proofs.YtodcnkbblippnaaGreatDoor.upd P.F f x⟩ a c m:=⟨h.A4,h.AI,h.Fb,h.Al,λg z=>by
 unfold Go.Proofs.YtodcnkbblippnaaGreatDoor.upd;by_cases d:g=f
 ·simp[d];exact E
 ·simp only[d,C9];exact h.B4 g z,h.AA,h.BC⟩
def Fit.dK{P:PD}{a c m:Nat}(h:Fit P a c m){f:Nat}(H:P.D.Ap f)(l:Bs)(E e:Int):Fit ⟨(Bw P.D P.F f (A6 l) E e).2.1,(Bw P.D P.F f (A6 l) E e).2.2⟩ a c (m+l.length):=by
 have d:=h.af (Ao a) (Ao c) (WJ m l.length);have hl:=h.B4 f H;have hu:∀k:Nat,((P.F f).1++(A6 l).data.toList.take k).length<=m+l.length:=λk=>by
  simp only[AY,BT,A6];omega
 unfold Bw;split
 ·by_cases z:e=0
  ·simp only[z,Cp];have:=d.ba f ((P.F f).1++(A6 l).data.toList.take (Fv P.D P.F).toNat,(P.F f).2) (hu _);exact⟨this.A4,this.AI,this.Fb,this.Al,this.B4,this.AA,this.BC⟩
  ·simp only[z,C9];exact d.ba f _ (hu _)
 ·exact d.ba f _ (hu _)
def Fit.ak{P:PD}{a c m:Nat}(h:Fit P a c m)(nm:gg)(l:Bs):Fit (P.ak nm l).2 a c (m+l.length):=by
 unfold PD.ak Bj;cases hx:lookup P.D.A4 nm with
 | none=>exact h.af (Ao _) (Ao _) (by omega)
 | some f=>
  have d:=FP hx;dsimp only
  split
  ·exact h.bH.dK (P:=⟨{P.D with n:=(bg P.D.n).2.2},P.F⟩) d l _ _
  ·split
   ·exact h.bH.dK (P:=⟨{P.D with n:=(bg P.D.n).2.2},P.F⟩) d l _ _
   ·exact h.bH.af (Ao _) (Ao _) (by omega)
def Fit.ad{P:PD}{a c m:Nat}(h:Fit P a c m)(nm:gg):Fit (P.ad nm).2 a c m:=by
 unfold PD.ad Cq;cases hx:lookup P.D.A4 nm with
 | none=>exact h
 | some f=>
  have d:=FP hx;dsimp only
  split
  ·exact h.bH.ba (P:=⟨{P.D with n:=(bg P.D.n).2.2},P.F⟩) f _ (h.B4 f d)
  ·exact h.bH
def Fit.av{P:PD}{a c m:Nat}(h:Fit P a c m):Fit P.av.2 a c m:=by
 unfold PD.av DC;dsimp only
 split
 ·have z:=h.bH;refine⟨h.A4,h.A4,λl E=>(by cases E),Cb _,λf d=>h.B4 f ?_,z.AA,z.BC⟩;rcases d with d|d|⟨x,H,_⟩
  ·exact .inl d
  ·exact .inl d
  ·cases H
 ·exact h.bH
def Fit.bR{P:PD}{a c m:Nat}(h:Fit P a c m)(d:P.av.1=0):Fit P.av.2 a 0 m:=by
 have:=h.av;refine⟨this.A4,this.AI,this.Fb,?_,this.B4,this.AA,this.BC⟩;unfold PD.av DC at d ⊢;dsimp only at d ⊢;rw[Ae d];exact Ao _
def Fit.aG{P:PD}{a c m:Nat}(h:Fit P a c m)(nm:gg):Fit (P.aG nm).2 a (c+1) m:=by
 unfold PD.aG Dn;split
 ·exact h.af (Ao _) (by omega) (Ao _)
 ·rename_i d;have hl:=A2y d;dsimp only
  split
  ·refine h.ah (a':=a) ?_ (Ao _) ?_
   ·have:=h.A4;simp;omega
   ·rintro f⟨x,d,rfl⟩;rcases AU.1 d with d|d
    ·exact h.B4 _ (.inl ⟨x,J6 d,rfl⟩)
    ·exact h.B4 _ (.inl ⟨x,Mk d,rfl⟩)
  ·exact h.bH.af (Ao _) (by omega) (Ao _)
def ZB(es:gh AM)(i:Nat)(nm:gg)(k:Nat):(Dt es i nm k).length<=k:=by
 induction k with
 | zero=>simp[Dt]
 | succ k ih=>
  simp only[Dt,AY];cases es[k]? with
  | none=>simp;omega
  | some e=>
   dsimp only
   split
   ·simp;omega
   ·simp;omega
def Fit.aM{P:PD}{a c m:Nat}(h:Fit P a c m)(oe nm:gg):Fit (P.aM oe nm).2 (a+1) (c+1) m:=by
 unfold PD.aM CU;cases hx:lookup P.D.A4 oe with
 | none=>exact h.af (by omega) (by omega) (Ao _)
 | some f=>
  dsimp only
  split
  ·exact h.af (by omega) (by omega) (Ao _)
  ·dsimp only
   split
   ·refine h.ah (a':=a+1) ?_ (by omega) ?_
    ·have h1:=h.A4;have h2:=ZB P.D.A4 (B5 P.D.A4 oe).toNat nm P.D.A4.length;simp;omega
    ·rintro g⟨x,d,rfl⟩;rcases AU.1 d with d | d
     ·exact h.B4 _ (.inl ⟨x,MN _ _ _ _ x d,rfl⟩)
     ·simp at d;subst d;exact h.B4 _ (FP hx)
   ·exact h.bH.af (by omega) (by omega) (Ao _)
def AS(s:Nat)(l:Bs):Bs:=l++BM (AP s l)
def PD.ae(P:PD)(nm:gg)(s:Nat)(l:Bs):Bool×Int×PD:=
 (Hn P.D P.F nm (AS s l),(P.ak nm (AS s l)).1,(P.ak nm (AS s l)).2)
def PD.aH(P:PD)(nm:Bs)(s:Nat)(l:Bs):Int×PD:=
 if (P.ai (A6 nm)).1≠0 then P.ai (A6 nm) else
 if ((P.ai (A6 nm)).2.ae (A6 nm) s l).2.1≠0 then ((P.ai (A6 nm)).2.ae (A6 nm) s l).2 else
 ((P.ai (A6 nm)).2.ae (A6 nm) s l).2.2.ad (A6 nm)
def PD.Ck(P:PD)(nm:Bs):Bs×Int:=DQ P.D P.F (A6 nm)
def G2(s:Nat)(t:Bs):Option Bs:=
 if t.length<4 then none else if BM (AP s (t.take (t.length-4)))=t.drop (t.length-4) then some (t.take (t.length-4)) else none
def PD.aS(P:PD)(nm:Bs):Bs×Int:=
 if (P.Ck nm).2≠0 then ([],(P.Ck nm).2) else match G2 (AB nm) (P.Ck nm).1 with
 | some d=>(d,0)
 | none=>([],7)
def Fs:Nat->Bs->gh Int
 | 0,_=>[]
 | k+1,l=>if l.length<8 then [] else BI l::Fs k (l.drop 8)
def Et(l:Bs):gh Int:=Fs l.length l
def Cw{α:Type}(cmp:α->α->Int):gh α->Bool
 | []=>true
 | [_]=>true
 | x::y::r=>decide (cmp x y<0)&&Cw cmp (y::r)
def Cn(x y:Int):Int:=if x<y then -1 else if y<x then 1 else 0
structure Ix where
 AZ:Int
 sd:gh Int
def indexOf(d:Bs×Int):Option Ix:=
 if d.2=8 then some ⟨1,[]⟩ else
 if d.2≠0\/Et d.1=[]\/d.1.length≠(Et d.1).length*8 then none else
 if (Et d.1).all isNum=false then none else
 if Cw Cn (Et d.1).tail then some ⟨(Et d.1).headD 0,(Et d.1).tail⟩ else none
def PD.CK(P:PD):Option Ix:=indexOf (P.aS Ay)
def Cl(first:Int)(sd:gh Int):Bs:=AO first++sd.flatMap AO
def PD.ah(P:PD)(first:Int)(sd:gh Int):Int×PD:=
 if (P.aH Bm (AB Ay) (Cl first sd)).1≠0 then P.aH Bm (AB Ay) (Cl first sd) else
 (P.aH Bm (AB Ay) (Cl first sd)).2.aM (A6 Bm) (A6 Ay)
def Ci(l:gh Pu):Bs:=l.flatMap λp=>Bc p.1 p.2.1 p.2.2
def PD.aI(P:PD)(n:Int)(l:gh Pu):Int×PD:=P.aH (Aw n) (AB (Aw n)) (Ci l)
def Cr(p q:Pu):Int:=if Cn p.1 q.1≠0 then Cn p.1 q.1 else Cn p.2.1 q.2.1
def K3(l:Bs):Pu:=(((l.headD 0).toNat:Int),BI (l.drop 1),BI (l.drop 9))
def DO:Nat->Bs->Option (gh Pu×Bs)
 | 0,l=>some ([],l)
 | k+1,l=>if l.length<17 then some ([],l) else
  if (l.headD 0).toNat<8 then (DO k (l.drop 17)).map λr=>(K3 l::r.1,r.2) else none
def Hj(d:Bs×Int):Option (gh Pu):=
 if d.2≠0 then none else match DO d.1.length d.1 with
 | none=>none
 | some (l,r)=>if r=[]/\Cw Cr l=true then some l else none
def PD.BN(P:PD)(n:Int):Option (gh Pu):=Hj (P.aS (Aw n))
def PD.sd(P:PD):gh Int->Option (gh (Int×gh Pu))
 | []=>some []
 | n::r=>match P.BN n with
  | none=>none
  | some l=>(P.sd r).map λx=>(n,l):: x
structure Jn where
 Ak:gh Int
 A8:Int
 pd:Int
 AE:Option (Int×Nat)
def PD.aU(P:PD)(n:Int)(d:Int):gh Pu×Int:=Gi P.D P.F (Af n) d
def PD.a1(P:PD):gh Int->gh Pu->gh Pu×Int
 | [],acc=>(acc,0)
 | n::r,acc=>if (P.aU n acc.length).2≠0 then ([],(P.aU n acc.length).2) else P.a1 r (acc++(P.aU n acc.length).1)
def PD.pd(P:PD)(Ak:gh Int):gh Pu×Int:=P.a1 Ak []
def PD.Ai(P:PD):gh Bs:=(dList P.D.A4).map λb=>b.data.toList
def Br(first:Int)(l:gh Bs):gh Int:=l.filterMap λnm=>if (Ba nm).1=1/\first<=(Ba nm).2 then some (Ba nm).2 else none
def PD.bB(P:PD)(first:Int):Jn:=⟨Br first P.Ai,(Br first P.Ai).getLastD (first-1),(P.pd (Br first P.Ai)).1.length,none⟩
def Jn.aw(J:Jn)(P:PD):Int×Jn×PD:=
 if (P.ai (A6 (Af (J.A8+1)))).1≠0 then ((P.ai (A6 (Af (J.A8+1)))).1,J,(P.ai (A6 (Af (J.A8+1)))).2) else
 let a:=(P.ai (A6 (Af (J.A8+1)))).2.ae (A6 (Af (J.A8+1))) (AB (Af (J.A8+1))) (AO J.pd)
 if a.2.1≠0 then (a.2.1,J,a.2.2) else
 (0,⟨J.Ak++[J.A8+1],J.A8+1,J.pd,some (J.A8+1,AP (AB (Af (J.A8+1))) (AO J.pd))⟩,a.2.2)
def Jn.ax(J:Jn)(P:PD)(p:Pu):Bool×Int×Jn×PD:=match J.AE with
 | none=>(false,0,J,P)
 | some (n,s)=>
  let a:=P.ae (A6 (Af n)) s (Bc p.1 p.2.1 p.2.2)
  (a.1,a.2.1,{J with AE:=some (n,AP s (Bc p.1 p.2.1 p.2.2))},a.2.2)
def Jn.ae(J:Jn)(P:PD)(p:Pu):Bool×Int×Jn×PD:=
 if J.AE=none then
  (if (J.aw P).1≠0 then (false,(J.aw P).1,(J.aw P).2.1,(J.aw P).2.2) else (J.aw P).2.1.ax (J.aw P).2.2 p)
 else J.ax P p
def Jn.ad(J:Jn)(P:PD):Int×PD:=match J.AE with
 | none=>(0,P)
 | some (n,_)=>P.ad (A6 (Af n))
structure Ar where
 ix:Ix
 j:Jn
 A8:Int
 AN:gh Bs
def Ar.Ai(A:Ar):gh Bs:=Ay::A.j.Ak.map Af++A.ix.sd.map Aw
def Ar.aX(A:Ar)(P:PD):gh Bs:=P.Ai.filter λnm=>decide (nm∈A.Ai)
def Ar.aV(A:Ar)(P:PD):gh Bs:=P.Ai.filter λnm=>!decide (nm∈A.Ai)
def PD.az:gh Bs->PD->Int×PD
 | [],P=>(0,P)
 | nm::r,P=>if (P.ad (A6 nm)).1≠0 then P.ad (A6 nm) else PD.az r (P.ad (A6 nm)).2
def PD.aK:gh Bs->PD->Int×PD
 | [],P=>(0,P)
 | nm::r,P=>if (P.aG (A6 nm)).1≠0 then P.aG (A6 nm) else PD.aK r (P.aG (A6 nm)).2
def Ar.C(A:Ar)(P:PD):Int×Ar×PD:=
 if (P.az A.AN).1≠0 then ((P.az A.AN).1,A,(P.az A.AN).2) else (0,{A with AN:=[]},(P.az A.AN).2)
def Ar.au(A:Ar)(P:PD):Int×PD:=P.aK (A.aV P)
def Ar.ae(A:Ar)(P:PD)(p:Pu):Bool×Int×Ar×PD:=
 if (A.C P).1≠0 then (false,(A.C P).1,(A.C P).2.1,(A.C P).2.2) else
 let r:=(A.C P).2.1.j.ae (A.C P).2.2 p
 (r.1,r.2.1,{ (A.C P).2.1 with j:=r.2.2.1},r.2.2.2)
def Ar.ad(A:Ar)(P:PD):Int×Ar×PD:=
 if (A.C P).1≠0 then A.C P else
 if ((A.C P).2.1.j.ad (A.C P).2.2).1≠0 then (((A.C P).2.1.j.ad (A.C P).2.2).1,(A.C P).2.1,((A.C P).2.1.j.ad (A.C P).2.2).2) else
 ((((A.C P).2.1.j.ad (A.C P).2.2).2.av).1,(A.C P).2.1,(((A.C P).2.1.j.ad (A.C P).2.2).2.av).2)
def PD.aj:gh (gh Pu)->Int->gh Int->PD->Int×Int×gh Int×PD
 | [],lh,ke,P=>(0,lh,ke,P)
 | l::r,lh,ke,P=>if (P.aI (lh+1) l).1≠0 then ((P.aI (lh+1) l).1,lh+1,ke,(P.aI (lh+1) l).2) else
  PD.aj r (lh+1) (ke++[lh+1]) (P.aI (lh+1) l).2
def Ar.ah(A:Ar)(P:PD)(sd:gh Int):Int×Ar×PD:=
 if A.ix.AZ=A.j.A8+1/\A.ix.sd=sd then (0,A,P) else
 if (P.ah (A.j.A8+1) sd).1≠0 then ((P.ah (A.j.A8+1) sd).1,A,(P.ah (A.j.A8+1) sd).2) else
 (0,{A with ix:=⟨A.j.A8+1,sd⟩,j:=⟨[],A.j.A8,0,none⟩},(P.ah (A.j.A8+1) sd).2)
def Ar.a6(A:Ar)(P:PD):Int×Ar×PD:=
 if (A.au P).1≠0 then ((A.au P).1,A,(A.au P).2) else ((A.au P).2.av.1,A,(A.au P).2.av.2)
def Ar.aF(A:Ar)(P:PD)(z:gh Int)(h:gh (gh Pu)):Int×Ar×PD:=
 let a:=A.C P
 if a.1≠0 then a else
 let b:=a.2.1.au a.2.2
 if b.1≠0 then (b.1,a.2.1,b.2) else
 let c:=PD.aj h a.2.1.A8 z b.2
 if c.1≠0 then (c.1,{a.2.1 with A8:=c.2.1},c.2.2.2) else
 let d:=({a.2.1 with A8:=c.2.1}:Ar).ah c.2.2.2 c.2.2.1
 if d.1≠0 then d else d.2.1.a6 d.2.2
def Bz(t len:Int):Int:=t/len
def Az(len:Int)(p q:Pu):Bool:=
 decide (Bz p.2.1 len<Bz q.2.1 len\/Bz p.2.1 len=Bz q.2.1 len/\(p.1<q.1\/p.1=q.1/\p.2.1<q.2.1))
def Fa{α:Type}(lt:α->α->Bool)(x:α):gh α->gh α
 | []=>[x]
 | y::r=>if lt x y then x::y::r else y::Fa lt x r
def Ec{α:Type}(lt:α->α->Bool)(l:gh α):gh α:=l.foldl (λs x=>Fa lt x s) []
def EJ(len:Int)(ws:gh (gh Pu))(first:Bool)(d p:Pu):gh (gh Pu):=
 let ws1:=if first\/Bz p.2.1 len≠Bz d.2.1 len then ws++[[]] else ws
 let lh:=ws1.getLastD []
 if lh≠[]/\Cr p (lh.getLastD (0,0,0))=0 then ws1.dropLast++[lh.dropLast++[p]] else ws1.dropLast++[lh++[p]]
def El(len:Int):gh Pu->Bool->Pu->gh (gh Pu)->gh (gh Pu)
 | [],_,_,ws=>ws
 | p::r,first,prev,ws=>El len r false p (EJ len ws first prev p)
def By(len:Int)(l:gh Pu):gh (gh Pu):=El len (Ec (Az len) l) true (0,0,0) []
def Ar.aR(A:Ar)(P:PD)(wa:Int):Int×Ar×PD:=
 if (P.pd A.j.Ak).2≠0 then ((P.pd A.j.Ak).2,A,P) else A.aF P A.ix.sd (By wa (P.pd A.j.Ak).1)
def BJ(sd:gh (Int×gh Pu))(od:Int):gh (gh Pu)->gh Int×gh (gh Pu)
 | []=>([],[])
 | l::r=>if l.any (λp=>decide (od<=p.2.1))=false then BJ sd od r else
  match sd.find? λs=>decide (s.2=l) with
  | none=>((BJ sd od r).1,l::(BJ sd od r).2)
  | some s=>(s.1::(BJ sd od r).1,(BJ sd od r).2)
def Ar.aP(A:Ar)(P:PD)(wa od:Int):Int×Ar×PD:=match P.sd A.ix.sd with
 | none=>(7,A,P)
 | some sd=>if (P.pd A.j.Ak).2≠0 then ((P.pd A.j.Ak).2,A,P) else
  let k:=BJ sd od (By wa (sd.flatMap (·.2)++(P.pd A.j.Ak).1))
  A.aF P (k.1.mergeSort λx y=>decide (x<=y)) k.2
def Ar.aT(P:PD):Except Int (Ar×gh Pu):=match P.CK with
 | none=>.error 7
 | some ix=>if P.Ai.any (λnm=>decide ((Ba nm).1=0)) then .error 7 else
  match P.sd ix.sd with
  | none=>.error 7
  | some sd=>if (P.pd (Br ix.AZ P.Ai)).2≠0 then .error (P.pd (Br ix.AZ P.Ai)).2 else
   let A:Ar:=⟨ix,P.bB ix.AZ,(P.Ai.filterMap λnm=>if (Ba nm).1=2 then some (Ba nm).2 else none).getLastD 0,[]⟩
   .ok ({A with AN:=A.aX P},sd.flatMap (·.2)++(P.pd (Br ix.AZ P.Ai)).1)
def Aq(w:ga)(Ft:Nat->Prop)(w':ga)(R:ga->(Nat->Prop)->Prop):Prop:=
 A3 Ft w w'/\∃d,R w' d/\(∀k,d k->k<w'.heap.size)/\∀k,d k->Ft k\/w.heap.size<=k
def Aq.Av{w E L:ga}{Ft:Nat->Prop}{R I:ga->(Nat->Prop)->Prop}(h:Aq w Ft E R)(Y:∀d,R E d->(∀k,d k->k<E.heap.size)->(∀k,d k->Ft k\/w.heap.size<=k)->Aq E d L I):Aq w Ft L I:=by
 obtain⟨O,d,hr,z,H⟩:=h;have⟨hc2,Ft2,hr2,hlt2,hs2⟩:=Y d hr z H;refine⟨O.Av hc2 λx hx z=>(H x hx).resolve_right (by omega),Ft2,hr2,hlt2,λk W=>?_⟩;rcases hs2 k W with h|h
 ·exact H k h
 ·exact .inr (AJ O.Aj h)
def Aq.a8{w z w':ga}{Ft:Nat->Prop}{R:ga->(Nat->Prop)->Prop}(h:Aq z Ft w' R)(E:A3 Ab w z):Aq w Ft w' R:=by
 obtain⟨O,d,I,W,L⟩:=h;exact⟨(E.aY).tr O,d,I,W,λk H=>(L k H).imp id λh=>AJ E.Aj h⟩
def Aq.fq{w w':ga}{Ft:Nat->Prop}{R z:ga->(Nat->Prop)->Prop}(h:Aq w Ft w' R)(O:∀d,(∀k,d k->k<w'.heap.size)->R w' d->z w' d):Aq w Ft w' z:=by
 obtain⟨L,d,H,E,I⟩:=h;exact⟨L,d,O d E H,E,I⟩
def Aq.aZ{w w':ga}{Ft d:Nat->Prop}{R:ga->(Nat->Prop)->Prop}(h:Aq w Ft w' R)(E:∀k,Ft k->d k):Aq w d w' R:=by
 obtain⟨O,z,I,W,L⟩:=h;exact⟨O.af λx _ Y=>E x Y,z,I,W,λk H=>(L k H).imp (E k) id⟩
def Bf(w:ga)(b:Nat)(P:PD)(Ft:Nat->Prop):Prop:=B1 w b P.D P.F Ft
def Bf.aN{w w':ga}{b:Nat}{P:PD}{Ft:Nat->Prop}(h:Bf w b P Ft)(d:Gb Ft w w'):Bf w' b P Ft:=B1.aN h d
def Dx(w:ga)(size:Nat)(v:gd)(n:Nat)(xs:gh gd):Prop:=
 xs.length=n*size/\∃a cap,v=.slice a n cap/\n<=cap/\cap<=maxLen/\(∀g,v.ownBlock=some g->g<w.heap.size)/\
  ∀j u,xs[j]?=some u->∃g o,a=some ⟨g,o,none⟩/\w.cell? ⟨g,o+j,none⟩=some u
def Dx.aN{w w':ga}{size n:Nat}{v:gd}{xs:gh gd}(h:Dx w size v n xs)(z:∀g,v.ownBlock=some g->w'.heap[g]?=w.heap[g]?):Dx w' size v n xs:=by
 obtain⟨L,a,cap,rfl,H,Y,I,O⟩:=h;refine⟨L,a,cap,rfl,H,Y,λg d=>?_,λj u hj=>?_⟩
 ·have:=z g d;have W:=I g d;rcases Fc g w'.heap.size with h|h
  ·exact h
  ·rw[O5 h]at this;rw[A5n W]at this;cases this
 ·obtain⟨g,o,rfl,E⟩:=O j u hj;refine⟨g,o,rfl,?_⟩;have:=z g rfl;unfold World.cell? at E ⊢;rw[this];exact E
def Dx.Al{S:Nat->Prop}{w w':ga}{size n:Nat}{v:gd}{xs:gh gd}(h:Dx w size v n xs)(H:A3 S w w')(E:∀g,v.ownBlock=some g->¬S g):Dx w' size v n xs:=by
 refine h.aN λg d=>H.An g ?_ (E g d);obtain⟨_,a,cap,rfl,_,_,z,_⟩:=h;exact z g d
def Dx.lt{w:ga}{size n:Nat}{v:gd}{xs:gh gd}(h:Dx w size v n xs){g:Nat}(z:v.ownBlock=some g):g<w.heap.size:=by
 obtain⟨_,a,cap,rfl,_,_,d,_⟩:=h;exact d g z
def Dx.ds{w:ga}{d e size n:Nat}{v:gd}{xs:gh gd}(h:w.ownsRow d e size v n xs):Dx w size v n xs:=by
 obtain⟨a,cap,rfl,W,H,h3,O,Y⟩:=B9 h;refine⟨h.1,a,cap,rfl,W,H,λg L=>AF h L,λj u z=>?_⟩;cases ha:a with
 | none=>
  subst ha;have I:=(O rfl).1;have E:=h.1;rw[I]at E;have:xs=[]:=by simpa using E
  rw[this]at z;simp at z
 | some x=>
  subst ha;obtain⟨g,rfl⟩:=Y x rfl;exact⟨g,0,rfl,by simpa using BH h rfl z⟩
def Dx.Cd{w:ga}{size n:Nat}{v:gd}{xs:gh gd}(h:Dx w size v n xs):∃a cap,v=.slice a n cap/\n<=cap/\cap<=maxLen:=by
 obtain⟨_,a,cap,z,d,E,_⟩:=h;exact⟨a,cap,z,d,E⟩
def Dx.bI{w:ga}{size:Nat}:Dx w size (.slice none 0 0) 0 []:=
 ⟨by simp,none,0,rfl,Ao _,by decide,λg h=>by simp[Value.ownBlock]at h,λj u d=>by simp at d⟩
def DZ(l:gh Int):gh Value:=l.map λn=>A0 n
def UQ(l:gh Int):(DZ l).length=l.length:=by simp[DZ]
def LN(a b:gh Int):DZ (a++b)=DZ a++DZ b:=by simp[DZ]
def PM(l:gh Int)(k:Nat)(h:k<l.length):(DZ l)[k]?=some (A0 (l[k]'h)):=by simp[DZ,h]
def Kk(l:gh Int):∀u∈DZ l,u.oneCell'=true:=by
 intro u hu;simp[DZ]at hu;obtain⟨x,_,rfl⟩:=hu;rfl
def Db(w:ga)(v:gd)(l:gh Int):Prop:=Dx w 1 v l.length (DZ l)
def DF(w:ga)(v:gd)(l:gh Int):Prop:=w.ownsRow 0 3 1 v l.length (DZ l)
def DF.rd{w:ga}{v:gd}{l:gh Int}(h:DF w v l):Db w v l:=Dx.ds h
def Ds(l:gh Bs):gh Value:=l.map λx=>.string ⟨x.toArray⟩
def Ns(a b:gh Bs):Ds (a++b)=Ds a++Ds b:=by simp[Ds]
def A32(l:gh Bs)(k:Nat)(h:k<l.length):(Ds l)[k]?=some (.string ⟨(l[k]'h).toArray⟩):=by simp[Ds,h]
def Nr(l:gh Bs):∀u∈Ds l,u.oneCell'=true:=by
 intro u hu;simp[Ds]at hu;obtain⟨x,_,rfl⟩:=hu;rfl
def Yc(l:gh gg):FG l=Ds (l.map λb=>b.data.toList):=by simp[FG,Ds]
def GC(w:ga)(v:gd)(l:gh Bs):Prop:=Dx w 1 v l.length (Ds l)
def Dg(w:ga)(v:gd)(l:gh Bs):Prop:=w.ownsRow 0 9 1 v l.length (Ds l)
def Dg.rd{w:ga}{v:gd}{l:gh Bs}(h:Dg w v l):GC w v l:=Dx.ds h
def HR(w:ga)(v:gd)(l:gh Pu):Prop:=Dx w 3 v l.length (Bb l)
def AX.rd{w:ga}{v:gd}{l:gh Pu}(h:AX w v l):HR w v l:=Dx.ds h
def Db.at{w:ga}{a:Option Addr}{n cap:Nat}{l:gh Int}(h:Db w (.slice a n cap) l)(k:Nat)(d:k<l.length):∃g o,a=some (Ac g o)/\A7 w g (o+k) (A0 (l[k]'d)):=by
 obtain⟨_,a',cap',e,_,_,_,z⟩:=h;cases e;exact z k _ (PM l k d)
def HR.at{w:ga}{a:Option Addr}{n cap:Nat}{l:gh Pu}(h:HR w (.slice a n cap) l)(k:Nat)(d:k<l.length):∃g o,a=some (Ac g o)/\g<w.heap.size/\A7 w g (o+k*3) (A0 (l[k]'d).1)/\A7 w g (o+k*3+1) (A0 (l[k]'d).2.1)/\A7 w g (o+k*3+2) (A0 (l[k]'d).2.2):=by
 obtain⟨_,a',cap',e,_,_,E,z⟩:=h;cases e;have⟨q1,q2,q3⟩:=Hz l k d;obtain⟨g,o,rfl,c1⟩:=z _ _ q1;have⟨g',o',e,c2⟩:=z _ _ q2;cases e;have⟨g',o',e,c3⟩:=z _ _ q3;cases e;exact⟨g,o,rfl,E g rfl,c1,c2,c3⟩
def GC.at{w:ga}{a:Option Addr}{n cap:Nat}{l:gh Bs}(h:GC w (.slice a n cap) l)(k:Nat)(d:k<l.length):∃g o,a=some (Ac g o)/\A7 w g (o+k) (.string ⟨(l[k]'d).toArray⟩):=by
 obtain⟨_,a',cap',e,_,_,_,z⟩:=h;cases e;exact z k _ (A32 l k d)
end
end Go.Proofs.YtodcnkbblippnaaGreatDoor
