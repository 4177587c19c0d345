/- Part 5 of a proof: walks of the program. -/
import Derived.Lib.AtoiAllCases
import Derived.Test.YtodcnkbblippnaaGreatDoorPart04
namespace Go.Proofs.YtodcnkbblippnaaGreatDoor
set_option maxRecDepth 100000
set_option maxHeartbeats 32000000
set_option linter.defProp false
open Go.Proofs.Tryz
section
open Go.RowKit
attribute [local go_sem ↓] Go.wp_at_zero Go.wp_at_succ
def DV:Nat->Nat->gD UInt8->gD Pu×Bool
 | 0,_,_=>([],true)
 | k+1,s,l=>if l.length<21 then ([],true) else
  if Cj (AY s (l.take 17))=(l.drop 17).take 4/\(l.headD 0).toNat<8 then
   ((((l.headD 0).toNat:Int),BM (l.drop 1),BM (l.drop 9)):: (DV k (AY s (l.take 17)) (l.drop 21)).1,(DV k (AY s (l.take 17)) (l.drop 21)).2)
  else ([],false)
def Sn{k s:Nat}{l:gD UInt8}(h:l.length<21):DV k s l=([],true):=by cases k<;>simp[DV,h]
def Sr{k s:Nat}{b:UInt8}{d t r:gD UInt8}(z:d.length=16)(E:t.length=4)(h:Cj (AY s (b::d))=t)(X:b.toNat<8):
 DV (k+1) s (b::d++t++r)=(((b.toNat:Int),BM d,BM (d.drop 8)):: (DV k (AY s (b::d)) r).1,(DV k (AY s (b::d)) r).2):=by
 have L:(b::d++t++r).take 17=b::d:=by simp[z]
 have Y:((b::d++t++r).drop 17).take 4=t:=by simp[z,E]
 have O:(b::d++t++r).drop 21=r:=by
  rw[M9,It (by simp[z,E])];simp[z,E]
 have W:BM ((b::d++t++r).drop 1)=BM d:=by
  have e:(b::d++t++r).drop 1=d++(t++r):=by simp
  unfold BM;rw[e,Hn (by omega)]
 have I:BM ((b::d++t++r).drop 9)=BM (d.drop 8):=by
  have e:(b::d++t++r).drop 9=d.drop 8++(t++r):=by
   simp only[G2,Ci,DH];rw[M8 (by omega)]
  unfold BM;rw[e,Hn (by simp;omega)]
 simp only[DV,L,Y,O,W,I];rw[Af (by simp[z,E];omega),Ai (by simpa using⟨h,X⟩)];rfl
def Z8{k s:Nat}{b:UInt8}{d t r:gD UInt8}(z:d.length=16)(E:t.length=4)(h:¬(Cj (AY s (b::d))=t/\b.toNat<8)):
 DV (k+1) s (b::d++t++r)=([],false):=by
 have I:(b::d++t++r).take 17=b::d:=by simp[z]
 have L:((b::d++t++r).drop 17).take 4=t:=by simp[z,E]
 simp only[DV,I,L];rw[Af (by simp[z,E];omega),Af (by simpa using h)]
def A0A{l:gD UInt8}(h:21<=l.length):∃(b:UInt8) (d t r:gD UInt8),l=b::d++t++r/\d.length=16/\t.length=4:=by
 cases l with
 | nil=>simp at h
 | cons b l=>
  simp at h;refine⟨b,l.take 16,(l.drop 16).take 4,l.drop 20,?_,by simp;omega,by simp;omega⟩;simp only[G2,Ci,List.cons.injEq,true_and];rw[show l.drop 20=(l.drop 16).drop 4 by simp,E4,E4]
def A1N{l:gD UInt8}(h:12<=l.length):∃(d t r:gD UInt8),l=d++t++r/\d.length=8/\t.length=4:=by
 refine⟨l.take 8,(l.drop 8).take 4,l.drop 12,?_,by simp;omega,by simp;omega⟩;rw[Ci,show l.drop 12=(l.drop 8).drop 4 by simp,E4,E4]
def Gy(s:Nat)(d:Int)(l:gD UInt8):gD Pu×Int:=
 if l.length<12 then ([],0) else
 if Cj (AY s (l.take 8))=(l.drop 8).take 4/\BM l=d then
  (if (DV l.length (AY s (l.take 8)) (l.drop 12)).2=true then ((DV l.length (AY s (l.take 8)) (l.drop 12)).1,0) else ([],7))
 else ([],7)
def Ss{s:Nat}{E:Int}{d t r:gD UInt8}(h:d.length=8)(z:t.length=4):
 Gy s E (d++t++r)=if Cj (AY s d)=t/\BM d=E then (if (DV (r.length+12) (AY s d) r).2=true then ((DV (r.length+12) (AY s d) r).1,0) else ([],7)) else ([],7):=by
 have L:(d++t++r).take 8=d:=by simp[h]
 have X:((d++t++r).drop 8).take 4=t:=by simp[h,z]
 have O:(d++t++r).drop 12=r:=by
  rw[M9,It (by simp[h,z])];simp[h,z]
 have W:BM (d++t++r)=BM d:=by unfold BM;rw[Ci,Hn (by omega)]
 have I:(d++t++r).length=r.length+12:=by simp[h,z];omega
 unfold Gy;rw[Af (by simp[h,z];omega),L,X,O,W,I]
def B1(w:gx)(v:gy)(l:gD Pu):Prop:=w.ownsRow 0 113 3 v l.length (B5 l)
def IT:(Tryz.prog.info? 113).map (λi=>(i.zero,i.size,i.bytes))=some (some (.agg #[A0 0,A0 0,A0 0]),3,24):=by kernel_rfl
section
variable{w:gx}{b B:Nat}{D:DS}{F:Nat->FC}{Ft:Nat->Prop}{n:Int}
def H0(D:DS)(F:Nat->FC)(nm:gD UInt8)(d:Int):gD Pu×Int:=
 if (Eb D F ⟨nm.toArray⟩).2≠0 then ([],(Eb D F ⟨nm.toArray⟩).2) else Gy (AI nm) d (Eb D F ⟨nm.toArray⟩).1
def Zb(w:gx)(ag:Int)(h:AW w b D F Ft)(aJ:∀k,Ft k->k<w.heap.size)(hn:CK n)(hL:Lets B w)(aI:(Eb D F ⟨(BT 1 n).toArray⟩).1.length<=70368744177664):
 Ag 149 #[A5 b,A0 n,A0 ag] w λe w'=>∃v,e=.returned (.tuple #[v,A0 (H0 D F (BT 1 n) ag).2])/\B1 w' v (H0 D F (BT 1 n) ag).1/\(∀g,v.ownBlock=some g->w.heap.size<=g)/\A4 Aa w w':=by
 have cD:=A1 (TP w b hn hL);generalize hnm:BT 1 n=nm at cD aI ⊢;have aU:Hid (AI nm<4294967296):=K3 nm;have H:=A1 h;have b2:=A1 aJ;obtain⟨R,hR⟩:∃R,H0 D F nm ag=R:=⟨_,rfl⟩;rw[hR];unfold H0 at hR;obtain⟨al,aS⟩:∃al,(Eb D F ⟨nm.toArray⟩).1=al:=⟨_,rfl⟩;obtain⟨ae,bP⟩:∃ae,(Eb D F ⟨nm.toArray⟩).2=ae:=⟨_,rfl⟩
 have cM:Hid (∀w1 lb,A4 Aa w w1->Bi w1 lb 237 (A5 b) ⟨nm.toArray⟩ (AI nm)->
  Ag 166 #[A5 lb] w1 (Aj (.tuple #[.string ⟨al.toArray⟩,A0 ae]) λw'=>A4 Aa w1 w')):=λw1 lb k1 hf=>by
  have:=Vx hf (H.o.aw b2.o k1)
  rwa [aS,bP]at this
 rw[aS,bP]at hR;rw[aS]at aI;generalize hs:AI nm=s0 at cD aU hR cM;have cG:=A1 hR;have⟨i0,hi,hz0,hz1,hz2⟩:=DL IT
 go_enter func149,ntmps149
 go_wp2_with (go_at_call 192;refine cD.m ?_;rintro e w1⟨lb,rfl,bR,bC,cI⟩;have cA:=A1 (cM.o w1 lb bC bR);have bZ:=A1 bR;have b3:=A1 bC;have a7:=A1 cI);refine cA.k ?_;rintro w2 bD;have cH:=A1 (bZ.o.al bD (λh=>h));have aX:Hid (A4 Aa w w2):=b3.o.tr bD;have aA:Hid (∀x:Int,R=([],x)->∀w3,A4 Aa w w3->∃v,(Ending.returned (.tuple #[.slice none 0 0,A0 x]):Ending)=.returned (.tuple #[v,A0 R.2])/\B1 w3 v R.1/\(∀g,v.ownBlock=some g->w.heap.size<=g)/\A4 Aa w w3):=λx hx w3 h3=>by
  subst hx;exact⟨_,rfl,Co _ _ _ _,λg hg=>by simp[Value.ownBlock]at hg,h3⟩
 by_cases he:ae=0
 case neg=>
  have L:R=([],ae):=by rw[<-cG.o,Ai he]
  go_wp2;go_ret2;exact aA.o _ L _ aX.o
 case pos=>
 subst he;have E:(ByteArray.mk al.toArray).size=al.length:=by show al.toArray.size=_;simp
 by_cases aY:al.length<12
 case pos=>
  have L:R=([],0):=by rw[<-cG.o,Af (by simp)];unfold Gy;rw[Ai aY]
  go_wp2;go_ret2;exact aA.o _ L _ aX.o
 case neg=>
 obtain⟨hd,t4,r,rfl,aE,z⟩:=A1N (l:=al) (by omega);have cJ:R=if Cj (AY s0 hd)=t4/\BM hd=ag then (if (DV (r.length+12) (AY s0 hd) r).2=true then ((DV (r.length+12) (AY s0 hd) r).1,0) else ([],7)) else ([],7):=by
  rw[<-cG.o,Af (by simp),Ss aE z]
 have aH:=A1 cJ;have bU:=A1 (O4 w2.drew lb 237 _ _ s0 hd t4 cH.o aU.o z (by omega));have e1:(ByteArray.mk (hd++t4++r).toArray).extract 0 12=⟨(hd++t4).toArray⟩:=by
  rw[extract_mk,Dl,Hn (by simp[aE,z]),El (by simp[aE,z])]
 obtain⟨tx,a5⟩:∃tx,ByteArray.mk (hd++t4++r).toArray=tx:=⟨_,rfl⟩;have bE:tx.extract 12 (r.length+12)=⟨r.toArray⟩:=by
  rw[<-a5,extract_mk]
  congr 2
  rw[M9,It (by simp[aE,z]),Fa,show 12-(hd++t4).length=0 by simp[aE,z],Dl,El (by omega)]
 have aQ:(hd++t4++r).length=r.length+12:=by simp[aE,z];omega
 rw[a5]at e1 E ⊢;rw[aQ]at E aI aY;have bN:(0:Int)<=(r.length:Int):=Gu _;generalize b7:r.length=rl at E aI aY bE bN;have aT:=A1 b7;go_wp2;refine Br (λ_=>True) 10
  (Ba [0,1,2,3,4,5,6,7,8,9] [5]) trivial ?_
 iterate 5 refine B4 ?_
 refine Bf λK hK=>?_;go_simp;refine bU.k ?_;rintro w3⟨b4,b8⟩;refine hK _ _ trivial (λhS=>?_);have a3:=A1 b4;have aG:Hid (A4 Aa w w3):=aX.o.aa.AH b8 λk hk aJ=>by cases hk;have:=a7.o;omega
 iterate 4 refine B4 ?_
 refine Bo ?_;by_cases Y:Cj (AY s0 hd)=t4
 case neg=>
  have L:R=([],7):=by rw[aH.o,Af (λh=>Y h.1)]
  have aP:decide (Cj (AY s0 hd)=t4)=false:=Cv Y;go_wp2;go_ret2;exact aA.o _ L _ aG.o
 case pos=>
 have aP:decide (Cj (AY s0 hd)=t4)=true:=Cu Y;have aV:=A1 (MT w3 hd (by omega));have cE:Hid (-9223372036854775808<=BM hd/\BM hd<=9223372036854775807):=by unfold Hid BM wrap64;omega
 generalize hih2:BM hd=ih at aV aH cE;obtain⟨s1,bK⟩:∃s1,AY s0 hd=s1:=⟨_,rfl⟩;have bB:Hid (s1<4294967296):=by rw[<-bK];exact JZ _ _ aU.o
 rw[bK]at aH a3 aP Y ⊢;have bX:=A1 Y;rw[aP];by_cases aD:ih=ag
 case neg=>
  have L:R=([],7):=by rw[aH.o,Af (λh=>aD h.2)]
  have bH:(ih !=ag)=true:=by simpa using aD
  go_wp2_with (go_at_call 168;refine aV.k ?_;rintro w4 rfl);go_ret2;exact aA.o _ L _ aG.o
 case pos=>
 have aW:Hid (R=if (DV (rl+12) s1 r).2=true then ((DV (rl+12) s1 r).1,0) else ([],7)):=by
  have:=aH.o;rw[Ai ⟨bX.o,aD⟩]at this
  rwa [aT.o]at this
 generalize hP:DV (rl+12) s1 r=P at aW;have cS:=A1 hP;have bH:(ih !=ag)=false:=by simpa using aD
 go_wp2_with (go_at_call 168;refine aV.k ?_;rintro w4 rfl);go_loopw [9,13] (λtv v wr=>∃(l:gD UInt8) (k:Nat) (W:gD Pu),tv=.string ⟨l.toArray⟩/\W.length*21+l.length<=rl/\Hid (∃s,s<4294967296/\Bi wr lb 237 (A5 b) ⟨nm.toArray⟩ s/\B1 wr v W/\(∀g,v.ownBlock=some g->w3.heap.size<=g)/\(A4 Aa w wr/\w3.heap.size<=wr.heap.size)/\l.length<=k/\P=(W++(DV k s l).1,(DV k s l).2))) (λtv _ _=>match tv with | .string x=>x.size|_=>0)
 ·exact⟨r,rl+12,[],rfl,by simp[aT.o],s1,bB.o,a3.o,Co _ _ _ _,λg hg=>by simp[Value.ownBlock]at hg,⟨aG.o,Ao _⟩,by have:=aT.o;omega,by rw[cS.o];simp⟩
 ·obtain⟨l,k,W,rfl,bG,hI⟩:=hrel;have E:(ByteArray.mk l.toArray).size=l.length:=by show l.toArray.size=_;simp
  by_cases a0:l.length<21
  case pos=>
   obtain⟨s,-,-,i3,i4,⟨i5,-⟩,-,i7⟩:=hI.o;rw[Sn a0]at i7;simp only[Gt]at i7;have bW:R=(W,0):=by
    have:=aW.o;rw[i7]at this;simpa using this
   subst bW;go_wp2;go_ret2;exact⟨_,rfl,i3,λg hg=>AP aG.o.Ak (i4 g hg),i5⟩
  case neg=>
   obtain⟨c,d,t,q,rfl,O,z⟩:=A0A (l:=l) (by omega);have⟨s,i1,i2,i3,i4,⟨i5,i5b⟩,i6,i7⟩:=hI.o;obtain⟨k,rfl⟩:∃k',k=k'+1:=⟨k-1,by simp at i6;omega⟩;obtain⟨ap,cp,rfl,hcap1,a4,-⟩:=B8 i3;unfold maxLen at a4;have bU:=A1 (O4 wr.drew lb 237 _ _ s (c::d) t i2 i1 z (by simp;omega));have e1:(ByteArray.mk (c::d++t++q).toArray).extract 0 21=⟨(c::d++t).toArray⟩:=by
    rw[extract_mk,Dl,Hn (by simp[O,z]),El (by simp[O,z])]
   (have aQ:(c::d++t++q).length=q.length+21:=by simp[O,z];omega);obtain⟨ty,a6⟩:∃ty,ByteArray.mk (c::d++t++q).toArray=ty:=⟨_,rfl⟩;have e2:ty.extract 21 (q.length+21)=⟨q.toArray⟩:=by
    rw[<-a6,extract_mk]
    congr 2
    rw[M9,It (by simp[O,z]),Fa,show 21-(c::d++t).length=0 by simp[O,z],Dl,El (by omega)]
   rw[a6]at e1 E ⊢;rw[aQ]at E bG a0 i6;have aL:=λh1 h2=>@Sr k s c d t q O z h1 h2;have bJ:=λh=>@Z8 k s c d t q O z h;generalize hRP:DV (k+1) s (c::d++t++q)=RP at i7 aL bJ;have b9:=A1 aL;have bA:=A1 bJ;have a9:=A1 i7;have H2:=A1 i2;have cN:=A1 i3;have bT:=A1 i4;have cO:=A1 i5;have bY:=A1 i5b;have cL:=A1 i6;have cQ:=A1 (λw5=>SD w5 c d (by omega));obtain⟨s',bF⟩:∃s',AY s (c::d)=s':=⟨_,rfl⟩;(have bS:Hid (s'<4294967296):=by rw[<-bF];exact JZ _ _ i1);rw[bF]at bU b9 bA;generalize cC:q.length=ql at E bG a0 cL e2;have aO:=A1 cC;have hq0:=BJ ql;go_wp2;refine Br (λ_=>True) 10
    (Ba [0,1,2,3,4,5,6,7,8,9] [5]) trivial ?_
   iterate 5 refine B4 ?_
   refine Bf λK hK=>?_;go_simp;refine bU.k ?_;rintro w5⟨b5,a2⟩;refine hK _ _ trivial (λhS=>?_);have cB:=A1 b5;have bI:Hid (lb<w3.heap.size):=a3.o.lt;(have aZ:Hid (A4 Aa w w5):=cO.o.aa.AH a2 λx hx aJ=>by cases hx;have:=a7.o;omega);have bO:Hid (B1 w5 (.slice ap W.length cp) W):=Au cN.o λg hg=>a2.Al g (Aw cN.o hg) (λe=>by cases e;have:=bT.o _ hg;have:=bI.o;omega);have b6:Hid (w3.heap.size<=w5.heap.size):=AP bY.o a2.Ak
   iterate 4 refine B4 ?_
   refine Bo ?_;have aF:=A1 (cQ.o w5);have aN:Hid (¬(Cj s'=t/\c.toNat<8)->R=([],7)):=λh=>by
    have h1:=a9.o;rw[bA.o h]at h1;have h2:=aW.o;rw[h1]at h2;simpa using h2
   obtain⟨x1,cF⟩:∃x1,BM d=x1:=⟨_,rfl⟩;obtain⟨x2,bV⟩:∃x2,BM (d.drop 8)=x2:=⟨_,rfl⟩;rw[cF,bV]at aF b9;have aK:Hid (∀I,A4 Aa w5 I->Ce (I.alloc (.cells #[A0 c.toNat,A0 x1,A0 x2] 113)) I.heap.size c.toNat x1 x2/\A4 Aa w5 (I.alloc (.cells #[A0 c.toNat,A0 x1,A0 x2] 113))):=λI X=>
    ⟨Bl I _,X.aj _⟩
   by_cases Y:Cj s'=t
   case neg=>
    have L:=aN.o (λh=>Y h.1);rw[show decide (Cj s'=t)=false from Cv Y];go_wp2_with (go_at_call 176;refine aF.k ?_;rintro I X;have⟨b1,k7⟩:=aK.o I X;have q0:=b1.c0;have q1:=b1.c1;have q2:=b1.c2;have a1:=A1 k7);go_ret2;exact aA.o _ L _ (aZ.o.tr a1.o)
   case pos=>
   rw[show decide (Cj s'=t)=true from Cu Y];by_cases aD:c.toNat<8
   case neg=>
    have L:=aN.o (λh=>aD h.2);rw[show decide (c.toNat<8)=false from Cv aD]at aF;go_wp2_with (go_at_call 176;refine aF.k ?_;rintro I X;have⟨b1,k7⟩:=aK.o I X;have q0:=b1.c0;have q1:=b1.c1;have q2:=b1.c2;have a1:=A1 k7);go_ret2;exact aA.o _ L _ (aZ.o.tr a1.o)
   case pos=>
    have bL:Hid (∀I,A4 Aa w5 I->
     (((I.alloc (.cells #[A0 c.toNat,A0 x1,A0 x2] 113)).alloc (.cells #[A0 c.toNat,A0 x1,A0 x2] 113)).ownsRow 0 113 3 (.slice ap W.length cp) W.length (B5 W))/\
     ∀w8 a8 aB,App ((I.alloc (.cells #[A0 c.toNat,A0 x1,A0 x2] 113)).alloc (.cells #[A0 c.toNat,A0 x1,A0 x2] 113)) w8 113 3 (.slice ap W.length cp) (.slice a8 (W.length+1) aB) (W.length+1) (B5 W++B5 [((c.toNat:Int),x1,x2)])->
      Bi w8 lb 237 (A5 b) ⟨nm.toArray⟩ s'/\B1 w8 (.slice a8 (W.length+1) aB) (W++[((c.toNat:Int),x1,x2)])/\(∀g,(Value.slice a8 (W.length+1) aB).ownBlock=some g->w3.heap.size<=g)/\A4 Aa w w8/\w3.heap.size<=w8.heap.size):=λI X=>by
     have k9:A4 Aa w5 ((I.alloc (.cells #[A0 c.toNat,A0 x1,A0 x2] 113)).alloc (.cells #[A0 c.toNat,A0 x1,A0 x2] 113)):=(aK.o I X).2.aj _;generalize ((I.alloc (.cells #[A0 c.toNat,A0 x1,A0 x2] 113)).alloc (.cells #[A0 c.toNat,A0 x1,A0 x2] 113))=w9 at k9 ⊢;refine⟨Au bO.o λg hg=>k9.Al g (Aw bO.o hg) (λh=>h),λw8 a8 aB hA=>?_⟩;have aR:=hA.Am (S:=λk=>(Value.slice ap W.length cp).ownBlock=some k) λ_ h=>h;have bQ:w3.heap.size<=w9.heap.size:=AP b6.o k9.Ak;refine⟨(cB.o.al k9 (λh=>h)).al aR (λhg=>by have:=bT.o _ hg;have:=bI.o;omega),?_,?_,?_,?_⟩
     ·have:=hA.AB;unfold B1;rw[Ig];simpa using this
     ·intro g hg;rcases hA.BY with h|h
      ·rw[h]at hg;exact bT.o g hg
      ·rw[h]at hg;cases hg;exact bQ
     ·exact(aZ.o.tr k9).AH aR λx hx aJ=>by have:=bT.o x hx;have:=aG.o.Ak;omega
     ·exact AP bQ aR.Ak
    rw[show decide (c.toNat<8)=true from Cu aD]at aF
    go_wp2_with (first
     | (go_at_call 176;refine aF.k ?_;rintro I X;have⟨b1,k7⟩:=aK.o I X;have q0:=b1.c0;have q1:=b1.c1;have q2:=b1.c2;have b0:=A1 X)
     | (at_builtin
        have aM:=A1 (bL.o I b0.o);have bM:=A1 (Src.bc (size:=3) (B:=I.heap.size+1) GP (I.alloc (.cells #[A0 c.toNat,A0 x1,A0 x2] 113)) #[A0 c.toNat,A0 x1,A0 x2] 113 (by simp) 1 1 rfl (Hu [((c.toNat:Int),x1,x2)]));refine CU rfl (.tmp 80) (.tmp 82) 97 97 rfl 113 i0 _ 3 24 GP hi hz0 hz1 hz2 rfl (by decide) (.slice ap W.length cp) W.length (B5 W) (by rfl) aM.o.1 _ 1 _ (by rfl) bM.o (by omega) ?_;intro a8 aB w8 hA;have cP:=A1 (aM.o.2 w8 a8 aB hA)
        clear hA))
    go_roundw
    ·have⟨r1,r2,r3,r4,r5⟩:=cP.o;refine⟨q,k,W++[((c.toNat:Int),x1,x2)],rfl,by have:=aO.o;simp;omega,s',bS.o,r1,r2,r3,⟨r4,r5⟩,by have:=cL.o;have:=aO.o;omega,?_⟩;rw[a9.o,b9.o Y aD];simp
    ·(have e:(ByteArray.mk q.toArray).size=q.length:=by show q.toArray.size=_;simp);have:=aO.o;simp only[e,E];omega
end
end
section
open Go.RowKit
structure PD where
 D:DS
 F:Nat->FC
def IX:gD AO->Nat
 | []=>0
 | e::r=>max (e.2+1) (IX r)
def PE{es:gD AO}{f:Nat}(h:Dp f es):f<IX es:=by
 induction es with
 | nil=>obtain⟨e,d,_⟩:=h;cases d
 | cons x t ih=>
  obtain⟨e,d,rfl⟩:=h;unfold IX;rcases BS.1 d with rfl|d
  ·omega
  ·have:=ih ⟨e,d,rfl⟩;omega
def Kv:gD (gD AO)->Nat
 | []=>0
 | c::r=>max (IX c) (Kv r)
def A3g{l:gD (gD AO)}{c:gD AO}{f:Nat}(d:c∈l)(h:Dp f c):f<Kv l:=by
 induction l with
 | nil=>cases d
 | cons x t ih=>
  unfold Kv;rcases BS.1 d with rfl|d
  ·have:=PE h;omega
  ·have:=ih d;omega
def DS.AV(D:DS):Nat:=max (IX D.A6) (max (IX D.AF) (Kv D.As))
def DS.cC(D:DS):¬D.Aq D.AV:=by
 intro h;have:D.AV<D.AV:=by
  rcases h with h|h|⟨c,d,h⟩
  ·have:=PE h;unfold DS.AV at *;omega
  ·have:=PE h;unfold DS.AV at *;omega
  ·have:=A3g d h;unfold DS.AV at *;omega
 omega
abbrev Bs:=gD UInt8
def Ab(l:Bs):ByteArray:=⟨l.toArray⟩
def Gj{a b:Bs}:Ab a=Ab b↔a=b:=by
 constructor
 ·intro h;have:=Ep (λx=>x.data.toList) h;simpa[Ab] using this
 ·rintro rfl;rfl
def FR(b:gC):Ab b.data.toList=b:=by simp[Ab]
def PD.au(P:PD)(nm:gC):Int×PD:=((CV P.D nm P.D.AV).1,⟨(CV P.D nm P.D.AV).2,upd P.F P.D.AV ([],0)⟩)
def PD.av(P:PD)(nm:gC)(l:Bs):Int×PD:=((BA P.D P.F nm (Ab l)).1,⟨(BA P.D P.F nm (Ab l)).2.1,(BA P.D P.F nm (Ab l)).2.2⟩)
def PD.ad(P:PD)(nm:gC):Int×PD:=((CN P.D P.F nm).1,⟨(CN P.D P.F nm).2.1,(CN P.D P.F nm).2.2⟩)
def PD.aJ(P:PD):Int×PD:=((E9 P.D).1,⟨(E9 P.D).2,P.F⟩)
def PD.aG(P:PD)(nm:gC):Int×PD:=((Dx P.D nm).1,⟨(Dx P.D nm).2,P.F⟩)
def PD.aR(P:PD)(oe nm:gC):Int×PD:=((D8 P.D oe nm).1,⟨(D8 P.D oe nm).2,P.F⟩)
structure Fit (P:PD) (a c m:Nat):Prop where
 A6:P.D.A6.length<=a
 AF:P.D.AF.length<=a
 FW:∀l∈P.D.As,l.length<=a
 Am:P.D.As.length<=c
 Be:∀f,P.D.Aq f->(P.F f).1.length<=m
 Av : -4611686018427387904<=P.D.n.Av/\P.D.n.Av<=9223372036854775807
 BG:0<=P.D.n.BG/\P.D.n.BG<=9223372036854775807
def Fit.ai{P:PD}{a c m a' z m':Nat}(h:Fit P a c m)(d:a<=a')(O:c<=z)(E:m<=m'):Fit P a' z m':=
 ⟨AP h.A6 d,AP h.AF d,λl L=>AP (h.FW l L) d,AP h.Am O,λf I=>AP (h.Be f I) E,h.Av,h.BG⟩
def R7{F:Nat->FC}{m:Nat}:∀(es:gD AO),(∀f,Dp f es->(F f).1.length<=m)->AU F es<=es.length*m
 | [],_=>by simp[AU]
 | e::r,h=>by
  have h1:=h e.2 ⟨e,BI ..,rfl⟩;have h2:=R7 r λf d=>h f (by obtain⟨x,E,z⟩:=d;exact⟨x,BC _ E,z⟩);simp only[AU,CA,I5,VL];omega
def Fit.bB{P:PD}{a c m:Nat}(h:Fit P a c m):AU P.F P.D.A6<=a*m:=
 AP (R7 _ λf d=>h.Be f (.inl d)) (I4 _ h.A6)
def Vc(n:DN):(bg n).2.2.Av=n.Av/\(bg n).2.2.BG=n.BG:=by
 unfold bg;dsimp only
 split
 ·exact⟨rfl,rfl⟩
 ·split
  ·exact⟨rfl,rfl⟩
  ·split<;>exact⟨rfl,rfl⟩
def Fit.bM{P:PD}{a c m:Nat}(h:Fit P a c m):Fit ⟨{P.D with n:=(bg P.D.n).2.2},P.F⟩ a c m:=
 ⟨h.A6,h.AF,h.FW,h.Am,h.Be,by have:=(Vc P.D.n).1;show _<=(Go.Proofs.YtodcnkbblippnaaGreatDoor.bg P.D.n).2.2.Av/\(Go.Proofs.YtodcnkbblippnaaGreatDoor.bg P.D.n).2.2.Av<=_;rw[this];exact h.Av,by have:=(Vc P.D.n).2;show _<=(Go.Proofs.YtodcnkbblippnaaGreatDoor.bg P.D.n).2.2.BG/\(Go.Proofs.YtodcnkbblippnaaGreatDoor.bg P.D.n).2.2.BG<=_;rw[this];exact h.BG⟩
def A1Y{es:gD AO}{nm:gC}(h:¬B9 es nm<0):(B9 es nm).toNat<es.length:=by
 have:=UA es nm;omega
def Fit.an{P:PD}{a c m a':Nat}(h:Fit P a c m){es:gD AO}(L:es.length<=a')(O:a<=a')(I:∀f,Dp f es->(P.F f).1.length<=m):Fit ⟨{P.D with A6:=es,As:=P.D.As++[es],n:=(Go.Proofs.YtodcnkbblippnaaGreatDoor.bg P.D.n).2.2},P.F⟩ a' (c+1) m:=by
 have W:=h.bM;refine⟨L,AP h.AF O,λl z=>?_,?_,λf d=>?_,W.Av,W.BG⟩
 ·rcases AX.1 z with z|z
  ·exact AP (h.FW l z) O
  ·simp at z;subst z;exact L
 ·have:=h.Am;simp;omega
 ·rcases d with d|d|⟨x,E,d⟩
  ·exact I f d
  ·exact h.Be f (.inr (.inl d))
  ·rcases AX.1 E with E|E
   ·exact h.Be f (.inr (.inr ⟨x,E,d⟩))
   ·simp at E;subst E;exact I f d
def Fit.au{P:PD}{a c m:Nat}(h:Fit P a c m)(nm:gC):Fit (P.au nm).2 (a+1) (c+1) m:=by
 have z:Fit ⟨P.D,upd P.F P.D.AV ([],0)⟩ a c m:=⟨h.A6,h.AF,h.FW,h.Am,λf I=>by
  unfold upd;by_cases E:f=P.D.AV
  ·simp[E]
  ·simp only[E,Cd];exact h.Be f I,h.Av,h.BG⟩
 unfold PD.au CV;split
 ·exact z.ai (by omega) (by omega) (Ao _)
 ·dsimp only
  split
  ·refine z.an (a':=a+1) ?_ (by omega) ?_
   ·have:=h.A6;simp;omega
   ·rintro f⟨x,d,rfl⟩;rcases AX.1 d with d|d
    ·exact z.Be _ (.inl ⟨x,d,rfl⟩)
    ·simp at d;subst d;simp[upd]
  ·exact z.bM.ai (by omega) (by omega) (Ao _)
def Fit.cS{P:PD}{a c m:Nat}(h:Fit P a c m)(f:Nat)(x:FC)(E:x.1.length<=m):Fit ⟨P.D,Go.Proofs.YtodcnkbblippnaaGreatDoor.upd P.F f x⟩ a c m:=⟨h.A6,h.AF,h.FW,h.Am,λg z=>by
 unfold Go.Proofs.YtodcnkbblippnaaGreatDoor.upd;by_cases d:g=f
 ·simp[d];exact E
 ·simp only[d,Cd];exact h.Be g z,h.Av,h.BG⟩
def Fit.ec{P:PD}{a c m:Nat}(h:Fit P a c m){f:Nat}(E:P.D.Aq f)(l:Bs)(n0 e:Int):Fit ⟨(BP P.D P.F f (Ab l) n0 e).2.1,(BP P.D P.F f (Ab l) n0 e).2.2⟩ a c (m+l.length):=by
 have d:=h.ai (Ao a) (Ao c) (VQ m l.length);have hl:=h.Be f E;have hu:∀k:Nat,((P.F f).1++(Ab l).data.toList.take k).length<=m+l.length:=λk=>by
  simp only[B3,BK,Ab];omega
 unfold BP;split
 ·by_cases z:e=0
  ·simp only[z,Cq];have:=d.cS f ((P.F f).1++(Ab l).data.toList.take (Gn P.D P.F).toNat,(P.F f).2) (hu _);exact⟨this.A6,this.AF,this.FW,this.Am,this.Be,this.Av,this.BG⟩
  ·simp only[z,Cd];exact d.cS f _ (hu _)
 ·exact d.cS f _ (hu _)
def Fit.av{P:PD}{a c m:Nat}(h:Fit P a c m)(nm:gC)(l:Bs):Fit (P.av nm l).2 a c (m+l.length):=by
 unfold PD.av BA;cases hx:lookup P.D.A6 nm with
 | none=>exact h.ai (Ao _) (Ao _) (by omega)
 | some f=>
  have d:=Gl hx;dsimp only
  split
  ·exact h.bM.ec (P:=⟨{P.D with n:=(bg P.D.n).2.2},P.F⟩) d l _ _
  ·split
   ·exact h.bM.ec (P:=⟨{P.D with n:=(bg P.D.n).2.2},P.F⟩) d l _ _
   ·exact h.bM.ai (Ao _) (Ao _) (by omega)
def Fit.ad{P:PD}{a c m:Nat}(h:Fit P a c m)(nm:gC):Fit (P.ad nm).2 a c m:=by
 unfold PD.ad CN;cases hx:lookup P.D.A6 nm with
 | none=>exact h
 | some f=>
  have d:=Gl hx;dsimp only
  split
  ·exact h.bM.cS (P:=⟨{P.D with n:=(bg P.D.n).2.2},P.F⟩) f _ (h.Be f d)
  ·exact h.bM
def Fit.aJ{P:PD}{a c m:Nat}(h:Fit P a c m):Fit P.aJ.2 a c m:=by
 unfold PD.aJ E9;dsimp only
 split
 ·have z:=h.bM;refine⟨h.A6,h.A6,λl E=>(by cases E),Ch _,λf d=>h.Be f ?_,z.Av,z.BG⟩;rcases d with d|d|⟨x,I,_⟩
  ·exact .inl d
  ·exact .inl d
  ·cases I
 ·exact h.bM
def Fit.aG{P:PD}{a c m:Nat}(h:Fit P a c m)(nm:gC):Fit (P.aG nm).2 a (c+1) m:=by
 unfold PD.aG Dx;split
 ·exact h.ai (Ao _) (by omega) (Ao _)
 ·rename_i d;have hl:=A1Y d;dsimp only
  split
  ·refine h.an (a':=a) ?_ (Ao _) ?_
   ·have:=h.A6;simp;omega
   ·rintro f⟨x,d,rfl⟩;rcases AX.1 d with d|d
    ·exact h.Be _ (.inl ⟨x,Ho d,rfl⟩)
    ·exact h.Be _ (.inl ⟨x,KI d,rfl⟩)
  ·exact h.bM.ai (Ao _) (by omega) (Ao _)
def YR(es:gD AO)(i:Nat)(nm:gC)(k:Nat):(Dw es i nm k).length<=k:=by
 induction k with
 | zero=>simp[Dw]
 | succ k ih=>
  simp only[Dw,B3];cases es[k]? with
  | none=>simp;omega
  | some e=>
   dsimp only
   split
   ·simp;omega
   ·simp;omega
def Fit.aR{P:PD}{a c m:Nat}(h:Fit P a c m)(oe nm:gC):Fit (P.aR oe nm).2 (a+1) (c+1) m:=by
 unfold PD.aR D8;cases hx:lookup P.D.A6 oe with
 | none=>exact h.ai (by omega) (by omega) (Ao _)
 | some f=>
  dsimp only
  split
  ·exact h.ai (by omega) (by omega) (Ao _)
  ·dsimp only
   split
   ·refine h.an (a':=a+1) ?_ (by omega) ?_
    ·have h1:=h.A6;have h2:=YR P.D.A6 (B9 P.D.A6 oe).toNat nm P.D.A6.length;simp;omega
    ·rintro g⟨x,d,rfl⟩;rcases AX.1 d with d | d
     ·exact h.Be _ (.inl ⟨x,My _ _ _ _ x d,rfl⟩)
     ·simp at d;subst d;exact h.Be _ (Gl hx)
   ·exact h.bM.ai (by omega) (by omega) (Ao _)
end
section
open Go.RowKit
attribute [local go_sem ↓] Go.wp_at_zero Go.wp_at_succ
def SR:∀(m u d:Nat) (r:gD UInt8),u<m->d*10 ^ Lib.nDigits u+u<18446744073709551616->Lib.parseUint10 d (Lib.decDigits u++r)=Lib.parseUint10 (d*10 ^ Lib.nDigits u+u) r
 | 0,u,d,r,h,_=>by omega
 | m+1,u,d,r,h,hb=>by
  have one:∀(a x:Nat) (r:gD UInt8),x<10->a*10+x<18446744073709551616->Lib.parseUint10 a (UInt8.ofNat (48+x):: r)=Lib.parseUint10 (a*10+x) r:=λa x r hx ha=>by
   (have e:(UInt8.ofNat (48+x)).toNat=48+x:=by simp;omega);simp only[Lib.parseUint10,e];rw[Ai (by omega),Af (by omega),Af (by omega)]
   congr 1;omega
  by_cases z:u<10
  ·rw[Lib.decDigits_one z,Qs z]at *;simp only[G2,Fa,Nat.pow_one];exact one d u r z (by simpa using hb)
  ·rw[Wg z,KB]at *;have e:d*(10 ^ Lib.nDigits (u/10)*10)+u=(d*10 ^ Lib.nDigits (u/10)+u/10)*10+u % 10:=by
    rw[<-Qg,I5];omega
   rw[e]at hb ⊢;have E:Lib.decDigits u=Lib.decDigits (u/10)++[UInt8.ofNat (48+u % 10)]:=by
    rw[Lib.decDigits,PN z]
   rw[E,Ci,SR m (u/10) d _ (by omega) (by omega)];exact one _ _ r (by omega) hb
def ZA(c:Nat)(r:gD UInt8):Lib.parseUint10 0 (List.replicate c 48++r)=Lib.parseUint10 0 r:=by
 induction c with
 | zero=>rfl
 | succ c ih=>simp only[VT,G2,Lib.parseUint10];exact ih
def TE(k:Nat):∀u,u<10 ^ k->1<=k->Lib.nDigits u<=k:=by
 induction k with
 | zero=>intro u _ h;omega
 | succ k ih=>
  intro u hu _;by_cases h:u<10
  ·rw[Qs h];omega
  ·rw[Wg h];rw[KB]at hu;cases k with
   | zero=>simp at hu;omega
   | succ k=>have:=ih (u/10) (by omega) (by omega);omega
def MS{n:Int}(h:0<=n):Lib.itoa n=Lib.decDigits n.toNat:=by unfold Lib.itoa;rw[Af (by omega)]
def HR{n:Int}(d:0<=n)(h1:n<=4611686018427387904):CK n:=by
 refine⟨d,by omega,?_⟩;rw[MS d,Wh];exact TE 19 _ (by omega) (by omega)
def S6(c:Nat):Lib.repeatL [48] c=List.replicate c 48:=by
 induction c with
 | zero=>rfl
 | succ c ih=>simp[Lib.repeatL,ih,List.replicate_succ]
def A2h(u:Nat):∃b r,Lib.decDigits u=b::r/\48<=b.toNat/\b.toNat<=57:=by
 induction u using Nat.strongRecOn with
 | ind u ih=>
  by_cases h:u<10
  ·exact⟨_,_,Lib.decDigits_one h,by simp;omega,by simp;omega⟩
  ·have⟨b,r,h1,h2,h3⟩:=ih (u/10) (by omega);refine⟨b,r++[UInt8.ofNat (48+u % 10)],?_,h2,h3⟩;rw[Lib.decDigits,PN h,h1];rfl
def A3E{n:Int}(E:0<=n)(h1:n<=9223372036854775807)(c:Nat):Lib.atoiAll (Lib.repeatL [48] c++Lib.itoa n)=.ok n:=by
 rw[S6,MS E];have⟨b,r,hb,hb1,hb2⟩:=A2h n.toNat;have d:Lib.parseMag (List.replicate c 48++Lib.decDigits n.toNat)=.ok n.toNat:=by
  unfold Lib.parseMag;rw[Af (by rw[hb];simp),ZA];have:=SR (n.toNat+1) n.toNat 0 [] (by omega) (by omega);rw[Gt]at this;rw[this];simp[Lib.parseUint10]
 have I:∃b r,List.replicate c 48++Lib.decDigits n.toNat=b::r/\b.toNat≠43/\b.toNat≠45:=by
  cases c with
  | zero=>exact⟨b,r,by simpa using hb,by omega,by omega⟩
  | succ c=>exact⟨48,List.replicate c 48++Lib.decDigits n.toNat,by simp[List.replicate_succ],by decide,by decide⟩
 obtain⟨b2,r2,e,h,z⟩:=I;rw[e]at d ⊢;rw[Lib.atoiAll_plain _ _ h z,d];unfold Lib.signless;dsimp only
 rw[Af (by omega)]
 congr 1
 omega
def Ur(a b:gD UInt8):Lib.hasPrefix (a++b) a=true:=by
 unfold Lib.hasPrefix;simp
def X5(lt:gD UInt8)(n:Int):Lib.trimPrefix (Ey lt n) lt=Lib.repeatL [48] (19-(Lib.itoa n).length)++Lib.itoa n:=by
 unfold Lib.trimPrefix Ey;rw[Ci,Ai (Ur _ _),W9]
def En(lt nm:gD UInt8):Option Int:=match Lib.atoiAll (Lib.trimPrefix nm lt) with
 | .ok v=>if 0<v/\v<=4611686018427387904/\Ey lt v=nm then some v else none
 | _=>none
def MN(lt:gD UInt8){n:Int}(h:0<n)(d:n<=4611686018427387904):En lt (Ey lt n)=some n:=by
 unfold En;rw[X5,A3E (by omega) (by omega)];dsimp only
 rw[Ai ⟨h,d,rfl⟩]
def Ah(n:Int):gD UInt8:=BT 1 n
def AG(n:Int):gD UInt8:=BT 2 n
def AJ:gD UInt8:=[105]
def Bw:gD UInt8:=[100]
def isNum(n:Int):Bool:=decide (1<=n/\n<=4611686018427387904)
def IL(nm:gD UInt8):Int×Int:=if nm=Bw then (4,0) else (0,0)
def Hx(nm:gD UInt8):Int×Int:=if nm=AJ then (3,0) else IL nm
def Hy(nm:gD UInt8):Int×Int:=match En [115] nm with
 | some v=>(2,v)
 | none=>Hx nm
def Bq(nm:gD UInt8):Int×Int:=match En [108] nm with
 | some v=>(1,v)
 | none=>Hy nm
def Gk(nm:gD UInt8)(k:Nat):Int×Int:=if k=1 then Bq nm else if k=2 then Hy nm else if k=3 then Hx nm else if k=4 then IL nm else (0,0)
def QF(s:gD UInt8)(v:Int):Prop:=Lib.atoiAll s=.ok v\/(∀x,Lib.atoiAll s≠.ok x)/\isNum v=false/\(s=[]->v=0)
def Vf:∀x,Lib.atoiAll []≠.ok x:=by
 intro x;have:Lib.atoiAll []=.syntax:=by decide +kernel
 rw[this];intro h;cases h
def R9(l:gD UInt8):Lib.trimPrefix l l=[]:=by
 unfold Lib.trimPrefix;have:Lib.hasPrefix l l=true:=by simpa using Ur l []
 rw[Ai this];simp
def Tv{lt nm:gD UInt8}{v:Int}(h:QF (Lib.trimPrefix nm lt) v):En lt nm=if isNum v=true/\Ey lt v=nm then some v else none:=by
 unfold En;rcases h with h|⟨h,z,-⟩
 ·rw[h];dsimp only
  by_cases d:0<v/\v<=4611686018427387904/\Ey lt v=nm
  ·rw[Ai d,Ai ⟨by unfold isNum;exact Cu ⟨by omega,d.2.1⟩,d.2.2⟩]
  ·rw[Af d,Af];rintro⟨E,z⟩;unfold isNum at E;have:=Ki E;exact d ⟨by omega,this.2,z⟩
 ·rw[z,Af (by simp)];cases hx:Lib.atoiAll (Lib.trimPrefix nm lt) with
  | ok x=>exact absurd hx (h x)
  | «syntax»=>rfl
  | range=>rfl
def TA(nm:gD UInt8):Gk nm 1=Bq nm:=by simp[Gk]
def Tz(nm:gD UInt8):Gk nm 2=Hy nm:=by simp[Gk]
def Ty(nm:gD UInt8):Gk nm 3=Hx nm:=by simp[Gk]
def Tx(nm:gD UInt8):Gk nm 4=IL nm:=by simp[Gk]
def Tw(nm:gD UInt8):Gk nm 5=(0,0):=by simp[Gk]
def A0m{nm:gD UInt8}{k:Nat}{v:Int}(hk:1<=k/\k<=4)(h:QF (Lib.trimPrefix nm (Dh k)) v):
 Gk nm k=if isNum v=decide ((k:Int)=1\/(k:Int)=2)/\BT k v=nm then ((k:Int),v) else Gk nm (k+1):=by
 have O:k=1\/k=2\/k=3\/k=4:=by omega
 rcases O with rfl|rfl|rfl|rfl
 ·have e:BT ((1:Nat):Int) v=Ey [108] v:=rfl;have z:decide (((1:Nat):Int)=1\/((1:Nat):Int)=2)=true:=by decide
  have:=Tv h;rw[show Dh ((1:Nat):Int)=[108] from rfl]at this;rw[TA,Tz,e,z,Bq,this];by_cases d:isNum v=true/\Ey [108] v=nm
  ·rw[Ai d,Ai d];rfl
  ·rw[Af d,Af d]
 ·have e:BT ((2:Nat):Int) v=Ey [115] v:=rfl;have z:decide (((2:Nat):Int)=1\/((2:Nat):Int)=2)=true:=by decide
  have:=Tv h;rw[show Dh ((2:Nat):Int)=[115] from rfl]at this;rw[Tz,Ty,e,z,Hy,this];by_cases d:isNum v=true/\Ey [115] v=nm
  ·rw[Ai d,Ai d];rfl
  ·rw[Af d,Af d]
 ·have e:BT ((3:Nat):Int) v=AJ:=rfl;have z:decide (((3:Nat):Int)=1\/((3:Nat):Int)=2)=false:=by decide
  rw[Ty,Tx,e,z,Hx];by_cases d:nm=AJ
  ·subst d;have E:isNum v=false/\v=0:=by
    rw[show Dh ((3:Nat):Int)=AJ from rfl,R9]at h;rcases h with h|⟨_,L,I⟩
    ·exact absurd h (Vf v)
    ·exact⟨L,I rfl⟩
   rw[Ai rfl,Ai ⟨E.1,rfl⟩,E.2];rfl
  ·rw[Af d,Af (λh=>d h.2.symm)]
 ·have e:BT ((4:Nat):Int) v=Bw:=rfl;have z:decide (((4:Nat):Int)=1\/((4:Nat):Int)=2)=false:=by decide
  rw[Tx,Tw,e,z,IL];by_cases d:nm=Bw
  ·subst d;have E:isNum v=false/\v=0:=by
    rw[show Dh ((4:Nat):Int)=Bw from rfl,R9]at h;rcases h with h|⟨_,L,I⟩
    ·exact absurd h (Vf v)
    ·exact⟨L,I rfl⟩
   rw[Ai rfl,Ai ⟨E.1,rfl⟩,E.2];rfl
  ·rw[Af d,Af (λh=>d h.2.symm)]
def Iy(w:gx):Prop:=
 (∃d,w.cell? ⟨1,0,none⟩=some d/\(d=.nilIface\/∃z h,d=.iface z h))/\∃d,w.cell? ⟨2,0,none⟩=some d/\(d=.nilIface\/∃z h,d=.iface z h)
def Iy.aL{w w':gx}(h:Iy w)(d:A4 Aa w w'):Iy w':=by
 obtain⟨⟨I,O,z⟩,W,L,E⟩:=h;exact⟨⟨I,d.ah O,z⟩,W,d.ah L,E⟩
def A1b(s:gD UInt8):isNum (Lib.atoiSat s)=false:=by
 unfold Lib.atoiSat;split<;>rfl
def A3F(w:gx)(s:gD UInt8)(hl:s.length<=281474976710656)(he:Iy w):
 Ag 131 #[.string ⟨s.toArray⟩] w λe w'=>∃v L,e=.returned (.tuple #[A0 v,L])/\QF s v/\A4 Aa w w':=by
 obtain⟨⟨e1,O,E⟩,W,I,k2⟩:=he;have hs:(ByteArray.mk s.toArray).size=s.length:=by show s.toArray.size=_;simp
 have d:(ByteArray.mk s.toArray).data.toList=s:=by simp
 cases hr:Lib.atoiAll s with
 | ok v=>
  refine(Tryz.strconv_Atoi_ok ⟨s.toArray⟩ (by omega) v (by rw[d];exact hr) w).k ?_;rintro w' X;refine⟨v,_,rfl,.inl hr,?_⟩;rcases X with rfl|⟨t,rfl⟩
  ·exact A4.C _ _
  ·exact A4.cY (Lib.bytesWorld_below _ _ _)
 | «syntax»=>
  refine(Tryz.strconv_Atoi_syntax ⟨s.toArray⟩ (by omega) (by rw[d];exact hr) e1 w O E).mono ?_;rintro e w'⟨N,rfl,-,-,z⟩;exact⟨0,_,rfl,.inr ⟨λx h=>(by rw[hr]at h;cases h),rfl,λ_=>rfl⟩,A4.cY z⟩
 | range=>
  refine(Tryz.strconv_Atoi_range ⟨s.toArray⟩ (by omega) (by rw[d];exact hr) W w I k2).mono ?_;rintro e w'⟨N,rfl,-,-,z⟩;have Y:s≠[]:=by
   rintro rfl;(have:Lib.atoiAll []=.syntax:=by decide +kernel);rw[this]at hr;cases hr
  exact⟨Lib.atoiSat s,_,(by rw[d]),.inr ⟨λx h=>(by rw[hr]at h;cases h),A1b s,λh=>absurd h Y⟩,A4.cY z⟩
def U4(w:gx)(v:Int):Ag 128 #[A0 v] w (Aj (.bool (isNum v)) λw'=>w=w'):=by
 unfold isNum
 go_enter func128,ntmps128
 by_cases z:1<=v
 ·by_cases d:v<=4611686018427387904
  ·go_wp2;go_ret;exact⟨by simp[z,d],rfl⟩
  ·go_wp2;go_ret;exact⟨by simp[d],rfl⟩
 ·have e:decide (1<=v/\v<=4611686018427387904)=false:=Cv λh=>z h.1;rw[e];go_wp2;go_ret;exact⟨rfl,rfl⟩
section
variable{w:gx}{B:Nat}
def Ts(w:gx)(nm:gD UInt8)(hl:nm.length<=281474976710656)(he:Iy w)(hL:Lets B w):
 Ag 97 #[.string ⟨nm.toArray⟩] w (Aj (.tuple #[A0 (Bq nm).1,A0 (Bq nm).2]) λw'=>A4 Aa w w'):=by
 have aR:Hid (∀(wr:gx) (k:Nat),Ag 132 #[.string ⟨nm.toArray⟩,.string ⟨(Dh k).toArray⟩] wr (Aj (.string ⟨(Lib.trimPrefix nm (Dh k)).toArray⟩) λw'=>w'=wr)):=λwr k=>by
  have:=Tryz.strings_TrimPrefix ⟨nm.toArray⟩ ⟨(Dh k).toArray⟩ wr;simpa using this
 have aU:Hid (∀wr:gx,A4 Aa w wr->∀k:Nat,1<=k->k<=4->A8 wr 0 k (.string ⟨(Dh k).toArray⟩)):=λwr d k h1 h2=>((hL.aL d).2 wr (NR _ _)).1 k h1 h2
 have aT:Hid (∀wr:gx,A4 Aa w wr->∀k:Nat,_):=λwr d k=>A3F wr (Lib.trimPrefix nm (Dh k)) (AP (Lib.trimPrefix_le _ _) hl) (he.aL d);have aS:Hid (∀(wr:gx) (k:Nat) (v:Int),A4 Aa w wr->1<=k->k<=4->isNum v=decide ((k:Int)=1\/(k:Int)=2)->Ag 134 #[A0 k,A0 v] wr λe aP=>e=.returned (.string ⟨(BT k v).toArray⟩)/\A4 Aa wr aP):=λwr k v d h1 h2 h3=>by
  by_cases hk:k=1\/k=2
  ·rw[Cu (by omega)]at h3;unfold isNum at h3;have hv:=Ki h3;have hn:=HR (n:=v) (by omega) hv.2;exact MO wr k ⟨h1,h2⟩ ⟨by omega,by omega⟩ hn.2.2 (hL.aL d)
  ·(have e:BT k v=Dh k:=by unfold BT;rw[Af (by omega)]);rw[e];refine(TC wr k (by omega) (Dh k) v (((hL.aL d).2 wr (NR _ _)).1 k h1 h2)).k ?_;rintro w' rfl;exact⟨rfl,A4.C _ _⟩
 obtain⟨R,hR⟩:∃R,Bq nm=R:=⟨_,rfl⟩;have aN:Hid (Gk nm 1=R):=by rw[TA];exact hR
 rw[hR]
 go_enter func97,ntmps97
 go_wp2;go_loopw [4,5,6] (λiv _ _ wr=>∃k:Nat,1<=k/\k<=5/\iv=A0 k/\Hid (A4 Aa w wr)/\Hid (Gk nm k=R)) (λiv _ _ _=>5-(intOf iv).toNat)
 ·exact⟨1,by omega,by omega,rfl,A4.C _ _,aN.o⟩
 ·obtain⟨k,L,hk2,rfl,d,X⟩:=hrel;by_cases hk:k<5
  ·have ck:=aU.o wr d.o k L (by omega);have aI:=A1 (aR.o wr k);have aD:=A1 (aT.o wr d.o k);have hk0:=BJ k;(have hk5:(k:Int)<5:=by omega);obtain⟨tr,aF⟩:∃tr,Lib.trimPrefix nm (Dh k)=tr:=⟨_,rfl⟩;have aO:=A1 aF;rw[aF]at aI aD;go_wp2_with (first|(go_at_call 132;refine aI.k ?_;rintro w1 rfl)|(go_at_call 131;fail));refine aD.m ?_;rintro e w1⟨v,er,rfl,hv,aK⟩;have O:=A0m (k:=k) ⟨L,by omega⟩ (by rw[aO.o];exact hv);have z:Hid (A4 Aa w w1):=d.o.tr aK;have W:=A1 (aS.o w1 k v z.o L (by omega));obtain⟨nb,aH⟩:∃nb,isNum v=nb:=⟨_,rfl⟩;obtain⟨kb,aG⟩:∃kb,decide ((k:Int)=1\/(k:Int)=2)=kb:=⟨_,rfl⟩;rw[aH,aG]at O W;(have aQ:Hid (∀wr,Ag 128 #[A0 v] wr (Aj (.bool nb) λw'=>wr=w')):=λwr=>by rw[<-aH];exact U4 wr v);(have aJ:Hid (∀wr,Ag 133 #[A0 k] wr (Aj (.bool kb) λw'=>wr=w')):=λwr=>by rw[<-aG];exact Pc wr k);generalize hn2:BT k v=n2 at O W;have I:=A1 O;(have E:Hid (¬(nb=kb/\n2=nm)->Gk nm (k+1)=R):=λh=>by have:=I.o;rw[Af h]at this;rw[<-this];exact X.o);(have aL:Hid (nb=kb/\n2=nm->R=((k:Int),v)):=λh=>by have:=I.o;rw[Ai h]at this;rw[<-X.o];exact this);by_cases hb:nb=kb
   ·subst hb;have aM:(nb==nb)=true:=Vd nb;have aE:=A1 (W.o rfl);by_cases h3:n2=nm
    ·subst h3;have aB:=aL.o ⟨rfl,rfl⟩;subst aB;have hb:=Vd n2;go_wp2_with (first|(go_at_call 128;refine(aQ.o _).k ?_;rintro w2 rfl)|(go_at_call 133;refine(aJ.o _).k ?_;rintro w2 rfl)|(go_at_call 134;refine aE.k ?_;rintro w2 aA;have Y:=A1 aA));go_ret2;exact⟨rfl,z.o.tr Y.o⟩
    ·have hb:(n2==nm)=false:=HX.2 h3;have hN:=A1 (E.o λh=>h3 h.2);go_wp2_with (first|(go_at_call 128;refine(aQ.o _).k ?_;rintro w2 rfl)|(go_at_call 133;refine(aJ.o _).k ?_;rintro w2 rfl)|(go_at_call 134;refine aE.k ?_;rintro w2 aA;have Y:=A1 aA));go_roundw
     ·exact⟨k+1,by omega,by omega,by go_num,z.o.tr Y.o,hN.o⟩
     ·simp[intOf];omega
   ·have hN:=A1 (E.o λh=>hb h.1);have aM:(nb==kb)=false:=HX.2 hb;go_wp2_with (first|(go_at_call 128;refine(aQ.o _).k ?_;rintro w2 rfl)|(go_at_call 133;refine(aJ.o _).k ?_;rintro w2 rfl));go_roundw
    ·exact⟨k+1,by omega,by omega,by go_num,z.o,hN.o⟩
    ·simp[intOf];omega
  ·(obtain rfl:k=5:=by omega);(have aB:R=(0,0):=by rw[<-X.o,Tw]);subst aB;go_wp2;go_ret2;exact⟨rfl,d.o⟩
end
end
section
open Go.RowKit
def AT(s:Nat)(l:Bs):Bs:=l++Cj (AY s l)
def PD.af(P:PD)(nm:gC)(s:Nat)(l:Bs):Bool×Int×PD:=
 (HG P.D P.F nm (AT s l),(P.av nm (AT s l)).1,(P.av nm (AT s l)).2)
def PD.aI(P:PD)(nm:Bs)(s:Nat)(l:Bs):Int×PD:=
 if (P.au (Ab nm)).1≠0 then P.au (Ab nm) else
 if ((P.au (Ab nm)).2.af (Ab nm) s l).2.1≠0 then ((P.au (Ab nm)).2.af (Ab nm) s l).2 else
 ((P.au (Ab nm)).2.af (Ab nm) s l).2.2.ad (Ab nm)
def PD.Cy(P:PD)(nm:Bs):Bs×Int:=Eb P.D P.F (Ab nm)
def Ic(s:Nat)(t:Bs):Option Bs:=
 if t.length<4 then none else if Cj (AY s (t.take (t.length-4)))=t.drop (t.length-4) then some (t.take (t.length-4)) else none
def PD.aZ(P:PD)(nm:Bs):Bs×Int:=
 if (P.Cy nm).2≠0 then ([],(P.Cy nm).2) else match Ic (AI nm) (P.Cy nm).1 with
 | some d=>(d,0)
 | none=>([],7)
def GF:Nat->Bs->gD Int
 | 0,_=>[]
 | k+1,l=>if l.length<8 then [] else BM l::GF k (l.drop 8)
def EM(l:Bs):gD Int:=GF l.length l
def CG{α:Type}(cmp:α->α->Int):gD α->Bool
 | []=>true
 | [_]=>true
 | x::y::r=>decide (cmp x y<0)&&CG cmp (y::r)
def Cr(x y:Int):Int:=if x<y then -1 else if y<x then 1 else 0
structure Ix where
 Bd:Int
 sd:gD Int
def indexOf(d:Bs×Int):Option Ix:=
 if d.2=8 then some ⟨1,[]⟩ else
 if d.2≠0\/EM d.1=[]\/d.1.length≠(EM d.1).length*8 then none else
 if (EM d.1).all isNum=false then none else
 if CG Cr (EM d.1).tail then some ⟨(EM d.1).headD 0,(EM d.1).tail⟩ else none
def PD.bb(P:PD):Option Ix:=indexOf (P.aZ AJ)
def Cn(d:Int)(sd:gD Int):Bs:=AQ d++sd.flatMap AQ
def PD.an(P:PD)(d:Int)(sd:gD Int):Int×PD:=
 if (P.aI Bw (AI AJ) (Cn d sd)).1≠0 then P.aI Bw (AI AJ) (Cn d sd) else
 (P.aI Bw (AI AJ) (Cn d sd)).2.aR (Ab Bw) (Ab AJ)
def Cp(l:gD Pu):Bs:=l.flatMap λp=>Bg p.1 p.2.1 p.2.2
def PD.aK(P:PD)(n:Int)(l:gD Pu):Int×PD:=P.aI (AG n) (AI (AG n)) (Cp l)
def Cw(p q:Pu):Int:=if Cr p.1 q.1≠0 then Cr p.1 q.1 else Cr p.2.1 q.2.1
def MD(l:Bs):Pu:=(((l.headD 0).toNat:Int),BM (l.drop 1),BM (l.drop 9))
def EV:Nat->Bs->Option (gD Pu×Bs)
 | 0,l=>some ([],l)
 | k+1,l=>if l.length<17 then some ([],l) else
  if (l.headD 0).toNat<8 then (EV k (l.drop 17)).map λr=>(MD l::r.1,r.2) else none
def Ji(d:Bs×Int):Option (gD Pu):=
 if d.2≠0 then none else match EV d.1.length d.1 with
 | none=>none
 | some (l,r)=>if r=[]/\CG Cw l=true then some l else none
def PD.CD(P:PD)(n:Int):Option (gD Pu):=Ji (P.aZ (AG n))
def PD.sd(P:PD):gD Int->Option (gD (Int×gD Pu))
 | []=>some []
 | n::r=>match P.CD n with
  | none=>none
  | some l=>(P.sd r).map λx=>(n,l):: x
structure Jn where
 An:gD Int
 Ac:Int
 pd:Int
 AB:Option (Int×Nat)
def PD.aX(P:PD)(n:Int)(d:Int):gD Pu×Int:=H0 P.D P.F (Ah n) d
def PD.bq(P:PD):gD Int->gD Pu->gD Pu×Int
 | [],acc=>(acc,0)
 | n::r,acc=>if (P.aX n acc.length).2≠0 then ([],(P.aX n acc.length).2) else P.bq r (acc++(P.aX n acc.length).1)
def PD.pd(P:PD)(d:gD Int):gD Pu×Int:=P.bq d []
def PD.Az(P:PD):gD Bs:=(dList P.D.A6).map λb=>b.data.toList
def BU(d:Int)(l:gD Bs):gD Int:=l.filterMap λnm=>if (Bq nm).1=1/\d<=(Bq nm).2 then some (Bq nm).2 else none
def PD.bX(P:PD)(d:Int):Jn:=⟨BU d P.Az,(BU d P.Az).getLastD (d-1),(P.pd (BU d P.Az)).1.length,none⟩
def Jn.ax(J:Jn)(P:PD):Int×Jn×PD:=
 if (P.au (Ab (Ah (J.Ac+1)))).1≠0 then ((P.au (Ab (Ah (J.Ac+1)))).1,J,(P.au (Ab (Ah (J.Ac+1)))).2) else
 let a:=(P.au (Ab (Ah (J.Ac+1)))).2.af (Ab (Ah (J.Ac+1))) (AI (Ah (J.Ac+1))) (AQ J.pd)
 if a.2.1≠0 then (a.2.1,J,a.2.2) else
 (0,⟨J.An++[J.Ac+1],J.Ac+1,J.pd,some (J.Ac+1,AY (AI (Ah (J.Ac+1))) (AQ J.pd))⟩,a.2.2)
def Jn.aF(J:Jn)(P:PD)(p:Pu):Bool×Int×Jn×PD:=match J.AB with
 | none=>(false,0,J,P)
 | some (n,s)=>
  let a:=P.af (Ab (Ah n)) s (Bg p.1 p.2.1 p.2.2)
  (a.1,a.2.1,{J with AB:=some (n,AY s (Bg p.1 p.2.1 p.2.2))},a.2.2)
def Jn.af(J:Jn)(P:PD)(p:Pu):Bool×Int×Jn×PD:=
 if J.AB=none then
  (if (J.ax P).1≠0 then (false,(J.ax P).1,(J.ax P).2.1,(J.ax P).2.2) else (J.ax P).2.1.aF (J.ax P).2.2 p)
 else J.aF P p
def Jn.ad(J:Jn)(P:PD):Int×PD:=match J.AB with
 | none=>(0,P)
 | some (n,_)=>P.ad (Ab (Ah n))
structure Ar where
 ix:Ix
 j:Jn
 Ac:Int
 AR:gD Bs
def Ar.Az(A:Ar):gD Bs:=AJ::A.j.An.map Ah++A.ix.sd.map AG
def Ar.aY(A:Ar)(P:PD):gD Bs:=P.Az.filter λnm=>decide (nm∈A.Az)
def Ar.aV(A:Ar)(P:PD):gD Bs:=P.Az.filter λnm=>!decide (nm∈A.Az)
def PD.ay:gD Bs->PD->Int×PD
 | [],P=>(0,P)
 | nm::r,P=>if (P.ad (Ab nm)).1≠0 then P.ad (Ab nm) else PD.ay r (P.ad (Ab nm)).2
def PD.aO:gD Bs->PD->Int×PD
 | [],P=>(0,P)
 | nm::r,P=>if (P.aG (Ab nm)).1≠0 then P.aG (Ab nm) else PD.aO r (P.aG (Ab nm)).2
def Ar.I(A:Ar)(P:PD):Int×Ar×PD:=
 if (P.ay A.AR).1≠0 then ((P.ay A.AR).1,A,(P.ay A.AR).2) else (0,{A with AR:=[]},(P.ay A.AR).2)
def Ar.az(A:Ar)(P:PD):Int×PD:=P.aO (A.aV P)
def Ar.af(A:Ar)(P:PD)(p:Pu):Bool×Int×Ar×PD:=
 if (A.I P).1≠0 then (false,(A.I P).1,(A.I P).2.1,(A.I P).2.2) else
 let r:=(A.I P).2.1.j.af (A.I P).2.2 p
 (r.1,r.2.1,{ (A.I P).2.1 with j:=r.2.2.1},r.2.2.2)
def Ar.ad(A:Ar)(P:PD):Int×Ar×PD:=
 if (A.I P).1≠0 then A.I P else
 if ((A.I P).2.1.j.ad (A.I P).2.2).1≠0 then (((A.I P).2.1.j.ad (A.I P).2.2).1,(A.I P).2.1,((A.I P).2.1.j.ad (A.I P).2.2).2) else
 ((((A.I P).2.1.j.ad (A.I P).2.2).2.aJ).1,(A.I P).2.1,(((A.I P).2.1.j.ad (A.I P).2.2).2.aJ).2)
def PD.aq:gD (gD Pu)->Int->gD Int->PD->Int×Int×gD Int×PD
 | [],lh,ke,P=>(0,lh,ke,P)
 | l::r,lh,ke,P=>if (P.aK (lh+1) l).1≠0 then ((P.aK (lh+1) l).1,lh+1,ke,(P.aK (lh+1) l).2) else
  PD.aq r (lh+1) (ke++[lh+1]) (P.aK (lh+1) l).2
def Ar.an(A:Ar)(P:PD)(sd:gD Int):Int×Ar×PD:=
 if A.ix.Bd=A.j.Ac+1/\A.ix.sd=sd then (0,A,P) else
 if (P.an (A.j.Ac+1) sd).1≠0 then ((P.an (A.j.Ac+1) sd).1,A,(P.an (A.j.Ac+1) sd).2) else
 (0,{A with ix:=⟨A.j.Ac+1,sd⟩,j:=⟨[],A.j.Ac,0,none⟩},(P.an (A.j.Ac+1) sd).2)
def Ar.a8(A:Ar)(P:PD):Int×Ar×PD:=
 if (A.az P).1≠0 then ((A.az P).1,A,(A.az P).2) else ((A.az P).2.aJ.1,A,(A.az P).2.aJ.2)
def Ar.aH(A:Ar)(P:PD)(z:gD Int)(h:gD (gD Pu)):Int×Ar×PD:=
 let a:=A.I P
 if a.1≠0 then a else
 let b:=a.2.1.az a.2.2
 if b.1≠0 then (b.1,a.2.1,b.2) else
 let c:=PD.aq h a.2.1.Ac z b.2
 if c.1≠0 then (c.1,{a.2.1 with Ac:=c.2.1},c.2.2.2) else
 let d:=({a.2.1 with Ac:=c.2.1}:Ar).an c.2.2.2 c.2.2.1
 if d.1≠0 then d else d.2.1.a8 d.2.2
def BH(t len:Int):Int:=t/len
def AE(len:Int)(p q:Pu):Bool:=
 decide (BH p.2.1 len<BH q.2.1 len\/BH p.2.1 len=BH q.2.1 len/\(p.1<q.1\/p.1=q.1/\p.2.1<q.2.1))
def FG{α:Type}(lt:α->α->Bool)(x:α):gD α->gD α
 | []=>[x]
 | y::r=>if lt x y then x::y::r else y::FG lt x r
def Em{α:Type}(lt:α->α->Bool)(l:gD α):gD α:=l.foldl (λs x=>FG lt x s) []
def EU(len:Int)(ws:gD (gD Pu))(d:Bool)(h p:Pu):gD (gD Pu):=
 let ws1:=if d\/BH p.2.1 len≠BH h.2.1 len then ws++[[]] else ws
 let lh:=ws1.getLastD []
 if lh≠[]/\Cw p (lh.getLastD (0,0,0))=0 then ws1.dropLast++[lh.dropLast++[p]] else ws1.dropLast++[lh++[p]]
def Ew(len:Int):gD Pu->Bool->Pu->gD (gD Pu)->gD (gD Pu)
 | [],_,_,ws=>ws
 | p::r,first,prev,ws=>Ew len r false p (EU len ws first prev p)
def C3(len:Int)(l:gD Pu):gD (gD Pu):=Ew len (Em (AE len) l) true (0,0,0) []
def Ar.aS(A:Ar)(P:PD)(wa:Int):Int×Ar×PD:=
 if (P.pd A.j.An).2≠0 then ((P.pd A.j.An).2,A,P) else A.aH P A.ix.sd (C3 wa (P.pd A.j.An).1)
def BX(sd:gD (Int×gD Pu))(od:Int):gD (gD Pu)->gD Int×gD (gD Pu)
 | []=>([],[])
 | l::r=>if l.any (λp=>decide (od<=p.2.1))=false then BX sd od r else
  match sd.find? λs=>decide (s.2=l) with
  | none=>((BX sd od r).1,l::(BX sd od r).2)
  | some s=>(s.1::(BX sd od r).1,(BX sd od r).2)
def Ar.aN(A:Ar)(P:PD)(wa od:Int):Int×Ar×PD:=match P.sd A.ix.sd with
 | none=>(7,A,P)
 | some sd=>if (P.pd A.j.An).2≠0 then ((P.pd A.j.An).2,A,P) else
  let k:=BX sd od (C3 wa (sd.flatMap (·.2)++(P.pd A.j.An).1))
  A.aH P (k.1.mergeSort λx y=>decide (x<=y)) k.2
def Ar.aU(P:PD):Except Int (Ar×gD Pu):=match P.bb with
 | none=>.error 7
 | some ix=>if P.Az.any (λnm=>decide ((Bq nm).1=0)) then .error 7 else
  match P.sd ix.sd with
  | none=>.error 7
  | some sd=>if (P.pd (BU ix.Bd P.Az)).2≠0 then .error (P.pd (BU ix.Bd P.Az)).2 else
   let A:Ar:=⟨ix,P.bX ix.Bd,(P.Az.filterMap λnm=>if (Bq nm).1=2 then some (Bq nm).2 else none).getLastD 0,[]⟩
   .ok ({A with AR:=A.aY P},sd.flatMap (·.2)++(P.pd (BU ix.Bd P.Az)).1)
def Ap(w:gx)(Ft:Nat->Prop)(w':gx)(R:gx->(Nat->Prop)->Prop):Prop:=
 A4 Ft w w'/\∃d,R w' d/\(∀k,d k->k<w'.heap.size)/\∀k,d k->Ft k\/w.heap.size<=k
def Ap.AH{w E O:gx}{Ft:Nat->Prop}{R L:gx->(Nat->Prop)->Prop}(h:Ap w Ft E R)(Y:∀d,R E d->(∀k,d k->k<E.heap.size)->(∀k,d k->Ft k\/w.heap.size<=k)->Ap E d O L):Ap w Ft O L:=by
 obtain⟨W,d,hr,z,I⟩:=h;have⟨hc2,Ft2,hr2,hlt2,hs2⟩:=Y d hr z I;refine⟨W.AH hc2 λx hx z=>(I x hx).resolve_right (by omega),Ft2,hr2,hlt2,λk X=>?_⟩;rcases hs2 k X with h|h
 ·exact I k h
 ·exact .inr (AP W.Ak h)
def Ap.a1{w z w':gx}{Ft:Nat->Prop}{R:gx->(Nat->Prop)->Prop}(h:Ap z Ft w' R)(E:A4 Aa w z):Ap w Ft w' R:=by
 obtain⟨W,d,L,X,O⟩:=h;exact⟨(E.aT).tr W,d,L,X,λk I=>(O k I).imp id λh=>AP E.Ak h⟩
def Ap.fK{w w':gx}{Ft:Nat->Prop}{R z:gx->(Nat->Prop)->Prop}(h:Ap w Ft w' R)(W:∀d,(∀k,d k->k<w'.heap.size)->R w' d->z w' d):Ap w Ft w' z:=by
 obtain⟨O,d,I,E,L⟩:=h;exact⟨O,d,W d E I,E,L⟩
def Ap.aW{w w':gx}{Ft d:Nat->Prop}{R:gx->(Nat->Prop)->Prop}(h:Ap w Ft w' R)(E:∀k,Ft k->d k):Ap w d w' R:=by
 obtain⟨W,z,L,X,O⟩:=h;exact⟨W.ai λx _ Y=>E x Y,z,L,X,λk I=>(O k I).imp (E k) id⟩
def Bu(w:gx)(b:Nat)(P:PD)(Ft:Nat->Prop):Prop:=AW w b P.D P.F Ft
def Bu.aM{w w':gx}{b:Nat}{P:PD}{Ft:Nat->Prop}(h:Bu w b P Ft)(d:Gr Ft w w'):Bu w' b P Ft:=AW.aM h d
def DF(w:gx)(size:Nat)(v:gy)(n:Nat)(xs:gD gy):Prop:=
 xs.length=n*size/\∃a cap,v=.slice a n cap/\n<=cap/\cap<=maxLen/\(∀g,v.ownBlock=some g->g<w.heap.size)/\
  ∀j u,xs[j]?=some u->∃g o,a=some ⟨g,o,none⟩/\w.cell? ⟨g,o+j,none⟩=some u
def DF.aM{w w':gx}{size n:Nat}{v:gy}{xs:gD gy}(h:DF w size v n xs)(z:∀g,v.ownBlock=some g->w'.heap[g]?=w.heap[g]?):DF w' size v n xs:=by
 obtain⟨O,a,cap,rfl,I,Y,L,W⟩:=h;refine⟨O,a,cap,rfl,I,Y,λg d=>?_,λj u hj=>?_⟩
 ·have:=z g d;have X:=L g d;rcases F9 g w'.heap.size with h|h
  ·exact h
  ·rw[NT h]at this;rw[A4T X]at this;cases this
 ·obtain⟨g,o,rfl,E⟩:=W j u hj;refine⟨g,o,rfl,?_⟩;have:=z g rfl;unfold World.cell? at E ⊢;rw[this];exact E
def DF.Am{S:Nat->Prop}{w w':gx}{size n:Nat}{v:gy}{xs:gD gy}(h:DF w size v n xs)(I:A4 S w w')(E:∀g,v.ownBlock=some g->¬S g):DF w' size v n xs:=by
 refine h.aM λg d=>I.Al g ?_ (E g d);obtain⟨_,a,cap,rfl,_,_,z,_⟩:=h;exact z g d
def DF.lt{w:gx}{size n:Nat}{v:gy}{xs:gD gy}(h:DF w size v n xs){g:Nat}(z:v.ownBlock=some g):g<w.heap.size:=by
 obtain⟨_,a,cap,rfl,_,_,d,_⟩:=h;exact d g z
def DF.dF{w:gx}{d e size n:Nat}{v:gy}{xs:gD gy}(h:w.ownsRow d e size v n xs):DF w size v n xs:=by
 obtain⟨a,cap,rfl,X,I,h3,W,Y⟩:=B8 h;refine⟨h.1,a,cap,rfl,X,I,λg O=>Aw h O,λj u z=>?_⟩;cases ha:a with
 | none=>
  subst ha;have L:=(W rfl).1;have E:=h.1;rw[L]at E;have:xs=[]:=by simpa using E
  rw[this]at z;simp at z
 | some x=>
  subst ha;obtain⟨g,rfl⟩:=Y x rfl;exact⟨g,0,rfl,by simpa using Bv h rfl z⟩
def DF.BW{w:gx}{size n:Nat}{v:gy}{xs:gD gy}(h:DF w size v n xs):∃a cap,v=.slice a n cap/\n<=cap/\cap<=maxLen:=by
 obtain⟨_,a,cap,z,d,E,_⟩:=h;exact⟨a,cap,z,d,E⟩
def DF.bU{w:gx}{size:Nat}:DF w size (.slice none 0 0) 0 []:=
 ⟨by simp,none,0,rfl,Ao _,by decide,λg h=>by simp[Value.ownBlock]at h,λj u d=>by simp at d⟩
def E8(l:gD Int):gD Value:=l.map λn=>A0 n
def U8(l:gD Int):(E8 l).length=l.length:=by simp[E8]
def Lv(a b:gD Int):E8 (a++b)=E8 a++E8 b:=by simp[E8]
def Pe(l:gD Int)(k:Nat)(h:k<l.length):(E8 l)[k]?=some (A0 (l[k]'h)):=by simp[E8,h]
def Ko(l:gD Int):∀u∈E8 l,u.oneCell'=true:=by
 intro u hu;simp[E8]at hu;obtain⟨x,_,rfl⟩:=hu;rfl
def Dg(w:gx)(v:gy)(l:gD Int):Prop:=DF w 1 v l.length (E8 l)
def DT(w:gx)(v:gy)(l:gD Int):Prop:=w.ownsRow 0 3 1 v l.length (E8 l)
def DT.rd{w:gx}{v:gy}{l:gD Int}(h:DT w v l):Dg w v l:=DF.dF h
def Du(l:gD Bs):gD Value:=l.map λx=>.string ⟨x.toArray⟩
def Nf(a b:gD Bs):Du (a++b)=Du a++Du b:=by simp[Du]
def A3u(l:gD Bs)(k:Nat)(h:k<l.length):(Du l)[k]?=some (.string ⟨(l[k]'h).toArray⟩):=by simp[Du,h]
def Nd(l:gD Bs):∀u∈Du l,u.oneCell'=true:=by
 intro u hu;simp[Du]at hu;obtain⟨x,_,rfl⟩:=hu;rfl
def XH(l:gD gC):G5 l=Du (l.map λb=>b.data.toList):=by simp[G5,Du]
def H9(w:gx)(v:gy)(l:gD Bs):Prop:=DF w 1 v l.length (Du l)
def Dy(w:gx)(v:gy)(l:gD Bs):Prop:=w.ownsRow 0 9 1 v l.length (Du l)
def Dy.rd{w:gx}{v:gy}{l:gD Bs}(h:Dy w v l):H9 w v l:=DF.dF h
def I2(w:gx)(v:gy)(l:gD Pu):Prop:=DF w 3 v l.length (B5 l)
def B1.rd{w:gx}{v:gy}{l:gD Pu}(h:B1 w v l):I2 w v l:=DF.dF h
def Dg.at{w:gx}{a:Option Addr}{n cap:Nat}{l:gD Int}(h:Dg w (.slice a n cap) l)(k:Nat)(d:k<l.length):∃g o,a=some (A9 g o)/\A8 w g (o+k) (A0 (l[k]'d)):=by
 obtain⟨_,a',cap',e,_,_,_,z⟩:=h;cases e;exact z k _ (Pe l k d)
def I2.at{w:gx}{a:Option Addr}{n cap:Nat}{l:gD Pu}(h:I2 w (.slice a n cap) l)(k:Nat)(d:k<l.length):∃g o,a=some (A9 g o)/\g<w.heap.size/\A8 w g (o+k*3) (A0 (l[k]'d).1)/\A8 w g (o+k*3+1) (A0 (l[k]'d).2.1)/\A8 w g (o+k*3+2) (A0 (l[k]'d).2.2):=by
 obtain⟨_,a',cap',e,_,_,E,z⟩:=h;cases e;have⟨q1,q2,q3⟩:=Hv l k d;obtain⟨g,o,rfl,c1⟩:=z _ _ q1;have⟨g',o',e,c2⟩:=z _ _ q2;cases e;have⟨g',o',e,c3⟩:=z _ _ q3;cases e;exact⟨g,o,rfl,E g rfl,c1,c2,c3⟩
def H9.at{w:gx}{a:Option Addr}{n cap:Nat}{l:gD Bs}(h:H9 w (.slice a n cap) l)(k:Nat)(d:k<l.length):∃g o,a=some (A9 g o)/\A8 w g (o+k) (.string ⟨(l[k]'d).toArray⟩):=by
 obtain⟨_,a',cap',e,_,_,_,z⟩:=h;cases e;exact z k _ (A3u l k d)
structure CT (a c m:Nat):Prop where
 a:a<=1073741824
 c:c<=1000000000000
 m:m<=4294967296
def Fit.eF{P:PD}{a c m:Nat}(h:Fit P a c m)(d:CT a c m):AU P.F P.D.A6<=4611686018427387904:=
 AP h.bB (AP (VN d.a d.m) (by decide))
def Ku{P:PD}{a c m:Nat}(h:Fit P a c m)(nm:gC):(CJ P.D P.F nm).1<=m:=by
 unfold CJ;cases hx:lookup P.D.A6 nm with
 | none=>simp
 | some f=>have:=h.Be f (Gl hx);simp;omega
section
variable{w:gx}{b fb:Nat}{P:PD}{Ft:Nat->Prop}{T:TypeId}{nd:gC}{s a c m:Nat}
def A2w(I:Bi w fb T (A5 b) nd s)(h:Bu w b P Ft)(E:Fit P a c m)(z:CT a c m):
 Ag 240 #[A5 fb] w (Aj (A0 (P.au nd).1) λw'=>Ap w Ft w' (λw' d=>Bu w' b (P.au nd).2 d)):=
 UP I h P.D.AV P.D.cC (by have:=E.A6;have:=E.Am;have:=z.a;have:=z.c;omega)
def Rj(z:Bi w fb T (A5 b) nd s)(h:Bu w b P Ft):
 Ag 164 #[A5 fb] w (Aj (A0 (P.ad nd).1) λw'=>Ap w Ft w' (λw' d=>Bu w' b (P.ad nd).2 d)):=Xi z h
def JU(w:gx)(Ft:Nat->Prop)(fb:Nat)(w':gx)(b:Nat)(P:PD):Prop:=KT w Ft fb w' b P.D P.F
def A4f(z:Bi w fb T (A5 b) nd s)(L:s<4294967296)(h:Bu w b P Ft)(E:∀k,Ft k->k<w.heap.size)(W:¬Ft fb)(l:Bs)(hll:l.length<=4294967296)(d:Fit P a c m)(I:CT a c m):
 Ag 237 #[A5 fb,.string ⟨l.toArray⟩] w (Aj (.tuple #[.bool (P.af nd s l).1,A0 (P.af nd s l).2.1]) λw'=>Bi w' fb T (A5 b) nd (AY s l)/\JU w Ft fb w' b (P.af nd s l).2.2):=by
 have hm:=I.m;have hp:(AT s l).length=l.length+4:=by simp[AT,HQ]
 have O:=d.av nd (AT s l);have hz:=Ku O nd;have hz2:=Ku d nd
 exact addF z L h E W l d.Av (d.eF I) d.BG (λf z=>by have:=d.Be f (Gl z);omega) (by omega) ⟨by
  show (CJ (P.av nd (AT s l)).2.D (P.av nd (AT s l)).2.F nd).1<=_;omega,by omega⟩
def QL(nm l:Bs)(hs:s<4294967296)(h:Bu w b P Ft)(aA:∀k,Ft k->k<w.heap.size)(aL:l.length<=4294967296)(hF:Fit P a c m)(hl:CT (a+1) (c+1) m):
 Ag 196 #[.agg #[A5 b,.string ⟨nm.toArray⟩,.int .u32 s],.string ⟨l.toArray⟩] w (Aj (A0 (P.aI nm s l).1) λw'=>Ap w Ft w' (λw' aD=>Bu w' b (P.aI nm s l).2 aD)):=by
 have aM:CT a c m:=⟨by have:=hl.a;omega,by have:=hl.c;omega,hl.m⟩;have aH:Bi (w.aC #[A5 b,.string (Ab nm),.int .u32 s] 160) w.heap.size 160 (A5 b) (Ab nm) s:=Bl w _;have k0:A4 Aa w (w.aC #[A5 b,.string (Ab nm),.int .u32 s] 160):=(A4.C _ w).aj _;have h0:Bu (w.aC #[A5 b,.string (Ab nm),.int .u32 s] 160) b P Ft:=AW.aw h aA k0;have CR:=A1 (A2w aH h0 hF aM);have AD:Hid (∀I,Bi I w.heap.size 160 (A5 b) (Ab nm) s->∀d,Bu I b (P.au (Ab nm)).2 d->(∀k,d k->k<I.heap.size)->¬d w.heap.size->_):=λI q1 d q2 q3 q4=>A4f q1 hs q2 q3 q4 l aL (hF.au (Ab nm)) hl;have aE:Hid (∀I,Bi I w.heap.size 160 (A5 b) (Ab nm) (AY s l)->∀d,Bu I b ((P.au (Ab nm)).2.af (Ab nm) s l).2.2 d->_):=λI q1 d q2=>Rj q1 q2;have aS:=A1 aH;have a1:=A1 k0;have aG:=A1 aA
 have W:Hid (P.aI nm s l=if (P.au (Ab nm)).1≠0 then P.au (Ab nm) else
  if ((P.au (Ab nm)).2.af (Ab nm) s l).2.1≠0 then ((P.au (Ab nm)).2.af (Ab nm) s l).2 else
  ((P.au (Ab nm)).2.af (Ab nm) s l).2.2.ad (Ab nm)):=rfl
 generalize hR:P.aI nm s l=R at W ⊢;generalize hC:P.au (Ab nm)=C at W CR AD aE;generalize hD:C.2.af (Ab nm) s l=D at W AD aE;generalize hE:D.2.2.ad (Ab nm)=E at W aE
 go_enter func196,ntmps196
 go_wp2_with (fail);refine CR.k ?_;rintro I⟨aI,d,q2,q3,q4⟩;have aJ:=A1 (aS.o.al aI λh=>Gs _ (aG.o _ h));have aV:Hid (A4 (λk=>Ft k) w I):=(a1.o.aT).tr aI;have aQ:Hid (w.heap.size<I.heap.size):=aJ.o.lt;have a5:=A1 q2;have a0:=A1 q3;have aK:Hid (∀k,d k->Ft k\/w.heap.size<k):=λk O=>(q4 k O).imp id λh=>by simp at h;omega
 have aZ:Hid (¬d w.heap.size):=λO=>(aK.o _ O).elim (λh=>Gs _ (aG.o _ h)) λh=>Gs _ h
 have aF:=A1 (AD.o I aJ.o d q2 q3 aZ.o);by_cases hc:C.1=0
 case neg=>
  have hR:R=C:=by rw[W.o,Ai hc]
  have hb:(C.1 !=0)=true:=by simpa using hc
  go_wp2;go_ret;subst hR;exact⟨rfl,aV.o,d,a5.o,a0.o,λk O=>(aK.o k O).imp id Fm⟩
 case pos=>
 have hb:(C.1 !=0)=false:=by simpa using hc
 have aW:Hid (R=if D.2.1≠0 then D.2 else E):=by rw[W.o,Af (by simpa using hc)];rfl
 have aN:∀L,(Bi L w.heap.size 160 (A5 b) (Ab nm) (AY s l)/\JU I d w.heap.size L b D.2.2)->Hid (A4 (λk=>Ft k) w L/\∃z,Bu L b D.2.2 z/\(∀k,z k->k<L.heap.size)/\(∀k,z k->Ft k\/w.heap.size<k)/\Ag 164 #[A5 w.heap.size] L (Aj (A0 E.1) λw'=>Ap L z w' (λw' aD=>Bu w' b E.2 aD))):=by
  rintro L⟨Y,X,z,p2,p3,p4⟩;refine⟨aV.o.AH X λx hx aA=>hx.elim (λh=>(aK.o x h).resolve_right (by omega)) λh=>by omega,z,p2,p3,λk O=>(p4 k O).elim (λh=>aK.o k h) λh=>.inr (by have:=aQ.o;omega),aE.o L Y z p2⟩
 have aB:=A1 aN;by_cases hd:D.2.1=0
 case neg=>
  have hR:R=D.2:=by rw[aW.o,Ai hd]
  have aR:(D.2.1 !=0)=true:=by simpa using hd
  go_wp2_with (go_at_call 237;refine aF.k ?_;rintro L⟨Y,X⟩;have a3:=aB.o L ⟨Y,X⟩);go_ret;subst hR;obtain⟨k2,z,p2,p3,p5,-⟩:=a3.o;exact⟨rfl,k2,z,p2,p3,λk O=>(p5 k O).imp id Fm⟩
 case pos=>
 have aR:(D.2.1 !=0)=false:=by simpa using hd
 have hR:R=E:=by rw[aW.o,Af (by simpa using hd)]
 subst hR;go_wp2_with (fail);refine aF.k ?_;rintro L⟨Y,X⟩;have⟨k2,z,p2,p3,p5,sy⟩:=(aB.o L ⟨Y,X⟩).o;have aU:=A1 k2;have aX:=A1 p5;have aE:=A1 sy;go_wp2_with (go_at_call 164;refine aE.k ?_;rintro w3⟨aT,aO,r2,r3,r4⟩;have aP:=A1 aT;have a2:=A1 r2;have aY:=A1 r3;have a4:=A1 r4);go_ret;exact⟨rfl,aU.o.AH aP.o λx hx aA=>(aX.o x hx).resolve_right (by omega),aO,a2.o,aY.o,λk O=>(a4.o k O).elim (λh=>(aX.o k h).imp id Fm) λh=>.inr (by have:=aU.o.Ak;omega)⟩
end
def LL{P:PD}{a c m:Nat}(h:Fit P a c m)(nm:Bs):(P.Cy nm).1.length<=m:=by
 unfold PD.Cy Eb;cases hx:lookup P.D.A6 (Ab nm) with
 | none=>simp
 | some f=>exact h.Be f (Gl hx)
section
variable{w:gx}{b:Nat}{P:PD}{Ft:Nat->Prop}{a c m:Nat}
def Sv(nm:Bs)(h:Bu w b P Ft)(I:∀k,Ft k->k<w.heap.size)(hF:Fit P a c m)(hl:CT a c m):
 Ag 126 #[.agg #[A5 b,.string ⟨nm.toArray⟩,.int .u32 (AI nm)]] w (Aj (.tuple #[.string ⟨(P.aZ nm).1.toArray⟩,A0 (P.aZ nm).2]) λw'=>A4 Aa w w'):=by
 have aF:=LL hF nm;have hm:=hl.m;have aD:=K3 nm;obtain⟨s,hs⟩:∃s,AI nm=s:=⟨_,rfl⟩
 have aE:Hid (P.aZ nm=if (P.Cy nm).2≠0 then ([],(P.Cy nm).2) else match Ic s (P.Cy nm).1 with
  | some d=>(d,0)
  | none=>([],7)):=by rw[<-hs];rfl
 generalize X:P.aZ nm=R at aE ⊢;rw[hs]at aD ⊢;have aA:Bi (w.aC #[A5 b,.string (Ab nm),.int .u32 s] 160) w.heap.size 160 (A5 b) (Ab nm) s:=Bl w _;have k0:A4 Aa w (w.aC #[A5 b,.string (Ab nm),.int .u32 s] 160):=(A4.C _ w).aj _;have aN:=A1 (Vx aA (AW.aw h I k0));obtain⟨x,Y⟩:∃x,P.Cy nm=x:=⟨_,rfl⟩;have L:Hid (Ag 166 #[A5 w.heap.size] (w.aC #[A5 b,.string (Ab nm),.int .u32 s] 160) (Aj (.tuple #[.string ⟨x.1.toArray⟩,A0 x.2]) λw'=>A4 Aa (w.aC #[A5 b,.string (Ab nm),.int .u32 s] 160) w')):=by
  rw[<-Y];exact aN.o
 rw[Y]at aE aF;obtain⟨t,ae⟩:=x;dsimp only at aE aF L;have aJ:=A1 aA;have aL:=A1 k0;have aI:=A1 aD
 go_enter func126,ntmps126
 by_cases he:ae=0
 case neg=>
  have hb:(ae !=0)=true:=by simpa using he
  have X:R=([],ae):=by rw[aE.o,Ai he]
  subst X;go_wp2_with (go_at_call 166;refine L.k ?_;rintro z E;have aH:=A1 E);go_ret2;exact⟨rfl,aL.o.tr aH.o⟩
 case pos=>
 subst he
 have aG:Hid (R=match Ic s t with
  | some d=>(d,0)
  | none=>([],7)):=by rw[aE.o,Af (by simp)];rfl
 have aO:Hid (∀z,Bi z w.heap.size 160 (A5 b) (Ab nm) s->∃(d:Bs) (ok:Bool),R=(if ok then (d,0) else ([],7))/\Ag 167 #[A5 w.heap.size,.string ⟨t.toArray⟩] z (Aj (.tuple #[.string ⟨d.toArray⟩,.bool ok]) λw'=>A4 (One w.heap.size) z w')):=λz aK=>by
  by_cases h4:t.length<4
  ·refine⟨[],false,?_,?_⟩
   ·rw[aG.o];unfold Ic;rw[Ai h4];rfl
   ·refine(X2 z w.heap.size t h4).k ?_;rintro w' rfl;exact⟨rfl,A4.C _ _⟩
  ·refine⟨t.take (t.length-4),decide (Cj (AY s (t.take (t.length-4)))=t.drop (t.length-4)),?_,?_⟩
   ·rw[aG.o];unfold Ic;rw[Af h4];by_cases hq:Cj (AY s (t.take (t.length-4)))=t.drop (t.length-4)
    ·rw[Ai hq,Cu hq];rfl
    ·rw[Af hq,Cv hq];rfl
   ·have:=O4 z w.heap.size 160 (A5 b) (Ab nm) s (t.take (t.length-4)) (t.drop (t.length-4)) aK aI.o (by rw[Cz];omega) (by rw[BK];omega);rw[E4]at this;refine this.mono ?_;rintro e w'⟨h1,h2,h3⟩;exact⟨h1,h3⟩
 go_wp2_with (fail);refine L.k ?_;rintro z E;have⟨d,ok,X,hun⟩:=aO.o z (aJ.o.al E (λh=>h));have aM:Hid (A4 Aa w z):=aL.o.tr E;have aB:=A1 hun;cases ok with
 | false=>
  simp only[QE,Cd]at X;subst X;go_wp2_with (go_at_call 167;refine aB.k ?_;rintro w2 O;have W:=A1 O);go_ret2;exact⟨rfl,aM.o.AH W.o λx Y I=>by cases Y;omega⟩
 | true=>
  simp only[Cq]at X;subst X;go_wp2_with (go_at_call 167;refine aB.k ?_;rintro w2 O;have W:=A1 O);go_ret2;exact⟨rfl,aM.o.AH W.o λx Y I=>by cases Y;omega⟩
end
def Tryz.dj:(Tryz.prog.info? 3).map (λi=>(i.zero,i.size,i.bytes))=some (some (A0 0),1,8):=by kernel_rfl
def A1f{k:Nat}{l:Bs}(h:l.length<8):GF k l=[]:=by cases k<;>simp[GF,h]
def A1h(l:Bs): -9223372036854775808<=BM l/\BM l<=9223372036854775807:=by unfold BM wrap64;omega
def A1d(w:gx)(E:Bs)(hl0:E.length<=4294967296):
 Calls Tryz.prog 127 #[.string ⟨E.toArray⟩] w λe w'=>∃v,e=.returned v/\DT w' v (EM E)/\(∀g,v.ownBlock=some g->w.heap.size<=g)/\A4 (λ_=>False) w w':=by
 obtain⟨R,hR⟩:∃R,EM E=R:=⟨_,rfl⟩;have aT:Hid (GF E.length E=R):=hR;rw[hR];obtain⟨i0,hi,aF,aI,aJ⟩:∃i0,Tryz.prog.info? 3=some i0/\i0.zero=some (.int .i64 0)/\i0.size=1/\i0.bytes=8:=by
  have h:=Tryz.dj;cases hx:Tryz.prog.info? 3 with
  | none=>rw[hx]at h;cases h
  | some i=>rw[hx]at h;simp at h;exact⟨i,rfl,h.1,h.2.1,h.2.2⟩
 go_enter func127,ntmps127
 go_wp2;go_loopw [0,3] (λtv v wr=>∃(l:Bs) (k:Nat) (d:gD Int),tv=.string ⟨l.toArray⟩/\d.length*8+l.length<=E.length/\Hid (DT wr v d/\(∀g,v.ownBlock=some g->w.heap.size<=g)/\A4 (λ_=>False) w wr/\l.length<=k/\R=d++GF k l)) (λtv _ _=>match tv with | .string x=>x.size|_=>0)
 ·exact⟨E,E.length,[],rfl,by simp,Co _ _ _ _,λg I=>by simp[Value.ownBlock]at I,A4.C _ _,Ao _,by rw[aT.o];rfl⟩
 ·obtain⟨l,k,d,rfl,aA,hI⟩:=hrel;have z:(ByteArray.mk l.toArray).size=l.length:=by show l.toArray.size=_;simp
  by_cases h8:l.length<8
  case pos=>
   obtain⟨i1,i2,i3,-,i5⟩:=hI.o;rw[A1f h8,Gt]at i5;subst i5;(have aE:¬(8<=(l.length:Int)):=by omega);have aO:=A1 i1;have aS:=A1 i2;have aP:=A1 i3;go_wp2;go_ret;exact⟨_,rfl,aO.o,aS.o,aP.o⟩
  case neg=>
   have⟨i1,i2,i3,i4,i5⟩:=hI.o;obtain⟨k,rfl⟩:∃k',k=k'+1:=⟨k-1,by omega⟩;have aH:Hid (R=(d++[BM l])++GF k (l.drop 8)):=by
    unfold Hid;rw[i5];simp[GF,h8]
   have O:=A1 (MT wr l (by omega));have hx:=A1h l;generalize hxe:BM l=x at aH O hx;obtain⟨ap,cp,rfl,hcap1,X,-⟩:=B8 i1;unfold maxLen at X;have e2:(ByteArray.mk l.toArray).extract 8 l.length=⟨(l.drop 8).toArray⟩:=by
    rw[extract_mk,El (by rw[Cz];omega)]
   have W:(l.drop 8).length=l.length-8:=Cz;generalize hq:l.drop 8=q at e2 aH W;generalize htx:ByteArray.mk l.toArray=tx at e2 z O ⊢;generalize hll:l.length=ll at e2 z W aA h8 i4;(have h8i:(8:Int)<=(ll:Int):=by omega);have aM:=A1 i1;have aN:=A1 i2;have aL:=A1 i3;have aQ:=A1 i4;have L:=A1 W;have aD:=A1 aA
   go_wp2_with (first
    | (go_at_call 168;refine O.k ?_;rintro w4 rfl)
    | (at_builtin
       have aB:Hid ((wr.alloc (.cells #[.int .i64 x] 3)).ownsRow 0 3 1 (.slice ap d.length cp) d.length (E8 d)):=Au aM.o λg I=>CY _ _ _ (Aw aM.o I);have aG:=A1 (Src.bc (size:=1) (B:=wr.heap.size) Hk wr #[.int .i64 x] 3 (by simp) 1 1 rfl (Ko [x]));refine CU rfl (.tmp 9) (.tmp 12) 26 26 rfl 3 i0 _ 1 8 Hk hi aF aI aJ rfl (by decide) (.slice ap d.length cp) d.length (E8 d) (by rfl) aB.o _ 1 _ (by rfl) aG.o (by have:=aD.o;omega) ?_;intro a8 cap8 w8 Y;have aR:=A1 Y
       clear Y))
   go_roundw
   ·have Y:=aR.o;have aK:=Y.Am (S:=λk=>(Value.slice ap d.length cp).ownBlock=some k) λ_ h=>h;have k9:A4 (λ_=>False) wr (wr.alloc (.cells #[.int .i64 x] 3)):=(A4.C _ wr).aj _;refine⟨q,k,d++[x],rfl,by have:=aD.o;have:=L.o;simp;omega,?_,?_,?_,by have:=aQ.o;have:=L.o;omega,aH.o⟩
    ·(have e:(d++[x]).length=d.length+1:=by simp);unfold DT;rw[Lv,e];exact Y.AB
    ·intro g I;rcases Y.BY with h|h
     ·rw[h]at I;exact aN.o g I
     ·rw[h]at I;cases I;exact AP aL.o.Ak k9.Ak
    ·exact(aL.o.tr k9).AH aK λy hy aE=>by have:=aN.o y hy;omega
   ·(have e:(ByteArray.mk q.toArray).size=q.length:=by show q.toArray.size=_;simp);have:=L.o;simp only[e,z];omega
def Tryz.fO:(Tryz.prog.info? 260).map (·.size)=some 2:=by kernel_rfl
def Tryz.gv:liesAt Tryz.prog Tryz.prog.depth 260 (2/Tryz.prog.cellsOf 260) 0 260 1=true:=by kernel_rfl
def Hc(B b:Nat)(l:gD UInt8)(w:gx):Prop:=Lib.IsBuilder 260 5 B b (Lib.byteCells l) w
def A2L(B b:Nat)(bs:gD gy)(w:gx)(h:Lib.IsBuilder 260 5 B b bs w):
 Ag 238 #[A5 b] w (Aj (.tuple #[]) λw'=>(Lib.BuilderAt 260 5 B b (A5 b) bs w'/\Below B w w')):=by
 have⟨j,hj,hjs⟩:=A4j.1 Tryz.fO;rcases h with h|h
 ·have z:=h.cell0;have d:=h.shape;have hfz:=h.frozen0;have H:=A1 h
  go_enter func238,ntmps238
  go_wp2;rw[Lib.run_to_unsafe w (A9 b 0) underlying258 underlying217 hj (by rw[hjs];decide) d (Nat.zero_lt_succ 1)];simp only[Result.andThen];rw[VH];go_wp2;rw[Ys func262 (by kernel_rfl) (by kernel_rfl) (by kernel_rfl) (e:=Extern.AbiNoEscape.same) (by kernel_rfl)];rw[Lib.run_noEscape];simp only[Result.andThen];rw[VH];go_wp2;rw[Lib.run_from_unsafe w (A9 b 0) underlying217 underlying258 hj d Tryz.gv];simp only[Result.andThen];rw[VH];go_wp2;go_end0;exact⟨rfl,H.o.used _,(NR B w).setCell (p:=(A9 b 0)) H.o.1 _⟩
 ·have z:=h.cell0;have H:=A1 h
  go_enter func238,ntmps238
  go_wp2;rw[Lib.run_neq_ptr_same w _ underlying258 hj];go_wp2;go_end0;exact⟨rfl,H.o,NR B _⟩
def Wx(B b:Nat)(bs:gD gy)(s:gC)(w:gx)(h:Lib.IsBuilder 260 5 B b bs w)(hlen:bs.length+s.size<=140737488355328)(hBw:B<=w.heap.size):
 Ag 194 #[A5 b,.string s] w (Aj (.tuple #[A0 s.size,.nilIface]) λw'=>(Lib.BuilderAt 260 5 B b (A5 b) (bs++Lib.strCells s) w'/\Below B w w')):=by
 have⟨i0,hi,hz0,hz1,hz2⟩:=DL Tryz.infoByte
 go_enter func194,ntmps194
 go_wp2_with (go_at_call 238;refine(A2L B b bs _ h).mono ?_);rintro e W⟨rfl,h1,O⟩;obtain⟨hB,v,E,L,aA⟩:=h1;have c0:W.cell? (A9 b 0)=some (A5 b):=by rw[Qt E];rfl
 have c1:W.cell? (A9 b 1)=some v:=by rw[Qt E];rfl
 go_wp2_with (at_builtin;refine Lib.wpList_append_own_string _ rfl _ _ 127 9 rfl B 5 i0 Hl GQ hi hz0 hz1 hz2 _ _ _ rfl L s rfl ?c3 ?c4 ?c5 ?_)
 case c3=>unfold maxLen;omega
 case c4=>omega
 case c5=>have:=O.size;omega
 intro v' X d z _;have Y:b<W.heap.size:=by
  rcases F9 b W.heap.size with h' | h'
  ·exact h'
  ·simp[Array.getElem?_eq_none h']at E
 have I:X.heap[b]?=some (.cells #[A5 b,v] 260 (0,0)):=by
  rw[z.block b Y (λe=>aA e.symm)];exact E
 have d0:X.cell? (A9 b 0)=some (A5 b):=by rw[Qt I];rfl
 have d1:X.cell? (A9 b 1)=some v:=by rw[Qt I];rfl
 have f1:X.frozen? (A9 b 1)=false:=Lib.frozen_of_heap I 1;obtain⟨ao,n',cap,rfl⟩:∃ao n' cap,v'=.slice ao n' cap:=by
  rcases d.2 with⟨hv,_⟩|⟨g,cap,cur,hv,_⟩
  ·exact⟨_,_,_,hv⟩
  ·exact⟨_,_,_,hv⟩
 go_wp2;go_ret2;refine⟨rfl,?_,?_⟩
 ·exact Lib.BuilderAt.put (T:=260) (e:=5) hB I (bs':=bs++Lib.strCells s) (by simpa[Lib.strCells_length] using d) (by decide)
 ·exact(O.grown z (by have:=O.size;omega) (λk hk=>(L.lt k hk).1)).setCell (p:=(A9 b 1)) hB _
def XJ(l:gD UInt8):Lib.strCells ⟨l.toArray⟩=Lib.byteCells l:=by
 simp[Lib.strCells,Lib.byteCells]
def NU{B b:Nat}{l t:gD UInt8}(w:gx)(h:Hc B b l w)(d:l.length+t.length<=140737488355328)(z:B<=w.heap.size):
 Calls Tryz.prog 194 #[.pointer (some ⟨b,0,none⟩),.string ⟨t.toArray⟩] w λe w'=>e=.returned (.tuple #[.int .i64 t.length,.nilIface])/\Hc B b (l++t) w'/\Below B w w':=by
 have I:(ByteArray.mk t.toArray).size=t.length:=by show t.toArray.size=_;simp
 refine(Wx B b (Lib.byteCells l) ⟨t.toArray⟩ w h (by rw[Lib.byteCells_length,I];exact d) z).k ?_;rintro w'⟨E,L⟩;refine⟨by rw[I],.inr ?_,L⟩;rw[XJ]at E;have:Lib.byteCells (l++t)=Lib.byteCells l++Lib.byteCells t:=by simp[Lib.byteCells]
 rw[this];exact E
def A3r{B b:Nat}{l:gD UInt8}(w:gx)(h:Hc B b l w)(d:B<=w.heap.size):
 Ag 197 #[A5 b] w (Aj (.string ⟨l.toArray⟩) λw'=>Below B w w'):=Tryz.Builder_String_any B b l w h d
def Va(w:gx):Hc w.heap.size w.heap.size [] (w.alloc (.cells #[.pointer none,.slice none 0 0] 260)):=
 .inl ⟨Ao _,_,Bl w _,Co _ _ _ _,by simp[Value.ownBlock]⟩
def Hc.al{B b:Nat}{l:gD UInt8}{w w':gx}{S:Nat->Prop}(h:Hc B b l w)(I:A4 S w w')(E:∀k,S k->k<B):Hc B b l w':=by
 have key:∀p,Lib.BuilderAt 260 5 B b p (Lib.byteCells l) w->Lib.BuilderAt 260 5 B b p (Lib.byteCells l) w':=by
  rintro p⟨W,v,L,d,O⟩;refine⟨W,v,I.al L (λh=>by have:=E _ h;omega),?_,O⟩;exact Au d λg z=>I.Al g (Aw d z) (λh=>by have:=E _ h;have:=(d.lt g z).1;omega)
 exact h.imp (key _) (key _)
section
variable{α:Type}(lt:α->α->Bool)
structure BZ:Prop where
 IS:∀x,lt x x=false
 AH:∀x y z,lt x y=true->lt y z=true->lt x z=true
 Le:∀x y z,lt x z=true->lt x y=true\/lt y z=true
def eqv(x y:α):Bool:=!lt x y && !lt y x
def Bt(l l':gD α):Prop:=∀x,l.filter (eqv lt x)=l'.filter (eqv lt x)
def B6(l:gD α):Prop:=l.Pairwise λx y=>lt y x=false
variable{lt}
def Bt.C(l:gD α):Bt lt l l:=λ_=>rfl
def Bt.bI{l l':gD α}(h:Bt lt l l'):Bt lt l' l:=λx=>(h x).symm
def Bt.AH{l l' d:gD α}(h:Bt lt l l')(z:Bt lt l' d):Bt lt l d:=λx=>(h x).trans (z x)
def Bt.av{a a' b d:gD α}(h:Bt lt a a')(z:Bt lt b d):Bt lt (a++b) (a'++d):=λx=>by
 rw[KO,KO,h x,z x]
def BZ.eV(h:BZ lt)(x:α):eqv lt x x=true:=by simp[eqv,h.IS]
def BZ.cp(h:BZ lt){x y:α}(d:lt x y=true):lt y x=false:=by
 cases hyx:lt y x with
 | false=>rfl
 | true=>have:=h.AH _ _ _ d hyx;rw[h.IS]at this;cases this
def BZ.dB(h:BZ lt){x y z:α}(I:lt y x=false)(E:lt z y=false):lt z x=false:=by
 cases hzx:lt z x with
 | false=>rfl
 | true=>rcases h.Le z y x hzx with d|d
         ·rw[E]at d;cases d
         ·rw[I]at d;cases d
def BZ.fX(h:BZ lt){x y z:α}(E:lt y z=true)(I:eqv lt x y=true):eqv lt x z=false:=by
 cases hz:eqv lt x z with
 | false=>rfl
 | true=>
  simp[eqv]at I hz;rcases h.Le y x z E with d|d
  ·rw[I.2]at d;cases d
  ·rw[hz.1]at d;cases d
def BZ.gd(h:BZ lt){x y:α}(d:lt y x=true):Bt lt [x,y] [y,x]:=λz=>by
 simp only[Fu,List.filter_nil];cases h1:eqv lt z y with
 | false=>cases eqv lt z x<;>rfl
 | true=>rw[h.fX d h1];rfl
def BZ.ei(h:BZ lt){x:α}{ys:gD α}(d:∀y∈ys,lt y x=true):Bt lt (x::ys) (ys++[x]):=by
 induction ys with
 | nil=>exact Bt.C _
 | cons y r ih=>
  have I:Bt lt (x::y::r) (y::x::r):=by
   have:=(h.gd (d y (BI ..))).av (Bt.C (lt:=lt) r);simpa using this
  have E:Bt lt (y::x::r) (y::(r++[x])):=by
   have:=(Bt.C (lt:=lt) [y]).av (ih λz L=>d z (BC _ L));simpa using this
  exact I.AH E
def BZ.eS(h:BZ lt){xs ys:gD α}(d:∀x∈xs,∀y∈ys,lt y x=true):Bt lt (xs++ys) (ys++xs):=by
 induction xs with
 | nil=>simpa using Bt.C (lt:=lt) ys
 | cons x r ih=>
  have I:=ih λz O=>d z (BC _ O);have E:Bt lt (x::(r++ys)) (x::(ys++r)):=by simpa using(Bt.C (lt:=lt) [x]).av I
  have L:=(h.ei (d x (BI ..))).av (Bt.C r);have:=E.AH L;simpa using this
def BZ.dn(h:BZ lt){y:α}{xs:gD α}(E:∀x∈xs,lt y x=true):Bt lt (xs++[y]) (y::xs):=by
 simpa using h.eS (xs:=xs) (ys:=[y]) λx I z d=>by simp at d;subst d;exact E x I
def Bt.DD{l l':gD α}(d:BZ lt)(h:Bt lt l l'){x:α}(z:x∈l):x∈l':=by
 have:x∈l.filter (eqv lt x):=GV.2 ⟨z,d.eV x⟩;rw[h x]at this;exact(GV.1 this).1
def BZ.eI(d:BZ lt):∀ {l l':gD α},B6 lt l->B6 lt l'->Bt lt l l'->l=l'
 | [],[],_,_,_=>rfl
 | [],b::r',_,_,h=>by have:=(h.bI).DD d (BI (a:=b) (l:=r'));cases this
 | a::r,[],_,_,h=>by have:=h.DD d (BI (a:=a) (l:=r));cases this
 | a::r,b::r',h1,h2,h=>by
  have W:=Dk.1 h1;have X:=Dk.1 h2;have L:lt a b=false:=by
   rcases BS.1 (h.DD d (BI (a:=a) (l:=r))) with rfl|E
   ·exact d.IS _
   ·exact X.1 a E
  have I:lt b a=false:=by
   rcases BS.1 (h.bI.DD d (BI (a:=b) (l:=r'))) with rfl|E
   ·exact d.IS _
   ·exact W.1 b E
  have Y:eqv lt a b=true:=by simp[eqv,L,I]
  have O:=h a;rw[Jc (d.eV a),Jc Y]at O;obtain rfl:a=b:=(HM O).1;refine Ep (a :: ·) (d.eI W.2 X.2 λx=>?_);have z:=h x;cases hc:eqv lt x a with
  | true=>rw[Jc hc,Jc hc]at z;exact(HM z).2
  | false=>rw[KN (by rw[hc];decide),KN (by rw[hc];decide)]at z;exact z
def A1t{x y:α}{l:gD α}:y∈FG lt x l↔y=x\/y∈l:=by
 induction l with
 | nil=>simp[FG]
 | cons z r ih=>
  unfold FG;split
  ·simp
  ·simp only[BS,ih];constructor
   ·rintro (h|h|h)
    ·exact .inr (.inl h)
    ·exact .inl h
    ·exact .inr (.inr h)
   ·rintro (h|h|h)
    ·exact .inr (.inl h)
    ·exact .inl h
    ·exact .inr (.inr h)
def BZ.fj(I:BZ lt){x:α}{l:gD α}(h:B6 lt l):B6 lt (FG lt x l):=by
 induction l with
 | nil=>simp[FG,B6]
 | cons z r ih=>
  have L:=Dk.1 h;unfold FG;split
  ·rename_i E;refine Dk.2 ⟨λy d=>?_,h⟩;rcases BS.1 d with rfl|d
   ·exact I.cp E
   ·exact I.dB (I.cp E) (L.1 y d)
  ·rename_i E;refine Dk.2 ⟨λy d=>?_,ih L.2⟩;rcases A1t.1 d with rfl|d
   ·simpa using E
   ·exact L.1 y d
def BZ.e1(I:BZ lt){x:α}{l:gD α}(h:B6 lt l):Bt lt (l++[x]) (FG lt x l):=by
 induction l with
 | nil=>exact Bt.C _
 | cons z r ih=>
  have O:=Dk.1 h;unfold FG;split
  ·rename_i L;refine I.dn λy E=>?_;rcases BS.1 E with rfl|E
   ·exact L
   ·rcases I.Le x y z L with d|d
    ·exact d
    ·rw[O.1 y E]at d;cases d
  ·simpa using(Bt.C (lt:=lt) [z]).av (ih O.2)
def BZ.dC(d:BZ lt):∀(l s:gD α),B6 lt s->B6 lt (l.foldl (λs x=>FG lt x s) s)/\Bt lt (s++l) (l.foldl (λs x=>FG lt x s) s)
 | [],s,h=>⟨h,by simpa using Bt.C (lt:=lt) s⟩
 | x::r,s,h=>by
  have⟨h1,h2⟩:=d.dC r _ (d.fj (x:=x) h);refine⟨h1,Bt.AH ?_ h2⟩;have:=(d.e1 (x:=x) h).av (Bt.C (lt:=lt) r);simpa using this
def BZ.eQ(d:BZ lt)(l:gD α):B6 lt (Em lt l):=(d.dC l [] List.Pairwise.nil).1
def BZ.cB(d:BZ lt)(l:gD α):Bt lt l (Em lt l):=by
 have:=(d.dC l [] List.Pairwise.nil).2;rw[Fa]at this;exact this
def BZ.eN(d:BZ lt){l l':gD α}(h:B6 lt l')(z:Bt lt l l'):l'=Em lt l:=
 d.eI h (d.eQ l) (z.bI.AH (d.cB l))
def B6.av{a b:gD α}(h:B6 lt (a++b)):B6 lt a/\B6 lt b/\∀x∈a,∀y∈b,lt y x=false:=by
 have:=EF.1 h;exact⟨this.1,this.2.1,this.2.2⟩
def B6.cJ{a b:gD α}(d:B6 lt a)(z:B6 lt b)(h:∀x∈a,∀y∈b,lt y x=false):B6 lt (a++b):=EF.2 ⟨d,z,h⟩
def BZ.fo(O:BZ lt){d E z h s1 s2:gD α}(hA:B6 lt (d++E))(hB:B6 lt (z++h))(h1:∀x∈d,∀y∈h,lt y x=false)(W:∀x∈E,∀y∈z,lt y x=true)(k1:B6 lt s1)(k2:B6 lt s2)(Y:Bt lt (d++z) s1)(X:Bt lt (E++h) s2):B6 lt (s1++s2)/\Bt lt (d++E++(z++h)) (s1++s2):=by
 have⟨a1,a2,a3⟩:=hA.av;have⟨b1,b2,b3⟩:=hB.av;refine⟨B6.cJ k1 k2 λx L y I=>?_,?_⟩
 ·rcases AX.1 (Y.bI.DD O L) with L|L<;>rcases AX.1 (X.bI.DD O I) with I|I
  ·exact a3 x L y I
  ·exact h1 x L y I
  ·exact O.cp (W y I x L)
  ·exact b3 x L y I
 ·have m:=((Bt.C (lt:=lt) d).av (O.eS W)).av (Bt.C h);have e:d++E++(z++h)=d++(E++z)++h:=by simp
  have e':d++(z++E)++h=d++z++(E++h):=by simp
  rw[e];refine m.AH ?_;rw[e'];exact Y.av X
def BZ.cN(d:BZ lt){a b:gD α}(Y:B6 lt a)(hb:B6 lt b)(h:∀x y,a.getLast?=some x->b.head?=some y->lt y x=false):∀x∈a,∀y∈b,lt y x=false:=by
 intro x X y W;rcases M7 a with rfl|⟨a',z,rfl⟩
 ·cases X
 cases b with
 | nil=>cases W
 | cons y0 b'=>
  have h0:=h z y0 (by simp) rfl;have L:lt z x=false:=by
   (have E:x∈a'\/x=z:=by simpa using X);rcases E with I|rfl
   ·exact(B6.av (by simpa using Y)).2.2 x I z (by simp)
   ·exact d.IS _
  have O:lt y y0=false:=by
   rcases BS.1 W with rfl|I
   ·exact d.IS _
   ·exact(Dk.1 hb).1 y I
  exact d.dB (d.dB L h0) O
def BZ.dH(E:BZ lt){a b:gD α}(ha:B6 lt a)(hb:B6 lt b)(h:∀x y,a.getLast?=some y->b.head?=some x->lt y x=true):∀x∈b,∀y∈a,lt y x=true:=by
 intro x Y y X;rcases M7 a with rfl|⟨a',z,rfl⟩
 ·cases X
 cases b with
 | nil=>cases Y
 | cons x0 b'=>
  have h0:=h x0 z (by simp) rfl;have W:lt z y=false:=by
   (have I:y∈a'\/y=z:=by simpa using X);rcases I with L|rfl
   ·exact(B6.av (by simpa using ha)).2.2 y L z (by simp)
   ·exact E.IS _
  have O:lt x x0=false:=by
   rcases BS.1 Y with rfl|L
   ·exact E.IS _
   ·exact(Dk.1 hb).1 x L
  have h1:lt y x0=true:=by
   rcases E.Le z y x0 h0 with d|d
   ·rw[W]at d;cases d
   ·exact d
  rcases E.Le y x x0 h1 with d|d
  ·exact d
  ·rw[O]at d;cases d
end
end
section
open Go.RowKit
attribute [local go_sem ↓] CL
def A1c(w:gx)(x:Int):Ag 169 #[A0 x] w (Aj (.bool false) λw'=>w=w'):=by
 go_enter func169,ntmps169
 go_wp2;go_ret;exact⟨rfl,rfl⟩
def PU(w:gx)(x y:Int):Ag 130 #[A0 x,A0 y] w (Aj (A0 (Cr x y)) λw'=>w=w'):=by
 have d:=A1 (A1c);unfold Cr
 go_enter func130,ntmps130
 by_cases h:x<y
 ·rw[Ai h];go_wp2_with (go_at_call 169;refine(d.o _ _).k ?_;rintro w' rfl);go_ret;exact⟨rfl,rfl⟩
 ·by_cases z:y<x
  ·rw[Af h,Ai z];go_wp2_with (go_at_call 169;refine(d.o _ _).k ?_;rintro w' rfl);go_ret;exact⟨rfl,rfl⟩
  ·rw[Af h,Af z];go_wp2_with (go_at_call 169;refine(d.o _ _).k ?_;rintro w' rfl);go_ret;exact⟨rfl,rfl⟩
def Kh(a b:Int):Int:=if a≠0 then a else b
def T8(w:gx)(g:Nat)(a b:Int)(h0:A8 w g 0 (A0 a))(h1:A8 w g 1 (A0 b)):
 Ag 156 #[AA g 2 2] w (Aj (A0 (Kh a b)) λw'=>w=w'):=by
 unfold Kh
 go_enter func156,ntmps156
 by_cases d:a=0
 ·subst d;rw[Af (by simp)];by_cases h:b=0
  ·subst h;go_wp2;refine IA 3 ?_;rw[Fz];go_wp2;rw[Fz];go_wp2;rw[Fz];go_wp2;go_ret;exact⟨rfl,rfl⟩
  ·(have hb':(b !=0)=true:=by simpa using h);go_wp2;refine IA 2 ?_;rw[Fz];go_wp2;rw[Fz];go_wp2;go_ret;exact⟨rfl,rfl⟩
 ·rw[Ai d];have ha':(a !=0)=true:=by simpa using d
  go_wp2;refine IA 1 ?_;rw[Fz];go_wp2;go_ret;exact⟨rfl,rfl⟩
def A28(p q:Pu):Cw p q=Kh (Cr p.1 q.1) (Cr p.2.1 q.2.1):=rfl
def DK(p:Pu):Value:=.agg #[A0 p.1,A0 p.2.1,A0 p.2.2]
def OC(w:gx)(p q:Pu):Ag 158 #[DK p,DK q] w (Aj (A0 (Cw p q)) λw'=>A4 Aa w w'):=by
 obtain⟨E,d,L⟩:=p;obtain⟨z,I,W⟩:=q;rw[A28];unfold DK;dsimp only
 have aG:=A1 (PU);have OR:=A1 (T8);obtain⟨x,hx⟩:∃x,Cr E z=x:=⟨_,rfl⟩;obtain⟨y,hy⟩:∃y,Cr d I=y:=⟨_,rfl⟩;rw[hx,hy];have b1:Ce ((w.alloc (.cells #[A0 E,A0 d,A0 L] 113)).alloc (.cells #[A0 z,A0 I,A0 W] 113)) w.heap.size E d L:=(CY _ _ _ (by simp)).trans (Bl w _);have b2:Ce ((w.alloc (.cells #[A0 E,A0 d,A0 L] 113)).alloc (.cells #[A0 z,A0 I,A0 W] 113)) (w.heap.size+1) z I W:=by
  have:=Bl (w.alloc (.cells #[A0 E,A0 d,A0 L] 113)) (.cells #[A0 z,A0 I,A0 W] 113);simpa[Ce] using this
 have k2:A4 Aa w ((w.alloc (.cells #[A0 E,A0 d,A0 L] 113)).alloc (.cells #[A0 z,A0 I,A0 W] 113)):=((A4.C _ w).aj _).aj _;have sz:((w.alloc (.cells #[A0 E,A0 d,A0 L] 113)).alloc (.cells #[A0 z,A0 I,A0 W] 113)).heap.size=w.heap.size+2:=by simp
 have Y:=A1 b1;have X:=A1 b2;have aF:=A1 k2;have aI:=A1 sz
 go_enter func158,ntmps158
 go_wp2;generalize ((w.alloc (.cells #[A0 E,A0 d,A0 L] 113)).alloc (.cells #[A0 z,A0 I,A0 W] 113))=w2 at Y X aF aI ⊢;refine Br (λw'=>A8 w' w.heap.size 0 (A0 E)/\A8 w' w.heap.size 1 (A0 d)/\A8 w' (w.heap.size+1) 0 (A0 z)/\A8 w' (w.heap.size+1) 1 (A0 I)) 14
  (Ba [0,1,2,3,5,6,7,8,9,10,4,11,12,13] [4,11,12,13]) ⟨Y.o.c0,Y.o.c1,X.o.c0,X.o.c1⟩ ?_
 iterate 10 refine B4 ?_
 refine Bf λK O=>?_;go_simp;have aA:=A1 Y.o.aa;have aD:=A1 X.o.aa;refine(aG.o _ _ _).k ?_;rintro w3 rfl;rw[hx];refine O _ _ ⟨aA.o.c0,aA.o.c1,aD.o.c0,aD.o.c1⟩ (λhS=>?_);refine Bf λK O=>?_;go_simp;refine(aG.o _ _ _).k ?_;rintro w4 rfl;rw[hy];refine O _ _ ⟨aA.o.c0,aA.o.c1,aD.o.c0,aD.o.c1⟩ (λhS=>?_);refine Bf λK O=>?_;go_simp;have ka:A4 Aa w2 (w2.alloc (.cells #[A0 x,A0 y] 3)).drew:=((A4.C _ _).aj _).aa;have aE:=Y.o.al ka (λh=>h);have aB:=X.o.al ka (λh=>h);have hb:(w2.alloc (.cells #[A0 x,A0 y] 3)).drew.heap[w2.heap.size]?=some (.cells #[A0 x,A0 y] 3):=Bl w2 _;refine O _ _ ⟨aE.c0,aE.c1,aB.c0,aB.c1⟩ (λhS=>?_);refine Bf λK O=>?_;go_simp;refine(OR.o _ _ x y (by simp only[A8,World.cell?,hb];rfl) (by simp only[A8,World.cell?,hb];rfl)).k ?_;rintro w5 rfl;refine O _ _ ⟨aE.c0,aE.c1,aB.c0,aB.c1⟩ (λhS=>?_);have aH:Hid (A4 Aa w (w2.alloc (.cells #[A0 x,A0 y] 3)).drew):=aF.o.tr ka;refine Bo ?_;go_wp2;go_ret;exact⟨rfl,aH.o⟩
def WM{t len:Int}(h:1<=len):BH t len=if t.tmod len<0 then t.tdiv len-1 else t.tdiv len:=by
 unfold BH;have e1:=Int.mul_ediv_add_emod t len;have e2:=NO t (b:=len) (by omega);have e3:=Wl t (b:=len) (by omega);have f1:=A4O t len;have f3:t.tmod len<len:=Qx t (by omega);have f4 : -len<t.tmod len:=by
  by_cases h0:0<=t
  ·have:=Int.tmod_nonneg len h0;omega
  ·have:=Qx (-t) (b:=len) (by omega);rw[QA]at this;omega
 obtain⟨q,L⟩:∃q,t/len=q:=⟨_,rfl⟩;obtain⟨r,O⟩:∃r,t % len=r:=⟨_,rfl⟩;obtain⟨d,E⟩:∃d,t.tdiv len=d:=⟨_,rfl⟩;obtain⟨I,z⟩:∃I,t.tmod len=I:=⟨_,rfl⟩;rw[L,O]at e1;rw[O]at e2 e3;rw[E,z]at f1;rw[z]at f3 f4;rw[L,E,z];have key:len*(q-d)=I-r:=by
  have:len*(q-d)=len*q-len*d:=Wj ..;omega
 by_cases W:I<0
 ·rw[Ai W];have h1 : -(2*len)<len*(q-d):=by omega
  have Y:len*(q-d)<0:=by omega
  have X:q-d<0:=by
   rcases Mc (q-d) 0 with h|h
   ·exact h
   ·have:=Int.mul_nonneg (a:=len) (by omega) h;omega
  have k2 : -2<q-d:=by
   rcases Mc (-2) (q-d) with h|h
   ·exact h
   ·have:len*(q-d)<=len*(-2):=Wk h (by omega);omega
  omega
 ·rw[Af W];have h1 : -len<len*(q-d):=by omega
  have Y:len*(q-d)<len:=by omega
  have X:q-d<1:=by
   rcases Mc (q-d) 1 with h|h
   ·exact h
   ·have:len*1<=len*(q-d):=Wk h (by omega);omega
  have k2 : -1<q-d:=by
   rcases Mc (-1) (q-d) with h|h
   ·exact h
   ·have:len*(q-d)<=len*(-1):=Wk h (by omega);omega
  omega
def Xc{t len:Int}(L:Ay t)(z:1<=len)(I:t.tmod len<0):Ay (t.tdiv len-1):=by
 obtain⟨t1,t2⟩:=L;have f1:=A4O t len;have f4 : -len<t.tmod len:=by
  by_cases O:0<=t
  ·have:=Int.tmod_nonneg len O;omega
  ·have:=Qx (-t) (b:=len) (by omega);rw[QA]at this;omega
 obtain⟨q,E⟩:∃q,t.tdiv len=q:=⟨_,rfl⟩;obtain⟨r,d⟩:∃r,t.tmod len=r:=⟨_,rfl⟩;rw[E,d]at f1;rw[d]at f4 I;rw[E];constructor
 ·rcases Mc 0 q with h|h
  ·omega
  ·have:len*q<=1*q:=Int.mul_le_mul_of_nonpos_right z h;omega
 ·rcases Mc (q-1) 0 with h|h
  ·omega
  ·have h2:1*(q-1)<=len*(q-1):=Int.mul_le_mul_of_nonneg_right z h;have h3:len*(q-1)=len*q-len*1:=Wj ..;omega
def NX(w:gx)(t len:Int)(E:Ay t)(h:1<=len/\len<=4611686018427387904):
 Ag 157 #[A0 t,A0 len] w (Aj (A0 (BH t len)) λw'=>w=w'):=by
 obtain⟨t1,t2⟩:=E;have hl0:¬len=0:=by omega
 rw[WM h.1]
 go_enter func157,ntmps157
 by_cases d:t.tmod len<0
 ·rw[Ai d];have z:wrap64 (t.tdiv len-1)=t.tdiv len-1:=by
   have:=Xc ⟨t1,t2⟩ h.1 d;unfold Ay at this;unfold wrap64;omega
  go_wp2
  all_goals first|(exfalso;omega)|skip
  go_ret;refine⟨?_,rfl⟩;show Ending.returned (A0 (wrap64 (t.tdiv len-1)))=_;rw[z]
 ·rw[Af d];go_wp2
  all_goals first|(exfalso;omega)|skip
  go_ret;exact⟨rfl,rfl⟩
def S0{α:Type}(cmp:α->α->Int):∀(l:gD α) (k:Nat) (h:k+1<l.length),CG cmp (l.drop k)=(decide (cmp (l[k]'(by omega)) (l[k+1]'h)<0)&&CG cmp (l.drop (k+1))):=by
 intro l k h;rw[FK (by omega:k<l.length),FK h];rfl
def RZ{α:Type}(cmp:α->α->Int)(l:gD α)(k:Nat)(h:l.length<=k+1):CG cmp (l.drop k)=true:=by
 have:(l.drop k).length<=1:=by rw[Cz];omega
 match hx:l.drop k with
 | []=>rfl
 | [x]=>rfl
 | x::y::r=>rw[hx]at this;simp at this
def PW(x y:Int):Cr x y = -1\/Cr x y=0\/Cr x y=1:=by
 unfold Cr;split
 ·exact .inl rfl
 ·split
  ·exact .inr (.inr rfl)
  ·exact .inr (.inl rfl)
def YH(w:gx)(v:gy)(l:gD Int)(h:Dg w v l)(hl:l.length<1099511627776):
 Ag 129 #[v,.func (.func 130) #[] #[]] w (Aj (.bool (CG Cr l)) λw'=>∃n,w'=w.drewN n):=by
 obtain⟨a,cap,rfl,h1,h2⟩:=h.BW;unfold maxLen at h2;have aE:Hid (CG Cr l=CG Cr (l.drop 0)):=rfl;generalize hR:CG Cr l=R at aE ⊢;have H:=A1 h
 go_enter func129,ntmps129
 go_wp2;go_loopw [5] (λiv wr=>∃k:Nat,iv=A0 ((k:Int)+1)/\k<=l.length/\(∃n,wr=w.drewN n)/\Hid (R=CG Cr (l.drop k))) (λiv _=>l.length+1-(intOf iv).toNat)
 ·exact⟨0,rfl,by omega,⟨0,rfl⟩,aE.o⟩
 ·obtain⟨k,rfl,hk,⟨n,rfl⟩,O⟩:=hrel;by_cases z:k+1<l.length
  ·obtain⟨g,o,rfl,c1⟩:=Dg.at H.o k (by omega);have⟨g',o',e,c2⟩:=Dg.at H.o (k+1) z;cases e;have d:=O.o;rw[S0 Cr l k z]at d;have L:=PW (l[k]'(by omega)) (l[k+1]'z);have W:=A1 (λn=>PU (w.drewN n) (l[k]'(by omega)) (l[k+1]'z));obtain⟨x,hx⟩:∃x,(l[k]'(by omega))=x:=⟨_,rfl⟩;obtain⟨y,hy⟩:∃y,(l[k+1]'z)=y:=⟨_,rfl⟩;rw[hx]at c1 d L W;rw[hy]at c2 d L W;generalize aB:Cr x y=cc at d L W;have d1:∀n,A8 (w.drewN n) g (o+k) (A0 x):=λn=>c1;have d2:∀n,A8 (w.drewN n) g (o+(k+1)) (A0 y):=λn=>c2;have I:=A1 d;clear c1 c2 hx hy aB d O;(have aA:(k:Int)+1<(l.length:Int):=by omega);have hk0:=BJ k;(have hki2:(k:Int)<(l.length:Int):=by omega);have aD:IntKind.i64.wrap (k:Int)=k:=Eo (by omega);(have ew1:IntKind.i64.wrap ((k:Int)+1-1)=k:=by rw[JW];exact aD);(have tk:((k:Int)+1).toNat=k+1:=by omega);(have pk:(0:Int)<=(k:Int)+1:=by omega);by_cases hc:cc<0
   ·have E:Hid (R=CG Cr (l.drop (k+1))):=by
     have:=I.o;rw[Cu hc,NP]at this;exact this
    clear I;(have Y:¬(0<=cc):=by omega);go_wp2;refine Br (λw'=>A8 w' g (o+k) (A0 x)/\A8 w' g (o+(k+1)) (A0 y)) 11
     (Ba [0,1,2,3,4,5,6,7,8,9,10] [10]) ⟨d1 (n+1),d2 (n+1)⟩ ?_
    iterate 10 refine B4 ?_
    refine Bf λK X=>?_;go_simp;refine(W.o (n+1)).k ?_;rintro w3 rfl;refine X _ _ ⟨d1 (n+1),d2 (n+1)⟩ (λhS=>?_);clear X K hS;refine Bo ?_;go_wp2;go_roundw
    ·exact⟨k+1,by go_num,by omega,⟨n+1,rfl⟩,E.o⟩
    ·simp[intOf];omega
   ·have E:R=false:=by
     have:=I.o;rw[Cv hc,Wo]at this;exact this
    clear I;subst E;(have Y:0<=cc:=by omega);go_wp2;refine Br (λw'=>A8 w' g (o+k) (A0 x)/\A8 w' g (o+(k+1)) (A0 y)) 11
     (Ba [0,1,2,3,4,5,6,7,8,9,10] [10]) ⟨d1 (n+1),d2 (n+1)⟩ ?_
    iterate 10 refine B4 ?_
    refine Bf λK X=>?_;go_simp;refine(W.o (n+1)).k ?_;rintro w3 rfl;refine X _ _ ⟨d1 (n+1),d2 (n+1)⟩ (λhS=>?_);refine Bo ?_;go_wp2;go_ret;exact⟨rfl,_,rfl⟩
  ·(have E:R=true:=by rw[O.o,RZ Cr l k (by omega)]);subst E;(have aA:¬((k:Int)+1<(l.length:Int)):=by omega);go_wp2;go_ret;exact⟨rfl,_,rfl⟩
def V4(p q:Pu):Cw p q = -1\/Cw p q=0\/Cw p q=1:=by
 unfold Cw;split<;>exact PW _ _
def YG(w:gx)(v:gy)(l:gD Pu)(h:I2 w v l)(hl:l.length<1099511627776):
 Ag 177 #[v,.func (.func 158) #[] #[]] w (Aj (.bool (CG Cw l)) λw'=>A4 Aa w w'):=by
 obtain⟨a,cap,rfl,h1,h2⟩:=h.BW;unfold maxLen at h2;have aP:Hid (CG Cw l=CG Cw (l.drop 0)):=rfl;generalize hR:CG Cw l=R at aP ⊢;have H:=A1 h
 go_enter func177,ntmps177
 go_wp2;go_loopw [5] (λiv wr=>∃k:Nat,iv=A0 ((k:Int)+1)/\k<=l.length/\Hid (A4 Aa w wr)/\Hid (R=CG Cw (l.drop k))) (λiv _=>l.length+1-(intOf iv).toNat)
 ·exact⟨0,rfl,by omega,A4.C _ _,aP.o⟩
 ·obtain⟨k,rfl,hk,z,aB⟩:=hrel;by_cases O:k+1<l.length
  ·obtain⟨g,o,rfl,-,c1,c2,c3⟩:=I2.at H.o k (by omega);obtain⟨g',o',e,-,c4,c5,c6⟩:=I2.at H.o (k+1) O;cases e;have d:=aB.o;rw[S0 Cw l k O]at d;have Y:=V4 (l[k]'(by omega)) (l[k+1]'O);have aD:=A1 (λE=>OC E (l[k]'(by omega)) (l[k+1]'O));obtain⟨x,W⟩:∃x,(l[k]'(by omega))=x:=⟨_,rfl⟩;obtain⟨y,hy⟩:∃y,(l[k+1]'O)=y:=⟨_,rfl⟩;rw[W]at c1 c2 c3 d Y aD;rw[hy]at c4 c5 c6 d Y aD;obtain⟨x1,x2,x3⟩:=x;obtain⟨y1,y2,y3⟩:=y;generalize hcc:Cw (x1,x2,x3) (y1,y2,y3)=cc at d Y aD;dsimp only at c1 c2 c3 c4 c5 c6;have d1:=z.o.aa.ah c1;have d2:=z.o.aa.ah c2;have d3:=z.o.aa.ah c3;have d4:=z.o.aa.ah c4;have d5:=z.o.aa.ah c5;have d6:=z.o.aa.ah c6;have aE:=A1 d;have aI:=A1 c1;have aL:=A1 c2;have aK:=A1 c3;have aF:=A1 c4;have aM:=A1 c5;have aG:=A1 c6;(have aH:(k:Int)+1<(l.length:Int):=by omega);have hk0:=BJ k;(have hki2:(k:Int)<(l.length:Int):=by omega);have aJ:IntKind.i64.wrap (k:Int)=k:=Eo (by omega);(have ew1:IntKind.i64.wrap ((k:Int)+1-1)=k:=by rw[JW];exact aJ);(have tk:((k:Int)+1).toNat=k+1:=by omega);(have pk:(0:Int)<=(k:Int)+1:=by omega);have X:Hid (∀E,A4 Aa wr.drew E->(A8 E g (o+k*3) (A0 x1)/\A8 E g (o+k*3+1) (A0 x2)/\A8 E g (o+k*3+2) (A0 x3)/\A8 E g (o+(k+1)*3) (A0 y1)/\A8 E g (o+(k+1)*3+1) (A0 y2)/\A8 E g (o+(k+1)*3+2) (A0 y3))/\A4 Aa w E):=λE W=>
    ⟨⟨W.ah (z.o.aa.ah aI.o),W.ah (z.o.aa.ah aL.o),W.ah (z.o.aa.ah aK.o),W.ah (z.o.aa.ah aF.o),W.ah (z.o.aa.ah aM.o),W.ah (z.o.aa.ah aG.o)⟩,z.o.aa.tr W⟩
   by_cases aA:cc<0
   ·have I:Hid (R=CG Cw (l.drop (k+1))):=by
     have:=aE.o;rw[Cu aA,NP]at this;exact this
    (have aN:¬(0<=cc):=by omega);go_wp2;refine Br (λw'=>A8 w' g (o+k*3) (A0 x1)/\A8 w' g (o+k*3+1) (A0 x2)/\A8 w' g (o+k*3+2) (A0 x3)/\A8 w' g (o+(k+1)*3) (A0 y1)/\A8 w' g (o+(k+1)*3+1) (A0 y2)/\A8 w' g (o+(k+1)*3+2) (A0 y3)) 11
     (Ba [0,1,2,3,4,5,6,7,8,9,10] [10]) ⟨d1,d2,d3,d4,d5,d6⟩ ?_
    iterate 10 refine B4 ?_
    refine Bf λK hK=>?_;go_simp;refine(aD.o _).k ?_;rintro w3 L;refine hK _ _ (X.o w3 L).1 (λhS=>?_);have aO:=A1 (X.o w3 L).2;refine Bo ?_;go_wp2;go_roundw
    ·exact⟨k+1,by go_num,by omega,aO.o,I.o⟩
    ·simp[intOf];omega
   ·have I:R=false:=by
     have:=aE.o;rw[Cv aA,Wo]at this;exact this
    subst I;(have aN:0<=cc:=by omega);go_wp2;refine Br (λw'=>A8 w' g (o+k*3) (A0 x1)/\A8 w' g (o+k*3+1) (A0 x2)/\A8 w' g (o+k*3+2) (A0 x3)/\A8 w' g (o+(k+1)*3) (A0 y1)/\A8 w' g (o+(k+1)*3+1) (A0 y2)/\A8 w' g (o+(k+1)*3+2) (A0 y3)) 11
     (Ba [0,1,2,3,4,5,6,7,8,9,10] [10]) ⟨d1,d2,d3,d4,d5,d6⟩ ?_
    iterate 10 refine B4 ?_
    refine Bf λK hK=>?_;go_simp;refine(aD.o _).k ?_;rintro w3 L;refine hK _ _ (X.o w3 L).1 (λhS=>?_);have aO:=A1 (X.o w3 L).2;refine Bo ?_;go_wp2;go_ret;exact⟨rfl,aO.o⟩
  ·(have I:R=true:=by rw[aB.o,RZ Cw l k (by omega)]);subst I;(have aH:¬((k:Int)+1<(l.length:Int)):=by omega);go_wp2;go_ret;exact⟨rfl,z.o⟩
def Yl{k:Nat}{l:Bs}(h:l.length<17):EV k l=some ([],l):=by cases k<;>simp[EV,h]
def Ym{k:Nat}{c:UInt8}{d:Bs}(h:16<=d.length):EV (k+1) (c::d)=if c.toNat<8 then (EV k (d.drop 16)).map λr=>(((c.toNat:Int),BM d,BM (d.drop 8)):: r.1,r.2) else none:=by
 have z:¬(c::d).length<17:=by simp;omega
 simp only[EV,Af z];rfl
section
variable{w:gx}{b B:Nat}{P:PD}{Ft:Nat->Prop}{a c m:Nat}{n:Int}
def Z7(w:gx)(h:Bu w b P Ft)(aP:∀k,Ft k->k<w.heap.size)(hF:Fit P a c m)(hl:CT a c m)(hn:CK n)(hL:Lets B w):
 Ag 135 #[A5 b,A0 n] w λe w'=>
  (P.CD n=none/\e=.returned (.tuple #[.pointer none,A0 7])/\A4 Aa w w')\/
  ∃l gb v,P.CD n=some l/\e=.returned (.tuple #[A5 gb,A0 0])/\Ca w' gb 182 b (AG n) (AI (AG n)) n v/\B1 w' v l/\(∀g,v.ownBlock=some g->w.heap.size<=g)/\w.heap.size<=gb/\A4 Aa w w':=by
 have⟨i0,hi,hz0,hz1,hz2⟩:=DL IT;have bH:=A1 (RG w b hn hL);have bA:Hid (∀w1,A4 Aa w w1->_):=λw1 hc=>Sv (AG n) (AW.aw h aP hc) (λk hk=>Bn (aP k hk) hc.Ak) hF hl;have aQ:(P.aZ (AG n)).1.length<=4294967296:=by
  have h1:=LL hF (AG n);have:=hl.m;unfold PD.aZ;split
  ·simp
  ·split
   ·rename_i d hd;unfold Ic at hd;split at hd
    ·cases hd
    ·split at hd
     ·cases hd;simp only[BK];omega
     ·cases hd
   ·simp
 obtain⟨X,hX⟩:∃X,P.CD n=X:=⟨_,rfl⟩;have bI:Hid (Ji (P.aZ (AG n))=X):=hX;rw[hX];have bL:AG n=BT 2 n:=rfl;rw[<-bL]at bH;generalize hnme:AG n=nm at bH bA bI aQ ⊢;generalize hs0:AI nm=s0 at bH bA ⊢;obtain⟨⟨dt,de⟩,bP⟩:∃x,P.aZ nm=x:=⟨_,rfl⟩;rw[bP]at bA bI aQ;dsimp only at bA aQ
 go_enter func135,ntmps135
 go_wp2_with (fail);refine bH.m ?_;rintro e w1⟨gb,rfl,aN,bE,bV⟩;have a3:=A1 (bA.o w1 bE);have a1:=A1 aN;have a2:=A1 bE;have a0:=A1 bV;have g0:=aN.c0;have g1:=aN.c1;have g2:=aN.c2;by_cases he:de=0
 case neg=>
  have hb:(de !=0)=true:=by simpa using he
  have O:Hid (X=none):=by unfold Hid;rw[<-bI.o];unfold Ji;rw[Ai he]
  go_wp2_with (go_at_call 126;refine a3.k ?_;rintro w2 aE;have aF:=A1 aE);go_ret2;exact .inl ⟨O.o,rfl,a2.o.tr aF.o⟩
 case pos=>
 subst he
 have aH:Hid ((match EV dt.length dt with
  | none=>none
  | some (l,r)=>if r=[]/\CG Cw l=true then some l else none)=X):=by
  rw[<-bI.o];unfold Ji;rw[Af (by simp)];rfl
 generalize hY:EV dt.length dt=Y at aH;have cB:=A1 hY;go_wp2_with (fail);refine a3.k ?_;rintro w2 aE;have bT:=A1 (a1.o.al aE (λh=>h));have aF:Hid (A4 Aa w w2):=a2.o.tr aE;have bQ:=A1 a1.o.lt;have a6:=A1 aE.Ak;go_wp2;go_loopw [7] (λtv wr=>∃(l:Bs) (k:Nat) (z:gD Pu),tv=.string ⟨l.toArray⟩/\z.length*17+l.length<=dt.length/\Hid (∃v,Ca wr gb 182 b nm s0 n v/\B1 wr v z/\(∀g,v.ownBlock=some g->w2.heap.size<=g)/\(A4 Aa w wr/\w2.heap.size<=wr.heap.size)/\l.length<=k/\Y=(EV k l).map λr=>(z++r.1,r.2))) (λtv _=>match tv with | .string x=>x.size|_=>0)
 ·exact⟨dt,dt.length,[],rfl,by simp,_,bT.o,Co _ _ _ _,λg W=>by simp[Value.ownBlock]at W,⟨aF.o,Ao _⟩,Ao _,by rw[<-cB.o];simp⟩
 ·obtain⟨l,k,z,rfl,aL,hI⟩:=hrel;have aA:(ByteArray.mk l.toArray).size=l.length:=by show l.toArray.size=_;simp
  by_cases aT:l.length<17
  case pos=>
   obtain⟨v,i1,i2,i3,⟨i4,a7⟩,-,i6⟩:=hI.o;rw[Yl aT]at i6;simp only[Iq,Gt]at i6;subst i6;(have hlt17:¬(17<=(l.length:Int)):=by omega);have bN:=A1 i1;have aU:=A1 i2;have a9:=A1 i3;have aY:=A1 i4;have g4:=i1.c4;by_cases aB:l=[]
   case neg=>
    (have O:Hid (X=none):=by unfold Hid;rw[<-aH.o];simp only;rw[Af (λh=>aB h.1)]);have hbl:(l==[])=false:=HX.2 aB;go_wp2;go_ret2;exact .inl ⟨O.o,rfl,aY.o⟩
   case pos=>
   subst aB;have bF:=A1 (YG wr v z aU.o.rd (by simp at aL;omega));by_cases hr:CG Cw z=true
   case neg=>
    (have bR:CG Cw z=false:=by simpa using hr);(have O:Hid (X=none):=by unfold Hid;rw[<-aH.o];simp only;rw[Af (λh=>hr h.2)]);rw[bR]at bF;go_wp2_with (go_at_call 177;refine bF.k ?_;rintro w3 aS;have aD:=A1 aS);go_ret2;exact .inl ⟨O.o,rfl,aY.o.tr aD.o⟩
   case pos=>
    (have O:Hid (X=some z):=by unfold Hid;rw[<-aH.o];simp only;rw[Ai ⟨by first|trivial|rfl,hr⟩]);rw[hr]at bF;go_wp2_with (go_at_call 177;refine bF.k ?_;rintro w3 aS;have aD:=A1 aS);go_ret2;exact .inr ⟨z,gb,v,O.o,rfl,bN.o.al aD.o (λh=>h),Au aU.o λg W=>aD.o.Al g (Aw aU.o W) (λh=>h),λg W=>AP aF.o.Ak (a9.o g W),a0.o,aY.o.tr aD.o⟩
  case neg=>
   have⟨v,i1,i2,i3,⟨i4,a7⟩,i5,i6⟩:=hI.o;obtain⟨k,rfl⟩:∃k',k=k'+1:=⟨k-1,by omega⟩;obtain⟨c0,d,rfl⟩:∃c0 d,l=c0::d:=by
    cases l with
    | nil=>simp at aT
    | cons c0 d=>exact⟨c0,d,rfl⟩
   (have aG:16<=d.length:=by simp at aT;omega);rw[Ym aG]at i6;obtain⟨ap,cp,rfl,hcap1,aW,-⟩:=B8 i2;unfold maxLen at aW;have aZ:=A1 (λw5=>SD w5 c0 d ⟨aG,by simp at aL;omega⟩);have e2:(ByteArray.mk (c0::d).toArray).extract 17 (d.length+1)=⟨(d.drop 16).toArray⟩:=by
    rw[extract_mk,DH,El (by rw[Cz];omega)]
   obtain⟨I,bS⟩:∃I,BM d=I:=⟨_,rfl⟩;obtain⟨E,bJ⟩:∃E,BM (d.drop 8)=E:=⟨_,rfl⟩;rw[bS,bJ]at aZ i6;obtain⟨q,hq⟩:∃q,d.drop 16=q:=⟨_,rfl⟩;(have bB:q.length+16=d.length:=by rw[<-hq,Cz];omega);rw[hq]at e2 i6;obtain⟨ll,bC⟩:∃ll,d.length=ll:=⟨_,rfl⟩;(have bO:(c0::d).length=ll+1:=by simp[bC]);rw[bO]at aA aL i5;rw[bC]at e2 aG bB;(have hge:17<=(ll:Int)+1:=by omega);generalize hty:ByteArray.mk (c0::d).toArray=ty at e2 aA aZ ⊢;have g4:=i1.c4;have f4:=i1.fz 4;have bN:=A1 i1;have aU:=A1 i2;have a9:=A1 i3;have aY:=A1 i4;have bK:=A1 a7;have b9:=A1 i5;have bY:=A1 i6;have aO:=A1 bB;have a5:=A1 aL;by_cases aK:c0.toNat<8
   case neg=>
    (have O:Hid (X=none):=by unfold Hid;rw[<-aH.o,bY.o,Af aK];rfl);rw[show decide (c0.toNat<8)=false from Cv aK]at aZ;go_wp2_with (go_at_call 176;refine(aZ.o _).k ?_;rintro w6 aR;have aJ:=A1 aR);go_ret2;exact .inl ⟨O.o,rfl,(aY.o.tr aJ.o).aj _⟩
   case pos=>
    rw[show decide (c0.toNat<8)=true from Cu aK]at aZ;have cA:Hid (Y=(EV k q).map λr=>((z++[((c0.toNat:Int),I,E)])++r.1,r.2)):=by
     unfold Hid;rw[bY.o,Ai aK];cases EV k q<;>simp
    go_wp2_with (go_at_call 176;refine(aZ.o _).k ?_;rintro w6 aR;have bM:=A1 (Bl w6 (.cells #[A0 c0.toNat,A0 I,A0 E] 113));have aJ:=A1 aR);have bU:A4 Aa wr (w6.alloc (.cells #[A0 c0.toNat,A0 I,A0 E] 113)):=aJ.o.aj _;have aX:Hid (Ce (w6.alloc (.cells #[A0 c0.toNat,A0 I,A0 E] 113)) w6.heap.size c0.toNat I E):=bM.o;have a4:=A1 bU;have bW:Hid (∀g,(Value.slice ap z.length cp).ownBlock=some g->g<w6.heap.size):=λg W=>Bn (Aw aU.o W) aJ.o.Ak;generalize (w6.alloc (.cells #[A0 c0.toNat,A0 I,A0 E] 113))=w7 at aX a4 ⊢;generalize w6.heap.size=pb at aX bW ⊢;have bZ:=A1 (bN.o.al a4.o (λh=>h));have b0:Hid (B1 w7 (.slice ap z.length cp) z):=Au aU.o λg W=>a4.o.Al g (Aw aU.o W) (λh=>h);have b3:Hid (w2.heap.size<=w7.heap.size):=AP bK.o a4.o.Ak;have cD:Hid (A4 Aa w w7):=aY.o.tr a4.o;refine Br (λw'=>A8 w' pb 0 (A0 c0.toNat)/\A8 w' pb 1 (A0 I)/\A8 w' pb 2 (A0 E)/\A8 w' gb 4 (.slice ap z.length cp)) 8
     (Ba [0,1,2,3,4,5,6,7] [6,7]) ⟨aX.o.aa.c0,aX.o.aa.c1,aX.o.aa.c2,bZ.o.aa.c4⟩ ?_
    iterate 6 refine B4 ?_
    refine Bf λK hK=>?_;go_simp;have ka:A4 Aa w7 (w7.alloc (.cells #[A0 c0.toNat,A0 I,A0 E] 113)).drew:=((A4.C _ _).aj _).aa;have bG:=aX.o.al ka (λh=>h);have bX:=bZ.o.al ka (λh=>h);have b8:Hid (B1 (w7.alloc (.cells #[A0 c0.toNat,A0 I,A0 E] 113)).drew (.slice ap z.length cp) z):=Au b0.o λg W=>ka.Al g (Aw b0.o W) (λh=>h);have bD:Hid (Src Tryz.prog 3 97 (AA w7.heap.size 1 1) 1 #[A0 c0.toNat,A0 I,A0 E].toList (w7.alloc (.cells #[A0 c0.toNat,A0 I,A0 E] 113)).drew):=by
     have hb:(w7.alloc (.cells #[A0 c0.toNat,A0 I,A0 E] 113)).drew.heap[w7.heap.size]?=some (.cells #[A0 c0.toNat,A0 I,A0 E] 113 (0,0)):=Bl w7 _;exact Src.cc GP hb 1 1 rfl (Hu [((c0.toNat:Int),I,E)])
    refine hK _ _ ⟨bG.c0,bG.c1,bG.c2,bX.c4⟩ (λhS=>?_);refine Dv rfl (by rfl) (λK hK=>?_);refine HP (.tmp 40) (.tmp 42) 97 97 rfl 113 i0 _ 3 24 GP hi hz0 hz1 hz2 rfl (by decide) (.slice ap z.length cp) z.length (B5 z) (by rfl) b8.o _ 1 _ (by rfl) bD.o (by have:=a5.o;omega) ?_;intro a8 L w8 hA;have aI:=hA.Am (S:=λk=>(Value.slice ap z.length cp).ownBlock=some k) λ_ h=>h;have b2:Hid (gb<w2.heap.size):=Bn bQ.o a6.o;have aV:=bG.al aI (λh=>Gs _ (bW.o _ h));have aM:=bX.al aI (λh=>by have:=a9.o _ h;have:=b2.o;omega);have b7:Hid (B1 w8 (.slice a8 (z.length+1) L) (z++[((c0.toNat:Int),I,E)])):=by
     (have e:(z++[((c0.toNat:Int),I,E)]).length=z.length+1:=by simp);unfold Hid B1;rw[Ig,e];exact hA.AB
    have b1:Hid (∀g,(Value.slice a8 (z.length+1) L).ownBlock=some g->w2.heap.size<=g):=λg W=>by
     rcases hA.BY with h|h
     ·rw[h]at W;exact a9.o g W
     ·rw[h]at W;cases W;have:=b3.o;have:=ka.Ak;omega
    (have cC:Hid (A4 Aa w w8):=(cD.o.tr ka).AH aI λy hy aP=>by have:=a9.o y hy;have:=aF.o.Ak;omega);have cE:Hid (w2.heap.size<=w8.heap.size):=AP b3.o (AP ka.Ak aI.Ak);refine hK _ _ ⟨aV.c0,aV.c1,aV.c2,aM.c4⟩ (λhS=>?_);have g4:=aM.c4;have f4:=aM.fz 4;have b6:=A1 (aM.s4 (.slice a8 (z.length+1) L));have b5:Hid (A4 Aa w (w8.sC gb 4 (.slice a8 (z.length+1) L))):=cC.o.bh (p:=(A9 gb 4)) (λh=>by have h':gb<w.heap.size:=h;have:=a0.o;omega) _;have b4:Hid (B1 (w8.sC gb 4 (.slice a8 (z.length+1) L)) (.slice a8 (z.length+1) L) (z++[((c0.toNat:Int),I,E)])):=Au b7.o λg W=>Fw _ _ _ _ (λe=>by have e':g=gb:=e;have:=b1.o g W;have:=b2.o;omega);refine Bo ?_;go_wp2;go_roundw
    ·exact⟨q,k,z++[((c0.toNat:Int),I,E)],rfl,by have:=a5.o;have:=aO.o;simp;omega,_,b6.o,by have:=b4.o;simpa using this,by have:=b1.o;simpa using this,⟨b5.o,by have:=cE.o;simpa using this⟩,by have:=b9.o;have:=aO.o;omega,cA.o⟩
    ·(have e:(ByteArray.mk q.toArray).size=q.length:=by show q.toArray.size=_;simp);have:=aO.o;simp only[e,aA];omega
end
end
end Go.Proofs.YtodcnkbblippnaaGreatDoor
