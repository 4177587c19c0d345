/- Part 19 of a proof: walks of the program. -/
import Derived.Shelf.Strings.BuilderK
import Derived.Test.YtodcnkbblippnaaGreatDoorPart18
namespace Go.Proofs.YtodcnkbblippnaaGreatDoor
set_option maxRecDepth 100000
set_option maxHeartbeats 32000000
set_option linter.defProp false
open Go.Proofs.Tryz
section
open Go.RowKit
attribute [local go_sem ↓] CJ
def Z4{k:Nat}{l:Bs}(h:l.length<17):DO k l=some ([],l):=by cases k<;>simp[DO,h]
def Z5{k:Nat}{c:UInt8}{d:Bs}(h:16<=d.length):DO (k+1) (c::d)=if c.toNat<8 then (DO k (d.drop 16)).map λr=>(((c.toNat:Int),BI d,BI (d.drop 8)):: r.1,r.2) else none:=by
 have z:¬(c::d).length<17:=by simp;omega
 simp only[DO,Aa z];rfl
section
variable{w:ga}{b B:Nat}{P:PD}{Ft:Nat->Prop}{a c m:Nat}{n:Int}
def ZQ(w:ga)(h:Bf w b P Ft)(aP:∀k,Ft k->k<w.heap.size)(hF:Fit P a c m)(hl:CP a c m)(hn:CH n)(hL:Lets B w):
 Ag 135 #[A5 b,A0 n] w λe w'=>
  (P.BN n=none/\e=.returned (.tuple #[.pointer none,A0 7])/\A3 Ab w w')\/
  ∃l W v,P.BN n=some l/\e=.returned (.tuple #[A5 W,A0 0])/\BZ w' W 182 b (Aw n) (AB (Aw n)) n v/\AX w' v l/\(∀g,v.ownBlock=some g->w.heap.size<=g)/\w.heap.size<=W/\A3 Ab w w':=by
 have⟨i0,hi,hz0,hz1,hz2⟩:=Eg IN;have bH:=A1 (S9 w b hn hL);have bA:Hid (∀w1,A3 Ab w w1->_):=λw1 hc=>T3 (Aw n) (B1.ay h aP hc) (λk hk=>Bi (aP k hk) hc.Aj) hF hl;have aQ:(P.aS (Aw n)).1.length<=4294967296:=by
  have h1:=Kz hF (Aw n);have:=hl.m;unfold PD.aS;split
  ·simp
  ·split
   ·rename_i d hd;unfold G2 at hd;split at hd
    ·cases hd
    ·split at hd
     ·cases hd;simp only[BT];omega
     ·cases hd
   ·simp
 obtain⟨X,hX⟩:∃X,P.BN n=X:=⟨_,rfl⟩;have bI:Hid (Hj (P.aS (Aw n))=X):=hX;rw[hX];have bL:Aw n=BO 2 n:=rfl;rw[<-bL]at bH;generalize hnme:Aw n=nm at bH bA bI aQ ⊢;generalize hs0:AB nm=s0 at bH bA ⊢;obtain⟨⟨dt,de⟩,bP⟩:∃x,P.aS nm=x:=⟨_,rfl⟩;rw[bP]at bA bI aQ;dsimp only at bA aQ
 go_enter func135,ntmps135
 go_wp2_with (fail);refine bH.m ?_;rintro e w1⟨W,rfl,aN,bE,bV⟩;have a3:=A1 (bA.o w1 bE);have a1:=A1 aN;have a2:=A1 bE;have a0:=A1 bV;have g0:=aN.c0;have g1:=aN.c1;have g2:=aN.c2;by_cases he:de=0
 case neg=>
  have hb:(de !=0)=true:=by simpa using he
  have L:Hid (X=none):=by unfold Hid;rw[<-bI.o];unfold Hj;rw[Ae he]
  go_wp2_with (go_at_call 126;refine a3.k ?_;rintro w2 aE;have aF:=A1 aE);go_ret2;exact .inl ⟨L.o,rfl,a2.o.tr aF.o⟩
 case pos=>
 subst he
 have aH:Hid ((match DO dt.length dt with
  | none=>none
  | some (l,r)=>if r=[]/\Cw Cr l=true then some l else none)=X):=by
  rw[<-bI.o];unfold Hj;rw[Aa (by simp)];rfl
 generalize hY:DO dt.length dt=Y at aH;have cB:=A1 hY;go_wp2_with (fail);refine a3.k ?_;rintro w2 aE;have bT:=A1 (a1.o.an aE (λh=>h));have aF:Hid (A3 Ab w w2):=a2.o.tr aE;have bQ:=A1 a1.o.lt;have a6:=A1 aE.Aj;go_wp2;go_loopw [7] (λtv wr=>∃(l:Bs) (k:Nat) (z:gh Pu),tv=.string ⟨l.toArray⟩/\z.length*17+l.length<=dt.length/\Hid (∃v,BZ wr W 182 b nm s0 n v/\AX wr v z/\(∀g,v.ownBlock=some g->w2.heap.size<=g)/\(A3 Ab w wr/\w2.heap.size<=wr.heap.size)/\l.length<=k/\Y=(DO k l).map λr=>(z++r.1,r.2))) (λtv _=>match tv with | .string x=>x.size|_=>0)
 ·exact⟨dt,dt.length,[],rfl,by simp,_,bT.o,CT _ _ _ _,λg O=>by simp[Value.ownBlock]at O,⟨aF.o,Ao _⟩,Ao _,by rw[<-cB.o];simp⟩
 ·obtain⟨l,k,z,rfl,aL,hI⟩:=hrel;have aA:(ByteArray.mk l.toArray).size=l.length:=by show l.toArray.size=_;simp
  by_cases aT:l.length<17
  case pos=>
   obtain⟨v,i1,i2,i3,⟨i4,a7⟩,-,i6⟩:=hI.o;rw[Z4 aT]at i6;simp only[Ig,GJ]at i6;subst i6;(have hlt17:¬(17<=(l.length:Int)):=by omega);have bN:=A1 i1;have aU:=A1 i2;have a9:=A1 i3;have aY:=A1 i4;have g4:=i1.c4;by_cases aB:l=[]
   case neg=>
    (have L:Hid (X=none):=by unfold Hid;rw[<-aH.o];simp only;rw[Aa (λh=>aB h.1)]);have hbl:(l==[])=false:=Ic.2 aB;go_wp2;go_ret2;exact .inl ⟨L.o,rfl,aY.o⟩
   case pos=>
   subst aB;have bF:=A1 (Zo wr v z aU.o.rd (by simp at aL;omega));by_cases hr:Cw Cr z=true
   case neg=>
    (have bR:Cw Cr z=false:=by simpa using hr);(have L:Hid (X=none):=by unfold Hid;rw[<-aH.o];simp only;rw[Aa (λh=>hr h.2)]);rw[bR]at bF;go_wp2_with (go_at_call 177;refine bF.k ?_;rintro w3 aS;have aD:=A1 aS);go_ret2;exact .inl ⟨L.o,rfl,aY.o.tr aD.o⟩
   case pos=>
    (have L:Hid (X=some z):=by unfold Hid;rw[<-aH.o];simp only;rw[Ae ⟨by first|trivial|rfl,hr⟩]);rw[hr]at bF;go_wp2_with (go_at_call 177;refine bF.k ?_;rintro w3 aS;have aD:=A1 aS);go_ret2;exact .inr ⟨z,W,v,L.o,rfl,bN.o.an aD.o (λh=>h),Ax aU.o λg O=>aD.o.An g (AF aU.o O) (λh=>h),λg O=>AJ aF.o.Aj (a9.o g O),a0.o,aY.o.tr aD.o⟩
  case neg=>
   have⟨v,i1,i2,i3,⟨i4,a7⟩,i5,i6⟩:=hI.o;obtain⟨k,rfl⟩:∃k',k=k'+1:=⟨k-1,by omega⟩;obtain⟨c0,d,rfl⟩:∃c0 d,l=c0::d:=by
    cases l with
    | nil=>simp at aT
    | cons c0 d=>exact⟨c0,d,rfl⟩
   (have aG:16<=d.length:=by simp at aT;omega);rw[Z5 aG]at i6;obtain⟨ap,cp,rfl,hcap1,aW,-⟩:=B9 i2;unfold maxLen at aW;have aZ:=A1 (λw5=>Te w5 c0 d ⟨aG,by simp at aL;omega⟩);have e2:(ByteArray.mk (c0::d).toArray).extract 17 (d.length+1)=⟨(d.drop 16).toArray⟩:=by
    rw[extract_mk,DW,EG (by rw[CO];omega)]
   obtain⟨H,bS⟩:∃H,BI d=H:=⟨_,rfl⟩;obtain⟨E,bJ⟩:∃E,BI (d.drop 8)=E:=⟨_,rfl⟩;rw[bS,bJ]at aZ i6;obtain⟨q,hq⟩:∃q,d.drop 16=q:=⟨_,rfl⟩;(have bB:q.length+16=d.length:=by rw[<-hq,CO];omega);rw[hq]at e2 i6;obtain⟨ll,bC⟩:∃ll,d.length=ll:=⟨_,rfl⟩;(have bO:(c0::d).length=ll+1:=by simp[bC]);rw[bO]at aA aL i5;rw[bC]at e2 aG bB;(have hge:17<=(ll:Int)+1:=by omega);generalize hty:ByteArray.mk (c0::d).toArray=ty at e2 aA aZ ⊢;have g4:=i1.c4;have f4:=i1.fz 4;have bN:=A1 i1;have aU:=A1 i2;have a9:=A1 i3;have aY:=A1 i4;have bK:=A1 a7;have b9:=A1 i5;have bY:=A1 i6;have aO:=A1 bB;have a5:=A1 aL;by_cases aK:c0.toNat<8
   case neg=>
    (have L:Hid (X=none):=by unfold Hid;rw[<-aH.o,bY.o,Aa aK];rfl);rw[show decide (c0.toNat<8)=false from De aK]at aZ;go_wp2_with (go_at_call 176;refine(aZ.o _).k ?_;rintro w6 aR;have aJ:=A1 aR);go_ret2;exact .inl ⟨L.o,rfl,(aY.o.tr aJ.o).al _⟩
   case pos=>
    rw[show decide (c0.toNat<8)=true from CM aK]at aZ;have cA:Hid (Y=(DO k q).map λr=>((z++[((c0.toNat:Int),H,E)])++r.1,r.2)):=by
     unfold Hid;rw[bY.o,Ae aK];cases DO k q<;>simp
    go_wp2_with (go_at_call 176;refine(aZ.o _).k ?_;rintro w6 aR;have bM:=A1 (BL w6 (.cells #[A0 c0.toNat,A0 H,A0 E] 113));have aJ:=A1 aR);have bU:A3 Ab wr (w6.alloc (.cells #[A0 c0.toNat,A0 H,A0 E] 113)):=aJ.o.al _;have aX:Hid (C5 (w6.alloc (.cells #[A0 c0.toNat,A0 H,A0 E] 113)) w6.heap.size c0.toNat H E):=bM.o;have a4:=A1 bU;have bW:Hid (∀g,(Value.slice ap z.length cp).ownBlock=some g->g<w6.heap.size):=λg O=>Bi (AF aU.o O) aJ.o.Aj;generalize (w6.alloc (.cells #[A0 c0.toNat,A0 H,A0 E] 113))=w7 at aX a4 ⊢;generalize w6.heap.size=pb at aX bW ⊢;have bZ:=A1 (bN.o.an a4.o (λh=>h));have b0:Hid (AX w7 (.slice ap z.length cp) z):=Ax aU.o λg O=>a4.o.An g (AF aU.o O) (λh=>h);have b3:Hid (w2.heap.size<=w7.heap.size):=AJ bK.o a4.o.Aj;have cD:Hid (A3 Ab w w7):=aY.o.tr a4.o;refine Cc (λw'=>A7 w' pb 0 (A0 c0.toNat)/\A7 w' pb 1 (A0 H)/\A7 w' pb 2 (A0 E)/\A7 w' W 4 (.slice ap z.length cp)) 8
     (BG [0,1,2,3,4,5,6,7] [6,7]) ⟨aX.o.ag.c0,aX.o.ag.c1,aX.o.ag.c2,bZ.o.ag.c4⟩ ?_
    iterate 6 refine Bq ?_
    refine Bx λK hK=>?_;go_simp;have ka:A3 Ab w7 (w7.alloc (.cells #[A0 c0.toNat,A0 H,A0 E] 113)).drew:=((A3.I _ _).al _).ag;have bG:=aX.o.an ka (λh=>h);have bX:=bZ.o.an ka (λh=>h);have b8:Hid (AX (w7.alloc (.cells #[A0 c0.toNat,A0 H,A0 E] 113)).drew (.slice ap z.length cp) z):=Ax b0.o λg O=>ka.An g (AF b0.o O) (λh=>h);have bD:Hid (Src Tryz.prog 3 97 (AH w7.heap.size 1 1) 1 #[A0 c0.toNat,A0 H,A0 E].toList (w7.alloc (.cells #[A0 c0.toNat,A0 H,A0 E] 113)).drew):=by
     have hb:(w7.alloc (.cells #[A0 c0.toNat,A0 H,A0 E] 113)).drew.heap[w7.heap.size]?=some (.cells #[A0 c0.toNat,A0 H,A0 E] 113 (0,0)):=BL w7 _;exact Src.cv Gy hb 1 1 rfl (IE [((c0.toNat:Int),H,E)])
    refine hK _ _ ⟨bG.c0,bG.c1,bG.c2,bX.c4⟩ (λhS=>?_);refine Eb rfl (by rfl) (λK hK=>?_);refine Ir (.tmp 40) (.tmp 42) 97 97 rfl 113 i0 _ 3 24 Gy hi hz0 hz1 hz2 rfl (by decide) (.slice ap z.length cp) z.length (Bb z) (by rfl) b8.o _ 1 _ (by rfl) bD.o (by have:=a5.o;omega) ?_;intro a8 I w8 hA;have aI:=hA.Al (S:=λk=>(Value.slice ap z.length cp).ownBlock=some k) λ_ h=>h;have b2:Hid (W<w2.heap.size):=Bi bQ.o a6.o;have aV:=bG.an aI (λh=>Ge _ (bW.o _ h));have aM:=bX.an aI (λh=>by have:=a9.o _ h;have:=b2.o;omega);have b7:Hid (AX w8 (.slice a8 (z.length+1) I) (z++[((c0.toNat:Int),H,E)])):=by
     (have e:(z++[((c0.toNat:Int),H,E)]).length=z.length+1:=by simp);unfold Hid AX;rw[Jk,e];exact hA.AE
    have b1:Hid (∀g,(Value.slice a8 (z.length+1) I).ownBlock=some g->w2.heap.size<=g):=λg O=>by
     rcases hA.CA with h|h
     ·rw[h]at O;exact a9.o g O
     ·rw[h]at O;cases O;have:=b3.o;have:=ka.Aj;omega
    (have cC:Hid (A3 Ab w w8):=(cD.o.tr ka).Av aI λy hy aP=>by have:=a9.o y hy;have:=aF.o.Aj;omega);have cE:Hid (w2.heap.size<=w8.heap.size):=AJ b3.o (AJ ka.Aj aI.Aj);refine hK _ _ ⟨aV.c0,aV.c1,aV.c2,aM.c4⟩ (λhS=>?_);have g4:=aM.c4;have f4:=aM.fz 4;have b6:=A1 (aM.s4 (.slice a8 (z.length+1) I));have b5:Hid (A3 Ab w (w8.sC W 4 (.slice a8 (z.length+1) I))):=cC.o.bn (p:=(Ac W 4)) (λh=>by have h':W<w.heap.size:=h;have:=a0.o;omega) _;have b4:Hid (AX (w8.sC W 4 (.slice a8 (z.length+1) I)) (.slice a8 (z.length+1) I) (z++[((c0.toNat:Int),H,E)])):=Ax b7.o λg O=>Hg _ _ _ _ (λe=>by have e':g=W:=e;have:=b1.o g O;have:=b2.o;omega);refine C8 ?_;go_wp2;go_roundw
    ·exact⟨q,k,z++[((c0.toNat:Int),H,E)],rfl,by have:=a5.o;have:=aO.o;simp;omega,_,b6.o,by have:=b4.o;simpa using this,by have:=b1.o;simpa using this,⟨b5.o,by have:=cE.o;simpa using this⟩,by have:=b9.o;have:=aO.o;omega,cA.o⟩
    ·(have e:(ByteArray.mk q.toArray).size=q.length:=by show q.toArray.size=_;simp);have:=aO.o;simp only[e,aA];omega
end
def B8(p:Pu):Prop:=(0<=p.1/\p.1<8)/\AT p.2.1/\AT p.2.2
def ZY(a b:gh Pu):Ci (a++b)=Ci a++Ci b:=by simp[Ci]
def P5(s t v:Int):(Bc s t v).length=17:=by simp[Bc,CQ]
def P3(l:gh Pu):(Ci l).length=17*l.length:=by
 induction l with
 | nil=>rfl
 | cons p r ih=>
  have:Ci (p::r)=Bc p.1 p.2.1 p.2.2++Ci r:=rfl;rw[this,AY,ih,P5,Cg];omega
def A3.cc{B:Nat}{w w':ga}(h:Below B w w'):A3 (λk=>B<=k) w w':=⟨h.os,h.tape,h.output,h.size,λk _ hn=>h.block k (by omega)⟩
section
variable{w:ga}{b B:Nat}{P:PD}{Ft:Nat->Prop}{a c m:Nat}{n:Int}
def A0V(w:ga)(pv:gd)(l:gh Pu)(h:Bf w b P Ft)(W:∀k,Ft k->k<w.heap.size)(hF:Fit P a c m)(hl:CP (a+1) (c+1) m)(hn:CH n)(hL:Lets B w)(hp:HR w pv l)(bA:∀p∈l,B8 p)(hpl:l.length<=134217728):
 Ag 151 #[A5 b,A0 n,pv] w λe w'=>
  ((P.aI n l).1≠0/\e=.returned (.tuple #[.pointer none,A0 (P.aI n l).1])\/(P.aI n l).1=0/\∃d,e=.returned (.tuple #[A5 d,A0 0]))/\Aq w Ft w' (λw' O=>Bf w' b (P.aI n l).2 O):=by
 have aU:=A1 (S9 w b hn hL);have aL:Hid (∀w1,A3 Ab w w1->_):=λw1 hc=>R7 (Aw n) (Ci l) (Iw (Aw n)) (B1.ay h W hc) (λk hk=>Bi (W k hk) hc.Aj) (by rw[P3];omega) hF hl;obtain⟨X,hX⟩:∃X,P.aI n l=X:=⟨_,rfl⟩;have aW:P.aH (Aw n) (AB (Aw n)) (Ci l)=X:=hX;rw[hX];rw[aW]at aL;have a1:Aw n=BO 2 n:=rfl;rw[<-a1]at aU;generalize hnme:Aw n=nm at aU aL;generalize hs0:AB nm=s0 at aU aL;obtain⟨pa,H,rfl,hcap1,aK⟩:=hp.Cd;unfold maxLen at aK;have bP:=A1 hp;have a3:=A1 W
 go_enter func151,ntmps151
 go_wp2_with (fail);refine aU.o.mono ?_;rintro e w1⟨d,rfl,aF,aN,bG⟩;have a2:=A1 aF;have HC1:=A1 aN;have aZ:=A1 bG;have f4:=aF.fz 4;have g4:=aF.c4;have bC:=A1 (aF.s4 (.slice pa l.length H));have a5:Hid (A3 Ab w (w1.setCell (Ac d 4) (.slice pa l.length H))):=aN.bn (p:=(Ac d 4)) (λh=>by have h':d<w.heap.size:=h;omega) _;have HG1:=A1 a2.o.lt;obtain⟨L,aM⟩:∃L,w1.setCell (Ac d 4) (.slice pa l.length H)=L:=⟨_,rfl⟩;have hw2s:w1.heap.size=L.heap.size:=by rw[<-aM];simp
 rw[aM]at bC a5;have aE:Hid (d<L.heap.size):=bC.o.lt;have bH:=A1 (VX L);have bN:=A1 (bC.o.an ((A3.I Ab L).al (.cells #[.pointer none,.slice none 0 0] 260)) (λh=>h));have bL:Hid (A3 Ab w (L.alloc (.cells #[.pointer none,.slice none 0 0] 260))):=a5.o.al _;have aI:Hid (w.heap.size<=L.heap.size):=a5.o.Aj;go_wp2;generalize bB:L.alloc (.cells #[.pointer none,.slice none 0 0] 260)=w3 at bH bN bL ⊢;have aO:Hid (L.heap.size<=w3.heap.size):=by rw[<-bB];show L.heap.size<=_;simp
 generalize L.heap.size=bb at bH aE aI aO ⊢;go_loopw [22] (λiv wr=>∃k:Nat,iv=A0 k/\k<=l.length/\Hid (GZ bb bb (Ci (l.take k)) wr/\BZ wr d 182 b nm s0 n (.slice pa l.length H)/\A3 Ab w wr/\bb<=wr.heap.size)) (λiv _=>l.length-(intOf iv).toNat)
 ·exact⟨0,rfl,by omega,by simpa[Ci] using bH.o,bN.o,bL.o,aO.o⟩
 ·obtain⟨k,rfl,hk,hI⟩:=hrel;by_cases aD:k<l.length
  ·have⟨i1,i2,i3,i4⟩:=hI.o;obtain⟨g,o,rfl,-,c1,c2,c3⟩:=HR.at bP.o k aD;have I:=bA _ (BU aD);have aR:l.take (k+1)=l.take k++[l[k]'aD]:=Dy aD;generalize hxe:(l[k]'aD)=x at c1 c2 c3 I aR;obtain⟨x1,x2,x3⟩:=x;dsimp only at c1 c2 c3;have d1:=i3.ao c1;have d2:=i3.ao c2;have d3:=i3.ao c3;obtain⟨⟨aQ,aX⟩,ht,hv⟩:=I;dsimp only at aQ aX ht hv;have PB:=A1 (λz=>Th z x1 x2 x3 ⟨aQ,by omega⟩ ht hv);(have aG:Hid (Ci (l.take (k+1))=Ci (l.take k)++Bc x1 x2 x3):=by unfold Hid;rw[aR,ZY];simp[Ci]);(have aY:(Ci (l.take k)).length<=17*l.length:=by rw[P3,BT];omega);generalize hpk:Ci (l.take k)=pk at i1 aG aY;have aV:=P5 x1 x2 x3;generalize hpbe:Bc x1 x2 x3=pb at PB aG aV;have a6:=A1 i1;have aJ:=A1 i2;have bD:=A1 i3;have aT:=A1 i4;have bO:Hid (∀w6,A3 Ab wr w6->_):=λw6 h6=>O7 (t:=pb) w6 (a6.o.an h6 (λ_ h=>h.elim)) (by omega) (AJ aT.o h6.Aj);(have a4:(k:Int)<(l.length:Int):=by omega);have hk0:(0:Int)<=(k:Int):=GK _;go_wp2_with (fail);refine(PB.o _).k ?_;rintro w6 a8;have aS:Hid (A3 Ab wr w6):=((A3.I Ab wr).al _).tr a8;have a7:=A1 (bO.o w6 aS.o);go_wp2_with (go_at_call 194;refine a7.k ?_;rintro w7⟨bE,bF⟩;have a0:=A1 bE;have aP:=A1 bF);go_roundw
   ·have c7:A3 (λk=>bb<=k) w6 w7:=A3.cc aP.o;refine⟨k+1,by go_num,by omega,by rw[aG.o];exact a0.o,(aJ.o.an aS.o (λh=>h)).an c7 (λh=>by have:=aE.o;omega),?_,?_⟩
    ·exact(bD.o.tr aS.o).Av c7 λx I W=>by have:=aI.o;omega
    ·exact AJ aT.o (AJ aS.o.Aj aP.o.size)
   ·simp[intOf];omega
  ·have⟨i1,i2,i3,i4⟩:=hI.o;(obtain rfl:k=l.length:=by omega);rw[Cf]at i1;have a6:=A1 i1;have aJ:=A1 i2;have bD:=A1 i3;have aT:=A1 i4;have bK:=A1 (A3Z wr.drew (a6.o.an ((A3.I Ab _).ag) (λ_ h=>h.elim)) aT.o);(have a4:¬((l.length:Int)<(l.length:Int)):=by omega);have aA:Hid (∀z,Below bb wr.drew z->(A7 z d 0 (A5 b)/\A7 z d 1 (.string ⟨nm.toArray⟩)/\A7 z d 2 (.int .u32 s0))/\A3 Ab w z):=λz I=>by
    have cx:A3 (λk=>bb<=k) wr.drew z:=A3.cc I;have fx:=aJ.o.ag.an cx (λh=>by have:=aE.o;omega);exact⟨⟨fx.c0,fx.c1,fx.c2⟩,bD.o.ag.Av cx λx I W=>by have:=aI.o;omega⟩
   have e0:=aJ.o.ag.c0;have e1:=aJ.o.ag.c1;have e2:=aJ.o.ag.c2;obtain⟨bI,bJ⟩:=X;dsimp only at aL;have bM:Hid (∀z,Below bb wr.drew z->∀wy,Aq z Ft wy (λw' O=>Bf w' b bJ O)->(A7 wy d 0 (A5 b)/\A7 wy d 1 (.string ⟨nm.toArray⟩)/\A7 wy d 2 (.int .u32 s0))/\Aq w Ft wy (λw' O=>Bf w' b bJ O)):=λz I wy hy=>by
    have cx:A3 (λk=>bb<=k) wr.drew z:=A3.cc I;have fx:=(aJ.o.ag.an cx (λh=>by have:=aE.o;omega)).an hy.1 (λh=>by have:=a3.o _ h;have:=aZ.o;omega);exact⟨⟨fx.c0,fx.c1,fx.c2⟩,hy.a8 (aA.o z I).2⟩
   by_cases I:bI=0
   case neg=>
    (have hxb:(bI !=0)=true:=by simpa using I);go_wp2;refine Cc (λw'=>A7 w' d 0 (A5 b)/\A7 w' d 1 (.string ⟨nm.toArray⟩)/\A7 w' d 2 (.int .u32 s0)) 6
     (BG [0,1,2,3,4,5] [4,5]) ⟨e0,e1,e2⟩ ?_
    iterate 4 refine Bq ?_
    refine Bx λK hK=>?_;go_simp;refine bK.k ?_;rintro w9 E;refine hK _ _ (aA.o w9 E).1 (λhS=>?_);have aH:=A1 (aL.o w9 (aA.o w9 E).2);have Y:=A1 (bM.o w9 E);refine Bx λK hK=>?_;go_simp;refine aH.k ?_;rintro aB hI;refine hK _ _ (Y.o aB hI).1 (λhS=>?_);have a9:=A1 (Y.o aB hI).2;refine C8 ?_;go_wp2;go_ret2;exact⟨rfl,a9.o⟩
   case pos=>
    subst I;go_wp2;refine Cc (λw'=>A7 w' d 0 (A5 b)/\A7 w' d 1 (.string ⟨nm.toArray⟩)/\A7 w' d 2 (.int .u32 s0)) 6
     (BG [0,1,2,3,4,5] [4,5]) ⟨e0,e1,e2⟩ ?_
    iterate 4 refine Bq ?_
    refine Bx λK hK=>?_;go_simp;refine bK.k ?_;rintro w9 E;refine hK _ _ (aA.o w9 E).1 (λhS=>?_);have aH:=A1 (aL.o w9 (aA.o w9 E).2);have Y:=A1 (bM.o w9 E);refine Bx λK hK=>?_;go_simp;refine aH.k ?_;rintro aB hI;refine hK _ _ (Y.o aB hI).1 (λhS=>?_);have a9:=A1 (Y.o aB hI).2;refine C8 ?_;go_wp2;go_ret2;exact⟨⟨_,rfl⟩,a9.o⟩
end
def SU{P:PD}{a c m:Nat}(h:Fit P a c m)(nm:Bs):(P.aS nm).1.length<=m:=by
 have h1:=Kz h nm;unfold PD.aS;split
 ·simp
 ·split
  ·rename_i d z;unfold G2 at z;split at z
   ·cases z
   ·split at z
    ·cases z;simp only[BT];omega
    ·cases z
  ·simp
def UN:∀(k:Nat) (l:Bs),(Fs k l).length*8<=l.length
 | 0,l=>by simp[Fs]
 | k+1,l=>by
  unfold Fs;split
  ·simp
  ·have:=UN k (l.drop 8);simp only[Cg,CO]at this ⊢;omega
def A3.bq{S:Nat->Prop}{w w':ga}(h:A3 S w w'){p:Addr}{v:gd}(d:w.cell? p=some v)(E:¬S p.block):w'.cell? p=some v:=by
 have z:=HL w _ d;have:=h.An p.block z E;unfold World.cell? at d ⊢;rw[this];exact d
def Db.e8{w:ga}{g o n cap:Nat}{l:gh Int}(h:Db w (.slice (some (Ac g o)) n cap) l)(W:0<l.length)(a':Option Addr)(Y:1<l.length->a'=some (Ac g (o+1)))(I:∀x,a'=some x->x.block=g):Db w (.slice a' (n-1) (cap-1)) l.tail:=by
 obtain⟨h1,a,c,e,h2,h3,L,O⟩:=h;cases e;have E:l.tail.length=l.length-1:=List.length_tail;refine⟨by rw[UQ];omega,a',cap-1,by rw[E],by omega,by omega,λx z=>?_,λj u hj=>?_⟩
 ·unfold Value.ownBlock at z;cases a' with
  | none=>simp at z
  | some y=>
   simp only at z;have:=I y rfl;cases z;rw[this];exact L g rfl
 ·have d:(DZ l)[j+1]?=some u:=by
   cases l with
   | nil=>simp at W
   | cons x r=>simpa[DZ] using hj
  have⟨g',o',e,hc⟩:=O _ _ d;cases e;have H:j+1<(DZ l).length:=(Ht.1 d).1;rw[UQ]at H;exact⟨g,o+1,Y (by omega),by rw[show o+1+j=o+(j+1) by omega];exact hc⟩
section
variable{w:ga}{b B:Nat}{P:PD}{Ft:Nat->Prop}{a c m:Nat}{n:Int}
def ZX(w:ga)(h:Bf w b P Ft)(aI:∀k,Ft k->k<w.heap.size)(hF:Fit P a c m)(hl:CP a c m)(hL:Lets B w):
 Ag 96 #[A5 b] w λe w'=>
  (P.CK=none/\e=.returned (.tuple #[.pointer none,A0 7])/\A3 Ab w w')\/
  ∃ix xb v,P.CK=some ix/\e=.returned (.tuple #[A5 xb,A0 0])/\BZ w' xb 162 b Ay (AB Ay) ix.AZ v/\Db w' v ix.sd/\(∀g,v.ownBlock=some g->xb<g)/\w.heap.size<=xb/\A3 Ab w w':=by
 have a7:=A1 (Q3 w b 3 (by omega) (I7 (n:=0) (by omega) (by omega)) hL);have aY:Hid (∀w1,A3 Ab w w1->_):=λw1 hc=>T3 Ay (B1.ay h aI hc) (λk hk=>Bi (aI k hk) hc.Aj) hF hl;have aE:(P.aS Ay).1.length<=4294967296:=AJ (SU hF Ay) hl.m;obtain⟨X,hX⟩:∃X,P.CK=X:=⟨_,rfl⟩;have a9:Hid (indexOf (P.aS Ay)=X):=hX;rw[hX];have bE:BO 3 0=Ay:=rfl;rw[show ((3:Nat):Int)=3 from rfl,bE]at a7;generalize hnme:Ay=nm at a7 aY a9 aE ⊢;generalize hs0:AB nm=s0 at a7 aY ⊢;obtain⟨⟨L,de⟩,bN⟩:∃x,P.aS nm=x:=⟨_,rfl⟩;rw[bN]at aY a9 aE;dsimp only at aY aE
 go_enter func96,ntmps96
 go_wp2_with (fail);refine a7.k ?_;rintro w1 a4;have aF:BZ (w1.aC #[A5 b,.string ⟨nm.toArray⟩,.int .u32 s0,A0 1,.slice none 0 0] 162) w1.heap.size 162 b nm s0 1 (.slice none 0 0):=BL w1 _;have bT:Hid (A3 Ab w (w1.aC #[A5 b,.string ⟨nm.toArray⟩,.int .u32 s0,A0 1,.slice none 0 0] 162)):=a4.al _;have aO:Hid (w.heap.size<=w1.heap.size):=a4.Aj;have bJ:=A1 (aY.o _ bT.o);have bF:=A1 aF;have g0:=aF.c0;have g1:=aF.c1;have g2:=aF.c2;go_wp2_with (fail);refine bJ.k ?_;rintro w2 aS;have aN:=A1 (bF.o.an aS (λh=>h));have aT:Hid (A3 Ab w w2):=bT.o.tr aS;have aH:Hid (w1.heap.size<w2.heap.size):=aN.o.lt;generalize w1.heap.size=xb at *;by_cases h8:de=8
 case pos=>
  subst h8;have z:Hid (X=some ⟨1,[]⟩):=by unfold Hid;rw[<-a9.o];unfold indexOf;rw[Ae rfl]
  go_wp2;go_ret2;exact .inr ⟨⟨1,[]⟩,xb,_,z.o,rfl,aN.o,Dx.bI,λg hg=>by simp[Value.ownBlock]at hg,aO.o,aT.o⟩
 case neg=>
 have h8b:(de==8)=false:=by simpa using h8
 have aR:=A1 (A1Q w2 L aE);have aX:Hid ((Et L).length*8<=L.length):=UN _ _
 have aL:Hid ((if de≠0\/Et L=[]\/L.length≠(Et L).length*8 then none else
  if (Et L).all isNum=false then none else
  if Cw Cn (Et L).tail then some ⟨(Et L).headD 0,(Et L).tail⟩ else none)=X):=by
  rw[<-a9.o];unfold indexOf;rw[Aa h8];rfl
 generalize hns:Et L=ns at aR aX aL;go_wp2_with (fail);refine aR.m ?_;rintro e w3⟨v,rfl,hv,bP,aJ⟩;have aD:=A1 (aN.o.an aJ (λh=>h));have aA:Hid (A3 Ab w w3):=aT.o.tr aJ;obtain⟨ap,cp,rfl,hcap1,aP,bB,-⟩:=B9 hv;unfold maxLen at aP;have bS:=A1 hv;have bG:Hid (∀g,(Value.slice ap ns.length cp).ownBlock=some g->w2.heap.size<=g):=bP;have HW3:=A1 aJ.Aj;by_cases E:de≠0\/ns=[]\/L.length≠ns.length*8
 case pos=>
  have z:Hid (X=none):=by unfold Hid;rw[<-aL.o,Ae E]
  by_cases W:de=0
  ·subst W;by_cases aB:ns=[]
   ·subst aB;go_wp2;go_ret2;exact .inl ⟨z.o,rfl,aA.o⟩
   ·have bA:((ns.length:Int)==0)=false:=by
     have:ns.length≠0:=λe=>aB (GG.1 e);simp;omega
    have hd:((L.length:Int)!=wrap64 ((ns.length:Int)*8))=true:=by
     (have:L.length≠ns.length*8:=by rcases E with h|h|h;exact absurd rfl h;exact absurd h aB;exact h);have:=aX.o;(have ew:wrap64 ((ns.length:Int)*8)=(ns.length:Int)*8:=by unfold wrap64;omega);rw[ew];simp;omega
    go_wp2;go_ret2;exact .inl ⟨z.o,rfl,aA.o⟩
  ·(have hb:(de !=0)=true:=by simpa using W);go_wp2;go_ret2;exact .inl ⟨z.o,rfl,aA.o⟩
 case neg=>
  have hz:de=0/\ns≠[]/\L.length=ns.length*8:=⟨A5j λh=>E (.inl h),λh=>E (.inr (.inl h)),A5j λh=>E (.inr (.inr h))⟩;obtain⟨rfl,aB,hd0⟩:=hz;have aW:Hid ((if ns.all isNum=false then none else if Cw Cn ns.tail then some ⟨ns.headD 0,ns.tail⟩ else none)=X):=by rw[<-aL.o,Aa E];rfl
  have H:0<ns.length:=JM.2 aB;have bA:((ns.length:Int)==0)=false:=by simp;omega
  have hd:((L.length:Int)!=wrap64 ((ns.length:Int)*8))=false:=by
   (have ew:wrap64 ((ns.length:Int)*8)=(ns.length:Int)*8:=by unfold wrap64;omega);rw[ew];simp;omega
  obtain⟨g,rfl⟩:=bB H;have bL:Hid (ns.length<=1099511627776):=by unfold Hid;omega
  go_wp2;go_loopw [44] (λiv wr=>∃k:Nat,iv=A0 k/\k<=ns.length/\wr=w3/\Hid ((ns.take k).all isNum=true)) (λiv _=>ns.length-(intOf iv).toNat)
  ·exact⟨0,rfl,by omega,rfl,by unfold Hid;rfl⟩
  ·obtain⟨k,rfl,hk,rfl,hI⟩:=hrel;by_cases O:k<ns.length
   ·have d:A7 wr g k (A0 (ns[k]'O)):=BH bS.o rfl (PM ns k O);have a1:ns.take (k+1)=ns.take k++[ns[k]'O]:=Dy O;have aG:(ns[k]'O)∈ns:=BU O;generalize I:(ns[k]'O)=x at d a1 aG;have a8:=A1 (UL wr x);(have bH:(k:Int)<(ns.length:Int):=by omega);have hk0:=C3 k;have bD:=A1 a1;have aV:=A1 aG;by_cases hn:isNum x=true
    ·(have bM:Hid ((ns.take (k+1)).all isNum=true):=by unfold Hid;rw[bD.o,List.all_append,hI.o];simp[hn]);rw[hn]at a8;go_wp2_with (go_at_call 128;refine a8.k ?_;rintro w4 rfl);go_roundw
     ·exact⟨k+1,by go_num,by omega,trivial,bM.o⟩
     ·simp[intOf];omega
    ·(have bI:isNum x=false:=by simpa using hn);have z:Hid (X=none):=by
      unfold Hid;rw[<-aW.o,Ae];have:¬ns.all isNum=true:=λh=>hn (NY.1 h x aV.o);simpa using this
     rw[bI]at a8;go_wp2_with (go_at_call 128;refine a8.k ?_;rintro w4 rfl);go_ret2;exact .inl ⟨z.o,rfl,aA.o⟩
   ·(obtain rfl:k=ns.length:=by omega);(have hall:ns.all isNum=true:=by have:=hI.o;rwa [Cf]at this);(have aK:Hid ((if Cw Cn ns.tail then some (Ix.mk (ns.headD 0) ns.tail) else none)=X):=by have:=aW.o;rwa [Aa (by simp[hall])]at this);have d:A7 wr.drew g 0 (A0 (ns.headD 0)):=by
     have W:=PM ns 0 H;have:(ns[0]'H)=ns.headD 0:=by cases ns with
      | nil=>simp at H
      | cons x r=>rfl
     rw[this]at W;exact BH bS.o rfl W
    (have bH:¬((ns.length:Int)<(ns.length:Int)):=by omega);have f3:=aD.o.ag.fz 3;have f4:=aD.o.ag.fz 4;have g3:=aD.o.ag.c3;have g4:=aD.o.ag.c4;generalize hh0:ns.headD 0=W at d aK;(have hn1:(1:Int)<=(ns.length:Int):=by omega);obtain⟨a',aQ⟩:∃a':Option Addr,(if cp=1 then some ((Ac g 0):Addr) else some (Ac g 1))=a':=⟨_,rfl⟩;have bV:=A1 (Db.e8 (DF.rd bS.o) H a' (λh=>by rw[<-aQ,Aa (by omega)]) (λx I=>by rw[<-aQ]at I;split at I<;>cases I<;>rfl));(have bR:∀x,a'=some x->x.block=g:=λx I=>by rw[<-aQ]at I;split at I<;>cases I<;>rfl);have bC:∀g',(Value.slice a' (ns.length-1) (cp-1)).ownBlock=some g'->g'=g:=λg' hg=>by
     unfold Value.ownBlock at hg;cases I:a' with
     | none=>rw[I]at hg;simp at hg
     | some y=>rw[I]at hg;have:=bR y I;simp at hg;omega
    have aU:=A1 bC;have aM:Hid (w2.heap.size<=g):=bG.o g rfl;have bQ:BZ (wr.setCell (Ac xb 3) (A0 W)).drew xb 162 b nm s0 W (.slice none 0 0):=(aD.o.s3 W).ag;have k9:A3 (One xb) wr (wr.setCell (Ac xb 3) (A0 W)).drew:=((A3.I (One xb) wr).aq (b:=xb) rfl 3 _).ag;have Y:(wr.setCell (Ac xb 3) (A0 W)).drew.cell? (Ac g 0)=some (A0 W):=k9.bq d (λh=>by have h':g=xb:=h;have:=aM.o;have:=aH.o;omega);have a6:=A1 bQ;have bU:=A1 k9;go_wp2;refine Cc (λw'=>A7 w' g 0 (A0 W)) 10
     (BG [0,1,2,3,4,5,6,7,8,9] [9]) d ?_
    iterate 9 refine Bq ?_
    refine Bx λK hK=>?_;go_simp;refine hK _ _ Y (λhS=>?_);refine C8 ?_;generalize (wr.setCell (Ac xb 3) (A0 W)).drew=w9 at a6 bU Y ⊢;have f94:=a6.o.fz 4;have g94:=a6.o.c4;have a2:=A1 (a6.o.s4 (.slice a' (ns.length-1) (cp-1)));have c104:=a2.o.c4;have a0:A3 (One xb) wr (w9.setCell (Ac xb 4) (.slice a' (ns.length-1) (cp-1))):=bU.o.aq rfl 4 _;(have aZ:Hid (A3 Ab w (w9.setCell (Ac xb 4) (.slice a' (ns.length-1) (cp-1)))):=aA.o.Av a0 λx I aI=>by have bK:x=xb:=I;have:=aO.o;omega);have a3:Hid (Db (w9.setCell (Ac xb 4) (.slice a' (ns.length-1) (cp-1))) (.slice a' (ns.length-1) (cp-1)) ns.tail):=Dx.Al bV.o a0 λg' hg I=>by
     have bK:g'=xb:=I;have:=aU.o g' hg;have:=aM.o;have:=aH.o;omega
    have a5:=A1 (Zp _ _ _ a3.o (by rw[List.length_tail];have:=bL.o;omega));by_cases hr:Cw Cn ns.tail=true
    ·rw[hr]at a5;(have z:Hid (X=some ⟨W,ns.tail⟩):=by unfold Hid;rw[<-aK.o,Ae hr]);go_wp2_with (go_at_call 129;refine a5.k ?_;rintro w5⟨nn,rfl⟩);go_ret2;have kk:=(A3.I Ab (w9.setCell (Ac xb 4) (.slice a' (ns.length-1) (cp-1)))).bb nn;exact .inr ⟨_,xb,_,z.o,rfl,a2.o.an kk (λh=>h),Dx.Al a3.o kk (λ_ _ h=>h),λg' hg=>by have:=aU.o g' hg;have:=aM.o;have:=aH.o;omega,aO.o,aZ.o.tr kk⟩
    ·(have bO:Cw Cn ns.tail=false:=by simpa using hr);rw[bO]at a5;(have z:Hid (X=none):=by unfold Hid;rw[<-aK.o,Aa hr]);go_wp2_with (go_at_call 129;refine a5.k ?_;rintro w5⟨nn,rfl⟩);go_ret2;exact .inl ⟨z.o,rfl,aZ.o.bb nn⟩
end
def A3Y{B b:Nat}{l:gh UInt8}(w:ga)(h:GZ B b l w)(d:B<=w.heap.size):
 Calls Tryz.prog 197 #[.pointer (some ⟨b,0,none⟩)] w λe w'=>e=.returned (.string ⟨l.toArray⟩)/\Below B w w'/\∀k o,w.heap[k]?=some o->k≠b->(∀c fz,o≠.cells c 5 fz)->w'.heap[k]?=some o:=by
 refine(Any.Builder_String_any_k Tryz.lays169 Tryz.Builder_Extra_169 B b l w (h.imp Lib.BuilderAtF.of Lib.BuilderAtF.of) d).mono ?_;rintro e w'⟨I,_,z,O⟩;exact⟨I,z,λk o H E L=>O k o H (λe=>E (by simpa using e)) L⟩
def Bd.s1{w:ga}{d:Nat}{T:TypeId}{p:gd}{z:gg}{s:Nat}(h:Bd w d T p z s)(nm:gg):Bd (w.setCell (Ac d 1) (.string nm)) d T p nm s:=CL h
def A3.fc{Ft:Nat->Prop}{x:Nat}{w d z:ga}(h:A3 Ft w d)(k:A3 (One x) d z):A3 (λk=>Ft k\/k=x) w z:=
 (h.af λ_ _ h=>.inl h).Av k λ_ h _=>.inr h
def Bd.ag{w:ga}{z:Nat}{T:TypeId}{p:gd}{d:gg}{s:Nat}(h:Bd w z T p d s):Bd w.drew z T p d s:=by unfold Bd at h ⊢;exact h
section
variable{w:ga}{b B xb:Nat}{P:PD}{Ft:Nat->Prop}{a c m:Nat}{n:Int}
def Zw(h:Bf w b P Ft)(oe nm:gg)(E:Fit P a c m)(z:CP a c m):
 Ag 242 #[A5 b,.string oe,.string nm] w (Am (A0 (P.aM oe nm).1) λw'=>Aq w Ft w' (λw' d=>Bf w' b (P.aM oe nm).2 d)):=
 Zv h oe nm (by have:=E.A4;have:=E.Al;have:=z.a;have:=z.c;omega)
def PV(first:Int)(sd:gh Int):(Cl first sd).length=8+8*sd.length:=by
 unfold Cl;rw[AY,CQ]
 congr 1
 induction sd with
 | nil=>rfl
 | cons x r ih=>simp only[KR,AY,ih,CQ,Cg];omega
def Fit.aH{P:PD}{a c m:Nat}(h:Fit P a c m)(nm:Bs)(s:Nat)(l:Bs):Fit (P.aH nm s l).2 (a+1) (c+1) (m+l.length+4):=by
 have z:=h.ai (A6 nm);have E:(AS s l).length=l.length+4:=by simp[AS,Hh]
 have d:=z.ak (A6 nm) (AS s l);rw[E]at d;unfold PD.aH;split
 ·exact z.af (Ao _) (Ao _) (by omega)
 ·split
  ·exact d.af (Ao _) (Ao _) (by omega)
  ·exact(d.ad (A6 nm)).af (Ao _) (Ao _) (by omega)
def Fit.ec{P:PD}{a c m:Nat}(h:Fit P a c m)(first:Int)(sd:gh Int):Fit (P.ah first sd).2 (a+2) (c+2) (m+12+8*sd.length):=by
 have d:=h.aH Bm (AB Ay) (Cl first sd);rw[PV]at d;unfold PD.ah;split
 ·exact d.af (by omega) (by omega) (by omega)
 ·exact(d.aM (A6 Bm) (A6 Ay)).af (by omega) (by omega) (by omega)
def XE(w:ga)(first f0:Int)(sv v0:gd)(sd:gh Int)(hX:BZ w xb 162 b Ay (AB Ay) f0 v0)(h:Bf w b P Ft)(E:∀k,Ft k->k<w.heap.size)(hn:¬Ft xb)(hF:Fit P a c m)(hl:CP (a+2) (c+2) (m+12+8*sd.length))(hL:Lets B w)(hs:Db w sv sd)(hf:AT first)(bL:∀x∈sd,AT x)(hsl:sd.length<=134217728):
 Ag 200 #[A5 xb,A0 first,sv] w λe w'=>
  e=.returned (A0 (P.ah first sd).1)/\BZ w' xb 162 b Ay (AB Ay) (if (P.ah first sd).1=0 then first else f0) (if (P.ah first sd).1=0 then sv else v0)/\JR w Ft xb w' b (P.ah first sd).2:=by
 have aE:=hX.lt;have bE:BO 4 0=Bm:=rfl;have b6:Hid (∀L,A3 Ab w L->Ag 134 #[A0 4,A0 0] L (Am (.string ⟨Bm.toArray⟩) λw'=>A3 Ab L w')):=λL hc=>by
  have:=MX (n:=0) L 4 (by omega) (by omega) (by decide +kernel) (hL.aO hc);rw[show ((4:Nat):Int)=4 from rfl,bE]at this;exact this
 have hi:=PV first sd
 have bG:CP (a+1) (c+1) m:=⟨by have:=hl.a;omega,by have:=hl.c;omega,by have:=hl.m;omega⟩;have aO:Hid (∀L,A3 Ab w L->_):=λL hc=>R7 Bm (Cl first sd) (Iw Ay) (B1.ay h E hc) (λk hk=>Bi (E k hk) hc.Aj) (by rw[hi];omega) hF bG;have aV:Hid (∀L H,Bf L b (P.aH Bm (AB Ay) (Cl first sd)).2 H->_):=λL H h1=>Zw h1 (A6 Bm) (A6 Ay) (hF.aH _ _ _) ⟨by have:=hl.a;omega,by have:=hl.c;omega,by rw[hi];have:=hl.m;omega⟩;have aN:Hid (P.ah first sd=if (P.aH Bm (AB Ay) (Cl first sd)).1≠0 then P.aH Bm (AB Ay) (Cl first sd) else (P.aH Bm (AB Ay) (Cl first sd)).2.aM (A6 Bm) (A6 Ay)):=rfl;obtain⟨R,hR⟩:∃R,P.ah first sd=R:=⟨_,rfl⟩
 rw[hR]at aN ⊢;have cS:Hid (∀wx x,AT x->_):=λwx x z=>LO wx x z;have aB:Cl first sd=AO first++sd.flatMap AO:=rfl
 obtain⟨Y,bB⟩:∃Y,Bm=Y:=⟨_,rfl⟩;obtain⟨nm,aY⟩:∃nm,Ay=nm:=⟨_,rfl⟩;rw[aY]at hX aO aV aN ⊢;rw[bB]at b6 aO aV aN;obtain⟨s0,bM⟩:∃s0,AB nm=s0:=⟨_,rfl⟩;rw[bM]at hX aO aV aN ⊢;obtain⟨W,hW⟩:∃W,P.aH Y s0 (Cl first sd)=W:=⟨_,rfl⟩;rw[hW]at aO aV aN;obtain⟨Q,hQ⟩:∃Q,W.2.aM (A6 Y) (A6 nm)=Q:=⟨_,rfl⟩;rw[hQ]at aV aN;obtain⟨il,b1⟩:∃il,Cl first sd=il:=⟨_,rfl⟩
 rw[b1]at aO aB hi;have bK:=A1 aB;have dG:=A1 hi;obtain⟨pa,aA,rfl,hcap1,a6⟩:=hs.Cd;unfold maxLen at a6;have dF:=A1 hs;have bI:=A1 E;have cE:=A1 hn;have cX:=A1 hX;have HFI:=A1 hf;have cG:=A1 bL;have bA:=A1 aE;have cZ:=A1 (VX w);have cV:Hid (A3 Ab w (w.aC #[.pointer none,.slice none 0 0] 260)):=(A3.I _ w).al _;have bU:=A1 (cS.o (w.aC #[.pointer none,.slice none 0 0] 260) first hf);clear hR bE aB aY bB bM hW hQ b1 hi bG h E hn hF hl hL hs hX hf bL aE
 go_enter func200,ntmps200
 go_wp2_with (fail);refine bU.k ?_;rintro L aU;have bD:Hid (GZ w.heap.size w.heap.size [] L):=cZ.o.an aU (λ_ h=>h.elim);have cD:Hid (A3 Ab w L):=cV.o.tr aU;have cP:Hid (w.heap.size<L.heap.size):=Bi (by simp) aU.Aj;have bF:=A1 (O7 (t:=AO first) L bD.o (by rw[CQ];simp) cD.o.Aj);clear aU bU cZ cV;go_wp2_with (fail);refine bF.k ?_;rintro w2⟨aJ,a0⟩;have bR:Hid (GZ w.heap.size w.heap.size (AO first) w2):=aJ;have dH:Hid (A3 Ab w w2):=cD.o.Av (A3.cc a0) λx z E=>by omega
 have cY:Hid (w.heap.size<w2.heap.size):=Bi cP.o a0.size;clear aJ a0 bF bD cD cP;go_wp2;obtain⟨bb,aZ⟩:∃bb,w.heap.size=bb:=⟨_,rfl⟩;rw[aZ]at bR cY ⊢;have bX:=A1 aZ;clear aZ;go_loopw [18] (λiv wr=>∃k:Nat,iv=A0 k/\k<=sd.length/\Hid (GZ bb bb (AO first++(sd.take k).flatMap AO) wr/\A3 Ab w wr/\bb<wr.heap.size)) (λiv _=>sd.length-(intOf iv).toNat)
 ·exact⟨0,rfl,by omega,by simpa using bR.o,dH.o,cY.o⟩
 ·obtain⟨k,rfl,hk,O⟩:=hrel;by_cases aK:k<sd.length
  ·have⟨i1,i2,i3⟩:=O.o;obtain⟨g,o,rfl,c1⟩:=Db.at dF.o k aK;have z:=cG.o _ (BU aK);have a2:sd.take (k+1)=sd.take k++[sd[k]'aK]:=Dy aK;obtain⟨x,bJ⟩:∃x,(sd[k]'aK)=x:=⟨_,rfl⟩;rw[bJ]at c1 z a2;have d1:=i2.ao c1;have a4:=A1 (cS.o wr x z);(have a9:Hid ((sd.take (k+1)).flatMap AO=(sd.take k).flatMap AO++AO x):=by unfold Hid;rw[a2];simp);have bC:(AO first++(sd.take k).flatMap AO).length<=8+8*sd.length:=by
    have:=PV first (sd.take k)
    unfold Cl at this;rw[this,BT];omega
   obtain⟨pk,a5⟩:∃pk,AO first++(sd.take k).flatMap AO=pk:=⟨_,rfl⟩
   (have aX:Hid (AO first++(sd.take (k+1)).flatMap AO=pk++AO x):=by unfold Hid;rw[a9.o,<-Ch,a5]);rw[a5]at i1 bC;have aE:=CQ x;obtain⟨ib,aB⟩:∃ib,AO x=ib:=⟨_,rfl⟩;rw[aB]at a4 aX aE;have cA:=A1 i1;have bY:=A1 i2;have bQ:=A1 i3;have cM:Hid (∀w6,A3 Ab wr w6->_):=λw6 h6=>O7 (t:=ib) w6 (cA.o.an h6 (λ_ h=>h.elim)) (by omega) (AJ (ET bQ.o) h6.Aj);(have b9:(k:Int)<(sd.length:Int):=by omega);have hk0:=C3 k;clear i1 i2 i3 O c1 bJ a2 a5 aB z bC aE a9;go_wp2_with (fail);refine a4.k ?_;rintro w6 a1;have cQ:=A1 a1;have cB:=A1 (cM.o w6 a1);clear a1 a4 cM;go_wp2_with (go_at_call 194;refine cB.k ?_;rintro w7⟨aJ,b2⟩;have b8:=A1 aJ;have bS:=A1 b2;clear aJ b2);go_roundw
   ·have c7:A3 (λk=>bb<=k) w6 w7:=A3.cc bS.o;refine⟨k+1,by go_num,by omega,by rw[aX.o];exact b8.o,?_,?_⟩
    ·exact(bY.o.tr cQ.o).Av c7 λx z E=>by have:=bX.o;omega
    ·exact Bi bQ.o (AJ cQ.o.Aj bS.o.size)
   ·simp[intOf];omega
  ·have⟨i1,i2,i3⟩:=O.o;(obtain rfl:k=sd.length:=by omega);rw[Cf,<-bK.o]at i1;(have b9:¬((sd.length:Int)<(sd.length:Int)):=by omega);have fx:=cX.o.an i2 (λh=>h);have g0:=fx.c0;have g1:=fx.c1;have g2:=fx.c2;have bV:Bd (wr.aC #[A5 b,.string (A6 nm),.int .u32 s0] 160) wr.heap.size 160 (A5 b) (A6 nm) s0:=BL wr _;have ka:A3 Ab wr (wr.aC #[A5 b,.string (A6 nm),.int .u32 s0] 160):=(A3.I _ wr).al _;have bN:=A1 (b6.o _ (i2.tr ka));have cU:=A1 ka;have cO:=A1 bV;have cA:=A1 i1;have bY:=A1 i2;have bQ:=A1 i3;have FX:=A1 fx;clear i1 i2 i3 ka bV b6 O fx;go_wp2_with (fail);refine bN.k ?_;rintro w5 a3;have aT:=cO.o.an a3 (λh=>h);have cT:A3 Ab wr w5:=cU.o.tr a3;have b7:=aT.c1;have bZ:=aT.fz 1;have aH:=A1 (aT.s1 ⟨Y.toArray⟩);have b5:Hid (A3 Ab wr (w5.setCell (Ac wr.heap.size 1) (.string ⟨Y.toArray⟩))):=cT.bn (p:=(Ac wr.heap.size 1)) (λh=>by have h':wr.heap.size<wr.heap.size:=h;omega) _;clear a3 aT cT bN cO cU;generalize bH:wr.heap.size=db at *;have aQ:=A1 bH;clear bH;go_wp2;generalize w5.setCell (Ac db 1) (.string ⟨Y.toArray⟩)=w6 at aH b5 ⊢;have cJ:Hid (GZ bb bb il w6.drew):=cA.o.an b5.o.ag (λ_ h=>h.elim);have b4:=A1 (A3Y w6.drew cJ.o (by have:=bQ.o;have:=aQ.o;have:=b5.o.Aj;show bb<=w6.heap.size;omega));have aS:Hid (∀wx,Below bb w6.drew wx->(∀k o,w6.drew.heap[k]?=some o->k≠bb->(∀c fz,o≠.cells c 5 fz)->wx.heap[k]?=some o)->Bd wx db 160 (A5 b) ⟨Y.toArray⟩ s0/\A3 Ab w wx):=λwx z ho=>
    ⟨ho db _ aH.o.ag (by have:=bQ.o;have:=aQ.o;omega) (λc fz e=>by cases e),(bY.o.tr b5.o.ag).Av (A3.cc z) λx z E=>by have:=bX.o;omega⟩
   have bT:Hid (∀wx,Bd wx db 160 (A5 b) ⟨Y.toArray⟩ s0->A3 Ab w wx->∀wy,Aq wx Ft wy (λw' d=>Bf w' b W.2 d)->Bd wy db 160 (A5 b) ⟨Y.toArray⟩ s0/\BZ wy xb 162 b nm s0 f0 v0/\Aq w Ft wy (λw' d=>Bf w' b W.2 d)):=λwx hf z wy hy=>
    ⟨hf.an hy.1 (λh=>by have:=bI.o _ h;have:=bY.o.Aj;have:=aQ.o;omega),(cX.o.an z (λh=>h)).an hy.1 cE.o,hy.a8 z⟩
   have e0:=aH.o.ag.c0;have e1:=aH.o.ag.c1;have e2:=aH.o.ag.c2;obtain⟨cH,dC⟩:=W;dsimp only at aO aV bT aN;clear b7 bZ g0 g1 g2 dG bK;by_cases hw:cH=0
   case neg=>
    (have a8:R=(cH,dC):=by rw[aN.o,Ae hw]);subst a8;(have hwb:(cH !=0)=true:=by simpa using hw);refine Cc (λw'=>A7 w' db 0 (A5 b)/\A7 w' db 1 (.string ⟨Y.toArray⟩)/\A7 w' db 2 (.int .u32 s0)) 3
     [(0,true),(1,false),(2,false)] ⟨e0,e1,e2⟩ ?_
    refine Bq ?_;refine Bx λK I=>?_;go_simp;refine b4.k ?_;rintro w9⟨aF,aI⟩;have⟨q1,q2⟩:=aS.o w9 aF aI;refine I _ _ ⟨q1.c0,q1.c1,q1.c2⟩ (λhS=>?_);have aG:=A1 (aO.o w9 q2);have aM:=A1 (bT.o w9 q1 q2);clear I K hS aF aI q1 q2 b4 aS aO bT;refine Bx λK I=>?_;go_simp;refine aG.k ?_;rintro aD O;have⟨q1,q2,q3⟩:=aM.o aD O;refine I _ _ ⟨q1.c0,q1.c1,q1.c2⟩ (λhS=>?_);have dJ:=A1 q2;have dA:=A1 q3;clear I K hS O aG aM q1 q2 q3;refine C8 ?_;go_wp2;go_ret;dsimp only
    have⟨r1,d,r2,r3,r4⟩:=dA.o;exact⟨rfl,dJ.o,r1.af λ_ _ h=>.inl h,d,r2,r3,r4⟩
   case pos=>
    subst hw;(have a8:R=Q:=by rw[aN.o,Aa (by simp)]);subst a8;clear aN;refine Cc (λw'=>A7 w' db 0 (A5 b)/\A7 w' db 1 (.string ⟨Y.toArray⟩)/\A7 w' db 2 (.int .u32 s0)) 3
     [(0,true),(1,false),(2,false)] ⟨e0,e1,e2⟩ ?_
    refine Bq ?_;refine Bx λK I=>?_;go_simp;refine b4.k ?_;rintro w9⟨aF,aI⟩;have⟨q1,q2⟩:=aS.o w9 aF aI;refine I _ _ ⟨q1.c0,q1.c1,q1.c2⟩ (λhS=>?_);have aG:=A1 (aO.o w9 q2);have aM:=A1 (bT.o w9 q1 q2);have b0:=A1 q1;have b3:=A1 q2;clear I K hS aF aI q1 q2 b4 aS aO bT;refine Bx λK I=>?_;go_simp;refine aG.k ?_;rintro aD O;have⟨q1,q2,q3⟩:=aM.o aD O;refine I _ _ ⟨q1.c0,q1.c1,q1.c2⟩ (λhS=>?_);obtain⟨r1,-⟩:=q3;obtain⟨-,H,r2,r3,r5⟩:=O;have dD:=A1 b0.o.lt;have dI:=A1 b3.o.Aj;have cL:Hid (∀k,H k->Ft k\/w.heap.size<=k):=λk hk=>(r5 k hk).imp id λh=>AJ dI.o h
    have cN:=A1 r1;have aL:=A1 (aV.o aD.drew H (B1.ay r2 r3 (A3.I _ aD).ag));have x0:=q2.ag.c0;have x1:=q2.ag.c1;have x2:=q1.ag.c1;(have cF:Hid (¬H xb):=λh=>by rcases cL.o _ h with h|h;exact cE.o h;have:=bA.o;omega);have cC:Hid (¬H db):=λh=>by
     rcases r5 _ h with h|h
     ·have:=bI.o _ h;have:=bY.o.Aj;have:=aQ.o;omega
     ·have:=dD.o;omega
    have bW:Hid (∀wz,Aq aD.drew H wz (λw' d=>Bf w' b R.2 d)->(BZ wz xb 162 b nm s0 f0 v0/\Bd wz db 160 (A5 b) ⟨Y.toArray⟩ s0)/\Aq w Ft wz (λw' d=>Bf w' b R.2 d)):=λwz hz=>
     ⟨⟨q2.ag.an hz.1 cF.o,q1.ag.an hz.1 cC.o⟩,by
      obtain⟨z1,aP,z2,z3,z4⟩:=hz
      exact⟨(cN.o.ag).Av z1 λx z E=>(cL.o x z).resolve_right (by omega),aP,z2,z3,λk hk=>(z4 k hk).elim (λh=>cL.o k h) λh=>.inr (AJ cN.o.Aj h)⟩⟩
    clear I K hS aG aM q1 q2 r1 r2 r3 r5 aV b0 b3;refine C8 ?_;obtain⟨bO,a7⟩:=R;dsimp only at aL bW;have aW:Hid (∀wz,BZ wz xb 162 b nm s0 f0 v0->Aq w Ft wz (λw' d=>Bf w' b a7 d)->BZ ((wz.setCell (Ac xb 3) (A0 first)).setCell (Ac xb 4) (.slice pa sd.length aA)) xb 162 b nm s0 first (.slice pa sd.length aA)/\JR w Ft xb ((wz.setCell (Ac xb 3) (A0 first)).setCell (Ac xb 4) (.slice pa sd.length aA)) b ⟨a7.D,a7.F⟩):=λwz z hz=>by
     obtain⟨z1,aP,z2,z3,z4⟩:=hz;have kz:A3 (One xb) wz ((wz.setCell (Ac xb 3) (A0 first)).setCell (Ac xb 4) (.slice pa sd.length aA)):=((A3.I (One xb) wz).aq (b:=xb) rfl 3 _).aq rfl 4 _;(have cI:¬aP xb:=λh=>by rcases z4 _ h with h|h;exact cE.o h;have:=bA.o;omega);exact⟨(z.s3 first).s4 _,z1.fc kz,aP,B1.aN z2 (kz.ay z3 λk hk e=>by have e':k=xb:=e;subst e';exact cI hk),λk hk=>Bi (z3 k hk) kz.Aj,z4⟩
    by_cases hr:bO=0
    case neg=>
     (have hrb:(bO !=0)=true:=by simpa using hr);go_wp2;refine Cc (λw'=>A7 w' xb 0 (A5 b)/\A7 w' xb 1 (.string ⟨nm.toArray⟩)/\A7 w' db 1 (.string ⟨Y.toArray⟩)) 13
      (BG [0,1,2,3,4,5,6,7,8,9,10,11,12] [12]) ⟨x0,x1,x2⟩ ?_
     iterate 12 refine Bq ?_
     refine Bx λK I=>?_;go_simp;refine aL.k ?_;rintro aR O;have⟨⟨y1,y2⟩,y3⟩:=bW.o aR O;refine I _ _ ⟨y1.c0,y1.c1,y2.c1⟩ (λhS=>?_);have dB:=A1 y1;have dE:=A1 y3;clear I K hS O aL bW y1 y2 y3;refine C8 ?_;go_wp2;go_ret;dsimp only
     have⟨r1,d,r2,r3,r4⟩:=dE.o;exact⟨rfl,dB.o,r1.af λ_ _ h=>.inl h,d,r2,r3,r4⟩
    case pos=>
     subst hr;go_wp2;refine Cc (λw'=>A7 w' xb 0 (A5 b)/\A7 w' xb 1 (.string ⟨nm.toArray⟩)/\A7 w' db 1 (.string ⟨Y.toArray⟩)) 13
      (BG [0,1,2,3,4,5,6,7,8,9,10,11,12] [12]) ⟨x0,x1,x2⟩ ?_
     iterate 12 refine Bq ?_
     refine Bx λK I=>?_;go_simp;refine aL.k ?_;rintro aR O;have⟨⟨y1,y2⟩,y3⟩:=bW.o aR O;refine I _ _ ⟨y1.c0,y1.c1,y2.c1⟩ (λhS=>?_);have bP:=A1 (aW.o aR y1 y3);have g3:=y1.c3;have z3:=y1.fz 3;have g4:=(y1.s3 first).c4;have z4:=(y1.s3 first).fz 4;clear I K hS O aL bW y1 y2 y3 aW;refine C8 ?_;go_wp2;go_ret;exact⟨rfl,bP.o.1,bP.o.2⟩
end
end
section
open Go.RowKit
def CD(w:ga)(jb b:Nat)(lv:gd)(lh pd:Int)(ov:gd):Prop:=w.heap[jb]?=some (.cells #[.pointer (some ⟨b,0,none⟩),lv,.int .i64 lh,.int .i64 pd,ov] 208 (0,0))
section
variable{w w':ga}{jb b:Nat}{lv ov:gd}{lh pd:Int}
def CD.c0(h:CD w jb b lv lh pd ov):A7 w jb 0 (A5 b):=by unfold CD at h;simp[A7,World.cell?,h]
def CD.c1(h:CD w jb b lv lh pd ov):A7 w jb 1 lv:=by unfold CD at h;simp[A7,World.cell?,h]
def CD.c2(h:CD w jb b lv lh pd ov):A7 w jb 2 (A0 lh):=by unfold CD at h;simp[A7,World.cell?,h]
def CD.c3(h:CD w jb b lv lh pd ov):A7 w jb 3 (A0 pd):=by unfold CD at h;simp[A7,World.cell?,h]
def CD.c4(h:CD w jb b lv lh pd ov):A7 w jb 4 ov:=by unfold CD at h;simp[A7,World.cell?,h]
def CD.fz(h:CD w jb b lv lh pd ov)(o:Nat):w.frozen? (Ac jb o)=false:=by unfold CD at h;simp[World.frozen?,h]
def CD.lt(h:CD w jb b lv lh pd ov):jb<w.heap.size:=Bv h
def CD.s1(h:CD w jb b lv lh pd ov)(x:gd):CD (w.setCell (Ac jb 1) x) jb b x lh pd ov:=CL h
def CD.s2(h:CD w jb b lv lh pd ov)(x:Int):CD (w.setCell (Ac jb 2) (A0 x)) jb b lv x pd ov:=CL h
def CD.s3(h:CD w jb b lv lh pd ov)(x:Int):CD (w.setCell (Ac jb 3) (A0 x)) jb b lv lh x ov:=CL h
def CD.s4(h:CD w jb b lv lh pd ov)(x:gd):CD (w.setCell (Ac jb 4) x) jb b lv lh pd x:=CL h
def CD.ag(h:CD w jb b lv lh pd ov):CD w.drew jb b lv lh pd ov:=by unfold CD at h ⊢;exact h
def CD.an{S:Nat->Prop}(h:CD w jb b lv lh pd ov)(d:A3 S w w')(z:¬S jb):CD w' jb b lv lh pd ov:=d.an h z
end
structure DE (w:ga) (jb b:Nat) (lv ov:gd) (J:Jn):Prop where
 Ah:CD w jb b lv J.A8 J.pd ov
 Ak:DF w lv J.Ak
 AE:(J.AE=none/\ov=.pointer none)\/∃n s lb,J.AE=some (n,s)/\ov=.pointer (some ⟨lb,0,none⟩)/\Bd w lb 237 (.pointer (some ⟨b,0,none⟩)) ⟨(Af n).toArray⟩ s/\s<4294967296
def Dq(jb:Nat)(lv ov:gd)(k:Nat):Prop:=k=jb\/lv.ownBlock=some k\/ov=.pointer (some ⟨k,0,none⟩)
section
variable{w w':ga}{jb b:Nat}{lv ov:gd}{J:Jn}
def DE.aN(h:DE w jb b lv ov J)(z:Gb (Dq jb lv ov) w w'):DE w' jb b lv ov J:=by
 refine⟨(z jb (.inl rfl)).trans h.Ah,Ax h.Ak λg L=>z g (.inr (.inl L)),?_⟩;rcases h.AE with d|⟨n,s,E,d,rfl,I,H⟩
 ·exact .inl d
 ·exact .inr ⟨n,s,E,d,rfl,(z E (.inr (.inr rfl))).trans I,H⟩
def DE.lt(h:DE w jb b lv ov J){k:Nat}(d:Dq jb lv ov k):k<w.heap.size:=by
 rcases d with rfl|d|rfl
 ·exact h.Ah.lt
 ·exact AF h.Ak d
 ·rcases h.AE with⟨_,z⟩|⟨n,s,lb,_,z,E,_⟩
  ·cases z
  ·cases z;exact E.lt
def DE.Al{S:Nat->Prop}(h:DE w jb b lv ov J)(z:A3 S w w')(E:∀k,Dq jb lv ov k->¬S k):DE w' jb b lv ov J:=
 h.aN (z.ay (λ_ d=>h.lt d) E)
def DE.aJ(h:DE w jb b lv ov J)(d:A3 Ab w w'):DE w' jb b lv ov J:=h.Al d λ_ _ h=>h
end
def Q1(l:gh Int)(j:Nat)(d:j<l.length):l.getD j 0=l[j]'d:=by simp[List.getD,d]
def A2C(w:ga)(O Y:gd)(d h:gh Int)(L:Db w O d)(I:Db w Y h):
 Ag 241 #[O,Y] w (Am (.bool (decide (d=h))) λw'=>∃q,w'=w.drewN q):=by
 obtain⟨a1,c1,rfl,p1,p2⟩:=L.Cd;obtain⟨a2,c2,rfl,q1,q2⟩:=I.Cd;unfold maxLen at p2 q2;by_cases W:d.length=h.length
 case neg=>
  have H:¬d=h:=λe=>W (by rw[e]);refine(Tryz.slices_Equal_int_lens a1 a2 _ c1 _ c2 w W).k ?_;rintro w' rfl;exact⟨by rw[De H],0,rfl⟩
 case pos=>
 by_cases h0:d.length=0
 ·have e1:d=[]:=GG.1 h0;have e2:h=[]:=GG.1 (by omega);subst e1;subst e2;refine(Tryz.slices_Equal_int_empty a1 a2 c1 0 c2 w (by omega)).k ?_;rintro w' rfl;exact⟨by simp,0,rfl⟩
 ·obtain⟨g1,o1,rfl,-⟩:=Db.at L 0 (by omega);obtain⟨g2,o2,rfl,-⟩:=Db.at I 0 (by omega);refine(Tryz.slices_Equal_int g1 o1 _ c1 g2 o2 _ c2 d h w (Ao _) (Ao _) (by omega) (by omega) (λj z=>?_) (λj z=>?_)).mono ?_
  ·have⟨g,o,e,hc⟩:=Db.at L j z;cases e;rw[Q1 d j z];exact hc
  ·have⟨g,o,e,hc⟩:=Db.at I j z;cases e;rw[Q1 h j z];exact hc
  rintro e w'⟨rfl,q,rfl⟩;refine⟨?_,q,rfl⟩;rw[Cf,Cf];by_cases E:d=h
  ·rw[CM E,E];simp
  ·rw[De E,Ic.2 E]
def T0:∀(k s:Nat) (l:Bs),(Da k s l).1.length*21<=l.length
 | 0,_,l=>by simp[Da]
 | k+1,s,l=>by
  unfold Da;split
  ·simp
  ·rename_i h;split
   ·have:=T0 k (AP s (l.take 17)) (l.drop 21);rw[CO]at this;simp only[Cg];omega
   ·simp
def ZU(s:Nat)(d:Int)(l:Bs):(Ee s d l).1.length*21<=l.length:=by
 unfold Ee;split
 ·simp
 ·split
  ·split
   ·have:=T0 l.length (AP s (l.take 8)) (l.drop 12);rw[CO]at this;simp only;omega
   ·simp
  ·simp
def A1e{P:PD}{a c m:Nat}(z:Fit P a c m)(n d:Int):(P.aU n d).1.length*21<=m:=by
 have h:=Kz z (Af n);unfold PD.aU Gi;split
 ·simp
 ·exact AJ (ZU _ _ _) h
end
section
open Go.RowKit
attribute [local go_sem ↓] CJ
section
variable{w:ga}{b B jb:Nat}{P:PD}{Ft:Nat->Prop}{a c m:Nat}{lv ov:gd}{J:Jn}
def OY(w:ga)(h:Bf w b P Ft)(aB:∀k,Ft k->k<w.heap.size)(hJ:DE w jb b lv ov J)(hF:Fit P a c m)(hl:CP a c m)(hm:J.Ak.length*m<=70368744177664)(hn:∀n∈J.Ak,CH n)(hL:Lets B w):
 Ag 106 #[A5 jb] w λe w'=>∃v,e=.returned (.tuple #[v,A0 (P.pd J.Ak).2])/\AX w' v (P.pd J.Ak).1/\(∀g,v.ownBlock=some g->w.heap.size<=g)/\A3 Ab w w':=by
 have⟨i0,hi,hz0,hz1,hz2⟩:=Eg IN;have c0:=hJ.Ah.c0;have c1:=hJ.Ah.c1;have aJ:=A1 (DF.rd hJ.Ak);obtain⟨la,lcap,rfl,lc1,aP⟩:=aJ.o.Cd;unfold maxLen at aP;have aV:Hid (P.pd J.Ak=P.a1 J.Ak []):=rfl;generalize hR:P.pd J.Ak=R at aV ⊢;have aZ:Hid (∀w1,A3 Ab w w1->∀n∈J.Ak,∀O,Ag 149 #[A5 b,A0 n,A0 O] w1 λe w'=>∃v,e=.returned (.tuple #[v,A0 (P.aU n O).2])/\AX w' v (P.aU n O).1/\(∀g,v.ownBlock=some g->w1.heap.size<=g)/\A3 Ab w1 w'):=λw1 hc n aT O=>
  ZW w1 O (B1.ay h aB hc) (λk hk=>Bi (aB k hk) hc.Aj) (hn n aT) (hL.aO hc) (by have h1:(DQ P.D P.F ⟨(BO 1 n).toArray⟩).1.length<=m:=Kz hF (Af n);have:=hl.m;omega)
 have a0:Hid (∀n O,(P.aU n O).1.length*21<=m):=λn O=>A1e hF n O;have aW:=A1 hm;generalize J.Ak=Ak at *;have a1:∀k,k<=Ak.length->k*m<=70368744177664:=λk hk=>AJ (Gd m hk) aW.o;have aS:=A1 a1
 go_enter func106,ntmps106
 go_wp2;go_loopw [4,14] (λv iv wr=>∃(k:Nat) (d:gh Pu),iv=A0 k/\k<=Ak.length/\Hid (AX wr v d/\(∀g,v.ownBlock=some g->w.heap.size<=g)/\A3 Ab w wr/\d.length*21<=k*m/\R=P.a1 (Ak.drop k) d)) (λ_ iv _=>Ak.length-(intOf iv).toNat)
 ·exact⟨0,[],rfl,by omega,CT _ _ _ _,λg E=>by simp[Value.ownBlock]at E,A3.I _ _,by simp,aV.o⟩
 ·obtain⟨k,d,rfl,hk,hI⟩:=hrel;have⟨i1,i2,i3,i4,i5⟩:=hI.o;obtain⟨ap,cp,rfl,hcap1,aD,-⟩:=B9 i1;unfold maxLen at aD;by_cases z:k<Ak.length
  ·obtain⟨g,o,rfl,d1⟩:=Db.at aJ.o k z;have Y:=BU z;have aK:=FB z;generalize hne:(Ak[k]'z)=n at d1 Y aK;have e1:=i3.ao d1;have e0:=i3.ao c0;have I:=A1 (aZ.o wr i3 n Y d.length);have W:=A1 (a0.o n d.length);rw[aK]at i5;have aM:Hid (R=if (P.aU n d.length).2≠0 then ([],(P.aU n d.length).2) else P.a1 (Ak.drop (k+1)) (d++(P.aU n d.length).1)):=i5;generalize hX:P.aU n d.length=X at I W aM;obtain⟨aF,aQ⟩:=X;dsimp only at I W aM;have aL:=A1 i1;have aN:=A1 i2;have aG:=A1 i3;have aU:=A1 i4;(have aR:(k:Int)<(Ak.length:Int):=by omega);have hk0:=C3 k;by_cases hx:aQ=0
   case neg=>
    (have hxb:(aQ !=0)=true:=by simpa using hx);(have aE:R=([],aQ):=by rw[aM.o,Ae hx]);subst aE;go_wp2_with (go_at_call 149;refine I.m ?_;rintro e w6⟨v,rfl,-,-,L⟩;have H:=A1 L);go_ret2;exact⟨_,rfl,CT _ _ _ _,λg E=>by simp[Value.ownBlock]at E,aG.o.tr H.o⟩
   case pos=>
    subst hx;(have aY:Hid (R=P.a1 (Ak.drop (k+1)) (d++aF)):=by unfold Hid;rw[aM.o,Aa (by simp)]);have a2:=A1 (aS.o (k+1) z);go_wp2_with (fail);refine I.m ?_;rintro e w6⟨v,rfl,hv,hvo,L⟩;obtain⟨ap2,cp2,rfl,-,aA,-⟩:=B9 hv;unfold maxLen at aA;have H:=A1 L;have aH:Hid (w6.ownsRow 0 113 3 (.slice ap d.length cp) d.length (Bb d)):=Ax aL.o λg E=>L.An g (AF aL.o E) (λh=>h);have aI:=A1 (Src.bN Gy hv (IE aF));go_wp2_with (at_builtin;refine Dj rfl (.tmp 32) (.tmp 33) 97 97 rfl 113 i0 _ 3 24 Gy hi hz0 hz1 hz2 rfl (by decide) (.slice ap d.length cp) d.length (Bb d) (by rfl) aH.o _ aF.length _ (by rfl) aI.o (by have:=W.o;have:=aU.o;have:=a2.o;rw[KE]at this;omega) ?_;intro a8 cap8 w8 hA;have aX:=A1 hA);go_roundw
    ·have hA:=aX.o;have aO:=hA.Al (S:=λk=>(Value.slice ap d.length cp).ownBlock=some k) λ_ h=>h;refine⟨k+1,d++aF,by go_num,by omega,?_,?_,?_,?_,aY.o⟩
     ·(have e:(d++aF).length=d.length+aF.length:=by simp);unfold AX;rw[Jk,e];exact hA.AE
     ·intro g E;rcases hA.CA with h|h
      ·rw[h]at E;exact aN.o g E
      ·rw[h]at E;cases E;have:=aG.o.Aj;have:=H.o.Aj;omega
     ·exact(aG.o.tr H.o).Av aO λy hy aB=>by have:=aN.o y hy;omega
     ·have:=W.o;have:=aU.o;rw[KE];simp only[AY];omega
    ·simp[intOf];omega
  ·(obtain rfl:k=Ak.length:=by omega);have aL:=A1 i1;have aN:=A1 i2;have aG:=A1 i3;(have aE:R=(d,0):=by rw[i5,GI];rfl);subst aE;(have aR:¬((Ak.length:Int)<(Ak.length:Int)):=by omega);go_wp2;go_ret2;exact⟨_,rfl,aL.o,aN.o,aG.o⟩
end
end
end Go.Proofs.YtodcnkbblippnaaGreatDoor
