/- Part 22 of a proof: walks of the program. -/
import Derived.Test.YtodcnkbblippnabGreatDoorPart21
namespace Go.Proofs.YtodcnkbblippnabGreatDoor
set_option maxRecDepth 100000
set_option maxHeartbeats 32000000
set_option linter.defProp false
open Go.Proofs.Tryz
section
open Go.RowKit
attribute [local go_sem ↓] Cz
def Xi{k:Nat}{l:Bs}(h:l.length<17):DL k l=some ([],l):=by cases k<;>simp[DL,h]
def Xj{k:Nat}{c:UInt8}{d:Bs}(h:16<=d.length):DL (k+1) (c::d)=if c.toNat<8 then (DL k (d.drop 16)).map λr=>(((c.toNat:Int),BK d,BK (d.drop 8)):: r.1,r.2) else none:=by
 have z:¬(c::d).length<17:=by simp;omega
 simp only[DL,Ae z];rfl
section
variable{w:World}{b B:Nat}{P:PD}{Ft:Nat->Prop}{a c m:Nat}{n:Int}
def XX(w:World)(h:Bh w b P Ft)(aP:∀k,Ft k->k<w.heap.size)(hF:Fit P a c m)(hl:CN a c m)(hn:Cv n)(hL:Lets B w):
 Aj 86 #[A7 b,A0 n] w λe w'=>
  (P.BT n=none/\e=.returned (.tuple #[.pointer none,A0 7])/\A5 Ab w w')\/
  ∃l gb v,P.BT n=some l/\e=.returned (.tuple #[A7 gb,A0 0])/\BZ w' gb 139 b (Aw n) (AB (Aw n)) n v/\AZ w' v l/\(∀g,v.ownBlock=some g->w.heap.size<=g)/\w.heap.size<=gb/\A5 Ab w w':=by
 have⟨i0,hi,hz0,hz1,hz2⟩:=Eb Ig;have bH:=A4 (QJ w b hn hL);have bA:Hid (∀w1,A5 Ab w w1->_):=λw1 hc=>Rt (Aw n) (B5.az h aP hc) (λk hk=>Bm (aP k hk) hc.Am) hF hl;have aQ:(P.aT (Aw n)).1.length<=4294967296:=by
  have h1:=JX hF (Aw n);have:=hl.m;unfold PD.aT;split
  ·simp
  ·split
   ·rename_i d hd;unfold Hc at hd;split at hd
    ·cases hd
    ·split at hd
     ·cases hd;simp only[BU];omega
     ·cases hd
   ·simp
 obtain⟨X,hX⟩:∃X,P.BT n=X:=⟨_,rfl⟩;have bI:Hid (Hz (P.aT (Aw n))=X):=hX;rw[hX];have bL:Aw n=BJ 2 n:=rfl;rw[<-bL]at bH;generalize hnme:Aw n=nm at bH bA bI aQ ⊢;generalize hs0:AB nm=s0 at bH bA ⊢;obtain⟨⟨dt,de⟩,bP⟩:∃x,P.aT nm=x:=⟨_,rfl⟩;rw[bP]at bA bI aQ;dsimp only at bA aQ
 go_enter func86,ntmps86
 go_wp2_with (fail);refine bH.m ?_;rintro e w1⟨gb,rfl,aN,bE,bV⟩;have a3:=A4 (bA.o w1 bE);have a1:=A4 aN;have a2:=A4 bE;have a0:=A4 bV;have g0:=aN.c0;have g1:=aN.c1;have g2:=aN.c2;by_cases he:de=0
 case neg=>
  have hb:(de !=0)=true:=by simpa using he
  have W:Hid (X=none):=by unfold Hid;rw[<-bI.o];unfold Hz;rw[Ah he]
  go_wp2_with (go_at_call 77;refine a3.k ?_;rintro w2 aE;have aF:=A4 aE);go_ret2;exact .inl ⟨W.o,rfl,a2.o.tr aF.o⟩
 case pos=>
 subst he
 have aH:Hid ((match DL dt.length dt with
  | none=>none
  | some (l,r)=>if r=[]/\Cs Cq l=true then some l else none)=X):=by
  rw[<-bI.o];unfold Hz;rw[Ae (by simp)];rfl
 generalize hY:DL dt.length dt=Y at aH;have cB:=A4 hY;go_wp2_with (fail);refine a3.k ?_;rintro w2 aE;have bT:=A4 (a1.o.ak aE (λh=>h));have aF:Hid (A5 Ab w w2):=a2.o.tr aE;have bQ:=A4 a1.o.lt;have a6:=A4 aE.Am;go_wp2;go_loopw [7] (λtv wr=>∃(l:Bs) (k:Nat) (z:List Pu),tv=.string ⟨l.toArray⟩/\z.length*17+l.length<=dt.length/\Hid (∃v,BZ wr gb 139 b nm s0 n v/\AZ wr v z/\(∀g,v.ownBlock=some g->w2.heap.size<=g)/\(A5 Ab w wr/\w2.heap.size<=wr.heap.size)/\l.length<=k/\Y=(DL k l).map λr=>(z++r.1,r.2))) (λtv _=>match tv with | .string x=>x.size|_=>0)
 ·exact⟨dt,dt.length,[],rfl,by simp,_,bT.o,CL _ _ _ _,λg hg=>by simp[Value.ownBlock]at hg,⟨aF.o,Aq _⟩,Aq _,by rw[<-cB.o];simp⟩
 ·obtain⟨l,k,z,rfl,aL,hI⟩:=hrel;have aA:(ByteArray.mk l.toArray).size=l.length:=by show l.toArray.size=_;simp
  by_cases aT:l.length<17
  case pos=>
   obtain⟨v,i1,i2,i3,⟨i4,a7⟩,-,i6⟩:=hI.o;rw[Xi aT]at i6;simp only[HL,Fz]at i6;subst i6;(have hlt17:¬(17<=(l.length:Int)):=by omega);have bN:=A4 i1;have aU:=A4 i2;have a9:=A4 i3;have aY:=A4 i4;have g4:=i1.c4;by_cases aB:l=[]
   case neg=>
    (have W:Hid (X=none):=by unfold Hid;rw[<-aH.o];simp only;rw[Ae (λh=>aB h.1)]);have hbl:(l==[])=false:=Hn.2 aB;go_wp2;go_ret2;exact .inl ⟨W.o,rfl,aY.o⟩
   case pos=>
   subst aB;have bF:=A4 (Xv wr v z aU.o.rd (by simp at aL;omega));by_cases hr:Cs Cq z=true
   case neg=>
    (have bR:Cs Cq z=false:=by simpa using hr);(have W:Hid (X=none):=by unfold Hid;rw[<-aH.o];simp only;rw[Ae (λh=>hr h.2)]);rw[bR]at bF;go_wp2_with (go_at_call 130;refine bF.k ?_;rintro w3 aS;have aD:=A4 aS);go_ret2;exact .inl ⟨W.o,rfl,aY.o.tr aD.o⟩
   case pos=>
    (have W:Hid (X=some z):=by unfold Hid;rw[<-aH.o];simp only;rw[Ah ⟨by first|trivial|rfl,hr⟩]);rw[hr]at bF;go_wp2_with (go_at_call 130;refine bF.k ?_;rintro w3 aS;have aD:=A4 aS);go_ret2;exact .inr ⟨z,gb,v,W.o,rfl,bN.o.ak aD.o (λh=>h),AA aU.o λg hg=>aD.o.Ao g (AG aU.o hg) (λh=>h),λg hg=>AH aF.o.Am (a9.o g hg),a0.o,aY.o.tr aD.o⟩
  case neg=>
   have⟨v,i1,i2,i3,⟨i4,a7⟩,i5,i6⟩:=hI.o;obtain⟨k,rfl⟩:∃k',k=k'+1:=⟨k-1,by omega⟩;obtain⟨c0,d,rfl⟩:∃c0 d,l=c0::d:=by
    cases l with
    | nil=>simp at aT
    | cons c0 d=>exact⟨c0,d,rfl⟩
   (have aG:16<=d.length:=by simp at aT;omega);rw[Xj aG]at i6;obtain⟨ap,cp,rfl,hcap1,aW,-⟩:=Bb i2;unfold maxLen at aW;have aZ:=A4 (λw5=>RC w5 c0 d ⟨aG,by simp at aL;omega⟩);have e2:(ByteArray.mk (c0::d).toArray).extract 17 (d.length+1)=⟨(d.drop 16).toArray⟩:=by
    rw[extract_mk,DA,Ez (by rw[CM];omega)]
   obtain⟨I,bS⟩:∃I,BK d=I:=⟨_,rfl⟩;obtain⟨H,bJ⟩:∃H,BK (d.drop 8)=H:=⟨_,rfl⟩;rw[bS,bJ]at aZ i6;obtain⟨q,hq⟩:∃q,d.drop 16=q:=⟨_,rfl⟩;(have bB:q.length+16=d.length:=by rw[<-hq,CM];omega);rw[hq]at e2 i6;obtain⟨ll,bC⟩:∃ll,d.length=ll:=⟨_,rfl⟩;(have bO:(c0::d).length=ll+1:=by simp[bC]);rw[bO]at aA aL i5;rw[bC]at e2 aG bB;(have hge:17<=(ll:Int)+1:=by omega);generalize hty:ByteArray.mk (c0::d).toArray=ty at e2 aA aZ ⊢;have g4:=i1.c4;have f4:=i1.fz 4;have bN:=A4 i1;have aU:=A4 i2;have a9:=A4 i3;have aY:=A4 i4;have bK:=A4 a7;have b9:=A4 i5;have bY:=A4 i6;have aO:=A4 bB;have a5:=A4 aL;by_cases aK:c0.toNat<8
   case neg=>
    (have W:Hid (X=none):=by unfold Hid;rw[<-aH.o,bY.o,Ae aK];rfl);rw[show decide (c0.toNat<8)=false from Dw aK]at aZ;go_wp2_with (go_at_call 129;refine(aZ.o _).k ?_;rintro w6 aR;have aJ:=A4 aR);go_ret2;exact .inl ⟨W.o,rfl,(aY.o.tr aJ.o).aj _⟩
   case pos=>
    rw[show decide (c0.toNat<8)=true from CJ aK]at aZ;have cA:Hid (Y=(DL k q).map λr=>((z++[((c0.toNat:Int),I,H)])++r.1,r.2)):=by
     unfold Hid;rw[bY.o,Ah aK];cases DL k q<;>simp
    go_wp2_with (go_at_call 129;refine(aZ.o _).k ?_;rintro w6 aR;have bM:=A4 (BN w6 (.cells #[A0 c0.toNat,A0 I,A0 H] 90));have aJ:=A4 aR);have bU:A5 Ab wr (w6.alloc (.cells #[A0 c0.toNat,A0 I,A0 H] 90)):=aJ.o.aj _;have aX:Hid (C5 (w6.alloc (.cells #[A0 c0.toNat,A0 I,A0 H] 90)) w6.heap.size c0.toNat I H):=bM.o;have a4:=A4 bU;have bW:Hid (∀g,(Value.slice ap z.length cp).ownBlock=some g->g<w6.heap.size):=λg hg=>Bm (AG aU.o hg) aJ.o.Am;generalize (w6.alloc (.cells #[A0 c0.toNat,A0 I,A0 H] 90))=w7 at aX a4 ⊢;generalize w6.heap.size=pb at aX bW ⊢;have bZ:=A4 (bN.o.ak a4.o (λh=>h));have b0:Hid (AZ w7 (.slice ap z.length cp) z):=AA aU.o λg hg=>a4.o.Ao g (AG aU.o hg) (λh=>h);have b3:Hid (w2.heap.size<=w7.heap.size):=AH bK.o a4.o.Am;have cD:Hid (A5 Ab w w7):=aY.o.tr a4.o;refine Ce (λw'=>Aa w' pb 0 (A0 c0.toNat)/\Aa w' pb 1 (A0 I)/\Aa w' pb 2 (A0 H)/\Aa w' gb 4 (.slice ap z.length cp)) 8
     (BD [0,1,2,3,4,5,6,7] [6,7]) ⟨aX.o.ad.c0,aX.o.ad.c1,aX.o.ad.c2,bZ.o.ad.c4⟩ ?_
    iterate 6 refine Bq ?_
    refine By λK hK=>?_;go_simp;have ka:A5 Ab w7 (w7.alloc (.cells #[A0 c0.toNat,A0 I,A0 H] 90)).drew:=((A5.C _ _).aj _).ad;have bG:=aX.o.ak ka (λh=>h);have bX:=bZ.o.ak ka (λh=>h);have b8:Hid (AZ (w7.alloc (.cells #[A0 c0.toNat,A0 I,A0 H] 90)).drew (.slice ap z.length cp) z):=AA b0.o λg hg=>ka.Ao g (AG b0.o hg) (λh=>h);have bD:Hid (Src Tryz.prog 3 72 (AN w7.heap.size 1 1) 1 #[A0 c0.toNat,A0 I,A0 H].toList (w7.alloc (.cells #[A0 c0.toNat,A0 I,A0 H] 90)).drew):=by
     have hb:(w7.alloc (.cells #[A0 c0.toNat,A0 I,A0 H] 90)).drew.heap[w7.heap.size]?=some (.cells #[A0 c0.toNat,A0 I,A0 H] 90 (0,0)):=BN w7 _;exact Src.cw underlying72 hb 1 1 rfl (I6 [((c0.toNat:Int),I,H)])
    refine hK _ _ ⟨bG.c0,bG.c1,bG.c2,bX.c4⟩ (λhS=>?_);refine Dt rfl (by rfl) (λK hK=>?_);refine Hx (.tmp 40) (.tmp 42) 72 72 rfl 90 i0 _ 3 24 underlying72 hi hz0 hz1 hz2 rfl (by decide) (.slice ap z.length cp) z.length (Ba z) (by rfl) b8.o _ 1 _ (by rfl) bD.o (by have:=a5.o;omega) ?_;intro a8 O w8 hA;have aI:=hA.An (S:=λk=>(Value.slice ap z.length cp).ownBlock=some k) λ_ h=>h;have b2:Hid (gb<w2.heap.size):=Bm bQ.o a6.o;have aV:=bG.ak aI (λh=>Gj _ (bW.o _ h));have aM:=bX.ak aI (λh=>by have:=a9.o _ h;have:=b2.o;omega);have b7:Hid (AZ w8 (.slice a8 (z.length+1) O) (z++[((c0.toNat:Int),I,H)])):=by
     (have e:(z++[((c0.toNat:Int),I,H)]).length=z.length+1:=by simp);unfold Hid AZ;rw[IJ,e];exact hA.AP
    have b1:Hid (∀g,(Value.slice a8 (z.length+1) O).ownBlock=some g->w2.heap.size<=g):=λg hg=>by
     rcases hA.Cu with h|h
     ·rw[h]at hg;exact a9.o g hg
     ·rw[h]at hg;cases hg;have:=b3.o;have:=ka.Am;omega
    (have cC:Hid (A5 Ab w w8):=(cD.o.tr ka).AJ aI λy hy aP=>by have:=a9.o y hy;have:=aF.o.Am;omega);have cE:Hid (w2.heap.size<=w8.heap.size):=AH b3.o (AH ka.Am aI.Am);refine hK _ _ ⟨aV.c0,aV.c1,aV.c2,aM.c4⟩ (λhS=>?_);have g4:=aM.c4;have f4:=aM.fz 4;have b6:=A4 (aM.s4 (.slice a8 (z.length+1) O));have b5:Hid (A5 Ab w (w8.sC gb 4 (.slice a8 (z.length+1) O))):=cC.o.bn (p:=(Ad gb 4)) (λh=>by have h':gb<w.heap.size:=h;have:=a0.o;omega) _;have b4:Hid (AZ (w8.sC gb 4 (.slice a8 (z.length+1) O)) (.slice a8 (z.length+1) O) (z++[((c0.toNat:Int),I,H)])):=AA b7.o λg hg=>GY _ _ _ _ (λe=>by have e':g=gb:=e;have:=b1.o g hg;have:=b2.o;omega);refine Cc ?_;go_wp2;go_roundw
    ·exact⟨q,k,z++[((c0.toNat:Int),I,H)],rfl,by have:=a5.o;have:=aO.o;simp;omega,_,b6.o,by have:=b4.o;simpa using this,by have:=b1.o;simpa using this,⟨b5.o,by have:=cE.o;simpa using this⟩,by have:=b9.o;have:=aO.o;omega,cA.o⟩
    ·(have e:(ByteArray.mk q.toArray).size=q.length:=by show q.toArray.size=_;simp);have:=aO.o;simp only[e,aA];omega
end
def B8(p:Pu):Prop:=(0<=p.1/\p.1<8)/\AY p.2.1/\AY p.2.2
def Ya(a b:List Pu):Cb (a++b)=Cb a++Cb b:=by simp[Cb]
def NG(s t v:Int):(B9 s t v).length=17:=by simp[B9,CD]
def ND(l:List Pu):(Cb l).length=17*l.length:=by
 induction l with
 | nil=>rfl
 | cons p r ih=>
  have:Cb (p::r)=B9 p.1 p.2.1 p.2.2++Cb r:=rfl;rw[this,AX,ih,NG,BM];omega
def A5.b8{B:Nat}{w w':World}(h:Below B w w'):A5 (λk=>B<=k) w w':=⟨h.os,h.tape,h.output,h.size,λk _ hn=>h.block k (by omega)⟩
section
variable{w:World}{b B:Nat}{P:PD}{Ft:Nat->Prop}{a c m:Nat}{n:Int}
def YV(w:World)(pv:Value)(l:List Pu)(h:Bh w b P Ft)(aB:∀k,Ft k->k<w.heap.size)(hF:Fit P a c m)(hl:CN (a+1) (c+1) m)(hn:Cv n)(hL:Lets B w)(hp:Hp w pv l)(bD:∀p∈l,B8 p)(hpl:l.length<=134217728):
 Aj 111 #[A7 b,A0 n,pv] w λe w'=>
  ((P.aI n l).1≠0/\e=.returned (.tuple #[.pointer none,A0 (P.aI n l).1])\/(P.aI n l).1=0/\∃z,e=.returned (.tuple #[A7 z,A0 0]))/\Ax w Ft w' (λw' aA=>Bh w' b (P.aI n l).2 aA):=by
 have aX:=A4 (QJ w b hn hL);have aO:Hid (∀w1,A5 Ab w w1->_):=λw1 hc=>PN (Aw n) (Cb l) (Jo (Aw n)) (B5.az h aB hc) (λk hk=>Bm (aB k hk) hc.Am) (by rw[ND];omega) hF hl;obtain⟨X,hX⟩:∃X,P.aI n l=X:=⟨_,rfl⟩;have aZ:P.aH (Aw n) (AB (Aw n)) (Cb l)=X:=hX;rw[hX];rw[aZ]at aO;have a4:Aw n=BJ 2 n:=rfl;rw[<-a4]at aX;generalize hnme:Aw n=nm at aX aO;generalize hs0:AB nm=s0 at aX aO;obtain⟨pa,O,rfl,hcap1,aN⟩:=hp.BV;unfold maxLen at aN;have bS:=A4 hp;have a6:=A4 aB
 go_enter func111,ntmps111
 go_wp2_with (fail);refine aX.o.mono ?_;rintro e w1⟨z,rfl,aI,aQ,bJ⟩;have a5:=A4 aI;have HC1:=A4 aQ;have a2:=A4 bJ;have f4:=aI.fz 4;have g4:=aI.c4;have bF:=A4 (aI.s4 (.slice pa l.length O));have a8:Hid (A5 Ab w (w1.setCell (Ad z 4) (.slice pa l.length O))):=aQ.bn (p:=(Ad z 4)) (λh=>by have h':z<w.heap.size:=h;omega) _;have HG1:=A4 a5.o.lt;obtain⟨Y,aP⟩:∃Y,w1.setCell (Ad z 4) (.slice pa l.length O)=Y:=⟨_,rfl⟩;have hw2s:w1.heap.size=Y.heap.size:=by rw[<-aP];simp
 rw[aP]at bF a8;have aH:Hid (z<Y.heap.size):=bF.o.lt;have bK:=A4 (Uj Y);have bQ:=A4 (bF.o.ak ((A5.C Ab Y).aj (.cells #[.pointer none,.slice none 0 0] 231)) (λh=>h));have bO:Hid (A5 Ab w (Y.alloc (.cells #[.pointer none,.slice none 0 0] 231))):=a8.o.aj _;have aL:Hid (w.heap.size<=Y.heap.size):=a8.o.Am;go_wp2;generalize bE:Y.alloc (.cells #[.pointer none,.slice none 0 0] 231)=w3 at bK bQ bO ⊢;have aR:Hid (Y.heap.size<=w3.heap.size):=by rw[<-bE];show Y.heap.size<=_;simp
 generalize Y.heap.size=bb at bK aH aL aR ⊢;go_loopw [22] (λiv wr=>∃k:Nat,iv=A0 k/\k<=l.length/\Hid (GI bb bb (Cb (l.take k)) wr/\BZ wr z 139 b nm s0 n (.slice pa l.length O)/\A5 Ab w wr/\bb<=wr.heap.size)) (λiv _=>l.length-(intOf iv).toNat)
 ·exact⟨0,rfl,by omega,by simpa[Cb] using bK.o,bQ.o,bO.o,aR.o⟩
 ·obtain⟨k,rfl,hk,hI⟩:=hrel;by_cases aG:k<l.length
  ·have⟨i1,i2,i3,i4⟩:=hI.o;obtain⟨g,o,rfl,-,c1,c2,c3⟩:=Hp.at bS.o k aG;have W:=bD _ (BS aG);have aU:l.take (k+1)=l.take k++[l[k]'aG]:=Dz aG;generalize hxe:(l[k]'aG)=x at c1 c2 c3 W aU;obtain⟨x1,x2,x3⟩:=x;dsimp only at c1 c2 c3;have d1:=i3.an c1;have d2:=i3.an c2;have d3:=i3.an c3;obtain⟨⟨aT,a0⟩,ht,hv⟩:=W;dsimp only at aT a0 ht hv;have PB:=A4 (λH=>RF H x1 x2 x3 ⟨aT,by omega⟩ ht hv);(have aJ:Hid (Cb (l.take (k+1))=Cb (l.take k)++B9 x1 x2 x3):=by unfold Hid;rw[aU,Ya];simp[Cb]);(have a1:(Cb (l.take k)).length<=17*l.length:=by rw[ND,BU];omega);generalize hpk:Cb (l.take k)=pk at i1 aJ a1;have aY:=NG x1 x2 x3;generalize hpbe:B9 x1 x2 x3=pb at PB aJ aY;have a9:=A4 i1;have aM:=A4 i2;have bG:=A4 i3;have aW:=A4 i4;have bR:Hid (∀w6,A5 Ab wr w6->_):=λw6 h6=>N5 (t:=pb) w6 (a9.o.ak h6 (λ_ h=>h.elim)) (by omega) (AH aW.o h6.Am);(have a7:(k:Int)<(l.length:Int):=by omega);have hk0:(0:Int)<=(k:Int):=Gn _;go_wp2_with (fail);refine(PB.o _).k ?_;rintro w6 bB;have aV:Hid (A5 Ab wr w6):=((A5.C Ab wr).aj _).tr bB;have bA:=A4 (bR.o w6 aV.o);go_wp2_with (go_at_call 159;refine bA.k ?_;rintro w7⟨bH,bI⟩;have a3:=A4 bH;have aS:=A4 bI);go_roundw
   ·have c7:A5 (λk=>bb<=k) w6 w7:=A5.b8 aS.o;refine⟨k+1,by go_num,by omega,by rw[aJ.o];exact a3.o,(aM.o.ak aV.o (λh=>h)).ak c7 (λh=>by have:=aH.o;omega),?_,?_⟩
    ·exact(bG.o.tr aV.o).AJ c7 λx W aB=>by have:=aL.o;omega
    ·exact AH aW.o (AH aV.o.Am aS.o.size)
   ·simp[intOf];omega
  ·have⟨i1,i2,i3,i4⟩:=hI.o;(obtain rfl:k=l.length:=by omega);rw[Cj]at i1;have a9:=A4 i1;have aM:=A4 i2;have bG:=A4 i3;have aW:=A4 i4;have bN:=A4 (A1Y wr.drew (a9.o.ak ((A5.C Ab _).ad) (λ_ h=>h.elim)) aW.o);(have a7:¬((l.length:Int)<(l.length:Int)):=by omega);have aE:Hid (∀H,Below bb wr.drew H->(Aa H z 0 (A7 b)/\Aa H z 1 (.string ⟨nm.toArray⟩)/\Aa H z 2 (.int .u32 s0))/\A5 Ab w H):=λH W=>by
    have cx:A5 (λk=>bb<=k) wr.drew H:=A5.b8 W;have fx:=aM.o.ad.ak cx (λh=>by have:=aH.o;omega);exact⟨⟨fx.c0,fx.c1,fx.c2⟩,bG.o.ad.AJ cx λx W aB=>by have:=aL.o;omega⟩
   have e0:=aM.o.ad.c0;have e1:=aM.o.ad.c1;have e2:=aM.o.ad.c2;obtain⟨bL,bM⟩:=X;dsimp only at aO;have bP:Hid (∀H,Below bb wr.drew H->∀wy,Ax H Ft wy (λw' aA=>Bh w' b bM aA)->(Aa wy z 0 (A7 b)/\Aa wy z 1 (.string ⟨nm.toArray⟩)/\Aa wy z 2 (.int .u32 s0))/\Ax w Ft wy (λw' aA=>Bh w' b bM aA)):=λH W wy hy=>by
    have cx:A5 (λk=>bb<=k) wr.drew H:=A5.b8 W;have fx:=(aM.o.ad.ak cx (λh=>by have:=aH.o;omega)).ak hy.1 (λh=>by have:=a6.o _ h;have:=a2.o;omega);exact⟨⟨fx.c0,fx.c1,fx.c2⟩,hy.a7 (aE.o H W).2⟩
   by_cases W:bL=0
   case neg=>
    (have hxb:(bL !=0)=true:=by simpa using W);go_wp2;refine Ce (λw'=>Aa w' z 0 (A7 b)/\Aa w' z 1 (.string ⟨nm.toArray⟩)/\Aa w' z 2 (.int .u32 s0)) 6
     (BD [0,1,2,3,4,5] [4,5]) ⟨e0,e1,e2⟩ ?_
    iterate 4 refine Bq ?_
    refine By λK hK=>?_;go_simp;refine bN.k ?_;rintro w9 I;refine hK _ _ (aE.o w9 I).1 (λhS=>?_);have aK:=A4 (aO.o w9 (aE.o w9 I).2);have aD:=A4 (bP.o w9 I);refine By λK hK=>?_;go_simp;refine aK.k ?_;rintro aF hI;refine hK _ _ (aD.o aF hI).1 (λhS=>?_);have bC:=A4 (aD.o aF hI).2;refine Cc ?_;go_wp2;go_ret2;exact⟨rfl,bC.o⟩
   case pos=>
    subst W;go_wp2;refine Ce (λw'=>Aa w' z 0 (A7 b)/\Aa w' z 1 (.string ⟨nm.toArray⟩)/\Aa w' z 2 (.int .u32 s0)) 6
     (BD [0,1,2,3,4,5] [4,5]) ⟨e0,e1,e2⟩ ?_
    iterate 4 refine Bq ?_
    refine By λK hK=>?_;go_simp;refine bN.k ?_;rintro w9 I;refine hK _ _ (aE.o w9 I).1 (λhS=>?_);have aK:=A4 (aO.o w9 (aE.o w9 I).2);have aD:=A4 (bP.o w9 I);refine By λK hK=>?_;go_simp;refine aK.k ?_;rintro aF hI;refine hK _ _ (aD.o aF hI).1 (λhS=>?_);have bC:=A4 (aD.o aF hI).2;refine Cc ?_;go_wp2;go_ret2;exact⟨⟨_,rfl⟩,bC.o⟩
end
def Rk{P:PD}{a c m:Nat}(h:Fit P a c m)(nm:Bs):(P.aT nm).1.length<=m:=by
 have h1:=JX h nm;unfold PD.aT;split
 ·simp
 ·split
  ·rename_i d z;unfold Hc at z;split at z
   ·cases z
   ·split at z
    ·cases z;simp only[BU];omega
    ·cases z
  ·simp
def Ti:∀(k:Nat) (l:Bs),(Fo k l).length*8<=l.length
 | 0,l=>by simp[Fo]
 | k+1,l=>by
  unfold Fo;split
  ·simp
  ·have:=Ti k (l.drop 8);simp only[BM,CM]at this ⊢;omega
def A5.bB{S:Nat->Prop}{w w':World}(h:A5 S w w'){p:Addr}{v:Value}(z:w.cell? p=some v)(I:¬S p.block):w'.cell? p=some v:=by
 have H:=H7 w _ z;have:=h.Ao p.block H I;unfold World.cell? at z ⊢;rw[this];exact z
def Dc.e0{w:World}{g o n cap:Nat}{l:List Int}(h:Dc w (.slice (some (Ad g o)) n cap) l)(hl:0<l.length)(a':Option Addr)(ha:1<l.length->a'=some (Ad g (o+1)))(W:∀x,a'=some x->x.block=g):Dc w (.slice a' (n-1) (cap-1)) l.tail:=by
 obtain⟨h1,a,c,e,h2,h3,X,Y⟩:=h;cases e;have I:l.tail.length=l.length-1:=List.length_tail;refine⟨by rw[Tl];omega,a',cap-1,by rw[I],by omega,by omega,λx H=>?_,λj u hj=>?_⟩
 ·unfold Value.ownBlock at H;cases a' with
  | none=>simp at H
  | some y=>
   simp only at H;have:=W y rfl;cases H;rw[this];exact X g rfl
 ·have z:(DR l)[j+1]?=some u:=by
   cases l with
   | nil=>simp at hl
   | cons x r=>simpa[DR] using hj
  have⟨g',o',e,hc⟩:=Y _ _ z;cases e;have O:j+1<(DR l).length:=(Hs.1 z).1;rw[Tl]at O;exact⟨g,o+1,ha (by omega),by rw[show o+1+j=o+(j+1) by omega];exact hc⟩
section
variable{w:World}{b B:Nat}{P:PD}{Ft:Nat->Prop}{a c m:Nat}{n:Int}
def Y9(w:World)(h:Bh w b P Ft)(aK:∀k,Ft k->k<w.heap.size)(hF:Fit P a c m)(hl:CN a c m)(hL:Lets B w):
 Aj 47 #[A7 b] w λe w'=>
  (P.CV=none/\e=.returned (.tuple #[.pointer none,A0 7])/\A5 Ab w w')\/
  ∃ix xb v,P.CV=some ix/\e=.returned (.tuple #[A7 xb,A0 0])/\BZ w' xb 122 b AF (AB AF) ix.AW v/\Dc w' v ix.segs/\(∀g,v.ownBlock=some g->xb<g)/\w.heap.size<=xb/\A5 Ab w w':=by
 have a9:=A4 (Oy w b 3 (by omega) (HF (n:=0) (by omega) (by omega)) hL);have a0:Hid (∀w1,A5 Ab w w1->_):=λw1 hc=>Rt AF (B5.az h aK hc) (λk hk=>Bm (aK k hk) hc.Am) hF hl;have aG:(P.aT AF).1.length<=4294967296:=AH (Rk hF AF) hl.m;obtain⟨X,hX⟩:∃X,P.CV=X:=⟨_,rfl⟩;have bB:Hid (indexOf (P.aT AF)=X):=hX;rw[hX];have bG:BJ 3 0=AF:=rfl;rw[show ((3:Nat):Int)=3 from rfl,bG]at a9;generalize hnme:AF=nm at a9 a0 bB aG ⊢;generalize hs0:AB nm=s0 at a9 a0 ⊢;obtain⟨⟨Y,de⟩,bP⟩:∃x,P.aT nm=x:=⟨_,rfl⟩;rw[bP]at a0 bB aG;dsimp only at a0 aG
 go_enter func47,ntmps47
 go_wp2_with (fail);refine a9.k ?_;rintro w1 a6;have aH:BZ (w1.aC #[A7 b,.string ⟨nm.toArray⟩,.int .u32 s0,A0 1,.slice none 0 0] 122) w1.heap.size 122 b nm s0 1 (.slice none 0 0):=BN w1 _;have bV:Hid (A5 Ab w (w1.aC #[A7 b,.string ⟨nm.toArray⟩,.int .u32 s0,A0 1,.slice none 0 0] 122)):=a6.aj _;have aQ:Hid (w.heap.size<=w1.heap.size):=a6.Am;have bL:=A4 (a0.o _ bV.o);have bH:=A4 aH;have g0:=aH.c0;have g1:=aH.c1;have g2:=aH.c2;go_wp2_with (fail);refine bL.k ?_;rintro w2 aU;have aP:=A4 (bH.o.ak aU (λh=>h));have aV:Hid (A5 Ab w w2):=bV.o.tr aU;have aJ:Hid (w1.heap.size<w2.heap.size):=aP.o.lt;generalize w1.heap.size=xb at *;by_cases h8:de=8
 case pos=>
  subst h8;have H:Hid (X=some ⟨1,[]⟩):=by unfold Hid;rw[<-bB.o];unfold indexOf;rw[Ah rfl]
  go_wp2;go_ret2;exact .inr ⟨⟨1,[]⟩,xb,_,H.o,rfl,aP.o,Dy.b4,λg hg=>by simp[Value.ownBlock]at hg,aQ.o,aV.o⟩
 case neg=>
 have h8b:(de==8)=false:=by simpa using h8
 have aT:=A4 (A0a w2 Y aG);have aZ:Hid ((Eo Y).length*8<=Y.length):=Ti _ _
 have aN:Hid ((if de≠0\/Eo Y=[]\/Y.length≠(Eo Y).length*8 then none else
  if (Eo Y).all isNum=false then none else
  if Cs Ch (Eo Y).tail then some ⟨(Eo Y).headD 0,(Eo Y).tail⟩ else none)=X):=by
  rw[<-bB.o];unfold indexOf;rw[Ae h8];rfl
 generalize hns:Eo Y=ns at aT aZ aN;go_wp2_with (fail);refine aT.m ?_;rintro e w3⟨v,rfl,hv,bR,aL⟩;have aF:=A4 (aP.o.ak aL (λh=>h));have aD:Hid (A5 Ab w w3):=aV.o.tr aL;obtain⟨ap,cp,rfl,hcap1,aR,bD,-⟩:=Bb hv;unfold maxLen at aR;have bU:=A4 hv;have bI:Hid (∀g,(Value.slice ap ns.length cp).ownBlock=some g->w2.heap.size<=g):=bR;have HW3:=A4 aL.Am;by_cases I:de≠0\/ns=[]\/Y.length≠ns.length*8
 case pos=>
  have H:Hid (X=none):=by unfold Hid;rw[<-aN.o,Ah I]
  by_cases h0:de=0
  ·subst h0;by_cases aE:ns=[]
   ·subst aE;go_wp2;go_ret2;exact .inl ⟨H.o,rfl,aD.o⟩
   ·have bC:((ns.length:Int)==0)=false:=by
     have:ns.length≠0:=λe=>aE (G4.1 e);simp;omega
    have hd:((Y.length:Int)!=wrap64 ((ns.length:Int)*8))=true:=by
     (have:Y.length≠ns.length*8:=by rcases I with h|h|h;exact absurd rfl h;exact absurd h aE;exact h);have:=aZ.o;(have ew:wrap64 ((ns.length:Int)*8)=(ns.length:Int)*8:=by unfold wrap64;omega);rw[ew];simp;omega
    go_wp2;go_ret2;exact .inl ⟨H.o,rfl,aD.o⟩
  ·(have hb:(de !=0)=true:=by simpa using h0);go_wp2;go_ret2;exact .inl ⟨H.o,rfl,aD.o⟩
 case neg=>
  have hz:de=0/\ns≠[]/\Y.length=ns.length*8:=⟨A3c λh=>I (.inl h),λh=>I (.inr (.inl h)),A3c λh=>I (.inr (.inr h))⟩;obtain⟨rfl,aE,hd0⟩:=hz;have aY:Hid ((if ns.all isNum=false then none else if Cs Ch ns.tail then some ⟨ns.headD 0,ns.tail⟩ else none)=X):=by rw[<-aN.o,Ae I];rfl
  have O:0<ns.length:=Ja.2 aE;have bC:((ns.length:Int)==0)=false:=by simp;omega
  have hd:((Y.length:Int)!=wrap64 ((ns.length:Int)*8))=false:=by
   (have ew:wrap64 ((ns.length:Int)*8)=(ns.length:Int)*8:=by unfold wrap64;omega);rw[ew];simp;omega
  obtain⟨g,rfl⟩:=bD O;have bN:Hid (ns.length<=1099511627776):=by unfold Hid;omega
  go_wp2;go_loopw [44] (λiv wr=>∃k:Nat,iv=A0 k/\k<=ns.length/\wr=w3/\Hid ((ns.take k).all isNum=true)) (λiv _=>ns.length-(intOf iv).toNat)
  ·exact⟨0,rfl,by omega,rfl,by unfold Hid;rfl⟩
  ·obtain⟨k,rfl,hk,rfl,hI⟩:=hrel;by_cases aA:k<ns.length
   ·have z:Aa wr g k (A0 (ns[k]'aA)):=BB bU.o rfl (Og ns k aA);have a3:ns.take (k+1)=ns.take k++[ns[k]'aA]:=Dz aA;have aI:(ns[k]'aA)∈ns:=BS aA;generalize W:(ns[k]'aA)=x at z a3 aI;have bA:=A4 (Tg wr x);(have bJ:(k:Int)<(ns.length:Int):=by omega);have hk0:=Cd k;have bF:=A4 a3;have aX:=A4 aI;by_cases hn:isNum x=true
    ·(have bO:Hid ((ns.take (k+1)).all isNum=true):=by unfold Hid;rw[bF.o,List.all_append,hI.o];simp[hn]);rw[hn]at bA;go_wp2_with (go_at_call 79;refine bA.k ?_;rintro w4 rfl);go_roundw
     ·exact⟨k+1,by go_num,by omega,trivial,bO.o⟩
     ·simp[intOf];omega
    ·(have bK:isNum x=false:=by simpa using hn);have H:Hid (X=none):=by
      unfold Hid;rw[<-aY.o,Ah];have:¬ns.all isNum=true:=λh=>hn (MX.1 h x aX.o);simpa using this
     rw[bK]at bA;go_wp2_with (go_at_call 79;refine bA.k ?_;rintro w4 rfl);go_ret2;exact .inl ⟨H.o,rfl,aD.o⟩
   ·(obtain rfl:k=ns.length:=by omega);(have hall:ns.all isNum=true:=by have:=hI.o;rwa [Cj]at this);(have aM:Hid ((if Cs Ch ns.tail then some (Ix.mk (ns.headD 0) ns.tail) else none)=X):=by have:=aY.o;rwa [Ae (by simp[hall])]at this);have z:Aa wr.drew g 0 (A0 (ns.headD 0)):=by
     have h0:=Og ns 0 O;have:(ns[0]'O)=ns.headD 0:=by cases ns with
      | nil=>simp at O
      | cons x r=>rfl
     rw[this]at h0;exact BB bU.o rfl h0
    (have bJ:¬((ns.length:Int)<(ns.length:Int)):=by omega);have f3:=aF.o.ad.fz 3;have f4:=aF.o.ad.fz 4;have g3:=aF.o.ad.c3;have g4:=aF.o.ad.c4;generalize hh0:ns.headD 0=h0 at z aM;(have hn1:(1:Int)<=(ns.length:Int):=by omega);obtain⟨a',aS⟩:∃a':Option Addr,(if cp=1 then some ((Ad g 0):Addr) else some (Ad g 1))=a':=⟨_,rfl⟩;have bX:=A4 (Dc.e0 (DF.rd bU.o) O a' (λh=>by rw[<-aS,Ae (by omega)]) (λx W=>by rw[<-aS]at W;split at W<;>cases W<;>rfl));(have bT:∀x,a'=some x->x.block=g:=λx W=>by rw[<-aS]at W;split at W<;>cases W<;>rfl);have bE:∀g',(Value.slice a' (ns.length-1) (cp-1)).ownBlock=some g'->g'=g:=λg' hg=>by
     unfold Value.ownBlock at hg;cases W:a' with
     | none=>rw[W]at hg;simp at hg
     | some y=>rw[W]at hg;have:=bT y W;simp at hg;omega
    have aW:=A4 bE;have aO:Hid (w2.heap.size<=g):=bI.o g rfl;have bS:BZ (wr.setCell (Ad xb 3) (A0 h0)).drew xb 122 b nm s0 h0 (.slice none 0 0):=(aF.o.s3 h0).ad;have k9:A5 (One xb) wr (wr.setCell (Ad xb 3) (A0 h0)).drew:=((A5.C (One xb) wr).ao (b:=xb) rfl 3 _).ad;have aB:(wr.setCell (Ad xb 3) (A0 h0)).drew.cell? (Ad g 0)=some (A0 h0):=k9.bB z (λh=>by have h':g=xb:=h;have:=aO.o;have:=aJ.o;omega);have a8:=A4 bS;have bW:=A4 k9;go_wp2;refine Ce (λw'=>Aa w' g 0 (A0 h0)) 10
     (BD [0,1,2,3,4,5,6,7,8,9] [9]) z ?_
    iterate 9 refine Bq ?_
    refine By λK hK=>?_;go_simp;refine hK _ _ aB (λhS=>?_);refine Cc ?_;generalize (wr.setCell (Ad xb 3) (A0 h0)).drew=w9 at a8 bW aB ⊢;have f94:=a8.o.fz 4;have g94:=a8.o.c4;have a4:=A4 (a8.o.s4 (.slice a' (ns.length-1) (cp-1)));have c104:=a4.o.c4;have a2:A5 (One xb) wr (w9.setCell (Ad xb 4) (.slice a' (ns.length-1) (cp-1))):=bW.o.ao rfl 4 _;(have a1:Hid (A5 Ab w (w9.setCell (Ad xb 4) (.slice a' (ns.length-1) (cp-1)))):=aD.o.AJ a2 λx W aK=>by have bM:x=xb:=W;have:=aQ.o;omega);have a5:Hid (Dc (w9.setCell (Ad xb 4) (.slice a' (ns.length-1) (cp-1))) (.slice a' (ns.length-1) (cp-1)) ns.tail):=Dy.An bX.o a2 λg' hg W=>by
     have bM:g'=xb:=W;have:=aW.o g' hg;have:=aO.o;have:=aJ.o;omega
    have a7:=A4 (Xw _ _ _ a5.o (by rw[List.length_tail];have:=bN.o;omega));by_cases hr:Cs Ch ns.tail=true
    ·rw[hr]at a7;(have H:Hid (X=some ⟨h0,ns.tail⟩):=by unfold Hid;rw[<-aM.o,Ah hr]);go_wp2_with (go_at_call 80;refine a7.k ?_;rintro w5⟨nn,rfl⟩);go_ret2;have kk:=(A5.C Ab (w9.setCell (Ad xb 4) (.slice a' (ns.length-1) (cp-1)))).bb nn;exact .inr ⟨_,xb,_,H.o,rfl,a4.o.ak kk (λh=>h),Dy.An a5.o kk (λ_ _ h=>h),λg' hg=>by have:=aW.o g' hg;have:=aO.o;have:=aJ.o;omega,aQ.o,a1.o.tr kk⟩
    ·(have bQ:Cs Ch ns.tail=false:=by simpa using hr);rw[bQ]at a7;(have H:Hid (X=none):=by unfold Hid;rw[<-aM.o,Ae hr]);go_wp2_with (go_at_call 80;refine a7.k ?_;rintro w5⟨nn,rfl⟩);go_ret2;exact .inl ⟨H.o,rfl,a1.o.bb nn⟩
end
end
end Go.Proofs.YtodcnkbblippnabGreatDoor
