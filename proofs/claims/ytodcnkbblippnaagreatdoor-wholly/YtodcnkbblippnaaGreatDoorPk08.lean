/- Part 8 of a proof: walks of the program. -/
import Derived.Shelf.Strings.BuilderK
import Derived.Test.YtodcnkbblippnaaGreatDoorPk07
namespace Go.Proofs.YtodcnkbblippnaaGreatDoor
set_option maxRecDepth 100000
set_option maxHeartbeats 32000000
set_option linter.defProp false
open Go.Proofs.Tryz
section
open Go.RowKit
attribute [local go_sem ↓] CJ
def XH{k:Nat}{l:Bs}(h:l.length<17):EC k l=some ([],l):=by cases k<;>simp[EC,h]
def XI{k:Nat}{c:UInt8}{d:Bs}(h:16<=d.length):EC (k+1) (c::d)=if c.toNat<8 then (EC k (d.drop 16)).map λr=>(((c.toNat:Int),BM d,BM (d.drop 8)):: r.1,r.2) else none:=by
 have z:¬(c::d).length<17:=by simp;omega
 simp only[EC,Ae z];rfl
section
variable {w:World} {b B:Nat} {P:PD} {Ft:Nat->Prop} {a c m:Nat} {n:Int}
def YC(w:World)(h:Bk w b P Ft)(aP:∀k,Ft k->k<w.heap.size)(hF:Fit P a c m)(hl:CU a c m)(hn:CM n)(hL:Lets B w):
 Af 135 #[A5 b,A0 n] w λe w'=>
  (P.Cy n=none/\e=.returned (.tuple #[.pointer none,A0 7])/\A3 Ab w w')\/
  ∃l W v,P.Cy n=some l/\e=.returned (.tuple #[A5 W,A0 0])/\C5 w' W 182 b (AJ n) (AH (AJ n)) n v/\AZ w' v l/\(∀g,v.ownBlock=some g->w.heap.size<=g)/\w.heap.size<=W/\A3 Ab w w':=by
 obtain⟨i0,hi,bN,bU,bT⟩:=E9 Ij;have bH:=A1 (Rh w b hn hL);have bA:Hid (∀w1,A3 Ab w w1->_):=λw1 hc=>RZ (AJ n) (B3.ay h aP hc) (λk hk=>Bq (aP k hk) hc.Ao) hF hl;have aQ:(P.a1 (AJ n)).1.length<=4294967296:=by
  have h1:=Lm hF (AJ n);have:=hl.m;unfold PD.a1;split
  ·simp
  ·split
   ·rename_i d hd;unfold HG at hd;split at hd
    ·cases hd
    ·split at hd
     ·cases hd;simp only[BW];omega
     ·cases hd
   ·simp
 obtain⟨X,hX⟩:∃X,P.Cy n=X:=⟨_,rfl⟩;have bI:Hid (IG (P.a1 (AJ n))=X):=hX;rw[hX];have bL:AJ n=BP 2 n:=rfl;rw[<-bL]at bH;generalize hnme:AJ n=nm at bH bA bI aQ ⊢;generalize hs0:AH nm=s0 at bH bA ⊢;obtain⟨⟨dt,de⟩,bQ⟩:∃x,P.a1 nm=x:=⟨_,rfl⟩;rw[bQ]at bA bI aQ;dsimp only at bA aQ
 go_enter func135,ntmps135
 go_wp2_with (fail);refine bH.m ?_;rintro e w1⟨W,rfl,aN,bE,bY⟩;have a3:=A1 (bA.o w1 bE);have a1:=A1 aN;have a2:=A1 bE;have a0:=A1 bY;have g0:=aN.c0;have g1:=aN.c1;have g2:=aN.c2;by_cases he:de=0
 case neg=>
  have hb:(de !=0)=true:=by simpa using he
  have L:Hid (X=none):=by unfold Hid;rw[<-bI.o];unfold IG;rw[Ai he]
  go_wp2_with (go_at_call 126;refine a3.m ?_;rintro e w2⟨rfl,aE⟩;have aF:=A1 aE);go_ret2;exact .inl ⟨L.o,rfl,a2.o.tr aF.o⟩
 case pos=>
 subst he
 have aH:Hid ((match EC dt.length dt with
  | none=>none
  | some (l,r)=>if r=[]/\Cz Co l=true then some l else none)=X):=by
  rw[<-bI.o];unfold IG;rw[Ae (by simp)];rfl
 generalize hY:EC dt.length dt=Y at aH;have cE:=A1 hY;go_wp2_with (fail);refine a3.m ?_;rintro e w2⟨rfl,aE⟩;have bW:=A1 (a1.o.aj aE (λh=>h));have aF:Hid (A3 Ab w w2):=a2.o.tr aE;have bR:=A1 a1.o.lt;have a6:=A1 aE.Ao;go_wp2;go_loopw [7] (λtv wr=>∃(l:Bs) (k:Nat) (z:List Pu),tv=.string ⟨l.toArray⟩/\z.length*17+l.length<=dt.length/\Hid (∃v,C5 wr W 182 b nm s0 n v/\AZ wr v z/\(∀g,v.ownBlock=some g->w2.heap.size<=g)/\(A3 Ab w wr/\w2.heap.size<=wr.heap.size)/\l.length<=k/\Y=(EC k l).map λr=>(z++r.1,r.2))) (λtv _=>match tv with | .string x=>x.size|_=>0)
 case atStart=>exact⟨dt,dt.length,[],rfl,by simp,_,bW.o,CL _ _ _ _,λg O=>by simp[Value.ownBlock]at O,⟨aF.o,As _⟩,As _,by rw[<-cE.o];simp⟩
 case round=>
  obtain⟨l,k,z,rfl,aL,hI⟩:=hrel;have aA:(ByteArray.mk l.toArray).size=l.length:=by show l.toArray.size=_;simp
  by_cases aT:l.length<17
  case pos=>
   obtain⟨v,i1,i2,i3,⟨i4,a7⟩,-,i6⟩:=hI.o;rw[XH aT]at i6;simp only[HM,FA]at i6;subst i6;(have hlt17:¬(17<=(l.length:Int)):=by omega);have bO:=A1 i1;have aU:=A1 i2;have a9:=A1 i3;have aY:=A1 i4;have g4:=i1.c4;by_cases aB:l=[]
   case neg=>
    (have L:Hid (X=none):=by unfold Hid;rw[<-aH.o];simp only;rw[Ae (λh=>aB h.1)]);have hbl:(l==[])=false:=Ea.2 aB;go_wp2;go_ret2;exact .inl ⟨L.o,rfl,aY.o⟩
   case pos=>
   subst aB;have bF:=A1 (Y7 wr v z aU.o.rd (by simp at aL;omega));by_cases hr:Cz Co z=true
   case neg=>
    (have bS:Cz Co z=false:=by simpa using hr);(have L:Hid (X=none):=by unfold Hid;rw[<-aH.o];simp only;rw[Ae (λh=>hr h.2)]);rw[bS]at bF;go_wp2_with (go_at_call 177;refine bF.m ?_;rintro e w3⟨rfl,aS⟩;have aD:=A1 aS);go_ret2;exact .inl ⟨L.o,rfl,aY.o.tr aD.o⟩
   case pos=>
    (have L:Hid (X=some z):=by unfold Hid;rw[<-aH.o];simp only;rw[Ai ⟨by first|trivial|rfl,hr⟩]);rw[hr]at bF;go_wp2_with (go_at_call 177;refine bF.m ?_;rintro e w3⟨rfl,aS⟩;have aD:=A1 aS);go_ret2;exact .inr ⟨z,W,v,L.o,rfl,bO.o.aj aD.o (λh=>h),Az aU.o λg O=>aD.o.Ap g (AI aU.o O) (λh=>h),λg O=>AR aF.o.Ao (a9.o g O),a0.o,aY.o.tr aD.o⟩
  case neg=>
   obtain⟨v,i1,i2,i3,⟨i4,a7⟩,i5,i6⟩:=hI.o;obtain⟨k,rfl⟩:∃k',k=k'+1:=⟨k-1,by omega⟩;obtain⟨c0,d,rfl⟩:∃c0 d,l=c0::d:=by
    cases l with
    | nil=>simp at aT
    | cons c0 d=>exact⟨c0,d,rfl⟩
   (have aG:16<=d.length:=by simp at aT;omega);rw[XI aG]at i6;obtain⟨ap,cp,rfl,hcap1,aW,-⟩:=B9 i2;unfold maxLen at aW;have aZ:=A1 (λw5=>S6 w5 c0 d ⟨aG,by simp at aL;omega⟩);have e2:(ByteArray.mk (c0::d).toArray).extract 17 (d.length+1)=⟨(d.drop 16).toArray⟩:=by
    rw[extract_mk,DJ,Er (by rw[Cw];omega)]
   obtain⟨H,bV⟩:∃H,BM d=H:=⟨_,rfl⟩;obtain⟨E,bJ⟩:∃E,BM (d.drop 8)=E:=⟨_,rfl⟩;rw[bV,bJ]at aZ i6;obtain⟨q,hq⟩:∃q,d.drop 16=q:=⟨_,rfl⟩;(have bB:q.length+16=d.length:=by rw[<-hq,Cw];omega);rw[hq]at e2 i6;obtain⟨ll,bC⟩:∃ll,d.length=ll:=⟨_,rfl⟩;(have bP:(c0::d).length=ll+1:=by simp[bC]);rw[bP]at aA aL i5;rw[bC]at e2 aG bB;(have hge:17<=(ll:Int)+1:=by omega);generalize hty:ByteArray.mk (c0::d).toArray=ty at e2 aA aZ ⊢;have g4:=i1.c4;have f4:=i1.fz 4;have bO:=A1 i1;have aU:=A1 i2;have a9:=A1 i3;have aY:=A1 i4;have bK:=A1 a7;have cC:=A1 i5;have b1:=A1 i6;have aO:=A1 bB;have a5:=A1 aL;by_cases aK:c0.toNat<8
   case neg=>
    (have L:Hid (X=none):=by unfold Hid;rw[<-aH.o,b1.o,Ae aK];rfl);rw[show decide (c0.toNat<8)=false from D2 aK]at aZ;go_wp2_with (go_at_call 176;refine(aZ.o _).mono ?_;rintro e w6⟨rfl,aR⟩;have aJ:=A1 aR);go_ret2;exact .inl ⟨L.o,rfl,(aY.o.tr aJ.o).ai _⟩
   case pos=>
    rw[show decide (c0.toNat<8)=true from CE aK]at aZ;have cD:Hid (Y=(EC k q).map λr=>((z++[((c0.toNat:Int),H,E)])++r.1,r.2)):=by
     unfold Hid;rw[b1.o,Ai aK];cases EC k q<;>simp
    go_wp2_with (go_at_call 176;refine(aZ.o _).mono ?_;rintro e w6⟨rfl,aR⟩;have bM:=A1 (BO w6 (.cells #[A0 c0.toNat,A0 H,A0 E] 113));have aJ:=A1 aR);have bX:A3 Ab wr (w6.alloc (.cells #[A0 c0.toNat,A0 H,A0 E] 113)):=aJ.o.ai _;have aX:Hid (C8 (w6.alloc (.cells #[A0 c0.toNat,A0 H,A0 E] 113)) w6.heap.size c0.toNat H E):=bM.o;have a4:=A1 bX;have bZ:Hid (∀g,(Value.slice ap z.length cp).ownBlock=some g->g<w6.heap.size):=λg O=>Bq (AI aU.o O) aJ.o.Ao;generalize (w6.alloc (.cells #[A0 c0.toNat,A0 H,A0 E] 113))=w7 at aX a4 ⊢;generalize w6.heap.size=pb at aX bZ ⊢;have b2:=A1 (bO.o.aj a4.o (λh=>h));have b3:Hid (AZ w7 (.slice ap z.length cp) z):=Az aU.o λg O=>a4.o.Ap g (AI aU.o O) (λh=>h);have b6:Hid (w2.heap.size<=w7.heap.size):=AR bK.o a4.o.Ao;have cG:Hid (A3 Ab w w7):=aY.o.tr a4.o;refine BR (λw'=>A7 w' pb 0 (A0 c0.toNat)/\A7 w' pb 1 (A0 H)/\A7 w' pb 2 (A0 E)/\A7 w' W 4 (.slice ap z.length cp)) 8
     (Br [0,1,2,3,4,5,6,7] [6,7]) ⟨aX.o.af.c0,aX.o.af.c1,aX.o.af.c2,b2.o.af.c4⟩ ?_
    iterate 6 (refine Bf ?_;(try simp only[An]))
    refine Bn λK hK=>?_;go_simp;have ka:A3 Ab w7 (w7.alloc (.cells #[A0 c0.toNat,A0 H,A0 E] 113)).drew:=((A3.I _ _).ai _).af;have bG:=aX.o.aj ka (λh=>h);have b0:=b2.o.aj ka (λh=>h);have cB:Hid (AZ (w7.alloc (.cells #[A0 c0.toNat,A0 H,A0 E] 113)).drew (.slice ap z.length cp) z):=Az b3.o λg O=>ka.Ap g (AI b3.o O) (λh=>h);have bD:Hid (Src Tryz.prog 3 97 (AM w7.heap.size 1 1) 1 #[A0 c0.toNat,A0 H,A0 E].toList (w7.alloc (.cells #[A0 c0.toNat,A0 H,A0 E] 113)).drew):=by
     have hb:(w7.alloc (.cells #[A0 c0.toNat,A0 H,A0 E] 113)).drew.heap[w7.heap.size]?=some (.cells #[A0 c0.toNat,A0 H,A0 E] 113 (0,0)):=BO w7 _;exact Src.cx underlying97 hb 1 1 rfl (I6 [((c0.toNat:Int),H,E)])
    refine hK _ _ ⟨bG.c0,bG.c1,bG.c2,b0.c4⟩ (λhS=>?_)
    (try simp only[An])
    refine DY rfl (by rfl) (λK hK=>?_);refine HY (.tmp 40) (.tmp 42) 97 97 rfl 113 i0 _ 3 24 underlying97 hi bN bU bT rfl (by decide) (.slice ap z.length cp) z.length (Ba z) (by rfl) cB.o _ 1 _ (by rfl) bD.o (by have:=a5.o;omega) ?_;intro a8 I w8 hA;have aI:=hA.Ak (S:=λk=>(Value.slice ap z.length cp).ownBlock=some k) λ_ h=>h;have b5:Hid (W<w2.heap.size):=Bq bR.o a6.o;have aV:=bG.aj aI (λh=>G6 _ (bZ.o _ h));have aM:=b0.aj aI (λh=>by have:=a9.o _ h;have:=b5.o;omega);have cA:Hid (AZ w8 (.slice a8 (z.length+1) I) (z++[((c0.toNat:Int),H,E)])):=by
     (have e:(z++[((c0.toNat:Int),H,E)]).length=z.length+1:=by simp);unfold Hid AZ;rw[IL,e];exact hA.AB
    have b4:Hid (∀g,(Value.slice a8 (z.length+1) I).ownBlock=some g->w2.heap.size<=g):=λg O=>by
     rcases hA.Ck with h|h
     ·rw[h]at O;exact a9.o g O
     ·rw[h]at O;cases O;have:=b6.o;have:=ka.Ao;omega
    (have cF:Hid (A3 Ab w w8):=(cG.o.tr ka).Aw aI λy hy aP=>by have:=a9.o y hy;have:=aF.o.Ao;omega);have cH:Hid (w2.heap.size<=w8.heap.size):=AR b6.o (AR ka.Ao aI.Ao);refine hK _ _ ⟨aV.c0,aV.c1,aV.c2,aM.c4⟩ (λhS=>?_);have g4:=aM.c4;have f4:=aM.fz 4;have b9:=A1 (aM.s4 (.slice a8 (z.length+1) I));have b8:Hid (A3 Ab w (w8.sC W 4 (.slice a8 (z.length+1) I))):=cF.o.bq (p:=(Ac W 4)) (λh=>by have h':W<w.heap.size:=h;have:=a0.o;omega) _;have b7:Hid (AZ (w8.sC W 4 (.slice a8 (z.length+1) I)) (.slice a8 (z.length+1) I) (z++[((c0.toNat:Int),H,E)])):=Az cA.o λg O=>GK _ _ _ _ (λe=>by have e':g=W:=e;have:=b4.o g O;have:=b5.o;omega)
    (try simp only[An])
    refine Bl ?_;simp only[BK,BJ];go_wp2;go_roundw
    case rel=>exact⟨q,k,z++[((c0.toNat:Int),H,E)],rfl,by have:=a5.o;have:=aO.o;simp;omega,_,b9.o,by have:=b7.o;simpa using this,by have:=b4.o;simpa using this,⟨b8.o,by have:=cH.o;simpa using this⟩,by have:=cC.o;have:=aO.o;omega,cD.o⟩
    case measure=>
     (have e:(ByteArray.mk q.toArray).size=q.length:=by show q.toArray.size=_;simp);have:=aO.o;simp only[e,aA];omega
end
def Bh(p:Pu):Prop:=(0<=p.1/\p.1<8)/\AE p.2.1/\AE p.2.2
def YL(a b:List Pu):Cf (a++b)=Cf a++Cf b:=by simp[Cf]
def Om(s t v:Int):(Bb s t v).length=17:=by simp[Bb,CP]
def Oj(l:List Pu):(Cf l).length=17*l.length:=by
 induction l with
 | nil=>rfl
 | cons p r ih=>
  have:Cf (p::r)=Bb p.1 p.2.1 p.2.2++Cf r:=rfl;rw[this,B1,ih,Om,Cx];omega
def A3.cd{B:Nat}{w w':World}(h:Below B w w'):A3 (λk=>B<=k) w w':=⟨h.os,h.tape,h.output,h.size,λk _ hn=>h.block k (by omega)⟩
section
variable {w:World} {b B:Nat} {P:PD} {Ft:Nat->Prop} {a c m:Nat} {n:Int}
def ZE(w:World)(pv:Value)(l:List Pu)(h:Bk w b P Ft)(W:∀k,Ft k->k<w.heap.size)(hF:Fit P a c m)(hl:CU (a+1) (c+1) m)(hn:CM n)(hL:Lets B w)(hp:Hu w pv l)(bA:∀p∈l,Bh p)(hpl:l.length<=134217728):
 Af 151 #[A5 b,A0 n,pv] w λe w'=>
  ((P.aK n l).1≠0/\e=.returned (.tuple #[.pointer none,A0 (P.aK n l).1])\/(P.aK n l).1=0/\∃d,e=.returned (.tuple #[A5 d,A0 0]))/\Aq w Ft w' (λw' O=>Bk w' b (P.aK n l).2 O):=by
 have aU:=A1 (Rh w b hn hL);have aL:Hid (∀w1,A3 Ab w w1->_):=λw1 hc=>Qk (AJ n) (Cf l) (Jt (AJ n)) (B3.ay h W hc) (λk hk=>Bq (W k hk) hc.Ao) (by rw[Oj];omega) hF hl;obtain⟨X,hX⟩:∃X,P.aK n l=X:=⟨_,rfl⟩;have aW:P.aI (AJ n) (AH (AJ n)) (Cf l)=X:=hX;rw[hX];rw[aW]at aL;have a1:AJ n=BP 2 n:=rfl;rw[<-a1]at aU;generalize hnme:AJ n=nm at aU aL;generalize hs0:AH nm=s0 at aU aL;obtain⟨pa,H,rfl,hcap1,aK⟩:=hp.Cg;unfold maxLen at aK;have bP:=A1 hp;have a3:=A1 W
 go_enter func151,ntmps151
 go_wp2_with (fail);refine aU.o.mono ?_;rintro e w1⟨d,rfl,aF,aN,bG⟩;have a2:=A1 aF;have HC1:=A1 aN;have aZ:=A1 bG;have f4:=aF.fz 4;have g4:=aF.c4;have bC:=A1 (aF.s4 (.slice pa l.length H));have a5:Hid (A3 Ab w (w1.setCell (Ac d 4) (.slice pa l.length H))):=aN.bq (p:=(Ac d 4)) (λh=>by have h':d<w.heap.size:=h;omega) _;have HG1:=A1 a2.o.lt;obtain⟨L,aM⟩:∃L,w1.setCell (Ac d 4) (.slice pa l.length H)=L:=⟨_,rfl⟩;have hw2s:w1.heap.size=L.heap.size:=by rw[<-aM];simp
 rw[aM]at bC a5;have aE:Hid (d<L.heap.size):=bC.o.lt;have bH:=A1 (UJ L);have bN:=A1 (bC.o.aj ((A3.I Ab L).ai (.cells #[.pointer none,.slice none 0 0] 260)) (λh=>h));have bL:Hid (A3 Ab w (L.alloc (.cells #[.pointer none,.slice none 0 0] 260))):=a5.o.ai _;have aI:Hid (w.heap.size<=L.heap.size):=a5.o.Ao;go_wp2;generalize bB:L.alloc (.cells #[.pointer none,.slice none 0 0] 260)=w3 at bH bN bL ⊢;have aO:Hid (L.heap.size<=w3.heap.size):=by rw[<-bB];show L.heap.size<=_;simp
 generalize L.heap.size=bb at bH aE aI aO ⊢;go_loopw [22] (λiv wr=>∃k:Nat,iv=A0 k/\k<=l.length/\Hid (GJ bb bb (Cf (l.take k)) wr/\C5 wr d 182 b nm s0 n (.slice pa l.length H)/\A3 Ab w wr/\bb<=wr.heap.size)) (λiv _=>l.length-(intOf iv).toNat)
 case atStart=>exact⟨0,rfl,by omega,by simpa[Cf] using bH.o,bN.o,bL.o,aO.o⟩
 case round=>
  obtain⟨k,rfl,hk,hI⟩:=hrel;by_cases aD:k<l.length
  ·obtain⟨i1,i2,i3,i4⟩:=hI.o;obtain⟨g,o,rfl,-,c1,c2,c3⟩:=Hu.at bP.o k aD;have I:=bA _ (BY aD);have aR:l.take (k+1)=l.take k++[l[k]'aD]:=DB aD;generalize hxe:(l[k]'aD)=x at c1 c2 c3 I aR;obtain⟨x1,x2,x3⟩:=x;dsimp only at c1 c2 c3;have d1:=i3.ao c1;have d2:=i3.ao c2;have d3:=i3.ao c3;obtain⟨⟨aQ,aX⟩,ht,hv⟩:=I;dsimp only at aQ aX ht hv;have PB:=A1 (λz=>S8 z x1 x2 x3 ⟨aQ,by omega⟩ ht hv);(have aG:Hid (Cf (l.take (k+1))=Cf (l.take k)++Bb x1 x2 x3):=by unfold Hid;rw[aR,YL];simp[Cf]);(have aY:(Cf (l.take k)).length<=17*l.length:=by rw[Oj,BW];omega);generalize hpk:Cf (l.take k)=pk at i1 aG aY;have aV:=Om x1 x2 x3;generalize hpbe:Bb x1 x2 x3=pb at PB aG aV;have a6:=A1 i1;have aJ:=A1 i2;have bD:=A1 i3;have aT:=A1 i4;have bO:Hid (∀w6,A3 Ab wr w6->_):=λw6 h6=>Nx (t:=pb) w6 (a6.o.aj h6 (λ_ h=>h.elim)) (by omega) (AR aT.o h6.Ao);(have a4:(k:Int)<(l.length:Int):=by omega);have hk0:(0:Int)<=(k:Int):=Gv _;go_wp2_with (fail);refine(PB.o _).mono ?_;rintro e w6⟨rfl,a8⟩;have aS:Hid (A3 Ab wr w6):=((A3.I Ab wr).ai _).Aw a8 λ_ h _=>h;have a7:=A1 (bO.o w6 aS.o);go_wp2_with (go_at_call 194;refine a7.o.mono ?_;rintro e w7⟨rfl,bE,bF⟩;have a0:=A1 bE;have aP:=A1 bF);go_roundw
   case rel=>
    have c7:A3 (λk=>bb<=k) w6 w7:=A3.cd aP.o;refine⟨k+1,by go_num,by omega,by rw[aG.o];exact a0.o,(aJ.o.aj aS.o (λh=>h)).aj c7 (λh=>by have:=aE.o;omega),?_,?_⟩
    ·exact(bD.o.Aw aS.o λ_ h _=>h).Aw c7 λx I W=>by have:=aI.o;omega
    ·exact AR aT.o (AR aS.o.Ao aP.o.size)
   case measure=>simp[intOf];omega
  ·obtain⟨i1,i2,i3,i4⟩:=hI.o;(obtain rfl:k=l.length:=by omega);rw[Cl]at i1;have a6:=A1 i1;have aJ:=A1 i2;have bD:=A1 i3;have aT:=A1 i4;have bK:=A1 (A3a wr.drew (a6.o.aj ((A3.I Ab _).af) (λ_ h=>h.elim)) aT.o);(have a4:¬((l.length:Int)<(l.length:Int)):=by omega);have aA:Hid (∀z,Below bb wr.drew z->(A7 z d 0 (A5 b)/\A7 z d 1 (.string ⟨nm.toArray⟩)/\A7 z d 2 (.int .u32 s0))/\A3 Ab w z):=λz I=>by
    have cx:A3 (λk=>bb<=k) wr.drew z:=A3.cd I;have fx:=aJ.o.af.aj cx (λh=>by have:=aE.o;omega);exact⟨⟨fx.c0,fx.c1,fx.c2⟩,bD.o.af.Aw cx λx I W=>by have:=aI.o;omega⟩
   have e0:=aJ.o.af.c0;have e1:=aJ.o.af.c1;have e2:=aJ.o.af.c2;obtain⟨bI,bJ⟩:=X;dsimp only at aL;have bM:Hid (∀z,Below bb wr.drew z->∀wy,Aq z Ft wy (λw' O=>Bk w' b bJ O)->(A7 wy d 0 (A5 b)/\A7 wy d 1 (.string ⟨nm.toArray⟩)/\A7 wy d 2 (.int .u32 s0))/\Aq w Ft wy (λw' O=>Bk w' b bJ O)):=λz I wy hy=>by
    have cx:A3 (λk=>bb<=k) wr.drew z:=A3.cd I;have fx:=(aJ.o.af.aj cx (λh=>by have:=aE.o;omega)).aj hy.1 (λh=>by have:=a3.o _ h;have:=aZ.o;omega);exact⟨⟨fx.c0,fx.c1,fx.c2⟩,hy.a6 (aA.o z I).2⟩
   by_cases I:bI=0
   case neg=>
    (have hxb:(bI !=0)=true:=by simpa using I);go_wp2;refine BR (λw'=>A7 w' d 0 (A5 b)/\A7 w' d 1 (.string ⟨nm.toArray⟩)/\A7 w' d 2 (.int .u32 s0)) 6
     (Br [0,1,2,3,4,5] [4,5]) ⟨e0,e1,e2⟩ ?_
    iterate 4 (refine Bf ?_;(try simp only[An]))
    refine Bn λK hK=>?_;go_simp;refine bK.o.mono ?_;rintro e w9⟨rfl,E⟩;refine hK _ _ (aA.o w9 E).1 (λhS=>?_);have aH:=A1 (aL.o w9 (aA.o w9 E).2);have Y:=A1 (bM.o w9 E)
    (try simp only[An])
    refine Bn λK hK=>?_;go_simp;refine aH.o.mono ?_;rintro e aB⟨rfl,hI⟩;refine hK _ _ (Y.o aB hI).1 (λhS=>?_);have a9:=A1 (Y.o aB hI).2
    (try simp only[An])
    refine Bl ?_;simp only[BK,BJ];go_wp2;go_ret2;exact⟨rfl,a9.o⟩
   case pos=>
    subst I;go_wp2;refine BR (λw'=>A7 w' d 0 (A5 b)/\A7 w' d 1 (.string ⟨nm.toArray⟩)/\A7 w' d 2 (.int .u32 s0)) 6
     (Br [0,1,2,3,4,5] [4,5]) ⟨e0,e1,e2⟩ ?_
    iterate 4 (refine Bf ?_;(try simp only[An]))
    refine Bn λK hK=>?_;go_simp;refine bK.o.mono ?_;rintro e w9⟨rfl,E⟩;refine hK _ _ (aA.o w9 E).1 (λhS=>?_);have aH:=A1 (aL.o w9 (aA.o w9 E).2);have Y:=A1 (bM.o w9 E)
    (try simp only[An])
    refine Bn λK hK=>?_;go_simp;refine aH.o.mono ?_;rintro e aB⟨rfl,hI⟩;refine hK _ _ (Y.o aB hI).1 (λhS=>?_);have a9:=A1 (Y.o aB hI).2
    (try simp only[An])
    refine Bl ?_;simp only[BK,BJ];go_wp2;go_ret2;exact⟨⟨_,rfl⟩,a9.o⟩
end
def RS{P:PD}{a c m:Nat}(h:Fit P a c m)(nm:Bs):(P.a1 nm).1.length<=m:=by
 have h1:=Lm h nm;unfold PD.a1;split
 ·simp
 ·split
  ·rename_i d z;unfold HG at z;split at z
   ·cases z
   ·split at z
    ·cases z;simp only[BW];omega
    ·cases z
  ·simp
def TH:∀(k:Nat) (l:Bs),(Gh k l).length*8<=l.length
 | 0,l=>by simp[Gh]
 | k+1,l=>by
  unfold Gh;split
  ·simp
  ·have:=TH k (l.drop 8);simp only[Cx,Cw]at this ⊢;omega
def A3.bH{S:Nat->Prop}{w w':World}(h:A3 S w w'){p:Addr}{v:Value}(d:w.cell? p=some v)(E:¬S p.block):w'.cell? p=some v:=by
 have z:=GV w _ d;have:=h.Ap p.block z E;unfold World.cell? at d ⊢;rw[this];exact d
def D7.fi{w:World}{g o n cap:Nat}{l:List Int}(h:D7 w (.slice (some (Ac g o)) n cap) l)(Y:0<l.length)(a':Option Addr)(ha:1<l.length->a'=some (Ac g (o+1)))(I:∀x,a'=some x->x.block=g):D7 w (.slice a' (n-1) (cap-1)) l.tail:=by
 obtain⟨h1,a,c,e,h2,h3,L,O⟩:=h;cases e;have E:l.tail.length=l.length-1:=List.length_tail;refine⟨by rw[TJ];omega,a',cap-1,by rw[E],by omega,by omega,λx z=>?_,λj u hj=>?_⟩
 ·unfold Value.ownBlock at z;cases a' with
  | none=>simp at z
  | some y=>
   simp only at z;have:=I y rfl;cases z;rw[this];exact L g rfl
 ·have d:(DO l)[j+1]?=some u:=by
   cases l with
   | nil=>simp at Y
   | cons x r=>simpa[DO] using hj
  obtain⟨g',o',e,W⟩:=O _ _ d;cases e;have H:j+1<(DO l).length:=(Hw.1 d).1;rw[TJ]at H;exact⟨g,o+1,ha (by omega),by rw[show o+1+j=o+(j+1) by omega];exact W⟩
section
variable {w:World} {b B:Nat} {P:PD} {Ft:Nat->Prop} {a c m:Nat} {n:Int}
def YH(w:World)(h:Bk w b P Ft)(aI:∀k,Ft k->k<w.heap.size)(hF:Fit P a c m)(hl:CU a c m)(hL:Lets B w):
 Af 96 #[A5 b] w λe w'=>
  (P.a8=none/\e=.returned (.tuple #[.pointer none,A0 7])/\A3 Ab w w')\/
  ∃ix xb v,P.a8=some ix/\e=.returned (.tuple #[A5 xb,A0 0])/\C5 w' xb 162 b AL (AH AL) ix.B8 v/\D7 w' v ix.segs/\(∀g,v.ownBlock=some g->xb<g)/\w.heap.size<=xb/\A3 Ab w w':=by
 have a7:=A1 (Pc w b 3 (by omega) (HH (n:=0) (by omega) (by omega)) hL);have aY:Hid (∀w1,A3 Ab w w1->_):=λw1 hc=>RZ AL (B3.ay h aI hc) (λk hk=>Bq (aI k hk) hc.Ao) hF hl;have aE:(P.a1 AL).1.length<=4294967296:=AR (RS hF AL) hl.m;obtain⟨X,hX⟩:∃X,P.a8=X:=⟨_,rfl⟩;have a9:Hid (indexOf (P.a1 AL)=X):=hX;rw[hX];have bE:BP 3 0=AL:=rfl;rw[show ((3:Nat):Int)=3 from rfl,bE]at a7;generalize hnme:AL=nm at a7 aY a9 aE ⊢;generalize hs0:AH nm=s0 at a7 aY ⊢;obtain⟨⟨L,de⟩,bN⟩:∃x,P.a1 nm=x:=⟨_,rfl⟩;rw[bN]at aY a9 aE;dsimp only at aY aE
 go_enter func96,ntmps96
 go_wp2_with (fail);refine a7.m ?_;rintro e w1⟨rfl,a4⟩;have aF:C5 (w1.aC #[A5 b,.string ⟨nm.toArray⟩,.int .u32 s0,A0 1,.slice none 0 0] 162) w1.heap.size 162 b nm s0 1 (.slice none 0 0):=BO w1 _;have bT:Hid (A3 Ab w (w1.aC #[A5 b,.string ⟨nm.toArray⟩,.int .u32 s0,A0 1,.slice none 0 0] 162)):=a4.ai _;have aO:Hid (w.heap.size<=w1.heap.size):=a4.Ao;have bJ:=A1 (aY.o _ bT.o);have bF:=A1 aF;have g0:=aF.c0;have g1:=aF.c1;have g2:=aF.c2;go_wp2_with (fail);refine bJ.m ?_;rintro e w2⟨rfl,aS⟩;have aN:=A1 (bF.o.aj aS (λh=>h));have aT:Hid (A3 Ab w w2):=bT.o.tr aS;have aH:Hid (w1.heap.size<w2.heap.size):=aN.o.lt;generalize w1.heap.size=xb at *;by_cases h8:de=8
 case pos=>
  subst h8;have z:Hid (X=some ⟨1,[]⟩):=by unfold Hid;rw[<-a9.o];unfold indexOf;rw[Ai rfl]
  go_wp2;go_ret2;exact .inr ⟨⟨1,[]⟩,xb,_,z.o,rfl,aN.o,Dt.bT,λg hg=>by simp[Value.ownBlock]at hg,aO.o,aT.o⟩
 case neg=>
 have h8b:(de==8)=false:=by simpa using h8
 have aR:=A1 (A08 w2 L aE);have aX:Hid ((Ew L).length*8<=L.length):=TH _ _
 have aL:Hid ((if de≠0\/Ew L=[]\/L.length≠(Ew L).length*8 then none else
  if (Ew L).all isNum=false then none else
  if Cz Cj (Ew L).tail then some ⟨(Ew L).headD 0,(Ew L).tail⟩ else none)=X):=by
  rw[<-a9.o];unfold indexOf;rw[Ae h8];rfl
 generalize hns:Ew L=ns at aR aX aL;go_wp2_with (fail);refine aR.m ?_;rintro e w3⟨v,rfl,hv,bP,aJ⟩;have aD:=A1 (aN.o.aj aJ (λh=>h));have aA:Hid (A3 Ab w w3):=aT.o.tr aJ;obtain⟨ap,cp,rfl,hcap1,aP,bB,-⟩:=B9 hv;unfold maxLen at aP;have bS:=A1 hv;have bG:Hid (∀g,(Value.slice ap ns.length cp).ownBlock=some g->w2.heap.size<=g):=bP;have HW3:=A1 aJ.Ao;by_cases E:de≠0\/ns=[]\/L.length≠ns.length*8
 case pos=>
  have z:Hid (X=none):=by unfold Hid;rw[<-aL.o,Ai E]
  by_cases W:de=0
  ·subst W;by_cases aB:ns=[]
   ·subst aB;go_wp2;go_ret2;exact .inl ⟨z.o,rfl,aA.o⟩
   ·have bA:((ns.length:Int)==0)=false:=by
     have:ns.length≠0:=λe=>aB (GY.1 e);simp;omega
    have hd:((L.length:Int)!=wrap64 ((ns.length:Int)*8))=true:=by
     (have:L.length≠ns.length*8:=by rcases E with h|h|h;exact absurd rfl h;exact absurd h aB;exact h);have:=aX.o;(have ew:wrap64 ((ns.length:Int)*8)=(ns.length:Int)*8:=by unfold wrap64;omega);rw[ew];simp;omega
    go_wp2;go_ret2;exact .inl ⟨z.o,rfl,aA.o⟩
  ·(have hb:(de !=0)=true:=by simpa using W);go_wp2;go_ret2;exact .inl ⟨z.o,rfl,aA.o⟩
 case neg=>
  have hz:de=0/\ns≠[]/\L.length=ns.length*8:=⟨A4C λh=>E (.inl h),λh=>E (.inr (.inl h)),A4C λh=>E (.inr (.inr h))⟩;obtain⟨rfl,aB,hd0⟩:=hz;have aW:Hid ((if ns.all isNum=false then none else if Cz Cj ns.tail then some ⟨ns.headD 0,ns.tail⟩ else none)=X):=by rw[<-aL.o,Ae E];rfl
  have H:0<ns.length:=Jf.2 aB;have bA:((ns.length:Int)==0)=false:=by simp;omega
  have hd:((L.length:Int)!=wrap64 ((ns.length:Int)*8))=false:=by
   (have ew:wrap64 ((ns.length:Int)*8)=(ns.length:Int)*8:=by unfold wrap64;omega);rw[ew];simp;omega
  obtain⟨g,rfl⟩:=bB H;have bL:Hid (ns.length<=1099511627776):=by unfold Hid;omega
  go_wp2;go_loopw [44] (λiv wr=>∃k:Nat,iv=A0 k/\k<=ns.length/\wr=w3/\Hid ((ns.take k).all isNum=true)) (λiv _=>ns.length-(intOf iv).toNat)
  case atStart=>exact⟨0,rfl,by omega,rfl,by unfold Hid;rfl⟩
  case round=>
   obtain⟨k,rfl,hk,rfl,hI⟩:=hrel;by_cases O:k<ns.length
   ·have d:A7 wr g k (A0 (ns[k]'O)):=BF bS.o rfl (OX ns k O);have a1:ns.take (k+1)=ns.take k++[ns[k]'O]:=DB O;have aG:(ns[k]'O)∈ns:=BY O;generalize I:(ns[k]'O)=x at d a1 aG;have a8:=A1 (TF wr x);(have bH:(k:Int)<(ns.length:Int):=by omega);have hk0:=C2 k;have bD:=A1 a1;have aV:=A1 aG;by_cases hn:isNum x=true
    ·(have bM:Hid ((ns.take (k+1)).all isNum=true):=by unfold Hid;rw[bD.o,List.all_append,hI.o];simp[hn]);rw[hn]at a8;go_wp2_with (go_at_call 128;refine a8.m ?_;rintro e w4⟨rfl,rfl⟩);go_roundw
     case rel=>exact⟨k+1,by go_num,by omega,trivial,bM.o⟩
     case measure=>simp[intOf];omega
    ·(have bI:isNum x=false:=by simpa using hn);have z:Hid (X=none):=by
      unfold Hid;rw[<-aW.o,Ai];have:¬ns.all isNum=true:=λh=>hn (Nn.1 h x aV.o);simpa using this
     rw[bI]at a8;go_wp2_with (go_at_call 128;refine a8.m ?_;rintro e w4⟨rfl,rfl⟩);go_ret2;exact .inl ⟨z.o,rfl,aA.o⟩
   ·(obtain rfl:k=ns.length:=by omega);(have hall:ns.all isNum=true:=by have:=hI.o;rwa [Cl]at this);(have aK:Hid ((if Cz Cj ns.tail then some (Ix.mk (ns.headD 0) ns.tail) else none)=X):=by have:=aW.o;rwa [Ae (by simp[hall])]at this);have d:A7 wr.drew g 0 (A0 (ns.headD 0)):=by
     have W:=OX ns 0 H;have:(ns[0]'H)=ns.headD 0:=by cases ns with
      | nil=>simp at H
      | cons x r=>rfl
     rw[this]at W;exact BF bS.o rfl W
    (have bH:¬((ns.length:Int)<(ns.length:Int)):=by omega);have f3:=aD.o.af.fz 3;have f4:=aD.o.af.fz 4;have g3:=aD.o.af.c3;have g4:=aD.o.af.c4;generalize hh0:ns.headD 0=W at d aK;(have hn1:(1:Int)<=(ns.length:Int):=by omega);obtain⟨a',aQ⟩:∃a':Option Addr,(if cp=1 then some ((Ac g 0):Addr) else some (Ac g 1))=a':=⟨_,rfl⟩;have bV:=A1 (D7.fi (DD.rd bS.o) H a' (λh=>by rw[<-aQ,Ae (by omega)]) (λx I=>by rw[<-aQ]at I;split at I<;>cases I<;>rfl));(have bR:∀x,a'=some x->x.block=g:=λx I=>by rw[<-aQ]at I;split at I<;>cases I<;>rfl);have bC:∀g',(Value.slice a' (ns.length-1) (cp-1)).ownBlock=some g'->g'=g:=λg' hg=>by
     unfold Value.ownBlock at hg;cases I:a' with
     | none=>rw[I]at hg;simp at hg
     | some y=>rw[I]at hg;have:=bR y I;simp at hg;omega
    have aU:=A1 bC;have aM:Hid (w2.heap.size<=g):=bG.o g rfl;have bQ:C5 (wr.setCell (Ac xb 3) (A0 W)).drew xb 162 b nm s0 W (.slice none 0 0):=(aD.o.s3 W).af;have k9:A3 (One xb) wr (wr.setCell (Ac xb 3) (A0 W)).drew:=((A3.I (One xb) wr).aq (b:=xb) rfl 3 _).af;have Y:(wr.setCell (Ac xb 3) (A0 W)).drew.cell? (Ac g 0)=some (A0 W):=k9.bH d (λh=>by have h':g=xb:=h;have:=aM.o;have:=aH.o;omega);have a6:=A1 bQ;have bU:=A1 k9;go_wp2;refine BR (λw'=>A7 w' g 0 (A0 W)) 10
     (Br [0,1,2,3,4,5,6,7,8,9] [9]) d ?_
    iterate 9 (refine Bf ?_;(try simp only[An]))
    refine Bn λK hK=>?_;go_simp;refine hK _ _ Y (λhS=>?_)
    (try simp only[An])
    refine Bl ?_;simp only[BK,BJ];generalize (wr.setCell (Ac xb 3) (A0 W)).drew=w9 at a6 bU Y ⊢;have f94:=a6.o.fz 4;have g94:=a6.o.c4;have a2:=A1 (a6.o.s4 (.slice a' (ns.length-1) (cp-1)));have c104:=a2.o.c4;have a0:A3 (One xb) wr (w9.setCell (Ac xb 4) (.slice a' (ns.length-1) (cp-1))):=bU.o.aq rfl 4 _;(have aZ:Hid (A3 Ab w (w9.setCell (Ac xb 4) (.slice a' (ns.length-1) (cp-1)))):=aA.o.Aw a0 λx I aI=>by have bK:x=xb:=I;have:=aO.o;omega);have a3:Hid (D7 (w9.setCell (Ac xb 4) (.slice a' (ns.length-1) (cp-1))) (.slice a' (ns.length-1) (cp-1)) ns.tail):=Dt.Ak bV.o a0 λg' hg I=>by
     have bK:g'=xb:=I;have:=aU.o g' hg;have:=aM.o;have:=aH.o;omega
    have a5:=A1 (Y8 _ _ _ a3.o (by rw[List.length_tail];have:=bL.o;omega));by_cases hr:Cz Cj ns.tail=true
    ·rw[hr]at a5;(have z:Hid (X=some ⟨W,ns.tail⟩):=by unfold Hid;rw[<-aK.o,Ai hr]);go_wp2_with (go_at_call 129;refine a5.m ?_;rintro e w5⟨rfl,nn,rfl⟩);go_ret2;have kk:=(A3.I Ab (w9.setCell (Ac xb 4) (.slice a' (ns.length-1) (cp-1)))).ba nn;exact .inr ⟨_,xb,_,z.o,rfl,a2.o.aj kk (λh=>h),Dt.Ak a3.o kk (λ_ _ h=>h),λg' hg=>by have:=aU.o g' hg;have:=aM.o;have:=aH.o;omega,aO.o,aZ.o.tr kk⟩
    ·(have bO:Cz Cj ns.tail=false:=by simpa using hr);rw[bO]at a5;(have z:Hid (X=none):=by unfold Hid;rw[<-aK.o,Ae hr]);go_wp2_with (go_at_call 129;refine a5.m ?_;rintro e w5⟨rfl,nn,rfl⟩);go_ret2;exact .inl ⟨z.o,rfl,aZ.o.ba nn⟩
end
def A29{B b:Nat}{l:List UInt8}(w:World)(h:GJ B b l w)(d:B<=w.heap.size):
 Calls Tryz.prog 197 #[.pointer (some ⟨b,0,none⟩)] w λe w'=>e=.returned (.string ⟨l.toArray⟩)/\Below B w w'/\∀k o,w.heap[k]?=some o->k≠b->(∀c fz,o≠.cells c 5 fz)->w'.heap[k]?=some o:=by
 refine(Any.Builder_String_any_k Tryz.lays169 Tryz.Builder_Extra_169 B b l w (h.imp Lib.BuilderAtF.of Lib.BuilderAtF.of) d).mono ?_;rintro e w'⟨I,_,z,O⟩;exact⟨I,z,λk o H E L=>O k o H (λe=>E (by simpa using e)) L⟩
def Bd.s1{w:World}{d:Nat}{T:TypeId}{p:Value}{name:ByteArray}{s:Nat}(h:Bd w d T p name s)(nm:ByteArray):Bd (w.setCell (Ac d 1) (.string nm)) d T p nm s:=Ct h
def A3.fo{Ft:Nat->Prop}{x:Nat}{w d z:World}(h:A3 Ft w d)(k:A3 (One x) d z):A3 (λk=>Ft k\/k=x) w z:=
 (h.aa λ_ _ h=>.inl h).Aw k λ_ h _=>.inr h
def Bd.af{w:World}{d:Nat}{T:TypeId}{p:Value}{name:ByteArray}{s:Nat}(h:Bd w d T p name s):Bd w.drew d T p name s:=by unfold Bd at h ⊢;exact h
section
variable {w:World} {b B xb:Nat} {P:PD} {Ft:Nat->Prop} {a c m:Nat} {n:Int}
def Yf(h:Bk w b P Ft)(old nm:ByteArray)(E:Fit P a c m)(z:CU a c m):
 Af 242 #[A5 b,.string old,.string nm] w (Aj (A0 (P.aO old nm).1) λw'=>Aq w Ft w' (λw' d=>Bk w' b (P.aO old nm).2 d)):=
 Ye h old nm (by have:=E.A4;have:=E.Ak;have:=z.a;have:=z.c;omega)
def P8(d:Int)(segs:List Int):(Ci d segs).length=8+8*segs.length:=by
 unfold Ci;rw[B1,CP]
 congr 1
 induction segs with
 | nil=>rfl
 | cons x r ih=>simp only[Nj,B1,ih,CP,Cx];omega
def Fit.aI{P:PD}{a c m:Nat}(h:Fit P a c m)(nm:Bs)(s:Nat)(l:Bs):Fit (P.aI nm s l).2 (a+1) (c+1) (m+l.length+4):=by
 have z:=h.ak (A9 nm);have E:(AT s l).length=l.length+4:=by simp[AT,Hh]
 have d:=z.an (A9 nm) (AT s l);rw[E]at d;unfold PD.aI;split
 ·exact z.aa (As _) (As _) (by omega)
 ·split
  ·exact d.aa (As _) (As _) (by omega)
  ·exact(d.ae (A9 nm)).aa (As _) (As _) (by omega)
def Fit.en{P:PD}{a c m:Nat}(h:Fit P a c m)(d:Int)(segs:List Int):Fit (P.ag d segs).2 (a+2) (c+2) (m+12+8*segs.length):=by
 have z:=h.aI Bo (AH AL) (Ci d segs);rw[P8]at z;unfold PD.ag;split
 ·exact z.aa (by omega) (by omega) (by omega)
 ·exact(z.aO (A9 Bo) (A9 AL)).aa (by omega) (by omega) (by omega)
def WG(w:World)(d f0:Int)(sv v0:Value)(segs:List Int)(hX:C5 w xb 162 b AL (AH AL) f0 v0)(h:Bk w b P Ft)(I:∀k,Ft k->k<w.heap.size)(hn:¬Ft xb)(hF:Fit P a c m)(hl:CU (a+2) (c+2) (m+12+8*segs.length))(hL:Lets B w)(hs:D7 w sv segs)(hf:AE d)(bL:∀x∈segs,AE x)(hsl:segs.length<=134217728):
 Af 200 #[A5 xb,A0 d,sv] w λe w'=>
  e=.returned (A0 (P.ag d segs).1)/\C5 w' xb 162 b AL (AH AL) (if (P.ag d segs).1=0 then d else f0) (if (P.ag d segs).1=0 then sv else v0)/\Jm w Ft xb w' b (P.ag d segs).2:=by
 have aE:=hX.lt;have bE:BP 4 0=Bo:=rfl;have b6:Hid (∀w1,A3 Ab w w1->Af 134 #[A0 4,A0 0] w1 (Aj (.string ⟨Bo.toArray⟩) λw'=>A3 Ab w1 w')):=λw1 hc=>by
  have:=Mm (n:=0) w1 4 (by omega) (by omega) (by decide +kernel) (hL.aM hc);rw[show ((4:Nat):Int)=4 from rfl,bE]at this;exact this
 have hi:=P8 d segs;have bG:CU (a+1) (c+1) m:=⟨by have:=hl.a;omega,by have:=hl.c;omega,by have:=hl.m;omega⟩;have aO:Hid (∀w1,A3 Ab w w1->_):=λw1 hc=>Qk Bo (Ci d segs) (Jt AL) (B3.ay h I hc) (λk hk=>Bq (I k hk) hc.Ao) (by rw[hi];omega) hF bG;have aV:Hid (∀w1 L,Bk w1 b (P.aI Bo (AH AL) (Ci d segs)).2 L->_):=λw1 L h1=>Yf h1 (A9 Bo) (A9 AL) (hF.aI _ _ _) ⟨by have:=hl.a;omega,by have:=hl.c;omega,by rw[hi];have:=hl.m;omega⟩;have aN:Hid (P.ag d segs=if (P.aI Bo (AH AL) (Ci d segs)).1≠0 then P.aI Bo (AH AL) (Ci d segs) else (P.aI Bo (AH AL) (Ci d segs)).2.aO (A9 Bo) (A9 AL)):=rfl;obtain⟨R,hR⟩:∃R,P.ag d segs=R:=⟨_,rfl⟩;rw[hR]at aN ⊢;have cS:Hid (∀wx x,AE x->_):=λwx x H=>L7 wx x H;have aB:Ci d segs=AS d++segs.flatMap AS:=rfl;obtain⟨dn,bB⟩:∃dn,Bo=dn:=⟨_,rfl⟩;obtain⟨nm,aY⟩:∃nm,AL=nm:=⟨_,rfl⟩;rw[aY]at hX aO aV aN ⊢;rw[bB]at b6 aO aV aN;obtain⟨s0,bM⟩:∃s0,AH nm=s0:=⟨_,rfl⟩;rw[bM]at hX aO aV aN ⊢;obtain⟨W,hW⟩:∃W,P.aI dn s0 (Ci d segs)=W:=⟨_,rfl⟩;rw[hW]at aO aV aN;obtain⟨Q,hQ⟩:∃Q,W.2.aO (A9 dn) (A9 nm)=Q:=⟨_,rfl⟩;rw[hQ]at aV aN;obtain⟨il,b1⟩:∃il,Ci d segs=il:=⟨_,rfl⟩;rw[b1]at aO aB hi;have bK:=A1 aB;have dG:=A1 hi;obtain⟨pa,aA,rfl,hcap1,a6⟩:=hs.Cg;unfold maxLen at a6;have dF:=A1 hs;have bI:=A1 I;have cE:=A1 hn;have cX:=A1 hX;have HFI:=A1 hf;have cG:=A1 bL;have bA:=A1 aE;have cZ:=A1 (UJ w);have cV:Hid (A3 Ab w (w.aC #[.pointer none,.slice none 0 0] 260)):=(A3.I _ w).ai _;have bU:=A1 (cS.o (w.aC #[.pointer none,.slice none 0 0] 260) d hf);clear hR bE aB aY bB bM hW hQ b1 hi bG h I hn hF hl hL hs hX hf bL aE
 go_enter func200,ntmps200
 go_wp2_with (fail);refine bU.m ?_;rintro e w1⟨rfl,aU⟩;have bD:Hid (GJ w.heap.size w.heap.size [] w1):=cZ.o.aj aU (λ_ h=>h.elim);have cD:Hid (A3 Ab w w1):=cV.o.tr aU;have cP:Hid (w.heap.size<w1.heap.size):=Bq (by simp) aU.Ao;have bF:=A1 (Nx (t:=AS d) w1 bD.o (by rw[CP];simp) cD.o.Ao);clear aU bU cZ cV;go_wp2_with (fail);refine bF.m ?_;rintro e w2⟨rfl,aJ,a0⟩;have bR:Hid (GJ w.heap.size w.heap.size (AS d) w2):=aJ;have dH:Hid (A3 Ab w w2):=cD.o.Aw (A3.cd a0) λx H I=>by omega
 have cY:Hid (w.heap.size<w2.heap.size):=Bq cP.o a0.size;clear aJ a0 bF bD cD cP;go_wp2;obtain⟨bb,aZ⟩:∃bb,w.heap.size=bb:=⟨_,rfl⟩;rw[aZ]at bR cY ⊢;have bX:=A1 aZ;clear aZ;go_loopw [18] (λiv wr=>∃k:Nat,iv=A0 k/\k<=segs.length/\Hid (GJ bb bb (AS d++(segs.take k).flatMap AS) wr/\A3 Ab w wr/\bb<wr.heap.size)) (λiv _=>segs.length-(intOf iv).toNat)
 case atStart=>exact⟨0,rfl,by omega,by simpa using bR.o,dH.o,cY.o⟩
 case round=>
  obtain⟨k,rfl,hk,hI⟩:=hrel;by_cases aK:k<segs.length
  ·obtain⟨i1,i2,i3⟩:=hI.o;obtain⟨g,o,rfl,c1⟩:=D7.at dF.o k aK;have H:=cG.o _ (BY aK);have a2:segs.take (k+1)=segs.take k++[segs[k]'aK]:=DB aK;obtain⟨x,bJ⟩:∃x,(segs[k]'aK)=x:=⟨_,rfl⟩;rw[bJ]at c1 H a2;have d1:=i2.ao c1;have a4:=A1 (cS.o wr x H);(have a9:Hid ((segs.take (k+1)).flatMap AS=(segs.take k).flatMap AS++AS x):=by unfold Hid;rw[a2];simp);have bC:(AS d++(segs.take k).flatMap AS).length<=8+8*segs.length:=by
    have:=P8 d (segs.take k);unfold Ci at this;rw[this,BW];omega
   obtain⟨pk,a5⟩:∃pk,AS d++(segs.take k).flatMap AS=pk:=⟨_,rfl⟩;(have aX:Hid (AS d++(segs.take (k+1)).flatMap AS=pk++AS x):=by unfold Hid;rw[a9.o,<-Cc,a5]);rw[a5]at i1 bC;have aE:=CP x;obtain⟨ib,aB⟩:∃ib,AS x=ib:=⟨_,rfl⟩;rw[aB]at a4 aX aE;have cA:=A1 i1;have bY:=A1 i2;have bQ:=A1 i3;have cM:Hid (∀w6,A3 Ab wr w6->_):=λw6 h6=>Nx (t:=ib) w6 (cA.o.aj h6 (λ_ h=>h.elim)) (by omega) (AR (EL bQ.o) h6.Ao);(have b9:(k:Int)<(segs.length:Int):=by omega);have hk0:=C2 k;clear i1 i2 i3 hI c1 bJ a2 a5 aB H bC aE a9;go_wp2_with (fail);refine a4.m ?_;rintro e w6⟨rfl,a1⟩;have cQ:=A1 a1;have cB:=A1 (cM.o w6 a1);clear a1 a4 cM;go_wp2_with (go_at_call 194;refine cB.m ?_;rintro e w7⟨rfl,aJ,b2⟩;have b8:=A1 aJ;have bS:=A1 b2;clear aJ b2);go_roundw
   case rel=>
    have c7:A3 (λk=>bb<=k) w6 w7:=A3.cd bS.o;refine⟨k+1,by go_num,by omega,by rw[aX.o];exact b8.o,?_,?_⟩
    ·exact(bY.o.tr cQ.o).Aw c7 λx H I=>by have:=bX.o;omega
    ·exact Bq bQ.o (AR cQ.o.Ao bS.o.size)
   case measure=>simp[intOf];omega
  ·obtain⟨i1,i2,i3⟩:=hI.o;(obtain rfl:k=segs.length:=by omega);rw[Cl,<-bK.o]at i1;(have b9:¬((segs.length:Int)<(segs.length:Int)):=by omega);have fx:=cX.o.aj i2 (λh=>h);have g0:=fx.c0;have g1:=fx.c1;have g2:=fx.c2;have bV:Bd (wr.aC #[A5 b,.string (A9 nm),.int .u32 s0] 160) wr.heap.size 160 (A5 b) (A9 nm) s0:=BO wr _;have ka:A3 Ab wr (wr.aC #[A5 b,.string (A9 nm),.int .u32 s0] 160):=(A3.I _ wr).ai _;have bN:=A1 (b6.o _ (i2.tr ka));have cU:=A1 ka;have cO:=A1 bV;have cA:=A1 i1;have bY:=A1 i2;have bQ:=A1 i3;have FX:=A1 fx;clear i1 i2 i3 ka bV b6 hI fx;go_wp2_with (fail);refine bN.m ?_;rintro e w5⟨rfl,a3⟩;have aT:=cO.o.aj a3 (λh=>h);have cT:A3 Ab wr w5:=cU.o.tr a3;have b7:=aT.c1;have bZ:=aT.fz 1;have aH:=A1 (aT.s1 ⟨dn.toArray⟩);have b5:Hid (A3 Ab wr (w5.setCell (Ac wr.heap.size 1) (.string ⟨dn.toArray⟩))):=cT.bq (p:=(Ac wr.heap.size 1)) (λh=>by have h':wr.heap.size<wr.heap.size:=h;omega) _;clear a3 aT cT bN cO cU;generalize bH:wr.heap.size=db at *;have aQ:=A1 bH;clear bH;go_wp2;generalize w5.setCell (Ac db 1) (.string ⟨dn.toArray⟩)=w6 at aH b5 ⊢;have cJ:Hid (GJ bb bb il w6.drew):=cA.o.aj b5.o.af (λ_ h=>h.elim);have b4:=A1 (A29 w6.drew cJ.o (by have:=bQ.o;have:=aQ.o;have:=b5.o.Ao;show bb<=w6.heap.size;omega));have aS:Hid (∀wx,Below bb w6.drew wx->(∀k o,w6.drew.heap[k]?=some o->k≠bb->(∀c fz,o≠.cells c 5 fz)->wx.heap[k]?=some o)->Bd wx db 160 (A5 b) ⟨dn.toArray⟩ s0/\A3 Ab w wx):=λwx H ho=>
    ⟨ho db _ aH.o.af (by have:=bQ.o;have:=aQ.o;omega) (λc fz e=>by cases e),(bY.o.tr b5.o.af).Aw (A3.cd H) λx H I=>by have:=bX.o;omega⟩
   have bT:Hid (∀wx,Bd wx db 160 (A5 b) ⟨dn.toArray⟩ s0->A3 Ab w wx->∀wy,Aq wx Ft wy (λw' z=>Bk w' b W.2 z)->Bd wy db 160 (A5 b) ⟨dn.toArray⟩ s0/\C5 wy xb 162 b nm s0 f0 v0/\Aq w Ft wy (λw' z=>Bk w' b W.2 z)):=λwx hf H wy hy=>
    ⟨hf.aj hy.1 (λh=>by have:=bI.o _ h;have:=bY.o.Ao;have:=aQ.o;omega),(cX.o.aj H (λh=>h)).aj hy.1 cE.o,hy.a6 H⟩
   have e0:=aH.o.af.c0;have e1:=aH.o.af.c1;have e2:=aH.o.af.c2;obtain⟨cH,dC⟩:=W;dsimp only at aO aV bT aN;clear b7 bZ g0 g1 g2 dG bK;by_cases hw:cH=0
   case neg=>
    (have a8:R=(cH,dC):=by rw[aN.o,Ai hw]);subst a8;(have hwb:(cH !=0)=true:=by simpa using hw);refine BR (λw'=>A7 w' db 0 (A5 b)/\A7 w' db 1 (.string ⟨dn.toArray⟩)/\A7 w' db 2 (.int .u32 s0)) 3
     [(0,true),(1,false),(2,false)] ⟨e0,e1,e2⟩ ?_
    (refine Bf ?_;(try simp only[Act.put,Vh,Vg,Vf,Ve,Vd]))
    refine Bn λK O=>?_;go_simp;refine b4.m ?_;rintro e w9⟨rfl,aF,aI⟩;obtain⟨E,Y⟩:=aS.o w9 aF aI;refine O _ _ ⟨E.c0,E.c1,E.c2⟩ (λhS=>?_);have aG:=A1 (aO.o w9 Y);have aM:=A1 (bT.o w9 E Y);clear O K hS aF aI E Y b4 aS aO bT
    (try simp only[An])
    refine Bn λK O=>?_;go_simp;refine aG.m ?_;rintro e aD⟨rfl,hI⟩;obtain⟨E,Y,q3⟩:=aM.o aD hI;refine O _ _ ⟨E.c0,E.c1,E.c2⟩ (λhS=>?_);have dJ:=A1 Y;have dA:=A1 q3;clear O K hS hI aG aM E Y q3
    (try simp only[An])
    refine Bl ?_;simp only[BK,BJ];go_wp2;go_ret;dsimp only
    obtain⟨r1,z,r2,r3,r4⟩:=dA.o;exact⟨rfl,dJ.o,r1.aa λ_ _ h=>.inl h,z,r2,r3,r4⟩
   case pos=>
    subst hw;(have a8:R=Q:=by rw[aN.o,Ae (by simp)]);subst a8;clear aN;refine BR (λw'=>A7 w' db 0 (A5 b)/\A7 w' db 1 (.string ⟨dn.toArray⟩)/\A7 w' db 2 (.int .u32 s0)) 3
     [(0,true),(1,false),(2,false)] ⟨e0,e1,e2⟩ ?_
    (refine Bf ?_;(try simp only[Act.put,Vh,Vg,Vf,Ve,Vd]))
    refine Bn λK O=>?_;go_simp;refine b4.m ?_;rintro e w9⟨rfl,aF,aI⟩;obtain⟨E,Y⟩:=aS.o w9 aF aI;refine O _ _ ⟨E.c0,E.c1,E.c2⟩ (λhS=>?_);have aG:=A1 (aO.o w9 Y);have aM:=A1 (bT.o w9 E Y);have b0:=A1 E;have b3:=A1 Y;clear O K hS aF aI E Y b4 aS aO bT
    (try simp only[An])
    refine Bn λK O=>?_;go_simp;refine aG.m ?_;rintro e aD⟨rfl,hI⟩;obtain⟨E,Y,q3⟩:=aM.o aD hI;refine O _ _ ⟨E.c0,E.c1,E.c2⟩ (λhS=>?_);obtain⟨r1,-⟩:=q3;obtain⟨-,L,r2,r3,r5⟩:=hI;have dD:=A1 b0.o.lt;have dI:=A1 b3.o.Ao;have cL:Hid (∀k,L k->Ft k\/w.heap.size<=k):=λk hk=>(r5 k hk).imp id λh=>AR dI.o h
    have cN:=A1 r1;have aL:=A1 (aV.o aD.drew L (B3.ay r2 r3 (A3.I _ aD).af));have x0:=Y.af.c0;have x1:=Y.af.c1;have x2:=E.af.c1;(have cF:Hid (¬L xb):=λh=>by rcases cL.o _ h with h|h;exact cE.o h;have:=bA.o;omega);have cC:Hid (¬L db):=λh=>by
     rcases r5 _ h with h|h
     ·have:=bI.o _ h;have:=bY.o.Ao;have:=aQ.o;omega
     ·have:=dD.o;omega
    have bW:Hid (∀wz,Aq aD.drew L wz (λw' z=>Bk w' b R.2 z)->(C5 wz xb 162 b nm s0 f0 v0/\Bd wz db 160 (A5 b) ⟨dn.toArray⟩ s0)/\Aq w Ft wz (λw' z=>Bk w' b R.2 z)):=λwz hz=>
     ⟨⟨Y.af.aj hz.1 cF.o,E.af.aj hz.1 cC.o⟩,by
      obtain⟨z1,aP,z2,z3,z4⟩:=hz
      exact⟨(cN.o.af).Aw z1 λx H I=>(cL.o x H).resolve_right (by omega),aP,z2,z3,λk hk=>(z4 k hk).elim (λh=>cL.o k h) λh=>.inr (AR cN.o.Ao h)⟩⟩
    clear O K hS aG aM E Y r1 r2 r3 r5 aV b0 b3
    (try simp only[An])
    refine Bl ?_;simp only[BK,BJ];obtain⟨bO,a7⟩:=R;dsimp only at aL bW;have aW:Hid (∀wz,C5 wz xb 162 b nm s0 f0 v0->Aq w Ft wz (λw' z=>Bk w' b a7 z)->C5 ((wz.setCell (Ac xb 3) (A0 d)).setCell (Ac xb 4) (.slice pa segs.length aA)) xb 162 b nm s0 d (.slice pa segs.length aA)/\Jm w Ft xb ((wz.setCell (Ac xb 3) (A0 d)).setCell (Ac xb 4) (.slice pa segs.length aA)) b ⟨a7.D,a7.F⟩):=λwz H hz=>by
     obtain⟨z1,aP,z2,z3,z4⟩:=hz;have kz:A3 (One xb) wz ((wz.setCell (Ac xb 3) (A0 d)).setCell (Ac xb 4) (.slice pa segs.length aA)):=((A3.I (One xb) wz).aq (b:=xb) rfl 3 _).aq rfl 4 _;(have cI:¬aP xb:=λh=>by rcases z4 _ h with h|h;exact cE.o h;have:=bA.o;omega);exact⟨(H.s3 d).s4 _,z1.fo kz,aP,B3.aP z2 (kz.ay z3 λk hk e=>by have e':k=xb:=e;subst e';exact cI hk),λk hk=>Bq (z3 k hk) kz.Ao,z4⟩
    by_cases hr:bO=0
    case neg=>
     (have hrb:(bO !=0)=true:=by simpa using hr);go_wp2;refine BR (λw'=>A7 w' xb 0 (A5 b)/\A7 w' xb 1 (.string ⟨nm.toArray⟩)/\A7 w' db 1 (.string ⟨dn.toArray⟩)) 13
      (Br [0,1,2,3,4,5,6,7,8,9,10,11,12] [12]) ⟨x0,x1,x2⟩ ?_
     iterate 12 (refine Bf ?_;(try simp only[An]))
     refine Bn λK O=>?_;go_simp;refine aL.m ?_;rintro e aR⟨rfl,hI⟩;obtain⟨⟨y1,y2⟩,y3⟩:=bW.o aR hI;refine O _ _ ⟨y1.c0,y1.c1,y2.c1⟩ (λhS=>?_);have dB:=A1 y1;have dE:=A1 y3;clear O K hS hI aL bW y1 y2 y3
     (try simp only[An])
     refine Bl ?_;simp only[BK,BJ];go_wp2;go_ret;dsimp only
     obtain⟨r1,z,r2,r3,r4⟩:=dE.o;exact⟨rfl,dB.o,r1.aa λ_ _ h=>.inl h,z,r2,r3,r4⟩
    case pos=>
     subst hr;go_wp2;refine BR (λw'=>A7 w' xb 0 (A5 b)/\A7 w' xb 1 (.string ⟨nm.toArray⟩)/\A7 w' db 1 (.string ⟨dn.toArray⟩)) 13
      (Br [0,1,2,3,4,5,6,7,8,9,10,11,12] [12]) ⟨x0,x1,x2⟩ ?_
     iterate 12 (refine Bf ?_;(try simp only[An]))
     refine Bn λK O=>?_;go_simp;refine aL.m ?_;rintro e aR⟨rfl,hI⟩;obtain⟨⟨y1,y2⟩,y3⟩:=bW.o aR hI;refine O _ _ ⟨y1.c0,y1.c1,y2.c1⟩ (λhS=>?_);have bP:=A1 (aW.o aR y1 y3);have g3:=y1.c3;have z3:=y1.fz 3;have g4:=(y1.s3 d).c4;have z4:=(y1.s3 d).fz 4;clear O K hS hI aL bW y1 y2 y3 aW
     (try simp only[An])
     refine Bl ?_;simp only[BK,BJ];go_wp2;go_ret;exact⟨rfl,bP.o.1,bP.o.2⟩
end
end
section
open Go.RowKit
def CK(w:World)(jb b:Nat)(lv:Value)(last puts:Int)(ov:Value):Prop:=w.heap[jb]?=some (.cells #[.pointer (some ⟨b,0,none⟩),lv,.int .i64 last,.int .i64 puts,ov] 208 (0,0))
section
variable {w w':World} {jb b:Nat} {lv ov:Value} {last puts:Int}
def CK.c0(h:CK w jb b lv last puts ov):A7 w jb 0 (A5 b):=by unfold CK at h;simp[A7,World.cell?,h]
def CK.c1(h:CK w jb b lv last puts ov):A7 w jb 1 lv:=by unfold CK at h;simp[A7,World.cell?,h]
def CK.c2(h:CK w jb b lv last puts ov):A7 w jb 2 (A0 last):=by unfold CK at h;simp[A7,World.cell?,h]
def CK.c3(h:CK w jb b lv last puts ov):A7 w jb 3 (A0 puts):=by unfold CK at h;simp[A7,World.cell?,h]
def CK.c4(h:CK w jb b lv last puts ov):A7 w jb 4 ov:=by unfold CK at h;simp[A7,World.cell?,h]
def CK.fz(h:CK w jb b lv last puts ov)(o:Nat):w.frozen? (Ac jb o)=false:=by unfold CK at h;simp[World.frozen?,h]
def CK.lt(h:CK w jb b lv last puts ov):jb<w.heap.size:=Bz h
def CK.s1(h:CK w jb b lv last puts ov)(x:Value):CK (w.setCell (Ac jb 1) x) jb b x last puts ov:=Ct h
def CK.s2(h:CK w jb b lv last puts ov)(x:Int):CK (w.setCell (Ac jb 2) (A0 x)) jb b lv x puts ov:=Ct h
def CK.s3(h:CK w jb b lv last puts ov)(x:Int):CK (w.setCell (Ac jb 3) (A0 x)) jb b lv last x ov:=Ct h
def CK.s4(h:CK w jb b lv last puts ov)(x:Value):CK (w.setCell (Ac jb 4) x) jb b lv last puts x:=Ct h
def CK.af(h:CK w jb b lv last puts ov):CK w.drew jb b lv last puts ov:=by unfold CK at h ⊢;exact h
def CK.aj{S:Nat->Prop}(h:CK w jb b lv last puts ov)(d:A3 S w w')(z:¬S jb):CK w' jb b lv last puts ov:=d.aj h z
end
structure DC (w:World) (jb b:Nat) (lv ov:Value) (J:Jn):Prop where
 Ag:CK w jb b lv J.Aa J.puts ov
 Am:DD w lv J.Am
 AB:(J.AB=none/\ov=.pointer none)\/∃n s lb,J.AB=some (n,s)/\ov=.pointer (some ⟨lb,0,none⟩)/\Bd w lb 237 (.pointer (some ⟨b,0,none⟩)) ⟨(Ah n).toArray⟩ s/\s<4294967296
def Dj(jb:Nat)(lv ov:Value)(k:Nat):Prop:=k=jb\/lv.ownBlock=some k\/ov=.pointer (some ⟨k,0,none⟩)
section
variable {w w':World} {jb b:Nat} {lv ov:Value} {J:Jn}
def DC.aP(h:DC w jb b lv ov J)(z:G4 (Dj jb lv ov) w w'):DC w' jb b lv ov J:=by
 refine⟨(z jb (.inl rfl)).trans h.Ag,Az h.Am λg L=>z g (.inr (.inl L)),?_⟩;rcases h.AB with d|⟨n,s,E,d,rfl,I,H⟩
 ·exact .inl d
 ·exact .inr ⟨n,s,E,d,rfl,(z E (.inr (.inr rfl))).trans I,H⟩
def DC.lt(h:DC w jb b lv ov J){k:Nat}(d:Dj jb lv ov k):k<w.heap.size:=by
 rcases d with rfl|d|rfl
 ·exact h.Ag.lt
 ·exact AI h.Am d
 ·rcases h.AB with⟨_,z⟩|⟨n,s,lb,_,z,E,_⟩
  ·cases z
  ·cases z;exact E.lt
def DC.Ak{S:Nat->Prop}(h:DC w jb b lv ov J)(z:A3 S w w')(E:∀k,Dj jb lv ov k->¬S k):DC w' jb b lv ov J:=
 h.aP (z.ay (λ_ d=>h.lt d) E)
def DC.au(h:DC w jb b lv ov J)(d:A3 Ab w w'):DC w' jb b lv ov J:=h.Ak d λ_ _ h=>h
end
def Pb(l:List Int)(j:Nat)(d:j<l.length):l.getD j 0=l[j]'d:=by simp[List.getD,d]
def A1U(w:World)(W v2:Value)(d h:List Int)(L:D7 w W d)(I:D7 w v2 h):
 Af 241 #[W,v2] w (Aj (.bool (decide (d=h))) λw'=>∃q,w'=w.drewN q):=by
 obtain⟨a1,c1,rfl,p1,p2⟩:=L.Cg;obtain⟨a2,c2,rfl,q1,q2⟩:=I.Cg;unfold maxLen at p2 q2;by_cases Y:d.length=h.length
 case neg=>
  have H:¬d=h:=λe=>Y (by rw[e]);refine(Tryz.slices_Equal_int_lens a1 a2 _ c1 _ c2 w Y).mono ?_;rintro e w'⟨rfl,rfl⟩;exact⟨by rw[D2 H],0,rfl⟩
 case pos=>
 by_cases h0:d.length=0
 ·have e1:d=[]:=GY.1 h0;have e2:h=[]:=GY.1 (by omega);subst e1;subst e2;refine(Tryz.slices_Equal_int_empty a1 a2 c1 0 c2 w (by omega)).mono ?_;rintro e w'⟨rfl,rfl⟩;exact⟨by simp,0,rfl⟩
 ·obtain⟨g1,o1,rfl,-⟩:=D7.at L 0 (by omega);obtain⟨g2,o2,rfl,-⟩:=D7.at I 0 (by omega);refine(Tryz.slices_Equal_int g1 o1 _ c1 g2 o2 _ c2 d h w (As _) (As _) (by omega) (by omega) (λj z=>?_) (λj z=>?_)).mono ?_
  ·obtain⟨g,o,e,O⟩:=D7.at L j z;cases e;rw[Pb d j z];exact O
  ·obtain⟨g,o,e,O⟩:=D7.at I j z;cases e;rw[Pb h j z];exact O
  rintro e w'⟨rfl,q,rfl⟩;refine⟨?_,q,rfl⟩;rw[Cl,Cl];by_cases E:d=h
  ·rw[CE E,E];simp
  ·rw[D2 E,Ea.2 E]
def RU:∀(k s:Nat) (l:Bs),(DE k s l).1.length*21<=l.length
 | 0,_,l=>by simp[DE]
 | k+1,s,l=>by
  unfold DE;split
  ·simp
  ·rename_i h;split
   ·have:=RU k (AW s (l.take 17)) (l.drop 21);rw[Cw]at this;simp only[Cx];omega
   ·simp
def YF(s:Nat)(ahead:Int)(l:Bs):(Ga s ahead l).1.length*21<=l.length:=by
 unfold Ga;split
 ·simp
 ·split
  ·split
   ·have:=RU l.length (AW s (l.take 8)) (l.drop 12);rw[Cw]at this;simp only;omega
   ·simp
  ·simp
def ZX{P:PD}{a c m:Nat}(h:Fit P a c m)(n ahead:Int):(P.aX n ahead).1.length*21<=m:=by
 have d:=Lm h (Ah n);unfold PD.aX Gz;split
 ·simp
 ·exact AR (YF _ _ _) d
end
section
open Go.RowKit
attribute [local go_sem ↓] CJ
section
variable {w:World} {b B jb:Nat} {P:PD} {Ft:Nat->Prop} {a c m:Nat} {lv ov:Value} {J:Jn}
def Oh(w:World)(h:Bk w b P Ft)(aA:∀k,Ft k->k<w.heap.size)(hJ:DC w jb b lv ov J)(hF:Fit P a c m)(hl:CU a c m)(hm:J.Am.length*m<=70368744177664)(hn:∀n∈J.Am,CM n)(hL:Lets B w):
 Af 106 #[A5 jb] w λe w'=>∃v,e=.returned (.tuple #[v,A0 (P.puts J.Am).2])/\AZ w' v (P.puts J.Am).1/\(∀g,v.ownBlock=some g->w.heap.size<=g)/\A3 Ab w w':=by
 obtain⟨i0,hi,aR,aV,aU⟩:=E9 Ij;have c0:=hJ.Ag.c0;have c1:=hJ.Ag.c1;have aI:=A1 (DD.rd hJ.Am);obtain⟨la,lcap,rfl,lc1,aO⟩:=aI.o.Cg;unfold maxLen at aO;have aX:Hid (P.puts J.Am=P.bp J.Am []):=rfl;generalize hR:P.puts J.Am=R at aX ⊢;have a1:Hid (∀w1,A3 Ab w w1->∀n∈J.Am,∀ahead,Af 149 #[A5 b,A0 n,A0 ahead] w1 λe w'=>∃v,e=.returned (.tuple #[v,A0 (P.aX n ahead).2])/\AZ w' v (P.aX n ahead).1/\(∀g,v.ownBlock=some g->w1.heap.size<=g)/\A3 Ab w1 w'):=λw1 hc n aT ahead=>
  YG w1 ahead (B3.ay h aA hc) (λk hk=>Bq (aA k hk) hc.Ao) (hn n aT) (hL.aM hc) (by have h1:(DQ P.D P.F ⟨(BP 1 n).toArray⟩).1.length<=m:=Lm hF (Ah n);have:=hl.m;omega)
 have a2:Hid (∀n ahead,(P.aX n ahead).1.length*21<=m):=λn ahead=>ZX hF n ahead;have aY:=A1 hm;generalize J.Am=Am at *;have a3:∀k,k<=Am.length->k*m<=70368744177664:=λk hk=>AR (Hv m hk) aY.o;have aS:=A1 a3
 go_enter func106,ntmps106
 go_wp2;go_loopw [4,14] (λv iv wr=>∃(k:Nat) (d:List Pu),iv=A0 k/\k<=Am.length/\Hid (AZ wr v d/\(∀g,v.ownBlock=some g->w.heap.size<=g)/\A3 Ab w wr/\d.length*21<=k*m/\R=P.bp (Am.drop k) d)) (λ_ iv _=>Am.length-(intOf iv).toNat)
 case atStart=>exact⟨0,[],rfl,by omega,CL _ _ _ _,λg E=>by simp[Value.ownBlock]at E,A3.I _ _,by simp,aX.o⟩
 case round=>
  obtain⟨k,d,rfl,hk,hI⟩:=hrel;obtain⟨i1,i2,i3,i4,i5⟩:=hI.o;obtain⟨ap,cp,rfl,hcap1,aB,-⟩:=B9 i1;unfold maxLen at aB;by_cases z:k<Am.length
  ·obtain⟨g,o,rfl,d1⟩:=D7.at aI.o k z;have W:=BY z;have aJ:=Fy z;generalize hne:(Am[k]'z)=n at d1 W aJ;have e1:=i3.ao d1;have e0:=i3.ao c0;have I:=A1 (a1.o wr i3 n W d.length);have O:=A1 (a2.o n d.length);rw[aJ]at i5;have aL:Hid (R=if (P.aX n d.length).2≠0 then ([],(P.aX n d.length).2) else P.bp (Am.drop (k+1)) (d++(P.aX n d.length).1)):=i5;generalize hX:P.aX n d.length=X at I O aL;obtain⟨aE,aP⟩:=X;dsimp only at I O aL;have aK:=A1 i1;have aM:=A1 i2;have aF:=A1 i3;have aW:=A1 i4;(have aQ:(k:Int)<(Am.length:Int):=by omega);have hk0:=C2 k;by_cases hx:aP=0
   case neg=>
    (have hxb:(aP !=0)=true:=by simpa using hx);(have aD:R=([],aP):=by rw[aL.o,Ai hx]);subst aD;go_wp2_with (go_at_call 149;refine I.m ?_;rintro e w6⟨v,rfl,-,-,L⟩;have H:=A1 L);go_ret2;exact⟨_,rfl,CL _ _ _ _,λg E=>by simp[Value.ownBlock]at E,aF.o.tr H.o⟩
   case pos=>
    subst hx;(have a0:Hid (R=P.bp (Am.drop (k+1)) (d++aE)):=by unfold Hid;rw[aL.o,Ae (by simp)]);have a4:=A1 (aS.o (k+1) z);go_wp2_with (fail);refine I.m ?_;rintro e w6⟨v,rfl,hv,hvo,L⟩;obtain⟨ap2,cp2,rfl,-,Y,-⟩:=B9 hv;unfold maxLen at Y;have H:=A1 L;have aG:Hid (w6.ownsRow 0 113 3 (.slice ap d.length cp) d.length (Ba d)):=Az aK.o λg E=>L.Ap g (AI aK.o E) (λh=>h);have aH:=A1 (Src.bO underlying97 hv (I6 aE));go_wp2_with (at_builtin;refine D5 rfl (.tmp 32) (.tmp 33) 97 97 rfl 113 i0 _ 3 24 underlying97 hi aR aV aU rfl (by decide) (.slice ap d.length cp) d.length (Ba d) (by rfl) aG.o _ aE.length _ (by rfl) aH.o (by have:=O.o;have:=aW.o;have:=a4.o;rw[N8]at this;omega) ?_;intro a8 cap8 w8 hA;have aZ:=A1 hA);go_roundw
    case rel=>
     have hA:=aZ.o;have aN:=hA.Ak (S:=λk=>(Value.slice ap d.length cp).ownBlock=some k) λ_ h=>h;refine⟨k+1,d++aE,by go_num,by omega,?_,?_,?_,?_,a0.o⟩
     ·(have e:(d++aE).length=d.length+aE.length:=by simp);unfold AZ;rw[IL,e];exact hA.AB
     ·intro g E;rcases hA.Ck with h|h
      ·rw[h]at E;exact aM.o g E
      ·rw[h]at E;cases E;have:=aF.o.Ao;have:=H.o.Ao;omega
     ·exact(aF.o.tr H.o).Aw aN λy hy aA=>by have:=aM.o y hy;omega
     ·have:=O.o;have:=aW.o;rw[N8];simp only[B1];omega
    case measure=>simp[intOf];omega
  ·(obtain rfl:k=Am.length:=by omega);have aK:=A1 i1;have aM:=A1 i2;have aF:=A1 i3;(have aD:R=(d,0):=by rw[i5,Gu];rfl);subst aD;(have aQ:¬((Am.length:Int)<(Am.length:Int)):=by omega);go_wp2;go_ret2;exact⟨_,rfl,aK.o,aM.o,aF.o⟩
end
end
end Go.Proofs.YtodcnkbblippnaaGreatDoor
