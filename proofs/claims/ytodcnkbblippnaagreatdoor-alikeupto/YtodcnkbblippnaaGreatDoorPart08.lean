/- Part 8 of a proof: walks of the program. -/
import Derived.Shelf.Strings.BuilderK
import Derived.Test.YtodcnkbblippnaaGreatDoorPart07
namespace Go.Proofs.YtodcnkbblippnaaGreatDoor
set_option maxRecDepth 100000
set_option maxHeartbeats 32000000
set_option linter.defProp false
open Go.Proofs.Tryz
section
open Go.RowKit
attribute [local go_sem ↓] CE
def Xb{k:Nat}{l:Bs}(h:l.length<17):Ex k l=some ([],l):=by cases k<;>simp[Ex,h]
def Xc{k:Nat}{c:UInt8}{d:Bs}(h:16<=d.length):Ex (k+1) (c::d)=if c.toNat<8 then (Ex k (d.drop 16)).map λr=>(((c.toNat:Int),BL d,BL (d.drop 8)):: r.1,r.2) else none:=by
 have z:¬(c::d).length<17:=by simp;omega
 simp only[Ex,Ad z];rfl
section
variable {w:World} {b B:Nat} {P:PD} {Ft:Nat->Prop} {a c m:Nat} {n:Int}
def XX(w:World)(h:Bn w b P Ft)(aP:∀k,Ft k->k<w.heap.size)(hF:Fit P a c m)(hl:CN a c m)(hn:CJ n)(hL:Lets B w):
 Ag 135 #[A5 b,A0 n] w λe w'=>
  (P.Cw n=none/\e=.returned (.tuple #[.pointer none,A0 7])/\A3 Ab w w')\/
  ∃l W v,P.Cw n=some l/\e=.returned (.tuple #[A5 W,A0 0])/\BZ w' W 182 b (AF n) (AE (AF n)) n v/\AW w' v l/\(∀g,v.ownBlock=some g->w.heap.size<=g)/\w.heap.size<=W/\A3 Ab w w':=by
 obtain⟨i0,hi,bN,bU,bT⟩:=E7 Ih;have bH:=A1 (QX w b hn hL);have bA:Hid (∀w1,A3 Ab w w1->_):=λw1 hc=>RI (AF n) (B3.aH h aP hc) (λk hk=>Bk (aP k hk) hc.Ak) hF hl;have aQ:(P.aZ (AF n)).1.length<=4294967296:=by
  have h1:=Lh hF (AF n);have:=hl.m;unfold PD.aZ;split
  ·simp
  ·split
   ·rename_i d hd;unfold Hy at hd;split at hd
    ·cases hd
    ·split at hd
     ·cases hd;simp only[BU];omega
     ·cases hd
   ·simp
 obtain⟨X,hX⟩:∃X,P.Cw n=X:=⟨_,rfl⟩;have bI:Hid (IL (P.aZ (AF n))=X):=hX;rw[hX];have bL:AF n=BO 2 n:=rfl;rw[<-bL]at bH;generalize hnme:AF n=nm at bH bA bI aQ ⊢;generalize hs0:AE nm=s0 at bH bA ⊢;obtain⟨⟨dt,de⟩,bQ⟩:∃x,P.aZ nm=x:=⟨_,rfl⟩;rw[bQ]at bA bI aQ;dsimp only at bA aQ
 go_enter func135,ntmps135
 go_wp2_with (fail);refine bH.m ?_;rintro e w1⟨W,rfl,aN,bE,bY⟩;have a3:=A1 (bA.o w1 bE);have a1:=A1 aN;have a2:=A1 bE;have a0:=A1 bY;have g0:=aN.c0;have g1:=aN.c1;have g2:=aN.c2;by_cases he:de=0
 case neg=>
  have hb:(de !=0)=true:=by simpa using he
  have L:Hid (X=none):=by unfold Hid;rw[<-bI.o];unfold IL;rw[Ah he]
  go_wp2_with (go_at_call 126;refine a3.m ?_;rintro e w2⟨rfl,aE⟩;have aF:=A1 aE);go_ret2;exact .inl ⟨L.o,rfl,a2.o.tr aF.o⟩
 case pos=>
 subst he
 have aH:Hid ((match Ex dt.length dt with
  | none=>none
  | some (l,r)=>if r=[]/\Cx Cn l=true then some l else none)=X):=by
  rw[<-bI.o];unfold IL;rw[Ad (by simp)];rfl
 generalize hY:Ex dt.length dt=Y at aH;have cE:=A1 hY;go_wp2_with (fail);refine a3.m ?_;rintro e w2⟨rfl,aE⟩;have bW:=A1 (a1.o.aj aE (λh=>h));have aF:Hid (A3 Ab w w2):=a2.o.tr aE;have bR:=A1 a1.o.lt;have a6:=A1 aE.Ak;go_wp2;go_loopw [7] (λtv wr=>∃(l:Bs) (k:Nat) (z:List Pu),tv=.string ⟨l.toArray⟩/\z.length*17+l.length<=dt.length/\Hid (∃v,BZ wr W 182 b nm s0 n v/\AW wr v z/\(∀g,v.ownBlock=some g->w2.heap.size<=g)/\(A3 Ab w wr/\w2.heap.size<=wr.heap.size)/\l.length<=k/\Y=(Ex k l).map λr=>(z++r.1,r.2))) (λtv _=>match tv with | .string x=>x.size|_=>0)
 case atStart=>exact⟨dt,dt.length,[],rfl,by simp,_,bW.o,CD _ _ _ _,λg O=>by simp[Value.ownBlock]at O,⟨aF.o,As _⟩,As _,by rw[<-cE.o];simp⟩
 case round=>
  obtain⟨l,k,z,rfl,aL,hI⟩:=hrel;have aA:(ByteArray.mk l.toArray).size=l.length:=by show l.toArray.size=_;simp
  by_cases aT:l.length<17
  case pos=>
   obtain⟨v,i1,i2,i3,⟨i4,a7⟩,-,i6⟩:=hI.o;rw[Xb aT]at i6;simp only[HL,FF]at i6;subst i6;(have hlt17:¬(17<=(l.length:Int)):=by omega);have bO:=A1 i1;have aU:=A1 i2;have a9:=A1 i3;have aY:=A1 i4;have g4:=i1.c4;by_cases aB:l=[]
   case neg=>
    (have L:Hid (X=none):=by unfold Hid;rw[<-aH.o];simp only;rw[Ad (λh=>aB h.1)]);have hbl:(l==[])=false:=GA.2 aB;go_wp2;go_ret2;exact .inl ⟨L.o,rfl,aY.o⟩
   case pos=>
   subst aB;have bF:=A1 (Xu wr v z aU.o.rd (by simp at aL;omega));by_cases hr:Cx Cn z=true
   case neg=>
    (have bS:Cx Cn z=false:=by simpa using hr);(have L:Hid (X=none):=by unfold Hid;rw[<-aH.o];simp only;rw[Ad (λh=>hr h.2)]);rw[bS]at bF;go_wp2_with (go_at_call 177;refine bF.m ?_;rintro e w3⟨rfl,aS⟩;have aD:=A1 aS);go_ret2;exact .inl ⟨L.o,rfl,aY.o.tr aD.o⟩
   case pos=>
    (have L:Hid (X=some z):=by unfold Hid;rw[<-aH.o];simp only;rw[Ah ⟨by first|trivial|rfl,hr⟩]);rw[hr]at bF;go_wp2_with (go_at_call 177;refine bF.m ?_;rintro e w3⟨rfl,aS⟩;have aD:=A1 aS);go_ret2;exact .inr ⟨z,W,v,L.o,rfl,bO.o.aj aD.o (λh=>h),Ay aU.o λg O=>aD.o.Ao g (AB aU.o O) (λh=>h),λg O=>AM aF.o.Ak (a9.o g O),a0.o,aY.o.tr aD.o⟩
  case neg=>
   obtain⟨v,i1,i2,i3,⟨i4,a7⟩,i5,i6⟩:=hI.o;obtain⟨k,rfl⟩:∃k',k=k'+1:=⟨k-1,by omega⟩;obtain⟨c0,d,rfl⟩:∃c0 d,l=c0::d:=by
    cases l with
    | nil=>simp at aT
    | cons c0 d=>exact⟨c0,d,rfl⟩
   (have aG:16<=d.length:=by simp at aT;omega);rw[Xc aG]at i6;obtain⟨ap,cp,rfl,hcap1,aW,-⟩:=B8 i2;unfold maxLen at aW;have aZ:=A1 (λw5=>RN w5 c0 d ⟨aG,by simp at aL;omega⟩);have e2:(ByteArray.mk (c0::d).toArray).extract 17 (d.length+1)=⟨(d.drop 16).toArray⟩:=by
    rw[extract_mk,DE,Er (by rw[Cu];omega)]
   obtain⟨H,bV⟩:∃H,BL d=H:=⟨_,rfl⟩;obtain⟨E,bJ⟩:∃E,BL (d.drop 8)=E:=⟨_,rfl⟩;rw[bV,bJ]at aZ i6;obtain⟨q,hq⟩:∃q,d.drop 16=q:=⟨_,rfl⟩;(have bB:q.length+16=d.length:=by rw[<-hq,Cu];omega);rw[hq]at e2 i6;obtain⟨ll,bC⟩:∃ll,d.length=ll:=⟨_,rfl⟩;(have bP:(c0::d).length=ll+1:=by simp[bC]);rw[bP]at aA aL i5;rw[bC]at e2 aG bB;(have hge:17<=(ll:Int)+1:=by omega);generalize hty:ByteArray.mk (c0::d).toArray=ty at e2 aA aZ ⊢;have g4:=i1.c4;have f4:=i1.fz 4;have bO:=A1 i1;have aU:=A1 i2;have a9:=A1 i3;have aY:=A1 i4;have bK:=A1 a7;have cC:=A1 i5;have b1:=A1 i6;have aO:=A1 bB;have a5:=A1 aL;by_cases aK:c0.toNat<8
   case neg=>
    (have L:Hid (X=none):=by unfold Hid;rw[<-aH.o,b1.o,Ad aK];rfl);rw[show decide (c0.toNat<8)=false from CZ aK]at aZ;go_wp2_with (go_at_call 176;refine(aZ.o _).mono ?_;rintro e w6⟨rfl,aR⟩;have aJ:=A1 aR);go_ret2;exact .inl ⟨L.o,rfl,(aY.o.tr aJ.o).ak _⟩
   case pos=>
    rw[show decide (c0.toNat<8)=true from CH aK]at aZ;have cD:Hid (Y=(Ex k q).map λr=>((z++[((c0.toNat:Int),H,E)])++r.1,r.2)):=by
     unfold Hid;rw[b1.o,Ah aK];cases Ex k q<;>simp
    go_wp2_with (go_at_call 176;refine(aZ.o _).mono ?_;rintro e w6⟨rfl,aR⟩;have bM:=A1 (BN w6 (.cells #[A0 c0.toNat,A0 H,A0 E] 113));have aJ:=A1 aR);have bX:A3 Ab wr (w6.alloc (.cells #[A0 c0.toNat,A0 H,A0 E] 113)):=aJ.o.ak _;have aX:Hid (C5 (w6.alloc (.cells #[A0 c0.toNat,A0 H,A0 E] 113)) w6.heap.size c0.toNat H E):=bM.o;have a4:=A1 bX;have bZ:Hid (∀g,(Value.slice ap z.length cp).ownBlock=some g->g<w6.heap.size):=λg O=>Bk (AB aU.o O) aJ.o.Ak;generalize (w6.alloc (.cells #[A0 c0.toNat,A0 H,A0 E] 113))=w7 at aX a4 ⊢;generalize w6.heap.size=pb at aX bZ ⊢;have b2:=A1 (bO.o.aj a4.o (λh=>h));have b3:Hid (AW w7 (.slice ap z.length cp) z):=Ay aU.o λg O=>a4.o.Ao g (AB aU.o O) (λh=>h);have b6:Hid (w2.heap.size<=w7.heap.size):=AM bK.o a4.o.Ak;have cG:Hid (A3 Ab w w7):=aY.o.tr a4.o;refine BP (λw'=>A7 w' pb 0 (A0 c0.toNat)/\A7 w' pb 1 (A0 H)/\A7 w' pb 2 (A0 E)/\A7 w' W 4 (.slice ap z.length cp)) 8
     (Bq [0,1,2,3,4,5,6,7] [6,7]) ⟨aX.o.af.c0,aX.o.af.c1,aX.o.af.c2,b2.o.af.c4⟩ ?_
    iterate 6 (refine Bg ?_;(try simp only[An]))
    refine Bw λK hK=>?_;go_simp;have ka:A3 Ab w7 (w7.alloc (.cells #[A0 c0.toNat,A0 H,A0 E] 113)).drew:=((A3.I _ _).ak _).af;have bG:=aX.o.aj ka (λh=>h);have b0:=b2.o.aj ka (λh=>h);have cB:Hid (AW (w7.alloc (.cells #[A0 c0.toNat,A0 H,A0 E] 113)).drew (.slice ap z.length cp) z):=Ay b3.o λg O=>ka.Ao g (AB b3.o O) (λh=>h);have bD:Hid (Src Tryz.prog 3 97 (AJ w7.heap.size 1 1) 1 #[A0 c0.toNat,A0 H,A0 E].toList (w7.alloc (.cells #[A0 c0.toNat,A0 H,A0 E] 113)).drew):=by
     have hb:(w7.alloc (.cells #[A0 c0.toNat,A0 H,A0 E] 113)).drew.heap[w7.heap.size]?=some (.cells #[A0 c0.toNat,A0 H,A0 E] 113 (0,0)):=BN w7 _;exact Src.cA underlying97 hb 1 1 rfl (I3 [((c0.toNat:Int),H,E)])
    refine hK _ _ ⟨bG.c0,bG.c1,bG.c2,b0.c4⟩ (λhS=>?_)
    (try simp only[An])
    refine DW rfl (by rfl) (λK hK=>?_);refine HW (.tmp 40) (.tmp 42) 97 97 rfl 113 i0 _ 3 24 underlying97 hi bN bU bT rfl (by decide) (.slice ap z.length cp) z.length (B9 z) (by rfl) cB.o _ 1 _ (by rfl) bD.o (by have:=a5.o;omega) ?_;intro a8 I w8 hA;have aI:=hA.Aj (S:=λk=>(Value.slice ap z.length cp).ownBlock=some k) λ_ h=>h;have b5:Hid (W<w2.heap.size):=Bk bR.o a6.o;have aV:=bG.aj aI (λh=>FZ _ (bZ.o _ h));have aM:=b0.aj aI (λh=>by have:=a9.o _ h;have:=b5.o;omega);have cA:Hid (AW w8 (.slice a8 (z.length+1) I) (z++[((c0.toNat:Int),H,E)])):=by
     (have e:(z++[((c0.toNat:Int),H,E)]).length=z.length+1:=by simp);unfold Hid AW;rw[IS,e];exact hA.AA
    have b4:Hid (∀g,(Value.slice a8 (z.length+1) I).ownBlock=some g->w2.heap.size<=g):=λg O=>by
     rcases hA.Cj with h|h
     ·rw[h]at O;exact a9.o g O
     ·rw[h]at O;cases O;have:=b6.o;have:=ka.Ak;omega
    (have cF:Hid (A3 Ab w w8):=(cG.o.tr ka).Ap aI λy hy aP=>by have:=a9.o y hy;have:=aF.o.Ak;omega);have cH:Hid (w2.heap.size<=w8.heap.size):=AM b6.o (AM ka.Ak aI.Ak);refine hK _ _ ⟨aV.c0,aV.c1,aV.c2,aM.c4⟩ (λhS=>?_);have g4:=aM.c4;have f4:=aM.fz 4;have b9:=A1 (aM.s4 (.slice a8 (z.length+1) I));have b8:Hid (A3 Ab w (w8.sC W 4 (.slice a8 (z.length+1) I))):=cF.o.bt (p:=(Aa W 4)) (λh=>by have h':W<w.heap.size:=h;have:=a0.o;omega) _;have b7:Hid (AW (w8.sC W 4 (.slice a8 (z.length+1) I)) (.slice a8 (z.length+1) I) (z++[((c0.toNat:Int),H,E)])):=Ay cA.o λg O=>GF _ _ _ _ (λe=>by have e':g=W:=e;have:=b4.o g O;have:=b5.o;omega)
    (try simp only[An])
    refine Bl ?_;simp only[BI,BH];go_wp2;go_roundw
    case rel=>exact⟨q,k,z++[((c0.toNat:Int),H,E)],rfl,by have:=a5.o;have:=aO.o;simp;omega,_,b9.o,by have:=b7.o;simpa using this,by have:=b4.o;simpa using this,⟨b8.o,by have:=cH.o;simpa using this⟩,by have:=cC.o;have:=aO.o;omega,cD.o⟩
    case measure=>
     (have e:(ByteArray.mk q.toArray).size=q.length:=by show q.toArray.size=_;simp);have:=aO.o;simp only[e,aA];omega
end
def Bi(p:Pu):Prop:=(0<=p.1/\p.1<8)/\AN p.2.1/\AN p.2.2
def Y8(a b:List Pu):Cd (a++b)=Cd a++Cd b:=by simp[Cd]
def O4(s t v:Int):(Bc s t v).length=17:=by simp[Bc,CL]
def O2(l:List Pu):(Cd l).length=17*l.length:=by
 induction l with
 | nil=>rfl
 | cons p r ih=>
  have:Cd (p::r)=Bc p.1 p.2.1 p.2.2++Cd r:=rfl;rw[this,AY,ih,O4,Cv];omega
def A3.cj{B:Nat}{w w':World}(h:Below B w w'):A3 (λk=>B<=k) w w':=⟨h.os,h.tape,h.output,h.size,λk _ hn=>h.block k (by omega)⟩
section
variable {w:World} {b B:Nat} {P:PD} {Ft:Nat->Prop} {a c m:Nat} {n:Int}
def YZ(w:World)(pv:Value)(l:List Pu)(h:Bn w b P Ft)(W:∀k,Ft k->k<w.heap.size)(hF:Fit P a c m)(hl:CN (a+1) (c+1) m)(hn:CJ n)(hL:Lets B w)(hp:Ho w pv l)(bA:∀p∈l,Bi p)(hpl:l.length<=134217728):
 Ag 151 #[A5 b,A0 n,pv] w λe w'=>
  ((P.aK n l).1≠0/\e=.returned (.tuple #[.pointer none,A0 (P.aK n l).1])\/(P.aK n l).1=0/\∃d,e=.returned (.tuple #[A5 d,A0 0]))/\Aq w Ft w' (λw' O=>Bn w' b (P.aK n l).2 O):=by
 have aU:=A1 (QX w b hn hL);have aL:Hid (∀w1,A3 Ab w w1->_):=λw1 hc=>Q8 (AF n) (Cd l) (Jx (AF n)) (B3.aH h W hc) (λk hk=>Bk (W k hk) hc.Ak) (by rw[O2];omega) hF hl;obtain⟨X,hX⟩:∃X,P.aK n l=X:=⟨_,rfl⟩;have aW:P.aI (AF n) (AE (AF n)) (Cd l)=X:=hX;rw[hX];rw[aW]at aL;have a1:AF n=BO 2 n:=rfl;rw[<-a1]at aU;generalize hnme:AF n=nm at aU aL;generalize hs0:AE nm=s0 at aU aL;obtain⟨pa,H,rfl,hcap1,aK⟩:=hp.Ce;unfold maxLen at aK;have bP:=A1 hp;have a3:=A1 W
 go_enter func151,ntmps151
 go_wp2_with (fail);refine aU.o.mono ?_;rintro e w1⟨d,rfl,aF,aN,bG⟩;have a2:=A1 aF;have HC1:=A1 aN;have aZ:=A1 bG;have f4:=aF.fz 4;have g4:=aF.c4;have bC:=A1 (aF.s4 (.slice pa l.length H));have a5:Hid (A3 Ab w (w1.setCell (Aa d 4) (.slice pa l.length H))):=aN.bt (p:=(Aa d 4)) (λh=>by have h':d<w.heap.size:=h;omega) _;have HG1:=A1 a2.o.lt;obtain⟨L,aM⟩:∃L,w1.setCell (Aa d 4) (.slice pa l.length H)=L:=⟨_,rfl⟩;have hw2s:w1.heap.size=L.heap.size:=by rw[<-aM];simp
 rw[aM]at bC a5;have aE:Hid (d<L.heap.size):=bC.o.lt;have bH:=A1 (Uo L);have bN:=A1 (bC.o.aj ((A3.I Ab L).ak (.cells #[.pointer none,.slice none 0 0] 260)) (λh=>h));have bL:Hid (A3 Ab w (L.alloc (.cells #[.pointer none,.slice none 0 0] 260))):=a5.o.ak _;have aI:Hid (w.heap.size<=L.heap.size):=a5.o.Ak;go_wp2;generalize bB:L.alloc (.cells #[.pointer none,.slice none 0 0] 260)=w3 at bH bN bL ⊢;have aO:Hid (L.heap.size<=w3.heap.size):=by rw[<-bB];show L.heap.size<=_;simp
 generalize L.heap.size=bb at bH aE aI aO ⊢;go_loopw [22] (λiv wr=>∃k:Nat,iv=A0 k/\k<=l.length/\Hid (GD bb bb (Cd (l.take k)) wr/\BZ wr d 182 b nm s0 n (.slice pa l.length H)/\A3 Ab w wr/\bb<=wr.heap.size)) (λiv _=>l.length-(intOf iv).toNat)
 case atStart=>exact⟨0,rfl,by omega,by simpa[Cd] using bH.o,bN.o,bL.o,aO.o⟩
 case round=>
  obtain⟨k,rfl,hk,hI⟩:=hrel;by_cases aD:k<l.length
  ·obtain⟨i1,i2,i3,i4⟩:=hI.o;obtain⟨g,o,rfl,-,c1,c2,c3⟩:=Ho.at bP.o k aD;have I:=bA _ (BV aD);have aR:l.take (k+1)=l.take k++[l[k]'aD]:=Dn aD;generalize hxe:(l[k]'aD)=x at c1 c2 c3 I aR;obtain⟨x1,x2,x3⟩:=x;dsimp only at c1 c2 c3;have d1:=i3.al c1;have d2:=i3.al c2;have d3:=i3.al c3;obtain⟨⟨aQ,aX⟩,ht,hv⟩:=I;dsimp only at aQ aX ht hv;have PB:=A1 (λz=>RQ z x1 x2 x3 ⟨aQ,by omega⟩ ht hv);(have aG:Hid (Cd (l.take (k+1))=Cd (l.take k)++Bc x1 x2 x3):=by unfold Hid;rw[aR,Y8];simp[Cd]);(have aY:(Cd (l.take k)).length<=17*l.length:=by rw[O2,BU];omega);generalize hpk:Cd (l.take k)=pk at i1 aG aY;have aV:=O4 x1 x2 x3;generalize hpbe:Bc x1 x2 x3=pb at PB aG aV;have a6:=A1 i1;have aJ:=A1 i2;have bD:=A1 i3;have aT:=A1 i4;have bO:Hid (∀w6,A3 Ab wr w6->_):=λw6 h6=>Nl (t:=pb) w6 (a6.o.aj h6 (λ_ h=>h.elim)) (by omega) (AM aT.o h6.Ak);(have a4:(k:Int)<(l.length:Int):=by omega);have hk0:(0:Int)<=(k:Int):=Gp _;go_wp2_with (fail);refine(PB.o _).mono ?_;rintro e w6⟨rfl,a8⟩;have aS:Hid (A3 Ab wr w6):=((A3.I Ab wr).ak _).Ap a8 λ_ h _=>h;have a7:=A1 (bO.o w6 aS.o);go_wp2_with (go_at_call 194;refine a7.o.mono ?_;rintro e w7⟨rfl,bE,bF⟩;have a0:=A1 bE;have aP:=A1 bF);go_roundw
   case rel=>
    have c7:A3 (λk=>bb<=k) w6 w7:=A3.cj aP.o;refine⟨k+1,by go_num,by omega,by rw[aG.o];exact a0.o,(aJ.o.aj aS.o (λh=>h)).aj c7 (λh=>by have:=aE.o;omega),?_,?_⟩
    ·exact(bD.o.Ap aS.o λ_ h _=>h).Ap c7 λx I W=>by have:=aI.o;omega
    ·exact AM aT.o (AM aS.o.Ak aP.o.size)
   case measure=>simp[intOf];omega
  ·obtain⟨i1,i2,i3,i4⟩:=hI.o;(obtain rfl:k=l.length:=by omega);rw[C6]at i1;have a6:=A1 i1;have aJ:=A1 i2;have bD:=A1 i3;have aT:=A1 i4;have bK:=A1 (A2c wr.drew (a6.o.aj ((A3.I Ab _).af) (λ_ h=>h.elim)) aT.o);(have a4:¬((l.length:Int)<(l.length:Int)):=by omega);have aA:Hid (∀z,Below bb wr.drew z->(A7 z d 0 (A5 b)/\A7 z d 1 (.string ⟨nm.toArray⟩)/\A7 z d 2 (.int .u32 s0))/\A3 Ab w z):=λz I=>by
    have cx:A3 (λk=>bb<=k) wr.drew z:=A3.cj I;have fx:=aJ.o.af.aj cx (λh=>by have:=aE.o;omega);exact⟨⟨fx.c0,fx.c1,fx.c2⟩,bD.o.af.Ap cx λx I W=>by have:=aI.o;omega⟩
   have e0:=aJ.o.af.c0;have e1:=aJ.o.af.c1;have e2:=aJ.o.af.c2;obtain⟨bI,bJ⟩:=X;dsimp only at aL;have bM:Hid (∀z,Below bb wr.drew z->∀wy,Aq z Ft wy (λw' O=>Bn w' b bJ O)->(A7 wy d 0 (A5 b)/\A7 wy d 1 (.string ⟨nm.toArray⟩)/\A7 wy d 2 (.int .u32 s0))/\Aq w Ft wy (λw' O=>Bn w' b bJ O)):=λz I wy hy=>by
    have cx:A3 (λk=>bb<=k) wr.drew z:=A3.cj I;have fx:=(aJ.o.af.aj cx (λh=>by have:=aE.o;omega)).aj hy.1 (λh=>by have:=a3.o _ h;have:=aZ.o;omega);exact⟨⟨fx.c0,fx.c1,fx.c2⟩,hy.a6 (aA.o z I).2⟩
   by_cases I:bI=0
   case neg=>
    (have hxb:(bI !=0)=true:=by simpa using I);go_wp2;refine BP (λw'=>A7 w' d 0 (A5 b)/\A7 w' d 1 (.string ⟨nm.toArray⟩)/\A7 w' d 2 (.int .u32 s0)) 6
     (Bq [0,1,2,3,4,5] [4,5]) ⟨e0,e1,e2⟩ ?_
    iterate 4 (refine Bg ?_;(try simp only[An]))
    refine Bw λK hK=>?_;go_simp;refine bK.o.mono ?_;rintro e w9⟨rfl,E⟩;refine hK _ _ (aA.o w9 E).1 (λhS=>?_);have aH:=A1 (aL.o w9 (aA.o w9 E).2);have Y:=A1 (bM.o w9 E)
    (try simp only[An])
    refine Bw λK hK=>?_;go_simp;refine aH.o.mono ?_;rintro e aB⟨rfl,hI⟩;refine hK _ _ (Y.o aB hI).1 (λhS=>?_);have a9:=A1 (Y.o aB hI).2
    (try simp only[An])
    refine Bl ?_;simp only[BI,BH];go_wp2;go_ret2;exact⟨rfl,a9.o⟩
   case pos=>
    subst I;go_wp2;refine BP (λw'=>A7 w' d 0 (A5 b)/\A7 w' d 1 (.string ⟨nm.toArray⟩)/\A7 w' d 2 (.int .u32 s0)) 6
     (Bq [0,1,2,3,4,5] [4,5]) ⟨e0,e1,e2⟩ ?_
    iterate 4 (refine Bg ?_;(try simp only[An]))
    refine Bw λK hK=>?_;go_simp;refine bK.o.mono ?_;rintro e w9⟨rfl,E⟩;refine hK _ _ (aA.o w9 E).1 (λhS=>?_);have aH:=A1 (aL.o w9 (aA.o w9 E).2);have Y:=A1 (bM.o w9 E)
    (try simp only[An])
    refine Bw λK hK=>?_;go_simp;refine aH.o.mono ?_;rintro e aB⟨rfl,hI⟩;refine hK _ _ (Y.o aB hI).1 (λhS=>?_);have a9:=A1 (Y.o aB hI).2
    (try simp only[An])
    refine Bl ?_;simp only[BI,BH];go_wp2;go_ret2;exact⟨⟨_,rfl⟩,a9.o⟩
end
def RB{P:PD}{a c m:Nat}(h:Fit P a c m)(nm:Bs):(P.aZ nm).1.length<=m:=by
 have h1:=Lh h nm;unfold PD.aZ;split
 ·simp
 ·split
  ·rename_i d z;unfold Hy at z;split at z
   ·cases z
   ·split at z
    ·cases z;simp only[BU];omega
    ·cases z
  ·simp
def Tn:∀(k:Nat) (l:Bs),(Gb k l).length*8<=l.length
 | 0,l=>by simp[Gb]
 | k+1,l=>by
  unfold Gb;split
  ·simp
  ·have:=Tn k (l.drop 8);simp only[Cv,Cu]at this ⊢;omega
def A3.bH{S:Nat->Prop}{w w':World}(h:A3 S w w'){p:Addr}{v:Value}(d:w.cell? p=some v)(E:¬S p.block):w'.cell? p=some v:=by
 have z:=GN w _ d;have:=h.Ao p.block z E;unfold World.cell? at d ⊢;rw[this];exact d
def D5.e9{w:World}{g o n cap:Nat}{l:List Int}(h:D5 w (.slice (some (Aa g o)) n cap) l)(X:0<l.length)(a':Option Addr)(Y:1<l.length->a'=some (Aa g (o+1)))(I:∀x,a'=some x->x.block=g):D5 w (.slice a' (n-1) (cap-1)) l.tail:=by
 obtain⟨h1,a,c,e,h2,h3,L,O⟩:=h;cases e;have E:l.tail.length=l.length-1:=List.length_tail;refine⟨by rw[Tp];omega,a',cap-1,by rw[E],by omega,by omega,λx z=>?_,λj u hj=>?_⟩
 ·unfold Value.ownBlock at z;cases a' with
  | none=>simp at z
  | some y=>
   simp only at z;have:=I y rfl;cases z;rw[this];exact L g rfl
 ·have d:(DL l)[j+1]?=some u:=by
   cases l with
   | nil=>simp at X
   | cons x r=>simpa[DL] using hj
  obtain⟨g',o',e,W⟩:=O _ _ d;cases e;have H:j+1<(DL l).length:=(Hr.1 d).1;rw[Tp]at H;exact⟨g,o+1,Y (by omega),by rw[show o+1+j=o+(j+1) by omega];exact W⟩
section
variable {w:World} {b B:Nat} {P:PD} {Ft:Nat->Prop} {a c m:Nat} {n:Int}
def Y6(w:World)(h:Bn w b P Ft)(aI:∀k,Ft k->k<w.heap.size)(hF:Fit P a c m)(hl:CN a c m)(hL:Lets B w):
 Ag 96 #[A5 b] w λe w'=>
  (P.a8=none/\e=.returned (.tuple #[.pointer none,A0 7])/\A3 Ab w w')\/
  ∃ix xb v,P.a8=some ix/\e=.returned (.tuple #[A5 xb,A0 0])/\BZ w' xb 162 b AI (AE AI) ix.B7 v/\D5 w' v ix.segs/\(∀g,v.ownBlock=some g->xb<g)/\w.heap.size<=xb/\A3 Ab w w':=by
 have a7:=A1 (OP w b 3 (by omega) (HD (n:=0) (by omega) (by omega)) hL);have aY:Hid (∀w1,A3 Ab w w1->_):=λw1 hc=>RI AI (B3.aH h aI hc) (λk hk=>Bk (aI k hk) hc.Ak) hF hl;have aE:(P.aZ AI).1.length<=4294967296:=AM (RB hF AI) hl.m;obtain⟨X,hX⟩:∃X,P.a8=X:=⟨_,rfl⟩;have a9:Hid (indexOf (P.aZ AI)=X):=hX;rw[hX];have bE:BO 3 0=AI:=rfl;rw[show ((3:Nat):Int)=3 from rfl,bE]at a7;generalize hnme:AI=nm at a7 aY a9 aE ⊢;generalize hs0:AE nm=s0 at a7 aY ⊢;obtain⟨⟨L,de⟩,bN⟩:∃x,P.aZ nm=x:=⟨_,rfl⟩;rw[bN]at aY a9 aE;dsimp only at aY aE
 go_enter func96,ntmps96
 go_wp2_with (fail);refine a7.m ?_;rintro e w1⟨rfl,a4⟩;have aF:BZ (w1.aC #[A5 b,.string ⟨nm.toArray⟩,.int .u32 s0,A0 1,.slice none 0 0] 162) w1.heap.size 162 b nm s0 1 (.slice none 0 0):=BN w1 _;have bT:Hid (A3 Ab w (w1.aC #[A5 b,.string ⟨nm.toArray⟩,.int .u32 s0,A0 1,.slice none 0 0] 162)):=a4.ak _;have aO:Hid (w.heap.size<=w1.heap.size):=a4.Ak;have bJ:=A1 (aY.o _ bT.o);have bF:=A1 aF;have g0:=aF.c0;have g1:=aF.c1;have g2:=aF.c2;go_wp2_with (fail);refine bJ.m ?_;rintro e w2⟨rfl,aS⟩;have aN:=A1 (bF.o.aj aS (λh=>h));have aT:Hid (A3 Ab w w2):=bT.o.tr aS;have aH:Hid (w1.heap.size<w2.heap.size):=aN.o.lt;generalize w1.heap.size=xb at *;by_cases h8:de=8
 case pos=>
  subst h8;have z:Hid (X=some ⟨1,[]⟩):=by unfold Hid;rw[<-a9.o];unfold indexOf;rw[Ah rfl]
  go_wp2;go_ret2;exact .inr ⟨⟨1,[]⟩,xb,_,z.o,rfl,aN.o,Ds.bT,λg hg=>by simp[Value.ownBlock]at hg,aO.o,aT.o⟩
 case neg=>
 have h8b:(de==8)=false:=by simpa using h8
 have aR:=A1 (A0b w2 L aE);have aX:Hid ((En L).length*8<=L.length):=Tn _ _
 have aL:Hid ((if de≠0\/En L=[]\/L.length≠(En L).length*8 then none else
  if (En L).all isNum=false then none else
  if Cx Ci (En L).tail then some ⟨(En L).headD 0,(En L).tail⟩ else none)=X):=by
  rw[<-a9.o];unfold indexOf;rw[Ad h8];rfl
 generalize hns:En L=ns at aR aX aL;go_wp2_with (fail);refine aR.m ?_;rintro e w3⟨v,rfl,hv,bP,aJ⟩;have aD:=A1 (aN.o.aj aJ (λh=>h));have aA:Hid (A3 Ab w w3):=aT.o.tr aJ;obtain⟨ap,cp,rfl,hcap1,aP,bB,-⟩:=B8 hv;unfold maxLen at aP;have bS:=A1 hv;have bG:Hid (∀g,(Value.slice ap ns.length cp).ownBlock=some g->w2.heap.size<=g):=bP;have HW3:=A1 aJ.Ak;by_cases E:de≠0\/ns=[]\/L.length≠ns.length*8
 case pos=>
  have z:Hid (X=none):=by unfold Hid;rw[<-aL.o,Ah E]
  by_cases W:de=0
  ·subst W;by_cases aB:ns=[]
   ·subst aB;go_wp2;go_ret2;exact .inl ⟨z.o,rfl,aA.o⟩
   ·have bA:((ns.length:Int)==0)=false:=by
     have:ns.length≠0:=λe=>aB (GR.1 e);simp;omega
    have hd:((L.length:Int)!=wrap64 ((ns.length:Int)*8))=true:=by
     (have:L.length≠ns.length*8:=by rcases E with h|h|h;exact absurd rfl h;exact absurd h aB;exact h);have:=aX.o;(have ew:wrap64 ((ns.length:Int)*8)=(ns.length:Int)*8:=by unfold wrap64;omega);rw[ew];simp;omega
    go_wp2;go_ret2;exact .inl ⟨z.o,rfl,aA.o⟩
  ·(have hb:(de !=0)=true:=by simpa using W);go_wp2;go_ret2;exact .inl ⟨z.o,rfl,aA.o⟩
 case neg=>
  have hz:de=0/\ns≠[]/\L.length=ns.length*8:=⟨A3U λh=>E (.inl h),λh=>E (.inr (.inl h)),A3U λh=>E (.inr (.inr h))⟩;obtain⟨rfl,aB,hd0⟩:=hz;have aW:Hid ((if ns.all isNum=false then none else if Cx Ci ns.tail then some ⟨ns.headD 0,ns.tail⟩ else none)=X):=by rw[<-aL.o,Ad E];rfl
  have H:0<ns.length:=Ji.2 aB;have bA:((ns.length:Int)==0)=false:=by simp;omega
  have hd:((L.length:Int)!=wrap64 ((ns.length:Int)*8))=false:=by
   (have ew:wrap64 ((ns.length:Int)*8)=(ns.length:Int)*8:=by unfold wrap64;omega);rw[ew];simp;omega
  obtain⟨g,rfl⟩:=bB H;have bL:Hid (ns.length<=1099511627776):=by unfold Hid;omega
  go_wp2;go_loopw [44] (λiv wr=>∃k:Nat,iv=A0 k/\k<=ns.length/\wr=w3/\Hid ((ns.take k).all isNum=true)) (λiv _=>ns.length-(intOf iv).toNat)
  case atStart=>exact⟨0,rfl,by omega,rfl,by unfold Hid;rfl⟩
  case round=>
   obtain⟨k,rfl,hk,rfl,hI⟩:=hrel;by_cases O:k<ns.length
   ·have d:A7 wr g k (A0 (ns[k]'O)):=BC bS.o rfl (OF ns k O);have a1:ns.take (k+1)=ns.take k++[ns[k]'O]:=Dn O;have aG:(ns[k]'O)∈ns:=BV O;generalize I:(ns[k]'O)=x at d a1 aG;have a8:=A1 (Tl wr x);(have bH:(k:Int)<(ns.length:Int):=by omega);have hk0:=C3 k;have bD:=A1 a1;have aV:=A1 aG;by_cases hn:isNum x=true
    ·(have bM:Hid ((ns.take (k+1)).all isNum=true):=by unfold Hid;rw[bD.o,List.all_append,hI.o];simp[hn]);rw[hn]at a8;go_wp2_with (go_at_call 128;refine a8.m ?_;rintro e w4⟨rfl,rfl⟩);go_roundw
     case rel=>exact⟨k+1,by go_num,by omega,trivial,bM.o⟩
     case measure=>simp[intOf];omega
    ·(have bI:isNum x=false:=by simpa using hn);have z:Hid (X=none):=by
      unfold Hid;rw[<-aW.o,Ah];have:¬ns.all isNum=true:=λh=>hn (N9.1 h x aV.o);simpa using this
     rw[bI]at a8;go_wp2_with (go_at_call 128;refine a8.m ?_;rintro e w4⟨rfl,rfl⟩);go_ret2;exact .inl ⟨z.o,rfl,aA.o⟩
   ·(obtain rfl:k=ns.length:=by omega);(have hall:ns.all isNum=true:=by have:=hI.o;rwa [C6]at this);(have aK:Hid ((if Cx Ci ns.tail then some (Ix.mk (ns.headD 0) ns.tail) else none)=X):=by have:=aW.o;rwa [Ad (by simp[hall])]at this);have d:A7 wr.drew g 0 (A0 (ns.headD 0)):=by
     have W:=OF ns 0 H;have:(ns[0]'H)=ns.headD 0:=by cases ns with
      | nil=>simp at H
      | cons x r=>rfl
     rw[this]at W;exact BC bS.o rfl W
    (have bH:¬((ns.length:Int)<(ns.length:Int)):=by omega);have f3:=aD.o.af.fz 3;have f4:=aD.o.af.fz 4;have g3:=aD.o.af.c3;have g4:=aD.o.af.c4;generalize hh0:ns.headD 0=W at d aK;(have hn1:(1:Int)<=(ns.length:Int):=by omega);obtain⟨a',aQ⟩:∃a':Option Addr,(if cp=1 then some ((Aa g 0):Addr) else some (Aa g 1))=a':=⟨_,rfl⟩;have bV:=A1 (D5.e9 (Dy.rd bS.o) H a' (λh=>by rw[<-aQ,Ad (by omega)]) (λx I=>by rw[<-aQ]at I;split at I<;>cases I<;>rfl));(have bR:∀x,a'=some x->x.block=g:=λx I=>by rw[<-aQ]at I;split at I<;>cases I<;>rfl);have bC:∀g',(Value.slice a' (ns.length-1) (cp-1)).ownBlock=some g'->g'=g:=λg' hg=>by
     unfold Value.ownBlock at hg;cases I:a' with
     | none=>rw[I]at hg;simp at hg
     | some y=>rw[I]at hg;have:=bR y I;simp at hg;omega
    have aU:=A1 bC;have aM:Hid (w2.heap.size<=g):=bG.o g rfl;have bQ:BZ (wr.setCell (Aa xb 3) (A0 W)).drew xb 162 b nm s0 W (.slice none 0 0):=(aD.o.s3 W).af;have k9:A3 (One xb) wr (wr.setCell (Aa xb 3) (A0 W)).drew:=((A3.I (One xb) wr).ao (b:=xb) rfl 3 _).af;have Y:(wr.setCell (Aa xb 3) (A0 W)).drew.cell? (Aa g 0)=some (A0 W):=k9.bH d (λh=>by have h':g=xb:=h;have:=aM.o;have:=aH.o;omega);have a6:=A1 bQ;have bU:=A1 k9;go_wp2;refine BP (λw'=>A7 w' g 0 (A0 W)) 10
     (Bq [0,1,2,3,4,5,6,7,8,9] [9]) d ?_
    iterate 9 (refine Bg ?_;(try simp only[An]))
    refine Bw λK hK=>?_;go_simp;refine hK _ _ Y (λhS=>?_)
    (try simp only[An])
    refine Bl ?_;simp only[BI,BH];generalize (wr.setCell (Aa xb 3) (A0 W)).drew=w9 at a6 bU Y ⊢;have f94:=a6.o.fz 4;have g94:=a6.o.c4;have a2:=A1 (a6.o.s4 (.slice a' (ns.length-1) (cp-1)));have c104:=a2.o.c4;have a0:A3 (One xb) wr (w9.setCell (Aa xb 4) (.slice a' (ns.length-1) (cp-1))):=bU.o.ao rfl 4 _;(have aZ:Hid (A3 Ab w (w9.setCell (Aa xb 4) (.slice a' (ns.length-1) (cp-1)))):=aA.o.Ap a0 λx I aI=>by have bK:x=xb:=I;have:=aO.o;omega);have a3:Hid (D5 (w9.setCell (Aa xb 4) (.slice a' (ns.length-1) (cp-1))) (.slice a' (ns.length-1) (cp-1)) ns.tail):=Ds.Aj bV.o a0 λg' hg I=>by
     have bK:g'=xb:=I;have:=aU.o g' hg;have:=aM.o;have:=aH.o;omega
    have a5:=A1 (Xv _ _ _ a3.o (by rw[List.length_tail];have:=bL.o;omega));by_cases hr:Cx Ci ns.tail=true
    ·rw[hr]at a5;(have z:Hid (X=some ⟨W,ns.tail⟩):=by unfold Hid;rw[<-aK.o,Ah hr]);go_wp2_with (go_at_call 129;refine a5.m ?_;rintro e w5⟨rfl,nn,rfl⟩);go_ret2;have kk:=(A3.I Ab (w9.setCell (Aa xb 4) (.slice a' (ns.length-1) (cp-1)))).ba nn;exact .inr ⟨_,xb,_,z.o,rfl,a2.o.aj kk (λh=>h),Ds.Aj a3.o kk (λ_ _ h=>h),λg' hg=>by have:=aU.o g' hg;have:=aM.o;have:=aH.o;omega,aO.o,aZ.o.tr kk⟩
    ·(have bO:Cx Ci ns.tail=false:=by simpa using hr);rw[bO]at a5;(have z:Hid (X=none):=by unfold Hid;rw[<-aK.o,Ad hr]);go_wp2_with (go_at_call 129;refine a5.m ?_;rintro e w5⟨rfl,nn,rfl⟩);go_ret2;exact .inl ⟨z.o,rfl,aZ.o.ba nn⟩
end
def A2b{B b:Nat}{l:List UInt8}(w:World)(h:GD B b l w)(d:B<=w.heap.size):
 Calls Tryz.prog 197 #[.pointer (some ⟨b,0,none⟩)] w λe w'=>e=.returned (.string ⟨l.toArray⟩)/\Below B w w'/\∀k o,w.heap[k]?=some o->k≠b->(∀c fz,o≠.cells c 5 fz)->w'.heap[k]?=some o:=by
 refine(Any.Builder_String_any_k Tryz.lays169 Tryz.Builder_Extra_169 B b l w (h.imp Lib.BuilderAtF.of Lib.BuilderAtF.of) d).mono ?_;rintro e w'⟨I,_,z,O⟩;exact⟨I,z,λk o H E L=>O k o H (λe=>E (by simpa using e)) L⟩
def Bd.s1{w:World}{d:Nat}{T:TypeId}{p:Value}{name:ByteArray}{s:Nat}(h:Bd w d T p name s)(nm:ByteArray):Bd (w.setCell (Aa d 1) (.string nm)) d T p nm s:=Cq h
def A3.fe{Ft:Nat->Prop}{x:Nat}{w d z:World}(h:A3 Ft w d)(k:A3 (One x) d z):A3 (λk=>Ft k\/k=x) w z:=
 (h.aa λ_ _ h=>.inl h).Ap k λ_ h _=>.inr h
def Bd.af{w:World}{d:Nat}{T:TypeId}{p:Value}{name:ByteArray}{s:Nat}(h:Bd w d T p name s):Bd w.drew d T p name s:=by unfold Bd at h ⊢;exact h
section
variable {w:World} {b B xb:Nat} {P:PD} {Ft:Nat->Prop} {a c m:Nat} {n:Int}
def XC(h:Bn w b P Ft)(old nm:ByteArray)(E:Fit P a c m)(z:CN a c m):
 Ag 242 #[A5 b,.string old,.string nm] w (Al (A0 (P.aO old nm).1) λw'=>Aq w Ft w' (λw' d=>Bn w' b (P.aO old nm).2 d)):=
 XB h old nm (by have:=E.A4;have:=E.Aj;have:=z.a;have:=z.c;omega)
def OL(d:Int)(segs:List Int):(Ch d segs).length=8+8*segs.length:=by
 unfold Ch;rw[AY,CL]
 congr 1
 induction segs with
 | nil=>rfl
 | cons x r ih=>simp only[N5,AY,ih,CL,Cv];omega
def Fit.aI{P:PD}{a c m:Nat}(h:Fit P a c m)(nm:Bs)(s:Nat)(l:Bs):Fit (P.aI nm s l).2 (a+1) (c+1) (m+l.length+4):=by
 have z:=h.ai (A8 nm);have E:(AR s l).length=l.length+4:=by simp[AR,Hd]
 have d:=z.an (A8 nm) (AR s l);rw[E]at d;unfold PD.aI;split
 ·exact z.aa (As _) (As _) (by omega)
 ·split
  ·exact d.aa (As _) (As _) (by omega)
  ·exact(d.ae (A8 nm)).aa (As _) (As _) (by omega)
def Fit.ej{P:PD}{a c m:Nat}(h:Fit P a c m)(d:Int)(segs:List Int):Fit (P.ag d segs).2 (a+2) (c+2) (m+12+8*segs.length):=by
 have z:=h.aI Bo (AE AI) (Ch d segs);rw[OL]at z;unfold PD.ag;split
 ·exact z.aa (by omega) (by omega) (by omega)
 ·exact(z.aO (A8 Bo) (A8 AI)).aa (by omega) (by omega) (by omega)
def W6(w:World)(d f0:Int)(sv v0:Value)(segs:List Int)(hX:BZ w xb 162 b AI (AE AI) f0 v0)(h:Bn w b P Ft)(I:∀k,Ft k->k<w.heap.size)(hn:¬Ft xb)(hF:Fit P a c m)(hl:CN (a+2) (c+2) (m+12+8*segs.length))(hL:Lets B w)(hs:D5 w sv segs)(hf:AN d)(bL:∀x∈segs,AN x)(hsl:segs.length<=134217728):
 Ag 200 #[A5 xb,A0 d,sv] w λe w'=>
  e=.returned (A0 (P.ag d segs).1)/\BZ w' xb 162 b AI (AE AI) (if (P.ag d segs).1=0 then d else f0) (if (P.ag d segs).1=0 then sv else v0)/\Jp w Ft xb w' b (P.ag d segs).2:=by
 have aE:=hX.lt;have bE:BO 4 0=Bo:=rfl;have b6:Hid (∀Y,A3 Ab w Y->Ag 134 #[A0 4,A0 0] Y (Al (.string ⟨Bo.toArray⟩) λw'=>A3 Ab Y w')):=λY hc=>by
  have:=Mb (n:=0) Y 4 (by omega) (by omega) (by decide +kernel) (hL.aS hc);rw[show ((4:Nat):Int)=4 from rfl,bE]at this;exact this
 have hi:=OL d segs;have bG:CN (a+1) (c+1) m:=⟨by have:=hl.a;omega,by have:=hl.c;omega,by have:=hl.m;omega⟩;have aO:Hid (∀Y,A3 Ab w Y->_):=λY hc=>Q8 Bo (Ch d segs) (Jx AI) (B3.aH h I hc) (λk hk=>Bk (I k hk) hc.Ak) (by rw[hi];omega) hF bG;have aV:Hid (∀Y L,Bn Y b (P.aI Bo (AE AI) (Ch d segs)).2 L->_):=λY L h1=>XC h1 (A8 Bo) (A8 AI) (hF.aI _ _ _) ⟨by have:=hl.a;omega,by have:=hl.c;omega,by rw[hi];have:=hl.m;omega⟩;have aN:Hid (P.ag d segs=if (P.aI Bo (AE AI) (Ch d segs)).1≠0 then P.aI Bo (AE AI) (Ch d segs) else (P.aI Bo (AE AI) (Ch d segs)).2.aO (A8 Bo) (A8 AI)):=rfl;obtain⟨R,hR⟩:∃R,P.ag d segs=R:=⟨_,rfl⟩;rw[hR]at aN ⊢;have cS:Hid (∀wx x,AN x->_):=λwx x H=>L0 wx x H;have aB:Ch d segs=AQ d++segs.flatMap AQ:=rfl;obtain⟨dn,bB⟩:∃dn,Bo=dn:=⟨_,rfl⟩;obtain⟨nm,aY⟩:∃nm,AI=nm:=⟨_,rfl⟩;rw[aY]at hX aO aV aN ⊢;rw[bB]at b6 aO aV aN;obtain⟨s0,bM⟩:∃s0,AE nm=s0:=⟨_,rfl⟩;rw[bM]at hX aO aV aN ⊢;obtain⟨W,hW⟩:∃W,P.aI dn s0 (Ch d segs)=W:=⟨_,rfl⟩;rw[hW]at aO aV aN;obtain⟨Q,hQ⟩:∃Q,W.2.aO (A8 dn) (A8 nm)=Q:=⟨_,rfl⟩;rw[hQ]at aV aN;obtain⟨il,b1⟩:∃il,Ch d segs=il:=⟨_,rfl⟩;rw[b1]at aO aB hi;have bK:=A1 aB;have dG:=A1 hi;obtain⟨pa,aA,rfl,hcap1,a6⟩:=hs.Ce;unfold maxLen at a6;have dF:=A1 hs;have bI:=A1 I;have cE:=A1 hn;have cX:=A1 hX;have HFI:=A1 hf;have cG:=A1 bL;have bA:=A1 aE;have cZ:=A1 (Uo w);have cV:Hid (A3 Ab w (w.aC #[.pointer none,.slice none 0 0] 260)):=(A3.I _ w).ak _;have bU:=A1 (cS.o (w.aC #[.pointer none,.slice none 0 0] 260) d hf);clear hR bE aB aY bB bM hW hQ b1 hi bG h I hn hF hl hL hs hX hf bL aE
 go_enter func200,ntmps200
 go_wp2_with (fail);refine bU.m ?_;rintro e Y⟨rfl,aU⟩;have bD:Hid (GD w.heap.size w.heap.size [] Y):=cZ.o.aj aU (λ_ h=>h.elim);have cD:Hid (A3 Ab w Y):=cV.o.tr aU;have cP:Hid (w.heap.size<Y.heap.size):=Bk (by simp) aU.Ak;have bF:=A1 (Nl (t:=AQ d) Y bD.o (by rw[CL];simp) cD.o.Ak);clear aU bU cZ cV;go_wp2_with (fail);refine bF.m ?_;rintro e w2⟨rfl,aJ,a0⟩;have bR:Hid (GD w.heap.size w.heap.size (AQ d) w2):=aJ;have dH:Hid (A3 Ab w w2):=cD.o.Ap (A3.cj a0) λx H I=>by omega
 have cY:Hid (w.heap.size<w2.heap.size):=Bk cP.o a0.size;clear aJ a0 bF bD cD cP;go_wp2;obtain⟨bb,aZ⟩:∃bb,w.heap.size=bb:=⟨_,rfl⟩;rw[aZ]at bR cY ⊢;have bX:=A1 aZ;clear aZ;go_loopw [18] (λiv wr=>∃k:Nat,iv=A0 k/\k<=segs.length/\Hid (GD bb bb (AQ d++(segs.take k).flatMap AQ) wr/\A3 Ab w wr/\bb<wr.heap.size)) (λiv _=>segs.length-(intOf iv).toNat)
 case atStart=>exact⟨0,rfl,by omega,by simpa using bR.o,dH.o,cY.o⟩
 case round=>
  obtain⟨k,rfl,hk,hI⟩:=hrel;by_cases aK:k<segs.length
  ·obtain⟨i1,i2,i3⟩:=hI.o;obtain⟨g,o,rfl,c1⟩:=D5.at dF.o k aK;have H:=cG.o _ (BV aK);have a2:segs.take (k+1)=segs.take k++[segs[k]'aK]:=Dn aK;obtain⟨x,bJ⟩:∃x,(segs[k]'aK)=x:=⟨_,rfl⟩;rw[bJ]at c1 H a2;have d1:=i2.al c1;have a4:=A1 (cS.o wr x H);(have a9:Hid ((segs.take (k+1)).flatMap AQ=(segs.take k).flatMap AQ++AQ x):=by unfold Hid;rw[a2];simp);have bC:(AQ d++(segs.take k).flatMap AQ).length<=8+8*segs.length:=by
    have:=OL d (segs.take k);unfold Ch at this;rw[this,BU];omega
   obtain⟨pk,a5⟩:∃pk,AQ d++(segs.take k).flatMap AQ=pk:=⟨_,rfl⟩;(have aX:Hid (AQ d++(segs.take (k+1)).flatMap AQ=pk++AQ x):=by unfold Hid;rw[a9.o,<-Cc,a5]);rw[a5]at i1 bC;have aE:=CL x;obtain⟨ib,aB⟩:∃ib,AQ x=ib:=⟨_,rfl⟩;rw[aB]at a4 aX aE;have cA:=A1 i1;have bY:=A1 i2;have bQ:=A1 i3;have cM:Hid (∀w6,A3 Ab wr w6->_):=λw6 h6=>Nl (t:=ib) w6 (cA.o.aj h6 (λ_ h=>h.elim)) (by omega) (AM (ER bQ.o) h6.Ak);(have b9:(k:Int)<(segs.length:Int):=by omega);have hk0:=C3 k;clear i1 i2 i3 hI c1 bJ a2 a5 aB H bC aE a9;go_wp2_with (fail);refine a4.m ?_;rintro e w6⟨rfl,a1⟩;have cQ:=A1 a1;have cB:=A1 (cM.o w6 a1);clear a1 a4 cM;go_wp2_with (go_at_call 194;refine cB.m ?_;rintro e w7⟨rfl,aJ,b2⟩;have b8:=A1 aJ;have bS:=A1 b2;clear aJ b2);go_roundw
   case rel=>
    have c7:A3 (λk=>bb<=k) w6 w7:=A3.cj bS.o;refine⟨k+1,by go_num,by omega,by rw[aX.o];exact b8.o,?_,?_⟩
    ·exact(bY.o.tr cQ.o).Ap c7 λx H I=>by have:=bX.o;omega
    ·exact Bk bQ.o (AM cQ.o.Ak bS.o.size)
   case measure=>simp[intOf];omega
  ·obtain⟨i1,i2,i3⟩:=hI.o;(obtain rfl:k=segs.length:=by omega);rw[C6,<-bK.o]at i1;(have b9:¬((segs.length:Int)<(segs.length:Int)):=by omega);have fx:=cX.o.aj i2 (λh=>h);have g0:=fx.c0;have g1:=fx.c1;have g2:=fx.c2;have bV:Bd (wr.aC #[A5 b,.string (A8 nm),.int .u32 s0] 160) wr.heap.size 160 (A5 b) (A8 nm) s0:=BN wr _;have ka:A3 Ab wr (wr.aC #[A5 b,.string (A8 nm),.int .u32 s0] 160):=(A3.I _ wr).ak _;have bN:=A1 (b6.o _ (i2.tr ka));have cU:=A1 ka;have cO:=A1 bV;have cA:=A1 i1;have bY:=A1 i2;have bQ:=A1 i3;have FX:=A1 fx;clear i1 i2 i3 ka bV b6 hI fx;go_wp2_with (fail);refine bN.m ?_;rintro e w5⟨rfl,a3⟩;have aT:=cO.o.aj a3 (λh=>h);have cT:A3 Ab wr w5:=cU.o.tr a3;have b7:=aT.c1;have bZ:=aT.fz 1;have aH:=A1 (aT.s1 ⟨dn.toArray⟩);have b5:Hid (A3 Ab wr (w5.setCell (Aa wr.heap.size 1) (.string ⟨dn.toArray⟩))):=cT.bt (p:=(Aa wr.heap.size 1)) (λh=>by have h':wr.heap.size<wr.heap.size:=h;omega) _;clear a3 aT cT bN cO cU;generalize bH:wr.heap.size=db at *;have aQ:=A1 bH;clear bH;go_wp2;generalize w5.setCell (Aa db 1) (.string ⟨dn.toArray⟩)=w6 at aH b5 ⊢;have cJ:Hid (GD bb bb il w6.drew):=cA.o.aj b5.o.af (λ_ h=>h.elim);have b4:=A1 (A2b w6.drew cJ.o (by have:=bQ.o;have:=aQ.o;have:=b5.o.Ak;show bb<=w6.heap.size;omega));have aS:Hid (∀wx,Below bb w6.drew wx->(∀k o,w6.drew.heap[k]?=some o->k≠bb->(∀c fz,o≠.cells c 5 fz)->wx.heap[k]?=some o)->Bd wx db 160 (A5 b) ⟨dn.toArray⟩ s0/\A3 Ab w wx):=λwx H ho=>
    ⟨ho db _ aH.o.af (by have:=bQ.o;have:=aQ.o;omega) (λc fz e=>by cases e),(bY.o.tr b5.o.af).Ap (A3.cj H) λx H I=>by have:=bX.o;omega⟩
   have bT:Hid (∀wx,Bd wx db 160 (A5 b) ⟨dn.toArray⟩ s0->A3 Ab w wx->∀wy,Aq wx Ft wy (λw' z=>Bn w' b W.2 z)->Bd wy db 160 (A5 b) ⟨dn.toArray⟩ s0/\BZ wy xb 162 b nm s0 f0 v0/\Aq w Ft wy (λw' z=>Bn w' b W.2 z)):=λwx hf H wy hy=>
    ⟨hf.aj hy.1 (λh=>by have:=bI.o _ h;have:=bY.o.Ak;have:=aQ.o;omega),(cX.o.aj H (λh=>h)).aj hy.1 cE.o,hy.a6 H⟩
   have e0:=aH.o.af.c0;have e1:=aH.o.af.c1;have e2:=aH.o.af.c2;obtain⟨cH,dC⟩:=W;dsimp only at aO aV bT aN;clear b7 bZ g0 g1 g2 dG bK;by_cases hw:cH=0
   case neg=>
    (have a8:R=(cH,dC):=by rw[aN.o,Ah hw]);subst a8;(have hwb:(cH !=0)=true:=by simpa using hw);refine BP (λw'=>A7 w' db 0 (A5 b)/\A7 w' db 1 (.string ⟨dn.toArray⟩)/\A7 w' db 2 (.int .u32 s0)) 3
     [(0,true),(1,false),(2,false)] ⟨e0,e1,e2⟩ ?_
    (refine Bg ?_;(try simp only[Act.put,UZ,UY,UX,UW,UU]))
    refine Bw λK O=>?_;go_simp;refine b4.m ?_;rintro e w9⟨rfl,aF,aI⟩;obtain⟨E,X⟩:=aS.o w9 aF aI;refine O _ _ ⟨E.c0,E.c1,E.c2⟩ (λhS=>?_);have aG:=A1 (aO.o w9 X);have aM:=A1 (bT.o w9 E X);clear O K hS aF aI E X b4 aS aO bT
    (try simp only[An])
    refine Bw λK O=>?_;go_simp;refine aG.m ?_;rintro e aD⟨rfl,hI⟩;obtain⟨E,X,q3⟩:=aM.o aD hI;refine O _ _ ⟨E.c0,E.c1,E.c2⟩ (λhS=>?_);have dJ:=A1 X;have dA:=A1 q3;clear O K hS hI aG aM E X q3
    (try simp only[An])
    refine Bl ?_;simp only[BI,BH];go_wp2;go_ret;dsimp only
    obtain⟨r1,z,r2,r3,r4⟩:=dA.o;exact⟨rfl,dJ.o,r1.aa λ_ _ h=>.inl h,z,r2,r3,r4⟩
   case pos=>
    subst hw;(have a8:R=Q:=by rw[aN.o,Ad (by simp)]);subst a8;clear aN;refine BP (λw'=>A7 w' db 0 (A5 b)/\A7 w' db 1 (.string ⟨dn.toArray⟩)/\A7 w' db 2 (.int .u32 s0)) 3
     [(0,true),(1,false),(2,false)] ⟨e0,e1,e2⟩ ?_
    (refine Bg ?_;(try simp only[Act.put,UZ,UY,UX,UW,UU]))
    refine Bw λK O=>?_;go_simp;refine b4.m ?_;rintro e w9⟨rfl,aF,aI⟩;obtain⟨E,X⟩:=aS.o w9 aF aI;refine O _ _ ⟨E.c0,E.c1,E.c2⟩ (λhS=>?_);have aG:=A1 (aO.o w9 X);have aM:=A1 (bT.o w9 E X);have b0:=A1 E;have b3:=A1 X;clear O K hS aF aI E X b4 aS aO bT
    (try simp only[An])
    refine Bw λK O=>?_;go_simp;refine aG.m ?_;rintro e aD⟨rfl,hI⟩;obtain⟨E,X,q3⟩:=aM.o aD hI;refine O _ _ ⟨E.c0,E.c1,E.c2⟩ (λhS=>?_);obtain⟨r1,-⟩:=q3;obtain⟨-,L,r2,r3,r5⟩:=hI;have dD:=A1 b0.o.lt;have dI:=A1 b3.o.Ak;have cL:Hid (∀k,L k->Ft k\/w.heap.size<=k):=λk hk=>(r5 k hk).imp id λh=>AM dI.o h
    have cN:=A1 r1;have aL:=A1 (aV.o aD.drew L (B3.aH r2 r3 (A3.I _ aD).af));have x0:=X.af.c0;have x1:=X.af.c1;have x2:=E.af.c1;(have cF:Hid (¬L xb):=λh=>by rcases cL.o _ h with h|h;exact cE.o h;have:=bA.o;omega);have cC:Hid (¬L db):=λh=>by
     rcases r5 _ h with h|h
     ·have:=bI.o _ h;have:=bY.o.Ak;have:=aQ.o;omega
     ·have:=dD.o;omega
    have bW:Hid (∀wz,Aq aD.drew L wz (λw' z=>Bn w' b R.2 z)->(BZ wz xb 162 b nm s0 f0 v0/\Bd wz db 160 (A5 b) ⟨dn.toArray⟩ s0)/\Aq w Ft wz (λw' z=>Bn w' b R.2 z)):=λwz hz=>
     ⟨⟨X.af.aj hz.1 cF.o,E.af.aj hz.1 cC.o⟩,by
      obtain⟨z1,aP,z2,z3,z4⟩:=hz
      exact⟨(cN.o.af).Ap z1 λx H I=>(cL.o x H).resolve_right (by omega),aP,z2,z3,λk hk=>(z4 k hk).elim (λh=>cL.o k h) λh=>.inr (AM cN.o.Ak h)⟩⟩
    clear O K hS aG aM E X r1 r2 r3 r5 aV b0 b3
    (try simp only[An])
    refine Bl ?_;simp only[BI,BH];obtain⟨bO,a7⟩:=R;dsimp only at aL bW;have aW:Hid (∀wz,BZ wz xb 162 b nm s0 f0 v0->Aq w Ft wz (λw' z=>Bn w' b a7 z)->BZ ((wz.setCell (Aa xb 3) (A0 d)).setCell (Aa xb 4) (.slice pa segs.length aA)) xb 162 b nm s0 d (.slice pa segs.length aA)/\Jp w Ft xb ((wz.setCell (Aa xb 3) (A0 d)).setCell (Aa xb 4) (.slice pa segs.length aA)) b ⟨a7.D,a7.F⟩):=λwz H hz=>by
     obtain⟨z1,aP,z2,z3,z4⟩:=hz;have kz:A3 (One xb) wz ((wz.setCell (Aa xb 3) (A0 d)).setCell (Aa xb 4) (.slice pa segs.length aA)):=((A3.I (One xb) wz).ao (b:=xb) rfl 3 _).ao rfl 4 _;(have cI:¬aP xb:=λh=>by rcases z4 _ h with h|h;exact cE.o h;have:=bA.o;omega);exact⟨(H.s3 d).s4 _,z1.fe kz,aP,B3.aP z2 (kz.aH z3 λk hk e=>by have e':k=xb:=e;subst e';exact cI hk),λk hk=>Bk (z3 k hk) kz.Ak,z4⟩
    by_cases hr:bO=0
    case neg=>
     (have hrb:(bO !=0)=true:=by simpa using hr);go_wp2;refine BP (λw'=>A7 w' xb 0 (A5 b)/\A7 w' xb 1 (.string ⟨nm.toArray⟩)/\A7 w' db 1 (.string ⟨dn.toArray⟩)) 13
      (Bq [0,1,2,3,4,5,6,7,8,9,10,11,12] [12]) ⟨x0,x1,x2⟩ ?_
     iterate 12 (refine Bg ?_;(try simp only[An]))
     refine Bw λK O=>?_;go_simp;refine aL.m ?_;rintro e aR⟨rfl,hI⟩;obtain⟨⟨y1,y2⟩,y3⟩:=bW.o aR hI;refine O _ _ ⟨y1.c0,y1.c1,y2.c1⟩ (λhS=>?_);have dB:=A1 y1;have dE:=A1 y3;clear O K hS hI aL bW y1 y2 y3
     (try simp only[An])
     refine Bl ?_;simp only[BI,BH];go_wp2;go_ret;dsimp only
     obtain⟨r1,z,r2,r3,r4⟩:=dE.o;exact⟨rfl,dB.o,r1.aa λ_ _ h=>.inl h,z,r2,r3,r4⟩
    case pos=>
     subst hr;go_wp2;refine BP (λw'=>A7 w' xb 0 (A5 b)/\A7 w' xb 1 (.string ⟨nm.toArray⟩)/\A7 w' db 1 (.string ⟨dn.toArray⟩)) 13
      (Bq [0,1,2,3,4,5,6,7,8,9,10,11,12] [12]) ⟨x0,x1,x2⟩ ?_
     iterate 12 (refine Bg ?_;(try simp only[An]))
     refine Bw λK O=>?_;go_simp;refine aL.m ?_;rintro e aR⟨rfl,hI⟩;obtain⟨⟨y1,y2⟩,y3⟩:=bW.o aR hI;refine O _ _ ⟨y1.c0,y1.c1,y2.c1⟩ (λhS=>?_);have bP:=A1 (aW.o aR y1 y3);have g3:=y1.c3;have z3:=y1.fz 3;have g4:=(y1.s3 d).c4;have z4:=(y1.s3 d).fz 4;clear O K hS hI aL bW y1 y2 y3 aW
     (try simp only[An])
     refine Bl ?_;simp only[BI,BH];go_wp2;go_ret;exact⟨rfl,bP.o.1,bP.o.2⟩
end
end
section
open Go.RowKit
def CG(w:World)(jb b:Nat)(lv:Value)(last puts:Int)(ov:Value):Prop:=w.heap[jb]?=some (.cells #[.pointer (some ⟨b,0,none⟩),lv,.int .i64 last,.int .i64 puts,ov] 208 (0,0))
section
variable {w w':World} {jb b:Nat} {lv ov:Value} {last puts:Int}
def CG.c0(h:CG w jb b lv last puts ov):A7 w jb 0 (A5 b):=by unfold CG at h;simp[A7,World.cell?,h]
def CG.c1(h:CG w jb b lv last puts ov):A7 w jb 1 lv:=by unfold CG at h;simp[A7,World.cell?,h]
def CG.c2(h:CG w jb b lv last puts ov):A7 w jb 2 (A0 last):=by unfold CG at h;simp[A7,World.cell?,h]
def CG.c3(h:CG w jb b lv last puts ov):A7 w jb 3 (A0 puts):=by unfold CG at h;simp[A7,World.cell?,h]
def CG.c4(h:CG w jb b lv last puts ov):A7 w jb 4 ov:=by unfold CG at h;simp[A7,World.cell?,h]
def CG.fz(h:CG w jb b lv last puts ov)(o:Nat):w.frozen? (Aa jb o)=false:=by unfold CG at h;simp[World.frozen?,h]
def CG.lt(h:CG w jb b lv last puts ov):jb<w.heap.size:=By h
def CG.s1(h:CG w jb b lv last puts ov)(x:Value):CG (w.setCell (Aa jb 1) x) jb b x last puts ov:=Cq h
def CG.s2(h:CG w jb b lv last puts ov)(x:Int):CG (w.setCell (Aa jb 2) (A0 x)) jb b lv x puts ov:=Cq h
def CG.s3(h:CG w jb b lv last puts ov)(x:Int):CG (w.setCell (Aa jb 3) (A0 x)) jb b lv last x ov:=Cq h
def CG.s4(h:CG w jb b lv last puts ov)(x:Value):CG (w.setCell (Aa jb 4) x) jb b lv last puts x:=Cq h
def CG.af(h:CG w jb b lv last puts ov):CG w.drew jb b lv last puts ov:=by unfold CG at h ⊢;exact h
def CG.aj{S:Nat->Prop}(h:CG w jb b lv last puts ov)(d:A3 S w w')(z:¬S jb):CG w' jb b lv last puts ov:=d.aj h z
end
structure Dx (w:World) (jb b:Nat) (lv ov:Value) (J:Jn):Prop where
 Af:CG w jb b lv J.A9 J.puts ov
 Am:Dy w lv J.Am
 AA:(J.AA=none/\ov=.pointer none)\/∃n s lb,J.AA=some (n,s)/\ov=.pointer (some ⟨lb,0,none⟩)/\Bd w lb 237 (.pointer (some ⟨b,0,none⟩)) ⟨(Ae n).toArray⟩ s/\s<4294967296
def Dh(jb:Nat)(lv ov:Value)(k:Nat):Prop:=k=jb\/lv.ownBlock=some k\/ov=.pointer (some ⟨k,0,none⟩)
section
variable {w w':World} {jb b:Nat} {lv ov:Value} {J:Jn}
def Dx.aP(h:Dx w jb b lv ov J)(z:FW (Dh jb lv ov) w w'):Dx w' jb b lv ov J:=by
 refine⟨(z jb (.inl rfl)).trans h.Af,Ay h.Am λg L=>z g (.inr (.inl L)),?_⟩;rcases h.AA with d|⟨n,s,E,d,rfl,I,H⟩
 ·exact .inl d
 ·exact .inr ⟨n,s,E,d,rfl,(z E (.inr (.inr rfl))).trans I,H⟩
def Dx.lt(h:Dx w jb b lv ov J){k:Nat}(d:Dh jb lv ov k):k<w.heap.size:=by
 rcases d with rfl|d|rfl
 ·exact h.Af.lt
 ·exact AB h.Am d
 ·rcases h.AA with⟨_,z⟩|⟨n,s,lb,_,z,E,_⟩
  ·cases z
  ·cases z;exact E.lt
def Dx.Aj{S:Nat->Prop}(h:Dx w jb b lv ov J)(z:A3 S w w')(E:∀k,Dh jb lv ov k->¬S k):Dx w' jb b lv ov J:=
 h.aP (z.aH (λ_ d=>h.lt d) E)
def Dx.aw(h:Dx w jb b lv ov J)(d:A3 Ab w w'):Dx w' jb b lv ov J:=h.Aj d λ_ _ h=>h
end
def OO(l:List Int)(j:Nat)(d:j<l.length):l.getD j 0=l[j]'d:=by simp[List.getD,d]
def A0Y(w:World)(W Y:Value)(d h:List Int)(L:D5 w W d)(I:D5 w Y h):
 Ag 241 #[W,Y] w (Al (.bool (decide (d=h))) λw'=>∃q,w'=w.drewN q):=by
 obtain⟨a1,c1,rfl,p1,p2⟩:=L.Ce;obtain⟨a2,c2,rfl,q1,q2⟩:=I.Ce;unfold maxLen at p2 q2;by_cases X:d.length=h.length
 case neg=>
  have H:¬d=h:=λe=>X (by rw[e]);refine(Tryz.slices_Equal_int_lens a1 a2 _ c1 _ c2 w X).mono ?_;rintro e w'⟨rfl,rfl⟩;exact⟨by rw[CZ H],0,rfl⟩
 case pos=>
 by_cases h0:d.length=0
 ·have e1:d=[]:=GR.1 h0;have e2:h=[]:=GR.1 (by omega);subst e1;subst e2;refine(Tryz.slices_Equal_int_empty a1 a2 c1 0 c2 w (by omega)).mono ?_;rintro e w'⟨rfl,rfl⟩;exact⟨by simp,0,rfl⟩
 ·obtain⟨g1,o1,rfl,-⟩:=D5.at L 0 (by omega);obtain⟨g2,o2,rfl,-⟩:=D5.at I 0 (by omega);refine(Tryz.slices_Equal_int g1 o1 _ c1 g2 o2 _ c2 d h w (As _) (As _) (by omega) (by omega) (λj z=>?_) (λj z=>?_)).mono ?_
  ·obtain⟨g,o,e,O⟩:=D5.at L j z;cases e;rw[OO d j z];exact O
  ·obtain⟨g,o,e,O⟩:=D5.at I j z;cases e;rw[OO h j z];exact O
  rintro e w'⟨rfl,q,rfl⟩;refine⟨?_,q,rfl⟩;rw[C6,C6];by_cases E:d=h
  ·rw[CH E,E];simp
  ·rw[CZ E,GA.2 E]
def RD:∀(k s:Nat) (l:Bs),(DA k s l).1.length*21<=l.length
 | 0,_,l=>by simp[DA]
 | k+1,s,l=>by
  unfold DA;split
  ·simp
  ·rename_i h;split
   ·have:=RD k (AT s (l.take 17)) (l.drop 21);rw[Cu]at this;simp only[Cv];omega
   ·simp
def Y4(s:Nat)(ahead:Int)(l:Bs):(G4 s ahead l).1.length*21<=l.length:=by
 unfold G4;split
 ·simp
 ·split
  ·split
   ·have:=RD l.length (AT s (l.take 8)) (l.drop 12);rw[Cu]at this;simp only;omega
   ·simp
  ·simp
def Zl{P:PD}{a c m:Nat}(h:Fit P a c m)(n ahead:Int):(P.aW n ahead).1.length*21<=m:=by
 have d:=Lh h (Ae n);unfold PD.aW Gs;split
 ·simp
 ·exact AM (Y4 _ _ _) d
end
section
open Go.RowKit
attribute [local go_sem ↓] CE
section
variable {w:World} {b B jb:Nat} {P:PD} {Ft:Nat->Prop} {a c m:Nat} {lv ov:Value} {J:Jn}
def O0(w:World)(h:Bn w b P Ft)(aA:∀k,Ft k->k<w.heap.size)(hJ:Dx w jb b lv ov J)(hF:Fit P a c m)(hl:CN a c m)(hm:J.Am.length*m<=70368744177664)(hn:∀n∈J.Am,CJ n)(hL:Lets B w):
 Ag 106 #[A5 jb] w λe w'=>∃v,e=.returned (.tuple #[v,A0 (P.puts J.Am).2])/\AW w' v (P.puts J.Am).1/\(∀g,v.ownBlock=some g->w.heap.size<=g)/\A3 Ab w w':=by
 obtain⟨i0,hi,aR,aV,aU⟩:=E7 Ih;have c0:=hJ.Af.c0;have c1:=hJ.Af.c1;have aI:=A1 (Dy.rd hJ.Am);obtain⟨la,lcap,rfl,lc1,aO⟩:=aI.o.Ce;unfold maxLen at aO;have aX:Hid (P.puts J.Am=P.bq J.Am []):=rfl;generalize hR:P.puts J.Am=R at aX ⊢;have a1:Hid (∀w1,A3 Ab w w1->∀n∈J.Am,∀ahead,Ag 149 #[A5 b,A0 n,A0 ahead] w1 λe w'=>∃v,e=.returned (.tuple #[v,A0 (P.aW n ahead).2])/\AW w' v (P.aW n ahead).1/\(∀g,v.ownBlock=some g->w1.heap.size<=g)/\A3 Ab w1 w'):=λw1 hc n aT ahead=>
  Y5 w1 ahead (B3.aH h aA hc) (λk hk=>Bk (aA k hk) hc.Ak) (hn n aT) (hL.aS hc) (by have h1:(DP P.D P.F ⟨(BO 1 n).toArray⟩).1.length<=m:=Lh hF (Ae n);have:=hl.m;omega)
 have a2:Hid (∀n ahead,(P.aW n ahead).1.length*21<=m):=λn ahead=>Zl hF n ahead;have aY:=A1 hm;generalize J.Am=Am at *;have a3:∀k,k<=Am.length->k*m<=70368744177664:=λk hk=>AM (Hq m hk) aY.o;have aS:=A1 a3
 go_enter func106,ntmps106
 go_wp2;go_loopw [4,14] (λv iv wr=>∃(k:Nat) (d:List Pu),iv=A0 k/\k<=Am.length/\Hid (AW wr v d/\(∀g,v.ownBlock=some g->w.heap.size<=g)/\A3 Ab w wr/\d.length*21<=k*m/\R=P.bq (Am.drop k) d)) (λ_ iv _=>Am.length-(intOf iv).toNat)
 case atStart=>exact⟨0,[],rfl,by omega,CD _ _ _ _,λg E=>by simp[Value.ownBlock]at E,A3.I _ _,by simp,aX.o⟩
 case round=>
  obtain⟨k,d,rfl,hk,hI⟩:=hrel;obtain⟨i1,i2,i3,i4,i5⟩:=hI.o;obtain⟨ap,cp,rfl,hcap1,aB,-⟩:=B8 i1;unfold maxLen at aB;by_cases z:k<Am.length
  ·obtain⟨g,o,rfl,d1⟩:=D5.at aI.o k z;have W:=BV z;have aJ:=Fw z;generalize hne:(Am[k]'z)=n at d1 W aJ;have e1:=i3.al d1;have e0:=i3.al c0;have I:=A1 (a1.o wr i3 n W d.length);have O:=A1 (a2.o n d.length);rw[aJ]at i5;have aL:Hid (R=if (P.aW n d.length).2≠0 then ([],(P.aW n d.length).2) else P.bq (Am.drop (k+1)) (d++(P.aW n d.length).1)):=i5;generalize hX:P.aW n d.length=X at I O aL;obtain⟨aE,aP⟩:=X;dsimp only at I O aL;have aK:=A1 i1;have aM:=A1 i2;have aF:=A1 i3;have aW:=A1 i4;(have aQ:(k:Int)<(Am.length:Int):=by omega);have hk0:=C3 k;by_cases hx:aP=0
   case neg=>
    (have hxb:(aP !=0)=true:=by simpa using hx);(have aD:R=([],aP):=by rw[aL.o,Ah hx]);subst aD;go_wp2_with (go_at_call 149;refine I.m ?_;rintro e w6⟨v,rfl,-,-,L⟩;have H:=A1 L);go_ret2;exact⟨_,rfl,CD _ _ _ _,λg E=>by simp[Value.ownBlock]at E,aF.o.tr H.o⟩
   case pos=>
    subst hx;(have a0:Hid (R=P.bq (Am.drop (k+1)) (d++aE)):=by unfold Hid;rw[aL.o,Ad (by simp)]);have a4:=A1 (aS.o (k+1) z);go_wp2_with (fail);refine I.m ?_;rintro e w6⟨v,rfl,hv,hvo,L⟩;obtain⟨ap2,cp2,rfl,-,Y,-⟩:=B8 hv;unfold maxLen at Y;have H:=A1 L;have aG:Hid (w6.ownsRow 0 113 3 (.slice ap d.length cp) d.length (B9 d)):=Ay aK.o λg E=>L.Ao g (AB aK.o E) (λh=>h);have aH:=A1 (Src.bO underlying97 hv (I3 aE));go_wp2_with (at_builtin;refine D4 rfl (.tmp 32) (.tmp 33) 97 97 rfl 113 i0 _ 3 24 underlying97 hi aR aV aU rfl (by decide) (.slice ap d.length cp) d.length (B9 d) (by rfl) aG.o _ aE.length _ (by rfl) aH.o (by have:=O.o;have:=aW.o;have:=a4.o;rw[MS]at this;omega) ?_;intro a8 cap8 w8 hA;have aZ:=A1 hA);go_roundw
    case rel=>
     have hA:=aZ.o;have aN:=hA.Aj (S:=λk=>(Value.slice ap d.length cp).ownBlock=some k) λ_ h=>h;refine⟨k+1,d++aE,by go_num,by omega,?_,?_,?_,?_,a0.o⟩
     ·(have e:(d++aE).length=d.length+aE.length:=by simp);unfold AW;rw[IS,e];exact hA.AA
     ·intro g E;rcases hA.Cj with h|h
      ·rw[h]at E;exact aM.o g E
      ·rw[h]at E;cases E;have:=aF.o.Ak;have:=H.o.Ak;omega
     ·exact(aF.o.tr H.o).Ap aN λy hy aA=>by have:=aM.o y hy;omega
     ·have:=O.o;have:=aW.o;rw[MS];simp only[AY];omega
    case measure=>simp[intOf];omega
  ·(obtain rfl:k=Am.length:=by omega);have aK:=A1 i1;have aM:=A1 i2;have aF:=A1 i3;(have aD:R=(d,0):=by rw[i5,Gn];rfl);subst aD;(have aQ:¬((Am.length:Int)<(Am.length:Int)):=by omega);go_wp2;go_ret2;exact⟨_,rfl,aK.o,aM.o,aF.o⟩
end
end
end Go.Proofs.YtodcnkbblippnaaGreatDoor
