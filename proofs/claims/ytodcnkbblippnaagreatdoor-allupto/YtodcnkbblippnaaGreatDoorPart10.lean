/- Part 10 of a proof: walks of the program. -/
import Derived.Test.YtodcnkbblippnaaGreatDoorPart08
namespace Go.Proofs.YtodcnkbblippnaaGreatDoor
set_option maxRecDepth 100000
set_option maxHeartbeats 32000000
set_option linter.defProp false
open Go.Proofs.Tryz
section
open Go.RowKit
attribute [local go_sem ↓] CL
def Tryz.ga:(Tryz.prog.info? 9).map (λi=>(i.zero,i.size,i.bytes))=some (some (.string ⟨#[]⟩),1,16):=by kernel_rfl
def Y5:∃d,Tryz.prog.info? 9=some d/\d.zero=some (.string ⟨#[]⟩)/\d.size=1/\d.bytes=16:=by
 have h:=Tryz.ga;cases hx:Tryz.prog.info? 9 with
 | none=>rw[hx]at h;cases h
 | some i=>rw[hx]at h;simp at h;exact⟨i,rfl,h.1,h.2.1,h.2.2⟩
def KB(l:gF Bs):gF Bs:=l.mergeSort λx y=>decide (x<=y)
def A1Y(l:gF Bs):(KB l).Pairwise λa b=>¬b<a:=by
 have h:=Wh (le:=λx y:Bs=>decide (x<=y)) (λa b c E z=>by simp at E z ⊢;exact List.le_trans E z) (λa b=>by simp;exact List.le_total a b) l;exact h.imp λd=>by simpa using d
def UA(l:gF Bs)(x:Bs):x∈KB l↔x∈l:=A4L
def A1X(l:gF Bs):(KB l).length=l.length:=Qz _
section
variable{w:gC}{ab b xb jb B:Nat}{sv ov lv jo:gD}{A:Ar}{P:PD}{Ft FT:Nat->Prop}{a c m:Nat}
def Ja{w:gC}{e X size z n n2 E d:Nat}{v Y:gD}{xs O:gF gD}(h:w.ownsRow E e size v n xs)(h2:w.ownsRow d X z Y n2 O)(I:e≠X){g:Nat}(hg:v.ownBlock=some g):¬Y.ownBlock=some g:=λL=>by
 have⟨c,hc⟩:=B9 h hg;have⟨c2,hc2⟩:=B9 h2 L;exact BR hc hc2 I rfl
def T5(w:gC)(h:Cv w ab b xb jb sv ov lv jo A P Ft)(hF:Fit P a c m)(hl:CV a c m)(hn:∀n∈A.ix.sd,CK n)(dH:∀n∈A.j.Ao,CK n)(hsl:A.ix.sd.length<=1073741824)(dG:A.j.Ao.length<=1073741824)(hL:Lets B w):
 Ag 100 #[A5 ab] w λe w'=>∃v1 v2,e=.returned (.tuple #[v1,v2])/\DC w' v1 (A.aX P)/\DC w' v2 (A.aU P)/\(∀g,v1.ownBlock=some g->w.heap.size<=g)/\(∀g,v2.ownBlock=some g->w.heap.size<=g)/\A4 Aa w w':=by
 obtain⟨i0,hi,aW,a3,aY⟩:=Y5;have cG:=A1 h;have cM:Hid (∀L k n,A4 Aa w L->1<=k/\k<=4->CK n->Ag 134 #[A0 (k:Nat),A0 n] L λe w'=>e=.returned (.string ⟨(BU k n).toArray⟩)/\A4 Aa L w'):=λL k n hc hk hn=>N1 (n:=n) L k hk ⟨by have:=hn.1;omega,hn.2.1⟩ hn.2.2 (hL.aL hc);have dK:=A1 (cM.o w 3 0 (A4.C _ w) iC (I3 iC iC));have dL:Hid (∀L,A4 Aa w L->Ag 136 #[A5 jb] L λe w'=>∃v,e=.returned v/\DY w' v A.j.Ao/\(∀g,v.ownBlock=some g->L.heap.size<=g)/\A4 Aa L w'):=λL hc=>A0N L (h.jn.ak hc) dG;have LI:Hid (∀L,A4 Aa w L->Ag 76 #[A5 b] L λe w'=>∃v,e=.returned v/\DC w' v P.Az/\A4 Aa L w'/\(∀g,v.ownBlock=some g->L.heap.size<=g)):=λL hc=>Pm (AU.av h.dk h.lt hc) hF hl;have dD:P.Az.length<=1073741824:=by rw[Lw];exact AO hF.A6 hl.a
 have aM:Hid (A.Az=[AJ]++A.j.Ao.map Ah++A.ix.sd.map AH):=rfl;have bM:Hid (A.aX P=P.Az.filter λnm=>decide (nm∈A.Az)):=rfl;have bG:Hid (A.aU P=P.Az.filter λnm=>!decide (nm∈A.Az)):=rfl;have cY:=A1 hn;have cS:=A1 dH;obtain⟨dN,cB⟩:∃x,A.aX P=x:=⟨_,rfl⟩;obtain⟨dM,bW⟩:∃x,A.aU P=x:=⟨_,rfl⟩;obtain⟨E,bH⟩:∃x,A.Az=x:=⟨_,rfl⟩;rw[cB,bH]at bM;rw[bW,bH]at bG;rw[bH]at aM;rw[cB,bW];have b3:E.length<=4294967296:=by rw[aM.o];simp;omega
 have b5:=h.sd;generalize hns:P.Az=ns at *;generalize hlgs:A.j.Ao=lgs at *;generalize hss:A.ix.sd=ss at *;obtain⟨sa,scap,rfl,sc1,cU⟩:=b5.BW;unfold maxLen at cU;have cT:=A1 b5
 go_enter func100,ntmps100
 go_wp2_with (fail);refine dK.k ?_;rintro L b2;have e3:BU ((3:Nat):Int) 0=AJ:=rfl;rw[e3];have bI:A4 Aa w (L.alloc (.cells #[.string ⟨AJ.toArray⟩] 9)):=b2.ai _;have a2:=((cG.o.ak bI).Ae).c2;have a7:Hid (DC (L.alloc (.cells #[.string ⟨AJ.toArray⟩] 9)) (.slice (some (A9 L.heap.size 0)) 1 1) [AJ]):=
  ⟨rfl,.inr ⟨L.heap.size,1,_,rfl,Cb _,Bn L _,An _,iF,rfl,rfl⟩⟩
 have cO:=A1 (dL.o _ bI);have dA:=A1 bI;have cJ:=A1 <| b2.Ak;go_wp2_with (fail);refine cO.o.mono ?_;rintro e w2⟨v,rfl,hv,dE,aX⟩;obtain⟨la,bR,rfl,lc1,cN⟩:=(DY.rd hv).BW;unfold maxLen at cN;have dI:=A1 hv;have HLO:=A1 dE;have cX:=A1 <| dA.o.tr aX;have bB:Hid (DC w2 (.slice (some (A9 L.heap.size 0)) 1 1) [AJ]):=Au a7.o λg d=>aX.Al g (Aw a7.o d) (λh=>h);go_wp2;go_loopw [4,23] (λv iv wr=>∃k:Nat,iv=A0 k/\k<=lgs.length/\Hid (DC wr v ([AJ]++(lgs.take k).map Ah)/\(∀g,v.ownBlock=some g->w.heap.size<=g)/\A4 Aa w wr/\DY wr (.slice la lgs.length bR) lgs)) (λ_ iv _=>lgs.length-(intOf iv).toNat)
 ·exact⟨0,rfl,iC,by simpa using bB.o,λg d=>by simp[Value.ownBlock]at d;have:=cJ.o;omega,cX.o,dI.o⟩
 ·obtain⟨k,rfl,hk,hI⟩:=hrel;have⟨i1,i2,i3,i4⟩:=hI.o;obtain⟨ap,cp,rfl,aQ,aJ,-⟩:=B8 i1;unfold maxLen at aJ;by_cases I:k<lgs.length
  ·obtain⟨g,o,rfl,d1⟩:=Dh.at (DY.rd i4) k I;have aD:=cS.o _ (BT I);have aA:=Ds I;generalize bS:(lgs[k]'I)=n at d1 aD aA;have aB:=A1 (cM.o wr 1 n i3 iC aD);rw[show ((1:Nat):Int)=1 from rfl]at aB;(have aG:Hid ([AJ]++(lgs.take (k+1)).map Ah=([AJ]++(lgs.take k).map Ah)++[Ah n]):=by unfold Hid;rw[aA];simp);have bE:BU 1 n=Ah n:=rfl;rw[bE]at aB;(have bP:([AJ]++(lgs.take k).map Ah).length<=4294967296:=by simp;omega);generalize Y:[AJ]++(lgs.take k).map Ah=z at i1 i2 aG bP aQ;have bO:=A1 bP;(have el:([AJ]++(lgs.take k).map Ah).length=z.length:=by rw[Y])
   try rw[el]
   generalize b8:Ah n=nm at aB aG;have bY:=A1 i1;have cF:=A1 i2;have cE:=A1 i3;have dC:=A1 i4;have aP:(k:Int)<(lgs.length:Int):=iC;have b1:(0:Int)<=(k:Int):=GA _;go_wp2_with (fail);refine aB.k ?_;rintro w6 aR;have bV:=A1 aR;have X:Hid ((w6.alloc (.cells #[.string ⟨nm.toArray⟩] 9)).ownsRow 0 9 1 (.slice ap z.length cp) z.length (Dw z)):=Au bY.o λg d=>(aR.ai _).Al g (Aw bY.o d) (λh=>h)
   have aI:=A1 (Src.bb (size:=1) (B:=w6.heap.size) HU w6 #[.string ⟨nm.toArray⟩] 9 iE 1 1 rfl (Ns [nm]));go_wp2_with (at_builtin;refine CX rfl (.tmp 27) (.tmp 30) 121 121 rfl 9 i0 _ 1 16 HU hi aW a3 aY rfl iF (.slice ap z.length cp) z.length (Dw z) (by rfl) X.o _ 1 _ (by rfl) aI.o (by have:=bO.o;omega) ?_;intro a8 aF w8 O;have bD:=A1 O);go_roundw
   ·have O:=bD.o;have k7:A4 Aa wr (w6.alloc (.cells #[.string ⟨nm.toArray⟩] 9)):=bV.o.ai _;have aH:=O.Am (S:=λk=>(Value.slice ap z.length cp).ownBlock=some k) λ_ h=>h;have k8:A4 (λk=>(Value.slice ap z.length cp).ownBlock=some k) wr w8:=(k7.aS).tr aH;have e:(z++[nm]).length=z.length+1:=iE;have e2:Dw (z++[nm])=Dw z++Dw [nm]:=Nt _ _;refine⟨k+1,by go_num,iC,?_,?_,?_,?_⟩
    ·rw[aG.o];unfold DC;rw[e,e2];exact O.AB
    ·intro g d;rcases O.BX with h|h
     ·rw[h]at d;exact cF.o g d
     ·rw[h]at d;cases d;have:=cE.o.Ak;have:=k7.Ak;have:=bV.o.Ak;omega
    ·exact cE.o.AF k8 λy hy aV=>by have:=cF.o y hy;omega
    ·exact Au dC.o λg d=>k8.Al g (Aw dC.o d) (Ja dC.o bY.o iF d)
   ·simp[intOf];omega
  ·(obtain rfl:k=lgs.length:=iC);rw[C5]at i1 i2;(have aP:¬((lgs.length:Int)<(lgs.length:Int)):=iC);obtain⟨z,Y⟩:=iG ([AJ]++lgs.map Ah);(have el:([AJ]++(lgs.take lgs.length).map Ah).length=z.length:=by rw[C5,Y]);rw[Y]at i1 i2;rw[Y]at aM
   try rw[el]
   have bY:=A1 i1;have cF:=A1 i2;have cE:=A1 i3;have a1:=(cG.o.ak i3).Ae.c1;have x4:=(cG.o.ak i3).ix.c4;have HCUR:=A1 Y;go_wp2;(have bP:z.length+ss.length<=4294967296:=by have:=b3;rw[aM.o]at this;simpa using this);go_loopw [4,41] (λv iv wr=>∃k:Nat,iv=A0 k/\k<=ss.length/\Hid (DC wr v (z++(ss.take k).map AH)/\(∀g,v.ownBlock=some g->w.heap.size<=g)/\A4 Aa w wr)) (λ_ iv _=>ss.length-(intOf iv).toNat)
   ·exact⟨0,rfl,iC,by simpa using bY.o,cF.o,cE.o⟩
   ·obtain⟨k,rfl,hk,hI⟩:=hrel;have⟨i1,i2,i3⟩:=hI.o;obtain⟨aK,aL,rfl,bC,bF,-⟩:=B8 i1;unfold maxLen at bF;by_cases I:k<ss.length
    ·obtain⟨g,o,rfl,d0⟩:=Dh.at cT.o k I;have d1:=i3.ad d0;have aD:=cY.o _ (BT I);have aA:ss.take (k+1)=ss.take k++[ss[k]'I]:=Ds I;generalize bS:(ss[k]'I)=n at d0 d1 aD aA;have aB:=A1 (cM.o wr 2 n i3 iC aD);rw[show ((2:Nat):Int)=2 from rfl]at aB;(have aG:Hid (z++(ss.take (k+1)).map AH=(z++(ss.take k).map AH)++[AH n]):=by unfold Hid;rw[aA];simp);have bE:BU 2 n=AH n:=rfl;rw[bE]at aB;(have a5:(z++(ss.take k).map AH).length<=4294967296:=by simp;omega);generalize dF:z++(ss.take k).map AH=cu at i1 i2 aG a5 bC;have bO:=A1 a5;(have el:(z++(ss.take k).map AH).length=cu.length:=by rw[dF])
     try rw[el]
     generalize b8:AH n=nm at aB aG;have aT:=A1 i1;have aN:=A1 i2;have aU:=A1 i3;have aP:(k:Int)<(ss.length:Int):=iC;have b1:(0:Int)<=(k:Int):=GA _;go_wp2_with (fail);refine aB.k ?_;rintro w6 aR;have bV:=A1 aR;have X:Hid ((w6.alloc (.cells #[.string ⟨nm.toArray⟩] 9)).ownsRow 0 9 1 (.slice aK cu.length aL) cu.length (Dw cu)):=Au aT.o λg d=>(aR.ai _).Al g (Aw aT.o d) (λh=>h)
     have aI:=A1 (Src.bb (size:=1) (B:=w6.heap.size) HU w6 #[.string ⟨nm.toArray⟩] 9 iE 1 1 rfl (Ns [nm]));go_wp2_with (at_builtin;refine CX rfl (.tmp 45) (.tmp 48) 121 121 rfl 9 i0 _ 1 16 HU hi aW a3 aY rfl iF (.slice aK cu.length aL) cu.length (Dw cu) (by rfl) X.o _ 1 _ (by rfl) aI.o (by have:=bO.o;omega) ?_;intro a8 aF w8 O;have bD:=A1 O);go_roundw
     ·have O:=bD.o;have k7:A4 Aa wr (w6.alloc (.cells #[.string ⟨nm.toArray⟩] 9)):=bV.o.ai _;have aH:=O.Am (S:=λk=>(Value.slice aK cu.length aL).ownBlock=some k) λ_ h=>h;have k8:A4 (λk=>(Value.slice aK cu.length aL).ownBlock=some k) wr w8:=(k7.aS).tr aH;have e:(cu++[nm]).length=cu.length+1:=iE;have e2:Dw (cu++[nm])=Dw cu++Dw [nm]:=Nt _ _;refine⟨k+1,by go_num,iC,?_,?_,?_⟩
      ·rw[aG.o];unfold DC;rw[e,e2];exact O.AB
      ·intro g d;rcases O.BX with h|h
       ·rw[h]at d;exact aN.o g d
       ·rw[h]at d;cases d;have:=aU.o.Ak;have:=k7.Ak;have:=bV.o.Ak;omega
      ·exact aU.o.AF k8 λy hy aV=>by have:=aN.o y hy;omega
     ·simp[intOf];omega
    ·(obtain rfl:k=ss.length:=iC);rw[C5,<-aM.o]at i1 i2;(have aP:¬((ss.length:Int)<(ss.length:Int)):=iC);(have el:(z++(ss.take ss.length).map AH).length=E.length:=by rw[C5,aM.o])
     try rw[el]
     have dO:=A1 (Yi wr _ E i1 iC);have aN:=A1 i2;have aU:=A1 i3;go_wp2_with (fail);refine dO.k ?_;rintro w3⟨cI,aX⟩;(have dB:Hid (A4 Aa w w3):=aU.o.AF aX λy hy aV=>by have:=aN.o y hy;omega);have cZ:Hid (Hi w3 (.slice aK E.length aL) (KB E)):=DC.rd cI;have cQ:=A1 (LI.o w3 dB.o);have a0:=(cG.o.ak dB.o).Ae.c0;go_wp2_with (fail);refine cQ.o.mono ?_;rintro e w4⟨v,rfl,bX,b4,hvo4⟩;obtain⟨na,ncap,rfl,nc1,cP⟩:=(DC.rd bX).BW;unfold maxLen at cP;have cV:=A1 (DC.rd bX);have cL:Hid (A4 Aa w w4):=dB.o.tr b4;have bJ:=A1 (cZ.o.Am b4 (λ_ _ h=>h));have a9:Hid (∀x,decide (x∈KB E)=decide (x∈E)):=λx=>by
      by_cases h:x∈E
      ·rw[CN h,CN ((UA E x).2 h)]
      ·rw[CO h,CO λh'=>h ((UA E x).1 h')]
     have bA:=A1Y E;have a6:=A1X E;generalize hSN:KB E=SN at bJ a9 bA a6;have b0:=A1 bA;obtain⟨sn,bZ⟩:=iG E.length
     try rw[bZ]
     rw[bZ]at bJ a6;have hsnl:sn<=4294967296:=iC;have dJ:Hid (∀wx x,A4 Aa w4 wx->Ag 138 #[.slice aK sn aL,.string ⟨x.toArray⟩] wx λe w'=>∃i,e=.returned (.tuple #[A0 i,.bool (decide (x∈E))])/\∃q,w'=wx.drewN q):=λwx x hx=>by
      have:=A3w wx _ SN x (bJ.o.Am hx (λ_ _ h=>h)) iC b0.o;rw[a9.o x]at this;exact this
     have bU:ns.length<=1073741824:=dD;have cC:Hid (∀p:Bs->Bool,∀k,((ns.take k).filter p).length<=1073741824):=λp k=>AO (KW _ _) (AO (List.length_take_le' _ _) bU);go_wp2;go_loopw [9,10,59] (λv1 v2 iv wr=>∃k:Nat,iv=A0 k/\k<=ns.length/\Hid (DC wr v1 ((ns.take k).filter λnm=>decide (nm∈E))/\DC wr v2 ((ns.take k).filter λnm=>!decide (nm∈E))/\(∀g,v1.ownBlock=some g->w4.heap.size<=g)/\(∀g,v2.ownBlock=some g->w4.heap.size<=g)/\(∀g,v1.ownBlock=some g->¬v2.ownBlock=some g)/\A4 Aa w4 wr)) (λ_ _ iv _=>ns.length-(intOf iv).toNat)
     ·exact⟨0,rfl,iC,Cq _ _ _ _,Cq _ _ _ _,λg d=>by simp[Value.ownBlock]at d,λg d=>by simp[Value.ownBlock]at d,λg d=>by simp[Value.ownBlock]at d,A4.C _ _⟩
     ·obtain⟨k,rfl,hk,hI⟩:=hrel;have⟨i1,i2,i3,i4,i5,i6⟩:=hI.o;obtain⟨ap,cp,rfl,aQ,aJ,-⟩:=B8 i1;obtain⟨aq,cq,rfl,hcaq1,bL,-⟩:=B8 i2;unfold maxLen at aJ bL;by_cases I:k<ns.length
      ·obtain⟨g,o,rfl,d0⟩:=Hi.at cV.o k I;have d1:=i6.ad d0;have aA:ns.take (k+1)=ns.take k++[ns[k]'I]:=Ds I;generalize bS:(ns[k]'I)=nm at d0 d1 aA;have aZ:=A1 (dJ.o wr nm i6);have aS:Hid ((ns.take (k+1)).filter (λnm=>decide (nm∈E))=(ns.take k).filter (λnm=>decide (nm∈E))++(if nm∈E then [nm] else [])):=by
        unfold Hid;rw[aA,L1];by_cases hx:nm∈E<;>simp[hx]
       have aO:Hid ((ns.take (k+1)).filter (λnm=>!decide (nm∈E))=(ns.take k).filter (λnm=>!decide (nm∈E))++(if nm∈E then [] else [nm])):=by
        unfold Hid;rw[aA,L1];by_cases hx:nm∈E<;>simp[hx]
       have b7:=A1 (cC.o (λnm=>decide (nm∈E)) k);have b9:=A1 (cC.o (λnm=>!decide (nm∈E)) k);obtain⟨l1,bT⟩:=iG ((ns.take k).filter (λnm=>decide (nm∈E)));obtain⟨l2,cA⟩:=iG ((ns.take k).filter (λnm=>!decide (nm∈E)));rw[bT]at aS b7 i1 i3 i5;rw[cA]at aO b9 i2 i4 i5;(have bN:((ns.take k).filter (λnm=>decide (nm∈E))).length=l1.length:=by rw[bT]);(have bK:((ns.take k).filter (λnm=>!decide (nm∈E))).length=l2.length:=by rw[cA])
       try rw[bN]
       try rw[bK]
       have aT:=A1 i1;have aN:=A1 i2;have aU:=A1 i3;have cD:=A1 i4;have cH:=A1 i5;have bQ:=A1 i6;have aP:(k:Int)<(ns.length:Int):=iC;have b1:(0:Int)<=(k:Int):=GA _;by_cases hx:nm∈E
       ·rw[CN hx]at aZ;rw[Ai hx]at aS aO;go_wp2_with (fail);refine aZ.o.mono ?_;rintro e w6⟨i,rfl,q,rfl⟩;have X:Hid (((wr.drewN q).alloc (.cells #[.string ⟨nm.toArray⟩] 9)).ownsRow 0 9 1 (.slice ap l1.length cp) l1.length (Dw l1)):=Au aT.o λg d=>(((A4.C Aa wr).a7 q).ai _).Al g (Aw aT.o d) (λh=>h)
        have aI:=A1 (Src.bb (size:=1) (B:=(wr.drewN q).heap.size) HU (wr.drewN q) #[.string ⟨nm.toArray⟩] 9 iE 1 1 rfl (Ns [nm]));have b6:Hid (A4 Aa wr ((wr.drewN q).alloc (.cells #[.string ⟨nm.toArray⟩] 9))):=((A4.C Aa wr).a7 q).ai _;go_wp2_with (at_builtin;refine CX rfl (.tmp 70) (.tmp 72) 121 121 rfl 9 i0 _ 1 16 HU hi aW a3 aY rfl iF (.slice ap l1.length cp) l1.length (Dw l1) (by rfl) X.o _ 1 _ (by rfl) aI.o (by have:=b7.o;omega) ?_;intro a8 aF w8 O;have bD:=A1 O);go_roundw
        ·have O:=bD.o;have aH:=O.Am (S:=λk=>(Value.slice ap l1.length cp).ownBlock=some k) λ_ h=>h;have k8:A4 (λk=>(Value.slice ap l1.length cp).ownBlock=some k) wr w8:=(b6.o.aS).tr aH;have e:(l1++[nm]).length=l1.length+1:=iE;have e2:Dw (l1++[nm])=Dw l1++Dw [nm]:=Nt _ _;have aE:∀g,(Value.slice a8 (l1.length+1) aF).ownBlock=some g->(Value.slice ap l1.length cp).ownBlock=some g\/wr.heap.size<=g:=λg d=>by
          rcases O.BX with h|h
          ·rw[h]at d;exact .inl d
          ·rw[h]at d;cases d;exact .inr b6.o.Ak
         refine⟨k+1,by go_num,iC,?_,?_,?_,cD.o,?_,?_⟩
         ·rw[aS.o];unfold DC;rw[e,e2];exact O.AB
         ·rw[aO.o,Gk];exact Au aN.o λg d=>k8.Al g (Aw aN.o d) λh=>cH.o g h d
         ·exact λg d=>(aE g d).elim (aU.o g) λh=>AO bQ.o.Ak h
         ·exact λg d a4=>(aE g d).elim (λh=>cH.o g h a4) λh=>by have:=Aw aN.o a4;omega
         ·exact bQ.o.AF k8 λy hy aV=>by have:=aU.o y hy;omega
        ·simp[intOf];omega
       ·rw[CO hx]at aZ;rw[Af hx]at aS aO;go_wp2_with (fail);refine aZ.o.mono ?_;rintro e w6⟨i,rfl,q,rfl⟩;have X:Hid (((wr.drewN q).alloc (.cells #[.string ⟨nm.toArray⟩] 9)).ownsRow 0 9 1 (.slice aq l2.length cq) l2.length (Dw l2)):=Au aN.o λg d=>(((A4.C Aa wr).a7 q).ai _).Al g (Aw aN.o d) (λh=>h)
        have aI:=A1 (Src.bb (size:=1) (B:=(wr.drewN q).heap.size) HU (wr.drewN q) #[.string ⟨nm.toArray⟩] 9 iE 1 1 rfl (Ns [nm]));have b6:Hid (A4 Aa wr ((wr.drewN q).alloc (.cells #[.string ⟨nm.toArray⟩] 9))):=((A4.C Aa wr).a7 q).ai _;go_wp2_with (at_builtin;refine CX rfl (.tmp 74) (.tmp 76) 121 121 rfl 9 i0 _ 1 16 HU hi aW a3 aY rfl iF (.slice aq l2.length cq) l2.length (Dw l2) (by rfl) X.o _ 1 _ (by rfl) aI.o (by have:=b9.o;omega) ?_;intro a8 aF w8 O;have bD:=A1 O);go_roundw
        ·have O:=bD.o;have aH:=O.Am (S:=λk=>(Value.slice aq l2.length cq).ownBlock=some k) λ_ h=>h;have k8:A4 (λk=>(Value.slice aq l2.length cq).ownBlock=some k) wr w8:=(b6.o.aS).tr aH;have e:(l2++[nm]).length=l2.length+1:=iE;have e2:Dw (l2++[nm])=Dw l2++Dw [nm]:=Nt _ _;have aE:∀g,(Value.slice a8 (l2.length+1) aF).ownBlock=some g->(Value.slice aq l2.length cq).ownBlock=some g\/wr.heap.size<=g:=λg d=>by
          rcases O.BX with h|h
          ·rw[h]at d;exact .inl d
          ·rw[h]at d;cases d;exact .inr b6.o.Ak
         refine⟨k+1,by go_num,iC,?_,?_,aU.o,?_,?_,?_⟩
         ·rw[aS.o,Gk];exact Au aT.o λg d=>k8.Al g (Aw aT.o d) λh=>cH.o g d h
         ·rw[aO.o];unfold DC;rw[e,e2];exact O.AB
         ·exact λg d=>(aE g d).elim (cD.o g) λh=>AO bQ.o.Ak h
         ·exact λg d a4=>(aE g a4).elim (λh=>cH.o g d h) λh=>by have:=Aw aT.o d;omega
         ·exact bQ.o.AF k8 λy hy aV=>by have:=cD.o y hy;omega
        ·simp[intOf];omega
      ·(obtain rfl:k=ns.length:=iC);rw[C5,<-bM.o]at i1 i3;rw[C5,<-bG.o]at i2 i4;(have bN:((ns.take ns.length).filter (λnm=>decide (nm∈E))).length=dN.length:=by rw[C5,<-bM.o]);(have bK:((ns.take ns.length).filter (λnm=>!decide (nm∈E))).length=dM.length:=by rw[C5,<-bG.o])
       try rw[bN]
       try rw[bK]
       have aT:=A1 i1;have aN:=A1 i2;have aU:=A1 i3;have cD:=A1 i4;have bQ:=A1 i6;(have aP:¬((ns.length:Int)<(ns.length:Int)):=iC);go_wp2;go_ret2;exact⟨_,_,rfl,aT.o,aN.o,λg d=>AO cL.o.Ak (aU.o g d),λg d=>AO cL.o.Ak (cD.o g d),cL.o.tr bQ.o⟩
end
section
variable{w:gC}{ab b xb jb B:Nat}{sv ov lv jo:gD}{A:Ar}{P:PD}{Ft FT:Nat->Prop}{a c m:Nat}
def A2s(h:Bw w b P Ft)(nm:Bs)(E:Fit P a c m)(z:CV a c m):
 Ag 193 #[A5 b,.string ⟨nm.toArray⟩] w (Aj (A0 (P.aF (Ab nm)).1) λw'=>Ap w Ft w' (λw' d=>Bw w' b (P.aF (Ab nm)).2 d)):=
 Zf h (Ab nm) (by have:=E.A6;have:=E.Am;have:=z.a;have:=z.c;omega)
def removeAll_cons(nm:Bs)(r:gF Bs)(P:PD):PD.aN (nm::r) P=if (P.aF (Ab nm)).1≠0 then P.aF (Ab nm) else PD.aN r (P.aF (Ab nm)).2:=rfl
def Ta(A:Ar)(P:PD)(h:Fit P a c m):(A.aU P).length<=a:=by
 unfold Ar.aU;exact AO (KW _ _) (by rw[Lw];exact h.A6)
def Rz(w:gC)(h:AD w ab b A P FT)(hF:Fit P a c m)(hl:CV a (c+a) m)(hn:∀n∈A.ix.sd,CK n)(aY:∀n∈A.j.Ao,CK n)(aT:A.ix.sd.length<=1073741824)(aW:A.j.Ao.length<=1073741824)(hL:Lets B w):
 Ag 150 #[A5 ab] w (Aj (A0 (A.ay P).1) λw'=>Ap w FT w' (λw' aS=>AD w' ab b A (A.ay P).2 aS)):=by
 obtain⟨xb,jb,sv,ov,lv,jo,Ft,hV,aJ⟩:=h;have a6:=A1 (T5 w hV hF ⟨hl.a,by have:=hl.c;omega,hl.m⟩ hn aY aT aW hL);have hol:=Ta A P hF;have a2:=A1 hV;have I:=A1 aJ;have a3:Hid (A.ay P=PD.aN (A.aU P) P):=rfl;have a4:=A1 removeAll_cons;generalize hR:A.ay P=R at a3 ⊢;have a0:=A1 hF;have aF:=A1 hl;generalize A.aU P=os at *
 go_enter func150,ntmps150
 go_wp2_with (fail);refine a6.m ?_;rintro e w1⟨v1,v2,rfl,-,h2,-,aV,aL⟩;obtain⟨oa,ocap,rfl,oc1,a1⟩:=(DC.rd h2).BW;unfold maxLen at a1;have aU:=A1 (DC.rd h2);have aZ:=A1 aV;have aH:=A1 aL;have z:=A1 (a2.o.ak aL);go_wp2;go_loopw [15] (λiv wr=>∃(k:Nat),iv=A0 k/\k<=os.length/\Hid (∃E,Ap w1 Ft wr (λw' d=>Cv w' ab b xb jb sv ov lv jo A E d)/\Fit E a (c+k) m/\R=PD.aN (os.drop k) E)) (λiv _=>os.length-(intOf iv).toNat)
 ·exact⟨0,rfl,iC,P,⟨A4.C _ _,Ft,z.o,z.o.lt,λk hk=>.inl hk⟩,a0.o,a3.o⟩
 ·obtain⟨k,rfl,hk,hI⟩:=hrel;have⟨E,hi,hf,hx⟩:=hI.o;obtain⟨c1,aI,hv,aP,s1⟩:=hi;by_cases aD:k<os.length
  ·obtain⟨g,o,rfl,d0⟩:=Hi.at aU.o k aD;have d1:=c1.bI d0 (λh=>by have:=a2.o.lt _ h;have:=aZ.o g rfl;have h':g<w.heap.size:=a2.o.lt _ h;omega);have aK:=FY aD;generalize hne:(os[k]'aD)=nm at d0 d1 aK;rw[aK,a4.o]at hx;have e0:=hv.Ae.c0;have aO:CV a (c+k) m:=⟨aF.o.a,by have:=aF.o.c;omega,aF.o.m⟩;have aM:=A1 (A2s hv.dk nm hf aO);(have aG:Hid (Fit (E.aF (Ab nm)).2 a (c+(k+1)) m):=by have:=hf.aF (Ab nm);exact this);generalize hY:E.aF (Ab nm)=Y at aM hx aG;have aB:Hid (∀X,Ap wr aI X (λw' d=>Bw w' b Y.2 d)->Ap w1 Ft X (λw' d=>Cv w' ab b xb jb sv ov lv jo A Y.2 d)):=λX h6=>Ap.aZ c1 s1 (hv.bO h6);have aE:=A1 hx;have aQ:(k:Int)<(os.length:Int):=iC;have hk0:=BJ k;obtain⟨aN,aR⟩:=Y;dsimp only at aM aB aE aG;by_cases hy:aN=0
   case neg=>
    (have L:R=(aN,aR):=by rw[aE.o,Ai hy]);subst L;(have hyb:(aN !=0)=true:=by simpa using hy);go_wp2_with (go_at_call 193;refine aM.k ?_;rintro X aA;have O:=A1 (aB.o X aA));go_ret;exact⟨rfl,(z.o.cM I.o O.o).a1 aH.o⟩
   case pos=>
    subst hy;(have aX:Hid (R=PD.aN (os.drop (k+1)) aR):=by unfold Hid;rw[aE.o,Af iE]);go_wp2_with (go_at_call 193;refine aM.k ?_;rintro X aA;have O:=A1 (aB.o X aA));go_roundw
    ·exact⟨k+1,by go_num,iC,aR,O.o,aG.o,aX.o⟩
    ·simp[intOf];omega
  ·(obtain rfl:k=os.length:=iC);rw[H5]at hx;have L:R=(0,E):=hx;subst L;(have aQ:¬((os.length:Int)<(os.length:Int)):=iC);have a5:Hid (Ap w1 Ft wr (λw' d=>Cv w' ab b xb jb sv ov lv jo A E d)):=⟨c1,aI,hv,aP,s1⟩;go_wp2;go_ret;exact⟨rfl,(z.o.cM I.o a5.o).a1 aH.o⟩
def A1q{nm:Bs}{s:Nat}{f0:Int}{E:gF Int}(w:gC)(h:Cc w xb 162 b nm s f0 sv)(Y:Dh w sv E)(L:gD)(l:gF Int)(X:Dh w L l)(z:Int):
 Ag 198 #[A5 xb,A0 z,L] w (Aj (.bool (decide (f0=z/\E=l))) λw'=>∃q,w'=w.drewN q):=by
 have c3:=h.c3;have c4:=h.c4;have O:=A1 (A2j w sv L E l Y X);obtain⟨ka,kcap,rfl,k1,k2⟩:=X.BW;obtain⟨sa,scap,rfl,s1,s2⟩:=Y.BW;by_cases I:f0=z
 ·subst I;have e:decide (f0=f0/\E=l)=decide (E=l):=iE
  rw[e];generalize hd:decide (E=l)=d at O ⊢
  go_enter func198,ntmps198
  go_wp2_with (go_at_call 241;refine O.k ?_;rintro w2⟨q,rfl⟩);go_ret;exact⟨rfl,q,rfl⟩
 ·have e:decide (f0=z/\E=l)=false:=CO λh=>I h.1;rw[e];have hb:(f0==z)=false:=by simpa using I
  go_enter func198,ntmps198
  go_wp2;go_ret;exact⟨rfl,0,rfl⟩
def Cv.eV{w':gC}{P':PD}{f':Int}{z:gD}{X:gF Int}(h:Cv w ab b xb jb sv ov lv jo A P Ft)(Y:Cc w' xb 162 b AJ (AI AJ) f' z)(hr:Dh w' z X)(hI:K7 w Ft xb w' b P')(L:∀g,z.ownBlock=some g->sv.ownBlock=some g\/(g<w.heap.size/\¬Ft g/\¬G0 ab xb jb sv ov lv jo g)):
 ∃I,Cv w' ab b xb jb z ov lv jo {A with ix:=⟨f',X⟩} P' I/\A4 (λk=>Ft k\/k=xb) w w'/\∀k,I k->Ft k\/w.heap.size<=k:=by
 obtain⟨hc,I,h2,h3,h4⟩:=hI;have key:∀k,G0 ab xb jb sv ov lv jo k->k≠xb->w'.heap[k]?=w.heap[k]?:=λk d aA=>hc.Al k (h.bJ d) λY=>Y.elim (h.Dp k d) aA;have sS:∀g,z.ownBlock=some g->g≠ab/\g≠xb/\¬Dt jb lv jo g:=λg E=>by
  rcases L g E with E|⟨_,_,E⟩
  ·exact h.G2 g E
  ·exact⟨λe=>E (.inl e),λe=>E (.inr (.inl e)),λe=>E (.inr (.inr (.inr (.inr e))))⟩
 refine⟨I,⟨(key ab (.inl rfl) h.ne).trans h.Ae,Y,hr,h.AS.aK λg E=>key g (.inr (.inr (.inr (.inl E)))) (h.GD g E).2.1,h.jn.aK λk d=>key k (.inr (.inr (.inr (.inr d)))) (h.Gg k d).2,h2,h3,?_,sS,h.GD,h.Gg⟩,hc,h4⟩;intro k d Y;rcases h4 k Y with O|O
 ·rcases d with d|d|d|d|d
  ·exact h.Dp k (.inl d) O
  ·exact h.Dp k (.inr (.inl d)) O
  ·rcases L k d with d|⟨_,d,_⟩
   ·exact h.Dp k (.inr (.inr (.inl d))) O
   ·exact d O
  ·exact h.Dp k (.inr (.inr (.inr (.inl d)))) O
  ·exact h.Dp k (.inr (.inr (.inr (.inr d)))) O
 ·have:k<w.heap.size:=by
   rcases d with d|d|d|d|d
   ·exact h.bJ (.inl d)
   ·exact h.bJ (.inr (.inl d))
   ·rcases L k d with d|⟨d,_⟩
    ·exact h.bJ (.inr (.inr (.inl d)))
    ·exact d
   ·exact h.bJ (.inr (.inr (.inr (.inl d))))
   ·exact h.bJ (.inr (.inr (.inr (.inr d))))
  omega
def Cv.gh{w':gC}{lv' L:gD}{aA:Jn}(h:Cv w ab b xb jb sv ov lv jo A P Ft)(hj:DX w' jb b lv' L aA)(hc:A4 (One jb) w w')(O:lv'.ownBlock=none)(X:L=.pointer none):Cv w' ab b xb jb sv ov lv' L {A with j:=aA} P Ft:=by
 have key:∀k,k≠jb->k<w.heap.size->w'.heap[k]?=w.heap[k]?:=λk d hl=>hc.Al k hl d;have E:∀k,Dt jb lv' L k->k=jb:=λk d=>by
  rcases d with h|h|h
  ·exact h
  ·rw[O]at h;cases h
  ·rw[X]at h;cases h
 have I:Dt jb lv jo jb:=.inl rfl
 refine⟨(key ab (λe=>(h.Gg jb I).1 e.symm) h.Ae.lt).trans h.Ae,(key xb (λe=>(h.Gg jb I).2 e.symm) h.ix.lt).trans h.ix,h.sd.aK λg z=>key g (λe=>(h.G2 g z).2.2 (e ▸ I)) (h.sd.lt z),h.AS.aK λg z=>key g (λe=>(h.GD g z).2.2 (e ▸ I)) (h.AS.lt z),hj,
  AU.aK h.dk λk d=>key k (λe=>by subst e;exact h.Dp _ (.inr (.inr (.inr (.inr I)))) d) (h.lt k d),λk d=>Bp (h.lt k d) hc.Ak,?_,λg z=>?_,λg z=>?_,λk d=>?_⟩
 ·intro k d;rcases d with d|d|d|d|d
  ·exact h.Dp k (.inl d)
  ·exact h.Dp k (.inr (.inl d))
  ·exact h.Dp k (.inr (.inr (.inl d)))
  ·exact h.Dp k (.inr (.inr (.inr (.inl d))))
  ·rw[E k d];exact h.Dp jb (.inr (.inr (.inr (.inr I))))
 ·exact⟨(h.G2 g z).1,(h.G2 g z).2.1,λY=>(h.G2 g z).2.2 (by rw[E g Y];exact I)⟩
 ·exact⟨(h.GD g z).1,(h.GD g z).2.1,λY=>(h.GD g z).2.2 (by rw[E g Y];exact I)⟩
 ·rw[E k d];exact h.Gg jb I
def A3O(w:gC)(h:AD w ab b A P FT)(kv:gD)(l:gF Int)(E:Dh w kv l)(aZ:∀g,kv.ownBlock=some g->¬FT g)(hr:Ay (A.j.Ac+1))(aT:∀x∈l,Ay x)(aU:l.length<=134217728)(hF:Fit P a c m)(hl:CV (a+2) (c+2) (m+12+8*l.length))(hL:Lets B w):
 Ag 152 #[A5 ab,kv] w (Aj (A0 (A.al P l).1) λw'=>Ap w (λk=>FT k\/kv.ownBlock=some k) w' (λw' aS=>AD w' ab b (A.al P l).2.1 (A.al P l).2.2 aS)):=by
 obtain⟨xb,jb,sv,ov,lv,jo,Ft,Y,aN⟩:=h
 have aM:Hid (A.al P l=if A.ix.Bd=A.j.Ac+1/\A.ix.sd=l then (0,A,P) else
  if (P.al (A.j.Ac+1) l).1≠0 then ((P.al (A.j.Ac+1) l).1,A,(P.al (A.j.Ac+1) l).2) else
  (0,{A with ix:=⟨A.j.Ac+1,l⟩,j:=⟨[],A.j.Ac,0,none⟩},(P.al (A.j.Ac+1) l).2)):=rfl
 have aX:Hid (∀w1,A4 Aa w w1->_):=λw1 hc=>Ty w1 (Y.jn.ak hc) hr;have aK:Hid (∀w1,A4 Aa w w1->_):=λw1 hc=>A1q w1 (Y.ix.aj hc (λh=>h)) (Y.sd.Am hc (λ_ _ h=>h)) kv l (E.Am hc (λ_ _ h=>h)) (A.j.Ac+1);have aR:Hid (∀w1,A4 Aa w w1->_):=λw1 hc=>Xn w1 (A.j.Ac+1) A.ix.Bd kv sv l (Y.ix.aj hc (λh=>h)) (AU.av Y.dk Y.lt hc) (λk E=>Bp (Y.lt k E) hc.Ak) (Y.Dp xb (.inr (.inl rfl))) hF hl (hL.aL hc) (E.Am hc (λ_ _ h=>h)) hr aT aU;obtain⟨ka,I,rfl,k1,k2⟩:=E.BW;have a1:=A1 Y;have d:=A1 aN;have a2:=A1 E;have aL:=A1 aZ;generalize hR:A.al P l=R at aM ⊢;generalize hT:P.al (A.j.Ac+1) l=T at aM aR;generalize hLL:A.j.Ac+1=L at aM aX aK aR;have HB:=A1 Y.Ae;have d1:=Y.Ae.aa.c1;have d2:=Y.Ae.aa.c2;have aO:=A1 (aX.o w.drew (A4.C _ w).aa);by_cases z:A.ix.Bd=L/\A.ix.sd=l
 case pos=>
  have aB:R=(0,A,P):=by rw[aM.o,Ai z]
  subst aB;rw[CN z]at aK;have aG:=A1 (aK.o w.drew (A4.C _ w).aa)
  go_enter func152,ntmps152
  go_wp2;refine Bq (λw'=>A7 w' ab 1 (A5 xb)/\A7 w' ab 2 (A5 jb)) 10
   (Ba [0,1,2,3,4,5,6,7,9,8] [8]) ⟨d1,d2⟩ ?_
  iterate 9 refine B4 ?_
  refine Bf λK hK=>?_;go_simp;refine aO.k ?_;rintro w3 rfl;refine hK _ _ ⟨d1,d2⟩ (λhS=>?_);refine Bl ?_;go_wp2_with (go_at_call 198;refine aG.k ?_;rintro w4⟨q,rfl⟩);go_ret;have kq:=(A4.C Aa w).a7 (1+q);exact⟨rfl,Cv.bP (FT:=λk=>FT k\/(Value.slice ka l.length I).oB k) (a1.o.ak kq) kq (λ_ _ h=>h.elim) (λk E=>.inl (.inl (d.o k (.inl E)))) λk E=>.inl (.inl (d.o k (.inr E)))⟩
 case neg=>
  rw[CO z]at aK;have aG:=A1 (aK.o w.drew (A4.C _ w).aa);have aI:Hid (R=if T.1≠0 then (T.1,A,T.2) else (0,{A with ix:=⟨L,l⟩,j:=⟨[],A.j.Ac,0,none⟩},T.2)):=by unfold Hid;rw[aM.o,Af z]
  go_enter func152,ntmps152
  go_wp2;refine Bq (λw'=>A7 w' ab 1 (A5 xb)/\A7 w' ab 2 (A5 jb)) 10
   (Ba [0,1,2,3,4,5,6,7,9,8] [8]) ⟨d1,d2⟩ ?_
  iterate 9 refine B4 ?_
  refine Bf λK hK=>?_;go_simp;refine aO.k ?_;rintro w3 rfl;refine hK _ _ ⟨d1,d2⟩ (λhS=>?_);refine Bl ?_;go_wp2_with (fail);refine aG.k ?_;rintro w4⟨q,rfl⟩;have k4:A4 Aa w (w.drewN (1+q)):=(A4.C Aa w).a7 (1+q);have a3:=a1.o.ak k4;have x1:=a3.Ae.aa.c1;have x2:=a3.Ae.aa.c2;have aA:=A1 (a1.o.ak k4.aa);have aH:=A1 k4.aa;have aD:=A1 (aR.o _ k4.aa);have aF:=A1 (aX.o _ k4.aa);go_wp2;generalize w.drewN (1+q)=w4 at aA aH aD aF x1 x2 ⊢;obtain⟨aY,a4⟩:=T;dsimp only at aD aI;have aE:Hid (ab≠xb/\¬Ft ab):=⟨aA.o.ne,aA.o.Dp ab (.inl rfl)⟩;by_cases ht:aY=0
  case neg=>
   (have aB:R=(aY,A,a4):=by rw[aI.o,Ai ht]);subst aB;(have htb:(aY !=0)=true:=by simpa using ht);refine Bq (λw'=>A7 w' ab 1 (A5 xb)/\A7 w' ab 2 (A5 jb)) 11
    (Ba [0,1,2,3,4,5,6,7,9,8,10] [8,10]) ⟨x1,x2⟩ ?_
   iterate 9 refine B4 ?_
   refine Bf λK hK=>?_;go_simp;refine aF.k ?_;rintro w3 rfl;refine hK _ _ ⟨x1,x2⟩ (λhS=>?_);refine Bf λK hK=>?_;go_simp;refine aD.k ?_;rintro w6⟨hx,hI⟩;have b6:Dg w6 ab b xb jb A.Ac ov:=aA.o.Ae.aj hI.1 λh=>h.elim aE.o.2 aE.o.1;refine hK _ _ ⟨b6.c1,b6.c2⟩ (λhS=>?_);rw[Af ht,Af ht]at hx;have aP:=A1 (aA.o.eV hx (aA.o.sd.aK λg O=>hI.1.Al g (aA.o.sd.lt O) λh=>h.elim (aA.o.Dp g (.inr (.inr (.inl O)))) (aA.o.G2 g O).2.1) hI λg O=>.inl O);refine Bl ?_;go_wp2;go_ret;have⟨Ft',h1,h2,h3⟩:=aP.o;have aW:A4 (λk=>Ft k\/k=xb) w w6:=(aH.o.aS (S:=λk=>Ft k\/k=xb)).tr h2;refine⟨rfl,Cv.bP (FT:=λk=>FT k\/(Value.slice ka l.length I).oB k) h1 aW ?_ ?_ ?_⟩
   ·rintro k _ (h|rfl)
    ·exact .inl (d.o k (.inl h))
    ·exact .inl (d.o _ (.inr (.inr (.inl rfl))))
   ·exact λk E=>(h3 k E).imp (λh=>.inl (d.o k (.inl h))) λh=>AO aH.o.Ak h
   ·exact λk E=>.inl (.inl (d.o k (.inr E)))
  case pos=>
   subst ht;(have aB:R=(0,{A with ix:=⟨L,l⟩,j:=⟨[],A.j.Ac,0,none⟩},a4):=by rw[aI.o,Af iE]);subst aB;have X:Hid (∀g,(Value.slice ka l.length I).oB g->g<w4.drew.heap.size/\¬Ft g/\¬G0 ab xb jb sv ov lv jo g):=λg O=>⟨Bp (a2.o.lt O) aH.o.Ak,λh=>aL.o g O (d.o g (.inl h)),λh=>aL.o g O (d.o g (.inr h))⟩
   refine Bq (λw'=>A7 w' ab 1 (A5 xb)/\A7 w' ab 2 (A5 jb)) 11
    (Ba [0,1,2,3,4,5,6,7,9,8,10] [8,10]) ⟨x1,x2⟩ ?_
   iterate 9 refine B4 ?_
   refine Bf λK hK=>?_;go_simp;refine aF.k ?_;rintro w3 rfl;refine hK _ _ ⟨x1,x2⟩ (λhS=>?_);refine Bf λK hK=>?_;go_simp;refine aD.k ?_;rintro w6⟨hx,hI⟩;have b6:Dg w6 ab b xb jb A.Ac ov:=aA.o.Ae.aj hI.1 λh=>h.elim aE.o.2 aE.o.1;refine hK _ _ ⟨b6.c1,b6.c2⟩ (λhS=>?_);rw[Ai rfl,Ai rfl]at hx;have aV:Dh w6 (.slice ka l.length I) l:=(a2.o.Am aH.o (λ_ _ h=>h)).aK λg O=>hI.1.Al g (X.o g O).1 λh=>h.elim (X.o g O).2.1 λe=>(X.o g O).2.2 (.inr (.inl e))
   have aP:=A1 (aA.o.eV hx aV hI λg O=>.inr (X.o g O));have d2:=b6.c2;refine Bl ?_;have⟨Ft',h1,h2,h3⟩:=aP.o;have a8:=A1 (A01 w6 h1.jn);have a7:=A1 h1;have a6:Hid (A4 (λk=>Ft k\/k=xb) w w6):=(aH.o.aS (S:=λk=>Ft k\/k=xb)).tr h2;have a5:Hid (∀k,Ft' k->Ft k\/w.heap.size<=k):=λk E=>(h3 k E).imp id λh=>AO aH.o.Ak h
   go_wp2_with (go_at_call 201;refine a8.k ?_;rintro w7⟨hj,aQ⟩;have a9:=A1 hj;have aJ:=A1 aQ);go_ret;have a0:=a7.o.gh a9.o aJ.o (by simp[Value.ownBlock]) rfl;refine⟨rfl,Cv.bP (FT:=λk=>FT k\/(Value.slice ka l.length I).oB k) (S:=λk=>(Ft k\/k=xb)\/k=jb) a0 ((a6.o.ah λ_ _ h=>.inl h).AF aJ.o λ_ h _=>.inr h) ?_ ?_ ?_⟩
   ·rintro k _ ((h|rfl)|rfl)
    ·exact .inl (d.o k (.inl h))
    ·exact .inl (d.o _ (.inr (.inr (.inl rfl))))
    ·exact .inl (d.o _ (.inr (.inr (.inr (.inr (.inr (.inl rfl)))))))
   ·exact λk E=>(a5.o k E).imp (λh=>.inl (d.o k (.inl h))) id
   ·rintro k (h|h|h|h|h)
    ·exact .inl (.inl (d.o k (.inr (.inl h))))
    ·exact .inl (.inl (d.o k (.inr (.inr (.inl h)))))
    ·exact .inl (.inr h)
    ·exact .inl (.inl (d.o k (.inr (.inr (.inr (.inr (.inl h)))))))
    ·rcases h with h|h|h
     ·exact .inl (.inl (d.o k (.inr (.inr (.inr (.inr (.inr (.inl h))))))))
     ·simp[Value.ownBlock]at h
     ·cases h
end
def Fit.ax{a c m:Nat}:∀(l:gF Bs) (P:PD),Fit P a c m->Fit (PD.ax l P).2 a c m
 | [],P,h=>h
 | nm::r,P,h=>by
  rw[Rw];split
  ·exact h.ae _
  ·exact Fit.ax r _ (h.ae _)
def Fit.I{A:Ar}{P:PD}{a c m:Nat}(h:Fit P a c m):Fit (A.I P).2.2 a c m:=by
 unfold Ar.I;split
 ·exact h.ax _ _
 ·exact h.ax _ _
def Fit.aN{a m:Nat}:∀(l:gF Bs) (P:PD) (c:Nat),Fit P a c m->Fit (PD.aN l P).2 a (c+l.length) m
 | [],P,c,h=>h
 | nm::r,P,c,h=>by
  rw[removeAll_cons];split
  ·exact(h.aF _).ah (An _) iE (An _)
  ·exact(Fit.aN r _ _ (h.aF _)).ah (An _) (by simp;omega) (An _)
def Fit.ay{A:Ar}{P:PD}{a c m:Nat}(h:Fit P a c m):Fit (A.ay P).2 a (c+a) m:=by
 have d:=Fit.aN (A.aU P) P c h;have h2:=Ta A P h;exact d.ah (An _) iC (An _)
def Ov(A:Ar)(P:PD):(A.I P).2.1.ix=A.ix/\(A.I P).2.1.j=A.j/\(A.I P).2.1.Ac=A.Ac:=by
 unfold Ar.I;split<;>exact⟨rfl,rfl,rfl⟩
def Ar.aO(A:Ar)(P:PD):Int×Ar×PD:=
 if (A.I P).1≠0 then A.I P else (((A.I P).2.1.ay (A.I P).2.2).1,(A.I P).2.1,((A.I P).2.1.ay (A.I P).2.2).2)
def ZL(A:Ar)(P:PD):(A.aO P).2.1.ix=A.ix/\(A.aO P).2.1.j=A.j/\(A.aO P).2.1.Ac=A.Ac:=by
 unfold Ar.aO;split<;>exact Ov A P
def Fit.aO{A:Ar}{P:PD}{a c m:Nat}(h:Fit P a c m):Fit (A.aO P).2.2 a (c+a) m:=by
 unfold Ar.aO;split
 ·exact h.I.ah (An _) iC (An _)
 ·exact h.I.ay
def Sg(A:Ar)(P:PD)(d:gF Int)(h:gF (gF Pu)):A.aG P d h=if (A.aO P).1≠0 then A.aO P else
 if (PD.ao h (A.aO P).2.1.Ac d (A.aO P).2.2).1≠0 then ((PD.ao h (A.aO P).2.1.Ac d (A.aO P).2.2).1,{ (A.aO P).2.1 with Ac:=(PD.ao h (A.aO P).2.1.Ac d (A.aO P).2.2).2.1},(PD.ao h (A.aO P).2.1.Ac d (A.aO P).2.2).2.2.2) else
 if (({ (A.aO P).2.1 with Ac:=(PD.ao h (A.aO P).2.1.Ac d (A.aO P).2.2).2.1}:Ar).al (PD.ao h (A.aO P).2.1.Ac d (A.aO P).2.2).2.2.2 (PD.ao h (A.aO P).2.1.Ac d (A.aO P).2.2).2.2.1).1≠0 then
  ({ (A.aO P).2.1 with Ac:=(PD.ao h (A.aO P).2.1.Ac d (A.aO P).2.2).2.1}:Ar).al (PD.ao h (A.aO P).2.1.Ac d (A.aO P).2.2).2.2.2 (PD.ao h (A.aO P).2.1.Ac d (A.aO P).2.2).2.2.1
 else (({ (A.aO P).2.1 with Ac:=(PD.ao h (A.aO P).2.1.Ac d (A.aO P).2.2).2.1}:Ar).al (PD.ao h (A.aO P).2.1.Ac d (A.aO P).2.2).2.2.2 (PD.ao h (A.aO P).2.1.Ac d (A.aO P).2.2).2.2.1).2.1.a8
  (({ (A.aO P).2.1 with Ac:=(PD.ao h (A.aO P).2.1.Ac d (A.aO P).2.2).2.1}:Ar).al (PD.ao h (A.aO P).2.1.Ac d (A.aO P).2.2).2.2.2 (PD.ao h (A.aO P).2.1.Ac d (A.aO P).2.2).2.2.1).2.2:=by
 unfold Ar.aG Ar.aO;dsimp only
 by_cases z:(A.I P).1=0
 ·by_cases E:((A.I P).2.1.ay (A.I P).2.2).1=0
  ·simp only[z,E,Kw,not_true,Cf]
  ·simp only[z,E,Kw,not_true,P9,Cf,Cs]
 ·simp only[z,Kw,P9,Cs]
section
variable{w w':gC}{ab b xb jb B:Nat}{sv ov lv jo:gD}{A:Ar}{P:PD}{Ft FT:Nat->Prop}{a c m:Nat}
def AD.bt(h:AD w ab b A P FT):A7 w ab 0 (A5 b)/\A7 w ab 3 (A0 A.Ac)/\w.frozen? (A9 ab 3)=false/\ab<w.heap.size/\FT ab:=by
 obtain⟨xb,jb,sv,ov,lv,jo,Ft,d,z⟩:=h;exact⟨d.Ae.c0,d.Ae.c3,d.Ae.fz 3,d.Ae.lt,z ab (.inr (.inl rfl))⟩
def AD.gz(h:AD w ab b A P FT)(x:Int):AD (w.setCell ⟨ab,3,none⟩ (.int .i64 x)) ab b {A with Ac:=x} P FT:=by
 obtain⟨xb,jb,sv,ov,lv,jo,Ft,d,O⟩:=h;have L:A4 (One ab) w (w.setCell ⟨ab,3,none⟩ (.int .i64 x)):=(A4.C (One ab) w).an (b:=ab) rfl 3 _;have I:∀k,k≠ab->k<w.heap.size->(w.setCell ⟨ab,3,none⟩ (.int .i64 x)).heap[k]?=w.heap[k]?:=λk z X=>L.Al k X z
 exact⟨xb,jb,sv,ov,lv,jo,Ft,⟨d.Ae.s3 x,(I xb d.ne.symm d.ix.lt).trans d.ix,d.sd.aK λg E=>I g (d.G2 g E).1 (d.sd.lt E),d.AS.aK λg E=>I g (d.GD g E).1 (d.AS.lt E),d.jn.aK λk z=>I k (d.Gg k z).1 (d.jn.lt z),
  AU.aK d.dk λk z=>I k (λe=>by subst e;exact d.Dp _ (.inl rfl) z) (d.lt k z),λk z=>Bp (d.lt k z) L.Ak,d.Dp,d.G2,d.GD,d.Gg⟩,O⟩
def A2q(h:Bw w b P Ft):
 Ag 86 #[A5 b] w (Aj (A0 P.aI.1) λw'=>Ap w Ft w' (λw' d=>Bw w' b P.aI.2 d)):=XE h
def VQ(h:AD w ab b A P FT):
 Ag 86 #[A5 b] w (Aj (A0 P.aI.1) λw'=>Ap w FT w' (λw' z=>AD w' ab b A P.aI.2 z)):=by
 obtain⟨xb,jb,sv,ov,lv,jo,Ft,d,E⟩:=h;refine(A2q d.dk).mono ?_;rintro e w'⟨L,I⟩;exact⟨L,d.cM E (d.bO I)⟩
def ZM(w:gC)(g:Nat)(h:AD w ab b A P FT)(_hlt:∀k,FT k->k<w.heap.size)(hg:¬FT g)(aA:g<w.heap.size)(hb:w.heap[g]?=some (.cells #[.func (Fn.func 118) #[.pointer (some ⟨ab,0,none⟩)] #[],.func (Fn.func 150) #[.pointer (some ⟨ab,0,none⟩)] #[]] 50 (0,0)))(hF:Fit P a c m)(hl:CV a (c+a) m)(hn:∀n∈A.ix.sd,CK n)(X:∀n∈A.j.Ao,CK n)(O:A.ix.sd.length<=1073741824)(L:A.j.Ao.length<=1073741824)(hL:Lets B w)(Y:∀k,FT k->B<=k):
 Calls Tryz.prog 117 #[.slice (some ⟨g,0,none⟩) 2 2] w λe w'=>e=.returned (.int .i64 (A.aO P).1)/\Ap w FT w' (λw' d=>AD w' ab b (A.aO P).2.1 (A.aO P).2.2 d):=by
 have⟨s1,s2,s3⟩:=Ov A P;refine(A1V w g ab ab (λn w'=>n=(A.I P).1/\Ap w FT w' (λw' d=>AD w' ab b (A.I P).2.1 (A.I P).2.2 d)) (λn w'=>(A.I P).1=0/\n=((A.I P).2.1.ay (A.I P).2.2).1/\Ap w FT w' (λw' d=>AD w' ab b (A.I P).2.1 ((A.I P).2.1.ay (A.I P).2.2).2 d)) hb ?_ ?_).mono ?_
 ·refine(RO w h).mono ?_;rintro e w'⟨E,z⟩;exact⟨_,E,⟨rfl,z⟩,z.1.Al g aA hg⟩
 ·rintro w1⟨h0,c1,F1,z,I,h4⟩ -;refine(Rz w1 z hF.I hl (by rw[s1];exact hn) (by rw[s2];exact X) (by rw[s1];exact O) (by rw[s2];exact L) (hL.aj c1 Y)).mono ?_;rintro e w'⟨h5,h6⟩;exact⟨_,h5,h0.symm,rfl,Ap.aZ c1 h4 h6⟩
 ·rintro e w'⟨n,rfl,⟨E,z,I⟩|⟨E,z,I⟩⟩
  ·subst z;unfold Ar.aO;rw[Ai E];exact⟨rfl,I⟩
  ·subst z;unfold Ar.aO;rw[Af (by simp[E])];exact⟨rfl,I⟩
def A3g(w:gC)(g:Nat)(h:AD w ab b A P FT)(_hlt:∀k,FT k->k<w.heap.size)(hg:¬FT g)(Y:g<w.heap.size)(hb:w.heap[g]?=some (.cells #[.func (Fn.func 150) #[.pointer (some ⟨ab,0,none⟩)] #[],.func (Fn.func 86) #[.pointer (some ⟨b,0,none⟩)] #[]] 50 (0,0)))(hF:Fit P a c m)(hl:CV a (c+a) m)(hn:∀n∈A.ix.sd,CK n)(X:∀n∈A.j.Ao,CK n)(O:A.ix.sd.length<=1073741824)(L:A.j.Ao.length<=1073741824)(hL:Lets B w):
 Calls Tryz.prog 117 #[.slice (some ⟨g,0,none⟩) 2 2] w λe w'=>e=.returned (.int .i64 (A.a8 P).1)/\Ap w FT w' (λw' d=>AD w' ab b (A.a8 P).2.1 (A.a8 P).2.2 d):=by
 refine(A1U w g ab b (λn w'=>n=(A.ay P).1/\Ap w FT w' (λw' d=>AD w' ab b A (A.ay P).2 d)) (λn w'=>(A.ay P).1=0/\n=(A.ay P).2.aI.1/\Ap w FT w' (λw' d=>AD w' ab b A (A.ay P).2.aI.2 d)) hb ?_ ?_).mono ?_
 ·refine(Rz w h hF hl hn X O L hL).mono ?_;rintro e w'⟨E,z⟩;exact⟨_,E,⟨rfl,z⟩,z.1.Al g Y hg⟩
 ·rintro w1⟨h0,c1,F1,z,I,h4⟩ -;refine(VQ z).mono ?_;rintro e w'⟨h5,h6⟩;exact⟨_,h5,h0.symm,rfl,Ap.aZ c1 h4 h6⟩
 ·rintro e w'⟨n,rfl,⟨E,z,I⟩|⟨E,z,I⟩⟩
  ·subst z;unfold Ar.a8;rw[Ai E];exact⟨rfl,I⟩
  ·subst z;unfold Ar.a8;rw[Af (by simp[E])];exact⟨rfl,I⟩
end
def Ql(w:gC)(v:gD)(h:gF (gF Pu))(FT:Nat->Prop):Prop:=
 ∃d:gF gD,d.length=h.length/\w.ownsRow 0 97 1 v h.length d/\(∀k (E:k<d.length) (z:k<h.length),B1 w (d[k]'E) (h[k]'z))/\(∀g,v.ownBlock=some g->¬FT g)/\∀x∈d,∀g,x.ownBlock=some g->¬FT g
def Dn(l:gF (gF Pu)):Nat:=(l.map List.length).sum
def Oq(x:gF Pu)(r:gF (gF Pu)):Dn (x::r)=x.length+Dn r:=by simp[Dn]
def MC(x y:gF (gF Pu)):Dn (x++y)=Dn x+Dn y:=by simp[Dn]
def RA(l:gF (gF Pu))(k:Nat):Dn (l.take k)<=Dn l:=by
 conv=>rhs;rw[<-Ec k l]
 rw[MC];omega
def TC(l:gF Pu)(r:gF (gF Pu))(d:Int)(h:gF Int)(P:PD):PD.ao (l::r) d h P=if (P.aJ (d+1) l).1≠0 then ((P.aJ (d+1) l).1,d+1,h,(P.aJ (d+1) l).2) else
 PD.ao r (d+1) (h++[d+1]) (P.aJ (d+1) l).2:=rfl
def Fit.aJ{P:PD}{a c m:Nat}(h:Fit P a c m)(n:Int)(l:gF Pu):Fit (P.aJ n l).2 (a+1) (c+1) (m+17*l.length+4):=by
 have:=h.aH (AH n) (AI (AH n)) (Cr l);rw[OP]at this;exact this
def Ts{n:Int}(d:0<=n)(h:n<=9223372036854775807):CK n:=by
 refine⟨d,h,?_⟩;rw[N5 d,Wz];have e:(10:Nat) ^ 19=10000000000000000000:=iF
 exact TR 19 _ (by rw[e];omega) iC
section
variable{w:gC}{ab b xb jb B:Nat}{sv ov lv jo:gD}{A:Ar}{P:PD}{Ft FT:Nat->Prop}{a c m:Nat}
def A4u(w:gC)(h:AD w ab b A P FT)(n:Int)(pv:gD)(l:gF Pu)(hF:Fit P a c m)(hl:CV (a+1) (c+1) m)(hn:CK n)(Y:Lets B w)(hp:Ie w pv l)(I:∀p∈l,Bo p)(E:l.length<=134217728):
 Ag 151 #[A5 b,A0 n,pv] w λe w'=>
  ((P.aJ n l).1≠0/\e=.returned (.tuple #[.pointer none,A0 (P.aJ n l).1])\/(P.aJ n l).1=0/\∃O,e=.returned (.tuple #[A5 O,A0 0]))/\Ap w FT w' (λw' z=>AD w' ab b A (P.aJ n l).2 z):=by
 obtain⟨xb,jb,sv,ov,lv,jo,Ft,d,L⟩:=h;refine(A0y w pv l d.dk d.lt hF hl hn Y hp I E).mono ?_;rintro e w'⟨h3,X⟩;exact⟨h3,d.cM L (d.bO X)⟩
def Fit.cJ{A:Ar}{P:PD}{a c m:Nat}(h:Fit P a c m)(l:gF Int):Fit (A.al P l).2.2 (a+2) (c+2) (m+12+8*l.length):=by
 unfold Ar.al;split
 ·exact h.ah iC iC iC
 ·split
  ·exact h.eF _ _
  ·exact h.eF _ _
def A3U(A:Ar)(P:PD)(l:gF Int):((A.al P l).2.1.ix.sd=A.ix.sd\/(A.al P l).2.1.ix.sd=l)/\((A.al P l).2.1.j.Ao=A.j.Ao\/(A.al P l).2.1.j.Ao=[]):=by
 unfold Ar.al;split
 ·exact⟨.inl rfl,.inl rfl⟩
 ·split
  ·exact⟨.inl rfl,.inl rfl⟩
  ·exact⟨.inr rfl,.inr rfl⟩
def AD.dp{n:Nat}{v:gD}{xs:gF gD}(h:AD w ab b A P FT)(d:w.ownsRow 0 3 1 v n xs){g:Nat}(E:v.ownBlock=some g):g≠ab:=by
 obtain⟨xb,jb,sv,ov,lv,jo,Ft,z,h2⟩:=h;have⟨c,hc⟩:=B9 d E;exact BR hc z.Ae iF
def Sh(w:gC)(h:AD w ab b A P FT)(bU:∀k,FT k->k<w.heap.size)(kv:gD)(ke:gF Int)(aB:DY w kv ke)(dC:∀g,kv.ownBlock=some g->¬FT g/\B<=g)(fv:gD)(d:gF (gF Pu))(eK:Ql w fv d FT)(cM:∀l∈d,(∀p∈l,Bo p)/\l.length<=134217728)(cX:0<=A.Ac/\A.Ac+d.length<=9223372036854775807)(b3:Ay (A.j.Ac+1))(_hkr:∀x∈ke,Ay x)(hF:Fit P a c m)(hl:CV (a+d.length+2) (c+2*a+2*d.length+4) (m+17*Dn d+12*d.length+12+8*ke.length))(dB:ke.length+d.length<=134217728)(hn:∀n∈A.ix.sd,CK n)(bV:∀n∈A.j.Ao,CK n)(b1:∀n∈ke,CK n)(bL:A.ix.sd.length<=1073741824)(bS:A.j.Ao.length<=1073741824)(hL:Lets B w)(bJ:∀k,FT k->B<=k):
 Ag 107 #[A5 ab,kv,fv] w (Aj (A0 (A.aG P ke d).1) λw'=>Ap w (λk=>FT k\/kv.ownBlock=some k) w' (λw' z=>AD w' ab b (A.aG P ke d).2.1 (A.aG P ke d).2.2 z)):=by
 obtain⟨i0,hi,dW,eM,eC⟩:=Px;obtain⟨ka,E,rfl,kc1,eH,-⟩:=B8 aB;obtain⟨vs,vl,bN,cI,cU,cC⟩:=eK;obtain⟨fa,b7,rfl,fc1,dO,-⟩:=B8 bN;unfold maxLen at eH dO;have⟨q1,q2,q3⟩:=ZL A P;have b8:CV a (c+a) m:=⟨by have:=hl.a;omega,by have:=hl.c;omega,by have:=hl.m;omega⟩;have bI:=Fit.aO (A:=A) hF;have aQ:A4 Aa w (w.aC #[.func (Fn.func 118) #[A5 ab] #[],.func (Fn.func 150) #[A5 ab] #[]] 50):=(A4.C _ w).ai _;have eB:=A1 (ZM _ w.heap.size (h.ak aQ) (λk hk=>Bp (bU k hk) aQ.Ak) (λhx=>FV _ (bU _ hx)) iE (Bn w _) hF b8 hn bV bL bS (hL.aL aQ) bJ);have b0:=A1 (Sg A P ke d);obtain⟨R,hR⟩:=iG (A.aG P ke d);rw[hR]at b0 ⊢;obtain⟨X,hX⟩:=iG (A.aO P);rw[hX]at b0 eB q1 q2 q3 bI;have eA:=A1 aQ;have dN:=A1 <| h.bt.2.2.2.2;have aZ:=A1 bN;have bO:=A1 cI;have dR:=A1 cU;have dL:=A1 cC;have aS:=A1 aB;have a1:=A1 dC;have eD:=A1 hL;have cA:=A1 bJ;have dQ:=A1 cM;have aO:=A1 hl;have b9:=A1 bI;have bC:Hid ((∀n∈A.ix.sd,CK n)/\(∀n∈A.j.Ao,CK n)/\(∀n∈ke,CK n)/\A.ix.sd.length<=1073741824/\A.j.Ao.length<=1073741824/\Ay (A.j.Ac+1)):=⟨hn,bV,b1,bL,bS,b3⟩;have eE:=A1 <| cX;have cY:=A1 dB;have eN:=A1 vl;have cH:=A1 TC;have dD:Hid (∀wx bP bY,Ap w FT wx (λw' z=>AD w' ab b bP bY z)->Ap w (λk=>FT k\/(Value.slice ka ke.length E).ownBlock=some k) wx (λw' z=>AD w' ab b bP bY z)):=λwx bP bY hx=>hx.aV λk hk=>.inl hk;clear hX hR aQ bU bN cI cU cC aB dC hL bJ cM hl bI hn bV b1 bL bS b3 cX dB h hF b8 _hkr
 go_enter func107,ntmps107
 go_wp2_with (fail);refine eB.k ?_;rintro w1 b4;have a0:=A1 (b4.a1 eA.o);clear eB b4;obtain⟨dS,O,aE⟩:=X;dsimp only at b0 q1 q2 q3 b9 a0;have eZ:=A1 q1;have e1:=A1 q2;have eS:=A1 q3;clear q1 q2 q3;by_cases hx:dS=0
 case neg=>
  have aG:R=(dS,O,aE):=by rw[b0.o,Ai hx]
  subst aG;have hxb:(dS !=0)=true:=by simpa using hx
  go_wp2;go_ret;exact⟨rfl,dD.o _ _ _ a0.o⟩
 case pos=>
 subst hx
 have a4:Hid (R=if (PD.ao d O.Ac ke aE).1≠0 then ((PD.ao d O.Ac ke aE).1,{O with Ac:=(PD.ao d O.Ac ke aE).2.1},(PD.ao d O.Ac ke aE).2.2.2) else
  if (({O with Ac:=(PD.ao d O.Ac ke aE).2.1}:Ar).al (PD.ao d O.Ac ke aE).2.2.2 (PD.ao d O.Ac ke aE).2.2.1).1≠0 then
   ({O with Ac:=(PD.ao d O.Ac ke aE).2.1}:Ar).al (PD.ao d O.Ac ke aE).2.2.2 (PD.ao d O.Ac ke aE).2.2.1
  else (({O with Ac:=(PD.ao d O.Ac ke aE).2.1}:Ar).al (PD.ao d O.Ac ke aE).2.2.2 (PD.ao d O.Ac ke aE).2.2.1).2.1.a8
   (({O with Ac:=(PD.ao d O.Ac ke aE).2.1}:Ar).al (PD.ao d O.Ac ke aE).2.2.2 (PD.ao d O.Ac ke aE).2.2.1).2.2):=by unfold Hid;rw[b0.o,Af iE]
 obtain⟨S,hS⟩:=iG (PD.ao d O.Ac ke aE);have eQ:=A1 hS;rw[hS]at a4;clear hS b0;have cN:=A1 <| Au aS.o λg hg=>a0.o.1.Al g (Aw aS.o hg) (a1.o g hg).1;go_wp2
 go_loopw [1,24] (λv iv wr=>∃(k:Nat) (I:gF Int) (aF:PD),iv=A0 k/\k<=d.length/\Hid (DY wr v I/\I.length=ke.length+k/\(∀g,v.ownBlock=some g->(Value.slice ka ke.length E).ownBlock=some g\/w.heap.size<=g)/\(∀x∈I,CK x)/\
  Ap w (λk=>FT k\/(Value.slice ka ke.length E).ownBlock=some k) wr (λw' z=>AD w' ab b {O with Ac:=O.Ac+k} aF z/\∀g,v.ownBlock=some g->¬z g)/\Fit aF (a+k) (c+a+k) (m+17*Dn (d.take k)+4*k)/\S=PD.ao (d.drop k) (O.Ac+k) I aF)) (λ_ iv _=>d.length-(intOf iv).toNat)
 ·have⟨c1,aY,r1,l1,s1⟩:=a0.o;refine⟨0,ke,aE,rfl,iC,cN.o,rfl,λg hg=>.inl hg,bC.o.2.2.1,⟨c1.ah λ_ _ h=>.inl h,aY,⟨by simpa using r1,λg hg hx=>?_⟩,l1,λk hk=>(s1 k hk).imp .inl id⟩,by simpa[Dn] using b9.o,by simpa using eQ.o.symm⟩;rcases s1 g hx with h|h
  ·exact(a1.o g hg).1 h
  ·have:=Aw aS.o hg;omega
 ·obtain⟨k,I,aF,rfl,hk,hI⟩:=hrel;have⟨i1,i2,i3,i4,i5,i6,i7⟩:=hI.o;obtain⟨ap,cp,rfl,hcap1,bZ,-⟩:=B8 i1;unfold maxLen at bZ;by_cases aH:k<d.length
  ·(have aB:k<vs.length:=by have:=eN.o;omega);have dF:∀g,(Value.slice fa d.length b7).ownBlock=some g->g<w.heap.size/\¬(FT g\/(Value.slice ka ke.length E).ownBlock=some g):=λg hg=>⟨Aw aZ.o hg,λh=>h.elim (dR.o g hg) (Ja aZ.o aS.o iF hg)⟩
   obtain⟨c1,aY,⟨r1,aW⟩,l1,s1⟩:=i5;obtain⟨g,rfl⟩:∃g,fa=some (A9 g 0):=by
    obtain⟨a',c',e,-,-,hz,-⟩:=B8 aZ.o;cases e;exact hz iC
   have d0:=Bu aZ.o rfl (Dx aB);have d1:=c1.bI d0 (dF g rfl).2;have aI:=Au (bO.o k aB aH) λg' hg=>c1.Al g' (Aw (bO.o k aB aH) hg) λh=>h.elim (dL.o _ (BT aB) g' hg) (Ja (bO.o k aB aH) aS.o iF hg);have a5:=dQ.o _ (BT aH);have bT:=Ds aH;have bW:=FY aH;have dP:=RA d (k+1);obtain⟨xv,cV⟩:=iG ((vs[k]'aB));rw[cV]at d0 d1 aI;obtain⟨pl,cP⟩:=iG ((d[k]'aH));rw[cP]at aI a5 bT bW;obtain⟨pa,aP,rfl,pc1,eG,-⟩:=B8 aI;unfold maxLen at eG;obtain⟨L,a6⟩:=iG (O.Ac+(k:Int));(have hLr:0<=L/\L+1<=9223372036854775807:=by have:=eE.o;rw[<-a6,eS.o];omega);rw[a6]at r1 i7;rw[bW,cH.o]at i7;have⟨e0,e3,z3,hab,hFab⟩:=r1.bt;dsimp only at e3;(have ew:wrap64 (L+1)=L+1:=by unfold wrap64;omega);have ew2:IntKind.i64.wrap (L+1)=L+1:=E9 iC;have r5:=r1.gz (L+1);have aT:FT ab\/(Value.slice ka ke.length E).ownBlock=some ab:=.inl dN.o;have c5:A4 (λk=>FT k\/(Value.slice ka ke.length E).ownBlock=some k) w (wr.sC ab 3 (A0 (L+1))):=c1.bc (p:=(A9 ab 3)) (λ_=>aT) _;have bQ:=r5.ak (A4.C Aa (wr.sC ab 3 (A0 (L+1)))).aa;have a9:∀g',(Value.slice ap I.length cp).ownBlock=some g'->g'≠ab:=λg' hg=>r1.dp i1 hg;have k5:A4 (One ab) wr (wr.sC ab 3 (A0 (L+1))).drew:=((A4.C (One ab) wr).an (b:=ab) rfl 3 _).aa;have bE:B1 (wr.sC ab 3 (A0 (L+1))).drew (.slice pa pl.length aP) pl:=Au aI λg' hg=>k5.Al g' (Aw aI hg) λe=>by
    obtain⟨xb,jb,sv,ov,lv,jo,Ft,hv,_⟩:=r1;have⟨c',hc'⟩:=B9 aI hg;exact BR hc' hv.Ae iF e
   have a7:DY (wr.sC ab 3 (A0 (L+1))).drew (.slice ap I.length cp) I:=Au i1 λg' hg=>k5.Al g' (Aw i1 hg) (a9 g' hg);have l5:∀k,aY k->k<(wr.sC ab 3 (A0 (L+1))).drew.heap.size:=λk hk=>Bp (l1 k hk) k5.Ak;have cT:∀k,(FT k\/(Value.slice ka ke.length E).ownBlock=some k)->B<=k:=λk hk=>hk.elim (cA.o k) λh=>(a1.o k h).2
   have cG:=eD.o.aj c5.aa cT;have aU:CV (a+k+1) (c+a+k+1) (m+17*Dn (d.take k)+4*k):=by
    have:=aO.o;have h2:=RA d k;exact⟨by have:=this.a;omega,by have:=this.c;omega,by have:=this.m;omega⟩
   have aM:=A1 (A4u _ bQ (L+1) _ pl i6 aU (Ts iC iC) cG bE.rd a5.1 a5.2);have bR:=A1 (i6.aJ (L+1) pl);obtain⟨Y,hY⟩:=iG (aF.aJ (L+1) pl);rw[hY]at i7 aM bR;(have dK:Hid (17*Dn (d.take (k+1))+4*(k+1)=17*Dn (d.take k)+4*k+17*pl.length+4):=by unfold Hid;rw[bT,MC];simp[Dn];omega);have dZ:=A1 a6;have dJ:=A1 i2;have eX:=A1 i3;have eW:=A1 i4;have dI:=A1 i7;have dH:=A1 c5.aa;have eF:Hid (∀k,aY k->(FT k\/(Value.slice ka ke.length E).ownBlock=some k)\/w.heap.size<=k):=s1;have cB:=A1 aW;have bM:=A1 a7;(have cL:wr.heap.size=(wr.sC ab 3 (A0 (L+1))).drew.heap.size:=by show _=(wr.setCell _ _).heap.size;simp);have SZ5:=A1 cL;obtain⟨f0,f3,-,-,-⟩:=bQ.bt;dsimp only at f3;have dV:(k:Int)<(d.length:Int):=iC;have hk0:=BJ k;clear hI i1 i2 i3 i4 i6 i7 c1 r1 aW l1 s1 d0 aI a5 bT bW dP cV cP a6 r5 c5 bQ a9 k5 bE a7 l5 cT cG aU hY dF aB aT hFab cL;obtain⟨b2,a2⟩:=Y;dsimp only at aM dI bR
   have aD:Hid (∀w6,Ap (wr.sC ab 3 (A0 (L+1))).drew aY w6 (λw' z=>AD w' ab b {O with Ac:=L+1} a2 z)->
    (A7 w6 ab 0 (A5 b)/\A7 w6 ab 3 (A0 (L+1)))/\Ap w (λk=>FT k\/(Value.slice ka ke.length E).ownBlock=some k) w6 (λw' z=>AD w' ab b {O with Ac:=L+1} a2 z)):=λw6 h6=>by
    obtain⟨_,cQ,bK,_⟩:=h6;exact⟨⟨bK.bt.1,bK.bt.2.1⟩,Ap.aZ dH.o eF.o ⟨‹_›,cQ,bK,‹_›⟩⟩
   by_cases hy:b2=0
   case neg=>
    (have a3:S=(b2,L+1,I,a2):=by rw[dI.o,Ai hy]);(have aG:R=(b2,{O with Ac:=L+1},a2):=by rw[a4.o,a3,Ai hy]);subst aG;have aR:Hid (Ag 151 #[A5 b,A0 (L+1),.slice pa pl.length aP] (wr.sC ab 3 (A0 (L+1))).drew (Aj (.tuple #[.pointer none,A0 b2]) λw'=>Ap (wr.sC ab 3 (A0 (L+1))).drew aY w' (λw' z=>AD w' ab b {O with Ac:=L+1} a2 z))):=by
     refine aM.m ?_;rintro e w'⟨⟨_,h2⟩|⟨h1,_⟩,h3⟩
     ·exact⟨h2,h3⟩
     ·exact absurd h1 hy
    (have hyb:(b2 !=0)=true:=by simpa using hy);clear a3 aM;go_wp2;refine Bq (λw'=>A7 w' ab 0 (A5 b)/\A7 w' ab 3 (A0 (L+1))) 14
     (Ba [0,1,2,3,4,5,6,7,8,9,10,11,12,13] [9]) ⟨f0,f3⟩ ?_
    iterate 9 refine B4 ?_
    refine Bf λK hK=>?_;go_simp;refine aR.k ?_;rintro w6 hI;refine hK _ _ (aD.o w6 hI).1 (λhS=>?_);have eV:=A1 (aD.o w6 hI).2;clear hK K hS hI aR aD
    iterate 4 refine B4 ?_
    refine Bl ?_;go_wp2;go_ret;exact⟨rfl,eV.o⟩
   case pos=>
    subst hy;(have eY:Hid (S=PD.ao (d.drop (k+1)) (L+1) (I++[L+1]) a2):=by unfold Hid;rw[dI.o,Af iE]);have aR:Hid (Ag 151 #[A5 b,A0 (L+1),.slice pa pl.length aP] (wr.sC ab 3 (A0 (L+1))).drew λe w'=>∃gb,e=.returned (.tuple #[A5 gb,A0 0])/\Ap (wr.sC ab 3 (A0 (L+1))).drew aY w' (λw' z=>AD w' ab b {O with Ac:=L+1} a2 z)):=by
     refine aM.m ?_;rintro e w'⟨⟨h1,_⟩|⟨_,gb,h2⟩,h3⟩
     ·exact absurd rfl h1
     ·exact⟨gb,h2,h3⟩
    clear aM dI;go_wp2;refine Bq (λw'=>A7 w' ab 0 (A5 b)/\A7 w' ab 3 (A0 (L+1))) 14
     (Ba [0,1,2,3,4,5,6,7,8,9,10,11,12,13] [9]) ⟨f0,f3⟩ ?_
    iterate 9 refine B4 ?_
    refine Bf λK hK=>?_;go_simp;refine aR.m ?_;rintro e w6⟨gb,rfl,hI⟩;refine hK _ _ (aD.o w6 hI).1 (λhS=>?_);have g63:=(aD.o w6 hI).1.2;have cD:=A1 hI;clear hK K hS hI aR aD
    iterate 4 refine B4 ?_
    refine Bl ?_;have bH:=A1 cD.o.1;have cZ:Hid (DY w6 (.slice ap I.length cp) I):=Au bM.o λg' hg=>bH.o.Al g' (Aw bM.o hg) (cB.o g' hg);have cS:Hid ((w6.aC #[A0 (L+1)] 3).ownsRow 0 3 1 (.slice ap I.length cp) I.length (Ee I)):=Au cZ.o λg' hg=>((A4.C Aa w6).ai _).Al g' (Aw cZ.o hg) (λh=>h)
    have eI:=A1 (Src.bb (size:=1) (B:=w6.heap.size) Hw w6 #[A0 (L+1)] 3 iE 1 1 rfl (KA [L+1]));go_wp2_with (at_builtin;refine CX rfl (.tmp 51) (.tmp 56) 26 26 rfl 3 i0 _ 1 8 Hw hi dW eM eC rfl iF (.slice ap I.length cp) I.length (Ee I) (by rfl) cS.o _ 1 _ (by rfl) eI.o (by have:=dJ.o;have:=cY.o;omega) ?_;intro a8 dG w8 hA;have eT:=A1 hA;clear hA);go_roundw
    ·have hA:=eT.o;have k7:A4 Aa w6 (w6.aC #[A0 (L+1)] 3):=(A4.C _ w6).ai _;have aL:=hA.Am (S:=λk=>(Value.slice ap I.length cp).ownBlock=some k) λ_ h=>h;have k8:A4 (λk=>(Value.slice ap I.length cp).ownBlock=some k) w6 w8:=(k7.aS).tr aL;have⟨_,cQ,r2,l2,s2⟩:=cD.o;have bF:∀g',(Value.slice ap I.length cp).ownBlock=some g'->¬cQ g':=λg' hg hx=>by
      rcases s2 g' hx with h|h
      ·exact cB.o g' hg h
      ·have:=Aw bM.o hg;omega
     have r8:AD w8 ab b {O with Ac:=L+1} a2 cQ:=r2.aK (k8.av l2 λk hk hx=>bF k hx hk) k8.Ak;have bD:∀g',(Value.slice a8 (I.length+1) dG).ownBlock=some g'->(Value.slice ap I.length cp).ownBlock=some g'\/w6.heap.size<=g':=λg' hg=>by
      rcases hA.BX with h|h
      ·rw[h]at hg;exact .inl hg
      ·rw[h]at hg;cases hg;exact .inr k7.Ak
     have eO:A4 (λk=>aY k\/(Value.slice ap I.length cp).ownBlock=some k) (wr.sC ab 3 (A0 (L+1))).drew w8:=(bH.o.ah λ_ _ h=>.inl h).AF k8 λ_ h _=>.inr h;have bB:∀g',(Value.slice ap I.length cp).ownBlock=some g'->(Value.slice ka ke.length E).ownBlock=some g'\/w.heap.size<=g':=eX.o;have c8:A4 (λk=>FT k\/(Value.slice ka ke.length E).ownBlock=some k) w w8:=dH.o.AF eO λx hx hlt=>by
      rcases hx with hx|hx
      ·exact(eF.o x hx).resolve_right iC
      ·exact .inr ((bB x hx).resolve_right iC)
     (have eL:O.Ac+((k+1:Nat):Int)=L+1:=by have:=dZ.o;omega);refine⟨k+1,I++[L+1],a2,by go_num,iC,?_,by have:=dJ.o;simp;omega,λg' hg=>?_,λx hx=>?_,⟨c8,cQ,⟨by rw[eL];exact r8,λg' hg hx=>?_⟩,λk hk=>Bp (l2 k hk) k8.Ak,λk hk=>?_⟩,?_,by rw[eL];exact eY.o⟩
     ·have e:(I++[L+1]).length=I.length+1:=iE;unfold DY;rw[LK,e];exact hA.AB
     ·rcases bD g' hg with h|h
      ·exact bB g' h
      ·have:=c8.Ak;have:=dH.o.Ak;have:=bH.o.Ak;exact .inr iC
     ·rcases AX.1 hx with hx|hx
      ·exact eW.o x hx
      ·simp at hx;subst hx;exact Ts iC iC
     ·rcases bD g' hg with h|h
      ·exact bF g' h hx
      ·have:=l2 g' hx;omega
     ·rcases s2 k hk with h|h
      ·exact eF.o k h
      ·have:=dH.o.Ak;exact .inr iC
     ·have h1:=bR.o;have h2:=dK.o;exact h1.ah iC iC iC
    ·simp[intOf];omega
  ·(obtain rfl:k=d.length:=iC);rw[H5]at i7;rw[C5]at i6;have a3:S=(0,O.Ac+(d.length:Int),I,aF):=i7;subst a3;have aN:Hid (R=if (({O with Ac:=O.Ac+(d.length:Int)}:Ar).al aF I).1≠0 then ({O with Ac:=O.Ac+(d.length:Int)}:Ar).al aF I else (({O with Ac:=O.Ac+(d.length:Int)}:Ar).al aF I).2.1.a8 (({O with Ac:=O.Ac+(d.length:Int)}:Ar).al aF I).2.2):=by
    unfold Hid;rw[a4.o,Af iE]
   obtain⟨aX,aL⟩:∃aX:Ar,({O with Ac:=O.Ac+(d.length:Int)}:Ar)=aX:=⟨_,rfl⟩;(have b6:aX.ix=A.ix:=by rw[<-aL];exact eZ.o);(have ej:aX.j=A.j:=by rw[<-aL];exact e1.o);rw[aL]at aN i5;obtain⟨c1,aY,⟨r1,aW⟩,l1,s1⟩:=i5;have⟨n1,n2,n3,n4,n5,n6⟩:=bC.o;have bG:∀k,(FT k\/(Value.slice ka ke.length E).ownBlock=some k)->B<=k:=λk hk=>hk.elim (cA.o k) λh=>(a1.o k h).2
   have dA:=eD.o.aj c1 bG;have aA:=aO.o;(have bA:I.length<=134217728:=by have:=cY.o;omega);have b5:=A1 (A3O wr r1 (.slice ap I.length cp) I (DY.rd i1) (λg hg=>aW g hg) (by rw[ej];exact n6) (λx hx=>by have:=i4 x hx;exact⟨by have:=this.1;omega,this.2.1⟩) bA i6 ⟨by have:=aA.a;omega,by have:=aA.c;omega,by have:=aA.m;omega⟩ dA);have aV:Hid (Fit (aX.al aF I).2.2 (a+d.length+2) (c+a+d.length+2) (m+17*Dn d+4*d.length+12+8*I.length)):=i6.cJ I;have bX:=A3U aX aF I;have aJ:Hid ((∀n∈(aX.al aF I).2.1.ix.sd,CK n)/\(aX.al aF I).2.1.ix.sd.length<=1073741824):=by
    rcases bX.1 with h|h
    ·rw[h,b6];exact⟨n1,n4⟩
    ·rw[h];exact⟨i4,iC⟩
   have aK:Hid ((∀n∈(aX.al aF I).2.1.j.Ao,CK n)/\(aX.al aF I).2.1.j.Ao.length<=1073741824):=by
    rcases bX.2 with h|h
    ·rw[h,ej];exact⟨n2,n5⟩
    ·rw[h];exact⟨λn hn=>by simp at hn,iE⟩
   obtain⟨T,hT⟩:=iG (aX.al aF I);rw[hT]at aN b5 aV aJ aK;have aD:Hid (∀w2 bP bY,Ap wr (λk=>aY k\/(Value.slice ap I.length cp).ownBlock=some k) w2 (λw' z=>AD w' ab b bP bY z)->Ap w (λk=>FT k\/(Value.slice ka ke.length E).ownBlock=some k) w2 (λw' z=>AD w' ab b bP bY z)):=λw2 bP bY h2=>
    Ap.aZ c1 (λk hk=>hk.elim (λh=>s1 k h) λh=>(i3 k h).imp (λh=>.inr h) id) h2
   have dU:Hid (∀w2,A4 (λk=>FT k\/(Value.slice ka ke.length E).ownBlock=some k) w w2->Lets B w2):=λw2 h2=>eD.o.aj h2 bG;have dJ:=A1 i2;(have dV:¬((d.length:Int)<(d.length:Int)):=iC);obtain⟨eJ,eR,eP⟩:=T;dsimp only at aN b5 aV aJ aK;clear hI i1 i2 i3 i4 i6 i7 aL b6 ej c1 r1 aW l1 s1 n1 n2 n3 n4 n5 n6 bG dA aA bX hT a4 eQ cH bA;by_cases ht:eJ=0
   case neg=>
    (have aG:R=(eJ,eR,eP):=by rw[aN.o,Ai ht]);subst aG;(have htb:(eJ !=0)=true:=by simpa using ht);go_wp2_with (go_at_call 152;refine b5.k ?_;rintro w6 cJ;have dT:=A1 (aD.o w6 _ _ cJ);clear cJ);go_ret;exact⟨rfl,dT.o⟩
   case pos=>
    subst ht;(have aG:R=eR.a8 eP:=by rw[aN.o,Af iE]);have cE:=A1 aG;clear aG aN;go_wp2_with (fail);refine b5.k ?_;rintro w6 dE;have dY:=aD.o w6 _ _ dE;obtain⟨c6,eU,r6,l6,s6⟩:=dY;have k7:A4 Aa w6 (w6.aC #[.func (Fn.func 150) #[A5 ab] #[],.func (Fn.func 86) #[A5 b] #[]] 50):=(A4.C _ w6).ai _;have aA:=aO.o;have dX:=A1 (A3g _ w6.heap.size (r6.ak k7) (λk hk=>Bp (l6 k hk) k7.Ak) (λhx=>FV _ (l6 _ hx)) iE (Bn w6 _) aV.o ⟨by have:=aA.a;omega,by have:=aA.c;omega,by have:=aA.m;have:=dJ.o;omega⟩ aJ.o.1 aK.o.1 aJ.o.2 aK.o.2 ((dU.o w6 c6).aL k7));rw[<-cE.o]at dX;have g0:=r6.bt.1;have cO:Hid (∀w9,Ap (w6.aC #[.func (Fn.func 150) #[A5 ab] #[],.func (Fn.func 86) #[A5 b] #[]] 50) eU w9 (λw' z=>AD w' ab b R.2.1 R.2.2 z)->Ap w (λk=>FT k\/(Value.slice ka ke.length E).ownBlock=some k) w9 (λw' z=>AD w' ab b R.2.1 R.2.2 z)):=λw9 h9=>Ap.aZ c6 s6 (h9.a1 k7);clear cE;obtain⟨Z1,Z2,Z3⟩:=R;dsimp only at dX cO ⊢;clear dE c6 r6 l6 s6 k7 aA b5 aD;go_wp2_with (go_at_call 117;refine dX.k ?_;rintro w9 cF;have dM:=A1 (cO.o w9 cF);clear cF);go_ret;exact⟨rfl,dM.o⟩
end
section
variable{w w':gC}{ab b xb jb B:Nat}{sv ov lv jo:gD}{A:Ar}{P P':PD}{Ft FT:Nat->Prop}{a c m:Nat}{J':Jn}
def Cv.jd(h:Cv w ab b xb jb sv ov lv jo A P Ft):JD w jb b A.j P (λk=>Ft k\/Dt jb lv jo k):=
 ⟨lv,jo,Ft,h.jn,h.dk,h.lt,λk d=>h.Dp k (.inr (.inr (.inr (.inr d)))),λ_ h=>h⟩
def Cv.eL(h:Cv w ab b xb jb sv ov lv jo A P Ft)(E:∀k,Ft k\/G0 ab xb jb sv ov lv jo k->FT k)(hI:Ap w (λk=>Ft k\/Dt jb lv jo k) w' (λw' O=>JD w' jb b J' P' O)):Ap w FT w' (λw' O=>AD w' ab b {A with j:=J'} P' O):=by
 obtain⟨hc,F2,⟨lv',aA,X,h1,h2,h3,h4,h5⟩,hl,hs⟩:=hI;have z:∀k,(k=ab\/k=xb\/sv.ownBlock=some k\/ov.ownBlock=some k)->k<w.heap.size/\¬Ft k/\¬Dt jb lv jo k:=λk d=>by
  rcases d with rfl|rfl|d|d
  ·exact⟨h.Ae.lt,h.Dp _ (.inl rfl),λL=>(h.Gg _ L).1 rfl⟩
  ·exact⟨h.ix.lt,h.Dp _ (.inr (.inl rfl)),λL=>(h.Gg _ L).2 rfl⟩
  ·exact⟨h.sd.lt d,h.Dp k (.inr (.inr (.inl d))),(h.G2 k d).2.2⟩
  ·exact⟨h.AS.lt d,h.Dp k (.inr (.inr (.inr (.inl d)))),(h.GD k d).2.2⟩
 have keep:∀k,(k=ab\/k=xb\/sv.ownBlock=some k\/ov.ownBlock=some k)->w'.heap[k]?=w.heap[k]?:=λk d=>hc.Al k (z k d).1 λL=>L.elim (z k d).2.1 (z k d).2.2;have out:∀k,(k=ab\/k=xb\/sv.ownBlock=some k\/ov.ownBlock=some k)->¬X k/\¬Dt jb lv' aA k:=λk d=>
  ⟨λL=>(hs k (h5 k (.inl L))).elim (λhy=>hy.elim (z k d).2.1 (z k d).2.2) λhy=>by have:=(z k d).1;omega,
   λL=>(hs k (h5 k (.inr L))).elim (λhy=>hy.elim (z k d).2.1 (z k d).2.2) λhy=>by have:=(z k d).1;omega⟩
 have Y:Cv w' ab b xb jb sv ov lv' aA {A with j:=J'} P' X:=by
  refine⟨(keep ab (.inl rfl)).trans h.Ae,(keep xb (.inr (.inl rfl))).trans h.ix,h.sd.aK λg I=>keep g (.inr (.inr (.inl I))),h.AS.aK λg I=>keep g (.inr (.inr (.inr I))),h1,h2,h3,λk d=>?_,λg I=>?_,λg I=>?_,λk d=>?_⟩
  ·rcases d with d|d|d|d|d
   ·exact(out k (.inl d)).1
   ·exact(out k (.inr (.inl d))).1
   ·exact(out k (.inr (.inr (.inl d)))).1
   ·exact(out k (.inr (.inr (.inr d)))).1
   ·exact h4 k d
  ·exact⟨(h.G2 g I).1,(h.G2 g I).2.1,(out g (.inr (.inr (.inl I)))).2⟩
  ·exact⟨(h.GD g I).1,(h.GD g I).2.1,(out g (.inr (.inr (.inr I)))).2⟩
  ·exact⟨λe=>(out ab (.inl rfl)).2 (e ▸ d),λe=>(out xb (.inr (.inl rfl))).2 (e ▸ d)⟩
 have sub:∀k,(Ft k\/Dt jb lv jo k)->FT k:=λk d=>d.elim (λh=>E k (.inl h)) λh=>E k (.inr (.inr (.inr (.inr (.inr h)))));refine Y.bP hc (λk _ d=>sub k d) (λk d=>(hs k (h5 k (.inl d))).imp (sub k) id) λk d=>?_;rcases d with d|d|d|d|d
 ·exact .inl (E k (.inr (.inl d)))
 ·exact .inl (E k (.inr (.inr (.inl d))))
 ·exact .inl (E k (.inr (.inr (.inr (.inl d)))))
 ·exact .inl (E k (.inr (.inr (.inr (.inr (.inl d))))))
 ·exact(hs k (h5 k (.inr d))).imp (sub k) id
def A3S(w:gC)(p:Pu)(h:AD w ab b A P FT)(aS:∀k,FT k->k<w.heap.size)(hp:Bo p)(hn:A.j.AB=none->CK (A.j.Ac+1)/\Ay (A.j.Ac+1)/\Ay A.j.pd)(aR:A.j.Ao.length<=1073741824)(hL:Lets B w)(aJ:∀k,FT k->B<=k)(hF:Fit P a c m)(hl:CV (a+1) (c+1) (m+33)):
 Ag 105 #[A5 ab,DO p] w (Aj (.tuple #[.bool (A.af P p).1,A0 (A.af P p).2.1]) λw'=>Ap w FT w' (λw' I=>AD w' ab b (A.af P p).2.2.1 (A.af P p).2.2.2 I)):=by
 obtain⟨E,z,d⟩:=p;unfold DO;dsimp only
 have⟨s1,s2,s3⟩:=Ov A P;have aQ:Cg (w.aC #[A0 E,A0 z,A0 d] 113) w.heap.size E z d:=Bn w _;have k0:A4 Aa w (w.aC #[A0 E,A0 z,A0 d] 113):=(A4.C _ w).ai _;have ST:=A1 (RO _ (h.ak k0))
 have aI:Hid (A.af P (E,z,d)=if (A.I P).1≠0 then (false,(A.I P).1,(A.I P).2.1,(A.I P).2.2) else
  (((A.I P).2.1.j.af (A.I P).2.2 (E,z,d)).1,((A.I P).2.1.j.af (A.I P).2.2 (E,z,d)).2.1,{ (A.I P).2.1 with j:=((A.I P).2.1.j.af (A.I P).2.2 (E,z,d)).2.2.1},((A.I P).2.1.j.af (A.I P).2.2 (E,z,d)).2.2.2)):=rfl
 have aF:=hF.I (A:=A);generalize hR:A.af P (E,z,d)=R at aI ⊢;generalize hX:A.I P=X at aI ST s1 s2 s3 aF;obtain⟨aK,O,aD⟩:=X;dsimp only at aI ST s1 s2 s3 aF;have sz:w.heap.size<(w.aC #[A0 E,A0 z,A0 d] 113).heap.size:=iE
 have aN:Hid (∀w2,Ap (w.aC #[A0 E,A0 z,A0 d] 113) FT w2 (λw' I=>AD w' ab b O aD I)->∃jb,A7 w2 ab 2 (A5 jb)/\Cg w2 w.heap.size E z d/\
  Ag 148 #[A5 jb,.agg #[A0 E,A0 z,A0 d]] w2.drew (Aj (.tuple #[.bool (O.j.af aD (E,z,d)).1,A0 (O.j.af aD (E,z,d)).2.1]) λw'=>
   (A7 w' ab 2 (A5 jb)/\Cg w' w.heap.size E z d)/\Ap w FT w' (λw' I=>AD w' ab b {O with j:=(O.j.af aD (E,z,d)).2.2.1} (O.j.af aD (E,z,d)).2.2.2 I))):=λw2 h2=>by
  obtain⟨c2,aV,⟨xb,jb,sv,ov,lv,jo,Ft,hv,aB⟩,l2,q2⟩:=h2;have kd:A4 Aa w2 w2.drew:=(A4.C _ w2).aa;have aH:=hv.ak kd;have np:¬FT w.heap.size:=λL=>FV _ (aS _ L);have aU:¬aV w.heap.size:=λL=>by rcases q2 _ L with h|h;exact np h;omega
  have aA:=aQ.aj c2 np;refine⟨jb,hv.Ae.c2,aA,(A1o w2.drew (E,z,d) aH.jd hp (by rw[s2];exact hn) (by rw[s2];exact aR) (((hL.aL k0).aj c2 aJ).aL kd) aF hl).mono ?_⟩;rintro e w'⟨rfl,hI⟩;have aG:∀k,(Ft k\/Dt jb lv jo k)->aV k:=λk hk=>hk.elim (λh=>aB k (.inl h)) λh=>aB k (.inr (.inr (.inr (.inr (.inr h)))));refine⟨rfl,⟨(aH.Ae.aj hI.1 λL=>L.elim (hv.Dp _ (.inl rfl)) λL=>(hv.Gg _ L).1 rfl).c2,aA.aa.aj hI.1 λL=>aU (aG _ L)⟩,?_⟩;exact((Ap.aZ (c2.aa) q2 (aH.eL aB hI)).a1 k0)
 have aL:Hid (∀wx aM aT,Ap (w.aC #[A0 E,A0 z,A0 d] 113) FT wx (λw' I=>AD w' ab b aM aT I)->Ap w FT wx (λw' I=>AD w' ab b aM aT I)):=λwx aM aT L=>L.a1 k0;by_cases L:aK=0
 case neg=>
  have aE:R=(false,aK,O,aD):=by rw[aI.o,Ai L]
  subst aE;have hxb:(aK !=0)=true:=by simpa using L
  go_enter func105,ntmps105
  go_wp2_with (go_at_call 118;refine ST.k ?_;rintro w2 hI;have aO:=A1 (aL.o _ _ _ hI));go_ret2;exact⟨rfl,aO.o⟩
 case pos=>
  subst L;have aE:R=((O.j.af aD (E,z,d)).1,(O.j.af aD (E,z,d)).2.1,{O with j:=(O.j.af aD (E,z,d)).2.2.1},(O.j.af aD (E,z,d)).2.2.2):=by rw[aI.o,Af iE]
  generalize hY:O.j.af aD (E,z,d)=Y at aN aE;obtain⟨Y0,Y1,Y2,Y3⟩:=Y;dsimp only at aN aE;subst aE
  go_enter func105,ntmps105
  go_wp2_with (fail);refine ST.k ?_;rintro w2 hI;have⟨jb,c22,aA,AL⟩:=aN.o w2 hI;have aP:=A1 AL;have d2:A7 w2.drew ab 2 (A5 jb):=c22;have e0:=aA.aa.c0;have e1:=aA.aa.c1;have e2:=aA.aa.c2;go_wp2;refine Bq (λw'=>A7 w' ab 2 (A5 jb)/\A7 w' w.heap.size 0 (A0 E)/\A7 w' w.heap.size 1 (A0 z)/\A7 w' w.heap.size 2 (A0 d)) 8
   (Ba [0,1,2,3,4,5,6,7] [5]) ⟨d2,e0,e1,e2⟩ ?_
  iterate 5 refine B4 ?_
  refine Bf λK hK=>?_;go_simp;refine aP.k ?_;rintro w3⟨⟨e4,eb⟩,hI⟩;refine hK _ _ ⟨e4,eb.c0,eb.c1,eb.c2⟩ (λhS=>?_);have aO:=A1 hI
  iterate 2 refine B4 ?_
  refine Bl ?_;go_wp2;go_ret2;exact⟨rfl,aO.o⟩
def XF(w:gC)(g:Nat)(h:AD w ab b A P FT)(hg:¬FT g)(Y:g<w.heap.size)(aA:w.cell? ⟨ab,2,none⟩=some (.pointer (some ⟨jb,0,none⟩)))(hb:w.heap[g]?=some (.cells #[.func (Fn.func 118) #[.pointer (some ⟨ab,0,none⟩)] #[],.func (Fn.func 119) #[.pointer (some ⟨jb,0,none⟩)] #[],.func (Fn.func 86) #[.pointer (some ⟨b,0,none⟩)] #[]] 50 (0,0))):
 Calls Tryz.prog 117 #[.slice (some ⟨g,0,none⟩) 3 3] w λe w'=>e=.returned (.int .i64 (A.ae P).1)/\Ap w FT w' (λw' d=>AD w' ab b (A.ae P).2.1 (A.ae P).2.2 d):=by
 refine(A1W w g ab jb b (λn w'=>n=(A.I P).1/\Ap w FT w' (λw' d=>AD w' ab b (A.I P).2.1 (A.I P).2.2 d)/\w'.cell? ⟨ab,2,none⟩=w.cell? ⟨ab,2,none⟩)
  (λn w'=>(A.I P).1=0/\n=((A.I P).2.1.j.ae (A.I P).2.2).1/\Ap w FT w' (λw' d=>AD w' ab b (A.I P).2.1 ((A.I P).2.1.j.ae (A.I P).2.2).2 d))
  (λn w'=>(A.I P).1=0/\((A.I P).2.1.j.ae (A.I P).2.2).1=0/\n=((A.I P).2.1.j.ae (A.I P).2.2).2.aI.1/\Ap w FT w' (λw' d=>AD w' ab b (A.I P).2.1 ((A.I P).2.1.j.ae (A.I P).2.2).2.aI.2 d)) hb ?_ ?_ ?_).mono ?_
 ·refine(RN w h).mono ?_;rintro e w'⟨L,z,E⟩;exact⟨_,L,⟨rfl,z,E⟩,z.1.Al g Y hg⟩
 ·rintro w1⟨h0,⟨c1,aE,⟨xb,aB,sv,ov,lv,jo,Ft,hv,X⟩,E,I⟩,hc⟩ hk;have e:aB=jb:=by have:=hv.Ae.c2.symm.trans (hc.trans aA);simpa using this
  subst e;refine(A1m w1 hv.jd).mono ?_;rintro e w'⟨O,h6⟩;have hI:=Ap.aZ c1 I (hv.eL X h6);exact⟨_,O,⟨h0.symm,rfl,hI⟩,hI.1.Al g Y hg⟩
 ·rintro w1⟨h0,aD,c1,aE,z,E,I⟩ -;refine(VQ z).mono ?_;rintro e w'⟨O,h6⟩;exact⟨_,O,h0,aD.symm,rfl,Ap.aZ c1 I h6⟩
 ·rintro e w'⟨n,rfl,⟨L,z,E,_⟩|⟨L,z,E,I⟩|⟨z,E,I,O⟩⟩
  ·subst z;unfold Ar.ae;rw[Ai L];exact⟨rfl,E⟩
  ·subst E;unfold Ar.ae;rw[Af (by simp[z]),Ai L];exact⟨rfl,I⟩
  ·subst I;unfold Ar.ae;rw[Af (by simp[z]),Af (by simp[E])];exact⟨rfl,O⟩
def A3P(w:gC)(h:AD w ab b A P FT)(O:∀k,FT k->k<w.heap.size):
 Ag 74 #[A5 ab] w (Aj (A0 (A.ae P).1) λw'=>Ap w FT w' (λw' d=>AD w' ab b (A.ae P).2.1 (A.ae P).2.2 d)):=by
 obtain⟨jb,c2⟩:∃jb,A7 w ab 2 (A5 jb):=by
  obtain⟨xb,jb,sv,ov,lv,jo,Ft,hv,_⟩:=h;exact⟨jb,hv.Ae.c2⟩
 have c0:=h.bt.1;have z:A4 Aa w (w.aC #[.func (Fn.func 118) #[A5 ab] #[],.func (Fn.func 119) #[A5 jb] #[],.func (Fn.func 86) #[A5 b] #[]] 50).drew:=((A4.C _ w).ai _).aa;have L:=A1 (XF _ w.heap.size (h.ak z) (λY=>FV _ (O _ Y)) (by show w.heap.size<(w.alloc _).heap.size;simp) (z.ad c2) (Bn w _));have aD:=A1 z;have d0:A7 w.drew ab 0 (A5 b):=c0;have d2:A7 w.drew ab 2 (A5 jb):=c2;have e0:=z.ad c0;have e2:=z.ad c2;have E:Hid (∀w' X aA,Ap (w.aC #[.func (Fn.func 118) #[A5 ab] #[],.func (Fn.func 119) #[A5 jb] #[],.func (Fn.func 86) #[A5 b] #[]] 50).drew FT w' (λw' d=>AD w' ab b X aA d)->Ap w FT w' (λw' d=>AD w' ab b X aA d)/\A7 w' ab 0 (A5 b)):=λw' X aA Y=>by
  obtain⟨c,F,r,l,s⟩:=Y;exact⟨Ap.a1 ⟨c,F,r,l,s⟩ aD.o,r.bt.1⟩
 generalize hR:A.ae P=R at L ⊢;obtain⟨R1,R2,R3⟩:=R;dsimp only at L ⊢
 go_enter func74,ntmps74
 go_wp2;refine Bq (λw'=>A7 w' ab 0 (A5 b)/\A7 w' ab 2 (A5 jb)) 13
  (Ba [0,1,2,3,4,5,6,7,8,9,10,11,12] [12]) ⟨d0,d2⟩ ?_
 iterate 12 refine B4 ?_
 refine Bf λK hK=>?_;go_simp;refine hK _ _ ⟨e0,e2⟩ (λhS=>?_);refine Bl ?_;go_wp2_with (go_at_call 117;refine L.k ?_;rintro w6 aB;have I:=A1 (E.o _ _ _ aB).1);go_ret;exact⟨rfl,I.o⟩
end
def Ht(len:Int)(p q:Pu):Int:=Ku (Ct (BH p.2.1 len) (BH q.2.1 len)) (Cx p q)
def Qd{x y:Int}:Ct x y<0↔x<y:=by
 unfold Ct;split
 ·simp_all
 ·split<;>simp_all
def Np{x y:Int}:Ct x y=0↔x=y:=by
 unfold Ct;split
 ·constructor<;>intro h<;>omega
 ·split
  ·constructor<;>intro h<;>omega
  ·constructor<;>intro h<;>omega
def A3e{p q:Pu}:Cx p q<0↔(p.1<q.1\/p.1=q.1/\p.2.1<q.2.1):=by
 unfold Cx;by_cases h:Ct p.1 q.1=0
 ·rw[Af (by simpa using h),Qd];have:=Np.1 h;constructor
  ·exact λd=>.inr ⟨this,d⟩
  ·rintro (d|⟨_,d⟩)
   ·omega
   ·exact d
 ·rw[Ai h,Qd];have:¬p.1=q.1:=λe=>h (Np.2 e);constructor
  ·exact λd=>.inl d
  ·rintro (d|⟨d,_⟩)
   ·exact d
   ·exact absurd d this
def Nn{len:Int}{p q:Pu}:Ht len p q<0↔AE len p q=true:=by
 unfold Ht Ku AE;rw[decide_eq_true_iff];by_cases h:Ct (BH p.2.1 len) (BH q.2.1 len)=0
 ·rw[Af (by simpa using h),A3e];have:=Np.1 h;constructor
  ·exact λd=>.inr ⟨this,d⟩
  ·rintro (d|⟨_,d⟩)
   ·omega
   ·exact d
 ·rw[Ai h,Qd];have:¬BH p.2.1 len=BH q.2.1 len:=λe=>h (Np.2 e);constructor
  ·exact λd=>.inl d
  ·rintro (d|⟨d,_⟩)
   ·exact d
   ·exact absurd d this
def Gi(len:Int):BZ (AE len):=by
 refine⟨λx=>?_,λx y z=>?_,λx y z=>?_⟩
 ·unfold AE;simp
 ·unfold AE;simp only[Ea];omega
 ·unfold AE;simp only[Ea];omega
def A3b(len:Int)(p q:Pu):Ht len p q = -1\/Ht len p q=0\/Ht len p q=1:=by
 unfold Ht Ku;split
 ·exact Qb _ _
 ·exact Vi _ _
def No(w:gC)(wb:Nat)(len:Int)(p q:Pu)(hp:Ay p.2.1)(hq:Ay q.2.1)(hl:1<=len/\len<=4611686018427387904)(hw:A7 w wb 0 (A0 len)):
 Ag 155 #[DO p,DO q,A5 wb] w (Aj (A0 (Ht len p q)) λw'=>A4 Aa w w'):=by
 obtain⟨Y,z,I⟩:=p;obtain⟨L,E,X⟩:=q;unfold Ht DO;dsimp only at hp hq ⊢;have aO:=A1 (Q9);have OR:=A1 (Tk);have aL:=A1 (λd t (ht:Ay t)=>Ob d t len ht hl);have aF:=A1 (λd=>OQ d (Y,z,I) (L,E,X));unfold DO at aF;dsimp only at aF;obtain⟨x,hx⟩:=iG (BH z len);obtain⟨y,hy⟩:=iG (BH E len);have aE:=A1 (λd=>aL.o d z hp);have aB:=A1 (λd=>aL.o d E hq);rw[hx]at aE;rw[hy]at aB;rw[hx,hy];obtain⟨r,hr⟩:=iG (Ct x y);obtain⟨s,hs⟩:=iG (Cx (Y,z,I) (L,E,X));have aD:=A1 (λd=>aO.o d x y);rw[hr]at aD;rw[hs]at aF;rw[hr,hs];have b1:Cg ((w.alloc (.cells #[A0 Y,A0 z,A0 I] 113)).alloc (.cells #[A0 L,A0 E,A0 X] 113)) w.heap.size Y z I:=(CW _ _ _ iE).trans (Bn w _);have b2:Cg ((w.alloc (.cells #[A0 Y,A0 z,A0 I] 113)).alloc (.cells #[A0 L,A0 E,A0 X] 113)) (w.heap.size+1) L E X:=by
  have:=Bn (w.alloc (.cells #[A0 Y,A0 z,A0 I] 113)) (.cells #[A0 L,A0 E,A0 X] 113);simpa[Cg] using this
 have k2:A4 Aa w ((w.alloc (.cells #[A0 Y,A0 z,A0 I] 113)).alloc (.cells #[A0 L,A0 E,A0 X] 113)):=((A4.C _ w).ai _).ai _;have sz:((w.alloc (.cells #[A0 Y,A0 z,A0 I] 113)).alloc (.cells #[A0 L,A0 E,A0 X] 113)).heap.size=w.heap.size+2:=iE
 have aM:=A1 b1;have aI:=A1 b2;have aJ:=A1 k2;have aP:=A1 sz;have aN:=A1 (k2.ad hw)
 go_enter func155,ntmps155
 go_wp2;generalize ((w.alloc (.cells #[A0 Y,A0 z,A0 I] 113)).alloc (.cells #[A0 L,A0 E,A0 X] 113))=w2 at aM aI aJ aP aN ⊢;have aG:Hid (∀d,A4 Aa w2 d->A7 d w.heap.size 0 (A0 Y)/\A7 d w.heap.size 1 (A0 z)/\A7 d w.heap.size 2 (A0 I)/\A7 d (w.heap.size+1) 0 (A0 L)/\A7 d (w.heap.size+1) 1 (A0 E)/\A7 d (w.heap.size+1) 2 (A0 X)/\A7 d wb 0 (A0 len)):=λd hx=>by
  have e1:=aM.o.aj hx (λh=>h);have e2:=aI.o.aj hx (λh=>h);exact⟨e1.c0,e1.c1,e1.c2,e2.c0,e2.c1,e2.c2,hx.ad aN.o⟩
 have aA:=aG.o w2.drew (A4.C _ w2).aa;refine Bq (λw'=>A7 w' w.heap.size 0 (A0 Y)/\A7 w' w.heap.size 1 (A0 z)/\A7 w' w.heap.size 2 (A0 I)/\A7 w' (w.heap.size+1) 0 (A0 L)/\A7 w' (w.heap.size+1) 1 (A0 E)/\A7 w' (w.heap.size+1) 2 (A0 X)/\A7 w' wb 0 (A0 len)) 16
  (Ba [0,1,2,3,5,6,7,8,11,12,4,9,10,13,14,15] [4,9,10,13,14,15]) aA ?_
 iterate 10 refine B4 ?_
 refine Bf λK O=>?_;go_simp;refine(aE.o _).k ?_;rintro w3 rfl;refine O _ _ aA (λhS=>?_);refine Bf λK O=>?_;go_simp;refine(aB.o _).k ?_;rintro w3 rfl;refine O _ _ aA (λhS=>?_);refine Bf λK O=>?_;go_simp;refine(aD.o _).k ?_;rintro w3 rfl;refine O _ _ aA (λhS=>?_);refine Bf λK O=>?_;go_simp;refine(aF.o _).k ?_;rintro w4 aH;have k4:A4 Aa w2 w4:=((A4.C Aa w2).aa).tr aH;refine O _ _ (aG.o w4 k4) (λhS=>?_);have aQ:=A1 k4;refine Bf λK O=>?_;go_simp;have hb:(w4.alloc (.cells #[A0 r,A0 s] 3)).heap[w4.heap.size]?=some (.cells #[A0 r,A0 s] 3):=Bn w4 _;have k5:A4 Aa w2 (w4.alloc (.cells #[A0 r,A0 s] 3)):=aQ.o.ai _;refine O _ _ (aG.o _ k5) (λhS=>?_);have aK:=A1 k5;have EV:=A1 (OR.o (w4.alloc (.cells #[A0 r,A0 s] 3)) w4.heap.size r s (by simp only[A7,World.cell?,hb];rfl) (by simp only[A7,World.cell?,hb];rfl));refine Bf λK O=>?_;go_simp;refine EV.k ?_;rintro w5 rfl;refine O _ _ (aG.o _ aK.o) (λhS=>?_);refine Bl ?_;go_wp2;go_ret;exact⟨rfl,aJ.o.tr aK.o⟩
def T1(l:gF Pu):(B5 l).length=l.length*3:=by
 induction l with
 | nil=>rfl
 | cons p r ih=>obtain⟨a,b,c⟩:=p;simp only[B5,CA,ih];omega
def T0:∀(l:gF Pu) (k:Nat) (_:k<l.length) (p:Pu),B5 (l.set k p)=(((B5 l).set (k*3) (.int .i64 p.1)).set (k*3+1) (.int .i64 p.2.1)).set (k*3+2) (.int .i64 p.2.2)
 | [],k,h,p=>by simp at h
 | (a,b,c):: r,0,_,p=>by obtain⟨p1,p2,p3⟩:=p;simp[B5]
 | (a,b,c):: r,k+1,h,p=>by
  have z:=T0 r k (by simpa using h) p;have d:(k+1)*3=k*3+1+1+1:=iC
  simp only[Qy,B5,z,d]
def B1.bw{w:gC}{g n cap:Nat}{l:gF Pu}(h:w.ownsRow 0 113 3 (AA g n cap) n (B5 l))(k:Nat)(d:k<l.length)(p:Pu):
 (((w.setCell (A9 g (k*3)) (A0 p.1)).setCell (A9 g (k*3+1)) (A0 p.2.1)).setCell (A9 g (k*3+2)) (A0 p.2.2)).ownsRow 0 113 3 (AA g n cap) n (B5 (l.set k p)):=by
 rw[T0 l k d p];exact(((h.stored (k*3) _).1.stored (k*3+1) _).1.stored (k*3+2) _).1
def Yt{α:Type}(A C:gF α)(x y:α):((A++y::x::C).set (A.length+1) y).set A.length x=A++x::y::C:=by
 have d:(A++y::x::C).set (A.length+1) y=A++y::y::C:=by
  rw[Jj _ _ iC];simp
 rw[d,Jj _ _ iC];simp
def B1.gw{w:gC}{g n cap:Nat}{A C:gF Pu}{x y:Pu}(h:w.ownsRow 0 113 3 (.slice (some ⟨g,0,none⟩) n cap) n (B5 (A++y::x::C))):
 (w.cell? ⟨g,A.length*3,none⟩=some (.int .i64 y.1)/\w.cell? ⟨g,A.length*3+1,none⟩=some (.int .i64 y.2.1)/\w.cell? ⟨g,A.length*3+2,none⟩=some (.int .i64 y.2.2))/\
 (w.cell? ⟨g,(A.length+1)*3,none⟩=some (.int .i64 x.1)/\w.cell? ⟨g,(A.length+1)*3+1,none⟩=some (.int .i64 x.2.1)/\w.cell? ⟨g,(A.length+1)*3+2,none⟩=some (.int .i64 x.2.2))/\∀o,w.frozen? ⟨g,o,none⟩=false:=by
 have⟨q1,q2,q3⟩:=HK (A++y::x::C) A.length iE;have⟨r1,r2,r3⟩:=HK (A++y::x::C) (A.length+1) iE;have d:(A++y::x::C)[A.length]' iE=y:=iE
 have z:(A++y::x::C)[A.length+1]' iE=x:=by
  rw[Gj iC];simp
 rw[d]at q1 q2 q3;rw[z]at r1 r2 r3;exact⟨⟨Bu h rfl q1,Bu h rfl q2,Bu h rfl q3⟩,⟨Bu h rfl r1,Bu h rfl r2,Bu h rfl r3⟩,λo=>ER h rfl o⟩
def A1G{α:Type}{lt:α->α->Bool}(L:BZ lt){m:gF α}{x:α}{q:Nat}(hm:B6 lt m)(_hq:q<=m.length)(X:∀y∈m.drop q,lt x y=true)(Y:∀z,(m.take q).getLast?=some z->lt x z=false):
 B6 lt (m.take q++x::m.drop q)/\Bt lt (m++[x]) (m.take q++x::m.drop q):=by
 have E:=Ec q m;have hA:B6 lt (m.take q++m.drop q):=by rw[E];exact hm
 have⟨a1,a2,a3⟩:=hA.au;have hx:∀y∈m.take q,lt x y=false:=by
  have I:B6 lt [x]:=NQ _ _;have:=L.cT a1 I λz y h d=>by
   simp at d;subst d;exact Y z h
  exact λy d=>this y d x iE
 refine⟨B6.cQ a1 (Dl.2 ⟨λy d=>L.cw (X y d),a2⟩) λy d z h=>?_,?_⟩
 ·rcases BS.1 h with rfl|h
  ·exact hx y d
  ·exact a3 y d z h
 ·have h3:=L.dt X;have O:=(Bt.C (lt:=lt) (m.take q)).au h3;rw[<-Ci,E]at O;exact O
def Uq(w:gC)(g cap wb:Nat)(len:Int)(l:gF Pu)(a b:Nat)(hab:a<b)(hb:b<=l.length)(h:B1 w (AA g l.length cap) l)(hT:∀p∈l,Ay p.2.1)(hl:1<=len/\len<=4611686018427387904)(hw:A7 w wb 0 (A0 len))(bH:wb≠g)(_hbig:l.length<=4294967296):
 Ag 243 #[AA g l.length cap,A0 a,A0 b,.func (Fn.func 155) #[] #[A5 wb]] w (Aj (.tuple #[]) λw'=>
  ∃m,B1 w' (AA g l.length cap) (l.take a++m++l.drop b)/\m.length=b-a/\Bt (AE len) ((l.take b).drop a) m/\B6 (AE len) m/\A4 (One g) w w'):=by
 have bY:=Gi len;obtain⟨n,hn⟩:=iG l.length;have bZ:Hid (w.ownsRow 0 113 3 (AA g n cap) n (B5 l)):=by have:=h;unfold B1 at this;rw[hn]at this;exact this
 rw[hn]at hb ⊢;have aS:n<=cap/\cap<=9223372036854775807:=by
  have⟨a',c',e,h1,h2,_⟩:=B8 bZ.o;cases e;unfold maxLen at h2;omega
 obtain⟨hc1,hc2⟩:=aS;have b7:=A1 hT;have cB:=A1 hw;have cG:=A1 hl;have a8:=A1 hn;have bJ:=A1 bH;have eia:wrap64 ((a:Int)+1)=(a:Int)+1:=by unfold wrap64;omega
 go_enter func243,ntmps243
 go_wp2;go_loopw [8] (λiv wr=>∃i:Nat,iv=A0 ((i:Int)+1)/\a<=i/\i+1<=b/\Hid (∃m,wr.ownsRow 0 113 3 (AA g n cap) n (B5 (l.take a++m++l.drop (i+1)))/\m.length=i+1-a/\Bt (AE len) ((l.take (i+1)).drop a) m/\B6 (AE len) m/\A4 (One g) w wr)) (λiv _=>b-(intOf iv).toNat)
 ·refine⟨a,rfl,iC,iC,(l.take (a+1)).drop a,?_,?_,Bt.C _,?_,A4.C _ _⟩
  ·have e:l.take a++(l.take (a+1)).drop a++l.drop (a+1)=l:=by
    have:=Ec (a+1) l
    conv=>rhs;rw[<-this]
    congr 1
    have h2:=Ec a (l.take (a+1));rw[KQ]at h2;rw[show min a (a+1)=a by omega]at h2;exact h2
   rw[e];exact bZ.o
  ·have:=a8.o;simp;omega
  ·have aT:((l.take (a+1)).drop a).length<=1:=by simp;omega
   match hx:(l.take (a+1)).drop a,aT with
   | [],_=>exact List.Pairwise.nil
   | [x],_=>exact NQ _ _
   | x::y::r,hl=>simp at hl
 ·obtain⟨i,rfl,hai,hib,hI⟩:=hrel;have⟨m,i1,i2,i3,i4,i5⟩:=hI.o;by_cases hi1:i+1<b
  ·obtain⟨w1,bC⟩:=iH wr;subst bC;(have aG:i+1<l.length:=by have:=a8.o;omega);have a6:=FY aG;have a2:=Ds aG;have aX:=BT aG;generalize hx:(l[i+1]'aG)=x at a6 a2 aX;rw[a6]at i1;have cA:=A1 i1;have b8:=A1 i2;have b3:=A1 i3;have cD:=A1 i4;have cE:=A1 i5;have bA:Hid ((l.take (i+1+1)).drop a=(l.take (i+1)).drop a++[x]):=by
    unfold Hid;rw[a2,Ml (by simp;omega)]
   have bQ:=A1 (b7.o x aX);(have aY:Hid ((l.take a).length=a):=by unfold Hid;have:=a8.o;simp;omega);have bF:(i:Int)+1<(b:Int):=iC;go_wp2
   have aD:Hid (∀(O:gC) (q:Nat),q<=m.length->(∀y∈m.drop q,AE len x y=true)->(∀z,(m.take q).getLast?=some z->AE len x z=false)->O.ownsRow 0 113 3 (AA g n cap) n (B5 ((l.take a++m.take q)++x::(m.drop q++l.drop (i+1+1))))->A4 (One g) w O->
    ∃m',O.ownsRow 0 113 3 (AA g n cap) n (B5 (l.take a++m'++l.drop (i+1+1)))/\m'.length=i+1+1-a/\Bt (AE len) ((l.take (i+1+1)).drop a) m'/\B6 (AE len) m'/\A4 (One g) w O):=λO q hq h1 h2 h3 h4=>by
    have⟨d1,d2⟩:=A1G bY cD.o hq h1 h2;refine⟨m.take q++x::m.drop q,?_,?_,?_,d1,h4⟩
    ·(have e:l.take a++(m.take q++x::m.drop q)++l.drop (i+1+1)=(l.take a++m.take q)++x::(m.drop q++l.drop (i+1+1)):=iE);rw[e];exact h3
    ·have:=b8.o;simp;omega
    ·rw[bA.o];exact(b3.o.au (Bt.C _)).AF d2
   go_loopw [9] (λjv wr=>∃j q:Nat,jv=A0 (j:Int)/\j<=i+1/\Hid (j=a+q/\q<=m.length/\wr.ownsRow 0 113 3 (AA g n cap) n (B5 ((l.take a++m.take q)++x::(m.drop q++l.drop (i+1+1))))/\(∀y∈m.drop q,AE len x y=true)/\A4 (One g) w wr)) (λjv _=>(intOf jv).toNat)
   ·refine⟨i+1,m.length,by go_num,An _,by have:=b8.o;omega,An _,?_,(λy hy=>by rw[H5]at hy;cases hy),cE.o⟩;rw[C5,H5,Fh];exact cA.o
   ·obtain⟨j,q,rfl,bL,hJ⟩:=hrel;have⟨j1,j2,j3,j4,j5⟩:=hJ.o;by_cases bI:q=0
    ·subst bI;have bM:j=a:=iC;subst bM;have aM:=A1 (λnq=>aD.o (wr.drewN nq) 0 (Cb _) j4 (λz hz=>by simp at hz) (Au j3 λ_ _=>rfl) (j5.a7 nq));(have hjj:¬((j:Int)<(j:Int)):=iC);clear hJ j1 j2 j3 j4 j5 aD;go_wp2;go_quiet (fail);go_wp2;go_roundw
     ·exact⟨i+1,by go_num,iC,iC,aM.o _⟩
     ·simp[intOf];omega
    ·obtain⟨q,rfl⟩:∃q',q=q'+1:=⟨q-1,iC⟩;obtain⟨P,hP⟩:=iG (a+q);have bW:j=P+1:=iC;subst bW;have aA:q<m.length:=iC;have aB:=Ds aA;have aO:=FY aA;generalize hy:(m[q]'aA)=y at aB aO;(have aE:∀z,(m.take (q+1)).getLast?=some z->z=y:=λz hz=>by rw[aB]at hz;simpa using hz.symm);have aU:Ay y.2.1:=by
      (have bR:y∈m:=by rw[<-hy];exact BT aA);have:=(b3.o.bH.DG bY bR);exact b7.o y (HD (KU this))
     (have aJ:(l.take a++m.take q).length=P:=by have:=aY.o;rw[B3,this,BK];omega);(have e0:(l.take a++m.take (q+1))++x::(m.drop (q+1)++l.drop (i+1+1))=(l.take a++m.take q)++y::x::(m.drop (q+1)++l.drop (i+1+1)):=by rw[aB];simp);have aF:=j3;rw[e0]at aF;have⟨⟨y1,y2,y3⟩,⟨x1,x2,x3⟩,fz⟩:=B1.gw aF;rw[aJ]at y1 y2 y3 x1 x2 x3;have a0:=A1 (λO bK=>No O wb len x y bQ.o aU cG.o bK);have bU:=A3b len x y;have aN:=Nn (len:=len) (p:=x) (q:=y);generalize bT:Ht len x y=cc at a0 bU aN;have aH:=j5.bI cB.o (λe=>bJ.o e);have b2:=A1 j3;have aZ:=A1 aF;have b6:=A1 j4;have b1:=A1 j5;have a3:=A1 aO;have HTQ:=A1 aB;have aK:=A1 aE;have X:=A1 aJ;have cF:=A1 hP;have aW:=A1 aA;have bO:=A1 bL;have a5:=A1 aN;have hPn:(P:Int)+1<(n:Int):=iC;have hPn2:(P:Int)<(n:Int):=iC;have hP0:=BJ P;have hPa:(a:Int)<(P:Int)+1:=iC;have pk:(0:Int)<=(P:Int)+1:=iC;have bG:IntKind.i64.wrap (P:Int)=P:=E9 iC;(have ew1:IntKind.i64.wrap ((P:Int)+1-1)=P:=by rw[K9];exact bG);(have ew2:wrap64 ((P:Int)+1-1)=P:=by unfold wrap64;omega);(have ew3:wrap64 (P:Int)=P:=by unfold wrap64;omega);have tk:=EX (P+1);obtain⟨Y,d,xc⟩:=x;obtain⟨I,L,E⟩:=y;dsimp only at y1 y2 y3 x1 x2 x3;unfold DO at a0;dsimp only at a0;have a7:Hid (∀O,A4 Aa wr O->A7 O g (P*3) (A0 I)/\A7 O g (P*3+1) (A0 L)/\A7 O g (P*3+2) (A0 E)/\A7 O g ((P+1)*3) (A0 Y)/\A7 O g ((P+1)*3+1) (A0 d)/\A7 O g ((P+1)*3+2) (A0 xc)):=λO hx=>
      ⟨hx.ad y1,hx.ad y2,hx.ad y3,hx.ad x1,hx.ad x2,hx.ad x3⟩
     have b0:=a7.o wr.drew (A4.C _ wr).aa;have aQ:=A1 (a0.o wr.drew aH);clear hJ j1 j2 j3 aF j4 j5 aB aO aE aJ hP aN aU hy bT e0 a0 aH aA fz;by_cases aR:cc<0
     ·have bS:¬(0<=cc):=iC;go_wp2;refine Bq (λw'=>A7 w' g (P*3) (A0 I)/\A7 w' g (P*3+1) (A0 L)/\A7 w' g (P*3+2) (A0 E)/\A7 w' g ((P+1)*3) (A0 Y)/\A7 w' g ((P+1)*3+1) (A0 d)/\A7 w' g ((P+1)*3+2) (A0 xc)) 16
       (Ba [0,1,2,3,4,5,6,7,8,9,10,11,12,13,14,15] [14]) b0 ?_
      iterate 14 refine B4 ?_
      refine Bf λK hK=>?_;go_simp;refine aQ.k ?_;rintro w6 aL;have k6:=((A4.C Aa wr).aa).tr aL;refine hK _ _ (a7.o w6 k6) (λhS=>?_);have b4:=A1 k6;have b9:=a7.o w6 k6;refine B4 ?_;refine Bl ?_;obtain⟨y1,y2,y3,x1,x2,x3⟩:=b9;have bX:Hid (w6.ownsRow 0 113 3 (AA g n cap) n (B5 ((l.take a++m.take q)++(I,L,E):: (Y,d,xc):: (m.drop (q+1)++l.drop (i+1+1))))):=Au aZ.o λg' hg=>b4.o.Al g' (Aw aZ.o hg) (λh=>h);have fz:∀o,w6.frozen? (A9 g o)=false:=λo=>ER bX.o rfl o;go_wp2;refine Mt 15 (λw'=>A7 w' g (P*3) (A0 I)/\A7 w' g (P*3+1) (A0 L)/\A7 w' g (P*3+2) (A0 E)/\A7 w' g ((P+1)*3) (A0 Y)/\A7 w' g ((P+1)*3+1) (A0 d)/\A7 w' g ((P+1)*3+2) (A0 xc)) 16
       [(0,1),(1,1),(5,1),(6,1),(7,1),(8,1),(9,1),(10,2),(11,2),(12,2),(13,1),(14,1),(2,2),(3,2),(4,2),(15,0)] ⟨y1,y2,y3,x1,x2,x3⟩ ?_
      iterate 7 refine IN ?_
      iterate 3 refine IP ?_
      iterate 2 refine IN ?_
      iterate 3 refine IP ?_
      refine Mv λK hK=>?_;go_simp;refine hK _ _ ?_;refine Mu ?_;have e1:((l.take a++m.take q)++(I,L,E):: (Y,d,xc):: (m.drop (q+1)++l.drop (i+1+1))).length=((l.take a++m.take q)++(I,L,E):: (Y,d,xc):: (m.drop (q+1)++l.drop (i+1+1))).length:=rfl;have aP:=B1.bw bX.o (P+1) (by have:=X.o;rw[B3,X.o];simp) (I,L,E);have bP:=B1.bw aP P (by have:=X.o;rw[HX,B3,X.o];simp) (Y,d,xc);have a1:=Yt (l.take a++m.take q) (m.drop (q+1)++l.drop (i+1+1)) (Y,d,xc) (I,L,E);rw[X.o]at a1;rw[a1]at bP;have aI:∀hh,(((l.take a++m.take q)++(I,L,E):: (Y,d,xc):: (m.drop (q+1)++l.drop (i+1+1))).set (P+1) (I,L,E))[P]'hh=(I,L,E):=λhh=>by
       rw[A4S iC];rw[Gj (by rw[X.o];exact An _)];simp[X.o]
      have⟨p1,p2,p3⟩:=HK _ P (show P<(((l.take a++m.take q)++(I,L,E):: (Y,d,xc):: (m.drop (q+1)++l.drop (i+1+1))).set (P+1) (I,L,E)).length by rw[HX,B3,X.o];simp);rw[aI]at p1 p2 p3;have z1:=Bu aP rfl p1;have z2:=Bu aP rfl p2;have z3:=Bu aP rfl p3;dsimp only at aP bP z1 z2 z3;have bE:=A1 bP;have bV:∀o,((((w6.setCell (A9 g ((P+1)*3)) (A0 I)).setCell (A9 g ((P+1)*3+1)) (A0 L)).setCell (A9 g ((P+1)*3+2)) (A0 E))).drew.frozen? (A9 g o)=false:=λo=>ER aP rfl o;have b5:Hid (A4 (One g) wr (((((((w6.setCell (A9 g ((P+1)*3)) (A0 I)).setCell (A9 g ((P+1)*3+1)) (A0 L)).setCell (A9 g ((P+1)*3+2)) (A0 E)).drew.setCell (A9 g (P*3)) (A0 Y)).setCell (A9 g (P*3+1)) (A0 d)).setCell (A9 g (P*3+2)) (A0 xc)))):=
       ((((((b4.o.aS (S:=One g)).an (b:=g) rfl _ _).an (b:=g) rfl _ _).an (b:=g) rfl _ _).aa.an (b:=g) rfl _ _).an (b:=g) rfl _ _).an (b:=g) rfl _ _
      have a4:Hid ((((((((w6.setCell (A9 g ((P+1)*3)) (A0 I)).setCell (A9 g ((P+1)*3+1)) (A0 L)).setCell (A9 g ((P+1)*3+2)) (A0 E)).drew.setCell (A9 g (P*3)) (A0 Y)).setCell (A9 g (P*3+1)) (A0 d)).setCell (A9 g (P*3+2)) (A0 xc))).ownsRow 0 113 3 (AA g n cap) n (B5 ((l.take a++m.take q)++(Y,d,xc):: (I,L,E):: (m.drop (q+1)++l.drop (i+1+1))))):=Au bE.o λ_ _=>rfl;have bD:((((w6.setCell (A9 g ((P+1)*3)) (A0 I)).setCell (A9 g ((P+1)*3+1)) (A0 L)).setCell (A9 g ((P+1)*3+2)) (A0 E))).drew.cell? (A9 g (P*3))=some (A0 I):=z1;have bN:((((w6.setCell (A9 g ((P+1)*3)) (A0 I)).setCell (A9 g ((P+1)*3+1)) (A0 L)).setCell (A9 g ((P+1)*3+2)) (A0 E))).drew.cell? (A9 g (P*3+1))=some (A0 L):=z2;have a9:((((w6.setCell (A9 g ((P+1)*3)) (A0 I)).setCell (A9 g ((P+1)*3+1)) (A0 L)).setCell (A9 g ((P+1)*3+2)) (A0 E))).drew.cell? (A9 g (P*3+2))=some (A0 E):=z3;generalize (((w6.setCell (A9 g ((P+1)*3)) (A0 I)).setCell (A9 g ((P+1)*3+1)) (A0 L)).setCell (A9 g ((P+1)*3+2)) (A0 E)).drew=w7 at bV b5 a4 bD bN a9 ⊢;go_wp2;go_roundw
      ·refine⟨P,q,rfl,Fu bO.o,cF.o.symm,Fu aW.o,?_,?_,?_⟩
       ·(have e2:(l.take a++m.take q)++(Y,d,xc):: (m.drop q++l.drop (i+1+1))=(l.take a++m.take q)++(Y,d,xc):: (I,L,E):: (m.drop (q+1)++l.drop (i+1+1)):=by rw[a3.o];rfl);rw[e2];exact Au a4.o λ_ _=>rfl
       ·intro z hz;rw[a3.o]at hz;rcases BS.1 hz with rfl|hz
        ·exact a5.o.1 aR
        ·exact b6.o z hz
       ·exact b1.o.tr b5.o
      ·simp[intOf]
     ·have bS:0<=cc:=iC;have aM:Hid (∀O,A4 Aa wr O->∃m',O.ownsRow 0 113 3 (AA g n cap) n (B5 (l.take a++m'++l.drop (i+1+1)))/\m'.length=i+1+1-a/\Bt (AE len) ((l.take (i+1+1)).drop a) m'/\B6 (AE len) m'/\A4 (One g) w O):=λO hx=>
       aD.o O (q+1) aW.o b6.o (λz hz=>by
        rw[aK.o z hz];cases hk:AE len (Y,d,xc) (I,L,E) with
        | false=>rfl
        | true=>exact absurd (a5.o.2 hk) aR) (Au b2.o λg' hg=>hx.Al g' (Aw b2.o hg) (λh=>h)) (b1.o.bk hx)
      go_wp2;refine Bq (λw'=>A7 w' g (P*3) (A0 I)/\A7 w' g (P*3+1) (A0 L)/\A7 w' g (P*3+2) (A0 E)/\A7 w' g ((P+1)*3) (A0 Y)/\A7 w' g ((P+1)*3+1) (A0 d)/\A7 w' g ((P+1)*3+2) (A0 xc)) 16
       (Ba [0,1,2,3,4,5,6,7,8,9,10,11,12,13,14,15] [14]) b0 ?_
      iterate 14 refine B4 ?_
      refine Bf λK hK=>?_;go_simp;refine aQ.k ?_;rintro w6 aL;have k6:=((A4.C Aa wr).aa).tr aL;refine hK _ _ (a7.o w6 k6) (λhS=>?_);have aV:=A1 (aM.o w6 k6);refine B4 ?_;refine Bl ?_;go_wp2;go_roundw
      ·exact⟨i+1,by go_num,iC,iC,aV.o⟩
      ·simp[intOf];omega
  ·have bB:i+1=b:=iC;subst bB;have cC:=A1 hI.o;(have bF:¬((i:Int)+1<((i+1:Nat):Int)):=iC);go_wp2;go_end0;have⟨m',q1,q2,q3,q4,q5⟩:=cC.o;refine⟨rfl,m',?_,q2,q3,q4,q5⟩;unfold B1;rw[Ci]at q1
   try rw[Ci]
   (have e:(l.take a++(m'++l.drop (i+1))).length=n:=by have:=a8.o;simp;omega);rw[e];exact q1
def FR(N:Nat):Prop:=∀(w:gC) (v:gD) (wb:Nat) (len:Int) (l:gF Pu),l.length<=N->B1 w v l->(∀p∈l,Ay p.2.1)->(1<=len/\len<=4611686018427387904)->w.cell? ⟨wb,0,none⟩=some (.int .i64 len)->(∀g,v.ownBlock=some g->wb≠g)->
 Calls Tryz.prog 154 #[v,.func (Fn.func 155) #[] #[.pointer (some ⟨wb,0,none⟩)]] w λe w'=>e=.returned (.tuple #[])/\B1 w' v (Ev (AE len) l)/\A4 (λk=>v.ownBlock=some k) w w'
def RL{α:Type}{lt:α->α->Bool}(l:gF α):(Ev lt l).length=l.length:=by
 have ins:∀(x:α) (s:gF α),(FN lt x s).length=s.length+1:=by
  intro x s
  induction s with
  | nil=>rfl
  | cons y r ih=>unfold FN;split<;>simp[ih]
 have key:∀(l s:gF α),(l.foldl (λs x=>FN lt x s) s).length=s.length+l.length:=by
  intro l
  induction l with
  | nil=>intro s;simp
  | cons x r ih=>intro s;rw[QC,ih,ins];simp;omega
 have:=key l [];simpa[Ev] using this
def Uo(w:gC)(v c:gD)(a b:Nat)(ha:b<=a+1)(hb:a<=4294967296):
 Ag 243 #[v,A0 a,A0 b,c] w (Aj (.tuple #[]) λw'=>w=w'):=by
 have eia:wrap64 ((a:Int)+1)=(a:Int)+1:=by unfold wrap64;omega
 go_enter func243,ntmps243
 go_wp2;refine IM 1 ?_;rw[FF];go_wp2;go_end0;exact⟨rfl,rfl⟩
def Ye(w:gC)(v:gD)(wb:Nat)(len:Int)(l:gF Pu)(hn:l.length<=19)(h:B1 w v l)(O:∀p∈l,Ay p.2.1)(hl:1<=len/\len<=4611686018427387904)(hw:A7 w wb 0 (A0 len))(d:∀g,v.ownBlock=some g->wb≠g):
 Ag 202 #[v,A0 l.length,.func (Fn.func 155) #[] #[A5 wb]] w (Aj (.tuple #[]) λw'=>B1 w' v (Ev (AE len) l)/\A4 (λk=>v.ownBlock=some k) w w'):=by
 have z:Hid (Ag 243 #[v,A0 ((0:Nat):Int),A0 l.length,.func (Fn.func 155) #[] #[A5 wb]] w (Aj (.tuple #[]) λw'=>B1 w' v (Ev (AE len) l)/\A4 (λk=>v.oB k) w w')):=by
  by_cases E:l.length=0
  ·have e:l=[]:=HE.1 E;subst e;refine(Uo w v _ 0 0 iC iC).k ?_;rintro w' rfl;exact⟨rfl,h,A4.C _ _⟩
  ·obtain⟨av,cap,rfl,h1,h2,h3,-,-⟩:=B8 h;obtain⟨g,rfl⟩:=h3 iC;refine(Uq w g cap wb len l 0 l.length iC (An _) h O hl hw (d g rfl) iC).k ?_;rintro w'⟨m,X,q2,q3,q4,q5⟩;have e1:m=Ev (AE len) l:=(Gi len).eT q4 (by simpa using q3);refine⟨rfl,?_,q5.ah λk _ I=>by have e:k=g:=I;subst e;rfl⟩;rw[<-e1];have:=X;simp only[Fw,Fh,H5,Gk]at this;exact this
 rw[show ((0:Nat):Int)=0 from rfl]at z;have h20:¬((20:Int)<=(l.length:Int)):=iC
 go_enter func202,ntmps202
 go_wp2;refine IM 1 ?_;rw[FF];go_wp2_with (fail);refine z.k ?_;rintro w2⟨hp,Y⟩;have L:=A1 hp;have aA:=A1 Y;go_wp2;refine IM 1 ?_;rw[FF];go_wp2;go_end0;exact⟨rfl,L.o,aA.o⟩
end
end Go.Proofs.YtodcnkbblippnaaGreatDoor
