/- Part 16 of a proof: walks of the program. -/
import Derived.Test.YtodcnkbblippnabGreatDoorPart15
namespace Go.Proofs.YtodcnkbblippnabGreatDoor
set_option maxRecDepth 100000
set_option maxHeartbeats 32000000
set_option linter.defProp false
open Go.Proofs.Tryz
section
open Go.RowKit
attribute [local go_sem ↓] CE
def Tryz.fv:(Tryz.prog.info? 9).map (λi=>(i.zero,i.size,i.bytes))=some (some (.string ⟨#[]⟩),1,16):=by kernel_rfl
def Wf:∃d,Tryz.prog.info? 9=some d/\d.zero=some (.string ⟨#[]⟩)/\d.size=1/\d.bytes=16:=by
 have h:=Tryz.fv;cases hx:Tryz.prog.info? 9 with
 | none=>rw[hx]at h;cases h
 | some i=>rw[hx]at h;simp at h;exact⟨i,rfl,h.1,h.2.1,h.2.2⟩
def Jw(l:List Bs):List Bs:=l.mergeSort λx y=>decide (x<=y)
def A0c(l:List Bs):(Jw l).Pairwise λa b=>¬b<a:=by
 have h:=UR (le:=λx y:Bs=>decide (x<=y)) (λa b c E z=>by simp at E z ⊢;exact List.le_trans E z) (λa b=>by simp;exact List.le_total a b) l;exact h.imp λd=>by simpa using d
def Tj(l:List Bs)(x:Bs):x∈Jw l↔x∈l:=A21
def A0b(l:List Bs):(Jw l).length=l.length:=ME _
section
variable {w:World} {ab b xb jb B:Nat} {sv ov lv jo:Value} {A:Ar} {P:PD} {Ft FT:Nat->Prop} {a c m:Nat}
def I9{w:World}{e W size z n n2 E d:Nat}{v Y:Value}{xs L:List Value}(h:w.ownsRow E e size v n xs)(h2:w.ownsRow d W z Y n2 L)(H:e≠W){g:Nat}(hg:v.ownBlock=some g):¬Y.ownBlock=some g:=λI=>by
 obtain⟨c,hc⟩:=Bd h hg;obtain⟨c2,O⟩:=Bd h2 I;exact BR hc O H rfl
def RD(w:World)(h:Cj w ab b xb jb sv ov lv jo A P Ft)(hF:Fit P a c m)(hl:CM a c m)(hn:∀n∈A.ix.segs,CD n)(dG:∀n∈A.j.Aj,CD n)(hsl:A.ix.segs.length<=1073741824)(dF:A.j.Aj.length<=1073741824)(hL:Lets B w):
 Ah 52 #[A5 ab] w λe w'=>∃v1 v2,e=.returned (.tuple #[v1,v2])/\Dk w' v1 (A.aY P)/\Dk w' v2 (A.aV P)/\(∀g,v1.ownBlock=some g->w.heap.size<=g)/\(∀g,v2.ownBlock=some g->w.heap.size<=g)/\A3 Aa w w':=by
 obtain⟨i0,hi,aV,aZ,aX⟩:=Wf;have cF:=A1 h;have cL:Hid (∀I k n,A3 Aa w I->1<=k/\k<=4->CD n->Ah 85 #[A0 (k:Nat),A0 n] I λe w'=>e=.returned (.string ⟨(BL k n).toArray⟩)/\A3 Aa I w'):=λI k n hc hk hn=>LL (n:=n) I k hk ⟨by have:=hn.1;omega,hn.2.1⟩ hn.2.2 (hL.aS hc);have dJ:=A1 (cL.o w 3 0 (A3.I _ w) (by omega) (Hs (by omega) (by omega)));have dL:Hid (∀I,A3 Aa w I->Ah 87 #[A5 jb] I λe w'=>∃v,e=.returned v/\Dw w' v A.j.Aj/\(∀g,v.ownBlock=some g->I.heap.size<=g)/\A3 Aa I w'):=λI hc=>YM I (h.jn.aJ hc) dF;have dK:Hid (∀I,A3 Aa w I->Ah 48 #[A5 b] I λe w'=>∃v,e=.returned v/\Dk w' v P.Ax/\A3 Aa I w'/\(∀g,v.ownBlock=some g->I.heap.size<=g)):=λI hc=>Oa (B3.aI h.dk h.lt hc) hF hl;have dC:P.Ax.length<=1073741824:=by rw[Kp];exact AQ hF.A4 hl.a
 have aL:Hid (A.Ax=[AI]++A.j.Aj.map Ae++A.ix.segs.map AG):=rfl;have bL:Hid (A.aY P=P.Ax.filter λnm=>decide (nm∈A.Ax)):=rfl;have bF:Hid (A.aV P=P.Ax.filter λnm=>!decide (nm∈A.Ax)):=rfl;have cX:=A1 hn;have cQ:=A1 dG;obtain⟨dN,cA⟩:∃x,A.aY P=x:=⟨_,rfl⟩;obtain⟨dM,bV⟩:∃x,A.aV P=x:=⟨_,rfl⟩;obtain⟨E,bG⟩:∃x,A.Ax=x:=⟨_,rfl⟩;rw[cA,bG]at bL;rw[bV,bG]at bF;rw[bG]at aL;rw[cA,bV];have b2:E.length<=4294967296:=by rw[aL.o];simp;omega
 have b4:=h.segs;generalize hns:P.Ax=ns at *;generalize hlgs:A.j.Aj=lgs at *;generalize hss:A.ix.segs=ss at *;obtain⟨sa,scap,rfl,sc1,cT⟩:=b4.Cf;unfold maxLen at cT;have cS:=A1 b4
 go_enter func52,ntmps52
 go_wp2_with (fail);refine dJ.o.mono ?_;rintro e I⟨rfl,b1⟩;have e3:BL ((3:Nat):Int) 0=AI:=rfl;rw[e3];have bH:A3 Aa w (I.alloc (.cells #[.string ⟨AI.toArray⟩] 9)):=b1.aj _;have a2:=((cF.o.aJ bH).Ag).c2;have a6:Hid (Dk (I.alloc (.cells #[.string ⟨AI.toArray⟩] 9)) (.slice (some (Ab I.heap.size 0)) 1 1) [AI]):=
  ⟨rfl,.inr ⟨I.heap.size,1,_,rfl,Cz _,BK I _,Au _,by decide,rfl,rfl⟩⟩
 have cN:=A1 (dL.o _ bH);have cZ:=A1 bH;have cI:=A1 <| b1.Ak;go_wp2_with (fail);refine cN.o.mono ?_;rintro e w2⟨v,rfl,hv,dD,aW⟩;obtain⟨la,bQ,rfl,lc1,cM⟩:=(Dw.rd hv).Cf;unfold maxLen at cM;have dH:=A1 hv;have HLO:=A1 dD;have cV:=A1 <| cZ.o.Av aW λ_ h _=>h;have bA:Hid (Dk w2 (.slice (some (Ab I.heap.size 0)) 1 1) [AI]):=Ay a6.o λg d=>aW.Al g (Az a6.o d) (λh=>h);go_wp2;go_loopw [4,23] (λv iv wr=>∃k:Nat,iv=A0 k/\k<=lgs.length/\Hid (Dk wr v ([AI]++(lgs.take k).map Ae)/\(∀g,v.ownBlock=some g->w.heap.size<=g)/\A3 Aa w wr/\Dw wr (.slice la lgs.length bQ) lgs)) (λ_ iv _=>lgs.length-(intOf iv).toNat)
 case atStart=>exact⟨0,rfl,by omega,by simpa using bA.o,λg d=>by simp[Value.ownBlock]at d;have:=cI.o;omega,cV.o,dH.o⟩
 case round=>
  obtain⟨k,rfl,hk,hI⟩:=hrel;obtain⟨i1,i2,i3,i4⟩:=hI.o;obtain⟨ap,cp,rfl,aP,aI,-⟩:=B9 i1;unfold maxLen at aI;by_cases H:k<lgs.length
  ·obtain⟨g,o,rfl,d1⟩:=D2.at (Dw.rd i4) k H;have aB:=cQ.o _ (BV H);have Y:=Dl H;generalize bR:(lgs[k]'H)=n at d1 aB Y;have aA:=A1 (cL.o wr 1 n i3 (by omega) aB);rw[show ((1:Nat):Int)=1 from rfl]at aA;(have aF:Hid ([AI]++(lgs.take (k+1)).map Ae=([AI]++(lgs.take k).map Ae)++[Ae n]):=by unfold Hid;rw[Y];simp);have bD:BL 1 n=Ae n:=rfl;rw[bD]at aA;(have bO:([AI]++(lgs.take k).map Ae).length<=4294967296:=by simp;omega);generalize W:[AI]++(lgs.take k).map Ae=z at i1 i2 aF bO aP;have bN:=A1 bO;(have el:([AI]++(lgs.take k).map Ae).length=z.length:=by rw[W])
   try rw[el]
   generalize b7:Ae n=nm at aA aF;have bX:=A1 i1;have cE:=A1 i2;have cD:=A1 i3;have dB:=A1 i4;(have aO:(k:Int)<(lgs.length:Int):=by omega);have b0:(0:Int)<=(k:Int):=Gi _;go_wp2_with (fail);refine aA.o.mono ?_;rintro e w6⟨rfl,aQ⟩;have bU:=A1 aQ;have O:Hid ((w6.alloc (.cells #[.string ⟨nm.toArray⟩] 9)).ownsRow 0 9 1 (.slice ap z.length cp) z.length (Dh z)):=Ay bX.o λg d=>(aQ.aj _).Al g (Az bX.o d) (λh=>h)
   have aH:=A1 (Src.bc (size:=1) (B:=w6.heap.size) underlying106 w6 #[.string ⟨nm.toArray⟩] 9 (by simp) 1 1 rfl (Mf [nm]));go_wp2_with (at_builtin;refine D9 rfl (.tmp 27) (.tmp 30) 106 106 rfl 9 i0 _ 1 16 underlying106 hi aV aZ aX rfl (by decide) (.slice ap z.length cp) z.length (Dh z) (by rfl) O.o _ 1 _ (by rfl) aH.o (by have:=bN.o;omega) ?_;intro a8 aE w8 L;have bC:=A1 L);go_roundw
   case rel=>
    have L:=bC.o;have k7:A3 Aa wr (w6.alloc (.cells #[.string ⟨nm.toArray⟩] 9)):=bU.o.aj _;have aG:=L.An (S:=λk=>(Value.slice ap z.length cp).ownBlock=some k) λ_ h=>h;have k8:A3 (λk=>(Value.slice ap z.length cp).ownBlock=some k) wr w8:=(k7.ad λ_ _ h=>h.elim).Av aG λ_ h _=>h;(have e:(z++[nm]).length=z.length+1:=by simp);have e2:Dh (z++[nm])=Dh z++Dh [nm]:=Mg _ _;refine⟨k+1,by go_num,by omega,?_,?_,?_,?_⟩
    ·rw[aF.o];unfold Dk;rw[e,e2];exact L.AF
    ·intro g d;rcases L.Cy with h|h
     ·rw[h]at d;exact cE.o g d
     ·rw[h]at d;cases d;have:=cD.o.Ak;have:=k7.Ak;have:=bU.o.Ak;omega
    ·exact cD.o.Av k8 λy hy aU=>by have:=cE.o y hy;omega
    ·exact Ay dB.o λg d=>k8.Al g (Az dB.o d) (I9 dB.o bX.o (by decide) d)
   case measure=>simp[intOf];omega
  ·(obtain rfl:k=lgs.length:=by omega);rw[C9]at i1 i2;(have aO:¬((lgs.length:Int)<(lgs.length:Int)):=by omega);obtain⟨z,W⟩:∃z,[AI]++lgs.map Ae=z:=⟨_,rfl⟩;(have el:([AI]++(lgs.take lgs.length).map Ae).length=z.length:=by rw[C9,W]);rw[W]at i1 i2;rw[W]at aL
   try rw[el]
   have bX:=A1 i1;have cE:=A1 i2;have cD:=A1 i3;have a1:=(cF.o.aJ i3).Ag.c1;have x4:=(cF.o.aJ i3).ix.c4;have HCUR:=A1 W;go_wp2;(have bO:z.length+ss.length<=4294967296:=by have:=b2;rw[aL.o]at this;simpa using this);go_loopw [4,41] (λv iv wr=>∃k:Nat,iv=A0 k/\k<=ss.length/\Hid (Dk wr v (z++(ss.take k).map AG)/\(∀g,v.ownBlock=some g->w.heap.size<=g)/\A3 Aa w wr)) (λ_ iv _=>ss.length-(intOf iv).toNat)
   case atStart=>exact⟨0,rfl,by omega,by simpa using bX.o,cE.o,cD.o⟩
   case round=>
    obtain⟨k,rfl,hk,hI⟩:=hrel;obtain⟨i1,i2,i3⟩:=hI.o;obtain⟨aJ,aK,rfl,bB,bE,-⟩:=B9 i1;unfold maxLen at bE;by_cases H:k<ss.length
    ·obtain⟨g,o,rfl,d0⟩:=D2.at cS.o k H;have d1:=i3.ao d0;have aB:=cX.o _ (BV H);have Y:ss.take (k+1)=ss.take k++[ss[k]'H]:=Dl H;generalize bR:(ss[k]'H)=n at d0 d1 aB Y;have aA:=A1 (cL.o wr 2 n i3 (by omega) aB);rw[show ((2:Nat):Int)=2 from rfl]at aA;(have aF:Hid (z++(ss.take (k+1)).map AG=(z++(ss.take k).map AG)++[AG n]):=by unfold Hid;rw[Y];simp);have bD:BL 2 n=AG n:=rfl;rw[bD]at aA;(have a4:(z++(ss.take k).map AG).length<=4294967296:=by simp;omega);generalize dE:z++(ss.take k).map AG=cu at i1 i2 aF a4 bB;have bN:=A1 a4;(have el:(z++(ss.take k).map AG).length=cu.length:=by rw[dE])
     try rw[el]
     generalize b7:AG n=nm at aA aF;have aS:=A1 i1;have aM:=A1 i2;have aT:=A1 i3;(have aO:(k:Int)<(ss.length:Int):=by omega);have b0:(0:Int)<=(k:Int):=Gi _;go_wp2_with (fail);refine aA.o.mono ?_;rintro e w6⟨rfl,aQ⟩;have bU:=A1 aQ;have O:Hid ((w6.alloc (.cells #[.string ⟨nm.toArray⟩] 9)).ownsRow 0 9 1 (.slice aJ cu.length aK) cu.length (Dh cu)):=Ay aS.o λg d=>(aQ.aj _).Al g (Az aS.o d) (λh=>h)
     have aH:=A1 (Src.bc (size:=1) (B:=w6.heap.size) underlying106 w6 #[.string ⟨nm.toArray⟩] 9 (by simp) 1 1 rfl (Mf [nm]));go_wp2_with (at_builtin;refine D9 rfl (.tmp 45) (.tmp 48) 106 106 rfl 9 i0 _ 1 16 underlying106 hi aV aZ aX rfl (by decide) (.slice aJ cu.length aK) cu.length (Dh cu) (by rfl) O.o _ 1 _ (by rfl) aH.o (by have:=bN.o;omega) ?_;intro a8 aE w8 L;have bC:=A1 L);go_roundw
     case rel=>
      have L:=bC.o;have k7:A3 Aa wr (w6.alloc (.cells #[.string ⟨nm.toArray⟩] 9)):=bU.o.aj _;have aG:=L.An (S:=λk=>(Value.slice aJ cu.length aK).ownBlock=some k) λ_ h=>h;have k8:A3 (λk=>(Value.slice aJ cu.length aK).ownBlock=some k) wr w8:=(k7.ad λ_ _ h=>h.elim).Av aG λ_ h _=>h;(have e:(cu++[nm]).length=cu.length+1:=by simp);have e2:Dh (cu++[nm])=Dh cu++Dh [nm]:=Mg _ _;refine⟨k+1,by go_num,by omega,?_,?_,?_⟩
      ·rw[aF.o];unfold Dk;rw[e,e2];exact L.AF
      ·intro g d;rcases L.Cy with h|h
       ·rw[h]at d;exact aM.o g d
       ·rw[h]at d;cases d;have:=aT.o.Ak;have:=k7.Ak;have:=bU.o.Ak;omega
      ·exact aT.o.Av k8 λy hy aU=>by have:=aM.o y hy;omega
     case measure=>simp[intOf];omega
    ·(obtain rfl:k=ss.length:=by omega);rw[C9,<-aL.o]at i1 i2;(have aO:¬((ss.length:Int)<(ss.length:Int)):=by omega);(have el:(z++(ss.take ss.length).map AG).length=E.length:=by rw[C9,aL.o])
     try rw[el]
     have dO:=A1 (Wo wr _ E i1 (by omega));have aM:=A1 i2;have aT:=A1 i3;go_wp2_with (fail);refine dO.o.mono ?_;rintro e w3⟨rfl,cH,aW⟩;(have dA:Hid (A3 Aa w w3):=aT.o.Av aW λy hy aU=>by have:=aM.o y hy;omega);have cY:Hid (Gw w3 (.slice aJ E.length aK) (Jw E)):=Dk.rd cH;have cP:=A1 (dK.o w3 dA.o);have a0:=(cF.o.aJ dA.o).Ag.c0;go_wp2_with (fail);refine cP.o.mono ?_;rintro e w4⟨v,rfl,bW,b3,hvo4⟩;obtain⟨na,ncap,rfl,nc1,cO⟩:=(Dk.rd bW).Cf;unfold maxLen at cO;have cU:=A1 (Dk.rd bW);have cJ:Hid (A3 Aa w w4):=dA.o.Av b3 λ_ h _=>h;have bI:=A1 (cY.o.An b3 (λ_ _ h=>h));have a7:Hid (∀x,decide (x∈Jw E)=decide (x∈E)):=λx=>by
      by_cases h:x∈E
      ·rw[Cv h,Cv ((Tj E x).2 h)]
      ·rw[D4 h,D4 λh'=>h ((Tj E x).1 h')]
     have a9:=A0c E;have a5:=A0b E;generalize hSN:Jw E=SN at bI a7 a9 a5;have bZ:=A1 a9;obtain⟨sn,bY⟩:∃sn,E.length=sn:=⟨_,rfl⟩
     try rw[bY]
     rw[bY]at bI a5;(have hsnl:sn<=4294967296:=by omega);have dI:Hid (∀wx x,A3 Aa w4 wx->Ah 89 #[.slice aJ sn aK,.string ⟨x.toArray⟩] wx λe w'=>∃i,e=.returned (.tuple #[A0 i,.bool (decide (x∈E))])/\∃q,w'=wx.drewN q):=λwx x hx=>by
      have:=A1X wx _ SN x (bI.o.An hx (λ_ _ h=>h)) (by omega) bZ.o;rw[a7.o x]at this;exact this
     have bT:ns.length<=1073741824:=dC;have cB:Hid (∀p:Bs->Bool,∀k,((ns.take k).filter p).length<=1073741824):=λp k=>AQ (J1 _ _) (AQ (List.length_take_le' _ _) bT);go_wp2;go_loopw [9,10,59] (λv1 v2 iv wr=>∃k:Nat,iv=A0 k/\k<=ns.length/\Hid (Dk wr v1 ((ns.take k).filter λnm=>decide (nm∈E))/\Dk wr v2 ((ns.take k).filter λnm=>!decide (nm∈E))/\(∀g,v1.ownBlock=some g->w4.heap.size<=g)/\(∀g,v2.ownBlock=some g->w4.heap.size<=g)/\(∀g,v1.ownBlock=some g->¬v2.ownBlock=some g)/\A3 Aa w4 wr)) (λ_ _ iv _=>ns.length-(intOf iv).toNat)
     case atStart=>exact⟨0,rfl,by omega,CL _ _ _ _,CL _ _ _ _,λg d=>by simp[Value.ownBlock]at d,λg d=>by simp[Value.ownBlock]at d,λg d=>by simp[Value.ownBlock]at d,A3.I _ _⟩
     case round=>
      obtain⟨k,rfl,hk,hI⟩:=hrel;obtain⟨i1,i2,i3,i4,i5,i6⟩:=hI.o;obtain⟨ap,cp,rfl,aP,aI,-⟩:=B9 i1;obtain⟨aq,cq,rfl,hcaq1,bK,-⟩:=B9 i2;unfold maxLen at aI bK;by_cases H:k<ns.length
      ·obtain⟨g,o,rfl,d0⟩:=Gw.at cU.o k H;have d1:=i6.ao d0;have Y:ns.take (k+1)=ns.take k++[ns[k]'H]:=Dl H;generalize bR:(ns[k]'H)=nm at d0 d1 Y;have aY:=A1 (dI.o wr nm i6);have aR:Hid ((ns.take (k+1)).filter (λnm=>decide (nm∈E))=(ns.take k).filter (λnm=>decide (nm∈E))++(if nm∈E then [nm] else [])):=by
        unfold Hid;rw[Y,MI];by_cases hx:nm∈E<;>simp[hx]
       have aN:Hid ((ns.take (k+1)).filter (λnm=>!decide (nm∈E))=(ns.take k).filter (λnm=>!decide (nm∈E))++(if nm∈E then [] else [nm])):=by
        unfold Hid;rw[Y,MI];by_cases hx:nm∈E<;>simp[hx]
       have b6:=A1 (cB.o (λnm=>decide (nm∈E)) k);have b8:=A1 (cB.o (λnm=>!decide (nm∈E)) k);obtain⟨l1,bS⟩:∃l1,(ns.take k).filter (λnm=>decide (nm∈E))=l1:=⟨_,rfl⟩;obtain⟨l2,b9⟩:∃l2,(ns.take k).filter (λnm=>!decide (nm∈E))=l2:=⟨_,rfl⟩;rw[bS]at aR b6 i1 i3 i5;rw[b9]at aN b8 i2 i4 i5;(have bM:((ns.take k).filter (λnm=>decide (nm∈E))).length=l1.length:=by rw[bS]);(have bJ:((ns.take k).filter (λnm=>!decide (nm∈E))).length=l2.length:=by rw[b9])
       try rw[bM]
       try rw[bJ]
       have aS:=A1 i1;have aM:=A1 i2;have aT:=A1 i3;have cC:=A1 i4;have cG:=A1 i5;have bP:=A1 i6;(have aO:(k:Int)<(ns.length:Int):=by omega);have b0:(0:Int)<=(k:Int):=Gi _;by_cases hx:nm∈E
       ·rw[Cv hx]at aY;rw[Af hx]at aR aN;go_wp2_with (fail);refine aY.o.mono ?_;rintro e w6⟨i,rfl,q,rfl⟩;have O:Hid (((wr.drewN q).alloc (.cells #[.string ⟨nm.toArray⟩] 9)).ownsRow 0 9 1 (.slice ap l1.length cp) l1.length (Dh l1)):=Ay aS.o λg d=>(((A3.I Aa wr).bb q).aj _).Al g (Az aS.o d) (λh=>h)
        have aH:=A1 (Src.bc (size:=1) (B:=(wr.drewN q).heap.size) underlying106 (wr.drewN q) #[.string ⟨nm.toArray⟩] 9 (by simp) 1 1 rfl (Mf [nm]));have b5:Hid (A3 Aa wr ((wr.drewN q).alloc (.cells #[.string ⟨nm.toArray⟩] 9))):=((A3.I Aa wr).bb q).aj _;go_wp2_with (at_builtin;refine D9 rfl (.tmp 70) (.tmp 72) 106 106 rfl 9 i0 _ 1 16 underlying106 hi aV aZ aX rfl (by decide) (.slice ap l1.length cp) l1.length (Dh l1) (by rfl) O.o _ 1 _ (by rfl) aH.o (by have:=b6.o;omega) ?_;intro a8 aE w8 L;have bC:=A1 L);go_roundw
        case rel=>
         have L:=bC.o;have aG:=L.An (S:=λk=>(Value.slice ap l1.length cp).ownBlock=some k) λ_ h=>h;have k8:A3 (λk=>(Value.slice ap l1.length cp).ownBlock=some k) wr w8:=(b5.o.ad λ_ _ h=>h.elim).Av aG λ_ h _=>h;(have e:(l1++[nm]).length=l1.length+1:=by simp);have e2:Dh (l1++[nm])=Dh l1++Dh [nm]:=Mg _ _;have aD:∀g,(Value.slice a8 (l1.length+1) aE).ownBlock=some g->(Value.slice ap l1.length cp).ownBlock=some g\/wr.heap.size<=g:=λg d=>by
          rcases L.Cy with h|h
          ·rw[h]at d;exact .inl d
          ·rw[h]at d;cases d;exact .inr b5.o.Ak
         refine⟨k+1,by go_num,by omega,?_,?_,?_,cC.o,?_,?_⟩
         ·rw[aR.o];unfold Dk;rw[e,e2];exact L.AF
         ·rw[aN.o,Gh];exact Ay aM.o λg d=>k8.Al g (Az aM.o d) λh=>cG.o g h d
         ·exact λg d=>(aD g d).elim (aT.o g) λh=>AQ bP.o.Ak h
         ·exact λg d a3=>(aD g d).elim (λh=>cG.o g h a3) λh=>by have:=Az aM.o a3;omega
         ·exact bP.o.Av k8 λy hy aU=>by have:=aT.o y hy;omega
        case measure=>simp[intOf];omega
       ·rw[D4 hx]at aY;rw[Ac hx]at aR aN;go_wp2_with (fail);refine aY.o.mono ?_;rintro e w6⟨i,rfl,q,rfl⟩;have O:Hid (((wr.drewN q).alloc (.cells #[.string ⟨nm.toArray⟩] 9)).ownsRow 0 9 1 (.slice aq l2.length cq) l2.length (Dh l2)):=Ay aM.o λg d=>(((A3.I Aa wr).bb q).aj _).Al g (Az aM.o d) (λh=>h)
        have aH:=A1 (Src.bc (size:=1) (B:=(wr.drewN q).heap.size) underlying106 (wr.drewN q) #[.string ⟨nm.toArray⟩] 9 (by simp) 1 1 rfl (Mf [nm]));have b5:Hid (A3 Aa wr ((wr.drewN q).alloc (.cells #[.string ⟨nm.toArray⟩] 9))):=((A3.I Aa wr).bb q).aj _;go_wp2_with (at_builtin;refine D9 rfl (.tmp 74) (.tmp 76) 106 106 rfl 9 i0 _ 1 16 underlying106 hi aV aZ aX rfl (by decide) (.slice aq l2.length cq) l2.length (Dh l2) (by rfl) O.o _ 1 _ (by rfl) aH.o (by have:=b8.o;omega) ?_;intro a8 aE w8 L;have bC:=A1 L);go_roundw
        case rel=>
         have L:=bC.o;have aG:=L.An (S:=λk=>(Value.slice aq l2.length cq).ownBlock=some k) λ_ h=>h;have k8:A3 (λk=>(Value.slice aq l2.length cq).ownBlock=some k) wr w8:=(b5.o.ad λ_ _ h=>h.elim).Av aG λ_ h _=>h;(have e:(l2++[nm]).length=l2.length+1:=by simp);have e2:Dh (l2++[nm])=Dh l2++Dh [nm]:=Mg _ _;have aD:∀g,(Value.slice a8 (l2.length+1) aE).ownBlock=some g->(Value.slice aq l2.length cq).ownBlock=some g\/wr.heap.size<=g:=λg d=>by
          rcases L.Cy with h|h
          ·rw[h]at d;exact .inl d
          ·rw[h]at d;cases d;exact .inr b5.o.Ak
         refine⟨k+1,by go_num,by omega,?_,?_,aT.o,?_,?_,?_⟩
         ·rw[aR.o,Gh];exact Ay aS.o λg d=>k8.Al g (Az aS.o d) λh=>cG.o g d h
         ·rw[aN.o];unfold Dk;rw[e,e2];exact L.AF
         ·exact λg d=>(aD g d).elim (cC.o g) λh=>AQ bP.o.Ak h
         ·exact λg d a3=>(aD g a3).elim (λh=>cG.o g d h) λh=>by have:=Az aS.o d;omega
         ·exact bP.o.Av k8 λy hy aU=>by have:=cC.o y hy;omega
        case measure=>simp[intOf];omega
      ·(obtain rfl:k=ns.length:=by omega);rw[C9,<-bL.o]at i1 i3;rw[C9,<-bF.o]at i2 i4;(have bM:((ns.take ns.length).filter (λnm=>decide (nm∈E))).length=dN.length:=by rw[C9,<-bL.o]);(have bJ:((ns.take ns.length).filter (λnm=>!decide (nm∈E))).length=dM.length:=by rw[C9,<-bF.o])
       try rw[bM]
       try rw[bJ]
       have aS:=A1 i1;have aM:=A1 i2;have aT:=A1 i3;have cC:=A1 i4;have bP:=A1 i6;(have aO:¬((ns.length:Int)<(ns.length:Int)):=by omega);go_wp2;go_ret2;exact⟨_,_,rfl,aS.o,aM.o,λg d=>AQ cJ.o.Ak (aT.o g d),λg d=>AQ cJ.o.Ak (cC.o g d),cJ.o.Av bP.o λ_ h _=>h⟩
end
section
variable {w:World} {ab b xb jb B:Nat} {sv ov lv jo:Value} {A:Ar} {P:PD} {Ft FT:Nat->Prop} {a c m:Nat}
def A0Q(h:Bh w b P Ft)(nm:Bs)(E:Fit P a c m)(z:CM a c m):
 Ah 158 #[A5 b,.string ⟨nm.toArray⟩] w (Am (A0 (P.az (A7 nm)).1) λw'=>Ap w Ft w' (λw' d=>Bh w' b (P.az (A7 nm)).2 d)):=
 Xl h (A7 nm) (by have:=E.A4;have:=E.An;have:=z.a;have:=z.c;omega)
def removeAll_cons(nm:Bs)(r:List Bs)(P:PD):PD.aM (nm::r) P=if (P.az (A7 nm)).1≠0 then P.az (A7 nm) else PD.aM r (P.az (A7 nm)).2:=rfl
def RK(A:Ar)(P:PD)(h:Fit P a c m):(A.aV P).length<=a:=by
 unfold Ar.aV;exact AQ (J1 _ _) (by rw[Kp];exact h.A4)
def Qj(w:World)(h:AD w ab b A P FT)(hF:Fit P a c m)(hl:CM a (c+a) m)(hn:∀n∈A.ix.segs,CD n)(aX:∀n∈A.j.Aj,CD n)(aS:A.ix.segs.length<=1073741824)(aV:A.j.Aj.length<=1073741824)(hL:Lets B w):
 Ah 110 #[A5 ab] w (Am (A0 (A.au P).1) λw'=>Ap w FT w' (λw' aR=>AD w' ab b A (A.au P).2 aR)):=by
 obtain⟨xb,jb,sv,ov,lv,jo,Ft,hV,aI⟩:=h;have a5:=A1 (RD w hV hF ⟨hl.a,by have:=hl.c;omega,hl.m⟩ hn aX aS aV hL);have hol:=RK A P hF;have a1:=A1 hV;have H:=A1 aI;have a2:Hid (A.au P=PD.aM (A.aV P) P):=rfl;have a3:=A1 removeAll_cons;generalize hR:A.au P=R at a2 ⊢;have aZ:=A1 hF;have aE:=A1 hl;generalize A.aV P=os at *
 go_enter func110,ntmps110
 go_wp2_with (fail);refine a5.m ?_;rintro e w1⟨v1,v2,rfl,-,h2,-,aU,aK⟩;obtain⟨oa,ocap,rfl,oc1,a0⟩:=(Dk.rd h2).Cf;unfold maxLen at a0;have aT:=A1 (Dk.rd h2);have aY:=A1 aU;have aG:=A1 aK;have z:=A1 (a1.o.aJ aK);go_wp2;go_loopw [15] (λiv wr=>∃(k:Nat),iv=A0 k/\k<=os.length/\Hid (∃E,Ap w1 Ft wr (λw' d=>Cj w' ab b xb jb sv ov lv jo A E d)/\Fit E a (c+k) m/\R=PD.aM (os.drop k) E)) (λiv _=>os.length-(intOf iv).toNat)
 case atStart=>exact⟨0,rfl,by omega,P,⟨A3.I _ _,Ft,z.o,z.o.lt,λk hk=>.inl hk⟩,aZ.o,a2.o⟩
 case round=>
  obtain⟨k,rfl,hk,hI⟩:=hrel;obtain⟨E,hi,hf,hx⟩:=hI.o;obtain⟨c1,aH,hv,aO,s1⟩:=hi;by_cases aB:k<os.length
  ·obtain⟨g,o,rfl,d0⟩:=Gw.at aT.o k aB;have d1:=c1.bG d0 (λh=>by have:=a1.o.lt _ h;have:=aY.o g rfl;have h':g<w.heap.size:=a1.o.lt _ h;omega);have aJ:=Fm aB;generalize hne:(os[k]'aB)=nm at d0 d1 aJ;rw[aJ,a3.o]at hx;have e0:=hv.Ag.c0;have aN:CM a (c+k) m:=⟨aE.o.a,by have:=aE.o.c;omega,aE.o.m⟩;have aL:=A1 (A0Q hv.dk nm hf aN);(have aF:Hid (Fit (E.az (A7 nm)).2 a (c+(k+1)) m):=by have:=hf.az (A7 nm);exact this);generalize hY:E.az (A7 nm)=Y at aL hx aF;have aA:Hid (∀O,Ap wr aH O (λw' d=>Bh w' b Y.2 d)->Ap w1 Ft O (λw' d=>Cj w' ab b xb jb sv ov lv jo A Y.2 d)):=λO h6=>Ap.a8 c1 s1 (hv.bW h6);have aD:=A1 hx;(have aP:(k:Int)<(os.length:Int):=by omega);have hk0:=Ce k;obtain⟨aM,aQ⟩:=Y;dsimp only at aL aA aD aF;by_cases hy:aM=0
   case neg=>
    (have I:R=(aM,aQ):=by rw[aD.o,Af hy]);subst I;(have hyb:(aM !=0)=true:=by simpa using hy);go_wp2_with (go_at_call 158;refine aL.m ?_;rintro e O⟨rfl,W⟩;have L:=A1 (aA.o O W));go_ret;exact⟨rfl,(z.o.cz H.o L.o).a7 aG.o⟩
   case pos=>
    subst hy;(have aW:Hid (R=PD.aM (os.drop (k+1)) aQ):=by unfold Hid;rw[aD.o,Ac (by simp)]);go_wp2_with (go_at_call 158;refine aL.m ?_;rintro e O⟨rfl,W⟩;have L:=A1 (aA.o O W));go_roundw
    case rel=>exact⟨k+1,by go_num,by omega,aQ,L.o,aF.o,aW.o⟩
    case measure=>simp[intOf];omega
  ·(obtain rfl:k=os.length:=by omega);rw[Gg]at hx;have I:R=(0,E):=hx;subst I;(have aP:¬((os.length:Int)<(os.length:Int)):=by omega);have a4:Hid (Ap w1 Ft wr (λw' d=>Cj w' ab b xb jb sv ov lv jo A E d)):=⟨c1,aH,hv,aO,s1⟩;go_wp2;go_ret;exact⟨rfl,(z.o.cz H.o a4.o).a7 aG.o⟩
def Zu{nm:Bs}{s:Nat}{f0:Int}{E:List Int}(w:World)(h:BZ w xb 122 b nm s f0 sv)(W:D2 w sv E)(I:Value)(l:List Int)(O:D2 w I l)(z:Int):
 Ah 163 #[A5 xb,A0 z,I] w (Am (.bool (decide (f0=z/\E=l))) λw'=>∃q,w'=w.drewN q):=by
 have c3:=h.c3;have c4:=h.c4;have L:=A1 (A0H w sv I E l W O);obtain⟨ka,kcap,rfl,k1,k2⟩:=O.Cf;obtain⟨sa,scap,rfl,s1,s2⟩:=W.Cf;by_cases H:f0=z
 ·subst H;have e:decide (f0=f0/\E=l)=decide (E=l):=by simp
  rw[e];generalize hd:decide (E=l)=d at L ⊢
  go_enter func163,ntmps163
  go_wp2_with (go_at_call 203;refine L.m ?_;rintro e w2⟨rfl,q,rfl⟩);go_ret;exact⟨rfl,q,rfl⟩
 ·have e:decide (f0=z/\E=l)=false:=D4 λh=>H h.1;rw[e];have hb:(f0==z)=false:=by simpa using H
  go_enter func163,ntmps163
  go_wp2;go_ret;exact⟨rfl,0,rfl⟩
def Cj.ev{w':World}{P':PD}{f':Int}{E:Value}{z:List Int}(h:Cj w ab b xb jb sv ov lv jo A P Ft)(W:BZ w' xb 122 b AI (AE AI) f' E)(hr:D2 w' E z)(hI:J5 w Ft xb w' b P')(L:∀g,E.ownBlock=some g->sv.ownBlock=some g\/(g<w.heap.size/\¬Ft g/\¬F7 ab xb jb sv ov lv jo g)):
 ∃I,Cj w' ab b xb jb E ov lv jo {A with ix:=⟨f',z⟩} P' I/\A3 (λk=>Ft k\/k=xb) w w'/\∀k,I k->Ft k\/w.heap.size<=k:=by
 obtain⟨hc,I,h2,h3,h4⟩:=hI;have key:∀k,F7 ab xb jb sv ov lv jo k->k≠xb->w'.heap[k]?=w.heap[k]?:=λk d Y=>hc.Al k (h.bH d) λW=>W.elim (h.Db k d) Y;have sS:∀g,E.ownBlock=some g->g≠ab/\g≠xb/\¬Df jb lv jo g:=λg H=>by
  rcases L g H with H|⟨_,_,H⟩
  ·exact h.F9 g H
  ·exact⟨λe=>H (.inl e),λe=>H (.inr (.inl e)),λe=>H (.inr (.inr (.inr (.inr e))))⟩
 refine⟨I,⟨(key ab (.inl rfl) h.ne).trans h.Ag,W,hr,h.AN.aP λg H=>key g (.inr (.inr (.inr (.inl H)))) (h.FY g H).2.1,h.jn.aP λk d=>key k (.inr (.inr (.inr (.inr d)))) (h.Fs k d).2,h2,h3,?_,sS,h.FY,h.Fs⟩,hc,h4⟩;intro k d W;rcases h4 k W with O|O
 ·rcases d with d|d|d|d|d
  ·exact h.Db k (.inl d) O
  ·exact h.Db k (.inr (.inl d)) O
  ·rcases L k d with d|⟨_,d,_⟩
   ·exact h.Db k (.inr (.inr (.inl d))) O
   ·exact d O
  ·exact h.Db k (.inr (.inr (.inr (.inl d)))) O
  ·exact h.Db k (.inr (.inr (.inr (.inr d)))) O
 ·have:k<w.heap.size:=by
   rcases d with d|d|d|d|d
   ·exact h.bH (.inl d)
   ·exact h.bH (.inr (.inl d))
   ·rcases L k d with d|⟨d,_⟩
    ·exact h.bH (.inr (.inr (.inl d)))
    ·exact d
   ·exact h.bH (.inr (.inr (.inr (.inl d))))
   ·exact h.bH (.inr (.inr (.inr (.inr d))))
  omega
def Cj.fB{w':World}{lv' I:Value}{Y:Jn}(h:Cj w ab b xb jb sv ov lv jo A P Ft)(hj:Dv w' jb b lv' I Y)(hc:A3 (One jb) w w')(L:lv'.ownBlock=none)(O:I=.pointer none):Cj w' ab b xb jb sv ov lv' I {A with j:=Y} P Ft:=by
 have key:∀k,k≠jb->k<w.heap.size->w'.heap[k]?=w.heap[k]?:=λk d hl=>hc.Al k hl d;have E:∀k,Df jb lv' I k->k=jb:=λk d=>by
  rcases d with h|h|h
  ·exact h
  ·rw[L]at h;cases h
  ·rw[O]at h;cases h
 have H:Df jb lv jo jb:=.inl rfl
 refine⟨(key ab (λe=>(h.Fs jb H).1 e.symm) h.Ag.lt).trans h.Ag,(key xb (λe=>(h.Fs jb H).2 e.symm) h.ix.lt).trans h.ix,h.segs.aP λg z=>key g (λe=>(h.F9 g z).2.2 (e ▸ H)) (h.segs.lt z),h.AN.aP λg z=>key g (λe=>(h.FY g z).2.2 (e ▸ H)) (h.AN.lt z),hj,
  B3.aP h.dk λk d=>key k (λe=>by subst e;exact h.Db _ (.inr (.inr (.inr (.inr H)))) d) (h.lt k d),λk d=>Bm (h.lt k d) hc.Ak,?_,λg z=>?_,λg z=>?_,λk d=>?_⟩
 ·intro k d;rcases d with d|d|d|d|d
  ·exact h.Db k (.inl d)
  ·exact h.Db k (.inr (.inl d))
  ·exact h.Db k (.inr (.inr (.inl d)))
  ·exact h.Db k (.inr (.inr (.inr (.inl d))))
  ·rw[E k d];exact h.Db jb (.inr (.inr (.inr (.inr H))))
 ·exact⟨(h.F9 g z).1,(h.F9 g z).2.1,λW=>(h.F9 g z).2.2 (by rw[E g W];exact H)⟩
 ·exact⟨(h.FY g z).1,(h.FY g z).2.1,λW=>(h.FY g z).2.2 (by rw[E g W];exact H)⟩
 ·rw[E k d];exact h.Fs jb H
def A2a(w:World)(h:AD w ab b A P FT)(kv:Value)(l:List Int)(E:D2 w kv l)(aZ:∀g,kv.ownBlock=some g->¬FT g)(hr:AW (A.j.A8+1))(aT:∀x∈l,AW x)(aU:l.length<=134217728)(hF:Fit P a c m)(hl:CM (a+2) (c+2) (m+12+8*l.length))(hL:Lets B w):
 Ah 112 #[A5 ab,kv] w (Am (A0 (A.ag P l).1) λw'=>Ap w (λk=>FT k\/kv.ownBlock=some k) w' (λw' aS=>AD w' ab b (A.ag P l).2.1 (A.ag P l).2.2 aS)):=by
 obtain⟨xb,jb,sv,ov,lv,jo,Ft,W,aN⟩:=h
 have aM:Hid (A.ag P l=if A.ix.B7=A.j.A8+1/\A.ix.segs=l then (0,A,P) else
  if (P.ag (A.j.A8+1) l).1≠0 then ((P.ag (A.j.A8+1) l).1,A,(P.ag (A.j.A8+1) l).2) else
  (0,{A with ix:=⟨A.j.A8+1,l⟩,j:=⟨[],A.j.A8,0,none⟩},(P.ag (A.j.A8+1) l).2)):=rfl
 have aX:Hid (∀w1,A3 Aa w w1->_):=λw1 hc=>S8 w1 (W.jn.aJ hc) hr;have aK:Hid (∀w1,A3 Aa w w1->_):=λw1 hc=>Zu w1 (W.ix.ak hc (λh=>h)) (W.segs.An hc (λ_ _ h=>h)) kv l (E.An hc (λ_ _ h=>h)) (A.j.A8+1);have aR:Hid (∀w1,A3 Aa w w1->_):=λw1 hc=>VF w1 (A.j.A8+1) A.ix.B7 kv sv l (W.ix.ak hc (λh=>h)) (B3.aI W.dk W.lt hc) (λk E=>Bm (W.lt k E) hc.Ak) (W.Db xb (.inr (.inl rfl))) hF hl (hL.aS hc) (E.An hc (λ_ _ h=>h)) hr aT aU;obtain⟨ka,H,rfl,k1,k2⟩:=E.Cf;have a1:=A1 W;have d:=A1 aN;have a2:=A1 E;have aL:=A1 aZ;generalize hR:A.ag P l=R at aM ⊢;generalize hT:P.ag (A.j.A8+1) l=T at aM aR;generalize hLL:A.j.A8+1=L at aM aX aK aR;have HB:=A1 W.Ag;have d1:=W.Ag.af.c1;have d2:=W.Ag.af.c2;have aO:=A1 (aX.o w.drew (A3.I _ w).af);by_cases z:A.ix.B7=L/\A.ix.segs=l
 case pos=>
  have aA:R=(0,A,P):=by rw[aM.o,Af z]
  subst aA;rw[Cv z]at aK;have aF:=A1 (aK.o w.drew (A3.I _ w).af)
  go_enter func112,ntmps112
  go_wp2;refine C3 (λw'=>A6 w' ab 1 (A5 xb)/\A6 w' ab 2 (A5 jb)) 10
   (Bz [0,1,2,3,4,5,6,7,9,8] [8]) ⟨d1,d2⟩ ?_
  iterate 9 (refine Bj ?_;(try simp only[Ao]))
  refine Bt λK hK=>?_;go_simp;refine aO.m ?_;rintro e w3⟨rfl,rfl⟩;refine hK _ _ ⟨d1,d2⟩ (λhS=>?_)
  (try simp only[Ao])
  refine Bo ?_;simp only[BO,BN];go_wp2_with (go_at_call 163;refine aF.m ?_;rintro e w4⟨rfl,q,rfl⟩);go_ret;have kq:=(A3.I Aa w).bb (1+q);exact⟨rfl,Cj.bL (FT:=λk=>FT k\/(Value.slice ka l.length H).oB k) (a1.o.aJ kq) kq (λ_ _ h=>h.elim) (λk E=>.inl (.inl (d.o k (.inl E)))) λk E=>.inl (.inl (d.o k (.inr E)))⟩
 case neg=>
  rw[D4 z]at aK;have aF:=A1 (aK.o w.drew (A3.I _ w).af);have aH:Hid (R=if T.1≠0 then (T.1,A,T.2) else (0,{A with ix:=⟨L,l⟩,j:=⟨[],A.j.A8,0,none⟩},T.2)):=by unfold Hid;rw[aM.o,Ac z]
  go_enter func112,ntmps112
  go_wp2;refine C3 (λw'=>A6 w' ab 1 (A5 xb)/\A6 w' ab 2 (A5 jb)) 10
   (Bz [0,1,2,3,4,5,6,7,9,8] [8]) ⟨d1,d2⟩ ?_
  iterate 9 (refine Bj ?_;(try simp only[Ao]))
  refine Bt λK hK=>?_;go_simp;refine aO.m ?_;rintro e w3⟨rfl,rfl⟩;refine hK _ _ ⟨d1,d2⟩ (λhS=>?_)
  (try simp only[Ao])
  refine Bo ?_;simp only[BO,BN];go_wp2_with (fail);refine aF.m ?_;rintro e w4⟨rfl,q,rfl⟩;have k4:A3 Aa w (w.drewN (1+q)):=(A3.I Aa w).bb (1+q);have a3:=a1.o.aJ k4;have x1:=a3.Ag.af.c1;have x2:=a3.Ag.af.c2;have Y:=A1 (a1.o.aJ k4.af);have aG:=A1 k4.af;have aB:=A1 (aR.o _ k4.af);have aE:=A1 (aX.o _ k4.af);go_wp2;generalize w.drewN (1+q)=w4 at Y aG aB aE x1 x2 ⊢;obtain⟨aY,a4⟩:=T;dsimp only at aB aH;have aD:Hid (ab≠xb/\¬Ft ab):=⟨Y.o.ne,Y.o.Db ab (.inl rfl)⟩;by_cases ht:aY=0
  case neg=>
   (have aA:R=(aY,A,a4):=by rw[aH.o,Af ht]);subst aA;(have htb:(aY !=0)=true:=by simpa using ht);refine C3 (λw'=>A6 w' ab 1 (A5 xb)/\A6 w' ab 2 (A5 jb)) 11
    (Bz [0,1,2,3,4,5,6,7,9,8,10] [8,10]) ⟨x1,x2⟩ ?_
   iterate 9 (refine Bj ?_;(try simp only[Ao]))
   refine Bt λK hK=>?_;go_simp;refine aE.m ?_;rintro e w3⟨rfl,rfl⟩;refine hK _ _ ⟨x1,x2⟩ (λhS=>?_)
   (try simp only[Ao])
   refine Bt λK hK=>?_;go_simp;refine aB.m ?_;rintro e w6⟨rfl,hx,hI⟩;have b6:CZ w6 ab b xb jb A.A8 ov:=Y.o.Ag.ak hI.1 λh=>h.elim aD.o.2 aD.o.1;refine hK _ _ ⟨b6.c1,b6.c2⟩ (λhS=>?_);rw[Ac ht,Ac ht]at hx;have aP:=A1 (Y.o.ev hx (Y.o.segs.aP λg I=>hI.1.Al g (Y.o.segs.lt I) λh=>h.elim (Y.o.Db g (.inr (.inr (.inl I)))) (Y.o.F9 g I).2.1) hI λg I=>.inl I)
   (try simp only[Ao])
   refine Bo ?_;simp only[BO,BN];go_wp2;go_ret;obtain⟨aJ,h1,h2,h3⟩:=aP.o;have aW:A3 (λk=>Ft k\/k=xb) w w6:=(aG.o.ad (S':=λk=>Ft k\/k=xb) λ_ _ h=>h.elim).tr h2;refine⟨rfl,Cj.bL (FT:=λk=>FT k\/(Value.slice ka l.length H).oB k) h1 aW ?_ ?_ ?_⟩
   ·rintro k _ (h|rfl)
    ·exact .inl (d.o k (.inl h))
    ·exact .inl (d.o _ (.inr (.inr (.inl rfl))))
   ·exact λk E=>(h3 k E).imp (λh=>.inl (d.o k (.inl h))) λh=>AQ aG.o.Ak h
   ·exact λk E=>.inl (.inl (d.o k (.inr E)))
  case pos=>
   subst ht;(have aA:R=(0,{A with ix:=⟨L,l⟩,j:=⟨[],A.j.A8,0,none⟩},a4):=by rw[aH.o,Ac (by simp)]);subst aA;have O:Hid (∀g,(Value.slice ka l.length H).oB g->g<w4.drew.heap.size/\¬Ft g/\¬F7 ab xb jb sv ov lv jo g):=λg I=>⟨Bm (a2.o.lt I) aG.o.Ak,λh=>aL.o g I (d.o g (.inl h)),λh=>aL.o g I (d.o g (.inr h))⟩
   refine C3 (λw'=>A6 w' ab 1 (A5 xb)/\A6 w' ab 2 (A5 jb)) 11
    (Bz [0,1,2,3,4,5,6,7,9,8,10] [8,10]) ⟨x1,x2⟩ ?_
   iterate 9 (refine Bj ?_;(try simp only[Ao]))
   refine Bt λK hK=>?_;go_simp;refine aE.m ?_;rintro e w3⟨rfl,rfl⟩;refine hK _ _ ⟨x1,x2⟩ (λhS=>?_)
   (try simp only[Ao])
   refine Bt λK hK=>?_;go_simp;refine aB.m ?_;rintro e w6⟨rfl,hx,hI⟩;have b6:CZ w6 ab b xb jb A.A8 ov:=Y.o.Ag.ak hI.1 λh=>h.elim aD.o.2 aD.o.1;refine hK _ _ ⟨b6.c1,b6.c2⟩ (λhS=>?_);rw[Af rfl,Af rfl]at hx;have aV:D2 w6 (.slice ka l.length H) l:=(a2.o.An aG.o (λ_ _ h=>h)).aP λg I=>hI.1.Al g (O.o g I).1 λh=>h.elim (O.o g I).2.1 λe=>(O.o g I).2.2 (.inr (.inl e))
   have aP:=A1 (Y.o.ev hx aV hI λg I=>.inr (O.o g I));have d2:=b6.c2
   (try simp only[Ao])
   refine Bo ?_;simp only[BO,BN];obtain⟨aJ,h1,h2,h3⟩:=aP.o;have a8:=A1 (Z0 w6 h1.jn);have a7:=A1 h1;have a6:Hid (A3 (λk=>Ft k\/k=xb) w w6):=(aG.o.ad (S':=λk=>Ft k\/k=xb) λ_ _ h=>h.elim).tr h2;have a5:Hid (∀k,aJ k->Ft k\/w.heap.size<=k):=λk E=>(h3 k E).imp id λh=>AQ aG.o.Ak h
   go_wp2_with (go_at_call 166;refine a8.m ?_;rintro e w7⟨rfl,hj,aQ⟩;have a9:=A1 hj;have aI:=A1 aQ);go_ret;have a0:=a7.o.fB a9.o aI.o (by simp[Value.ownBlock]) rfl;refine⟨rfl,Cj.bL (FT:=λk=>FT k\/(Value.slice ka l.length H).oB k) (S:=λk=>(Ft k\/k=xb)\/k=jb) a0 ((a6.o.ad λ_ _ h=>.inl h).Av aI.o λ_ h _=>.inr h) ?_ ?_ ?_⟩
   ·rintro k _ ((h|rfl)|rfl)
    ·exact .inl (d.o k (.inl h))
    ·exact .inl (d.o _ (.inr (.inr (.inl rfl))))
    ·exact .inl (d.o _ (.inr (.inr (.inr (.inr (.inr (.inl rfl)))))))
   ·exact λk E=>(a5.o k E).imp (λh=>.inl (d.o k (.inl h))) id
   ·rintro k (h|h|h|h|h)
    ·exact .inl (.inl (d.o k (.inr (.inl h))))
    ·exact .inl (.inl (d.o k (.inr (.inr (.inl h)))))
    ·exact .inl (.inr h)
    ·exact .inl (.inl (d.o k (.inr (.inr (.inr (.inr (.inl h)))))))
    ·rcases h with h|h|h
     ·exact .inl (.inl (d.o k (.inr (.inr (.inr (.inr (.inr (.inl h))))))))
     ·simp[Value.ownBlock]at h
     ·cases h
end
def Fit.ax{a c m:Nat}:∀(l:List Bs) (P:PD),Fit P a c m->Fit (PD.ax l P).2 a c m
 | [],P,h=>h
 | nm::r,P,h=>by
  rw[Qf];split
  ·exact h.ae _
  ·exact Fit.ax r _ (h.ae _)
def Fit.C{A:Ar}{P:PD}{a c m:Nat}(h:Fit P a c m):Fit (A.C P).2.2 a c m:=by
 unfold Ar.C;split
 ·exact h.ax _ _
 ·exact h.ax _ _
def Fit.aM{a m:Nat}:∀(l:List Bs) (P:PD) (c:Nat),Fit P a c m->Fit (PD.aM l P).2 a (c+l.length) m
 | [],P,c,h=>h
 | nm::r,P,c,h=>by
  rw[removeAll_cons];split
  ·exact(h.az _).ad (Au _) (by simp) (Au _)
  ·exact(Fit.aM r _ _ (h.az _)).ad (Au _) (by simp;omega) (Au _)
def Fit.au{A:Ar}{P:PD}{a c m:Nat}(h:Fit P a c m):Fit (A.au P).2 a (c+a) m:=by
 have d:=Fit.aM (A.aV P) P c h;have h2:=RK A P h;exact d.ad (Au _) (by omega) (Au _)
def Ng(A:Ar)(P:PD):(A.C P).2.1.ix=A.ix/\(A.C P).2.1.j=A.j/\(A.C P).2.1.A8=A.A8:=by
 unfold Ar.C;split<;>exact⟨rfl,rfl,rfl⟩
def Ar.aN(A:Ar)(P:PD):Int×Ar×PD:=
 if (A.C P).1≠0 then A.C P else (((A.C P).2.1.au (A.C P).2.2).1,(A.C P).2.1,((A.C P).2.1.au (A.C P).2.2).2)
def XU(A:Ar)(P:PD):(A.aN P).2.1.ix=A.ix/\(A.aN P).2.1.j=A.j/\(A.aN P).2.1.A8=A.A8:=by
 unfold Ar.aN;split<;>exact Ng A P
def Fit.aN{A:Ar}{P:PD}{a c m:Nat}(h:Fit P a c m):Fit (A.aN P).2.2 a (c+a) m:=by
 unfold Ar.aN;split
 ·exact h.C.ad (Au _) (by omega) (Au _)
 ·exact h.C.au
def QQ(A:Ar)(P:PD)(kept:List Int)(fresh:List (List Pu)):A.ay P kept fresh=if (A.aN P).1≠0 then A.aN P else
 if (PD.ah fresh (A.aN P).2.1.A8 kept (A.aN P).2.2).1≠0 then ((PD.ah fresh (A.aN P).2.1.A8 kept (A.aN P).2.2).1,{ (A.aN P).2.1 with A8:=(PD.ah fresh (A.aN P).2.1.A8 kept (A.aN P).2.2).2.1},(PD.ah fresh (A.aN P).2.1.A8 kept (A.aN P).2.2).2.2.2) else
 if (({ (A.aN P).2.1 with A8:=(PD.ah fresh (A.aN P).2.1.A8 kept (A.aN P).2.2).2.1}:Ar).ag (PD.ah fresh (A.aN P).2.1.A8 kept (A.aN P).2.2).2.2.2 (PD.ah fresh (A.aN P).2.1.A8 kept (A.aN P).2.2).2.2.1).1≠0 then
  ({ (A.aN P).2.1 with A8:=(PD.ah fresh (A.aN P).2.1.A8 kept (A.aN P).2.2).2.1}:Ar).ag (PD.ah fresh (A.aN P).2.1.A8 kept (A.aN P).2.2).2.2.2 (PD.ah fresh (A.aN P).2.1.A8 kept (A.aN P).2.2).2.2.1
 else (({ (A.aN P).2.1 with A8:=(PD.ah fresh (A.aN P).2.1.A8 kept (A.aN P).2.2).2.1}:Ar).ag (PD.ah fresh (A.aN P).2.1.A8 kept (A.aN P).2.2).2.2.2 (PD.ah fresh (A.aN P).2.1.A8 kept (A.aN P).2.2).2.2.1).2.1.aZ
  (({ (A.aN P).2.1 with A8:=(PD.ah fresh (A.aN P).2.1.A8 kept (A.aN P).2.2).2.1}:Ar).ag (PD.ah fresh (A.aN P).2.1.A8 kept (A.aN P).2.2).2.2.2 (PD.ah fresh (A.aN P).2.1.A8 kept (A.aN P).2.2).2.2.1).2.2:=by
 unfold Ar.ay Ar.aN;dsimp only
 by_cases d:(A.C P).1=0
 ·by_cases h:((A.C P).2.1.au (A.C P).2.2).1=0
  ·simp only[d,h,Jq,not_true,C4]
  ·simp only[d,h,Jq,not_true,NY,C4,Cg]
 ·simp only[d,Jq,NY,Cg]
section
variable {w w':World} {ab b xb jb B:Nat} {sv ov lv jo:Value} {A:Ar} {P:PD} {Ft FT:Nat->Prop} {a c m:Nat}
def AD.bw(h:AD w ab b A P FT):A6 w ab 0 (A5 b)/\A6 w ab 3 (A0 A.A8)/\w.frozen? (Ab ab 3)=false/\ab<w.heap.size/\FT ab:=by
 obtain⟨xb,jb,sv,ov,lv,jo,Ft,d,z⟩:=h;exact⟨d.Ag.c0,d.Ag.c3,d.Ag.fz 3,d.Ag.lt,z ab (.inr (.inl rfl))⟩
def AD.fT(h:AD w ab b A P FT)(x:Int):AD (w.setCell ⟨ab,3,none⟩ (.int .i64 x)) ab b {A with A8:=x} P FT:=by
 obtain⟨xb,jb,sv,ov,lv,jo,Ft,d,L⟩:=h;have I:A3 (One ab) w (w.setCell ⟨ab,3,none⟩ (.int .i64 x)):=(A3.I (One ab) w).aq (b:=ab) rfl 3 _;have H:∀k,k≠ab->k<w.heap.size->(w.setCell ⟨ab,3,none⟩ (.int .i64 x)).heap[k]?=w.heap[k]?:=λk z O=>I.Al k O z
 exact⟨xb,jb,sv,ov,lv,jo,Ft,⟨d.Ag.s3 x,(H xb d.ne.symm d.ix.lt).trans d.ix,d.segs.aP λg E=>H g (d.F9 g E).1 (d.segs.lt E),d.AN.aP λg E=>H g (d.FY g E).1 (d.AN.lt E),d.jn.aP λk z=>H k (d.Fs k z).1 (d.jn.lt z),
  B3.aP d.dk λk z=>H k (λe=>by subst e;exact d.Db _ (.inl rfl) z) (d.lt k z),λk z=>Bm (d.lt k z) I.Ak,d.Db,d.F9,d.FY,d.Fs⟩,L⟩
def A0O(h:Bh w b P Ft):
 Ah 71 #[A5 b] w (Am (A0 P.aK.1) λw'=>Ap w Ft w' (λw' d=>Bh w' b P.aK.2 d)):=VO h
def Ut(h:AD w ab b A P FT):
 Ah 71 #[A5 b] w (Am (A0 P.aK.1) λw'=>Ap w FT w' (λw' z=>AD w' ab b A P.aK.2 z)):=by
 obtain⟨xb,jb,sv,ov,lv,jo,Ft,d,E⟩:=h;refine(A0O d.dk).mono ?_;rintro e w'⟨I,H⟩;exact⟨I,d.cz E (d.bW H)⟩
def XV(w:World)(g:Nat)(h:AD w ab b A P FT)(_hlt:∀k,FT k->k<w.heap.size)(hg:¬FT g)(Y:g<w.heap.size)(hb:w.heap[g]?=some (.cells #[.func (Fn.func 69) #[.pointer (some ⟨ab,0,none⟩)] #[],.func (Fn.func 110) #[.pointer (some ⟨ab,0,none⟩)] #[]] 41 (0,0)))(hF:Fit P a c m)(hl:CM a (c+a) m)(hn:∀n∈A.ix.segs,CD n)(O:∀n∈A.j.Aj,CD n)(L:A.ix.segs.length<=1073741824)(I:A.j.Aj.length<=1073741824)(hL:Lets B w)(W:∀k,FT k->B<=k):
 Calls Tryz.prog 68 #[.slice (some ⟨g,0,none⟩) 2 2] w λe w'=>e=.returned (.int .i64 (A.aN P).1)/\Ap w FT w' (λw' d=>AD w' ab b (A.aN P).2.1 (A.aN P).2.2 d):=by
 obtain⟨s1,s2,s3⟩:=Ng A P;refine(ZZ w g ab ab (λn w'=>n=(A.C P).1/\Ap w FT w' (λw' d=>AD w' ab b (A.C P).2.1 (A.C P).2.2 d)) (λn w'=>(A.C P).1=0/\n=((A.C P).2.1.au (A.C P).2.2).1/\Ap w FT w' (λw' d=>AD w' ab b (A.C P).2.1 ((A.C P).2.1.au (A.C P).2.2).2 d)) hb ?_ ?_).mono ?_
 ·refine(Qv w h).mono ?_;rintro e w'⟨E,z⟩;exact⟨_,E,⟨rfl,z⟩,z.1.Al g Y hg⟩
 ·rintro w1⟨h0,c1,F1,z,H,h4⟩ -;refine(Qj w1 z hF.C hl (by rw[s1];exact hn) (by rw[s2];exact O) (by rw[s1];exact L) (by rw[s2];exact I) (hL.ak c1 W)).mono ?_;rintro e w'⟨h5,h6⟩;exact⟨_,h5,h0.symm,rfl,Ap.a8 c1 h4 h6⟩
 ·rintro e w'⟨n,rfl,⟨E,z,H⟩|⟨E,z,H⟩⟩
  ·subst z;unfold Ar.aN;rw[Af E];exact⟨rfl,H⟩
  ·subst z;unfold Ar.aN;rw[Ac (by simp[E])];exact⟨rfl,H⟩
def A1K(w:World)(g:Nat)(h:AD w ab b A P FT)(_hlt:∀k,FT k->k<w.heap.size)(hg:¬FT g)(W:g<w.heap.size)(hb:w.heap[g]?=some (.cells #[.func (Fn.func 110) #[.pointer (some ⟨ab,0,none⟩)] #[],.func (Fn.func 71) #[.pointer (some ⟨b,0,none⟩)] #[]] 41 (0,0)))(hF:Fit P a c m)(hl:CM a (c+a) m)(hn:∀n∈A.ix.segs,CD n)(O:∀n∈A.j.Aj,CD n)(L:A.ix.segs.length<=1073741824)(I:A.j.Aj.length<=1073741824)(hL:Lets B w):
 Calls Tryz.prog 68 #[.slice (some ⟨g,0,none⟩) 2 2] w λe w'=>e=.returned (.int .i64 (A.aZ P).1)/\Ap w FT w' (λw' d=>AD w' ab b (A.aZ P).2.1 (A.aZ P).2.2 d):=by
 refine(ZY w g ab b (λn w'=>n=(A.au P).1/\Ap w FT w' (λw' d=>AD w' ab b A (A.au P).2 d)) (λn w'=>(A.au P).1=0/\n=(A.au P).2.aK.1/\Ap w FT w' (λw' d=>AD w' ab b A (A.au P).2.aK.2 d)) hb ?_ ?_).mono ?_
 ·refine(Qj w h hF hl hn O L I hL).mono ?_;rintro e w'⟨E,z⟩;exact⟨_,E,⟨rfl,z⟩,z.1.Al g W hg⟩
 ·rintro w1⟨Y,c1,F1,z,H,h4⟩ -;refine(Ut z).mono ?_;rintro e w'⟨h5,h6⟩;exact⟨_,h5,Y.symm,rfl,Ap.a8 c1 h4 h6⟩
 ·rintro e w'⟨n,rfl,⟨E,z,H⟩|⟨E,z,H⟩⟩
  ·subst z;unfold Ar.aZ;rw[Af E];exact⟨rfl,H⟩
  ·subst z;unfold Ar.aZ;rw[Ac (by simp[E])];exact⟨rfl,H⟩
end
def P8(w:World)(v:Value)(h:List (List Pu))(FT:Nat->Prop):Prop:=
 ∃d:List Value,d.length=h.length/\w.ownsRow 0 72 1 v h.length d/\(∀k (E:k<d.length) (z:k<h.length),AY w (d[k]'E) (h[k]'z))/\(∀g,v.ownBlock=some g->¬FT g)/\∀x∈d,∀g,x.ownBlock=some g->¬FT g
def Da(l:List (List Pu)):Nat:=(l.map List.length).sum
def Nc(x:List Pu)(r:List (List Pu)):Da (x::r)=x.length+Da r:=by simp[Da]
def Lw(x y:List (List Pu)):Da (x++y)=Da x+Da y:=by simp[Da]
def Qk(l:List (List Pu))(k:Nat):Da (l.take k)<=Da l:=by
 conv=>rhs;rw[<-DO k l]
 rw[Lw];omega
def Sb(l:List Pu)(r:List (List Pu))(last:Int)(kept:List Int)(P:PD):PD.ah (l::r) last kept P=if (P.aL (last+1) l).1≠0 then ((P.aL (last+1) l).1,last+1,kept,(P.aL (last+1) l).2) else
 PD.ah r (last+1) (kept++[last+1]) (P.aL (last+1) l).2:=rfl
def Fit.aL{P:PD}{a c m:Nat}(h:Fit P a c m)(n:Int)(l:List Pu):Fit (P.aL n l).2 (a+1) (c+1) (m+17*l.length+4):=by
 have:=h.aH (AG n) (AE (AG n)) (Cd l);rw[NG]at this;exact this
def S1{n:Int}(d:0<=n)(h:n<=9223372036854775807):CD n:=by
 refine⟨d,h,?_⟩;rw[LQ d,V8];have e:(10:Nat) ^ 19=10000000000000000000:=by decide
 exact Ss 19 _ (by rw[e];omega) (by omega)
section
variable {w:World} {ab b xb jb B:Nat} {sv ov lv jo:Value} {A:Ar} {P:PD} {Ft FT:Nat->Prop} {a c m:Nat}
def A2J(w:World)(h:AD w ab b A P FT)(n:Int)(H:Value)(l:List Pu)(hF:Fit P a c m)(hl:CM (a+1) (c+1) m)(hn:CD n)(Y:Lets B w)(hp:Hh w H l)(I:∀p∈l,Bg p)(E:l.length<=134217728):
 Ah 111 #[A5 b,A0 n,H] w λe w'=>
  ((P.aL n l).1≠0/\e=.returned (.tuple #[.pointer none,A0 (P.aL n l).1])\/(P.aL n l).1=0/\∃O,e=.returned (.tuple #[A5 O,A0 0]))/\Ap w FT w' (λw' z=>AD w' ab b A (P.aL n l).2 z):=by
 obtain⟨xb,jb,sv,ov,lv,jo,Ft,d,L⟩:=h;refine(Yz w H l d.dk d.lt hF hl hn Y hp I E).mono ?_;rintro e w'⟨h3,W⟩;exact⟨h3,d.cz L (d.bW W)⟩
def Fit.cw{A:Ar}{P:PD}{a c m:Nat}(h:Fit P a c m)(l:List Int):Fit (A.ag P l).2.2 (a+2) (c+2) (m+12+8*l.length):=by
 unfold Ar.ag;split
 ·exact h.ad (by omega) (by omega) (by omega)
 ·split
  ·exact h.ec _ _
  ·exact h.ec _ _
def A2h(A:Ar)(P:PD)(l:List Int):((A.ag P l).2.1.ix.segs=A.ix.segs\/(A.ag P l).2.1.ix.segs=l)/\((A.ag P l).2.1.j.Aj=A.j.Aj\/(A.ag P l).2.1.j.Aj=[]):=by
 unfold Ar.ag;split
 ·exact⟨.inl rfl,.inl rfl⟩
 ·split
  ·exact⟨.inl rfl,.inl rfl⟩
  ·exact⟨.inr rfl,.inr rfl⟩
def AD.cU{n:Nat}{v:Value}{xs:List Value}(h:AD w ab b A P FT)(d:w.ownsRow 0 3 1 v n xs){g:Nat}(E:v.ownBlock=some g):g≠ab:=by
 obtain⟨xb,jb,sv,ov,lv,jo,Ft,z,h2⟩:=h;obtain⟨c,H⟩:=Bd d E;exact BR H z.Ag (by decide)
def QR(w:World)(h:AD w ab b A P FT)(bT:∀k,FT k->k<w.heap.size)(kv:Value)(kept:List Int)(aB:Dw w kv kept)(dC:∀g,kv.ownBlock=some g->¬FT g/\B<=g)(fv:Value)(fresh:List (List Pu))(eM:P8 w fv fresh FT)(cL:∀l∈fresh,(∀p∈l,Bg p)/\l.length<=134217728)(cV:0<=A.A8/\A.A8+fresh.length<=9223372036854775807)(b2:AW (A.j.A8+1))(_hkr:∀x∈kept,AW x)(hF:Fit P a c m)(hl:CM (a+fresh.length+2) (c+2*a+2*fresh.length+4) (m+17*Da fresh+12*fresh.length+12+8*kept.length))(dA:kept.length+fresh.length<=134217728)(hn:∀n∈A.ix.segs,CD n)(bU:∀n∈A.j.Aj,CD n)(b0:∀n∈kept,CD n)(bK:A.ix.segs.length<=1073741824)(bR:A.j.Aj.length<=1073741824)(hL:Lets B w)(bI:∀k,FT k->B<=k):
 Ah 66 #[A5 ab,kv,fv] w (Am (A0 (A.ay P kept fresh).1) λw'=>Ap w (λk=>FT k\/kv.ownBlock=some k) w' (λw' d=>AD w' ab b (A.ay P kept fresh).2.1 (A.ay P kept fresh).2.2 d)):=by
 obtain⟨i0,hi,dW,eN,eD⟩:=Oj;obtain⟨ka,z,rfl,kc1,eI,-⟩:=B9 aB;obtain⟨vs,vl,bM,cH,cT,cB⟩:=eM;obtain⟨fa,b6,rfl,fc1,dO,-⟩:=B9 bM;unfold maxLen at eI dO;obtain⟨q1,q2,q3⟩:=XU A P;have b7:CM a (c+a) m:=⟨by have:=hl.a;omega,by have:=hl.c;omega,by have:=hl.m;omega⟩;have bH:=Fit.aN (A:=A) hF;have aQ:A3 Aa w (w.aC #[.func (Fn.func 69) #[A5 ab] #[],.func (Fn.func 110) #[A5 ab] #[]] 41):=(A3.I _ w).aj _;have eC:=A1 (XV _ w.heap.size (h.aJ aQ) (λk hk=>Bm (bT k hk) aQ.Ak) (λW=>FQ _ (bT _ W)) (by simp) (BK w _) hF b7 hn bU bK bR (hL.aS aQ) bI);have bZ:=A1 (QQ A P kept fresh);obtain⟨R,hR⟩:∃R,A.ay P kept fresh=R:=⟨_,rfl⟩;rw[hR]at bZ ⊢;obtain⟨X,hX⟩:∃X,A.aN P=X:=⟨_,rfl⟩;rw[hX]at bZ eC q1 q2 q3 bH;have eB:=A1 aQ;have dN:=A1 <| h.bw.2.2.2.2;have aY:=A1 bM;have bN:=A1 cH;have dR:=A1 cT;have dL:=A1 cB;have aS:=A1 aB;have a0:=A1 dC;have eE:=A1 hL;have b9:=A1 bI;have dQ:=A1 cL;have aO:=A1 hl;have b8:=A1 bH;have bB:Hid ((∀n∈A.ix.segs,CD n)/\(∀n∈A.j.Aj,CD n)/\(∀n∈kept,CD n)/\A.ix.segs.length<=1073741824/\A.j.Aj.length<=1073741824/\AW (A.j.A8+1)):=⟨hn,bU,b0,bK,bR,b2⟩;have eF:=A1 <| cV;have cX:=A1 dA;have eO:=A1 vl;have cG:=A1 Sb;have dD:Hid (∀wx bO bX,Ap w FT wx (λw' d=>AD w' ab b bO bX d)->Ap w (λk=>FT k\/(Value.slice ka kept.length z).ownBlock=some k) wx (λw' d=>AD w' ab b bO bX d)):=λwx bO bX W=>W.a6 λk hk=>.inl hk;clear hX hR aQ bT bM cH cT cB aB dC hL bI cL hl bH hn bU b0 bK bR b2 cV dA h hF b7 _hkr
 go_enter func66,ntmps66
 go_wp2_with (fail);refine eC.m ?_;rintro e w1⟨rfl,b3⟩;have aZ:=A1 (b3.a7 eB.o);clear eC b3;obtain⟨dS,H,aE⟩:=X;dsimp only at bZ q1 q2 q3 b8 aZ;have e1:=A1 q1;have e2:=A1 q2;have eT:=A1 q3;clear q1 q2 q3;by_cases W:dS=0
 case neg=>
  have aG:R=(dS,H,aE):=by rw[bZ.o,Af W]
  subst aG;have hxb:(dS !=0)=true:=by simpa using W
  go_wp2;go_ret;exact⟨rfl,dD.o _ _ _ aZ.o⟩
 case pos=>
 subst W
 have a3:Hid (R=if (PD.ah fresh H.A8 kept aE).1≠0 then ((PD.ah fresh H.A8 kept aE).1,{H with A8:=(PD.ah fresh H.A8 kept aE).2.1},(PD.ah fresh H.A8 kept aE).2.2.2) else
  if (({H with A8:=(PD.ah fresh H.A8 kept aE).2.1}:Ar).ag (PD.ah fresh H.A8 kept aE).2.2.2 (PD.ah fresh H.A8 kept aE).2.2.1).1≠0 then
   ({H with A8:=(PD.ah fresh H.A8 kept aE).2.1}:Ar).ag (PD.ah fresh H.A8 kept aE).2.2.2 (PD.ah fresh H.A8 kept aE).2.2.1
  else (({H with A8:=(PD.ah fresh H.A8 kept aE).2.1}:Ar).ag (PD.ah fresh H.A8 kept aE).2.2.2 (PD.ah fresh H.A8 kept aE).2.2.1).2.1.aZ
   (({H with A8:=(PD.ah fresh H.A8 kept aE).2.1}:Ar).ag (PD.ah fresh H.A8 kept aE).2.2.2 (PD.ah fresh H.A8 kept aE).2.2.1).2.2):=by unfold Hid;rw[bZ.o,Ac (by simp)]
 obtain⟨S,hS⟩:∃S,PD.ah fresh H.A8 kept aE=S:=⟨_,rfl⟩;have eR:=A1 hS;rw[hS]at a3;clear hS bZ;have cM:=A1 <| Ay aS.o λg I=>aZ.o.1.Al g (Az aS.o I) (a0.o g I).1;go_wp2
 go_loopw [1,24] (λv iv wr=>∃(k:Nat) (E:List Int) (aF:PD),iv=A0 k/\k<=fresh.length/\Hid (Dw wr v E/\E.length=kept.length+k/\(∀g,v.ownBlock=some g->(Value.slice ka kept.length z).ownBlock=some g\/w.heap.size<=g)/\(∀x∈E,CD x)/\
  Ap w (λk=>FT k\/(Value.slice ka kept.length z).ownBlock=some k) wr (λw' d=>AD w' ab b {H with A8:=H.A8+k} aF d/\∀g,v.ownBlock=some g->¬d g)/\Fit aF (a+k) (c+a+k) (m+17*Da (fresh.take k)+4*k)/\S=PD.ah (fresh.drop k) (H.A8+k) E aF)) (λ_ iv _=>fresh.length-(intOf iv).toNat)
 case atStart=>
  obtain⟨c1,aX,r1,l1,s1⟩:=aZ.o;refine⟨0,kept,aE,rfl,by omega,cM.o,rfl,λg I=>.inl I,bB.o.2.2.1,⟨c1.ad λ_ _ h=>.inl h,aX,⟨by simpa using r1,λg I W=>?_⟩,l1,λk hk=>(s1 k hk).imp .inl id⟩,by simpa[Da] using b8.o,by simpa using eR.o.symm⟩;rcases s1 g W with h|h
  ·exact(a0.o g I).1 h
  ·have:=Az aS.o I;omega
 case round=>
  obtain⟨k,E,aF,rfl,hk,hI⟩:=hrel;obtain⟨i1,i2,i3,i4,i5,i6,i7⟩:=hI.o;obtain⟨ap,cp,rfl,hcap1,bY,-⟩:=B9 i1;unfold maxLen at bY;by_cases aH:k<fresh.length
  ·(have aB:k<vs.length:=by have:=eO.o;omega);have dF:∀g,(Value.slice fa fresh.length b6).ownBlock=some g->g<w.heap.size/\¬(FT g\/(Value.slice ka kept.length z).ownBlock=some g):=λg I=>⟨Az aY.o I,λh=>h.elim (dR.o g I) (I9 aY.o aS.o (by decide) I)⟩
   obtain⟨c1,aX,⟨r1,aW⟩,l1,s1⟩:=i5;obtain⟨g,rfl⟩:∃g,fa=some (Ab g 0):=by
    obtain⟨a',c',e,-,-,hz,-⟩:=B9 aY.o;cases e;exact hz (by omega)
   have d0:=BF aY.o rfl (E2 aB);have d1:=c1.bG d0 (dF g rfl).2;have aI:=Ay (bN.o k aB aH) λO I=>c1.Al O (Az (bN.o k aB aH) I) λh=>h.elim (dL.o _ (BV aB) O I) (I9 (bN.o k aB aH) aS.o (by decide) I);have a4:=dQ.o _ (BV aH);have bS:=Dl aH;have bV:=Fm aH;have dP:=Qk fresh (k+1);obtain⟨xv,cU⟩:∃xv,(vs[k]'aB)=xv:=⟨_,rfl⟩;rw[cU]at d0 d1 aI;obtain⟨pl,cO⟩:∃pl,(fresh[k]'aH)=pl:=⟨_,rfl⟩;rw[cO]at aI a4 bS bV;obtain⟨pa,aP,rfl,pc1,eH,-⟩:=B9 aI;unfold maxLen at eH;obtain⟨L,a5⟩:∃L,H.A8+(k:Int)=L:=⟨_,rfl⟩;(have hLr:0<=L/\L+1<=9223372036854775807:=by have:=eF.o;rw[<-a5,eT.o];omega);rw[a5]at r1 i7;rw[bV,cG.o]at i7;obtain⟨e0,e3,z3,hab,dB⟩:=r1.bw;dsimp only at e3;(have ew:wrap64 (L+1)=L+1:=by unfold wrap64;omega);(have ew2:IntKind.i64.wrap (L+1)=L+1:=by simp[IntKind.wrap,IntKind.bits,IntKind.signed];omega);have r5:=r1.fT (L+1);have aT:FT ab\/(Value.slice ka kept.length z).ownBlock=some ab:=.inl dN.o;have c5:A3 (λk=>FT k\/(Value.slice ka kept.length z).ownBlock=some k) w (wr.sC ab 3 (A0 (L+1))):=c1.bp (p:=(Ab ab 3)) (λ_=>aT) _;have bP:=r5.aJ (A3.I Aa (wr.sC ab 3 (A0 (L+1)))).af;have a7:∀O,(Value.slice ap E.length cp).ownBlock=some O->O≠ab:=λO I=>r1.cU i1 I;have k5:A3 (One ab) wr (wr.sC ab 3 (A0 (L+1))).drew:=((A3.I (One ab) wr).aq (b:=ab) rfl 3 _).af;have bD:AY (wr.sC ab 3 (A0 (L+1))).drew (.slice pa pl.length aP) pl:=Ay aI λO I=>k5.Al O (Az aI I) λe=>by
    obtain⟨xb,jb,sv,ov,lv,jo,Ft,hv,_⟩:=r1;obtain⟨c',eA⟩:=Bd aI I;exact BR eA hv.Ag (by decide) e
   have a6:Dw (wr.sC ab 3 (A0 (L+1))).drew (.slice ap E.length cp) E:=Ay i1 λO I=>k5.Al O (Az i1 I) (a7 O I);have l5:∀k,aX k->k<(wr.sC ab 3 (A0 (L+1))).drew.heap.size:=λk hk=>Bm (l1 k hk) k5.Ak;have cS:∀k,(FT k\/(Value.slice ka kept.length z).ownBlock=some k)->B<=k:=λk hk=>hk.elim (b9.o k) λh=>(a0.o k h).2
   have cF:=eE.o.ak c5.af cS;have aU:CM (a+k+1) (c+a+k+1) (m+17*Da (fresh.take k)+4*k):=by
    have:=aO.o;have h2:=Qk fresh k;exact⟨by have:=this.a;omega,by have:=this.c;omega,by have:=this.m;omega⟩
   have aM:=A1 (A2J _ bP (L+1) _ pl i6 aU (S1 (by omega) (by omega)) cF bD.rd a4.1 a4.2);have bQ:=A1 (i6.aL (L+1) pl);obtain⟨Y,hY⟩:∃Y,aF.aL (L+1) pl=Y:=⟨_,rfl⟩;rw[hY]at i7 aM bQ;(have dK:Hid (17*Da (fresh.take (k+1))+4*(k+1)=17*Da (fresh.take k)+4*k+17*pl.length+4):=by unfold Hid;rw[bS,Lw];simp[Da];omega);have dZ:=A1 a5;have dJ:=A1 i2;have eY:=A1 i3;have eX:=A1 i4;have dI:=A1 i7;have dH:=A1 c5.af;have eG:Hid (∀k,aX k->(FT k\/(Value.slice ka kept.length z).ownBlock=some k)\/w.heap.size<=k):=s1;have cA:=A1 aW;have bL:=A1 a6;(have cJ:wr.heap.size=(wr.sC ab 3 (A0 (L+1))).drew.heap.size:=by show _=(wr.setCell _ _).heap.size;simp);have SZ5:=A1 cJ;obtain⟨f0,f3,-,-,-⟩:=bP.bw;dsimp only at f3;(have dV:(k:Int)<(fresh.length:Int):=by omega);have hk0:=Ce k;clear hI i1 i2 i3 i4 i6 i7 c1 r1 aW l1 s1 d0 aI a4 bS bV dP cU cO a5 r5 c5 bP a7 k5 bD a6 l5 cS cF aU hY dF aB aT dB cJ;obtain⟨b1,a1⟩:=Y;dsimp only at aM dI bQ
   have aD:Hid (∀w6,Ap (wr.sC ab 3 (A0 (L+1))).drew aX w6 (λw' d=>AD w' ab b {H with A8:=L+1} a1 d)->
    (A6 w6 ab 0 (A5 b)/\A6 w6 ab 3 (A0 (L+1)))/\Ap w (λk=>FT k\/(Value.slice ka kept.length z).ownBlock=some k) w6 (λw' d=>AD w' ab b {H with A8:=L+1} a1 d)):=λw6 h6=>by
    obtain⟨_,cP,bJ,_⟩:=h6;exact⟨⟨bJ.bw.1,bJ.bw.2.1⟩,Ap.a8 dH.o eG.o ⟨‹_›,cP,bJ,‹_›⟩⟩
   by_cases hy:b1=0
   case neg=>
    (have a2:S=(b1,L+1,E,a1):=by rw[dI.o,Af hy]);(have aG:R=(b1,{H with A8:=L+1},a1):=by rw[a3.o,a2,Af hy]);subst aG;have aR:Hid (Ah 111 #[A5 b,A0 (L+1),.slice pa pl.length aP] (wr.sC ab 3 (A0 (L+1))).drew (Am (.tuple #[.pointer none,A0 b1]) λw'=>Ap (wr.sC ab 3 (A0 (L+1))).drew aX w' (λw' d=>AD w' ab b {H with A8:=L+1} a1 d))):=by
     refine aM.m ?_;rintro e w'⟨⟨_,h2⟩|⟨h1,_⟩,h3⟩
     ·exact⟨h2,h3⟩
     ·exact absurd h1 hy
    (have hyb:(b1 !=0)=true:=by simpa using hy);clear a2 aM;go_wp2;refine C3 (λw'=>A6 w' ab 0 (A5 b)/\A6 w' ab 3 (A0 (L+1))) 14
     (Bz [0,1,2,3,4,5,6,7,8,9,10,11,12,13] [9]) ⟨f0,f3⟩ ?_
    iterate 9 (refine Bj ?_;(try simp only[Ao]))
    refine Bt λK hK=>?_;go_simp;refine aR.m ?_;rintro e w6⟨rfl,hI⟩;refine hK _ _ (aD.o w6 hI).1 (λhS=>?_);have eW:=A1 (aD.o w6 hI).2;clear hK K hS hI aR aD
    (try simp only[Ao])
    iterate 4 (refine Bj ?_;(try simp only[Ao]))
    refine Bo ?_;simp only[BO,BN];go_wp2;go_ret;exact⟨rfl,eW.o⟩
   case pos=>
    subst hy;(have eZ:Hid (S=PD.ah (fresh.drop (k+1)) (L+1) (E++[L+1]) a1):=by unfold Hid;rw[dI.o,Ac (by simp)]);have aR:Hid (Ah 111 #[A5 b,A0 (L+1),.slice pa pl.length aP] (wr.sC ab 3 (A0 (L+1))).drew λe w'=>∃gb,e=.returned (.tuple #[A5 gb,A0 0])/\Ap (wr.sC ab 3 (A0 (L+1))).drew aX w' (λw' d=>AD w' ab b {H with A8:=L+1} a1 d)):=by
     refine aM.m ?_;rintro e w'⟨⟨h1,_⟩|⟨_,gb,h2⟩,h3⟩
     ·exact absurd rfl h1
     ·exact⟨gb,h2,h3⟩
    clear aM dI;go_wp2;refine C3 (λw'=>A6 w' ab 0 (A5 b)/\A6 w' ab 3 (A0 (L+1))) 14
     (Bz [0,1,2,3,4,5,6,7,8,9,10,11,12,13] [9]) ⟨f0,f3⟩ ?_
    iterate 9 (refine Bj ?_;(try simp only[Ao]))
    refine Bt λK hK=>?_;go_simp;refine aR.m ?_;rintro e w6⟨gb,rfl,hI⟩;refine hK _ _ (aD.o w6 hI).1 (λhS=>?_);have g63:=(aD.o w6 hI).1.2;have cC:=A1 hI;clear hK K hS hI aR aD
    (try simp only[Ao])
    iterate 4 (refine Bj ?_;(try simp only[Ao]))
    refine Bo ?_;simp only[BO,BN];have bG:=A1 cC.o.1;have cY:Hid (Dw w6 (.slice ap E.length cp) E):=Ay bL.o λO I=>bG.o.Al O (Az bL.o I) (cA.o O I);have cQ:Hid ((w6.aC #[A0 (L+1)] 3).ownsRow 0 3 1 (.slice ap E.length cp) E.length (DF E)):=Ay cY.o λO I=>((A3.I Aa w6).aj _).Al O (Az cY.o I) (λh=>h)
    have eJ:=A1 (Src.bc (size:=1) (B:=w6.heap.size) underlying120 w6 #[A0 (L+1)] 3 (by simp) 1 1 rfl (Jv [L+1]));go_wp2_with (at_builtin;refine D9 rfl (.tmp 51) (.tmp 56) 120 120 rfl 3 i0 _ 1 8 underlying120 hi dW eN eD rfl (by decide) (.slice ap E.length cp) E.length (DF E) (by rfl) cQ.o _ 1 _ (by rfl) eJ.o (by have:=dJ.o;have:=cX.o;omega) ?_;intro a8 dG w8 hA;have eU:=A1 hA;clear hA);go_roundw
    case rel=>
     have hA:=eU.o;have k7:A3 Aa w6 (w6.aC #[A0 (L+1)] 3):=(A3.I _ w6).aj _;have aL:=hA.An (S:=λk=>(Value.slice ap E.length cp).ownBlock=some k) λ_ h=>h;have k8:A3 (λk=>(Value.slice ap E.length cp).ownBlock=some k) w6 w8:=(k7.ad λ_ _ h=>h.elim).tr aL;obtain⟨_,cP,r2,l2,s2⟩:=cC.o;have bE:∀O,(Value.slice ap E.length cp).ownBlock=some O->¬cP O:=λO I W=>by
      rcases s2 O W with h|h
      ·exact cA.o O I h
      ·have:=Az bL.o I;omega
     have r8:AD w8 ab b {H with A8:=L+1} a1 cP:=r2.aP (k8.aI l2 λk hk W=>bE k W hk) k8.Ak;have bC:∀O,(Value.slice a8 (E.length+1) dG).ownBlock=some O->(Value.slice ap E.length cp).ownBlock=some O\/w6.heap.size<=O:=λO I=>by
      rcases hA.Cy with h|h
      ·rw[h]at I;exact .inl I
      ·rw[h]at I;cases I;exact .inr k7.Ak
     have eP:A3 (λk=>aX k\/(Value.slice ap E.length cp).ownBlock=some k) (wr.sC ab 3 (A0 (L+1))).drew w8:=(bG.o.ad λ_ _ h=>.inl h).Av k8 λ_ h _=>.inr h;have bA:∀O,(Value.slice ap E.length cp).ownBlock=some O->(Value.slice ka kept.length z).ownBlock=some O\/w.heap.size<=O:=eY.o;have c8:A3 (λk=>FT k\/(Value.slice ka kept.length z).ownBlock=some k) w w8:=dH.o.Av eP λx W hlt=>by
      rcases W with W|W
      ·exact(eG.o x W).resolve_right (by omega)
      ·exact .inr ((bA x W).resolve_right (by omega))
     (have eL:H.A8+((k+1:Nat):Int)=L+1:=by have:=dZ.o;omega);refine⟨k+1,E++[L+1],a1,by go_num,by omega,?_,by have:=dJ.o;simp;omega,λO I=>?_,λx W=>?_,⟨c8,cP,⟨by rw[eL];exact r8,λO I W=>?_⟩,λk hk=>Bm (l2 k hk) k8.Ak,λk hk=>?_⟩,?_,by rw[eL];exact eZ.o⟩
     ·(have e:(E++[L+1]).length=E.length+1:=by simp);unfold Dw;rw[Kz,e];exact hA.AF
     ·rcases bC O I with h|h
      ·exact bA O h
      ·have:=c8.Ak;have:=dH.o.Ak;have:=bG.o.Ak;exact .inr (by omega)
     ·rcases AV.1 W with W|W
      ·exact eX.o x W
      ·simp at W;subst W;exact S1 (by omega) (by omega)
     ·rcases bC O I with h|h
      ·exact bE O h W
      ·have:=l2 O W;omega
     ·rcases s2 k hk with h|h
      ·exact eG.o k h
      ·have:=dH.o.Ak;exact .inr (by omega)
     ·have h1:=bQ.o;have h2:=dK.o;exact h1.ad (by omega) (by omega) (by omega)
    case measure=>simp[intOf];omega
  ·(obtain rfl:k=fresh.length:=by omega);rw[Gg]at i7;rw[C9]at i6;have a2:S=(0,H.A8+(fresh.length:Int),E,aF):=i7;subst a2;have aN:Hid (R=if (({H with A8:=H.A8+(fresh.length:Int)}:Ar).ag aF E).1≠0 then ({H with A8:=H.A8+(fresh.length:Int)}:Ar).ag aF E else (({H with A8:=H.A8+(fresh.length:Int)}:Ar).ag aF E).2.1.aZ (({H with A8:=H.A8+(fresh.length:Int)}:Ar).ag aF E).2.2):=by
    unfold Hid;rw[a3.o,Ac (by simp)]
   obtain⟨A2,aL⟩:∃A2:Ar,({H with A8:=H.A8+(fresh.length:Int)}:Ar)=A2:=⟨_,rfl⟩;(have b5:A2.ix=A.ix:=by rw[<-aL];exact e1.o);(have ej:A2.j=A.j:=by rw[<-aL];exact e2.o);rw[aL]at aN i5;obtain⟨c1,aX,⟨r1,aW⟩,l1,s1⟩:=i5;obtain⟨n1,n2,n3,n4,n5,n6⟩:=bB.o;have bF:∀k,(FT k\/(Value.slice ka kept.length z).ownBlock=some k)->B<=k:=λk hk=>hk.elim (b9.o k) λh=>(a0.o k h).2
   have cZ:=eE.o.ak c1 bF;have aA:=aO.o;(have a9:E.length<=134217728:=by have:=cX.o;omega);have b4:=A1 (A2a wr r1 (.slice ap E.length cp) E (Dw.rd i1) (λg I=>aW g I) (by rw[ej];exact n6) (λx W=>by have:=i4 x W;exact⟨by have:=this.1;omega,this.2.1⟩) a9 i6 ⟨by have:=aA.a;omega,by have:=aA.c;omega,by have:=aA.m;omega⟩ cZ);have aV:Hid (Fit (A2.ag aF E).2.2 (a+fresh.length+2) (c+a+fresh.length+2) (m+17*Da fresh+4*fresh.length+12+8*E.length)):=i6.cw E;have bW:=A2h A2 aF E;have aJ:Hid ((∀n∈(A2.ag aF E).2.1.ix.segs,CD n)/\(A2.ag aF E).2.1.ix.segs.length<=1073741824):=by
    rcases bW.1 with h|h
    ·rw[h,b5];exact⟨n1,n4⟩
    ·rw[h];exact⟨i4,by omega⟩
   have aK:Hid ((∀n∈(A2.ag aF E).2.1.j.Aj,CD n)/\(A2.ag aF E).2.1.j.Aj.length<=1073741824):=by
    rcases bW.2 with h|h
    ·rw[h,ej];exact⟨n2,n5⟩
    ·rw[h];exact⟨λn hn=>by simp at hn,by simp⟩
   obtain⟨T,hT⟩:∃T,A2.ag aF E=T:=⟨_,rfl⟩;rw[hT]at aN b4 aV aJ aK;have aD:Hid (∀w2 bO bX,Ap wr (λk=>aX k\/(Value.slice ap E.length cp).ownBlock=some k) w2 (λw' d=>AD w' ab b bO bX d)->Ap w (λk=>FT k\/(Value.slice ka kept.length z).ownBlock=some k) w2 (λw' d=>AD w' ab b bO bX d)):=λw2 bO bX h2=>
    Ap.a8 c1 (λk hk=>hk.elim (λh=>s1 k h) λh=>(i3 k h).imp (λh=>.inr h) id) h2
   have dU:Hid (∀w2,A3 (λk=>FT k\/(Value.slice ka kept.length z).ownBlock=some k) w w2->Lets B w2):=λw2 h2=>eE.o.ak h2 bF;have dJ:=A1 i2;(have dV:¬((fresh.length:Int)<(fresh.length:Int)):=by omega);obtain⟨eK,eS,eQ⟩:=T;dsimp only at aN b4 aV aJ aK;clear hI i1 i2 i3 i4 i6 i7 aL b5 ej c1 r1 aW l1 s1 n1 n2 n3 n4 n5 n6 bF cZ aA bW hT a3 eR cG a9;by_cases ht:eK=0
   case neg=>
    (have aG:R=(eK,eS,eQ):=by rw[aN.o,Af ht]);subst aG;(have htb:(eK !=0)=true:=by simpa using ht);go_wp2_with (go_at_call 112;refine b4.m ?_;rintro e w6⟨rfl,cI⟩;have dT:=A1 (aD.o w6 _ _ cI);clear cI);go_ret;exact⟨rfl,dT.o⟩
   case pos=>
    subst ht;(have aG:R=eS.aZ eQ:=by rw[aN.o,Ac (by simp)]);have cD:=A1 aG;clear aG aN;go_wp2_with (fail);refine b4.m ?_;rintro e w6⟨rfl,dE⟩;have dY:=aD.o w6 _ _ dE;obtain⟨c6,eV,r6,l6,s6⟩:=dY;have k7:A3 Aa w6 (w6.aC #[.func (Fn.func 110) #[A5 ab] #[],.func (Fn.func 71) #[A5 b] #[]] 41):=(A3.I _ w6).aj _;have aA:=aO.o;have dX:=A1 (A1K _ w6.heap.size (r6.aJ k7) (λk hk=>Bm (l6 k hk) k7.Ak) (λW=>FQ _ (l6 _ W)) (by simp) (BK w6 _) aV.o ⟨by have:=aA.a;omega,by have:=aA.c;omega,by have:=aA.m;have:=dJ.o;omega⟩ aJ.o.1 aK.o.1 aJ.o.2 aK.o.2 ((dU.o w6 c6).aS k7));rw[<-cD.o]at dX;have g0:=r6.bw.1;have cN:Hid (∀w9,Ap (w6.aC #[.func (Fn.func 110) #[A5 ab] #[],.func (Fn.func 71) #[A5 b] #[]] 41) eV w9 (λw' d=>AD w' ab b R.2.1 R.2.2 d)->Ap w (λk=>FT k\/(Value.slice ka kept.length z).ownBlock=some k) w9 (λw' d=>AD w' ab b R.2.1 R.2.2 d)):=λw9 h9=>Ap.a8 c6 s6 (h9.a7 k7);clear cD;obtain⟨Z1,Z2,Z3⟩:=R;dsimp only at dX cN ⊢;clear dE c6 r6 l6 s6 k7 aA b4 aD;go_wp2_with (go_at_call 68;refine dX.m ?_;rintro e w9⟨rfl,cE⟩;have dM:=A1 (cN.o w9 cE);clear cE);go_ret;exact⟨rfl,dM.o⟩
end
end
end Go.Proofs.YtodcnkbblippnabGreatDoor
