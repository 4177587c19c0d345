/- Part 16 of a proof: walks of the program. -/
import Derived.Test.YtodcnkbblippnaaGreatDoorPk15
namespace Go.Proofs.YtodcnkbblippnaaGreatDoor
set_option maxRecDepth 100000
set_option maxHeartbeats 32000000
set_option linter.defProp false
open Go.Proofs.Tryz
section
open Go.RowKit
attribute [local go_sem ↓] CJ
def Tryz.fM:(Tryz.prog.info? 9).map (λi=>(i.zero,i.size,i.bytes))=some (some (.string ⟨#[]⟩),1,16):=by kernel_rfl
def Xg:∃d,Tryz.prog.info? 9=some d/\d.zero=some (.string ⟨#[]⟩)/\d.size=1/\d.bytes=16:=by
 have h:=Tryz.fM;cases hx:Tryz.prog.info? 9 with
 | none=>rw[hx]at h;cases h
 | some i=>rw[hx]at h;simp at h;exact⟨i,rfl,h.1,h.2.1,h.2.2⟩
def JQ(l:List Bs):List Bs:=l.mergeSort λx y=>decide (x<=y)
def A1D(l:List Bs):(JQ l).Pairwise λa b=>¬b<a:=by
 have h:=Vu (le:=λx y:Bs=>decide (x<=y)) (λa b c E z=>by simp at E z ⊢;exact List.le_trans E z) (λa b=>by simp;exact List.le_total a b) l;exact h.imp λd=>by simpa using d
def TW(l:List Bs)(x:Bs):x∈JQ l↔x∈l:=A4j
def A1C(l:List Bs):(JQ l).length=l.length:=Nh _
section
variable {w:World} {ab b xb jb B:Nat} {sv ov lv jo:Value} {A:Ar} {P:PD} {Ft FT:Nat->Prop} {a c m:Nat}
def Ip{w:World}{e W size z n n2 E d:Nat}{v v2:Value}{xs L:List Value}(h:w.ownsRow E e size v n xs)(Y:w.ownsRow d W z v2 n2 L)(H:e≠W){g:Nat}(hg:v.ownBlock=some g):¬v2.ownBlock=some g:=λI=>by
 obtain⟨c,hc⟩:=Be h hg;obtain⟨c2,O⟩:=Be Y I;exact BT hc O H rfl
def Sh(w:World)(h:Cn w ab b xb jb sv ov lv jo A P Ft)(hF:Fit P a c m)(hl:CU a c m)(hn:∀n∈A.ix.segs,CM n)(dG:∀n∈A.j.Am,CM n)(hsl:A.ix.segs.length<=1073741824)(dF:A.j.Am.length<=1073741824)(hL:Lets B w):
 Af 100 #[A5 ab] w λe w'=>∃v1 v2,e=.returned (.tuple #[v1,v2])/\Dp w' v1 (A.aY P)/\Dp w' v2 (A.aV P)/\(∀g,v1.ownBlock=some g->w.heap.size<=g)/\(∀g,v2.ownBlock=some g->w.heap.size<=g)/\A3 Ab w w':=by
 obtain⟨i0,hi,aV,aZ,aX⟩:=Xg;have cF:=A1 h;have cL:Hid (∀I k n,A3 Ab w I->1<=k/\k<=4->CM n->Af 134 #[A0 (k:Nat),A0 n] I λe w'=>e=.returned (.string ⟨(BP k n).toArray⟩)/\A3 Ab I w'):=λI k n hc hk hn=>Mm (n:=n) I k hk ⟨by have:=hn.1;omega,hn.2.1⟩ hn.2.2 (hL.aM hc);have dJ:=A1 (cL.o w 3 0 (A3.I _ w) (by omega) (HH (by omega) (by omega)));have dL:Hid (∀I,A3 Ab w I->Af 136 #[A5 jb] I λe w'=>∃v,e=.returned v/\DD w' v A.j.Am/\(∀g,v.ownBlock=some g->I.heap.size<=g)/\A3 Ab I w'):=λI hc=>ZR I (h.jn.au hc) dF;have dK:Hid (∀I,A3 Ab w I->Af 76 #[A5 b] I λe w'=>∃v,e=.returned v/\Dp w' v P.Ay/\A3 Ab I w'/\(∀g,v.ownBlock=some g->I.heap.size<=g)):=λI hc=>OO (B3.ay h.dk h.lt hc) hF hl;have dC:P.Ay.length<=1073741824:=by rw[KV];exact AR hF.A4 hl.a
 have aL:Hid (A.Ay=[AL]++A.j.Am.map Ah++A.ix.segs.map AJ):=rfl;have bL:Hid (A.aY P=P.Ay.filter λnm=>decide (nm∈A.Ay)):=rfl;have bF:Hid (A.aV P=P.Ay.filter λnm=>!decide (nm∈A.Ay)):=rfl;have cX:=A1 hn;have cQ:=A1 dG;obtain⟨dN,cA⟩:∃x,A.aY P=x:=⟨_,rfl⟩;obtain⟨dM,bV⟩:∃x,A.aV P=x:=⟨_,rfl⟩;obtain⟨E,bG⟩:∃x,A.Ay=x:=⟨_,rfl⟩;rw[cA,bG]at bL;rw[bV,bG]at bF;rw[bG]at aL;rw[cA,bV];have b2:E.length<=4294967296:=by rw[aL.o];simp;omega
 have b4:=h.segs;generalize hns:P.Ay=ns at *;generalize hlgs:A.j.Am=lgs at *;generalize hss:A.ix.segs=ss at *;obtain⟨sa,scap,rfl,sc1,cT⟩:=b4.Cg;unfold maxLen at cT;have cS:=A1 b4
 go_enter func100,ntmps100
 go_wp2_with (fail);refine dJ.o.mono ?_;rintro e I⟨rfl,b1⟩;have e3:BP ((3:Nat):Int) 0=AL:=rfl;rw[e3];have bH:A3 Ab w (I.alloc (.cells #[.string ⟨AL.toArray⟩] 9)):=b1.ai _;have a2:=((cF.o.au bH).Ag).c2;have a6:Hid (Dp (I.alloc (.cells #[.string ⟨AL.toArray⟩] 9)) (.slice (some (Ac I.heap.size 0)) 1 1) [AL]):=
  ⟨rfl,.inr ⟨I.heap.size,1,_,rfl,Cq _,BO I _,As _,by decide,rfl,rfl⟩⟩
 have cN:=A1 (dL.o _ bH);have cZ:=A1 bH;have cI:=A1 <| b1.Ao;go_wp2_with (fail);refine cN.o.mono ?_;rintro e w2⟨v,rfl,hv,dD,aW⟩;obtain⟨la,bQ,rfl,lc1,cM⟩:=(DD.rd hv).Cg;unfold maxLen at cM;have dH:=A1 hv;have HLO:=A1 dD;have cV:=A1 <| cZ.o.Aw aW λ_ h _=>h;have bA:Hid (Dp w2 (.slice (some (Ac I.heap.size 0)) 1 1) [AL]):=Az a6.o λg d=>aW.Ap g (AI a6.o d) (λh=>h);go_wp2;go_loopw [4,23] (λv iv wr=>∃k:Nat,iv=A0 k/\k<=lgs.length/\Hid (Dp wr v ([AL]++(lgs.take k).map Ah)/\(∀g,v.ownBlock=some g->w.heap.size<=g)/\A3 Ab w wr/\DD wr (.slice la lgs.length bQ) lgs)) (λ_ iv _=>lgs.length-(intOf iv).toNat)
 case atStart=>exact⟨0,rfl,by omega,by simpa using bA.o,λg d=>by simp[Value.ownBlock]at d;have:=cI.o;omega,cV.o,dH.o⟩
 case round=>
  obtain⟨k,rfl,hk,hI⟩:=hrel;obtain⟨i1,i2,i3,i4⟩:=hI.o;obtain⟨ap,cp,rfl,aP,aI,-⟩:=B9 i1;unfold maxLen at aI;by_cases H:k<lgs.length
  ·obtain⟨g,o,rfl,d1⟩:=D7.at (DD.rd i4) k H;have aB:=cQ.o _ (BY H);have Y:=DB H;generalize bR:(lgs[k]'H)=n at d1 aB Y;have aA:=A1 (cL.o wr 1 n i3 (by omega) aB);rw[show ((1:Nat):Int)=1 from rfl]at aA;(have aF:Hid ([AL]++(lgs.take (k+1)).map Ah=([AL]++(lgs.take k).map Ah)++[Ah n]):=by unfold Hid;rw[Y];simp);have bD:BP 1 n=Ah n:=rfl;rw[bD]at aA;(have bO:([AL]++(lgs.take k).map Ah).length<=4294967296:=by simp;omega);generalize W:[AL]++(lgs.take k).map Ah=z at i1 i2 aF bO aP;have bN:=A1 bO;(have el:([AL]++(lgs.take k).map Ah).length=z.length:=by rw[W])
   try rw[el]
   generalize b7:Ah n=nm at aA aF;have bX:=A1 i1;have cE:=A1 i2;have cD:=A1 i3;have dB:=A1 i4;(have aO:(k:Int)<(lgs.length:Int):=by omega);have b0:(0:Int)<=(k:Int):=Gv _;go_wp2_with (fail);refine aA.o.mono ?_;rintro e w6⟨rfl,aQ⟩;have bU:=A1 aQ;have O:Hid ((w6.alloc (.cells #[.string ⟨nm.toArray⟩] 9)).ownsRow 0 9 1 (.slice ap z.length cp) z.length (Dl z)):=Az bX.o λg d=>(aQ.ai _).Ap g (AI bX.o d) (λh=>h)
   have aH:=A1 (Src.bb (size:=1) (B:=w6.heap.size) underlying121 w6 #[.string ⟨nm.toArray⟩] 9 (by simp) 1 1 rfl (MS [nm]));go_wp2_with (at_builtin;refine D5 rfl (.tmp 27) (.tmp 30) 121 121 rfl 9 i0 _ 1 16 underlying121 hi aV aZ aX rfl (by decide) (.slice ap z.length cp) z.length (Dl z) (by rfl) O.o _ 1 _ (by rfl) aH.o (by have:=bN.o;omega) ?_;intro a8 aE w8 L;have bC:=A1 L);go_roundw
   case rel=>
    have L:=bC.o;have k7:A3 Ab wr (w6.alloc (.cells #[.string ⟨nm.toArray⟩] 9)):=bU.o.ai _;have aG:=L.Ak (S:=λk=>(Value.slice ap z.length cp).ownBlock=some k) λ_ h=>h;have k8:A3 (λk=>(Value.slice ap z.length cp).ownBlock=some k) wr w8:=(k7.aa λ_ _ h=>h.elim).Aw aG λ_ h _=>h;(have e:(z++[nm]).length=z.length+1:=by simp);have e2:Dl (z++[nm])=Dl z++Dl [nm]:=MT _ _;refine⟨k+1,by go_num,by omega,?_,?_,?_,?_⟩
    ·rw[aF.o];unfold Dp;rw[e,e2];exact L.AB
    ·intro g d;rcases L.Ck with h|h
     ·rw[h]at d;exact cE.o g d
     ·rw[h]at d;cases d;have:=cD.o.Ao;have:=k7.Ao;have:=bU.o.Ao;omega
    ·exact cD.o.Aw k8 λy hy aU=>by have:=cE.o y hy;omega
    ·exact Az dB.o λg d=>k8.Ap g (AI dB.o d) (Ip dB.o bX.o (by decide) d)
   case measure=>simp[intOf];omega
  ·(obtain rfl:k=lgs.length:=by omega);rw[Cl]at i1 i2;(have aO:¬((lgs.length:Int)<(lgs.length:Int)):=by omega);obtain⟨z,W⟩:∃z,[AL]++lgs.map Ah=z:=⟨_,rfl⟩;(have el:([AL]++(lgs.take lgs.length).map Ah).length=z.length:=by rw[Cl,W]);rw[W]at i1 i2;rw[W]at aL
   try rw[el]
   have bX:=A1 i1;have cE:=A1 i2;have cD:=A1 i3;have a1:=(cF.o.au i3).Ag.c1;have x4:=(cF.o.au i3).ix.c4;have HCUR:=A1 W;go_wp2;(have bO:z.length+ss.length<=4294967296:=by have:=b2;rw[aL.o]at this;simpa using this);go_loopw [4,41] (λv iv wr=>∃k:Nat,iv=A0 k/\k<=ss.length/\Hid (Dp wr v (z++(ss.take k).map AJ)/\(∀g,v.ownBlock=some g->w.heap.size<=g)/\A3 Ab w wr)) (λ_ iv _=>ss.length-(intOf iv).toNat)
   case atStart=>exact⟨0,rfl,by omega,by simpa using bX.o,cE.o,cD.o⟩
   case round=>
    obtain⟨k,rfl,hk,hI⟩:=hrel;obtain⟨i1,i2,i3⟩:=hI.o;obtain⟨aJ,aK,rfl,bB,bE,-⟩:=B9 i1;unfold maxLen at bE;by_cases H:k<ss.length
    ·obtain⟨g,o,rfl,d0⟩:=D7.at cS.o k H;have d1:=i3.ao d0;have aB:=cX.o _ (BY H);have Y:ss.take (k+1)=ss.take k++[ss[k]'H]:=DB H;generalize bR:(ss[k]'H)=n at d0 d1 aB Y;have aA:=A1 (cL.o wr 2 n i3 (by omega) aB);rw[show ((2:Nat):Int)=2 from rfl]at aA;(have aF:Hid (z++(ss.take (k+1)).map AJ=(z++(ss.take k).map AJ)++[AJ n]):=by unfold Hid;rw[Y];simp);have bD:BP 2 n=AJ n:=rfl;rw[bD]at aA;(have a4:(z++(ss.take k).map AJ).length<=4294967296:=by simp;omega);generalize dE:z++(ss.take k).map AJ=cu at i1 i2 aF a4 bB;have bN:=A1 a4;(have el:(z++(ss.take k).map AJ).length=cu.length:=by rw[dE])
     try rw[el]
     generalize b7:AJ n=nm at aA aF;have aS:=A1 i1;have aM:=A1 i2;have aT:=A1 i3;(have aO:(k:Int)<(ss.length:Int):=by omega);have b0:(0:Int)<=(k:Int):=Gv _;go_wp2_with (fail);refine aA.o.mono ?_;rintro e w6⟨rfl,aQ⟩;have bU:=A1 aQ;have O:Hid ((w6.alloc (.cells #[.string ⟨nm.toArray⟩] 9)).ownsRow 0 9 1 (.slice aJ cu.length aK) cu.length (Dl cu)):=Az aS.o λg d=>(aQ.ai _).Ap g (AI aS.o d) (λh=>h)
     have aH:=A1 (Src.bb (size:=1) (B:=w6.heap.size) underlying121 w6 #[.string ⟨nm.toArray⟩] 9 (by simp) 1 1 rfl (MS [nm]));go_wp2_with (at_builtin;refine D5 rfl (.tmp 45) (.tmp 48) 121 121 rfl 9 i0 _ 1 16 underlying121 hi aV aZ aX rfl (by decide) (.slice aJ cu.length aK) cu.length (Dl cu) (by rfl) O.o _ 1 _ (by rfl) aH.o (by have:=bN.o;omega) ?_;intro a8 aE w8 L;have bC:=A1 L);go_roundw
     case rel=>
      have L:=bC.o;have k7:A3 Ab wr (w6.alloc (.cells #[.string ⟨nm.toArray⟩] 9)):=bU.o.ai _;have aG:=L.Ak (S:=λk=>(Value.slice aJ cu.length aK).ownBlock=some k) λ_ h=>h;have k8:A3 (λk=>(Value.slice aJ cu.length aK).ownBlock=some k) wr w8:=(k7.aa λ_ _ h=>h.elim).Aw aG λ_ h _=>h;(have e:(cu++[nm]).length=cu.length+1:=by simp);have e2:Dl (cu++[nm])=Dl cu++Dl [nm]:=MT _ _;refine⟨k+1,by go_num,by omega,?_,?_,?_⟩
      ·rw[aF.o];unfold Dp;rw[e,e2];exact L.AB
      ·intro g d;rcases L.Ck with h|h
       ·rw[h]at d;exact aM.o g d
       ·rw[h]at d;cases d;have:=aT.o.Ao;have:=k7.Ao;have:=bU.o.Ao;omega
      ·exact aT.o.Aw k8 λy hy aU=>by have:=aM.o y hy;omega
     case measure=>simp[intOf];omega
    ·(obtain rfl:k=ss.length:=by omega);rw[Cl,<-aL.o]at i1 i2;(have aO:¬((ss.length:Int)<(ss.length:Int)):=by omega);(have el:(z++(ss.take ss.length).map AJ).length=E.length:=by rw[Cl,aL.o])
     try rw[el]
     have dO:=A1 (Xp wr _ E i1 (by omega));have aM:=A1 i2;have aT:=A1 i3;go_wp2_with (fail);refine dO.o.mono ?_;rintro e w3⟨rfl,cH,aW⟩;(have dA:Hid (A3 Ab w w3):=aT.o.Aw aW λy hy aU=>by have:=aM.o y hy;omega);have cY:Hid (GG w3 (.slice aJ E.length aK) (JQ E)):=Dp.rd cH;have cP:=A1 (dK.o w3 dA.o);have a0:=(cF.o.au dA.o).Ag.c0;go_wp2_with (fail);refine cP.o.mono ?_;rintro e w4⟨v,rfl,bW,b3,hvo4⟩;obtain⟨na,ncap,rfl,nc1,cO⟩:=(Dp.rd bW).Cg;unfold maxLen at cO;have cU:=A1 (Dp.rd bW);have cJ:Hid (A3 Ab w w4):=dA.o.Aw b3 λ_ h _=>h;have bI:=A1 (cY.o.Ak b3 (λ_ _ h=>h));have a7:Hid (∀x,decide (x∈JQ E)=decide (x∈E)):=λx=>by
      by_cases h:x∈E
      ·rw[CE h,CE ((TW E x).2 h)]
      ·rw[D2 h,D2 λh'=>h ((TW E x).1 h')]
     have a9:=A1D E;have a5:=A1C E;generalize hSN:JQ E=SN at bI a7 a9 a5;have bZ:=A1 a9;obtain⟨sn,bY⟩:∃sn,E.length=sn:=⟨_,rfl⟩
     try rw[bY]
     rw[bY]at bI a5;(have hsnl:sn<=4294967296:=by omega);have dI:Hid (∀wx x,A3 Ab w4 wx->Af 138 #[.slice aJ sn aK,.string ⟨x.toArray⟩] wx λe w'=>∃i,e=.returned (.tuple #[A0 i,.bool (decide (x∈E))])/\∃q,w'=wx.drewN q):=λwx x hx=>by
      have:=A3b wx _ SN x (bI.o.Ak hx (λ_ _ h=>h)) (by omega) bZ.o;rw[a7.o x]at this;exact this
     have bT:ns.length<=1073741824:=dC;have cB:Hid (∀p:Bs->Bool,∀k,((ns.take k).filter p).length<=1073741824):=λp k=>AR (Jg _ _) (AR (List.length_take_le' _ _) bT);go_wp2;go_loopw [9,10,59] (λv1 v2 iv wr=>∃k:Nat,iv=A0 k/\k<=ns.length/\Hid (Dp wr v1 ((ns.take k).filter λnm=>decide (nm∈E))/\Dp wr v2 ((ns.take k).filter λnm=>!decide (nm∈E))/\(∀g,v1.ownBlock=some g->w4.heap.size<=g)/\(∀g,v2.ownBlock=some g->w4.heap.size<=g)/\(∀g,v1.ownBlock=some g->¬v2.ownBlock=some g)/\A3 Ab w4 wr)) (λ_ _ iv _=>ns.length-(intOf iv).toNat)
     case atStart=>exact⟨0,rfl,by omega,CL _ _ _ _,CL _ _ _ _,λg d=>by simp[Value.ownBlock]at d,λg d=>by simp[Value.ownBlock]at d,λg d=>by simp[Value.ownBlock]at d,A3.I _ _⟩
     case round=>
      obtain⟨k,rfl,hk,hI⟩:=hrel;obtain⟨i1,i2,i3,i4,i5,i6⟩:=hI.o;obtain⟨ap,cp,rfl,aP,aI,-⟩:=B9 i1;obtain⟨aq,cq,rfl,hcaq1,bK,-⟩:=B9 i2;unfold maxLen at aI bK;by_cases H:k<ns.length
      ·obtain⟨g,o,rfl,d0⟩:=GG.at cU.o k H;have d1:=i6.ao d0;have Y:ns.take (k+1)=ns.take k++[ns[k]'H]:=DB H;generalize bR:(ns[k]'H)=nm at d0 d1 Y;have aY:=A1 (dI.o wr nm i6);have aR:Hid ((ns.take (k+1)).filter (λnm=>decide (nm∈E))=(ns.take k).filter (λnm=>decide (nm∈E))++(if nm∈E then [nm] else [])):=by
        unfold Hid;rw[Y,LH];by_cases hx:nm∈E<;>simp[hx]
       have aN:Hid ((ns.take (k+1)).filter (λnm=>!decide (nm∈E))=(ns.take k).filter (λnm=>!decide (nm∈E))++(if nm∈E then [] else [nm])):=by
        unfold Hid;rw[Y,LH];by_cases hx:nm∈E<;>simp[hx]
       have b6:=A1 (cB.o (λnm=>decide (nm∈E)) k);have b8:=A1 (cB.o (λnm=>!decide (nm∈E)) k);obtain⟨l1,bS⟩:∃l1,(ns.take k).filter (λnm=>decide (nm∈E))=l1:=⟨_,rfl⟩;obtain⟨l2,b9⟩:∃l2,(ns.take k).filter (λnm=>!decide (nm∈E))=l2:=⟨_,rfl⟩;rw[bS]at aR b6 i1 i3 i5;rw[b9]at aN b8 i2 i4 i5;(have bM:((ns.take k).filter (λnm=>decide (nm∈E))).length=l1.length:=by rw[bS]);(have bJ:((ns.take k).filter (λnm=>!decide (nm∈E))).length=l2.length:=by rw[b9])
       try rw[bM]
       try rw[bJ]
       have aS:=A1 i1;have aM:=A1 i2;have aT:=A1 i3;have cC:=A1 i4;have cG:=A1 i5;have bP:=A1 i6;(have aO:(k:Int)<(ns.length:Int):=by omega);have b0:(0:Int)<=(k:Int):=Gv _;by_cases hx:nm∈E
       ·rw[CE hx]at aY;rw[Ai hx]at aR aN;go_wp2_with (fail);refine aY.o.mono ?_;rintro e w6⟨i,rfl,q,rfl⟩;have O:Hid (((wr.drewN q).alloc (.cells #[.string ⟨nm.toArray⟩] 9)).ownsRow 0 9 1 (.slice ap l1.length cp) l1.length (Dl l1)):=Az aS.o λg d=>(((A3.I Ab wr).ba q).ai _).Ap g (AI aS.o d) (λh=>h)
        have aH:=A1 (Src.bb (size:=1) (B:=(wr.drewN q).heap.size) underlying121 (wr.drewN q) #[.string ⟨nm.toArray⟩] 9 (by simp) 1 1 rfl (MS [nm]));have b5:Hid (A3 Ab wr ((wr.drewN q).alloc (.cells #[.string ⟨nm.toArray⟩] 9))):=((A3.I Ab wr).ba q).ai _;go_wp2_with (at_builtin;refine D5 rfl (.tmp 70) (.tmp 72) 121 121 rfl 9 i0 _ 1 16 underlying121 hi aV aZ aX rfl (by decide) (.slice ap l1.length cp) l1.length (Dl l1) (by rfl) O.o _ 1 _ (by rfl) aH.o (by have:=b6.o;omega) ?_;intro a8 aE w8 L;have bC:=A1 L);go_roundw
        case rel=>
         have L:=bC.o;have aG:=L.Ak (S:=λk=>(Value.slice ap l1.length cp).ownBlock=some k) λ_ h=>h;have k8:A3 (λk=>(Value.slice ap l1.length cp).ownBlock=some k) wr w8:=(b5.o.aa λ_ _ h=>h.elim).Aw aG λ_ h _=>h;(have e:(l1++[nm]).length=l1.length+1:=by simp);have e2:Dl (l1++[nm])=Dl l1++Dl [nm]:=MT _ _;have aD:∀g,(Value.slice a8 (l1.length+1) aE).ownBlock=some g->(Value.slice ap l1.length cp).ownBlock=some g\/wr.heap.size<=g:=λg d=>by
          rcases L.Ck with h|h
          ·rw[h]at d;exact .inl d
          ·rw[h]at d;cases d;exact .inr b5.o.Ao
         refine⟨k+1,by go_num,by omega,?_,?_,?_,cC.o,?_,?_⟩
         ·rw[aR.o];unfold Dp;rw[e,e2];exact L.AB
         ·rw[aN.o,FA];exact Az aM.o λg d=>k8.Ap g (AI aM.o d) λh=>cG.o g h d
         ·exact λg d=>(aD g d).elim (aT.o g) λh=>AR bP.o.Ao h
         ·exact λg d a3=>(aD g d).elim (λh=>cG.o g h a3) λh=>by have:=AI aM.o a3;omega
         ·exact bP.o.Aw k8 λy hy aU=>by have:=aT.o y hy;omega
        case measure=>simp[intOf];omega
       ·rw[D2 hx]at aY;rw[Ae hx]at aR aN;go_wp2_with (fail);refine aY.o.mono ?_;rintro e w6⟨i,rfl,q,rfl⟩;have O:Hid (((wr.drewN q).alloc (.cells #[.string ⟨nm.toArray⟩] 9)).ownsRow 0 9 1 (.slice aq l2.length cq) l2.length (Dl l2)):=Az aM.o λg d=>(((A3.I Ab wr).ba q).ai _).Ap g (AI aM.o d) (λh=>h)
        have aH:=A1 (Src.bb (size:=1) (B:=(wr.drewN q).heap.size) underlying121 (wr.drewN q) #[.string ⟨nm.toArray⟩] 9 (by simp) 1 1 rfl (MS [nm]));have b5:Hid (A3 Ab wr ((wr.drewN q).alloc (.cells #[.string ⟨nm.toArray⟩] 9))):=((A3.I Ab wr).ba q).ai _;go_wp2_with (at_builtin;refine D5 rfl (.tmp 74) (.tmp 76) 121 121 rfl 9 i0 _ 1 16 underlying121 hi aV aZ aX rfl (by decide) (.slice aq l2.length cq) l2.length (Dl l2) (by rfl) O.o _ 1 _ (by rfl) aH.o (by have:=b8.o;omega) ?_;intro a8 aE w8 L;have bC:=A1 L);go_roundw
        case rel=>
         have L:=bC.o;have aG:=L.Ak (S:=λk=>(Value.slice aq l2.length cq).ownBlock=some k) λ_ h=>h;have k8:A3 (λk=>(Value.slice aq l2.length cq).ownBlock=some k) wr w8:=(b5.o.aa λ_ _ h=>h.elim).Aw aG λ_ h _=>h;(have e:(l2++[nm]).length=l2.length+1:=by simp);have e2:Dl (l2++[nm])=Dl l2++Dl [nm]:=MT _ _;have aD:∀g,(Value.slice a8 (l2.length+1) aE).ownBlock=some g->(Value.slice aq l2.length cq).ownBlock=some g\/wr.heap.size<=g:=λg d=>by
          rcases L.Ck with h|h
          ·rw[h]at d;exact .inl d
          ·rw[h]at d;cases d;exact .inr b5.o.Ao
         refine⟨k+1,by go_num,by omega,?_,?_,aT.o,?_,?_,?_⟩
         ·rw[aR.o,FA];exact Az aS.o λg d=>k8.Ap g (AI aS.o d) λh=>cG.o g d h
         ·rw[aN.o];unfold Dp;rw[e,e2];exact L.AB
         ·exact λg d=>(aD g d).elim (cC.o g) λh=>AR bP.o.Ao h
         ·exact λg d a3=>(aD g a3).elim (λh=>cG.o g d h) λh=>by have:=AI aS.o d;omega
         ·exact bP.o.Aw k8 λy hy aU=>by have:=cC.o y hy;omega
        case measure=>simp[intOf];omega
      ·(obtain rfl:k=ns.length:=by omega);rw[Cl,<-bL.o]at i1 i3;rw[Cl,<-bF.o]at i2 i4;(have bM:((ns.take ns.length).filter (λnm=>decide (nm∈E))).length=dN.length:=by rw[Cl,<-bL.o]);(have bJ:((ns.take ns.length).filter (λnm=>!decide (nm∈E))).length=dM.length:=by rw[Cl,<-bF.o])
       try rw[bM]
       try rw[bJ]
       have aS:=A1 i1;have aM:=A1 i2;have aT:=A1 i3;have cC:=A1 i4;have bP:=A1 i6;(have aO:¬((ns.length:Int)<(ns.length:Int)):=by omega);go_wp2;go_ret2;exact⟨_,_,rfl,aS.o,aM.o,λg d=>AR cJ.o.Ao (aT.o g d),λg d=>AR cJ.o.Ao (cC.o g d),cJ.o.Aw bP.o λ_ h _=>h⟩
end
section
variable {w:World} {ab b xb jb B:Nat} {sv ov lv jo:Value} {A:Ar} {P:PD} {Ft FT:Nat->Prop} {a c m:Nat}
def A13(h:Bk w b P Ft)(nm:Bs)(E:Fit P a c m)(z:CU a c m):
 Af 193 #[A5 b,.string ⟨nm.toArray⟩] w (Aj (A0 (P.aH (A9 nm)).1) λw'=>Aq w Ft w' (λw' d=>Bk w' b (P.aH (A9 nm)).2 d)):=
 Yo h (A9 nm) (by have:=E.A4;have:=E.Ak;have:=z.a;have:=z.c;omega)
def removeAll_cons(nm:Bs)(r:List Bs)(P:PD):PD.aL (nm::r) P=if (P.aH (A9 nm)).1≠0 then P.aH (A9 nm) else PD.aL r (P.aH (A9 nm)).2:=rfl
def Sn(A:Ar)(P:PD)(h:Fit P a c m):(A.aV P).length<=a:=by
 unfold Ar.aV;exact AR (Jg _ _) (by rw[KV];exact h.A4)
def QV(w:World)(h:AD w ab b A P FT)(hF:Fit P a c m)(hl:CU a (c+a) m)(hn:∀n∈A.ix.segs,CM n)(aX:∀n∈A.j.Am,CM n)(aS:A.ix.segs.length<=1073741824)(aV:A.j.Am.length<=1073741824)(hL:Lets B w):
 Af 150 #[A5 ab] w (Aj (A0 (A.av P).1) λw'=>Aq w FT w' (λw' aR=>AD w' ab b A (A.av P).2 aR)):=by
 obtain⟨xb,jb,sv,ov,lv,jo,Ft,hV,aI⟩:=h;have a5:=A1 (Sh w hV hF ⟨hl.a,by have:=hl.c;omega,hl.m⟩ hn aX aS aV hL);have hol:=Sn A P hF;have a1:=A1 hV;have H:=A1 aI;have a2:Hid (A.av P=PD.aL (A.aV P) P):=rfl;have a3:=A1 removeAll_cons;generalize hR:A.av P=R at a2 ⊢;have aZ:=A1 hF;have aE:=A1 hl;generalize A.aV P=os at *
 go_enter func150,ntmps150
 go_wp2_with (fail);refine a5.m ?_;rintro e w1⟨v1,v2,rfl,-,h2,-,aU,aK⟩;obtain⟨oa,ocap,rfl,oc1,a0⟩:=(Dp.rd h2).Cg;unfold maxLen at a0;have aT:=A1 (Dp.rd h2);have aY:=A1 aU;have aG:=A1 aK;have z:=A1 (a1.o.au aK);go_wp2;go_loopw [15] (λiv wr=>∃(k:Nat),iv=A0 k/\k<=os.length/\Hid (∃E,Aq w1 Ft wr (λw' d=>Cn w' ab b xb jb sv ov lv jo A E d)/\Fit E a (c+k) m/\R=PD.aL (os.drop k) E)) (λiv _=>os.length-(intOf iv).toNat)
 case atStart=>exact⟨0,rfl,by omega,P,⟨A3.I _ _,Ft,z.o,z.o.lt,λk hk=>.inl hk⟩,aZ.o,a2.o⟩
 case round=>
  obtain⟨k,rfl,hk,hI⟩:=hrel;obtain⟨E,hi,hf,hx⟩:=hI.o;obtain⟨c1,aH,hv,aO,s1⟩:=hi;by_cases aB:k<os.length
  ·obtain⟨g,o,rfl,d0⟩:=GG.at aT.o k aB;have d1:=c1.bH d0 (λh=>by have:=a1.o.lt _ h;have:=aY.o g rfl;have h':g<w.heap.size:=a1.o.lt _ h;omega);have aJ:=Fy aB;generalize hne:(os[k]'aB)=nm at d0 d1 aJ;rw[aJ,a3.o]at hx;have e0:=hv.Ag.c0;have aN:CU a (c+k) m:=⟨aE.o.a,by have:=aE.o.c;omega,aE.o.m⟩;have aL:=A1 (A13 hv.dk nm hf aN);(have aF:Hid (Fit (E.aH (A9 nm)).2 a (c+(k+1)) m):=by have:=hf.aH (A9 nm);exact this);generalize hY:E.aH (A9 nm)=Y at aL hx aF;have aA:Hid (∀O,Aq wr aH O (λw' d=>Bk w' b Y.2 d)->Aq w1 Ft O (λw' d=>Cn w' ab b xb jb sv ov lv jo A Y.2 d)):=λO h6=>Aq.a7 c1 s1 (hv.b2 h6);have aD:=A1 hx;(have aP:(k:Int)<(os.length:Int):=by omega);have hk0:=C2 k;obtain⟨aM,aQ⟩:=Y;dsimp only at aL aA aD aF;by_cases hy:aM=0
   case neg=>
    (have I:R=(aM,aQ):=by rw[aD.o,Ai hy]);subst I;(have hyb:(aM !=0)=true:=by simpa using hy);go_wp2_with (go_at_call 193;refine aL.m ?_;rintro e O⟨rfl,W⟩;have L:=A1 (aA.o O W));go_ret;exact⟨rfl,(z.o.cE H.o L.o).a6 aG.o⟩
   case pos=>
    subst hy;(have aW:Hid (R=PD.aL (os.drop (k+1)) aQ):=by unfold Hid;rw[aD.o,Ae (by simp)]);go_wp2_with (go_at_call 193;refine aL.m ?_;rintro e O⟨rfl,W⟩;have L:=A1 (aA.o O W));go_roundw
    case rel=>exact⟨k+1,by go_num,by omega,aQ,L.o,aF.o,aW.o⟩
    case measure=>simp[intOf];omega
  ·(obtain rfl:k=os.length:=by omega);rw[Gu]at hx;have I:R=(0,E):=hx;subst I;(have aP:¬((os.length:Int)<(os.length:Int)):=by omega);have a4:Hid (Aq w1 Ft wr (λw' d=>Cn w' ab b xb jb sv ov lv jo A E d)):=⟨c1,aH,hv,aO,s1⟩;go_wp2;go_ret;exact⟨rfl,(z.o.cE H.o a4.o).a6 aG.o⟩
def A05{nm:Bs}{s:Nat}{f0:Int}{E:List Int}(w:World)(h:C5 w xb 162 b nm s f0 sv)(W:D7 w sv E)(I:Value)(l:List Int)(O:D7 w I l)(z:Int):
 Af 198 #[A5 xb,A0 z,I] w (Aj (.bool (decide (f0=z/\E=l))) λw'=>∃q,w'=w.drewN q):=by
 have c3:=h.c3;have c4:=h.c4;have L:=A1 (A1U w sv I E l W O);obtain⟨ka,kcap,rfl,k1,k2⟩:=O.Cg;obtain⟨sa,scap,rfl,s1,s2⟩:=W.Cg;by_cases H:f0=z
 ·subst H;have e:decide (f0=f0/\E=l)=decide (E=l):=by simp
  rw[e];generalize hd:decide (E=l)=d at L ⊢
  go_enter func198,ntmps198
  go_wp2_with (go_at_call 241;refine L.m ?_;rintro e w2⟨rfl,q,rfl⟩);go_ret;exact⟨rfl,q,rfl⟩
 ·have e:decide (f0=z/\E=l)=false:=D2 λh=>H h.1;rw[e];have hb:(f0==z)=false:=by simpa using H
  go_enter func198,ntmps198
  go_wp2;go_ret;exact⟨rfl,0,rfl⟩
def Cn.eG{w':World}{P':PD}{f':Int}{E:Value}{z:List Int}(h:Cn w ab b xb jb sv ov lv jo A P Ft)(W:C5 w' xb 162 b AL (AH AL) f' E)(hr:D7 w' E z)(hI:Jm w Ft xb w' b P')(L:∀g,E.ownBlock=some g->sv.ownBlock=some g\/(g<w.heap.size/\¬Ft g/\¬Ff ab xb jb sv ov lv jo g)):
 ∃I,Cn w' ab b xb jb E ov lv jo {A with ix:=⟨f',z⟩} P' I/\A3 (λk=>Ft k\/k=xb) w w'/\∀k,I k->Ft k\/w.heap.size<=k:=by
 obtain⟨hc,I,h2,h3,h4⟩:=hI;have key:∀k,Ff ab xb jb sv ov lv jo k->k≠xb->w'.heap[k]?=w.heap[k]?:=λk d Y=>hc.Ap k (h.bI d) λW=>W.elim (h.Df k d) Y;have sS:∀g,E.ownBlock=some g->g≠ab/\g≠xb/\¬Dj jb lv jo g:=λg H=>by
  rcases L g H with H|⟨_,_,H⟩
  ·exact h.Fi g H
  ·exact⟨λe=>H (.inl e),λe=>H (.inr (.inl e)),λe=>H (.inr (.inr (.inr (.inr e))))⟩
 refine⟨I,⟨(key ab (.inl rfl) h.ne).trans h.Ag,W,hr,h.AQ.aP λg H=>key g (.inr (.inr (.inr (.inl H)))) (h.G9 g H).2.1,h.jn.aP λk d=>key k (.inr (.inr (.inr (.inr d)))) (h.FJ k d).2,h2,h3,?_,sS,h.G9,h.FJ⟩,hc,h4⟩;intro k d W;rcases h4 k W with O|O
 ·rcases d with d|d|d|d|d
  ·exact h.Df k (.inl d) O
  ·exact h.Df k (.inr (.inl d)) O
  ·rcases L k d with d|⟨_,d,_⟩
   ·exact h.Df k (.inr (.inr (.inl d))) O
   ·exact d O
  ·exact h.Df k (.inr (.inr (.inr (.inl d)))) O
  ·exact h.Df k (.inr (.inr (.inr (.inr d)))) O
 ·have:k<w.heap.size:=by
   rcases d with d|d|d|d|d
   ·exact h.bI (.inl d)
   ·exact h.bI (.inr (.inl d))
   ·rcases L k d with d|⟨d,_⟩
    ·exact h.bI (.inr (.inr (.inl d)))
    ·exact d
   ·exact h.bI (.inr (.inr (.inr (.inl d))))
   ·exact h.bI (.inr (.inr (.inr (.inr d))))
  omega
def Cn.fR{w':World}{lv' I:Value}{Y:Jn}(h:Cn w ab b xb jb sv ov lv jo A P Ft)(hj:DC w' jb b lv' I Y)(hc:A3 (One jb) w w')(L:lv'.ownBlock=none)(O:I=.pointer none):Cn w' ab b xb jb sv ov lv' I {A with j:=Y} P Ft:=by
 have key:∀k,k≠jb->k<w.heap.size->w'.heap[k]?=w.heap[k]?:=λk d hl=>hc.Ap k hl d;have E:∀k,Dj jb lv' I k->k=jb:=λk d=>by
  rcases d with h|h|h
  ·exact h
  ·rw[L]at h;cases h
  ·rw[O]at h;cases h
 have H:Dj jb lv jo jb:=.inl rfl
 refine⟨(key ab (λe=>(h.FJ jb H).1 e.symm) h.Ag.lt).trans h.Ag,(key xb (λe=>(h.FJ jb H).2 e.symm) h.ix.lt).trans h.ix,h.segs.aP λg z=>key g (λe=>(h.Fi g z).2.2 (e ▸ H)) (h.segs.lt z),h.AQ.aP λg z=>key g (λe=>(h.G9 g z).2.2 (e ▸ H)) (h.AQ.lt z),hj,
  B3.aP h.dk λk d=>key k (λe=>by subst e;exact h.Df _ (.inr (.inr (.inr (.inr H)))) d) (h.lt k d),λk d=>Bq (h.lt k d) hc.Ao,?_,λg z=>?_,λg z=>?_,λk d=>?_⟩
 ·intro k d;rcases d with d|d|d|d|d
  ·exact h.Df k (.inl d)
  ·exact h.Df k (.inr (.inl d))
  ·exact h.Df k (.inr (.inr (.inl d)))
  ·exact h.Df k (.inr (.inr (.inr (.inl d))))
  ·rw[E k d];exact h.Df jb (.inr (.inr (.inr (.inr H))))
 ·exact⟨(h.Fi g z).1,(h.Fi g z).2.1,λW=>(h.Fi g z).2.2 (by rw[E g W];exact H)⟩
 ·exact⟨(h.G9 g z).1,(h.G9 g z).2.1,λW=>(h.G9 g z).2.2 (by rw[E g W];exact H)⟩
 ·rw[E k d];exact h.FJ jb H
def A3o(w:World)(h:AD w ab b A P FT)(kv:Value)(l:List Int)(E:D7 w kv l)(aZ:∀g,kv.ownBlock=some g->¬FT g)(hr:AE (A.j.Aa+1))(aT:∀x∈l,AE x)(aU:l.length<=134217728)(hF:Fit P a c m)(hl:CU (a+2) (c+2) (m+12+8*l.length))(hL:Lets B w):
 Af 152 #[A5 ab,kv] w (Aj (A0 (A.ag P l).1) λw'=>Aq w (λk=>FT k\/kv.ownBlock=some k) w' (λw' aS=>AD w' ab b (A.ag P l).2.1 (A.ag P l).2.2 aS)):=by
 obtain⟨xb,jb,sv,ov,lv,jo,Ft,W,aN⟩:=h
 have aM:Hid (A.ag P l=if A.ix.B8=A.j.Aa+1/\A.ix.segs=l then (0,A,P) else
  if (P.ag (A.j.Aa+1) l).1≠0 then ((P.ag (A.j.Aa+1) l).1,A,(P.ag (A.j.Aa+1) l).2) else
  (0,{A with ix:=⟨A.j.Aa+1,l⟩,j:=⟨[],A.j.Aa,0,none⟩},(P.ag (A.j.Aa+1) l).2)):=rfl
 have aX:Hid (∀w1,A3 Ab w w1->_):=λw1 hc=>SR w1 (W.jn.au hc) hr;have aK:Hid (∀w1,A3 Ab w w1->_):=λw1 hc=>A05 w1 (W.ix.aj hc (λh=>h)) (W.segs.Ak hc (λ_ _ h=>h)) kv l (E.Ak hc (λ_ _ h=>h)) (A.j.Aa+1);have aR:Hid (∀w1,A3 Ab w w1->_):=λw1 hc=>WG w1 (A.j.Aa+1) A.ix.B8 kv sv l (W.ix.aj hc (λh=>h)) (B3.ay W.dk W.lt hc) (λk E=>Bq (W.lt k E) hc.Ao) (W.Df xb (.inr (.inl rfl))) hF hl (hL.aM hc) (E.Ak hc (λ_ _ h=>h)) hr aT aU;obtain⟨ka,H,rfl,k1,k2⟩:=E.Cg;have a1:=A1 W;have d:=A1 aN;have a2:=A1 E;have aL:=A1 aZ;generalize hR:A.ag P l=R at aM ⊢;generalize hT:P.ag (A.j.Aa+1) l=T at aM aR;generalize hLL:A.j.Aa+1=L at aM aX aK aR;have HB:=A1 W.Ag;have d1:=W.Ag.af.c1;have d2:=W.Ag.af.c2;have aO:=A1 (aX.o w.drew (A3.I _ w).af);by_cases z:A.ix.B8=L/\A.ix.segs=l
 case pos=>
  have aA:R=(0,A,P):=by rw[aM.o,Ai z]
  subst aA;rw[CE z]at aK;have aF:=A1 (aK.o w.drew (A3.I _ w).af)
  go_enter func152,ntmps152
  go_wp2;refine BR (λw'=>A7 w' ab 1 (A5 xb)/\A7 w' ab 2 (A5 jb)) 10
   (Br [0,1,2,3,4,5,6,7,9,8] [8]) ⟨d1,d2⟩ ?_
  iterate 9 (refine Bf ?_;(try simp only[An]))
  refine Bn λK hK=>?_;go_simp;refine aO.m ?_;rintro e w3⟨rfl,rfl⟩;refine hK _ _ ⟨d1,d2⟩ (λhS=>?_)
  (try simp only[An])
  refine Bl ?_;simp only[BK,BJ];go_wp2_with (go_at_call 198;refine aF.m ?_;rintro e w4⟨rfl,q,rfl⟩);go_ret;have kq:=(A3.I Ab w).ba (1+q);exact⟨rfl,Cn.bN (FT:=λk=>FT k\/(Value.slice ka l.length H).oB k) (a1.o.au kq) kq (λ_ _ h=>h.elim) (λk E=>.inl (.inl (d.o k (.inl E)))) λk E=>.inl (.inl (d.o k (.inr E)))⟩
 case neg=>
  rw[D2 z]at aK;have aF:=A1 (aK.o w.drew (A3.I _ w).af);have aH:Hid (R=if T.1≠0 then (T.1,A,T.2) else (0,{A with ix:=⟨L,l⟩,j:=⟨[],A.j.Aa,0,none⟩},T.2)):=by unfold Hid;rw[aM.o,Ae z]
  go_enter func152,ntmps152
  go_wp2;refine BR (λw'=>A7 w' ab 1 (A5 xb)/\A7 w' ab 2 (A5 jb)) 10
   (Br [0,1,2,3,4,5,6,7,9,8] [8]) ⟨d1,d2⟩ ?_
  iterate 9 (refine Bf ?_;(try simp only[An]))
  refine Bn λK hK=>?_;go_simp;refine aO.m ?_;rintro e w3⟨rfl,rfl⟩;refine hK _ _ ⟨d1,d2⟩ (λhS=>?_)
  (try simp only[An])
  refine Bl ?_;simp only[BK,BJ];go_wp2_with (fail);refine aF.m ?_;rintro e w4⟨rfl,q,rfl⟩;have k4:A3 Ab w (w.drewN (1+q)):=(A3.I Ab w).ba (1+q);have a3:=a1.o.au k4;have x1:=a3.Ag.af.c1;have x2:=a3.Ag.af.c2;have Y:=A1 (a1.o.au k4.af);have aG:=A1 k4.af;have aB:=A1 (aR.o _ k4.af);have aE:=A1 (aX.o _ k4.af);go_wp2;generalize w.drewN (1+q)=w4 at Y aG aB aE x1 x2 ⊢;obtain⟨aY,a4⟩:=T;dsimp only at aB aH;have aD:Hid (ab≠xb/\¬Ft ab):=⟨Y.o.ne,Y.o.Df ab (.inl rfl)⟩;by_cases ht:aY=0
  case neg=>
   (have aA:R=(aY,A,a4):=by rw[aH.o,Ai ht]);subst aA;(have htb:(aY !=0)=true:=by simpa using ht);refine BR (λw'=>A7 w' ab 1 (A5 xb)/\A7 w' ab 2 (A5 jb)) 11
    (Br [0,1,2,3,4,5,6,7,9,8,10] [8,10]) ⟨x1,x2⟩ ?_
   iterate 9 (refine Bf ?_;(try simp only[An]))
   refine Bn λK hK=>?_;go_simp;refine aE.m ?_;rintro e w3⟨rfl,rfl⟩;refine hK _ _ ⟨x1,x2⟩ (λhS=>?_)
   (try simp only[An])
   refine Bn λK hK=>?_;go_simp;refine aB.m ?_;rintro e w6⟨rfl,hx,hI⟩;have b6:D4 w6 ab b xb jb A.Aa ov:=Y.o.Ag.aj hI.1 λh=>h.elim aD.o.2 aD.o.1;refine hK _ _ ⟨b6.c1,b6.c2⟩ (λhS=>?_);rw[Ae ht,Ae ht]at hx;have aP:=A1 (Y.o.eG hx (Y.o.segs.aP λg I=>hI.1.Ap g (Y.o.segs.lt I) λh=>h.elim (Y.o.Df g (.inr (.inr (.inl I)))) (Y.o.Fi g I).2.1) hI λg I=>.inl I)
   (try simp only[An])
   refine Bl ?_;simp only[BK,BJ];go_wp2;go_ret;obtain⟨aJ,h1,h2,h3⟩:=aP.o;have aW:A3 (λk=>Ft k\/k=xb) w w6:=(aG.o.aa (S':=λk=>Ft k\/k=xb) λ_ _ h=>h.elim).tr h2;refine⟨rfl,Cn.bN (FT:=λk=>FT k\/(Value.slice ka l.length H).oB k) h1 aW ?_ ?_ ?_⟩
   ·rintro k _ (h|rfl)
    ·exact .inl (d.o k (.inl h))
    ·exact .inl (d.o _ (.inr (.inr (.inl rfl))))
   ·exact λk E=>(h3 k E).imp (λh=>.inl (d.o k (.inl h))) λh=>AR aG.o.Ao h
   ·exact λk E=>.inl (.inl (d.o k (.inr E)))
  case pos=>
   subst ht;(have aA:R=(0,{A with ix:=⟨L,l⟩,j:=⟨[],A.j.Aa,0,none⟩},a4):=by rw[aH.o,Ae (by simp)]);subst aA;have O:Hid (∀g,(Value.slice ka l.length H).oB g->g<w4.drew.heap.size/\¬Ft g/\¬Ff ab xb jb sv ov lv jo g):=λg I=>⟨Bq (a2.o.lt I) aG.o.Ao,λh=>aL.o g I (d.o g (.inl h)),λh=>aL.o g I (d.o g (.inr h))⟩
   refine BR (λw'=>A7 w' ab 1 (A5 xb)/\A7 w' ab 2 (A5 jb)) 11
    (Br [0,1,2,3,4,5,6,7,9,8,10] [8,10]) ⟨x1,x2⟩ ?_
   iterate 9 (refine Bf ?_;(try simp only[An]))
   refine Bn λK hK=>?_;go_simp;refine aE.m ?_;rintro e w3⟨rfl,rfl⟩;refine hK _ _ ⟨x1,x2⟩ (λhS=>?_)
   (try simp only[An])
   refine Bn λK hK=>?_;go_simp;refine aB.m ?_;rintro e w6⟨rfl,hx,hI⟩;have b6:D4 w6 ab b xb jb A.Aa ov:=Y.o.Ag.aj hI.1 λh=>h.elim aD.o.2 aD.o.1;refine hK _ _ ⟨b6.c1,b6.c2⟩ (λhS=>?_);rw[Ai rfl,Ai rfl]at hx;have aV:D7 w6 (.slice ka l.length H) l:=(a2.o.Ak aG.o (λ_ _ h=>h)).aP λg I=>hI.1.Ap g (O.o g I).1 λh=>h.elim (O.o g I).2.1 λe=>(O.o g I).2.2 (.inr (.inl e))
   have aP:=A1 (Y.o.eG hx aV hI λg I=>.inr (O.o g I));have d2:=b6.c2
   (try simp only[An])
   refine Bl ?_;simp only[BK,BJ];obtain⟨aJ,h1,h2,h3⟩:=aP.o;have a8:=A1 (A0f w6 h1.jn);have a7:=A1 h1;have a6:Hid (A3 (λk=>Ft k\/k=xb) w w6):=(aG.o.aa (S':=λk=>Ft k\/k=xb) λ_ _ h=>h.elim).tr h2;have a5:Hid (∀k,aJ k->Ft k\/w.heap.size<=k):=λk E=>(h3 k E).imp id λh=>AR aG.o.Ao h
   go_wp2_with (go_at_call 201;refine a8.m ?_;rintro e w7⟨rfl,hj,aQ⟩;have a9:=A1 hj;have aI:=A1 aQ);go_ret;have a0:=a7.o.fR a9.o aI.o (by simp[Value.ownBlock]) rfl;refine⟨rfl,Cn.bN (FT:=λk=>FT k\/(Value.slice ka l.length H).oB k) (S:=λk=>(Ft k\/k=xb)\/k=jb) a0 ((a6.o.aa λ_ _ h=>.inl h).Aw aI.o λ_ h _=>.inr h) ?_ ?_ ?_⟩
   ·rintro k _ ((h|rfl)|rfl)
    ·exact .inl (d.o k (.inl h))
    ·exact .inl (d.o _ (.inr (.inr (.inl rfl))))
    ·exact .inl (d.o _ (.inr (.inr (.inr (.inr (.inr (.inl rfl)))))))
   ·exact λk E=>(a5.o k E).imp (λh=>.inl (d.o k (.inl h))) id
   ·rintro k (h|h|h|h|h)
    ·exact .inl (.inl (d.o k (.inr (.inl h))))
    ·exact .inl (.inl (d.o k (.inr (.inr (.inl h)))))
    ·exact .inl (.inr h)
    ·exact .inl (.inl (d.o k (.inr (.inr (.inr (.inr (.inl h)))))))
    ·rcases h with h|h|h
     ·exact .inl (.inl (d.o k (.inr (.inr (.inr (.inr (.inr (.inl h))))))))
     ·simp[Value.ownBlock]at h
     ·cases h
end
def Fit.az{a c m:Nat}:∀(l:List Bs) (P:PD),Fit P a c m->Fit (PD.az l P).2 a c m
 | [],P,h=>h
 | nm::r,P,h=>by
  rw[QR];split
  ·exact h.ae _
  ·exact Fit.az r _ (h.ae _)
def Fit.C{A:Ar}{P:PD}{a c m:Nat}(h:Fit P a c m):Fit (A.C P).2.2 a c m:=by
 unfold Ar.C;split
 ·exact h.az _ _
 ·exact h.az _ _
def Fit.aL{a m:Nat}:∀(l:List Bs) (P:PD) (c:Nat),Fit P a c m->Fit (PD.aL l P).2 a (c+l.length) m
 | [],P,c,h=>h
 | nm::r,P,c,h=>by
  rw[removeAll_cons];split
  ·exact(h.aH _).aa (As _) (by simp) (As _)
  ·exact(Fit.aL r _ _ (h.aH _)).aa (As _) (by simp;omega) (As _)
def Fit.av{A:Ar}{P:PD}{a c m:Nat}(h:Fit P a c m):Fit (A.av P).2 a (c+a) m:=by
 have d:=Fit.aL (A.aV P) P c h;have h2:=Sn A P h;exact d.aa (As _) (by omega) (As _)
def NU(A:Ar)(P:PD):(A.C P).2.1.ix=A.ix/\(A.C P).2.1.j=A.j/\(A.C P).2.1.Aa=A.Aa:=by
 unfold Ar.C;split<;>exact⟨rfl,rfl,rfl⟩
def Ar.aN(A:Ar)(P:PD):Int×Ar×PD:=
 if (A.C P).1≠0 then A.C P else (((A.C P).2.1.av (A.C P).2.2).1,(A.C P).2.1,((A.C P).2.1.av (A.C P).2.2).2)
def YZ(A:Ar)(P:PD):(A.aN P).2.1.ix=A.ix/\(A.aN P).2.1.j=A.j/\(A.aN P).2.1.Aa=A.Aa:=by
 unfold Ar.aN;split<;>exact NU A P
def Fit.aN{A:Ar}{P:PD}{a c m:Nat}(h:Fit P a c m):Fit (A.aN P).2.2 a (c+a) m:=by
 unfold Ar.aN;split
 ·exact h.C.aa (As _) (by omega) (As _)
 ·exact h.C.av
def Ry(A:Ar)(P:PD)(kept:List Int)(fresh:List (List Pu)):A.aG P kept fresh=if (A.aN P).1≠0 then A.aN P else
 if (PD.ah fresh (A.aN P).2.1.Aa kept (A.aN P).2.2).1≠0 then ((PD.ah fresh (A.aN P).2.1.Aa kept (A.aN P).2.2).1,{ (A.aN P).2.1 with Aa:=(PD.ah fresh (A.aN P).2.1.Aa kept (A.aN P).2.2).2.1},(PD.ah fresh (A.aN P).2.1.Aa kept (A.aN P).2.2).2.2.2) else
 if (({ (A.aN P).2.1 with Aa:=(PD.ah fresh (A.aN P).2.1.Aa kept (A.aN P).2.2).2.1}:Ar).ag (PD.ah fresh (A.aN P).2.1.Aa kept (A.aN P).2.2).2.2.2 (PD.ah fresh (A.aN P).2.1.Aa kept (A.aN P).2.2).2.2.1).1≠0 then
  ({ (A.aN P).2.1 with Aa:=(PD.ah fresh (A.aN P).2.1.Aa kept (A.aN P).2.2).2.1}:Ar).ag (PD.ah fresh (A.aN P).2.1.Aa kept (A.aN P).2.2).2.2.2 (PD.ah fresh (A.aN P).2.1.Aa kept (A.aN P).2.2).2.2.1
 else (({ (A.aN P).2.1 with Aa:=(PD.ah fresh (A.aN P).2.1.Aa kept (A.aN P).2.2).2.1}:Ar).ag (PD.ah fresh (A.aN P).2.1.Aa kept (A.aN P).2.2).2.2.2 (PD.ah fresh (A.aN P).2.1.Aa kept (A.aN P).2.2).2.2.1).2.1.aZ
  (({ (A.aN P).2.1 with Aa:=(PD.ah fresh (A.aN P).2.1.Aa kept (A.aN P).2.2).2.1}:Ar).ag (PD.ah fresh (A.aN P).2.1.Aa kept (A.aN P).2.2).2.2.2 (PD.ah fresh (A.aN P).2.1.Aa kept (A.aN P).2.2).2.2.1).2.2:=by
 unfold Ar.aG Ar.aN;dsimp only
 by_cases d:(A.C P).1=0
 ·by_cases h:((A.C P).2.1.av (A.C P).2.2).1=0
  ·simp only[d,h,JJ,not_true,C7]
  ·simp only[d,h,JJ,not_true,OC,C7,Ch]
 ·simp only[d,JJ,OC,Ch]
section
variable {w w':World} {ab b xb jb B:Nat} {sv ov lv jo:Value} {A:Ar} {P:PD} {Ft FT:Nat->Prop} {a c m:Nat}
def AD.bz(h:AD w ab b A P FT):A7 w ab 0 (A5 b)/\A7 w ab 3 (A0 A.Aa)/\w.frozen? (Ac ab 3)=false/\ab<w.heap.size/\FT ab:=by
 obtain⟨xb,jb,sv,ov,lv,jo,Ft,d,z⟩:=h;exact⟨d.Ag.c0,d.Ag.c3,d.Ag.fz 3,d.Ag.lt,z ab (.inr (.inl rfl))⟩
def AD.gj(h:AD w ab b A P FT)(x:Int):AD (w.setCell ⟨ab,3,none⟩ (.int .i64 x)) ab b {A with Aa:=x} P FT:=by
 obtain⟨xb,jb,sv,ov,lv,jo,Ft,d,L⟩:=h;have I:A3 (One ab) w (w.setCell ⟨ab,3,none⟩ (.int .i64 x)):=(A3.I (One ab) w).aq (b:=ab) rfl 3 _;have H:∀k,k≠ab->k<w.heap.size->(w.setCell ⟨ab,3,none⟩ (.int .i64 x)).heap[k]?=w.heap[k]?:=λk z O=>I.Ap k O z
 exact⟨xb,jb,sv,ov,lv,jo,Ft,⟨d.Ag.s3 x,(H xb d.ne.symm d.ix.lt).trans d.ix,d.segs.aP λg E=>H g (d.Fi g E).1 (d.segs.lt E),d.AQ.aP λg E=>H g (d.G9 g E).1 (d.AQ.lt E),d.jn.aP λk z=>H k (d.FJ k z).1 (d.jn.lt z),
  B3.aP d.dk λk z=>H k (λe=>by subst e;exact d.Df _ (.inl rfl) z) (d.lt k z),λk z=>Bq (d.lt k z) I.Ao,d.Df,d.Fi,d.G9,d.FJ⟩,L⟩
def A11(h:Bk w b P Ft):
 Af 86 #[A5 b] w (Aj (A0 P.aJ.1) λw'=>Aq w Ft w' (λw' d=>Bk w' b P.aJ.2 d)):=WU h
def V7(h:AD w ab b A P FT):
 Af 86 #[A5 b] w (Aj (A0 P.aJ.1) λw'=>Aq w FT w' (λw' z=>AD w' ab b A P.aJ.2 z)):=by
 obtain⟨xb,jb,sv,ov,lv,jo,Ft,d,E⟩:=h;refine(A11 d.dk).mono ?_;rintro e w'⟨I,H⟩;exact⟨I,d.cE E (d.b2 H)⟩
def Z0(w:World)(g:Nat)(h:AD w ab b A P FT)(_hlt:∀k,FT k->k<w.heap.size)(hg:¬FT g)(Y:g<w.heap.size)(hb:w.heap[g]?=some (.cells #[.func (Fn.func 118) #[.pointer (some ⟨ab,0,none⟩)] #[],.func (Fn.func 150) #[.pointer (some ⟨ab,0,none⟩)] #[]] 50 (0,0)))(hF:Fit P a c m)(hl:CU a (c+a) m)(hn:∀n∈A.ix.segs,CM n)(O:∀n∈A.j.Am,CM n)(L:A.ix.segs.length<=1073741824)(I:A.j.Am.length<=1073741824)(hL:Lets B w)(W:∀k,FT k->B<=k):
 Calls Tryz.prog 117 #[.slice (some ⟨g,0,none⟩) 2 2] w λe w'=>e=.returned (.int .i64 (A.aN P).1)/\Aq w FT w' (λw' d=>AD w' ab b (A.aN P).2.1 (A.aN P).2.2 d):=by
 obtain⟨s1,s2,s3⟩:=NU A P;refine(A1A w g ab ab (λn w'=>n=(A.C P).1/\Aq w FT w' (λw' d=>AD w' ab b (A.C P).2.1 (A.C P).2.2 d)) (λn w'=>(A.C P).1=0/\n=((A.C P).2.1.av (A.C P).2.2).1/\Aq w FT w' (λw' d=>AD w' ab b (A.C P).2.1 ((A.C P).2.1.av (A.C P).2.2).2 d)) hb ?_ ?_).mono ?_
 ·refine(Re w h).mono ?_;rintro e w'⟨E,z⟩;exact⟨_,E,⟨rfl,z⟩,z.1.Ap g Y hg⟩
 ·rintro w1⟨h0,c1,F1,z,H,h4⟩ -;refine(QV w1 z hF.C hl (by rw[s1];exact hn) (by rw[s2];exact O) (by rw[s1];exact L) (by rw[s2];exact I) (hL.aj c1 W)).mono ?_;rintro e w'⟨h5,h6⟩;exact⟨_,h5,h0.symm,rfl,Aq.a7 c1 h4 h6⟩
 ·rintro e w'⟨n,rfl,⟨E,z,H⟩|⟨E,z,H⟩⟩
  ·subst z;unfold Ar.aN;rw[Ai E];exact⟨rfl,H⟩
  ·subst z;unfold Ar.aN;rw[Ae (by simp[E])];exact⟨rfl,H⟩
def A2W(w:World)(g:Nat)(h:AD w ab b A P FT)(_hlt:∀k,FT k->k<w.heap.size)(hg:¬FT g)(W:g<w.heap.size)(hb:w.heap[g]?=some (.cells #[.func (Fn.func 150) #[.pointer (some ⟨ab,0,none⟩)] #[],.func (Fn.func 86) #[.pointer (some ⟨b,0,none⟩)] #[]] 50 (0,0)))(hF:Fit P a c m)(hl:CU a (c+a) m)(hn:∀n∈A.ix.segs,CM n)(O:∀n∈A.j.Am,CM n)(L:A.ix.segs.length<=1073741824)(I:A.j.Am.length<=1073741824)(hL:Lets B w):
 Calls Tryz.prog 117 #[.slice (some ⟨g,0,none⟩) 2 2] w λe w'=>e=.returned (.int .i64 (A.aZ P).1)/\Aq w FT w' (λw' d=>AD w' ab b (A.aZ P).2.1 (A.aZ P).2.2 d):=by
 refine(A1z w g ab b (λn w'=>n=(A.av P).1/\Aq w FT w' (λw' d=>AD w' ab b A (A.av P).2 d)) (λn w'=>(A.av P).1=0/\n=(A.av P).2.aJ.1/\Aq w FT w' (λw' d=>AD w' ab b A (A.av P).2.aJ.2 d)) hb ?_ ?_).mono ?_
 ·refine(QV w h hF hl hn O L I hL).mono ?_;rintro e w'⟨E,z⟩;exact⟨_,E,⟨rfl,z⟩,z.1.Ap g W hg⟩
 ·rintro w1⟨Y,c1,F1,z,H,h4⟩ -;refine(V7 z).mono ?_;rintro e w'⟨h5,h6⟩;exact⟨_,h5,Y.symm,rfl,Aq.a7 c1 h4 h6⟩
 ·rintro e w'⟨n,rfl,⟨E,z,H⟩|⟨E,z,H⟩⟩
  ·subst z;unfold Ar.aZ;rw[Ai E];exact⟨rfl,H⟩
  ·subst z;unfold Ar.aZ;rw[Ae (by simp[E])];exact⟨rfl,H⟩
end
def PM(w:World)(v:Value)(h:List (List Pu))(FT:Nat->Prop):Prop:=
 ∃d:List Value,d.length=h.length/\w.ownsRow 0 97 1 v h.length d/\(∀k (E:k<d.length) (z:k<h.length),AZ w (d[k]'E) (h[k]'z))/\(∀g,v.ownBlock=some g->¬FT g)/\∀x∈d,∀g,x.ownBlock=some g->¬FT g
def De(l:List (List Pu)):Nat:=(l.map List.length).sum
def NQ(x:List Pu)(r:List (List Pu)):De (x::r)=x.length+De r:=by simp[De]
def M0(x y:List (List Pu)):De (x++y)=De x+De y:=by simp[De]
def QW(l:List (List Pu))(k:Nat):De (l.take k)<=De l:=by
 conv=>rhs;rw[<-DM k l]
 rw[M0];omega
def SX(l:List Pu)(r:List (List Pu))(last:Int)(kept:List Int)(P:PD):PD.ah (l::r) last kept P=if (P.aK (last+1) l).1≠0 then ((P.aK (last+1) l).1,last+1,kept,(P.aK (last+1) l).2) else
 PD.ah r (last+1) (kept++[last+1]) (P.aK (last+1) l).2:=rfl
def Fit.aK{P:PD}{a c m:Nat}(h:Fit P a c m)(n:Int)(l:List Pu):Fit (P.aK n l).2 (a+1) (c+1) (m+17*l.length+4):=by
 have:=h.aI (AJ n) (AH (AJ n)) (Cf l);rw[Oj]at this;exact this
def SK{n:Int}(d:0<=n)(h:n<=9223372036854775807):CM n:=by
 refine⟨d,h,?_⟩;rw[Mr d,VM];have e:(10:Nat) ^ 19=10000000000000000000:=by decide
 exact Td 19 _ (by rw[e];omega) (by omega)
section
variable {w:World} {ab b xb jb B:Nat} {sv ov lv jo:Value} {A:Ar} {P:PD} {Ft FT:Nat->Prop} {a c m:Nat}
def A3X(w:World)(h:AD w ab b A P FT)(n:Int)(H:Value)(l:List Pu)(hF:Fit P a c m)(hl:CU (a+1) (c+1) m)(hn:CM n)(Y:Lets B w)(hp:Hu w H l)(I:∀p∈l,Bh p)(E:l.length<=134217728):
 Af 151 #[A5 b,A0 n,H] w λe w'=>
  ((P.aK n l).1≠0/\e=.returned (.tuple #[.pointer none,A0 (P.aK n l).1])\/(P.aK n l).1=0/\∃O,e=.returned (.tuple #[A5 O,A0 0]))/\Aq w FT w' (λw' z=>AD w' ab b A (P.aK n l).2 z):=by
 obtain⟨xb,jb,sv,ov,lv,jo,Ft,d,L⟩:=h;refine(ZE w H l d.dk d.lt hF hl hn Y hp I E).mono ?_;rintro e w'⟨h3,W⟩;exact⟨h3,d.cE L (d.b2 W)⟩
def Fit.cB{A:Ar}{P:PD}{a c m:Nat}(h:Fit P a c m)(l:List Int):Fit (A.ag P l).2.2 (a+2) (c+2) (m+12+8*l.length):=by
 unfold Ar.ag;split
 ·exact h.aa (by omega) (by omega) (by omega)
 ·split
  ·exact h.en _ _
  ·exact h.en _ _
def A3v(A:Ar)(P:PD)(l:List Int):((A.ag P l).2.1.ix.segs=A.ix.segs\/(A.ag P l).2.1.ix.segs=l)/\((A.ag P l).2.1.j.Am=A.j.Am\/(A.ag P l).2.1.j.Am=[]):=by
 unfold Ar.ag;split
 ·exact⟨.inl rfl,.inl rfl⟩
 ·split
  ·exact⟨.inl rfl,.inl rfl⟩
  ·exact⟨.inr rfl,.inr rfl⟩
def AD.cX{n:Nat}{v:Value}{xs:List Value}(h:AD w ab b A P FT)(d:w.ownsRow 0 3 1 v n xs){g:Nat}(E:v.ownBlock=some g):g≠ab:=by
 obtain⟨xb,jb,sv,ov,lv,jo,Ft,z,h2⟩:=h;obtain⟨c,H⟩:=Be d E;exact BT H z.Ag (by decide)
def Rz(w:World)(h:AD w ab b A P FT)(bT:∀k,FT k->k<w.heap.size)(kv:Value)(kept:List Int)(aB:DD w kv kept)(dC:∀g,kv.ownBlock=some g->¬FT g/\B<=g)(fv:Value)(fresh:List (List Pu))(eM:PM w fv fresh FT)(cL:∀l∈fresh,(∀p∈l,Bh p)/\l.length<=134217728)(cV:0<=A.Aa/\A.Aa+fresh.length<=9223372036854775807)(b2:AE (A.j.Aa+1))(_hkr:∀x∈kept,AE x)(hF:Fit P a c m)(hl:CU (a+fresh.length+2) (c+2*a+2*fresh.length+4) (m+17*De fresh+12*fresh.length+12+8*kept.length))(dA:kept.length+fresh.length<=134217728)(hn:∀n∈A.ix.segs,CM n)(bU:∀n∈A.j.Am,CM n)(b0:∀n∈kept,CM n)(bK:A.ix.segs.length<=1073741824)(bR:A.j.Am.length<=1073741824)(hL:Lets B w)(bI:∀k,FT k->B<=k):
 Af 107 #[A5 ab,kv,fv] w (Aj (A0 (A.aG P kept fresh).1) λw'=>Aq w (λk=>FT k\/kv.ownBlock=some k) w' (λw' d=>AD w' ab b (A.aG P kept fresh).2.1 (A.aG P kept fresh).2.2 d)):=by
 obtain⟨i0,hi,dW,eN,eD⟩:=OY;obtain⟨ka,z,rfl,kc1,eI,-⟩:=B9 aB;obtain⟨vs,vl,bM,cH,cT,cB⟩:=eM;obtain⟨fa,b6,rfl,fc1,dO,-⟩:=B9 bM;unfold maxLen at eI dO;obtain⟨q1,q2,q3⟩:=YZ A P;have b7:CU a (c+a) m:=⟨by have:=hl.a;omega,by have:=hl.c;omega,by have:=hl.m;omega⟩;have bH:=Fit.aN (A:=A) hF;have aQ:A3 Ab w (w.aC #[.func (Fn.func 118) #[A5 ab] #[],.func (Fn.func 150) #[A5 ab] #[]] 50):=(A3.I _ w).ai _;have eC:=A1 (Z0 _ w.heap.size (h.au aQ) (λk hk=>Bq (bT k hk) aQ.Ao) (λW=>G6 _ (bT _ W)) (by simp) (BO w _) hF b7 hn bU bK bR (hL.aM aQ) bI);have bZ:=A1 (Ry A P kept fresh);obtain⟨R,hR⟩:∃R,A.aG P kept fresh=R:=⟨_,rfl⟩;rw[hR]at bZ ⊢;obtain⟨X,hX⟩:∃X,A.aN P=X:=⟨_,rfl⟩;rw[hX]at bZ eC q1 q2 q3 bH;have eB:=A1 aQ;have dN:=A1 <| h.bz.2.2.2.2;have aY:=A1 bM;have bN:=A1 cH;have dR:=A1 cT;have dL:=A1 cB;have aS:=A1 aB;have a0:=A1 dC;have eE:=A1 hL;have b9:=A1 bI;have dQ:=A1 cL;have aO:=A1 hl;have b8:=A1 bH;have bB:Hid ((∀n∈A.ix.segs,CM n)/\(∀n∈A.j.Am,CM n)/\(∀n∈kept,CM n)/\A.ix.segs.length<=1073741824/\A.j.Am.length<=1073741824/\AE (A.j.Aa+1)):=⟨hn,bU,b0,bK,bR,b2⟩;have eF:=A1 <| cV;have cX:=A1 dA;have eO:=A1 vl;have cG:=A1 SX;have dD:Hid (∀wx bO bX,Aq w FT wx (λw' d=>AD w' ab b bO bX d)->Aq w (λk=>FT k\/(Value.slice ka kept.length z).ownBlock=some k) wx (λw' d=>AD w' ab b bO bX d)):=λwx bO bX W=>W.aW λk hk=>.inl hk;clear hX hR aQ bT bM cH cT cB aB dC hL bI cL hl bH hn bU b0 bK bR b2 cV dA h hF b7 _hkr
 go_enter func107,ntmps107
 go_wp2_with (fail);refine eC.m ?_;rintro e w1⟨rfl,b3⟩;have aZ:=A1 (b3.a6 eB.o);clear eC b3;obtain⟨dS,H,aE⟩:=X;dsimp only at bZ q1 q2 q3 b8 aZ;have e1:=A1 q1;have e2:=A1 q2;have eT:=A1 q3;clear q1 q2 q3;by_cases W:dS=0
 case neg=>
  have aG:R=(dS,H,aE):=by rw[bZ.o,Ai W]
  subst aG;have hxb:(dS !=0)=true:=by simpa using W
  go_wp2;go_ret;exact⟨rfl,dD.o _ _ _ aZ.o⟩
 case pos=>
 subst W
 have a3:Hid (R=if (PD.ah fresh H.Aa kept aE).1≠0 then ((PD.ah fresh H.Aa kept aE).1,{H with Aa:=(PD.ah fresh H.Aa kept aE).2.1},(PD.ah fresh H.Aa kept aE).2.2.2) else
  if (({H with Aa:=(PD.ah fresh H.Aa kept aE).2.1}:Ar).ag (PD.ah fresh H.Aa kept aE).2.2.2 (PD.ah fresh H.Aa kept aE).2.2.1).1≠0 then
   ({H with Aa:=(PD.ah fresh H.Aa kept aE).2.1}:Ar).ag (PD.ah fresh H.Aa kept aE).2.2.2 (PD.ah fresh H.Aa kept aE).2.2.1
  else (({H with Aa:=(PD.ah fresh H.Aa kept aE).2.1}:Ar).ag (PD.ah fresh H.Aa kept aE).2.2.2 (PD.ah fresh H.Aa kept aE).2.2.1).2.1.aZ
   (({H with Aa:=(PD.ah fresh H.Aa kept aE).2.1}:Ar).ag (PD.ah fresh H.Aa kept aE).2.2.2 (PD.ah fresh H.Aa kept aE).2.2.1).2.2):=by unfold Hid;rw[bZ.o,Ae (by simp)]
 obtain⟨S,hS⟩:∃S,PD.ah fresh H.Aa kept aE=S:=⟨_,rfl⟩;have eR:=A1 hS;rw[hS]at a3;clear hS bZ;have cM:=A1 <| Az aS.o λg I=>aZ.o.1.Ap g (AI aS.o I) (a0.o g I).1;go_wp2
 go_loopw [1,24] (λv iv wr=>∃(k:Nat) (E:List Int) (aF:PD),iv=A0 k/\k<=fresh.length/\Hid (DD wr v E/\E.length=kept.length+k/\(∀g,v.ownBlock=some g->(Value.slice ka kept.length z).ownBlock=some g\/w.heap.size<=g)/\(∀x∈E,CM x)/\
  Aq w (λk=>FT k\/(Value.slice ka kept.length z).ownBlock=some k) wr (λw' d=>AD w' ab b {H with Aa:=H.Aa+k} aF d/\∀g,v.ownBlock=some g->¬d g)/\Fit aF (a+k) (c+a+k) (m+17*De (fresh.take k)+4*k)/\S=PD.ah (fresh.drop k) (H.Aa+k) E aF)) (λ_ iv _=>fresh.length-(intOf iv).toNat)
 case atStart=>
  obtain⟨c1,aX,r1,l1,s1⟩:=aZ.o;refine⟨0,kept,aE,rfl,by omega,cM.o,rfl,λg I=>.inl I,bB.o.2.2.1,⟨c1.aa λ_ _ h=>.inl h,aX,⟨by simpa using r1,λg I W=>?_⟩,l1,λk hk=>(s1 k hk).imp .inl id⟩,by simpa[De] using b8.o,by simpa using eR.o.symm⟩;rcases s1 g W with h|h
  ·exact(a0.o g I).1 h
  ·have:=AI aS.o I;omega
 case round=>
  obtain⟨k,E,aF,rfl,hk,hI⟩:=hrel;obtain⟨i1,i2,i3,i4,i5,i6,i7⟩:=hI.o;obtain⟨ap,cp,rfl,hcap1,bY,-⟩:=B9 i1;unfold maxLen at bY;by_cases aH:k<fresh.length
  ·(have aB:k<vs.length:=by have:=eO.o;omega);have dF:∀g,(Value.slice fa fresh.length b6).ownBlock=some g->g<w.heap.size/\¬(FT g\/(Value.slice ka kept.length z).ownBlock=some g):=λg I=>⟨AI aY.o I,λh=>h.elim (dR.o g I) (Ip aY.o aS.o (by decide) I)⟩
   obtain⟨c1,aX,⟨r1,aW⟩,l1,s1⟩:=i5;obtain⟨g,rfl⟩:∃g,fa=some (Ac g 0):=by
    obtain⟨a',c',e,-,-,hz,-⟩:=B9 aY.o;cases e;exact hz (by omega)
   have d0:=BF aY.o rfl (E5 aB);have d1:=c1.bH d0 (dF g rfl).2;have aI:=Az (bN.o k aB aH) λO I=>c1.Ap O (AI (bN.o k aB aH) I) λh=>h.elim (dL.o _ (BY aB) O I) (Ip (bN.o k aB aH) aS.o (by decide) I);have a4:=dQ.o _ (BY aH);have bS:=DB aH;have bV:=Fy aH;have dP:=QW fresh (k+1);obtain⟨xv,cU⟩:∃xv,(vs[k]'aB)=xv:=⟨_,rfl⟩;rw[cU]at d0 d1 aI;obtain⟨pl,cO⟩:∃pl,(fresh[k]'aH)=pl:=⟨_,rfl⟩;rw[cO]at aI a4 bS bV;obtain⟨pa,aP,rfl,pc1,eH,-⟩:=B9 aI;unfold maxLen at eH;obtain⟨L,a5⟩:∃L,H.Aa+(k:Int)=L:=⟨_,rfl⟩;(have hLr:0<=L/\L+1<=9223372036854775807:=by have:=eF.o;rw[<-a5,eT.o];omega);rw[a5]at r1 i7;rw[bV,cG.o]at i7;obtain⟨e0,e3,z3,hab,dB⟩:=r1.bz;dsimp only at e3;(have ew:wrap64 (L+1)=L+1:=by unfold wrap64;omega);(have ew2:IntKind.i64.wrap (L+1)=L+1:=by simp[IntKind.wrap,IntKind.bits,IntKind.signed];omega);have r5:=r1.gj (L+1);have aT:FT ab\/(Value.slice ka kept.length z).ownBlock=some ab:=.inl dN.o;have c5:A3 (λk=>FT k\/(Value.slice ka kept.length z).ownBlock=some k) w (wr.sC ab 3 (A0 (L+1))):=c1.bq (p:=(Ac ab 3)) (λ_=>aT) _;have bP:=r5.au (A3.I Ab (wr.sC ab 3 (A0 (L+1)))).af;have a7:∀O,(Value.slice ap E.length cp).ownBlock=some O->O≠ab:=λO I=>r1.cX i1 I;have k5:A3 (One ab) wr (wr.sC ab 3 (A0 (L+1))).drew:=((A3.I (One ab) wr).aq (b:=ab) rfl 3 _).af;have bD:AZ (wr.sC ab 3 (A0 (L+1))).drew (.slice pa pl.length aP) pl:=Az aI λO I=>k5.Ap O (AI aI I) λe=>by
    obtain⟨xb,jb,sv,ov,lv,jo,Ft,hv,_⟩:=r1;obtain⟨c',eA⟩:=Be aI I;exact BT eA hv.Ag (by decide) e
   have a6:DD (wr.sC ab 3 (A0 (L+1))).drew (.slice ap E.length cp) E:=Az i1 λO I=>k5.Ap O (AI i1 I) (a7 O I);have l5:∀k,aX k->k<(wr.sC ab 3 (A0 (L+1))).drew.heap.size:=λk hk=>Bq (l1 k hk) k5.Ao;have cS:∀k,(FT k\/(Value.slice ka kept.length z).ownBlock=some k)->B<=k:=λk hk=>hk.elim (b9.o k) λh=>(a0.o k h).2
   have cF:=eE.o.aj c5.af cS;have aU:CU (a+k+1) (c+a+k+1) (m+17*De (fresh.take k)+4*k):=by
    have:=aO.o;have h2:=QW fresh k;exact⟨by have:=this.a;omega,by have:=this.c;omega,by have:=this.m;omega⟩
   have aM:=A1 (A3X _ bP (L+1) _ pl i6 aU (SK (by omega) (by omega)) cF bD.rd a4.1 a4.2);have bQ:=A1 (i6.aK (L+1) pl);obtain⟨Y,hY⟩:∃Y,aF.aK (L+1) pl=Y:=⟨_,rfl⟩;rw[hY]at i7 aM bQ;(have dK:Hid (17*De (fresh.take (k+1))+4*(k+1)=17*De (fresh.take k)+4*k+17*pl.length+4):=by unfold Hid;rw[bS,M0];simp[De];omega);have dZ:=A1 a5;have dJ:=A1 i2;have eY:=A1 i3;have eX:=A1 i4;have dI:=A1 i7;have dH:=A1 c5.af;have eG:Hid (∀k,aX k->(FT k\/(Value.slice ka kept.length z).ownBlock=some k)\/w.heap.size<=k):=s1;have cA:=A1 aW;have bL:=A1 a6;(have cJ:wr.heap.size=(wr.sC ab 3 (A0 (L+1))).drew.heap.size:=by show _=(wr.setCell _ _).heap.size;simp);have SZ5:=A1 cJ;obtain⟨f0,f3,-,-,-⟩:=bP.bz;dsimp only at f3;(have dV:(k:Int)<(fresh.length:Int):=by omega);have hk0:=C2 k;clear hI i1 i2 i3 i4 i6 i7 c1 r1 aW l1 s1 d0 aI a4 bS bV dP cU cO a5 r5 c5 bP a7 k5 bD a6 l5 cS cF aU hY dF aB aT dB cJ;obtain⟨b1,a1⟩:=Y;dsimp only at aM dI bQ
   have aD:Hid (∀w6,Aq (wr.sC ab 3 (A0 (L+1))).drew aX w6 (λw' d=>AD w' ab b {H with Aa:=L+1} a1 d)->
    (A7 w6 ab 0 (A5 b)/\A7 w6 ab 3 (A0 (L+1)))/\Aq w (λk=>FT k\/(Value.slice ka kept.length z).ownBlock=some k) w6 (λw' d=>AD w' ab b {H with Aa:=L+1} a1 d)):=λw6 h6=>by
    obtain⟨_,cP,bJ,_⟩:=h6;exact⟨⟨bJ.bz.1,bJ.bz.2.1⟩,Aq.a7 dH.o eG.o ⟨‹_›,cP,bJ,‹_›⟩⟩
   by_cases hy:b1=0
   case neg=>
    (have a2:S=(b1,L+1,E,a1):=by rw[dI.o,Ai hy]);(have aG:R=(b1,{H with Aa:=L+1},a1):=by rw[a3.o,a2,Ai hy]);subst aG;have aR:Hid (Af 151 #[A5 b,A0 (L+1),.slice pa pl.length aP] (wr.sC ab 3 (A0 (L+1))).drew (Aj (.tuple #[.pointer none,A0 b1]) λw'=>Aq (wr.sC ab 3 (A0 (L+1))).drew aX w' (λw' d=>AD w' ab b {H with Aa:=L+1} a1 d))):=by
     refine aM.m ?_;rintro e w'⟨⟨_,h2⟩|⟨h1,_⟩,h3⟩
     ·exact⟨h2,h3⟩
     ·exact absurd h1 hy
    (have hyb:(b1 !=0)=true:=by simpa using hy);clear a2 aM;go_wp2;refine BR (λw'=>A7 w' ab 0 (A5 b)/\A7 w' ab 3 (A0 (L+1))) 14
     (Br [0,1,2,3,4,5,6,7,8,9,10,11,12,13] [9]) ⟨f0,f3⟩ ?_
    iterate 9 (refine Bf ?_;(try simp only[An]))
    refine Bn λK hK=>?_;go_simp;refine aR.m ?_;rintro e w6⟨rfl,hI⟩;refine hK _ _ (aD.o w6 hI).1 (λhS=>?_);have eW:=A1 (aD.o w6 hI).2;clear hK K hS hI aR aD
    (try simp only[An])
    iterate 4 (refine Bf ?_;(try simp only[An]))
    refine Bl ?_;simp only[BK,BJ];go_wp2;go_ret;exact⟨rfl,eW.o⟩
   case pos=>
    subst hy;(have eZ:Hid (S=PD.ah (fresh.drop (k+1)) (L+1) (E++[L+1]) a1):=by unfold Hid;rw[dI.o,Ae (by simp)]);have aR:Hid (Af 151 #[A5 b,A0 (L+1),.slice pa pl.length aP] (wr.sC ab 3 (A0 (L+1))).drew λe w'=>∃gb,e=.returned (.tuple #[A5 gb,A0 0])/\Aq (wr.sC ab 3 (A0 (L+1))).drew aX w' (λw' d=>AD w' ab b {H with Aa:=L+1} a1 d)):=by
     refine aM.m ?_;rintro e w'⟨⟨h1,_⟩|⟨_,gb,h2⟩,h3⟩
     ·exact absurd rfl h1
     ·exact⟨gb,h2,h3⟩
    clear aM dI;go_wp2;refine BR (λw'=>A7 w' ab 0 (A5 b)/\A7 w' ab 3 (A0 (L+1))) 14
     (Br [0,1,2,3,4,5,6,7,8,9,10,11,12,13] [9]) ⟨f0,f3⟩ ?_
    iterate 9 (refine Bf ?_;(try simp only[An]))
    refine Bn λK hK=>?_;go_simp;refine aR.m ?_;rintro e w6⟨gb,rfl,hI⟩;refine hK _ _ (aD.o w6 hI).1 (λhS=>?_);have g63:=(aD.o w6 hI).1.2;have cC:=A1 hI;clear hK K hS hI aR aD
    (try simp only[An])
    iterate 4 (refine Bf ?_;(try simp only[An]))
    refine Bl ?_;simp only[BK,BJ];have bG:=A1 cC.o.1;have cY:Hid (DD w6 (.slice ap E.length cp) E):=Az bL.o λO I=>bG.o.Ap O (AI bL.o I) (cA.o O I);have cQ:Hid ((w6.aC #[A0 (L+1)] 3).ownsRow 0 3 1 (.slice ap E.length cp) E.length (DO E)):=Az cY.o λO I=>((A3.I Ab w6).ai _).Ap O (AI cY.o I) (λh=>h)
    have eJ:=A1 (Src.bb (size:=1) (B:=w6.heap.size) underlying26 w6 #[A0 (L+1)] 3 (by simp) 1 1 rfl (JP [L+1]));go_wp2_with (at_builtin;refine D5 rfl (.tmp 51) (.tmp 56) 26 26 rfl 3 i0 _ 1 8 underlying26 hi dW eN eD rfl (by decide) (.slice ap E.length cp) E.length (DO E) (by rfl) cQ.o _ 1 _ (by rfl) eJ.o (by have:=dJ.o;have:=cX.o;omega) ?_;intro a8 dG w8 hA;have eU:=A1 hA;clear hA);go_roundw
    case rel=>
     have hA:=eU.o;have k7:A3 Ab w6 (w6.aC #[A0 (L+1)] 3):=(A3.I _ w6).ai _;have aL:=hA.Ak (S:=λk=>(Value.slice ap E.length cp).ownBlock=some k) λ_ h=>h;have k8:A3 (λk=>(Value.slice ap E.length cp).ownBlock=some k) w6 w8:=(k7.aa λ_ _ h=>h.elim).tr aL;obtain⟨_,cP,r2,l2,s2⟩:=cC.o;have bE:∀O,(Value.slice ap E.length cp).ownBlock=some O->¬cP O:=λO I W=>by
      rcases s2 O W with h|h
      ·exact cA.o O I h
      ·have:=AI bL.o I;omega
     have r8:AD w8 ab b {H with Aa:=L+1} a1 cP:=r2.aP (k8.ay l2 λk hk W=>bE k W hk) k8.Ao;have bC:∀O,(Value.slice a8 (E.length+1) dG).ownBlock=some O->(Value.slice ap E.length cp).ownBlock=some O\/w6.heap.size<=O:=λO I=>by
      rcases hA.Ck with h|h
      ·rw[h]at I;exact .inl I
      ·rw[h]at I;cases I;exact .inr k7.Ao
     have eP:A3 (λk=>aX k\/(Value.slice ap E.length cp).ownBlock=some k) (wr.sC ab 3 (A0 (L+1))).drew w8:=(bG.o.aa λ_ _ h=>.inl h).Aw k8 λ_ h _=>.inr h;have bA:∀O,(Value.slice ap E.length cp).ownBlock=some O->(Value.slice ka kept.length z).ownBlock=some O\/w.heap.size<=O:=eY.o;have c8:A3 (λk=>FT k\/(Value.slice ka kept.length z).ownBlock=some k) w w8:=dH.o.Aw eP λx W hlt=>by
      rcases W with W|W
      ·exact(eG.o x W).resolve_right (by omega)
      ·exact .inr ((bA x W).resolve_right (by omega))
     (have eL:H.Aa+((k+1:Nat):Int)=L+1:=by have:=dZ.o;omega);refine⟨k+1,E++[L+1],a1,by go_num,by omega,?_,by have:=dJ.o;simp;omega,λO I=>?_,λx W=>?_,⟨c8,cP,⟨by rw[eL];exact r8,λO I W=>?_⟩,λk hk=>Bq (l2 k hk) k8.Ao,λk hk=>?_⟩,?_,by rw[eL];exact eZ.o⟩
     ·(have e:(E++[L+1]).length=E.length+1:=by simp);unfold DD;rw[L6,e];exact hA.AB
     ·rcases bC O I with h|h
      ·exact bA O h
      ·have:=c8.Ao;have:=dH.o.Ao;have:=bG.o.Ao;exact .inr (by omega)
     ·rcases AV.1 W with W|W
      ·exact eX.o x W
      ·simp at W;subst W;exact SK (by omega) (by omega)
     ·rcases bC O I with h|h
      ·exact bE O h W
      ·have:=l2 O W;omega
     ·rcases s2 k hk with h|h
      ·exact eG.o k h
      ·have:=dH.o.Ao;exact .inr (by omega)
     ·have h1:=bQ.o;have h2:=dK.o;exact h1.aa (by omega) (by omega) (by omega)
    case measure=>simp[intOf];omega
  ·(obtain rfl:k=fresh.length:=by omega);rw[Gu]at i7;rw[Cl]at i6;have a2:S=(0,H.Aa+(fresh.length:Int),E,aF):=i7;subst a2;have aN:Hid (R=if (({H with Aa:=H.Aa+(fresh.length:Int)}:Ar).ag aF E).1≠0 then ({H with Aa:=H.Aa+(fresh.length:Int)}:Ar).ag aF E else (({H with Aa:=H.Aa+(fresh.length:Int)}:Ar).ag aF E).2.1.aZ (({H with Aa:=H.Aa+(fresh.length:Int)}:Ar).ag aF E).2.2):=by
    unfold Hid;rw[a3.o,Ae (by simp)]
   obtain⟨A2,aL⟩:∃A2:Ar,({H with Aa:=H.Aa+(fresh.length:Int)}:Ar)=A2:=⟨_,rfl⟩;(have b5:A2.ix=A.ix:=by rw[<-aL];exact e1.o);(have ej:A2.j=A.j:=by rw[<-aL];exact e2.o);rw[aL]at aN i5;obtain⟨c1,aX,⟨r1,aW⟩,l1,s1⟩:=i5;obtain⟨n1,n2,n3,n4,n5,n6⟩:=bB.o;have bF:∀k,(FT k\/(Value.slice ka kept.length z).ownBlock=some k)->B<=k:=λk hk=>hk.elim (b9.o k) λh=>(a0.o k h).2
   have cZ:=eE.o.aj c1 bF;have aA:=aO.o;(have a9:E.length<=134217728:=by have:=cX.o;omega);have b4:=A1 (A3o wr r1 (.slice ap E.length cp) E (DD.rd i1) (λg I=>aW g I) (by rw[ej];exact n6) (λx W=>by have:=i4 x W;exact⟨by have:=this.1;omega,this.2.1⟩) a9 i6 ⟨by have:=aA.a;omega,by have:=aA.c;omega,by have:=aA.m;omega⟩ cZ);have aV:Hid (Fit (A2.ag aF E).2.2 (a+fresh.length+2) (c+a+fresh.length+2) (m+17*De fresh+4*fresh.length+12+8*E.length)):=i6.cB E;have bW:=A3v A2 aF E;have aJ:Hid ((∀n∈(A2.ag aF E).2.1.ix.segs,CM n)/\(A2.ag aF E).2.1.ix.segs.length<=1073741824):=by
    rcases bW.1 with h|h
    ·rw[h,b5];exact⟨n1,n4⟩
    ·rw[h];exact⟨i4,by omega⟩
   have aK:Hid ((∀n∈(A2.ag aF E).2.1.j.Am,CM n)/\(A2.ag aF E).2.1.j.Am.length<=1073741824):=by
    rcases bW.2 with h|h
    ·rw[h,ej];exact⟨n2,n5⟩
    ·rw[h];exact⟨λn hn=>by simp at hn,by simp⟩
   obtain⟨T,hT⟩:∃T,A2.ag aF E=T:=⟨_,rfl⟩;rw[hT]at aN b4 aV aJ aK;have aD:Hid (∀w2 bO bX,Aq wr (λk=>aX k\/(Value.slice ap E.length cp).ownBlock=some k) w2 (λw' d=>AD w' ab b bO bX d)->Aq w (λk=>FT k\/(Value.slice ka kept.length z).ownBlock=some k) w2 (λw' d=>AD w' ab b bO bX d)):=λw2 bO bX h2=>
    Aq.a7 c1 (λk hk=>hk.elim (λh=>s1 k h) λh=>(i3 k h).imp (λh=>.inr h) id) h2
   have dU:Hid (∀w2,A3 (λk=>FT k\/(Value.slice ka kept.length z).ownBlock=some k) w w2->Lets B w2):=λw2 h2=>eE.o.aj h2 bF;have dJ:=A1 i2;(have dV:¬((fresh.length:Int)<(fresh.length:Int)):=by omega);obtain⟨eK,eS,eQ⟩:=T;dsimp only at aN b4 aV aJ aK;clear hI i1 i2 i3 i4 i6 i7 aL b5 ej c1 r1 aW l1 s1 n1 n2 n3 n4 n5 n6 bF cZ aA bW hT a3 eR cG a9;by_cases ht:eK=0
   case neg=>
    (have aG:R=(eK,eS,eQ):=by rw[aN.o,Ai ht]);subst aG;(have htb:(eK !=0)=true:=by simpa using ht);go_wp2_with (go_at_call 152;refine b4.m ?_;rintro e w6⟨rfl,cI⟩;have dT:=A1 (aD.o w6 _ _ cI);clear cI);go_ret;exact⟨rfl,dT.o⟩
   case pos=>
    subst ht;(have aG:R=eS.aZ eQ:=by rw[aN.o,Ae (by simp)]);have cD:=A1 aG;clear aG aN;go_wp2_with (fail);refine b4.m ?_;rintro e w6⟨rfl,dE⟩;have dY:=aD.o w6 _ _ dE;obtain⟨c6,eV,r6,l6,s6⟩:=dY;have k7:A3 Ab w6 (w6.aC #[.func (Fn.func 150) #[A5 ab] #[],.func (Fn.func 86) #[A5 b] #[]] 50):=(A3.I _ w6).ai _;have aA:=aO.o;have dX:=A1 (A2W _ w6.heap.size (r6.au k7) (λk hk=>Bq (l6 k hk) k7.Ao) (λW=>G6 _ (l6 _ W)) (by simp) (BO w6 _) aV.o ⟨by have:=aA.a;omega,by have:=aA.c;omega,by have:=aA.m;have:=dJ.o;omega⟩ aJ.o.1 aK.o.1 aJ.o.2 aK.o.2 ((dU.o w6 c6).aM k7));rw[<-cD.o]at dX;have g0:=r6.bz.1;have cN:Hid (∀w9,Aq (w6.aC #[.func (Fn.func 150) #[A5 ab] #[],.func (Fn.func 86) #[A5 b] #[]] 50) eV w9 (λw' d=>AD w' ab b R.2.1 R.2.2 d)->Aq w (λk=>FT k\/(Value.slice ka kept.length z).ownBlock=some k) w9 (λw' d=>AD w' ab b R.2.1 R.2.2 d)):=λw9 h9=>Aq.a7 c6 s6 (h9.a6 k7);clear cD;obtain⟨Z1,Z2,Z3⟩:=R;dsimp only at dX cN ⊢;clear dE c6 r6 l6 s6 k7 aA b4 aD;go_wp2_with (go_at_call 117;refine dX.m ?_;rintro e w9⟨rfl,cE⟩;have dM:=A1 (cN.o w9 cE);clear cE);go_ret;exact⟨rfl,dM.o⟩
end
end
end Go.Proofs.YtodcnkbblippnaaGreatDoor
