/- Part 16 of a proof: walks of the program. -/
import Derived.Test.YtodcnkbblippnaaGreatDoorPart15
namespace Go.Proofs.YtodcnkbblippnaaGreatDoor
set_option maxRecDepth 100000
set_option maxHeartbeats 32000000
set_option linter.defProp false
open Go.Proofs.Tryz
section
open Go.RowKit
attribute [local go_sem ↓] CE
def Tryz.fF:(Tryz.prog.info? 9).map (λi=>(i.zero,i.size,i.bytes))=some (some (.string ⟨#[]⟩),1,16):=by kernel_rfl
def WE:∃d,Tryz.prog.info? 9=some d/\d.zero=some (.string ⟨#[]⟩)/\d.size=1/\d.bytes=16:=by
 have h:=Tryz.fF;cases hx:Tryz.prog.info? 9 with
 | none=>rw[hx]at h;cases h
 | some i=>rw[hx]at h;simp at h;exact⟨i,rfl,h.1,h.2.1,h.2.2⟩
def JV(l:List Bs):List Bs:=l.mergeSort λx y=>decide (x<=y)
def A0G(l:List Bs):(JV l).Pairwise λa b=>¬b<a:=by
 have h:=Vd (le:=λx y:Bs=>decide (x<=y)) (λa b c E z=>by simp at E z ⊢;exact List.le_trans E z) (λa b=>by simp;exact List.le_total a b) l;exact h.imp λd=>by simpa using d
def TB(l:List Bs)(x:Bs):x∈JV l↔x∈l:=A3B
def A0F(l:List Bs):(JV l).length=l.length:=N2 _
section
variable {w:World} {ab b xb jb B:Nat} {sv ov lv jo:Value} {A:Ar} {P:PD} {Ft FT:Nat->Prop} {a c m:Nat}
def Im{w:World}{e W size z n n2 E d:Nat}{v X:Value}{xs L:List Value}(h:w.ownsRow E e size v n xs)(Y:w.ownsRow d W z X n2 L)(H:e≠W){g:Nat}(hg:v.ownBlock=some g):¬X.ownBlock=some g:=λI=>by
 obtain⟨c,hc⟩:=Be h hg;obtain⟨c2,O⟩:=Be Y I;exact BS hc O H rfl
def RZ(w:World)(h:Ck w ab b xb jb sv ov lv jo A P Ft)(hF:Fit P a c m)(hl:CN a c m)(hn:∀n∈A.ix.segs,CJ n)(dF:∀n∈A.j.Am,CJ n)(hsl:A.ix.segs.length<=1073741824)(dE:A.j.Am.length<=1073741824)(hL:Lets B w):
 Ag 100 #[A5 ab] w λe w'=>∃v1 v2,e=.returned (.tuple #[v1,v2])/\Dl w' v1 (A.aX P)/\Dl w' v2 (A.aU P)/\(∀g,v1.ownBlock=some g->w.heap.size<=g)/\(∀g,v2.ownBlock=some g->w.heap.size<=g)/\A3 Ab w w':=by
 obtain⟨i0,hi,aU,aY,aW⟩:=WE;have cE:=A1 h;have cJ:Hid (∀I k n,A3 Ab w I->1<=k/\k<=4->CJ n->Ag 134 #[A0 (k:Nat),A0 n] I λe w'=>e=.returned (.string ⟨(BO k n).toArray⟩)/\A3 Ab I w'):=λI k n hc hk hn=>Mb (n:=n) I k hk ⟨by have:=hn.1;omega,hn.2.1⟩ hn.2.2 (hL.aS hc);have dI:=A1 (cJ.o w 3 0 (A3.I _ w) (by omega) (HD (by omega) (by omega)));have dK:Hid (∀I,A3 Ab w I->Ag 136 #[A5 jb] I λe w'=>∃v,e=.returned v/\Dy w' v A.j.Am/\(∀g,v.ownBlock=some g->I.heap.size<=g)/\A3 Ab I w'):=λI hc=>Zf I (h.jn.aw hc) dE;have dJ:Hid (∀I,A3 Ab w I->Ag 76 #[A5 b] I λe w'=>∃v,e=.returned v/\Dl w' v P.Ax/\A3 Ab I w'/\(∀g,v.ownBlock=some g->I.heap.size<=g)):=λI hc=>Ow (B3.aH h.dk h.lt hc) hF hl;have dB:P.Ax.length<=1073741824:=by rw[KM];exact AM hF.A4 hl.a
 have aK:Hid (A.Ax=[AI]++A.j.Am.map Ae++A.ix.segs.map AF):=rfl;have bK:Hid (A.aX P=P.Ax.filter λnm=>decide (nm∈A.Ax)):=rfl;have bE:Hid (A.aU P=P.Ax.filter λnm=>!decide (nm∈A.Ax)):=rfl;have cV:=A1 hn;have cP:=A1 dF;obtain⟨dM,b9⟩:∃x,A.aX P=x:=⟨_,rfl⟩;obtain⟨dL,bU⟩:∃x,A.aU P=x:=⟨_,rfl⟩;obtain⟨E,bF⟩:∃x,A.Ax=x:=⟨_,rfl⟩;rw[b9,bF]at bK;rw[bU,bF]at bE;rw[bF]at aK;rw[b9,bU];have b1:E.length<=4294967296:=by rw[aK.o];simp;omega
 have b3:=h.segs;generalize hns:P.Ax=ns at *;generalize hlgs:A.j.Am=lgs at *;generalize hss:A.ix.segs=ss at *;obtain⟨sa,scap,rfl,sc1,cS⟩:=b3.Ce;unfold maxLen at cS;have cQ:=A1 b3
 go_enter func100,ntmps100
 go_wp2_with (fail);refine dI.o.mono ?_;rintro e I⟨rfl,b0⟩;have e3:BO ((3:Nat):Int) 0=AI:=rfl;rw[e3];have bG:A3 Ab w (I.alloc (.cells #[.string ⟨AI.toArray⟩] 9)):=b0.ak _;have a2:=((cE.o.aw bG).Af).c2;have a5:Hid (Dl (I.alloc (.cells #[.string ⟨AI.toArray⟩] 9)) (.slice (some (Aa I.heap.size 0)) 1 1) [AI]):=
  ⟨rfl,.inr ⟨I.heap.size,1,_,rfl,Cf _,BN I _,As _,by decide,rfl,rfl⟩⟩
 have cM:=A1 (dK.o _ bG);have cY:=A1 bG;have cH:=A1 <| b0.Ak;go_wp2_with (fail);refine cM.o.mono ?_;rintro e w2⟨v,rfl,hv,dC,aV⟩;obtain⟨la,bP,rfl,lc1,cL⟩:=(Dy.rd hv).Ce;unfold maxLen at cL;have dG:=A1 hv;have HLO:=A1 dC;have cU:=A1 <| cY.o.Ap aV λ_ h _=>h;have a9:Hid (Dl w2 (.slice (some (Aa I.heap.size 0)) 1 1) [AI]):=Ay a5.o λg d=>aV.Ao g (AB a5.o d) (λh=>h);go_wp2;go_loopw [4,23] (λv iv wr=>∃k:Nat,iv=A0 k/\k<=lgs.length/\Hid (Dl wr v ([AI]++(lgs.take k).map Ae)/\(∀g,v.ownBlock=some g->w.heap.size<=g)/\A3 Ab w wr/\Dy wr (.slice la lgs.length bP) lgs)) (λ_ iv _=>lgs.length-(intOf iv).toNat)
 case atStart=>exact⟨0,rfl,by omega,by simpa using a9.o,λg d=>by simp[Value.ownBlock]at d;have:=cH.o;omega,cU.o,dG.o⟩
 case round=>
  obtain⟨k,rfl,hk,hI⟩:=hrel;obtain⟨i1,i2,i3,i4⟩:=hI.o;obtain⟨ap,cp,rfl,aO,aH,-⟩:=B8 i1;unfold maxLen at aH;by_cases H:k<lgs.length
  ·obtain⟨g,o,rfl,d1⟩:=D5.at (Dy.rd i4) k H;have aA:=cP.o _ (BV H);have X:=Dn H;generalize bQ:(lgs[k]'H)=n at d1 aA X;have Y:=A1 (cJ.o wr 1 n i3 (by omega) aA);rw[show ((1:Nat):Int)=1 from rfl]at Y;(have aE:Hid ([AI]++(lgs.take (k+1)).map Ae=([AI]++(lgs.take k).map Ae)++[Ae n]):=by unfold Hid;rw[X];simp);have bC:BO 1 n=Ae n:=rfl;rw[bC]at Y;(have bN:([AI]++(lgs.take k).map Ae).length<=4294967296:=by simp;omega);generalize W:[AI]++(lgs.take k).map Ae=z at i1 i2 aE bN aO;have bM:=A1 bN;(have el:([AI]++(lgs.take k).map Ae).length=z.length:=by rw[W])
   try rw[el]
   generalize b6:Ae n=nm at Y aE;have bW:=A1 i1;have cD:=A1 i2;have cC:=A1 i3;have dA:=A1 i4;(have aN:(k:Int)<(lgs.length:Int):=by omega);have bZ:(0:Int)<=(k:Int):=Gp _;go_wp2_with (fail);refine Y.o.mono ?_;rintro e w6⟨rfl,aP⟩;have bT:=A1 aP;have O:Hid ((w6.alloc (.cells #[.string ⟨nm.toArray⟩] 9)).ownsRow 0 9 1 (.slice ap z.length cp) z.length (Dj z)):=Ay bW.o λg d=>(aP.ak _).Ao g (AB bW.o d) (λh=>h)
   have aG:=A1 (Src.bb (size:=1) (B:=w6.heap.size) underlying121 w6 #[.string ⟨nm.toArray⟩] 9 (by simp) 1 1 rfl (MC [nm]));go_wp2_with (at_builtin;refine D4 rfl (.tmp 27) (.tmp 30) 121 121 rfl 9 i0 _ 1 16 underlying121 hi aU aY aW rfl (by decide) (.slice ap z.length cp) z.length (Dj z) (by rfl) O.o _ 1 _ (by rfl) aG.o (by have:=bM.o;omega) ?_;intro a8 aD w8 L;have bB:=A1 L);go_roundw
   case rel=>
    have L:=bB.o;have k7:A3 Ab wr (w6.alloc (.cells #[.string ⟨nm.toArray⟩] 9)):=bT.o.ak _;have aF:=L.Aj (S:=λk=>(Value.slice ap z.length cp).ownBlock=some k) λ_ h=>h;have k8:A3 (λk=>(Value.slice ap z.length cp).ownBlock=some k) wr w8:=(k7.aa λ_ _ h=>h.elim).Ap aF λ_ h _=>h;(have e:(z++[nm]).length=z.length+1:=by simp);have e2:Dj (z++[nm])=Dj z++Dj [nm]:=MD _ _;refine⟨k+1,by go_num,by omega,?_,?_,?_,?_⟩
    ·rw[aE.o];unfold Dl;rw[e,e2];exact L.AA
    ·intro g d;rcases L.Cj with h|h
     ·rw[h]at d;exact cD.o g d
     ·rw[h]at d;cases d;have:=cC.o.Ak;have:=k7.Ak;have:=bT.o.Ak;omega
    ·exact cC.o.Ap k8 λy hy aT=>by have:=cD.o y hy;omega
    ·exact Ay dA.o λg d=>k8.Ao g (AB dA.o d) (Im dA.o bW.o (by decide) d)
   case measure=>simp[intOf];omega
  ·(obtain rfl:k=lgs.length:=by omega);rw[C6]at i1 i2;(have aN:¬((lgs.length:Int)<(lgs.length:Int)):=by omega);obtain⟨z,W⟩:∃z,[AI]++lgs.map Ae=z:=⟨_,rfl⟩;(have el:([AI]++(lgs.take lgs.length).map Ae).length=z.length:=by rw[C6,W]);rw[W]at i1 i2;rw[W]at aK
   try rw[el]
   have bW:=A1 i1;have cD:=A1 i2;have cC:=A1 i3;have a1:=(cE.o.aw i3).Af.c1;have x4:=(cE.o.aw i3).ix.c4;have HCUR:=A1 W;go_wp2;(have bN:z.length+ss.length<=4294967296:=by have:=b1;rw[aK.o]at this;simpa using this);go_loopw [4,41] (λv iv wr=>∃k:Nat,iv=A0 k/\k<=ss.length/\Hid (Dl wr v (z++(ss.take k).map AF)/\(∀g,v.ownBlock=some g->w.heap.size<=g)/\A3 Ab w wr)) (λ_ iv _=>ss.length-(intOf iv).toNat)
   case atStart=>exact⟨0,rfl,by omega,by simpa using bW.o,cD.o,cC.o⟩
   case round=>
    obtain⟨k,rfl,hk,hI⟩:=hrel;obtain⟨i1,i2,i3⟩:=hI.o;obtain⟨aI,aJ,rfl,bA,bD,-⟩:=B8 i1;unfold maxLen at bD;by_cases H:k<ss.length
    ·obtain⟨g,o,rfl,d0⟩:=D5.at cQ.o k H;have d1:=i3.al d0;have aA:=cV.o _ (BV H);have X:ss.take (k+1)=ss.take k++[ss[k]'H]:=Dn H;generalize bQ:(ss[k]'H)=n at d0 d1 aA X;have Y:=A1 (cJ.o wr 2 n i3 (by omega) aA);rw[show ((2:Nat):Int)=2 from rfl]at Y;(have aE:Hid (z++(ss.take (k+1)).map AF=(z++(ss.take k).map AF)++[AF n]):=by unfold Hid;rw[X];simp);have bC:BO 2 n=AF n:=rfl;rw[bC]at Y;(have a3:(z++(ss.take k).map AF).length<=4294967296:=by simp;omega);generalize dD:z++(ss.take k).map AF=cu at i1 i2 aE a3 bA;have bM:=A1 a3;(have el:(z++(ss.take k).map AF).length=cu.length:=by rw[dD])
     try rw[el]
     generalize b6:AF n=nm at Y aE;have aR:=A1 i1;have aL:=A1 i2;have aS:=A1 i3;(have aN:(k:Int)<(ss.length:Int):=by omega);have bZ:(0:Int)<=(k:Int):=Gp _;go_wp2_with (fail);refine Y.o.mono ?_;rintro e w6⟨rfl,aP⟩;have bT:=A1 aP;have O:Hid ((w6.alloc (.cells #[.string ⟨nm.toArray⟩] 9)).ownsRow 0 9 1 (.slice aI cu.length aJ) cu.length (Dj cu)):=Ay aR.o λg d=>(aP.ak _).Ao g (AB aR.o d) (λh=>h)
     have aG:=A1 (Src.bb (size:=1) (B:=w6.heap.size) underlying121 w6 #[.string ⟨nm.toArray⟩] 9 (by simp) 1 1 rfl (MC [nm]));go_wp2_with (at_builtin;refine D4 rfl (.tmp 45) (.tmp 48) 121 121 rfl 9 i0 _ 1 16 underlying121 hi aU aY aW rfl (by decide) (.slice aI cu.length aJ) cu.length (Dj cu) (by rfl) O.o _ 1 _ (by rfl) aG.o (by have:=bM.o;omega) ?_;intro a8 aD w8 L;have bB:=A1 L);go_roundw
     case rel=>
      have L:=bB.o;have k7:A3 Ab wr (w6.alloc (.cells #[.string ⟨nm.toArray⟩] 9)):=bT.o.ak _;have aF:=L.Aj (S:=λk=>(Value.slice aI cu.length aJ).ownBlock=some k) λ_ h=>h;have k8:A3 (λk=>(Value.slice aI cu.length aJ).ownBlock=some k) wr w8:=(k7.aa λ_ _ h=>h.elim).Ap aF λ_ h _=>h;(have e:(cu++[nm]).length=cu.length+1:=by simp);have e2:Dj (cu++[nm])=Dj cu++Dj [nm]:=MD _ _;refine⟨k+1,by go_num,by omega,?_,?_,?_⟩
      ·rw[aE.o];unfold Dl;rw[e,e2];exact L.AA
      ·intro g d;rcases L.Cj with h|h
       ·rw[h]at d;exact aL.o g d
       ·rw[h]at d;cases d;have:=aS.o.Ak;have:=k7.Ak;have:=bT.o.Ak;omega
      ·exact aS.o.Ap k8 λy hy aT=>by have:=aL.o y hy;omega
     case measure=>simp[intOf];omega
    ·(obtain rfl:k=ss.length:=by omega);rw[C6,<-aK.o]at i1 i2;(have aN:¬((ss.length:Int)<(ss.length:Int)):=by omega);(have el:(z++(ss.take ss.length).map AF).length=E.length:=by rw[C6,aK.o])
     try rw[el]
     have dN:=A1 (WS wr _ E i1 (by omega));have aL:=A1 i2;have aS:=A1 i3;go_wp2_with (fail);refine dN.o.mono ?_;rintro e w3⟨rfl,cG,aV⟩;(have cZ:Hid (A3 Ab w w3):=aS.o.Ap aV λy hy aT=>by have:=aL.o y hy;omega);have cX:Hid (GB w3 (.slice aI E.length aJ) (JV E)):=Dl.rd cG;have cO:=A1 (dJ.o w3 cZ.o);have a0:=(cE.o.aw cZ.o).Af.c0;go_wp2_with (fail);refine cO.o.mono ?_;rintro e w4⟨v,rfl,bV,b2,hvo4⟩;obtain⟨na,ncap,rfl,nc1,cN⟩:=(Dl.rd bV).Ce;unfold maxLen at cN;have cT:=A1 (Dl.rd bV);have cI:Hid (A3 Ab w w4):=cZ.o.Ap b2 λ_ h _=>h;have bH:=A1 (cX.o.Aj b2 (λ_ _ h=>h));have a6:Hid (∀x,decide (x∈JV E)=decide (x∈E)):=λx=>by
      by_cases h:x∈E
      ·rw[CH h,CH ((TB E x).2 h)]
      ·rw[CZ h,CZ λh'=>h ((TB E x).1 h')]
     have a7:=A0G E;have a4:=A0F E;generalize hSN:JV E=SN at bH a6 a7 a4;have bY:=A1 a7;obtain⟨sn,bX⟩:∃sn,E.length=sn:=⟨_,rfl⟩
     try rw[bX]
     rw[bX]at bH a4;(have hsnl:sn<=4294967296:=by omega);have dH:Hid (∀wx x,A3 Ab w4 wx->Ag 138 #[.slice aI sn aJ,.string ⟨x.toArray⟩] wx λe w'=>∃i,e=.returned (.tuple #[A0 i,.bool (decide (x∈E))])/\∃q,w'=wx.drewN q):=λwx x hx=>by
      have:=A2d wx _ SN x (bH.o.Aj hx (λ_ _ h=>h)) (by omega) bY.o;rw[a6.o x]at this;exact this
     have bS:ns.length<=1073741824:=dB;have cA:Hid (∀p:Bs->Bool,∀k,((ns.take k).filter p).length<=1073741824):=λp k=>AM (Jj _ _) (AM (List.length_take_le' _ _) bS);go_wp2;go_loopw [9,10,59] (λv1 v2 iv wr=>∃k:Nat,iv=A0 k/\k<=ns.length/\Hid (Dl wr v1 ((ns.take k).filter λnm=>decide (nm∈E))/\Dl wr v2 ((ns.take k).filter λnm=>!decide (nm∈E))/\(∀g,v1.ownBlock=some g->w4.heap.size<=g)/\(∀g,v2.ownBlock=some g->w4.heap.size<=g)/\(∀g,v1.ownBlock=some g->¬v2.ownBlock=some g)/\A3 Ab w4 wr)) (λ_ _ iv _=>ns.length-(intOf iv).toNat)
     case atStart=>exact⟨0,rfl,by omega,CD _ _ _ _,CD _ _ _ _,λg d=>by simp[Value.ownBlock]at d,λg d=>by simp[Value.ownBlock]at d,λg d=>by simp[Value.ownBlock]at d,A3.I _ _⟩
     case round=>
      obtain⟨k,rfl,hk,hI⟩:=hrel;obtain⟨i1,i2,i3,i4,i5,i6⟩:=hI.o;obtain⟨ap,cp,rfl,aO,aH,-⟩:=B8 i1;obtain⟨aq,cq,rfl,hcaq1,bJ,-⟩:=B8 i2;unfold maxLen at aH bJ;by_cases H:k<ns.length
      ·obtain⟨g,o,rfl,d0⟩:=GB.at cT.o k H;have d1:=i6.al d0;have X:ns.take (k+1)=ns.take k++[ns[k]'H]:=Dn H;generalize bQ:(ns[k]'H)=nm at d0 d1 X;have aX:=A1 (dH.o wr nm i6);have aQ:Hid ((ns.take (k+1)).filter (λnm=>decide (nm∈E))=(ns.take k).filter (λnm=>decide (nm∈E))++(if nm∈E then [nm] else [])):=by
        unfold Hid;rw[X,Lz];by_cases hx:nm∈E<;>simp[hx]
       have aM:Hid ((ns.take (k+1)).filter (λnm=>!decide (nm∈E))=(ns.take k).filter (λnm=>!decide (nm∈E))++(if nm∈E then [] else [nm])):=by
        unfold Hid;rw[X,Lz];by_cases hx:nm∈E<;>simp[hx]
       have b5:=A1 (cA.o (λnm=>decide (nm∈E)) k);have b7:=A1 (cA.o (λnm=>!decide (nm∈E)) k);obtain⟨l1,bR⟩:∃l1,(ns.take k).filter (λnm=>decide (nm∈E))=l1:=⟨_,rfl⟩;obtain⟨l2,b8⟩:∃l2,(ns.take k).filter (λnm=>!decide (nm∈E))=l2:=⟨_,rfl⟩;rw[bR]at aQ b5 i1 i3 i5;rw[b8]at aM b7 i2 i4 i5;(have bL:((ns.take k).filter (λnm=>decide (nm∈E))).length=l1.length:=by rw[bR]);(have bI:((ns.take k).filter (λnm=>!decide (nm∈E))).length=l2.length:=by rw[b8])
       try rw[bL]
       try rw[bI]
       have aR:=A1 i1;have aL:=A1 i2;have aS:=A1 i3;have cB:=A1 i4;have cF:=A1 i5;have bO:=A1 i6;(have aN:(k:Int)<(ns.length:Int):=by omega);have bZ:(0:Int)<=(k:Int):=Gp _;by_cases hx:nm∈E
       ·rw[CH hx]at aX;rw[Ah hx]at aQ aM;go_wp2_with (fail);refine aX.o.mono ?_;rintro e w6⟨i,rfl,q,rfl⟩;have O:Hid (((wr.drewN q).alloc (.cells #[.string ⟨nm.toArray⟩] 9)).ownsRow 0 9 1 (.slice ap l1.length cp) l1.length (Dj l1)):=Ay aR.o λg d=>(((A3.I Ab wr).ba q).ak _).Ao g (AB aR.o d) (λh=>h)
        have aG:=A1 (Src.bb (size:=1) (B:=(wr.drewN q).heap.size) underlying121 (wr.drewN q) #[.string ⟨nm.toArray⟩] 9 (by simp) 1 1 rfl (MC [nm]));have b4:Hid (A3 Ab wr ((wr.drewN q).alloc (.cells #[.string ⟨nm.toArray⟩] 9))):=((A3.I Ab wr).ba q).ak _;go_wp2_with (at_builtin;refine D4 rfl (.tmp 70) (.tmp 72) 121 121 rfl 9 i0 _ 1 16 underlying121 hi aU aY aW rfl (by decide) (.slice ap l1.length cp) l1.length (Dj l1) (by rfl) O.o _ 1 _ (by rfl) aG.o (by have:=b5.o;omega) ?_;intro a8 aD w8 L;have bB:=A1 L);go_roundw
        case rel=>
         have L:=bB.o;have aF:=L.Aj (S:=λk=>(Value.slice ap l1.length cp).ownBlock=some k) λ_ h=>h;have k8:A3 (λk=>(Value.slice ap l1.length cp).ownBlock=some k) wr w8:=(b4.o.aa λ_ _ h=>h.elim).Ap aF λ_ h _=>h;(have e:(l1++[nm]).length=l1.length+1:=by simp);have e2:Dj (l1++[nm])=Dj l1++Dj [nm]:=MD _ _;have aB:∀g,(Value.slice a8 (l1.length+1) aD).ownBlock=some g->(Value.slice ap l1.length cp).ownBlock=some g\/wr.heap.size<=g:=λg d=>by
          rcases L.Cj with h|h
          ·rw[h]at d;exact .inl d
          ·rw[h]at d;cases d;exact .inr b4.o.Ak
         refine⟨k+1,by go_num,by omega,?_,?_,?_,cB.o,?_,?_⟩
         ·rw[aQ.o];unfold Dl;rw[e,e2];exact L.AA
         ·rw[aM.o,FF];exact Ay aL.o λg d=>k8.Ao g (AB aL.o d) λh=>cF.o g h d
         ·exact λg d=>(aB g d).elim (aS.o g) λh=>AM bO.o.Ak h
         ·exact λg d aZ=>(aB g d).elim (λh=>cF.o g h aZ) λh=>by have:=AB aL.o aZ;omega
         ·exact bO.o.Ap k8 λy hy aT=>by have:=aS.o y hy;omega
        case measure=>simp[intOf];omega
       ·rw[CZ hx]at aX;rw[Ad hx]at aQ aM;go_wp2_with (fail);refine aX.o.mono ?_;rintro e w6⟨i,rfl,q,rfl⟩;have O:Hid (((wr.drewN q).alloc (.cells #[.string ⟨nm.toArray⟩] 9)).ownsRow 0 9 1 (.slice aq l2.length cq) l2.length (Dj l2)):=Ay aL.o λg d=>(((A3.I Ab wr).ba q).ak _).Ao g (AB aL.o d) (λh=>h)
        have aG:=A1 (Src.bb (size:=1) (B:=(wr.drewN q).heap.size) underlying121 (wr.drewN q) #[.string ⟨nm.toArray⟩] 9 (by simp) 1 1 rfl (MC [nm]));have b4:Hid (A3 Ab wr ((wr.drewN q).alloc (.cells #[.string ⟨nm.toArray⟩] 9))):=((A3.I Ab wr).ba q).ak _;go_wp2_with (at_builtin;refine D4 rfl (.tmp 74) (.tmp 76) 121 121 rfl 9 i0 _ 1 16 underlying121 hi aU aY aW rfl (by decide) (.slice aq l2.length cq) l2.length (Dj l2) (by rfl) O.o _ 1 _ (by rfl) aG.o (by have:=b7.o;omega) ?_;intro a8 aD w8 L;have bB:=A1 L);go_roundw
        case rel=>
         have L:=bB.o;have aF:=L.Aj (S:=λk=>(Value.slice aq l2.length cq).ownBlock=some k) λ_ h=>h;have k8:A3 (λk=>(Value.slice aq l2.length cq).ownBlock=some k) wr w8:=(b4.o.aa λ_ _ h=>h.elim).Ap aF λ_ h _=>h;(have e:(l2++[nm]).length=l2.length+1:=by simp);have e2:Dj (l2++[nm])=Dj l2++Dj [nm]:=MD _ _;have aB:∀g,(Value.slice a8 (l2.length+1) aD).ownBlock=some g->(Value.slice aq l2.length cq).ownBlock=some g\/wr.heap.size<=g:=λg d=>by
          rcases L.Cj with h|h
          ·rw[h]at d;exact .inl d
          ·rw[h]at d;cases d;exact .inr b4.o.Ak
         refine⟨k+1,by go_num,by omega,?_,?_,aS.o,?_,?_,?_⟩
         ·rw[aQ.o,FF];exact Ay aR.o λg d=>k8.Ao g (AB aR.o d) λh=>cF.o g d h
         ·rw[aM.o];unfold Dl;rw[e,e2];exact L.AA
         ·exact λg d=>(aB g d).elim (cB.o g) λh=>AM bO.o.Ak h
         ·exact λg d aZ=>(aB g aZ).elim (λh=>cF.o g d h) λh=>by have:=AB aR.o d;omega
         ·exact bO.o.Ap k8 λy hy aT=>by have:=cB.o y hy;omega
        case measure=>simp[intOf];omega
      ·(obtain rfl:k=ns.length:=by omega);rw[C6,<-bK.o]at i1 i3;rw[C6,<-bE.o]at i2 i4;(have bL:((ns.take ns.length).filter (λnm=>decide (nm∈E))).length=dM.length:=by rw[C6,<-bK.o]);(have bI:((ns.take ns.length).filter (λnm=>!decide (nm∈E))).length=dL.length:=by rw[C6,<-bE.o])
       try rw[bL]
       try rw[bI]
       have aR:=A1 i1;have aL:=A1 i2;have aS:=A1 i3;have cB:=A1 i4;have bO:=A1 i6;(have aN:¬((ns.length:Int)<(ns.length:Int)):=by omega);go_wp2;go_ret2;exact⟨_,_,rfl,aR.o,aL.o,λg d=>AM cI.o.Ak (aS.o g d),λg d=>AM cI.o.Ak (cB.o g d),cI.o.Ap bO.o λ_ h _=>h⟩
end
section
variable {w:World} {ab b xb jb B:Nat} {sv ov lv jo:Value} {A:Ar} {P:PD} {Ft FT:Nat->Prop} {a c m:Nat}
def A07(h:Bn w b P Ft)(nm:Bs)(E:Fit P a c m)(z:CN a c m):
 Ag 193 #[A5 b,.string ⟨nm.toArray⟩] w (Al (A0 (P.az (A8 nm)).1) λw'=>Aq w Ft w' (λw' d=>Bn w' b (P.az (A8 nm)).2 d)):=
 XL h (A8 nm) (by have:=E.A4;have:=E.Aj;have:=z.a;have:=z.c;omega)
def removeAll_cons(nm:Bs)(r:List Bs)(P:PD):PD.aL (nm::r) P=if (P.az (A8 nm)).1≠0 then P.az (A8 nm) else PD.aL r (P.az (A8 nm)).2:=rfl
def S6(A:Ar)(P:PD)(h:Fit P a c m):(A.aU P).length<=a:=by
 unfold Ar.aU;exact AM (Jj _ _) (by rw[KM];exact h.A4)
def QJ(w:World)(h:AD w ab b A P FT)(hF:Fit P a c m)(hl:CN a (c+a) m)(hn:∀n∈A.ix.segs,CJ n)(aW:∀n∈A.j.Am,CJ n)(aR:A.ix.segs.length<=1073741824)(aU:A.j.Am.length<=1073741824)(hL:Lets B w):
 Ag 150 #[A5 ab] w (Al (A0 (A.aq P).1) λw'=>Aq w FT w' (λw' aQ=>AD w' ab b A (A.aq P).2 aQ)):=by
 obtain⟨xb,jb,sv,ov,lv,jo,Ft,hV,aH⟩:=h;have a4:=A1 (RZ w hV hF ⟨hl.a,by have:=hl.c;omega,hl.m⟩ hn aW aR aU hL);have hol:=S6 A P hF;have a0:=A1 hV;have H:=A1 aH;have a1:Hid (A.aq P=PD.aL (A.aU P) P):=rfl;have a2:=A1 removeAll_cons;generalize hR:A.aq P=R at a1 ⊢;have aY:=A1 hF;have aD:=A1 hl;generalize A.aU P=os at *
 go_enter func150,ntmps150
 go_wp2_with (fail);refine a4.m ?_;rintro e w1⟨v1,v2,rfl,-,h2,-,aT,aJ⟩;obtain⟨oa,ocap,rfl,oc1,aZ⟩:=(Dl.rd h2).Ce;unfold maxLen at aZ;have aS:=A1 (Dl.rd h2);have aX:=A1 aT;have aF:=A1 aJ;have z:=A1 (a0.o.aw aJ);go_wp2;go_loopw [15] (λiv wr=>∃(k:Nat),iv=A0 k/\k<=os.length/\Hid (∃E,Aq w1 Ft wr (λw' d=>Ck w' ab b xb jb sv ov lv jo A E d)/\Fit E a (c+k) m/\R=PD.aL (os.drop k) E)) (λiv _=>os.length-(intOf iv).toNat)
 case atStart=>exact⟨0,rfl,by omega,P,⟨A3.I _ _,Ft,z.o,z.o.lt,λk hk=>.inl hk⟩,aY.o,a1.o⟩
 case round=>
  obtain⟨k,rfl,hk,hI⟩:=hrel;obtain⟨E,hi,hf,hx⟩:=hI.o;obtain⟨c1,aG,hv,aN,s1⟩:=hi;by_cases aA:k<os.length
  ·obtain⟨g,o,rfl,d0⟩:=GB.at aS.o k aA;have d1:=c1.bH d0 (λh=>by have:=a0.o.lt _ h;have:=aX.o g rfl;have h':g<w.heap.size:=a0.o.lt _ h;omega);have aI:=Fw aA;generalize hne:(os[k]'aA)=nm at d0 d1 aI;rw[aI,a2.o]at hx;have e0:=hv.Af.c0;have aM:CN a (c+k) m:=⟨aD.o.a,by have:=aD.o.c;omega,aD.o.m⟩;have aK:=A1 (A07 hv.dk nm hf aM);(have aE:Hid (Fit (E.az (A8 nm)).2 a (c+(k+1)) m):=by have:=hf.az (A8 nm);exact this);generalize hY:E.az (A8 nm)=Y at aK hx aE;have X:Hid (∀O,Aq wr aG O (λw' d=>Bn w' b Y.2 d)->Aq w1 Ft O (λw' d=>Ck w' ab b xb jb sv ov lv jo A Y.2 d)):=λO h6=>Aq.a7 c1 s1 (hv.cg h6);have aB:=A1 hx;(have aO:(k:Int)<(os.length:Int):=by omega);have hk0:=C3 k;obtain⟨aL,aP⟩:=Y;dsimp only at aK X aB aE;by_cases hy:aL=0
   case neg=>
    (have I:R=(aL,aP):=by rw[aB.o,Ah hy]);subst I;(have hyb:(aL !=0)=true:=by simpa using hy);go_wp2_with (go_at_call 193;refine aK.m ?_;rintro e O⟨rfl,W⟩;have L:=A1 (X.o O W));go_ret;exact⟨rfl,(z.o.cH H.o L.o).a6 aF.o⟩
   case pos=>
    subst hy;(have aV:Hid (R=PD.aL (os.drop (k+1)) aP):=by unfold Hid;rw[aB.o,Ad (by simp)]);go_wp2_with (go_at_call 193;refine aK.m ?_;rintro e O⟨rfl,W⟩;have L:=A1 (X.o O W));go_roundw
    case rel=>exact⟨k+1,by go_num,by omega,aP,L.o,aE.o,aV.o⟩
    case measure=>simp[intOf];omega
  ·(obtain rfl:k=os.length:=by omega);rw[Gn]at hx;have I:R=(0,E):=hx;subst I;(have aO:¬((os.length:Int)<(os.length:Int)):=by omega);have a3:Hid (Aq w1 Ft wr (λw' d=>Ck w' ab b xb jb sv ov lv jo A E d)):=⟨c1,aG,hv,aN,s1⟩;go_wp2;go_ret;exact⟨rfl,(z.o.cH H.o a3.o).a6 aF.o⟩
def ZX{nm:Bs}{s:Nat}{f0:Int}{E:List Int}(w:World)(h:BZ w xb 162 b nm s f0 sv)(W:D5 w sv E)(I:Value)(l:List Int)(O:D5 w I l)(z:Int):
 Ag 198 #[A5 xb,A0 z,I] w (Al (.bool (decide (f0=z/\E=l))) λw'=>∃q,w'=w.drewN q):=by
 have c3:=h.c3;have c4:=h.c4;have L:=A1 (A0Y w sv I E l W O);obtain⟨ka,kcap,rfl,k1,k2⟩:=O.Ce;obtain⟨sa,scap,rfl,s1,s2⟩:=W.Ce;by_cases H:f0=z
 ·subst H;have e:decide (f0=f0/\E=l)=decide (E=l):=by simp
  rw[e];generalize hd:decide (E=l)=d at L ⊢
  go_enter func198,ntmps198
  go_wp2_with (go_at_call 241;refine L.m ?_;rintro e w2⟨rfl,q,rfl⟩);go_ret;exact⟨rfl,q,rfl⟩
 ·have e:decide (f0=z/\E=l)=false:=CZ λh=>H h.1;rw[e];have hb:(f0==z)=false:=by simpa using H
  go_enter func198,ntmps198
  go_wp2;go_ret;exact⟨rfl,0,rfl⟩
def Ck.eE{w':World}{P':PD}{f':Int}{E:Value}{z:List Int}(h:Ck w ab b xb jb sv ov lv jo A P Ft)(W:BZ w' xb 162 b AI (AE AI) f' E)(hr:D5 w' E z)(hI:Jp w Ft xb w' b P')(L:∀g,E.ownBlock=some g->sv.ownBlock=some g\/(g<w.heap.size/\¬Ft g/\¬Fe ab xb jb sv ov lv jo g)):
 ∃I,Ck w' ab b xb jb E ov lv jo {A with ix:=⟨f',z⟩} P' I/\A3 (λk=>Ft k\/k=xb) w w'/\∀k,I k->Ft k\/w.heap.size<=k:=by
 obtain⟨hc,I,h2,h3,Y⟩:=hI;have key:∀k,Fe ab xb jb sv ov lv jo k->k≠xb->w'.heap[k]?=w.heap[k]?:=λk d X=>hc.Ao k (h.bI d) λW=>W.elim (h.De k d) X;have sS:∀g,E.ownBlock=some g->g≠ab/\g≠xb/\¬Dh jb lv jo g:=λg H=>by
  rcases L g H with H|⟨_,_,H⟩
  ·exact h.Fg g H
  ·exact⟨λe=>H (.inl e),λe=>H (.inr (.inl e)),λe=>H (.inr (.inr (.inr (.inr e))))⟩
 refine⟨I,⟨(key ab (.inl rfl) h.ne).trans h.Af,W,hr,h.AP.aP λg H=>key g (.inr (.inr (.inr (.inl H)))) (h.G3 g H).2.1,h.jn.aP λk d=>key k (.inr (.inr (.inr (.inr d)))) (h.FB k d).2,h2,h3,?_,sS,h.G3,h.FB⟩,hc,Y⟩;intro k d W;rcases Y k W with O|O
 ·rcases d with d|d|d|d|d
  ·exact h.De k (.inl d) O
  ·exact h.De k (.inr (.inl d)) O
  ·rcases L k d with d|⟨_,d,_⟩
   ·exact h.De k (.inr (.inr (.inl d))) O
   ·exact d O
  ·exact h.De k (.inr (.inr (.inr (.inl d)))) O
  ·exact h.De k (.inr (.inr (.inr (.inr d)))) O
 ·have:k<w.heap.size:=by
   rcases d with d|d|d|d|d
   ·exact h.bI (.inl d)
   ·exact h.bI (.inr (.inl d))
   ·rcases L k d with d|⟨d,_⟩
    ·exact h.bI (.inr (.inr (.inl d)))
    ·exact d
   ·exact h.bI (.inr (.inr (.inr (.inl d))))
   ·exact h.bI (.inr (.inr (.inr (.inr d))))
  omega
def Ck.fK{w':World}{lv' I:Value}{X:Jn}(h:Ck w ab b xb jb sv ov lv jo A P Ft)(hj:Dx w' jb b lv' I X)(Y:A3 (One jb) w w')(L:lv'.ownBlock=none)(O:I=.pointer none):Ck w' ab b xb jb sv ov lv' I {A with j:=X} P Ft:=by
 have key:∀k,k≠jb->k<w.heap.size->w'.heap[k]?=w.heap[k]?:=λk d hl=>Y.Ao k hl d;have E:∀k,Dh jb lv' I k->k=jb:=λk d=>by
  rcases d with h|h|h
  ·exact h
  ·rw[L]at h;cases h
  ·rw[O]at h;cases h
 have H:Dh jb lv jo jb:=.inl rfl
 refine⟨(key ab (λe=>(h.FB jb H).1 e.symm) h.Af.lt).trans h.Af,(key xb (λe=>(h.FB jb H).2 e.symm) h.ix.lt).trans h.ix,h.segs.aP λg z=>key g (λe=>(h.Fg g z).2.2 (e ▸ H)) (h.segs.lt z),h.AP.aP λg z=>key g (λe=>(h.G3 g z).2.2 (e ▸ H)) (h.AP.lt z),hj,
  B3.aP h.dk λk d=>key k (λe=>by subst e;exact h.De _ (.inr (.inr (.inr (.inr H)))) d) (h.lt k d),λk d=>Bk (h.lt k d) Y.Ak,?_,λg z=>?_,λg z=>?_,λk d=>?_⟩
 ·intro k d;rcases d with d|d|d|d|d
  ·exact h.De k (.inl d)
  ·exact h.De k (.inr (.inl d))
  ·exact h.De k (.inr (.inr (.inl d)))
  ·exact h.De k (.inr (.inr (.inr (.inl d))))
  ·rw[E k d];exact h.De jb (.inr (.inr (.inr (.inr H))))
 ·exact⟨(h.Fg g z).1,(h.Fg g z).2.1,λW=>(h.Fg g z).2.2 (by rw[E g W];exact H)⟩
 ·exact⟨(h.G3 g z).1,(h.G3 g z).2.1,λW=>(h.G3 g z).2.2 (by rw[E g W];exact H)⟩
 ·rw[E k d];exact h.FB jb H
def A2p(w:World)(h:AD w ab b A P FT)(kv:Value)(l:List Int)(E:D5 w kv l)(aZ:∀g,kv.ownBlock=some g->¬FT g)(hr:AN (A.j.A9+1))(aT:∀x∈l,AN x)(aU:l.length<=134217728)(hF:Fit P a c m)(hl:CN (a+2) (c+2) (m+12+8*l.length))(hL:Lets B w):
 Ag 152 #[A5 ab,kv] w (Al (A0 (A.ag P l).1) λw'=>Aq w (λk=>FT k\/kv.ownBlock=some k) w' (λw' aS=>AD w' ab b (A.ag P l).2.1 (A.ag P l).2.2 aS)):=by
 obtain⟨xb,jb,sv,ov,lv,jo,Ft,W,aN⟩:=h
 have aM:Hid (A.ag P l=if A.ix.B7=A.j.A9+1/\A.ix.segs=l then (0,A,P) else
  if (P.ag (A.j.A9+1) l).1≠0 then ((P.ag (A.j.A9+1) l).1,A,(P.ag (A.j.A9+1) l).2) else
  (0,{A with ix:=⟨A.j.A9+1,l⟩,j:=⟨[],A.j.A9,0,none⟩},(P.ag (A.j.A9+1) l).2)):=rfl
 have aX:Hid (∀w1,A3 Ab w w1->_):=λw1 Y=>Sv w1 (W.jn.aw Y) hr;have aK:Hid (∀w1,A3 Ab w w1->_):=λw1 Y=>ZX w1 (W.ix.aj Y (λh=>h)) (W.segs.Aj Y (λ_ _ h=>h)) kv l (E.Aj Y (λ_ _ h=>h)) (A.j.A9+1);have aR:Hid (∀w1,A3 Ab w w1->_):=λw1 Y=>W6 w1 (A.j.A9+1) A.ix.B7 kv sv l (W.ix.aj Y (λh=>h)) (B3.aH W.dk W.lt Y) (λk E=>Bk (W.lt k E) Y.Ak) (W.De xb (.inr (.inl rfl))) hF hl (hL.aS Y) (E.Aj Y (λ_ _ h=>h)) hr aT aU;obtain⟨ka,H,rfl,k1,k2⟩:=E.Ce;have a1:=A1 W;have d:=A1 aN;have a2:=A1 E;have aL:=A1 aZ;generalize hR:A.ag P l=R at aM ⊢;generalize hT:P.ag (A.j.A9+1) l=T at aM aR;generalize hLL:A.j.A9+1=L at aM aX aK aR;have HB:=A1 W.Af;have d1:=W.Af.af.c1;have d2:=W.Af.af.c2;have aO:=A1 (aX.o w.drew (A3.I _ w).af);by_cases z:A.ix.B7=L/\A.ix.segs=l
 case pos=>
  have aA:R=(0,A,P):=by rw[aM.o,Ah z]
  subst aA;rw[CH z]at aK;have aF:=A1 (aK.o w.drew (A3.I _ w).af)
  go_enter func152,ntmps152
  go_wp2;refine BP (λw'=>A7 w' ab 1 (A5 xb)/\A7 w' ab 2 (A5 jb)) 10
   (Bq [0,1,2,3,4,5,6,7,9,8] [8]) ⟨d1,d2⟩ ?_
  iterate 9 (refine Bg ?_;(try simp only[An]))
  refine Bw λK hK=>?_;go_simp;refine aO.m ?_;rintro e w3⟨rfl,rfl⟩;refine hK _ _ ⟨d1,d2⟩ (λhS=>?_)
  (try simp only[An])
  refine Bl ?_;simp only[BI,BH];go_wp2_with (go_at_call 198;refine aF.m ?_;rintro e w4⟨rfl,q,rfl⟩);go_ret;have kq:=(A3.I Ab w).ba (1+q);exact⟨rfl,Ck.bN (FT:=λk=>FT k\/(Value.slice ka l.length H).oB k) (a1.o.aw kq) kq (λ_ _ h=>h.elim) (λk E=>.inl (.inl (d.o k (.inl E)))) λk E=>.inl (.inl (d.o k (.inr E)))⟩
 case neg=>
  rw[CZ z]at aK;have aF:=A1 (aK.o w.drew (A3.I _ w).af);have aH:Hid (R=if T.1≠0 then (T.1,A,T.2) else (0,{A with ix:=⟨L,l⟩,j:=⟨[],A.j.A9,0,none⟩},T.2)):=by unfold Hid;rw[aM.o,Ad z]
  go_enter func152,ntmps152
  go_wp2;refine BP (λw'=>A7 w' ab 1 (A5 xb)/\A7 w' ab 2 (A5 jb)) 10
   (Bq [0,1,2,3,4,5,6,7,9,8] [8]) ⟨d1,d2⟩ ?_
  iterate 9 (refine Bg ?_;(try simp only[An]))
  refine Bw λK hK=>?_;go_simp;refine aO.m ?_;rintro e w3⟨rfl,rfl⟩;refine hK _ _ ⟨d1,d2⟩ (λhS=>?_)
  (try simp only[An])
  refine Bl ?_;simp only[BI,BH];go_wp2_with (fail);refine aF.m ?_;rintro e w4⟨rfl,q,rfl⟩;have k4:A3 Ab w (w.drewN (1+q)):=(A3.I Ab w).ba (1+q);have a3:=a1.o.aw k4;have x1:=a3.Af.af.c1;have x2:=a3.Af.af.c2;have X:=A1 (a1.o.aw k4.af);have aG:=A1 k4.af;have aB:=A1 (aR.o _ k4.af);have aE:=A1 (aX.o _ k4.af);go_wp2;generalize w.drewN (1+q)=w4 at X aG aB aE x1 x2 ⊢;obtain⟨aY,a4⟩:=T;dsimp only at aB aH;have aD:Hid (ab≠xb/\¬Ft ab):=⟨X.o.ne,X.o.De ab (.inl rfl)⟩;by_cases ht:aY=0
  case neg=>
   (have aA:R=(aY,A,a4):=by rw[aH.o,Ah ht]);subst aA;(have htb:(aY !=0)=true:=by simpa using ht);refine BP (λw'=>A7 w' ab 1 (A5 xb)/\A7 w' ab 2 (A5 jb)) 11
    (Bq [0,1,2,3,4,5,6,7,9,8,10] [8,10]) ⟨x1,x2⟩ ?_
   iterate 9 (refine Bg ?_;(try simp only[An]))
   refine Bw λK hK=>?_;go_simp;refine aE.m ?_;rintro e w3⟨rfl,rfl⟩;refine hK _ _ ⟨x1,x2⟩ (λhS=>?_)
   (try simp only[An])
   refine Bw λK hK=>?_;go_simp;refine aB.m ?_;rintro e w6⟨rfl,hx,hI⟩;have b6:D3 w6 ab b xb jb A.A9 ov:=X.o.Af.aj hI.1 λh=>h.elim aD.o.2 aD.o.1;refine hK _ _ ⟨b6.c1,b6.c2⟩ (λhS=>?_);rw[Ad ht,Ad ht]at hx;have aP:=A1 (X.o.eE hx (X.o.segs.aP λg I=>hI.1.Ao g (X.o.segs.lt I) λh=>h.elim (X.o.De g (.inr (.inr (.inl I)))) (X.o.Fg g I).2.1) hI λg I=>.inl I)
   (try simp only[An])
   refine Bl ?_;simp only[BI,BH];go_wp2;go_ret;obtain⟨aJ,h1,h2,h3⟩:=aP.o;have aW:A3 (λk=>Ft k\/k=xb) w w6:=(aG.o.aa (S':=λk=>Ft k\/k=xb) λ_ _ h=>h.elim).tr h2;refine⟨rfl,Ck.bN (FT:=λk=>FT k\/(Value.slice ka l.length H).oB k) h1 aW ?_ ?_ ?_⟩
   ·rintro k _ (h|rfl)
    ·exact .inl (d.o k (.inl h))
    ·exact .inl (d.o _ (.inr (.inr (.inl rfl))))
   ·exact λk E=>(h3 k E).imp (λh=>.inl (d.o k (.inl h))) λh=>AM aG.o.Ak h
   ·exact λk E=>.inl (.inl (d.o k (.inr E)))
  case pos=>
   subst ht;(have aA:R=(0,{A with ix:=⟨L,l⟩,j:=⟨[],A.j.A9,0,none⟩},a4):=by rw[aH.o,Ad (by simp)]);subst aA;have O:Hid (∀g,(Value.slice ka l.length H).oB g->g<w4.drew.heap.size/\¬Ft g/\¬Fe ab xb jb sv ov lv jo g):=λg I=>⟨Bk (a2.o.lt I) aG.o.Ak,λh=>aL.o g I (d.o g (.inl h)),λh=>aL.o g I (d.o g (.inr h))⟩
   refine BP (λw'=>A7 w' ab 1 (A5 xb)/\A7 w' ab 2 (A5 jb)) 11
    (Bq [0,1,2,3,4,5,6,7,9,8,10] [8,10]) ⟨x1,x2⟩ ?_
   iterate 9 (refine Bg ?_;(try simp only[An]))
   refine Bw λK hK=>?_;go_simp;refine aE.m ?_;rintro e w3⟨rfl,rfl⟩;refine hK _ _ ⟨x1,x2⟩ (λhS=>?_)
   (try simp only[An])
   refine Bw λK hK=>?_;go_simp;refine aB.m ?_;rintro e w6⟨rfl,hx,hI⟩;have b6:D3 w6 ab b xb jb A.A9 ov:=X.o.Af.aj hI.1 λh=>h.elim aD.o.2 aD.o.1;refine hK _ _ ⟨b6.c1,b6.c2⟩ (λhS=>?_);rw[Ah rfl,Ah rfl]at hx;have aV:D5 w6 (.slice ka l.length H) l:=(a2.o.Aj aG.o (λ_ _ h=>h)).aP λg I=>hI.1.Ao g (O.o g I).1 λh=>h.elim (O.o g I).2.1 λe=>(O.o g I).2.2 (.inr (.inl e))
   have aP:=A1 (X.o.eE hx aV hI λg I=>.inr (O.o g I));have d2:=b6.c2
   (try simp only[An])
   refine Bl ?_;simp only[BI,BH];obtain⟨aJ,h1,h2,h3⟩:=aP.o;have a8:=A1 (Zt w6 h1.jn);have a7:=A1 h1;have a6:Hid (A3 (λk=>Ft k\/k=xb) w w6):=(aG.o.aa (S':=λk=>Ft k\/k=xb) λ_ _ h=>h.elim).tr h2;have a5:Hid (∀k,aJ k->Ft k\/w.heap.size<=k):=λk E=>(h3 k E).imp id λh=>AM aG.o.Ak h
   go_wp2_with (go_at_call 201;refine a8.m ?_;rintro e w7⟨rfl,hj,aQ⟩;have a9:=A1 hj;have aI:=A1 aQ);go_ret;have a0:=a7.o.fK a9.o aI.o (by simp[Value.ownBlock]) rfl;refine⟨rfl,Ck.bN (FT:=λk=>FT k\/(Value.slice ka l.length H).oB k) (S:=λk=>(Ft k\/k=xb)\/k=jb) a0 ((a6.o.aa λ_ _ h=>.inl h).Ap aI.o λ_ h _=>.inr h) ?_ ?_ ?_⟩
   ·rintro k _ ((h|rfl)|rfl)
    ·exact .inl (d.o k (.inl h))
    ·exact .inl (d.o _ (.inr (.inr (.inl rfl))))
    ·exact .inl (d.o _ (.inr (.inr (.inr (.inr (.inr (.inl rfl)))))))
   ·exact λk E=>(a5.o k E).imp (λh=>.inl (d.o k (.inl h))) id
   ·rintro k (h|h|h|h|h)
    ·exact .inl (.inl (d.o k (.inr (.inl h))))
    ·exact .inl (.inl (d.o k (.inr (.inr (.inl h)))))
    ·exact .inl (.inr h)
    ·exact .inl (.inl (d.o k (.inr (.inr (.inr (.inr (.inl h)))))))
    ·rcases h with h|h|h
     ·exact .inl (.inl (d.o k (.inr (.inr (.inr (.inr (.inr (.inl h))))))))
     ·simp[Value.ownBlock]at h
     ·cases h
end
def Fit.ax{a c m:Nat}:∀(l:List Bs) (P:PD),Fit P a c m->Fit (PD.ax l P).2 a c m
 | [],P,h=>h
 | nm::r,P,h=>by
  rw[QE];split
  ·exact h.ae _
  ·exact Fit.ax r _ (h.ae _)
def Fit.C{A:Ar}{P:PD}{a c m:Nat}(h:Fit P a c m):Fit (A.C P).2.2 a c m:=by
 unfold Ar.C;split
 ·exact h.ax _ _
 ·exact h.ax _ _
def Fit.aL{a m:Nat}:∀(l:List Bs) (P:PD) (c:Nat),Fit P a c m->Fit (PD.aL l P).2 a (c+l.length) m
 | [],P,c,h=>h
 | nm::r,P,c,h=>by
  rw[removeAll_cons];split
  ·exact(h.az _).aa (As _) (by simp) (As _)
  ·exact(Fit.aL r _ _ (h.az _)).aa (As _) (by simp;omega) (As _)
def Fit.aq{A:Ar}{P:PD}{a c m:Nat}(h:Fit P a c m):Fit (A.aq P).2 a (c+a) m:=by
 have d:=Fit.aL (A.aU P) P c h;have h2:=S6 A P h;exact d.aa (As _) (by omega) (As _)
def NG(A:Ar)(P:PD):(A.C P).2.1.ix=A.ix/\(A.C P).2.1.j=A.j/\(A.C P).2.1.A9=A.A9:=by
 unfold Ar.C;split<;>exact⟨rfl,rfl,rfl⟩
def Ar.aM(A:Ar)(P:PD):Int×Ar×PD:=
 if (A.C P).1≠0 then A.C P else (((A.C P).2.1.aq (A.C P).2.2).1,(A.C P).2.1,((A.C P).2.1.aq (A.C P).2.2).2)
def Ym(A:Ar)(P:PD):(A.aM P).2.1.ix=A.ix/\(A.aM P).2.1.j=A.j/\(A.aM P).2.1.A9=A.A9:=by
 unfold Ar.aM;split<;>exact NG A P
def Fit.aM{A:Ar}{P:PD}{a c m:Nat}(h:Fit P a c m):Fit (A.aM P).2.2 a (c+a) m:=by
 unfold Ar.aM;split
 ·exact h.C.aa (As _) (by omega) (As _)
 ·exact h.C.aq
def Ri(A:Ar)(P:PD)(kept:List Int)(fresh:List (List Pu)):A.ay P kept fresh=if (A.aM P).1≠0 then A.aM P else
 if (PD.ah fresh (A.aM P).2.1.A9 kept (A.aM P).2.2).1≠0 then ((PD.ah fresh (A.aM P).2.1.A9 kept (A.aM P).2.2).1,{ (A.aM P).2.1 with A9:=(PD.ah fresh (A.aM P).2.1.A9 kept (A.aM P).2.2).2.1},(PD.ah fresh (A.aM P).2.1.A9 kept (A.aM P).2.2).2.2.2) else
 if (({ (A.aM P).2.1 with A9:=(PD.ah fresh (A.aM P).2.1.A9 kept (A.aM P).2.2).2.1}:Ar).ag (PD.ah fresh (A.aM P).2.1.A9 kept (A.aM P).2.2).2.2.2 (PD.ah fresh (A.aM P).2.1.A9 kept (A.aM P).2.2).2.2.1).1≠0 then
  ({ (A.aM P).2.1 with A9:=(PD.ah fresh (A.aM P).2.1.A9 kept (A.aM P).2.2).2.1}:Ar).ag (PD.ah fresh (A.aM P).2.1.A9 kept (A.aM P).2.2).2.2.2 (PD.ah fresh (A.aM P).2.1.A9 kept (A.aM P).2.2).2.2.1
 else (({ (A.aM P).2.1 with A9:=(PD.ah fresh (A.aM P).2.1.A9 kept (A.aM P).2.2).2.1}:Ar).ag (PD.ah fresh (A.aM P).2.1.A9 kept (A.aM P).2.2).2.2.2 (PD.ah fresh (A.aM P).2.1.A9 kept (A.aM P).2.2).2.2.1).2.1.aY
  (({ (A.aM P).2.1 with A9:=(PD.ah fresh (A.aM P).2.1.A9 kept (A.aM P).2.2).2.1}:Ar).ag (PD.ah fresh (A.aM P).2.1.A9 kept (A.aM P).2.2).2.2.2 (PD.ah fresh (A.aM P).2.1.A9 kept (A.aM P).2.2).2.2.1).2.2:=by
 unfold Ar.ay Ar.aM;dsimp only
 by_cases d:(A.C P).1=0
 ·by_cases h:((A.C P).2.1.aq (A.C P).2.2).1=0
  ·simp only[d,h,JO,not_true,C4]
  ·simp only[d,h,JO,not_true,Og,C4,Cg]
 ·simp only[d,JO,Og,Cg]
section
variable {w w':World} {ab b xb jb B:Nat} {sv ov lv jo:Value} {A:Ar} {P:PD} {Ft FT:Nat->Prop} {a c m:Nat}
def AD.bz(h:AD w ab b A P FT):A7 w ab 0 (A5 b)/\A7 w ab 3 (A0 A.A9)/\w.frozen? (Aa ab 3)=false/\ab<w.heap.size/\FT ab:=by
 obtain⟨xb,jb,sv,ov,lv,jo,Ft,d,z⟩:=h;exact⟨d.Af.c0,d.Af.c3,d.Af.fz 3,d.Af.lt,z ab (.inr (.inl rfl))⟩
def AD.fZ(h:AD w ab b A P FT)(x:Int):AD (w.setCell ⟨ab,3,none⟩ (.int .i64 x)) ab b {A with A9:=x} P FT:=by
 obtain⟨xb,jb,sv,ov,lv,jo,Ft,d,L⟩:=h;have I:A3 (One ab) w (w.setCell ⟨ab,3,none⟩ (.int .i64 x)):=(A3.I (One ab) w).ao (b:=ab) rfl 3 _;have H:∀k,k≠ab->k<w.heap.size->(w.setCell ⟨ab,3,none⟩ (.int .i64 x)).heap[k]?=w.heap[k]?:=λk z O=>I.Ao k O z
 exact⟨xb,jb,sv,ov,lv,jo,Ft,⟨d.Af.s3 x,(H xb d.ne.symm d.ix.lt).trans d.ix,d.segs.aP λg E=>H g (d.Fg g E).1 (d.segs.lt E),d.AP.aP λg E=>H g (d.G3 g E).1 (d.AP.lt E),d.jn.aP λk z=>H k (d.FB k z).1 (d.jn.lt z),
  B3.aP d.dk λk z=>H k (λe=>by subst e;exact d.De _ (.inl rfl) z) (d.lt k z),λk z=>Bk (d.lt k z) I.Ak,d.De,d.Fg,d.G3,d.FB⟩,L⟩
def A05(h:Bn w b P Ft):
 Ag 86 #[A5 b] w (Al (A0 P.aJ.1) λw'=>Aq w Ft w' (λw' d=>Bn w' b P.aJ.2 d)):=Wi h
def UN(h:AD w ab b A P FT):
 Ag 86 #[A5 b] w (Al (A0 P.aJ.1) λw'=>Aq w FT w' (λw' z=>AD w' ab b A P.aJ.2 z)):=by
 obtain⟨xb,jb,sv,ov,lv,jo,Ft,d,E⟩:=h;refine(A05 d.dk).mono ?_;rintro e w'⟨I,H⟩;exact⟨I,d.cH E (d.cg H)⟩
def Yn(w:World)(g:Nat)(h:AD w ab b A P FT)(_hlt:∀k,FT k->k<w.heap.size)(hg:¬FT g)(X:g<w.heap.size)(hb:w.heap[g]?=some (.cells #[.func (Fn.func 118) #[.pointer (some ⟨ab,0,none⟩)] #[],.func (Fn.func 150) #[.pointer (some ⟨ab,0,none⟩)] #[]] 50 (0,0)))(hF:Fit P a c m)(hl:CN a (c+a) m)(hn:∀n∈A.ix.segs,CJ n)(O:∀n∈A.j.Am,CJ n)(L:A.ix.segs.length<=1073741824)(I:A.j.Am.length<=1073741824)(hL:Lets B w)(W:∀k,FT k->B<=k):
 Calls Tryz.prog 117 #[.slice (some ⟨g,0,none⟩) 2 2] w λe w'=>e=.returned (.int .i64 (A.aM P).1)/\Aq w FT w' (λw' d=>AD w' ab b (A.aM P).2.1 (A.aM P).2.2 d):=by
 obtain⟨s1,s2,s3⟩:=NG A P;refine(A0D w g ab ab (λn w'=>n=(A.C P).1/\Aq w FT w' (λw' d=>AD w' ab b (A.C P).2.1 (A.C P).2.2 d)) (λn w'=>(A.C P).1=0/\n=((A.C P).2.1.aq (A.C P).2.2).1/\Aq w FT w' (λw' d=>AD w' ab b (A.C P).2.1 ((A.C P).2.1.aq (A.C P).2.2).2 d)) hb ?_ ?_).mono ?_
 ·refine(QU w h).mono ?_;rintro e w'⟨E,z⟩;exact⟨_,E,⟨rfl,z⟩,z.1.Ao g X hg⟩
 ·rintro Y⟨h0,c1,F1,z,H,h4⟩ -;refine(QJ Y z hF.C hl (by rw[s1];exact hn) (by rw[s2];exact O) (by rw[s1];exact L) (by rw[s2];exact I) (hL.aj c1 W)).mono ?_;rintro e w'⟨h5,h6⟩;exact⟨_,h5,h0.symm,rfl,Aq.a7 c1 h4 h6⟩
 ·rintro e w'⟨n,rfl,⟨E,z,H⟩|⟨E,z,H⟩⟩
  ·subst z;unfold Ar.aM;rw[Ah E];exact⟨rfl,H⟩
  ·subst z;unfold Ar.aM;rw[Ad (by simp[E])];exact⟨rfl,H⟩
def A1Z(w:World)(g:Nat)(h:AD w ab b A P FT)(_hlt:∀k,FT k->k<w.heap.size)(hg:¬FT g)(W:g<w.heap.size)(Y:w.heap[g]?=some (.cells #[.func (Fn.func 150) #[.pointer (some ⟨ab,0,none⟩)] #[],.func (Fn.func 86) #[.pointer (some ⟨b,0,none⟩)] #[]] 50 (0,0)))(hF:Fit P a c m)(hl:CN a (c+a) m)(hn:∀n∈A.ix.segs,CJ n)(O:∀n∈A.j.Am,CJ n)(L:A.ix.segs.length<=1073741824)(I:A.j.Am.length<=1073741824)(hL:Lets B w):
 Calls Tryz.prog 117 #[.slice (some ⟨g,0,none⟩) 2 2] w λe w'=>e=.returned (.int .i64 (A.aY P).1)/\Aq w FT w' (λw' d=>AD w' ab b (A.aY P).2.1 (A.aY P).2.2 d):=by
 refine(A0C w g ab b (λn w'=>n=(A.aq P).1/\Aq w FT w' (λw' d=>AD w' ab b A (A.aq P).2 d)) (λn w'=>(A.aq P).1=0/\n=(A.aq P).2.aJ.1/\Aq w FT w' (λw' d=>AD w' ab b A (A.aq P).2.aJ.2 d)) Y ?_ ?_).mono ?_
 ·refine(QJ w h hF hl hn O L I hL).mono ?_;rintro e w'⟨E,z⟩;exact⟨_,E,⟨rfl,z⟩,z.1.Ao g W hg⟩
 ·rintro w1⟨X,c1,F1,z,H,h4⟩ -;refine(UN z).mono ?_;rintro e w'⟨h5,h6⟩;exact⟨_,h5,X.symm,rfl,Aq.a7 c1 h4 h6⟩
 ·rintro e w'⟨n,rfl,⟨E,z,H⟩|⟨E,z,H⟩⟩
  ·subst z;unfold Ar.aY;rw[Ah E];exact⟨rfl,H⟩
  ·subst z;unfold Ar.aY;rw[Ad (by simp[E])];exact⟨rfl,H⟩
end
def Ps(w:World)(v:Value)(h:List (List Pu))(FT:Nat->Prop):Prop:=
 ∃d:List Value,d.length=h.length/\w.ownsRow 0 97 1 v h.length d/\(∀k (E:k<d.length) (z:k<h.length),AW w (d[k]'E) (h[k]'z))/\(∀g,v.ownBlock=some g->¬FT g)/\∀x∈d,∀g,x.ownBlock=some g->¬FT g
def Dd(l:List (List Pu)):Nat:=(l.map List.length).sum
def NC(x:List Pu)(r:List (List Pu)):Dd (x::r)=x.length+Dd r:=by simp[Dd]
def LR(x y:List (List Pu)):Dd (x++y)=Dd x+Dd y:=by simp[Dd]
def QK(l:List (List Pu))(k:Nat):Dd (l.take k)<=Dd l:=by
 conv=>rhs;rw[<-DK k l]
 rw[LR];omega
def Sz(l:List Pu)(r:List (List Pu))(last:Int)(kept:List Int)(P:PD):PD.ah (l::r) last kept P=if (P.aK (last+1) l).1≠0 then ((P.aK (last+1) l).1,last+1,kept,(P.aK (last+1) l).2) else
 PD.ah r (last+1) (kept++[last+1]) (P.aK (last+1) l).2:=rfl
def Fit.aK{P:PD}{a c m:Nat}(h:Fit P a c m)(n:Int)(l:List Pu):Fit (P.aK n l).2 (a+1) (c+1) (m+17*l.length+4):=by
 have:=h.aI (AF n) (AE (AF n)) (Cd l);rw[O2]at this;exact this
def Sn{n:Int}(d:0<=n)(h:n<=9223372036854775807):CJ n:=by
 refine⟨d,h,?_⟩;rw[Mf d,Vv];have e:(10:Nat) ^ 19=10000000000000000000:=by decide
 exact SU 19 _ (by rw[e];omega) (by omega)
section
variable {w:World} {ab b xb jb B:Nat} {sv ov lv jo:Value} {A:Ar} {P:PD} {Ft FT:Nat->Prop} {a c m:Nat}
def A3j(w:World)(h:AD w ab b A P FT)(n:Int)(H:Value)(l:List Pu)(Y:Fit P a c m)(hl:CN (a+1) (c+1) m)(hn:CJ n)(X:Lets B w)(hp:Ho w H l)(I:∀p∈l,Bi p)(E:l.length<=134217728):
 Ag 151 #[A5 b,A0 n,H] w λe w'=>
  ((P.aK n l).1≠0/\e=.returned (.tuple #[.pointer none,A0 (P.aK n l).1])\/(P.aK n l).1=0/\∃O,e=.returned (.tuple #[A5 O,A0 0]))/\Aq w FT w' (λw' z=>AD w' ab b A (P.aK n l).2 z):=by
 obtain⟨xb,jb,sv,ov,lv,jo,Ft,d,L⟩:=h;refine(YZ w H l d.dk d.lt Y hl hn X hp I E).mono ?_;rintro e w'⟨h3,W⟩;exact⟨h3,d.cH L (d.cg W)⟩
def Fit.cD{A:Ar}{P:PD}{a c m:Nat}(h:Fit P a c m)(l:List Int):Fit (A.ag P l).2.2 (a+2) (c+2) (m+12+8*l.length):=by
 unfold Ar.ag;split
 ·exact h.aa (by omega) (by omega) (by omega)
 ·split
  ·exact h.ej _ _
  ·exact h.ej _ _
def A2w(A:Ar)(P:PD)(l:List Int):((A.ag P l).2.1.ix.segs=A.ix.segs\/(A.ag P l).2.1.ix.segs=l)/\((A.ag P l).2.1.j.Am=A.j.Am\/(A.ag P l).2.1.j.Am=[]):=by
 unfold Ar.ag;split
 ·exact⟨.inl rfl,.inl rfl⟩
 ·split
  ·exact⟨.inl rfl,.inl rfl⟩
  ·exact⟨.inr rfl,.inr rfl⟩
def AD.db{n:Nat}{v:Value}{xs:List Value}(h:AD w ab b A P FT)(d:w.ownsRow 0 3 1 v n xs){g:Nat}(E:v.ownBlock=some g):g≠ab:=by
 obtain⟨xb,jb,sv,ov,lv,jo,Ft,z,h2⟩:=h;obtain⟨c,H⟩:=Be d E;exact BS H z.Af (by decide)
def Rj(w:World)(h:AD w ab b A P FT)(bT:∀k,FT k->k<w.heap.size)(kv:Value)(kept:List Int)(aB:Dy w kv kept)(dC:∀g,kv.ownBlock=some g->¬FT g/\B<=g)(fv:Value)(fresh:List (List Pu))(eM:Ps w fv fresh FT)(cL:∀l∈fresh,(∀p∈l,Bi p)/\l.length<=134217728)(cV:0<=A.A9/\A.A9+fresh.length<=9223372036854775807)(b2:AN (A.j.A9+1))(_hkr:∀x∈kept,AN x)(hF:Fit P a c m)(hl:CN (a+fresh.length+2) (c+2*a+2*fresh.length+4) (m+17*Dd fresh+12*fresh.length+12+8*kept.length))(dA:kept.length+fresh.length<=134217728)(hn:∀n∈A.ix.segs,CJ n)(bU:∀n∈A.j.Am,CJ n)(b0:∀n∈kept,CJ n)(bK:A.ix.segs.length<=1073741824)(bR:A.j.Am.length<=1073741824)(hL:Lets B w)(bI:∀k,FT k->B<=k):
 Ag 107 #[A5 ab,kv,fv] w (Al (A0 (A.ay P kept fresh).1) λw'=>Aq w (λk=>FT k\/kv.ownBlock=some k) w' (λw' d=>AD w' ab b (A.ay P kept fresh).2.1 (A.ay P kept fresh).2.2 d)):=by
 obtain⟨i0,hi,dW,eN,eD⟩:=OG;obtain⟨ka,z,rfl,kc1,eI,-⟩:=B8 aB;obtain⟨vs,vl,bM,cH,cT,cB⟩:=eM;obtain⟨fa,b6,rfl,fc1,dO,-⟩:=B8 bM;unfold maxLen at eI dO;obtain⟨q1,q2,q3⟩:=Ym A P;have b7:CN a (c+a) m:=⟨by have:=hl.a;omega,by have:=hl.c;omega,by have:=hl.m;omega⟩;have bH:=Fit.aM (A:=A) hF;have aQ:A3 Ab w (w.aC #[.func (Fn.func 118) #[A5 ab] #[],.func (Fn.func 150) #[A5 ab] #[]] 50):=(A3.I _ w).ak _;have eC:=A1 (Yn _ w.heap.size (h.aw aQ) (λk hk=>Bk (bT k hk) aQ.Ak) (λW=>FZ _ (bT _ W)) (by simp) (BN w _) hF b7 hn bU bK bR (hL.aS aQ) bI);have bZ:=A1 (Ri A P kept fresh);obtain⟨R,hR⟩:∃R,A.ay P kept fresh=R:=⟨_,rfl⟩;rw[hR]at bZ ⊢;obtain⟨X,hX⟩:∃X,A.aM P=X:=⟨_,rfl⟩;rw[hX]at bZ eC q1 q2 q3 bH;have eB:=A1 aQ;have dN:=A1 <| h.bz.2.2.2.2;have aY:=A1 bM;have bN:=A1 cH;have dR:=A1 cT;have dL:=A1 cB;have aS:=A1 aB;have a0:=A1 dC;have eE:=A1 hL;have b9:=A1 bI;have dQ:=A1 cL;have aO:=A1 hl;have b8:=A1 bH;have bB:Hid ((∀n∈A.ix.segs,CJ n)/\(∀n∈A.j.Am,CJ n)/\(∀n∈kept,CJ n)/\A.ix.segs.length<=1073741824/\A.j.Am.length<=1073741824/\AN (A.j.A9+1)):=⟨hn,bU,b0,bK,bR,b2⟩;have eF:=A1 <| cV;have cX:=A1 dA;have eO:=A1 vl;have cG:=A1 Sz;have dD:Hid (∀wx bO bX,Aq w FT wx (λw' d=>AD w' ab b bO bX d)->Aq w (λk=>FT k\/(Value.slice ka kept.length z).ownBlock=some k) wx (λw' d=>AD w' ab b bO bX d)):=λwx bO bX W=>W.a1 λk hk=>.inl hk;clear hX hR aQ bT bM cH cT cB aB dC hL bI cL hl bH hn bU b0 bK bR b2 cV dA h hF b7 _hkr
 go_enter func107,ntmps107
 go_wp2_with (fail);refine eC.m ?_;rintro e w1⟨rfl,b3⟩;have aZ:=A1 (b3.a6 eB.o);clear eC b3;obtain⟨dS,H,aE⟩:=X;dsimp only at bZ q1 q2 q3 b8 aZ;have e1:=A1 q1;have e2:=A1 q2;have eT:=A1 q3;clear q1 q2 q3;by_cases W:dS=0
 case neg=>
  have aG:R=(dS,H,aE):=by rw[bZ.o,Ah W]
  subst aG;have hxb:(dS !=0)=true:=by simpa using W
  go_wp2;go_ret;exact⟨rfl,dD.o _ _ _ aZ.o⟩
 case pos=>
 subst W
 have a3:Hid (R=if (PD.ah fresh H.A9 kept aE).1≠0 then ((PD.ah fresh H.A9 kept aE).1,{H with A9:=(PD.ah fresh H.A9 kept aE).2.1},(PD.ah fresh H.A9 kept aE).2.2.2) else
  if (({H with A9:=(PD.ah fresh H.A9 kept aE).2.1}:Ar).ag (PD.ah fresh H.A9 kept aE).2.2.2 (PD.ah fresh H.A9 kept aE).2.2.1).1≠0 then
   ({H with A9:=(PD.ah fresh H.A9 kept aE).2.1}:Ar).ag (PD.ah fresh H.A9 kept aE).2.2.2 (PD.ah fresh H.A9 kept aE).2.2.1
  else (({H with A9:=(PD.ah fresh H.A9 kept aE).2.1}:Ar).ag (PD.ah fresh H.A9 kept aE).2.2.2 (PD.ah fresh H.A9 kept aE).2.2.1).2.1.aY
   (({H with A9:=(PD.ah fresh H.A9 kept aE).2.1}:Ar).ag (PD.ah fresh H.A9 kept aE).2.2.2 (PD.ah fresh H.A9 kept aE).2.2.1).2.2):=by unfold Hid;rw[bZ.o,Ad (by simp)]
 obtain⟨S,hS⟩:∃S,PD.ah fresh H.A9 kept aE=S:=⟨_,rfl⟩;have eR:=A1 hS;rw[hS]at a3;clear hS bZ;have cM:=A1 <| Ay aS.o λg I=>aZ.o.1.Ao g (AB aS.o I) (a0.o g I).1;go_wp2
 go_loopw [1,24] (λv iv wr=>∃(k:Nat) (E:List Int) (aF:PD),iv=A0 k/\k<=fresh.length/\Hid (Dy wr v E/\E.length=kept.length+k/\(∀g,v.ownBlock=some g->(Value.slice ka kept.length z).ownBlock=some g\/w.heap.size<=g)/\(∀x∈E,CJ x)/\
  Aq w (λk=>FT k\/(Value.slice ka kept.length z).ownBlock=some k) wr (λw' d=>AD w' ab b {H with A9:=H.A9+k} aF d/\∀g,v.ownBlock=some g->¬d g)/\Fit aF (a+k) (c+a+k) (m+17*Dd (fresh.take k)+4*k)/\S=PD.ah (fresh.drop k) (H.A9+k) E aF)) (λ_ iv _=>fresh.length-(intOf iv).toNat)
 case atStart=>
  obtain⟨c1,aX,r1,l1,s1⟩:=aZ.o;refine⟨0,kept,aE,rfl,by omega,cM.o,rfl,λg I=>.inl I,bB.o.2.2.1,⟨c1.aa λ_ _ h=>.inl h,aX,⟨by simpa using r1,λg I W=>?_⟩,l1,λk hk=>(s1 k hk).imp .inl id⟩,by simpa[Dd] using b8.o,by simpa using eR.o.symm⟩;rcases s1 g W with h|h
  ·exact(a0.o g I).1 h
  ·have:=AB aS.o I;omega
 case round=>
  obtain⟨k,E,aF,rfl,hk,hI⟩:=hrel;obtain⟨i1,i2,i3,i4,i5,i6,i7⟩:=hI.o;obtain⟨ap,cp,rfl,hcap1,bY,-⟩:=B8 i1;unfold maxLen at bY;by_cases aH:k<fresh.length
  ·(have aB:k<vs.length:=by have:=eO.o;omega);have dF:∀g,(Value.slice fa fresh.length b6).ownBlock=some g->g<w.heap.size/\¬(FT g\/(Value.slice ka kept.length z).ownBlock=some g):=λg I=>⟨AB aY.o I,λh=>h.elim (dR.o g I) (Im aY.o aS.o (by decide) I)⟩
   obtain⟨c1,aX,⟨r1,aW⟩,l1,s1⟩:=i5;obtain⟨g,rfl⟩:∃g,fa=some (Aa g 0):=by
    obtain⟨a',c',e,-,-,hz,-⟩:=B8 aY.o;cases e;exact hz (by omega)
   have d0:=BC aY.o rfl (E2 aB);have d1:=c1.bH d0 (dF g rfl).2;have aI:=Ay (bN.o k aB aH) λO I=>c1.Ao O (AB (bN.o k aB aH) I) λh=>h.elim (dL.o _ (BV aB) O I) (Im (bN.o k aB aH) aS.o (by decide) I);have a4:=dQ.o _ (BV aH);have bS:=Dn aH;have bV:=Fw aH;have dP:=QK fresh (k+1);obtain⟨xv,cU⟩:∃xv,(vs[k]'aB)=xv:=⟨_,rfl⟩;rw[cU]at d0 d1 aI;obtain⟨pl,cO⟩:∃pl,(fresh[k]'aH)=pl:=⟨_,rfl⟩;rw[cO]at aI a4 bS bV;obtain⟨pa,aP,rfl,pc1,eH,-⟩:=B8 aI;unfold maxLen at eH;obtain⟨L,a5⟩:∃L,H.A9+(k:Int)=L:=⟨_,rfl⟩;(have hLr:0<=L/\L+1<=9223372036854775807:=by have:=eF.o;rw[<-a5,eT.o];omega);rw[a5]at r1 i7;rw[bV,cG.o]at i7;obtain⟨e0,e3,z3,hab,dB⟩:=r1.bz;dsimp only at e3;(have ew:wrap64 (L+1)=L+1:=by unfold wrap64;omega);(have ew2:IntKind.i64.wrap (L+1)=L+1:=by simp[IntKind.wrap,IntKind.bits,IntKind.signed];omega);have r5:=r1.fZ (L+1);have aT:FT ab\/(Value.slice ka kept.length z).ownBlock=some ab:=.inl dN.o;have c5:A3 (λk=>FT k\/(Value.slice ka kept.length z).ownBlock=some k) w (wr.sC ab 3 (A0 (L+1))):=c1.bt (p:=(Aa ab 3)) (λ_=>aT) _;have bP:=r5.aw (A3.I Ab (wr.sC ab 3 (A0 (L+1)))).af;have a7:∀O,(Value.slice ap E.length cp).ownBlock=some O->O≠ab:=λO I=>r1.db i1 I;have k5:A3 (One ab) wr (wr.sC ab 3 (A0 (L+1))).drew:=((A3.I (One ab) wr).ao (b:=ab) rfl 3 _).af;have bD:AW (wr.sC ab 3 (A0 (L+1))).drew (.slice pa pl.length aP) pl:=Ay aI λO I=>k5.Ao O (AB aI I) λe=>by
    obtain⟨xb,jb,sv,ov,lv,jo,Ft,hv,_⟩:=r1;obtain⟨c',eA⟩:=Be aI I;exact BS eA hv.Af (by decide) e
   have a6:Dy (wr.sC ab 3 (A0 (L+1))).drew (.slice ap E.length cp) E:=Ay i1 λO I=>k5.Ao O (AB i1 I) (a7 O I);have l5:∀k,aX k->k<(wr.sC ab 3 (A0 (L+1))).drew.heap.size:=λk hk=>Bk (l1 k hk) k5.Ak;have cS:∀k,(FT k\/(Value.slice ka kept.length z).ownBlock=some k)->B<=k:=λk hk=>hk.elim (b9.o k) λh=>(a0.o k h).2
   have cF:=eE.o.aj c5.af cS;have aU:CN (a+k+1) (c+a+k+1) (m+17*Dd (fresh.take k)+4*k):=by
    have:=aO.o;have h2:=QK fresh k;exact⟨by have:=this.a;omega,by have:=this.c;omega,by have:=this.m;omega⟩
   have aM:=A1 (A3j _ bP (L+1) _ pl i6 aU (Sn (by omega) (by omega)) cF bD.rd a4.1 a4.2);have bQ:=A1 (i6.aK (L+1) pl);obtain⟨Y,hY⟩:∃Y,aF.aK (L+1) pl=Y:=⟨_,rfl⟩;rw[hY]at i7 aM bQ;(have dK:Hid (17*Dd (fresh.take (k+1))+4*(k+1)=17*Dd (fresh.take k)+4*k+17*pl.length+4):=by unfold Hid;rw[bS,LR];simp[Dd];omega);have dZ:=A1 a5;have dJ:=A1 i2;have eY:=A1 i3;have eX:=A1 i4;have dI:=A1 i7;have dH:=A1 c5.af;have eG:Hid (∀k,aX k->(FT k\/(Value.slice ka kept.length z).ownBlock=some k)\/w.heap.size<=k):=s1;have cA:=A1 aW;have bL:=A1 a6;(have cJ:wr.heap.size=(wr.sC ab 3 (A0 (L+1))).drew.heap.size:=by show _=(wr.setCell _ _).heap.size;simp);have SZ5:=A1 cJ;obtain⟨f0,f3,-,-,-⟩:=bP.bz;dsimp only at f3;(have dV:(k:Int)<(fresh.length:Int):=by omega);have hk0:=C3 k;clear hI i1 i2 i3 i4 i6 i7 c1 r1 aW l1 s1 d0 aI a4 bS bV dP cU cO a5 r5 c5 bP a7 k5 bD a6 l5 cS cF aU hY dF aB aT dB cJ;obtain⟨b1,a1⟩:=Y;dsimp only at aM dI bQ
   have aD:Hid (∀w6,Aq (wr.sC ab 3 (A0 (L+1))).drew aX w6 (λw' d=>AD w' ab b {H with A9:=L+1} a1 d)->
    (A7 w6 ab 0 (A5 b)/\A7 w6 ab 3 (A0 (L+1)))/\Aq w (λk=>FT k\/(Value.slice ka kept.length z).ownBlock=some k) w6 (λw' d=>AD w' ab b {H with A9:=L+1} a1 d)):=λw6 h6=>by
    obtain⟨_,cP,bJ,_⟩:=h6;exact⟨⟨bJ.bz.1,bJ.bz.2.1⟩,Aq.a7 dH.o eG.o ⟨‹_›,cP,bJ,‹_›⟩⟩
   by_cases hy:b1=0
   case neg=>
    (have a2:S=(b1,L+1,E,a1):=by rw[dI.o,Ah hy]);(have aG:R=(b1,{H with A9:=L+1},a1):=by rw[a3.o,a2,Ah hy]);subst aG;have aR:Hid (Ag 151 #[A5 b,A0 (L+1),.slice pa pl.length aP] (wr.sC ab 3 (A0 (L+1))).drew (Al (.tuple #[.pointer none,A0 b1]) λw'=>Aq (wr.sC ab 3 (A0 (L+1))).drew aX w' (λw' d=>AD w' ab b {H with A9:=L+1} a1 d))):=by
     refine aM.m ?_;rintro e w'⟨⟨_,h2⟩|⟨h1,_⟩,h3⟩
     ·exact⟨h2,h3⟩
     ·exact absurd h1 hy
    (have hyb:(b1 !=0)=true:=by simpa using hy);clear a2 aM;go_wp2;refine BP (λw'=>A7 w' ab 0 (A5 b)/\A7 w' ab 3 (A0 (L+1))) 14
     (Bq [0,1,2,3,4,5,6,7,8,9,10,11,12,13] [9]) ⟨f0,f3⟩ ?_
    iterate 9 (refine Bg ?_;(try simp only[An]))
    refine Bw λK hK=>?_;go_simp;refine aR.m ?_;rintro e w6⟨rfl,hI⟩;refine hK _ _ (aD.o w6 hI).1 (λhS=>?_);have eW:=A1 (aD.o w6 hI).2;clear hK K hS hI aR aD
    (try simp only[An])
    iterate 4 (refine Bg ?_;(try simp only[An]))
    refine Bl ?_;simp only[BI,BH];go_wp2;go_ret;exact⟨rfl,eW.o⟩
   case pos=>
    subst hy;(have eZ:Hid (S=PD.ah (fresh.drop (k+1)) (L+1) (E++[L+1]) a1):=by unfold Hid;rw[dI.o,Ad (by simp)]);have aR:Hid (Ag 151 #[A5 b,A0 (L+1),.slice pa pl.length aP] (wr.sC ab 3 (A0 (L+1))).drew λe w'=>∃gb,e=.returned (.tuple #[A5 gb,A0 0])/\Aq (wr.sC ab 3 (A0 (L+1))).drew aX w' (λw' d=>AD w' ab b {H with A9:=L+1} a1 d)):=by
     refine aM.m ?_;rintro e w'⟨⟨h1,_⟩|⟨_,gb,h2⟩,h3⟩
     ·exact absurd rfl h1
     ·exact⟨gb,h2,h3⟩
    clear aM dI;go_wp2;refine BP (λw'=>A7 w' ab 0 (A5 b)/\A7 w' ab 3 (A0 (L+1))) 14
     (Bq [0,1,2,3,4,5,6,7,8,9,10,11,12,13] [9]) ⟨f0,f3⟩ ?_
    iterate 9 (refine Bg ?_;(try simp only[An]))
    refine Bw λK hK=>?_;go_simp;refine aR.m ?_;rintro e w6⟨gb,rfl,hI⟩;refine hK _ _ (aD.o w6 hI).1 (λhS=>?_);have g63:=(aD.o w6 hI).1.2;have cC:=A1 hI;clear hK K hS hI aR aD
    (try simp only[An])
    iterate 4 (refine Bg ?_;(try simp only[An]))
    refine Bl ?_;simp only[BI,BH];have bG:=A1 cC.o.1;have cY:Hid (Dy w6 (.slice ap E.length cp) E):=Ay bL.o λO I=>bG.o.Ao O (AB bL.o I) (cA.o O I);have cQ:Hid ((w6.aC #[A0 (L+1)] 3).ownsRow 0 3 1 (.slice ap E.length cp) E.length (DL E)):=Ay cY.o λO I=>((A3.I Ab w6).ak _).Ao O (AB cY.o I) (λh=>h)
    have eJ:=A1 (Src.bb (size:=1) (B:=w6.heap.size) underlying26 w6 #[A0 (L+1)] 3 (by simp) 1 1 rfl (JU [L+1]));go_wp2_with (at_builtin;refine D4 rfl (.tmp 51) (.tmp 56) 26 26 rfl 3 i0 _ 1 8 underlying26 hi dW eN eD rfl (by decide) (.slice ap E.length cp) E.length (DL E) (by rfl) cQ.o _ 1 _ (by rfl) eJ.o (by have:=dJ.o;have:=cX.o;omega) ?_;intro a8 dG w8 hA;have eU:=A1 hA;clear hA);go_roundw
    case rel=>
     have hA:=eU.o;have k7:A3 Ab w6 (w6.aC #[A0 (L+1)] 3):=(A3.I _ w6).ak _;have aL:=hA.Aj (S:=λk=>(Value.slice ap E.length cp).ownBlock=some k) λ_ h=>h;have k8:A3 (λk=>(Value.slice ap E.length cp).ownBlock=some k) w6 w8:=(k7.aa λ_ _ h=>h.elim).tr aL;obtain⟨_,cP,r2,l2,s2⟩:=cC.o;have bE:∀O,(Value.slice ap E.length cp).ownBlock=some O->¬cP O:=λO I W=>by
      rcases s2 O W with h|h
      ·exact cA.o O I h
      ·have:=AB bL.o I;omega
     have r8:AD w8 ab b {H with A9:=L+1} a1 cP:=r2.aP (k8.aH l2 λk hk W=>bE k W hk) k8.Ak;have bC:∀O,(Value.slice a8 (E.length+1) dG).ownBlock=some O->(Value.slice ap E.length cp).ownBlock=some O\/w6.heap.size<=O:=λO I=>by
      rcases hA.Cj with h|h
      ·rw[h]at I;exact .inl I
      ·rw[h]at I;cases I;exact .inr k7.Ak
     have eP:A3 (λk=>aX k\/(Value.slice ap E.length cp).ownBlock=some k) (wr.sC ab 3 (A0 (L+1))).drew w8:=(bG.o.aa λ_ _ h=>.inl h).Ap k8 λ_ h _=>.inr h;have bA:∀O,(Value.slice ap E.length cp).ownBlock=some O->(Value.slice ka kept.length z).ownBlock=some O\/w.heap.size<=O:=eY.o;have c8:A3 (λk=>FT k\/(Value.slice ka kept.length z).ownBlock=some k) w w8:=dH.o.Ap eP λx W hlt=>by
      rcases W with W|W
      ·exact(eG.o x W).resolve_right (by omega)
      ·exact .inr ((bA x W).resolve_right (by omega))
     (have eL:H.A9+((k+1:Nat):Int)=L+1:=by have:=dZ.o;omega);refine⟨k+1,E++[L+1],a1,by go_num,by omega,?_,by have:=dJ.o;simp;omega,λO I=>?_,λx W=>?_,⟨c8,cP,⟨by rw[eL];exact r8,λO I W=>?_⟩,λk hk=>Bk (l2 k hk) k8.Ak,λk hk=>?_⟩,?_,by rw[eL];exact eZ.o⟩
     ·(have e:(E++[L+1]).length=E.length+1:=by simp);unfold Dy;rw[KZ,e];exact hA.AA
     ·rcases bC O I with h|h
      ·exact bA O h
      ·have:=c8.Ak;have:=dH.o.Ak;have:=bG.o.Ak;exact .inr (by omega)
     ·rcases AU.1 W with W|W
      ·exact eX.o x W
      ·simp at W;subst W;exact Sn (by omega) (by omega)
     ·rcases bC O I with h|h
      ·exact bE O h W
      ·have:=l2 O W;omega
     ·rcases s2 k hk with h|h
      ·exact eG.o k h
      ·have:=dH.o.Ak;exact .inr (by omega)
     ·have h1:=bQ.o;have h2:=dK.o;exact h1.aa (by omega) (by omega) (by omega)
    case measure=>simp[intOf];omega
  ·(obtain rfl:k=fresh.length:=by omega);rw[Gn]at i7;rw[C6]at i6;have a2:S=(0,H.A9+(fresh.length:Int),E,aF):=i7;subst a2;have aN:Hid (R=if (({H with A9:=H.A9+(fresh.length:Int)}:Ar).ag aF E).1≠0 then ({H with A9:=H.A9+(fresh.length:Int)}:Ar).ag aF E else (({H with A9:=H.A9+(fresh.length:Int)}:Ar).ag aF E).2.1.aY (({H with A9:=H.A9+(fresh.length:Int)}:Ar).ag aF E).2.2):=by
    unfold Hid;rw[a3.o,Ad (by simp)]
   obtain⟨A2,aL⟩:∃A2:Ar,({H with A9:=H.A9+(fresh.length:Int)}:Ar)=A2:=⟨_,rfl⟩;(have b5:A2.ix=A.ix:=by rw[<-aL];exact e1.o);(have ej:A2.j=A.j:=by rw[<-aL];exact e2.o);rw[aL]at aN i5;obtain⟨c1,aX,⟨r1,aW⟩,l1,s1⟩:=i5;obtain⟨n1,n2,n3,n4,n5,n6⟩:=bB.o;have bF:∀k,(FT k\/(Value.slice ka kept.length z).ownBlock=some k)->B<=k:=λk hk=>hk.elim (b9.o k) λh=>(a0.o k h).2
   have cZ:=eE.o.aj c1 bF;have aA:=aO.o;(have a9:E.length<=134217728:=by have:=cX.o;omega);have b4:=A1 (A2p wr r1 (.slice ap E.length cp) E (Dy.rd i1) (λg I=>aW g I) (by rw[ej];exact n6) (λx W=>by have:=i4 x W;exact⟨by have:=this.1;omega,this.2.1⟩) a9 i6 ⟨by have:=aA.a;omega,by have:=aA.c;omega,by have:=aA.m;omega⟩ cZ);have aV:Hid (Fit (A2.ag aF E).2.2 (a+fresh.length+2) (c+a+fresh.length+2) (m+17*Dd fresh+4*fresh.length+12+8*E.length)):=i6.cD E;have bW:=A2w A2 aF E;have aJ:Hid ((∀n∈(A2.ag aF E).2.1.ix.segs,CJ n)/\(A2.ag aF E).2.1.ix.segs.length<=1073741824):=by
    rcases bW.1 with h|h
    ·rw[h,b5];exact⟨n1,n4⟩
    ·rw[h];exact⟨i4,by omega⟩
   have aK:Hid ((∀n∈(A2.ag aF E).2.1.j.Am,CJ n)/\(A2.ag aF E).2.1.j.Am.length<=1073741824):=by
    rcases bW.2 with h|h
    ·rw[h,ej];exact⟨n2,n5⟩
    ·rw[h];exact⟨λn hn=>by simp at hn,by simp⟩
   obtain⟨T,hT⟩:∃T,A2.ag aF E=T:=⟨_,rfl⟩;rw[hT]at aN b4 aV aJ aK;have aD:Hid (∀w2 bO bX,Aq wr (λk=>aX k\/(Value.slice ap E.length cp).ownBlock=some k) w2 (λw' d=>AD w' ab b bO bX d)->Aq w (λk=>FT k\/(Value.slice ka kept.length z).ownBlock=some k) w2 (λw' d=>AD w' ab b bO bX d)):=λw2 bO bX h2=>
    Aq.a7 c1 (λk hk=>hk.elim (λh=>s1 k h) λh=>(i3 k h).imp (λh=>.inr h) id) h2
   have dU:Hid (∀w2,A3 (λk=>FT k\/(Value.slice ka kept.length z).ownBlock=some k) w w2->Lets B w2):=λw2 h2=>eE.o.aj h2 bF;have dJ:=A1 i2;(have dV:¬((fresh.length:Int)<(fresh.length:Int)):=by omega);obtain⟨eK,eS,eQ⟩:=T;dsimp only at aN b4 aV aJ aK;clear hI i1 i2 i3 i4 i6 i7 aL b5 ej c1 r1 aW l1 s1 n1 n2 n3 n4 n5 n6 bF cZ aA bW hT a3 eR cG a9;by_cases ht:eK=0
   case neg=>
    (have aG:R=(eK,eS,eQ):=by rw[aN.o,Ah ht]);subst aG;(have htb:(eK !=0)=true:=by simpa using ht);go_wp2_with (go_at_call 152;refine b4.m ?_;rintro e w6⟨rfl,cI⟩;have dT:=A1 (aD.o w6 _ _ cI);clear cI);go_ret;exact⟨rfl,dT.o⟩
   case pos=>
    subst ht;(have aG:R=eS.aY eQ:=by rw[aN.o,Ad (by simp)]);have cD:=A1 aG;clear aG aN;go_wp2_with (fail);refine b4.m ?_;rintro e w6⟨rfl,dE⟩;have dY:=aD.o w6 _ _ dE;obtain⟨c6,eV,r6,l6,s6⟩:=dY;have k7:A3 Ab w6 (w6.aC #[.func (Fn.func 150) #[A5 ab] #[],.func (Fn.func 86) #[A5 b] #[]] 50):=(A3.I _ w6).ak _;have aA:=aO.o;have dX:=A1 (A1Z _ w6.heap.size (r6.aw k7) (λk hk=>Bk (l6 k hk) k7.Ak) (λW=>FZ _ (l6 _ W)) (by simp) (BN w6 _) aV.o ⟨by have:=aA.a;omega,by have:=aA.c;omega,by have:=aA.m;have:=dJ.o;omega⟩ aJ.o.1 aK.o.1 aJ.o.2 aK.o.2 ((dU.o w6 c6).aS k7));rw[<-cD.o]at dX;have g0:=r6.bz.1;have cN:Hid (∀w9,Aq (w6.aC #[.func (Fn.func 150) #[A5 ab] #[],.func (Fn.func 86) #[A5 b] #[]] 50) eV w9 (λw' d=>AD w' ab b R.2.1 R.2.2 d)->Aq w (λk=>FT k\/(Value.slice ka kept.length z).ownBlock=some k) w9 (λw' d=>AD w' ab b R.2.1 R.2.2 d)):=λw9 h9=>Aq.a7 c6 s6 (h9.a6 k7);clear cD;obtain⟨Z1,Z2,Z3⟩:=R;dsimp only at dX cN ⊢;clear dE c6 r6 l6 s6 k7 aA b4 aD;go_wp2_with (go_at_call 117;refine dX.m ?_;rintro e w9⟨rfl,cE⟩;have dM:=A1 (cN.o w9 cE);clear cE);go_ret;exact⟨rfl,dM.o⟩
end
end
end Go.Proofs.YtodcnkbblippnaaGreatDoor
