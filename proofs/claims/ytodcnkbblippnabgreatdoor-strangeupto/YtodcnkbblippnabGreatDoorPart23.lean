/- Part 23 of a proof: walks of the program. -/
import Derived.Shelf.Strings.BuilderK
import Derived.Test.YtodcnkbblippnabGreatDoorPart22
namespace Go.Proofs.YtodcnkbblippnabGreatDoor
set_option maxRecDepth 100000
set_option maxHeartbeats 32000000
set_option linter.defProp false
open Go.Proofs.Tryz
section
open Go.RowKit
attribute [local go_sem ↓] Cz
def A1X{B b:Nat}{l:List UInt8}(w:World)(h:GI B b l w)(z:B<=w.heap.size):
 Calls Tryz.prog 162 #[.pointer (some ⟨b,0,none⟩)] w λe w'=>e=.returned (.string ⟨l.toArray⟩)/\Below B w w'/\∀k o,w.heap[k]?=some o->k≠b->(∀c fz,o≠.cells c 5 fz)->w'.heap[k]?=some o:=by
 refine(Any.Builder_String_any_k Tryz.lays169 Tryz.Builder_Extra_169 B b l w (h.imp Lib.BuilderAtF.of Lib.BuilderAtF.of) z).mono ?_;rintro e w'⟨W,_,H,Y⟩;exact⟨W,H,λk o O I X=>Y k o O (λe=>I (by simpa using e)) X⟩
def Be.s1{w:World}{z:Nat}{T:TypeId}{p:Value}{name:ByteArray}{s:Nat}(h:Be w z T p name s)(nm:ByteArray):Be (w.setCell (Ad z 1) (.string nm)) z T p nm s:=CE h
def A5.e3{Ft:Nat->Prop}{x:Nat}{w z H:World}(h:A5 Ft w z)(k:A5 (One x) z H):A5 (λk=>Ft k\/k=x) w H:=
 (h.ae λ_ _ h=>.inl h).AJ k λ_ h _=>.inr h
def Be.ad{w:World}{z:Nat}{T:TypeId}{p:Value}{name:ByteArray}{s:Nat}(h:Be w z T p name s):Be w.drew z T p name s:=by unfold Be at h ⊢;exact h
section
variable{w:World}{b B xb:Nat}{P:PD}{Ft:Nat->Prop}{a c m:Nat}{n:Int}
def XD(h:Bh w b P Ft)(old nm:ByteArray)(I:Fit P a c m)(H:CN a c m):
 Aj 204 #[A7 b,.string old,.string nm] w (Au (A0 (P.aO old nm).1) λw'=>Ax w Ft w' (λw' z=>Bh w' b (P.aO old nm).2 z)):=
 XC h old nm (by have:=I.A6;have:=I.An;have:=H.a;have:=H.c;omega)
def Oq(first:Int)(segs:List Int):(Co first segs).length=8+8*segs.length:=by
 unfold Co;rw[AX,CD]
 congr 1
 induction segs with
 | nil=>rfl
 | cons x r ih=>simp only[Kc,AX,ih,CD,BM];omega
def Fit.aH{P:PD}{a c m:Nat}(h:Fit P a c m)(nm:Bs)(s:Nat)(l:Bs):Fit (P.aH nm s l).2 (a+1) (c+1) (m+l.length+4):=by
 have H:=h.af (A9 nm);have I:(AT s l).length=l.length+4:=by simp[AT,Hd]
 have z:=H.al (A9 nm) (AT s l);rw[I]at z;unfold PD.aH;split
 ·exact H.ae (Aq _) (Aq _) (by omega)
 ·split
  ·exact z.ae (Aq _) (Aq _) (by omega)
  ·exact(z.aq (A9 nm)).ae (Aq _) (Aq _) (by omega)
def Fit.dW{P:PD}{a c m:Nat}(h:Fit P a c m)(first:Int)(segs:List Int):Fit (P.ai first segs).2 (a+2) (c+2) (m+12+8*segs.length):=by
 have z:=h.aH Bl (AB AF) (Co first segs);rw[Oq]at z;unfold PD.ai;split
 ·exact z.ae (by omega) (by omega) (by omega)
 ·exact(z.aO (A9 Bl) (A9 AF)).ae (by omega) (by omega) (by omega)
def VK(w:World)(first f0:Int)(sv v0:Value)(segs:List Int)(hX:BZ w xb 122 b AF (AB AF) f0 v0)(h:Bh w b P Ft)(I:∀k,Ft k->k<w.heap.size)(hn:¬Ft xb)(hF:Fit P a c m)(hl:CN (a+2) (c+2) (m+12+8*segs.length))(hL:Lets B w)(hs:Dc w sv segs)(hf:AY first)(bL:∀x∈segs,AY x)(hsl:segs.length<=134217728):
 Aj 165 #[A7 xb,A0 first,sv] w λe w'=>
  e=.returned (A0 (P.ai first segs).1)/\BZ w' xb 122 b AF (AB AF) (if (P.ai first segs).1=0 then first else f0) (if (P.ai first segs).1=0 then sv else v0)/\Je w Ft xb w' b (P.ai first segs).2:=by
 have aE:=hX.lt;have bE:BJ 4 0=Bl:=rfl;have b6:Hid (∀Y,A5 Ab w Y->Aj 85 #[A0 4,A0 0] Y (Au (.string ⟨Bl.toArray⟩) λw'=>A5 Ab Y w')):=λY hc=>by
  have:=LW (n:=0) Y 4 (by omega) (by omega) (by decide +kernel) (hL.aP hc);rw[show ((4:Nat):Int)=4 from rfl,bE]at this;exact this
 have hi:=Oq first segs
 have bG:CN (a+1) (c+1) m:=⟨by have:=hl.a;omega,by have:=hl.c;omega,by have:=hl.m;omega⟩;have aO:Hid (∀Y,A5 Ab w Y->_):=λY hc=>PN Bl (Co first segs) (Jo AF) (B5.az h I hc) (λk hk=>Bm (I k hk) hc.Am) (by rw[hi];omega) hF bG;have aV:Hid (∀Y O,Bh Y b (P.aH Bl (AB AF) (Co first segs)).2 O->_):=λY O h1=>XD h1 (A9 Bl) (A9 AF) (hF.aH _ _ _) ⟨by have:=hl.a;omega,by have:=hl.c;omega,by rw[hi];have:=hl.m;omega⟩;have aN:Hid (P.ai first segs=if (P.aH Bl (AB AF) (Co first segs)).1≠0 then P.aH Bl (AB AF) (Co first segs) else (P.aH Bl (AB AF) (Co first segs)).2.aO (A9 Bl) (A9 AF)):=rfl;obtain⟨R,hR⟩:∃R,P.ai first segs=R:=⟨_,rfl⟩
 rw[hR]at aN ⊢;have cS:Hid (∀wx x,AY x->_):=λwx x H=>KL wx x H;have aB:Co first segs=AR first++segs.flatMap AR:=rfl
 obtain⟨dn,bB⟩:∃dn,Bl=dn:=⟨_,rfl⟩;obtain⟨nm,aY⟩:∃nm,AF=nm:=⟨_,rfl⟩;rw[aY]at hX aO aV aN ⊢;rw[bB]at b6 aO aV aN;obtain⟨s0,bM⟩:∃s0,AB nm=s0:=⟨_,rfl⟩;rw[bM]at hX aO aV aN ⊢;obtain⟨W,hW⟩:∃W,P.aH dn s0 (Co first segs)=W:=⟨_,rfl⟩;rw[hW]at aO aV aN;obtain⟨Q,hQ⟩:∃Q,W.2.aO (A9 dn) (A9 nm)=Q:=⟨_,rfl⟩;rw[hQ]at aV aN;obtain⟨il,b1⟩:∃il,Co first segs=il:=⟨_,rfl⟩
 rw[b1]at aO aB hi;have bK:=A4 aB;have dG:=A4 hi;obtain⟨pa,aA,rfl,hcap1,a6⟩:=hs.BV;unfold maxLen at a6;have dF:=A4 hs;have bI:=A4 I;have cE:=A4 hn;have cX:=A4 hX;have HFI:=A4 hf;have cG:=A4 bL;have bA:=A4 aE;have cZ:=A4 (Uj w);have cV:Hid (A5 Ab w (w.aC #[.pointer none,.slice none 0 0] 231)):=(A5.C _ w).aj _;have bU:=A4 (cS.o (w.aC #[.pointer none,.slice none 0 0] 231) first hf);clear hR bE aB aY bB bM hW hQ b1 hi bG h I hn hF hl hL hs hX hf bL aE
 go_enter func165,ntmps165
 go_wp2_with (fail);refine bU.k ?_;rintro Y aU;have bD:Hid (GI w.heap.size w.heap.size [] Y):=cZ.o.ak aU (λ_ h=>h.elim);have cD:Hid (A5 Ab w Y):=cV.o.tr aU;have cP:Hid (w.heap.size<Y.heap.size):=Bm (by simp) aU.Am;have bF:=A4 (N5 (t:=AR first) Y bD.o (by rw[CD];simp) cD.o.Am);clear aU bU cZ cV;go_wp2_with (fail);refine bF.k ?_;rintro w2⟨aJ,a0⟩;have bR:Hid (GI w.heap.size w.heap.size (AR first) w2):=aJ;have dH:Hid (A5 Ab w w2):=cD.o.AJ (A5.b8 a0) λx H I=>by omega
 have cY:Hid (w.heap.size<w2.heap.size):=Bm cP.o a0.size;clear aJ a0 bF bD cD cP;go_wp2;obtain⟨bb,aZ⟩:∃bb,w.heap.size=bb:=⟨_,rfl⟩;rw[aZ]at bR cY ⊢;have bX:=A4 aZ;clear aZ;go_loopw [18] (λiv wr=>∃k:Nat,iv=A0 k/\k<=segs.length/\Hid (GI bb bb (AR first++(segs.take k).flatMap AR) wr/\A5 Ab w wr/\bb<wr.heap.size)) (λiv _=>segs.length-(intOf iv).toNat)
 ·exact⟨0,rfl,by omega,by simpa using bR.o,dH.o,cY.o⟩
 ·obtain⟨k,rfl,hk,hI⟩:=hrel;by_cases aK:k<segs.length
  ·have⟨i1,i2,i3⟩:=hI.o;obtain⟨g,o,rfl,c1⟩:=Dc.at dF.o k aK;have H:=cG.o _ (BS aK);have a2:segs.take (k+1)=segs.take k++[segs[k]'aK]:=Dz aK;obtain⟨x,bJ⟩:∃x,(segs[k]'aK)=x:=⟨_,rfl⟩;rw[bJ]at c1 H a2;have d1:=i2.an c1;have a4:=A4 (cS.o wr x H);(have a9:Hid ((segs.take (k+1)).flatMap AR=(segs.take k).flatMap AR++AR x):=by unfold Hid;rw[a2];simp);have bC:(AR first++(segs.take k).flatMap AR).length<=8+8*segs.length:=by
    have:=Oq first (segs.take k)
    unfold Co at this;rw[this,BU];omega
   obtain⟨pk,a5⟩:∃pk,AR first++(segs.take k).flatMap AR=pk:=⟨_,rfl⟩
   (have aX:Hid (AR first++(segs.take (k+1)).flatMap AR=pk++AR x):=by unfold Hid;rw[a9.o,<-C6,a5]);rw[a5]at i1 bC;have aE:=CD x;obtain⟨ib,aB⟩:∃ib,AR x=ib:=⟨_,rfl⟩;rw[aB]at a4 aX aE;have cA:=A4 i1;have bY:=A4 i2;have bQ:=A4 i3;have cM:Hid (∀w6,A5 Ab wr w6->_):=λw6 h6=>N5 (t:=ib) w6 (cA.o.ak h6 (λ_ h=>h.elim)) (by omega) (AH (ES bQ.o) h6.Am);(have b9:(k:Int)<(segs.length:Int):=by omega);have hk0:=Cd k;clear i1 i2 i3 hI c1 bJ a2 a5 aB H bC aE a9;go_wp2_with (fail);refine a4.k ?_;rintro w6 a1;have cQ:=A4 a1;have cB:=A4 (cM.o w6 a1);clear a1 a4 cM;go_wp2_with (go_at_call 159;refine cB.k ?_;rintro w7⟨aJ,b2⟩;have b8:=A4 aJ;have bS:=A4 b2;clear aJ b2);go_roundw
   ·have c7:A5 (λk=>bb<=k) w6 w7:=A5.b8 bS.o;refine⟨k+1,by go_num,by omega,by rw[aX.o];exact b8.o,?_,?_⟩
    ·exact(bY.o.tr cQ.o).AJ c7 λx H I=>by have:=bX.o;omega
    ·exact Bm bQ.o (AH cQ.o.Am bS.o.size)
   ·simp[intOf];omega
  ·have⟨i1,i2,i3⟩:=hI.o;(obtain rfl:k=segs.length:=by omega);rw[Cj,<-bK.o]at i1;(have b9:¬((segs.length:Int)<(segs.length:Int)):=by omega);have fx:=cX.o.ak i2 (λh=>h);have g0:=fx.c0;have g1:=fx.c1;have g2:=fx.c2;have bV:Be (wr.aC #[A7 b,.string (A9 nm),.int .u32 s0] 119) wr.heap.size 119 (A7 b) (A9 nm) s0:=BN wr _;have ka:A5 Ab wr (wr.aC #[A7 b,.string (A9 nm),.int .u32 s0] 119):=(A5.C _ wr).aj _;have bN:=A4 (b6.o _ (i2.tr ka));have cU:=A4 ka;have cO:=A4 bV;have cA:=A4 i1;have bY:=A4 i2;have bQ:=A4 i3;have FX:=A4 fx;clear i1 i2 i3 ka bV b6 hI fx;go_wp2_with (fail);refine bN.k ?_;rintro w5 a3;have aT:=cO.o.ak a3 (λh=>h);have cT:A5 Ab wr w5:=cU.o.tr a3;have b7:=aT.c1;have bZ:=aT.fz 1;have aH:=A4 (aT.s1 ⟨dn.toArray⟩);have b5:Hid (A5 Ab wr (w5.setCell (Ad wr.heap.size 1) (.string ⟨dn.toArray⟩))):=cT.bn (p:=(Ad wr.heap.size 1)) (λh=>by have h':wr.heap.size<wr.heap.size:=h;omega) _;clear a3 aT cT bN cO cU;generalize bH:wr.heap.size=db at *;have aQ:=A4 bH;clear bH;go_wp2;generalize w5.setCell (Ad db 1) (.string ⟨dn.toArray⟩)=w6 at aH b5 ⊢;have cJ:Hid (GI bb bb il w6.drew):=cA.o.ak b5.o.ad (λ_ h=>h.elim);have b4:=A4 (A1X w6.drew cJ.o (by have:=bQ.o;have:=aQ.o;have:=b5.o.Am;show bb<=w6.heap.size;omega));have aS:Hid (∀wx,Below bb w6.drew wx->(∀k o,w6.drew.heap[k]?=some o->k≠bb->(∀c fz,o≠.cells c 5 fz)->wx.heap[k]?=some o)->Be wx db 119 (A7 b) ⟨dn.toArray⟩ s0/\A5 Ab w wx):=λwx H ho=>
    ⟨ho db _ aH.o.ad (by have:=bQ.o;have:=aQ.o;omega) (λc fz e=>by cases e),(bY.o.tr b5.o.ad).AJ (A5.b8 H) λx H I=>by have:=bX.o;omega⟩
   have bT:Hid (∀wx,Be wx db 119 (A7 b) ⟨dn.toArray⟩ s0->A5 Ab w wx->∀wy,Ax wx Ft wy (λw' z=>Bh w' b W.2 z)->Be wy db 119 (A7 b) ⟨dn.toArray⟩ s0/\BZ wy xb 122 b nm s0 f0 v0/\Ax w Ft wy (λw' z=>Bh w' b W.2 z)):=λwx hf H wy hy=>
    ⟨hf.ak hy.1 (λh=>by have:=bI.o _ h;have:=bY.o.Am;have:=aQ.o;omega),(cX.o.ak H (λh=>h)).ak hy.1 cE.o,hy.a7 H⟩
   have e0:=aH.o.ad.c0;have e1:=aH.o.ad.c1;have e2:=aH.o.ad.c2;obtain⟨cH,dC⟩:=W;dsimp only at aO aV bT aN;clear b7 bZ g0 g1 g2 dG bK;by_cases hw:cH=0
   case neg=>
    (have a8:R=(cH,dC):=by rw[aN.o,Ah hw]);subst a8;(have hwb:(cH !=0)=true:=by simpa using hw);refine Ce (λw'=>Aa w' db 0 (A7 b)/\Aa w' db 1 (.string ⟨dn.toArray⟩)/\Aa w' db 2 (.int .u32 s0)) 3
     [(0,true),(1,false),(2,false)] ⟨e0,e1,e2⟩ ?_
    refine Bq ?_;refine By λK X=>?_;go_simp;refine b4.k ?_;rintro w9⟨aF,aI⟩;have⟨q1,q2⟩:=aS.o w9 aF aI;refine X _ _ ⟨q1.c0,q1.c1,q1.c2⟩ (λhS=>?_);have aG:=A4 (aO.o w9 q2);have aM:=A4 (bT.o w9 q1 q2);clear X K hS aF aI q1 q2 b4 aS aO bT;refine By λK X=>?_;go_simp;refine aG.k ?_;rintro aD hI;have⟨q1,q2,q3⟩:=aM.o aD hI;refine X _ _ ⟨q1.c0,q1.c1,q1.c2⟩ (λhS=>?_);have dJ:=A4 q2;have dA:=A4 q3;clear X K hS hI aG aM q1 q2 q3;refine Cc ?_;go_wp2;go_ret;dsimp only
    have⟨r1,z,r2,r3,r4⟩:=dA.o;exact⟨rfl,dJ.o,r1.ae λ_ _ h=>.inl h,z,r2,r3,r4⟩
   case pos=>
    subst hw;(have a8:R=Q:=by rw[aN.o,Ae (by simp)]);subst a8;clear aN;refine Ce (λw'=>Aa w' db 0 (A7 b)/\Aa w' db 1 (.string ⟨dn.toArray⟩)/\Aa w' db 2 (.int .u32 s0)) 3
     [(0,true),(1,false),(2,false)] ⟨e0,e1,e2⟩ ?_
    refine Bq ?_;refine By λK X=>?_;go_simp;refine b4.k ?_;rintro w9⟨aF,aI⟩;have⟨q1,q2⟩:=aS.o w9 aF aI;refine X _ _ ⟨q1.c0,q1.c1,q1.c2⟩ (λhS=>?_);have aG:=A4 (aO.o w9 q2);have aM:=A4 (bT.o w9 q1 q2);have b0:=A4 q1;have b3:=A4 q2;clear X K hS aF aI q1 q2 b4 aS aO bT;refine By λK X=>?_;go_simp;refine aG.k ?_;rintro aD hI;have⟨q1,q2,q3⟩:=aM.o aD hI;refine X _ _ ⟨q1.c0,q1.c1,q1.c2⟩ (λhS=>?_);obtain⟨r1,-⟩:=q3;obtain⟨-,O,r2,r3,r5⟩:=hI;have dD:=A4 b0.o.lt;have dI:=A4 b3.o.Am;have cL:Hid (∀k,O k->Ft k\/w.heap.size<=k):=λk hk=>(r5 k hk).imp id λh=>AH dI.o h
    have cN:=A4 r1;have aL:=A4 (aV.o aD.drew O (B5.az r2 r3 (A5.C _ aD).ad));have x0:=q2.ad.c0;have x1:=q2.ad.c1;have x2:=q1.ad.c1;(have cF:Hid (¬O xb):=λh=>by rcases cL.o _ h with h|h;exact cE.o h;have:=bA.o;omega);have cC:Hid (¬O db):=λh=>by
     rcases r5 _ h with h|h
     ·have:=bI.o _ h;have:=bY.o.Am;have:=aQ.o;omega
     ·have:=dD.o;omega
    have bW:Hid (∀wz,Ax aD.drew O wz (λw' z=>Bh w' b R.2 z)->(BZ wz xb 122 b nm s0 f0 v0/\Be wz db 119 (A7 b) ⟨dn.toArray⟩ s0)/\Ax w Ft wz (λw' z=>Bh w' b R.2 z)):=λwz hz=>
     ⟨⟨q2.ad.ak hz.1 cF.o,q1.ad.ak hz.1 cC.o⟩,by
      obtain⟨z1,aP,z2,z3,z4⟩:=hz
      exact⟨(cN.o.ad).AJ z1 λx H I=>(cL.o x H).resolve_right (by omega),aP,z2,z3,λk hk=>(z4 k hk).elim (λh=>cL.o k h) λh=>.inr (AH cN.o.Am h)⟩⟩
    clear X K hS aG aM q1 q2 r1 r2 r3 r5 aV b0 b3;refine Cc ?_;obtain⟨bO,a7⟩:=R;dsimp only at aL bW;have aW:Hid (∀wz,BZ wz xb 122 b nm s0 f0 v0->Ax w Ft wz (λw' z=>Bh w' b a7 z)->BZ ((wz.setCell (Ad xb 3) (A0 first)).setCell (Ad xb 4) (.slice pa segs.length aA)) xb 122 b nm s0 first (.slice pa segs.length aA)/\Je w Ft xb ((wz.setCell (Ad xb 3) (A0 first)).setCell (Ad xb 4) (.slice pa segs.length aA)) b ⟨a7.D,a7.F⟩):=λwz H hz=>by
     obtain⟨z1,aP,z2,z3,z4⟩:=hz;have kz:A5 (One xb) wz ((wz.setCell (Ad xb 3) (A0 first)).setCell (Ad xb 4) (.slice pa segs.length aA)):=((A5.C (One xb) wz).ao (b:=xb) rfl 3 _).ao rfl 4 _;(have cI:¬aP xb:=λh=>by rcases z4 _ h with h|h;exact cE.o h;have:=bA.o;omega);exact⟨(H.s3 first).s4 _,z1.e3 kz,aP,B5.aM z2 (kz.az z3 λk hk e=>by have e':k=xb:=e;subst e';exact cI hk),λk hk=>Bm (z3 k hk) kz.Am,z4⟩
    by_cases hr:bO=0
    case neg=>
     (have hrb:(bO !=0)=true:=by simpa using hr);go_wp2;refine Ce (λw'=>Aa w' xb 0 (A7 b)/\Aa w' xb 1 (.string ⟨nm.toArray⟩)/\Aa w' db 1 (.string ⟨dn.toArray⟩)) 13
      (BD [0,1,2,3,4,5,6,7,8,9,10,11,12] [12]) ⟨x0,x1,x2⟩ ?_
     iterate 12 refine Bq ?_
     refine By λK X=>?_;go_simp;refine aL.k ?_;rintro aR hI;have⟨⟨y1,y2⟩,y3⟩:=bW.o aR hI;refine X _ _ ⟨y1.c0,y1.c1,y2.c1⟩ (λhS=>?_);have dB:=A4 y1;have dE:=A4 y3;clear X K hS hI aL bW y1 y2 y3;refine Cc ?_;go_wp2;go_ret;dsimp only
     have⟨r1,z,r2,r3,r4⟩:=dE.o;exact⟨rfl,dB.o,r1.ae λ_ _ h=>.inl h,z,r2,r3,r4⟩
    case pos=>
     subst hr;go_wp2;refine Ce (λw'=>Aa w' xb 0 (A7 b)/\Aa w' xb 1 (.string ⟨nm.toArray⟩)/\Aa w' db 1 (.string ⟨dn.toArray⟩)) 13
      (BD [0,1,2,3,4,5,6,7,8,9,10,11,12] [12]) ⟨x0,x1,x2⟩ ?_
     iterate 12 refine Bq ?_
     refine By λK X=>?_;go_simp;refine aL.k ?_;rintro aR hI;have⟨⟨y1,y2⟩,y3⟩:=bW.o aR hI;refine X _ _ ⟨y1.c0,y1.c1,y2.c1⟩ (λhS=>?_);have bP:=A4 (aW.o aR y1 y3);have g3:=y1.c3;have z3:=y1.fz 3;have g4:=(y1.s3 first).c4;have z4:=(y1.s3 first).fz 4;clear X K hS hI aL bW y1 y2 y3 aW;refine Cc ?_;go_wp2;go_ret;exact⟨rfl,bP.o.1,bP.o.2⟩
end
end
section
open Go.RowKit
def Cw(w:World)(jb b:Nat)(lv:Value)(last puts:Int)(ov:Value):Prop:=w.heap[jb]?=some (.cells #[.pointer (some ⟨b,0,none⟩),lv,.int .i64 last,.int .i64 puts,ov] 167 (0,0))
section
variable{w w':World}{jb b:Nat}{lv ov:Value}{last puts:Int}
def Cw.c0(h:Cw w jb b lv last puts ov):Aa w jb 0 (A7 b):=by unfold Cw at h;simp[Aa,World.cell?,h]
def Cw.c1(h:Cw w jb b lv last puts ov):Aa w jb 1 lv:=by unfold Cw at h;simp[Aa,World.cell?,h]
def Cw.c2(h:Cw w jb b lv last puts ov):Aa w jb 2 (A0 last):=by unfold Cw at h;simp[Aa,World.cell?,h]
def Cw.c3(h:Cw w jb b lv last puts ov):Aa w jb 3 (A0 puts):=by unfold Cw at h;simp[Aa,World.cell?,h]
def Cw.c4(h:Cw w jb b lv last puts ov):Aa w jb 4 ov:=by unfold Cw at h;simp[Aa,World.cell?,h]
def Cw.fz(h:Cw w jb b lv last puts ov)(o:Nat):w.frozen? (Ad jb o)=false:=by unfold Cw at h;simp[World.frozen?,h]
def Cw.lt(h:Cw w jb b lv last puts ov):jb<w.heap.size:=Bo h
def Cw.s1(h:Cw w jb b lv last puts ov)(x:Value):Cw (w.setCell (Ad jb 1) x) jb b x last puts ov:=CE h
def Cw.s2(h:Cw w jb b lv last puts ov)(x:Int):Cw (w.setCell (Ad jb 2) (A0 x)) jb b lv x puts ov:=CE h
def Cw.s3(h:Cw w jb b lv last puts ov)(x:Int):Cw (w.setCell (Ad jb 3) (A0 x)) jb b lv last x ov:=CE h
def Cw.s4(h:Cw w jb b lv last puts ov)(x:Value):Cw (w.setCell (Ad jb 4) x) jb b lv last puts x:=CE h
def Cw.ad(h:Cw w jb b lv last puts ov):Cw w.drew jb b lv last puts ov:=by unfold Cw at h ⊢;exact h
def Cw.ak{S:Nat->Prop}(h:Cw w jb b lv last puts ov)(z:A5 S w w')(H:¬S jb):Cw w' jb b lv last puts ov:=z.ak h H
end
structure DE (w:World) (jb b:Nat) (lv ov:Value) (J:Jn):Prop where
 Ai:Cw w jb b lv J.A8 J.puts ov
 Al:DF w lv J.Al
 AP:(J.AP=none/\ov=.pointer none)\/∃n s lb,J.AP=some (n,s)/\ov=.pointer (some ⟨lb,0,none⟩)/\Be w lb 196 (.pointer (some ⟨b,0,none⟩)) ⟨(Af n).toArray⟩ s/\s<4294967296
def Dk(jb:Nat)(lv ov:Value)(k:Nat):Prop:=k=jb\/lv.ownBlock=some k\/ov=.pointer (some ⟨k,0,none⟩)
section
variable{w w':World}{jb b:Nat}{lv ov:Value}{J:Jn}
def DE.aM(h:DE w jb b lv ov J)(H:G3 (Dk jb lv ov) w w'):DE w' jb b lv ov J:=by
 refine⟨(H jb (.inl rfl)).trans h.Ai,AA h.Al λg X=>H g (.inr (.inl X)),?_⟩;rcases h.AP with z|⟨n,s,I,z,rfl,W,O⟩
 ·exact .inl z
 ·exact .inr ⟨n,s,I,z,rfl,(H I (.inr (.inr rfl))).trans W,O⟩
def DE.lt(h:DE w jb b lv ov J){k:Nat}(z:Dk jb lv ov k):k<w.heap.size:=by
 rcases z with rfl|z|rfl
 ·exact h.Ai.lt
 ·exact AG h.Al z
 ·rcases h.AP with⟨_,H⟩|⟨n,s,lb,_,H,I,_⟩
  ·cases H
  ·cases H;exact I.lt
def DE.An{S:Nat->Prop}(h:DE w jb b lv ov J)(H:A5 S w w')(I:∀k,Dk jb lv ov k->¬S k):DE w' jb b lv ov J:=
 h.aM (H.az (λ_ z=>h.lt z) I)
def DE.aJ(h:DE w jb b lv ov J)(z:A5 Ab w w'):DE w' jb b lv ov J:=h.An z λ_ _ h=>h
end
def Ow(l:List Int)(j:Nat)(h:j<l.length):l.getD j 0=l[j]'h:=by simp[List.getD,h]
def A0X(w:World)(Y v2:Value)(h z:List Int)(X:Dc w Y h)(W:Dc w v2 z):
 Aj 203 #[Y,v2] w (Au (.bool (decide (h=z))) λw'=>∃q,w'=w.drewN q):=by
 obtain⟨a1,c1,rfl,p1,p2⟩:=X.BV;obtain⟨a2,c2,rfl,q1,q2⟩:=W.BV;unfold maxLen at p2 q2;by_cases hl:h.length=z.length
 case neg=>
  have O:¬h=z:=λe=>hl (by rw[e]);refine(Tryz.slices_Equal_int_lens a1 a2 _ c1 _ c2 w hl).k ?_;rintro w' rfl;exact⟨by rw[Dw O],0,rfl⟩
 case pos=>
 by_cases h0:h.length=0
 ·have e1:h=[]:=G4.1 h0;have e2:z=[]:=G4.1 (by omega);subst e1;subst e2;refine(Tryz.slices_Equal_int_empty a1 a2 c1 0 c2 w (by omega)).k ?_;rintro w' rfl;exact⟨by simp,0,rfl⟩
 ·obtain⟨g1,o1,rfl,-⟩:=Dc.at X 0 (by omega);obtain⟨g2,o2,rfl,-⟩:=Dc.at W 0 (by omega);refine(Tryz.slices_Equal_int g1 o1 _ c1 g2 o2 _ c2 h z w (Aq _) (Aq _) (by omega) (by omega) (λj H=>?_) (λj H=>?_)).mono ?_
  ·have⟨g,o,e,hc⟩:=Dc.at X j H;cases e;rw[Ow h j H];exact hc
  ·have⟨g,o,e,hc⟩:=Dc.at W j H;cases e;rw[Ow z j H];exact hc
  rintro e w'⟨rfl,q,rfl⟩;refine⟨?_,q,rfl⟩;rw[Cj,Cj];by_cases I:h=z
  ·rw[CJ I,I];simp
  ·rw[Dw I,Hn.2 I]
def Rn:∀(k s:Nat) (l:Bs),(Dh k s l).1.length*21<=l.length
 | 0,_,l=>by simp[Dh]
 | k+1,s,l=>by
  unfold Dh;split
  ·simp
  ·rename_i h;split
   ·have:=Rn k (AV s (l.take 17)) (l.drop 21);rw[CM]at this;simp only[BM];omega
   ·simp
def Y5(s:Nat)(ahead:Int)(l:Bs):(Ew s ahead l).1.length*21<=l.length:=by
 unfold Ew;split
 ·simp
 ·split
  ·split
   ·have:=Rn l.length (AV s (l.take 8)) (l.drop 12);rw[CM]at this;simp only;omega
   ·simp
  ·simp
def Zj{P:PD}{a c m:Nat}(z:Fit P a c m)(n ahead:Int):(P.aY n ahead).1.length*21<=m:=by
 have h:=JX z (Af n);unfold PD.aY Gs;split
 ·simp
 ·exact AH (Y5 _ _ _) h
end
section
open Go.RowKit
attribute [local go_sem ↓] Cz
section
variable{w:World}{b B jb:Nat}{P:PD}{Ft:Nat->Prop}{a c m:Nat}{lv ov:Value}{J:Jn}
def NB(w:World)(h:Bh w b P Ft)(aE:∀k,Ft k->k<w.heap.size)(hJ:DE w jb b lv ov J)(hF:Fit P a c m)(hl:CN a c m)(hm:J.Al.length*m<=70368744177664)(hn:∀n∈J.Al,Cv n)(hL:Lets B w):
 Aj 58 #[A7 jb] w λe w'=>∃v,e=.returned (.tuple #[v,A0 (P.puts J.Al).2])/\AZ w' v (P.puts J.Al).1/\(∀g,v.ownBlock=some g->w.heap.size<=g)/\A5 Ab w w':=by
 have⟨i0,hi,hz0,hz1,hz2⟩:=Eb Ig;have c0:=hJ.Ai.c0;have c1:=hJ.Ai.c1;have aL:=A4 (DF.rd hJ.Al);obtain⟨la,lcap,rfl,lc1,aR⟩:=aL.o.BV;unfold maxLen at aR;have aX:Hid (P.puts J.Al=P.aU J.Al []):=rfl;generalize hR:P.puts J.Al=R at aX ⊢;have a1:Hid (∀w1,A5 Ab w w1->∀n∈J.Al,∀ahead,Aj 100 #[A7 b,A0 n,A0 ahead] w1 λe w'=>∃v,e=.returned (.tuple #[v,A0 (P.aY n ahead).2])/\AZ w' v (P.aY n ahead).1/\(∀g,v.ownBlock=some g->w1.heap.size<=g)/\A5 Ab w1 w'):=λw1 hc n aV ahead=>
  Y8 w1 ahead (B5.az h aE hc) (λk hk=>Bm (aE k hk) hc.Am) (hn n aV) (hL.aP hc) (by have h1:(DV P.D P.F ⟨(BJ 1 n).toArray⟩).1.length<=m:=JX hF (Af n);have:=hl.m;omega)
 have a2:Hid (∀n ahead,(P.aY n ahead).1.length*21<=m):=λn ahead=>Zj hF n ahead;have aY:=A4 hm;generalize J.Al=Al at *;have a3:∀k,k<=Al.length->k*m<=70368744177664:=λk hk=>AH (HM m hk) aY.o;have aU:=A4 a3
 go_enter func58,ntmps58
 go_wp2;go_loopw [4,14] (λv iv wr=>∃(k:Nat) (z:List Pu),iv=A0 k/\k<=Al.length/\Hid (AZ wr v z/\(∀g,v.ownBlock=some g->w.heap.size<=g)/\A5 Ab w wr/\z.length*21<=k*m/\R=P.aU (Al.drop k) z)) (λ_ iv _=>Al.length-(intOf iv).toNat)
 ·exact⟨0,[],rfl,by omega,CL _ _ _ _,λg I=>by simp[Value.ownBlock]at I,A5.C _ _,by simp,aX.o⟩
 ·obtain⟨k,z,rfl,hk,hI⟩:=hrel;have⟨i1,i2,i3,i4,i5⟩:=hI.o;obtain⟨ap,cp,rfl,hcap1,aF,-⟩:=Bb i1;unfold maxLen at aF;by_cases H:k<Al.length
  ·obtain⟨g,o,rfl,d1⟩:=Dc.at aL.o k H;have aB:=BS H;have aM:=Fy H;generalize hne:(Al[k]'H)=n at d1 aB aM;have e1:=i3.an d1;have e0:=i3.an c0;have W:=A4 (a1.o wr i3 n aB z.length);have aA:=A4 (a2.o n z.length);rw[aM]at i5;have aO:Hid (R=if (P.aY n z.length).2≠0 then ([],(P.aY n z.length).2) else P.aU (Al.drop (k+1)) (z++(P.aY n z.length).1)):=i5;generalize hX:P.aY n z.length=X at W aA aO;obtain⟨aH,aS⟩:=X;dsimp only at W aA aO;have aN:=A4 i1;have aP:=A4 i2;have aI:=A4 i3;have aW:=A4 i4;(have aT:(k:Int)<(Al.length:Int):=by omega);have hk0:=Cd k;by_cases hx:aS=0
   case neg=>
    (have hxb:(aS !=0)=true:=by simpa using hx);(have aG:R=([],aS):=by rw[aO.o,Ah hx]);subst aG;go_wp2_with (go_at_call 100;refine W.m ?_;rintro e w6⟨v,rfl,-,-,Y⟩;have O:=A4 Y);go_ret2;exact⟨_,rfl,CL _ _ _ _,λg I=>by simp[Value.ownBlock]at I,aI.o.tr O.o⟩
   case pos=>
    subst hx;(have a0:Hid (R=P.aU (Al.drop (k+1)) (z++aH)):=by unfold Hid;rw[aO.o,Ae (by simp)]);have a4:=A4 (aU.o (k+1) H);go_wp2_with (fail);refine W.m ?_;rintro e w6⟨v,rfl,hv,hvo,Y⟩;obtain⟨ap2,cp2,rfl,-,aD,-⟩:=Bb hv;unfold maxLen at aD;have O:=A4 Y;have aJ:Hid (w6.ownsRow 0 90 3 (.slice ap z.length cp) z.length (Ba z)):=AA aN.o λg I=>Y.Ao g (AG aN.o I) (λh=>h);have aK:=A4 (Src.bM underlying72 hv (I6 aH));go_wp2_with (at_builtin;refine De rfl (.tmp 32) (.tmp 33) 72 72 rfl 90 i0 _ 3 24 underlying72 hi hz0 hz1 hz2 rfl (by decide) (.slice ap z.length cp) z.length (Ba z) (by rfl) aJ.o _ aH.length _ (by rfl) aK.o (by have:=aA.o;have:=aW.o;have:=a4.o;rw[MM]at this;omega) ?_;intro a8 cap8 w8 hA;have aZ:=A4 hA);go_roundw
    ·have hA:=aZ.o;have aQ:=hA.An (S:=λk=>(Value.slice ap z.length cp).ownBlock=some k) λ_ h=>h;refine⟨k+1,z++aH,by go_num,by omega,?_,?_,?_,?_,a0.o⟩
     ·(have e:(z++aH).length=z.length+aH.length:=by simp);unfold AZ;rw[IJ,e];exact hA.AP
     ·intro g I;rcases hA.Cu with h|h
      ·rw[h]at I;exact aP.o g I
      ·rw[h]at I;cases I;have:=aI.o.Am;have:=O.o.Am;omega
     ·exact(aI.o.tr O.o).AJ aQ λy hy aE=>by have:=aP.o y hy;omega
     ·have:=aA.o;have:=aW.o;rw[MM];simp only[AX];omega
    ·simp[intOf];omega
  ·(obtain rfl:k=Al.length:=by omega);have aN:=A4 i1;have aP:=A4 i2;have aI:=A4 i3;(have aG:R=(z,0):=by rw[i5,Gm];rfl);subst aG;(have aT:¬((Al.length:Int)<(Al.length:Int)):=by omega);go_wp2;go_ret2;exact⟨_,rfl,aN.o,aP.o,aI.o⟩
end
end
end Go.Proofs.YtodcnkbblippnabGreatDoor
