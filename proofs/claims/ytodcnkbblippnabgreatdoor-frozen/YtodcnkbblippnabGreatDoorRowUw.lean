/- The law Frozen returns true for every number that it is given: a call of the disk fails, and what has failed changes nothing more (as a row, and its tied card). -/
import Derived.Test.YtodcnkbblippnabGreatDoorPart22
import Derived.Test.YtodcnkbblippnabGreatDoorPart24
namespace Go.Proofs.YtodcnkbblippnabGreatDoor
set_option maxRecDepth 100000
set_option maxHeartbeats 32000000
set_option linter.defProp false
open Go.Proofs.Tryz
section
open Go.RowKit
attribute [local go_sem ↓] Go.wp_at_zero Go.wp_at_succ
section
variable {B N:Nat}
def A0m(bD:Fj N)(hN:300<=N/\N<=200000)(w:World)(c every d part:Int)(hc:AW c)(cF:AW every)(bK:AW d)(cL:AW part)(hE:Env B w):
 Ah 4 #[A0 c,A0 every,A0 d,A0 part] w (Am (.bool true) λw'=>A3 Aa w w'):=by
 have dG:=A1 (Zk (B:=B) bD ⟨by omega,hN.2⟩ w 0 ⟨by decide,by decide⟩ hE);obtain⟨p1,cU,cQ⟩:=RB d 60 bK (by decide);have bT:=A1 p1;clear p1;generalize DB d 60=pc at bT cU cQ;have dO:=A1 hc;have bI:=A1 hE;have a9:=A1 hN;have dD:=A1 cL;obtain⟨p2,b3,bN⟩:=RB every 9 cF (by decide);have aA:=A1 p2;clear p2;generalize DB every 9=pe at aA b3 bN;clear hc hE hN cF bK cL
 go_enter func4,ntmps4
 go_wp2_with (fail);refine dG.m ?_;rintro e w1⟨xb,rfl,k1,sb,ab,b,P,h1,h2,h3,h4⟩;have dC:=A1 ((h1.aJ (A3.I Aa w1).af).BJ (1+pc) part dD.o);have x0:=h1.Ag.c0;have bH:=h1.pu.2.2.2.1;have cM:Hid (∀w',KO 0 w.heap.size xb sb ab b (1+DB 9 300) 0 [] 0 false ⟨{P.D with n:=Dj P.D.n (1+pc) part},P.F⟩ w'->Eo c w.heap.size xb sb ab b (1+DB 9 300) P.D.n.AP true 0 0 0 w'):=λw' hk=>by
  refine⟨_,_,_,hk,h2,h3.1,λ_=>⟨rfl,?_,?_,?_,h4⟩,λe=>by cases e⟩
  ·simp[Dj]
  ·have e:(Dj P.D.n (1+pc) part).BJ=P.D.n.AP+(1+pc):=by
    have e1:wrap64 (P.D.n.AP+(1+pc))=P.D.n.AP+(1+pc):=by
     obtain⟨-,a1,a2⟩:=bH;unfold wrap64;simp at a2;omega
    simp only[Dj];rw[Af (by omega),e1]
   show P.D.n.AP<(Dj P.D.n (1+pc) part).BJ;rw[e];omega
  ·have e:(Dj P.D.n (1+pc) part).BJ=P.D.n.AP+(1+pc):=by
    have e1:wrap64 (P.D.n.AP+(1+pc))=P.D.n.AP+(1+pc):=by
     obtain⟨-,a1,a2⟩:=bH;unfold wrap64;simp at a2;omega
    simp only[Dj];rw[Af (by omega),e1]
   show (Dj P.D.n (1+pc) part).BJ<=P.D.n.AP+60;rw[e];omega
 have dM:=A1 k1;clear dG h1 h2 h3 h4 k1 bH;generalize 1+DB 9 300=HL at dC cM;generalize P.D.n.AP=k0 at cM;go_wp2;refine C3 (λw'=>A6 w' xb 0 (A5 b)) 8
  (Bz [0,1,2,3,4,7,5,6] [5]) x0 ?_
 iterate 6 (refine Bj ?_;(try simp only[Ao]))
 refine Bt λK hK=>?_;go_simp;refine(bT.o _).mono ?_;rintro e w2⟨rfl,rfl⟩;refine hK _ _ x0 (λhS=>?_)
 (try simp only[Ao])
 (refine Bj ?_;(try simp only[Ao]))
 refine Bo ?_;simp only[BO,BN];go_wp2_with (fail);refine dC.m ?_;rintro e w2⟨rfl,k2,h2⟩;have dP:Hid (A3 Aa w w2/\Eo c w.heap.size xb sb ab b HL k0 true 0 0 0 w2):=⟨dM.o.bn ((A3.I (Up w.heap.size) w1).af.tr k2) λ_ h=>h,cM.o _ h2⟩;clear k2 h2 dC cM x0 dM;go_wp2;go_loopw [10,11,12,13] (λev nv mv iv wr=>∃(i nn mm:Nat) (al:Bool),iv=A0 i/\nv=A0 nn/\mv=A0 mm/\ev=(if al then A0 0 else A0 5)/\i<=80/\nn<=80/\mm<=1/\Hid (A3 Aa w wr/\Eo c w.heap.size xb sb ab b HL k0 al i nn mm wr)) (λ_ _ _ iv _=>80-(intOf iv).toNat)
 case atStart=>exact⟨0,0,0,true,rfl,rfl,rfl,rfl,by omega,by omega,by omega,dP⟩
 case round=>
  obtain⟨i,nn,mm,al,rfl,rfl,rfl,rfl,hi,hnn,hmm,hH⟩:=hrel;obtain⟨w4,cN⟩:∃w4,w4=wr:=⟨_,rfl⟩;subst cN;have E:=hH.o.2.Ag.c1;have d0:=Ce i;cases al with
  | true=>
   have a0:i<60:=hH.o.2.dW;(have i1:(i:Int)<80:=by omega);(have e1w:IntKind.i64.wrap ((i:Int)+1)=(i:Int)+1:=by simp[IntKind.wrap,IntKind.bits,IntKind.signed];omega);(have n0:¬(1+pe)=0:=by omega);(have n1:¬(1+pe) = -1:=by omega);(have n2:(0:Int)<=1+pe:=by omega);have L:=A1 (hH.o.2.aw dO.o (bI.o.aS hH.o.1).1 bI.o.1.1);have bJ:=A1 hH.o.1;have aB:=A1 (And.intro hi a0);clear hH hi;simp only[Cg];go_wp2_with (fail);refine L.m ?_;rintro e O⟨k5,b5⟩;clear L;have aS:Hid (A3 Aa w O):=bJ.o.bn k5 λ_ h=>h;rcases b5 with⟨rfl,P5,s5,h5,aY,bB,g5,g6,g7,g8⟩|⟨rfl,h5⟩
   ·have aG:=h5.Ag.c1;have SV:Hid (∀f,MO f->Ah f #[A5 sb] O λe w'=>A3 (Up w.heap.size) O w'/\((e=.returned (A0 0)/\Eo c w.heap.size xb sb ab b HL k0 true (i+1) (i+1) 0 w')\/(e=.returned (A0 5)/\Eo c w.heap.size xb sb ab b HL k0 false (i+1) (i+1) 0 w'))):=λf hf=>
     A0v bD a9.o f hf (by have:=aB.o.2;omega) h5 aY bB g5 g6 g7 g8 (bI.o.aS aS.o).1 bI.o.1.1
    have dH:=A1 (A0w h5 aY bB g5 g6 g7 g8 i 1);clear h5 aY bB g5 g6 g7 g8 k5 bJ E;by_cases Y:(i:Int) % (1+pe)=0
    ·(have hq:((i:Int) % (1+pe)==0)=true:=by rw[Y];rfl);clear Y dH;(have h4:i % 4=0\/i % 4=1\/(i % 4≠0/\i % 4≠1):=by omega);rcases h4 with h4|h4|⟨h4,cZ⟩
     focus
      (have q0:((i:Int) % 4==0)=true:=by simp;omega);clear h4;go_wp2_with (go_at_call 11;refine(aA.o _).mono ?_;rintro e w'⟨rfl,rfl⟩)
     rotate_left
     focus
      (have q0:((i:Int) % 4==0)=false:=by simp;omega);(have q1:((i:Int) % 4==1)=true:=by simp;omega);clear h4;go_wp2_with (go_at_call 11;refine(aA.o _).mono ?_;rintro e w'⟨rfl,rfl⟩)
     rotate_left
     focus
      (have q0:((i:Int) % 4==0)=false:=by simp;omega);(have q1:((i:Int) % 4==1)=false:=by simp;omega);clear h4 cZ;go_wp2_with (go_at_call 11;refine(aA.o _).mono ?_;rintro e w'⟨rfl,rfl⟩)
     rotate_left
     all_goals
      refine(SV.o _ (by first|exact .inl rfl|exact .inr (.inl rfl)|exact .inr (.inr rfl))).mono ?_;rintro e w6⟨k6,⟨rfl,h6⟩|⟨rfl,h6⟩⟩
      ·have W:Hid (A3 Aa w w6/\Eo c w.heap.size xb sb ab b HL k0 true (i+1) (i+1) 0 w6):=⟨aS.o.bn k6 λ_ h=>h,h6⟩;clear k6 h6;go_wp2;go_roundw
       case rel=>exact⟨i+1,i+1,0,true,by simp,by simp,rfl,rfl,by have:=aB.o.2;omega,by have:=aB.o.2;omega,by omega,W⟩
       case measure=>simp[intOf];have:=aB.o;omega
      ·have W:Hid (A3 Aa w w6/\Eo c w.heap.size xb sb ab b HL k0 false (i+1) (i+1) 0 w6):=⟨aS.o.bn k6 λ_ h=>h,h6⟩;clear k6 h6;go_wp2;go_roundw
       case rel=>exact⟨i+1,i+1,0,false,by simp,by simp,rfl,rfl,by have:=aB.o.2;omega,by have:=aB.o.2;omega,by omega,W⟩
       case measure=>simp[intOf];have:=aB.o;omega
    ·(have hq:((i:Int) % (1+pe)==0)=false:=by simpa using Y);clear Y SV;go_wp2_with (go_at_call 11;refine(aA.o _).mono ?_;rintro e w'⟨rfl,rfl⟩);have W:Hid (A3 Aa w O/\Eo c w.heap.size xb sb ab b HL k0 true (i+1) i 1 O):=⟨aS.o,dH.o⟩;go_roundw
     case rel=>exact⟨i+1,i,1,true,by simp,rfl,rfl,rfl,by have:=aB.o.2;omega,by have:=aB.o.2;omega,by omega,W⟩
     case measure=>simp[intOf];have:=aB.o;omega
   ·have W:Hid (A3 Aa w O/\Eo c w.heap.size xb sb ab b HL k0 false (i+1) i 1 O):=⟨aS.o,h5⟩;clear h5 k5 bJ E;go_wp2;go_roundw
    case rel=>exact⟨i+1,i,1,false,by simp,rfl,rfl,rfl,by have:=aB.o.2;omega,by have:=aB.o.2;omega,by omega,W⟩
    case measure=>simp[intOf];have:=aB.o;omega
  | false=>
   obtain⟨m,hF,hm,cH⟩:=hH.o.2.fu;have cP:=A1 hF;have bJ:=A1 hH.o.1;have aJ:=A1 (And.intro hm cH);clear hF hH hm cH aA b3 bN;simp only[MU,C4];have ST:=A1 cP.o.cD;by_cases a0:i<80
   focus
    (have i1:(i:Int)<80:=by omega);go_wp2_with (fail)
   rotate_left
   focus
    (have i1:¬(i:Int)<80:=by omega);go_wp2_with (fail)
   rotate_left
   all_goals
    clear a0;refine ST.m ?_;rintro e O⟨rfl,k5⟩;have bA:=(A3.I Aa O).aj (.cells #[.bool true,A0 0] 51);have cI:=BK O (.cells #[.bool true,A0 0] 51);(have cS:Hid ((O.alloc (.cells #[.bool true,A0 0] 51)).heap.size=O.heap.size+1):=by simp[Hid]);have aQ:=A1 ((cP.o.aJ k5).aJ bA);have aS:Hid (A3 Aa w (O.alloc (.cells #[.bool true,A0 0] 51))):=(bJ.o.tr k5).tr bA;have E:=aQ.o.Ag.c1;have y0:A6 (O.alloc (.cells #[.bool true,A0 0] 51)) O.heap.size 0 (.bool true):=FN cI;have aK:=A1 (aQ.o.bR (by have:=aJ.o.2;omega));clear bA cI k5 ST cP bJ;go_wp2_with (fail);generalize O.alloc (.cells #[.bool true,A0 0] 51)=w6 at aQ aS E y0 aK cS ⊢;refine aK.m ?_;rintro e w7⟨x,rfl,hx,k7,aX⟩;obtain⟨X,hX⟩:∃X:Nat->Prop,X=λk=>False\/x.oB k:=⟨_,rfl⟩;rw[<-hX]at aX;(have bU:Hid (∀g,x.oB g->X g):=λg I=>by rw[hX];exact .inr I);have aF:=A1 aX;have dI:Hid (A3 Aa w w7):=aS.o.tr k7;have b0:=aF.o.Ag.c0;have E:=aF.o.Ag.c1;have cV:=k7.ao y0;have aW:=WT (λi=>((i:Int),c)) m;have dF:=A1 hx;obtain⟨a,cap,bO,-⟩:=B9 hx;rw[aW]at bO;subst bO;have dA:=A1 aF.o.B5;clear hx aK k7 aQ aS y0 hX aX;(have cT:IntKind.i64.wrap ((nn:Int)+(mm:Int))=(nn:Int)+(mm:Int):=by simp[IntKind.wrap,IntKind.bits,IntKind.signed];omega);(have H:m=nn\/(m≠nn/\m=nn+mm):=by have:=aJ.o.1;omega);have aN:=A1 aW;clear aW;rcases H with H|⟨H,aM⟩
    focus
     (have hA:((m:Int)!=(nn:Int))=false:=by simp;omega);clear H;go_wp2_with (go_at_call 21;refine dA.m ?_;rintro e w'⟨rfl,rfl⟩)
    rotate_left
    focus
     (have hA:((m:Int)!=(nn:Int))=true:=by simp;omega);(have hB:((m:Int)!=(nn:Int)+(mm:Int))=false:=by simp;omega);clear H aM;go_wp2_with (go_at_call 21;refine dA.m ?_;rintro e w'⟨rfl,rfl⟩)
    rotate_left
    all_goals
     clear dA cT hA cV b0;have L:=A1 (aF.o.aw 0 500 c (by decide));refine L.m ?_;rintro e w8⟨rfl,k8,c8,bQ⟩;have a8:=A1 bQ;have dN:Hid (A3 Aa w w8):=dI.o.bn k8 λ_ h=>h;have cY:Hid (CX w8 (.slice a m cap) (EN (λi=>((i:Int),c)) m)):=Ay dF.o λg I=>c8.Al g (Az dF.o I) (λhn=>hn (bU.o g I));clear k8 c8 bQ dF dI L aF E;have E:=a8.o.Ag.c1;go_wp2_with (fail);have L:=A1 (a8.o.cu 18 (.inl rfl));refine L.m ?_;rintro e w9⟨rfl,k9,c9,b4⟩;have a6:=A1 b4;have dK:Hid (A3 Aa w w9):=dN.o.bn k9 λ_ h=>h;have cO:Hid (CX w9 (.slice a m cap) (EN (λi=>((i:Int),c)) m)):=Ay cY.o λg I=>c9.Al g (Az cY.o I) (λhn=>hn (bU.o g I));clear k9 c9 b4 cY dN L a8 E;have E:=a6.o.Ag.c1;go_wp2_with (fail);have L:=A1 (a6.o.cu 19 (.inr (.inl rfl)));refine L.m ?_;rintro e cB⟨rfl,bZ,c10,aT⟩;have aH:=A1 aT;have bY:Hid (A3 Aa w cB):=dK.o.bn bZ λ_ h=>h;have bC:Hid (CX cB (.slice a m cap) (EN (λi=>((i:Int),c)) m)):=Ay cO.o λg I=>c10.Al g (Az cO.o I) (λhn=>hn (bU.o g I));clear bZ c10 aT cO dK L a6 E;have E:=aH.o.Ag.c1;go_wp2_with (fail);have L:=A1 (aH.o.cu 14 (.inr (.inr rfl)));refine L.m ?_;rintro e bV⟨rfl,b8,cG,aU⟩;have aE:=A1 aU;have bW:Hid (A3 Aa w bV):=bY.o.bn b8 λ_ h=>h;have aZ:Hid (CX bV (.slice a m cap) (EN (λi=>((i:Int),c)) m)):=Ay bC.o λg I=>cG.Al g (Az bC.o I) (λhn=>hn (bU.o g I));clear b8 cG aU bC bY L aH E;have E:=aE.o.Ag.c1;go_wp2_with (fail);have aK:=A1 (aE.o.bR (by have:=aJ.o.2;omega));refine aK.m ?_;rintro e bG⟨y,rfl,hy,bE,aV⟩;have aI:=A1 aV;have bX:Hid (A3 Aa w bG):=bW.o.tr bE;have aL:Hid (CX bG (.slice a m cap) (EN (λi=>((i:Int),c)) m)):=Ay aZ.o λg I=>bE.Al g (Az aZ.o I) (λh=>h);have cA:=A1 hy;clear hy bE aV aZ bW aK aE E;have E:=aI.o.Ag.c1;go_wp2_with (fail);have bF:=A1 (SS bG _ _ _ _ aL.o cA.o (by rw[aN.o];have:=aJ.o.2;omega) (by rw[aN.o];have:=aJ.o.2;omega));rw[Cv rfl]at bF;refine bF.m ?_;rintro e b6⟨rfl,aR⟩;have aD:=A1 (aI.o.aJ aR);have a3:Hid (A3 Aa w b6):=bX.o.tr aR;have a5:Hid (CX b6 (.slice a m cap) (EN (λi=>((i:Int),c)) m)):=Ay aL.o λg I=>aR.Al g (Az aL.o I) (λh=>h);clear aR aL cA bX bF aI E;have E:=aD.o.Ag.c1;go_wp2_with (fail);have L:=A1 (aD.o.eM bD (by have:=a9.o;omega) (by have:=aJ.o.2;omega) (by have:=aJ.o.2;have:=a9.o;omega) (by have:=aJ.o.2;omega) dO.o (bI.o.aS a3.o) bI.o.1.1);refine L.m ?_;rintro e b7⟨rfl,bP,bL,sb2,aG,hq⟩;have aK:=A1 hq;have bM:Hid (A3 Aa w b7):=a3.o.bn bP λ_ h=>h;have a7:Hid (CX b7 (.slice a m cap) (EN (λi=>((i:Int),c)) m)):=Ay a5.o λg I=>bL.Al g (Az a5.o I) (λhn=>hn (.inl (bU.o g I)));clear bP bL hq a5 a3 L aD E;go_wp2_with (fail);refine aK.m ?_;rintro e a4⟨z,rfl,hz,aO,hp⟩;have L:=A1 hp;have cC:Hid (A3 Aa w a4):=bM.o.tr aO;have bR:Hid (CX a4 (.slice a m cap) (EN (λi=>((i:Int),c)) m)):=Ay a7.o λg I=>aO.Al g (Az a7.o I) (λh=>h);have b9:=A1 hz;have E:=aO.ao aG;clear hp hz aO a7 bM aK aG;go_wp2_with (fail);have bF:=A1 (SS a4 _ _ _ _ bR.o b9.o (by rw[aN.o];have:=aJ.o.2;omega) (by rw[aN.o];have:=aJ.o.2;omega));rw[Cv rfl]at bF;refine bF.m ?_;rintro e cD⟨rfl,aP⟩;have dJ:=A1 (L.o cD aP);have b2:Hid (A3 Aa w cD):=cC.o.tr aP;have aG:=aP.ao E;clear aP bR b9 cC bF L E;go_wp2_with (fail);refine dJ.m ?_;rintro e dB⟨rfl,cJ,E,ha⟩;have dL:=A1 ha;have bS:Hid (A3 Aa w dB):=b2.o.bn cJ λ_ h=>h;clear cJ b2 dJ aG ha;go_wp2_with (fail);refine dL.m ?_;rintro e dE⟨rfl,cE⟩;have cX:A3 Aa w dE:=bS.o.tr cE;clear dL bS E cE;go_wp2_with (fail);go_ret;exact⟨rfl,cX⟩
end
end
section
open Go.ChangeAt Go.ChangeShapes Go.RowKit Go.WideShapes
def A0k(os:Os)(W:World)(h:Ho os W)(args:Array Value):laidMetH Tryz.prog Rows.frozenRow.laid (W.forCall (λ_ _=>0) ⟨#[],args,[]⟩).memory:=Zc os W h args
def A0l(os:Os)(started:os.Started)(H:Type)(enc:TypeId×Value->H):
 ReturnsInHanded {} Tryz.checked os 4 .any (λw args=>(Rows.frozenSpec.pre enc Tryz.prog Tryz.f4 Rows.frozenRow.domain false w args/\laidMetH Tryz.prog Rows.frozenRow.laid w)/\sizedMet enc Tryz.prog Tryz.f4 (OpenSpec.ofChange Rows.frozenSpec) false w args)
  (Rows.frozenSpec.post enc Tryz.prog Tryz.f4 false true false false):=by
 obtain⟨O,d⟩:∃O,Ho os O:=⟨_,rfl⟩;have hm:=A0k os O d;refine returnsInHanded_of_change_and (C:=Tryz.checked) (X:=λw _=>laidMetH Tryz.prog Rows.frozenRow.laid w) (λ_ _ _ hh h=>h.of_heap hh) Tryz.own started (by kernel_rfl) func4
  (ChangeSpec.witness_at (enc:=enc) (C:=Tryz.checked) (os:=os) (X:=λw _=>laidMetH Tryz.prog Rows.frozenRow.laid w) false O #[.int .i64 0,.int .i64 0,.int .i64 0,.int .i64 0] 8 (by unfold Ho at d;subst d;rfl) (by unfold Ho at d;subst d;kernel_rfl) (by unfold Ho at d;subst d;kernel_rfl) (by unfold Ho at d;subst d;kernel_rfl) (by unfold Ho at d;subst d;kernel_rfl) (by unfold Ho at d;subst d;kernel_rfl) (hm _)) ?_
 intro W I args ds gs before E hW _ _ hL _;have z:∀(j:Nat) t v,Tryz.f4.params[j]?=some t->args[j]?=some v->Value.okWide Tryz.prog W .any I t v:=E;have L:=hW;obtain⟨p,q,Y,hV,rfl,hfz,hnd⟩:=hW;have hA:DataW.TrodAll enc Tryz.prog W 0 (λ_=>true) true Tryz.f4.params.toList args.toList ds p:=Y;rw[Tryz.params4]at hA z;obtain⟨v0,vs0,d0,ds0,p0,q0,hargs,rfl,rfl,h0,r0⟩:=trodAll_cons hA;obtain⟨v1,vs1,d1,ds1,p1,q1,rfl,rfl,rfl,h1,r1⟩:=trodAll_cons r0;obtain⟨v2,vs2,d2,ds2,p2,q2,rfl,rfl,rfl,h2,r2⟩:=trodAll_cons r1;obtain⟨v3,vs3,d3,ds3,p3,q3,rfl,rfl,rfl,h3,r3⟩:=trodAll_cons r2;obtain⟨rfl,rfl,rfl⟩:=trodAll_nil r3;obtain rfl:args = #[v0,v1,v2,v3]:=by cases args;simp_all
 obtain⟨rfl,rfl⟩:=trodVars_none hV;obtain⟨n0,rfl,rfl,rfl,w0⟩:=open_int underlying3 (z 0 3 v0 rfl rfl) h0;obtain⟨n1,rfl,rfl,rfl,w1⟩:=open_int underlying3 (z 1 3 v1 rfl rfl) h1;obtain⟨n2,rfl,rfl,rfl,w2⟩:=open_int underlying3 (z 2 3 v2 rfl rfl) h2;obtain⟨n3,rfl,rfl,rfl,w3⟩:=open_int underlying3 (z 3 3 v3 rfl rfl) h3;simp only[Gh]at L;refine(A0m (Wq 200000 (by decide)) ⟨by decide,by decide⟩ W n0 n1 n2 n3 (Ls w0) (Ls w1) (Ls w2) (Ls w3) (Zf hL)).mono λe aA ⟨he,hc⟩=>?_;subst he;have hb:Below W.heap.size W aA:=hc.dN (Au _) λk _ h=>h.elim
 exact⟨_,rfl,[.lit (.int .i64 n0),.lit (.int .i64 n1),.lit (.int .i64 n2),.lit (.int .i64 n3)],[],_,[],_,[],L,trodAll_cons_mk (shut_bool underlying4 _) trodAll_mk0,
  trodAll_cons_mk (shut_int underlying3 w0) (trodAll_cons_mk (shut_int underlying3 w1) (trodAll_cons_mk (shut_int underlying3 w2) (trodAll_cons_mk (shut_int underlying3 w3) trodAll_mk0))),rfl,hb.frame _,λh=>by cases h⟩
def A0t:(Rows.frozenRow.inPlace==Tryz.pinned.checked.prog.inPlace 4)=true:=by kernel_rfl
def A0s:(Rows.frozenRow.unfollowed==Tryz.pinned.checked.prog.unfollowed 4)=true:=by kernel_rfl
def A0r:(Rows.frozenRow.recurses==Tryz.pinned.checked.prog.recurses 4)=true:=by kernel_rfl
def A0q:(Rows.frozenRow.named==Tryz.pinned.checked.prog.varsNamed 4)=true:=by kernel_rfl
def A0p:(Rows.frozenRow.wf (OpenSpec.ofChange Rows.frozenSpec)&&laidOutB Tryz.pinned.checked.prog&&mapsRowed Tryz.pinned.checked.prog)=true:=by kernel_rfl
def A0o:(Rows.frozenRow.lifted==Tryz.pinned.checked.prog.liftsFinal)=true:=by kernel_rfl
def A0n:joinedFacts Tryz.pinned.checked.prog 4 Tryz.f4 Rows.frozenSpec Rows.frozenRow=true:=by
 unfold joinedFacts;simp only[A0p,A0t,A0s,A0r,A0q,A0o,MT]
 kernel_rfl
def A0i:Rows.FrozenSaid:=
 OpenClaim.holds_of_wide 4 Tryz.f4 rfl rfl rfl rfl rfl rfl rfl ⟨rfl,rfl,rfl,rfl,rfl⟩ rfl rfl rfl rfl rfl (by kernel_rfl) func4 A0n
  (NU (by kernel_rfl)) (by unfold Func.isWrapper;first|(rw[Af (by decide +kernel)];kernel_rfl)|(rw[Ac (by decide +kernel)];exact⟨rfl,rfl⟩))
  (λos started H enc _=>A0l os started H enc)
def A0j(f:FuncId)(fn:Func)(E:Tryz.pinned.checked.prog.funcNamed "tides/tideskeep.Frozen" = some f)(d:Tryz.pinned.checked.prog.funcs[f]?=some fn):
 true=Tryz.pinned.checked.prog.looks []/\∀(j:Nat) t,fn.params[j]?=some t->Tryz.pinned.checked.prog.wantsStandIn t=false:=by
 obtain rfl:f=4:=Pa ((show Tryz.prog.funcNamed "tides/tideskeep.Frozen" = some 4 by kernel_rfl).symm.trans E) |>.symm;obtain rfl:fn=Tryz.f4:=(Pa (func4.symm.trans d)).symm;refine⟨by kernel_rfl,λj t z=>?_⟩;rw[Tryz.params4]at z;have h:=Array.mem_of_getElem? z;simp at h;subst h;exact(show Tryz.prog.wantsStandIn 3=false by kernel_rfl)
theorem frozen_holds:Rows.FrozenCardSaid:=
 Claim7.holds_tied_plain_at .later [] _ _ _ _ A0i (λ_ h=>by cases h) (by kernel_rfl) (λ_ h=>by cases h) frozen_row_tie rfl ⟨rfl,rfl⟩ (by kernel_rfl) rfl A0j (by kernel_rfl)
#print axioms frozen_holds
end
end Go.Proofs.YtodcnkbblippnabGreatDoor
