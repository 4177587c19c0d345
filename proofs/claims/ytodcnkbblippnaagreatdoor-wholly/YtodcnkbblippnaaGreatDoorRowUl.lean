/- The law Wholly returns true for every number and every list of numbers that it is given: the power is cut at any call, and what is left are the first so many Puts (as a row, and its tied card). -/
import Derived.Test.YtodcnkbblippnaaGreatDoorPk24
namespace Go.Proofs.YtodcnkbblippnaaGreatDoor
set_option maxRecDepth 100000
set_option maxHeartbeats 32000000
set_option linter.defProp false
open Go.Proofs.Tryz
section
open Go.RowKit
attribute [local go_sem ↓] Go.wp_at_zero Go.wp_at_succ
section
variable {B N:Nat}
def K8(c:Int)(z:World)(xb H ab b:Nat)(h:Int)(w:World)(E:Bool)(d s:Nat):Prop:=A3 (λ_=>False) z w/\Fu c z.heap.size xb H ab b h E d s w
def Wj(aV:DU N)(hN:300<=N/\N<=200000)(w:World)(c every aD cutAt W:Int)(tv:Value)(hc:AE c)(I:AE every)(bI:AE aD)(bB:AE cutAt)(a0:AE W)(bD:F7 w.heap.size w tv)(hE:Env B w):
 Af 11 #[A0 c,A0 every,A0 aD,A0 cutAt,A0 W,tv] w (Aj (.bool true) λw'=>A3 Ab w w'):=by
 have cA:=A1 (TA (B:=B) aV ⟨by omega,hN.2⟩ w 0 ⟨by decide,by decide⟩ hE);obtain⟨p1,bR,bP⟩:=KM cutAt 120 bB (by decide);have a7:=A1 p1;clear p1;generalize D6 cutAt 120=pc at a7 bR bP;have cE:=A1 hc;have aX:=A1 hE;have bO:=A1 bD;have b7:=A1 a0;have bC:=A1 hN;have Y:=A1 (λw'=>JL w' every 9 I (by decide));have a4:=A1 (λw'=>JL w' aD 3 bI (by decide));obtain⟨bS,bU⟩:=HI every 9 (by decide);obtain⟨bV,bQ⟩:=HI aD 3 (by decide);generalize D6 every 9=pe at Y bS bU;generalize D6 aD 3=ph at a4 bV bQ;clear hc hE bD a0 hN I bI bB
 go_enter func11,ntmps11
 go_wp2_with (fail);refine cA.m ?_;rintro e w1⟨xb,rfl,k1,H,ab,b,P,h1,h2,h3,h4⟩;have b4:=A1 ((h1.au (A3.I Ab w1).af).BX (1+pc));have x0:=h1.Ag.c0;have bW:=A1 h1.Ag;have bM:Hid (∀w',KO 0 w.heap.size xb H ab b (1+D6 9 300) 0 [] 0 false ⟨{P.D with n:=FL P.D.n (1+pc)},P.F⟩ w'->Fu c w.heap.size xb H ab b (1+D6 9 300) true 0 0 w'):=λw' hk=>⟨_,_,_,_,hk,h2,h3.2,As _,λ_=>⟨rfl,rfl⟩,.inl rfl⟩
 have cC:=A1 k1;clear cA h1 h2 h3 h4 k1;generalize 1+D6 9 300=Hg at b4 bM;go_wp2;refine BR (λw'=>A7 w' xb 0 (A5 b)) 7
  (Br [0,1,2,3,4,5,6] [5]) x0 ?_
 iterate 5 (refine Bf ?_;(try simp only[An]))
 refine Bn λK hK=>?_;go_simp;refine(a7.o _).mono ?_;rintro e w2⟨rfl,rfl⟩;refine hK _ _ x0 (λhS=>?_)
 (try simp only[An])
 (refine Bf ?_;(try simp only[An]))
 refine Bl ?_;simp only[BK,BJ];go_wp2_with (fail);refine b4.m ?_;rintro e w2⟨rfl,k2,h2⟩;have cJ:Hid (K8 c w xb H ab b Hg w2 true 0 0):=⟨cC.o.bj ((A3.I (Up w.heap.size) w1).af.tr k2) λ_ h=>h,bM.o _ h2⟩;clear k2 h2 b4 bM bW x0 cC;go_wp2;go_loopw [14,15,16] (λdv sv ev wr=>∃(d s:Nat) (al:Bool),dv=A0 d/\sv=A0 s/\d<=100/\s<=d/\(al=true->JW ev=1)/\Hid (K8 c w xb H ab b Hg wr al d s)) (λdv _ ev _=>2*(100-(intOf dv).toNat)+JW ev)
 case atStart=>exact⟨0,0,true,rfl,rfl,by omega,by omega,λ_=>rfl,cJ⟩
 case round=>
  obtain⟨d,s,al,rfl,rfl,hd,hs,I,O⟩:=hrel;obtain⟨w4,bL⟩:∃w4,w4=wr:=⟨_,rfl⟩;subst bL;have aB:=A1 O.o.2.AF;have b0:=O.o.2.Ag.c0;have b1:=O.o.2.Ag.c1;have d0:=C2 d
  have aN:Hid (al=true->d<100->Af 23 #[A5 H,A0 (D8 c d).1,A0 (D8 c d).2.1,A0 (D8 c d).2.2] w4 λe w'=>A3 (Up w.heap.size) w4 w'/\
   ((e=.returned (A0 0)/\∃P s2,KO (2*d+1) w.heap.size xb H ab b Hg 0 (Ed (D8 c) (d+1)) s2 false P w'/\P.D.n.AF=false/\P.D.n.BV=0/\s<=s2)\/(e=.returned (A0 5)/\Fu c w.heap.size xb H ab b Hg false d s w'))):=λha hd=>by
   subst ha;exact O.o.2.aw cE.o hd (aX.o.aM O.o.1).1 aX.o.1.1
  by_cases aI:al=true/\d<100
  ·obtain⟨rfl,aF⟩:=aI;(have i1:(d:Int)<100:=by omega);have a9:=A1 (aN.o rfl aF);(have e2w:IntKind.i64.wrap (2+pe)=2+pe:=by simp[IntKind.wrap,IntKind.bits,IntKind.signed];omega);(have e1w:IntKind.i64.wrap ((d:Int)+1)=(d:Int)+1:=by simp[IntKind.wrap,IntKind.bits,IntKind.signed];omega);(have ew:IntKind.i64.wrap ((d:Int)/2+1)=(d:Int)/2+1:=by simp[IntKind.wrap,IntKind.bits,IntKind.signed];omega);(have n0:¬(2+pe)=0:=by omega);(have n1:¬(2+pe) = -1:=by omega);(have n2:(0:Int)<=2+pe:=by omega);have aH:=A1 (I rfl);have b6:=A1 O.o.1;have aA:=A1 (And.intro hd (And.intro hs aF));clear I O aN hd hs;by_cases aJ:d % 2=0
   focus
    (have hm:((d:Int) % 2==0)=true:=by simp;omega);(have ep:D8 c d=(0,5,(d:Int)/2+1):=by unfold D8;rw[Ai aJ];simp);rw[ep]at a9;clear ep;go_wp2_with (go_at_call 36;refine aB.m ?_;rintro e w'⟨rfl,rfl⟩);refine a9.m ?_
   rotate_left
   focus
    (have hm:((d:Int) % 2==0)=false:=by simp;omega);(have ep:D8 c d=(1,(d:Int)/2+1,c):=by unfold D8;rw[Ae aJ];simp);rw[ep]at a9;clear ep;go_wp2_with (go_at_call 36;refine aB.m ?_;rintro e w'⟨rfl,rfl⟩);refine a9.m ?_
   rotate_left
   all_goals
    rintro e w5⟨k5,bA⟩;clear a9 aB;have aU:Hid (A3 Ab w w5):=b6.o.bj k5 λ_ h=>h;rcases bA with⟨rfl,P5,s5,L,aE,aP,aO⟩|⟨rfl,L⟩
    ·have aB:=A1 L.AF;rw[aE]at aB;have b0:=L.Ag.c0;have b1:=L.Ag.c1;have SV:Hid (∀f,Jl f->Af f #[A5 H] w5 λe w'=>A3 (Up w.heap.size) w5 w'/\((e=.returned (A0 0)/\Fu c w.heap.size xb H ab b Hg true (d+1) (d+1) w')\/(e=.returned (A0 5)/\Fu c w.heap.size xb H ab b Hg false (d+1) s w'))):=λf hf=>
      Wr aV bC.o f hf L aE aP aO aA.o.2.2 (aX.o.aM aU.o).1 aX.o.1.1
     have cH:=A1 (Wt L aE aP aO);clear L aE aP aO;by_cases z:((d:Int)+1) % (2+pe)=0
     ·(have hq:(((d:Int)+1) % (2+pe)==0)=true:=by rw[z];rfl);clear z;go_wp2_with (fail);refine(Y.o _).mono ?_;rintro e w'⟨rfl,rfl⟩;go_wp2_with (fail);refine aB.m ?_;rintro e w'⟨rfl,rfl⟩;go_wp2_with (fail);refine(a4.o _).mono ?_;rintro e w'⟨rfl,rfl⟩;(have bY:ph=0\/ph=1\/ph=2:=by omega);rcases bY with rfl|rfl|rfl
      all_goals
       go_wp2_with (fail);refine(SV.o _ (by first|exact .inl rfl|exact .inr (.inl rfl)|exact .inr (.inr rfl))).mono ?_;rintro e w6⟨k6,⟨rfl,h6⟩|⟨rfl,h6⟩⟩
       ·have E:Hid (K8 c w xb H ab b Hg w6 true (d+1) (d+1)):=⟨aU.o.bj k6 λ_ h=>h,h6⟩;clear k6 h6;go_wp2;go_roundw
        case rel=>exact⟨d+1,d+1,true,by simp,by simp,by have:=aA.o;omega,As _,λ_=>rfl,E⟩
        case measure=>rw[aH.o];simp[intOf,JW];have:=aA.o;omega
       ·have E:Hid (K8 c w xb H ab b Hg w6 false (d+1) s):=⟨aU.o.bj k6 λ_ h=>h,h6⟩;clear k6 h6;go_wp2;go_roundw
        case rel=>exact⟨d+1,s,false,by simp,rfl,by have:=aA.o;omega,by have:=aA.o;omega,λe=>(by cases e),E⟩
        case measure=>rw[aH.o];simp[intOf,JW];have:=aA.o;omega
     ·(have hq:(((d:Int)+1) % (2+pe)==0)=false:=by simpa using z);clear z;go_wp2_with (fail);refine(Y.o _).mono ?_;rintro e w'⟨rfl,rfl⟩;have E:Hid (K8 c w xb H ab b Hg w5 true (d+1) s):=⟨aU.o,cH.o⟩;go_wp2;go_roundw
      case rel=>exact⟨d+1,s,true,by simp,rfl,by have:=aA.o;omega,by have:=aA.o;omega,λ_=>rfl,E⟩
      case measure=>rw[aH.o];simp[intOf,JW];have:=aA.o;omega
    ·have aB:=A1 L.AF;have b0:=L.Ag.c0;have b1:=L.Ag.c1;have E:Hid (K8 c w xb H ab b Hg w5 false d s):=⟨aU.o,L⟩;clear L;by_cases z:(d:Int) % (2+pe)=0
     focus
      (have hq:((d:Int) % (2+pe)==0)=true:=by rw[z];rfl);clear z
      go_wp2_with (first
       | (go_at_call 20;refine(Y.o _).mono ?_;rintro e w'⟨rfl,rfl⟩)
       | (go_at_call 36;refine aB.m ?_;rintro e w'⟨rfl,rfl⟩))
     rotate_left
     focus
      (have hq:((d:Int) % (2+pe)==0)=false:=by simpa using z);clear z
      go_wp2_with (first
       | (go_at_call 20;refine(Y.o _).mono ?_;rintro e w'⟨rfl,rfl⟩)
       | (go_at_call 36;refine aB.m ?_;rintro e w'⟨rfl,rfl⟩))
     all_goals
      go_roundw
      case rel=>exact⟨d,s,false,rfl,rfl,by have:=aA.o;omega,by have:=aA.o;omega,λe=>(by cases e),E⟩
      case measure=>rw[aH.o];simp[intOf,JW]
  ·clear aN I;have a5:=A1 (O.o.2.aT aV bC.o hd cE.o W tv b7.o (bO.o.aj (O.o.1.aa λ_ _ h=>h.elim)) (aX.o.aM O.o.1) aX.o.1.1);have b6:=A1 O.o.1;clear O;by_cases aF:d<100
   focus
    obtain rfl:al=false:=by cases al with
     | false=>rfl
     | true=>exact absurd ⟨rfl,aF⟩ aI
    (have i1:(d:Int)<100:=by omega);clear aI;go_wp2_with (go_at_call 36;refine aB.m ?_;rintro e w'⟨rfl,rfl⟩)
   rotate_left
   focus
    (have i1:¬(d:Int)<100:=by omega);clear aI;go_wp2_with (fail)
   rotate_left
   all_goals
    refine a5.m ?_;rintro e w5⟨rfl,k5,a3⟩;have ST:=A1 a3;have aU:Hid (A3 Ab w w5):=b6.o.bj k5 λ_ h=>h;clear a5 k5 a3 aB b0 b1;go_wp2_with (fail);refine ST.m ?_;rintro e w6⟨rfl,k6,t,bE,ab2,b2,win2,m,sf,P6,h6,bF,a6⟩;have cL:Hid (A3 Ab w w6):=aU.o.bj k6 λ_ h=>h;have bK:=A1 h6;have b1:=h6.Ag.c1;have cG:=A1 (And.intro bF a6);clear ST k6 h6;have cB:=A1 (Ws bK.o (by omega));go_wp2_with (fail);refine cB.m ?_;rintro e w7⟨x,rfl,hx,k7⟩;have bN:=A1 (bK.o.au k7);have cI:Hid (A3 Ab w w7):=cL.o.tr k7;have a8:=k7.ao b1;obtain⟨n2,aW⟩:∃n2,m/2=n2:=⟨_,rfl⟩;rw[aW]at hx;have aL:=XR (λi=>(((i+1:Nat):Int),c)) n2;have cF:=A1 hx;obtain⟨a,cap,a1,aZ,bG,bX,-⟩:=B9 hx;rw[aL]at a1;subst a1;clear hx cB k7 b1 bK aZ bG;(have hn3:n2<=100:=by omega);(have ek:IntKind.i64.wrap (2*(n2:Int))=2*(n2:Int):=by simp[IntKind.wrap,IntKind.bits,IntKind.signed];omega);(have ek1:IntKind.i64.wrap ((n2:Int)+1)=(n2:Int)+1:=by simp[IntKind.wrap,IntKind.bits,IntKind.signed];omega);obtain⟨r1,aM⟩:∃r1,r1=decide (m≠0/\(n2:Int)+1=(((m+1)/2:Nat):Int)):=⟨_,rfl⟩;obtain⟨r2,aK⟩:∃r2,r2=decide (m≠0/\(n2:Int)=(((m+1)/2:Nat):Int)):=⟨_,rfl⟩;obtain⟨r3,aQ⟩:∃r3,r3=decide (m=0):=⟨_,rfl⟩;have b8:=A1 (Qu bN.o _ r1 aM);have A2:Hid (∀w',A3 Ab w7 w'->Af 26 #[A5 bE,A0 0,A0 5,A0 (n2:Int)] w' λe aT=>e=.returned (.bool r2)/\A3 Ab w' aT):=λw' hc=>Qu (bN.o.au hc) _ r2 aK;have b9:Hid (∀w',A3 Ab w7 w'->Af 28 #[A5 bE,A0 0,A0 5] w' λe aT=>e=.returned (.bool r3)/\A3 Ab w' aT):=λw' hc=>Wu (bN.o.au hc) r3 aQ;have cM:=A1 (And.intro aM (And.intro aK (And.intro aQ aW)));clear aM aK aQ aW bF a6;go_wp2_with (fail);refine b8.m ?_;rintro e w8⟨rfl,k8⟩;have a2:=k8.ao a8;have aY:=A1 (A2.o w8 k8);have cD:=A1 k8;clear k8 b8 A2;go_wp2_with (fail);refine aY.m ?_;rintro e w9⟨rfl,k9⟩;have b5:=k9.ao a2;have bJ:Hid (A3 Ab w7 w9):=cD.o.tr k9;have bH:=A1 (b9.o w9 bJ.o);clear k9 aY b9;go_wp2_with (fail);refine bH.m ?_;rintro e aG⟨rfl,aS⟩;have bZ:Hid (Du aG (.slice a n2 cap) (GN (λi=>(((i+1:Nat):Int),c)) n2)):=YY cF.o (bJ.o.tr aS);have aR:Hid (A3 Ab w aG):=(cI.o.tr bJ.o).tr aS;clear aS bH bJ cD a8 a2 b5 cF;go_wp2;go_loopw [24] (λiv wr=>∃i:Nat,iv=A0 i/\i<=n2/\Hid (aG=wr)) (λiv _=>n2-(intOf iv).toNat)
    case atStart=>exact⟨0,rfl,Cq _,rfl⟩
    case round=>
     obtain⟨i,rfl,hi,hw⟩:=hrel;obtain rfl:aG=wr:=hw;by_cases b3:i<n2
     ·(have i1:(i:Int)<(n2:Int):=by omega);have i0:=C2 i;(have ei:IntKind.i64.wrap ((i:Int)+1)=(i:Int)+1:=by simp[IntKind.wrap,IntKind.bits,IntKind.signed];omega);obtain⟨g,rfl⟩:=bX (by rw[aL];omega);obtain⟨q0,q1⟩:=Du.bz bZ.o i (by rw[aL];exact b3);rw[XS]at q0 q1;go_wp2;go_roundw
      case rel=>exact⟨i+1,by simp,by omega,trivial⟩
      case measure=>simp[intOf];omega
     ·(have i1:¬(i:Int)<(n2:Int):=by omega);obtain⟨m1,m2⟩:=cG.o;obtain⟨g1,g2,g3,g4⟩:=cM.o;(have ed:IntKind.i64.wrap ((d:Int)+1)=(d:Int)+1:=by simp[IntKind.wrap,IntKind.bits,IntKind.signed];omega);(have ek2:IntKind.i64.wrap (2*(n2:Int)+1)=2*(n2:Int)+1:=by simp[IntKind.wrap,IntKind.bits,IntKind.signed];omega);rcases Wv g1 g2 g3 g4 with⟨rfl,hm⟩|⟨rfl,rfl,hm⟩|⟨rfl,rfl,rfl,hm,bT⟩
      ·(have c1:(s:Int)<=2*(n2:Int)+1:=by omega);(have c2:2*(n2:Int)+1<=(d:Int)+1:=by omega);clear m1 m2 g1 g2 g3 g4 hm;go_wp2;go_ret;exact⟨rfl,aR.o⟩
      ·(have c1:(s:Int)<=2*(n2:Int):=by omega);(have c2:2*(n2:Int)<=(d:Int)+1:=by omega);clear m1 m2 g1 g2 g3 g4 hm;go_wp2;go_ret;exact⟨rfl,aR.o⟩
      ·subst bT;(have c1:(s:Int)<=0:=by omega);(have c2:0<=(d:Int)+1:=by omega);clear m1 m2 g1 g2 g3 g4 hm;go_wp2;go_ret;exact⟨rfl,aR.o⟩
end
end
section
open Go.ChangeAt Go.ChangeShapes Go.RowKit Go.WideShapes
def Wh(os:Os)(W:World)(h:FB os W)(args:Array Value):laidMetH Tryz.prog Rows.whollyRow.laid (W.forCall (λ_ _=>0) ⟨#[],args,[]⟩).memory:=Tw os W h args
def Wi(os:Os)(started:os.Started)(H:Type)(enc:TypeId×Value->H):
 ReturnsInHanded {} Tryz.checked os 11 .any (λw args=>(Rows.whollySpec.pre enc Tryz.prog Tryz.f11 Rows.whollyRow.domain false w args/\laidMetH Tryz.prog Rows.whollyRow.laid w)/\sizedMet enc Tryz.prog Tryz.f11 (OpenSpec.ofChange Rows.whollySpec) false w args)
  (Rows.whollySpec.post enc Tryz.prog Tryz.f11 false true false false):=by
 obtain⟨Y,d⟩:∃Y,FB os Y:=⟨_,rfl⟩;have hm:=Wh os Y d;refine returnsInHanded_of_change_and (C:=Tryz.checked) (X:=λw _=>laidMetH Tryz.prog Rows.whollyRow.laid w) (λ_ _ _ hh h=>h.of_heap hh) Tryz.own started (by kernel_rfl) func11
  (ChangeSpec.witness_at (enc:=enc) (C:=Tryz.checked) (os:=os) (X:=λw _=>laidMetH Tryz.prog Rows.whollyRow.laid w) false Y #[A0 0,A0 0,A0 0,A0 0,A0 0,.slice none 0 0] 8 (by unfold FB at d;subst d;rfl) (by unfold FB at d;subst d;kernel_rfl) (by unfold FB at d;subst d;kernel_rfl) (by unfold FB at d;subst d;kernel_rfl) (by unfold FB at d;subst d;kernel_rfl) (by unfold FB at d;subst d;kernel_rfl) (hm _)) ?_
 intro W L args ds gs before I hW _ _ hL _;have z:∀(j:Nat) t v,Tryz.f11.params[j]?=some t->args[j]?=some v->Value.okWide Tryz.prog W .any L t v:=I;have E:=hW;obtain⟨p,q,aD,hV,rfl,hfz,hnd⟩:=hW;have hA:DataW.TrodAll enc Tryz.prog W 0 (λ_=>true) true Tryz.f11.params.toList args.toList ds p:=aD;rw[Tryz.params11]at hA z;obtain⟨v0,vs0,d0,ds0,p0,q0,hargs,rfl,rfl,h0,r0⟩:=trodAll_cons hA;obtain⟨v1,vs1,d1,ds1,p1,q1,rfl,rfl,rfl,h1,r1⟩:=trodAll_cons r0;obtain⟨v2,vs2,d2,ds2,p2,q2,rfl,rfl,rfl,h2,r2⟩:=trodAll_cons r1;obtain⟨v3,vs3,d3,ds3,p3,q3,rfl,rfl,rfl,h3,r3⟩:=trodAll_cons r2;obtain⟨v4,vs4,d4,ds4,p4,q4,rfl,rfl,rfl,h4,r4⟩:=trodAll_cons r3;obtain⟨v5,vs5,d5,ds5,p5,q5,rfl,rfl,rfl,O,r5⟩:=trodAll_cons r4;obtain⟨rfl,rfl,rfl⟩:=trodAll_nil r5;obtain rfl:args = #[v0,v1,v2,v3,v4,v5]:=by cases args;simp_all
 obtain⟨rfl,rfl⟩:=trodVars_none hV;obtain⟨n0,rfl,rfl,rfl,w0⟩:=open_int underlying3 (z 0 3 v0 rfl rfl) h0;obtain⟨n1,rfl,rfl,rfl,w1⟩:=open_int underlying3 (z 1 3 v1 rfl rfl) h1;obtain⟨n2,rfl,rfl,rfl,w2⟩:=open_int underlying3 (z 2 3 v2 rfl rfl) h2;obtain⟨n3,rfl,rfl,rfl,w3⟩:=open_int underlying3 (z 3 3 v3 rfl rfl) h3;obtain⟨n4,rfl,rfl,rfl,w4⟩:=open_int underlying3 (z 4 3 v4 rfl rfl) h4;obtain⟨ta,tn,tc,rfl⟩:=okWide_slice underlying26 (z 5 26 v5 rfl rfl);have aB:=O;obtain⟨fuel,O⟩:=O;have aE:F7 W.heap.size W (.slice ta tn tc):=NL O;simp only[FA,Et]at E;refine(Wj (Rb 200000 (by decide)) ⟨by decide,by decide⟩ W n0 n1 n2 n3 n4 (.slice ta tn tc) (Gx w0) (Gx w1) (Gx w2) (Gx w3) (Gx w4) aE (Tx hL)).mono λe aF ⟨he,hc⟩=>?_;subst he;have hb:Below W.heap.size W aF:=hc.de (As _) λk _ h=>h.elim;have aA:∀x∈p5,x.block<W.heap.size:=λx hx=>by simpa using E.lt x (by simp[hx])
 exact⟨_,rfl,[.lit (.int .i64 n0),.lit (.int .i64 n1),.lit (.int .i64 n2),.lit (.int .i64 n3),.lit (.int .i64 n4),d5],[],p5,[],p5,[],E,trodAll_cons_mk (shut_bool underlying4 _) trodAll_mk0,
  trodAll_cons_mk (shut_int underlying3 w0) (trodAll_cons_mk (shut_int underlying3 w1) (trodAll_cons_mk (shut_int underlying3 w2) (trodAll_cons_mk (shut_int underlying3 w3) (trodAll_cons_mk (shut_int underlying3 w4) (trodAll_mk1 (Below.trod Tryz.laidOut (by kernel_rfl) (I8 (by kernel_rfl)) aB hb aA)))))),rfl,hb.frame _,λh=>by cases h⟩
def Wq:(Rows.whollyRow.inPlace==Tryz.pinned.checked.prog.inPlace 11)=true:=by kernel_rfl
def Wp:(Rows.whollyRow.unfollowed==Tryz.pinned.checked.prog.unfollowed 11)=true:=by kernel_rfl
def Wo:(Rows.whollyRow.recurses==Tryz.pinned.checked.prog.recurses 11)=true:=by kernel_rfl
def Wn:(Rows.whollyRow.named==Tryz.pinned.checked.prog.varsNamed 11)=true:=by kernel_rfl
def Wm:(Rows.whollyRow.wf (OpenSpec.ofChange Rows.whollySpec)&&laidOutB Tryz.pinned.checked.prog&&mapsRowed Tryz.pinned.checked.prog)=true:=by kernel_rfl
def Wl:(Rows.whollyRow.lifted==Tryz.pinned.checked.prog.liftsFinal)=true:=by kernel_rfl
def Wk:joinedFacts Tryz.pinned.checked.prog 11 Tryz.f11 Rows.whollySpec Rows.whollyRow=true:=by
 unfold joinedFacts;simp only[Wm,Wq,Wp,Wo,Wn,Wl,LP]
 kernel_rfl
def Wf:Rows.WhollySaid:=
 OpenClaim.holds_of_wide 11 Tryz.f11 rfl rfl rfl rfl rfl rfl rfl ⟨rfl,rfl,rfl,rfl,rfl⟩ rfl rfl rfl rfl rfl (by kernel_rfl) func11 Wk
  (I8 (by kernel_rfl)) (by unfold Func.isWrapper;first|(rw[Ai (by decide +kernel)];kernel_rfl)|(rw[Ae (by decide +kernel)];exact⟨rfl,rfl⟩))
  (λos started H enc _=>Wi os started H enc)
def Wg(f:FuncId)(fn:Func)(E:Tryz.pinned.checked.prog.funcNamed "tides/tideskeep.Wholly" = some f)(d:Tryz.pinned.checked.prog.funcs[f]?=some fn):
 true=Tryz.pinned.checked.prog.looks []/\∀(j:Nat) t,fn.params[j]?=some t->Tryz.pinned.checked.prog.wantsStandIn t=false:=by
 obtain rfl:f=11:=Lr ((show Tryz.prog.funcNamed "tides/tideskeep.Wholly" = some 11 by kernel_rfl).symm.trans E) |>.symm;obtain rfl:fn=Tryz.f11:=(Lr (func11.symm.trans d)).symm;refine⟨by kernel_rfl,λj t z=>?_⟩;rw[Tryz.params11]at z;have h:=Array.mem_of_getElem? z;simp at h;rcases h with rfl|rfl
 ·exact(show Tryz.prog.wantsStandIn 3=false by kernel_rfl)
 ·exact(show Tryz.prog.wantsStandIn 26=false by kernel_rfl)
theorem wholly_holds:Rows.WhollyCardSaid:=
 Claim7.holds_tied_plain_at .later [] _ _ _ _ Wf (λ_ h=>by cases h) (by kernel_rfl) (λ_ h=>by cases h) wholly_row_tie rfl ⟨rfl,rfl⟩ (by kernel_rfl) rfl Wg (by kernel_rfl)
#print axioms wholly_holds
end
end Go.Proofs.YtodcnkbblippnaaGreatDoor
