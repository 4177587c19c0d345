/- The law Spoilt returns true for every number that it is given: bits of one file turned within a row of 32 are seen, or change nothing that is told (as a row, and its tied card). -/
import Derived.Test.YtodcnkbblippnaaGreatDoorPart44
namespace Go.Proofs.YtodcnkbblippnaaGreatDoor
set_option maxRecDepth 100000
set_option maxHeartbeats 32000000
set_option linter.defProp false
open Go.Proofs.Tryz
section
open Go.RowKit
attribute [local go_sem ↓] Go.wp_at_zero Go.wp_at_succ
section
variable{B:Nat}
def Yr(aD:Fy 330000)(w:ga)(n every z E first I:Int)(hn:AT n)(a6:AT every)(aE:AT z)(aN:AT E)(a4:AT first)(a8:AT I)(hE:Env B w):
 Ag 13 #[A0 n,A0 every,A0 z,A0 E,A0 first,A0 I] w (Am (.bool true) λw'=>A3 Ab w w'):=by
 have bU:=A1 (A1C (B:=B) aD ⟨by decide,by decide⟩ w 0 ⟨by decide,by decide⟩ hE);have aW:=A1 (λw'=>Jy w' n 40 hn (by decide));have aG:=A1 (λw'=>Jy w' every 9 a6 (by decide));have aR:=A1 (λw'=>Jy w' z 2 aE (by decide));have aK:=A1 (λw'=>Jy w' z 300 aE (by decide));obtain⟨aI,aV⟩:=Ia n 40 (by decide);obtain⟨aX,a0⟩:=Ia every 9 (by decide);obtain⟨a1,aS⟩:=Ia z 2 (by decide);obtain⟨a7,aZ⟩:=Ia z 300 (by decide);have H:=A1 (And.intro aE (And.intro aN (And.intro a4 a8)));have aA:=A1 hE;generalize Du n 40=cn at aW aI aV;generalize Du every 9=pe at aG aX a0;generalize Du z 2=ph at aR a1 aS;generalize Du z 300=pw at aK a7 aZ;obtain⟨c,rfl⟩:=KY aI;have hc40:c<40:=by omega
 have e4w:IntKind.i64.wrap (1+pw)=1+pw:=En (by omega);have e2w:IntKind.i64.wrap (2+pe)=2+pe:=En (by omega);have n0:¬(2+pe)=0:=by omega
 have n1:¬(2+pe) = -1:=by omega
 have n2:(0:Int)<=2+pe:=by omega
 have cC:Hid (2<=2+pe):=by unfold Hid;omega
 have cB:Hid (1<=1+pw/\1+pw<=4611686018427387904):=by constructor<;>omega
 have bP:ph=0\/ph=1:=by omega
 clear hn a6 aE aN a4 a8 hE aI aV aX a0 a1 aS a7 aZ
 go_enter func13,ntmps13
 go_wp2_with (fail);refine bU.m ?_;rintro e w1⟨xb,rfl,k1,sb,ab,b,P,h1,h2,h3,h4⟩;have bW:Hid (A3 Ab w w1/\JI (2+pe) w.heap.size xb sb ab b (1+Du 9 300) 0 w1):=⟨k1,P,0,h1.af (Cb _),h2,h3⟩;clear bU h1 h2 h3 h4 k1;generalize 1+Du 9 300=wc at bW;go_wp2_with (fail);refine(aW.o _).k ?_;rintro w' rfl;go_wp2;go_loopw [15] (λiv wr=>∃i:Nat,iv=A0 i/\i<=c/\Hid (A3 Ab w wr/\JI (2+pe) w.heap.size xb sb ab b wc i wr)) (λiv _=>c-(intOf iv).toNat)
 case atStart=>exact⟨0,rfl,Cb _,bW⟩
 case round=>
  obtain⟨i,rfl,hi,Y⟩:=hrel;obtain⟨w4,bG⟩:∃w4,w4=wr:=⟨_,rfl⟩;subst bG;have i0:=C3 i;have b1:=Y.o.2.Ah.c1;by_cases aT:i<c
  ·(have i1:(i:Int)<(c:Int):=by omega);have ew:IntKind.i64.wrap (1000+(i:Int))=1000+(i:Int):=En (by omega);have ek:IntKind.i64.wrap ((i:Int)+1)=(i:Int)+1:=En (by omega);have bC:=A1 (Qj aT);have bX:=A1 (Y.o.2.dC (B:=B) (by omega) (λw' hc=>(aA.o.aO (Y.o.1.br hc λ_ h=>h)).1) aA.o.1.1);have cD:=A1 Y.o.1;have LT:=A1 aT;clear Y;go_wp2_with (fail);refine bX.m ?_;rintro e w5⟨rfl,k5,a9,W⟩;have b5:=a9.c1;have W:=A1 W;clear a9 k5 bX;go_wp2_with (fail);refine W.m ?_;rintro e w6⟨rfl,k6,h6⟩;have b6:=h6.Ah.c1;have aJ:Hid (A3 Ab w w6):=cD.o.br k6 λ_ h=>h;have aL:=A1 h6;clear k6 h6 W;by_cases d:(i:Int) % (2+pe)=0
   ·(have hq:((i:Int) % (2+pe)==0)=true:=by rw[d];rfl);have bY:=A1 (YE cC.o d);have bS:=A1 (Eo.cQ (B:=B) aD (by decide) _ (.inr (.inl rfl)) aL.o (by have:=JW (2+pe) i;omega) (by have:=JW (2+pe) i;omega) (aA.o.aO aJ.o).1 aA.o.1.1);clear d;go_wp2_with (fail);refine(aG.o _).k ?_;rintro w' rfl;go_wp2_with (fail);refine bS.m ?_;rintro e w7⟨rfl,k7,h7⟩;have b7:=h7.Ah.c1;have aF:Hid (A3 Ab w w7):=aJ.o.br k7 λ_ h=>h;have bB:=A1 h7;clear k7 h7 bS;go_wp2_with (fail);refine(aR.o _).k ?_;rintro w' rfl;rcases bP with rfl|rfl
    ·have L:Hid (A3 Ab w w7/\JI (2+pe) w.heap.size xb sb ab b wc (i+1) w7):=⟨aF.o,bB.o.af (by have:=bY.o;omega)⟩;go_wp2;go_roundw
     ·exact⟨i+1,by simp,LT.o,L⟩
     ·exact bC.o
    ·have bV:=A1 (Eo.cQ (B:=B) aD (by decide) _ (.inr (.inr rfl)) bB.o (by have:=JW (2+pe) i;omega) (by have:=JW (2+pe) i;omega) (aA.o.aO aF.o).1 aA.o.1.1);go_wp2_with (fail);refine bV.m ?_;rintro e w8⟨rfl,k8,h8⟩;have L:Hid (A3 Ab w w8/\JI (2+pe) w.heap.size xb sb ab b wc (i+1) w8):=⟨aF.o.br k8 λ_ h=>h,h8.af (by have:=bY.o;omega)⟩;clear k8 h8 bV;go_wp2;go_roundw
     ·exact⟨i+1,by simp,LT.o,L⟩
     ·exact bC.o
   ·(have hq:((i:Int) % (2+pe)==0)=false:=by simpa using d);have L:Hid (A3 Ab w w6/\JI (2+pe) w.heap.size xb sb ab b wc (i+1) w6):=⟨aJ.o,aL.o.af (YD d)⟩;clear d;go_wp2_with (fail);refine(aG.o _).k ?_;rintro w' rfl;go_wp2;go_roundw
    ·exact⟨i+1,by simp,LT.o,L⟩
    ·exact bC.o
  ·(obtain rfl:i=c:=by omega);(have i1:¬(i:Int)<(i:Int):=by omega);have bR:=A1 (Y.o.2.af (t':=118) (AJ (JW (2+pe) _) (by omega)));have bI:=A1 Y.o.1;have b0:=Y.o.2.Ah.c0;have bJ:=A1 H.o.1;have bZ:=A1 (bR.o.bt (B:=B) (Ao _) aD z bJ.o (aA.o.aO bI.o) aA.o.1.1);clear Y b1;go_wp2_with (fail);refine bZ.m ?_;rintro e w5⟨b2,rfl,k5,ST⟩;have ST:=A1 ST;clear bZ;go_wp2_with (fail);refine ST.m ?_;rintro e w6⟨rfl,k6,sb2,z1,bD⟩;have bD:=A1 bD;have a5:=k6.ao b0;have aJ:Hid (A3 Ab w4 w6):=k6;have aL:=A1 (bR.o.aJ k6);clear ST k5 k6 b0;go_wp2_with (fail);refine bD.m ?_;rintro e w7⟨x,rfl,hx,k7⟩;rw[show (((0:Nat):Int))=0 from rfl,Oy i (by omega)]at hx;obtain⟨a,cap,aP,-⟩:=B9 hx;rw[show (Iy i).length=i from OK _ _]at aP;subst aP;have b0:=k7.ao a5;have bB:=A1 (aL.o.aJ k7);have aF:Hid (A3 Ab w w7):=(bI.o.tr aJ.o).tr k7;have bT:=A1 (bB.o.b7 (B:=B) (Ao _) (1+pw) cB.o E first I H.o.2.1 H.o.2.2.1 H.o.2.2.2 (aA.o.aO aF.o));clear hx k7 bD aL aJ bI a5 z1 bR;go_wp2_with (fail);refine bT.m ?_;rintro e w8⟨b3,rfl,k8,a2⟩;have a2:=A1 a2;clear bT k8 b0 bB;go_wp2_with (fail);refine(aK.o _).k ?_;rintro w' rfl;go_wp2_with (fail);refine a2.m ?_;rintro e w9 (⟨rfl,k9⟩|⟨sb3,rfl,k9,aU⟩)
   ·have bE:=aF.o.tr k9;clear k9 a2;go_wp2;go_ret;exact⟨rfl,bE⟩
   ·have bE:Hid (A3 Ab w w9):=aF.o.tr k9;have aU:=A1 aU;have cA:=A1 (aU.o w9 (A3.I _ w9) 0 (by decide));clear k9 a2 aF;go_wp2_with (fail);refine cA.m ?_;rintro e wA⟨l,rfl,hl,kA⟩;have b8:=A1 (aU.o wA kA 1 (by decide));have a3:=A1 hl;have b4:Hid (A3 Ab w wA):=bE.o.tr kA;clear kA cA aU bE hl;go_wp2_with (fail);refine b8.m ?_;rintro e wB⟨m,rfl,hm,kB⟩;have hl:=A0m a3.o kB;have b9:Hid (A3 Ab w wB):=b4.o.tr kB;rw[show (((0:Nat):Int))=0 from rfl,Oy i (by omega)]at hl;rw[show (((1:Nat):Int))=1 from rfl,RU i]at hm;obtain⟨al,capl,aY,bQ,bL,aQ,-⟩:=B9 hl;obtain⟨am,capm,aM,bM,bN,aO,-⟩:=B9 hm;rw[show (Iy i).length=i from OK _ _]at aY;subst aY;have bK:=A1 hl;have bF:=A1 hm;clear kB b8 a3 b4 hl hm;obtain⟨lm,aH⟩:∃lm,(Lg i).length=lm:=⟨_,rfl⟩;rw[aH]at aM;subst aM;have bA:=A1 aH;have bO:=A1 aQ;have bH:=A1 aO;clear bQ bL bM bN aQ aO aH;go_wp2;go_loopw [28] (λjv wr=>∃j:Nat,jv=A0 j/\j<=i/\Hid (wB=wr)) (λjv _=>i-(intOf jv).toNat)
    case atStart=>exact⟨0,rfl,Cb _,rfl⟩
    case round=>
     obtain⟨j,rfl,hj,hw⟩:=hrel;obtain rfl:wB=wr:=hw;by_cases aB:j<i
     ·(have j1:(j:Int)<(i:Int):=by omega);have j0:=C3 j;have ej:IntKind.i64.wrap ((j:Int)+1)=(j:Int)+1:=En (by omega);have et:IntKind.i64.wrap (1000+(j:Int))=1000+(j:Int):=En (by omega);have O:(Iy i).length=i:=OK _ _;obtain⟨g,rfl⟩:=bO.o (by rw[O];omega);obtain⟨q0,q1⟩:=DT.bx bK.o j (by rw[O];exact aB);have e0:(Iy i)[j]'(by rw[O];exact aB)=((j:Int),1000+(j:Int)):=YC ..;rw[e0]at q0 q1;have bC:=A1 (Qj aB);clear e0 O;go_wp2;go_roundw
      ·exact⟨j+1,by simp,aB,trivial⟩
      ·exact bC.o
     ·(obtain rfl:j=i:=by omega);(have j1:¬(j:Int)<(j:Int):=by omega);by_cases h0:j=0
      ·subst h0;(have l0:lm=0:=by rw[<-bA.o];rfl);subst l0;go_wp2;go_ret;exact⟨rfl,b9.o⟩
      ·(have e1:Lg j=[(5,(j:Int)-1)]:=by unfold Lg;rw[Aa h0]);(have l1:lm=1:=by rw[<-bA.o,e1];rfl);subst l1;obtain⟨g,rfl⟩:=bH.o (by rw[e1];exact Nat.one_pos);obtain⟨q0,q1⟩:=DT.bx bF.o 0 (by rw[e1];exact Nat.one_pos);(have z0:((j:Int)==0)=false:=by simp;omega);have ew:IntKind.i64.wrap ((j:Int)-1)=(j:Int)-1:=En (by omega);simp only[e1]at q0 q1;go_wp2;go_ret;exact⟨rfl,b9.o⟩
end
end
section
open Go.ChangeAt Go.ChangeShapes Go.RowKit Go.WideShapes
def Yp(os:Os)(W:ga)(h:HY os W)(args:Array gd):laidMetH Tryz.prog Rows.spoiltRow.laid (W.forCall (λ_ _=>0) ⟨#[],args,[]⟩).memory:=A1u os W h args
def Yq(os:Os)(started:os.Started)(H:Type)(enc:TypeId×gd->H):
 ReturnsInHanded {} Tryz.checked os 13 .any (λw args=>(Rows.spoiltSpec.pre enc Tryz.prog Tryz.f13 Rows.spoiltRow.domain false w args/\laidMetH Tryz.prog Rows.spoiltRow.laid w)/\sizedMet enc Tryz.prog Tryz.f13 (OpenSpec.ofChange Rows.spoiltSpec) false w args)
  (Rows.spoiltSpec.post enc Tryz.prog Tryz.f13 false true false false):=by
 obtain⟨O,d⟩:∃O,HY os O:=⟨_,rfl⟩;have hm:=Yp os O d;refine returnsInHanded_of_change_and (C:=Tryz.checked) (X:=λw _=>laidMetH Tryz.prog Rows.spoiltRow.laid w) (λ_ _ _ hh h=>h.of_heap hh) Tryz.own started (by kernel_rfl) func13
  (ChangeSpec.witness_at (enc:=enc) (C:=Tryz.checked) (os:=os) (X:=λw _=>laidMetH Tryz.prog Rows.spoiltRow.laid w) false O #[.int .i64 0,.int .i64 0,.int .i64 0,.int .i64 0,.int .i64 0,.int .i64 0] 8 (by unfold HY at d;subst d;rfl) (by unfold HY at d;subst d;kernel_rfl) (by unfold HY at d;subst d;kernel_rfl) (by unfold HY at d;subst d;kernel_rfl) (by unfold HY at d;subst d;kernel_rfl) (by unfold HY at d;subst d;kernel_rfl) (hm _)) ?_
 intro W I args ds gs before E hW _ _ hL _;have z:∀(j:Nat) t v,Tryz.f13.params[j]?=some t->args[j]?=some v->Value.okWide Tryz.prog W .any I t v:=E;have L:=hW;obtain⟨p,q,Y,hV,rfl,hfz,hnd⟩:=hW;have hA:DataW.TrodAll enc Tryz.prog W 0 (λ_=>true) true Tryz.f13.params.toList args.toList ds p:=Y;rw[Tryz.params13]at hA z;obtain⟨v0,vs0,d0,ds0,p0,q0,hargs,rfl,rfl,h0,r0⟩:=trodAll_cons hA;obtain⟨v1,vs1,d1,ds1,p1,q1,rfl,rfl,rfl,h1,r1⟩:=trodAll_cons r0;obtain⟨v2,vs2,d2,ds2,p2,q2,rfl,rfl,rfl,h2,r2⟩:=trodAll_cons r1;obtain⟨v3,vs3,d3,ds3,p3,q3,rfl,rfl,rfl,h3,r3⟩:=trodAll_cons r2;obtain⟨v4,vs4,d4,ds4,p4,q4,rfl,rfl,rfl,h4,r4⟩:=trodAll_cons r3;obtain⟨v5,vs5,d5,ds5,p5,q5,rfl,rfl,rfl,h5,r5⟩:=trodAll_cons r4;obtain⟨rfl,rfl,rfl⟩:=trodAll_nil r5;obtain rfl:args = #[v0,v1,v2,v3,v4,v5]:=by cases args;simp_all
 obtain⟨rfl,rfl⟩:=trodVars_none hV;obtain⟨n0,rfl,rfl,rfl,w0⟩:=open_int GV (z 0 3 v0 rfl rfl) h0;obtain⟨n1,rfl,rfl,rfl,w1⟩:=open_int GV (z 1 3 v1 rfl rfl) h1;obtain⟨n2,rfl,rfl,rfl,w2⟩:=open_int GV (z 2 3 v2 rfl rfl) h2;obtain⟨n3,rfl,rfl,rfl,w3⟩:=open_int GV (z 3 3 v3 rfl rfl) h3;obtain⟨n4,rfl,rfl,rfl,w4⟩:=open_int GV (z 4 3 v4 rfl rfl) h4;obtain⟨n5,rfl,rfl,rfl,w5⟩:=open_int GV (z 5 3 v5 rfl rfl) h5;simp only[GJ]at L;refine(Yr (YI 330000 (by decide)) W n0 n1 n2 n3 n4 n5 (JT w0) (JT w1) (JT w2) (JT w3) (JT w4) (JT w5) (A1x hL)).mono λe aA ⟨he,hc⟩=>?_;subst he;have hb:Below W.heap.size W aA:=hc.dM (Ao _) λk _ h=>h.elim
 exact⟨_,rfl,[.lit (.int .i64 n0),.lit (.int .i64 n1),.lit (.int .i64 n2),.lit (.int .i64 n3),.lit (.int .i64 n4),.lit (.int .i64 n5)],[],_,[],_,[],L,trodAll_cons_mk (shut_bool underlying4 _) trodAll_mk0,
  trodAll_cons_mk (shut_int GV w0) (trodAll_cons_mk (shut_int GV w1) (trodAll_cons_mk (shut_int GV w2) (trodAll_cons_mk (shut_int GV w3) (trodAll_cons_mk (shut_int GV w4) (trodAll_cons_mk (shut_int GV w5) trodAll_mk0))))),rfl,hb.frame _,λh=>by cases h⟩
def Yy:(Rows.spoiltRow.inPlace==Tryz.pinned.checked.prog.inPlace 13)=true:=by kernel_rfl
def Yx:(Rows.spoiltRow.unfollowed==Tryz.pinned.checked.prog.unfollowed 13)=true:=by kernel_rfl
def Yw:(Rows.spoiltRow.recurses==Tryz.pinned.checked.prog.recurses 13)=true:=by kernel_rfl
def Yv:(Rows.spoiltRow.named==Tryz.pinned.checked.prog.varsNamed 13)=true:=by kernel_rfl
def Yu:(Rows.spoiltRow.wf (OpenSpec.ofChange Rows.spoiltSpec)&&laidOutB Tryz.pinned.checked.prog&&mapsRowed Tryz.pinned.checked.prog)=true:=by kernel_rfl
def Yt:(Rows.spoiltRow.lifted==Tryz.pinned.checked.prog.liftsFinal)=true:=by kernel_rfl
def Ys:joinedFacts Tryz.pinned.checked.prog 13 Tryz.f13 Rows.spoiltSpec Rows.spoiltRow=true:=by
 unfold joinedFacts;simp only[Yu,Yy,Yx,Yw,Yv,Yt,O3]
 kernel_rfl
def Yn:Rows.SpoiltSaid:=
 OpenClaim.holds_of_wide 13 Tryz.f13 rfl rfl rfl rfl rfl rfl rfl ⟨rfl,rfl,rfl,rfl,rfl⟩ rfl rfl rfl rfl rfl (by kernel_rfl) func13 Ys
  (Ph (by kernel_rfl)) (by unfold Func.isWrapper;first|(rw[Ae (by decide +kernel)];kernel_rfl)|(rw[Aa (by decide +kernel)];exact⟨rfl,rfl⟩))
  (λos started H enc _=>Yq os started H enc)
def Yo(f:FuncId)(fn:Func)(E:Tryz.pinned.checked.prog.funcNamed "tides/tideskeep.Spoilt" = some f)(d:Tryz.pinned.checked.prog.funcs[f]?=some fn):
 true=Tryz.pinned.checked.prog.looks []/\∀(j:Nat) t,fn.params[j]?=some t->Tryz.pinned.checked.prog.wantsStandIn t=false:=by
 obtain rfl:f=13:=KB ((show Tryz.prog.funcNamed "tides/tideskeep.Spoilt" = some 13 by kernel_rfl).symm.trans E) |>.symm;obtain rfl:fn=Tryz.f13:=(KB (func13.symm.trans d)).symm;refine⟨by kernel_rfl,λj t z=>?_⟩;rw[Tryz.params13]at z;have h:=Array.mem_of_getElem? z;simp at h;subst h;exact(show Tryz.prog.wantsStandIn 3=false by kernel_rfl)
theorem spoilt_holds:Rows.SpoiltCardSaid:=
 Claim7.holds_tied_plain_at .later [] _ _ _ _ Yn (λ_ h=>by cases h) (by kernel_rfl) (λ_ h=>by cases h) spoilt_row_tie rfl ⟨rfl,rfl⟩ (by kernel_rfl) rfl Yo (by kernel_rfl)
#print axioms spoilt_holds
end
end Go.Proofs.YtodcnkbblippnaaGreatDoor
