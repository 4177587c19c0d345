/- The law Kept returns true for every number, every script of bulk at most 1048576 and every list of numbers: what is durable stays behind two crashes (as a row, and its tied card). -/
import Derived.Test.YtodcnkbblippnaaGreatDoorPk25
namespace Go.Proofs.YtodcnkbblippnaaGreatDoor
set_option maxRecDepth 100000
set_option maxHeartbeats 32000000
set_option linter.defProp false
open Go.Proofs.Tryz
section
open Go.RowKit
attribute [local go_sem ↓] Go.wp_at_zero Go.wp_at_succ
section
variable {B g o n:Nat}
def A0Q(aF:DU 200000)(w:World)(c d v E:Int)(cap:Nat)(hS:PN w g o n)(hn:n<=180000)(hg:n≠0->g<w.heap.size)(hE:Env B w)(sv tv:Value)(W:sv=.slice (some (Ac g o)) n cap\/(n=0/\∃x,sv=.slice x 0 cap))(hc:AE c)(aG:AE d)(hv:AE v)(aK:AE E)(aT:F7 w.heap.size w tv):
 Af 10 #[A0 c,sv,A0 d,A0 v,A0 E,tv] w (Aj (.bool true) λw'=>A3 Ab w w'):=by
 have aL:=A1 (A0G w c hc);have bL:=A1 (A0r aF w (Jv c) (Xi c) cap hS hn hg hE sv W);have bR:=A1 (λw'=>JL w' d 3 aG (by decide));obtain⟨bB,a3⟩:=HI d 3 (by decide);generalize D6 d 3=ph at bR bB a3;have z:=A1 hE;have bT:=A1 hv;have a1:=A1 aT;have bG:=A1 aK;have bD:=A1 aG;have a2:∃a n2 c2,sv=.slice a n2 c2:=by
  rcases W with rfl|⟨rfl,x,rfl⟩
  ·exact⟨_,_,_,rfl⟩
  ·exact⟨_,_,_,rfl⟩
 obtain⟨sa,sn,scp,rfl⟩:=a2;clear hE hv aT aK aG hS W hg hn hc
 go_enter func10,ntmps10
 go_wp2_with (go_at_call 30;refine aL.m ?_;rintro e w'⟨rfl,rfl⟩);refine bL.m ?_;rintro e w1⟨xb,rfl,k1,now,sb,ab,b,aH,puts,A8,P,h1,h2,h3,h4⟩;have bK:Hid (FD 190000 w.heap.size xb sb ab b aH now puts A8 w1):=⟨P,h1,h2,h3⟩;have a8:=A1 k1;have b1:=h1.Ag.c1;have b2:=h1.Ag.c2;have e5:IntKind.i64.wrap (now+5)=now+5:=by simp[IntKind.wrap,IntKind.bits,IntKind.signed];omega
 have I:Hid (AE now/\AE (now+5)):=⟨by constructor<;>omega,by constructor<;>omega⟩;obtain⟨v2,a7⟩:∃v2,IntKind.i64.wrap (v+1)=v2:=⟨_,rfl⟩;have bA:Hid (AE v2):=by rw[<-a7];unfold Hid;simp[IntKind.wrap,IntKind.bits,IntKind.signed,AE];omega
 clear h1 h2 h3 k1 bL aL;have H:=A1 (bK.o.aw (by decide) (z.o.aM a8.o).1 z.o.1.1 2 now v ⟨⟨by simp,by simp⟩,I.o.1,bT.o⟩);go_wp2_with (fail);refine H.m ?_;rintro e w2⟨rfl,k2,h2⟩;have bS:=A1 h2;have a6:Hid (A3 Ab w w2):=a8.o.bj k2 λ_ h=>h;have b1:=h2.Ag.c1;clear h2 k2 H bK a8;have H:=A1 (bS.o.aw (by decide) (z.o.aM a6.o).1 z.o.1.1 2 (now+5) v ⟨⟨by simp,by simp⟩,I.o.2,bT.o⟩);go_wp2_with (fail);refine H.m ?_;rintro e w3⟨rfl,k3,h3⟩;have bP:=A1 h3;have aW:Hid (A3 Ab w w3):=a6.o.bj k3 λ_ h=>h;have b1:=h3.Ag.c1;clear h3 k3 H bS a6;have H:=A1 (bP.o.aw (by decide) (z.o.aM aW.o).1 z.o.1.1 2 now v2 ⟨⟨by simp,by simp⟩,I.o.1,bA.o⟩);go_wp2_with (fail);refine H.m ?_;rintro e w4⟨rfl,k4,aE⟩;have bJ:=A1 aE;have aY:Hid (A3 Ab w w4):=aW.o.bj k4 λ_ h=>h;have b1:=aE.Ag.c1;clear aE k4 H bP aW;have SV:Hid (∀f,Jl f->Af f #[A5 sb] w4 (Aj (A0 0) λw'=>A3 Ab w w'/\No 190004 w.heap.size xb now v v2 w')):=λf hf=>by
  refine(bJ.o.cy aF (by decide) f hf (by decide) (by decide) (z.o.aM aY.o).1 z.o.1.1).mono ?_;rintro e w'⟨rfl,q1,q2⟩;refine⟨rfl,aY.o.bj q1 λ_ h=>h,sb,ab,b,aH,puts,[],_,?_,As _,λp L=>by cases L⟩;rw[FA];exact q2
 clear bJ aY;go_wp2_with (fail);refine(bR.o _).mono ?_;rintro e w'⟨rfl,rfl⟩;have bF:ph=0\/ph=1\/ph=2:=by omega
 rcases bF with rfl|rfl|rfl
 all_goals
  go_wp2_with (fail);refine(SV.o _ (by first|exact .inl rfl|exact .inr (.inl rfl)|exact .inr (.inr rfl))).mono ?_;rintro e w5⟨rfl,k5,h5⟩;have bU:Hid (A3 Ab w w5/\No (190004+0) w.heap.size xb now v v2 w5):=⟨k5,h5⟩;clear k5 h5 SV;go_wp2;go_loopw [19,20,21,22] (λiv _ _ _ wr=>∃k:Nat,k<=2/\iv=A0 k/\Hid (A3 Ab w wr/\No (190004+k) w.heap.size xb now v v2 wr)) (λiv _ _ _ _=>2-(intOf iv).toNat)
  case atStart=>exact⟨0,by decide,rfl,bU⟩
  case round=>
   obtain⟨k,hk,rfl,hH⟩:=hrel;obtain⟨w6,aV⟩:∃w6,w6=wr:=⟨_,rfl⟩;subst aV;by_cases hlk:k<2
   ·(have i1:(k:Int)<2:=by omega);have k0:=C2 k;(have ek:IntKind.i64.wrap ((k:Int)+1)=(k:Int)+1:=by simp[IntKind.wrap,IntKind.bits,IntKind.signed];omega);obtain⟨aQ,sb6,ab6,bb6,win6,l,r,Y,h6,aJ,aO⟩:=hH;have bH:=A1 h6;have aS:=A1 aQ;have aP:=A1 aJ;have aX:=A1 aO;have b0:=h6.Ag.c0;have b1:=h6.Ag.c1;clear h6 aQ aJ aO;have H:=A1 (bH.o.aw (by omega) (z.o.aM aS.o).1 z.o.1.1 3 now k ⟨⟨by simp,by simp⟩,I.o.1,by constructor<;>(dsimp only;omega)⟩);go_wp2_with (fail);refine H.m ?_;rintro e w7⟨rfl,k7,h7⟩;have bN:=A1 h7;have aU:Hid (A3 Ab w w7):=aS.o.bj k7 λ_ h=>h;have b0:=h7.Ag.c0;clear h7 k7 H bH aS;have CR:=A1 (bN.o.aT aF (by decide) (by omega) (by omega) E d tv bG.o bD.o (a1.o.aj (aU.o.aa λ_ _ h=>h.elim)) (z.o.aM aU.o) z.o.1.1);go_wp2_with (fail);refine CR.m ?_;rintro e w8⟨rfl,k8,aN⟩;have ST:=A1 aN;have bQ:Hid (A3 Ab w w8):=aU.o.bj k8 λ_ h=>h;clear aN k8 CR aU bN;go_wp2_with (fail);refine ST.m ?_;rintro e w9⟨rfl,k9,aZ,bC,a4,m,h9,hm⟩
    obtain⟨r2,aI,O⟩:=A0H (now:=now) (v:=v) (v2:=v2) l (r++[((3:Int),now,(k:Int))]) m (AR aP.o hm) (λp L=>by
     rcases AV.1 L with L|L
     ·exact aX.o p L
     ·simp at L;rw[L])
    rw[Cc,aI]at h9;have bO:Hid (A3 Ab w w9):=bQ.o.bj k9 λ_ h=>h;have bM:=A1 h9;have b1:=h9.Ag.c1;obtain⟨at1,a0⟩:=Ty h9 O;have bI:=A1 at1;have aM:=A1 O;clear h9 k9 at1 a0 ST bQ aI O;go_wp2_with (fail);refine bI.m ?_;rintro e bE⟨rfl,aA⟩;have aD:=A1 (bM.o.au aA);have a9:Hid (A3 Ab w bE):=bO.o.tr aA;have b1':=aD.o.Ag.c1;have A2:=A1 (Ty aD.o aM.o).2;clear aA bI bM bO b1;go_wp2_with (fail);refine A2.m ?_;rintro e aR⟨rfl,aB⟩;have a5:Hid (A3 Ab w aR/\No (190004+(k+1)) w.heap.size xb now v v2 aR):=⟨a9.o.tr aB,aZ,bC,a4,_,l,r2,Y,aD.o.au aB,aP.o,aM.o⟩;clear aB A2;go_wp2;go_roundw
    case rel=>exact⟨k+1,by omega,by simp,a5⟩
    case measure=>simp[intOf];omega
   ·(have i1:¬(k:Int)<2:=by omega);have aS:=A1 hH.o.1;clear hH;go_wp2;go_ret;exact⟨rfl,aS.o⟩
end
end
section
open Go.ChangeAt Go.ChangeShapes Go.RowKit Go.WideShapes
def A0Y(H:Type)(enc:TypeId×Value->H)(W:World)(I:Nat)(args:Array Value)(ds gs:List (DataW H))(before:List MemPlace)(d:∀(j:Nat) t v,Tryz.f10.params[j]?=some t->args[j]?=some v->Value.okWide Tryz.prog W .any I t v)(hW:DataW.Whole enc Tryz.prog Tryz.f10.params.toList Rows.keptSpec.vars false W args.toList ds gs before)(hL:laidMetH Tryz.prog Rows.keptUptoRow.laid W)(hk:Rows.uptoSmall H (ds++gs)=true):
 Calls Tryz.prog 10 args W λe aF=>∃v,e=.returned v/\Rows.keptSpec.post enc Tryz.prog Tryz.f10 false true false false W args v aF:=by
 have z:=hW;obtain⟨p,q,aE,hV,rfl,hfz,hnd⟩:=hW;have hA:=aE;rw[Tryz.params10]at hA d;obtain⟨v0,vs0,d0,ds0,p0,q0,hargs,rfl,rfl,h0,r0⟩:=trodAll_cons hA;obtain⟨Y,vs1,d1,ds1,p1,q1,rfl,rfl,rfl,h1,r1⟩:=trodAll_cons r0;obtain⟨v2,vs2,d2,ds2,p2,q2,rfl,rfl,rfl,h2,r2⟩:=trodAll_cons r1;obtain⟨v3,vs3,d3,ds3,p3,q3,rfl,rfl,rfl,h3,r3⟩:=trodAll_cons r2;obtain⟨v4,vs4,d4,ds4,p4,q4,rfl,rfl,rfl,h4,r4⟩:=trodAll_cons r3;obtain⟨v5,vs5,d5,ds5,p5,q5,rfl,rfl,rfl,L,r5⟩:=trodAll_cons r4;obtain⟨rfl,rfl,rfl⟩:=trodAll_nil r5;obtain rfl:args = #[v0,Y,v2,v3,v4,v5]:=by cases args;simp_all
 obtain⟨rfl,rfl⟩:=trodVars_none hV;have hb:Rows.uptoBulk d1<=1048576:=by
  have h:=I8 hk;simp only[FA,Rows.uptoBulkAll]at h;omega
 obtain⟨n0,rfl,rfl,rfl,w0⟩:=open_int underlying3 (d 0 3 v0 rfl rfl) h0;obtain⟨n2,rfl,rfl,rfl,w2⟩:=open_int underlying3 (d 2 3 v2 rfl rfl) h2;obtain⟨n3,rfl,rfl,rfl,w3⟩:=open_int underlying3 (d 3 3 v3 rfl rfl) h3;obtain⟨n4,rfl,rfl,rfl,w4⟩:=open_int underlying3 (d 4 3 v4 rfl rfl) h4;have o1:=d 1 55 Y rfl rfl;obtain⟨ta,tn,tc,rfl⟩:=okWide_slice underlying26 (d 5 26 v5 rfl rfl);have aH:=h1;have aD:=L;obtain⟨fuel,L⟩:=L;have aG:F7 W.heap.size W (.slice ta tn tc):=NL L;obtain⟨g,o,n,cap,hS,hn,hg,O⟩:=XL (okWide_slice underlying55 o1) h1 hb;simp only[FA,Et]at z;refine(A0Q (Rb 200000 (by decide)) W n0 n2 n3 n4 cap hS hn hg (Tx hL) Y (.slice ta tn tc) O (Gx w0) (Gx w2) (Gx w3) (Gx w4) aG).mono λe aF ⟨he,hc⟩=>?_;subst he;have E:Below W.heap.size W aF:=hc.de (As _) λk _ h=>h.elim;have aB:∀x∈p1,x.block<W.heap.size:=λx hx=>by simpa using z.lt x (by simp[hx])
 have aA:∀x∈p5,x.block<W.heap.size:=λx hx=>by simpa using z.lt x (by simp[hx])
 exact⟨_,rfl,[.lit (.int .i64 n0),d1,.lit (.int .i64 n2),.lit (.int .i64 n3),.lit (.int .i64 n4),d5],[],p1++p5,[],p1++p5,[],z,trodAll_cons_mk (shut_bool underlying4 _) trodAll_mk0,
  (by
   have hT:=trodAll_cons_mk (shut_int underlying3 w0) (trodAll_cons_mk (Below.trod Tryz.laidOut (by kernel_rfl) (I8 (by kernel_rfl)) aH E aB) (trodAll_cons_mk (shut_int underlying3 w2) (trodAll_cons_mk (shut_int underlying3 w3) (trodAll_cons_mk (shut_int underlying3 w4) (trodAll_mk1 (Below.trod Tryz.laidOut (by kernel_rfl) (I8 (by kernel_rfl)) aD E aA))))));simp only[Et]at hT
   exact hT),rfl,E.frame _,λh=>by cases h⟩
abbrev OT:Array Value:=#[A0 0,.slice none 0 0,A0 0,A0 0,A0 0,.slice none 0 0]
def A0N(os:Os)(W:World)(h:FB os W){H:Type}(enc:TypeId×Value->H):∃places,DataW.whole enc Tryz.prog (W.forCall (λ_ _=>0) ⟨#[],OT,[]⟩).memory Tryz.f10.params.toList Rows.keptSpec.vars false OT.toList 8=some ([.lit (.int .i64 0),.nil,.lit (.int .i64 0),.lit (.int .i64 0),.lit (.int .i64 0),.nil],[],places):=by
 unfold FB at h;subst h;exact⟨[],by kernel_rfl⟩
def A0P(os:Os)(started:os.Started)(H:Type)(enc:TypeId×Value->H)(F:Stop.Interp):
 ReturnsInHanded {} Tryz.checked os 10 .any ((Rows.OpenSpec.upto Rows.keptSpec).preRow enc Tryz.prog Tryz.f10 Rows.keptUptoRow.domain false Rows.keptUptoRow.laid) (((Rows.OpenSpec.upto Rows.keptSpec).at F).post enc Tryz.prog Tryz.f10 false true false false):=by
 obtain⟨z,d⟩:∃z,FB os z:=⟨_,rfl⟩;obtain⟨places,hx⟩:=A0N os z d enc;have hm:=Tw os z d;refine returnsInHanded_of_row (C:=Tryz.checked) (s:=Rows.OpenSpec.upto Rows.keptSpec) Tryz.own started (by kernel_rfl) func10
  (witness_row_at (enc:=enc) (C:=Tryz.checked) false z OT (by unfold FB at d;subst d;rfl) (by unfold FB at d;subst d;kernel_rfl) (by unfold FB at d;subst d;kernel_rfl) (by unfold FB at d;subst d;kernel_rfl)
   (OpenSpec.preRow_of_cond 8 hx (by kernel_rfl) (λk L=>by cases L;kernel_rfl) (by kernel_rfl) (hm _))) ?_
 intro W E args Y gs before I O _ h _ hL _ _;exact A0Y H enc W E args Y gs before I O hL (h _ rfl)
def A0X:(Rows.keptUptoRow.inPlace==Tryz.pinned.checked.prog.inPlace 10)=true:=by kernel_rfl
def A0W:(Rows.keptUptoRow.unfollowed==Tryz.pinned.checked.prog.unfollowed 10)=true:=by kernel_rfl
def A0V:(Rows.keptUptoRow.recurses==Tryz.pinned.checked.prog.recurses 10)=true:=by kernel_rfl
def A0U:(Rows.keptUptoRow.named==Tryz.pinned.checked.prog.varsNamed 10)=true:=by kernel_rfl
def A0T:(Rows.keptUptoRow.wf (OpenSpec.ofChange (Rows.OpenSpec.upto Rows.keptSpec).bare)&&laidOutB Tryz.pinned.checked.prog&&mapsRowed Tryz.pinned.checked.prog)=true:=by kernel_rfl
def A0S:(Rows.keptUptoRow.lifted==Tryz.pinned.checked.prog.liftsFinal)=true:=by kernel_rfl
def A0R:joinedFacts Tryz.pinned.checked.prog 10 Tryz.f10 (Rows.OpenSpec.upto Rows.keptSpec).bare Rows.keptUptoRow=true:=by
 unfold joinedFacts;simp only[A0T,A0X,A0W,A0V,A0U,A0S,LP]
 kernel_rfl
def A0M:Rows.KeptUptoSaid:=
 OpenClaim.holds_of_cond 10 Tryz.f10 rfl rfl rfl rfl rfl rfl rfl ⟨rfl,rfl,rfl,rfl,rfl⟩ rfl rfl rfl rfl rfl (by kernel_rfl) func10 A0R
  (I8 (by kernel_rfl)) (by unfold Func.isWrapper;first|(rw[Ai (by decide +kernel)];kernel_rfl)|(rw[Ae (by decide +kernel)];exact⟨rfl,rfl⟩))
  (λos started H enc _ F=>by rw[OpenClaim.pre_eq_preRow];exact A0P os started H enc F)
def A0O(f:FuncId)(fn:Func)(E:Tryz.pinned.checked.prog.funcNamed "tides/tideskeep.Kept" = some f)(d:Tryz.pinned.checked.prog.funcs[f]?=some fn):
 true=Tryz.pinned.checked.prog.looks []/\∀(j:Nat) t,fn.params[j]?=some t->Tryz.pinned.checked.prog.wantsStandIn t=false:=by
 obtain rfl:f=10:=Lr ((show Tryz.prog.funcNamed "tides/tideskeep.Kept" = some 10 by kernel_rfl).symm.trans E) |>.symm;obtain rfl:fn=Tryz.f10:=(Lr (func10.symm.trans d)).symm;refine⟨by kernel_rfl,λj t z=>?_⟩;rw[Tryz.params10]at z;have h:=Array.mem_of_getElem? z;simp at h;rcases h with rfl|rfl|rfl|rfl
 ·exact(show Tryz.prog.wantsStandIn 3=false by kernel_rfl)
 ·exact(show Tryz.prog.wantsStandIn 55=false by kernel_rfl)
 ·exact(show Tryz.prog.wantsStandIn 3=false by kernel_rfl)
 ·exact(show Tryz.prog.wantsStandIn 26=false by kernel_rfl)
theorem kept_holds:Rows.KeptUptoCardSaid:=
 Claim7.holds_tied_plain_at .later [] _ _ _ _ A0M (λ_ h=>by cases h) (by kernel_rfl) (λ_ h=>by cases h) keptUpto_row_tie rfl ⟨rfl,rfl⟩ (by kernel_rfl) rfl A0O (by kernel_rfl)
#print axioms kept_holds
end
end Go.Proofs.YtodcnkbblippnaaGreatDoor
