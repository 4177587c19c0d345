/- The law All returns true for every two Sets and every script of bulk at most 1048576: two stores on two disks beside one another, and lists that came out stay as their owner wrote them (as a row, and its tied card). -/
import Derived.Test.YtodcnkbblippnaaGreatDoorPart14
namespace Go.Proofs.YtodcnkbblippnaaGreatDoor
set_option maxRecDepth 100000
set_option maxHeartbeats 32000000
set_option linter.defProp false
open Go.Proofs.Tryz
section
open Go.RowKit
attribute [local go_sem ↓] Go.wp_at_zero Go.wp_at_succ
def A4f{B g o n:Nat}(w:gC)(l1 i1 r1 c1 l2 i2 r2 c2:Int)(cap:Nat)(hS:VS w g o n)(hn:n<=180000)(hg:n≠0->g<w.heap.size)(hE:Env B w)(aV:Ay c1)(aJ:Ay r1)(aN:Ay c2)(aG:Ay r2)(sv:gD)(a0:sv=.slice (some (A9 g o)) n cap\/(n=0/\∃x,sv=.slice x 0 cap)):
 Ag 8 #[.agg #[A0 l1,A0 i1,A0 r1,A0 c1],.agg #[A0 l2,A0 i2,A0 r2,A0 c2],sv] w (Aj (.bool true) λw'=>A4 (Up w.heap.size) w w'):=by
 have aF:∃a,sv=.slice a n cap/\(n≠0->a=some (A9 g o)):=by
  rcases a0 with rfl|⟨rfl,x,rfl⟩
  ·exact⟨_,rfl,λ_=>rfl⟩
  ·exact⟨x,rfl,λh=>absurd rfl h⟩
 obtain⟨ad,rfl,aL⟩:=aF;have O:=A1 (Yk 330000 iF);have hA:=(A4.C Aa w).ai (.cells #[A0 l1,A0 i1,A0 r1,A0 c1] 23);have I:=Bn w (.cells #[A0 l1,A0 i1,A0 r1,A0 c1] 23);have aH:(w.alloc (.cells #[A0 l1,A0 i1,A0 r1,A0 c1] 23)).heap.size=w.heap.size+1:=iE
 generalize hw0:(w.alloc (.cells #[A0 l1,A0 i1,A0 r1,A0 c1] 23))=w0 at hA I aH;have E:=(A4.C Aa w0).ai (.cells #[A0 l2,A0 i2,A0 r2,A0 c2] 23);have d:=Bn w0 (.cells #[A0 l2,A0 i2,A0 r2,A0 c2] 23);generalize hw1:(w0.alloc (.cells #[A0 l2,A0 i2,A0 r2,A0 c2] 23))=w1 at E d;rw[aH]at d;have p0:A7 w0 w.heap.size 0 (A0 l1):=CJ I;have Y:A7 w0 w.heap.size 1 (A0 i1):=CJ I;have p2:A7 w0 w.heap.size 2 (A0 r1):=CJ I;have p3:A7 w0 w.heap.size 3 (A0 c1):=CJ I;have p0:=E.ad p0;have Y:=E.ad Y;have p2:=E.ad p2;have p3:=E.ad p3;have q0:A7 w1 (w.heap.size+1) 0 (A0 l2):=CJ d;have X:A7 w1 (w.heap.size+1) 1 (A0 i2):=CJ d;have q2:A7 w1 (w.heap.size+1) 2 (A0 r2):=CJ d;have q3:A7 w1 (w.heap.size+1) 3 (A0 c2):=CJ d;have bB:=A1 (hA.tr E);have bI:=A1 hS;have bJ:=A1 hg;have a5:=A1 aL;have aP:=A1 hE;have aX:=A1 (And.intro aV (And.intro aJ (And.intro aN aG)));have bK:=A1 hn;have bC:=A1 (A3G w1 (hE.aL bB.o));clear hA E I d hS hg aL hE aV aJ aN aG hn
 go_enter func8,ntmps8
 go_wp2_with (fail);refine bC.k ?_;rintro w2 L;have bA:Hid (A4 Aa w w2):=bB.o.tr L;have bH:Hid (w.heap.size+1<w2.heap.size):=GV w2 _ (L.ad q0);have p0:=L.ad p0;have Y:=L.ad Y;have p2:=L.ad p2;have p3:=L.ad p3;have q0:=L.ad q0;have X:=L.ad X;have q2:=L.ad q2;have q3:=L.ad q3;have a9:=A1 (Vs (F:=λ_=>([],0)) w2 l1 i1 r1 c1 0);clear L bC;go_wp2_with (fail);refine a9.m ?_;rintro e w3⟨wp,bp,rfl,aU,aR,aS,aB,k3⟩;have bE:Hid (A4 Aa w w3):=bA.o.tr k3;have Y:=k3.ad Y;have q0:=k3.ad q0;have X:=k3.ad X;have q2:=k3.ad q2;have q3:=k3.ad q3;have aK:=A1 (Vs (F:=λ_=>([],0)) w3 l2 i2 r2 c2 1073741824);have z:=A1 (And.intro aU (And.intro aR (And.intro aS aB)));clear a9 aU aR aS aB k3 p0 p2 p3;go_wp2_with (fail);refine aK.m ?_;rintro e w4⟨wq,bq,rfl,aO,aQ,a1,aE,k4⟩;have bF:Hid (A4 Aa w w4):=bE.o.tr k4;have Y:=k4.ad Y;have X:=k4.ad X;have a7:=A1 (Xm (W:=w) (p:=wp) (q:=wq) (b1:=bp) (b2:=bq) O.o aP.o bF.o (z.o.1.ak k4) (AU.av z.o.2.1 (λk hk=>by cases hk;have:=z.o.1.lt;have:=z.o.2.2.2;omega) k4) aO aQ (AO bA.o.Ak z.o.2.2.1) z.o.2.2.2 (by have:=z.o.1.lt;omega) aE aX.o.1 aX.o.2.1 aX.o.2.2.1 aX.o.2.2.2);have a3:Hid (w.heap.size+1<bp):=Bp bH.o z.o.2.2.1;clear aK aO aQ a1 aE k4 q0 q2 q3 z;go_wp2_with (fail);refine a7.m ?_;rintro e w5⟨rfl,k5,aW⟩;have X:=Dv k5 X (by unfold Up;have:=a3.o;omega);have aW:=A1 (aW w5 (A4.C _ w5));clear a7 k5 Y;go_wp2_with (fail);refine aW.m ?_;rintro e w6⟨rfl,hT⟩;have bL:=A1 hT;have hnI:(n:Int)<=180000:=by have:=bK.o;omega
 clear aW hT X;go_wp2;go_loopw [12,13] (λokv iv wr=>∃k:Nat,okv=.bool true/\iv=A0 k/\k<=n/\Hid (Ez w wp wq l1 l2 k wr)) (λ_ iv _=>n-(intOf iv).toNat)
 case atStart=>exact⟨0,rfl,rfl,Cb _,bL⟩
 case round=>
  obtain⟨k,rfl,rfl,hk,hT⟩:=hrel;obtain⟨w7,a6⟩:=iH wr;subst a6;have k0:=BJ k;by_cases aI:k<n
  ·have j1:(k:Int)<(n:Int):=iC;have ek:IntKind.i64.wrap ((k:Int)+1)=(k:Int)+1:=E9 iC;(have bM:Hid (n-(intOf (A0 ((k:Int)+1))).toNat<n-(intOf (A0 (k:Int))).toNat):=by simp only[Hid,intOf];omega);obtain rfl:=a5.o iC;have hgl:=bJ.o iC;have⟨kd,a,b3,c3,tv,ia,ib,ic,s0,s1,s2,s3,s4,aT⟩:=bI.o k aI;(have up:∀x u,A7 w g x u->A7 w7 g x u:=λx u hu=>Dv hT.o.1 hu λe=>by unfold Up at e;omega);have s0:=up _ _ s0;have s1:=up _ _ s1;have s2:=up _ _ s2;have s3:=up _ _ s3;have s4:=up _ _ s4;have aD:=A1 (And.intro ia (And.intro ib (And.intro ic aT)));clear up ia ib ic aT;by_cases aA:k % 2=1
   focus
    (have hm:((k:Int) % 2==1)=true:=by simp;omega);have ST:=A1 (hT.o.b6.aZ (B:=B) O.o kd a b3 c3 tv aP.o iC aD.o.1 aD.o.2.1 aD.o.2.2.1 aD.o.2.2.2);clear aA;go_wp2_with (fail);refine ST.m ?_;rintro e w8⟨rfl,h8⟩;have a2:=A1 h8.b6;clear ST h8
   rotate_left
   focus
    (have hm:((k:Int) % 2==1)=false:=by simp;omega);have ST:=A1 (hT.o.aZ (B:=B) O.o kd a b3 c3 tv aP.o iC aD.o.1 aD.o.2.1 aD.o.2.2.1 aD.o.2.2.2);clear aA;go_wp2_with (fail);refine ST.m ?_;rintro e w8⟨rfl,h8⟩;have a2:=A1 h8;clear ST h8
   all_goals
    have bD:=A1 (a2.o.ds iC);go_wp2_with (fail);refine bD.m ?_;rintro e w9⟨rfl,h9⟩;have a8:=A1 (h9.b6.ds iC);clear bD h9 a2;go_wp2_with (fail);refine a8.m ?_;rintro e w10⟨rfl,aM⟩;have a4:=A1 aM.b6;clear a8 aM;go_wp2;go_roundw
    ·exact⟨k+1,rfl,iE,aI,a4⟩
    ·exact bM.o
  ·(obtain rfl:k=n:=iC);have j1:¬(k:Int)<(k:Int):=L6 _;obtain⟨v1,y1,aZ⟩:=hT.o.eM (B:=B) O.o aP.o iC;have aZ:=A1 aZ;go_wp2_with (fail);refine aZ.m ?_;rintro e w8⟨rfl,h8⟩;obtain⟨v2,y2,aY⟩:=h8.b6.eM (B:=B) O.o aP.o iC;have aY:=A1 aY;clear aZ h8 y1;go_wp2_with (fail);refine aY.m ?_;rintro e w9⟨rfl,h9⟩;have bG:=A1 h9.1;clear aY h9 y2;go_wp2;go_ret;exact⟨rfl,bG.o⟩
end
section
open Go.ChangeAt Go.ChangeShapes Go.RowKit Go.WideShapes
def A4n(H:Type)(enc:TypeId×gD->H)(W:gC)(aD:Nat)(args:Array gD)(ds gs:gF (DataW H))(before:gF MemPlace)(z:∀(j:Nat) t v,Tryz.f8.params[j]?=some t->args[j]?=some v->Value.okWide Tryz.prog W .any aD t v)(hW:DataW.Whole enc Tryz.prog Tryz.f8.params.toList Rows.allSpec.vars false W args.toList ds gs before)(hL:laidMetH Tryz.prog Rows.allUptoRow.laid W)(hk:Rows.uptoSmall H (ds++gs)=true):
 Calls Tryz.prog 8 args W λe aO=>∃v,e=.returned v/\Rows.allSpec.post enc Tryz.prog Tryz.f8 false true false false W args v aO:=by
 have I:=hW;obtain⟨p,q,aN,hV,rfl,hfz,hnd⟩:=hW;have hA:DataW.TrodAll enc Tryz.prog W 0 (λ_=>true) true Tryz.f8.params.toList args.toList ds p:=aN;rw[Tryz.params8]at hA z;obtain⟨v0,vs0,d0,ds0,p0,q0,hargs,rfl,rfl,h0,r0⟩:=trodAll_cons hA;obtain⟨v1,vs1,d1,ds1,p1,q1,rfl,rfl,rfl,h1,r1⟩:=trodAll_cons r0;obtain⟨v2,vs2,d2,ds2,p2,q2,rfl,rfl,rfl,h2,r2⟩:=trodAll_cons r1;obtain⟨rfl,rfl,rfl⟩:=trodAll_nil r2;obtain rfl:args = #[v0,v1,v2]:=by cases args;simp_all
 obtain⟨rfl,rfl⟩:=trodVars_none hV;have hb:Rows.uptoBulk d2<=1048576:=by
  have h:=Jz hk;simp only[Gk,Rows.uptoBulkAll]at h;omega
 have o0:=z 0 23 v0 rfl rfl;have o1:=z 1 23 v1 rfl rfl;have o2:=z 2 24 v2 rfl rfl;obtain⟨cs,rfl,hcs⟩:=okWide_struct underlying23 o0;obtain⟨ct,rfl,hct⟩:=okWide_struct underlying23 o1;have aI:=h0;have aP:=h1;have aJ:=h2;obtain⟨fuel,h0⟩:=h0;obtain⟨fuel1,h1⟩:=h1;obtain⟨ld,wa,room,A8,aR,aK,aL⟩:=RQ h0;obtain⟨Y,aG,E,d,aA,aE,aF⟩:=RQ h1;have O:cs = #[.int .i64 ld,.int .i64 wa,.int .i64 room,.int .i64 A8]:=by
  apply Array.ext';simpa[Value.cells] using aR
 subst O;have aB:ct = #[.int .i64 Y,.int .i64 aG,.int .i64 E,.int .i64 d]:=by
  apply Array.ext';simpa[Value.cells] using aA
 subst aB;obtain⟨g,o,n,cap,hS,hn,hg,aH⟩:=YH (okWide_slice underlying24 o2) h2 hb;simp only[Gk]at I;refine(A4f W ld wa room A8 Y aG E d cap hS hn hg (A1e hL) aK aL aE aF v2 aH).mono λe aO ⟨he,hc⟩=>?_;subst he;have L:Below W.heap.size W aO:=hc.ej (An _) λk hk h=>by unfold Up at h;omega
 have lt0:∀x∈p0,x.block<W.heap.size:=λx X=>by simpa using I.lt x (by simp[X])
 have aM:∀x∈p1,x.block<W.heap.size:=λx X=>by simpa using I.lt x (by simp[X])
 have aQ:∀x∈p2,x.block<W.heap.size:=λx X=>by simpa using I.lt x (by simp[X])
 exact⟨_,rfl,[d0,d1,d2],[],p0++(p1++p2),[],p0++(p1++p2),[],I,trodAll_cons_mk (shut_bool underlying4 _) trodAll_mk0,
  trodAll_mk3 (Below.trod Tryz.laidOut (by kernel_rfl) (Jz (by kernel_rfl)) aI L lt0) (Below.trod Tryz.laidOut (by kernel_rfl) (Jz (by kernel_rfl)) aP L aM) (Below.trod Tryz.laidOut (by kernel_rfl) (Jz (by kernel_rfl)) aJ L aQ),rfl,L.frame _,λh=>by cases h⟩
abbrev Od:Array Value:=#[.agg #[A0 1,A0 1,A0 0,A0 0],.agg #[A0 1,A0 1,A0 0,A0 0],.slice none 0 0]
def reads(os:Os)(W:gC)(h:IH os W){H:Type}(enc:TypeId×gD->H):∃places,DataW.whole enc Tryz.prog (W.forCall (λ_ _=>0) ⟨#[],Od,[]⟩).memory Tryz.f8.params.toList Rows.allSpec.vars false Od.toList 8=some ([.agg [.lit (.int .i64 1),.lit (.int .i64 1),.lit (.int .i64 0),.lit (.int .i64 0)],.agg [.lit (.int .i64 1),.lit (.int .i64 1),.lit (.int .i64 0),.lit (.int .i64 0)],.nil],[],places):=by
 unfold IH at h;subst h;exact⟨[],by kernel_rfl⟩
def A4e(os:Os)(started:os.Started)(H:Type)(enc:TypeId×gD->H)(F:Stop.Interp):
 ReturnsInHanded {} Tryz.checked os 8 .any ((Rows.OpenSpec.upto Rows.allSpec).preRow enc Tryz.prog Tryz.f8 Rows.allUptoRow.domain false Rows.allUptoRow.laid) (((Rows.OpenSpec.upto Rows.allSpec).at F).post enc Tryz.prog Tryz.f8 false true false false):=by
 obtain⟨z,d⟩:∃z,IH os z:=⟨_,rfl⟩;obtain⟨places,hx⟩:=reads os z d enc;have hm:=A1b os z d;refine returnsInHanded_of_row (C:=Tryz.checked) (s:=Rows.OpenSpec.upto Rows.allSpec) Tryz.own started (by kernel_rfl) func8
  (witness_row_at (enc:=enc) (C:=Tryz.checked) false z Od (by unfold IH at d;subst d;rfl) (by unfold IH at d;subst d;kernel_rfl) (by unfold IH at d;subst d;kernel_rfl) (by unfold IH at d;subst d;kernel_rfl)
   (OpenSpec.preRow_of_cond 8 hx (by kernel_rfl) (λk L=>by cases L;kernel_rfl) (by kernel_rfl) (hm _))) ?_
 intro W E args X gs before I O _ h _ Y _ _;exact A4n H enc W E args X gs before I O Y (h _ rfl)
def A4m:(Rows.allUptoRow.inPlace==Tryz.pinned.checked.prog.inPlace 8)=true:=by kernel_rfl
def A4l:(Rows.allUptoRow.unfollowed==Tryz.pinned.checked.prog.unfollowed 8)=true:=by kernel_rfl
def A4k:(Rows.allUptoRow.recurses==Tryz.pinned.checked.prog.recurses 8)=true:=by kernel_rfl
def A4j:(Rows.allUptoRow.named==Tryz.pinned.checked.prog.varsNamed 8)=true:=by kernel_rfl
def A4i:(Rows.allUptoRow.wf (OpenSpec.ofChange (Rows.OpenSpec.upto Rows.allSpec).bare)&&laidOutB Tryz.pinned.checked.prog&&mapsRowed Tryz.pinned.checked.prog)=true:=by kernel_rfl
def A4h:(Rows.allUptoRow.lifted==Tryz.pinned.checked.prog.liftsFinal)=true:=by kernel_rfl
def A4g:joinedFacts Tryz.pinned.checked.prog 8 Tryz.f8 (Rows.OpenSpec.upto Rows.allSpec).bare Rows.allUptoRow=true:=by
 unfold joinedFacts;simp only[A4i,A4m,A4l,A4k,A4j,A4h,O4]
 kernel_rfl
def A4c:Rows.AllUptoSaid:=
 OpenClaim.holds_of_cond 8 Tryz.f8 rfl rfl rfl rfl rfl rfl rfl ⟨rfl,rfl,rfl,rfl,rfl⟩ rfl rfl rfl rfl rfl (by kernel_rfl) func8 A4g
  (Jz (by kernel_rfl)) (by unfold Func.isWrapper;first|(rw[Ai (by decide +kernel)];kernel_rfl)|(rw[Af (by decide +kernel)];exact⟨rfl,rfl⟩))
  (λos started H enc _ F=>by rw[OpenClaim.pre_eq_preRow];exact A4e os started H enc F)
def A4d(f:FuncId)(fn:Func)(E:Tryz.pinned.checked.prog.funcNamed "tides/tideslaw.All" = some f)(d:Tryz.pinned.checked.prog.funcs[f]?=some fn):
 true=Tryz.pinned.checked.prog.looks []/\∀(j:Nat) t,fn.params[j]?=some t->Tryz.pinned.checked.prog.wantsStandIn t=false:=by
 obtain rfl:f=8:=NI ((show Tryz.prog.funcNamed "tides/tideslaw.All" = some 8 by kernel_rfl).symm.trans E) |>.symm;obtain rfl:fn=Tryz.f8:=(NI (func8.symm.trans d)).symm;refine⟨by kernel_rfl,λj t z=>?_⟩;rw[Tryz.params8]at z;have h:=Array.mem_of_getElem? z;simp at h;rcases h with rfl|rfl
 ·exact(show Tryz.prog.wantsStandIn 23=false by kernel_rfl)
 ·exact(show Tryz.prog.wantsStandIn 24=false by kernel_rfl)
theorem all_holds:Rows.AllUptoCardSaid:=
 Claim7.holds_tied_plain_at .later [] _ _ _ _ A4c (λ_ h=>by cases h) (by kernel_rfl) (λ_ h=>by cases h) allUpto_row_tie rfl ⟨rfl,rfl⟩ (by kernel_rfl) rfl A4d (by kernel_rfl)
#print axioms all_holds
end
end Go.Proofs.YtodcnkbblippnaaGreatDoor
