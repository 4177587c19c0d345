/- The law Passing returns true for every number that it is given: a point is told as long as its time and its Life together are above the clock (as a row, and its tied card). -/
import Derived.Test.YtodcnkbblippnaaGreatDoorPart15
namespace Go.Proofs.YtodcnkbblippnaaGreatDoor
set_option maxRecDepth 100000
set_option maxHeartbeats 32000000
set_option linter.defProp false
open Go.Proofs.Tryz
section
open Go.ChangeAt Go.ChangeShapes Go.RowKit Go.WideShapes
def PU(os:Os)(W:World)(h:Ff os W)(args:Array Value):laidMetH Tryz.prog Rows.passingRow.laid (W.forCall (λ_ _=>0) ⟨#[],args,[]⟩).memory:=QS os W h args
def PV(os:Os)(started:os.Started)(H:Type)(enc:TypeId×Value->H):
 ReturnsInHanded {} Tryz.checked os 9 .any (λw args=>(Rows.passingSpec.pre enc Tryz.prog Tryz.f9 Rows.passingRow.domain false w args/\laidMetH Tryz.prog Rows.passingRow.laid w)/\sizedMet enc Tryz.prog Tryz.f9 (OpenSpec.ofChange Rows.passingSpec) false w args)
  (Rows.passingSpec.post enc Tryz.prog Tryz.f9 false true false false):=by
 obtain⟨J,d⟩:∃J,Ff os J:=⟨_,rfl⟩;have hm:=PU os J d;refine returnsInHanded_of_change_and (C:=Tryz.checked) (X:=λw _=>laidMetH Tryz.prog Rows.passingRow.laid w) (λ_ _ _ hh h=>h.of_heap hh) Tryz.own started (by kernel_rfl) func9
  (ChangeSpec.witness_at (enc:=enc) (C:=Tryz.checked) (os:=os) (X:=λw _=>laidMetH Tryz.prog Rows.passingRow.laid w) false J #[.int .i64 0,.int .i64 0,.int .i64 0,.int .i64 0] 8 (by unfold Ff at d;subst d;rfl) (by unfold Ff at d;subst d;kernel_rfl) (by unfold Ff at d;subst d;kernel_rfl) (by unfold Ff at d;subst d;kernel_rfl) (by unfold Ff at d;subst d;kernel_rfl) (by unfold Ff at d;subst d;kernel_rfl) (hm _)) ?_
 intro W E args ds gs before z hW _ _ hL _;have y:∀(j:Nat) t v,Tryz.f9.params[j]?=some t->args[j]?=some v->Value.okWide Tryz.prog W .any E t v:=z;have I:=hW;obtain⟨p,q,L,hV,rfl,hfz,hnd⟩:=hW;have Z:DataW.TrodAll enc Tryz.prog W 0 (λ_=>true) true Tryz.f9.params.toList args.toList ds p:=L;rw[Tryz.params9]at Z y;obtain⟨V,vs0,d0,ds0,p0,q0,hargs,rfl,rfl,h0,r0⟩:=trodAll_cons Z;obtain⟨O,vs1,d1,ds1,p1,q1,rfl,rfl,rfl,h1,r1⟩:=trodAll_cons r0;obtain⟨v2,vs2,d2,ds2,p2,q2,rfl,rfl,rfl,h2,r2⟩:=trodAll_cons r1;obtain⟨v3,vs3,d3,ds3,p3,q3,rfl,rfl,rfl,h3,r3⟩:=trodAll_cons r2;obtain⟨rfl,rfl,rfl⟩:=trodAll_nil r3;obtain rfl:args = #[V,O,v2,v3]:=by cases args;simp_all
 obtain⟨rfl,rfl⟩:=trodVars_none hV;obtain⟨U,rfl,rfl,rfl,w0⟩:=open_int underlying3 (y 0 3 V rfl rfl) h0;obtain⟨n1,rfl,rfl,rfl,w1⟩:=open_int underlying3 (y 1 3 O rfl rfl) h1;obtain⟨n2,rfl,rfl,rfl,w2⟩:=open_int underlying3 (y 2 3 v2 rfl rfl) h2;obtain⟨n3,rfl,rfl,rfl,Y⟩:=open_int underlying3 (y 3 3 v3 rfl rfl) h3;simp only[EI]at I;refine(PW W (QT hL) (QU hL) U n1 n2 n3 (HC w0) (HC w1) (HC w2) (HC Y)).mono λe aA ⟨he,hc⟩=>?_;subst he;have hb:Below W.heap.size W aA:=hc.cr (Aw _) λk _ h=>h.elim
 exact⟨_,rfl,[.lit (.int .i64 U),.lit (.int .i64 n1),.lit (.int .i64 n2),.lit (.int .i64 n3)],[],_,[],_,[],I,trodAll_cons_mk (shut_bool underlying4 _) trodAll_mk0,
  trodAll_cons_mk (shut_int underlying3 w0) (trodAll_cons_mk (shut_int underlying3 w1) (trodAll_cons_mk (shut_int underlying3 w2) (trodAll_cons_mk (shut_int underlying3 Y) trodAll_mk0))),rfl,hb.frame _,λh=>by cases h⟩
def Q3:(Rows.passingRow.inPlace==Tryz.pinned.checked.prog.inPlace 9)=true:=by kernel_rfl
def Q2:(Rows.passingRow.unfollowed==Tryz.pinned.checked.prog.unfollowed 9)=true:=by kernel_rfl
def Q1:(Rows.passingRow.recurses==Tryz.pinned.checked.prog.recurses 9)=true:=by kernel_rfl
def Q0:(Rows.passingRow.named==Tryz.pinned.checked.prog.varsNamed 9)=true:=by kernel_rfl
def PZ:(Rows.passingRow.wf (OpenSpec.ofChange Rows.passingSpec)&&laidOutB Tryz.pinned.checked.prog&&mapsRowed Tryz.pinned.checked.prog)=true:=by kernel_rfl
def PY:(Rows.passingRow.lifted==Tryz.pinned.checked.prog.liftsFinal)=true:=by kernel_rfl
def PX:joinedFacts Tryz.pinned.checked.prog 9 Tryz.f9 Rows.passingSpec Rows.passingRow=true:=by
 unfold joinedFacts;simp only[PZ,Q3,Q2,Q1,Q0,PY,Kp]
 kernel_rfl
def PQ:Rows.PassingSaid:=
 OpenClaim.holds_of_wide 9 Tryz.f9 rfl rfl rfl rfl rfl rfl rfl ⟨rfl,rfl,rfl,rfl,rfl⟩ rfl rfl rfl rfl rfl (by kernel_rfl) func9 PX
  (LF (by kernel_rfl)) (by unfold Func.isWrapper;first|(rw[Am (by decide +kernel)];kernel_rfl)|(rw[Ad (by decide +kernel)];exact⟨rfl,rfl⟩))
  (λos started H enc _=>PV os started H enc)
def PR(f:FuncId)(fn:Func)(z:Tryz.pinned.checked.prog.funcNamed "tides/tideskeep.Passing" = some f)(d:Tryz.pinned.checked.prog.funcs[f]?=some fn):
 true=Tryz.pinned.checked.prog.looks []/\∀(j:Nat) t,fn.params[j]?=some t->Tryz.pinned.checked.prog.wantsStandIn t=false:=by
 obtain rfl:f=9:=K5 ((show Tryz.prog.funcNamed "tides/tideskeep.Passing" = some 9 by kernel_rfl).symm.trans z) |>.symm;obtain rfl:fn=Tryz.f9:=(K5 (func9.symm.trans d)).symm;refine⟨by kernel_rfl,λj t y=>?_⟩;rw[Tryz.params9]at y;have h:=Array.mem_of_getElem? y;simp at h;subst h;exact(show Tryz.prog.wantsStandIn 3=false by kernel_rfl)
theorem passing_holds:Rows.PassingCardSaid:=
 Claim7.holds_tied_plain_at .later [] _ _ _ _ PQ (λ_ h=>by cases h) (by kernel_rfl) (λ_ h=>by cases h) passing_row_tie rfl ⟨rfl,rfl⟩ (by kernel_rfl) rfl PR (by kernel_rfl)
#print axioms passing_holds
end
end Go.Proofs.YtodcnkbblippnaaGreatDoor
