/-
  The statement WritesUptoCardSaid is proved: the law Writes answers true for every setting and every script of at most 1048576 bytes; there is no other condition.
  Part 33 of 33.
-/
import Derived.Test.YtodcnkbblippnaaGreatDoorPart31
import Derived.Test.YtodcnkbblippnaaGreatDoorPart32
namespace Go.Proofs.YtodcnkbblippnaaGreatDoor
open Go.ChangeShapes Go.WideShapes Go.ChangeAt Go.RowKit
set_option maxRecDepth 100000
theorem A5H (H:Type) (enc:TypeId × Value→H) (W:World) (base:Nat) (args:Array Value) (ds gs:List (DataW H)) (before:List MemPlace)
 (hval:∀ (j:Nat) t v,Tryz.f3.params[j]?=some t→args[j]?=some v→Value.okWide Tryz.prog W .any base t v)
 (hW:DataW.Whole enc Tryz.prog Tryz.f3.params.toList Rows.writesSpec.vars false W args.toList ds gs before) (hL:laidMetH Tryz.prog Rows.writesUptoRow.laid W) (hk:Rows.uptoSmall H (ds ++ gs)=true):
 Calls Tryz.prog 3 args W fun e W'=>∃ v,e=.returned v∧Rows.writesSpec.post enc Tryz.prog Tryz.f3 false true false false W args v W':=by
 have hW':=hW
 obtain ⟨p,q,hA0,hV,rfl,hfz,hnd⟩:=hW
 have hA:DataW.TrodAll enc Tryz.prog W 0 (fun _=>true) true Tryz.f3.params.toList args.toList ds p:=hA0
 rw [Tryz.params3] at hA hval
 obtain ⟨v0,vs0,d0,ds0,p0,q0,hargs,rfl,rfl,h0,r0⟩:=trodAll_cons hA
 obtain ⟨v1,vs1,d1,ds1,p1,q1,rfl,rfl,rfl,h1,r1⟩:=trodAll_cons r0
 obtain ⟨rfl,rfl,rfl⟩:=trodAll_nil r1
 obtain rfl:args = #[v0,v1]:=by cases args;simp_all
 obtain ⟨rfl,rfl⟩:=trodVars_none hV
 have hb:Rows.uptoBulk d1≤1048576:=by
  have h:=of_decide_eq_true hk
  simp only [List.append_nil,Rows.uptoBulkAll] at h
  omega
 have o0:=hval 0 23 v0 rfl rfl
 have o1:=hval 1 24 v1 rfl rfl
 obtain ⟨cs,rfl,hcs⟩:=okWide_struct Tryz.underlying23 o0
 have h0k:=h0
 have h1k:=h1
 obtain ⟨fuel,h0⟩:=h0
 obtain ⟨life,window,room,clock,hcl,hck⟩:=B1t h0
 have hcs2:cs = #[.int .i64 life,.int .i64 window,.int .i64 room,.int .i64 clock]:=by
  apply Array.ext'
  simpa [Value.cells] using hcl
 subst hcs2
 obtain ⟨g,o,n,cap,hS,hn,hg,hsv⟩:=B2I (okWide_slice Tryz.underlying24 o1) h1 hb
 simp only [List.append_nil] at hW'
 refine (A9i B4o (by omega) (by omega) W life window room clock cap hS hn hg (B4h hL) hck v1 hsv).mono fun e W' ⟨he,hc⟩=>?_
 subst he
 have hbl:Below W.heap.size W W':=hc.below (Nat.le_refl _) fun k hk h=>by unfold Up at h;omega
 have lt0:∀ x∈p0,x.block<W.heap.size:=fun x hx=>by simpa using hW'.lt x (by simp [hx])
 have lt1:∀ x∈p1,x.block<W.heap.size:=fun x hx=>by simpa using hW'.lt x (by simp [hx])
 exact ⟨_,rfl,[d0,d1],[],p0 ++ p1,[],p0 ++ p1,[],hW',trodAll_cons_mk (shut_bool Tryz.underlying4 _) trodAll_mk0,
  trodAll_mk2 (Below.trod Tryz.laidOut (by kernel_rfl) (of_decide_eq_true (by kernel_rfl)) h0k hbl lt0) (Below.trod Tryz.laidOut (by kernel_rfl) (of_decide_eq_true (by kernel_rfl)) h1k hbl lt1),rfl,hbl.frame _,fun h=>by cases h⟩
abbrev B4F:Array Value:=#[.agg #[.int .i64 1,.int .i64 1,.int .i64 0,.int .i64 0],.slice none 0 0]
theorem B5N (os:Os) (W:World) (h:A4t os W) {H:Type} (enc:TypeId × Value→H):∃ places,DataW.whole enc Tryz.prog (W.forCall (fun _ _=>0) ⟨#[],B4F,[]⟩).memory Tryz.f3.params.toList Rows.writesSpec.vars false B4F.toList 8=some ([.agg [.lit (.int .i64 1),.lit (.int .i64 1),.lit (.int .i64 0),.lit (.int .i64 0)],.nil],[],places):=by
 unfold A4t at h
 subst h
 exact ⟨[],by kernel_rfl⟩
theorem A7C (os:Os) (started:os.Started) (H:Type) (enc:TypeId × Value→H) (F:Stop.Interp):
 ReturnsInHanded {} Tryz.checked os 3 .any ((Rows.OpenSpec.upto Rows.writesSpec).preRow enc Tryz.prog Tryz.f3 Rows.writesUptoRow.domain false Rows.writesUptoRow.laid) (((Rows.OpenSpec.upto Rows.writesSpec).at F).post enc Tryz.prog Tryz.f3 false true false false):=by
 obtain ⟨W0,hW0⟩:∃ W0,A4t os W0:=⟨_,rfl⟩
 obtain ⟨places,hx⟩:=B5N os W0 hW0 enc
 have hm:=B4r os W0 hW0
 refine returnsInHanded_of_row (C:=Tryz.checked) (s:=Rows.OpenSpec.upto Rows.writesSpec) Tryz.own started (by kernel_rfl) Tryz.func3
  (witness_row_at (enc:=enc) (C:=Tryz.checked) false W0 B4F (by unfold A4t at hW0;subst hW0;rfl) (by unfold A4t at hW0;subst hW0;kernel_rfl) (by unfold A4t at hW0;subst hW0;kernel_rfl) (by unfold A4t at hW0;subst hW0;kernel_rfl)
   (OpenSpec.preRow_of_cond 8 hx (by kernel_rfl) (fun k hk=>by cases hk;kernel_rfl) (by kernel_rfl) (hm _))) ?_
 intro W base args ds gs before hval hW _ hcond _ hL _ _
 exact A5H H enc W base args ds gs before hval hW hL (hcond _ rfl)
theorem W0j1 : (Rows.writesUptoRow.inPlace == Tryz.pinned.checked.prog.inPlace 3) = true := by kernel_rfl
theorem W0j2 : (Rows.writesUptoRow.unfollowed == Tryz.pinned.checked.prog.unfollowed 3) = true := by kernel_rfl
theorem W0j3 : (Rows.writesUptoRow.recurses == Tryz.pinned.checked.prog.recurses 3) = true := by kernel_rfl
theorem W0j4 : (Rows.writesUptoRow.named == Tryz.pinned.checked.prog.varsNamed 3) = true := by kernel_rfl
theorem W0j5 : (Rows.writesUptoRow.wf (OpenSpec.ofChange (Rows.OpenSpec.upto Rows.writesSpec).bare) && laidOutB Tryz.pinned.checked.prog && mapsRowed Tryz.pinned.checked.prog) = true := by kernel_rfl
theorem W0j6 : (Rows.writesUptoRow.lifted == Tryz.pinned.checked.prog.liftsFinal) = true := by kernel_rfl
theorem W0j7 : joinedFacts Tryz.pinned.checked.prog 3 Tryz.f3 (Rows.OpenSpec.upto Rows.writesSpec).bare Rows.writesUptoRow = true := by
 unfold joinedFacts
 simp only [W0j5, W0j1, W0j2, W0j3, W0j4, W0j6, Bool.true_and]
 kernel_rfl
theorem A9r:Rows.WritesUptoSaid:=
 OpenClaim.holds_of_cond 3 Tryz.f3 rfl rfl rfl rfl rfl rfl rfl ⟨rfl,rfl,rfl,rfl,rfl⟩ rfl rfl rfl rfl rfl (by kernel_rfl) Tryz.func3 W0j7
  (of_decide_eq_true (by kernel_rfl)) (by unfold Func.isWrapper;first | (rw [if_pos (by decide +kernel)];kernel_rfl) | (rw [if_neg (by decide +kernel)];exact ⟨rfl,rfl⟩))
  (fun os started H enc _ F=>by rw [OpenClaim.pre_eq_preRow];exact A7C os started H enc F)
theorem A7Y (f:FuncId) (fn:Func) (hf:Tryz.pinned.checked.prog.funcNamed "tides/tideslaw.Writes" = some f) (hfn:Tryz.pinned.checked.prog.funcs[f]?=some fn):
 true=Tryz.pinned.checked.prog.looks []∧∀ (j:Nat) t,fn.params[j]?=some t→Tryz.pinned.checked.prog.wantsStandIn t=false:=by
 obtain rfl:f=3:=Option.some.inj ((show Tryz.prog.funcNamed "tides/tideslaw.Writes" = some 3 by kernel_rfl).symm.trans hf) |>.symm
 obtain rfl:fn=Tryz.f3:=(Option.some.inj (Tryz.func3.symm.trans hfn)).symm
 refine ⟨by kernel_rfl,fun j t ht=>?_⟩
 rw [Tryz.params3] at ht
 have hm:=Array.mem_of_getElem? ht
 simp at hm
 rcases hm with rfl | rfl
 ·exact (show Tryz.prog.wantsStandIn 23=false by kernel_rfl)
 ·exact (show Tryz.prog.wantsStandIn 24=false by kernel_rfl)
theorem writes_holds:Rows.WritesUptoCardSaid:=
 Claim7.holds_tied_plain_at .later [] _ _ _ _ A9r (fun _ h=>by cases h) (by kernel_rfl) (fun _ h=>by cases h) writesUpto_row_tie rfl ⟨rfl,rfl⟩ (by kernel_rfl) rfl A7Y (by kernel_rfl)
#print axioms writes_holds
end Go.Proofs.YtodcnkbblippnaaGreatDoor
