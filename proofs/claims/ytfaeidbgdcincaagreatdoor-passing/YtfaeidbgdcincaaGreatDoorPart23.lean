/-
  The statement WritesUptoCardSaid is proved: the law Writes answers true at every set and every script within the statement's bounds.
  Part 23 of 23.
-/
import Derived.Test.YtfaeidbgdcincaaGreatDoorCards
import Derived.Test.YtfaeidbgdcincaaGreatDoorTie
import Derived.Test.YtfaeidbgdcincaaGreatDoorPart22
import Derived.WalkKit
import Derived.ProofKit
import Derived.OpenShut
import Derived.Carry
import Derived.Deep.DeepHandedRow
import Derived.Deep.DeepWitnessRowRef
import Derived.Deep.Slices
import Derived.Lib.LaidTab
import Derived.Stop.LaidErr
/- The law Writes returns true, for every Set and every script of bulk at most 1048576: as a row. -/
namespace Go.Proofs.YtfaeidbgdcincaaGreatDoor
open Go.ChangeShapes Go.WideShapes Go.ChangeAt Go.RowKit
set_option maxRecDepth 100000

theorem Tryz.own : ownKnob Tryz.prog.godebug = none := by kernel_rfl
theorem Tryz.gLet : Tryz.prog.globalNamed "tides/files.letters" = some 0 := by kernel_rfl
theorem Tryz.gPow : Tryz.prog.globalNamed "internal/strconv.uint64pow10" = some 3 := by kernel_rfl
theorem Tryz.tLet : (Tryz.prog.globals[0]?).map (·.type) = some 167 := by kernel_rfl
theorem Tryz.tPow : (Tryz.prog.globals[3]?).map (·.type) = some 243 := by kernel_rfl
theorem Tryz.cellsLet : Tryz.prog.cellsOf 167 = 2 := by kernel_rfl
theorem Tryz.cellsStr : Tryz.prog.cellsOf 9 = 1 := by kernel_rfl
theorem Tryz.cellsPow : Tryz.prog.cellsOf 243 = 20 := by kernel_rfl
theorem Tryz.cellsU64 : Tryz.prog.cellsOf 192 = 1 := by kernel_rfl
theorem Tryz.cellsInt : Tryz.prog.cellsOf 3 = 1 := by kernel_rfl
theorem Tryz.cellsOp : Tryz.prog.cellsOf 34 = 5 := by kernel_rfl
theorem Tryz.cellsSet : Tryz.prog.cellsOf 23 = 4 := by kernel_rfl
theorem Tryz.laidOut : laidOutB Tryz.prog = true := by kernel_rfl

/-- The table of letters: what its second cell holds. -/
theorem letters_cell {fuel : Nat} {w : World} {cs : List Value} {s0 s1 : List UInt8} {p : List MemPlace} (h : DataW.trod (fun _ => ()) Tryz.prog w 0 (fun _ => true) false fuel 167 cs = some (.agg [.lit (.string s0), .lit (.string s1)], p)) : cs[1]? = some (.string ⟨s1.toArray⟩) := by
  cases fuel with
  | zero => simp [DataW.trod] at h
  | succ fuel =>
    simp only [DataW.trod, Tryz.underlying167, Tryz.cellsStr, Tryz.cellsLet, Nat.mul_one] at h
    split at h
    · obtain ⟨xs, hm, hx⟩ := Option.map_eq_some_iff.1 h
      have hxs : xs.map (·.1) = [.lit (.string s0), .lit (.string s1)] := by
        have := congrArg Prod.fst hx
        simpa using this
      obtain ⟨b, hb, hf⟩ := Lib.mapM_at hm 1 1 (by simp)
      obtain ⟨s, hc, rfl, _⟩ := DataW.trod_string Tryz.underlying9 hf
      have h1 : cs[1]? = some (.string s) := by
        have := congrArg (·[0]?) hc
        simpa [List.getElem?_take, List.getElem?_drop] using this
      have h2 : (xs.map (·.1))[1]? = some (DataW.lit (.string s.data.toList)) := by simp [hb]
      rw [hxs] at h2
      simp at h2
      rw [h1, h2]
    · cases h
/-- What the row's list gives. -/
theorem lets_of {W : World} (h : laidMetH Tryz.prog Rows.writesUptoRow.laid W) : Lets W.heap.size W [108] := by
  have h0 : laidMet Tryz.prog Rows.writesUptoRow.laid W := h
  have h3 : laidMet Tryz.prog (("internal/strconv.uint64pow10", Lib.tabData .u64 Lib.pow10Tab) :: [("strconv.ErrRange", Rows.laid_strconv_ErrRange), ("strconv.ErrSyntax", Rows.laid_strconv_ErrSyntax), ("tides/files.letters", Rows.laid_tides_files_letters)]) W := laidMet.tail (laidMet.tail h0)
  have hp : Lib.TabIs Tryz.prog W "internal/strconv.uint64pow10" .u64 Lib.pow10Tab := Lib.tabIs_of_head Tryz.gPow Tryz.tPow Tryz.underlying243 Tryz.underlying192 Tryz.cellsU64 Tryz.cellsPow h3
  have h6 : laidMet Tryz.prog [("tides/files.letters", Rows.laid_tides_files_letters)] W := laidMet.tail (laidMet.tail (laidMet.tail h3))
  obtain ⟨ps, ⟨g', t', cs, fuel, p, q, hg', ht', hvar, hd, _, _⟩, _⟩ := h6
  obtain rfl := Option.some.inj (Tryz.gLet.symm.trans hg')
  obtain rfl := Option.some.inj (Tryz.tLet.symm.trans ht')
  have hl := letters_cell hd
  have hlc : W.cell? ⟨0, 1, none⟩ = some (.string ⟨[(108 : UInt8)].toArray⟩) := by
    rw [World.var?_cell Tryz.gLet hvar 1]
    simpa using hl
  have hlb := World.block_lt_of_cell? W _ hlc
  have hpc := hp.cell Tryz.gPow 0 (by decide)
  have hpb := World.block_lt_of_cell? W _ hpc
  refine ⟨by decide, Nat.le_refl _, fun w' hb => ⟨?_, ?_⟩⟩
  · rw [← hlc]; exact hb.cell hlb
  · unfold Lib.TabIs at hp ⊢
    rw [← hp]
    unfold World.var?
    rw [Tryz.gPow]
    simp only [Option.bind_some]
    rw [hb.block _ hpb]
theorem wf_In64 {z : Int} (h : (Lit.int .i64 z).wf = true) : In64 z := by
  simp [Lit.wf] at h
  have e : IntKind.i64.min = -9223372036854775808 := rfl
  rw [e] at h
  exact h
theorem bulk_len {H : Type} (l : List (DataW H)) : l.length ≤ Rows.uptoBulkAll l := by
  induction l with
  | nil => simp
  | cons x r ih =>
    have : 1 ≤ Rows.uptoBulk x := by
      cases x with
      | lit l => cases l <;> simp [Rows.uptoBulk]
      | nil => simp [Rows.uptoBulk]
      | ptr d => simp [Rows.uptoBulk]
      | slice elems spare => simp [Rows.uptoBulk]
      | agg parts => simp [Rows.uptoBulk]
      | iface t d => simp [Rows.uptoBulk]
      | map entries => simp [Rows.uptoBulk]
      | held h => simp [Rows.uptoBulk]
    simp only [Rows.uptoBulkAll, List.length_cons]; omega
section
variable {H : Type} {enc : TypeId × Value → H} {W : World} {sp : Nat → Bool} {fuel : Nat}
/-- One step of a script, read. -/
theorem op_cells {cs : List Value} {x : DataW H × List MemPlace} (h : DataW.trod enc Tryz.prog W 0 sp true fuel 34 cs = some x) :
    ∃ kd a b c tv, cs = [.int .i64 kd, .int .i64 a, .int .i64 b, .int .i64 c, tv] ∧ In64 a ∧ In64 b ∧ In64 c := by
  obtain ⟨xs, n, rfl, -, hl, hx, hf⟩ := DataW.trod_struct Tryz.underlying34 h
  rw [Tryz.cellsOp] at hl
  have hx5 : xs.length = 5 := hx
  match cs, hl with
  | [c0, c1, c2, c3, c4], _ =>
  have f0 : DataW.trod enc Tryz.prog W 0 sp true n 3 (([c0, c1, c2, c3, c4].drop 0).take (Tryz.prog.cellsOf 3)) = xs[0]? := hf 0 _ rfl
  have f1 : DataW.trod enc Tryz.prog W 0 sp true n 3 (([c0, c1, c2, c3, c4].drop 1).take (Tryz.prog.cellsOf 3)) = xs[1]? := hf 1 _ rfl
  have f2 : DataW.trod enc Tryz.prog W 0 sp true n 3 (([c0, c1, c2, c3, c4].drop 2).take (Tryz.prog.cellsOf 3)) = xs[2]? := hf 2 _ rfl
  have f3 : DataW.trod enc Tryz.prog W 0 sp true n 3 (([c0, c1, c2, c3, c4].drop 3).take (Tryz.prog.cellsOf 3)) = xs[3]? := hf 3 _ rfl
  rw [Tryz.cellsInt] at f0 f1 f2 f3
  rw [List.getElem?_eq_getElem (by omega)] at f0 f1 f2 f3
  obtain ⟨kd, e0, -, -⟩ := DataW.trod_int Tryz.underlying3 f0
  obtain ⟨a, e1, -, w1⟩ := DataW.trod_int Tryz.underlying3 f1
  obtain ⟨b, e2, -, w2⟩ := DataW.trod_int Tryz.underlying3 f2
  obtain ⟨c, e3, -, w3⟩ := DataW.trod_int Tryz.underlying3 f3
  obtain rfl : c0 = .int .i64 kd := (List.cons.inj (show [c0] = [.int .i64 kd] from e0)).1
  obtain rfl : c1 = .int .i64 a := (List.cons.inj (show [c1] = [.int .i64 a] from e1)).1
  obtain rfl : c2 = .int .i64 b := (List.cons.inj (show [c2] = [.int .i64 b] from e2)).1
  obtain rfl : c3 = .int .i64 c := (List.cons.inj (show [c3] = [.int .i64 c] from e3)).1
  exact ⟨kd, a, b, c, c4, rfl, wf_In64 w1, wf_In64 w2, wf_In64 w3⟩
theorem set_cells {cs : List Value} {x : DataW H × List MemPlace} (h : DataW.trod enc Tryz.prog W 0 sp true fuel 23 cs = some x) :
    ∃ life window room clock, cs = [.int .i64 life, .int .i64 window, .int .i64 room, .int .i64 clock] ∧ In64 clock := by
  obtain ⟨xs, n, rfl, -, hl, hx, hf⟩ := DataW.trod_struct Tryz.underlying23 h
  rw [Tryz.cellsSet] at hl
  have hx4 : xs.length = 4 := hx
  match cs, hl with
  | [c0, c1, c2, c3], _ =>
  have f0 : DataW.trod enc Tryz.prog W 0 sp true n 3 (([c0, c1, c2, c3].drop 0).take (Tryz.prog.cellsOf 3)) = xs[0]? := hf 0 _ rfl
  have f1 : DataW.trod enc Tryz.prog W 0 sp true n 3 (([c0, c1, c2, c3].drop 1).take (Tryz.prog.cellsOf 3)) = xs[1]? := hf 1 _ rfl
  have f2 : DataW.trod enc Tryz.prog W 0 sp true n 3 (([c0, c1, c2, c3].drop 2).take (Tryz.prog.cellsOf 3)) = xs[2]? := hf 2 _ rfl
  have f3 : DataW.trod enc Tryz.prog W 0 sp true n 3 (([c0, c1, c2, c3].drop 3).take (Tryz.prog.cellsOf 3)) = xs[3]? := hf 3 _ rfl
  rw [Tryz.cellsInt] at f0 f1 f2 f3
  rw [List.getElem?_eq_getElem (by omega)] at f0 f1 f2 f3
  obtain ⟨a, e0, -, -⟩ := DataW.trod_int Tryz.underlying3 f0
  obtain ⟨b, e1, -, w1⟩ := DataW.trod_int Tryz.underlying3 f1
  obtain ⟨c, e2, -, w2⟩ := DataW.trod_int Tryz.underlying3 f2
  obtain ⟨d, e3, -, w3⟩ := DataW.trod_int Tryz.underlying3 f3
  obtain rfl : c0 = .int .i64 a := (List.cons.inj (show [c0] = [.int .i64 a] from e0)).1
  obtain rfl : c1 = .int .i64 b := (List.cons.inj (show [c1] = [.int .i64 b] from e1)).1
  obtain rfl : c2 = .int .i64 c := (List.cons.inj (show [c2] = [.int .i64 c] from e2)).1
  obtain rfl : c3 = .int .i64 d := (List.cons.inj (show [c3] = [.int .i64 d] from e3)).1
  exact ⟨a, b, c, d, rfl, wf_In64 w3⟩
/-- A script, read. -/
theorem script_of {v : Value} {d : DataW H} {ps : List MemPlace} (hv : ∃ a len cap, v = .slice a len cap) (h : DataW.Trod enc Tryz.prog W 0 (fun _ => true) true 24 v d ps) (hd : Rows.uptoBulk d ≤ 1048576) :
    ∃ g o n cap, ScrAt W g o n ∧ n ≤ 1048576 ∧ (n ≠ 0 → g < W.heap.size) ∧ (v = .slice (some ⟨g, o, none⟩) n cap ∨ (n = 0 ∧ ∃ x, v = .slice x 0 cap)) := by
  obtain ⟨ad, ln, cp, rfl⟩ := hv
  obtain ⟨fuel, h⟩ := h
  rcases Deep.open_slice Tryz.underlying24 h with ⟨hcs, -⟩ | ⟨a, len, cap, m, n, E, Pl, hcs, -, hlc, -, hm, hx, hel⟩
  · simp [Value.cells] at hcs
    obtain ⟨rfl, rfl, rfl⟩ := hcs
    exact ⟨0, 0, 0, 0, fun i hi => absurd hi (Nat.not_lt_zero _), by decide, fun h => absurd rfl h, .inr ⟨rfl, none, rfl⟩⟩
  · simp [Value.cells] at hcs
    obtain ⟨rfl, rfl, rfl⟩ := hcs
    rw [Tryz.cellsOp] at hel
    have hdl : ln ≤ 1048576 := by
      have e : d = .slice ((List.range ln).map E) ((List.range (m - ln)).map fun j => E (ln + j)) := congrArg Prod.fst hx
      rw [e] at hd
      simp only [Rows.uptoBulk] at hd
      have := bulk_len ((List.range ln).map E)
      simp at this
      omega
    by_cases h0 : ln = 0
    · subst h0
      exact ⟨0, 0, 0, cp, fun i hi => absurd hi (Nat.not_lt_zero _), by decide, fun h => absurd rfl h, .inr ⟨rfl, some a, rfl⟩⟩
    · have key : ∀ i, i < ln → ∃ kd x y z tv, In64 x ∧ In64 y ∧ In64 z ∧ W.cell? ((a.add (i * 5)).add 0) = some (.int .i64 kd) ∧ W.cell? ((a.add (i * 5)).add 1) = some (.int .i64 x) ∧ W.cell? ((a.add (i * 5)).add 2) = some (.int .i64 y) ∧ W.cell? ((a.add (i * 5)).add 3) = some (.int .i64 z) ∧ W.cell? ((a.add (i * 5)).add 4) = some tv := fun i hi => by
        obtain ⟨cs', hc, ht⟩ := hel i (by rw [hm]; split <;> omega)
        obtain ⟨-, -, hcell⟩ := World.cells?_some hc
        obtain ⟨kd, x, y, z, tv, rfl, ix, iy, iz⟩ := op_cells ht
        exact ⟨kd, x, y, z, tv, ix, iy, iz, hcell 0 (by decide), hcell 1 (by decide), hcell 2 (by decide), hcell 3 (by decide), hcell 4 (by decide)⟩
      obtain ⟨g, o, spot⟩ := a
      obtain ⟨kd, _, _, _, _, -, -, -, k0, -⟩ := key 0 (by omega)
      have hsp : spot = none := by
        cases spot with
        | none => rfl
        | some s =>
          simp [Addr.add, World.cell?] at k0
          split at k0 <;> cases k0
      subst hsp
      have hg : g < W.heap.size := by
        have := World.block_lt_of_cell? W _ k0
        simpa [Addr.add] using this
      refine ⟨g, o, ln, cp, fun i hi => ?_, hdl, fun _ => hg, .inl rfl⟩
      obtain ⟨kd, x, y, z, tv, ix, iy, iz, s0, s1, s2, s3, s4⟩ := key i hi
      have ha : ∀ j, ((⟨g, o, none⟩ : Addr).add (i * 5)).add j = ⟨g, o + i * 5 + j, none⟩ := fun j => by
        unfold Addr.add
        by_cases h1 : i * 5 = 0 <;> by_cases h2 : j = 0 <;> simp [h1, h2]
      rw [ha] at s0 s1 s2 s3 s4
      exact ⟨kd, x, y, z, tv, ix, iy, iz, s0, s1, s2, s3, s4⟩
end
theorem one_num : NumOk 1 := ⟨by decide, by decide, by decide +kernel⟩
theorem one_name : nameL [108] 1 ≠ [] := by simp [nameL]
/-- What the walks give, for every argument and every world that holds the tables. -/
theorem writes_contract (H : Type) (enc : TypeId × Value → H) (W : World) (base : Nat) (args : Array Value) (ds gs : List (DataW H)) (before : List MemPlace)
    (hval : ∀ (j : Nat) t v, Tryz.f3.params[j]? = some t → args[j]? = some v → Value.okWide Tryz.prog W .any base t v)
    (hW : DataW.Whole enc Tryz.prog Tryz.f3.params.toList Rows.writesSpec.vars false W args.toList ds gs before) (hL : laidMetH Tryz.prog Rows.writesUptoRow.laid W) (hk : Rows.uptoSmall H (ds ++ gs) = true) :
    Calls Tryz.prog 3 args W fun e W' => ∃ v, e = .returned v ∧ Rows.writesSpec.post enc Tryz.prog Tryz.f3 false true false false W args v W' := by
  have hW' := hW
  obtain ⟨p, q, hA0, hV, rfl, hfz, hnd⟩ := hW
  have hA : DataW.TrodAll enc Tryz.prog W 0 (fun _ => true) true Tryz.f3.params.toList args.toList ds p := hA0
  rw [Tryz.params3] at hA hval
  obtain ⟨v0, vs0, d0, ds0, p0, q0, hargs, rfl, rfl, h0, r0⟩ := trodAll_cons hA
  obtain ⟨v1, vs1, d1, ds1, p1, q1, rfl, rfl, rfl, h1, r1⟩ := trodAll_cons r0
  obtain ⟨rfl, rfl, rfl⟩ := trodAll_nil r1
  obtain rfl : args = #[v0, v1] := by cases args; simp_all
  obtain ⟨rfl, rfl⟩ := trodVars_none hV
  have hb : Rows.uptoBulk d1 ≤ 1048576 := by
    have h := of_decide_eq_true hk
    simp only [List.append_nil, Rows.uptoBulkAll] at h
    omega
  have o0 := hval 0 23 v0 rfl rfl
  have o1 := hval 1 24 v1 rfl rfl
  obtain ⟨cs, rfl, hcs⟩ := okWide_struct Tryz.underlying23 o0
  have h0k := h0
  have h1k := h1
  obtain ⟨fuel, h0⟩ := h0
  obtain ⟨life, window, room, clock, hcl, hck⟩ := set_cells h0
  have hcs2 : cs = #[.int .i64 life, .int .i64 window, .int .i64 room, .int .i64 clock] := by
    apply Array.ext'
    simpa [Value.cells] using hcl
  subst hcs2
  obtain ⟨g, o, n, cap, hS, hn, hg, hsv⟩ := script_of (okWide_slice Tryz.underlying24 o1) h1 hb
  simp only [List.append_nil] at hW'
  refine (writes_law W life window room clock cap hS hn hg (lets_of hL) one_num one_name hck v1 hsv).mono fun e W' ⟨he, hc⟩ => ?_
  subst he
  have hbl : Below W.heap.size W W' := hc.below (Nat.le_refl _) fun k hk h => by unfold Up at h; omega
  have lt0 : ∀ x ∈ p0, x.block < W.heap.size := fun x hx => by simpa using hW'.lt x (by simp [hx])
  have lt1 : ∀ x ∈ p1, x.block < W.heap.size := fun x hx => by simpa using hW'.lt x (by simp [hx])
  exact ⟨_, rfl, [d0, d1], [], p0 ++ p1, [], p0 ++ p1, [], hW', trodAll_cons_mk (shut_bool Tryz.underlying4 _) trodAll_mk0,
    trodAll_mk2 (Below.trod Tryz.laidOut (by kernel_rfl) (of_decide_eq_true (by kernel_rfl)) h0k hbl lt0) (Below.trod Tryz.laidOut (by kernel_rfl) (of_decide_eq_true (by kernel_rfl)) h1k hbl lt1), rfl, hbl.frame _, fun h => by cases h⟩

/-! A world for the witness: the settled one, the listed variables holding what their initialisers lay. -/
abbrev synS : ByteArray := { data := #[105, 110, 118, 97, 108, 105, 100, 32, 115, 121, 110, 116, 97, 120] }
abbrev rngS : ByteArray := { data := #[118, 97, 108, 117, 101, 32, 111, 117, 116, 32, 111, 102, 32, 114, 97, 110, 103, 101] }
def put0 (v : Array Value) : Obj → Obj
  | .cells _ t frozen => .cells v t frozen
  | o => o
def IsLaid (os : Os) (W : World) : Prop := W =
  let w0 := World.holding Tryz.prog os ⟨#[.cells #[.string synS] 234, .cells #[.string rngS] 234], #[], []⟩
  let h0 := w0.heap
  let h1 := h0.modify 0 (put0 #[.string ⟨#[]⟩, .string ⟨#[108]⟩])
  let h2 := h1.modify 1 (put0 #[.iface 232 (.pointer (some ⟨(World.holding Tryz.prog default ⟨#[], #[], []⟩).heap.size, 0, none⟩))])
  let h3 := h2.modify 2 (put0 #[.iface 232 (.pointer (some ⟨(World.holding Tryz.prog default ⟨#[], #[], []⟩).heap.size + 1, 0, none⟩))])
  let h4 := h3.modify 3 (put0 #[.int .u64 1, .int .u64 10, .int .u64 100, .int .u64 1000, .int .u64 10000, .int .u64 100000, .int .u64 1000000, .int .u64 10000000, .int .u64 100000000, .int .u64 1000000000, .int .u64 10000000000, .int .u64 100000000000, .int .u64 1000000000000, .int .u64 10000000000000, .int .u64 100000000000000, .int .u64 1000000000000000, .int .u64 10000000000000000, .int .u64 100000000000000000, .int .u64 1000000000000000000, .int .u64 10000000000000000000])
  let h5 := h4.modify 5 (put0 #[.int .u8 0, .int .u8 1, .int .u8 28, .int .u8 2, .int .u8 29, .int .u8 14, .int .u8 24, .int .u8 3, .int .u8 30, .int .u8 22, .int .u8 20, .int .u8 15, .int .u8 25, .int .u8 17, .int .u8 4, .int .u8 8, .int .u8 31, .int .u8 27, .int .u8 13, .int .u8 23, .int .u8 21, .int .u8 19, .int .u8 16, .int .u8 7, .int .u8 26, .int .u8 12, .int .u8 18, .int .u8 6, .int .u8 11, .int .u8 5, .int .u8 10, .int .u8 9])
  let h6 := h5.modify 6 (put0 #[.int .u8 0, .int .u8 1, .int .u8 56, .int .u8 2, .int .u8 57, .int .u8 49, .int .u8 28, .int .u8 3, .int .u8 61, .int .u8 58, .int .u8 42, .int .u8 50, .int .u8 38, .int .u8 29, .int .u8 17, .int .u8 4, .int .u8 62, .int .u8 47, .int .u8 59, .int .u8 36, .int .u8 45, .int .u8 43, .int .u8 51, .int .u8 22, .int .u8 53, .int .u8 39, .int .u8 33, .int .u8 30, .int .u8 24, .int .u8 18, .int .u8 12, .int .u8 5, .int .u8 63, .int .u8 55, .int .u8 48, .int .u8 27, .int .u8 60, .int .u8 41, .int .u8 37, .int .u8 16, .int .u8 46, .int .u8 35, .int .u8 44, .int .u8 21, .int .u8 52, .int .u8 32, .int .u8 23, .int .u8 11, .int .u8 54, .int .u8 26, .int .u8 40, .int .u8 15, .int .u8 34, .int .u8 20, .int .u8 31, .int .u8 10, .int .u8 25, .int .u8 14, .int .u8 19, .int .u8 9, .int .u8 13, .int .u8 8, .int .u8 7, .int .u8 6])
  { w0 with heap := h6 }
theorem laid_met (os : Os) (W : World) (h : IsLaid os W) (args : Array Value) : laidMet Tryz.prog Rows.writesUptoRow.laid (W.forCall (fun _ _ => 0) ⟨#[], args, []⟩).memory := by
  unfold IsLaid at h
  subst h
  exact laidMet_of_run' 8 (by kernel_rfl) (by kernel_rfl)
abbrev wArgs : Array Value := #[.agg #[.int .i64 1, .int .i64 1, .int .i64 0, .int .i64 0], .slice none 0 0]
theorem reads (os : Os) (W : World) (h : IsLaid os W) {H : Type} (enc : TypeId × Value → H) : ∃ places, DataW.whole enc Tryz.prog (W.forCall (fun _ _ => 0) ⟨#[], wArgs, []⟩).memory Tryz.f3.params.toList Rows.writesSpec.vars false wArgs.toList 8 = some ([.agg [.lit (.int .i64 1), .lit (.int .i64 1), .lit (.int .i64 0), .lit (.int .i64 0)], .nil], [], places) := by
  unfold IsLaid at h
  subst h
  exact ⟨[], by kernel_rfl⟩
theorem writes_lifted (os : Os) (started : os.Started) (H : Type) (enc : TypeId × Value → H) (F : Stop.Interp) :
    ReturnsInHanded {} Tryz.checked os 3 .any ((Rows.OpenSpec.upto Rows.writesSpec).preRow enc Tryz.prog Tryz.f3 Rows.writesUptoRow.domain false Rows.writesUptoRow.laid) (((Rows.OpenSpec.upto Rows.writesSpec).at F).post enc Tryz.prog Tryz.f3 false true false false) := by
  obtain ⟨W0, hW0⟩ : ∃ W0, IsLaid os W0 := ⟨_, rfl⟩
  obtain ⟨places, hx⟩ := reads os W0 hW0 enc
  have hm := laid_met os W0 hW0
  refine returnsInHanded_of_row (C := Tryz.checked) (s := Rows.OpenSpec.upto Rows.writesSpec) Tryz.own started (by kernel_rfl) Tryz.func3
    (witness_row_at (enc := enc) (C := Tryz.checked) false W0 wArgs (by unfold IsLaid at hW0; subst hW0; rfl) (by unfold IsLaid at hW0; subst hW0; kernel_rfl) (by unfold IsLaid at hW0; subst hW0; kernel_rfl) (by unfold IsLaid at hW0; subst hW0; kernel_rfl)
      (OpenSpec.preRow_of_cond 8 hx (by kernel_rfl) (fun k hk => by cases hk; kernel_rfl) (by kernel_rfl) (hm _))) ?_
  intro W base args ds gs before hval hW _ hcond _ hL _ _
  exact writes_contract H enc W base args ds gs before hval hW hL (hcond _ rfl)
theorem writes_said : Rows.WritesUptoSaid :=
  OpenClaim.holds_of_cond 3 Tryz.f3 rfl rfl rfl rfl rfl rfl rfl ⟨rfl, rfl, rfl, rfl, rfl⟩ rfl rfl rfl rfl rfl (by kernel_rfl) Tryz.func3 (by kernel_rfl)
    (of_decide_eq_true (by kernel_rfl)) (by unfold Func.isWrapper; first | (rw [if_pos (by decide +kernel)]; kernel_rfl) | (rw [if_neg (by decide +kernel)]; exact ⟨rfl, rfl⟩))
    (fun os started H enc _ F => by rw [OpenClaim.pre_eq_preRow]; exact writes_lifted os started H enc F)
/-- No parameter wants a stand-in; the program's own looks are on. -/
theorem writes_plain (f : FuncId) (fn : Func) (hf : Tryz.pinned.checked.prog.funcNamed "tides/tideslaw.Writes" = some f) (hfn : Tryz.pinned.checked.prog.funcs[f]? = some fn) :
    true = Tryz.pinned.checked.prog.looks [] ∧ ∀ (j : Nat) t, fn.params[j]? = some t → Tryz.pinned.checked.prog.wantsStandIn t = false := by
  obtain rfl : f = 3 := Option.some.inj ((show Tryz.prog.funcNamed "tides/tideslaw.Writes" = some 3 by kernel_rfl).symm.trans hf) |>.symm
  obtain rfl : fn = Tryz.f3 := (Option.some.inj (Tryz.func3.symm.trans hfn)).symm
  refine ⟨by kernel_rfl, fun j t ht => ?_⟩
  rw [Tryz.params3] at ht
  have hm := Array.mem_of_getElem? ht
  simp at hm
  rcases hm with rfl | rfl
  · exact (show Tryz.prog.wantsStandIn 23 = false by kernel_rfl)
  · exact (show Tryz.prog.wantsStandIn 24 = false by kernel_rfl)
/-- The given statement. -/
theorem writes_holds : Rows.WritesUptoCardSaid :=
  Claim7.holds_tied_plain_at .later [] _ _ _ _ writes_said (fun _ h => by cases h) (by kernel_rfl) (fun _ h => by cases h) writesUpto_row_tie rfl ⟨rfl, rfl⟩ (by kernel_rfl) rfl writes_plain (by kernel_rfl)
#print axioms writes_holds
end Go.Proofs.YtfaeidbgdcincaaGreatDoor
