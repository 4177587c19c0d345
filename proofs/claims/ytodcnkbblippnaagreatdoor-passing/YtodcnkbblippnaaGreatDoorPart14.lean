/-
  The statement PassingCardSaid is proved: the law Passing answers true, at every four numbers; there is no condition.
  Part 14 of 34.
-/
import Derived.Test.YtodcnkbblippnaaGreatDoorPart13
/- Walks: a file of one piece is read: read; numbers out of bytes: intsOf. -/
namespace Go.Proofs.YtodcnkbblippnaaGreatDoor
open Go.RowKit

theorem all_le {P : PD} {a c m : Nat} (h : Fit P a c m) (nm : Bs) : (P.all nm).1.length ≤ m := by
  unfold PD.all allN
  cases hx : lookup P.D.dir (nmB nm) with
  | none => simp
  | some f => exact h.len f (lookup_ids hx)
section
variable {w : World} {b : Nat} {P : PD} {Ft : Nat → Prop} {a c m : Nat}
set_option maxRecDepth 100000 in
set_option maxHeartbeats 2000000 in
theorem readD (nm : Bs) (h : DkAt w b P Ft) (hlt : ∀ k, Ft k → k < w.heap.size) (hF : Fit P a c m) (hl : Lim a c m) :
    Calls Tryz.prog 126 #[.agg #[.pointer (some ⟨b, 0, none⟩), .string ⟨nm.toArray⟩, .int .u32 (sum0 nm)]] w fun e w' => e = .returned (.tuple #[.string ⟨(P.read nm).1.toArray⟩, .int .i64 (P.read nm).2]) ∧ Chg (fun _ => False) w w' := by
  have hal := all_le hF nm
  have hm := hl.m
  have hs0 := sum0_lt nm
  obtain ⟨s, hs⟩ : ∃ s, sum0 nm = s := ⟨_, rfl⟩
  have RE : Hid (P.read nm = if (P.all nm).2 ≠ 0 then ([], (P.all nm).2) else match unsealN s (P.all nm).1 with
    | some d => (d, 0)
    | none => ([], 7)) := by rw [← hs]; rfl
  obtain ⟨R, hR⟩ : ∃ R, P.read nm = R := ⟨_, rfl⟩
  rw [hR] at RE ⊢
  rw [hs] at hs0 ⊢
  have hfb : FlBlk (w.alloc (.cells #[.pointer (some ⟨b, 0, none⟩), .string (nmB nm), .int .u32 s] 160)) w.heap.size 160 (.pointer (some ⟨b, 0, none⟩)) (nmB nm) s := heap_alloc_new w _
  have k0 : Chg (fun _ => False) w (w.alloc (.cells #[.pointer (some ⟨b, 0, none⟩), .string (nmB nm), .int .u32 s] 160)) := (Chg.refl _ w).alloc _
  have AL := hide (allF hfb (RepU.same h hlt k0))
  obtain ⟨x, hx⟩ : ∃ x, P.all nm = x := ⟨_, rfl⟩
  have AL2 : Hid (Calls Tryz.prog 166 #[.pointer (some ⟨w.heap.size, 0, none⟩)] (w.alloc (.cells #[.pointer (some ⟨b, 0, none⟩), .string (nmB nm), .int .u32 s] 160)) fun e w' => e = .returned (.tuple #[.string ⟨x.1.toArray⟩, .int .i64 x.2]) ∧ Chg (fun _ => False) (w.alloc (.cells #[.pointer (some ⟨b, 0, none⟩), .string (nmB nm), .int .u32 s] 160)) w') := by
    rw [← hx]; exact AL.out
  rw [hx] at RE hal
  obtain ⟨t, ae⟩ := x
  dsimp only at RE hal AL2
  have HFB := hide hfb
  have K0 := hide k0
  have HS0 := hide hs0
  clear hx hs hR hfb k0 AL h hlt hF hl hs0
  go_enter Tryz.func126, Tryz.ntmps126
  by_cases he : ae = 0
  case neg =>
    have hb : (ae != 0) = true := by simpa using he
    have hR : R = ([], ae) := by rw [RE.out, if_pos he]
    subst hR
    go_wp2_with (go_at_call 166; refine AL2.out.mono ?_; rintro e w1 ⟨rfl, hc1⟩; have HC1 := hide hc1; clear hc1)
    go_ret2
    exact ⟨rfl, K0.out.trans HC1.out fun _ h _ => h⟩
  case pos =>
  subst he
  have RE2 : Hid (R = match unsealN s t with
    | some d => (d, 0)
    | none => ([], 7)) := by rw [RE.out, if_neg (by simp)]; rfl
  clear RE
  have UN : Hid (∀ w1, FlBlk w1 w.heap.size 160 (.pointer (some ⟨b, 0, none⟩)) (nmB nm) s → ∃ (d : Bs) (ok : Bool), R = (if ok then (d, 0) else ([], 7)) ∧ Calls Tryz.prog 167 #[.pointer (some ⟨w.heap.size, 0, none⟩), .string ⟨t.toArray⟩] w1 fun e w' => e = .returned (.tuple #[.string ⟨d.toArray⟩, .bool ok]) ∧ Chg (One w.heap.size) w1 w') := fun w1 hf1 => by
    by_cases h4 : t.length < 4
    · refine ⟨[], false, ?_, ?_⟩
      · rw [RE2.out]; unfold unsealN; rw [if_pos h4]; rfl
      · refine (unseal_short w1 w.heap.size t h4).mono ?_
        rintro e w' ⟨rfl, rfl⟩
        exact ⟨rfl, Chg.refl _ _⟩
    · refine ⟨t.take (t.length - 4), decide (sumB (sumOn s (t.take (t.length - 4))) = t.drop (t.length - 4)), ?_, ?_⟩
      · rw [RE2.out]; unfold unsealN; rw [if_neg h4]
        by_cases hq : sumB (sumOn s (t.take (t.length - 4))) = t.drop (t.length - 4)
        · rw [if_pos hq, decide_eq_true hq]; rfl
        · rw [if_neg hq, decide_eq_false hq]; rfl
      · have := unseal_any w1 w.heap.size 160 (.pointer (some ⟨b, 0, none⟩)) (nmB nm) s (t.take (t.length - 4)) (t.drop (t.length - 4)) hf1 HS0.out (by rw [List.length_drop]; omega) (by rw [List.length_take]; omega)
        rw [List.take_append_drop] at this
        refine this.mono ?_
        rintro e w' ⟨h1, h2, h3⟩
        exact ⟨h1, h3⟩
  clear RE2
  go_wp2_with (fail)
  refine AL2.out.mono ?_
  rintro e w1 ⟨rfl, hc1⟩
  obtain ⟨d, ok, hR, hun⟩ := UN.out w1 (HFB.out.keep hc1 (fun h => h))
  have K1 : Hid (Chg (fun _ => False) w w1) := K0.out.trans hc1 fun _ h _ => h
  have HUN := hide hun
  clear hc1 hun UN AL2 K0 HFB
  cases ok with
  | false =>
    simp only [Bool.false_eq_true, if_false] at hR
    subst hR
    go_wp2_with (go_at_call 167; refine HUN.out.mono ?_; rintro e w2 ⟨rfl, hc2⟩; have HC2 := hide hc2; clear hc2)
    go_ret2
    exact ⟨rfl, K1.out.trans HC2.out fun x hx hlt => by cases hx; omega⟩
  | true =>
    simp only [if_true] at hR
    subst hR
    go_wp2_with (go_at_call 167; refine HUN.out.mono ?_; rintro e w2 ⟨rfl, hc2⟩; have HC2 := hide hc2; clear hc2)
    go_ret2
    exact ⟨rfl, K1.out.trans HC2.out fun x hx hlt => by cases hx; omega⟩
end
theorem Tryz.infoInt : (Tryz.prog.info? 3).map (fun i => (i.zero, i.size, i.bytes)) = some (some (.int .i64 0), 1, 8) := by kernel_rfl
theorem intsK_short {k : Nat} {l : Bs} (h : l.length < 8) : intsK k l = [] := by cases k <;> simp [intsK, h]
theorem intN_range (l : Bs) : -9223372036854775808 ≤ intN l ∧ intN l ≤ 9223372036854775807 := by unfold intN wrap64; omega
set_option maxRecDepth 100000 in
set_option maxHeartbeats 2000000 in
theorem intsOf_any (w : World) (l0 : Bs) (hl0 : l0.length ≤ 4294967296) :
    Calls Tryz.prog 127 #[.string ⟨l0.toArray⟩] w fun e w' => ∃ v, e = .returned v ∧ InSl w' v (intsN l0) ∧ (∀ g, v.ownBlock = some g → w.heap.size ≤ g) ∧ Chg (fun _ => False) w w' := by
  obtain ⟨R, hR⟩ : ∃ R, intsN l0 = R := ⟨_, rfl⟩
  have HR : Hid (intsK l0.length l0 = R) := hR
  rw [hR]
  clear hR
  obtain ⟨i0, hi, hz0, hz1, hz2⟩ : ∃ i0, Tryz.prog.info? 3 = some i0 ∧ i0.zero = some (.int .i64 0) ∧ i0.size = 1 ∧ i0.bytes = 8 := by
    have h := Tryz.infoInt
    cases hx : Tryz.prog.info? 3 with
    | none => rw [hx] at h; cases h
    | some i => rw [hx] at h; simp at h; exact ⟨i, rfl, h.1, h.2.1, h.2.2⟩
  go_enter Tryz.func127, Tryz.ntmps127
  go_wp2
  go_loopw [0, 3] (fun tv v wr => ∃ (l : Bs) (k : Nat) (ns : List Int), tv = .string ⟨l.toArray⟩ ∧ ns.length * 8 + l.length ≤ l0.length ∧ Hid (InSl wr v ns ∧ (∀ g, v.ownBlock = some g → w.heap.size ≤ g) ∧ Chg (fun _ => False) w wr ∧ l.length ≤ k ∧ R = ns ++ intsK k l)) (fun tv _ _ => match tv with | .string x => x.size | _ => 0)
  case atStart => exact ⟨l0, l0.length, [], rfl, by simp, World.ownsRow_nil _ _ _ _, fun g hg => by simp [Value.ownBlock] at hg, Chg.refl _ _, Nat.le_refl _, by rw [HR.out]; rfl⟩
  case round =>
    obtain ⟨l, k, ns, rfl, hpl, hI⟩ := hrel
    have hlen : (ByteArray.mk l.toArray).size = l.length := by show l.toArray.size = _; simp
    by_cases h8 : l.length < 8
    case pos =>
      obtain ⟨i1, i2, i3, -, i5⟩ := hI.out
      rw [intsK_short h8, List.append_nil] at i5
      subst i5
      have hlt : ¬ (8 ≤ (l.length : Int)) := by omega
      clear hI
      have I1 := hide i1
      have I2 := hide i2
      have I3 := hide i3
      clear i1 i2 i3
      go_wp2
      go_ret
      exact ⟨_, rfl, I1.out, I2.out, I3.out⟩
    case neg =>
      obtain ⟨i1, i2, i3, i4, i5⟩ := hI.out
      obtain ⟨k, rfl⟩ : ∃ k', k = k' + 1 := ⟨k - 1, by omega⟩
      have I5 : Hid (R = (ns ++ [intN l]) ++ intsK k (l.drop 8)) := by
        unfold Hid; rw [i5]; simp [intsK, h8]
      have IO := hide (intOf_list wr l (by omega))
      have hx := intN_range l
      obtain ⟨x, hxe⟩ : ∃ x, intN l = x := ⟨_, rfl⟩
      rw [hxe] at I5 IO hx
      obtain ⟨ap, cp, rfl, hcap1, hcap2, -⟩ := ownsRow_form i1
      unfold maxLen at hcap2
      have e2 : (ByteArray.mk l.toArray).extract 8 l.length = ⟨(l.drop 8).toArray⟩ := by
        rw [extract_mk, List.take_of_length_le (by rw [List.length_drop]; omega)]
      have hld : (l.drop 8).length = l.length - 8 := List.length_drop
      obtain ⟨q, hq⟩ : ∃ q, l.drop 8 = q := ⟨_, rfl⟩
      rw [hq] at e2 I5 hld
      obtain ⟨tx, htx⟩ : ∃ tx, ByteArray.mk l.toArray = tx := ⟨_, rfl⟩
      rw [htx] at e2 hlen IO ⊢
      obtain ⟨ll, hll⟩ : ∃ ll, l.length = ll := ⟨_, rfl⟩
      rw [hll] at e2 hlen hld hpl h8 i4
      have h8i : (8 : Int) ≤ (ll : Int) := by omega
      have H1 := hide i1
      have H2 := hide i2
      have H3 := hide i3
      have H4 := hide i4
      have HLD := hide hld
      have HPL := hide hpl
      clear hll htx hq hxe i1 i2 i3 i4 i5 hI h8 hld hpl
      go_wp2_with (first
        | (go_at_call 168; refine IO.out.mono ?_; rintro e w4 ⟨rfl, rfl⟩)
        | (at_builtin
           have HROW : Hid ((wr.alloc (.cells #[.int .i64 x] 3)).ownsRow 0 3 1 (.slice ap ns.length cp) ns.length (intVals ns)) := ownsRow_same H1.out fun g hg => Below.heap_alloc _ _ _ (ownsRow_lt H1.out hg)
           have HS1 := hide (Src.ofNew (size := 1) (B := wr.heap.size) Tryz.underlying26 wr #[.int .i64 x] 3 (by simp) 1 1 rfl (intVals_oneCell [x]))
           refine wpList_app rfl (.tmp 9) (.tmp 12) 26 26 rfl 3 i0 _ 1 8 Tryz.underlying26 hi hz0 hz1 hz2 rfl (by decide) (.slice ap ns.length cp) ns.length (intVals ns) (by rfl) HROW.out _ 1 _ (by rfl) HS1.out (by have := HPL.out; omega) ?_
           intro a8 cap8 w8 hA
           have HA := hide hA
           clear hA))
      go_roundw
      case rel =>
        have hA := HA.out
        have hA2 := hA.chg (S := fun k => (Value.slice ap ns.length cp).ownBlock = some k) fun _ h => h
        have k9 : Chg (fun _ => False) wr (wr.alloc (.cells #[.int .i64 x] 3)) := (Chg.refl _ wr).alloc _
        refine ⟨q, k, ns ++ [x], rfl, by have := HPL.out; have := HLD.out; simp; omega, ?_, ?_, ?_, by have := H4.out; have := HLD.out; omega, I5.out⟩
        · have e : (ns ++ [x]).length = ns.length + 1 := by simp
          unfold InSl
          rw [intVals_append, e]
          exact hA.own
        · intro g hg
          rcases hA.at_ with h | h
          · rw [h] at hg; exact H2.out g hg
          · rw [h] at hg; cases hg; have := H3.out.size; have := k9.size; omega
        · exact (H3.out.trans k9 fun _ h _ => h).trans hA2 fun y hy hlt => by have := H2.out y hy; omega
      case measure =>
        have e : (ByteArray.mk q.toArray).size = q.length := by show q.toArray.size = _; simp
        have := HLD.out
        simp only [e, hlen]
        omega
end Go.Proofs.YtodcnkbblippnaaGreatDoor
/- Walks: a strings.Builder of one's own: copyCheck, WriteString (the shelf's copyCheck is not laid here: its panic is refused by the loader). -/
namespace Go.Proofs.YtodcnkbblippnaaGreatDoor
open Go.RowKit

theorem Tryz.builderSize : (Tryz.prog.info? 260).map (·.size) = some 2 := by kernel_rfl
theorem Tryz.builderLies : liesAt Tryz.prog Tryz.prog.depth 260 (2 / Tryz.prog.cellsOf 260) 0 260 1 = true := by kernel_rfl
/-- A builder of one's own, that holds these bytes. -/
def BuAt (B b : Nat) (l : List UInt8) (w : World) : Prop := Lib.IsBuilder 260 5 B b (Lib.byteCells l) w
set_option maxRecDepth 100000 in
set_option maxHeartbeats 1000000 in
theorem copyCheck_any (B b : Nat) (bs : List Value) (w : World) (h : Lib.IsBuilder 260 5 B b bs w) :
    Calls Tryz.prog 238 #[.pointer (some ⟨b, 0, none⟩)] w fun e w' => e = .returned (.tuple #[]) ∧ (Lib.BuilderAt 260 5 B b (.pointer (some ⟨b, 0, none⟩)) bs w' ∧ Below B w w') := by
  obtain ⟨j, hj, hjs⟩ := Option.map_eq_some_iff.1 Tryz.builderSize
  rcases h with h | h
  · have h0 := h.cell0
    have hsh := h.shape
    have hfz := h.frozen0
    have H := hide h
    clear h
    go_enter Tryz.func238, Tryz.ntmps238
    go_wp2
    rw [Lib.run_to_unsafe w ⟨b, 0, none⟩ Tryz.underlying258 Tryz.underlying217 hj (by rw [hjs]; decide) hsh (Nat.zero_lt_succ 1)]
    simp only [Result.andThen]
    rw [Oper.upon_value]
    go_wp2
    rw [run_callFunc_extern Tryz.func262 (by kernel_rfl) (by kernel_rfl) (by kernel_rfl) (e := Extern.AbiNoEscape.same) (by kernel_rfl)]
    rw [Lib.run_noEscape]
    simp only [Result.andThen]
    rw [Oper.upon_value]
    go_wp2
    rw [Lib.run_from_unsafe w ⟨b, 0, none⟩ Tryz.underlying217 Tryz.underlying258 hj hsh Tryz.builderLies]
    simp only [Result.andThen]
    rw [Oper.upon_value]
    go_wp2
    go_end0
    exact ⟨rfl, H.out.used _, (Below.refl B w).setCell (p := ⟨b, 0, none⟩) H.out.1 _⟩
  · have h0 := h.cell0
    have H := hide h
    clear h
    go_enter Tryz.func238, Tryz.ntmps238
    go_wp2
    rw [Lib.run_neq_ptr_same w _ Tryz.underlying258 hj]
    go_wp2
    go_end0
    exact ⟨rfl, H.out, Below.refl B _⟩
set_option maxRecDepth 100000 in
set_option maxHeartbeats 1000000 in
theorem writeString_any (B b : Nat) (bs : List Value) (s : ByteArray) (w : World) (h : Lib.IsBuilder 260 5 B b bs w) (hlen : bs.length + s.size ≤ 140737488355328) (hBw : B ≤ w.heap.size) :
    Calls Tryz.prog 194 #[.pointer (some ⟨b, 0, none⟩), .string s] w fun e w' => e = .returned (.tuple #[.int .i64 s.size, .nilIface]) ∧ (Lib.BuilderAt 260 5 B b (.pointer (some ⟨b, 0, none⟩)) (bs ++ Lib.strCells s) w' ∧ Below B w w') := by
  obtain ⟨i0, hi, hz0, hz1, hz2⟩ := info_parts Tryz.infoByte
  go_enter Tryz.func194, Tryz.ntmps194
  go_wp2_with (go_at_call 238; refine (copyCheck_any B b bs _ h).mono ?_)
  rintro e w1 ⟨rfl, h1, hb1⟩
  obtain ⟨hB, v, hbk, hown, hne⟩ := h1
  have c0 : w1.cell? ⟨b, 0, none⟩ = some (.pointer (some ⟨b, 0, none⟩)) := by rw [Lib.cell_of_heap hbk]; rfl
  have c1 : w1.cell? ⟨b, 1, none⟩ = some v := by rw [Lib.cell_of_heap hbk]; rfl
  go_wp2_with (at_builtin; refine Lib.wpList_append_own_string _ rfl _ _ 127 9 rfl B 5 i0 Tryz.underlying127 Tryz.underlying9 hi hz0 hz1 hz2 _ _ _ rfl hown s rfl ?c3 ?c4 ?c5 ?_)
  case c3 => unfold maxLen; omega
  case c4 => omega
  case c5 => have := hb1.size; omega
  intro v' w2 hown' hgrow _
  have hlt : b < w1.heap.size := by
    rcases Nat.lt_or_ge b w1.heap.size with h' | h'
    · exact h'
    · simp [Array.getElem?_eq_none h'] at hbk
  have hb2 : w2.heap[b]? = some (.cells #[.pointer (some ⟨b, 0, none⟩), v] 260 (0, 0)) := by
    rw [hgrow.block b hlt (fun e => hne e.symm)]
    exact hbk
  have d0 : w2.cell? ⟨b, 0, none⟩ = some (.pointer (some ⟨b, 0, none⟩)) := by rw [Lib.cell_of_heap hb2]; rfl
  have d1 : w2.cell? ⟨b, 1, none⟩ = some v := by rw [Lib.cell_of_heap hb2]; rfl
  have f1 : w2.frozen? ⟨b, 1, none⟩ = false := Lib.frozen_of_heap hb2 1
  obtain ⟨ao, n', cap, rfl⟩ : ∃ ao n' cap, v' = .slice ao n' cap := by
    rcases hown'.2 with ⟨hv, _⟩ | ⟨g, cap, cur, hv, _⟩
    · exact ⟨_, _, _, hv⟩
    · exact ⟨_, _, _, hv⟩
  go_wp2
  go_ret2
  refine ⟨rfl, ?_, ?_⟩
  · exact Lib.BuilderAt.put (T := 260) (e := 5) hB hb2 (bs' := bs ++ Lib.strCells s) (by simpa [Lib.strCells_length] using hown') (by decide)
  · exact (hb1.grown hgrow (by have := hb1.size; omega) (fun k hk => (hown.lt k hk).1)).setCell (p := ⟨b, 1, none⟩) hB _
theorem strCells_mk (l : List UInt8) : Lib.strCells ⟨l.toArray⟩ = Lib.byteCells l := by
  simp [Lib.strCells, Lib.byteCells]
/-- Bytes are added. -/
theorem writeString_list {B b : Nat} {l t : List UInt8} (w : World) (h : BuAt B b l w) (hlen : l.length + t.length ≤ 140737488355328) (hBw : B ≤ w.heap.size) :
    Calls Tryz.prog 194 #[.pointer (some ⟨b, 0, none⟩), .string ⟨t.toArray⟩] w fun e w' => e = .returned (.tuple #[.int .i64 t.length, .nilIface]) ∧ BuAt B b (l ++ t) w' ∧ Below B w w' := by
  have hs : (ByteArray.mk t.toArray).size = t.length := by show t.toArray.size = _; simp
  refine (writeString_any B b (Lib.byteCells l) ⟨t.toArray⟩ w h (by rw [Lib.byteCells_length, hs]; exact hlen) hBw).mono ?_
  rintro e w' ⟨rfl, h1, h2⟩
  refine ⟨by rw [hs], .inr ?_, h2⟩
  rw [strCells_mk] at h1
  have : Lib.byteCells (l ++ t) = Lib.byteCells l ++ Lib.byteCells t := by simp [Lib.byteCells]
  rw [this]; exact h1
theorem buString {B b : Nat} {l : List UInt8} (w : World) (h : BuAt B b l w) (hBw : B ≤ w.heap.size) :
    Calls Tryz.prog 197 #[.pointer (some ⟨b, 0, none⟩)] w fun e w' => e = .returned (.string ⟨l.toArray⟩) ∧ Below B w w' := Tryz.Builder_String_any B b l w h hBw
/-- A builder that was just made. -/
theorem buNew (w : World) : BuAt w.heap.size w.heap.size [] (w.alloc (.cells #[.pointer none, .slice none 0 0] 260)) :=
  .inl ⟨Nat.le_refl _, _, heap_alloc_new w _, World.ownsRow_nil _ _ _ _, by simp [Value.ownBlock]⟩
theorem BuAt.keep {B b : Nat} {l : List UInt8} {w w' : World} {S : Nat → Prop} (h : BuAt B b l w) (hc : Chg S w w') (hS : ∀ k, S k → k < B) : BuAt B b l w' := by
  have key : ∀ p, Lib.BuilderAt 260 5 B b p (Lib.byteCells l) w → Lib.BuilderAt 260 5 B b p (Lib.byteCells l) w' := by
    rintro p ⟨hB, v, h1, h2, h3⟩
    refine ⟨hB, v, hc.keep h1 (fun h => by have := hS _ h; omega), ?_, h3⟩
    exact ownsRow_same h2 fun g hg => hc.block g (ownsRow_lt h2 hg) (fun h => by have := hS _ h; have := (h2.lt g hg).1; omega)
  exact h.imp (key _) (key _)
end Go.Proofs.YtodcnkbblippnaaGreatDoor
/- Sorting, equals in their order: what it is ('sortSt'), and that nothing else is sorted and keeps each class in its order. No walk. -/
namespace Go.Proofs.YtodcnkbblippnaaGreatDoor
open Go.RowKit

section
variable {α : Type} (lt : α → α → Bool)
/-- A strict order, and what it does not part is one class. -/
structure Weak : Prop where
  irr : ∀ x, lt x x = false
  trans : ∀ x y z, lt x y = true → lt y z = true → lt x z = true
  parts : ∀ x y z, lt x z = true → lt x y = true ∨ lt y z = true
def eqv (x y : α) : Bool := !lt x y && !lt y x
/-- Each class has the same in the same order. -/
def Steq (l l' : List α) : Prop := ∀ x, l.filter (eqv lt x) = l'.filter (eqv lt x)
def Asc (l : List α) : Prop := l.Pairwise fun x y => lt y x = false
variable {lt}
theorem Steq.refl (l : List α) : Steq lt l l := fun _ => rfl
theorem Steq.symm {l l' : List α} (h : Steq lt l l') : Steq lt l' l := fun x => (h x).symm
theorem Steq.trans {l l' l2 : List α} (h : Steq lt l l') (h2 : Steq lt l' l2) : Steq lt l l2 := fun x => (h x).trans (h2 x)
theorem Steq.append {a a' b b' : List α} (h : Steq lt a a') (h2 : Steq lt b b') : Steq lt (a ++ b) (a' ++ b') := fun x => by
  rw [List.filter_append, List.filter_append, h x, h2 x]
theorem Weak.eqv_self (h : Weak lt) (x : α) : eqv lt x x = true := by simp [eqv, h.irr]
theorem Weak.asymm (h : Weak lt) {x y : α} (hxy : lt x y = true) : lt y x = false := by
  cases hyx : lt y x with
  | false => rfl
  | true => have := h.trans _ _ _ hxy hyx; rw [h.irr] at this; cases this
theorem Weak.le_trans (h : Weak lt) {x y z : α} (h1 : lt y x = false) (h2 : lt z y = false) : lt z x = false := by
  cases hzx : lt z x with
  | false => rfl
  | true => rcases h.parts z y x hzx with h3 | h3
            · rw [h2] at h3; cases h3
            · rw [h1] at h3; cases h3
/-- Of two classes that lie apart none is in both. -/
theorem Weak.eqv_parts (h : Weak lt) {x y z : α} (hyz : lt y z = true) (h1 : eqv lt x y = true) : eqv lt x z = false := by
  cases hz : eqv lt x z with
  | false => rfl
  | true =>
    simp [eqv] at h1 hz
    rcases h.parts y x z hyz with h3 | h3
    · rw [h1.2] at h3; cases h3
    · rw [hz.1] at h3; cases h3
/-- Two neighbours of which the later is the lesser change places. -/
theorem Weak.swap (h : Weak lt) {x y : α} (hyx : lt y x = true) : Steq lt [x, y] [y, x] := fun z => by
  simp only [List.filter_cons, List.filter_nil]
  cases h1 : eqv lt z y with
  | false => cases eqv lt z x <;> rfl
  | true => rw [h.eqv_parts hyx h1]; rfl
theorem Weak.move1 (h : Weak lt) {x : α} {ys : List α} (hy : ∀ y ∈ ys, lt y x = true) : Steq lt (x :: ys) (ys ++ [x]) := by
  induction ys with
  | nil => exact Steq.refl _
  | cons y r ih =>
    have h1 : Steq lt (x :: y :: r) (y :: x :: r) := by
      have := (h.swap (hy y (List.mem_cons_self ..))).append (Steq.refl (lt := lt) r)
      simpa using this
    have h2 : Steq lt (y :: x :: r) (y :: (r ++ [x])) := by
      have := (Steq.refl (lt := lt) [y]).append (ih fun z hz => hy z (List.mem_cons_of_mem _ hz))
      simpa using this
    exact h1.trans h2
/-- A row of greater ones and a row of lesser ones change places. -/
theorem Weak.move (h : Weak lt) {xs ys : List α} (hxy : ∀ x ∈ xs, ∀ y ∈ ys, lt y x = true) : Steq lt (xs ++ ys) (ys ++ xs) := by
  induction xs with
  | nil => simpa using Steq.refl (lt := lt) ys
  | cons x r ih =>
    have h1 := ih fun z hz => hxy z (List.mem_cons_of_mem _ hz)
    have h2 : Steq lt (x :: (r ++ ys)) (x :: (ys ++ r)) := by simpa using (Steq.refl (lt := lt) [x]).append h1
    have h3 : Steq lt (x :: ys ++ r) (ys ++ [x] ++ r) := (h.move1 (hxy x (List.mem_cons_self ..))).append (Steq.refl r)
    have := h2.trans h3
    simpa using this
theorem Weak.move1' (h : Weak lt) {y : α} {xs : List α} (hy : ∀ x ∈ xs, lt y x = true) : Steq lt (xs ++ [y]) (y :: xs) := by
  simpa using h.move (xs := xs) (ys := [y]) fun x hx z hz => by simp at hz; subst hz; exact hy x hx
theorem Steq.mem {l l' : List α} (hw : Weak lt) (h : Steq lt l l') {x : α} (hx : x ∈ l) : x ∈ l' := by
  have : x ∈ l.filter (eqv lt x) := List.mem_filter.2 ⟨hx, hw.eqv_self x⟩
  rw [h x] at this
  exact (List.mem_filter.1 this).1
/-- There is one such row alone. -/
theorem Weak.unique (hw : Weak lt) : ∀ {l l' : List α}, Asc lt l → Asc lt l' → Steq lt l l' → l = l'
  | [], [], _, _, _ => rfl
  | [], b :: r', _, _, h => by have := (h.symm).mem hw (List.mem_cons_self (a := b) (l := r')); cases this
  | a :: r, [], _, _, h => by have := h.mem hw (List.mem_cons_self (a := a) (l := r)); cases this
  | a :: r, b :: r', h1, h2, h => by
    have ha := List.pairwise_cons.1 h1
    have hb := List.pairwise_cons.1 h2
    have hab : lt a b = false := by
      rcases List.mem_cons.1 (h.mem hw (List.mem_cons_self (a := a) (l := r))) with rfl | hm
      · exact hw.irr _
      · exact hb.1 a hm
    have hba : lt b a = false := by
      rcases List.mem_cons.1 (h.symm.mem hw (List.mem_cons_self (a := b) (l := r'))) with rfl | hm
      · exact hw.irr _
      · exact ha.1 b hm
    have he : eqv lt a b = true := by simp [eqv, hab, hba]
    have hf := h a
    rw [List.filter_cons_of_pos (hw.eqv_self a), List.filter_cons_of_pos he] at hf
    obtain rfl : a = b := (List.cons.inj hf).1
    refine congrArg (a :: ·) (hw.unique ha.2 hb.2 fun x => ?_)
    have hx := h x
    cases hc : eqv lt x a with
    | true => rw [List.filter_cons_of_pos hc, List.filter_cons_of_pos hc] at hx; exact (List.cons.inj hx).2
    | false => rw [List.filter_cons_of_neg (by rw [hc]; decide), List.filter_cons_of_neg (by rw [hc]; decide)] at hx; exact hx
theorem insSt_mem {x y : α} {l : List α} : y ∈ insSt lt x l ↔ y = x ∨ y ∈ l := by
  induction l with
  | nil => simp [insSt]
  | cons z r ih =>
    unfold insSt
    split
    · simp
    · simp only [List.mem_cons, ih]
      constructor
      · rintro (h | h | h)
        · exact .inr (.inl h)
        · exact .inl h
        · exact .inr (.inr h)
      · rintro (h | h | h)
        · exact .inr (.inl h)
        · exact .inl h
        · exact .inr (.inr h)
theorem Weak.insSt_asc (hw : Weak lt) {x : α} {l : List α} (h : Asc lt l) : Asc lt (insSt lt x l) := by
  induction l with
  | nil => simp [insSt, Asc]
  | cons z r ih =>
    have hz := List.pairwise_cons.1 h
    unfold insSt
    split
    · rename_i hc
      refine List.pairwise_cons.2 ⟨fun y hy => ?_, h⟩
      rcases List.mem_cons.1 hy with rfl | hy
      · exact hw.asymm hc
      · exact hw.le_trans (hw.asymm hc) (hz.1 y hy)
    · rename_i hc
      refine List.pairwise_cons.2 ⟨fun y hy => ?_, ih hz.2⟩
      rcases insSt_mem.1 hy with rfl | hy
      · simpa using hc
      · exact hz.1 y hy
theorem Weak.insSt_steq (hw : Weak lt) {x : α} {l : List α} (h : Asc lt l) : Steq lt (l ++ [x]) (insSt lt x l) := by
  induction l with
  | nil => exact Steq.refl _
  | cons z r ih =>
    have hz := List.pairwise_cons.1 h
    unfold insSt
    split
    · rename_i hc
      refine hw.move1' fun y hy => ?_
      rcases List.mem_cons.1 hy with rfl | hy
      · exact hc
      · rcases hw.parts x y z hc with h1 | h1
        · exact h1
        · rw [hz.1 y hy] at h1; cases h1
    · simpa using (Steq.refl (lt := lt) [z]).append (ih hz.2)
theorem Weak.foldIns (hw : Weak lt) : ∀ (l s : List α), Asc lt s → Asc lt (l.foldl (fun s x => insSt lt x s) s) ∧ Steq lt (s ++ l) (l.foldl (fun s x => insSt lt x s) s)
  | [], s, h => ⟨h, by simpa using Steq.refl (lt := lt) s⟩
  | x :: r, s, h => by
    obtain ⟨h1, h2⟩ := hw.foldIns r _ (hw.insSt_asc (x := x) h)
    refine ⟨h1, Steq.trans ?_ h2⟩
    have := (hw.insSt_steq (x := x) h).append (Steq.refl (lt := lt) r)
    simpa using this
theorem Weak.sort_asc (hw : Weak lt) (l : List α) : Asc lt (sortSt lt l) := (hw.foldIns l [] List.Pairwise.nil).1
theorem Weak.sort_steq (hw : Weak lt) (l : List α) : Steq lt l (sortSt lt l) := by
  have := (hw.foldIns l [] List.Pairwise.nil).2
  rw [List.nil_append] at this; exact this
/-- What is sorted, each class in its order, is the sorted row. -/
theorem Weak.sort_eq (hw : Weak lt) {l l' : List α} (h : Asc lt l') (h2 : Steq lt l l') : l' = sortSt lt l :=
  hw.unique h (hw.sort_asc l) (h2.symm.trans (hw.sort_steq l))
theorem Asc.append {a b : List α} (h : Asc lt (a ++ b)) : Asc lt a ∧ Asc lt b ∧ ∀ x ∈ a, ∀ y ∈ b, lt y x = false := by
  have := List.pairwise_append.1 h
  exact ⟨this.1, this.2.1, this.2.2⟩
theorem Asc.of_append {a b : List α} (ha : Asc lt a) (hb : Asc lt b) (h : ∀ x ∈ a, ∀ y ∈ b, lt y x = false) : Asc lt (a ++ b) := List.pairwise_append.2 ⟨ha, hb, h⟩
/-- The last of the first row is not above the first of the second: so none is. -/
theorem Weak.border (hw : Weak lt) {a b : List α} (ha : Asc lt a) (hb : Asc lt b) (h : ∀ x y, a.getLast? = some x → b.head? = some y → lt y x = false) : ∀ x ∈ a, ∀ y ∈ b, lt y x = false := by
  intro x hx y hy
  rcases List.eq_nil_or_concat a with rfl | ⟨a', x0, rfl⟩
  · cases hx
  cases b with
  | nil => cases hy
  | cons y0 b' =>
    have h0 := h x0 y0 (by simp) rfl
    have hx0 : lt x0 x = false := by
      have hx' : x ∈ a' ∨ x = x0 := by simpa using hx
      rcases hx' with hm | rfl
      · exact (Asc.append (by simpa using ha)).2.2 x hm x0 (by simp)
      · exact hw.irr _
    have hy0 : lt y y0 = false := by
      rcases List.mem_cons.1 hy with rfl | hm
      · exact hw.irr _
      · exact (List.pairwise_cons.1 hb).1 y hm
    exact hw.le_trans (hw.le_trans hx0 h0) hy0
end
end Go.Proofs.YtodcnkbblippnaaGreatDoor
/- Walks: places are held against each other: cmp.Compare, cmp.Or, Put.Compare, windowOf; rise. -/
namespace Go.Proofs.YtodcnkbblippnaaGreatDoor
open Go.RowKit
attribute [local go_sem ↓] NoP_normal

set_option maxRecDepth 100000 in
theorem isNaN_int (w : World) (x : Int) : Calls Tryz.prog 169 #[.int .i64 x] w fun e w' => e = .returned (.bool false) ∧ w = w' := by
  have h : (x != x) = false := by simp
  go_enter Tryz.func169, Tryz.ntmps169
  go_wp2
  go_ret
  exact ⟨rfl, rfl⟩
set_option maxRecDepth 100000 in
theorem compare_int (w : World) (x y : Int) : Calls Tryz.prog 130 #[.int .i64 x, .int .i64 y] w fun e w' => e = .returned (.int .i64 (cmpI x y)) ∧ w = w' := by
  have IN := hide (isNaN_int)
  unfold cmpI
  go_enter Tryz.func130, Tryz.ntmps130
  by_cases h1 : x < y
  · rw [if_pos h1]
    go_wp2_with (go_at_call 169; refine (IN.out _ _).mono ?_; rintro e w' ⟨rfl, rfl⟩)
    go_ret
    exact ⟨rfl, rfl⟩
  · by_cases h2 : y < x
    · rw [if_neg h1, if_pos h2]
      go_wp2_with (go_at_call 169; refine (IN.out _ _).mono ?_; rintro e w' ⟨rfl, rfl⟩)
      go_ret
      exact ⟨rfl, rfl⟩
    · rw [if_neg h1, if_neg h2]
      go_wp2_with (go_at_call 169; refine (IN.out _ _).mono ?_; rintro e w' ⟨rfl, rfl⟩)
      go_ret
      exact ⟨rfl, rfl⟩
def orI (a b : Int) : Int := if a ≠ 0 then a else b
set_option maxRecDepth 100000 in
theorem or2_any (w : World) (g : Nat) (a b : Int) (h0 : w.cell? ⟨g, 0, none⟩ = some (.int .i64 a)) (h1 : w.cell? ⟨g, 1, none⟩ = some (.int .i64 b)) :
    Calls Tryz.prog 156 #[.slice (some ⟨g, 0, none⟩) 2 2] w fun e w' => e = .returned (.int .i64 (orI a b)) ∧ w = w' := by
  unfold orI
  go_enter Tryz.func156, Tryz.ntmps156
  by_cases ha : a = 0
  · subst ha
    rw [if_neg (by simp)]
    by_cases hb : b = 0
    · subst hb
      go_wp2
      refine wp_loop_rounds 3 ?_
      rw [rounds_succ]
      go_wp2
      rw [rounds_succ]
      go_wp2
      rw [rounds_succ]
      go_wp2
      go_ret
      exact ⟨rfl, rfl⟩
    · have hb' : (b != 0) = true := by simpa using hb
      go_wp2
      refine wp_loop_rounds 2 ?_
      rw [rounds_succ]
      go_wp2
      rw [rounds_succ]
      go_wp2
      go_ret
      exact ⟨rfl, rfl⟩
  · rw [if_pos ha]
    have ha' : (a != 0) = true := by simpa using ha
    go_wp2
    refine wp_loop_rounds 1 ?_
    rw [rounds_succ]
    go_wp2
    go_ret
    exact ⟨rfl, rfl⟩
theorem cmpPu_or (p q : Pu) : cmpPu p q = orI (cmpI p.1 q.1) (cmpI p.2.1 q.2.1) := rfl
def puAgg (p : Pu) : Value := .agg #[.int .i64 p.1, .int .i64 p.2.1, .int .i64 p.2.2]
set_option maxRecDepth 100000 in
set_option maxHeartbeats 2000000 in
theorem putCompare_any (w : World) (p q : Pu) : Calls Tryz.prog 158 #[puAgg p, puAgg q] w fun e w' => e = .returned (.int .i64 (cmpPu p q)) ∧ Chg (fun _ => False) w w' := by
  obtain ⟨p1, p2, p3⟩ := p
  obtain ⟨q1, q2, q3⟩ := q
  rw [cmpPu_or]
  unfold puAgg
  dsimp only
  have CI := hide (compare_int)
  have OR := hide (or2_any)
  obtain ⟨x, hx⟩ : ∃ x, cmpI p1 q1 = x := ⟨_, rfl⟩
  obtain ⟨y, hy⟩ : ∃ y, cmpI p2 q2 = y := ⟨_, rfl⟩
  rw [hx, hy]
  have b1 : PuBlk ((w.alloc (.cells #[.int .i64 p1, .int .i64 p2, .int .i64 p3] 113)).alloc (.cells #[.int .i64 q1, .int .i64 q2, .int .i64 q3] 113)) w.heap.size p1 p2 p3 := (Below.heap_alloc _ _ _ (by simp)).trans (heap_alloc_new w _)
  have b2 : PuBlk ((w.alloc (.cells #[.int .i64 p1, .int .i64 p2, .int .i64 p3] 113)).alloc (.cells #[.int .i64 q1, .int .i64 q2, .int .i64 q3] 113)) (w.heap.size + 1) q1 q2 q3 := by
    have := heap_alloc_new (w.alloc (.cells #[.int .i64 p1, .int .i64 p2, .int .i64 p3] 113)) (.cells #[.int .i64 q1, .int .i64 q2, .int .i64 q3] 113)
    simpa [PuBlk] using this
  have k2 : Chg (fun _ => False) w ((w.alloc (.cells #[.int .i64 p1, .int .i64 p2, .int .i64 p3] 113)).alloc (.cells #[.int .i64 q1, .int .i64 q2, .int .i64 q3] 113)) := ((Chg.refl _ w).alloc _).alloc _
  have sz : ((w.alloc (.cells #[.int .i64 p1, .int .i64 p2, .int .i64 p3] 113)).alloc (.cells #[.int .i64 q1, .int .i64 q2, .int .i64 q3] 113)).heap.size = w.heap.size + 2 := by simp
  have B1 := hide b1
  have B2 := hide b2
  have K2 := hide k2
  have SZ := hide sz
  clear b1 b2 k2 sz
  go_enter Tryz.func158, Tryz.ntmps158
  go_wp2
  generalize ((w.alloc (.cells #[.int .i64 p1, .int .i64 p2, .int .i64 p3] 113)).alloc (.cells #[.int .i64 q1, .int .i64 q2, .int .i64 q3] 113)) = w2 at B1 B2 K2 SZ ⊢
  refine wp_region_sch (fun w' => w'.cell? ⟨w.heap.size, 0, none⟩ = some (.int .i64 p1) ∧ w'.cell? ⟨w.heap.size, 1, none⟩ = some (.int .i64 p2) ∧ w'.cell? ⟨w.heap.size + 1, 0, none⟩ = some (.int .i64 q1) ∧ w'.cell? ⟨w.heap.size + 1, 1, none⟩ = some (.int .i64 q2)) 14
    [(0, true), (1, true), (2, true), (3, true), (5, true), (6, true), (7, true), (8, true), (9, true), (10, true), (4, false), (11, false), (12, false), (13, false)] (by kernel_rfl) (by kernel_rfl) (fun _ _ _ _ _ h => h) ⟨B1.out.c0, B1.out.c1, B2.out.c0, B2.out.c1⟩ ?_
  iterate 10 (refine wpSch_take (v := ?_) rfl (by rfl) ?_ ?_; rotate_left; (· (intro w' hS; (try dsimp only at hS); go_simp; try with_reducible rfl)); (try simp only [Act.put, List.setIfInBounds_toArray, List.set_cons_zero, List.set_cons_succ, List.getElem_toArray, List.getElem_cons_zero, List.getElem_cons_succ]))
  refine wpSch_do rfl (by rfl) (fun K hK => ?_)
  go_simp
  have D1 := hide B1.out.drew
  have D2 := hide B2.out.drew
  refine (CI.out _ _ _).mono ?_
  rintro e w3 ⟨rfl, rfl⟩
  rw [hx]
  refine hK _ _ ⟨D1.out.c0, D1.out.c1, D2.out.c0, D2.out.c1⟩ (fun hS => ?_)
  clear hK K hS
  (try simp only [Act.put, List.setIfInBounds_toArray, List.set_cons_zero, List.set_cons_succ, List.getElem_toArray, List.getElem_cons_zero, List.getElem_cons_succ])
  refine wpSch_do rfl (by rfl) (fun K hK => ?_)
  go_simp
  refine (CI.out _ _ _).mono ?_
  rintro e w4 ⟨rfl, rfl⟩
  rw [hy]
  refine hK _ _ ⟨D1.out.c0, D1.out.c1, D2.out.c0, D2.out.c1⟩ (fun hS => ?_)
  clear hK K hS
  (try simp only [Act.put, List.setIfInBounds_toArray, List.set_cons_zero, List.set_cons_succ, List.getElem_toArray, List.getElem_cons_zero, List.getElem_cons_succ])
  refine wpSch_do rfl (by rfl) (fun K hK => ?_)
  go_simp
  have ka : Chg (fun _ => False) w2 (w2.alloc (.cells #[.int .i64 x, .int .i64 y] 3)).drew := ((Chg.refl _ _).alloc _).drew
  have E1 := B1.out.keep ka (fun h => h)
  have E2 := B2.out.keep ka (fun h => h)
  have hb : (w2.alloc (.cells #[.int .i64 x, .int .i64 y] 3)).drew.heap[w2.heap.size]? = some (.cells #[.int .i64 x, .int .i64 y] 3) := heap_alloc_new w2 _
  refine hK _ _ ⟨E1.c0, E1.c1, E2.c0, E2.c1⟩ (fun hS => ?_)
  clear hK K hS
  (try simp only [Act.put, List.setIfInBounds_toArray, List.set_cons_zero, List.set_cons_succ, List.getElem_toArray, List.getElem_cons_zero, List.getElem_cons_succ])
  refine wpSch_do rfl (by rfl) (fun K hK => ?_)
  go_simp
  refine (OR.out _ _ x y (by simp only [World.cell?, hb]; rfl) (by simp only [World.cell?, hb]; rfl)).mono ?_
  rintro e w5 ⟨rfl, rfl⟩
  refine hK _ _ ⟨E1.c0, E1.c1, E2.c0, E2.c1⟩ (fun hS => ?_)
  have KF : Hid (Chg (fun _ => False) w (w2.alloc (.cells #[.int .i64 x, .int .i64 y] 3)).drew) := K2.out.trans ka fun _ h _ => h
  clear hK K hS E1 E2 hb ka
  (try simp only [Act.put, List.setIfInBounds_toArray, List.set_cons_zero, List.set_cons_succ, List.getElem_toArray, List.getElem_cons_zero, List.getElem_cons_succ])
  refine wpSch_end ?_
  simp only [List.drop_succ_cons, List.drop_zero]
  go_wp2
  go_ret
  exact ⟨rfl, KF.out⟩
end Go.Proofs.YtodcnkbblippnaaGreatDoor
