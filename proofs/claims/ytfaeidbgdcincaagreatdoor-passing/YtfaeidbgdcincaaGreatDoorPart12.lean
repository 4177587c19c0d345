/-
  The statement WritesUptoCardSaid is proved: the law Writes answers true at every set and every script within the statement's bounds.
  Part 12 of 23.
-/
import Derived.Test.YtfaeidbgdcincaaGreatDoorPart01
import Derived.Test.YtfaeidbgdcincaaGreatDoorPart11
import Derived.Test.YtfaeidbgdcincaaGreatDoorPart05
import Derived.Test.YtfaeidbgdcincaaGreatDoorPart06
import Derived.Deep.RegionHeld3
import Derived.BigQuiet
import Derived.Deep.QuietTactic
/- Points and Puts in memory: rows of them. No walk. -/
namespace Go.Proofs.YtfaeidbgdcincaaGreatDoor
open Go.RowKit

theorem Chg.heapEq {S : Nat → Prop} {a w w' : World} (h : Chg S a w) (he : w'.heap = w.heap) (h1 : w'.os = w.os) (h2 : w'.tape = w.tape) (h3 : w'.output = w.output) : Chg S a w' :=
  ⟨h1.trans h.os, h2.trans h.tape, h3.trans h.output, by rw [he]; exact h.size, fun k hk hn => by rw [he]; exact h.block k hk hn⟩
def ptVals : List Pt → List Value
  | [] => []
  | (t, v) :: r => .int .i64 t :: .int .i64 v :: ptVals r
theorem ptVals_length (l : List Pt) : (ptVals l).length = l.length * 2 := by
  induction l with
  | nil => rfl
  | cons e r ih => obtain ⟨n, f⟩ := e; simp only [ptVals, List.length_cons, ih]; omega
theorem ptVals_append (a b : List Pt) : ptVals (a ++ b) = ptVals a ++ ptVals b := by
  induction a with
  | nil => rfl
  | cons e r ih => obtain ⟨n, f⟩ := e; simp [ptVals, ih]
theorem ptVals_take (l : List Pt) (k : Nat) : (ptVals l).take (k * 2) = ptVals (l.take k) := by
  induction l generalizing k with
  | nil => simp [ptVals]
  | cons e r ih =>
    obtain ⟨n, f⟩ := e
    match k with
    | 0 => simp [ptVals]
    | k + 1 => rw [show (k + 1) * 2 = k * 2 + 1 + 1 from by omega]; simp [ptVals, ih]
theorem ptVals_drop (l : List Pt) (k : Nat) : (ptVals l).drop (k * 2) = ptVals (l.drop k) := by
  induction l generalizing k with
  | nil => simp [ptVals]
  | cons e r ih =>
    obtain ⟨n, f⟩ := e
    match k with
    | 0 => simp [ptVals]
    | k + 1 => rw [show (k + 1) * 2 = k * 2 + 1 + 1 from by omega]; simp [ptVals, ih]
theorem ptVals_t (l : List Pt) (k : Nat) (h : k < l.length) : (ptVals l)[k * 2]? = some (.int .i64 (l[k]'h).1) := by
  induction l generalizing k with
  | nil => simp at h
  | cons e r ih =>
    obtain ⟨n, f⟩ := e
    match k with
    | 0 => simp [ptVals]
    | k + 1 =>
      have := ih k (by simpa using h)
      rw [show (k + 1) * 2 = k * 2 + 1 + 1 from by omega]
      simpa [ptVals] using this
theorem ptVals_v (l : List Pt) (k : Nat) (h : k < l.length) : (ptVals l)[k * 2 + 1]? = some (.int .i64 (l[k]'h).2) := by
  induction l generalizing k with
  | nil => simp at h
  | cons e r ih =>
    obtain ⟨n, f⟩ := e
    match k with
    | 0 => simp [ptVals]
    | k + 1 =>
      have := ih k (by simpa using h)
      rw [show (k + 1) * 2 + 1 = k * 2 + 1 + 1 + 1 from by omega]
      simpa [ptVals] using this
theorem ptVals_set (l : List Pt) (k : Nat) (p : Pt) (h : k < l.length) : ((ptVals l).set (k * 2) (.int .i64 p.1)).set (k * 2 + 1) (.int .i64 p.2) = ptVals (l.set k p) := by
  induction l generalizing k with
  | nil => simp at h
  | cons e r ih =>
    obtain ⟨n, f⟩ := e
    match k with
    | 0 => simp [ptVals]
    | k + 1 =>
      have := ih k (by simpa using h)
      rw [show (k + 1) * 2 = k * 2 + 1 + 1 from by omega]
      simp only [ptVals, List.set_cons_succ]
      rw [this]
theorem ptVals_set1 (l : List Pt) (k : Nat) (v : Int) (h : k < l.length) : (ptVals l).set (k * 2 + 1) (.int .i64 v) = ptVals (l.set k ((l[k]'h).1, v)) := by
  induction l generalizing k with
  | nil => simp at h
  | cons e r ih =>
    obtain ⟨n, f⟩ := e
    match k with
    | 0 => simp [ptVals]
    | k + 1 =>
      have := ih k (by simpa using h)
      rw [show (k + 1) * 2 = k * 2 + 1 + 1 from by omega]
      simp only [ptVals, List.set_cons_succ, List.getElem_cons_succ]
      rw [this]
theorem ptVals_oneCell (l : List Pt) : ∀ u ∈ ptVals l, u.oneCell' = true := by
  induction l with
  | nil => simp [ptVals]
  | cons e r ih =>
    obtain ⟨n, f⟩ := e
    intro u hu
    simp only [ptVals, List.mem_cons] at hu
    rcases hu with rfl | rfl | hu
    · rfl
    · rfl
    · exact ih u hu
/-- A row of points. -/
def PtSl (w : World) (v : Value) (l : List Pt) : Prop := w.ownsRow 0 73 2 v l.length (ptVals l)
theorem PtSl.cells {w : World} {g n cap : Nat} {l : List Pt} (h : PtSl w (.slice (some ⟨g, 0, none⟩) n cap) l) (k : Nat) (hk : k < l.length) : w.cell? ⟨g, k * 2, none⟩ = some (.int .i64 (l[k]'hk).1) ∧ w.cell? ⟨g, k * 2 + 1, none⟩ = some (.int .i64 (l[k]'hk).2) := by
  have hn : n = l.length := by
    obtain ⟨_, _, e, _⟩ := ownsRow_form h
    cases e; rfl
  subst hn
  exact ⟨ownsRow_cell h rfl (ptVals_t l k hk), ownsRow_cell h rfl (ptVals_v l k hk)⟩
/-- What was put: series, time, value. -/
abbrev Pu := Int × Int × Int
def puVals : List Pu → List Value
  | [] => []
  | (s, t, v) :: r => .int .i64 s :: .int .i64 t :: .int .i64 v :: puVals r
theorem puVals_length (l : List Pu) : (puVals l).length = l.length * 3 := by
  induction l with
  | nil => rfl
  | cons e r ih => obtain ⟨n, f, g⟩ := e; simp only [puVals, List.length_cons, ih]; omega
theorem puVals_append (a b : List Pu) : puVals (a ++ b) = puVals a ++ puVals b := by
  induction a with
  | nil => rfl
  | cons e r ih => obtain ⟨n, f, g⟩ := e; simp [puVals, ih]
theorem puVals_take (l : List Pu) (k : Nat) : (puVals l).take (k * 3) = puVals (l.take k) := by
  induction l generalizing k with
  | nil => simp [puVals]
  | cons e r ih =>
    obtain ⟨n, f, g⟩ := e
    match k with
    | 0 => simp [puVals]
    | k + 1 => rw [show (k + 1) * 3 = k * 3 + 1 + 1 + 1 from by omega]; simp [puVals, ih]
theorem puVals_at (l : List Pu) (k : Nat) (h : k < l.length) : (puVals l)[k * 3]? = some (.int .i64 (l[k]'h).1) ∧ (puVals l)[k * 3 + 1]? = some (.int .i64 (l[k]'h).2.1) ∧ (puVals l)[k * 3 + 2]? = some (.int .i64 (l[k]'h).2.2) := by
  induction l generalizing k with
  | nil => simp at h
  | cons e r ih =>
    obtain ⟨n, f, g⟩ := e
    match k with
    | 0 => simp [puVals]
    | k + 1 =>
      obtain ⟨h1, h2, h3⟩ := ih k (by simpa using h)
      rw [show (k + 1) * 3 = k * 3 + 1 + 1 + 1 from by omega]
      refine ⟨by simpa [puVals] using h1, by simpa [puVals] using h2, by simpa [puVals] using h3⟩
theorem puVals_oneCell (l : List Pu) : ∀ u ∈ puVals l, u.oneCell' = true := by
  induction l with
  | nil => simp [puVals]
  | cons e r ih =>
    obtain ⟨n, f, g⟩ := e
    intro u hu
    simp only [puVals, List.mem_cons] at hu
    rcases hu with rfl | rfl | rfl | hu
    · rfl
    · rfl
    · rfl
    · exact ih u hu
def PuSl (w : World) (v : Value) (l : List Pu) : Prop := w.ownsRow 0 135 3 v l.length (puVals l)
theorem PuSl.form {w : World} {v : Value} {l : List Pu} (h : PuSl w v l) :
    ∃ a cap, v = .slice a l.length cap ∧ l.length ≤ cap ∧ cap ≤ maxLen ∧ ∀ k (hk : k < l.length), ∃ g, a = some ⟨g, 0, none⟩ ∧ g < w.heap.size ∧ w.cell? ⟨g, k * 3, none⟩ = some (.int .i64 (l[k]'hk).1) ∧ w.cell? ⟨g, k * 3 + 1, none⟩ = some (.int .i64 (l[k]'hk).2.1) ∧ w.cell? ⟨g, k * 3 + 2, none⟩ = some (.int .i64 (l[k]'hk).2.2) := by
  rcases ownsRow_form h with ⟨a, cap, rfl, h1, h2, h3, _, _⟩
  refine ⟨a, cap, rfl, h1, h2, fun k hk => ?_⟩
  obtain ⟨g, rfl⟩ := h3 (by omega)
  obtain ⟨q1, q2, q3⟩ := puVals_at l k hk
  exact ⟨g, rfl, ownsRow_lt h rfl, ownsRow_cell h rfl q1, ownsRow_cell h rfl q2, ownsRow_cell h rfl q3⟩
end Go.Proofs.YtfaeidbgdcincaaGreatDoor
/- Walks: package points: find. -/
namespace Go.Proofs.YtfaeidbgdcincaaGreatDoor
open Go.RowKit
attribute [local go_sem ↓] Go.wp_at_zero Go.wp_at_succ

def cmpI (x y : Int) : Int := if x < y then -1 else if y < x then 1 else 0
set_option maxRecDepth 100000 in
set_option maxHeartbeats 400000 in
theorem compare_any (x y : Int) (w : World) : Calls Tryz.prog 124 #[.int .i64 x, .int .i64 y] w fun e w' => e = .returned (.int .i64 (cmpI x y)) ∧ w = w' := by
  by_cases h : x < y
  · have q : Hid (cmpI x y = -1) := by unfold Hid cmpI; rw [if_pos h]
    go_enter Tryz.func124, Tryz.ntmps124
    go_wp2
    go_ret
    rw [q.out]; exact ⟨rfl, rfl⟩
  · by_cases h2 : y < x
    · have q : Hid (cmpI x y = 1) := by unfold Hid cmpI; rw [if_neg h, if_pos h2]
      have h' : y ≤ x := by omega
      go_enter Tryz.func124, Tryz.ntmps124
      go_wp2
      go_ret
      rw [q.out]; exact ⟨rfl, rfl⟩
    · obtain rfl : x = y := by omega
      have q : Hid (cmpI x x = 0) := by unfold Hid cmpI; rw [if_neg h, if_neg h2]
      go_enter Tryz.func124, Tryz.ntmps124
      go_wp2
      go_ret
      rw [q.out]; exact ⟨rfl, rfl⟩
set_option maxRecDepth 100000 in
set_option maxHeartbeats 400000 in
theorem cmpPt_any (t v y : Int) (w : World) : Calls Tryz.prog 123 #[.agg #[.int .i64 t, .int .i64 v], .int .i64 y] w fun e w' => e = .returned (.int .i64 (cmpI t y)) ∧ Chg (fun _ => False) w w' := by
  go_enter Tryz.func123, Tryz.ntmps123
  go_wp2_with (go_at_call 124; refine (compare_any _ _ _).mono ?_; rintro e w' ⟨rfl, rfl⟩)
  go_ret
  exact ⟨rfl, (Chg.refl _ w).alloc _⟩
/-- Is there a point of that time? -/
def hasP (l : List Pt) (t : Int) : Bool := (l[posP l t]?).any fun x => x.1 == t
set_option maxRecDepth 100000 in
set_option maxHeartbeats 2000000 in
theorem search_any (w : World) (lv : Value) (L : List Pt) (t : Int) (hL : PtSl w lv L) (hs : Sorted L) (hl : L.length < 1099511627776) :
    Calls Tryz.prog 122 #[lv, .int .i64 t, .func (.func 123) #[] #[]] w fun e w' => e = .returned (.tuple #[.int .i64 (posP L t), .bool (hasP L t)]) ∧ Chg (fun _ => False) w w' := by
  obtain ⟨a, cap, rfl, h1, h2, h3, _, _⟩ := ownsRow_form hL
  unfold maxLen at h2
  have HL := hide hL
  have HS := hide hs
  have HA := hide h3
  have hple := posP_le L t
  have HC : Hid (∀ W, Chg (fun _ => False) w W → ∀ k (hk : k < L.length), ∃ g, a = some ⟨g, 0, none⟩ ∧ W.cell? ⟨g, k * 2, none⟩ = some (.int .i64 (L[k]'hk).1) ∧ W.cell? ⟨g, k * 2 + 1, none⟩ = some (.int .i64 (L[k]'hk).2)) := by
    intro W hc k hk
    obtain ⟨g, rfl⟩ := HA.out (by omega)
    have hW : PtSl W (.slice (some ⟨g, 0, none⟩) L.length cap) L := ownsRow_same HL.out fun g hg => hc.block g (ownsRow_lt HL.out hg) (fun h => h)
    exact ⟨g, rfl, hW.cells k hk⟩
  clear hL hs h3
  go_enter Tryz.func122, Tryz.ntmps122
  go_wp2
  go_loopw [9, 10] (fun iv jv wq => ∃ i j : Nat, i ≤ j ∧ j ≤ L.length ∧ iv = .int .i64 i ∧ jv = .int .i64 j ∧ Hid (i ≤ posP L t ∧ posP L t ≤ j) ∧ Hid (Chg (fun _ => False) w wq)) (fun iv jv _ => (intOf jv).toNat - (intOf iv).toNat)
  case atStart => exact ⟨0, L.length, Nat.zero_le _, Nat.le_refl _, rfl, rfl, ⟨Nat.zero_le _, hple⟩, Chg.refl _ _⟩
  case round =>
    obtain ⟨i, j, hij, hj, rfl, rfl, hpos, hcq⟩ := hrel
    by_cases hlt : i < j
    · obtain ⟨m, hm⟩ : ∃ m, (i + j) / 2 = m := ⟨_, rfl⟩
      have hmi : i ≤ m := by omega
      have hmj : m < j := by omega
      have hml : m < L.length := by omega
      obtain ⟨g, rfl, c1, c2⟩ := HC.out _ hcq.out m hml
      obtain ⟨⟨tm, vm⟩, hLm⟩ : ∃ x, L[m]'hml = x := ⟨_, rfl⟩
      rw [hLm] at c1 c2
      have HLm := hide hLm
      have i0 : (0 : Int) ≤ (i : Int) := Int.natCast_nonneg _
      have j0 : (0 : Int) ≤ (j : Int) := Int.natCast_nonneg _
      have m0 : (0 : Int) ≤ (m : Int) := Int.natCast_nonneg _
      have m1 : (m : Int) < (L.length : Int) := by omega
      have hsum : (i : Int) + (j : Int) ≤ 9223372036854775807 := by omega
      have hlt' : (i : Int) < (j : Int) := by omega
      clear hLm
      by_cases htm : tm < t
      · have hc : cmpI tm t < 0 := by unfold cmpI; rw [if_pos htm]; omega
        have hp : Hid (m + 1 ≤ posP L t) := by
          unfold Hid
          apply Decidable.byContradiction
          intro hn
          have := posP_ge HS.out (show posP L t ≤ m by omega) hml
          rw [HLm.out] at this
          simp only at this; omega
        go_wp2_with (go_at_call 123; refine (cmpPt_any _ _ _ _).mono ?_; rintro e w' ⟨rfl, hc5⟩; have HC5 := hide hc5; clear hc5)
        go_roundw
        case rel => exact ⟨m + 1, j, by omega, hj, by rw [show ((i : Int) + (j : Int)) / 2 + 1 = ((m + 1 : Nat) : Int) from by omega], rfl, ⟨hp.out, hpos.out.2⟩, hcq.out.trans HC5.out fun _ h _ => h⟩
        case measure => simp [intOf]; omega
      · have hc : 0 ≤ cmpI tm t := by
          unfold cmpI; rw [if_neg htm]; split <;> omega
        have hp : Hid (posP L t ≤ m) := by
          unfold Hid
          apply Decidable.byContradiction
          intro hn
          have := posP_lt (show m < posP L t by omega) hml
          rw [HLm.out] at this
          simp only at this; omega
        go_wp2_with (go_at_call 123; refine (cmpPt_any _ _ _ _).mono ?_; rintro e w' ⟨rfl, hc5⟩; have HC5 := hide hc5; clear hc5)
        go_roundw
        case rel => exact ⟨i, m, hmi, by omega, rfl, by rw [show ((i : Int) + (j : Int)) / 2 = (m : Int) from by omega], ⟨hpos.out.1, hp.out⟩, hcq.out.trans HC5.out fun _ h _ => h⟩
        case measure => simp [intOf]; omega
    · obtain rfl : i = j := by omega
      have HP : Hid (posP L t = i) := by have := hpos.out; unfold Hid; omega
      by_cases hil : i < L.length
      · obtain ⟨g, rfl, c1, c2⟩ := HC.out _ hcq.out i hil
        obtain ⟨⟨ti, vi⟩, hLi⟩ : ∃ x, L[i]'hil = x := ⟨_, rfl⟩
        rw [hLi] at c1 c2
        have i0 : (0 : Int) ≤ (i : Int) := Int.natCast_nonneg _
        have i1 : (i : Int) < (L.length : Int) := by omega
        have HH : Hid (hasP L t = (cmpI ti t == 0)) := by
          unfold Hid hasP
          rw [HP.out, List.getElem?_eq_getElem hil, hLi]
          simp only [Option.any_some]
          unfold cmpI
          by_cases e1 : ti < t
          · rw [if_pos e1]; have : ti ≠ t := by omega
            simp [this]
          · rw [if_neg e1]
            by_cases e2 : t < ti
            · rw [if_pos e2]; have : ti ≠ t := by omega
              simp [this]
            · rw [if_neg e2]; have : ti = t := by omega
              simp [this]
        clear hLi
        go_wp2_with (go_at_call 123; refine (cmpPt_any _ _ _ _).mono ?_; rintro e w' ⟨rfl, hc5⟩; have HC5 := hide hc5; clear hc5)
        go_ret2
        rw [HP.out, HH.out]
        exact ⟨rfl, hcq.out.trans HC5.out fun _ h _ => h⟩
      · have hil' : (L.length : Int) ≤ (i : Int) := by omega
        have HH : Hid (hasP L t = false) := by
          unfold Hid hasP
          rw [HP.out, List.getElem?_eq_none (by omega)]; rfl
        go_wp2
        go_ret2
        rw [HP.out, HH.out]
        exact ⟨rfl, hcq.out⟩
/-- What a question needs of a row: the slice in its one cell. -/
structure RowAt (w : World) (b o : Nat) (L : List Pt) (lv : Value) : Prop where
  cell : w.cell? ⟨b, o, none⟩ = some lv
  row : PtSl w lv L
  sorted : Sorted L
  small : L.length < 1099511627776
set_option maxRecDepth 100000 in
set_option maxHeartbeats 400000 in
theorem find_row (w : World) (b o : Nat) (L : List Pt) (lv : Value) (t : Int) (h : RowAt w b o L lv) :
    Calls Tryz.prog 93 #[.pointer (some ⟨b, o, none⟩), .int .i64 t] w fun e w' => e = .returned (.tuple #[.int .i64 (posP L t), .bool (hasP L t)]) ∧ Chg (fun _ => False) w w' := by
  have hc := h.cell
  obtain ⟨a, cap, rfl, _⟩ := ownsRow_form h.row
  have H := hide h
  clear h
  go_enter Tryz.func93, Tryz.ntmps93
  go_wp2_with (go_at_call 122; refine (search_any _ _ _ _ H.out.row H.out.sorted H.out.small).mono ?_; rintro e w' ⟨rfl, hc5⟩; have HC5 := hide hc5; clear hc5)
  go_ret2
  exact ⟨rfl, HC5.out⟩
end Go.Proofs.YtfaeidbgdcincaaGreatDoor
/- Walks: package points: Between. -/
namespace Go.Proofs.YtfaeidbgdcincaaGreatDoor
open Go.RowKit
attribute [local go_sem ↓] Go.wp_at_zero Go.wp_at_succ

theorem Tryz.infoPt2 : (Tryz.prog.info? 73).map (fun i => (i.zero, i.size, i.bytes)) = some (some (.agg #[.int .i64 0, .int .i64 0]), 2, 16) := by kernel_rfl
/-- The place of the next time. -/
theorem posP_next {l : List Pt} (hs : Sorted l) (t : Int) : posP l (t + 1) = posP l t + (if hasP l t then 1 else 0) := by
  have hle := posP_le l t
  by_cases h : hasP l t = true
  · rw [if_pos h]
    unfold hasP at h
    by_cases hl : posP l t < l.length
    · rw [List.getElem?_eq_getElem hl] at h
      simp at h
      refine posP_unique hs (by omega) (fun i hi hlt => ?_) fun i hi hge => ?_
      · by_cases e : i = posP l t
        · subst e; omega
        · have := posP_lt (show i < posP l t by omega) hi; omega
      · have := List.pairwise_iff_getElem.1 hs (posP l t) i hl hi (by omega)
        rw [h] at this; omega
    · rw [List.getElem?_eq_none (by omega)] at h; cases h
  · rw [if_neg h, Nat.add_zero]
    refine posP_unique hs hle (fun i hi hlt => ?_) fun i hi hge => ?_
    · have := posP_lt hlt hi; omega
    · have h2 := posP_ge hs hge hi
      by_cases e : (l[i]'hi).1 = t
      · exfalso
        apply h
        by_cases e2 : i = posP l t
        · subst e2; unfold hasP; rw [List.getElem?_eq_getElem hi]; simpa using e
        · have := List.pairwise_iff_getElem.1 hs (posP l t) i (by omega) hi (by omega)
          have := posP_ge hs (Nat.le_refl (posP l t)) (show posP l t < l.length by omega)
          omega
      · omega
theorem posP_mono {l : List Pt} (hs : Sorted l) {a b : Int} (h : a ≤ b) : posP l a ≤ posP l b := by
  apply Decidable.byContradiction
  intro hn
  have hl := posP_le l a
  have h1 := posP_lt (show posP l b < posP l a by omega) (by omega)
  have h2 := posP_ge hs (Nat.le_refl (posP l b)) (by omega)
  omega
/-- Those from a to b. -/
def piece (l : List Pt) (a b : Int) : List Pt := l.filter fun x => decide (a ≤ x.1) && decide (x.1 ≤ b)
theorem piece_eq {l : List Pt} (hs : Sorted l) (a b : Int) : piece l a b = (l.take (posP l b + (if hasP l b then 1 else 0))).drop (posP l a) := by
  rw [← posP_next hs b, ← filter_piece hs a (b + 1)]
  unfold piece
  congr 1
  funext x
  have : decide (x.1 ≤ b) = decide (x.1 < b + 1) := by
    apply Bool.eq_iff_iff.2; simp; omega
  rw [this]
set_option maxRecDepth 100000 in
set_option maxHeartbeats 2000000 in
theorem between_any (w : World) (rb ro : Nat) (L : List Pt) (lv : Value) (a b : Int) (h : RowAt w rb ro L lv) :
    Calls Tryz.prog 68 #[.pointer (some ⟨rb, ro, none⟩), .int .i64 a, .int .i64 b] w fun e w' => ∃ v, e = .returned v ∧ PtSl w' v (piece L a b) ∧ Chg (fun _ => False) w w' ∧ ∀ g, v.ownBlock = some g → w.heap.size ≤ g := by
  have H := hide h
  have hc := h.cell
  obtain ⟨ad, cap, rfl, h1, h2, h3, h4, h5⟩ := ownsRow_form h.row
  unfold maxLen at h2
  have HA := hide h3
  have hbl := World.block_lt_of_cell? w _ hc
  have HC : Hid (∀ W, Chg (fun _ => False) w W → RowAt W rb ro L (.slice ad L.length cap)) := fun W hW =>
    ⟨(World.cell?_of_block (hW.block rb hbl (fun h => h))).trans H.out.cell, ownsRow_same H.out.row fun g hg => hW.block g (ownsRow_lt H.out.row hg) (fun h => h), H.out.sorted, H.out.small⟩
  obtain ⟨i0, hi, hz0, hz1, hz2⟩ := info_parts Tryz.infoPt2
  have hsm := h.small
  have H4 := hide h4
  have H5 := hide h5
  clear h h3 h4 h5
  by_cases hab : b < a
  · have q : Hid (piece L a b = []) := by
      unfold Hid piece
      rw [List.filter_eq_nil_iff]
      intro x _
      simp; omega
    go_enter Tryz.func68, Tryz.ntmps68
    go_wp2
    go_ret
    exact ⟨_, rfl, by rw [q.out]; exact World.ownsRow_nil _ _ _ _, Chg.refl _ _, by simp [Value.ownBlock]⟩
  · have hab' : a ≤ b := by omega
    have hpe := piece_eq H.out.sorted a b
    have hm := posP_mono H.out.sorted hab'
    have hle := posP_le L b
    have hhas : hasP L b = true → posP L b < L.length := fun hh => by
      unfold hasP at hh
      apply Decidable.byContradiction
      intro hn
      rw [List.getElem?_eq_none (by omega)] at hh; cases hh
    obtain ⟨i, hiq⟩ : ∃ i, posP L a = i := ⟨_, rfl⟩
    obtain ⟨j, hjq⟩ : ∃ j, posP L b = j := ⟨_, rfl⟩
    obtain ⟨hs, hsq⟩ : ∃ hs, hasP L b = hs := ⟨_, rfl⟩
    rw [hiq, hjq] at hm
    rw [hjq] at hle
    rw [hsq, hjq] at hhas
    rw [hiq, hjq, hsq] at hpe
    have FA : Hid (∀ W, Chg (fun _ => False) w W → Calls Tryz.prog 93 #[.pointer (some ⟨rb, ro, none⟩), .int .i64 a] W fun e w' => ∃ x, e = .returned (.tuple #[.int .i64 i, .bool x]) ∧ Chg (fun _ => False) W w') := fun W hW =>
      (find_row W rb ro L _ a (HC.out W hW)).mono (by rintro e w' ⟨rfl, h⟩; rw [hiq]; exact ⟨_, rfl, h⟩)
    have FB : Hid (∀ W, Chg (fun _ => False) w W → Calls Tryz.prog 93 #[.pointer (some ⟨rb, ro, none⟩), .int .i64 b] W fun e w' => e = .returned (.tuple #[.int .i64 j, .bool hs]) ∧ Chg (fun _ => False) W w') := fun W hW =>
      (find_row W rb ro L _ b (HC.out W hW)).mono (by rintro e w' ⟨rfl, h⟩; rw [hjq, hsq]; exact ⟨rfl, h⟩)
    have HPE := hide hpe
    -- the piece, as it lies
    have SRC : Hid (∀ W (n : Nat), Chg (fun _ => False) w W → i ≤ n → n ≤ L.length → n = j + (if hs then 1 else 0) → ∀ v, (v = .slice (Option.map (fun x => x.add (i * 2)) ad) (n - i) (cap - i) ∨ (n = i ∧ ∃ x c, v = .slice x 0 c)) → Src Tryz.prog 2 66 v (n - i) (ptVals (piece L a b)) W ∧ (piece L a b).length = n - i) := by
      intro W n hW hin hnl hn v hv
      have hlen : (piece L a b).length = n - i := by rw [HPE.out, ← hn, List.length_drop, List.length_take]; omega
      have hrow := (HC.out W hW).row
      refine ⟨?_, hlen⟩
      have hat : ∀ g, ad = some ⟨g, 0, none⟩ → ∀ (k : Nat) u, (ptVals (piece L a b))[k]? = some u → W.cell? ⟨g, i * 2 + k, none⟩ = some u := by
        intro g hg k u hk
        subst hg
        refine ownsRow_cell hrow (g := g) rfl ?_
        rw [HPE.out, ← hn, ← ptVals_drop, ← ptVals_take, List.getElem?_drop, List.getElem?_take] at hk
        split at hk
        · exact hk
        · cases hk
      have hnil : n - i = 0 → ∀ x c, Src Tryz.prog 2 66 (.slice x 0 c) 0 (ptVals (piece L a b)) W := by
        intro h0 x c
        have : piece L a b = [] := List.eq_nil_of_length_eq_zero (by omega)
        rw [this]
        cases x with
        | none => exact Src.ofNil W Tryz.underlying66 c
        | some y => exact Src.ofSlice W Tryz.underlying66 _ 0 c [] rfl (by simp) (by simp)
      rcases hv with rfl | ⟨hni, x, c, rfl⟩
      · cases ad with
        | none =>
          have := (H4.out rfl).1
          have h0 : n - i = 0 := by omega
          rw [h0]; exact hnil h0 _ _
        | some x =>
          obtain ⟨g, rfl⟩ := H5.out x rfl
          refine Src.ofSlice W Tryz.underlying66 _ _ _ _ (by rw [ptVals_length, hlen]) (fun k u hk => ?_) (ptVals_oneCell _)
          have hx : Addr.add (Addr.add ⟨g, 0, none⟩ (i * 2)) k = ⟨g, i * 2 + k, none⟩ := by
            unfold Addr.add
            by_cases h1 : i * 2 = 0 <;> by_cases h2 : k = 0 <;> simp [h1, h2]
          rw [hx]; exact hat g rfl k u hk
      · have h0 : n - i = 0 := by omega
        rw [h0]
        exact hnil h0 x c
    have HLEN : Hid ((piece L a b).length = j + (if hs then 1 else 0) - i) := by
      unfold Hid
      rw [hpe, List.length_drop, List.length_take]
      cases hs with
      | true => have := hhas rfl; simp; omega
      | false => simp; omega
    clear hpe hiq hjq hsq
    have j0 : (0 : Int) ≤ (j : Int) := Int.natCast_nonneg _
    have iz : (0 : Int) ≤ (i : Int) := Int.natCast_nonneg _
    have hij : (i : Int) ≤ (j : Int) := by omega
    have hjc : (j : Int) ≤ (cap : Int) := by omega
    have hic : (i : Int) ≤ (cap : Int) := by omega
    have hbyt : (0 + (j + 1 - i)) * 16 ≤ 140737488355328 := by omega
    have FIN : Hid (∀ (W w3 : World) (n : Nat) (b3 : Option Addr) (cap3 : Nat), Chg (fun _ => False) w W → (piece L a b).length = n → App W w3 73 2 (.slice none 0 0) (.slice b3 (0 + n) cap3) (0 + n) ([] ++ ptVals (piece L a b)) → PtSl w3 (.slice b3 n cap3) (piece L a b) ∧ Chg (fun _ => False) w w3 ∧ ∀ g, (Value.slice b3 n cap3).ownBlock = some g → w.heap.size ≤ g) := by
      intro W w3 n b3 cap3 hW hn hA
      refine ⟨?_, hW.trans hA.chgNil fun _ h _ => h, fun g hg => ?_⟩
      · have := hA.own
        unfold PtSl
        rw [hn]; simpa using this
      · have := hA.fresh g (by simpa using hg)
        have := hW.size
        omega
    cases hs with
    | false =>
      by_cases hci : cap = i
      · obtain rfl : i = cap := hci.symm
        obtain rfl : j = i := by omega
        have SR0 : Hid (∀ W x c, Chg (fun _ => False) w W → Src Tryz.prog 2 66 (.slice x 0 c) 0 (ptVals (piece L a b)) W ∧ (piece L a b).length = 0) := fun W x c hW => by
          have := SRC.out W j hW (Nat.le_refl _) (by omega) (by simp) (.slice x 0 c) (.inr ⟨rfl, x, c, rfl⟩)
          rwa [Nat.sub_self] at this
        clear SRC HPE HLEN
        go_enter Tryz.func68, Tryz.ntmps68
        go_wp2_with (fail)
        refine (FA.out _ (Chg.refl _ _)).mono ?_
        rintro e w1 ⟨x, rfl, k1⟩
        have K1 := hide k1
        clear k1
        go_wp2_with (fail)
        refine (FB.out _ K1.out).mono ?_
        rintro e w2 ⟨rfl, k2⟩
        have K2 : Hid (Chg (fun _ => False) w w2) := K1.out.trans k2 fun _ h _ => h
        have c2 := (HC.out _ K2.out).cell
        clear k2
        go_wp2_with (at_builtin; refine wpList_app rfl (.const (.slice none 0 0)) (.tmp 35) 66 66 rfl 73 i0 _ 2 16 Tryz.underlying66 hi hz0 hz1 hz2 rfl (by decide) (.slice none 0 0) 0 [] (by rfl) (World.ownsRow_nil _ 0 73 2) _ 0 _ (by rfl) (SR0.out _ _ _ K2.out).1 (by omega) ?_; intro b3 cap3 w3 hA; have hA3 := hide (FIN.out _ w3 _ b3 cap3 K2.out (SR0.out _ none 0 K2.out).2 hA); clear hA)
        go_ret
        exact ⟨_, rfl, hA3.out.1, hA3.out.2.1, hA3.out.2.2⟩
      · skip
        go_enter Tryz.func68, Tryz.ntmps68
        go_wp2_with (fail)
        refine (FA.out _ (Chg.refl _ _)).mono ?_
        rintro e w1 ⟨x, rfl, k1⟩
        have K1 := hide k1
        clear k1
        go_wp2_with (fail)
        refine (FB.out _ K1.out).mono ?_
        rintro e w2 ⟨rfl, k2⟩
        have K2 : Hid (Chg (fun _ => False) w w2) := K1.out.trans k2 fun _ h _ => h
        have c2 := (HC.out _ K2.out).cell
        clear k2
        go_wp2_with (at_builtin; refine wpList_app rfl (.const (.slice none 0 0)) (.tmp 35) 66 66 rfl 73 i0 _ 2 16 Tryz.underlying66 hi hz0 hz1 hz2 rfl (by decide) (.slice none 0 0) 0 [] (by rfl) (World.ownsRow_nil _ 0 73 2) _ (j - i) _ (by rfl) (SRC.out _ j K2.out (by omega) (by omega) (by simp) _ (.inl rfl)).1 (by omega) ?_; intro b3 cap3 w3 hA; have hA3 := hide (FIN.out _ w3 _ b3 cap3 K2.out (SRC.out _ j K2.out (by omega) (by omega) (by simp) _ (.inl rfl)).2 hA); clear hA)
        go_ret
        exact ⟨_, rfl, hA3.out.1, hA3.out.2.1, hA3.out.2.2⟩
    | true =>
      have hjl : j < L.length := hhas rfl
      have hjc' : (j : Int) + 1 ≤ (cap : Int) := by omega
      have hij' : (i : Int) ≤ (j : Int) + 1 := by omega
      have hjt : ((j : Int) + 1).toNat = j + 1 := by omega
      by_cases hci : cap = i
      · exfalso; omega
      · skip
        go_enter Tryz.func68, Tryz.ntmps68
        go_wp2_with (fail)
        refine (FA.out _ (Chg.refl _ _)).mono ?_
        rintro e w1 ⟨x, rfl, k1⟩
        have K1 := hide k1
        clear k1
        go_wp2_with (fail)
        refine (FB.out _ K1.out).mono ?_
        rintro e w2 ⟨rfl, k2⟩
        have K2 : Hid (Chg (fun _ => False) w w2) := K1.out.trans k2 fun _ h _ => h
        have c2 := (HC.out _ K2.out).cell
        clear k2
        go_wp2_with (at_builtin; refine wpList_app rfl (.const (.slice none 0 0)) (.tmp 35) 66 66 rfl 73 i0 _ 2 16 Tryz.underlying66 hi hz0 hz1 hz2 rfl (by decide) (.slice none 0 0) 0 [] (by rfl) (World.ownsRow_nil _ 0 73 2) _ ((j + 1) - i) _ (by rfl) (SRC.out _ (j + 1) K2.out (by omega) (by omega) (by simp) _ (.inl rfl)).1 (by omega) ?_; intro b3 cap3 w3 hA; have hA3 := hide (FIN.out _ w3 _ b3 cap3 K2.out (SRC.out _ (j + 1) K2.out (by omega) (by omega) (by simp) _ (.inl rfl)).2 hA); clear hA)
        go_ret
        exact ⟨_, rfl, hA3.out.1, hA3.out.2.1, hA3.out.2.2⟩
end Go.Proofs.YtfaeidbgdcincaaGreatDoor
/- Walks: package points: Forget. -/
namespace Go.Proofs.YtfaeidbgdcincaaGreatDoor
open Go.RowKit
attribute [local go_sem ↓] Go.wp_at_zero Go.wp_at_succ

/-- A row in its place: one cell of a block that is known. -/
structure RowIn (w : World) (b o : Nat) (cs : Array Value) (T : Nat) (L : List Pt) (lv : Value) : Prop where
  blk : w.heap[b]? = some (.cells cs T (0, 0))
  at_ : cs[o]? = some lv
  row : PtSl w lv L
  sorted : Sorted L
  small : L.length < 1099511627776
theorem RowIn.toAt {w : World} {b o : Nat} {cs : Array Value} {T : Nat} {L : List Pt} {lv : Value} (h : RowIn w b o cs T L lv) : RowAt w b o L lv :=
  ⟨by simp [World.cell?, h.blk, h.at_], h.row, h.sorted, h.small⟩
theorem RowIn.chg {w w' : World} {b o : Nat} {cs : Array Value} {T : Nat} {L : List Pt} {lv : Value} (h : RowIn w b o cs T L lv) (hc : Chg (fun _ => False) w w') : RowIn w' b o cs T L lv :=
  ⟨(hc.block b (lt_of_block h.blk) (fun h => h)).trans h.blk, h.at_, ownsRow_same h.row fun g hg => hc.block g (ownsRow_lt h.row hg) (fun h => h), h.sorted, h.small⟩
/-- What a call that turns a row leaves. -/
structure RowTo (w w' : World) (b o : Nat) (cs : Array Value) (T : Nat) (lv : Value) (L' : List Pt) (lv' : Value) : Prop where
  row : RowIn w' b o (cs.setIfInBounds o lv') T L' lv'
  chg : Chg (fun k => k = b ∨ lv.ownBlock = some k) w w'
  own : ∀ g, lv'.ownBlock = some g → lv.ownBlock = some g ∨ w.heap.size ≤ g
set_option maxRecDepth 100000 in
set_option maxHeartbeats 2000000 in
theorem forget_any (w : World) (rb ro : Nat) (cs : Array Value) (T : Nat) (hT : T ≠ 73) (L : List Pt) (lv : Value) (t : Int) (h : RowIn w rb ro cs T L lv) :
    Calls Tryz.prog 63 #[.pointer (some ⟨rb, ro, none⟩), .int .i64 t] w fun e w' => e = .returned (.tuple #[]) ∧ ∃ L' lv', (L' = L ∨ L' = L.drop (posP L t)) ∧ RowTo w w' rb ro cs T lv L' lv' := by
  have H := hide h
  obtain ⟨ad, cap, rfl, h1, h2, h3, h4, h5⟩ := ownsRow_form h.row
  unfold maxLen at h2
  have HA := hide h3
  have H4 := hide h4
  have H5 := hide h5
  obtain ⟨i0, hi, hz0, hz1, hz2⟩ := info_parts Tryz.infoPt2
  have hsm := h.small
  have hle := posP_le L t
  obtain ⟨i, hiq⟩ : ∃ i, posP L t = i := ⟨_, rfl⟩
  rw [hiq] at hle
  have FA : Hid (Calls Tryz.prog 93 #[.pointer (some ⟨rb, ro, none⟩), .int .i64 t] w fun e w' => ∃ x, e = .returned (.tuple #[.int .i64 i, .bool x]) ∧ Chg (fun _ => False) w w') :=
    (find_row w rb ro L _ t h.toAt).mono (by rintro e w' ⟨rfl, h⟩; rw [hiq]; exact ⟨_, rfl, h⟩)
  have HIQ := hide hiq
  clear h h3 h4 h5 hiq
  have iz : (0 : Int) ≤ (i : Int) := Int.natCast_nonneg _
  have hic : (i : Int) ≤ (L.length : Int) := by omega
  have hlc : (L.length : Int) ≤ (cap : Int) := by omega
  by_cases hgt : ((L.length : Int) / 2 < (i : Int))
  · -- what is left is laid anew
    have SRC : Hid (∀ W, Chg (fun _ => False) w W → ∀ v m, (v = .slice (Option.map (fun x => x.add (i * 2)) ad) m (cap - i) ∧ m = L.length - i ∨ (L.length = i ∧ m = 0 ∧ ∃ x c, v = .slice x 0 c)) → Src Tryz.prog 2 66 v m (ptVals (L.drop i)) W) := by
      intro W hW v m hv
      have hrow := (H.out.chg hW).row
      have hnil : L.length - i = 0 → ∀ x c, Src Tryz.prog 2 66 (.slice x 0 c) 0 (ptVals (L.drop i)) W := by
        intro h0 x c
        have : L.drop i = [] := List.drop_of_length_le (by omega)
        rw [this]
        cases x with
        | none => exact Src.ofNil W Tryz.underlying66 c
        | some y => exact Src.ofSlice W Tryz.underlying66 _ 0 c [] rfl (by simp) (by simp)
      rcases hv with ⟨rfl, rfl⟩ | ⟨hni, rfl, x, c, rfl⟩
      · cases ad with
        | none =>
          have := (H4.out rfl).1
          have h0 : L.length - i = 0 := by omega
          rw [h0]; exact hnil h0 _ _
        | some x =>
          obtain ⟨g, rfl⟩ := H5.out x rfl
          refine Src.ofSlice W Tryz.underlying66 _ _ _ _ (by rw [ptVals_length, List.length_drop]) (fun k u hk => ?_) (ptVals_oneCell _)
          have hx : Addr.add (Addr.add ⟨g, 0, none⟩ (i * 2)) k = ⟨g, i * 2 + k, none⟩ := by
            unfold Addr.add
            by_cases h1 : i * 2 = 0 <;> by_cases h2 : k = 0 <;> simp [h1, h2]
          rw [hx]
          refine ownsRow_cell hrow (g := g) rfl ?_
          rw [← ptVals_drop, List.getElem?_drop] at hk; exact hk
      · exact hnil (by omega) x c
    have FIN : Hid (∀ (W w3 : World) (m : Nat) (b3 : Option Addr) (cap3 : Nat), Chg (fun _ => False) w W → m = L.length - i → App W w3 73 2 (.slice none 0 0) (.slice b3 (0 + m) cap3) (0 + m) ([] ++ ptVals (L.drop i)) →
        w3.cell? ⟨rb, ro, none⟩ = some (.slice ad L.length cap) ∧ w3.frozen? ⟨rb, ro, none⟩ = false ∧ RowTo w (w3.setCell ⟨rb, ro, none⟩ (.slice b3 m cap3)) rb ro cs T (.slice ad L.length cap) (L.drop i) (.slice b3 m cap3)) := by
      intro W w3 m b3 cap3 hW hm hA
      subst hm
      have hb3 : w3.heap[rb]? = some (.cells cs T (0, 0)) := (hA.chgNil.block rb (lt_of_block (H.out.chg hW).blk) (fun h => h)).trans (H.out.chg hW).blk
      have hrow : PtSl w3 (.slice b3 (L.length - i) cap3) (L.drop i) := by
        have := hA.own
        unfold PtSl
        rw [List.length_drop]; simpa using this
      have hw3 : Chg (fun _ => False) w w3 := hW.trans hA.chgNil fun _ h _ => h
      refine ⟨by simp [World.cell?, hb3, H.out.at_], by simp [World.frozen?, hb3], ⟨⟨heap_setCell_at hb3, ?_, ?_, H.out.sorted.drop i, by rw [List.length_drop]; omega⟩, ?_, ?_⟩⟩
      · have hlt : ro < cs.size := (Array.getElem?_eq_some_iff.1 H.out.at_).1
        simp [hlt]
      · refine ownsRow_same hrow fun g hg => ?_
        have hne : g ≠ rb := fun e => by
          obtain ⟨c, hh⟩ := ownsRow_elem hrow hg
          subst e
          rw [hb3] at hh; cases hh; exact hT rfl
        exact Below.heap_setCell _ _ _ _ (fun e => hne (by simpa using e))
      · exact (hw3.mono (fun _ _ h => h.elim)).setAt (.inl rfl) ro _
      · intro g hg
        right
        have := hA.fresh g (by simpa using hg)
        have := hW.size
        omega
    by_cases hci : cap = i
    · obtain rfl : i = cap := hci.symm
      have hli : L.length = i := by omega
      have HLI := hide hli
      clear hli
      go_enter Tryz.func63, Tryz.ntmps63
      go_wp2_with (fail)
      refine FA.out.mono ?_
      rintro e w1 ⟨x, rfl, k1⟩
      have K1 := hide k1
      have c2 := (H.out.chg k1).toAt.cell
      clear k1
      go_wp2_with (at_builtin; refine wpList_app rfl (.const (.slice none 0 0)) (.tmp 26) 66 66 rfl 73 i0 _ 2 16 Tryz.underlying66 hi hz0 hz1 hz2 rfl (by decide) (.slice none 0 0) 0 [] (by rfl) (World.ownsRow_nil _ 0 73 2) _ 0 _ (by rfl) (SRC.out _ K1.out _ 0 (.inr ⟨HLI.out, rfl, _, _, rfl⟩)) (by omega) ?_; intro b3 cap3 w3 hA; have hA3 := hide (FIN.out _ w3 0 b3 cap3 K1.out (by have := HLI.out; omega) hA); have y1 := hA3.out.1; have y2 := hA3.out.2.1; clear hA)
      go_end0
      refine ⟨rfl, _, .slice b3 0 cap3, .inr rfl, ?_⟩
      rw [HIQ.out]
      have := hA3.out.2.2
      simpa using this
    · go_enter Tryz.func63, Tryz.ntmps63
      go_wp2_with (fail)
      refine FA.out.mono ?_
      rintro e w1 ⟨x, rfl, k1⟩
      have K1 := hide k1
      have c2 := (H.out.chg k1).toAt.cell
      clear k1
      go_wp2_with (at_builtin; refine wpList_app rfl (.const (.slice none 0 0)) (.tmp 26) 66 66 rfl 73 i0 _ 2 16 Tryz.underlying66 hi hz0 hz1 hz2 rfl (by decide) (.slice none 0 0) 0 [] (by rfl) (World.ownsRow_nil _ 0 73 2) _ (L.length - i) _ (by rfl) (SRC.out _ K1.out _ _ (.inl ⟨rfl, rfl⟩)) (by omega) ?_; intro b3 cap3 w3 hA; have hA3 := hide (FIN.out _ w3 _ b3 cap3 K1.out rfl hA); have y1 := hA3.out.1; have y2 := hA3.out.2.1; clear hA)
      go_end0
      refine ⟨rfl, _, .slice b3 (L.length - i) cap3, .inr rfl, ?_⟩
      rw [HIQ.out]
      have := hA3.out.2.2
      simpa using this
  · have hgt' : (i : Int) ≤ (L.length : Int) / 2 := by omega
    go_enter Tryz.func63, Tryz.ntmps63
    go_wp2_with (fail)
    refine FA.out.mono ?_
    rintro e w1 ⟨x, rfl, k1⟩
    have K1 := hide k1
    have c2 := (H.out.chg k1).toAt.cell
    clear k1
    go_wp2
    go_end0
    have hR := H.out.chg K1.out
    refine ⟨rfl, L, _, .inl rfl, ⟨?_, K1.out.mono (fun _ _ h => h.elim), fun g hg => .inl hg⟩⟩
    have hset : cs.setIfInBounds ro (.slice ad L.length cap) = cs := by
      obtain ⟨hlt, he⟩ := Array.getElem?_eq_some_iff.1 H.out.at_
      apply Array.ext_getElem?
      intro k
      by_cases hk : ro = k
      · subst hk; simp [hlt, he]
      · rw [Array.getElem?_setIfInBounds_ne hk]
    rw [hset]
    exact hR
end Go.Proofs.YtfaeidbgdcincaaGreatDoor
