/-
  The statement PassingCardSaid is proved: the law Passing answers true at every four numbers. No condition but the listed tables. (At this commit Flush and Compact do nothing.)
-/
import Derived.Test.YtfaeidbgdcincaaGreatDoorPart11
import Derived.Test.YtfaeidbgdcincaaGreatDoorPart12
import Derived.Test.YtfaeidbgdcincaaGreatDoorPart06
import Derived.Test.YtfaeidbgdcincaaGreatDoorPart22
import Derived.Test.YtfaeidbgdcincaaGreatDoorPart23
/- Walks: tideskeep: pick, at, none: over whatever a question is answered. -/
namespace Go.Proofs.YtfaeidbgdcincaaGreatDoor
open Go.RowKit
attribute [local go_sem ↓] Go.wp_at_zero Go.wp_at_succ

/-- Which of n things a raw number speaks of. -/
def kpickN (c n : Int) : Int := (if c < 0 then -(c + 1) else c) % n
theorem kpickN_lt (c n : Int) (hn : 0 < n) : 0 ≤ kpickN c n ∧ kpickN c n < n := by
  unfold kpickN
  exact ⟨Int.emod_nonneg _ (by omega), Int.emod_lt_of_pos _ hn⟩
set_option maxRecDepth 100000 in
set_option maxHeartbeats 1000000 in
theorem kpick_any (w : World) (c n : Int) (hc : In64 c) (hn : 0 < n ∧ n ≤ 9223372036854775807) :
    Calls Tryz.prog 18 #[.int .i64 c, .int .i64 n] w fun e w' => e = .returned (.int .i64 (kpickN c n)) ∧ w = w' := by
  obtain ⟨c1, c2⟩ := hc
  obtain ⟨n1, n2⟩ := hn
  have hb := kpickN_lt c n n1
  have n0 : ¬ n = 0 := by omega
  have nm : ¬ n = -1 := by omega
  by_cases h : c < 0
  · have e1 : IntKind.i64.wrap (c + 1) = c + 1 := by simp [IntKind.wrap, IntKind.bits, IntKind.signed]; omega
    have e2 : IntKind.i64.wrap (-(c + 1)) = -(c + 1) := by simp [IntKind.wrap, IntKind.bits, IntKind.signed]; omega
    have hq : kpickN c n = -((c + 1).tmod n) := by unfold kpickN; rw [if_pos h, ← Int.neg_tmod, Int.tmod_eq_emod_of_nonneg (by omega)]
    rw [hq] at hb ⊢
    have e3 : IntKind.i64.wrap (-((c + 1).tmod n)) = -((c + 1).tmod n) := by simp [IntKind.wrap, IntKind.bits, IntKind.signed]; omega
    go_enter Tryz.func18, Tryz.ntmps18
    go_wp2
    go_ret
    exact ⟨rfl, rfl⟩
  · have hq : kpickN c n = c % n := by unfold kpickN; rw [if_neg h]
    rw [hq] at hb ⊢
    have e3 : IntKind.i64.wrap (c % n) = c % n := by simp [IntKind.wrap, IntKind.bits, IntKind.signed]; omega
    go_enter Tryz.func18, Tryz.ntmps18
    go_wp2
    go_ret
    exact ⟨rfl, rfl⟩
set_option maxRecDepth 100000 in
set_option maxHeartbeats 1000000 in
theorem at_of (w : World) (sv : Value) (k t v : Int) (L : List Pt)
    (h : Calls Tryz.prog 31 #[sv, .int .i64 k, .int .i64 t, .int .i64 t] w fun e w' => ∃ x, e = .returned (.tuple #[x, .int .i64 0]) ∧ PtSl w' x L ∧ Chg (fun _ => False) w w') :
    Calls Tryz.prog 24 #[sv, .int .i64 k, .int .i64 t, .int .i64 v] w fun e w' => e = .returned (.bool (decide (L = [(t, v)]))) ∧ Chg (fun _ => False) w w' := by
  have H := hide h
  obtain ⟨R, hR⟩ : ∃ R, decide (L = [(t, v)]) = R := ⟨_, rfl⟩
  rw [hR]
  have HR := hide hR
  clear h hR
  go_enter Tryz.func24, Tryz.ntmps24
  go_wp2_with (fail)
  refine H.out.mono ?_
  rintro e w1 ⟨x, rfl, hx, hc⟩
  have HC := hide hc
  have HX := hide hx
  obtain ⟨a, cap, rfl, hcap, hmax, hs, -⟩ := ownsRow_form hx
  unfold maxLen at hmax
  clear hc H
  by_cases h1 : L.length = 1
  · obtain ⟨g, rfl⟩ := hs (by omega)
    obtain ⟨⟨t', v'⟩, rfl⟩ := List.length_eq_one_iff.1 h1
    obtain ⟨q0, q1⟩ := hx.cells 0 (by simp)
    simp only [Nat.zero_mul, Nat.zero_add, List.getElem_cons_zero] at q0 q1
    have hR2 : R = (decide (t' = t) && decide (v' = v)) := by
      rw [← HR.out]; simp
    clear hx hs
    simp only [List.length_singleton] at hcap ⊢
    by_cases h2 : t' = t
    · by_cases h3 : v' = v
      · subst h2 h3
        have hR3 : R = true := by rw [hR2]; simp
        subst hR3
        clear hR2
        go_wp2
        go_ret
        exact ⟨rfl, HC.out⟩
      · have hR3 : R = false := by rw [hR2]; simp [h3]
        subst hR3
        clear hR2
        have hb : (v' == v) = false := by simpa using h3
        subst h2
        go_wp2
        go_ret
        exact ⟨rfl, HC.out⟩
    · have hR3 : R = false := by rw [hR2]; simp [h2]
      subst hR3
      clear hR2
      have hb : (t' == t) = false := by simpa using h2
      go_wp2
      go_ret
      exact ⟨rfl, HC.out⟩
  · have hR3 : R = false := by
      rw [← HR.out, decide_eq_false_iff_not]
      intro e; subst e; exact h1 rfl
    subst hR3
    have hb : ((L.length : Int) == 1) = false := beq_eq_false_iff_ne.2 (by omega)
    clear hx hs
    go_wp2
    go_ret
    exact ⟨rfl, HC.out⟩
set_option maxRecDepth 100000 in
set_option maxHeartbeats 1000000 in
theorem none_of (w : World) (sv : Value) (k t : Int) (L : List Pt)
    (h : Calls Tryz.prog 31 #[sv, .int .i64 k, .int .i64 t, .int .i64 t] w fun e w' => ∃ x, e = .returned (.tuple #[x, .int .i64 0]) ∧ PtSl w' x L ∧ Chg (fun _ => False) w w') :
    Calls Tryz.prog 26 #[sv, .int .i64 k, .int .i64 t] w fun e w' => e = .returned (.bool (decide (L = []))) ∧ Chg (fun _ => False) w w' := by
  have H := hide h
  obtain ⟨R, hR⟩ : ∃ R, decide (L = []) = R := ⟨_, rfl⟩
  rw [hR]
  have HR := hide hR
  clear h hR
  go_enter Tryz.func26, Tryz.ntmps26
  go_wp2_with (fail)
  refine H.out.mono ?_
  rintro e w1 ⟨x, rfl, hx, hc⟩
  have HC := hide hc
  obtain ⟨a, cap, rfl, hcap, hmax, hs, -⟩ := ownsRow_form hx
  unfold maxLen at hmax
  clear hc H hx hs
  by_cases h1 : L.length = 0
  · have hR3 : R = true := by rw [← HR.out, decide_eq_true_eq]; exact List.eq_nil_of_length_eq_zero h1
    subst hR3
    have hb : ((L.length : Int) == 0) = true := by rw [h1]; rfl
    go_wp2
    go_ret
    exact ⟨rfl, HC.out⟩
  · have hR3 : R = false := by
      rw [← HR.out, decide_eq_false_iff_not]
      intro e; subst e; exact h1 rfl
    subst hR3
    have hb : ((L.length : Int) == 0) = false := beq_eq_false_iff_ne.2 (by omega)
    go_wp2
    go_ret
    exact ⟨rfl, HC.out⟩
end Go.Proofs.YtfaeidbgdcincaaGreatDoor
/- Walks: tideskeep.Passing, over what a store's calls answer. -/
namespace Go.Proofs.YtfaeidbgdcincaaGreatDoor
open Go.RowKit
attribute [local go_sem ↓] Go.wp_at_zero Go.wp_at_succ

/-- What the calls of a store with one point answer. -/
structure Passes (time long : Int) (sv : Value) (P : World → Int → Prop) : Prop where
  keep : ∀ w w' c, P w c → Chg (fun _ => False) w w' → P w' c
  query : ∀ w c, P w c → Calls Tryz.prog 31 #[sv, .int .i64 4, .int .i64 time, .int .i64 time] w fun e w' => ∃ x, e = .returned (.tuple #[x, .int .i64 0]) ∧ PtSl w' x (if aliveB time long c then [(time, 9)] else []) ∧ Chg (fun _ => False) w w'
  flush : ∀ w c, P w c → Calls Tryz.prog 22 #[sv] w fun e w' => e = .returned (.int .i64 0) ∧ P w' c
  compact : ∀ w c, P w c → Calls Tryz.prog 23 #[sv] w fun e w' => e = .returned (.int .i64 0) ∧ P w' c
  tick : ∀ w c x, P w c → In64 c → 0 ≤ x → x ≤ 9223372036854775807 → Calls Tryz.prog 25 #[sv, .int .i64 x] w fun e w' => e = .returned (.int .i64 0) ∧ P w' (tickedN c x)
section
variable {time long c : Int} {sv : Value} {P : World → Int → Prop} {w : World}
theorem Passes.at1 (h : Passes time long sv P) (hp : P w c) (ha : aliveB time long c = true) :
    Calls Tryz.prog 24 #[sv, .int .i64 4, .int .i64 time, .int .i64 9] w fun e w' => e = .returned (.bool true) ∧ P w' c := by
  refine (at_of w sv 4 time 9 _ (h.query w c hp)).mono ?_
  rintro e w' ⟨rfl, hc⟩
  rw [ha]
  exact ⟨by simp, h.keep _ _ _ hp hc⟩
theorem Passes.none1 (h : Passes time long sv P) (hp : P w c) (b : Bool) (ha : aliveB time long c = !b) :
    Calls Tryz.prog 26 #[sv, .int .i64 4, .int .i64 time] w fun e w' => e = .returned (.bool b) ∧ P w' c := by
  refine (none_of w sv 4 time _ (h.query w c hp)).mono ?_
  rintro e w' ⟨rfl, hc⟩
  rw [ha]
  exact ⟨by cases b <;> simp, h.keep _ _ _ hp hc⟩
end
section
variable {w : World} {time long ticks how : Int}
/-- The first clock. -/
def firstN (time long : Int) : Int := if time ≤ 9223372036854775807 - long then time + long - 1 else time
set_option maxRecDepth 100000 in
set_option maxHeartbeats 4000000 in
theorem passing_of (Q : World → Prop) (w : World) (time long0 ticks how : Int) (ht : In64 time) (hlg : In64 long0) (htk : In64 ticks) (hhw : In64 how)
    (NW : Calls Tryz.prog 19 #[.int .i64 1152921504606846976] w fun e w' => ∃ b, e = .returned (.pointer (some ⟨b, 0, none⟩)) ∧
      ∀ window, 1 ≤ window ∧ window ≤ 50 → Calls Tryz.prog 20 #[.pointer (some ⟨b, 0, none⟩), .agg #[.int .i64 (1 + kpickN long0 4611686018427387904), .int .i64 window], .int .i64 (firstN time (1 + kpickN long0 4611686018427387904))] w' fun e w' => ∃ sb, e = .returned (.tuple #[.pointer (some ⟨sb, 0, none⟩), .int .i64 0]) ∧
        ∃ P, Passes time (1 + kpickN long0 4611686018427387904) (.pointer (some ⟨sb, 0, none⟩)) P ∧ (∀ w c, P w c → Q w) ∧
          Calls Tryz.prog 21 #[.pointer (some ⟨sb, 0, none⟩), .int .i64 4, .int .i64 time, .int .i64 9] w' fun e w' => e = .returned (.int .i64 0) ∧ P w' (firstN time (1 + kpickN long0 4611686018427387904))) :
    Calls Tryz.prog 9 #[.int .i64 time, .int .i64 long0, .int .i64 ticks, .int .i64 how] w fun e w' => e = .returned (.bool true) ∧ Q w' := by
  have PK1 := hide (fun w' => kpick_any w' long0 4611686018427387904 hlg (by decide))
  have PK2 := hide (fun w' => kpick_any w' ticks 50 htk (by decide))
  have PK3 := hide (fun w' => kpick_any w' how 3 hhw (by decide))
  obtain ⟨p1a, p1b⟩ := kpickN_lt long0 4611686018427387904 (by decide)
  obtain ⟨p2a, p2b⟩ := kpickN_lt ticks 50 (by decide)
  obtain ⟨p3a, p3b⟩ := kpickN_lt how 3 (by decide)
  obtain ⟨t1, t2⟩ := ht
  generalize kpickN long0 4611686018427387904 = l0 at *
  generalize kpickN ticks 50 = pt at *
  generalize kpickN how 3 = ph at *
  have HN := hide NW
  clear NW hlg htk hhw
  have ew1 : IntKind.i64.wrap (1 + l0) = 1 + l0 := by simp [IntKind.wrap, IntKind.bits, IntKind.signed]; omega
  have ew2 : IntKind.i64.wrap (1 + pt) = 1 + pt := by simp [IntKind.wrap, IntKind.bits, IntKind.signed]; omega
  have ew3 : IntKind.i64.wrap (9223372036854775807 - (1 + l0)) = 9223372036854775807 - (1 + l0) := by simp [IntKind.wrap, IntKind.bits, IntKind.signed]; omega
  by_cases hcase : time ≤ 9223372036854775807 - (1 + l0)
  · have ew4 : IntKind.i64.wrap (time + (1 + l0)) = time + (1 + l0) := by simp [IntKind.wrap, IntKind.bits, IntKind.signed]; omega
    have ew5 : IntKind.i64.wrap (time + (1 + l0) - 1) = time + (1 + l0) - 1 := by simp [IntKind.wrap, IntKind.bits, IntKind.signed]; omega
    have hf : firstN time (1 + l0) = time + (1 + l0) - 1 := by unfold firstN; rw [if_pos hcase]
    rw [hf] at HN
    have a1 : aliveB time (1 + l0) (time + (1 + l0) - 1) = true := by unfold aliveB; simp; omega
    have a2 : aliveB time (1 + l0) (tickedN (time + (1 + l0) - 1) 1) = !true := by unfold aliveB tickedN; split <;> simp <;> omega
    have hin : Hid (In64 (time + (1 + l0) - 1)) := by constructor <;> omega
    obtain rfl | rfl | rfl : ph = 0 ∨ ph = 1 ∨ ph = 2 := by omega
    · go_enter Tryz.func9, Tryz.ntmps9
      go_wp2_with (fail)
      refine (PK1.out _).mono ?_
      rintro e w1 ⟨rfl, rfl⟩
      go_wp2_with (fail)
      refine HN.out.mono ?_
      rintro e w1 ⟨b, rfl, HO0⟩
      have HO := hide HO0
      clear HO0
      go_wp2_with (fail)
      refine (PK2.out _).mono ?_
      rintro e w1 ⟨rfl, rfl⟩
      go_wp2_with (fail)
      refine (HO.out _ (by omega)).mono ?_
      rintro e w2 ⟨sb, rfl, P, HP0, HQ0, PU0⟩
      have HP := hide HP0
      have HQ := hide HQ0
      have PU := hide PU0
      clear HP0 HQ0 PU0 HO HN PK1 PK2
      go_wp2_with (fail)
      refine PU.out.mono ?_
      rintro e w3 ⟨rfl, hp⟩
      have H3 := hide hp
      clear hp PU
      go_wp2_with (fail)
      refine (PK3.out _).mono ?_
      rintro e w1 ⟨rfl, rfl⟩
      go_wp2_with (fail)
      refine (PK3.out _).mono ?_
      rintro e w1 ⟨rfl, rfl⟩
      go_wp2_with (fail)
      refine (HP.out.at1 H3.out a1).mono ?_
      rintro e w4 ⟨rfl, hp⟩
      have H4 := hide hp
      clear hp H3
      go_wp2_with (fail)
      refine (HP.out.tick _ _ 1 H4.out hin.out (by omega) (by omega)).mono ?_
      rintro e w5 ⟨rfl, hp⟩
      have H5 := hide hp
      clear hp H4
      go_wp2_with (fail)
      refine (HP.out.none1 H5.out true a2).mono ?_
      rintro e w6 ⟨rfl, hp⟩
      have H6 := hide hp
      clear hp H5
      go_wp2_with (fail)
      refine (HP.out.compact _ _ H6.out).mono ?_
      rintro e w7 ⟨rfl, hp⟩
      have H7 := hide hp
      clear hp H6
      go_wp2_with (fail)
      refine (HP.out.none1 H7.out true a2).mono ?_
      rintro e w8 ⟨rfl, hp⟩
      have H8 := hide hp
      clear hp H7
      go_wp2
      go_ret
      exact ⟨rfl, HQ.out _ _ H8.out⟩
    · go_enter Tryz.func9, Tryz.ntmps9
      go_wp2_with (fail)
      refine (PK1.out _).mono ?_
      rintro e w1 ⟨rfl, rfl⟩
      go_wp2_with (fail)
      refine HN.out.mono ?_
      rintro e w1 ⟨b, rfl, HO0⟩
      have HO := hide HO0
      clear HO0
      go_wp2_with (fail)
      refine (PK2.out _).mono ?_
      rintro e w1 ⟨rfl, rfl⟩
      go_wp2_with (fail)
      refine (HO.out _ (by omega)).mono ?_
      rintro e w2 ⟨sb, rfl, P, HP0, HQ0, PU0⟩
      have HP := hide HP0
      have HQ := hide HQ0
      have PU := hide PU0
      clear HP0 HQ0 PU0 HO HN PK1 PK2
      go_wp2_with (fail)
      refine PU.out.mono ?_
      rintro e w3 ⟨rfl, hp⟩
      have H3 := hide hp
      clear hp PU
      go_wp2_with (fail)
      refine (PK3.out _).mono ?_
      rintro e w1 ⟨rfl, rfl⟩
      go_wp2_with (fail)
      refine (HP.out.flush _ _ H3.out).mono ?_
      rintro e w4 ⟨rfl, hp⟩
      have H4 := hide hp
      clear hp H3
      go_wp2_with (fail)
      refine (PK3.out _).mono ?_
      rintro e w1 ⟨rfl, rfl⟩
      go_wp2_with (fail)
      refine (HP.out.at1 H4.out a1).mono ?_
      rintro e w5 ⟨rfl, hp⟩
      have H5 := hide hp
      clear hp H4
      go_wp2_with (fail)
      refine (HP.out.tick _ _ 1 H5.out hin.out (by omega) (by omega)).mono ?_
      rintro e w6 ⟨rfl, hp⟩
      have H6 := hide hp
      clear hp H5
      go_wp2_with (fail)
      refine (HP.out.none1 H6.out true a2).mono ?_
      rintro e w7 ⟨rfl, hp⟩
      have H7 := hide hp
      clear hp H6
      go_wp2_with (fail)
      refine (HP.out.compact _ _ H7.out).mono ?_
      rintro e w8 ⟨rfl, hp⟩
      have H8 := hide hp
      clear hp H7
      go_wp2_with (fail)
      refine (HP.out.none1 H8.out true a2).mono ?_
      rintro e w9 ⟨rfl, hp⟩
      have H9 := hide hp
      clear hp H8
      go_wp2
      go_ret
      exact ⟨rfl, HQ.out _ _ H9.out⟩
    · go_enter Tryz.func9, Tryz.ntmps9
      go_wp2_with (fail)
      refine (PK1.out _).mono ?_
      rintro e w1 ⟨rfl, rfl⟩
      go_wp2_with (fail)
      refine HN.out.mono ?_
      rintro e w1 ⟨b, rfl, HO0⟩
      have HO := hide HO0
      clear HO0
      go_wp2_with (fail)
      refine (PK2.out _).mono ?_
      rintro e w1 ⟨rfl, rfl⟩
      go_wp2_with (fail)
      refine (HO.out _ (by omega)).mono ?_
      rintro e w2 ⟨sb, rfl, P, HP0, HQ0, PU0⟩
      have HP := hide HP0
      have HQ := hide HQ0
      have PU := hide PU0
      clear HP0 HQ0 PU0 HO HN PK1 PK2
      go_wp2_with (fail)
      refine PU.out.mono ?_
      rintro e w3 ⟨rfl, hp⟩
      have H3 := hide hp
      clear hp PU
      go_wp2_with (fail)
      refine (PK3.out _).mono ?_
      rintro e w1 ⟨rfl, rfl⟩
      go_wp2_with (fail)
      refine (PK3.out _).mono ?_
      rintro e w1 ⟨rfl, rfl⟩
      go_wp2_with (fail)
      refine (HP.out.compact _ _ H3.out).mono ?_
      rintro e w4 ⟨rfl, hp⟩
      have H4 := hide hp
      clear hp H3
      go_wp2_with (fail)
      refine (HP.out.at1 H4.out a1).mono ?_
      rintro e w5 ⟨rfl, hp⟩
      have H5 := hide hp
      clear hp H4
      go_wp2_with (fail)
      refine (HP.out.tick _ _ 1 H5.out hin.out (by omega) (by omega)).mono ?_
      rintro e w6 ⟨rfl, hp⟩
      have H6 := hide hp
      clear hp H5
      go_wp2_with (fail)
      refine (HP.out.none1 H6.out true a2).mono ?_
      rintro e w7 ⟨rfl, hp⟩
      have H7 := hide hp
      clear hp H6
      go_wp2_with (fail)
      refine (HP.out.compact _ _ H7.out).mono ?_
      rintro e w8 ⟨rfl, hp⟩
      have H8 := hide hp
      clear hp H7
      go_wp2_with (fail)
      refine (HP.out.none1 H8.out true a2).mono ?_
      rintro e w9 ⟨rfl, hp⟩
      have H9 := hide hp
      clear hp H8
      go_wp2
      go_ret
      exact ⟨rfl, HQ.out _ _ H9.out⟩
  · have hf : firstN time (1 + l0) = time := by unfold firstN; rw [if_neg hcase]
    rw [hf] at HN
    have a1 : aliveB time (1 + l0) time = true := by unfold aliveB; simp; omega
    have a2' : aliveB time (1 + l0) (tickedN time 1) = true := by unfold aliveB tickedN; split <;> simp <;> omega
    have a2 : aliveB time (1 + l0) (tickedN time 1) = !false := a2'
    have hin : Hid (In64 time) := ⟨t1, t2⟩
    have hin2 : Hid (In64 (tickedN time 1)) := by unfold Hid tickedN; split <;> constructor <;> omega
    have a3 : aliveB time (1 + l0) (tickedN (tickedN time 1) 9223372036854775807) = true := by unfold aliveB tickedN; split <;> split <;> simp <;> omega
    have a3' : aliveB time (1 + l0) (tickedN (tickedN time 1) 9223372036854775807) = !false := a3
    obtain rfl | rfl | rfl : ph = 0 ∨ ph = 1 ∨ ph = 2 := by omega
    · go_enter Tryz.func9, Tryz.ntmps9
      go_wp2_with (fail)
      refine (PK1.out _).mono ?_
      rintro e w1 ⟨rfl, rfl⟩
      go_wp2_with (fail)
      refine HN.out.mono ?_
      rintro e w1 ⟨b, rfl, HO0⟩
      have HO := hide HO0
      clear HO0
      go_wp2_with (fail)
      refine (PK2.out _).mono ?_
      rintro e w1 ⟨rfl, rfl⟩
      go_wp2_with (fail)
      refine (HO.out _ (by omega)).mono ?_
      rintro e w2 ⟨sb, rfl, P, HP0, HQ0, PU0⟩
      have HP := hide HP0
      have HQ := hide HQ0
      have PU := hide PU0
      clear HP0 HQ0 PU0 HO HN PK1 PK2
      go_wp2_with (fail)
      refine PU.out.mono ?_
      rintro e w3 ⟨rfl, hp⟩
      have H3 := hide hp
      clear hp PU
      go_wp2_with (fail)
      refine (PK3.out _).mono ?_
      rintro e w1 ⟨rfl, rfl⟩
      go_wp2_with (fail)
      refine (PK3.out _).mono ?_
      rintro e w1 ⟨rfl, rfl⟩
      go_wp2_with (fail)
      refine (HP.out.at1 H3.out a1).mono ?_
      rintro e w4 ⟨rfl, hp⟩
      have H4 := hide hp
      clear hp H3
      go_wp2_with (fail)
      refine (HP.out.tick _ _ 1 H4.out hin.out (by omega) (by omega)).mono ?_
      rintro e w5 ⟨rfl, hp⟩
      have H5 := hide hp
      clear hp H4
      go_wp2_with (fail)
      refine (HP.out.none1 H5.out false a2).mono ?_
      rintro e w6 ⟨rfl, hp⟩
      have H6 := hide hp
      clear hp H5
      go_wp2_with (fail)
      refine (HP.out.at1 H6.out a2').mono ?_
      rintro e w7 ⟨rfl, hp⟩
      have H7 := hide hp
      clear hp H6
      go_wp2_with (fail)
      refine (HP.out.tick _ _ 9223372036854775807 H7.out hin2.out (by omega) (by omega)).mono ?_
      rintro e w8 ⟨rfl, hp⟩
      have H8 := hide hp
      clear hp H7
      go_wp2_with (fail)
      refine (HP.out.at1 H8.out a3).mono ?_
      rintro e w9 ⟨rfl, hp⟩
      have H9 := hide hp
      clear hp H8
      go_wp2_with (fail)
      refine (HP.out.compact _ _ H9.out).mono ?_
      rintro e w10 ⟨rfl, hp⟩
      have H10 := hide hp
      clear hp H9
      go_wp2_with (fail)
      refine (HP.out.none1 H10.out false a3').mono ?_
      rintro e w11 ⟨rfl, hp⟩
      have H11 := hide hp
      clear hp H10
      go_wp2
      go_ret
      exact ⟨by show Ending.returned (.bool (!decide (time ≤ 9223372036854775807 - (1 + l0)))) = _; rw [decide_eq_false (by omega)]; rfl, HQ.out _ _ H11.out⟩
    · go_enter Tryz.func9, Tryz.ntmps9
      go_wp2_with (fail)
      refine (PK1.out _).mono ?_
      rintro e w1 ⟨rfl, rfl⟩
      go_wp2_with (fail)
      refine HN.out.mono ?_
      rintro e w1 ⟨b, rfl, HO0⟩
      have HO := hide HO0
      clear HO0
      go_wp2_with (fail)
      refine (PK2.out _).mono ?_
      rintro e w1 ⟨rfl, rfl⟩
      go_wp2_with (fail)
      refine (HO.out _ (by omega)).mono ?_
      rintro e w2 ⟨sb, rfl, P, HP0, HQ0, PU0⟩
      have HP := hide HP0
      have HQ := hide HQ0
      have PU := hide PU0
      clear HP0 HQ0 PU0 HO HN PK1 PK2
      go_wp2_with (fail)
      refine PU.out.mono ?_
      rintro e w3 ⟨rfl, hp⟩
      have H3 := hide hp
      clear hp PU
      go_wp2_with (fail)
      refine (PK3.out _).mono ?_
      rintro e w1 ⟨rfl, rfl⟩
      go_wp2_with (fail)
      refine (HP.out.flush _ _ H3.out).mono ?_
      rintro e w4 ⟨rfl, hp⟩
      have H4 := hide hp
      clear hp H3
      go_wp2_with (fail)
      refine (PK3.out _).mono ?_
      rintro e w1 ⟨rfl, rfl⟩
      go_wp2_with (fail)
      refine (HP.out.at1 H4.out a1).mono ?_
      rintro e w5 ⟨rfl, hp⟩
      have H5 := hide hp
      clear hp H4
      go_wp2_with (fail)
      refine (HP.out.tick _ _ 1 H5.out hin.out (by omega) (by omega)).mono ?_
      rintro e w6 ⟨rfl, hp⟩
      have H6 := hide hp
      clear hp H5
      go_wp2_with (fail)
      refine (HP.out.none1 H6.out false a2).mono ?_
      rintro e w7 ⟨rfl, hp⟩
      have H7 := hide hp
      clear hp H6
      go_wp2_with (fail)
      refine (HP.out.at1 H7.out a2').mono ?_
      rintro e w8 ⟨rfl, hp⟩
      have H8 := hide hp
      clear hp H7
      go_wp2_with (fail)
      refine (HP.out.tick _ _ 9223372036854775807 H8.out hin2.out (by omega) (by omega)).mono ?_
      rintro e w9 ⟨rfl, hp⟩
      have H9 := hide hp
      clear hp H8
      go_wp2_with (fail)
      refine (HP.out.at1 H9.out a3).mono ?_
      rintro e w10 ⟨rfl, hp⟩
      have H10 := hide hp
      clear hp H9
      go_wp2_with (fail)
      refine (HP.out.compact _ _ H10.out).mono ?_
      rintro e w11 ⟨rfl, hp⟩
      have H11 := hide hp
      clear hp H10
      go_wp2_with (fail)
      refine (HP.out.none1 H11.out false a3').mono ?_
      rintro e w12 ⟨rfl, hp⟩
      have H12 := hide hp
      clear hp H11
      go_wp2
      go_ret
      exact ⟨by show Ending.returned (.bool (!decide (time ≤ 9223372036854775807 - (1 + l0)))) = _; rw [decide_eq_false (by omega)]; rfl, HQ.out _ _ H12.out⟩
    · go_enter Tryz.func9, Tryz.ntmps9
      go_wp2_with (fail)
      refine (PK1.out _).mono ?_
      rintro e w1 ⟨rfl, rfl⟩
      go_wp2_with (fail)
      refine HN.out.mono ?_
      rintro e w1 ⟨b, rfl, HO0⟩
      have HO := hide HO0
      clear HO0
      go_wp2_with (fail)
      refine (PK2.out _).mono ?_
      rintro e w1 ⟨rfl, rfl⟩
      go_wp2_with (fail)
      refine (HO.out _ (by omega)).mono ?_
      rintro e w2 ⟨sb, rfl, P, HP0, HQ0, PU0⟩
      have HP := hide HP0
      have HQ := hide HQ0
      have PU := hide PU0
      clear HP0 HQ0 PU0 HO HN PK1 PK2
      go_wp2_with (fail)
      refine PU.out.mono ?_
      rintro e w3 ⟨rfl, hp⟩
      have H3 := hide hp
      clear hp PU
      go_wp2_with (fail)
      refine (PK3.out _).mono ?_
      rintro e w1 ⟨rfl, rfl⟩
      go_wp2_with (fail)
      refine (PK3.out _).mono ?_
      rintro e w1 ⟨rfl, rfl⟩
      go_wp2_with (fail)
      refine (HP.out.compact _ _ H3.out).mono ?_
      rintro e w4 ⟨rfl, hp⟩
      have H4 := hide hp
      clear hp H3
      go_wp2_with (fail)
      refine (HP.out.at1 H4.out a1).mono ?_
      rintro e w5 ⟨rfl, hp⟩
      have H5 := hide hp
      clear hp H4
      go_wp2_with (fail)
      refine (HP.out.tick _ _ 1 H5.out hin.out (by omega) (by omega)).mono ?_
      rintro e w6 ⟨rfl, hp⟩
      have H6 := hide hp
      clear hp H5
      go_wp2_with (fail)
      refine (HP.out.none1 H6.out false a2).mono ?_
      rintro e w7 ⟨rfl, hp⟩
      have H7 := hide hp
      clear hp H6
      go_wp2_with (fail)
      refine (HP.out.at1 H7.out a2').mono ?_
      rintro e w8 ⟨rfl, hp⟩
      have H8 := hide hp
      clear hp H7
      go_wp2_with (fail)
      refine (HP.out.tick _ _ 9223372036854775807 H8.out hin2.out (by omega) (by omega)).mono ?_
      rintro e w9 ⟨rfl, hp⟩
      have H9 := hide hp
      clear hp H8
      go_wp2_with (fail)
      refine (HP.out.at1 H9.out a3).mono ?_
      rintro e w10 ⟨rfl, hp⟩
      have H10 := hide hp
      clear hp H9
      go_wp2_with (fail)
      refine (HP.out.compact _ _ H10.out).mono ?_
      rintro e w11 ⟨rfl, hp⟩
      have H11 := hide hp
      clear hp H10
      go_wp2_with (fail)
      refine (HP.out.none1 H11.out false a3').mono ?_
      rintro e w12 ⟨rfl, hp⟩
      have H12 := hide hp
      clear hp H11
      go_wp2
      go_ret
      exact ⟨by show Ending.returned (.bool (!decide (time ≤ 9223372036854775807 - (1 + l0)))) = _; rw [decide_eq_false (by omega)]; rfl, HQ.out _ _ H12.out⟩
end
end Go.Proofs.YtfaeidbgdcincaaGreatDoor
/- Walks: tideskeep.Passing, of a store on an empty disk that does not fail. -/
namespace Go.Proofs.YtfaeidbgdcincaaGreatDoor
open Go.RowKit Go.MuLone
attribute [local go_sem ↓] Go.wp_at_zero Go.wp_at_succ NoP_normal

section
variable {w w' : World} {nm : List UInt8} {sb jb b : Nat} {life clock : Int} {lv : Nat → Value} {L : Nat → List Pt} {own : Option (Nat × Nat)} {D : DS} {F : Nat → FC} {Ft : Nat → Prop} {N C : Nat}
set_option maxRecDepth 100000 in
set_option maxHeartbeats 2000000 in
theorem compact_calm (h : StV w nm sb jb b 0 life clock lv L own D F Ft N C) :
    Calls Tryz.prog 23 #[.pointer (some ⟨sb, 0, none⟩)] w fun e w' => e = .returned (.int .i64 0) ∧ StV w' nm sb jb b 0 life clock lv L own D F Ft N C ∧ Chg (One sb) w w' := by
  have c0 := h.blk.c0
  have f0 := h.blk.fz 0
  have CH := hide (change_nothing (h.cell 0 (.int .i32 1) (h.blk.s0 1)))
  have HC1 := hide ((Chg.refl (One sb) w).setAt (b := sb) rfl 0 (.int .i32 1))
  clear h
  go_enter_defers Tryz.func23, Tryz.ntmps23
  go_wp2_with (first
    | (go_at_call 56; refine (lock_free Tryz.muLib ⟨sb, 0, none⟩ _ c0 f0).mono ?_; rintro e w' ⟨rfl, rfl⟩)
    | (go_at_call 59; refine CH.out.mono ?_; rintro e w2 ⟨rfl, h2, hc2⟩; have H2 := hide h2; have HC2 := hide hc2; clear h2 hc2))
  refine leaves_cons (f := 57) (args := #[.pointer (some ⟨sb, 0, none⟩)]) (by simp) (by simp [go_sem]) ?_
  refine (unlock_deferred Tryz.muLib ⟨sb, 0, none⟩ .returning _ ?_ ?_).mono ?_
  · exact H2.out.blk.c0
  · exact H2.out.blk.fz 0
  rintro e u' w'' ⟨rfl, rfl, rfl⟩
  exact ⟨_, results_tmp rfl _ _ _, rfl, H2.out.cell 0 _ (H2.out.blk.s0 0), (HC1.out.trans HC2.out fun _ h _ => h).setAt rfl 0 _⟩
end
/-- A store that has had this one point. -/
def PassP (w0 : World) (nm : List UInt8) (time long : Int) (sb : Nat) (w : World) (c : Int) : Prop :=
  In64 c ∧ ∃ jb b lv L own D F Ft N C, StV w nm sb jb b 0 long c lv L own D F Ft N C ∧ Rel L [(((4 : Nat) : Int), time, 9)] long c ∧ (∀ k, SFoot sb jb lv own Ft k → w0.heap.size ≤ k) ∧ Chg (fun _ => False) w0 w
theorem passes_calm (w0 : World) (nm : List UInt8) (time long : Int) (sb : Nat) (ht : In64 time) (hl : 1 ≤ long ∧ long ≤ 4611686018427387904) : Passes time long (.pointer (some ⟨sb, 0, none⟩)) (PassP w0 nm time long sb) where
  keep := by
    rintro w w' c ⟨hc, jb, b, lv, L, own, D, F, Ft, N, C, hV, hR, hF, hk⟩ h
    exact ⟨hc, jb, b, lv, L, own, D, F, Ft, N, C, hV.chg0 h, hR, hF, hk.trans h fun _ h _ => h⟩
  query := by
    rintro w c ⟨hc, jb, b, lv, L, own, D, F, Ft, N, C, hV, hR, hF, hk⟩
    refine (query_ok w 4 time time hV.blk hV.rows (by omega) hl hc).mono ?_
    rintro e w' ⟨x, rfl, hx, h1, -⟩
    refine ⟨x, rfl, ?_, h1⟩
    rw [hR.query (fun p hp => by simp at hp; subst hp; exact ht) (by omega)] at hx
    have e : refQ [(((4 : Nat) : Int), time, 9)] ((4 : Nat) : Int) time time long c = if aliveB time long c then [(time, 9)] else [] := by
      simp only [refQ, List.foldl_cons, List.foldl_nil, qStep, qOk]
      cases aliveB time long c <;> simp [insP]
    rw [← e]; exact hx
  flush := by
    rintro w c ⟨hc, jb, b, lv, L, own, D, F, Ft, N, C, hV, hR, hF, hk⟩
    refine (flush_calm hV).mono ?_
    rintro e w' ⟨rfl, h1, h2⟩
    exact ⟨rfl, hc, jb, b, lv, L, own, D, F, Ft, N, C, h1, hR, hF, hk.newer h2 fun x hx => by cases hx; exact hF _ (.inl (.inl rfl))⟩
  compact := by
    rintro w c ⟨hc, jb, b, lv, L, own, D, F, Ft, N, C, hV, hR, hF, hk⟩
    refine (compact_calm hV).mono ?_
    rintro e w' ⟨rfl, h1, h2⟩
    exact ⟨rfl, hc, jb, b, lv, L, own, D, F, Ft, N, C, h1, hR, hF, hk.newer h2 fun x hx => by cases hx; exact hF _ (.inl (.inl rfl))⟩
  tick := by
    rintro w c x ⟨hc, jb, b, lv, L, own, D, F, Ft, N, C, hV, hR, hF, hk⟩ - h0 h1
    refine (tick_ok w x hV.blk hV.rows ⟨h0, h1⟩ hl hc).mono ?_
    rintro e w' ⟨rfl, lv', L', hS, hG⟩
    obtain ⟨k2, lv2, own2, D2, F2, Ft2, V2, s2⟩ := hV.turn hS
    refine ⟨rfl, ticked_In64 hc h0 h1, jb, b, lv2, L', own2, D2, F2, Ft2, N, C, V2, hR.tick (fun p hp => by simp at hp; subst hp; exact ht) ?_ hG, fun k h => (s2 k h).elim (hF k) (fun h => Nat.le_trans hk.size h), hk.newer k2 hF⟩
    obtain ⟨c1, c2⟩ := hc
    unfold tickedN; split <;> omega
set_option maxRecDepth 100000 in
set_option maxHeartbeats 2000000 in
theorem passing_law {B : Nat} {lt : List UInt8} (w : World) (hL : Lets B w lt) (hnum : NumOk 1) (hne : nameL lt 1 ≠ []) (time long0 ticks how : Int) (ht : In64 time) (hlg : In64 long0) (htk : In64 ticks) (hhw : In64 how) :
    Calls Tryz.prog 9 #[.int .i64 time, .int .i64 long0, .int .i64 ticks, .int .i64 how] w fun e w' => e = .returned (.bool true) ∧ Chg (fun _ => False) w w' := by
  obtain ⟨p1, p2⟩ := kpickN_lt long0 4611686018427387904 (by decide)
  have hl : 1 ≤ 1 + kpickN long0 4611686018427387904 ∧ 1 + kpickN long0 4611686018427387904 ≤ 4611686018427387904 := by omega
  refine passing_of (fun w' => Chg (fun _ => False) w w') w time long0 ticks how ht hlg htk hhw ?_
  generalize 1 + kpickN long0 4611686018427387904 = long at hl
  have hfc : In64 (firstN time long) := by
    obtain ⟨t1, t2⟩ := ht
    unfold firstN; split <;> constructor <;> omega
  refine (newU (F := fun _ => ([], 0)) 1152921504606846976 w).mono ?_
  rintro e w1 ⟨rfl, hd1, k1, hz1⟩
  refine ⟨_, rfl, fun window hw => ?_⟩
  refine (open_calm long window (firstN time long) hd1 (fun k hk => by cases hk; omega) (calm_new (nameL lt 1) 1152921504606846976 0 (.inl rfl)) hl (by omega)).mono ?_
  rintro e w2 ⟨sb, jb, rfl, hV, k2, hsb, hjb⟩
  have K2 : Chg (fun _ => False) w w2 := k1.trans k2 fun _ h _ => h
  have F2 : ∀ k, SFoot sb jb (fun _ => .slice none 0 0) none (One w.heap.size) k → w.heap.size ≤ k := fun k hk => by
    rcases hk with (rfl | ⟨i, _, hi⟩) | rfl | ⟨s, hs⟩ | hk
    · omega
    · simp [Value.ownBlock] at hi
    · omega
    · cases hs
    · cases hk; omega
  refine ⟨sb, rfl, PassP w (nameL lt 1) time long sb, passes_calm w _ time long sb ht hl, ?_, ?_⟩
  · rintro w' c ⟨-, _, _, _, _, _, _, _, _, _, _, -, -, -, hk⟩
    exact hk
  · refine (put_calm (k := 4) hV (hL.keep0 K2) (by have := hL.2.1; omega) hnum hne time 9 (by omega) (by simp) hl hfc ht (by constructor <;> omega) (by omega) (by omega)).mono ?_
    rintro e w3 ⟨rfl, k3, lv3, own3, D3, F3, Ft3, hV3, hs3⟩
    refine ⟨rfl, hfc, jb, _, lv3, _, own3, D3, F3, Ft3, _, _, hV3, ?_, fun k hk => (hs3 k hk).elim (F2 k) (fun h => Nat.le_trans K2.size h), K2.newer k3 F2⟩
    have := (Rel.nil long (firstN time long)).put (fun _ _ => List.Pairwise.nil) (s := 4) (by omega) (t := time) (v := 9) ht
    simpa using this
end Go.Proofs.YtfaeidbgdcincaaGreatDoor
/- The law Passing returns true, for every number that it is given: as a row, and its tied card. -/
namespace Go.Proofs.YtfaeidbgdcincaaGreatDoor
open Go.ChangeShapes Go.WideShapes Go.ChangeAt Go.RowKit
set_option maxRecDepth 100000

theorem passing_met (os : Os) (W : World) (h : IsLaid os W) (args : Array Value) : laidMetH Tryz.prog Rows.passingRow.laid (W.forCall (fun _ _ => 0) ⟨#[], args, []⟩).memory := laid_met os W h args
theorem passing_lifted (os : Os) (started : os.Started) (H : Type) (enc : TypeId × Value → H) :
    ReturnsInHanded {} Tryz.checked os 9 .any (fun w args => (Rows.passingSpec.pre enc Tryz.prog Tryz.f9 Rows.passingRow.domain false w args ∧ laidMetH Tryz.prog Rows.passingRow.laid w) ∧ sizedMet enc Tryz.prog Tryz.f9 (OpenSpec.ofChange Rows.passingSpec) false w args)
      (Rows.passingSpec.post enc Tryz.prog Tryz.f9 false true false false) := by
  obtain ⟨W0, hW0⟩ : ∃ W0, IsLaid os W0 := ⟨_, rfl⟩
  have hm := passing_met os W0 hW0
  refine returnsInHanded_of_change_and (C := Tryz.checked) (X := fun w _ => laidMetH Tryz.prog Rows.passingRow.laid w) (fun _ _ _ hh h => h.of_heap hh) Tryz.own started (by kernel_rfl) Tryz.func9
    (ChangeSpec.witness_at (enc := enc) (C := Tryz.checked) (os := os) (X := fun w _ => laidMetH Tryz.prog Rows.passingRow.laid w) false W0 #[.int .i64 0, .int .i64 0, .int .i64 0, .int .i64 0] 8 (by unfold IsLaid at hW0; subst hW0; rfl) (by unfold IsLaid at hW0; subst hW0; kernel_rfl) (by unfold IsLaid at hW0; subst hW0; kernel_rfl) (by unfold IsLaid at hW0; subst hW0; kernel_rfl) (by unfold IsLaid at hW0; subst hW0; kernel_rfl) (by unfold IsLaid at hW0; subst hW0; kernel_rfl) (hm _)) ?_
  intro W base args ds gs before hval0 hW _ _ hL _
  have hval : ∀ (j : Nat) t v, Tryz.f9.params[j]? = some t → args[j]? = some v → Value.okWide Tryz.prog W .any base t v := hval0
  have hW' := hW
  obtain ⟨p, q, hA0, hV, rfl, hfz, hnd⟩ := hW
  have hA : DataW.TrodAll enc Tryz.prog W 0 (fun _ => true) true Tryz.f9.params.toList args.toList ds p := hA0
  rw [Tryz.params9] at hA hval
  obtain ⟨v0, vs0, d0, ds0, p0, q0, hargs, rfl, rfl, h0, r0⟩ := trodAll_cons hA
  obtain ⟨v1, vs1, d1, ds1, p1, q1, rfl, rfl, rfl, h1, r1⟩ := trodAll_cons r0
  obtain ⟨v2, vs2, d2, ds2, p2, q2, rfl, rfl, rfl, h2, r2⟩ := trodAll_cons r1
  obtain ⟨v3, vs3, d3, ds3, p3, q3, rfl, rfl, rfl, h3, r3⟩ := trodAll_cons r2
  obtain ⟨rfl, rfl, rfl⟩ := trodAll_nil r3
  obtain rfl : args = #[v0, v1, v2, v3] := by cases args; simp_all
  obtain ⟨rfl, rfl⟩ := trodVars_none hV
  obtain ⟨n0, rfl, rfl, rfl, w0⟩ := open_int Tryz.underlying3 (hval 0 3 v0 rfl rfl) h0
  obtain ⟨n1, rfl, rfl, rfl, w1⟩ := open_int Tryz.underlying3 (hval 1 3 v1 rfl rfl) h1
  obtain ⟨n2, rfl, rfl, rfl, w2⟩ := open_int Tryz.underlying3 (hval 2 3 v2 rfl rfl) h2
  obtain ⟨n3, rfl, rfl, rfl, w3⟩ := open_int Tryz.underlying3 (hval 3 3 v3 rfl rfl) h3
  simp only [List.append_nil] at hW'
  refine (passing_law W (lets_of hL) one_num one_name n0 n1 n2 n3 (wf_In64 w0) (wf_In64 w1) (wf_In64 w2) (wf_In64 w3)).mono fun e W' ⟨he, hc⟩ => ?_
  subst he
  have hb : Below W.heap.size W W' := hc.below (Nat.le_refl _) fun k _ h => h.elim
  exact ⟨_, rfl, [.lit (.int .i64 n0), .lit (.int .i64 n1), .lit (.int .i64 n2), .lit (.int .i64 n3)], [], _, [], _, [], hW', trodAll_cons_mk (shut_bool Tryz.underlying4 _) trodAll_mk0,
    trodAll_cons_mk (shut_int Tryz.underlying3 w0) (trodAll_cons_mk (shut_int Tryz.underlying3 w1) (trodAll_cons_mk (shut_int Tryz.underlying3 w2) (trodAll_cons_mk (shut_int Tryz.underlying3 w3) trodAll_mk0))), rfl, hb.frame _, fun h => by cases h⟩
theorem passing_said : Rows.PassingSaid :=
  OpenClaim.holds_of_wide 9 Tryz.f9 rfl rfl rfl rfl rfl rfl rfl ⟨rfl, rfl, rfl, rfl, rfl⟩ rfl rfl rfl rfl rfl (by kernel_rfl) Tryz.func9 (by kernel_rfl)
    (of_decide_eq_true (by kernel_rfl)) (by unfold Func.isWrapper; first | (rw [if_pos (by decide +kernel)]; kernel_rfl) | (rw [if_neg (by decide +kernel)]; exact ⟨rfl, rfl⟩))
    (fun os started H enc _ => passing_lifted os started H enc)
/-- No parameter wants a stand-in; the program's own looks are on. -/
theorem passing_plain (f : FuncId) (fn : Func) (hf : Tryz.pinned.checked.prog.funcNamed "tides/tideskeep.Passing" = some f) (hfn : Tryz.pinned.checked.prog.funcs[f]? = some fn) :
    true = Tryz.pinned.checked.prog.looks [] ∧ ∀ (j : Nat) t, fn.params[j]? = some t → Tryz.pinned.checked.prog.wantsStandIn t = false := by
  obtain rfl : f = 9 := Option.some.inj ((show Tryz.prog.funcNamed "tides/tideskeep.Passing" = some 9 by kernel_rfl).symm.trans hf) |>.symm
  obtain rfl : fn = Tryz.f9 := (Option.some.inj (Tryz.func9.symm.trans hfn)).symm
  refine ⟨by kernel_rfl, fun j t ht => ?_⟩
  rw [Tryz.params9] at ht
  have hm := Array.mem_of_getElem? ht
  simp at hm
  subst hm
  exact (show Tryz.prog.wantsStandIn 3 = false by kernel_rfl)
/-- The given statement. -/
theorem passing_holds : Rows.PassingCardSaid :=
  Claim7.holds_tied_plain_at .later [] _ _ _ _ passing_said (fun _ h => by cases h) (by kernel_rfl) (fun _ h => by cases h) passing_row_tie rfl ⟨rfl, rfl⟩ (by kernel_rfl) rfl passing_plain (by kernel_rfl)
#print axioms passing_holds
end Go.Proofs.YtfaeidbgdcincaaGreatDoor
