/-
  The statement WritesUptoCardSaid is proved: the law Writes answers true at every set and every script within the statement's bounds.
  Part 22 of 23.
-/
import Derived.Test.YtfaeidbgdcincaaGreatDoorPart21
/- Walks: the laws: step, of the kinds that Writes plays. -/
namespace Go.Proofs.YtfaeidbgdcincaaGreatDoor
open Go.RowKit
attribute [local go_sem ↓] Go.wp_at_zero Go.wp_at_succ

/-- A law's world behind m steps. -/
def LI (w : World) (lt : List UInt8) (H wb : Nat) (life : Int) (m : Nat) : Prop :=
  ∃ n sb jb b clock lv L own D F Ft N C puts ls, LW w lt H wb n sb jb b life clock lv L own D F Ft N C puts ls ∧ n.clock = clock ∧ In64 clock ∧ Rel L puts life clock ∧ (∀ p ∈ puts, In64 p.2.1) ∧ (∀ k, k < 8 → (L k).length ≤ m) ∧ puts.length ≤ m ∧ ls.length ≤ 4 * m ∧ 5000 < N ∧ N ≤ 6000 + 33 * m ∧ C ≤ 10 + 3 * m
theorem LI.more {w : World} {lt : List UInt8} {H wb : Nat} {life : Int} {m m' : Nat} (h : LI w lt H wb life m) (hm : m ≤ m') : LI w lt H wb life m' := by
  obtain ⟨n, sb, jb, b, clock, lv, L, own, D, F, Ft, N, C, puts, ls, h1, h2, h3, h4, h5, h6, h7, h8, h9, h10, h11⟩ := h
  exact ⟨n, sb, jb, b, clock, lv, L, own, D, F, Ft, N, C, puts, ls, h1, h2, h3, h4, h5, fun k hk => Nat.le_trans (h6 k hk) hm, by omega, by omega, h9, by omega, by omega⟩
theorem LI.chg0 {w w' : World} {lt : List UInt8} {H wb : Nat} {life : Int} {m : Nat} (h : LI w lt H wb life m) (hc : Chg (fun _ => False) w w') : LI w' lt H wb life m := by
  obtain ⟨n, sb, jb, b, clock, lv, L, own, D, F, Ft, N, C, puts, ls, h1, h2⟩ := h
  exact ⟨n, sb, jb, b, clock, lv, L, own, D, F, Ft, N, C, puts, ls, h1.chg0 hc, h2⟩
section
variable {lt : List UInt8} {H wb : Nat} {life : Int} {m : Nat}
theorem writes_step {B : Nat} (w : World) (kd k t v : Int) (tv : Value) (h : LI w lt H wb life m) (hL : Lets B w lt) (hBH : B ≤ H) (hnum : NumOk 1) (hne : nameL lt 1 ≠ []) (hl : 1 ≤ life ∧ life ≤ 4611686018427387904) (hm : m ≤ 2097152) (ht : In64 t) (hv : In64 v) :
    Calls Tryz.prog 49 #[.pointer (some ⟨wb, 0, none⟩), .agg #[.int .i64 kd, .int .i64 k, .int .i64 t, .int .i64 v, tv]] w fun e w' => e = .returned (.bool true) ∧ Chg (Up H) w w' ∧ LI w' lt H wb life (m + 1) := by
  obtain ⟨n, sb, jb, b, clock, lv, L, own, D, F, Ft, N, C, puts, ls, h1, h2, h3, h4, h5, h6, h7, h8, h9, h10, h11⟩ := h
  by_cases hk : 0 ≤ k ∧ k < 8
  · obtain ⟨k', rfl⟩ : ∃ k' : Nat, k = k' := ⟨k.toNat, by omega⟩
    have hk' : k' < 8 := by omega
    refine (writes_ok w kd t v tv h1 hL hBH hnum hne hk' (by have := h6 k' hk'; omega) (by omega) hl h3 ht hv (by omega) (by omega)).mono ?_
    rintro e w' ⟨rfl, hc, pv', lv', own', D', F', Ft', hW⟩
    refine ⟨rfl, hc, _, sb, jb, b, clock, lv', _, own', D', F', Ft', _, _, _, ls, hW, h2, h3, h4.put (fun k hk => h1.st.rows.sorted k hk) hk' ht, ?_, ?_, ?_, ?_, by omega, by omega, by omega⟩
    · intro p hp
      rcases List.mem_append.1 hp with hp | hp
      · exact h5 p hp
      · simp at hp; subst hp; exact ht
    · intro i hi
      have := keptL_len L (oldestN clock life) k' t v i
      have := h6 i hi
      omega
    · simp; omega
    · omega
  · refine (writes_bad w kd k t v tv h1 hk (by omega)).mono ?_
    rintro e w' ⟨rfl, hc⟩
    exact ⟨rfl, hc.mono fun _ _ h => h.elim, LI.more ⟨n, sb, jb, b, clock, lv, L, own, D, F, Ft, N, C, puts, ls, h1.chg0 hc, h2, h3, h4, h5, h6, h7, h8, h9, h10, h11⟩ (by omega)⟩
theorem asks_step (w : World) (kd k a b3 : Int) (tv : Value) (hkd : kd = 3 ∨ kd = 5) (h : LI w lt H wb life m) (hl : 1 ≤ life ∧ life ≤ 4611686018427387904) (hm : m ≤ 2097152) :
    Calls Tryz.prog 50 #[.pointer (some ⟨wb, 0, none⟩), .agg #[.int .i64 kd, .int .i64 k, .int .i64 a, .int .i64 b3, tv]] w fun e w' => e = .returned (.bool true) ∧ Chg (Up H) w w' ∧ LI w' lt H wb life (m + 1) := by
  obtain ⟨n, sb, jb, b, clock, lv, L, own, D, F, Ft, N, C, puts, ls, h1, h2, h3, h4, h5, h6, h7, h8, h9, h10, h11⟩ := h
  rcases hkd with rfl | rfl
  · by_cases hk : 0 ≤ k ∧ k < 8
    · obtain ⟨k', rfl⟩ : ∃ k' : Nat, k = k' := ⟨k.toNat, by omega⟩
      refine (asks_ok w a b3 tv h1 h2 h4 (by omega) h5 (by omega) (by omega) hl h3).mono ?_
      rintro e w' ⟨rfl, hc, n', ls', hW, hl', hck⟩
      exact ⟨rfl, hc, n', sb, jb, b, clock, lv, L, own, D, F, Ft, N, C, puts, ls', hW, hck.trans h2, h3, h4, h5, fun k hk => Nat.le_trans (h6 k hk) (by omega), by omega, by omega, h9, by omega, by omega⟩
    · refine (asks_bad w k a b3 tv h1 hk (by omega)).mono ?_
      rintro e w' ⟨rfl, hc, n', ls', hW, hl', hck⟩
      exact ⟨rfl, hc, n', sb, jb, b, clock, lv, L, own, D, F, Ft, N, C, puts, ls', hW, hck.trans h2, h3, h4, h5, fun k hk => Nat.le_trans (h6 k hk) (by omega), by omega, by omega, h9, by omega, by omega⟩
  · refine (asks_state w k a b3 tv h1 h2).mono ?_
    rintro e w' ⟨rfl, hc⟩
    exact ⟨rfl, hc.mono fun _ _ h => h.elim, LI.more ⟨n, sb, jb, b, clock, lv, L, own, D, F, Ft, N, C, puts, ls, h1.chg0 hc, h2, h3, h4, h5, h6, h7, h8, h9, h10, h11⟩ (by omega)⟩
theorem ticks_step (w : World) (kd a b3 c3 : Int) (tv : Value) (h : LI w lt H wb life m) (hl : 1 ≤ life ∧ life ≤ 4611686018427387904) (ha : In64 a) :
    Calls Tryz.prog 51 #[.pointer (some ⟨wb, 0, none⟩), .agg #[.int .i64 kd, .int .i64 a, .int .i64 b3, .int .i64 c3, tv]] w fun e w' => e = .returned (.bool true) ∧ Chg (Up H) w w' ∧ LI w' lt H wb life (m + 1) := by
  obtain ⟨n, sb, jb, b, clock, lv, L, own, D, F, Ft, N, C, puts, ls, h1, h2, h3, h4, h5, h6, h7, h8, h9, h10, h11⟩ := h
  obtain ⟨ha1, ha2⟩ := ha
  by_cases h0 : a < 0
  · refine (ticks_bad w kd a b3 c3 tv h1 h0).mono ?_
    rintro e w' ⟨rfl, hc⟩
    exact ⟨rfl, hc.mono fun _ _ h => h.elim, LI.more ⟨n, sb, jb, b, clock, lv, L, own, D, F, Ft, N, C, puts, ls, h1.chg0 hc, h2, h3, h4, h5, h6, h7, h8, h9, h10, h11⟩ (by omega)⟩
  · refine (ticks_ok w kd a b3 c3 tv h1 h2 (by omega) hl h3).mono ?_
    rintro e w' ⟨rfl, hc, lv', own', D', F', Ft', L', hW, hF⟩
    refine ⟨rfl, hc, _, sb, jb, b, _, lv', L', own', D', F', Ft', N, C, puts, ls, hW, rfl, ticked_In64 h3 (by omega) ha2, h4.tick h5 ?_ hF, h5, fun k hk => ?_, by omega, by omega, h9, by omega, by omega⟩
    · obtain ⟨k1, k2⟩ := h3
      unfold tickedN; split <;> omega
    · have := hF.len hk; have := h6 k hk; omega
set_option maxRecDepth 100000 in
set_option maxHeartbeats 4000000 in
theorem step_any {B : Nat} (w : World) (kd a b3 c3 : Int) (tv : Value) (h : LI w lt H wb life m) (hL : Lets B w lt) (hBH : B ≤ H) (hnum : NumOk 1) (hne : nameL lt 1 ≠ []) (hl : 1 ≤ life ∧ life ≤ 4611686018427387904) (hm : m ≤ 2097152) (ha : In64 a) (hb : In64 b3) (hc3 : In64 c3) (hk : kd ∉ [1, 6, 7, 8, 9, 10, 11]) :
    Calls Tryz.prog 16 #[.pointer (some ⟨wb, 0, none⟩), .agg #[.int .i64 kd, .int .i64 a, .int .i64 b3, .int .i64 c3, tv]] w fun e w' => e = .returned (.bool true) ∧ Chg (Up H) w w' ∧ LI w' lt H wb life (m + 1) := by
  have hA := (Chg.refl (fun _ => False) w).alloc (opObj kd a b3 c3 tv)
  obtain ⟨o0, o1, o2, o3⟩ := opObj_at w kd a b3 c3 tv
  have o4 : (w.alloc (opObj kd a b3 c3 tv)).cell? ⟨w.heap.size, 4, none⟩ = some tv := by
    have hbx := heap_alloc_new w (opObj kd a b3 c3 tv)
    unfold opObj at hbx ⊢
    simp only [World.cell?, hbx]; rfl
  have h1 := h.chg0 hA
  have hL1 := hL.keep0 hA
  generalize hw1 : w.alloc (opObj kd a b3 c3 tv) = w1 at hA o0 o1 o2 o3 o4 h1 hL1
  unfold opObj at hw1
  have c5 : ∃ sb, w1.cell? ⟨wb, 5, none⟩ = some (.pointer (some ⟨sb, 0, none⟩)) := by
    obtain ⟨n, sb, jb, b, clock, lv, L, own, D, F, Ft, N, C, puts, ls, q, _⟩ := h1
    exact ⟨sb, by rw [q.blk.c5, q.hsv]⟩
  obtain ⟨sb, c5⟩ := c5
  have WR : Hid (∀ kd, Calls Tryz.prog 49 #[.pointer (some ⟨wb, 0, none⟩), .agg #[.int .i64 kd, .int .i64 a, .int .i64 b3, .int .i64 c3, tv]] w1 fun e w' => e = .returned (.bool true) ∧ Chg (Up H) w1 w' ∧ LI w' lt H wb life (m + 1)) := fun kd => writes_step w1 kd a b3 c3 tv h1 hL1 hBH hnum hne hl hm hb hc3
  have AS : Hid (∀ kd, kd = 3 ∨ kd = 5 → Calls Tryz.prog 50 #[.pointer (some ⟨wb, 0, none⟩), .agg #[.int .i64 kd, .int .i64 a, .int .i64 b3, .int .i64 c3, tv]] w1 fun e w' => e = .returned (.bool true) ∧ Chg (Up H) w1 w' ∧ LI w' lt H wb life (m + 1)) := fun kd hkd => asks_step w1 kd a b3 c3 tv hkd h1 hl hm
  have TI : Hid (∀ kd, Calls Tryz.prog 51 #[.pointer (some ⟨wb, 0, none⟩), .agg #[.int .i64 kd, .int .i64 a, .int .i64 b3, .int .i64 c3, tv]] w1 fun e w' => e = .returned (.bool true) ∧ Chg (Up H) w1 w' ∧ LI w' lt H wb life (m + 1)) := fun kd => ticks_step w1 kd a b3 c3 tv h1 hl ha
  have H1 := hide (h1.more (Nat.le_succ m))
  have HA : Hid (Chg (Up H) w w1) := hA.mono fun _ _ h => h.elim
  simp only [List.mem_cons, List.not_mem_nil, or_false, not_or] at hk
  obtain ⟨n1, n6, n7, n8, n9, n10, n11⟩ := hk
  clear h hL hA h1 hL1 ha hb hc3 hm hl hnum hne hBH
  by_cases e2 : kd = 2
  · subst e2
    have WR2 := hide (WR.out 2)
    clear WR AS TI n1 n6 n7 n8 n9 n10 n11
    go_enter Tryz.func16, Tryz.ntmps16
    go_wp2_with (go_at_call 49; refine WR2.out.mono ?_; rintro e w2 ⟨rfl, k2, hI⟩; have K2 := hide k2; have HI := hide hI; clear k2 hI)
    go_ret
    exact ⟨rfl, HA.out.trans K2.out fun _ h _ => h, HI.out⟩
  · by_cases e35 : kd = 3 ∨ kd = 5
    · have AS2 := hide (AS.out kd e35)
      clear WR AS TI
      rcases e35 with rfl | rfl
      all_goals
        clear n1 n6 n7 n8 n9 n10 n11 e2
        go_enter Tryz.func16, Tryz.ntmps16
        go_wp2_with (go_at_call 50; refine AS2.out.mono ?_; rintro e w2 ⟨rfl, k2, hI⟩; have K2 := hide k2; have HI := hide hI; clear k2 hI)
        go_ret
        exact ⟨rfl, HA.out.trans K2.out fun _ h _ => h, HI.out⟩
    · by_cases e4 : kd = 4
      · subst e4
        have TI2 := hide (TI.out 4)
        clear WR AS TI n1 n6 n7 n8 n9 n10 n11 e2 e35
        go_enter Tryz.func16, Tryz.ntmps16
        go_wp2_with (go_at_call 51; refine TI2.out.mono ?_; rintro e w2 ⟨rfl, k2, hI⟩; have K2 := hide k2; have HI := hide hI; clear k2 hI)
        go_ret
        exact ⟨rfl, HA.out.trans K2.out fun _ h _ => h, HI.out⟩
      · have e3 : ¬ kd = 3 := fun e => e35 (.inl e)
        have e5 : ¬ kd = 5 := fun e => e35 (.inr e)
        clear WR AS TI e35
        go_enter Tryz.func16, Tryz.ntmps16
        go_wp2
        go_ret
        exact ⟨rfl, HA.out, H1.out⟩
set_option maxRecDepth 100000 in
set_option maxHeartbeats 4000000 in
theorem step_nil {n : WN} (w : World) (kd a b3 c3 : Int) (tv : Value) (h : WBlk w wb n) (hsv : n.sv = .pointer none) (hk : kd ∉ [1, 6, 7, 8, 9, 10, 11]) :
    Calls Tryz.prog 16 #[.pointer (some ⟨wb, 0, none⟩), .agg #[.int .i64 kd, .int .i64 a, .int .i64 b3, .int .i64 c3, tv]] w fun e w' => e = .returned (.bool true) ∧ Chg (fun _ => False) w w' := by
  have hA := (Chg.refl (fun _ => False) w).alloc (opObj kd a b3 c3 tv)
  obtain ⟨o0, o1, o2, o3⟩ := opObj_at w kd a b3 c3 tv
  have h1 := h.chg0 hA
  generalize hw1 : w.alloc (opObj kd a b3 c3 tv) = w1 at hA o0 o1 o2 o3 h1
  unfold opObj at hw1
  have c5 := h1.c5
  rw [hsv] at c5
  have HA := hide hA
  simp only [List.mem_cons, List.not_mem_nil, or_false, not_or] at hk
  obtain ⟨n1, n6, n7, n8, n9, n10, n11⟩ := hk
  clear h hA h1
  go_enter Tryz.func16, Tryz.ntmps16
  go_wp2
  go_ret
  exact ⟨rfl, HA.out⟩
end
end Go.Proofs.YtfaeidbgdcincaaGreatDoor
/- Walks: the laws: awake. -/
namespace Go.Proofs.YtfaeidbgdcincaaGreatDoor
open Go.RowKit
attribute [local go_sem ↓] Go.wp_at_zero Go.wp_at_succ

theorem calm_new {F : Nat → FC} (nm : List UInt8) (room : Int) (N : Nat) (h : room = 1152921504606846976 ∨ room = 100000 ∧ N ≤ 5000) : Calm nm ⟨[], [], [], dNew room⟩ F false N 0 :=
  ⟨h, rfl, rfl, rfl, rfl, rfl, rfl, ⟨Int.le_refl _, Int.le_refl _⟩, rfl, fun _ => ⟨rfl, rfl⟩, fun h => by cases h⟩
theorem awake_one : piece (keptL (fun _ => []) (oldestN 0 5) 1 2 3 1) (max 0 (oldestN 0 5)) 9 = [(2, 3)] := by decide +kernel
theorem awake_none {L' : Nat → List Pt} (h : Forgot (keptL (fun _ => []) (oldestN 0 5) 1 2 3) L' (oldestN (tickedN 0 7) 5)) : piece (L' 1) (max 0 (oldestN (tickedN 0 7) 5)) 9 = [] := by
  rcases h 1 (by omega) with e | e
  · rw [e]; decide +kernel
  · rw [e]; decide +kernel
section
variable {lt : List UInt8}
set_option maxRecDepth 100000 in
set_option maxHeartbeats 8000000 in
theorem awake_any {B : Nat} (w : World) (hL : Lets B w lt) (hnum : NumOk 1) (hne : nameL lt 1 ≠ []) :
    Calls Tryz.prog 13 #[] w fun e w' => e = .returned (.bool true) ∧ Chg (fun _ => False) w w' := by
  have NW : Hid (Calls Tryz.prog 19 #[.int .i64 100000] w fun e w' => ∃ b, e = .returned (.pointer (some ⟨b, 0, none⟩)) ∧ RepU w' b ⟨[], [], [], dNew 100000⟩ (fun _ => ([], 0)) (One w.heap.size) ∧ Chg (fun _ => False) w w' ∧ w'.heap.size = w.heap.size + 1) := by
    refine (newU (F := fun _ => ([], 0)) 100000 w).mono ?_
    rintro e w' ⟨rfl, h1, h2, h3⟩
    exact ⟨_, rfl, h1, h2, h3⟩
  have HL := hide hL
  clear hL
  go_enter Tryz.func13, Tryz.ntmps13
  go_wp2_with (fail)
  refine NW.out.mono ?_
  rintro e w1 ⟨b, rfl, hd1, k1, hz1⟩
  have OP := hide (open_calm 5 5 0 hd1 (fun k hk => by cases hk; omega) (calm_new (nameL lt 1) 100000 0 (.inr ⟨rfl, by omega⟩)) (by omega) (by omega))
  have K1 := hide k1
  clear NW hd1 k1
  go_wp2_with (fail)
  refine OP.out.mono ?_
  rintro e w2 ⟨sb, jb, rfl, hV, k2, hsb, hjb⟩
  have K2 : Hid (Chg (fun _ => False) w w2) := K1.out.trans k2 fun _ h _ => h
  have F2 : Hid (∀ k, SFoot sb jb (fun _ => .slice none 0 0) none (One w.heap.size) k → w.heap.size ≤ k) := fun k hk => by
    rcases hk with (rfl | ⟨i, _, hi⟩) | rfl | ⟨s, hs⟩ | hk
    · omega
    · simp [Value.ownBlock] at hi
    · omega
    · cases hs
    · cases hk; omega
  have PU : Hid (Calls Tryz.prog 21 #[.pointer (some ⟨sb, 0, none⟩), .int .i64 1, .int .i64 2, .int .i64 3] w2 fun e w' => e = .returned (.int .i64 0) ∧ STo w2 w' (nameL lt 1) sb jb b 0 5 0 (fun _ => .slice none 0 0) none (One w.heap.size) (keptL (fun _ => []) (oldestN 0 5) 1 2 3) (0 + 33) (0 + 3)) :=
    put_calm (k := 1) hV (HL.out.keep0 K2.out) (by have := HL.out.2.1; omega) hnum hne 2 3 (by omega) (by simp) (by omega) (by constructor <;> omega) (by constructor <;> omega) (by constructor <;> omega) (by omega) (by omega)
  clear OP hV k2 hsb hjb K1 hz1
  go_wp2_with (fail)
  refine PU.out.mono ?_
  rintro e w3 ⟨rfl, k3, lv3, own3, D3, F3, Ft3, hV3, hs3⟩
  have K3 : Hid (Chg (fun _ => False) w w3) := K2.out.newer k3 F2.out
  have FF3 : Hid (∀ k, SFoot sb jb lv3 own3 Ft3 k → w.heap.size ≤ k) := fun k hk => (hs3 k hk).elim (F2.out k) (fun h => Nat.le_trans K2.out.size h)
  have QU : Hid (Calls Tryz.prog 31 #[.pointer (some ⟨sb, 0, none⟩), .int .i64 1, .int .i64 0, .int .i64 9] w3 fun e w' => ∃ v, e = .returned (.tuple #[v, .int .i64 0]) ∧ PtSl w' v [(2, 3)] ∧ Chg (fun _ => False) w3 w' ∧ ∀ g, v.ownBlock = some g → w3.heap.size ≤ g) := by
    have := query_ok w3 1 0 9 hV3.blk hV3.rows (by omega) (by omega) (by constructor <;> omega)
    rw [awake_one] at this
    exact this
  have HV3 := hide hV3
  clear PU k3 hs3 K2 F2 hV3
  go_wp2_with (fail)
  refine QU.out.mono ?_
  rintro e w4 ⟨v, rfl, hv, k4, hfr⟩
  obtain ⟨ad, cap, rfl, -, -, hg, -, -⟩ := ownsRow_form hv
  obtain ⟨g, rfl⟩ := hg (by decide)
  have V4 := hide (HV3.out.chg0 k4)
  have K4 : Hid (Chg (fun _ => False) w w4) := K3.out.trans k4 fun _ h _ => h
  have HV := hide hv
  have NG : Hid (¬ SFoot sb jb lv3 own3 Ft3 g) := fun hx => by have := HV3.out.lt hx; have := hfr g rfl; omega
  have TI := hide (tick_ok w4 7 V4.out.blk V4.out.rows (by omega) (by omega) (by constructor <;> omega))
  clear QU hv k4 hfr K3 HV3
  go_wp2_with (fail)
  refine TI.out.mono ?_
  rintro e w5 ⟨rfl, lv5, L5, hS, hF⟩
  obtain ⟨k5, lv6, own6, D6, F6, Ft6, V6, s6⟩ := V4.out.turn hS
  have K5 : Hid (Chg (fun _ => False) w w5) := K4.out.newer k5 FF3.out
  have HV5 : Hid (PtSl w5 (.slice (some ⟨g, 0, none⟩) 1 cap) [(2, 3)]) := ownsRow_same HV.out fun x hx => k5.block x (ownsRow_lt HV.out hx) (by simp [Value.ownBlock] at hx; subst hx; exact NG.out)
  have Q2 : Hid (Calls Tryz.prog 31 #[.pointer (some ⟨sb, 0, none⟩), .int .i64 1, .int .i64 0, .int .i64 9] w5 fun e w' => ∃ v, e = .returned (.tuple #[v, .int .i64 0]) ∧ PtSl w' v [] ∧ Chg (fun _ => False) w5 w' ∧ ∀ g, v.ownBlock = some g → w5.heap.size ≤ g) := by
    have hcl : In64 (tickedN 0 7) := ticked_In64 (by constructor <;> omega) (by omega) (by omega)
    have := query_ok w5 1 0 9 V6.blk V6.rows (by omega) (by omega) hcl
    rw [awake_none hF] at this
    exact this
  clear TI hS hF k5 V6 s6 V4 K4 HV NG FF3
  go_wp2_with (fail)
  refine Q2.out.mono ?_
  rintro e w6 ⟨v, rfl, hv, k6, hfr⟩
  obtain ⟨ad, cap2, rfl, -⟩ := ownsRow_form hv
  have hv6 : PtSl w6 (.slice (some ⟨g, 0, none⟩) 1 cap) [(2, 3)] := ownsRow_same HV5.out fun x hx => k6.block x (ownsRow_lt HV5.out hx) (fun h => h)
  obtain ⟨t0, t1⟩ := hv6.cells 0 (by decide)
  have K6 : Hid (Chg (fun _ => False) w w6) := K5.out.trans k6 fun _ h _ => h
  clear Q2 hv k6 hfr HV5 K5 hv6
  simp only [List.getElem_cons_zero] at t0 t1
  go_wp2
  go_ret
  exact ⟨rfl, K6.out⟩
end
end Go.Proofs.YtfaeidbgdcincaaGreatDoor
/- Walks: the laws: played, of a script whose Opens, Syncs, crashes and failures are passed over; Writes. -/
namespace Go.Proofs.YtfaeidbgdcincaaGreatDoor
open Go.RowKit
attribute [local go_sem ↓] Go.wp_at_zero Go.wp_at_succ

/-- A script in memory: from block g, cell o on. -/
def ScrAt (w : World) (g o n : Nat) : Prop := ∀ i, i < n → ∃ kd a b c tv, In64 a ∧ In64 b ∧ In64 c ∧ w.cell? ⟨g, o + i * 5, none⟩ = some (.int .i64 kd) ∧ w.cell? ⟨g, o + i * 5 + 1, none⟩ = some (.int .i64 a) ∧ w.cell? ⟨g, o + i * 5 + 2, none⟩ = some (.int .i64 b) ∧ w.cell? ⟨g, o + i * 5 + 3, none⟩ = some (.int .i64 c) ∧ w.cell? ⟨g, o + i * 5 + 4, none⟩ = some tv
/-- Behind so many steps: a store is open, or none could be. -/
def PI (w : World) (lt : List UInt8) (H wb : Nat) (life : Int) (k : Nat) : Prop := (1 ≤ life ∧ life ≤ 4611686018427387904) ∧ LI w lt H wb life k ∨ ∃ n, WBlk w wb n ∧ n.sv = .pointer none
theorem PI.chg0 {w w' : World} {lt : List UInt8} {H wb : Nat} {life : Int} {k : Nat} (h : PI w lt H wb life k) (hc : Chg (fun _ => False) w w') : PI w' lt H wb life k := by
  rcases h with ⟨h1, h2⟩ | ⟨n, h1, h2⟩
  · exact .inl ⟨h1, h2.chg0 hc⟩
  · exact .inr ⟨n, h1.chg0 hc, h2⟩
theorem PI.more {w : World} {lt : List UInt8} {H wb : Nat} {life : Int} {k k' : Nat} (h : PI w lt H wb life k) (hk : k ≤ k') : PI w lt H wb life k' := h.imp (fun h => ⟨h.1, h.2.more hk⟩) id
section
variable {lt : List UInt8} {H wb : Nat} {life : Int}
theorem step_pi {B k : Nat} (w : World) (kd a b3 c3 : Int) (tv : Value) (h : PI w lt H wb life k) (hL : Lets B w lt) (hBH : B ≤ H) (hnum : NumOk 1) (hne : nameL lt 1 ≠ []) (hm : k ≤ 2097152) (ha : In64 a) (hb : In64 b3) (hc3 : In64 c3) (hk : kd ∉ [1, 6, 7, 8, 9, 10, 11]) :
    Calls Tryz.prog 16 #[.pointer (some ⟨wb, 0, none⟩), .agg #[.int .i64 kd, .int .i64 a, .int .i64 b3, .int .i64 c3, tv]] w fun e w' => e = .returned (.bool true) ∧ Chg (Up H) w w' ∧ PI w' lt H wb life (k + 1) := by
  rcases h with ⟨h1, h2⟩ | ⟨n, h1, h2⟩
  · refine (step_any w kd a b3 c3 tv h2 hL hBH hnum hne h1 hm ha hb hc3 hk).mono ?_
    rintro e w' ⟨rfl, q1, q2⟩
    exact ⟨rfl, q1, .inl ⟨h1, q2⟩⟩
  · refine (step_nil w kd a b3 c3 tv h1 h2 hk).mono ?_
    rintro e w' ⟨rfl, q1⟩
    exact ⟨rfl, q1.mono fun _ _ h => h.elim, .inr ⟨n, h1.chg0 q1, h2⟩⟩
/-- The first Open. -/
theorem opens_first {B b : Nat} {F : Nat → FC} {window clock count : Int} (w : World) (h : WBlk w wb ⟨life, window, -1, clock, .pointer (some ⟨b, 0, none⟩), .pointer none, .slice none 0 0, 0, false, false, clock, window, 0, .slice none 0 0, .slice none 0 0, count⟩)
    (hd : RepU w b ⟨[], [], [], dNew 1152921504606846976⟩ F (One b)) (hbw : b < wb) (hL : Lets B w lt) (hHw : H ≤ wb) (hBH : B ≤ H) (hnum : NumOk 1) (hne : nameL lt 1 ≠ []) (hc : In64 clock) :
    Calls Tryz.prog 15 #[.pointer (some ⟨wb, 0, none⟩), .int .i64 window, .int .i64 0] w fun e w' => e = .returned (.bool true) ∧ Chg (Up H) w w' ∧ PI w' lt H wb life 0 := by
  have hwl := h.lt
  have hlt : ∀ k, One b k → k < w.heap.size := fun k hk => by cases hk; omega
  have hnw : ¬ One b wb := fun e => by cases e; omega
  by_cases hcf : (1 ≤ life ∧ life ≤ 4611686018427387904) ∧ (1 ≤ window ∧ window ≤ 4611686018427387904)
  · obtain ⟨hl, hw⟩ := hcf
    refine (opens_good w h rfl rfl rfl rfl hd hlt hnw (calm_new (nameL lt 1) 1152921504606846976 6000 (.inl rfl)) hL (by omega) hnum hne hl hw hc (by omega) (by omega)).mono ?_
    rintro e w' ⟨rfl, b2, sb, jb, Ft2, q1, q2, q3, q4⟩
    refine ⟨rfl, q4.mono fun x _ e => by cases e; exact hHw, .inl ⟨hl, _, sb, jb, b2, clock, _, _, none, _, F, Ft2, 6000, 0, [], [], ⟨q1, rfl, rfl, rfl, rfl, rfl, q2, World.ownsRow_nil _ _ _ _, World.ownsRow_nil _ _ _ _, ?_, ?_, ?_⟩, rfl, hc, Rel.nil _ _, by simp, by simp, by simp, by simp, by omega, by omega, by omega⟩⟩
    · rintro k (rfl | e | e)
      · intro hx; have := q3 _ hx; omega
      · simp [Value.ownBlock] at e
      · simp [Value.ownBlock] at e
    · rintro k (rfl | e | e)
      · exact hHw
      · simp [Value.ownBlock] at e
      · simp [Value.ownBlock] at e
    · intro k hk; have := q3 k hk; omega
  · refine (opens_bad (lt := lt) (N := 6000) (C := 0) w h rfl rfl rfl hd hlt hnw (calm_new (nameL lt 1) 1152921504606846976 6000 (.inl rfl)) hcf hc).mono ?_
    rintro e w' ⟨rfl, b2, q1, q2⟩
    exact ⟨rfl, q2.mono fun x _ e => by cases e; exact hHw, .inr ⟨_, q1, rfl⟩⟩
end
section
variable {lt : List UInt8}
set_option maxRecDepth 100000 in
set_option maxHeartbeats 8000000 in
theorem played_any {B g o n gw : Nat} (w : World) (life window clock : Int) (cap : Nat) (hS : ScrAt w g o n) (hn : n ≤ 1048576) (hg : n ≠ 0 → g < w.heap.size) (hW : IntsAt w gw [1, 6, 7, 8, 9, 10, 11]) (hL : Lets B w lt) (hnum : NumOk 1) (hne : nameL lt 1 ≠ []) (hc : In64 clock) (sv : Value)
    (hsv : sv = .slice (some ⟨g, o, none⟩) n cap ∨ (n = 0 ∧ ∃ x, sv = .slice x 0 cap)) :
    Calls Tryz.prog 12 #[.agg #[.int .i64 life, .int .i64 window, .int .i64 (-1), .int .i64 clock], sv, .slice (some ⟨gw, 0, none⟩) 7 7] w fun e w' => e = .returned (.bool true) ∧ Chg (Up w.heap.size) w w' := by
  have hform : ∃ a, sv = .slice a n cap ∧ (n ≠ 0 → a = some ⟨g, o, none⟩) := by
    rcases hsv with rfl | ⟨rfl, x, rfl⟩
    · exact ⟨_, rfl, fun _ => rfl⟩
    · exact ⟨x, rfl, fun h => absurd rfl h⟩
  obtain ⟨ad, rfl, had⟩ := hform
  have hA := (Chg.refl (fun _ => False) w).alloc (.cells #[.int .i64 life, .int .i64 window, .int .i64 (-1), .int .i64 clock] 23)
  have hbx := heap_alloc_new w (.cells #[.int .i64 life, .int .i64 window, .int .i64 (-1), .int .i64 clock] 23)
  generalize hw0 : (w.alloc (.cells #[.int .i64 life, .int .i64 window, .int .i64 (-1), .int .i64 clock] 23)) = w0 at hA hbx
  have q0 : w0.cell? ⟨w.heap.size, 0, none⟩ = some (.int .i64 life) := by simp only [World.cell?, hbx]; rfl
  have q1 : w0.cell? ⟨w.heap.size, 1, none⟩ = some (.int .i64 window) := by simp only [World.cell?, hbx]; rfl
  have q2 : w0.cell? ⟨w.heap.size, 2, none⟩ = some (.int .i64 (-1)) := by simp only [World.cell?, hbx]; rfl
  have q3 : w0.cell? ⟨w.heap.size, 3, none⟩ = some (.int .i64 clock) := by simp only [World.cell?, hbx]; rfl
  have HA := hide hA
  have HS := hide hS
  have HG := hide hg
  have HAD := hide had
  have HW := hide hW
  have HL := hide hL
  have AW := hide (awake_any w0 (hL.keep0 hA) hnum hne)
  clear hS hA hbx hW hL hsv had hg
  go_enter Tryz.func12, Tryz.ntmps12
  go_wp2_with (fail)
  refine AW.out.mono ?_
  rintro e w1 ⟨rfl, k1⟩
  have K1 : Hid (Chg (fun _ => False) w w1) := HA.out.trans k1 fun _ h _ => h
  have p0 := k1.cellKeep q0
  have p1 := k1.cellKeep q1
  have p2 := k1.cellKeep q2
  have p3 := k1.cellKeep q3
  have BG := hide (begun_neg (F := fun _ => ([], 0)) w1 life window clock 0)
  clear AW k1 q0 q1 q2 q3 hw0 HA
  go_wp2_with (fail)
  refine BG.out.mono ?_
  rintro e w2 ⟨wb, b, rfl, hb2, hd2, hs2, hbw, k2⟩
  have K2 : Hid (Chg (fun _ => False) w w2) := K1.out.trans k2 fun _ h _ => h
  have r1 := k2.cellKeep p1
  have OP := hide (opens_first (lt := lt) (H := w.heap.size) w2 hb2 hd2 hbw (HL.out.keep0 K2.out) (by have := K1.out.size; omega) HL.out.2.1 hnum hne hc)
  clear BG p0 p1 p2 p3 hb2 hd2 hs2 hbw k2 K1
  go_wp2_with (fail)
  refine OP.out.mono ?_
  rintro e w3 ⟨rfl, k3, hI⟩
  have K3 : Hid (Chg (Up w.heap.size) w w3) := (K2.out.mono (S' := Up w.heap.size) fun _ _ h => h.elim).trans k3 fun _ h _ => h
  have HI := hide hI
  clear OP k3 hI K2 r1
  have hnI : (n : Int) ≤ 1048576 := by omega
  go_wp2
  have hgw : Hid (gw < w.heap.size) := World.block_lt_of_cell? w _ (HW.out 0 (by decide))
  have AM : Hid (∀ w' x, Chg (Up w.heap.size) w w' → Calls Tryz.prog 35 #[.slice (some ⟨gw, 0, none⟩) 7 7, .int .i64 x] w' fun e w2 => e = .returned (.bool (decide (x ∈ ([1, 6, 7, 8, 9, 10, 11] : List Int)))) ∧ w' = w2) := fun w' x hk =>
    among_any w' gw [1, 6, 7, 8, 9, 10, 11] x (fun k hk' => cell_chg hk (HW.out k hk') fun e => by unfold Up at e; have := hgw.out; omega) (by decide)
  clear HW
  go_loopw [9, 10] (fun okv iv wr => ∃ k : Nat, k ≤ n ∧ okv = .bool true ∧ iv = .int .i64 k ∧ Hid (Chg (Up w.heap.size) w wr ∧ PI wr lt w.heap.size wb life k)) (fun _ iv _ => n - (intOf iv).toNat)
  case atStart => exact ⟨0, Nat.zero_le _, rfl, rfl, K3.out, HI.out⟩
  case round =>
    obtain ⟨k, hk, rfl, rfl, hH⟩ := hrel
    obtain ⟨w4, hw4⟩ : ∃ w4, w4 = wr := ⟨_, rfl⟩
    subst hw4
    have k0 : (0 : Int) ≤ (k : Int) := Int.natCast_nonneg _
    clear K3 HI
    by_cases hlk : k < n
    · have i1 : (k : Int) < (n : Int) := by omega
      obtain rfl := HAD.out (by omega)
      have hgl := HG.out (by omega)
      obtain ⟨kd, a, b3, c3, tv, ia, ib, ic, s0, s1, s2, s3, s4⟩ := HS.out k hlk
      have up : ∀ x u, w.cell? ⟨g, x, none⟩ = some u → w4.cell? ⟨g, x, none⟩ = some u := fun x u hu => cell_chg hH.out.1 hu fun e => by unfold Up at e; omega
      have s0 := up _ _ s0
      have s1 := up _ _ s1
      have s2 := up _ _ s2
      have s3 := up _ _ s3
      have s4 := up _ _ s4
      have AMk := hide (AM.out w4 kd hH.out.1)
      by_cases hin : kd ∈ ([1, 6, 7, 8, 9, 10, 11] : List Int)
      · rw [decide_eq_true hin] at AMk
        have NXT : Hid (PI w4 lt w.heap.size wb life (k + 1)) := hH.out.2.more (Nat.le_succ k)
        clear AM HS HG HAD up hin ia ib ic
        go_wp2_with (go_at_call 35; refine AMk.out.mono ?_; rintro e w5 ⟨rfl, rfl⟩)
        go_roundw
        case rel => exact ⟨k + 1, by omega, rfl, by go_num, hH.out.1, NXT.out⟩
        case measure => simp [intOf]; omega
      · rw [decide_eq_false hin] at AMk
        have ST := hide (step_pi w4 kd a b3 c3 tv hH.out.2 (HL.out.keep hH.out.1 fun x e => by unfold Up at e; have := HL.out.2.1; omega) HL.out.2.1 hnum hne (by omega) ia ib ic hin)
        clear AM HS HG HAD up hin ia ib ic
        go_wp2_with (first
          | (go_at_call 35; refine AMk.out.mono ?_; rintro e w5 ⟨rfl, rfl⟩)
          | (go_at_call 16; refine ST.out.mono ?_; rintro e w5 ⟨rfl, k5, hI5⟩; have K5 := hide k5; have HI5 := hide hI5; clear k5 hI5))
        go_roundw
        case rel => exact ⟨k + 1, by omega, rfl, by go_num, hH.out.1.trans K5.out (fun _ h _ => h), HI5.out⟩
        case measure => simp [intOf]; omega
    · obtain rfl : k = n := by omega
      have AMk := hide (AM.out w4 1 hH.out.1)
      rw [decide_eq_true (by decide)] at AMk
      clear AM HS HG HAD
      go_wp2_with (go_at_call 35; refine AMk.out.mono ?_; rintro e w5 ⟨rfl, rfl⟩)
      go_ret
      exact ⟨rfl, hH.out.1⟩
set_option maxRecDepth 100000 in
set_option maxHeartbeats 4000000 in
theorem writes_law {B g o n : Nat} (w : World) (life window room clock : Int) (cap : Nat) (hS : ScrAt w g o n) (hn : n ≤ 1048576) (hg : n ≠ 0 → g < w.heap.size) (hL : Lets B w lt) (hnum : NumOk 1) (hne : nameL lt 1 ≠ []) (hc : In64 clock) (sv : Value)
    (hsv : sv = .slice (some ⟨g, o, none⟩) n cap ∨ (n = 0 ∧ ∃ x, sv = .slice x 0 cap)) :
    Calls Tryz.prog 3 #[.agg #[.int .i64 life, .int .i64 window, .int .i64 room, .int .i64 clock], sv] w fun e w' => e = .returned (.bool true) ∧ Chg (Up w.heap.size) w w' := by
  have hc1 := (Chg.refl (fun _ => False) w).alloc (.cells #[.int .i64 life, .int .i64 window, .int .i64 (-1), .int .i64 clock] 23)
  have hb1 : (w.alloc (.cells #[.int .i64 life, .int .i64 window, .int .i64 (-1), .int .i64 clock] 23)).heap[w.heap.size]? = some (.cells #[.int .i64 life, .int .i64 window, .int .i64 (-1), .int .i64 clock] 23 (0, 0)) := heap_alloc_new w _
  have hc2 : Chg (fun _ => False) w ((w.alloc (.cells #[.int .i64 life, .int .i64 window, .int .i64 (-1), .int .i64 clock] 23)).alloc (.cells #[.int .i64 1, .int .i64 6, .int .i64 7, .int .i64 8, .int .i64 9, .int .i64 10, .int .i64 11] 3)) := hc1.alloc _
  have hI : IntsAt ((w.alloc (.cells #[.int .i64 life, .int .i64 window, .int .i64 (-1), .int .i64 clock] 23)).alloc (.cells #[.int .i64 1, .int .i64 6, .int .i64 7, .int .i64 8, .int .i64 9, .int .i64 10, .int .i64 11] 3)) (w.heap.size + 1) [1, 6, 7, 8, 9, 10, 11] := by
    have hz : (w.alloc (.cells #[.int .i64 life, .int .i64 window, .int .i64 (-1), .int .i64 clock] 23)).heap.size = w.heap.size + 1 := by simp
    have hb2 := heap_alloc_new (w.alloc (.cells #[.int .i64 life, .int .i64 window, .int .i64 (-1), .int .i64 clock] 23)) (.cells #[.int .i64 1, .int .i64 6, .int .i64 7, .int .i64 8, .int .i64 9, .int .i64 10, .int .i64 11] 3)
    rw [hz] at hb2
    intro k hk
    simp only [World.cell?, hb2]
    match k, hk with
    | 0, _ => rfl
    | 1, _ => rfl
    | 2, _ => rfl
    | 3, _ => rfl
    | 4, _ => rfl
    | 5, _ => rfl
    | 6, _ => rfl
  have PL := hide (played_any (g := g) (o := o) (gw := w.heap.size + 1) _ life window clock cap (fun i hi => by
      obtain ⟨kd, a, b, c, tv, ia, ib, ic, s0, s1, s2, s3, s4⟩ := hS i hi
      exact ⟨kd, a, b, c, tv, ia, ib, ic, hc2.cellKeep s0, hc2.cellKeep s1, hc2.cellKeep s2, hc2.cellKeep s3, hc2.cellKeep s4⟩) hn (fun h => Nat.lt_of_lt_of_le (hg h) hc2.size) hI (hL.keep0 hc2) hnum hne hc sv hsv)
  have HC2 := hide hc2
  have r0 : (w.alloc (.cells #[.int .i64 life, .int .i64 window, .int .i64 (-1), .int .i64 clock] 23)).cell? ⟨w.heap.size, 0, none⟩ = some (.int .i64 life) := by simp only [World.cell?, hb1]; rfl
  clear hc1 hb1 hc2 hI hS hL hsv hg
  go_enter Tryz.func3, Tryz.ntmps3
  go_wp2_with (go_at_call 12; refine PL.out.mono ?_; rintro e w2 ⟨rfl, k2⟩; have K2 := hide k2; clear k2)
  go_ret
  exact ⟨rfl, (HC2.out.mono (S' := Up w.heap.size) fun _ _ h => h.elim).trans K2.out fun x hx _ => by unfold Up at hx ⊢; have := HC2.out.size; omega⟩
end
end Go.Proofs.YtfaeidbgdcincaaGreatDoor
