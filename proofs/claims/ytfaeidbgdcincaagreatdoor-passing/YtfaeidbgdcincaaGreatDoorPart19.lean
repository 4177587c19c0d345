/-
  The statement WritesUptoCardSaid is proved: the law Writes answers true at every set and every script within the statement's bounds.
  Part 19 of 23.
-/
import Derived.Test.YtfaeidbgdcincaaGreatDoorPart18
/- Walks: the laws: opens, on an empty disk. -/
namespace Go.Proofs.YtfaeidbgdcincaaGreatDoor
open Go.RowKit
attribute [local go_sem ↓] Go.wp_at_zero Go.wp_at_succ

theorem configB_true {life window : Int} (hl : 1 ≤ life ∧ life ≤ 4611686018427387904) (hw : 1 ≤ window ∧ window ≤ 4611686018427387904) : configB life window = true := by simp [configB]; omega
theorem configB_false {life window : Int} (h : ¬ ((1 ≤ life ∧ life ≤ 4611686018427387904) ∧ (1 ≤ window ∧ window ≤ 4611686018427387904))) : configB life window = false := by
  simp only [configB, decide_eq_false_iff_not]; omega
section
variable {w w' : World} {wb : Nat} {n : WN} {b : Nat} {D : DS} {F : Nat → FC} {Ft : Nat → Prop}
set_option maxRecDepth 100000 in
set_option maxHeartbeats 400000 in
theorem callsU (h : RepU w b D F Ft) : Calls Tryz.prog 44 #[.pointer (some ⟨b, 0, none⟩)] w fun e w' => e = .returned (.int .i64 D.n.calls) ∧ w = w' := by
  obtain ⟨vd, vs, vc, h⟩ := h.blk
  have h4 := h.c4
  go_enter Tryz.func44, Tryz.ntmps44
  go_wp2
  go_ret
  exact ⟨rfl, rfl⟩
/-- The beginning of opens: the clock stands, the numbers are there. -/
def bornW (w : World) (wb : Nat) (clock life window : Int) : World := (w.setCell ⟨wb, 10, none⟩ (.int .i64 clock)).alloc (.cells #[.int .i64 life, .int .i64 window] 48)
theorem ticked_zero {clock : Int} (hc : In64 clock) : tickedN clock 0 = clock := by
  obtain ⟨h1, h2⟩ := hc
  unfold tickedN; split <;> omega
set_option maxRecDepth 100000 in
set_option maxHeartbeats 4000000 in
theorem opens_good {B N C : Nat} {lt : List UInt8} {life clock window : Int} (w : World) (h : WBlk w wb n) (hdv : n.dv = .pointer (some ⟨b, 0, none⟩)) (hck : n.clock = clock) (hlf : n.life = life) (hpv : n.pv = .slice none 0 0) (hd : RepU w b D F Ft) (hlt : ∀ k, Ft k → k < w.heap.size) (hnw : ¬ Ft wb) (hca : Calm (nameL lt 1) D F false N C)
    (hL : Lets B w lt) (hBw : B ≤ wb) (hnum : NumOk 1) (hne : nameL lt 1 ≠ []) (hl : 1 ≤ life ∧ life ≤ 4611686018427387904) (hw : 1 ≤ window ∧ window ≤ 4611686018427387904) (hc : In64 clock) (hN : N + 1000 ≤ 1099511627776 ∧ (N + 1000 ≤ 5000 ∨ 5000 < N)) (hC : C + 1000 ≤ 4611686018427387904) :
    Calls Tryz.prog 15 #[.pointer (some ⟨wb, 0, none⟩), .int .i64 window, .int .i64 0] w fun e w' => e = .returned (.bool true) ∧ ∃ b2 sb jb Ft2,
      WBlk w' wb { n with dv := .pointer (some ⟨b2, 0, none⟩), sv := .pointer (some ⟨sb, 0, none⟩), broken := false, win := window, fell := false } ∧
      StV w' (nameL lt 1) sb jb b2 0 life clock (fun _ => .slice none 0 0) (fun _ => []) none D F Ft2 N C ∧ (∀ k, SFoot sb jb (fun _ => .slice none 0 0) none Ft2 k → w.heap.size ≤ k) ∧ Chg (One wb) w w' := by
  have hwl := h.lt
  have c4 := h.c4
  rw [hdv] at c4
  have c0 := h.c0
  rw [hlf] at c0
  have c10 := h.c10
  rw [hck] at c10
  have f10 := h.fz 10
  have DE := hide (deadU hd)
  rw [hca.dead] at DE
  have TI : Hid (Calls Tryz.prog 39 #[.int .i64 clock, .int .i64 0] w fun e w' => e = .returned (.int .i64 clock) ∧ w = w') := by
    have := ticked_any clock 0 w hc (by omega)
    rwa [ticked_zero hc] at this
  have e0 := (h.s10 clock).c0
  rw [hlf] at e0
  have en : ({ n with clock := clock } : WN) = n := by subst hck; rfl
  have hc1 : Chg (One wb) w (bornW w wb clock life window) := ((Chg.refl (One wb) w).setAt rfl 10 _).alloc _
  have hsz : (bornW w wb clock life window).heap.size = w.heap.size + 1 := by simp [bornW]
  have hw1 : WBlk (bornW w wb clock life window) wb n := by
    have h2 := (h.s10 clock).chg0 ((Chg.refl (fun _ => False) _).alloc (.cells #[.int .i64 life, .int .i64 window] 48))
    rw [en] at h2; exact h2
  have hbx : (bornW w wb clock life window).heap[w.heap.size]? = some (.cells #[.int .i64 life, .int .i64 window] 48 (0, 0)) := by
    have := heap_alloc_new (w.setCell ⟨wb, 10, none⟩ (.int .i64 clock)) (.cells #[.int .i64 life, .int .i64 window] 48)
    simpa [bornW] using this
  have hd1 : RepU (bornW w wb clock life window) b D F Ft := hd.frame fun k hk => hc1.block k (hlt k hk) (fun e => hnw (by cases e; exact hk))
  have hL1 : Lets B (bornW w wb clock life window) lt := hL.keep hc1 fun k e => by cases e; exact hBw
  have HB : Hid ((w.setCell ⟨wb, 10, none⟩ (.int .i64 clock)).alloc (.cells #[.int .i64 life, .int .i64 window] 48) = bornW w wb clock life window) := rfl
  generalize bornW w wb clock life window = w1 at hc1 hw1 hbx hd1 hL1 hsz HB
  have q0 : w1.cell? ⟨w.heap.size, 0, none⟩ = some (.int .i64 life) := by simp only [World.cell?, hbx]; rfl
  have q1 : w1.cell? ⟨w.heap.size, 1, none⟩ = some (.int .i64 window) := by simp only [World.cell?, hbx]; rfl
  have hlt1 : ∀ k, Ft k → k < w1.heap.size := fun k hk => by have := hlt k hk; omega
  have CF := hide (config_any w1 life window)
  rw [configB_true hl hw] at CF
  -- the trial, then the copy
  have TR : Hid (∀ w2, Chg (fun _ => False) w1 w2 → Calls Tryz.prog 41 #[.pointer (some ⟨wb, 0, none⟩), .agg #[.int .i64 life, .int .i64 window]] w2 fun e w' => e = .returned (.tuple #[]) ∧ Chg (fun _ => False) w1 w') := fun w2 k2 => by
    refine (trial_calm w2 (hw1.chg0 k2) hdv hck (hd1.same hlt1 k2) (fun k hk => Nat.lt_of_lt_of_le (hlt1 k hk) k2.size) hca (hL1.keep0 k2) hnum hne hl hw hc hN hC).mono ?_
    rintro e w' ⟨rfl, k3⟩
    exact ⟨rfl, k2.trans k3 fun _ h _ => h⟩
  have CP : Hid (∀ w3, Chg (fun _ => False) w1 w3 → Calls Tryz.prog 42 #[.pointer (some ⟨b, 0, none⟩)] w3 fun e w' => ∃ b2 Ft2, e = .returned (.pointer (some ⟨b2, 0, none⟩)) ∧ RepU w' b2 D F Ft2 ∧ (∀ k, Ft2 k → w1.heap.size ≤ k ∧ k < w'.heap.size) ∧ Chg (fun _ => False) w1 w') := fun w3 k3 => by
    obtain ⟨n1, n2⟩ := hca.none_ rfl
    refine (copyU (hd1.same hlt1 k3) (by rw [n1, n2, hca.safe]; simp [sumLen]) (by rw [n2]; simp) (fun f hf => absurd hf (hca.ids0 f))).mono ?_
    rintro e w' ⟨b2, Ft2, rfl, a1, a2, a3⟩
    exact ⟨b2, Ft2, rfl, a1, fun k hk => ⟨Nat.le_trans k3.size (a2 k hk).1, (a2 k hk).2⟩, k3.trans a3 fun _ h _ => h⟩
  have HW1 := hide hw1
  have HC1 := hide hc1
  have HSZ := hide hsz
  have HCA := hide hca
  clear h hd hlt hL hw1 hc1 hbx hd1 hL1 hlt1 en hsz
  go_enter Tryz.func15, Tryz.ntmps15
  go_wp2_with (first
    | (go_at_call 37; refine DE.out.mono ?_; rintro e w1 ⟨rfl, rfl⟩)
    | (go_at_call 39; refine TI.out.mono ?_; rintro e w1 ⟨rfl, rfl⟩))
  rw [HB.out]
  clear DE TI c4 c0 c10 f10 e0
  refine CF.out.mono ?_
  rintro e w2 ⟨rfl, k2⟩
  have TR2 := hide (TR.out w2 k2)
  have r0 := k2.cellKeep q0
  have r1 := k2.cellKeep q1
  clear TR CF HB
  go_wp2_with (fail)
  refine TR2.out.mono ?_
  rintro e w3 ⟨rfl, k3⟩
  have t4 := (HW1.out.chg0 k3).c4
  rw [hdv] at t4
  have CP3 := hide (CP.out w3 k3)
  clear CP TR2 r0 r1 k2
  go_wp2_with (fail)
  refine CP3.out.mono ?_
  rintro e w4 ⟨b2, Ft2, rfl, hd4, hf4, k4⟩
  have hw4 := HW1.out.chg0 k4
  have t4' := hw4.c4
  have z4 := hw4.fz 4
  have hn4 : ¬ Ft2 wb := fun hx => by have := (hf4 wb hx).1; have := HSZ.out; omega
  have hc5 := (Chg.refl (One wb) w4).setAt (b := wb) rfl 4 (.pointer (some ⟨b2, 0, none⟩))
  have hw5 := hw4.s4 (.pointer (some ⟨b2, 0, none⟩))
  have hlt5 : ∀ k, Ft2 k → k < (w4.setCell ⟨wb, 4, none⟩ (.pointer (some ⟨b2, 0, none⟩))).heap.size := fun k hk => by simpa using (hf4 k hk).2
  have hd5 : RepU (w4.setCell ⟨wb, 4, none⟩ (.pointer (some ⟨b2, 0, none⟩))) b2 D F Ft2 := hd4.frame fun k hk => hc5.block k (hf4 k hk).2 (fun e => hn4 (by cases e; exact hk))
  have K5 : Hid (Chg (One wb) w1 (w4.setCell ⟨wb, 4, none⟩ (.pointer (some ⟨b2, 0, none⟩)))) := (k4.mono (S' := One wb) fun _ _ h => h.elim).trans hc5 fun _ h _ => h
  have MK := hide (marks_any _ hw5 rfl hd5 hlt5)
  have HW5 := hide hw5
  have HD5 := hide hd5
  have HF5 : Hid (∀ k, Ft2 k → w1.heap.size ≤ k) := fun k hk => (hf4 k hk).1
  have HL5 := hide hlt5
  have x0 := k4.cellKeep q0
  have x1 := k4.cellKeep q1
  have y0 : (w4.setCell ⟨wb, 4, none⟩ (.pointer (some ⟨b2, 0, none⟩))).cell? ⟨w.heap.size, 0, none⟩ = some (.int .i64 life) := (World.cell?_setCell_other _ _ _ _ (by simp; try omega)).trans x0
  have y1 : (w4.setCell ⟨wb, 4, none⟩ (.pointer (some ⟨b2, 0, none⟩))).cell? ⟨w.heap.size, 1, none⟩ = some (.int .i64 window) := (World.cell?_setCell_other _ _ _ _ (by simp; try omega)).trans x1
  rw [HCA.out.refused, HCA.out.fulls] at MK
  clear CP3 hd4 hf4 k4 hw4 hc5 hw5 hlt5 hd5 x0 x1 q0 q1 k3
  go_wp2_with (fail)
  generalize (w4.setCell ⟨wb, 4, none⟩ (.pointer (some ⟨b2, 0, none⟩))) = w5 at K5 MK HW5 HD5 HL5 y0 y1 ⊢
  refine MK.out.mono ?_
  rintro e w6 ⟨rfl, k6⟩
  have v4 : (w6.alloc (.cells #[.int .i64 0, .int .i64 0] 81)).cell? ⟨wb, 4, none⟩ = some (.pointer (some ⟨b2, 0, none⟩)) := (HW5.out.chg0 (k6.alloc _)).c4
  clear MK t4 t4' z4
  go_wp2_with (fail)
  -- the marks' box
  have k7 : Chg (fun _ => False) w5 (w6.alloc (.cells #[.int .i64 0, .int .i64 0] 81)) := k6.alloc _
  have hbx := heap_alloc_new w6 (.cells #[.int .i64 0, .int .i64 0] 81)
  have m0 : (w6.alloc (.cells #[.int .i64 0, .int .i64 0] 81)).cell? ⟨w6.heap.size, 0, none⟩ = some (.int .i64 0) := by simp only [World.cell?, hbx]; rfl
  have HB7 : Hid ((w6.alloc (.cells #[.int .i64 0, .int .i64 0] 81)).heap.size = w6.heap.size + 1) := by simp [Hid]
  generalize w6.alloc (.cells #[.int .i64 0, .int .i64 0] 81) = w7 at k7 m0 HB7 ⊢
  have W7 := hide (HW5.out.chg0 k7)
  have D7 := hide (HD5.out.same HL5.out k7)
  have L7 : Hid (∀ k, Ft2 k → k < w7.heap.size) := fun k hk => Nat.lt_of_lt_of_le (HL5.out k hk) k7.size
  have K7 : Hid (Chg (One wb) w1 w7) := K5.out.trans k7 fun _ h _ => h.elim
  have p0 := k7.cellKeep y0
  have p1 := k7.cellKeep y1
  have p4 : w7.cell? ⟨wb, 4, none⟩ = some (.pointer (some ⟨b2, 0, none⟩)) := W7.out.c4
  have p10 := W7.out.c10
  simp only [hck] at p10
  have CA := hide (callsU D7.out)
  obtain ⟨cn, hcn⟩ : ∃ cn, D.n.calls = cn := ⟨_, rfl⟩
  rw [hcn] at CA
  clear y0 y1 k6 hbx v4 HW5 HD5 HL5 K5 hcn k7
  refine CA.out.mono ?_
  rintro e w8 ⟨rfl, rfl⟩
  go_wp2_with (fail)
  have OP := hide (open_calm (w := w7.drew) life window clock D7.out.drew L7.out HCA.out hl hw)
  refine wp_region_sch (fun w' => w'.cell? ⟨wb, 4, none⟩ = some (.pointer (some ⟨b2, 0, none⟩)) ∧ w'.cell? ⟨w.heap.size, 0, none⟩ = some (.int .i64 life) ∧ w'.cell? ⟨w.heap.size, 1, none⟩ = some (.int .i64 window) ∧ w'.cell? ⟨wb, 10, none⟩ = some (.int .i64 clock)) 14
    [(0, true), (1, true), (2, true), (3, true), (4, true), (5, true), (6, true), (7, true), (8, true), (9, false), (10, true), (11, true), (12, true), (13, true)] (by kernel_rfl) (by kernel_rfl) (fun _ _ _ _ _ h => h) ⟨p4, p0, p1, p10⟩ ?_
  iterate 9 (refine wpSch_take (v := ?_) rfl (by rfl) ?_ ?_; rotate_left; (· (intro w' hS; (try dsimp only at hS); go_simp; try with_reducible rfl)); (try simp only [Act.put, List.setIfInBounds_toArray, List.set_cons_zero, List.set_cons_succ, List.getElem_toArray, List.getElem_cons_zero, List.getElem_cons_succ]))
  refine wpSch_do rfl (by rfl) (fun K hK => ?_)
  go_simp
  refine OP.out.mono ?_
  rintro e w8 ⟨sb, jb, rfl, hV, hc8, hsb, hjb⟩
  refine hK _ _ ⟨hc8.cellKeep p4, hc8.cellKeep p0, hc8.cellKeep p1, hc8.cellKeep p10⟩ (fun hS => ?_)
  have V8 := hide hV
  have k8 : Chg (fun _ => False) w7 w8 := ⟨hc8.os, hc8.tape, hc8.output, hc8.size, hc8.block⟩
  have W8 := hide (W7.out.chg0 k8)
  have K8 : Hid (Chg (One wb) w1 w8) := K7.out.trans k8 fun _ h _ => h.elim
  have m8 := k8.cellKeep m0
  have F8 : Hid (∀ k, SFoot sb jb (fun _ => .slice none 0 0) none Ft2 k → w1.heap.size ≤ k) := fun k hk => by
    have h7 := K7.out.size
    have e : w7.drew.heap.size = w7.heap.size := rfl
    rcases hk with (rfl | ⟨i, _, hi⟩) | rfl | ⟨s, hs⟩ | hk
    · omega
    · simp [Value.ownBlock] at hi
    · omega
    · cases hs
    · exact HF5.out k hk
  have MK : Hid (wb ≠ w6.heap.size) := fun e => by
    have := HSZ.out; have := K7.out.size; have := HB7.out; omega
  have s4 : w8.cell? ⟨wb, 4, none⟩ = some (.pointer (some ⟨b2, 0, none⟩)) := W8.out.c4
  have s5 := W8.out.c5
  have s9 := W8.out.c9
  have s11 := W8.out.c11
  have z5 := W8.out.fz 5
  have z9 := W8.out.fz 9
  have z11 := W8.out.fz 11
  have mk := MK.out
  clear hK K hS hV hc8 k8 OP p0 p1 p4 p10 W7 D7 L7 K7 m0 CA HF5 HB7
  (try simp only [Act.put, List.setIfInBounds_toArray, List.set_cons_zero, List.set_cons_succ, List.getElem_toArray, List.getElem_cons_zero, List.getElem_cons_succ])
  iterate 4 (refine wpSch_take (v := ?_) rfl (by rfl) ?_ ?_; rotate_left; (· (intro w' hS; (try dsimp only at hS); go_simp; try with_reducible rfl)); (try simp only [Act.put, List.setIfInBounds_toArray, List.set_cons_zero, List.set_cons_succ, List.getElem_toArray, List.getElem_cons_zero, List.getElem_cons_succ]))
  refine wpSch_end ?_
  simp only [List.drop_succ_cons, List.drop_zero]
  go_wp2_with (fail)
  have W9 := hide (W8.out.s5 (.pointer none))
  have hc9 := (Chg.refl (One wb) w8).setAt (b := wb) rfl 5 (.pointer none)
  have NW : Hid (¬ SFoot sb jb (fun _ => .slice none 0 0) none Ft2 wb) := fun hx => by have := F8.out wb hx; have := HSZ.out; omega
  have V9 := hide (V8.out.chg hc9 fun k hk e => NW.out (by cases e; exact hk))
  have K9 : Hid (Chg (One wb) w1 (w8.setCell ⟨wb, 5, none⟩ (.pointer none))) := K8.out.setAt rfl 5 _
  have g4 : (w8.setCell ⟨wb, 5, none⟩ (.pointer none)).cell? ⟨wb, 4, none⟩ = some (.pointer (some ⟨b2, 0, none⟩)) := W9.out.c4
  have gm : (w8.setCell ⟨wb, 5, none⟩ (.pointer none)).cell? ⟨w6.heap.size, 0, none⟩ = some (.int .i64 0) := (World.cell?_setCell_other _ _ _ _ (by simp; try omega)).trans m8
  clear hc9 V8 W8 K8 s4 s5 s9 s11 z5 z9 z11 m8
  generalize w8.setCell ⟨wb, 5, none⟩ (.pointer none) = w9 at W9 V9 K9 g4 gm ⊢
  have RF := hide (refusedU V9.out.jv.dsk.drew)
  rw [HCA.out.refused] at RF
  refine wp_region_sch (fun w' => w'.cell? ⟨wb, 4, none⟩ = some (.pointer (some ⟨b2, 0, none⟩)) ∧ w'.cell? ⟨w6.heap.size, 0, none⟩ = some (.int .i64 0)) 7
    [(0, true), (1, true), (2, true), (3, true), (5, true), (6, true), (4, false)] (by kernel_rfl) (by kernel_rfl) (fun _ _ _ _ _ h => h) ⟨g4, gm⟩ ?_
  iterate 6 (refine wpSch_take (v := ?_) rfl (by rfl) ?_ ?_; rotate_left; (· (intro w' hS; (try dsimp only at hS); go_simp; try with_reducible rfl)); (try simp only [Act.put, List.setIfInBounds_toArray, List.set_cons_zero, List.set_cons_succ, List.getElem_toArray, List.getElem_cons_zero, List.getElem_cons_succ]))
  refine wpSch_do rfl (by rfl) (fun K hK => ?_)
  go_simp
  refine RF.out.mono ?_
  rintro e w10 ⟨rfl, rfl⟩
  refine hK _ _ ⟨g4, gm⟩ (fun hS => ?_)
  clear hK K hS
  (try simp only [Act.put, List.setIfInBounds_toArray, List.set_cons_zero, List.set_cons_succ, List.getElem_toArray, List.getElem_cons_zero, List.getElem_cons_succ])
  refine wpSch_end ?_
  simp only [List.drop_succ_cons, List.drop_zero]
  have s5 := W9.out.c5
  have s9 := W9.out.c9
  have s11 := W9.out.c11
  have z5 := W9.out.fz 5
  have z9 := W9.out.fz 9
  have z11 := W9.out.fz 11
  clear RF g4 gm
  go_wp2_with (fail)
  have W12 := ((W9.out.s5 (.pointer (some ⟨sb, 0, none⟩))).s9 false).s11 window
  have hc12 : Chg (One wb) w9 (((w9.setCell ⟨wb, 5, none⟩ (.pointer (some ⟨sb, 0, none⟩))).setCell ⟨wb, 9, none⟩ (.bool false)).setCell ⟨wb, 11, none⟩ (.int .i64 window)).drew := ((((Chg.refl (One wb) w9).setAt rfl 5 _).setAt rfl 9 _).setAt rfl 11 _).drew
  have V12 := V9.out.chg hc12 fun k hk e => NW.out (by cases e; exact hk)
  have K12 : Hid (Chg (One wb) w1 (((w9.setCell ⟨wb, 5, none⟩ (.pointer (some ⟨sb, 0, none⟩))).setCell ⟨wb, 9, none⟩ (.bool false)).setCell ⟨wb, 11, none⟩ (.int .i64 window)).drew) := K9.out.trans hc12 fun _ h _ => h
  have FO := hide (found_nil (clock := clock) (life := life) (((w9.setCell ⟨wb, 5, none⟩ (.pointer (some ⟨sb, 0, none⟩))).setCell ⟨wb, 9, none⟩ (.bool false)).setCell ⟨wb, 11, none⟩ (.int .i64 window)).drew W12 rfl rfl hck hlf hpv V12.blk V12.rows hl hc)
  have HV12 := hide V12
  clear V9 W9 K9 s5 s9 s11 z5 z9 z11 W12 hc12 V12
  refine FO.out.mono ?_
  rintro e w13 ⟨rfl, h1, h2⟩
  have FIN : Hid (WBlk w13 wb { n with dv := .pointer (some ⟨b2, 0, none⟩), sv := .pointer (some ⟨sb, 0, none⟩), broken := false, win := window, fell := false } ∧
      StV w13 (nameL lt 1) sb jb b2 0 life clock (fun _ => .slice none 0 0) (fun _ => []) none D F Ft2 N C ∧ (∀ k, SFoot sb jb (fun _ => .slice none 0 0) none Ft2 k → w.heap.size ≤ k) ∧ Chg (One wb) w w13) :=
    ⟨h1, HV12.out.chg h2 (fun k hk e => NW.out (by cases e; exact hk)), fun k hk => by have := F8.out k hk; have := HSZ.out; omega, (HC1.out.trans K12.out fun _ h _ => h).trans h2 fun _ h _ => h⟩
  clear FO HV12 K12 h1 h2
  go_wp2
  go_ret
  exact ⟨rfl, b2, sb, jb, Ft2, FIN.out⟩
set_option maxRecDepth 100000 in
set_option maxHeartbeats 4000000 in
theorem opens_bad {N C : Nat} {lt : List UInt8} {life clock window : Int} (w : World) (h : WBlk w wb n) (hdv : n.dv = .pointer (some ⟨b, 0, none⟩)) (hck : n.clock = clock) (hlf : n.life = life) (hd : RepU w b D F Ft) (hlt : ∀ k, Ft k → k < w.heap.size) (hnw : ¬ Ft wb) (hca : Calm (nameL lt 1) D F false N C)
    (hbad : ¬ ((1 ≤ life ∧ life ≤ 4611686018427387904) ∧ (1 ≤ window ∧ window ≤ 4611686018427387904))) (hc : In64 clock) :
    Calls Tryz.prog 15 #[.pointer (some ⟨wb, 0, none⟩), .int .i64 window, .int .i64 0] w fun e w' => e = .returned (.bool true) ∧ ∃ b2, WBlk w' wb { n with dv := .pointer (some ⟨b2, 0, none⟩), sv := .pointer none } ∧ Chg (One wb) w w' := by
  have hwl := h.lt
  have c4 := h.c4
  rw [hdv] at c4
  have c0 := h.c0
  rw [hlf] at c0
  have c10 := h.c10
  rw [hck] at c10
  have f10 := h.fz 10
  have DE := hide (deadU hd)
  rw [hca.dead] at DE
  have TI : Hid (Calls Tryz.prog 39 #[.int .i64 clock, .int .i64 0] w fun e w' => e = .returned (.int .i64 clock) ∧ w = w') := by
    have := ticked_any clock 0 w hc (by omega)
    rwa [ticked_zero hc] at this
  have e0 := (h.s10 clock).c0
  rw [hlf] at e0
  have en : ({ n with clock := clock } : WN) = n := by subst hck; rfl
  have hc1 : Chg (One wb) w (bornW w wb clock life window) := ((Chg.refl (One wb) w).setAt rfl 10 _).alloc _
  have hsz : (bornW w wb clock life window).heap.size = w.heap.size + 1 := by simp [bornW]
  have hw1 : WBlk (bornW w wb clock life window) wb n := by
    have h2 := (h.s10 clock).chg0 ((Chg.refl (fun _ => False) _).alloc (.cells #[.int .i64 life, .int .i64 window] 48))
    rw [en] at h2; exact h2
  have hbx : (bornW w wb clock life window).heap[w.heap.size]? = some (.cells #[.int .i64 life, .int .i64 window] 48 (0, 0)) := by
    have := heap_alloc_new (w.setCell ⟨wb, 10, none⟩ (.int .i64 clock)) (.cells #[.int .i64 life, .int .i64 window] 48)
    simpa [bornW] using this
  have hd1 : RepU (bornW w wb clock life window) b D F Ft := hd.frame fun k hk => hc1.block k (hlt k hk) (fun e => hnw (by cases e; exact hk))
  have HB : Hid ((w.setCell ⟨wb, 10, none⟩ (.int .i64 clock)).alloc (.cells #[.int .i64 life, .int .i64 window] 48) = bornW w wb clock life window) := rfl
  generalize bornW w wb clock life window = w1 at hc1 hw1 hbx hd1 hsz HB
  have q0 : w1.cell? ⟨w.heap.size, 0, none⟩ = some (.int .i64 life) := by simp only [World.cell?, hbx]; rfl
  have q1 : w1.cell? ⟨w.heap.size, 1, none⟩ = some (.int .i64 window) := by simp only [World.cell?, hbx]; rfl
  have hlt1 : ∀ k, Ft k → k < w1.heap.size := fun k hk => by have := hlt k hk; omega
  have CF := hide (config_any w1 life window)
  rw [configB_false hbad] at CF
  have CP : Hid (∀ w3, Chg (fun _ => False) w1 w3 → Calls Tryz.prog 42 #[.pointer (some ⟨b, 0, none⟩)] w3 fun e w' => ∃ b2 Ft2, e = .returned (.pointer (some ⟨b2, 0, none⟩)) ∧ RepU w' b2 D F Ft2 ∧ (∀ k, Ft2 k → w1.heap.size ≤ k ∧ k < w'.heap.size) ∧ Chg (fun _ => False) w1 w') := fun w3 k3 => by
    obtain ⟨n1, n2⟩ := hca.none_ rfl
    refine (copyU (hd1.same hlt1 k3) (by rw [n1, n2, hca.safe]; simp [sumLen]) (by rw [n2]; simp) (fun f hf => absurd hf (hca.ids0 f))).mono ?_
    rintro e w' ⟨b2, Ft2, rfl, a1, a2, a3⟩
    exact ⟨b2, Ft2, rfl, a1, fun k hk => ⟨Nat.le_trans k3.size (a2 k hk).1, (a2 k hk).2⟩, k3.trans a3 fun _ h _ => h⟩
  have HW1 := hide hw1
  have HC1 := hide hc1
  have HSZ := hide hsz
  have HCA := hide hca
  clear h hd hlt hw1 hc1 hbx hd1 hlt1 en hsz
  go_enter Tryz.func15, Tryz.ntmps15
  go_wp2_with (first
    | (go_at_call 37; refine DE.out.mono ?_; rintro e w1 ⟨rfl, rfl⟩)
    | (go_at_call 39; refine TI.out.mono ?_; rintro e w1 ⟨rfl, rfl⟩))
  rw [HB.out]
  clear DE TI c4 c0 c10 f10 e0
  refine CF.out.mono ?_
  rintro e w2 ⟨rfl, k2⟩
  have t4 := (HW1.out.chg0 k2).c4
  rw [hdv] at t4
  have CP3 := hide (CP.out w2 k2)
  clear CP CF HB
  go_wp2_with (fail)
  refine CP3.out.mono ?_
  rintro e w4 ⟨b2, Ft2, rfl, hd4, hf4, k4⟩
  have hw4 := HW1.out.chg0 k4
  have t4' := hw4.c4
  have z4 := hw4.fz 4
  have hn4 : ¬ Ft2 wb := fun hx => by have := (hf4 wb hx).1; have := HSZ.out; omega
  have hc5 := (Chg.refl (One wb) w4).setAt (b := wb) rfl 4 (.pointer (some ⟨b2, 0, none⟩))
  have hw5 := hw4.s4 (.pointer (some ⟨b2, 0, none⟩))
  have hlt5 : ∀ k, Ft2 k → k < (w4.setCell ⟨wb, 4, none⟩ (.pointer (some ⟨b2, 0, none⟩))).heap.size := fun k hk => by simpa using (hf4 k hk).2
  have hd5 : RepU (w4.setCell ⟨wb, 4, none⟩ (.pointer (some ⟨b2, 0, none⟩))) b2 D F Ft2 := hd4.frame fun k hk => hc5.block k (hf4 k hk).2 (fun e => hn4 (by cases e; exact hk))
  have K5 : Hid (Chg (One wb) w1 (w4.setCell ⟨wb, 4, none⟩ (.pointer (some ⟨b2, 0, none⟩)))) := (k4.mono (S' := One wb) fun _ _ h => h.elim).trans hc5 fun _ h _ => h
  have MK := hide (marks_any _ hw5 rfl hd5 hlt5)
  have HW5 := hide hw5
  have HD5 := hide hd5
  have HF5 : Hid (∀ k, Ft2 k → w1.heap.size ≤ k) := fun k hk => (hf4 k hk).1
  have HL5 := hide hlt5
  have x0 := k4.cellKeep q0
  have x1 := k4.cellKeep q1
  have y0 : (w4.setCell ⟨wb, 4, none⟩ (.pointer (some ⟨b2, 0, none⟩))).cell? ⟨w.heap.size, 0, none⟩ = some (.int .i64 life) := (World.cell?_setCell_other _ _ _ _ (by simp; try omega)).trans x0
  have y1 : (w4.setCell ⟨wb, 4, none⟩ (.pointer (some ⟨b2, 0, none⟩))).cell? ⟨w.heap.size, 1, none⟩ = some (.int .i64 window) := (World.cell?_setCell_other _ _ _ _ (by simp; try omega)).trans x1
  rw [HCA.out.refused, HCA.out.fulls] at MK
  clear CP3 hd4 hf4 k4 hw4 hc5 hw5 hlt5 hd5 x0 x1 q0 q1 k2
  go_wp2_with (fail)
  generalize (w4.setCell ⟨wb, 4, none⟩ (.pointer (some ⟨b2, 0, none⟩))) = w5 at K5 MK HW5 HD5 HL5 y0 y1 ⊢
  refine MK.out.mono ?_
  rintro e w6 ⟨rfl, k6⟩
  have v4 : (w6.alloc (.cells #[.int .i64 0, .int .i64 0] 81)).cell? ⟨wb, 4, none⟩ = some (.pointer (some ⟨b2, 0, none⟩)) := (HW5.out.chg0 (k6.alloc _)).c4
  clear MK t4 t4' z4
  go_wp2_with (fail)
  -- the marks' box
  have k7 : Chg (fun _ => False) w5 (w6.alloc (.cells #[.int .i64 0, .int .i64 0] 81)) := k6.alloc _
  have hbx := heap_alloc_new w6 (.cells #[.int .i64 0, .int .i64 0] 81)
  have m0 : (w6.alloc (.cells #[.int .i64 0, .int .i64 0] 81)).cell? ⟨w6.heap.size, 0, none⟩ = some (.int .i64 0) := by simp only [World.cell?, hbx]; rfl
  have HB7 : Hid ((w6.alloc (.cells #[.int .i64 0, .int .i64 0] 81)).heap.size = w6.heap.size + 1) := by simp [Hid]
  generalize w6.alloc (.cells #[.int .i64 0, .int .i64 0] 81) = w7 at k7 m0 HB7 ⊢
  have W7 := hide (HW5.out.chg0 k7)
  have D7 := hide (HD5.out.same HL5.out k7)
  have L7 : Hid (∀ k, Ft2 k → k < w7.heap.size) := fun k hk => Nat.lt_of_lt_of_le (HL5.out k hk) k7.size
  have K7 : Hid (Chg (One wb) w1 w7) := K5.out.trans k7 fun _ h _ => h.elim
  have p0 := k7.cellKeep y0
  have p1 := k7.cellKeep y1
  have p4 : w7.cell? ⟨wb, 4, none⟩ = some (.pointer (some ⟨b2, 0, none⟩)) := W7.out.c4
  have p10 := W7.out.c10
  simp only [hck] at p10
  have CA := hide (callsU D7.out)
  obtain ⟨cn, hcn⟩ : ∃ cn, D.n.calls = cn := ⟨_, rfl⟩
  rw [hcn] at CA
  have HCN := hide hcn
  clear y0 y1 k6 hbx v4 HW5 HD5 HL5 K5 hcn k7
  refine CA.out.mono ?_
  rintro e w8 ⟨rfl, rfl⟩
  go_wp2_with (fail)
  have OP := hide (open_bad (w := w7.drew) life window clock (some ⟨b2, 0, none⟩) (by
    by_cases h1 : 1 ≤ life ∧ life ≤ 4611686018427387904
    · exact .inr fun h2 => hbad ⟨h1, h2⟩
    · exact .inl h1))
  refine wp_region_sch (fun w' => w'.cell? ⟨wb, 4, none⟩ = some (.pointer (some ⟨b2, 0, none⟩)) ∧ w'.cell? ⟨w.heap.size, 0, none⟩ = some (.int .i64 life) ∧ w'.cell? ⟨w.heap.size, 1, none⟩ = some (.int .i64 window) ∧ w'.cell? ⟨wb, 10, none⟩ = some (.int .i64 clock)) 14
    [(0, true), (1, true), (2, true), (3, true), (4, true), (5, true), (6, true), (7, true), (8, true), (9, false), (10, true), (11, true), (12, true), (13, true)] (by kernel_rfl) (by kernel_rfl) (fun _ _ _ _ _ h => h) ⟨p4, p0, p1, p10⟩ ?_
  iterate 9 (refine wpSch_take (v := ?_) rfl (by rfl) ?_ ?_; rotate_left; (· (intro w' hS; (try dsimp only at hS); go_simp; try with_reducible rfl)); (try simp only [Act.put, List.setIfInBounds_toArray, List.set_cons_zero, List.set_cons_succ, List.getElem_toArray, List.getElem_cons_zero, List.getElem_cons_succ]))
  refine wpSch_do rfl (by rfl) (fun K hK => ?_)
  go_simp
  refine OP.out.mono ?_
  rintro e w8 ⟨rfl, hc8⟩
  refine hK _ _ ⟨hc8.cellKeep p4, hc8.cellKeep p0, hc8.cellKeep p1, hc8.cellKeep p10⟩ (fun hS => ?_)
  have k8 : Chg (fun _ => False) w7 w8 := ⟨hc8.os, hc8.tape, hc8.output, hc8.size, hc8.block⟩
  have W8 := hide (W7.out.chg0 k8)
  have K8 : Hid (Chg (One wb) w1 w8) := K7.out.trans k8 fun _ h _ => h.elim
  have D8 := hide (D7.out.same L7.out k8)
  have NF : Hid (¬ Ft2 wb) := hn4
  have L8 : Hid (∀ k, Ft2 k → k < w8.heap.size) := fun k hk => Nat.lt_of_lt_of_le (L7.out k hk) k8.size
  have s4 : w8.cell? ⟨wb, 4, none⟩ = some (.pointer (some ⟨b2, 0, none⟩)) := W8.out.c4
  have s5 := W8.out.c5
  have z5 := W8.out.fz 5
  clear hK K hS hc8 k8 OP p0 p1 p4 p10 W7 D7 L7 K7 m0 CA HF5 HB7
  (try simp only [Act.put, List.setIfInBounds_toArray, List.set_cons_zero, List.set_cons_succ, List.getElem_toArray, List.getElem_cons_zero, List.getElem_cons_succ])
  iterate 4 (refine wpSch_take (v := ?_) rfl (by rfl) ?_ ?_; rotate_left; (· (intro w' hS; (try dsimp only at hS); go_simp; try with_reducible rfl)); (try simp only [Act.put, List.setIfInBounds_toArray, List.set_cons_zero, List.set_cons_succ, List.getElem_toArray, List.getElem_cons_zero, List.getElem_cons_succ]))
  refine wpSch_end ?_
  simp only [List.drop_succ_cons, List.drop_zero]
  have hc9 := (Chg.refl (One wb) w8).setAt (b := wb) rfl 5 (.pointer none)
  have W9 := hide (W8.out.s5 (.pointer none))
  have D9 : Hid (RepU (w8.setCell ⟨wb, 5, none⟩ (.pointer none)) b2 D F Ft2) := D8.out.frame fun k hk => hc9.block k (L8.out k hk) (fun e => NF.out (by cases e; exact hk))
  have K9 : Hid (Chg (One wb) w1 (w8.setCell ⟨wb, 5, none⟩ (.pointer none))) := K8.out.setAt rfl 5 _
  have CA := hide (callsU D9.out)
  rw [HCN.out] at CA
  clear hc9 W8 D8 K8
  go_wp2_with (go_at_call 44; refine CA.out.mono ?_; rintro e w8 ⟨rfl, rfl⟩)
  go_ret
  exact ⟨rfl, b2, W9.out, HC1.out.trans K9.out fun _ h _ => h⟩
end
end Go.Proofs.YtfaeidbgdcincaaGreatDoor
/- The laws' world, whole, with a store that is open on a calm disk. No walk. -/
namespace Go.Proofs.YtfaeidbgdcincaaGreatDoor
open Go.RowKit

/-- The lists that came out, each with its mark. -/
def lsVals : List (Value × Int) → List Value
  | [] => []
  | (v, i) :: r => v :: .int .i64 i :: lsVals r
theorem lsVals_length (l : List (Value × Int)) : (lsVals l).length = l.length * 2 := by
  induction l with
  | nil => rfl
  | cons e r ih => obtain ⟨v, i⟩ := e; simp only [lsVals, List.length_cons, ih]; omega
theorem lsVals_append (a b : List (Value × Int)) : lsVals (a ++ b) = lsVals a ++ lsVals b := by
  induction a with
  | nil => rfl
  | cons e r ih => obtain ⟨v, i⟩ := e; simp [lsVals, ih]
def LiSl (w : World) (v : Value) (l : List (Value × Int)) : Prop := w.ownsRow 0 87 2 v l.length (lsVals l)
def WFoot (wb : Nat) (n : WN) (k : Nat) : Prop := k = wb ∨ n.pv.ownBlock = some k ∨ n.lv.ownBlock = some k
structure LW (w : World) (lt : List UInt8) (H wb : Nat) (n : WN) (sb jb b : Nat) (life clock : Int) (lv : Nat → Value) (L : Nat → List Pt) (own : Option (Nat × Nat)) (D : DS) (F : Nat → FC) (Ft : Nat → Prop) (N C : Nat) (puts : List Pu) (ls : List (Value × Int)) : Prop where
  blk : WBlk w wb n
  hdv : n.dv = .pointer (some ⟨b, 0, none⟩)
  hsv : n.sv = .pointer (some ⟨sb, 0, none⟩)
  hbr : n.broken = false
  hlf : n.life = life
  hrm : n.room = -1
  st : StV w (nameL lt 1) sb jb b 0 life clock lv L own D F Ft N C
  pts : PuSl w n.pv puts
  lst : LiSl w n.lv ls
  nw : ∀ k, WFoot wb n k → ¬ SFoot sb jb lv own Ft k
  upw : ∀ k, WFoot wb n k → H ≤ k
  ups : ∀ k, SFoot sb jb lv own Ft k → H ≤ k
section
variable {w w' : World} {lt : List UInt8} {H wb : Nat} {n : WN} {sb jb b : Nat} {life clock : Int} {lv : Nat → Value} {L : Nat → List Pt} {own : Option (Nat × Nat)} {D : DS} {F : Nat → FC} {Ft : Nat → Prop} {N C : Nat} {puts : List Pu} {ls : List (Value × Int)}
theorem LW.chg0 (h : LW w lt H wb n sb jb b life clock lv L own D F Ft N C puts ls) (hc : Chg (fun _ => False) w w') : LW w' lt H wb n sb jb b life clock lv L own D F Ft N C puts ls :=
  ⟨h.blk.chg0 hc, h.hdv, h.hsv, h.hbr, h.hlf, h.hrm, h.st.chg0 hc, ownsRow_same h.pts fun g hg => hc.block g (ownsRow_lt h.pts hg) (fun h => h), ownsRow_same h.lst fun g hg => hc.block g (ownsRow_lt h.lst hg) (fun h => h), h.nw, h.upw, h.ups⟩
theorem LW.size (h : LW w lt H wb n sb jb b life clock lv L own D F Ft N C puts ls) : H ≤ w.heap.size := by
  have := h.upw wb (.inl rfl); have := h.blk.lt; omega
theorem LW.wlt (h : LW w lt H wb n sb jb b life clock lv L own D F Ft N C puts ls) {k : Nat} (hk : WFoot wb n k) : k < w.heap.size := by
  rcases hk with rfl | hk | hk
  · exact h.blk.lt
  · exact ownsRow_lt h.pts hk
  · exact ownsRow_lt h.lst hk
/-- The store is turned. -/
theorem LW.store {clock' : Int} {L' : Nat → List Pt} {N' C' : Nat} (h : LW w lt H wb n sb jb b life clock lv L own D F Ft N C puts ls) (hs : STo w w' (nameL lt 1) sb jb b 0 life clock' lv own Ft L' N' C') :
    Chg (Up H) w w' ∧ ∃ lv' own' D' F' Ft', LW w' lt H wb n sb jb b life clock' lv' L' own' D' F' Ft' N' C' puts ls := by
  obtain ⟨hc, lv', own', D', F', Ft', h2, h3⟩ := hs
  have hz := h.size
  refine ⟨hc.mono fun x _ hx => h.ups x hx, lv', own', D', F', Ft', h.blk.chg hc (h.nw wb (.inl rfl)), h.hdv, h.hsv, h.hbr, h.hlf, h.hrm, h2, ?_, ?_, ?_, h.upw, ?_⟩
  · exact ownsRow_same h.pts fun g hg => hc.block g (ownsRow_lt h.pts hg) (h.nw g (.inr (.inl hg)))
  · exact ownsRow_same h.lst fun g hg => hc.block g (ownsRow_lt h.lst hg) (h.nw g (.inr (.inr hg)))
  · intro k hk hx
    rcases h3 k hx with hy | hy
    · exact h.nw k hk hy
    · have := h.wlt hk; omega
  · intro k hk
    rcases h3 k hk with hy | hy
    · exact h.ups k hy
    · exact Nat.le_trans hz hy
/-- A cell of the world's own block that holds no list. -/
theorem LW.cell {n' : WN} (h : LW w lt H wb n sb jb b life clock lv L own D F Ft N C puts ls) (o : Nat) (u : Value) (hb : WBlk (w.setCell ⟨wb, o, none⟩ u) wb n') (e1 : n'.dv = n.dv) (e2 : n'.sv = n.sv) (e3 : n'.broken = false) (e4 : n'.life = n.life) (e5 : n'.room = n.room) (e6 : n'.pv = n.pv) (e7 : n'.lv = n.lv) :
    Chg (Up H) w (w.setCell ⟨wb, o, none⟩ u) ∧ LW (w.setCell ⟨wb, o, none⟩ u) lt H wb n' sb jb b life clock lv L own D F Ft N C puts ls := by
  have hc := (Chg.refl (One wb) w).setAt (b := wb) rfl o u
  have hf : ∀ k, WFoot wb n' k → WFoot wb n k := fun k hk => by unfold WFoot at hk ⊢; rwa [e6, e7] at hk
  refine ⟨hc.mono fun x _ e => by cases e; exact h.upw _ (.inl rfl), hb, e1.trans h.hdv, e2.trans h.hsv, e3, e4.trans h.hlf, e5.trans h.hrm, h.st.chg hc (fun k hk e => h.nw wb (.inl rfl) (by cases e; exact hk)), ?_, ?_, fun k hk => h.nw k (hf k hk), fun k hk => h.upw k (hf k hk), h.ups⟩
  · rw [e6]
    refine ownsRow_same h.pts fun g hg => hc.block g (ownsRow_lt h.pts hg) fun e => ?_
    cases e
    obtain ⟨c, hh⟩ := ownsRow_elem h.pts hg
    have := h.blk
    unfold WBlk at this
    rw [hh] at this; cases this
  · rw [e7]
    refine ownsRow_same h.lst fun g hg => hc.block g (ownsRow_lt h.lst hg) fun e => ?_
    cases e
    obtain ⟨c, hh⟩ := ownsRow_elem h.lst hg
    have := h.blk
    unfold WBlk at this
    rw [hh] at this; cases this
/-- What the store's rows hold, against all that was put. -/
def Rel (L : Nat → List Pt) (puts : List Pu) (life clock : Int) : Prop := ∀ k : Nat, k < 8 → (L k).filter (fun x => decide (oldestN clock life ≤ x.1)) = refQ puts k (-9223372036854775808) 9223372036854775807 life clock
end
end Go.Proofs.YtfaeidbgdcincaaGreatDoor
/- What a store's rows tell is what the document's answer tells: behind a Put, a Tick, for any question. No walk. -/
namespace Go.Proofs.YtfaeidbgdcincaaGreatDoor
open Go.RowKit

theorem refQ_sub (puts : List Pu) (s a b l c a' b' l' c' : Int) (g : Int → Bool) (h : ∀ p ∈ puts, qOk s a' b' l' c' p = (qOk s a b l c p && g p.2.1)) :
    refQ puts s a' b' l' c' = (refQ puts s a b l c).filter (fun x => g x.1) := by
  have key : ∀ (ps : List Pu) (acc : List Pt), Sorted acc → (∀ p ∈ ps, qOk s a' b' l' c' p = (qOk s a b l c p && g p.2.1)) →
      ps.foldl (qStep s a' b' l' c') (acc.filter fun x => g x.1) = (ps.foldl (qStep s a b l c) acc).filter (fun x => g x.1) := by
    intro ps
    induction ps with
    | nil => intro acc _ _; rfl
    | cons p r ih =>
      intro acc hs hp
      have hp0 := hp p (by simp)
      simp only [List.foldl_cons]
      by_cases q : qOk s a b l c p = true
      · have e1 : qStep s a b l c acc p = insP acc p.2.1 p.2.2 := by unfold qStep; rw [if_pos q]
        have e2 : qStep s a' b' l' c' (acc.filter fun x => g x.1) p = (insP acc p.2.1 p.2.2).filter (fun x => g x.1) := by
          unfold qStep
          rw [hp0, q, Bool.true_and, insP_filter hs]
        rw [e1, e2]
        exact ih _ (insP_sorted hs _ _) fun p hp' => hp p (List.mem_cons_of_mem _ hp')
      · have q' : qOk s a b l c p = false := by simpa using q
        have e1 : qStep s a b l c acc p = acc := by unfold qStep; rw [q']; rfl
        have e2 : qStep s a' b' l' c' (acc.filter fun x => g x.1) p = acc.filter fun x => g x.1 := by
          unfold qStep
          rw [hp0, q', Bool.false_and]; rfl
        rw [e1, e2]
        exact ih _ hs fun p hp' => hp p (List.mem_cons_of_mem _ hp')
  exact key puts [] List.Pairwise.nil h
theorem aliveB_of {t life clock : Int} (ht : In64 t) : aliveB t life clock = decide (oldestN clock life ≤ t) := (oldest_alive clock life t ht).symm
/-- A question: of the rows, as the document has it. -/
theorem Rel.query {L : Nat → List Pt} {puts : List Pu} {life clock : Int} (h : Rel L puts life clock) (hp : ∀ p ∈ puts, In64 p.2.1) {k : Nat} (hk : k < 8) (a b : Int) :
    piece (L k) (max a (oldestN clock life)) b = refQ puts k a b life clock := by
  have e := refQ_sub puts k (-9223372036854775808) 9223372036854775807 life clock a b life clock (fun t => decide (a ≤ t) && decide (t ≤ b)) fun p hpm => by
    obtain ⟨h1, h2⟩ := hp p hpm
    unfold qOk
    have d1 : decide (-9223372036854775808 ≤ p.2.1) = true := decide_eq_true h1
    have d2 : decide (p.2.1 ≤ 9223372036854775807) = true := decide_eq_true h2
    rw [d1, d2]
    cases decide (p.1 = (k : Int)) <;> cases decide (a ≤ p.2.1) <;> cases decide (p.2.1 ≤ b) <;> cases aliveB p.2.1 life clock <;> rfl
  rw [e, ← h k hk, List.filter_filter]
  unfold piece
  congr 1
  funext x
  apply Bool.eq_iff_iff.2
  simp only [Bool.and_eq_true, decide_eq_true_eq]
  omega
theorem Rel.tells {L : Nat → List Pt} {puts : List Pu} {life clock : Int} (h : Rel L puts life clock) (hp : ∀ p ∈ puts, In64 p.2.1) : Tells L puts life clock := fun _ hk => h.query hp hk _ _
theorem Rel.nil (life clock : Int) : Rel (fun _ => []) [] life clock := fun _ _ => by simp [refQ]
/-- A point is put. -/
theorem Rel.put {L : Nat → List Pt} {puts : List Pu} {life clock : Int} (h : Rel L puts life clock) (hs : ∀ k, k < 8 → Sorted (L k)) {s : Nat} (hs8 : s < 8) {t v : Int} (ht : In64 t) :
    Rel (keptL L (oldestN clock life) s t v) (puts ++ [((s : Int), t, v)]) life clock := by
  intro k hk
  have e1 : refQ (puts ++ [((s : Int), t, v)]) k (-9223372036854775808) 9223372036854775807 life clock = qStep k (-9223372036854775808) 9223372036854775807 life clock (refQ puts k (-9223372036854775808) 9223372036854775807 life clock) ((s : Int), t, v) := by
    unfold refQ; rw [List.foldl_append]; rfl
  rw [e1, ← h k hk]
  obtain ⟨t1, t2⟩ := ht
  have d1 : decide (-9223372036854775808 ≤ t) = true := decide_eq_true t1
  have d2 : decide (t ≤ 9223372036854775807) = true := decide_eq_true t2
  unfold qStep qOk
  simp only [d1, d2, Bool.and_true, aliveB_of (⟨t1, t2⟩ : In64 t)]
  unfold keptL
  by_cases ho : oldestN clock life ≤ t
  · rw [if_pos ho]
    unfold updL
    by_cases e : k = s
    · subst e
      have f := insP_filter (hs k hk) (fun x => decide (oldestN clock life ≤ x)) t v
      simp only [decide_eq_true ho] at f ⊢
      simp only [if_true] at f ⊢
      simpa using f
    · have e' : ¬ (s : Int) = (k : Int) := fun x => e (by omega)
      simp [e, e']
  · rw [if_neg ho]
    have : decide (oldestN clock life ≤ t) = false := decide_eq_false ho
    simp [this]
theorem oldest_mono {c c' life : Int} (h : c ≤ c') : oldestN c life ≤ oldestN c' life := by
  unfold oldestN
  split <;> split <;> omega
/-- Time goes by. -/
theorem Rel.tick {L L' : Nat → List Pt} {puts : List Pu} {life clock clock' : Int} (h : Rel L puts life clock) (hp : ∀ p ∈ puts, In64 p.2.1) (hc : clock ≤ clock') (hf : Forgot L L' (oldestN clock' life)) : Rel L' puts life clock' := by
  intro k hk
  have ho : oldestN clock life ≤ oldestN clock' life := oldest_mono hc
  have e := refQ_sub puts k (-9223372036854775808) 9223372036854775807 life clock (-9223372036854775808) 9223372036854775807 life clock' (fun t => decide (oldestN clock' life ≤ t)) fun p hpm => by
    unfold qOk
    rw [aliveB_of (hp p hpm), aliveB_of (hp p hpm)]
    have : decide (oldestN clock' life ≤ p.2.1) = (decide (oldestN clock life ≤ p.2.1) && decide (oldestN clock' life ≤ p.2.1)) := by
      apply Bool.eq_iff_iff.2; simp only [Bool.and_eq_true, decide_eq_true_eq]; omega
    rw [this]
    simp [Bool.and_assoc]
  have e2 : (L k).filter (fun x => decide (oldestN clock' life ≤ x.1)) = refQ puts k (-9223372036854775808) 9223372036854775807 life clock' := by
    rw [e, ← h k hk, List.filter_filter]
    congr 1
    funext x
    apply Bool.eq_iff_iff.2; simp only [Bool.and_eq_true, decide_eq_true_eq]; omega
  rw [← e2]
  rcases hf k hk with q | q
  · rw [q]
  · rw [q]
    have hsplit : L k = (L k).take (posP (L k) (oldestN clock' life)) ++ (L k).drop (posP (L k) (oldestN clock' life)) := (List.take_append_drop _ _).symm
    have hz : ((L k).take (posP (L k) (oldestN clock' life))).filter (fun x => decide (oldestN clock' life ≤ x.1)) = [] := by
      rw [List.filter_eq_nil_iff]
      intro x hx
      obtain ⟨i, hi, rfl⟩ := List.mem_iff_getElem.1 hx
      rw [List.length_take] at hi
      have := posP_lt (l := L k) (t := oldestN clock' life) (i := i) (by omega) (by omega)
      rw [List.getElem_take]
      simp; omega
    conv => rhs; rw [hsplit, List.filter_append, hz, List.nil_append]
theorem Forgot.len {L L' : Nat → List Pt} {o : Int} (h : Forgot L L' o) {k : Nat} (hk : k < 8) : (L' k).length ≤ (L k).length := by
  rcases h k hk with e | e
  · rw [e]; exact Nat.le_refl _
  · rw [e, List.length_drop]; omega
end Go.Proofs.YtfaeidbgdcincaaGreatDoor
