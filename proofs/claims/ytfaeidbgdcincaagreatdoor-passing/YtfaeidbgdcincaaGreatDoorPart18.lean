/-
  The statement WritesUptoCardSaid is proved: the law Writes answers true at every set and every script within the statement's bounds.
  Part 18 of 23.
-/
import Derived.Test.YtfaeidbgdcincaaGreatDoorPart17
import Derived.Test.YtfaeidbgdcincaaGreatDoorPart11
/- The laws' world: its block; begun, marks. -/
namespace Go.Proofs.YtfaeidbgdcincaaGreatDoor
open Go.RowKit
attribute [local go_sem ↓] Go.wp_at_zero Go.wp_at_succ

/-- What stands in the block of a law's world. -/
structure WN where
  life : Int
  window : Int
  room : Int
  clock0 : Int
  dv : Value
  sv : Value
  pv : Value
  safe : Int
  fell : Bool
  broken : Bool
  clock : Int
  win : Int
  dirs : Int
  tv : Value
  lv : Value
  count : Int
def wnCells (n : WN) : Array Value :=
  #[.int .i64 n.life, .int .i64 n.window, .int .i64 n.room, .int .i64 n.clock0, n.dv, n.sv, n.pv, .int .i64 n.safe, .bool n.fell, .bool n.broken, .int .i64 n.clock, .int .i64 n.win, .int .i64 n.dirs, n.tv, n.lv, .int .i64 n.count]
def WBlk (w : World) (wb : Nat) (n : WN) : Prop := w.heap[wb]? = some (.cells (wnCells n) 40 (0, 0))
section
variable {w w' : World} {wb : Nat} {n : WN}
theorem WBlk.c0 (h : WBlk w wb n) : w.cell? ⟨wb, 0, none⟩ = some (.int .i64 n.life) := by unfold WBlk at h; simp [World.cell?, h, wnCells]
theorem WBlk.s0 (h : WBlk w wb n) (x : Int) : WBlk (w.setCell ⟨wb, 0, none⟩ (.int .i64 x)) wb { n with life := x } := heap_setCell_at h
theorem WBlk.c1 (h : WBlk w wb n) : w.cell? ⟨wb, 1, none⟩ = some (.int .i64 n.window) := by unfold WBlk at h; simp [World.cell?, h, wnCells]
theorem WBlk.s1 (h : WBlk w wb n) (x : Int) : WBlk (w.setCell ⟨wb, 1, none⟩ (.int .i64 x)) wb { n with window := x } := heap_setCell_at h
theorem WBlk.c2 (h : WBlk w wb n) : w.cell? ⟨wb, 2, none⟩ = some (.int .i64 n.room) := by unfold WBlk at h; simp [World.cell?, h, wnCells]
theorem WBlk.s2 (h : WBlk w wb n) (x : Int) : WBlk (w.setCell ⟨wb, 2, none⟩ (.int .i64 x)) wb { n with room := x } := heap_setCell_at h
theorem WBlk.c3 (h : WBlk w wb n) : w.cell? ⟨wb, 3, none⟩ = some (.int .i64 n.clock0) := by unfold WBlk at h; simp [World.cell?, h, wnCells]
theorem WBlk.s3 (h : WBlk w wb n) (x : Int) : WBlk (w.setCell ⟨wb, 3, none⟩ (.int .i64 x)) wb { n with clock0 := x } := heap_setCell_at h
theorem WBlk.c4 (h : WBlk w wb n) : w.cell? ⟨wb, 4, none⟩ = some (n.dv) := by unfold WBlk at h; simp [World.cell?, h, wnCells]
theorem WBlk.s4 (h : WBlk w wb n) (x : Value) : WBlk (w.setCell ⟨wb, 4, none⟩ (x)) wb { n with dv := x } := heap_setCell_at h
theorem WBlk.c5 (h : WBlk w wb n) : w.cell? ⟨wb, 5, none⟩ = some (n.sv) := by unfold WBlk at h; simp [World.cell?, h, wnCells]
theorem WBlk.s5 (h : WBlk w wb n) (x : Value) : WBlk (w.setCell ⟨wb, 5, none⟩ (x)) wb { n with sv := x } := heap_setCell_at h
theorem WBlk.c6 (h : WBlk w wb n) : w.cell? ⟨wb, 6, none⟩ = some (n.pv) := by unfold WBlk at h; simp [World.cell?, h, wnCells]
theorem WBlk.s6 (h : WBlk w wb n) (x : Value) : WBlk (w.setCell ⟨wb, 6, none⟩ (x)) wb { n with pv := x } := heap_setCell_at h
theorem WBlk.c7 (h : WBlk w wb n) : w.cell? ⟨wb, 7, none⟩ = some (.int .i64 n.safe) := by unfold WBlk at h; simp [World.cell?, h, wnCells]
theorem WBlk.s7 (h : WBlk w wb n) (x : Int) : WBlk (w.setCell ⟨wb, 7, none⟩ (.int .i64 x)) wb { n with safe := x } := heap_setCell_at h
theorem WBlk.c8 (h : WBlk w wb n) : w.cell? ⟨wb, 8, none⟩ = some (.bool n.fell) := by unfold WBlk at h; simp [World.cell?, h, wnCells]
theorem WBlk.s8 (h : WBlk w wb n) (x : Bool) : WBlk (w.setCell ⟨wb, 8, none⟩ (.bool x)) wb { n with fell := x } := heap_setCell_at h
theorem WBlk.c9 (h : WBlk w wb n) : w.cell? ⟨wb, 9, none⟩ = some (.bool n.broken) := by unfold WBlk at h; simp [World.cell?, h, wnCells]
theorem WBlk.s9 (h : WBlk w wb n) (x : Bool) : WBlk (w.setCell ⟨wb, 9, none⟩ (.bool x)) wb { n with broken := x } := heap_setCell_at h
theorem WBlk.c10 (h : WBlk w wb n) : w.cell? ⟨wb, 10, none⟩ = some (.int .i64 n.clock) := by unfold WBlk at h; simp [World.cell?, h, wnCells]
theorem WBlk.s10 (h : WBlk w wb n) (x : Int) : WBlk (w.setCell ⟨wb, 10, none⟩ (.int .i64 x)) wb { n with clock := x } := heap_setCell_at h
theorem WBlk.c11 (h : WBlk w wb n) : w.cell? ⟨wb, 11, none⟩ = some (.int .i64 n.win) := by unfold WBlk at h; simp [World.cell?, h, wnCells]
theorem WBlk.s11 (h : WBlk w wb n) (x : Int) : WBlk (w.setCell ⟨wb, 11, none⟩ (.int .i64 x)) wb { n with win := x } := heap_setCell_at h
theorem WBlk.c12 (h : WBlk w wb n) : w.cell? ⟨wb, 12, none⟩ = some (.int .i64 n.dirs) := by unfold WBlk at h; simp [World.cell?, h, wnCells]
theorem WBlk.s12 (h : WBlk w wb n) (x : Int) : WBlk (w.setCell ⟨wb, 12, none⟩ (.int .i64 x)) wb { n with dirs := x } := heap_setCell_at h
theorem WBlk.c13 (h : WBlk w wb n) : w.cell? ⟨wb, 13, none⟩ = some (n.tv) := by unfold WBlk at h; simp [World.cell?, h, wnCells]
theorem WBlk.s13 (h : WBlk w wb n) (x : Value) : WBlk (w.setCell ⟨wb, 13, none⟩ (x)) wb { n with tv := x } := heap_setCell_at h
theorem WBlk.c14 (h : WBlk w wb n) : w.cell? ⟨wb, 14, none⟩ = some (n.lv) := by unfold WBlk at h; simp [World.cell?, h, wnCells]
theorem WBlk.s14 (h : WBlk w wb n) (x : Value) : WBlk (w.setCell ⟨wb, 14, none⟩ (x)) wb { n with lv := x } := heap_setCell_at h
theorem WBlk.c15 (h : WBlk w wb n) : w.cell? ⟨wb, 15, none⟩ = some (.int .i64 n.count) := by unfold WBlk at h; simp [World.cell?, h, wnCells]
theorem WBlk.s15 (h : WBlk w wb n) (x : Int) : WBlk (w.setCell ⟨wb, 15, none⟩ (.int .i64 x)) wb { n with count := x } := heap_setCell_at h
theorem WBlk.fz (h : WBlk w wb n) (o : Nat) : w.frozen? ⟨wb, o, none⟩ = false := by unfold WBlk at h; simp [World.frozen?, h]
theorem WBlk.lt (h : WBlk w wb n) : wb < w.heap.size := lt_of_block h
theorem WBlk.chg {S : Nat → Prop} (h : WBlk w wb n) (hg : Chg S w w') (hr : ¬ S wb) : WBlk w' wb n := (hg.block wb h.lt hr).trans h
theorem WBlk.chg0 (h : WBlk w wb n) (hg : Chg (fun _ => False) w w') : WBlk w' wb n := h.chg hg (fun h => h)
set_option maxRecDepth 100000 in
set_option maxHeartbeats 2000000 in
theorem begun_neg {F : Nat → FC} (w : World) (life window clock count : Int) :
    Calls Tryz.prog 14 #[.agg #[.int .i64 life, .int .i64 window, .int .i64 (-1), .int .i64 clock], .int .i64 count] w fun e w' => ∃ wb b, e = .returned (.pointer (some ⟨wb, 0, none⟩)) ∧
      WBlk w' wb ⟨life, window, -1, clock, .pointer (some ⟨b, 0, none⟩), .pointer none, .slice none 0 0, 0, false, false, clock, window, 0, .slice none 0 0, .slice none 0 0, count⟩ ∧ RepU w' b ⟨[], [], [], dNew 1152921504606846976⟩ F (One b) ∧ w.heap.size ≤ b ∧ b < wb ∧ Chg (fun _ => False) w w' := by
  have hA := (Chg.refl (fun _ => False) w).alloc (.cells #[.int .i64 life, .int .i64 window, .int .i64 (-1), .int .i64 clock] 23)
  have hbx := heap_alloc_new w (.cells #[.int .i64 life, .int .i64 window, .int .i64 (-1), .int .i64 clock] 23)
  generalize hw0 : (w.alloc (.cells #[.int .i64 life, .int .i64 window, .int .i64 (-1), .int .i64 clock] 23)) = w0 at hA hbx
  have q0 : w0.cell? ⟨w.heap.size, 0, none⟩ = some (.int .i64 life) := by simp only [World.cell?, hbx]; rfl
  have q1 : w0.cell? ⟨w.heap.size, 1, none⟩ = some (.int .i64 window) := by simp only [World.cell?, hbx]; rfl
  have q2 : w0.cell? ⟨w.heap.size, 2, none⟩ = some (.int .i64 (-1)) := by simp only [World.cell?, hbx]; rfl
  have q3 : w0.cell? ⟨w.heap.size, 3, none⟩ = some (.int .i64 clock) := by simp only [World.cell?, hbx]; rfl
  have HA := hide hA
  have RM := hide (room_neg w0.drew (-1) (by decide))
  have NW : Hid (Calls Tryz.prog 19 #[.int .i64 1152921504606846976] w0.drew fun e w' => e = .returned (.pointer (some ⟨w0.heap.size, 0, none⟩)) ∧ RepU w' w0.heap.size ⟨[], [], [], dNew 1152921504606846976⟩ F (One w0.heap.size) ∧ Chg (fun _ => False) w0.drew w' ∧ w'.heap.size = w0.heap.size + 1) := newU _ _
  clear hA hbx
  go_enter Tryz.func14, Tryz.ntmps14
  go_wp2
  refine wp_region_sch (fun w' => w'.cell? ⟨w.heap.size, 0, none⟩ = some (.int .i64 life) ∧ w'.cell? ⟨w.heap.size, 1, none⟩ = some (.int .i64 window) ∧ w'.cell? ⟨w.heap.size, 2, none⟩ = some (.int .i64 (-1)) ∧ w'.cell? ⟨w.heap.size, 3, none⟩ = some (.int .i64 clock)) 11
    [(0, true), (1, true), (2, true), (5, true), (6, true), (7, true), (8, true), (9, true), (3, false), (4, false), (10, true)] (by kernel_rfl) (by kernel_rfl) (fun _ _ _ _ _ h => h) ⟨q0, q1, q2, q3⟩ ?_
  iterate 8 (refine wpSch_take (v := ?_) rfl (by rfl) ?_ ?_; rotate_left; (· (intro w' hS; (try dsimp only at hS); go_simp; try with_reducible rfl)); (try simp only [Act.put, List.setIfInBounds_toArray, List.set_cons_zero, List.set_cons_succ, List.getElem_toArray, List.getElem_cons_zero, List.getElem_cons_succ]))
  refine wpSch_do rfl (by rfl) (fun K hK => ?_)
  go_simp
  refine RM.out.mono ?_
  rintro e w1 ⟨rfl, rfl⟩
  refine hK _ _ ⟨q0, q1, q2, q3⟩ (fun hS => ?_)
  clear hK K hS
  (try simp only [Act.put, List.setIfInBounds_toArray, List.set_cons_zero, List.set_cons_succ, List.getElem_toArray, List.getElem_cons_zero, List.getElem_cons_succ])
  refine wpSch_do rfl (by rfl) (fun K hK => ?_)
  go_simp
  refine NW.out.mono ?_
  rintro e w1 ⟨rfl, hd, hc, hs⟩
  refine hK _ _ ⟨hc.cellKeep q0, hc.cellKeep q1, hc.cellKeep q2, hc.cellKeep q3⟩ (fun hS => ?_)
  have HD := hide hd
  have HC := hide hc
  have HZ := hide hs
  clear hK K hS hd hc hs
  (try simp only [Act.put, List.setIfInBounds_toArray, List.set_cons_zero, List.set_cons_succ, List.getElem_toArray, List.getElem_cons_zero, List.getElem_cons_succ])
  (refine wpSch_take (v := ?_) rfl (by rfl) ?_ ?_; rotate_left; (· (intro w' hS; (try dsimp only at hS); go_simp; try with_reducible rfl)); (try simp only [Act.put, List.setIfInBounds_toArray, List.set_cons_zero, List.set_cons_succ, List.getElem_toArray, List.getElem_cons_zero, List.getElem_cons_succ]))
  refine wpSch_end ?_
  simp only [List.drop_succ_cons, List.drop_zero]
  go_wp2
  go_ret
  have hA2 := (Chg.refl (fun _ => False) w1).alloc (.cells (wnCells ⟨life, window, -1, clock, .pointer (some ⟨w0.heap.size, 0, none⟩), .pointer none, .slice none 0 0, 0, false, false, clock, window, 0, .slice none 0 0, .slice none 0 0, count⟩) 40)
  refine ⟨w1.heap.size, w0.heap.size, rfl, heap_alloc_new w1 _, HD.out.same (fun k hk => by unfold One at hk; have := HZ.out; omega) hA2, HA.out.size, by have := HZ.out; omega, ?_⟩
  exact (HA.out.trans (S' := fun _ => False) (⟨HC.out.os, HC.out.tape, HC.out.output, HC.out.size, HC.out.block⟩ : Chg (fun _ => False) w0 w1) fun _ h _ => h).trans hA2 fun _ h _ => h
end
end Go.Proofs.YtfaeidbgdcincaaGreatDoor
/- Walks: the laws: marks, told. -/
namespace Go.Proofs.YtfaeidbgdcincaaGreatDoor
open Go.RowKit
attribute [local go_sem ↓] Go.wp_at_zero Go.wp_at_succ

section
variable {w w' : World} {wb : Nat} {n : WN} {b : Nat} {D : DS} {F : Nat → FC} {Ft : Nat → Prop}
set_option maxRecDepth 100000 in
set_option maxHeartbeats 2000000 in
theorem marks_any (w : World) (h : WBlk w wb n) (hd : n.dv = .pointer (some ⟨b, 0, none⟩)) (hr : RepU w b D F Ft) (hlt : ∀ k, Ft k → k < w.heap.size) :
    Calls Tryz.prog 43 #[.pointer (some ⟨wb, 0, none⟩)] w fun e w' => e = .returned (.agg #[.int .i64 D.n.refused, .int .i64 D.n.fulls]) ∧ Chg (fun _ => False) w w' := by
  have hA := (Chg.refl (fun _ => False) w).alloc (.cells #[.int .i64 0, .int .i64 0] 81)
  have hbx := heap_alloc_new w (.cells #[.int .i64 0, .int .i64 0] 81)
  have c4 := (h.chg0 hA).c4
  rw [hd] at c4
  have hr1 := hr.same hlt hA
  have hwl := h.lt
  generalize hw0 : (w.alloc (.cells #[.int .i64 0, .int .i64 0] 81)) = w0 at hA hbx c4 hr1
  have RF := hide (refusedU hr1.drew)
  have FU := hide (fullsU hr1.drew)
  obtain ⟨rf, hrf⟩ : ∃ rf, D.n.refused = rf := ⟨_, rfl⟩
  obtain ⟨fu, hfu⟩ : ∃ fu, D.n.fulls = fu := ⟨_, rfl⟩
  rw [hrf] at RF ⊢
  rw [hfu] at FU ⊢
  have HA := hide hA
  have HB := hide hbx
  have r0 : w0.cell? ⟨w.heap.size, 0, none⟩ = some (.int .i64 0) := by simp only [World.cell?, hbx]; rfl
  have r1 : w0.cell? ⟨w.heap.size, 1, none⟩ = some (.int .i64 0) := by simp only [World.cell?, hbx]; rfl
  have f0 : w0.frozen? ⟨w.heap.size, 0, none⟩ = false := by simp [World.frozen?, hbx]
  have f1 : w0.frozen? ⟨w.heap.size, 1, none⟩ = false := by simp [World.frozen?, hbx]
  clear h hd hr hlt hA hbx hr1 hrf hfu
  go_enter Tryz.func43, Tryz.ntmps43
  go_wp2
  refine wp_region_sch (fun w' => w'.cell? ⟨wb, 4, none⟩ = some (.pointer (some ⟨b, 0, none⟩))) 11
    [(0, true), (1, true), (2, true), (3, true), (5, true), (6, true), (7, true), (8, true), (4, false), (9, false), (10, true)] (by kernel_rfl) (by kernel_rfl) (fun _ _ _ _ _ h => h) c4 ?_
  iterate 8 (refine wpSch_take (v := ?_) rfl (by rfl) ?_ ?_; rotate_left; (· (intro w' hS; (try dsimp only at hS); go_simp; try with_reducible rfl)); (try simp only [Act.put, List.setIfInBounds_toArray, List.set_cons_zero, List.set_cons_succ, List.getElem_toArray, List.getElem_cons_zero, List.getElem_cons_succ]))
  refine wpSch_do rfl (by rfl) (fun K hK => ?_)
  go_simp
  refine RF.out.mono ?_
  rintro e w1 ⟨rfl, rfl⟩
  refine hK _ _ c4 (fun hS => ?_)
  clear hK K hS
  (try simp only [Act.put, List.setIfInBounds_toArray, List.set_cons_zero, List.set_cons_succ, List.getElem_toArray, List.getElem_cons_zero, List.getElem_cons_succ])
  refine wpSch_do rfl (by rfl) (fun K hK => ?_)
  go_simp
  refine FU.out.mono ?_
  rintro e w1 ⟨rfl, rfl⟩
  refine hK _ _ c4 (fun hS => ?_)
  clear hK K hS
  (try simp only [Act.put, List.setIfInBounds_toArray, List.set_cons_zero, List.set_cons_succ, List.getElem_toArray, List.getElem_cons_zero, List.getElem_cons_succ])
  (refine wpSch_take (v := ?_) rfl (by rfl) ?_ ?_; rotate_left; (· (intro w' hS; (try dsimp only at hS); go_simp; try with_reducible rfl)); (try simp only [Act.put, List.setIfInBounds_toArray, List.set_cons_zero, List.set_cons_succ, List.getElem_toArray, List.getElem_cons_zero, List.getElem_cons_succ]))
  refine wpSch_end ?_
  simp only [List.drop_succ_cons, List.drop_zero]
  go_wp2
  have hk : Chg (fun _ => False) w ((w0.setCell ⟨w.heap.size, 0, none⟩ (.int .i64 rf)).setCell ⟨w.heap.size, 1, none⟩ (.int .i64 fu)) := by
    have k : ∀ (p : Addr), p.block = w.heap.size → p.block < w.heap.size → False := fun p e h => by omega
    exact (HA.out.setCell (k _ rfl) _).setCell (k _ rfl) _
  have hh : ((w0.setCell ⟨w.heap.size, 0, none⟩ (.int .i64 rf)).setCell ⟨w.heap.size, 1, none⟩ (.int .i64 fu)).heap[w.heap.size]? = some (.cells #[.int .i64 rf, .int .i64 fu] 81 (0, 0)) := heap_setCell_at (heap_setCell_at HB.out)
  generalize ((w0.setCell ⟨w.heap.size, 0, none⟩ (.int .i64 rf)).setCell ⟨w.heap.size, 1, none⟩ (.int .i64 fu)) = w2 at hk hh ⊢
  have d0 : w2.cell? ⟨w.heap.size, 0, none⟩ = some (.int .i64 rf) := by simp [World.cell?, hh]
  have d1 : w2.cell? ⟨w.heap.size, 1, none⟩ = some (.int .i64 fu) := by simp [World.cell?, hh]
  refine bodyPost_ret (v := .agg #[.int .i64 rf, .int .i64 fu]) (by simp [results, Tryz.results43, go_sem, d0, d1]) rfl ⟨rfl, hk.drew⟩
/-- Does the store tell what these puts have made? -/
def Tells (L : Nat → List Pt) (puts : List Pu) (life clock : Int) : Prop := ∀ k : Nat, k < 8 → piece (L k) (max (-9223372036854775808) (oldestN clock life)) 9223372036854775807 = refQ puts k (-9223372036854775808) 9223372036854775807 life clock
theorem refQ_len (puts : List Pu) (series a b life clock : Int) : (refQ puts series a b life clock).length ≤ puts.length := by
  have := (refQ_inv puts series a b life clock puts.length (Nat.le_refl _)).2
  rwa [List.take_length] at this
section
variable {sb : Nat} {jv : Value} {life clock : Int} {lv : Nat → Value} {L : Nat → List Pt} {puts : List Pu}
set_option maxRecDepth 100000 in
set_option maxHeartbeats 4000000 in
theorem told_any (w : World) (m : Nat) (h : WBlk w wb n) (hsv : n.sv = .pointer (some ⟨sb, 0, none⟩)) (hbr : n.broken = false) (hck : n.clock = clock) (hlf : n.life = life) (hs : SBlk w sb 0 jv life clock false lv) (hr : RowsAt w lv L) (hp : PuSl w n.pv puts)
    (hm : m ≤ puts.length) (hpl : puts.length < 1099511627776) (hpi : ∀ p ∈ puts, In64 p.2.1) (hT : Tells L (puts.take m) life clock) (hl : 1 ≤ life ∧ life ≤ 4611686018427387904) (hc : In64 clock) :
    Calls Tryz.prog 80 #[.pointer (some ⟨wb, 0, none⟩), .int .i64 m] w fun e w' => e = .returned (.bool true) ∧ Chg (fun _ => False) w w' := by
  have c5 := h.c5
  rw [hsv] at c5
  have ST := hide (state_any w hs)
  have H := hide h
  have HS := hide hs
  have HR := hide hr
  have HP := hide hp
  have HT := hide hT
  have QU : Hid (∀ w' (k : Nat), Chg (fun _ => False) w w' → k < 8 → _) := fun w' k hw hk => query_ok w' k (-9223372036854775808) 9223372036854775807 (hs.chg hw (fun h => h)) (hr.chg hw (fun _ _ h => h)) hk hl hc
  have hpw : ∀ w', Chg (fun _ => False) w w' → PuSl w' n.pv puts := fun w' hw => ownsRow_same hp fun g hg => hw.block g (ownsRow_lt hp hg) (fun h => h)
  have RQ : Hid (∀ w' (k : Nat), Chg (fun _ => False) w w' → _) := fun w' k hw => query_any w' n.pv puts m (hpw w' hw) hm hpl hpi k (-9223372036854775808) 9223372036854775807 life clock hl hc
  have HLN : Hid (∀ k : Nat, (refQ (puts.take m) k (-9223372036854775808) 9223372036854775807 life clock).length < 1099511627776) := fun k => by
    have := refQ_len (puts.take m) k (-9223372036854775808) 9223372036854775807 life clock
    rw [List.length_take] at this; omega
  clear h hs hr hp hT hpw hpi hl hc
  go_enter Tryz.func80, Tryz.ntmps80
  go_wp2_with (go_at_call 30; refine ST.out.mono ?_; rintro e w1 ⟨rfl, hc1⟩; have HC1 := hide hc1; clear hc1)
  have hA2 : Chg (fun _ => False) w (w1.alloc (.cells #[.bool false, .int .i64 clock] 64)) := HC1.out.alloc _
  have hbx := heap_alloc_new w1 (.cells #[.bool false, .int .i64 clock] 64)
  have d0 : (w1.alloc (.cells #[.bool false, .int .i64 clock] 64)).cell? ⟨w1.heap.size, 0, none⟩ = some (.bool false) := by simp only [World.cell?, hbx]; rfl
  have d1 : (w1.alloc (.cells #[.bool false, .int .i64 clock] 64)).cell? ⟨w1.heap.size, 1, none⟩ = some (.int .i64 clock) := by simp only [World.cell?, hbx]; rfl
  clear hbx
  generalize (w1.alloc (.cells #[.bool false, .int .i64 clock] 64)) = w2 at hA2 d0 d1 ⊢
  have b9 := (H.out.chg0 hA2).c9
  rw [hbr] at b9
  have b10 := (H.out.chg0 hA2).c10
  rw [hck] at b10
  have HC2 := hide hA2
  clear hA2 HC1 ST
  refine wp_region_sch (fun w' => w'.cell? ⟨w1.heap.size, 0, none⟩ = some (.bool false) ∧ w'.cell? ⟨w1.heap.size, 1, none⟩ = some (.int .i64 clock) ∧ w'.cell? ⟨wb, 9, none⟩ = some (.bool false) ∧ w'.cell? ⟨wb, 10, none⟩ = some (.int .i64 clock)) 15
    [(0, true), (1, true), (2, true), (3, true), (4, true), (5, true), (6, true), (7, true), (8, true), (9, true), (10, true), (11, true), (12, true), (13, true), (14, true)] (by kernel_rfl) (by kernel_rfl) (fun _ _ _ _ _ h => h) ⟨d0, d1, b9, b10⟩ ?_
  iterate 15 (refine wpSch_take (v := ?_) rfl (by rfl) ?_ ?_; rotate_left; (· (intro w' hS; (try dsimp only at hS); go_simp; try with_reducible rfl)); (try simp only [Act.put, List.setIfInBounds_toArray, List.set_cons_zero, List.set_cons_succ, List.getElem_toArray, List.getElem_cons_zero, List.getElem_cons_succ]))
  refine wpSch_end ?_
  simp only [List.drop_succ_cons, List.drop_zero]
  go_wp2
  clear d0 d1 b9 b10
  have HC3 : Hid (Chg (fun _ => False) w w2.drew) := HC2.out.drew
  go_loopw [6] (fun iv wr => ∃ k : Nat, k ≤ 8 ∧ iv = .int .i64 k ∧ Hid (Chg (fun _ => False) w wr)) (fun iv _ => 8 - (intOf iv).toNat)
  case atStart => exact ⟨0, by omega, rfl, HC3.out⟩
  case round =>
    obtain ⟨k, hk, rfl, hcw⟩ := hrel
    obtain ⟨w0, hw0⟩ : ∃ w0, w0 = wr := ⟨_, rfl⟩
    subst hw0
    have k0 : (0 : Int) ≤ (k : Int) := Int.natCast_nonneg _
    by_cases hlk : k < 8
    · have k1 : (k : Int) < 8 := by omega
      have e5 := (H.out.chg0 hcw.out).c5
      rw [hsv] at e5
      have QK := hide (QU.out w0 k hcw.out hlk)
      clear QU HC3 HC2 c5
      go_wp2_with (go_at_call 31; refine QK.out.mono ?_; rintro e w3 ⟨v, rfl, hv, hc3, hfr⟩; have HV := hide hv; have HC3 : Hid (Chg (fun _ => False) w w3) := hcw.out.trans hc3 (fun _ h _ => h); clear hv hc3 hfr)
      have g6 := (H.out.chg0 HC3.out).c6
      have g0 := (H.out.chg0 HC3.out).c0
      rw [hlf] at g0
      have g10 := (H.out.chg0 HC3.out).c10
      rw [hck] at g10
      have RK := hide (RQ.out w3.drew k HC3.out.drew)
      clear RQ
      refine wp_region_sch (fun w' => w'.cell? ⟨wb, 6, none⟩ = some n.pv ∧ w'.cell? ⟨wb, 0, none⟩ = some (.int .i64 life) ∧ w'.cell? ⟨wb, 10, none⟩ = some (.int .i64 clock)) 16
        [(0, true), (1, true), (2, true), (3, true), (4, true), (5, true), (6, true), (7, true), (8, true), (9, true), (10, true), (11, true), (12, true), (13, true), (14, true), (15, false)] (by kernel_rfl) (by kernel_rfl) (fun _ _ _ _ _ h => h) ⟨g6, g0, g10⟩ ?_
      iterate 15 (refine wpSch_take (v := ?_) rfl (by rfl) ?_ ?_; rotate_left; (· (intro w' hS; (try dsimp only at hS); go_simp; try with_reducible rfl)); (try simp only [Act.put, List.setIfInBounds_toArray, List.set_cons_zero, List.set_cons_succ, List.getElem_toArray, List.getElem_cons_zero, List.getElem_cons_succ]))
      refine wpSch_do rfl (by rfl) (fun K hK => ?_)
      go_simp
      refine RK.out.mono ?_
      rintro e w4 ⟨v2, rfl, hv2, hc4, hfr4⟩
      refine hK _ _ ⟨hc4.cellKeep g6, hc4.cellKeep g0, hc4.cellKeep g10⟩ (fun hS => ?_)
      have HC4 : Hid (Chg (fun _ => False) w w4) := HC3.out.drew.trans hc4 (fun _ h _ => h)
      have HSM : Hid (Calls Tryz.prog 84 #[v, v2] w4 fun e w' => e = .returned (.bool true) ∧ Chg (fun _ => False) w4 w') := by
        have hva : PtSl w4 v _ := ownsRow_same HV.out fun g hg => hc4.block g (ownsRow_lt HV.out hg) (fun h => h)
        rw [HT.out k hlk] at hva
        exact same_eq w4 v v2 _ hva hv2 (HLN.out k)
      clear hK K hS hv2 hc4 hfr4 HV RK QK g6 g0 g10 e5
      (try simp only [Act.put, List.setIfInBounds_toArray, List.set_cons_zero, List.set_cons_succ, List.getElem_toArray, List.getElem_cons_zero, List.getElem_cons_succ])
      refine wpSch_end ?_
      simp only [List.drop_succ_cons, List.drop_zero]
      go_wp2_with (go_at_call 84; refine HSM.out.mono ?_; rintro e w5 ⟨rfl, hc5⟩; have HC5 : Hid (Chg (fun _ => False) w w5) := HC4.out.trans hc5 (fun _ h _ => h); clear hc5)
      go_roundw
      case rel => exact ⟨k + 1, by omega, by go_num, HC5.out⟩
      case measure => simp [intOf]; omega
    · obtain rfl : k = 8 := by omega
      clear QU RQ HC3 HC2 c5
      go_wp2
      go_ret
      exact ⟨rfl, hcw.out⟩
end
end
end Go.Proofs.YtfaeidbgdcincaaGreatDoor
/- Walks: the laws: found (nothing was put), trial. -/
namespace Go.Proofs.YtfaeidbgdcincaaGreatDoor
open Go.RowKit
attribute [local go_sem ↓] Go.wp_at_zero Go.wp_at_succ

section
variable {w w' : World} {wb : Nat} {n : WN} {b : Nat} {D : DS} {F : Nat → FC} {Ft : Nat → Prop}
variable {sb jb : Nat} {jv : Value} {life clock : Int} {lv : Nat → Value} {L : Nat → List Pt}
theorem tells_nil (life clock : Int) : Tells (fun _ => []) [] life clock := fun _ _ => by simp [piece, refQ]
set_option maxRecDepth 100000 in
set_option maxHeartbeats 4000000 in
theorem found_nil (w : World) (h : WBlk w wb n) (hsv : n.sv = .pointer (some ⟨sb, 0, none⟩)) (hbr : n.broken = false) (hck : n.clock = clock) (hlf : n.life = life) (hpv : n.pv = .slice none 0 0) (hs : SBlk w sb 0 jv life clock false lv) (hr : RowsAt w lv (fun _ => []))
    (hl : 1 ≤ life ∧ life ≤ 4611686018427387904) (hc : In64 clock) :
    Calls Tryz.prog 47 #[.pointer (some ⟨wb, 0, none⟩)] w fun e w' => e = .returned (.bool true) ∧ WBlk w' wb { n with fell := false } ∧ Chg (One wb) w w' := by
  have hp : PuSl w n.pv [] := by rw [hpv]; exact World.ownsRow_nil _ _ _ _
  have TO : Hid (Calls Tryz.prog 80 #[.pointer (some ⟨wb, 0, none⟩), .int .i64 0] w fun e w' => e = .returned (.bool true) ∧ Chg (fun _ => False) w w') := hide (told_any w 0 h hsv hbr hck hlf hs hr hp (Nat.le_refl _) (by decide) (by simp) (tells_nil life clock) hl hc)
  have c6 := h.c6
  rw [hpv] at c6
  have H := hide h
  clear h hs hr hp
  go_enter Tryz.func47, Tryz.ntmps47
  go_wp2
  go_loopw [3] (fun nv wr => nv = .int .i64 0 ∧ wr = w) (fun _ _ => 0)
  case atStart => exact ⟨rfl, rfl⟩
  case round =>
    obtain ⟨rfl, rfl⟩ := hrel
    go_wp2_with (fail)
    refine TO.out.mono ?_
    rintro e w1 ⟨rfl, hc1⟩
    have d6 := hc1.cellKeep c6
    have e6 := (H.out.chg0 hc1).fz 6
    have d8 := (H.out.chg0 hc1).c8
    have e8 := (H.out.chg0 hc1).fz 8
    have HC1 := hide hc1
    clear hc1 TO c6
    go_wp2
    go_ret
    refine ⟨rfl, ?_, ((HC1.out.mono (S' := One wb) fun _ _ h => h.elim).setAt rfl 6 _).setAt rfl 8 _⟩
    have h2 := ((H.out.chg0 HC1.out).s6 (.slice none 0 0)).s8 false
    rw [← hpv] at h2
    rw [← hpv]
    exact h2
theorem Calm.noCut {nm : List UInt8} {own : Bool} {N C : Nat} (h : Calm nm D F own N C) : Calm nm { D with n := { D.n with cut := if (0 : Int) > 0 then wrap64 (D.n.calls + 0) else 0 } } F own N C :=
  ⟨h.room, by simp, h.fail, h.part, h.dead, h.refused, h.fulls, h.calls, h.safe, h.none_, h.some_⟩
theorem Calm.noFail {nm : List UInt8} {own : Bool} {N C : Nat} (h : Calm nm D F own N C) : Calm nm { D with n := dFail D.n 0 0 } F own N C :=
  ⟨h.room, h.cut, by simp [dFail], by simp [dFail], h.dead, h.refused, h.fulls, h.calls, h.safe, h.none_, h.some_⟩
/-- What lies in new memory may be turned. -/
theorem Chg.newer {S : Nat → Prop} {a b c : World} (h : Chg (fun _ => False) a b) (k : Chg S b c) (hs : ∀ x, S x → a.heap.size ≤ x) : Chg (fun _ => False) a c := h.trans k fun x hx hlt => by have := hs x hx; omega
theorem keptL_len (L : Nat → List Pt) (o : Int) (k : Nat) (t v : Int) (i : Nat) : (keptL L o k t v i).length ≤ (L i).length + 1 := by
  unfold keptL
  split
  · unfold updL
    split
    · rename_i e; subst e; exact (insP_length _ _ _).2
    · omega
  · omega
set_option maxRecDepth 100000 in
set_option maxHeartbeats 4000000 in
theorem trial_calm {B N C : Nat} {lt : List UInt8} {window : Int} (w : World) (h : WBlk w wb n) (hdv : n.dv = .pointer (some ⟨b, 0, none⟩)) (hck : n.clock = clock) (hd : RepU w b D F Ft) (hlt : ∀ k, Ft k → k < w.heap.size) (hca : Calm (nameL lt 1) D F false N C)
    (hL : Lets B w lt) (hnum : NumOk 1) (hne : nameL lt 1 ≠ []) (hl : 1 ≤ life ∧ life ≤ 4611686018427387904) (hw : 1 ≤ window ∧ window ≤ 4611686018427387904) (hc : In64 clock) (hN : N + 1000 ≤ 1099511627776 ∧ (N + 1000 ≤ 5000 ∨ 5000 < N)) (hC : C + 1000 ≤ 4611686018427387904) :
    Calls Tryz.prog 41 #[.pointer (some ⟨wb, 0, none⟩), .agg #[.int .i64 life, .int .i64 window]] w fun e w' => e = .returned (.tuple #[]) ∧ Chg (fun _ => False) w w' := by
  have hA := (Chg.refl (fun _ => False) w).alloc (.cells #[.int .i64 life, .int .i64 window] 48)
  have hbx := heap_alloc_new w (.cells #[.int .i64 life, .int .i64 window] 48)
  generalize hw0 : (w.alloc (.cells #[.int .i64 life, .int .i64 window] 48)) = w0 at hA hbx
  have q0 : w0.cell? ⟨w.heap.size, 0, none⟩ = some (.int .i64 life) := by simp only [World.cell?, hbx]; rfl
  have q1 : w0.cell? ⟨w.heap.size, 1, none⟩ = some (.int .i64 window) := by simp only [World.cell?, hbx]; rfl
  have c4 := (h.chg0 hA).c4
  rw [hdv] at c4
  obtain ⟨n1, n2⟩ := hca.none_ rfl
  have CP := hide (copyU (hd.same hlt hA) (by rw [n1, n2, hca.safe]; simp [sumLen]) (by rw [n2]; simp) (fun f hf => absurd hf (hca.ids0 f)))
  have H := hide h
  have HL := hide hL
  have HA := hide hA
  have HCA := hide hca
  clear h hd hlt hA hbx hL hca n1 n2
  go_enter Tryz.func41, Tryz.ntmps41
  go_wp2_with (first
    | (go_at_call 42; refine CP.out.mono ?_; rintro e w1 ⟨b2, Ft2, rfl, hd2, hft2, hc2⟩; have HD2 := hide hd2; have HFT2 := hide hft2; have HC2 := hide hc2; clear hd2 hft2 hc2)
    | (go_at_call 65; refine (cutU HD2.out 0).mono ?_; rintro e w2 ⟨rfl, hc3, Ft3, hd3, hl3, hs3⟩
       have HD3 := hide hd3
       have HF3 : Hid (∀ k, Ft3 k → w0.heap.size ≤ k ∧ k < w2.heap.size) := fun k hk => ⟨(hs3 k hk).elim (fun h => (HFT2.out k h).1) (fun h => Nat.le_trans HC2.out.size h), hl3 k hk⟩
       have HC3 : Hid (Chg (fun _ => False) w0 w2) := HC2.out.newer hc3 (fun x hx => (HFT2.out x hx).1)
       clear hc3 hd3 hl3 hs3)
    | (go_at_call 66; refine (failU HD3.out 0 0).mono ?_; rintro e w3 ⟨rfl, hc4, Ft4, hd4, hl4, hs4⟩
       have HD4 := hide hd4
       have HF4 : Hid (∀ k, Ft4 k → w0.heap.size ≤ k ∧ k < w3.heap.size) := fun k hk => ⟨(hs4 k hk).elim (fun h => (HF3.out k h).1) (fun h => Nat.le_trans HC3.out.size h), hl4 k hk⟩
       have HC4 : Hid (Chg (fun _ => False) w0 w3) := HC3.out.newer hc4 (fun x hx => (HF3.out x hx).1)
       clear hc4 hd4 hl4 hs4))
  clear CP HD2 HFT2 HC2 HD3 HF3 HC3
  have d0 := HC4.out.cellKeep q0
  have d1 := HC4.out.cellKeep q1
  have d10 := (H.out.chg0 (HA.out.trans HC4.out fun _ h _ => h)).c10
  rw [hck] at d10
  clear q0 q1 c4
  have OP := hide (open_calm (w := w3.drew) life window clock HD4.out.drew (fun k hk => (HF4.out k hk).2) HCA.out.noCut.noFail hl hw)
  refine wp_region_sch (fun w' => w'.cell? ⟨w.heap.size, 0, none⟩ = some (.int .i64 life) ∧ w'.cell? ⟨w.heap.size, 1, none⟩ = some (.int .i64 window) ∧ w'.cell? ⟨wb, 10, none⟩ = some (.int .i64 clock)) 11
    [(0, true), (1, true), (2, true), (3, true), (4, true), (5, true), (6, false), (7, true), (8, true), (9, true), (10, true)] (by kernel_rfl) (by kernel_rfl) (fun _ _ _ _ _ h => h) ⟨d0, d1, d10⟩ ?_
  iterate 6 (refine wpSch_take (v := ?_) rfl (by rfl) ?_ ?_; rotate_left; (· (intro w' hS; (try dsimp only at hS); go_simp; try with_reducible rfl)); (try simp only [Act.put, List.setIfInBounds_toArray, List.set_cons_zero, List.set_cons_succ, List.getElem_toArray, List.getElem_cons_zero, List.getElem_cons_succ]))
  refine wpSch_do rfl (by rfl) (fun K hK => ?_)
  go_simp
  refine OP.out.mono ?_
  rintro e w4 ⟨sb, jb, rfl, hV, hc5, hsb, hjb⟩
  refine hK _ _ ⟨hc5.cellKeep d0, hc5.cellKeep d1, hc5.cellKeep d10⟩ (fun hS => ?_)
  have HV := hide hV
  have HC5 : Hid (Chg (fun _ => False) w0 w4) := HC4.out.drew.trans hc5 fun _ h _ => h
  have HF5 : Hid (∀ k, SFoot sb jb (fun _ => .slice none 0 0) none Ft4 k → w0.heap.size ≤ k) := fun k hk => by
    have := HC4.out.size
    have e : w3.drew.heap.size = w3.heap.size := rfl
    rcases hk with (rfl | ⟨i, _, hi⟩) | rfl | ⟨s, hs⟩ | hk
    · omega
    · simp [Value.ownBlock] at hi
    · omega
    · cases hs
    · exact (HF4.out k hk).1
  have HSB : Hid (B ≤ sb) := by
    have := HL.out.2.1
    have := HA.out.size
    have := HC4.out.size
    have e : w3.drew.heap.size = w3.heap.size := rfl
    unfold Hid; omega
  have e10 := hc5.cellKeep d10
  clear hK K hS hV hc5 hsb hjb HD4 HF4 HC4 OP d0 d1 d10
  (try simp only [Act.put, List.setIfInBounds_toArray, List.set_cons_zero, List.set_cons_succ, List.getElem_toArray, List.getElem_cons_zero, List.getElem_cons_succ])
  iterate 4 (refine wpSch_take (v := ?_) rfl (by rfl) ?_ ?_; rotate_left; (· (intro w' hS; (try dsimp only at hS); go_simp; try with_reducible rfl)); (try simp only [Act.put, List.setIfInBounds_toArray, List.set_cons_zero, List.set_cons_succ, List.getElem_toArray, List.getElem_cons_zero, List.getElem_cons_succ]))
  refine wpSch_end ?_
  simp only [List.drop_succ_cons, List.drop_zero]
  have P1 : Hid (Calls Tryz.prog 21 #[.pointer (some ⟨sb, 0, none⟩), .int .i64 0, .int .i64 clock, .int .i64 4626322] w4 fun e w' => e = .returned (.int .i64 0) ∧ STo w4 w' (nameL lt 1) sb jb b2 0 life clock (fun _ => .slice none 0 0) none Ft4 (keptL (fun _ => []) (oldestN clock life) 0 clock 4626322) (N + 33) (C + 3)) :=
    put_calm (k := 0) HV.out ((HL.out.keep0 HA.out).keep0 HC5.out) HSB.out hnum hne clock 4626322 (by omega) (by simp) hl hc hc (by constructor <;> omega) (by omega) (by omega)
  go_wp2_with (go_at_call 21; refine P1.out.mono ?_; rintro e w5 ⟨rfl, hc6, lv6, own6, D6, F6, Ft6, hV6, hs6⟩; have HV6 := hide hV6; have HC6 : Hid (Chg (fun _ => False) w0 w5) := HC5.out.newer hc6 HF5.out; have HF6 : Hid (∀ k, SFoot sb jb lv6 own6 Ft6 k → w0.heap.size ≤ k) := fun k hk => (hs6 k hk).elim (HF5.out k) (fun h => Nat.le_trans HC5.out.size h); clear hc6 hV6 hs6 P1)
  have P2 : Hid (Calls Tryz.prog 21 #[.pointer (some ⟨sb, 0, none⟩), .int .i64 7, .int .i64 0, .int .i64 4626322] w5 fun e w' => e = .returned (.int .i64 0) ∧ STo w5 w' (nameL lt 1) sb jb b2 0 life clock lv6 own6 Ft6 (keptL (keptL (fun _ => []) (oldestN clock life) 0 clock 4626322) (oldestN clock life) 7 0 4626322) (N + 33 + 33) (C + 3 + 3)) :=
    put_calm (k := 7) HV6.out ((HL.out.keep0 HA.out).keep0 HC6.out) HSB.out hnum hne 0 4626322 (by omega) (by have := keptL_len (fun _ => []) (oldestN clock life) 0 clock 4626322 7; simp at this; omega) hl hc (by constructor <;> omega) (by constructor <;> omega) (by omega) (by omega)
  refine P2.out.mono ?_
  rintro e w6 ⟨rfl, hc7, lv7, own7, D7, F7, Ft7, hV7, hs7⟩
  have HC7 : Hid (Chg (fun _ => False) w0 w6) := HC6.out.newer hc7 HF6.out
  have HS7 : Hid (w0.heap.size ≤ sb) := HF6.out sb (.inl (.inl rfl))
  have FL := hide (flush_calm hV7)
  clear P2 hc7 hV7 hs7 HV HV6 HF5 HF6 HC5 HC6
  go_wp2_with (go_at_call 22; refine FL.out.mono ?_; rintro e w7 ⟨rfl, -, hc8⟩; have HC8 : Hid (Chg (fun _ => False) w0 w7) := HC7.out.newer hc8 (fun x hx => by cases hx; exact HS7.out); clear hc8)
  go_end0
  exact ⟨rfl, HA.out.trans HC8.out fun _ h _ => h⟩
end
end Go.Proofs.YtfaeidbgdcincaaGreatDoor
/- Walks: the document's answer: Config, window. -/
namespace Go.Proofs.YtfaeidbgdcincaaGreatDoor
open Go.RowKit

/-- May a store have these numbers? -/
def configB (life window : Int) : Bool := decide (1 ≤ life ∧ life ≤ 4611686018427387904 ∧ 1 ≤ window ∧ window ≤ 4611686018427387904)
set_option maxRecDepth 100000 in
set_option maxHeartbeats 1000000 in
theorem config_any (w : World) (life window : Int) :
    Calls Tryz.prog 40 #[.agg #[.int .i64 life, .int .i64 window]] w fun e w' => e = .returned (.bool (configB life window)) ∧ Chg (fun _ => False) w w' := by
  obtain ⟨q, hq⟩ : ∃ q, configB life window = q := ⟨_, rfl⟩
  rw [hq]
  have HQ := hide hq
  clear hq
  by_cases h1 : 1 ≤ life <;> by_cases h2 : life ≤ 4611686018427387904 <;> by_cases h3 : 1 ≤ window <;> by_cases h4 : window ≤ 4611686018427387904
  all_goals try (exfalso; omega)
  all_goals
    go_enter Tryz.func40, Tryz.ntmps40
    go_wp2
    go_ret
    refine ⟨?_, (Chg.refl _ _).alloc _⟩
    rw [← HQ.out]
    simp [configB]
    try omega
/-- A time's window. -/
def windowN (t width : Int) : Int := t / width
set_option maxRecDepth 100000 in
set_option maxHeartbeats 1000000 in
theorem window_any (w : World) (t width : Int) (ht : In64 t) (hw : 1 ≤ width ∧ width ≤ 4611686018427387904) :
    Calls Tryz.prog 102 #[.int .i64 t, .int .i64 width] w fun e w' => e = .returned (.int .i64 (windowN t width)) ∧ w = w' := by
  obtain ⟨t1, t2⟩ := ht
  obtain ⟨w1, w2⟩ := hw
  have e1 : t.tmod width + width * t.tdiv width = t := Int.tmod_add_mul_tdiv t width
  have e2 : t.tmod width < width := Int.tmod_lt_of_pos t (by omega)
  have e3 : -width < t.tmod width := Int.lt_tmod_of_pos t (by omega)
  have hqm' : t.tmod width < 0 → t / width = t.tdiv width - 1 := fun h =>
    ((Int.ediv_emod_unique (r := t.tmod width + width) (q := t.tdiv width - 1) (by omega : (0 : Int) < width)).2 ⟨by rw [Int.mul_sub]; omega, by omega, by omega⟩).1
  have hqp' : 0 ≤ t.tmod width → t / width = t.tdiv width := fun h =>
    ((Int.ediv_emod_unique (r := t.tmod width) (q := t.tdiv width) (by omega : (0 : Int) < width)).2 ⟨e1, h, e2⟩).1
  have b1 : -9223372036854775808 ≤ t / width := (Int.le_ediv_iff_mul_le (by omega)).2 (by omega)
  have b2 : t / width < 9223372036854775808 := (Int.ediv_lt_iff_lt_mul (by omega)).2 (by omega)
  have hfin : Hid ((t.tmod width < 0 → wrap64 (t.tdiv width - 1) = windowN t width) ∧ (0 ≤ t.tmod width → t.tdiv width = windowN t width)) := by
    refine ⟨fun h => ?_, fun h => (hqp' h).symm⟩
    have := hqm' h
    unfold windowN wrap64
    omega
  clear e1 e2 e3 hqm' hqp' b1 b2
  go_enter Tryz.func102, Tryz.ntmps102
  go_wp2
  · rename_i h
    go_ret
    rw [← hfin.out.1 h]
    exact ⟨rfl, rfl⟩
  · rename_i h
    go_ret
    rw [← hfin.out.2 h]
    exact ⟨rfl, rfl⟩
end Go.Proofs.YtfaeidbgdcincaaGreatDoor
