/- Walks: the law Disk, and its own functions begins, cutting, failing: each call of the disk by its contract. Printed by wip/gendisk.py. -/
import Derived.Test.YtodcnkbblippnaaLe
namespace Go.Proofs.Ytodcnkbblippnaa
open Go.RowKit
attribute [local go_sem ↓] Go.wp_at_zero Go.wp_at_succ

set_option maxRecDepth 20000 in
set_option maxHeartbeats 1000000 in
theorem begins_t (N : Nat) (w : World) (hN : N ≤ w.heap.size) : Calls Try.prog 4 #[.bool true] w fun e w' => ∃ b, e = .returned (.pointer (some ⟨b, 0, none⟩)) ∧ DAt N w' b ⟨[(⟨#[97]⟩, 0)], [(⟨#[97]⟩, 0)], [], ⟨10, 5, 0, 0, 0, 0, 0, false⟩⟩ (file0 [120, 121] 1) ∧ Chg (Up N) w w' := by
  go_enter Try.func4, Try.ntmps4
  go_wp2_with (fail)
  refine (newA (N := N) (F := file0 [] 0) 10 _ hN).mono ?_
  rintro e w1 ⟨b, rfl, h1, cc, _⟩
  have h1 : DAt N w1 b ⟨[], [], [], ⟨10, 0, 0, 0, 0, 0, 0, false⟩⟩ (file0 [] 0) := h1
  go_wp2_with (fail)
  refine (createA (D := ⟨[], [], [], ⟨10, 0, 0, 0, 0, 0, 0, false⟩⟩) (F := (file0 [] 0)) h1 ⟨#[97]⟩ 0 (e := 0) (D' := ⟨[(⟨#[97]⟩, 0)], [], [[(⟨#[97]⟩, 0)]], ⟨10, 1, 0, 0, 0, 0, 0, false⟩⟩) (F' := (file0 [] 0)) (by kernel_rfl) (ids_one (l := []) (s := 0) (by intro f hf; simp [DS.ids, inEnts] at hf; omega) (by kernel_rfl)) (by simp [DS.ids, inEnts]) (by decide)).mono ?_
  rintro e w2 ⟨rfl, h2, ck⟩
  have cc := cc.ups ck; clear ck h1
  go_wp2_with (fail)
  refine (syncDirA (D := ⟨[(⟨#[97]⟩, 0)], [], [[(⟨#[97]⟩, 0)]], ⟨10, 1, 0, 0, 0, 0, 0, false⟩⟩) (F := (file0 [] 0)) h2 (e := 0) (D' := ⟨[(⟨#[97]⟩, 0)], [(⟨#[97]⟩, 0)], [], ⟨10, 2, 0, 0, 0, 0, 0, false⟩⟩) (by kernel_rfl)).mono ?_
  rintro e w3 ⟨rfl, h3, ck⟩
  have cc := cc.ups ck; clear ck h2
  go_wp2_with (fail)
  refine (appendA (D := ⟨[(⟨#[97]⟩, 0)], [(⟨#[97]⟩, 0)], [], ⟨10, 2, 0, 0, 0, 0, 0, false⟩⟩) (F := (file0 [] 0)) h3 ⟨#[97]⟩ ⟨#[120]⟩ (e := 0) (D' := ⟨[(⟨#[97]⟩, 0)], [(⟨#[97]⟩, 0)], [], ⟨10, 3, 0, 0, 0, 0, 0, false⟩⟩) (G := (dAppend ⟨[(⟨#[97]⟩, 0)], [(⟨#[97]⟩, 0)], [], ⟨10, 2, 0, 0, 0, 0, 0, false⟩⟩ (file0 [] 0) ⟨#[97]⟩ ⟨#[120]⟩).2.2) (F' := (file0 [120] 0)) (by kernel_rfl) (ids_one (by intro f hf; simp [DS.ids, inEnts] at hf; omega) (by kernel_rfl)) (by decide) (by decide) (by decide) (fun f _ => (by decide : ([] : List UInt8).length + ByteArray.size ⟨#[120]⟩ ≤ 70368744177664))).mono ?_
  rintro e w4 ⟨rfl, h4, ck⟩
  have cc := cc.ups ck; clear ck h3
  go_wp2_with (fail)
  refine (syncA (D := ⟨[(⟨#[97]⟩, 0)], [(⟨#[97]⟩, 0)], [], ⟨10, 3, 0, 0, 0, 0, 0, false⟩⟩) (F := (file0 [120] 0)) h4 ⟨#[97]⟩ (e := 0) (D' := ⟨[(⟨#[97]⟩, 0)], [(⟨#[97]⟩, 0)], [], ⟨10, 4, 0, 0, 0, 0, 0, false⟩⟩) (G := (dSync ⟨[(⟨#[97]⟩, 0)], [(⟨#[97]⟩, 0)], [], ⟨10, 3, 0, 0, 0, 0, 0, false⟩⟩ (file0 [120] 0) ⟨#[97]⟩).2.2) (F' := (file0 [120] 1)) (by kernel_rfl) (ids_one (by intro f hf; simp [DS.ids, inEnts] at hf; omega) (by kernel_rfl))).mono ?_
  rintro e w5 ⟨rfl, h5, ck⟩
  have cc := cc.ups ck; clear ck h4
  go_wp2_with (fail)
  refine (appendA (D := ⟨[(⟨#[97]⟩, 0)], [(⟨#[97]⟩, 0)], [], ⟨10, 4, 0, 0, 0, 0, 0, false⟩⟩) (F := (file0 [120] 1)) h5 ⟨#[97]⟩ ⟨#[121]⟩ (e := 0) (D' := ⟨[(⟨#[97]⟩, 0)], [(⟨#[97]⟩, 0)], [], ⟨10, 5, 0, 0, 0, 0, 0, false⟩⟩) (G := (dAppend ⟨[(⟨#[97]⟩, 0)], [(⟨#[97]⟩, 0)], [], ⟨10, 4, 0, 0, 0, 0, 0, false⟩⟩ (file0 [120] 1) ⟨#[97]⟩ ⟨#[121]⟩).2.2) (F' := (file0 [120, 121] 1)) (by kernel_rfl) (ids_one (by intro f hf; simp [DS.ids, inEnts] at hf; omega) (by kernel_rfl)) (by decide) (by decide) (by decide) (fun f _ => (by decide : ([120] : List UInt8).length + ByteArray.size ⟨#[121]⟩ ≤ 70368744177664))).mono ?_
  rintro e w6 ⟨rfl, h6, ck⟩
  have cc := cc.ups ck; clear ck h5
  go_wp2
  go_ret
  exact ⟨_, rfl, h6, cc⟩
set_option maxRecDepth 20000 in
set_option maxHeartbeats 1000000 in
theorem begins_f (N : Nat) (w : World) (hN : N ≤ w.heap.size) : Calls Try.prog 4 #[.bool false] w fun e w' => ∃ b, e = .returned (.pointer (some ⟨b, 0, none⟩)) ∧ DAt N w' b ⟨[(⟨#[97]⟩, 0)], [], [[(⟨#[97]⟩, 0)]], ⟨10, 4, 0, 0, 0, 0, 0, false⟩⟩ (file0 [120, 121] 1) ∧ Chg (Up N) w w' := by
  go_enter Try.func4, Try.ntmps4
  go_wp2_with (fail)
  refine (newA (N := N) (F := file0 [] 0) 10 _ hN).mono ?_
  rintro e w1 ⟨b, rfl, h1, cc, _⟩
  have h1 : DAt N w1 b ⟨[], [], [], ⟨10, 0, 0, 0, 0, 0, 0, false⟩⟩ (file0 [] 0) := h1
  go_wp2_with (fail)
  refine (createA (D := ⟨[], [], [], ⟨10, 0, 0, 0, 0, 0, 0, false⟩⟩) (F := (file0 [] 0)) h1 ⟨#[97]⟩ 0 (e := 0) (D' := ⟨[(⟨#[97]⟩, 0)], [], [[(⟨#[97]⟩, 0)]], ⟨10, 1, 0, 0, 0, 0, 0, false⟩⟩) (F' := (file0 [] 0)) (by kernel_rfl) (ids_one (l := []) (s := 0) (by intro f hf; simp [DS.ids, inEnts] at hf; omega) (by kernel_rfl)) (by simp [DS.ids, inEnts]) (by decide)).mono ?_
  rintro e w2 ⟨rfl, h2, ck⟩
  have cc := cc.ups ck; clear ck h1
  go_wp2_with (fail)
  refine (appendA (D := ⟨[(⟨#[97]⟩, 0)], [], [[(⟨#[97]⟩, 0)]], ⟨10, 1, 0, 0, 0, 0, 0, false⟩⟩) (F := (file0 [] 0)) h2 ⟨#[97]⟩ ⟨#[120]⟩ (e := 0) (D' := ⟨[(⟨#[97]⟩, 0)], [], [[(⟨#[97]⟩, 0)]], ⟨10, 2, 0, 0, 0, 0, 0, false⟩⟩) (G := (dAppend ⟨[(⟨#[97]⟩, 0)], [], [[(⟨#[97]⟩, 0)]], ⟨10, 1, 0, 0, 0, 0, 0, false⟩⟩ (file0 [] 0) ⟨#[97]⟩ ⟨#[120]⟩).2.2) (F' := (file0 [120] 0)) (by kernel_rfl) (ids_one (by intro f hf; simp [DS.ids, inEnts] at hf; omega) (by kernel_rfl)) (by decide) (by decide) (by decide) (fun f _ => (by decide : ([] : List UInt8).length + ByteArray.size ⟨#[120]⟩ ≤ 70368744177664))).mono ?_
  rintro e w3 ⟨rfl, h3, ck⟩
  have cc := cc.ups ck; clear ck h2
  go_wp2_with (fail)
  refine (syncA (D := ⟨[(⟨#[97]⟩, 0)], [], [[(⟨#[97]⟩, 0)]], ⟨10, 2, 0, 0, 0, 0, 0, false⟩⟩) (F := (file0 [120] 0)) h3 ⟨#[97]⟩ (e := 0) (D' := ⟨[(⟨#[97]⟩, 0)], [], [[(⟨#[97]⟩, 0)]], ⟨10, 3, 0, 0, 0, 0, 0, false⟩⟩) (G := (dSync ⟨[(⟨#[97]⟩, 0)], [], [[(⟨#[97]⟩, 0)]], ⟨10, 2, 0, 0, 0, 0, 0, false⟩⟩ (file0 [120] 0) ⟨#[97]⟩).2.2) (F' := (file0 [120] 1)) (by kernel_rfl) (ids_one (by intro f hf; simp [DS.ids, inEnts] at hf; omega) (by kernel_rfl))).mono ?_
  rintro e w4 ⟨rfl, h4, ck⟩
  have cc := cc.ups ck; clear ck h3
  go_wp2_with (fail)
  refine (appendA (D := ⟨[(⟨#[97]⟩, 0)], [], [[(⟨#[97]⟩, 0)]], ⟨10, 3, 0, 0, 0, 0, 0, false⟩⟩) (F := (file0 [120] 1)) h4 ⟨#[97]⟩ ⟨#[121]⟩ (e := 0) (D' := ⟨[(⟨#[97]⟩, 0)], [], [[(⟨#[97]⟩, 0)]], ⟨10, 4, 0, 0, 0, 0, 0, false⟩⟩) (G := (dAppend ⟨[(⟨#[97]⟩, 0)], [], [[(⟨#[97]⟩, 0)]], ⟨10, 3, 0, 0, 0, 0, 0, false⟩⟩ (file0 [120] 1) ⟨#[97]⟩ ⟨#[121]⟩).2.2) (F' := (file0 [120, 121] 1)) (by kernel_rfl) (ids_one (by intro f hf; simp [DS.ids, inEnts] at hf; omega) (by kernel_rfl)) (by decide) (by decide) (by decide) (fun f _ => (by decide : ([120] : List UInt8).length + ByteArray.size ⟨#[121]⟩ ≤ 70368744177664))).mono ?_
  rintro e w5 ⟨rfl, h5, ck⟩
  have cc := cc.ups ck; clear ck h4
  go_wp2
  go_ret
  exact ⟨_, rfl, h5, cc⟩
set_option maxRecDepth 20000 in
set_option maxHeartbeats 1000000 in
theorem cutting_any (N : Nat) (w : World) (hN : N ≤ w.heap.size) : Calls Try.prog 13 #[] w fun e w' => e = .returned (.bool true) ∧ Chg (Up N) w w' := by
  have cc := Chg.refl (Up N) w
  go_enter Try.func13, Try.ntmps13
  go_wp2_with (fail)
  refine (begins_t N _ (by have := cc.size; omega)).mono ?_
  rintro e w1 ⟨bh1, rfl, h1, ck⟩
  have cc := cc.ups ck; clear ck
  go_wp2_with (fail)
  refine (cutA (D := ⟨[(⟨#[97]⟩, 0)], [(⟨#[97]⟩, 0)], [], ⟨10, 5, 0, 0, 0, 0, 0, false⟩⟩) (F := (file0 [120, 121] 1)) h1 2 (D' := ⟨[(⟨#[97]⟩, 0)], [(⟨#[97]⟩, 0)], [], ⟨10, 5, 7, 0, 0, 0, 0, false⟩⟩) (by kernel_rfl)).mono ?_
  rintro e w2 ⟨rfl, h2, ck⟩
  have cc := cc.ups ck; clear ck h1
  go_wp2_with (fail)
  refine (appendA (D := ⟨[(⟨#[97]⟩, 0)], [(⟨#[97]⟩, 0)], [], ⟨10, 5, 7, 0, 0, 0, 0, false⟩⟩) (F := (file0 [120, 121] 1)) h2 ⟨#[97]⟩ ⟨#[122]⟩ (e := 0) (D' := ⟨[(⟨#[97]⟩, 0)], [(⟨#[97]⟩, 0)], [], ⟨10, 6, 7, 0, 0, 0, 0, false⟩⟩) (G := (dAppend ⟨[(⟨#[97]⟩, 0)], [(⟨#[97]⟩, 0)], [], ⟨10, 5, 7, 0, 0, 0, 0, false⟩⟩ (file0 [120, 121] 1) ⟨#[97]⟩ ⟨#[122]⟩).2.2) (F' := (file0 [120, 121, 122] 1)) (by kernel_rfl) (ids_one (by intro f hf; simp [DS.ids, inEnts] at hf; omega) (by kernel_rfl)) (by decide) (by decide) (by decide) (fun f _ => (by decide : ([120, 121] : List UInt8).length + ByteArray.size ⟨#[122]⟩ ≤ 70368744177664))).mono ?_
  rintro e w3 ⟨rfl, h3, ck⟩
  have cc := cc.ups ck; clear ck h2
  go_wp2_with (fail)
  refine (appendA (D := ⟨[(⟨#[97]⟩, 0)], [(⟨#[97]⟩, 0)], [], ⟨10, 6, 7, 0, 0, 0, 0, false⟩⟩) (F := (file0 [120, 121, 122] 1)) h3 ⟨#[97]⟩ ⟨#[49, 50]⟩ (e := 5) (D' := ⟨[(⟨#[97]⟩, 0)], [(⟨#[97]⟩, 0)], [], ⟨10, 7, 7, 0, 0, 1, 0, true⟩⟩) (G := (dAppend ⟨[(⟨#[97]⟩, 0)], [(⟨#[97]⟩, 0)], [], ⟨10, 6, 7, 0, 0, 0, 0, false⟩⟩ (file0 [120, 121, 122] 1) ⟨#[97]⟩ ⟨#[49, 50]⟩).2.2) (F' := (file0 [120, 121, 122, 49, 50] 1)) (by kernel_rfl) (ids_one (by intro f hf; simp [DS.ids, inEnts] at hf; omega) (by kernel_rfl)) (by decide) (by decide) (by decide) (fun f _ => (by decide : ([120, 121, 122] : List UInt8).length + ByteArray.size ⟨#[49, 50]⟩ ≤ 70368744177664))).mono ?_
  rintro e w4 ⟨rfl, h4, ck⟩
  have cc := cc.ups ck; clear ck h3
  go_wp2_with (fail)
  refine (syncA (D := ⟨[(⟨#[97]⟩, 0)], [(⟨#[97]⟩, 0)], [], ⟨10, 7, 7, 0, 0, 1, 0, true⟩⟩) (F := (file0 [120, 121, 122, 49, 50] 1)) h4 ⟨#[97]⟩ (e := 5) (D' := ⟨[(⟨#[97]⟩, 0)], [(⟨#[97]⟩, 0)], [], ⟨10, 8, 7, 0, 0, 2, 0, true⟩⟩) (G := (dSync ⟨[(⟨#[97]⟩, 0)], [(⟨#[97]⟩, 0)], [], ⟨10, 7, 7, 0, 0, 1, 0, true⟩⟩ (file0 [120, 121, 122, 49, 50] 1) ⟨#[97]⟩).2.2) (F' := (file0 [120, 121, 122, 49, 50] 1)) (by kernel_rfl) (ids_one (by intro f hf; simp [DS.ids, inEnts] at hf; omega) (by kernel_rfl))).mono ?_
  rintro e w5 ⟨rfl, h5, ck⟩
  have cc := cc.ups ck; clear ck h4
  go_wp2_with (fail)
  obtain ⟨Ft, hu, _⟩ := id h5
  refine (deadU hu).mono ?_
  rintro e w' ⟨rfl, rfl⟩
  clear hu
  go_wp2_with (fail)
  have cc := cc.ups ((Chg.refl (fun _ => False) w5).alloc (.cells #[.int .i64 3] 3)).up
  go_wp2_with (fail)
  refine (crashA (D := ⟨[(⟨#[97]⟩, 0)], [(⟨#[97]⟩, 0)], [], ⟨10, 8, 7, 0, 0, 2, 0, true⟩⟩) (F := (file0 [120, 121, 122, 49, 50] 1)) h5 ((Chg.refl (fun _ => False) w5).alloc _) 0 _ [3] (D' := ⟨[(⟨#[97]⟩, 0)], [(⟨#[97]⟩, 0)], [], ⟨10, 8, 0, 0, 0, 2, 0, false⟩⟩) (G := (dCrash ⟨[(⟨#[97]⟩, 0)], [(⟨#[97]⟩, 0)], [], ⟨10, 8, 7, 0, 0, 2, 0, true⟩⟩ (file0 [120, 121, 122, 49, 50] 1) 0 [3]).2) (F' := (file0 [120, 121, 122, 49] 4)) (by kernel_rfl) (ids_one (by intro f hf; simp [DS.ids, inEnts] at hf; omega) (by kernel_rfl)) (IntSl.one _ _) (fun ad n c x e1 e2 => by cases e1; cases e2; exact .inr (Nat.le_refl _)) (by decide) (by decide) (by decide) (by intro f _; simp [file0])).mono ?_
  rintro e w6 ⟨rfl, h6, ck⟩
  have cc := cc.ups ck; clear ck h5
  go_wp2_with (fail)
  obtain ⟨Ft, hu, _⟩ := id h6
  refine (deadU hu).mono ?_
  rintro e w' ⟨rfl, rfl⟩
  clear hu
  go_wp2_with (fail)
  refine (has_yes (D := ⟨[(⟨#[97]⟩, 0)], [(⟨#[97]⟩, 0)], [], ⟨10, 8, 0, 0, 0, 2, 0, false⟩⟩) (F := (file0 [120, 121, 122, 49] 4)) h6 ⟨#[97]⟩ ⟨#[120, 121, 122, 49]⟩ 4 (by kernel_rfl) (by kernel_rfl) (by kernel_rfl) (by kernel_rfl) (by kernel_rfl) (by decide)).mono ?_
  rintro e w7 ⟨rfl, ck⟩
  have h7 := h6.same ck; clear h6
  have cc := cc.ups ck.up; clear ck
  go_wp2_with (fail)
  obtain ⟨Ft, hu, _⟩ := id h7
  refine (refusedU hu).mono ?_
  rintro e w' ⟨rfl, rfl⟩
  clear hu
  go_wp2
  go_ret
  exact ⟨rfl, cc⟩
set_option maxRecDepth 20000 in
set_option maxHeartbeats 1000000 in
theorem failing_any (N : Nat) (w : World) (hN : N ≤ w.heap.size) : Calls Try.prog 14 #[] w fun e w' => e = .returned (.bool true) ∧ Chg (Up N) w w' := by
  have cc := Chg.refl (Up N) w
  go_enter Try.func14, Try.ntmps14
  go_wp2_with (fail)
  refine (begins_t N _ (by have := cc.size; omega)).mono ?_
  rintro e w1 ⟨bh1, rfl, h1, ck⟩
  have cc := cc.ups ck; clear ck
  go_wp2_with (fail)
  refine (failA (D := ⟨[(⟨#[97]⟩, 0)], [(⟨#[97]⟩, 0)], [], ⟨10, 5, 0, 0, 0, 0, 0, false⟩⟩) (F := (file0 [120, 121] 1)) h1 1 5 (D' := ⟨[(⟨#[97]⟩, 0)], [(⟨#[97]⟩, 0)], [], ⟨10, 5, 0, 6, 5, 0, 0, false⟩⟩) (by kernel_rfl)).mono ?_
  rintro e w2 ⟨rfl, h2, ck⟩
  have cc := cc.ups ck; clear ck h1
  go_wp2_with (fail)
  refine (appendA (D := ⟨[(⟨#[97]⟩, 0)], [(⟨#[97]⟩, 0)], [], ⟨10, 5, 0, 6, 5, 0, 0, false⟩⟩) (F := (file0 [120, 121] 1)) h2 ⟨#[97]⟩ ⟨#[49, 50, 51, 52]⟩ (e := 5) (D' := ⟨[(⟨#[97]⟩, 0)], [(⟨#[97]⟩, 0)], [], ⟨10, 6, 0, 6, 5, 1, 0, false⟩⟩) (G := (dAppend ⟨[(⟨#[97]⟩, 0)], [(⟨#[97]⟩, 0)], [], ⟨10, 5, 0, 6, 5, 0, 0, false⟩⟩ (file0 [120, 121] 1) ⟨#[97]⟩ ⟨#[49, 50, 51, 52]⟩).2.2) (F' := (file0 [120, 121, 49] 1)) (by kernel_rfl) (ids_one (by intro f hf; simp [DS.ids, inEnts] at hf; omega) (by kernel_rfl)) (by decide) (by decide) (by decide) (fun f _ => (by decide : ([120, 121] : List UInt8).length + ByteArray.size ⟨#[49, 50, 51, 52]⟩ ≤ 70368744177664))).mono ?_
  rintro e w3 ⟨rfl, h3, ck⟩
  have cc := cc.ups ck; clear ck h2
  go_wp2_with (fail)
  refine (has_yes (D := ⟨[(⟨#[97]⟩, 0)], [(⟨#[97]⟩, 0)], [], ⟨10, 6, 0, 6, 5, 1, 0, false⟩⟩) (F := (file0 [120, 121, 49] 1)) h3 ⟨#[97]⟩ ⟨#[120, 121, 49]⟩ 3 (by kernel_rfl) (by kernel_rfl) (by kernel_rfl) (by kernel_rfl) (by kernel_rfl) (by decide)).mono ?_
  rintro e w4 ⟨rfl, ck⟩
  have h4 := h3.same ck; clear h3
  have cc := cc.ups ck.up; clear ck
  go_wp2_with (fail)
  refine (appendA (D := ⟨[(⟨#[97]⟩, 0)], [(⟨#[97]⟩, 0)], [], ⟨10, 6, 0, 6, 5, 1, 0, false⟩⟩) (F := (file0 [120, 121, 49] 1)) h4 ⟨#[97]⟩ ⟨#[49, 50, 51, 52, 53, 54, 55, 56, 57, 48]⟩ (e := 6) (D' := ⟨[(⟨#[97]⟩, 0)], [(⟨#[97]⟩, 0)], [], ⟨10, 7, 0, 6, 5, 2, 1, false⟩⟩) (G := (dAppend ⟨[(⟨#[97]⟩, 0)], [(⟨#[97]⟩, 0)], [], ⟨10, 6, 0, 6, 5, 1, 0, false⟩⟩ (file0 [120, 121, 49] 1) ⟨#[97]⟩ ⟨#[49, 50, 51, 52, 53, 54, 55, 56, 57, 48]⟩).2.2) (F' := (file0 [120, 121, 49, 49, 50, 51, 52, 53, 54, 55] 1)) (by kernel_rfl) (ids_one (by intro f hf; simp [DS.ids, inEnts] at hf; omega) (by kernel_rfl)) (by decide) (by decide) (by decide) (fun f _ => (by decide : ([120, 121, 49] : List UInt8).length + ByteArray.size ⟨#[49, 50, 51, 52, 53, 54, 55, 56, 57, 48]⟩ ≤ 70368744177664))).mono ?_
  rintro e w5 ⟨rfl, h5, ck⟩
  have cc := cc.ups ck; clear ck h4
  go_wp2_with (fail)
  refine (has_yes (D := ⟨[(⟨#[97]⟩, 0)], [(⟨#[97]⟩, 0)], [], ⟨10, 7, 0, 6, 5, 2, 1, false⟩⟩) (F := (file0 [120, 121, 49, 49, 50, 51, 52, 53, 54, 55] 1)) h5 ⟨#[97]⟩ ⟨#[120, 121, 49, 49, 50, 51, 52, 53, 54, 55]⟩ 10 (by kernel_rfl) (by kernel_rfl) (by kernel_rfl) (by kernel_rfl) (by kernel_rfl) (by decide)).mono ?_
  rintro e w6 ⟨rfl, ck⟩
  have h6 := h5.same ck; clear h5
  have cc := cc.ups ck.up; clear ck
  go_wp2_with (fail)
  refine (createA (D := ⟨[(⟨#[97]⟩, 0)], [(⟨#[97]⟩, 0)], [], ⟨10, 7, 0, 6, 5, 2, 1, false⟩⟩) (F := (file0 [120, 121, 49, 49, 50, 51, 52, 53, 54, 55] 1)) h6 ⟨#[97]⟩ 1 (e := 8) (D' := ⟨[(⟨#[97]⟩, 0)], [(⟨#[97]⟩, 0)], [], ⟨10, 7, 0, 6, 5, 2, 1, false⟩⟩) (F' := (upd (file0 [120, 121, 49, 49, 50, 51, 52, 53, 54, 55] 1) 1 ([], 0))) (by kernel_rfl) (fun _ _ => rfl) (by simp [DS.ids, inEnts]) (by decide)).mono ?_
  rintro e w7 ⟨rfl, h7, ck⟩
  have cc := cc.ups ck; clear ck h6
  -- the files are as they were
  have h8 : DAt N w7 bh1 ⟨[(⟨#[97]⟩, 0)], [(⟨#[97]⟩, 0)], [], ⟨10, 7, 0, 6, 5, 2, 1, false⟩⟩ (file0 [120, 121, 49, 49, 50, 51, 52, 53, 54, 55] 1) := by obtain ⟨Ft, q1, q2⟩ := h7; exact ⟨Ft, q1.F_congr (ids_one (by intro f hf; simp [DS.ids, inEnts] at hf; omega) (by kernel_rfl)), q2⟩
  go_wp2_with (fail)
  refine (syncA (D := ⟨[(⟨#[97]⟩, 0)], [(⟨#[97]⟩, 0)], [], ⟨10, 7, 0, 6, 5, 2, 1, false⟩⟩) (F := (file0 [120, 121, 49, 49, 50, 51, 52, 53, 54, 55] 1)) h8 ⟨#[98]⟩ (e := 8) (D' := ⟨[(⟨#[97]⟩, 0)], [(⟨#[97]⟩, 0)], [], ⟨10, 7, 0, 6, 5, 2, 1, false⟩⟩) (G := (dSync ⟨[(⟨#[97]⟩, 0)], [(⟨#[97]⟩, 0)], [], ⟨10, 7, 0, 6, 5, 2, 1, false⟩⟩ (file0 [120, 121, 49, 49, 50, 51, 52, 53, 54, 55] 1) ⟨#[98]⟩).2.2) (F' := (file0 [120, 121, 49, 49, 50, 51, 52, 53, 54, 55] 1)) (by kernel_rfl) (ids_one (by intro f hf; simp [DS.ids, inEnts] at hf; omega) (by kernel_rfl))).mono ?_
  rintro e w8 ⟨rfl, h9, ck⟩
  have cc := cc.ups ck; clear ck h8
  go_wp2_with (fail)
  have hrd : Calls Try.prog 19 #[.pointer (some ⟨bh1, 0, none⟩), .string ⟨#[97]⟩, .int .i64 9, .int .i64 2] w8 fun e w' => e = .returned (.tuple #[.string ⟨#[]⟩, .int .i64 9]) ∧ w8 = w' := by
    obtain ⟨Ft, q1, _⟩ := h9
    have q3 := readU q1 ⟨#[97]⟩ 9 2
    have q4 : dRead ⟨[(⟨#[97]⟩, 0)], [(⟨#[97]⟩, 0)], [], ⟨10, 7, 0, 6, 5, 2, 1, false⟩⟩ (file0 [120, 121, 49, 49, 50, 51, 52, 53, 54, 55] 1) ⟨#[97]⟩ 9 2 = ([], 9) := by kernel_rfl
    rw [q4] at q3; exact q3
  refine hrd.mono ?_
  rintro e w' ⟨rfl, rfl⟩
  clear hrd
  go_wp2_with (fail)
  obtain ⟨Ft, hu, _⟩ := id h9
  refine (refusedU hu).mono ?_
  rintro e w' ⟨rfl, rfl⟩
  clear hu
  go_wp2_with (fail)
  obtain ⟨Ft, hu, _⟩ := id h9
  refine (fullsU hu).mono ?_
  rintro e w' ⟨rfl, rfl⟩
  clear hu
  go_wp2_with (fail)
  obtain ⟨Ft, hu, _⟩ := id h9
  refine (deadU hu).mono ?_
  rintro e w' ⟨rfl, rfl⟩
  clear hu
  go_wp2
  go_ret
  exact ⟨rfl, cc⟩
set_option maxRecDepth 20000 in
set_option maxHeartbeats 4000000 in
theorem disk_any (N : Nat) (w : World) (hN0 : N = w.heap.size) : Calls Try.prog 3 #[] w fun e w' => e = .returned (.bool true) ∧ Chg (Up N) w w' := by
  have hN : N ≤ w.heap.size := Nat.le_of_eq hN0
  have cc := Chg.refl (Up N) w
  go_enter Try.func3, Try.ntmps3
  go_wp2_with (fail)
  refine (begins_t N _ (by have := cc.size; omega)).mono ?_
  rintro e w1 ⟨bh1, rfl, h1, ck⟩
  have cc := cc.ups ck; clear ck
  go_wp2_with (fail)
  refine (has_yes (D := ⟨[(⟨#[97]⟩, 0)], [(⟨#[97]⟩, 0)], [], ⟨10, 5, 0, 0, 0, 0, 0, false⟩⟩) (F := (file0 [120, 121] 1)) h1 ⟨#[97]⟩ ⟨#[120, 121]⟩ 2 (by kernel_rfl) (by kernel_rfl) (by kernel_rfl) (by kernel_rfl) (by kernel_rfl) (by decide)).mono ?_
  rintro e w2 ⟨rfl, ck⟩
  have h2 := h1.same ck; clear h1
  have cc := cc.ups ck.up; clear ck
  go_wp2_with (fail)
  have cc := cc.ups ((Chg.refl (fun _ => False) w2).alloc (.cells #[.int .i64 0] 3)).up
  go_wp2_with (fail)
  refine (crashA (D := ⟨[(⟨#[97]⟩, 0)], [(⟨#[97]⟩, 0)], [], ⟨10, 5, 0, 0, 0, 0, 0, false⟩⟩) (F := (file0 [120, 121] 1)) h2 ((Chg.refl (fun _ => False) w2).alloc _) 0 _ [0] (D' := ⟨[(⟨#[97]⟩, 0)], [(⟨#[97]⟩, 0)], [], ⟨10, 5, 0, 0, 0, 0, 0, false⟩⟩) (G := (dCrash ⟨[(⟨#[97]⟩, 0)], [(⟨#[97]⟩, 0)], [], ⟨10, 5, 0, 0, 0, 0, 0, false⟩⟩ (file0 [120, 121] 1) 0 [0]).2) (F' := (file0 [120] 1)) (by kernel_rfl) (ids_one (by intro f hf; simp [DS.ids, inEnts] at hf; omega) (by kernel_rfl)) (IntSl.one _ _) (fun ad n c x e1 e2 => by cases e1; cases e2; exact .inr (Nat.le_refl _)) (by decide) (by decide) (by decide) (by intro f _; simp [file0])).mono ?_
  rintro e w3 ⟨rfl, h3, ck⟩
  have cc := cc.ups ck; clear ck h2
  go_wp2_with (fail)
  refine (has_yes (D := ⟨[(⟨#[97]⟩, 0)], [(⟨#[97]⟩, 0)], [], ⟨10, 5, 0, 0, 0, 0, 0, false⟩⟩) (F := (file0 [120] 1)) h3 ⟨#[97]⟩ ⟨#[120]⟩ 1 (by kernel_rfl) (by kernel_rfl) (by kernel_rfl) (by kernel_rfl) (by kernel_rfl) (by decide)).mono ?_
  rintro e w4 ⟨rfl, ck⟩
  have h4 := h3.same ck; clear h3
  have cc := cc.ups ck.up; clear ck
  go_wp2_with (fail)
  refine (begins_t N _ (by have := cc.size; omega)).mono ?_
  rintro e w5 ⟨bh5, rfl, h5, ck⟩
  have cc := cc.ups ck; clear ck h4
  go_wp2_with (fail)
  have cc := cc.ups ((Chg.refl (fun _ => False) w5).alloc (.cells #[.int .i64 1] 3)).up
  go_wp2_with (fail)
  refine (crashA (D := ⟨[(⟨#[97]⟩, 0)], [(⟨#[97]⟩, 0)], [], ⟨10, 5, 0, 0, 0, 0, 0, false⟩⟩) (F := (file0 [120, 121] 1)) h5 ((Chg.refl (fun _ => False) w5).alloc _) 0 _ [1] (D' := ⟨[(⟨#[97]⟩, 0)], [(⟨#[97]⟩, 0)], [], ⟨10, 5, 0, 0, 0, 0, 0, false⟩⟩) (G := (dCrash ⟨[(⟨#[97]⟩, 0)], [(⟨#[97]⟩, 0)], [], ⟨10, 5, 0, 0, 0, 0, 0, false⟩⟩ (file0 [120, 121] 1) 0 [1]).2) (F' := (file0 [120, 121] 2)) (by kernel_rfl) (ids_one (by intro f hf; simp [DS.ids, inEnts] at hf; omega) (by kernel_rfl)) (IntSl.one _ _) (fun ad n c x e1 e2 => by cases e1; cases e2; exact .inr (Nat.le_refl _)) (by decide) (by decide) (by decide) (by intro f _; simp [file0])).mono ?_
  rintro e w6 ⟨rfl, h6, ck⟩
  have cc := cc.ups ck; clear ck h5
  go_wp2_with (fail)
  refine (has_yes (D := ⟨[(⟨#[97]⟩, 0)], [(⟨#[97]⟩, 0)], [], ⟨10, 5, 0, 0, 0, 0, 0, false⟩⟩) (F := (file0 [120, 121] 2)) h6 ⟨#[97]⟩ ⟨#[120, 121]⟩ 2 (by kernel_rfl) (by kernel_rfl) (by kernel_rfl) (by kernel_rfl) (by kernel_rfl) (by decide)).mono ?_
  rintro e w7 ⟨rfl, ck⟩
  have h7 := h6.same ck; clear h6
  have cc := cc.ups ck.up; clear ck
  go_wp2_with (fail)
  refine (begins_f N _ (by have := cc.size; omega)).mono ?_
  rintro e w8 ⟨bh8, rfl, h8, ck⟩
  have cc := cc.ups ck; clear ck h7
  go_wp2_with (fail)
  refine (crashA (D := ⟨[(⟨#[97]⟩, 0)], [], [[(⟨#[97]⟩, 0)]], ⟨10, 4, 0, 0, 0, 0, 0, false⟩⟩) (F := (file0 [120, 121] 1)) h8 (Chg.refl (fun _ => False) w8) 0 _ [] (D' := ⟨[], [], [], ⟨10, 4, 0, 0, 0, 0, 0, false⟩⟩) (G := (dCrash ⟨[(⟨#[97]⟩, 0)], [], [[(⟨#[97]⟩, 0)]], ⟨10, 4, 0, 0, 0, 0, 0, false⟩⟩ (file0 [120, 121] 1) 0 []).2) (F' := (file0 [120, 121] 1)) (by kernel_rfl) (by intro f hf; simp [DS.ids, inEnts] at hf) (IntSl.nil0 _) (fun ad n c x e1 e2 => by cases e1; cases e2) (by decide) (by decide) (by decide) (by intro f _; simp [file0])).mono ?_
  rintro e w9 ⟨rfl, h9, ck⟩
  have cc := cc.ups ck; clear ck h8
  go_wp2_with (fail)
  have hls : Calls Try.prog 7 #[.pointer (some ⟨bh8, 0, none⟩)] w9 fun e w' => ∃ a c, e = .returned (.slice a 0 c) ∧ Chg (fun _ => False) w9 w' := by
    obtain ⟨Ft, q1, _⟩ := h9
    refine (listU q1 (by decide)).mono ?_
    rintro e w' ⟨v, q2, q3, q4, _⟩
    obtain ⟨a, c, rfl, _⟩ := ownsRow_form q3
    exact ⟨a, c, q2, q4⟩
  refine hls.mono ?_
  rintro e w10 ⟨al, cl, rfl, ck⟩
  clear hls
  have h10 := h9.same ck; clear h9
  have cc := cc.ups ck.up; clear ck
  go_wp2_with (fail)
  refine (begins_t N _ (by have := cc.size; omega)).mono ?_
  rintro e w11 ⟨bh11, rfl, h11, ck⟩
  have cc := cc.ups ck; clear ck h10
  go_wp2_with (fail)
  refine (renameA (D := ⟨[(⟨#[97]⟩, 0)], [(⟨#[97]⟩, 0)], [], ⟨10, 5, 0, 0, 0, 0, 0, false⟩⟩) (F := (file0 [120, 121] 1)) h11 ⟨#[97]⟩ ⟨#[98]⟩ (e := 0) (D' := ⟨[(⟨#[98]⟩, 0)], [(⟨#[97]⟩, 0)], [[(⟨#[98]⟩, 0)]], ⟨10, 6, 0, 0, 0, 0, 0, false⟩⟩) (by kernel_rfl) (by decide)).mono ?_
  rintro e w12 ⟨rfl, h12, ck⟩
  have cc := cc.ups ck; clear ck h11
  go_wp2_with (fail)
  refine (createA (D := ⟨[(⟨#[98]⟩, 0)], [(⟨#[97]⟩, 0)], [[(⟨#[98]⟩, 0)]], ⟨10, 6, 0, 0, 0, 0, 0, false⟩⟩) (F := (file0 [120, 121] 1)) h12 ⟨#[99]⟩ 1 (e := 0) (D' := ⟨[(⟨#[98]⟩, 0), (⟨#[99]⟩, 1)], [(⟨#[97]⟩, 0)], [[(⟨#[98]⟩, 0)], [(⟨#[98]⟩, 0), (⟨#[99]⟩, 1)]], ⟨10, 7, 0, 0, 0, 0, 0, false⟩⟩) (F' := (upd (file0 [120, 121] 1) 1 ([], 0))) (by kernel_rfl) (fun _ _ => rfl) (by simp [DS.ids, inEnts]) (by decide)).mono ?_
  rintro e w13 ⟨rfl, h13, ck⟩
  have cc := cc.ups ck; clear ck h12
  go_wp2_with (fail)
  refine (crashA (D := ⟨[(⟨#[98]⟩, 0), (⟨#[99]⟩, 1)], [(⟨#[97]⟩, 0)], [[(⟨#[98]⟩, 0)], [(⟨#[98]⟩, 0), (⟨#[99]⟩, 1)]], ⟨10, 7, 0, 0, 0, 0, 0, false⟩⟩) (F := (upd (file0 [120, 121] 1) 1 ([], 0))) h13 (Chg.refl (fun _ => False) w13) 1 _ [] (D' := ⟨[(⟨#[98]⟩, 0)], [(⟨#[98]⟩, 0)], [], ⟨10, 7, 0, 0, 0, 0, 0, false⟩⟩) (G := (dCrash ⟨[(⟨#[98]⟩, 0), (⟨#[99]⟩, 1)], [(⟨#[97]⟩, 0)], [[(⟨#[98]⟩, 0)], [(⟨#[98]⟩, 0), (⟨#[99]⟩, 1)]], ⟨10, 7, 0, 0, 0, 0, 0, false⟩⟩ (upd (file0 [120, 121] 1) 1 ([], 0)) 1 []).2) (F' := (file0 [120] 1)) (by kernel_rfl) (ids_one (by intro f hf; simp [DS.ids, inEnts] at hf; omega) (by kernel_rfl)) (IntSl.nil0 _) (fun ad n c x e1 e2 => by cases e1; cases e2) (by decide) (by decide) (by decide) (by intro f hf; have hf2 : f = 0 ∨ f = 1 := (by simp [DS.ids, inEnts] at hf; omega); rcases hf2 with rfl | rfl <;> simp [file0, upd])).mono ?_
  rintro e w14 ⟨rfl, h14, ck⟩
  have cc := cc.ups ck; clear ck h13
  go_wp2_with (fail)
  refine (has_yes (D := ⟨[(⟨#[98]⟩, 0)], [(⟨#[98]⟩, 0)], [], ⟨10, 7, 0, 0, 0, 0, 0, false⟩⟩) (F := (file0 [120] 1)) h14 ⟨#[98]⟩ ⟨#[120]⟩ 1 (by kernel_rfl) (by kernel_rfl) (by kernel_rfl) (by kernel_rfl) (by kernel_rfl) (by decide)).mono ?_
  rintro e w15 ⟨rfl, ck⟩
  have h15 := h14.same ck; clear h14
  have cc := cc.ups ck.up; clear ck
  go_wp2_with (fail)
  refine (begins_t N _ (by have := cc.size; omega)).mono ?_
  rintro e w16 ⟨bh16, rfl, h16, ck⟩
  have cc := cc.ups ck; clear ck h15
  go_wp2_with (fail)
  refine (removeA (D := ⟨[(⟨#[97]⟩, 0)], [(⟨#[97]⟩, 0)], [], ⟨10, 5, 0, 0, 0, 0, 0, false⟩⟩) (F := (file0 [120, 121] 1)) h16 ⟨#[97]⟩ (e := 0) (D' := ⟨[], [(⟨#[97]⟩, 0)], [[]], ⟨10, 6, 0, 0, 0, 0, 0, false⟩⟩) (by kernel_rfl) (by decide)).mono ?_
  rintro e w17 ⟨rfl, h17, ck⟩
  have cc := cc.ups ck; clear ck h16
  go_wp2_with (fail)
  have cc := cc.ups ((Chg.refl (fun _ => False) w17).alloc (.cells #[.int .i64 1] 3)).up
  go_wp2_with (fail)
  refine (crashA (D := ⟨[], [(⟨#[97]⟩, 0)], [[]], ⟨10, 6, 0, 0, 0, 0, 0, false⟩⟩) (F := (file0 [120, 121] 1)) h17 ((Chg.refl (fun _ => False) w17).alloc _) 0 _ [1] (D' := ⟨[(⟨#[97]⟩, 0)], [(⟨#[97]⟩, 0)], [], ⟨10, 6, 0, 0, 0, 0, 0, false⟩⟩) (G := (dCrash ⟨[], [(⟨#[97]⟩, 0)], [[]], ⟨10, 6, 0, 0, 0, 0, 0, false⟩⟩ (file0 [120, 121] 1) 0 [1]).2) (F' := (file0 [120, 121] 2)) (by kernel_rfl) (ids_one (by intro f hf; simp [DS.ids, inEnts] at hf; omega) (by kernel_rfl)) (IntSl.one _ _) (fun ad n c x e1 e2 => by cases e1; cases e2; exact .inr (Nat.le_refl _)) (by decide) (by decide) (by decide) (by intro f _; simp [file0])).mono ?_
  rintro e w18 ⟨rfl, h18, ck⟩
  have cc := cc.ups ck; clear ck h17
  go_wp2_with (fail)
  refine (has_yes (D := ⟨[(⟨#[97]⟩, 0)], [(⟨#[97]⟩, 0)], [], ⟨10, 6, 0, 0, 0, 0, 0, false⟩⟩) (F := (file0 [120, 121] 2)) h18 ⟨#[97]⟩ ⟨#[120, 121]⟩ 2 (by kernel_rfl) (by kernel_rfl) (by kernel_rfl) (by kernel_rfl) (by kernel_rfl) (by decide)).mono ?_
  rintro e w19 ⟨rfl, ck⟩
  have h19 := h18.same ck; clear h18
  have cc := cc.ups ck.up; clear ck
  go_wp2_with (fail)
  refine (begins_t N _ (by have := cc.size; omega)).mono ?_
  rintro e w20 ⟨bh20, rfl, h20, ck⟩
  have cc := cc.ups ck; clear ck h19
  go_wp2_with (fail)
  refine (renameA (D := ⟨[(⟨#[97]⟩, 0)], [(⟨#[97]⟩, 0)], [], ⟨10, 5, 0, 0, 0, 0, 0, false⟩⟩) (F := (file0 [120, 121] 1)) h20 ⟨#[97]⟩ ⟨#[98]⟩ (e := 0) (D' := ⟨[(⟨#[98]⟩, 0)], [(⟨#[97]⟩, 0)], [[(⟨#[98]⟩, 0)]], ⟨10, 6, 0, 0, 0, 0, 0, false⟩⟩) (by kernel_rfl) (by decide)).mono ?_
  rintro e w21 ⟨rfl, h21, ck⟩
  have cc := cc.ups ck; clear ck h20
  go_wp2_with (fail)
  refine (copyA (D := ⟨[(⟨#[98]⟩, 0)], [(⟨#[97]⟩, 0)], [[(⟨#[98]⟩, 0)]], ⟨10, 6, 0, 0, 0, 0, 0, false⟩⟩) (F := (file0 [120, 121] 1)) h21 (by decide) (by decide) (by intro f _; simp [file0])).mono ?_
  rintro e w22 ⟨bo, rfl, ho, hd, ck⟩
  have hp := DPair.of_copy h21 ck ho; clear ho hd h21
  have cc := cc.ups ck.up; clear ck
  go_wp2_with (fail)
  refine (appendP (D := ⟨[(⟨#[98]⟩, 0)], [(⟨#[97]⟩, 0)], [[(⟨#[98]⟩, 0)]], ⟨10, 6, 0, 0, 0, 0, 0, false⟩⟩) (F := (file0 [120, 121] 1)) hp ⟨#[98]⟩ ⟨#[122]⟩ (e := 0) (D' := ⟨[(⟨#[98]⟩, 0)], [(⟨#[97]⟩, 0)], [[(⟨#[98]⟩, 0)]], ⟨10, 7, 0, 0, 0, 0, 0, false⟩⟩) (G := (dAppend ⟨[(⟨#[98]⟩, 0)], [(⟨#[97]⟩, 0)], [[(⟨#[98]⟩, 0)]], ⟨10, 6, 0, 0, 0, 0, 0, false⟩⟩ (file0 [120, 121] 1) ⟨#[98]⟩ ⟨#[122]⟩).2.2) (F' := (file0 [120, 121, 122] 1)) (by kernel_rfl) (ids_one (by intro f hf; simp [DS.ids, inEnts] at hf; omega) (by kernel_rfl)) (by decide) (by decide) (by decide) (fun f _ => (by decide : ([120, 121] : List UInt8).length + ByteArray.size ⟨#[122]⟩ ≤ 70368744177664))).mono ?_
  rintro e w23 ⟨rfl, hp2, ck⟩
  have cc := cc.ups ck; clear ck hp
  go_wp2_with (fail)
  have cc := cc.ups ((Chg.refl (fun _ => False) w23).alloc (.cells #[.int .i64 1] 3)).up
  refine (crashP (D := ⟨[(⟨#[98]⟩, 0)], [(⟨#[97]⟩, 0)], [[(⟨#[98]⟩, 0)]], ⟨10, 6, 0, 0, 0, 0, 0, false⟩⟩) (F := (file0 [120, 121] 1)) hp2.symm ((Chg.refl (fun _ => False) w23).alloc _) 0 _ [1] (D' := ⟨[(⟨#[97]⟩, 0)], [(⟨#[97]⟩, 0)], [], ⟨10, 6, 0, 0, 0, 0, 0, false⟩⟩) (G := (dCrash ⟨[(⟨#[98]⟩, 0)], [(⟨#[97]⟩, 0)], [[(⟨#[98]⟩, 0)]], ⟨10, 6, 0, 0, 0, 0, 0, false⟩⟩ (file0 [120, 121] 1) 0 [1]).2) (F' := (file0 [120, 121] 2)) (by kernel_rfl) (ids_one (by intro f hf; simp [DS.ids, inEnts] at hf; omega) (by kernel_rfl)) (IntSl.one _ _) (fun ad n c x e1 e2 => by cases e1; cases e2; exact .inr (Nat.le_refl _)) (by decide) (by decide) (by decide) (by intro f _; simp [file0])).mono ?_
  rintro e w24 ⟨rfl, hp3, ck⟩
  have cc := cc.ups ck; clear ck hp2
  have ho := hp3.one; have hd := hp3.symm.one; clear hp3
  go_wp2_with (fail)
  refine (has_yes (D := ⟨[(⟨#[97]⟩, 0)], [(⟨#[97]⟩, 0)], [], ⟨10, 6, 0, 0, 0, 0, 0, false⟩⟩) (F := (file0 [120, 121] 2)) ho ⟨#[97]⟩ ⟨#[120, 121]⟩ 2 (by kernel_rfl) (by kernel_rfl) (by kernel_rfl) (by kernel_rfl) (by kernel_rfl) (by decide)).mono ?_
  rintro e w25 ⟨rfl, ck⟩
  have h22 := ho.same ck; clear ho
  have h23 := hd.same ck; clear hd
  have cc := cc.ups ck.up; clear ck
  go_wp2_with (fail)
  refine (has_yes (D := ⟨[(⟨#[98]⟩, 0)], [(⟨#[97]⟩, 0)], [[(⟨#[98]⟩, 0)]], ⟨10, 7, 0, 0, 0, 0, 0, false⟩⟩) (F := (file0 [120, 121, 122] 1)) h23 ⟨#[98]⟩ ⟨#[120, 121, 122]⟩ 3 (by kernel_rfl) (by kernel_rfl) (by kernel_rfl) (by kernel_rfl) (by kernel_rfl) (by decide)).mono ?_
  rintro e w26 ⟨rfl, ck⟩
  have h24 := h22.same ck; clear h22
  have h25 := h23.same ck; clear h23
  have cc := cc.ups ck.up; clear ck
  go_wp2_with (fail)
  refine (cutting_any N _ (by have := cc.size; omega)).mono ?_
  rintro e w27 ⟨rfl, ck⟩
  have cc := cc.ups ck; clear ck
  go_wp2_with (fail)
  refine (failing_any N _ (by have := cc.size; omega)).mono ?_
  rintro e w28 ⟨rfl, ck⟩
  have cc := cc.ups ck; clear ck
  go_wp2
  go_ret
  exact ⟨rfl, cc⟩
end Go.Proofs.Ytodcnkbblippnaa
