/- Walks: the disk's small functions. -/
import Derived.Test.YtodcnkbblippnaaMem
import Derived.Deep.RegionHeld3
import Derived.Deep.LoopGhost
import Derived.Deep.DrawnRows
namespace Go.Proofs.Ytodcnkbblippnaa
open Go.RowKit
attribute [local go_sem ↓] Go.wp_at_zero Go.wp_at_succ

set_option maxRecDepth 100000 in
set_option maxHeartbeats 400000 in
theorem find_any (w : World) (v : Value) (es : List Ent) (name : ByteArray) (h : EntSl w v es) :
    Calls Try.prog 22 #[v, .string name] w fun e w' => e = .returned (.int .i64 (fidx es name)) ∧ w = w' := by
  obtain ⟨a, cap, rfl, hc1, hc2, hcell⟩ := h.form
  unfold maxLen at hc2
  clear h
  go_enter Try.func22, Try.ntmps22
  go_wp2
  go_loop [5, 8] (fun j i => ∃ k : Nat, k ≤ es.length ∧ i = .int .i64 k ∧ Hid (∀ m (hm : m < k) (h2 : m < es.length), (es[m]'h2).1 ≠ name)) (fun _ i => es.length - (intOf i).toNat)
  case atStart => exact ⟨0, Nat.zero_le _, rfl, fun m hm => absurd hm (by omega)⟩
  case round =>
    obtain ⟨k, hk, rfl, hno⟩ := hrel
    by_cases hlt : k < es.length
    · obtain ⟨g, rfl, hn, hp⟩ := hcell k hlt
      clear hcell
      by_cases heq : (es[k]'hlt).1 = name
      · have ht : ((es[k]'hlt).1.toList == name.toList) = true := (bytes_eq_iff _ _).2 heq
        have hf := Hid.out hno
        have hfin := fidx_hit es name k hlt heq (fun m hm => hf m hm (by omega))
        clear hf heq
        have Hfin : Hid (fidx es name = k) := hfin
        clear hfin
        go_wp2
        go_ret
        exact ⟨by rw [Hfin.out]; rfl, rfl⟩
      · have ht : ((es[k]'hlt).1.toList == name.toList) = false := (bytes_ne_iff _ _).2 heq
        have Heq : Hid ((es[k]'hlt).1 ≠ name) := heq
        clear heq
        go_wp2
        go_round
        case rel => exact ⟨k + 1, by omega, by go_num, fun m hm h2 => by rcases Nat.lt_or_ge m k with h | h; exact hno m h h2; (obtain rfl : m = k := (by omega)); exact Heq.out⟩
        case measure => simp [intOf]; omega
    · have hfin := fidx_none es name (fun m hm => Hid.out hno m (by omega) hm)
      have Hfin : Hid (fidx es name = -1) := hfin
      clear hfin hcell
      go_wp2
      go_ret
      exact ⟨by rw [Hfin.out]; rfl, rfl⟩

/-- A call that changes something is counted: does it do anything, and what is answered? -/
def bg (n : DN) : Bool × Int × DN :=
  let c := wrap64 (n.calls + 1)
  if n.dead then (false, 5, { n with calls := c, refused := wrap64 (n.refused + 1) })
  else if c = n.cut then (true, 5, { n with calls := c, refused := wrap64 (n.refused + 1), dead := true })
  else if c = n.fail then (false, 5, { n with calls := c, refused := wrap64 (n.refused + 1) })
  else (true, 0, { n with calls := c })
set_option maxRecDepth 100000 in
set_option maxHeartbeats 400000 in
theorem begins_any (w : World) (b : Nat) (vd vs vc : Value) (n : DN) (h : DBlk w b vd vs vc n) :
    Calls Try.prog 23 #[.pointer (some ⟨b, 0, none⟩)] w fun e w' => e = .returned (.tuple #[.bool (bg n).1, .int .i64 (bg n).2.1]) ∧ DBlk w' b vd vs vc (bg n).2.2 ∧ Chg (One b) w w' := by
  have h4 := h.c4
  have h5 := h.c5
  have h6 := h.c6
  have h8 := h.c8
  have h10 := h.c10
  have hf := h.fz
  have e1 := (h.s4 (wrap64 (n.calls + 1)))
  have e2 := e1.s8 (wrap64 (n.refused + 1))
  have e3 := e2.s10 true
  have C1 := (Chg.refl (One b) w).setAt rfl 4 (.int .i64 (wrap64 (n.calls + 1)))
  have C2 := C1.setAt rfl 8 (.int .i64 (wrap64 (n.refused + 1)))
  have C3 := C2.setAt rfl 10 (.bool true)
  have E1 := hide e1
  have E2 := hide e2
  have E3 := hide e3
  have K1 := hide C1
  have K2 := hide C2
  have K3 := hide C3
  clear e1 e2 e3 C1 C2 C3 h
  by_cases hd : n.dead = true
  · have q : Hid (bg n = (false, 5, { n with calls := wrap64 (n.calls + 1), refused := wrap64 (n.refused + 1) })) := by unfold Hid; simp [bg, hd]
    go_enter Try.func23, Try.ntmps23
    go_wp2
    go_ret2
    rw [q.out]
    exact ⟨rfl, E2.out, K2.out⟩
  · have hd' : n.dead = false := by simpa using hd
    clear hd
    by_cases hc : (wrap64 (n.calls + 1) == n.cut) = true
    · have q : Hid (bg n = (true, 5, { n with calls := wrap64 (n.calls + 1), refused := wrap64 (n.refused + 1), dead := true })) := by unfold Hid; simp [bg, hd', eq_of_beq hc]
      go_enter Try.func23, Try.ntmps23
      go_wp2
      go_region_held3 (fun w' => w'.cell? ⟨b, 4, none⟩ = some (.int .i64 (wrap64 (n.calls + 1))) ∧ w'.cell? ⟨b, 5, none⟩ = some (.int .i64 n.cut)) (refine ⟨?_, ?_⟩ <;> go_simp) (fail)
      go_wp2
      go_ret2
      rw [q.out]
      exact ⟨rfl, E3.out, K3.out.drew⟩
    · have hc' : (wrap64 (n.calls + 1) == n.cut) = false := by simpa using hc
      clear hc
      by_cases hl : (wrap64 (n.calls + 1) == n.fail) = true
      · have q : Hid (bg n = (false, 5, { n with calls := wrap64 (n.calls + 1), refused := wrap64 (n.refused + 1) })) := by
          have := ne_of_beq_false hc'
          unfold Hid bg; dsimp only; rw [if_neg (by rw [hd']; decide), if_neg this, if_pos (eq_of_beq hl)]
        go_enter Try.func23, Try.ntmps23
        go_wp2
        go_region_held3 (fun w' => w'.cell? ⟨b, 4, none⟩ = some (.int .i64 (wrap64 (n.calls + 1))) ∧ w'.cell? ⟨b, 5, none⟩ = some (.int .i64 n.cut)) (refine ⟨?_, ?_⟩ <;> go_simp) (fail)
        go_wp2
        go_region_held3 (fun w' => w'.cell? ⟨b, 4, none⟩ = some (.int .i64 (wrap64 (n.calls + 1))) ∧ w'.cell? ⟨b, 6, none⟩ = some (.int .i64 n.fail)) (refine ⟨?_, ?_⟩ <;> go_simp) (fail)
        go_wp2
        go_ret2
        rw [q.out]
        exact ⟨rfl, E2.out, K2.out.drew.drew⟩
      · have hl' : (wrap64 (n.calls + 1) == n.fail) = false := by simpa using hl
        clear hl
        have q : Hid (bg n = (true, 0, { n with calls := wrap64 (n.calls + 1) })) := by
          have := ne_of_beq_false hc'
          have h2 := ne_of_beq_false hl'
          unfold Hid bg; dsimp only; rw [if_neg (by rw [hd']; decide), if_neg this, if_neg h2]
        go_enter Try.func23, Try.ntmps23
        go_wp2
        go_region_held3 (fun w' => w'.cell? ⟨b, 4, none⟩ = some (.int .i64 (wrap64 (n.calls + 1))) ∧ w'.cell? ⟨b, 5, none⟩ = some (.int .i64 n.cut)) (refine ⟨?_, ?_⟩ <;> go_simp) (fail)
        go_wp2
        go_region_held3 (fun w' => w'.cell? ⟨b, 4, none⟩ = some (.int .i64 (wrap64 (n.calls + 1))) ∧ w'.cell? ⟨b, 6, none⟩ = some (.int .i64 n.fail)) (refine ⟨?_, ?_⟩ <;> go_simp) (fail)
        go_wp2
        go_ret2
        rw [q.out]
        exact ⟨rfl, E1.out, K1.out.drew.drew⟩
end Go.Proofs.Ytodcnkbblippnaa
