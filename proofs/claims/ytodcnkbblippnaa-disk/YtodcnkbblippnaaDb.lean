/- Walks: New, Cut, Fail, what is only asked; turned. -/
import Derived.Test.YtodcnkbblippnaaRep
import Derived.Test.YtodcnkbblippnaaDa
namespace Go.Proofs.Ytodcnkbblippnaa
open Go.RowKit
attribute [local go_sem ↓] Go.wp_at_zero Go.wp_at_succ

theorem Try.infoEntry : (Try.prog.info? 50).map (fun i => (i.zero, i.size, i.bytes)) = some (some (.agg #[.string ByteArray.empty, .pointer none]), 2, 24) := by kernel_rfl
theorem Try.infoChange : (Try.prog.info? 47).map (fun i => (i.zero, i.size, i.bytes)) = some (some (.agg #[.slice none 0 0]), 1, 24) := by kernel_rfl
theorem Try.infoByte : (Try.prog.info? 5).map (fun i => (i.zero, i.size, i.bytes)) = some (some (.int .u8 0), 1, 1) := by kernel_rfl
theorem Try.infoString : (Try.prog.info? 9).map (fun i => (i.zero, i.size, i.bytes)) = some (some (.string ByteArray.empty), 1, 16) := by kernel_rfl

def dNew (room : Int) : DN := ⟨room, 0, 0, 0, 0, 0, 0, false⟩
set_option maxRecDepth 100000 in
set_option maxHeartbeats 400000 in
theorem new_any (room : Int) (w : World) :
    Calls Try.prog 15 #[.int .i64 room] w fun e w' => e = .returned (.pointer (some ⟨w.heap.size, 0, none⟩)) ∧ DBlk w' w.heap.size (.slice none 0 0) (.slice none 0 0) (.slice none 0 0) (dNew room) ∧ w'.heap.size = w.heap.size + 1 ∧ Chg (fun _ => False) w w' := by
  go_enter Try.func15, Try.ntmps15
  go_wp2
  go_ret
  exact ⟨rfl, heap_alloc_new w _, by simp, (Chg.refl _ w).alloc _⟩
set_option maxRecDepth 100000 in
set_option maxHeartbeats 400000 in
theorem cut_any (w : World) (b : Nat) (vd vs vc : Value) (n : DN) (c : Int) (h : DBlk w b vd vs vc n) :
    Calls Try.prog 26 #[.pointer (some ⟨b, 0, none⟩), .int .i64 c] w fun e w' => e = .returned (.tuple #[]) ∧ DBlk w' b vd vs vc { n with cut := if c > 0 then wrap64 (n.calls + c) else 0 } ∧ Chg (One b) w w' := by
  have h4 := h.c4
  have h5 := h.c5
  have hf := h.fz
  have e1 := hide (h.s5 0)
  have e2 := hide ((h.s5 0).s5 (wrap64 (n.calls + c)))
  have k1 := hide ((Chg.refl (One b) w).setAt rfl 5 (.int .i64 0))
  have k2 := hide (((Chg.refl (One b) w).setAt rfl 5 (.int .i64 0)).setAt rfl 5 (.int .i64 (wrap64 (n.calls + c))))
  clear h
  go_enter Try.func26, Try.ntmps26
  go_wp2
  · go_end0
    exact ⟨rfl, e2.out, k2.out⟩
  · go_end0
    exact ⟨rfl, e1.out, k1.out⟩
def dFail (n : DN) (c p : Int) : DN := { n with fail := if c > 0 then wrap64 (n.calls + c) else 0, part := if p < 0 then wrap64 (-(wrap64 (p + 1))) else p }
set_option maxRecDepth 100000 in
set_option maxHeartbeats 400000 in
theorem fail_any (w : World) (b : Nat) (vd vs vc : Value) (n : DN) (c p : Int) (h : DBlk w b vd vs vc n) :
    Calls Try.prog 29 #[.pointer (some ⟨b, 0, none⟩), .int .i64 c, .int .i64 p] w fun e w' => e = .returned (.tuple #[]) ∧ DBlk w' b vd vs vc (dFail n c p) ∧ Chg (One b) w w' := by
  have h4 := h.c4
  have h6 := h.c6
  have h7 := h.c7
  have hf := h.fz
  have Q : Hid (DBlk w b vd vs vc n) := h
  clear h
  go_enter Try.func29, Try.ntmps29
  go_wp2
  · have h1 : 0 < c := by assumption
    have h2 : p < 0 := by assumption
    go_end0
    have q : dFail n c p = { n with fail := wrap64 (n.calls + c), part := wrap64 (-(wrap64 (p + 1))) } := by simp [dFail, h1, h2]
    rw [q]
    exact ⟨rfl, (((Q.out.s6 0).s6 _).s7 _).s7 _, ((((Chg.refl (One b) w).setAt rfl 6 _).setAt rfl 6 _).setAt rfl 7 _).setAt rfl 7 _⟩
  · have h1 : 0 < c := by assumption
    have h2 : 0 ≤ p := by assumption
    go_end0
    have q : dFail n c p = { n with fail := wrap64 (n.calls + c), part := p } := by simp [dFail, h1]; omega
    rw [q]
    exact ⟨rfl, ((Q.out.s6 0).s6 _).s7 _, (((Chg.refl (One b) w).setAt rfl 6 _).setAt rfl 6 _).setAt rfl 7 _⟩
  · have h1 : c ≤ 0 := by assumption
    have h2 : p < 0 := by assumption
    go_end0
    have q : dFail n c p = { n with fail := 0, part := wrap64 (-(wrap64 (p + 1))) } := by simp [dFail, h2]; omega
    rw [q]
    exact ⟨rfl, ((Q.out.s6 0).s7 _).s7 _, (((Chg.refl (One b) w).setAt rfl 6 _).setAt rfl 7 _).setAt rfl 7 _⟩
  · have h1 : c ≤ 0 := by assumption
    have h2 : 0 ≤ p := by assumption
    go_end0
    have q : dFail n c p = { n with fail := 0, part := p } := by simp [dFail]; omega
    rw [q]
    exact ⟨rfl, (Q.out.s6 0).s7 _, ((Chg.refl (One b) w).setAt rfl 6 _).setAt rfl 7 _⟩
set_option maxRecDepth 100000 in
set_option maxHeartbeats 400000 in
theorem dead_any (w : World) (b : Nat) (vd vs vc : Value) (n : DN) (h : DBlk w b vd vs vc n) :
    Calls Try.prog 27 #[.pointer (some ⟨b, 0, none⟩)] w fun e w' => e = .returned (.bool n.dead) ∧ w = w' := by
  have h4 := h.c10
  go_enter Try.func27, Try.ntmps27
  go_wp2
  go_ret
  exact ⟨rfl, rfl⟩
set_option maxRecDepth 100000 in
set_option maxHeartbeats 400000 in
theorem refused_any (w : World) (b : Nat) (vd vs vc : Value) (n : DN) (h : DBlk w b vd vs vc n) :
    Calls Try.prog 28 #[.pointer (some ⟨b, 0, none⟩)] w fun e w' => e = .returned (.int .i64 n.refused) ∧ w = w' := by
  have h4 := h.c8
  go_enter Try.func28, Try.ntmps28
  go_wp2
  go_ret
  exact ⟨rfl, rfl⟩
set_option maxRecDepth 100000 in
set_option maxHeartbeats 400000 in
theorem fulls_any (w : World) (b : Nat) (vd vs vc : Value) (n : DN) (h : DBlk w b vd vs vc n) :
    Calls Try.prog 30 #[.pointer (some ⟨b, 0, none⟩)] w fun e w' => e = .returned (.int .i64 n.fulls) ∧ w = w' := by
  have h4 := h.c9
  go_enter Try.func30, Try.ntmps30
  go_wp2
  go_ret
  exact ⟨rfl, rfl⟩
/-- What Size answers. -/
def dSize (D : DS) (F : Nat → FC) (name : ByteArray) : Int × Int := match lookup D.dir name with
  | some f => (((F f).1.length : Nat), 0)
  | none => (0, 8)
set_option maxRecDepth 100000 in
set_option maxHeartbeats 400000 in
theorem size_any (w : World) (b : Nat) (D : DS) (F : Nat → FC) (vd vs vc : Value) (vals : List Value) (VB : Nat → Value) (h : RepV w b D F vd vs vc vals VB) (name : ByteArray) :
    Calls Try.prog 18 #[.pointer (some ⟨b, 0, none⟩), .string name] w fun e w' => e = .returned (.tuple #[.int .i64 (dSize D F name).1, .int .i64 (dSize D F name).2]) ∧ w = w' := by
  have hc := h.blk.c0
  obtain ⟨a, cap, rfl, hc1, hc2, hcell⟩ := h.dir.form
  have hd := h.dir
  unfold maxLen at hc2
  rcases lookup_cases D.dir name with ⟨h1, h2⟩ | ⟨k, hk, h1, h2, h3⟩
  · have q : Hid (dSize D F name = (0, 8)) := by unfold Hid dSize; rw [h2]
    have hfi : fidx D.dir name < 0 := by omega
    clear h h1 h2 hcell
    go_enter Try.func18, Try.ntmps18
    go_wp2_with (go_at_call 22; refine (find_any _ _ _ _ hd).mono ?_; rintro e w' ⟨rfl, rfl⟩)
    go_ret2
    rw [q.out]
    exact ⟨rfl, rfl⟩
  · have q : Hid (dSize D F name = ((((F (D.dir[k]'hk).2).1.length : Nat) : Int), 0)) := by unfold Hid dSize; rw [h2]
    obtain ⟨hfb, hbs⟩ := h.dirAt k hk
    obtain ⟨a', cap', hv, _, _⟩ := hbs.form
    rw [hv] at hfb
    have hb0 := hfb.c0
    obtain ⟨g, rfl, hn, hp⟩ := hcell k hk
    clear hv hbs hfb hcell h h2 h3
    have H1 : Hid (fidx D.dir name = k) := h1
    clear h1
    go_enter Try.func18, Try.ntmps18
    go_wp2_with (go_at_call 22; refine (find_any _ _ _ _ hd).mono ?_; rintro e w' ⟨rfl, rfl⟩; rw [H1.out])
    go_ret2
    rw [q.out]
    exact ⟨rfl, rfl⟩
end Go.Proofs.Ytodcnkbblippnaa
