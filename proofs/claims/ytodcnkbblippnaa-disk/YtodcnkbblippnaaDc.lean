/- Walks: turned, SyncDir, Sync, Used, Read. -/
import Derived.Test.YtodcnkbblippnaaDb
import Derived.Deep.RegionHeld3
import Derived.Deep.DrawnRows
namespace Go.Proofs.Ytodcnkbblippnaa
open Go.RowKit
attribute [local go_sem ↓] Go.wp_at_zero Go.wp_at_succ

set_option maxRecDepth 100000 in
set_option maxHeartbeats 400000 in
theorem turned_any (w : World) (b : Nat) (vd vs vc : Value) (n : DN) (m : Nat) (vals : List Value) (a : Option Addr) (len cap : Nat) (h : DBlk w b vd vs vc n) (hc : w.ownsRow 0 47 1 vc m vals) (hm : m < 1099511627776) :
    Calls Try.prog 24 #[.pointer (some ⟨b, 0, none⟩), .slice a len cap] w fun e w' => e = .returned (.tuple #[]) ∧
      ∃ vc', DBlk w' b (.slice a len cap) vs vc' n ∧ w'.ownsRow 0 47 1 vc' (m + 1) (vals ++ [.slice a len cap]) ∧ Chg (fun k => k = b ∨ vc.ownBlock = some k) w w' ∧ (∀ g, vc'.ownBlock = some g → vc.ownBlock = some g ∨ w.heap.size ≤ g) := by
  obtain ⟨i0, hi, hz0, hz1, hz2⟩ := info_parts Try.infoChange
  have h2 := h.c2
  have h0 := h.c0
  have hf := h.fz
  have hlt := h.lt
  have hne : vc.ownBlock ≠ some b := by
    intro e; obtain ⟨c, hh⟩ := ownsRow_elem hc e
    exact elem_ne hh h (by decide) rfl
  have hs := hide (h.s0 (.slice a len cap))
  have how := hide ((ownsRow_setCell_other hc (a := ⟨b, 0, none⟩) hne (.slice a len cap)).alloc (.cells #[.slice a len cap] 47))
  have hsrc := hide (Src.ofNew (size := 1) Try.underlying43 (w.setCell ⟨b, 0, none⟩ (.slice a len cap)) #[.slice a len cap] 47 w.heap.size (by simp) 1 1 rfl (by simp [Value.oneCell']))
  have hc1 := hide (((Chg.refl (fun k => k = b ∨ vc.ownBlock = some k) w).setAt (.inl rfl) 0 (.slice a len cap)).alloc (.cells #[.slice a len cap] 47))
  clear h hc
  have Hne : Hid (vc.ownBlock ≠ some b) := hne
  clear hne
  go_enter Try.func24, Try.ntmps24
  go_wp2_with (at_builtin; go_loud (refine wpList_app rfl (.tmp 12) (.tmp 15) 43 43 rfl 47 i0 _ 1 24 Try.underlying43 hi hz0 hz1 hz2 rfl (by decide) vc m vals (by rfl) how.out _ 1 _ (by rfl) hsrc.out (by omega) ?_); intro a2 cap2 w1 hA; have hd1 := (hs.out.alloc _).grown hA.grown Hne.out; have h21 := hd1.c2; have hf1 := hd1.fz)
  go_end0
  refine ⟨rfl, _, hd1.s2 _, ?_, ?_, ?_⟩
  · refine ownsRow_setCell_other hA.own (a := ⟨b, 2, none⟩) ?_ _
    intro e; obtain ⟨c, hh⟩ := ownsRow_elem hA.own e
    exact elem_ne hh hd1 (by decide) rfl
  · exact (hc1.out.grown hA.grown (fun k hk _ => .inr hk)).setAt (.inl rfl) 2 _
  · intro g hg
    rcases hA.at_ with h | h
    · exact .inl (h.symm.trans hg)
    · right; rw [hg] at h; cases h; simp
end Go.Proofs.Ytodcnkbblippnaa
