/- Walk: Sync. -/
import Derived.Test.YtodcnkbblippnaaDh
import Derived.Deep.RegionHeld3
import Derived.Deep.DrawnRows
namespace Go.Proofs.Ytodcnkbblippnaa
open Go.RowKit
attribute [local go_sem ↓] Go.wp_at_zero Go.wp_at_succ

/-- Sync. -/
def dSync (D : DS) (F : Nat → FC) (name : ByteArray) : Int × DS × (Nat → FC) := match lookup D.dir name with
  | none => (8, D, F)
  | some f => ((bg D.n).2.1, { D with n := (bg D.n).2.2 }, if (bg D.n).2.1 = 0 then upd F f ((F f).1, (F f).1.length) else F)
set_option maxRecDepth 100000 in
set_option maxHeartbeats 1000000 in
theorem sync_any (w : World) (b : Nat) (D : DS) (F : Nat → FC) (Ft : Nat → Prop) (h : Rep w b D F Ft) (name : ByteArray) :
    Calls Try.prog 17 #[.pointer (some ⟨b, 0, none⟩), .string name] w fun e w' => e = .returned (.int .i64 (dSync D F name).1) ∧ After w Ft w' b (dSync D F name).2.1 (dSync D F name).2.2 := by
  obtain ⟨vd, vs, vc, vals, VB, hr, hft⟩ := h
  have c0 := hr.blk.c0
  have hd := hide hr.dir
  have hbk := hide hr.blk
  have HR := hide hr
  rcases lookup_cases D.dir name with ⟨h1, h2⟩ | ⟨k, hk, h1, h2, h3⟩
  · have q : Hid (dSync D F name = (8, D, F)) := by unfold Hid dSync; rw [h2]
    have hfi : fidx D.dir name < 0 := by omega
    clear hr h1 h2
    go_enter Try.func17, Try.ntmps17
    go_wp2_with (go_at_call 22; refine (find_any _ _ _ _ hd.out).mono ?_; rintro e w' ⟨rfl, rfl⟩)
    go_ret
    rw [q.out]
    exact ⟨rfl, After.mk' (Chg.refl _ _) HR.out fun k hk => .inl (hft k hk)⟩
  · have q : Hid (dSync D F name = ((bg D.n).2.1, { D with n := (bg D.n).2.2 }, if (bg D.n).2.1 = 0 then upd F (D.dir[k]'hk).2 ((F (D.dir[k]'hk).2).1, (F (D.dir[k]'hk).2).1.length) else F)) := by unfold Hid dSync; rw [h2]
    have H1 := hide h1
    clear hr h1 h2 h3
    by_cases hdo : (bg D.n).2.1 = 0
    · have hdo' : ((bg D.n).2.1 == 0) = true := by simpa using hdo
      have hdo2 : Hid ((bg D.n).2.1 = 0) := hdo
      clear hdo
      have hk0 : (0 : Int) ≤ (k : Int) := Int.natCast_nonneg _
      have hk1 : (k : Int) < (D.dir.length : Int) := by omega
      obtain ⟨g, cap, a', cap', rfl, hv, z1, z2, z3, z4⟩ := HR.out.at_ k hk
      have Hv := hide hv
      unfold maxLen at z2 z4
      clear hv
      obtain ⟨f, hf⟩ : ∃ f, (D.dir[k]'hk).2 = f := ⟨_, rfl⟩
      have hids : Hid (D.ids f) := .inl ⟨_, List.getElem_mem hk, hf⟩
      have fin : Hid (∀ w1, DBlk w1 b (.slice (some ⟨g, 0, none⟩) D.dir.length cap) vs vc (bg D.n).2.2 → Chg (One b) w w1 → AtK w1 b g k f D.dir.length cap (F f).1.length cap' a' (D.dir[k]'hk).1 (F f).2 ∧
          After w Ft (w1.setCell ⟨f, 1, none⟩ (.int .i64 (F f).1.length)).drew b { D with n := (bg D.n).2.2 } (upd F f ((F f).1, (F f).1.length))) := by
        intro w1 hb1 hc1
        have r1 := HR.out.turn hb1 hc1
        subst hf
        refine ⟨r1.atK k hk rfl Hv.out, ?_⟩
        obtain ⟨hf1, hf2⟩ := r1.dirAt k hk
        have r2 := r1.fileUpd (S := One (D.dir[k]'hk).2) (w' := (w1.setCell ⟨(D.dir[k]'hk).2, 1, none⟩ (.int .i64 (F (D.dir[k]'hk).2).1.length)).drew) (f := (D.dir[k]'hk).2) hids.out (vb' := VB (D.dir[k]'hk).2) (bs' := (F (D.dir[k]'hk).2).1) (s' := (F (D.dir[k]'hk).2).1.length)
          (hf1.s1 _) (by
            refine ownsRow_setCell_other hf2 (a := ⟨(D.dir[k]'hk).2, 1, none⟩) ?_ _
            intro e; obtain ⟨c, hh⟩ := ownsRow_elem hf2 e
            exact elem_ne hh hf1 (by decide) rfl) (((Chg.refl (One _) w1).setAt rfl 1 _).drew) (fun k hk => .inl hk) (fun g hg => .inl hg)
        refine After.mk' ?_ r2 ?_
        · exact ((hc1.mono (S' := Ft) fun k _ hk => by cases hk; exact hft b .blk).setAt (hft _ (.fil hids.out)) 1 _).drew
        · intro x hx
          rcases Foot.fileUpd (N := w.heap.size) (vb' := VB (D.dir[k]'hk).2) (f := (D.dir[k]'hk).2) hids.out (fun g hg => .inl hg) hx.n with h | h
          · exact .inl (hft x h)
          · exact .inr h
      rw [hf] at q
      have Hf := hide hf
      clear hf Hv
      go_enter Try.func17, Try.ntmps17
      go_wp2_with (first
        | (go_at_call 22; refine (find_any _ _ _ _ hd.out).mono ?_; rintro e w' ⟨rfl, rfl⟩; rw [H1.out])
        | (go_at_call 23; refine (begins_any _ _ _ _ _ _ hbk.out).mono ?_; rintro e w1 ⟨rfl, hb1, hc1⟩))
      obtain ⟨hat, haf⟩ := fin.out w1 hb1 hc1
      have HA := hide haf
      have x1 := hat.d
      have x2 := hat.p
      have x3 := hat.f0
      have x4 := hat.f1
      have x5 := hat.fz
      have x6 := hat.gf
      have x7 := hat.fg
      clear haf hat
      go_region_held3 (fun w' => w'.cell? ⟨b, 0, none⟩ = some (.slice (some ⟨g, 0, none⟩) D.dir.length cap) ∧ w'.cell? ⟨g, k * 2 + 1, none⟩ = some (.pointer (some ⟨f, 0, none⟩)) ∧ w'.cell? ⟨f, 0, none⟩ = some (.slice a' (F f).1.length cap')) (refine ⟨?_, ?_, ?_⟩ <;> go_simp) (fail)
      go_wp2
      go_ret
      rw [q.out, if_pos hdo2.out]
      exact ⟨rfl, HA.out⟩
    · have hdo' : ((bg D.n).2.1 == 0) = false := by simpa using hdo
      have hdo2 : Hid ((bg D.n).2.1 ≠ 0) := hdo
      clear hdo
      go_enter Try.func17, Try.ntmps17
      go_wp2_with (first
        | (go_at_call 22; refine (find_any _ _ _ _ hd.out).mono ?_; rintro e w' ⟨rfl, rfl⟩; rw [H1.out])
        | (go_at_call 23; refine (begins_any _ _ _ _ _ _ hbk.out).mono ?_; rintro e w1 ⟨rfl, hb1, hc1⟩))
      go_ret
      rw [q.out, if_neg hdo2.out]
      exact ⟨rfl, HR.out.afterN hft hb1 hc1⟩
end Go.Proofs.Ytodcnkbblippnaa
