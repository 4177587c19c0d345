/- Walks: Read, Sync. -/
import Derived.Test.YtodcnkbblippnaaDd
namespace Go.Proofs.Ytodcnkbblippnaa
open Go.RowKit
attribute [local go_sem ↓] Go.wp_at_zero Go.wp_at_succ

set_option maxRecDepth 100000 in
set_option maxHeartbeats 1000000 in
theorem read_any (w : World) (b : Nat) (D : DS) (F : Nat → FC) (Ft : Nat → Prop) (h : Rep w b D F Ft) (name : ByteArray) (p n : Int) :
    Calls Try.prog 19 #[.pointer (some ⟨b, 0, none⟩), .string name, .int .i64 p, .int .i64 n] w fun e w' => e = .returned (.tuple #[.string ⟨(dRead D F name p n).1.toArray⟩, .int .i64 (dRead D F name p n).2]) ∧ w = w' := by
  obtain ⟨vd, vs, vc, vals, VB, hr, hft⟩ := h
  have c0 := hr.blk.c0
  have hd := hide hr.dir
  obtain ⟨a, cap, rfl, hc1, hc2, hcell⟩ := hr.dir.form
  unfold maxLen at hc2
  rcases lookup_cases D.dir name with ⟨h1, h2⟩ | ⟨k, hk, h1, h2, h3⟩
  · have q : Hid (dRead D F name p n = ([], 8)) := by unfold Hid dRead; rw [h2]
    have hfi : fidx D.dir name < 0 := by omega
    clear hr h1 h2 hcell
    go_enter Try.func19, Try.ntmps19
    go_wp2_with (go_at_call 22; refine (find_any _ _ _ _ hd.out).mono ?_; rintro e w' ⟨rfl, rfl⟩)
    go_ret2
    rw [q.out]
    exact ⟨rfl, rfl⟩
  · obtain ⟨hfb, hbs⟩ := hr.dirAt k hk
    obtain ⟨a', cap', hv, hl1, hl2⟩ := hbs.form
    unfold maxLen at hl2
    rw [hv] at hfb hbs
    have hb0 := hfb.c0
    have Hbs := hide hbs
    obtain ⟨g, rfl, hn, hp⟩ := hcell k hk
    have H1 := hide h1
    have H2 := hide h2
    clear hv hbs hfb hcell h1 h2 h3 hr
    obtain ⟨bs, hbs⟩ : ∃ bs, (F (D.dir[k]'hk).2).1 = bs := ⟨_, rfl⟩
    have Hb := hide hbs
    rw [hbs] at hb0 hl1 Hbs
    clear hbs
    have hlen : (bs.length : Int) ≤ 9223372036854775807 := by omega
    have q : Hid (dRead D F name p n = if p < 0 ∨ n < 0 ∨ p > bs.length ∨ n > bs.length - p then ([], 9) else ((bs.drop p.toNat).take n.toNat, 0)) := by
      unfold Hid dRead; rw [H2.out]; dsimp only; rw [Hb.out]
    by_cases hok : 0 ≤ p ∧ 0 ≤ n ∧ p ≤ bs.length ∧ n ≤ bs.length - p
    · obtain ⟨o1, o2, o3, o4⟩ := hok
      obtain ⟨p', rfl⟩ := Int.eq_ofNat_of_zero_le o1
      obtain ⟨n', rfl⟩ := Int.eq_ofNat_of_zero_le o2
      have q2 : Hid (dRead D F name p' n' = ((bs.drop p').take n', 0)) := by
        unfold Hid; rw [q.out, if_neg (by omega)]; simp
      clear q
      have o5 : p' ≤ bs.length := by omega
      have o6 : n' ≤ bs.length - p' := by omega
      obtain ⟨_, _, he, _, _, _, hnil, hform⟩ := ownsRow_form Hbs.out
      cases he
      by_cases hcp : cap' = p'
      · have hn0 : n' = 0 := by omega
        subst hn0
        have cv : ∀ (x : Option Addr) (c : Nat), (convert 52 9 (.slice x 0 c)).run Try.prog w = .ok (.string ⟨#[]⟩) w := by
          intro x c
          cases x with
          | none =>
            rw [run_convert_bytes_string (P := Try.prog) w 52 9 5 none 0 c Try.underlying52 Try.underlying5 Try.underlying9]
            rfl
          | some ad => exact run_convert_bytes_back (P := Try.prog) w 52 9 5 ad c [] Try.underlying52 Try.underlying5 Try.underlying9 (by simp)
        subst hcp
        clear hnil hform
        go_enter Try.func19, Try.ntmps19
        go_wp2_with (go_at_call 22; refine (find_any _ _ _ _ hd.out).mono ?_; rintro e w' ⟨rfl, rfl⟩; rw [H1.out])
        go_ret2
        rw [q2.out]
        exact ⟨by simp, rfl⟩
      · obtain ⟨ga, hga⟩ : ∃ ga, a' = some ⟨ga, 0, none⟩ := by
          cases ha : a' with
          | none => have := (hnil ha).2; omega
          | some ad => obtain ⟨g', rfl⟩ := hform ad ha; exact ⟨g', rfl⟩
        subst hga
        have cv : (convert 52 9 (.slice (some ⟨ga, p', none⟩) n' (cap' - p'))).run Try.prog w = .ok (.string ⟨((bs.drop p').take n').toArray⟩) w := by
          have hl : ((bs.drop p').take n').length = n' := by simp; omega
          have := run_convert_bytes_back (P := Try.prog) w 52 9 5 ⟨ga, p', none⟩ (cap' - p') ((bs.drop p').take n') Try.underlying52 Try.underlying5 Try.underlying9 (by
            intro j hj
            have hj' : p' + j < bs.length := by simp at hj; omega
            have hadd : (⟨ga, p', none⟩ : Addr).add j = ⟨ga, p' + j, none⟩ := by unfold Addr.add; split <;> simp_all
            rw [hadd]
            have := ownsRow_cell Hbs.out (g := ga) rfl (j := p' + j) (u := .int .u8 (bs[p' + j]'hj').toNat) (by simp [byteVals, List.getElem?_eq_getElem hj'])
            simpa using this)
          rw [hl] at this; exact this
        clear hnil hform
        go_enter Try.func19, Try.ntmps19
        go_wp2_with (go_at_call 22; refine (find_any _ _ _ _ hd.out).mono ?_; rintro e w' ⟨rfl, rfl⟩; rw [H1.out])
        go_ret2
        rw [q2.out]
        exact ⟨rfl, rfl⟩
    · have q2 : Hid (dRead D F name p n = ([], 9)) := by
        unfold Hid; rw [q.out, if_pos (by omega)]
      clear q
      go_enter Try.func19, Try.ntmps19
      go_wp2_with (go_at_call 22; refine (find_any _ _ _ _ hd.out).mono ?_; rintro e w' ⟨rfl, rfl⟩; rw [H1.out])
      all_goals (go_ret2; rw [q2.out]; exact ⟨rfl, rfl⟩)

/-- One file, turned. -/
theorem RepV.fileUpd {w w' : World} {b : Nat} {D : DS} {F : Nat → FC} {vd vs vc : Value} {vals : List Value} {VB : Nat → Value} {S : Nat → Prop} (h : RepV w b D F vd vs vc vals VB) {f : Nat} (hf : D.ids f) {vb' : Value} {bs' : List UInt8} {s' : Int}
    (h1 : FBlk w' f vb' s') (h2 : BSl w' vb' bs') (hc : Chg S w w') (hS : ∀ k, S k → k = f ∨ (VB f).ownBlock = some k) (hv : ∀ g, vb'.ownBlock = some g → (VB f).ownBlock = some g ∨ w.heap.size ≤ g) :
    RepV w' b D (upd F f (bs', s')) vd vs vc vals (fun x => if x = f then vb' else VB x) := by
  obtain ⟨hf1, hf2⟩ := h.fil f hf
  have hk : ∀ (k : Nat) (c : Array Value) (e : Nat), w.heap[k]? = some (Obj.cells c e (0, 0)) → e ≠ 54 → e ≠ 5 → w'.heap[k]? = w.heap[k]? := fun k c e hk he he2 =>
    hc.block k (lt_of_block hk) (fun hs => by
      rcases hS k hs with hs | hs
      · exact elem_ne hk hf1 he hs
      · obtain ⟨c', hh⟩ := ownsRow_elem hf2 hs
        exact elem_ne hk hh he2 rfl)
  refine ⟨?_, ?_, ?_, ?_, ?_, ?_, ?_⟩
  · have := h.blk; unfold DBlk at this ⊢; rw [hk b _ _ this (by decide) (by decide)]; exact this
  · exact ownsRow_same h.dir fun g hg => by obtain ⟨c, hh⟩ := ownsRow_elem h.dir hg; exact hk g _ _ hh (by decide) (by decide)
  · exact ownsRow_same h.safe fun g hg => by obtain ⟨c, hh⟩ := ownsRow_elem h.safe hg; exact hk g _ _ hh (by decide) (by decide)
  · exact ownsRow_same h.chg fun g hg => by obtain ⟨c, hh⟩ := ownsRow_elem h.chg hg; exact hk g _ _ hh (by decide) (by decide)
  · intro i hi
    obtain ⟨v, h1, h2⟩ := h.che i hi
    exact ⟨v, h1, ownsRow_same h2 fun g hg => by obtain ⟨c, hh⟩ := ownsRow_elem h2 hg; exact hk g _ _ hh (by decide) (by decide)⟩
  · intro f2 hf2'
    by_cases he : f2 = f
    · subst he; simp only [upd, if_true]; exact ⟨h1, h2⟩
    · obtain ⟨g1, g2⟩ := h.fil f2 hf2'
      simp only [upd, he, if_false]
      refine ⟨g1.same (hc.block f2 (lt_of_block g1) (fun hs => ?_)), ownsRow_same g2 fun g hg => hc.block g (ownsRow_lt g2 hg) (fun hs => ?_)⟩
      · rcases hS _ hs with hs | hs
        · exact he hs
        · obtain ⟨c', hh⟩ := ownsRow_elem hf2 hs
          exact elem_ne g1 hh (by decide) rfl
      · rcases hS _ hs with hs | hs
        · obtain ⟨c', hh⟩ := ownsRow_elem g2 hg
          exact elem_ne hh hf1 (by decide) hs
        · exact he (h.inj f2 f g hf2' hf hg hs)
  · have key : ∀ f2 g, D.ids f2 → f2 ≠ f → (VB f2).ownBlock = some g → vb'.ownBlock = some g → False := by
      intro f2 g h3 hne h4 h5
      rcases hv g h5 with h6 | h6
      · exact hne (h.inj f2 f g h3 hf h4 h6)
      · have := ownsRow_lt (h.fil f2 h3).2 h4; omega
    intro f1 f2 g k1 k2 e1 e2
    by_cases a1 : f1 = f <;> by_cases a2 : f2 = f
    · rw [a1, a2]
    · simp only [a1, if_true] at e1; simp only [a2, if_false] at e2
      exact (key f2 g k2 a2 e2 e1).elim
    · simp only [a2, if_true] at e2; simp only [a1, if_false] at e1
      exact (key f1 g k1 a1 e1 e2).elim
    · simp only [a1, if_false] at e1; simp only [a2, if_false] at e2
      exact h.inj f1 f2 g k1 k2 e1 e2
theorem Foot.fileUpd {b : Nat} {D : DS} {vd vs vc : Value} {vals : List Value} {VB : Nat → Value} {f : Nat} {vb' : Value} {N : Nat} (hf : D.ids f) (hv : ∀ g, vb'.ownBlock = some g → (VB f).ownBlock = some g ∨ N ≤ g) {k : Nat}
    (h : Foot b D vd vs vc vals (fun x => if x = f then vb' else VB x) k) : Foot b D vd vs vc vals VB k ∨ N ≤ k := by
  cases h using Foot.elim with
  | blk => exact .inl .blk
  | dir e => exact .inl (.dir e)
  | safe e => exact .inl (.safe e)
  | chg e => exact .inl (.chg e)
  | che h e => exact .inl (.che h e)
  | fil h => exact .inl (.fil h)
  | byt h e =>
    rename_i f2
    by_cases he : f2 = f
    · simp only [he, if_true] at e
      rcases hv k e with h | h
      · exact .inl (.byt hf h)
      · exact .inr h
    · simp only [he, if_false] at e
      exact .inl (.byt h e)

/-- What lies where a name was found. -/
theorem RepV.at_ {w : World} {b : Nat} {D : DS} {F : Nat → FC} {vd vs vc : Value} {vals : List Value} {VB : Nat → Value} (h : RepV w b D F vd vs vc vals VB) (k : Nat) (hk : k < D.dir.length) :
    ∃ g cap a' cap', vd = .slice (some ⟨g, 0, none⟩) D.dir.length cap ∧ VB (D.dir[k]'hk).2 = .slice a' (F (D.dir[k]'hk).2).1.length cap' ∧ D.dir.length ≤ cap ∧ cap ≤ maxLen ∧ (F (D.dir[k]'hk).2).1.length ≤ cap' ∧ cap' ≤ maxLen := by
  obtain ⟨a, cap, hv, h1, h2, hc⟩ := h.dir.form
  obtain ⟨g, rfl, _, _⟩ := hc k hk
  obtain ⟨a', cap', h3, h4, h5⟩ := (h.dirAt k hk).2.form
  exact ⟨g, cap, a', cap', hv, h3, h1, h2, h4, h5⟩
structure AtK (w : World) (b : Nat) (g k f n cap l cap' : Nat) (a' : Option Addr) (name : ByteArray) (safe : Int) : Prop where
  d : w.cell? ⟨b, 0, none⟩ = some (.slice (some ⟨g, 0, none⟩) n cap)
  n : w.cell? ⟨g, k * 2, none⟩ = some (.string name)
  p : w.cell? ⟨g, k * 2 + 1, none⟩ = some (.pointer (some ⟨f, 0, none⟩))
  f0 : w.cell? ⟨f, 0, none⟩ = some (.slice a' l cap')
  f1 : w.cell? ⟨f, 1, none⟩ = some (.int .i64 safe)
  fz : ∀ o, w.frozen? ⟨f, o, none⟩ = false
  gf : ¬ g = f
  fg : ¬ f = g
  gb : ¬ g = b
  bg : ¬ b = g
  fb : ¬ f = b
  bf : ¬ b = f
theorem RepV.atK {w : World} {b : Nat} {D : DS} {F : Nat → FC} {vd vs vc : Value} {vals : List Value} {VB : Nat → Value} (h : RepV w b D F vd vs vc vals VB) (k : Nat) (hk : k < D.dir.length) {g cap cap' : Nat} {a' : Option Addr}
    (h1 : vd = .slice (some ⟨g, 0, none⟩) D.dir.length cap) (h2 : VB (D.dir[k]'hk).2 = .slice a' (F (D.dir[k]'hk).2).1.length cap') :
    AtK w b g k (D.dir[k]'hk).2 D.dir.length cap (F (D.dir[k]'hk).2).1.length cap' a' (D.dir[k]'hk).1 (F (D.dir[k]'hk).2).2 := by
  subst h1
  obtain ⟨hf, hb⟩ := h.dirAt k hk
  rw [h2] at hf
  obtain ⟨c, hh⟩ := ownsRow_elem h.dir (g := g) rfl
  exact ⟨h.blk.c0, ownsRow_cell h.dir rfl (entVals_name _ k hk), ownsRow_cell h.dir rfl (entVals_ptr _ k hk), hf.c0, hf.c1, hf.fz, fun e => elem_ne hh hf (by decide) e, fun e => elem_ne hh hf (by decide) e.symm,
    fun e => elem_ne hh h.blk (by decide) e, fun e => elem_ne hh h.blk (by decide) e.symm, fun e => elem_ne hf h.blk (by decide) e, fun e => elem_ne hf h.blk (by decide) e.symm⟩
end Go.Proofs.Ytodcnkbblippnaa
