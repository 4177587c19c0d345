/- Walks: SyncDir, Used, Read. -/
import Derived.Test.YtodcnkbblippnaaDe
namespace Go.Proofs.Ytodcnkbblippnaa
open Go.RowKit
attribute [local go_sem ↓] Go.wp_at_zero Go.wp_at_succ

/-- SyncDir. -/
def dSyncDir (D : DS) : Int × DS :=
  ((bg D.n).2.1, if (bg D.n).2.1 = 0 then { D with safe := D.dir, changes := [], n := (bg D.n).2.2 } else { D with n := (bg D.n).2.2 })
theorem RepV.syncDir {w w' : World} {b : Nat} {D : DS} {F : Nat → FC} {vd vs vc : Value} {vals : List Value} {VB : Nat → Value} (h : RepV w b D F vd vs vc vals VB)
    (hb : DBlk w' b vd vd (.slice none 0 0) D.n) (hc : Chg (One b) w w') : RepV w' b { D with safe := D.dir, changes := [] } F vd vd (.slice none 0 0) [] VB := by
  have hk : ∀ (k : Nat) (c : Array Value) (e : Nat), w.heap[k]? = some (Obj.cells c e (0, 0)) → e ≠ 45 → w'.heap[k]? = w.heap[k]? := fun k c e hk he =>
    hc.block k (lt_of_block hk) (elem_ne hk h.blk he)
  have hd : EntSl w' vd D.dir := ownsRow_same h.dir fun g hg => by obtain ⟨c, hh⟩ := ownsRow_elem h.dir hg; exact hk g _ _ hh (by decide)
  have hids : ∀ f, ({ D with safe := D.dir, changes := [] } : DS).ids f → D.ids f := by
    rintro f (hf | hf | ⟨c, hcm, hf⟩)
    · exact .inl hf
    · exact .inl hf
    · cases hcm
  refine ⟨hb, hd, hd, World.ownsRow_nil _ _ _ _, fun i hi => by simp at hi, fun f hf => ?_, fun f f' g hf hf' => h.inj f f' g (hids f hf) (hids f' hf')⟩
  obtain ⟨h1, h2⟩ := h.fil f (hids f hf)
  refine ⟨?_, ownsRow_same h2 fun g hg => by obtain ⟨c, hh⟩ := ownsRow_elem h2 hg; exact hk g _ _ hh (by decide)⟩
  unfold FBlk at h1 ⊢; rw [hk f _ _ h1 (by decide)]; exact h1
set_option maxRecDepth 100000 in
set_option maxHeartbeats 1000000 in
theorem syncDir_any (w : World) (b : Nat) (D : DS) (F : Nat → FC) (Ft : Nat → Prop) (h : Rep w b D F Ft) :
    Calls Try.prog 16 #[.pointer (some ⟨b, 0, none⟩)] w fun e w' => e = .returned (.int .i64 (dSyncDir D).1) ∧ After w Ft w' b (dSyncDir D).2 F := by
  obtain ⟨vd, vs, vc, vals, VB, hr, hft⟩ := h
  obtain ⟨ad, cap, rfl, _⟩ := hr.dir.form
  have HR := hide hr
  have hbk := hide hr.blk
  clear hr
  by_cases hdo : (bg D.n).2.1 = 0
  · have q : Hid (dSyncDir D = (0, { D with safe := D.dir, changes := [], n := (bg D.n).2.2 })) := by unfold Hid dSyncDir; rw [if_pos hdo, hdo]
    have hdo' : ((bg D.n).2.1 == 0) = true := by simpa using hdo
    have hdo2 : Hid ((bg D.n).2.1 = 0) := hdo
    clear hdo
    go_enter Try.func16, Try.ntmps16
    go_wp2_with (go_at_call 23; refine (begins_any _ _ _ _ _ _ hbk.out).mono ?_; rintro e w1 ⟨rfl, hb1, hc1⟩; have c01 := hb1.c0; have c11 := hb1.c1; have c21 := hb1.c2; have hf1 := hb1.fz)
    go_ret
    refine ⟨by rw [q.out]; simp [hdo2.out], ?_⟩
    rw [q.out]
    have r1 := HR.out.turn hb1 hc1
    have r2 := r1.syncDir ((hb1.s1 _).s2 (.slice none 0 0)) (((Chg.refl (One b) w1).setAt rfl 1 _).setAt rfl 2 (.slice none 0 0))
    refine After.mk' ?_ r2 ?_
    · exact (((hc1.mono (S' := Ft) fun k _ hk => by cases hk; exact hft b .blk)).setAt (hft b .blk) 1 _).setAt (hft b .blk) 2 _
    · intro k hk
      left
      cases hk using Foot.elim with
      | blk => exact hft _ .blk
      | dir e => exact hft _ (.dir e)
      | safe e => exact hft _ (.dir e)
      | chg e => simp [Value.ownBlock] at e
      | che hm e => cases hm
      | fil hf =>
        rcases hf with hf | hf | ⟨c, hcm, _⟩
        · exact hft _ (.fil (.inl hf))
        · exact hft _ (.fil (.inl hf))
        · cases hcm
      | byt hf e =>
        rcases hf with hf | hf | ⟨c, hcm, _⟩
        · exact hft _ (.byt (.inl hf) e)
        · exact hft _ (.byt (.inl hf) e)
        · cases hcm
  · have q : Hid (dSyncDir D = ((bg D.n).2.1, { D with n := (bg D.n).2.2 })) := by unfold Hid dSyncDir; rw [if_neg hdo]
    have hdo' : ((bg D.n).2.1 == 0) = false := by simpa using hdo
    clear hdo
    go_enter Try.func16, Try.ntmps16
    go_wp2_with (go_at_call 23; refine (begins_any _ _ _ _ _ _ hbk.out).mono ?_; rintro e w1 ⟨rfl, hb1, hc1⟩)
    go_ret
    refine ⟨by rw [q.out]; rfl, ?_⟩
    rw [q.out]
    exact HR.out.afterN hft hb1 hc1

/-- Used: all bytes of all files of the directory. -/
def usedL (F : Nat → FC) : List Ent → Nat
  | [] => 0
  | e :: r => (F e.2).1.length + usedL F r
theorem usedL_append (F : Nat → FC) (a c : List Ent) : usedL F (a ++ c) = usedL F a + usedL F c := by
  induction a with
  | nil => simp [usedL]
  | cons e r ih => simp [usedL, ih]; omega
theorem usedL_take (F : Nat → FC) (es : List Ent) (k : Nat) (hk : k < es.length) : usedL F (es.take (k + 1)) = usedL F (es.take k) + (F (es[k]'hk).2).1.length := by
  rw [List.take_succ_eq_append_getElem hk, usedL_append]; simp [usedL]
theorem usedL_take_le (F : Nat → FC) (es : List Ent) (k : Nat) : usedL F (es.take k) ≤ usedL F es := by
  conv => rhs; rw [← List.take_append_drop k es]
  rw [usedL_append]; omega
set_option maxRecDepth 100000 in
set_option maxHeartbeats 1000000 in
theorem used_any (w : World) (b : Nat) (D : DS) (F : Nat → FC) (Ft : Nat → Prop) (h : Rep w b D F Ft) (hu : usedL F D.dir ≤ 4611686018427387904) :
    Calls Try.prog 20 #[.pointer (some ⟨b, 0, none⟩)] w fun e w' => e = .returned (.int .i64 (usedL F D.dir)) ∧ Chg (fun _ => False) w w' := by
  obtain ⟨vd, vs, vc, vals, VB, hr, hft⟩ := h
  have c0 := hr.blk.c0
  have hlt := hr.blk.lt
  obtain ⟨a, cap, rfl, hc1, hc2, hcell⟩ := hr.dir.form
  unfold maxLen at hc2
  have HR := hide hr
  clear hr
  go_enter Try.func20, Try.ntmps20
  go_wp2
  go_loopw [3, 11] (fun t i wr => ∃ k : Nat, k ≤ D.dir.length ∧ i = .int .i64 k ∧ t = .int .i64 (usedL F (D.dir.take k)) ∧ Chg (fun _ => False) w wr) (fun _ i _ => D.dir.length - (intOf i).toNat)
  case atStart => exact ⟨0, Nat.zero_le _, rfl, by simp [usedL], Chg.refl _ _⟩
  case round =>
    obtain ⟨k, hk, rfl, rfl, hcr⟩ := hrel
    by_cases hlk : k < D.dir.length
    · obtain ⟨g, rfl, hn, hp⟩ := hcell k hlk
      obtain ⟨hfb, hbs⟩ := HR.out.dirAt k hlk
      obtain ⟨a', cap', hv, _, _⟩ := hbs.form
      rw [hv] at hfb
      have hgl : g < w.heap.size := World.block_lt_of_cell? w _ hn
      have hfl := lt_of_block hfb
      have hn' : wr.cell? ⟨g, k * 2, none⟩ = some (.string (D.dir[k]'hlk).1) := (World.cell?_of_block (hcr.block g hgl (fun h => h))).trans hn
      have hp' : wr.cell? ⟨g, k * 2 + 1, none⟩ = some (.pointer (some ⟨(D.dir[k]'hlk).2, 0, none⟩)) := (World.cell?_of_block (hcr.block g hgl (fun h => h))).trans hp
      have hb0 : wr.cell? ⟨(D.dir[k]'hlk).2, 0, none⟩ = some (.slice a' (F (D.dir[k]'hlk).2).1.length cap') := (World.cell?_of_block (hcr.block _ hfl (fun h => h))).trans hfb.c0
      have hsz := hcr.size
      have hflr : (D.dir[k]'hlk).2 < wr.heap.size := by omega
      have hgr : g < wr.heap.size := by omega
      have ht := hide (usedL_take F D.dir k hlk)
      have hle := usedL_take_le F D.dir (k + 1)
      rw [usedL_take F D.dir k hlk] at hle
      clear hn hp hfb hv hbs hcell
      go_wp2
      go_roundw
      case rel => exact ⟨k + 1, by omega, by go_num, by rw [ht.out]; go_num, hcr.alloc _⟩
      case measure => simp [intOf]; omega
    · have hfin : D.dir.take k = D.dir := List.take_of_length_le (by omega)
      have Hfin := hide hfin
      clear hfin hcell
      go_wp2
      go_ret
      exact ⟨by rw [Hfin.out]; rfl, hcr⟩
/-- What Read answers. -/
def dRead (D : DS) (F : Nat → FC) (name : ByteArray) (at_ n : Int) : List UInt8 × Int := match lookup D.dir name with
  | some f => if at_ < 0 ∨ n < 0 ∨ at_ > (F f).1.length ∨ n > (F f).1.length - at_ then ([], 9) else (((F f).1.drop at_.toNat).take n.toNat, 0)
  | none => ([], 8)
end Go.Proofs.Ytodcnkbblippnaa
