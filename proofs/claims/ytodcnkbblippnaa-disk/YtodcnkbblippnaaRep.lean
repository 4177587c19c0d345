/- A whole disk in memory: 'RepV' (with all that is there by name), 'Rep' (without). No walk. -/
import Derived.Test.YtodcnkbblippnaaApp
import Derived.Test.YtodcnkbblippnaaMem
namespace Go.Proofs.Ytodcnkbblippnaa
open Go.RowKit

structure DS where
  dir : List Ent
  safe : List Ent
  changes : List (List Ent)
  n : DN
/-- A file: its bytes, how many of them are safe. -/
abbrev FC := List UInt8 × Int
def inEnts (f : Nat) (es : List Ent) : Prop := ∃ e ∈ es, e.2 = f
/-- Files that the disk can reach. -/
def DS.ids (D : DS) (f : Nat) : Prop := inEnts f D.dir ∨ inEnts f D.safe ∨ ∃ c ∈ D.changes, inEnts f c
structure RepV (w : World) (b : Nat) (D : DS) (F : Nat → FC) (vd vs vc : Value) (vals : List Value) (VB : Nat → Value) : Prop where
  blk : DBlk w b vd vs vc D.n
  dir : EntSl w vd D.dir
  safe : EntSl w vs D.safe
  chg : w.ownsRow 0 47 1 vc D.changes.length vals
  che : ∀ i (h : i < D.changes.length), ∃ v, vals[i]? = some v ∧ EntSl w v (D.changes[i]'h)
  fil : ∀ f, D.ids f → FBlk w f (VB f) (F f).2 ∧ BSl w (VB f) (F f).1
  inj : ∀ f f' g, D.ids f → D.ids f' → (VB f).ownBlock = some g → (VB f').ownBlock = some g → f = f'
/-- The blocks of the disk. -/
def Foot (b : Nat) (D : DS) (vd vs vc : Value) (vals : List Value) (VB : Nat → Value) (k : Nat) : Prop :=
  k = b ∨ vd.ownBlock = some k ∨ vs.ownBlock = some k ∨ vc.ownBlock = some k ∨ (∃ v ∈ vals, v.ownBlock = some k) ∨ D.ids k ∨ ∃ f, D.ids f ∧ (VB f).ownBlock = some k
section
variable {b : Nat} {D : DS} {vd vs vc : Value} {vals : List Value} {VB : Nat → Value}
theorem Foot.blk : Foot b D vd vs vc vals VB b := .inl rfl
theorem Foot.dir {k : Nat} (h : vd.ownBlock = some k) : Foot b D vd vs vc vals VB k := .inr (.inl h)
theorem Foot.safe {k : Nat} (h : vs.ownBlock = some k) : Foot b D vd vs vc vals VB k := .inr (.inr (.inl h))
theorem Foot.chg {k : Nat} (h : vc.ownBlock = some k) : Foot b D vd vs vc vals VB k := .inr (.inr (.inr (.inl h)))
theorem Foot.che {k : Nat} {v : Value} (hv : v ∈ vals) (h : v.ownBlock = some k) : Foot b D vd vs vc vals VB k := .inr (.inr (.inr (.inr (.inl ⟨v, hv, h⟩))))
theorem Foot.fil {f : Nat} (h : D.ids f) : Foot b D vd vs vc vals VB f := .inr (.inr (.inr (.inr (.inr (.inl h)))))
theorem Foot.byt {f k : Nat} (hf : D.ids f) (h : (VB f).ownBlock = some k) : Foot b D vd vs vc vals VB k := .inr (.inr (.inr (.inr (.inr (.inr ⟨f, hf, h⟩)))))
theorem Foot.elim {motive : (k : Nat) → Foot b D vd vs vc vals VB k → Prop} (blk : motive b .blk) (dir : ∀ {k} (e : vd.ownBlock = some k), motive k (.dir e)) (safe : ∀ {k} (e : vs.ownBlock = some k), motive k (.safe e)) (chg : ∀ {k} (e : vc.ownBlock = some k), motive k (.chg e))
    (che : ∀ {k v} (hv : v ∈ vals) (e : v.ownBlock = some k), motive k (.che hv e)) (fil : ∀ {f} (h : D.ids f), motive f (.fil h)) (byt : ∀ {f k} (hf : D.ids f) (e : (VB f).ownBlock = some k), motive k (.byt hf e)) {k : Nat} (t : Foot b D vd vs vc vals VB k) : motive k t := by
  rcases t with rfl | e | e | e | ⟨v, hv, e⟩ | h | ⟨f, hf, e⟩
  · exact blk
  · exact dir e
  · exact safe e
  · exact chg e
  · exact che hv e
  · exact fil h
  · exact byt hf e
end
def Rep (w : World) (b : Nat) (D : DS) (F : Nat → FC) (Ft : Nat → Prop) : Prop :=
  ∃ vd vs vc vals VB, RepV w b D F vd vs vc vals VB ∧ ∀ k, Foot b D vd vs vc vals VB k → Ft k

section
variable {w w' : World} {b : Nat} {D : DS} {F : Nat → FC} {vd vs vc : Value} {vals : List Value} {VB : Nat → Value}
theorem RepV.vals_length (h : RepV w b D F vd vs vc vals VB) : vals.length = D.changes.length := by have := h.chg.1; omega
theorem RepV.lt (h : RepV w b D F vd vs vc vals VB) {k : Nat} (hk : Foot b D vd vs vc vals VB k) : k < w.heap.size := by
  cases hk using Foot.elim with
  | blk => exact lt_of_block h.blk
  | dir e => exact ownsRow_lt h.dir e
  | safe e => exact ownsRow_lt h.safe e
  | chg e => exact ownsRow_lt h.chg e
  | che hv e =>
    obtain ⟨i, hi⟩ := List.getElem?_of_mem hv
    have hl : i < D.changes.length := by rw [← h.vals_length]; exact (List.getElem?_eq_some_iff.1 hi).1
    obtain ⟨v', h1, h2⟩ := h.che i hl
    rw [hi] at h1; cases h1
    exact ownsRow_lt h2 e
  | fil hf => exact lt_of_block (h.fil _ hf).1
  | byt hf e => exact ownsRow_lt (h.fil _ hf).2 e
/-- The reading hangs on the disk's blocks alone. -/
theorem RepV.frame (h : RepV w b D F vd vs vc vals VB) (hs : Same (Foot b D vd vs vc vals VB) w w') : RepV w' b D F vd vs vc vals VB := by
  refine ⟨?_, ?_, ?_, ?_, ?_, ?_, h.inj⟩
  · have := h.blk; unfold DBlk at this ⊢; rw [hs b .blk]; exact this
  · exact ownsRow_same h.dir fun g hg => hs g (.dir hg)
  · exact ownsRow_same h.safe fun g hg => hs g (.safe hg)
  · exact ownsRow_same h.chg fun g hg => hs g (.chg hg)
  · intro i hi
    obtain ⟨v, h1, h2⟩ := h.che i hi
    exact ⟨v, h1, ownsRow_same h2 fun g hg => hs g (.che (List.mem_of_getElem? h1) hg)⟩
  · intro f hf
    obtain ⟨h1, h2⟩ := h.fil f hf
    refine ⟨?_, ownsRow_same h2 fun g hg => hs g (.byt hf hg)⟩
    unfold FBlk at h1 ⊢; rw [hs f (.fil hf)]; exact h1
theorem Rep.frame {Ft : Nat → Prop} (h : Rep w b D F Ft) (hs : Same Ft w w') : Rep w' b D F Ft := by
  obtain ⟨vd, vs, vc, vals, VB, hr, hf⟩ := h
  exact ⟨vd, vs, vc, vals, VB, hr.frame (hs.mono hf), hf⟩
theorem Rep.mono {Ft Ft' : Nat → Prop} (h : Rep w b D F Ft) (hs : ∀ k, Ft k → Ft' k) : Rep w b D F Ft' := by
  obtain ⟨vd, vs, vc, vals, VB, hr, hf⟩ := h
  exact ⟨vd, vs, vc, vals, VB, hr, fun k hk => hs k (hf k hk)⟩
theorem Rep.F_congr {Ft : Nat → Prop} {F' : Nat → FC} (h : Rep w b D F Ft) (hF : ∀ f, D.ids f → F' f = F f) : Rep w b D F' Ft := by
  obtain ⟨vd, vs, vc, vals, VB, hr, hf⟩ := h
  exact ⟨vd, vs, vc, vals, VB, ⟨hr.blk, hr.dir, hr.safe, hr.chg, hr.che, fun f hh => by rw [hF f hh]; exact hr.fil f hh, hr.inj⟩, hf⟩
/-- Blocks of different elements are different. -/
theorem elem_ne {w : World} {g k : Nat} {c c' : Array Value} {e e' : Nat} (h : w.heap[g]? = some (.cells c e (0, 0))) (h' : w.heap[k]? = some (.cells c' e' (0, 0))) (hne : e ≠ e') : g ≠ k := by
  intro he; subst he; rw [h] at h'; cases h'; exact hne rfl
theorem RepV.dir_ne (h : RepV w b D F vd vs vc vals VB) {g : Nat} (hg : vd.ownBlock = some g) : ∃ c, w.heap[g]? = some (.cells c 50 (0, 0)) := ownsRow_elem h.dir hg
/-- What is in a block of entries. -/
theorem RepV.ent (h : RepV w b D F vd vs vc vals VB) {g : Nat} : (vd.ownBlock = some g ∨ vs.ownBlock = some g ∨ ∃ v ∈ vals, v.ownBlock = some g) → ∃ c, w.heap[g]? = some (.cells c 50 (0, 0)) := by
  rintro (hg | hg | ⟨v, hv, hg⟩)
  · exact ownsRow_elem h.dir hg
  · exact ownsRow_elem h.safe hg
  · obtain ⟨i, hi⟩ := List.getElem?_of_mem hv
    have hl : i < D.changes.length := by rw [← h.vals_length]; exact (List.getElem?_eq_some_iff.1 hi).1
    obtain ⟨v', h1, h2⟩ := h.che i hl
    rw [hi] at h1; cases h1
    exact ownsRow_elem h2 hg
/-- The disk's own block, turned: all else is as it was. -/
theorem RepV.turn (h : RepV w b D F vd vs vc vals VB) {n : DN} (hb : DBlk w' b vd vs vc n) (hc : Chg (One b) w w') : RepV w' b { D with n := n } F vd vs vc vals VB := by
  have hk : ∀ (k : Nat) (c : Array Value) (e : Nat), w.heap[k]? = some (Obj.cells c e (0, 0)) → e ≠ 45 → w'.heap[k]? = w.heap[k]? := fun k c e hk he =>
    hc.block k (lt_of_block hk) (elem_ne hk h.blk he)
  refine ⟨hb, ?_, ?_, ?_, ?_, ?_, h.inj⟩
  · exact ownsRow_same h.dir fun g hg => by obtain ⟨c, hh⟩ := ownsRow_elem h.dir hg; exact hk g _ _ hh (by decide)
  · exact ownsRow_same h.safe fun g hg => by obtain ⟨c, hh⟩ := ownsRow_elem h.safe hg; exact hk g _ _ hh (by decide)
  · exact ownsRow_same h.chg fun g hg => by obtain ⟨c, hh⟩ := ownsRow_elem h.chg hg; exact hk g _ _ hh (by decide)
  · intro i hi
    obtain ⟨v, h1, h2⟩ := h.che i hi
    exact ⟨v, h1, ownsRow_same h2 fun g hg => by obtain ⟨c, hh⟩ := ownsRow_elem h2 hg; exact hk g _ _ hh (by decide)⟩
  · intro f hf
    obtain ⟨h1, h2⟩ := h.fil f hf
    refine ⟨?_, ownsRow_same h2 fun g hg => by obtain ⟨c, hh⟩ := ownsRow_elem h2 hg; exact hk g _ _ hh (by decide)⟩
    unfold FBlk at h1 ⊢; rw [hk f _ _ h1 (by decide)]; exact h1
end
/-! ## Files by their names -/
def lookup : List Ent → ByteArray → Option Nat
  | [], _ => none
  | e :: r, name => if e.1 = name then some e.2 else lookup r name
theorem lookup_cases (es : List Ent) (name : ByteArray) : (fidx es name = -1 ∧ lookup es name = none) ∨ ∃ k, ∃ hk : k < es.length, fidx es name = (k : Int) ∧ lookup es name = some (es[k]'hk).2 ∧ (es[k]'hk).1 = name := by
  induction es with
  | nil => exact .inl ⟨rfl, rfl⟩
  | cons e r ih =>
    by_cases h : e.1 = name
    · exact .inr ⟨0, by simp, by simp [fidx, h], by simp [lookup, h], by simpa using h⟩
    · rcases ih with ⟨h1, h2⟩ | ⟨k, hk, h1, h2, h3⟩
      · exact .inl ⟨by simp [fidx, h, h1], by simp [lookup, h, h2]⟩
      · exact .inr ⟨k + 1, by simpa using hk, by simp only [fidx, h, if_false, h1]; rw [if_neg (by omega)]; omega, by simp [lookup, h, h2], by simpa using h3⟩
theorem RepV.dirAt {w : World} {b : Nat} {D : DS} {F : Nat → FC} {vd vs vc : Value} {vals : List Value} {VB : Nat → Value} (h : RepV w b D F vd vs vc vals VB) (k : Nat) (hk : k < D.dir.length) :
    FBlk w (D.dir[k]'hk).2 (VB (D.dir[k]'hk).2) (F (D.dir[k]'hk).2).2 ∧ BSl w (VB (D.dir[k]'hk).2) (F (D.dir[k]'hk).2).1 := h.fil _ (.inl ⟨_, List.getElem_mem hk, rfl⟩)
theorem BSl.form {w : World} {v : Value} {bs : List UInt8} (h : BSl w v bs) : ∃ a cap, v = .slice a bs.length cap ∧ bs.length ≤ cap ∧ cap ≤ maxLen := by
  obtain ⟨a, cap, h1, h2, h3, _⟩ := ownsRow_form h
  exact ⟨a, cap, h1, h2, h3⟩

/-- Behind a call: the disk as it is then, and what was changed. -/
def After (w : World) (Ft : Nat → Prop) (w' : World) (b : Nat) (D' : DS) (F' : Nat → FC) : Prop :=
  Chg Ft w w' ∧ ∃ Ft', Rep w' b D' F' Ft' ∧ (∀ k, Ft' k → k < w'.heap.size) ∧ ∀ k, Ft' k → Ft k ∨ w.heap.size ≤ k
theorem After.mk' {w w' : World} {Ft : Nat → Prop} {b : Nat} {D' : DS} {F' : Nat → FC} {vd vs vc : Value} {vals : List Value} {VB : Nat → Value} (hc : Chg Ft w w') (h : RepV w' b D' F' vd vs vc vals VB)
    (hf : ∀ k, Foot b D' vd vs vc vals VB k → Ft k ∨ w.heap.size ≤ k) : After w Ft w' b D' F' :=
  ⟨hc, _, ⟨vd, vs, vc, vals, VB, h, fun _ hk => hk⟩, fun _ hk => h.lt hk, hf⟩
theorem After.trans {w w1 w2 : World} {Ft : Nat → Prop} {b : Nat} {D1 D2 : DS} {F1 F2 : Nat → FC} (h : After w Ft w1 b D1 F1) (h2 : ∀ Ft1, Rep w1 b D1 F1 Ft1 → After w1 Ft1 w2 b D2 F2) : After w Ft w2 b D2 F2 := by
  obtain ⟨hc, Ft1, hr, hlt, hs⟩ := h
  obtain ⟨hc2, Ft2, hr2, hlt2, hs2⟩ := h2 Ft1 hr
  refine ⟨hc.trans hc2 fun x hx hlt => (hs x hx).resolve_right (by omega), Ft2, hr2, hlt2, fun k hk => ?_⟩
  rcases hs2 k hk with h | h
  · exact hs k h
  · exact .inr (Nat.le_trans hc.size h)
/-- The directory, turned. -/
theorem RepV.turnDir {w w' : World} {b : Nat} {D : DS} {F F' : Nat → FC} {vd vs vc vl vc' : Value} {vals : List Value} {VB VB' : Nat → Value} {n : DN} {es : List Ent} {S : Nat → Prop} (h : RepV w b D F vd vs vc vals VB)
    (hb : DBlk w' b vl vs vc' n) (hch : w'.ownsRow 0 47 1 vc' (D.changes.length + 1) (vals ++ [vl])) (hes : EntSl w' vl es) (hc : Chg S w w') (hS : ∀ k, S k → k = b ∨ vc.ownBlock = some k)
    (hF : ∀ f, D.ids f → F' f = F f ∧ VB' f = VB f) (hnew : ∀ f, inEnts f es → D.ids f ∨ (FBlk w' f (VB' f) (F' f).2 ∧ BSl w' (VB' f) (F' f).1 ∧ (VB' f).ownBlock = none)) :
    RepV w' b { D with dir := es, changes := D.changes ++ [es], n := n } F' vl vs vc' (vals ++ [vl]) VB' := by
  have hk : ∀ (k : Nat) (c : Array Value) (e : Nat), w.heap[k]? = some (Obj.cells c e (0, 0)) → e ≠ 45 → e ≠ 47 → w'.heap[k]? = w.heap[k]? := fun k c e hk he he2 =>
    hc.block k (lt_of_block hk) (fun hs => by
      rcases hS k hs with hs | hs
      · exact elem_ne hk h.blk he hs
      · obtain ⟨c', hh⟩ := ownsRow_elem h.chg hs
        exact elem_ne hk hh he2 rfl)
  have hids : ∀ f, ({ D with dir := es, changes := D.changes ++ [es], n := n } : DS).ids f → D.ids f ∨ inEnts f es := by
    rintro f (hf | hf | ⟨c, hcm, hf⟩)
    · exact .inr hf
    · exact .inl (.inr (.inl hf))
    · rcases List.mem_append.1 hcm with hcm | hcm
      · exact .inl (.inr (.inr ⟨c, hcm, hf⟩))
      · simp at hcm; subst hcm; exact .inr hf
  have hold : ∀ f, D.ids f → FBlk w' f (VB' f) (F' f).2 ∧ BSl w' (VB' f) (F' f).1 := by
    intro f hf
    obtain ⟨h1, h2⟩ := h.fil f hf
    rw [(hF f hf).1, (hF f hf).2]
    refine ⟨?_, ownsRow_same h2 fun g hg => by obtain ⟨c, hh⟩ := ownsRow_elem h2 hg; exact hk g _ _ hh (by decide) (by decide)⟩
    unfold FBlk at h1 ⊢; rw [hk f _ _ h1 (by decide) (by decide)]; exact h1
  refine ⟨hb, hes, ?_, ?_, ?_, ?_, ?_⟩
  · exact ownsRow_same h.safe fun g hg => by obtain ⟨c, hh⟩ := ownsRow_elem h.safe hg; exact hk g _ _ hh (by decide) (by decide)
  · simpa using hch
  · intro i hi
    by_cases hlt : i < D.changes.length
    · obtain ⟨v, h1, h2⟩ := h.che i hlt
      refine ⟨v, by rw [List.getElem?_append_left (by rw [h.vals_length]; exact hlt)]; exact h1, ?_⟩
      simp only [List.getElem_append_left hlt]
      exact ownsRow_same h2 fun g hg => by obtain ⟨c, hh⟩ := ownsRow_elem h2 hg; exact hk g _ _ hh (by decide) (by decide)
    · obtain rfl : i = D.changes.length := by simp at hi; omega
      refine ⟨vl, by rw [← h.vals_length]; simp, ?_⟩
      simpa using hes
  · intro f hf
    rcases hids f hf with hf | hf
    · exact hold f hf
    · rcases hnew f hf with hf | ⟨h1, h2, _⟩
      · exact hold f hf
      · exact ⟨h1, h2⟩
  · intro f f' g hf hf' hg hg'
    have key : ∀ f, ({ D with dir := es, changes := D.changes ++ [es], n := n } : DS).ids f → (VB' f).ownBlock = some g → D.ids f := by
      intro f hf hg
      rcases hids f hf with hf | hf
      · exact hf
      · rcases hnew f hf with hf | ⟨_, _, h3⟩
        · exact hf
        · rw [h3] at hg; cases hg
    have k1 := key f hf hg
    have k2 := key f' hf' hg'
    rw [(hF f k1).2] at hg
    rw [(hF f' k2).2] at hg'
    exact h.inj f f' g k1 k2 hg hg'
end Go.Proofs.Ytodcnkbblippnaa
