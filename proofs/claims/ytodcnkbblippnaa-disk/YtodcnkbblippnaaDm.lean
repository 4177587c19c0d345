/- Walk: Crash. -/
import Derived.Test.YtodcnkbblippnaaDl
import Derived.Deep.RegionLaw
namespace Go.Proofs.Ytodcnkbblippnaa
open Go.RowKit
attribute [local go_sem ↓] Go.wp_at_zero Go.wp_at_succ

/-- Crash's pick: which of 0 .. n. -/
def pickN (c : Int) (n : Nat) : Nat := ((if c < 0 then -(c + 1) else c) % ((n : Int) + 1)).toNat
theorem pickN_le (c : Int) (n : Nat) : pickN c n ≤ n := by
  unfold pickN
  have h1 := Int.emod_nonneg (if c < 0 then -(c + 1) else c) (b := (n : Int) + 1) (by omega)
  have h2 := Int.emod_lt_of_pos (if c < 0 then -(c + 1) else c) (b := (n : Int) + 1) (by omega)
  omega
set_option maxRecDepth 100000 in
set_option maxHeartbeats 400000 in
theorem pick_any (c : Int) (n : Int) (w : World) (hc : -9223372036854775808 ≤ c ∧ c ≤ 9223372036854775807) (hn : 0 ≤ n ∧ n ≤ 4611686018427387904) :
    Calls Try.prog 21 #[.int .i64 c, .int .i64 n] w fun e w' => e = .returned (.int .i64 (pickN c n.toNat)) ∧ w = w' := by
  obtain ⟨h1, h2⟩ := hc
  obtain ⟨h3, h4⟩ := hn
  by_cases hc : c < 0
  · have q : Hid ((pickN c n.toNat : Int) = -((c + 1).tmod (n + 1))) := by
      unfold Hid pickN; rw [if_pos hc, Int.toNat_of_nonneg h3, Int.toNat_of_nonneg (Int.emod_nonneg _ (by omega)), ← Int.tmod_eq_emod_of_nonneg (by omega), Int.neg_tmod]
    have h5 : 0 ≤ -(c + 1) := by omega
    go_enter Try.func21, Try.ntmps21
    go_wp2
    go_ret
    rw [q.out]
    exact ⟨rfl, rfl⟩
  · have q : Hid ((pickN c n.toNat : Int) = c % (n + 1)) := by
      unfold Hid pickN; rw [if_neg hc, Int.toNat_of_nonneg h3, Int.toNat_of_nonneg (Int.emod_nonneg _ (by omega))]
    have h5 : 0 ≤ c := by omega
    go_enter Try.func21, Try.ntmps21
    go_wp2
    go_ret
    rw [q.out]
    exact ⟨rfl, rfl⟩

/-- A slice of ints that lies in memory. -/
def IntSl (w : World) (v : Value) (ts : List Int) : Prop :=
  ∃ ad cap, v = .slice ad ts.length cap ∧ ts.length ≤ 9223372036854775807 ∧ ∀ j (hj : j < ts.length), ∃ tb to_, ad = some ⟨tb, to_, none⟩ ∧ tb < w.heap.size ∧ w.cell? ⟨tb, to_ + j, none⟩ = some (.int .i64 (ts[j]'hj))
/-- What a crash leaves of a file. -/
def crashFile (c : FC) (t : Int) : FC :=
  let m := c.2.toNat + pickN t (c.1.length - c.2.toNat)
  (c.1.take m, (c.1.take m).length)
/-- .. of the files that the first so many names of a directory have. -/
def crashK (dir : List Ent) (tails : List Int) (names : List ByteArray) (F : Nat → FC) : Nat → (Nat → FC)
  | 0 => F
  | k + 1 => let G := crashK dir tails names F k
    match names[k]? with
    | none => G
    | some name => match lookup dir name with
      | some f => upd G f (crashFile (G f) (tails.getD k 0))
      | none => G
def crashDir (D : DS) (dirs : Int) : List Ent := match pickN dirs D.changes.length with
  | 0 => D.safe
  | k + 1 => D.changes.getD k []
def dCrash (D : DS) (F : Nat → FC) (dirs : Int) (tails : List Int) : DS × (Nat → FC) :=
  let dir := crashDir D dirs
  ({ dir := dir, safe := dir, changes := [], n := { D.n with dead := false, cut := 0, fail := 0 } }, crashK dir tails (dList dir) F dir.length)
/-- Each name of a list is a name of the directory. -/
theorem ins_mem (l : List ByteArray) (x y : ByteArray) : y ∈ ins l x ↔ y = x ∨ y ∈ l := by
  unfold ins
  constructor
  · intro h
    rcases List.mem_append.1 h with h | h
    · exact .inr (List.mem_of_mem_take h)
    · rcases List.mem_cons.1 h with h | h
      · exact .inl h
      · exact .inr (List.mem_of_mem_drop h)
  · rintro (rfl | h)
    · simp
    · rw [← List.take_append_drop (insPos l x l.length) l] at h
      rcases List.mem_append.1 h with h | h
      · exact List.mem_append.2 (.inl h)
      · exact List.mem_append.2 (.inr (List.mem_cons_of_mem _ h))
theorem dListK_mem (es : List Ent) (k : Nat) (hk : k ≤ es.length) (y : ByteArray) : y ∈ dListK es k ↔ ∃ e ∈ es.take k, e.1 = y := by
  induction k with
  | zero => simp [dListK]
  | succ k ih =>
    have et := List.take_succ_eq_append_getElem (l := es) (i := k) hk
    rw [dListK_succ es k hk, ins_mem, ih (by omega)]
    constructor
    · rintro (rfl | ⟨e, he, rfl⟩)
      · exact ⟨es[k], by rw [et]; exact List.mem_append.2 (.inr (List.mem_singleton.2 rfl)), rfl⟩
      · exact ⟨e, by rw [et]; exact List.mem_append.2 (.inl he), rfl⟩
    · rintro ⟨e, he, rfl⟩
      rw [et] at he
      rcases List.mem_append.1 he with he | he
      · exact .inr ⟨e, he, rfl⟩
      · simp at he; subst he; exact .inl rfl
theorem dList_mem (es : List Ent) (y : ByteArray) : y ∈ dList es ↔ ∃ e ∈ es, e.1 = y := by
  have := dListK_mem es es.length (Nat.le_refl _) y
  rwa [List.take_length] at this
/-- The directory, turned back to an elder one. -/
theorem RepV.setDirOld {w w' : World} {b : Nat} {D : DS} {F : Nat → FC} {vd vs vc vl : Value} {vals : List Value} {VB : Nat → Value} {es : List Ent} (h : RepV w b D F vd vs vc vals VB)
    (hl : (vl = vs ∧ es = D.safe) ∨ ∃ k, ∃ hk : k < D.changes.length, vals[k]? = some vl ∧ es = D.changes[k]'hk) (hb : DBlk w' b vl vs vc D.n) (hc : Chg (One b) w w') :
    RepV w' b { D with dir := es } F vl vs vc vals VB ∧ ∀ k, Foot b { D with dir := es } vl vs vc vals VB k → Foot b D vd vs vc vals VB k := by
  have hk : ∀ (k : Nat) (c : Array Value) (e : Nat), w.heap[k]? = some (Obj.cells c e (0, 0)) → e ≠ 45 → w'.heap[k]? = w.heap[k]? := fun k c e hk he =>
    hc.block k (lt_of_block hk) (elem_ne hk h.blk he)
  have hes : EntSl w vl es := by
    rcases hl with ⟨rfl, rfl⟩ | ⟨k, hk, h1, rfl⟩
    · exact h.safe
    · obtain ⟨v, h2, h3⟩ := h.che k hk
      rw [h1] at h2; cases h2; exact h3
  have hin : ∀ f, inEnts f es → D.ids f := by
    intro f hf
    rcases hl with ⟨_, rfl⟩ | ⟨k, hk, _, rfl⟩
    · exact .inr (.inl hf)
    · exact .inr (.inr ⟨_, List.getElem_mem hk, hf⟩)
  have hids : ∀ f, ({ D with dir := es } : DS).ids f → D.ids f := by
    rintro f (hf | hf | hf)
    · exact hin f hf
    · exact .inr (.inl hf)
    · exact .inr (.inr hf)
  refine ⟨⟨hb, ?_, ?_, ?_, ?_, ?_, fun f f' g hf hf' => h.inj f f' g (hids f hf) (hids f' hf')⟩, ?_⟩
  · exact ownsRow_same hes fun g hg => by obtain ⟨c, hh⟩ := ownsRow_elem hes hg; exact hk g _ _ hh (by decide)
  · exact ownsRow_same h.safe fun g hg => by obtain ⟨c, hh⟩ := ownsRow_elem h.safe hg; exact hk g _ _ hh (by decide)
  · exact ownsRow_same h.chg fun g hg => by obtain ⟨c, hh⟩ := ownsRow_elem h.chg hg; exact hk g _ _ hh (by decide)
  · intro i hi
    obtain ⟨v, h1, h2⟩ := h.che i hi
    exact ⟨v, h1, ownsRow_same h2 fun g hg => by obtain ⟨c, hh⟩ := ownsRow_elem h2 hg; exact hk g _ _ hh (by decide)⟩
  · intro f hf
    obtain ⟨h1, h2⟩ := h.fil f (hids f hf)
    refine ⟨h1.same (hk f _ _ h1 (by decide)), ownsRow_same h2 fun g hg => by obtain ⟨c, hh⟩ := ownsRow_elem h2 hg; exact hk g _ _ hh (by decide)⟩
  · intro k hk
    cases hk using Foot.elim with
    | blk => exact .blk
    | dir e =>
      rcases hl with ⟨rfl, _⟩ | ⟨j, _, h1, _⟩
      · exact .safe e
      · exact .che (List.mem_of_getElem? h1) e
    | safe e => exact .safe e
    | chg e => exact .chg e
    | che hm e => exact .che hm e
    | fil hf => exact .fil (hids _ hf)
    | byt hf e => exact .byt (hids _ hf) e

theorem Rep.same_heap {w w' : World} {b : Nat} {D : DS} {F : Nat → FC} {Ft : Nat → Prop} (h : Rep w b D F Ft) (he : w'.heap = w.heap) : Rep w' b D F Ft := h.frame fun k _ => by rw [he]
theorem Chg.same_heap {S : Nat → Prop} {a w w' : World} (h : Chg S a w) (he : w'.heap = w.heap) (h1 : w'.os = w.os) (h2 : w'.tape = w.tape) (h3 : w'.output = w.output) : Chg S a w' :=
  ⟨h1.trans h.os, h2.trans h.tape, h3.trans h.output, by rw [he]; exact h.size, fun k hk hn => by rw [he]; exact h.block k hk hn⟩
end Go.Proofs.Ytodcnkbblippnaa
