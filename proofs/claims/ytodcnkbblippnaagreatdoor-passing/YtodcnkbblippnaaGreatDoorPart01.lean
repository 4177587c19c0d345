/-
  The statement PassingCardSaid is proved: the law Passing answers true, at every four numbers; there is no condition.
  Part 1 of 34.
-/
import Derived.Test.YtodcnkbblippnaaGreatDoorRows
import Derived.WalkKit
import Derived.WalkSpells
import Derived.WalkLawsBesides
import Derived.Deep.AppendLies
import Derived.Lib.Strings
import Derived.Deep.AppendSrc
import Derived.RegionTactic
import Derived.Deep.RegionHeld3
import Derived.Deep.DrawnRows
/- Memory: what a call may change ('Chg'), and how a disk lies there: its block, the rows of entries and changes, the files and their bytes. No walk. -/
namespace Go.Proofs.YtodcnkbblippnaaGreatDoor
open Go.RowKit

/-- What a call has changed lies within S; nothing has gone. -/
structure Chg (S : Nat → Prop) (w w' : World) : Prop where
  os : w'.os = w.os
  tape : w'.tape = w.tape
  output : w'.output = w.output
  size : w.heap.size ≤ w'.heap.size
  block : ∀ k, k < w.heap.size → ¬ S k → w'.heap[k]? = w.heap[k]?
theorem Chg.refl (S : Nat → Prop) (w : World) : Chg S w w := ⟨rfl, rfl, rfl, Nat.le_refl _, fun _ _ _ => rfl⟩
theorem Chg.trans {S S' : Nat → Prop} {a b c : World} (h : Chg S a b) (k : Chg S' b c) (hs : ∀ x, S' x → x < a.heap.size → S x) : Chg S a c :=
  ⟨k.os.trans h.os, k.tape.trans h.tape, k.output.trans h.output, Nat.le_trans h.size k.size, fun i hi hn =>
    (k.block i (Nat.lt_of_lt_of_le hi h.size) (fun hx => hn (hs i hx hi))).trans (h.block i hi hn)⟩
theorem Chg.mono {S S' : Nat → Prop} {a b : World} (h : Chg S a b) (hs : ∀ x, x < a.heap.size → S x → S' x) : Chg S' a b :=
  ⟨h.os, h.tape, h.output, h.size, fun k hk hn => h.block k hk (fun hx => hn (hs k hk hx))⟩
theorem Chg.drew {S : Nat → Prop} {a w : World} (h : Chg S a w) : Chg S a w.drew := ⟨h.os, h.tape, h.output, h.size, h.block⟩
theorem Chg.drewN {S : Nat → Prop} {a w : World} (h : Chg S a w) (n : Nat) : Chg S a (w.drewN n) := ⟨h.os, h.tape, h.output, h.size, h.block⟩
theorem Chg.alloc {S : Nat → Prop} {a w : World} (h : Chg S a w) (o : Obj) : Chg S a (w.alloc o) :=
  ⟨h.os, h.tape, h.output, by have := h.size; simp; omega, fun k hk hn => (Below.heap_alloc _ _ _ (Nat.lt_of_lt_of_le hk h.size)).trans (h.block k hk hn)⟩
theorem Chg.setCell {S : Nat → Prop} {a w : World} (h : Chg S a w) {p : Addr} (hp : p.block < a.heap.size → S p.block) (u : Value) : Chg S a (w.setCell p u) :=
  ⟨h.os, h.tape, h.output, by simpa using h.size, fun k hk hn => (Below.heap_setCell _ _ _ _ (fun e => by subst e; exact hn (hp hk))).trans (h.block k hk hn)⟩
theorem Chg.grown {S : Nat → Prop} {a w w' : World} {row : Option Nat} (h : Chg S a w) (hg : w.grownBy w' row) (hr : ∀ k, row = some k → k < a.heap.size → S k) : Chg S a w' :=
  ⟨hg.os.trans h.os, hg.tape.trans h.tape, hg.output.trans h.output, Nat.le_trans h.size hg.size, fun k hk hn =>
    (hg.block k (Nat.lt_of_lt_of_le hk h.size) (fun e => hn (hr k e.symm hk))).trans (h.block k hk hn)⟩
theorem Chg.below {S : Nat → Prop} {a b : World} {B : Nat} (h : Chg S a b) (hB : B ≤ a.heap.size) (hs : ∀ k, k < B → ¬ S k) : Below B a b :=
  ⟨h.os, h.tape, h.output, h.size, fun k hk => h.block k (Nat.lt_of_lt_of_le hk hB) (hs k hk)⟩
theorem Chg.keep {S : Nat → Prop} {a b : World} (h : Chg S a b) {k : Nat} {o : Obj} (ho : a.heap[k]? = some o) (hn : ¬ S k) : b.heap[k]? = some o :=
  (h.block k (lt_of_block ho) hn).trans ho
/-- One block. -/
def One (b : Nat) : Nat → Prop := fun k => k = b
theorem Chg.setAt {S : Nat → Prop} {a w : World} (h : Chg S a w) {b : Nat} (hb : S b) (o : Nat) (u : Value) : Chg S a (w.setCell ⟨b, o, none⟩ u) := h.setCell (p := ⟨b, o, none⟩) (fun _ => hb) u
theorem hide {p : Prop} (h : p) : Hid p := h
/-- The same memory below: what the frame of a reading asks. -/
def Same (S : Nat → Prop) (w w' : World) : Prop := ∀ k, S k → w'.heap[k]? = w.heap[k]?
theorem Same.mono {S S' : Nat → Prop} {w w' : World} (h : Same S w w') (hs : ∀ k, S' k → S k) : Same S' w w' := fun k hk => h k (hs k hk)
theorem Chg.same {S T : Nat → Prop} {w w' : World} (h : Chg S w w') (hT : ∀ k, T k → k < w.heap.size) (hd : ∀ k, T k → ¬ S k) : Same T w w' := fun k hk => h.block k (hT k hk) (hd k hk)

theorem ownsRow_same {w w' : World} {base e size n : Nat} {v : Value} {xs : List Value} (h : w.ownsRow base e size v n xs) (hs : ∀ g, v.ownBlock = some g → w'.heap[g]? = w.heap[g]?) : w'.ownsRow base e size v n xs := by
  refine ⟨h.1, ?_⟩
  rcases h.2 with h2 | ⟨g, cap, cur, rfl, hb, hg, r⟩
  · exact .inl h2
  · exact .inr ⟨g, cap, cur, rfl, hb, by rw [hs g rfl]; exact hg, r⟩
theorem ownsRow_lt {w : World} {base e size n : Nat} {v : Value} {xs : List Value} (h : w.ownsRow base e size v n xs) {g : Nat} (hg : v.ownBlock = some g) : g < w.heap.size := (h.lt g hg).2
/-- A row's block bears its elements' type. -/
theorem ownsRow_elem {w : World} {base e size n : Nat} {v : Value} {xs : List Value} (h : w.ownsRow base e size v n xs) {g : Nat} (hg : v.ownBlock = some g) : ∃ cur, w.heap[g]? = some (.cells cur e (0, 0)) := by
  rcases h.2 with ⟨rfl, _⟩ | ⟨g', cap, cur, rfl, _, hh, _⟩
  · simp [Value.ownBlock] at hg
  · simp [Value.ownBlock] at hg; subst hg; exact ⟨cur, hh⟩
theorem ownsRow_cell {w : World} {base e size n : Nat} {v : Value} {xs : List Value} (h : w.ownsRow base e size v n xs) {g : Nat} (hg : v.ownBlock = some g) {j : Nat} {u : Value} (hu : xs[j]? = some u) : w.cell? ⟨g, j, none⟩ = some u := by
  have := h.cells hg j u hu
  unfold Addr.add at this
  split at this
  · rename_i h0; rw [h0]; exact this
  · simpa using this
theorem ownsRow_frozen {w : World} {base e size n : Nat} {v : Value} {xs : List Value} (h : w.ownsRow base e size v n xs) {g : Nat} (hg : v.ownBlock = some g) (j : Nat) : w.frozen? ⟨g, j, none⟩ = false := by
  obtain ⟨cur, hh⟩ := ownsRow_elem h hg
  simp [World.frozen?, hh]
theorem ownsRow_form {w : World} {base e size n : Nat} {v : Value} {xs : List Value} (h : w.ownsRow base e size v n xs) :
    ∃ a cap, v = .slice a n cap ∧ n ≤ cap ∧ cap ≤ maxLen ∧ (0 < n → ∃ g, a = some ⟨g, 0, none⟩) ∧ (a = none → n = 0 ∧ cap = 0) ∧ (∀ x, a = some x → ∃ g, x = ⟨g, 0, none⟩) := by
  rcases h.2 with ⟨rfl, h0⟩ | ⟨g, cap, cur, rfl, _, hg, hcap, hm, hs, _⟩
  · exact ⟨none, 0, by rw [h0], by omega, by decide, by omega, fun _ => ⟨h0, rfl⟩, fun x hx => by cases hx⟩
  · exact ⟨_, cap, rfl, hcap, hm, fun _ => ⟨g, rfl⟩, by simp, fun x hx => ⟨g, by cases hx; rfl⟩⟩
/-- Shortened (its room is kept). -/
theorem ownsRow_cut {w : World} {base e size n cap : Nat} {a : Option Addr} {xs : List Value} (h : w.ownsRow base e size (.slice a n cap) n xs) {m : Nat} (hm : m ≤ n) : w.ownsRow base e size (.slice a m cap) m (xs.take (m * size)) := by
  have hle : m * size ≤ n * size := Nat.mul_le_mul_right _ hm
  refine ⟨by rw [List.length_take, h.1]; omega, ?_⟩
  rcases h.2 with ⟨h1, h2⟩ | ⟨g, cap', cur, h1, hb, hg, hcap, hmx, hs, ht⟩
  · subst h2; cases h1; obtain rfl : m = 0 := by omega
    exact .inl ⟨rfl, rfl⟩
  · cases h1
    exact .inr ⟨g, cap, cur, rfl, hb, hg, by omega, hmx, hs, by rw [← ht, List.take_take, Nat.min_eq_left hle]⟩

/-- Strings are one where their bytes are. -/
theorem bytes_eq_iff (a b : ByteArray) : (a.toList == b.toList) = true ↔ a = b := by
  rw [beq_iff_eq, Lib.toList_data, Lib.toList_data]
  exact ⟨fun h => WideShapes.bytes_inj h, fun h => by rw [h]⟩
theorem bytes_ne_iff (a b : ByteArray) : (a.toList == b.toList) = false ↔ a ≠ b := by
  have := bytes_eq_iff a b
  constructor
  · intro h e; rw [this.2 e] at h; cases h
  · intro h; cases hx : (a.toList == b.toList) with
    | false => rfl
    | true => exact absurd (this.1 hx) h

/-! ## Entries -/
/-- A name and the block of its file. -/
abbrev Ent := ByteArray × Nat
def entVals : List Ent → List Value
  | [] => []
  | (n, f) :: r => .string n :: .pointer (some ⟨f, 0, none⟩) :: entVals r
theorem entVals_length (es : List Ent) : (entVals es).length = es.length * 2 := by
  induction es with
  | nil => rfl
  | cons e r ih => obtain ⟨n, f⟩ := e; simp only [entVals, List.length_cons, ih]; omega
theorem entVals_append (a b : List Ent) : entVals (a ++ b) = entVals a ++ entVals b := by
  induction a with
  | nil => rfl
  | cons e r ih => obtain ⟨n, f⟩ := e; simp [entVals, ih]
theorem entVals_take (es : List Ent) (k : Nat) : (entVals es).take (k * 2) = entVals (es.take k) := by
  induction es generalizing k with
  | nil => simp [entVals]
  | cons e r ih =>
    obtain ⟨n, f⟩ := e
    match k with
    | 0 => simp [entVals]
    | k + 1 => rw [show (k + 1) * 2 = k * 2 + 1 + 1 from by omega]; simp [entVals, ih]
theorem entVals_drop (es : List Ent) (k : Nat) : (entVals es).drop (k * 2) = entVals (es.drop k) := by
  induction es generalizing k with
  | nil => simp [entVals]
  | cons e r ih =>
    obtain ⟨n, f⟩ := e
    match k with
    | 0 => simp [entVals]
    | k + 1 => rw [show (k + 1) * 2 = k * 2 + 1 + 1 from by omega]; simp [entVals, ih]
theorem entVals_name (es : List Ent) (k : Nat) (h : k < es.length) : (entVals es)[k * 2]? = some (.string (es[k]'h).1) := by
  induction es generalizing k with
  | nil => simp at h
  | cons e r ih =>
    obtain ⟨n, f⟩ := e
    match k with
    | 0 => simp [entVals]
    | k + 1 =>
      have := ih k (by simpa using h)
      rw [show (k + 1) * 2 = k * 2 + 1 + 1 from by omega]
      simpa [entVals] using this
theorem entVals_ptr (es : List Ent) (k : Nat) (h : k < es.length) : (entVals es)[k * 2 + 1]? = some (.pointer (some ⟨(es[k]'h).2, 0, none⟩)) := by
  induction es generalizing k with
  | nil => simp at h
  | cons e r ih =>
    obtain ⟨n, f⟩ := e
    match k with
    | 0 => simp [entVals]
    | k + 1 =>
      have := ih k (by simpa using h)
      rw [show (k + 1) * 2 + 1 = k * 2 + 1 + 1 + 1 from by omega]
      simpa [entVals] using this
theorem entVals_oneCell (es : List Ent) : ∀ u ∈ entVals es, u.oneCell' = true := by
  induction es with
  | nil => simp [entVals]
  | cons e r ih =>
    obtain ⟨n, f⟩ := e
    intro u hu
    simp only [entVals, List.mem_cons] at hu
    rcases hu with rfl | rfl | hu
    · rfl
    · rfl
    · exact ih u hu
def EntSl (w : World) (v : Value) (es : List Ent) : Prop := w.ownsRow 0 125 2 v es.length (entVals es)
theorem EntSl.form {w : World} {v : Value} {es : List Ent} (h : EntSl w v es) :
    ∃ a cap, v = .slice a es.length cap ∧ es.length ≤ cap ∧ cap ≤ maxLen ∧ ∀ k (hk : k < es.length), ∃ g, a = some ⟨g, 0, none⟩ ∧ w.cell? ⟨g, k * 2, none⟩ = some (.string (es[k]'hk).1) ∧ w.cell? ⟨g, k * 2 + 1, none⟩ = some (.pointer (some ⟨(es[k]'hk).2, 0, none⟩)) := by
  rcases ownsRow_form h with ⟨a, cap, rfl, h1, h2, h3, _, _⟩
  refine ⟨a, cap, rfl, h1, h2, fun k hk => ?_⟩
  obtain ⟨g, rfl⟩ := h3 (by omega)
  exact ⟨g, rfl, ownsRow_cell h rfl (entVals_name es k hk), ownsRow_cell h rfl (entVals_ptr es k hk)⟩
/-- Where a name stands. -/
def fidx : List Ent → ByteArray → Int
  | [], _ => -1
  | e :: r, name => if e.1 = name then 0 else if fidx r name < 0 then -1 else fidx r name + 1
theorem fidx_hit (es : List Ent) (name : ByteArray) (k : Nat) (hk : k < es.length) (h : (es[k]'hk).1 = name) (hno : ∀ m (hm : m < k), (es[m]'(by omega)).1 ≠ name) : fidx es name = k := by
  induction es generalizing k with
  | nil => simp at hk
  | cons e r ih =>
    match k with
    | 0 => simp only [List.getElem_cons_zero] at h; simp [fidx, h]
    | k + 1 =>
      have h0 := hno 0 (by omega)
      simp only [List.getElem_cons_zero] at h0
      have := ih k (by simpa using hk) (by simpa using h) (fun m hm => by simpa using hno (m + 1) (by omega))
      simp only [fidx, h0, if_false, this]
      rw [if_neg (by omega)]; omega
theorem fidx_none (es : List Ent) (name : ByteArray) (hno : ∀ m (hm : m < es.length), (es[m]'hm).1 ≠ name) : fidx es name = -1 := by
  induction es with
  | nil => rfl
  | cons e r ih =>
    have h0 := hno 0 (by simp)
    simp only [List.getElem_cons_zero] at h0
    have := ih (fun m hm => by have := hno (m + 1) (by simp; omega); simpa using this)
    simp [fidx, h0, this]
theorem fidx_range (es : List Ent) (name : ByteArray) : -1 ≤ fidx es name ∧ fidx es name < es.length := by
  induction es with
  | nil => simp [fidx]
  | cons e r ih =>
    simp only [fidx, List.length_cons]
    split
    · omega
    · split <;> omega
theorem fidx_cases (es : List Ent) (name : ByteArray) : (fidx es name = -1 ∧ ∀ e ∈ es, e.1 ≠ name) ∨ ∃ k, ∃ hk : k < es.length, fidx es name = (k : Int) ∧ (es[k]'hk).1 = name := by
  induction es with
  | nil => exact .inl ⟨rfl, by simp⟩
  | cons e r ih =>
    by_cases h : e.1 = name
    · exact .inr ⟨0, by simp, by simp [fidx, h], by simpa using h⟩
    · rcases ih with ⟨h1, h2⟩ | ⟨k, hk, h1, h2⟩
      · exact .inl ⟨by simp [fidx, h, h1], fun x hx => by rcases List.mem_cons.1 hx with rfl | hx; exact h; exact h2 x hx⟩
      · exact .inr ⟨k + 1, by simpa using hk, by simp only [fidx, h, if_false, h1]; rw [if_neg (by omega)]; omega, by simpa using h2⟩

/-! ## The disk's own block -/
structure DN where
  room : Int
  calls : Int
  cut : Int
  fail : Int
  part : Int
  refused : Int
  fulls : Int
  dead : Bool
def dCells (vd vs vc : Value) (n : DN) : Array Value :=
  #[vd, vs, vc, .int .i64 n.room, .int .i64 n.calls, .int .i64 n.cut, .int .i64 n.fail, .int .i64 n.part, .int .i64 n.refused, .int .i64 n.fulls, .bool n.dead]
def DBlk (w : World) (b : Nat) (vd vs vc : Value) (n : DN) : Prop := w.heap[b]? = some (.cells (dCells vd vs vc n) 95 (0, 0))
section
variable {w : World} {b : Nat} {vd vs vc : Value} {n : DN}
theorem DBlk.c0 (h : DBlk w b vd vs vc n) : w.cell? ⟨b, 0, none⟩ = some vd := by unfold DBlk at h; simp [World.cell?, h, dCells]
theorem DBlk.c1 (h : DBlk w b vd vs vc n) : w.cell? ⟨b, 1, none⟩ = some vs := by unfold DBlk at h; simp [World.cell?, h, dCells]
theorem DBlk.c2 (h : DBlk w b vd vs vc n) : w.cell? ⟨b, 2, none⟩ = some vc := by unfold DBlk at h; simp [World.cell?, h, dCells]
theorem DBlk.c3 (h : DBlk w b vd vs vc n) : w.cell? ⟨b, 3, none⟩ = some (.int .i64 n.room) := by unfold DBlk at h; simp [World.cell?, h, dCells]
theorem DBlk.c4 (h : DBlk w b vd vs vc n) : w.cell? ⟨b, 4, none⟩ = some (.int .i64 n.calls) := by unfold DBlk at h; simp [World.cell?, h, dCells]
theorem DBlk.c5 (h : DBlk w b vd vs vc n) : w.cell? ⟨b, 5, none⟩ = some (.int .i64 n.cut) := by unfold DBlk at h; simp [World.cell?, h, dCells]
theorem DBlk.c6 (h : DBlk w b vd vs vc n) : w.cell? ⟨b, 6, none⟩ = some (.int .i64 n.fail) := by unfold DBlk at h; simp [World.cell?, h, dCells]
theorem DBlk.c7 (h : DBlk w b vd vs vc n) : w.cell? ⟨b, 7, none⟩ = some (.int .i64 n.part) := by unfold DBlk at h; simp [World.cell?, h, dCells]
theorem DBlk.c8 (h : DBlk w b vd vs vc n) : w.cell? ⟨b, 8, none⟩ = some (.int .i64 n.refused) := by unfold DBlk at h; simp [World.cell?, h, dCells]
theorem DBlk.c9 (h : DBlk w b vd vs vc n) : w.cell? ⟨b, 9, none⟩ = some (.int .i64 n.fulls) := by unfold DBlk at h; simp [World.cell?, h, dCells]
theorem DBlk.c10 (h : DBlk w b vd vs vc n) : w.cell? ⟨b, 10, none⟩ = some (.bool n.dead) := by unfold DBlk at h; simp [World.cell?, h, dCells]
theorem DBlk.fz (h : DBlk w b vd vs vc n) (o : Nat) : w.frozen? ⟨b, o, none⟩ = false := by unfold DBlk at h; simp [World.frozen?, h]
theorem DBlk.lt (h : DBlk w b vd vs vc n) : b < w.heap.size := lt_of_block h
theorem heap_setCell_at {w : World} {b : Nat} {c : Array Value} {e : Nat} {o : Nat} {v : Value} (h : w.heap[b]? = some (.cells c e (0, 0))) : (w.setCell ⟨b, o, none⟩ v).heap[b]? = some (.cells (c.setIfInBounds o v) e (0, 0)) := by
  simp [World.setCell, Array.getElem?_modify, h]
theorem DBlk.same {w' : World} (h : DBlk w b vd vs vc n) (he : w'.heap[b]? = w.heap[b]?) : DBlk w' b vd vs vc n := he.trans h
theorem DBlk.alloc (h : DBlk w b vd vs vc n) (o : Obj) : DBlk (w.alloc o) b vd vs vc n := h.same (Below.heap_alloc _ _ _ h.lt)
theorem DBlk.grown {w' : World} {row : Option Nat} (h : DBlk w b vd vs vc n) (hg : w.grownBy w' row) (hr : row ≠ some b) : DBlk w' b vd vs vc n := h.same (hg.block b h.lt (fun e => hr e.symm))
theorem DBlk.chg {S : Nat → Prop} {w' : World} (h : DBlk w b vd vs vc n) (hg : Chg S w w') (hr : ¬ S b) : DBlk w' b vd vs vc n := h.same (hg.block b h.lt hr)
theorem DBlk.s0 (h : DBlk w b vd vs vc n) (v : Value) : DBlk (w.setCell ⟨b, 0, none⟩ v) b v vs vc n := heap_setCell_at h
theorem DBlk.s1 (h : DBlk w b vd vs vc n) (v : Value) : DBlk (w.setCell ⟨b, 1, none⟩ v) b vd v vc n := heap_setCell_at h
theorem DBlk.s2 (h : DBlk w b vd vs vc n) (v : Value) : DBlk (w.setCell ⟨b, 2, none⟩ v) b vd vs v n := heap_setCell_at h
theorem DBlk.s4 (h : DBlk w b vd vs vc n) (x : Int) : DBlk (w.setCell ⟨b, 4, none⟩ (.int .i64 x)) b vd vs vc { n with calls := x } := heap_setCell_at h
theorem DBlk.s8 (h : DBlk w b vd vs vc n) (x : Int) : DBlk (w.setCell ⟨b, 8, none⟩ (.int .i64 x)) b vd vs vc { n with refused := x } := heap_setCell_at h
theorem DBlk.s9 (h : DBlk w b vd vs vc n) (x : Int) : DBlk (w.setCell ⟨b, 9, none⟩ (.int .i64 x)) b vd vs vc { n with fulls := x } := heap_setCell_at h
theorem DBlk.s10 (h : DBlk w b vd vs vc n) (x : Bool) : DBlk (w.setCell ⟨b, 10, none⟩ (.bool x)) b vd vs vc { n with dead := x } := heap_setCell_at h
end

/-! ## Files -/
def FBlk (w : World) (f : Nat) (vb : Value) (safe : Int) : Prop := w.heap[f]? = some (.cells #[vb, .int .i64 safe] 129 (0, 0))
section
variable {w : World} {f : Nat} {vb : Value} {safe : Int}
theorem FBlk.c0 (h : FBlk w f vb safe) : w.cell? ⟨f, 0, none⟩ = some vb := by unfold FBlk at h; simp [World.cell?, h]
theorem FBlk.c1 (h : FBlk w f vb safe) : w.cell? ⟨f, 1, none⟩ = some (.int .i64 safe) := by unfold FBlk at h; simp [World.cell?, h]
theorem FBlk.fz (h : FBlk w f vb safe) (o : Nat) : w.frozen? ⟨f, o, none⟩ = false := by unfold FBlk at h; simp [World.frozen?, h]
theorem FBlk.s0 (h : FBlk w f vb safe) (v : Value) : FBlk (w.setCell ⟨f, 0, none⟩ v) f v safe := heap_setCell_at h
theorem FBlk.s1 (h : FBlk w f vb safe) (x : Int) : FBlk (w.setCell ⟨f, 1, none⟩ (.int .i64 x)) f vb x := heap_setCell_at h
end
def byteVals (bs : List UInt8) : List Value := bs.map fun b => .int .u8 b.toNat
def BSl (w : World) (v : Value) (bs : List UInt8) : Prop := w.ownsRow 0 5 1 v bs.length (byteVals bs)
theorem byteVals_append (a b : List UInt8) : byteVals (a ++ b) = byteVals a ++ byteVals b := List.map_append
theorem Chg.ofBelow {S : Nat → Prop} {w w' : World} (h : Below w.heap.size w w') : Chg S w w' := ⟨h.os, h.tape, h.output, h.size, fun k hk _ => h.block k hk⟩
theorem Chg.cellKeep {w w' : World} (h : Chg (fun _ => False) w w') {p : Addr} {v : Value} (hc : w.cell? p = some v) : w'.cell? p = some v := by
  have hlt : p.block < w.heap.size := by
    rcases Nat.lt_or_ge p.block w.heap.size with h | h
    · exact h
    · unfold World.cell? at hc
      rw [Array.getElem?_eq_none h] at hc
      simp at hc
  unfold World.cell? at hc ⊢
  rw [h.block _ hlt (fun h => h)]
  exact hc
end Go.Proofs.YtodcnkbblippnaaGreatDoor
/- One law for every append of this program: onto a row of the program's own (or nil), of whatever stands behind it (a slice, nil, a string). No walk. -/
namespace Go.Proofs.YtodcnkbblippnaaGreatDoor
open Go.RowKit

/-- What an append leaves. -/
structure App (w w' : World) (e size : Nat) (v v' : Value) (n : Nat) (xs : List Value) : Prop where
  own : w'.ownsRow 0 e size v' n xs
  grown : w.grownBy w' v.ownBlock
  at_ : v'.ownBlock = v.ownBlock ∨ v'.ownBlock = some w.heap.size
  form : ∃ a cap, v' = .slice a n cap

theorem run_append_u {P : Program} (w : World) (t tx ty e : TypeId) (i : TypeInfo) (z : Value) (size bytes : Nat) (ht : P.underlying t = some (.slice e)) (hi : P.info? e = some i) (hz : i.zero = some z)
    (hsize : i.size = size) (hby : i.bytes = bytes) (hzs : z.cells.size = size) (hb0 : 0 < bytes)
    (v : Value) (n : Nat) (xs : List Value) (hown : w.ownsRow 0 e size v n xs)
    (x : Value) (m : Nat) (news : List Value) (hs : Src P size tx x m news w) (hbytes : (n + m) * bytes ≤ 140737488355328) :
    ∃ v' w', (Builtin.append_ #[t, tx] ty #[v, x]).run P w = .ok v' w' ∧ App w w' e size v v' (n + m) (xs ++ news) := by
  subst hsize
  subst hby
  have hnm : n + m ≤ 140737488355328 := Nat.le_trans (Nat.le_mul_of_pos_right _ hb0) hbytes
  have hlen : (xs ++ news).length = (n + m) * i.size := by rw [List.length_append, hown.1, hs.newsLen, Nat.add_mul]
  obtain ⟨a, cap, rfl, hnc, hcm, _, hnil, hform⟩ := ownsRow_form hown
  by_cases hroom : n + m ≤ cap
  · rcases hown.2 with ⟨h1, h2⟩ | ⟨g, cap', cur, h1, _, hg, _, _, hcs, htake⟩
    · cases h1
      obtain rfl : m = 0 := by omega
      have hn : news = [] := List.eq_nil_of_length_eq_zero (by simpa using hs.newsLen)
      subst hn
      have hx : xs = [] := List.eq_nil_of_length_eq_zero (by simpa using hown.1)
      subst hx
      refine ⟨.slice none 0 0, w, ?_, ⟨World.ownsRow_nil w 0 e i.size, ⟨rfl, rfl, rfl, Nat.le_refl _, fun _ _ _ => rfl⟩, .inl rfl, ⟨none, 0, rfl⟩⟩⟩
      rcases hs.kind with ⟨e', hk⟩ | hk <;> simp [Builtin.append_, run_underlying ht, run_underlying hk, sizeOf, typeInfo, hi, hs.len, hs.cells]
    · cases h1
      have hfit : n * i.size + news.length ≤ cur.size := by rw [hs.newsLen, hcs, ← Nat.add_mul]; exact Nat.mul_le_mul_right _ hroom
      have hst := run_storeCells_at P g (n * i.size) e news 0 cur w hg (by simpa using hfit) hs.one
      simp only [Nat.add_zero] at hst
      have hr : (Builtin.append_ #[t, tx] ty #[.slice (some ⟨g, 0, none⟩) n cap, x]).run P w = .ok (.slice (some ⟨g, 0, none⟩) (n + m) cap) (w.setRow g (cur.toList.take (n * i.size) ++ news ++ cur.toList.drop (n * i.size + news.length)).toArray) := by
        rcases hs.kind with ⟨e', hk⟩ | hk <;> simp [Builtin.append_, run_underlying ht, run_underlying hk, sizeOf, typeInfo, hi, hs.len, hroom, hs.cells, Addr.add_lit, hst]
      refine ⟨_, _, hr, ⟨⟨hlen, .inr ⟨g, cap, _, rfl, Nat.zero_le _, setRow_heap w g cur _ e _ hg, hroom, hcm, ?_, ?_⟩⟩, ⟨rfl, rfl, rfl, by simp, fun k _ hk => setRow_other w g k _ (fun e => hk (by simp [Value.ownBlock, e]))⟩, .inl rfl, ⟨_, _, rfl⟩⟩⟩
      · simp only [List.size_toArray, List.length_append, List.length_take, List.length_drop, Array.length_toList]
        omega
      · rw [htake, ← hlen]
        exact List.take_left
  · have hold : (Builtin.firstCells i.size n (.slice a n cap)).run P w.drew = .ok xs.toArray w.drew := by
      cases a with
      | none =>
        obtain ⟨rfl, _⟩ := hnil rfl
        have hx : xs = [] := List.eq_nil_of_length_eq_zero (by simpa using hown.1)
        subst hx
        exact run_firstCells_none w.drew i.size 0 0 cap
      | some ad =>
        obtain ⟨g, rfl⟩ := hform ad rfl
        exact run_firstCells_some w.drew i.size n _ n cap xs hown.1 (by simpa using hown.cells (g := g) rfl)
    have hr := run_append_grow_src (P := P) w t tx ty e i z ht hi hz a n cap xs hold x m news hs (by omega) (by omega) (growslice_fits (by omega) hbytes)
    have hge := grownCap_ge w (n + m) cap e
    have hgm : grownCap w (n + m) cap e ≤ maxLen := grownCap_le_maxLen w (n + m) cap e (by unfold maxLen; omega)
    refine ⟨_, _, hr, ⟨⟨hlen, .inr ⟨w.heap.size, _, _, rfl, Nat.zero_le _, heap_alloc_new w.drew _, hge, hgm, ?_, ?_⟩⟩, ⟨rfl, rfl, rfl, by simp, fun k hk _ => Below.heap_alloc w.drew _ k hk⟩, .inr rfl, ⟨_, _, rfl⟩⟩⟩
    · simp only [Array.size_append, List.size_toArray, size_zeroCells, hzs, hlen, ← Nat.add_mul]
      congr 1
      omega
    · simp only [Array.toList_append]
      rw [← hlen]
      exact List.take_left

section
variable {P : Program} {w : World}
/-- At the operation. -/
theorem wp_app {o : Oper} {a : Act} {K : Act → World → Prop} {Q : Exit → Act → World → Prop} (s x : Operand) (t tx : TypeId)
    (ho : o.op = .call { callee := .builtin .append, args := #[s, x], argTypes := #[t, tx] })
    (e : TypeId) (i : TypeInfo) (z : Value) (size bytes : Nat) (ht : P.underlying t = some (.slice e)) (hi : P.info? e = some i) (hz : i.zero = some z)
    (hsize : i.size = size) (hby : i.bytes = bytes) (hzs : z.cells.size = size) (hb0 : 0 < bytes)
    (v : Value) (n : Nat) (xs : List Value) (hv : a.eval s = v) (hown : w.ownsRow 0 e size v n xs)
    (sv : Value) (m : Nat) (news : List Value) (hx : a.eval x = sv) (hs : Src P size tx sv m news w) (hbytes : (n + m) * bytes ≤ 140737488355328)
    (h : ∀ b cap w', App w w' e size v (.slice b (n + m) cap) (n + m) (xs ++ news) → K (a.put o.dst (.slice b (n + m) cap)) w') : o.wp P a w K Q := by
  obtain ⟨v', w', hr, hA⟩ := run_append_u (P := P) w t tx o.type e i z size bytes ht hi hz hsize hby hzs hb0 v n xs hown sv m news hs hbytes
  obtain ⟨b, cap, rfl⟩ := hA.form
  unfold Oper.wp execOp
  simp only [ho, resolve, invoke, builtin, Sem.run_bind, Sem.run_pure, Result.andThen_ok, List.map_toArray, List.map_cons, List.map_nil, hv, hx, hr]
  exact h b cap w' hA
/-- In a plain region. -/
theorem wpList_app {ops : Array Oper} {rest : List Oper} {o : Oper} {a : Act} {Q : Exit → Act → World → Prop} (hgd : o.guard = none) (s x : Operand) (t tx : TypeId)
    (ho : o.op = .call { callee := .builtin .append, args := #[s, x], argTypes := #[t, tx] })
    (e : TypeId) (i : TypeInfo) (z : Value) (size bytes : Nat) (ht : P.underlying t = some (.slice e)) (hi : P.info? e = some i) (hz : i.zero = some z)
    (hsize : i.size = size) (hby : i.bytes = bytes) (hzs : z.cells.size = size) (hb0 : 0 < bytes)
    (v : Value) (n : Nat) (xs : List Value) (hv : a.eval s = v) (hown : w.ownsRow 0 e size v n xs)
    (sv : Value) (m : Nat) (news : List Value) (hx : a.eval x = sv) (hs : Src P size tx sv m news w) (hbytes : (n + m) * bytes ≤ 140737488355328)
    (h : ∀ b cap w', App w w' e size v (.slice b (n + m) cap) (n + m) (xs ++ news) → wpList P ops Q rest (a.put o.dst (.slice b (n + m) cap)) w') : wpList P ops Q (o :: rest) a w :=
  wpList_plain hgd fun _ hK => wp_app s x t tx ho e i z size bytes ht hi hz hsize hby hzs hb0 v n xs hv hown sv m news hx hs hbytes fun b cap w' hA => hK _ _ (h b cap w' hA)
/-- At a step of a region that draws. -/
theorem step_app {y : Nat → Option Bool} {o : Oper} {a : Act} {K : Act → World → Prop} {Q : Exit → Act → World → Prop} {E : Prop} (hgd : o.guard = none) (s x : Operand) (t tx : TypeId)
    (ho : o.op = .call { callee := .builtin .append, args := #[s, x], argTypes := #[t, tx] })
    (e : TypeId) (i : TypeInfo) (z : Value) (size bytes : Nat) (ht : P.underlying t = some (.slice e)) (hi : P.info? e = some i) (hz : i.zero = some z)
    (hsize : i.size = size) (hby : i.bytes = bytes) (hzs : z.cells.size = size) (hb0 : 0 < bytes)
    (v : Value) (n : Nat) (xs : List Value) (hv : a.eval s = v) (hown : w.ownsRow 0 e size v n xs)
    (sv : Value) (m : Nat) (news : List Value) (hx : a.eval x = sv) (hs : Src P size tx sv m news w) (hbytes : (n + m) * bytes ≤ 140737488355328)
    (h : ∀ b cap w', App w w' e size v (.slice b (n + m) cap) (n + m) (xs ++ news) → K (a.put o.dst (.slice b (n + m) cap)) w') :
    if Region.wanted o y = true then Oper.wp P o a w K Q else E := by
  have hw : Region.wanted o y = true := by simp [Region.wanted, hgd]
  rw [if_pos hw]
  exact wp_app s x t tx ho e i z size bytes ht hi hz hsize hby hzs hb0 v n xs hv hown sv m news hx hs hbytes h
/-- What is appended lies in a block that was laid just now. -/
theorem Src.ofBlock {size : Nat} {tx e' : TypeId} (hk : P.underlying tx = some (.slice e')) {B : Nat} {cs : Array Value} {t : TypeId} {fr : Nat × Nat} (hb : w.heap[B]? = some (.cells cs t fr)) (m c : Nat) (hl : cs.size = m * size)
    (h1 : ∀ u ∈ cs.toList, u.oneCell' = true) : Src P size tx (.slice (some ⟨B, 0, none⟩) m c) m cs.toList w :=
  Src.ofSlice w hk _ m c _ (by simpa using hl) (World.news_of_block hb) h1
/-- .. that was laid last. -/
theorem Src.ofNew {size : Nat} {tx e' : TypeId} (hk : P.underlying tx = some (.slice e')) (w : World) (cs : Array Value) (t B : Nat) (hB : w.heap.size = B) (m c : Nat) (hl : cs.size = m * size)
    (h1 : ∀ u ∈ cs.toList, u.oneCell' = true) : Src P size tx (.slice (some ⟨B, 0, none⟩) m c) m cs.toList (w.alloc (.cells cs t)) := by
  subst hB; exact Src.ofBlock hk (heap_alloc_new _ _) m c hl h1
/-- What is appended is a row that is owned. -/
theorem Src.ofOwn {size : Nat} {tx e' e : TypeId} (hk : P.underlying tx = some (.slice e')) {v : Value} {m : Nat} {news : List Value} (h : w.ownsRow 0 e size v m news) (h1 : ∀ u ∈ news, u.oneCell' = true) : Src P size tx v m news w := by
  obtain ⟨a, cap, rfl, _, _, _, hnil, hform⟩ := ownsRow_form h
  cases a with
  | none =>
    obtain ⟨rfl, rfl⟩ := hnil rfl
    have hx : news = [] := List.eq_nil_of_length_eq_zero (by simpa using h.1)
    subst hx
    exact Src.ofNil w hk 0
  | some ad =>
    obtain ⟨g, rfl⟩ := hform ad rfl
    exact Src.ofSlice w hk _ m cap news h.1 (h.cells rfl) h1
end
end Go.Proofs.YtodcnkbblippnaaGreatDoor
/- Points in the order of their times, as lists: what putting one does, what a question finds. Plain mathematics, no walk. -/
namespace Go.Proofs.YtodcnkbblippnaaGreatDoor

/-- A point: its time, its value. -/
abbrev Pt := Int × Int
/-- A point comes to a row: in place of one at its time. -/
def insP : List Pt → Int → Int → List Pt
  | [], t, v => [(t, v)]
  | (a, b) :: r, t, v => if a < t then (a, b) :: insP r t v else if a = t then (t, v) :: r else (t, v) :: (a, b) :: r
def Sorted (l : List Pt) : Prop := l.Pairwise fun x y => x.1 < y.1
theorem insP_mem {l : List Pt} {t v : Int} {x : Pt} (h : x ∈ insP l t v) : x = (t, v) ∨ x ∈ l := by
  induction l with
  | nil => simp [insP] at h; exact .inl h
  | cons e r ih =>
    obtain ⟨a, b⟩ := e
    simp only [insP] at h
    split at h
    · rcases List.mem_cons.1 h with h | h
      · exact .inr (by simp [h])
      · rcases ih h with h | h
        · exact .inl h
        · exact .inr (List.mem_cons_of_mem _ h)
    · split at h
      · rcases List.mem_cons.1 h with h | h
        · exact .inl h
        · exact .inr (List.mem_cons_of_mem _ h)
      · rcases List.mem_cons.1 h with h | h
        · exact .inl h
        · exact .inr h
theorem insP_sorted {l : List Pt} (h : Sorted l) (t v : Int) : Sorted (insP l t v) := by
  induction l with
  | nil => simp [insP, Sorted]
  | cons e r ih =>
    obtain ⟨a, b⟩ := e
    have h' := List.pairwise_cons.1 h
    simp only [insP]
    split
    · rename_i hlt
      refine List.pairwise_cons.2 ⟨fun x hx => ?_, ih h'.2⟩
      rcases insP_mem hx with rfl | hx
      · exact hlt
      · exact h'.1 x hx
    · rename_i hlt
      split
      · rename_i he
        subst he
        exact List.pairwise_cons.2 ⟨fun x hx => h'.1 x hx, h'.2⟩
      · rename_i he
        refine List.pairwise_cons.2 ⟨fun x hx => ?_, h⟩
        rcases List.mem_cons.1 hx with rfl | hx
        · show t < a; omega
        · have := h'.1 x hx; show t < x.1; simp only at this; omega
/-- Where a time stands, or would stand. -/
def posP (l : List Pt) (t : Int) : Nat := (l.takeWhile fun x => decide (x.1 < t)).length
theorem posP_le (l : List Pt) (t : Int) : posP l t ≤ l.length := by
  unfold posP; exact (List.takeWhile_sublist _).length_le
theorem posP_lt {l : List Pt} {t : Int} {i : Nat} (h : i < posP l t) (hl : i < l.length) : (l[i]'hl).1 < t := by
  unfold posP at h
  induction l generalizing i with
  | nil => simp at hl
  | cons e r ih =>
    by_cases he : e.1 < t
    · simp only [List.takeWhile_cons, he, decide_true, if_true, List.length_cons] at h
      cases i with
      | zero => exact he
      | succ i => simp only [List.getElem_cons_succ]; exact ih (by omega) _
    · simp [he] at h
theorem posP_ge {l : List Pt} (hs : Sorted l) {t : Int} {i : Nat} (h : posP l t ≤ i) (hl : i < l.length) : t ≤ (l[i]'hl).1 := by
  unfold posP at h
  induction l generalizing i with
  | nil => simp at hl
  | cons e r ih =>
    have hs' := List.pairwise_cons.1 hs
    by_cases he : e.1 < t
    · simp only [List.takeWhile_cons, he, decide_true, if_true, List.length_cons] at h
      cases i with
      | zero => omega
      | succ i => simp only [List.getElem_cons_succ]; exact ih hs'.2 (by omega) _
    · cases i with
      | zero => simp only [List.getElem_cons_zero]; omega
      | succ i =>
        have := hs'.1 (r[i]'(by simpa using hl)) (List.getElem_mem _)
        simp only [List.getElem_cons_succ]; omega
/-- The one place with that property. -/
theorem posP_unique {l : List Pt} (hs : Sorted l) {t : Int} {k : Nat} (hk : k ≤ l.length) (h1 : ∀ i (hi : i < l.length), i < k → (l[i]'hi).1 < t) (h2 : ∀ i (hi : i < l.length), k ≤ i → t ≤ (l[i]'hi).1) : posP l t = k := by
  rcases Nat.lt_trichotomy (posP l t) k with h | h | h
  · have hl : posP l t < l.length := by omega
    have := h1 _ hl h
    have := posP_ge hs (Nat.le_refl (posP l t)) hl
    omega
  · exact h
  · have hp := posP_le l t
    have hl : k < l.length := by omega
    have := posP_lt h hl
    have := h2 k hl (Nat.le_refl k)
    omega
theorem insP_eq (l : List Pt) (t v : Int) : insP l t v = l.take (posP l t) ++ (t, v) :: (if (l[posP l t]?).any (fun x => x.1 == t) then l.drop (posP l t + 1) else l.drop (posP l t)) := by
  unfold posP
  induction l with
  | nil => simp [insP]
  | cons e r ih =>
    obtain ⟨a, b⟩ := e
    simp only [insP]
    by_cases he : a < t
    · simp only [he, if_true, List.takeWhile_cons, decide_true, List.length_cons, List.take_succ_cons, List.drop_succ_cons, List.getElem?_cons_succ, List.cons_append, ih]
    · by_cases hq : a = t
      · subst hq; simp
      · simp [he, hq]
theorem insP_filter {l : List Pt} (hs : Sorted l) (p : Int → Bool) (t v : Int) : (insP l t v).filter (fun x => p x.1) = if p t then insP (l.filter fun x => p x.1) t v else l.filter (fun x => p x.1) := by
  induction l with
  | nil => by_cases hp : p t <;> simp [insP, hp]
  | cons e r ih =>
    obtain ⟨a, b⟩ := e
    have hs' := List.pairwise_cons.1 hs
    have ih := ih hs'.2
    simp only [insP]
    by_cases he : a < t
    · simp only [he, if_true, List.filter_cons, ih]
      by_cases hp : p t <;> by_cases ha : p a <;> simp [hp, ha, insP, he]
    · by_cases hq : a = t
      · subst hq
        simp only [he, if_false, if_true, List.filter_cons]
        by_cases hp : p a <;> simp [hp, insP]
      · simp only [he, hq, if_false, List.filter_cons]
        by_cases hp : p t
        · by_cases ha : p a
          · simp [hp, ha, insP, he, hq]
          · simp only [hp, ha, if_true]
            -- all that is left is later
            have hall : ∀ x ∈ r.filter (fun x => p x.1), t < x.1 := fun x hx => by
              have := hs'.1 x (List.mem_filter.1 hx).1
              simp only at this; omega
            cases hr : r.filter (fun x => p x.1) with
            | nil => simp [insP]
            | cons y ys =>
              obtain ⟨c, d⟩ := y
              have := hall (c, d) (by rw [hr]; simp)
              simp only at this
              have h1 : ¬ c < t := by omega
              have h2 : ¬ c = t := by omega
              simp [insP, h1, h2]
        · by_cases ha : p a <;> simp [hp, ha]
theorem Sorted.drop {l : List Pt} (h : Sorted l) (k : Nat) : Sorted (l.drop k) := List.Pairwise.sublist (List.drop_sublist k l) h
/-- Those from one time to another stand in one piece. -/
theorem filter_piece {l : List Pt} (hs : Sorted l) (a b : Int) : l.filter (fun x => decide (a ≤ x.1) && decide (x.1 < b)) = (l.take (posP l b)).drop (posP l a) := by
  unfold posP
  induction l with
  | nil => simp
  | cons e r ih =>
    have hs' := List.pairwise_cons.1 hs
    have ih := ih hs'.2
    by_cases hb : e.1 < b
    · by_cases ha : e.1 < a
      · have : ¬ a ≤ e.1 := by omega
        simp [ha, hb, this, ih]
      · have h1 : a ≤ e.1 := by omega
        have hz : r.takeWhile (fun x => decide (x.1 < a)) = [] := by
          cases r with
          | nil => rfl
          | cons y ys => have := hs'.1 y (by simp); rw [List.takeWhile_cons]; have : ¬ y.1 < a := by omega
                         simp [this]
        simp only [hz, List.length_nil, List.drop_zero] at ih
        simp [ha, hb, h1, ih]
    · have hf : ∀ x ∈ r, ¬ x.1 < b := fun x hx => by have := hs'.1 x hx; omega
      have : r.filter (fun x => decide (a ≤ x.1) && decide (x.1 < b)) = [] := by
        rw [List.filter_eq_nil_iff]; intro x hx; have := hf x hx; simp [this]
      simp [hb, this]
end Go.Proofs.YtodcnkbblippnaaGreatDoor
/- Walks: the document's answer: Config, Series, Alive, Ticked. -/
namespace Go.Proofs.YtodcnkbblippnaaGreatDoor
open Go.RowKit
attribute [local go_sem ↓] Go.wp_at_zero Go.wp_at_succ

/-- Is a point of this time alive? -/
def aliveB (t life clock : Int) : Bool := decide (t + life > clock)
def In64 (x : Int) : Prop := -9223372036854775808 ≤ x ∧ x ≤ 9223372036854775807
def tickedN (clock ticks : Int) : Int := if clock > 9223372036854775807 - ticks then 9223372036854775807 else clock + ticks
end Go.Proofs.YtodcnkbblippnaaGreatDoor
/- Points and Puts in memory: rows of them. No walk. -/
namespace Go.Proofs.YtodcnkbblippnaaGreatDoor
open Go.RowKit

def ptVals : List Pt → List Value
  | [] => []
  | (t, v) :: r => .int .i64 t :: .int .i64 v :: ptVals r
theorem ptVals_length (l : List Pt) : (ptVals l).length = l.length * 2 := by
  induction l with
  | nil => rfl
  | cons e r ih => obtain ⟨n, f⟩ := e; simp only [ptVals, List.length_cons, ih]; omega
theorem ptVals_append (a b : List Pt) : ptVals (a ++ b) = ptVals a ++ ptVals b := by
  induction a with
  | nil => rfl
  | cons e r ih => obtain ⟨n, f⟩ := e; simp [ptVals, ih]
theorem ptVals_take (l : List Pt) (k : Nat) : (ptVals l).take (k * 2) = ptVals (l.take k) := by
  induction l generalizing k with
  | nil => simp [ptVals]
  | cons e r ih =>
    obtain ⟨n, f⟩ := e
    match k with
    | 0 => simp [ptVals]
    | k + 1 => rw [show (k + 1) * 2 = k * 2 + 1 + 1 from by omega]; simp [ptVals, ih]
theorem ptVals_drop (l : List Pt) (k : Nat) : (ptVals l).drop (k * 2) = ptVals (l.drop k) := by
  induction l generalizing k with
  | nil => simp [ptVals]
  | cons e r ih =>
    obtain ⟨n, f⟩ := e
    match k with
    | 0 => simp [ptVals]
    | k + 1 => rw [show (k + 1) * 2 = k * 2 + 1 + 1 from by omega]; simp [ptVals, ih]
theorem ptVals_t (l : List Pt) (k : Nat) (h : k < l.length) : (ptVals l)[k * 2]? = some (.int .i64 (l[k]'h).1) := by
  induction l generalizing k with
  | nil => simp at h
  | cons e r ih =>
    obtain ⟨n, f⟩ := e
    match k with
    | 0 => simp [ptVals]
    | k + 1 =>
      have := ih k (by simpa using h)
      rw [show (k + 1) * 2 = k * 2 + 1 + 1 from by omega]
      simpa [ptVals] using this
theorem ptVals_v (l : List Pt) (k : Nat) (h : k < l.length) : (ptVals l)[k * 2 + 1]? = some (.int .i64 (l[k]'h).2) := by
  induction l generalizing k with
  | nil => simp at h
  | cons e r ih =>
    obtain ⟨n, f⟩ := e
    match k with
    | 0 => simp [ptVals]
    | k + 1 =>
      have := ih k (by simpa using h)
      rw [show (k + 1) * 2 + 1 = k * 2 + 1 + 1 + 1 from by omega]
      simpa [ptVals] using this
theorem ptVals_set (l : List Pt) (k : Nat) (p : Pt) (h : k < l.length) : ((ptVals l).set (k * 2) (.int .i64 p.1)).set (k * 2 + 1) (.int .i64 p.2) = ptVals (l.set k p) := by
  induction l generalizing k with
  | nil => simp at h
  | cons e r ih =>
    obtain ⟨n, f⟩ := e
    match k with
    | 0 => simp [ptVals]
    | k + 1 =>
      have := ih k (by simpa using h)
      rw [show (k + 1) * 2 = k * 2 + 1 + 1 from by omega]
      simp only [ptVals, List.set_cons_succ]
      rw [this]
theorem ptVals_oneCell (l : List Pt) : ∀ u ∈ ptVals l, u.oneCell' = true := by
  induction l with
  | nil => simp [ptVals]
  | cons e r ih =>
    obtain ⟨n, f⟩ := e
    intro u hu
    simp only [ptVals, List.mem_cons] at hu
    rcases hu with rfl | rfl | hu
    · rfl
    · rfl
    · exact ih u hu
/-- A row of points. -/
def PtSl (w : World) (v : Value) (l : List Pt) : Prop := w.ownsRow 0 70 2 v l.length (ptVals l)
theorem PtSl.cells {w : World} {g n cap : Nat} {l : List Pt} (h : PtSl w (.slice (some ⟨g, 0, none⟩) n cap) l) (k : Nat) (hk : k < l.length) : w.cell? ⟨g, k * 2, none⟩ = some (.int .i64 (l[k]'hk).1) ∧ w.cell? ⟨g, k * 2 + 1, none⟩ = some (.int .i64 (l[k]'hk).2) := by
  have hn : n = l.length := by
    obtain ⟨_, _, e, _⟩ := ownsRow_form h
    cases e; rfl
  subst hn
  exact ⟨ownsRow_cell h rfl (ptVals_t l k hk), ownsRow_cell h rfl (ptVals_v l k hk)⟩
/-- What was put: series, time, value. -/
abbrev Pu := Int × Int × Int
def puVals : List Pu → List Value
  | [] => []
  | (s, t, v) :: r => .int .i64 s :: .int .i64 t :: .int .i64 v :: puVals r
theorem puVals_append (a b : List Pu) : puVals (a ++ b) = puVals a ++ puVals b := by
  induction a with
  | nil => rfl
  | cons e r ih => obtain ⟨n, f, g⟩ := e; simp [puVals, ih]
theorem puVals_at (l : List Pu) (k : Nat) (h : k < l.length) : (puVals l)[k * 3]? = some (.int .i64 (l[k]'h).1) ∧ (puVals l)[k * 3 + 1]? = some (.int .i64 (l[k]'h).2.1) ∧ (puVals l)[k * 3 + 2]? = some (.int .i64 (l[k]'h).2.2) := by
  induction l generalizing k with
  | nil => simp at h
  | cons e r ih =>
    obtain ⟨n, f, g⟩ := e
    match k with
    | 0 => simp [puVals]
    | k + 1 =>
      obtain ⟨h1, h2, h3⟩ := ih k (by simpa using h)
      rw [show (k + 1) * 3 = k * 3 + 1 + 1 + 1 from by omega]
      refine ⟨by simpa [puVals] using h1, by simpa [puVals] using h2, by simpa [puVals] using h3⟩
theorem puVals_oneCell (l : List Pu) : ∀ u ∈ puVals l, u.oneCell' = true := by
  induction l with
  | nil => simp [puVals]
  | cons e r ih =>
    obtain ⟨n, f, g⟩ := e
    intro u hu
    simp only [puVals, List.mem_cons] at hu
    rcases hu with rfl | rfl | rfl | hu
    · rfl
    · rfl
    · rfl
    · exact ih u hu
end Go.Proofs.YtodcnkbblippnaaGreatDoor
