/- Memory: what a call may change ('Chg'), and how a disk lies there: its block, the rows of entries and changes, the files and their bytes. No walk. -/
import Derived.Test.YtodcnkbblippnaaRows
import Derived.WalkKit
import Derived.WalkSpells
import Derived.WalkLawsBesides
import Derived.Deep.AppendLies
import Derived.Lib.Strings
namespace Go.Proofs.Ytodcnkbblippnaa
open Go.RowKit

/-- What a call has changed lies within S; nothing has gone. -/
structure Chg (S : Nat → Prop) (w w' : World) : Prop where
  os : w'.os = w.os
  tape : w'.tape = w.tape
  output : w'.output = w.output
  size : w.heap.size ≤ w'.heap.size
  block : ∀ k, k < w.heap.size → ¬ S k → w'.heap[k]? = w.heap[k]?
theorem Chg.refl (S : Nat → Prop) (w : World) : Chg S w w := ⟨rfl, rfl, rfl, Nat.le_refl _, fun _ _ _ => rfl⟩
theorem Chg.trans {S S' : Nat → Prop} {a b c : World} (h : Chg S a b) (k : Chg S' b c) (hs : ∀ x, S' x → x < a.heap.size → S x) : Chg S a c :=
  ⟨k.os.trans h.os, k.tape.trans h.tape, k.output.trans h.output, Nat.le_trans h.size k.size, fun i hi hn =>
    (k.block i (Nat.lt_of_lt_of_le hi h.size) (fun hx => hn (hs i hx hi))).trans (h.block i hi hn)⟩
theorem Chg.mono {S S' : Nat → Prop} {a b : World} (h : Chg S a b) (hs : ∀ x, x < a.heap.size → S x → S' x) : Chg S' a b :=
  ⟨h.os, h.tape, h.output, h.size, fun k hk hn => h.block k hk (fun hx => hn (hs k hk hx))⟩
theorem Chg.drew {S : Nat → Prop} {a w : World} (h : Chg S a w) : Chg S a w.drew := ⟨h.os, h.tape, h.output, h.size, h.block⟩
theorem Chg.drewN {S : Nat → Prop} {a w : World} (h : Chg S a w) (n : Nat) : Chg S a (w.drewN n) := ⟨h.os, h.tape, h.output, h.size, h.block⟩
theorem Chg.alloc {S : Nat → Prop} {a w : World} (h : Chg S a w) (o : Obj) : Chg S a (w.alloc o) :=
  ⟨h.os, h.tape, h.output, by have := h.size; simp; omega, fun k hk hn => (Below.heap_alloc _ _ _ (Nat.lt_of_lt_of_le hk h.size)).trans (h.block k hk hn)⟩
theorem Chg.setCell {S : Nat → Prop} {a w : World} (h : Chg S a w) {p : Addr} (hp : p.block < a.heap.size → S p.block) (u : Value) : Chg S a (w.setCell p u) :=
  ⟨h.os, h.tape, h.output, by simpa using h.size, fun k hk hn => (Below.heap_setCell _ _ _ _ (fun e => by subst e; exact hn (hp hk))).trans (h.block k hk hn)⟩
theorem Chg.grown {S : Nat → Prop} {a w w' : World} {row : Option Nat} (h : Chg S a w) (hg : w.grownBy w' row) (hr : ∀ k, row = some k → k < a.heap.size → S k) : Chg S a w' :=
  ⟨hg.os.trans h.os, hg.tape.trans h.tape, hg.output.trans h.output, Nat.le_trans h.size hg.size, fun k hk hn =>
    (hg.block k (Nat.lt_of_lt_of_le hk h.size) (fun e => hn (hr k e.symm hk))).trans (h.block k hk hn)⟩
theorem Chg.below {S : Nat → Prop} {a b : World} {B : Nat} (h : Chg S a b) (hB : B ≤ a.heap.size) (hs : ∀ k, k < B → ¬ S k) : Below B a b :=
  ⟨h.os, h.tape, h.output, h.size, fun k hk => h.block k (Nat.lt_of_lt_of_le hk hB) (hs k hk)⟩
theorem Chg.keep {S : Nat → Prop} {a b : World} (h : Chg S a b) {k : Nat} {o : Obj} (ho : a.heap[k]? = some o) (hn : ¬ S k) : b.heap[k]? = some o :=
  (h.block k (lt_of_block ho) hn).trans ho
/-- One block. -/
def One (b : Nat) : Nat → Prop := fun k => k = b
theorem Chg.setAt {S : Nat → Prop} {a w : World} (h : Chg S a w) {b : Nat} (hb : S b) (o : Nat) (u : Value) : Chg S a (w.setCell ⟨b, o, none⟩ u) := h.setCell (p := ⟨b, o, none⟩) (fun _ => hb) u
theorem hide {p : Prop} (h : p) : Hid p := h
/-- The same memory below: what the frame of a reading asks. -/
def Same (S : Nat → Prop) (w w' : World) : Prop := ∀ k, S k → w'.heap[k]? = w.heap[k]?
theorem Same.mono {S S' : Nat → Prop} {w w' : World} (h : Same S w w') (hs : ∀ k, S' k → S k) : Same S' w w' := fun k hk => h k (hs k hk)
theorem Chg.same {S T : Nat → Prop} {w w' : World} (h : Chg S w w') (hT : ∀ k, T k → k < w.heap.size) (hd : ∀ k, T k → ¬ S k) : Same T w w' := fun k hk => h.block k (hT k hk) (hd k hk)

theorem ownsRow_same {w w' : World} {base e size n : Nat} {v : Value} {xs : List Value} (h : w.ownsRow base e size v n xs) (hs : ∀ g, v.ownBlock = some g → w'.heap[g]? = w.heap[g]?) : w'.ownsRow base e size v n xs := by
  refine ⟨h.1, ?_⟩
  rcases h.2 with h2 | ⟨g, cap, cur, rfl, hb, hg, r⟩
  · exact .inl h2
  · exact .inr ⟨g, cap, cur, rfl, hb, by rw [hs g rfl]; exact hg, r⟩
theorem ownsRow_lt {w : World} {base e size n : Nat} {v : Value} {xs : List Value} (h : w.ownsRow base e size v n xs) {g : Nat} (hg : v.ownBlock = some g) : g < w.heap.size := (h.lt g hg).2
/-- A row's block bears its elements' type. -/
theorem ownsRow_elem {w : World} {base e size n : Nat} {v : Value} {xs : List Value} (h : w.ownsRow base e size v n xs) {g : Nat} (hg : v.ownBlock = some g) : ∃ cur, w.heap[g]? = some (.cells cur e (0, 0)) := by
  rcases h.2 with ⟨rfl, _⟩ | ⟨g', cap, cur, rfl, _, hh, _⟩
  · simp [Value.ownBlock] at hg
  · simp [Value.ownBlock] at hg; subst hg; exact ⟨cur, hh⟩
theorem ownsRow_cell {w : World} {base e size n : Nat} {v : Value} {xs : List Value} (h : w.ownsRow base e size v n xs) {g : Nat} (hg : v.ownBlock = some g) {j : Nat} {u : Value} (hu : xs[j]? = some u) : w.cell? ⟨g, j, none⟩ = some u := by
  have := h.cells hg j u hu
  unfold Addr.add at this
  split at this
  · rename_i h0; rw [h0]; exact this
  · simpa using this
theorem ownsRow_frozen {w : World} {base e size n : Nat} {v : Value} {xs : List Value} (h : w.ownsRow base e size v n xs) {g : Nat} (hg : v.ownBlock = some g) (j : Nat) : w.frozen? ⟨g, j, none⟩ = false := by
  obtain ⟨cur, hh⟩ := ownsRow_elem h hg
  simp [World.frozen?, hh]
theorem ownsRow_form {w : World} {base e size n : Nat} {v : Value} {xs : List Value} (h : w.ownsRow base e size v n xs) :
    ∃ a cap, v = .slice a n cap ∧ n ≤ cap ∧ cap ≤ maxLen ∧ (0 < n → ∃ g, a = some ⟨g, 0, none⟩) ∧ (a = none → n = 0 ∧ cap = 0) ∧ (∀ x, a = some x → ∃ g, x = ⟨g, 0, none⟩) := by
  rcases h.2 with ⟨rfl, h0⟩ | ⟨g, cap, cur, rfl, _, hg, hcap, hm, hs, _⟩
  · exact ⟨none, 0, by rw [h0], by omega, by decide, by omega, fun _ => ⟨h0, rfl⟩, fun x hx => by cases hx⟩
  · exact ⟨_, cap, rfl, hcap, hm, fun _ => ⟨g, rfl⟩, by simp, fun x hx => ⟨g, by cases hx; rfl⟩⟩
/-- Shortened (its room is kept). -/
theorem ownsRow_cut {w : World} {base e size n cap : Nat} {a : Option Addr} {xs : List Value} (h : w.ownsRow base e size (.slice a n cap) n xs) {m : Nat} (hm : m ≤ n) : w.ownsRow base e size (.slice a m cap) m (xs.take (m * size)) := by
  have hle : m * size ≤ n * size := Nat.mul_le_mul_right _ hm
  refine ⟨by rw [List.length_take, h.1]; omega, ?_⟩
  rcases h.2 with ⟨h1, h2⟩ | ⟨g, cap', cur, h1, hb, hg, hcap, hmx, hs, ht⟩
  · subst h2; cases h1; obtain rfl : m = 0 := by omega
    exact .inl ⟨rfl, rfl⟩
  · cases h1
    exact .inr ⟨g, cap, cur, rfl, hb, hg, by omega, hmx, hs, by rw [← ht, List.take_take, Nat.min_eq_left hle]⟩

/-- Strings are one where their bytes are. -/
theorem bytes_eq_iff (a b : ByteArray) : (a.toList == b.toList) = true ↔ a = b := by
  rw [beq_iff_eq, Lib.toList_data, Lib.toList_data]
  exact ⟨fun h => WideShapes.bytes_inj h, fun h => by rw [h]⟩
theorem bytes_ne_iff (a b : ByteArray) : (a.toList == b.toList) = false ↔ a ≠ b := by
  have := bytes_eq_iff a b
  constructor
  · intro h e; rw [this.2 e] at h; cases h
  · intro h; cases hx : (a.toList == b.toList) with
    | false => rfl
    | true => exact absurd (this.1 hx) h

/-! ## Entries -/
/-- A name and the block of its file. -/
abbrev Ent := ByteArray × Nat
def entVals : List Ent → List Value
  | [] => []
  | (n, f) :: r => .string n :: .pointer (some ⟨f, 0, none⟩) :: entVals r
theorem entVals_length (es : List Ent) : (entVals es).length = es.length * 2 := by
  induction es with
  | nil => rfl
  | cons e r ih => obtain ⟨n, f⟩ := e; simp only [entVals, List.length_cons, ih]; omega
theorem entVals_append (a b : List Ent) : entVals (a ++ b) = entVals a ++ entVals b := by
  induction a with
  | nil => rfl
  | cons e r ih => obtain ⟨n, f⟩ := e; simp [entVals, ih]
theorem entVals_take (es : List Ent) (k : Nat) : (entVals es).take (k * 2) = entVals (es.take k) := by
  induction es generalizing k with
  | nil => simp [entVals]
  | cons e r ih =>
    obtain ⟨n, f⟩ := e
    match k with
    | 0 => simp [entVals]
    | k + 1 => rw [show (k + 1) * 2 = k * 2 + 1 + 1 from by omega]; simp [entVals, ih]
theorem entVals_drop (es : List Ent) (k : Nat) : (entVals es).drop (k * 2) = entVals (es.drop k) := by
  induction es generalizing k with
  | nil => simp [entVals]
  | cons e r ih =>
    obtain ⟨n, f⟩ := e
    match k with
    | 0 => simp [entVals]
    | k + 1 => rw [show (k + 1) * 2 = k * 2 + 1 + 1 from by omega]; simp [entVals, ih]
theorem entVals_name (es : List Ent) (k : Nat) (h : k < es.length) : (entVals es)[k * 2]? = some (.string (es[k]'h).1) := by
  induction es generalizing k with
  | nil => simp at h
  | cons e r ih =>
    obtain ⟨n, f⟩ := e
    match k with
    | 0 => simp [entVals]
    | k + 1 =>
      have := ih k (by simpa using h)
      rw [show (k + 1) * 2 = k * 2 + 1 + 1 from by omega]
      simpa [entVals] using this
theorem entVals_ptr (es : List Ent) (k : Nat) (h : k < es.length) : (entVals es)[k * 2 + 1]? = some (.pointer (some ⟨(es[k]'h).2, 0, none⟩)) := by
  induction es generalizing k with
  | nil => simp at h
  | cons e r ih =>
    obtain ⟨n, f⟩ := e
    match k with
    | 0 => simp [entVals]
    | k + 1 =>
      have := ih k (by simpa using h)
      rw [show (k + 1) * 2 + 1 = k * 2 + 1 + 1 + 1 from by omega]
      simpa [entVals] using this
theorem entVals_oneCell (es : List Ent) : ∀ u ∈ entVals es, u.oneCell' = true := by
  induction es with
  | nil => simp [entVals]
  | cons e r ih =>
    obtain ⟨n, f⟩ := e
    intro u hu
    simp only [entVals, List.mem_cons] at hu
    rcases hu with rfl | rfl | hu
    · rfl
    · rfl
    · exact ih u hu
def EntSl (w : World) (v : Value) (es : List Ent) : Prop := w.ownsRow 0 50 2 v es.length (entVals es)
theorem EntSl.form {w : World} {v : Value} {es : List Ent} (h : EntSl w v es) :
    ∃ a cap, v = .slice a es.length cap ∧ es.length ≤ cap ∧ cap ≤ maxLen ∧ ∀ k (hk : k < es.length), ∃ g, a = some ⟨g, 0, none⟩ ∧ w.cell? ⟨g, k * 2, none⟩ = some (.string (es[k]'hk).1) ∧ w.cell? ⟨g, k * 2 + 1, none⟩ = some (.pointer (some ⟨(es[k]'hk).2, 0, none⟩)) := by
  rcases ownsRow_form h with ⟨a, cap, rfl, h1, h2, h3, _, _⟩
  refine ⟨a, cap, rfl, h1, h2, fun k hk => ?_⟩
  obtain ⟨g, rfl⟩ := h3 (by omega)
  exact ⟨g, rfl, ownsRow_cell h rfl (entVals_name es k hk), ownsRow_cell h rfl (entVals_ptr es k hk)⟩
/-- Where a name stands. -/
def fidx : List Ent → ByteArray → Int
  | [], _ => -1
  | e :: r, name => if e.1 = name then 0 else if fidx r name < 0 then -1 else fidx r name + 1
theorem fidx_hit (es : List Ent) (name : ByteArray) (k : Nat) (hk : k < es.length) (h : (es[k]'hk).1 = name) (hno : ∀ m (hm : m < k), (es[m]'(by omega)).1 ≠ name) : fidx es name = k := by
  induction es generalizing k with
  | nil => simp at hk
  | cons e r ih =>
    match k with
    | 0 => simp only [List.getElem_cons_zero] at h; simp [fidx, h]
    | k + 1 =>
      have h0 := hno 0 (by omega)
      simp only [List.getElem_cons_zero] at h0
      have := ih k (by simpa using hk) (by simpa using h) (fun m hm => by simpa using hno (m + 1) (by omega))
      simp only [fidx, h0, if_false, this]
      rw [if_neg (by omega)]; omega
theorem fidx_none (es : List Ent) (name : ByteArray) (hno : ∀ m (hm : m < es.length), (es[m]'hm).1 ≠ name) : fidx es name = -1 := by
  induction es with
  | nil => rfl
  | cons e r ih =>
    have h0 := hno 0 (by simp)
    simp only [List.getElem_cons_zero] at h0
    have := ih (fun m hm => by have := hno (m + 1) (by simp; omega); simpa using this)
    simp [fidx, h0, this]
theorem fidx_range (es : List Ent) (name : ByteArray) : -1 ≤ fidx es name ∧ fidx es name < es.length := by
  induction es with
  | nil => simp [fidx]
  | cons e r ih =>
    simp only [fidx, List.length_cons]
    split
    · omega
    · split <;> omega
theorem fidx_cases (es : List Ent) (name : ByteArray) : (fidx es name = -1 ∧ ∀ e ∈ es, e.1 ≠ name) ∨ ∃ k, ∃ hk : k < es.length, fidx es name = (k : Int) ∧ (es[k]'hk).1 = name := by
  induction es with
  | nil => exact .inl ⟨rfl, by simp⟩
  | cons e r ih =>
    by_cases h : e.1 = name
    · exact .inr ⟨0, by simp, by simp [fidx, h], by simpa using h⟩
    · rcases ih with ⟨h1, h2⟩ | ⟨k, hk, h1, h2⟩
      · exact .inl ⟨by simp [fidx, h, h1], fun x hx => by rcases List.mem_cons.1 hx with rfl | hx; exact h; exact h2 x hx⟩
      · exact .inr ⟨k + 1, by simpa using hk, by simp only [fidx, h, if_false, h1]; rw [if_neg (by omega)]; omega, by simpa using h2⟩

/-! ## The disk's own block -/
structure DN where
  room : Int
  calls : Int
  cut : Int
  fail : Int
  part : Int
  refused : Int
  fulls : Int
  dead : Bool
def dCells (vd vs vc : Value) (n : DN) : Array Value :=
  #[vd, vs, vc, .int .i64 n.room, .int .i64 n.calls, .int .i64 n.cut, .int .i64 n.fail, .int .i64 n.part, .int .i64 n.refused, .int .i64 n.fulls, .bool n.dead]
def DBlk (w : World) (b : Nat) (vd vs vc : Value) (n : DN) : Prop := w.heap[b]? = some (.cells (dCells vd vs vc n) 45 (0, 0))
section
variable {w : World} {b : Nat} {vd vs vc : Value} {n : DN}
theorem DBlk.c0 (h : DBlk w b vd vs vc n) : w.cell? ⟨b, 0, none⟩ = some vd := by unfold DBlk at h; simp [World.cell?, h, dCells]
theorem DBlk.c1 (h : DBlk w b vd vs vc n) : w.cell? ⟨b, 1, none⟩ = some vs := by unfold DBlk at h; simp [World.cell?, h, dCells]
theorem DBlk.c2 (h : DBlk w b vd vs vc n) : w.cell? ⟨b, 2, none⟩ = some vc := by unfold DBlk at h; simp [World.cell?, h, dCells]
theorem DBlk.c3 (h : DBlk w b vd vs vc n) : w.cell? ⟨b, 3, none⟩ = some (.int .i64 n.room) := by unfold DBlk at h; simp [World.cell?, h, dCells]
theorem DBlk.c4 (h : DBlk w b vd vs vc n) : w.cell? ⟨b, 4, none⟩ = some (.int .i64 n.calls) := by unfold DBlk at h; simp [World.cell?, h, dCells]
theorem DBlk.c5 (h : DBlk w b vd vs vc n) : w.cell? ⟨b, 5, none⟩ = some (.int .i64 n.cut) := by unfold DBlk at h; simp [World.cell?, h, dCells]
theorem DBlk.c6 (h : DBlk w b vd vs vc n) : w.cell? ⟨b, 6, none⟩ = some (.int .i64 n.fail) := by unfold DBlk at h; simp [World.cell?, h, dCells]
theorem DBlk.c7 (h : DBlk w b vd vs vc n) : w.cell? ⟨b, 7, none⟩ = some (.int .i64 n.part) := by unfold DBlk at h; simp [World.cell?, h, dCells]
theorem DBlk.c8 (h : DBlk w b vd vs vc n) : w.cell? ⟨b, 8, none⟩ = some (.int .i64 n.refused) := by unfold DBlk at h; simp [World.cell?, h, dCells]
theorem DBlk.c9 (h : DBlk w b vd vs vc n) : w.cell? ⟨b, 9, none⟩ = some (.int .i64 n.fulls) := by unfold DBlk at h; simp [World.cell?, h, dCells]
theorem DBlk.c10 (h : DBlk w b vd vs vc n) : w.cell? ⟨b, 10, none⟩ = some (.bool n.dead) := by unfold DBlk at h; simp [World.cell?, h, dCells]
theorem DBlk.fz (h : DBlk w b vd vs vc n) (o : Nat) : w.frozen? ⟨b, o, none⟩ = false := by unfold DBlk at h; simp [World.frozen?, h]
theorem DBlk.lt (h : DBlk w b vd vs vc n) : b < w.heap.size := lt_of_block h
theorem heap_setCell_at {w : World} {b : Nat} {c : Array Value} {e : Nat} {o : Nat} {v : Value} (h : w.heap[b]? = some (.cells c e (0, 0))) : (w.setCell ⟨b, o, none⟩ v).heap[b]? = some (.cells (c.setIfInBounds o v) e (0, 0)) := by
  simp [World.setCell, Array.getElem?_modify, h]
theorem DBlk.same {w' : World} (h : DBlk w b vd vs vc n) (he : w'.heap[b]? = w.heap[b]?) : DBlk w' b vd vs vc n := he.trans h
theorem DBlk.alloc (h : DBlk w b vd vs vc n) (o : Obj) : DBlk (w.alloc o) b vd vs vc n := h.same (Below.heap_alloc _ _ _ h.lt)
theorem DBlk.grown {w' : World} {row : Option Nat} (h : DBlk w b vd vs vc n) (hg : w.grownBy w' row) (hr : row ≠ some b) : DBlk w' b vd vs vc n := h.same (hg.block b h.lt (fun e => hr e.symm))
theorem DBlk.chg {S : Nat → Prop} {w' : World} (h : DBlk w b vd vs vc n) (hg : Chg S w w') (hr : ¬ S b) : DBlk w' b vd vs vc n := h.same (hg.block b h.lt hr)
theorem DBlk.s0 (h : DBlk w b vd vs vc n) (v : Value) : DBlk (w.setCell ⟨b, 0, none⟩ v) b v vs vc n := heap_setCell_at h
theorem DBlk.s1 (h : DBlk w b vd vs vc n) (v : Value) : DBlk (w.setCell ⟨b, 1, none⟩ v) b vd v vc n := heap_setCell_at h
theorem DBlk.s2 (h : DBlk w b vd vs vc n) (v : Value) : DBlk (w.setCell ⟨b, 2, none⟩ v) b vd vs v n := heap_setCell_at h
theorem DBlk.s4 (h : DBlk w b vd vs vc n) (x : Int) : DBlk (w.setCell ⟨b, 4, none⟩ (.int .i64 x)) b vd vs vc { n with calls := x } := heap_setCell_at h
theorem DBlk.s5 (h : DBlk w b vd vs vc n) (x : Int) : DBlk (w.setCell ⟨b, 5, none⟩ (.int .i64 x)) b vd vs vc { n with cut := x } := heap_setCell_at h
theorem DBlk.s6 (h : DBlk w b vd vs vc n) (x : Int) : DBlk (w.setCell ⟨b, 6, none⟩ (.int .i64 x)) b vd vs vc { n with fail := x } := heap_setCell_at h
theorem DBlk.s7 (h : DBlk w b vd vs vc n) (x : Int) : DBlk (w.setCell ⟨b, 7, none⟩ (.int .i64 x)) b vd vs vc { n with part := x } := heap_setCell_at h
theorem DBlk.s8 (h : DBlk w b vd vs vc n) (x : Int) : DBlk (w.setCell ⟨b, 8, none⟩ (.int .i64 x)) b vd vs vc { n with refused := x } := heap_setCell_at h
theorem DBlk.s9 (h : DBlk w b vd vs vc n) (x : Int) : DBlk (w.setCell ⟨b, 9, none⟩ (.int .i64 x)) b vd vs vc { n with fulls := x } := heap_setCell_at h
theorem DBlk.s10 (h : DBlk w b vd vs vc n) (x : Bool) : DBlk (w.setCell ⟨b, 10, none⟩ (.bool x)) b vd vs vc { n with dead := x } := heap_setCell_at h
end

/-! ## Files -/
def FBlk (w : World) (f : Nat) (vb : Value) (safe : Int) : Prop := w.heap[f]? = some (.cells #[vb, .int .i64 safe] 54 (0, 0))
section
variable {w : World} {f : Nat} {vb : Value} {safe : Int}
theorem FBlk.c0 (h : FBlk w f vb safe) : w.cell? ⟨f, 0, none⟩ = some vb := by unfold FBlk at h; simp [World.cell?, h]
theorem FBlk.c1 (h : FBlk w f vb safe) : w.cell? ⟨f, 1, none⟩ = some (.int .i64 safe) := by unfold FBlk at h; simp [World.cell?, h]
theorem FBlk.fz (h : FBlk w f vb safe) (o : Nat) : w.frozen? ⟨f, o, none⟩ = false := by unfold FBlk at h; simp [World.frozen?, h]
theorem FBlk.s0 (h : FBlk w f vb safe) (v : Value) : FBlk (w.setCell ⟨f, 0, none⟩ v) f v safe := heap_setCell_at h
theorem FBlk.s1 (h : FBlk w f vb safe) (x : Int) : FBlk (w.setCell ⟨f, 1, none⟩ (.int .i64 x)) f vb x := heap_setCell_at h
end
def byteVals (bs : List UInt8) : List Value := bs.map fun b => .int .u8 b.toNat
def BSl (w : World) (v : Value) (bs : List UInt8) : Prop := w.ownsRow 0 5 1 v bs.length (byteVals bs)
theorem byteVals_append (a b : List UInt8) : byteVals (a ++ b) = byteVals a ++ byteVals b := List.map_append
theorem byteVals_length (a : List UInt8) : (byteVals a).length = a.length := List.length_map _

theorem Chg.ofBelow {S : Nat → Prop} {w w' : World} (h : Below w.heap.size w w') : Chg S w w' := ⟨h.os, h.tape, h.output, h.size, fun k hk _ => h.block k hk⟩
theorem Chg.cellKeep {w w' : World} (h : Chg (fun _ => False) w w') {p : Addr} {v : Value} (hc : w.cell? p = some v) : w'.cell? p = some v := by
  have hlt : p.block < w.heap.size := by
    rcases Nat.lt_or_ge p.block w.heap.size with h | h
    · exact h
    · unfold World.cell? at hc
      rw [Array.getElem?_eq_none h] at hc
      simp at hc
  unfold World.cell? at hc ⊢
  rw [h.block _ hlt (fun h => h)]
  exact hc
end Go.Proofs.Ytodcnkbblippnaa
