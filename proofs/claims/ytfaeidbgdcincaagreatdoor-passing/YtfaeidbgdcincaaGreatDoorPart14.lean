/-
  The statement WritesUptoCardSaid is proved: the law Writes answers true at every set and every script within the statement's bounds.
  Part 14 of 23.
-/
import Derived.Test.YtfaeidbgdcincaaGreatDoorPart13
import Derived.Test.YtfaeidbgdcincaaGreatDoorPart12
/- The store's block, its rows, and the mutex about each call. No walk. -/
namespace Go.Proofs.YtfaeidbgdcincaaGreatDoor
open Go.RowKit

/-- The same post, but for panics: none may come. -/
def NoP (Q : Exit → Act → World → Prop) : Exit → Act → World → Prop
  | .panic _, _, _ => False
  | e, a, w => Q e a w
theorem NoP_normal (Q : Exit → Act → World → Prop) (a : Act) (w : World) : NoP Q .normal a w = Q .normal a w := rfl
theorem NoP_imp {Q : Exit → Act → World → Prop} {e : Exit} {a : Act} {w : World} (h : NoP Q e a w) : Q e a w := by
  cases e with
  | panic _ => exact h.elim
  | _ => exact h
/-- One order serves for all, where the function defers: no panic may come. -/
theorem wp_region_schN {P : Program} {Q : Exit → Act → World → Prop} {id : Nat} {a : Act} {w : World} {l : List Oper} (S : World → Prop) (n : Nat) (sch : List (Nat × Bool)) (hm : P.follows .mixedOrders = true) (hB : schB l.toArray n sch = true)
    (hS : S w.drew) (h : wpSch P l.toArray (NoP Q) S (fun a w => wpList P l.toArray (NoP Q) (l.drop n) a w) sch a w.drew) : (Code.region id l.toArray true).wp P Q a w :=
  Code.wp_mono (fun _ _ _ h => NoP_imp h) (wp_region_sch S n sch hm hB (fun _ _ _ _ _ h => h) hS h)
/-- The cells of a store. -/
def stCells (mu : Int) (jv : Value) (life clock : Int) (ro : Bool) (lv : Nat → Value) : Array Value :=
  #[.int .i32 mu, .int .u32 0, jv, .int .i64 life, .int .i64 clock, .bool ro, lv 0, lv 1, lv 2, lv 3, lv 4, lv 5, lv 6, lv 7]
def SBlk (w : World) (sb : Nat) (mu : Int) (jv : Value) (life clock : Int) (ro : Bool) (lv : Nat → Value) : Prop :=
  w.heap[sb]? = some (.cells (stCells mu jv life clock ro lv) 107 (0, 0))
section
variable {w : World} {sb : Nat} {mu : Int} {jv : Value} {life clock : Int} {ro : Bool} {lv : Nat → Value}
theorem SBlk.c0 (h : SBlk w sb mu jv life clock ro lv) : w.cell? ⟨sb, 0, none⟩ = some (.int .i32 mu) := by unfold SBlk at h; simp [World.cell?, h, stCells]
theorem SBlk.c2 (h : SBlk w sb mu jv life clock ro lv) : w.cell? ⟨sb, 2, none⟩ = some jv := by unfold SBlk at h; simp [World.cell?, h, stCells]
theorem SBlk.c3 (h : SBlk w sb mu jv life clock ro lv) : w.cell? ⟨sb, 3, none⟩ = some (.int .i64 life) := by unfold SBlk at h; simp [World.cell?, h, stCells]
theorem SBlk.c4 (h : SBlk w sb mu jv life clock ro lv) : w.cell? ⟨sb, 4, none⟩ = some (.int .i64 clock) := by unfold SBlk at h; simp [World.cell?, h, stCells]
theorem SBlk.c5 (h : SBlk w sb mu jv life clock ro lv) : w.cell? ⟨sb, 5, none⟩ = some (.bool ro) := by unfold SBlk at h; simp [World.cell?, h, stCells]
theorem SBlk.fz (h : SBlk w sb mu jv life clock ro lv) (o : Nat) : w.frozen? ⟨sb, o, none⟩ = false := by unfold SBlk at h; simp [World.frozen?, h]
theorem SBlk.lt (h : SBlk w sb mu jv life clock ro lv) : sb < w.heap.size := lt_of_block h
theorem SBlk.chg {S : Nat → Prop} {w' : World} (h : SBlk w sb mu jv life clock ro lv) (hg : Chg S w w') (hr : ¬ S sb) : SBlk w' sb mu jv life clock ro lv := (hg.block sb h.lt hr).trans h
theorem SBlk.s0 (h : SBlk w sb mu jv life clock ro lv) (x : Int) : SBlk (w.setCell ⟨sb, 0, none⟩ (.int .i32 x)) sb x jv life clock ro lv := heap_setCell_at h
theorem SBlk.s4 (h : SBlk w sb mu jv life clock ro lv) (x : Int) : SBlk (w.setCell ⟨sb, 4, none⟩ (.int .i64 x)) sb mu jv life x ro lv := heap_setCell_at h
theorem SBlk.s5 (h : SBlk w sb mu jv life clock ro lv) (x : Bool) : SBlk (w.setCell ⟨sb, 5, none⟩ (.bool x)) sb mu jv life clock x lv := heap_setCell_at h
theorem stCells_row {mu : Int} {jv : Value} {life clock : Int} {ro : Bool} {lv : Nat → Value} {k : Nat} (hk : k < 8) : (stCells mu jv life clock ro lv)[6 + k]? = some (lv k) := by
  match k, hk with
  | 0, _ => rfl
  | 1, _ => rfl
  | 2, _ => rfl
  | 3, _ => rfl
  | 4, _ => rfl
  | 5, _ => rfl
  | 6, _ => rfl
  | 7, _ => rfl
def updR (lv : Nat → Value) (k : Nat) (v : Value) : Nat → Value := fun i => if i = k then v else lv i
theorem stCells_set {mu : Int} {jv : Value} {life clock : Int} {ro : Bool} {lv : Nat → Value} {k : Nat} (hk : k < 8) (v : Value) : (stCells mu jv life clock ro lv).setIfInBounds (6 + k) v = stCells mu jv life clock ro (updR lv k v) := by
  match k, hk with
  | 0, _ => rfl
  | 1, _ => rfl
  | 2, _ => rfl
  | 3, _ => rfl
  | 4, _ => rfl
  | 5, _ => rfl
  | 6, _ => rfl
  | 7, _ => rfl
end
/-- What the rows hold, and where. -/
structure RowsAt (w : World) (lv : Nat → Value) (L : Nat → List Pt) : Prop where
  row : ∀ k, k < 8 → PtSl w (lv k) (L k)
  sorted : ∀ k, k < 8 → Sorted (L k)
  small : ∀ k, k < 8 → (L k).length < 1099511627775
  sep : ∀ i j, i < 8 → j < 8 → i ≠ j → ∀ g, (lv i).ownBlock = some g → (lv j).ownBlock ≠ some g
/-- The blocks of the rows. -/
def rowsOwn (lv : Nat → Value) (g : Nat) : Prop := ∃ k, k < 8 ∧ (lv k).ownBlock = some g
theorem RowsAt.lt {w : World} {lv : Nat → Value} {L : Nat → List Pt} (h : RowsAt w lv L) {g : Nat} (hg : rowsOwn lv g) : g < w.heap.size := by
  obtain ⟨k, hk, e⟩ := hg; exact ownsRow_lt (h.row k hk) e
theorem RowsAt.chg {S : Nat → Prop} {w w' : World} {lv : Nat → Value} {L : Nat → List Pt} (h : RowsAt w lv L) (hc : Chg S w w') (hS : ∀ g, rowsOwn lv g → ¬ S g) : RowsAt w' lv L :=
  ⟨fun k hk => ownsRow_same (h.row k hk) fun g hg => hc.block g (ownsRow_lt (h.row k hk) hg) (hS g ⟨k, hk, hg⟩), h.sorted, h.small, h.sep⟩
theorem RowsAt.elem {w : World} {lv : Nat → Value} {L : Nat → List Pt} (h : RowsAt w lv L) {g : Nat} (hg : rowsOwn lv g) : ∃ c, w.heap[g]? = some (.cells c 73 (0, 0)) := by
  obtain ⟨k, hk, e⟩ := hg; exact ownsRow_elem (h.row k hk) e
theorem RowsAt.ne {w : World} {lv : Nat → Value} {L : Nat → List Pt} (h : RowsAt w lv L) {sb : Nat} {c : Array Value} {T : TypeId} (hb : w.heap[sb]? = some (.cells c T (0, 0))) (hT : T ≠ 73) : ¬ rowsOwn lv sb := fun hg => by
  obtain ⟨c', hh⟩ := h.elem hg
  rw [hb] at hh; cases hh; exact hT rfl
theorem RowsAt.rowIn {w : World} {lv : Nat → Value} {L : Nat → List Pt} (h : RowsAt w lv L) {sb : Nat} {mu : Int} {jv : Value} {life clock : Int} {ro : Bool} (hb : SBlk w sb mu jv life clock ro lv) {k : Nat} (hk : k < 8) :
    RowIn w sb (6 + k) (stCells mu jv life clock ro lv) 107 (L k) (lv k) :=
  ⟨hb, stCells_row hk, h.row k hk, h.sorted k hk, Nat.lt_trans (h.small k hk) (by decide)⟩
def updL (L : Nat → List Pt) (k : Nat) (l : List Pt) : Nat → List Pt := fun i => if i = k then l else L i
theorem updR_own {lv : Nat → Value} {k : Nat} {v : Value} {g : Nat} (h : rowsOwn (updR lv k v) g) : rowsOwn lv g ∨ v.ownBlock = some g := by
  obtain ⟨i, hi, e⟩ := h
  unfold updR at e
  split at e
  · exact .inr e
  · exact .inl ⟨i, hi, e⟩
/-- One row is turned. -/
theorem RowsAt.turn {w w' : World} {lv : Nat → Value} {L : Nat → List Pt} (h : RowsAt w lv L) {sb : Nat} {mu : Int} {jv : Value} {life clock : Int} {ro : Bool} (hb : SBlk w sb mu jv life clock ro lv) {k : Nat} (hk : k < 8) {L' : List Pt} {lv' : Value} {t : Nat}
    (hR : RowTo w w' sb (6 + k) (stCells mu jv life clock ro lv) t (lv k) L' lv') (ht : t = 107) (hl : L'.length < 1099511627775) :
    SBlk w' sb mu jv life clock ro (updR lv k lv') ∧ RowsAt w' (updR lv k lv') (updL L k L') ∧ Chg (fun x => x = sb ∨ rowsOwn lv x) w w' ∧ ∀ g, rowsOwn (updR lv k lv') g → rowsOwn lv g ∨ w.heap.size ≤ g := by
  subst ht
  have hblk := hR.row.blk
  rw [stCells_set hk] at hblk
  have hown : ∀ g, lv'.ownBlock = some g → (lv k).ownBlock = some g ∨ w.heap.size ≤ g := hR.own
  have hc : Chg (fun x => x = sb ∨ rowsOwn lv x) w w' := hR.chg.mono fun x _ hx => hx.imp id fun e => ⟨k, hk, e⟩
  have hnb := h.ne hb (by decide)
  refine ⟨hblk, ⟨?_, ?_, ?_, ?_⟩, hc, fun g hg => ?_⟩
  · intro i hi
    unfold updR updL
    by_cases e : i = k
    · simp only [e, if_true]; exact hR.row.row
    · simp only [e, if_false]
      exact ownsRow_same (h.row i hi) fun g hg => hR.chg.block g (ownsRow_lt (h.row i hi) hg) fun hx => by
        rcases hx with rfl | hx
        · exact hnb ⟨i, hi, hg⟩
        · exact h.sep k i hk hi (fun x => e x.symm) g hx hg
  · intro i hi
    unfold updL
    by_cases e : i = k
    · simp only [e, if_true]; exact hR.row.sorted
    · simp only [e, if_false]; exact h.sorted i hi
  · intro i hi
    unfold updL
    by_cases e : i = k
    · simp only [e, if_true]; exact hl
    · simp only [e, if_false]; exact h.small i hi
  · intro i j hi hj hij g hg hg'
    unfold updR at hg hg'
    by_cases e : i = k
    · subst e
      have e2 : ¬ j = i := fun x => hij x.symm
      simp only [if_true] at hg
      simp only [e2, if_false] at hg'
      rcases hown g hg with hx | hx
      · exact h.sep i j hk hj hij g hx hg'
      · have := ownsRow_lt (h.row j hj) hg'; omega
    · simp only [e, if_false] at hg
      by_cases e2 : j = k
      · subst e2
        simp only [if_true] at hg'
        rcases hown g hg' with hx | hx
        · exact h.sep i j hi hk hij g hg hx
        · have := ownsRow_lt (h.row i hi) hg; omega
      · simp only [e2, if_false] at hg'
        exact h.sep i j hi hj hij g hg hg'
  · rcases updR_own hg with hx | hx
    · exact .inl hx
    · rcases hown g hx with hy | hy
      · exact .inl ⟨k, hk, hy⟩
      · exact .inr hy
/-- Behind the lock. -/
theorem SBlk.locked {w : World} {sb : Nat} {jv : Value} {life clock : Int} {ro : Bool} {lv : Nat → Value} {L : Nat → List Pt} (h : SBlk w sb 0 jv life clock ro lv) (hr : RowsAt w lv L) :
    SBlk (w.setCell ⟨sb, 0, none⟩ (.int .i32 1)) sb 1 jv life clock ro lv ∧ RowsAt (w.setCell ⟨sb, 0, none⟩ (.int .i32 1)) lv L ∧ Chg (One sb) w (w.setCell ⟨sb, 0, none⟩ (.int .i32 1)) :=
  ⟨h.s0 1, hr.chg ((Chg.refl (One sb) w).setAt rfl 0 _) (fun g hg e => hr.ne h (by decide) (e ▸ hg)), (Chg.refl (One sb) w).setAt rfl 0 _⟩
/-- Nothing has turned but the lock, which is free again. -/
theorem SBlk.freed {w w' : World} {sb : Nat} {mu : Int} {jv : Value} {life clock : Int} {ro : Bool} {lv : Nat → Value} (h : SBlk w sb 0 jv life clock ro lv) (h' : SBlk w' sb mu jv life clock ro lv) (hc : Chg (One sb) w w') :
    Chg (fun _ => False) w (w'.setCell ⟨sb, 0, none⟩ (.int .i32 0)) := by
  have h2 := h'.s0 0
  have hc2 := hc.setAt (b := sb) rfl 0 (.int .i32 0)
  refine ⟨hc2.os, hc2.tape, hc2.output, hc2.size, fun k hk _ => ?_⟩
  by_cases e : k = sb
  · subst e; unfold SBlk at h h2; rw [h, h2]
  · exact hc2.block k hk e
end Go.Proofs.YtfaeidbgdcincaaGreatDoor
/- Walks: a store's questions: State, Query. -/
namespace Go.Proofs.YtfaeidbgdcincaaGreatDoor
open Go.RowKit Go.MuLone
attribute [local go_sem ↓] Go.wp_at_zero Go.wp_at_succ NoP_normal

section
variable {w : World} {sb : Nat} {jv : Value} {life clock : Int} {ro : Bool} {lv : Nat → Value} {L : Nat → List Pt}
set_option maxRecDepth 100000 in
set_option maxHeartbeats 1000000 in
theorem state_any (w : World) (h : SBlk w sb 0 jv life clock ro lv) :
    Calls Tryz.prog 30 #[.pointer (some ⟨sb, 0, none⟩)] w fun e w' => e = .returned (.agg #[.bool ro, .int .i64 clock]) ∧ Chg (fun _ => False) w w' := by
  have hA : ∀ o, SBlk (w.alloc o) sb 0 jv life clock ro lv := fun o => h.chg ((Chg.refl (fun _ => False) w).alloc o) (fun h => h)
  have HA := hide hA
  have H := hide h
  have hlt := h.lt
  clear hA h
  go_enter_defers Tryz.func30, Tryz.ntmps30
  go_wp2_with (go_at_call 56; refine (lock_free Tryz.muLib ⟨sb, 0, none⟩ _ (HA.out _).c0 ((HA.out _).fz 0)).mono ?_; rintro e w' ⟨rfl, rfl⟩)
  have hw1 : ∀ o, SBlk ((w.setCell ⟨sb, 0, none⟩ (.int .i32 1)).alloc o) sb 1 jv life clock ro lv ∧ Chg (One sb) w ((w.setCell ⟨sb, 0, none⟩ (.int .i32 1)).alloc o) := fun o =>
    ⟨(H.out.s0 1).chg ((Chg.refl (fun _ => False) _).alloc o) (fun h => h), ((Chg.refl (One sb) w).setAt rfl 0 _).alloc o⟩
  obtain ⟨hb1, hc1⟩ := hw1 (.cells #[.bool false, .int .i64 0] 64)
  have hn1 : ((w.setCell ⟨sb, 0, none⟩ (.int .i32 1)).alloc (.cells #[.bool false, .int .i64 0] 64)).heap[w.heap.size]? = some (.cells #[.bool false, .int .i64 0] 64 (0, 0)) := by
    have := heap_alloc_new (w.setCell ⟨sb, 0, none⟩ (.int .i32 1)) (.cells #[.bool false, .int .i64 0] 64)
    simpa using this
  generalize ((w.setCell ⟨sb, 0, none⟩ (.int .i32 1)).alloc (.cells #[.bool false, .int .i64 0] 64)) = w1 at hb1 hc1 hn1 ⊢
  clear hw1
  have c4 := hb1.c4
  have c5 := hb1.c5
  have r0 : w1.cell? ⟨w.heap.size, 0, none⟩ = some (.bool false) := by simp [World.cell?, hn1]
  have r1 : w1.cell? ⟨w.heap.size, 1, none⟩ = some (.int .i64 0) := by simp [World.cell?, hn1]
  have f0 : w1.frozen? ⟨w.heap.size, 0, none⟩ = false := by simp [World.frozen?, hn1]
  have f1 : w1.frozen? ⟨w.heap.size, 1, none⟩ = false := by simp [World.frozen?, hn1]
  have hne : sb ≠ w.heap.size := by omega
  have HB1 := hide hb1
  have HC1 := hide hc1
  clear hb1 hc1
  refine wp_region_schN (fun w' => w'.cell? ⟨sb, 4, none⟩ = some (.int .i64 clock) ∧ w'.cell? ⟨sb, 5, none⟩ = some (.bool ro)) 11
    [(0, true), (1, true), (2, true), (3, true), (4, true), (5, true), (6, true), (7, true), (8, false), (9, true), (10, false)] (by kernel_rfl) (by kernel_rfl) ⟨c4, c5⟩ ?_
  iterate 8 (refine wpSch_take (v := ?_) rfl (by rfl) ?_ ?_; rotate_left; (· (intro w' hS; (try dsimp only at hS); go_simp; try with_reducible rfl)); (try simp only [Act.put, List.setIfInBounds_toArray, List.set_cons_zero, List.set_cons_succ, List.getElem_toArray, List.getElem_cons_zero, List.getElem_cons_succ]))
  refine wpSch_do rfl (by rfl) (fun K hK => ?_)
  go_simp
  refine hK _ _ ⟨by simp [World.cell?_setCell_other, c4], by simp [World.cell?_setCell_other, c5]⟩ (fun hS => ?_)
  clear hK K hS
  (try simp only [Act.put, List.setIfInBounds_toArray, List.set_cons_zero, List.set_cons_succ, List.getElem_toArray, List.getElem_cons_zero, List.getElem_cons_succ])
  iterate 1 (refine wpSch_take (v := ?_) rfl (by rfl) ?_ ?_; rotate_left; (· (intro w' hS; (try dsimp only at hS); go_simp; try with_reducible rfl)); (try simp only [Act.put, List.setIfInBounds_toArray, List.set_cons_zero, List.set_cons_succ, List.getElem_toArray, List.getElem_cons_zero, List.getElem_cons_succ]))
  refine wpSch_do rfl (by rfl) (fun K hK => ?_)
  go_simp
  refine hK _ _ ⟨by simp [World.cell?_setCell_other, c4], by simp [World.cell?_setCell_other, c5]⟩ (fun hS => ?_)
  clear hK K hS
  (try simp only [Act.put, List.setIfInBounds_toArray, List.set_cons_zero, List.set_cons_succ, List.getElem_toArray, List.getElem_cons_zero, List.getElem_cons_succ])
  refine wpSch_end ?_
  simp only [List.drop_succ_cons, List.drop_zero]
  go_wp2
  rw [NoP_normal]
  go_wp2
  generalize hW : (((w1.setCell ⟨w.heap.size, 0, none⟩ (.bool false)).setCell ⟨w.heap.size, 1, none⟩ (.int .i64 0)).setCell ⟨w.heap.size, 0, none⟩ (.bool ro)).setCell ⟨w.heap.size, 1, none⟩ (.int .i64 clock) = w2
  have hb2 : SBlk w2 sb 1 jv life clock ro lv ∧ Chg (One sb) w w2 ∧ w2.heap[w.heap.size]? = some (.cells #[.bool ro, .int .i64 clock] 64 (0, 0)) := by
    subst hW
    refine ⟨?_, ?_, ?_⟩
    · exact HB1.out.chg (S := One w.heap.size) (((((Chg.refl (One w.heap.size) w1).setAt rfl 0 _).setAt rfl 1 _).setAt rfl 0 _).setAt rfl 1 _) hne
    · have n : ∀ (p : Addr), p.block = w.heap.size → p.block < w.heap.size → One sb p.block := fun p e h => by omega
      exact ((((HC1.out.setCell (n _ rfl) _).setCell (n _ rfl) _).setCell (n _ rfl) _).setCell (n _ rfl) _)
    · have := heap_setCell_at (o := 1) (v := .int .i64 clock) (heap_setCell_at (o := 0) (v := .bool ro) (heap_setCell_at (o := 1) (v := .int .i64 0) (heap_setCell_at (o := 0) (v := .bool false) hn1)))
      simpa using this
  refine leaves_cons (f := 57) (args := #[.pointer (some ⟨sb, 0, none⟩)]) (by simp) (by simp [go_sem]) ?_
  refine (unlock_deferred Tryz.muLib ⟨sb, 0, none⟩ .returning _ ?_ ?_).mono ?_
  · exact hb2.1.c0
  · exact hb2.1.fz 0
  rintro e u' w'' ⟨rfl, rfl, rfl⟩
  have d0 : w2.cell? ⟨w.heap.size, 0, none⟩ = some (.bool ro) := by simp [World.cell?, hb2.2.2]
  have d1 : w2.cell? ⟨w.heap.size, 1, none⟩ = some (.int .i64 clock) := by simp [World.cell?, hb2.2.2]
  refine ⟨_, ?_, rfl, H.out.freed (w' := w2.drew) hb2.1 hb2.2.1.drew⟩
  simp [results, Tryz.results30, go_sem, d0, d1]
set_option maxRecDepth 100000 in
set_option maxHeartbeats 1000000 in
theorem query_bad (w : World) (k a b : Int) (h : SBlk w sb 0 jv life clock ro lv) (hk : ¬ (0 ≤ k ∧ k < 8)) :
    Calls Tryz.prog 31 #[.pointer (some ⟨sb, 0, none⟩), .int .i64 k, .int .i64 a, .int .i64 b] w fun e w' => e = .returned (.tuple #[.slice none 0 0, .int .i64 2]) ∧ Chg (fun _ => False) w w' := by
  have H := hide h
  have IS : Hid (∀ w', Calls Tryz.prog 58 #[.int .i64 k] w' fun e w'' => e = .returned (.bool false) ∧ w' = w'') := fun w' => by
    have := isSeries_any w' k
    rwa [decide_eq_false hk] at this
  have c0 := h.c0
  have f0 := h.fz 0
  clear h hk
  go_enter_defers Tryz.func31, Tryz.ntmps31
  go_wp2_with (first
    | (go_at_call 56; refine (lock_free Tryz.muLib ⟨sb, 0, none⟩ _ c0 f0).mono ?_; rintro e w' ⟨rfl, rfl⟩)
    | (go_at_call 58; refine (IS.out _).mono ?_; rintro e w' ⟨rfl, rfl⟩))
  refine leaves_cons (f := 57) (args := #[.pointer (some ⟨sb, 0, none⟩)]) (by simp) (by simp [go_sem]) ?_
  refine (unlock_deferred Tryz.muLib ⟨sb, 0, none⟩ .returning _ ?_ ?_).mono ?_
  · exact (H.out.s0 1).c0
  · exact (H.out.s0 1).fz 0
  rintro e u' w'' ⟨rfl, rfl, rfl⟩
  exact ⟨_, results_tmp2 rfl _ _ _, rfl, H.out.freed (H.out.s0 1) ((Chg.refl (One sb) w).setAt rfl 0 _)⟩
set_option maxRecDepth 100000 in
set_option maxHeartbeats 2000000 in
theorem query_ok (w : World) (k : Nat) (a b : Int) (h : SBlk w sb 0 jv life clock ro lv) (hr : RowsAt w lv L) (hk : k < 8) (hl : 1 ≤ life ∧ life ≤ 4611686018427387904) (hc : In64 clock) :
    Calls Tryz.prog 31 #[.pointer (some ⟨sb, 0, none⟩), .int .i64 k, .int .i64 a, .int .i64 b] w fun e w' => ∃ v, e = .returned (.tuple #[v, .int .i64 0]) ∧
      PtSl w' v (piece (L k) (max a (oldestN clock life)) b) ∧ Chg (fun _ => False) w w' ∧ ∀ g, v.ownBlock = some g → w.heap.size ≤ g := by
  have IS : Hid (∀ w', Calls Tryz.prog 58 #[.int .i64 k] w' fun e w'' => e = .returned (.bool true) ∧ w' = w'') := fun w' => by
    have := isSeries_any w' k
    rwa [decide_eq_true (by omega)] at this
  have c0 := h.c0
  have f0 := h.fz 0
  obtain ⟨hb1, hr1, hc1⟩ := h.locked hr
  have OL : ∀ w', SBlk w' sb 1 jv life clock ro lv → _ := fun w' h' => oldest_any w' sb clock life h'.c3 h'.c4 hl hc
  obtain ⟨o, ho⟩ : ∃ o, oldestN clock life = o := ⟨_, rfl⟩
  rw [ho] at OL ⊢
  have BE : ∀ w', SBlk w' sb 1 jv life clock ro lv → RowsAt w' lv L → _ := fun w' h' h2' => between_any w' sb (6 + k) (L k) (lv k) (max a o) b (h2'.rowIn h' hk).toAt
  have hk1 : (0 : Int) ≤ (k : Int) := Int.natCast_nonneg _
  have hk2 : (k : Int) < 8 := by omega
  have H := hide h
  have HOL := hide OL
  have HBE := hide BE
  have HB1 := hide hb1
  have HR1 := hide hr1
  have HC1 := hide hc1
  clear h hr OL BE hb1 hr1 hc1 ho hl hc hk
  go_enter_defers Tryz.func31, Tryz.ntmps31
  go_wp2_with (first
    | (go_at_call 56; refine (lock_free Tryz.muLib ⟨sb, 0, none⟩ _ c0 f0).mono ?_; rintro e w' ⟨rfl, rfl⟩)
    | (go_at_call 58; refine (IS.out _).mono ?_; rintro e w' ⟨rfl, rfl⟩))
  generalize (w.setCell ⟨sb, 0, none⟩ (.int .i32 1)) = w1 at HB1 HR1 HC1 ⊢
  refine wp_region_schN (fun _ => True) 11
    [(0, true), (1, true), (2, true), (3, true), (4, true), (5, true), (6, true), (9, true), (7, false), (8, true), (10, false)] (by kernel_rfl) (by kernel_rfl) trivial ?_
  iterate 8 (refine wpSch_take (v := ?_) rfl (by rfl) ?_ ?_; rotate_left; (· (intro w' hS; (try dsimp only at hS); go_simp; try with_reducible rfl)); (try simp only [Act.put, List.setIfInBounds_toArray, List.set_cons_zero, List.set_cons_succ, List.getElem_toArray, List.getElem_cons_zero, List.getElem_cons_succ]))
  refine wpSch_do rfl (by rfl) (fun K hK => ?_)
  go_simp
  refine (HOL.out w1.drew HB1.out).mono ?_
  rintro e w2 ⟨rfl, hc2⟩
  refine hK _ _ trivial (fun hS => ?_)
  have H2 : Hid (SBlk w2 sb 1 jv life clock ro lv ∧ RowsAt w2 lv L ∧ Chg (One sb) w w2) :=
    have hc2' : Chg (fun _ => False) w1 w2 := ⟨hc2.os, hc2.tape, hc2.output, hc2.size, hc2.block⟩
    ⟨HB1.out.chg hc2' (fun h => h), HR1.out.chg hc2' (fun _ _ h => h), HC1.out.trans hc2' fun _ h _ => h.elim⟩
  clear hK K hS hc2 HB1 HR1 HC1 HOL
  (try simp only [Act.put, List.setIfInBounds_toArray, List.set_cons_zero, List.set_cons_succ, List.getElem_toArray, List.getElem_cons_zero, List.getElem_cons_succ])
  (refine wpSch_take (v := ?_) rfl (by rfl) ?_ ?_; rotate_left; (· (intro w' hS; (try dsimp only at hS); go_simp; try with_reducible rfl)); (try simp only [Act.put, List.setIfInBounds_toArray, List.set_cons_zero, List.set_cons_succ, List.getElem_toArray, List.getElem_cons_zero, List.getElem_cons_succ]))
  refine wpSch_do rfl (by rfl) (fun K hK => ?_)
  go_simp
  refine (HBE.out w2 H2.out.1 H2.out.2.1).mono ?_
  rintro e w3 ⟨v, rfl, hv, hc3, hf⟩
  refine hK _ _ trivial (fun hS => ?_)
  have H3 : Hid (SBlk w3 sb 1 jv life clock ro lv ∧ Chg (One sb) w w3) := ⟨H2.out.1.chg hc3 (fun h => h), H2.out.2.2.trans hc3 fun _ h _ => h.elim⟩
  have HV := hide hv
  have HF : Hid (∀ g, v.ownBlock = some g → w.heap.size ≤ g) := fun g hg => Nat.le_trans H2.out.2.2.size (hf g hg)
  have HL : Hid (∀ g, v.ownBlock = some g → g ≠ sb) := fun g hg e => by
    have := hf g hg; have := H2.out.1.lt; omega
  clear hK K hS hc3 hf hv H2 HBE
  (try simp only [Act.put, List.setIfInBounds_toArray, List.set_cons_zero, List.set_cons_succ, List.getElem_toArray, List.getElem_cons_zero, List.getElem_cons_succ])
  refine wpSch_end ?_
  simp only [List.drop_succ_cons, List.drop_zero]
  go_wp2
  rw [NoP_normal]
  go_wp2
  refine leaves_cons (f := 57) (args := #[.pointer (some ⟨sb, 0, none⟩)]) (by simp) (by simp [go_sem]) ?_
  refine (unlock_deferred Tryz.muLib ⟨sb, 0, none⟩ .returning _ ?_ ?_).mono ?_
  · exact H3.out.1.c0
  · exact H3.out.1.fz 0
  rintro e u' w'' ⟨rfl, rfl, rfl⟩
  exact ⟨_, results_tmp2 rfl _ _ _, v, rfl, ownsRow_same HV.out fun g hg => Below.heap_setCell _ _ _ _ (fun e => HL.out g hg (by simpa using e)), H.out.freed H3.out.1 H3.out.2, HF.out⟩
end
end Go.Proofs.YtfaeidbgdcincaaGreatDoor
/- Walk: time goes by: Tick. -/
namespace Go.Proofs.YtfaeidbgdcincaaGreatDoor
open Go.RowKit Go.MuLone
attribute [local go_sem ↓] Go.wp_at_zero Go.wp_at_succ NoP_normal

/-- What a call that turns a store alone leaves: its block and its rows' blocks. -/
def Own (sb : Nat) (lv : Nat → Value) (x : Nat) : Prop := x = sb ∨ rowsOwn lv x
structure StTo (w w' : World) (sb : Nat) (mu : Int) (jv : Value) (life clock : Int) (ro : Bool) (lv lv' : Nat → Value) (L' : Nat → List Pt) : Prop where
  blk : SBlk w' sb mu jv life clock ro lv'
  rows : RowsAt w' lv' L'
  chg : Chg (Own sb lv) w w'
  own : ∀ g, rowsOwn lv' g → rowsOwn lv g ∨ w.heap.size ≤ g
section
variable {w w' w2 : World} {sb : Nat} {mu mu' : Int} {jv : Value} {life clock clock' : Int} {ro ro' : Bool} {lv lv' lv2 : Nat → Value} {L L' L2 : Nat → List Pt}
theorem StTo.trans (h : StTo w w' sb mu jv life clock ro lv lv' L') (h2 : StTo w' w2 sb mu' jv life clock' ro' lv' lv2 L2) : StTo w w2 sb mu' jv life clock' ro' lv lv2 L2 :=
  ⟨h2.blk, h2.rows, h.chg.trans h2.chg fun x hx hlt => by
    rcases hx with hx | hx
    · exact .inl hx
    · rcases h.own x hx with hy | hy
      · exact .inr hy
      · omega, fun g hg => by
    rcases h2.own g hg with hx | hx
    · exact h.own g hx
    · exact .inr (Nat.le_trans h.chg.size hx)⟩
theorem StTo.of (hb : SBlk w' sb mu jv life clock ro lv) (hr : RowsAt w lv L) (hc : Chg (One sb) w w') (hn : ¬ rowsOwn lv sb) : StTo w w' sb mu jv life clock ro lv lv L :=
  ⟨hb, hr.chg hc (fun g hg e => hn (by cases e; exact hg)), hc.mono fun _ _ h => .inl h, fun _ h => .inl h⟩
theorem StTo.same (h : StTo w w' sb mu jv life clock ro lv lv' L') (hc : Chg (fun _ => False) w' w2) : StTo w w2 sb mu jv life clock ro lv lv' L' :=
  ⟨h.blk.chg hc (fun h => h), h.rows.chg hc (fun _ _ h => h), h.chg.trans hc fun _ h _ => h.elim, h.own⟩
theorem StTo.cell (h : StTo w w' sb mu jv life clock ro lv lv' L') (o : Nat) (u : Value) (hb : SBlk (w'.setCell ⟨sb, o, none⟩ u) sb mu' jv life clock' ro' lv') : StTo w (w'.setCell ⟨sb, o, none⟩ u) sb mu' jv life clock' ro' lv lv' L' :=
  ⟨hb, h.rows.chg ((Chg.refl (One sb) w').setAt rfl o u) (fun g hg e => h.rows.ne h.blk (by decide) (by cases e; exact hg)), h.chg.setAt (.inl rfl) o u, h.own⟩
/-- What is left of the rows. -/
def Forgot (L L' : Nat → List Pt) (o : Int) : Prop := ∀ i, i < 8 → L' i = L i ∨ L' i = (L i).drop (posP (L i) o)
theorem ticked_min (c x : Int) : min c (9223372036854775807 - x) + x = tickedN c x := by
  unfold tickedN; split <;> omega
theorem ticked_In64 {c x : Int} (hc : In64 c) (hx : 0 ≤ x) (hx2 : x ≤ 9223372036854775807) : In64 (tickedN c x) := by
  obtain ⟨h1, h2⟩ := hc
  unfold tickedN; split <;> constructor <;> omega
set_option maxRecDepth 100000 in
set_option maxHeartbeats 1000000 in
theorem tick_bad (w : World) (x : Int) (h : SBlk w sb 0 jv life clock ro lv) (hx : x < 0) :
    Calls Tryz.prog 25 #[.pointer (some ⟨sb, 0, none⟩), .int .i64 x] w fun e w' => e = .returned (.int .i64 3) ∧ Chg (fun _ => False) w w' := by
  have H := hide h
  have c0 := h.c0
  have f0 := h.fz 0
  clear h
  go_enter_defers Tryz.func25, Tryz.ntmps25
  go_wp2_with (go_at_call 56; refine (lock_free Tryz.muLib ⟨sb, 0, none⟩ _ c0 f0).mono ?_; rintro e w' ⟨rfl, rfl⟩)
  refine leaves_cons (f := 57) (args := #[.pointer (some ⟨sb, 0, none⟩)]) (by simp) (by simp [go_sem]) ?_
  refine (unlock_deferred Tryz.muLib ⟨sb, 0, none⟩ .returning _ ?_ ?_).mono ?_
  · exact (H.out.s0 1).c0
  · exact (H.out.s0 1).fz 0
  rintro e u' w'' ⟨rfl, rfl, rfl⟩
  exact ⟨_, results_tmp rfl _ _ _, rfl, H.out.freed (H.out.s0 1) ((Chg.refl (One sb) w).setAt rfl 0 _)⟩
set_option maxRecDepth 100000 in
set_option maxHeartbeats 2000000 in
theorem tick_ok (w : World) (x : Int) (h : SBlk w sb 0 jv life clock ro lv) (hr : RowsAt w lv L) (hx : 0 ≤ x ∧ x ≤ 9223372036854775807) (hl : 1 ≤ life ∧ life ≤ 4611686018427387904) (hc : In64 clock) :
    Calls Tryz.prog 25 #[.pointer (some ⟨sb, 0, none⟩), .int .i64 x] w fun e w' => e = .returned (.int .i64 0) ∧
      ∃ lv' L', StTo w w' sb 0 jv life (tickedN clock x) ro lv lv' L' ∧ Forgot L L' (oldestN (tickedN clock x) life) := by
  obtain ⟨hx1, hx2⟩ := hx
  have hc' := ticked_In64 hc hx1 hx2
  have ew1 : IntKind.i64.wrap (9223372036854775807 - x) = 9223372036854775807 - x := by simp [IntKind.wrap, IntKind.bits, IntKind.signed]; omega
  have ew2 : IntKind.i64.wrap (min clock (9223372036854775807 - x) + x) = tickedN clock x := by
    rw [ticked_min]; obtain ⟨h1, h2⟩ := hc'; simp [IntKind.wrap, IntKind.bits, IntKind.signed]; omega
  have c0 := h.c0
  have f0 := h.fz 0
  obtain ⟨hb1, hr1, hc1⟩ := h.locked hr
  have hn := hr.ne h (by decide)
  have d3 := hb1.c4
  have d3f := hb1.fz 4
  have ht1 : StTo w (w.setCell ⟨sb, 0, none⟩ (.int .i32 1)) sb 1 jv life clock ro lv lv L := StTo.of hb1 hr hc1 hn
  have HT2 : ∀ c', Hid (StTo w ((w.setCell ⟨sb, 0, none⟩ (.int .i32 1)).setCell ⟨sb, 4, none⟩ (.int .i64 c')) sb 1 jv life c' ro lv lv L) := fun c' => ht1.cell 4 _ (hb1.s4 c')
  obtain ⟨c', hcc⟩ : ∃ c', tickedN clock x = c' := ⟨_, rfl⟩
  rw [hcc] at ew2 hc' ⊢
  have HT := HT2 c'
  have OL : ∀ w' lv', SBlk w' sb 1 jv life c' ro lv' → _ := fun w' lv' h' => oldest_any w' sb c' life h'.c3 h'.c4 hl hc'
  obtain ⟨o, ho⟩ : ∃ o, oldestN c' life = o := ⟨_, rfl⟩
  rw [ho] at OL ⊢
  have HOL := hide OL
  clear h hr hb1 hr1 hc1 ht1 HT2 hcc hc' hl hc ho OL hn hx2
  go_enter_defers Tryz.func25, Tryz.ntmps25
  go_wp2_with (go_at_call 56; refine (lock_free Tryz.muLib ⟨sb, 0, none⟩ _ c0 f0).mono ?_; rintro e w' ⟨rfl, rfl⟩)
  clear c0 f0 d3 d3f ew1 ew2
  generalize ((w.setCell ⟨sb, 0, none⟩ (.int .i32 1)).setCell ⟨sb, 4, none⟩ (.int .i64 c')) = w1 at HT ⊢
  go_loopw [27] (fun iv wr => ∃ k : Nat, k ≤ 8 ∧ iv = .int .i64 k ∧ Hid (∃ lv' L', StTo w wr sb 1 jv life c' ro lv lv' L' ∧ Forgot L L' o ∧ ∀ i, k ≤ i → L' i = L i)) (fun iv _ => 8 - (intOf iv).toNat)
  case atStart => exact ⟨0, by omega, rfl, lv, L, HT.out, fun i _ => .inl rfl, fun i _ => rfl⟩
  case round =>
    obtain ⟨k, hk, rfl, hH⟩ := hrel
    obtain ⟨w0, hw0⟩ : ∃ w0, w0 = wr := ⟨_, rfl⟩
    subst hw0
    have k0 : (0 : Int) ≤ (k : Int) := Int.natCast_nonneg _
    by_cases hlk : k < 8
    · have k1 : (k : Int) < 8 := by omega
      have HH : Hid (∀ w2, (∃ lv' L', StTo w w2 sb 1 jv life c' ro lv lv' L' ∧ Forgot L L' o ∧ ∀ i, k ≤ i → L' i = L i) → Calls Tryz.prog 63 #[.pointer (some ⟨sb, 6 + k, none⟩), .int .i64 o] w2 fun e w' => e = .returned (.tuple #[]) ∧
          ∃ lv' L', StTo w w' sb 1 jv life c' ro lv lv' L' ∧ Forgot L L' o ∧ ∀ i, k + 1 ≤ i → L' i = L i) := fun w2 ⟨lv', L', a1, a2, a3⟩ => by
        refine (forget_any w2 sb (6 + k) _ _ (by decide) _ _ o (a1.rows.rowIn a1.blk hlk)).mono ?_
        rintro e w3 ⟨rfl, L2, v2, hL2, hR⟩
        have hlen : L2.length ≤ (L' k).length := by
          rcases hL2 with rfl | rfl
          · exact Nat.le_refl _
          · rw [List.length_drop]; omega
        obtain ⟨b1, b2, b3, b4⟩ := a1.rows.turn a1.blk hlk hR rfl (Nat.lt_of_le_of_lt hlen (a1.rows.small k hlk))
        refine ⟨rfl, updR lv' k v2, updL L' k L2, a1.trans ⟨b1, b2, b3, b4⟩, fun i hi => ?_, fun i hi => ?_⟩
        · unfold updL
          by_cases e : i = k
          · subst e
            simp only [if_true]
            rw [a3 i (Nat.le_refl _)] at hL2
            exact hL2
          · simp only [e, if_false]; exact a2 i hi
        · unfold updL
          rw [if_neg (by omega)]; exact a3 i (by omega)
      have HO : Hid (∀ w2, (∃ lv' L', StTo w w2 sb 1 jv life c' ro lv lv' L' ∧ Forgot L L' o ∧ ∀ i, k ≤ i → L' i = L i) → Calls Tryz.prog 64 #[.pointer (some ⟨sb, 0, none⟩)] w2 fun e w' => e = .returned (.int .i64 o) ∧ ∃ lv' L', StTo w w' sb 1 jv life c' ro lv lv' L' ∧ Forgot L L' o ∧ ∀ i, k ≤ i → L' i = L i) := fun w2 ⟨lv', L', a1, a2, a3⟩ => by
        refine (HOL.out w2 lv' a1.blk).mono ?_
        rintro e w3 ⟨rfl, hc⟩
        exact ⟨rfl, lv', L', a1.same hc, a2, a3⟩
      clear HOL HT
      go_wp2
      refine wp_region_schN (fun _ => True) 7
        [(0, true), (1, true), (2, true), (3, true), (4, true), (5, true), (6, false)] (by kernel_rfl) (by kernel_rfl) trivial ?_
      iterate 6 (refine wpSch_take (v := ?_) rfl (by rfl) ?_ ?_; rotate_left; (· (intro w' hS; (try dsimp only at hS); go_simp; try with_reducible rfl)); (try simp only [Act.put, List.setIfInBounds_toArray, List.set_cons_zero, List.set_cons_succ, List.getElem_toArray, List.getElem_cons_zero, List.getElem_cons_succ]))
      refine wpSch_do rfl (by rfl) (fun K hK => ?_)
      go_simp
      refine (HO.out w0.drew (by obtain ⟨lv', L', a1, a2⟩ := hH.out; exact ⟨lv', L', a1.same ((Chg.refl _ w0).drew), a2⟩)).mono ?_
      rintro e w2 ⟨rfl, h2⟩
      refine hK _ _ trivial (fun hS => ?_)
      have H2 := hide h2
      clear hK K hS h2 HO
      (try simp only [Act.put, List.setIfInBounds_toArray, List.set_cons_zero, List.set_cons_succ, List.getElem_toArray, List.getElem_cons_zero, List.getElem_cons_succ])
      refine wpSch_end ?_
      simp only [List.drop_succ_cons, List.drop_zero]
      go_wp2_with (go_at_call 63; refine (HH.out _ H2.out).mono ?_; rintro e w3 ⟨rfl, h3⟩; have H3 := hide h3; clear h3)
      rw [NoP_normal]
      go_wp2
      go_roundw
      case rel => exact ⟨k + 1, by omega, by go_num, H3.out⟩
      case measure => simp [intOf]; omega
    · obtain rfl : k = 8 := by omega
      clear HOL HT
      go_wp2
      refine leaves_cons (f := 57) (args := #[.pointer (some ⟨sb, 0, none⟩)]) (by simp) (by simp [go_sem]) ?_
      obtain ⟨lv', L', a1, a2, -⟩ := hH.out
      refine (unlock_deferred Tryz.muLib ⟨sb, 0, none⟩ .returning _ ?_ ?_).mono ?_
      · exact a1.blk.c0
      · exact a1.blk.fz 0
      rintro e u' w'' ⟨rfl, rfl, rfl⟩
      exact ⟨_, results_tmp rfl _ _ _, rfl, lv', L', a1.cell 0 _ (a1.blk.s0 0), a2⟩
end
end Go.Proofs.YtfaeidbgdcincaaGreatDoor
