/-
  The statement PassingCardSaid is proved: the law Passing answers true, at every four numbers; there is no condition.
  Part 24 of 34.
-/
import Derived.Test.YtodcnkbblippnaaGreatDoorPart23
import Derived.Test.YtodcnkbblippnaaGreatDoorPart02
/- Walks: places are held against each other, their windows first: the comparison that inWindows sorts by. -/
namespace Go.Proofs.YtodcnkbblippnaaGreatDoor
open Go.RowKit
attribute [local go_sem ↓] NoP_normal

/-- By windows, then by places. -/
def cmpW (len : Int) (p q : Pu) : Int := orI (cmpI (winOf p.2.1 len) (winOf q.2.1 len)) (cmpPu p q)
theorem cmpI_lt {x y : Int} : cmpI x y < 0 ↔ x < y := by
  unfold cmpI; split
  · simp_all
  · split <;> simp_all
theorem cmpI_zero {x y : Int} : cmpI x y = 0 ↔ x = y := by
  unfold cmpI; split
  · constructor <;> intro h <;> omega
  · split
    · constructor <;> intro h <;> omega
    · constructor <;> intro h <;> omega
theorem cmpPu_lt {p q : Pu} : cmpPu p q < 0 ↔ (p.1 < q.1 ∨ p.1 = q.1 ∧ p.2.1 < q.2.1) := by
  unfold cmpPu
  by_cases h : cmpI p.1 q.1 = 0
  · rw [if_neg (by simpa using h), cmpI_lt]
    have := cmpI_zero.1 h
    constructor
    · exact fun hx => .inr ⟨this, hx⟩
    · rintro (hx | ⟨_, hx⟩)
      · omega
      · exact hx
  · rw [if_pos h, cmpI_lt]
    have : ¬ p.1 = q.1 := fun e => h (cmpI_zero.2 e)
    constructor
    · exact fun hx => .inl hx
    · rintro (hx | ⟨hx, _⟩)
      · exact hx
      · exact absurd hx this
theorem cmpW_lt {len : Int} {p q : Pu} : cmpW len p q < 0 ↔ keyLt len p q = true := by
  unfold cmpW orI keyLt
  rw [decide_eq_true_iff]
  by_cases h : cmpI (winOf p.2.1 len) (winOf q.2.1 len) = 0
  · rw [if_neg (by simpa using h), cmpPu_lt]
    have := cmpI_zero.1 h
    constructor
    · exact fun hx => .inr ⟨this, hx⟩
    · rintro (hx | ⟨_, hx⟩)
      · omega
      · exact hx
  · rw [if_pos h, cmpI_lt]
    have : ¬ winOf p.2.1 len = winOf q.2.1 len := fun e => h (cmpI_zero.2 e)
    constructor
    · exact fun hx => .inl hx
    · rintro (hx | ⟨hx, _⟩)
      · exact hx
      · exact absurd hx this
theorem keyWeak (len : Int) : Weak (keyLt len) := by
  refine ⟨fun x => ?_, fun x y z => ?_, fun x y z => ?_⟩
  · unfold keyLt; simp
  · unfold keyLt; simp only [decide_eq_true_eq]; omega
  · unfold keyLt; simp only [decide_eq_true_eq]; omega
theorem cmpW_range (len : Int) (p q : Pu) : cmpW len p q = -1 ∨ cmpW len p q = 0 ∨ cmpW len p q = 1 := by
  unfold cmpW orI; split
  · exact cmpI_range _ _
  · exact cmpPu_range _ _
set_option maxRecDepth 100000 in
set_option maxHeartbeats 4000000 in
theorem cmpW_any (w : World) (wb : Nat) (len : Int) (p q : Pu) (hp : In64 p.2.1) (hq : In64 q.2.1) (hl : 1 ≤ len ∧ len ≤ 4611686018427387904) (hw : w.cell? ⟨wb, 0, none⟩ = some (.int .i64 len)) :
    Calls Tryz.prog 155 #[puAgg p, puAgg q, .pointer (some ⟨wb, 0, none⟩)] w fun e w' => e = .returned (.int .i64 (cmpW len p q)) ∧ Chg (fun _ => False) w w' := by
  obtain ⟨p1, p2, p3⟩ := p
  obtain ⟨q1, q2, q3⟩ := q
  unfold cmpW puAgg
  dsimp only at hp hq ⊢
  have CI := hide (compare_int)
  have OR := hide (or2_any)
  have WO := hide (fun wx t (ht : In64 t) => windowOf_any wx t len ht hl)
  have PC := hide (fun wx => putCompare_any wx (p1, p2, p3) (q1, q2, q3))
  unfold puAgg at PC
  dsimp only at PC
  obtain ⟨x, hx⟩ : ∃ x, winOf p2 len = x := ⟨_, rfl⟩
  obtain ⟨y, hy⟩ : ∃ y, winOf q2 len = y := ⟨_, rfl⟩
  have WO1 := hide (fun wx => WO.out wx p2 hp)
  have WO2 := hide (fun wx => WO.out wx q2 hq)
  rw [hx] at WO1
  rw [hy] at WO2
  rw [hx, hy]
  obtain ⟨r, hr⟩ : ∃ r, cmpI x y = r := ⟨_, rfl⟩
  obtain ⟨s, hs⟩ : ∃ s, cmpPu (p1, p2, p3) (q1, q2, q3) = s := ⟨_, rfl⟩
  have CI1 := hide (fun wx => CI.out wx x y)
  rw [hr] at CI1
  rw [hs] at PC
  rw [hr, hs]
  clear hx hy hr hs WO CI
  have b1 : PuBlk ((w.alloc (.cells #[.int .i64 p1, .int .i64 p2, .int .i64 p3] 113)).alloc (.cells #[.int .i64 q1, .int .i64 q2, .int .i64 q3] 113)) w.heap.size p1 p2 p3 := (Below.heap_alloc _ _ _ (by simp)).trans (heap_alloc_new w _)
  have b2 : PuBlk ((w.alloc (.cells #[.int .i64 p1, .int .i64 p2, .int .i64 p3] 113)).alloc (.cells #[.int .i64 q1, .int .i64 q2, .int .i64 q3] 113)) (w.heap.size + 1) q1 q2 q3 := by
    have := heap_alloc_new (w.alloc (.cells #[.int .i64 p1, .int .i64 p2, .int .i64 p3] 113)) (.cells #[.int .i64 q1, .int .i64 q2, .int .i64 q3] 113)
    simpa [PuBlk] using this
  have k2 : Chg (fun _ => False) w ((w.alloc (.cells #[.int .i64 p1, .int .i64 p2, .int .i64 p3] 113)).alloc (.cells #[.int .i64 q1, .int .i64 q2, .int .i64 q3] 113)) := ((Chg.refl _ w).alloc _).alloc _
  have sz : ((w.alloc (.cells #[.int .i64 p1, .int .i64 p2, .int .i64 p3] 113)).alloc (.cells #[.int .i64 q1, .int .i64 q2, .int .i64 q3] 113)).heap.size = w.heap.size + 2 := by simp
  have B1 := hide b1
  have B2 := hide b2
  have K2 := hide k2
  have SZ := hide sz
  have HW := hide (k2.cellKeep hw)
  clear b1 b2 k2 sz hw hp hq hl
  go_enter Tryz.func155, Tryz.ntmps155
  go_wp2
  generalize ((w.alloc (.cells #[.int .i64 p1, .int .i64 p2, .int .i64 p3] 113)).alloc (.cells #[.int .i64 q1, .int .i64 q2, .int .i64 q3] 113)) = w2 at B1 B2 K2 SZ HW ⊢
  have SS : Hid (∀ wx, Chg (fun _ => False) w2 wx → wx.cell? ⟨w.heap.size, 0, none⟩ = some (.int .i64 p1) ∧ wx.cell? ⟨w.heap.size, 1, none⟩ = some (.int .i64 p2) ∧ wx.cell? ⟨w.heap.size, 2, none⟩ = some (.int .i64 p3) ∧ wx.cell? ⟨w.heap.size + 1, 0, none⟩ = some (.int .i64 q1) ∧ wx.cell? ⟨w.heap.size + 1, 1, none⟩ = some (.int .i64 q2) ∧ wx.cell? ⟨w.heap.size + 1, 2, none⟩ = some (.int .i64 q3) ∧ wx.cell? ⟨wb, 0, none⟩ = some (.int .i64 len)) := fun wx hx => by
    have e1 := B1.out.keep hx (fun h => h)
    have e2 := B2.out.keep hx (fun h => h)
    exact ⟨e1.c0, e1.c1, e1.c2, e2.c0, e2.c1, e2.c2, hx.cellKeep HW.out⟩
  have hS0 := SS.out w2.drew (Chg.refl _ w2).drew
  refine wp_region_sch (fun w' => w'.cell? ⟨w.heap.size, 0, none⟩ = some (.int .i64 p1) ∧ w'.cell? ⟨w.heap.size, 1, none⟩ = some (.int .i64 p2) ∧ w'.cell? ⟨w.heap.size, 2, none⟩ = some (.int .i64 p3) ∧ w'.cell? ⟨w.heap.size + 1, 0, none⟩ = some (.int .i64 q1) ∧ w'.cell? ⟨w.heap.size + 1, 1, none⟩ = some (.int .i64 q2) ∧ w'.cell? ⟨w.heap.size + 1, 2, none⟩ = some (.int .i64 q3) ∧ w'.cell? ⟨wb, 0, none⟩ = some (.int .i64 len)) 16
    [(0, true), (1, true), (2, true), (3, true), (5, true), (6, true), (7, true), (8, true), (11, true), (12, true), (4, false), (9, false), (10, false), (13, false), (14, false), (15, false)] (by kernel_rfl) (by kernel_rfl) (fun _ _ _ _ _ h => h) hS0 ?_
  iterate 10 (refine wpSch_take (v := ?_) rfl (by rfl) ?_ ?_; rotate_left; (· (intro w' hS; (try dsimp only at hS); go_simp; try with_reducible rfl)); (try simp only [Act.put, List.setIfInBounds_toArray, List.set_cons_zero, List.set_cons_succ, List.getElem_toArray, List.getElem_cons_zero, List.getElem_cons_succ]))
  refine wpSch_do rfl (by rfl) (fun K hK => ?_)
  go_simp
  refine (WO1.out _).mono ?_
  rintro e w3 ⟨rfl, rfl⟩
  refine hK _ _ hS0 (fun hS => ?_)
  clear hK K hS
  (try simp only [Act.put, List.setIfInBounds_toArray, List.set_cons_zero, List.set_cons_succ, List.getElem_toArray, List.getElem_cons_zero, List.getElem_cons_succ])
  refine wpSch_do rfl (by rfl) (fun K hK => ?_)
  go_simp
  refine (WO2.out _).mono ?_
  rintro e w3 ⟨rfl, rfl⟩
  refine hK _ _ hS0 (fun hS => ?_)
  clear hK K hS
  (try simp only [Act.put, List.setIfInBounds_toArray, List.set_cons_zero, List.set_cons_succ, List.getElem_toArray, List.getElem_cons_zero, List.getElem_cons_succ])
  refine wpSch_do rfl (by rfl) (fun K hK => ?_)
  go_simp
  refine (CI1.out _).mono ?_
  rintro e w3 ⟨rfl, rfl⟩
  refine hK _ _ hS0 (fun hS => ?_)
  clear hK K hS
  (try simp only [Act.put, List.setIfInBounds_toArray, List.set_cons_zero, List.set_cons_succ, List.getElem_toArray, List.getElem_cons_zero, List.getElem_cons_succ])
  refine wpSch_do rfl (by rfl) (fun K hK => ?_)
  go_simp
  refine (PC.out _).mono ?_
  rintro e w4 ⟨rfl, hc4⟩
  have k4 : Chg (fun _ => False) w2 w4 := ((Chg.refl (fun _ => False) w2).drew).trans hc4 fun _ h _ => h
  refine hK _ _ (SS.out w4 k4) (fun hS => ?_)
  have K4 := hide k4
  clear hK K hS hc4 k4 hS0
  (try simp only [Act.put, List.setIfInBounds_toArray, List.set_cons_zero, List.set_cons_succ, List.getElem_toArray, List.getElem_cons_zero, List.getElem_cons_succ])
  refine wpSch_do rfl (by rfl) (fun K hK => ?_)
  go_simp
  have hb : (w4.alloc (.cells #[.int .i64 r, .int .i64 s] 3)).heap[w4.heap.size]? = some (.cells #[.int .i64 r, .int .i64 s] 3) := heap_alloc_new w4 _
  have k5 : Chg (fun _ => False) w2 (w4.alloc (.cells #[.int .i64 r, .int .i64 s] 3)) := K4.out.alloc _
  refine hK _ _ (SS.out _ k5) (fun hS => ?_)
  have K5 := hide k5
  have OR1 := hide (OR.out (w4.alloc (.cells #[.int .i64 r, .int .i64 s] 3)) w4.heap.size r s (by simp only [World.cell?, hb]; rfl) (by simp only [World.cell?, hb]; rfl))
  clear hK K hS hb k5
  (try simp only [Act.put, List.setIfInBounds_toArray, List.set_cons_zero, List.set_cons_succ, List.getElem_toArray, List.getElem_cons_zero, List.getElem_cons_succ])
  refine wpSch_do rfl (by rfl) (fun K hK => ?_)
  go_simp
  refine OR1.out.mono ?_
  rintro e w5 ⟨rfl, rfl⟩
  refine hK _ _ (SS.out _ K5.out) (fun hS => ?_)
  clear hK K hS
  (try simp only [Act.put, List.setIfInBounds_toArray, List.set_cons_zero, List.set_cons_succ, List.getElem_toArray, List.getElem_cons_zero, List.getElem_cons_succ])
  refine wpSch_end ?_
  simp only [List.drop_succ_cons, List.drop_zero]
  go_wp2
  go_ret
  exact ⟨rfl, K2.out.trans K5.out fun _ h _ => h⟩
end Go.Proofs.YtodcnkbblippnaaGreatDoor
/- A law on regions that draw their order, no walk: as 'wp_region_sch', but one operation of the head (the bar) may break S: what reads under S is waited for by it; what may come behind it yields whatever the world is. -/
namespace Go.Proofs.YtodcnkbblippnaaGreatDoor
open Go
section
variable {P : Program} {ops : Array Oper} {md : Region.Mode} {Q : Exit → Act → World → Prop}
/-- S holds till the bar is through. -/
def SB (bar : Nat) (S : World → Prop) (listed : Array Bool) (w : World) : Prop := listed.getD bar false = true ∨ S w
theorem SB.set {bar i : Nat} {S : World → Prop} {listed : Array Bool} {w : World} (hi : i ≠ bar) : SB bar S (listed.setIfInBounds i true) w ↔ SB bar S listed w := by
  unfold SB
  have : (listed.setIfInBounds i true).getD bar false = listed.getD bar false := by simp [Array.getD_eq_getD_getElem?, Array.getElem?_setIfInBounds_ne hi]
  rw [this]
def wpAnyL (P : Program) (md : Region.Mode) (ops : Array Oper) (Q : Exit → Act → World → Prop) (S : Array Bool → World → Prop) (n : Nat) (L : Array Bool → Act → World → Prop) : Nat → Array Bool → Act → World → Prop
  | 0, listed, a, w => L listed a w
  | f + 1, listed, a, w => Region.ready md ops listed ≠ [] ∧ ∀ i ∈ Region.ready md ops listed, i < n ∧ wpOp P ops Q i (fun a' w' => S (listed.setIfInBounds i true) w' ∧ wpAnyL P md ops Q S n L f (listed.setIfInBounds i true) a' w') a w
theorem wpAny_of_headL {S : Array Bool → World → Prop} {n g : Nat} {L : Array Bool → Act → World → Prop} (hL : ∀ listed a w, L listed a w → wpAny P md ops Q g listed a w) :
    ∀ (f : Nat) (listed : Array Bool) (a : Act) (w : World), wpAnyL P md ops Q S n L f listed a w → wpAny P md ops Q (f + g) listed a w
  | 0, listed, a, w, h => by rw [Nat.zero_add]; exact hL _ _ _ h
  | f + 1, listed, a, w, h => by
    rw [show f + 1 + g = (f + g) + 1 from by omega]
    exact ⟨fun h0 => absurd h0 h.1, fun i hi => wpOp_mono (fun a' w' h' => wpAny_of_headL hL f _ a' w' h'.2) (h.2 i hi).2⟩
theorem wpAnyL_first {S0 : World → Prop} {SN : World → Prop} {bar n i : Nat} {oi : Oper} {v : Value} {L : Array Bool → Act → World → Prop} (hib : i ≠ bar) (hi : ops[i]? = some oi) (hsel : ∀ (j : Nat) (o : Oper) cs b, ops[j]? = some o → o.op ≠ .select cs b)
    (hQ : ∀ c a w, Q (.panic c) (a.put oi.dst v) w → Q (.panic c) a w)
    (hs : Region.sinkB md ops n = true) (hc : Region.chainB md ops n = true) (hn : n < ops.size) (hin : i < n)
    (hSN : ∀ listed w, HeadInv md ops n listed → i ∈ Region.ready md ops listed → SB bar S0 listed w → SN w)
    (hdone : ∀ listed a w, L listed a w → ∀ j ∈ Region.ready md ops listed, n ≤ j) :
    ∀ (f : Nat) (listed : Array Bool) (a : Act) (w : World), HeadInv md ops n listed →
      (∀ j oj, ops[j]? = some oj → j ≠ i → listed.getD j true = false → (∀ e ∈ oj.after, Region.binds md e = true → e.on ≠ i) → oi.apart ops oj = true) →
      i ∈ Region.ready md ops listed → YieldsIf P ops SN oi v a → SB bar S0 listed w →
      wpAnyL P md ops Q (SB bar S0) n L f (listed.setIfInBounds i true) (a.put oi.dst v) w → wpAnyL P md ops Q (SB bar S0) n L (f + 1) listed a w := by
  intro f
  induction f with
  | zero =>
    intro listed a w inv _ hr hy hS H
    have hun := (mem_ready.1 hr).1
    refine ⟨fun h => (by rw [h] at hr; cases hr), fun j hj => ?_⟩
    have hjn : j < n := by
      rcases Nat.lt_or_ge j n with h | h
      · exact h
      · exact absurd hj (tail_waits hs hc hn inv _ i rfl hin hun j h)
    refine ⟨hjn, ?_⟩
    by_cases hji : j = i
    · subst hji; exact hy.wpOp hi (hSN _ _ inv hr hS) ⟨(SB.set hib).2 hS, H⟩
    · have := hdone _ _ _ H j (ready_mono hj hji)
      omega
  | succ f ih =>
    intro listed a w inv hfree hr hy hS H
    have hun := (mem_ready.1 hr).1
    refine ⟨fun h => (by rw [h] at hr; cases hr), fun j hj => ?_⟩
    have hjn : j < n := by
      rcases Nat.lt_or_ge j n with h | h
      · exact h
      · exact absurd hj (tail_waits hs hc hn inv _ i rfl hin hun j h)
    refine ⟨hjn, ?_⟩
    by_cases hji : j = i
    · subst hji; exact hy.wpOp hi (hSN _ _ inv hr hS) ⟨(SB.set hib).2 hS, H⟩
    · have h1 := (H.2 j (ready_mono hj hji)).2
      obtain ⟨hjun, oj, hoj, hall⟩ := mem_ready.1 hj
      have hnot : ∀ e ∈ oj.after, Region.binds md e = true → e.on ≠ i := fun e he hb heq => by
        have h1 := hall e he hb
        rw [heq, getD_both hun] at h1
        cases h1
      have h2 := wpOp_putIf hoj (hfree j oj hoj hji hjun hnot) (fun cs b => hsel i oi cs b hi) (fun cs b => hsel j oj cs b hoj) hQ hy h1
      have hfree' : ∀ k ok, ops[k]? = some ok → k ≠ i → (listed.setIfInBounds j true).getD k true = false →
          (∀ e ∈ ok.after, Region.binds md e = true → e.on ≠ i) → oi.apart ops ok = true := fun k ok hk hki hun hno => by
        refine hfree k ok hk hki ?_ hno
        by_cases hjk : j = k
        · subst hjk; exact hjun
        · rw [getD_set_ne true hjk] at hun; exact hun
      refine wpOp_mono (fun a' w' h3 => ?_) h2
      have h4 := h3.2.1
      rw [Array.setIfInBounds_comm _ _ (Ne.symm hji)] at h4
      have h5 := (SB.set hib).1 h4
      refine ⟨h5, ih (listed.setIfInBounds j true) a' w' (inv.set hj hjn) hfree' (ready_mono hr (Ne.symm hji)) h3.1 h5 ?_⟩
      rw [Array.setIfInBounds_comm _ _ hji]
      exact h3.2.2
/-- One order, written out: number, and its kind (0: done; 1: it yields where S holds; 2: it yields whatever the world is). -/
def wpSchB (P : Program) (ops : Array Oper) (Q : Exit → Act → World → Prop) (bar : Nat) (S : World → Prop) (T : Act → World → Prop) : List (Nat × Nat) → Act → World → Prop
  | [], a, w => T a w
  | (i, 0) :: r, a, w => wpOp P ops Q i (fun a' w' => (i = bar ∨ S w') ∧ wpSchB P ops Q bar S T r a' w') a w
  | (i, 1) :: r, a, w => ∃ o v, ops[i]? = some o ∧ YieldsIf P ops S o v a ∧ wpSchB P ops Q bar S T r (a.put o.dst v) w
  | (i, _ + 2) :: r, a, w => ∃ o v, ops[i]? = some o ∧ YieldsIf P ops (fun _ => True) o v a ∧ wpSchB P ops Q bar S T r (a.put o.dst v) w
/-- The bar waits for i. -/
def waitsB (md : Region.Mode) (ops : Array Oper) (bar i : Nat) : Bool := match ops[bar]? with
  | some o => o.after.any fun e => Region.binds md e && decide (e.on = i)
  | none => false
def schGoB (md : Region.Mode) (ops : Array Oper) (bar n : Nat) : List (Nat × Nat) → Array Bool → Bool
  | [], listed => Region.seqB md ops (ops.size - n) n listed
  | (i, 0) :: r, listed => decide (i < n) && decide (Region.ready md ops listed = [i]) && schGoB md ops bar n r (listed.setIfInBounds i true)
  | (i, 1) :: r, listed => decide (i < n) && ((Region.ready md ops listed).contains i && Region.free md ops listed i) && (decide (i ≠ bar) && waitsB md ops bar i) && schGoB md ops bar n r (listed.setIfInBounds i true)
  | (i, _ + 2) :: r, listed => decide (i < n) && ((Region.ready md ops listed).contains i && Region.free md ops listed i) && decide (i ≠ bar) && schGoB md ops bar n r (listed.setIfInBounds i true)
def schBB (ops : Array Oper) (bar n : Nat) (sch : List (Nat × Nat)) : Bool :=
  Region.noSelect ops && decide (n < ops.size) && decide (sch.length = n) && Region.sinkB .any ops n && Region.chainB .any ops n && schGoB .any ops bar n sch (Array.replicate ops.size false)
theorem waits_spec {bar i n : Nat} {S : World → Prop} {listed : Array Bool} {w : World} (h : waitsB md ops bar i = true) (inv : HeadInv md ops n listed) (hr : i ∈ Region.ready md ops listed) (hS : SB bar S listed w) : S w := by
  rcases hS with hb | hS
  · unfold waitsB at h
    cases ho : ops[bar]? with
    | none => rw [ho] at h; cases h
    | some o =>
      rw [ho] at h
      obtain ⟨e, he, h2⟩ := Array.any_eq_true'.1 h
      simp only [Bool.and_eq_true, decide_eq_true_eq] at h2
      have := inv.closed bar o ho hb e he h2.1
      rw [h2.2, getD_both (mem_ready.1 hr).1] at this
      cases this
  · exact hS
theorem wpAnyL_of_sch {bar n : Nat} {S : World → Prop} {T : Act → World → Prop} (hsel : Region.noSelect ops = true) (hs : Region.sinkB md ops n = true) (hc : Region.chainB md ops n = true) (hn : n < ops.size)
    (hQ : ∀ c a t v w, Q (.panic c) (Act.put a (some t) v) w → Q (.panic c) a w) :
    ∀ (sch : List (Nat × Nat)) (listed : Array Bool) (a : Act) (w : World), HeadInv md ops n listed → schGoB md ops bar n sch listed = true → SB bar S listed w → wpSchB P ops Q bar S T sch a w →
    wpAnyL P md ops Q (SB bar S) n (fun listed' a' w' => Region.seqB md ops (ops.size - n) n listed' = true ∧ T a' w') sch.length listed a w
  | [], listed, a, w, _, hB, _, h => ⟨hB, h⟩
  | (i, 0) :: r, listed, a, w, inv, hB, hS, h => by
    simp only [schGoB, Bool.and_eq_true, decide_eq_true_eq] at hB
    obtain ⟨⟨hin, hr⟩, hB'⟩ := hB
    refine ⟨by rw [hr]; simp, fun j hj => ?_⟩
    have hr' : i ∈ Region.ready md ops listed := by rw [hr]; simp
    rw [hr] at hj
    have : j = i := by simpa using hj
    subst this
    refine ⟨hin, wpOp_mono (fun a' w' h' => ?_) h⟩
    have hS' : SB bar S (listed.setIfInBounds j true) w' := by
      rcases h'.1 with rfl | h1
      · refine .inl ?_
        have : j < listed.size := by rw [inv.size]; omega
        simp [this]
      · exact .inr h1
    exact ⟨hS', wpAnyL_of_sch hsel hs hc hn hQ r _ a' w' (inv.set hr' hin) hB' hS' h'.2⟩
  | (i, 1) :: r, listed, a, w, inv, hB, hS, h => by
    simp only [schGoB, Bool.and_eq_true, decide_eq_true_eq] at hB
    obtain ⟨⟨⟨hin, hr, hf⟩, hib, hwt⟩, hB'⟩ := hB
    obtain ⟨o, v, h0, hy, hK⟩ := h
    have hr' : i ∈ Region.ready md ops listed := by simpa using hr
    exact wpAnyL_first hib h0 (Region.noSelect_spec hsel) (fun c a w => by cases o.dst with | none => exact id | some t => exact hQ c a t v w) hs hc hn hin (fun l w inv hr hS => waits_spec hwt inv hr hS) (fun listed' a' w' hL => seqB_ready hL.1) r.length listed a w inv (Region.free_spec h0 hf) hr' hy hS
      (wpAnyL_of_sch hsel hs hc hn hQ r _ _ w (inv.set hr' hin) hB' ((SB.set hib).2 hS) hK)
  | (i, k + 2) :: r, listed, a, w, inv, hB, hS, h => by
    simp only [schGoB, Bool.and_eq_true, decide_eq_true_eq] at hB
    obtain ⟨⟨⟨hin, hr, hf⟩, hib⟩, hB'⟩ := hB
    obtain ⟨o, v, h0, hy, hK⟩ := h
    have hr' : i ∈ Region.ready md ops listed := by simpa using hr
    exact wpAnyL_first hib h0 (Region.noSelect_spec hsel) (fun c a w => by cases o.dst with | none => exact id | some t => exact hQ c a t v w) hs hc hn hin (fun _ _ _ _ _ => trivial) (fun listed' a' w' hL => seqB_ready hL.1) r.length listed a w inv (Region.free_spec h0 hf) hr' hy hS
      (wpAnyL_of_sch hsel hs hc hn hQ r _ _ w (inv.set hr' hin) hB' ((SB.set hib).2 hS) hK)
end
section
variable {P : Program} {ops : Array Oper} {Q : Exit → Act → World → Prop} {bar : Nat} {S : World → Prop} {T : Act → World → Prop}
/-- **One order serves for all, though the bar breaks S.** -/
theorem wp_region_schB {id : Nat} {a : Act} {w : World} {l : List Oper} (bar : Nat) (S : World → Prop) (n : Nat) (sch : List (Nat × Nat)) (hm : P.follows .mixedOrders = true) (hB : schBB l.toArray bar n sch = true)
    (hQ : ∀ c a t v w, Q (.panic c) (Act.put a (some t) v) w → Q (.panic c) a w) (hS : S w.drew)
    (h : wpSchB P l.toArray Q bar S (fun a w => wpList P l.toArray Q (l.drop n) a w) sch a w.drew) : (Code.region id l.toArray true).wp P Q a w := by
  simp only [schBB, Bool.and_eq_true, decide_eq_true_eq] at hB
  obtain ⟨⟨⟨⟨⟨hsel, hn⟩, hsl⟩, hs⟩, hc⟩, hgo⟩ := hB
  have hn' : n < l.length := by simpa using hn
  have hdl : (l.drop n).length = l.toArray.size - n := by simp
  have inv0 : HeadInv .any l.toArray n (Array.replicate l.toArray.size false) :=
    ⟨by simp, fun j oj _ hl => (by rw [getD_replicate_false] at hl; cases hl), fun t _ ht => getD_in (by simpa using ht) (getD_replicate_false _ _)⟩
  have H := wpAnyL_of_sch (md := .any) (T := fun a w => wpList P l.toArray Q (l.drop n) a w) hsel hs hc hn hQ sch _ a w.drew inv0 hgo (.inr hS) h
  refine wp_region_any hm ?_
  have := wpAny_of_headL (Q := Q) (g := l.toArray.size - n) (fun listed a' w' hL => by
    have := wpAny_of_seq (md := .any) (Q' := Q) (l.drop n) n listed a' w' (fun j => by simp [List.getElem?_drop]) (by rw [hdl]; exact hL.1) hL.2
    rwa [hdl] at this) _ _ _ _ H
  rw [hsl, show n + (l.toArray.size - n) = l.toArray.size from by omega] at this
  exact this
theorem wpSchB_take {i : Nat} {o : Oper} {v : Value} {r : List (Nat × Nat)} {a : Act} {w : World} (ho : ops[i]? = some o) (hw : Region.wanted o (yielded ops a.tmps) = true)
    (hy : ∀ w, S w → (execOp a.eval o).run P w = .ok (.value v) w) (h : wpSchB P ops Q bar S T r (a.put o.dst v) w) : wpSchB P ops Q bar S T ((i, 1) :: r) a w :=
  ⟨o, v, ho, .inl ⟨hw, hy⟩, h⟩
theorem wpSchB_free {i : Nat} {o : Oper} {v : Value} {r : List (Nat × Nat)} {a : Act} {w : World} (ho : ops[i]? = some o) (hw : Region.wanted o (yielded ops a.tmps) = true)
    (hy : ∀ w, (execOp a.eval o).run P w = .ok (.value v) w) (h : wpSchB P ops Q bar S T r (a.put o.dst v) w) : wpSchB P ops Q bar S T ((i, 2) :: r) a w :=
  ⟨o, v, ho, .inl ⟨hw, fun w _ => hy w⟩, h⟩
theorem wpSchB_end {a : Act} {w : World} (h : T a w) : wpSchB P ops Q bar S T [] a w := h
/-- The bar itself. -/
theorem wpSchB_bar {o : Oper} {r : List (Nat × Nat)} {a : Act} {w : World} (ho : ops[bar]? = some o) (hw : Region.wanted o (yielded ops a.tmps) = true)
    (h : ∀ K : Act → World → Prop, (∀ a w, wpSchB P ops Q bar S T r a w → K a w) → o.wp P a w K Q) : wpSchB P ops Q bar S T ((bar, 0) :: r) a w := by
  show wpOp P ops Q bar _ a w
  unfold wpOp
  simp only [ho, hw, if_true]
  exact .inl (h _ fun a w hW => ⟨by simp, hW⟩)
end
end Go.Proofs.YtodcnkbblippnaaGreatDoor
