/-
  The statement PassingCardSaid is proved: the law Passing answers true, at every four numbers; there is no condition.
  Part 2 of 34.
-/
import Derived.StillTail
import Derived.OrdersHeld
import Derived.Tactics
import Derived.WalkKit
import Derived.Test.YtodcnkbblippnaaGreatDoorPart01
import Derived.Lib.AppendZeros
import Derived.Lib.Overlaps
import Derived.Lib.SliceRun
/- A law on regions that draw their order, no walk: one order, written out by the prover ('take': what yields its value in every world that meets S; 'do': what alone may come up), serves for all orders; a row of operations at the end that waits for all of them may break S. -/
namespace Go.Proofs.YtodcnkbblippnaaGreatDoor
open Go
section
variable {P : Program} {ops : Array Oper} {md : Region.Mode} {Q : Exit → Act → World → Prop} {S : World → Prop}
/-- Whatever order is picked from here on, S holding behind each, till those ahead of n are through: then L. -/
def wpAnyM (P : Program) (md : Region.Mode) (ops : Array Oper) (Q : Exit → Act → World → Prop) (S : World → Prop) (n : Nat) (L : Array Bool → Act → World → Prop) : Nat → Array Bool → Act → World → Prop
  | 0, listed, a, w => L listed a w
  | f + 1, listed, a, w => Region.ready md ops listed ≠ [] ∧ ∀ i ∈ Region.ready md ops listed, i < n ∧ wpOp P ops Q i (fun a' w' => S w' ∧ wpAnyM P md ops Q S n L f (listed.setIfInBounds i true) a' w') a w
theorem wpAny_of_headM {n g : Nat} {L : Array Bool → Act → World → Prop} (hL : ∀ listed a w, L listed a w → wpAny P md ops Q g listed a w) :
    ∀ (f : Nat) (listed : Array Bool) (a : Act) (w : World), wpAnyM P md ops Q S n L f listed a w → wpAny P md ops Q (f + g) listed a w
  | 0, listed, a, w, h => by rw [Nat.zero_add]; exact hL _ _ _ h
  | f + 1, listed, a, w, h => by
    rw [show f + 1 + g = (f + g) + 1 from by omega]
    exact ⟨fun h0 => absurd h0 h.1, fun i hi => wpOp_mono (fun a' w' h' => wpAny_of_headM hL f _ a' w' h'.2) (h.2 i hi).2⟩
theorem wpAnyM_first {n i : Nat} {oi : Oper} {v : Value} {L : Array Bool → Act → World → Prop} (hi : ops[i]? = some oi) (hsel : ∀ (j : Nat) (o : Oper) cs b, ops[j]? = some o → o.op ≠ .select cs b)
    (hQ : ∀ c a w, Q (.panic c) (a.put oi.dst v) w → Q (.panic c) a w)
    (hs : Region.sinkB md ops n = true) (hc : Region.chainB md ops n = true) (hn : n < ops.size) (hin : i < n)
    (hdone : ∀ listed a w, L listed a w → ∀ j ∈ Region.ready md ops listed, n ≤ j) :
    ∀ (f : Nat) (listed : Array Bool) (a : Act) (w : World), HeadInv md ops n listed →
      (∀ j oj, ops[j]? = some oj → j ≠ i → listed.getD j true = false → (∀ e ∈ oj.after, Region.binds md e = true → e.on ≠ i) → oi.apart ops oj = true) →
      i ∈ Region.ready md ops listed → YieldsIf P ops S oi v a → S w →
      wpAnyM P md ops Q S n L f (listed.setIfInBounds i true) (a.put oi.dst v) w → wpAnyM P md ops Q S n L (f + 1) listed a w := by
  intro f
  induction f with
  | zero =>
    intro listed a w inv _ hr hy hS H
    have hun := (mem_ready.1 hr).1
    refine ⟨fun h => (by rw [h] at hr; cases hr), fun j hj => ?_⟩
    have hjn : j < n := by
      rcases Nat.lt_or_ge j n with h | h
      · exact h
      · exact absurd hj (tail_waits hs hc hn inv _ i rfl hin hun j h)
    refine ⟨hjn, ?_⟩
    by_cases hji : j = i
    · subst hji; exact hy.wpOp hi hS ⟨hS, H⟩
    · have := hdone _ _ _ H j (ready_mono hj hji)
      omega
  | succ f ih =>
    intro listed a w inv hfree hr hy hS H
    have hun := (mem_ready.1 hr).1
    refine ⟨fun h => (by rw [h] at hr; cases hr), fun j hj => ?_⟩
    have hjn : j < n := by
      rcases Nat.lt_or_ge j n with h | h
      · exact h
      · exact absurd hj (tail_waits hs hc hn inv _ i rfl hin hun j h)
    refine ⟨hjn, ?_⟩
    by_cases hji : j = i
    · subst hji; exact hy.wpOp hi hS ⟨hS, H⟩
    · have h1 := (H.2 j (ready_mono hj hji)).2
      obtain ⟨hjun, oj, hoj, hall⟩ := mem_ready.1 hj
      have hnot : ∀ e ∈ oj.after, Region.binds md e = true → e.on ≠ i := fun e he hb heq => by
        have h1 := hall e he hb
        rw [heq, getD_both hun] at h1
        cases h1
      have h2 := wpOp_putIf hoj (hfree j oj hoj hji hjun hnot) (fun cs b => hsel i oi cs b hi) (fun cs b => hsel j oj cs b hoj) hQ hy h1
      have hfree' : ∀ k ok, ops[k]? = some ok → k ≠ i → (listed.setIfInBounds j true).getD k true = false →
          (∀ e ∈ ok.after, Region.binds md e = true → e.on ≠ i) → oi.apart ops ok = true := fun k ok hk hki hun hno => by
        refine hfree k ok hk hki ?_ hno
        by_cases hjk : j = k
        · subst hjk; exact hjun
        · rw [getD_set_ne true hjk] at hun; exact hun
      refine wpOp_mono (fun a' w' h3 => ⟨h3.2.1, ih (listed.setIfInBounds j true) a' w' (inv.set hj hjn) hfree' (ready_mono hr (Ne.symm hji)) h3.1 h3.2.1 ?_⟩) h2
      rw [Array.setIfInBounds_comm _ _ hji]
      exact h3.2.2
/-- One order, written out: number, and is it taken (else: done)? -/
def wpSch (P : Program) (ops : Array Oper) (Q : Exit → Act → World → Prop) (S : World → Prop) (T : Act → World → Prop) : List (Nat × Bool) → Act → World → Prop
  | [], a, w => T a w
  | (i, true) :: r, a, w => ∃ o v, ops[i]? = some o ∧ YieldsIf P ops S o v a ∧ wpSch P ops Q S T r (a.put o.dst v) w
  | (i, false) :: r, a, w => wpOp P ops Q i (fun a' w' => S w' ∧ wpSch P ops Q S T r a' w') a w
def schGo (md : Region.Mode) (ops : Array Oper) (n : Nat) : List (Nat × Bool) → Array Bool → Bool
  | [], listed => Region.seqB md ops (ops.size - n) n listed
  | (i, t) :: r, listed => decide (i < n) && (if t then (Region.ready md ops listed).contains i && Region.free md ops listed i else decide (Region.ready md ops listed = [i])) && schGo md ops n r (listed.setIfInBounds i true)
def schB (ops : Array Oper) (n : Nat) (sch : List (Nat × Bool)) : Bool :=
  Region.noSelect ops && decide (n < ops.size) && decide (sch.length = n) && Region.sinkB .any ops n && Region.chainB .any ops n && schGo .any ops n sch (Array.replicate ops.size false)
theorem wpAnyM_of_sch {n : Nat} {T : Act → World → Prop} (hsel : Region.noSelect ops = true) (hs : Region.sinkB md ops n = true) (hc : Region.chainB md ops n = true) (hn : n < ops.size)
    (hQ : ∀ c a t v w, Q (.panic c) (Act.put a (some t) v) w → Q (.panic c) a w) :
    ∀ (sch : List (Nat × Bool)) (listed : Array Bool) (a : Act) (w : World), HeadInv md ops n listed → schGo md ops n sch listed = true → S w → wpSch P ops Q S T sch a w →
    wpAnyM P md ops Q S n (fun listed' a' w' => Region.seqB md ops (ops.size - n) n listed' = true ∧ T a' w') sch.length listed a w
  | [], listed, a, w, _, hB, _, h => ⟨hB, h⟩
  | (i, true) :: r, listed, a, w, inv, hB, hS, h => by
    simp only [schGo, Bool.and_eq_true, decide_eq_true_eq, if_true] at hB
    obtain ⟨⟨hin, hr, hf⟩, hB'⟩ := hB
    obtain ⟨o, v, h0, hy, hK⟩ := h
    have hr' : i ∈ Region.ready md ops listed := by simpa using hr
    exact wpAnyM_first h0 (Region.noSelect_spec hsel) (fun c a w => by cases o.dst with | none => exact id | some t => exact hQ c a t v w) hs hc hn hin (fun listed' a' w' hL => seqB_ready hL.1) r.length listed a w inv (Region.free_spec h0 hf) hr' hy hS
      (wpAnyM_of_sch hsel hs hc hn hQ r _ _ w (inv.set hr' hin) hB' hS hK)
  | (i, false) :: r, listed, a, w, inv, hB, hS, h => by
    simp only [schGo, Bool.and_eq_true, decide_eq_true_eq, Bool.false_eq_true, if_false] at hB
    obtain ⟨⟨hin, hr⟩, hB'⟩ := hB
    refine ⟨by rw [hr]; simp, fun j hj => ?_⟩
    have hr' : i ∈ Region.ready md ops listed := by rw [hr]; simp
    rw [hr] at hj
    have : j = i := by simpa using hj
    subst this
    exact ⟨hin, wpOp_mono (fun a' w' h' => ⟨h'.1, wpAnyM_of_sch hsel hs hc hn hQ r _ a' w' (inv.set hr' hin) hB' h'.1 h'.2⟩) h⟩
/-- **One order serves for all.** -/
theorem wp_region_sch {id : Nat} {a : Act} {w : World} {l : List Oper} (S : World → Prop) (n : Nat) (sch : List (Nat × Bool)) (hm : P.follows .mixedOrders = true) (hB : schB l.toArray n sch = true)
    (hQ : ∀ c a t v w, Q (.panic c) (Act.put a (some t) v) w → Q (.panic c) a w) (hS : S w.drew)
    (h : wpSch P l.toArray Q S (fun a w => wpList P l.toArray Q (l.drop n) a w) sch a w.drew) : (Code.region id l.toArray true).wp P Q a w := by
  simp only [schB, Bool.and_eq_true, decide_eq_true_eq] at hB
  obtain ⟨⟨⟨⟨⟨hsel, hn⟩, hsl⟩, hs⟩, hc⟩, hgo⟩ := hB
  have hn' : n < l.length := by simpa using hn
  have hdl : (l.drop n).length = l.toArray.size - n := by simp
  have inv0 : HeadInv .any l.toArray n (Array.replicate l.toArray.size false) :=
    ⟨by simp, fun j oj _ hl => (by rw [getD_replicate_false] at hl; cases hl), fun t _ ht => getD_in (by simpa using ht) (getD_replicate_false _ _)⟩
  have H := wpAnyM_of_sch (md := .any) (T := fun a w => wpList P l.toArray Q (l.drop n) a w) hsel hs hc hn hQ sch _ a w.drew inv0 hgo hS h
  refine wp_region_any hm ?_
  have := wpAny_of_headM (Q := Q) (g := l.toArray.size - n) (fun listed a' w' hL => by
    have := wpAny_of_seq (md := .any) (Q' := Q) (l.drop n) n listed a' w' (fun j => by simp [List.getElem?_drop]) (by rw [hdl]; exact hL.1) hL.2
    rwa [hdl] at this) _ _ _ _ H
  rw [hsl, show n + (l.toArray.size - n) = l.toArray.size from by omega] at this
  exact this
/-- Take it. -/
theorem wpSch_take {i : Nat} {o : Oper} {v : Value} {r : List (Nat × Bool)} {a : Act} {w : World} {T : Act → World → Prop} (ho : ops[i]? = some o) (hw : Region.wanted o (yielded ops a.tmps) = true)
    (hy : ∀ w, S w → (execOp a.eval o).run P w = .ok (.value v) w) (h : wpSch P ops Q S T r (a.put o.dst v) w) : wpSch P ops Q S T ((i, true) :: r) a w :=
  ⟨o, v, ho, .inl ⟨hw, hy⟩, h⟩
theorem wpSch_end {a : Act} {w : World} {T : Act → World → Prop} (h : T a w) : wpSch P ops Q S T [] a w := h
/-- Do it, and show S anew. -/
theorem wpSch_do {i : Nat} {o : Oper} {r : List (Nat × Bool)} {a : Act} {w : World} {T : Act → World → Prop} (ho : ops[i]? = some o) (hw : Region.wanted o (yielded ops a.tmps) = true)
    (h : ∀ K : Act → World → Prop, (∀ a w, S w → (S w → wpSch P ops Q S T r a w) → K a w) → o.wp P a w K Q) : wpSch P ops Q S T ((i, false) :: r) a w := by
  show wpOp P ops Q i _ a w
  unfold wpOp
  simp only [ho, hw, if_true]
  exact .inl (h _ fun a w hS hW => ⟨hS, hW hS⟩)
end
/-- The same post, but for panics: none may come. -/
def NoP (Q : Exit → Act → World → Prop) : Exit → Act → World → Prop
  | .panic _, _, _ => False
  | e, a, w => Q e a w
theorem NoP_normal (Q : Exit → Act → World → Prop) (a : Act) (w : World) : NoP Q .normal a w = Q .normal a w := rfl
theorem NoP_imp {Q : Exit → Act → World → Prop} {e : Exit} {a : Act} {w : World} (h : NoP Q e a w) : Q e a w := by
  cases e with
  | panic _ => exact h.elim
  | _ => exact h
/-- One order serves for all, where the function defers: no panic may come. -/
theorem wp_region_schN {P : Program} {Q : Exit → Act → World → Prop} {id : Nat} {a : Act} {w : World} {l : List Oper} (S : World → Prop) (n : Nat) (sch : List (Nat × Bool)) (hm : P.follows .mixedOrders = true) (hB : schB l.toArray n sch = true)
    (hS : S w.drew) (h : wpSch P l.toArray (NoP Q) S (fun a w => wpList P l.toArray (NoP Q) (l.drop n) a w) sch a w.drew) : (Code.region id l.toArray true).wp P Q a w :=
  Code.wp_mono (fun _ _ _ h => NoP_imp h) (wp_region_sch S n sch hm hB (fun _ _ _ _ _ h => h) hS h)
end Go.Proofs.YtodcnkbblippnaaGreatDoor
/- Walks: tideskeep: pick, at, none: over whatever a question is answered. -/
namespace Go.Proofs.YtodcnkbblippnaaGreatDoor
open Go.RowKit
attribute [local go_sem ↓] Go.wp_at_zero Go.wp_at_succ

/-- Which of n things a raw number speaks of. -/
def kpickN (c n : Int) : Int := (if c < 0 then -(c + 1) else c) % n
theorem kpickN_lt (c n : Int) (hn : 0 < n) : 0 ≤ kpickN c n ∧ kpickN c n < n := by
  unfold kpickN
  exact ⟨Int.emod_nonneg _ (by omega), Int.emod_lt_of_pos _ hn⟩
set_option maxRecDepth 100000 in
set_option maxHeartbeats 1000000 in
theorem kpick_any (w : World) (c n : Int) (hc : In64 c) (hn : 0 < n ∧ n ≤ 9223372036854775807) :
    Calls Tryz.prog 20 #[.int .i64 c, .int .i64 n] w fun e w' => e = .returned (.int .i64 (kpickN c n)) ∧ w = w' := by
  obtain ⟨c1, c2⟩ := hc
  obtain ⟨n1, n2⟩ := hn
  have hb := kpickN_lt c n n1
  have n0 : ¬ n = 0 := by omega
  have nm : ¬ n = -1 := by omega
  by_cases h : c < 0
  · have e1 : IntKind.i64.wrap (c + 1) = c + 1 := by simp [IntKind.wrap, IntKind.bits, IntKind.signed]; omega
    have e2 : IntKind.i64.wrap (-(c + 1)) = -(c + 1) := by simp [IntKind.wrap, IntKind.bits, IntKind.signed]; omega
    have hq : kpickN c n = -((c + 1).tmod n) := by unfold kpickN; rw [if_pos h, ← Int.neg_tmod, Int.tmod_eq_emod_of_nonneg (by omega)]
    rw [hq] at hb ⊢
    have e3 : IntKind.i64.wrap (-((c + 1).tmod n)) = -((c + 1).tmod n) := by simp [IntKind.wrap, IntKind.bits, IntKind.signed]; omega
    go_enter Tryz.func20, Tryz.ntmps20
    go_wp2
    go_ret
    exact ⟨rfl, rfl⟩
  · have hq : kpickN c n = c % n := by unfold kpickN; rw [if_neg h]
    rw [hq] at hb ⊢
    have e3 : IntKind.i64.wrap (c % n) = c % n := by simp [IntKind.wrap, IntKind.bits, IntKind.signed]; omega
    go_enter Tryz.func20, Tryz.ntmps20
    go_wp2
    go_ret
    exact ⟨rfl, rfl⟩
set_option maxRecDepth 100000 in
set_option maxHeartbeats 1000000 in
theorem at_of (w : World) (sv : Value) (k t v : Int) (L : List Pt)
    (h : Calls Tryz.prog 37 #[sv, .int .i64 k, .int .i64 t, .int .i64 t] w fun e w' => ∃ x, e = .returned (.tuple #[x, .int .i64 0]) ∧ PtSl w' x L ∧ Chg (fun _ => False) w w') :
    Calls Tryz.prog 26 #[sv, .int .i64 k, .int .i64 t, .int .i64 v] w fun e w' => e = .returned (.bool (decide (L = [(t, v)]))) ∧ Chg (fun _ => False) w w' := by
  have H := hide h
  obtain ⟨R, hR⟩ : ∃ R, decide (L = [(t, v)]) = R := ⟨_, rfl⟩
  rw [hR]
  have HR := hide hR
  clear h hR
  go_enter Tryz.func26, Tryz.ntmps26
  go_wp2_with (fail)
  refine H.out.mono ?_
  rintro e w1 ⟨x, rfl, hx, hc⟩
  have HC := hide hc
  have HX := hide hx
  obtain ⟨a, cap, rfl, hcap, hmax, hs, -⟩ := ownsRow_form hx
  unfold maxLen at hmax
  clear hc H
  by_cases h1 : L.length = 1
  · obtain ⟨g, rfl⟩ := hs (by omega)
    obtain ⟨⟨t', v'⟩, rfl⟩ := List.length_eq_one_iff.1 h1
    obtain ⟨q0, q1⟩ := hx.cells 0 (by simp)
    simp only [Nat.zero_mul, Nat.zero_add, List.getElem_cons_zero] at q0 q1
    have hR2 : R = (decide (t' = t) && decide (v' = v)) := by
      rw [← HR.out]; simp
    clear hx hs
    simp only [List.length_singleton] at hcap ⊢
    by_cases h2 : t' = t
    · by_cases h3 : v' = v
      · subst h2 h3
        have hR3 : R = true := by rw [hR2]; simp
        subst hR3
        clear hR2
        go_wp2
        go_ret
        exact ⟨rfl, HC.out⟩
      · have hR3 : R = false := by rw [hR2]; simp [h3]
        subst hR3
        clear hR2
        have hb : (v' == v) = false := by simpa using h3
        subst h2
        go_wp2
        go_ret
        exact ⟨rfl, HC.out⟩
    · have hR3 : R = false := by rw [hR2]; simp [h2]
      subst hR3
      clear hR2
      have hb : (t' == t) = false := by simpa using h2
      go_wp2
      go_ret
      exact ⟨rfl, HC.out⟩
  · have hR3 : R = false := by
      rw [← HR.out, decide_eq_false_iff_not]
      intro e; subst e; exact h1 rfl
    subst hR3
    have hb : ((L.length : Int) == 1) = false := beq_eq_false_iff_ne.2 (by omega)
    clear hx hs
    go_wp2
    go_ret
    exact ⟨rfl, HC.out⟩
set_option maxRecDepth 100000 in
set_option maxHeartbeats 1000000 in
theorem none_of (w : World) (sv : Value) (k t : Int) (L : List Pt)
    (h : Calls Tryz.prog 37 #[sv, .int .i64 k, .int .i64 t, .int .i64 t] w fun e w' => ∃ x, e = .returned (.tuple #[x, .int .i64 0]) ∧ PtSl w' x L ∧ Chg (fun _ => False) w w') :
    Calls Tryz.prog 28 #[sv, .int .i64 k, .int .i64 t] w fun e w' => e = .returned (.bool (decide (L = []))) ∧ Chg (fun _ => False) w w' := by
  have H := hide h
  obtain ⟨R, hR⟩ : ∃ R, decide (L = []) = R := ⟨_, rfl⟩
  rw [hR]
  have HR := hide hR
  clear h hR
  go_enter Tryz.func28, Tryz.ntmps28
  go_wp2_with (fail)
  refine H.out.mono ?_
  rintro e w1 ⟨x, rfl, hx, hc⟩
  have HC := hide hc
  obtain ⟨a, cap, rfl, hcap, hmax, hs, -⟩ := ownsRow_form hx
  unfold maxLen at hmax
  clear hc H hx hs
  by_cases h1 : L.length = 0
  · have hR3 : R = true := by rw [← HR.out, decide_eq_true_eq]; exact List.eq_nil_of_length_eq_zero h1
    subst hR3
    have hb : ((L.length : Int) == 0) = true := by rw [h1]; rfl
    go_wp2
    go_ret
    exact ⟨rfl, HC.out⟩
  · have hR3 : R = false := by
      rw [← HR.out, decide_eq_false_iff_not]
      intro e; subst e; exact h1 rfl
    subst hR3
    have hb : ((L.length : Int) == 0) = false := beq_eq_false_iff_ne.2 (by omega)
    go_wp2
    go_ret
    exact ⟨rfl, HC.out⟩
end Go.Proofs.YtodcnkbblippnaaGreatDoor
/- Walks: tideskeep.Passing, over what a store's calls answer. -/
namespace Go.Proofs.YtodcnkbblippnaaGreatDoor
open Go.RowKit
attribute [local go_sem ↓] Go.wp_at_zero Go.wp_at_succ

/-- What the calls of a store with one point answer. -/
structure Passes (time long : Int) (sv : Value) (P : Nat → World → Int → Prop) : Prop where
  keep : ∀ n w w' c, P n w c → Chg (fun _ => False) w w' → P n w' c
  query : ∀ n w c, P n w c → Calls Tryz.prog 37 #[sv, .int .i64 4, .int .i64 time, .int .i64 time] w fun e w' => ∃ x, e = .returned (.tuple #[x, .int .i64 0]) ∧ PtSl w' x (if aliveB time long c then [(time, 9)] else []) ∧ Chg (fun _ => False) w w'
  flush : ∀ n w c, P (n + 1) w c → Calls Tryz.prog 24 #[sv] w fun e w' => e = .returned (.int .i64 0) ∧ P n w' c
  compact : ∀ n w c, P (n + 1) w c → Calls Tryz.prog 25 #[sv] w fun e w' => e = .returned (.int .i64 0) ∧ P n w' c
  tick : ∀ n w c x, P n w c → In64 c → 0 ≤ x → x ≤ 9223372036854775807 → Calls Tryz.prog 27 #[sv, .int .i64 x] w fun e w' => e = .returned (.int .i64 0) ∧ P n w' (tickedN c x)
section
variable {time long c : Int} {sv : Value} {P : Nat → World → Int → Prop} {w : World} {n : Nat}
theorem Passes.at1 (h : Passes time long sv P) (hp : P n w c) (ha : aliveB time long c = true) :
    Calls Tryz.prog 26 #[sv, .int .i64 4, .int .i64 time, .int .i64 9] w fun e w' => e = .returned (.bool true) ∧ P n w' c := by
  refine (at_of w sv 4 time 9 _ (h.query n w c hp)).mono ?_
  rintro e w' ⟨rfl, hc⟩
  rw [ha]
  exact ⟨by simp, h.keep _ _ _ _ hp hc⟩
theorem Passes.none1 (h : Passes time long sv P) (hp : P n w c) (b : Bool) (ha : aliveB time long c = !b) :
    Calls Tryz.prog 28 #[sv, .int .i64 4, .int .i64 time] w fun e w' => e = .returned (.bool b) ∧ P n w' c := by
  refine (none_of w sv 4 time _ (h.query n w c hp)).mono ?_
  rintro e w' ⟨rfl, hc⟩
  rw [ha]
  exact ⟨by cases b <;> simp, h.keep _ _ _ _ hp hc⟩
end
section
variable {w : World} {time long ticks how : Int}
/-- The first clock. -/
def firstN (time long : Int) : Int := if time ≤ 9223372036854775807 - long then time + long - 1 else time
set_option maxRecDepth 100000 in
set_option maxHeartbeats 4000000 in
theorem passing_of (Q : World → Prop) (w : World) (time long0 ticks how : Int) (ht : In64 time) (hlg : In64 long0) (htk : In64 ticks) (hhw : In64 how)
    (NW : Calls Tryz.prog 21 #[.int .i64 1152921504606846976] w fun e w' => ∃ b, e = .returned (.pointer (some ⟨b, 0, none⟩)) ∧
      ∀ window, 1 ≤ window ∧ window ≤ 50 → Calls Tryz.prog 22 #[.pointer (some ⟨b, 0, none⟩), .agg #[.int .i64 (1 + kpickN long0 4611686018427387904), .int .i64 window], .int .i64 (firstN time (1 + kpickN long0 4611686018427387904))] w' fun e w' => ∃ sb, e = .returned (.tuple #[.pointer (some ⟨sb, 0, none⟩), .int .i64 0]) ∧
        ∃ P, Passes time (1 + kpickN long0 4611686018427387904) (.pointer (some ⟨sb, 0, none⟩)) P ∧ (∀ n w c, P n w c → Q w) ∧
          Calls Tryz.prog 23 #[.pointer (some ⟨sb, 0, none⟩), .int .i64 4, .int .i64 time, .int .i64 9] w' fun e w' => e = .returned (.int .i64 0) ∧ P 2 w' (firstN time (1 + kpickN long0 4611686018427387904))) :
    Calls Tryz.prog 9 #[.int .i64 time, .int .i64 long0, .int .i64 ticks, .int .i64 how] w fun e w' => e = .returned (.bool true) ∧ Q w' := by
  have PK1 := hide (fun w' => kpick_any w' long0 4611686018427387904 hlg (by decide))
  have PK2 := hide (fun w' => kpick_any w' ticks 50 htk (by decide))
  have PK3 := hide (fun w' => kpick_any w' how 3 hhw (by decide))
  obtain ⟨p1a, p1b⟩ := kpickN_lt long0 4611686018427387904 (by decide)
  obtain ⟨p2a, p2b⟩ := kpickN_lt ticks 50 (by decide)
  obtain ⟨p3a, p3b⟩ := kpickN_lt how 3 (by decide)
  obtain ⟨t1, t2⟩ := ht
  generalize kpickN long0 4611686018427387904 = l0 at *
  generalize kpickN ticks 50 = pt at *
  generalize kpickN how 3 = ph at *
  have HN := hide NW
  clear NW hlg htk hhw
  have ew1 : IntKind.i64.wrap (1 + l0) = 1 + l0 := by simp [IntKind.wrap, IntKind.bits, IntKind.signed]; omega
  have ew2 : IntKind.i64.wrap (1 + pt) = 1 + pt := by simp [IntKind.wrap, IntKind.bits, IntKind.signed]; omega
  have ew3 : IntKind.i64.wrap (9223372036854775807 - (1 + l0)) = 9223372036854775807 - (1 + l0) := by simp [IntKind.wrap, IntKind.bits, IntKind.signed]; omega
  by_cases hcase : time ≤ 9223372036854775807 - (1 + l0)
  · have ew4 : IntKind.i64.wrap (time + (1 + l0)) = time + (1 + l0) := by simp [IntKind.wrap, IntKind.bits, IntKind.signed]; omega
    have ew5 : IntKind.i64.wrap (time + (1 + l0) - 1) = time + (1 + l0) - 1 := by simp [IntKind.wrap, IntKind.bits, IntKind.signed]; omega
    have hf : firstN time (1 + l0) = time + (1 + l0) - 1 := by unfold firstN; rw [if_pos hcase]
    rw [hf] at HN
    have a1 : aliveB time (1 + l0) (time + (1 + l0) - 1) = true := by unfold aliveB; simp; omega
    have a2 : aliveB time (1 + l0) (tickedN (time + (1 + l0) - 1) 1) = !true := by unfold aliveB tickedN; split <;> simp <;> omega
    have hin : Hid (In64 (time + (1 + l0) - 1)) := by constructor <;> omega
    obtain rfl | rfl | rfl : ph = 0 ∨ ph = 1 ∨ ph = 2 := by omega
    · go_enter Tryz.func9, Tryz.ntmps9
      go_wp2_with (fail)
      refine (PK1.out _).mono ?_
      rintro e w1 ⟨rfl, rfl⟩
      go_wp2_with (fail)
      refine HN.out.mono ?_
      rintro e w1 ⟨b, rfl, HO0⟩
      have HO := hide HO0
      clear HO0
      go_wp2_with (fail)
      refine (PK2.out _).mono ?_
      rintro e w1 ⟨rfl, rfl⟩
      go_wp2_with (fail)
      refine (HO.out _ (by omega)).mono ?_
      rintro e w2 ⟨sb, rfl, P, HP0, HQ0, PU0⟩
      have HP := hide HP0
      have HQ := hide HQ0
      have PU := hide PU0
      clear HP0 HQ0 PU0 HO HN PK1 PK2
      go_wp2_with (fail)
      refine PU.out.mono ?_
      rintro e w3 ⟨rfl, hp⟩
      have H3 := hide hp
      clear hp PU
      go_wp2_with (fail)
      refine (PK3.out _).mono ?_
      rintro e w1 ⟨rfl, rfl⟩
      go_wp2_with (fail)
      refine (PK3.out _).mono ?_
      rintro e w1 ⟨rfl, rfl⟩
      go_wp2_with (fail)
      refine (HP.out.at1 H3.out a1).mono ?_
      rintro e w4 ⟨rfl, hp⟩
      have H4 := hide hp
      clear hp H3
      go_wp2_with (fail)
      refine (HP.out.tick _ _ _ 1 H4.out hin.out (by omega) (by omega)).mono ?_
      rintro e w5 ⟨rfl, hp⟩
      have H5 := hide hp
      clear hp H4
      go_wp2_with (fail)
      refine (HP.out.none1 H5.out true a2).mono ?_
      rintro e w6 ⟨rfl, hp⟩
      have H6 := hide hp
      clear hp H5
      go_wp2_with (fail)
      refine (HP.out.compact _ _ _ H6.out).mono ?_
      rintro e w7 ⟨rfl, hp⟩
      have H7 := hide hp
      clear hp H6
      go_wp2_with (fail)
      refine (HP.out.none1 H7.out true a2).mono ?_
      rintro e w8 ⟨rfl, hp⟩
      have H8 := hide hp
      clear hp H7
      go_wp2
      go_ret
      exact ⟨rfl, HQ.out _ _ _ H8.out⟩
    · go_enter Tryz.func9, Tryz.ntmps9
      go_wp2_with (fail)
      refine (PK1.out _).mono ?_
      rintro e w1 ⟨rfl, rfl⟩
      go_wp2_with (fail)
      refine HN.out.mono ?_
      rintro e w1 ⟨b, rfl, HO0⟩
      have HO := hide HO0
      clear HO0
      go_wp2_with (fail)
      refine (PK2.out _).mono ?_
      rintro e w1 ⟨rfl, rfl⟩
      go_wp2_with (fail)
      refine (HO.out _ (by omega)).mono ?_
      rintro e w2 ⟨sb, rfl, P, HP0, HQ0, PU0⟩
      have HP := hide HP0
      have HQ := hide HQ0
      have PU := hide PU0
      clear HP0 HQ0 PU0 HO HN PK1 PK2
      go_wp2_with (fail)
      refine PU.out.mono ?_
      rintro e w3 ⟨rfl, hp⟩
      have H3 := hide hp
      clear hp PU
      go_wp2_with (fail)
      refine (PK3.out _).mono ?_
      rintro e w1 ⟨rfl, rfl⟩
      go_wp2_with (fail)
      refine (HP.out.flush _ _ _ H3.out).mono ?_
      rintro e w4 ⟨rfl, hp⟩
      have H4 := hide hp
      clear hp H3
      go_wp2_with (fail)
      refine (PK3.out _).mono ?_
      rintro e w1 ⟨rfl, rfl⟩
      go_wp2_with (fail)
      refine (HP.out.at1 H4.out a1).mono ?_
      rintro e w5 ⟨rfl, hp⟩
      have H5 := hide hp
      clear hp H4
      go_wp2_with (fail)
      refine (HP.out.tick _ _ _ 1 H5.out hin.out (by omega) (by omega)).mono ?_
      rintro e w6 ⟨rfl, hp⟩
      have H6 := hide hp
      clear hp H5
      go_wp2_with (fail)
      refine (HP.out.none1 H6.out true a2).mono ?_
      rintro e w7 ⟨rfl, hp⟩
      have H7 := hide hp
      clear hp H6
      go_wp2_with (fail)
      refine (HP.out.compact _ _ _ H7.out).mono ?_
      rintro e w8 ⟨rfl, hp⟩
      have H8 := hide hp
      clear hp H7
      go_wp2_with (fail)
      refine (HP.out.none1 H8.out true a2).mono ?_
      rintro e w9 ⟨rfl, hp⟩
      have H9 := hide hp
      clear hp H8
      go_wp2
      go_ret
      exact ⟨rfl, HQ.out _ _ _ H9.out⟩
    · go_enter Tryz.func9, Tryz.ntmps9
      go_wp2_with (fail)
      refine (PK1.out _).mono ?_
      rintro e w1 ⟨rfl, rfl⟩
      go_wp2_with (fail)
      refine HN.out.mono ?_
      rintro e w1 ⟨b, rfl, HO0⟩
      have HO := hide HO0
      clear HO0
      go_wp2_with (fail)
      refine (PK2.out _).mono ?_
      rintro e w1 ⟨rfl, rfl⟩
      go_wp2_with (fail)
      refine (HO.out _ (by omega)).mono ?_
      rintro e w2 ⟨sb, rfl, P, HP0, HQ0, PU0⟩
      have HP := hide HP0
      have HQ := hide HQ0
      have PU := hide PU0
      clear HP0 HQ0 PU0 HO HN PK1 PK2
      go_wp2_with (fail)
      refine PU.out.mono ?_
      rintro e w3 ⟨rfl, hp⟩
      have H3 := hide hp
      clear hp PU
      go_wp2_with (fail)
      refine (PK3.out _).mono ?_
      rintro e w1 ⟨rfl, rfl⟩
      go_wp2_with (fail)
      refine (PK3.out _).mono ?_
      rintro e w1 ⟨rfl, rfl⟩
      go_wp2_with (fail)
      refine (HP.out.compact _ _ _ H3.out).mono ?_
      rintro e w4 ⟨rfl, hp⟩
      have H4 := hide hp
      clear hp H3
      go_wp2_with (fail)
      refine (HP.out.at1 H4.out a1).mono ?_
      rintro e w5 ⟨rfl, hp⟩
      have H5 := hide hp
      clear hp H4
      go_wp2_with (fail)
      refine (HP.out.tick _ _ _ 1 H5.out hin.out (by omega) (by omega)).mono ?_
      rintro e w6 ⟨rfl, hp⟩
      have H6 := hide hp
      clear hp H5
      go_wp2_with (fail)
      refine (HP.out.none1 H6.out true a2).mono ?_
      rintro e w7 ⟨rfl, hp⟩
      have H7 := hide hp
      clear hp H6
      go_wp2_with (fail)
      refine (HP.out.compact _ _ _ H7.out).mono ?_
      rintro e w8 ⟨rfl, hp⟩
      have H8 := hide hp
      clear hp H7
      go_wp2_with (fail)
      refine (HP.out.none1 H8.out true a2).mono ?_
      rintro e w9 ⟨rfl, hp⟩
      have H9 := hide hp
      clear hp H8
      go_wp2
      go_ret
      exact ⟨rfl, HQ.out _ _ _ H9.out⟩
  · have hf : firstN time (1 + l0) = time := by unfold firstN; rw [if_neg hcase]
    rw [hf] at HN
    have a1 : aliveB time (1 + l0) time = true := by unfold aliveB; simp; omega
    have a2' : aliveB time (1 + l0) (tickedN time 1) = true := by unfold aliveB tickedN; split <;> simp <;> omega
    have a2 : aliveB time (1 + l0) (tickedN time 1) = !false := a2'
    have hin : Hid (In64 time) := ⟨t1, t2⟩
    have hin2 : Hid (In64 (tickedN time 1)) := by unfold Hid tickedN; split <;> constructor <;> omega
    have a3 : aliveB time (1 + l0) (tickedN (tickedN time 1) 9223372036854775807) = true := by unfold aliveB tickedN; split <;> split <;> simp <;> omega
    have a3' : aliveB time (1 + l0) (tickedN (tickedN time 1) 9223372036854775807) = !false := a3
    obtain rfl | rfl | rfl : ph = 0 ∨ ph = 1 ∨ ph = 2 := by omega
    · go_enter Tryz.func9, Tryz.ntmps9
      go_wp2_with (fail)
      refine (PK1.out _).mono ?_
      rintro e w1 ⟨rfl, rfl⟩
      go_wp2_with (fail)
      refine HN.out.mono ?_
      rintro e w1 ⟨b, rfl, HO0⟩
      have HO := hide HO0
      clear HO0
      go_wp2_with (fail)
      refine (PK2.out _).mono ?_
      rintro e w1 ⟨rfl, rfl⟩
      go_wp2_with (fail)
      refine (HO.out _ (by omega)).mono ?_
      rintro e w2 ⟨sb, rfl, P, HP0, HQ0, PU0⟩
      have HP := hide HP0
      have HQ := hide HQ0
      have PU := hide PU0
      clear HP0 HQ0 PU0 HO HN PK1 PK2
      go_wp2_with (fail)
      refine PU.out.mono ?_
      rintro e w3 ⟨rfl, hp⟩
      have H3 := hide hp
      clear hp PU
      go_wp2_with (fail)
      refine (PK3.out _).mono ?_
      rintro e w1 ⟨rfl, rfl⟩
      go_wp2_with (fail)
      refine (PK3.out _).mono ?_
      rintro e w1 ⟨rfl, rfl⟩
      go_wp2_with (fail)
      refine (HP.out.at1 H3.out a1).mono ?_
      rintro e w4 ⟨rfl, hp⟩
      have H4 := hide hp
      clear hp H3
      go_wp2_with (fail)
      refine (HP.out.tick _ _ _ 1 H4.out hin.out (by omega) (by omega)).mono ?_
      rintro e w5 ⟨rfl, hp⟩
      have H5 := hide hp
      clear hp H4
      go_wp2_with (fail)
      refine (HP.out.none1 H5.out false a2).mono ?_
      rintro e w6 ⟨rfl, hp⟩
      have H6 := hide hp
      clear hp H5
      go_wp2_with (fail)
      refine (HP.out.at1 H6.out a2').mono ?_
      rintro e w7 ⟨rfl, hp⟩
      have H7 := hide hp
      clear hp H6
      go_wp2_with (fail)
      refine (HP.out.tick _ _ _ 9223372036854775807 H7.out hin2.out (by omega) (by omega)).mono ?_
      rintro e w8 ⟨rfl, hp⟩
      have H8 := hide hp
      clear hp H7
      go_wp2_with (fail)
      refine (HP.out.at1 H8.out a3).mono ?_
      rintro e w9 ⟨rfl, hp⟩
      have H9 := hide hp
      clear hp H8
      go_wp2_with (fail)
      refine (HP.out.compact _ _ _ H9.out).mono ?_
      rintro e w10 ⟨rfl, hp⟩
      have H10 := hide hp
      clear hp H9
      go_wp2_with (fail)
      refine (HP.out.none1 H10.out false a3').mono ?_
      rintro e w11 ⟨rfl, hp⟩
      have H11 := hide hp
      clear hp H10
      go_wp2
      go_ret
      exact ⟨by show Ending.returned (.bool (!decide (time ≤ 9223372036854775807 - (1 + l0)))) = _; rw [decide_eq_false (by omega)]; rfl, HQ.out _ _ _ H11.out⟩
    · go_enter Tryz.func9, Tryz.ntmps9
      go_wp2_with (fail)
      refine (PK1.out _).mono ?_
      rintro e w1 ⟨rfl, rfl⟩
      go_wp2_with (fail)
      refine HN.out.mono ?_
      rintro e w1 ⟨b, rfl, HO0⟩
      have HO := hide HO0
      clear HO0
      go_wp2_with (fail)
      refine (PK2.out _).mono ?_
      rintro e w1 ⟨rfl, rfl⟩
      go_wp2_with (fail)
      refine (HO.out _ (by omega)).mono ?_
      rintro e w2 ⟨sb, rfl, P, HP0, HQ0, PU0⟩
      have HP := hide HP0
      have HQ := hide HQ0
      have PU := hide PU0
      clear HP0 HQ0 PU0 HO HN PK1 PK2
      go_wp2_with (fail)
      refine PU.out.mono ?_
      rintro e w3 ⟨rfl, hp⟩
      have H3 := hide hp
      clear hp PU
      go_wp2_with (fail)
      refine (PK3.out _).mono ?_
      rintro e w1 ⟨rfl, rfl⟩
      go_wp2_with (fail)
      refine (HP.out.flush _ _ _ H3.out).mono ?_
      rintro e w4 ⟨rfl, hp⟩
      have H4 := hide hp
      clear hp H3
      go_wp2_with (fail)
      refine (PK3.out _).mono ?_
      rintro e w1 ⟨rfl, rfl⟩
      go_wp2_with (fail)
      refine (HP.out.at1 H4.out a1).mono ?_
      rintro e w5 ⟨rfl, hp⟩
      have H5 := hide hp
      clear hp H4
      go_wp2_with (fail)
      refine (HP.out.tick _ _ _ 1 H5.out hin.out (by omega) (by omega)).mono ?_
      rintro e w6 ⟨rfl, hp⟩
      have H6 := hide hp
      clear hp H5
      go_wp2_with (fail)
      refine (HP.out.none1 H6.out false a2).mono ?_
      rintro e w7 ⟨rfl, hp⟩
      have H7 := hide hp
      clear hp H6
      go_wp2_with (fail)
      refine (HP.out.at1 H7.out a2').mono ?_
      rintro e w8 ⟨rfl, hp⟩
      have H8 := hide hp
      clear hp H7
      go_wp2_with (fail)
      refine (HP.out.tick _ _ _ 9223372036854775807 H8.out hin2.out (by omega) (by omega)).mono ?_
      rintro e w9 ⟨rfl, hp⟩
      have H9 := hide hp
      clear hp H8
      go_wp2_with (fail)
      refine (HP.out.at1 H9.out a3).mono ?_
      rintro e w10 ⟨rfl, hp⟩
      have H10 := hide hp
      clear hp H9
      go_wp2_with (fail)
      refine (HP.out.compact _ _ _ H10.out).mono ?_
      rintro e w11 ⟨rfl, hp⟩
      have H11 := hide hp
      clear hp H10
      go_wp2_with (fail)
      refine (HP.out.none1 H11.out false a3').mono ?_
      rintro e w12 ⟨rfl, hp⟩
      have H12 := hide hp
      clear hp H11
      go_wp2
      go_ret
      exact ⟨by show Ending.returned (.bool (!decide (time ≤ 9223372036854775807 - (1 + l0)))) = _; rw [decide_eq_false (by omega)]; rfl, HQ.out _ _ _ H12.out⟩
    · go_enter Tryz.func9, Tryz.ntmps9
      go_wp2_with (fail)
      refine (PK1.out _).mono ?_
      rintro e w1 ⟨rfl, rfl⟩
      go_wp2_with (fail)
      refine HN.out.mono ?_
      rintro e w1 ⟨b, rfl, HO0⟩
      have HO := hide HO0
      clear HO0
      go_wp2_with (fail)
      refine (PK2.out _).mono ?_
      rintro e w1 ⟨rfl, rfl⟩
      go_wp2_with (fail)
      refine (HO.out _ (by omega)).mono ?_
      rintro e w2 ⟨sb, rfl, P, HP0, HQ0, PU0⟩
      have HP := hide HP0
      have HQ := hide HQ0
      have PU := hide PU0
      clear HP0 HQ0 PU0 HO HN PK1 PK2
      go_wp2_with (fail)
      refine PU.out.mono ?_
      rintro e w3 ⟨rfl, hp⟩
      have H3 := hide hp
      clear hp PU
      go_wp2_with (fail)
      refine (PK3.out _).mono ?_
      rintro e w1 ⟨rfl, rfl⟩
      go_wp2_with (fail)
      refine (PK3.out _).mono ?_
      rintro e w1 ⟨rfl, rfl⟩
      go_wp2_with (fail)
      refine (HP.out.compact _ _ _ H3.out).mono ?_
      rintro e w4 ⟨rfl, hp⟩
      have H4 := hide hp
      clear hp H3
      go_wp2_with (fail)
      refine (HP.out.at1 H4.out a1).mono ?_
      rintro e w5 ⟨rfl, hp⟩
      have H5 := hide hp
      clear hp H4
      go_wp2_with (fail)
      refine (HP.out.tick _ _ _ 1 H5.out hin.out (by omega) (by omega)).mono ?_
      rintro e w6 ⟨rfl, hp⟩
      have H6 := hide hp
      clear hp H5
      go_wp2_with (fail)
      refine (HP.out.none1 H6.out false a2).mono ?_
      rintro e w7 ⟨rfl, hp⟩
      have H7 := hide hp
      clear hp H6
      go_wp2_with (fail)
      refine (HP.out.at1 H7.out a2').mono ?_
      rintro e w8 ⟨rfl, hp⟩
      have H8 := hide hp
      clear hp H7
      go_wp2_with (fail)
      refine (HP.out.tick _ _ _ 9223372036854775807 H8.out hin2.out (by omega) (by omega)).mono ?_
      rintro e w9 ⟨rfl, hp⟩
      have H9 := hide hp
      clear hp H8
      go_wp2_with (fail)
      refine (HP.out.at1 H9.out a3).mono ?_
      rintro e w10 ⟨rfl, hp⟩
      have H10 := hide hp
      clear hp H9
      go_wp2_with (fail)
      refine (HP.out.compact _ _ _ H10.out).mono ?_
      rintro e w11 ⟨rfl, hp⟩
      have H11 := hide hp
      clear hp H10
      go_wp2_with (fail)
      refine (HP.out.none1 H11.out false a3').mono ?_
      rintro e w12 ⟨rfl, hp⟩
      have H12 := hide hp
      clear hp H11
      go_wp2
      go_ret
      exact ⟨by show Ending.returned (.bool (!decide (time ≤ 9223372036854775807 - (1 + l0)))) = _; rw [decide_eq_false (by omega)]; rfl, HQ.out _ _ _ H12.out⟩
end
end Go.Proofs.YtodcnkbblippnaaGreatDoor
/- Walks: a store's small functions: isSeries, isSpan, oldest. -/
namespace Go.Proofs.YtodcnkbblippnaaGreatDoor
open Go.RowKit

set_option maxRecDepth 100000 in
set_option maxHeartbeats 1000000 in
theorem isSeries_any (w : World) (x : Int) : Calls Tryz.prog 63 #[.int .i64 x] w fun e w' => e = .returned (.bool (decide (0 ≤ x ∧ x < 8))) ∧ w = w' := by
  obtain ⟨q, hq⟩ : ∃ q, decide (0 ≤ x ∧ x < 8) = q := ⟨_, rfl⟩
  rw [hq]
  have HQ := hide hq
  clear hq
  by_cases h1 : 0 ≤ x <;> by_cases h2 : x < 8
  all_goals try (exfalso; omega)
  all_goals
    go_enter Tryz.func63, Tryz.ntmps63
    go_wp2
    go_ret
    refine ⟨?_, rfl⟩
    rw [← HQ.out]
    simp
    try omega
set_option maxRecDepth 100000 in
set_option maxHeartbeats 1000000 in
theorem isSpan_any (w : World) (x : Int) : Calls Tryz.prog 58 #[.int .i64 x] w fun e w' => e = .returned (.bool (decide (1 ≤ x ∧ x ≤ 4611686018427387904))) ∧ w = w' := by
  obtain ⟨q, hq⟩ : ∃ q, decide (1 ≤ x ∧ x ≤ 4611686018427387904) = q := ⟨_, rfl⟩
  rw [hq]
  have HQ := hide hq
  clear hq
  by_cases h1 : 1 ≤ x <;> by_cases h2 : x ≤ 4611686018427387904
  all_goals try (exfalso; omega)
  all_goals
    go_enter Tryz.func58, Tryz.ntmps58
    go_wp2
    go_ret
    refine ⟨?_, rfl⟩
    rw [← HQ.out]
    simp
    try omega
/-- The least time at which a point is alive. -/
def oldestN (clock life : Int) : Int := if clock < -9223372036854775808 + life then -9223372036854775808 else clock - life + 1
theorem oldest_alive (clock life t : Int) (ht : In64 t) : decide (oldestN clock life ≤ t) = aliveB t life clock := by
  obtain ⟨t1, t2⟩ := ht
  unfold oldestN aliveB
  split <;> simp <;> omega
set_option maxRecDepth 100000 in
set_option maxHeartbeats 1000000 in
theorem oldest_any (w : World) (sb : Nat) (clock life : Int) (c3 : w.cell? ⟨sb, 3, none⟩ = some (.int .i64 life)) (c4 : w.cell? ⟨sb, 5, none⟩ = some (.int .i64 clock)) (hl : 1 ≤ life ∧ life ≤ 4611686018427387904) (hc : In64 clock) :
    Calls Tryz.prog 71 #[.pointer (some ⟨sb, 0, none⟩)] w fun e w' => e = .returned (.int .i64 (oldestN clock life)) ∧ Chg (fun _ => False) w w' := by
  obtain ⟨l1, l2⟩ := hl
  obtain ⟨k1, k2⟩ := hc
  have ew : IntKind.i64.wrap (-9223372036854775808 + life) = -9223372036854775808 + life := by simp [IntKind.wrap, IntKind.bits, IntKind.signed]; omega
  go_enter Tryz.func71, Tryz.ntmps71
  go_wp2
  refine wp_region_sch (fun w' => w'.cell? ⟨sb, 3, none⟩ = some (.int .i64 life) ∧ w'.cell? ⟨sb, 5, none⟩ = some (.int .i64 clock)) 9
    [(0, true), (1, true), (2, true), (3, true), (4, true), (5, true), (6, true), (7, true), (8, true)] (by kernel_rfl) (by kernel_rfl) (fun _ _ _ _ _ h => h) ⟨c3, c4⟩ ?_
  iterate 9 (refine wpSch_take (v := ?_) rfl (by rfl) ?_ ?_; rotate_left; (· (intro w' hS; (try dsimp only at hS); go_simp; try with_reducible rfl)); (try simp only [Act.put, List.setIfInBounds_toArray, List.set_cons_zero, List.set_cons_succ, List.getElem_toArray, List.getElem_cons_zero, List.getElem_cons_succ]))
  refine wpSch_end ?_
  simp only [List.drop_succ_cons, List.drop_zero]
  have d3 : w.drew.cell? ⟨sb, 3, none⟩ = some (.int .i64 life) := c3
  have d4 : w.drew.cell? ⟨sb, 5, none⟩ = some (.int .i64 clock) := c4
  have HC : Hid (Chg (fun _ => False) w w.drew) := (Chg.refl _ w).drew
  generalize w.drew = w1 at d3 d4 HC ⊢
  clear c3 c4
  by_cases h : clock < -9223372036854775808 + life
  · have hq : Hid (oldestN clock life = -9223372036854775808) := by unfold Hid oldestN; rw [if_pos h]
    go_wp2
    go_ret
    rw [hq.out]
    exact ⟨rfl, HC.out⟩
  · have hq : Hid (oldestN clock life = clock - life + 1) := by unfold Hid oldestN; rw [if_neg h]
    have ew2 : IntKind.i64.wrap (clock - life) = clock - life := by simp [IntKind.wrap, IntKind.bits, IntKind.signed]; omega
    have ew3 : IntKind.i64.wrap (clock - life + 1) = clock - life + 1 := by simp [IntKind.wrap, IntKind.bits, IntKind.signed]; omega
    go_wp2
    refine wp_region_sch (fun w' => w'.cell? ⟨sb, 3, none⟩ = some (.int .i64 life) ∧ w'.cell? ⟨sb, 5, none⟩ = some (.int .i64 clock)) 10
      [(0, true), (1, true), (2, true), (3, true), (4, true), (5, true), (6, true), (7, true), (8, true), (9, true)] (by kernel_rfl) (by kernel_rfl) (fun _ _ _ _ _ h => h) ⟨d3, d4⟩ ?_
    iterate 10 (refine wpSch_take (v := ?_) rfl (by rfl) ?_ ?_; rotate_left; (· (intro w' hS; (try dsimp only at hS); go_simp; try with_reducible rfl)); (try simp only [Act.put, List.setIfInBounds_toArray, List.set_cons_zero, List.set_cons_succ, List.getElem_toArray, List.getElem_cons_zero, List.getElem_cons_succ]))
    refine wpSch_end ?_
    simp only [List.drop_succ_cons, List.drop_zero]
    go_wp2
    go_ret
    rw [hq.out]
    exact ⟨rfl, HC.out.drew⟩
end Go.Proofs.YtodcnkbblippnaaGreatDoor
/- Laws of copy and of append(s[:i], make(S, n)...), elements of any number of cells. No walk. -/
namespace Go.Proofs.YtodcnkbblippnaaGreatDoor
open Go.RowKit
section
variable {P : Program}
theorem run_copy_u (w : World) (dT sT ty elem : TypeId) (i : TypeInfo) (size : Nat) (g o dLen dCap : Nat) (a : Addr) (sLen sCap k : Nat) (cur : Array Value) (t : TypeId) (cs : List Value)
    (hu : P.underlying dT = some (.slice elem)) (hi : P.info? elem = some i) (hsize : i.size = size) (hg : w.heap[g]? = some (.cells cur t (0, 0))) (hn : Nat.min sLen dLen = k) (hcl : cs.length = k * size)
    (hsrc : ∀ j v, cs[j]? = some v → w.cell? (a.add j) = some v) (hfit : o + cs.length ≤ cur.size) (h1 : ∀ v ∈ cs, v.oneCell' = true) :
    (Builtin.copy_ #[dT, sT] ty #[.slice (some ⟨g, o, none⟩) dLen dCap, .slice (some a) sLen sCap]).run P w =
      .ok (goInt k) (w.setRow g (cur.toList.take o ++ cs ++ cur.toList.drop (o + cs.length)).toArray) := by
  subst hsize
  have hf := run_firstCells_some (P := P) w i.size k a sLen sCap cs hcl hsrc
  have hst := run_storeCells_at P g o t cs 0 cur w hg (by simpa using hfit) h1
  simp only [Nat.add_zero] at hst
  simp [Builtin.copy_, run_underlying hu, Builtin.lenOf, sizeOf, typeInfo, hi, hn, hf, hst]
/-- append(s[:i], make(S, n)...), where there is no room: a new row. -/
theorem run_append_zeros_grow (w : World) (t tn ty e : TypeId) (i : TypeInfo) (z : Value) (kn : IntKind) (ht : P.underlying t = some (.slice e)) (htn : P.underlying tn = some (.int kn)) (hi : P.info? e = some i) (hz : i.zero = some z) (hs0 : 0 < i.size)
    (base : Option Addr) (len cap : Nat) (olds : List Value) (hold : (Builtin.firstCells i.size len (.slice base len cap)).run P w.drew = .ok olds.toArray w.drew) (n : Nat) (h0 : 0 < n) (hgrow : cap < len + n)
    (h63 : ((len + n : Nat) : Int) ≤ 9223372036854775807) (h48 : n * i.bytes ≤ 281474976710656) (hcap : Builtin.nextslicecap (len + n) cap * i.bytes ≤ 281474976710656) :
    (Builtin.append_ #[t, tn] ty #[.slice base len cap, .int .i64 n]).run P w =
      .ok (.slice (some ⟨w.heap.size, 0, none⟩) (len + n) (grownCap w (len + n) cap e)) (w.drew.alloc (.cells (olds.toArray ++ Builtin.zeroCells z.cells n ++ Builtin.zeroCells z.cells (grownCap w (len + n) cap e - (len + n))) e)) := by
  have hw : IntKind.i64.wrap (n : Int) = n := by rw [IntKind.wrap_i64]; omega
  have hneg : ¬ ((n : Int) < 0) := by omega
  have h48i : ¬ (281474976710656 < (n : Int) * (i.bytes : Int)) := by rw [← Int.natCast_mul]; omega
  have hns : ¬ (n * i.size = 0) := Nat.mul_ne_zero (by omega) (by omega)
  have hroom : ¬ (len + n ≤ cap) := by omega
  have hcap' : ¬ (281474976710656 < Builtin.nextslicecap (len + n) cap * i.bytes) := by omega
  have h63a : ¬ (9223372036854775807 < (len : Int) + (n : Int)) := by omega
  simp [Builtin.append_, run_underlying ht, run_underlying htn, sizeOf, typeInfo, zeroValue, hi, hz, asInt, asIntOf, hw, hneg, hns, h48i, hroom, hcap', h63a, Question.forced, hold, newRow, grownCap]
/-- Which cells a row of its own has, spare room too. -/
theorem ownsRow_block {w : World} {base e size n g cap : Nat} {xs : List Value} (h : w.ownsRow base e size (.slice (some ⟨g, 0, none⟩) n cap) n xs) : ∃ cur : Array Value, w.heap[g]? = some (.cells cur e (0, 0)) ∧ cur.size = cap * size ∧ cur.toList.take (n * size) = xs ∧ n ≤ cap ∧ cap ≤ maxLen := by
  rcases h.2 with ⟨h1, _⟩ | ⟨g', cap', cur, h1, _, hg, hnc, hcm, hcs, ht⟩
  · cases h1
  · cases h1; exact ⟨cur, hg, hcs, ht, hnc, hcm⟩
end
end Go.Proofs.YtodcnkbblippnaaGreatDoor
