/-
  The statement PassingCardSaid is proved: the law Passing answers true, at every four numbers; there is no condition.
  Part 33 of 34.
-/
import Derived.Test.YtodcnkbblippnaaGreatDoorPart32
import Derived.Test.YtodcnkbblippnaaGreatDoorPart14
import Derived.Test.YtodcnkbblippnaaGreatDoorPart20
import Derived.Test.YtodcnkbblippnaaGreatDoorPart23
/- The last value at each series and time; windows: in order, each key once, the last value. No walk. -/
namespace Go.Proofs.YtodcnkbblippnaaGreatDoor
open Go.RowKit

/-- The value that was put last at a series and time. -/
def lastAt (l : List Pu) (k t : Int) : Option Int := l.foldl (fun o p => if p.1 = k ∧ p.2.1 = t then some p.2.2 else o) none
theorem lastAt_snoc (l : List Pu) (p : Pu) (k t : Int) : lastAt (l ++ [p]) k t = if p.1 = k ∧ p.2.1 = t then some p.2.2 else lastAt l k t := by simp [lastAt]
theorem lastAt_fold (l : List Pu) (k t : Int) : ∀ o, l.foldl (fun o p => if p.1 = k ∧ p.2.1 = t then some p.2.2 else o) o = (lastAt l k t).or o := by
  induction l with
  | nil => intro o; simp [lastAt]
  | cons p r ih =>
    intro o
    have h1 := ih (if p.1 = k ∧ p.2.1 = t then some p.2.2 else o)
    have h2 := ih (if p.1 = k ∧ p.2.1 = t then some p.2.2 else none)
    unfold lastAt at h1 h2 ⊢
    simp only [List.foldl_cons] at h1 h2 ⊢
    rw [h1, h2]
    cases r.foldl (fun o p => if p.1 = k ∧ p.2.1 = t then some p.2.2 else o) none with
    | some x => simp
    | none =>
      simp only [Option.none_or]
      split <;> simp
theorem lastAt_append (a b : List Pu) (k t : Int) : lastAt (a ++ b) k t = (lastAt b k t).or (lastAt a k t) := by
  have := lastAt_fold b k t (lastAt a k t)
  unfold lastAt at this ⊢
  rw [List.foldl_append, this]
theorem lastAt_filter (l : List Pu) (k t : Int) (q : Pu → Bool) (hq : ∀ p ∈ l, p.1 = k → p.2.1 = t → q p = true) : lastAt (l.filter q) k t = lastAt l k t := by
  induction l with
  | nil => rfl
  | cons p r ih =>
    have ih' := ih fun x hx => hq x (List.mem_cons_of_mem _ hx)
    have e : ∀ x : Pu, ∀ l : List Pu, lastAt (x :: l) k t = (lastAt l k t).or (lastAt [x] k t) := fun x l => lastAt_append [x] l k t
    by_cases h : q p = true
    · rw [List.filter_cons_of_pos h, e p r, e p (r.filter q), ih']
    · rw [List.filter_cons_of_neg h, e p r, ih']
      have : ¬ (p.1 = k ∧ p.2.1 = t) := fun hx => h (hq p (List.mem_cons_self ..) hx.1 hx.2)
      simp [lastAt, this]
theorem lastAt_none {l : List Pu} {k t : Int} : lastAt l k t = none ↔ ∀ p ∈ l, ¬ (p.1 = k ∧ p.2.1 = t) := by
  induction l with
  | nil => simp [lastAt]
  | cons p r ih =>
    have e : lastAt (p :: r) k t = (lastAt r k t).or (lastAt [p] k t) := lastAt_append [p] r k t
    rw [e, Option.or_eq_none_iff, ih]
    simp only [List.mem_cons, forall_eq_or_imp]
    constructor
    · rintro ⟨h1, h2⟩; exact ⟨fun h => by simp [lastAt, h] at h2, h1⟩
    · rintro ⟨h1, h2⟩; exact ⟨h2, by simp [lastAt, h1]⟩
theorem lastAt_mem {l : List Pu} {k t v : Int} (h : lastAt l k t = some v) : (k, t, v) ∈ l := by
  induction l with
  | nil => cases h
  | cons p r ih =>
    have e : lastAt (p :: r) k t = (lastAt r k t).or (lastAt [p] k t) := lastAt_append [p] r k t
    rw [e] at h
    cases hr : lastAt r k t with
    | some x =>
      rw [hr] at h
      simp at h; subst h
      exact List.mem_cons_of_mem _ (ih hr)
    | none =>
      rw [hr] at h
      simp only [Option.none_or] at h
      by_cases hp : p.1 = k ∧ p.2.1 = t
      · simp [lastAt, hp] at h
        obtain ⟨a, b, c⟩ := p
        simp_all
      · simp [lastAt, hp] at h

/-! ## The order of keys -/
theorem keyLt_iff {len : Int} {p q : Pu} : keyLt len p q = true ↔ winOf p.2.1 len < winOf q.2.1 len ∨ winOf p.2.1 len = winOf q.2.1 len ∧ (p.1 < q.1 ∨ p.1 = q.1 ∧ p.2.1 < q.2.1) := by simp [keyLt]
theorem keyLt_trans {len : Int} {p q r : Pu} (h1 : keyLt len p q = true) (h2 : keyLt len q r = true) : keyLt len p r = true := by
  rw [keyLt_iff] at *; omega
theorem keyLt_ne {len : Int} {p q : Pu} (h : keyLt len p q = true) : ¬ (p.1 = q.1 ∧ p.2.1 = q.2.1) := by
  rw [keyLt_iff] at h
  rintro ⟨h1, h2⟩
  rw [h2] at h; omega
theorem cmpPu_zero {p q : Pu} : cmpPu p q = 0 ↔ p.1 = q.1 ∧ p.2.1 = q.2.1 := by
  have h : ∀ x y : Int, cmpI x y = 0 ↔ x = y := fun x y => by
    unfold cmpI
    by_cases h1 : x < y
    · simp [h1]; omega
    · by_cases h2 : y < x
      · simp [h1, h2]; omega
      · simp [h1, h2]; omega
  unfold cmpPu
  by_cases h1 : cmpI p.1 q.1 = 0
  · simp [h, (h _ _).1 h1]
  · simp only [ne_eq, h1, not_false_eq_true, if_true, false_iff]
    exact fun hx => h1 ((h _ _).2 hx.1)
theorem cmpPu_neg {p q : Pu} : cmpPu p q < 0 ↔ p.1 < q.1 ∨ p.1 = q.1 ∧ p.2.1 < q.2.1 := by
  unfold cmpPu
  by_cases h1 : p.1 = q.1
  · have : cmpI p.1 q.1 = 0 := by rw [h1]; simp [cmpI]
    rw [if_neg (by simp [this]), cmpI_neg]; omega
  · have : cmpI p.1 q.1 ≠ 0 := by
      unfold cmpI
      by_cases h2 : p.1 < q.1
      · simp [h2]
      · rw [if_neg h2, if_pos (by omega)]; simp
    rw [if_pos this, cmpI_neg]; omega
theorem keyLt_same {len : Int} {p q : Pu} (h : winOf p.2.1 len = winOf q.2.1 len) (h1 : keyLt len p q = false) (h2 : cmpPu p q ≠ 0) : keyLt len q p = true := by
  have h1' : ¬ (keyLt len p q = true) := by simp [h1]
  rw [keyLt_iff] at h1' ⊢
  rw [ne_eq, cmpPu_zero] at h2
  omega
theorem keyLt_other {len : Int} {p q : Pu} (h : winOf p.2.1 len ≠ winOf q.2.1 len) (h1 : keyLt len p q = false) : winOf q.2.1 len < winOf p.2.1 len := by
  have h1' : ¬ (keyLt len p q = true) := by simp [h1]
  rw [keyLt_iff] at h1'
  omega
theorem sortSt_last (len : Int) (hw : Weak (keyLt len)) (l : List Pu) (k t : Int) : lastAt (sortSt (keyLt len) l) k t = lastAt l k t := by
  have hs := hw.sort_steq l (k, t, 0)
  have hq : ∀ m : List Pu, ∀ p ∈ m, p.1 = k → p.2.1 = t → eqv (keyLt len) (k, t, 0) p = true := fun m p _ h1 h2 => by
    subst h1 h2; simp [eqv, keyLt]
  rw [← lastAt_filter l k t _ (hq l), ← lastAt_filter (sortSt (keyLt len) l) k t _ (hq _), hs]

/-! ## Windows -/
structure WI (len : Int) (ws : List (List Pu)) (s : List Pu) : Prop where
  asc : ws.flatten.Pairwise (fun a b => keyLt len a b = true)
  last : ∀ k t, lastAt ws.flatten k t = lastAt s k t
  mem : ∀ x ∈ ws.flatten, x ∈ s
  ne : ∀ w ∈ ws, w ≠ []
  one : ∀ w ∈ ws, ∀ p ∈ w, ∀ q ∈ w, winOf p.2.1 len = winOf q.2.1 len
  apart : ws.Pairwise fun w w' => ∀ p ∈ w, ∀ q ∈ w', winOf p.2.1 len < winOf q.2.1 len
  len : ws.flatten.length ≤ s.length
theorem WI.new {len : Int} {ws : List (List Pu)} {s : List Pu} (h : WI len ws s) (p : Pu) (hp : ∀ x ∈ ws.flatten, winOf x.2.1 len < winOf p.2.1 len) : WI len (ws ++ [[p]]) (s ++ [p]) := by
  have e : (ws ++ [[p]]).flatten = ws.flatten ++ [p] := by simp
  have hmem : ∀ w ∈ ws, ∀ x ∈ w, x ∈ ws.flatten := fun w hw x hx => List.mem_flatten.2 ⟨w, hw, hx⟩
  refine ⟨?_, fun k t => ?_, fun x hx => ?_, fun w hw => ?_, fun w hw => ?_, ?_, ?_⟩
  · rw [e, List.pairwise_append]
    refine ⟨h.asc, by simp, fun a ha b hb => ?_⟩
    simp at hb; subst hb
    rw [keyLt_iff]; exact .inl (hp a ha)
  · rw [e, lastAt_snoc, lastAt_snoc, h.last]
  · rw [e] at hx
    rcases List.mem_append.1 hx with hx | hx
    · exact List.mem_append_left _ (h.mem x hx)
    · exact List.mem_append_right _ hx
  · rcases List.mem_append.1 hw with hw | hw
    · exact h.ne w hw
    · simp at hw; subst hw; simp
  · rcases List.mem_append.1 hw with hw | hw
    · exact h.one w hw
    · simp at hw; subst hw
      intro a ha b hb
      simp at ha hb; subst ha hb; rfl
  · rw [List.pairwise_append]
    refine ⟨h.apart, by simp, fun a ha b hb x hx y hy => ?_⟩
    simp at hb; subst hb
    simp at hy; subst hy
    exact hp x (hmem a ha x hx)
  · rw [e, List.length_append, List.length_append]; have := h.len; simp only [List.length_singleton]; omega
/-- The last window is turned. -/
theorem WI.turn {len : Int} {ws0 : List (List Pu)} {w w' : List Pu} {s s' : List Pu} {q : Pu} (h : WI len (ws0 ++ [w]) s) (hq : q ∈ w)
    (hasc : (ws0.flatten ++ w').Pairwise (fun a b => keyLt len a b = true)) (hlast : ∀ k t, lastAt (ws0.flatten ++ w') k t = lastAt s' k t) (hmem : ∀ x ∈ w', x ∈ s') (hsub : ∀ x ∈ s, x ∈ s') (hne : w' ≠ [])
    (hone : ∀ p ∈ w', winOf p.2.1 len = winOf q.2.1 len) (hlen : w'.length + s.length ≤ w.length + s'.length) : WI len (ws0 ++ [w']) s' := by
  have e : ∀ v : List Pu, (ws0 ++ [v]).flatten = ws0.flatten ++ v := fun v => by simp
  have hap := List.pairwise_append.1 h.apart
  refine ⟨by rw [e]; exact hasc, fun k t => by rw [e]; exact hlast k t, fun x hx => ?_, fun v hv => ?_, fun v hv => ?_, ?_, ?_⟩
  · rw [e] at hx
    rcases List.mem_append.1 hx with hx | hx
    · exact hsub x (h.mem x (by rw [e]; exact List.mem_append_left _ hx))
    · exact hmem x hx
  · rcases List.mem_append.1 hv with hv | hv
    · exact h.ne v (List.mem_append_left _ hv)
    · simp at hv; subst hv; exact hne
  · rcases List.mem_append.1 hv with hv | hv
    · exact h.one v (List.mem_append_left _ hv)
    · simp at hv; subst hv
      intro a ha b hb
      rw [hone a ha, hone b hb]
  · rw [List.pairwise_append]
    refine ⟨hap.1, by simp, fun a ha b hb x hx y hy => ?_⟩
    simp at hb; subst hb
    rw [hone y hy]
    exact hap.2.2 a ha w (by simp) x hx q hq
  · rw [e]
    have := h.len
    rw [e] at this
    simp only [List.length_append] at this ⊢; omega
theorem WI.step {len : Int} {ws0 : List (List Pu)} {w0 : List Pu} {q prev p : Pu} {s : List Pu} (h : WI len (ws0 ++ [w0 ++ [q]]) s) (hq : q.1 = prev.1 ∧ q.2.1 = prev.2.1) (hp : keyLt len p prev = false) :
    ∃ ws1 w1, winStep len (ws0 ++ [w0 ++ [q]]) false prev p = ws1 ++ [w1 ++ [p]] ∧ WI len (ws1 ++ [w1 ++ [p]]) (s ++ [p]) := by
  have hpq : keyLt len p q = false := by
    have : keyLt len p q = keyLt len p prev := by unfold keyLt; rw [hq.1, hq.2]
    rw [this]; exact hp
  have hqm : q ∈ w0 ++ [q] := by simp
  have e : ∀ v : List Pu, (ws0 ++ [v]).flatten = ws0.flatten ++ v := fun v => by simp
  have hasc := h.asc
  rw [e] at hasc
  have hall : ∀ x ∈ ws0.flatten ++ (w0 ++ [q]), x = q ∨ keyLt len x q = true := fun x hx => by
    rw [← List.append_assoc] at hx hasc
    rcases List.mem_append.1 hx with hx | hx
    · exact .inr ((List.pairwise_append.1 hasc).2.2 x hx q (by simp))
    · exact .inl (by simpa using hx)
  unfold winStep
  dsimp only
  by_cases hwin : winOf p.2.1 len = winOf prev.2.1 len
  · have hw : winOf p.2.1 len = winOf q.2.1 len := by rw [hwin, hq.2]
    have hif : ¬ (false = true ∨ winOf p.2.1 len ≠ winOf prev.2.1 len) := by simp [hwin]
    simp only [if_neg hif]
    have hl : (ws0 ++ [w0 ++ [q]]).getLastD [] = w0 ++ [q] := by simp
    have hl2 : (w0 ++ [q]).getLastD (0, 0, 0) = q := by simp
    have hd : (ws0 ++ [w0 ++ [q]]).dropLast = ws0 := by simp
    have hd2 : (w0 ++ [q]).dropLast = w0 := by simp
    rw [hl, hl2, hd, hd2]
    by_cases hz : cmpPu p q = 0
    · rw [if_pos ⟨by simp, hz⟩]
      have hk := cmpPu_zero.1 hz
      refine ⟨ws0, w0, rfl, h.turn hqm ?_ (fun k t => ?_) (fun x hx => ?_) (fun x hx => List.mem_append_left _ hx) (by simp) (fun x hx => ?_) (by simp)⟩
      · rw [← List.append_assoc] at hasc ⊢
        have ha := List.pairwise_append.1 hasc
        rw [List.pairwise_append]
        refine ⟨ha.1, by simp, fun a ha' b hb => ?_⟩
        simp at hb; subst hb
        have := ha.2.2 a ha' q (by simp)
        rw [keyLt_iff] at this ⊢
        rw [hk.1, hk.2]; exact this
      · rw [← List.append_assoc, lastAt_snoc, lastAt_snoc, ← h.last, e, ← List.append_assoc, lastAt_snoc]
        by_cases hx : p.1 = k ∧ p.2.1 = t
        · simp [hx]
        · rw [if_neg hx, if_neg hx, if_neg (by rw [← hk.1, ← hk.2]; exact hx)]
      · rcases List.mem_append.1 hx with hx | hx
        · exact List.mem_append_left _ (h.mem x (by rw [e]; simp [hx]))
        · exact List.mem_append_right _ hx
      · rcases List.mem_append.1 hx with hx | hx
        · exact h.one _ (by simp) x (by simp [hx]) q hqm
        · simp at hx; subst hx; exact hw
    · rw [if_neg (by simp [hz])]
      have hqp := keyLt_same hw hpq hz
      refine ⟨ws0, w0 ++ [q], rfl, h.turn hqm ?_ (fun k t => ?_) (fun x hx => ?_) (fun x hx => List.mem_append_left _ hx) (by simp) (fun x hx => ?_) (by simp; omega)⟩
      · rw [← List.append_assoc, List.pairwise_append]
        refine ⟨hasc, by simp, fun a ha b hb => ?_⟩
        simp at hb; subst hb
        rcases hall a ha with rfl | hx
        · exact hqp
        · exact keyLt_trans hx hqp
      · rw [← List.append_assoc, lastAt_snoc, lastAt_snoc, ← h.last, e]
      · rcases List.mem_append.1 hx with hx | hx
        · exact List.mem_append_left _ (h.mem x (by rw [e]; exact List.mem_append_right _ hx))
        · exact List.mem_append_right _ hx
      · rcases List.mem_append.1 hx with hx | hx
        · exact h.one _ (by simp) x hx q hqm
        · simp at hx; subst hx; exact hw
  · have hif : false = true ∨ winOf p.2.1 len ≠ winOf prev.2.1 len := .inr hwin
    simp only [if_pos hif]
    have hl : (ws0 ++ [w0 ++ [q]] ++ [[]]).getLastD [] = ([] : List Pu) := by simp
    have hd : (ws0 ++ [w0 ++ [q]] ++ [[]]).dropLast = ws0 ++ [w0 ++ [q]] := by simp
    rw [hl, hd, if_neg (by simp)]
    refine ⟨ws0 ++ [w0 ++ [q]], [], by simp, ?_⟩
    have hlt : winOf q.2.1 len < winOf p.2.1 len := by
      have := keyLt_other hwin hp
      rw [hq.2]; exact this
    have := h.new p fun x hx => ?_
    · simpa using this
    · rw [e] at hx
      rcases hall x hx with rfl | hx
      · exact hlt
      · rw [keyLt_iff] at hx; omega
theorem winsK_inv {len : Int} : ∀ (r : List Pu) (ws0 : List (List Pu)) (w0 : List Pu) (q prev : Pu) (s : List Pu), WI len (ws0 ++ [w0 ++ [q]]) s → q.1 = prev.1 ∧ q.2.1 = prev.2.1 → Asc (keyLt len) (prev :: r) → WI len (winsK len r false prev (ws0 ++ [w0 ++ [q]])) (s ++ r)
  | [], ws0, w0, q, prev, s, h, _, _ => by simpa [winsK] using h
  | p :: r, ws0, w0, q, prev, s, h, hq, ha => by
    have ha' := List.pairwise_cons.1 ha
    obtain ⟨ws1, w1, h1, h2⟩ := h.step hq (ha'.1 p (List.mem_cons_self ..))
    unfold winsK
    rw [h1]
    have := winsK_inv r ws1 w1 p p (s ++ [p]) h2 ⟨rfl, rfl⟩ ha'.2
    simpa using this
theorem winsK_first {len : Int} (s : List Pu) (ha : Asc (keyLt len) s) : WI len (winsK len s true (0, 0, 0) []) s := by
  cases s with
  | nil => exact ⟨by simp [winsK], fun _ _ => rfl, fun x hx => by simp [winsK] at hx, fun w hw => by simp [winsK] at hw, fun w hw => by simp [winsK] at hw, by simp [winsK], by simp [winsK]⟩
  | cons p r =>
    unfold winsK
    have e : winStep len [] true (0, 0, 0) p = [] ++ [[] ++ [p]] := by simp [winStep]
    rw [e]
    have h0 : WI len [] [] := ⟨by simp, fun _ _ => rfl, fun x hx => by simp at hx, fun w hw => by simp at hw, fun w hw => by simp at hw, by simp, by simp⟩
    have h1 := h0.new p (by simp)
    have := winsK_inv r [] [] p p [p] (by simpa using h1) ⟨rfl, rfl⟩ ha
    simpa using this
/-- The windows of a list. -/
theorem inWins_inv {len : Int} (hw : Weak (keyLt len)) (l : List Pu) : WI len (inWins len l) l := by
  have h := winsK_first (len := len) (sortSt (keyLt len) l) (hw.sort_asc l)
  have hmem : ∀ x ∈ sortSt (keyLt len) l, x ∈ l := fun x hx => Steq.mem hw (hw.sort_steq l).symm hx
  have hlen : (sortSt (keyLt len) l).length = l.length := by
    have gen : ∀ (l s : List Pu), (l.foldl (fun s x => insSt (keyLt len) x s) s).length = s.length + l.length := by
      intro l
      induction l with
      | nil => intro s; rfl
      | cons x r ih =>
        intro s
        have hi : ∀ m : List Pu, (insSt (keyLt len) x m).length = m.length + 1 := by
          intro m
          induction m with
          | nil => rfl
          | cons y m ihm => unfold insSt; split <;> simp [ihm]
        rw [List.foldl_cons, ih, hi, List.length_cons]; omega
    have := gen l []
    simpa [sortSt] using this
  exact ⟨h.asc, fun k t => by rw [← sortSt_last len hw l k t]; exact h.last k t, fun x hx => hmem x (h.mem x hx), h.ne, h.one, h.apart, by rw [← hlen]; exact h.len⟩
theorem WI.rise {len : Int} {ws : List (List Pu)} {s : List Pu} (h : WI len ws s) {w : List Pu} (hw : w ∈ ws) : riseB cmpPu w = true := by
  have hp : w.Pairwise (fun a b => keyLt len a b = true) := List.Pairwise.sublist (List.sublist_flatten_of_mem hw) h.asc
  have h1 := h.one w hw
  clear h hw
  have gen : ∀ m : List Pu, (∀ x ∈ m, x ∈ w) → m.Pairwise (fun a b => keyLt len a b = true) → riseB cmpPu m = true := by
    intro m
    induction m with
    | nil => intro _ _; rfl
    | cons a m ih =>
      intro hs hp
      cases m with
      | nil => rfl
      | cons b m =>
        have hp' := List.pairwise_cons.1 hp
        simp only [riseB, Bool.and_eq_true, decide_eq_true_eq]
        refine ⟨?_, ih (fun x hx => hs x (List.mem_cons_of_mem _ hx)) hp'.2⟩
        have := hp'.1 b (List.mem_cons_self ..)
        rw [keyLt_iff] at this
        have e := h1 a (hs a (List.mem_cons_self ..)) b (hs b (by simp))
        rw [cmpPu_neg]; omega
  exact gen w (fun _ h => h) hp
end Go.Proofs.YtodcnkbblippnaaGreatDoor
/- An archive on a calm disk: Flush and Compact. No walk. -/
namespace Go.Proofs.YtodcnkbblippnaaGreatDoor
open Go.RowKit

theorem flatten_len {ws : List (List Pu)} (h : ∀ w ∈ ws, w ≠ []) : ws.length ≤ ws.flatten.length := by
  induction ws with
  | nil => simp
  | cons w r ih =>
    have h1 := ih fun x hx => h x (List.mem_cons_of_mem _ hx)
    have h2 : 0 < w.length := List.length_pos_iff.2 (h w (List.mem_cons_self ..))
    rw [List.flatten_cons, List.length_append, List.length_cons]; omega
theorem segCost_le (ws : List (List Pu)) : segCost ws = 17 * ws.flatten.length + 4 * ws.length := by
  unfold segCost
  induction ws with
  | nil => rfl
  | cons w r ih =>
    rw [List.map_cons, List.sum_cons, ih, List.flatten_cons, List.length_append, List.length_cons]; omega
section
variable {P P' : PD} {A : Ar} {sg cl : List (Int × List Pu)} {ol : Option (List Pu)} {N R : Nat} {window oldest : Int}
theorem Lay.clPu (h : Lay P A sg cl ol) : ∀ p ∈ putsOf cl ++ ol.getD [], PuOk p := by
  intro p hp
  rcases List.mem_append.1 hp with hp | hp
  · obtain ⟨x, hx, hp⟩ := List.mem_flatMap.1 hp
    exact (h.clNum x hx).2 p hp
  · cases ol with
    | none => simp at hp
    | some l => exact h.own.2.2.2.1 p (by simpa using hp)
theorem Lay.sgPu (h : Lay P A sg cl ol) : ∀ p ∈ putsOf sg, PuOk p := by
  intro p hp
  obtain ⟨x, hx, hp⟩ := List.mem_flatMap.1 hp
  exact (h.seg x hx).1.1 p hp
/-- What is told of an archive, at the times from oldest on. -/
def SameQ (o : Int) (a b : List Pu) : Prop := ∀ k t, o ≤ t → lastAt a k t = lastAt b k t
theorem Lay.flush (h : Lay P A sg cl ol) (hw : Weak (keyLt window)) {K n : Nat} (hn : (putsOf cl ++ ol.getD []).length ≤ n) (hn2 : n ≤ 1099511627776) (hK : P.names.length ≤ K) (hsl : sg.length ≤ K) (hjl : A.j.logs.length ≤ K) (hll : A.loose.length ≤ K)
    (hc : Cm P (N + 4 * K + 4 * n + 8) (R + 29 * n + 12 + 8 * K)) (hnum : isNum (A.j.last + 1) = true) (hln : A.last + n ≤ 4611686018427387904) :
    (A.flush P window).1 = 0 ∧ Cm (A.flush P window).2.2 N R ∧
      ∃ fresh, (A.flush P window).2.1 = ⟨⟨A.j.last + 1, (sg ++ numbered A.last fresh).map (·.1)⟩, ⟨[], A.j.last, 0, none⟩, A.last + fresh.length, []⟩ ∧ Lay (A.flush P window).2.2 (A.flush P window).2.1 (sg ++ numbered A.last fresh) [] none ∧
        (∀ m, (A.flush P window).2.2.bs m ≠ none → m ∈ nmIdx :: (sg ++ numbered A.last fresh).map fun x => nmSeg x.1) ∧ fresh.length ≤ fresh.flatten.length ∧ fresh.flatten.length ≤ (putsOf cl ++ ol.getD []).length ∧ (∀ k t, lastAt (layAll (sg ++ numbered A.last fresh) [] none) k t = lastAt (layAll sg cl ol) k t) ∧ (∀ p ∈ fresh.flatten, PuOk p) := by
  have hp := h.puts (by rw [List.length_append] at hn; omega)
  have hwi := inWins_inv hw (putsOf cl ++ ol.getD [])
  obtain ⟨fresh, hfr⟩ : ∃ fresh, inWins window (putsOf cl ++ ol.getD []) = fresh := ⟨_, rfl⟩
  rw [hfr] at hwi
  have hfl := flatten_len hwi.ne
  have hfl2 := hwi.len
  have hcost := segCost_le fresh
  have e : A.flush P window = A.replace P (sg.map (·.1)) fresh := by
    unfold Ar.flush
    rw [hp, if_neg (by simp), hfr, h.segs]
  rw [e]
  obtain ⟨r1, r2, r3, r4, r5⟩ := h.replace (N := N) (R := R) (K := K) sg fresh (hc.mono (by omega) (by omega)) hK (fun _ h => h) (riseI.1 (by rw [h.segs]; exact h.ixok.rise))
    (fun l hl => ⟨fun p hp => h.clPu p (hwi.mem p (List.mem_flatten.2 ⟨l, hl, hp⟩)), hwi.rise hl⟩) hnum (by omega)
  refine ⟨r1, r3, fresh, r2, r4, r5, hfl, hfl2, fun k t => ?_, fun p hp => h.clPu p (hwi.mem p hp)⟩
  unfold layAll
  have e1 : putsOf (sg ++ numbered A.last fresh) = putsOf sg ++ fresh.flatten := by
    have := @numbered_puts fresh A.last
    unfold putsOf at this ⊢
    rw [List.flatMap_append, this]
  rw [e1]
  simp only [putsOf, List.flatMap_nil, Option.getD_none, List.append_nil]
  rw [lastAt_append, lastAt_append, hwi.last]
  rfl

/-! ## Compact -/
/-- The segments that stay as they are. -/
def keptSegs (segs : List (Int × List Pu)) (oldest : Int) : List (List Pu) → List (Int × List Pu)
  | [] => []
  | l :: r => if l.any (fun p => decide (oldest ≤ p.2.1)) = false then keptSegs segs oldest r else
    match segs.find? fun s => decide (s.2 = l) with
    | none => keptSegs segs oldest r
    | some s => s :: keptSegs segs oldest r
theorem keptSegs_nums (segs : List (Int × List Pu)) (oldest : Int) : ∀ ws, (keptOf segs oldest ws).1 = (keptSegs segs oldest ws).map (·.1)
  | [] => rfl
  | l :: r => by
    have ih := keptSegs_nums segs oldest r
    unfold keptOf keptSegs
    split
    · exact ih
    · cases segs.find? fun s => decide (s.2 = l) with
      | none => exact ih
      | some s => simp [ih]
theorem keptSegs_mem {segs : List (Int × List Pu)} {oldest : Int} : ∀ {ws : List (List Pu)} {x : Int × List Pu}, x ∈ keptSegs segs oldest ws → x ∈ segs ∧ x.2 ∈ ws
  | l :: r, x, h => by
    unfold keptSegs at h
    split at h
    · have := keptSegs_mem h; exact ⟨this.1, List.mem_cons_of_mem _ this.2⟩
    · cases hx : segs.find? fun s => decide (s.2 = l) with
      | none => rw [hx] at h; have := keptSegs_mem h; exact ⟨this.1, List.mem_cons_of_mem _ this.2⟩
      | some s =>
        rw [hx] at h
        rcases List.mem_cons.1 h with rfl | h
        · have h1 := List.find?_some hx
          simp at h1
          exact ⟨List.mem_of_find?_eq_some hx, by rw [h1]; exact List.mem_cons_self ..⟩
        · have := keptSegs_mem h; exact ⟨this.1, List.mem_cons_of_mem _ this.2⟩
theorem keptFresh_mem {segs : List (Int × List Pu)} {oldest : Int} : ∀ {ws : List (List Pu)} {l : List Pu}, l ∈ (keptOf segs oldest ws).2 → l ∈ ws
  | w :: r, l, h => by
    unfold keptOf at h
    split at h
    · exact List.mem_cons_of_mem _ (keptFresh_mem h)
    · cases hx : segs.find? fun s => decide (s.2 = w) with
      | none =>
        rw [hx] at h
        rcases List.mem_cons.1 h with rfl | h
        · exact List.mem_cons_self ..
        · exact List.mem_cons_of_mem _ (keptFresh_mem h)
      | some s => rw [hx] at h; exact List.mem_cons_of_mem _ (keptFresh_mem h)
theorem flatten_filter {α : Type} (p : List α → Bool) (ws : List (List α)) : (ws.filter p).flatten.Sublist ws.flatten := by
  induction ws with
  | nil => exact List.Sublist.refl _
  | cons w r ih =>
    rw [List.filter_cons]
    split
    · rw [List.flatten_cons, List.flatten_cons]; exact List.Sublist.append (List.Sublist.refl _) ih
    · rw [List.flatten_cons]; exact ih.trans (List.sublist_append_right _ _)
/-- The windows in which something is alive. -/
def aliveW (oldest : Int) (ws : List (List Pu)) : List (List Pu) := ws.filter fun l => l.any fun p => decide (oldest ≤ p.2.1)
theorem kept_perm (segs : List (Int × List Pu)) (oldest : Int) : ∀ ws, ((keptSegs segs oldest ws).map (·.2) ++ (keptOf segs oldest ws).2).Perm (aliveW oldest ws)
  | [] => List.Perm.refl _
  | l :: r => by
    have ih := kept_perm segs oldest r
    unfold keptOf keptSegs aliveW
    by_cases hl : l.any (fun p => decide (oldest ≤ p.2.1)) = false
    · rw [if_pos hl, if_pos hl, List.filter_cons_of_neg (by simp [hl])]
      exact ih
    · rw [if_neg hl, if_neg hl, List.filter_cons_of_pos (by simpa using hl)]
      cases hx : segs.find? fun s => decide (s.2 = l) with
      | none =>
        dsimp only
        exact List.perm_middle.trans (ih.cons _)
      | some s =>
        have h1 := List.find?_some hx
        simp at h1
        dsimp only
        rw [List.map_cons, h1]
        exact ih.cons _
theorem lastAt_alive {len : Int} {ws : List (List Pu)} {s : List Pu} (h : WI len ws s) (oldest k t : Int) (ht : oldest ≤ t) : lastAt (aliveW oldest ws).flatten k t = lastAt s k t := by
  rw [← h.last]
  clear h
  unfold aliveW
  induction ws with
  | nil => rfl
  | cons w r ih =>
    by_cases hw : w.any (fun p => decide (oldest ≤ p.2.1)) = true
    · have e : (w :: r).filter (fun l => l.any fun p => decide (oldest ≤ p.2.1)) = w :: r.filter (fun l => l.any fun p => decide (oldest ≤ p.2.1)) := by simp only [List.filter_cons, hw, if_true]
      rw [e, List.flatten_cons, List.flatten_cons, lastAt_append, lastAt_append, ih]
    · have e : (w :: r).filter (fun l => l.any fun p => decide (oldest ≤ p.2.1)) = r.filter (fun l => l.any fun p => decide (oldest ≤ p.2.1)) := by simp only [List.filter_cons, hw]; rfl
      rw [e, List.flatten_cons, lastAt_append, ih]
      have : lastAt w k t = none := lastAt_none.2 fun p hp hx => hw (List.any_eq_true.2 ⟨p, hp, by simp; omega⟩)
      rw [this, Option.or_none]
/-- Keys that are there once: the order does not count. -/
def Once (l : List Pu) : Prop := l.Pairwise fun a b => ¬ (a.1 = b.1 ∧ a.2.1 = b.2.1)
theorem Once.last {l : List Pu} (h : Once l) {k t v : Int} : lastAt l k t = some v ↔ (k, t, v) ∈ l := by
  refine ⟨lastAt_mem, fun hm => ?_⟩
  induction l with
  | nil => cases hm
  | cons p r ih =>
    have h' := List.pairwise_cons.1 h
    have e : lastAt (p :: r) k t = (lastAt r k t).or (lastAt [p] k t) := lastAt_append [p] r k t
    rw [e]
    rcases List.mem_cons.1 hm with rfl | hm
    · have : lastAt r k t = none := lastAt_none.2 fun q hq hx => h'.1 q hq ⟨hx.1.symm, hx.2.symm⟩
      rw [this]; simp [lastAt]
    · rw [ih h'.2 hm]; simp
theorem Once.perm {l l' : List Pu} (h : Once l) (hp : l.Perm l') : Once l' := (hp.pairwise_iff (R := fun a b : Pu => ¬ (a.1 = b.1 ∧ a.2.1 = b.2.1)) fun h hx => h ⟨hx.1.symm, hx.2.symm⟩).1 h
theorem Once.perm_last {l l' : List Pu} (h : Once l) (hp : l.Perm l') (k t : Int) : lastAt l k t = lastAt l' k t := by
  have h' := h.perm hp
  cases hx : lastAt l k t with
  | some v => exact (h'.last.2 (hp.mem_iff.1 (h.last.1 hx))).symm
  | none =>
    cases hy : lastAt l' k t with
    | none => rfl
    | some v => rw [h.last.2 (hp.mem_iff.2 (h'.last.1 hy))] at hx; cases hx
theorem WI.once {len : Int} {ws : List (List Pu)} {s : List Pu} (h : WI len ws s) (oldest : Int) : Once (aliveW oldest ws).flatten := by
  have h1 : (aliveW oldest ws).flatten.Pairwise (fun a b => keyLt len a b = true) := h.asc.sublist (flatten_filter _ _)
  exact h1.imp fun hab => keyLt_ne hab
theorem aliveW_mem {oldest : Int} {ws : List (List Pu)} {w : List Pu} (h : w ∈ aliveW oldest ws) : w ∈ ws := (List.mem_filter.1 h).1
theorem Lay.compact (h : Lay P A sg cl ol) (hw : Weak (keyLt window)) {K n : Nat} (hn : (layAll sg cl ol).length ≤ n) (hn2 : n ≤ 1099511627776) (hK : P.names.length ≤ K) (hsl : sg.length ≤ K) (hjl : A.j.logs.length ≤ K) (hll : A.loose.length ≤ K)
    (hc : Cm P (N + 4 * K + 4 * n + 8) (R + 29 * n + 12 + 8 * K)) (hnum : isNum (A.j.last + 1) = true) (hln : A.last + n ≤ 4611686018427387904) :
    (A.compact P window oldest).1 = 0 ∧ Cm (A.compact P window oldest).2.2 N R ∧
      ∃ sg' last, (A.compact P window oldest).2.1 = ⟨⟨A.j.last + 1, sg'.map (·.1)⟩, ⟨[], A.j.last, 0, none⟩, last, []⟩ ∧ last ≤ A.last + n ∧ Lay (A.compact P window oldest).2.2 (A.compact P window oldest).2.1 sg' [] none ∧
        (∀ m, (A.compact P window oldest).2.2.bs m ≠ none → m ∈ nmIdx :: sg'.map fun x => nmSeg x.1) ∧ (sg'.map (·.2)).Perm (aliveW oldest (inWins window (layAll sg cl ol))) ∧ SameQ oldest (layAll sg' [] none) (layAll sg cl ol) := by
  have hl0 : (layAll sg cl ol).length = (putsOf sg).length + (putsOf cl ++ ol.getD []).length := by unfold layAll; rw [List.length_append]
  have hp := h.puts (by rw [List.length_append] at hl0; omega)
  have hwi := inWins_inv hw (layAll sg cl ol)
  obtain ⟨ws, hws⟩ : ∃ ws, inWins window (layAll sg cl ol) = ws := ⟨_, rfl⟩
  rw [hws] at hwi
  obtain ⟨k0, hk0⟩ : ∃ k0, keptSegs sg oldest ws = k0 := ⟨_, rfl⟩
  obtain ⟨fresh, hfr⟩ : ∃ fresh, (keptOf sg oldest ws).2 = fresh := ⟨_, rfl⟩
  have hperm := kept_perm sg oldest ws
  rw [hk0, hfr] at hperm
  obtain ⟨ks, hks⟩ : ∃ ks, k0.mergeSort (fun x y => decide (x.1 ≤ y.1)) = ks := ⟨_, rfl⟩
  have hkp : ks.Perm k0 := by rw [← hks]; exact List.mergeSort_perm _ _
  have hkm : ks.map (·.1) = ((keptOf sg oldest ws).1).mergeSort fun x y => decide (x ≤ y) := by
    rw [keptSegs_nums, hk0, ← hks, List.map_mergeSort (s := fun x y : Int => decide (x ≤ y))]
    intro a _ b _; rfl
  have hksm : ∀ x ∈ ks, x ∈ sg ∧ x.2 ∈ ws := fun x hx => keptSegs_mem (by rw [hk0]; exact hkp.mem_iff.1 hx)
  -- the numbers are different ones
  have hwnd : (aliveW oldest ws).Nodup := by
    have h1 : (aliveW oldest ws).Pairwise fun w w' => ∀ p ∈ w, ∀ q ∈ w', winOf p.2.1 window < winOf q.2.1 window := hwi.apart.sublist List.filter_sublist
    have h2 : ∀ w ∈ aliveW oldest ws, w ≠ [] := fun w hw => hwi.ne w (aliveW_mem hw)
    clear hperm
    generalize aliveW oldest ws = v at h1 h2
    induction v with
    | nil => simp
    | cons w r ih =>
      have h1' := List.pairwise_cons.1 h1
      refine List.nodup_cons.2 ⟨fun hm => ?_, ih h1'.2 fun x hx => h2 x (List.mem_cons_of_mem _ hx)⟩
      obtain ⟨p, hp⟩ := List.exists_mem_of_ne_nil w (h2 w (List.mem_cons_self ..))
      have := h1'.1 w hm p hp p hp
      omega
  have hknd : (ks.map (·.2)).Nodup := by
    have h1 : (k0.map (·.2) ++ fresh).Nodup := hperm.nodup_iff.2 hwnd
    have h2 := (List.nodup_append.1 h1).1
    exact (hkp.map (·.2)).nodup_iff.2 h2
  have hsgn : (sg.map (·.1)).Pairwise (· < ·) := riseI.1 (by rw [h.segs]; exact h.ixok.rise)
  have hsame : ∀ x ∈ sg, ∀ y ∈ sg, x.1 = y.1 → x = y := fun x hx y hy e => by
    obtain ⟨i, hi, rfl⟩ := List.getElem_of_mem hx
    obtain ⟨j, hj, rfl⟩ := List.getElem_of_mem hy
    have hp := List.pairwise_iff_getElem.1 hsgn
    rcases Nat.lt_trichotomy i j with hij | hij | hij
    · have := hp i j (by simpa using hi) (by simpa using hj) hij
      simp at this; omega
    · subst hij; rfl
    · have := hp j i (by simpa using hj) (by simpa using hi) hij
      simp at this; omega
  have hrise : (ks.map (·.1)).Pairwise (· < ·) := by
    have h1 : ks.Pairwise fun x y => x.1 ≤ y.1 := by
      have := List.pairwise_mergeSort (le := fun x y : Int × List Pu => decide (x.1 ≤ y.1)) (fun a b c h1 h2 => by simp at *; omega) (fun a b => by simp; omega) k0
      rw [hks] at this
      exact this.imp fun h => by simpa using h
    have h2 : ks.Pairwise fun x y => x.2 ≠ y.2 := List.pairwise_map.1 hknd
    rw [List.pairwise_map]
    have h3 := h1.and h2
    refine List.Pairwise.imp_of_mem (fun {a b} ha hb hab => ?_) h3
    rcases Int.lt_or_eq_of_le hab.1 with h | h
    · exact h
    · exact absurd (congrArg Prod.snd (hsame a (hksm a ha).1 b (hksm b hb).1 h)) hab.2
  have hfm : ∀ l ∈ fresh, l ∈ ws := fun l hl => keptFresh_mem (by rw [hfr]; exact hl)
  have hflat : (putsOf ks ++ fresh.flatten).Perm (aliveW oldest ws).flatten := by
    have h1 : (ks.map (·.2) ++ fresh).Perm (aliveW oldest ws) := ((hkp.map (·.2)).append_right _).trans hperm
    have h2 := h1.flatten
    rw [List.flatten_append] at h2
    have e : (ks.map (·.2)).flatten = putsOf ks := by unfold putsOf; rw [List.flatMap_def]
    rwa [e] at h2
  have hfl : fresh.length ≤ fresh.flatten.length := flatten_len fun w hw => hwi.ne w (hfm w hw)
  have hcount : fresh.flatten.length ≤ n := by
    have h1 := hflat.length_eq
    have h2 : (aliveW oldest ws).flatten.length ≤ ws.flatten.length := (flatten_filter _ ws).length_le
    have h3 := hwi.len
    rw [List.length_append] at h1
    omega
  have hkl : ks.length ≤ K := by
    have : (ks.map (·.1)).length ≤ (sg.map (·.1)).length := nodup_sub (hrise.imp fun h => Int.ne_of_lt h) fun x hx => by
      obtain ⟨y, hy, rfl⟩ := List.mem_map.1 hx
      exact List.mem_map_of_mem (hksm y hy).1
    simp only [List.length_map] at this
    omega
  have hcost := segCost_le fresh
  have hok : ∀ p ∈ layAll sg cl ol, PuOk p := fun p hp => by
    rcases List.mem_append.1 hp with hp | hp
    · exact h.sgPu p hp
    · exact h.clPu p hp
  have e : A.compact P window oldest = A.replace P (ks.map (·.1)) fresh := by
    unfold Ar.compact
    rw [h.segsOf]
    dsimp only
    have e2 : sg.flatMap (·.2) ++ (P.puts A.j.logs).1 = layAll sg cl ol := by rw [hp]; rfl
    rw [e2, hws, ← hkm, hfr, hp, if_neg (by simp)]
  rw [e, hws]
  obtain ⟨r1, r2, r3, r4, r5⟩ := h.replace (N := N) (R := R) (K := K) ks fresh (hc.mono (by omega) (by omega)) hK (fun x hx => (hksm x hx).1) hrise
    (fun l hl => ⟨fun p hp => hok p (hwi.mem p (List.mem_flatten.2 ⟨l, hfm l hl, hp⟩)), hwi.rise (hfm l hl)⟩) hnum (by omega)
  have enum : (numbered A.last fresh).map (·.2) = fresh := by
    have gen : ∀ (l : List (List Pu)) (a : Int), (numbered a l).map (·.2) = l := by
      intro l
      induction l with
      | nil => intro a; rfl
      | cons x r ih => intro a; simp [numbered, ih]
    exact gen _ _
  refine ⟨r1, r3, ks ++ numbered A.last fresh, A.last + fresh.length, r2, by omega, r4, r5, ?_, fun k t ht => ?_⟩
  · rw [List.map_append, enum]
    exact ((hkp.map (·.2)).append_right _).trans hperm
  · have e1 : layAll (ks ++ numbered A.last fresh) [] none = putsOf ks ++ fresh.flatten := by
      have := @numbered_puts fresh A.last
      unfold layAll putsOf at *
      simp [this]
    rw [e1, (hwi.once oldest |>.perm_last hflat.symm k t).symm, lastAt_alive hwi oldest k t ht]
end
end Go.Proofs.YtodcnkbblippnaaGreatDoor
/- Names in their order are numbers in their order; an archive that is opened has what lies there. No walk. -/
namespace Go.Proofs.YtodcnkbblippnaaGreatDoor
open Go.RowKit

/-! ## List is in order -/
/-! ## Numbers, padded -/
/-- The logs, those of a closed own log behind them. -/
def shut (cl : List (Int × List Pu)) (last : Int) : Option (List Pu) → List (Int × List Pu)
  | none => cl
  | some l => cl ++ [(last, l)]
section
variable {P P' : PD} {A : Ar} {sg cl : List (Int × List Pu)} {ol : Option (List Pu)} {N R : Nat}
theorem Lay.logNums (h : Lay P A sg cl ol) : A.j.logs = (shut cl A.j.last ol).map (·.1) := by
  have := h.own
  cases ol with
  | none => exact this.2
  | some l => rw [this.2.1]; simp [shut]
/-- An empty disk. -/
theorem Lay.empty (h : ∀ nm, P.bs nm = none) : Lay P ⟨⟨1, []⟩, ⟨[], 0, 0, none⟩, 0, []⟩ [] [] none :=
  ⟨⟨by decide, fun n hn => (by cases hn), rfl⟩, .inl ⟨h _, rfl⟩, rfl, fun x hx => (by cases hx), fun x hx => (by cases hx), fun x hx => (by cases hx), ⟨fun x hx => (by cases hx), fun h => absurd rfl h⟩, trivial, rfl, ⟨rfl, rfl⟩, ⟨by decide, by decide, fun n _ hx => absurd (h _) hx⟩, ⟨by decide, fun n _ hx => absurd (h _) hx⟩, fun nm hm => (by cases hm), List.Pairwise.nil, fun nm hm => absurd (h _) hm, fun n _ _ hx => absurd (h _) hx⟩
end
end Go.Proofs.YtodcnkbblippnaaGreatDoor
/- How much a disk holds behind an archive's calls. No walk. -/
namespace Go.Proofs.YtodcnkbblippnaaGreatDoor
open Go.RowKit

section
variable {P : PD} {A : Ar} {a c m : Nat}
theorem Fit.newSegs : ∀ (fresh : List (List Pu)) (last : Int) (kept : List Int) (P : PD) (a c m : Nat), Fit P a c m → Fit (PD.newSegs fresh last kept P).2.2.2 (a + fresh.length) (c + fresh.length) (m + segCost fresh) ∧ (PD.newSegs fresh last kept P).2.2.1.length ≤ kept.length + fresh.length
  | [], last, kept, P, a, c, m, h => ⟨h, by simp [PD.newSegs]⟩
  | l :: r, last, kept, P, a, c, m, h => by
    have h1 := h.newSeg (last + 1) l
    have hcost : segCost (l :: r) = (17 * l.length + 4) + segCost r := by simp [segCost]
    rw [newSegs_cons]
    split
    · exact ⟨h1.mono (by simp) (by simp) (by rw [hcost]; omega), by simp⟩
    · obtain ⟨i1, i2⟩ := Fit.newSegs r (last + 1) (kept ++ [last + 1]) _ _ _ _ h1
      exact ⟨i1.mono (by simp; omega) (by simp; omega) (by rw [hcost]; omega), by simp at i2 ⊢; omega⟩
theorem Fit.replace (h : Fit P a c m) (kept : List Int) (fresh : List (List Pu)) : Fit (A.replace P kept fresh).2.2 (a + fresh.length + 2) (c + 2 * a + 2 * fresh.length + 4) (m + segCost fresh + 12 + 8 * (kept.length + fresh.length)) := by
  rw [replace_eq]
  have h1 := h.prep (A := A)
  split
  · exact h1.mono (by omega) (by omega) (by omega)
  · obtain ⟨h2, h3⟩ := Fit.newSegs fresh (A.prep P).2.1.last kept _ _ _ _ h1
    split
    · exact h2.mono (by omega) (by omega) (by omega)
    · have h4 := h2.arTurn (A := { (A.prep P).2.1 with last := (PD.newSegs fresh (A.prep P).2.1.last kept (A.prep P).2.2).2.1 }) (PD.newSegs fresh (A.prep P).2.1.last kept (A.prep P).2.2).2.2.1
      split
      · exact h4.mono (by omega) (by omega) (by omega)
      · unfold Ar.close
        have h5 := Fit.sweep (A := (({ (A.prep P).2.1 with last := (PD.newSegs fresh (A.prep P).2.1.last kept (A.prep P).2.2).2.1 } : Ar).turn (PD.newSegs fresh (A.prep P).2.1.last kept (A.prep P).2.2).2.2.2 (PD.newSegs fresh (A.prep P).2.1.last kept (A.prep P).2.2).2.2.1).2.1) h4
        split
        · exact h5.mono (by omega) (by omega) (by omega)
        · exact h5.syncDir.mono (by omega) (by omega) (by omega)
theorem Fit.padd (h : Fit P a c m) (nm : ByteArray) (s : Nat) (l : Bs) : Fit (P.add nm s l).2.2 a c (m + (l.length + 4)) := by
  have := h.append nm (pieceB s l)
  rw [pieceB_length] at this
  exact this
theorem Fit.jbegin {J : Jn} (h : Fit P a c m) : Fit (J.begin P).2.2 (a + 1) (c + 1) (m + 12) := by
  unfold Jn.begin
  have h1 := h.create (nmB (nmLog (J.last + 1)))
  have h2 := h1.padd (nmB (nmLog (J.last + 1))) (sum0 (nmLog (J.last + 1))) (intB J.puts)
  rw [intB_length] at h2
  split
  · exact h1.mono (Nat.le_refl _) (Nat.le_refl _) (by omega)
  · dsimp only
    split
    · exact h2
    · exact h2
theorem Fit.jput {J : Jn} (h : Fit P a c m) (p : Pu) : Fit (J.put P p).2.2.2 a c (m + 21) := by
  unfold Jn.put
  cases J.own with
  | none => exact h.mono (Nat.le_refl _) (Nat.le_refl _) (by omega)
  | some x =>
    obtain ⟨n, s⟩ := x
    have h2 := h.padd (nmB (nmLog n)) s (putB p.1 p.2.1 p.2.2)
    rw [putB17] at h2
    exact h2
theorem Fit.jadd {J : Jn} (h : Fit P a c m) (p : Pu) : Fit (J.add P p).2.2.2 (a + 1) (c + 1) (m + 33) := by
  unfold Jn.add
  split
  · split
    · exact h.jbegin.mono (Nat.le_refl _) (Nat.le_refl _) (by omega)
    · exact (h.jbegin.jput p).mono (Nat.le_refl _) (Nat.le_refl _) (by omega)
  · exact (h.jput p).mono (by omega) (by omega) (by omega)
theorem Fit.arAdd (h : Fit P a c m) (p : Pu) : Fit (A.add P p).2.2.2 (a + 1) (c + 1) (m + 33) := by
  unfold Ar.add
  split
  · exact h.settle.mono (by omega) (by omega) (by omega)
  · exact h.settle.jadd p
/-- What a Put leaves of the archive's numbers. -/
theorem add_shape (A : Ar) (P : PD) (p : Pu) : (A.add P p).2.2.1.last = A.last ∧ ((A.add P p).2.2.1.j.last = A.j.last ∨ (A.add P p).2.2.1.j.last = A.j.last + 1) := by
  have hs := settle_same A P
  have hput : ∀ (J : Jn) (Q : PD), (J.put Q p).2.2.1.last = J.last := fun J Q => by
    unfold Jn.put
    cases J.own <;> rfl
  have hbeg : ∀ (J : Jn) (Q : PD), (J.begin Q).2.1.last = J.last ∨ (J.begin Q).2.1.last = J.last + 1 := fun J Q => by
    unfold Jn.begin
    split
    · exact .inl rfl
    · dsimp only
      split
      · exact .inl rfl
      · exact .inr rfl
  have hadd : ∀ (J : Jn) (Q : PD), (J.add Q p).2.2.1.last = J.last ∨ (J.add Q p).2.2.1.last = J.last + 1 := fun J Q => by
    unfold Jn.add
    split
    · split
      · exact hbeg J Q
      · rw [hput]; exact hbeg J Q
    · exact .inl (hput J Q)
  unfold Ar.add
  split
  · exact ⟨hs.2.2, .inl (by rw [hs.2.1])⟩
  · dsimp only
    rw [← hs.2.1]
    exact ⟨hs.2.2, hadd _ _⟩
end
end Go.Proofs.YtodcnkbblippnaaGreatDoor
