/-
  The statement PassingCardSaid is proved: the law Passing answers true, at every four numbers; there is no condition.
  Part 31 of 34.
-/
import Derived.Test.YtodcnkbblippnaaGreatDoorPart13
import Derived.Test.YtodcnkbblippnaaGreatDoorPart18
import Derived.Test.YtodcnkbblippnaaGreatDoorPart16
/- A disk that does not fail, by what its directory's files hold ('fl'): what each call makes of it. No walk. -/
namespace Go.Proofs.YtodcnkbblippnaaGreatDoor
open Go.RowKit

/-! ## Entries -/
theorem nodup_at {α : Type} {l : List α} (h : l.Nodup) {i j : Nat} (hi : i < l.length) (hj : j < l.length) (e : l[i]'hi = l[j]'hj) : i = j := by
  have hp := List.pairwise_iff_getElem.1 h
  rcases Nat.lt_trichotomy i j with hij | hij | hij
  · exact absurd e (hp i j hi hj hij)
  · exact hij
  · exact absurd e.symm (hp j i hj hi hij)
theorem nodup_ent {es : List Ent} (h : (es.map (·.2)).Nodup) {a b : Ent} (ha : a ∈ es) (hb : b ∈ es) (e : a.2 = b.2) : a = b := by
  obtain ⟨i, hi, rfl⟩ := List.getElem_of_mem ha
  obtain ⟨j, hj, rfl⟩ := List.getElem_of_mem hb
  have : i = j := nodup_at h (by simpa using hi) (by simpa using hj) (by simpa using e)
  subst this; rfl
theorem lookup_mem {es : List Ent} {nm : ByteArray} {f : Nat} (h : lookup es nm = some f) : (nm, f) ∈ es := by
  induction es with
  | nil => cases h
  | cons e r ih =>
    unfold lookup at h
    split at h
    · rename_i he
      cases h; subst he; exact List.mem_cons_self ..
    · exact List.mem_cons_of_mem _ (ih h)
theorem lookup_none {es : List Ent} {nm : ByteArray} : lookup es nm = none ↔ ∀ e ∈ es, e.1 ≠ nm := by
  induction es with
  | nil => simp [lookup]
  | cons e r ih =>
    unfold lookup
    by_cases he : e.1 = nm
    · simp [he]
    · simp only [he, if_false, ih, List.mem_cons, forall_eq_or_imp, ne_eq, not_false_eq_true, true_and]
theorem lookup_append (es es' : List Ent) (nm : ByteArray) : lookup (es ++ es') nm = (lookup es nm).or (lookup es' nm) := by
  induction es with
  | nil => simp [lookup]
  | cons e r ih =>
    simp only [List.cons_append, lookup]
    split
    · simp
    · exact ih
theorem lookup_filter (es : List Ent) (p : ByteArray → Bool) (nm : ByteArray) : lookup (es.filter fun e => p e.1) nm = if p nm then lookup es nm else none := by
  induction es with
  | nil => simp [lookup]
  | cons e r ih =>
    simp only [List.filter_cons]
    by_cases he : e.1 = nm
    · subst he
      by_cases hp : p e.1
      · simp [hp, lookup]
      · have hp' : p e.1 = false := by simpa using hp
        rw [hp'] at ih ⊢
        simpa using ih
    · by_cases hp : p e.1
      · simp only [hp, if_true, lookup, he, if_false, ih]
      · have hp' : p e.1 = false := by simpa using hp
        simp only [hp', lookup, he, if_false]
        simpa using ih
theorem fidx_lookup (es : List Ent) (nm : ByteArray) : (fidx es nm < 0 ↔ lookup es nm = none) := by
  rcases lookup_cases es nm with ⟨h1, h2⟩ | ⟨k, hk, h1, h2, h3⟩
  · simp [h1, h2]
  · simp only [h1, h2]; exact ⟨fun h => by omega, fun h => by cases h⟩
/-- One entry is taken out. -/
theorem drop_filter (es : List Ent) (nm : ByteArray) (hn : (es.map (·.1)).Nodup) (h : ¬ fidx es nm < 0) :
    es.take (fidx es nm).toNat ++ es.drop ((fidx es nm).toNat + 1) = es.filter fun e => decide (e.1 ≠ nm) := by
  induction es with
  | nil => simp [fidx] at h
  | cons e r ih =>
    have hn' : e.1 ∉ r.map (·.1) ∧ (r.map (·.1)).Nodup := by simpa using hn
    unfold fidx at h ⊢
    by_cases he : e.1 = nm
    · subst he
      simp only [if_true, Int.toNat_zero, List.take_zero, List.nil_append, Nat.zero_add, List.drop_succ_cons, List.drop_zero]
      rw [List.filter_cons_of_neg (by simp)]
      rw [List.filter_eq_self.2]
      intro x hx
      simp only [decide_eq_true_eq, ne_eq]
      rintro hxe
      exact hn'.1 (hxe ▸ List.mem_map_of_mem hx)
    · simp only [he, if_false] at h ⊢
      by_cases h0 : fidx r nm < 0
      · simp [h0] at h
      · simp only [h0, if_false] at h ⊢
        have e1 : (fidx r nm + 1).toNat = (fidx r nm).toNat + 1 := by omega
        rw [e1, List.take_succ_cons, List.drop_succ_cons, List.cons_append, ih hn'.2 h0, List.filter_cons_of_pos (by simp [he])]
/-- What Rename keeps. -/
theorem renL_all (es : List Ent) (old nm : ByteArray) (hn : (es.map (·.1)).Nodup) (h : ¬ fidx es old < 0) :
    renL es (fidx es old).toNat nm es.length = es.filter fun e => decide (e.1 ≠ old ∧ e.1 ≠ nm) := by
  have gen : ∀ k, k ≤ es.length → renL es (fidx es old).toNat nm k = (es.take k).filter fun e => decide (e.1 ≠ old ∧ e.1 ≠ nm) := by
    intro k
    induction k with
    | zero => intro _; simp [renL]
    | succ k ih =>
      intro hk
      have hk' : k < es.length := by omega
      have hiff : (k = (fidx es old).toNat) ↔ (es[k]'hk').1 = old := by
        rcases fidx_cases es old with ⟨h1, _⟩ | ⟨m, hm, h1, h2⟩
        · omega
        · rw [h1]
          constructor
          · intro e; have e' : k = m := by simpa using e
            subst e'; exact h2
          · intro e
            have : k = m := nodup_at hn (by simpa using hk') (by simpa using hm) (by simp [e, h2])
            simp [this]
      rw [List.take_succ_eq_append_getElem hk', List.filter_append, ← ih (by omega)]
      by_cases hc : k ≠ (fidx es old).toNat ∧ (es[k]'hk').1 ≠ nm
      · rw [renL_keep es _ nm k hk' hc, List.filter_cons_of_pos]
        · simp
        · simp only [decide_eq_true_eq]; exact ⟨fun e => hc.1 (hiff.2 e), hc.2⟩
      · rw [renL_drop es _ nm k hk' hc, List.filter_cons_of_neg]
        · simp
        · simp only [decide_eq_true_eq]; intro hx; exact hc ⟨fun e => hx.1 (hiff.1 e), hx.2⟩
  have := gen es.length (Nat.le_refl _)
  rwa [List.take_length] at this
theorem usedL_filter (F : Nat → FC) (es : List Ent) (p : Ent → Bool) : usedL F (es.filter p) ≤ usedL F es := by
  induction es with
  | nil => simp [usedL]
  | cons e r ih =>
    rw [List.filter_cons]
    split
    · simp only [usedL]; omega
    · simp only [usedL]; omega
theorem usedL_upd_not (F : Nat → FC) (f : Nat) (c : FC) (es : List Ent) (h : ∀ e ∈ es, e.2 ≠ f) : usedL (upd F f c) es = usedL F es := by
  induction es with
  | nil => simp [usedL]
  | cons e r ih =>
    simp only [usedL, upd, h e (List.mem_cons_self ..), if_false]
    rw [← ih fun x hx => h x (List.mem_cons_of_mem _ hx)]
theorem usedL_upd (F : Nat → FC) (f : Nat) (c : FC) (es : List Ent) (hn : (es.map (·.2)).Nodup) (h : ∃ e ∈ es, e.2 = f) : usedL (upd F f c) es + (F f).1.length = usedL F es + c.1.length := by
  induction es with
  | nil => obtain ⟨e, he, _⟩ := h; cases he
  | cons e r ih =>
    have hn' : e.2 ∉ r.map (·.2) ∧ (r.map (·.2)).Nodup := by simpa using hn
    by_cases he : e.2 = f
    · subst he
      have : usedL (upd F e.2 c) r = usedL F r := usedL_upd_not F _ c r fun x hx hxe => hn'.1 (hxe ▸ List.mem_map_of_mem hx)
      simp only [usedL, this]
      simp [upd]; omega
    · obtain ⟨x, hx, hxe⟩ := h
      have hr : ∃ x ∈ r, x.2 = f := by
        rcases List.mem_cons.1 hx with rfl | hx
        · exact absurd hxe he
        · exact ⟨x, hx, hxe⟩
      have := ih hn'.2 hr
      simp only [usedL, upd, he, if_false] at this ⊢
      omega

/-! ## A calm disk -/
/-- What a file of the directory holds. -/
def PD.fl (P : PD) (nm : Bs) : Option FC := (lookup P.D.dir (nmB nm)).map P.F
/-- No call fails, so many are left; there is room for so many bytes. -/
structure Cm (P : PD) (N R : Nat) : Prop where
  dead : P.D.n.dead = false
  cut : P.D.n.cut = 0
  fail : P.D.n.fail = 0
  calls : 0 ≤ P.D.n.calls ∧ P.D.n.calls + N ≤ 4611686018427387904
  room : (usedL P.F P.D.dir : Int) + R ≤ P.D.n.room
  ids : (P.D.dir.map (·.2)).Nodup
  nms : (P.D.dir.map (·.1)).Nodup
section
variable {P : PD} {N R : Nat} {nm : Bs}
theorem Cm.mono {N' R' : Nat} (h : Cm P N R) (hN : N' ≤ N) (hR : R' ≤ R) : Cm P N' R' :=
  ⟨h.dead, h.cut, h.fail, ⟨h.calls.1, by have := h.calls.2; omega⟩, by have := h.room; omega, h.ids, h.nms⟩
theorem Cm.bg (h : Cm P (N + 1) R) : bg P.D.n = (true, 0, { P.D.n with calls := P.D.n.calls + 1 }) := by
  obtain ⟨c1, c2⟩ := h.calls
  have e : wrap64 (P.D.n.calls + 1) = P.D.n.calls + 1 := by unfold wrap64; omega
  unfold Go.Proofs.YtodcnkbblippnaaGreatDoor.bg
  dsimp only
  rw [e, if_neg (by simp [h.dead]), if_neg (by rw [h.cut]; omega), if_neg (by rw [h.fail]; omega)]
theorem fl_none : P.fl nm = none ↔ lookup P.D.dir (nmB nm) = none := by unfold PD.fl; simp
theorem fl_some {c : FC} (h : P.fl nm = some c) : ∃ f, lookup P.D.dir (nmB nm) = some f ∧ P.F f = c := by
  unfold PD.fl at h; simpa using h
theorem nmB_nil (h : nm ≠ []) : nmB nm ≠ ByteArray.empty := fun e => h (by have : nmB nm = nmB [] := e; exact nmB_inj.1 this)
theorem Cm.create (h : Cm P (N + 1) R) (h0 : P.fl nm = none) (hne : nm ≠ []) :
    (P.create (nmB nm)).1 = 0 ∧ Cm (P.create (nmB nm)).2 N R ∧ ∀ m, (P.create (nmB nm)).2.fl m = if m = nm then some ([], 0) else P.fl m := by
  have hl := fl_none.1 h0
  have hx : ¬ (nmB nm = ByteArray.empty ∨ fidx P.D.dir (nmB nm) ≥ 0) := by
    rintro (h | h)
    · exact nmB_nil hne h
    · have := (fidx_lookup P.D.dir (nmB nm)).2 hl; omega
  have hfr : ∀ e ∈ P.D.dir, e.2 ≠ P.D.fresh := fun e he hf => P.D.fresh_not (.inl ⟨e, he, hf⟩)
  unfold PD.create dCreate
  rw [if_neg hx]
  dsimp only
  rw [h.bg]
  dsimp only
  rw [if_pos rfl]
  refine ⟨rfl, ⟨h.dead, h.cut, h.fail, by have := h.calls; dsimp only; omega, ?_, ?_, ?_⟩, fun m => ?_⟩
  · have := h.room
    dsimp only
    rw [usedL_append, usedL_upd_not _ _ _ _ hfr]
    simp only [usedL, upd, if_true, List.length_nil]; omega
  · dsimp only
    rw [List.map_append, List.nodup_append]
    refine ⟨h.ids, by simp, fun a ha b hb => ?_⟩
    simp at hb; subst hb
    obtain ⟨e, he, rfl⟩ := List.mem_map.1 ha
    exact hfr e he
  · dsimp only
    rw [List.map_append, List.nodup_append]
    refine ⟨h.nms, by simp, fun a ha b hb => ?_⟩
    simp at hb; subst hb
    obtain ⟨e, he, rfl⟩ := List.mem_map.1 ha
    exact (lookup_none.1 hl) e he
  · unfold PD.fl
    dsimp only
    rw [lookup_append]
    by_cases hm : m = nm
    · subst hm; rw [hl]; simp [lookup, upd]
    · have hne : ¬ nmB nm = nmB m := fun e => hm (nmB_inj.1 e).symm
      simp only [lookup, hne, if_false, Option.or_none, hm]
      cases hk : lookup P.D.dir (nmB m) with
      | none => rfl
      | some f =>
        have : f ≠ P.D.fresh := hfr _ (lookup_mem hk)
        simp [upd, this]
theorem nmB_size (l : Bs) : (nmB l).size = l.length := by simp [nmB, ByteArray.size]
theorem Cm.append {c : FC} (h : Cm P (N + 1) R) (h0 : P.fl nm = some c) (l : Bs) (hl : l.length ≤ R) :
    (P.append (nmB nm) l).1 = 0 ∧ Cm (P.append (nmB nm) l).2 N (R - l.length) ∧ ∀ m, (P.append (nmB nm) l).2.fl m = if m = nm then some (c.1 ++ l, c.2) else P.fl m := by
  obtain ⟨f, hf, rfl⟩ := fl_some h0
  have hroom := h.room
  have hleft : ¬ ((nmB l).size : Int) > dLeft { P.D with n := { P.D.n with calls := P.D.n.calls + 1 } } P.F := by
    unfold dLeft; rw [nmB_size]; dsimp only; omega
  unfold PD.append dAppend
  rw [hf]
  dsimp only
  rw [h.bg]
  dsimp only
  rw [if_pos rfl]
  unfold dAdd
  rw [if_neg hleft]
  dsimp only
  have ht : (nmB l).data.toList.take ((nmB l).size : Int).toNat = l := by rw [nmB_size]; simp [nmB]
  rw [ht]
  have hu := usedL_upd P.F f ((P.F f).1 ++ l, (P.F f).2) P.D.dir h.ids ⟨_, lookup_mem hf, rfl⟩
  refine ⟨rfl, ⟨h.dead, h.cut, h.fail, by have := h.calls; dsimp only; omega, ?_, h.ids, h.nms⟩, fun m => ?_⟩
  · dsimp only
    simp only [List.length_append] at hu
    omega
  · unfold PD.fl
    dsimp only
    by_cases hm : m = nm
    · subst hm; rw [hf]; simp [upd]
    · rw [if_neg hm]
      cases hk : lookup P.D.dir (nmB m) with
      | none => rfl
      | some g =>
        have : g ≠ f := fun e => hm (by
          have := nodup_ent h.ids (lookup_mem hk) (lookup_mem hf) e
          exact nmB_inj.1 (Prod.mk.inj this).1)
        simp [upd, this]
theorem Cm.sync {c : FC} (h : Cm P (N + 1) R) (h0 : P.fl nm = some c) :
    (P.sync (nmB nm)).1 = 0 ∧ Cm (P.sync (nmB nm)).2 N R ∧ ∀ m, ((P.sync (nmB nm)).2.fl m).map (·.1) = (P.fl m).map (·.1) := by
  obtain ⟨f, hf, rfl⟩ := fl_some h0
  unfold PD.sync dSync
  rw [hf]
  dsimp only
  rw [h.bg]
  dsimp only
  rw [if_pos rfl]
  have hu := usedL_upd P.F f ((P.F f).1, (P.F f).1.length) P.D.dir h.ids ⟨_, lookup_mem hf, rfl⟩
  refine ⟨rfl, ⟨h.dead, h.cut, h.fail, by have := h.calls; dsimp only; omega, ?_, h.ids, h.nms⟩, fun m => ?_⟩
  · have := h.room
    dsimp only at hu ⊢
    omega
  · unfold PD.fl
    dsimp only
    cases hk : lookup P.D.dir (nmB m) with
    | none => rfl
    | some g =>
      by_cases e : g = f
      · subst e; simp [upd]
      · simp [upd, e]
theorem Cm.syncDir (h : Cm P (N + 1) R) : P.syncDir.1 = 0 ∧ Cm P.syncDir.2 N R ∧ ∀ m, P.syncDir.2.fl m = P.fl m := by
  unfold PD.syncDir dSyncDir
  dsimp only
  rw [h.bg]
  dsimp only
  rw [if_pos rfl]
  exact ⟨rfl, ⟨h.dead, h.cut, h.fail, by have := h.calls; dsimp only; omega, h.room, h.ids, h.nms⟩, fun _ => rfl⟩
theorem Cm.turnDir (h : Cm P (N + 1) R) (_p : ByteArray → Bool) (es : List Ent) (hu : usedL P.F es ≤ usedL P.F P.D.dir) (h1 : (es.map (·.2)).Nodup) (h2 : (es.map (·.1)).Nodup) :
    Cm ⟨{ P.D with dir := es, changes := P.D.changes ++ [es], n := { P.D.n with calls := P.D.n.calls + 1 } }, P.F⟩ N R :=
  ⟨h.dead, h.cut, h.fail, by have := h.calls; dsimp only; omega, by have := h.room; dsimp only; omega, h1, h2⟩
theorem Cm.remove {c : FC} (h : Cm P (N + 1) R) (h0 : P.fl nm = some c) :
    (P.remove (nmB nm)).1 = 0 ∧ Cm (P.remove (nmB nm)).2 N R ∧ ∀ m, (P.remove (nmB nm)).2.fl m = if m = nm then none else P.fl m := by
  obtain ⟨f, hf, rfl⟩ := fl_some h0
  have hx : ¬ fidx P.D.dir (nmB nm) < 0 := fun h => by rw [fidx_lookup, hf] at h; cases h
  unfold PD.remove dRemove
  rw [if_neg hx]
  dsimp only
  rw [h.bg]
  dsimp only
  rw [if_pos rfl, drop_filter _ _ h.nms hx]
  refine ⟨rfl, h.turnDir (fun _ => true) _ (usedL_filter _ _ _) (h.ids.sublist (List.filter_sublist.map _)) (h.nms.sublist (List.filter_sublist.map _)), fun m => ?_⟩
  unfold PD.fl
  dsimp only
  rw [lookup_filter P.D.dir (fun x => decide (x ≠ nmB nm))]
  by_cases hm : m = nm
  · subst hm; simp
  · have : nmB m ≠ nmB nm := fun e => hm (nmB_inj.1 e)
    simp [this, hm]
theorem Cm.rename {c : FC} {old : Bs} (h : Cm P (N + 1) R) (h0 : P.fl old = some c) (hne : nm ≠ []) (hd : old ≠ nm) :
    (P.rename (nmB old) (nmB nm)).1 = 0 ∧ Cm (P.rename (nmB old) (nmB nm)).2 N R ∧ ∀ m, (P.rename (nmB old) (nmB nm)).2.fl m = if m = nm then some c else if m = old then none else P.fl m := by
  obtain ⟨f, hf, rfl⟩ := fl_some h0
  have hx : ¬ fidx P.D.dir (nmB old) < 0 := fun h => by rw [fidx_lookup, hf] at h; cases h
  have hmem := lookup_mem hf
  unfold PD.rename dRename
  rw [hf]
  dsimp only
  rw [if_neg (nmB_nil hne), h.bg]
  dsimp only
  rw [if_pos rfl, renL_all _ _ _ h.nms hx]
  have hsub : (P.D.dir.filter fun e => decide (e.1 ≠ nmB old ∧ e.1 ≠ nmB nm)) = (P.D.dir.filter fun e => decide (e.1 ≠ nmB old)).filter fun e => decide (e.1 ≠ nmB nm) := by
    rw [List.filter_filter]; congr 1; funext e; simp [and_comm]
  have hparts : usedL P.F (P.D.dir.filter fun e => decide (e.1 ≠ nmB old)) + (P.F f).1.length ≤ usedL P.F P.D.dir := by
    have gen : ∀ es : List Ent, (nmB old, f) ∈ es → usedL P.F (es.filter fun e => decide (e.1 ≠ nmB old)) + (P.F f).1.length ≤ usedL P.F es := by
      intro es
      induction es with
      | nil => intro h; cases h
      | cons e r ih =>
        intro hm
        by_cases he : e.1 = nmB old
        · rw [List.filter_cons_of_neg (by simp [he])]
          rcases List.mem_cons.1 hm with hm | hm
          · subst hm
            have := usedL_filter P.F r fun e => decide (e.1 ≠ nmB old)
            simp only [usedL]; omega
          · have := ih hm
            simp only [usedL]; omega
        · rw [List.filter_cons_of_pos (by simp [he])]
          rcases List.mem_cons.1 hm with hm | hm
          · subst hm; exact absurd rfl he
          · have := ih hm
            simp only [usedL]; omega
    exact gen _ hmem
  refine ⟨rfl, h.turnDir (fun _ => true) _ ?_ ?_ ?_, fun m => ?_⟩
  · rw [usedL_append, hsub]
    have := usedL_filter P.F (P.D.dir.filter fun e => decide (e.1 ≠ nmB old)) fun e => decide (e.1 ≠ nmB nm)
    simp only [usedL]; omega
  · rw [List.map_append, List.nodup_append]
    refine ⟨h.ids.sublist (List.filter_sublist.map _), by simp, fun a ha b hb => ?_⟩
    simp at hb; subst hb
    obtain ⟨e, he, rfl⟩ := List.mem_map.1 ha
    obtain ⟨he1, he2⟩ := List.mem_filter.1 he
    intro hef
    have := nodup_ent h.ids he1 hmem hef
    subst this
    simp at he2
  · rw [List.map_append, List.nodup_append]
    refine ⟨h.nms.sublist (List.filter_sublist.map _), by simp, fun a ha b hb => ?_⟩
    simp at hb; subst hb
    obtain ⟨e, he, rfl⟩ := List.mem_map.1 ha
    have := (List.mem_filter.1 he).2
    simp at this
    exact this.2
  · unfold PD.fl
    dsimp only
    rw [lookup_append, lookup_filter P.D.dir (fun x => decide (x ≠ nmB old ∧ x ≠ nmB nm))]
    by_cases hm : m = nm
    · subst hm; simp [lookup]
    · have hne : ¬ nmB nm = nmB m := fun e => hm (nmB_inj.1 e).symm
      have hne' : nmB m ≠ nmB nm := fun e => hm (nmB_inj.1 e)
      simp only [lookup, hne, if_false, Option.or_none, hm]
      by_cases ho : m = old
      · subst ho; simp
      · have : nmB m ≠ nmB old := fun e => ho (nmB_inj.1 e)
        simp [this, hne', ho]
end
end Go.Proofs.YtodcnkbblippnaaGreatDoor
/- A calm disk: files of pieces are written and read, many files are made safe or taken away; the names. No walk. -/
namespace Go.Proofs.YtodcnkbblippnaaGreatDoor
open Go.RowKit

/-! ## Names -/
theorem ins_perm (l : List ByteArray) (x : ByteArray) : (ins l x).Perm (x :: l) := by
  unfold ins
  refine List.perm_middle.trans ?_
  rw [List.take_append_drop]
theorem dListK_perm (es : List Ent) : ∀ k, k ≤ es.length → (dListK es k).Perm ((es.take k).map (·.1)) := by
  intro k
  induction k with
  | zero => intro _; simp [dListK]
  | succ k ih =>
    intro hk
    have hk' : k < es.length := by omega
    rw [dListK_succ es k hk', List.take_succ_eq_append_getElem hk', List.map_append]
    refine (ins_perm _ _).trans ?_
    refine ((ih (by omega)).cons _).trans ?_
    exact (List.perm_append_singleton _ _).symm
theorem dList_perm (es : List Ent) : (dList es).Perm (es.map (·.1)) := by
  have := dListK_perm es es.length (Nat.le_refl _)
  rwa [List.take_length] at this
/-- The bytes of a file of the directory. -/
def PD.bs (P : PD) (nm : Bs) : Option Bs := (P.fl nm).map (·.1)
section
variable {P P' : PD} {N R : Nat} {nm : Bs}
theorem names_mem : nm ∈ P.names ↔ P.bs nm ≠ none := by
  unfold PD.names PD.bs PD.fl
  rw [List.mem_map]
  constructor
  · rintro ⟨b, hb, rfl⟩
    have := (dList_perm P.D.dir).mem_iff.1 hb
    obtain ⟨e, he, rfl⟩ := List.mem_map.1 this
    cases hk : lookup P.D.dir (nmB e.1.data.toList) with
    | none => rw [nmB_data] at hk; exact absurd rfl (lookup_none.1 hk e he)
    | some f => simp
  · intro h
    cases hk : lookup P.D.dir (nmB nm) with
    | none => rw [hk] at h; exact absurd rfl h
    | some f =>
      refine ⟨nmB nm, (dList_perm P.D.dir).mem_iff.2 (List.mem_map.2 ⟨_, lookup_mem hk, rfl⟩), by simp [nmB]⟩
theorem Cm.nodup (h : Cm P N R) : P.names.Nodup := by
  unfold PD.names
  have h1 : (dList P.D.dir).Nodup := (dList_perm P.D.dir).nodup_iff.2 h.nms
  rw [List.Nodup, List.pairwise_map]
  refine List.Pairwise.imp (fun hab e => hab ?_) h1
  rename_i a b
  rw [← nmB_data a, ← nmB_data b, e]

/-! ## The calls, by bytes -/
theorem bs_none : P.bs nm = none ↔ P.fl nm = none := by unfold PD.bs; simp
theorem bs_fl {c : Bs} (h : P.bs nm = some c) : ∃ k, P.fl nm = some (c, k) := by
  unfold PD.bs at h
  cases hx : P.fl nm with
  | none => rw [hx] at h; cases h
  | some x => rw [hx] at h; obtain ⟨a, k⟩ := x; simp at h; subst h; exact ⟨k, rfl⟩
theorem Cm.createB (h : Cm P (N + 1) R) (h0 : P.bs nm = none) (hne : nm ≠ []) :
    (P.create (nmB nm)).1 = 0 ∧ Cm (P.create (nmB nm)).2 N R ∧ ∀ m, (P.create (nmB nm)).2.bs m = if m = nm then some [] else P.bs m := by
  obtain ⟨h1, h2, h3⟩ := h.create (bs_none.1 h0) hne
  refine ⟨h1, h2, fun m => ?_⟩
  unfold PD.bs; rw [h3 m]; split <;> rfl
theorem Cm.appendB {c : Bs} (h : Cm P (N + 1) R) (h0 : P.bs nm = some c) (l : Bs) (hl : l.length ≤ R) :
    (P.append (nmB nm) l).1 = 0 ∧ Cm (P.append (nmB nm) l).2 N (R - l.length) ∧ ∀ m, (P.append (nmB nm) l).2.bs m = if m = nm then some (c ++ l) else P.bs m := by
  obtain ⟨k, hk⟩ := bs_fl h0
  obtain ⟨h1, h2, h3⟩ := h.append hk l hl
  refine ⟨h1, h2, fun m => ?_⟩
  unfold PD.bs; rw [h3 m]; split <;> rfl
theorem Cm.syncB {c : Bs} (h : Cm P (N + 1) R) (h0 : P.bs nm = some c) :
    (P.sync (nmB nm)).1 = 0 ∧ Cm (P.sync (nmB nm)).2 N R ∧ ∀ m, (P.sync (nmB nm)).2.bs m = P.bs m := by
  obtain ⟨k, hk⟩ := bs_fl h0
  exact h.sync hk
theorem Cm.syncDirB (h : Cm P (N + 1) R) : P.syncDir.1 = 0 ∧ Cm P.syncDir.2 N R ∧ ∀ m, P.syncDir.2.bs m = P.bs m := by
  obtain ⟨h1, h2, h3⟩ := h.syncDir
  exact ⟨h1, h2, fun m => by unfold PD.bs; rw [h3 m]⟩
theorem Cm.removeB {c : Bs} (h : Cm P (N + 1) R) (h0 : P.bs nm = some c) :
    (P.remove (nmB nm)).1 = 0 ∧ Cm (P.remove (nmB nm)).2 N R ∧ ∀ m, (P.remove (nmB nm)).2.bs m = if m = nm then none else P.bs m := by
  obtain ⟨k, hk⟩ := bs_fl h0
  obtain ⟨h1, h2, h3⟩ := h.remove hk
  refine ⟨h1, h2, fun m => ?_⟩
  unfold PD.bs; rw [h3 m]; split <;> rfl
theorem Cm.renameB {c : Bs} {old : Bs} (h : Cm P (N + 1) R) (h0 : P.bs old = some c) (hne : nm ≠ []) (hd : old ≠ nm) :
    (P.rename (nmB old) (nmB nm)).1 = 0 ∧ Cm (P.rename (nmB old) (nmB nm)).2 N R ∧ ∀ m, (P.rename (nmB old) (nmB nm)).2.bs m = if m = nm then some c else if m = old then none else P.bs m := by
  obtain ⟨k, hk⟩ := bs_fl h0
  obtain ⟨h1, h2, h3⟩ := h.rename hk hne hd
  refine ⟨h1, h2, fun m => ?_⟩
  unfold PD.bs; rw [h3 m]
  split
  · rfl
  · split <;> rfl
theorem bs_all : P.all nm = match P.bs nm with | some c => (c, 0) | none => ([], 8) := by
  unfold PD.all allN PD.bs PD.fl
  cases lookup P.D.dir (nmB nm) <;> rfl
theorem dSize_bs : dSize P.D P.F (nmB nm) = match P.bs nm with | some c => ((c.length : Int), 0) | none => (0, 8) := by
  unfold dSize PD.bs PD.fl
  cases lookup P.D.dir (nmB nm) <;> rfl
theorem pieceB_length (s : Nat) (l : Bs) : (pieceB s l).length = l.length + 4 := by simp [pieceB, sumB_length]
/-- A piece is added. -/
theorem Cm.add {c : Bs} (h : Cm P (N + 1) R) (h0 : P.bs nm = some c) (s : Nat) (l : Bs) (hl : l.length + 4 ≤ R) :
    (P.add (nmB nm) s l).1 = true ∧ (P.add (nmB nm) s l).2.1 = 0 ∧ Cm (P.add (nmB nm) s l).2.2 N (R - (l.length + 4)) ∧ ∀ m, (P.add (nmB nm) s l).2.2.bs m = if m = nm then some (c ++ pieceB s l) else P.bs m := by
  have hp := pieceB_length s l
  obtain ⟨h1, h2, h3⟩ := h.appendB h0 (pieceB s l) (by omega)
  rw [hp] at h2
  refine ⟨?_, h1, h2, h3⟩
  show addOk P.D P.F (nmB nm) (pieceB s l) = true
  unfold addOk
  have e := @dSize_bs (P.append (nmB nm) (pieceB s l)).2 nm
  have e2 : dSize (dAppend P.D P.F (nmB nm) ⟨(pieceB s l).toArray⟩).2.1 (dAppend P.D P.F (nmB nm) ⟨(pieceB s l).toArray⟩).2.2 (nmB nm) = dSize (P.append (nmB nm) (pieceB s l)).2.D (P.append (nmB nm) (pieceB s l)).2.F (nmB nm) := rfl
  rw [e2, e, h3 nm, dSize_bs, h0]
  simp only [if_true, List.length_append]
  simp only [decide_eq_true_eq]
  omega
/-- A file of one piece is made. -/
theorem Cm.write (h : Cm P (N + 3) R) (h0 : P.bs nm = none) (hne : nm ≠ []) (s : Nat) (l : Bs) (hl : l.length + 4 ≤ R) :
    (P.write nm s l).1 = 0 ∧ Cm (P.write nm s l).2 N (R - (l.length + 4)) ∧ ∀ m, (P.write nm s l).2.bs m = if m = nm then some (pieceB s l) else P.bs m := by
  obtain ⟨a1, a2, a3⟩ := Cm.createB (N := N + 2) h h0 hne
  obtain ⟨-, b1, b2, b3⟩ := Cm.add (N := N + 1) (nm := nm) (c := []) a2 (by rw [a3]; simp) s l hl
  obtain ⟨c1, c2, c3⟩ := Cm.syncB (N := N) (nm := nm) (c := pieceB s l) b2 (by rw [b3]; simp)
  unfold PD.write
  rw [if_neg (by simp [a1]), if_neg (by simp [b1])]
  refine ⟨c1, c2, fun m => ?_⟩
  rw [c3, b3, a3]
  split
  · simp
  · rfl
theorem unseal_piece (s : Nat) (l : Bs) : unsealN s (pieceB s l) = some l := by
  unfold unsealN
  have hp := pieceB_length s l
  have e1 : (pieceB s l).length - 4 = l.length := by omega
  rw [if_neg (by omega), e1]
  have e2 : (pieceB s l).take l.length = l := by simp [pieceB]
  have e3 : (pieceB s l).drop l.length = sumB (sumOn s l) := by simp [pieceB]
  rw [e2, e3, if_pos rfl]
theorem read_some {l : Bs} (h : P.bs nm = some (pieceB (sum0 nm) l)) : P.read nm = (l, 0) := by
  unfold PD.read
  rw [bs_all, h]
  simp [unseal_piece]
theorem read_none (h : P.bs nm = none) : P.read nm = ([], 8) := by
  unfold PD.read
  rw [bs_all, h]
  simp
/-- All of them are made safe. -/
theorem Cm.syncAll : ∀ (l : List Bs) {P : PD}, Cm P (N + l.length) R → (∀ m ∈ l, P.bs m ≠ none) → (PD.syncAll l P).1 = 0 ∧ Cm (PD.syncAll l P).2 N R ∧ ∀ m, (PD.syncAll l P).2.bs m = P.bs m
  | [], P, h, _ => ⟨rfl, h, fun _ => rfl⟩
  | x :: r, P, h, hm => by
    obtain ⟨c, hc⟩ := Option.ne_none_iff_exists'.1 (hm x (List.mem_cons_self ..))
    obtain ⟨a1, a2, a3⟩ := Cm.syncB (N := N + r.length) (by simpa [Nat.add_assoc] using h) hc
    obtain ⟨b1, b2, b3⟩ := Cm.syncAll r a2 fun m hm' => by rw [a3]; exact hm m (List.mem_cons_of_mem _ hm')
    unfold PD.syncAll
    rw [if_neg (by simp [a1])]
    exact ⟨b1, b2, fun m => by rw [b3, a3]⟩
/-- All of them are taken away. -/
theorem Cm.removeAll : ∀ (l : List Bs) {P : PD}, Cm P (N + l.length) R → l.Nodup → (∀ m ∈ l, P.bs m ≠ none) → (PD.removeAll l P).1 = 0 ∧ Cm (PD.removeAll l P).2 N R ∧ ∀ m, (PD.removeAll l P).2.bs m = if m ∈ l then none else P.bs m
  | [], P, h, _, _ => ⟨rfl, h, fun m => by simp [PD.removeAll]⟩
  | x :: r, P, h, hn, hm => by
    have hn' := List.nodup_cons.1 hn
    obtain ⟨c, hc⟩ := Option.ne_none_iff_exists'.1 (hm x (List.mem_cons_self ..))
    obtain ⟨a1, a2, a3⟩ := Cm.removeB (N := N + r.length) (by simpa [Nat.add_assoc] using h) hc
    obtain ⟨b1, b2, b3⟩ := Cm.removeAll r a2 hn'.2 fun m hm' => by
      have e : m ≠ x := fun e => by subst e; exact hn'.1 hm'
      rw [a3, if_neg e]; exact hm m (List.mem_cons_of_mem _ hm')
    unfold PD.removeAll
    rw [if_neg (by simp [a1])]
    refine ⟨b1, b2, fun m => ?_⟩
    rw [b3, a3]
    by_cases e : m = x
    · subst e; simp
    · simp [e]
end
end Go.Proofs.YtodcnkbblippnaaGreatDoor
/- What was written is what is read: the index, segments, logs. No walk. -/
namespace Go.Proofs.YtodcnkbblippnaaGreatDoor
open Go.RowKit

/-! ## The index -/
theorem flat_len (l : List Int) : (l.flatMap intB).length = 8 * l.length := by
  induction l with
  | nil => rfl
  | cons n t ih => rw [List.flatMap_cons, List.length_append, ih, intB_length, List.length_cons]; omega
/-- An index that counts: its numbers. -/
structure IxOk (ix : Ix) : Prop where
  first : isNum ix.first = true
  segs : ∀ n ∈ ix.segs, isNum n = true
  rise : riseB cmpI ix.segs = true
theorem isNum_64 {n : Int} (h : isNum n = true) : In64 n := by
  unfold isNum at h; simp at h; constructor <;> omega
theorem indexOf_none : indexOf ([], 8) = some ⟨1, []⟩ := by simp [indexOf]

/-! ## Segments -/
theorem putB17 (p : Pu) : (putB p.1 p.2.1 p.2.2).length = 17 := by simp [putB, intB_length]
theorem putN_putB {p : Pu} (h : PuOk p) (r : Bs) : putN (putB p.1 p.2.1 p.2.2 ++ r) = p ∧ ((putB p.1 p.2.1 p.2.2 ++ r).headD 0).toNat < 8 := by
  obtain ⟨a, t, v⟩ := p
  obtain ⟨⟨h1, h2⟩, h3, h4⟩ := h
  dsimp only at h1 h2 h3 h4 ⊢
  have h8 := intB_length t
  have e1 : ((UInt8.ofNat (a % 256).toNat).toNat : Int) = a := by
    have : (a % 256).toNat = a.toNat := by omega
    rw [this]
    simp
    omega
  unfold putN putB
  simp only [List.cons_append, List.headD_cons, List.drop_succ_cons, List.drop_zero, List.append_assoc]
  rw [e1, intN_intB t h3, List.drop_left' (by rw [h8]), intN_intB v h4]
  exact ⟨rfl, by omega⟩
theorem segK_puts : ∀ (l : List Pu) (k : Nat), (∀ p ∈ l, PuOk p) → l.length < k → segK k (putsB l) = some (l, [])
  | [], k, _, hk => by
    cases k with
    | zero => simp at hk
    | succ k => simp [segK, putsB]
  | p :: t, k, hp, hk => by
    cases k with
    | zero => simp at hk
    | succ k =>
      have e : putsB (p :: t) = putB p.1 p.2.1 p.2.2 ++ putsB t := by simp [putsB]
      obtain ⟨h1, h2⟩ := putN_putB (hp p (List.mem_cons_self ..)) (putsB t)
      have h17 := putB17 p
      rw [e]
      unfold segK
      rw [if_neg (by simp [h17]), if_pos h2, List.drop_left' (by rw [h17]), segK_puts t k (fun x hx => hp x (List.mem_cons_of_mem _ hx)) (by simp at hk; omega), h1]
      rfl
theorem putsB_len (l : List Pu) : (putsB l).length = 17 * l.length := by
  induction l with
  | nil => rfl
  | cons p t ih =>
    have e : putsB (p :: t) = putB p.1 p.2.1 p.2.2 ++ putsB t := by simp [putsB]
    rw [e, List.length_append, ih, putB17, List.length_cons]; omega
theorem segOf_puts {l : List Pu} (h : ∀ p ∈ l, PuOk p) (hr : riseB cmpPu l = true) : segOf (putsB l, 0) = some l := by
  unfold segOf
  dsimp only
  rw [if_neg (by decide)]
  cases l with
  | nil => simp [putsB, segK, hr]
  | cons p t =>
    rw [segK_puts (p :: t) _ h (by rw [putsB_len]; simp)]
    simp [hr]

/-! ## Logs -/
/-- The pieces of Puts from the sum s on, and the sum behind them. -/
def logP : Nat → List Pu → Bs
  | _, [] => []
  | s, p :: r => pieceB s (putB p.1 p.2.1 p.2.2) ++ logP (sumOn s (putB p.1 p.2.1 p.2.2)) r
def logS : Nat → List Pu → Nat
  | s, [] => s
  | s, p :: r => logS (sumOn s (putB p.1 p.2.1 p.2.2)) r
theorem logP_snoc : ∀ (l : List Pu) (s : Nat) (p : Pu), logP s (l ++ [p]) = logP s l ++ pieceB (logS s l) (putB p.1 p.2.1 p.2.2) ∧ logS s (l ++ [p]) = sumOn (logS s l) (putB p.1 p.2.1 p.2.2)
  | [], s, p => by simp [logP, logS]
  | x :: r, s, p => by
    obtain ⟨h1, h2⟩ := logP_snoc r (sumOn s (putB x.1 x.2.1 x.2.2)) p
    simp only [List.cons_append, logP, logS, h1, h2, List.append_assoc, and_self]
theorem logP_len : ∀ (l : List Pu) (s : Nat), (logP s l).length = 21 * l.length
  | [], _ => rfl
  | p :: r, s => by
    simp only [logP, List.length_append, pieceB_length, putB17, logP_len r, List.length_cons]; omega
theorem readP_log : ∀ (l : List Pu) (s k : Nat) (t : Bs), (∀ p ∈ l, PuOk p) → l.length < k → t.length < 21 → readP k s (logP s l ++ t) = (l, true)
  | [], s, k, t, _, _, ht => by simp only [logP, List.nil_append]; exact readP_short ht
  | p :: r, s, k, t, hp, hk, ht => by
    cases k with
    | zero => simp at hk
    | succ k =>
      have hok := hp p (List.mem_cons_self ..)
      have h17 := putB17 p
      have ih := readP_log r (sumOn s (putB p.1 p.2.1 p.2.2)) k t (fun x hx => hp x (List.mem_cons_of_mem _ hx)) (by simp at hk; omega) ht
      obtain ⟨h1, h2⟩ := putN_putB hok []
      have hp1 : putB p.1 p.2.1 p.2.2 = UInt8.ofNat (p.1 % 256).toNat :: (intB p.2.1 ++ intB p.2.2) := rfl
      simp only [List.append_nil] at h1 h2
      have e : logP s (p :: r) ++ t = UInt8.ofNat (p.1 % 256).toNat :: (intB p.2.1 ++ intB p.2.2) ++ sumB (sumOn s (putB p.1 p.2.1 p.2.2)) ++ (logP (sumOn s (putB p.1 p.2.1 p.2.2)) r ++ t) := by
        simp only [logP, pieceB, hp1, List.append_assoc]
      rw [e, readP_good (by simp [intB_length]) (sumB_length _) (by rw [← hp1]) (by rw [hp1] at h2; exact h2)]
      rw [← hp1, ih]
      have h1' := h1
      unfold putN at h1'
      rw [hp1] at h1'
      simp only [List.headD_cons, List.drop_succ_cons, List.drop_zero] at h1'
      rw [h1']
/-- A log: so many Puts ahead of it, these in it. -/
def logB (nm : Bs) (ahead : Int) (l : List Pu) : Bs := pieceB (sum0 nm) (intB ahead) ++ logP (sumOn (sum0 nm) (intB ahead)) l
def logE (nm : Bs) (ahead : Int) (l : List Pu) : Nat := logS (sumOn (sum0 nm) (intB ahead)) l
theorem logB_snoc (nm : Bs) (ahead : Int) (l : List Pu) (p : Pu) : logB nm ahead (l ++ [p]) = logB nm ahead l ++ pieceB (logE nm ahead l) (putB p.1 p.2.1 p.2.2) ∧ logE nm ahead (l ++ [p]) = sumOn (logE nm ahead l) (putB p.1 p.2.1 p.2.2) := by
  obtain ⟨h1, h2⟩ := logP_snoc l (sumOn (sum0 nm) (intB ahead)) p
  unfold logB logE
  rw [h1, h2, List.append_assoc]
  exact ⟨rfl, rfl⟩
theorem readN_log (nm : Bs) (ahead : Int) (l : List Pu) (t : Bs) (ha : In64 ahead) (hp : ∀ p ∈ l, PuOk p) (ht : t.length < 21) : readN (sum0 nm) ahead (logB nm ahead l ++ t) = (l, 0) := by
  have e : logB nm ahead l ++ t = intB ahead ++ sumB (sumOn (sum0 nm) (intB ahead)) ++ (logP (sumOn (sum0 nm) (intB ahead)) l ++ t) := by
    simp only [logB, pieceB, List.append_assoc]
  rw [e, readN_split (intB_length _) (sumB_length _)]
  have hn : intN (intB ahead) = ahead := by have := intN_intB ahead ha []; simpa using this
  rw [if_pos ⟨rfl, hn⟩, readP_log l _ _ t hp (by rw [List.length_append, logP_len]; omega) ht]
  simp
section
variable {P : PD} {n ahead : Int}
theorem log_of {c : Bs} (h : P.bs (nmLog n) = some c) : P.log n ahead = readN (sum0 (nmLog n)) ahead c := by
  have hb := @bs_all P (nmLog n)
  unfold PD.all at hb
  rw [h] at hb
  unfold PD.log readLogN
  have e : allN P.D P.F ⟨(nmLog n).toArray⟩ = (c, 0) := hb
  rw [e]; simp
theorem index_none (hb : P.bs nmIdx = none) : P.index = some ⟨1, []⟩ := by
  unfold PD.index; rw [read_none hb, indexOf_none]
theorem seg_some {l : List Pu} (h : ∀ p ∈ l, PuOk p) (hr : riseB cmpPu l = true) (hb : P.bs (nmSeg n) = some (pieceB (sum0 (nmSeg n)) (putsB l))) : P.seg n = some l := by
  unfold PD.seg; rw [read_some hb, segOf_puts h hr]
theorem log_some {l : List Pu} {t : Bs} (ha : In64 ahead) (h : ∀ p ∈ l, PuOk p) (ht : t.length < 21) (hb : P.bs (nmLog n) = some (logB (nmLog n) ahead l ++ t)) : P.log n ahead = (l, 0) := by
  rw [log_of hb, readN_log _ _ _ _ ha h ht]
end
end Go.Proofs.YtodcnkbblippnaaGreatDoor
