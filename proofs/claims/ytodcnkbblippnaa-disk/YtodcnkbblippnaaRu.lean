/- A disk, its files' numbers left open ('RepU'): what each call of package disk makes of it. So a copy of a disk is the same disk. No walk of its own. -/
import Derived.Test.YtodcnkbblippnaaDi
import Derived.Test.YtodcnkbblippnaaDj
import Derived.Test.YtodcnkbblippnaaDk
import Derived.Test.YtodcnkbblippnaaDo
import Derived.Test.YtodcnkbblippnaaDq
namespace Go.Proofs.Ytodcnkbblippnaa
open Go.RowKit

theorem ren_length (r : Nat → Nat) (es : List Ent) : (ren r es).length = es.length := by simp [ren]
theorem ren_nil (r : Nat → Nat) : ren r [] = [] := rfl
theorem ren_append (r : Nat → Nat) (a b : List Ent) : ren r (a ++ b) = ren r a ++ ren r b := by simp [ren]
theorem ren_take (r : Nat → Nat) (es : List Ent) (k : Nat) : (ren r es).take k = ren r (es.take k) := by simp [ren, List.map_take]
theorem ren_drop (r : Nat → Nat) (es : List Ent) (k : Nat) : (ren r es).drop k = ren r (es.drop k) := by simp [ren, List.map_drop]
theorem ren_fidx (r : Nat → Nat) (es : List Ent) (name : ByteArray) : fidx (ren r es) name = fidx es name := by
  induction es with
  | nil => rfl
  | cons e t ih => simp only [ren, List.map_cons, fidx] at ih ⊢; rw [ih]
theorem ren_lookup (r : Nat → Nat) (es : List Ent) (name : ByteArray) : lookup (ren r es) name = (lookup es name).map r := by
  induction es with
  | nil => rfl
  | cons e t ih =>
    simp only [ren, List.map_cons, lookup] at ih ⊢
    by_cases h : e.1 = name
    · simp [h]
    · simp [h, ih]
theorem ren_getElem? (r : Nat → Nat) (es : List Ent) (k : Nat) : (ren r es)[k]? = (es[k]?).map fun e => (e.1, r e.2) := by simp [ren]
theorem ren_renL (r : Nat → Nat) (es : List Ent) (i : Nat) (name : ByteArray) (k : Nat) : renL (ren r es) i name k = ren r (renL es i name k) := by
  induction k with
  | zero => rfl
  | succ k ih =>
    simp only [renL, ih, ren_getElem?, ren_append]
    cases es[k]? with
    | none => simp [ren_nil]
    | some e =>
      simp only [Option.map_some]
      by_cases h : k ≠ i ∧ e.1 ≠ name
      · rw [if_pos h, if_pos h]; rfl
      · rw [if_neg h, if_neg h, ren_nil]
theorem ren_dListK (r : Nat → Nat) (es : List Ent) (k : Nat) : dListK (ren r es) k = dListK es k := by
  induction k with
  | zero => rfl
  | succ k ih =>
    simp only [dListK, ih, ren_getElem?]
    cases es[k]? <;> rfl
theorem ren_dList (r : Nat → Nat) (es : List Ent) : dList (ren r es) = dList es := by unfold dList; rw [ren_length, ren_dListK]
theorem usedL_ren (r : Nat → Nat) (G F : Nat → FC) (es : List Ent) (h : ∀ f, inEnts f es → G (r f) = F f) : usedL G (ren r es) = usedL F es := by
  induction es with
  | nil => rfl
  | cons e t ih =>
    have h1 := h e.2 ⟨e, by simp, rfl⟩
    have h2 := ih fun f hf => h f (by obtain ⟨x, hx, he⟩ := hf; exact ⟨x, List.mem_cons_of_mem _ hx, he⟩)
    simp only [ren, List.map_cons, usedL] at h2 ⊢
    rw [h1, h2]
theorem lookup_in {es : List Ent} {name : ByteArray} {f : Nat} (h : lookup es name = some f) : inEnts f es := by
  induction es with
  | nil => cases h
  | cons e t ih =>
    simp only [lookup] at h
    by_cases he : e.1 = name
    · simp [he] at h; exact ⟨e, by simp, h⟩
    · simp [he] at h
      obtain ⟨x, hx, hh⟩ := ih h
      exact ⟨x, List.mem_cons_of_mem _ hx, hh⟩
theorem ren_congr {r r' : Nat → Nat} {es : List Ent} (h : ∀ f, inEnts f es → r' f = r f) : ren r' es = ren r es := by
  unfold ren
  exact List.map_congr_left fun e he => by rw [h e.2 ⟨e, he, rfl⟩]
theorem DS.ren_congr {r r' : Nat → Nat} {D : DS} (h : ∀ f, D.ids f → r' f = r f) : D.ren r' = D.ren r := by
  unfold DS.ren
  rw [Go.Proofs.Ytodcnkbblippnaa.ren_congr fun f hf => h f (.inl hf), Go.Proofs.Ytodcnkbblippnaa.ren_congr (es := D.safe) fun f hf => h f (.inr (.inl hf))]
  congr 1
  exact List.map_congr_left fun c hc => Go.Proofs.Ytodcnkbblippnaa.ren_congr fun f hf => h f (.inr (.inr ⟨c, hc, hf⟩))

/-- The disk, its files' numbers left open. -/
def RepU (w : World) (b : Nat) (D : DS) (F : Nat → FC) (Ft : Nat → Prop) : Prop :=
  ∃ r G, Rep w b (D.ren r) G Ft ∧ (∀ f, D.ids f → G (r f) = F f) ∧ ∀ f f', D.ids f → D.ids f' → r f = r f' → f = f'
def AfterU (w : World) (Ft : Nat → Prop) (w' : World) (b : Nat) (D' : DS) (F' : Nat → FC) : Prop :=
  Chg Ft w w' ∧ ∃ Ft', RepU w' b D' F' Ft' ∧ (∀ k, Ft' k → k < w'.heap.size) ∧ ∀ k, Ft' k → Ft k ∨ w.heap.size ≤ k
theorem RepU.frame {w w' : World} {b : Nat} {D : DS} {F : Nat → FC} {Ft : Nat → Prop} (h : RepU w b D F Ft) (hs : Same Ft w w') : RepU w' b D F Ft := by
  obtain ⟨r, G, h1, h2, h3⟩ := h
  exact ⟨r, G, h1.frame hs, h2, h3⟩
theorem RepU.mono {w : World} {b : Nat} {D : DS} {F : Nat → FC} {Ft Ft' : Nat → Prop} (h : RepU w b D F Ft) (hs : ∀ k, Ft k → Ft' k) : RepU w b D F Ft' := by
  obtain ⟨r, G, h1, h2, h3⟩ := h
  exact ⟨r, G, h1.mono hs, h2, h3⟩
theorem Rep.tight {w : World} {b : Nat} {D : DS} {F : Nat → FC} {Ft : Nat → Prop} (h : Rep w b D F Ft) : Rep w b D F (fun k => Ft k ∧ k < w.heap.size) := by
  obtain ⟨vd, vs, vc, vals, VB, hr, hf⟩ := h
  exact ⟨vd, vs, vc, vals, VB, hr, fun k hk => ⟨hf k hk, hr.lt hk⟩⟩
/-- The footprint lies in memory. -/
theorem RepU.tight {w : World} {b : Nat} {D : DS} {F : Nat → FC} {Ft : Nat → Prop} (h : RepU w b D F Ft) : RepU w b D F (fun k => Ft k ∧ k < w.heap.size) := by
  obtain ⟨r, G, h1, h2, h3⟩ := h
  exact ⟨r, G, h1.tight, h2, h3⟩
theorem RepU.blk {w : World} {b : Nat} {D : DS} {F : Nat → FC} {Ft : Nat → Prop} (h : RepU w b D F Ft) : ∃ vd vs vc, DBlk w b vd vs vc D.n := by
  obtain ⟨r, G, ⟨vd, vs, vc, vals, VB, hr, _⟩, _⟩ := h
  exact ⟨vd, vs, vc, hr.blk⟩
theorem RepU.lt {w : World} {b : Nat} {D : DS} {F : Nat → FC} {Ft : Nat → Prop} (h : RepU w b D F Ft) : b < w.heap.size := by
  obtain ⟨vd, vs, vc, h⟩ := h.blk; exact h.lt
theorem RepU.foot {w : World} {b : Nat} {D : DS} {F : Nat → FC} {Ft : Nat → Prop} (h : RepU w b D F Ft) : Ft b := by
  obtain ⟨r, G, ⟨vd, vs, vc, vals, VB, hr, hf⟩, _⟩ := h
  exact hf b .blk
theorem RepU.F_congr {w : World} {b : Nat} {D : DS} {F F' : Nat → FC} {Ft : Nat → Prop} (h : RepU w b D F Ft) (hF : ∀ f, D.ids f → F' f = F f) : RepU w b D F' Ft := by
  obtain ⟨r, G, h1, h2, h3⟩ := h
  exact ⟨r, G, h1, fun f hf => (h2 f hf).trans (hF f hf).symm, h3⟩
theorem RepU.of {w : World} {b : Nat} {D : DS} {F : Nat → FC} {Ft : Nat → Prop} (h : Rep w b D F Ft) : RepU w b D F Ft := by
  refine ⟨id, F, ?_, fun _ _ => rfl, fun _ _ _ _ h => h⟩
  have : D.ren id = D := by
    have e : ∀ es, Go.Proofs.Ytodcnkbblippnaa.ren id es = es := fun es => by simp [Go.Proofs.Ytodcnkbblippnaa.ren]
    have e2 : (Go.Proofs.Ytodcnkbblippnaa.ren id) = id := funext e
    unfold DS.ren; rw [e2]; simp
  rw [this]; exact h
theorem After.toU {w w' : World} {Ft : Nat → Prop} {b : Nat} {D1 D' : DS} {G1 F' : Nat → FC} {r : Nat → Nat} (h : After w Ft w' b D1 G1) (hD : D1 = D'.ren r) (hG : ∀ f, D'.ids f → G1 (r f) = F' f) (hi : ∀ f f', D'.ids f → D'.ids f' → r f = r f' → f = f') : AfterU w Ft w' b D' F' := by
  obtain ⟨h1, Ft', h2, h3, h4⟩ := h
  subst hD
  exact ⟨h1, Ft', ⟨r, G1, h2, hG, hi⟩, h3, h4⟩
theorem AfterU.refl {w w' : World} {b : Nat} {D : DS} {F : Nat → FC} {Ft : Nat → Prop} (h : RepU w b D F Ft) (hc : Chg (fun _ => False) w w') (hlt : ∀ k, Ft k → k < w.heap.size) : AfterU w Ft w' b D F :=
  ⟨hc.mono fun _ _ h => h.elim, Ft, h.frame fun k hk => hc.block k (hlt k hk) (fun h => h), fun k hk => Nat.lt_of_lt_of_le (hlt k hk) hc.size, fun _ h => .inl h⟩
theorem AfterU.trans {w w1 w2 : World} {Ft : Nat → Prop} {b : Nat} {D1 D2 : DS} {F1 F2 : Nat → FC} (h : AfterU w Ft w1 b D1 F1) (h2 : ∀ Ft1, RepU w1 b D1 F1 Ft1 → AfterU w1 Ft1 w2 b D2 F2) : AfterU w Ft w2 b D2 F2 := by
  obtain ⟨hc, Ft1, hr, hlt, hs⟩ := h
  obtain ⟨hc2, Ft2, hr2, hlt2, hs2⟩ := h2 Ft1 hr
  refine ⟨hc.trans hc2 fun x hx hlt => (hs x hx).resolve_right (by omega), Ft2, hr2, hlt2, fun k hk => ?_⟩
  rcases hs2 k hk with h | h
  · exact hs k h
  · exact .inr (Nat.le_trans hc.size h)
theorem dirs_ren_lengths (D : DS) (r : Nat → Nat) : (D.ren r).dir.length = D.dir.length ∧ (D.ren r).safe.length = D.safe.length ∧ (D.ren r).changes.length = D.changes.length ∧ sumLen (D.ren r).changes = sumLen D.changes := by
  refine ⟨ren_length _ _, ren_length _ _, by simp [DS.ren], ?_⟩
  unfold sumLen DS.ren
  rw [List.map_map]
  congr 1
  exact List.map_congr_left fun c _ => ren_length r c

section
variable {w : World} {b : Nat} {D : DS} {F : Nat → FC} {Ft : Nat → Prop}
theorem newU (room : Int) (w : World) :
    Calls Try.prog 15 #[.int .i64 room] w fun e w' => e = .returned (.pointer (some ⟨w.heap.size, 0, none⟩)) ∧ RepU w' w.heap.size ⟨[], [], [], dNew room⟩ F (One w.heap.size) ∧ Chg (fun _ => False) w w' ∧ w'.heap.size = w.heap.size + 1 := by
  refine (new_any room w).mono ?_
  rintro e w' ⟨h1, h2, h3, h4⟩
  refine ⟨h1, RepU.of ⟨_, _, _, [], fun _ => .slice none 0 0, ⟨h2, World.ownsRow_nil _ _ _ _, World.ownsRow_nil _ _ _ _, World.ownsRow_nil _ _ _ _, by intro i hi; simp at hi, ?_, ?_⟩, ?_⟩, h4, h3⟩
  · rintro f (⟨e, he, _⟩ | ⟨e, he, _⟩ | ⟨c, hc, _⟩)
    · cases he
    · cases he
    · cases hc
  · intro f f' g _ _ hg; simp [Value.ownBlock] at hg
  · intro k hk
    cases hk using Foot.elim with
    | blk => rfl
    | dir e => simp [Value.ownBlock] at e
    | safe e => simp [Value.ownBlock] at e
    | chg e => simp [Value.ownBlock] at e
    | che hm e => cases hm
    | fil hf => rcases hf with ⟨e, he, _⟩ | ⟨e, he, _⟩ | ⟨c, hc, _⟩ <;> contradiction
    | byt hf e => simp [Value.ownBlock] at e
theorem syncDirU (h : RepU w b D F Ft) :
    Calls Try.prog 16 #[.pointer (some ⟨b, 0, none⟩)] w fun e w' => e = .returned (.int .i64 (dSyncDir D).1) ∧ AfterU w Ft w' b (dSyncDir D).2 F := by
  obtain ⟨r, G, h1, h2, h3⟩ := h
  refine (syncDir_any w b _ G Ft h1).mono ?_
  rintro e w' ⟨q1, q2⟩
  have hD : (dSyncDir (D.ren r)).2 = (dSyncDir D).2.ren r := by
    unfold dSyncDir
    by_cases hb : (bg D.n).2.1 = 0
    · have hb' : (bg (D.ren r).n).2.1 = 0 := hb
      rw [if_pos hb, if_pos hb']; rfl
    · have hb' : ¬ (bg (D.ren r).n).2.1 = 0 := hb
      rw [if_neg hb, if_neg hb']; rfl
  have hids : ∀ f, (dSyncDir D).2.ids f → D.ids f := by
    intro f hf
    unfold dSyncDir at hf
    simp only at hf
    split at hf
    · rcases hf with hf | hf | ⟨c, hc, _⟩
      · exact .inl hf
      · exact .inl hf
      · cases hc
    · exact hf
  exact ⟨q1, q2.toU hD (fun f hf => h2 f (hids f hf)) fun f f' hf hf' => h3 f f' (hids f hf) (hids f' hf')⟩
theorem lookup_ids {name : ByteArray} {f : Nat} (h : lookup D.dir name = some f) : D.ids f := .inl (lookup_in h)
theorem syncU (h : RepU w b D F Ft) (name : ByteArray) :
    Calls Try.prog 17 #[.pointer (some ⟨b, 0, none⟩), .string name] w fun e w' => e = .returned (.int .i64 (dSync D F name).1) ∧ AfterU w Ft w' b (dSync D F name).2.1 (dSync D F name).2.2 := by
  obtain ⟨r, G, h1, h2, h3⟩ := h
  refine (sync_any w b _ G Ft h1 name).mono ?_
  rintro e w' ⟨q1, q2⟩
  have hl : lookup (D.ren r).dir name = (lookup D.dir name).map r := ren_lookup r D.dir name
  cases hx : lookup D.dir name with
  | none =>
    rw [hx] at hl
    have e1 : dSync (D.ren r) G name = (8, D.ren r, G) := by unfold dSync; rw [hl]; rfl
    have e2 : dSync D F name = (8, D, F) := by unfold dSync; rw [hx]
    rw [e1] at q1 q2; rw [e2]
    exact ⟨q1, q2.toU rfl h2 h3⟩
  | some f =>
    rw [hx] at hl
    have e1 : dSync (D.ren r) G name = ((bg D.n).2.1, { D with n := (bg D.n).2.2 }.ren r, if (bg D.n).2.1 = 0 then upd G (r f) ((G (r f)).1, (G (r f)).1.length) else G) := by unfold dSync; rw [hl]; rfl
    have e2 : dSync D F name = ((bg D.n).2.1, { D with n := (bg D.n).2.2 }, if (bg D.n).2.1 = 0 then upd F f ((F f).1, (F f).1.length) else F) := by unfold dSync; rw [hx]
    rw [e1] at q1 q2; rw [e2]
    refine ⟨q1, q2.toU rfl (fun f' hf' => ?_) h3⟩
    have hf := lookup_ids hx
    show (if (bg D.n).2.1 = 0 then upd G (r f) ((G (r f)).1, (G (r f)).1.length) else G) (r f') = (if (bg D.n).2.1 = 0 then upd F f ((F f).1, (F f).1.length) else F) f'
    by_cases hb : (bg D.n).2.1 = 0
    · rw [if_pos hb, if_pos hb]
      unfold upd
      by_cases hff : f' = f
      · subst hff; simp [h2 f' hf]
      · have : r f' ≠ r f := fun e => hff (h3 f' f hf' hf e)
        simp only [this, hff, if_false]; exact h2 f' hf'
    · rw [if_neg hb, if_neg hb]; exact h2 f' hf'
theorem updU {r : Nat → Nat} {G : Nat → FC} (h2 : ∀ f, D.ids f → G (r f) = F f) (h3 : ∀ f f', D.ids f → D.ids f' → r f = r f' → f = f') {f : Nat} (hf : D.ids f) (c : FC) : ∀ f', D.ids f' → upd G (r f) c (r f') = upd F f c f' := fun f' hf' => by
  unfold upd
  by_cases hff : f' = f
  · subst hff; simp
  · have : r f' ≠ r f := fun e => hff (h3 f' f hf' hf e)
    simp only [this, hff, if_false]; exact h2 f' hf'
theorem dAdd_ren {r : Nat → Nat} {G : Nat → FC} (h2 : ∀ f, D.ids f → G (r f) = F f) (h3 : ∀ f f', D.ids f → D.ids f' → r f = r f' → f = f') {f : Nat} (hf : D.ids f) (data : ByteArray) (n0 e : Int) :
    (dAdd (D.ren r) G (r f) data n0 e).1 = (dAdd D F f data n0 e).1 ∧ (dAdd (D.ren r) G (r f) data n0 e).2.1 = (dAdd D F f data n0 e).2.1.ren r ∧ (∀ f', D.ids f' → (dAdd (D.ren r) G (r f) data n0 e).2.2 (r f') = (dAdd D F f data n0 e).2.2 f') ∧ (∀ f', (dAdd D F f data n0 e).2.1.ids f' ↔ D.ids f') := by
  have hleft : dLeft (D.ren r) G = dLeft D F := by
    unfold dLeft
    have : usedL G (D.ren r).dir = usedL F D.dir := usedL_ren r G F D.dir fun f hf => h2 f (.inl hf)
    rw [this]; rfl
  unfold dAdd
  rw [hleft]
  by_cases hc : n0 > dLeft D F
  · simp only [hc, if_true]
    rw [h2 f hf]
    refine ⟨by first | trivial | rfl, ?_, fun f' hf' => updU h2 h3 hf _ f' hf', fun f' => ?_⟩
    · by_cases he : e = 0
      · rw [if_pos he, if_pos he]; rfl
      · rw [if_neg he, if_neg he]
    · by_cases he : e = 0
      · rw [if_pos he]; exact Iff.rfl
      · rw [if_neg he]
  · simp only [hc, if_false]
    rw [h2 f hf]
    exact ⟨by first | trivial | rfl, by first | trivial | rfl, fun f' hf' => updU h2 h3 hf _ f' hf', fun _ => by first | trivial | exact Iff.rfl⟩
theorem appendU (h : RepU w b D F Ft) (name data : ByteArray) (hroom : -4611686018427387904 ≤ D.n.room ∧ D.n.room ≤ 9223372036854775807)
    (hu : usedL F D.dir ≤ 4611686018427387904) (hp : 0 ≤ D.n.part ∧ D.n.part ≤ 9223372036854775807) (hl : ∀ f, lookup D.dir name = some f → (F f).1.length + data.size ≤ 70368744177664) :
    Calls Try.prog 12 #[.pointer (some ⟨b, 0, none⟩), .string name, .string data] w fun e w' => e = .returned (.int .i64 (dAppend D F name data).1) ∧ AfterU w Ft w' b (dAppend D F name data).2.1 (dAppend D F name data).2.2 := by
  obtain ⟨r, G, h1, h2, h3⟩ := h
  have hlk : lookup (D.ren r).dir name = (lookup D.dir name).map r := ren_lookup r D.dir name
  refine (append_any w b _ G Ft h1 name data hroom (by
    have : usedL G (D.ren r).dir = usedL F D.dir := usedL_ren r G F D.dir fun f hf => h2 f (.inl hf)
    rw [this]; exact hu) hp (fun f hf => by
      rw [hlk] at hf
      cases hx : lookup D.dir name with
      | none => rw [hx] at hf; cases hf
      | some f0 =>
        rw [hx] at hf; simp at hf; subst hf
        rw [h2 f0 (lookup_ids hx)]; exact hl f0 hx)).mono ?_
  rintro e w' ⟨q1, q2⟩
  cases hx : lookup D.dir name with
  | none =>
    rw [hx] at hlk
    have e1 : dAppend (D.ren r) G name data = (8, D.ren r, G) := by unfold dAppend; rw [hlk]; rfl
    have e2 : dAppend D F name data = (8, D, F) := by unfold dAppend; rw [hx]
    rw [e1] at q1 q2; rw [e2]
    exact ⟨q1, q2.toU rfl h2 h3⟩
  | some f =>
    rw [hx] at hlk
    have hf := lookup_ids hx
    have hfn : ({ D with n := (bg D.n).2.2 } : DS).ids f := hf
    by_cases c1 : (bg D.n).1 = true
    · have e1 : dAppend (D.ren r) G name data = dAdd ({ D with n := (bg D.n).2.2 }.ren r) G (r f) data data.size (bg D.n).2.1 := by
        unfold dAppend; rw [hlk]; show (if (bg D.n).1 = true then _ else _) = _; rw [if_pos c1]; rfl
      have e2 : dAppend D F name data = dAdd { D with n := (bg D.n).2.2 } F f data data.size (bg D.n).2.1 := by
        unfold dAppend; rw [hx]; show (if (bg D.n).1 = true then _ else _) = _; rw [if_pos c1]
      rw [e1] at q1 q2; rw [e2]
      obtain ⟨k1, k2, k3, k4⟩ := dAdd_ren (D := { D with n := (bg D.n).2.2 }) (r := r) (G := G) (F := F) h2 h3 hfn data data.size (bg D.n).2.1
      rw [k1] at q1
      exact ⟨q1, q2.toU k2 (fun f' hf' => k3 f' ((k4 f').1 hf')) fun f' f'' hf' hf'' => h3 f' f'' ((k4 f').1 hf') ((k4 f'').1 hf'')⟩
    · by_cases c2 : (bg D.n).2.2.dead = false ∧ 0 < data.size
      · have e1 : dAppend (D.ren r) G name data = dAdd ({ D with n := (bg D.n).2.2 }.ren r) G (r f) data ((bg D.n).2.2.part % data.size) (bg D.n).2.1 := by
          unfold dAppend; rw [hlk]; show (if (bg D.n).1 = true then _ else if (bg D.n).2.2.dead = false ∧ 0 < data.size then _ else _) = _; rw [if_neg c1, if_pos c2]; rfl
        have e2 : dAppend D F name data = dAdd { D with n := (bg D.n).2.2 } F f data ((bg D.n).2.2.part % data.size) (bg D.n).2.1 := by
          unfold dAppend; rw [hx]; show (if (bg D.n).1 = true then _ else if (bg D.n).2.2.dead = false ∧ 0 < data.size then _ else _) = _; rw [if_neg c1, if_pos c2]
        rw [e1] at q1 q2; rw [e2]
        obtain ⟨k1, k2, k3, k4⟩ := dAdd_ren (D := { D with n := (bg D.n).2.2 }) (r := r) (G := G) (F := F) h2 h3 hfn data ((bg D.n).2.2.part % data.size) (bg D.n).2.1
        rw [k1] at q1
        exact ⟨q1, q2.toU k2 (fun f' hf' => k3 f' ((k4 f').1 hf')) fun f' f'' hf' hf'' => h3 f' f'' ((k4 f').1 hf') ((k4 f'').1 hf'')⟩
      · have e1 : dAppend (D.ren r) G name data = ((bg D.n).2.1, { D with n := (bg D.n).2.2 }.ren r, G) := by
          unfold dAppend; rw [hlk]; show (if (bg D.n).1 = true then _ else if (bg D.n).2.2.dead = false ∧ 0 < data.size then _ else _) = _; rw [if_neg c1, if_neg c2]; rfl
        have e2 : dAppend D F name data = ((bg D.n).2.1, { D with n := (bg D.n).2.2 }, F) := by
          unfold dAppend; rw [hx]; show (if (bg D.n).1 = true then _ else if (bg D.n).2.2.dead = false ∧ 0 < data.size then _ else _) = _; rw [if_neg c1, if_neg c2]
        rw [e1] at q1 q2; rw [e2]
        exact ⟨q1, q2.toU rfl h2 h3⟩
/-- Where the directory is turned to entries of files that are there. -/
theorem ids_turn {es : List Ent} {n : DN} (hes : ∀ f, inEnts f es → D.ids f) (f : Nat) (hf : ({ D with dir := es, changes := D.changes ++ [es], n := n } : DS).ids f) : D.ids f := by
  rcases hf with hf | hf | ⟨c, hc, hf⟩
  · exact hes f hf
  · exact .inr (.inl hf)
  · rcases List.mem_append.1 hc with hc | hc
    · exact .inr (.inr ⟨c, hc, hf⟩)
    · simp at hc; subst hc; exact hes f hf
theorem turn_ren (r : Nat → Nat) (es : List Ent) (n : DN) : ({ D.ren r with dir := ren r es, changes := (D.ren r).changes ++ [ren r es], n := n } : DS) = ({ D with dir := es, changes := D.changes ++ [es], n := n } : DS).ren r := by
  simp [DS.ren]
theorem removeU (h : RepU w b D F Ft) (name : ByteArray) (hs : D.dir.length < 1099511627776 ∧ D.changes.length < 1099511627776) :
    Calls Try.prog 10 #[.pointer (some ⟨b, 0, none⟩), .string name] w fun e w' => e = .returned (.int .i64 (dRemove D name).1) ∧ AfterU w Ft w' b (dRemove D name).2 F := by
  obtain ⟨r, G, h1, h2, h3⟩ := h
  obtain ⟨l1, l2, l3, l4⟩ := dirs_ren_lengths D r
  refine (remove_any w b _ G Ft h1 name (by rw [l1, l3]; exact hs)).mono ?_
  rintro e w' ⟨q1, q2⟩
  have hfi : fidx (D.ren r).dir name = fidx D.dir name := ren_fidx r D.dir name
  by_cases c1 : fidx D.dir name < 0
  · have e1 : dRemove (D.ren r) name = (8, D.ren r) := by unfold dRemove; rw [hfi, if_pos c1]
    have e2 : dRemove D name = (8, D) := by unfold dRemove; rw [if_pos c1]
    rw [e1] at q1 q2; rw [e2]
    exact ⟨q1, q2.toU rfl h2 h3⟩
  · by_cases c2 : (bg D.n).1 = true
    · have e2 : dRemove D name = ((bg D.n).2.1, { D with dir := D.dir.take (fidx D.dir name).toNat ++ D.dir.drop ((fidx D.dir name).toNat + 1), changes := D.changes ++ [D.dir.take (fidx D.dir name).toNat ++ D.dir.drop ((fidx D.dir name).toNat + 1)], n := (bg D.n).2.2 }) := by
        unfold dRemove; rw [if_neg c1]; simp only [c2, if_true]
      have e1 : dRemove (D.ren r) name = ((bg D.n).2.1, { D with dir := D.dir.take (fidx D.dir name).toNat ++ D.dir.drop ((fidx D.dir name).toNat + 1), changes := D.changes ++ [D.dir.take (fidx D.dir name).toNat ++ D.dir.drop ((fidx D.dir name).toNat + 1)], n := (bg D.n).2.2 }.ren r) := by
        have c2' : (bg (D.ren r).n).1 = true := c2
        unfold dRemove; rw [hfi, if_neg c1]; simp only [c2', if_true]
        rw [← turn_ren, ren_append, ← ren_take, ← ren_drop]; rfl
      rw [e1] at q1 q2; rw [e2]
      have hin : ∀ f, inEnts f (D.dir.take (fidx D.dir name).toNat ++ D.dir.drop ((fidx D.dir name).toNat + 1)) → D.ids f := by
        rintro f ⟨x, hx, he⟩
        rcases List.mem_append.1 hx with hx | hx
        · exact .inl ⟨x, List.mem_of_mem_take hx, he⟩
        · exact .inl ⟨x, List.mem_of_mem_drop hx, he⟩
      exact ⟨q1, q2.toU rfl (fun f hf => h2 f (ids_turn hin f hf)) fun f f' hf hf' => h3 f f' (ids_turn hin f hf) (ids_turn hin f' hf')⟩
    · have e2 : dRemove D name = ((bg D.n).2.1, { D with n := (bg D.n).2.2 }) := by unfold dRemove; rw [if_neg c1]; simp only [c2]; rfl
      have e1 : dRemove (D.ren r) name = ((bg D.n).2.1, { D with n := (bg D.n).2.2 }.ren r) := by
        have c2' : ¬ (bg (D.ren r).n).1 = true := c2
        unfold dRemove; rw [hfi, if_neg c1]; simp only [c2']; rfl
      rw [e1] at q1 q2; rw [e2]
      exact ⟨q1, q2.toU rfl h2 h3⟩
theorem renameU (h : RepU w b D F Ft) (old name : ByteArray) (hs : D.dir.length < 1099511627776 ∧ D.changes.length < 1099511627776) :
    Calls Try.prog 8 #[.pointer (some ⟨b, 0, none⟩), .string old, .string name] w fun e w' => e = .returned (.int .i64 (dRename D old name).1) ∧ AfterU w Ft w' b (dRename D old name).2 F := by
  obtain ⟨r, G, h1, h2, h3⟩ := h
  obtain ⟨l1, l2, l3, l4⟩ := dirs_ren_lengths D r
  refine (rename_any w b _ G Ft h1 old name (by rw [l1, l3]; exact hs)).mono ?_
  rintro e w' ⟨q1, q2⟩
  have hlk : lookup (D.ren r).dir old = (lookup D.dir old).map r := ren_lookup r D.dir old
  cases hx : lookup D.dir old with
  | none =>
    rw [hx] at hlk
    have e1 : dRename (D.ren r) old name = (8, D.ren r) := by unfold dRename; rw [hlk]; rfl
    have e2 : dRename D old name = (8, D) := by unfold dRename; rw [hx]
    rw [e1] at q1 q2; rw [e2]
    exact ⟨q1, q2.toU rfl h2 h3⟩
  | some f =>
    rw [hx] at hlk
    by_cases c1 : name = ByteArray.empty
    · have e1 : dRename (D.ren r) old name = (8, D.ren r) := by unfold dRename; rw [hlk]; simp only [Option.map_some]; rw [if_pos c1]
      have e2 : dRename D old name = (8, D) := by unfold dRename; rw [hx]; simp only; rw [if_pos c1]
      rw [e1] at q1 q2; rw [e2]
      exact ⟨q1, q2.toU rfl h2 h3⟩
    · by_cases c2 : (bg D.n).1 = true
      · have e2 : dRename D old name = ((bg D.n).2.1, { D with dir := renL D.dir (fidx D.dir old).toNat name D.dir.length ++ [(name, f)], changes := D.changes ++ [renL D.dir (fidx D.dir old).toNat name D.dir.length ++ [(name, f)]], n := (bg D.n).2.2 }) := by
          unfold dRename; rw [hx]; simp only; rw [if_neg c1]; simp only [c2, if_true]
        have e1 : dRename (D.ren r) old name = ((bg D.n).2.1, { D with dir := renL D.dir (fidx D.dir old).toNat name D.dir.length ++ [(name, f)], changes := D.changes ++ [renL D.dir (fidx D.dir old).toNat name D.dir.length ++ [(name, f)]], n := (bg D.n).2.2 }.ren r) := by
          have c2' : (bg (D.ren r).n).1 = true := c2
          have hfi : fidx (D.ren r).dir old = fidx D.dir old := ren_fidx r D.dir old
          unfold dRename; rw [hlk]; simp only [Option.map_some]; rw [if_neg c1]; simp only [c2', if_true]
          rw [← turn_ren, ren_append, ← ren_renL, hfi, l1]; rfl
        rw [e1] at q1 q2; rw [e2]
        have hin : ∀ f', inEnts f' (renL D.dir (fidx D.dir old).toNat name D.dir.length ++ [(name, f)]) → D.ids f' := by
          rintro f' ⟨x, hx', he⟩
          rcases List.mem_append.1 hx' with hx' | hx'
          · exact .inl ⟨x, renL_mem _ _ _ _ x hx', he⟩
          · simp at hx'; subst hx'; cases he; exact lookup_ids hx
        exact ⟨q1, q2.toU rfl (fun f hf => h2 f (ids_turn hin f hf)) fun f f' hf hf' => h3 f f' (ids_turn hin f hf) (ids_turn hin f' hf')⟩
      · have e2 : dRename D old name = ((bg D.n).2.1, { D with n := (bg D.n).2.2 }) := by unfold dRename; rw [hx]; simp only; rw [if_neg c1]; simp only [c2]; rfl
        have e1 : dRename (D.ren r) old name = ((bg D.n).2.1, { D with n := (bg D.n).2.2 }.ren r) := by
          have c2' : ¬ (bg (D.ren r).n).1 = true := c2
          unfold dRename; rw [hlk]; simp only [Option.map_some]; rw [if_neg c1]; simp only [c2']; rfl
        rw [e1] at q1 q2; rw [e2]
        exact ⟨q1, q2.toU rfl h2 h3⟩
/-- k: a number that no file of the disk bears. -/
theorem createU (h : RepU w b D F Ft) (name : ByteArray) (k : Nat) (hk : ¬ D.ids k) (hs : D.dir.length < 1099511627776 ∧ D.changes.length < 1099511627776) :
    Calls Try.prog 9 #[.pointer (some ⟨b, 0, none⟩), .string name] w fun e w' => e = .returned (.int .i64 (dCreate D name k).1) ∧ AfterU w Ft w' b (dCreate D name k).2 (upd F k ([], 0)) := by
  obtain ⟨r, G, h1, h2, h3⟩ := h
  obtain ⟨l1, l2, l3, l4⟩ := dirs_ren_lengths D r
  have hlt : ∀ f, D.ids f → r f < w.heap.size := by
    obtain ⟨vd, vs, vc, vals, VB, hr, _⟩ := h1
    intro f hf
    refine hr.lt (.fil ?_)
    rcases hf with ⟨x, hx, rfl⟩ | ⟨x, hx, rfl⟩ | ⟨c, hc, x, hx, rfl⟩
    · exact .inl ⟨_, List.mem_map_of_mem hx, rfl⟩
    · exact .inr (.inl ⟨_, List.mem_map_of_mem hx, rfl⟩)
    · exact .inr (.inr ⟨_, List.mem_map_of_mem hc, _, List.mem_map_of_mem hx, rfl⟩)
  refine (create_any w b _ G Ft h1 name (by rw [l1, l3]; exact hs)).mono ?_
  rintro e w' ⟨f0, q0, q1, q2⟩
  have hfi : fidx (D.ren r).dir name = fidx D.dir name := ren_fidx r D.dir name
  have hG : ∀ f, D.ids f → upd G f0 ([], 0) (r f) = upd F k ([], 0) f := fun f hf => by
    unfold upd
    have n1 : r f ≠ f0 := by have := hlt f hf; omega
    have n2 : f ≠ k := fun e => hk (e ▸ hf)
    simp only [n1, n2, if_false]; exact h2 f hf
  by_cases c1 : name = ByteArray.empty ∨ fidx D.dir name ≥ 0
  · have e1 : dCreate (D.ren r) name f0 = (8, D.ren r) := by unfold dCreate; rw [hfi, if_pos c1]
    have e2 : dCreate D name k = (8, D) := by unfold dCreate; rw [if_pos c1]
    rw [e1] at q1 q2; rw [e2]
    exact ⟨q1, q2.toU rfl hG h3⟩
  · by_cases c2 : (bg D.n).1 = true
    · have e2 : dCreate D name k = ((bg D.n).2.1, { D with dir := D.dir ++ [(name, k)], changes := D.changes ++ [D.dir ++ [(name, k)]], n := (bg D.n).2.2 }) := by
        unfold dCreate; rw [if_neg c1]; simp only [c2, if_true]
      have hr' : ∀ f, D.ids f → (fun f => if f = k then f0 else r f) f = r f := fun f hf => by
        have n2 : f ≠ k := fun e => hk (e ▸ hf)
        simp only [n2, if_false]
      have hDr : D.ren (fun f => if f = k then f0 else r f) = D.ren r := DS.ren_congr hr'
      have e1 : dCreate (D.ren r) name f0 = ((bg D.n).2.1, { D with dir := D.dir ++ [(name, k)], changes := D.changes ++ [D.dir ++ [(name, k)]], n := (bg D.n).2.2 }.ren (fun f => if f = k then f0 else r f)) := by
        have c2' : (bg (D.ren r).n).1 = true := c2
        unfold dCreate; rw [hfi, if_neg c1]; simp only [c2', if_true]
        rw [← turn_ren, hDr, ren_append]
        have e3 : ren (fun f => if f = k then f0 else r f) D.dir = (D.ren r).dir := by
          have := congrArg DS.dir hDr; exact this
        rw [e3]
        have e4 : ren (fun f => if f = k then f0 else r f) [(name, k)] = [(name, f0)] := by simp [ren]
        rw [e4]; rfl
      rw [e1] at q1 q2; rw [e2]
      have hids : ∀ f, ({ D with dir := D.dir ++ [(name, k)], changes := D.changes ++ [D.dir ++ [(name, k)]], n := (bg D.n).2.2 } : DS).ids f → D.ids f ∨ f = k := by
        have key : ∀ f, inEnts f (D.dir ++ [(name, k)]) → D.ids f ∨ f = k := by
          rintro f ⟨x, hx, rfl⟩
          rcases List.mem_append.1 hx with hx | hx
          · exact .inl (.inl ⟨x, hx, rfl⟩)
          · simp at hx; subst hx; exact .inr rfl
        rintro f (hf | hf | ⟨c, hc, hf⟩)
        · exact key f hf
        · exact .inl (.inr (.inl hf))
        · rcases List.mem_append.1 hc with hc | hc
          · exact .inl (.inr (.inr ⟨c, hc, hf⟩))
          · simp at hc; subst hc; exact key f hf
      refine ⟨q1, q2.toU rfl (fun f hf => ?_) fun f f' hf hf' e => ?_⟩
      · rcases hids f hf with h | h
        · simp only [hr' f h]; exact hG f h
        · subst h; simp [upd]
      · rcases hids f hf with h | h <;> rcases hids f' hf' with h' | h'
        · simp only [hr' f h, hr' f' h'] at e; exact h3 f f' h h' e
        · subst h'; simp only [hr' f h, if_true] at e; have := hlt f h; omega
        · subst h; simp only [hr' f' h', if_true] at e; have := hlt f' h'; omega
        · rw [h, h']
    · have e2 : dCreate D name k = ((bg D.n).2.1, { D with n := (bg D.n).2.2 }) := by unfold dCreate; rw [if_neg c1]; simp only [c2]; rfl
      have e1 : dCreate (D.ren r) name f0 = ((bg D.n).2.1, { D with n := (bg D.n).2.2 }.ren r) := by
        have c2' : ¬ (bg (D.ren r).n).1 = true := c2
        unfold dCreate; rw [hfi, if_neg c1]; simp only [c2']; rfl
      rw [e1] at q1 q2; rw [e2]
      exact ⟨q1, q2.toU rfl hG h3⟩
theorem readU (h : RepU w b D F Ft) (name : ByteArray) (p n : Int) :
    Calls Try.prog 19 #[.pointer (some ⟨b, 0, none⟩), .string name, .int .i64 p, .int .i64 n] w fun e w' => e = .returned (.tuple #[.string ⟨(dRead D F name p n).1.toArray⟩, .int .i64 (dRead D F name p n).2]) ∧ w = w' := by
  obtain ⟨r, G, h1, h2, h3⟩ := h
  have hlk : lookup (D.ren r).dir name = (lookup D.dir name).map r := ren_lookup r D.dir name
  have e1 : dRead (D.ren r) G name p n = dRead D F name p n := by
    unfold dRead
    rw [hlk]
    cases hx : lookup D.dir name with
    | none => rfl
    | some f => simp only [Option.map_some, h2 f (lookup_ids hx)]
  have := read_any w b _ G Ft h1 name p n
  rwa [e1] at this
theorem sizeU (h : RepU w b D F Ft) (name : ByteArray) :
    Calls Try.prog 18 #[.pointer (some ⟨b, 0, none⟩), .string name] w fun e w' => e = .returned (.tuple #[.int .i64 (dSize D F name).1, .int .i64 (dSize D F name).2]) ∧ w = w' := by
  obtain ⟨r, G, h1, h2, h3⟩ := h
  have hlk : lookup (D.ren r).dir name = (lookup D.dir name).map r := ren_lookup r D.dir name
  have e1 : dSize (D.ren r) G name = dSize D F name := by
    unfold dSize
    rw [hlk]
    cases hx : lookup D.dir name with
    | none => rfl
    | some f => simp only [Option.map_some, h2 f (lookup_ids hx)]
  obtain ⟨vd, vs, vc, vals, VB, hr, _⟩ := h1
  have := size_any w b _ G vd vs vc vals VB hr name
  rwa [e1] at this
theorem listU (h : RepU w b D F Ft) (hs : D.dir.length < 1099511627776) :
    Calls Try.prog 7 #[.pointer (some ⟨b, 0, none⟩)] w fun e w' => ∃ v, e = .returned v ∧ w'.ownsRow 0 9 1 v D.dir.length (strVals (dList D.dir)) ∧ Chg (fun _ => False) w w' ∧ (∀ g, v.ownBlock = some g → w.heap.size ≤ g) := by
  obtain ⟨r, G, h1, h2, h3⟩ := h
  obtain ⟨l1, l2, l3, l4⟩ := dirs_ren_lengths D r
  have := list_any w b _ G Ft h1 (by rw [l1]; exact hs)
  have e1 : dList (D.ren r).dir = dList D.dir := ren_dList r D.dir
  rwa [l1, e1] at this
theorem usedU (h : RepU w b D F Ft) (hu : usedL F D.dir ≤ 4611686018427387904) :
    Calls Try.prog 20 #[.pointer (some ⟨b, 0, none⟩)] w fun e w' => e = .returned (.int .i64 (usedL F D.dir)) ∧ Chg (fun _ => False) w w' := by
  obtain ⟨r, G, h1, h2, h3⟩ := h
  have e1 : usedL G (D.ren r).dir = usedL F D.dir := usedL_ren r G F D.dir fun f hf => h2 f (.inl hf)
  have := used_any w b _ G Ft h1 (by rw [e1]; exact hu)
  rwa [e1] at this
theorem deadU (h : RepU w b D F Ft) : Calls Try.prog 27 #[.pointer (some ⟨b, 0, none⟩)] w fun e w' => e = .returned (.bool D.n.dead) ∧ w = w' := by
  obtain ⟨vd, vs, vc, h⟩ := h.blk
  exact dead_any w b vd vs vc D.n h
theorem refusedU (h : RepU w b D F Ft) : Calls Try.prog 28 #[.pointer (some ⟨b, 0, none⟩)] w fun e w' => e = .returned (.int .i64 D.n.refused) ∧ w = w' := by
  obtain ⟨vd, vs, vc, h⟩ := h.blk
  exact refused_any w b vd vs vc D.n h
theorem fullsU (h : RepU w b D F Ft) : Calls Try.prog 30 #[.pointer (some ⟨b, 0, none⟩)] w fun e w' => e = .returned (.int .i64 D.n.fulls) ∧ w = w' := by
  obtain ⟨vd, vs, vc, h⟩ := h.blk
  exact fulls_any w b vd vs vc D.n h
theorem cutU (h : RepU w b D F Ft) (c : Int) : Calls Try.prog 26 #[.pointer (some ⟨b, 0, none⟩), .int .i64 c] w fun e w' => e = .returned (.tuple #[]) ∧ AfterU w Ft w' b { D with n := { D.n with cut := if c > 0 then wrap64 (D.n.calls + c) else 0 } } F := by
  obtain ⟨r, G, ⟨vd, vs, vc, vals, VB, hr, hf⟩, h2, h3⟩ := h
  refine (cut_any w b vd vs vc D.n c hr.blk).mono ?_
  rintro e w' ⟨q1, q2, q3⟩
  exact ⟨q1, (hr.afterN hf q2 q3).toU (D' := { D with n := { D.n with cut := if c > 0 then wrap64 (D.n.calls + c) else 0 } }) rfl h2 h3⟩
theorem failU (h : RepU w b D F Ft) (c p : Int) : Calls Try.prog 29 #[.pointer (some ⟨b, 0, none⟩), .int .i64 c, .int .i64 p] w fun e w' => e = .returned (.tuple #[]) ∧ AfterU w Ft w' b { D with n := dFail D.n c p } F := by
  obtain ⟨r, G, ⟨vd, vs, vc, vals, VB, hr, hf⟩, h2, h3⟩ := h
  refine (fail_any w b vd vs vc D.n c p hr.blk).mono ?_
  rintro e w' ⟨q1, q2, q3⟩
  exact ⟨q1, (hr.afterN hf q2 q3).toU (D' := { D with n := dFail D.n c p }) rfl h2 h3⟩
/-- A copy of a disk is the disk. -/
theorem copyU (h : RepU w b D F Ft) (hs : D.dir.length + D.safe.length + sumLen D.changes < 1099511627776) (hs2 : D.changes.length < 1099511627776) (hF : ∀ f, D.ids f → (F f).1.length ≤ 1099511627776) :
    Calls Try.prog 11 #[.pointer (some ⟨b, 0, none⟩)] w fun e w' => ∃ b2 Ft2, e = .returned (.pointer (some ⟨b2, 0, none⟩)) ∧ RepU w' b2 D F Ft2 ∧ (∀ k, Ft2 k → w.heap.size ≤ k ∧ k < w'.heap.size) ∧ Chg (fun _ => False) w w' := by
  obtain ⟨r, G, h1, h2, h3⟩ := h
  obtain ⟨l1, l2, l3, l4⟩ := dirs_ren_lengths D r
  refine (copy_any w b _ G Ft h1 (by rw [l1, l2, l4]; exact hs) (by rw [l3]; exact hs2) (fun f' hf' => by
    obtain ⟨f, q1, rfl⟩ := DS.ids_ren hf'
    rw [h2 f q1]; exact hF f q1)).mono ?_
  rintro e w' ⟨b2, r2, F2, Ft2, q1, q2, q3, q4, q5, q6⟩
  have hcomp : (D.ren r).ren r2 = D.ren (fun f => r2 (r f)) := by
    have e : ∀ es : List Ent, Go.Proofs.Ytodcnkbblippnaa.ren r2 (Go.Proofs.Ytodcnkbblippnaa.ren r es) = Go.Proofs.Ytodcnkbblippnaa.ren (fun f => r2 (r f)) es := fun es => by simp [Go.Proofs.Ytodcnkbblippnaa.ren]
    simp only [DS.ren, e, List.map_map]
    congr 1
    exact List.map_congr_left fun c _ => e c
  have hid : ∀ f, D.ids f → (D.ren r).ids (r f) := by
    rintro f (⟨x, hx, rfl⟩ | ⟨x, hx, rfl⟩ | ⟨c, hc, x, hx, rfl⟩)
    · exact .inl ⟨_, List.mem_map_of_mem hx, rfl⟩
    · exact .inr (.inl ⟨_, List.mem_map_of_mem hx, rfl⟩)
    · exact .inr (.inr ⟨_, List.mem_map_of_mem hc, _, List.mem_map_of_mem hx, rfl⟩)
  refine ⟨b2, Ft2, q1, ⟨fun f => r2 (r f), F2, hcomp ▸ q2, fun f hf => ?_, fun f f' hf hf' e => ?_⟩, q3, q4⟩
  · rw [q5 (r f) (hid f hf), h2 f hf]
  · exact h3 f f' hf hf' (q6 _ _ (hid f hf) (hid f' hf') e)
theorem crashDir_ren (r : Nat → Nat) (D : DS) (dirs : Int) : crashDir (D.ren r) dirs = ren r (crashDir D dirs) := by
  unfold crashDir
  have : (D.ren r).changes.length = D.changes.length := by simp [DS.ren]
  rw [this]
  cases pickN dirs D.changes.length with
  | zero => rfl
  | succ k =>
    show (D.changes.map (ren r)).getD k [] = ren r (D.changes.getD k [])
    rw [List.getD_eq_getElem?_getD, List.getD_eq_getElem?_getD, List.getElem?_map]
    cases D.changes[k]? <;> rfl
theorem crashDir_ids (D : DS) (dirs : Int) (f : Nat) (h : inEnts f (crashDir D dirs)) : D.ids f := by
  unfold crashDir at h
  split at h
  · exact .inr (.inl h)
  · rename_i k _
    rw [List.getD_eq_getElem?_getD] at h
    cases hx : D.changes[k]? with
    | none => rw [hx] at h; obtain ⟨e, he, _⟩ := h; cases he
    | some c => rw [hx] at h; exact .inr (.inr ⟨c, List.mem_of_getElem? hx, h⟩)
theorem crashK_ren {r : Nat → Nat} {G : Nat → FC} (h2 : ∀ f, D.ids f → G (r f) = F f) (h3 : ∀ f f', D.ids f → D.ids f' → r f = r f' → f = f') {es : List Ent} (hes : ∀ f, inEnts f es → D.ids f) (ts : List Int) (names : List ByteArray) (k : Nat) :
    ∀ f, D.ids f → crashK (ren r es) ts names G k (r f) = crashK es ts names F k f := by
  induction k with
  | zero => exact h2
  | succ k ih =>
    intro f hf
    simp only [crashK]
    cases names[k]? with
    | none => exact ih f hf
    | some name =>
      simp only [ren_lookup]
      cases hx : lookup es name with
      | none => exact ih f hf
      | some f0 =>
        have hf0 := hes f0 (lookup_in hx)
        simp only [Option.map_some, ih f0 hf0]
        exact updU ih h3 hf0 _ f hf
theorem crashU (h : RepU w b D F Ft) (dirs : Int) (vt : Value) (ts : List Int) (ht : IntSl w vt ts) (hta : ∀ ad n c x, vt = .slice ad n c → ad = some x → ¬ Ft x.block)
    (hs : D.dir.length < 1099511627776 ∧ D.safe.length < 1099511627776 ∧ D.changes.length < 1099511627776 ∧ ∀ c ∈ D.changes, c.length < 1099511627776) (hdi : -9223372036854775808 ≤ dirs ∧ dirs ≤ 9223372036854775807)
    (hts : ∀ t ∈ ts, -9223372036854775808 ≤ t ∧ t ≤ 9223372036854775807) (hF : ∀ f, D.ids f → 0 ≤ (F f).2 ∧ (F f).2 ≤ (F f).1.length ∧ (F f).1.length ≤ 1099511627776) :
    Calls Try.prog 6 #[.pointer (some ⟨b, 0, none⟩), .int .i64 dirs, vt] w fun e w' => e = .returned (.tuple #[]) ∧ AfterU w Ft w' b (dCrash D F dirs ts).1 (dCrash D F dirs ts).2 := by
  obtain ⟨r, G, h1, h2, h3⟩ := h
  obtain ⟨l1, l2, l3, l4⟩ := dirs_ren_lengths D r
  refine (crash_any w b _ G Ft h1 dirs vt ts ht hta (by
    rw [l1, l2, l3]
    refine ⟨hs.1, hs.2.1, hs.2.2.1, fun c hc => ?_⟩
    obtain ⟨c0, hc0, rfl⟩ := List.mem_map.1 hc
    rw [ren_length]; exact hs.2.2.2 c0 hc0) hdi hts (fun f' hf' => by
    obtain ⟨f, q1, rfl⟩ := DS.ids_ren hf'
    rw [h2 f q1]; exact hF f q1)).mono ?_
  rintro e w' ⟨q1, q2⟩
  have hids : ∀ f, (dCrash D F dirs ts).1.ids f → D.ids f := by
    rintro f (hf | hf | ⟨c, hc, _⟩)
    · exact crashDir_ids D dirs f hf
    · exact crashDir_ids D dirs f hf
    · cases hc
  refine ⟨q1, q2.toU (r := r) ?_ (fun f hf => ?_) fun f f' hf hf' => h3 f f' (hids f hf) (hids f' hf')⟩
  · simp only [dCrash, crashDir_ren]; rfl
  · simp only [dCrash, crashDir_ren, ren_dList, ren_length]
    exact crashK_ren h2 h3 (crashDir_ids D dirs) ts _ _ f (hids f hf)
end
end Go.Proofs.Ytodcnkbblippnaa
