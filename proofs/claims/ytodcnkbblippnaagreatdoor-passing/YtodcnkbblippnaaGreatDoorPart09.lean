/-
  The statement PassingCardSaid is proved: the law Passing answers true, at every four numbers; there is no condition.
  Part 9 of 34.
-/
import Derived.Test.YtodcnkbblippnaaGreatDoorPart07
import Derived.Test.YtodcnkbblippnaaGreatDoorPart08
import Derived.Test.YtodcnkbblippnaaGreatDoorPart04
import Derived.Test.YtodcnkbblippnaaGreatDoorPart02
/- A disk, its files' numbers left open ('RepU'): what each call of package disk makes of it. So a copy of a disk is the same disk. No walk of its own. -/
namespace Go.Proofs.YtodcnkbblippnaaGreatDoor
open Go.RowKit

theorem ren_length (r : Nat → Nat) (es : List Ent) : (ren r es).length = es.length := by simp [ren]
theorem ren_nil (r : Nat → Nat) : ren r [] = [] := rfl
theorem ren_append (r : Nat → Nat) (a b : List Ent) : ren r (a ++ b) = ren r a ++ ren r b := by simp [ren]
theorem ren_take (r : Nat → Nat) (es : List Ent) (k : Nat) : (ren r es).take k = ren r (es.take k) := by simp [ren, List.map_take]
theorem ren_drop (r : Nat → Nat) (es : List Ent) (k : Nat) : (ren r es).drop k = ren r (es.drop k) := by simp [ren, List.map_drop]
theorem ren_fidx (r : Nat → Nat) (es : List Ent) (name : ByteArray) : fidx (ren r es) name = fidx es name := by
  induction es with
  | nil => rfl
  | cons e t ih => simp only [ren, List.map_cons, fidx] at ih ⊢; rw [ih]
theorem ren_lookup (r : Nat → Nat) (es : List Ent) (name : ByteArray) : lookup (ren r es) name = (lookup es name).map r := by
  induction es with
  | nil => rfl
  | cons e t ih =>
    simp only [ren, List.map_cons, lookup] at ih ⊢
    by_cases h : e.1 = name
    · simp [h]
    · simp [h, ih]
theorem ren_getElem? (r : Nat → Nat) (es : List Ent) (k : Nat) : (ren r es)[k]? = (es[k]?).map fun e => (e.1, r e.2) := by simp [ren]
theorem ren_renL (r : Nat → Nat) (es : List Ent) (i : Nat) (name : ByteArray) (k : Nat) : renL (ren r es) i name k = ren r (renL es i name k) := by
  induction k with
  | zero => rfl
  | succ k ih =>
    simp only [renL, ih, ren_getElem?, ren_append]
    cases es[k]? with
    | none => simp [ren_nil]
    | some e =>
      simp only [Option.map_some]
      by_cases h : k ≠ i ∧ e.1 ≠ name
      · rw [if_pos h, if_pos h]; rfl
      · rw [if_neg h, if_neg h, ren_nil]
theorem ren_dListK (r : Nat → Nat) (es : List Ent) (k : Nat) : dListK (ren r es) k = dListK es k := by
  induction k with
  | zero => rfl
  | succ k ih =>
    simp only [dListK, ih, ren_getElem?]
    cases es[k]? <;> rfl
theorem ren_dList (r : Nat → Nat) (es : List Ent) : dList (ren r es) = dList es := by unfold dList; rw [ren_length, ren_dListK]
theorem usedL_ren (r : Nat → Nat) (G F : Nat → FC) (es : List Ent) (h : ∀ f, inEnts f es → G (r f) = F f) : usedL G (ren r es) = usedL F es := by
  induction es with
  | nil => rfl
  | cons e t ih =>
    have h1 := h e.2 ⟨e, by simp, rfl⟩
    have h2 := ih fun f hf => h f (by obtain ⟨x, hx, he⟩ := hf; exact ⟨x, List.mem_cons_of_mem _ hx, he⟩)
    simp only [ren, List.map_cons, usedL] at h2 ⊢
    rw [h1, h2]
theorem lookup_in {es : List Ent} {name : ByteArray} {f : Nat} (h : lookup es name = some f) : inEnts f es := by
  induction es with
  | nil => cases h
  | cons e t ih =>
    simp only [lookup] at h
    by_cases he : e.1 = name
    · simp [he] at h; exact ⟨e, by simp, h⟩
    · simp [he] at h
      obtain ⟨x, hx, hh⟩ := ih h
      exact ⟨x, List.mem_cons_of_mem _ hx, hh⟩
theorem ren_congr {r r' : Nat → Nat} {es : List Ent} (h : ∀ f, inEnts f es → r' f = r f) : ren r' es = ren r es := by
  unfold ren
  exact List.map_congr_left fun e he => by rw [h e.2 ⟨e, he, rfl⟩]
theorem DS.ren_congr {r r' : Nat → Nat} {D : DS} (h : ∀ f, D.ids f → r' f = r f) : D.ren r' = D.ren r := by
  unfold DS.ren
  rw [Go.Proofs.YtodcnkbblippnaaGreatDoor.ren_congr fun f hf => h f (.inl hf), Go.Proofs.YtodcnkbblippnaaGreatDoor.ren_congr (es := D.safe) fun f hf => h f (.inr (.inl hf))]
  congr 1
  exact List.map_congr_left fun c hc => Go.Proofs.YtodcnkbblippnaaGreatDoor.ren_congr fun f hf => h f (.inr (.inr ⟨c, hc, hf⟩))

/-- The disk, its files' numbers left open. -/
def RepU (w : World) (b : Nat) (D : DS) (F : Nat → FC) (Ft : Nat → Prop) : Prop :=
  ∃ r G, Rep w b (D.ren r) G Ft ∧ (∀ f, D.ids f → G (r f) = F f) ∧ ∀ f f', D.ids f → D.ids f' → r f = r f' → f = f'
def AfterU (w : World) (Ft : Nat → Prop) (w' : World) (b : Nat) (D' : DS) (F' : Nat → FC) : Prop :=
  Chg Ft w w' ∧ ∃ Ft', RepU w' b D' F' Ft' ∧ (∀ k, Ft' k → k < w'.heap.size) ∧ ∀ k, Ft' k → Ft k ∨ w.heap.size ≤ k
theorem RepU.frame {w w' : World} {b : Nat} {D : DS} {F : Nat → FC} {Ft : Nat → Prop} (h : RepU w b D F Ft) (hs : Same Ft w w') : RepU w' b D F Ft := by
  obtain ⟨r, G, h1, h2, h3⟩ := h
  exact ⟨r, G, h1.frame hs, h2, h3⟩
theorem RepU.of {w : World} {b : Nat} {D : DS} {F : Nat → FC} {Ft : Nat → Prop} (h : Rep w b D F Ft) : RepU w b D F Ft := by
  refine ⟨id, F, ?_, fun _ _ => rfl, fun _ _ _ _ h => h⟩
  have : D.ren id = D := by
    have e : ∀ es, Go.Proofs.YtodcnkbblippnaaGreatDoor.ren id es = es := fun es => by simp [Go.Proofs.YtodcnkbblippnaaGreatDoor.ren]
    have e2 : (Go.Proofs.YtodcnkbblippnaaGreatDoor.ren id) = id := funext e
    unfold DS.ren; rw [e2]; simp
  rw [this]; exact h
theorem After.toU {w w' : World} {Ft : Nat → Prop} {b : Nat} {D1 D' : DS} {G1 F' : Nat → FC} {r : Nat → Nat} (h : After w Ft w' b D1 G1) (hD : D1 = D'.ren r) (hG : ∀ f, D'.ids f → G1 (r f) = F' f) (hi : ∀ f f', D'.ids f → D'.ids f' → r f = r f' → f = f') : AfterU w Ft w' b D' F' := by
  obtain ⟨h1, Ft', h2, h3, h4⟩ := h
  subst hD
  exact ⟨h1, Ft', ⟨r, G1, h2, hG, hi⟩, h3, h4⟩
theorem dirs_ren_lengths (D : DS) (r : Nat → Nat) : (D.ren r).dir.length = D.dir.length ∧ (D.ren r).safe.length = D.safe.length ∧ (D.ren r).changes.length = D.changes.length ∧ sumLen (D.ren r).changes = sumLen D.changes := by
  refine ⟨ren_length _ _, ren_length _ _, by simp [DS.ren], ?_⟩
  unfold sumLen DS.ren
  rw [List.map_map]
  congr 1
  exact List.map_congr_left fun c _ => ren_length r c

section
variable {w : World} {b : Nat} {D : DS} {F : Nat → FC} {Ft : Nat → Prop}
theorem newU (room : Int) (w : World) :
    Calls Tryz.prog 21 #[.int .i64 room] w fun e w' => e = .returned (.pointer (some ⟨w.heap.size, 0, none⟩)) ∧ RepU w' w.heap.size ⟨[], [], [], dNew room⟩ F (One w.heap.size) ∧ Chg (fun _ => False) w w' ∧ w'.heap.size = w.heap.size + 1 := by
  refine (new_any room w).mono ?_
  rintro e w' ⟨h1, h2, h3, h4⟩
  refine ⟨h1, RepU.of ⟨_, _, _, [], fun _ => .slice none 0 0, ⟨h2, World.ownsRow_nil _ _ _ _, World.ownsRow_nil _ _ _ _, World.ownsRow_nil _ _ _ _, by intro i hi; simp at hi, ?_, ?_⟩, ?_⟩, h4, h3⟩
  · rintro f (⟨e, he, _⟩ | ⟨e, he, _⟩ | ⟨c, hc, _⟩)
    · cases he
    · cases he
    · cases hc
  · intro f f' g _ _ hg; simp [Value.ownBlock] at hg
  · intro k hk
    cases hk using Foot.elim with
    | blk => rfl
    | dir e => simp [Value.ownBlock] at e
    | safe e => simp [Value.ownBlock] at e
    | chg e => simp [Value.ownBlock] at e
    | che hm e => cases hm
    | fil hf => rcases hf with ⟨e, he, _⟩ | ⟨e, he, _⟩ | ⟨c, hc, _⟩ <;> contradiction
    | byt hf e => simp [Value.ownBlock] at e
theorem syncDirU (h : RepU w b D F Ft) :
    Calls Tryz.prog 86 #[.pointer (some ⟨b, 0, none⟩)] w fun e w' => e = .returned (.int .i64 (dSyncDir D).1) ∧ AfterU w Ft w' b (dSyncDir D).2 F := by
  obtain ⟨r, G, h1, h2, h3⟩ := h
  refine (syncDir_any w b _ G Ft h1).mono ?_
  rintro e w' ⟨q1, q2⟩
  have hD : (dSyncDir (D.ren r)).2 = (dSyncDir D).2.ren r := by
    unfold dSyncDir
    by_cases hb : (bg D.n).2.1 = 0
    · have hb' : (bg (D.ren r).n).2.1 = 0 := hb
      rw [if_pos hb, if_pos hb']; rfl
    · have hb' : ¬ (bg (D.ren r).n).2.1 = 0 := hb
      rw [if_neg hb, if_neg hb']; rfl
  have hids : ∀ f, (dSyncDir D).2.ids f → D.ids f := by
    intro f hf
    unfold dSyncDir at hf
    simp only at hf
    split at hf
    · rcases hf with hf | hf | ⟨c, hc, _⟩
      · exact .inl hf
      · exact .inl hf
      · cases hc
    · exact hf
  exact ⟨q1, q2.toU hD (fun f hf => h2 f (hids f hf)) fun f f' hf hf' => h3 f f' (hids f hf) (hids f' hf')⟩
theorem lookup_ids {name : ByteArray} {f : Nat} (h : lookup D.dir name = some f) : D.ids f := .inl (lookup_in h)
theorem syncU (h : RepU w b D F Ft) (name : ByteArray) :
    Calls Tryz.prog 85 #[.pointer (some ⟨b, 0, none⟩), .string name] w fun e w' => e = .returned (.int .i64 (dSync D F name).1) ∧ AfterU w Ft w' b (dSync D F name).2.1 (dSync D F name).2.2 := by
  obtain ⟨r, G, h1, h2, h3⟩ := h
  refine (sync_any w b _ G Ft h1 name).mono ?_
  rintro e w' ⟨q1, q2⟩
  have hl : lookup (D.ren r).dir name = (lookup D.dir name).map r := ren_lookup r D.dir name
  cases hx : lookup D.dir name with
  | none =>
    rw [hx] at hl
    have e1 : dSync (D.ren r) G name = (8, D.ren r, G) := by unfold dSync; rw [hl]; rfl
    have e2 : dSync D F name = (8, D, F) := by unfold dSync; rw [hx]
    rw [e1] at q1 q2; rw [e2]
    exact ⟨q1, q2.toU rfl h2 h3⟩
  | some f =>
    rw [hx] at hl
    have e1 : dSync (D.ren r) G name = ((bg D.n).2.1, { D with n := (bg D.n).2.2 }.ren r, if (bg D.n).2.1 = 0 then upd G (r f) ((G (r f)).1, (G (r f)).1.length) else G) := by unfold dSync; rw [hl]; rfl
    have e2 : dSync D F name = ((bg D.n).2.1, { D with n := (bg D.n).2.2 }, if (bg D.n).2.1 = 0 then upd F f ((F f).1, (F f).1.length) else F) := by unfold dSync; rw [hx]
    rw [e1] at q1 q2; rw [e2]
    refine ⟨q1, q2.toU rfl (fun f' hf' => ?_) h3⟩
    have hf := lookup_ids hx
    show (if (bg D.n).2.1 = 0 then upd G (r f) ((G (r f)).1, (G (r f)).1.length) else G) (r f') = (if (bg D.n).2.1 = 0 then upd F f ((F f).1, (F f).1.length) else F) f'
    by_cases hb : (bg D.n).2.1 = 0
    · rw [if_pos hb, if_pos hb]
      unfold upd
      by_cases hff : f' = f
      · subst hff; simp [h2 f' hf]
      · have : r f' ≠ r f := fun e => hff (h3 f' f hf' hf e)
        simp only [this, hff, if_false]; exact h2 f' hf'
    · rw [if_neg hb, if_neg hb]; exact h2 f' hf'
theorem updU {r : Nat → Nat} {G : Nat → FC} (h2 : ∀ f, D.ids f → G (r f) = F f) (h3 : ∀ f f', D.ids f → D.ids f' → r f = r f' → f = f') {f : Nat} (hf : D.ids f) (c : FC) : ∀ f', D.ids f' → upd G (r f) c (r f') = upd F f c f' := fun f' hf' => by
  unfold upd
  by_cases hff : f' = f
  · subst hff; simp
  · have : r f' ≠ r f := fun e => hff (h3 f' f hf' hf e)
    simp only [this, hff, if_false]; exact h2 f' hf'
theorem dAdd_ren {r : Nat → Nat} {G : Nat → FC} (h2 : ∀ f, D.ids f → G (r f) = F f) (h3 : ∀ f f', D.ids f → D.ids f' → r f = r f' → f = f') {f : Nat} (hf : D.ids f) (data : ByteArray) (n0 e : Int) :
    (dAdd (D.ren r) G (r f) data n0 e).1 = (dAdd D F f data n0 e).1 ∧ (dAdd (D.ren r) G (r f) data n0 e).2.1 = (dAdd D F f data n0 e).2.1.ren r ∧ (∀ f', D.ids f' → (dAdd (D.ren r) G (r f) data n0 e).2.2 (r f') = (dAdd D F f data n0 e).2.2 f') ∧ (∀ f', (dAdd D F f data n0 e).2.1.ids f' ↔ D.ids f') := by
  have hleft : dLeft (D.ren r) G = dLeft D F := by
    unfold dLeft
    have : usedL G (D.ren r).dir = usedL F D.dir := usedL_ren r G F D.dir fun f hf => h2 f (.inl hf)
    rw [this]; rfl
  unfold dAdd
  rw [hleft]
  by_cases hc : n0 > dLeft D F
  · simp only [hc, if_true]
    rw [h2 f hf]
    refine ⟨by first | trivial | rfl, ?_, fun f' hf' => updU h2 h3 hf _ f' hf', fun f' => ?_⟩
    · by_cases he : e = 0
      · rw [if_pos he, if_pos he]; rfl
      · rw [if_neg he, if_neg he]
    · by_cases he : e = 0
      · rw [if_pos he]; exact Iff.rfl
      · rw [if_neg he]
  · simp only [hc, if_false]
    rw [h2 f hf]
    exact ⟨by first | trivial | rfl, by first | trivial | rfl, fun f' hf' => updU h2 h3 hf _ f' hf', fun _ => by first | trivial | exact Iff.rfl⟩
theorem appendU (h : RepU w b D F Ft) (name data : ByteArray) (hroom : -4611686018427387904 ≤ D.n.room ∧ D.n.room ≤ 9223372036854775807)
    (hu : usedL F D.dir ≤ 4611686018427387904) (hp : 0 ≤ D.n.part ∧ D.n.part ≤ 9223372036854775807) (hl : ∀ f, lookup D.dir name = some f → (F f).1.length + data.size ≤ 70368744177664) :
    Calls Tryz.prog 84 #[.pointer (some ⟨b, 0, none⟩), .string name, .string data] w fun e w' => e = .returned (.int .i64 (dAppend D F name data).1) ∧ AfterU w Ft w' b (dAppend D F name data).2.1 (dAppend D F name data).2.2 := by
  obtain ⟨r, G, h1, h2, h3⟩ := h
  have hlk : lookup (D.ren r).dir name = (lookup D.dir name).map r := ren_lookup r D.dir name
  refine (append_any w b _ G Ft h1 name data hroom (by
    have : usedL G (D.ren r).dir = usedL F D.dir := usedL_ren r G F D.dir fun f hf => h2 f (.inl hf)
    rw [this]; exact hu) hp (fun f hf => by
      rw [hlk] at hf
      cases hx : lookup D.dir name with
      | none => rw [hx] at hf; cases hf
      | some f0 =>
        rw [hx] at hf; simp at hf; subst hf
        rw [h2 f0 (lookup_ids hx)]; exact hl f0 hx)).mono ?_
  rintro e w' ⟨q1, q2⟩
  cases hx : lookup D.dir name with
  | none =>
    rw [hx] at hlk
    have e1 : dAppend (D.ren r) G name data = (8, D.ren r, G) := by unfold dAppend; rw [hlk]; rfl
    have e2 : dAppend D F name data = (8, D, F) := by unfold dAppend; rw [hx]
    rw [e1] at q1 q2; rw [e2]
    exact ⟨q1, q2.toU rfl h2 h3⟩
  | some f =>
    rw [hx] at hlk
    have hf := lookup_ids hx
    have hfn : ({ D with n := (bg D.n).2.2 } : DS).ids f := hf
    by_cases c1 : (bg D.n).1 = true
    · have e1 : dAppend (D.ren r) G name data = dAdd ({ D with n := (bg D.n).2.2 }.ren r) G (r f) data data.size (bg D.n).2.1 := by
        unfold dAppend; rw [hlk]; show (if (bg D.n).1 = true then _ else _) = _; rw [if_pos c1]; rfl
      have e2 : dAppend D F name data = dAdd { D with n := (bg D.n).2.2 } F f data data.size (bg D.n).2.1 := by
        unfold dAppend; rw [hx]; show (if (bg D.n).1 = true then _ else _) = _; rw [if_pos c1]
      rw [e1] at q1 q2; rw [e2]
      obtain ⟨k1, k2, k3, k4⟩ := dAdd_ren (D := { D with n := (bg D.n).2.2 }) (r := r) (G := G) (F := F) h2 h3 hfn data data.size (bg D.n).2.1
      rw [k1] at q1
      exact ⟨q1, q2.toU k2 (fun f' hf' => k3 f' ((k4 f').1 hf')) fun f' f'' hf' hf'' => h3 f' f'' ((k4 f').1 hf') ((k4 f'').1 hf'')⟩
    · by_cases c2 : (bg D.n).2.2.dead = false ∧ 0 < data.size
      · have e1 : dAppend (D.ren r) G name data = dAdd ({ D with n := (bg D.n).2.2 }.ren r) G (r f) data ((bg D.n).2.2.part % data.size) (bg D.n).2.1 := by
          unfold dAppend; rw [hlk]; show (if (bg D.n).1 = true then _ else if (bg D.n).2.2.dead = false ∧ 0 < data.size then _ else _) = _; rw [if_neg c1, if_pos c2]; rfl
        have e2 : dAppend D F name data = dAdd { D with n := (bg D.n).2.2 } F f data ((bg D.n).2.2.part % data.size) (bg D.n).2.1 := by
          unfold dAppend; rw [hx]; show (if (bg D.n).1 = true then _ else if (bg D.n).2.2.dead = false ∧ 0 < data.size then _ else _) = _; rw [if_neg c1, if_pos c2]
        rw [e1] at q1 q2; rw [e2]
        obtain ⟨k1, k2, k3, k4⟩ := dAdd_ren (D := { D with n := (bg D.n).2.2 }) (r := r) (G := G) (F := F) h2 h3 hfn data ((bg D.n).2.2.part % data.size) (bg D.n).2.1
        rw [k1] at q1
        exact ⟨q1, q2.toU k2 (fun f' hf' => k3 f' ((k4 f').1 hf')) fun f' f'' hf' hf'' => h3 f' f'' ((k4 f').1 hf') ((k4 f'').1 hf'')⟩
      · have e1 : dAppend (D.ren r) G name data = ((bg D.n).2.1, { D with n := (bg D.n).2.2 }.ren r, G) := by
          unfold dAppend; rw [hlk]; show (if (bg D.n).1 = true then _ else if (bg D.n).2.2.dead = false ∧ 0 < data.size then _ else _) = _; rw [if_neg c1, if_neg c2]; rfl
        have e2 : dAppend D F name data = ((bg D.n).2.1, { D with n := (bg D.n).2.2 }, F) := by
          unfold dAppend; rw [hx]; show (if (bg D.n).1 = true then _ else if (bg D.n).2.2.dead = false ∧ 0 < data.size then _ else _) = _; rw [if_neg c1, if_neg c2]
        rw [e1] at q1 q2; rw [e2]
        exact ⟨q1, q2.toU rfl h2 h3⟩
/-- Where the directory is turned to entries of files that are there. -/
theorem ids_turn {es : List Ent} {n : DN} (hes : ∀ f, inEnts f es → D.ids f) (f : Nat) (hf : ({ D with dir := es, changes := D.changes ++ [es], n := n } : DS).ids f) : D.ids f := by
  rcases hf with hf | hf | ⟨c, hc, hf⟩
  · exact hes f hf
  · exact .inr (.inl hf)
  · rcases List.mem_append.1 hc with hc | hc
    · exact .inr (.inr ⟨c, hc, hf⟩)
    · simp at hc; subst hc; exact hes f hf
theorem turn_ren (r : Nat → Nat) (es : List Ent) (n : DN) : ({ D.ren r with dir := ren r es, changes := (D.ren r).changes ++ [ren r es], n := n } : DS) = ({ D with dir := es, changes := D.changes ++ [es], n := n } : DS).ren r := by
  simp [DS.ren]
theorem removeU (h : RepU w b D F Ft) (name : ByteArray) (hs : D.dir.length < 1099511627776 ∧ D.changes.length < 1099511627776) :
    Calls Tryz.prog 193 #[.pointer (some ⟨b, 0, none⟩), .string name] w fun e w' => e = .returned (.int .i64 (dRemove D name).1) ∧ AfterU w Ft w' b (dRemove D name).2 F := by
  obtain ⟨r, G, h1, h2, h3⟩ := h
  obtain ⟨l1, l2, l3, l4⟩ := dirs_ren_lengths D r
  refine (remove_any w b _ G Ft h1 name (by rw [l1, l3]; exact hs)).mono ?_
  rintro e w' ⟨q1, q2⟩
  have hfi : fidx (D.ren r).dir name = fidx D.dir name := ren_fidx r D.dir name
  by_cases c1 : fidx D.dir name < 0
  · have e1 : dRemove (D.ren r) name = (8, D.ren r) := by unfold dRemove; rw [hfi, if_pos c1]
    have e2 : dRemove D name = (8, D) := by unfold dRemove; rw [if_pos c1]
    rw [e1] at q1 q2; rw [e2]
    exact ⟨q1, q2.toU rfl h2 h3⟩
  · by_cases c2 : (bg D.n).1 = true
    · have e2 : dRemove D name = ((bg D.n).2.1, { D with dir := D.dir.take (fidx D.dir name).toNat ++ D.dir.drop ((fidx D.dir name).toNat + 1), changes := D.changes ++ [D.dir.take (fidx D.dir name).toNat ++ D.dir.drop ((fidx D.dir name).toNat + 1)], n := (bg D.n).2.2 }) := by
        unfold dRemove; rw [if_neg c1]; simp only [c2, if_true]
      have e1 : dRemove (D.ren r) name = ((bg D.n).2.1, { D with dir := D.dir.take (fidx D.dir name).toNat ++ D.dir.drop ((fidx D.dir name).toNat + 1), changes := D.changes ++ [D.dir.take (fidx D.dir name).toNat ++ D.dir.drop ((fidx D.dir name).toNat + 1)], n := (bg D.n).2.2 }.ren r) := by
        have c2' : (bg (D.ren r).n).1 = true := c2
        unfold dRemove; rw [hfi, if_neg c1]; simp only [c2', if_true]
        rw [← turn_ren, ren_append, ← ren_take, ← ren_drop]; rfl
      rw [e1] at q1 q2; rw [e2]
      have hin : ∀ f, inEnts f (D.dir.take (fidx D.dir name).toNat ++ D.dir.drop ((fidx D.dir name).toNat + 1)) → D.ids f := by
        rintro f ⟨x, hx, he⟩
        rcases List.mem_append.1 hx with hx | hx
        · exact .inl ⟨x, List.mem_of_mem_take hx, he⟩
        · exact .inl ⟨x, List.mem_of_mem_drop hx, he⟩
      exact ⟨q1, q2.toU rfl (fun f hf => h2 f (ids_turn hin f hf)) fun f f' hf hf' => h3 f f' (ids_turn hin f hf) (ids_turn hin f' hf')⟩
    · have e2 : dRemove D name = ((bg D.n).2.1, { D with n := (bg D.n).2.2 }) := by unfold dRemove; rw [if_neg c1]; simp only [c2]; rfl
      have e1 : dRemove (D.ren r) name = ((bg D.n).2.1, { D with n := (bg D.n).2.2 }.ren r) := by
        have c2' : ¬ (bg (D.ren r).n).1 = true := c2
        unfold dRemove; rw [hfi, if_neg c1]; simp only [c2']; rfl
      rw [e1] at q1 q2; rw [e2]
      exact ⟨q1, q2.toU rfl h2 h3⟩
theorem renameU (h : RepU w b D F Ft) (old name : ByteArray) (hs : D.dir.length < 1099511627776 ∧ D.changes.length < 1099511627776) :
    Calls Tryz.prog 242 #[.pointer (some ⟨b, 0, none⟩), .string old, .string name] w fun e w' => e = .returned (.int .i64 (dRename D old name).1) ∧ AfterU w Ft w' b (dRename D old name).2 F := by
  obtain ⟨r, G, h1, h2, h3⟩ := h
  obtain ⟨l1, l2, l3, l4⟩ := dirs_ren_lengths D r
  refine (rename_any w b _ G Ft h1 old name (by rw [l1, l3]; exact hs)).mono ?_
  rintro e w' ⟨q1, q2⟩
  have hlk : lookup (D.ren r).dir old = (lookup D.dir old).map r := ren_lookup r D.dir old
  cases hx : lookup D.dir old with
  | none =>
    rw [hx] at hlk
    have e1 : dRename (D.ren r) old name = (8, D.ren r) := by unfold dRename; rw [hlk]; rfl
    have e2 : dRename D old name = (8, D) := by unfold dRename; rw [hx]
    rw [e1] at q1 q2; rw [e2]
    exact ⟨q1, q2.toU rfl h2 h3⟩
  | some f =>
    rw [hx] at hlk
    by_cases c1 : name = ByteArray.empty
    · have e1 : dRename (D.ren r) old name = (8, D.ren r) := by unfold dRename; rw [hlk]; simp only [Option.map_some]; rw [if_pos c1]
      have e2 : dRename D old name = (8, D) := by unfold dRename; rw [hx]; simp only; rw [if_pos c1]
      rw [e1] at q1 q2; rw [e2]
      exact ⟨q1, q2.toU rfl h2 h3⟩
    · by_cases c2 : (bg D.n).1 = true
      · have e2 : dRename D old name = ((bg D.n).2.1, { D with dir := renL D.dir (fidx D.dir old).toNat name D.dir.length ++ [(name, f)], changes := D.changes ++ [renL D.dir (fidx D.dir old).toNat name D.dir.length ++ [(name, f)]], n := (bg D.n).2.2 }) := by
          unfold dRename; rw [hx]; simp only; rw [if_neg c1]; simp only [c2, if_true]
        have e1 : dRename (D.ren r) old name = ((bg D.n).2.1, { D with dir := renL D.dir (fidx D.dir old).toNat name D.dir.length ++ [(name, f)], changes := D.changes ++ [renL D.dir (fidx D.dir old).toNat name D.dir.length ++ [(name, f)]], n := (bg D.n).2.2 }.ren r) := by
          have c2' : (bg (D.ren r).n).1 = true := c2
          have hfi : fidx (D.ren r).dir old = fidx D.dir old := ren_fidx r D.dir old
          unfold dRename; rw [hlk]; simp only [Option.map_some]; rw [if_neg c1]; simp only [c2', if_true]
          rw [← turn_ren, ren_append, ← ren_renL, hfi, l1]; rfl
        rw [e1] at q1 q2; rw [e2]
        have hin : ∀ f', inEnts f' (renL D.dir (fidx D.dir old).toNat name D.dir.length ++ [(name, f)]) → D.ids f' := by
          rintro f' ⟨x, hx', he⟩
          rcases List.mem_append.1 hx' with hx' | hx'
          · exact .inl ⟨x, renL_mem _ _ _ _ x hx', he⟩
          · simp at hx'; subst hx'; cases he; exact lookup_ids hx
        exact ⟨q1, q2.toU rfl (fun f hf => h2 f (ids_turn hin f hf)) fun f f' hf hf' => h3 f f' (ids_turn hin f hf) (ids_turn hin f' hf')⟩
      · have e2 : dRename D old name = ((bg D.n).2.1, { D with n := (bg D.n).2.2 }) := by unfold dRename; rw [hx]; simp only; rw [if_neg c1]; simp only [c2]; rfl
        have e1 : dRename (D.ren r) old name = ((bg D.n).2.1, { D with n := (bg D.n).2.2 }.ren r) := by
          have c2' : ¬ (bg (D.ren r).n).1 = true := c2
          unfold dRename; rw [hlk]; simp only [Option.map_some]; rw [if_neg c1]; simp only [c2']; rfl
        rw [e1] at q1 q2; rw [e2]
        exact ⟨q1, q2.toU rfl h2 h3⟩
/-- k: a number that no file of the disk bears. -/
theorem createU (h : RepU w b D F Ft) (name : ByteArray) (k : Nat) (hk : ¬ D.ids k) (hs : D.dir.length < 1099511627776 ∧ D.changes.length < 1099511627776) :
    Calls Tryz.prog 83 #[.pointer (some ⟨b, 0, none⟩), .string name] w fun e w' => e = .returned (.int .i64 (dCreate D name k).1) ∧ AfterU w Ft w' b (dCreate D name k).2 (upd F k ([], 0)) := by
  obtain ⟨r, G, h1, h2, h3⟩ := h
  obtain ⟨l1, l2, l3, l4⟩ := dirs_ren_lengths D r
  have hlt : ∀ f, D.ids f → r f < w.heap.size := by
    obtain ⟨vd, vs, vc, vals, VB, hr, _⟩ := h1
    intro f hf
    refine hr.lt (.fil ?_)
    rcases hf with ⟨x, hx, rfl⟩ | ⟨x, hx, rfl⟩ | ⟨c, hc, x, hx, rfl⟩
    · exact .inl ⟨_, List.mem_map_of_mem hx, rfl⟩
    · exact .inr (.inl ⟨_, List.mem_map_of_mem hx, rfl⟩)
    · exact .inr (.inr ⟨_, List.mem_map_of_mem hc, _, List.mem_map_of_mem hx, rfl⟩)
  refine (create_any w b _ G Ft h1 name (by rw [l1, l3]; exact hs)).mono ?_
  rintro e w' ⟨f0, q0, q1, q2⟩
  have hfi : fidx (D.ren r).dir name = fidx D.dir name := ren_fidx r D.dir name
  have hG : ∀ f, D.ids f → upd G f0 ([], 0) (r f) = upd F k ([], 0) f := fun f hf => by
    unfold upd
    have n1 : r f ≠ f0 := by have := hlt f hf; omega
    have n2 : f ≠ k := fun e => hk (e ▸ hf)
    simp only [n1, n2, if_false]; exact h2 f hf
  by_cases c1 : name = ByteArray.empty ∨ fidx D.dir name ≥ 0
  · have e1 : dCreate (D.ren r) name f0 = (8, D.ren r) := by unfold dCreate; rw [hfi, if_pos c1]
    have e2 : dCreate D name k = (8, D) := by unfold dCreate; rw [if_pos c1]
    rw [e1] at q1 q2; rw [e2]
    exact ⟨q1, q2.toU rfl hG h3⟩
  · by_cases c2 : (bg D.n).1 = true
    · have e2 : dCreate D name k = ((bg D.n).2.1, { D with dir := D.dir ++ [(name, k)], changes := D.changes ++ [D.dir ++ [(name, k)]], n := (bg D.n).2.2 }) := by
        unfold dCreate; rw [if_neg c1]; simp only [c2, if_true]
      have hr' : ∀ f, D.ids f → (fun f => if f = k then f0 else r f) f = r f := fun f hf => by
        have n2 : f ≠ k := fun e => hk (e ▸ hf)
        simp only [n2, if_false]
      have hDr : D.ren (fun f => if f = k then f0 else r f) = D.ren r := DS.ren_congr hr'
      have e1 : dCreate (D.ren r) name f0 = ((bg D.n).2.1, { D with dir := D.dir ++ [(name, k)], changes := D.changes ++ [D.dir ++ [(name, k)]], n := (bg D.n).2.2 }.ren (fun f => if f = k then f0 else r f)) := by
        have c2' : (bg (D.ren r).n).1 = true := c2
        unfold dCreate; rw [hfi, if_neg c1]; simp only [c2', if_true]
        rw [← turn_ren, hDr, ren_append]
        have e3 : ren (fun f => if f = k then f0 else r f) D.dir = (D.ren r).dir := by
          have := congrArg DS.dir hDr; exact this
        rw [e3]
        have e4 : ren (fun f => if f = k then f0 else r f) [(name, k)] = [(name, f0)] := by simp [ren]
        rw [e4]; rfl
      rw [e1] at q1 q2; rw [e2]
      have hids : ∀ f, ({ D with dir := D.dir ++ [(name, k)], changes := D.changes ++ [D.dir ++ [(name, k)]], n := (bg D.n).2.2 } : DS).ids f → D.ids f ∨ f = k := by
        have key : ∀ f, inEnts f (D.dir ++ [(name, k)]) → D.ids f ∨ f = k := by
          rintro f ⟨x, hx, rfl⟩
          rcases List.mem_append.1 hx with hx | hx
          · exact .inl (.inl ⟨x, hx, rfl⟩)
          · simp at hx; subst hx; exact .inr rfl
        rintro f (hf | hf | ⟨c, hc, hf⟩)
        · exact key f hf
        · exact .inl (.inr (.inl hf))
        · rcases List.mem_append.1 hc with hc | hc
          · exact .inl (.inr (.inr ⟨c, hc, hf⟩))
          · simp at hc; subst hc; exact key f hf
      refine ⟨q1, q2.toU rfl (fun f hf => ?_) fun f f' hf hf' e => ?_⟩
      · rcases hids f hf with h | h
        · simp only [hr' f h]; exact hG f h
        · subst h; simp [upd]
      · rcases hids f hf with h | h <;> rcases hids f' hf' with h' | h'
        · simp only [hr' f h, hr' f' h'] at e; exact h3 f f' h h' e
        · subst h'; simp only [hr' f h, if_true] at e; have := hlt f h; omega
        · subst h; simp only [hr' f' h', if_true] at e; have := hlt f' h'; omega
        · rw [h, h']
    · have e2 : dCreate D name k = ((bg D.n).2.1, { D with n := (bg D.n).2.2 }) := by unfold dCreate; rw [if_neg c1]; simp only [c2]; rfl
      have e1 : dCreate (D.ren r) name f0 = ((bg D.n).2.1, { D with n := (bg D.n).2.2 }.ren r) := by
        have c2' : ¬ (bg (D.ren r).n).1 = true := c2
        unfold dCreate; rw [hfi, if_neg c1]; simp only [c2']; rfl
      rw [e1] at q1 q2; rw [e2]
      exact ⟨q1, q2.toU rfl hG h3⟩
theorem readU (h : RepU w b D F Ft) (name : ByteArray) (p n : Int) :
    Calls Tryz.prog 82 #[.pointer (some ⟨b, 0, none⟩), .string name, .int .i64 p, .int .i64 n] w fun e w' => e = .returned (.tuple #[.string ⟨(dRead D F name p n).1.toArray⟩, .int .i64 (dRead D F name p n).2]) ∧ w = w' := by
  obtain ⟨r, G, h1, h2, h3⟩ := h
  have hlk : lookup (D.ren r).dir name = (lookup D.dir name).map r := ren_lookup r D.dir name
  have e1 : dRead (D.ren r) G name p n = dRead D F name p n := by
    unfold dRead
    rw [hlk]
    cases hx : lookup D.dir name with
    | none => rfl
    | some f => simp only [Option.map_some, h2 f (lookup_ids hx)]
  have := read_any w b _ G Ft h1 name p n
  rwa [e1] at this
theorem sizeU (h : RepU w b D F Ft) (name : ByteArray) :
    Calls Tryz.prog 81 #[.pointer (some ⟨b, 0, none⟩), .string name] w fun e w' => e = .returned (.tuple #[.int .i64 (dSize D F name).1, .int .i64 (dSize D F name).2]) ∧ w = w' := by
  obtain ⟨r, G, h1, h2, h3⟩ := h
  have hlk : lookup (D.ren r).dir name = (lookup D.dir name).map r := ren_lookup r D.dir name
  have e1 : dSize (D.ren r) G name = dSize D F name := by
    unfold dSize
    rw [hlk]
    cases hx : lookup D.dir name with
    | none => rfl
    | some f => simp only [Option.map_some, h2 f (lookup_ids hx)]
  obtain ⟨vd, vs, vc, vals, VB, hr, _⟩ := h1
  have := size_any w b _ G vd vs vc vals VB hr name
  rwa [e1] at this
theorem listU (h : RepU w b D F Ft) (hs : D.dir.length < 1099511627776) :
    Calls Tryz.prog 76 #[.pointer (some ⟨b, 0, none⟩)] w fun e w' => ∃ v, e = .returned v ∧ w'.ownsRow 0 9 1 v D.dir.length (strVals (dList D.dir)) ∧ Chg (fun _ => False) w w' ∧ (∀ g, v.ownBlock = some g → w.heap.size ≤ g) := by
  obtain ⟨r, G, h1, h2, h3⟩ := h
  obtain ⟨l1, l2, l3, l4⟩ := dirs_ren_lengths D r
  have := list_any w b _ G Ft h1 (by rw [l1]; exact hs)
  have e1 : dList (D.ren r).dir = dList D.dir := ren_dList r D.dir
  rwa [l1, e1] at this
end
end Go.Proofs.YtodcnkbblippnaaGreatDoor
/- Disks made behind a start: 'DAt N w b D F': in world w there lies at block b, above N, the disk D with files F. Each call's contract with what it makes, given by equations. No walk. -/
namespace Go.Proofs.YtodcnkbblippnaaGreatDoor
open Go.RowKit

section
variable {N : Nat} {w : World} {b : Nat} {D : DS} {F : Nat → FC}
end
section
variable {N : Nat} {w w' : World} {b b2 : Nat} {D D2 : DS} {F F2 : Nat → FC}
end
end Go.Proofs.YtodcnkbblippnaaGreatDoor
/- Walks: a file on the disk: create, Sync, all, add. -/
namespace Go.Proofs.YtodcnkbblippnaaGreatDoor
open Go.RowKit

theorem RepU.drew {w : World} {b : Nat} {D : DS} {F : Nat → FC} {Ft : Nat → Prop} (h : RepU w b D F Ft) : RepU w.drew b D F Ft := h.frame fun _ _ => rfl
theorem AfterU.ofDrew {w w' : World} {b : Nat} {D : DS} {F : Nat → FC} {Ft : Nat → Prop} (h : AfterU w.drew Ft w' b D F) : AfterU w Ft w' b D F := by
  obtain ⟨h1, h2⟩ := h
  exact ⟨⟨h1.os, h1.tape, h1.output, h1.size, h1.block⟩, h2⟩
section
variable {w : World} {b fb : Nat} {D : DS} {F : Nat → FC} {Ft : Nat → Prop} {T : TypeId} {name : ByteArray} {s : Nat}
set_option maxRecDepth 100000 in
set_option maxHeartbeats 1000000 in
theorem createF (hf : FlBlk w fb T (.pointer (some ⟨b, 0, none⟩)) name s) (h : RepU w b D F Ft) (k : Nat) (hk : ¬ D.ids k) (hs : D.dir.length < 1099511627776 ∧ D.changes.length < 1099511627776) :
    Calls Tryz.prog 240 #[.pointer (some ⟨fb, 0, none⟩)] w fun e w' => e = .returned (.int .i64 (dCreate D name k).1) ∧ AfterU w Ft w' b (dCreate D name k).2 (upd F k ([], 0)) := by
  have c0 := hf.c0
  have c1 := hf.c1
  have CR := hide (createU h.drew name k hk hs)
  obtain ⟨q, hq⟩ : ∃ q, (dCreate D name k).1 = q := ⟨_, rfl⟩
  rw [hq] at CR ⊢
  clear hf h hq
  go_enter Tryz.func240, Tryz.ntmps240
  go_wp2
  refine wp_region_sch (fun w' => w'.cell? ⟨fb, 0, none⟩ = some (.pointer (some ⟨b, 0, none⟩)) ∧ w'.cell? ⟨fb, 1, none⟩ = some (.string name)) 8
    [(0, true), (1, true), (2, true), (3, true), (4, true), (5, true), (6, true), (7, true)] (by kernel_rfl) (by kernel_rfl) (fun _ _ _ _ _ h => h) ⟨c0, c1⟩ ?_
  iterate 8 (refine wpSch_take (v := ?_) rfl (by rfl) ?_ ?_; rotate_left; (· (intro w' hS; (try dsimp only at hS); go_simp; try with_reducible rfl)); (try simp only [Act.put, List.setIfInBounds_toArray, List.set_cons_zero, List.set_cons_succ, List.getElem_toArray, List.getElem_cons_zero, List.getElem_cons_succ]))
  refine wpSch_end ?_
  simp only [List.drop_succ_cons, List.drop_zero]
  go_wp2_with (go_at_call 83; refine CR.out.mono ?_; rintro e w' ⟨rfl, hA⟩; have HA := hide hA; clear hA)
  go_ret
  exact ⟨rfl, HA.out.ofDrew⟩
set_option maxRecDepth 100000 in
set_option maxHeartbeats 1000000 in
theorem syncF (hf : FlBlk w fb T (.pointer (some ⟨b, 0, none⟩)) name s) (h : RepU w b D F Ft) :
    Calls Tryz.prog 164 #[.pointer (some ⟨fb, 0, none⟩)] w fun e w' => e = .returned (.int .i64 (dSync D F name).1) ∧ AfterU w Ft w' b (dSync D F name).2.1 (dSync D F name).2.2 := by
  have c0 := hf.c0
  have c1 := hf.c1
  have CR := hide (syncU h.drew name)
  obtain ⟨q, hq⟩ : ∃ q, (dSync D F name).1 = q := ⟨_, rfl⟩
  rw [hq] at CR ⊢
  clear hf h hq
  go_enter Tryz.func164, Tryz.ntmps164
  go_wp2
  refine wp_region_sch (fun w' => w'.cell? ⟨fb, 0, none⟩ = some (.pointer (some ⟨b, 0, none⟩)) ∧ w'.cell? ⟨fb, 1, none⟩ = some (.string name)) 8
    [(0, true), (1, true), (2, true), (3, true), (4, true), (5, true), (6, true), (7, true)] (by kernel_rfl) (by kernel_rfl) (fun _ _ _ _ _ h => h) ⟨c0, c1⟩ ?_
  iterate 8 (refine wpSch_take (v := ?_) rfl (by rfl) ?_ ?_; rotate_left; (· (intro w' hS; (try dsimp only at hS); go_simp; try with_reducible rfl)); (try simp only [Act.put, List.setIfInBounds_toArray, List.set_cons_zero, List.set_cons_succ, List.getElem_toArray, List.getElem_cons_zero, List.getElem_cons_succ]))
  refine wpSch_end ?_
  simp only [List.drop_succ_cons, List.drop_zero]
  go_wp2_with (go_at_call 85; refine CR.out.mono ?_; rintro e w' ⟨rfl, hA⟩; have HA := hide hA; clear hA)
  go_ret
  exact ⟨rfl, HA.out.ofDrew⟩
end
end Go.Proofs.YtodcnkbblippnaaGreatDoor
/- Walks: a whole file is read: all. -/
namespace Go.Proofs.YtodcnkbblippnaaGreatDoor
open Go.RowKit

/-- What a file has. -/
def allN (D : DS) (F : Nat → FC) (name : ByteArray) : List UInt8 × Int := match lookup D.dir name with
  | some f => ((F f).1, 0)
  | none => ([], 8)
theorem RepU.same {w w' : World} {b : Nat} {D : DS} {F : Nat → FC} {Ft : Nat → Prop} (h : RepU w b D F Ft) (hlt : ∀ k, Ft k → k < w.heap.size) (hc : Chg (fun _ => False) w w') : RepU w' b D F Ft := h.frame fun k hk => hc.block k (hlt k hk) (fun h => h)
section
variable {w : World} {b fb : Nat} {D : DS} {F : Nat → FC} {Ft : Nat → Prop} {T : TypeId} {name : ByteArray} {s : Nat}
set_option maxRecDepth 100000 in
set_option maxHeartbeats 1000000 in
theorem allF (hf : FlBlk w fb T (.pointer (some ⟨b, 0, none⟩)) name s) (h : RepU w b D F Ft) :
    Calls Tryz.prog 166 #[.pointer (some ⟨fb, 0, none⟩)] w fun e w' => e = .returned (.tuple #[.string ⟨(allN D F name).1.toArray⟩, .int .i64 (allN D F name).2]) ∧ Chg (fun _ => False) w w' := by
  obtain ⟨zn, hzn⟩ : ∃ zn, (dSize D F name).1 = zn := ⟨_, rfl⟩
  obtain ⟨ze, hze⟩ : ∃ ze, (dSize D F name).2 = ze := ⟨_, rfl⟩
  have SZ : ∀ w', RepU w' b D F Ft → Calls Tryz.prog 81 #[.pointer (some ⟨b, 0, none⟩), .string name] w' fun e w'' => e = .returned (.tuple #[.int .i64 zn, .int .i64 ze]) ∧ w' = w'' := fun w' h => by
    rw [← hzn, ← hze]; exact sizeU h name
  have RD : ∀ w', RepU w' b D F Ft → Calls Tryz.prog 82 #[.pointer (some ⟨b, 0, none⟩), .string name, .int .i64 0, .int .i64 zn] w' fun e w'' => e = .returned (.tuple #[.string ⟨(dRead D F name 0 zn).1.toArray⟩, .int .i64 (dRead D F name 0 zn).2]) ∧ w' = w'' := fun w' h => readU h name 0 zn
  have SZ' := hide SZ
  have RD' := hide RD
  have HA : (ze = 0 ∧ Hid ((dRead D F name 0 zn).1 = (allN D F name).1 ∧ (dRead D F name 0 zn).2 = (allN D F name).2)) ∨ (ze = 8 ∧ Hid ((allN D F name).1 = [] ∧ (allN D F name).2 = 8)) := by
    unfold dSize at hzn hze
    unfold dRead allN Hid
    cases hx : lookup D.dir name with
    | none => rw [hx] at hze; exact .inr ⟨hze.symm, rfl, rfl⟩
    | some f =>
      rw [hx] at hze hzn
      subst hzn
      refine .inl ⟨hze.symm, ?_⟩
      dsimp only
      rw [if_neg (by omega)]
      simp
  obtain ⟨rs, hrs⟩ : ∃ rs, (allN D F name).1 = rs := ⟨_, rfl⟩
  obtain ⟨re, hre⟩ : ∃ re, (allN D F name).2 = re := ⟨_, rfl⟩
  rw [hrs, hre] at HA ⊢
  clear hrs hre
  clear SZ RD hzn hze
  go_enter Tryz.func166, Tryz.ntmps166
  go_wp2
  refine wp_region_each 13 (fun y => { tmps := #[.pointer (some ⟨fb, 0, none⟩), undef, .string ⟨#[]⟩, .int .i64 0, y 12, undef, y 9, y 0, y 1, y 2, y 3, y 4, y 5, y 6, y 7, y 8, y 10, y 11, undef, undef, undef, undef, undef, undef, undef, undef, undef, undef, undef, undef, undef, undef, undef], defers := [] }) (fun _ => undef)
    (fun w' => FlBlk w' fb T (.pointer (some ⟨b, 0, none⟩)) name s ∧ RepU w' b D F Ft ∧ Chg (fun _ => False) w w') (Chg (fun _ => False))
    (fun j x w' => match j with
      | 0 => x = .pointer (some ⟨fb, 0, none⟩)
      | 1 => x = .pointer (some ⟨fb, 0, none⟩)
      | 2 => x = .pointer (some ⟨fb, 0, none⟩)
      | 3 => x = .pointer (some ⟨b, 0, none⟩)
      | 4 => x = .pointer (some ⟨fb, 0, none⟩)
      | 5 => x = .pointer (some ⟨fb, 0, none⟩)
      | 6 => x = .pointer (some ⟨fb, 1, none⟩)
      | 7 => x = .string name
      | 8 => x = .tuple #[.int .i64 zn, .int .i64 ze]
      | 9 => x = .tuple #[.int .i64 zn, .int .i64 ze]
      | 10 => x = .int .i64 zn
      | 11 => x = .int .i64 ze
      | 12 => x = .int .i64 zn
      | _ => True)
    (by kernel_rfl) (by kernel_rfl) rfl ?_ ?_ ?_ ?_
  · exact ⟨hf, h.drew, (Chg.refl _ _).drew⟩
  · intro j x w1 w2 hR hS' hG
    split at hG <;> exact hG
  · simp only [List.take_succ_cons, List.take_zero, EachOb, and_true]
    repeat' (with_reducible apply And.intro)
    all_goals refine ⟨?_, (by intro y wx _ _ h; exact Bool.noConfusion h), fun y x => rfl⟩
    all_goals
      intro y wx hS hd hw K hK
      clear hw
      obtain ⟨hS1, hS2, hS3⟩ := hS
      simp [depsOf, Region.binds, DepsG, List.filter_cons] at hd
      have c0 := hS1.c0
      have c1 := hS1.c1
      have HS : Hid (FlBlk wx fb T (.pointer (some ⟨b, 0, none⟩)) name s ∧ RepU wx b D F Ft ∧ Chg (fun _ => False) w wx) := ⟨hS1, hS2, hS3⟩
      have HK := hide hK
      clear hS1 hS2 hS3 hK hf h
    all_goals dsimp only
    all_goals try go_simp
    all_goals try with_reducible exact HK.out _ _ _ rfl (by simp [Act.put, hd]) (Chg.refl _ _) HS.out
    all_goals try
      have hd3 : y 3 = .pointer (some ⟨b, 0, none⟩) := by with_reducible exact hd.1
      clear hd3
      refine (SZ'.out wx HS.out.2.1).mono ?_
      rintro e w2 ⟨rfl, rfl⟩
      exact HK.out _ _ _ rfl (by simp [Act.put, hd]) (Chg.refl _ _) HS.out
  · intro y wx hS hG
    have h11 : y 11 = .int .i64 ze := hG 11 (by omega)
    have h12 : y 12 = .int .i64 zn := hG 12 (by omega)
    have HS := hide hS
    clear hG hS hf h
    rcases HA with ⟨rfl, HA⟩ | ⟨rfl, HA⟩
    · have RD2 : ∀ w', RepU w' b D F Ft → Calls Tryz.prog 82 #[.pointer (some ⟨b, 0, none⟩), .string name, .int .i64 0, .int .i64 zn] w' fun e w'' => e = .returned (.tuple #[.string ⟨rs.toArray⟩, .int .i64 re]) ∧ w' = w'' := by rw [← HA.out.1, ← HA.out.2]; exact RD'.out
      have HRD := hide RD2
      clear RD2 RD' HA SZ'
      go_wp2
      refine wp_region_each 13 (fun z => { tmps := #[.pointer (some ⟨fb, 0, none⟩), undef, z 12, .int .i64 0, .int .i64 zn, .int .i64 0, y 9, y 0, y 1, y 2, y 3, y 4, y 5, y 6, y 7, y 8, y 10, .int .i64 0, .int .i64 0, .bool false, undef, z 0, z 1, z 2, z 3, z 4, z 5, z 6, z 7, z 8, z 9, z 10, z 11], defers := [] }) (fun j => if j = 12 then .string ⟨#[]⟩ else undef)
        (fun w' => FlBlk w' fb T (.pointer (some ⟨b, 0, none⟩)) name s ∧ RepU w' b D F Ft ∧ Chg (fun _ => False) w w') (Chg (fun _ => False))
        (fun j x w' => match j with
          | 0 => x = .pointer (some ⟨fb, 0, none⟩)
          | 1 => x = .pointer (some ⟨fb, 0, none⟩)
          | 2 => x = .pointer (some ⟨fb, 0, none⟩)
          | 3 => x = .pointer (some ⟨b, 0, none⟩)
          | 4 => x = .pointer (some ⟨fb, 0, none⟩)
          | 5 => x = .pointer (some ⟨fb, 0, none⟩)
          | 6 => x = .pointer (some ⟨fb, 1, none⟩)
          | 7 => x = .string name
          | 8 => x = .int .i64 zn
          | 9 => x = .tuple #[.string ⟨rs.toArray⟩, .int .i64 re]
          | 10 => x = .string ⟨rs.toArray⟩
          | 11 => x = .int .i64 re
          | 12 => x = .string ⟨rs.toArray⟩
          | _ => True)
        (by kernel_rfl) (by kernel_rfl) rfl ?_ ?_ ?_ ?_
      · exact ⟨HS.out.1, HS.out.2.1.drew, HS.out.2.2.drew⟩
      · intro j x w1 w2 hR hS' hG
        split at hG <;> exact hG
      · clear HS h11 h12
        simp only [List.take_succ_cons, List.take_zero, EachOb, and_true]
        repeat' (with_reducible apply And.intro)
        all_goals refine ⟨?_, (by intro y wx _ _ h; exact Bool.noConfusion h), fun y x => rfl⟩
        all_goals
          intro z wx hS hd hw K hK
          clear hw
          obtain ⟨hS1, hS2, hS3⟩ := hS
          simp [depsOf, Region.binds, DepsG, List.filter_cons] at hd
          have c0 := hS1.c0
          have c1 := hS1.c1
          have HS : Hid (FlBlk wx fb T (.pointer (some ⟨b, 0, none⟩)) name s ∧ RepU wx b D F Ft ∧ Chg (fun _ => False) w wx) := ⟨hS1, hS2, hS3⟩
          have HK := hide hK
          clear hS1 hS2 hS3 hK
        all_goals dsimp only
        all_goals try go_simp
        all_goals try with_reducible exact HK.out _ _ _ rfl (by simp [Act.put, hd]) (Chg.refl _ _) HS.out
        all_goals try
          have hd3 : z 3 = .pointer (some ⟨b, 0, none⟩) := by with_reducible exact hd.1
          clear hd3
          refine (HRD.out wx HS.out.2.1).mono ?_
          rintro e w2 ⟨rfl, rfl⟩
          exact HK.out _ _ _ rfl (by simp [Act.put, hd]) (Chg.refl _ _) HS.out
      · intro z wz hZ hG
        have z11 : z 11 = .int .i64 re := hG 11 (by omega)
        have z12 : z 12 = .string ⟨rs.toArray⟩ := hG 12 (by omega)
        have HZ := hide hZ
        clear hG hZ HS
        go_wp2
        go_ret2
        exact ⟨rfl, HZ.out.2.2⟩
    · go_wp2
      go_ret2
      rw [HA.out.1, HA.out.2]
      exact ⟨rfl, HS.out.2.2⟩
end
end Go.Proofs.YtodcnkbblippnaaGreatDoor
