/-
  The statement PassingCardSaid is proved: the law Passing answers true, at every four numbers; there is no condition.
  Part 4 of 34.
-/
import Derived.Test.YtodcnkbblippnaaGreatDoorPart03
import Derived.Test.YtodcnkbblippnaaGreatDoorPart01
import Derived.Test.YtodcnkbblippnaaGreatDoorPart02
import Derived.Deep.RegionHeld3
import Derived.BigQuiet
import Derived.Deep.QuietTactic
/- Walks: Rename, Remove. -/
namespace Go.Proofs.YtodcnkbblippnaaGreatDoor
open Go.RowKit
attribute [local go_sem ↓] Go.wp_at_zero Go.wp_at_succ

/-- A new directory of old files, put together. w1: behind begins; w3: with the new row; w5: behind turned. -/
theorem dir_fin {w w1 w3 w5 : World} {b : Nat} {D : DS} {F : Nat → FC} {vd vs vc vl vc' : Value} {vals : List Value} {VB : Nat → Value} {Ft : Nat → Prop} {n1 : DN} {es : List Ent}
    (hr : RepV w b D F vd vs vc vals VB) (hft : ∀ k, Foot b D vd vs vc vals VB k → Ft k) (hb1 : DBlk w1 b vd vs vc n1) (hc1 : Chg (One b) w w1) (c13 : Chg (fun _ => False) w1 w3)
    (e3 : EntSl w3 vl es) (hvl : ∀ g, vl.ownBlock = some g → w1.heap.size ≤ g) (hes : ∀ f, inEnts f es → D.ids f)
    (hb5 : DBlk w5 b vl vs vc' n1) (hch : w5.ownsRow 0 120 1 vc' (D.changes.length + 1) (vals ++ [vl]))
    (hc5 : Chg (fun k => k = b ∨ vc.ownBlock = some k) w3 w5) (hv : ∀ g, vc'.ownBlock = some g → vc.ownBlock = some g ∨ w3.heap.size ≤ g) :
    After w Ft w5 b { D with dir := es, changes := D.changes ++ [es], n := n1 } F := by
  have s1 := hc1.size
  have s3 := c13.size
  have r1 := hr.turn hb1 hc1
  have r3 : RepV w3 b { D with n := n1 } F vd vs vc vals VB := r1.frame fun k hk => c13.block k (r1.lt hk) (fun h => h)
  have e5 : EntSl w5 vl es := ownsRow_same e3 fun g hg => hc5.block g (ownsRow_lt e3 hg) (by
    obtain ⟨c, hh⟩ := ownsRow_elem e3 hg
    rintro (e | e)
    · exact elem_ne hh r3.blk (by decide) e
    · obtain ⟨c', hh'⟩ := ownsRow_elem r3.chg e
      exact elem_ne hh hh' (by decide) rfl)
  have r5 := r3.turnDir (F' := F) (VB' := VB) (es := es) hb5 hch e5 hc5 (fun k hk => hk) (fun f hf => ⟨rfl, rfl⟩) (fun f hf => .inl (hes f hf))
  have hids : ∀ f, ({ D with dir := es, changes := D.changes ++ [es], n := n1 } : DS).ids f → D.ids f := by
    rintro f (hf | hf | ⟨c, hcm, hf⟩)
    · exact hes f hf
    · exact .inr (.inl hf)
    · rcases List.mem_append.1 hcm with hcm | hcm
      · exact .inr (.inr ⟨c, hcm, hf⟩)
      · simp at hcm; subst hcm; exact hes f hf
  refine After.mk' ?_ r5 ?_
  · have a : Chg Ft w w3 := (hc1.mono (S' := Ft) fun k _ hk => by cases hk; exact hft b .blk).trans c13 (fun x hx => hx.elim)
    refine a.trans hc5 ?_
    rintro x (e | e) _
    · subst e; exact hft x .blk
    · exact hft x (.chg e)
  · intro k hk
    cases hk using Foot.elim with
    | blk => exact .inl (hft b .blk)
    | dir e => right; have := hvl _ e; omega
    | safe e => exact .inl (hft k (.safe e))
    | chg e =>
      rcases hv k e with h | h
      · exact .inl (hft k (.chg h))
      · right; omega
    | che hm e =>
      rcases List.mem_append.1 hm with hm | hm
      · exact .inl (hft k (.che hm e))
      · simp at hm; subst hm; right; have := hvl _ e; omega
    | fil hf => exact .inl (hft _ (.fil (hids _ hf)))
    | byt hf e => exact .inl (hft _ (.byt (hids _ hf) e))
/-- What turned asks, at w3. -/
theorem dir_mid {w w1 w3 : World} {b : Nat} {D : DS} {F : Nat → FC} {vd vs vc : Value} {vals : List Value} {VB : Nat → Value} {n1 : DN} (hr : RepV w b D F vd vs vc vals VB) (hb1 : DBlk w1 b vd vs vc n1) (hc1 : Chg (One b) w w1) (c13 : Chg (fun _ => False) w1 w3) :
    DBlk w3 b vd vs vc n1 ∧ w3.ownsRow 0 120 1 vc D.changes.length vals := by
  have r1 := hr.turn hb1 hc1
  exact ⟨hb1.chg c13 (fun h => h), ownsRow_same r1.chg fun g hg => c13.block g (ownsRow_lt r1.chg hg) (fun h => h)⟩

theorem App.chgNil {w w' : World} {e size n : Nat} {v' : Value} {xs : List Value} (h : App w w' e size (.slice none 0 0) v' n xs) : Chg (fun _ => False) w w' := h.chg (fun k hk => by simp [Value.ownBlock] at hk)
theorem App.fresh {w w' : World} {e size n : Nat} {v' : Value} {xs : List Value} (h : App w w' e size (.slice none 0 0) v' n xs) : ∀ g, v'.ownBlock = some g → w.heap.size ≤ g := by
  intro g hg
  rcases h.at_ with h | h
  · rw [h] at hg; cases hg
  · rw [h] at hg; cases hg; exact Nat.le_refl _
/-- A second append onto a fresh row. -/
theorem App.chg2 {w0 w w' : World} {e size n : Nat} {v v' : Value} {xs : List Value} (h : App w w' e size v v' n xs) (h0 : Chg (fun _ => False) w0 w) (hv : ∀ g, v.ownBlock = some g → w0.heap.size ≤ g) :
    Chg (fun _ => False) w0 w' ∧ ∀ g, v'.ownBlock = some g → w0.heap.size ≤ g := by
  refine ⟨h0.grown h.grown fun k hk hlt => by have := hv k hk; omega, fun g hg => ?_⟩
  rcases h.at_ with h1 | h1
  · rw [h1] at hg; exact hv g hg
  · rw [h1] at hg; cases hg; exact h0.size
/-- Remove. -/
def dRemove (D : DS) (name : ByteArray) : Int × DS :=
  if fidx D.dir name < 0 then (8, D) else
    let es := D.dir.take (fidx D.dir name).toNat ++ D.dir.drop ((fidx D.dir name).toNat + 1)
    ((bg D.n).2.1, if (bg D.n).1 then { D with dir := es, changes := D.changes ++ [es], n := (bg D.n).2.2 } else { D with n := (bg D.n).2.2 })
set_option maxRecDepth 100000 in
set_option maxHeartbeats 1000000 in
theorem remove_any (w : World) (b : Nat) (D : DS) (F : Nat → FC) (Ft : Nat → Prop) (h : Rep w b D F Ft) (name : ByteArray) (hs : D.dir.length < 1099511627776 ∧ D.changes.length < 1099511627776) :
    Calls Tryz.prog 193 #[.pointer (some ⟨b, 0, none⟩), .string name] w fun e w' => e = .returned (.int .i64 (dRemove D name).1) ∧ After w Ft w' b (dRemove D name).2 F := by
  obtain ⟨vd, vs, vc, vals, VB, hr, hft⟩ := h
  obtain ⟨hs1, hs2⟩ := hs
  have HR := hide hr
  have HFT := hide hft
  have c0 := hr.blk.c0
  have hd := hide hr.dir
  have hbk := hide hr.blk
  rcases fidx_cases D.dir name with ⟨h1, h2⟩ | ⟨k, hk, h1, h2⟩
  · have q : Hid (dRemove D name = (8, D)) := by unfold Hid dRemove; rw [if_pos (by omega)]
    have hfi : fidx D.dir name < 0 := by omega
    clear hr h1 h2
    go_enter Tryz.func193, Tryz.ntmps193
    go_wp2_with (go_at_call 77; refine (find_any _ _ _ _ hd.out).mono ?_; rintro e w' ⟨rfl, rfl⟩)
    go_ret
    rw [q.out]
    exact ⟨rfl, After.mk' (Chg.refl _ _) HR.out fun k hk => .inl (hft k hk)⟩
  · have q : Hid (dRemove D name = ((bg D.n).2.1, if (bg D.n).1 then { D with dir := D.dir.take k ++ D.dir.drop (k + 1), changes := D.changes ++ [D.dir.take k ++ D.dir.drop (k + 1)], n := (bg D.n).2.2 } else { D with n := (bg D.n).2.2 })) := by
      unfold Hid dRemove; rw [if_neg (by omega), h1]; rfl
    have H1 := hide h1
    clear hr h1 h2
    by_cases hdo : (bg D.n).1 = true
    · obtain ⟨i0, hi, hz0, hz1, hz2⟩ := info_parts Tryz.infoEntry
      obtain ⟨a, cap, rfl, z1, z2, hcell⟩ := HR.out.dir.form
      obtain ⟨g, rfl, _, _⟩ := hcell k hk
      clear hcell
      unfold maxLen at z2
      have hk1 : k + 1 ≤ D.dir.length := hk
      have r1' : Hid (∀ w1, DBlk w1 b (.slice (some ⟨g, 0, none⟩) D.dir.length cap) vs vc (bg D.n).2.2 → Chg (One b) w w1 → w1.ownsRow 0 125 2 (.slice (some ⟨g, 0, none⟩) k cap) k ((entVals D.dir).take (k * 2)) ∧ EntSl w1 (.slice (some ⟨g, 0, none⟩) D.dir.length cap) D.dir) := fun w1 g1 g2 =>
        ⟨ownsRow_cut (HR.out.turn g1 g2).dir (by omega), (HR.out.turn g1 g2).dir⟩
      have hone : ∀ u ∈ (entVals D.dir).take (k * 2), u.oneCell' = true := fun u hu => entVals_oneCell _ u (List.mem_of_mem_take hu)
      have Hone := hide hone
      clear hone
      have hes : Hid (∀ f, inEnts f (D.dir.take k ++ D.dir.drop (k + 1)) → D.ids f) := by
        rintro f ⟨e, he, rfl⟩
        rcases List.mem_append.1 he with he | he
        · exact .inl ⟨e, List.mem_of_mem_take he, rfl⟩
        · exact .inl ⟨e, List.mem_of_mem_drop he, rfl⟩
      have hlen : (D.dir.take k ++ D.dir.drop (k + 1)).length = k + (D.dir.length - (k + 1)) := by simp; omega
      have EB : Hid (∀ (w2 w3 : World) (v2 v3 : Value), App w2 w3 125 2 v2 v3 (k + (D.dir.length - (k + 1))) ((entVals D.dir).take (k * 2) ++ entVals (D.dir.drop (k + 1))) → EntSl w3 v3 (D.dir.take k ++ D.dir.drop (k + 1))) := by
        intro w2 w3 v2 v3 h
        unfold EntSl
        rw [hlen, entVals_append, ← entVals_take]; exact h.own
      clear hlen
      by_cases hcp : cap = k + 1
      · subst hcp
        have hz : D.dir.length = k + 1 := by omega
        have HS : Hid (∀ w1 w2 : World, EntSl w1 (.slice (some ⟨g, 0, none⟩) D.dir.length (k + 1)) D.dir → Chg (fun _ => False) w1 w2 → Src Tryz.prog 2 92 (.slice (some ⟨g, 0, none⟩) 0 0) 0 [] w2) :=
          fun w1 w2 _ _ => Src.ofSlice w2 Tryz.underlying92 _ 0 _ [] rfl (by simp) (by simp)
        have EB0 : Hid (∀ (w2 w3 : World) (v2 v3 : Value), App w2 w3 125 2 v2 v3 (k + 0) ((entVals D.dir).take (k * 2) ++ []) → EntSl w3 v3 (D.dir.take k ++ D.dir.drop (k + 1))) := by
          intro w2 w3 v2 v3 h
          refine EB.out w2 w3 v2 v3 ?_
          rw [List.drop_of_length_le (by omega), show D.dir.length - (k + 1) = 0 from by omega]; exact h
        clear hz
        go_enter Tryz.func193, Tryz.ntmps193
        go_wp2_with (first
          | (go_at_call 77; refine (find_any _ _ _ _ hd.out).mono ?_; rintro e w' ⟨rfl, rfl⟩; rw [H1.out])
          | (go_at_call 121; refine (begins_any _ _ _ _ _ _ hbk.out).mono ?_; rintro e w1 ⟨rfl, hb1, hc1⟩; have c01 := hb1.c0; have R1 := hide (r1'.out w1 hb1 hc1))
          | (at_builtin; refine wpList_app rfl (.const (.slice none 0 0)) (.tmp 28) 92 92 rfl 125 i0 _ 2 24 Tryz.underlying92 hi hz0 hz1 hz2 rfl (by decide) (.slice none 0 0) 0 [] (by rfl) (World.ownsRow_nil _ 0 125 2) (.slice (some ⟨g, 0, none⟩) k (k + 1)) k ((entVals D.dir).take (k * 2)) (by rfl) (Src.ofOwn Tryz.underlying92 R1.out.1 Hone.out) (by omega) ?_; intro a2 cap2 w2 hA; simp only [Nat.zero_add, List.nil_append] at hA; have hA2 := hide hA.own; have c02 := (hb1.chg hA.chgNil (fun h => h)).c0; have hsr := hide (HS.out w1 w2 R1.out.2 hA.chgNil))
          | (at_builtin; refine wpList_app rfl (.tmp 31) (.tmp 38) 92 92 rfl 125 i0 _ 2 24 Tryz.underlying92 hi hz0 hz1 hz2 rfl (by decide) _ k ((entVals D.dir).take (k * 2)) (by rfl) hA2.out _ _ _ (by rfl) hsr.out (by omega) ?_; intro a3 cap3 w3 hB; have c13 := hide (hB.chg2 hA.chgNil hA.fresh); have hm := hide (dir_mid HR.out hb1 hc1 c13.out.1))
          | (go_at_call 122; refine (turned_any _ b _ vs vc _ _ _ _ _ _ hm.out.1 hm.out.2 hs2).mono ?_; rintro e w5 ⟨rfl, vc', k1, k2, k3, k4⟩))
        go_ret
        rw [q.out, hdo]
        have e3 := EB0.out _ _ _ _ hB
        exact ⟨rfl, dir_fin HR.out HFT.out hb1 hc1 c13.out.1 e3 c13.out.2 hes.out k1 k2 k3 k4⟩
      · have HS : Hid (∀ w1 w2 : World, EntSl w1 (.slice (some ⟨g, 0, none⟩) D.dir.length cap) D.dir → Chg (fun _ => False) w1 w2 → Src Tryz.prog 2 92 (.slice (some ⟨g, (k + 1) * 2, none⟩) (D.dir.length - (k + 1)) (cap - (k + 1))) (D.dir.length - (k + 1)) (entVals (D.dir.drop (k + 1))) w2) := by
          intro w1 w2 h1 h12
          have h2 : EntSl w2 (.slice (some ⟨g, 0, none⟩) D.dir.length cap) D.dir := ownsRow_same h1 fun x hx => h12.block x (ownsRow_lt h1 hx) (fun h => h)
          refine Src.ofSlice w2 Tryz.underlying92 _ _ _ _ (by rw [entVals_length, List.length_drop]) ?_ (entVals_oneCell _)
          intro j u hu
          rw [← entVals_drop, List.getElem?_drop] at hu
          have hadd : (⟨g, (k + 1) * 2, none⟩ : Addr).add j = ⟨g, (k + 1) * 2 + j, none⟩ := by unfold Addr.add; split <;> simp_all
          rw [hadd]
          exact ownsRow_cell h2 rfl hu
        go_enter Tryz.func193, Tryz.ntmps193
        go_wp2_with (first
          | (go_at_call 77; refine (find_any _ _ _ _ hd.out).mono ?_; rintro e w' ⟨rfl, rfl⟩; rw [H1.out])
          | (go_at_call 121; refine (begins_any _ _ _ _ _ _ hbk.out).mono ?_; rintro e w1 ⟨rfl, hb1, hc1⟩; have c01 := hb1.c0; have R1 := hide (r1'.out w1 hb1 hc1))
          | (at_builtin; refine wpList_app rfl (.const (.slice none 0 0)) (.tmp 28) 92 92 rfl 125 i0 _ 2 24 Tryz.underlying92 hi hz0 hz1 hz2 rfl (by decide) (.slice none 0 0) 0 [] (by rfl) (World.ownsRow_nil _ 0 125 2) (.slice (some ⟨g, 0, none⟩) k cap) k ((entVals D.dir).take (k * 2)) (by rfl) (Src.ofOwn Tryz.underlying92 R1.out.1 Hone.out) (by omega) ?_; intro a2 cap2 w2 hA; simp only [Nat.zero_add, List.nil_append] at hA; have hA2 := hide hA.own; have c02 := (hb1.chg hA.chgNil (fun h => h)).c0; have hsr := hide (HS.out w1 w2 R1.out.2 hA.chgNil))
          | (at_builtin; refine wpList_app rfl (.tmp 31) (.tmp 38) 92 92 rfl 125 i0 _ 2 24 Tryz.underlying92 hi hz0 hz1 hz2 rfl (by decide) _ k ((entVals D.dir).take (k * 2)) (by rfl) hA2.out _ _ _ (by rfl) hsr.out (by omega) ?_; intro a3 cap3 w3 hB; have c13 := hide (hB.chg2 hA.chgNil hA.fresh); have hm := hide (dir_mid HR.out hb1 hc1 c13.out.1))
          | (go_at_call 122; refine (turned_any _ b _ vs vc _ _ _ _ _ _ hm.out.1 hm.out.2 hs2).mono ?_; rintro e w5 ⟨rfl, vc', k1, k2, k3, k4⟩))
        go_ret
        rw [q.out, hdo]
        have e3 := EB.out _ _ _ _ hB
        exact ⟨rfl, dir_fin HR.out HFT.out hb1 hc1 c13.out.1 e3 c13.out.2 hes.out k1 k2 k3 k4⟩
    · have hdo' : (bg D.n).1 = false := by simpa using hdo
      clear hdo
      go_enter Tryz.func193, Tryz.ntmps193
      go_wp2_with (first | (go_at_call 77; refine (find_any _ _ _ _ hd.out).mono ?_; rintro e w' ⟨rfl, rfl⟩; rw [H1.out]) | (go_at_call 121; refine (begins_any _ _ _ _ _ _ hbk.out).mono ?_; rintro e w1 ⟨rfl, hb1, hc1⟩))
      go_ret
      rw [q.out, hdo']
      exact ⟨rfl, HR.out.afterN hft hb1 hc1⟩

/-- What Rename keeps of the first k entries. -/
def renL (es : List Ent) (i : Nat) (name : ByteArray) : Nat → List Ent
  | 0 => []
  | k + 1 => renL es i name k ++ (match es[k]? with
    | some e => if k ≠ i ∧ e.1 ≠ name then [e] else []
    | none => [])
theorem renL_mem (es : List Ent) (i : Nat) (name : ByteArray) (k : Nat) : ∀ e ∈ renL es i name k, e ∈ es := by
  induction k with
  | zero => intro e h; cases h
  | succ k ih =>
    intro e h
    simp only [renL] at h
    rcases List.mem_append.1 h with h | h
    · exact ih e h
    · split at h
      · rename_i x hx
        split at h
        · simp at h; subst h; exact List.mem_of_getElem? hx
        · cases h
      · cases h
theorem renL_length (es : List Ent) (i : Nat) (name : ByteArray) (k : Nat) : (renL es i name k).length ≤ k := by
  induction k with
  | zero => simp [renL]
  | succ k ih =>
    simp only [renL, List.length_append]
    split
    · split <;> simp <;> omega
    · simp; omega
theorem renL_keep (es : List Ent) (i : Nat) (name : ByteArray) (k : Nat) (hk : k < es.length) (h : k ≠ i ∧ (es[k]'hk).1 ≠ name) : renL es i name (k + 1) = renL es i name k ++ [es[k]'hk] := by
  simp only [renL, List.getElem?_eq_getElem hk]; rw [if_pos h]
theorem renL_drop (es : List Ent) (i : Nat) (name : ByteArray) (k : Nat) (hk : k < es.length) (h : ¬ (k ≠ i ∧ (es[k]'hk).1 ≠ name)) : renL es i name (k + 1) = renL es i name k := by
  simp only [renL, List.getElem?_eq_getElem hk]; rw [if_neg h, List.append_nil]
/-- Rename. -/
def dRename (D : DS) (old name : ByteArray) : Int × DS := match lookup D.dir old with
  | none => (8, D)
  | some f => if name = ByteArray.empty then (8, D) else
    let es := renL D.dir (fidx D.dir old).toNat name D.dir.length ++ [(name, f)]
    ((bg D.n).2.1, if (bg D.n).1 then { D with dir := es, changes := D.changes ++ [es], n := (bg D.n).2.2 } else { D with n := (bg D.n).2.2 })
set_option maxRecDepth 100000 in
set_option maxHeartbeats 2000000 in
theorem rename_any (w : World) (b : Nat) (D : DS) (F : Nat → FC) (Ft : Nat → Prop) (h : Rep w b D F Ft) (old name : ByteArray) (hs : D.dir.length < 1099511627776 ∧ D.changes.length < 1099511627776) :
    Calls Tryz.prog 242 #[.pointer (some ⟨b, 0, none⟩), .string old, .string name] w fun e w' => e = .returned (.int .i64 (dRename D old name).1) ∧ After w Ft w' b (dRename D old name).2 F := by
  obtain ⟨vd, vs, vc, vals, VB, hr, hft⟩ := h
  obtain ⟨hs1, hs2⟩ := hs
  have HR := hide hr
  have HFT := hide hft
  have c0 := hr.blk.c0
  have hd := hide hr.dir
  have hbk := hide hr.blk
  rcases lookup_cases D.dir old with ⟨h1, h2⟩ | ⟨k, hk, h1, h2, h3⟩
  · have q : Hid (dRename D old name = (8, D)) := by unfold Hid dRename; rw [h2]
    have hfi : fidx D.dir old < 0 := by omega
    clear hr h1 h2
    go_enter Tryz.func242, Tryz.ntmps242
    go_wp2_with (go_at_call 77; refine (find_any _ _ _ _ hd.out).mono ?_; rintro e w' ⟨rfl, rfl⟩)
    go_ret
    rw [q.out]
    exact ⟨rfl, After.mk' (Chg.refl _ _) HR.out fun k hk => .inl (hft k hk)⟩
  · have H1 := hide h1
    by_cases hn : name.toList.isEmpty = true
    · have q : Hid (dRename D old name = (8, D)) := by unfold Hid dRename; rw [h2]; exact if_pos ((isEmpty_iff _).1 hn)
      clear hr h1 h2 h3
      go_enter Tryz.func242, Tryz.ntmps242
      go_wp2_with (go_at_call 77; refine (find_any _ _ _ _ hd.out).mono ?_; rintro e w' ⟨rfl, rfl⟩; rw [H1.out])
      go_ret
      rw [q.out]
      exact ⟨rfl, After.mk' (Chg.refl _ _) HR.out fun k hk => .inl (hft k hk)⟩
    · have hn' : name.toList.isEmpty = false := by simpa using hn
      have q : Hid (dRename D old name = ((bg D.n).2.1, if (bg D.n).1 then { D with dir := renL D.dir k name D.dir.length ++ [(name, (D.dir[k]'hk).2)], changes := D.changes ++ [renL D.dir k name D.dir.length ++ [(name, (D.dir[k]'hk).2)]], n := (bg D.n).2.2 } else { D with n := (bg D.n).2.2 })) := by
        unfold Hid dRename; rw [h2]; dsimp only; rw [if_neg (fun e => hn ((isEmpty_iff _).2 e)), h1]; rfl
      clear hr h1 h2 h3 hn
      by_cases hdo : (bg D.n).1 = true
      · obtain ⟨i0, hi, hz0, hz1, hz2⟩ := info_parts Tryz.infoEntry
        obtain ⟨a, cap, rfl, z1, z2, hcell⟩ := HR.out.dir.form
        obtain ⟨g, rfl, _, _⟩ := hcell k hk
        clear hcell
        unfold maxLen at z2
        have cells : Hid (∀ w1 wr, DBlk w1 b (.slice (some ⟨g, 0, none⟩) D.dir.length cap) vs vc (bg D.n).2.2 → Chg (One b) w w1 → Chg (fun _ => False) w1 wr → wr.cell? ⟨b, 0, none⟩ = some (.slice (some ⟨g, 0, none⟩) D.dir.length cap) ∧
            ∀ j (hj : j < D.dir.length), wr.cell? ⟨g, j * 2, none⟩ = some (.string (D.dir[j]'hj).1) ∧ wr.cell? ⟨g, j * 2 + 1, none⟩ = some (.pointer (some ⟨(D.dir[j]'hj).2, 0, none⟩))) := by
          intro w1 wr g1 g2 g3
          have r1 := HR.out.turn g1 g2
          have r3 : RepV wr b { D with n := (bg D.n).2.2 } F (.slice (some ⟨g, 0, none⟩) D.dir.length cap) vs vc vals VB := r1.frame fun x hx => g3.block x (r1.lt hx) (fun h => h)
          exact ⟨r3.blk.c0, fun j hj => ⟨ownsRow_cell r3.dir rfl (entVals_name _ j hj), ownsRow_cell r3.dir rfl (entVals_ptr _ j hj)⟩⟩
        go_enter Tryz.func242, Tryz.ntmps242
        go_wp2_with (first
          | (go_at_call 77; refine (find_any _ _ _ _ hd.out).mono ?_; rintro e w' ⟨rfl, rfl⟩; rw [H1.out])
          | (go_at_call 121; refine (begins_any _ _ _ _ _ _ hbk.out).mono ?_; rintro e w1 ⟨rfl, hb1, hc1⟩; have c01 := hb1.c0))
        go_loopw [10, 35] (fun v i wr => ∃ j : Nat, j ≤ D.dir.length ∧ i = .int .i64 j ∧ Chg (fun _ => False) w1 wr ∧ EntSl wr v (renL D.dir k name j) ∧ Hid (∀ x, v.ownBlock = some x → w1.heap.size ≤ x)) (fun _ i _ => D.dir.length - (intOf i).toNat)
        case atStart => exact ⟨0, Nat.zero_le _, rfl, Chg.refl _ _, World.ownsRow_nil _ _ _ _, fun x hx => by simp [Value.ownBlock] at hx⟩
        case round =>
          obtain ⟨j, hj, rfl, hcr, hvr, hfr⟩ := hrel
          have Hvr := hide hvr
          clear hvr
          obtain ⟨cb, ce⟩ := cells.out w1 wr hb1 hc1 hcr
          by_cases hlj : j < D.dir.length
          · obtain ⟨cn, cp⟩ := ce j hlj
            clear ce
            by_cases hji : j = k
            · have hji' : ((j : Int) != (k : Int)) = false := by simp [hji]
              have q2 := hide (renL_drop D.dir k name j hlj (fun h => h.1 hji))
              have Hji := hide hji
              clear hji
              go_wp2
              go_roundw
              case rel => exact ⟨j + 1, by omega, by go_num, hcr, by rw [q2.out]; exact Hvr.out, hfr⟩
              case measure => simp [intOf]; omega
            · have hji' : ((j : Int) != (k : Int)) = true := by rw [bne_iff_ne]; omega
              have Hji := hide hji
              clear hji
              by_cases hnm : (D.dir[j]'hlj).1 = name
              · have hnm' := (bytes_eq_iff _ _).2 hnm
                have q2 := hide (renL_drop D.dir k name j hlj (fun h => h.2 hnm))
                clear hnm
                go_wp2
                go_roundw
                case rel => exact ⟨j + 1, by omega, by go_num, hcr, by rw [q2.out]; exact Hvr.out, hfr⟩
                case measure => simp [intOf]; omega
              · have hnm' := (bytes_ne_iff _ _).2 hnm
                have q2 := hide (renL_keep D.dir k name j hlj ⟨Hji.out, hnm⟩)
                clear hnm
                have how := hide (Hvr.out.alloc (.cells #[.string (D.dir[j]'hlj).1, .pointer (some ⟨(D.dir[j]'hlj).2, 0, none⟩)] 125))
                have hsr := hide (Src.ofNew (size := 2) Tryz.underlying92 wr #[.string (D.dir[j]'hlj).1, .pointer (some ⟨(D.dir[j]'hlj).2, 0, none⟩)] 125 wr.heap.size rfl 1 1 rfl (by simp [Value.oneCell']))
                have hrl := renL_length D.dir k name j
                go_wp2_with (at_builtin; refine wpList_app rfl (.tmp 53) (.tmp 61) 92 92 rfl 125 i0 _ 2 24 Tryz.underlying92 hi hz0 hz1 hz2 rfl (by decide) _ _ _ (by rfl) how.out _ 1 _ (by rfl) hsr.out (by omega) ?_; intro a3 cap3 w3 hB; have c13 := hide (hB.chg2 (hcr.alloc _) hfr.out))
                go_roundw
                case rel =>
                  refine ⟨j + 1, by omega, by go_num, c13.out.1, ?_, c13.out.2⟩
                  rw [q2.out]
                  have := hB.own
                  unfold EntSl
                  rw [entVals_append, List.length_append]; exact this
                case measure => simp [intOf]; omega
          · obtain ⟨cn, cp⟩ := ce k hk
            have hjl : j = D.dir.length := by omega
            have hHv := Hvr.out
            rw [hjl] at hHv
            have how := hide (hHv.alloc (.cells #[.string name, .pointer (some ⟨(D.dir[k]'hk).2, 0, none⟩)] 125))
            have hsr := hide (Src.ofNew (size := 2) Tryz.underlying92 wr #[.string name, .pointer (some ⟨(D.dir[k]'hk).2, 0, none⟩)] 125 wr.heap.size rfl 1 1 rfl (by simp [Value.oneCell']))
            have hrl := renL_length D.dir k name D.dir.length
            clear hjl ce Hvr hHv
            go_wp2_with (first
              | (at_builtin; refine wpList_app rfl (.tmp 65) (.tmp 76) 92 92 rfl 125 i0 _ 2 24 Tryz.underlying92 hi hz0 hz1 hz2 rfl (by decide) _ _ _ (by rfl) how.out _ 1 _ (by rfl) hsr.out (by omega) ?_; intro a3 cap3 w3 hB; have c13 := hide (hB.chg2 (hcr.alloc _) hfr.out); have hm := hide (dir_mid HR.out hb1 hc1 c13.out.1))
              | (go_at_call 122; refine (turned_any _ b _ vs vc _ _ _ _ _ _ hm.out.1 hm.out.2 hs2).mono ?_; rintro e w5 ⟨rfl, vc', k1, k2, k3, k4⟩))
            go_ret
            rw [q.out, hdo]
            have e3 : EntSl w3 (.slice a3 ((renL D.dir k name D.dir.length).length + 1) cap3) (renL D.dir k name D.dir.length ++ [(name, (D.dir[k]'hk).2)]) := by
              have := hB.own
              unfold EntSl
              rw [entVals_append, List.length_append]; exact this
            refine ⟨rfl, dir_fin HR.out HFT.out hb1 hc1 c13.out.1 e3 c13.out.2 ?_ k1 k2 k3 k4⟩
            rintro f ⟨e, he, rfl⟩
            rcases List.mem_append.1 he with he | he
            · exact .inl ⟨e, renL_mem _ _ _ _ e he, rfl⟩
            · simp at he; subst he; exact .inl ⟨_, List.getElem_mem hk, rfl⟩
      · have hdo' : (bg D.n).1 = false := by simpa using hdo
        clear hdo
        go_enter Tryz.func242, Tryz.ntmps242
        go_wp2_with (first | (go_at_call 77; refine (find_any _ _ _ _ hd.out).mono ?_; rintro e w' ⟨rfl, rfl⟩; rw [H1.out]) | (go_at_call 121; refine (begins_any _ _ _ _ _ _ hbk.out).mono ?_; rintro e w1 ⟨rfl, hb1, hc1⟩))
        go_ret
        rw [q.out, hdo']
        exact ⟨rfl, HR.out.afterN hft hb1 hc1⟩
end Go.Proofs.YtodcnkbblippnaaGreatDoor
/- Walks: package points: find. -/
namespace Go.Proofs.YtodcnkbblippnaaGreatDoor
open Go.RowKit
attribute [local go_sem ↓] Go.wp_at_zero Go.wp_at_succ

def cmpPt (x y : Int) : Int := if x < y then -1 else if y < x then 1 else 0
set_option maxRecDepth 100000 in
set_option maxHeartbeats 400000 in
theorem compare_any (x y : Int) (w : World) : Calls Tryz.prog 130 #[.int .i64 x, .int .i64 y] w fun e w' => e = .returned (.int .i64 (cmpPt x y)) ∧ w = w' := by
  by_cases h : x < y
  · have q : Hid (cmpPt x y = -1) := by unfold Hid cmpPt; rw [if_pos h]
    go_enter Tryz.func130, Tryz.ntmps130
    go_wp2
    go_ret
    rw [q.out]; exact ⟨rfl, rfl⟩
  · by_cases h2 : y < x
    · have q : Hid (cmpPt x y = 1) := by unfold Hid cmpPt; rw [if_neg h, if_pos h2]
      have h' : y ≤ x := by omega
      go_enter Tryz.func130, Tryz.ntmps130
      go_wp2
      go_ret
      rw [q.out]; exact ⟨rfl, rfl⟩
    · obtain rfl : x = y := by omega
      have q : Hid (cmpPt x x = 0) := by unfold Hid cmpPt; rw [if_neg h, if_neg h2]
      go_enter Tryz.func130, Tryz.ntmps130
      go_wp2
      go_ret
      rw [q.out]; exact ⟨rfl, rfl⟩
set_option maxRecDepth 100000 in
set_option maxHeartbeats 400000 in
theorem cmpPt_any (t v y : Int) (w : World) : Calls Tryz.prog 163 #[.agg #[.int .i64 t, .int .i64 v], .int .i64 y] w fun e w' => e = .returned (.int .i64 (cmpPt t y)) ∧ Chg (fun _ => False) w w' := by
  go_enter Tryz.func163, Tryz.ntmps163
  go_wp2_with (go_at_call 130; refine (compare_any _ _ _).mono ?_; rintro e w' ⟨rfl, rfl⟩)
  go_ret
  exact ⟨rfl, (Chg.refl _ w).alloc _⟩
/-- Is there a point of that time? -/
def hasP (l : List Pt) (t : Int) : Bool := (l[posP l t]?).any fun x => x.1 == t
set_option maxRecDepth 100000 in
set_option maxHeartbeats 2000000 in
theorem search_any (w : World) (lv : Value) (L : List Pt) (t : Int) (hL : PtSl w lv L) (hs : Sorted L) (hl : L.length < 1099511627776) :
    Calls Tryz.prog 162 #[lv, .int .i64 t, .func (.func 163) #[] #[]] w fun e w' => e = .returned (.tuple #[.int .i64 (posP L t), .bool (hasP L t)]) ∧ Chg (fun _ => False) w w' := by
  obtain ⟨a, cap, rfl, h1, h2, h3, _, _⟩ := ownsRow_form hL
  unfold maxLen at h2
  have HL := hide hL
  have HS := hide hs
  have HA := hide h3
  have hple := posP_le L t
  have HC : Hid (∀ W, Chg (fun _ => False) w W → ∀ k (hk : k < L.length), ∃ g, a = some ⟨g, 0, none⟩ ∧ W.cell? ⟨g, k * 2, none⟩ = some (.int .i64 (L[k]'hk).1) ∧ W.cell? ⟨g, k * 2 + 1, none⟩ = some (.int .i64 (L[k]'hk).2)) := by
    intro W hc k hk
    obtain ⟨g, rfl⟩ := HA.out (by omega)
    have hW : PtSl W (.slice (some ⟨g, 0, none⟩) L.length cap) L := ownsRow_same HL.out fun g hg => hc.block g (ownsRow_lt HL.out hg) (fun h => h)
    exact ⟨g, rfl, hW.cells k hk⟩
  clear hL hs h3
  go_enter Tryz.func162, Tryz.ntmps162
  go_wp2
  go_loopw [9, 10] (fun iv jv wq => ∃ i j : Nat, i ≤ j ∧ j ≤ L.length ∧ iv = .int .i64 i ∧ jv = .int .i64 j ∧ Hid (i ≤ posP L t ∧ posP L t ≤ j) ∧ Hid (Chg (fun _ => False) w wq)) (fun iv jv _ => (intOf jv).toNat - (intOf iv).toNat)
  case atStart => exact ⟨0, L.length, Nat.zero_le _, Nat.le_refl _, rfl, rfl, ⟨Nat.zero_le _, hple⟩, Chg.refl _ _⟩
  case round =>
    obtain ⟨i, j, hij, hj, rfl, rfl, hpos, hcq⟩ := hrel
    by_cases hlt : i < j
    · obtain ⟨m, hm⟩ : ∃ m, (i + j) / 2 = m := ⟨_, rfl⟩
      have hmi : i ≤ m := by omega
      have hmj : m < j := by omega
      have hml : m < L.length := by omega
      obtain ⟨g, rfl, c1, c2⟩ := HC.out _ hcq.out m hml
      obtain ⟨⟨tm, vm⟩, hLm⟩ : ∃ x, L[m]'hml = x := ⟨_, rfl⟩
      rw [hLm] at c1 c2
      have HLm := hide hLm
      have i0 : (0 : Int) ≤ (i : Int) := Int.natCast_nonneg _
      have j0 : (0 : Int) ≤ (j : Int) := Int.natCast_nonneg _
      have m0 : (0 : Int) ≤ (m : Int) := Int.natCast_nonneg _
      have m1 : (m : Int) < (L.length : Int) := by omega
      have hsum : (i : Int) + (j : Int) ≤ 9223372036854775807 := by omega
      have hlt' : (i : Int) < (j : Int) := by omega
      clear hLm
      by_cases htm : tm < t
      · have hc : cmpPt tm t < 0 := by unfold cmpPt; rw [if_pos htm]; omega
        have hp : Hid (m + 1 ≤ posP L t) := by
          unfold Hid
          apply Decidable.byContradiction
          intro hn
          have := posP_ge HS.out (show posP L t ≤ m by omega) hml
          rw [HLm.out] at this
          simp only at this; omega
        go_wp2_with (go_at_call 163; refine (cmpPt_any _ _ _ _).mono ?_; rintro e w' ⟨rfl, hc5⟩; have HC5 := hide hc5; clear hc5)
        go_roundw
        case rel => exact ⟨m + 1, j, by omega, hj, by rw [show ((i : Int) + (j : Int)) / 2 + 1 = ((m + 1 : Nat) : Int) from by omega], rfl, ⟨hp.out, hpos.out.2⟩, hcq.out.trans HC5.out fun _ h _ => h⟩
        case measure => simp [intOf]; omega
      · have hc : 0 ≤ cmpPt tm t := by
          unfold cmpPt; rw [if_neg htm]; split <;> omega
        have hp : Hid (posP L t ≤ m) := by
          unfold Hid
          apply Decidable.byContradiction
          intro hn
          have := posP_lt (show m < posP L t by omega) hml
          rw [HLm.out] at this
          simp only at this; omega
        go_wp2_with (go_at_call 163; refine (cmpPt_any _ _ _ _).mono ?_; rintro e w' ⟨rfl, hc5⟩; have HC5 := hide hc5; clear hc5)
        go_roundw
        case rel => exact ⟨i, m, hmi, by omega, rfl, by rw [show ((i : Int) + (j : Int)) / 2 = (m : Int) from by omega], ⟨hpos.out.1, hp.out⟩, hcq.out.trans HC5.out fun _ h _ => h⟩
        case measure => simp [intOf]; omega
    · obtain rfl : i = j := by omega
      have HP : Hid (posP L t = i) := by have := hpos.out; unfold Hid; omega
      by_cases hil : i < L.length
      · obtain ⟨g, rfl, c1, c2⟩ := HC.out _ hcq.out i hil
        obtain ⟨⟨ti, vi⟩, hLi⟩ : ∃ x, L[i]'hil = x := ⟨_, rfl⟩
        rw [hLi] at c1 c2
        have i0 : (0 : Int) ≤ (i : Int) := Int.natCast_nonneg _
        have i1 : (i : Int) < (L.length : Int) := by omega
        have HH : Hid (hasP L t = (cmpPt ti t == 0)) := by
          unfold Hid hasP
          rw [HP.out, List.getElem?_eq_getElem hil, hLi]
          simp only [Option.any_some]
          unfold cmpPt
          by_cases e1 : ti < t
          · rw [if_pos e1]; have : ti ≠ t := by omega
            simp [this]
          · rw [if_neg e1]
            by_cases e2 : t < ti
            · rw [if_pos e2]; have : ti ≠ t := by omega
              simp [this]
            · rw [if_neg e2]; have : ti = t := by omega
              simp [this]
        clear hLi
        go_wp2_with (go_at_call 163; refine (cmpPt_any _ _ _ _).mono ?_; rintro e w' ⟨rfl, hc5⟩; have HC5 := hide hc5; clear hc5)
        go_ret2
        rw [HP.out, HH.out]
        exact ⟨rfl, hcq.out.trans HC5.out fun _ h _ => h⟩
      · have hil' : (L.length : Int) ≤ (i : Int) := by omega
        have HH : Hid (hasP L t = false) := by
          unfold Hid hasP
          rw [HP.out, List.getElem?_eq_none (by omega)]; rfl
        go_wp2
        go_ret2
        rw [HP.out, HH.out]
        exact ⟨rfl, hcq.out⟩
/-- What a question needs of a row: the slice in its one cell. -/
structure RowAt (w : World) (b o : Nat) (L : List Pt) (lv : Value) : Prop where
  cell : w.cell? ⟨b, o, none⟩ = some lv
  row : PtSl w lv L
  sorted : Sorted L
  small : L.length < 1099511627776
set_option maxRecDepth 100000 in
set_option maxHeartbeats 400000 in
theorem find_row (w : World) (b o : Nat) (L : List Pt) (lv : Value) (t : Int) (h : RowAt w b o L lv) :
    Calls Tryz.prog 116 #[.pointer (some ⟨b, o, none⟩), .int .i64 t] w fun e w' => e = .returned (.tuple #[.int .i64 (posP L t), .bool (hasP L t)]) ∧ Chg (fun _ => False) w w' := by
  have hc := h.cell
  obtain ⟨a, cap, rfl, _⟩ := ownsRow_form h.row
  have H := hide h
  clear h
  go_enter Tryz.func116, Tryz.ntmps116
  go_wp2_with (go_at_call 162; refine (search_any _ _ _ _ H.out.row H.out.sorted H.out.small).mono ?_; rintro e w' ⟨rfl, hc5⟩; have HC5 := hide hc5; clear hc5)
  go_ret2
  exact ⟨rfl, HC5.out⟩
end Go.Proofs.YtodcnkbblippnaaGreatDoor
/- Walks: package points: Between. -/
namespace Go.Proofs.YtodcnkbblippnaaGreatDoor
open Go.RowKit
attribute [local go_sem ↓] Go.wp_at_zero Go.wp_at_succ

theorem Tryz.infoPt2 : (Tryz.prog.info? 70).map (fun i => (i.zero, i.size, i.bytes)) = some (some (.agg #[.int .i64 0, .int .i64 0]), 2, 16) := by kernel_rfl
/-- The place of the next time. -/
theorem posP_next {l : List Pt} (hs : Sorted l) (t : Int) : posP l (t + 1) = posP l t + (if hasP l t then 1 else 0) := by
  have hle := posP_le l t
  by_cases h : hasP l t = true
  · rw [if_pos h]
    unfold hasP at h
    by_cases hl : posP l t < l.length
    · rw [List.getElem?_eq_getElem hl] at h
      simp at h
      refine posP_unique hs (by omega) (fun i hi hlt => ?_) fun i hi hge => ?_
      · by_cases e : i = posP l t
        · subst e; omega
        · have := posP_lt (show i < posP l t by omega) hi; omega
      · have := List.pairwise_iff_getElem.1 hs (posP l t) i hl hi (by omega)
        rw [h] at this; omega
    · rw [List.getElem?_eq_none (by omega)] at h; cases h
  · rw [if_neg h, Nat.add_zero]
    refine posP_unique hs hle (fun i hi hlt => ?_) fun i hi hge => ?_
    · have := posP_lt hlt hi; omega
    · have h2 := posP_ge hs hge hi
      by_cases e : (l[i]'hi).1 = t
      · exfalso
        apply h
        by_cases e2 : i = posP l t
        · subst e2; unfold hasP; rw [List.getElem?_eq_getElem hi]; simpa using e
        · have := List.pairwise_iff_getElem.1 hs (posP l t) i (by omega) hi (by omega)
          have := posP_ge hs (Nat.le_refl (posP l t)) (show posP l t < l.length by omega)
          omega
      · omega
theorem posP_mono {l : List Pt} (hs : Sorted l) {a b : Int} (h : a ≤ b) : posP l a ≤ posP l b := by
  apply Decidable.byContradiction
  intro hn
  have hl := posP_le l a
  have h1 := posP_lt (show posP l b < posP l a by omega) (by omega)
  have h2 := posP_ge hs (Nat.le_refl (posP l b)) (by omega)
  omega
/-- Those from a to b. -/
def piece (l : List Pt) (a b : Int) : List Pt := l.filter fun x => decide (a ≤ x.1) && decide (x.1 ≤ b)
theorem piece_eq {l : List Pt} (hs : Sorted l) (a b : Int) : piece l a b = (l.take (posP l b + (if hasP l b then 1 else 0))).drop (posP l a) := by
  rw [← posP_next hs b, ← filter_piece hs a (b + 1)]
  unfold piece
  congr 1
  funext x
  have : decide (x.1 ≤ b) = decide (x.1 < b + 1) := by
    apply Bool.eq_iff_iff.2; simp; omega
  rw [this]
set_option maxRecDepth 100000 in
set_option maxHeartbeats 2000000 in
theorem between_any (w : World) (rb ro : Nat) (L : List Pt) (lv : Value) (a b : Int) (h : RowAt w rb ro L lv) :
    Calls Tryz.prog 80 #[.pointer (some ⟨rb, ro, none⟩), .int .i64 a, .int .i64 b] w fun e w' => ∃ v, e = .returned v ∧ PtSl w' v (piece L a b) ∧ Chg (fun _ => False) w w' ∧ ∀ g, v.ownBlock = some g → w.heap.size ≤ g := by
  have H := hide h
  have hc := h.cell
  obtain ⟨ad, cap, rfl, h1, h2, h3, h4, h5⟩ := ownsRow_form h.row
  unfold maxLen at h2
  have HA := hide h3
  have hbl := World.block_lt_of_cell? w _ hc
  have HC : Hid (∀ W, Chg (fun _ => False) w W → RowAt W rb ro L (.slice ad L.length cap)) := fun W hW =>
    ⟨(World.cell?_of_block (hW.block rb hbl (fun h => h))).trans H.out.cell, ownsRow_same H.out.row fun g hg => hW.block g (ownsRow_lt H.out.row hg) (fun h => h), H.out.sorted, H.out.small⟩
  obtain ⟨i0, hi, hz0, hz1, hz2⟩ := info_parts Tryz.infoPt2
  have hsm := h.small
  have H4 := hide h4
  have H5 := hide h5
  clear h h3 h4 h5
  by_cases hab : b < a
  · have q : Hid (piece L a b = []) := by
      unfold Hid piece
      rw [List.filter_eq_nil_iff]
      intro x _
      simp; omega
    go_enter Tryz.func80, Tryz.ntmps80
    go_wp2
    go_ret
    exact ⟨_, rfl, by rw [q.out]; exact World.ownsRow_nil _ _ _ _, Chg.refl _ _, by simp [Value.ownBlock]⟩
  · have hab' : a ≤ b := by omega
    have hpe := piece_eq H.out.sorted a b
    have hm := posP_mono H.out.sorted hab'
    have hle := posP_le L b
    have hhas : hasP L b = true → posP L b < L.length := fun hh => by
      unfold hasP at hh
      apply Decidable.byContradiction
      intro hn
      rw [List.getElem?_eq_none (by omega)] at hh; cases hh
    obtain ⟨i, hiq⟩ : ∃ i, posP L a = i := ⟨_, rfl⟩
    obtain ⟨j, hjq⟩ : ∃ j, posP L b = j := ⟨_, rfl⟩
    obtain ⟨hs, hsq⟩ : ∃ hs, hasP L b = hs := ⟨_, rfl⟩
    rw [hiq, hjq] at hm
    rw [hjq] at hle
    rw [hsq, hjq] at hhas
    rw [hiq, hjq, hsq] at hpe
    have FA : Hid (∀ W, Chg (fun _ => False) w W → Calls Tryz.prog 116 #[.pointer (some ⟨rb, ro, none⟩), .int .i64 a] W fun e w' => ∃ x, e = .returned (.tuple #[.int .i64 i, .bool x]) ∧ Chg (fun _ => False) W w') := fun W hW =>
      (find_row W rb ro L _ a (HC.out W hW)).mono (by rintro e w' ⟨rfl, h⟩; rw [hiq]; exact ⟨_, rfl, h⟩)
    have FB : Hid (∀ W, Chg (fun _ => False) w W → Calls Tryz.prog 116 #[.pointer (some ⟨rb, ro, none⟩), .int .i64 b] W fun e w' => e = .returned (.tuple #[.int .i64 j, .bool hs]) ∧ Chg (fun _ => False) W w') := fun W hW =>
      (find_row W rb ro L _ b (HC.out W hW)).mono (by rintro e w' ⟨rfl, h⟩; rw [hjq, hsq]; exact ⟨rfl, h⟩)
    have HPE := hide hpe
    -- the piece, as it lies
    have SRC : Hid (∀ W (n : Nat), Chg (fun _ => False) w W → i ≤ n → n ≤ L.length → n = j + (if hs then 1 else 0) → ∀ v, (v = .slice (Option.map (fun x => x.add (i * 2)) ad) (n - i) (cap - i) ∨ (n = i ∧ ∃ x c, v = .slice x 0 c)) → Src Tryz.prog 2 66 v (n - i) (ptVals (piece L a b)) W ∧ (piece L a b).length = n - i) := by
      intro W n hW hin hnl hn v hv
      have hlen : (piece L a b).length = n - i := by rw [HPE.out, ← hn, List.length_drop, List.length_take]; omega
      have hrow := (HC.out W hW).row
      refine ⟨?_, hlen⟩
      have hat : ∀ g, ad = some ⟨g, 0, none⟩ → ∀ (k : Nat) u, (ptVals (piece L a b))[k]? = some u → W.cell? ⟨g, i * 2 + k, none⟩ = some u := by
        intro g hg k u hk
        subst hg
        refine ownsRow_cell hrow (g := g) rfl ?_
        rw [HPE.out, ← hn, ← ptVals_drop, ← ptVals_take, List.getElem?_drop, List.getElem?_take] at hk
        split at hk
        · exact hk
        · cases hk
      have hnil : n - i = 0 → ∀ x c, Src Tryz.prog 2 66 (.slice x 0 c) 0 (ptVals (piece L a b)) W := by
        intro h0 x c
        have : piece L a b = [] := List.eq_nil_of_length_eq_zero (by omega)
        rw [this]
        cases x with
        | none => exact Src.ofNil W Tryz.underlying66 c
        | some y => exact Src.ofSlice W Tryz.underlying66 _ 0 c [] rfl (by simp) (by simp)
      rcases hv with rfl | ⟨hni, x, c, rfl⟩
      · cases ad with
        | none =>
          have := (H4.out rfl).1
          have h0 : n - i = 0 := by omega
          rw [h0]; exact hnil h0 _ _
        | some x =>
          obtain ⟨g, rfl⟩ := H5.out x rfl
          refine Src.ofSlice W Tryz.underlying66 _ _ _ _ (by rw [ptVals_length, hlen]) (fun k u hk => ?_) (ptVals_oneCell _)
          have hx : Addr.add (Addr.add ⟨g, 0, none⟩ (i * 2)) k = ⟨g, i * 2 + k, none⟩ := by
            unfold Addr.add
            by_cases h1 : i * 2 = 0 <;> by_cases h2 : k = 0 <;> simp [h1, h2]
          rw [hx]; exact hat g rfl k u hk
      · have h0 : n - i = 0 := by omega
        rw [h0]
        exact hnil h0 x c
    have HLEN : Hid ((piece L a b).length = j + (if hs then 1 else 0) - i) := by
      unfold Hid
      rw [hpe, List.length_drop, List.length_take]
      cases hs with
      | true => have := hhas rfl; simp; omega
      | false => simp; omega
    clear hpe hiq hjq hsq
    have j0 : (0 : Int) ≤ (j : Int) := Int.natCast_nonneg _
    have iz : (0 : Int) ≤ (i : Int) := Int.natCast_nonneg _
    have hij : (i : Int) ≤ (j : Int) := by omega
    have hjc : (j : Int) ≤ (cap : Int) := by omega
    have hic : (i : Int) ≤ (cap : Int) := by omega
    have hbyt : (0 + (j + 1 - i)) * 16 ≤ 140737488355328 := by omega
    have FIN : Hid (∀ (W w3 : World) (n : Nat) (b3 : Option Addr) (cap3 : Nat), Chg (fun _ => False) w W → (piece L a b).length = n → App W w3 70 2 (.slice none 0 0) (.slice b3 (0 + n) cap3) (0 + n) ([] ++ ptVals (piece L a b)) → PtSl w3 (.slice b3 n cap3) (piece L a b) ∧ Chg (fun _ => False) w w3 ∧ ∀ g, (Value.slice b3 n cap3).ownBlock = some g → w.heap.size ≤ g) := by
      intro W w3 n b3 cap3 hW hn hA
      refine ⟨?_, hW.trans hA.chgNil fun _ h _ => h, fun g hg => ?_⟩
      · have := hA.own
        unfold PtSl
        rw [hn]; simpa using this
      · have := hA.fresh g (by simpa using hg)
        have := hW.size
        omega
    cases hs with
    | false =>
      by_cases hci : cap = i
      · obtain rfl : i = cap := hci.symm
        obtain rfl : j = i := by omega
        have SR0 : Hid (∀ W x c, Chg (fun _ => False) w W → Src Tryz.prog 2 66 (.slice x 0 c) 0 (ptVals (piece L a b)) W ∧ (piece L a b).length = 0) := fun W x c hW => by
          have := SRC.out W j hW (Nat.le_refl _) (by omega) (by simp) (.slice x 0 c) (.inr ⟨rfl, x, c, rfl⟩)
          rwa [Nat.sub_self] at this
        clear SRC HPE HLEN
        go_enter Tryz.func80, Tryz.ntmps80
        go_wp2_with (fail)
        refine (FA.out _ (Chg.refl _ _)).mono ?_
        rintro e w1 ⟨x, rfl, k1⟩
        have K1 := hide k1
        clear k1
        go_wp2_with (fail)
        refine (FB.out _ K1.out).mono ?_
        rintro e w2 ⟨rfl, k2⟩
        have K2 : Hid (Chg (fun _ => False) w w2) := K1.out.trans k2 fun _ h _ => h
        have c2 := (HC.out _ K2.out).cell
        clear k2
        go_wp2_with (at_builtin; refine wpList_app rfl (.const (.slice none 0 0)) (.tmp 35) 66 66 rfl 70 i0 _ 2 16 Tryz.underlying66 hi hz0 hz1 hz2 rfl (by decide) (.slice none 0 0) 0 [] (by rfl) (World.ownsRow_nil _ 0 70 2) _ 0 _ (by rfl) (SR0.out _ _ _ K2.out).1 (by omega) ?_; intro b3 cap3 w3 hA; have hA3 := hide (FIN.out _ w3 _ b3 cap3 K2.out (SR0.out _ none 0 K2.out).2 hA); clear hA)
        go_ret
        exact ⟨_, rfl, hA3.out.1, hA3.out.2.1, hA3.out.2.2⟩
      · skip
        go_enter Tryz.func80, Tryz.ntmps80
        go_wp2_with (fail)
        refine (FA.out _ (Chg.refl _ _)).mono ?_
        rintro e w1 ⟨x, rfl, k1⟩
        have K1 := hide k1
        clear k1
        go_wp2_with (fail)
        refine (FB.out _ K1.out).mono ?_
        rintro e w2 ⟨rfl, k2⟩
        have K2 : Hid (Chg (fun _ => False) w w2) := K1.out.trans k2 fun _ h _ => h
        have c2 := (HC.out _ K2.out).cell
        clear k2
        go_wp2_with (at_builtin; refine wpList_app rfl (.const (.slice none 0 0)) (.tmp 35) 66 66 rfl 70 i0 _ 2 16 Tryz.underlying66 hi hz0 hz1 hz2 rfl (by decide) (.slice none 0 0) 0 [] (by rfl) (World.ownsRow_nil _ 0 70 2) _ (j - i) _ (by rfl) (SRC.out _ j K2.out (by omega) (by omega) (by simp) _ (.inl rfl)).1 (by omega) ?_; intro b3 cap3 w3 hA; have hA3 := hide (FIN.out _ w3 _ b3 cap3 K2.out (SRC.out _ j K2.out (by omega) (by omega) (by simp) _ (.inl rfl)).2 hA); clear hA)
        go_ret
        exact ⟨_, rfl, hA3.out.1, hA3.out.2.1, hA3.out.2.2⟩
    | true =>
      have hjl : j < L.length := hhas rfl
      have hjc' : (j : Int) + 1 ≤ (cap : Int) := by omega
      have hij' : (i : Int) ≤ (j : Int) + 1 := by omega
      have hjt : ((j : Int) + 1).toNat = j + 1 := by omega
      by_cases hci : cap = i
      · exfalso; omega
      · skip
        go_enter Tryz.func80, Tryz.ntmps80
        go_wp2_with (fail)
        refine (FA.out _ (Chg.refl _ _)).mono ?_
        rintro e w1 ⟨x, rfl, k1⟩
        have K1 := hide k1
        clear k1
        go_wp2_with (fail)
        refine (FB.out _ K1.out).mono ?_
        rintro e w2 ⟨rfl, k2⟩
        have K2 : Hid (Chg (fun _ => False) w w2) := K1.out.trans k2 fun _ h _ => h
        have c2 := (HC.out _ K2.out).cell
        clear k2
        go_wp2_with (at_builtin; refine wpList_app rfl (.const (.slice none 0 0)) (.tmp 35) 66 66 rfl 70 i0 _ 2 16 Tryz.underlying66 hi hz0 hz1 hz2 rfl (by decide) (.slice none 0 0) 0 [] (by rfl) (World.ownsRow_nil _ 0 70 2) _ ((j + 1) - i) _ (by rfl) (SRC.out _ (j + 1) K2.out (by omega) (by omega) (by simp) _ (.inl rfl)).1 (by omega) ?_; intro b3 cap3 w3 hA; have hA3 := hide (FIN.out _ w3 _ b3 cap3 K2.out (SRC.out _ (j + 1) K2.out (by omega) (by omega) (by simp) _ (.inl rfl)).2 hA); clear hA)
        go_ret
        exact ⟨_, rfl, hA3.out.1, hA3.out.2.1, hA3.out.2.2⟩
end Go.Proofs.YtodcnkbblippnaaGreatDoor
