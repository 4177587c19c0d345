/- Walks: Rename, Remove. -/
import Derived.Test.YtodcnkbblippnaaDe
namespace Go.Proofs.Ytodcnkbblippnaa
open Go.RowKit
attribute [local go_sem ↓] Go.wp_at_zero Go.wp_at_succ

/-- A new directory of old files, put together. w1: behind begins; w3: with the new row; w5: behind turned. -/
theorem dir_fin {w w1 w3 w5 : World} {b : Nat} {D : DS} {F : Nat → FC} {vd vs vc vl vc' : Value} {vals : List Value} {VB : Nat → Value} {Ft : Nat → Prop} {n1 : DN} {es : List Ent}
    (hr : RepV w b D F vd vs vc vals VB) (hft : ∀ k, Foot b D vd vs vc vals VB k → Ft k) (hb1 : DBlk w1 b vd vs vc n1) (hc1 : Chg (One b) w w1) (c13 : Chg (fun _ => False) w1 w3)
    (e3 : EntSl w3 vl es) (hvl : ∀ g, vl.ownBlock = some g → w1.heap.size ≤ g) (hes : ∀ f, inEnts f es → D.ids f)
    (hb5 : DBlk w5 b vl vs vc' n1) (hch : w5.ownsRow 0 47 1 vc' (D.changes.length + 1) (vals ++ [vl]))
    (hc5 : Chg (fun k => k = b ∨ vc.ownBlock = some k) w3 w5) (hv : ∀ g, vc'.ownBlock = some g → vc.ownBlock = some g ∨ w3.heap.size ≤ g) :
    After w Ft w5 b { D with dir := es, changes := D.changes ++ [es], n := n1 } F := by
  have s1 := hc1.size
  have s3 := c13.size
  have r1 := hr.turn hb1 hc1
  have r3 : RepV w3 b { D with n := n1 } F vd vs vc vals VB := r1.frame fun k hk => c13.block k (r1.lt hk) (fun h => h)
  have e5 : EntSl w5 vl es := ownsRow_same e3 fun g hg => hc5.block g (ownsRow_lt e3 hg) (by
    obtain ⟨c, hh⟩ := ownsRow_elem e3 hg
    rintro (e | e)
    · exact elem_ne hh r3.blk (by decide) e
    · obtain ⟨c', hh'⟩ := ownsRow_elem r3.chg e
      exact elem_ne hh hh' (by decide) rfl)
  have r5 := r3.turnDir (F' := F) (VB' := VB) (es := es) hb5 hch e5 hc5 (fun k hk => hk) (fun f hf => ⟨rfl, rfl⟩) (fun f hf => .inl (hes f hf))
  have hids : ∀ f, ({ D with dir := es, changes := D.changes ++ [es], n := n1 } : DS).ids f → D.ids f := by
    rintro f (hf | hf | ⟨c, hcm, hf⟩)
    · exact hes f hf
    · exact .inr (.inl hf)
    · rcases List.mem_append.1 hcm with hcm | hcm
      · exact .inr (.inr ⟨c, hcm, hf⟩)
      · simp at hcm; subst hcm; exact hes f hf
  refine After.mk' ?_ r5 ?_
  · have a : Chg Ft w w3 := (hc1.mono (S' := Ft) fun k _ hk => by cases hk; exact hft b .blk).trans c13 (fun x hx => hx.elim)
    refine a.trans hc5 ?_
    rintro x (e | e) _
    · subst e; exact hft x .blk
    · exact hft x (.chg e)
  · intro k hk
    cases hk using Foot.elim with
    | blk => exact .inl (hft b .blk)
    | dir e => right; have := hvl _ e; omega
    | safe e => exact .inl (hft k (.safe e))
    | chg e =>
      rcases hv k e with h | h
      · exact .inl (hft k (.chg h))
      · right; omega
    | che hm e =>
      rcases List.mem_append.1 hm with hm | hm
      · exact .inl (hft k (.che hm e))
      · simp at hm; subst hm; right; have := hvl _ e; omega
    | fil hf => exact .inl (hft _ (.fil (hids _ hf)))
    | byt hf e => exact .inl (hft _ (.byt (hids _ hf) e))
/-- What turned asks, at w3. -/
theorem dir_mid {w w1 w3 : World} {b : Nat} {D : DS} {F : Nat → FC} {vd vs vc : Value} {vals : List Value} {VB : Nat → Value} {n1 : DN} (hr : RepV w b D F vd vs vc vals VB) (hb1 : DBlk w1 b vd vs vc n1) (hc1 : Chg (One b) w w1) (c13 : Chg (fun _ => False) w1 w3) :
    DBlk w3 b vd vs vc n1 ∧ w3.ownsRow 0 47 1 vc D.changes.length vals := by
  have r1 := hr.turn hb1 hc1
  exact ⟨hb1.chg c13 (fun h => h), ownsRow_same r1.chg fun g hg => c13.block g (ownsRow_lt r1.chg hg) (fun h => h)⟩

theorem App.chgNil {w w' : World} {e size n : Nat} {v' : Value} {xs : List Value} (h : App w w' e size (.slice none 0 0) v' n xs) : Chg (fun _ => False) w w' := h.chg (fun k hk => by simp [Value.ownBlock] at hk)
theorem App.fresh {w w' : World} {e size n : Nat} {v' : Value} {xs : List Value} (h : App w w' e size (.slice none 0 0) v' n xs) : ∀ g, v'.ownBlock = some g → w.heap.size ≤ g := by
  intro g hg
  rcases h.at_ with h | h
  · rw [h] at hg; cases hg
  · rw [h] at hg; cases hg; exact Nat.le_refl _
/-- A second append onto a fresh row. -/
theorem App.chg2 {w0 w w' : World} {e size n : Nat} {v v' : Value} {xs : List Value} (h : App w w' e size v v' n xs) (h0 : Chg (fun _ => False) w0 w) (hv : ∀ g, v.ownBlock = some g → w0.heap.size ≤ g) :
    Chg (fun _ => False) w0 w' ∧ ∀ g, v'.ownBlock = some g → w0.heap.size ≤ g := by
  refine ⟨h0.grown h.grown fun k hk hlt => by have := hv k hk; omega, fun g hg => ?_⟩
  rcases h.at_ with h1 | h1
  · rw [h1] at hg; exact hv g hg
  · rw [h1] at hg; cases hg; exact h0.size
/-- Remove. -/
def dRemove (D : DS) (name : ByteArray) : Int × DS :=
  if fidx D.dir name < 0 then (8, D) else
    let es := D.dir.take (fidx D.dir name).toNat ++ D.dir.drop ((fidx D.dir name).toNat + 1)
    ((bg D.n).2.1, if (bg D.n).1 then { D with dir := es, changes := D.changes ++ [es], n := (bg D.n).2.2 } else { D with n := (bg D.n).2.2 })
set_option maxRecDepth 100000 in
set_option maxHeartbeats 1000000 in
theorem remove_any (w : World) (b : Nat) (D : DS) (F : Nat → FC) (Ft : Nat → Prop) (h : Rep w b D F Ft) (name : ByteArray) (hs : D.dir.length < 1099511627776 ∧ D.changes.length < 1099511627776) :
    Calls Try.prog 10 #[.pointer (some ⟨b, 0, none⟩), .string name] w fun e w' => e = .returned (.int .i64 (dRemove D name).1) ∧ After w Ft w' b (dRemove D name).2 F := by
  obtain ⟨vd, vs, vc, vals, VB, hr, hft⟩ := h
  obtain ⟨hs1, hs2⟩ := hs
  have HR := hide hr
  have HFT := hide hft
  have c0 := hr.blk.c0
  have hd := hide hr.dir
  have hbk := hide hr.blk
  rcases fidx_cases D.dir name with ⟨h1, h2⟩ | ⟨k, hk, h1, h2⟩
  · have q : Hid (dRemove D name = (8, D)) := by unfold Hid dRemove; rw [if_pos (by omega)]
    have hfi : fidx D.dir name < 0 := by omega
    clear hr h1 h2
    go_enter Try.func10, Try.ntmps10
    go_wp2_with (go_at_call 22; refine (find_any _ _ _ _ hd.out).mono ?_; rintro e w' ⟨rfl, rfl⟩)
    go_ret
    rw [q.out]
    exact ⟨rfl, After.mk' (Chg.refl _ _) HR.out fun k hk => .inl (hft k hk)⟩
  · have q : Hid (dRemove D name = ((bg D.n).2.1, if (bg D.n).1 then { D with dir := D.dir.take k ++ D.dir.drop (k + 1), changes := D.changes ++ [D.dir.take k ++ D.dir.drop (k + 1)], n := (bg D.n).2.2 } else { D with n := (bg D.n).2.2 })) := by
      unfold Hid dRemove; rw [if_neg (by omega), h1]; rfl
    have H1 := hide h1
    clear hr h1 h2
    by_cases hdo : (bg D.n).1 = true
    · obtain ⟨i0, hi, hz0, hz1, hz2⟩ := info_parts Try.infoEntry
      obtain ⟨a, cap, rfl, z1, z2, hcell⟩ := HR.out.dir.form
      obtain ⟨g, rfl, _, _⟩ := hcell k hk
      clear hcell
      unfold maxLen at z2
      have hk1 : k + 1 ≤ D.dir.length := hk
      have r1' : Hid (∀ w1, DBlk w1 b (.slice (some ⟨g, 0, none⟩) D.dir.length cap) vs vc (bg D.n).2.2 → Chg (One b) w w1 → w1.ownsRow 0 50 2 (.slice (some ⟨g, 0, none⟩) k cap) k ((entVals D.dir).take (k * 2)) ∧ EntSl w1 (.slice (some ⟨g, 0, none⟩) D.dir.length cap) D.dir) := fun w1 g1 g2 =>
        ⟨ownsRow_cut (HR.out.turn g1 g2).dir (by omega), (HR.out.turn g1 g2).dir⟩
      have hone : ∀ u ∈ (entVals D.dir).take (k * 2), u.oneCell' = true := fun u hu => entVals_oneCell _ u (List.mem_of_mem_take hu)
      have Hone := hide hone
      clear hone
      have hes : Hid (∀ f, inEnts f (D.dir.take k ++ D.dir.drop (k + 1)) → D.ids f) := by
        rintro f ⟨e, he, rfl⟩
        rcases List.mem_append.1 he with he | he
        · exact .inl ⟨e, List.mem_of_mem_take he, rfl⟩
        · exact .inl ⟨e, List.mem_of_mem_drop he, rfl⟩
      have hlen : (D.dir.take k ++ D.dir.drop (k + 1)).length = k + (D.dir.length - (k + 1)) := by simp; omega
      have EB : Hid (∀ (w2 w3 : World) (v2 v3 : Value), App w2 w3 50 2 v2 v3 (k + (D.dir.length - (k + 1))) ((entVals D.dir).take (k * 2) ++ entVals (D.dir.drop (k + 1))) → EntSl w3 v3 (D.dir.take k ++ D.dir.drop (k + 1))) := by
        intro w2 w3 v2 v3 h
        unfold EntSl
        rw [hlen, entVals_append, ← entVals_take]; exact h.own
      clear hlen
      by_cases hcp : cap = k + 1
      · subst hcp
        have hz : D.dir.length = k + 1 := by omega
        have HS : Hid (∀ w1 w2 : World, EntSl w1 (.slice (some ⟨g, 0, none⟩) D.dir.length (k + 1)) D.dir → Chg (fun _ => False) w1 w2 → Src Try.prog 2 42 (.slice (some ⟨g, 0, none⟩) 0 0) 0 [] w2) :=
          fun w1 w2 _ _ => Src.ofSlice w2 Try.underlying42 _ 0 _ [] rfl (by simp) (by simp)
        have EB0 : Hid (∀ (w2 w3 : World) (v2 v3 : Value), App w2 w3 50 2 v2 v3 (k + 0) ((entVals D.dir).take (k * 2) ++ []) → EntSl w3 v3 (D.dir.take k ++ D.dir.drop (k + 1))) := by
          intro w2 w3 v2 v3 h
          refine EB.out w2 w3 v2 v3 ?_
          rw [List.drop_of_length_le (by omega), show D.dir.length - (k + 1) = 0 from by omega]; exact h
        clear hz
        go_enter Try.func10, Try.ntmps10
        go_wp2_with (first
          | (go_at_call 22; refine (find_any _ _ _ _ hd.out).mono ?_; rintro e w' ⟨rfl, rfl⟩; rw [H1.out])
          | (go_at_call 23; refine (begins_any _ _ _ _ _ _ hbk.out).mono ?_; rintro e w1 ⟨rfl, hb1, hc1⟩; have c01 := hb1.c0; have R1 := hide (r1'.out w1 hb1 hc1))
          | (at_builtin; refine wpList_app rfl (.const (.slice none 0 0)) (.tmp 28) 42 42 rfl 50 i0 _ 2 24 Try.underlying42 hi hz0 hz1 hz2 rfl (by decide) (.slice none 0 0) 0 [] (by rfl) (World.ownsRow_nil _ 0 50 2) (.slice (some ⟨g, 0, none⟩) k (k + 1)) k ((entVals D.dir).take (k * 2)) (by rfl) (Src.ofOwn Try.underlying42 R1.out.1 Hone.out) (by omega) ?_; intro a2 cap2 w2 hA; simp only [Nat.zero_add, List.nil_append] at hA; have hA2 := hide hA.own; have c02 := (hb1.chg hA.chgNil (fun h => h)).c0; have hsr := hide (HS.out w1 w2 R1.out.2 hA.chgNil))
          | (at_builtin; refine wpList_app rfl (.tmp 31) (.tmp 38) 42 42 rfl 50 i0 _ 2 24 Try.underlying42 hi hz0 hz1 hz2 rfl (by decide) _ k ((entVals D.dir).take (k * 2)) (by rfl) hA2.out _ _ _ (by rfl) hsr.out (by omega) ?_; intro a3 cap3 w3 hB; have c13 := hide (hB.chg2 hA.chgNil hA.fresh); have hm := hide (dir_mid HR.out hb1 hc1 c13.out.1))
          | (go_at_call 24; refine (turned_any _ b _ vs vc _ _ _ _ _ _ hm.out.1 hm.out.2 hs2).mono ?_; rintro e w5 ⟨rfl, vc', k1, k2, k3, k4⟩))
        go_ret
        rw [q.out, hdo]
        have e3 := EB0.out _ _ _ _ hB
        exact ⟨rfl, dir_fin HR.out HFT.out hb1 hc1 c13.out.1 e3 c13.out.2 hes.out k1 k2 k3 k4⟩
      · have HS : Hid (∀ w1 w2 : World, EntSl w1 (.slice (some ⟨g, 0, none⟩) D.dir.length cap) D.dir → Chg (fun _ => False) w1 w2 → Src Try.prog 2 42 (.slice (some ⟨g, (k + 1) * 2, none⟩) (D.dir.length - (k + 1)) (cap - (k + 1))) (D.dir.length - (k + 1)) (entVals (D.dir.drop (k + 1))) w2) := by
          intro w1 w2 h1 h12
          have h2 : EntSl w2 (.slice (some ⟨g, 0, none⟩) D.dir.length cap) D.dir := ownsRow_same h1 fun x hx => h12.block x (ownsRow_lt h1 hx) (fun h => h)
          refine Src.ofSlice w2 Try.underlying42 _ _ _ _ (by rw [entVals_length, List.length_drop]) ?_ (entVals_oneCell _)
          intro j u hu
          rw [← entVals_drop, List.getElem?_drop] at hu
          have hadd : (⟨g, (k + 1) * 2, none⟩ : Addr).add j = ⟨g, (k + 1) * 2 + j, none⟩ := by unfold Addr.add; split <;> simp_all
          rw [hadd]
          exact ownsRow_cell h2 rfl hu
        go_enter Try.func10, Try.ntmps10
        go_wp2_with (first
          | (go_at_call 22; refine (find_any _ _ _ _ hd.out).mono ?_; rintro e w' ⟨rfl, rfl⟩; rw [H1.out])
          | (go_at_call 23; refine (begins_any _ _ _ _ _ _ hbk.out).mono ?_; rintro e w1 ⟨rfl, hb1, hc1⟩; have c01 := hb1.c0; have R1 := hide (r1'.out w1 hb1 hc1))
          | (at_builtin; refine wpList_app rfl (.const (.slice none 0 0)) (.tmp 28) 42 42 rfl 50 i0 _ 2 24 Try.underlying42 hi hz0 hz1 hz2 rfl (by decide) (.slice none 0 0) 0 [] (by rfl) (World.ownsRow_nil _ 0 50 2) (.slice (some ⟨g, 0, none⟩) k cap) k ((entVals D.dir).take (k * 2)) (by rfl) (Src.ofOwn Try.underlying42 R1.out.1 Hone.out) (by omega) ?_; intro a2 cap2 w2 hA; simp only [Nat.zero_add, List.nil_append] at hA; have hA2 := hide hA.own; have c02 := (hb1.chg hA.chgNil (fun h => h)).c0; have hsr := hide (HS.out w1 w2 R1.out.2 hA.chgNil))
          | (at_builtin; refine wpList_app rfl (.tmp 31) (.tmp 38) 42 42 rfl 50 i0 _ 2 24 Try.underlying42 hi hz0 hz1 hz2 rfl (by decide) _ k ((entVals D.dir).take (k * 2)) (by rfl) hA2.out _ _ _ (by rfl) hsr.out (by omega) ?_; intro a3 cap3 w3 hB; have c13 := hide (hB.chg2 hA.chgNil hA.fresh); have hm := hide (dir_mid HR.out hb1 hc1 c13.out.1))
          | (go_at_call 24; refine (turned_any _ b _ vs vc _ _ _ _ _ _ hm.out.1 hm.out.2 hs2).mono ?_; rintro e w5 ⟨rfl, vc', k1, k2, k3, k4⟩))
        go_ret
        rw [q.out, hdo]
        have e3 := EB.out _ _ _ _ hB
        exact ⟨rfl, dir_fin HR.out HFT.out hb1 hc1 c13.out.1 e3 c13.out.2 hes.out k1 k2 k3 k4⟩
    · have hdo' : (bg D.n).1 = false := by simpa using hdo
      clear hdo
      go_enter Try.func10, Try.ntmps10
      go_wp2_with (first | (go_at_call 22; refine (find_any _ _ _ _ hd.out).mono ?_; rintro e w' ⟨rfl, rfl⟩; rw [H1.out]) | (go_at_call 23; refine (begins_any _ _ _ _ _ _ hbk.out).mono ?_; rintro e w1 ⟨rfl, hb1, hc1⟩))
      go_ret
      rw [q.out, hdo']
      exact ⟨rfl, HR.out.afterN hft hb1 hc1⟩

/-- What Rename keeps of the first k entries. -/
def renL (es : List Ent) (i : Nat) (name : ByteArray) : Nat → List Ent
  | 0 => []
  | k + 1 => renL es i name k ++ (match es[k]? with
    | some e => if k ≠ i ∧ e.1 ≠ name then [e] else []
    | none => [])
theorem renL_mem (es : List Ent) (i : Nat) (name : ByteArray) (k : Nat) : ∀ e ∈ renL es i name k, e ∈ es := by
  induction k with
  | zero => intro e h; cases h
  | succ k ih =>
    intro e h
    simp only [renL] at h
    rcases List.mem_append.1 h with h | h
    · exact ih e h
    · split at h
      · rename_i x hx
        split at h
        · simp at h; subst h; exact List.mem_of_getElem? hx
        · cases h
      · cases h
theorem renL_length (es : List Ent) (i : Nat) (name : ByteArray) (k : Nat) : (renL es i name k).length ≤ k := by
  induction k with
  | zero => simp [renL]
  | succ k ih =>
    simp only [renL, List.length_append]
    split
    · split <;> simp <;> omega
    · simp; omega
theorem renL_keep (es : List Ent) (i : Nat) (name : ByteArray) (k : Nat) (hk : k < es.length) (h : k ≠ i ∧ (es[k]'hk).1 ≠ name) : renL es i name (k + 1) = renL es i name k ++ [es[k]'hk] := by
  simp only [renL, List.getElem?_eq_getElem hk]; rw [if_pos h]
theorem renL_drop (es : List Ent) (i : Nat) (name : ByteArray) (k : Nat) (hk : k < es.length) (h : ¬ (k ≠ i ∧ (es[k]'hk).1 ≠ name)) : renL es i name (k + 1) = renL es i name k := by
  simp only [renL, List.getElem?_eq_getElem hk]; rw [if_neg h, List.append_nil]
/-- Rename. -/
def dRename (D : DS) (old name : ByteArray) : Int × DS := match lookup D.dir old with
  | none => (8, D)
  | some f => if name = ByteArray.empty then (8, D) else
    let es := renL D.dir (fidx D.dir old).toNat name D.dir.length ++ [(name, f)]
    ((bg D.n).2.1, if (bg D.n).1 then { D with dir := es, changes := D.changes ++ [es], n := (bg D.n).2.2 } else { D with n := (bg D.n).2.2 })
set_option maxRecDepth 100000 in
set_option maxHeartbeats 2000000 in
theorem rename_any (w : World) (b : Nat) (D : DS) (F : Nat → FC) (Ft : Nat → Prop) (h : Rep w b D F Ft) (old name : ByteArray) (hs : D.dir.length < 1099511627776 ∧ D.changes.length < 1099511627776) :
    Calls Try.prog 8 #[.pointer (some ⟨b, 0, none⟩), .string old, .string name] w fun e w' => e = .returned (.int .i64 (dRename D old name).1) ∧ After w Ft w' b (dRename D old name).2 F := by
  obtain ⟨vd, vs, vc, vals, VB, hr, hft⟩ := h
  obtain ⟨hs1, hs2⟩ := hs
  have HR := hide hr
  have HFT := hide hft
  have c0 := hr.blk.c0
  have hd := hide hr.dir
  have hbk := hide hr.blk
  rcases lookup_cases D.dir old with ⟨h1, h2⟩ | ⟨k, hk, h1, h2, h3⟩
  · have q : Hid (dRename D old name = (8, D)) := by unfold Hid dRename; rw [h2]
    have hfi : fidx D.dir old < 0 := by omega
    clear hr h1 h2
    go_enter Try.func8, Try.ntmps8
    go_wp2_with (go_at_call 22; refine (find_any _ _ _ _ hd.out).mono ?_; rintro e w' ⟨rfl, rfl⟩)
    go_ret
    rw [q.out]
    exact ⟨rfl, After.mk' (Chg.refl _ _) HR.out fun k hk => .inl (hft k hk)⟩
  · have H1 := hide h1
    by_cases hn : name.toList.isEmpty = true
    · have q : Hid (dRename D old name = (8, D)) := by unfold Hid dRename; rw [h2]; exact if_pos ((isEmpty_iff _).1 hn)
      clear hr h1 h2 h3
      go_enter Try.func8, Try.ntmps8
      go_wp2_with (go_at_call 22; refine (find_any _ _ _ _ hd.out).mono ?_; rintro e w' ⟨rfl, rfl⟩; rw [H1.out])
      go_ret
      rw [q.out]
      exact ⟨rfl, After.mk' (Chg.refl _ _) HR.out fun k hk => .inl (hft k hk)⟩
    · have hn' : name.toList.isEmpty = false := by simpa using hn
      have q : Hid (dRename D old name = ((bg D.n).2.1, if (bg D.n).1 then { D with dir := renL D.dir k name D.dir.length ++ [(name, (D.dir[k]'hk).2)], changes := D.changes ++ [renL D.dir k name D.dir.length ++ [(name, (D.dir[k]'hk).2)]], n := (bg D.n).2.2 } else { D with n := (bg D.n).2.2 })) := by
        unfold Hid dRename; rw [h2]; dsimp only; rw [if_neg (fun e => hn ((isEmpty_iff _).2 e)), h1]; rfl
      clear hr h1 h2 h3 hn
      by_cases hdo : (bg D.n).1 = true
      · obtain ⟨i0, hi, hz0, hz1, hz2⟩ := info_parts Try.infoEntry
        obtain ⟨a, cap, rfl, z1, z2, hcell⟩ := HR.out.dir.form
        obtain ⟨g, rfl, _, _⟩ := hcell k hk
        clear hcell
        unfold maxLen at z2
        have cells : Hid (∀ w1 wr, DBlk w1 b (.slice (some ⟨g, 0, none⟩) D.dir.length cap) vs vc (bg D.n).2.2 → Chg (One b) w w1 → Chg (fun _ => False) w1 wr → wr.cell? ⟨b, 0, none⟩ = some (.slice (some ⟨g, 0, none⟩) D.dir.length cap) ∧
            ∀ j (hj : j < D.dir.length), wr.cell? ⟨g, j * 2, none⟩ = some (.string (D.dir[j]'hj).1) ∧ wr.cell? ⟨g, j * 2 + 1, none⟩ = some (.pointer (some ⟨(D.dir[j]'hj).2, 0, none⟩))) := by
          intro w1 wr g1 g2 g3
          have r1 := HR.out.turn g1 g2
          have r3 : RepV wr b { D with n := (bg D.n).2.2 } F (.slice (some ⟨g, 0, none⟩) D.dir.length cap) vs vc vals VB := r1.frame fun x hx => g3.block x (r1.lt hx) (fun h => h)
          exact ⟨r3.blk.c0, fun j hj => ⟨ownsRow_cell r3.dir rfl (entVals_name _ j hj), ownsRow_cell r3.dir rfl (entVals_ptr _ j hj)⟩⟩
        go_enter Try.func8, Try.ntmps8
        go_wp2_with (first
          | (go_at_call 22; refine (find_any _ _ _ _ hd.out).mono ?_; rintro e w' ⟨rfl, rfl⟩; rw [H1.out])
          | (go_at_call 23; refine (begins_any _ _ _ _ _ _ hbk.out).mono ?_; rintro e w1 ⟨rfl, hb1, hc1⟩; have c01 := hb1.c0))
        go_loopw [10, 35] (fun v i wr => ∃ j : Nat, j ≤ D.dir.length ∧ i = .int .i64 j ∧ Chg (fun _ => False) w1 wr ∧ EntSl wr v (renL D.dir k name j) ∧ Hid (∀ x, v.ownBlock = some x → w1.heap.size ≤ x)) (fun _ i _ => D.dir.length - (intOf i).toNat)
        case atStart => exact ⟨0, Nat.zero_le _, rfl, Chg.refl _ _, World.ownsRow_nil _ _ _ _, fun x hx => by simp [Value.ownBlock] at hx⟩
        case round =>
          obtain ⟨j, hj, rfl, hcr, hvr, hfr⟩ := hrel
          have Hvr := hide hvr
          clear hvr
          obtain ⟨cb, ce⟩ := cells.out w1 wr hb1 hc1 hcr
          by_cases hlj : j < D.dir.length
          · obtain ⟨cn, cp⟩ := ce j hlj
            clear ce
            by_cases hji : j = k
            · have hji' : ((j : Int) != (k : Int)) = false := by simp [hji]
              have q2 := hide (renL_drop D.dir k name j hlj (fun h => h.1 hji))
              have Hji := hide hji
              clear hji
              go_wp2
              go_roundw
              case rel => exact ⟨j + 1, by omega, by go_num, hcr, by rw [q2.out]; exact Hvr.out, hfr⟩
              case measure => simp [intOf]; omega
            · have hji' : ((j : Int) != (k : Int)) = true := by rw [bne_iff_ne]; omega
              have Hji := hide hji
              clear hji
              by_cases hnm : (D.dir[j]'hlj).1 = name
              · have hnm' := (bytes_eq_iff _ _).2 hnm
                have q2 := hide (renL_drop D.dir k name j hlj (fun h => h.2 hnm))
                clear hnm
                go_wp2
                go_roundw
                case rel => exact ⟨j + 1, by omega, by go_num, hcr, by rw [q2.out]; exact Hvr.out, hfr⟩
                case measure => simp [intOf]; omega
              · have hnm' := (bytes_ne_iff _ _).2 hnm
                have q2 := hide (renL_keep D.dir k name j hlj ⟨Hji.out, hnm⟩)
                clear hnm
                have how := hide (Hvr.out.alloc (.cells #[.string (D.dir[j]'hlj).1, .pointer (some ⟨(D.dir[j]'hlj).2, 0, none⟩)] 50))
                have hsr := hide (Src.ofNew (size := 2) Try.underlying42 wr #[.string (D.dir[j]'hlj).1, .pointer (some ⟨(D.dir[j]'hlj).2, 0, none⟩)] 50 wr.heap.size rfl 1 1 rfl (by simp [Value.oneCell']))
                have hrl := renL_length D.dir k name j
                go_wp2_with (at_builtin; refine wpList_app rfl (.tmp 53) (.tmp 61) 42 42 rfl 50 i0 _ 2 24 Try.underlying42 hi hz0 hz1 hz2 rfl (by decide) _ _ _ (by rfl) how.out _ 1 _ (by rfl) hsr.out (by omega) ?_; intro a3 cap3 w3 hB; have c13 := hide (hB.chg2 (hcr.alloc _) hfr.out))
                go_roundw
                case rel =>
                  refine ⟨j + 1, by omega, by go_num, c13.out.1, ?_, c13.out.2⟩
                  rw [q2.out]
                  have := hB.own
                  unfold EntSl
                  rw [entVals_append, List.length_append]; exact this
                case measure => simp [intOf]; omega
          · obtain ⟨cn, cp⟩ := ce k hk
            have hjl : j = D.dir.length := by omega
            have hHv := Hvr.out
            rw [hjl] at hHv
            have how := hide (hHv.alloc (.cells #[.string name, .pointer (some ⟨(D.dir[k]'hk).2, 0, none⟩)] 50))
            have hsr := hide (Src.ofNew (size := 2) Try.underlying42 wr #[.string name, .pointer (some ⟨(D.dir[k]'hk).2, 0, none⟩)] 50 wr.heap.size rfl 1 1 rfl (by simp [Value.oneCell']))
            have hrl := renL_length D.dir k name D.dir.length
            clear hjl ce Hvr hHv
            go_wp2_with (first
              | (at_builtin; refine wpList_app rfl (.tmp 65) (.tmp 76) 42 42 rfl 50 i0 _ 2 24 Try.underlying42 hi hz0 hz1 hz2 rfl (by decide) _ _ _ (by rfl) how.out _ 1 _ (by rfl) hsr.out (by omega) ?_; intro a3 cap3 w3 hB; have c13 := hide (hB.chg2 (hcr.alloc _) hfr.out); have hm := hide (dir_mid HR.out hb1 hc1 c13.out.1))
              | (go_at_call 24; refine (turned_any _ b _ vs vc _ _ _ _ _ _ hm.out.1 hm.out.2 hs2).mono ?_; rintro e w5 ⟨rfl, vc', k1, k2, k3, k4⟩))
            go_ret
            rw [q.out, hdo]
            have e3 : EntSl w3 (.slice a3 ((renL D.dir k name D.dir.length).length + 1) cap3) (renL D.dir k name D.dir.length ++ [(name, (D.dir[k]'hk).2)]) := by
              have := hB.own
              unfold EntSl
              rw [entVals_append, List.length_append]; exact this
            refine ⟨rfl, dir_fin HR.out HFT.out hb1 hc1 c13.out.1 e3 c13.out.2 ?_ k1 k2 k3 k4⟩
            rintro f ⟨e, he, rfl⟩
            rcases List.mem_append.1 he with he | he
            · exact .inl ⟨e, renL_mem _ _ _ _ e he, rfl⟩
            · simp at he; subst he; exact .inl ⟨_, List.getElem_mem hk, rfl⟩
      · have hdo' : (bg D.n).1 = false := by simpa using hdo
        clear hdo
        go_enter Try.func8, Try.ntmps8
        go_wp2_with (first | (go_at_call 22; refine (find_any _ _ _ _ hd.out).mono ?_; rintro e w' ⟨rfl, rfl⟩; rw [H1.out]) | (go_at_call 23; refine (begins_any _ _ _ _ _ _ hbk.out).mono ?_; rintro e w1 ⟨rfl, hb1, hc1⟩))
        go_ret
        rw [q.out, hdo']
        exact ⟨rfl, HR.out.afterN hft hb1 hc1⟩
end Go.Proofs.Ytodcnkbblippnaa
