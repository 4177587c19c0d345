/-
  The statement WritesUptoCardSaid is proved: the law Writes answers true at every set and every script within the statement's bounds.
  Part 5 of 23.
-/
import Derived.Test.YtfaeidbgdcincaaGreatDoorPart03
import Derived.Deep.RegionHeld3
import Derived.BigRegion
import Derived.BigQuiet
import Derived.Deep.QuietTactic
import Derived.Deep.RegionLaw
/- Walks: Rename, Remove. -/
namespace Go.Proofs.YtfaeidbgdcincaaGreatDoor
open Go.RowKit
attribute [local go_sem ↓] Go.wp_at_zero Go.wp_at_succ

/-- A new directory of old files, put together. w1: behind begins; w3: with the new row; w5: behind turned. -/
theorem dir_fin {w w1 w3 w5 : World} {b : Nat} {D : DS} {F : Nat → FC} {vd vs vc vl vc' : Value} {vals : List Value} {VB : Nat → Value} {Ft : Nat → Prop} {n1 : DN} {es : List Ent}
    (hr : RepV w b D F vd vs vc vals VB) (hft : ∀ k, Foot b D vd vs vc vals VB k → Ft k) (hb1 : DBlk w1 b vd vs vc n1) (hc1 : Chg (One b) w w1) (c13 : Chg (fun _ => False) w1 w3)
    (e3 : EntSl w3 vl es) (hvl : ∀ g, vl.ownBlock = some g → w1.heap.size ≤ g) (hes : ∀ f, inEnts f es → D.ids f)
    (hb5 : DBlk w5 b vl vs vc' n1) (hch : w5.ownsRow 0 133 1 vc' (D.changes.length + 1) (vals ++ [vl]))
    (hc5 : Chg (fun k => k = b ∨ vc.ownBlock = some k) w3 w5) (hv : ∀ g, vc'.ownBlock = some g → vc.ownBlock = some g ∨ w3.heap.size ≤ g) :
    After w Ft w5 b { D with dir := es, changes := D.changes ++ [es], n := n1 } F := by
  have s1 := hc1.size
  have s3 := c13.size
  have r1 := hr.turn hb1 hc1
  have r3 : RepV w3 b { D with n := n1 } F vd vs vc vals VB := r1.frame fun k hk => c13.block k (r1.lt hk) (fun h => h)
  have e5 : EntSl w5 vl es := ownsRow_same e3 fun g hg => hc5.block g (ownsRow_lt e3 hg) (by
    obtain ⟨c, hh⟩ := ownsRow_elem e3 hg
    rintro (e | e)
    · exact elem_ne hh r3.blk (by decide) e
    · obtain ⟨c', hh'⟩ := ownsRow_elem r3.chg e
      exact elem_ne hh hh' (by decide) rfl)
  have r5 := r3.turnDir (F' := F) (VB' := VB) (es := es) hb5 hch e5 hc5 (fun k hk => hk) (fun f hf => ⟨rfl, rfl⟩) (fun f hf => .inl (hes f hf))
  have hids : ∀ f, ({ D with dir := es, changes := D.changes ++ [es], n := n1 } : DS).ids f → D.ids f := by
    rintro f (hf | hf | ⟨c, hcm, hf⟩)
    · exact hes f hf
    · exact .inr (.inl hf)
    · rcases List.mem_append.1 hcm with hcm | hcm
      · exact .inr (.inr ⟨c, hcm, hf⟩)
      · simp at hcm; subst hcm; exact hes f hf
  refine After.mk' ?_ r5 ?_
  · have a : Chg Ft w w3 := (hc1.mono (S' := Ft) fun k _ hk => by cases hk; exact hft b .blk).trans c13 (fun x hx => hx.elim)
    refine a.trans hc5 ?_
    rintro x (e | e) _
    · subst e; exact hft x .blk
    · exact hft x (.chg e)
  · intro k hk
    cases hk using Foot.elim with
    | blk => exact .inl (hft b .blk)
    | dir e => right; have := hvl _ e; omega
    | safe e => exact .inl (hft k (.safe e))
    | chg e =>
      rcases hv k e with h | h
      · exact .inl (hft k (.chg h))
      · right; omega
    | che hm e =>
      rcases List.mem_append.1 hm with hm | hm
      · exact .inl (hft k (.che hm e))
      · simp at hm; subst hm; right; have := hvl _ e; omega
    | fil hf => exact .inl (hft _ (.fil (hids _ hf)))
    | byt hf e => exact .inl (hft _ (.byt (hids _ hf) e))
/-- What turned asks, at w3. -/
theorem dir_mid {w w1 w3 : World} {b : Nat} {D : DS} {F : Nat → FC} {vd vs vc : Value} {vals : List Value} {VB : Nat → Value} {n1 : DN} (hr : RepV w b D F vd vs vc vals VB) (hb1 : DBlk w1 b vd vs vc n1) (hc1 : Chg (One b) w w1) (c13 : Chg (fun _ => False) w1 w3) :
    DBlk w3 b vd vs vc n1 ∧ w3.ownsRow 0 133 1 vc D.changes.length vals := by
  have r1 := hr.turn hb1 hc1
  exact ⟨hb1.chg c13 (fun h => h), ownsRow_same r1.chg fun g hg => c13.block g (ownsRow_lt r1.chg hg) (fun h => h)⟩

theorem App.chgNil {w w' : World} {e size n : Nat} {v' : Value} {xs : List Value} (h : App w w' e size (.slice none 0 0) v' n xs) : Chg (fun _ => False) w w' := h.chg (fun k hk => by simp [Value.ownBlock] at hk)
theorem App.fresh {w w' : World} {e size n : Nat} {v' : Value} {xs : List Value} (h : App w w' e size (.slice none 0 0) v' n xs) : ∀ g, v'.ownBlock = some g → w.heap.size ≤ g := by
  intro g hg
  rcases h.at_ with h | h
  · rw [h] at hg; cases hg
  · rw [h] at hg; cases hg; exact Nat.le_refl _
/-- A second append onto a fresh row. -/
theorem App.chg2 {w0 w w' : World} {e size n : Nat} {v v' : Value} {xs : List Value} (h : App w w' e size v v' n xs) (h0 : Chg (fun _ => False) w0 w) (hv : ∀ g, v.ownBlock = some g → w0.heap.size ≤ g) :
    Chg (fun _ => False) w0 w' ∧ ∀ g, v'.ownBlock = some g → w0.heap.size ≤ g := by
  refine ⟨h0.grown h.grown fun k hk hlt => by have := hv k hk; omega, fun g hg => ?_⟩
  rcases h.at_ with h1 | h1
  · rw [h1] at hg; exact hv g hg
  · rw [h1] at hg; cases hg; exact h0.size
/-- Remove. -/
def dRemove (D : DS) (name : ByteArray) : Int × DS :=
  if fidx D.dir name < 0 then (8, D) else
    let es := D.dir.take (fidx D.dir name).toNat ++ D.dir.drop ((fidx D.dir name).toNat + 1)
    ((bg D.n).2.1, if (bg D.n).1 then { D with dir := es, changes := D.changes ++ [es], n := (bg D.n).2.2 } else { D with n := (bg D.n).2.2 })
/-- What Rename keeps of the first k entries. -/
def renL (es : List Ent) (i : Nat) (name : ByteArray) : Nat → List Ent
  | 0 => []
  | k + 1 => renL es i name k ++ (match es[k]? with
    | some e => if k ≠ i ∧ e.1 ≠ name then [e] else []
    | none => [])
theorem renL_mem (es : List Ent) (i : Nat) (name : ByteArray) (k : Nat) : ∀ e ∈ renL es i name k, e ∈ es := by
  induction k with
  | zero => intro e h; cases h
  | succ k ih =>
    intro e h
    simp only [renL] at h
    rcases List.mem_append.1 h with h | h
    · exact ih e h
    · split at h
      · rename_i x hx
        split at h
        · simp at h; subst h; exact List.mem_of_getElem? hx
        · cases h
      · cases h
theorem renL_length (es : List Ent) (i : Nat) (name : ByteArray) (k : Nat) : (renL es i name k).length ≤ k := by
  induction k with
  | zero => simp [renL]
  | succ k ih =>
    simp only [renL, List.length_append]
    split
    · split <;> simp <;> omega
    · simp; omega
theorem renL_keep (es : List Ent) (i : Nat) (name : ByteArray) (k : Nat) (hk : k < es.length) (h : k ≠ i ∧ (es[k]'hk).1 ≠ name) : renL es i name (k + 1) = renL es i name k ++ [es[k]'hk] := by
  simp only [renL, List.getElem?_eq_getElem hk]; rw [if_pos h]
theorem renL_drop (es : List Ent) (i : Nat) (name : ByteArray) (k : Nat) (hk : k < es.length) (h : ¬ (k ≠ i ∧ (es[k]'hk).1 ≠ name)) : renL es i name (k + 1) = renL es i name k := by
  simp only [renL, List.getElem?_eq_getElem hk]; rw [if_neg h, List.append_nil]
/-- Rename. -/
def dRename (D : DS) (old name : ByteArray) : Int × DS := match lookup D.dir old with
  | none => (8, D)
  | some f => if name = ByteArray.empty then (8, D) else
    let es := renL D.dir (fidx D.dir old).toNat name D.dir.length ++ [(name, f)]
    ((bg D.n).2.1, if (bg D.n).1 then { D with dir := es, changes := D.changes ++ [es], n := (bg D.n).2.2 } else { D with n := (bg D.n).2.2 })
end Go.Proofs.YtfaeidbgdcincaaGreatDoor
/- Walk: List. -/
namespace Go.Proofs.YtfaeidbgdcincaaGreatDoor
open Go.RowKit
attribute [local go_sem ↓] Go.wp_at_zero Go.wp_at_succ

def less (a b : ByteArray) : Bool := Op.bytesLess a.toList b.toList
def strVals (l : List ByteArray) : List Value := l.map Value.string
theorem strVals_length (l : List ByteArray) : (strVals l).length = l.length := List.length_map _
theorem strVals_one (l : List ByteArray) : ∀ u ∈ strVals l, u.oneCell' = true := by
  intro u hu; obtain ⟨_, _, rfl⟩ := List.mem_map.1 hu; rfl
/-- Where x comes to stand among the first k of l, from the end on. -/
def insPos (l : List ByteArray) (x : ByteArray) : Nat → Nat
  | 0 => 0
  | k + 1 => match l[k]? with
    | some y => if less x y then insPos l x k else k + 1
    | none => k + 1
def ins (l : List ByteArray) (x : ByteArray) : List ByteArray := l.take (insPos l x l.length) ++ x :: l.drop (insPos l x l.length)
def dListK (es : List Ent) : Nat → List ByteArray
  | 0 => []
  | k + 1 => match es[k]? with
    | some e => ins (dListK es k) e.1
    | none => dListK es k
def dList (es : List Ent) : List ByteArray := dListK es es.length
theorem insPos_le (l : List ByteArray) (x : ByteArray) (k : Nat) : insPos l x k ≤ k := by
  induction k with
  | zero => simp [insPos]
  | succ k ih =>
    simp only [insPos]
    split
    · split <;> omega
    · omega
theorem ins_length (l : List ByteArray) (x : ByteArray) : (ins l x).length = l.length + 1 := by
  have := insPos_le l x l.length
  simp [ins]; omega
theorem dListK_length (es : List Ent) (k : Nat) (hk : k ≤ es.length) : (dListK es k).length = k := by
  induction k with
  | zero => rfl
  | succ k ih =>
    simp only [dListK, List.getElem?_eq_getElem (show k < es.length by omega)]
    rw [ins_length, ih (by omega)]
theorem dListK_succ (es : List Ent) (k : Nat) (hk : k < es.length) : dListK es (k + 1) = ins (dListK es k) (es[k]'hk).1 := by
  simp only [dListK, List.getElem?_eq_getElem hk]
theorem insPos_step (l : List ByteArray) (x : ByteArray) (k : Nat) (hk : k < l.length) (h : less x (l[k]'hk) = true) : insPos l x (k + 1) = insPos l x k := by
  simp only [insPos, List.getElem?_eq_getElem hk]; rw [if_pos h]
theorem insPos_stop (l : List ByteArray) (x : ByteArray) (k : Nat) (hk : k < l.length) (h : less x (l[k]'hk) = false) : insPos l x (k + 1) = k + 1 := by
  simp only [insPos, List.getElem?_eq_getElem hk]; rw [if_neg (by simp [h])]
/-- One exchange. -/
theorem swap_list (l : List ByteArray) (x : ByteArray) (m : Nat) (hm : m < l.length) :
    ((strVals (l.take (m + 1) ++ x :: l.drop (m + 1))).set (m + 1) (.string (l[m]'hm))).set m (.string x) = strVals (l.take m ++ x :: l.drop m) := by
  have e1 : l.take (m + 1) = l.take m ++ [l[m]'hm] := List.take_succ_eq_append_getElem hm
  have e2 : l.drop m = l[m]'hm :: l.drop (m + 1) := List.drop_eq_getElem_cons hm
  have hl : (l.take m).length = m := by simp; omega
  rw [e1, e2]
  unfold strVals
  simp only [List.map_append, List.map_cons, List.append_assoc, List.cons_append, List.nil_append]
  have hl' : (List.map Value.string (l.take m)).length = m := by simpa using hl
  rw [List.set_append_right _ _ (by omega), hl', show m + 1 - m = 1 from by omega]
  simp only [List.set_cons_succ, List.set_cons_zero]
  rw [List.set_append_right _ _ (by omega), hl', Nat.sub_self]
  rfl

set_option maxRecDepth 100000 in
set_option maxHeartbeats 800000 in
theorem list_any (w : World) (b : Nat) (D : DS) (F : Nat → FC) (Ft : Nat → Prop) (h : Rep w b D F Ft) (hs : D.dir.length < 1099511627776) :
    Calls Tryz.prog 70 #[.pointer (some ⟨b, 0, none⟩)] w fun e w' => ∃ v, e = .returned v ∧ w'.ownsRow 0 9 1 v D.dir.length (strVals (dList D.dir)) ∧ Chg (fun _ => False) w w' ∧ (∀ g, v.ownBlock = some g → w.heap.size ≤ g) := by
  obtain ⟨vd, vs, vc, vals, VB, hr, hft⟩ := h
  have HR := hide hr
  have c0 := hr.blk.c0
  obtain ⟨i0, hi, hz0, hz1, hz2⟩ := info_parts Tryz.infoString
  obtain ⟨a, cap, rfl, z1, z2, hcell⟩ := HR.out.dir.form
  unfold maxLen at z2
  have hb2 : i0.bytes * D.dir.length ≤ 281474976710656 := by rw [hz2]; omega
  have hb3 : D.dir.length ≤ maxLen := by unfold maxLen; omega
  have HB2 := hide hb2
  have HB3 := hide hb3
  clear hr hb2 hb3
  go_enter Tryz.func70, Tryz.ntmps70
  go_wp2_with (at_make; refine wpList_make_own _ rfl _ _ 116 rfl 0 9 i0 _ 1 Tryz.underlying116 hi hz0 hz1 _ _ _ D.dir.length rfl rfl rfl HB2.out HB3.out (Nat.zero_le _) ?_; intro w1 hown1 hg1; have c01 := hg1.cell c0 (by simp); have Hown := hide hown1; clear hown1)
  go_loopw [3, 18] (fun v i wr => ∃ k : Nat, k ≤ D.dir.length ∧ i = .int .i64 k ∧ Chg (fun _ => False) w wr ∧ Hid (wr.ownsRow 0 9 1 v k (strVals (dListK D.dir k))) ∧ Hid (∀ x, v.ownBlock = some x → w.heap.size ≤ x)) (fun _ i _ => D.dir.length - (intOf i).toNat)
  case atStart => exact ⟨0, Nat.zero_le _, rfl, (Chg.refl _ w).grown hg1 (fun k hk => by cases hk), Hown.out, fun x hx => by cases hx; exact Nat.le_refl _⟩
  case round =>
    obtain ⟨k, hk, rfl, hcr, how, hfr⟩ := hrel
    by_cases hlk : k < D.dir.length
    · obtain ⟨g, rfl, hn, hp⟩ := hcell k hlk
      have hgl : g < w.heap.size := World.block_lt_of_cell? w _ hn
      have hn' : wr.cell? ⟨g, k * 2, none⟩ = some (.string (D.dir[k]'hlk).1) := (World.cell?_of_block (hcr.block g hgl (fun h => h))).trans hn
      have hp' : wr.cell? ⟨g, k * 2 + 1, none⟩ = some (.pointer (some ⟨(D.dir[k]'hlk).2, 0, none⟩)) := (World.cell?_of_block (hcr.block g hgl (fun h => h))).trans hp
      have hsz := hcr.size
      have hgr : g < wr.heap.size := by omega
      have how2 := hide ((how.out.alloc (.cells #[.string (D.dir[k]'hlk).1, .pointer (some ⟨(D.dir[k]'hlk).2, 0, none⟩)] 128)).alloc (.cells #[.string (D.dir[k]'hlk).1] 9))
      have hsr := hide (Src.ofNew (size := 1) Tryz.underlying116 (wr.alloc (.cells #[.string (D.dir[k]'hlk).1, .pointer (some ⟨(D.dir[k]'hlk).2, 0, none⟩)] 128)) #[.string (D.dir[k]'hlk).1] 9 (wr.heap.size + 1) (by simp) 1 1 rfl (by simp [Value.oneCell']))
      clear hn hp hcell
      obtain ⟨x, hx⟩ : ∃ x, (D.dir[k]'hlk).1 = x := ⟨_, rfl⟩
      rw [hx] at hn' how2 hsr
      have Hx := hide hx
      clear hx
      go_wp2_with (at_builtin; refine wpList_app rfl (.tmp 22) (.tmp 25) 116 116 rfl 9 i0 _ 1 16 Tryz.underlying116 hi hz0 hz1 hz2 rfl (by decide) _ _ _ (by rfl) how2.out _ 1 _ (by rfl) hsr.out (by omega) ?_; intro a3 cap3 w3 hB)
      have hl := hide (dListK_length D.dir k hk)
      obtain ⟨l, hlq⟩ : ∃ l, dListK D.dir k = l := ⟨_, rfl⟩
      have Hlq := hide hlq
      have hll : l.length = k := by rw [← hlq]; exact hl.out
      have hB0 : w3.ownsRow 0 9 1 (.slice a3 (k + 1) cap3) (k + 1) (strVals (l.take k ++ x :: l.drop k)) := by
        have := hB.own
        rw [hlq] at this
        rw [List.take_of_length_le (by omega), List.drop_of_length_le (by omega)]
        simpa [strVals] using this
      have hHB := hide hB0
      have c13 := hide (hB.chg2 ((hcr.alloc _).alloc _) hfr.out)
      have hmax : cap3 ≤ maxLen := by obtain ⟨_, _, he, h1, h2, _⟩ := ownsRow_form hB0; cases he; exact h2
      obtain ⟨g3, hg3⟩ : ∃ g3, a3 = some ⟨g3, 0, none⟩ := by
        obtain ⟨_, _, he, h1, h2, h3, _⟩ := ownsRow_form hB0
        cases he; exact h3 (by omega)
      have Hll := hide hll
      clear hlq hB0 hB how2 hsr how hll
      subst hg3
      have hc3 := hide c13.out.1
      have hf3 := hide (c13.out.2)
      clear c13
      have fin : Hid (∀ (wq : World) (j : Nat), j ≤ k → insPos l x k = j → wq.ownsRow 0 9 1 (.slice (some ⟨g3, 0, none⟩) (k + 1) cap3) (k + 1) (strVals (l.take j ++ x :: l.drop j)) → wq.ownsRow 0 9 1 (.slice (some ⟨g3, 0, none⟩) (k + 1) cap3) (k + 1) (strVals (dListK D.dir (k + 1)))) := by
        intro wq j hj hp h
        rw [dListK_succ D.dir k hlk, Hlq.out, Hx.out, ins, Hll.out, hp]
        exact h
      go_loopw [6] (fun i wq => ∃ j : Nat, j ≤ k ∧ i = .int .i64 j ∧ Hid (Chg (fun _ => False) w wq) ∧ Hid (wq.ownsRow 0 9 1 (.slice (some ⟨g3, 0, none⟩) (k + 1) cap3) (k + 1) (strVals (l.take j ++ x :: l.drop j))) ∧ Hid (insPos l x k = insPos l x j)) (fun i _ => (intOf i).toNat)
      case atStart => exact ⟨k, Nat.le_refl _, rfl, hc3, hHB, rfl⟩
      case round =>
        obtain ⟨j, hj, rfl, hcq, hoq, hpq⟩ := hrel
        by_cases hj0 : j = 0
        · subst hj0
          rw [show ((0 : Nat) : Int) = 0 from rfl]
          go_wp2
          go_quiet (fail)
          go_wp2
          go_roundw
          case rel =>
            refine ⟨k + 1, by omega, by go_num, hcq.out.drewN _, ?_, hf3.out⟩
            exact fin.out _ 0 (by omega) (by rw [hpq.out]; rfl) hoq.out
          case measure => simp [intOf]; omega
        · have hj1 : (0 : Int) < (j : Int) := by omega
          have hj2 : 0 < j := by omega
          have hjk : (j : Int) ≤ (k : Int) := by omega
          have hml : j - 1 < l.length := by have := Hll.out; omega
          have hjl : j ≤ l.length := by have := Hll.out; omega
          obtain ⟨y, hy⟩ : ∃ y, l[j - 1]'hml = y := ⟨_, rfl⟩
          have g1 : wr.cell? ⟨g3, j - 1, none⟩ = some (.string y) := ownsRow_cell hoq.out rfl (by
            unfold strVals
            rw [List.map_append, List.getElem?_append_left (by simp; omega)]
            simp [List.getElem?_take, hml, hy]; omega)
          have g2 : wr.cell? ⟨g3, j, none⟩ = some (.string x) := ownsRow_cell hoq.out rfl (by
            unfold strVals
            rw [List.map_append, List.getElem?_append_right (by simp; omega)]
            simp [Nat.min_eq_left hjl])
          have gz : ∀ o, wr.frozen? ⟨g3, o, none⟩ = false := fun o => ownsRow_frozen hoq.out rfl o
          by_cases hls : less x y = true
          · have hls' : Op.bytesLess x.toList y.toList = true := hls
            have Hls := hide hls
            have Hy := hide hy
            clear hls hy
            go_wp2
            go_quiet (fail)
            go_wp2
            go_region
            go_wp2
            go_roundw
            case rel =>
              refine ⟨j - 1, by omega, by go_num, ?_, ?_, ?_⟩
              · have h1 := ((hcq.out.setCell (p := ⟨g3, j, none⟩) (fun h => by have := hf3.out g3 rfl; simp at h; omega) (.string y)).setCell (p := ⟨g3, j - 1, none⟩) (fun h => by have := hf3.out g3 rfl; simp at h; omega) (.string x))
                exact ⟨h1.os, h1.tape, h1.output, h1.size, h1.block⟩
              · have s1 := (hoq.out.stored j (.string y)).1
                have s2 := (s1.stored (j - 1) (.string x)).1
                have e := swap_list l x (j - 1) hml
                rw [show j - 1 + 1 = j from by omega, Hy.out] at e
                rw [e] at s2
                exact s2
              · have := insPos_step l x (j - 1) hml (by rw [Hy.out]; exact Hls.out)
                rw [show j - 1 + 1 = j from by omega] at this
                unfold Hid; rw [hpq.out]; exact this
            case measure => simp [intOf]; omega
          · have hls0 : less x y = false := by simpa using hls
            have hls' : Op.bytesLess x.toList y.toList = false := hls0
            have Hls := hide hls0
            have Hy := hide hy
            clear hls hy hls0
            go_wp2
            go_quiet (fail)
            go_wp2
            go_roundw
            case rel =>
              refine ⟨k + 1, by omega, by go_num, hcq.out.drewN _, ?_, hf3.out⟩
              refine fin.out _ j hj ?_ hoq.out
              have := insPos_stop l x (j - 1) hml (by rw [Hy.out]; exact Hls.out)
              rw [show j - 1 + 1 = j from by omega] at this
              rw [hpq.out]; exact this
            case measure => simp [intOf]; omega
    · have hkl : k = D.dir.length := by omega
      have Hkl := hide hkl
      clear hkl hcell
      go_wp2
      go_ret
      refine ⟨_, rfl, ?_, hcr, hfr.out⟩
      have := how.out
      rw [Hkl.out] at this
      exact this
end Go.Proofs.YtfaeidbgdcincaaGreatDoor
/- Walk: Crash. -/
namespace Go.Proofs.YtfaeidbgdcincaaGreatDoor
open Go.RowKit
attribute [local go_sem ↓] Go.wp_at_zero Go.wp_at_succ

/-- Crash's pick: which of 0 .. n. -/
def pickN (c : Int) (n : Nat) : Nat := ((if c < 0 then -(c + 1) else c) % ((n : Int) + 1)).toNat
theorem pickN_le (c : Int) (n : Nat) : pickN c n ≤ n := by
  unfold pickN
  have h1 := Int.emod_nonneg (if c < 0 then -(c + 1) else c) (b := (n : Int) + 1) (by omega)
  have h2 := Int.emod_lt_of_pos (if c < 0 then -(c + 1) else c) (b := (n : Int) + 1) (by omega)
  omega
set_option maxRecDepth 100000 in
set_option maxHeartbeats 400000 in
theorem pick_any (c : Int) (n : Int) (w : World) (hc : -9223372036854775808 ≤ c ∧ c ≤ 9223372036854775807) (hn : 0 ≤ n ∧ n ≤ 4611686018427387904) :
    Calls Tryz.prog 100 #[.int .i64 c, .int .i64 n] w fun e w' => e = .returned (.int .i64 (pickN c n.toNat)) ∧ w = w' := by
  obtain ⟨h1, h2⟩ := hc
  obtain ⟨h3, h4⟩ := hn
  by_cases hc : c < 0
  · have q : Hid ((pickN c n.toNat : Int) = -((c + 1).tmod (n + 1))) := by
      unfold Hid pickN; rw [if_pos hc, Int.toNat_of_nonneg h3, Int.toNat_of_nonneg (Int.emod_nonneg _ (by omega)), ← Int.tmod_eq_emod_of_nonneg (by omega), Int.neg_tmod]
    have h5 : 0 ≤ -(c + 1) := by omega
    go_enter Tryz.func100, Tryz.ntmps100
    go_wp2
    go_ret
    rw [q.out]
    exact ⟨rfl, rfl⟩
  · have q : Hid ((pickN c n.toNat : Int) = c % (n + 1)) := by
      unfold Hid pickN; rw [if_neg hc, Int.toNat_of_nonneg h3, Int.toNat_of_nonneg (Int.emod_nonneg _ (by omega))]
    have h5 : 0 ≤ c := by omega
    go_enter Tryz.func100, Tryz.ntmps100
    go_wp2
    go_ret
    rw [q.out]
    exact ⟨rfl, rfl⟩

/-- A slice of ints that lies in memory. -/
def IntSl (w : World) (v : Value) (ts : List Int) : Prop :=
  ∃ ad cap, v = .slice ad ts.length cap ∧ ts.length ≤ 9223372036854775807 ∧ ∀ j (hj : j < ts.length), ∃ tb to_, ad = some ⟨tb, to_, none⟩ ∧ tb < w.heap.size ∧ w.cell? ⟨tb, to_ + j, none⟩ = some (.int .i64 (ts[j]'hj))
/-- What a crash leaves of a file. -/
def crashFile (c : FC) (t : Int) : FC :=
  let m := c.2.toNat + pickN t (c.1.length - c.2.toNat)
  (c.1.take m, (c.1.take m).length)
/-- .. of the files that the first so many names of a directory have. -/
def crashK (dir : List Ent) (tails : List Int) (names : List ByteArray) (F : Nat → FC) : Nat → (Nat → FC)
  | 0 => F
  | k + 1 => let G := crashK dir tails names F k
    match names[k]? with
    | none => G
    | some name => match lookup dir name with
      | some f => upd G f (crashFile (G f) (tails.getD k 0))
      | none => G
def crashDir (D : DS) (dirs : Int) : List Ent := match pickN dirs D.changes.length with
  | 0 => D.safe
  | k + 1 => D.changes.getD k []
def dCrash (D : DS) (F : Nat → FC) (dirs : Int) (tails : List Int) : DS × (Nat → FC) :=
  let dir := crashDir D dirs
  ({ dir := dir, safe := dir, changes := [], n := { D.n with dead := false, cut := 0, fail := 0 } }, crashK dir tails (dList dir) F dir.length)
/-- Each name of a list is a name of the directory. -/
theorem ins_mem (l : List ByteArray) (x y : ByteArray) : y ∈ ins l x ↔ y = x ∨ y ∈ l := by
  unfold ins
  constructor
  · intro h
    rcases List.mem_append.1 h with h | h
    · exact .inr (List.mem_of_mem_take h)
    · rcases List.mem_cons.1 h with h | h
      · exact .inl h
      · exact .inr (List.mem_of_mem_drop h)
  · rintro (rfl | h)
    · simp
    · rw [← List.take_append_drop (insPos l x l.length) l] at h
      rcases List.mem_append.1 h with h | h
      · exact List.mem_append.2 (.inl h)
      · exact List.mem_append.2 (.inr (List.mem_cons_of_mem _ h))
theorem dListK_mem (es : List Ent) (k : Nat) (hk : k ≤ es.length) (y : ByteArray) : y ∈ dListK es k ↔ ∃ e ∈ es.take k, e.1 = y := by
  induction k with
  | zero => simp [dListK]
  | succ k ih =>
    have et := List.take_succ_eq_append_getElem (l := es) (i := k) hk
    rw [dListK_succ es k hk, ins_mem, ih (by omega)]
    constructor
    · rintro (rfl | ⟨e, he, rfl⟩)
      · exact ⟨es[k], by rw [et]; exact List.mem_append.2 (.inr (List.mem_singleton.2 rfl)), rfl⟩
      · exact ⟨e, by rw [et]; exact List.mem_append.2 (.inl he), rfl⟩
    · rintro ⟨e, he, rfl⟩
      rw [et] at he
      rcases List.mem_append.1 he with he | he
      · exact .inr ⟨e, he, rfl⟩
      · simp at he; subst he; exact .inl rfl
theorem dList_mem (es : List Ent) (y : ByteArray) : y ∈ dList es ↔ ∃ e ∈ es, e.1 = y := by
  have := dListK_mem es es.length (Nat.le_refl _) y
  rwa [List.take_length] at this
/-- The directory, turned back to an elder one. -/
theorem RepV.setDirOld {w w' : World} {b : Nat} {D : DS} {F : Nat → FC} {vd vs vc vl : Value} {vals : List Value} {VB : Nat → Value} {es : List Ent} (h : RepV w b D F vd vs vc vals VB)
    (hl : (vl = vs ∧ es = D.safe) ∨ ∃ k, ∃ hk : k < D.changes.length, vals[k]? = some vl ∧ es = D.changes[k]'hk) (hb : DBlk w' b vl vs vc D.n) (hc : Chg (One b) w w') :
    RepV w' b { D with dir := es } F vl vs vc vals VB ∧ ∀ k, Foot b { D with dir := es } vl vs vc vals VB k → Foot b D vd vs vc vals VB k := by
  have hk : ∀ (k : Nat) (c : Array Value) (e : Nat), w.heap[k]? = some (Obj.cells c e (0, 0)) → e ≠ 91 → w'.heap[k]? = w.heap[k]? := fun k c e hk he =>
    hc.block k (lt_of_block hk) (elem_ne hk h.blk he)
  have hes : EntSl w vl es := by
    rcases hl with ⟨rfl, rfl⟩ | ⟨k, hk, h1, rfl⟩
    · exact h.safe
    · obtain ⟨v, h2, h3⟩ := h.che k hk
      rw [h1] at h2; cases h2; exact h3
  have hin : ∀ f, inEnts f es → D.ids f := by
    intro f hf
    rcases hl with ⟨_, rfl⟩ | ⟨k, hk, _, rfl⟩
    · exact .inr (.inl hf)
    · exact .inr (.inr ⟨_, List.getElem_mem hk, hf⟩)
  have hids : ∀ f, ({ D with dir := es } : DS).ids f → D.ids f := by
    rintro f (hf | hf | hf)
    · exact hin f hf
    · exact .inr (.inl hf)
    · exact .inr (.inr hf)
  refine ⟨⟨hb, ?_, ?_, ?_, ?_, ?_, fun f f' g hf hf' => h.inj f f' g (hids f hf) (hids f' hf')⟩, ?_⟩
  · exact ownsRow_same hes fun g hg => by obtain ⟨c, hh⟩ := ownsRow_elem hes hg; exact hk g _ _ hh (by decide)
  · exact ownsRow_same h.safe fun g hg => by obtain ⟨c, hh⟩ := ownsRow_elem h.safe hg; exact hk g _ _ hh (by decide)
  · exact ownsRow_same h.chg fun g hg => by obtain ⟨c, hh⟩ := ownsRow_elem h.chg hg; exact hk g _ _ hh (by decide)
  · intro i hi
    obtain ⟨v, h1, h2⟩ := h.che i hi
    exact ⟨v, h1, ownsRow_same h2 fun g hg => by obtain ⟨c, hh⟩ := ownsRow_elem h2 hg; exact hk g _ _ hh (by decide)⟩
  · intro f hf
    obtain ⟨h1, h2⟩ := h.fil f (hids f hf)
    refine ⟨h1.same (hk f _ _ h1 (by decide)), ownsRow_same h2 fun g hg => by obtain ⟨c, hh⟩ := ownsRow_elem h2 hg; exact hk g _ _ hh (by decide)⟩
  · intro k hk
    cases hk using Foot.elim with
    | blk => exact .blk
    | dir e =>
      rcases hl with ⟨rfl, _⟩ | ⟨j, _, h1, _⟩
      · exact .safe e
      · exact .che (List.mem_of_getElem? h1) e
    | safe e => exact .safe e
    | chg e => exact .chg e
    | che hm e => exact .che hm e
    | fil hf => exact .fil (hids _ hf)
    | byt hf e => exact .byt (hids _ hf) e

theorem Rep.same_heap {w w' : World} {b : Nat} {D : DS} {F : Nat → FC} {Ft : Nat → Prop} (h : Rep w b D F Ft) (he : w'.heap = w.heap) : Rep w' b D F Ft := h.frame fun k _ => by rw [he]
theorem Chg.same_heap {S : Nat → Prop} {a w w' : World} (h : Chg S a w) (he : w'.heap = w.heap) (h1 : w'.os = w.os) (h2 : w'.tape = w.tape) (h3 : w'.output = w.output) : Chg S a w' :=
  ⟨h1.trans h.os, h2.trans h.tape, h3.trans h.output, by rw [he]; exact h.size, fun k hk hn => by rw [he]; exact h.block k hk hn⟩
end Go.Proofs.YtfaeidbgdcincaaGreatDoor
