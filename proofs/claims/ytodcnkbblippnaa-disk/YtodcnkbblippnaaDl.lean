/- Walk: List. -/
import Derived.Test.YtodcnkbblippnaaDk
import Derived.Deep.RegionHeld3
import Derived.BigRegion
import Derived.BigQuiet
import Derived.Deep.QuietTactic
namespace Go.Proofs.Ytodcnkbblippnaa
open Go.RowKit
attribute [local go_sem ↓] Go.wp_at_zero Go.wp_at_succ

def less (a b : ByteArray) : Bool := Op.bytesLess a.toList b.toList
def strVals (l : List ByteArray) : List Value := l.map Value.string
theorem strVals_length (l : List ByteArray) : (strVals l).length = l.length := List.length_map _
theorem strVals_one (l : List ByteArray) : ∀ u ∈ strVals l, u.oneCell' = true := by
  intro u hu; obtain ⟨_, _, rfl⟩ := List.mem_map.1 hu; rfl
/-- Where x comes to stand among the first k of l, from the end on. -/
def insPos (l : List ByteArray) (x : ByteArray) : Nat → Nat
  | 0 => 0
  | k + 1 => match l[k]? with
    | some y => if less x y then insPos l x k else k + 1
    | none => k + 1
def ins (l : List ByteArray) (x : ByteArray) : List ByteArray := l.take (insPos l x l.length) ++ x :: l.drop (insPos l x l.length)
def dListK (es : List Ent) : Nat → List ByteArray
  | 0 => []
  | k + 1 => match es[k]? with
    | some e => ins (dListK es k) e.1
    | none => dListK es k
def dList (es : List Ent) : List ByteArray := dListK es es.length
theorem insPos_le (l : List ByteArray) (x : ByteArray) (k : Nat) : insPos l x k ≤ k := by
  induction k with
  | zero => simp [insPos]
  | succ k ih =>
    simp only [insPos]
    split
    · split <;> omega
    · omega
theorem ins_length (l : List ByteArray) (x : ByteArray) : (ins l x).length = l.length + 1 := by
  have := insPos_le l x l.length
  simp [ins]; omega
theorem dListK_length (es : List Ent) (k : Nat) (hk : k ≤ es.length) : (dListK es k).length = k := by
  induction k with
  | zero => rfl
  | succ k ih =>
    simp only [dListK, List.getElem?_eq_getElem (show k < es.length by omega)]
    rw [ins_length, ih (by omega)]
theorem dListK_succ (es : List Ent) (k : Nat) (hk : k < es.length) : dListK es (k + 1) = ins (dListK es k) (es[k]'hk).1 := by
  simp only [dListK, List.getElem?_eq_getElem hk]
theorem insPos_step (l : List ByteArray) (x : ByteArray) (k : Nat) (hk : k < l.length) (h : less x (l[k]'hk) = true) : insPos l x (k + 1) = insPos l x k := by
  simp only [insPos, List.getElem?_eq_getElem hk]; rw [if_pos h]
theorem insPos_stop (l : List ByteArray) (x : ByteArray) (k : Nat) (hk : k < l.length) (h : less x (l[k]'hk) = false) : insPos l x (k + 1) = k + 1 := by
  simp only [insPos, List.getElem?_eq_getElem hk]; rw [if_neg (by simp [h])]
/-- One exchange. -/
theorem swap_list (l : List ByteArray) (x : ByteArray) (m : Nat) (hm : m < l.length) :
    ((strVals (l.take (m + 1) ++ x :: l.drop (m + 1))).set (m + 1) (.string (l[m]'hm))).set m (.string x) = strVals (l.take m ++ x :: l.drop m) := by
  have e1 : l.take (m + 1) = l.take m ++ [l[m]'hm] := List.take_succ_eq_append_getElem hm
  have e2 : l.drop m = l[m]'hm :: l.drop (m + 1) := List.drop_eq_getElem_cons hm
  have hl : (l.take m).length = m := by simp; omega
  rw [e1, e2]
  unfold strVals
  simp only [List.map_append, List.map_cons, List.append_assoc, List.cons_append, List.nil_append]
  have hl' : (List.map Value.string (l.take m)).length = m := by simpa using hl
  rw [List.set_append_right _ _ (by omega), hl', show m + 1 - m = 1 from by omega]
  simp only [List.set_cons_succ, List.set_cons_zero]
  rw [List.set_append_right _ _ (by omega), hl', Nat.sub_self]
  rfl

set_option maxRecDepth 100000 in
set_option maxHeartbeats 800000 in
theorem list_any (w : World) (b : Nat) (D : DS) (F : Nat → FC) (Ft : Nat → Prop) (h : Rep w b D F Ft) (hs : D.dir.length < 1099511627776) :
    Calls Try.prog 7 #[.pointer (some ⟨b, 0, none⟩)] w fun e w' => ∃ v, e = .returned v ∧ w'.ownsRow 0 9 1 v D.dir.length (strVals (dList D.dir)) ∧ Chg (fun _ => False) w w' ∧ (∀ g, v.ownBlock = some g → w.heap.size ≤ g) := by
  obtain ⟨vd, vs, vc, vals, VB, hr, hft⟩ := h
  have HR := hide hr
  have c0 := hr.blk.c0
  obtain ⟨i0, hi, hz0, hz1, hz2⟩ := info_parts Try.infoString
  obtain ⟨a, cap, rfl, z1, z2, hcell⟩ := HR.out.dir.form
  unfold maxLen at z2
  have hb2 : i0.bytes * D.dir.length ≤ 281474976710656 := by rw [hz2]; omega
  have hb3 : D.dir.length ≤ maxLen := by unfold maxLen; omega
  have HB2 := hide hb2
  have HB3 := hide hb3
  clear hr hb2 hb3
  go_enter Try.func7, Try.ntmps7
  go_wp2_with (at_make; refine wpList_make_own _ rfl _ _ 27 rfl 0 9 i0 _ 1 Try.underlying27 hi hz0 hz1 _ _ _ D.dir.length rfl rfl rfl HB2.out HB3.out (Nat.zero_le _) ?_; intro w1 hown1 hg1; have c01 := hg1.cell c0 (by simp); have Hown := hide hown1; clear hown1)
  go_loopw [3, 18] (fun v i wr => ∃ k : Nat, k ≤ D.dir.length ∧ i = .int .i64 k ∧ Chg (fun _ => False) w wr ∧ Hid (wr.ownsRow 0 9 1 v k (strVals (dListK D.dir k))) ∧ Hid (∀ x, v.ownBlock = some x → w.heap.size ≤ x)) (fun _ i _ => D.dir.length - (intOf i).toNat)
  case atStart => exact ⟨0, Nat.zero_le _, rfl, (Chg.refl _ w).grown hg1 (fun k hk => by cases hk), Hown.out, fun x hx => by cases hx; exact Nat.le_refl _⟩
  case round =>
    obtain ⟨k, hk, rfl, hcr, how, hfr⟩ := hrel
    by_cases hlk : k < D.dir.length
    · obtain ⟨g, rfl, hn, hp⟩ := hcell k hlk
      have hgl : g < w.heap.size := World.block_lt_of_cell? w _ hn
      have hn' : wr.cell? ⟨g, k * 2, none⟩ = some (.string (D.dir[k]'hlk).1) := (World.cell?_of_block (hcr.block g hgl (fun h => h))).trans hn
      have hp' : wr.cell? ⟨g, k * 2 + 1, none⟩ = some (.pointer (some ⟨(D.dir[k]'hlk).2, 0, none⟩)) := (World.cell?_of_block (hcr.block g hgl (fun h => h))).trans hp
      have hsz := hcr.size
      have hgr : g < wr.heap.size := by omega
      have how2 := hide ((how.out.alloc (.cells #[.string (D.dir[k]'hlk).1, .pointer (some ⟨(D.dir[k]'hlk).2, 0, none⟩)] 50)).alloc (.cells #[.string (D.dir[k]'hlk).1] 9))
      have hsr := hide (Src.ofNew (size := 1) Try.underlying27 (wr.alloc (.cells #[.string (D.dir[k]'hlk).1, .pointer (some ⟨(D.dir[k]'hlk).2, 0, none⟩)] 50)) #[.string (D.dir[k]'hlk).1] 9 (wr.heap.size + 1) (by simp) 1 1 rfl (by simp [Value.oneCell']))
      clear hn hp hcell
      obtain ⟨x, hx⟩ : ∃ x, (D.dir[k]'hlk).1 = x := ⟨_, rfl⟩
      rw [hx] at hn' how2 hsr
      have Hx := hide hx
      clear hx
      go_wp2_with (at_builtin; refine wpList_app rfl (.tmp 22) (.tmp 25) 27 27 rfl 9 i0 _ 1 16 Try.underlying27 hi hz0 hz1 hz2 rfl (by decide) _ _ _ (by rfl) how2.out _ 1 _ (by rfl) hsr.out (by omega) ?_; intro a3 cap3 w3 hB)
      have hl := hide (dListK_length D.dir k hk)
      obtain ⟨l, hlq⟩ : ∃ l, dListK D.dir k = l := ⟨_, rfl⟩
      have Hlq := hide hlq
      have hll : l.length = k := by rw [← hlq]; exact hl.out
      have hB0 : w3.ownsRow 0 9 1 (.slice a3 (k + 1) cap3) (k + 1) (strVals (l.take k ++ x :: l.drop k)) := by
        have := hB.own
        rw [hlq] at this
        rw [List.take_of_length_le (by omega), List.drop_of_length_le (by omega)]
        simpa [strVals] using this
      have hHB := hide hB0
      have c13 := hide (hB.chg2 ((hcr.alloc _).alloc _) hfr.out)
      have hmax : cap3 ≤ maxLen := by obtain ⟨_, _, he, h1, h2, _⟩ := ownsRow_form hB0; cases he; exact h2
      obtain ⟨g3, hg3⟩ : ∃ g3, a3 = some ⟨g3, 0, none⟩ := by
        obtain ⟨_, _, he, h1, h2, h3, _⟩ := ownsRow_form hB0
        cases he; exact h3 (by omega)
      have Hll := hide hll
      clear hlq hB0 hB how2 hsr how hll
      subst hg3
      have hc3 := hide c13.out.1
      have hf3 := hide (c13.out.2)
      clear c13
      have fin : Hid (∀ (wq : World) (j : Nat), j ≤ k → insPos l x k = j → wq.ownsRow 0 9 1 (.slice (some ⟨g3, 0, none⟩) (k + 1) cap3) (k + 1) (strVals (l.take j ++ x :: l.drop j)) → wq.ownsRow 0 9 1 (.slice (some ⟨g3, 0, none⟩) (k + 1) cap3) (k + 1) (strVals (dListK D.dir (k + 1)))) := by
        intro wq j hj hp h
        rw [dListK_succ D.dir k hlk, Hlq.out, Hx.out, ins, Hll.out, hp]
        exact h
      go_loopw [6] (fun i wq => ∃ j : Nat, j ≤ k ∧ i = .int .i64 j ∧ Hid (Chg (fun _ => False) w wq) ∧ Hid (wq.ownsRow 0 9 1 (.slice (some ⟨g3, 0, none⟩) (k + 1) cap3) (k + 1) (strVals (l.take j ++ x :: l.drop j))) ∧ Hid (insPos l x k = insPos l x j)) (fun i _ => (intOf i).toNat)
      case atStart => exact ⟨k, Nat.le_refl _, rfl, hc3, hHB, rfl⟩
      case round =>
        obtain ⟨j, hj, rfl, hcq, hoq, hpq⟩ := hrel
        by_cases hj0 : j = 0
        · subst hj0
          rw [show ((0 : Nat) : Int) = 0 from rfl]
          go_wp2
          go_quiet (fail)
          go_wp2
          go_roundw
          case rel =>
            refine ⟨k + 1, by omega, by go_num, hcq.out.drewN _, ?_, hf3.out⟩
            exact fin.out _ 0 (by omega) (by rw [hpq.out]; rfl) hoq.out
          case measure => simp [intOf]; omega
        · have hj1 : (0 : Int) < (j : Int) := by omega
          have hj2 : 0 < j := by omega
          have hjk : (j : Int) ≤ (k : Int) := by omega
          have hml : j - 1 < l.length := by have := Hll.out; omega
          have hjl : j ≤ l.length := by have := Hll.out; omega
          obtain ⟨y, hy⟩ : ∃ y, l[j - 1]'hml = y := ⟨_, rfl⟩
          have g1 : wr.cell? ⟨g3, j - 1, none⟩ = some (.string y) := ownsRow_cell hoq.out rfl (by
            unfold strVals
            rw [List.map_append, List.getElem?_append_left (by simp; omega)]
            simp [List.getElem?_take, hml, hy]; omega)
          have g2 : wr.cell? ⟨g3, j, none⟩ = some (.string x) := ownsRow_cell hoq.out rfl (by
            unfold strVals
            rw [List.map_append, List.getElem?_append_right (by simp; omega)]
            simp [Nat.min_eq_left hjl])
          have gz : ∀ o, wr.frozen? ⟨g3, o, none⟩ = false := fun o => ownsRow_frozen hoq.out rfl o
          by_cases hls : less x y = true
          · have hls' : Op.bytesLess x.toList y.toList = true := hls
            have Hls := hide hls
            have Hy := hide hy
            clear hls hy
            go_wp2
            go_quiet (fail)
            go_wp2
            go_region
            go_wp2
            go_roundw
            case rel =>
              refine ⟨j - 1, by omega, by go_num, ?_, ?_, ?_⟩
              · have h1 := ((hcq.out.setCell (p := ⟨g3, j, none⟩) (fun h => by have := hf3.out g3 rfl; simp at h; omega) (.string y)).setCell (p := ⟨g3, j - 1, none⟩) (fun h => by have := hf3.out g3 rfl; simp at h; omega) (.string x))
                exact ⟨h1.os, h1.tape, h1.output, h1.size, h1.block⟩
              · have s1 := (hoq.out.stored j (.string y)).1
                have s2 := (s1.stored (j - 1) (.string x)).1
                have e := swap_list l x (j - 1) hml
                rw [show j - 1 + 1 = j from by omega, Hy.out] at e
                rw [e] at s2
                exact s2
              · have := insPos_step l x (j - 1) hml (by rw [Hy.out]; exact Hls.out)
                rw [show j - 1 + 1 = j from by omega] at this
                unfold Hid; rw [hpq.out]; exact this
            case measure => simp [intOf]; omega
          · have hls0 : less x y = false := by simpa using hls
            have hls' : Op.bytesLess x.toList y.toList = false := hls0
            have Hls := hide hls0
            have Hy := hide hy
            clear hls hy hls0
            go_wp2
            go_quiet (fail)
            go_wp2
            go_roundw
            case rel =>
              refine ⟨k + 1, by omega, by go_num, hcq.out.drewN _, ?_, hf3.out⟩
              refine fin.out _ j hj ?_ hoq.out
              have := insPos_stop l x (j - 1) hml (by rw [Hy.out]; exact Hls.out)
              rw [show j - 1 + 1 = j from by omega] at this
              rw [hpq.out]; exact this
            case measure => simp [intOf]; omega
    · have hkl : k = D.dir.length := by omega
      have Hkl := hide hkl
      clear hkl hcell
      go_wp2
      go_ret
      refine ⟨_, rfl, ?_, hcr, hfr.out⟩
      have := how.out
      rw [Hkl.out] at this
      exact this
end Go.Proofs.Ytodcnkbblippnaa
