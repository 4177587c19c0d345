/-
  The statement PassingCardSaid is proved: the law Passing answers true, at every four numbers; there is no condition.
  Part 28 of 34.
-/
import Derived.Test.YtodcnkbblippnaaGreatDoorPart27
/- Walks: what Compact asks of windows: is a point in one not too old, are two rows of points the same. -/
namespace Go.Proofs.YtodcnkbblippnaaGreatDoor
open Go.RowKit
attribute [local go_sem ↓] NoP_normal

section
set_option maxRecDepth 100000 in
set_option maxHeartbeats 4000000 in
theorem since_any (w : World) (ob : Nat) (oldest : Int) (p : Pu) (hw : w.cell? ⟨ob, 0, none⟩ = some (.int .i64 oldest)) :
    Calls Tryz.prog 111 #[puAgg p, .pointer (some ⟨ob, 0, none⟩)] w fun e w' => e = .returned (.bool (decide (oldest ≤ p.2.1))) ∧ Chg (fun _ => False) w w' := by
  obtain ⟨p1, p2, p3⟩ := p
  unfold puAgg
  dsimp only
  have pbk : PuBlk (w.alloc (.cells #[.int .i64 p1, .int .i64 p2, .int .i64 p3] 113)) w.heap.size p1 p2 p3 := heap_alloc_new w _
  have k : Chg (fun _ => False) w (w.alloc (.cells #[.int .i64 p1, .int .i64 p2, .int .i64 p3] 113)) := (Chg.refl _ w).alloc _
  have c1 := pbk.c1
  have hw2 := k.cellKeep hw
  have K := hide k
  clear pbk k hw
  go_enter Tryz.func111, Tryz.ntmps111
  go_wp2
  go_ret
  exact ⟨rfl, K.out⟩
set_option maxRecDepth 100000 in
set_option maxHeartbeats 4000000 in
theorem indexSince_any (w : World) (v : Value) (l : List Pu) (h : PfSl w v l) (ob : Nat) (oldest : Int) (hw : w.cell? ⟨ob, 0, none⟩ = some (.int .i64 oldest)) :
    Calls Tryz.prog 159 #[v, .func (Fn.func 111) #[] #[.pointer (some ⟨ob, 0, none⟩)]] w fun e w' => ∃ i : Int, e = .returned (.int .i64 i) ∧ decide (0 ≤ i) = l.any (fun p => decide (oldest ≤ p.2.1)) ∧ Chg (fun _ => False) w w' := by
  obtain ⟨va, vcap, rfl, v1, v2, v3, -⟩ := ownsRow_form h
  unfold maxLen at v2
  have H := hide h
  have HW := hide hw
  have HG := hide v3
  clear h hw v3
  go_enter Tryz.func159, Tryz.ntmps159
  go_wp2
  go_loopw [8] (fun iv wr => ∃ k : Nat, iv = .int .i64 k ∧ k ≤ l.length ∧ Hid ((l.take k).any (fun p => decide (oldest ≤ p.2.1)) = false ∧ Chg (fun _ => False) w wr)) (fun iv _ => l.length - (intOf iv).toNat)
  case atStart => exact ⟨0, rfl, by omega, by simp, Chg.refl _ _⟩
  case round =>
    obtain ⟨k, rfl, hk, hI⟩ := hrel
    obtain ⟨i1, i2⟩ := hI.out
    by_cases hk1 : k < l.length
    · obtain ⟨g, rfl⟩ := HG.out (by omega)
      obtain ⟨q1, q2, q3⟩ := puVals_at l k hk1
      have htk : l.take (k + 1) = l.take k ++ [l[k]'hk1] := List.take_succ_eq_append_getElem hk1
      have hmem := List.getElem_mem hk1
      obtain ⟨p, hp⟩ : ∃ p, (l[k]'hk1) = p := ⟨_, rfl⟩
      rw [hp] at q1 q2 q3 htk hmem
      have e1 := i2.cellKeep (ownsRow_cell H.out rfl q1)
      have e2 := i2.cellKeep (ownsRow_cell H.out rfl q2)
      have e3 := i2.cellKeep (ownsRow_cell H.out rfl q3)
      have SC := hide (since_any wr ob oldest p (i2.cellKeep HW.out))
      have I2 := hide i2
      have HT : Hid (decide (oldest ≤ p.2.1) = false → (l.take (k + 1)).any (fun p => decide (oldest ≤ p.2.1)) = false) := fun h => by rw [htk, List.any_append, i1]; simp at h ⊢; exact h
      have HA : Hid (decide (oldest ≤ p.2.1) = true → l.any (fun p => decide (oldest ≤ p.2.1)) = true) := fun h => List.any_eq_true.2 ⟨p, hmem, h⟩
      obtain ⟨d, hd⟩ : ∃ d, decide (oldest ≤ p.2.1) = d := ⟨_, rfl⟩
      rw [hd] at SC HT HA
      obtain ⟨p1, p2, p3⟩ := p
      unfold puAgg at SC
      dsimp only at e1 e2 e3 SC
      have hki : (k : Int) < (l.length : Int) := by omega
      have hk0 : (0 : Int) ≤ (k : Int) := Int.natCast_nonneg _
      clear hI i1 i2 q1 q2 q3 htk hmem hp hd
      cases d with
      | true =>
        have HA1 := hide (HA.out rfl)
        go_wp2_with (fail)
        refine SC.out.mono ?_
        rintro e w6 ⟨rfl, hc6⟩
        have HC6 := hide hc6
        clear hc6 SC
        go_wp2
        go_ret
        exact ⟨_, rfl, by rw [HA1.out]; exact decide_eq_true hk0, I2.out.trans HC6.out fun _ h _ => h⟩
      | false =>
        have HT1 := hide (HT.out rfl)
        go_wp2_with (fail)
        refine SC.out.mono ?_
        rintro e w6 ⟨rfl, hc6⟩
        have HC6 := hide hc6
        clear hc6 SC
        go_wp2
        go_roundw
        case rel => exact ⟨k + 1, by go_num, by omega, HT1.out, I2.out.trans HC6.out fun _ h _ => h⟩
        case measure => simp [intOf]; omega
    · have hkk : k = l.length := by omega
      subst hkk
      rw [List.take_length] at i1
      have I1 := hide i1
      have I2 := hide i2
      have hki : ¬ ((l.length : Int) < (l.length : Int)) := by omega
      clear hI i1 i2
      go_wp2
      go_ret
      exact ⟨_, rfl, by rw [I1.out]; rfl, I2.out⟩
set_option maxRecDepth 100000 in
set_option maxHeartbeats 4000000 in
theorem containsSince_any (w : World) (v : Value) (l : List Pu) (h : PfSl w v l) (ob : Nat) (oldest : Int) (hw : w.cell? ⟨ob, 0, none⟩ = some (.int .i64 oldest)) :
    Calls Tryz.prog 110 #[v, .func (Fn.func 111) #[] #[.pointer (some ⟨ob, 0, none⟩)]] w fun e w' => e = .returned (.bool (l.any (fun p => decide (oldest ≤ p.2.1)))) ∧ Chg (fun _ => False) w w' := by
  have IX := hide (indexSince_any w v l h ob oldest hw)
  obtain ⟨va, vcap, rfl, v1, v2, -⟩ := ownsRow_form h
  obtain ⟨d, hd⟩ : ∃ d, l.any (fun p => decide (oldest ≤ p.2.1)) = d := ⟨_, rfl⟩
  rw [hd] at IX ⊢
  clear h hw hd
  go_enter Tryz.func110, Tryz.ntmps110
  go_wp2_with (fail)
  refine IX.out.mono ?_
  rintro e w1 ⟨i, rfl, hi, hc⟩
  have HI := hide hi
  have HC := hide hc
  clear hi hc IX
  go_wp2
  go_ret
  exact ⟨by rw [← HI.out]; rfl, HC.out⟩
end
end Go.Proofs.YtodcnkbblippnaaGreatDoor
/- Walks: are two rows of Puts the same: slices.Equal, and Compact's question of a segment. -/
namespace Go.Proofs.YtodcnkbblippnaaGreatDoor
open Go.RowKit
attribute [local go_sem ↓] NoP_normal

section
set_option maxRecDepth 100000 in
set_option maxHeartbeats 4000000 in
theorem equalPut_any (w : World) (x y : Value) (l1 l2 : List Pu) (h1 : PfSl w x l1) (h2 : PfSl w y l2) :
    Calls Tryz.prog 114 #[x, y] w fun e w' => e = .returned (.bool (decide (l1 = l2))) ∧ Chg (fun _ => False) w w' := by
  obtain ⟨va, vcap, rfl, v1, v2, v3, -⟩ := ownsRow_form h1
  obtain ⟨ua, ucap, rfl, u1, u2, u3, -⟩ := ownsRow_form h2
  unfold maxLen at v2 u2
  have H1 := hide h1
  have H2 := hide h2
  have G1 := hide v3
  have G2 := hide u3
  by_cases hl : l1.length = l2.length
  case neg =>
    have hne : ¬ l1 = l2 := fun e => hl (by rw [e])
    rw [decide_eq_false hne]
    have hlb : ((l1.length : Int) != (l2.length : Int)) = true := by simp; omega
    clear h1 h2 v3 u3 hl hne
    go_enter Tryz.func114, Tryz.ntmps114
    go_wp2
    go_ret
    exact ⟨rfl, Chg.refl _ _⟩
  case pos =>
  have HLE := hide hl
  have hlb : ((l1.length : Int) != (l2.length : Int)) = false := by simp; omega
  clear h1 h2 v3 u3 hl
  go_enter Tryz.func114, Tryz.ntmps114
  go_wp2
  go_loopw [13] (fun iv wr => ∃ k : Nat, iv = .int .i64 k ∧ k ≤ l1.length ∧ Hid (l1.take k = l2.take k ∧ Chg (fun _ => False) w wr)) (fun iv _ => l1.length - (intOf iv).toNat)
  case atStart => exact ⟨0, rfl, by omega, by simp, Chg.refl _ _⟩
  case round =>
    obtain ⟨k, rfl, hk, hI⟩ := hrel
    obtain ⟨i1, i2⟩ := hI.out
    by_cases hk1 : k < l1.length
    · have hk2 : k < l2.length := by have := HLE.out; omega
      obtain ⟨g, rfl⟩ := G1.out (by omega)
      obtain ⟨g', rfl⟩ := G2.out (by omega)
      obtain ⟨p1, p2, p3⟩ := puVals_at l1 k hk1
      obtain ⟨q1, q2, q3⟩ := puVals_at l2 k hk2
      have ht1 : l1.take (k + 1) = l1.take k ++ [l1[k]'hk1] := List.take_succ_eq_append_getElem hk1
      have ht2 : l2.take (k + 1) = l2.take k ++ [l2[k]'hk2] := List.take_succ_eq_append_getElem hk2
      have hat : l1 = l2 → (l1[k]'hk1) = (l2[k]'hk2) := fun e => by subst e; rfl
      obtain ⟨p, hp⟩ : ∃ p, (l1[k]'hk1) = p := ⟨_, rfl⟩
      obtain ⟨q, hq⟩ : ∃ q, (l2[k]'hk2) = q := ⟨_, rfl⟩
      rw [hp] at p1 p2 p3 ht1 hat
      rw [hq] at q1 q2 q3 ht2 hat
      have HT : Hid (p = q → l1.take (k + 1) = l2.take (k + 1)) := fun e => by rw [ht1, ht2, i1, e]
      have HNE : Hid (¬ p = q → decide (l1 = l2) = false) := fun h => decide_eq_false fun e => h (hat e)
      have SS : Hid (∀ wx, Chg (fun _ => False) wr wx → wx.cell? ⟨g, k * 3, none⟩ = some (.int .i64 p.1) ∧ wx.cell? ⟨g, k * 3 + 1, none⟩ = some (.int .i64 p.2.1) ∧ wx.cell? ⟨g, k * 3 + 2, none⟩ = some (.int .i64 p.2.2) ∧ wx.cell? ⟨g', k * 3, none⟩ = some (.int .i64 q.1) ∧ wx.cell? ⟨g', k * 3 + 1, none⟩ = some (.int .i64 q.2.1) ∧ wx.cell? ⟨g', k * 3 + 2, none⟩ = some (.int .i64 q.2.2)) := fun wx hx =>
        ⟨hx.cellKeep (i2.cellKeep (ownsRow_cell H1.out rfl p1)), hx.cellKeep (i2.cellKeep (ownsRow_cell H1.out rfl p2)), hx.cellKeep (i2.cellKeep (ownsRow_cell H1.out rfl p3)), hx.cellKeep (i2.cellKeep (ownsRow_cell H2.out rfl q1)), hx.cellKeep (i2.cellKeep (ownsRow_cell H2.out rfl q2)), hx.cellKeep (i2.cellKeep (ownsRow_cell H2.out rfl q3))⟩
      have I2 := hide i2
      obtain ⟨pa, pb, pc⟩ := p
      obtain ⟨qa, qb, qc⟩ := q
      dsimp only at SS
      have hki : (k : Int) < (l1.length : Int) := by omega
      have hkj : (k : Int) < (l2.length : Int) := by omega
      have hk0 : (0 : Int) ≤ (k : Int) := Int.natCast_nonneg _
      have S0 := SS.out wr.drew (Chg.refl _ wr).drew
      clear hI i1 i2 p1 p2 p3 q1 q2 q3 ht1 ht2 hat hp hq hk2
      go_wp2
      refine wp_region_sch (fun w' => w'.cell? ⟨g, k * 3, none⟩ = some (.int .i64 pa) ∧ w'.cell? ⟨g, k * 3 + 1, none⟩ = some (.int .i64 pb) ∧ w'.cell? ⟨g, k * 3 + 2, none⟩ = some (.int .i64 pc) ∧ w'.cell? ⟨g', k * 3, none⟩ = some (.int .i64 qa) ∧ w'.cell? ⟨g', k * 3 + 1, none⟩ = some (.int .i64 qb) ∧ w'.cell? ⟨g', k * 3 + 2, none⟩ = some (.int .i64 qc)) 8
        [(0, true), (1, true), (2, true), (3, true), (4, true), (5, true), (6, true), (7, true)] (by kernel_rfl) (by kernel_rfl) (fun _ _ _ _ _ h => h) S0 ?_
      iterate 8 (refine wpSch_take (v := ?_) rfl (by rfl) ?_ ?_; rotate_left; (· (intro w' hS; (try dsimp only at hS); go_simp; try with_reducible rfl)); (try simp only [Act.put, List.setIfInBounds_toArray, List.set_cons_zero, List.set_cons_succ, List.getElem_toArray, List.getElem_cons_zero, List.getElem_cons_succ]))
      refine wpSch_end ?_
      simp only [List.drop_succ_cons, List.drop_zero]
      by_cases hpq : (pa, pb, pc) = (qa, qb, qc)
      · have HT1 := hide (HT.out hpq)
        obtain ⟨rfl, rfl, rfl⟩ : pa = qa ∧ pb = qb ∧ pc = qc := by simpa using hpq
        clear hpq HT HNE
        go_wp2
        go_roundw
        case rel => exact ⟨k + 1, by go_num, by omega, HT1.out, I2.out.drew⟩
        case measure => simp [intOf]; omega
      · have HN1 := hide (HNE.out hpq)
        have hcs : ¬ pa = qa ∨ (pa = qa ∧ ¬ pb = qb) ∨ (pa = qa ∧ pb = qb ∧ ¬ pc = qc) := by
          by_cases ha : pa = qa
          · by_cases hb : pb = qb
            · exact .inr (.inr ⟨ha, hb, fun hc => hpq (by rw [ha, hb, hc])⟩)
            · exact .inr (.inl ⟨ha, hb⟩)
          · exact .inl ha
        clear hpq HT HNE
        rcases hcs with ha | ⟨rfl, hb⟩ | ⟨rfl, rfl, hc⟩
        · have hab : (pa == qa) = false := by simpa using ha
          go_wp2
          go_ret
          exact ⟨by rw [HN1.out]; rfl, I2.out.drew⟩
        · have hab : (pb == qb) = false := by simpa using hb
          go_wp2
          go_ret
          exact ⟨by rw [HN1.out]; rfl, I2.out.drew⟩
        · have hab : (pc == qc) = false := by simpa using hc
          go_wp2
          go_ret
          exact ⟨by rw [HN1.out]; rfl, I2.out.drew⟩
    · have hkk : k = l1.length := by omega
      have he : l1 = l2 := by
        have h1 := i1
        rw [hkk, List.take_length] at h1
        rw [HLE.out, List.take_length] at h1
        exact h1
      have I2 := hide i2
      have hki : ¬ ((k : Int) < (l1.length : Int)) := by omega
      have HE := hide he
      clear hI i1 i2 he hkk
      go_wp2
      go_ret
      exact ⟨by rw [decide_eq_true HE.out]; rfl, I2.out⟩
set_option maxRecDepth 100000 in
set_option maxHeartbeats 4000000 in
theorem segIs_any {B0 b : Nat} (w : World) (gb pb : Nat) (x : Int × List Pu) (h : SgAt w B0 b gb x) (pv : Value) (l : List Pu) (hp : w.cell? ⟨pb, 0, none⟩ = some pv) (hl : PfSl w pv l) :
    Calls Tryz.prog 113 #[.pointer (some ⟨gb, 0, none⟩), .pointer (some ⟨pb, 0, none⟩)] w fun e w' => e = .returned (.bool (decide (x.2 = l))) ∧ Chg (fun _ => False) w w' := by
  obtain ⟨sv, s1, s2, -, -⟩ := h
  obtain ⟨sa, scap, rfl, c1, c2, -⟩ := ownsRow_form s2
  obtain ⟨pa, pcap, rfl, d1, d2, -⟩ := ownsRow_form hl
  have f4 : w.drew.cell? ⟨gb, 4, none⟩ = some (.slice sa x.2.length scap) := s1.c4
  have hp2 : w.drew.cell? ⟨pb, 0, none⟩ = some (.slice pa l.length pcap) := hp
  have EQ := hide (equalPut_any w.drew _ _ x.2 l (ownsRow_same s2 fun _ _ => rfl) (ownsRow_same hl fun _ _ => rfl))
  obtain ⟨d, hd⟩ : ∃ d, decide (x.2 = l) = d := ⟨_, rfl⟩
  rw [hd] at EQ ⊢
  obtain ⟨n1, hn1⟩ : ∃ n1, x.2.length = n1 := ⟨_, rfl⟩
  rw [hn1] at EQ f4
  clear s1 s2 hl hp c1 c2 d1 d2 hd hn1
  go_enter Tryz.func113, Tryz.ntmps113
  go_wp2
  refine wp_region_sch (fun w' => w'.cell? ⟨gb, 4, none⟩ = some (.slice sa n1 scap) ∧ w'.cell? ⟨pb, 0, none⟩ = some (.slice pa l.length pcap)) 6
    [(0, true), (1, true), (2, true), (3, true), (4, true), (5, false)] (by kernel_rfl) (by kernel_rfl) (fun _ _ _ _ _ h => h) ⟨f4, hp2⟩ ?_
  iterate 5 (refine wpSch_take (v := ?_) rfl (by rfl) ?_ ?_; rotate_left; (· (intro w' hS; (try dsimp only at hS); go_simp; try with_reducible rfl)); (try simp only [Act.put, List.setIfInBounds_toArray, List.set_cons_zero, List.set_cons_succ, List.getElem_toArray, List.getElem_cons_zero, List.getElem_cons_succ]))
  refine wpSch_do rfl (by rfl) (fun K hK => ?_)
  go_simp
  refine EQ.out.mono ?_
  rintro e w6 ⟨rfl, hc6⟩
  refine hK _ _ ⟨hc6.cellKeep f4, hc6.cellKeep hp2⟩ (fun hS => ?_)
  have HC6 : Hid (Chg (fun _ => False) w w6) := ((Chg.refl _ w).drew).trans hc6 fun _ h _ => h
  clear hK K hS hc6 EQ
  (try simp only [Act.put, List.setIfInBounds_toArray, List.set_cons_zero, List.set_cons_succ, List.getElem_toArray, List.getElem_cons_zero, List.getElem_cons_succ])
  refine wpSch_end ?_
  simp only [List.drop_succ_cons, List.drop_zero]
  go_wp2
  go_ret
  exact ⟨rfl, HC6.out⟩
set_option maxRecDepth 100000 in
set_option maxHeartbeats 4000000 in
theorem indexSeg_any {B0 b : Nat} (w : World) (v : Value) (segs : List (Int × List Pu)) (h : SgSl w B0 b v segs) (pb : Nat) (pv : Value) (l : List Pu) (hp : w.cell? ⟨pb, 0, none⟩ = some pv) (hl : PfSl w pv l) :
    Calls Tryz.prog 112 #[v, .func (Fn.func 113) #[] #[.pointer (some ⟨pb, 0, none⟩)]] w fun e w' =>
      ((e = .returned (.int .i64 (-1)) ∧ segs.find? (fun s => decide (s.2 = l)) = none) ∨ ∃ (k : Nat) (hk : k < segs.length), e = .returned (.int .i64 k) ∧ segs.find? (fun s => decide (s.2 = l)) = some (segs[k]'hk)) ∧ Chg (fun _ => False) w w' := by
  obtain ⟨gbs, j1, j2, j3, j4⟩ := h
  obtain ⟨va, vcap, rfl, v1, v2, v3, -⟩ := ownsRow_form j2
  unfold maxLen at v2
  have J2 := hide j2
  have J4 := hide j4
  have G := hide v3
  have HP := hide hp
  have HL := hide hl
  clear j2 j3 j4 v3 hp hl
  go_enter Tryz.func112, Tryz.ntmps112
  go_wp2
  go_loopw [8] (fun iv wr => ∃ k : Nat, iv = .int .i64 k ∧ k ≤ segs.length ∧ Hid ((segs.take k).find? (fun s => decide (s.2 = l)) = none ∧ Chg (fun _ => False) w wr)) (fun iv _ => segs.length - (intOf iv).toNat)
  case atStart => exact ⟨0, rfl, by omega, by simp, Chg.refl _ _⟩
  case round =>
    obtain ⟨k, rfl, hk, hI⟩ := hrel
    obtain ⟨i1, i2⟩ := hI.out
    by_cases hk1 : k < segs.length
    · have hgk : k < gbs.length := by omega
      obtain ⟨g, rfl⟩ := G.out (by omega)
      have hc : w.cell? ⟨g, k, none⟩ = some (.pointer (some ⟨gbs[k]'hgk, 0, none⟩)) := ownsRow_cell J2.out rfl (by simp [sgVals, hgk])
      have hat := J4.out k hgk hk1
      have hsp : segs = segs.take k ++ (segs[k]'hk1) :: segs.drop (k + 1) := by
        conv => lhs; rw [← List.take_append_drop k segs, List.drop_eq_getElem_cons hk1]
      have htk : segs.take (k + 1) = segs.take k ++ [segs[k]'hk1] := List.take_succ_eq_append_getElem hk1
      obtain ⟨gb, hgb⟩ : ∃ gb, (gbs[k]'hgk) = gb := ⟨_, rfl⟩
      rw [hgb] at hc hat
      have e1 := i2.cellKeep hc
      have SI := hide (segIs_any wr gb pb (segs[k]'hk1) (hat.chg0 i2) pv l (i2.cellKeep HP.out) (ownsRow_same HL.out fun g hg => i2.block g (ownsRow_lt HL.out hg) (fun h => h)))
      have I2 := hide i2
      have HT : Hid (decide ((segs[k]'hk1).2 = l) = false → (segs.take (k + 1)).find? (fun s => decide (s.2 = l)) = none) := fun h => by
        rw [htk, List.find?_append, i1, List.find?_cons_of_neg (by rw [h]; simp)]; rfl
      have HA : Hid (decide ((segs[k]'hk1).2 = l) = true → segs.find? (fun s => decide (s.2 = l)) = some (segs[k]'hk1)) := fun h => by
        have e : (segs.take k ++ (segs[k]'hk1) :: segs.drop (k + 1)).find? (fun s => decide (s.2 = l)) = some (segs[k]'hk1) := by
          rw [List.find?_append, i1, List.find?_cons_of_pos (by exact h)]; rfl
        rwa [← hsp] at e
      obtain ⟨d, hd⟩ : ∃ d, decide ((segs[k]'hk1).2 = l) = d := ⟨_, rfl⟩
      rw [hd] at SI HT HA
      have hki : (k : Int) < (segs.length : Int) := by omega
      have hk0 : (0 : Int) ≤ (k : Int) := Int.natCast_nonneg _
      clear hI i1 i2 hc hat hsp htk hgb hd
      cases d with
      | true =>
        have HA1 := hide (HA.out rfl)
        clear HT HA
        go_wp2_with (fail)
        refine SI.out.mono ?_
        rintro e w6 ⟨rfl, hc6⟩
        have HC6 := hide hc6
        clear hc6 SI
        go_wp2
        go_ret
        exact ⟨.inr ⟨k, hk1, rfl, HA1.out⟩, I2.out.trans HC6.out fun _ h _ => h⟩
      | false =>
        have HT1 := hide (HT.out rfl)
        clear HT HA
        go_wp2_with (fail)
        refine SI.out.mono ?_
        rintro e w6 ⟨rfl, hc6⟩
        have HC6 := hide hc6
        clear hc6 SI
        go_wp2
        go_roundw
        case rel => exact ⟨k + 1, by go_num, by omega, HT1.out, I2.out.trans HC6.out fun _ h _ => h⟩
        case measure => simp [intOf]; omega
    · have hkk : k = segs.length := by omega
      subst hkk
      rw [List.take_length] at i1
      have I1 := hide i1
      have I2 := hide i2
      have hki : ¬ ((segs.length : Int) < (segs.length : Int)) := by omega
      clear hI i1 i2
      go_wp2
      go_ret
      exact ⟨.inl ⟨rfl, by simpa using I1.out⟩, I2.out⟩
end
end Go.Proofs.YtodcnkbblippnaaGreatDoor
/- Walks: the archive's Compact: all comes into one segment for each window. -/
namespace Go.Proofs.YtodcnkbblippnaaGreatDoor
open Go.RowKit
attribute [local go_sem ↓] NoP_normal

theorem keptOf_cons (segs : List (Int × List Pu)) (oldest : Int) (l : List Pu) (r : List (List Pu)) : keptOf segs oldest (l :: r) = if l.any (fun p => decide (oldest ≤ p.2.1)) = false then keptOf segs oldest r else
    match segs.find? fun s => decide (s.2 = l) with
    | none => ((keptOf segs oldest r).1, l :: (keptOf segs oldest r).2)
    | some s => (s.1 :: (keptOf segs oldest r).1, (keptOf segs oldest r).2) := rfl
theorem keptOf_shape (segs : List (Int × List Pu)) (oldest : Int) : ∀ ws : List (List Pu), (keptOf segs oldest ws).1.length + (keptOf segs oldest ws).2.length ≤ ws.length ∧ (∀ n ∈ (keptOf segs oldest ws).1, ∃ s ∈ segs, s.1 = n) ∧ (∀ l ∈ (keptOf segs oldest ws).2, l ∈ ws) ∧ sumPu (keptOf segs oldest ws).2 ≤ sumPu ws
  | [] => ⟨Nat.le_refl _, (fun n hn => absurd hn List.not_mem_nil), (fun l hl => hl), Nat.le_refl _⟩
  | l :: r => by
    obtain ⟨h1, h2, h3, h4⟩ := keptOf_shape segs oldest r
    rw [keptOf_cons, sumPu_cons]
    split
    · exact ⟨by simp; omega, h2, fun x hx => List.mem_cons_of_mem _ (h3 x hx), by omega⟩
    · split
      · refine ⟨by simp; omega, h2, fun x hx => ?_, by rw [sumPu_cons]; omega⟩
        rcases List.mem_cons.1 hx with rfl | hx
        · exact List.mem_cons_self
        · exact List.mem_cons_of_mem _ (h3 x hx)
      · rename_i s hs
        refine ⟨by simp; omega, fun n hn => ?_, fun x hx => List.mem_cons_of_mem _ (h3 x hx), by dsimp only; omega⟩
        rcases List.mem_cons.1 hn with rfl | hn
        · exact ⟨s, List.mem_of_find?_eq_some hs, rfl⟩
        · exact h2 n hn
theorem segs_nums {P : PD} : ∀ (ss : List Int) (l : List (Int × List Pu)), P.segs ss = some l → ∀ x ∈ l, x.1 ∈ ss
  | [], l, h => by cases h; exact fun x hx => by cases hx
  | n :: r, l, h => by
    unfold PD.segs at h
    cases hx : P.seg n with
    | none => rw [hx] at h; cases h
    | some q =>
      rw [hx] at h
      dsimp only at h
      cases hy : P.segs r with
      | none => rw [hy] at h; cases h
      | some y =>
        rw [hy] at h
        cases h
        intro x hx'
        rcases List.mem_cons.1 hx' with rfl | hx'
        · exact List.mem_cons_self
        · exact List.mem_cons_of_mem _ (segs_nums r y hy x hx')
section
variable {N ab b a c m B : Nat} {A : Ar} {P : PD} {FT : Nat → Prop}
/-- The loop's rows: numbers that stay, windows that are to be made, from a world on. -/
structure KpB (w5 w : World) (B0 : Nat) (vk vf : Value) (kk : List Int) (ff : List (List Pu)) : Prop where
  chg : Chg (fun _ => False) w5 w
  kept : InSl w vk kk
  keptO : ∀ g, vk.ownBlock = some g → w5.heap.size ≤ g
  fresh : ∃ fvs : List Value, fvs.length = ff.length ∧ w.ownsRow 0 97 1 vf ff.length fvs ∧ (∀ g, vf.ownBlock = some g → w5.heap.size ≤ g) ∧ (∀ k (h1 : k < fvs.length) (h2 : k < ff.length), PfSl w5 (fvs[k]'h1) (ff[k]'h2)) ∧ ∀ x ∈ fvs, ∀ g, x.ownBlock = some g → B0 ≤ g
theorem KpB.keep0 {w5 w w' : World} {B0 : Nat} {vk vf : Value} {kk : List Int} {ff : List (List Pu)} (h : KpB w5 w B0 vk vf kk ff) (hc : Chg (fun _ => False) w w') : KpB w5 w' B0 vk vf kk ff := by
  obtain ⟨fvs, f1, f2, f3, f4, f5⟩ := h.fresh
  exact ⟨h.chg.trans hc fun _ h _ => h, ownsRow_same h.kept fun g hg => hc.block g (ownsRow_lt h.kept hg) (fun h => h), h.keptO, fvs, f1, ownsRow_same f2 fun g hg => hc.block g (ownsRow_lt f2 hg) (fun h => h), f3, f4, f5⟩
theorem KpB.addK {w5 w w' : World} {B0 : Nat} {vk vk' vf : Value} {kk : List Int} {ff : List (List Pu)} {n : Int} (h : KpB w5 w B0 vk vf kk ff) (hA : App w w' 3 1 vk vk' (kk.length + 1) (intVals kk ++ intVals [n])) : KpB w5 w' B0 vk' vf (kk ++ [n]) ff := by
  have hc := hA.chg (S := fun k => vk.ownBlock = some k) fun _ h => h
  obtain ⟨fvs, f1, f2, f3, f4, f5⟩ := h.fresh
  refine ⟨h.chg.trans hc fun x hx hlt => by have := h.keptO x hx; omega, ?_, fun g hg => ?_, fvs, f1, ownsRow_same f2 fun g hg => hc.block g (ownsRow_lt f2 hg) fun hx => elemOther f2 h.kept (by decide) hg hx, f3, f4, f5⟩
  · have e : (kk ++ [n]).length = kk.length + 1 := by simp
    unfold InSl
    rw [intVals_append, e]
    exact hA.own
  · rcases hA.at_ with h1 | h1
    · rw [h1] at hg; exact h.keptO g hg
    · rw [h1] at hg; cases hg; exact h.chg.size
theorem KpB.addF {w5 w w' : World} {B0 : Nat} {vk vf vf' x : Value} {kk : List Int} {ff : List (List Pu)} {l : List Pu} (h : KpB w5 w B0 vk vf kk ff) (hx : PfSl w5 x l) (hxB : ∀ g, x.ownBlock = some g → B0 ≤ g) (fvs : List Value) (f1 : fvs.length = ff.length) (f2 : w.ownsRow 0 97 1 vf ff.length fvs) (f3 : ∀ g, vf.ownBlock = some g → w5.heap.size ≤ g) (f4 : ∀ k (h1 : k < fvs.length) (h2 : k < ff.length), PfSl w5 (fvs[k]'h1) (ff[k]'h2)) (f5 : ∀ x ∈ fvs, ∀ g, x.ownBlock = some g → B0 ≤ g)
    (hA : App w w' 97 1 vf vf' (ff.length + 1) (fvs ++ [x])) : KpB w5 w' B0 vk vf' kk (ff ++ [l]) := by
  have hc := hA.chg (S := fun k => vf.ownBlock = some k) fun _ h => h
  refine ⟨h.chg.trans hc fun x hx hlt => by have := f3 x hx; omega, ownsRow_same h.kept fun g hg => hc.block g (ownsRow_lt h.kept hg) fun hx => elemOther h.kept f2 (by decide) hg hx, h.keptO, fvs ++ [x], by simp [f1], ?_, fun g hg => ?_, fun k h1 h2 => ?_, fun y hy g hg => ?_⟩
  · have e : (ff ++ [l]).length = ff.length + 1 := by simp
    rw [e]; exact hA.own
  · rcases hA.at_ with h1 | h1
    · rw [h1] at hg; exact f3 g hg
    · rw [h1] at hg; cases hg; exact h.chg.size
  · by_cases hk : k < ff.length
    · rw [List.getElem_append_left (show k < fvs.length by omega), List.getElem_append_left hk]
      exact f4 k (by omega) hk
    · have hk2 : k = ff.length := by simp at h2; omega
      have e1 : (fvs ++ [x])[k]'h1 = x := by
        have : k = fvs.length := by omega
        subst this; simp
      have e2 : (ff ++ [l])[k]'h2 = l := by subst hk2; simp
      rw [e1, e2]; exact hx
  · rcases List.mem_append.1 hy with hy | hy
    · exact f5 y hy g hg
    · rw [List.mem_singleton.1 hy] at hg; exact hxB g hg
end
end Go.Proofs.YtodcnkbblippnaaGreatDoor
