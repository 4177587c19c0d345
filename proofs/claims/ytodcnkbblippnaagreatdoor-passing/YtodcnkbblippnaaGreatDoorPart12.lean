/-
  The statement PassingCardSaid is proved: the law Passing answers true, at every four numbers; there is no condition.
  Part 12 of 34.
-/
import Derived.Test.YtodcnkbblippnaaGreatDoorPart11
import Derived.Lib.AtoiAllCases
/- Walks: a log is read: ReadLog, the walk. -/
namespace Go.Proofs.YtodcnkbblippnaaGreatDoor
open Go.RowKit
attribute [local go_sem ↓] Go.wp_at_zero Go.wp_at_succ

section
variable {w : World} {b B : Nat} {D : DS} {F : Nat → FC} {Ft : Nat → Prop} {n : Int}
/-- What ReadLog tells of a disk. -/
def readLogN (D : DS) (F : Nat → FC) (nm : List UInt8) (ahead : Int) : List Pu × Int :=
  if (allN D F ⟨nm.toArray⟩).2 ≠ 0 then ([], (allN D F ⟨nm.toArray⟩).2) else readN (sum0 nm) ahead (allN D F ⟨nm.toArray⟩).1
set_option maxRecDepth 100000 in
set_option maxHeartbeats 4000000 in
theorem readLog_any (w : World) (ahead : Int) (h : RepU w b D F Ft) (hlt : ∀ k, Ft k → k < w.heap.size) (hn : NumOk n) (hL : Lets B w) (hsz : (allN D F ⟨(nmOf 1 n).toArray⟩).1.length ≤ 70368744177664) :
    Calls Tryz.prog 149 #[.pointer (some ⟨b, 0, none⟩), .int .i64 n, .int .i64 ahead] w fun e w' => ∃ v, e = .returned (.tuple #[v, .int .i64 (readLogN D F (nmOf 1 n) ahead).2]) ∧ PfSl w' v (readLogN D F (nmOf 1 n) ahead).1 ∧ (∀ g, v.ownBlock = some g → w.heap.size ≤ g) ∧ Chg (fun _ => False) w w' := by
  have LO := hide (logOf_any w b hn hL)
  obtain ⟨nm, hnm⟩ : ∃ nm, nmOf 1 n = nm := ⟨_, rfl⟩
  rw [hnm] at LO hsz ⊢
  have hs0 : Hid (sum0 nm < 4294967296) := sum0_lt nm
  have H := hide h
  have HLT := hide hlt
  obtain ⟨R, hR⟩ : ∃ R, readLogN D F nm ahead = R := ⟨_, rfl⟩
  rw [hR]
  unfold readLogN at hR
  obtain ⟨al, hal⟩ : ∃ al, (allN D F ⟨nm.toArray⟩).1 = al := ⟨_, rfl⟩
  obtain ⟨ae, hae⟩ : ∃ ae, (allN D F ⟨nm.toArray⟩).2 = ae := ⟨_, rfl⟩
  have AL : Hid (∀ w1 lb, Chg (fun _ => False) w w1 → FlBlk w1 lb 237 (.pointer (some ⟨b, 0, none⟩)) ⟨nm.toArray⟩ (sum0 nm) →
      Calls Tryz.prog 166 #[.pointer (some ⟨lb, 0, none⟩)] w1 fun e w' => e = .returned (.tuple #[.string ⟨al.toArray⟩, .int .i64 ae]) ∧ Chg (fun _ => False) w1 w') := fun w1 lb k1 hf => by
    have := allF hf (H.out.same HLT.out k1)
    rwa [hal, hae] at this
  rw [hal, hae] at hR
  rw [hal] at hsz
  obtain ⟨s0, hs⟩ : ∃ s0, sum0 nm = s0 := ⟨_, rfl⟩
  rw [hs] at LO hs0 hR AL
  have HR := hide hR
  obtain ⟨i0, hi, hz0, hz1, hz2⟩ := info_parts info_put_f
  clear h hlt hR hal hae hs hnm hn hL H HLT
  go_enter Tryz.func149, Tryz.ntmps149
  go_wp2_with (go_at_call 192; refine LO.out.mono ?_; rintro e w1 ⟨lb, rfl, hf1, hc1, hlb⟩; have AL1 := hide (AL.out w1 lb hc1 hf1); have HF1 := hide hf1; have HC1 := hide hc1; have HLB := hide hlb; clear hf1 hc1 hlb LO AL)
  refine AL1.out.mono ?_
  rintro e w2 ⟨rfl, hc2⟩
  have HF2 := hide (HF1.out.keep hc2 (fun h => h))
  have HC2 : Hid (Chg (fun _ => False) w w2) := HC1.out.trans hc2 fun _ h _ => h
  clear hc2 AL1 HF1 HC1
  have FIN0 : Hid (∀ x : Int, R = ([], x) → ∀ w3, Chg (fun _ => False) w w3 → ∃ v, (Ending.returned (.tuple #[.slice none 0 0, .int .i64 x]) : Ending) = .returned (.tuple #[v, .int .i64 R.2]) ∧ PfSl w3 v R.1 ∧ (∀ g, v.ownBlock = some g → w.heap.size ≤ g) ∧ Chg (fun _ => False) w w3) := fun x hx w3 h3 => by
    subst hx
    exact ⟨_, rfl, World.ownsRow_nil _ _ _ _, fun g hg => by simp [Value.ownBlock] at hg, h3⟩
  by_cases he : ae = 0
  case neg =>
    have hR2 : R = ([], ae) := by rw [← HR.out, if_pos he]
    go_wp2
    go_ret2
    exact FIN0.out _ hR2 _ HC2.out
  case pos =>
  subst he
  have hlen : (ByteArray.mk al.toArray).size = al.length := by show al.toArray.size = _; simp
  by_cases h12 : al.length < 12
  case pos =>
    have hR2 : R = ([], 0) := by rw [← HR.out, if_neg (by simp)]; unfold readN; rw [if_pos h12]
    go_wp2
    go_ret2
    exact FIN0.out _ hR2 _ HC2.out
  case neg =>
  obtain ⟨hd, t4, r, rfl, hd8, ht4⟩ := head_split (l := al) (by omega)
  have hR1 : R = if sumB (sumOn s0 hd) = t4 ∧ intN hd = ahead then (if (readP (r.length + 12) (sumOn s0 hd) r).2 = true then ((readP (r.length + 12) (sumOn s0 hd) r).1, 0) else ([], 7)) else ([], 7) := by
    rw [← HR.out, if_neg (by simp), readN_split hd8 ht4]
  have HR1 := hide hR1
  clear hR1 HR
  have UN := hide (unseal_any w2.drew lb 237 _ _ s0 hd t4 HF2.out hs0.out ht4 (by omega))
  have e1 : (ByteArray.mk (hd ++ t4 ++ r).toArray).extract 0 12 = ⟨(hd ++ t4).toArray⟩ := by
    rw [extract_mk, List.drop_zero, List.take_append_of_le_length (by simp [hd8, ht4]), List.take_of_length_le (by simp [hd8, ht4])]
  obtain ⟨tx, htx⟩ : ∃ tx, ByteArray.mk (hd ++ t4 ++ r).toArray = tx := ⟨_, rfl⟩
  have hsz2 : tx.extract 12 (r.length + 12) = ⟨r.toArray⟩ := by
    rw [← htx, extract_mk]
    congr 2
    rw [List.drop_append, List.drop_of_length_le (by simp [hd8, ht4]), List.nil_append, show 12 - (hd ++ t4).length = 0 by simp [hd8, ht4], List.drop_zero, List.take_of_length_le (by omega)]
  have hln : (hd ++ t4 ++ r).length = r.length + 12 := by simp [hd8, ht4]; omega
  rw [htx] at e1 hlen ⊢
  rw [hln] at hlen hsz h12
  have hle0 : (0 : Int) ≤ (r.length : Int) := Int.natCast_nonneg _
  obtain ⟨rl, hrl⟩ : ∃ rl, r.length = rl := ⟨_, rfl⟩
  rw [hrl] at hlen hsz h12 hsz2 hle0
  have HRL := hide hrl
  clear hln htx hrl
  go_wp2
  refine wp_region_sch (fun _ => True) 10
    [(0, true), (1, true), (2, true), (3, true), (4, true), (5, false), (6, true), (7, true), (8, true), (9, true)] (by kernel_rfl) (by kernel_rfl) (fun _ _ _ _ _ h => h) trivial ?_
  iterate 5 (refine wpSch_take (v := ?_) rfl (by rfl) ?_ ?_; rotate_left; (· (intro w' hS; (try dsimp only at hS); go_simp; try with_reducible rfl)); (try simp only [Act.put, List.setIfInBounds_toArray, List.set_cons_zero, List.set_cons_succ, List.getElem_toArray, List.getElem_cons_zero, List.getElem_cons_succ]))
  refine wpSch_do rfl (by rfl) (fun K hK => ?_)
  go_simp
  refine UN.out.mono ?_
  rintro e w3 ⟨rfl, hf3, hc3⟩
  refine hK _ _ trivial (fun hS => ?_)
  have HF3 := hide hf3
  have HC3 : Hid (Chg (fun _ => False) w w3) := HC2.out.drew.trans hc3 fun k hk hlt => by cases hk; have := HLB.out; omega
  clear hK K hS hf3 hc3 UN HF2 HC2
  (try simp only [Act.put, List.setIfInBounds_toArray, List.set_cons_zero, List.set_cons_succ, List.getElem_toArray, List.getElem_cons_zero, List.getElem_cons_succ])
  iterate 4 (refine wpSch_take (v := ?_) rfl (by rfl) ?_ ?_; rotate_left; (· (intro w' hS; (try dsimp only at hS); go_simp; try with_reducible rfl)); (try simp only [Act.put, List.setIfInBounds_toArray, List.set_cons_zero, List.set_cons_succ, List.getElem_toArray, List.getElem_cons_zero, List.getElem_cons_succ]))
  refine wpSch_end ?_
  simp only [List.drop_succ_cons, List.drop_zero]
  by_cases hq1 : sumB (sumOn s0 hd) = t4
  case neg =>
    have hR2 : R = ([], 7) := by rw [HR1.out, if_neg (fun h => hq1 h.1)]
    have hdc : decide (sumB (sumOn s0 hd) = t4) = false := decide_eq_false hq1
    go_wp2
    go_ret2
    exact FIN0.out _ hR2 _ HC3.out
  case pos =>
  have hdc : decide (sumB (sumOn s0 hd) = t4) = true := decide_eq_true hq1
  have IO := hide (intOf_list w3 hd (by omega))
  have hih : Hid (-9223372036854775808 ≤ intN hd ∧ intN hd ≤ 9223372036854775807) := by unfold Hid intN wrap64; omega
  obtain ⟨ih, hih2⟩ : ∃ ih, intN hd = ih := ⟨_, rfl⟩
  rw [hih2] at IO HR1 hih
  obtain ⟨s1, hs1⟩ : ∃ s1, sumOn s0 hd = s1 := ⟨_, rfl⟩
  have hs1l : Hid (s1 < 4294967296) := by rw [← hs1]; exact sumOn_lt _ _ hs0.out
  rw [hs1] at HR1 HF3 hdc hq1 ⊢
  have HQ1 := hide hq1
  clear hih2 hs1 hq1 hs0
  rw [hdc]
  clear hdc
  by_cases hq2 : ih = ahead
  case neg =>
    have hR2 : R = ([], 7) := by rw [HR1.out, if_neg (fun h => hq2 h.2)]
    have hbne : (ih != ahead) = true := by simpa using hq2
    go_wp2_with (go_at_call 168; refine IO.out.mono ?_; rintro e w4 ⟨rfl, rfl⟩)
    go_ret2
    exact FIN0.out _ hR2 _ HC3.out
  case pos =>
  have HR2 : Hid (R = if (readP (rl + 12) s1 r).2 = true then ((readP (rl + 12) s1 r).1, 0) else ([], 7)) := by
    have := HR1.out
    rw [if_pos ⟨HQ1.out, hq2⟩] at this
    rwa [HRL.out] at this
  obtain ⟨P, hP⟩ : ∃ P, readP (rl + 12) s1 r = P := ⟨_, rfl⟩
  rw [hP] at HR2
  have HP := hide hP
  clear hP HR1
  have hbne : (ih != ahead) = false := by simpa using hq2
  go_wp2_with (go_at_call 168; refine IO.out.mono ?_; rintro e w4 ⟨rfl, rfl⟩)
  go_loopw [9, 13] (fun tv v wr => ∃ (l : List UInt8) (k : Nat) (ps : List Pu), tv = .string ⟨l.toArray⟩ ∧ ps.length * 21 + l.length ≤ rl ∧ Hid (∃ s, s < 4294967296 ∧ FlBlk wr lb 237 (.pointer (some ⟨b, 0, none⟩)) ⟨nm.toArray⟩ s ∧ PfSl wr v ps ∧ (∀ g, v.ownBlock = some g → w3.heap.size ≤ g) ∧ (Chg (fun _ => False) w wr ∧ w3.heap.size ≤ wr.heap.size) ∧ l.length ≤ k ∧ P = (ps ++ (readP k s l).1, (readP k s l).2))) (fun tv _ _ => match tv with | .string x => x.size | _ => 0)
  case atStart => exact ⟨r, rl + 12, [], rfl, by simp [HRL.out], s1, hs1l.out, HF3.out, World.ownsRow_nil _ _ _ _, fun g hg => by simp [Value.ownBlock] at hg, ⟨HC3.out, Nat.le_refl _⟩, by have := HRL.out; omega, by rw [HP.out]; simp⟩
  case round =>
    obtain ⟨l, k, ps, rfl, hpl, hI⟩ := hrel
    have hlen : (ByteArray.mk l.toArray).size = l.length := by show l.toArray.size = _; simp
    by_cases h21 : l.length < 21
    case pos =>
      obtain ⟨s, -, -, i3, i4, ⟨i5, -⟩, -, i7⟩ := hI.out
      rw [readP_short h21] at i7
      simp only [List.append_nil] at i7
      have hR3 : R = (ps, 0) := by
        have := HR2.out
        rw [i7] at this
        simpa using this
      subst hR3
      go_wp2
      go_ret2
      exact ⟨_, rfl, i3, fun g hg => Nat.le_trans HC3.out.size (i4 g hg), i5⟩
    case neg =>
      obtain ⟨c, d, t, q, rfl, hd16, ht4⟩ := log_split (l := l) (by omega)
      obtain ⟨s, i1, i2, i3, i4, ⟨i5, i5b⟩, i6, i7⟩ := hI.out
      obtain ⟨k, rfl⟩ : ∃ k', k = k' + 1 := ⟨k - 1, by simp at i6; omega⟩
      obtain ⟨ap, cp, rfl, hcap1, hcap2, -⟩ := ownsRow_form i3
      unfold maxLen at hcap2
      have UN := hide (unseal_any wr.drew lb 237 _ _ s (c :: d) t i2 i1 ht4 (by simp; omega))
      have e1 : (ByteArray.mk (c :: d ++ t ++ q).toArray).extract 0 21 = ⟨(c :: d ++ t).toArray⟩ := by
        rw [extract_mk, List.drop_zero, List.take_append_of_le_length (by simp [hd16, ht4]), List.take_of_length_le (by simp [hd16, ht4])]
      have hln : (c :: d ++ t ++ q).length = q.length + 21 := by simp [hd16, ht4]; omega
      obtain ⟨ty, hty⟩ : ∃ ty, ByteArray.mk (c :: d ++ t ++ q).toArray = ty := ⟨_, rfl⟩
      have e2 : ty.extract 21 (q.length + 21) = ⟨q.toArray⟩ := by
        rw [← hty, extract_mk]
        congr 2
        rw [List.drop_append, List.drop_of_length_le (by simp [hd16, ht4]), List.nil_append, show 21 - (c :: d ++ t).length = 0 by simp [hd16, ht4], List.drop_zero, List.take_of_length_le (by omega)]
      rw [hty] at e1 hlen ⊢
      rw [hln] at hlen hpl h21 i6
      have GOOD := fun h1 h2 => @readP_good k s c d t q hd16 ht4 h1 h2
      have BAD := fun h => @readP_bad k s c d t q hd16 ht4 h
      obtain ⟨RP, hRP⟩ : ∃ RP, readP (k + 1) s (c :: d ++ t ++ q) = RP := ⟨_, rfl⟩
      rw [hRP] at i7 GOOD BAD
      have HG := hide GOOD
      have HBD := hide BAD
      have HI7 := hide i7
      have H2 := hide i2
      have H3 := hide i3
      have H4 := hide i4
      have H5 := hide i5
      have H5b := hide i5b
      have H6 := hide i6
      have PO := hide (fun w5 => putOf_any w5 c d (by omega))
      obtain ⟨s', hs'⟩ : ∃ s', sumOn s (c :: d) = s' := ⟨_, rfl⟩
      have hs'l : Hid (s' < 4294967296) := by rw [← hs']; exact sumOn_lt _ _ i1
      rw [hs'] at UN HG HBD
      clear i2 i3 i4 i5 i5b i6 i7 GOOD BAD hRP hs' hty hln hI i1
      obtain ⟨ql, hql⟩ : ∃ ql, q.length = ql := ⟨_, rfl⟩
      rw [hql] at hlen hpl h21 H6 e2
      have HQL := hide hql
      clear hql
      have hq0 : (0 : Int) ≤ (ql : Int) := Int.natCast_nonneg _
      go_wp2
      refine wp_region_sch (fun _ => True) 10
        [(0, true), (1, true), (2, true), (3, true), (4, true), (5, false), (6, true), (7, true), (8, true), (9, true)] (by kernel_rfl) (by kernel_rfl) (fun _ _ _ _ _ h => h) trivial ?_
      iterate 5 (refine wpSch_take (v := ?_) rfl (by rfl) ?_ ?_; rotate_left; (· (intro w' hS; (try dsimp only at hS); go_simp; try with_reducible rfl)); (try simp only [Act.put, List.setIfInBounds_toArray, List.set_cons_zero, List.set_cons_succ, List.getElem_toArray, List.getElem_cons_zero, List.getElem_cons_succ]))
      refine wpSch_do rfl (by rfl) (fun K hK => ?_)
      go_simp
      refine UN.out.mono ?_
      rintro e w5 ⟨rfl, hf5, hc5⟩
      refine hK _ _ trivial (fun hS => ?_)
      have HF5 := hide hf5
      have LBL : Hid (lb < w3.heap.size) := HF3.out.lt
      have HC5 : Hid (Chg (fun _ => False) w w5) := H5.out.drew.trans hc5 fun x hx hlt => by cases hx; have := HLB.out; omega
      have HR5 : Hid (PfSl w5 (.slice ap ps.length cp) ps) := ownsRow_same H3.out fun g hg => hc5.block g (ownsRow_lt H3.out hg) (fun e => by cases e; have := H4.out _ hg; have := LBL.out; omega)
      have HS5 : Hid (w3.heap.size ≤ w5.heap.size) := Nat.le_trans H5b.out hc5.size
      clear hK K hS hf5 hc5 UN H2 H3 H5 H5b
      (try simp only [Act.put, List.setIfInBounds_toArray, List.set_cons_zero, List.set_cons_succ, List.getElem_toArray, List.getElem_cons_zero, List.getElem_cons_succ])
      iterate 4 (refine wpSch_take (v := ?_) rfl (by rfl) ?_ ?_; rotate_left; (· (intro w' hS; (try dsimp only at hS); go_simp; try with_reducible rfl)); (try simp only [Act.put, List.setIfInBounds_toArray, List.set_cons_zero, List.set_cons_succ, List.getElem_toArray, List.getElem_cons_zero, List.getElem_cons_succ]))
      refine wpSch_end ?_
      simp only [List.drop_succ_cons, List.drop_zero]
      have PO5 := hide (PO.out w5)
      clear PO
      have FINB : Hid (¬ (sumB s' = t ∧ c.toNat < 8) → R = ([], 7)) := fun h => by
        have h1 := HI7.out
        rw [HBD.out h] at h1
        have h2 := HR2.out
        rw [h1] at h2
        simpa using h2
      have hc0 : (0 : Int) ≤ (c.toNat : Int) := Int.natCast_nonneg _
      obtain ⟨x1, hx1⟩ : ∃ x1, intN d = x1 := ⟨_, rfl⟩
      obtain ⟨x2, hx2⟩ : ∃ x2, intN (d.drop 8) = x2 := ⟨_, rfl⟩
      rw [hx1, hx2] at PO5 HG
      clear hx1 hx2
      have STW : Hid (∀ w6, Chg (fun _ => False) w5 w6 → PuBlk (w6.alloc (.cells #[.int .i64 c.toNat, .int .i64 x1, .int .i64 x2] 113)) w6.heap.size c.toNat x1 x2 ∧ Chg (fun _ => False) w5 (w6.alloc (.cells #[.int .i64 c.toNat, .int .i64 x1, .int .i64 x2] 113))) := fun w6 hc6 =>
        ⟨heap_alloc_new w6 _, hc6.alloc _⟩
      by_cases hq1 : sumB s' = t
      case neg =>
        have hR2 := FINB.out (fun h => hq1 h.1)
        rw [show decide (sumB s' = t) = false from decide_eq_false hq1]
        go_wp2_with (go_at_call 176; refine PO5.out.mono ?_; rintro e w6 ⟨rfl, hc6⟩; obtain ⟨b1, k7⟩ := STW.out w6 hc6; have q0 := b1.c0; have q1 := b1.c1; have q2 := b1.c2; have HK7 := hide k7; clear hc6 b1 k7)
        go_ret2
        exact FIN0.out _ hR2 _ (HC5.out.trans HK7.out fun _ h _ => h)
      case pos =>
      rw [show decide (sumB s' = t) = true from decide_eq_true hq1]
      by_cases hq2 : c.toNat < 8
      case neg =>
        have hR2 := FINB.out (fun h => hq2 h.2)
        rw [show decide (c.toNat < 8) = false from decide_eq_false hq2] at PO5
        go_wp2_with (go_at_call 176; refine PO5.out.mono ?_; rintro e w6 ⟨rfl, hc6⟩; obtain ⟨b1, k7⟩ := STW.out w6 hc6; have q0 := b1.c0; have q1 := b1.c1; have q2 := b1.c2; have HK7 := hide k7; clear hc6 b1 k7)
        go_ret2
        exact FIN0.out _ hR2 _ (HC5.out.trans HK7.out fun _ h _ => h)
      case pos =>
        have NEWR : Hid (∀ w6, Chg (fun _ => False) w5 w6 →
            (((w6.alloc (.cells #[.int .i64 c.toNat, .int .i64 x1, .int .i64 x2] 113)).alloc (.cells #[.int .i64 c.toNat, .int .i64 x1, .int .i64 x2] 113)).ownsRow 0 113 3 (.slice ap ps.length cp) ps.length (puVals ps)) ∧
            ∀ w8 a8 cap8, App ((w6.alloc (.cells #[.int .i64 c.toNat, .int .i64 x1, .int .i64 x2] 113)).alloc (.cells #[.int .i64 c.toNat, .int .i64 x1, .int .i64 x2] 113)) w8 113 3 (.slice ap ps.length cp) (.slice a8 (ps.length + 1) cap8) (ps.length + 1) (puVals ps ++ puVals [((c.toNat : Int), x1, x2)]) →
              FlBlk w8 lb 237 (.pointer (some ⟨b, 0, none⟩)) ⟨nm.toArray⟩ s' ∧ PfSl w8 (.slice a8 (ps.length + 1) cap8) (ps ++ [((c.toNat : Int), x1, x2)]) ∧ (∀ g, (Value.slice a8 (ps.length + 1) cap8).ownBlock = some g → w3.heap.size ≤ g) ∧ Chg (fun _ => False) w w8 ∧ w3.heap.size ≤ w8.heap.size) := fun w6 hc6 => by
          have k9 : Chg (fun _ => False) w5 ((w6.alloc (.cells #[.int .i64 c.toNat, .int .i64 x1, .int .i64 x2] 113)).alloc (.cells #[.int .i64 c.toNat, .int .i64 x1, .int .i64 x2] 113)) := (STW.out w6 hc6).2.alloc _
          generalize ((w6.alloc (.cells #[.int .i64 c.toNat, .int .i64 x1, .int .i64 x2] 113)).alloc (.cells #[.int .i64 c.toNat, .int .i64 x1, .int .i64 x2] 113)) = w9 at k9 ⊢
          refine ⟨ownsRow_same HR5.out fun g hg => k9.block g (ownsRow_lt HR5.out hg) (fun h => h), fun w8 a8 cap8 hA => ?_⟩
          have hA2 := hA.chg (S := fun k => (Value.slice ap ps.length cp).ownBlock = some k) fun _ h => h
          have hl9 : w3.heap.size ≤ w9.heap.size := Nat.le_trans HS5.out k9.size
          refine ⟨(HF5.out.keep k9 (fun h => h)).keep hA2 (fun hg => by have := H4.out _ hg; have := LBL.out; omega), ?_, ?_, ?_, ?_⟩
          · have := hA.own
            unfold PfSl
            rw [puVals_append]
            simpa using this
          · intro g hg
            rcases hA.at_ with h | h
            · rw [h] at hg; exact H4.out g hg
            · rw [h] at hg; cases hg; exact hl9
          · exact (HC5.out.trans k9 fun _ h _ => h).trans hA2 fun x hx hlt => by have := H4.out x hx; have := HC3.out.size; omega
          · exact Nat.le_trans hl9 hA2.size
        clear HR5
        rw [show decide (c.toNat < 8) = true from decide_eq_true hq2] at PO5
        go_wp2_with (first
          | (go_at_call 176; refine PO5.out.mono ?_; rintro e w6 ⟨rfl, hc6⟩; obtain ⟨b1, k7⟩ := STW.out w6 hc6; have q0 := b1.c0; have q1 := b1.c1; have q2 := b1.c2; have HC6 := hide hc6; clear hc6 b1 k7)
          | (at_builtin
             have HROW := hide (NEWR.out w6 HC6.out)
             have HSRC := hide (Src.ofNew (size := 3) (B := w6.heap.size + 1) Tryz.underlying97 (w6.alloc (.cells #[.int .i64 c.toNat, .int .i64 x1, .int .i64 x2] 113)) #[.int .i64 c.toNat, .int .i64 x1, .int .i64 x2] 113 (by simp) 1 1 rfl (puVals_oneCell [((c.toNat : Int), x1, x2)]))
             refine wpList_app rfl (.tmp 80) (.tmp 82) 97 97 rfl 113 i0 _ 3 24 Tryz.underlying97 hi hz0 hz1 hz2 rfl (by decide) (.slice ap ps.length cp) ps.length (puVals ps) (by rfl) HROW.out.1 _ 1 _ (by rfl) HSRC.out (by omega) ?_
             intro a8 cap8 w8 hA
             have HA := hide (HROW.out.2 w8 a8 cap8 hA)
             clear hA))
        go_roundw
        case rel =>
          obtain ⟨r1, r2, r3, r4, r5⟩ := HA.out
          refine ⟨q, k, ps ++ [((c.toNat : Int), x1, x2)], rfl, by have := HQL.out; simp; omega, s', hs'l.out, r1, r2, r3, ⟨r4, r5⟩, by have := H6.out; have := HQL.out; omega, ?_⟩
          rw [HI7.out, HG.out hq1 hq2]
          simp
        case measure =>
          have e : (ByteArray.mk q.toArray).size = q.length := by show q.toArray.size = _; simp
          have := HQL.out
          simp only [e, hlen]
          omega
end
end Go.Proofs.YtodcnkbblippnaaGreatDoor
/- A disk as a pure thing ('PD'), its calls as pure functions, and how much it holds ('Fit'). No walk. -/
namespace Go.Proofs.YtodcnkbblippnaaGreatDoor
open Go.RowKit

structure PD where
  D : DS
  F : Nat → FC
def entMax : List Ent → Nat
  | [] => 0
  | e :: r => max (e.2 + 1) (entMax r)
theorem entMax_lt {es : List Ent} {f : Nat} (h : inEnts f es) : f < entMax es := by
  induction es with
  | nil => obtain ⟨e, he, _⟩ := h; cases he
  | cons x t ih =>
    obtain ⟨e, he, rfl⟩ := h
    unfold entMax
    rcases List.mem_cons.1 he with rfl | he
    · omega
    · have := ih ⟨e, he, rfl⟩; omega
def chgMax : List (List Ent) → Nat
  | [] => 0
  | c :: r => max (entMax c) (chgMax r)
theorem chgMax_lt {l : List (List Ent)} {c : List Ent} {f : Nat} (hc : c ∈ l) (h : inEnts f c) : f < chgMax l := by
  induction l with
  | nil => cases hc
  | cons x t ih =>
    unfold chgMax
    rcases List.mem_cons.1 hc with rfl | hc
    · have := entMax_lt h; omega
    · have := ih hc; omega
/-- A number that no file of the disk bears. -/
def DS.fresh (D : DS) : Nat := max (entMax D.dir) (max (entMax D.safe) (chgMax D.changes))
theorem DS.fresh_not (D : DS) : ¬ D.ids D.fresh := by
  intro h
  have : D.fresh < D.fresh := by
    rcases h with h | h | ⟨c, hc, h⟩
    · have := entMax_lt h; unfold DS.fresh at *; omega
    · have := entMax_lt h; unfold DS.fresh at *; omega
    · have := chgMax_lt hc h; unfold DS.fresh at *; omega
  omega
/-- The bytes of a name. -/
abbrev Bs := List UInt8
def nmB (l : Bs) : ByteArray := ⟨l.toArray⟩
theorem nmB_inj {a b : Bs} : nmB a = nmB b ↔ a = b := by
  constructor
  · intro h
    have := congrArg (fun x => x.data.toList) h
    simpa [nmB] using this
  · rintro rfl; rfl
theorem nmB_data (b : ByteArray) : nmB b.data.toList = b := by simp [nmB]

def PD.create (P : PD) (nm : ByteArray) : Int × PD := ((dCreate P.D nm P.D.fresh).1, ⟨(dCreate P.D nm P.D.fresh).2, upd P.F P.D.fresh ([], 0)⟩)
def PD.append (P : PD) (nm : ByteArray) (l : Bs) : Int × PD := ((dAppend P.D P.F nm (nmB l)).1, ⟨(dAppend P.D P.F nm (nmB l)).2.1, (dAppend P.D P.F nm (nmB l)).2.2⟩)
def PD.sync (P : PD) (nm : ByteArray) : Int × PD := ((dSync P.D P.F nm).1, ⟨(dSync P.D P.F nm).2.1, (dSync P.D P.F nm).2.2⟩)
def PD.syncDir (P : PD) : Int × PD := ((dSyncDir P.D).1, ⟨(dSyncDir P.D).2, P.F⟩)
def PD.remove (P : PD) (nm : ByteArray) : Int × PD := ((dRemove P.D nm).1, ⟨(dRemove P.D nm).2, P.F⟩)
def PD.rename (P : PD) (old nm : ByteArray) : Int × PD := ((dRename P.D old nm).1, ⟨(dRename P.D old nm).2, P.F⟩)

/-- How much a disk holds: names, changes, the bytes of a file. -/
structure Fit (P : PD) (a c m : Nat) : Prop where
  dir : P.D.dir.length ≤ a
  safe : P.D.safe.length ≤ a
  chl : ∀ l ∈ P.D.changes, l.length ≤ a
  chg : P.D.changes.length ≤ c
  len : ∀ f, P.D.ids f → (P.F f).1.length ≤ m
  room : -4611686018427387904 ≤ P.D.n.room ∧ P.D.n.room ≤ 9223372036854775807
  part : 0 ≤ P.D.n.part ∧ P.D.n.part ≤ 9223372036854775807
theorem Fit.mono {P : PD} {a c m a' c' m' : Nat} (h : Fit P a c m) (ha : a ≤ a') (hc : c ≤ c') (hm : m ≤ m') : Fit P a' c' m' :=
  ⟨Nat.le_trans h.dir ha, Nat.le_trans h.safe ha, fun l hl => Nat.le_trans (h.chl l hl) ha, Nat.le_trans h.chg hc, fun f hf => Nat.le_trans (h.len f hf) hm, h.room, h.part⟩
theorem usedL_le {F : Nat → FC} {m : Nat} : ∀ (es : List Ent), (∀ f, inEnts f es → (F f).1.length ≤ m) → usedL F es ≤ es.length * m
  | [], _ => by simp [usedL]
  | e :: r, h => by
    have h1 := h e.2 ⟨e, List.mem_cons_self .., rfl⟩
    have h2 := usedL_le r fun f hf => h f (by obtain ⟨x, hx, he⟩ := hf; exact ⟨x, List.mem_cons_of_mem _ hx, he⟩)
    simp only [usedL, List.length_cons, Nat.add_mul, Nat.one_mul]
    omega
theorem Fit.used {P : PD} {a c m : Nat} (h : Fit P a c m) : usedL P.F P.D.dir ≤ a * m :=
  Nat.le_trans (usedL_le _ fun f hf => h.len f (.inl hf)) (Nat.mul_le_mul_right _ h.dir)
theorem bg_room (n : DN) : (bg n).2.2.room = n.room ∧ (bg n).2.2.part = n.part := by
  unfold bg
  dsimp only
  split
  · exact ⟨rfl, rfl⟩
  · split
    · exact ⟨rfl, rfl⟩
    · split <;> exact ⟨rfl, rfl⟩
theorem Fit.begun {P : PD} {a c m : Nat} (h : Fit P a c m) : Fit ⟨{ P.D with n := (bg P.D.n).2.2 }, P.F⟩ a c m :=
  ⟨h.dir, h.safe, h.chl, h.chg, h.len, by have := (bg_room P.D.n).1; show _ ≤ (Go.Proofs.YtodcnkbblippnaaGreatDoor.bg P.D.n).2.2.room ∧ (Go.Proofs.YtodcnkbblippnaaGreatDoor.bg P.D.n).2.2.room ≤ _; rw [this]; exact h.room, by have := (bg_room P.D.n).2; show _ ≤ (Go.Proofs.YtodcnkbblippnaaGreatDoor.bg P.D.n).2.2.part ∧ (Go.Proofs.YtodcnkbblippnaaGreatDoor.bg P.D.n).2.2.part ≤ _; rw [this]; exact h.part⟩
theorem fidx_len {es : List Ent} {nm : ByteArray} (h : ¬ fidx es nm < 0) : (fidx es nm).toNat < es.length := by
  have := fidx_range es nm; omega
/-- The directory, turned to entries of files that are there. -/
theorem Fit.turn {P : PD} {a c m a' : Nat} (h : Fit P a c m) {es : List Ent} (hl : es.length ≤ a') (ha : a ≤ a') (hin : ∀ f, inEnts f es → (P.F f).1.length ≤ m) : Fit ⟨{ P.D with dir := es, changes := P.D.changes ++ [es], n := (Go.Proofs.YtodcnkbblippnaaGreatDoor.bg P.D.n).2.2 }, P.F⟩ a' (c + 1) m := by
  have hb := h.begun
  refine ⟨hl, Nat.le_trans h.safe ha, fun l hm => ?_, ?_, fun f hf => ?_, hb.room, hb.part⟩
  · rcases List.mem_append.1 hm with hm | hm
    · exact Nat.le_trans (h.chl l hm) ha
    · simp at hm; subst hm; exact hl
  · have := h.chg; simp; omega
  · rcases hf with hf | hf | ⟨x, hx, hf⟩
    · exact hin f hf
    · exact h.len f (.inr (.inl hf))
    · rcases List.mem_append.1 hx with hx | hx
      · exact h.len f (.inr (.inr ⟨x, hx, hf⟩))
      · simp at hx; subst hx; exact hin f hf
theorem Fit.create {P : PD} {a c m : Nat} (h : Fit P a c m) (nm : ByteArray) : Fit (P.create nm).2 (a + 1) (c + 1) m := by
  have hF : Fit ⟨P.D, upd P.F P.D.fresh ([], 0)⟩ a c m := ⟨h.dir, h.safe, h.chl, h.chg, fun f hf => by
    unfold upd
    by_cases he : f = P.D.fresh
    · simp [he]
    · simp only [he, if_false]; exact h.len f hf, h.room, h.part⟩
  unfold PD.create dCreate
  split
  · exact hF.mono (by omega) (by omega) (Nat.le_refl _)
  · dsimp only
    split
    · refine hF.turn (a' := a + 1) ?_ (by omega) ?_
      · have := h.dir; simp; omega
      · rintro f ⟨x, hx, rfl⟩
        rcases List.mem_append.1 hx with hx | hx
        · exact hF.len _ (.inl ⟨x, hx, rfl⟩)
        · simp at hx; subst hx; simp [upd]
    · exact hF.begun.mono (by omega) (by omega) (Nat.le_refl _)
theorem Fit.file {P : PD} {a c m : Nat} (h : Fit P a c m) (f : Nat) (x : FC) (hx : x.1.length ≤ m) : Fit ⟨P.D, Go.Proofs.YtodcnkbblippnaaGreatDoor.upd P.F f x⟩ a c m := ⟨h.dir, h.safe, h.chl, h.chg, fun g hg => by
    unfold Go.Proofs.YtodcnkbblippnaaGreatDoor.upd
    by_cases he : g = f
    · simp [he]; exact hx
    · simp only [he, if_false]; exact h.len g hg, h.room, h.part⟩
theorem Fit.addTo {P : PD} {a c m : Nat} (h : Fit P a c m) {f : Nat} (hf : P.D.ids f) (l : Bs) (n0 e : Int) : Fit ⟨(dAdd P.D P.F f (nmB l) n0 e).2.1, (dAdd P.D P.F f (nmB l) n0 e).2.2⟩ a c (m + l.length) := by
  have h2 := h.mono (Nat.le_refl a) (Nat.le_refl c) (Nat.le_add_right m l.length)
  have hl := h.len f hf
  have hu : ∀ k : Nat, ((P.F f).1 ++ (nmB l).data.toList.take k).length ≤ m + l.length := fun k => by
    simp only [List.length_append, List.length_take, nmB]; omega
  unfold dAdd
  split
  · by_cases he : e = 0
    · simp only [he, if_true]
      have := h2.file f ((P.F f).1 ++ (nmB l).data.toList.take (dLeft P.D P.F).toNat, (P.F f).2) (hu _)
      exact ⟨this.dir, this.safe, this.chl, this.chg, this.len, this.room, this.part⟩
    · simp only [he, if_false]
      exact h2.file f _ (hu _)
  · exact h2.file f _ (hu _)
theorem Fit.append {P : PD} {a c m : Nat} (h : Fit P a c m) (nm : ByteArray) (l : Bs) : Fit (P.append nm l).2 a c (m + l.length) := by
  unfold PD.append dAppend
  cases hx : lookup P.D.dir nm with
  | none => exact h.mono (Nat.le_refl _) (Nat.le_refl _) (by omega)
  | some f =>
    have hf : P.D.ids f := lookup_ids hx
    dsimp only
    split
    · exact h.begun.addTo (P := ⟨{ P.D with n := (bg P.D.n).2.2 }, P.F⟩) hf l _ _
    · split
      · exact h.begun.addTo (P := ⟨{ P.D with n := (bg P.D.n).2.2 }, P.F⟩) hf l _ _
      · exact h.begun.mono (Nat.le_refl _) (Nat.le_refl _) (by omega)
theorem Fit.sync {P : PD} {a c m : Nat} (h : Fit P a c m) (nm : ByteArray) : Fit (P.sync nm).2 a c m := by
  unfold PD.sync dSync
  cases hx : lookup P.D.dir nm with
  | none => exact h
  | some f =>
    have hf : P.D.ids f := lookup_ids hx
    dsimp only
    split
    · exact h.begun.file (P := ⟨{ P.D with n := (bg P.D.n).2.2 }, P.F⟩) f _ (h.len f hf)
    · exact h.begun
theorem Fit.syncDir {P : PD} {a c m : Nat} (h : Fit P a c m) : Fit P.syncDir.2 a c m := by
  unfold PD.syncDir dSyncDir
  dsimp only
  split
  · have hb := h.begun
    refine ⟨h.dir, h.dir, fun l hl => (by cases hl), Nat.zero_le _, fun f hf => h.len f ?_, hb.room, hb.part⟩
    rcases hf with hf | hf | ⟨x, hx, _⟩
    · exact .inl hf
    · exact .inl hf
    · cases hx
  · exact h.begun
theorem Fit.remove {P : PD} {a c m : Nat} (h : Fit P a c m) (nm : ByteArray) : Fit (P.remove nm).2 a (c + 1) m := by
  unfold PD.remove dRemove
  split
  · exact h.mono (Nat.le_refl _) (by omega) (Nat.le_refl _)
  · rename_i hx
    have hl := fidx_len hx
    dsimp only
    split
    · refine h.turn (a' := a) ?_ (Nat.le_refl _) ?_
      · have := h.dir; simp; omega
      · rintro f ⟨x, hx, rfl⟩
        rcases List.mem_append.1 hx with hx | hx
        · exact h.len _ (.inl ⟨x, List.mem_of_mem_take hx, rfl⟩)
        · exact h.len _ (.inl ⟨x, List.mem_of_mem_drop hx, rfl⟩)
    · exact h.begun.mono (Nat.le_refl _) (by omega) (Nat.le_refl _)
theorem renL_len (es : List Ent) (i : Nat) (nm : ByteArray) (k : Nat) : (renL es i nm k).length ≤ k := by
  induction k with
  | zero => simp [renL]
  | succ k ih =>
    simp only [renL, List.length_append]
    cases es[k]? with
    | none => simp; omega
    | some e =>
      dsimp only
      split
      · simp; omega
      · simp; omega
theorem Fit.rename {P : PD} {a c m : Nat} (h : Fit P a c m) (old nm : ByteArray) : Fit (P.rename old nm).2 (a + 1) (c + 1) m := by
  unfold PD.rename dRename
  cases hx : lookup P.D.dir old with
  | none => exact h.mono (by omega) (by omega) (Nat.le_refl _)
  | some f =>
    dsimp only
    split
    · exact h.mono (by omega) (by omega) (Nat.le_refl _)
    · dsimp only
      split
      · refine h.turn (a' := a + 1) ?_ (by omega) ?_
        · have h1 := h.dir
          have h2 := renL_len P.D.dir (fidx P.D.dir old).toNat nm P.D.dir.length
          simp; omega
        · rintro g ⟨x, hx', rfl⟩
          rcases List.mem_append.1 hx' with hx' | hx'
          · exact h.len _ (.inl ⟨x, renL_mem _ _ _ _ x hx', rfl⟩)
          · simp at hx'; subst hx'; exact h.len _ (lookup_ids hx)
      · exact h.begun.mono (by omega) (by omega) (Nat.le_refl _)
end Go.Proofs.YtodcnkbblippnaaGreatDoor
/- Walks: a name is read: Named. -/
namespace Go.Proofs.YtodcnkbblippnaaGreatDoor
open Go.RowKit
attribute [local go_sem ↓] Go.wp_at_zero Go.wp_at_succ

theorem parse_dec : ∀ (m u acc : Nat) (r : List UInt8), u < m → acc * 10 ^ Lib.nDigits u + u < 18446744073709551616 → Lib.parseUint10 acc (Lib.decDigits u ++ r) = Lib.parseUint10 (acc * 10 ^ Lib.nDigits u + u) r
  | 0, u, acc, r, h, _ => by omega
  | m + 1, u, acc, r, h, hb => by
    have one : ∀ (a x : Nat) (r : List UInt8), x < 10 → a * 10 + x < 18446744073709551616 → Lib.parseUint10 a (UInt8.ofNat (48 + x) :: r) = Lib.parseUint10 (a * 10 + x) r := fun a x r hx ha => by
      have e : (UInt8.ofNat (48 + x)).toNat = 48 + x := by simp; omega
      simp only [Lib.parseUint10, e]
      rw [if_pos (by omega), if_neg (by omega), if_neg (by omega)]
      congr 1; omega
    by_cases h10 : u < 10
    · rw [Lib.decDigits_one h10, Lib.nDigits_small h10] at *
      simp only [List.cons_append, List.nil_append, Nat.pow_one]
      exact one acc u r h10 (by simpa using hb)
    · rw [Lib.nDigits_big h10, Nat.pow_succ] at *
      have e : acc * (10 ^ Lib.nDigits (u / 10) * 10) + u = (acc * 10 ^ Lib.nDigits (u / 10) + u / 10) * 10 + u % 10 := by
        rw [← Nat.mul_assoc, Nat.add_mul]; omega
      rw [e] at hb ⊢
      have ed : Lib.decDigits u = Lib.decDigits (u / 10) ++ [UInt8.ofNat (48 + u % 10)] := by
        rw [Lib.decDigits, dif_neg h10]
      rw [ed, List.append_assoc, parse_dec m (u / 10) acc _ (by omega) (by omega)]
      exact one _ _ r (by omega) hb
theorem parse_zeros (c : Nat) (r : List UInt8) : Lib.parseUint10 0 (List.replicate c 48 ++ r) = Lib.parseUint10 0 r := by
  induction c with
  | zero => rfl
  | succ c ih => simp only [List.replicate_succ, List.cons_append, Lib.parseUint10]; exact ih
theorem nDigits_le (k : Nat) : ∀ u, u < 10 ^ k → 1 ≤ k → Lib.nDigits u ≤ k := by
  induction k with
  | zero => intro u _ h; omega
  | succ k ih =>
    intro u hu _
    by_cases h : u < 10
    · rw [Lib.nDigits_small h]; omega
    · rw [Lib.nDigits_big h]
      rw [Nat.pow_succ] at hu
      cases k with
      | zero => simp at hu; omega
      | succ k => have := ih (u / 10) (by omega) (by omega); omega
theorem itoa_nat {n : Int} (h : 0 ≤ n) : Lib.itoa n = Lib.decDigits n.toNat := by unfold Lib.itoa; rw [if_neg (by omega)]
theorem numOk_of {n : Int} (h0 : 0 ≤ n) (h1 : n ≤ 4611686018427387904) : NumOk n := by
  refine ⟨h0, by omega, ?_⟩
  rw [itoa_nat h0, Lib.decDigits_length]
  exact nDigits_le 19 _ (by omega) (by omega)
theorem repeat48 (c : Nat) : Lib.repeatL [48] c = List.replicate c 48 := by
  induction c with
  | zero => rfl
  | succ c ih => simp [Lib.repeatL, ih, List.replicate_succ]
theorem decDigits_head (u : Nat) : ∃ b r, Lib.decDigits u = b :: r ∧ 48 ≤ b.toNat ∧ b.toNat ≤ 57 := by
  induction u using Nat.strongRecOn with
  | ind u ih =>
    by_cases h : u < 10
    · exact ⟨_, _, Lib.decDigits_one h, by simp; omega, by simp; omega⟩
    · obtain ⟨b, r, h1, h2, h3⟩ := ih (u / 10) (by omega)
      refine ⟨b, r ++ [UInt8.ofNat (48 + u % 10)], ?_, h2, h3⟩
      rw [Lib.decDigits, dif_neg h, h1]; rfl
/-- A padded number is read back. -/
theorem atoi_pad {n : Int} (h0 : 0 ≤ n) (h1 : n ≤ 9223372036854775807) (c : Nat) : Lib.atoiAll (Lib.repeatL [48] c ++ Lib.itoa n) = .ok n := by
  rw [repeat48, itoa_nat h0]
  obtain ⟨b, r, hb, hb1, hb2⟩ := decDigits_head n.toNat
  have hm : Lib.parseMag (List.replicate c 48 ++ Lib.decDigits n.toNat) = .ok n.toNat := by
    unfold Lib.parseMag
    rw [if_neg (by rw [hb]; simp), parse_zeros]
    have := parse_dec (n.toNat + 1) n.toNat 0 [] (by omega) (by omega)
    rw [List.append_nil] at this
    rw [this]
    simp [Lib.parseUint10]
  have hc : ∃ b r, List.replicate c 48 ++ Lib.decDigits n.toNat = b :: r ∧ b.toNat ≠ 43 ∧ b.toNat ≠ 45 := by
    cases c with
    | zero => exact ⟨b, r, by simpa using hb, by omega, by omega⟩
    | succ c => exact ⟨48, List.replicate c 48 ++ Lib.decDigits n.toNat, by simp [List.replicate_succ], by decide, by decide⟩
  obtain ⟨b2, r2, e, k1, k2⟩ := hc
  rw [e] at hm ⊢
  rw [Lib.atoiAll_plain _ _ k1 k2, hm]
  unfold Lib.signless
  dsimp only
  rw [if_neg (by omega)]
  congr 1
  omega
theorem hasPrefix_app (a b : List UInt8) : Lib.hasPrefix (a ++ b) a = true := by
  unfold Lib.hasPrefix; simp
theorem trim_name (lt : List UInt8) (n : Int) : Lib.trimPrefix (nameL lt n) lt = Lib.repeatL [48] (19 - (Lib.itoa n).length) ++ Lib.itoa n := by
  unfold Lib.trimPrefix nameL
  rw [List.append_assoc, if_pos (hasPrefix_app _ _), List.drop_left]
/-- The number that a name of this letter tells. -/
def namedOne (lt nm : List UInt8) : Option Int := match Lib.atoiAll (Lib.trimPrefix nm lt) with
  | .ok v => if 0 < v ∧ v ≤ 4611686018427387904 ∧ nameL lt v = nm then some v else none
  | _ => none
theorem namedOne_name (lt : List UInt8) {n : Int} (h0 : 0 < n) (h1 : n ≤ 4611686018427387904) : namedOne lt (nameL lt n) = some n := by
  unfold namedOne
  rw [trim_name, atoi_pad (by omega) (by omega)]
  dsimp only
  rw [if_pos ⟨h0, h1, rfl⟩]
/-! ## Names -/
def nmLog (n : Int) : List UInt8 := nmOf 1 n
def nmSeg (n : Int) : List UInt8 := nmOf 2 n
def nmIdx : List UInt8 := [105]
def nmDrf : List UInt8 := [100]
def isNum (n : Int) : Bool := decide (1 ≤ n ∧ n ≤ 4611686018427387904)
def named4 (nm : List UInt8) : Int × Int := if nm = nmDrf then (4, 0) else (0, 0)
def named3 (nm : List UInt8) : Int × Int := if nm = nmIdx then (3, 0) else named4 nm
def named2 (nm : List UInt8) : Int × Int := match namedOne [115] nm with
  | some v => (2, v)
  | none => named3 nm
/-- The sort and the number that a name is made of. -/
def namedP (nm : List UInt8) : Int × Int := match namedOne [108] nm with
  | some v => (1, v)
  | none => named2 nm
/-- .. where only sorts from k on are tried. -/
def namedFrom (nm : List UInt8) (k : Nat) : Int × Int := if k = 1 then namedP nm else if k = 2 then named2 nm else if k = 3 then named3 nm else if k = 4 then named4 nm else (0, 0)
/-- What Atoi answers: also where it fails. -/
def AtoiAns (s : List UInt8) (v : Int) : Prop := Lib.atoiAll s = .ok v ∨ (∀ x, Lib.atoiAll s ≠ .ok x) ∧ isNum v = false ∧ (s = [] → v = 0)
theorem atoi_nil : ∀ x, Lib.atoiAll [] ≠ .ok x := by
  intro x
  have : Lib.atoiAll [] = .syntax := by decide +kernel
  rw [this]; intro h; cases h
theorem trim_self (l : List UInt8) : Lib.trimPrefix l l = [] := by
  unfold Lib.trimPrefix
  have : Lib.hasPrefix l l = true := by simpa using hasPrefix_app l []
  rw [if_pos this]; simp
theorem namedOne_try {lt nm : List UInt8} {v : Int} (h : AtoiAns (Lib.trimPrefix nm lt) v) : namedOne lt nm = if isNum v = true ∧ nameL lt v = nm then some v else none := by
  unfold namedOne
  rcases h with h | ⟨h, h2, -⟩
  · rw [h]
    dsimp only
    by_cases hc : 0 < v ∧ v ≤ 4611686018427387904 ∧ nameL lt v = nm
    · rw [if_pos hc, if_pos ⟨by unfold isNum; exact decide_eq_true ⟨by omega, hc.2.1⟩, hc.2.2⟩]
    · rw [if_neg hc, if_neg]
      rintro ⟨h1, h2⟩
      unfold isNum at h1
      have := of_decide_eq_true h1
      exact hc ⟨by omega, this.2, h2⟩
  · rw [h2, if_neg (by simp)]
    cases hx : Lib.atoiAll (Lib.trimPrefix nm lt) with
    | ok x => exact absurd hx (h x)
    | «syntax» => rfl
    | range => rfl
theorem namedFrom_1 (nm : List UInt8) : namedFrom nm 1 = namedP nm := by simp [namedFrom]
theorem namedFrom_2 (nm : List UInt8) : namedFrom nm 2 = named2 nm := by simp [namedFrom]
theorem namedFrom_3 (nm : List UInt8) : namedFrom nm 3 = named3 nm := by simp [namedFrom]
theorem namedFrom_4 (nm : List UInt8) : namedFrom nm 4 = named4 nm := by simp [namedFrom]
theorem namedFrom_5 (nm : List UInt8) : namedFrom nm 5 = (0, 0) := by simp [namedFrom]
/-- One sort is tried. -/
theorem named_try {nm : List UInt8} {k : Nat} {v : Int} (hk : 1 ≤ k ∧ k ≤ 4) (h : AtoiAns (Lib.trimPrefix nm (ltr k)) v) :
    namedFrom nm k = if isNum v = decide ((k : Int) = 1 ∨ (k : Int) = 2) ∧ nmOf k v = nm then ((k : Int), v) else namedFrom nm (k + 1) := by
  have h4 : k = 1 ∨ k = 2 ∨ k = 3 ∨ k = 4 := by omega
  rcases h4 with rfl | rfl | rfl | rfl
  · have e : nmOf ((1 : Nat) : Int) v = nameL [108] v := rfl
    have e2 : decide (((1 : Nat) : Int) = 1 ∨ ((1 : Nat) : Int) = 2) = true := by decide
    have := namedOne_try h
    rw [show ltr ((1 : Nat) : Int) = [108] from rfl] at this
    rw [namedFrom_1, namedFrom_2, e, e2, namedP, this]
    by_cases hc : isNum v = true ∧ nameL [108] v = nm
    · rw [if_pos hc, if_pos hc]; rfl
    · rw [if_neg hc, if_neg hc]
  · have e : nmOf ((2 : Nat) : Int) v = nameL [115] v := rfl
    have e2 : decide (((2 : Nat) : Int) = 1 ∨ ((2 : Nat) : Int) = 2) = true := by decide
    have := namedOne_try h
    rw [show ltr ((2 : Nat) : Int) = [115] from rfl] at this
    rw [namedFrom_2, namedFrom_3, e, e2, named2, this]
    by_cases hc : isNum v = true ∧ nameL [115] v = nm
    · rw [if_pos hc, if_pos hc]; rfl
    · rw [if_neg hc, if_neg hc]
  · have e : nmOf ((3 : Nat) : Int) v = nmIdx := rfl
    have e2 : decide (((3 : Nat) : Int) = 1 ∨ ((3 : Nat) : Int) = 2) = false := by decide
    rw [namedFrom_3, namedFrom_4, e, e2, named3]
    by_cases hc : nm = nmIdx
    · subst hc
      have hv : isNum v = false ∧ v = 0 := by
        rw [show ltr ((3 : Nat) : Int) = nmIdx from rfl, trim_self] at h
        rcases h with h | ⟨_, h1, h2⟩
        · exact absurd h (atoi_nil v)
        · exact ⟨h1, h2 rfl⟩
      rw [if_pos rfl, if_pos ⟨hv.1, rfl⟩, hv.2]; rfl
    · rw [if_neg hc, if_neg (fun h => hc h.2.symm)]
  · have e : nmOf ((4 : Nat) : Int) v = nmDrf := rfl
    have e2 : decide (((4 : Nat) : Int) = 1 ∨ ((4 : Nat) : Int) = 2) = false := by decide
    rw [namedFrom_4, namedFrom_5, e, e2, named4]
    by_cases hc : nm = nmDrf
    · subst hc
      have hv : isNum v = false ∧ v = 0 := by
        rw [show ltr ((4 : Nat) : Int) = nmDrf from rfl, trim_self] at h
        rcases h with h | ⟨_, h1, h2⟩
        · exact absurd h (atoi_nil v)
        · exact ⟨h1, h2 rfl⟩
      rw [if_pos rfl, if_pos ⟨hv.1, rfl⟩, hv.2]; rfl
    · rw [if_neg hc, if_neg (fun h => hc h.2.symm)]
end Go.Proofs.YtodcnkbblippnaaGreatDoor
