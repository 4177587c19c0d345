/-
  The statement WritesUptoCardSaid is proved: the law Writes answers true at every set and every script within the statement's bounds.
  Part 16 of 23.
-/
import Derived.Test.YtfaeidbgdcincaaGreatDoorPart11
import Derived.Test.YtfaeidbgdcincaaGreatDoorPart12
import Derived.Test.YtfaeidbgdcincaaGreatDoorPart05
import Derived.Deep.RegionHeld3
import Derived.BigQuiet
import Derived.Deep.QuietTactic
/- Walk: the document's answer to a question (tidesref.Query). Printed by wip/genTq.py. -/
namespace Go.Proofs.YtfaeidbgdcincaaGreatDoor
open Go.RowKit
attribute [local go_sem ↓] Go.wp_at_zero Go.wp_at_succ

theorem Tryz.infoPoint : (Tryz.prog.info? 73).map (fun i => (i.zero, i.size, i.bytes)) = some (some (.agg #[.int .i64 0, .int .i64 0]), 2, 16) := by kernel_rfl
/-- Is this one asked for? -/
def qOk (series a b life clock : Int) (p : Pu) : Bool := decide (p.1 = series) && decide (a ≤ p.2.1) && decide (p.2.1 ≤ b) && aliveB p.2.1 life clock
def qStep (series a b life clock : Int) (l : List Pt) (p : Pu) : List Pt := if qOk series a b life clock p then insP l p.2.1 p.2.2 else l
def refQ (puts : List Pu) (series a b life clock : Int) : List Pt := puts.foldl (qStep series a b life clock) []
theorem insP_length (l : List Pt) (t v : Int) : l.length ≤ (insP l t v).length ∧ (insP l t v).length ≤ l.length + 1 := by
  induction l with
  | nil => simp [insP]
  | cons e r ih =>
    obtain ⟨a, b⟩ := e
    simp only [insP]
    split
    · simp only [List.length_cons]; omega
    · split <;> simp only [List.length_cons] <;> omega
theorem refQ_take (puts : List Pu) (k : Nat) (hk : k < puts.length) (series a b life clock : Int) : refQ (puts.take (k + 1)) series a b life clock = qStep series a b life clock (refQ (puts.take k) series a b life clock) (puts[k]'hk) := by
  unfold refQ
  rw [List.take_succ_eq_append_getElem hk, List.foldl_append]; rfl
theorem refQ_inv (puts : List Pu) (series a b life clock : Int) (k : Nat) (hk : k ≤ puts.length) : Sorted (refQ (puts.take k) series a b life clock) ∧ (refQ (puts.take k) series a b life clock).length ≤ k := by
  induction k with
  | zero => simp [refQ, Sorted]
  | succ k ih =>
    obtain ⟨h1, h2⟩ := ih (by omega)
    rw [refQ_take puts k (by omega)]
    unfold qStep
    split
    · have := (insP_length (refQ (puts.take k) series a b life clock) (puts[k]'(by omega)).2.1 (puts[k]'(by omega)).2.2).2
      exact ⟨insP_sorted h1 _ _, by omega⟩
    · exact ⟨h1, by omega⟩
/-- Where no point of that time is there. -/
theorem insP_new {l : List Pt} {t : Int} (v : Int) {j : Nat} (hj : posP l t = j) (hn : ∀ h : j < l.length, (l[j]'h).1 ≠ t) : insP l t v = l.take j ++ (t, v) :: l.drop j := by
  rw [insP_eq, hj]
  have : (l[j]?).any (fun x => x.1 == t) = false := by
    by_cases h : j < l.length
    · rw [List.getElem?_eq_getElem h]; simpa using hn h
    · rw [List.getElem?_eq_none (by omega)]; rfl
  rw [this]; simp
theorem insP_old {l : List Pt} {t : Int} (v : Int) {j : Nat} (hj : posP l t = j) (h : j < l.length) (he : (l[j]'h).1 = t) : insP l t v = l.set j (t, v) := by
  rw [insP_eq, hj]
  have : (l[j]?).any (fun x => x.1 == t) = true := by rw [List.getElem?_eq_getElem h]; simpa using he
  rw [this, List.set_eq_take_append_cons_drop]; simp [h]
/-- One step of making room. -/
theorem shift_list (l : List Pt) (x : Pt) (i : Nat) (hi : i < l.length) : (l.take (i + 1) ++ x :: l.drop (i + 1)).set (i + 1) (l[i]'hi) = l.take i ++ (l[i]'hi) :: l.drop i := by
  have h1 : (l.take (i + 1)).length = i + 1 := by simp; omega
  rw [List.set_append_right _ _ (by omega), h1, Nat.sub_self, List.set_cons_zero, List.take_succ_eq_append_getElem hi, List.append_assoc, List.drop_eq_getElem_cons hi]
  rfl
theorem place_list (l : List Pt) (x y : Pt) (i : Nat) (hi : i ≤ l.length) : (l.take i ++ x :: l.drop i).set i y = l.take i ++ y :: l.drop i := by
  have h1 : (l.take i).length = i := by simp; omega
  rw [List.set_append_right _ _ (by omega), h1, Nat.sub_self, List.set_cons_zero]

set_option maxRecDepth 100000 in
set_option maxHeartbeats 4000000 in
theorem query_any (w : World) (pv : Value) (puts : List Pu) (m : Nat) (hp : PuSl w pv puts) (hm : m ≤ puts.length) (hl : puts.length < 1099511627776) (hP : ∀ p ∈ puts, In64 p.2.1) (series a b life clock : Int) (hlife : 1 ≤ life ∧ life ≤ 4611686018427387904) (hclock : In64 clock) :
    Calls Tryz.prog 83 #[pv, .int .i64 m, .int .i64 series, .int .i64 a, .int .i64 b, .int .i64 life, .int .i64 clock] w fun e w' => ∃ v, e = .returned v ∧ PtSl w' v (refQ (puts.take m) series a b life clock) ∧ Chg (fun _ => False) w w' ∧ ∀ g, v.ownBlock = some g → w.heap.size ≤ g := by
  obtain ⟨ap, cp, rfl, hp1, hp2, hcell⟩ := hp.form
  unfold maxLen at hp2
  have HC := hide hcell
  have HL := hide hlife
  have HK := hide hclock
  have HPP := hide hP
  obtain ⟨i0, hi0, hz0, hz1, hz2⟩ := info_parts Tryz.infoPoint
  clear hp hcell hlife hclock hP
  go_enter Tryz.func83, Tryz.ntmps83
  go_wp2
  go_loopw [15, 16] (fun lv iv wr => ∃ k : Nat, k ≤ m ∧ iv = .int .i64 k ∧ Hid (PtSl wr lv (refQ (puts.take k) series a b life clock)) ∧ Hid (Chg (fun _ => False) w wr) ∧ Hid (∀ g, lv.ownBlock = some g → w.heap.size ≤ g)) (fun _ iv _ => m - (intOf iv).toNat)
  case atStart => exact ⟨0, Nat.zero_le _, rfl, World.ownsRow_nil _ _ _ _, Chg.refl _ _, by simp [Hid, Value.ownBlock]⟩
  case round =>
    obtain ⟨k, hk, rfl, how, hcr, hfr⟩ := hrel
    obtain ⟨w0, hw0⟩ : ∃ w0, w0 = wr := ⟨_, rfl⟩
    subst hw0
    by_cases hlk : k < m
    · obtain ⟨g, rfl, hg, q1, q2, q3⟩ := HC.out k (by omega)
      obtain ⟨⟨s, t, v⟩, hx⟩ : ∃ p, puts[k]'(by omega) = p := ⟨_, rfl⟩
      rw [hx] at q1 q2 q3
      have hxm : (s, t, v) ∈ puts := hx ▸ List.getElem_mem _
      have q1 := (World.cell?_of_block (hcr.out.block g hg (fun h => h))).trans q1
      have q2 := (World.cell?_of_block (hcr.out.block g hg (fun h => h))).trans q2
      have q3 := (World.cell?_of_block (hcr.out.block g hg (fun h => h))).trans q3
      obtain ⟨L, hL⟩ : ∃ L, refQ (puts.take k) series a b life clock = L := ⟨_, rfl⟩
      have inv := refQ_inv puts series a b life clock k (by omega)
      rw [hL] at inv how
      obtain ⟨hsort, hlen⟩ := inv
      have HS := hide hsort
      obtain ⟨al, hal⟩ : ∃ al, aliveB t life clock = al := ⟨_, rfl⟩
      have ALV : Hid (∀ W : World, Calls Tryz.prog 101 #[.int .i64 t, .int .i64 life, .int .i64 clock] W fun e w' => e = .returned (.bool al) ∧ W = w') := fun W => by
        rw [← hal]; exact alive_any t life clock W (HPP.out _ hxm) HL.out HK.out HK.out.2
      have NXT : Hid (refQ (puts.take (k + 1)) series a b life clock = if decide (s = series) && decide (a ≤ t) && decide (t ≤ b) && al then insP L t v else L) := by
        unfold Hid
        rw [refQ_take puts k (by omega), hL, hx]
        simp only [qStep, qOk, hal]
      have hi0' : (0 : Int) ≤ (k : Int) := Int.natCast_nonneg _
      have hi1' : (k : Int) < (puts.length : Int) := by omega
      have KO : Hid (PtSl (w0.alloc (.cells #[.int .i64 s, .int .i64 t, .int .i64 v] 135)) u15 L) := ownsRow_same how.out fun g hg => Below.heap_alloc _ _ _ (ownsRow_lt how.out hg)
      have KC : Hid (Chg (fun _ => False) w (w0.alloc (.cells #[.int .i64 s, .int .i64 t, .int .i64 v] 135))) := hcr.out.alloc _
      have hsz := hcr.out.size
      have CONT : Hid ((decide (s = series) && decide (a ≤ t) && decide (t ≤ b) && al) = false → ∃ k' : Nat, k' ≤ m ∧ Value.int .i64 ((k : Int) + 1) = .int .i64 k' ∧ Hid (PtSl (w0.alloc (.cells #[.int .i64 s, .int .i64 t, .int .i64 v] 135)) u15 (refQ (puts.take k') series a b life clock)) ∧ Hid (Chg (fun _ => False) w (w0.alloc (.cells #[.int .i64 s, .int .i64 t, .int .i64 v] 135))) ∧ Hid (∀ g, u15.ownBlock = some g → w.heap.size ≤ g)) := fun hf =>
        ⟨k + 1, by omega, by go_num, by unfold Hid; rw [NXT.out, hf]; exact KO.out, KC.out, hfr.out⟩
      clear hxm hx hL hal hsort how hcr
      have hkm : (k : Int) < (m : Int) := by omega
      by_cases hs : s = series
      · subst hs
        by_cases hf : t < a
        · have hr := hide (show ¬ a ≤ t by omega)
          go_wp2_with (go_at_call 101; refine (ALV.out _).mono ?_; rintro e w' ⟨rfl, rfl⟩)
          go_roundw
          case rel => exact CONT.out (by have h0 : decide (a ≤ t) = false := decide_eq_false (by have := hr.out; omega); simp [h0])
          case measure => simp [intOf]; omega
        · have hf' : a ≤ t := by omega
          clear hf
          by_cases ht : b < t
          · have hr := hide (show ¬ t ≤ b by omega)
            go_wp2_with (go_at_call 101; refine (ALV.out _).mono ?_; rintro e w' ⟨rfl, rfl⟩)
            go_roundw
            case rel => exact CONT.out (by have h0 : decide (t ≤ b) = false := decide_eq_false (by have := hr.out; omega); simp [h0])
            case measure => simp [intOf]; omega
          · have ht' : t ≤ b := by omega
            clear ht
            cases al with
            | false =>
              go_wp2_with (go_at_call 101; refine (ALV.out _).mono ?_; rintro e w' ⟨rfl, rfl⟩)
              go_roundw
              case rel => exact CONT.out (by simp)
              case measure => simp [intOf]; omega
            | true =>
              have NX2 : Hid (refQ (puts.take (k + 1)) s a b life clock = insP L t v) := by have := NXT.out; unfold Hid; simpa [hf', ht'] using this
              clear CONT NXT
              obtain ⟨aL, cL, rfl, hcl1, hcl2, hcl3, _, _⟩ := ownsRow_form KO.out
              unfold maxLen at hcl2
              have HA3 := hide hcl3
              clear hcl3
              have nbx := heap_alloc_new w0 (.cells #[.int .i64 s, .int .i64 t, .int .i64 v] 135)
              have NB := hide nbx
              clear nbx
              go_wp2_with (go_at_call 101; refine (ALV.out _).mono ?_; rintro e w' ⟨rfl, rfl⟩)
              go_loopw [19] (fun av wq => ∃ j : Nat, j ≤ L.length ∧ av = .int .i64 j ∧ Hid (∀ i (hi : i < L.length), i < j → (L[i]'hi).1 < t) ∧ Hid (Chg (fun _ => False) (w0.alloc (.cells #[.int .i64 s, .int .i64 t, .int .i64 v] 135)) wq)) (fun av _ => L.length - (intOf av).toNat)
              case atStart => exact ⟨0, Nat.zero_le _, rfl, fun i hi h => by omega, Chg.refl _ _⟩
              case round =>
                obtain ⟨j, hj, rfl, hbelow, hcq⟩ := hrel
                obtain ⟨w1, hw1⟩ : ∃ w1, w1 = wr := ⟨_, rfl⟩
                subst hw1
                have hbx : w1.heap[w0.heap.size]? = some (.cells #[.int .i64 s, .int .i64 t, .int .i64 v] 135 (0, 0)) := (hcq.out.block _ (by simp) (fun h => h)).trans NB.out
                have b0 : w1.cell? ⟨w0.heap.size, 0, none⟩ = some (.int .i64 s) := by simp [World.cell?, hbx]
                have b1 : w1.cell? ⟨w0.heap.size, 1, none⟩ = some (.int .i64 t) := by simp [World.cell?, hbx]
                have b2 : w1.cell? ⟨w0.heap.size, 2, none⟩ = some (.int .i64 v) := by simp [World.cell?, hbx]
                have HBX := hide hbx
                have KO1 : Hid (PtSl w1 (.slice aL L.length cL) L) := ownsRow_same KO.out fun g hg => hcq.out.block g (ownsRow_lt KO.out hg) (fun h => h)
                have KC1 : Hid (Chg (fun _ => False) w w1) := KC.out.trans hcq.out fun _ h _ => h
                clear hbx
                by_cases hjl : j < L.length
                · obtain ⟨g2, rfl⟩ := HA3.out (by omega)
                  obtain ⟨⟨tj, vj⟩, hLj⟩ : ∃ x, L[j]'hjl = x := ⟨_, rfl⟩
                  obtain ⟨d1, d2⟩ := KO1.out.cells j hjl
                  rw [hLj] at d1 d2
                  have HLj := hide hLj
                  clear hLj
                  have j0 : (0 : Int) ≤ (j : Int) := Int.natCast_nonneg _
                  have j1 : (j : Int) < (L.length : Int) := by omega
                  by_cases htj : tj < t
                  · go_wp2
                    go_quiet (fail)
                    go_wp2
                    go_roundw
                    case rel =>
                      refine ⟨j + 1, by omega, by go_num, fun i hi h => ?_, hcq.out.drewN _⟩
                      by_cases hij : i = j
                      · subst hij; rw [HLj.out]; exact htj
                      · exact hbelow.out i hi (by omega)
                    case measure => simp [intOf]; omega
                  · have htj' : t ≤ tj := by omega
                    have POS : Hid (posP L t = j) := posP_unique HS.out hj hbelow.out fun i hi h => by
                      by_cases hij : i = j
                      · subst hij; rw [HLj.out]; exact htj'
                      · have := List.pairwise_iff_getElem.1 HS.out j i hjl hi (by omega)
                        rw [HLj.out] at this
                        simp only at this; omega
                    by_cases heq : tj = t
                    · subst heq
                      have FIN : Hid (∀ n, PtSl ((w1.drewN n).setCell ⟨g2, j * 2 + 1, none⟩ (.int .i64 v)) (.slice (some ⟨g2, 0, none⟩) L.length cL) (insP L tj v) ∧ Chg (fun _ => False) w ((w1.drewN n).setCell ⟨g2, j * 2 + 1, none⟩ (.int .i64 v))) := by
                        intro n
                        have s1 := (KO1.out.stored (j * 2 + 1) (.int .i64 v)).1
                        rw [ptVals_set1 L j v hjl, HLj.out] at s1
                        have hnew : insP L tj v = L.set j (tj, v) := insP_old v POS.out hjl (by rw [HLj.out])
                        refine ⟨?_, ?_⟩
                        · rw [hnew]
                          unfold PtSl
                          rw [List.length_set]
                          exact ownsRow_same s1 fun g _ => rfl
                        · have hgw : w.heap.size ≤ g2 := hfr.out g2 rfl
                          exact (KC1.out.drewN n).setCell (p := ⟨g2, j * 2 + 1, none⟩) (fun h => by simp at h; omega) (.int .i64 v)
                      have gz : w1.frozen? ⟨g2, j * 2 + 1, none⟩ = false := ownsRow_frozen KO1.out rfl _
                      go_wp2
                      go_quiet (fail)
                      go_wp2
                      go_quiet (fail)
                      go_wp2
                      go_roundw
                      case rel =>
                        exact ⟨k + 1, by omega, by go_num, by unfold Hid; rw [NX2.out]; exact (FIN.out _).1, (FIN.out _).2, hfr.out⟩
                      case measure => simp [intOf]; omega
                    · have NEW : Hid (insP L t v = L.take j ++ (t, v) :: L.drop j) := insP_new v POS.out fun h => by rw [HLj.out]; exact heq
                      have hjL : j ≤ L.length := hj
                      have hne : (tj == t) = false := by simpa using heq
                      clear heq
                      have hcap3 : (L.length + 1) * 16 ≤ 140737488355328 := by omega
                      have ROW0 : Hid (∀ n, ((w1.drewN n).alloc (.cells #[.int .i64 0, .int .i64 0] 73)).ownsRow 0 73 2 (.slice (some ⟨g2, 0, none⟩) L.length cL) L.length (ptVals L)) := fun n => ownsRow_same KO1.out fun g hg => Below.heap_alloc _ _ _ (ownsRow_lt KO1.out hg)
                      have hsrc : Hid (∀ n, Src Tryz.prog 2 66 (.slice (some ⟨w1.heap.size, 0, none⟩) 1 1) 1 [.int .i64 0, .int .i64 0] ((w1.drewN n).alloc (.cells #[.int .i64 0, .int .i64 0] 73))) :=
                        fun n => Src.ofNew Tryz.underlying66 (w1.drewN n) #[.int .i64 0, .int .i64 0] 73 w1.heap.size (by simp) 1 1 rfl (by simp [Value.oneCell'])
                      have AFT : Hid (∀ n w3 a3 cap3, App ((w1.drewN n).alloc (.cells #[.int .i64 0, .int .i64 0] 73)) w3 73 2 (.slice (some ⟨g2, 0, none⟩) L.length cL) (.slice a3 (L.length + 1) cap3) (L.length + 1) (ptVals L ++ [.int .i64 0, .int .i64 0]) →
                          w3.heap[w0.heap.size]? = some (.cells #[.int .i64 s, .int .i64 t, .int .i64 v] 135 (0, 0)) ∧ Chg (fun _ => False) w w3 ∧ (∀ g, (Value.slice a3 (L.length + 1) cap3).ownBlock = some g → w.heap.size ≤ g) ∧ w3.ownsRow 0 73 2 (.slice a3 (L.length + 1) cap3) (L.length + 1) (ptVals (L.take L.length ++ (0, 0) :: L.drop L.length))) := by
                        intro n w3 a3 cap3 hA
                        have hs1 := KC1.out.size
                        refine ⟨?_, ?_, ?_, ?_⟩
                        · have h5 : ((w1.drewN n).alloc (.cells #[.int .i64 0, .int .i64 0] 73)).heap[w0.heap.size]? = some (.cells #[.int .i64 s, .int .i64 t, .int .i64 v] 135 (0, 0)) := (Below.heap_alloc _ _ _ (by simpa using lt_of_block HBX.out)).trans HBX.out
                          exact (hA.grown.block _ (lt_of_block h5) (fun e => by
                            obtain ⟨c, hh⟩ := ownsRow_elem (ROW0.out n) e.symm
                            exact elem_ne h5 hh (by decide) rfl)).trans h5
                        · exact ((KC1.out.drewN n).alloc _).grown hA.grown fun k hk hlt => by have := hfr.out k hk; omega
                        · intro g hg
                          rcases hA.at_ with e | e
                          · rw [e] at hg; exact hfr.out g hg
                          · rw [e] at hg; cases hg; simp; omega
                        · have := hA.own
                          rw [List.take_of_length_le (Nat.le_refl _), List.drop_of_length_le (Nat.le_refl _), ptVals_append]
                          exact this
                      go_wp2
                      go_quiet (fail)
                      go_wp2
                      go_quiet (fail)
                      go_wp2_with (at_builtin; refine wpList_app rfl (.tmp 91) (.tmp 93) 66 66 rfl 73 i0 _ 2 16 Tryz.underlying66 hi0 hz0 hz1 hz2 rfl (by decide) _ L.length (ptVals L) (by rfl) (ROW0.out _) _ 1 _ (by rfl) (hsrc.out _) hcap3 ?_; intro a3 cap3 w3 hA; have hA3 := hide (AFT.out _ w3 a3 cap3 hA); clear hA)
                      obtain ⟨hbx3, hc3, hfr3, hrow3⟩ := hA3.out
                      obtain ⟨_, _, e3, _, hcap3', h3s, _⟩ := ownsRow_form hrow3
                      cases e3
                      obtain ⟨g3, rfl⟩ := h3s (by omega)
                      unfold maxLen at hcap3'
                      have HBX3 := hide hbx3
                      have HC3 := hide hc3
                      have HROW3 := hide hrow3
                      have hg3w : w.heap.size ≤ g3 := hfr3 g3 rfl
                      clear hbx3 hc3 hrow3 h3s hA3 hfr3
                      go_loopw [20] (fun kv wz => ∃ i : Nat, j ≤ i ∧ i ≤ L.length ∧ kv = .int .i64 i ∧ Hid (Chg (fun _ => False) w wz) ∧ Hid (wz.heap[w0.heap.size]? = some (.cells #[.int .i64 s, .int .i64 t, .int .i64 v] 135 (0, 0))) ∧ Hid (∃ x, wz.ownsRow 0 73 2 (.slice (some ⟨g3, 0, none⟩) (L.length + 1) cap3) (L.length + 1) (ptVals (L.take i ++ x :: L.drop i)))) (fun kv _ => (intOf kv).toNat)
                      case atStart => exact ⟨L.length, hjL, Nat.le_refl _, rfl, HC3.out, HBX3.out, (0, 0), HROW3.out⟩
                      case round =>
                        obtain ⟨i, hji, hiL, rfl, hcz, hbz, hrz⟩ := hrel
                        obtain ⟨⟨x1, x2⟩, hrx⟩ := hrz.out
                        have HRX := hide hrx
                        have z0 := ownsRow_frozen hrx (g := g3) rfl (i * 2)
                        have z1 := ownsRow_frozen hrx (g := g3) rfl (i * 2 + 1)
                        have xl : (L.take i ++ (x1, x2) :: L.drop i).length = L.length + 1 := by simp; omega
                        have o0 := ownsRow_cell hrx (g := g3) rfl (ptVals_t _ i (by rw [xl]; omega))
                        have o1 := ownsRow_cell hrx (g := g3) rfl (ptVals_v _ i (by rw [xl]; omega))
                        have iB : (i : Int) < ((L.length + 1 : Nat) : Int) := by omega
                        have iA : (0 : Int) ≤ (i : Int) := Int.natCast_nonneg _
                        have hXX : (L.take i ++ (x1, x2) :: L.drop i)[i]'(by rw [xl]; omega) = (x1, x2) := by
                          rw [List.getElem_append_right (by simp; omega)]; simp [Nat.min_eq_left hiL]
                        rw [hXX] at o0 o1
                        have HXL := hide xl
                        have iD : (i : Int) < (L.length : Int) + 1 := by omega
                        clear hXX xl hrx hrz
                        by_cases hgt : j < i
                        · have h1 : (i - 1) < L.length := by omega
                          obtain ⟨⟨ti, vi⟩, hLi⟩ : ∃ y, L[i - 1]'h1 = y := ⟨_, rfl⟩
                          have hXi : (L.take i ++ (x1, x2) :: L.drop i)[i - 1]'(by rw [HXL.out]; omega) = (ti, vi) := by
                            rw [List.getElem_append_left (by simp; omega)]; simp [hLi]
                          have c0 := ownsRow_cell HRX.out (g := g3) rfl (ptVals_t _ (i - 1) (by rw [HXL.out]; omega))
                          have c1 := ownsRow_cell HRX.out (g := g3) rfl (ptVals_v _ (i - 1) (by rw [HXL.out]; omega))
                          rw [hXi] at c0 c1
                          have hgt' : (j : Int) < (i : Int) := by omega
                          have i1 : (0 : Int) ≤ (i : Int) - 1 := by omega
                          have i2 : (i : Int) - 1 < ((L.length + 1 : Nat) : Int) := by omega
                          have i4 : (i : Int) - 1 < (L.length : Int) + 1 := by omega
                          have i3 : ((i : Int) - 1).toNat = i - 1 := by omega
                          have SH : Hid (∀ wy : World, wy = ((wr.setCell ⟨g3, i * 2, none⟩ (.int .i64 ti)).setCell ⟨g3, i * 2 + 1, none⟩ (.int .i64 vi)) → Chg (fun _ => False) w wy ∧ wy.heap[w0.heap.size]? = some (.cells #[.int .i64 s, .int .i64 t, .int .i64 v] 135 (0, 0)) ∧ wy.ownsRow 0 73 2 (.slice (some ⟨g3, 0, none⟩) (L.length + 1) cap3) (L.length + 1) (ptVals (L.take (i - 1) ++ (ti, vi) :: L.drop (i - 1)))) := by
                            intro wy hy
                            subst hy
                            have s1 := (HRX.out.stored (i * 2) (.int .i64 ti)).1
                            have s2 := (s1.stored (i * 2 + 1) (.int .i64 vi)).1
                            have e := ptVals_set (L.take i ++ (x1, x2) :: L.drop i) i (ti, vi) (by rw [HXL.out]; omega)
                            have e2 := shift_list L (x1, x2) (i - 1) h1
                            rw [show i - 1 + 1 = i from by omega, hLi] at e2
                            simp only at e
                            rw [e, e2] at s2
                            obtain ⟨ce, hce⟩ := ownsRow_elem HRX.out (g := g3) rfl
                            refine ⟨(hcz.out.setCell (p := ⟨g3, i * 2, none⟩) (fun h => by simp at h; omega) _).setCell (p := ⟨g3, i * 2 + 1, none⟩) (fun h => by simp at h; omega) _, ?_, s2⟩
                            have hne3 : w0.heap.size ≠ g3 := fun e => elem_ne hbz.out hce (by decide) e
                            rw [Below.heap_setCell _ _ _ _ hne3, Below.heap_setCell _ _ _ _ hne3]; exact hbz.out
                          clear hXi hLi HRX
                          go_wp2
                          go_roundw
                          case rel =>
                            obtain ⟨k1, k2, k3⟩ := SH.out _ rfl
                            exact ⟨i - 1, by omega, by omega, by go_num, k1, k2, (ti, vi), k3⟩
                          case measure => simp [intOf]; omega
                        · obtain rfl : i = j := by omega
                          have p1 : wr.cell? ⟨w0.heap.size, 1, none⟩ = some (.int .i64 t) := by simp [World.cell?, hbz.out]
                          have p2 : wr.cell? ⟨w0.heap.size, 2, none⟩ = some (.int .i64 v) := by simp [World.cell?, hbz.out]
                          have FIN : Hid (∀ wy : World, wy = ((wr.setCell ⟨g3, i * 2, none⟩ (.int .i64 t)).setCell ⟨g3, i * 2 + 1, none⟩ (.int .i64 v)) → PtSl wy (.slice (some ⟨g3, 0, none⟩) (L.length + 1) cap3) (insP L t v) ∧ Chg (fun _ => False) w wy) := by
                            intro wy hy
                            subst hy
                            have s1 := (HRX.out.stored (i * 2) (.int .i64 t)).1
                            have s2 := (s1.stored (i * 2 + 1) (.int .i64 v)).1
                            have e := ptVals_set (L.take i ++ (x1, x2) :: L.drop i) i (t, v) (by rw [HXL.out]; omega)
                            simp only at e
                            rw [e, place_list L (x1, x2) (t, v) i hjL, ← NEW.out] at s2
                            have hlen : (insP L t v).length = L.length + 1 := by rw [NEW.out]; simp; try omega
                            refine ⟨?_, (hcz.out.setCell (p := ⟨g3, i * 2, none⟩) (fun h => by simp at h; omega) _).setCell (p := ⟨g3, i * 2 + 1, none⟩) (fun h => by simp at h; omega) _⟩
                            unfold PtSl
                            rw [hlen]; exact s2
                          clear HRX
                          go_wp2
                          go_roundw
                          case rel => exact ⟨k + 1, by omega, by go_num, by unfold Hid; rw [NX2.out]; exact (FIN.out _ rfl).1, (FIN.out _ rfl).2, by intro g hg; simp [Value.ownBlock] at hg; omega⟩
                          case measure => simp [intOf]; omega
                · obtain rfl : j = L.length := by omega
                  have POS : Hid (posP L t = L.length) := posP_unique HS.out (Nat.le_refl _) (fun i hi h => hbelow.out i hi h) fun i hi h => by omega
                  have NEW : Hid (insP L t v = L.take L.length ++ (t, v) :: L.drop L.length) := insP_new v POS.out fun h => by omega
                  have hjL : L.length ≤ L.length := hj
                  have hcap3 : (L.length + 1) * 16 ≤ 140737488355328 := by omega
                  have ROW0 : Hid (∀ n, ((w1.drewN n).alloc (.cells #[.int .i64 0, .int .i64 0] 73)).ownsRow 0 73 2 (.slice aL L.length cL) L.length (ptVals L)) := fun n => ownsRow_same KO1.out fun g hg => Below.heap_alloc _ _ _ (ownsRow_lt KO1.out hg)
                  have hsrc : Hid (∀ n, Src Tryz.prog 2 66 (.slice (some ⟨w1.heap.size, 0, none⟩) 1 1) 1 [.int .i64 0, .int .i64 0] ((w1.drewN n).alloc (.cells #[.int .i64 0, .int .i64 0] 73))) :=
                    fun n => Src.ofNew Tryz.underlying66 (w1.drewN n) #[.int .i64 0, .int .i64 0] 73 w1.heap.size (by simp) 1 1 rfl (by simp [Value.oneCell'])
                  have AFT : Hid (∀ n w3 a3 cap3, App ((w1.drewN n).alloc (.cells #[.int .i64 0, .int .i64 0] 73)) w3 73 2 (.slice aL L.length cL) (.slice a3 (L.length + 1) cap3) (L.length + 1) (ptVals L ++ [.int .i64 0, .int .i64 0]) →
                      w3.heap[w0.heap.size]? = some (.cells #[.int .i64 s, .int .i64 t, .int .i64 v] 135 (0, 0)) ∧ Chg (fun _ => False) w w3 ∧ (∀ g, (Value.slice a3 (L.length + 1) cap3).ownBlock = some g → w.heap.size ≤ g) ∧ w3.ownsRow 0 73 2 (.slice a3 (L.length + 1) cap3) (L.length + 1) (ptVals (L.take L.length ++ (0, 0) :: L.drop L.length))) := by
                    intro n w3 a3 cap3 hA
                    have hs1 := KC1.out.size
                    refine ⟨?_, ?_, ?_, ?_⟩
                    · have h5 : ((w1.drewN n).alloc (.cells #[.int .i64 0, .int .i64 0] 73)).heap[w0.heap.size]? = some (.cells #[.int .i64 s, .int .i64 t, .int .i64 v] 135 (0, 0)) := (Below.heap_alloc _ _ _ (by simpa using lt_of_block HBX.out)).trans HBX.out
                      exact (hA.grown.block _ (lt_of_block h5) (fun e => by
                        obtain ⟨c, hh⟩ := ownsRow_elem (ROW0.out n) e.symm
                        exact elem_ne h5 hh (by decide) rfl)).trans h5
                    · exact ((KC1.out.drewN n).alloc _).grown hA.grown fun k hk hlt => by have := hfr.out k hk; omega
                    · intro g hg
                      rcases hA.at_ with e | e
                      · rw [e] at hg; exact hfr.out g hg
                      · rw [e] at hg; cases hg; simp; omega
                    · have := hA.own
                      rw [List.take_of_length_le (Nat.le_refl _), List.drop_of_length_le (Nat.le_refl _), ptVals_append]
                      exact this
                  go_wp2
                  go_quiet (fail)
                  go_wp2
                  go_quiet (fail)
                  go_wp2_with (at_builtin; refine wpList_app rfl (.tmp 91) (.tmp 93) 66 66 rfl 73 i0 _ 2 16 Tryz.underlying66 hi0 hz0 hz1 hz2 rfl (by decide) _ L.length (ptVals L) (by rfl) (ROW0.out _) _ 1 _ (by rfl) (hsrc.out _) hcap3 ?_; intro a3 cap3 w3 hA; have hA3 := hide (AFT.out _ w3 a3 cap3 hA); clear hA)
                  obtain ⟨hbx3, hc3, hfr3, hrow3⟩ := hA3.out
                  obtain ⟨_, _, e3, _, hcap3', h3s, _⟩ := ownsRow_form hrow3
                  cases e3
                  obtain ⟨g3, rfl⟩ := h3s (by omega)
                  unfold maxLen at hcap3'
                  have HBX3 := hide hbx3
                  have HC3 := hide hc3
                  have HROW3 := hide hrow3
                  have hg3w : w.heap.size ≤ g3 := hfr3 g3 rfl
                  clear hbx3 hc3 hrow3 h3s hA3 hfr3
                  go_loopw [20] (fun kv wz => ∃ i : Nat, L.length ≤ i ∧ i ≤ L.length ∧ kv = .int .i64 i ∧ Hid (Chg (fun _ => False) w wz) ∧ Hid (wz.heap[w0.heap.size]? = some (.cells #[.int .i64 s, .int .i64 t, .int .i64 v] 135 (0, 0))) ∧ Hid (∃ x, wz.ownsRow 0 73 2 (.slice (some ⟨g3, 0, none⟩) (L.length + 1) cap3) (L.length + 1) (ptVals (L.take i ++ x :: L.drop i)))) (fun kv _ => (intOf kv).toNat)
                  case atStart => exact ⟨L.length, hjL, Nat.le_refl _, rfl, HC3.out, HBX3.out, (0, 0), HROW3.out⟩
                  case round =>
                    obtain ⟨i, hji, hiL, rfl, hcz, hbz, hrz⟩ := hrel
                    obtain ⟨⟨x1, x2⟩, hrx⟩ := hrz.out
                    have HRX := hide hrx
                    have z0 := ownsRow_frozen hrx (g := g3) rfl (i * 2)
                    have z1 := ownsRow_frozen hrx (g := g3) rfl (i * 2 + 1)
                    have xl : (L.take i ++ (x1, x2) :: L.drop i).length = L.length + 1 := by simp; omega
                    have o0 := ownsRow_cell hrx (g := g3) rfl (ptVals_t _ i (by rw [xl]; omega))
                    have o1 := ownsRow_cell hrx (g := g3) rfl (ptVals_v _ i (by rw [xl]; omega))
                    have iB : (i : Int) < ((L.length + 1 : Nat) : Int) := by omega
                    have iA : (0 : Int) ≤ (i : Int) := Int.natCast_nonneg _
                    have hXX : (L.take i ++ (x1, x2) :: L.drop i)[i]'(by rw [xl]; omega) = (x1, x2) := by
                      rw [List.getElem_append_right (by simp; omega)]; simp [Nat.min_eq_left hiL]
                    rw [hXX] at o0 o1
                    have HXL := hide xl
                    have iD : (i : Int) < (L.length : Int) + 1 := by omega
                    clear hXX xl hrx hrz
                    by_cases hgt : L.length < i
                    · omega
                    · obtain rfl : i = L.length := by omega
                      have p1 : wr.cell? ⟨w0.heap.size, 1, none⟩ = some (.int .i64 t) := by simp [World.cell?, hbz.out]
                      have p2 : wr.cell? ⟨w0.heap.size, 2, none⟩ = some (.int .i64 v) := by simp [World.cell?, hbz.out]
                      have FIN : Hid (∀ wy : World, wy = ((wr.setCell ⟨g3, L.length * 2, none⟩ (.int .i64 t)).setCell ⟨g3, L.length * 2 + 1, none⟩ (.int .i64 v)) → PtSl wy (.slice (some ⟨g3, 0, none⟩) (L.length + 1) cap3) (insP L t v) ∧ Chg (fun _ => False) w wy) := by
                        intro wy hy
                        subst hy
                        have s1 := (HRX.out.stored (L.length * 2) (.int .i64 t)).1
                        have s2 := (s1.stored (L.length * 2 + 1) (.int .i64 v)).1
                        have e := ptVals_set (L.take L.length ++ (x1, x2) :: L.drop L.length) L.length (t, v) (by rw [HXL.out]; omega)
                        simp only at e
                        rw [e, place_list L (x1, x2) (t, v) L.length hjL, ← NEW.out] at s2
                        have hlen : (insP L t v).length = L.length + 1 := by rw [NEW.out]; simp; try omega
                        refine ⟨?_, (hcz.out.setCell (p := ⟨g3, L.length * 2, none⟩) (fun h => by simp at h; omega) _).setCell (p := ⟨g3, L.length * 2 + 1, none⟩) (fun h => by simp at h; omega) _⟩
                        unfold PtSl
                        rw [hlen]; exact s2
                      clear HRX
                      go_wp2
                      go_roundw
                      case rel => exact ⟨k + 1, by omega, by go_num, by unfold Hid; rw [NX2.out]; exact (FIN.out _ rfl).1, (FIN.out _ rfl).2, by intro g hg; simp [Value.ownBlock] at hg; omega⟩
                      case measure => simp [intOf]; omega
      · have hs' : (s == series) = false := by simpa using hs
        have hr := hide hs
        clear hs
        go_wp2_with (go_at_call 101; refine (ALV.out _).mono ?_; rintro e w' ⟨rfl, rfl⟩)
        go_roundw
        case rel => exact CONT.out (by have h0 := decide_eq_false hr.out; simp [h0])
        case measure => simp [intOf]; omega
    · obtain rfl : k = m := by omega
      go_wp2
      go_ret
      exact ⟨_, rfl, how.out, hcr.out, hfr.out⟩
end Go.Proofs.YtfaeidbgdcincaaGreatDoor
