/-
  The statement PassingCardSaid is proved: the law Passing answers true, at every four numbers; there is no condition.
  Part 25 of 34.
-/
import Derived.Test.YtodcnkbblippnaaGreatDoorPart24
/- Walks: a part of a row is sorted by insertion: insertionSortCmpFunc. -/
namespace Go.Proofs.YtodcnkbblippnaaGreatDoor
open Go.RowKit
attribute [local go_sem ↓] NoP_normal

/-- One of them is put over. -/
theorem puVals_set : ∀ (l : List Pu) (k : Nat) (_ : k < l.length) (p : Pu), puVals (l.set k p) = (((puVals l).set (k * 3) (.int .i64 p.1)).set (k * 3 + 1) (.int .i64 p.2.1)).set (k * 3 + 2) (.int .i64 p.2.2)
  | [], k, h, p => by simp at h
  | (a, b, c) :: r, 0, _, p => by obtain ⟨p1, p2, p3⟩ := p; simp [puVals]
  | (a, b, c) :: r, k + 1, h, p => by
    have ih := puVals_set r k (by simpa using h) p
    have e1 : (k + 1) * 3 = k * 3 + 1 + 1 + 1 := by omega
    simp only [List.set_cons_succ, puVals, ih, e1]
theorem PfSl.set {w : World} {g n cap : Nat} {l : List Pu} (h : w.ownsRow 0 113 3 (.slice (some ⟨g, 0, none⟩) n cap) n (puVals l)) (k : Nat) (hk : k < l.length) (p : Pu) :
    (((w.setCell ⟨g, k * 3, none⟩ (.int .i64 p.1)).setCell ⟨g, k * 3 + 1, none⟩ (.int .i64 p.2.1)).setCell ⟨g, k * 3 + 2, none⟩ (.int .i64 p.2.2)).ownsRow 0 113 3 (.slice (some ⟨g, 0, none⟩) n cap) n (puVals (l.set k p)) := by
  rw [puVals_set l k hk p]
  exact (((h.stored (k * 3) _).1.stored (k * 3 + 1) _).1.stored (k * 3 + 2) _).1
theorem set_pair {α : Type} (A C : List α) (x y : α) : ((A ++ y :: x :: C).set (A.length + 1) y).set A.length x = A ++ x :: y :: C := by
  have e1 : (A ++ y :: x :: C).set (A.length + 1) y = A ++ y :: y :: C := by
    rw [List.set_append_right _ _ (by omega)]
    simp
  rw [e1, List.set_append_right _ _ (by omega)]
  simp
/-- What is read of two neighbours. -/
theorem PfSl.two {w : World} {g n cap : Nat} {A C : List Pu} {x y : Pu} (h : w.ownsRow 0 113 3 (.slice (some ⟨g, 0, none⟩) n cap) n (puVals (A ++ y :: x :: C))) :
    (w.cell? ⟨g, A.length * 3, none⟩ = some (.int .i64 y.1) ∧ w.cell? ⟨g, A.length * 3 + 1, none⟩ = some (.int .i64 y.2.1) ∧ w.cell? ⟨g, A.length * 3 + 2, none⟩ = some (.int .i64 y.2.2)) ∧
    (w.cell? ⟨g, (A.length + 1) * 3, none⟩ = some (.int .i64 x.1) ∧ w.cell? ⟨g, (A.length + 1) * 3 + 1, none⟩ = some (.int .i64 x.2.1) ∧ w.cell? ⟨g, (A.length + 1) * 3 + 2, none⟩ = some (.int .i64 x.2.2)) ∧ ∀ o, w.frozen? ⟨g, o, none⟩ = false := by
  obtain ⟨q1, q2, q3⟩ := puVals_at (A ++ y :: x :: C) A.length (by simp)
  obtain ⟨r1, r2, r3⟩ := puVals_at (A ++ y :: x :: C) (A.length + 1) (by simp)
  have e1 : (A ++ y :: x :: C)[A.length]'(by simp) = y := by simp
  have e2 : (A ++ y :: x :: C)[A.length + 1]'(by simp) = x := by
    rw [List.getElem_append_right (by omega)]; simp
  rw [e1] at q1 q2 q3
  rw [e2] at r1 r2 r3
  exact ⟨⟨ownsRow_cell h rfl q1, ownsRow_cell h rfl q2, ownsRow_cell h rfl q3⟩, ⟨ownsRow_cell h rfl r1, ownsRow_cell h rfl r2, ownsRow_cell h rfl r3⟩, fun o => ownsRow_frozen h rfl o⟩
/-- One more, in its place. -/
theorem ins_done {α : Type} {lt : α → α → Bool} (hw : Weak lt) {m : List α} {x : α} {q : Nat} (hm : Asc lt m) (_hq : q ≤ m.length) (h1 : ∀ y ∈ m.drop q, lt x y = true) (h2 : ∀ z, (m.take q).getLast? = some z → lt x z = false) :
    Asc lt (m.take q ++ x :: m.drop q) ∧ Steq lt (m ++ [x]) (m.take q ++ x :: m.drop q) := by
  have hsp := List.take_append_drop q m
  have hA : Asc lt (m.take q ++ m.drop q) := by rw [hsp]; exact hm
  obtain ⟨a1, a2, a3⟩ := hA.append
  have hx : ∀ y ∈ m.take q, lt x y = false := by
    have hxs : Asc lt [x] := List.pairwise_singleton _ _
    have := hw.border a1 hxs fun z y hz hy => by
      simp at hy; subst hy; exact h2 z hz
    exact fun y hy => this y hy x (by simp)
  refine ⟨Asc.of_append a1 (List.pairwise_cons.2 ⟨fun y hy => hw.asymm (h1 y hy), a2⟩) fun y hy z hz => ?_, ?_⟩
  · rcases List.mem_cons.1 hz with rfl | hz
    · exact hx y hy
    · exact a3 y hy z hz
  · have h3 : Steq lt (m.drop q ++ [x]) (x :: m.drop q) := hw.move1' h1
    have h4 := (Steq.refl (lt := lt) (m.take q)).append h3
    rw [← List.append_assoc, hsp] at h4
    exact h4
set_option maxRecDepth 100000 in
set_option maxHeartbeats 16000000 in
theorem insSort_any (w : World) (g cap wb : Nat) (len : Int) (l : List Pu) (a b : Nat) (hab : a < b) (hb : b ≤ l.length) (h : PfSl w (.slice (some ⟨g, 0, none⟩) l.length cap) l) (hT : ∀ p ∈ l, In64 p.2.1) (hl : 1 ≤ len ∧ len ≤ 4611686018427387904) (hw : w.cell? ⟨wb, 0, none⟩ = some (.int .i64 len)) (hwb : wb ≠ g) (_hbig : l.length ≤ 4294967296) :
    Calls Tryz.prog 243 #[.slice (some ⟨g, 0, none⟩) l.length cap, .int .i64 a, .int .i64 b, .func (Fn.func 155) #[] #[.pointer (some ⟨wb, 0, none⟩)]] w fun e w' => e = .returned (.tuple #[]) ∧
      ∃ m, PfSl w' (.slice (some ⟨g, 0, none⟩) l.length cap) (l.take a ++ m ++ l.drop b) ∧ m.length = b - a ∧ Steq (keyLt len) ((l.take b).drop a) m ∧ Asc (keyLt len) m ∧ Chg (One g) w w' := by
  have KW := keyWeak len
  obtain ⟨n, hn⟩ : ∃ n, l.length = n := ⟨_, rfl⟩
  have H0 : Hid (w.ownsRow 0 113 3 (.slice (some ⟨g, 0, none⟩) n cap) n (puVals l)) := by have := h; unfold PfSl at this; rw [hn] at this; exact this
  rw [hn] at hb ⊢
  have hcap : n ≤ cap ∧ cap ≤ 9223372036854775807 := by
    obtain ⟨a', c', e, h1, h2, _⟩ := ownsRow_form H0.out
    cases e; unfold maxLen at h2; omega
  obtain ⟨hc1, hc2⟩ := hcap
  have HT := hide hT
  have HW := hide hw
  have HL := hide hl
  have HN := hide hn
  have HWB := hide hwb
  have eia : wrap64 ((a : Int) + 1) = (a : Int) + 1 := by unfold wrap64; omega
  clear h hT hw hl hn hwb
  go_enter Tryz.func243, Tryz.ntmps243
  go_wp2
  go_loopw [8] (fun iv wr => ∃ i : Nat, iv = .int .i64 ((i : Int) + 1) ∧ a ≤ i ∧ i + 1 ≤ b ∧ Hid (∃ m, wr.ownsRow 0 113 3 (.slice (some ⟨g, 0, none⟩) n cap) n (puVals (l.take a ++ m ++ l.drop (i + 1))) ∧ m.length = i + 1 - a ∧ Steq (keyLt len) ((l.take (i + 1)).drop a) m ∧ Asc (keyLt len) m ∧ Chg (One g) w wr)) (fun iv _ => b - (intOf iv).toNat)
  case atStart =>
    refine ⟨a, rfl, by omega, by omega, (l.take (a + 1)).drop a, ?_, ?_, Steq.refl _, ?_, Chg.refl _ _⟩
    · have e : l.take a ++ (l.take (a + 1)).drop a ++ l.drop (a + 1) = l := by
        have := List.take_append_drop (a + 1) l
        conv => rhs; rw [← this]
        congr 1
        have h2 := List.take_append_drop a (l.take (a + 1))
        rw [List.take_take] at h2
        rw [show min a (a + 1) = a by omega] at h2
        exact h2
      rw [e]; exact H0.out
    · have := HN.out; simp; omega
    · have hlen : ((l.take (a + 1)).drop a).length ≤ 1 := by simp; omega
      match hx : (l.take (a + 1)).drop a, hlen with
      | [], _ => exact List.Pairwise.nil
      | [x], _ => exact List.pairwise_singleton _ _
      | x :: y :: r, hl => simp at hl
  case round =>
    obtain ⟨i, rfl, hai, hib, hI⟩ := hrel
    obtain ⟨m, i1, i2, i3, i4, i5⟩ := hI.out
    by_cases hi1 : i + 1 < b
    · obtain ⟨w1, hw1⟩ : ∃ w1, w1 = wr := ⟨_, rfl⟩
      subst hw1
      have hil : i + 1 < l.length := by have := HN.out; omega
      have hdr := List.drop_eq_getElem_cons hil
      have htk : l.take (i + 1 + 1) = l.take (i + 1) ++ [l[i + 1]'hil] := List.take_succ_eq_append_getElem hil
      have hxm := List.getElem_mem hil
      obtain ⟨x, hx⟩ : ∃ x, (l[i + 1]'hil) = x := ⟨_, rfl⟩
      rw [hx] at hdr htk hxm
      rw [hdr] at i1
      have I1 := hide i1
      have I2 := hide i2
      have I3 := hide i3
      have I4 := hide i4
      have I5 := hide i5
      have HTK : Hid ((l.take (i + 1 + 1)).drop a = (l.take (i + 1)).drop a ++ [x]) := by
        unfold Hid; rw [htk, List.drop_append_of_le_length (by simp; omega)]
      have HXT := hide (HT.out x hxm)
      have HPRE : Hid ((l.take a).length = a) := by unfold Hid; have := HN.out; simp; omega
      have hk0 : (0 : Int) ≤ (i : Int) := Int.natCast_nonneg _
      have hki : (i : Int) + 1 < (b : Int) := by omega
      clear hI i1 i2 i3 i4 i5 hdr htk hx hxm
      go_wp2
      have DONE : Hid (∀ (wx : World) (q : Nat), q ≤ m.length → (∀ y ∈ m.drop q, keyLt len x y = true) → (∀ z, (m.take q).getLast? = some z → keyLt len x z = false) → wx.ownsRow 0 113 3 (.slice (some ⟨g, 0, none⟩) n cap) n (puVals ((l.take a ++ m.take q) ++ x :: (m.drop q ++ l.drop (i + 1 + 1)))) → Chg (One g) w wx →
          ∃ m', wx.ownsRow 0 113 3 (.slice (some ⟨g, 0, none⟩) n cap) n (puVals (l.take a ++ m' ++ l.drop (i + 1 + 1))) ∧ m'.length = i + 1 + 1 - a ∧ Steq (keyLt len) ((l.take (i + 1 + 1)).drop a) m' ∧ Asc (keyLt len) m' ∧ Chg (One g) w wx) := fun wx q hq h1 h2 h3 h4 => by
        obtain ⟨d1, d2⟩ := ins_done KW I4.out hq h1 h2
        refine ⟨m.take q ++ x :: m.drop q, ?_, ?_, ?_, d1, h4⟩
        · have e : l.take a ++ (m.take q ++ x :: m.drop q) ++ l.drop (i + 1 + 1) = (l.take a ++ m.take q) ++ x :: (m.drop q ++ l.drop (i + 1 + 1)) := by simp
          rw [e]; exact h3
        · have := I2.out; simp; omega
        · rw [HTK.out]; exact (I3.out.append (Steq.refl _)).trans d2
      go_loopw [9] (fun jv wr => ∃ j q : Nat, jv = .int .i64 (j : Int) ∧ j ≤ i + 1 ∧ Hid (j = a + q ∧ q ≤ m.length ∧ wr.ownsRow 0 113 3 (.slice (some ⟨g, 0, none⟩) n cap) n (puVals ((l.take a ++ m.take q) ++ x :: (m.drop q ++ l.drop (i + 1 + 1)))) ∧ (∀ y ∈ m.drop q, keyLt len x y = true) ∧ Chg (One g) w wr)) (fun jv _ => (intOf jv).toNat)
      case atStart =>
        refine ⟨i + 1, m.length, by go_num, Nat.le_refl _, by have := I2.out; omega, Nat.le_refl _, ?_, (fun y hy => by rw [List.drop_length] at hy; cases hy), I5.out⟩
        rw [List.take_length, List.drop_length, List.nil_append]; exact I1.out
      case round =>
        obtain ⟨j, q, rfl, hji, hJ⟩ := hrel
        obtain ⟨j1, j2, j3, j4, j5⟩ := hJ.out
        by_cases hq0 : q = 0
        · subst hq0
          have hja : j = a := by omega
          subst hja
          have FIN := hide (fun nq => DONE.out (wr.drewN nq) 0 (Nat.zero_le _) j4 (fun z hz => by simp at hz) (ownsRow_same j3 fun _ _ => rfl) (j5.drewN nq))
          have hjj : ¬ ((j : Int) < (j : Int)) := by omega
          clear hJ j1 j2 j3 j4 j5 DONE
          go_wp2
          go_quiet (fail)
          go_wp2
          go_roundw
          case rel => exact ⟨i + 1, by go_num, by omega, by omega, FIN.out _⟩
          case measure => simp [intOf]; omega
        · obtain ⟨q, rfl⟩ : ∃ q', q = q' + 1 := ⟨q - 1, by omega⟩
          obtain ⟨P, hP⟩ : ∃ P, a + q = P := ⟨_, rfl⟩
          have hjP : j = P + 1 := by omega
          subst hjP
          have hqm : q < m.length := by omega
          have htq : m.take (q + 1) = m.take q ++ [m[q]'hqm] := List.take_succ_eq_append_getElem hqm
          have hdq : m.drop q = m[q]'hqm :: m.drop (q + 1) := List.drop_eq_getElem_cons hqm
          obtain ⟨y, hy⟩ : ∃ y, (m[q]'hqm) = y := ⟨_, rfl⟩
          rw [hy] at htq hdq
          have hlast : ∀ z, (m.take (q + 1)).getLast? = some z → z = y := fun z hz => by rw [htq] at hz; simpa using hz.symm
          have hyT : In64 y.2.1 := by
            have hym : y ∈ m := by rw [← hy]; exact List.getElem_mem hqm
            have := (I3.out.symm.mem KW hym)
            exact HT.out y (List.mem_of_mem_take (List.mem_of_mem_drop this))
          have hPl : (l.take a ++ m.take q).length = P := by have := HPRE.out; rw [List.length_append, this, List.length_take]; omega
          have e0 : (l.take a ++ m.take (q + 1)) ++ x :: (m.drop (q + 1) ++ l.drop (i + 1 + 1)) = (l.take a ++ m.take q) ++ y :: x :: (m.drop (q + 1) ++ l.drop (i + 1 + 1)) := by rw [htq]; simp
          have j3' := j3
          rw [e0] at j3'
          obtain ⟨⟨y1, y2, y3⟩, ⟨x1, x2, x3⟩, fz⟩ := PfSl.two j3'
          rw [hPl] at y1 y2 y3 x1 x2 x3
          have CM := hide (fun wx hwx => cmpW_any wx wb len x y HXT.out hyT HL.out hwx)
          have hrg := cmpW_range len x y
          have hcl := cmpW_lt (len := len) (p := x) (q := y)
          obtain ⟨cc, hcc⟩ : ∃ cc, cmpW len x y = cc := ⟨_, rfl⟩
          rw [hcc] at CM hrg hcl
          have hwbr : wr.cell? ⟨wb, 0, none⟩ = some (.int .i64 len) := j5.cellKeepS HW.out (fun e => HWB.out e)
          have J3 := hide j3
          have J3' := hide j3'
          have J4 := hide j4
          have J5 := hide j5
          have HDQ := hide hdq
          have HTQ := hide htq
          have HLAST := hide hlast
          have HPL := hide hPl
          have HP := hide hP
          have HQM := hide hqm
          have HJI := hide hji
          have HCL := hide hcl
          have hPn : (P : Int) + 1 < (n : Int) := by omega
          have hPn2 : (P : Int) < (n : Int) := by omega
          have hP0 : (0 : Int) ≤ (P : Int) := Int.natCast_nonneg _
          have hPa : (a : Int) < (P : Int) + 1 := by omega
          have pk : (0 : Int) ≤ (P : Int) + 1 := by omega
          have ew0 : IntKind.i64.wrap (P : Int) = P := by simp [IntKind.wrap, IntKind.bits, IntKind.signed]; omega
          have ew1 : IntKind.i64.wrap ((P : Int) + 1 - 1) = P := by rw [Int.add_sub_cancel]; exact ew0
          have ew2 : wrap64 ((P : Int) + 1 - 1) = P := by unfold wrap64; omega
          have ew3 : wrap64 (P : Int) = P := by unfold wrap64; omega
          have tk : ((P : Int) + 1).toNat = P + 1 := Int.toNat_natCast (P + 1)
          obtain ⟨xa, xb', xc⟩ := x
          obtain ⟨ya, yb, yc⟩ := y
          dsimp only at y1 y2 y3 x1 x2 x3
          unfold puAgg at CM
          dsimp only at CM
          have SS : Hid (∀ wx, Chg (fun _ => False) wr wx → wx.cell? ⟨g, P * 3, none⟩ = some (.int .i64 ya) ∧ wx.cell? ⟨g, P * 3 + 1, none⟩ = some (.int .i64 yb) ∧ wx.cell? ⟨g, P * 3 + 2, none⟩ = some (.int .i64 yc) ∧ wx.cell? ⟨g, (P + 1) * 3, none⟩ = some (.int .i64 xa) ∧ wx.cell? ⟨g, (P + 1) * 3 + 1, none⟩ = some (.int .i64 xb') ∧ wx.cell? ⟨g, (P + 1) * 3 + 2, none⟩ = some (.int .i64 xc)) := fun wx hx =>
            ⟨hx.cellKeep y1, hx.cellKeep y2, hx.cellKeep y3, hx.cellKeep x1, hx.cellKeep x2, hx.cellKeep x3⟩
          have S0 := SS.out wr.drew (Chg.refl _ wr).drew
          have CMD := hide (CM.out wr.drew hwbr)
          clear hJ j1 j2 j3 j3' j4 j5 htq hdq hlast hPl hP hcl hyT hy hcc e0 CM hwbr hqm fz
          by_cases hcn : cc < 0
          · have hge : ¬ (0 ≤ cc) := by omega
            go_wp2
            refine wp_region_sch (fun w' => w'.cell? ⟨g, P * 3, none⟩ = some (.int .i64 ya) ∧ w'.cell? ⟨g, P * 3 + 1, none⟩ = some (.int .i64 yb) ∧ w'.cell? ⟨g, P * 3 + 2, none⟩ = some (.int .i64 yc) ∧ w'.cell? ⟨g, (P + 1) * 3, none⟩ = some (.int .i64 xa) ∧ w'.cell? ⟨g, (P + 1) * 3 + 1, none⟩ = some (.int .i64 xb') ∧ w'.cell? ⟨g, (P + 1) * 3 + 2, none⟩ = some (.int .i64 xc)) 16
              [(0, true), (1, true), (2, true), (3, true), (4, true), (5, true), (6, true), (7, true), (8, true), (9, true), (10, true), (11, true), (12, true), (13, true), (14, false), (15, true)] (by kernel_rfl) (by kernel_rfl) (fun _ _ _ _ _ h => h) S0 ?_
            iterate 14 (refine wpSch_take (v := ?_) rfl (by rfl) ?_ ?_; rotate_left; (· (intro w' hS; (try dsimp only at hS); go_simp; try with_reducible rfl)); (try simp only [Act.put, List.setIfInBounds_toArray, List.set_cons_zero, List.set_cons_succ, List.getElem_toArray, List.getElem_cons_zero, List.getElem_cons_succ]))
            refine wpSch_do rfl (by rfl) (fun K hK => ?_)
            go_simp
            refine CMD.out.mono ?_
            rintro e w6 ⟨rfl, hc6⟩
            have k6 : Chg (fun _ => False) wr w6 := ((Chg.refl (fun _ => False) wr).drew).trans hc6 fun _ h _ => h
            refine hK _ _ (SS.out w6 k6) (fun hS => ?_)
            have K6 := hide k6
            have S6 := SS.out w6 k6
            clear hK K hS hc6 k6 S0 y1 y2 y3 x1 x2 x3 CMD
            (try simp only [Act.put, List.setIfInBounds_toArray, List.set_cons_zero, List.set_cons_succ, List.getElem_toArray, List.getElem_cons_zero, List.getElem_cons_succ])
            (refine wpSch_take (v := ?_) rfl (by rfl) ?_ ?_; rotate_left; (· (intro w' hS; (try dsimp only at hS); go_simp; try with_reducible rfl)); (try simp only [Act.put, List.setIfInBounds_toArray, List.set_cons_zero, List.set_cons_succ, List.getElem_toArray, List.getElem_cons_zero, List.getElem_cons_succ]))
            refine wpSch_end ?_
            simp only [List.drop_succ_cons, List.drop_zero]
            obtain ⟨y1, y2, y3, x1, x2, x3⟩ := S6
            have G6 : Hid (w6.ownsRow 0 113 3 (.slice (some ⟨g, 0, none⟩) n cap) n (puVals ((l.take a ++ m.take q) ++ (ya, yb, yc) :: (xa, xb', xc) :: (m.drop (q + 1) ++ l.drop (i + 1 + 1))))) := ownsRow_same J3'.out fun g' hg => K6.out.block g' (ownsRow_lt J3'.out hg) (fun h => h)
            have fz : ∀ o, w6.frozen? ⟨g, o, none⟩ = false := fun o => ownsRow_frozen G6.out rfl o
            go_wp2
            refine wp_region_schB 15 (fun w' => w'.cell? ⟨g, P * 3, none⟩ = some (.int .i64 ya) ∧ w'.cell? ⟨g, P * 3 + 1, none⟩ = some (.int .i64 yb) ∧ w'.cell? ⟨g, P * 3 + 2, none⟩ = some (.int .i64 yc) ∧ w'.cell? ⟨g, (P + 1) * 3, none⟩ = some (.int .i64 xa) ∧ w'.cell? ⟨g, (P + 1) * 3 + 1, none⟩ = some (.int .i64 xb') ∧ w'.cell? ⟨g, (P + 1) * 3 + 2, none⟩ = some (.int .i64 xc)) 16
              [(0, 1), (1, 1), (5, 1), (6, 1), (7, 1), (8, 1), (9, 1), (10, 2), (11, 2), (12, 2), (13, 1), (14, 1), (2, 2), (3, 2), (4, 2), (15, 0)] (by kernel_rfl) (by kernel_rfl) (fun _ _ _ _ _ h => h) ⟨y1, y2, y3, x1, x2, x3⟩ ?_
            iterate 7 (refine wpSchB_take (v := ?_) rfl (by rfl) ?_ ?_; rotate_left; (· (intro w' hS; (try dsimp only at hS); go_simp; try with_reducible rfl)); (try simp only [Act.put, List.setIfInBounds_toArray, List.set_cons_zero, List.set_cons_succ, List.getElem_toArray, List.getElem_cons_zero, List.getElem_cons_succ]))
            iterate 3 (refine wpSchB_free (v := ?_) rfl (by rfl) ?_ ?_; rotate_left; (· (intro w'; go_simp; try with_reducible rfl)); (try simp only [Act.put, List.setIfInBounds_toArray, List.set_cons_zero, List.set_cons_succ, List.getElem_toArray, List.getElem_cons_zero, List.getElem_cons_succ]))
            iterate 2 (refine wpSchB_take (v := ?_) rfl (by rfl) ?_ ?_; rotate_left; (· (intro w' hS; (try dsimp only at hS); go_simp; try with_reducible rfl)); (try simp only [Act.put, List.setIfInBounds_toArray, List.set_cons_zero, List.set_cons_succ, List.getElem_toArray, List.getElem_cons_zero, List.getElem_cons_succ]))
            iterate 3 (refine wpSchB_free (v := ?_) rfl (by rfl) ?_ ?_; rotate_left; (· (intro w'; go_simp; try with_reducible rfl)); (try simp only [Act.put, List.setIfInBounds_toArray, List.set_cons_zero, List.set_cons_succ, List.getElem_toArray, List.getElem_cons_zero, List.getElem_cons_succ]))
            refine wpSchB_bar rfl (by rfl) (fun K hK => ?_)
            go_simp
            refine hK _ _ ?_
            clear hK K
            (try simp only [Act.put, List.setIfInBounds_toArray, List.set_cons_zero, List.set_cons_succ, List.getElem_toArray, List.getElem_cons_zero, List.getElem_cons_succ])
            refine wpSchB_end ?_
            simp only [List.drop_succ_cons, List.drop_zero]
            have e1 : ((l.take a ++ m.take q) ++ (ya, yb, yc) :: (xa, xb', xc) :: (m.drop (q + 1) ++ l.drop (i + 1 + 1))).length = ((l.take a ++ m.take q) ++ (ya, yb, yc) :: (xa, xb', xc) :: (m.drop (q + 1) ++ l.drop (i + 1 + 1))).length := rfl
            have G7 := PfSl.set G6.out (P + 1) (by have := HPL.out; rw [List.length_append, HPL.out]; simp) (ya, yb, yc)
            have G8 := PfSl.set G7 P (by have := HPL.out; rw [List.length_set, List.length_append, HPL.out]; simp) (xa, xb', xc)
            have hsp := set_pair (l.take a ++ m.take q) (m.drop (q + 1) ++ l.drop (i + 1 + 1)) (xa, xb', xc) (ya, yb, yc)
            rw [HPL.out] at hsp
            rw [hsp] at G8
            have hgetP : ∀ hh, (((l.take a ++ m.take q) ++ (ya, yb, yc) :: (xa, xb', xc) :: (m.drop (q + 1) ++ l.drop (i + 1 + 1))).set (P + 1) (ya, yb, yc))[P]'hh = (ya, yb, yc) := fun hh => by
              rw [List.getElem_set_ne (by omega)]
              rw [List.getElem_append_right (by rw [HPL.out]; exact Nat.le_refl _)]
              simp [HPL.out]
            obtain ⟨p1, p2, p3⟩ := puVals_at _ P (show P < (((l.take a ++ m.take q) ++ (ya, yb, yc) :: (xa, xb', xc) :: (m.drop (q + 1) ++ l.drop (i + 1 + 1))).set (P + 1) (ya, yb, yc)).length by rw [List.length_set, List.length_append, HPL.out]; simp)
            rw [hgetP] at p1 p2 p3
            have z1 := ownsRow_cell G7 rfl p1
            have z2 := ownsRow_cell G7 rfl p2
            have z3 := ownsRow_cell G7 rfl p3
            dsimp only at G7 G8 z1 z2 z3
            have HG8 := hide G8
            have fz7 : ∀ o, ((((w6.setCell ⟨g, (P + 1) * 3, none⟩ (.int .i64 ya)).setCell ⟨g, (P + 1) * 3 + 1, none⟩ (.int .i64 yb)).setCell ⟨g, (P + 1) * 3 + 2, none⟩ (.int .i64 yc))).drew.frozen? ⟨g, o, none⟩ = false := fun o => ownsRow_frozen G7 rfl o
            have K8 : Hid (Chg (One g) wr (((((((w6.setCell ⟨g, (P + 1) * 3, none⟩ (.int .i64 ya)).setCell ⟨g, (P + 1) * 3 + 1, none⟩ (.int .i64 yb)).setCell ⟨g, (P + 1) * 3 + 2, none⟩ (.int .i64 yc)).drew.setCell ⟨g, P * 3, none⟩ (.int .i64 xa)).setCell ⟨g, P * 3 + 1, none⟩ (.int .i64 xb')).setCell ⟨g, P * 3 + 2, none⟩ (.int .i64 xc)))) :=
              ((((((K6.out.mono (S' := One g) fun _ _ h => h.elim).setAt (b := g) rfl _ _).setAt (b := g) rfl _ _).setAt (b := g) rfl _ _).drew.setAt (b := g) rfl _ _).setAt (b := g) rfl _ _).setAt (b := g) rfl _ _
            have HG9 : Hid ((((((((w6.setCell ⟨g, (P + 1) * 3, none⟩ (.int .i64 ya)).setCell ⟨g, (P + 1) * 3 + 1, none⟩ (.int .i64 yb)).setCell ⟨g, (P + 1) * 3 + 2, none⟩ (.int .i64 yc)).drew.setCell ⟨g, P * 3, none⟩ (.int .i64 xa)).setCell ⟨g, P * 3 + 1, none⟩ (.int .i64 xb')).setCell ⟨g, P * 3 + 2, none⟩ (.int .i64 xc))).ownsRow 0 113 3 (.slice (some ⟨g, 0, none⟩) n cap) n (puVals ((l.take a ++ m.take q) ++ (xa, xb', xc) :: (ya, yb, yc) :: (m.drop (q + 1) ++ l.drop (i + 1 + 1))))) := ownsRow_same HG8.out fun _ _ => rfl
            have w1' : ((((w6.setCell ⟨g, (P + 1) * 3, none⟩ (.int .i64 ya)).setCell ⟨g, (P + 1) * 3 + 1, none⟩ (.int .i64 yb)).setCell ⟨g, (P + 1) * 3 + 2, none⟩ (.int .i64 yc))).drew.cell? ⟨g, P * 3, none⟩ = some (.int .i64 ya) := z1
            have w2' : ((((w6.setCell ⟨g, (P + 1) * 3, none⟩ (.int .i64 ya)).setCell ⟨g, (P + 1) * 3 + 1, none⟩ (.int .i64 yb)).setCell ⟨g, (P + 1) * 3 + 2, none⟩ (.int .i64 yc))).drew.cell? ⟨g, P * 3 + 1, none⟩ = some (.int .i64 yb) := z2
            have w3' : ((((w6.setCell ⟨g, (P + 1) * 3, none⟩ (.int .i64 ya)).setCell ⟨g, (P + 1) * 3 + 1, none⟩ (.int .i64 yb)).setCell ⟨g, (P + 1) * 3 + 2, none⟩ (.int .i64 yc))).drew.cell? ⟨g, P * 3 + 2, none⟩ = some (.int .i64 yc) := z3
            clear G7 G8 hsp e1 z1 z2 z3 p1 p2 p3 hgetP HG8 y1 y2 y3 x1 x2 x3 fz
            generalize (((w6.setCell ⟨g, (P + 1) * 3, none⟩ (.int .i64 ya)).setCell ⟨g, (P + 1) * 3 + 1, none⟩ (.int .i64 yb)).setCell ⟨g, (P + 1) * 3 + 2, none⟩ (.int .i64 yc)).drew = w7 at fz7 K8 HG9 w1' w2' w3' ⊢
            go_wp2
            go_roundw
            case rel =>
              refine ⟨P, q, rfl, Nat.le_of_lt HJI.out, HP.out.symm, Nat.le_of_lt HQM.out, ?_, ?_, ?_⟩
              · have e2 : (l.take a ++ m.take q) ++ (xa, xb', xc) :: (m.drop q ++ l.drop (i + 1 + 1)) = (l.take a ++ m.take q) ++ (xa, xb', xc) :: (ya, yb, yc) :: (m.drop (q + 1) ++ l.drop (i + 1 + 1)) := by rw [HDQ.out]; rfl
                rw [e2]
                exact ownsRow_same HG9.out fun _ _ => rfl
              · intro z hz
                rw [HDQ.out] at hz
                rcases List.mem_cons.1 hz with rfl | hz
                · exact HCL.out.1 hcn
                · exact J4.out z hz
              · exact J5.out.trans K8.out fun _ h _ => h
            case measure => simp [intOf]
          · have hge : 0 ≤ cc := by omega
            have FIN : Hid (∀ wx, Chg (fun _ => False) wr wx → ∃ m', wx.ownsRow 0 113 3 (.slice (some ⟨g, 0, none⟩) n cap) n (puVals (l.take a ++ m' ++ l.drop (i + 1 + 1))) ∧ m'.length = i + 1 + 1 - a ∧ Steq (keyLt len) ((l.take (i + 1 + 1)).drop a) m' ∧ Asc (keyLt len) m' ∧ Chg (One g) w wx) := fun wx hx =>
              DONE.out wx (q + 1) HQM.out J4.out (fun z hz => by
                rw [HLAST.out z hz]
                cases hk : keyLt len (xa, xb', xc) (ya, yb, yc) with
                | false => rfl
                | true => exact absurd (HCL.out.2 hk) hcn) (ownsRow_same J3.out fun g' hg => hx.block g' (ownsRow_lt J3.out hg) (fun h => h)) (J5.out.trans hx fun _ h _ => h.elim)
            clear DONE
            go_wp2
            refine wp_region_sch (fun w' => w'.cell? ⟨g, P * 3, none⟩ = some (.int .i64 ya) ∧ w'.cell? ⟨g, P * 3 + 1, none⟩ = some (.int .i64 yb) ∧ w'.cell? ⟨g, P * 3 + 2, none⟩ = some (.int .i64 yc) ∧ w'.cell? ⟨g, (P + 1) * 3, none⟩ = some (.int .i64 xa) ∧ w'.cell? ⟨g, (P + 1) * 3 + 1, none⟩ = some (.int .i64 xb') ∧ w'.cell? ⟨g, (P + 1) * 3 + 2, none⟩ = some (.int .i64 xc)) 16
              [(0, true), (1, true), (2, true), (3, true), (4, true), (5, true), (6, true), (7, true), (8, true), (9, true), (10, true), (11, true), (12, true), (13, true), (14, false), (15, true)] (by kernel_rfl) (by kernel_rfl) (fun _ _ _ _ _ h => h) S0 ?_
            iterate 14 (refine wpSch_take (v := ?_) rfl (by rfl) ?_ ?_; rotate_left; (· (intro w' hS; (try dsimp only at hS); go_simp; try with_reducible rfl)); (try simp only [Act.put, List.setIfInBounds_toArray, List.set_cons_zero, List.set_cons_succ, List.getElem_toArray, List.getElem_cons_zero, List.getElem_cons_succ]))
            refine wpSch_do rfl (by rfl) (fun K hK => ?_)
            go_simp
            refine CMD.out.mono ?_
            rintro e w6 ⟨rfl, hc6⟩
            have k6 : Chg (fun _ => False) wr w6 := ((Chg.refl (fun _ => False) wr).drew).trans hc6 fun _ h _ => h
            refine hK _ _ (SS.out w6 k6) (fun hS => ?_)
            have FIN6 := hide (FIN.out w6 k6)
            clear hK K hS hc6 k6 S0 y1 y2 y3 x1 x2 x3 CMD FIN
            (try simp only [Act.put, List.setIfInBounds_toArray, List.set_cons_zero, List.set_cons_succ, List.getElem_toArray, List.getElem_cons_zero, List.getElem_cons_succ])
            (refine wpSch_take (v := ?_) rfl (by rfl) ?_ ?_; rotate_left; (· (intro w' hS; (try dsimp only at hS); go_simp; try with_reducible rfl)); (try simp only [Act.put, List.setIfInBounds_toArray, List.set_cons_zero, List.set_cons_succ, List.getElem_toArray, List.getElem_cons_zero, List.getElem_cons_succ]))
            refine wpSch_end ?_
            simp only [List.drop_succ_cons, List.drop_zero]
            go_wp2
            go_roundw
            case rel => exact ⟨i + 1, by go_num, by omega, by omega, FIN6.out⟩
            case measure => simp [intOf]; omega
    · have hbi : i + 1 = b := by omega
      subst hbi
      have HI := hide hI.out
      have hki : ¬ ((i : Int) + 1 < ((i + 1 : Nat) : Int)) := by omega
      clear hI i1 i2 i3 i4 i5
      go_wp2
      go_end0
      obtain ⟨m', q1, q2, q3, q4, q5⟩ := HI.out
      refine ⟨rfl, m', ?_, q2, q3, q4, q5⟩
      unfold PfSl
      rw [List.append_assoc] at q1
      try rw [List.append_assoc]
      have e : (l.take a ++ (m' ++ l.drop (i + 1))).length = n := by have := HN.out; simp; omega
      rw [e]
      exact q1
end Go.Proofs.YtodcnkbblippnaaGreatDoor
/- Walks: Puts are sorted, equals in their order: SortStableFunc, of few. -/
namespace Go.Proofs.YtodcnkbblippnaaGreatDoor
open Go.RowKit
attribute [local go_sem ↓] NoP_normal

/-- Rows of at most N Puts are sorted by windows and places. -/
def SortOk (N : Nat) : Prop := ∀ (w : World) (v : Value) (wb : Nat) (len : Int) (l : List Pu), l.length ≤ N → PfSl w v l → (∀ p ∈ l, In64 p.2.1) → (1 ≤ len ∧ len ≤ 4611686018427387904) → w.cell? ⟨wb, 0, none⟩ = some (.int .i64 len) → (∀ g, v.ownBlock = some g → wb ≠ g) →
  Calls Tryz.prog 154 #[v, .func (Fn.func 155) #[] #[.pointer (some ⟨wb, 0, none⟩)]] w fun e w' => e = .returned (.tuple #[]) ∧ PfSl w' v (sortSt (keyLt len) l) ∧ Chg (fun k => v.ownBlock = some k) w w'
theorem sortSt_length {α : Type} {lt : α → α → Bool} (l : List α) : (sortSt lt l).length = l.length := by
  have ins : ∀ (x : α) (s : List α), (insSt lt x s).length = s.length + 1 := by
    intro x s
    induction s with
    | nil => rfl
    | cons y r ih => unfold insSt; split <;> simp [ih]
  have key : ∀ (l s : List α), (l.foldl (fun s x => insSt lt x s) s).length = s.length + l.length := by
    intro l
    induction l with
    | nil => intro s; simp
    | cons x r ih => intro s; rw [List.foldl_cons, ih, ins]; simp; omega
  have := key l []
  simpa [sortSt] using this
set_option maxRecDepth 100000 in
set_option maxHeartbeats 4000000 in
/-- No Put: nothing is looked at. -/
theorem insSort_none (w : World) (v c : Value) (a b : Nat) (ha : b ≤ a + 1) (hb : a ≤ 4294967296) :
    Calls Tryz.prog 243 #[v, .int .i64 a, .int .i64 b, c] w fun e w' => e = .returned (.tuple #[]) ∧ w = w' := by
  have h1 : ¬ ((a : Int) + 1 < (b : Int)) := by omega
  have eia : wrap64 ((a : Int) + 1) = (a : Int) + 1 := by unfold wrap64; omega
  go_enter Tryz.func243, Tryz.ntmps243
  go_wp2
  refine wp_loop_rounds 1 ?_
  rw [rounds_succ]
  go_wp2
  go_end0
  exact ⟨rfl, rfl⟩
set_option maxRecDepth 100000 in
set_option maxHeartbeats 4000000 in
theorem stable_few (w : World) (v : Value) (wb : Nat) (len : Int) (l : List Pu) (hn : l.length ≤ 19) (h : PfSl w v l) (hT : ∀ p ∈ l, In64 p.2.1) (hl : 1 ≤ len ∧ len ≤ 4611686018427387904) (hw : w.cell? ⟨wb, 0, none⟩ = some (.int .i64 len)) (hwb : ∀ g, v.ownBlock = some g → wb ≠ g) :
    Calls Tryz.prog 202 #[v, .int .i64 l.length, .func (Fn.func 155) #[] #[.pointer (some ⟨wb, 0, none⟩)]] w fun e w' => e = .returned (.tuple #[]) ∧ PfSl w' v (sortSt (keyLt len) l) ∧ Chg (fun k => v.ownBlock = some k) w w' := by
  have IS : Hid (Calls Tryz.prog 243 #[v, .int .i64 ((0 : Nat) : Int), .int .i64 l.length, .func (Fn.func 155) #[] #[.pointer (some ⟨wb, 0, none⟩)]] w fun e w' => e = .returned (.tuple #[]) ∧ PfSl w' v (sortSt (keyLt len) l) ∧ Chg (fun k => v.ownBlock = some k) w w') := by
    by_cases h0 : l.length = 0
    · have e : l = [] := List.length_eq_zero_iff.1 h0
      subst e
      refine (insSort_none w v _ 0 0 (by omega) (by omega)).mono ?_
      rintro e w' ⟨rfl, rfl⟩
      exact ⟨rfl, h, Chg.refl _ _⟩
    · obtain ⟨av, cap, rfl, h1, h2, h3, -, -⟩ := ownsRow_form h
      obtain ⟨g, rfl⟩ := h3 (by omega)
      refine (insSort_any w g cap wb len l 0 l.length (by omega) (Nat.le_refl _) h hT hl hw (hwb g rfl) (by omega)).mono ?_
      rintro e w' ⟨rfl, m, q1, q2, q3, q4, q5⟩
      have e1 : m = sortSt (keyLt len) l := (keyWeak len).sort_eq q4 (by simpa using q3)
      refine ⟨rfl, ?_, q5.mono fun k _ hk => by have e : k = g := hk; subst e; rfl⟩
      rw [← e1]
      have hlm : m.length = l.length := by simpa using q2
      have := q1
      simp only [List.take_zero, List.nil_append, List.drop_length, List.append_nil] at this
      exact this
  rw [show ((0 : Nat) : Int) = 0 from rfl] at IS
  have h20 : ¬ ((20 : Int) ≤ (l.length : Int)) := by omega
  have h20' : ¬ ((20 : Int) < (l.length : Int)) := by omega
  clear h hT hl hw hwb hn
  go_enter Tryz.func202, Tryz.ntmps202
  go_wp2
  refine wp_loop_rounds 1 ?_
  rw [rounds_succ]
  go_wp2_with (fail)
  refine IS.out.mono ?_
  rintro e w2 ⟨rfl, hp, hc⟩
  have HP := hide hp
  have HC := hide hc
  clear hp hc IS
  go_wp2
  refine wp_loop_rounds 1 ?_
  rw [rounds_succ]
  go_wp2
  go_end0
  exact ⟨rfl, HP.out, HC.out⟩
set_option maxRecDepth 100000 in
theorem sortOk19 : SortOk 19 := by
  intro w v wb len l hn h hT hl hw hwb
  have ST := hide (stable_few w v wb len l hn h hT hl hw hwb)
  obtain ⟨av, cap, rfl, h1, h2, -⟩ := ownsRow_form h
  clear h hT hl hw hwb
  go_enter Tryz.func154, Tryz.ntmps154
  go_wp2_with (go_at_call 202; refine ST.out.mono ?_; rintro e w2 ⟨rfl, hp, hc⟩; have HP := hide hp; have HC := hide hc; clear hp hc)
  go_end0
  exact ⟨rfl, HP.out, HC.out⟩
end Go.Proofs.YtodcnkbblippnaaGreatDoor
/- Windows in memory, as they grow. No walk. -/
namespace Go.Proofs.YtodcnkbblippnaaGreatDoor
open Go.RowKit

/-- A row of rows of Puts, each in a block of its own from B0 on. -/
structure WnB (w : World) (B0 : Nat) (v : Value) (vs : List Value) (ws : List (List Pu)) : Prop where
  row : w.ownsRow 0 97 1 v ws.length vs
  ls : ∀ (k : Nat) (h1 : k < vs.length) (h2 : k < ws.length), PfSl w (vs[k]'h1) (ws[k]'h2)
  lo : ∀ g, v.ownBlock = some g → B0 ≤ g
  li : ∀ x ∈ vs, ∀ g, x.ownBlock = some g → B0 ≤ g
  dis : vs.Pairwise fun x y => ∀ g, x.ownBlock = some g → ¬ y.ownBlock = some g
section
variable {w w' : World} {B0 : Nat} {v : Value} {vs : List Value} {ws : List (List Pu)}
theorem WnB.len (h : WnB w B0 v vs ws) : vs.length = ws.length := by have := h.row.1; omega
theorem WnB.nil (w : World) (B0 : Nat) : WnB w B0 (.slice none 0 0) [] [] :=
  ⟨World.ownsRow_nil _ _ _ _, fun k h1 => by simp at h1, fun g hg => by simp [Value.ownBlock] at hg, fun x hx => by simp at hx, List.Pairwise.nil⟩
theorem WnB.keep {S : Nat → Prop} (h : WnB w B0 v vs ws) (hc : Chg S w w') (hS : ∀ k, S k → k < B0) : WnB w' B0 v vs ws :=
  ⟨ownsRow_same h.row fun g hg => hc.block g (ownsRow_lt h.row hg) fun hx => by have := hS g hx; have := h.lo g hg; omega,
   fun k h1 h2 => ownsRow_same (h.ls k h1 h2) fun g hg => hc.block g (ownsRow_lt (h.ls k h1 h2) hg) fun hx => by have := hS g hx; have := h.li _ (List.getElem_mem h1) g hg; omega, h.lo, h.li, h.dis⟩
theorem WnB.keep0 (h : WnB w B0 v vs ws) (hc : Chg (fun _ => False) w w') : WnB w' B0 v vs ws := h.keep hc fun _ h => h.elim
theorem WnB.lt (h : WnB w B0 v vs ws) {x : Value} (hx : x ∈ vs) {g : Nat} (hg : x.ownBlock = some g) : g < w.heap.size := by
  obtain ⟨k, h1, rfl⟩ := List.getElem_of_mem hx
  exact ownsRow_lt (h.ls k h1 (by have := h.len; omega)) hg
/-- Of the outer row and the inner ones no block is the same. -/
theorem WnB.ne (h : WnB w B0 v vs ws) {x : Value} (hx : x ∈ vs) {g : Nat} (hg : x.ownBlock = some g) : ¬ v.ownBlock = some g := by
  obtain ⟨k, h1, rfl⟩ := List.getElem_of_mem hx
  exact elemOther (h.ls k h1 (by have := h.len; omega)) h.row (by decide) hg
/-- One more window, with nothing in it; the outer row may have moved. -/
theorem WnB.push {v' : Value} (h : WnB w B0 v vs ws) (hA : App w w' 97 1 v v' (ws.length + 1) (vs ++ [.slice none 0 0])) (hB : B0 ≤ w.heap.size) : WnB w' B0 v' (vs ++ [.slice none 0 0]) (ws ++ [[]]) := by
  have hc := hA.chg (S := fun k => v.ownBlock = some k) fun _ h => h
  have hl := h.len
  refine ⟨?_, fun k h1 h2 => ?_, fun g hg => ?_, fun x hx g hg => ?_, ?_⟩
  · have e : (ws ++ [[]]).length = ws.length + 1 := by simp
    rw [e]; exact hA.own
  · by_cases hk : k < ws.length
    · rw [List.getElem_append_left (show k < vs.length by omega), List.getElem_append_left hk]
      exact ownsRow_same (h.ls k (by omega) hk) fun g hg => hc.block g (ownsRow_lt (h.ls k (by omega) hk) hg) (h.ne (List.getElem_mem (by omega)) hg)
    · have e1 : (vs ++ [Value.slice none 0 0])[k]'h1 = .slice none 0 0 := by
        have : k = vs.length := by simp at h1; omega
        subst this; simp
      have e2 : (ws ++ [[]])[k]'h2 = [] := by
        have : k = ws.length := by simp at h2; omega
        subst this; simp
      rw [e1, e2]
      exact World.ownsRow_nil _ _ _ _
  · rcases hA.at_ with h1 | h1
    · rw [h1] at hg; exact h.lo g hg
    · rw [h1] at hg; cases hg; exact hB
  · rcases List.mem_append.1 hx with hx | hx
    · exact h.li x hx g hg
    · simp at hx; subst hx; simp [Value.ownBlock] at hg
  · exact List.pairwise_append.2 ⟨h.dis, List.pairwise_singleton _ _, fun x _ y hy g _ hg => by simp at hy; subst hy; simp [Value.ownBlock] at hg⟩
/-- The last window was turned within its block. -/
theorem WnB.setIn {ws0 : List (List Pu)} {vs0 : List Value} {lv : Value} {l l' : List Pu} (h : WnB w B0 v (vs0 ++ [lv]) (ws0 ++ [l])) (hc : Chg (fun k => lv.ownBlock = some k) w w') (hl : PfSl w' lv l') : WnB w' B0 v (vs0 ++ [lv]) (ws0 ++ [l']) := by
  have hlen := h.len
  have hln : vs0.length = ws0.length := by simpa using hlen
  refine ⟨?_, fun k h1 h2 => ?_, h.lo, h.li, h.dis⟩
  · have e : (ws0 ++ [l']).length = (ws0 ++ [l]).length := by simp
    rw [e]
    exact ownsRow_same h.row fun g hg => hc.block g (ownsRow_lt h.row hg) fun hx => h.ne (x := lv) (by simp) hx hg
  · by_cases hk : k < ws0.length
    · have h2' : k < (ws0 ++ [l]).length := by simp; omega
      have h3 := h.ls k h1 h2'
      rw [List.getElem_append_left hk] at h3 ⊢
      refine ownsRow_same h3 fun g hg => hc.block g (ownsRow_lt h3 hg) fun hx => ?_
      rw [List.getElem_append_left (show k < vs0.length by omega)] at hg
      exact (List.pairwise_append.1 h.dis).2.2 _ (List.getElem_mem (show k < vs0.length by omega)) lv (by simp) g hg hx
    · have hk2 : k = ws0.length := by simp at h2; omega
      have e2 : (ws0 ++ [l'])[k]'h2 = l' := by subst hk2; simp
      have e1 : (vs0 ++ [lv])[k]'h1 = lv := by
        have : k = vs0.length := by omega
        subst this; simp
      rw [e1, e2]; exact hl
/-- The last window has moved, or grown: its place in the outer row is put over. -/
theorem WnB.setOut {g0 n0 cap0 : Nat} {ws0 : List (List Pu)} {vs0 : List Value} {lv lv' : Value} {l l' : List Pu} (h : WnB w B0 (.slice (some ⟨g0, 0, none⟩) n0 cap0) (vs0 ++ [lv]) (ws0 ++ [l])) (hc : Chg (fun k => lv.ownBlock = some k) w w') (hl : PfSl w' lv' l') (ho : ∀ g, lv'.ownBlock = some g → lv.ownBlock = some g ∨ w.heap.size ≤ g) (hB : B0 ≤ w.heap.size) :
    WnB (w'.setCell ⟨g0, vs0.length, none⟩ lv') B0 (.slice (some ⟨g0, 0, none⟩) n0 cap0) (vs0 ++ [lv']) (ws0 ++ [l']) := by
  have hlen := h.len
  have hln : vs0.length = ws0.length := by simpa using hlen
  have en0 : n0 = (ws0 ++ [l]).length := by
    obtain ⟨a', c', e, _⟩ := ownsRow_form h.row
    cases e; rfl
  subst en0
  have hg0 : g0 < w.heap.size := ownsRow_lt h.row rfl
  have hrow : w'.ownsRow 0 97 1 (.slice (some ⟨g0, 0, none⟩) (ws0 ++ [l]).length cap0) (ws0 ++ [l]).length (vs0 ++ [lv]) := ownsRow_same h.row fun g hg => hc.block g (ownsRow_lt h.row hg) fun hx => h.ne (x := lv) (by simp) hx hg
  have hlo : ∀ g, lv'.ownBlock = some g → g ≠ g0 := fun g hg e => by
    subst e
    exact elemOther hl hrow (by decide) hg rfl
  have kz : Chg (One g0) w' (w'.setCell ⟨g0, vs0.length, none⟩ lv') := (Chg.refl (One g0) w').setAt (b := g0) rfl _ _
  have hst := (hrow.stored vs0.length lv').1
  have hset : (vs0 ++ [lv]).set vs0.length lv' = vs0 ++ [lv'] := by rw [List.set_append_right _ _ (Nat.le_refl _)]; simp
  rw [hset] at hst
  refine ⟨?_, fun k h1 h2 => ?_, h.lo, fun x hx g hg => ?_, ?_⟩
  · have e : (ws0 ++ [l']).length = (ws0 ++ [l]).length := by simp
    rw [e]
    exact hst
  · by_cases hk : k < ws0.length
    · have h1' : k < (vs0 ++ [lv]).length := by simp; omega
      have h2' : k < (ws0 ++ [l]).length := by simp; omega
      have h3 := h.ls k h1' h2'
      rw [List.getElem_append_left hk, List.getElem_append_left (show k < vs0.length by omega)] at h3 ⊢
      have hmem : vs0[k]'(by omega) ∈ vs0 ++ [lv] := List.mem_append.2 (.inl (List.getElem_mem (by omega)))
      refine ownsRow_same h3 fun g hg => ?_
      have b1 : w'.heap[g]? = w.heap[g]? := hc.block g (ownsRow_lt h3 hg) fun hx => (List.pairwise_append.1 h.dis).2.2 _ (List.getElem_mem (show k < vs0.length by omega)) lv (by simp) g hg hx
      have b2 : (w'.setCell ⟨g0, vs0.length, none⟩ lv').heap[g]? = w'.heap[g]? := kz.block g (Nat.lt_of_lt_of_le (ownsRow_lt h3 hg) hc.size) fun e => h.ne hmem hg (by have e' : g = g0 := e; subst e'; rfl)
      rw [b2, b1]
    · have hk2 : k = ws0.length := by simp at h2; omega
      have e2 : (ws0 ++ [l'])[k]'h2 = l' := by subst hk2; simp
      have e1 : (vs0 ++ [lv'])[k]'h1 = lv' := by
        have : k = vs0.length := by omega
        subst this; simp
      rw [e1, e2]
      exact ownsRow_same hl fun g hg => kz.block g (ownsRow_lt hl hg) (hlo g hg)
  · rcases List.mem_append.1 hx with hx | hx
    · exact h.li x (List.mem_append.2 (.inl hx)) g hg
    · simp at hx; subst hx
      rcases ho g hg with h1 | h1
      · exact h.li lv (by simp) g h1
      · omega
  · obtain ⟨d1, d2, d3⟩ := List.pairwise_append.1 h.dis
    refine List.pairwise_append.2 ⟨d1, List.pairwise_singleton _ _, fun x hx y hy g hg hg2 => ?_⟩
    simp at hy; subst hy
    rcases ho g hg2 with h1 | h1
    · exact d3 x hx lv (by simp) g hg h1
    · have := h.lt (List.mem_append.2 (.inl hx)) hg; omega
end
/-! ## The windows, one more point -/
theorem winsK_drop (len : Int) (l : List Pu) (i : Nat) (hi : i < l.length) (first : Bool) (prev : Pu) (ws : List (List Pu)) :
    winsK len (l.drop i) first prev ws = winsK len (l.drop (i + 1)) false (l[i]'hi) (winStep len ws first prev (l[i]'hi)) := by
  rw [List.drop_eq_getElem_cons hi]; rfl
/-- .. behind the window's own test. -/
def winPut (ws0 : List (List Pu)) (last : List Pu) (p : Pu) : List (List Pu) :=
  if last ≠ [] ∧ cmpPu p (last.getLastD (0, 0, 0)) = 0 then ws0 ++ [last.dropLast ++ [p]] else ws0 ++ [last ++ [p]]
theorem winStep_new (len : Int) (ws : List (List Pu)) (first : Bool) (prev p : Pu) (h : first = true ∨ winOf p.2.1 len ≠ winOf prev.2.1 len) : winStep len ws first prev p = winPut ws [] p := by
  unfold winStep winPut
  dsimp only
  rw [if_pos h]
  simp
theorem winStep_old (len : Int) (ws0 : List (List Pu)) (l : List Pu) (prev p : Pu) (h : winOf p.2.1 len = winOf prev.2.1 len) : winStep len (ws0 ++ [l]) false prev p = winPut ws0 l p := by
  have e : (if (false = true ∨ winOf p.2.1 len ≠ winOf prev.2.1 len) then (ws0 ++ [l]) ++ [[]] else ws0 ++ [l]) = ws0 ++ [l] := if_neg (by simp [h])
  have e1 : (ws0 ++ [l]).getLastD [] = l := by rw [List.getLastD_eq_getLast?]; simp
  have e2 : (ws0 ++ [l]).dropLast = ws0 := by simp
  unfold winStep winPut
  simp only [e, e1, e2]
end Go.Proofs.YtodcnkbblippnaaGreatDoor
