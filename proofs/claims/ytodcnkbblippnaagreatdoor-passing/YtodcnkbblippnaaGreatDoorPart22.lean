/-
  The statement PassingCardSaid is proved: the law Passing answers true, at every four numbers; there is no condition.
  Part 22 of 34.
-/
import Derived.Test.YtodcnkbblippnaaGreatDoorPart21
/- Walks: what does not count is taken away: sweep; what counts is turned: turn. -/
namespace Go.Proofs.YtodcnkbblippnaaGreatDoor
open Go.RowKit
attribute [local go_sem ↓] NoP_normal

section
variable {w : World} {ab b xb jb B : Nat} {sv ov lv jo : Value} {A : Ar} {P : PD} {Ft FT : Nat → Prop} {a c m : Nat}
theorem dremoveD (h : DkAt w b P Ft) (nm : Bs) (hF : Fit P a c m) (hl : Lim a c m) :
    Calls Tryz.prog 193 #[.pointer (some ⟨b, 0, none⟩), .string ⟨nm.toArray⟩] w fun e w' => e = .returned (.int .i64 (P.remove (nmB nm)).1) ∧ Into w Ft w' (fun w' Ft' => DkAt w' b (P.remove (nmB nm)).2 Ft') :=
  removeU h (nmB nm) (by have := hF.dir; have := hF.chg; have := hl.a; have := hl.c; omega)
theorem removeAll_cons (nm : Bs) (r : List Bs) (P : PD) : PD.removeAll (nm :: r) P = if (P.remove (nmB nm)).1 ≠ 0 then P.remove (nmB nm) else PD.removeAll r (P.remove (nmB nm)).2 := rfl
theorem others_length (A : Ar) (P : PD) (h : Fit P a c m) : (A.others P).length ≤ a := by
  unfold Ar.others
  exact Nat.le_trans (List.length_filter_le _ _) (by rw [names_length]; exact h.dir)
set_option maxRecDepth 100000 in
set_option maxHeartbeats 8000000 in
theorem sweep_any (w : World) (h : AD w ab b A P FT) (hF : Fit P a c m) (hl : Lim a (c + a) m) (hn : ∀ n ∈ A.ix.segs, NumOk n) (hnl : ∀ n ∈ A.j.logs, NumOk n) (hsl : A.ix.segs.length ≤ 1073741824) (hll : A.j.logs.length ≤ 1073741824) (hL : Lets B w) :
    Calls Tryz.prog 150 #[.pointer (some ⟨ab, 0, none⟩)] w fun e w' => e = .returned (.int .i64 (A.sweep P).1) ∧ Into w FT w' (fun w' FT' => AD w' ab b A (A.sweep P).2 FT') := by
  obtain ⟨xb, jb, sv, ov, lv, jo, Ft, hV, hsub⟩ := h
  have PA := hide (parted_any w hV hF ⟨hl.a, by have := hl.c; omega, hl.m⟩ hn hnl hsl hll hL)
  have hol := others_length A P hF
  have HV := hide hV
  have HSUB := hide hsub
  have HR : Hid (A.sweep P = PD.removeAll (A.others P) P) := rfl
  have SC := hide removeAll_cons
  obtain ⟨R, hR⟩ : ∃ R, A.sweep P = R := ⟨_, rfl⟩
  rw [hR] at HR ⊢
  have HFT := hide hF
  have HLM := hide hl
  generalize A.others P = os at *
  clear hR hV hsub hF hl hn hnl hsl hll hL
  go_enter Tryz.func150, Tryz.ntmps150
  go_wp2_with (fail)
  refine PA.out.mono ?_
  rintro e w1 ⟨v1, v2, rfl, -, h2, -, ho2, hc1⟩
  obtain ⟨oa, ocap, rfl, oc1, oc2⟩ := (StSl.rd h2).form
  unfold maxLen at oc2
  have HO2 := hide (StSl.rd h2)
  have HOO := hide ho2
  have HC1 := hide hc1
  have HV1 := hide (HV.out.chg0 hc1)
  clear h2 ho2 hc1 PA
  go_wp2
  go_loopw [15] (fun iv wr => ∃ (k : Nat), iv = .int .i64 k ∧ k ≤ os.length ∧ Hid (∃ Pk, Into w1 Ft wr (fun w' Ft' => ArV w' ab b xb jb sv ov lv jo A Pk Ft') ∧ Fit Pk a (c + k) m ∧ R = PD.removeAll (os.drop k) Pk)) (fun iv _ => os.length - (intOf iv).toNat)
  case atStart => exact ⟨0, rfl, by omega, P, ⟨Chg.refl _ _, Ft, HV1.out, HV1.out.lt, fun k hk => .inl hk⟩, HFT.out, HR.out⟩
  case round =>
    obtain ⟨k, rfl, hk, hI⟩ := hrel
    obtain ⟨Pk, hi, hf, hx⟩ := hI.out
    obtain ⟨c1, Ft1, hv, lt1, s1⟩ := hi
    by_cases hk1 : k < os.length
    · obtain ⟨g, o, rfl, d0⟩ := RdS.at HO2.out k hk1
      have d1 := c1.cellKeepS d0 (fun h => by have := HV.out.lt _ h; have := HOO.out g rfl; have h' : g < w.heap.size := HV.out.lt _ h; omega)
      have hdr := List.drop_eq_getElem_cons hk1
      obtain ⟨nm, hne⟩ : ∃ nm, (os[k]'hk1) = nm := ⟨_, rfl⟩
      rw [hne] at d0 d1 hdr
      rw [hdr, SC.out] at hx
      have e0 := hv.blk.c0
      have hlk : Lim a (c + k) m := ⟨HLM.out.a, by have := HLM.out.c; omega, HLM.out.m⟩
      have SY := hide (dremoveD hv.dk nm hf hlk)
      have HF2 : Hid (Fit (Pk.remove (nmB nm)).2 a (c + (k + 1)) m) := by have := hf.remove (nmB nm); exact this
      obtain ⟨Y, hY⟩ : ∃ Y, Pk.remove (nmB nm) = Y := ⟨_, rfl⟩
      rw [hY] at SY hx HF2
      have AFT : Hid (∀ w6, Into wr Ft1 w6 (fun w' Ft' => DkAt w' b Y.2 Ft') → Into w1 Ft w6 (fun w' Ft' => ArV w' ab b xb jb sv ov lv jo A Y.2 Ft')) := fun w6 h6 => Into.step c1 s1 (hv.disk h6)
      have HXX := hide hx
      have hki : (k : Int) < (os.length : Int) := by omega
      have hk0 : (0 : Int) ≤ (k : Int) := Int.natCast_nonneg _
      obtain ⟨Y1, Y2⟩ := Y
      dsimp only at SY AFT HXX HF2
      clear hI c1 hv lt1 s1 hdr hne hY hx hf hlk d0
      by_cases hy : Y1 = 0
      case neg =>
        have hX1 : R = (Y1, Y2) := by rw [HXX.out, if_pos hy]
        subst hX1
        have hyb : (Y1 != 0) = true := by simpa using hy
        go_wp2_with (go_at_call 193; refine SY.out.mono ?_; rintro e w6 ⟨rfl, hc6⟩; have HC6 := hide (AFT.out w6 hc6); clear hc6)
        go_ret
        exact ⟨rfl, (HV1.out.diskInto HSUB.out HC6.out).before HC1.out⟩
      case pos =>
        subst hy
        have HX2 : Hid (R = PD.removeAll (os.drop (k + 1)) Y2) := by unfold Hid; rw [HXX.out, if_neg (by simp)]
        go_wp2_with (go_at_call 193; refine SY.out.mono ?_; rintro e w6 ⟨rfl, hc6⟩; have HC6 := hide (AFT.out w6 hc6); clear hc6)
        go_roundw
        case rel => exact ⟨k + 1, by go_num, by omega, Y2, HC6.out, HF2.out, HX2.out⟩
        case measure => simp [intOf]; omega
    · obtain rfl : k = os.length := by omega
      rw [List.drop_length] at hx
      have hX1 : R = (0, Pk) := hx
      subst hX1
      have hki : ¬ ((os.length : Int) < (os.length : Int)) := by omega
      have HI : Hid (Into w1 Ft wr (fun w' Ft' => ArV w' ab b xb jb sv ov lv jo A Pk Ft')) := ⟨c1, Ft1, hv, lt1, s1⟩
      clear hI hx hv c1 s1 lt1 HR SC hf
      go_wp2
      go_ret
      exact ⟨rfl, (HV1.out.diskInto HSUB.out HI.out).before HC1.out⟩
set_option maxRecDepth 100000 in
set_option maxHeartbeats 2000000 in
theorem ixIs_any {nm : Bs} {s : Nat} {f0 : Int} {ss : List Int} (w : World) (h : FnBlk w xb 162 b nm s f0 sv) (hs : RdI w sv ss) (kv : Value) (l : List Int) (hk : RdI w kv l) (first : Int) :
    Calls Tryz.prog 198 #[.pointer (some ⟨xb, 0, none⟩), .int .i64 first, kv] w fun e w' => e = .returned (.bool (decide (f0 = first ∧ ss = l))) ∧ ∃ q, w' = w.drewN q := by
  have c3 := h.c3
  have c4 := h.c4
  have EQ := hide (equalInt_any w sv kv ss l hs hk)
  obtain ⟨ka, kcap, rfl, k1, k2⟩ := hk.form
  obtain ⟨sa, scap, rfl, s1, s2⟩ := hs.form
  clear h hs hk
  by_cases hf : f0 = first
  · subst hf
    have e : decide (f0 = f0 ∧ ss = l) = decide (ss = l) := by simp
    rw [e]
    obtain ⟨d, hd⟩ : ∃ d, decide (ss = l) = d := ⟨_, rfl⟩
    rw [hd] at EQ ⊢
    clear e hd
    go_enter Tryz.func198, Tryz.ntmps198
    go_wp2_with (go_at_call 241; refine EQ.out.mono ?_; rintro e w2 ⟨rfl, q, rfl⟩)
    go_ret
    exact ⟨rfl, q, rfl⟩
  · have e : decide (f0 = first ∧ ss = l) = false := decide_eq_false fun h => hf h.1
    rw [e]
    have hb : (f0 == first) = false := by simpa using hf
    go_enter Tryz.func198, Tryz.ntmps198
    go_wp2
    go_ret
    exact ⟨rfl, 0, rfl⟩
/-- The index was turned. -/
theorem ArV.ixTo {w' : World} {P' : PD} {f' : Int} {sv' : Value} {segs' : List Int} (h : ArV w ab b xb jb sv ov lv jo A P Ft) (hx : FnBlk w' xb 162 b nmIdx (sum0 nmIdx) f' sv') (hr : RdI w' sv' segs') (hI : IntoF w Ft xb w' b P')
    (hsv : ∀ g, sv'.ownBlock = some g → sv.ownBlock = some g ∨ (g < w.heap.size ∧ ¬ Ft g ∧ ¬ ArFt ab xb jb sv ov lv jo g)) :
    ∃ Ft', ArV w' ab b xb jb sv' ov lv jo { A with ix := ⟨f', segs'⟩ } P' Ft' ∧ Chg (fun k => Ft k ∨ k = xb) w w' ∧ ∀ k, Ft' k → Ft k ∨ w.heap.size ≤ k := by
  obtain ⟨hc, Ft', h2, h3, h4⟩ := hI
  have key : ∀ k, ArFt ab xb jb sv ov lv jo k → k ≠ xb → w'.heap[k]? = w.heap[k]? := fun k hk hne => hc.block k (h.ltA hk) fun hx => hx.elim (h.sepD k hk) hne
  have sS : ∀ g, sv'.ownBlock = some g → g ≠ ab ∧ g ≠ xb ∧ ¬ JnFt jb lv jo g := fun g hg => by
    rcases hsv g hg with hg | ⟨_, _, hg⟩
    · exact h.sepS g hg
    · exact ⟨fun e => hg (.inl e), fun e => hg (.inr (.inl e)), fun e => hg (.inr (.inr (.inr (.inr e))))⟩
  refine ⟨Ft', ⟨(key ab (.inl rfl) h.ne).trans h.blk, hx, hr, h.loose.frame fun g hg => key g (.inr (.inr (.inr (.inl hg)))) (h.sepO g hg).2.1, h.jn.frame fun k hk => key k (.inr (.inr (.inr (.inr hk)))) (h.sepJ k hk).2, h2, h3, ?_, sS, h.sepO, h.sepJ⟩, hc, h4⟩
  intro k hk hx
  rcases h4 k hx with hf | hf
  · rcases hk with hk | hk | hk | hk | hk
    · exact h.sepD k (.inl hk) hf
    · exact h.sepD k (.inr (.inl hk)) hf
    · rcases hsv k hk with hk | ⟨_, hk, _⟩
      · exact h.sepD k (.inr (.inr (.inl hk))) hf
      · exact hk hf
    · exact h.sepD k (.inr (.inr (.inr (.inl hk)))) hf
    · exact h.sepD k (.inr (.inr (.inr (.inr hk)))) hf
  · have : k < w.heap.size := by
      rcases hk with hk | hk | hk | hk | hk
      · exact h.ltA (.inl hk)
      · exact h.ltA (.inr (.inl hk))
      · rcases hsv k hk with hk | ⟨hk, _⟩
        · exact h.ltA (.inr (.inr (.inl hk)))
        · exact hk
      · exact h.ltA (.inr (.inr (.inr (.inl hk))))
      · exact h.ltA (.inr (.inr (.inr (.inr hk))))
    omega
/-- The journal has let all go. -/
theorem ArV.jnTo {w' : World} {lv' jo' : Value} {J' : Jn} (h : ArV w ab b xb jb sv ov lv jo A P Ft) (hj : JnV w' jb b lv' jo' J') (hc : Chg (One jb) w w') (hn1 : lv'.ownBlock = none) (hn2 : jo' = .pointer none) : ArV w' ab b xb jb sv ov lv' jo' { A with j := J' } P Ft := by
  have key : ∀ k, k ≠ jb → k < w.heap.size → w'.heap[k]? = w.heap[k]? := fun k hk hl => hc.block k hl hk
  have hjb : ∀ k, JnFt jb lv' jo' k → k = jb := fun k hk => by
    rcases hk with h | h | h
    · exact h
    · rw [hn1] at h; cases h
    · rw [hn2] at h; cases h
  have jj : JnFt jb lv jo jb := .inl rfl
  refine ⟨(key ab (fun e => (h.sepJ jb jj).1 e.symm) h.blk.lt).trans h.blk, (key xb (fun e => (h.sepJ jb jj).2 e.symm) h.ix.lt).trans h.ix, h.segs.frame fun g hg => key g (fun e => (h.sepS g hg).2.2 (e ▸ jj)) (h.segs.lt hg), h.loose.frame fun g hg => key g (fun e => (h.sepO g hg).2.2 (e ▸ jj)) (h.loose.lt hg), hj,
    RepU.frame h.dk fun k hk => key k (fun e => by subst e; exact h.sepD _ (.inr (.inr (.inr (.inr jj)))) hk) (h.lt k hk), fun k hk => Nat.lt_of_lt_of_le (h.lt k hk) hc.size, ?_, fun g hg => ?_, fun g hg => ?_, fun k hk => ?_⟩
  · intro k hk
    rcases hk with hk | hk | hk | hk | hk
    · exact h.sepD k (.inl hk)
    · exact h.sepD k (.inr (.inl hk))
    · exact h.sepD k (.inr (.inr (.inl hk)))
    · exact h.sepD k (.inr (.inr (.inr (.inl hk))))
    · rw [hjb k hk]; exact h.sepD jb (.inr (.inr (.inr (.inr jj))))
  · exact ⟨(h.sepS g hg).1, (h.sepS g hg).2.1, fun hx => (h.sepS g hg).2.2 (by rw [hjb g hx]; exact jj)⟩
  · exact ⟨(h.sepO g hg).1, (h.sepO g hg).2.1, fun hx => (h.sepO g hg).2.2 (by rw [hjb g hx]; exact jj)⟩
  · rw [hjb k hk]; exact h.sepJ jb jj
set_option maxRecDepth 100000 in
set_option maxHeartbeats 8000000 in
theorem arturn_any (w : World) (h : AD w ab b A P FT) (kv : Value) (l : List Int) (hk : RdI w kv l) (hks : ∀ g, kv.ownBlock = some g → ¬ FT g) (hr : In64 (A.j.last + 1)) (hsr : ∀ x ∈ l, In64 x) (hsl : l.length ≤ 134217728) (hF : Fit P a c m) (hl : Lim (a + 2) (c + 2) (m + 12 + 8 * l.length)) (hL : Lets B w) :
    Calls Tryz.prog 152 #[.pointer (some ⟨ab, 0, none⟩), kv] w fun e w' => e = .returned (.int .i64 (A.turn P l).1) ∧ Into w (fun k => FT k ∨ kv.ownBlock = some k) w' (fun w' FT' => AD w' ab b (A.turn P l).2.1 (A.turn P l).2.2 FT') := by
  obtain ⟨xb, jb, sv, ov, lv, jo, Ft, hV, hsub⟩ := h
  have HE : Hid (A.turn P l = if A.ix.first = A.j.last + 1 ∧ A.ix.segs = l then (0, A, P) else
    if (P.turn (A.j.last + 1) l).1 ≠ 0 then ((P.turn (A.j.last + 1) l).1, A, (P.turn (A.j.last + 1) l).2) else
    (0, { A with ix := ⟨A.j.last + 1, l⟩, j := ⟨[], A.j.last, 0, none⟩ }, (P.turn (A.j.last + 1) l).2)) := rfl
  have NX : Hid (∀ w1, Chg (fun _ => False) w w1 → _) := fun w1 hc => next_any w1 (hV.jn.chg0 hc) hr
  have IS : Hid (∀ w1, Chg (fun _ => False) w w1 → _) := fun w1 hc => ixIs_any w1 (hV.ix.keep hc (fun h => h)) (hV.segs.chg hc (fun _ _ h => h)) kv l (hk.chg hc (fun _ _ h => h)) (A.j.last + 1)
  have TN : Hid (∀ w1, Chg (fun _ => False) w w1 → _) := fun w1 hc => turn_any w1 (A.j.last + 1) A.ix.first kv sv l (hV.ix.keep hc (fun h => h)) (RepU.same hV.dk hV.lt hc) (fun k hk => Nat.lt_of_lt_of_le (hV.lt k hk) hc.size) (hV.sepD xb (.inr (.inl rfl))) hF hl (hL.keep0 hc) (hk.chg hc (fun _ _ h => h)) hr hsr hsl
  obtain ⟨ka, kcap, rfl, k1, k2⟩ := hk.form
  have HV := hide hV
  have HSUB := hide hsub
  have HK := hide hk
  have HKS := hide hks
  obtain ⟨R, hR⟩ : ∃ R, A.turn P l = R := ⟨_, rfl⟩
  rw [hR] at HE ⊢
  obtain ⟨T, hT⟩ : ∃ T, P.turn (A.j.last + 1) l = T := ⟨_, rfl⟩
  rw [hT] at HE TN
  obtain ⟨L, hLL⟩ : ∃ L, A.j.last + 1 = L := ⟨_, rfl⟩
  rw [hLL] at HE NX IS TN
  have HLL := hide hLL
  have HB := hide hV.blk
  have d1 := hV.blk.drew.c1
  have d2 := hV.blk.drew.c2
  have NXD := hide (NX.out w.drew (Chg.refl _ w).drew)
  clear hR hT hLL hV hsub hk hks hF hl hsr hsl hL
  by_cases hsame : A.ix.first = L ∧ A.ix.segs = l
  case pos =>
    have hR1 : R = (0, A, P) := by rw [HE.out, if_pos hsame]
    subst hR1
    rw [decide_eq_true hsame] at IS
    have ISD := hide (IS.out w.drew (Chg.refl _ w).drew)
    clear HE TN IS hsame NX
    go_enter Tryz.func152, Tryz.ntmps152
    go_wp2
    refine wp_region_sch (fun w' => w'.cell? ⟨ab, 1, none⟩ = some (.pointer (some ⟨xb, 0, none⟩)) ∧ w'.cell? ⟨ab, 2, none⟩ = some (.pointer (some ⟨jb, 0, none⟩))) 10
      [(0, true), (1, true), (2, true), (3, true), (4, true), (5, true), (6, true), (7, true), (9, true), (8, false)] (by kernel_rfl) (by kernel_rfl) (fun _ _ _ _ _ h => h) ⟨d1, d2⟩ ?_
    iterate 9 (refine wpSch_take (v := ?_) rfl (by rfl) ?_ ?_; rotate_left; (· (intro w' hS; (try dsimp only at hS); go_simp; try with_reducible rfl)); (try simp only [Act.put, List.setIfInBounds_toArray, List.set_cons_zero, List.set_cons_succ, List.getElem_toArray, List.getElem_cons_zero, List.getElem_cons_succ]))
    refine wpSch_do rfl (by rfl) (fun K hK => ?_)
    go_simp
    refine NXD.out.mono ?_
    rintro e w3 ⟨rfl, rfl⟩
    refine hK _ _ ⟨d1, d2⟩ (fun hS => ?_)
    clear hK K hS
    (try simp only [Act.put, List.setIfInBounds_toArray, List.set_cons_zero, List.set_cons_succ, List.getElem_toArray, List.getElem_cons_zero, List.getElem_cons_succ])
    refine wpSch_end ?_
    simp only [List.drop_succ_cons, List.drop_zero]
    go_wp2_with (go_at_call 198; refine ISD.out.mono ?_; rintro e w4 ⟨rfl, q, rfl⟩)
    go_ret
    have kq := (Chg.refl (fun _ => False) w).drewN (1 + q)
    exact ⟨rfl, ArV.into (FT := fun k => FT k ∨ (Value.slice ka l.length kcap).ownBlock = some k) (HV.out.chg0 kq) kq (fun _ _ h => h.elim) (fun k hk => .inl (.inl (HSUB.out k (.inl hk)))) fun k hk => .inl (.inl (HSUB.out k (.inr hk)))⟩
  case neg =>
    rw [decide_eq_false hsame] at IS
    have ISD := hide (IS.out w.drew (Chg.refl _ w).drew)
    have HE2 : Hid (R = if T.1 ≠ 0 then (T.1, A, T.2) else (0, { A with ix := ⟨L, l⟩, j := ⟨[], A.j.last, 0, none⟩ }, T.2)) := by unfold Hid; rw [HE.out, if_neg hsame]
    clear HE IS hsame
    go_enter Tryz.func152, Tryz.ntmps152
    go_wp2
    refine wp_region_sch (fun w' => w'.cell? ⟨ab, 1, none⟩ = some (.pointer (some ⟨xb, 0, none⟩)) ∧ w'.cell? ⟨ab, 2, none⟩ = some (.pointer (some ⟨jb, 0, none⟩))) 10
      [(0, true), (1, true), (2, true), (3, true), (4, true), (5, true), (6, true), (7, true), (9, true), (8, false)] (by kernel_rfl) (by kernel_rfl) (fun _ _ _ _ _ h => h) ⟨d1, d2⟩ ?_
    iterate 9 (refine wpSch_take (v := ?_) rfl (by rfl) ?_ ?_; rotate_left; (· (intro w' hS; (try dsimp only at hS); go_simp; try with_reducible rfl)); (try simp only [Act.put, List.setIfInBounds_toArray, List.set_cons_zero, List.set_cons_succ, List.getElem_toArray, List.getElem_cons_zero, List.getElem_cons_succ]))
    refine wpSch_do rfl (by rfl) (fun K hK => ?_)
    go_simp
    refine NXD.out.mono ?_
    rintro e w3 ⟨rfl, rfl⟩
    refine hK _ _ ⟨d1, d2⟩ (fun hS => ?_)
    clear hK K hS
    (try simp only [Act.put, List.setIfInBounds_toArray, List.set_cons_zero, List.set_cons_succ, List.getElem_toArray, List.getElem_cons_zero, List.getElem_cons_succ])
    refine wpSch_end ?_
    simp only [List.drop_succ_cons, List.drop_zero]
    go_wp2_with (fail)
    refine ISD.out.mono ?_
    rintro e w4 ⟨rfl, q, rfl⟩
    have k4 : Chg (fun _ => False) w (w.drewN (1 + q)) := (Chg.refl (fun _ => False) w).drewN (1 + q)
    have V4 := HV.out.chg0 k4
    have x1 := V4.blk.drew.c1
    have x2 := V4.blk.drew.c2
    have V5 := hide (HV.out.chg0 k4.drew)
    have K5 := hide k4.drew
    have TN5 := hide (TN.out _ k4.drew)
    have NX5 := hide (NX.out _ k4.drew)
    clear NXD ISD TN NX k4 V4 d1 d2
    go_wp2
    generalize w.drewN (1 + q) = w4 at V5 K5 TN5 NX5 x1 x2 ⊢
    obtain ⟨T1, T2⟩ := T
    dsimp only at TN5 HE2
    have hab : Hid (ab ≠ xb ∧ ¬ Ft ab) := ⟨V5.out.ne, V5.out.sepD ab (.inl rfl)⟩
    by_cases ht : T1 = 0
    case neg =>
      have hR1 : R = (T1, A, T2) := by rw [HE2.out, if_pos ht]
      subst hR1
      have htb : (T1 != 0) = true := by simpa using ht
      refine wp_region_sch (fun w' => w'.cell? ⟨ab, 1, none⟩ = some (.pointer (some ⟨xb, 0, none⟩)) ∧ w'.cell? ⟨ab, 2, none⟩ = some (.pointer (some ⟨jb, 0, none⟩))) 11
        [(0, true), (1, true), (2, true), (3, true), (4, true), (5, true), (6, true), (7, true), (9, true), (8, false), (10, false)] (by kernel_rfl) (by kernel_rfl) (fun _ _ _ _ _ h => h) ⟨x1, x2⟩ ?_
      iterate 9 (refine wpSch_take (v := ?_) rfl (by rfl) ?_ ?_; rotate_left; (· (intro w' hS; (try dsimp only at hS); go_simp; try with_reducible rfl)); (try simp only [Act.put, List.setIfInBounds_toArray, List.set_cons_zero, List.set_cons_succ, List.getElem_toArray, List.getElem_cons_zero, List.getElem_cons_succ]))
      refine wpSch_do rfl (by rfl) (fun K hK => ?_)
      go_simp
      refine NX5.out.mono ?_
      rintro e w3 ⟨rfl, rfl⟩
      refine hK _ _ ⟨x1, x2⟩ (fun hS => ?_)
      clear hK K hS
      (try simp only [Act.put, List.setIfInBounds_toArray, List.set_cons_zero, List.set_cons_succ, List.getElem_toArray, List.getElem_cons_zero, List.getElem_cons_succ])
      refine wpSch_do rfl (by rfl) (fun K hK => ?_)
      go_simp
      refine TN5.out.mono ?_
      rintro e w6 ⟨rfl, hx, hI⟩
      have b6 : ArBlk w6 ab b xb jb A.last ov := V5.out.blk.keep hI.1 fun h => h.elim hab.out.2 hab.out.1
      refine hK _ _ ⟨b6.c1, b6.c2⟩ (fun hS => ?_)
      rw [if_neg ht, if_neg ht] at hx
      have H6 := hide (V5.out.ixTo hx (V5.out.segs.frame fun g hg => hI.1.block g (V5.out.segs.lt hg) fun h => h.elim (V5.out.sepD g (.inr (.inr (.inl hg)))) (V5.out.sepS g hg).2.1) hI fun g hg => .inl hg)
      clear hK K hS hx hI b6 TN5
      (try simp only [Act.put, List.setIfInBounds_toArray, List.set_cons_zero, List.set_cons_succ, List.getElem_toArray, List.getElem_cons_zero, List.getElem_cons_succ])
      refine wpSch_end ?_
      simp only [List.drop_succ_cons, List.drop_zero]
      go_wp2
      go_ret
      obtain ⟨Ft', h1, h2, h3⟩ := H6.out
      have hc6 : Chg (fun k => Ft k ∨ k = xb) w w6 := (K5.out.mono (S' := fun k => Ft k ∨ k = xb) fun _ _ h => h.elim).trans h2 fun _ h _ => h
      refine ⟨rfl, ArV.into (FT := fun k => FT k ∨ (Value.slice ka l.length kcap).ownBlock = some k) h1 hc6 ?_ ?_ ?_⟩
      · rintro k _ (h | rfl)
        · exact .inl (HSUB.out k (.inl h))
        · exact .inl (HSUB.out _ (.inr (.inr (.inl rfl))))
      · exact fun k hk => (h3 k hk).imp (fun h => .inl (HSUB.out k (.inl h))) fun h => Nat.le_trans K5.out.size h
      · exact fun k hk => .inl (.inl (HSUB.out k (.inr hk)))
    case pos =>
      subst ht
      have hR1 : R = (0, { A with ix := ⟨L, l⟩, j := ⟨[], A.j.last, 0, none⟩ }, T2) := by rw [HE2.out, if_neg (by simp)]
      subst hR1
      have KSEP : Hid (∀ g, (Value.slice ka l.length kcap).ownBlock = some g → g < w4.drew.heap.size ∧ ¬ Ft g ∧ ¬ ArFt ab xb jb sv ov lv jo g) := fun g hg => ⟨Nat.lt_of_lt_of_le (HK.out.lt hg) K5.out.size, fun h => HKS.out g hg (HSUB.out g (.inl h)), fun h => HKS.out g hg (HSUB.out g (.inr h))⟩
      refine wp_region_sch (fun w' => w'.cell? ⟨ab, 1, none⟩ = some (.pointer (some ⟨xb, 0, none⟩)) ∧ w'.cell? ⟨ab, 2, none⟩ = some (.pointer (some ⟨jb, 0, none⟩))) 11
        [(0, true), (1, true), (2, true), (3, true), (4, true), (5, true), (6, true), (7, true), (9, true), (8, false), (10, false)] (by kernel_rfl) (by kernel_rfl) (fun _ _ _ _ _ h => h) ⟨x1, x2⟩ ?_
      iterate 9 (refine wpSch_take (v := ?_) rfl (by rfl) ?_ ?_; rotate_left; (· (intro w' hS; (try dsimp only at hS); go_simp; try with_reducible rfl)); (try simp only [Act.put, List.setIfInBounds_toArray, List.set_cons_zero, List.set_cons_succ, List.getElem_toArray, List.getElem_cons_zero, List.getElem_cons_succ]))
      refine wpSch_do rfl (by rfl) (fun K hK => ?_)
      go_simp
      refine NX5.out.mono ?_
      rintro e w3 ⟨rfl, rfl⟩
      refine hK _ _ ⟨x1, x2⟩ (fun hS => ?_)
      clear hK K hS
      (try simp only [Act.put, List.setIfInBounds_toArray, List.set_cons_zero, List.set_cons_succ, List.getElem_toArray, List.getElem_cons_zero, List.getElem_cons_succ])
      refine wpSch_do rfl (by rfl) (fun K hK => ?_)
      go_simp
      refine TN5.out.mono ?_
      rintro e w6 ⟨rfl, hx, hI⟩
      have b6 : ArBlk w6 ab b xb jb A.last ov := V5.out.blk.keep hI.1 fun h => h.elim hab.out.2 hab.out.1
      refine hK _ _ ⟨b6.c1, b6.c2⟩ (fun hS => ?_)
      rw [if_pos rfl, if_pos rfl] at hx
      have hk6 : RdI w6 (.slice ka l.length kcap) l := (HK.out.chg K5.out (fun _ _ h => h)).frame fun g hg => hI.1.block g (KSEP.out g hg).1 fun h => h.elim (KSEP.out g hg).2.1 fun e => (KSEP.out g hg).2.2 (.inr (.inl e))
      have H6 := hide (V5.out.ixTo hx hk6 hI fun g hg => .inr (KSEP.out g hg))
      have d2 := b6.c2
      clear hK K hS hx hI b6 TN5 hk6
      (try simp only [Act.put, List.setIfInBounds_toArray, List.set_cons_zero, List.set_cons_succ, List.getElem_toArray, List.getElem_cons_zero, List.getElem_cons_succ])
      refine wpSch_end ?_
      simp only [List.drop_succ_cons, List.drop_zero]
      obtain ⟨Ft', h1, h2, h3⟩ := H6.out
      have LV := hide (leave_any w6 h1.jn)
      have V6 := hide h1
      have C6 : Hid (Chg (fun k => Ft k ∨ k = xb) w w6) := (K5.out.mono (S' := fun k => Ft k ∨ k = xb) fun _ _ h => h.elim).trans h2 fun _ h _ => h
      have S6 : Hid (∀ k, Ft' k → Ft k ∨ w.heap.size ≤ k) := fun k hk => (h3 k hk).imp id fun h => Nat.le_trans K5.out.size h
      clear H6 h1 h2 h3
      go_wp2_with (go_at_call 201; refine LV.out.mono ?_; rintro e w7 ⟨rfl, hj, hcj⟩; have HJ := hide hj; have HCJ := hide hcj; clear hj hcj)
      go_ret
      have hV7 := V6.out.jnTo HJ.out HCJ.out (by simp [Value.ownBlock]) rfl
      refine ⟨rfl, ArV.into (FT := fun k => FT k ∨ (Value.slice ka l.length kcap).ownBlock = some k) (S := fun k => (Ft k ∨ k = xb) ∨ k = jb) hV7 ((C6.out.mono fun _ _ h => .inl h).trans HCJ.out fun _ h _ => .inr h) ?_ ?_ ?_⟩
      · rintro k _ ((h | rfl) | rfl)
        · exact .inl (HSUB.out k (.inl h))
        · exact .inl (HSUB.out _ (.inr (.inr (.inl rfl))))
        · exact .inl (HSUB.out _ (.inr (.inr (.inr (.inr (.inr (.inl rfl)))))))
      · exact fun k hk => (S6.out k hk).imp (fun h => .inl (HSUB.out k (.inl h))) id
      · rintro k (h | h | h | h | h)
        · exact .inl (.inl (HSUB.out k (.inr (.inl h))))
        · exact .inl (.inl (HSUB.out k (.inr (.inr (.inl h)))))
        · exact .inl (.inr h)
        · exact .inl (.inl (HSUB.out k (.inr (.inr (.inr (.inr (.inl h)))))))
        · rcases h with h | h | h
          · exact .inl (.inl (HSUB.out k (.inr (.inr (.inr (.inr (.inr (.inl h))))))))
          · simp [Value.ownBlock] at h
          · cases h
end
end Go.Proofs.YtodcnkbblippnaaGreatDoor
/- Walks: what goes ahead of new segments (settle, sweep), and behind them (sweep, SyncDir); how much the disk holds then. -/
namespace Go.Proofs.YtodcnkbblippnaaGreatDoor
open Go.RowKit
attribute [local go_sem ↓] NoP_normal

/-! ## How much the disk holds -/
theorem Fit.syncAll {a c m : Nat} : ∀ (l : List Bs) (P : PD), Fit P a c m → Fit (PD.syncAll l P).2 a c m
  | [], P, h => h
  | nm :: r, P, h => by
    rw [syncAll_cons]
    split
    · exact h.sync _
    · exact Fit.syncAll r _ (h.sync _)
theorem Fit.settle {A : Ar} {P : PD} {a c m : Nat} (h : Fit P a c m) : Fit (A.settle P).2.2 a c m := by
  unfold Ar.settle
  split
  · exact h.syncAll _ _
  · exact h.syncAll _ _
theorem Fit.removeAll {a m : Nat} : ∀ (l : List Bs) (P : PD) (c : Nat), Fit P a c m → Fit (PD.removeAll l P).2 a (c + l.length) m
  | [], P, c, h => h
  | nm :: r, P, c, h => by
    rw [removeAll_cons]
    split
    · exact (h.remove _).mono (Nat.le_refl _) (by simp) (Nat.le_refl _)
    · exact (Fit.removeAll r _ _ (h.remove _)).mono (Nat.le_refl _) (by simp; omega) (Nat.le_refl _)
theorem Fit.sweep {A : Ar} {P : PD} {a c m : Nat} (h : Fit P a c m) : Fit (A.sweep P).2 a (c + a) m := by
  have h1 := Fit.removeAll (A.others P) P c h
  have h2 := others_length A P h
  exact h1.mono (Nat.le_refl _) (by omega) (Nat.le_refl _)
theorem settle_same (A : Ar) (P : PD) : (A.settle P).2.1.ix = A.ix ∧ (A.settle P).2.1.j = A.j ∧ (A.settle P).2.1.last = A.last := by
  unfold Ar.settle; split <;> exact ⟨rfl, rfl, rfl⟩
/-- settle, then sweep. -/
def Ar.prep (A : Ar) (P : PD) : Int × Ar × PD :=
  if (A.settle P).1 ≠ 0 then A.settle P else (((A.settle P).2.1.sweep (A.settle P).2.2).1, (A.settle P).2.1, ((A.settle P).2.1.sweep (A.settle P).2.2).2)
theorem prep_same (A : Ar) (P : PD) : (A.prep P).2.1.ix = A.ix ∧ (A.prep P).2.1.j = A.j ∧ (A.prep P).2.1.last = A.last := by
  unfold Ar.prep; split <;> exact settle_same A P
theorem Fit.prep {A : Ar} {P : PD} {a c m : Nat} (h : Fit P a c m) : Fit (A.prep P).2.2 a (c + a) m := by
  unfold Ar.prep
  split
  · exact h.settle.mono (Nat.le_refl _) (by omega) (Nat.le_refl _)
  · exact h.settle.sweep
theorem replace_eq (A : Ar) (P : PD) (kept : List Int) (fresh : List (List Pu)) : A.replace P kept fresh = if (A.prep P).1 ≠ 0 then A.prep P else
    if (PD.newSegs fresh (A.prep P).2.1.last kept (A.prep P).2.2).1 ≠ 0 then ((PD.newSegs fresh (A.prep P).2.1.last kept (A.prep P).2.2).1, { (A.prep P).2.1 with last := (PD.newSegs fresh (A.prep P).2.1.last kept (A.prep P).2.2).2.1 }, (PD.newSegs fresh (A.prep P).2.1.last kept (A.prep P).2.2).2.2.2) else
    if (({ (A.prep P).2.1 with last := (PD.newSegs fresh (A.prep P).2.1.last kept (A.prep P).2.2).2.1 } : Ar).turn (PD.newSegs fresh (A.prep P).2.1.last kept (A.prep P).2.2).2.2.2 (PD.newSegs fresh (A.prep P).2.1.last kept (A.prep P).2.2).2.2.1).1 ≠ 0 then
      ({ (A.prep P).2.1 with last := (PD.newSegs fresh (A.prep P).2.1.last kept (A.prep P).2.2).2.1 } : Ar).turn (PD.newSegs fresh (A.prep P).2.1.last kept (A.prep P).2.2).2.2.2 (PD.newSegs fresh (A.prep P).2.1.last kept (A.prep P).2.2).2.2.1
    else (({ (A.prep P).2.1 with last := (PD.newSegs fresh (A.prep P).2.1.last kept (A.prep P).2.2).2.1 } : Ar).turn (PD.newSegs fresh (A.prep P).2.1.last kept (A.prep P).2.2).2.2.2 (PD.newSegs fresh (A.prep P).2.1.last kept (A.prep P).2.2).2.2.1).2.1.close
      (({ (A.prep P).2.1 with last := (PD.newSegs fresh (A.prep P).2.1.last kept (A.prep P).2.2).2.1 } : Ar).turn (PD.newSegs fresh (A.prep P).2.1.last kept (A.prep P).2.2).2.2.2 (PD.newSegs fresh (A.prep P).2.1.last kept (A.prep P).2.2).2.2.1).2.2 := by
  unfold Ar.replace Ar.prep
  dsimp only
  by_cases h1 : (A.settle P).1 = 0
  · by_cases h2 : ((A.settle P).2.1.sweep (A.settle P).2.2).1 = 0
    · simp only [h1, h2, ne_eq, not_true, if_false]
    · simp only [h1, h2, ne_eq, not_true, not_false_eq_true, if_false, if_true]
  · simp only [h1, ne_eq, not_false_eq_true, if_true]
/-! ## Footprints that are just so -/
section
variable {w w' : World} {ab b xb jb B : Nat} {sv ov lv jo : Value} {A : Ar} {P : PD} {Ft FT : Nat → Prop} {a c m : Nat}
theorem AD.cells (h : AD w ab b A P FT) : w.cell? ⟨ab, 0, none⟩ = some (.pointer (some ⟨b, 0, none⟩)) ∧ w.cell? ⟨ab, 3, none⟩ = some (.int .i64 A.last) ∧ w.frozen? ⟨ab, 3, none⟩ = false ∧ ab < w.heap.size ∧ FT ab := by
  obtain ⟨xb, jb, sv, ov, lv, jo, Ft, h1, h2⟩ := h
  exact ⟨h1.blk.c0, h1.blk.c3, h1.blk.fz 3, h1.blk.lt, h2 ab (.inr (.inl rfl))⟩
/-- The greatest number of a segment was turned. -/
theorem AD.setLast (h : AD w ab b A P FT) (x : Int) : AD (w.setCell ⟨ab, 3, none⟩ (.int .i64 x)) ab b { A with last := x } P FT := by
  obtain ⟨xb, jb, sv, ov, lv, jo, Ft, hv, h2⟩ := h
  have kz : Chg (One ab) w (w.setCell ⟨ab, 3, none⟩ (.int .i64 x)) := (Chg.refl (One ab) w).setAt (b := ab) rfl 3 _
  have hs : ∀ k, k ≠ ab → k < w.heap.size → (w.setCell ⟨ab, 3, none⟩ (.int .i64 x)).heap[k]? = w.heap[k]? := fun k hk hl => kz.block k hl hk
  exact ⟨xb, jb, sv, ov, lv, jo, Ft, ⟨hv.blk.s3 x, (hs xb hv.ne.symm hv.ix.lt).trans hv.ix, hv.segs.frame fun g hg => hs g (hv.sepS g hg).1 (hv.segs.lt hg), hv.loose.frame fun g hg => hs g (hv.sepO g hg).1 (hv.loose.lt hg), hv.jn.frame fun k hk => hs k (hv.sepJ k hk).1 (hv.jn.lt hk),
    RepU.frame hv.dk fun k hk => hs k (fun e => by subst e; exact hv.sepD _ (.inl rfl) hk) (hv.lt k hk), fun k hk => Nat.lt_of_lt_of_le (hv.lt k hk) kz.size, hv.sepD, hv.sepS, hv.sepO, hv.sepJ⟩, h2⟩
theorem dsyncDirD (h : DkAt w b P Ft) :
    Calls Tryz.prog 86 #[.pointer (some ⟨b, 0, none⟩)] w fun e w' => e = .returned (.int .i64 P.syncDir.1) ∧ Into w Ft w' (fun w' Ft' => DkAt w' b P.syncDir.2 Ft') := syncDirU h
theorem adSyncDir (h : AD w ab b A P FT) :
    Calls Tryz.prog 86 #[.pointer (some ⟨b, 0, none⟩)] w fun e w' => e = .returned (.int .i64 P.syncDir.1) ∧ Into w FT w' (fun w' FT' => AD w' ab b A P.syncDir.2 FT') := by
  obtain ⟨xb, jb, sv, ov, lv, jo, Ft, hv, h2⟩ := h
  refine (dsyncDirD hv.dk).mono ?_
  rintro e w' ⟨h3, h4⟩
  exact ⟨h3, hv.diskInto h2 (hv.disk h4)⟩
/-- settle, then sweep. -/
theorem prep_any (w : World) (g : Nat) (h : AD w ab b A P FT) (_hlt : ∀ k, FT k → k < w.heap.size) (hg : ¬ FT g) (hgl : g < w.heap.size) (hb : w.heap[g]? = some (.cells #[.func (Fn.func 118) #[.pointer (some ⟨ab, 0, none⟩)] #[], .func (Fn.func 150) #[.pointer (some ⟨ab, 0, none⟩)] #[]] 50 (0, 0)))
    (hF : Fit P a c m) (hl : Lim a (c + a) m) (hn : ∀ n ∈ A.ix.segs, NumOk n) (hnl : ∀ n ∈ A.j.logs, NumOk n) (hsl : A.ix.segs.length ≤ 1073741824) (hll : A.j.logs.length ≤ 1073741824) (hL : Lets B w) (hLB : ∀ k, FT k → B ≤ k) :
    Calls Tryz.prog 117 #[.slice (some ⟨g, 0, none⟩) 2 2] w fun e w' => e = .returned (.int .i64 (A.prep P).1) ∧ Into w FT w' (fun w' FT' => AD w' ab b (A.prep P).2.1 (A.prep P).2.2 FT') := by
  obtain ⟨s1, s2, s3⟩ := settle_same A P
  refine (inTurn_settle_sweep w g ab ab (fun n w' => n = (A.settle P).1 ∧ Into w FT w' (fun w' FT' => AD w' ab b (A.settle P).2.1 (A.settle P).2.2 FT')) (fun n w' => (A.settle P).1 = 0 ∧ n = ((A.settle P).2.1.sweep (A.settle P).2.2).1 ∧ Into w FT w' (fun w' FT' => AD w' ab b (A.settle P).2.1 ((A.settle P).2.1.sweep (A.settle P).2.2).2 FT')) hb ?_ ?_).mono ?_
  · refine (settle_any w h).mono ?_
    rintro e w' ⟨h1, h2⟩
    exact ⟨_, h1, ⟨rfl, h2⟩, h2.1.block g hgl hg⟩
  · rintro w1 ⟨h0, c1, F1, h2, h3, h4⟩ -
    refine (sweep_any w1 h2 hF.settle hl (by rw [s1]; exact hn) (by rw [s2]; exact hnl) (by rw [s1]; exact hsl) (by rw [s2]; exact hll) (hL.keep c1 hLB)).mono ?_
    rintro e w' ⟨h5, h6⟩
    exact ⟨_, h5, h0.symm, rfl, Into.step c1 h4 h6⟩
  · rintro e w' ⟨n, rfl, ⟨h1, h2, h3⟩ | ⟨h1, h2, h3⟩⟩
    · subst h2
      unfold Ar.prep
      rw [if_pos h1]
      exact ⟨rfl, h3⟩
    · subst h2
      unfold Ar.prep
      rw [if_neg (by simp [h1])]
      exact ⟨rfl, h3⟩
/-- sweep, then SyncDir. -/
theorem close_any (w : World) (g : Nat) (h : AD w ab b A P FT) (_hlt : ∀ k, FT k → k < w.heap.size) (hg : ¬ FT g) (hgl : g < w.heap.size) (hb : w.heap[g]? = some (.cells #[.func (Fn.func 150) #[.pointer (some ⟨ab, 0, none⟩)] #[], .func (Fn.func 86) #[.pointer (some ⟨b, 0, none⟩)] #[]] 50 (0, 0)))
    (hF : Fit P a c m) (hl : Lim a (c + a) m) (hn : ∀ n ∈ A.ix.segs, NumOk n) (hnl : ∀ n ∈ A.j.logs, NumOk n) (hsl : A.ix.segs.length ≤ 1073741824) (hll : A.j.logs.length ≤ 1073741824) (hL : Lets B w) :
    Calls Tryz.prog 117 #[.slice (some ⟨g, 0, none⟩) 2 2] w fun e w' => e = .returned (.int .i64 (A.close P).1) ∧ Into w FT w' (fun w' FT' => AD w' ab b (A.close P).2.1 (A.close P).2.2 FT') := by
  refine (inTurn_sweep_dsync w g ab b (fun n w' => n = (A.sweep P).1 ∧ Into w FT w' (fun w' FT' => AD w' ab b A (A.sweep P).2 FT')) (fun n w' => (A.sweep P).1 = 0 ∧ n = (A.sweep P).2.syncDir.1 ∧ Into w FT w' (fun w' FT' => AD w' ab b A (A.sweep P).2.syncDir.2 FT')) hb ?_ ?_).mono ?_
  · refine (sweep_any w h hF hl hn hnl hsl hll hL).mono ?_
    rintro e w' ⟨h1, h2⟩
    exact ⟨_, h1, ⟨rfl, h2⟩, h2.1.block g hgl hg⟩
  · rintro w1 ⟨h0, c1, F1, h2, h3, h4⟩ -
    refine (adSyncDir h2).mono ?_
    rintro e w' ⟨h5, h6⟩
    exact ⟨_, h5, h0.symm, rfl, Into.step c1 h4 h6⟩
  · rintro e w' ⟨n, rfl, ⟨h1, h2, h3⟩ | ⟨h1, h2, h3⟩⟩
    · subst h2
      unfold Ar.close
      rw [if_pos h1]
      exact ⟨rfl, h3⟩
    · subst h2
      unfold Ar.close
      rw [if_neg (by simp [h1])]
      exact ⟨rfl, h3⟩
end
end Go.Proofs.YtodcnkbblippnaaGreatDoor
