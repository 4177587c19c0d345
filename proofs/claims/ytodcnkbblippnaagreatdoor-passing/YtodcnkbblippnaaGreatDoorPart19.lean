/-
  The statement PassingCardSaid is proved: the law Passing answers true, at every four numbers; there is no condition.
  Part 19 of 34.
-/
import Derived.Test.YtodcnkbblippnaaGreatDoorPart18
/- Walks: a journal's own log is made: begin; a Put is added: Add. -/
namespace Go.Proofs.YtodcnkbblippnaaGreatDoor
open Go.RowKit
attribute [local go_sem ↓] NoP_normal

theorem intInfo : ∃ i0, Tryz.prog.info? 3 = some i0 ∧ i0.zero = some (.int .i64 0) ∧ i0.size = 1 ∧ i0.bytes = 8 := by
  have h := Tryz.infoInt
  cases hx : Tryz.prog.info? 3 with
  | none => rw [hx] at h; cases h
  | some i => rw [hx] at h; simp at h; exact ⟨i, rfl, h.1, h.2.1, h.2.2⟩
section
variable {w : World} {b B jb lb : Nat} {P : PD} {Ft FT : Nat → Prop} {a c m : Nat} {lv ov : Value} {J : Jn} {n : Int}
set_option maxRecDepth 100000 in
set_option maxHeartbeats 8000000 in
theorem begin_any (w : World) (h : JD w jb b J P FT) (ho : J.own = none) (hn : NumOk (J.last + 1)) (hr : In64 (J.last + 1)) (hp : In64 J.puts) (hll : J.logs.length ≤ 1073741824) (hL : Lets B w) (hF : Fit P a c m) (hl : Lim (a + 1) (c + 1) (m + 12)) :
    Calls Tryz.prog 190 #[.pointer (some ⟨jb, 0, none⟩)] w fun e w' => e = .returned (.int .i64 (J.begin P).1) ∧ Into w FT w' (fun w' FT' => JD w' jb b (J.begin P).2.1 (J.begin P).2.2 FT') := by
  obtain ⟨i0, hi, hz0, hz1, hz2⟩ := intInfo
  obtain ⟨lv, ov, Ft, hJ, hD, hlt, hdis, hsub⟩ := h
  have hov : ov = .pointer none := by
    rcases hJ.own with ⟨_, h⟩ | ⟨n, s, lb, h, _⟩
    · exact h
    · rw [ho] at h; cases h
  subst hov
  have HB : Hid (J.begin P = if (P.create (nmB (nmLog (J.last + 1)))).1 ≠ 0 then ((P.create (nmB (nmLog (J.last + 1)))).1, J, (P.create (nmB (nmLog (J.last + 1)))).2) else
    if ((P.create (nmB (nmLog (J.last + 1)))).2.add (nmB (nmLog (J.last + 1))) (sum0 (nmLog (J.last + 1))) (intB J.puts)).2.1 ≠ 0 then (((P.create (nmB (nmLog (J.last + 1)))).2.add (nmB (nmLog (J.last + 1))) (sum0 (nmLog (J.last + 1))) (intB J.puts)).2.1, J, ((P.create (nmB (nmLog (J.last + 1)))).2.add (nmB (nmLog (J.last + 1))) (sum0 (nmLog (J.last + 1))) (intB J.puts)).2.2) else
    (0, ⟨J.logs ++ [J.last + 1], J.last + 1, J.puts, some (J.last + 1, sumOn (sum0 (nmLog (J.last + 1))) (intB J.puts))⟩, ((P.create (nmB (nmLog (J.last + 1)))).2.add (nmB (nmLog (J.last + 1))) (sum0 (nmLog (J.last + 1))) (intB J.puts)).2.2)) := rfl
  have NL : Hid (∀ w1, Chg (fun _ => False) w w1 → _) := fun w1 hc => newLogD w1 J.puts (RepU.same hD hlt hc) (fun k hk => Nat.lt_of_lt_of_le (hlt k hk) hc.size) hn (hL.keep0 hc) hp hF hl
  have NX : Hid (∀ w1, Chg (fun _ => False) w w1 → _) := fun w1 hc => next_any w1 (hJ.chg0 hc) hr
  obtain ⟨R, hR⟩ : ∃ R, J.begin P = R := ⟨_, rfl⟩
  rw [hR] at HB ⊢
  obtain ⟨L, hLL⟩ : ∃ L, J.last + 1 = L := ⟨_, rfl⟩
  rw [hLL] at HB NL NX hr hn
  have hlb : (nmLog L).length ≤ 100 := nmOf_length hn.2.2
  obtain ⟨nm, hnm⟩ : ∃ nm, nmLog L = nm := ⟨_, rfl⟩
  rw [hnm] at HB NL
  obtain ⟨s0, hs0⟩ : ∃ s0, sum0 nm = s0 := ⟨_, rfl⟩
  have hs0l : s0 < 4294967296 := by rw [← hs0]; exact sum0_lt nm
  rw [hs0] at HB NL
  obtain ⟨C, hC⟩ : ∃ C, P.create (nmB nm) = C := ⟨_, rfl⟩
  rw [hC] at HB NL
  obtain ⟨A, hA⟩ : ∃ A, C.2.add (nmB nm) s0 (intB J.puts) = A := ⟨_, rfl⟩
  rw [hA] at HB NL
  have hs1 : sumOn s0 (intB J.puts) < 4294967296 := sumOn_lt _ _ hs0l
  obtain ⟨s1, hs1e⟩ : ∃ s1, sumOn s0 (intB J.puts) = s1 := ⟨_, rfl⟩
  rw [hs1e] at HB NL hs1
  have c0 := hJ.blk.drew.c0
  have c3 := hJ.blk.drew.c3
  have HJ := hide hJ
  have HD := hide hdis
  have HS := hide hsub
  have HLT := hide hlt
  have HO := hide ho
  have HLLE := hide hLL
  have HNM := hide hnm
  have HLEN := hide hll
  have NXD := hide (NX.out w.drew (Chg.refl _ w).drew)
  have NLD := hide (NL.out w.drew (Chg.refl _ w).drew)
  clear hC hA hR hs0 hs0l hs1e hlb hnm hLL hJ hD hlt hdis hsub ho hll hL hF hl hp NX NL
  -- what is behind NewLog, whatever it answers
  have KEEP : Hid (∀ wx, Chg Ft w.drew wx → JnV wx jb b lv (.pointer none) J) := fun wx hx => (HJ.out.chg0 (Chg.refl (fun _ => False) w).drew).chg hx HD.out
  have ERR : Hid (∀ wx (P1 : PD), Into w.drew Ft wx (fun w' Ft' => DkAt w' b P1 Ft') → Into w FT wx (fun w' FT' => JD w' jb b J P1 FT')) := fun wx P1 hx => by
    obtain ⟨r1, Ft', r2, r3, r4⟩ := hx
    exact Into.jd ((Chg.refl Ft w).drew.trans r1 fun _ h _ => h) (fun k _ hk => HS.out k (.inl hk)) (KEEP.out wx r1) r2 r3 (fun k hk hx => by rcases r4 k hx with h | h; exact HD.out k hk h; have := HJ.out.lt hk; have h' : w.heap.size ≤ k := h; omega) (fun k hk => (r4 k hk).imp (fun h => HS.out k (.inl h)) id) (fun k hk => .inl (HS.out k (.inr hk)))
  by_cases hc : C.1 = 0
  case neg =>
    have hR1 : R = (C.1, J, C.2) := by rw [HB.out, if_pos hc]
    subst hR1
    have NL1 : Hid (Calls Tryz.prog 236 #[.pointer (some ⟨b, 0, none⟩), .int .i64 L, .int .i64 J.puts] w.drew fun e w' => e = .returned (.tuple #[.pointer none, .int .i64 C.1]) ∧ Into w.drew Ft w' (fun w' Ft' => DkAt w' b C.2 Ft')) := by
      refine NLD.out.mono ?_
      rintro e w' (⟨_, h2, h3⟩ | ⟨h1, _⟩ | ⟨h1, _⟩)
      · exact ⟨h2, h3⟩
      · exact absurd h1 hc
      · exact absurd h1 hc
    have hcb : (C.1 != 0) = true := by simpa using hc
    obtain ⟨C1, C2⟩ := C
    dsimp only at NL1 hcb ⊢
    clear NLD HB
    go_enter Tryz.func190, Tryz.ntmps190
    go_wp2
    refine wp_region_sch (fun w' => w'.cell? ⟨jb, 0, none⟩ = some (.pointer (some ⟨b, 0, none⟩)) ∧ w'.cell? ⟨jb, 3, none⟩ = some (.int .i64 J.puts)) 15
      [(0, true), (1, true), (2, true), (3, true), (4, true), (6, true), (7, true), (8, true), (9, true), (5, false), (10, false), (11, true), (12, true), (13, true), (14, true)] (by kernel_rfl) (by kernel_rfl) (fun _ _ _ _ _ h => h) ⟨c0, c3⟩ ?_
    iterate 9 (refine wpSch_take (v := ?_) rfl (by rfl) ?_ ?_; rotate_left; (· (intro w' hS; (try dsimp only at hS); go_simp; try with_reducible rfl)); (try simp only [Act.put, List.setIfInBounds_toArray, List.set_cons_zero, List.set_cons_succ, List.getElem_toArray, List.getElem_cons_zero, List.getElem_cons_succ]))
    refine wpSch_do rfl (by rfl) (fun K hK => ?_)
    go_simp
    refine NXD.out.mono ?_
    rintro e w3 ⟨rfl, rfl⟩
    refine hK _ _ ⟨c0, c3⟩ (fun hS => ?_)
    clear hK K hS
    (try simp only [Act.put, List.setIfInBounds_toArray, List.set_cons_zero, List.set_cons_succ, List.getElem_toArray, List.getElem_cons_zero, List.getElem_cons_succ])
    refine wpSch_do rfl (by rfl) (fun K hK => ?_)
    go_simp
    refine NL1.out.mono ?_
    rintro e w4 ⟨rfl, hI⟩
    have k4 := KEEP.out w4 hI.1
    refine hK _ _ ⟨k4.blk.c0, k4.blk.c3⟩ (fun hS => ?_)
    have HI := hide (ERR.out w4 C2 hI)
    clear hK K hS hI k4 NL1 ERR KEEP
    (try simp only [Act.put, List.setIfInBounds_toArray, List.set_cons_zero, List.set_cons_succ, List.getElem_toArray, List.getElem_cons_zero, List.getElem_cons_succ])
    iterate 4 (refine wpSch_take (v := ?_) rfl (by rfl) ?_ ?_; rotate_left; (· (intro w' hS; (try dsimp only at hS); go_simp; try with_reducible rfl)); (try simp only [Act.put, List.setIfInBounds_toArray, List.set_cons_zero, List.set_cons_succ, List.getElem_toArray, List.getElem_cons_zero, List.getElem_cons_succ]))
    refine wpSch_end ?_
    simp only [List.drop_succ_cons, List.drop_zero]
    go_wp2
    go_ret
    exact ⟨rfl, HI.out⟩
  case pos =>
  by_cases ha : A.2.1 = 0
  case neg =>
    have hR1 : R = (A.2.1, J, A.2.2) := by rw [HB.out, if_neg (by simpa using hc), if_pos ha]
    subst hR1
    have NL1 : Hid (Calls Tryz.prog 236 #[.pointer (some ⟨b, 0, none⟩), .int .i64 L, .int .i64 J.puts] w.drew fun e w' => e = .returned (.tuple #[.pointer none, .int .i64 A.2.1]) ∧ Into w.drew Ft w' (fun w' Ft' => DkAt w' b A.2.2 Ft')) := by
      refine NLD.out.mono ?_
      rintro e w' (⟨h1, _⟩ | ⟨_, _, h2, h3⟩ | ⟨_, h1, _⟩)
      · exact absurd hc h1
      · exact ⟨h2, h3⟩
      · exact absurd h1 ha
    have hcb : (A.2.1 != 0) = true := by simpa using ha
    obtain ⟨A0, A1, A2⟩ := A
    dsimp only at NL1 hcb ⊢
    clear NLD HB
    go_enter Tryz.func190, Tryz.ntmps190
    go_wp2
    refine wp_region_sch (fun w' => w'.cell? ⟨jb, 0, none⟩ = some (.pointer (some ⟨b, 0, none⟩)) ∧ w'.cell? ⟨jb, 3, none⟩ = some (.int .i64 J.puts)) 15
      [(0, true), (1, true), (2, true), (3, true), (4, true), (6, true), (7, true), (8, true), (9, true), (5, false), (10, false), (11, true), (12, true), (13, true), (14, true)] (by kernel_rfl) (by kernel_rfl) (fun _ _ _ _ _ h => h) ⟨c0, c3⟩ ?_
    iterate 9 (refine wpSch_take (v := ?_) rfl (by rfl) ?_ ?_; rotate_left; (· (intro w' hS; (try dsimp only at hS); go_simp; try with_reducible rfl)); (try simp only [Act.put, List.setIfInBounds_toArray, List.set_cons_zero, List.set_cons_succ, List.getElem_toArray, List.getElem_cons_zero, List.getElem_cons_succ]))
    refine wpSch_do rfl (by rfl) (fun K hK => ?_)
    go_simp
    refine NXD.out.mono ?_
    rintro e w3 ⟨rfl, rfl⟩
    refine hK _ _ ⟨c0, c3⟩ (fun hS => ?_)
    clear hK K hS
    (try simp only [Act.put, List.setIfInBounds_toArray, List.set_cons_zero, List.set_cons_succ, List.getElem_toArray, List.getElem_cons_zero, List.getElem_cons_succ])
    refine wpSch_do rfl (by rfl) (fun K hK => ?_)
    go_simp
    refine NL1.out.mono ?_
    rintro e w4 ⟨rfl, hI⟩
    have k4 := KEEP.out w4 hI.1
    refine hK _ _ ⟨k4.blk.c0, k4.blk.c3⟩ (fun hS => ?_)
    have HI := hide (ERR.out w4 A2 hI)
    clear hK K hS hI k4 NL1 ERR KEEP
    (try simp only [Act.put, List.setIfInBounds_toArray, List.set_cons_zero, List.set_cons_succ, List.getElem_toArray, List.getElem_cons_zero, List.getElem_cons_succ])
    iterate 4 (refine wpSch_take (v := ?_) rfl (by rfl) ?_ ?_; rotate_left; (· (intro w' hS; (try dsimp only at hS); go_simp; try with_reducible rfl)); (try simp only [Act.put, List.setIfInBounds_toArray, List.set_cons_zero, List.set_cons_succ, List.getElem_toArray, List.getElem_cons_zero, List.getElem_cons_succ]))
    refine wpSch_end ?_
    simp only [List.drop_succ_cons, List.drop_zero]
    go_wp2
    go_ret
    exact ⟨rfl, HI.out⟩
  case pos =>
    have hR1 : R = (0, ⟨J.logs ++ [L], L, J.puts, some (L, s1)⟩, A.2.2) := by rw [HB.out, if_neg (by simpa using hc), if_neg (by simpa using ha)]
    subst hR1
    have NL1 : Hid (Calls Tryz.prog 236 #[.pointer (some ⟨b, 0, none⟩), .int .i64 L, .int .i64 J.puts] w.drew fun e w' => ∃ lb, e = .returned (.tuple #[.pointer (some ⟨lb, 0, none⟩), .int .i64 0]) ∧ w.drew.heap.size ≤ lb ∧ FlBlk w' lb 237 (.pointer (some ⟨b, 0, none⟩)) ⟨nm.toArray⟩ s1 ∧ Chg Ft w.drew w' ∧ ∃ Ft', DkAt w' b A.2.2 Ft' ∧ (∀ k, Ft' k → k < w'.heap.size) ∧ (∀ k, Ft' k → Ft k ∨ w.drew.heap.size ≤ k) ∧ ¬ Ft' lb) := by
      refine NLD.out.mono ?_
      rintro e w' (⟨h1, _⟩ | ⟨_, h1, _⟩ | ⟨_, _, h2⟩)
      · exact absurd hc h1
      · exact absurd ha h1
      · exact h2
    obtain ⟨A0, A1, A2⟩ := A
    dsimp only at NL1 ⊢
    clear NLD HB ERR
    go_enter Tryz.func190, Tryz.ntmps190
    go_wp2
    refine wp_region_sch (fun w' => w'.cell? ⟨jb, 0, none⟩ = some (.pointer (some ⟨b, 0, none⟩)) ∧ w'.cell? ⟨jb, 3, none⟩ = some (.int .i64 J.puts)) 15
      [(0, true), (1, true), (2, true), (3, true), (4, true), (6, true), (7, true), (8, true), (9, true), (5, false), (10, false), (11, true), (12, true), (13, true), (14, true)] (by kernel_rfl) (by kernel_rfl) (fun _ _ _ _ _ h => h) ⟨c0, c3⟩ ?_
    iterate 9 (refine wpSch_take (v := ?_) rfl (by rfl) ?_ ?_; rotate_left; (· (intro w' hS; (try dsimp only at hS); go_simp; try with_reducible rfl)); (try simp only [Act.put, List.setIfInBounds_toArray, List.set_cons_zero, List.set_cons_succ, List.getElem_toArray, List.getElem_cons_zero, List.getElem_cons_succ]))
    refine wpSch_do rfl (by rfl) (fun K hK => ?_)
    go_simp
    refine NXD.out.mono ?_
    rintro e w3 ⟨rfl, rfl⟩
    refine hK _ _ ⟨c0, c3⟩ (fun hS => ?_)
    clear hK K hS
    (try simp only [Act.put, List.setIfInBounds_toArray, List.set_cons_zero, List.set_cons_succ, List.getElem_toArray, List.getElem_cons_zero, List.getElem_cons_succ])
    refine wpSch_do rfl (by rfl) (fun K hK => ?_)
    go_simp
    refine NL1.out.mono ?_
    rintro e w4 ⟨lb, rfl, hlb, hfl, hc4, Ft4, q1, q2, q3, q4⟩
    have k4 := KEEP.out w4 hc4
    refine hK _ _ ⟨k4.blk.c0, k4.blk.c3⟩ (fun hS => ?_)
    have K4 := hide k4
    have HLB : Hid (w.heap.size ≤ lb) := hlb
    have HFL := hide hfl
    have C4 : Hid (Chg Ft w w4) := (Chg.refl Ft w).drew.trans hc4 fun _ h _ => h
    have Q1 := hide q1
    have Q2 := hide q2
    have Q3 : Hid (∀ k, Ft4 k → Ft k ∨ w.heap.size ≤ k) := q3
    have Q4 := hide q4
    clear hK K hS hc4 hlb hfl q1 q2 q3 q4 NL1 KEEP
    (try simp only [Act.put, List.setIfInBounds_toArray, List.set_cons_zero, List.set_cons_succ, List.getElem_toArray, List.getElem_cons_zero, List.getElem_cons_succ])
    iterate 4 (refine wpSch_take (v := ?_) rfl (by rfl) ?_ ?_; rotate_left; (· (intro w' hS; (try dsimp only at hS); go_simp; try with_reducible rfl)); (try simp only [Act.put, List.setIfInBounds_toArray, List.set_cons_zero, List.set_cons_succ, List.getElem_toArray, List.getElem_cons_zero, List.getElem_cons_succ]))
    refine wpSch_end ?_
    simp only [List.drop_succ_cons, List.drop_zero]
    -- the own log's place, the last number
    have b5 := K4.out.blk.s4 (.pointer (some ⟨lb, 0, none⟩))
    have g44 := k4.blk.c4
    have f44 := k4.blk.fz 4
    have g52 := b5.c2
    have f52 := b5.fz 2
    have B6 := hide (b5.s2 L)
    have ew : wrap64 (J.last + 1) = L := by have := HLLE.out; have := hr.1; have := hr.2; unfold wrap64; omega
    have ew2 : IntKind.i64.wrap (J.last + 1) = L := by have := HLLE.out; have := hr.1; have := hr.2; simp [IntKind.wrap, IntKind.bits, IntKind.signed]; omega
    have c5 : Chg (One jb) w4 ((w4.setCell ⟨jb, 4, none⟩ (.pointer (some ⟨lb, 0, none⟩))).setCell ⟨jb, 2, none⟩ (.int .i64 L)) := ((Chg.refl (One jb) w4).setAt (b := jb) rfl 4 _).setAt (b := jb) rfl 2 _
    have C5 := hide c5
    clear b5 k4 c5
    have HNE : Hid (lb ≠ jb) := HFL.out.neJn K4.out.blk
    have HNL : Hid (∀ g, lv.ownBlock = some g → g ≠ jb ∧ g ≠ lb) := fun g hg => ⟨K4.out.ne hg, HFL.out.neInt K4.out.logs hg⟩
    go_wp2
    generalize (w4.setCell ⟨jb, 4, none⟩ (.pointer (some ⟨lb, 0, none⟩))).setCell ⟨jb, 2, none⟩ (.int .i64 L) = w6 at B6 C5 ⊢
    have LG6 : Hid (w6.ownsRow 0 3 1 lv J.logs.length (intVals J.logs)) := ownsRow_same K4.out.logs fun g hg => C5.out.block g (ownsRow_lt K4.out.logs hg) (HNL.out g hg).1
    have FL6 := hide (HFL.out.keep C5.out HNE.out)
    have D1 := B6.out.drew.c1
    have D2 := B6.out.drew.c2
    obtain ⟨ap, cp, rfl, hcap1, hcap2, -⟩ := ownsRow_form LG6.out
    unfold maxLen at hcap2
    refine wp_region_sch (fun w' => w'.cell? ⟨jb, 1, none⟩ = some (.slice ap J.logs.length cp) ∧ w'.cell? ⟨jb, 2, none⟩ = some (.int .i64 L)) 11
      [(0, true), (1, true), (2, true), (3, true), (4, true), (5, true), (6, true), (7, true), (8, true), (9, false), (10, false)] (by kernel_rfl) (by kernel_rfl) (fun _ _ _ _ _ h => h) ⟨D1, D2⟩ ?_
    iterate 9 (refine wpSch_take (v := ?_) rfl (by rfl) ?_ ?_; rotate_left; (· (intro w' hS; (try dsimp only at hS); go_simp; try with_reducible rfl)); (try simp only [Act.put, List.setIfInBounds_toArray, List.set_cons_zero, List.set_cons_succ, List.getElem_toArray, List.getElem_cons_zero, List.getElem_cons_succ]))
    refine wpSch_do rfl (by rfl) (fun K hK => ?_)
    go_simp
    have ka : Chg (fun _ => False) w6 (w6.alloc (.cells #[.int .i64 L] 3)).drew := ((Chg.refl _ _).alloc _).drew
    have B7 := B6.out.keep ka (fun h => h)
    have LG7 : Hid ((w6.alloc (.cells #[.int .i64 L] 3)).drew.ownsRow 0 3 1 (.slice ap J.logs.length cp) J.logs.length (intVals J.logs)) := ownsRow_same LG6.out fun g hg => ka.block g (ownsRow_lt LG6.out hg) (fun h => h)
    have HSRC : Hid (Src Tryz.prog 1 26 (.slice (some ⟨w6.heap.size, 0, none⟩) 1 1) 1 #[.int .i64 L].toList (w6.alloc (.cells #[.int .i64 L] 3)).drew) := by
      have hb : (w6.alloc (.cells #[.int .i64 L] 3)).drew.heap[w6.heap.size]? = some (.cells #[.int .i64 L] 3 (0, 0)) := heap_alloc_new w6 _
      exact Src.ofBlock Tryz.underlying26 hb 1 1 rfl (intVals_oneCell [L])
    refine hK _ _ ⟨B7.c1, B7.c2⟩ (fun hS => ?_)
    clear hK K hS
    (try simp only [Act.put, List.setIfInBounds_toArray, List.set_cons_zero, List.set_cons_succ, List.getElem_toArray, List.getElem_cons_zero, List.getElem_cons_succ])
    refine wpSch_do rfl (by rfl) (fun K hK => ?_)
    refine wp_app (.tmp 37) (.tmp 42) 26 26 rfl 3 i0 _ 1 8 Tryz.underlying26 hi hz0 hz1 hz2 rfl (by decide) (.slice ap J.logs.length cp) J.logs.length (intVals J.logs) (by rfl) LG7.out _ 1 _ (by rfl) HSRC.out (by have := HLEN.out; omega) ?_
    intro a8 cap8 w8 hA
    have hA2 := hA.chg (S := fun k => (Value.slice ap J.logs.length cp).ownBlock = some k) fun _ h => h
    have B8 := B7.keep hA2 (fun h => (HNL.out _ h).1 rfl)
    refine hK _ _ ⟨B8.c1, B8.c2⟩ (fun hS => ?_)
    have g81 := B8.c1
    have f81 := B8.fz 1
    have B9 := hide (B8.s1 (.slice a8 (J.logs.length + 1) cap8))
    have FL8 := hide ((FL6.out.keep ka (fun h => h)).keep hA2 (fun h => (HNL.out _ h).2 rfl))
    have HOWN := hide hA.own
    have HAT := hide hA.at_
    have K8 : Hid (Chg (fun k => (Value.slice ap J.logs.length cp).ownBlock = some k) w6 w8) := (ka.mono fun _ _ h => h.elim).trans hA2 fun _ h _ => h
    have S8 : Hid (w6.heap.size ≤ w8.heap.size ∧ w6.heap.size ≤ (w6.alloc (.cells #[.int .i64 L] 3)).drew.heap.size) := ⟨K8.out.size, ka.size⟩
    clear hK K hS hA hA2 ka B7 B8 LG7 HSRC
    (try simp only [Act.put, List.setIfInBounds_toArray, List.set_cons_zero, List.set_cons_succ, List.getElem_toArray, List.getElem_cons_zero, List.getElem_cons_succ])
    refine wpSch_end ?_
    simp only [List.drop_succ_cons, List.drop_zero]
    go_wp2
    go_ret
    have hown8 : ∀ g, (Value.slice a8 (J.logs.length + 1) cap8).ownBlock = some g → (Value.slice ap J.logs.length cp).ownBlock = some g ∨ w6.heap.size ≤ g := fun g hg => by
      rcases HAT.out with h | h
      · rw [h] at hg; exact .inl hg
      · rw [h] at hg; cases hg; exact .inr S8.out.2
    have s46 := C5.out.size
    have s04 := C4.out.size
    have jbl := HJ.out.blk.lt
    have hne8 : ∀ g, (Value.slice a8 (J.logs.length + 1) cap8).ownBlock = some g → g ≠ jb := fun g hg => by
      rcases hown8 g hg with h | h
      · exact (HNL.out g h).1
      · omega
    have kf : Chg (One jb) w8 (w8.setCell ⟨jb, 1, none⟩ (.slice a8 (J.logs.length + 1) cap8)) := (Chg.refl (One jb) w8).setAt (b := jb) rfl 1 _
    have k48 : Chg (fun k => k = jb ∨ (Value.slice ap J.logs.length cp).ownBlock = some k) w4 (w8.setCell ⟨jb, 1, none⟩ (.slice a8 (J.logs.length + 1) cap8)) :=
      ((C5.out.mono fun _ _ h => .inl h).trans K8.out fun _ h _ => .inr h).trans kf fun _ h _ => .inl h
    refine ⟨rfl, Into.jd (lv := .slice a8 (J.logs.length + 1) cap8) (ov := .pointer (some ⟨lb, 0, none⟩)) (Ft := Ft4) ((C4.out.mono (S' := fun k => Ft k ∨ k = jb ∨ (Value.slice ap J.logs.length cp).ownBlock = some k) fun _ _ h => .inl h).trans k48 fun _ h _ => .inr h) ?_ ⟨B9.out, ?_, .inr ⟨L, s1, lb, rfl, rfl, ?_, hs1⟩⟩ ?_ ?_ ?_ ?_ ?_⟩
    · rintro k _ (h | rfl | h)
      · exact HS.out k (.inl h)
      · exact HS.out _ (.inr (.inl rfl))
      · exact HS.out k (.inr (.inr (.inl h)))
    · have e : (J.logs ++ [L]).length = J.logs.length + 1 := by simp
      unfold InSl
      rw [intVals_append, e]
      exact ownsRow_same HOWN.out fun g hg => Below.heap_setCell _ _ _ _ (fun e => hne8 g hg e)
    · rw [HNM.out]
      exact FL8.out.keep kf HNE.out
    · refine RepU.frame Q1.out (k48.same Q2.out fun k hk hx => ?_)
      rcases Q3.out k hk with h | h
      · rcases hx with rfl | hx
        · exact HD.out _ (.inl rfl) h
        · exact HD.out k (.inr (.inl hx)) h
      · rcases hx with rfl | hx
        · omega
        · have := ownsRow_lt HJ.out.logs hx; omega
    · exact fun k hk => Nat.lt_of_lt_of_le (Q2.out k hk) k48.size
    · rintro k (rfl | hk | hk) hx
      · rcases Q3.out _ hx with h | h
        · exact HD.out _ (.inl rfl) h
        · omega
      · rcases hown8 k hk with h | h
        · rcases Q3.out k hx with h' | h'
          · exact HD.out k (.inr (.inl h)) h'
          · have := ownsRow_lt HJ.out.logs h; omega
        · have := Q2.out k hx; omega
      · cases hk; exact Q4.out hx
    · exact fun k hk => (Q3.out k hk).imp (fun h => HS.out k (.inl h)) id
    · rintro k (rfl | hk | hk)
      · exact .inl (HS.out _ (.inr (.inl rfl)))
      · rcases hown8 k hk with h | h
        · exact .inl (HS.out k (.inr (.inr (.inl h))))
        · exact .inr (by omega)
      · cases hk; exact .inr HLB.out
end
end Go.Proofs.YtodcnkbblippnaaGreatDoor
/- Walks: a Put is added to a journal: Add. -/
namespace Go.Proofs.YtodcnkbblippnaaGreatDoor
open Go.RowKit
attribute [local go_sem ↓] NoP_normal

theorem jn_cases {w : World} {jb b : Nat} {lv ov : Value} {J : Jn} (h : JnV w jb b lv ov J) {n : Int} {s : Nat} (ho : J.own = some (n, s)) : ∃ lb, ov = .pointer (some ⟨lb, 0, none⟩) ∧ FlBlk w lb 237 (.pointer (some ⟨b, 0, none⟩)) ⟨(nmLog n).toArray⟩ s ∧ s < 4294967296 := by
  rcases h.own with ⟨h1, _⟩ | ⟨n', s', lb, h1, h2, h3, h4⟩
  · rw [ho] at h1; cases h1
  · rw [ho] at h1; cases h1; exact ⟨lb, h2, h3, h4⟩
section
variable {w w' w1 w2 : World} {b B jb lb pb : Nat} {P : PD} {Ft FT : Nat → Prop} {a c m : Nat} {lv ov : Value} {J : Jn} {n : Int} {s : Nat}
/-- The own log was turned. -/
theorem JnV.ownTo {P' : PD} (hJ : JnV w jb b lv (.pointer (some ⟨lb, 0, none⟩)) J) (ho : J.own = some (n, s)) (_hlt : ∀ k, Ft k → k < w.heap.size) (hdis : ∀ k, JnFt jb lv (.pointer (some ⟨lb, 0, none⟩)) k → ¬ Ft k) (hsub : ∀ k, Ft k ∨ JnFt jb lv (.pointer (some ⟨lb, 0, none⟩)) k → FT k) {s' : Nat} (hs' : s' < 4294967296)
    (hf : FlBlk w' lb 237 (.pointer (some ⟨b, 0, none⟩)) ⟨(nmLog n).toArray⟩ s') (hI : IntoF w Ft lb w' b P') :
    Into w FT w' (fun w' FT' => JD w' jb b { J with own := some (n, s') } P' FT') := by
  obtain ⟨lb', e, h3, _⟩ := jn_cases hJ ho
  cases e
  obtain ⟨r1, Ft', r2, r3, r4⟩ := hI
  have n1 : lb ≠ jb := h3.neJn hJ.blk
  have n2 : ∀ g, lv.ownBlock = some g → g ≠ lb := fun g hg => h3.neInt hJ.logs hg
  refine Into.jd r1 ?_ ⟨hJ.blk.keep r1 ?_, ?_, .inr ⟨n, s', lb, rfl, rfl, hf, hs'⟩⟩ r2 r3 ?_ ?_ ?_
  · rintro k _ (h | rfl)
    · exact hsub k (.inl h)
    · exact hsub _ (.inr (.inr (.inr rfl)))
  · rintro (h | h)
    · exact hdis _ (.inl rfl) h
    · exact n1 h.symm
  · exact ownsRow_same hJ.logs fun g hg => r1.block g (ownsRow_lt hJ.logs hg) fun h => by
      rcases h with h | h
      · exact hdis g (.inr (.inl hg)) h
      · exact n2 g hg h
  · exact fun k hk hx => by
      rcases r4 k hx with h | h
      · exact hdis k hk h
      · have := hJ.lt hk; omega
  · exact fun k hk => (r4 k hk).imp (fun h => hsub k (.inl h)) id
  · exact fun k hk => .inl (hsub k (.inr hk))
set_option maxRecDepth 100000 in
set_option maxHeartbeats 8000000 in
theorem jadd_any (w : World) (p : Pu) (h : JD w jb b J P FT) (hp : PuOk p) (hn : J.own = none → NumOk (J.last + 1) ∧ In64 (J.last + 1) ∧ In64 J.puts) (hll : J.logs.length ≤ 1073741824) (hL : Lets B w) (hF : Fit P a c m) (hl : Lim (a + 1) (c + 1) (m + 33)) :
    Calls Tryz.prog 148 #[.pointer (some ⟨jb, 0, none⟩), puAgg p] w fun e w' => e = .returned (.tuple #[.bool (J.add P p).1, .int .i64 (J.add P p).2.1]) ∧ Into w FT w' (fun w' FT' => JD w' jb b (J.add P p).2.2.1 (J.add P p).2.2.2 FT') := by
  obtain ⟨p1, p2, p3⟩ := p
  unfold puAgg
  dsimp only
  obtain ⟨lv0, ov0, Ft0, hJ0, hD0, hlt0, hdis0, hsub0⟩ := h
  have hl1 : Lim (a + 1) (c + 1) (m + 12) := ⟨hl.a, hl.c, by have := hl.m; omega⟩
  -- the Put's block
  have pbk : PuBlk (w.alloc (.cells #[.int .i64 p1, .int .i64 p2, .int .i64 p3] 113)) w.heap.size p1 p2 p3 := heap_alloc_new w _
  have k0 : Chg (fun _ => False) w (w.alloc (.cells #[.int .i64 p1, .int .i64 p2, .int .i64 p3] 113)) := (Chg.refl _ w).alloc _
  have sz : w.heap.size < (w.alloc (.cells #[.int .i64 p1, .int .i64 p2, .int .i64 p3] 113)).heap.size := by simp
  have hex : JD w jb b J P (fun k => Ft0 k ∨ JnFt jb lv0 ov0 k) := ⟨lv0, ov0, Ft0, hJ0, hD0, hlt0, hdis0, fun _ h => h⟩
  have hlx : ∀ k, (Ft0 k ∨ JnFt jb lv0 ov0 k) → k < w.heap.size := fun k hk => hk.elim (hlt0 k) fun h => hJ0.lt h
  have h1 : JD (w.alloc (.cells #[.int .i64 p1, .int .i64 p2, .int .i64 p3] 113)) jb b J P (fun k => Ft0 k ∨ JnFt jb lv0 ov0 k) := hex.frame (k0.same hlx fun _ _ h => h) k0.size
  have hL1 := hL.keep0 k0
  -- what is added
  have AD : Hid (∀ (w1 : World) (J1 : Jn) (P1 : PD) (FT1 : Nat → Prop) (n : Int) (s : Nat), Chg (fun k => Ft0 k ∨ JnFt jb lv0 ov0 k) (w.alloc (.cells #[.int .i64 p1, .int .i64 p2, .int .i64 p3] 113)) w1 → (∀ k, FT1 k → (Ft0 k ∨ JnFt jb lv0 ov0 k) ∨ (w.alloc (.cells #[.int .i64 p1, .int .i64 p2, .int .i64 p3] 113)).heap.size ≤ k) → JD w1 jb b J1 P1 FT1 → J1.own = some (n, s) → Fit P1 (a + 1) (c + 1) (m + 12) →
      ∃ lb, w1.cell? ⟨jb, 4, none⟩ = some (.pointer (some ⟨lb, 0, none⟩)) ∧ PuBlk w1 w.heap.size p1 p2 p3 ∧ Calls Tryz.prog 191 #[.pointer (some ⟨lb, 0, none⟩), .agg #[.int .i64 p1, .int .i64 p2, .int .i64 p3]] w1.drew fun e w' => e = .returned (.tuple #[.bool (J1.put P1 (p1, p2, p3)).1, .int .i64 (J1.put P1 (p1, p2, p3)).2.1]) ∧
        w'.cell? ⟨jb, 4, none⟩ = some (.pointer (some ⟨lb, 0, none⟩)) ∧ PuBlk w' w.heap.size p1 p2 p3 ∧ Into w FT w' (fun w' FT' => JD w' jb b (J1.put P1 (p1, p2, p3)).2.2.1 (J1.put P1 (p1, p2, p3)).2.2.2 FT')) := fun w1 J1 P1 FT1 n s hc1 hs1 hd1 ho1 hF1 => by
    obtain ⟨lv, ov, Ft, hJ, hD, hlt, hdis, hsub⟩ := hd1
    obtain ⟨lb, rfl, h3, h4⟩ := jn_cases hJ ho1
    have hpb1 := pbk.keep hc1 (fun hx => by have := hlx _ hx; omega)
    have hnp : ¬ FT1 w.heap.size := fun hx => by
      rcases hs1 _ hx with h | h
      · have := hlx _ h; omega
      · omega
    have kd : Chg (fun _ => False) w1 w1.drew := (Chg.refl _ w1).drew
    have hJd := hJ.chg0 kd
    have hltd : ∀ k, Ft k → k < w1.drew.heap.size := hlt
    refine ⟨lb, hJ.blk.c4, hpb1, (addLogD (p1, p2, p3) _ s (h3.keep kd (fun h => h)) h4 (RepU.same hD hlt kd) hltd (fun hx => hdis _ (.inr (.inr rfl)) hx) hp hF1 ⟨hl.a, hl.c, by have := hl.m; omega⟩).mono ?_⟩
    rintro e w' ⟨rfl, hf, hI⟩
    have he : J1.put P1 (p1, p2, p3) = ((P1.add (nmB (nmLog n)) s (putB p1 p2 p3)).1, (P1.add (nmB (nmLog n)) s (putB p1 p2 p3)).2.1, { J1 with own := some (n, sumOn s (putB p1 p2 p3)) }, (P1.add (nmB (nmLog n)) s (putB p1 p2 p3)).2.2) := by unfold Jn.put; rw [ho1]
    rw [he]
    have hjd := JnV.ownTo hJd ho1 hltd hdis hsub (sumOn_lt s (putB p1 p2 p3) h4) hf hI
    have c4' : JnBlk w' jb b lv J1.last J1.puts (.pointer (some ⟨lb, 0, none⟩)) := hJd.blk.keep hI.1 (by
      rintro (h | h)
      · exact hdis _ (.inl rfl) h
      · exact h3.neJn hJ.blk h.symm)
    refine ⟨rfl, c4'.c4, hpb1.drew.keep hI.1 (by
      rintro (h | h)
      · exact hnp (hsub _ (.inl h))
      · exact hnp (hsub _ (.inr (.inr (.inr (by rw [h])))))), ?_⟩
    have hall : Into (w.alloc (.cells #[.int .i64 p1, .int .i64 p2, .int .i64 p3] 113)) (fun k => Ft0 k ∨ JnFt jb lv0 ov0 k) w' (fun w' FT' => JD w' jb b { J1 with own := some (n, sumOn s (putB p1 p2 p3)) } (P1.add (nmB (nmLog n)) s (putB p1 p2 p3)).2.2 FT') := by
      obtain ⟨q1, Ft', q2, q3, q4⟩ := hjd.before kd
      exact ⟨hc1.trans q1 fun x hx hlt => (hs1 x hx).resolve_right (by omega), Ft', q2, q3, fun k hk => (q4 k hk).elim (fun h => hs1 k h) fun h => .inr (Nat.le_trans hc1.size h)⟩
    exact (hall.before k0).wide hsub0
  by_cases ho : J.own = none
  case pos =>
    have hov : ov0 = .pointer none := by
      rcases hJ0.own with ⟨_, h⟩ | ⟨n, s, lb, h, _⟩
      · exact h
      · rw [ho] at h; cases h
    obtain ⟨n1, n2, n3⟩ := hn ho
    have BG := hide (begin_any _ h1 ho n1 n2 n3 hll hL1 hF hl1)
    have c4 := (hJ0.chg0 k0).blk.c4
    rw [hov] at c4
    have HE : Hid (J.add P (p1, p2, p3) = if (J.begin P).1 ≠ 0 then (false, (J.begin P).1, (J.begin P).2.1, (J.begin P).2.2) else (J.begin P).2.1.put (J.begin P).2.2 (p1, p2, p3)) := by unfold Hid Jn.add; rw [if_pos ho]
    have HF2 : Hid (Fit (J.begin P).2.2 (a + 1) (c + 1) (m + 12)) := by
      have hp : (pieceB (sum0 (nmLog (J.last + 1))) (intB J.puts)).length = 12 := by simp [pieceB, sumB_length, intB_length]
      have hFc := hF.create (nmB (nmLog (J.last + 1)))
      have hFa := hFc.append (nmB (nmLog (J.last + 1))) (pieceB (sum0 (nmLog (J.last + 1))) (intB J.puts))
      rw [hp] at hFa
      unfold Hid Jn.begin
      split
      · exact hFc.mono (Nat.le_refl _) (Nat.le_refl _) (by omega)
      · dsimp only
        split
        · exact hFa
        · exact hFa
    have HO : Hid ((J.begin P).1 = 0 → ∃ n s, (J.begin P).2.1.own = some (n, s)) := fun h0 => by
      unfold Jn.begin at h0 ⊢
      split
      · rename_i hc; rw [if_pos hc] at h0; exact absurd h0 hc
      · rename_i hc
        rw [if_neg hc] at h0
        dsimp only at h0 ⊢
        split
        · rename_i hd; rw [if_pos hd] at h0; exact absurd h0 hd
        · exact ⟨_, _, rfl⟩
    have HEX : Hid (∀ wx JJ PP, Into (w.alloc (.cells #[.int .i64 p1, .int .i64 p2, .int .i64 p3] 113)) (fun k => Ft0 k ∨ JnFt jb lv0 ov0 k) wx (fun w' FT' => JD w' jb b JJ PP FT') → Into w FT wx (fun w' FT' => JD w' jb b JJ PP FT')) := fun wx JJ PP hx => (hx.before k0).wide hsub0
    obtain ⟨R, hR⟩ : ∃ R, J.add P (p1, p2, p3) = R := ⟨_, rfl⟩
    rw [hR] at HE ⊢
    obtain ⟨G, hG⟩ : ∃ G, J.begin P = G := ⟨_, rfl⟩
    rw [hG] at BG HE HF2 HO
    obtain ⟨G1, G2, G3⟩ := G
    dsimp only at BG HE HF2 HO
    clear hR hG hJ0 hD0 hlt0 hdis0 hsub0 hex h1 hL1 hF hl hl1 hp hn hll hL ho pbk k0 sz hlx n1 n2 n3
    by_cases hg : G1 = 0
    case neg =>
      have hR1 : R = (false, G1, G2, G3) := by rw [HE.out, if_pos hg]
      subst hR1
      have hgb : (G1 != 0) = true := by simpa using hg
      go_enter Tryz.func148, Tryz.ntmps148
      go_wp2_with (go_at_call 190; refine BG.out.mono ?_; rintro e w2 ⟨rfl, hI⟩; have HI := hide (HEX.out _ _ _ hI); clear hI)
      go_ret2
      exact ⟨rfl, HI.out⟩
    case pos =>
      subst hg
      have hR1 : R = G2.put G3 (p1, p2, p3) := by rw [HE.out, if_neg (by simp)]
      obtain ⟨n, s, hos⟩ := HO.out rfl
      have AD2 : Hid (∀ w2, Into (w.alloc (.cells #[.int .i64 p1, .int .i64 p2, .int .i64 p3] 113)) (fun k => Ft0 k ∨ JnFt jb lv0 ov0 k) w2 (fun w' FT' => JD w' jb b G2 G3 FT') → ∃ lb, w2.cell? ⟨jb, 4, none⟩ = some (.pointer (some ⟨lb, 0, none⟩)) ∧ PuBlk w2 w.heap.size p1 p2 p3 ∧ Calls Tryz.prog 191 #[.pointer (some ⟨lb, 0, none⟩), .agg #[.int .i64 p1, .int .i64 p2, .int .i64 p3]] w2.drew fun e w' => e = .returned (.tuple #[.bool R.1, .int .i64 R.2.1]) ∧
        w'.cell? ⟨jb, 4, none⟩ = some (.pointer (some ⟨lb, 0, none⟩)) ∧ PuBlk w' w.heap.size p1 p2 p3 ∧ Into w FT w' (fun w' FT' => JD w' jb b R.2.2.1 R.2.2.2 FT')) := fun w2 hI => by
        obtain ⟨q1, FT1, q2, q3, q4⟩ := hI
        rw [hR1]
        exact AD.out w2 G2 G3 FT1 n s q1 q4 q2 hos HF2.out
      clear hR1 hos HE HF2 HO HEX AD
      obtain ⟨R0, R1, R2, R3⟩ := R
      dsimp only at AD2
      go_enter Tryz.func148, Tryz.ntmps148
      go_wp2_with (fail)
      refine BG.out.mono ?_
      rintro e w2 ⟨rfl, hI⟩
      obtain ⟨lb, c24, pb2, AL⟩ := AD2.out w2 hI
      have HAL := hide AL
      have d4 : w2.drew.cell? ⟨jb, 4, none⟩ = some (.pointer (some ⟨lb, 0, none⟩)) := c24
      have d0 := pb2.drew.c0
      have d1 := pb2.drew.c1
      have d2 := pb2.drew.c2
      clear hI AL AD2 BG c4 c24 pb2
      go_wp2
      refine wp_region_sch (fun w' => w'.cell? ⟨jb, 4, none⟩ = some (.pointer (some ⟨lb, 0, none⟩)) ∧ w'.cell? ⟨w.heap.size, 0, none⟩ = some (.int .i64 p1) ∧ w'.cell? ⟨w.heap.size, 1, none⟩ = some (.int .i64 p2) ∧ w'.cell? ⟨w.heap.size, 2, none⟩ = some (.int .i64 p3)) 8
        [(0, true), (1, true), (2, true), (3, true), (4, true), (5, false), (6, true), (7, true)] (by kernel_rfl) (by kernel_rfl) (fun _ _ _ _ _ h => h) ⟨d4, d0, d1, d2⟩ ?_
      iterate 5 (refine wpSch_take (v := ?_) rfl (by rfl) ?_ ?_; rotate_left; (· (intro w' hS; (try dsimp only at hS); go_simp; try with_reducible rfl)); (try simp only [Act.put, List.setIfInBounds_toArray, List.set_cons_zero, List.set_cons_succ, List.getElem_toArray, List.getElem_cons_zero, List.getElem_cons_succ]))
      refine wpSch_do rfl (by rfl) (fun K hK => ?_)
      go_simp
      refine HAL.out.mono ?_
      rintro e w3 ⟨rfl, e4, eb, hI⟩
      refine hK _ _ ⟨e4, eb.c0, eb.c1, eb.c2⟩ (fun hS => ?_)
      have HI := hide hI
      clear hK K hS hI e4 eb HAL
      (try simp only [Act.put, List.setIfInBounds_toArray, List.set_cons_zero, List.set_cons_succ, List.getElem_toArray, List.getElem_cons_zero, List.getElem_cons_succ])
      iterate 2 (refine wpSch_take (v := ?_) rfl (by rfl) ?_ ?_; rotate_left; (· (intro w' hS; (try dsimp only at hS); go_simp; try with_reducible rfl)); (try simp only [Act.put, List.setIfInBounds_toArray, List.set_cons_zero, List.set_cons_succ, List.getElem_toArray, List.getElem_cons_zero, List.getElem_cons_succ]))
      refine wpSch_end ?_
      simp only [List.drop_succ_cons, List.drop_zero]
      go_wp2
      go_ret2
      exact ⟨rfl, HI.out⟩
  case neg =>
    obtain ⟨⟨n, s⟩, hos⟩ : ∃ x, J.own = some x := Option.ne_none_iff_exists'.1 ho
    obtain ⟨lb0, hov, -, -⟩ := jn_cases hJ0 hos
    have hR1 : J.add P (p1, p2, p3) = J.put P (p1, p2, p3) := by unfold Jn.add; rw [if_neg ho]
    obtain ⟨lb, c24, pb2, AL⟩ := AD.out _ J P _ n s (Chg.refl _ _) (fun k hk => .inl hk) h1 hos (hF.mono (by omega) (by omega) (by omega))
    rw [← hR1] at AL
    obtain ⟨R, hR⟩ : ∃ R, J.add P (p1, p2, p3) = R := ⟨_, rfl⟩
    rw [hR] at AL ⊢
    obtain ⟨R0, R1, R2, R3⟩ := R
    dsimp only at AL ⊢
    have HAL := hide AL
    have d4 : (w.alloc (.cells #[.int .i64 p1, .int .i64 p2, .int .i64 p3] 113)).drew.cell? ⟨jb, 4, none⟩ = some (.pointer (some ⟨lb, 0, none⟩)) := c24
    have d0 := pb2.drew.c0
    have d1 := pb2.drew.c1
    have d2 := pb2.drew.c2
    clear hR hR1 AL hJ0 hD0 hlt0 hdis0 hsub0 hex h1 hL1 hF hl hl1 hp hn hll hL ho pbk k0 sz hlx hos hov pb2 AD
    go_enter Tryz.func148, Tryz.ntmps148
    go_wp2
    refine wp_region_sch (fun w' => w'.cell? ⟨jb, 4, none⟩ = some (.pointer (some ⟨lb, 0, none⟩)) ∧ w'.cell? ⟨w.heap.size, 0, none⟩ = some (.int .i64 p1) ∧ w'.cell? ⟨w.heap.size, 1, none⟩ = some (.int .i64 p2) ∧ w'.cell? ⟨w.heap.size, 2, none⟩ = some (.int .i64 p3)) 8
      [(0, true), (1, true), (2, true), (3, true), (4, true), (5, false), (6, true), (7, true)] (by kernel_rfl) (by kernel_rfl) (fun _ _ _ _ _ h => h) ⟨d4, d0, d1, d2⟩ ?_
    iterate 5 (refine wpSch_take (v := ?_) rfl (by rfl) ?_ ?_; rotate_left; (· (intro w' hS; (try dsimp only at hS); go_simp; try with_reducible rfl)); (try simp only [Act.put, List.setIfInBounds_toArray, List.set_cons_zero, List.set_cons_succ, List.getElem_toArray, List.getElem_cons_zero, List.getElem_cons_succ]))
    refine wpSch_do rfl (by rfl) (fun K hK => ?_)
    go_simp
    refine HAL.out.mono ?_
    rintro e w3 ⟨rfl, e4, eb, hI⟩
    refine hK _ _ ⟨e4, eb.c0, eb.c1, eb.c2⟩ (fun hS => ?_)
    have HI := hide hI
    clear hK K hS hI e4 eb HAL
    (try simp only [Act.put, List.setIfInBounds_toArray, List.set_cons_zero, List.set_cons_succ, List.getElem_toArray, List.getElem_cons_zero, List.getElem_cons_succ])
    iterate 2 (refine wpSch_take (v := ?_) rfl (by rfl) ?_ ?_; rotate_left; (· (intro w' hS; (try dsimp only at hS); go_simp; try with_reducible rfl)); (try simp only [Act.put, List.setIfInBounds_toArray, List.set_cons_zero, List.set_cons_succ, List.getElem_toArray, List.getElem_cons_zero, List.getElem_cons_succ]))
    refine wpSch_end ?_
    simp only [List.drop_succ_cons, List.drop_zero]
    go_wp2
    go_ret2
    exact ⟨rfl, HI.out⟩
end
end Go.Proofs.YtodcnkbblippnaaGreatDoor
/- An archive in memory. No walk. -/
namespace Go.Proofs.YtodcnkbblippnaaGreatDoor
open Go.RowKit

/-- An archive's cells. -/
def ArBlk (w : World) (ab b xb jb : Nat) (last : Int) (ov : Value) : Prop := w.heap[ab]? = some (.cells #[.pointer (some ⟨b, 0, none⟩), .pointer (some ⟨xb, 0, none⟩), .pointer (some ⟨jb, 0, none⟩), .int .i64 last, ov] 150 (0, 0))
section
variable {w w' : World} {ab b xb jb : Nat} {last : Int} {ov : Value}
theorem ArBlk.c0 (h : ArBlk w ab b xb jb last ov) : w.cell? ⟨ab, 0, none⟩ = some (.pointer (some ⟨b, 0, none⟩)) := by unfold ArBlk at h; simp [World.cell?, h]
theorem ArBlk.c1 (h : ArBlk w ab b xb jb last ov) : w.cell? ⟨ab, 1, none⟩ = some (.pointer (some ⟨xb, 0, none⟩)) := by unfold ArBlk at h; simp [World.cell?, h]
theorem ArBlk.c2 (h : ArBlk w ab b xb jb last ov) : w.cell? ⟨ab, 2, none⟩ = some (.pointer (some ⟨jb, 0, none⟩)) := by unfold ArBlk at h; simp [World.cell?, h]
theorem ArBlk.c3 (h : ArBlk w ab b xb jb last ov) : w.cell? ⟨ab, 3, none⟩ = some (.int .i64 last) := by unfold ArBlk at h; simp [World.cell?, h]
theorem ArBlk.c4 (h : ArBlk w ab b xb jb last ov) : w.cell? ⟨ab, 4, none⟩ = some ov := by unfold ArBlk at h; simp [World.cell?, h]
theorem ArBlk.fz (h : ArBlk w ab b xb jb last ov) (o : Nat) : w.frozen? ⟨ab, o, none⟩ = false := by unfold ArBlk at h; simp [World.frozen?, h]
theorem ArBlk.lt (h : ArBlk w ab b xb jb last ov) : ab < w.heap.size := lt_of_block h
theorem ArBlk.s3 (h : ArBlk w ab b xb jb last ov) (x : Int) : ArBlk (w.setCell ⟨ab, 3, none⟩ (.int .i64 x)) ab b xb jb x ov := heap_setCell_at h
theorem ArBlk.s4 (h : ArBlk w ab b xb jb last ov) (x : Value) : ArBlk (w.setCell ⟨ab, 4, none⟩ x) ab b xb jb last x := heap_setCell_at h
theorem ArBlk.drew (h : ArBlk w ab b xb jb last ov) : ArBlk w.drew ab b xb jb last ov := by unfold ArBlk at h ⊢; exact h
theorem ArBlk.keep {S : Nat → Prop} (h : ArBlk w ab b xb jb last ov) (hc : Chg S w w') (hn : ¬ S ab) : ArBlk w' ab b xb jb last ov := hc.keep h hn
end
/-- The blocks that are not the disk's. -/
def ArFt (ab xb jb : Nat) (sv ov lv jo : Value) (k : Nat) : Prop := k = ab ∨ k = xb ∨ sv.ownBlock = some k ∨ ov.ownBlock = some k ∨ JnFt jb lv jo k
/-- An archive, its parts at known places. -/
structure ArV (w : World) (ab b xb jb : Nat) (sv ov lv jo : Value) (A : Ar) (P : PD) (Ft : Nat → Prop) : Prop where
  blk : ArBlk w ab b xb jb A.last ov
  ix : FnBlk w xb 162 b nmIdx (sum0 nmIdx) A.ix.first sv
  segs : RdI w sv A.ix.segs
  loose : RdS w ov A.loose
  jn : JnV w jb b lv jo A.j
  dk : DkAt w b P Ft
  lt : ∀ k, Ft k → k < w.heap.size
  sepD : ∀ k, ArFt ab xb jb sv ov lv jo k → ¬ Ft k
  sepS : ∀ g, sv.ownBlock = some g → g ≠ ab ∧ g ≠ xb ∧ ¬ JnFt jb lv jo g
  sepO : ∀ g, ov.ownBlock = some g → g ≠ ab ∧ g ≠ xb ∧ ¬ JnFt jb lv jo g
  sepJ : ∀ k, JnFt jb lv jo k → k ≠ ab ∧ k ≠ xb
/-- An archive and its disk, within a footprint. -/
def AD (w : World) (ab b : Nat) (A : Ar) (P : PD) (FT : Nat → Prop) : Prop :=
  ∃ xb jb sv ov lv jo Ft, ArV w ab b xb jb sv ov lv jo A P Ft ∧ ∀ k, Ft k ∨ ArFt ab xb jb sv ov lv jo k → FT k
section
variable {w w' : World} {ab b xb jb : Nat} {sv ov lv jo : Value} {A : Ar} {P P' : PD} {Ft FT : Nat → Prop}
theorem ArV.ltA (h : ArV w ab b xb jb sv ov lv jo A P Ft) {k : Nat} (hk : ArFt ab xb jb sv ov lv jo k) : k < w.heap.size := by
  rcases hk with rfl | rfl | hk | hk | hk
  · exact h.blk.lt
  · exact h.ix.lt
  · exact h.segs.lt hk
  · exact h.loose.lt hk
  · exact h.jn.lt hk
theorem ArV.ltF (h : ArV w ab b xb jb sv ov lv jo A P Ft) {k : Nat} (hk : Ft k ∨ ArFt ab xb jb sv ov lv jo k) : k < w.heap.size := hk.elim (h.lt k) h.ltA
theorem ArV.ne (h : ArV w ab b xb jb sv ov lv jo A P Ft) : ab ≠ xb := elem_ne h.blk h.ix (by decide)
theorem ArV.frame (h : ArV w ab b xb jb sv ov lv jo A P Ft) (hs : Same (fun k => Ft k ∨ ArFt ab xb jb sv ov lv jo k) w w') (hz : w.heap.size ≤ w'.heap.size) : ArV w' ab b xb jb sv ov lv jo A P Ft :=
  ⟨(hs ab (.inr (.inl rfl))).trans h.blk, (hs xb (.inr (.inr (.inl rfl)))).trans h.ix, h.segs.frame fun g hg => hs g (.inr (.inr (.inr (.inl hg)))), h.loose.frame fun g hg => hs g (.inr (.inr (.inr (.inr (.inl hg))))),
    h.jn.frame fun k hk => hs k (.inr (.inr (.inr (.inr (.inr hk))))), RepU.frame h.dk fun k hk => hs k (.inl hk), fun k hk => Nat.lt_of_lt_of_le (h.lt k hk) hz, h.sepD, h.sepS, h.sepO, h.sepJ⟩
theorem ArV.chg0 (h : ArV w ab b xb jb sv ov lv jo A P Ft) (hc : Chg (fun _ => False) w w') : ArV w' ab b xb jb sv ov lv jo A P Ft := h.frame (hc.same (fun _ hk => h.ltF hk) fun _ _ h => h) hc.size
/-- The disk was turned. -/
theorem ArV.disk (h : ArV w ab b xb jb sv ov lv jo A P Ft) (hI : Into w Ft w' (fun w' Ft' => DkAt w' b P' Ft')) : Into w Ft w' (fun w' Ft' => ArV w' ab b xb jb sv ov lv jo A P' Ft') := by
  obtain ⟨hc, Ft', h2, h3, h4⟩ := hI
  have hs : Same (ArFt ab xb jb sv ov lv jo) w w' := hc.same (fun _ hk => h.ltA hk) h.sepD
  exact ⟨hc, Ft', ⟨(hs ab (.inl rfl)).trans h.blk, (hs xb (.inr (.inl rfl))).trans h.ix, h.segs.frame fun g hg => hs g (.inr (.inr (.inl hg))), h.loose.frame fun g hg => hs g (.inr (.inr (.inr (.inl hg)))),
    h.jn.frame fun k hk => hs k (.inr (.inr (.inr (.inr hk)))), h2, h3, fun k hk hx => (h4 k hx).elim (h.sepD k hk) fun h' => by have := h.ltA hk; omega, h.sepS, h.sepO, h.sepJ⟩, h3, h4⟩
/-- The whole of it, behind a call. -/
theorem ArV.into {S : Nat → Prop} {xb' jb' : Nat} {sv' ov' lv' jo' : Value} {A' : Ar} {Ft' : Nat → Prop} (h' : ArV w' ab b xb' jb' sv' ov' lv' jo' A' P' Ft') (hc : Chg S w w') (hS : ∀ k, k < w.heap.size → S k → FT k) (h1 : ∀ k, Ft' k → FT k ∨ w.heap.size ≤ k) (h2 : ∀ k, ArFt ab xb' jb' sv' ov' lv' jo' k → FT k ∨ w.heap.size ≤ k) :
    Into w FT w' (fun w' FT' => AD w' ab b A' P' FT') :=
  ⟨hc.mono hS, fun k => Ft' k ∨ ArFt ab xb' jb' sv' ov' lv' jo' k, ⟨xb', jb', sv', ov', lv', jo', Ft', h', fun _ h => h⟩, fun _ hk => h'.ltF hk, fun k hk => hk.elim (h1 k) (h2 k)⟩
theorem ArV.diskInto (_h : ArV w ab b xb jb sv ov lv jo A P Ft) (hsub : ∀ k, Ft k ∨ ArFt ab xb jb sv ov lv jo k → FT k) (hI : Into w Ft w' (fun w' Ft' => ArV w' ab b xb jb sv ov lv jo A P' Ft')) : Into w FT w' (fun w' FT' => AD w' ab b A P' FT') := by
  obtain ⟨hc, Ft', h2, h3, h4⟩ := hI
  exact h2.into hc (fun k _ hk => hsub k (.inl hk)) (fun k hk => (h4 k hk).imp (fun h => hsub k (.inl h)) id) fun k hk => .inl (hsub k (.inr hk))
theorem AD.frame (h : AD w ab b A P FT) (hs : Same FT w w') (hz : w.heap.size ≤ w'.heap.size) : AD w' ab b A P FT := by
  obtain ⟨xb, jb, sv, ov, lv, jo, Ft, h1, h2⟩ := h
  exact ⟨xb, jb, sv, ov, lv, jo, Ft, h1.frame (hs.mono fun k hk => h2 k hk) hz, h2⟩
theorem AD.chg0 (h : AD w ab b A P FT) (hc : Chg (fun _ => False) w w') : AD w' ab b A P FT := by
  obtain ⟨xb, jb, sv, ov, lv, jo, Ft, h1, h2⟩ := h
  exact ⟨xb, jb, sv, ov, lv, jo, Ft, h1.chg0 hc, h2⟩
end
/-! ## Segments in memory -/
/-- A segment, in blocks from B0 on. -/
def SgAt (w : World) (B0 b gb : Nat) (x : Int × List Pu) : Prop := ∃ pv, FnBlk w gb 182 b (nmSeg x.1) (sum0 (nmSeg x.1)) x.1 pv ∧ PfSl w pv x.2 ∧ B0 ≤ gb ∧ ∀ g, pv.ownBlock = some g → B0 ≤ g
def sgVals (gbs : List Nat) : List Value := gbs.map fun g => .pointer (some ⟨g, 0, none⟩)
theorem sgVals_oneCell (gbs : List Nat) : ∀ u ∈ sgVals gbs, u.oneCell' = true := by
  intro u hu; simp [sgVals] at hu; obtain ⟨x, _, rfl⟩ := hu; rfl
/-- A row of them. -/
def SgSl (w : World) (B0 b : Nat) (v : Value) (l : List (Int × List Pu)) : Prop :=
  ∃ gbs : List Nat, gbs.length = l.length ∧ w.ownsRow 0 179 1 v l.length (sgVals gbs) ∧ (∀ g, v.ownBlock = some g → B0 ≤ g) ∧ ∀ k (h1 : k < gbs.length) (h2 : k < l.length), SgAt w B0 b (gbs[k]'h1) (l[k]'h2)
theorem SgAt.chg0 {w w' : World} {B0 b gb : Nat} {x : Int × List Pu} (h : SgAt w B0 b gb x) (hc : Chg (fun _ => False) w w') : SgAt w' B0 b gb x := by
  obtain ⟨pv, h1, h2, h3, h4⟩ := h
  exact ⟨pv, h1.keep hc (fun h => h), ownsRow_same h2 fun g hg => hc.block g (ownsRow_lt h2 hg) (fun h => h), h3, h4⟩
theorem SgSl.chg0 {w w' : World} {B0 b : Nat} {v : Value} {l : List (Int × List Pu)} (h : SgSl w B0 b v l) (hc : Chg (fun _ => False) w w') : SgSl w' B0 b v l := by
  obtain ⟨gbs, h1, h2, h3, h4⟩ := h
  exact ⟨gbs, h1, ownsRow_same h2 fun g hg => hc.block g (ownsRow_lt h2 hg) (fun h => h), h3, fun k q1 q2 => (h4 k q1 q2).chg0 hc⟩
theorem Tryz.infoSegP : (Tryz.prog.info? 179).map (fun i => (i.zero, i.size, i.bytes)) = some (some (.pointer none), 1, 8) := by kernel_rfl
theorem segPInfo : ∃ i0, Tryz.prog.info? 179 = some i0 ∧ i0.zero = some (.pointer none) ∧ i0.size = 1 ∧ i0.bytes = 8 := by
  have h := Tryz.infoSegP
  cases hx : Tryz.prog.info? 179 with
  | none => rw [hx] at h; cases h
  | some i => rw [hx] at h; simp at h; exact ⟨i, rfl, h.1, h.2.1, h.2.2⟩
end Go.Proofs.YtodcnkbblippnaaGreatDoor
