/-
  The statement PassingCardSaid is proved: the law Passing answers true, at every four numbers; there is no condition.
  Part 29 of 34.
-/
import Derived.Test.YtodcnkbblippnaaGreatDoorPart28
import Derived.Test.YtodcnkbblippnaaGreatDoorPart01
import Derived.Test.YtodcnkbblippnaaGreatDoorPart04
import Derived.Deep.RegionHeld3
import Derived.BigQuiet
import Derived.Deep.QuietTactic
import Derived.Test.YtodcnkbblippnaaGreatDoorPart10
/- Walks: the archive's Compact, whole. -/
namespace Go.Proofs.YtodcnkbblippnaaGreatDoor
open Go.RowKit
attribute [local go_sem ↓] NoP_normal

section
variable {N ab b a c m B : Nat} {A : Ar} {P : PD} {FT : Nat → Prop}
set_option maxRecDepth 100000 in
set_option maxHeartbeats 16000000 in
theorem arcompact_any (hS : SortOk N) (hN : N ≤ 134217728) (w : World) (h : AD w ab b A P FT) (hFT : ∀ k, FT k → k < w.heap.size) (window oldest : Int) (hw : 1 ≤ window ∧ window ≤ 4611686018427387904)
    (hall : ∀ segs, P.segs A.ix.segs = some segs → (segs.flatMap (·.2) ++ (P.puts A.j.logs).1).length ≤ N ∧ ∀ p ∈ segs.flatMap (·.2) ++ (P.puts A.j.logs).1, PuOk p)
    (hsm : A.ix.segs.length ≤ 1073741824 ∧ A.ix.segs.length * m ≤ 4398046511104) (hla : 0 ≤ A.last ∧ A.last + N ≤ 9223372036854775807) (hjl : In64 (A.j.last + 1)) (hkr : ∀ x ∈ A.ix.segs, In64 x)
    (hF : Fit P a c m) (hl : Lim (a + N + 2) (c + 2 * a + 2 * N + 4) (m + 37 * N + 12)) (hm : A.j.logs.length * m ≤ 70368744177664)
    (hn : ∀ n ∈ A.ix.segs, NumOk n) (hnl : ∀ n ∈ A.j.logs, NumOk n) (hll : A.j.logs.length ≤ 1073741824) (hL : Lets B w) (hLB : ∀ k, FT k → B ≤ k) :
    Calls Tryz.prog 70 #[.pointer (some ⟨ab, 0, none⟩), .int .i64 window, .int .i64 oldest] w fun e w' => e = .returned (.int .i64 (A.compact P window oldest).1) ∧ Into w FT w' (fun w' FT' => AD w' ab b (A.compact P window oldest).2.1 (A.compact P window oldest).2.2 FT') := by
  obtain ⟨i0, hi, hz0, hz1, hz2⟩ := info_parts info_put_f
  obtain ⟨j0, hj, hy0, hy1, hy2⟩ := intInfo
  obtain ⟨s0, hs, hx0, hx1, hx2⟩ := putSlInfo
  obtain ⟨xb, jb, sv, ov, lv, jo, Ft, hv, hsub⟩ := id h
  have hl0 : Lim a c m := ⟨by have := hl.a; omega, by have := hl.c; omega, by have := hl.m; omega⟩
  have k0 : Chg (fun _ => False) w (w.alloc (.cells #[.int .i64 oldest] 3)) := (Chg.refl _ w).alloc _
  have hb0 : (w.alloc (.cells #[.int .i64 oldest] 3)).heap[w.heap.size]? = some (.cells #[.int .i64 oldest] 3 (0, 0)) := heap_alloc_new w _
  have EN : Hid (P.segs A.ix.segs = none → A.compact P window oldest = (7, A, P)) := fun h => by unfold Ar.compact; rw [h]
  have EP : Hid (∀ segs, P.segs A.ix.segs = some segs → (P.puts A.j.logs).2 ≠ 0 → A.compact P window oldest = ((P.puts A.j.logs).2, A, P)) := fun segs h hp => by unfold Ar.compact; rw [h]; dsimp only; rw [if_pos hp]
  have EK : Hid (∀ segs, P.segs A.ix.segs = some segs → (P.puts A.j.logs).2 = 0 → A.compact P window oldest = A.replace P ((keptOf segs oldest (inWins window (segs.flatMap (·.2) ++ (P.puts A.j.logs).1))).1.mergeSort fun x y => decide (x ≤ y)) (keptOf segs oldest (inWins window (segs.flatMap (·.2) ++ (P.puts A.j.logs).1))).2) := fun segs h hp => by
    unfold Ar.compact; rw [h]; dsimp only; rw [if_neg (by simp [hp])]
  obtain ⟨R, hR⟩ : ∃ R, A.compact P window oldest = R := ⟨_, rfl⟩
  rw [hR] at EN EP EK ⊢
  have H := hide h
  have HFT := hide hFT
  have SAME : Hid (∀ wx n, Chg (fun _ => False) w wx → R = (n, A, P) → R.1 = n ∧ Into w FT wx (fun w' FT' => AD w' ab b R.2.1 R.2.2 FT')) := fun wx n hc he => by
    subst he
    exact ⟨rfl, hc.mono fun _ _ h => h.elim, FT, H.out.chg0 hc, fun k hk => Nat.lt_of_lt_of_le (HFT.out k hk) hc.size, fun k hk => .inl hk⟩
  have SG := hide (segments_any _ (hv.chg0 k0) hF hl0 hn hsm.1 (hL.keep0 k0))
  have PU : Hid (∀ wx, Chg (fun _ => False) w wx → _) := fun wx hc => puts_any wx (hv.chg0 hc).dk (hv.chg0 hc).lt (hv.chg0 hc).jn hF hl0 hm hnl (hL.keep0 hc)
  have C2 : Hid (∀ wx, Chg (fun _ => False) w wx → wx.cell? ⟨ab, 2, none⟩ = some (.pointer (some ⟨jb, 0, none⟩))) := fun wx hc => (hv.chg0 hc).blk.c2
  have PO : Hid (∀ segs, P.segs A.ix.segs = some segs → ∀ wx B0 v, SgSl wx B0 b v segs → Calls Tryz.prog 101 #[v] wx fun e w' => ∃ v', e = .returned v' ∧ PfSl w' v' (segs.flatMap (·.2)) ∧ (∀ g, v'.ownBlock = some g → wx.heap.size ≤ g) ∧ Chg (fun _ => False) wx w') := fun segs hs wx B0 v hx => by
    obtain ⟨q1, q2⟩ := segs_length hF A.ix.segs segs hs
    exact pointsOf_any wx B0 v segs hx (by rw [q1]; exact hsm.1) q2 (by rw [q1]; exact hsm.2)
  have WIN : Hid (∀ segs, P.segs A.ix.segs = some segs → ∀ wx v, PfSl wx v (segs.flatMap (·.2) ++ (P.puts A.j.logs).1) → _) := fun segs hs wx v hx => inWindows_any hS hN wx v window _ (hall segs hs).1 hx (fun p hp => ((hall segs hs).2 p hp).2.1) hw
  have REP : Hid (∀ segs, P.segs A.ix.segs = some segs → (P.puts A.j.logs).2 = 0 → ∀ wx kv fv, Chg (fun _ => False) w wx → InSl wx kv ((keptOf segs oldest (inWins window (segs.flatMap (·.2) ++ (P.puts A.j.logs).1))).1.mergeSort fun x y => decide (x ≤ y)) → (∀ g, kv.ownBlock = some g → w.heap.size ≤ g) → WnOut wx fv (keptOf segs oldest (inWins window (segs.flatMap (·.2) ++ (P.puts A.j.logs).1))).2 FT →
      Calls Tryz.prog 107 #[.pointer (some ⟨ab, 0, none⟩), kv, fv] wx fun e w' => e = .returned (.int .i64 R.1) ∧ Into w FT w' (fun w' FT' => AD w' ab b R.2.1 R.2.2 FT')) := fun segs hs hp wx kv fv hc hk hko hf => by
    obtain ⟨z1, z2, z3⟩ := inWins_shape window (segs.flatMap (·.2) ++ (P.puts A.j.logs).1)
    obtain ⟨y1, y2, y3, y4⟩ := keptOf_shape segs oldest (inWins window (segs.flatMap (·.2) ++ (P.puts A.j.logs).1))
    obtain ⟨n1, n2⟩ := hall segs hs
    have hmem : ∀ n ∈ (keptOf segs oldest (inWins window (segs.flatMap (·.2) ++ (P.puts A.j.logs).1))).1.mergeSort (fun x y => decide (x ≤ y)), n ∈ A.ix.segs := fun n hn => by
      obtain ⟨s, hs1, rfl⟩ := y2 n (List.mem_mergeSort.1 hn)
      exact segs_nums _ _ hs s hs1
    rw [EK.out segs hs hp]
    have hlm : ((keptOf segs oldest (inWins window (segs.flatMap (·.2) ++ (P.puts A.j.logs).1))).1.mergeSort (fun x y => decide (x ≤ y))).length = (keptOf segs oldest (inWins window (segs.flatMap (·.2) ++ (P.puts A.j.logs).1))).1.length := List.length_mergeSort _
    refine (replace_any wx (H.out.chg0 hc) (fun k hk => Nat.lt_of_lt_of_le (HFT.out k hk) hc.size) kv _ hk (fun g hg => ⟨fun hx => by have := hko g hg; have := HFT.out g hx; omega, Nat.le_trans hL.1 (hko g hg)⟩) fv _ hf
      (fun l hl => ⟨fun p hp => n2 p ((z3 l (y3 l hl)).1 p hp), by have := (z3 l (y3 l hl)).2; omega⟩) ⟨hla.1, by omega⟩ hjl (fun x hx => hkr x (hmem x hx)) hF ⟨by have := hl.a; omega, by have := hl.c; omega, by have := hl.m; rw [hlm]; omega⟩ (by rw [hlm]; omega) hn hnl (fun x hx => hn x (hmem x hx)) hsm.1 hll (hL.keep0 hc) hLB).mono ?_
    rintro e w' ⟨h1, h2⟩
    exact ⟨h1, Into.step (hc.mono fun _ _ h => h.elim) (fun k hk => hk.elim .inl fun h => .inr (hko k h)) h2⟩
  have HLEN : Hid (∀ segs, P.segs A.ix.segs = some segs → (segs.flatMap (·.2) ++ (P.puts A.j.logs).1).length ≤ 134217728 ∧ (inWins window (segs.flatMap (·.2) ++ (P.puts A.j.logs).1)).length ≤ 134217728) := fun segs hs => by
    have h1 := (hall segs hs).1
    have h2 := (inWins_shape window (segs.flatMap (·.2) ++ (P.puts A.j.logs).1)).1
    omega
  have HSI : Hid (∀ segs, P.segs A.ix.segs = some segs → ∀ x ∈ segs, In64 x.1) := fun segs hs x hx => hkr _ (segs_nums _ _ hs x hx)
  have K0 := hide k0
  have HB0 := hide hb0
  clear hR h hv hFT hsub hall hsm hla hjl hkr hF hl hm hn hnl hll hL hLB hl0 k0 hb0 hw hS
  go_enter Tryz.func70, Tryz.ntmps70
  go_wp2_with (fail)
  refine SG.out.mono ?_
  rintro e w1 (⟨hs, rfl, hc1⟩ | ⟨segs, v1, hs, rfl, hv1, hc1⟩)
  · have S1 := hide (SAME.out w1 7 (K0.out.trans hc1 fun _ h _ => h) (EN.out hs))
    clear hs hc1 SG EN EP EK SAME PU PO WIN REP
    go_wp2
    go_ret
    exact ⟨by rw [S1.out.1]; rfl, S1.out.2⟩
  have HSG := hide hs
  have HV1 := hide hv1
  have K1 : Hid (Chg (fun _ => False) w w1) := K0.out.trans hc1 fun _ h _ => h
  have OB1 : Hid (w1.cell? ⟨w.heap.size, 0, none⟩ = some (.int .i64 oldest)) := hc1.cellKeep (by simp only [World.cell?, HB0.out]; rfl)
  have PU1 := hide (PU.out w1 K1.out)
  have d2 := C2.out w1 K1.out
  have EP1 := hide (EP.out segs HSG.out)
  have REP1 := hide (REP.out segs HSG.out)
  have WIN1 := hide (WIN.out segs HSG.out)
  have HLEN1 := hide (HLEN.out segs HSG.out)
  have HSI1 := hide (HSI.out segs HSG.out)
  have PO1 := hide (PO.out segs HSG.out)
  clear hs hv1 hc1 SG EN EP EK PU PO WIN REP HLEN HSI K0 HB0
  obtain ⟨ps, hps⟩ : ∃ ps, (P.puts A.j.logs).1 = ps := ⟨_, rfl⟩
  obtain ⟨pe, hpe⟩ : ∃ pe, (P.puts A.j.logs).2 = pe := ⟨_, rfl⟩
  rw [hps] at PU1 REP1 WIN1 HLEN1
  rw [hpe] at PU1 REP1 EP1
  clear hps hpe
  go_wp2_with (fail)
  refine PU1.out.mono ?_
  rintro e w2 ⟨v2, rfl, hv2, ho2, hc2⟩
  by_cases hp : pe = 0
  case neg =>
    have hpb : (pe != 0) = true := by simpa using hp
    have S1 := hide (SAME.out w2 pe (K1.out.trans hc2 fun _ h _ => h) (EP1.out hp))
    clear hv2 ho2 hc2 PU1 REP1 WIN1 PO1 SAME EP1 hp
    go_wp2
    go_ret
    exact ⟨by rw [S1.out.1]; rfl, S1.out.2⟩
  case pos =>
  subst hp
  obtain ⟨pl, hpl⟩ : ∃ pl, segs.flatMap (·.2) = pl := ⟨_, rfl⟩
  rw [hpl] at REP1 WIN1 HLEN1 PO1
  have K2 : Hid (Chg (fun _ => False) w w2) := K1.out.trans hc2 fun _ h _ => h
  have SG2 := hide (HV1.out.chg0 hc2)
  have OB2 := hide (hc2.cellKeep OB1.out)
  have PO2 := hide (PO1.out w2 _ v1 SG2.out)
  obtain ⟨v2a, v2c, rfl, v21, v22, -⟩ := ownsRow_form hv2
  unfold maxLen at v22
  have HV2 := hide hv2
  clear hpl hv2 ho2 hc2 PU1 SAME EP1 PO1 HV1 OB1 d2
  go_wp2_with (fail)
  refine PO2.out.mono ?_
  rintro e w3 ⟨v3, rfl, hv3, ho3, hc3⟩
  obtain ⟨v3a, v3c, rfl, v31, v32, -⟩ := ownsRow_form hv3
  unfold maxLen at v32
  have HV3 := hide hv3
  have HO3 := hide ho3
  have HC3 := hide hc3
  have HSRC := hide (Src.ofOwn Tryz.underlying97 (ownsRow_same HV2.out fun g hg => hc3.block g (ownsRow_lt HV2.out hg) (fun h => h)) (puVals_oneCell ps))
  have HBY : Hid ((pl.length + ps.length) * 24 ≤ 140737488355328) := by have := HLEN1.out.1; rw [List.length_append] at this; unfold Hid; omega
  clear hv3 ho3 hc3 PO2
  go_wp2_with (at_builtin; refine wpList_app rfl (.tmp 35) (.tmp 36) 97 97 rfl 113 i0 _ 3 24 Tryz.underlying97 hi hz0 hz1 hz2 rfl (by decide) (.slice v3a pl.length v3c) pl.length (puVals pl) (by rfl) HV3.out _ ps.length _ (by rfl) HSRC.out HBY.out ?_; intro a4 cap4 w4 hA; have HA := hide hA; clear hA)
  -- THE WINDOWS
  have hA2 := HA.out.chg (S := fun k => (Value.slice v3a pl.length v3c).ownBlock = some k) fun _ h => h
  have hPL : PfSl w4 (.slice a4 (pl.length + ps.length) cap4) (pl ++ ps) := by
    have e : (pl ++ ps).length = pl.length + ps.length := by simp
    unfold PfSl
    rw [puVals_append, e]
    exact HA.out.own
  have k24 : Chg (fun _ => False) w2 w4 := HC3.out.trans hA2 fun x hx hlt => by have := HO3.out x hx; omega
  have W4 := hide (WIN1.out w4 _ hPL)
  have SG4 := hide (SG2.out.chg0 k24)
  have OB4 := hide (k24.cellKeep OB2.out)
  have K4 : Hid (Chg (fun _ => False) w w4) := K2.out.trans k24 fun _ h _ => h
  clear hA2 hPL k24 WIN1 SG2 OB2 HA HSRC HBY HC3 HO3 HV3
  refine W4.out.mono ?_
  rintro e w5 ⟨v5, vs, rfl, hv5, hc5⟩
  obtain ⟨ws, hws⟩ : ∃ ws, inWins window (pl ++ ps) = ws := ⟨_, rfl⟩
  rw [hws] at hv5 REP1 HLEN1
  obtain ⟨v5a, v5c, rfl, v51, v52, v53, -⟩ := ownsRow_form hv5.row
  unfold maxLen at v52
  have HV5 := hide hv5
  have G5 := hide v53
  have SG5 := hide (SG4.out.chg0 hc5)
  have OB5 := hide (hc5.cellKeep OB4.out)
  have K5 : Hid (Chg (fun _ => False) w w5) := K4.out.trans hc5 fun _ h _ => h
  have HWL : Hid (ws.length ≤ 134217728) := HLEN1.out.2
  obtain ⟨ob, hob⟩ : ∃ ob, w.heap.size = ob := ⟨_, rfl⟩
  rw [hob] at OB5 ⊢
  have HOB := hide hob
  clear hws hv5 v53 hc5 W4 SG4 OB4 hob
  go_wp2
  go_loopw [10, 11, 41] (fun vk vf iv wr => ∃ (k : Nat) (kk : List Int) (ff : List (List Pu)), iv = .int .i64 k ∧ k ≤ ws.length ∧ kk.length + ff.length ≤ k ∧ Hid (KpB w5 wr w4.heap.size vk vf kk ff ∧ keptOf segs oldest ws = (kk ++ (keptOf segs oldest (ws.drop k)).1, ff ++ (keptOf segs oldest (ws.drop k)).2))) (fun _ _ iv _ => ws.length - (intOf iv).toNat)
  case atStart => exact ⟨0, [], [], rfl, by omega, by simp, ⟨Chg.refl _ _, World.ownsRow_nil _ _ _ _, fun g hg => by simp [Value.ownBlock] at hg, [], rfl, World.ownsRow_nil _ _ _ _, fun g hg => by simp [Value.ownBlock] at hg, fun k h1 => by simp at h1, fun x hx => by cases hx⟩, by simp⟩
  case round =>
    obtain ⟨k, kk, ff, rfl, hk, hkf, hI⟩ := hrel
    obtain ⟨i1, i2⟩ := hI.out
    obtain ⟨ka, kc, rfl, kc1, kc2, -⟩ := ownsRow_form i1.kept
    obtain ⟨fvs, f1, f2, f3, f4, f5⟩ := i1.fresh
    obtain ⟨fa, fc, rfl, fc1, fc2, -⟩ := ownsRow_form f2
    unfold maxLen at kc2 fc2
    by_cases hk1 : k < ws.length
    · have hkv : k < vs.length := by have := HV5.out.len; omega
      obtain ⟨g, rfl⟩ := G5.out (by omega)
      have hc := ownsRow_cell HV5.out.row (g := g) rfl (show vs[k]? = some (vs[k]'hkv) from List.getElem?_eq_getElem hkv)
      have hx := HV5.out.ls k hkv hk1
      have hxo := HV5.out.li (vs[k]'hkv) (List.getElem_mem hkv)
      have hdr := List.drop_eq_getElem_cons hk1
      obtain ⟨x, hxe⟩ : ∃ x, (vs[k]'hkv) = x := ⟨_, rfl⟩
      obtain ⟨l, hle⟩ : ∃ l, (ws[k]'hk1) = l := ⟨_, rfl⟩
      rw [hxe] at hc hx hxo
      rw [hle] at hx hdr
      rw [hdr, keptOf_cons] at i2
      obtain ⟨xa, xc, rfl, x1, x2, -⟩ := ownsRow_form hx
      have e1 := i1.chg.cellKeep hc
      have kA : Chg (fun _ => False) wr (wr.alloc (.cells #[.slice xa l.length xc] 97)) := (Chg.refl _ wr).alloc _
      have k5A : Chg (fun _ => False) w5 (wr.alloc (.cells #[.slice xa l.length xc] 97)) := i1.chg.trans kA fun _ h _ => h
      have pA : (wr.alloc (.cells #[.slice xa l.length xc] 97)).heap[wr.heap.size]? = some (.cells #[.slice xa l.length xc] 97 (0, 0)) := heap_alloc_new wr _
      have pc : (wr.alloc (.cells #[.slice xa l.length xc] 97)).cell? ⟨wr.heap.size, 0, none⟩ = some (.slice xa l.length xc) := by simp only [World.cell?, pA]; rfl
      have CO := hide (containsSince_any _ _ l (ownsRow_same hx fun g hg => k5A.block g (ownsRow_lt hx hg) (fun h => h)) ob oldest (k5A.cellKeep OB5.out))
      have I1 := hide i1
      have I2 := hide i2
      have F1 := hide f1
      have F2 := hide f2
      have F3 := hide f3
      have F4 := hide f4
      have F5 := hide f5
      have HX := hide hx
      have HXO := hide hxo
      have KA := hide k5A
      have KAR := hide kA
      have PC := hide pc
      have hki : (k : Int) < (ws.length : Int) := by omega
      have hk0 : (0 : Int) ≤ (k : Int) := Int.natCast_nonneg _
      obtain ⟨d, hd⟩ : ∃ d, l.any (fun p => decide (oldest ≤ p.2.1)) = d := ⟨_, rfl⟩
      rw [hd] at CO I2
      clear hI i1 i2 f1 f2 f3 f4 f5 hc hx hxo hdr hxe hle kA k5A pA hd
      cases d with
      | false =>
        have I3 : Hid (keptOf segs oldest ws = (kk ++ (keptOf segs oldest (ws.drop (k + 1))).1, ff ++ (keptOf segs oldest (ws.drop (k + 1))).2)) := by have := I2.out; rwa [if_pos rfl] at this
        go_wp2_with (fail)
        refine CO.out.mono ?_
        rintro e w6 ⟨rfl, hc6⟩
        have HK6 := hide (I1.out.keep0 (KAR.out.trans hc6 fun _ h _ => h))
        clear hc6 CO pc
        go_wp2
        go_roundw
        case rel => exact ⟨k + 1, kk, ff, by go_num, hk1, Nat.le_succ_of_le hkf, HK6.out, I3.out⟩
        case measure => simp [intOf]; omega
      | true =>
        have I3 := hide I2.out
        rw [if_neg (by simp)] at I3
        obtain ⟨gbs, g1, g2, g3, g4⟩ := SG5.out
        obtain ⟨va, vc, rfl, va1, va2, va3, -⟩ := ownsRow_form g2
        unfold maxLen at va2
        have VA := hide va3
        have GB1 := hide g1
        have GB2 := hide g2
        have GB4 := hide g4
        clear va3 g1 g2 g3 g4
        go_wp2_with (fail)
        refine CO.out.mono ?_
        rintro e w6 ⟨rfl, hc6⟩
        have k56 : Chg (fun _ => False) w5 w6 := KA.out.trans hc6 fun _ h _ => h
        have IX := hide (indexSeg_any w6 _ segs (SG5.out.chg0 k56) wr.heap.size (.slice xa l.length xc) l (hc6.cellKeep PC.out) (ownsRow_same HX.out fun g hg => k56.block g (ownsRow_lt HX.out hg) (fun h => h)))
        have KR6 : Hid (Chg (fun _ => False) wr w6) := KAR.out.trans hc6 fun _ h _ => h
        have K56 := hide k56
        have PC6 := hide (hc6.cellKeep PC.out)
        clear hc6 CO k56 pc
        go_wp2_with (fail)
        refine IX.out.mono ?_
        rintro e w7 ⟨(⟨rfl, hf⟩ | ⟨k2, hk2, rfl, hf⟩), hc7⟩
        · rw [hf] at I3
          have I4 : Hid (keptOf segs oldest ws = (kk ++ (keptOf segs oldest (ws.drop (k + 1))).1, (ff ++ [l]) ++ (keptOf segs oldest (ws.drop (k + 1))).2)) := by have := I3.out; unfold Hid; rw [this]; simp
          have pc7 := hc7.cellKeep PC6.out
          have k7 : Chg (fun _ => False) wr (w7.alloc (.cells #[.slice xa l.length xc] 97)) := (KR6.out.trans hc7 fun _ h _ => h).alloc _
          have HK8 := hide (I1.out.keep0 k7)
          have HROW := hide (ownsRow_same F2.out fun g hg => k7.block g (ownsRow_lt F2.out hg) (fun h => h))
          have HSR := hide (Src.ofNew (size := 1) (B := w7.heap.size) Tryz.underlying174 w7 #[.slice xa l.length xc] 97 (by simp) 1 1 rfl (by simp [Value.oneCell']))
          have HBW : Hid ((ff.length + 1) * 24 ≤ 140737488355328) := by have := HWL.out; unfold Hid; omega
          clear hf hc7 k7 IX
          go_wp2_with (at_builtin; refine wpList_app rfl (.tmp 54) (.tmp 56) 174 174 rfl 97 s0 _ 1 24 Tryz.underlying174 hs hx0 hx1 hx2 rfl (by decide) (.slice fa ff.length fc) ff.length fvs (by rfl) HROW.out _ 1 _ (by rfl) HSR.out HBW.out ?_; intro a8 cap8 w8 hA; have HA8 := hide hA; clear hA)
          have HK9 := hide (HK8.out.addF HX.out HXO.out fvs F1.out HROW.out F3.out F4.out F5.out HA8.out)
          go_roundw
          case rel => exact ⟨k + 1, kk, ff ++ [l], by go_num, hk1, by rw [List.length_append]; exact Nat.succ_le_succ hkf, HK9.out, I4.out⟩
          case measure => simp [intOf]; omega
        · rw [hf] at I3
          obtain ⟨gv, rfl⟩ := VA.out (by omega)
          have hgk : k2 < gbs.length := by have := GB1.out; omega
          have k57 : Chg (fun _ => False) w5 w7 := K56.out.trans hc7 fun _ h _ => h
          have hat := (GB4.out k2 hgk hk2).chg0 k57
          have hcc := k57.cellKeep (ownsRow_cell GB2.out (g := gv) rfl (show (sgVals gbs)[k2]? = some (.pointer (some ⟨gbs[k2]'hgk, 0, none⟩)) by simp [sgVals, hgk]))
          obtain ⟨gb, hgb⟩ : ∃ gb, (gbs[k2]'hgk) = gb := ⟨_, rfl⟩
          rw [hgb] at hat hcc
          obtain ⟨sg, hsg⟩ : ∃ sg, (segs[k2]'hk2) = sg := ⟨_, rfl⟩
          rw [hsg] at hat I3
          obtain ⟨n, sl⟩ := sg
          obtain ⟨pv, hb, -, -, -⟩ := hat
          have c3 := hb.c3
          dsimp only at c3
          have I4 : Hid (keptOf segs oldest ws = ((kk ++ [n]) ++ (keptOf segs oldest (ws.drop (k + 1))).1, ff ++ (keptOf segs oldest (ws.drop (k + 1))).2)) := by have := I3.out; unfold Hid; rw [this]; simp
          have k7 : Chg (fun _ => False) wr (w7.alloc (.cells #[.int .i64 n] 3)) := (KR6.out.trans hc7 fun _ h _ => h).alloc _
          have HK8 := hide (I1.out.keep0 k7)
          have HSR := hide (Src.ofNew (size := 1) (B := w7.heap.size) Tryz.underlying26 w7 #[.int .i64 n] 3 (by simp) 1 1 rfl (intVals_oneCell [n]))
          have HBW : Hid ((kk.length + 1) * 8 ≤ 140737488355328) := by have := HWL.out; unfold Hid; omega
          have hk2i : (k2 : Int) < (segs.length : Int) := by omega
          have hk20 : (0 : Int) ≤ (k2 : Int) := Int.natCast_nonneg _
          have hk2n : ¬ ((k2 : Int) < 0) := by omega
          clear hf hc7 k7 IX hb hgb hsg k57
          go_wp2_with (at_builtin; refine wpList_app rfl (.tmp 58) (.tmp 66) 26 26 rfl 3 j0 _ 1 8 Tryz.underlying26 hj hy0 hy1 hy2 rfl (by decide) (.slice ka kk.length kc) kk.length (intVals kk) (by rfl) HK8.out.kept _ 1 _ (by rfl) HSR.out HBW.out ?_; intro a8 cap8 w8 hA; have HA8 := hide hA; clear hA)
          have HK9 := hide (HK8.out.addK HA8.out)
          go_roundw
          case rel => exact ⟨k + 1, kk ++ [n], ff, by go_num, hk1, by rw [List.length_append, Nat.add_right_comm]; exact Nat.succ_le_succ hkf, HK9.out, I4.out⟩
          case measure => simp [intOf]; omega
    · have hkk : k = ws.length := by omega
      subst hkk
      rw [List.drop_length] at i2
      have hke : keptOf segs oldest ws = (kk, ff) := by simpa [keptOf] using i2
      rw [hke] at REP1
      have hki : ¬ ((ws.length : Int) < (ws.length : Int)) := by omega
      have SO := hide (sortInt_any wr _ kk i1.kept (by have := HWL.out; omega))
      have I1 := hide i1
      have F1 := hide f1
      have F2 := hide f2
      have F3 := hide f3
      have F4 := hide f4
      have F5 := hide f5
      clear hI i1 i2 f1 f2 f3 f4 f5 hke
      go_wp2_with (fail)
      refine SO.out.mono ?_
      rintro e w7 ⟨rfl, hk7, hc7⟩
      have k57 : Chg (fun _ => False) w5 w7 := I1.out.chg.trans hc7 fun x hx hlt => by have := I1.out.keptO x hx; omega
      have k07 : Chg (fun _ => False) w w7 := K5.out.trans k57 fun _ h _ => h
      have R7 := hide (REP1.out trivial w7 _ (.slice fa ff.length fc) k07 hk7 (fun g hg => Nat.le_trans K5.out.size (I1.out.keptO g hg))
        ⟨fvs, F1.out, ownsRow_same F2.out fun g hg => hc7.block g (ownsRow_lt F2.out hg) (fun hx => elemOther F2.out I1.out.kept (by decide) hg hx),
          fun k h1 h2 => ownsRow_same (F4.out k h1 h2) fun g hg => k57.block g (ownsRow_lt (F4.out k h1 h2) hg) (fun h => h),
          fun g hg hx => by have := F3.out g hg; have := HFT.out g hx; have := K5.out.size; omega,
          fun x hx g hg hf => by have := F5.out x hx g hg; have := HFT.out g hf; have := K4.out.size; omega⟩)
      clear hk7 hc7 k57 k07 SO REP1
      go_wp2_with (fail)
      refine R7.out.mono ?_
      rintro e w8 ⟨rfl, hI⟩
      have HI := hide hI
      clear hI R7
      go_wp2
      go_ret
      exact ⟨rfl, HI.out⟩
end
end Go.Proofs.YtodcnkbblippnaaGreatDoor
/- Walk: the document's answer to a question (tidesref.Query). Printed by wip/genTq.py. -/
namespace Go.Proofs.YtodcnkbblippnaaGreatDoor
open Go.RowKit
attribute [local go_sem ↓] Go.wp_at_zero Go.wp_at_succ

/-- Is this one asked for? -/
def qOk (series a b life clock : Int) (p : Pu) : Bool := decide (p.1 = series) && decide (a ≤ p.2.1) && decide (p.2.1 ≤ b) && aliveB p.2.1 life clock
def qStep (series a b life clock : Int) (l : List Pt) (p : Pu) : List Pt := if qOk series a b life clock p then insP l p.2.1 p.2.2 else l
def refQ (puts : List Pu) (series a b life clock : Int) : List Pt := puts.foldl (qStep series a b life clock) []
theorem insP_length (l : List Pt) (t v : Int) : l.length ≤ (insP l t v).length ∧ (insP l t v).length ≤ l.length + 1 := by
  induction l with
  | nil => simp [insP]
  | cons e r ih =>
    obtain ⟨a, b⟩ := e
    simp only [insP]
    split
    · simp only [List.length_cons]; omega
    · split <;> simp only [List.length_cons] <;> omega
end Go.Proofs.YtodcnkbblippnaaGreatDoor
/- A store within a footprint: its block, its rows, its archive and disk; what keep makes of it. No walk but keep's. -/
namespace Go.Proofs.YtodcnkbblippnaaGreatDoor
open Go.RowKit

/-- A store, its parts apart from one another. -/
structure SV (w : World) (sb ab b : Nat) (mu life win clock : Int) (ro : Bool) (lv : Nat → Value) (L : Nat → List Pt) (A : Ar) (P : PD) (F0 : Nat → Prop) : Prop where
  blk : SBlk w sb mu (.pointer (some ⟨ab, 0, none⟩)) life win clock ro lv
  rows : RowsAt w lv L
  ar : AD w ab b A P F0
  lt : ∀ k, F0 k → k < w.heap.size
  ns : ¬ F0 sb
  nr : ∀ k, rowsOwn lv k → ¬ F0 k
/-- A store within a footprint. -/
def SF (w : World) (sb ab b : Nat) (mu life win clock : Int) (ro : Bool) (L : Nat → List Pt) (A : Ar) (P : PD) (FT : Nat → Prop) : Prop :=
  ∃ lv F0, SV w sb ab b mu life win clock ro lv L A P F0 ∧ ∀ k, F0 k ∨ Own sb lv k → FT k
section
variable {w w' w2 : World} {sb ab b : Nat} {mu mu' life win clock clock' : Int} {ro ro' : Bool} {lv lv' : Nat → Value} {L L' : Nat → List Pt} {A A' : Ar} {P P' : PD} {F0 FT : Nat → Prop}
theorem SV.ltO (h : SV w sb ab b mu life win clock ro lv L A P F0) {k : Nat} (hk : F0 k ∨ Own sb lv k) : k < w.heap.size := by
  rcases hk with hk | rfl | hk
  · exact h.lt k hk
  · exact h.blk.lt
  · exact h.rows.lt hk
theorem SV.nb (h : SV w sb ab b mu life win clock ro lv L A P F0) : ¬ rowsOwn lv sb := h.rows.ne h.blk (by decide)
theorem SV.chg (h : SV w sb ab b mu life win clock ro lv L A P F0) {S : Nat → Prop} (hc : Chg S w w') (hS : ∀ k, F0 k ∨ Own sb lv k → ¬ S k) : SV w' sb ab b mu life win clock ro lv L A P F0 :=
  ⟨h.blk.chg hc (hS sb (.inr (.inl rfl))), h.rows.chg hc fun g hg => hS g (.inr (.inr hg)), h.ar.frame (hc.same (fun k hk => h.lt k hk) fun k hk => hS k (.inl hk)) hc.size,
    fun k hk => Nat.lt_of_lt_of_le (h.lt k hk) hc.size, h.ns, h.nr⟩
theorem SV.chg0 (h : SV w sb ab b mu life win clock ro lv L A P F0) (hc : Chg (fun _ => False) w w') : SV w' sb ab b mu life win clock ro lv L A P F0 := h.chg hc fun _ _ h => h
theorem SF.chg0 (h : SF w sb ab b mu life win clock ro L A P FT) (hc : Chg (fun _ => False) w w') : SF w' sb ab b mu life win clock ro L A P FT := by
  obtain ⟨lv, F0, h1, h2⟩ := h
  exact ⟨lv, F0, h1.chg0 hc, h2⟩
/-- A store that was changed within its footprint. -/
theorem SV.into (h : SV w' sb ab b mu life win clock ro lv' L' A' P' F0) {S : Nat → Prop} (hc : Chg S w w') (hS : ∀ k, k < w.heap.size → S k → FT k) (hs : ∀ k, F0 k ∨ Own sb lv' k → FT k ∨ w.heap.size ≤ k) :
    Into w FT w' (fun w' FT' => SF w' sb ab b mu life win clock ro L' A' P' FT') :=
  ⟨hc.mono hS, fun k => F0 k ∨ Own sb lv' k, ⟨lv', F0, h, fun _ h => h⟩, fun _ hk => h.ltO hk, hs⟩
/-- The store's own block and rows are turned. -/
theorem SV.turn (h : SV w sb ab b mu life win clock ro lv L A P F0) (hs : StTo w w' sb mu' (.pointer (some ⟨ab, 0, none⟩)) life win clock' ro' lv lv' L') :
    SV w' sb ab b mu' life win clock' ro' lv' L' A P F0 :=
  ⟨hs.blk, hs.rows, h.ar.frame (hs.chg.same (fun k hk => h.lt k hk) fun k hk hx => by
      rcases hx with rfl | hx
      · exact h.ns hk
      · exact h.nr k hx hk) hs.chg.size, fun k hk => Nat.lt_of_lt_of_le (h.lt k hk) hs.chg.size, h.ns, fun k hk hx => by
    rcases hs.own k hk with hy | hy
    · exact h.nr k hy hx
    · have := h.lt k hx; omega⟩
theorem SV.turnInto (h : SV w sb ab b mu life win clock ro lv L A P F0) (hsub : ∀ k, F0 k ∨ Own sb lv k → FT k) (hs : StTo w w' sb mu' (.pointer (some ⟨ab, 0, none⟩)) life win clock' ro' lv lv' L') :
    Into w FT w' (fun w' FT' => SF w' sb ab b mu' life win clock' ro' L' A P FT') :=
  (h.turn hs).into hs.chg (fun k _ hk => hsub k (.inr hk)) fun k hk => by
    rcases hk with hk | rfl | hk
    · exact .inl (hsub k (.inl hk))
    · exact .inl (hsub _ (.inr (.inl rfl)))
    · exact (hs.own k hk).imp (fun h => hsub k (.inr (.inr h))) id
/-- The archive is turned. -/
theorem SV.arTo (h : SV w sb ab b mu life win clock ro lv L A P F0) (hsub : ∀ k, F0 k ∨ Own sb lv k → FT k) (hI : Into w F0 w' (fun w' FT' => AD w' ab b A' P' FT')) :
    Into w FT w' (fun w' FT' => SF w' sb ab b mu life win clock ro L A' P' FT') := by
  obtain ⟨hc, F1, h1, h2, h3⟩ := hI
  have hb := h.blk.lt
  refine (SV.into (w' := w') (lv' := lv) (F0 := F1) ⟨h.blk.chg hc h.ns, h.rows.chg hc h.nr, h1, h2, fun hx => ?_, fun k hk hx => ?_⟩ hc (fun k _ hk => hsub k (.inl hk)) fun k hk => ?_)
  · rcases h3 _ hx with hy | hy
    · exact h.ns hy
    · omega
  · rcases h3 _ hx with hy | hy
    · exact h.nr k hk hy
    · have := h.rows.lt hk; omega
  · rcases hk with hk | hk
    · exact (h3 k hk).imp (fun h => hsub k (.inl h)) id
    · exact .inl (hsub k (.inr hk))
/-- A cell of the store's block is turned. -/
theorem SF.cell (h : SF w sb ab b mu life win clock ro L A P FT) (o : Nat) (u : Value) (hb : ∀ lv, SBlk w sb mu (.pointer (some ⟨ab, 0, none⟩)) life win clock ro lv → SBlk (w.setCell ⟨sb, o, none⟩ u) sb mu' (.pointer (some ⟨ab, 0, none⟩)) life win clock' ro' lv) :
    Into w FT (w.setCell ⟨sb, o, none⟩ u) (fun w' FT' => SF w' sb ab b mu' life win clock' ro' L A P FT') := by
  obtain ⟨lv, F0, h1, h2⟩ := h
  exact h1.turnInto h2 (StTo.of (hb lv h1.blk) h1.rows ((Chg.refl (One sb) w).setAt rfl o u) h1.nb)
/-- What a call leaves, and then a cell of the store's block. -/
theorem SFto.cell (h : Into w FT w' (fun w' FT' => SF w' sb ab b mu life win clock ro L A P FT')) (o : Nat) (u : Value) (hb : ∀ lv, SBlk w' sb mu (.pointer (some ⟨ab, 0, none⟩)) life win clock ro lv → SBlk (w'.setCell ⟨sb, o, none⟩ u) sb mu' (.pointer (some ⟨ab, 0, none⟩)) life win clock' ro' lv) :
    Into w FT (w'.setCell ⟨sb, o, none⟩ u) (fun w' FT' => SF w' sb ab b mu' life win clock' ro' L A P FT') :=
  h.trans fun _ h1 _ _ => h1.cell o u hb
/-- The rows behind a Put. -/
def keptL (L : Nat → List Pt) (o : Int) (k : Nat) (t v : Int) : Nat → List Pt := if o ≤ t then updL L k (insP (L k) t v) else L
theorem keptL_len (L : Nat → List Pt) (o : Int) (n : Nat) (t v : Int) (k : Nat) : (keptL L o n t v k).length ≤ (L k).length + 1 := by
  unfold keptL
  split
  · unfold updL
    split
    · rename_i e; subst e; exact (insP_length _ _ _).2
    · omega
  · omega
theorem keep_sf (w : World) (p : Pu) (h : SF w sb ab b mu life win clock ro L A P FT) (hp : 0 ≤ p.1 ∧ p.1 < 8) (hsm : ∀ k, k < 8 → (L k).length < 1099511627000) (hl : 1 ≤ life ∧ life ≤ 4611686018427387904) (hc : In64 clock) :
    Calls Tryz.prog 60 #[.pointer (some ⟨sb, 0, none⟩), puAgg p] w fun e w' => e = .returned (.tuple #[]) ∧ Into w FT w' (fun w' FT' => SF w' sb ab b mu life win clock ro (keptL L (oldestN clock life) p.1.toNat p.2.1 p.2.2) A P FT') := by
  obtain ⟨k, t, v⟩ := p
  obtain ⟨lv, F0, h1, h2⟩ := h
  unfold puAgg
  dsimp only at hp ⊢
  obtain ⟨hk1, hk2⟩ := hp
  obtain ⟨n, rfl⟩ := Int.eq_ofNat_of_zero_le hk1
  have hn : n < 8 := by omega
  refine (keep_any w sb n _ _ (by decide) clock life t v (L n) (lv n) hn (h1.rows.rowIn h1.blk hn) (by have := hsm n hn; omega) rfl rfl hl hc).mono ?_
  rintro e w' ⟨rfl, h3⟩
  refine ⟨rfl, ?_⟩
  unfold keptL
  rw [Int.toNat_natCast]
  rcases h3 with ⟨ho, lv', hR⟩ | ⟨ho, hcc⟩
  · rw [if_pos ho]
    have hlen := (insP_length (L n) t v).2
    obtain ⟨b1, b2, b3, b4⟩ := h1.rows.turn h1.blk hn hR rfl (by have := hsm n hn; omega)
    exact h1.turnInto h2 ⟨b1, b2, b3, b4⟩
  · rw [if_neg (by omega)]
    exact (h1.chg0 hcc).into hcc (fun _ _ h => h.elim) fun k hk => .inl (h2 k hk)
end
end Go.Proofs.YtodcnkbblippnaaGreatDoor
/- Walks: a store's calls that change its disk, whatever the disk answers: add, change, Put, Sync, Flush, Compact. -/
namespace Go.Proofs.YtodcnkbblippnaaGreatDoor
open Go.RowKit Go.MuLone
attribute [local go_sem ↓] Go.wp_at_zero Go.wp_at_succ NoP_normal

section
variable {w w' w2 : World} {sb ab b B : Nat} {mu life win clock : Int} {ro : Bool} {lv : Nat → Value} {L L' : Nat → List Pt} {A A' : Ar} {P P' : PD} {F0 FT : Nat → Prop} {a c m N : Nat}
set_option maxRecDepth 100000 in
set_option maxHeartbeats 4000000 in
theorem add_sf (w : World) (p : Pu) (h : SF w sb ab b mu life win clock ro L A P FT) (_hFT : ∀ k, FT k → k < w.heap.size) (hp : PuOk p) (hn : A.j.own = none → NumOk (A.j.last + 1) ∧ In64 (A.j.last + 1) ∧ In64 A.j.puts) (hll : A.j.logs.length ≤ 1073741824)
    (hL : Lets B w) (hLB : ∀ k, FT k → B ≤ k) (hF : Fit P a c m) (hlm : Lim (a + 1) (c + 1) (m + 33)) (hsm : ∀ k, k < 8 → (L k).length < 1099511627000) (hl : 1 ≤ life ∧ life ≤ 4611686018427387904) (hc : In64 clock) :
    Calls Tryz.prog 66 #[.pointer (some ⟨sb, 0, none⟩), puAgg p] w fun e w' => e = .returned (.int .i64 (A.add P p).2.1) ∧
      Into w FT w' (fun w' FT' => SF w' sb ab b mu life win clock ro (if (A.add P p).1 = true then keptL L (oldestN clock life) p.1.toNat p.2.1 p.2.2 else L) (A.add P p).2.2.1 (A.add P p).2.2.2 FT') := by
  have hA : Chg (fun _ => False) w (w.alloc (.cells #[.int .i64 p.1, .int .i64 p.2.1, .int .i64 p.2.2] 113)) := (Chg.refl _ w).alloc _
  have hbx := heap_alloc_new w (.cells #[.int .i64 p.1, .int .i64 p.2.1, .int .i64 p.2.2] 113)
  have hsz : w.heap.size < (w.alloc (.cells #[.int .i64 p.1, .int .i64 p.2.1, .int .i64 p.2.2] 113)).heap.size := by simp
  generalize hw0 : (w.alloc (.cells #[.int .i64 p.1, .int .i64 p.2.1, .int .i64 p.2.2] 113)) = w0 at hA hbx hsz
  have hAd : Chg (fun _ => False) w w0.drew := hA.drew
  obtain ⟨lv, F0, h1, h2⟩ := h
  have hV := h1.chg0 hAd
  have nx : ¬ F0 w.heap.size := fun hx => Nat.lt_irrefl _ (h1.lt _ hx)
  have AA : Hid (Calls Tryz.prog 105 #[.pointer (some ⟨ab, 0, none⟩), puAgg p] w0.drew fun e w1 => e = .returned (.tuple #[.bool (A.add P p).1, .int .i64 (A.add P p).2.1]) ∧
      (w1.cell? ⟨sb, 2, none⟩ = some (.pointer (some ⟨ab, 0, none⟩)) ∧ w1.heap[w.heap.size]? = some (.cells #[.int .i64 p.1, .int .i64 p.2.1, .int .i64 p.2.2] 113 (0, 0))) ∧
      Into w FT w1 (fun w' FT' => SF w' sb ab b mu life win clock ro L (A.add P p).2.2.1 (A.add P p).2.2.2 FT')) := by
    refine (aradd_any w0.drew p hV.ar hV.lt hp hn hll (hL.keep0 hAd) (fun k hk => hLB k (h2 k (.inl hk))) hF hlm).mono ?_
    rintro e w1 ⟨rfl, hI⟩
    exact ⟨rfl, ⟨(hV.blk.chg hI.1 hV.ns).c2, (hI.1.block _ hsz nx).trans hbx⟩, (hV.arTo h2 hI).before hAd⟩
  have KE : Hid (∀ w1, Into w FT w1 (fun w' FT' => SF w' sb ab b mu life win clock ro L (A.add P p).2.2.1 (A.add P p).2.2.2 FT') → Calls Tryz.prog 60 #[.pointer (some ⟨sb, 0, none⟩), puAgg p] w1 fun e w' => e = .returned (.tuple #[]) ∧
      Into w FT w' (fun w' FT' => SF w' sb ab b mu life win clock ro (keptL L (oldestN clock life) p.1.toNat p.2.1 p.2.2) (A.add P p).2.2.1 (A.add P p).2.2.2 FT')) := fun w1 hI => by
    obtain ⟨c1, F1, h3, h4, h5⟩ := hI
    refine (keep_sf w1 p h3 hp.1 hsm hl hc).mono ?_
    rintro e w' ⟨rfl, h6⟩
    exact ⟨rfl, Into.step c1 h5 h6⟩
  have c2 : w0.cell? ⟨sb, 2, none⟩ = some (.pointer (some ⟨ab, 0, none⟩)) := (h1.chg0 hA).blk.c2
  obtain ⟨p1, p2, p3⟩ := p
  unfold puAgg at AA KE ⊢
  dsimp only at AA KE hbx hw0 ⊢
  have q0 : w0.cell? ⟨w.heap.size, 0, none⟩ = some (.int .i64 p1) := by simp only [World.cell?, hbx]; rfl
  have q1 : w0.cell? ⟨w.heap.size, 1, none⟩ = some (.int .i64 p2) := by simp only [World.cell?, hbx]; rfl
  have q2 : w0.cell? ⟨w.heap.size, 2, none⟩ = some (.int .i64 p3) := by simp only [World.cell?, hbx]; rfl
  obtain ⟨R, hR⟩ : ∃ R, A.add P (p1, p2, p3) = R := ⟨_, rfl⟩
  rw [hR] at AA KE ⊢
  obtain ⟨R1, R2, R3, R4⟩ := R
  dsimp only at AA KE ⊢
  obtain ⟨L2, hL2⟩ : ∃ L2, keptL L (oldestN clock life) p1.toNat p2 p3 = L2 := ⟨_, rfl⟩
  rw [hL2] at KE ⊢
  clear hL2 hR hA hbx hsz hAd hV nx h1 h2 _hFT hp hn hll hL hLB hF hlm hsm hl hc
  have tail : ∀ R1 : Bool, R1 = true ∨ R1 = false := by intro x; cases x <;> simp
  go_enter Tryz.func66, Tryz.ntmps66
  go_wp2
  refine wp_region_sch (fun w' => w'.cell? ⟨sb, 2, none⟩ = some (.pointer (some ⟨ab, 0, none⟩)) ∧ w'.cell? ⟨w.heap.size, 0, none⟩ = some (.int .i64 p1) ∧ w'.cell? ⟨w.heap.size, 1, none⟩ = some (.int .i64 p2) ∧ w'.cell? ⟨w.heap.size, 2, none⟩ = some (.int .i64 p3)) 10
    [(0, true), (1, true), (2, true), (3, true), (4, true), (5, false), (6, true), (7, true), (8, true), (9, true)] (by kernel_rfl) (by kernel_rfl) (fun _ _ _ _ _ h => h) ⟨c2, q0, q1, q2⟩ ?_
  iterate 5 (refine wpSch_take (v := ?_) rfl (by rfl) ?_ ?_; rotate_left; (· (intro w' hS; (try dsimp only at hS); go_simp; try with_reducible rfl)); (try simp only [Act.put, List.setIfInBounds_toArray, List.set_cons_zero, List.set_cons_succ, List.getElem_toArray, List.getElem_cons_zero, List.getElem_cons_succ]))
  refine wpSch_do rfl (by rfl) (fun K hK => ?_)
  go_simp
  refine AA.out.mono ?_
  rintro e w1 ⟨rfl, ⟨y2, hh⟩, hI⟩
  have r0 : w1.cell? ⟨w.heap.size, 0, none⟩ = some (.int .i64 p1) := by simp only [World.cell?, hh]; rfl
  have r1 : w1.cell? ⟨w.heap.size, 1, none⟩ = some (.int .i64 p2) := by simp only [World.cell?, hh]; rfl
  have r2 : w1.cell? ⟨w.heap.size, 2, none⟩ = some (.int .i64 p3) := by simp only [World.cell?, hh]; rfl
  refine hK _ _ ⟨y2, r0, r1, r2⟩ (fun hS => ?_)
  have KE1 := hide (KE.out w1 hI)
  have HI := hide hI
  clear hK K hS hI hh AA KE hw0
  (try simp only [Act.put, List.setIfInBounds_toArray, List.set_cons_zero, List.set_cons_succ, List.getElem_toArray, List.getElem_cons_zero, List.getElem_cons_succ])
  iterate 4 (refine wpSch_take (v := ?_) rfl (by rfl) ?_ ?_; rotate_left; (· (intro w' hS; (try dsimp only at hS); go_simp; try with_reducible rfl)); (try simp only [Act.put, List.setIfInBounds_toArray, List.set_cons_zero, List.set_cons_succ, List.getElem_toArray, List.getElem_cons_zero, List.getElem_cons_succ]))
  refine wpSch_end ?_
  simp only [List.drop_succ_cons, List.drop_zero]
  cases R1
  · go_wp2
    go_ret
    exact ⟨rfl, by simpa using HI.out⟩
  · go_wp2_with (go_at_call 60; refine KE1.out.mono ?_; rintro e w2 ⟨rfl, hS⟩; have HS := hide hS; clear hS)
    go_ret
    exact ⟨rfl, by simpa using HS.out⟩
set_option maxRecDepth 100000 in
set_option maxHeartbeats 2000000 in
theorem change_put (w : World) (x : Nat) (n : Int) (h : SF w sb ab b mu life win clock false L A P FT) (CL : Calls Tryz.prog 65 #[.pointer (some ⟨x, 0, none⟩), .pointer (some ⟨x + 1, 0, none⟩), .pointer (some ⟨x + 2, 0, none⟩), .pointer (some ⟨x + 3, 0, none⟩)] w fun e w' => e = .returned (.int .i64 n) ∧ Into w FT w' (fun w' FT' => SF w' sb ab b mu life win clock false L' A' P' FT')) :
    Calls Tryz.prog 64 #[.pointer (some ⟨sb, 0, none⟩), .func (Fn.func 65) #[] #[.pointer (some ⟨x, 0, none⟩), .pointer (some ⟨x + 1, 0, none⟩), .pointer (some ⟨x + 2, 0, none⟩), .pointer (some ⟨x + 3, 0, none⟩)]] w fun e w' => e = .returned (.int .i64 n) ∧ Into w FT w' (fun w' FT' => SF w' sb ab b mu life win clock (decide (n ≠ 0)) L' A' P' FT') := by
  obtain ⟨lv, F0, h1, h2⟩ := h
  have c6 := h1.blk.cR
  have HC := hide CL
  clear h1 h2 CL
  by_cases hn : n = 0
  · subst hn
    go_enter Tryz.func64, Tryz.ntmps64
    go_wp2_with (go_at_call 65; refine HC.out.mono ?_; rintro e w2 ⟨rfl, hS⟩; have HS := hide hS; obtain ⟨-, F2, ⟨lv2, F3, a1, -⟩, -, -⟩ := hS; have y6 := a1.blk.cR; have f6 := a1.blk.fz 6; clear a1)
    go_ret
    exact ⟨rfl, SFto.cell HS.out 6 _ fun lv h => h.sR false⟩
  · have hb : (n != 0) = true := by simpa using hn
    have e0 : decide (n ≠ 0) = true := by simpa using hn
    rw [e0]
    clear hn e0
    go_enter Tryz.func64, Tryz.ntmps64
    go_wp2_with (go_at_call 65; refine HC.out.mono ?_; rintro e w2 ⟨rfl, hS⟩; have HS := hide hS; obtain ⟨-, F2, ⟨lv2, F3, a1, -⟩, -, -⟩ := hS; have y6 := a1.blk.cR; have f6 := a1.blk.fz 6; clear a1)
    go_ret
    exact ⟨rfl, SFto.cell HS.out 6 _ fun lv h => h.sR true⟩
set_option maxRecDepth 100000 in
set_option maxHeartbeats 2000000 in
theorem change_flush (w : World) (x : Nat) (n : Int) (h : SF w sb ab b mu life win clock false L A P FT) (CL : Calls Tryz.prog 67 #[.pointer (some ⟨x, 0, none⟩)] w fun e w' => e = .returned (.int .i64 n) ∧ Into w FT w' (fun w' FT' => SF w' sb ab b mu life win clock false L' A' P' FT')) :
    Calls Tryz.prog 64 #[.pointer (some ⟨sb, 0, none⟩), .func (Fn.func 67) #[] #[.pointer (some ⟨x, 0, none⟩)]] w fun e w' => e = .returned (.int .i64 n) ∧ Into w FT w' (fun w' FT' => SF w' sb ab b mu life win clock (decide (n ≠ 0)) L' A' P' FT') := by
  obtain ⟨lv, F0, h1, h2⟩ := h
  have c6 := h1.blk.cR
  have HC := hide CL
  clear h1 h2 CL
  by_cases hn : n = 0
  · subst hn
    go_enter Tryz.func64, Tryz.ntmps64
    go_wp2_with (go_at_call 67; refine HC.out.mono ?_; rintro e w2 ⟨rfl, hS⟩; have HS := hide hS; obtain ⟨-, F2, ⟨lv2, F3, a1, -⟩, -, -⟩ := hS; have y6 := a1.blk.cR; have f6 := a1.blk.fz 6; clear a1)
    go_ret
    exact ⟨rfl, SFto.cell HS.out 6 _ fun lv h => h.sR false⟩
  · have hb : (n != 0) = true := by simpa using hn
    have e0 : decide (n ≠ 0) = true := by simpa using hn
    rw [e0]
    clear hn e0
    go_enter Tryz.func64, Tryz.ntmps64
    go_wp2_with (go_at_call 67; refine HC.out.mono ?_; rintro e w2 ⟨rfl, hS⟩; have HS := hide hS; obtain ⟨-, F2, ⟨lv2, F3, a1, -⟩, -, -⟩ := hS; have y6 := a1.blk.cR; have f6 := a1.blk.fz 6; clear a1)
    go_ret
    exact ⟨rfl, SFto.cell HS.out 6 _ fun lv h => h.sR true⟩
set_option maxRecDepth 100000 in
set_option maxHeartbeats 2000000 in
theorem change_compact (w : World) (x : Nat) (n : Int) (h : SF w sb ab b mu life win clock false L A P FT) (CL : Calls Tryz.prog 69 #[.pointer (some ⟨x, 0, none⟩)] w fun e w' => e = .returned (.int .i64 n) ∧ Into w FT w' (fun w' FT' => SF w' sb ab b mu life win clock false L' A' P' FT')) :
    Calls Tryz.prog 64 #[.pointer (some ⟨sb, 0, none⟩), .func (Fn.func 69) #[] #[.pointer (some ⟨x, 0, none⟩)]] w fun e w' => e = .returned (.int .i64 n) ∧ Into w FT w' (fun w' FT' => SF w' sb ab b mu life win clock (decide (n ≠ 0)) L' A' P' FT') := by
  obtain ⟨lv, F0, h1, h2⟩ := h
  have c6 := h1.blk.cR
  have HC := hide CL
  clear h1 h2 CL
  by_cases hn : n = 0
  · subst hn
    go_enter Tryz.func64, Tryz.ntmps64
    go_wp2_with (go_at_call 69; refine HC.out.mono ?_; rintro e w2 ⟨rfl, hS⟩; have HS := hide hS; obtain ⟨-, F2, ⟨lv2, F3, a1, -⟩, -, -⟩ := hS; have y6 := a1.blk.cR; have f6 := a1.blk.fz 6; clear a1)
    go_ret
    exact ⟨rfl, SFto.cell HS.out 6 _ fun lv h => h.sR false⟩
  · have hb : (n != 0) = true := by simpa using hn
    have e0 : decide (n ≠ 0) = true := by simpa using hn
    rw [e0]
    clear hn e0
    go_enter Tryz.func64, Tryz.ntmps64
    go_wp2_with (go_at_call 69; refine HC.out.mono ?_; rintro e w2 ⟨rfl, hS⟩; have HS := hide hS; obtain ⟨-, F2, ⟨lv2, F3, a1, -⟩, -, -⟩ := hS; have y6 := a1.blk.cR; have f6 := a1.blk.fz 6; clear a1)
    go_ret
    exact ⟨rfl, SFto.cell HS.out 6 _ fun lv h => h.sR true⟩
end
end Go.Proofs.YtodcnkbblippnaaGreatDoor
