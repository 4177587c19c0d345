/-
  The statement PassingCardSaid is proved: the law Passing answers true, at every four numbers; there is no condition.
  Part 21 of 34.
-/
import Derived.Test.YtodcnkbblippnaaGreatDoorPart20
/- Walks: the files that count, and the others: parted. -/
namespace Go.Proofs.YtodcnkbblippnaaGreatDoor
open Go.RowKit
attribute [local go_sem ↓] NoP_normal

theorem Tryz.infoStr : (Tryz.prog.info? 9).map (fun i => (i.zero, i.size, i.bytes)) = some (some (.string ⟨#[]⟩), 1, 16) := by kernel_rfl
theorem strInfo : ∃ i0, Tryz.prog.info? 9 = some i0 ∧ i0.zero = some (.string ⟨#[]⟩) ∧ i0.size = 1 ∧ i0.bytes = 16 := by
  have h := Tryz.infoStr
  cases hx : Tryz.prog.info? 9 with
  | none => rw [hx] at h; cases h
  | some i => rw [hx] at h; simp at h; exact ⟨i, rfl, h.1, h.2.1, h.2.2⟩
/-- Names in their order. -/
def inOrder (l : List Bs) : List Bs := l.mergeSort fun x y => decide (x ≤ y)
theorem inOrder_asc (l : List Bs) : (inOrder l).Pairwise fun a b => ¬ b < a := by
  have h := List.pairwise_mergeSort (le := fun x y : Bs => decide (x ≤ y)) (fun a b c h1 h2 => by simp at h1 h2 ⊢; exact List.le_trans h1 h2) (fun a b => by simp; exact List.le_total a b) l
  exact h.imp fun hab => by simpa using hab
theorem inOrder_mem (l : List Bs) (x : Bs) : x ∈ inOrder l ↔ x ∈ l := List.mem_mergeSort
theorem inOrder_length (l : List Bs) : (inOrder l).length = l.length := List.length_mergeSort _
section
variable {w : World} {ab b xb jb B : Nat} {sv ov lv jo : Value} {A : Ar} {P : PD} {Ft FT : Nat → Prop} {a c m : Nat}
theorem elemOther {w : World} {e e2 size size2 n n2 base base2 : Nat} {v v2 : Value} {xs xs2 : List Value} (h : w.ownsRow base e size v n xs) (h2 : w.ownsRow base2 e2 size2 v2 n2 xs2) (hne : e ≠ e2) {g : Nat} (hg : v.ownBlock = some g) : ¬ v2.ownBlock = some g := fun hg2 => by
  obtain ⟨c, hc⟩ := ownsRow_elem h hg
  obtain ⟨c2, hc2⟩ := ownsRow_elem h2 hg2
  exact elem_ne hc hc2 hne rfl
set_option maxRecDepth 100000 in
set_option maxHeartbeats 16000000 in
theorem parted_any (w : World) (h : ArV w ab b xb jb sv ov lv jo A P Ft) (hF : Fit P a c m) (hl : Lim a c m) (hn : ∀ n ∈ A.ix.segs, NumOk n) (hnl : ∀ n ∈ A.j.logs, NumOk n) (hsl : A.ix.segs.length ≤ 1073741824) (hll : A.j.logs.length ≤ 1073741824) (hL : Lets B w) :
    Calls Tryz.prog 100 #[.pointer (some ⟨ab, 0, none⟩)] w fun e w' => ∃ v1 v2, e = .returned (.tuple #[v1, v2]) ∧ StSl w' v1 (A.counting P) ∧ StSl w' v2 (A.others P) ∧ (∀ g, v1.ownBlock = some g → w.heap.size ≤ g) ∧ (∀ g, v2.ownBlock = some g → w.heap.size ≤ g) ∧ Chg (fun _ => False) w w' := by
  obtain ⟨i0, hi, hz0, hz1, hz2⟩ := strInfo
  have HV := hide h
  have NO : Hid (∀ w1 k n, Chg (fun _ => False) w w1 → 1 ≤ k ∧ k ≤ 4 → NumOk n → Calls Tryz.prog 134 #[.int .i64 (k : Nat), .int .i64 n] w1 fun e w' => e = .returned (.string ⟨(nmOf k n).toArray⟩) ∧ Chg (fun _ => False) w1 w') := fun w1 k n hc hk hn => nameOf_nm (n := n) w1 k hk ⟨by have := hn.1; omega, hn.2.1⟩ hn.2.2 (hL.keep0 hc)
  have NO3 := hide (NO.out w 3 0 (Chg.refl _ w) (by omega) (numOk_of (by omega) (by omega)))
  have LG : Hid (∀ w1, Chg (fun _ => False) w w1 → Calls Tryz.prog 136 #[.pointer (some ⟨jb, 0, none⟩)] w1 fun e w' => ∃ v, e = .returned v ∧ InSl w' v A.j.logs ∧ (∀ g, v.ownBlock = some g → w1.heap.size ≤ g) ∧ Chg (fun _ => False) w1 w') := fun w1 hc => logs_any w1 (h.jn.chg0 hc) hll
  have LI : Hid (∀ w1, Chg (fun _ => False) w w1 → Calls Tryz.prog 76 #[.pointer (some ⟨b, 0, none⟩)] w1 fun e w' => ∃ v, e = .returned v ∧ StSl w' v P.names ∧ Chg (fun _ => False) w1 w' ∧ (∀ g, v.ownBlock = some g → w1.heap.size ≤ g)) := fun w1 hc => listD (RepU.same h.dk h.lt hc) hF hl
  have hpl : P.names.length ≤ 1073741824 := by rw [names_length]; exact Nat.le_trans hF.dir hl.a
  have HNN : Hid (A.names = [nmIdx] ++ A.j.logs.map nmLog ++ A.ix.segs.map nmSeg) := rfl
  have HCO : Hid (A.counting P = P.names.filter fun nm => decide (nm ∈ A.names)) := rfl
  have HOT : Hid (A.others P = P.names.filter fun nm => !decide (nm ∈ A.names)) := rfl
  have HN1 := hide hn
  have HN2 := hide hnl
  obtain ⟨CO, hCO⟩ : ∃ x, A.counting P = x := ⟨_, rfl⟩
  obtain ⟨OT, hOT⟩ : ∃ x, A.others P = x := ⟨_, rfl⟩
  obtain ⟨NS, hNS⟩ : ∃ x, A.names = x := ⟨_, rfl⟩
  rw [hCO, hNS] at HCO
  rw [hOT, hNS] at HOT
  rw [hNS] at HNN
  rw [hCO, hOT]
  have hnsl : NS.length ≤ 4294967296 := by rw [HNN.out]; simp; omega
  have hsg := h.segs
  clear hCO hOT hNS hn hnl hF hl hL h
  generalize hns : P.names = ns at *
  generalize hlgs : A.j.logs = lgs at *
  generalize hss : A.ix.segs = ss at *
  clear hns
  obtain ⟨sa, scap, rfl, sc1, sc2⟩ := hsg.form
  unfold maxLen at sc2
  have HSG := hide hsg
  clear hsg
  go_enter Tryz.func100, Tryz.ntmps100
  go_wp2_with (fail)
  refine NO3.out.mono ?_
  rintro e w1 ⟨rfl, hc1⟩
  have e3 : nmOf ((3 : Nat) : Int) 0 = nmIdx := rfl
  rw [e3]
  have hc2 : Chg (fun _ => False) w (w1.alloc (.cells #[.string ⟨nmIdx.toArray⟩] 9)) := hc1.alloc _
  have a2 := ((HV.out.chg0 hc2).blk).c2
  have HNAM : Hid (StSl (w1.alloc (.cells #[.string ⟨nmIdx.toArray⟩] 9)) (.slice (some ⟨w1.heap.size, 0, none⟩) 1 1) [nmIdx]) :=
    ⟨rfl, .inr ⟨w1.heap.size, 1, _, rfl, Nat.zero_le _, heap_alloc_new w1 _, Nat.le_refl _, by decide, rfl, rfl⟩⟩
  have LG2 := hide (LG.out _ hc2)
  have HC2 := hide hc2
  have HS1 : Hid (w.heap.size ≤ w1.heap.size) := hc1.size
  clear hc1 hc2 NO3 LG e3
  go_wp2_with (fail)
  refine LG2.out.mono ?_
  rintro e w2 ⟨v, rfl, hv, hvo, hc3⟩
  obtain ⟨la, lcap, rfl, lc1, lc2⟩ := (InSl.rd hv).form
  unfold maxLen at lc2
  have HLG := hide hv
  have HLO := hide hvo
  have HC3 : Hid (Chg (fun _ => False) w w2) := HC2.out.trans hc3 fun _ h _ => h
  have HNAM2 : Hid (StSl w2 (.slice (some ⟨w1.heap.size, 0, none⟩) 1 1) [nmIdx]) := ownsRow_same HNAM.out fun g hg => hc3.block g (ownsRow_lt HNAM.out hg) (fun h => h)
  clear hv hvo hc3 LG2 HNAM HC2 a2
  go_wp2
  -- the logs' names
  go_loopw [4, 23] (fun v iv wr => ∃ k : Nat, iv = .int .i64 k ∧ k ≤ lgs.length ∧ Hid (StSl wr v ([nmIdx] ++ (lgs.take k).map nmLog) ∧ (∀ g, v.ownBlock = some g → w.heap.size ≤ g) ∧ Chg (fun _ => False) w wr ∧ InSl wr (.slice la lgs.length lcap) lgs)) (fun _ iv _ => lgs.length - (intOf iv).toNat)
  case atStart => exact ⟨0, rfl, by omega, by simpa using HNAM2.out, fun g hg => by simp [Value.ownBlock] at hg; have := HS1.out; omega, HC3.out, HLG.out⟩
  case round =>
    obtain ⟨k, rfl, hk, hI⟩ := hrel
    obtain ⟨i1, i2, i3, i4⟩ := hI.out
    obtain ⟨ap, cp, rfl, hcap1, hcap2, -⟩ := ownsRow_form i1
    unfold maxLen at hcap2
    by_cases hk1 : k < lgs.length
    · obtain ⟨g, o, rfl, d1⟩ := RdI.at (InSl.rd i4) k hk1
      have hmem := HN2.out _ (List.getElem_mem hk1)
      have htk : lgs.take (k + 1) = lgs.take k ++ [lgs[k]'hk1] := List.take_succ_eq_append_getElem hk1
      obtain ⟨n, hne⟩ : ∃ n, (lgs[k]'hk1) = n := ⟨_, rfl⟩
      rw [hne] at d1 hmem htk
      have NO1 := hide (NO.out wr 1 n i3 (by omega) hmem)
      rw [show ((1 : Nat) : Int) = 1 from rfl] at NO1
      have HTK : Hid ([nmIdx] ++ (lgs.take (k + 1)).map nmLog = ([nmIdx] ++ (lgs.take k).map nmLog) ++ [nmLog n]) := by unfold Hid; rw [htk]; simp
      have hnm : nmOf 1 n = nmLog n := rfl
      rw [hnm] at NO1
      have hcl : ([nmIdx] ++ (lgs.take k).map nmLog).length ≤ 4294967296 := by simp; omega
      obtain ⟨cur, hcur⟩ : ∃ cur, [nmIdx] ++ (lgs.take k).map nmLog = cur := ⟨_, rfl⟩
      rw [hcur] at i1 i2 HTK hcl hcap1
      have HCL := hide hcl
      have el : ([nmIdx] ++ (lgs.take k).map nmLog).length = cur.length := by rw [hcur]
      try rw [el]
      obtain ⟨nm, hnme⟩ : ∃ nm, nmLog n = nm := ⟨_, rfl⟩
      rw [hnme] at NO1 HTK
      have I1 := hide i1
      have I2 := hide i2
      have I3 := hide i3
      have I4 := hide i4
      have hki : (k : Int) < (lgs.length : Int) := by omega
      have hk0 : (0 : Int) ≤ (k : Int) := Int.natCast_nonneg _
      have HEL := hide el
      clear hI i1 i2 i3 i4 hmem htk hne hcur hnm hnme hcl el
      go_wp2_with (fail)
      refine NO1.out.mono ?_
      rintro e w6 ⟨rfl, hc6⟩
      have C6 := hide hc6
      have HROW : Hid ((w6.alloc (.cells #[.string ⟨nm.toArray⟩] 9)).ownsRow 0 9 1 (.slice ap cur.length cp) cur.length (bsVals cur)) := ownsRow_same I1.out fun g hg => (hc6.alloc _).block g (ownsRow_lt I1.out hg) (fun h => h)
      have HSR := hide (Src.ofNew (size := 1) (B := w6.heap.size) Tryz.underlying121 w6 #[.string ⟨nm.toArray⟩] 9 (by simp) 1 1 rfl (bsVals_oneCell [nm]))
      clear hc6 NO1
      go_wp2_with (at_builtin; refine wpList_app rfl (.tmp 27) (.tmp 30) 121 121 rfl 9 i0 _ 1 16 Tryz.underlying121 hi hz0 hz1 hz2 rfl (by decide) (.slice ap cur.length cp) cur.length (bsVals cur) (by rfl) HROW.out _ 1 _ (by rfl) HSR.out (by have := HCL.out; omega) ?_; intro a8 cap8 w8 hA; have HA := hide hA; clear hA)
      go_roundw
      case rel =>
        have hA := HA.out
        have k7 : Chg (fun _ => False) wr (w6.alloc (.cells #[.string ⟨nm.toArray⟩] 9)) := C6.out.alloc _
        have hA2 := hA.chg (S := fun k => (Value.slice ap cur.length cp).ownBlock = some k) fun _ h => h
        have k8 : Chg (fun k => (Value.slice ap cur.length cp).ownBlock = some k) wr w8 := (k7.mono fun _ _ h => h.elim).trans hA2 fun _ h _ => h
        have e : (cur ++ [nm]).length = cur.length + 1 := by simp
        have e2 : bsVals (cur ++ [nm]) = bsVals cur ++ bsVals [nm] := bsVals_append _ _
        refine ⟨k + 1, by go_num, by omega, ?_, ?_, ?_, ?_⟩
        · rw [HTK.out]
          unfold StSl
          rw [e, e2]
          exact hA.own
        · intro g hg
          rcases hA.at_ with h | h
          · rw [h] at hg; exact I2.out g hg
          · rw [h] at hg; cases hg; have := I3.out.size; have := k7.size; have := C6.out.size; omega
        · exact I3.out.trans k8 fun y hy hlt => by have := I2.out y hy; omega
        · exact ownsRow_same I4.out fun g hg => k8.block g (ownsRow_lt I4.out hg) (elemOther I4.out I1.out (by decide) hg)
      case measure => simp [intOf]; omega
    · obtain rfl : k = lgs.length := by omega
      rw [List.take_length] at i1 i2
      have hki : ¬ ((lgs.length : Int) < (lgs.length : Int)) := by omega
      obtain ⟨cur, hcur⟩ : ∃ cur, [nmIdx] ++ lgs.map nmLog = cur := ⟨_, rfl⟩
      have el : ([nmIdx] ++ (lgs.take lgs.length).map nmLog).length = cur.length := by rw [List.take_length, hcur]
      rw [hcur] at i1 i2
      rw [hcur] at HNN
      try rw [el]
      have I1 := hide i1
      have I2 := hide i2
      have I3 := hide i3
      have a1 := (HV.out.chg0 i3).blk.c1
      have x4 := (HV.out.chg0 i3).ix.c4
      have HCUR := hide hcur
      clear hI i1 i2 i3 i4 HN2 HNAM2 HLG HLO HC3 el hcur
      go_wp2
      have hcl : cur.length + ss.length ≤ 4294967296 := by have := hnsl; rw [HNN.out] at this; simpa using this
      -- the segments' names
      go_loopw [4, 41] (fun v iv wr => ∃ k : Nat, iv = .int .i64 k ∧ k ≤ ss.length ∧ Hid (StSl wr v (cur ++ (ss.take k).map nmSeg) ∧ (∀ g, v.ownBlock = some g → w.heap.size ≤ g) ∧ Chg (fun _ => False) w wr)) (fun _ iv _ => ss.length - (intOf iv).toNat)
      case atStart => exact ⟨0, rfl, by omega, by simpa using I1.out, I2.out, I3.out⟩
      case round =>
        obtain ⟨k, rfl, hk, hI⟩ := hrel
        obtain ⟨i1, i2, i3⟩ := hI.out
        obtain ⟨ap2, cp2, rfl, hcap3, hcap4, -⟩ := ownsRow_form i1
        unfold maxLen at hcap4
        by_cases hk1 : k < ss.length
        · obtain ⟨g, o, rfl, d0⟩ := RdI.at HSG.out k hk1
          have d1 := i3.cellKeep d0
          have hmem := HN1.out _ (List.getElem_mem hk1)
          have htk : ss.take (k + 1) = ss.take k ++ [ss[k]'hk1] := List.take_succ_eq_append_getElem hk1
          obtain ⟨n, hne⟩ : ∃ n, (ss[k]'hk1) = n := ⟨_, rfl⟩
          rw [hne] at d0 d1 hmem htk
          have NO1 := hide (NO.out wr 2 n i3 (by omega) hmem)
          rw [show ((2 : Nat) : Int) = 2 from rfl] at NO1
          have HTK : Hid (cur ++ (ss.take (k + 1)).map nmSeg = (cur ++ (ss.take k).map nmSeg) ++ [nmSeg n]) := by unfold Hid; rw [htk]; simp
          have hnm : nmOf 2 n = nmSeg n := rfl
          rw [hnm] at NO1
          have hcl2 : (cur ++ (ss.take k).map nmSeg).length ≤ 4294967296 := by simp; omega
          obtain ⟨cu, hcu⟩ : ∃ cu, cur ++ (ss.take k).map nmSeg = cu := ⟨_, rfl⟩
          rw [hcu] at i1 i2 HTK hcl2 hcap3
          have HCL := hide hcl2
          have el : (cur ++ (ss.take k).map nmSeg).length = cu.length := by rw [hcu]
          try rw [el]
          obtain ⟨nm, hnme⟩ : ∃ nm, nmSeg n = nm := ⟨_, rfl⟩
          rw [hnme] at NO1 HTK
          have J1 := hide i1
          have J2 := hide i2
          have J3 := hide i3
          have hki : (k : Int) < (ss.length : Int) := by omega
          have hk0 : (0 : Int) ≤ (k : Int) := Int.natCast_nonneg _
          clear hI i1 i2 i3 hmem htk hne hcu hnm hnme hcl2 el d0
          go_wp2_with (fail)
          refine NO1.out.mono ?_
          rintro e w6 ⟨rfl, hc6⟩
          have C6 := hide hc6
          have HROW : Hid ((w6.alloc (.cells #[.string ⟨nm.toArray⟩] 9)).ownsRow 0 9 1 (.slice ap2 cu.length cp2) cu.length (bsVals cu)) := ownsRow_same J1.out fun g hg => (hc6.alloc _).block g (ownsRow_lt J1.out hg) (fun h => h)
          have HSR := hide (Src.ofNew (size := 1) (B := w6.heap.size) Tryz.underlying121 w6 #[.string ⟨nm.toArray⟩] 9 (by simp) 1 1 rfl (bsVals_oneCell [nm]))
          clear hc6 NO1
          go_wp2_with (at_builtin; refine wpList_app rfl (.tmp 45) (.tmp 48) 121 121 rfl 9 i0 _ 1 16 Tryz.underlying121 hi hz0 hz1 hz2 rfl (by decide) (.slice ap2 cu.length cp2) cu.length (bsVals cu) (by rfl) HROW.out _ 1 _ (by rfl) HSR.out (by have := HCL.out; omega) ?_; intro a8 cap8 w8 hA; have HA := hide hA; clear hA)
          go_roundw
          case rel =>
            have hA := HA.out
            have k7 : Chg (fun _ => False) wr (w6.alloc (.cells #[.string ⟨nm.toArray⟩] 9)) := C6.out.alloc _
            have hA2 := hA.chg (S := fun k => (Value.slice ap2 cu.length cp2).ownBlock = some k) fun _ h => h
            have k8 : Chg (fun k => (Value.slice ap2 cu.length cp2).ownBlock = some k) wr w8 := (k7.mono fun _ _ h => h.elim).trans hA2 fun _ h _ => h
            have e : (cu ++ [nm]).length = cu.length + 1 := by simp
            have e2 : bsVals (cu ++ [nm]) = bsVals cu ++ bsVals [nm] := bsVals_append _ _
            refine ⟨k + 1, by go_num, by omega, ?_, ?_, ?_⟩
            · rw [HTK.out]
              unfold StSl
              rw [e, e2]
              exact hA.own
            · intro g hg
              rcases hA.at_ with h | h
              · rw [h] at hg; exact J2.out g hg
              · rw [h] at hg; cases hg; have := J3.out.size; have := k7.size; have := C6.out.size; omega
            · exact J3.out.trans k8 fun y hy hlt => by have := J2.out y hy; omega
          case measure => simp [intOf]; omega
        · obtain rfl : k = ss.length := by omega
          rw [List.take_length, ← HNN.out] at i1 i2
          have hki : ¬ ((ss.length : Int) < (ss.length : Int)) := by omega
          have el : (cur ++ (ss.take ss.length).map nmSeg).length = NS.length := by rw [List.take_length, HNN.out]
          try rw [el]
          have SO := hide (sortStr_any wr _ NS i1 (by omega))
          have J2 := hide i2
          have J3 := hide i3
          clear hI i1 i2 i3 el I1 I2 I3 a1 x4 HSG HN1 NO
          go_wp2_with (fail)
          refine SO.out.mono ?_
          rintro e w3 ⟨rfl, hs3, hc3⟩
          have C3 : Hid (Chg (fun _ => False) w w3) := J3.out.trans hc3 fun y hy hlt => by have := J2.out y hy; omega
          have HS3 : Hid (RdS w3 (.slice ap2 NS.length cp2) (inOrder NS)) := StSl.rd hs3
          have LI3 := hide (LI.out w3 C3.out)
          have a0 := (HV.out.chg0 C3.out).blk.c0
          clear hs3 hc3 SO LI J3
          go_wp2_with (fail)
          refine LI3.out.mono ?_
          rintro e w4 ⟨v, rfl, hv4, hc4, hvo4⟩
          obtain ⟨na, ncap, rfl, nc1, nc2⟩ := (StSl.rd hv4).form
          unfold maxLen at nc2
          have HN4 := hide (StSl.rd hv4)
          have C4 : Hid (Chg (fun _ => False) w w4) := C3.out.trans hc4 fun _ h _ => h
          have HS4 := hide (HS3.out.chg hc4 (fun _ _ h => h))
          have HMEM : Hid (∀ x, decide (x ∈ inOrder NS) = decide (x ∈ NS)) := fun x => by
            by_cases h : x ∈ NS
            · rw [decide_eq_true h, decide_eq_true ((inOrder_mem NS x).2 h)]
            · rw [decide_eq_false h, decide_eq_false fun h' => h ((inOrder_mem NS x).1 h')]
          have hasc := inOrder_asc NS
          have hino := inOrder_length NS
          obtain ⟨SN, hSN⟩ : ∃ SN, inOrder NS = SN := ⟨_, rfl⟩
          rw [hSN] at HS4 HMEM hasc hino
          have HASC := hide hasc
          obtain ⟨sn, hsn⟩ : ∃ sn, NS.length = sn := ⟨_, rfl⟩
          try rw [hsn]
          rw [hsn] at HS4 hino
          have hsnl : sn ≤ 4294967296 := by omega
          have BSR : Hid (∀ wx x, Chg (fun _ => False) w4 wx → Calls Tryz.prog 138 #[.slice ap2 sn cp2, .string ⟨x.toArray⟩] wx fun e w' => ∃ i, e = .returned (.tuple #[.int .i64 i, .bool (decide (x ∈ NS))]) ∧ ∃ q, w' = wx.drewN q) := fun wx x hx => by
            have := bsearch_any wx _ SN x (HS4.out.chg hx (fun _ _ h => h)) (by omega) HASC.out
            rw [HMEM.out x] at this
            exact this
          clear hv4 hc4 hvo4 LI3 C3 HS3 hasc hSN hsn HMEM HS4 HASC HNN a0 J2 HCUR hino
          have hnl3 : ns.length ≤ 1073741824 := hpl
          have HHL : Hid (∀ p : Bs → Bool, ∀ k, ((ns.take k).filter p).length ≤ 1073741824) := fun p k => Nat.le_trans (List.length_filter_le _ _) (Nat.le_trans (List.length_take_le' _ _) hnl3)
          go_wp2
          -- which of them count
          go_loopw [9, 10, 59] (fun v1 v2 iv wr => ∃ k : Nat, iv = .int .i64 k ∧ k ≤ ns.length ∧ Hid (StSl wr v1 ((ns.take k).filter fun nm => decide (nm ∈ NS)) ∧ StSl wr v2 ((ns.take k).filter fun nm => !decide (nm ∈ NS)) ∧ (∀ g, v1.ownBlock = some g → w4.heap.size ≤ g) ∧ (∀ g, v2.ownBlock = some g → w4.heap.size ≤ g) ∧ (∀ g, v1.ownBlock = some g → ¬ v2.ownBlock = some g) ∧ Chg (fun _ => False) w4 wr)) (fun _ _ iv _ => ns.length - (intOf iv).toNat)
          case atStart => exact ⟨0, rfl, by omega, World.ownsRow_nil _ _ _ _, World.ownsRow_nil _ _ _ _, fun g hg => by simp [Value.ownBlock] at hg, fun g hg => by simp [Value.ownBlock] at hg, fun g hg => by simp [Value.ownBlock] at hg, Chg.refl _ _⟩
          case round =>
            obtain ⟨k, rfl, hk, hI⟩ := hrel
            obtain ⟨i1, i2, i3, i4, i5, i6⟩ := hI.out
            obtain ⟨ap, cp, rfl, hcap1, hcap2, -⟩ := ownsRow_form i1
            obtain ⟨aq, cq, rfl, hcaq1, hcaq2, -⟩ := ownsRow_form i2
            unfold maxLen at hcap2 hcaq2
            by_cases hk1 : k < ns.length
            · obtain ⟨g, o, rfl, d0⟩ := RdS.at HN4.out k hk1
              have d1 := i6.cellKeep d0
              have htk : ns.take (k + 1) = ns.take k ++ [ns[k]'hk1] := List.take_succ_eq_append_getElem hk1
              obtain ⟨nm, hne⟩ : ∃ nm, (ns[k]'hk1) = nm := ⟨_, rfl⟩
              rw [hne] at d0 d1 htk
              have BS1 := hide (BSR.out wr nm i6)
              have HT1 : Hid ((ns.take (k + 1)).filter (fun nm => decide (nm ∈ NS)) = (ns.take k).filter (fun nm => decide (nm ∈ NS)) ++ (if nm ∈ NS then [nm] else [])) := by
                unfold Hid; rw [htk, List.filter_append]; by_cases hx : nm ∈ NS <;> simp [hx]
              have HT2 : Hid ((ns.take (k + 1)).filter (fun nm => !decide (nm ∈ NS)) = (ns.take k).filter (fun nm => !decide (nm ∈ NS)) ++ (if nm ∈ NS then [] else [nm])) := by
                unfold Hid; rw [htk, List.filter_append]; by_cases hx : nm ∈ NS <;> simp [hx]
              have HL1 := hide (HHL.out (fun nm => decide (nm ∈ NS)) k)
              have HL2 := hide (HHL.out (fun nm => !decide (nm ∈ NS)) k)
              obtain ⟨l1, hl1⟩ : ∃ l1, (ns.take k).filter (fun nm => decide (nm ∈ NS)) = l1 := ⟨_, rfl⟩
              obtain ⟨l2, hl2⟩ : ∃ l2, (ns.take k).filter (fun nm => !decide (nm ∈ NS)) = l2 := ⟨_, rfl⟩
              rw [hl1] at HT1 HL1 i1 i3 i5
              rw [hl2] at HT2 HL2 i2 i4 i5
              have el1 : ((ns.take k).filter (fun nm => decide (nm ∈ NS))).length = l1.length := by rw [hl1]
              have el2 : ((ns.take k).filter (fun nm => !decide (nm ∈ NS))).length = l2.length := by rw [hl2]
              try rw [el1]
              try rw [el2]
              have J1 := hide i1
              have J2 := hide i2
              have J3 := hide i3
              have J4 := hide i4
              have J5 := hide i5
              have J6 := hide i6
              have hki : (k : Int) < (ns.length : Int) := by omega
              have hk0 : (0 : Int) ≤ (k : Int) := Int.natCast_nonneg _
              clear hI i1 i2 i3 i4 i5 i6 htk hne d0 hl1 hl2 el1 el2 hcap1 hcaq1
              by_cases hx : nm ∈ NS
              · rw [decide_eq_true hx] at BS1
                rw [if_pos hx] at HT1 HT2
                clear hx
                go_wp2_with (fail)
                refine BS1.out.mono ?_
                rintro e w6 ⟨i, rfl, q, rfl⟩
                have HROW : Hid (((wr.drewN q).alloc (.cells #[.string ⟨nm.toArray⟩] 9)).ownsRow 0 9 1 (.slice ap l1.length cp) l1.length (bsVals l1)) := ownsRow_same J1.out fun g hg => (((Chg.refl (fun _ => False) wr).drewN q).alloc _).block g (ownsRow_lt J1.out hg) (fun h => h)
                have HSR := hide (Src.ofNew (size := 1) (B := (wr.drewN q).heap.size) Tryz.underlying121 (wr.drewN q) #[.string ⟨nm.toArray⟩] 9 (by simp) 1 1 rfl (bsVals_oneCell [nm]))
                have K7 : Hid (Chg (fun _ => False) wr ((wr.drewN q).alloc (.cells #[.string ⟨nm.toArray⟩] 9))) := ((Chg.refl (fun _ => False) wr).drewN q).alloc _
                clear BS1
                go_wp2_with (at_builtin; refine wpList_app rfl (.tmp 70) (.tmp 72) 121 121 rfl 9 i0 _ 1 16 Tryz.underlying121 hi hz0 hz1 hz2 rfl (by decide) (.slice ap l1.length cp) l1.length (bsVals l1) (by rfl) HROW.out _ 1 _ (by rfl) HSR.out (by have := HL1.out; omega) ?_; intro a8 cap8 w8 hA; have HA := hide hA; clear hA)
                go_roundw
                case rel =>
                  have hA := HA.out
                  have hA2 := hA.chg (S := fun k => (Value.slice ap l1.length cp).ownBlock = some k) fun _ h => h
                  have k8 : Chg (fun k => (Value.slice ap l1.length cp).ownBlock = some k) wr w8 := (K7.out.mono fun _ _ h => h.elim).trans hA2 fun _ h _ => h
                  have e : (l1 ++ [nm]).length = l1.length + 1 := by simp
                  have e2 : bsVals (l1 ++ [nm]) = bsVals l1 ++ bsVals [nm] := bsVals_append _ _
                  have hown : ∀ g, (Value.slice a8 (l1.length + 1) cap8).ownBlock = some g → (Value.slice ap l1.length cp).ownBlock = some g ∨ wr.heap.size ≤ g := fun g hg => by
                    rcases hA.at_ with h | h
                    · rw [h] at hg; exact .inl hg
                    · rw [h] at hg; cases hg; exact .inr K7.out.size
                  refine ⟨k + 1, by go_num, by omega, ?_, ?_, ?_, J4.out, ?_, ?_⟩
                  · rw [HT1.out]
                    unfold StSl
                    rw [e, e2]
                    exact hA.own
                  · rw [HT2.out, List.append_nil]
                    exact ownsRow_same J2.out fun g hg => k8.block g (ownsRow_lt J2.out hg) fun h => J5.out g h hg
                  · exact fun g hg => (hown g hg).elim (J3.out g) fun h => Nat.le_trans J6.out.size h
                  · exact fun g hg hg2 => (hown g hg).elim (fun h => J5.out g h hg2) fun h => by have := ownsRow_lt J2.out hg2; omega
                  · exact J6.out.trans k8 fun y hy hlt => by have := J3.out y hy; omega
                case measure => simp [intOf]; omega
              · rw [decide_eq_false hx] at BS1
                rw [if_neg hx] at HT1 HT2
                clear hx
                go_wp2_with (fail)
                refine BS1.out.mono ?_
                rintro e w6 ⟨i, rfl, q, rfl⟩
                have HROW : Hid (((wr.drewN q).alloc (.cells #[.string ⟨nm.toArray⟩] 9)).ownsRow 0 9 1 (.slice aq l2.length cq) l2.length (bsVals l2)) := ownsRow_same J2.out fun g hg => (((Chg.refl (fun _ => False) wr).drewN q).alloc _).block g (ownsRow_lt J2.out hg) (fun h => h)
                have HSR := hide (Src.ofNew (size := 1) (B := (wr.drewN q).heap.size) Tryz.underlying121 (wr.drewN q) #[.string ⟨nm.toArray⟩] 9 (by simp) 1 1 rfl (bsVals_oneCell [nm]))
                have K7 : Hid (Chg (fun _ => False) wr ((wr.drewN q).alloc (.cells #[.string ⟨nm.toArray⟩] 9))) := ((Chg.refl (fun _ => False) wr).drewN q).alloc _
                clear BS1
                go_wp2_with (at_builtin; refine wpList_app rfl (.tmp 74) (.tmp 76) 121 121 rfl 9 i0 _ 1 16 Tryz.underlying121 hi hz0 hz1 hz2 rfl (by decide) (.slice aq l2.length cq) l2.length (bsVals l2) (by rfl) HROW.out _ 1 _ (by rfl) HSR.out (by have := HL2.out; omega) ?_; intro a8 cap8 w8 hA; have HA := hide hA; clear hA)
                go_roundw
                case rel =>
                  have hA := HA.out
                  have hA2 := hA.chg (S := fun k => (Value.slice aq l2.length cq).ownBlock = some k) fun _ h => h
                  have k8 : Chg (fun k => (Value.slice aq l2.length cq).ownBlock = some k) wr w8 := (K7.out.mono fun _ _ h => h.elim).trans hA2 fun _ h _ => h
                  have e : (l2 ++ [nm]).length = l2.length + 1 := by simp
                  have e2 : bsVals (l2 ++ [nm]) = bsVals l2 ++ bsVals [nm] := bsVals_append _ _
                  have hown : ∀ g, (Value.slice a8 (l2.length + 1) cap8).ownBlock = some g → (Value.slice aq l2.length cq).ownBlock = some g ∨ wr.heap.size ≤ g := fun g hg => by
                    rcases hA.at_ with h | h
                    · rw [h] at hg; exact .inl hg
                    · rw [h] at hg; cases hg; exact .inr K7.out.size
                  refine ⟨k + 1, by go_num, by omega, ?_, ?_, J3.out, ?_, ?_, ?_⟩
                  · rw [HT1.out, List.append_nil]
                    exact ownsRow_same J1.out fun g hg => k8.block g (ownsRow_lt J1.out hg) fun h => J5.out g hg h
                  · rw [HT2.out]
                    unfold StSl
                    rw [e, e2]
                    exact hA.own
                  · exact fun g hg => (hown g hg).elim (J4.out g) fun h => Nat.le_trans J6.out.size h
                  · exact fun g hg hg2 => (hown g hg2).elim (fun h => J5.out g hg h) fun h => by have := ownsRow_lt J1.out hg; omega
                  · exact J6.out.trans k8 fun y hy hlt => by have := J4.out y hy; omega
                case measure => simp [intOf]; omega
            · obtain rfl : k = ns.length := by omega
              rw [List.take_length, ← HCO.out] at i1 i3
              rw [List.take_length, ← HOT.out] at i2 i4
              have el1 : ((ns.take ns.length).filter (fun nm => decide (nm ∈ NS))).length = CO.length := by rw [List.take_length, ← HCO.out]
              have el2 : ((ns.take ns.length).filter (fun nm => !decide (nm ∈ NS))).length = OT.length := by rw [List.take_length, ← HOT.out]
              try rw [el1]
              try rw [el2]
              have J1 := hide i1
              have J2 := hide i2
              have J3 := hide i3
              have J4 := hide i4
              have J6 := hide i6
              have hki : ¬ ((ns.length : Int) < (ns.length : Int)) := by omega
              clear hI i1 i2 i3 i4 i5 i6 el1 el2 hcap1 hcaq1 HCO HOT
              go_wp2
              go_ret2
              exact ⟨_, _, rfl, J1.out, J2.out, fun g hg => Nat.le_trans C4.out.size (J3.out g hg), fun g hg => Nat.le_trans C4.out.size (J4.out g hg), C4.out.trans J6.out fun _ h _ => h⟩
end
end Go.Proofs.YtodcnkbblippnaaGreatDoor
