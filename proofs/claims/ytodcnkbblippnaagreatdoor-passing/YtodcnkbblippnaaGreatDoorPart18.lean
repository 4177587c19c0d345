/-
  The statement PassingCardSaid is proved: the law Passing answers true, at every four numbers; there is no condition.
  Part 18 of 34.
-/
import Derived.Test.YtodcnkbblippnaaGreatDoorPart17
import Derived.OwnWalk
/- Walks: a journal is opened: journal.Open. -/
namespace Go.Proofs.YtodcnkbblippnaaGreatDoor
open Go.RowKit
attribute [local go_sem ↓] NoP_normal

theorem namedOne_some {lt nm : Bs} {v : Int} (h : namedOne lt nm = some v) : (1 ≤ v ∧ v ≤ 4611686018427387904) ∧ nameL lt v = nm := by
  unfold namedOne at h
  cases hx : Lib.atoiAll (Lib.trimPrefix nm lt) with
  | ok x =>
    rw [hx] at h
    dsimp only at h
    split at h
    · rename_i hc; cases h; exact ⟨⟨by omega, hc.2.1⟩, hc.2.2⟩
    · cases h
  | «syntax» => rw [hx] at h; cases h
  | range => rw [hx] at h; cases h
theorem named3_ne {nm : Bs} : (named3 nm).1 ≠ 1 ∧ (named3 nm).1 ≠ 2 := by
  unfold named3 named4
  split
  · simp
  · split <;> simp
theorem namedP_log {nm : Bs} (h : (namedP nm).1 = 1) : (1 ≤ (namedP nm).2 ∧ (namedP nm).2 ≤ 4611686018427387904) ∧ nmLog (namedP nm).2 = nm := by
  unfold namedP at h ⊢
  cases hx : namedOne [108] nm with
  | some v => exact namedOne_some hx
  | none =>
    rw [hx] at h
    dsimp only at h
    unfold named2 at h
    cases hy : namedOne [115] nm with
    | some v => rw [hy] at h; cases h
    | none => rw [hy] at h; exact absurd h named3_ne.1
theorem namedP_range (nm : Bs) : In64 (namedP nm).2 := by
  unfold namedP
  cases hx : namedOne [108] nm with
  | some v => have := (namedOne_some hx).1; unfold In64; dsimp only; omega
  | none =>
    dsimp only
    unfold named2
    cases hy : namedOne [115] nm with
    | some v => have := (namedOne_some hy).1; unfold In64; dsimp only; omega
    | none => dsimp only; unfold named3 named4 In64; split <;> (try split) <;> simp
theorem logsOf_append (first : Int) (l l' : List Bs) : logsOf first (l ++ l') = logsOf first l ++ logsOf first l' := by simp [logsOf]
theorem logsOf_length (first : Int) (l : List Bs) : (logsOf first l).length ≤ l.length := List.length_filterMap_le _ _
theorem logsOf_mem {first n : Int} {l : List Bs} (h : n ∈ logsOf first l) : first ≤ n ∧ (1 ≤ n ∧ n ≤ 4611686018427387904) ∧ nmLog n ∈ l := by
  obtain ⟨nm, h1, h2⟩ := List.mem_filterMap.1 h
  split at h2
  · rename_i hc
    cases h2
    obtain ⟨k1, k2⟩ := namedP_log hc.1
    exact ⟨hc.2, k1, by rw [k2]; exact h1⟩
  · cases h2
theorem names_length (P : PD) : P.names.length = P.D.dir.length := by
  unfold PD.names dList
  rw [List.length_map, dListK_length _ _ (Nat.le_refl _)]
theorem getLastD_snoc (l : List Int) (x d : Int) : (l ++ [x]).getLastD d = x := by
  rw [List.getLastD_eq_getLast?]; simp
/-- How the names of a disk come out. -/
theorem listD {w : World} {b : Nat} {P : PD} {Ft : Nat → Prop} {a c m : Nat} (h : DkAt w b P Ft) (hF : Fit P a c m) (hl : Lim a c m) :
    Calls Tryz.prog 76 #[.pointer (some ⟨b, 0, none⟩)] w fun e w' => ∃ v, e = .returned v ∧ StSl w' v P.names ∧ Chg (fun _ => False) w w' ∧ (∀ g, v.ownBlock = some g → w.heap.size ≤ g) := by
  refine (listU h (by have := hF.dir; have := hl.a; omega)).mono ?_
  rintro e w' ⟨v, h1, h2, h3, h4⟩
  refine ⟨v, h1, ?_, h3, h4⟩
  have hn := names_length P
  unfold StSl
  rw [hn]
  rw [strVals_bs] at h2
  exact h2
section
variable {w : World} {b B : Nat} {P : PD} {Ft : Nat → Prop} {a c m : Nat} {first : Int}
set_option maxRecDepth 100000 in
set_option maxHeartbeats 8000000 in
theorem jopen_any (w : World) (h : DkAt w b P Ft) (hlt : ∀ k, Ft k → k < w.heap.size) (hF : Fit P a c m) (hl : Lim a c m) (ham : a * m ≤ 70368744177664) (hf : 1 ≤ first ∧ first ≤ 4611686018427387904) (hL : Lets B w) (hE : ErrC w) (hnl : ∀ nm ∈ P.names, nm.length ≤ 281474976710656) :
    Calls Tryz.prog 99 #[.pointer (some ⟨b, 0, none⟩), .int .i64 first] w fun e w' =>
      ((P.puts (logsOf first P.names)).2 ≠ 0 ∧ e = .returned (.tuple #[.pointer none, .slice none 0 0, .int .i64 (P.puts (logsOf first P.names)).2]) ∧ Chg (fun _ => False) w w') ∨
      ((P.puts (logsOf first P.names)).2 = 0 ∧ ∃ jb lv v, e = .returned (.tuple #[.pointer (some ⟨jb, 0, none⟩), v, .int .i64 0]) ∧ JnV w' jb b lv (.pointer none) (P.journal first) ∧ PfSl w' v (P.puts (logsOf first P.names)).1 ∧ (∀ k, JnFt jb lv (.pointer none) k → w.heap.size ≤ k) ∧ (∀ g, v.ownBlock = some g → w.heap.size ≤ g) ∧ Chg (fun _ => False) w w') := by
  obtain ⟨i0, hi, hz0, hz1, hz2⟩ : ∃ i0, Tryz.prog.info? 3 = some i0 ∧ i0.zero = some (.int .i64 0) ∧ i0.size = 1 ∧ i0.bytes = 8 := by
    have h := Tryz.infoInt
    cases hx : Tryz.prog.info? 3 with
    | none => rw [hx] at h; cases h
    | some i => rw [hx] at h; simp at h; exact ⟨i, rfl, h.1, h.2.1, h.2.2⟩
  have LI : Hid (∀ w1, Chg (fun _ => False) w w1 → Calls Tryz.prog 76 #[.pointer (some ⟨b, 0, none⟩)] w1 fun e w' => ∃ v, e = .returned v ∧ StSl w' v P.names ∧ Chg (fun _ => False) w1 w' ∧ (∀ g, v.ownBlock = some g → w1.heap.size ≤ g)) := fun w1 hc => listD (RepU.same h hlt hc) hF hl
  have NA : Hid (∀ w1, Chg (fun _ => False) w w1 → ∀ nm ∈ P.names, Calls Tryz.prog 97 #[.string ⟨nm.toArray⟩] w1 fun e w' => e = .returned (.tuple #[.int .i64 (namedP nm).1, .int .i64 (namedP nm).2]) ∧ Chg (fun _ => False) w1 w') := fun w1 hc nm hm => named_any w1 nm (hnl nm hm) (hE.keep0 hc) (hL.keep0 hc)
  have hnlen : P.names.length ≤ a := by rw [names_length]; exact hF.dir
  have PU : Hid (∀ w1 jb lv last, Chg (fun _ => False) w w1 → JnV w1 jb b lv (.pointer none) ⟨logsOf first P.names, last, 0, none⟩ → Calls Tryz.prog 106 #[.pointer (some ⟨jb, 0, none⟩)] w1 fun e w' => ∃ v, e = .returned (.tuple #[v, .int .i64 (P.puts (logsOf first P.names)).2]) ∧ PfSl w' v (P.puts (logsOf first P.names)).1 ∧ (∀ g, v.ownBlock = some g → w1.heap.size ≤ g) ∧ Chg (fun _ => False) w1 w') := fun w1 jb lv last hc hJ =>
    puts_any w1 (RepU.same h hlt hc) (fun k hk => Nat.lt_of_lt_of_le (hlt k hk) hc.size) hJ hF hl (Nat.le_trans (Nat.mul_le_mul_right m (Nat.le_trans (logsOf_length first P.names) hnlen)) ham) (fun n hn => by obtain ⟨_, h2, _⟩ := logsOf_mem hn; exact numOk_of (by omega) h2.2) (hL.keep0 hc)
  have hnl2 : P.names.length ≤ 1073741824 := Nat.le_trans hnlen hl.a
  have HJ : Hid (P.journal first = ⟨logsOf first P.names, (logsOf first P.names).getLastD (first - 1), (P.puts (logsOf first P.names)).1.length, none⟩) := rfl
  obtain ⟨Z, hZ⟩ : ∃ Z, P.journal first = Z := ⟨_, rfl⟩
  rw [hZ] at HJ ⊢
  obtain ⟨R, hR⟩ : ∃ R, P.puts (logsOf first P.names) = R := ⟨_, rfl⟩
  rw [hR] at PU HJ ⊢
  clear hZ hR h hlt hF hl ham hL hE hnl hnlen
  generalize P.names = ns at *
  obtain ⟨f1, f2⟩ := hf
  have ew : IntKind.i64.wrap (first - 1) = first - 1 := by simp [IntKind.wrap, IntKind.bits, IntKind.signed]; omega
  have hjb : JnBlk (w.alloc (.cells #[.pointer (some ⟨b, 0, none⟩), .slice none 0 0, .int .i64 (first - 1), .int .i64 0, .pointer none] 208)) w.heap.size b (.slice none 0 0) (first - 1) 0 (.pointer none) := heap_alloc_new w _
  have C1 : Hid (Chg (fun _ => False) w (w.alloc (.cells #[.pointer (some ⟨b, 0, none⟩), .slice none 0 0, .int .i64 (first - 1), .int .i64 0, .pointer none] 208))) := (Chg.refl _ w).alloc _
  have LI1 := hide (LI.out _ C1.out)
  have HJB := hide hjb
  have S1 : Hid (w.heap.size < (w.alloc (.cells #[.pointer (some ⟨b, 0, none⟩), .slice none 0 0, .int .i64 (first - 1), .int .i64 0, .pointer none] 208)).heap.size) := by unfold Hid; simp
  clear hjb LI
  go_enter Tryz.func99, Tryz.ntmps99
  go_wp2_with (fail)
  refine LI1.out.mono ?_
  rintro e w1 ⟨v, rfl, hv, hc1, hvo⟩
  obtain ⟨na, ncap, rfl, nc1, nc2⟩ := (StSl.rd hv).form
  unfold maxLen at nc2
  have HV := hide (StSl.rd hv)
  have B1 := hide (HJB.out.keep hc1 (fun h => h))
  have K1 : Hid (Chg (fun _ => False) w w1) := C1.out.trans hc1 fun _ h _ => h
  have HW1 : Hid (w.heap.size < w1.heap.size) := Nat.lt_of_lt_of_le S1.out hc1.size
  have HVO : Hid (∀ g, (Value.slice na ns.length ncap).ownBlock = some g → w.heap.size < g) := fun g hg => Nat.lt_of_lt_of_le S1.out (hvo g hg)
  clear hv hc1 hvo LI1 C1 HJB S1
  obtain ⟨jb, hjb⟩ : ∃ jb, w.heap.size = jb := ⟨_, rfl⟩
  rw [hjb] at B1 HW1 ⊢
  have HBJ := hide hjb
  clear hjb
  go_wp2
  go_loopw [22] (fun iv wr => ∃ k : Nat, iv = .int .i64 k ∧ k ≤ ns.length ∧ Hid (∃ lv, JnBlk wr jb b lv ((logsOf first (ns.take k)).getLastD (first - 1)) 0 (.pointer none) ∧ InSl wr lv (logsOf first (ns.take k)) ∧ (∀ g, lv.ownBlock = some g → w1.heap.size ≤ g) ∧ Chg (fun _ => False) w wr ∧ Chg (One jb) w1 wr)) (fun iv _ => ns.length - (intOf iv).toNat)
  case atStart => exact ⟨0, rfl, by omega, _, B1.out, World.ownsRow_nil _ _ _ _, fun g hg => by simp [Value.ownBlock] at hg, K1.out, Chg.refl _ _⟩
  case round =>
    obtain ⟨k, rfl, hk, hI⟩ := hrel
    obtain ⟨lv, i1, i2, i3, i4, i5⟩ := hI.out
    by_cases hk1 : k < ns.length
    · obtain ⟨g, o, rfl, d1⟩ := RdS.at HV.out k hk1
      have hmem := List.getElem_mem hk1
      have htk : ns.take (k + 1) = ns.take k ++ [ns[k]'hk1] := List.take_succ_eq_append_getElem hk1
      obtain ⟨nm, hne⟩ : ∃ nm, (ns[k]'hk1) = nm := ⟨_, rfl⟩
      rw [hne] at d1 hmem htk
      have hvg : g < w1.heap.size := RdSl.lt HV.out rfl
      have hgj : jb < g := by have := HVO.out g rfl; have := HBJ.out; omega
      have e1 := i5.cellKeepS d1 (fun h => by have h' : g = jb := h; omega)
      have NA1 := hide (NA.out wr i4 nm hmem)
      have hrg := namedP_range nm
      have HTK : Hid (logsOf first (ns.take (k + 1)) = logsOf first (ns.take k) ++ (if (namedP nm).1 = 1 ∧ first ≤ (namedP nm).2 then [(namedP nm).2] else [])) := by
        unfold Hid
        rw [htk, logsOf_append]
        congr 1
        unfold logsOf
        by_cases hc : (namedP nm).1 = 1 ∧ first ≤ (namedP nm).2 <;> simp [hc]
      obtain ⟨X, hX⟩ : ∃ X, namedP nm = X := ⟨_, rfl⟩
      rw [hX] at NA1 HTK hrg
      obtain ⟨s, n⟩ := X
      dsimp only at NA1 HTK hrg
      obtain ⟨r1, r2⟩ := hrg
      have HLEN : Hid ((logsOf first (ns.take k)).length ≤ ns.length) := Nat.le_trans (logsOf_length _ _) (by rw [List.length_take]; omega)
      have I1 := hide i1
      have I2 := hide i2
      have I3 := hide i3
      have I4 := hide i4
      have I5 := hide i5
      have hki : (k : Int) < (ns.length : Int) := by omega
      have hk0 : (0 : Int) ≤ (k : Int) := Int.natCast_nonneg _
      clear hI i1 i2 i3 i4 i5 d1 hmem htk hne hX hgj
      obtain ⟨lg, hlg⟩ : ∃ lg, logsOf first (ns.take k) = lg := ⟨_, rfl⟩
      rw [hlg] at HTK HLEN I1 I2
      clear hlg
      by_cases hc : s = 1 ∧ first ≤ n
      case neg =>
        have HTK2 : Hid (logsOf first (ns.take (k + 1)) = lg) := by rw [HTK.out, if_neg hc, List.append_nil]; rfl
        by_cases hs : s = 1
        · subst hs
          have hfn : ¬ first ≤ n := fun h => hc ⟨rfl, h⟩
          go_wp2_with (go_at_call 97; refine NA1.out.mono ?_; rintro e w6 ⟨rfl, hc6⟩; have HC6 := hide hc6; clear hc6)
          go_roundw
          case rel => exact ⟨k + 1, by go_num, by omega, lv, by rw [HTK2.out]; exact I1.out.keep HC6.out (fun h => h), by rw [HTK2.out]; exact ownsRow_same I2.out fun g hg => HC6.out.block g (ownsRow_lt I2.out hg) (fun h => h), I3.out, I4.out.trans HC6.out fun _ h _ => h, I5.out.trans HC6.out fun _ h _ => h.elim⟩
          case measure => simp [intOf]; omega
        · have hsb : (s == 1) = false := by simpa using hs
          go_wp2_with (go_at_call 97; refine NA1.out.mono ?_; rintro e w6 ⟨rfl, hc6⟩; have HC6 := hide hc6; clear hc6)
          go_roundw
          case rel => exact ⟨k + 1, by go_num, by omega, lv, by rw [HTK2.out]; exact I1.out.keep HC6.out (fun h => h), by rw [HTK2.out]; exact ownsRow_same I2.out fun g hg => HC6.out.block g (ownsRow_lt I2.out hg) (fun h => h), I3.out, I4.out.trans HC6.out fun _ h _ => h, I5.out.trans HC6.out fun _ h _ => h.elim⟩
          case measure => simp [intOf]; omega
      case pos =>
        have HTK2 : Hid (logsOf first (ns.take (k + 1)) = lg ++ [n]) := by rw [HTK.out, if_pos hc]; rfl
        obtain ⟨rfl, hfn⟩ := hc
        obtain ⟨ap, cp, rfl, hcap1, hcap2, -⟩ := ownsRow_form I2.out
        unfold maxLen at hcap2
        go_wp2_with (fail)
        refine NA1.out.mono ?_
        rintro e w6 ⟨rfl, hc6⟩
        have B6 := I1.out.keep hc6 (fun h => h)
        have g1 := B6.c1
        have HROW : Hid ((w6.alloc (.cells #[.int .i64 n] 3)).ownsRow 0 3 1 (.slice ap lg.length cp) lg.length (intVals lg)) := ownsRow_same I2.out fun g hg => (hc6.alloc _).block g (ownsRow_lt I2.out hg) (fun h => h)
        have HS1 := hide (Src.ofNew (size := 1) (B := w6.heap.size) Tryz.underlying26 w6 #[.int .i64 n] 3 (by simp) 1 1 rfl (intVals_oneCell [n]))
        have B7 := hide (B6.keep ((Chg.refl (fun _ => False) w6).alloc (.cells #[.int .i64 n] 3)) (fun h => h))
        have K7 : Hid (Chg (fun _ => False) wr (w6.alloc (.cells #[.int .i64 n] 3))) := hc6.alloc _
        have c71 := B7.out.c1
        clear hc6 NA1 B6
        go_wp2_with (at_builtin; refine wpList_app rfl (.tmp 42) (.tmp 44) 26 26 rfl 3 i0 _ 1 8 Tryz.underlying26 hi hz0 hz1 hz2 rfl (by decide) (.slice ap lg.length cp) lg.length (intVals lg) (by rfl) HROW.out _ 1 _ (by rfl) HS1.out (by have := HLEN.out; omega) ?_; intro a8 cap8 w8 hA; have HA2 := hide (hA.chg (S := fun k => (Value.slice ap lg.length cp).ownBlock = some k) fun _ h => h); have B8 := B7.out.keep HA2.out (fun h => by have := I3.out _ h; have := HW1.out; omega); have g81 := B8.c1; have f81 := B8.fz 1; have B9 := B8.s1 (.slice a8 (lg.length + 1) cap8); have g82 := B9.c2; have f82 := B9.fz 2; have HB10 := hide (B9.s2 n); have HOWN := hide hA.own; have HAT := hide hA.at_; clear hA B8 B9)
        go_roundw
        case rel =>
          have e : (lg ++ [n]).length = lg.length + 1 := by simp
          have hown : ∀ g, (Value.slice a8 (lg.length + 1) cap8).ownBlock = some g → w1.heap.size ≤ g := fun g hg => by
            rcases HAT.out with h | h
            · rw [h] at hg; exact I3.out g hg
            · rw [h] at hg; cases hg; have := I5.out.size; have := K7.out.size; omega
          have k8 : Chg (fun k => (Value.slice ap lg.length cp).ownBlock = some k) wr w8 := (K7.out.mono fun _ _ h => h.elim).trans HA2.out fun _ h _ => h
          have k10 : Chg (fun k => k = jb ∨ (Value.slice ap lg.length cp).ownBlock = some k) wr ((w8.setCell ⟨jb, 1, none⟩ (.slice a8 (lg.length + 1) cap8)).setCell ⟨jb, 2, none⟩ (.int .i64 n)) :=
            ((k8.mono fun _ _ h => .inr h).setAt (b := jb) (.inl rfl) 1 _).setAt (b := jb) (.inl rfl) 2 _
          refine ⟨k + 1, by go_num, by omega, .slice a8 (lg.length + 1) cap8, by rw [HTK2.out, getLastD_snoc]; exact HB10.out, ?_, hown, ?_, ?_⟩
          · rw [HTK2.out]
            unfold InSl
            rw [intVals_append, e]
            exact ownsRow_same HOWN.out fun g hg => by
              have h1 := hown g hg
              have h2 := HW1.out
              rw [Below.heap_setCell _ _ _ _ (fun e => by have e' : g = jb := e; omega), Below.heap_setCell _ _ _ _ (fun e => by have e' : g = jb := e; omega)]
          · exact I4.out.trans k10 fun x hx hlt => by
              have h2 := HBJ.out
              rcases hx with rfl | hx
              · omega
              · have := I3.out x hx; have := HW1.out; omega
          · exact I5.out.trans k10 fun x hx hlt => by
              rcases hx with rfl | hx
              · rfl
              · have := I3.out x hx; omega
        case measure => simp [intOf]; omega
    · obtain rfl : k = ns.length := by omega
      rw [List.take_length] at i1 i2
      have hki : ¬ ((ns.length : Int) < (ns.length : Int)) := by omega
      have PU1 := hide (PU.out wr jb lv _ i4 ⟨i1, i2, .inl ⟨rfl, rfl⟩⟩)
      obtain ⟨R1, R2⟩ := R
      dsimp only at PU1 HJ
      have I1 := hide i1
      have I2 := hide i2
      have I3 := hide i3
      have I4 := hide i4
      have I5 := hide i5
      clear i1 i2 i3 i4 i5 hI PU
      by_cases hr : R2 = 0
      case neg =>
        have hrb : (R2 != 0) = true := by simpa using hr
        go_wp2_with (go_at_call 106; refine PU1.out.mono ?_; rintro e w6 ⟨v, rfl, -, -, hc6⟩; have HC6 := hide hc6; clear hc6)
        go_ret3
        exact ⟨rfl, I4.out.trans HC6.out fun _ h _ => h⟩
      case pos =>
        subst hr
        go_wp2_with (fail)
        refine PU1.out.mono ?_
        rintro e w6 ⟨v, rfl, hv, hvo, hc6⟩
        obtain ⟨va, vcap, rfl, vc1, vc2, -⟩ := ownsRow_form hv
        unfold maxLen at vc2
        have B6 := I1.out.keep hc6 (fun h => h)
        have g63 := B6.c3
        have f63 := B6.fz 3
        have B7 := hide (B6.s3 R1.length)
        have HV6 := hide hv
        have HVO6 := hide hvo
        have HC6 := hide hc6
        clear hv hvo hc6 B6 PU1
        go_wp2
        go_ret3
        have hnj : ∀ g, lv.ownBlock = some g → g ≠ jb := fun g hg e => by have := I3.out g hg; have := HW1.out; omega
        have h2 := HBJ.out
        have k7 : Chg (One jb) wr (w6.setCell ⟨jb, 3, none⟩ (.int .i64 R1.length)) := (HC6.out.mono (S' := One jb) fun _ _ h => h.elim).setAt (b := jb) rfl 3 _
        refine ⟨jb, lv, _, rfl, ?_, ?_, fun x hx => ?_, fun g hg => ?_, ?_⟩
        · rw [HJ.out]
          exact ⟨B7.out, ownsRow_same I2.out fun g hg => k7.block g (ownsRow_lt I2.out hg) (hnj g hg), .inl ⟨rfl, rfl⟩⟩
        · exact ownsRow_same HV6.out fun g hg => Below.heap_setCell _ _ _ _ (fun e => by
            have e' : g = jb := e
            have := HVO6.out g hg
            have := I4.out.size
            have := I5.out.size
            have := HW1.out
            omega)
        · rcases hx with rfl | hx | hx
          · omega
          · have := I3.out x hx; have := HW1.out; omega
          · cases hx
        · have := HVO6.out g hg; have := I4.out.size; omega
        · exact I4.out.trans k7 fun x hx hlt => by have e' : x = jb := hx; omega
end
end Go.Proofs.YtodcnkbblippnaaGreatDoor
/- Walks: a journal and its disk ('JD'): Next, Logs, Sync, Leave, begin, Add. -/
namespace Go.Proofs.YtodcnkbblippnaaGreatDoor
open Go.RowKit
attribute [local go_sem ↓] NoP_normal

/-- A journal and the disk, within a footprint. -/
def JD (w : World) (jb b : Nat) (J : Jn) (P : PD) (FT : Nat → Prop) : Prop :=
  ∃ lv ov Ft, JnV w jb b lv ov J ∧ DkAt w b P Ft ∧ (∀ k, Ft k → k < w.heap.size) ∧ (∀ k, JnFt jb lv ov k → ¬ Ft k) ∧ ∀ k, Ft k ∨ JnFt jb lv ov k → FT k
theorem JD.frame {w w' : World} {jb b : Nat} {J : Jn} {P : PD} {FT : Nat → Prop} (h : JD w jb b J P FT) (hs : Same FT w w') (hz : w.heap.size ≤ w'.heap.size) : JD w' jb b J P FT := by
  obtain ⟨lv, ov, Ft, h1, h2, h3, h4, h5⟩ := h
  exact ⟨lv, ov, Ft, h1.frame fun k hk => hs k (h5 k (.inr hk)), h2.frame fun k hk => hs k (h5 k (.inl hk)), fun k hk => Nat.lt_of_lt_of_le (h3 k hk) hz, h4, h5⟩
/-- What is called has turned the journal or the disk. -/
theorem Into.jd {w w' : World} {jb b : Nat} {J : Jn} {P : PD} {FT S : Nat → Prop} {lv ov : Value} {Ft : Nat → Prop} (hc : Chg S w w') (hS : ∀ k, k < w.heap.size → S k → FT k)
    (h1 : JnV w' jb b lv ov J) (h2 : DkAt w' b P Ft) (h3 : ∀ k, Ft k → k < w'.heap.size) (h4 : ∀ k, JnFt jb lv ov k → ¬ Ft k) (h5 : ∀ k, Ft k → FT k ∨ w.heap.size ≤ k) (h6 : ∀ k, JnFt jb lv ov k → FT k ∨ w.heap.size ≤ k) :
    Into w FT w' (fun w' FT' => JD w' jb b J P FT') :=
  ⟨hc.mono hS, fun k => Ft k ∨ JnFt jb lv ov k, ⟨lv, ov, Ft, h1, h2, h3, h4, fun _ h => h⟩, fun k hk => hk.elim (h3 k) fun h => h1.lt h, fun k hk => hk.elim (h5 k) (h6 k)⟩
theorem JnV.ne {w : World} {jb b : Nat} {lv ov : Value} {J : Jn} (h : JnV w jb b lv ov J) {g : Nat} (hg : lv.ownBlock = some g) : g ≠ jb := by
  obtain ⟨c, hc⟩ := ownsRow_elem h.logs hg
  exact elem_ne hc h.blk (by decide)
theorem FlBlk.neInt {w : World} {lb : Nat} {p : Value} {name : ByteArray} {s n : Nat} {v : Value} {xs : List Value} (h : FlBlk w lb 237 p name s) (ho : w.ownsRow 0 3 1 v n xs) {g : Nat} (hg : v.ownBlock = some g) : g ≠ lb := by
  obtain ⟨c, hc⟩ := ownsRow_elem ho hg
  exact elem_ne hc h (by decide)
theorem FlBlk.neJn {w : World} {lb jb b : Nat} {p : Value} {name : ByteArray} {s : Nat} {lv ov : Value} {last puts : Int} (h : FlBlk w lb 237 p name s) (hj : JnBlk w jb b lv last puts ov) : lb ≠ jb := elem_ne h hj (by decide)
section
variable {w : World} {b B jb lb : Nat} {P : PD} {Ft FT : Nat → Prop} {a c m : Nat} {lv ov : Value} {J : Jn} {n : Int}
set_option maxRecDepth 100000 in
theorem next_any (w : World) (hJ : JnV w jb b lv ov J) (hr : In64 (J.last + 1)) :
    Calls Tryz.prog 199 #[.pointer (some ⟨jb, 0, none⟩)] w fun e w' => e = .returned (.int .i64 (J.last + 1)) ∧ w = w' := by
  have c2 := hJ.blk.c2
  obtain ⟨r1, r2⟩ := hr
  have ew : wrap64 (J.last + 1) = J.last + 1 := by unfold wrap64; omega
  clear hJ
  go_enter Tryz.func199, Tryz.ntmps199
  go_wp2
  go_ret
  exact ⟨rfl, rfl⟩
set_option maxRecDepth 100000 in
set_option maxHeartbeats 1000000 in
theorem logs_any (w : World) (hJ : JnV w jb b lv ov J) (hl : J.logs.length ≤ 1073741824) :
    Calls Tryz.prog 136 #[.pointer (some ⟨jb, 0, none⟩)] w fun e w' => ∃ v, e = .returned v ∧ InSl w' v J.logs ∧ (∀ g, v.ownBlock = some g → w.heap.size ≤ g) ∧ Chg (fun _ => False) w w' := by
  obtain ⟨i0, hi, hz0, hz1, hz2⟩ : ∃ i0, Tryz.prog.info? 3 = some i0 ∧ i0.zero = some (.int .i64 0) ∧ i0.size = 1 ∧ i0.bytes = 8 := by
    have h := Tryz.infoInt
    cases hx : Tryz.prog.info? 3 with
    | none => rw [hx] at h; cases h
    | some i => rw [hx] at h; simp at h; exact ⟨i, rfl, h.1, h.2.1, h.2.2⟩
  have c1 := hJ.blk.c1
  have HSRC := hide (Src.ofOwn Tryz.underlying26 hJ.logs (intVals_oneCell J.logs))
  have HNIL : Hid (w.ownsRow 0 3 1 (.slice none 0 0) 0 []) := World.ownsRow_nil _ _ _ _
  clear hJ
  generalize J.logs = l at *
  go_enter Tryz.func136, Tryz.ntmps136
  go_wp2_with (at_builtin; refine wpList_app rfl (.const (.slice none 0 0)) (.tmp 6) 26 26 rfl 3 i0 _ 1 8 Tryz.underlying26 hi hz0 hz1 hz2 rfl (by decide) (.slice none 0 0) 0 [] (by rfl) HNIL.out _ l.length _ (by rfl) HSRC.out (by omega) ?_; intro a8 cap8 w8 hA; have HA := hide hA; clear hA)
  go_ret
  have hA := HA.out
  have hA2 := hA.chg (S := fun _ => False) fun _ h => by simp [Value.ownBlock] at h
  refine ⟨_, rfl, ?_, ?_, hA2⟩
  · have := hA.own
    simp only [List.nil_append, Nat.zero_add] at this ⊢
    exact this
  · intro g hg
    have hat := hA.at_
    simp only [Nat.zero_add] at hat
    cases a8 with
    | none => simp [Value.ownBlock] at hg
    | some x =>
      simp [Value.ownBlock] at hat hg
      omega
set_option maxRecDepth 100000 in
set_option maxHeartbeats 1000000 in
theorem leave_any (w : World) (hJ : JnV w jb b lv ov J) :
    Calls Tryz.prog 201 #[.pointer (some ⟨jb, 0, none⟩)] w fun e w' => e = .returned (.tuple #[]) ∧ JnV w' jb b (.slice none 0 0) (.pointer none) ⟨[], J.last, 0, none⟩ ∧ Chg (One jb) w w' := by
  have h1 := hJ.blk.s1 (.slice none 0 0)
  have h2 := h1.s3 0
  have h3 := h2.s4 (.pointer none)
  have c1 := hJ.blk.c1
  have f1 := hJ.blk.fz 1
  have c3 := h1.c3
  have f3 := h1.fz 3
  have c4 := h2.c4
  have f4 := h2.fz 4
  have H := hide h3
  clear h1 h2 h3 hJ
  go_enter Tryz.func201, Tryz.ntmps201
  go_wp2
  go_end0
  exact ⟨rfl, ⟨H.out, World.ownsRow_nil _ _ _ _, .inl ⟨rfl, rfl⟩⟩, ((((Chg.refl (One jb) w).setAt (b := jb) rfl 1 _).setAt (b := jb) rfl 3 _).setAt (b := jb) rfl 4 _)⟩
theorem newLogD (w : World) (ahead : Int) (h : DkAt w b P Ft) (hlt : ∀ k, Ft k → k < w.heap.size) (hn : NumOk n) (hL : Lets B w) (ha : In64 ahead) (hF : Fit P a c m) (hl : Lim (a + 1) (c + 1) (m + 12)) :
    Calls Tryz.prog 236 #[.pointer (some ⟨b, 0, none⟩), .int .i64 n, .int .i64 ahead] w fun e w' =>
      ((P.create (nmB (nmLog n))).1 ≠ 0 ∧ e = .returned (.tuple #[.pointer none, .int .i64 (P.create (nmB (nmLog n))).1]) ∧ Into w Ft w' (fun w' Ft' => DkAt w' b (P.create (nmB (nmLog n))).2 Ft')) ∨
      ((P.create (nmB (nmLog n))).1 = 0 ∧ ((P.create (nmB (nmLog n))).2.add (nmB (nmLog n)) (sum0 (nmLog n)) (intB ahead)).2.1 ≠ 0 ∧ e = .returned (.tuple #[.pointer none, .int .i64 ((P.create (nmB (nmLog n))).2.add (nmB (nmLog n)) (sum0 (nmLog n)) (intB ahead)).2.1]) ∧ Into w Ft w' (fun w' Ft' => DkAt w' b ((P.create (nmB (nmLog n))).2.add (nmB (nmLog n)) (sum0 (nmLog n)) (intB ahead)).2.2 Ft')) ∨
      ((P.create (nmB (nmLog n))).1 = 0 ∧ ((P.create (nmB (nmLog n))).2.add (nmB (nmLog n)) (sum0 (nmLog n)) (intB ahead)).2.1 = 0 ∧ ∃ lb, e = .returned (.tuple #[.pointer (some ⟨lb, 0, none⟩), .int .i64 0]) ∧ w.heap.size ≤ lb ∧ FlBlk w' lb 237 (.pointer (some ⟨b, 0, none⟩)) ⟨(nmLog n).toArray⟩ (sumOn (sum0 (nmLog n)) (intB ahead)) ∧
        Chg Ft w w' ∧ ∃ Ft', DkAt w' b ((P.create (nmB (nmLog n))).2.add (nmB (nmLog n)) (sum0 (nmLog n)) (intB ahead)).2.2 Ft' ∧ (∀ k, Ft' k → k < w'.heap.size) ∧ (∀ k, Ft' k → Ft k ∨ w.heap.size ≤ k) ∧ ¬ Ft' lb) := by
  have hFc := hF.create (nmB (nmLog n))
  have hp : (pieceB (sum0 (nmLog n)) (intB ahead)).length = 12 := by simp [pieceB, sumB_length, intB_length]
  have hA := hFc.append (nmB (nmLog n)) (pieceB (sum0 (nmLog n)) (intB ahead))
  have hz := dSize_le hA (nmB (nmLog n))
  have hz2 := dSize_le hFc (nmB (nmLog n))
  have hm := hl.m
  exact newLog_any w ahead P.D.fresh (P.create (nmB (nmLog n))).2.D ((P.create (nmB (nmLog n))).2.append (nmB (nmLog n)) (pieceB (sum0 (nmLog n)) (intB ahead))).2.D (P.create (nmB (nmLog n))).2.F ((P.create (nmB (nmLog n))).2.append (nmB (nmLog n)) (pieceB (sum0 (nmLog n)) (intB ahead))).2.F _ _ h hlt hn hL ha P.D.fresh_not
    (by have := hF.dir; have := hF.chg; have := hl.a; have := hl.c; omega) rfl rfl rfl hFc.room (Nat.le_trans hFc.used (Nat.le_trans (Nat.mul_le_mul hl.a (Nat.le_trans (Nat.le_add_right m 12) hl.m)) (by decide))) hFc.part
    (fun f hf => by have := hFc.len f (lookup_ids hf); omega) ⟨Int.le_trans hz (by rw [hp]; omega), Int.le_trans hz2 (by omega)⟩
theorem addLogD (p : Pu) (name : ByteArray) (s : Nat) (hf : FlBlk w lb 237 (.pointer (some ⟨b, 0, none⟩)) name s) (hs : s < 4294967296) (h : DkAt w b P Ft) (hlt : ∀ k, Ft k → k < w.heap.size) (hn : ¬ Ft lb) (hp : PuOk p) (hF : Fit P a c m) (hl : Lim a c (m + 21)) :
    Calls Tryz.prog 191 #[.pointer (some ⟨lb, 0, none⟩), puAgg p] w fun e w' => e = .returned (.tuple #[.bool (P.add name s (putB p.1 p.2.1 p.2.2)).1, .int .i64 (P.add name s (putB p.1 p.2.1 p.2.2)).2.1]) ∧
      FlBlk w' lb 237 (.pointer (some ⟨b, 0, none⟩)) name (sumOn s (putB p.1 p.2.1 p.2.2)) ∧ IntoF w Ft lb w' b (P.add name s (putB p.1 p.2.1 p.2.2)).2.2 := by
  obtain ⟨⟨h1, h2⟩, h3, h4⟩ := hp
  have hpl : (pieceB s (putB p.1 p.2.1 p.2.2)).length = 21 := by simp [pieceB, sumB_length, putB_len]
  have hA := hF.append name (pieceB s (putB p.1 p.2.1 p.2.2))
  have hz := dSize_le hA name
  have hz2 := dSize_le hF name
  have hm := hl.m
  have hl0 : Lim a c m := ⟨hl.a, hl.c, by omega⟩
  exact addLog_any w lb name s p.1 p.2.1 p.2.2 ⟨h1, by omega⟩ h3 h4 hf hs h hlt hn hF.room (hF.usedLim hl0) hF.part (fun f hf => by have := hF.len f (lookup_ids hf); omega) ⟨Int.le_trans hz (by rw [hpl]; omega), Int.le_trans hz2 (by omega)⟩
end
end Go.Proofs.YtodcnkbblippnaaGreatDoor
