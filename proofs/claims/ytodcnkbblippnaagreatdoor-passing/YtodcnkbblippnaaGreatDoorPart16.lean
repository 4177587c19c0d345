/-
  The statement PassingCardSaid is proved: the law Passing answers true, at every four numbers; there is no condition.
  Part 16 of 34.
-/
import Derived.Test.YtodcnkbblippnaaGreatDoorPart15
/- Walks: a segment is made: NewSegment. -/
namespace Go.Proofs.YtodcnkbblippnaaGreatDoor
open Go.RowKit
attribute [local go_sem ↓] NoP_normal

/-- A Put that a store may hold. -/
def PuOk (p : Pu) : Prop := (0 ≤ p.1 ∧ p.1 < 8) ∧ In64 p.2.1 ∧ In64 p.2.2
theorem putsB_append (a b : List Pu) : putsB (a ++ b) = putsB a ++ putsB b := by simp [putsB]
theorem putB_len (s t v : Int) : (putB s t v).length = 17 := by simp [putB, intB_length]
theorem putsB_length (l : List Pu) : (putsB l).length = 17 * l.length := by
  induction l with
  | nil => rfl
  | cons p r ih =>
    have : putsB (p :: r) = putB p.1 p.2.1 p.2.2 ++ putsB r := rfl
    rw [this, List.length_append, ih, putB_len, List.length_cons]; omega
theorem Chg.ofBelowB {B : Nat} {w w' : World} (h : Below B w w') : Chg (fun k => B ≤ k) w w' := ⟨h.os, h.tape, h.output, h.size, fun k _ hn => h.block k (by omega)⟩
section
variable {w : World} {b B : Nat} {P : PD} {Ft : Nat → Prop} {a c m : Nat} {n : Int}
set_option maxRecDepth 100000 in
set_option maxHeartbeats 4000000 in
theorem newSegment_any (w : World) (pv : Value) (l : List Pu) (h : DkAt w b P Ft) (hlt : ∀ k, Ft k → k < w.heap.size) (hF : Fit P a c m) (hl : Lim (a + 1) (c + 1) m) (hn : NumOk n) (hL : Lets B w)
    (hp : RdP w pv l) (hpo : ∀ p ∈ l, PuOk p) (hpl : l.length ≤ 134217728) :
    Calls Tryz.prog 151 #[.pointer (some ⟨b, 0, none⟩), .int .i64 n, pv] w fun e w' =>
      ((P.newSeg n l).1 ≠ 0 ∧ e = .returned (.tuple #[.pointer none, .int .i64 (P.newSeg n l).1]) ∨ (P.newSeg n l).1 = 0 ∧ ∃ gb, e = .returned (.tuple #[.pointer (some ⟨gb, 0, none⟩), .int .i64 0])) ∧ Into w Ft w' (fun w' Ft' => DkAt w' b (P.newSeg n l).2 Ft') := by
  have SO := hide (segmentOf_any w b hn hL)
  have WR : Hid (∀ w1, Chg (fun _ => False) w w1 → _) := fun w1 hc => writeD (nmSeg n) (putsB l) (sum0_lt (nmSeg n)) (RepU.same h hlt hc) (fun k hk => Nat.lt_of_lt_of_le (hlt k hk) hc.size) (by rw [putsB_length]; omega) hF hl
  obtain ⟨X, hX⟩ : ∃ X, P.newSeg n l = X := ⟨_, rfl⟩
  have hX1 : P.write (nmSeg n) (sum0 (nmSeg n)) (putsB l) = X := hX
  rw [hX]
  rw [hX1] at WR
  have hnm : nmSeg n = nmOf 2 n := rfl
  rw [← hnm] at SO
  obtain ⟨nm, hnme⟩ : ∃ nm, nmSeg n = nm := ⟨_, rfl⟩
  rw [hnme] at SO WR
  obtain ⟨s0, hs0⟩ : ∃ s0, sum0 nm = s0 := ⟨_, rfl⟩
  rw [hs0] at SO WR
  obtain ⟨pa, pcap, rfl, hcap1, hcap2⟩ := hp.form
  unfold maxLen at hcap2
  have HP := hide hp
  have HLT := hide hlt
  clear hX hX1 hnm hnme hs0 h hlt hF hl hn hL hp
  go_enter Tryz.func151, Tryz.ntmps151
  go_wp2_with (fail)
  refine SO.out.mono ?_
  rintro e w1 ⟨gb, rfl, hf1, hc1, hgb⟩
  have HF1 := hide hf1
  have HC1 := hide hc1
  have HGB := hide hgb
  have f4 := hf1.fz 4
  have g4 := hf1.c4
  have F2 := hide (hf1.s4 (.slice pa l.length pcap))
  have C2 : Hid (Chg (fun _ => False) w (w1.setCell ⟨gb, 4, none⟩ (.slice pa l.length pcap))) := hc1.setCell (p := ⟨gb, 4, none⟩) (fun h => by have h' : gb < w.heap.size := h; omega) _
  clear SO hf1 hc1 hgb
  have HG1 := hide HF1.out.lt
  obtain ⟨w2, hw2⟩ : ∃ w2, w1.setCell ⟨gb, 4, none⟩ (.slice pa l.length pcap) = w2 := ⟨_, rfl⟩
  have hw2s : w1.heap.size = w2.heap.size := by rw [← hw2]; simp
  rw [hw2] at F2 C2
  have HG2 : Hid (gb < w2.heap.size) := F2.out.lt
  have BN := hide (buNew w2)
  have F3 := hide (F2.out.keep ((Chg.refl (fun _ => False) w2).alloc (.cells #[.pointer none, .slice none 0 0] 260)) (fun h => h))
  have C3 : Hid (Chg (fun _ => False) w (w2.alloc (.cells #[.pointer none, .slice none 0 0] 260))) := C2.out.alloc _
  have HB0 : Hid (w.heap.size ≤ w2.heap.size) := C2.out.size
  go_wp2
  clear hw2 hw2s HF1 HC1 g4 f4 HG1 F2 C2
  generalize hw3 : w2.alloc (.cells #[.pointer none, .slice none 0 0] 260) = w3 at BN F3 C3 ⊢
  have HB3 : Hid (w2.heap.size ≤ w3.heap.size) := by rw [← hw3]; show w2.heap.size ≤ _; simp
  clear hw3
  generalize w2.heap.size = bb at BN HG2 HB0 HB3 ⊢
  go_loopw [22] (fun iv wr => ∃ k : Nat, iv = .int .i64 k ∧ k ≤ l.length ∧ Hid (BuAt bb bb (putsB (l.take k)) wr ∧ FnBlk wr gb 182 b nm s0 n (.slice pa l.length pcap) ∧ Chg (fun _ => False) w wr ∧ bb ≤ wr.heap.size)) (fun iv _ => l.length - (intOf iv).toNat)
  case atStart => exact ⟨0, rfl, by omega, by simpa [putsB] using BN.out, F3.out, C3.out, HB3.out⟩
  case round =>
    obtain ⟨k, rfl, hk, hI⟩ := hrel
    by_cases hk1 : k < l.length
    · obtain ⟨i1, i2, i3, i4⟩ := hI.out
      obtain ⟨g, o, rfl, -, c1, c2, c3⟩ := RdP.at HP.out k hk1
      have hx := hpo _ (List.getElem_mem hk1)
      have htk : l.take (k + 1) = l.take k ++ [l[k]'hk1] := List.take_succ_eq_append_getElem hk1
      obtain ⟨x, hxe⟩ : ∃ x, (l[k]'hk1) = x := ⟨_, rfl⟩
      rw [hxe] at c1 c2 c3 hx htk
      obtain ⟨x1, x2, x3⟩ := x
      dsimp only at c1 c2 c3
      have d1 := i3.cellKeep c1
      have d2 := i3.cellKeep c2
      have d3 := i3.cellKeep c3
      obtain ⟨⟨hs1, hs2⟩, ht, hv⟩ := hx
      dsimp only at hs1 hs2 ht hv
      have PB := hide (fun wx => putBytes_any wx x1 x2 x3 ⟨hs1, by omega⟩ ht hv)
      have HTK : Hid (putsB (l.take (k + 1)) = putsB (l.take k) ++ putB x1 x2 x3) := by unfold Hid; rw [htk, putsB_append]; simp [putsB]
      have hlk : (putsB (l.take k)).length ≤ 17 * l.length := by rw [putsB_length, List.length_take]; omega
      obtain ⟨pk, hpk⟩ : ∃ pk, putsB (l.take k) = pk := ⟨_, rfl⟩
      rw [hpk] at i1 HTK hlk
      have hpb := putB_len x1 x2 x3
      obtain ⟨pb, hpbe⟩ : ∃ pb, putB x1 x2 x3 = pb := ⟨_, rfl⟩
      rw [hpbe] at PB HTK hpb
      have I1 := hide i1
      have I2 := hide i2
      have I3 := hide i3
      have I4 := hide i4
      have WS : Hid (∀ w6, Chg (fun _ => False) wr w6 → _) := fun w6 h6 => writeString_list (t := pb) w6 (I1.out.keep h6 (fun _ h => h.elim)) (by omega) (Nat.le_trans I4.out h6.size)
      have hki : (k : Int) < (l.length : Int) := by omega
      have hk0 : (0 : Int) ≤ (k : Int) := Int.natCast_nonneg _
      clear i1 i2 i3 i4 hI c1 c2 c3 hxe htk hpk hpbe ht hv hs1 hs2
      go_wp2_with (fail)
      refine (PB.out _).mono ?_
      rintro e w6 ⟨rfl, hc6⟩
      have C6 : Hid (Chg (fun _ => False) wr w6) := ((Chg.refl (fun _ => False) wr).alloc _).trans hc6 fun _ h _ => h
      have WS6 := hide (WS.out w6 C6.out)
      clear hc6 PB WS
      go_wp2_with (go_at_call 194; refine WS6.out.mono ?_; rintro e w7 ⟨rfl, hbu, hb7⟩; have HBU := hide hbu; have HB7 := hide hb7; clear hbu hb7)
      go_roundw
      case rel =>
        have c7 : Chg (fun k => bb ≤ k) w6 w7 := Chg.ofBelowB HB7.out
        refine ⟨k + 1, by go_num, by omega, by rw [HTK.out]; exact HBU.out, (I2.out.keep C6.out (fun h => h)).keep c7 (fun h => by have := HG2.out; omega), ?_, ?_⟩
        · exact (I3.out.trans C6.out fun _ h _ => h).trans c7 fun x hx hlt => by have := HB0.out; omega
        · exact Nat.le_trans I4.out (Nat.le_trans C6.out.size HB7.out.size)
      case measure => simp [intOf]; omega
    · obtain ⟨i1, i2, i3, i4⟩ := hI.out
      obtain rfl : k = l.length := by omega
      rw [List.take_length] at i1
      have I1 := hide i1
      have I2 := hide i2
      have I3 := hide i3
      have I4 := hide i4
      have BS := hide (buString wr.drew (I1.out.keep ((Chg.refl (fun _ => False) _).drew) (fun _ h => h.elim)) I4.out)
      have hki : ¬ ((l.length : Int) < (l.length : Int)) := by omega
      have AFT : Hid (∀ wx, Below bb wr.drew wx → (wx.cell? ⟨gb, 0, none⟩ = some (.pointer (some ⟨b, 0, none⟩)) ∧ wx.cell? ⟨gb, 1, none⟩ = some (.string ⟨nm.toArray⟩) ∧ wx.cell? ⟨gb, 2, none⟩ = some (.int .u32 s0)) ∧ Chg (fun _ => False) w wx) := fun wx hx => by
        have cx : Chg (fun k => bb ≤ k) wr.drew wx := Chg.ofBelowB hx
        have fx := I2.out.drew.keep cx (fun h => by have := HG2.out; omega)
        exact ⟨⟨fx.c0, fx.c1, fx.c2⟩, I3.out.drew.trans cx fun x hx hlt => by have := HB0.out; omega⟩
      have e0 := I2.out.drew.c0
      have e1 := I2.out.drew.c1
      have e2 := I2.out.drew.c2
      clear i1 i2 i3 i4 hI
      obtain ⟨X1, X2⟩ := X
      dsimp only at WR
      have SX : Hid (∀ wx, Below bb wr.drew wx → ∀ wy, Into wx Ft wy (fun w' Ft' => DkAt w' b X2 Ft') → (wy.cell? ⟨gb, 0, none⟩ = some (.pointer (some ⟨b, 0, none⟩)) ∧ wy.cell? ⟨gb, 1, none⟩ = some (.string ⟨nm.toArray⟩) ∧ wy.cell? ⟨gb, 2, none⟩ = some (.int .u32 s0)) ∧ Into w Ft wy (fun w' Ft' => DkAt w' b X2 Ft')) := fun wx hx wy hy => by
        have cx : Chg (fun k => bb ≤ k) wr.drew wx := Chg.ofBelowB hx
        have fx := (I2.out.drew.keep cx (fun h => by have := HG2.out; omega)).keep hy.1 (fun h => by have := HLT.out _ h; have := HGB.out; omega)
        exact ⟨⟨fx.c0, fx.c1, fx.c2⟩, hy.before (AFT.out wx hx).2⟩
      by_cases hx : X1 = 0
      case neg =>
        have hxb : (X1 != 0) = true := by simpa using hx
        go_wp2
        refine wp_region_sch (fun w' => w'.cell? ⟨gb, 0, none⟩ = some (.pointer (some ⟨b, 0, none⟩)) ∧ w'.cell? ⟨gb, 1, none⟩ = some (.string ⟨nm.toArray⟩) ∧ w'.cell? ⟨gb, 2, none⟩ = some (.int .u32 s0)) 6
          [(0, true), (1, true), (2, true), (3, true), (4, false), (5, false)] (by kernel_rfl) (by kernel_rfl) (fun _ _ _ _ _ h => h) ⟨e0, e1, e2⟩ ?_
        iterate 4 (refine wpSch_take (v := ?_) rfl (by rfl) ?_ ?_; rotate_left; (· (intro w' hS; (try dsimp only at hS); go_simp; try with_reducible rfl)); (try simp only [Act.put, List.setIfInBounds_toArray, List.set_cons_zero, List.set_cons_succ, List.getElem_toArray, List.getElem_cons_zero, List.getElem_cons_succ]))
        refine wpSch_do rfl (by rfl) (fun K hK => ?_)
        go_simp
        refine BS.out.mono ?_
        rintro e w9 ⟨rfl, hb9⟩
        refine hK _ _ (AFT.out w9 hb9).1 (fun hS => ?_)
        have WR9 := hide (WR.out w9 (AFT.out w9 hb9).2)
        have SX9 := hide (SX.out w9 hb9)
        clear hK K hS hb9 BS AFT SX WR
        (try simp only [Act.put, List.setIfInBounds_toArray, List.set_cons_zero, List.set_cons_succ, List.getElem_toArray, List.getElem_cons_zero, List.getElem_cons_succ])
        refine wpSch_do rfl (by rfl) (fun K hK => ?_)
        go_simp
        refine WR9.out.mono ?_
        rintro e w10 ⟨rfl, hI⟩
        refine hK _ _ (SX9.out w10 hI).1 (fun hS => ?_)
        have HI := hide (SX9.out w10 hI).2
        clear hK K hS hI WR9 SX9
        (try simp only [Act.put, List.setIfInBounds_toArray, List.set_cons_zero, List.set_cons_succ, List.getElem_toArray, List.getElem_cons_zero, List.getElem_cons_succ])
        refine wpSch_end ?_
        simp only [List.drop_succ_cons, List.drop_zero]
        go_wp2
        go_ret2
        exact ⟨rfl, HI.out⟩
      case pos =>
        subst hx
        go_wp2
        refine wp_region_sch (fun w' => w'.cell? ⟨gb, 0, none⟩ = some (.pointer (some ⟨b, 0, none⟩)) ∧ w'.cell? ⟨gb, 1, none⟩ = some (.string ⟨nm.toArray⟩) ∧ w'.cell? ⟨gb, 2, none⟩ = some (.int .u32 s0)) 6
          [(0, true), (1, true), (2, true), (3, true), (4, false), (5, false)] (by kernel_rfl) (by kernel_rfl) (fun _ _ _ _ _ h => h) ⟨e0, e1, e2⟩ ?_
        iterate 4 (refine wpSch_take (v := ?_) rfl (by rfl) ?_ ?_; rotate_left; (· (intro w' hS; (try dsimp only at hS); go_simp; try with_reducible rfl)); (try simp only [Act.put, List.setIfInBounds_toArray, List.set_cons_zero, List.set_cons_succ, List.getElem_toArray, List.getElem_cons_zero, List.getElem_cons_succ]))
        refine wpSch_do rfl (by rfl) (fun K hK => ?_)
        go_simp
        refine BS.out.mono ?_
        rintro e w9 ⟨rfl, hb9⟩
        refine hK _ _ (AFT.out w9 hb9).1 (fun hS => ?_)
        have WR9 := hide (WR.out w9 (AFT.out w9 hb9).2)
        have SX9 := hide (SX.out w9 hb9)
        clear hK K hS hb9 BS AFT SX WR
        (try simp only [Act.put, List.setIfInBounds_toArray, List.set_cons_zero, List.set_cons_succ, List.getElem_toArray, List.getElem_cons_zero, List.getElem_cons_succ])
        refine wpSch_do rfl (by rfl) (fun K hK => ?_)
        go_simp
        refine WR9.out.mono ?_
        rintro e w10 ⟨rfl, hI⟩
        refine hK _ _ (SX9.out w10 hI).1 (fun hS => ?_)
        have HI := hide (SX9.out w10 hI).2
        clear hK K hS hI WR9 SX9
        (try simp only [Act.put, List.setIfInBounds_toArray, List.set_cons_zero, List.set_cons_succ, List.getElem_toArray, List.getElem_cons_zero, List.getElem_cons_succ])
        refine wpSch_end ?_
        simp only [List.drop_succ_cons, List.drop_zero]
        go_wp2
        go_ret2
        exact ⟨⟨_, rfl⟩, HI.out⟩
end
end Go.Proofs.YtodcnkbblippnaaGreatDoor
/- Walks: the index is read: ReadIndex. -/
namespace Go.Proofs.YtodcnkbblippnaaGreatDoor
open Go.RowKit
attribute [local go_sem ↓] NoP_normal

theorem read_le {P : PD} {a c m : Nat} (h : Fit P a c m) (nm : Bs) : (P.read nm).1.length ≤ m := by
  have h1 := all_le h nm
  unfold PD.read
  split
  · simp
  · split
    · rename_i d hd
      unfold unsealN at hd
      split at hd
      · cases hd
      · split at hd
        · cases hd; simp only [List.length_take]; omega
        · cases hd
    · simp
theorem intsK_length : ∀ (k : Nat) (l : Bs), (intsK k l).length * 8 ≤ l.length
  | 0, l => by simp [intsK]
  | k + 1, l => by
    unfold intsK
    split
    · simp
    · have := intsK_length k (l.drop 8)
      simp only [List.length_cons, List.length_drop] at this ⊢
      omega
theorem Chg.cellKeepS {S : Nat → Prop} {w w' : World} (h : Chg S w w') {p : Addr} {v : Value} (hc : w.cell? p = some v) (hn : ¬ S p.block) : w'.cell? p = some v := by
  have hb := World.block_lt_of_cell? w _ hc
  have := h.block p.block hb hn
  unfold World.cell? at hc ⊢
  rw [this]; exact hc
theorem RdI.tail {w : World} {g o n cap : Nat} {l : List Int} (h : RdI w (.slice (some ⟨g, o, none⟩) n cap) l) (hl : 0 < l.length) (a' : Option Addr) (ha : 1 < l.length → a' = some ⟨g, o + 1, none⟩) (hg : ∀ x, a' = some x → x.block = g) : RdI w (.slice a' (n - 1) (cap - 1)) l.tail := by
  obtain ⟨h1, a, c, e, h2, h3, h4, h5⟩ := h
  cases e
  have hlt : l.tail.length = l.length - 1 := List.length_tail
  refine ⟨by rw [intVals_length]; omega, a', cap - 1, by rw [hlt], by omega, by omega, fun x hx => ?_, fun j u hj => ?_⟩
  · unfold Value.ownBlock at hx
    cases a' with
    | none => simp at hx
    | some y =>
      simp only at hx
      have := hg y rfl
      cases hx
      rw [this]; exact h4 g rfl
  · have hj2 : (intVals l)[j + 1]? = some u := by
      cases l with
      | nil => simp at hl
      | cons x r => simpa [intVals] using hj
    obtain ⟨g', o', e, hc⟩ := h5 _ _ hj2
    cases e
    have hj3 : j + 1 < (intVals l).length := (List.getElem?_eq_some_iff.1 hj2).1
    rw [intVals_length] at hj3
    exact ⟨g, o + 1, ha (by omega), by rw [show o + 1 + j = o + (j + 1) by omega]; exact hc⟩
section
variable {w : World} {b B : Nat} {P : PD} {Ft : Nat → Prop} {a c m : Nat} {n : Int}
set_option maxRecDepth 100000 in
set_option maxHeartbeats 4000000 in
theorem readIndex_any (w : World) (h : DkAt w b P Ft) (hlt : ∀ k, Ft k → k < w.heap.size) (hF : Fit P a c m) (hl : Lim a c m) (hL : Lets B w) :
    Calls Tryz.prog 96 #[.pointer (some ⟨b, 0, none⟩)] w fun e w' =>
      (P.index = none ∧ e = .returned (.tuple #[.pointer none, .int .i64 7]) ∧ Chg (fun _ => False) w w') ∨
      ∃ ix xb v, P.index = some ix ∧ e = .returned (.tuple #[.pointer (some ⟨xb, 0, none⟩), .int .i64 0]) ∧ FnBlk w' xb 162 b nmIdx (sum0 nmIdx) ix.first v ∧ RdI w' v ix.segs ∧ (∀ g, v.ownBlock = some g → xb < g) ∧ w.heap.size ≤ xb ∧ Chg (fun _ => False) w w' := by
  have FO := hide (fileOf_any w b 3 (by omega) (numOk_of (n := 0) (by omega) (by omega)) hL)
  have RD : Hid (∀ w1, Chg (fun _ => False) w w1 → _) := fun w1 hc => readD nmIdx (RepU.same h hlt hc) (fun k hk => Nat.lt_of_lt_of_le (hlt k hk) hc.size) hF hl
  have hrl : (P.read nmIdx).1.length ≤ 4294967296 := Nat.le_trans (read_le hF nmIdx) hl.m
  obtain ⟨X, hX⟩ : ∃ X, P.index = X := ⟨_, rfl⟩
  have HX : Hid (indexOf (P.read nmIdx) = X) := hX
  rw [hX]
  have hnm : nmOf 3 0 = nmIdx := rfl
  rw [show ((3 : Nat) : Int) = 3 from rfl, hnm] at FO
  obtain ⟨nm, hnme⟩ : ∃ nm, nmIdx = nm := ⟨_, rfl⟩
  rw [hnme] at FO RD HX hrl ⊢
  obtain ⟨s0, hs0⟩ : ∃ s0, sum0 nm = s0 := ⟨_, rfl⟩
  rw [hs0] at FO RD ⊢
  obtain ⟨⟨dt, de⟩, hde⟩ : ∃ x, P.read nm = x := ⟨_, rfl⟩
  rw [hde] at RD HX hrl
  dsimp only at RD hrl
  clear hX hnm hnme hs0 hde h hlt hF hl hL
  go_enter Tryz.func96, Tryz.ntmps96
  go_wp2_with (fail)
  refine FO.out.mono ?_
  rintro e w1 ⟨rfl, hc1⟩
  have hxb : FnBlk (w1.alloc (.cells #[.pointer (some ⟨b, 0, none⟩), .string ⟨nm.toArray⟩, .int .u32 s0, .int .i64 1, .slice none 0 0] 162)) w1.heap.size 162 b nm s0 1 (.slice none 0 0) := heap_alloc_new w1 _
  have C2 : Hid (Chg (fun _ => False) w (w1.alloc (.cells #[.pointer (some ⟨b, 0, none⟩), .string ⟨nm.toArray⟩, .int .u32 s0, .int .i64 1, .slice none 0 0] 162))) := hc1.alloc _
  have HXB : Hid (w.heap.size ≤ w1.heap.size) := hc1.size
  have RD1 := hide (RD.out _ C2.out)
  have HF1 := hide hxb
  have g0 := hxb.c0
  have g1 := hxb.c1
  have g2 := hxb.c2
  clear hc1 hxb FO RD
  go_wp2_with (fail)
  refine RD1.out.mono ?_
  rintro e w2 ⟨rfl, hc2⟩
  have HF2 := hide (HF1.out.keep hc2 (fun h => h))
  have HC2 : Hid (Chg (fun _ => False) w w2) := C2.out.trans hc2 fun _ h _ => h
  have HW2 : Hid (w1.heap.size < w2.heap.size) := HF2.out.lt
  clear hc2 RD1 HF1 C2 g0 g1 g2
  generalize w1.heap.size = xb at *
  by_cases h8 : de = 8
  case pos =>
    subst h8
    have hX0 : Hid (X = some ⟨1, []⟩) := by unfold Hid; rw [← HX.out]; unfold indexOf; rw [if_pos rfl]
    go_wp2
    go_ret2
    exact .inr ⟨⟨1, []⟩, xb, _, hX0.out, rfl, HF2.out, RdSl.nil, fun g hg => by simp [Value.ownBlock] at hg, HXB.out, HC2.out⟩
  case neg =>
  have h8b : (de == 8) = false := by simpa using h8
  have IO := hide (intsOf_any w2 dt hrl)
  have HLN : Hid ((intsN dt).length * 8 ≤ dt.length) := intsK_length _ _
  have HX2 : Hid ((if de ≠ 0 ∨ intsN dt = [] ∨ dt.length ≠ (intsN dt).length * 8 then none else
    if (intsN dt).all isNum = false then none else
    if riseB cmpI (intsN dt).tail then some ⟨(intsN dt).headD 0, (intsN dt).tail⟩ else none) = X) := by
    rw [← HX.out]; unfold indexOf; rw [if_neg h8]; rfl
  obtain ⟨ns, hns⟩ : ∃ ns, intsN dt = ns := ⟨_, rfl⟩
  rw [hns] at IO HLN HX2
  clear hns HX
  go_wp2_with (fail)
  refine IO.out.mono ?_
  rintro e w3 ⟨v, rfl, hv, hvo, hc3⟩
  have HF3 := hide (HF2.out.keep hc3 (fun h => h))
  have HC3 : Hid (Chg (fun _ => False) w w3) := HC2.out.trans hc3 fun _ h _ => h
  obtain ⟨ap, cp, rfl, hcap1, hcap2, hcn, -⟩ := ownsRow_form hv
  unfold maxLen at hcap2
  have HV := hide hv
  have HVO : Hid (∀ g, (Value.slice ap ns.length cp).ownBlock = some g → w2.heap.size ≤ g) := hvo
  have HW3 := hide hc3.size
  clear hv hvo hc3 IO HF2
  by_cases hbad : de ≠ 0 ∨ ns = [] ∨ dt.length ≠ ns.length * 8
  case pos =>
    have hX0 : Hid (X = none) := by unfold Hid; rw [← HX2.out, if_pos hbad]
    by_cases h0 : de = 0
    · subst h0
      by_cases hn0 : ns = []
      · subst hn0
        go_wp2
        go_ret2
        exact .inl ⟨hX0.out, rfl, HC3.out⟩
      · have hne : ((ns.length : Int) == 0) = false := by
          have : ns.length ≠ 0 := fun e => hn0 (List.length_eq_zero_iff.1 e)
          simp; omega
        have hd : ((dt.length : Int) != wrap64 ((ns.length : Int) * 8)) = true := by
          have : dt.length ≠ ns.length * 8 := by rcases hbad with h | h | h; exact absurd rfl h; exact absurd h hn0; exact h
          have := HLN.out
          have ew : wrap64 ((ns.length : Int) * 8) = (ns.length : Int) * 8 := by unfold wrap64; omega
          rw [ew]; simp; omega
        go_wp2
        go_ret2
        exact .inl ⟨hX0.out, rfl, HC3.out⟩
    · have hb : (de != 0) = true := by simpa using h0
      go_wp2
      go_ret2
      exact .inl ⟨hX0.out, rfl, HC3.out⟩
  case neg =>
    have hz : de = 0 ∧ ns ≠ [] ∧ dt.length = ns.length * 8 := ⟨Classical.byContradiction fun h => hbad (.inl h), fun h => hbad (.inr (.inl h)), Classical.byContradiction fun h => hbad (.inr (.inr h))⟩
    obtain ⟨rfl, hn0, hd0⟩ := hz
    have HX3 : Hid ((if ns.all isNum = false then none else if riseB cmpI ns.tail then some ⟨ns.headD 0, ns.tail⟩ else none) = X) := by rw [← HX2.out, if_neg hbad]; rfl
    have hpos : 0 < ns.length := List.length_pos_iff.2 hn0
    have hne : ((ns.length : Int) == 0) = false := by simp; omega
    have hd : ((dt.length : Int) != wrap64 ((ns.length : Int) * 8)) = false := by
      have ew : wrap64 ((ns.length : Int) * 8) = (ns.length : Int) * 8 := by unfold wrap64; omega
      rw [ew]; simp; omega
    obtain ⟨g, rfl⟩ := hcn hpos
    have HBG : Hid (ns.length ≤ 1099511627776) := by unfold Hid; omega
    clear hbad HX2 hd0 hrl HLN
    go_wp2
    go_loopw [44] (fun iv wr => ∃ k : Nat, iv = .int .i64 k ∧ k ≤ ns.length ∧ wr = w3 ∧ Hid ((ns.take k).all isNum = true)) (fun iv _ => ns.length - (intOf iv).toNat)
    case atStart => exact ⟨0, rfl, by omega, rfl, by unfold Hid; rfl⟩
    case round =>
      obtain ⟨k, rfl, hk, rfl, hI⟩ := hrel
      by_cases hk1 : k < ns.length
      · have hcell : wr.cell? ⟨g, k, none⟩ = some (.int .i64 (ns[k]'hk1)) := ownsRow_cell HV.out rfl (intVals_at ns k hk1)
        have htk : ns.take (k + 1) = ns.take k ++ [ns[k]'hk1] := List.take_succ_eq_append_getElem hk1
        have hmem : (ns[k]'hk1) ∈ ns := List.getElem_mem hk1
        obtain ⟨x, hx⟩ : ∃ x, (ns[k]'hk1) = x := ⟨_, rfl⟩
        rw [hx] at hcell htk hmem
        have IN := hide (isNumber_any wr x)
        have hki : (k : Int) < (ns.length : Int) := by omega
        have hk0 : (0 : Int) ≤ (k : Int) := Int.natCast_nonneg _
        have HTK := hide htk
        have HMEM := hide hmem
        clear hx htk hmem
        by_cases hn : isNum x = true
        · have hI2 : Hid ((ns.take (k + 1)).all isNum = true) := by unfold Hid; rw [HTK.out, List.all_append, hI.out]; simp [hn]
          rw [hn] at IN
          go_wp2_with (go_at_call 128; refine IN.out.mono ?_; rintro e w4 ⟨rfl, rfl⟩)
          go_roundw
          case rel => exact ⟨k + 1, by go_num, by omega, trivial, hI2.out⟩
          case measure => simp [intOf]; omega
        · have hnf : isNum x = false := by simpa using hn
          have hX0 : Hid (X = none) := by
            unfold Hid; rw [← HX3.out, if_pos]
            have : ¬ ns.all isNum = true := fun h => hn (List.all_eq_true.1 h x HMEM.out)
            simpa using this
          rw [hnf] at IN
          go_wp2_with (go_at_call 128; refine IN.out.mono ?_; rintro e w4 ⟨rfl, rfl⟩)
          go_ret2
          exact .inl ⟨hX0.out, rfl, HC3.out⟩
      · obtain rfl : k = ns.length := by omega
        have hall : ns.all isNum = true := by have := hI.out; rwa [List.take_length] at this
        have HX4 : Hid ((if riseB cmpI ns.tail then some (Ix.mk (ns.headD 0) ns.tail) else none) = X) := by have := HX3.out; rwa [if_neg (by simp [hall])] at this
        have hcell : wr.drew.cell? ⟨g, 0, none⟩ = some (.int .i64 (ns.headD 0)) := by
          have h0 := intVals_at ns 0 hpos
          have : (ns[0]'hpos) = ns.headD 0 := by cases ns with
            | nil => simp at hpos
            | cons x r => rfl
          rw [this] at h0
          exact ownsRow_cell HV.out rfl h0
        have hki : ¬ ((ns.length : Int) < (ns.length : Int)) := by omega
        have f3 := HF3.out.drew.fz 3
        have f4 := HF3.out.drew.fz 4
        have g3 := HF3.out.drew.c3
        have g4 := HF3.out.drew.c4
        clear hI HX3 hall
        obtain ⟨h0, hh0⟩ : ∃ h0, ns.headD 0 = h0 := ⟨_, rfl⟩
        rw [hh0] at hcell HX4
        clear hh0
        have hn1 : (1 : Int) ≤ (ns.length : Int) := by omega
        obtain ⟨a', ha'⟩ : ∃ a' : Option Addr, (if cp = 1 then some (⟨g, 0, none⟩ : Addr) else some ⟨g, 1, none⟩) = a' := ⟨_, rfl⟩
        have HT := hide (RdI.tail (InSl.rd HV.out) hpos a' (fun h => by rw [← ha', if_neg (by omega)]) (fun x hx => by rw [← ha'] at hx; split at hx <;> cases hx <;> rfl))
        have hab : ∀ x, a' = some x → x.block = g := fun x hx => by rw [← ha'] at hx; split at hx <;> cases hx <;> rfl
        have hto : ∀ g', (Value.slice a' (ns.length - 1) (cp - 1)).ownBlock = some g' → g' = g := fun g' hg => by
          unfold Value.ownBlock at hg
          cases hx : a' with
          | none => rw [hx] at hg; simp at hg
          | some y => rw [hx] at hg; have := hab y hx; simp at hg; omega
        clear hab
        have HTO := hide hto
        have HGN : Hid (w2.heap.size ≤ g) := HVO.out g rfl
        have hF9 : FnBlk (wr.setCell ⟨xb, 3, none⟩ (.int .i64 h0)).drew xb 162 b nm s0 h0 (.slice none 0 0) := (HF3.out.s3 h0).drew
        have k9 : Chg (One xb) wr (wr.setCell ⟨xb, 3, none⟩ (.int .i64 h0)).drew := ((Chg.refl (One xb) wr).setAt (b := xb) rfl 3 _).drew
        have hcell2 : (wr.setCell ⟨xb, 3, none⟩ (.int .i64 h0)).drew.cell? ⟨g, 0, none⟩ = some (.int .i64 h0) := k9.cellKeepS hcell (fun h => by have h' : g = xb := h; have := HGN.out; have := HW2.out; omega)
        have F9 := hide hF9
        have K9 := hide k9
        clear hto hF9 k9
        go_wp2
        refine wp_region_sch (fun w' => w'.cell? ⟨g, 0, none⟩ = some (.int .i64 h0)) 10
          [(0, true), (1, true), (2, true), (3, true), (4, true), (5, true), (6, true), (7, true), (8, true), (9, false)] (by kernel_rfl) (by kernel_rfl) (fun _ _ _ _ _ h => h) hcell ?_
        iterate 9 (refine wpSch_take (v := ?_) rfl (by rfl) ?_ ?_; rotate_left; (· (intro w' hS; (try dsimp only at hS); go_simp; try with_reducible rfl)); (try simp only [Act.put, List.setIfInBounds_toArray, List.set_cons_zero, List.set_cons_succ, List.getElem_toArray, List.getElem_cons_zero, List.getElem_cons_succ]))
        refine wpSch_do rfl (by rfl) (fun K hK => ?_)
        go_simp
        refine hK _ _ hcell2 (fun hS => ?_)
        clear hK K hS g3 g4 f3 f4 hcell
        (try simp only [Act.put, List.setIfInBounds_toArray, List.set_cons_zero, List.set_cons_succ, List.getElem_toArray, List.getElem_cons_zero, List.getElem_cons_succ])
        refine wpSch_end ?_
        simp only [List.drop_succ_cons, List.drop_zero]
        generalize (wr.setCell ⟨xb, 3, none⟩ (.int .i64 h0)).drew = w9 at F9 K9 hcell2 ⊢
        have f94 := F9.out.fz 4
        have g94 := F9.out.c4
        have F10 := hide (F9.out.s4 (.slice a' (ns.length - 1) (cp - 1)))
        have c104 := F10.out.c4
        have k10 : Chg (One xb) wr (w9.setCell ⟨xb, 4, none⟩ (.slice a' (ns.length - 1) (cp - 1))) := K9.out.setAt rfl 4 _
        have C10 : Hid (Chg (fun _ => False) w (w9.setCell ⟨xb, 4, none⟩ (.slice a' (ns.length - 1) (cp - 1)))) := HC3.out.trans k10 fun x hx hlt => by have hx' : x = xb := hx; have := HXB.out; omega
        have R10 : Hid (RdI (w9.setCell ⟨xb, 4, none⟩ (.slice a' (ns.length - 1) (cp - 1))) (.slice a' (ns.length - 1) (cp - 1)) ns.tail) := RdSl.chg HT.out k10 fun g' hg hx => by
          have hx' : g' = xb := hx
          have := HTO.out g' hg
          have := HGN.out
          have := HW2.out
          omega
        have RI := hide (rise_int _ _ _ R10.out (by rw [List.length_tail]; have := HBG.out; omega))
        clear k10
        by_cases hr : riseB cmpI ns.tail = true
        · rw [hr] at RI
          have hX0 : Hid (X = some ⟨h0, ns.tail⟩) := by unfold Hid; rw [← HX4.out, if_pos hr]
          go_wp2_with (go_at_call 129; refine RI.out.mono ?_; rintro e w5 ⟨rfl, nn, rfl⟩)
          go_ret2
          have kk := (Chg.refl (fun _ => False) (w9.setCell ⟨xb, 4, none⟩ (.slice a' (ns.length - 1) (cp - 1)))).drewN nn
          exact .inr ⟨_, xb, _, hX0.out, rfl, F10.out.keep kk (fun h => h), RdSl.chg R10.out kk (fun _ _ h => h), fun g' hg => by have := HTO.out g' hg; have := HGN.out; have := HW2.out; omega, HXB.out, C10.out.trans kk fun _ h _ => h⟩
        · have hrf : riseB cmpI ns.tail = false := by simpa using hr
          rw [hrf] at RI
          have hX0 : Hid (X = none) := by unfold Hid; rw [← HX4.out, if_neg hr]
          go_wp2_with (go_at_call 129; refine RI.out.mono ?_; rintro e w5 ⟨rfl, nn, rfl⟩)
          go_ret2
          exact .inl ⟨hX0.out, rfl, C10.out.drewN nn⟩
end
end Go.Proofs.YtodcnkbblippnaaGreatDoor
