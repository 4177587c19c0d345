/-
  The statement PassingCardSaid is proved: the law Passing answers true, at every four numbers; there is no condition.
  Part 17 of 34.
-/
import Derived.Test.YtodcnkbblippnaaGreatDoorPart16
import Derived.Shelf.Strings.BuilderK
/- Walks: other segments and logs count: Index.Turn; Index.Is. -/
namespace Go.Proofs.YtodcnkbblippnaaGreatDoor
open Go.RowKit
attribute [local go_sem ↓] NoP_normal

/-- What a builder holds; blocks that are neither the builder nor bytes stand as they stood. -/
theorem buStringK {B b : Nat} {l : List UInt8} (w : World) (h : BuAt B b l w) (hBw : B ≤ w.heap.size) :
    Calls Tryz.prog 197 #[.pointer (some ⟨b, 0, none⟩)] w fun e w' => e = .returned (.string ⟨l.toArray⟩) ∧ Below B w w' ∧ ∀ k o, w.heap[k]? = some o → k ≠ b → (∀ c fz, o ≠ .cells c 5 fz) → w'.heap[k]? = some o := by
  refine (Any.Builder_String_any_k Tryz.lays169 Tryz.Builder_Extra_169 B b l w (h.imp Lib.BuilderAtF.of Lib.BuilderAtF.of) hBw).mono ?_
  rintro e w' ⟨h1, _, h2, h3⟩
  exact ⟨h1, h2, fun k o hk hb ho => h3 k o hk (fun e => hb (by simpa using e)) ho⟩
theorem FlBlk.s1 {w : World} {fb : Nat} {T : TypeId} {p : Value} {name : ByteArray} {s : Nat} (h : FlBlk w fb T p name s) (nm : ByteArray) : FlBlk (w.setCell ⟨fb, 1, none⟩ (.string nm)) fb T p nm s := heap_setCell_at h
theorem Chg.trans' {Ft : Nat → Prop} {x : Nat} {w w1 w2 : World} (h : Chg Ft w w1) (k : Chg (One x) w1 w2) : Chg (fun k => Ft k ∨ k = x) w w2 :=
  (h.mono fun _ _ h => .inl h).trans k fun _ h _ => .inr h
theorem FlBlk.drew {w : World} {fb : Nat} {T : TypeId} {p : Value} {name : ByteArray} {s : Nat} (h : FlBlk w fb T p name s) : FlBlk w.drew fb T p name s := by unfold FlBlk at h ⊢; exact h
section
variable {w : World} {b B xb : Nat} {P : PD} {Ft : Nat → Prop} {a c m : Nat} {n : Int}
theorem renameD (h : DkAt w b P Ft) (old nm : ByteArray) (hF : Fit P a c m) (hl : Lim a c m) :
    Calls Tryz.prog 242 #[.pointer (some ⟨b, 0, none⟩), .string old, .string nm] w fun e w' => e = .returned (.int .i64 (P.rename old nm).1) ∧ Into w Ft w' (fun w' Ft' => DkAt w' b (P.rename old nm).2 Ft') :=
  renameU h old nm (by have := hF.dir; have := hF.chg; have := hl.a; have := hl.c; omega)
theorem idxB_length (first : Int) (segs : List Int) : (idxB first segs).length = 8 + 8 * segs.length := by
  unfold idxB
  rw [List.length_append, intB_length]
  congr 1
  induction segs with
  | nil => rfl
  | cons x r ih => simp only [List.flatMap_cons, List.length_append, ih, intB_length, List.length_cons]; omega
theorem Fit.write {P : PD} {a c m : Nat} (h : Fit P a c m) (nm : Bs) (s : Nat) (l : Bs) : Fit (P.write nm s l).2 (a + 1) (c + 1) (m + l.length + 4) := by
  have h1 := h.create (nmB nm)
  have hp : (pieceB s l).length = l.length + 4 := by simp [pieceB, sumB_length]
  have h2 := h1.append (nmB nm) (pieceB s l)
  rw [hp] at h2
  unfold PD.write
  split
  · exact h1.mono (Nat.le_refl _) (Nat.le_refl _) (by omega)
  · split
    · exact h2.mono (Nat.le_refl _) (Nat.le_refl _) (by omega)
    · exact (h2.sync (nmB nm)).mono (Nat.le_refl _) (Nat.le_refl _) (by omega)
theorem Fit.turnIx {P : PD} {a c m : Nat} (h : Fit P a c m) (first : Int) (segs : List Int) : Fit (P.turn first segs).2 (a + 2) (c + 2) (m + 12 + 8 * segs.length) := by
  have h1 := h.write nmDrf (sum0 nmIdx) (idxB first segs)
  rw [idxB_length] at h1
  unfold PD.turn
  split
  · exact h1.mono (by omega) (by omega) (by omega)
  · exact (h1.rename (nmB nmDrf) (nmB nmIdx)).mono (by omega) (by omega) (by omega)
set_option maxRecDepth 100000 in
set_option maxHeartbeats 4000000 in
theorem turn_any (w : World) (first f0 : Int) (sv v0 : Value) (segs : List Int) (hX : FnBlk w xb 162 b nmIdx (sum0 nmIdx) f0 v0) (h : DkAt w b P Ft) (hlt : ∀ k, Ft k → k < w.heap.size) (hn : ¬ Ft xb) (hF : Fit P a c m) (hl : Lim (a + 2) (c + 2) (m + 12 + 8 * segs.length)) (hL : Lets B w)
    (hs : RdI w sv segs) (hf : In64 first) (hsr : ∀ x ∈ segs, In64 x) (hsl : segs.length ≤ 134217728) :
    Calls Tryz.prog 200 #[.pointer (some ⟨xb, 0, none⟩), .int .i64 first, sv] w fun e w' =>
      e = .returned (.int .i64 (P.turn first segs).1) ∧ FnBlk w' xb 162 b nmIdx (sum0 nmIdx) (if (P.turn first segs).1 = 0 then first else f0) (if (P.turn first segs).1 = 0 then sv else v0) ∧ IntoF w Ft xb w' b (P.turn first segs).2 := by
  have hxl := hX.lt
  have hnm : nmOf 4 0 = nmDrf := rfl
  have NO : Hid (∀ w1, Chg (fun _ => False) w w1 → Calls Tryz.prog 134 #[.int .i64 4, .int .i64 0] w1 fun e w' => e = .returned (.string ⟨nmDrf.toArray⟩) ∧ Chg (fun _ => False) w1 w') := fun w1 hc => by
    have := nameOf_nm (n := 0) w1 4 (by omega) (by omega) (by decide +kernel) (hL.keep0 hc)
    rw [show ((4 : Nat) : Int) = 4 from rfl, hnm] at this
    exact this
  have hi := idxB_length first segs
  have hlw : Lim (a + 1) (c + 1) m := ⟨by have := hl.a; omega, by have := hl.c; omega, by have := hl.m; omega⟩
  have WR : Hid (∀ w1, Chg (fun _ => False) w w1 → _) := fun w1 hc => writeD nmDrf (idxB first segs) (sum0_lt nmIdx) (RepU.same h hlt hc) (fun k hk => Nat.lt_of_lt_of_le (hlt k hk) hc.size) (by rw [hi]; omega) hF hlw
  have RN : Hid (∀ w1 Ft1, DkAt w1 b (P.write nmDrf (sum0 nmIdx) (idxB first segs)).2 Ft1 → _) := fun w1 Ft1 h1 => renameD h1 (nmB nmDrf) (nmB nmIdx) (hF.write _ _ _) ⟨by have := hl.a; omega, by have := hl.c; omega, by rw [hi]; have := hl.m; omega⟩
  have HR : Hid (P.turn first segs = if (P.write nmDrf (sum0 nmIdx) (idxB first segs)).1 ≠ 0 then P.write nmDrf (sum0 nmIdx) (idxB first segs) else (P.write nmDrf (sum0 nmIdx) (idxB first segs)).2.rename (nmB nmDrf) (nmB nmIdx)) := rfl
  obtain ⟨R, hR⟩ : ∃ R, P.turn first segs = R := ⟨_, rfl⟩
  rw [hR] at HR ⊢
  have IB : Hid (∀ wx x, In64 x → _) := fun wx x hx => intBytes_any wx x hx
  have hib : idxB first segs = intB first ++ segs.flatMap intB := rfl
  obtain ⟨dn, hdn⟩ : ∃ dn, nmDrf = dn := ⟨_, rfl⟩
  obtain ⟨nm, hnme⟩ : ∃ nm, nmIdx = nm := ⟨_, rfl⟩
  rw [hnme] at hX WR RN HR ⊢
  rw [hdn] at NO WR RN HR
  obtain ⟨s0, hs0⟩ : ∃ s0, sum0 nm = s0 := ⟨_, rfl⟩
  rw [hs0] at hX WR RN HR ⊢
  obtain ⟨W, hW⟩ : ∃ W, P.write dn s0 (idxB first segs) = W := ⟨_, rfl⟩
  rw [hW] at WR RN HR
  obtain ⟨Q, hQ⟩ : ∃ Q, W.2.rename (nmB dn) (nmB nm) = Q := ⟨_, rfl⟩
  rw [hQ] at RN HR
  obtain ⟨il, hil⟩ : ∃ il, idxB first segs = il := ⟨_, rfl⟩
  rw [hil] at WR hib hi
  have HIB := hide hib
  have HI := hide hi
  obtain ⟨pa, pcap, rfl, hcap1, hcap2⟩ := hs.form
  unfold maxLen at hcap2
  have HS := hide hs
  have HLT := hide hlt
  have HN := hide hn
  have HX := hide hX
  have HFI := hide hf
  have HSR := hide hsr
  have HXL := hide hxl
  have BN := hide (buNew w)
  have C1 : Hid (Chg (fun _ => False) w (w.alloc (.cells #[.pointer none, .slice none 0 0] 260))) := (Chg.refl _ w).alloc _
  have IBF := hide (IB.out (w.alloc (.cells #[.pointer none, .slice none 0 0] 260)) first hf)
  clear hR hnm hib hnme hdn hs0 hW hQ hil hi hlw h hlt hn hF hl hL hs hX hf hsr hxl
  go_enter Tryz.func200, Tryz.ntmps200
  go_wp2_with (fail)
  refine IBF.out.mono ?_
  rintro e w1 ⟨rfl, hc1⟩
  have BU1 : Hid (BuAt w.heap.size w.heap.size [] w1) := BN.out.keep hc1 (fun _ h => h.elim)
  have K1 : Hid (Chg (fun _ => False) w w1) := C1.out.trans hc1 fun _ h _ => h
  have L1 : Hid (w.heap.size < w1.heap.size) := Nat.lt_of_lt_of_le (by simp) hc1.size
  have WS1 := hide (writeString_list (t := intB first) w1 BU1.out (by rw [intB_length]; simp) K1.out.size)
  clear hc1 IBF BN C1
  go_wp2_with (fail)
  refine WS1.out.mono ?_
  rintro e w2 ⟨rfl, hbu, hb2⟩
  have BU2 : Hid (BuAt w.heap.size w.heap.size (intB first) w2) := hbu
  have K2 : Hid (Chg (fun _ => False) w w2) := K1.out.trans (Chg.ofBelowB hb2) fun x hx hlt => by omega
  have L2 : Hid (w.heap.size < w2.heap.size) := Nat.lt_of_lt_of_le L1.out hb2.size
  clear hbu hb2 WS1 BU1 K1 L1
  go_wp2
  obtain ⟨bb, hbb⟩ : ∃ bb, w.heap.size = bb := ⟨_, rfl⟩
  rw [hbb] at BU2 L2 ⊢
  have HBB := hide hbb
  clear hbb
  go_loopw [18] (fun iv wr => ∃ k : Nat, iv = .int .i64 k ∧ k ≤ segs.length ∧ Hid (BuAt bb bb (intB first ++ (segs.take k).flatMap intB) wr ∧ Chg (fun _ => False) w wr ∧ bb < wr.heap.size)) (fun iv _ => segs.length - (intOf iv).toNat)
  case atStart => exact ⟨0, rfl, by omega, by simpa using BU2.out, K2.out, L2.out⟩
  case round =>
    obtain ⟨k, rfl, hk, hI⟩ := hrel
    by_cases hk1 : k < segs.length
    · obtain ⟨i1, i2, i3⟩ := hI.out
      obtain ⟨g, o, rfl, c1⟩ := RdI.at HS.out k hk1
      have hx := HSR.out _ (List.getElem_mem hk1)
      have htk : segs.take (k + 1) = segs.take k ++ [segs[k]'hk1] := List.take_succ_eq_append_getElem hk1
      obtain ⟨x, hxe⟩ : ∃ x, (segs[k]'hk1) = x := ⟨_, rfl⟩
      rw [hxe] at c1 hx htk
      have d1 := i2.cellKeep c1
      have IBX := hide (IB.out wr x hx)
      have HTK : Hid ((segs.take (k + 1)).flatMap intB = (segs.take k).flatMap intB ++ intB x) := by unfold Hid; rw [htk]; simp
      have hlk : (intB first ++ (segs.take k).flatMap intB).length ≤ 8 + 8 * segs.length := by
        have := idxB_length first (segs.take k)
        unfold idxB at this
        rw [this, List.length_take]; omega
      obtain ⟨pk, hpk⟩ : ∃ pk, intB first ++ (segs.take k).flatMap intB = pk := ⟨_, rfl⟩
      have HTK2 : Hid (intB first ++ (segs.take (k + 1)).flatMap intB = pk ++ intB x) := by unfold Hid; rw [HTK.out, ← List.append_assoc, hpk]
      rw [hpk] at i1 hlk
      have hxl := intB_length x
      obtain ⟨ib, hib⟩ : ∃ ib, intB x = ib := ⟨_, rfl⟩
      rw [hib] at IBX HTK2 hxl
      have I1 := hide i1
      have I2 := hide i2
      have I3 := hide i3
      have WS : Hid (∀ w6, Chg (fun _ => False) wr w6 → _) := fun w6 h6 => writeString_list (t := ib) w6 (I1.out.keep h6 (fun _ h => h.elim)) (by omega) (Nat.le_trans (Nat.le_of_lt I3.out) h6.size)
      have hki : (k : Int) < (segs.length : Int) := by omega
      have hk0 : (0 : Int) ≤ (k : Int) := Int.natCast_nonneg _
      clear i1 i2 i3 hI c1 hxe htk hpk hib hx hlk hxl HTK
      go_wp2_with (fail)
      refine IBX.out.mono ?_
      rintro e w6 ⟨rfl, hc6⟩
      have C6 := hide hc6
      have WS6 := hide (WS.out w6 hc6)
      clear hc6 IBX WS
      go_wp2_with (go_at_call 194; refine WS6.out.mono ?_; rintro e w7 ⟨rfl, hbu, hb7⟩; have HBU := hide hbu; have HB7 := hide hb7; clear hbu hb7)
      go_roundw
      case rel =>
        have c7 : Chg (fun k => bb ≤ k) w6 w7 := Chg.ofBelowB HB7.out
        refine ⟨k + 1, by go_num, by omega, by rw [HTK2.out]; exact HBU.out, ?_, ?_⟩
        · exact (I2.out.trans C6.out fun _ h _ => h).trans c7 fun x hx hlt => by have := HBB.out; omega
        · exact Nat.lt_of_lt_of_le I3.out (Nat.le_trans C6.out.size HB7.out.size)
      case measure => simp [intOf]; omega
    · obtain ⟨i1, i2, i3⟩ := hI.out
      obtain rfl : k = segs.length := by omega
      rw [List.take_length, ← HIB.out] at i1
      have hki : ¬ ((segs.length : Int) < (segs.length : Int)) := by omega
      have fx := HX.out.keep i2 (fun h => h)
      have g0 := fx.c0
      have g1 := fx.c1
      have g2 := fx.c2
      have HFA : FlBlk (wr.alloc (.cells #[.pointer (some ⟨b, 0, none⟩), .string (nmB nm), .int .u32 s0] 160)) wr.heap.size 160 (.pointer (some ⟨b, 0, none⟩)) (nmB nm) s0 := heap_alloc_new wr _
      have ka : Chg (fun _ => False) wr (wr.alloc (.cells #[.pointer (some ⟨b, 0, none⟩), .string (nmB nm), .int .u32 s0] 160)) := (Chg.refl _ wr).alloc _
      have NOA := hide (NO.out _ (i2.trans ka fun _ h _ => h))
      have KA := hide ka
      have FA := hide HFA
      have I1 := hide i1
      have I2 := hide i2
      have I3 := hide i3
      have FX := hide fx
      clear i1 i2 i3 ka HFA NO hI fx
      go_wp2_with (fail)
      refine NOA.out.mono ?_
      rintro e w5 ⟨rfl, hc5⟩
      have FB5 := FA.out.keep hc5 (fun h => h)
      have K5 : Chg (fun _ => False) wr w5 := KA.out.trans hc5 fun _ h _ => h
      have h51 := FB5.c1
      have hz51 := FB5.fz 1
      have FB6 := hide (FB5.s1 ⟨dn.toArray⟩)
      have K6 : Hid (Chg (fun _ => False) wr (w5.setCell ⟨wr.heap.size, 1, none⟩ (.string ⟨dn.toArray⟩))) := K5.setCell (p := ⟨wr.heap.size, 1, none⟩) (fun h => by have h' : wr.heap.size < wr.heap.size := h; omega) _
      clear hc5 FB5 K5 NOA FA KA
      generalize hdb : wr.heap.size = db at *
      have HDB := hide hdb
      clear hdb
      go_wp2
      generalize w5.setCell ⟨db, 1, none⟩ (.string ⟨dn.toArray⟩) = w6 at FB6 K6 ⊢
      have BU6 : Hid (BuAt bb bb il w6.drew) := I1.out.keep K6.out.drew (fun _ h => h.elim)
      have BS := hide (buStringK w6.drew BU6.out (by have := I3.out; have := HDB.out; have := K6.out.size; show bb ≤ w6.heap.size; omega))
      have AFT : Hid (∀ wx, Below bb w6.drew wx → (∀ k o, w6.drew.heap[k]? = some o → k ≠ bb → (∀ c fz, o ≠ .cells c 5 fz) → wx.heap[k]? = some o) → FlBlk wx db 160 (.pointer (some ⟨b, 0, none⟩)) ⟨dn.toArray⟩ s0 ∧ Chg (fun _ => False) w wx) := fun wx hx ho =>
        ⟨ho db _ FB6.out.drew (by have := I3.out; have := HDB.out; omega) (fun c fz e => by cases e), (I2.out.trans K6.out.drew fun _ h _ => h).trans (Chg.ofBelowB hx) fun x hx hlt => by have := HBB.out; omega⟩
      have W2 : Hid (∀ wx, FlBlk wx db 160 (.pointer (some ⟨b, 0, none⟩)) ⟨dn.toArray⟩ s0 → Chg (fun _ => False) w wx → ∀ wy, Into wx Ft wy (fun w' Ft' => DkAt w' b W.2 Ft') → FlBlk wy db 160 (.pointer (some ⟨b, 0, none⟩)) ⟨dn.toArray⟩ s0 ∧ FnBlk wy xb 162 b nm s0 f0 v0 ∧ Into w Ft wy (fun w' Ft' => DkAt w' b W.2 Ft')) := fun wx hf hx wy hy =>
        ⟨hf.keep hy.1 (fun h => by have := HLT.out _ h; have := I2.out.size; have := HDB.out; omega), (HX.out.keep hx (fun h => h)).keep hy.1 HN.out, hy.before hx⟩
      have e0 := FB6.out.drew.c0
      have e1 := FB6.out.drew.c1
      have e2 := FB6.out.drew.c2
      obtain ⟨W1, W3⟩ := W
      dsimp only at WR RN W2 HR
      clear h51 hz51 g0 g1 g2 HI HIB
      by_cases hw : W1 = 0
      case neg =>
        have hR1 : R = (W1, W3) := by rw [HR.out, if_pos hw]
        subst hR1
        have hwb : (W1 != 0) = true := by simpa using hw
        refine wp_region_sch (fun w' => w'.cell? ⟨db, 0, none⟩ = some (.pointer (some ⟨b, 0, none⟩)) ∧ w'.cell? ⟨db, 1, none⟩ = some (.string ⟨dn.toArray⟩) ∧ w'.cell? ⟨db, 2, none⟩ = some (.int .u32 s0)) 3
          [(0, true), (1, false), (2, false)] (by kernel_rfl) (by kernel_rfl) (fun _ _ _ _ _ h => h) ⟨e0, e1, e2⟩ ?_
        (refine wpSch_take (v := ?_) rfl (by rfl) ?_ ?_; rotate_left; (· (intro w' hS; (try dsimp only at hS); go_simp; try with_reducible rfl)); (try simp only [Act.put, List.setIfInBounds_toArray, List.set_cons_zero, List.set_cons_succ, List.getElem_toArray, List.getElem_cons_zero]))
        refine wpSch_do rfl (by rfl) (fun K hK => ?_)
        go_simp
        refine BS.out.mono ?_
        rintro e w9 ⟨rfl, hb9, ho9⟩
        obtain ⟨q1, q2⟩ := AFT.out w9 hb9 ho9
        refine hK _ _ ⟨q1.c0, q1.c1, q1.c2⟩ (fun hS => ?_)
        have WR9 := hide (WR.out w9 q2)
        have W29 := hide (W2.out w9 q1 q2)
        clear hK K hS hb9 ho9 q1 q2 BS AFT WR W2
        (try simp only [Act.put, List.setIfInBounds_toArray, List.set_cons_zero, List.set_cons_succ, List.getElem_toArray, List.getElem_cons_zero, List.getElem_cons_succ])
        refine wpSch_do rfl (by rfl) (fun K hK => ?_)
        go_simp
        refine WR9.out.mono ?_
        rintro e w10 ⟨rfl, hI⟩
        obtain ⟨q1, q2, q3⟩ := W29.out w10 hI
        refine hK _ _ ⟨q1.c0, q1.c1, q1.c2⟩ (fun hS => ?_)
        have Q2 := hide q2
        have Q3 := hide q3
        clear hK K hS hI WR9 W29 q1 q2 q3
        (try simp only [Act.put, List.setIfInBounds_toArray, List.set_cons_zero, List.set_cons_succ, List.getElem_toArray, List.getElem_cons_zero, List.getElem_cons_succ])
        refine wpSch_end ?_
        simp only [List.drop_succ_cons, List.drop_zero]
        go_wp2
        go_ret
        dsimp only
        obtain ⟨r1, Ft', r2, r3, r4⟩ := Q3.out
        exact ⟨rfl, Q2.out, r1.mono fun _ _ h => .inl h, Ft', r2, r3, r4⟩
      case pos =>
        subst hw
        have hR1 : R = Q := by rw [HR.out, if_neg (by simp)]
        subst hR1
        clear HR
        refine wp_region_sch (fun w' => w'.cell? ⟨db, 0, none⟩ = some (.pointer (some ⟨b, 0, none⟩)) ∧ w'.cell? ⟨db, 1, none⟩ = some (.string ⟨dn.toArray⟩) ∧ w'.cell? ⟨db, 2, none⟩ = some (.int .u32 s0)) 3
          [(0, true), (1, false), (2, false)] (by kernel_rfl) (by kernel_rfl) (fun _ _ _ _ _ h => h) ⟨e0, e1, e2⟩ ?_
        (refine wpSch_take (v := ?_) rfl (by rfl) ?_ ?_; rotate_left; (· (intro w' hS; (try dsimp only at hS); go_simp; try with_reducible rfl)); (try simp only [Act.put, List.setIfInBounds_toArray, List.set_cons_zero, List.set_cons_succ, List.getElem_toArray, List.getElem_cons_zero]))
        refine wpSch_do rfl (by rfl) (fun K hK => ?_)
        go_simp
        refine BS.out.mono ?_
        rintro e w9 ⟨rfl, hb9, ho9⟩
        obtain ⟨q1, q2⟩ := AFT.out w9 hb9 ho9
        refine hK _ _ ⟨q1.c0, q1.c1, q1.c2⟩ (fun hS => ?_)
        have WR9 := hide (WR.out w9 q2)
        have W29 := hide (W2.out w9 q1 q2)
        have F29 := hide q1
        have C29 := hide q2
        clear hK K hS hb9 ho9 q1 q2 BS AFT WR W2
        (try simp only [Act.put, List.setIfInBounds_toArray, List.set_cons_zero, List.set_cons_succ, List.getElem_toArray, List.getElem_cons_zero, List.getElem_cons_succ])
        refine wpSch_do rfl (by rfl) (fun K hK => ?_)
        go_simp
        refine WR9.out.mono ?_
        rintro e w10 ⟨rfl, hI⟩
        obtain ⟨q1, q2, q3⟩ := W29.out w10 hI
        refine hK _ _ ⟨q1.c0, q1.c1, q1.c2⟩ (fun hS => ?_)
        obtain ⟨r1, -⟩ := q3
        obtain ⟨-, Ft1, r2, r3, r5⟩ := hI
        have D9 := hide F29.out.lt
        have S9 := hide C29.out.size
        have R4 : Hid (∀ k, Ft1 k → Ft k ∨ w.heap.size ≤ k) := fun k hk => (r5 k hk).imp id fun h => Nat.le_trans S9.out h
        have R1 := hide r1
        have RN1 := hide (RN.out w10.drew Ft1 (RepU.same r2 r3 (Chg.refl _ w10).drew))
        have R3 := hide r3
        have x0 := q2.drew.c0
        have x1 := q2.drew.c1
        have x2 := q1.drew.c1
        have NF1 : Hid (¬ Ft1 xb) := fun h => by rcases R4.out _ h with h | h; exact HN.out h; have := HXL.out; omega
        have NF2 : Hid (¬ Ft1 db) := fun h => by
          rcases r5 _ h with h | h
          · have := HLT.out _ h; have := I2.out.size; have := HDB.out; omega
          · have := D9.out; omega
        have AF : Hid (∀ wz, Into w10.drew Ft1 wz (fun w' Ft' => DkAt w' b R.2 Ft') → (FnBlk wz xb 162 b nm s0 f0 v0 ∧ FlBlk wz db 160 (.pointer (some ⟨b, 0, none⟩)) ⟨dn.toArray⟩ s0) ∧ Into w Ft wz (fun w' Ft' => DkAt w' b R.2 Ft')) := fun wz hz =>
          ⟨⟨q2.drew.keep hz.1 NF1.out, q1.drew.keep hz.1 NF2.out⟩, by
            obtain ⟨z1, Ft2, z2, z3, z4⟩ := hz
            exact ⟨(R1.out.drew).trans z1 fun x hx hlt => (R4.out x hx).resolve_right (by omega), Ft2, z2, z3, fun k hk => (z4 k hk).elim (fun h => R4.out k h) fun h => .inr (Nat.le_trans R1.out.size h)⟩⟩
        clear hK K hS WR9 W29 q1 q2 r1 r2 r3 r5 RN F29 C29
        (try simp only [Act.put, List.setIfInBounds_toArray, List.set_cons_zero, List.set_cons_succ, List.getElem_toArray, List.getElem_cons_zero, List.getElem_cons_succ])
        refine wpSch_end ?_
        simp only [List.drop_succ_cons, List.drop_zero]
        obtain ⟨R1', R2'⟩ := R
        dsimp only at RN1 AF
        have HFIN : Hid (∀ wz, FnBlk wz xb 162 b nm s0 f0 v0 → Into w Ft wz (fun w' Ft' => DkAt w' b R2' Ft') → FnBlk ((wz.setCell ⟨xb, 3, none⟩ (.int .i64 first)).setCell ⟨xb, 4, none⟩ (.slice pa segs.length pcap)) xb 162 b nm s0 first (.slice pa segs.length pcap) ∧ IntoF w Ft xb ((wz.setCell ⟨xb, 3, none⟩ (.int .i64 first)).setCell ⟨xb, 4, none⟩ (.slice pa segs.length pcap)) b ⟨R2'.D, R2'.F⟩) := fun wz hx hz => by
          obtain ⟨z1, Ft2, z2, z3, z4⟩ := hz
          have kz : Chg (One xb) wz ((wz.setCell ⟨xb, 3, none⟩ (.int .i64 first)).setCell ⟨xb, 4, none⟩ (.slice pa segs.length pcap)) := ((Chg.refl (One xb) wz).setAt (b := xb) rfl 3 _).setAt rfl 4 _
          have hn2 : ¬ Ft2 xb := fun h => by rcases z4 _ h with h | h; exact HN.out h; have := HXL.out; omega
          exact ⟨(hx.s3 first).s4 _, z1.trans' kz, Ft2, RepU.frame z2 (kz.same z3 fun k hk e => by have e' : k = xb := e; subst e'; exact hn2 hk), fun k hk => Nat.lt_of_lt_of_le (z3 k hk) kz.size, z4⟩
        have e0' := x0
        by_cases hr : R1' = 0
        case neg =>
          have hrb : (R1' != 0) = true := by simpa using hr
          go_wp2
          refine wp_region_sch (fun w' => w'.cell? ⟨xb, 0, none⟩ = some (.pointer (some ⟨b, 0, none⟩)) ∧ w'.cell? ⟨xb, 1, none⟩ = some (.string ⟨nm.toArray⟩) ∧ w'.cell? ⟨db, 1, none⟩ = some (.string ⟨dn.toArray⟩)) 13
            [(0, true), (1, true), (2, true), (3, true), (4, true), (5, true), (6, true), (7, true), (8, true), (9, true), (10, true), (11, true), (12, false)] (by kernel_rfl) (by kernel_rfl) (fun _ _ _ _ _ h => h) ⟨x0, x1, x2⟩ ?_
          iterate 12 (refine wpSch_take (v := ?_) rfl (by rfl) ?_ ?_; rotate_left; (· (intro w' hS; (try dsimp only at hS); go_simp; try with_reducible rfl)); (try simp only [Act.put, List.setIfInBounds_toArray, List.set_cons_zero, List.set_cons_succ, List.getElem_toArray, List.getElem_cons_zero, List.getElem_cons_succ]))
          refine wpSch_do rfl (by rfl) (fun K hK => ?_)
          go_simp
          refine RN1.out.mono ?_
          rintro e w11 ⟨rfl, hI⟩
          obtain ⟨⟨y1, y2⟩, y3⟩ := AF.out w11 hI
          refine hK _ _ ⟨y1.c0, y1.c1, y2.c1⟩ (fun hS => ?_)
          have Y1 := hide y1
          have Y3 := hide y3
          clear hK K hS hI RN1 AF y1 y2 y3
          (try simp only [Act.put, List.setIfInBounds_toArray, List.set_cons_zero, List.set_cons_succ, List.getElem_toArray, List.getElem_cons_zero, List.getElem_cons_succ])
          refine wpSch_end ?_
          simp only [List.drop_succ_cons, List.drop_zero]
          go_wp2
          go_ret
          dsimp only
          obtain ⟨r1, Ft', r2, r3, r4⟩ := Y3.out
          exact ⟨rfl, Y1.out, r1.mono fun _ _ h => .inl h, Ft', r2, r3, r4⟩
        case pos =>
          subst hr
          go_wp2
          refine wp_region_sch (fun w' => w'.cell? ⟨xb, 0, none⟩ = some (.pointer (some ⟨b, 0, none⟩)) ∧ w'.cell? ⟨xb, 1, none⟩ = some (.string ⟨nm.toArray⟩) ∧ w'.cell? ⟨db, 1, none⟩ = some (.string ⟨dn.toArray⟩)) 13
            [(0, true), (1, true), (2, true), (3, true), (4, true), (5, true), (6, true), (7, true), (8, true), (9, true), (10, true), (11, true), (12, false)] (by kernel_rfl) (by kernel_rfl) (fun _ _ _ _ _ h => h) ⟨x0, x1, x2⟩ ?_
          iterate 12 (refine wpSch_take (v := ?_) rfl (by rfl) ?_ ?_; rotate_left; (· (intro w' hS; (try dsimp only at hS); go_simp; try with_reducible rfl)); (try simp only [Act.put, List.setIfInBounds_toArray, List.set_cons_zero, List.set_cons_succ, List.getElem_toArray, List.getElem_cons_zero, List.getElem_cons_succ]))
          refine wpSch_do rfl (by rfl) (fun K hK => ?_)
          go_simp
          refine RN1.out.mono ?_
          rintro e w11 ⟨rfl, hI⟩
          obtain ⟨⟨y1, y2⟩, y3⟩ := AF.out w11 hI
          refine hK _ _ ⟨y1.c0, y1.c1, y2.c1⟩ (fun hS => ?_)
          have FIN := hide (HFIN.out w11 y1 y3)
          have g3 := y1.c3
          have z3 := y1.fz 3
          have g4 := (y1.s3 first).c4
          have z4 := (y1.s3 first).fz 4
          clear hK K hS hI RN1 AF y1 y2 y3 HFIN
          (try simp only [Act.put, List.setIfInBounds_toArray, List.set_cons_zero, List.set_cons_succ, List.getElem_toArray, List.getElem_cons_zero, List.getElem_cons_succ])
          refine wpSch_end ?_
          simp only [List.drop_succ_cons, List.drop_zero]
          go_wp2
          go_ret
          exact ⟨rfl, FIN.out.1, FIN.out.2⟩
end
end Go.Proofs.YtodcnkbblippnaaGreatDoor
/- Journals in memory; rows of numbers that are alike; what a log tells is no longer than its bytes. No walk of its own. -/
namespace Go.Proofs.YtodcnkbblippnaaGreatDoor
open Go.RowKit

/-- A journal's cells. -/
def JnBlk (w : World) (jb b : Nat) (lv : Value) (last puts : Int) (ov : Value) : Prop := w.heap[jb]? = some (.cells #[.pointer (some ⟨b, 0, none⟩), lv, .int .i64 last, .int .i64 puts, ov] 208 (0, 0))
section
variable {w w' : World} {jb b : Nat} {lv ov : Value} {last puts : Int}
theorem JnBlk.c0 (h : JnBlk w jb b lv last puts ov) : w.cell? ⟨jb, 0, none⟩ = some (.pointer (some ⟨b, 0, none⟩)) := by unfold JnBlk at h; simp [World.cell?, h]
theorem JnBlk.c1 (h : JnBlk w jb b lv last puts ov) : w.cell? ⟨jb, 1, none⟩ = some lv := by unfold JnBlk at h; simp [World.cell?, h]
theorem JnBlk.c2 (h : JnBlk w jb b lv last puts ov) : w.cell? ⟨jb, 2, none⟩ = some (.int .i64 last) := by unfold JnBlk at h; simp [World.cell?, h]
theorem JnBlk.c3 (h : JnBlk w jb b lv last puts ov) : w.cell? ⟨jb, 3, none⟩ = some (.int .i64 puts) := by unfold JnBlk at h; simp [World.cell?, h]
theorem JnBlk.c4 (h : JnBlk w jb b lv last puts ov) : w.cell? ⟨jb, 4, none⟩ = some ov := by unfold JnBlk at h; simp [World.cell?, h]
theorem JnBlk.fz (h : JnBlk w jb b lv last puts ov) (o : Nat) : w.frozen? ⟨jb, o, none⟩ = false := by unfold JnBlk at h; simp [World.frozen?, h]
theorem JnBlk.lt (h : JnBlk w jb b lv last puts ov) : jb < w.heap.size := lt_of_block h
theorem JnBlk.s1 (h : JnBlk w jb b lv last puts ov) (x : Value) : JnBlk (w.setCell ⟨jb, 1, none⟩ x) jb b x last puts ov := heap_setCell_at h
theorem JnBlk.s2 (h : JnBlk w jb b lv last puts ov) (x : Int) : JnBlk (w.setCell ⟨jb, 2, none⟩ (.int .i64 x)) jb b lv x puts ov := heap_setCell_at h
theorem JnBlk.s3 (h : JnBlk w jb b lv last puts ov) (x : Int) : JnBlk (w.setCell ⟨jb, 3, none⟩ (.int .i64 x)) jb b lv last x ov := heap_setCell_at h
theorem JnBlk.s4 (h : JnBlk w jb b lv last puts ov) (x : Value) : JnBlk (w.setCell ⟨jb, 4, none⟩ x) jb b lv last puts x := heap_setCell_at h
theorem JnBlk.drew (h : JnBlk w jb b lv last puts ov) : JnBlk w.drew jb b lv last puts ov := by unfold JnBlk at h ⊢; exact h
theorem JnBlk.keep {S : Nat → Prop} (h : JnBlk w jb b lv last puts ov) (hc : Chg S w w') (hn : ¬ S jb) : JnBlk w' jb b lv last puts ov := hc.keep h hn
end
/-- What a journal has in memory. -/
structure JnV (w : World) (jb b : Nat) (lv ov : Value) (J : Jn) : Prop where
  blk : JnBlk w jb b lv J.last J.puts ov
  logs : InSl w lv J.logs
  own : (J.own = none ∧ ov = .pointer none) ∨ ∃ n s lb, J.own = some (n, s) ∧ ov = .pointer (some ⟨lb, 0, none⟩) ∧ FlBlk w lb 237 (.pointer (some ⟨b, 0, none⟩)) ⟨(nmLog n).toArray⟩ s ∧ s < 4294967296
/-- Its blocks. -/
def JnFt (jb : Nat) (lv ov : Value) (k : Nat) : Prop := k = jb ∨ lv.ownBlock = some k ∨ ov = .pointer (some ⟨k, 0, none⟩)
section
variable {w w' : World} {jb b : Nat} {lv ov : Value} {J : Jn}
theorem JnV.frame (h : JnV w jb b lv ov J) (hs : Same (JnFt jb lv ov) w w') : JnV w' jb b lv ov J := by
  refine ⟨(hs jb (.inl rfl)).trans h.blk, ownsRow_same h.logs fun g hg => hs g (.inr (.inl hg)), ?_⟩
  rcases h.own with h1 | ⟨n, s, lb, h1, rfl, h3, h4⟩
  · exact .inl h1
  · exact .inr ⟨n, s, lb, h1, rfl, (hs lb (.inr (.inr rfl))).trans h3, h4⟩
theorem JnV.lt (h : JnV w jb b lv ov J) {k : Nat} (hk : JnFt jb lv ov k) : k < w.heap.size := by
  rcases hk with rfl | hk | rfl
  · exact h.blk.lt
  · exact ownsRow_lt h.logs hk
  · rcases h.own with ⟨_, h2⟩ | ⟨n, s, lb, _, h2, h3, _⟩
    · cases h2
    · cases h2; exact h3.lt
theorem JnV.chg {S : Nat → Prop} (h : JnV w jb b lv ov J) (hc : Chg S w w') (hn : ∀ k, JnFt jb lv ov k → ¬ S k) : JnV w' jb b lv ov J :=
  h.frame (hc.same (fun _ hk => h.lt hk) hn)
theorem JnV.chg0 (h : JnV w jb b lv ov J) (hc : Chg (fun _ => False) w w') : JnV w' jb b lv ov J := h.chg hc fun _ _ h => h
end
/-! ## Rows of numbers that are alike -/
theorem getD_vals (l : List Int) (j : Nat) (hj : j < l.length) : l.getD j 0 = l[j]'hj := by simp [List.getD, hj]
theorem equalInt_any (w : World) (v1 v2 : Value) (l1 l2 : List Int) (h1 : RdI w v1 l1) (h2 : RdI w v2 l2) :
    Calls Tryz.prog 241 #[v1, v2] w fun e w' => e = .returned (.bool (decide (l1 = l2))) ∧ ∃ q, w' = w.drewN q := by
  obtain ⟨a1, c1, rfl, p1, p2⟩ := h1.form
  obtain ⟨a2, c2, rfl, q1, q2⟩ := h2.form
  unfold maxLen at p2 q2
  by_cases hl : l1.length = l2.length
  case neg =>
    have hne : ¬ l1 = l2 := fun e => hl (by rw [e])
    refine (Tryz.slices_Equal_int_lens a1 a2 _ c1 _ c2 w hl).mono ?_
    rintro e w' ⟨rfl, rfl⟩
    exact ⟨by rw [decide_eq_false hne], 0, rfl⟩
  case pos =>
  by_cases h0 : l1.length = 0
  · have e1 : l1 = [] := List.length_eq_zero_iff.1 h0
    have e2 : l2 = [] := List.length_eq_zero_iff.1 (by omega)
    subst e1; subst e2
    refine (Tryz.slices_Equal_int_empty a1 a2 c1 0 c2 w (by omega)).mono ?_
    rintro e w' ⟨rfl, rfl⟩
    exact ⟨by simp, 0, rfl⟩
  · obtain ⟨g1, o1, rfl, -⟩ := RdI.at h1 0 (by omega)
    obtain ⟨g2, o2, rfl, -⟩ := RdI.at h2 0 (by omega)
    refine (Tryz.slices_Equal_int g1 o1 _ c1 g2 o2 _ c2 l1 l2 w (Nat.le_refl _) (Nat.le_refl _) (by omega) (by omega) (fun j hj => ?_) (fun j hj => ?_)).mono ?_
    · obtain ⟨g, o, e, hc⟩ := RdI.at h1 j hj
      cases e
      rw [getD_vals l1 j hj]; exact hc
    · obtain ⟨g, o, e, hc⟩ := RdI.at h2 j hj
      cases e
      rw [getD_vals l2 j hj]; exact hc
    rintro e w' ⟨rfl, q, rfl⟩
    refine ⟨?_, q, rfl⟩
    rw [List.take_length, List.take_length]
    by_cases he : l1 = l2
    · rw [decide_eq_true he, he]; simp
    · rw [decide_eq_false he, beq_eq_false_iff_ne.2 he]
/-! ## What a log tells -/
theorem readP_length : ∀ (k s : Nat) (l : Bs), (readP k s l).1.length * 21 ≤ l.length
  | 0, _, l => by simp [readP]
  | k + 1, s, l => by
    unfold readP
    split
    · simp
    · rename_i h
      split
      · have := readP_length k (sumOn s (l.take 17)) (l.drop 21)
        rw [List.length_drop] at this
        simp only [List.length_cons]; omega
      · simp
theorem readN_length (s : Nat) (ahead : Int) (l : Bs) : (readN s ahead l).1.length * 21 ≤ l.length := by
  unfold readN
  split
  · simp
  · split
    · split
      · have := readP_length l.length (sumOn s (l.take 8)) (l.drop 12)
        rw [List.length_drop] at this
        simp only; omega
      · simp
    · simp
theorem log_length {P : PD} {a c m : Nat} (hF : Fit P a c m) (n ahead : Int) : (P.log n ahead).1.length * 21 ≤ m := by
  have h1 := all_le hF (nmLog n)
  unfold PD.log readLogN
  split
  · simp
  · exact Nat.le_trans (readN_length _ _ _) h1
end Go.Proofs.YtodcnkbblippnaaGreatDoor
/- Walks: all Puts of a journal: Puts; Sync, Logs, Next, Leave. -/
namespace Go.Proofs.YtodcnkbblippnaaGreatDoor
open Go.RowKit
attribute [local go_sem ↓] NoP_normal

section
variable {w : World} {b B jb : Nat} {P : PD} {Ft : Nat → Prop} {a c m : Nat} {lv ov : Value} {J : Jn}
set_option maxRecDepth 100000 in
set_option maxHeartbeats 4000000 in
theorem puts_any (w : World) (h : DkAt w b P Ft) (hlt : ∀ k, Ft k → k < w.heap.size) (hJ : JnV w jb b lv ov J) (hF : Fit P a c m) (hl : Lim a c m) (hm : J.logs.length * m ≤ 70368744177664) (hn : ∀ n ∈ J.logs, NumOk n) (hL : Lets B w) :
    Calls Tryz.prog 106 #[.pointer (some ⟨jb, 0, none⟩)] w fun e w' => ∃ v, e = .returned (.tuple #[v, .int .i64 (P.puts J.logs).2]) ∧ PfSl w' v (P.puts J.logs).1 ∧ (∀ g, v.ownBlock = some g → w.heap.size ≤ g) ∧ Chg (fun _ => False) w w' := by
  obtain ⟨i0, hi, hz0, hz1, hz2⟩ := info_parts info_put_f
  have c0 := hJ.blk.c0
  have c1 := hJ.blk.c1
  have HLG := hide (InSl.rd hJ.logs)
  obtain ⟨la, lcap, rfl, lc1, lc2⟩ := HLG.out.form
  unfold maxLen at lc2
  have HR : Hid (P.puts J.logs = P.putsK J.logs []) := rfl
  obtain ⟨R, hR⟩ : ∃ R, P.puts J.logs = R := ⟨_, rfl⟩
  rw [hR] at HR ⊢
  have RL : Hid (∀ w1, Chg (fun _ => False) w w1 → ∀ n ∈ J.logs, ∀ ahead, Calls Tryz.prog 149 #[.pointer (some ⟨b, 0, none⟩), .int .i64 n, .int .i64 ahead] w1 fun e w' => ∃ v, e = .returned (.tuple #[v, .int .i64 (P.log n ahead).2]) ∧ PfSl w' v (P.log n ahead).1 ∧ (∀ g, v.ownBlock = some g → w1.heap.size ≤ g) ∧ Chg (fun _ => False) w1 w') := fun w1 hc n hn' ahead =>
    readLog_any w1 ahead (RepU.same h hlt hc) (fun k hk => Nat.lt_of_lt_of_le (hlt k hk) hc.size) (hn n hn') (hL.keep0 hc) (by have h1 : (allN P.D P.F ⟨(nmOf 1 n).toArray⟩).1.length ≤ m := all_le hF (nmLog n); have := hl.m; omega)
  have LL : Hid (∀ n ahead, (P.log n ahead).1.length * 21 ≤ m) := fun n ahead => log_length hF n ahead
  have HM := hide hm
  clear hR h hlt hF hl hn hL hJ hm
  generalize J.logs = logs at *
  have BL : ∀ k, k ≤ logs.length → k * m ≤ 70368744177664 := fun k hk => Nat.le_trans (Nat.mul_le_mul_right m hk) HM.out
  have HBL := hide BL
  clear BL HM
  go_enter Tryz.func106, Tryz.ntmps106
  go_wp2
  go_loopw [4, 14] (fun v iv wr => ∃ (k : Nat) (ps : List Pu), iv = .int .i64 k ∧ k ≤ logs.length ∧ Hid (PfSl wr v ps ∧ (∀ g, v.ownBlock = some g → w.heap.size ≤ g) ∧ Chg (fun _ => False) w wr ∧ ps.length * 21 ≤ k * m ∧ R = P.putsK (logs.drop k) ps)) (fun _ iv _ => logs.length - (intOf iv).toNat)
  case atStart => exact ⟨0, [], rfl, by omega, World.ownsRow_nil _ _ _ _, fun g hg => by simp [Value.ownBlock] at hg, Chg.refl _ _, by simp, HR.out⟩
  case round =>
    obtain ⟨k, ps, rfl, hk, hI⟩ := hrel
    obtain ⟨i1, i2, i3, i4, i5⟩ := hI.out
    obtain ⟨ap, cp, rfl, hcap1, hcap2, -⟩ := ownsRow_form i1
    unfold maxLen at hcap2
    by_cases hk1 : k < logs.length
    · obtain ⟨g, o, rfl, d1⟩ := RdI.at HLG.out k hk1
      have hmem := List.getElem_mem hk1
      have hdr := List.drop_eq_getElem_cons hk1
      obtain ⟨n, hne⟩ : ∃ n, (logs[k]'hk1) = n := ⟨_, rfl⟩
      rw [hne] at d1 hmem hdr
      have e1 := i3.cellKeep d1
      have e0 := i3.cellKeep c0
      have RL1 := hide (RL.out wr i3 n hmem ps.length)
      have LL1 := hide (LL.out n ps.length)
      rw [hdr] at i5
      have I5 : Hid (R = if (P.log n ps.length).2 ≠ 0 then ([], (P.log n ps.length).2) else P.putsK (logs.drop (k + 1)) (ps ++ (P.log n ps.length).1)) := i5
      obtain ⟨X, hX⟩ : ∃ X, P.log n ps.length = X := ⟨_, rfl⟩
      rw [hX] at RL1 LL1 I5
      obtain ⟨X1, X2⟩ := X
      dsimp only at RL1 LL1 I5
      have I1 := hide i1
      have I2 := hide i2
      have I3 := hide i3
      have I4 := hide i4
      have hki : (k : Int) < (logs.length : Int) := by omega
      have hk0 : (0 : Int) ≤ (k : Int) := Int.natCast_nonneg _
      clear hI i1 i2 i3 i4 i5 d1 hmem hdr hne hX
      by_cases hx : X2 = 0
      case neg =>
        have hxb : (X2 != 0) = true := by simpa using hx
        have hR1 : R = ([], X2) := by rw [I5.out, if_pos hx]
        subst hR1
        go_wp2_with (go_at_call 149; refine RL1.out.mono ?_; rintro e w6 ⟨v, rfl, -, -, hc6⟩; have HC6 := hide hc6; clear hc6)
        go_ret2
        exact ⟨_, rfl, World.ownsRow_nil _ _ _ _, fun g hg => by simp [Value.ownBlock] at hg, I3.out.trans HC6.out fun _ h _ => h⟩
      case pos =>
        subst hx
        have I6 : Hid (R = P.putsK (logs.drop (k + 1)) (ps ++ X1)) := by unfold Hid; rw [I5.out, if_neg (by simp)]
        have HB := hide (HBL.out (k + 1) hk1)
        go_wp2_with (fail)
        refine RL1.out.mono ?_
        rintro e w6 ⟨v, rfl, hv, hvo, hc6⟩
        obtain ⟨ap2, cp2, rfl, -, hcap3, -⟩ := ownsRow_form hv
        unfold maxLen at hcap3
        have HC6 := hide hc6
        have HVO := hide hvo
        have HOWN : Hid (w6.ownsRow 0 113 3 (.slice ap ps.length cp) ps.length (puVals ps)) := ownsRow_same I1.out fun g hg => hc6.block g (ownsRow_lt I1.out hg) (fun h => h)
        have HSRC := hide (Src.ofOwn Tryz.underlying97 hv (puVals_oneCell X1))
        clear hv hvo hc6 RL1
        go_wp2_with (at_builtin; refine wpList_app rfl (.tmp 32) (.tmp 33) 97 97 rfl 113 i0 _ 3 24 Tryz.underlying97 hi hz0 hz1 hz2 rfl (by decide) (.slice ap ps.length cp) ps.length (puVals ps) (by rfl) HOWN.out _ X1.length _ (by rfl) HSRC.out (by have := LL1.out; have := I4.out; have := HB.out; rw [Nat.succ_mul] at this; omega) ?_; intro a8 cap8 w8 hA; have HA := hide hA; clear hA)
        go_roundw
        case rel =>
          have hA := HA.out
          have hA2 := hA.chg (S := fun k => (Value.slice ap ps.length cp).ownBlock = some k) fun _ h => h
          refine ⟨k + 1, ps ++ X1, by go_num, by omega, ?_, ?_, ?_, ?_, I6.out⟩
          · have e : (ps ++ X1).length = ps.length + X1.length := by simp
            unfold PfSl
            rw [puVals_append, e]
            exact hA.own
          · intro g hg
            rcases hA.at_ with h | h
            · rw [h] at hg; exact I2.out g hg
            · rw [h] at hg; cases hg; have := I3.out.size; have := HC6.out.size; omega
          · exact (I3.out.trans HC6.out fun _ h _ => h).trans hA2 fun y hy hlt => by have := I2.out y hy; omega
          · have := LL1.out; have := I4.out; rw [Nat.succ_mul]; simp only [List.length_append]; omega
        case measure => simp [intOf]; omega
    · obtain rfl : k = logs.length := by omega
      have I1 := hide i1
      have I2 := hide i2
      have I3 := hide i3
      have hR1 : R = (ps, 0) := by rw [i5, List.drop_length]; rfl
      subst hR1
      have hki : ¬ ((logs.length : Int) < (logs.length : Int)) := by omega
      clear i1 i2 i3 i4 i5 hI
      go_wp2
      go_ret2
      exact ⟨_, rfl, I1.out, I2.out, I3.out⟩
end
end Go.Proofs.YtodcnkbblippnaaGreatDoor
