/-
  The statement PassingCardSaid is proved: the law Passing answers true, at every four numbers; there is no condition.
  Part 8 of 34.
-/
import Derived.Test.YtodcnkbblippnaaGreatDoorPart07
import Derived.Deep.RegionHeld3
import Derived.Deep.RegionLaw
import Derived.Deep.DrawnRows
import Derived.Test.YtodcnkbblippnaaGreatDoorPart04
import Derived.BigRegion
import Derived.BigQuiet
import Derived.Deep.QuietTactic
import Derived.StillTailTactics
import Derived.Test.YtodcnkbblippnaaGreatDoorPart02
import Derived.LaidEql
import Derived.StillTactics
/- Walk: Append. -/
namespace Go.Proofs.YtodcnkbblippnaaGreatDoor
open Go.RowKit
attribute [local go_sem ↓] Go.wp_at_zero Go.wp_at_succ

theorem RepV.drew {w : World} {b : Nat} {D : DS} {F : Nat → FC} {vd vs vc : Value} {vals : List Value} {VB : Nat → Value} (h : RepV w b D F vd vs vc vals VB) : RepV w.drew b D F vd vs vc vals VB :=
  ⟨h.blk, h.dir, h.safe, h.chg, h.che, h.fil, h.inj⟩
theorem Rep.drew {w : World} {b : Nat} {D : DS} {F : Nat → FC} {Ft : Nat → Prop} (h : Rep w b D F Ft) : Rep w.drew b D F Ft := by
  obtain ⟨vd, vs, vc, vals, VB, hr, hf⟩ := h
  exact ⟨vd, vs, vc, vals, VB, hr.drew, hf⟩
theorem byteCells_vals (s : ByteArray) : byteCells s = byteVals s.data.toList := rfl
theorem extract_take (s : ByteArray) (m : Nat) : (s.extract 0 m).data.toList = s.data.toList.take m := by
  simp [ByteArray.data_extract]
/-- How many bytes of n come onto the disk, and what is answered then. -/
def dLeft (D : DS) (F : Nat → FC) : Int := max (D.n.room - usedL F D.dir) 0
/-- So many bytes of data are added to file f (n0 are asked for). -/
def dAdd (D : DS) (F : Nat → FC) (f : Nat) (data : ByteArray) (n0 : Int) (e : Int) : Int × DS × (Nat → FC) :=
  if n0 > dLeft D F then
    (if e = 0 then 6 else e, if e = 0 then { D with n := { D.n with refused := wrap64 (D.n.refused + 1), fulls := wrap64 (D.n.fulls + 1) } } else D, upd F f ((F f).1 ++ data.data.toList.take (dLeft D F).toNat, (F f).2))
  else (e, D, upd F f ((F f).1 ++ data.data.toList.take n0.toNat, (F f).2))
def dAppend (D : DS) (F : Nat → FC) (name data : ByteArray) : Int × DS × (Nat → FC) := match lookup D.dir name with
  | none => (8, D, F)
  | some f =>
    let r := bg D.n
    let D1 := { D with n := r.2.2 }
    if r.1 then dAdd D1 F f data data.size r.2.1
    else if r.2.2.dead = false ∧ 0 < data.size then dAdd D1 F f data (r.2.2.part % data.size) r.2.1
    else (r.2.1, D1, F)

/-- Bytes are added to a file, and its slice is stored: put together. w2: ahead; W: .. with the counts stored, perhaps; w3: behind the append. -/
theorem append_fin {w w2 W w3 : World} {b : Nat} {D : DS} {F : Nat → FC} {vd vs vc v3 : Value} {vals : List Value} {VB : Nat → Value} {Ft : Nat → Prop} {f : Nat} {n2 : DN} {news : List UInt8}
    (hc : Chg Ft w w2) (h2 : RepV w2 b D F vd vs vc vals VB) (hft : ∀ k, Foot b D vd vs vc vals VB k → Ft k) (hf : D.ids f) (hW : DBlk W b vd vs vc n2) (hcW : Chg (One b) w2 W)
    (hA : App W w3 5 1 (VB f) v3 ((F f).1.length + news.length) (byteVals (F f).1 ++ byteVals news)) :
    FBlk w3 f (VB f) (F f).2 ∧ After w Ft (w3.setCell ⟨f, 0, none⟩ v3) b { D with n := n2 } (upd F f ((F f).1 ++ news, (F f).2)) := by
  have rW := h2.turn hW hcW
  obtain ⟨hf1, hf2⟩ := rW.fil f hf
  have hf3 : FBlk w3 f (VB f) (F f).2 := hf1.same (hA.grown.block f (lt_of_block hf1) (fun e => by
    obtain ⟨c, hh⟩ := ownsRow_elem hf2 e.symm
    exact elem_ne hh hf1 (by decide) rfl))
  refine ⟨hf3, ?_⟩
  have hbs : BSl w3 v3 ((F f).1 ++ news) := by
    have := hA.own
    unfold BSl
    rw [byteVals_append, List.length_append]; exact this
  have hbs2 : BSl (w3.setCell ⟨f, 0, none⟩ v3) v3 ((F f).1 ++ news) := by
    refine ownsRow_setCell_other hbs (a := ⟨f, 0, none⟩) ?_ _
    intro e; obtain ⟨c, hh⟩ := ownsRow_elem hbs e
    exact elem_ne hh hf3 (by decide) rfl
  have hc3 : Chg (fun k => k = f ∨ (VB f).ownBlock = some k) W (w3.setCell ⟨f, 0, none⟩ v3) := (hA.chg (S := fun k => k = f ∨ (VB f).ownBlock = some k) (fun k hk => .inr hk)).setAt (.inl rfl) 0 v3
  have hv : ∀ g, v3.ownBlock = some g → (VB f).ownBlock = some g ∨ W.heap.size ≤ g := by
    intro g hg
    rcases hA.at_ with h | h
    · exact .inl (h.symm.trans hg)
    · rw [hg] at h; cases h; exact .inr (Nat.le_refl _)
  have r3 := rW.fileUpd hf (hf3.s0 v3) hbs2 hc3 (fun k hk => hk) hv
  have s1 := hc.size
  have s2 := hcW.size
  refine After.mk' ?_ r3 ?_
  · refine (hc.trans hcW (S' := One b) fun x hx _ => by cases hx; exact hft b .blk).trans hc3 ?_
    rintro x (rfl | hx) _
    · exact hft _ (.fil hf)
    · exact hft _ (.byt hf hx)
  · intro x hx
    rcases Foot.fileUpd (N := w.heap.size) (vb' := v3) (f := f) hf (fun g hg => (hv g hg).imp id fun h => by omega) hx.n with h | h
    · exact .inl (hft x h)
    · exact .inr h

set_option maxRecDepth 100000 in
set_option maxHeartbeats 2000000 in
theorem append_any (w : World) (b : Nat) (D : DS) (F : Nat → FC) (Ft : Nat → Prop) (h : Rep w b D F Ft) (name data : ByteArray) (hroom : -4611686018427387904 ≤ D.n.room ∧ D.n.room ≤ 9223372036854775807)
    (hu : usedL F D.dir ≤ 4611686018427387904) (hp : 0 ≤ D.n.part ∧ D.n.part ≤ 9223372036854775807) (hl : ∀ f, lookup D.dir name = some f → (F f).1.length + data.size ≤ 70368744177664) :
    Calls Tryz.prog 84 #[.pointer (some ⟨b, 0, none⟩), .string name, .string data] w fun e w' => e = .returned (.int .i64 (dAppend D F name data).1) ∧ After w Ft w' b (dAppend D F name data).2.1 (dAppend D F name data).2.2 := by
  obtain ⟨vd, vs, vc, vals, VB, hr, hft⟩ := h
  have c0 := hr.blk.c0
  have hd := hide hr.dir
  have hbk := hide hr.blk
  have HR := hide hr
  rcases lookup_cases D.dir name with ⟨h1, h2⟩ | ⟨k, hk, h1, h2, h3⟩
  · have q : Hid (dAppend D F name data = (8, D, F)) := by unfold Hid dAppend; rw [h2]
    have hfi : fidx D.dir name < 0 := by omega
    clear hr h1 h2 hl
    go_enter Tryz.func84, Tryz.ntmps84
    go_wp2_with (go_at_call 77; refine (find_any _ _ _ _ hd.out).mono ?_; rintro e w' ⟨rfl, rfl⟩)
    go_ret
    rw [q.out]
    exact ⟨rfl, After.mk' (Chg.refl _ _) HR.out fun k hk => .inl (hft k hk)⟩
  · obtain ⟨g, cap, a', cap', rfl, hv, z1, z2, z3, z4⟩ := hr.at_ k hk
    obtain ⟨f, hf⟩ : ∃ f, (D.dir[k]'hk).2 = f := ⟨_, rfl⟩
    rw [hf] at hv h2 z3
    have hl1 := hl f h2
    have Hv := hide hv
    unfold maxLen at z2 z4
    have hids : Hid (D.ids f) := .inl ⟨_, List.getElem_mem hk, hf⟩
    have H1 := hide h1
    have H2 := hide h2
    have Hu := hide hu
    have HFT := hide hft
    obtain ⟨i0, hi, hz0, hz1, hz2⟩ := info_parts Tryz.infoByte
    have hk0 : (0 : Int) ≤ (k : Int) := Int.natCast_nonneg _
    have hk1 : (k : Int) < (D.dir.length : Int) := by omega
    -- behind begins
    have A1 : Hid (∀ w1, DBlk w1 b (.slice (some ⟨g, 0, none⟩) D.dir.length cap) vs vc (bg D.n).2.2 → Chg (One b) w w1 →
        RepV w1 b { D with n := (bg D.n).2.2 } F (.slice (some ⟨g, 0, none⟩) D.dir.length cap) vs vc vals VB ∧ Rep w1 b { D with n := (bg D.n).2.2 } F Ft) := by
      intro w1 hb1 hc1
      have r1 := hr.turn hb1 hc1
      exact ⟨r1, _, _, _, _, _, r1, fun k hk => hft k hk.n⟩
    -- behind Used: all is as it was
    have A2 : Hid (∀ w1 w2, DBlk w1 b (.slice (some ⟨g, 0, none⟩) D.dir.length cap) vs vc (bg D.n).2.2 → Chg (One b) w w1 → Chg (fun _ => False) w1.drew w2 →
        RepV w2 b { D with n := (bg D.n).2.2 } F (.slice (some ⟨g, 0, none⟩) D.dir.length cap) vs vc vals VB ∧ Chg Ft w w2 ∧ AtK w2 b g k f D.dir.length cap (F f).1.length cap' a' (D.dir[k]'hk).1 (F f).2 ∧ DBlk w2 b (.slice (some ⟨g, 0, none⟩) D.dir.length cap) vs vc (bg D.n).2.2) := by
      intro w1 w2 hb1 hc1 hc2
      have r1 := (hr.turn hb1 hc1).drew
      have r2 : RepV w2 b { D with n := (bg D.n).2.2 } F (.slice (some ⟨g, 0, none⟩) D.dir.length cap) vs vc vals VB := r1.frame fun x hx => hc2.block x (r1.lt hx) (fun h => h)
      refine ⟨r2, ?_, ?_, r2.blk⟩
      · exact ((hc1.mono (S' := Ft) fun k _ hk => by cases hk; exact hft b .blk).drew).trans hc2 (fun x hx => hx.elim)
      · subst hf; exact r2.atK k hk rfl Hv.out
    have hbgr : Hid (-4611686018427387904 ≤ (bg D.n).2.2.room ∧ (bg D.n).2.2.room ≤ 9223372036854775807 ∧ 0 ≤ (bg D.n).2.2.part ∧ (bg D.n).2.2.part ≤ 9223372036854775807) := by
      unfold Hid bg; dsimp only; split
      · exact ⟨hroom.1, hroom.2, hp.1, hp.2⟩
      · split
        · exact ⟨hroom.1, hroom.2, hp.1, hp.2⟩
        · split <;> exact ⟨hroom.1, hroom.2, hp.1, hp.2⟩
    have q : Hid (dAppend D F name data = (let r := bg D.n
      let D1 := { D with n := r.2.2 }
      if r.1 then dAdd D1 F f data data.size r.2.1
      else if r.2.2.dead = false ∧ 0 < data.size then dAdd D1 F f data (r.2.2.part % data.size) r.2.1
      else (r.2.1, D1, F))) := by unfold Hid dAppend; rw [h2]
    clear hr h1 h2 h3 hl hu hf hv hroom hp
    -- the numbers that bg gives, by names
    obtain ⟨n1, hn1⟩ : ∃ n1, (bg D.n).2.2 = n1 := ⟨_, rfl⟩
    obtain ⟨e1, he1⟩ : ∃ e1, (bg D.n).2.1 = e1 := ⟨_, rfl⟩
    obtain ⟨d1, hd1⟩ : ∃ d1, (bg D.n).1 = d1 := ⟨_, rfl⟩
    have hbg : Hid (bg D.n = (d1, e1, n1)) := by unfold Hid; rw [← hn1, ← he1, ← hd1]
    rw [hn1] at A1 A2 hbgr
    clear hn1 he1 hd1
    have B1 : Hid (∀ (W : World), DBlk W b (.slice (some ⟨g, 0, none⟩) D.dir.length cap) vs vc D.n → Calls Tryz.prog 121 #[.pointer (some ⟨b, 0, none⟩)] W fun e w' => e = .returned (.tuple #[.bool d1, .int .i64 e1]) ∧ DBlk w' b (.slice (some ⟨g, 0, none⟩) D.dir.length cap) vs vc n1 ∧ Chg (One b) W w') := by
      intro W hW
      have := begins_any W b _ _ _ _ hW
      rw [hbg.out] at this; exact this
    rw [hbg.out] at q
    obtain ⟨r1, r2, r3, r4⟩ := hbgr.out
    have hun : (0 : Int) ≤ usedL F D.dir := Int.natCast_nonneg _
    have hul : (usedL F D.dir : Int) ≤ 4611686018427387904 := by have := Hu.out; omega
    have hw : IntKind.i64.wrap (n1.room - (usedL F D.dir : Int)) = n1.room - (usedL F D.dir : Int) := by simp only [IntKind.wrap_i64]; omega
    obtain ⟨L, hL⟩ : ∃ L, (if n1.room - (usedL F D.dir : Int) < 0 then 0 else n1.room - (usedL F D.dir : Int)) = L := ⟨_, rfl⟩
    have hL0 : 0 ≤ L := by rw [← hL]; split <;> omega
    have hLm : L ≤ 9223372036854775807 := by rw [← hL]; split <;> omega
    have hLd : Hid (dLeft { D with n := n1 } F = L) := by unfold Hid dLeft; show max (n1.room - (usedL F D.dir : Int)) 0 = L; rw [← hL]; split <;> omega
    have A3 : Hid (∀ (w2 W : World) (n2 : DN), RepV w2 b { D with n := n1 } F (.slice (some ⟨g, 0, none⟩) D.dir.length cap) vs vc vals VB → DBlk W b (.slice (some ⟨g, 0, none⟩) D.dir.length cap) vs vc n2 → Chg (One b) w2 W → W.ownsRow 0 5 1 (.slice a' (F f).1.length cap') (F f).1.length (byteVals (F f).1)) := by
      intro w2 W n2 h2 hW hc
      have := ((h2.turn hW hc).fil f hids.out).2
      rw [Hv.out] at this; exact this
    have A4 : Hid (∀ (w2 W w3 : World) (n2 : DN) (s : ByteArray) (b3 : Option Addr) (cap3 : Nat), RepV w2 b { D with n := n1 } F (.slice (some ⟨g, 0, none⟩) D.dir.length cap) vs vc vals VB → Chg Ft w w2 → DBlk W b (.slice (some ⟨g, 0, none⟩) D.dir.length cap) vs vc n2 → Chg (One b) w2 W →
        App W w3 5 1 (.slice a' (F f).1.length cap') (.slice b3 ((F f).1.length + s.size) cap3) ((F f).1.length + s.size) (byteVals (F f).1 ++ byteCells s) →
        FBlk w3 f (.slice a' (F f).1.length cap') (F f).2 ∧ After w Ft (w3.setCell ⟨f, 0, none⟩ (.slice b3 ((F f).1.length + s.size) cap3)) b { D with n := n2 } (upd F f ((F f).1 ++ s.data.toList, (F f).2))) := by
      intro w2 W w3 n2 s b3 cap3 h2 hc hW hcW hA
      have := append_fin (n2 := n2) (f := f) (v3 := .slice b3 ((F f).1.length + s.size) cap3) (news := s.data.toList) hc h2 (fun k hk => HFT.out k hk.n) hids.out hW hcW (by rw [Hv.out]; simpa [byteCells_vals] using hA)
      rw [Hv.out] at this; exact this
    obtain ⟨l, rfl⟩ := Int.eq_ofNat_of_zero_le hL0
    have BE : (if e1 = 0 then True else True) := by split <;> trivial
    clear BE
    cases d1 with
    | true =>
      by_cases hgt : (l : Int) < (data.size : Int)
      · by_cases he : e1 = 0
        · have he' : (e1 == 0) = true := by simpa using he
          have he0 := hide he
          clear he
          have hln : l ≤ data.size := by omega
          have hes : (data.extract 0 l).size = l := by simp; omega
          go_enter Tryz.func84, Tryz.ntmps84
          go_wp2_with (first
            | (go_at_call 77; refine (find_any _ _ _ _ hd.out).mono ?_; rintro e w' ⟨rfl, rfl⟩; rw [H1.out])
            | (go_at_call 121; refine (B1.out _ hbk.out).mono ?_; rintro e w1 ⟨rfl, hb1, hc1⟩))
          obtain ⟨R1, P1⟩ := A1.out w1 hb1 hc1
          have hP1 := hide P1
          have c31 := hb1.c3
          clear R1 P1
          go_region_held3 (fun w' => w'.cell? ⟨b, 3, none⟩ = some (.int .i64 n1.room)) (first | exact (DBlk.chg (w := w1.drew) hb1 hc2 (fun h => h)).c3 | go_simp) ((go_at_call 90; refine (used_any _ b _ F Ft hP1.out.drew Hu.out).mono ?_; rintro e w2 ⟨rfl, hc2⟩))
          obtain ⟨R2, C2, K2, B2⟩ := A2.out w1 w2 hb1 hc1 hc2
          have hR2 := hide R2
          have hC2 := hide C2
          have hB2 := hide B2
          have x1 := K2.d
          have x2 := K2.p
          have x3 := K2.f0
          have x4 := K2.fz
          have x5 := K2.gf
          have x6 := K2.fg
          have x7 := K2.bg
          have x8 := K2.gb
          have x9 := K2.bf
          have x10 := K2.fb
          have y8 := B2.c8
          have y9 := B2.c9
          have yz := B2.fz
          clear R2 C2 B2 K2 c31 hc2
          go_wp2
          have hown := hide (A3.out w2 ((w2.setCell ⟨b, 8, none⟩ (.int .i64 (wrap64 (n1.refused + 1)))).setCell ⟨b, 9, none⟩ (.int .i64 (wrap64 (n1.fulls + 1)))).drew { n1 with refused := wrap64 (n1.refused + 1), fulls := wrap64 (n1.fulls + 1) } hR2.out ((hB2.out.s8 _).s9 _) ((((Chg.refl (One b) w2).setAt rfl 8 _).setAt rfl 9 _).drew))
          have hbb : ((F f).1.length + (data.extract 0 l).size) * 1 ≤ 140737488355328 := by rw [hes]; omega
          go_region_law
            ((refine step_app ?_ (.tmp 90) (.tmp 93) 127 9 ?_ 5 i0 _ 1 1 Tryz.underlying127 hi hz0 hz1 hz2 rfl Nat.zero_lt_one (.slice a' (F f).1.length cap') (F f).1.length (byteVals (F f).1) ?_ hown.out (.string (data.extract 0 l)) (data.extract 0 l).size (byteCells (data.extract 0 l)) ?_ (Src.ofString _ Tryz.underlying9 (data.extract 0 l)) hbb ?_; (· rfl); (· rfl); (· rfl); (· rfl); intro b3 cap3 w3 hA; have hfin := hide (A4.out w2 ((w2.setCell ⟨b, 8, none⟩ (.int .i64 (wrap64 (n1.refused + 1)))).setCell ⟨b, 9, none⟩ (.int .i64 (wrap64 (n1.fulls + 1)))).drew w3 { n1 with refused := wrap64 (n1.refused + 1), fulls := wrap64 (n1.fulls + 1) } (data.extract 0 l) b3 cap3 hR2.out hC2.out ((hB2.out.s8 _).s9 _) ((((Chg.refl (One b) w2).setAt rfl 8 _).setAt rfl 9 _).drew) hA); have hz3 := hfin.out.1.fz; have hc3 := hfin.out.1.c0))
          go_wp2
          go_ret
          have q1 : dAppend D F name data = dAdd { D with n := n1 } F f data (data.size : Int) e1 := q.out
          have q2 : dAdd { D with n := n1 } F f data (data.size : Int) e1 = (6, { D with n := { n1 with refused := wrap64 (n1.refused + 1), fulls := wrap64 (n1.fulls + 1) } }, upd F f ((F f).1 ++ data.data.toList.take l, (F f).2)) := by
            unfold dAdd; rw [hLd.out, if_pos hgt, if_pos he0.out, if_pos he0.out, Int.toNat_natCast]
          have hfin2 := hfin.out.2
          rw [extract_take, hes] at hfin2
          rw [q1, q2]
          exact ⟨rfl, hfin2⟩
        · have he' : (e1 == 0) = false := by simpa using he
          have he0 := hide he
          clear he
          have hln : l ≤ data.size := by omega
          have hes : (data.extract 0 l).size = l := by simp; omega
          go_enter Tryz.func84, Tryz.ntmps84
          go_wp2_with (first
            | (go_at_call 77; refine (find_any _ _ _ _ hd.out).mono ?_; rintro e w' ⟨rfl, rfl⟩; rw [H1.out])
            | (go_at_call 121; refine (B1.out _ hbk.out).mono ?_; rintro e w1 ⟨rfl, hb1, hc1⟩))
          obtain ⟨R1, P1⟩ := A1.out w1 hb1 hc1
          have hP1 := hide P1
          have c31 := hb1.c3
          clear R1 P1
          go_region_held3 (fun w' => w'.cell? ⟨b, 3, none⟩ = some (.int .i64 n1.room)) (first | exact (DBlk.chg (w := w1.drew) hb1 hc2 (fun h => h)).c3 | go_simp) ((go_at_call 90; refine (used_any _ b _ F Ft hP1.out.drew Hu.out).mono ?_; rintro e w2 ⟨rfl, hc2⟩))
          obtain ⟨R2, C2, K2, B2⟩ := A2.out w1 w2 hb1 hc1 hc2
          have hR2 := hide R2
          have hC2 := hide C2
          have hB2 := hide B2
          have x1 := K2.d
          have x2 := K2.p
          have x3 := K2.f0
          have x4 := K2.fz
          have x5 := K2.gf
          have x6 := K2.fg
          have x7 := K2.bg
          have x8 := K2.gb
          have x9 := K2.bf
          have x10 := K2.fb
          clear R2 C2 B2 K2 c31 hc2
          go_wp2
          have hown := hide (A3.out w2 w2.drew n1 hR2.out hB2.out ((Chg.refl (One b) w2).drew))
          have hbb : ((F f).1.length + (data.extract 0 l).size) * 1 ≤ 140737488355328 := by rw [hes]; omega
          go_region_law
            ((refine step_app ?_ (.tmp 90) (.tmp 93) 127 9 ?_ 5 i0 _ 1 1 Tryz.underlying127 hi hz0 hz1 hz2 rfl Nat.zero_lt_one (.slice a' (F f).1.length cap') (F f).1.length (byteVals (F f).1) ?_ hown.out (.string (data.extract 0 l)) (data.extract 0 l).size (byteCells (data.extract 0 l)) ?_ (Src.ofString _ Tryz.underlying9 (data.extract 0 l)) hbb ?_; (· rfl); (· rfl); (· rfl); (· rfl); intro b3 cap3 w3 hA; have hfin := hide (A4.out w2 w2.drew w3 n1 (data.extract 0 l) b3 cap3 hR2.out hC2.out hB2.out ((Chg.refl (One b) w2).drew) hA); have hz3 := hfin.out.1.fz; have hc3 := hfin.out.1.c0))
          go_wp2
          go_ret
          have q1 : dAppend D F name data = dAdd { D with n := n1 } F f data (data.size : Int) e1 := q.out
          have q2 : dAdd { D with n := n1 } F f data (data.size : Int) e1 = (e1, { D with n := n1 }, upd F f ((F f).1 ++ data.data.toList.take l, (F f).2)) := by
            unfold dAdd; rw [hLd.out, if_pos hgt, if_neg he0.out, if_neg he0.out, Int.toNat_natCast]
          have hfin2 := hfin.out.2
          rw [extract_take, hes] at hfin2
          rw [q1, q2]
          exact ⟨rfl, hfin2⟩
      · have hgt' : (data.size : Int) ≤ l := by omega
        clear hgt
        go_enter Tryz.func84, Tryz.ntmps84
        go_wp2_with (first
          | (go_at_call 77; refine (find_any _ _ _ _ hd.out).mono ?_; rintro e w' ⟨rfl, rfl⟩; rw [H1.out])
          | (go_at_call 121; refine (B1.out _ hbk.out).mono ?_; rintro e w1 ⟨rfl, hb1, hc1⟩))
        obtain ⟨R1, P1⟩ := A1.out w1 hb1 hc1
        have hP1 := hide P1
        have c31 := hb1.c3
        clear R1 P1
        go_region_held3 (fun w' => w'.cell? ⟨b, 3, none⟩ = some (.int .i64 n1.room)) (first | exact (DBlk.chg (w := w1.drew) hb1 hc2 (fun h => h)).c3 | go_simp) ((go_at_call 90; refine (used_any _ b _ F Ft hP1.out.drew Hu.out).mono ?_; rintro e w2 ⟨rfl, hc2⟩))
        obtain ⟨R2, C2, K2, B2⟩ := A2.out w1 w2 hb1 hc1 hc2
        have hR2 := hide R2
        have hC2 := hide C2
        have hB2 := hide B2
        have x1 := K2.d
        have x2 := K2.p
        have x3 := K2.f0
        have x4 := K2.fz
        have x5 := K2.gf
        have x6 := K2.fg
        have x7 := K2.bg
        have x8 := K2.gb
        have x9 := K2.bf
        have x10 := K2.fb
        clear R2 C2 B2 K2 c31 hc2
        go_wp2
        have hown := hide (A3.out w2 w2.drew n1 hR2.out hB2.out ((Chg.refl (One b) w2).drew))
        have hbb : ((F f).1.length + data.size) * 1 ≤ 140737488355328 := by omega
        go_region_law
          ((refine step_app ?_ (.tmp 90) (.tmp 93) 127 9 ?_ 5 i0 _ 1 1 Tryz.underlying127 hi hz0 hz1 hz2 rfl Nat.zero_lt_one (.slice a' (F f).1.length cap') (F f).1.length (byteVals (F f).1) ?_ hown.out (.string data) data.size (byteCells data) ?_ (Src.ofString _ Tryz.underlying9 data) hbb ?_; (· rfl); (· rfl); (· rfl); (· rfl); intro b3 cap3 w3 hA; have hfin := hide (A4.out w2 w2.drew w3 n1 data b3 cap3 hR2.out hC2.out hB2.out ((Chg.refl (One b) w2).drew) hA); have hz3 := hfin.out.1.fz; have hc3 := hfin.out.1.c0))
        go_wp2
        go_ret
        have q1 : dAppend D F name data = dAdd { D with n := n1 } F f data (data.size : Int) e1 := q.out
        have q2 : dAdd { D with n := n1 } F f data (data.size : Int) e1 = (e1, { D with n := n1 }, upd F f ((F f).1 ++ data.data.toList, (F f).2)) := by
          unfold dAdd; rw [hLd.out, if_neg (by omega), Int.toNat_natCast, List.take_of_length_le (by show data.data.toList.length ≤ data.data.size; rw [Array.length_toList]; exact Nat.le_refl _)]
        have hfin2 := hfin.out.2
        rw [q1, q2]
        exact ⟨rfl, hfin2⟩
    | false =>
      have e15 : Hid (e1 = 5 ∧ n1.dead = n1.dead) := by
        have := hbg.out
        unfold Hid; unfold bg at this; dsimp only at this
        split at this
        · cases this; exact ⟨rfl, rfl⟩
        · split at this
          · cases this
          · split at this
            · cases this; exact ⟨rfl, rfl⟩
            · cases this
      by_cases hC : n1.dead = false ∧ 0 < data.size
      · obtain ⟨hdd, hsz⟩ := hC
        have hsz' : (0 : Int) < (data.size : Int) := by omega
        obtain ⟨m, hm⟩ := Int.eq_ofNat_of_zero_le (Int.emod_nonneg n1.part (b := (data.size : Int)) (by omega))
        have hml : (m : Int) < (data.size : Int) := by rw [← hm]; exact Int.emod_lt_of_pos _ hsz'
        have qC : Hid (dAppend D F name data = dAdd { D with n := n1 } F f data (m : Int) e1) := by
          have := q.out
          rw [← hm]; unfold Hid; rw [this]; simp only [Bool.false_eq_true, if_false, hdd, hsz, and_self, if_true]
        clear q
        have he0 : Hid (¬ e1 = 0) := by have := e15.out.1; unfold Hid; omega
        have he' : (e1 == 0) = false := by have := e15.out.1; simp [this]
        clear e15
        by_cases hgt : (l : Int) < (m : Int)
        · have hln : l ≤ data.size := by omega
          have hes : (data.extract 0 l).size = l := by simp; omega
          go_enter Tryz.func84, Tryz.ntmps84
          go_wp2_with (first
            | (go_at_call 77; refine (find_any _ _ _ _ hd.out).mono ?_; rintro e w' ⟨rfl, rfl⟩; rw [H1.out])
            | (go_at_call 121; refine (B1.out _ hbk.out).mono ?_; rintro e w1 ⟨rfl, hb1, hc1⟩; have c71 := hb1.c7; have ca1 := hb1.c10))
          obtain ⟨R1, P1⟩ := A1.out w1 hb1 hc1
          have hP1 := hide P1
          have c31 := hb1.c3
          clear R1 P1
          go_region_held3 (fun w' => w'.cell? ⟨b, 3, none⟩ = some (.int .i64 n1.room)) (first | exact (DBlk.chg (w := w1.drew) hb1 hc2 (fun h => h)).c3 | go_simp) ((go_at_call 90; refine (used_any _ b _ F Ft hP1.out.drew Hu.out).mono ?_; rintro e w2 ⟨rfl, hc2⟩))
          obtain ⟨R2, C2, K2, B2⟩ := A2.out w1 w2 hb1 hc1 hc2
          have hR2 := hide R2
          have hC2 := hide C2
          have hB2 := hide B2
          have x1 := K2.d
          have x2 := K2.p
          have x3 := K2.f0
          have x4 := K2.fz
          have x5 := K2.gf
          have x6 := K2.fg
          have x7 := K2.bg
          have x8 := K2.gb
          have x9 := K2.bf
          have x10 := K2.fb
          clear R2 C2 B2 K2 c31 hc2
          go_wp2
          have hown := hide (A3.out w2 w2.drew n1 hR2.out hB2.out ((Chg.refl (One b) w2).drew))
          have hbb : ((F f).1.length + (data.extract 0 l).size) * 1 ≤ 140737488355328 := by rw [hes]; omega
          go_region_law
            ((refine step_app ?_ (.tmp 90) (.tmp 93) 127 9 ?_ 5 i0 _ 1 1 Tryz.underlying127 hi hz0 hz1 hz2 rfl Nat.zero_lt_one (.slice a' (F f).1.length cap') (F f).1.length (byteVals (F f).1) ?_ hown.out (.string (data.extract 0 l)) (data.extract 0 l).size (byteCells (data.extract 0 l)) ?_ (Src.ofString _ Tryz.underlying9 (data.extract 0 l)) hbb ?_; (· rfl); (· rfl); (· rfl); (· rfl); intro b3 cap3 w3 hA; have hfin := hide (A4.out w2 w2.drew w3 n1 (data.extract 0 l) b3 cap3 hR2.out hC2.out hB2.out ((Chg.refl (One b) w2).drew) hA); have hz3 := hfin.out.1.fz; have hc3 := hfin.out.1.c0))
          go_wp2
          go_ret
          have q1 : dAppend D F name data = dAdd { D with n := n1 } F f data (m : Int) e1 := qC.out
          have q2 : dAdd { D with n := n1 } F f data (m : Int) e1 = (e1, { D with n := n1 }, upd F f ((F f).1 ++ data.data.toList.take l, (F f).2)) := by
            unfold dAdd; rw [hLd.out, if_pos hgt, if_neg he0.out, if_neg he0.out, Int.toNat_natCast]
          have hfin2 := hfin.out.2
          rw [extract_take, hes] at hfin2
          rw [q1, q2]
          exact ⟨rfl, hfin2⟩
        · have hgt' : (m : Int) ≤ l := by omega
          clear hgt
          have hln : m ≤ data.size := by omega
          have hes : (data.extract 0 m).size = m := by simp; omega
          go_enter Tryz.func84, Tryz.ntmps84
          go_wp2_with (first
            | (go_at_call 77; refine (find_any _ _ _ _ hd.out).mono ?_; rintro e w' ⟨rfl, rfl⟩; rw [H1.out])
            | (go_at_call 121; refine (B1.out _ hbk.out).mono ?_; rintro e w1 ⟨rfl, hb1, hc1⟩; have c71 := hb1.c7; have ca1 := hb1.c10))
          obtain ⟨R1, P1⟩ := A1.out w1 hb1 hc1
          have hP1 := hide P1
          have c31 := hb1.c3
          clear R1 P1
          go_region_held3 (fun w' => w'.cell? ⟨b, 3, none⟩ = some (.int .i64 n1.room)) (first | exact (DBlk.chg (w := w1.drew) hb1 hc2 (fun h => h)).c3 | go_simp) ((go_at_call 90; refine (used_any _ b _ F Ft hP1.out.drew Hu.out).mono ?_; rintro e w2 ⟨rfl, hc2⟩))
          obtain ⟨R2, C2, K2, B2⟩ := A2.out w1 w2 hb1 hc1 hc2
          have hR2 := hide R2
          have hC2 := hide C2
          have hB2 := hide B2
          have x1 := K2.d
          have x2 := K2.p
          have x3 := K2.f0
          have x4 := K2.fz
          have x5 := K2.gf
          have x6 := K2.fg
          have x7 := K2.bg
          have x8 := K2.gb
          have x9 := K2.bf
          have x10 := K2.fb
          clear R2 C2 B2 K2 c31 hc2
          go_wp2
          have hown := hide (A3.out w2 w2.drew n1 hR2.out hB2.out ((Chg.refl (One b) w2).drew))
          have hbb : ((F f).1.length + (data.extract 0 m).size) * 1 ≤ 140737488355328 := by rw [hes]; omega
          go_region_law
            ((refine step_app ?_ (.tmp 90) (.tmp 93) 127 9 ?_ 5 i0 _ 1 1 Tryz.underlying127 hi hz0 hz1 hz2 rfl Nat.zero_lt_one (.slice a' (F f).1.length cap') (F f).1.length (byteVals (F f).1) ?_ hown.out (.string (data.extract 0 m)) (data.extract 0 m).size (byteCells (data.extract 0 m)) ?_ (Src.ofString _ Tryz.underlying9 (data.extract 0 m)) hbb ?_; (· rfl); (· rfl); (· rfl); (· rfl); intro b3 cap3 w3 hA; have hfin := hide (A4.out w2 w2.drew w3 n1 (data.extract 0 m) b3 cap3 hR2.out hC2.out hB2.out ((Chg.refl (One b) w2).drew) hA); have hz3 := hfin.out.1.fz; have hc3 := hfin.out.1.c0))
          go_wp2
          go_ret
          have q1 : dAppend D F name data = dAdd { D with n := n1 } F f data (m : Int) e1 := qC.out
          have q2 : dAdd { D with n := n1 } F f data (m : Int) e1 = (e1, { D with n := n1 }, upd F f ((F f).1 ++ data.data.toList.take m, (F f).2)) := by
            unfold dAdd; rw [hLd.out, if_neg (by omega), Int.toNat_natCast]
          have hfin2 := hfin.out.2
          rw [extract_take, hes] at hfin2
          rw [q1, q2]
          exact ⟨rfl, hfin2⟩
      · have qC : Hid (dAppend D F name data = (e1, { D with n := n1 }, F)) := by
          have := q.out
          unfold Hid; rw [this]; simp only [Bool.false_eq_true, if_false, hC]
        clear q
        by_cases hdd : n1.dead = true
        · go_enter Tryz.func84, Tryz.ntmps84
          go_wp2_with (first
            | (go_at_call 77; refine (find_any _ _ _ _ hd.out).mono ?_; rintro e w' ⟨rfl, rfl⟩; rw [H1.out])
            | (go_at_call 121; refine (B1.out _ hbk.out).mono ?_; rintro e w1 ⟨rfl, hb1, hc1⟩; have ca1 := hb1.c10))
          go_ret
          rw [qC.out]
          exact ⟨rfl, HR.out.afterN HFT.out hb1 hc1⟩
        · have hdf : n1.dead = false := by simpa using hdd
          have hsz : (data.size : Int) ≤ 0 := by
            have : ¬ 0 < data.size := fun h => hC ⟨hdf, h⟩
            omega
          clear hC hdd
          go_enter Tryz.func84, Tryz.ntmps84
          go_wp2_with (first
            | (go_at_call 77; refine (find_any _ _ _ _ hd.out).mono ?_; rintro e w' ⟨rfl, rfl⟩; rw [H1.out])
            | (go_at_call 121; refine (B1.out _ hbk.out).mono ?_; rintro e w1 ⟨rfl, hb1, hc1⟩; have ca1 := hb1.c10))
          go_ret
          rw [qC.out]
          exact ⟨rfl, HR.out.afterN HFT.out hb1 hc1⟩
end Go.Proofs.YtodcnkbblippnaaGreatDoor
/- Walk: List. -/
namespace Go.Proofs.YtodcnkbblippnaaGreatDoor
open Go.RowKit
attribute [local go_sem ↓] Go.wp_at_zero Go.wp_at_succ

def less (a b : ByteArray) : Bool := Op.bytesLess a.toList b.toList
def strVals (l : List ByteArray) : List Value := l.map Value.string
/-- Where x comes to stand among the first k of l, from the end on. -/
def insPos (l : List ByteArray) (x : ByteArray) : Nat → Nat
  | 0 => 0
  | k + 1 => match l[k]? with
    | some y => if less x y then insPos l x k else k + 1
    | none => k + 1
def ins (l : List ByteArray) (x : ByteArray) : List ByteArray := l.take (insPos l x l.length) ++ x :: l.drop (insPos l x l.length)
def dListK (es : List Ent) : Nat → List ByteArray
  | 0 => []
  | k + 1 => match es[k]? with
    | some e => ins (dListK es k) e.1
    | none => dListK es k
def dList (es : List Ent) : List ByteArray := dListK es es.length
theorem insPos_le (l : List ByteArray) (x : ByteArray) (k : Nat) : insPos l x k ≤ k := by
  induction k with
  | zero => simp [insPos]
  | succ k ih =>
    simp only [insPos]
    split
    · split <;> omega
    · omega
theorem ins_length (l : List ByteArray) (x : ByteArray) : (ins l x).length = l.length + 1 := by
  have := insPos_le l x l.length
  simp [ins]; omega
theorem dListK_length (es : List Ent) (k : Nat) (hk : k ≤ es.length) : (dListK es k).length = k := by
  induction k with
  | zero => rfl
  | succ k ih =>
    simp only [dListK, List.getElem?_eq_getElem (show k < es.length by omega)]
    rw [ins_length, ih (by omega)]
theorem dListK_succ (es : List Ent) (k : Nat) (hk : k < es.length) : dListK es (k + 1) = ins (dListK es k) (es[k]'hk).1 := by
  simp only [dListK, List.getElem?_eq_getElem hk]
theorem insPos_step (l : List ByteArray) (x : ByteArray) (k : Nat) (hk : k < l.length) (h : less x (l[k]'hk) = true) : insPos l x (k + 1) = insPos l x k := by
  simp only [insPos, List.getElem?_eq_getElem hk]; rw [if_pos h]
theorem insPos_stop (l : List ByteArray) (x : ByteArray) (k : Nat) (hk : k < l.length) (h : less x (l[k]'hk) = false) : insPos l x (k + 1) = k + 1 := by
  simp only [insPos, List.getElem?_eq_getElem hk]; rw [if_neg (by simp [h])]
/-- One exchange. -/
theorem swap_list (l : List ByteArray) (x : ByteArray) (m : Nat) (hm : m < l.length) :
    ((strVals (l.take (m + 1) ++ x :: l.drop (m + 1))).set (m + 1) (.string (l[m]'hm))).set m (.string x) = strVals (l.take m ++ x :: l.drop m) := by
  have e1 : l.take (m + 1) = l.take m ++ [l[m]'hm] := List.take_succ_eq_append_getElem hm
  have e2 : l.drop m = l[m]'hm :: l.drop (m + 1) := List.drop_eq_getElem_cons hm
  have hl : (l.take m).length = m := by simp; omega
  rw [e1, e2]
  unfold strVals
  simp only [List.map_append, List.map_cons, List.append_assoc, List.cons_append, List.nil_append]
  have hl' : (List.map Value.string (l.take m)).length = m := by simpa using hl
  rw [List.set_append_right _ _ (by omega), hl', show m + 1 - m = 1 from by omega]
  simp only [List.set_cons_succ, List.set_cons_zero]
  rw [List.set_append_right _ _ (by omega), hl', Nat.sub_self]
  rfl

set_option maxRecDepth 100000 in
set_option maxHeartbeats 800000 in
theorem list_any (w : World) (b : Nat) (D : DS) (F : Nat → FC) (Ft : Nat → Prop) (h : Rep w b D F Ft) (hs : D.dir.length < 1099511627776) :
    Calls Tryz.prog 76 #[.pointer (some ⟨b, 0, none⟩)] w fun e w' => ∃ v, e = .returned v ∧ w'.ownsRow 0 9 1 v D.dir.length (strVals (dList D.dir)) ∧ Chg (fun _ => False) w w' ∧ (∀ g, v.ownBlock = some g → w.heap.size ≤ g) := by
  obtain ⟨vd, vs, vc, vals, VB, hr, hft⟩ := h
  have HR := hide hr
  have c0 := hr.blk.c0
  obtain ⟨i0, hi, hz0, hz1, hz2⟩ := info_parts Tryz.infoString
  obtain ⟨a, cap, rfl, z1, z2, hcell⟩ := HR.out.dir.form
  unfold maxLen at z2
  have hb2 : i0.bytes * D.dir.length ≤ 281474976710656 := by rw [hz2]; omega
  have hb3 : D.dir.length ≤ maxLen := by unfold maxLen; omega
  have HB2 := hide hb2
  have HB3 := hide hb3
  clear hr hb2 hb3
  go_enter Tryz.func76, Tryz.ntmps76
  go_wp2_with (at_make; refine wpList_make_own _ rfl _ _ 121 rfl 0 9 i0 _ 1 Tryz.underlying121 hi hz0 hz1 _ _ _ D.dir.length rfl rfl rfl HB2.out HB3.out (Nat.zero_le _) ?_; intro w1 hown1 hg1; have c01 := hg1.cell c0 (by simp); have Hown := hide hown1; clear hown1)
  go_loopw [3, 18] (fun v i wr => ∃ k : Nat, k ≤ D.dir.length ∧ i = .int .i64 k ∧ Chg (fun _ => False) w wr ∧ Hid (wr.ownsRow 0 9 1 v k (strVals (dListK D.dir k))) ∧ Hid (∀ x, v.ownBlock = some x → w.heap.size ≤ x)) (fun _ i _ => D.dir.length - (intOf i).toNat)
  case atStart => exact ⟨0, Nat.zero_le _, rfl, (Chg.refl _ w).grown hg1 (fun k hk => by cases hk), Hown.out, fun x hx => by cases hx; exact Nat.le_refl _⟩
  case round =>
    obtain ⟨k, hk, rfl, hcr, how, hfr⟩ := hrel
    by_cases hlk : k < D.dir.length
    · obtain ⟨g, rfl, hn, hp⟩ := hcell k hlk
      have hgl : g < w.heap.size := World.block_lt_of_cell? w _ hn
      have hn' : wr.cell? ⟨g, k * 2, none⟩ = some (.string (D.dir[k]'hlk).1) := (World.cell?_of_block (hcr.block g hgl (fun h => h))).trans hn
      have hp' : wr.cell? ⟨g, k * 2 + 1, none⟩ = some (.pointer (some ⟨(D.dir[k]'hlk).2, 0, none⟩)) := (World.cell?_of_block (hcr.block g hgl (fun h => h))).trans hp
      have hsz := hcr.size
      have hgr : g < wr.heap.size := by omega
      have how2 := hide ((how.out.alloc (.cells #[.string (D.dir[k]'hlk).1, .pointer (some ⟨(D.dir[k]'hlk).2, 0, none⟩)] 125)).alloc (.cells #[.string (D.dir[k]'hlk).1] 9))
      have hsr := hide (Src.ofNew (size := 1) Tryz.underlying121 (wr.alloc (.cells #[.string (D.dir[k]'hlk).1, .pointer (some ⟨(D.dir[k]'hlk).2, 0, none⟩)] 125)) #[.string (D.dir[k]'hlk).1] 9 (wr.heap.size + 1) (by simp) 1 1 rfl (by simp [Value.oneCell']))
      clear hn hp hcell
      obtain ⟨x, hx⟩ : ∃ x, (D.dir[k]'hlk).1 = x := ⟨_, rfl⟩
      rw [hx] at hn' how2 hsr
      have Hx := hide hx
      clear hx
      go_wp2_with (at_builtin; refine wpList_app rfl (.tmp 22) (.tmp 25) 121 121 rfl 9 i0 _ 1 16 Tryz.underlying121 hi hz0 hz1 hz2 rfl (by decide) _ _ _ (by rfl) how2.out _ 1 _ (by rfl) hsr.out (by omega) ?_; intro a3 cap3 w3 hB)
      have hl := hide (dListK_length D.dir k hk)
      obtain ⟨l, hlq⟩ : ∃ l, dListK D.dir k = l := ⟨_, rfl⟩
      have Hlq := hide hlq
      have hll : l.length = k := by rw [← hlq]; exact hl.out
      have hB0 : w3.ownsRow 0 9 1 (.slice a3 (k + 1) cap3) (k + 1) (strVals (l.take k ++ x :: l.drop k)) := by
        have := hB.own
        rw [hlq] at this
        rw [List.take_of_length_le (by omega), List.drop_of_length_le (by omega)]
        simpa [strVals] using this
      have hHB := hide hB0
      have c13 := hide (hB.chg2 ((hcr.alloc _).alloc _) hfr.out)
      have hmax : cap3 ≤ maxLen := by obtain ⟨_, _, he, h1, h2, _⟩ := ownsRow_form hB0; cases he; exact h2
      obtain ⟨g3, hg3⟩ : ∃ g3, a3 = some ⟨g3, 0, none⟩ := by
        obtain ⟨_, _, he, h1, h2, h3, _⟩ := ownsRow_form hB0
        cases he; exact h3 (by omega)
      have Hll := hide hll
      clear hlq hB0 hB how2 hsr how hll
      subst hg3
      have hc3 := hide c13.out.1
      have hf3 := hide (c13.out.2)
      clear c13
      have fin : Hid (∀ (wq : World) (j : Nat), j ≤ k → insPos l x k = j → wq.ownsRow 0 9 1 (.slice (some ⟨g3, 0, none⟩) (k + 1) cap3) (k + 1) (strVals (l.take j ++ x :: l.drop j)) → wq.ownsRow 0 9 1 (.slice (some ⟨g3, 0, none⟩) (k + 1) cap3) (k + 1) (strVals (dListK D.dir (k + 1)))) := by
        intro wq j hj hp h
        rw [dListK_succ D.dir k hlk, Hlq.out, Hx.out, ins, Hll.out, hp]
        exact h
      go_loopw [6] (fun i wq => ∃ j : Nat, j ≤ k ∧ i = .int .i64 j ∧ Hid (Chg (fun _ => False) w wq) ∧ Hid (wq.ownsRow 0 9 1 (.slice (some ⟨g3, 0, none⟩) (k + 1) cap3) (k + 1) (strVals (l.take j ++ x :: l.drop j))) ∧ Hid (insPos l x k = insPos l x j)) (fun i _ => (intOf i).toNat)
      case atStart => exact ⟨k, Nat.le_refl _, rfl, hc3, hHB, rfl⟩
      case round =>
        obtain ⟨j, hj, rfl, hcq, hoq, hpq⟩ := hrel
        by_cases hj0 : j = 0
        · subst hj0
          rw [show ((0 : Nat) : Int) = 0 from rfl]
          go_wp2
          go_quiet (fail)
          go_wp2
          go_roundw
          case rel =>
            refine ⟨k + 1, by omega, by go_num, hcq.out.drewN _, ?_, hf3.out⟩
            exact fin.out _ 0 (by omega) (by rw [hpq.out]; rfl) hoq.out
          case measure => simp [intOf]; omega
        · have hj1 : (0 : Int) < (j : Int) := by omega
          have hj2 : 0 < j := by omega
          have hjk : (j : Int) ≤ (k : Int) := by omega
          have hml : j - 1 < l.length := by have := Hll.out; omega
          have hjl : j ≤ l.length := by have := Hll.out; omega
          obtain ⟨y, hy⟩ : ∃ y, l[j - 1]'hml = y := ⟨_, rfl⟩
          have g1 : wr.cell? ⟨g3, j - 1, none⟩ = some (.string y) := ownsRow_cell hoq.out rfl (by
            unfold strVals
            rw [List.map_append, List.getElem?_append_left (by simp; omega)]
            simp [List.getElem?_take, hml, hy]; omega)
          have g2 : wr.cell? ⟨g3, j, none⟩ = some (.string x) := ownsRow_cell hoq.out rfl (by
            unfold strVals
            rw [List.map_append, List.getElem?_append_right (by simp; omega)]
            simp [Nat.min_eq_left hjl])
          have gz : ∀ o, wr.frozen? ⟨g3, o, none⟩ = false := fun o => ownsRow_frozen hoq.out rfl o
          by_cases hls : less x y = true
          · have hls' : Op.bytesLess x.toList y.toList = true := hls
            have Hls := hide hls
            have Hy := hide hy
            clear hls hy
            go_wp2
            go_quiet (fail)
            go_wp2
            go_region
            go_wp2
            go_roundw
            case rel =>
              refine ⟨j - 1, by omega, by go_num, ?_, ?_, ?_⟩
              · have h1 := ((hcq.out.setCell (p := ⟨g3, j, none⟩) (fun h => by have := hf3.out g3 rfl; simp at h; omega) (.string y)).setCell (p := ⟨g3, j - 1, none⟩) (fun h => by have := hf3.out g3 rfl; simp at h; omega) (.string x))
                exact ⟨h1.os, h1.tape, h1.output, h1.size, h1.block⟩
              · have s1 := (hoq.out.stored j (.string y)).1
                have s2 := (s1.stored (j - 1) (.string x)).1
                have e := swap_list l x (j - 1) hml
                rw [show j - 1 + 1 = j from by omega, Hy.out] at e
                rw [e] at s2
                exact s2
              · have := insPos_step l x (j - 1) hml (by rw [Hy.out]; exact Hls.out)
                rw [show j - 1 + 1 = j from by omega] at this
                unfold Hid; rw [hpq.out]; exact this
            case measure => simp [intOf]; omega
          · have hls0 : less x y = false := by simpa using hls
            have hls' : Op.bytesLess x.toList y.toList = false := hls0
            have Hls := hide hls0
            have Hy := hide hy
            clear hls hy hls0
            go_wp2
            go_quiet (fail)
            go_wp2
            go_roundw
            case rel =>
              refine ⟨k + 1, by omega, by go_num, hcq.out.drewN _, ?_, hf3.out⟩
              refine fin.out _ j hj ?_ hoq.out
              have := insPos_stop l x (j - 1) hml (by rw [Hy.out]; exact Hls.out)
              rw [show j - 1 + 1 = j from by omega] at this
              rw [hpq.out]; exact this
            case measure => simp [intOf]; omega
    · have hkl : k = D.dir.length := by omega
      have Hkl := hide hkl
      clear hkl hcell
      go_wp2
      go_ret
      refine ⟨_, rfl, ?_, hcr, hfr.out⟩
      have := how.out
      rw [Hkl.out] at this
      exact this
end Go.Proofs.YtodcnkbblippnaaGreatDoor
/- Walk: Crash. -/
namespace Go.Proofs.YtodcnkbblippnaaGreatDoor
open Go.RowKit
attribute [local go_sem ↓] Go.wp_at_zero Go.wp_at_succ

end Go.Proofs.YtodcnkbblippnaaGreatDoor
/- Walk: Crash itself. -/
namespace Go.Proofs.YtodcnkbblippnaaGreatDoor
open Go.RowKit
attribute [local go_sem ↓] Go.wp_at_zero Go.wp_at_succ

end Go.Proofs.YtodcnkbblippnaaGreatDoor
/- Walk: Copy's closure. -/
namespace Go.Proofs.YtodcnkbblippnaaGreatDoor
open Go.RowKit
attribute [local go_sem ↓] Go.wp_at_zero Go.wp_at_succ

section
variable {N : Nat} {w wr W w3 : World} {bo bm : Nat} {F : Nat → FC} {old made : List Nat} {vo vm : Value} {VB : Nat → Value} {es : List Ent} {i cn : Nat} {ov : Value} {L M : List Nat} {vo' vm' : Value} {VB' : Nat → Value} {es' : List Ent}
end

end Go.Proofs.YtodcnkbblippnaaGreatDoor
/- Walk: Copy. -/
namespace Go.Proofs.YtodcnkbblippnaaGreatDoor
open Go.RowKit
attribute [local go_sem ↓] Go.wp_at_zero Go.wp_at_succ

/-- Entries, their files renamed. -/
def ren (r : Nat → Nat) (es : List Ent) : List Ent := es.map fun e => (e.1, r e.2)
def DS.ren (r : Nat → Nat) (D : DS) : DS := { dir := Go.Proofs.YtodcnkbblippnaaGreatDoor.ren r D.dir, safe := Go.Proofs.YtodcnkbblippnaaGreatDoor.ren r D.safe, changes := D.changes.map (Go.Proofs.YtodcnkbblippnaaGreatDoor.ren r), n := D.n }
def sumLen (l : List (List Ent)) : Nat := (l.map List.length).sum
end Go.Proofs.YtodcnkbblippnaaGreatDoor
