/-
  The statement PassingCardSaid is proved: the law Passing answers true, at every four numbers; there is no condition.
  Part 11 of 34.
-/
import Derived.Test.YtodcnkbblippnaaGreatDoorPart09
import Derived.Test.YtodcnkbblippnaaGreatDoorPart10
import Derived.Handy
import Derived.Test.YtodcnkbblippnaaGreatDoorPart01
import Derived.Test.YtodcnkbblippnaaGreatDoorPart06
/- Walks: a piece is added to a file: add. -/
namespace Go.Proofs.YtodcnkbblippnaaGreatDoor
open Go.RowKit

/-- What is so behind a call that writes to the disk and to the file's block. -/
def AfterF (w : World) (Ft : Nat → Prop) (fb : Nat) (w' : World) (b : Nat) (D' : DS) (F' : Nat → FC) : Prop :=
  Chg (fun k => Ft k ∨ k = fb) w w' ∧ ∃ Ft', RepU w' b D' F' Ft' ∧ (∀ k, Ft' k → k < w'.heap.size) ∧ ∀ k, Ft' k → Ft k ∨ w.heap.size ≤ k
/-- Was all of the piece added? -/
def addOk (D : DS) (F : Nat → FC) (name : ByteArray) (pc : List UInt8) : Bool :=
  decide ((dSize (dAppend D F name ⟨pc.toArray⟩).2.1 (dAppend D F name ⟨pc.toArray⟩).2.2 name).1 - (dSize D F name).1 = pc.length)
theorem dSize_range (D : DS) (F : Nat → FC) (name : ByteArray) : 0 ≤ (dSize D F name).1 := by
  unfold dSize
  cases lookup D.dir name <;> simp
section
variable {w : World} {b fb : Nat} {D : DS} {F : Nat → FC} {Ft : Nat → Prop} {T : TypeId} {name : ByteArray} {s : Nat}
set_option maxRecDepth 100000 in
set_option maxHeartbeats 2000000 in
theorem addF (hf : FlBlk w fb T (.pointer (some ⟨b, 0, none⟩)) name s) (hs : s < 4294967296) (h : RepU w b D F Ft) (hlt : ∀ k, Ft k → k < w.heap.size) (hn : ¬ Ft fb) (l : List UInt8) (hroom : -4611686018427387904 ≤ D.n.room ∧ D.n.room ≤ 9223372036854775807)
    (hu : usedL F D.dir ≤ 4611686018427387904) (hp : 0 ≤ D.n.part ∧ D.n.part ≤ 9223372036854775807) (hl : ∀ f, lookup D.dir name = some f → (F f).1.length + (l.length + 4) ≤ 70368744177664) (hll : l.length ≤ 4611686018427387904)
    (hz : (dSize (dAppend D F name ⟨(l ++ sumB (sumOn s l)).toArray⟩).2.1 (dAppend D F name ⟨(l ++ sumB (sumOn s l)).toArray⟩).2.2 name).1 ≤ 70368744177664 ∧ (dSize D F name).1 ≤ 70368744177664) :
    Calls Tryz.prog 237 #[.pointer (some ⟨fb, 0, none⟩), .string ⟨l.toArray⟩] w fun e w' => e = .returned (.tuple #[.bool (addOk D F name (l ++ sumB (sumOn s l))), .int .i64 (dAppend D F name ⟨(l ++ sumB (sumOn s l)).toArray⟩).1]) ∧ FlBlk w' fb T (.pointer (some ⟨b, 0, none⟩)) name (sumOn s l) ∧ AfterF w Ft fb w' b (dAppend D F name ⟨(l ++ sumB (sumOn s l)).toArray⟩).2.1 (dAppend D F name ⟨(l ++ sumB (sumOn s l)).toArray⟩).2.2 := by
  obtain ⟨hz1, hz2⟩ := hz
  have SE := hide (seal_any w fb T _ name s l hf hs (by omega))
  have hpl : (l ++ sumB (sumOn s l)).length = l.length + 4 := by simp [sumB_length]
  obtain ⟨s1, hs1⟩ : ∃ s1, sumOn s l = s1 := ⟨_, rfl⟩
  rw [hs1] at SE hpl hz1 ⊢
  clear hs1 hf
  obtain ⟨pc, hpc⟩ : ∃ pc, l ++ sumB s1 = pc := ⟨_, rfl⟩
  rw [hpc] at SE hpl hz1 ⊢
  clear hpc
  have AP : ∀ w', RepU w' b D F Ft → _ := fun w' h' => appendU h' name ⟨pc.toArray⟩ hroom hu hp (fun f hf => by have := hl f hf; show _ + pc.length ≤ _; omega)
  have r1 := dSize_range D F name
  have r2 := dSize_range (dAppend D F name ⟨pc.toArray⟩).2.1 (dAppend D F name ⟨pc.toArray⟩).2.2 name
  have hok : addOk D F name pc = decide ((dSize (dAppend D F name ⟨pc.toArray⟩).2.1 (dAppend D F name ⟨pc.toArray⟩).2.2 name).1 - (dSize D F name).1 = pc.length) := rfl
  obtain ⟨D', hD'⟩ : ∃ D', (dAppend D F name ⟨pc.toArray⟩).2.1 = D' := ⟨_, rfl⟩
  obtain ⟨F', hF'⟩ : ∃ F', (dAppend D F name ⟨pc.toArray⟩).2.2 = F' := ⟨_, rfl⟩
  obtain ⟨er, her⟩ : ∃ er, (dAppend D F name ⟨pc.toArray⟩).1 = er := ⟨_, rfl⟩
  rw [hD', hF'] at hok r2 hz1 ⊢
  rw [her]
  rw [hD', hF', her] at AP
  clear hD' hF' her
  have S1 : ∀ w', RepU w' b D F Ft → _ := fun w' h' => sizeU h' name
  have S2 : ∀ w' Ft', RepU w' b D' F' Ft' → _ := fun w' Ft' h' => sizeU h' name
  obtain ⟨zn, hzn⟩ : ∃ zn, (dSize D F name).1 = zn := ⟨_, rfl⟩
  obtain ⟨ze, hze⟩ : ∃ ze, (dSize D F name).2 = ze := ⟨_, rfl⟩
  obtain ⟨yn, hyn⟩ : ∃ yn, (dSize D' F' name).1 = yn := ⟨_, rfl⟩
  obtain ⟨ye, hye⟩ : ∃ ye, (dSize D' F' name).2 = ye := ⟨_, rfl⟩
  rw [hzn, hyn] at hok
  rw [hzn] at r1 hz2
  rw [hyn] at r2 hz1
  rw [hzn, hze] at S1
  rw [hyn, hye] at S2
  clear hzn hze hyn hye
  rw [hok]
  clear hok
  obtain ⟨ok, hok⟩ : ∃ ok, decide (yn - zn = (pc.length : Int)) = ok := ⟨_, rfl⟩
  rw [hok]
  have HOK := hide hok
  have AP' := hide AP
  have S1' := hide S1
  have S2' := hide S2
  have H := hide h
  have HLT := hide hlt
  have HN := hide hn
  clear AP S1 S2 h hlt hn hok hroom hu hp hl
  go_enter Tryz.func237, Tryz.ntmps237
  go_wp2_with (go_at_call 214; refine SE.out.mono ?_; rintro e w1 ⟨rfl, hb1, hc1⟩; have HB1 := hide hb1; have HC1 := hide hc1; clear hb1 hc1)
  have HS0 : Hid (FlBlk w1 fb T (.pointer (some ⟨b, 0, none⟩)) name s1 ∧ RepU w1 b D F Ft) := ⟨HB1.out, H.out.frame fun k hk => HC1.out.block k (HLT.out k hk) (fun e => HN.out (e ▸ hk))⟩
  clear HB1 SE H
  refine wp_region_each 13 (fun y => { tmps := #[.pointer (some ⟨fb, 0, none⟩), .string ⟨l.toArray⟩, undef, undef, .bool false, .int .i64 0, .string ⟨pc.toArray⟩, y 12, undef, undef, undef, undef, .pointer (some ⟨fb, 0, none⟩), .string ⟨l.toArray⟩, .string ⟨pc.toArray⟩, y 9, y 0, y 1, y 2, y 3, y 4, y 5, y 6, y 7, y 8, y 10, y 11, undef, undef, undef, undef, undef, undef, undef, undef, undef, undef, undef, undef, undef, undef, undef, undef, undef, undef, undef, undef, undef, undef, undef, undef, undef, undef, undef, undef, undef], defers := [] }) (fun _ => undef)
    (fun w' => FlBlk w' fb T (.pointer (some ⟨b, 0, none⟩)) name s1 ∧ RepU w' b D F Ft ∧ Chg (fun _ => False) w1 w') (Chg (fun _ => False))
    (fun j x w' => match j with
      | 0 => x = .pointer (some ⟨fb, 0, none⟩)
      | 1 => x = .pointer (some ⟨fb, 0, none⟩)
      | 2 => x = .pointer (some ⟨fb, 0, none⟩)
      | 3 => x = .pointer (some ⟨b, 0, none⟩)
      | 4 => x = .pointer (some ⟨fb, 0, none⟩)
      | 5 => x = .pointer (some ⟨fb, 0, none⟩)
      | 6 => x = .pointer (some ⟨fb, 1, none⟩)
      | 7 => x = .string name
      | 8 => x = .tuple #[.int .i64 zn, .int .i64 ze]
      | 9 => x = .tuple #[.int .i64 zn, .int .i64 ze]
      | 10 => x = .int .i64 zn
      | 11 => x = .int .i64 ze
      | 12 => x = .int .i64 zn
      | _ => True)
    (by kernel_rfl) (by kernel_rfl) rfl ?_ ?_ ?_ ?_
  · exact ⟨HS0.out.1, HS0.out.2.drew, (Chg.refl _ _).drew⟩
  · intro j x w1 w2 hR hS' hG
    split at hG <;> exact hG
  · clear HS0
    simp only [List.take_succ_cons, List.take_zero, EachOb, and_true]
    repeat' (with_reducible apply And.intro)
    all_goals refine ⟨?_, (by intro y wx _ _ h; exact Bool.noConfusion h), fun y x => rfl⟩
    all_goals
      intro zz wx hS hd hw K hK
      clear hw
      obtain ⟨hS1, hS2, hS3⟩ := hS
      simp [depsOf, Region.binds, DepsG, List.filter_cons] at hd
      have c0 := hS1.c0
      have c1 := hS1.c1
      have HS : Hid (FlBlk wx fb T (.pointer (some ⟨b, 0, none⟩)) name s1 ∧ RepU wx b D F Ft ∧ Chg (fun _ => False) w1 wx) := ⟨hS1, hS2, hS3⟩
      have HK := hide hK
      clear hS1 hS2 hS3 hK
    all_goals dsimp only
    all_goals try go_simp
    all_goals try with_reducible exact HK.out _ _ _ rfl (by simp [Act.put, hd]) (Chg.refl _ _) HS.out
    all_goals
      refine (S1'.out wx HS.out.2.1).mono ?_
      rintro e w2 ⟨rfl, rfl⟩
      exact HK.out _ _ _ rfl (by simp [Act.put, hd]) (Chg.refl _ _) HS.out
  intro y wx hS hG
  have h11 : y 11 = .int .i64 ze := hG 11 (by omega)
  have h12 : y 12 = .int .i64 zn := hG 12 (by omega)
  have c0 := hS.1.c0
  have c1 := hS.1.c1
  have HS := hide hS
  clear hG hS HS0 S1'
  go_wp2
  refine wp_region_sch (fun w' => w'.cell? ⟨fb, 0, none⟩ = some (.pointer (some ⟨b, 0, none⟩)) ∧ w'.cell? ⟨fb, 1, none⟩ = some (.string name)) 9
    [(0, true), (1, true), (2, true), (3, true), (4, true), (5, true), (6, true), (7, true), (8, true)] (by kernel_rfl) (by kernel_rfl) (fun _ _ _ _ _ h => h) ⟨c0, c1⟩ ?_
  iterate 9 (refine wpSch_take (v := ?_) rfl (by rfl) ?_ ?_; rotate_left; (· (intro w' hS; (try dsimp only at hS); go_simp; try with_reducible rfl)); (try simp only [Act.put, List.setIfInBounds_toArray, List.set_cons_zero, List.set_cons_succ, List.getElem_toArray, List.getElem_cons_zero, List.getElem_cons_succ]))
  refine wpSch_end ?_
  simp only [List.drop_succ_cons, List.drop_zero]
  have AP2 := hide (AP'.out wx.drew HS.out.2.1.drew)
  clear AP'
  go_wp2_with (go_at_call 84; refine AP2.out.mono ?_; rintro e w3 ⟨rfl, hA⟩; have HA := hide hA; clear hA)
  have HA2 := HA.out.ofDrew
  obtain ⟨hk3, Ft', hr3, hl3, hf3⟩ := HA2
  have hsz := HS.out.1.lt
  have HS0 : Hid (FlBlk w3 fb T (.pointer (some ⟨b, 0, none⟩)) name s1 ∧ RepU w3 b D' F' Ft') := ⟨HS.out.1.keep hk3 HN.out, hr3⟩
  have HK3 := hide hk3
  have HL3 := hide hl3
  have HF3 := hide hf3
  clear hk3 hr3 hl3 hf3 AP2 HA c0 c1 hsz
  have S3' : Hid (∀ w', RepU w' b D' F' Ft' → _) := fun w' h' => S2'.out w' Ft' h'
  clear S2'
  refine wp_region_each 13 (fun z => { tmps := #[.pointer (some ⟨fb, 0, none⟩), .string ⟨l.toArray⟩, undef, undef, .bool false, .int .i64 0, .string ⟨pc.toArray⟩, .int .i64 zn, .int .i64 ze, .int .i64 er, z 12, undef, .pointer (some ⟨fb, 0, none⟩), .string ⟨l.toArray⟩, .string ⟨pc.toArray⟩, y 9, y 0, y 1, y 2, y 3, y 4, y 5, y 6, y 7, y 8, y 10, .int .i64 ze, .pointer (some ⟨fb, 0, none⟩), .pointer (some ⟨fb, 0, none⟩), .pointer (some ⟨fb, 0, none⟩), .pointer (some ⟨b, 0, none⟩), .pointer (some ⟨fb, 0, none⟩), .pointer (some ⟨fb, 0, none⟩), .pointer (some ⟨fb, 1, none⟩), .string name, .string ⟨pc.toArray⟩, .int .i64 er, z 9, z 0, z 1, z 2, z 3, z 4, z 5, z 6, z 7, z 8, z 10, z 11, undef, undef, undef, undef, undef, undef, undef], defers := [] }) (fun _ => undef)
    (fun w' => FlBlk w' fb T (.pointer (some ⟨b, 0, none⟩)) name s1 ∧ RepU w' b D' F' Ft' ∧ Chg (fun _ => False) w3 w') (Chg (fun _ => False))
    (fun j x w' => match j with
      | 0 => x = .pointer (some ⟨fb, 0, none⟩)
      | 1 => x = .pointer (some ⟨fb, 0, none⟩)
      | 2 => x = .pointer (some ⟨fb, 0, none⟩)
      | 3 => x = .pointer (some ⟨b, 0, none⟩)
      | 4 => x = .pointer (some ⟨fb, 0, none⟩)
      | 5 => x = .pointer (some ⟨fb, 0, none⟩)
      | 6 => x = .pointer (some ⟨fb, 1, none⟩)
      | 7 => x = .string name
      | 8 => x = .tuple #[.int .i64 yn, .int .i64 ye]
      | 9 => x = .tuple #[.int .i64 yn, .int .i64 ye]
      | 10 => x = .int .i64 yn
      | 11 => x = .int .i64 ye
      | 12 => x = .int .i64 yn
      | _ => True)
    (by kernel_rfl) (by kernel_rfl) rfl ?_ ?_ ?_ ?_
  · exact ⟨HS0.out.1, HS0.out.2.drew, (Chg.refl _ _).drew⟩
  · intro j x w1 w2 hR hS' hG
    split at hG <;> exact hG
  · clear HS0
    simp only [List.take_succ_cons, List.take_zero, EachOb, and_true]
    repeat' (with_reducible apply And.intro)
    all_goals refine ⟨?_, (by intro y wx _ _ h; exact Bool.noConfusion h), fun y x => rfl⟩
    all_goals
      intro zz wx hS hd hw K hK
      clear hw
      obtain ⟨hS1, hS2, hS3⟩ := hS
      simp [depsOf, Region.binds, DepsG, List.filter_cons] at hd
      have c0 := hS1.c0
      have c1 := hS1.c1
      have HS : Hid (FlBlk wx fb T (.pointer (some ⟨b, 0, none⟩)) name s1 ∧ RepU wx b D' F' Ft' ∧ Chg (fun _ => False) w3 wx) := ⟨hS1, hS2, hS3⟩
      have HK := hide hK
      clear hS1 hS2 hS3 hK
    all_goals dsimp only
    all_goals try go_simp
    all_goals try with_reducible exact HK.out _ _ _ rfl (by simp [Act.put, hd]) (Chg.refl _ _) HS.out
    all_goals
      refine (S3'.out wx HS.out.2.1).mono ?_
      rintro e w2 ⟨rfl, rfl⟩
      exact HK.out _ _ _ rfl (by simp [Act.put, hd]) (Chg.refl _ _) HS.out
  intro z wz hZ hG
  have z11 : z 11 = .int .i64 ye := hG 11 (by omega)
  have z12 : z 12 = .int .i64 yn := hG 12 (by omega)
  have HZ := hide hZ
  have hbe : (yn - zn == (l.length : Int) + 4) = ok := by
    rw [← HOK.out, hpl, Bool.eq_iff_iff]; simp
  clear hG hZ HS0 S3' HOK
  go_wp2
  go_ret2
  exact ⟨rfl, HZ.out.1, (((HC1.out.mono (fun _ _ h => .inr h)).trans HS.out.2.2 (fun _ h _ => h.elim)).trans HK3.out (fun _ h _ => .inl h)).trans HZ.out.2.2 (fun _ h _ => h.elim),
    Ft', HZ.out.2.1, fun k hk => Nat.lt_of_lt_of_le (HL3.out k hk) HZ.out.2.2.size, fun k hk => (HF3.out k hk).imp id fun h => Nat.le_trans (Nat.le_trans HC1.out.size HS.out.2.2.size) h⟩
end
end Go.Proofs.YtodcnkbblippnaaGreatDoor
/- Walks: a file's and a log's value: fileOf, logOf. -/
namespace Go.Proofs.YtodcnkbblippnaaGreatDoor
open Go.RowKit

/-- What a file's sum begins with. -/
def sum0 (name : List UInt8) : Nat := sumOn 4294967295 name
/-- The letters of names and the library's table lie below B, and what comes keeps them. -/
def Lets (B : Nat) (w : World) : Prop :=
  B ≤ w.heap.size ∧ ∀ w', Below B w w' → (∀ k : Nat, 1 ≤ k → k ≤ 4 → w'.cell? ⟨0, k, none⟩ = some (.string ⟨(ltr k).toArray⟩)) ∧ Lib.TabIs Tryz.prog w' "internal/strconv.uint64pow10" .u64 Lib.pow10Tab
theorem Lets.keep {B : Nat} {w w' : World} {S : Nat → Prop} (h : Lets B w) (hc : Chg S w w') (hS : ∀ k, S k → B ≤ k) : Lets B w' :=
  ⟨Nat.le_trans h.1 hc.size, fun w2 h2 => h.2 w2 ((hc.below h.1 fun k hk hs => by have := hS k hs; omega).trans h2)⟩
theorem Lets.keep0 {B : Nat} {w w' : World} (h : Lets B w) (hc : Chg (fun _ => False) w w') : Lets B w' := h.keep hc fun _ h => h.elim
theorem ltr_length (s : Int) : (ltr s).length ≤ 1 := by
  unfold ltr
  split
  · simp
  · split
    · simp
    · split
      · simp
      · split <;> simp
theorem nameL_length (lt : List UInt8) (n : Int) : (nameL lt n).length = lt.length + (19 - (Lib.itoa n).length) + (Lib.itoa n).length := by
  unfold nameL
  have := Lib.repeatL_length [48] (19 - (Lib.itoa n).length)
  simp only [List.length_append, this]
  simp
theorem nmOf_length {s n : Int} (h : (Lib.itoa n).length ≤ 19) : (nmOf s n).length ≤ 100 := by
  have h1 := ltr_length s
  unfold nmOf
  split
  · rw [nameL_length]; omega
  · omega
/-- A name, of whichever sort. -/
theorem nameOf_nm {B : Nat} {n : Int} (w : World) (k : Nat) (hk : 1 ≤ k ∧ k ≤ 4) (hn : -9223372036854775808 ≤ n ∧ n ≤ 9223372036854775807) (hd : (Lib.itoa n).length ≤ 19) (hL : Lets B w) :
    Calls Tryz.prog 134 #[.int .i64 k, .int .i64 n] w fun e w' => e = .returned (.string ⟨(nmOf k n).toArray⟩) ∧ Chg (fun _ => False) w w' := by
  obtain ⟨h1, h2⟩ := hL.2 w (Below.refl _ _)
  have hl := h1 k hk.1 hk.2
  by_cases h : k = 1 ∨ k = 2
  · have e : nmOf k n = nameL (ltr k) n := by unfold nmOf; rw [if_pos (by omega)]
    rw [e]
    exact nameOf_any w k k ⟨rfl, h⟩ (ltr k) n hn (by have := ltr_length k; omega) hd hl h2
  · have e : nmOf k n = ltr k := by unfold nmOf; rw [if_neg (by omega)]
    rw [e]
    refine (nameOf_lone w k (by omega) (ltr k) n hl).mono ?_
    rintro e w' ⟨rfl, rfl⟩
    exact ⟨rfl, Chg.refl _ _⟩
/-- A number that a file may have. -/
def NumOk (n : Int) : Prop := 0 ≤ n ∧ n ≤ 9223372036854775807 ∧ (Lib.itoa n).length ≤ 19
section
variable {B : Nat} {n : Int} {p : Value}
set_option maxRecDepth 100000 in
set_option maxHeartbeats 1000000 in
theorem fileOf_any (w : World) (db k : Nat) (hk : 1 ≤ k ∧ k ≤ 4) (hn : NumOk n) (hL : Lets B w) :
    Calls Tryz.prog 125 #[.pointer (some ⟨db, 0, none⟩), .int .i64 k, .int .i64 n] w fun e w' => e = .returned (.agg #[.pointer (some ⟨db, 0, none⟩), .string ⟨(nmOf k n).toArray⟩, .int .u32 (sum0 (nmOf k n))]) ∧ Chg (fun _ => False) w w' := by
  obtain ⟨hn1, hn2, hd⟩ := hn
  have NO : ∀ w', Chg (fun _ => False) w w' → _ := fun w' hc => nameOf_nm (n := n) w' k hk ⟨by omega, hn2⟩ hd (hL.keep0 hc)
  have hnl : (nmOf k n).length ≤ 9223372036854775807 := by
    have := nmOf_length (s := k) hd; omega
  obtain ⟨nm, hnm⟩ : ∃ nm, nmOf k n = nm := ⟨_, rfl⟩
  rw [hnm] at NO hnl ⊢
  have AS : ∀ w', _ := fun w' => addSum_list w' 4294967295 nm (by omega) hnl
  obtain ⟨s0, hs0⟩ : ∃ s0, sum0 nm = s0 := ⟨_, rfl⟩
  have AS2 : ∀ w', Calls Tryz.prog 165 #[.int .u32 4294967295, .string ⟨nm.toArray⟩] w' fun e w'' => e = .returned (.int .u32 s0) ∧ w' = w'' := by rw [← hs0]; exact AS
  rw [hs0]
  have HNO := hide NO
  have HAS := hide AS2
  clear NO AS AS2 hs0 hnm hnl hL hd
  go_enter Tryz.func125, Tryz.ntmps125
  go_wp2_with (fail)
  refine (HNO.out _ ((Chg.refl _ _).alloc _)).mono ?_
  rintro e w1 ⟨rfl, hc1⟩
  have hb : w1.heap[w.heap.size]? = some (.cells #[.pointer none, .string ⟨#[]⟩, .int .u32 0] 160 (0, 0)) := hc1.keep (by show (w.heap.push _)[w.heap.size]? = _; rw [Array.getElem?_push_size]) (by simp)
  have c0 : w1.cell? ⟨w.heap.size, 0, none⟩ = some (.pointer none) := by simp [World.cell?, hb]
  have c1 : w1.cell? ⟨w.heap.size, 1, none⟩ = some (.string ⟨#[]⟩) := by simp [World.cell?, hb]
  have c2 : w1.cell? ⟨w.heap.size, 2, none⟩ = some (.int .u32 0) := by simp [World.cell?, hb]
  have f0 : w1.frozen? ⟨w.heap.size, 0, none⟩ = false := by simp [World.frozen?, hb]
  have f1 : w1.frozen? ⟨w.heap.size, 1, none⟩ = false := by simp [World.frozen?, hb]
  have f2 : w1.frozen? ⟨w.heap.size, 2, none⟩ = false := by simp [World.frozen?, hb]
  have h3 := heap_setCell_at (o := 2) (v := .int .u32 s0) (heap_setCell_at (o := 1) (v := .string ⟨nm.toArray⟩) (heap_setCell_at (o := 0) (v := .pointer (some ⟨db, 0, none⟩)) hb))
  have k1 : Chg (fun _ => False) w w1 := ((Chg.refl (fun _ => False) w).alloc _).trans hc1 (fun _ h _ => h)
  have k3 : Chg (fun _ => False) w (((w1.setCell ⟨w.heap.size, 0, none⟩ (.pointer (some ⟨db, 0, none⟩))).setCell ⟨w.heap.size, 1, none⟩ (.string ⟨nm.toArray⟩)).setCell ⟨w.heap.size, 2, none⟩ (.int .u32 s0)) := ((k1.setCell (by simp) _).setCell (by simp) _).setCell (by simp) _
  have H3 := hide h3
  have K3 := hide k3
  clear hb h3 k1 k3 hc1 HNO
  go_wp2_with (go_at_call 165; refine (HAS.out _).mono ?_; rintro e w' ⟨rfl, rfl⟩)
  generalize (((w1.setCell ⟨w.heap.size, 0, none⟩ (.pointer (some ⟨db, 0, none⟩))).setCell ⟨w.heap.size, 1, none⟩ (.string ⟨nm.toArray⟩)).setCell ⟨w.heap.size, 2, none⟩ (.int .u32 s0)) = w3 at H3 K3 ⊢
  have h3 := H3.out
  have r0 : w3.cell? ⟨w.heap.size, 0, none⟩ = some (.pointer (some ⟨db, 0, none⟩)) := by simp [World.cell?, h3]
  have r1 : w3.cell? ⟨w.heap.size, 1, none⟩ = some (.string ⟨nm.toArray⟩) := by simp [World.cell?, h3]
  have r2 : w3.cell? ⟨w.heap.size, 2, none⟩ = some (.int .u32 s0) := by simp [World.cell?, h3]
  clear h3 H3 c0 c1 c2 f0 f1 f2
  refine bodyPost_ret (v := .agg #[.pointer (some ⟨db, 0, none⟩), .string ⟨nm.toArray⟩, .int .u32 s0]) (by simp [results, Tryz.results125, go_sem, r0, r1, r2]) rfl ?_
  exact ⟨rfl, K3.out⟩
set_option maxRecDepth 100000 in
set_option maxHeartbeats 1000000 in
theorem logOf_any (w : World) (db : Nat) (hn : NumOk n) (hL : Lets B w) :
    Calls Tryz.prog 192 #[.pointer (some ⟨db, 0, none⟩), .int .i64 n] w fun e w' => ∃ lb, e = .returned (.pointer (some ⟨lb, 0, none⟩)) ∧ FlBlk w' lb 237 (.pointer (some ⟨db, 0, none⟩)) ⟨(nmOf 1 n).toArray⟩ (sum0 (nmOf 1 n)) ∧ Chg (fun _ => False) w w' ∧ w.heap.size ≤ lb := by
  have FO := hide (fileOf_any w db 1 (by omega) hn hL)
  rw [show ((1 : Nat) : Int) = 1 from rfl] at FO
  obtain ⟨nm, hnm⟩ : ∃ nm, nmOf 1 n = nm := ⟨_, rfl⟩
  rw [hnm] at FO ⊢
  obtain ⟨s0, hs0⟩ : ∃ s0, sum0 nm = s0 := ⟨_, rfl⟩
  rw [hs0] at FO ⊢
  clear hL hn hnm hs0
  go_enter Tryz.func192, Tryz.ntmps192
  go_wp2_with (go_at_call 125; refine FO.out.mono ?_; rintro e w1 ⟨rfl, hc⟩; have HC := hide hc; clear hc)
  go_ret
  exact ⟨w1.heap.size, rfl, (by show (w1.heap.push _)[w1.heap.size]? = _; rw [Array.getElem?_push_size]), HC.out.alloc _, HC.out.size⟩
/-- A block that holds a file, a number and a row: an index, a segment. -/
def FnBlk (w : World) (xb : Nat) (T : TypeId) (b : Nat) (name : List UInt8) (s : Nat) (n : Int) (v : Value) : Prop := w.heap[xb]? = some (.cells #[.pointer (some ⟨b, 0, none⟩), .string ⟨name.toArray⟩, .int .u32 s, .int .i64 n, v] T (0, 0))
section
variable {w w' : World} {xb : Nat} {T : TypeId} {b : Nat} {name : List UInt8} {s : Nat} {v : Value}
theorem FnBlk.c0 (h : FnBlk w xb T b name s n v) : w.cell? ⟨xb, 0, none⟩ = some (.pointer (some ⟨b, 0, none⟩)) := by unfold FnBlk at h; simp [World.cell?, h]
theorem FnBlk.c1 (h : FnBlk w xb T b name s n v) : w.cell? ⟨xb, 1, none⟩ = some (.string ⟨name.toArray⟩) := by unfold FnBlk at h; simp [World.cell?, h]
theorem FnBlk.c2 (h : FnBlk w xb T b name s n v) : w.cell? ⟨xb, 2, none⟩ = some (.int .u32 s) := by unfold FnBlk at h; simp [World.cell?, h]
theorem FnBlk.c3 (h : FnBlk w xb T b name s n v) : w.cell? ⟨xb, 3, none⟩ = some (.int .i64 n) := by unfold FnBlk at h; simp [World.cell?, h]
theorem FnBlk.c4 (h : FnBlk w xb T b name s n v) : w.cell? ⟨xb, 4, none⟩ = some v := by unfold FnBlk at h; simp [World.cell?, h]
theorem FnBlk.fz (h : FnBlk w xb T b name s n v) (o : Nat) : w.frozen? ⟨xb, o, none⟩ = false := by unfold FnBlk at h; simp [World.frozen?, h]
theorem FnBlk.lt (h : FnBlk w xb T b name s n v) : xb < w.heap.size := lt_of_block h
theorem FnBlk.s3 (h : FnBlk w xb T b name s n v) (x : Int) : FnBlk (w.setCell ⟨xb, 3, none⟩ (.int .i64 x)) xb T b name s x v := heap_setCell_at h
theorem FnBlk.s4 (h : FnBlk w xb T b name s n v) (x : Value) : FnBlk (w.setCell ⟨xb, 4, none⟩ x) xb T b name s n x := heap_setCell_at h
theorem FnBlk.drew (h : FnBlk w xb T b name s n v) : FnBlk w.drew xb T b name s n v := by unfold FnBlk at h ⊢; exact h
theorem FnBlk.keep {S : Nat → Prop} (h : FnBlk w xb T b name s n v) (hc : Chg S w w') (hn : ¬ S xb) : FnBlk w' xb T b name s n v := hc.keep h hn
end
set_option maxRecDepth 100000 in
set_option maxHeartbeats 1000000 in
theorem segmentOf_any (w : World) (db : Nat) (hn : NumOk n) (hL : Lets B w) :
    Calls Tryz.prog 175 #[.pointer (some ⟨db, 0, none⟩), .int .i64 n] w fun e w' => ∃ gb, e = .returned (.pointer (some ⟨gb, 0, none⟩)) ∧ FnBlk w' gb 182 db (nmOf 2 n) (sum0 (nmOf 2 n)) n (.slice none 0 0) ∧ Chg (fun _ => False) w w' ∧ w.heap.size ≤ gb := by
  have FO := hide (fileOf_any w db 2 (by omega) hn hL)
  rw [show ((2 : Nat) : Int) = 2 from rfl] at FO
  obtain ⟨nm, hnm⟩ : ∃ nm, nmOf 2 n = nm := ⟨_, rfl⟩
  rw [hnm] at FO ⊢
  obtain ⟨s0, hs0⟩ : ∃ s0, sum0 nm = s0 := ⟨_, rfl⟩
  rw [hs0] at FO ⊢
  clear hL hn hnm hs0
  go_enter Tryz.func175, Tryz.ntmps175
  go_wp2_with (go_at_call 125; refine FO.out.mono ?_; rintro e w1 ⟨rfl, hc⟩; have HC := hide hc; clear hc)
  go_ret
  exact ⟨w1.heap.size, rfl, (by show (w1.heap.push _)[w1.heap.size]? = _; rw [Array.getElem?_push_size]), HC.out.alloc _, HC.out.size⟩
end
end Go.Proofs.YtodcnkbblippnaaGreatDoor
/- Walks: logs: SyncLog, Add. -/
namespace Go.Proofs.YtodcnkbblippnaaGreatDoor
open Go.RowKit

theorem AfterU.before {w w1 w' : World} {b : Nat} {D : DS} {F : Nat → FC} {Ft : Nat → Prop} (h : AfterU w1 Ft w' b D F) (hc : Chg (fun _ => False) w w1) : AfterU w Ft w' b D F := by
  obtain ⟨h1, Ft', h2, h3, h4⟩ := h
  exact ⟨(hc.mono fun _ _ h => h.elim).trans h1 fun _ h _ => h, Ft', h2, h3, fun k hk => (h4 k hk).imp id fun h => Nat.le_trans hc.size h⟩
section
variable {B b : Nat} {D : DS} {F : Nat → FC} {Ft : Nat → Prop} {n : Int}
theorem AfterF.before {w w1 w' : World} {fb : Nat} (h : AfterF w1 Ft fb w' b D F) (hc : Chg (fun _ => False) w w1) : AfterF w Ft fb w' b D F := by
  obtain ⟨h1, Ft', h2, h3, h4⟩ := h
  exact ⟨(hc.mono fun _ _ h => h.elim).trans h1 fun _ h _ => h, Ft', h2, h3, fun k hk => (h4 k hk).imp id fun h => Nat.le_trans hc.size h⟩
set_option maxRecDepth 100000 in
set_option maxHeartbeats 1000000 in
theorem addLog_any (w : World) (lb : Nat) (name : ByteArray) (s : Nat) (sr t v : Int) (hsr : 0 ≤ sr ∧ sr < 256) (ht : -9223372036854775808 ≤ t ∧ t ≤ 9223372036854775807) (hv : -9223372036854775808 ≤ v ∧ v ≤ 9223372036854775807)
    (hf : FlBlk w lb 237 (.pointer (some ⟨b, 0, none⟩)) name s) (hs : s < 4294967296) (h : RepU w b D F Ft) (hlt : ∀ k, Ft k → k < w.heap.size) (hn : ¬ Ft lb) (hroom : -4611686018427387904 ≤ D.n.room ∧ D.n.room ≤ 9223372036854775807)
    (hu : usedL F D.dir ≤ 4611686018427387904) (hp : 0 ≤ D.n.part ∧ D.n.part ≤ 9223372036854775807) (hl : ∀ f, lookup D.dir name = some f → (F f).1.length + 21 ≤ 70368744177664)
    (hz : (dSize (dAppend D F name ⟨(putB sr t v ++ sumB (sumOn s (putB sr t v))).toArray⟩).2.1 (dAppend D F name ⟨(putB sr t v ++ sumB (sumOn s (putB sr t v))).toArray⟩).2.2 name).1 ≤ 70368744177664 ∧ (dSize D F name).1 ≤ 70368744177664) :
    Calls Tryz.prog 191 #[.pointer (some ⟨lb, 0, none⟩), .agg #[.int .i64 sr, .int .i64 t, .int .i64 v]] w fun e w' => e = .returned (.tuple #[.bool (addOk D F name (putB sr t v ++ sumB (sumOn s (putB sr t v)))), .int .i64 (dAppend D F name ⟨(putB sr t v ++ sumB (sumOn s (putB sr t v))).toArray⟩).1]) ∧
      FlBlk w' lb 237 (.pointer (some ⟨b, 0, none⟩)) name (sumOn s (putB sr t v)) ∧ AfterF w Ft lb w' b (dAppend D F name ⟨(putB sr t v ++ sumB (sumOn s (putB sr t v))).toArray⟩).2.1 (dAppend D F name ⟨(putB sr t v ++ sumB (sumOn s (putB sr t v))).toArray⟩).2.2 := by
  have PB : ∀ w', _ := fun w' => putBytes_any w' sr t v hsr ht hv
  have hll : (putB sr t v).length = 17 := by simp [putB, intB_length]
  obtain ⟨l, hle⟩ : ∃ l, putB sr t v = l := ⟨_, rfl⟩
  rw [hle] at PB hll hz ⊢
  clear hle
  have AD : ∀ w', Chg (fun _ => False) w w' → _ := fun w' hc => addF (hf.keep hc (by simp)) hs (h.same hlt hc) (fun k hk => Nat.lt_of_lt_of_le (hlt k hk) hc.size) hn l hroom hu hp (fun f hf => by have := hl f hf; omega) (by omega) hz
  obtain ⟨ok, hok⟩ : ∃ ok, addOk D F name (l ++ sumB (sumOn s l)) = ok := ⟨_, rfl⟩
  obtain ⟨er, her⟩ : ∃ er, (dAppend D F name ⟨(l ++ sumB (sumOn s l)).toArray⟩).1 = er := ⟨_, rfl⟩
  rw [hok, her] at AD ⊢
  have hlb := hf.lt
  have HPB := hide PB
  have HAD := hide AD
  have HLT := hide hlt
  clear PB AD hok her hf h hlt hn hroom hu hp hl hz
  go_enter Tryz.func191, Tryz.ntmps191
  go_wp2
  have hb : (w.alloc (.cells #[.int .i64 sr, .int .i64 t, .int .i64 v] 113)).heap[w.heap.size]? = some (.cells #[.int .i64 sr, .int .i64 t, .int .i64 v] 113 (0, 0)) := by show (w.heap.push _)[w.heap.size]? = _; rw [Array.getElem?_push_size]
  have p0 : (w.alloc (.cells #[.int .i64 sr, .int .i64 t, .int .i64 v] 113)).drew.cell? ⟨w.heap.size, 0, none⟩ = some (.int .i64 sr) := by show (w.alloc _).cell? _ = _; simp only [World.cell?, hb]; rfl
  have p1 : (w.alloc (.cells #[.int .i64 sr, .int .i64 t, .int .i64 v] 113)).drew.cell? ⟨w.heap.size, 1, none⟩ = some (.int .i64 t) := by show (w.alloc _).cell? _ = _; simp only [World.cell?, hb]; rfl
  have p2 : (w.alloc (.cells #[.int .i64 sr, .int .i64 t, .int .i64 v] 113)).drew.cell? ⟨w.heap.size, 2, none⟩ = some (.int .i64 v) := by show (w.alloc _).cell? _ = _; simp only [World.cell?, hb]; rfl
  have HK0 : Hid (Chg (fun _ => False) w (w.alloc (.cells #[.int .i64 sr, .int .i64 t, .int .i64 v] 113)).drew) := ((Chg.refl _ w).alloc _).drew
  clear hb
  refine wp_region_sch (fun w' => w'.cell? ⟨w.heap.size, 0, none⟩ = some (.int .i64 sr) ∧ w'.cell? ⟨w.heap.size, 1, none⟩ = some (.int .i64 t) ∧ w'.cell? ⟨w.heap.size, 2, none⟩ = some (.int .i64 v)) 8
    [(0, true), (1, true), (2, true), (3, true), (4, false), (5, false), (6, true), (7, true)] (by kernel_rfl) (by kernel_rfl) (fun _ _ _ _ _ h => h) ⟨p0, p1, p2⟩ ?_
  generalize (w.alloc (.cells #[.int .i64 sr, .int .i64 t, .int .i64 v] 113)).drew = w1 at p0 p1 p2 HK0 ⊢
  iterate 4 (refine wpSch_take (v := ?_) rfl (by rfl) ?_ ?_; rotate_left; (· (intro w' hS; (try dsimp only at hS); go_simp; try with_reducible rfl)); (try simp only [Act.put, List.setIfInBounds_toArray, List.set_cons_zero, List.set_cons_succ, List.getElem_toArray, List.getElem_cons_zero, List.getElem_cons_succ]))
  refine wpSch_do rfl (by rfl) (fun K hK => ?_)
  go_simp
  refine (HPB.out w1).mono ?_
  rintro e w2 ⟨rfl, hc2⟩
  have q0 := hc2.cellKeep p0
  have q1 := hc2.cellKeep p1
  have q2 := hc2.cellKeep p2
  refine hK _ _ ⟨q0, q1, q2⟩ (fun hS => ?_)
  have HK2 : Hid (Chg (fun _ => False) w w2) := HK0.out.trans hc2 (fun _ h _ => h)
  clear hK K hS hc2 p0 p1 p2 HK0
  (try simp only [Act.put, List.setIfInBounds_toArray, List.set_cons_zero, List.set_cons_succ, List.getElem_toArray, List.getElem_cons_zero, List.getElem_cons_succ])
  refine wpSch_do rfl (by rfl) (fun K hK => ?_)
  go_simp
  refine (HAD.out w2 HK2.out).mono ?_
  rintro e w3 ⟨rfl, hb3, ha3⟩
  have k3 := ha3.1
  have hnb : ¬ ((fun k => Ft k ∨ k = lb) w.heap.size) := by
    rintro (h | h)
    · have := HLT.out _ h; omega
    · omega
  have kc : ∀ o u, w2.cell? ⟨w.heap.size, o, none⟩ = some u → w3.cell? ⟨w.heap.size, o, none⟩ = some u := by
    intro o u hu
    have hsz : w.heap.size < w2.heap.size := by
      rcases Nat.lt_or_ge w.heap.size w2.heap.size with h | h
      · exact h
      · unfold World.cell? at hu
        rw [Array.getElem?_eq_none h] at hu
        simp at hu
    unfold World.cell? at hu ⊢
    rw [k3.block _ hsz hnb]
    exact hu
  refine hK _ _ ⟨kc 0 _ q0, kc 1 _ q1, kc 2 _ q2⟩ (fun hS => ?_)
  have HB3 := hide hb3
  have HA3 := hide (ha3.before HK2.out)
  clear hK K hS hb3 ha3 k3 hnb kc q0 q1 q2 HK2
  (try simp only [Act.put, List.setIfInBounds_toArray, List.set_cons_zero, List.set_cons_succ, List.getElem_toArray, List.getElem_cons_zero, List.getElem_cons_succ])
  iterate 2 (refine wpSch_take (v := ?_) rfl (by rfl) ?_ ?_; rotate_left; (· (intro w' hS; (try dsimp only at hS); go_simp; try with_reducible rfl)); (try simp only [Act.put, List.setIfInBounds_toArray, List.set_cons_zero, List.set_cons_succ, List.getElem_toArray, List.getElem_cons_zero, List.getElem_cons_succ]))
  refine wpSch_end ?_
  simp only [List.drop_succ_cons, List.drop_zero]
  go_wp2
  go_ret2
  exact ⟨rfl, HB3.out, HA3.out⟩
end
end Go.Proofs.YtodcnkbblippnaaGreatDoor
/- Walks: a new log: NewLog. -/
namespace Go.Proofs.YtodcnkbblippnaaGreatDoor
open Go.RowKit

section
variable {B b : Nat} {D : DS} {F : Nat → FC} {Ft : Nat → Prop} {n : Int}
/-- A log's first piece. -/
def headB (nm : List UInt8) (ahead : Int) : List UInt8 := intB ahead ++ sumB (sumOn (sum0 nm) (intB ahead))
theorem sum0_lt (nm : List UInt8) : sum0 nm < 4294967296 := sumOn_lt _ _ (by omega)
set_option maxRecDepth 100000 in
set_option maxHeartbeats 2000000 in
theorem newLog_any (w : World) (ahead : Int) (k : Nat) (D1 D2 : DS) (F1 F2 : Nat → FC) (e1 e2 : Int) (h : RepU w b D F Ft) (hlt : ∀ k, Ft k → k < w.heap.size) (hn : NumOk n) (hL : Lets B w) (ha : -9223372036854775808 ≤ ahead ∧ ahead ≤ 9223372036854775807)
    (hk : ¬ D.ids k) (hs : D.dir.length < 1099511627776 ∧ D.changes.length < 1099511627776) (h1 : dCreate D ⟨(nmOf 1 n).toArray⟩ k = (e1, D1)) (hF1 : upd F k ([], 0) = F1) (h2 : dAppend D1 F1 ⟨(nmOf 1 n).toArray⟩ ⟨(headB (nmOf 1 n) ahead).toArray⟩ = (e2, D2, F2))
    (hroom : -4611686018427387904 ≤ D1.n.room ∧ D1.n.room ≤ 9223372036854775807) (hu : usedL F1 D1.dir ≤ 4611686018427387904) (hp : 0 ≤ D1.n.part ∧ D1.n.part ≤ 9223372036854775807) (hl : ∀ f, lookup D1.dir ⟨(nmOf 1 n).toArray⟩ = some f → (F1 f).1.length + 12 ≤ 70368744177664)
    (hz : (dSize D2 F2 ⟨(nmOf 1 n).toArray⟩).1 ≤ 70368744177664 ∧ (dSize D1 F1 ⟨(nmOf 1 n).toArray⟩).1 ≤ 70368744177664) :
    Calls Tryz.prog 236 #[.pointer (some ⟨b, 0, none⟩), .int .i64 n, .int .i64 ahead] w fun e w' =>
      (e1 ≠ 0 ∧ e = .returned (.tuple #[.pointer none, .int .i64 e1]) ∧ AfterU w Ft w' b D1 F1) ∨
      (e1 = 0 ∧ e2 ≠ 0 ∧ e = .returned (.tuple #[.pointer none, .int .i64 e2]) ∧ AfterU w Ft w' b D2 F2) ∨
      (e1 = 0 ∧ e2 = 0 ∧ ∃ lb, e = .returned (.tuple #[.pointer (some ⟨lb, 0, none⟩), .int .i64 0]) ∧ w.heap.size ≤ lb ∧ FlBlk w' lb 237 (.pointer (some ⟨b, 0, none⟩)) ⟨(nmOf 1 n).toArray⟩ (sumOn (sum0 (nmOf 1 n)) (intB ahead)) ∧
        Chg Ft w w' ∧ ∃ Ft', RepU w' b D2 F2 Ft' ∧ (∀ k, Ft' k → k < w'.heap.size) ∧ (∀ k, Ft' k → Ft k ∨ w.heap.size ≤ k) ∧ ¬ Ft' lb) := by
  have LO := hide (logOf_any w b hn hL)
  have hs0 := sum0_lt (nmOf 1 n)
  obtain ⟨nm, hnm⟩ : ∃ nm, nmOf 1 n = nm := ⟨_, rfl⟩
  rw [hnm] at LO hs0 h1 h2 hl hz ⊢
  have CR : ∀ w' lb, Chg (fun _ => False) w w' → FlBlk w' lb 237 (.pointer (some ⟨b, 0, none⟩)) ⟨nm.toArray⟩ (sum0 nm) → _ := fun w' lb hc hf => createF hf (h.same hlt hc) k hk hs
  rw [h1, hF1] at CR
  have AD : ∀ w' lb Ft1, FlBlk w' lb 237 (.pointer (some ⟨b, 0, none⟩)) ⟨nm.toArray⟩ (sum0 nm) → RepU w' b D1 F1 Ft1 → (∀ k, Ft1 k → k < w'.heap.size) → ¬ Ft1 lb → _ :=
    fun w' lb Ft1 hf hr hlt1 hn1 => addF hf hs0 hr hlt1 hn1 (intB ahead) hroom hu hp (fun f hf => by have := hl f hf; rw [intB_length]; exact this) (by rw [intB_length]; omega) (by
      show (dSize (dAppend D1 F1 _ ⟨(headB nm ahead).toArray⟩).2.1 (dAppend D1 F1 _ ⟨(headB nm ahead).toArray⟩).2.2 _).1 ≤ _ ∧ _
      rw [h2]; exact hz)
  have e0 : intB ahead ++ sumB (sumOn (sum0 nm) (intB ahead)) = headB nm ahead := rfl
  rw [e0, h2] at AD
  have IB : ∀ w', _ := fun w' => intBytes_any w' ahead ha
  obtain ⟨l, hle⟩ : ∃ l, intB ahead = l := ⟨_, rfl⟩
  rw [hle] at AD IB ⊢
  obtain ⟨ok, hok⟩ : ∃ ok, addOk D1 F1 ⟨nm.toArray⟩ (headB nm ahead) = ok := ⟨_, rfl⟩
  rw [hok] at AD
  dsimp only at CR AD
  have HCR := hide CR
  have HAD := hide AD
  have HIB := hide IB
  have HLT := hide hlt
  clear CR AD IB h hlt hn hL hk hs h1 hF1 h2 hroom hu hp hl hz hnm hle hok e0 hs0 ha
  rcases Decidable.em (e1 = 0) with he1 | he1
  · subst he1
    go_enter Tryz.func236, Tryz.ntmps236
    go_wp2_with (first
      | (go_at_call 192; refine LO.out.mono ?_; rintro e w1 ⟨lb, rfl, hb, hc, hls⟩; have HB := hide hb; have HC := hide hc; have HLS := hide hls; clear hb hc hls)
      | (go_at_call 240; refine (HCR.out _ _ HC.out HB.out).mono ?_; rintro e w2 ⟨rfl, hA⟩; have HA := hide hA; clear hA))
    obtain ⟨hk2, Ft2, hr2, hl2, hf2⟩ := HA.out
    have hlb := HB.out.lt
    have hnF : ¬ Ft lb := fun h => by have := HLT.out lb h; have := HLS.out; omega
    have hnF2 : ¬ Ft2 lb := fun h => by rcases hf2 lb h with h | h; exact hnF h; omega
    have hb2 := HB.out.keep hk2 hnF
    have hsz2 := hk2.size
    refine wp_region_sch (fun _ => True) 10
      [(0, true), (1, true), (2, true), (3, true), (4, false), (5, false), (6, true), (7, true), (8, true), (9, true)] (by kernel_rfl) (by kernel_rfl) (fun _ _ _ _ _ h => h) trivial ?_
    have HB2 := hide hb2
    have HR2 := hide hr2
    have HL2 := hide hl2
    have HF2 := hide hf2
    have HK2 := hide hk2
    have HN2 := hide hnF2
    have HLB := hide hlb
    have HSZ := hide hsz2
    clear hb2 hr2 hl2 hf2 hk2 hnF hnF2 hlb hsz2 HA HCR
    iterate 4 (refine wpSch_take (v := ?_) rfl (by rfl) ?_ ?_; rotate_left; (· (intro w' hS; (try dsimp only at hS); go_simp; try with_reducible rfl)); (try simp only [Act.put, List.setIfInBounds_toArray, List.set_cons_zero, List.set_cons_succ, List.getElem_toArray, List.getElem_cons_zero, List.getElem_cons_succ]))
    refine wpSch_do rfl (by rfl) (fun K hK => ?_)
    go_simp
    refine (HIB.out w2.drew).mono ?_
    rintro e w3 ⟨rfl, hc3⟩
    refine hK _ _ trivial (fun hS => ?_)
    have hc3' : Chg (fun _ => False) w2 w3 := ⟨hc3.os, hc3.tape, hc3.output, hc3.size, hc3.block⟩
    have HC3 := hide hc3'
    clear hK K hS hc3 hc3'
    (try simp only [Act.put, List.setIfInBounds_toArray, List.set_cons_zero, List.set_cons_succ, List.getElem_toArray, List.getElem_cons_zero, List.getElem_cons_succ])
    refine wpSch_do rfl (by rfl) (fun K hK => ?_)
    go_simp
    refine (HAD.out w3 lb Ft2 (HB2.out.keep HC3.out (by simp)) (HR2.out.same HL2.out HC3.out) (fun k hk => Nat.lt_of_lt_of_le (HL2.out k hk) HC3.out.size) HN2.out).mono ?_
    rintro e w4 ⟨rfl, hb4, hk4, Ft4, hr4, hl4, hf4⟩
    refine hK _ _ trivial (fun hS => ?_)
    have HB4 := hide hb4
    have H4 : Hid (Chg Ft w w4 ∧ RepU w4 b D2 F2 Ft4 ∧ (∀ k, Ft4 k → k < w4.heap.size) ∧ (∀ k, Ft4 k → Ft k ∨ w.heap.size ≤ k) ∧ ¬ Ft4 lb) := by
      have a1 := HC.out.size
      have a2 := HSZ.out
      have a3 := HC3.out.size
      have a4 := HLB.out
      have a5 := HLS.out
      refine ⟨((((HC.out.mono fun _ _ h => h.elim).trans HK2.out (fun _ h _ => h)).trans HC3.out (fun _ h _ => h.elim)).trans hk4 (fun x hx hlt => ?_)), hr4, hl4, fun k hk => ?_, fun hx => ?_⟩
      · rcases hx with hx | rfl
        · exact (HF2.out x hx).resolve_right (by omega)
        · omega
      · rcases hf4 k hk with h | h
        · exact (HF2.out k h).imp id (fun h => by omega)
        · exact .inr (by omega)
      · rcases hf4 lb hx with h | h
        · exact HN2.out h
        · omega
    clear hK K hS hb4 hk4 hr4 hl4 hf4
    (try simp only [Act.put, List.setIfInBounds_toArray, List.set_cons_zero, List.set_cons_succ, List.getElem_toArray, List.getElem_cons_zero, List.getElem_cons_succ])
    iterate 4 (refine wpSch_take (v := ?_) rfl (by rfl) ?_ ?_; rotate_left; (· (intro w' hS; (try dsimp only at hS); go_simp; try with_reducible rfl)); (try simp only [Act.put, List.setIfInBounds_toArray, List.set_cons_zero, List.set_cons_succ, List.getElem_toArray, List.getElem_cons_zero, List.getElem_cons_succ]))
    refine wpSch_end ?_
    simp only [List.drop_succ_cons, List.drop_zero]
    rcases Decidable.em (e2 = 0) with he2 | he2
    · subst he2
      go_wp2
      go_ret2
      exact ⟨lb, rfl, HLS.out, HB4.out, H4.out.1, Ft4, H4.out.2.1, H4.out.2.2.1, H4.out.2.2.2.1, H4.out.2.2.2.2⟩
    · go_wp2
      go_ret2
      exact .inr (.inl ⟨trivial, he2, rfl, H4.out.1, Ft4, H4.out.2.1, H4.out.2.2.1, H4.out.2.2.2.1⟩)
  · go_enter Tryz.func236, Tryz.ntmps236
    go_wp2_with (first
      | (go_at_call 192; refine LO.out.mono ?_; rintro e w1 ⟨lb, rfl, hb, hc, hls⟩; have HB := hide hb; have HC := hide hc; have HLS := hide hls; clear hb hc hls)
      | (go_at_call 240; refine (HCR.out _ _ HC.out HB.out).mono ?_; rintro e w2 ⟨rfl, hA⟩; have HA := hide hA; clear hA))
    go_ret2
    exact .inl ⟨he1, rfl, HA.out.before HC.out⟩
end
end Go.Proofs.YtodcnkbblippnaaGreatDoor
/- Walks: a log is read: ReadLog, whatever its bytes are. -/
namespace Go.Proofs.YtodcnkbblippnaaGreatDoor
open Go.RowKit
attribute [local go_sem ↓] Go.wp_at_zero Go.wp_at_succ

/-- What the pieces of a log tell from the sum s on: the Puts, and whether none of them is spoilt. -/
def readP : Nat → Nat → List UInt8 → List Pu × Bool
  | 0, _, _ => ([], true)
  | k + 1, s, l => if l.length < 21 then ([], true) else
    if sumB (sumOn s (l.take 17)) = (l.drop 17).take 4 ∧ (l.headD 0).toNat < 8 then
      ((((l.headD 0).toNat : Int), intN (l.drop 1), intN (l.drop 9)) :: (readP k (sumOn s (l.take 17)) (l.drop 21)).1, (readP k (sumOn s (l.take 17)) (l.drop 21)).2)
    else ([], false)
theorem readP_short {k s : Nat} {l : List UInt8} (h : l.length < 21) : readP k s l = ([], true) := by cases k <;> simp [readP, h]
theorem readP_good {k s : Nat} {b : UInt8} {d t r : List UInt8} (hd : d.length = 16) (ht : t.length = 4) (h : sumB (sumOn s (b :: d)) = t) (hb : b.toNat < 8) :
    readP (k + 1) s (b :: d ++ t ++ r) = (((b.toNat : Int), intN d, intN (d.drop 8)) :: (readP k (sumOn s (b :: d)) r).1, (readP k (sumOn s (b :: d)) r).2) := by
  have e1 : (b :: d ++ t ++ r).take 17 = b :: d := by simp [hd]
  have e2 : ((b :: d ++ t ++ r).drop 17).take 4 = t := by simp [hd, ht]
  have e3 : (b :: d ++ t ++ r).drop 21 = r := by
    rw [List.drop_append, List.drop_of_length_le (by simp [hd, ht])]; simp [hd, ht]
  have e4 : intN ((b :: d ++ t ++ r).drop 1) = intN d := by
    have e : (b :: d ++ t ++ r).drop 1 = d ++ (t ++ r) := by simp
    unfold intN; rw [e, List.take_append_of_le_length (by omega)]
  have e5 : intN ((b :: d ++ t ++ r).drop 9) = intN (d.drop 8) := by
    have e : (b :: d ++ t ++ r).drop 9 = d.drop 8 ++ (t ++ r) := by
      simp only [List.cons_append, List.append_assoc, List.drop_succ_cons]
      rw [List.drop_append_of_le_length (by omega)]
    unfold intN; rw [e, List.take_append_of_le_length (by simp; omega)]
  simp only [readP, e1, e2, e3, e4, e5]
  rw [if_neg (by simp [hd, ht]; omega), if_pos (by simpa using ⟨h, hb⟩)]
  rfl
theorem readP_bad {k s : Nat} {b : UInt8} {d t r : List UInt8} (hd : d.length = 16) (ht : t.length = 4) (h : ¬ (sumB (sumOn s (b :: d)) = t ∧ b.toNat < 8)) :
    readP (k + 1) s (b :: d ++ t ++ r) = ([], false) := by
  have e1 : (b :: d ++ t ++ r).take 17 = b :: d := by simp [hd]
  have e2 : ((b :: d ++ t ++ r).drop 17).take 4 = t := by simp [hd, ht]
  simp only [readP, e1, e2]
  rw [if_neg (by simp [hd, ht]; omega), if_neg (by simpa using h)]
theorem log_split {l : List UInt8} (h : 21 ≤ l.length) : ∃ (b : UInt8) (d t r : List UInt8), l = b :: d ++ t ++ r ∧ d.length = 16 ∧ t.length = 4 := by
  cases l with
  | nil => simp at h
  | cons b l =>
    simp at h
    refine ⟨b, l.take 16, (l.drop 16).take 4, l.drop 20, ?_, by simp; omega, by simp; omega⟩
    simp only [List.cons_append, List.append_assoc, List.cons.injEq, true_and]
    rw [show l.drop 20 = (l.drop 16).drop 4 by simp, List.take_append_drop, List.take_append_drop]
theorem head_split {l : List UInt8} (h : 12 ≤ l.length) : ∃ (d t r : List UInt8), l = d ++ t ++ r ∧ d.length = 8 ∧ t.length = 4 := by
  refine ⟨l.take 8, (l.drop 8).take 4, l.drop 12, ?_, by simp; omega, by simp; omega⟩
  rw [List.append_assoc, show l.drop 12 = (l.drop 8).drop 4 by simp, List.take_append_drop, List.take_append_drop]
/-- What a log tells: its Puts, and the error. -/
def readN (s : Nat) (ahead : Int) (l : List UInt8) : List Pu × Int :=
  if l.length < 12 then ([], 0) else
  if sumB (sumOn s (l.take 8)) = (l.drop 8).take 4 ∧ intN l = ahead then
    (if (readP l.length (sumOn s (l.take 8)) (l.drop 12)).2 = true then ((readP l.length (sumOn s (l.take 8)) (l.drop 12)).1, 0) else ([], 7))
  else ([], 7)
theorem readN_split {s : Nat} {ahead : Int} {d t r : List UInt8} (hd : d.length = 8) (ht : t.length = 4) :
    readN s ahead (d ++ t ++ r) = if sumB (sumOn s d) = t ∧ intN d = ahead then (if (readP (r.length + 12) (sumOn s d) r).2 = true then ((readP (r.length + 12) (sumOn s d) r).1, 0) else ([], 7)) else ([], 7) := by
  have e1 : (d ++ t ++ r).take 8 = d := by simp [hd]
  have e2 : ((d ++ t ++ r).drop 8).take 4 = t := by simp [hd, ht]
  have e3 : (d ++ t ++ r).drop 12 = r := by
    rw [List.drop_append, List.drop_of_length_le (by simp [hd, ht])]; simp [hd, ht]
  have e4 : intN (d ++ t ++ r) = intN d := by unfold intN; rw [List.append_assoc, List.take_append_of_le_length (by omega)]
  have e5 : (d ++ t ++ r).length = r.length + 12 := by simp [hd, ht]; omega
  unfold readN
  rw [if_neg (by simp [hd, ht]; omega), e1, e2, e3, e4, e5]
/-- Puts in memory. -/
def PfSl (w : World) (v : Value) (l : List Pu) : Prop := w.ownsRow 0 113 3 v l.length (puVals l)
theorem info_put_f : (Tryz.prog.info? 113).map (fun i => (i.zero, i.size, i.bytes)) = some (some (.agg #[.int .i64 0, .int .i64 0, .int .i64 0]), 3, 24) := by kernel_rfl
end Go.Proofs.YtodcnkbblippnaaGreatDoor
