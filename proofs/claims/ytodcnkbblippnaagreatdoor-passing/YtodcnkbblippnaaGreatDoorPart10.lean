/-
  The statement PassingCardSaid is proved: the law Passing answers true, at every four numbers; there is no condition.
  Part 10 of 34.
-/
import Derived.Test.YtodcnkbblippnaaGreatDoorPart09
import Derived.Test.YtodcnkbblippnaaGreatDoorShelf
import Derived.Lib.ItoaLen
import Derived.Test.YtodcnkbblippnaaGreatDoorPart02
import Derived.Test.YtodcnkbblippnaaGreatDoorPart05
import Derived.Test.YtodcnkbblippnaaGreatDoorPart06
import Derived.Test.YtodcnkbblippnaaGreatDoorProg
import Derived.Conc.RwLib
import Derived.Conc.MuLone
import Derived.KernelRfl
/- Walks: a file's name: NameOf. -/
namespace Go.Proofs.YtodcnkbblippnaaGreatDoor
open Go.RowKit

theorem Chg.ofGrow {S : Nat → Prop} {w : World} (k : Nat) (os : Array Obj) : Chg S w (Go.Sort.grow (w.drewN k) os) :=
  ⟨rfl, rfl, rfl, (by show w.heap.size ≤ (w.heap ++ os).size; simp), fun j hj _ => (by show (w.heap ++ os)[j]? = _; rw [Array.getElem?_append_left hj])⟩
/-- A file's name: its letter, then its number, padded. -/
def nameL (lt : List UInt8) (n : Int) : List UInt8 := lt ++ Lib.repeatL [48] (19 - (Lib.itoa n).length) ++ Lib.itoa n
/-- The letter of a sort. -/
def ltr (s : Int) : List UInt8 := if s = 1 then [108] else if s = 2 then [115] else if s = 3 then [105] else if s = 4 then [100] else []
/-- A file's name, of whichever sort. -/
def nmOf (s n : Int) : List UInt8 := if s = 1 ∨ s = 2 then nameL (ltr s) n else ltr s
set_option maxRecDepth 100000 in
set_option maxHeartbeats 1000000 in
theorem isNumbered_any (w : World) (s : Int) : Calls Tryz.prog 133 #[.int .i64 s] w fun e w' => e = .returned (.bool (decide (s = 1 ∨ s = 2))) ∧ w = w' := by
  go_enter Tryz.func133, Tryz.ntmps133
  by_cases h1 : s = 1
  · subst h1
    go_wp2
    go_ret
    exact ⟨rfl, rfl⟩
  · by_cases h2 : s = 2
    · subst h2
      go_wp2
      go_ret
      exact ⟨rfl, rfl⟩
    · go_wp2
      go_ret
      exact ⟨by simp [h1, h2], rfl⟩
set_option maxRecDepth 100000 in
set_option maxHeartbeats 1000000 in
theorem nameOf_any (w : World) (s : Int) (k : Nat) (hs : s = k ∧ (k = 1 ∨ k = 2)) (lt : List UInt8) (n : Int) (hn : -9223372036854775808 ≤ n ∧ n ≤ 9223372036854775807) (hlt : lt.length ≤ 1000) (hd : (Lib.itoa n).length ≤ 19)
    (hl : w.cell? ⟨0, k, none⟩ = some (.string ⟨lt.toArray⟩)) (htab : Lib.TabIs Tryz.prog w "internal/strconv.uint64pow10" .u64 Lib.pow10Tab) :
    Calls Tryz.prog 134 #[.int .i64 s, .int .i64 n] w fun e w' => e = .returned (.string ⟨(nameL lt n).toArray⟩) ∧ Chg (fun _ => False) w w' := by
  obtain ⟨rfl, hk⟩ := hs
  obtain ⟨hn1, hn2⟩ := hn
  have hk1 : (k : Int) < 5 := by omega
  have hnk : (k : Int) = 1 ∨ (k : Int) = 2 := by omega
  have hdk : decide ((k : Int) = 1 ∨ (k : Int) = 2) = true := decide_eq_true hnk
  have IT := hide (Tryz.strconv_Itoa n hn1 hn2 w htab)
  have RP : ∀ w', _ := fun w' => Tryz.strings_Repeat ⟨#[48]⟩ (19 - (Lib.itoa n).length) w' (by omega) (by show 1 * _ ≤ _; omega)
  have HRP := hide RP
  have hnm : Hid (nameL lt n = lt ++ Lib.repeatL [48] (19 - (Lib.itoa n).length) ++ Lib.itoa n) := rfl
  have hrl := Lib.repeatL_length [48] (19 - (Lib.itoa n).length)
  obtain ⟨dg, hdg⟩ : ∃ dg, Lib.itoa n = dg := ⟨_, rfl⟩
  rw [hdg] at IT hd HRP hnm hrl
  clear RP hdg htab
  obtain ⟨c, hc, hcl⟩ : ∃ c : Nat, 19 - dg.length = c ∧ dg.length + c = 19 := ⟨_, rfl, by omega⟩
  rw [hc] at HRP hnm hrl
  clear hc
  obtain ⟨rp, hrp⟩ : ∃ rp, Lib.repeatL [48] c = rp := ⟨_, rfl⟩
  have HRP2 : Hid (∀ w' : World, Calls Tryz.prog 174 #[.string ⟨#[48]⟩, .int .i64 (c : Int)] w' fun e w'' => e = .returned (.string ⟨rp.toArray⟩) ∧ Below w'.heap.size w' w'') := by
    rw [← hrp]; exact HRP.out
  rw [hrp] at hnm hrl
  clear hrp HRP
  have hrl2 : rp.length ≤ 19 := by rw [hrl]; simp; omega
  clear hrl
  obtain ⟨nm, hnm2⟩ : ∃ nm, nameL lt n = nm := ⟨_, rfl⟩
  rw [hnm2] at hnm ⊢
  have HL := hide hl
  clear hnm2 hl
  go_enter Tryz.func134, Tryz.ntmps134
  go_wp2_with (fail)
  refine (isNumbered_any w k).mono ?_
  rintro e w0 ⟨rfl, rfl⟩
  rw [hdk]
  have HK1 := hide hk
  have HK2 := hide hnk
  have HK3 := hide hk1
  clear hk hnk hk1 hdk
  go_wp2_with (go_at_call 173; refine IT.out.mono ?_; rintro e w1 ⟨rfl, hw⟩; have HW := hide hw; clear hw)
  have HC1 : Hid (Chg (fun _ => False) w w1) := by
    obtain ⟨k, os, he⟩ := HW.out
    rw [he]; exact Chg.ofGrow k os
  have HL1 := hide (HC1.out.cellKeep HL.out)
  clear HW IT HL
  refine wp_region_each 10 (fun y => { tmps := #[.int .i64 k, .int .i64 n, undef, undef, .string ⟨#[]⟩, .string ⟨dg.toArray⟩, .int .i64 k, .bool true, .bool false, undef, undef, undef, .int .i64 n, .string ⟨dg.toArray⟩, y 0, y 1, y 2, y 3, y 4, y 5, y 6, y 7, y 8, y 9], defers := [] }) (fun _ => undef)
    (fun w' => w'.cell? ⟨0, k, none⟩ = some (.string ⟨lt.toArray⟩) ∧ Chg (fun _ => False) w1 w') (Chg (fun _ => False))
    (fun j x w' => match j with
      | 0 => x = .int .i64 k
      | 1 => x = .pointer (some ⟨0, k, none⟩)
      | 2 => x = .string ⟨lt.toArray⟩
      | 3 => x = .string ⟨dg.toArray⟩
      | 4 => x = .int .i64 dg.length
      | 5 => x = .int .i64 (c : Int)
      | 6 => x = .string ⟨rp.toArray⟩
      | 7 => x = .string ⟨(lt ++ rp).toArray⟩
      | 8 => x = .string ⟨dg.toArray⟩
      | 9 => x = .string ⟨nm.toArray⟩
      | _ => True)
    (by kernel_rfl) (by kernel_rfl) rfl ?_ ?_ ?_ ?_
  · exact ⟨HL1.out, (Chg.refl _ _).drew⟩
  · intro j x w1 w2 hR hS' hG
    split at hG <;> exact hG
  · clear HL1
    simp only [List.take_succ_cons, List.take_zero, EachOb, and_true]
    repeat' (with_reducible apply And.intro)
    all_goals refine ⟨?_, (by intro y wx _ _ h; exact Bool.noConfusion h), fun y x => rfl⟩
    all_goals
      intro y wx hS hd hw K hK
      clear hw
      obtain ⟨c0, hS2⟩ := hS
      simp [depsOf, Region.binds, DepsG, List.filter_cons] at hd
      have hk5 := HK3.out
      have hk0 : (0 : Int) ≤ (k : Int) := Int.natCast_nonneg _
      have ap1 := append_mk lt rp
      have g1 : ¬ (9223372036854775807 < lt.length + rp.length) := by omega
      have g2 : ¬ (9223372036854775807 < lt.length + rp.length + dg.length) := by omega
      have g3 : ¬ (9223372036854775807 < lt.length + (rp.length + dg.length)) := by omega
      have ap2 : (ByteArray.mk (lt ++ rp).toArray) ++ (ByteArray.mk dg.toArray) = ⟨nm.toArray⟩ := by rw [append_mk, hnm.out]
      have ew : IntKind.i64.wrap (c : Int) = c := by simp [IntKind.wrap, IntKind.bits, IntKind.signed]; omega
      have ew2 : (19 : Int) - (dg.length : Int) = (c : Int) := by omega
      have HS : Hid (wx.cell? ⟨0, k, none⟩ = some (.string ⟨lt.toArray⟩) ∧ Chg (fun _ => False) w1 wx) := ⟨c0, hS2⟩
      have HK := hide hK
      clear hS2 hK
    all_goals dsimp only
    all_goals try go_simp
    all_goals try with_reducible exact HK.out _ _ _ rfl (by simp [Act.put, hd]) (Chg.refl _ _) HS.out
    all_goals try
      have hd5 : y 5 = .int .i64 (c : Int) := by with_reducible exact hd
      clear hd5
      refine (HRP2.out wx).mono ?_
      rintro e w2 ⟨rfl, hb⟩
      have hc : Chg (fun _ => False) wx w2 := Chg.ofBelow hb
      exact HK.out _ _ _ rfl (by simp [Act.put, hd]) hc ⟨hc.cellKeep HS.out.1, HS.out.2.trans hc (fun _ h _ => h)⟩
  · intro y wx hS hG
    have h9 : y 9 = .string ⟨nm.toArray⟩ := hG 9 (by omega)
    have HS := hide hS
    clear hG hS HL1
    go_wp2
    go_ret
    exact ⟨rfl, HC1.out.trans HS.out.2 (fun _ h _ => h)⟩
set_option maxRecDepth 100000 in
set_option maxHeartbeats 1000000 in
/-- .. of a sort of which there is one alone. -/
theorem nameOf_lone (w : World) (k : Nat) (hk : k = 3 ∨ k = 4) (lt : List UInt8) (n : Int) (hl : w.cell? ⟨0, k, none⟩ = some (.string ⟨lt.toArray⟩)) :
    Calls Tryz.prog 134 #[.int .i64 k, .int .i64 n] w fun e w' => e = .returned (.string ⟨lt.toArray⟩) ∧ w = w' := by
  have hk1 : (k : Int) < 5 := by omega
  have hk0 : (0 : Int) ≤ (k : Int) := Int.natCast_nonneg _
  have hdk : decide ((k : Int) = 1 ∨ (k : Int) = 2) = false := decide_eq_false (by omega)
  go_enter Tryz.func134, Tryz.ntmps134
  go_wp2_with (fail)
  refine (isNumbered_any w k).mono ?_
  rintro e w0 ⟨rfl, rfl⟩
  rw [hdk]
  clear hk hdk
  go_wp2
  go_ret
  exact ⟨rfl, rfl⟩
end Go.Proofs.YtodcnkbblippnaaGreatDoor
/- Walks: a store keeps a point: keep. -/
namespace Go.Proofs.YtodcnkbblippnaaGreatDoor
open Go.RowKit

theorem RowTo.before {w w1 w' : World} {b o : Nat} {cs : Array Value} {T : Nat} {lv lv' : Value} {L' : List Pt} (h : RowTo w1 w' b o cs T lv L' lv') (hc : Chg (fun _ => False) w w1) : RowTo w w' b o cs T lv L' lv' :=
  ⟨h.row, (hc.mono fun _ _ h => h.elim).trans h.chg fun _ h _ => h, fun g hg => (h.own g hg).imp id fun h => Nat.le_trans hc.size h⟩
set_option maxRecDepth 100000 in
set_option maxHeartbeats 1000000 in
theorem keep_any (w : World) (sb sr : Nat) (cs : Array Value) (T : Nat) (hT : T ≠ 70) (clock life t v : Int) (L : List Pt) (lv : Value) (hsr : sr < 8) (h : RowIn w sb (7 + sr) cs T L lv) (hsm : L.length < 1099511627775)
    (h3 : cs[3]? = some (.int .i64 life)) (h4 : cs[5]? = some (.int .i64 clock)) (hl : 1 ≤ life ∧ life ≤ 4611686018427387904) (hc : In64 clock) :
    Calls Tryz.prog 60 #[.pointer (some ⟨sb, 0, none⟩), .agg #[.int .i64 sr, .int .i64 t, .int .i64 v]] w fun e w' => e = .returned (.tuple #[]) ∧
      ((oldestN clock life ≤ t ∧ ∃ lv', RowTo w w' sb (7 + sr) cs T lv (insP L t v) lv') ∨ (t < oldestN clock life ∧ Chg (fun _ => False) w w')) := by
  have c3 : w.cell? ⟨sb, 3, none⟩ = some (.int .i64 life) := by simp [World.cell?, h.blk, h3]
  have c4 : w.cell? ⟨sb, 5, none⟩ = some (.int .i64 clock) := by simp [World.cell?, h.blk, h4]
  have OL : ∀ w', Chg (fun _ => False) w w' → _ := fun w' hk => oldest_any w' sb clock life (hk.cellKeep c3) (hk.cellKeep c4) hl hc
  obtain ⟨o, ho⟩ : ∃ o, oldestN clock life = o := ⟨_, rfl⟩
  rw [ho] at OL ⊢
  have PU : ∀ w', Chg (fun _ => False) w w' → _ := fun w' hk => put_row w' sb (7 + sr) cs T hT L lv t v (h.chg hk) hsm
  have HOL := hide OL
  have HPU := hide PU
  clear OL PU ho h3 h4 hl hc h hsm hT c3 c4
  go_enter Tryz.func60, Tryz.ntmps60
  go_wp2
  have hb : (w.alloc (.cells #[.int .i64 sr, .int .i64 t, .int .i64 v] 113)).heap[w.heap.size]? = some (.cells #[.int .i64 sr, .int .i64 t, .int .i64 v] 113 (0, 0)) := by show (w.heap.push _)[w.heap.size]? = _; rw [Array.getElem?_push_size]
  have HB0 : Hid ((w.alloc (.cells #[.int .i64 sr, .int .i64 t, .int .i64 v] 113)).heap[w.heap.size]? = some (.cells #[.int .i64 sr, .int .i64 t, .int .i64 v] 113 (0, 0)) ∧ Chg (fun _ => False) w (w.alloc (.cells #[.int .i64 sr, .int .i64 t, .int .i64 v] 113))) := ⟨hb, (Chg.refl _ w).alloc _⟩
  clear hb
  generalize (w.alloc (.cells #[.int .i64 sr, .int .i64 t, .int .i64 v] 113)) = w1 at HB0 ⊢
  refine wp_region_each 5 (fun y => { tmps := #[.pointer (some ⟨sb, 0, none⟩), .agg #[.int .i64 sr, .int .i64 t, .int .i64 v], undef, .pointer (some ⟨w.heap.size, 0, none⟩), y 0, y 1, y 2, y 3, y 4, undef, undef, undef, undef, undef, undef, undef, undef, undef, undef], defers := [] }) (fun _ => undef)
    (fun w' => w'.heap[w.heap.size]? = some (.cells #[.int .i64 sr, .int .i64 t, .int .i64 v] 113 (0, 0)) ∧ Chg (fun _ => False) w w') (Chg (fun _ => False))
    (fun j x w' => match j with
      | 0 => x = .pointer (some ⟨w.heap.size, 1, none⟩)
      | 1 => x = .pointer (some ⟨w.heap.size, 1, none⟩)
      | 2 => x = .int .i64 t
      | 3 => x = .pointer (some ⟨sb, 0, none⟩)
      | 4 => x = .int .i64 o
      | _ => True)
    (by kernel_rfl) (by kernel_rfl) rfl ?_ ?_ ?_ ?_
  · exact ⟨HB0.out.1, HB0.out.2.drew⟩
  · intro j x w1 w2 hR hS' hG
    split at hG <;> exact hG
  · clear HB0
    simp only [List.take_succ_cons, List.take_zero, EachOb, and_true]
    repeat' (with_reducible apply And.intro)
    all_goals refine ⟨?_, (by intro y wx _ _ h; exact Bool.noConfusion h), fun y x => rfl⟩
    all_goals
      intro y wx hS hd hw K hK
      clear hw
      obtain ⟨hS1, hS2⟩ := hS
      simp [depsOf, Region.binds, DepsG, List.filter_cons] at hd
      have p1 : wx.cell? ⟨w.heap.size, 1, none⟩ = some (.int .i64 t) := by simp [World.cell?, hS1]
      have HS : Hid (wx.heap[w.heap.size]? = some (.cells #[.int .i64 sr, .int .i64 t, .int .i64 v] 113 (0, 0)) ∧ Chg (fun _ => False) w wx) := ⟨hS1, hS2⟩
      have HK := hide hK
      clear hS1 hS2 hK
    all_goals dsimp only
    all_goals try go_simp
    all_goals try with_reducible exact HK.out _ _ _ rfl (by simp [Act.put, hd]) (Chg.refl _ _) HS.out
    all_goals
      refine (HOL.out wx HS.out.2).mono ?_
      rintro e w2 ⟨rfl, hk⟩
      exact HK.out _ _ _ rfl (by simp [Act.put, hd]) hk ⟨hk.keep HS.out.1 (by simp), HS.out.2.trans hk (fun _ h _ => h)⟩
  · intro y wx hS hG
    have h2 : y 2 = .int .i64 t := hG 2 (by omega)
    have h4 : y 4 = .int .i64 o := hG 4 (by omega)
    have p0 : wx.cell? ⟨w.heap.size, 0, none⟩ = some (.int .i64 sr) := by simp [World.cell?, hS.1]
    have p1 : wx.cell? ⟨w.heap.size, 1, none⟩ = some (.int .i64 t) := by simp [World.cell?, hS.1]
    have p2 : wx.cell? ⟨w.heap.size, 2, none⟩ = some (.int .i64 v) := by simp [World.cell?, hS.1]
    have HS := hide hS
    clear hG hS HB0
    have hsrI : (sr : Int) < 8 := by omega
    by_cases hot : o ≤ t
    · go_wp2
      refine wp_region_sch (fun w' => w'.cell? ⟨w.heap.size, 0, none⟩ = some (.int .i64 sr) ∧ w'.cell? ⟨w.heap.size, 1, none⟩ = some (.int .i64 t) ∧ w'.cell? ⟨w.heap.size, 2, none⟩ = some (.int .i64 v)) 8
        [(0, true), (1, true), (2, true), (3, true), (4, true), (5, true), (6, true), (7, true)] (by kernel_rfl) (by kernel_rfl) (fun _ _ _ _ _ h => h) ⟨p0, p1, p2⟩ ?_
      iterate 8 (refine wpSch_take (v := ?_) rfl (by rfl) ?_ ?_; rotate_left; (· (intro w' hS; (try dsimp only at hS); go_simp; try with_reducible rfl)); (try simp only [Act.put, List.setIfInBounds_toArray, List.set_cons_zero, List.set_cons_succ, List.getElem_toArray, List.getElem_cons_zero, List.getElem_cons_succ]))
      refine wpSch_end ?_
      simp only [List.drop_succ_cons, List.drop_zero]
      have PU2 := hide (HPU.out wx.drew HS.out.2.drew)
      clear HPU HOL
      go_wp2_with (go_at_call 102; refine PU2.out.mono ?_; rintro e w2 ⟨rfl, lv', hR⟩; have HR := hide hR; clear hR)
      go_end0
      first | exact ⟨rfl, lv', HR.out.before HS.out.2.drew⟩ | exact ⟨rfl, .inl ⟨lv', HR.out.before HS.out.2.drew⟩⟩ | exact ⟨rfl, .inl ⟨hot, lv', HR.out.before HS.out.2.drew⟩⟩
    · have hlt : t < o := by omega
      go_wp2
      go_end0
      exact ⟨rfl, .inr HS.out.2⟩
end Go.Proofs.YtodcnkbblippnaaGreatDoor
/- The mutex: where this program holds it (numbers), and that it is the library's own. No walk. -/
namespace Go.Proofs.YtodcnkbblippnaaGreatDoor
abbrev Tryz.muLink : Go.Conc.Locks.MuLink := { lock := 61, unlock := 62, ilock := 103, iunlock := 104, lockSlow := 144, unlockSlow := 147, disable := 140, enable := 142, acquire := 143, relMerge := 145, cas32 := 141, add32 := 146, tMutex := 106, tIMutex := 104, tPMutex := 167, tPIMutex := 213, tPI32 := 215, tUP := 217, tNoCopy := 101, tU32 := 102 }
theorem Tryz.muLib : Go.Conc.Locks.MuLib Tryz.prog Tryz.muLink :=
  ⟨Tryz.func61, Tryz.func62, Tryz.func103, Tryz.func104, Tryz.func140, Tryz.func142, Tryz.func143, Tryz.func145, Tryz.func141, Tryz.func146,
   Tryz.underlying104, Tryz.runUnderlying104, Tryz.sizeOf104, Tryz.isAgg104, Tryz.zeroValue104,
   Tryz.underlying106, Tryz.runUnderlying106, Tryz.sizeOf106, Tryz.isAgg106, Tryz.zeroValue106,
   Tryz.underlying167, Tryz.runUnderlying167, Tryz.sizeOf167, Tryz.isAgg167, Tryz.zeroValue167,
   Tryz.underlying213, Tryz.runUnderlying213, Tryz.sizeOf213, Tryz.isAgg213, Tryz.zeroValue213,
   Tryz.underlying215, Tryz.runUnderlying215, Tryz.sizeOf215, Tryz.isAgg215, Tryz.zeroValue215,
   Tryz.underlying217, Tryz.runUnderlying217, Tryz.sizeOf217, Tryz.isAgg217, Tryz.zeroValue217,
   Tryz.underlying101, Tryz.runUnderlying101, Tryz.sizeOf101, Tryz.isAgg101, Tryz.zeroValue101,
   Tryz.underlying21, Tryz.runUnderlying21, Tryz.sizeOf21, Tryz.isAgg21, Tryz.zeroValue21, (by kernel_rfl)⟩
end Go.Proofs.YtodcnkbblippnaaGreatDoor
/- The store's block, its rows, and the mutex about each call. No walk. -/
namespace Go.Proofs.YtodcnkbblippnaaGreatDoor
open Go.RowKit

/-- The cells of a store. -/
def stCells (mu : Int) (jv : Value) (life win clock : Int) (ro : Bool) (lv : Nat → Value) : Array Value :=
  #[.int .i32 mu, .int .u32 0, jv, .int .i64 life, .int .i64 win, .int .i64 clock, .bool ro, lv 0, lv 1, lv 2, lv 3, lv 4, lv 5, lv 6, lv 7]
def SBlk (w : World) (sb : Nat) (mu : Int) (jv : Value) (life win clock : Int) (ro : Bool) (lv : Nat → Value) : Prop :=
  w.heap[sb]? = some (.cells (stCells mu jv life win clock ro lv) 111 (0, 0))
section
variable {w : World} {sb : Nat} {mu : Int} {jv : Value} {life win clock : Int} {ro : Bool} {lv : Nat → Value}
theorem SBlk.c0 (h : SBlk w sb mu jv life win clock ro lv) : w.cell? ⟨sb, 0, none⟩ = some (.int .i32 mu) := by unfold SBlk at h; simp [World.cell?, h, stCells]
theorem SBlk.c2 (h : SBlk w sb mu jv life win clock ro lv) : w.cell? ⟨sb, 2, none⟩ = some jv := by unfold SBlk at h; simp [World.cell?, h, stCells]
theorem SBlk.c3 (h : SBlk w sb mu jv life win clock ro lv) : w.cell? ⟨sb, 3, none⟩ = some (.int .i64 life) := by unfold SBlk at h; simp [World.cell?, h, stCells]
theorem SBlk.cW (h : SBlk w sb mu jv life win clock ro lv) : w.cell? ⟨sb, 4, none⟩ = some (.int .i64 win) := by unfold SBlk at h; simp [World.cell?, h, stCells]
theorem SBlk.cK (h : SBlk w sb mu jv life win clock ro lv) : w.cell? ⟨sb, 5, none⟩ = some (.int .i64 clock) := by unfold SBlk at h; simp [World.cell?, h, stCells]
theorem SBlk.cR (h : SBlk w sb mu jv life win clock ro lv) : w.cell? ⟨sb, 6, none⟩ = some (.bool ro) := by unfold SBlk at h; simp [World.cell?, h, stCells]
theorem SBlk.fz (h : SBlk w sb mu jv life win clock ro lv) (o : Nat) : w.frozen? ⟨sb, o, none⟩ = false := by unfold SBlk at h; simp [World.frozen?, h]
theorem SBlk.lt (h : SBlk w sb mu jv life win clock ro lv) : sb < w.heap.size := lt_of_block h
theorem SBlk.chg {S : Nat → Prop} {w' : World} (h : SBlk w sb mu jv life win clock ro lv) (hg : Chg S w w') (hr : ¬ S sb) : SBlk w' sb mu jv life win clock ro lv := (hg.block sb h.lt hr).trans h
theorem SBlk.s0 (h : SBlk w sb mu jv life win clock ro lv) (x : Int) : SBlk (w.setCell ⟨sb, 0, none⟩ (.int .i32 x)) sb x jv life win clock ro lv := heap_setCell_at h
theorem SBlk.sK (h : SBlk w sb mu jv life win clock ro lv) (x : Int) : SBlk (w.setCell ⟨sb, 5, none⟩ (.int .i64 x)) sb mu jv life win x ro lv := heap_setCell_at h
theorem SBlk.sR (h : SBlk w sb mu jv life win clock ro lv) (x : Bool) : SBlk (w.setCell ⟨sb, 6, none⟩ (.bool x)) sb mu jv life win clock x lv := heap_setCell_at h
theorem stCells_row {mu : Int} {jv : Value} {life win clock : Int} {ro : Bool} {lv : Nat → Value} {k : Nat} (hk : k < 8) : (stCells mu jv life win clock ro lv)[7 + k]? = some (lv k) := by
  match k, hk with
  | 0, _ => rfl
  | 1, _ => rfl
  | 2, _ => rfl
  | 3, _ => rfl
  | 4, _ => rfl
  | 5, _ => rfl
  | 6, _ => rfl
  | 7, _ => rfl
def updR (lv : Nat → Value) (k : Nat) (v : Value) : Nat → Value := fun i => if i = k then v else lv i
theorem stCells_set {mu : Int} {jv : Value} {life win clock : Int} {ro : Bool} {lv : Nat → Value} {k : Nat} (hk : k < 8) (v : Value) : (stCells mu jv life win clock ro lv).setIfInBounds (7 + k) v = stCells mu jv life win clock ro (updR lv k v) := by
  match k, hk with
  | 0, _ => rfl
  | 1, _ => rfl
  | 2, _ => rfl
  | 3, _ => rfl
  | 4, _ => rfl
  | 5, _ => rfl
  | 6, _ => rfl
  | 7, _ => rfl
end
/-- What the rows hold, and where. -/
structure RowsAt (w : World) (lv : Nat → Value) (L : Nat → List Pt) : Prop where
  row : ∀ k, k < 8 → PtSl w (lv k) (L k)
  sorted : ∀ k, k < 8 → Sorted (L k)
  small : ∀ k, k < 8 → (L k).length < 1099511627775
  sep : ∀ i j, i < 8 → j < 8 → i ≠ j → ∀ g, (lv i).ownBlock = some g → (lv j).ownBlock ≠ some g
/-- The blocks of the rows. -/
def rowsOwn (lv : Nat → Value) (g : Nat) : Prop := ∃ k, k < 8 ∧ (lv k).ownBlock = some g
theorem RowsAt.lt {w : World} {lv : Nat → Value} {L : Nat → List Pt} (h : RowsAt w lv L) {g : Nat} (hg : rowsOwn lv g) : g < w.heap.size := by
  obtain ⟨k, hk, e⟩ := hg; exact ownsRow_lt (h.row k hk) e
theorem RowsAt.chg {S : Nat → Prop} {w w' : World} {lv : Nat → Value} {L : Nat → List Pt} (h : RowsAt w lv L) (hc : Chg S w w') (hS : ∀ g, rowsOwn lv g → ¬ S g) : RowsAt w' lv L :=
  ⟨fun k hk => ownsRow_same (h.row k hk) fun g hg => hc.block g (ownsRow_lt (h.row k hk) hg) (hS g ⟨k, hk, hg⟩), h.sorted, h.small, h.sep⟩
theorem RowsAt.elem {w : World} {lv : Nat → Value} {L : Nat → List Pt} (h : RowsAt w lv L) {g : Nat} (hg : rowsOwn lv g) : ∃ c, w.heap[g]? = some (.cells c 70 (0, 0)) := by
  obtain ⟨k, hk, e⟩ := hg; exact ownsRow_elem (h.row k hk) e
theorem RowsAt.ne {w : World} {lv : Nat → Value} {L : Nat → List Pt} (h : RowsAt w lv L) {sb : Nat} {c : Array Value} {T : TypeId} (hb : w.heap[sb]? = some (.cells c T (0, 0))) (hT : T ≠ 70) : ¬ rowsOwn lv sb := fun hg => by
  obtain ⟨c', hh⟩ := h.elem hg
  rw [hb] at hh; cases hh; exact hT rfl
theorem RowsAt.rowIn {w : World} {lv : Nat → Value} {L : Nat → List Pt} (h : RowsAt w lv L) {sb : Nat} {mu : Int} {jv : Value} {life win clock : Int} {ro : Bool} (hb : SBlk w sb mu jv life win clock ro lv) {k : Nat} (hk : k < 8) :
    RowIn w sb (7 + k) (stCells mu jv life win clock ro lv) 111 (L k) (lv k) :=
  ⟨hb, stCells_row hk, h.row k hk, h.sorted k hk, Nat.lt_trans (h.small k hk) (by decide)⟩
def updL (L : Nat → List Pt) (k : Nat) (l : List Pt) : Nat → List Pt := fun i => if i = k then l else L i
theorem updR_own {lv : Nat → Value} {k : Nat} {v : Value} {g : Nat} (h : rowsOwn (updR lv k v) g) : rowsOwn lv g ∨ v.ownBlock = some g := by
  obtain ⟨i, hi, e⟩ := h
  unfold updR at e
  split at e
  · exact .inr e
  · exact .inl ⟨i, hi, e⟩
/-- One row is turned. -/
theorem RowsAt.turn {w w' : World} {lv : Nat → Value} {L : Nat → List Pt} (h : RowsAt w lv L) {sb : Nat} {mu : Int} {jv : Value} {life win clock : Int} {ro : Bool} (hb : SBlk w sb mu jv life win clock ro lv) {k : Nat} (hk : k < 8) {L' : List Pt} {lv' : Value} {t : Nat}
    (hR : RowTo w w' sb (7 + k) (stCells mu jv life win clock ro lv) t (lv k) L' lv') (ht : t = 111) (hl : L'.length < 1099511627775) :
    SBlk w' sb mu jv life win clock ro (updR lv k lv') ∧ RowsAt w' (updR lv k lv') (updL L k L') ∧ Chg (fun x => x = sb ∨ rowsOwn lv x) w w' ∧ ∀ g, rowsOwn (updR lv k lv') g → rowsOwn lv g ∨ w.heap.size ≤ g := by
  subst ht
  have hblk := hR.row.blk
  rw [stCells_set hk] at hblk
  have hown : ∀ g, lv'.ownBlock = some g → (lv k).ownBlock = some g ∨ w.heap.size ≤ g := hR.own
  have hc : Chg (fun x => x = sb ∨ rowsOwn lv x) w w' := hR.chg.mono fun x _ hx => hx.imp id fun e => ⟨k, hk, e⟩
  have hnb := h.ne hb (by decide)
  refine ⟨hblk, ⟨?_, ?_, ?_, ?_⟩, hc, fun g hg => ?_⟩
  · intro i hi
    unfold updR updL
    by_cases e : i = k
    · simp only [e, if_true]; exact hR.row.row
    · simp only [e, if_false]
      exact ownsRow_same (h.row i hi) fun g hg => hR.chg.block g (ownsRow_lt (h.row i hi) hg) fun hx => by
        rcases hx with rfl | hx
        · exact hnb ⟨i, hi, hg⟩
        · exact h.sep k i hk hi (fun x => e x.symm) g hx hg
  · intro i hi
    unfold updL
    by_cases e : i = k
    · simp only [e, if_true]; exact hR.row.sorted
    · simp only [e, if_false]; exact h.sorted i hi
  · intro i hi
    unfold updL
    by_cases e : i = k
    · simp only [e, if_true]; exact hl
    · simp only [e, if_false]; exact h.small i hi
  · intro i j hi hj hij g hg hg'
    unfold updR at hg hg'
    by_cases e : i = k
    · subst e
      have e2 : ¬ j = i := fun x => hij x.symm
      simp only [if_true] at hg
      simp only [e2, if_false] at hg'
      rcases hown g hg with hx | hx
      · exact h.sep i j hk hj hij g hx hg'
      · have := ownsRow_lt (h.row j hj) hg'; omega
    · simp only [e, if_false] at hg
      by_cases e2 : j = k
      · subst e2
        simp only [if_true] at hg'
        rcases hown g hg' with hx | hx
        · exact h.sep i j hi hk hij g hg hx
        · have := ownsRow_lt (h.row i hi) hg; omega
      · simp only [e2, if_false] at hg'
        exact h.sep i j hi hj hij g hg hg'
  · rcases updR_own hg with hx | hx
    · exact .inl hx
    · rcases hown g hx with hy | hy
      · exact .inl ⟨k, hk, hy⟩
      · exact .inr hy
/-- Behind the lock. -/
theorem SBlk.locked {w : World} {sb : Nat} {jv : Value} {life win clock : Int} {ro : Bool} {lv : Nat → Value} {L : Nat → List Pt} (h : SBlk w sb 0 jv life win clock ro lv) (hr : RowsAt w lv L) :
    SBlk (w.setCell ⟨sb, 0, none⟩ (.int .i32 1)) sb 1 jv life win clock ro lv ∧ RowsAt (w.setCell ⟨sb, 0, none⟩ (.int .i32 1)) lv L ∧ Chg (One sb) w (w.setCell ⟨sb, 0, none⟩ (.int .i32 1)) :=
  ⟨h.s0 1, hr.chg ((Chg.refl (One sb) w).setAt rfl 0 _) (fun g hg e => hr.ne h (by decide) (e ▸ hg)), (Chg.refl (One sb) w).setAt rfl 0 _⟩
/-- Nothing has turned but the lock, which is free again. -/
theorem SBlk.freed {w w' : World} {sb : Nat} {mu : Int} {jv : Value} {life win clock : Int} {ro : Bool} {lv : Nat → Value} (h : SBlk w sb 0 jv life win clock ro lv) (h' : SBlk w' sb mu jv life win clock ro lv) (hc : Chg (One sb) w w') :
    Chg (fun _ => False) w (w'.setCell ⟨sb, 0, none⟩ (.int .i32 0)) := by
  have h2 := h'.s0 0
  have hc2 := hc.setAt (b := sb) rfl 0 (.int .i32 0)
  refine ⟨hc2.os, hc2.tape, hc2.output, hc2.size, fun k hk _ => ?_⟩
  by_cases e : k = sb
  · subst e; unfold SBlk at h h2; rw [h, h2]
  · exact hc2.block k hk e
end Go.Proofs.YtodcnkbblippnaaGreatDoor
/- Walks: a store's questions: State, Query. -/
namespace Go.Proofs.YtodcnkbblippnaaGreatDoor
open Go.RowKit Go.MuLone
attribute [local go_sem ↓] Go.wp_at_zero Go.wp_at_succ NoP_normal

section
variable {w : World} {sb : Nat} {jv : Value} {life win clock : Int} {ro : Bool} {lv : Nat → Value} {L : Nat → List Pt}
set_option maxRecDepth 100000 in
set_option maxHeartbeats 2000000 in
theorem query_ok (w : World) (k : Nat) (a b : Int) (h : SBlk w sb 0 jv life win clock ro lv) (hr : RowsAt w lv L) (hk : k < 8) (hl : 1 ≤ life ∧ life ≤ 4611686018427387904) (hc : In64 clock) :
    Calls Tryz.prog 37 #[.pointer (some ⟨sb, 0, none⟩), .int .i64 k, .int .i64 a, .int .i64 b] w fun e w' => ∃ v, e = .returned (.tuple #[v, .int .i64 0]) ∧
      PtSl w' v (piece (L k) (max a (oldestN clock life)) b) ∧ Chg (fun _ => False) w w' ∧ ∀ g, v.ownBlock = some g → w.heap.size ≤ g := by
  have IS : Hid (∀ w', Calls Tryz.prog 63 #[.int .i64 k] w' fun e w'' => e = .returned (.bool true) ∧ w' = w'') := fun w' => by
    have := isSeries_any w' k
    rwa [decide_eq_true (by omega)] at this
  have c0 := h.c0
  have f0 := h.fz 0
  obtain ⟨hb1, hr1, hc1⟩ := h.locked hr
  have OL : ∀ w', SBlk w' sb 1 jv life win clock ro lv → _ := fun w' h' => oldest_any w' sb clock life h'.c3 h'.cK hl hc
  obtain ⟨o, ho⟩ : ∃ o, oldestN clock life = o := ⟨_, rfl⟩
  rw [ho] at OL ⊢
  have BE : ∀ w', SBlk w' sb 1 jv life win clock ro lv → RowsAt w' lv L → _ := fun w' h' h2' => between_any w' sb (7 + k) (L k) (lv k) (max a o) b (h2'.rowIn h' hk).toAt
  have hk1 : (0 : Int) ≤ (k : Int) := Int.natCast_nonneg _
  have hk2 : (k : Int) < 8 := by omega
  have H := hide h
  have HOL := hide OL
  have HBE := hide BE
  have HB1 := hide hb1
  have HR1 := hide hr1
  have HC1 := hide hc1
  clear h hr OL BE hb1 hr1 hc1 ho hl hc hk
  go_enter_defers Tryz.func37, Tryz.ntmps37
  go_wp2_with (first
    | (go_at_call 61; refine (lock_free Tryz.muLib ⟨sb, 0, none⟩ _ c0 f0).mono ?_; rintro e w' ⟨rfl, rfl⟩)
    | (go_at_call 63; refine (IS.out _).mono ?_; rintro e w' ⟨rfl, rfl⟩))
  generalize (w.setCell ⟨sb, 0, none⟩ (.int .i32 1)) = w1 at HB1 HR1 HC1 ⊢
  refine wp_region_schN (fun _ => True) 11
    [(0, true), (1, true), (2, true), (3, true), (4, true), (5, true), (6, true), (9, true), (7, false), (8, true), (10, false)] (by kernel_rfl) (by kernel_rfl) trivial ?_
  iterate 8 (refine wpSch_take (v := ?_) rfl (by rfl) ?_ ?_; rotate_left; (· (intro w' hS; (try dsimp only at hS); go_simp; try with_reducible rfl)); (try simp only [Act.put, List.setIfInBounds_toArray, List.set_cons_zero, List.set_cons_succ, List.getElem_toArray, List.getElem_cons_zero, List.getElem_cons_succ]))
  refine wpSch_do rfl (by rfl) (fun K hK => ?_)
  go_simp
  refine (HOL.out w1.drew HB1.out).mono ?_
  rintro e w2 ⟨rfl, hc2⟩
  refine hK _ _ trivial (fun hS => ?_)
  have H2 : Hid (SBlk w2 sb 1 jv life win clock ro lv ∧ RowsAt w2 lv L ∧ Chg (One sb) w w2) :=
    have hc2' : Chg (fun _ => False) w1 w2 := ⟨hc2.os, hc2.tape, hc2.output, hc2.size, hc2.block⟩
    ⟨HB1.out.chg hc2' (fun h => h), HR1.out.chg hc2' (fun _ _ h => h), HC1.out.trans hc2' fun _ h _ => h.elim⟩
  clear hK K hS hc2 HB1 HR1 HC1 HOL
  (try simp only [Act.put, List.setIfInBounds_toArray, List.set_cons_zero, List.set_cons_succ, List.getElem_toArray, List.getElem_cons_zero, List.getElem_cons_succ])
  (refine wpSch_take (v := ?_) rfl (by rfl) ?_ ?_; rotate_left; (· (intro w' hS; (try dsimp only at hS); go_simp; try with_reducible rfl)); (try simp only [Act.put, List.setIfInBounds_toArray, List.set_cons_zero, List.set_cons_succ, List.getElem_toArray, List.getElem_cons_zero, List.getElem_cons_succ]))
  refine wpSch_do rfl (by rfl) (fun K hK => ?_)
  go_simp
  refine (HBE.out w2 H2.out.1 H2.out.2.1).mono ?_
  rintro e w3 ⟨v, rfl, hv, hc3, hf⟩
  refine hK _ _ trivial (fun hS => ?_)
  have H3 : Hid (SBlk w3 sb 1 jv life win clock ro lv ∧ Chg (One sb) w w3) := ⟨H2.out.1.chg hc3 (fun h => h), H2.out.2.2.trans hc3 fun _ h _ => h.elim⟩
  have HV := hide hv
  have HF : Hid (∀ g, v.ownBlock = some g → w.heap.size ≤ g) := fun g hg => Nat.le_trans H2.out.2.2.size (hf g hg)
  have HL : Hid (∀ g, v.ownBlock = some g → g ≠ sb) := fun g hg e => by
    have := hf g hg; have := H2.out.1.lt; omega
  clear hK K hS hc3 hf hv H2 HBE
  (try simp only [Act.put, List.setIfInBounds_toArray, List.set_cons_zero, List.set_cons_succ, List.getElem_toArray, List.getElem_cons_zero, List.getElem_cons_succ])
  refine wpSch_end ?_
  simp only [List.drop_succ_cons, List.drop_zero]
  go_wp2
  rw [NoP_normal]
  go_wp2
  refine leaves_cons (f := 62) (args := #[.pointer (some ⟨sb, 0, none⟩)]) (by simp) (by simp [go_sem]) ?_
  refine (unlock_deferred Tryz.muLib ⟨sb, 0, none⟩ .returning _ ?_ ?_).mono ?_
  · exact H3.out.1.c0
  · exact H3.out.1.fz 0
  rintro e u' w'' ⟨rfl, rfl, rfl⟩
  exact ⟨_, results_tmp2 rfl _ _ _, v, rfl, ownsRow_same HV.out fun g hg => Below.heap_setCell _ _ _ _ (fun e => HL.out g hg (by simpa using e)), H.out.freed H3.out.1 H3.out.2, HF.out⟩
end
end Go.Proofs.YtodcnkbblippnaaGreatDoor
/- Walk: time goes by: Tick. -/
namespace Go.Proofs.YtodcnkbblippnaaGreatDoor
open Go.RowKit Go.MuLone
attribute [local go_sem ↓] Go.wp_at_zero Go.wp_at_succ NoP_normal

/-- What a call that turns a store alone leaves: its block and its rows' blocks. -/
def Own (sb : Nat) (lv : Nat → Value) (x : Nat) : Prop := x = sb ∨ rowsOwn lv x
structure StTo (w w' : World) (sb : Nat) (mu : Int) (jv : Value) (life win clock : Int) (ro : Bool) (lv lv' : Nat → Value) (L' : Nat → List Pt) : Prop where
  blk : SBlk w' sb mu jv life win clock ro lv'
  rows : RowsAt w' lv' L'
  chg : Chg (Own sb lv) w w'
  own : ∀ g, rowsOwn lv' g → rowsOwn lv g ∨ w.heap.size ≤ g
section
variable {w w' w2 : World} {sb : Nat} {mu mu' : Int} {jv : Value} {life win clock clock' : Int} {ro ro' : Bool} {lv lv' lv2 : Nat → Value} {L L' L2 : Nat → List Pt}
theorem StTo.trans (h : StTo w w' sb mu jv life win clock ro lv lv' L') (h2 : StTo w' w2 sb mu' jv life win clock' ro' lv' lv2 L2) : StTo w w2 sb mu' jv life win clock' ro' lv lv2 L2 :=
  ⟨h2.blk, h2.rows, h.chg.trans h2.chg fun x hx hlt => by
    rcases hx with hx | hx
    · exact .inl hx
    · rcases h.own x hx with hy | hy
      · exact .inr hy
      · omega, fun g hg => by
    rcases h2.own g hg with hx | hx
    · exact h.own g hx
    · exact .inr (Nat.le_trans h.chg.size hx)⟩
theorem StTo.of (hb : SBlk w' sb mu jv life win clock ro lv) (hr : RowsAt w lv L) (hc : Chg (One sb) w w') (hn : ¬ rowsOwn lv sb) : StTo w w' sb mu jv life win clock ro lv lv L :=
  ⟨hb, hr.chg hc (fun g hg e => hn (by cases e; exact hg)), hc.mono fun _ _ h => .inl h, fun _ h => .inl h⟩
theorem StTo.same (h : StTo w w' sb mu jv life win clock ro lv lv' L') (hc : Chg (fun _ => False) w' w2) : StTo w w2 sb mu jv life win clock ro lv lv' L' :=
  ⟨h.blk.chg hc (fun h => h), h.rows.chg hc (fun _ _ h => h), h.chg.trans hc fun _ h _ => h.elim, h.own⟩
theorem StTo.cell (h : StTo w w' sb mu jv life win clock ro lv lv' L') (o : Nat) (u : Value) (hb : SBlk (w'.setCell ⟨sb, o, none⟩ u) sb mu' jv life win clock' ro' lv') : StTo w (w'.setCell ⟨sb, o, none⟩ u) sb mu' jv life win clock' ro' lv lv' L' :=
  ⟨hb, h.rows.chg ((Chg.refl (One sb) w').setAt rfl o u) (fun g hg e => h.rows.ne h.blk (by decide) (by cases e; exact hg)), h.chg.setAt (.inl rfl) o u, h.own⟩
/-- What is left of the rows. -/
def Forgot (L L' : Nat → List Pt) (o : Int) : Prop := ∀ i, i < 8 → L' i = L i ∨ L' i = (L i).drop (posP (L i) o)
theorem ticked_min (c x : Int) : min c (9223372036854775807 - x) + x = tickedN c x := by
  unfold tickedN; split <;> omega
theorem ticked_In64 {c x : Int} (hc : In64 c) (hx : 0 ≤ x) (hx2 : x ≤ 9223372036854775807) : In64 (tickedN c x) := by
  obtain ⟨h1, h2⟩ := hc
  unfold tickedN; split <;> constructor <;> omega
set_option maxRecDepth 100000 in
set_option maxHeartbeats 2000000 in
theorem tick_ok (w : World) (x : Int) (h : SBlk w sb 0 jv life win clock ro lv) (hr : RowsAt w lv L) (hx : 0 ≤ x ∧ x ≤ 9223372036854775807) (hl : 1 ≤ life ∧ life ≤ 4611686018427387904) (hc : In64 clock) :
    Calls Tryz.prog 27 #[.pointer (some ⟨sb, 0, none⟩), .int .i64 x] w fun e w' => e = .returned (.int .i64 0) ∧
      ∃ lv' L', StTo w w' sb 0 jv life win (tickedN clock x) ro lv lv' L' ∧ Forgot L L' (oldestN (tickedN clock x) life) := by
  obtain ⟨hx1, hx2⟩ := hx
  have hc' := ticked_In64 hc hx1 hx2
  have ew1 : IntKind.i64.wrap (9223372036854775807 - x) = 9223372036854775807 - x := by simp [IntKind.wrap, IntKind.bits, IntKind.signed]; omega
  have ew2 : IntKind.i64.wrap (min clock (9223372036854775807 - x) + x) = tickedN clock x := by
    rw [ticked_min]; obtain ⟨h1, h2⟩ := hc'; simp [IntKind.wrap, IntKind.bits, IntKind.signed]; omega
  have c0 := h.c0
  have f0 := h.fz 0
  obtain ⟨hb1, hr1, hc1⟩ := h.locked hr
  have hn := hr.ne h (by decide)
  have d3 := hb1.cK
  have d3f := hb1.fz 5
  have ht1 : StTo w (w.setCell ⟨sb, 0, none⟩ (.int .i32 1)) sb 1 jv life win clock ro lv lv L := StTo.of hb1 hr hc1 hn
  have HT2 : ∀ c', Hid (StTo w ((w.setCell ⟨sb, 0, none⟩ (.int .i32 1)).setCell ⟨sb, 5, none⟩ (.int .i64 c')) sb 1 jv life win c' ro lv lv L) := fun c' => ht1.cell 5 _ (hb1.sK c')
  obtain ⟨c', hcc⟩ : ∃ c', tickedN clock x = c' := ⟨_, rfl⟩
  rw [hcc] at ew2 hc' ⊢
  have HT := HT2 c'
  have OL : ∀ w' lv', SBlk w' sb 1 jv life win c' ro lv' → _ := fun w' lv' h' => oldest_any w' sb c' life h'.c3 h'.cK hl hc'
  obtain ⟨o, ho⟩ : ∃ o, oldestN c' life = o := ⟨_, rfl⟩
  rw [ho] at OL ⊢
  have HOL := hide OL
  clear h hr hb1 hr1 hc1 ht1 HT2 hcc hc' hl hc ho OL hn hx2
  go_enter_defers Tryz.func27, Tryz.ntmps27
  go_wp2_with (go_at_call 61; refine (lock_free Tryz.muLib ⟨sb, 0, none⟩ _ c0 f0).mono ?_; rintro e w' ⟨rfl, rfl⟩)
  clear c0 f0 d3 d3f ew1 ew2
  generalize ((w.setCell ⟨sb, 0, none⟩ (.int .i32 1)).setCell ⟨sb, 5, none⟩ (.int .i64 c')) = w1 at HT ⊢
  go_loopw [27] (fun iv wr => ∃ k : Nat, k ≤ 8 ∧ iv = .int .i64 k ∧ Hid (∃ lv' L', StTo w wr sb 1 jv life win c' ro lv lv' L' ∧ Forgot L L' o ∧ ∀ i, k ≤ i → L' i = L i)) (fun iv _ => 8 - (intOf iv).toNat)
  case atStart => exact ⟨0, by omega, rfl, lv, L, HT.out, fun i _ => .inl rfl, fun i _ => rfl⟩
  case round =>
    obtain ⟨k, hk, rfl, hH⟩ := hrel
    obtain ⟨w0, hw0⟩ : ∃ w0, w0 = wr := ⟨_, rfl⟩
    subst hw0
    have k0 : (0 : Int) ≤ (k : Int) := Int.natCast_nonneg _
    by_cases hlk : k < 8
    · have k1 : (k : Int) < 8 := by omega
      have HH : Hid (∀ w2, (∃ lv' L', StTo w w2 sb 1 jv life win c' ro lv lv' L' ∧ Forgot L L' o ∧ ∀ i, k ≤ i → L' i = L i) → Calls Tryz.prog 72 #[.pointer (some ⟨sb, 7 + k, none⟩), .int .i64 o] w2 fun e w' => e = .returned (.tuple #[]) ∧
          ∃ lv' L', StTo w w' sb 1 jv life win c' ro lv lv' L' ∧ Forgot L L' o ∧ ∀ i, k + 1 ≤ i → L' i = L i) := fun w2 ⟨lv', L', a1, a2, a3⟩ => by
        refine (forget_any w2 sb (7 + k) _ _ (by decide) _ _ o (a1.rows.rowIn a1.blk hlk)).mono ?_
        rintro e w3 ⟨rfl, L2, v2, hL2, hR⟩
        have hlen : L2.length ≤ (L' k).length := by
          rcases hL2 with rfl | rfl
          · exact Nat.le_refl _
          · rw [List.length_drop]; omega
        obtain ⟨b1, b2, b3, b4⟩ := a1.rows.turn a1.blk hlk hR rfl (Nat.lt_of_le_of_lt hlen (a1.rows.small k hlk))
        refine ⟨rfl, updR lv' k v2, updL L' k L2, a1.trans ⟨b1, b2, b3, b4⟩, fun i hi => ?_, fun i hi => ?_⟩
        · unfold updL
          by_cases e : i = k
          · subst e
            simp only [if_true]
            rw [a3 i (Nat.le_refl _)] at hL2
            exact hL2
          · simp only [e, if_false]; exact a2 i hi
        · unfold updL
          rw [if_neg (by omega)]; exact a3 i (by omega)
      have HO : Hid (∀ w2, (∃ lv' L', StTo w w2 sb 1 jv life win c' ro lv lv' L' ∧ Forgot L L' o ∧ ∀ i, k ≤ i → L' i = L i) → Calls Tryz.prog 71 #[.pointer (some ⟨sb, 0, none⟩)] w2 fun e w' => e = .returned (.int .i64 o) ∧ ∃ lv' L', StTo w w' sb 1 jv life win c' ro lv lv' L' ∧ Forgot L L' o ∧ ∀ i, k ≤ i → L' i = L i) := fun w2 ⟨lv', L', a1, a2, a3⟩ => by
        refine (HOL.out w2 lv' a1.blk).mono ?_
        rintro e w3 ⟨rfl, hc⟩
        exact ⟨rfl, lv', L', a1.same hc, a2, a3⟩
      clear HOL HT
      go_wp2
      refine wp_region_schN (fun _ => True) 7
        [(0, true), (1, true), (2, true), (3, true), (4, true), (5, true), (6, false)] (by kernel_rfl) (by kernel_rfl) trivial ?_
      iterate 6 (refine wpSch_take (v := ?_) rfl (by rfl) ?_ ?_; rotate_left; (· (intro w' hS; (try dsimp only at hS); go_simp; try with_reducible rfl)); (try simp only [Act.put, List.setIfInBounds_toArray, List.set_cons_zero, List.set_cons_succ, List.getElem_toArray, List.getElem_cons_zero, List.getElem_cons_succ]))
      refine wpSch_do rfl (by rfl) (fun K hK => ?_)
      go_simp
      refine (HO.out w0.drew (by obtain ⟨lv', L', a1, a2⟩ := hH.out; exact ⟨lv', L', a1.same ((Chg.refl _ w0).drew), a2⟩)).mono ?_
      rintro e w2 ⟨rfl, h2⟩
      refine hK _ _ trivial (fun hS => ?_)
      have H2 := hide h2
      clear hK K hS h2 HO
      (try simp only [Act.put, List.setIfInBounds_toArray, List.set_cons_zero, List.set_cons_succ, List.getElem_toArray, List.getElem_cons_zero, List.getElem_cons_succ])
      refine wpSch_end ?_
      simp only [List.drop_succ_cons, List.drop_zero]
      go_wp2_with (go_at_call 72; refine (HH.out _ H2.out).mono ?_; rintro e w3 ⟨rfl, h3⟩; have H3 := hide h3; clear h3)
      rw [NoP_normal]
      go_wp2
      go_roundw
      case rel => exact ⟨k + 1, by omega, by go_num, H3.out⟩
      case measure => simp [intOf]; omega
    · obtain rfl : k = 8 := by omega
      clear HOL HT
      go_wp2
      refine leaves_cons (f := 62) (args := #[.pointer (some ⟨sb, 0, none⟩)]) (by simp) (by simp [go_sem]) ?_
      obtain ⟨lv', L', a1, a2, -⟩ := hH.out
      refine (unlock_deferred Tryz.muLib ⟨sb, 0, none⟩ .returning _ ?_ ?_).mono ?_
      · exact a1.blk.c0
      · exact a1.blk.fz 0
      rintro e u' w'' ⟨rfl, rfl, rfl⟩
      exact ⟨_, results_tmp rfl _ _ _, rfl, lv', L', a1.cell 0 _ (a1.blk.s0 0), a2⟩
end
end Go.Proofs.YtodcnkbblippnaaGreatDoor
