/-
  The statement WritesUptoCardSaid is proved: the law Writes answers true at every set and every script within the statement's bounds.
  Part 11 of 23.
-/
import Derived.Test.YtfaeidbgdcincaaGreatDoorPart10
import Derived.Handy
import Derived.WalkKit
import Derived.Test.YtfaeidbgdcincaaGreatDoorPart01
import Derived.RegionTactic
import Derived.Deep.RegionHeld3
import Derived.Deep.DrawnRows
import Derived.Test.YtfaeidbgdcincaaGreatDoorPart06
import Derived.Lib.AppendZeros
import Derived.Lib.Overlaps
import Derived.Lib.SliceRun
/- Walks: a file's and a log's value: fileOf, logOf. -/
namespace Go.Proofs.YtfaeidbgdcincaaGreatDoor
open Go.RowKit

/-- What a file's sum begins with. -/
def sum0 (name : List UInt8) : Nat := sumOn 4294967295 name
/-- The letters of names and the library's table lie below B, and what comes keeps them. -/
def Lets (B : Nat) (w : World) (lt : List UInt8) : Prop :=
  lt.length ≤ 1000 ∧ B ≤ w.heap.size ∧ ∀ w', Below B w w' → w'.cell? ⟨0, 1, none⟩ = some (.string ⟨lt.toArray⟩) ∧ Lib.TabIs Tryz.prog w' "internal/strconv.uint64pow10" .u64 Lib.pow10Tab
theorem Lets.keep {B : Nat} {w w' : World} {lt : List UInt8} {S : Nat → Prop} (h : Lets B w lt) (hc : Chg S w w') (hS : ∀ k, S k → B ≤ k) : Lets B w' lt :=
  ⟨h.1, Nat.le_trans h.2.1 hc.size, fun w2 h2 => h.2.2 w2 ((hc.below h.2.1 fun k hk hs => by have := hS k hs; omega).trans h2)⟩
theorem Lets.keep0 {B : Nat} {w w' : World} {lt : List UInt8} (h : Lets B w lt) (hc : Chg (fun _ => False) w w') : Lets B w' lt := h.keep hc fun _ h => h.elim
/-- A number that a file may have. -/
def NumOk (n : Int) : Prop := 0 ≤ n ∧ n ≤ 9223372036854775807 ∧ (Lib.itoa n).length ≤ 19
section
variable {B : Nat} {lt : List UInt8} {n : Int} {p : Value}
set_option maxRecDepth 100000 in
set_option maxHeartbeats 1000000 in
theorem fileOf_any (w : World) (db : Nat) (hn : NumOk n) (hL : Lets B w lt) :
    Calls Tryz.prog 131 #[.pointer (some ⟨db, 0, none⟩), .int .i64 1, .int .i64 n] w fun e w' => e = .returned (.agg #[.pointer (some ⟨db, 0, none⟩), .string ⟨(nameL lt n).toArray⟩, .int .u32 (sum0 (nameL lt n))]) ∧ Chg (fun _ => False) w w' := by
  obtain ⟨hn1, hn2, hd⟩ := hn
  have hlt := hL.1
  have NO : ∀ w', Chg (fun _ => False) w w' → _ := fun w' hc => nameOf_any w' lt n ⟨by omega, hn2⟩ hlt hd ((hL.keep0 hc).2.2 w' (Below.refl _ _)).1 ((hL.keep0 hc).2.2 w' (Below.refl _ _)).2
  have hnl : (nameL lt n).length ≤ 9223372036854775807 := by
    unfold nameL
    have := Lib.repeatL_length [48] (19 - (Lib.itoa n).length)
    simp only [List.length_append, this]
    simp; omega
  obtain ⟨nm, hnm⟩ : ∃ nm, nameL lt n = nm := ⟨_, rfl⟩
  rw [hnm] at NO hnl ⊢
  have AS : ∀ w', _ := fun w' => addSum_list w' 4294967295 nm (by omega) hnl
  obtain ⟨s0, hs0⟩ : ∃ s0, sum0 nm = s0 := ⟨_, rfl⟩
  have AS2 : ∀ w', Calls Tryz.prog 159 #[.int .u32 4294967295, .string ⟨nm.toArray⟩] w' fun e w'' => e = .returned (.int .u32 s0) ∧ w' = w'' := by rw [← hs0]; exact AS
  rw [hs0]
  have HNO := hide NO
  have HAS := hide AS2
  clear NO AS AS2 hs0 hnm hnl hL hd
  go_enter Tryz.func131, Tryz.ntmps131
  go_wp2_with (fail)
  refine (HNO.out _ ((Chg.refl _ _).alloc _)).mono ?_
  rintro e w1 ⟨rfl, hc1⟩
  have hb : w1.heap[w.heap.size]? = some (.cells #[.pointer none, .string ⟨#[]⟩, .int .u32 0] 155 (0, 0)) := hc1.keep (by show (w.heap.push _)[w.heap.size]? = _; rw [Array.getElem?_push_size]) (by simp)
  have c0 : w1.cell? ⟨w.heap.size, 0, none⟩ = some (.pointer none) := by simp [World.cell?, hb]
  have c1 : w1.cell? ⟨w.heap.size, 1, none⟩ = some (.string ⟨#[]⟩) := by simp [World.cell?, hb]
  have c2 : w1.cell? ⟨w.heap.size, 2, none⟩ = some (.int .u32 0) := by simp [World.cell?, hb]
  have f0 : w1.frozen? ⟨w.heap.size, 0, none⟩ = false := by simp [World.frozen?, hb]
  have f1 : w1.frozen? ⟨w.heap.size, 1, none⟩ = false := by simp [World.frozen?, hb]
  have f2 : w1.frozen? ⟨w.heap.size, 2, none⟩ = false := by simp [World.frozen?, hb]
  have h3 := heap_setCell_at (o := 2) (v := .int .u32 s0) (heap_setCell_at (o := 1) (v := .string ⟨nm.toArray⟩) (heap_setCell_at (o := 0) (v := .pointer (some ⟨db, 0, none⟩)) hb))
  have k1 : Chg (fun _ => False) w w1 := ((Chg.refl (fun _ => False) w).alloc _).trans hc1 (fun _ h _ => h)
  have k3 : Chg (fun _ => False) w (((w1.setCell ⟨w.heap.size, 0, none⟩ (.pointer (some ⟨db, 0, none⟩))).setCell ⟨w.heap.size, 1, none⟩ (.string ⟨nm.toArray⟩)).setCell ⟨w.heap.size, 2, none⟩ (.int .u32 s0)) := ((k1.setCell (by simp) _).setCell (by simp) _).setCell (by simp) _
  have H3 := hide h3
  have K3 := hide k3
  clear hb h3 k1 k3 hc1 HNO
  go_wp2_with (go_at_call 159; refine (HAS.out _).mono ?_; rintro e w' ⟨rfl, rfl⟩)
  generalize (((w1.setCell ⟨w.heap.size, 0, none⟩ (.pointer (some ⟨db, 0, none⟩))).setCell ⟨w.heap.size, 1, none⟩ (.string ⟨nm.toArray⟩)).setCell ⟨w.heap.size, 2, none⟩ (.int .u32 s0)) = w3 at H3 K3 ⊢
  have h3 := H3.out
  have r0 : w3.cell? ⟨w.heap.size, 0, none⟩ = some (.pointer (some ⟨db, 0, none⟩)) := by simp [World.cell?, h3]
  have r1 : w3.cell? ⟨w.heap.size, 1, none⟩ = some (.string ⟨nm.toArray⟩) := by simp [World.cell?, h3]
  have r2 : w3.cell? ⟨w.heap.size, 2, none⟩ = some (.int .u32 s0) := by simp [World.cell?, h3]
  clear h3 H3 c0 c1 c2 f0 f1 f2
  refine bodyPost_ret (v := .agg #[.pointer (some ⟨db, 0, none⟩), .string ⟨nm.toArray⟩, .int .u32 s0]) (by simp [results, Tryz.results131, go_sem, r0, r1, r2]) rfl ?_
  exact ⟨rfl, K3.out⟩
set_option maxRecDepth 100000 in
set_option maxHeartbeats 1000000 in
theorem logOf_any (w : World) (db : Nat) (hn : NumOk n) (hL : Lets B w lt) :
    Calls Tryz.prog 106 #[.pointer (some ⟨db, 0, none⟩), .int .i64 n] w fun e w' => ∃ lb, e = .returned (.pointer (some ⟨lb, 0, none⟩)) ∧ FlBlk w' lb 157 (.pointer (some ⟨db, 0, none⟩)) ⟨(nameL lt n).toArray⟩ (sum0 (nameL lt n)) ∧ Chg (fun _ => False) w w' ∧ w.heap.size ≤ lb := by
  have FO := hide (fileOf_any w db hn hL)
  obtain ⟨nm, hnm⟩ : ∃ nm, nameL lt n = nm := ⟨_, rfl⟩
  rw [hnm] at FO ⊢
  obtain ⟨s0, hs0⟩ : ∃ s0, sum0 nm = s0 := ⟨_, rfl⟩
  rw [hs0] at FO ⊢
  clear hL hn hnm hs0
  go_enter Tryz.func106, Tryz.ntmps106
  go_wp2_with (go_at_call 131; refine FO.out.mono ?_; rintro e w1 ⟨rfl, hc⟩; have HC := hide hc; clear hc)
  go_ret
  exact ⟨w1.heap.size, rfl, (by show (w1.heap.push _)[w1.heap.size]? = _; rw [Array.getElem?_push_size]), HC.out.alloc _, HC.out.size⟩
end
end Go.Proofs.YtfaeidbgdcincaaGreatDoor
/- Walks: logs: SyncLog, Add. -/
namespace Go.Proofs.YtfaeidbgdcincaaGreatDoor
open Go.RowKit

theorem AfterU.before {w w1 w' : World} {b : Nat} {D : DS} {F : Nat → FC} {Ft : Nat → Prop} (h : AfterU w1 Ft w' b D F) (hc : Chg (fun _ => False) w w1) : AfterU w Ft w' b D F := by
  obtain ⟨h1, Ft', h2, h3, h4⟩ := h
  exact ⟨(hc.mono fun _ _ h => h.elim).trans h1 fun _ h _ => h, Ft', h2, h3, fun k hk => (h4 k hk).imp id fun h => Nat.le_trans hc.size h⟩
section
variable {B b : Nat} {D : DS} {F : Nat → FC} {Ft : Nat → Prop} {lt : List UInt8} {n : Int}
set_option maxRecDepth 100000 in
set_option maxHeartbeats 1000000 in
theorem syncLog_any (w : World) (h : RepU w b D F Ft) (hlt : ∀ k, Ft k → k < w.heap.size) (hn : NumOk n) (hL : Lets B w lt) :
    Calls Tryz.prog 125 #[.pointer (some ⟨b, 0, none⟩), .int .i64 n] w fun e w' => e = .returned (.int .i64 (dSync D F ⟨(nameL lt n).toArray⟩).1) ∧ AfterU w Ft w' b (dSync D F ⟨(nameL lt n).toArray⟩).2.1 (dSync D F ⟨(nameL lt n).toArray⟩).2.2 := by
  have LO := hide (logOf_any w b hn hL)
  have SY : ∀ w' lb, Chg (fun _ => False) w w' → FlBlk w' lb 157 (.pointer (some ⟨b, 0, none⟩)) ⟨(nameL lt n).toArray⟩ (sum0 (nameL lt n)) → _ := fun w' lb hc hf => syncF hf (h.same hlt hc)
  obtain ⟨er, her⟩ : ∃ er, (dSync D F ⟨(nameL lt n).toArray⟩).1 = er := ⟨_, rfl⟩
  rw [her] at SY ⊢
  have HSY := hide SY
  clear SY h hlt hn hL her
  go_enter Tryz.func125, Tryz.ntmps125
  go_wp2_with (first
    | (go_at_call 106; refine LO.out.mono ?_; rintro e w1 ⟨lb, rfl, hb, hc, hs⟩; have HB := hide hb; have HC := hide hc; clear hb hc hs)
    | (go_at_call 96; refine (HSY.out _ _ HC.out HB.out).mono ?_; rintro e w2 ⟨rfl, hA⟩; have HA := hide hA; clear hA))
  go_ret
  exact ⟨rfl, HA.out.before HC.out⟩
theorem AfterF.before {w w1 w' : World} {fb : Nat} (h : AfterF w1 Ft fb w' b D F) (hc : Chg (fun _ => False) w w1) : AfterF w Ft fb w' b D F := by
  obtain ⟨h1, Ft', h2, h3, h4⟩ := h
  exact ⟨(hc.mono fun _ _ h => h.elim).trans h1 fun _ h _ => h, Ft', h2, h3, fun k hk => (h4 k hk).imp id fun h => Nat.le_trans hc.size h⟩
set_option maxRecDepth 100000 in
set_option maxHeartbeats 1000000 in
theorem addLog_any (w : World) (lb : Nat) (name : ByteArray) (s : Nat) (sr t v : Int) (hsr : 0 ≤ sr ∧ sr < 256) (ht : -9223372036854775808 ≤ t ∧ t ≤ 9223372036854775807) (hv : -9223372036854775808 ≤ v ∧ v ≤ 9223372036854775807)
    (hf : FlBlk w lb 157 (.pointer (some ⟨b, 0, none⟩)) name s) (hs : s < 4294967296) (h : RepU w b D F Ft) (hlt : ∀ k, Ft k → k < w.heap.size) (hn : ¬ Ft lb) (hroom : -4611686018427387904 ≤ D.n.room ∧ D.n.room ≤ 9223372036854775807)
    (hu : usedL F D.dir ≤ 4611686018427387904) (hp : 0 ≤ D.n.part ∧ D.n.part ≤ 9223372036854775807) (hl : ∀ f, lookup D.dir name = some f → (F f).1.length + 21 ≤ 70368744177664)
    (hz : (dSize (dAppend D F name ⟨(putB sr t v ++ sumB (sumOn s (putB sr t v))).toArray⟩).2.1 (dAppend D F name ⟨(putB sr t v ++ sumB (sumOn s (putB sr t v))).toArray⟩).2.2 name).1 ≤ 70368744177664 ∧ (dSize D F name).1 ≤ 70368744177664) :
    Calls Tryz.prog 121 #[.pointer (some ⟨lb, 0, none⟩), .agg #[.int .i64 sr, .int .i64 t, .int .i64 v]] w fun e w' => e = .returned (.tuple #[.bool (addOk D F name (putB sr t v ++ sumB (sumOn s (putB sr t v)))), .int .i64 (dAppend D F name ⟨(putB sr t v ++ sumB (sumOn s (putB sr t v))).toArray⟩).1]) ∧
      FlBlk w' lb 157 (.pointer (some ⟨b, 0, none⟩)) name (sumOn s (putB sr t v)) ∧ AfterF w Ft lb w' b (dAppend D F name ⟨(putB sr t v ++ sumB (sumOn s (putB sr t v))).toArray⟩).2.1 (dAppend D F name ⟨(putB sr t v ++ sumB (sumOn s (putB sr t v))).toArray⟩).2.2 := by
  have PB : ∀ w', _ := fun w' => putBytes_any w' sr t v hsr ht hv
  have hll : (putB sr t v).length = 17 := by simp [putB, intB_length]
  obtain ⟨l, hle⟩ : ∃ l, putB sr t v = l := ⟨_, rfl⟩
  rw [hle] at PB hll hz ⊢
  clear hle
  have AD : ∀ w', Chg (fun _ => False) w w' → _ := fun w' hc => addF (hf.keep hc (by simp)) hs (h.same hlt hc) (fun k hk => Nat.lt_of_lt_of_le (hlt k hk) hc.size) hn l hroom hu hp (fun f hf => by have := hl f hf; omega) (by omega) hz
  obtain ⟨ok, hok⟩ : ∃ ok, addOk D F name (l ++ sumB (sumOn s l)) = ok := ⟨_, rfl⟩
  obtain ⟨er, her⟩ : ∃ er, (dAppend D F name ⟨(l ++ sumB (sumOn s l)).toArray⟩).1 = er := ⟨_, rfl⟩
  rw [hok, her] at AD ⊢
  have hlb := hf.lt
  have HPB := hide PB
  have HAD := hide AD
  have HLT := hide hlt
  clear PB AD hok her hf h hlt hn hroom hu hp hl hz
  go_enter Tryz.func121, Tryz.ntmps121
  go_wp2
  have hb : (w.alloc (.cells #[.int .i64 sr, .int .i64 t, .int .i64 v] 109)).heap[w.heap.size]? = some (.cells #[.int .i64 sr, .int .i64 t, .int .i64 v] 109 (0, 0)) := by show (w.heap.push _)[w.heap.size]? = _; rw [Array.getElem?_push_size]
  have p0 : (w.alloc (.cells #[.int .i64 sr, .int .i64 t, .int .i64 v] 109)).drew.cell? ⟨w.heap.size, 0, none⟩ = some (.int .i64 sr) := by show (w.alloc _).cell? _ = _; simp only [World.cell?, hb]; rfl
  have p1 : (w.alloc (.cells #[.int .i64 sr, .int .i64 t, .int .i64 v] 109)).drew.cell? ⟨w.heap.size, 1, none⟩ = some (.int .i64 t) := by show (w.alloc _).cell? _ = _; simp only [World.cell?, hb]; rfl
  have p2 : (w.alloc (.cells #[.int .i64 sr, .int .i64 t, .int .i64 v] 109)).drew.cell? ⟨w.heap.size, 2, none⟩ = some (.int .i64 v) := by show (w.alloc _).cell? _ = _; simp only [World.cell?, hb]; rfl
  have HK0 : Hid (Chg (fun _ => False) w (w.alloc (.cells #[.int .i64 sr, .int .i64 t, .int .i64 v] 109)).drew) := ((Chg.refl _ w).alloc _).drew
  clear hb
  refine wp_region_sch (fun w' => w'.cell? ⟨w.heap.size, 0, none⟩ = some (.int .i64 sr) ∧ w'.cell? ⟨w.heap.size, 1, none⟩ = some (.int .i64 t) ∧ w'.cell? ⟨w.heap.size, 2, none⟩ = some (.int .i64 v)) 8
    [(0, true), (1, true), (2, true), (3, true), (4, false), (5, false), (6, true), (7, true)] (by kernel_rfl) (by kernel_rfl) (fun _ _ _ _ _ h => h) ⟨p0, p1, p2⟩ ?_
  generalize (w.alloc (.cells #[.int .i64 sr, .int .i64 t, .int .i64 v] 109)).drew = w1 at p0 p1 p2 HK0 ⊢
  iterate 4 (refine wpSch_take (v := ?_) rfl (by rfl) ?_ ?_; rotate_left; (· (intro w' hS; (try dsimp only at hS); go_simp; try with_reducible rfl)); (try simp only [Act.put, List.setIfInBounds_toArray, List.set_cons_zero, List.set_cons_succ, List.getElem_toArray, List.getElem_cons_zero, List.getElem_cons_succ]))
  refine wpSch_do rfl (by rfl) (fun K hK => ?_)
  go_simp
  refine (HPB.out w1).mono ?_
  rintro e w2 ⟨rfl, hc2⟩
  have q0 := hc2.cellKeep p0
  have q1 := hc2.cellKeep p1
  have q2 := hc2.cellKeep p2
  refine hK _ _ ⟨q0, q1, q2⟩ (fun hS => ?_)
  have HK2 : Hid (Chg (fun _ => False) w w2) := HK0.out.trans hc2 (fun _ h _ => h)
  clear hK K hS hc2 p0 p1 p2 HK0
  (try simp only [Act.put, List.setIfInBounds_toArray, List.set_cons_zero, List.set_cons_succ, List.getElem_toArray, List.getElem_cons_zero, List.getElem_cons_succ])
  refine wpSch_do rfl (by rfl) (fun K hK => ?_)
  go_simp
  refine (HAD.out w2 HK2.out).mono ?_
  rintro e w3 ⟨rfl, hb3, ha3⟩
  have k3 := ha3.1
  have hnb : ¬ ((fun k => Ft k ∨ k = lb) w.heap.size) := by
    rintro (h | h)
    · have := HLT.out _ h; omega
    · omega
  have kc : ∀ o u, w2.cell? ⟨w.heap.size, o, none⟩ = some u → w3.cell? ⟨w.heap.size, o, none⟩ = some u := by
    intro o u hu
    have hsz : w.heap.size < w2.heap.size := by
      rcases Nat.lt_or_ge w.heap.size w2.heap.size with h | h
      · exact h
      · unfold World.cell? at hu
        rw [Array.getElem?_eq_none h] at hu
        simp at hu
    unfold World.cell? at hu ⊢
    rw [k3.block _ hsz hnb]
    exact hu
  refine hK _ _ ⟨kc 0 _ q0, kc 1 _ q1, kc 2 _ q2⟩ (fun hS => ?_)
  have HB3 := hide hb3
  have HA3 := hide (ha3.before HK2.out)
  clear hK K hS hb3 ha3 k3 hnb kc q0 q1 q2 HK2
  (try simp only [Act.put, List.setIfInBounds_toArray, List.set_cons_zero, List.set_cons_succ, List.getElem_toArray, List.getElem_cons_zero, List.getElem_cons_succ])
  iterate 2 (refine wpSch_take (v := ?_) rfl (by rfl) ?_ ?_; rotate_left; (· (intro w' hS; (try dsimp only at hS); go_simp; try with_reducible rfl)); (try simp only [Act.put, List.setIfInBounds_toArray, List.set_cons_zero, List.set_cons_succ, List.getElem_toArray, List.getElem_cons_zero, List.getElem_cons_succ]))
  refine wpSch_end ?_
  simp only [List.drop_succ_cons, List.drop_zero]
  go_wp2
  go_ret2
  exact ⟨rfl, HB3.out, HA3.out⟩
end
end Go.Proofs.YtfaeidbgdcincaaGreatDoor
/- Walks: a new log: NewLog. -/
namespace Go.Proofs.YtfaeidbgdcincaaGreatDoor
open Go.RowKit

section
variable {B b : Nat} {D : DS} {F : Nat → FC} {Ft : Nat → Prop} {lt : List UInt8} {n : Int}
/-- A log's first piece. -/
def headB (nm : List UInt8) (ahead : Int) : List UInt8 := intB ahead ++ sumB (sumOn (sum0 nm) (intB ahead))
theorem sum0_lt (nm : List UInt8) : sum0 nm < 4294967296 := sumOn_lt _ _ (by omega)
set_option maxRecDepth 100000 in
set_option maxHeartbeats 2000000 in
theorem newLog_any (w : World) (ahead : Int) (k : Nat) (D1 D2 : DS) (F1 F2 : Nat → FC) (e1 e2 : Int) (h : RepU w b D F Ft) (hlt : ∀ k, Ft k → k < w.heap.size) (hn : NumOk n) (hL : Lets B w lt) (ha : -9223372036854775808 ≤ ahead ∧ ahead ≤ 9223372036854775807)
    (hk : ¬ D.ids k) (hs : D.dir.length < 1099511627776 ∧ D.changes.length < 1099511627776) (h1 : dCreate D ⟨(nameL lt n).toArray⟩ k = (e1, D1)) (hF1 : upd F k ([], 0) = F1) (h2 : dAppend D1 F1 ⟨(nameL lt n).toArray⟩ ⟨(headB (nameL lt n) ahead).toArray⟩ = (e2, D2, F2))
    (hroom : -4611686018427387904 ≤ D1.n.room ∧ D1.n.room ≤ 9223372036854775807) (hu : usedL F1 D1.dir ≤ 4611686018427387904) (hp : 0 ≤ D1.n.part ∧ D1.n.part ≤ 9223372036854775807) (hl : ∀ f, lookup D1.dir ⟨(nameL lt n).toArray⟩ = some f → (F1 f).1.length + 12 ≤ 70368744177664)
    (hz : (dSize D2 F2 ⟨(nameL lt n).toArray⟩).1 ≤ 70368744177664 ∧ (dSize D1 F1 ⟨(nameL lt n).toArray⟩).1 ≤ 70368744177664) :
    Calls Tryz.prog 142 #[.pointer (some ⟨b, 0, none⟩), .int .i64 n, .int .i64 ahead] w fun e w' =>
      (e1 ≠ 0 ∧ e = .returned (.tuple #[.pointer none, .int .i64 e1]) ∧ AfterU w Ft w' b D1 F1) ∨
      (e1 = 0 ∧ e2 ≠ 0 ∧ e = .returned (.tuple #[.pointer none, .int .i64 e2]) ∧ AfterU w Ft w' b D2 F2) ∨
      (e1 = 0 ∧ e2 = 0 ∧ ∃ lb, e = .returned (.tuple #[.pointer (some ⟨lb, 0, none⟩), .int .i64 0]) ∧ w.heap.size ≤ lb ∧ FlBlk w' lb 157 (.pointer (some ⟨b, 0, none⟩)) ⟨(nameL lt n).toArray⟩ (sumOn (sum0 (nameL lt n)) (intB ahead)) ∧
        Chg Ft w w' ∧ ∃ Ft', RepU w' b D2 F2 Ft' ∧ (∀ k, Ft' k → k < w'.heap.size) ∧ (∀ k, Ft' k → Ft k ∨ w.heap.size ≤ k) ∧ ¬ Ft' lb) := by
  have LO := hide (logOf_any w b hn hL)
  have hs0 := sum0_lt (nameL lt n)
  obtain ⟨nm, hnm⟩ : ∃ nm, nameL lt n = nm := ⟨_, rfl⟩
  rw [hnm] at LO hs0 h1 h2 hl hz ⊢
  have CR : ∀ w' lb, Chg (fun _ => False) w w' → FlBlk w' lb 157 (.pointer (some ⟨b, 0, none⟩)) ⟨nm.toArray⟩ (sum0 nm) → _ := fun w' lb hc hf => createF hf (h.same hlt hc) k hk hs
  rw [h1, hF1] at CR
  have AD : ∀ w' lb Ft1, FlBlk w' lb 157 (.pointer (some ⟨b, 0, none⟩)) ⟨nm.toArray⟩ (sum0 nm) → RepU w' b D1 F1 Ft1 → (∀ k, Ft1 k → k < w'.heap.size) → ¬ Ft1 lb → _ :=
    fun w' lb Ft1 hf hr hlt1 hn1 => addF hf hs0 hr hlt1 hn1 (intB ahead) hroom hu hp (fun f hf => by have := hl f hf; rw [intB_length]; exact this) (by rw [intB_length]; omega) (by
      show (dSize (dAppend D1 F1 _ ⟨(headB nm ahead).toArray⟩).2.1 (dAppend D1 F1 _ ⟨(headB nm ahead).toArray⟩).2.2 _).1 ≤ _ ∧ _
      rw [h2]; exact hz)
  have e0 : intB ahead ++ sumB (sumOn (sum0 nm) (intB ahead)) = headB nm ahead := rfl
  rw [e0, h2] at AD
  have IB : ∀ w', _ := fun w' => intBytes_any w' ahead ha
  obtain ⟨l, hle⟩ : ∃ l, intB ahead = l := ⟨_, rfl⟩
  rw [hle] at AD IB ⊢
  obtain ⟨ok, hok⟩ : ∃ ok, addOk D1 F1 ⟨nm.toArray⟩ (headB nm ahead) = ok := ⟨_, rfl⟩
  rw [hok] at AD
  dsimp only at CR AD
  have HCR := hide CR
  have HAD := hide AD
  have HIB := hide IB
  have HLT := hide hlt
  clear CR AD IB h hlt hn hL hk hs h1 hF1 h2 hroom hu hp hl hz hnm hle hok e0 hs0 ha
  rcases Decidable.em (e1 = 0) with he1 | he1
  · subst he1
    go_enter Tryz.func142, Tryz.ntmps142
    go_wp2_with (first
      | (go_at_call 106; refine LO.out.mono ?_; rintro e w1 ⟨lb, rfl, hb, hc, hls⟩; have HB := hide hb; have HC := hide hc; have HLS := hide hls; clear hb hc hls)
      | (go_at_call 162; refine (HCR.out _ _ HC.out HB.out).mono ?_; rintro e w2 ⟨rfl, hA⟩; have HA := hide hA; clear hA))
    obtain ⟨hk2, Ft2, hr2, hl2, hf2⟩ := HA.out
    have hlb := HB.out.lt
    have hnF : ¬ Ft lb := fun h => by have := HLT.out lb h; have := HLS.out; omega
    have hnF2 : ¬ Ft2 lb := fun h => by rcases hf2 lb h with h | h; exact hnF h; omega
    have hb2 := HB.out.keep hk2 hnF
    have hsz2 := hk2.size
    refine wp_region_sch (fun _ => True) 10
      [(0, true), (1, true), (2, true), (3, true), (4, false), (5, false), (6, true), (7, true), (8, true), (9, true)] (by kernel_rfl) (by kernel_rfl) (fun _ _ _ _ _ h => h) trivial ?_
    have HB2 := hide hb2
    have HR2 := hide hr2
    have HL2 := hide hl2
    have HF2 := hide hf2
    have HK2 := hide hk2
    have HN2 := hide hnF2
    have HLB := hide hlb
    have HSZ := hide hsz2
    clear hb2 hr2 hl2 hf2 hk2 hnF hnF2 hlb hsz2 HA HCR
    iterate 4 (refine wpSch_take (v := ?_) rfl (by rfl) ?_ ?_; rotate_left; (· (intro w' hS; (try dsimp only at hS); go_simp; try with_reducible rfl)); (try simp only [Act.put, List.setIfInBounds_toArray, List.set_cons_zero, List.set_cons_succ, List.getElem_toArray, List.getElem_cons_zero, List.getElem_cons_succ]))
    refine wpSch_do rfl (by rfl) (fun K hK => ?_)
    go_simp
    refine (HIB.out w2.drew).mono ?_
    rintro e w3 ⟨rfl, hc3⟩
    refine hK _ _ trivial (fun hS => ?_)
    have hc3' : Chg (fun _ => False) w2 w3 := ⟨hc3.os, hc3.tape, hc3.output, hc3.size, hc3.block⟩
    have HC3 := hide hc3'
    clear hK K hS hc3 hc3'
    (try simp only [Act.put, List.setIfInBounds_toArray, List.set_cons_zero, List.set_cons_succ, List.getElem_toArray, List.getElem_cons_zero, List.getElem_cons_succ])
    refine wpSch_do rfl (by rfl) (fun K hK => ?_)
    go_simp
    refine (HAD.out w3 lb Ft2 (HB2.out.keep HC3.out (by simp)) (HR2.out.same HL2.out HC3.out) (fun k hk => Nat.lt_of_lt_of_le (HL2.out k hk) HC3.out.size) HN2.out).mono ?_
    rintro e w4 ⟨rfl, hb4, hk4, Ft4, hr4, hl4, hf4⟩
    refine hK _ _ trivial (fun hS => ?_)
    have HB4 := hide hb4
    have H4 : Hid (Chg Ft w w4 ∧ RepU w4 b D2 F2 Ft4 ∧ (∀ k, Ft4 k → k < w4.heap.size) ∧ (∀ k, Ft4 k → Ft k ∨ w.heap.size ≤ k) ∧ ¬ Ft4 lb) := by
      have a1 := HC.out.size
      have a2 := HSZ.out
      have a3 := HC3.out.size
      have a4 := HLB.out
      have a5 := HLS.out
      refine ⟨((((HC.out.mono fun _ _ h => h.elim).trans HK2.out (fun _ h _ => h)).trans HC3.out (fun _ h _ => h.elim)).trans hk4 (fun x hx hlt => ?_)), hr4, hl4, fun k hk => ?_, fun hx => ?_⟩
      · rcases hx with hx | rfl
        · exact (HF2.out x hx).resolve_right (by omega)
        · omega
      · rcases hf4 k hk with h | h
        · exact (HF2.out k h).imp id (fun h => by omega)
        · exact .inr (by omega)
      · rcases hf4 lb hx with h | h
        · exact HN2.out h
        · omega
    clear hK K hS hb4 hk4 hr4 hl4 hf4
    (try simp only [Act.put, List.setIfInBounds_toArray, List.set_cons_zero, List.set_cons_succ, List.getElem_toArray, List.getElem_cons_zero, List.getElem_cons_succ])
    iterate 4 (refine wpSch_take (v := ?_) rfl (by rfl) ?_ ?_; rotate_left; (· (intro w' hS; (try dsimp only at hS); go_simp; try with_reducible rfl)); (try simp only [Act.put, List.setIfInBounds_toArray, List.set_cons_zero, List.set_cons_succ, List.getElem_toArray, List.getElem_cons_zero, List.getElem_cons_succ]))
    refine wpSch_end ?_
    simp only [List.drop_succ_cons, List.drop_zero]
    rcases Decidable.em (e2 = 0) with he2 | he2
    · subst he2
      go_wp2
      go_ret2
      exact ⟨lb, rfl, HLS.out, HB4.out, H4.out.1, Ft4, H4.out.2.1, H4.out.2.2.1, H4.out.2.2.2.1, H4.out.2.2.2.2⟩
    · go_wp2
      go_ret2
      exact .inr (.inl ⟨trivial, he2, rfl, H4.out.1, Ft4, H4.out.2.1, H4.out.2.2.1, H4.out.2.2.2.1⟩)
  · go_enter Tryz.func142, Tryz.ntmps142
    go_wp2_with (first
      | (go_at_call 106; refine LO.out.mono ?_; rintro e w1 ⟨lb, rfl, hb, hc, hls⟩; have HB := hide hb; have HC := hide hc; have HLS := hide hls; clear hb hc hls)
      | (go_at_call 162; refine (HCR.out _ _ HC.out HB.out).mono ?_; rintro e w2 ⟨rfl, hA⟩; have HA := hide hA; clear hA))
    go_ret2
    exact .inl ⟨he1, rfl, HA.out.before HC.out⟩
end
end Go.Proofs.YtfaeidbgdcincaaGreatDoor
/- Points in the order of their times, as lists: what putting one does, what a question finds. Plain mathematics, no walk. -/
namespace Go.Proofs.YtfaeidbgdcincaaGreatDoor

/-- A point: its time, its value. -/
abbrev Pt := Int × Int
/-- A point comes to a row: in place of one at its time. -/
def insP : List Pt → Int → Int → List Pt
  | [], t, v => [(t, v)]
  | (a, b) :: r, t, v => if a < t then (a, b) :: insP r t v else if a = t then (t, v) :: r else (t, v) :: (a, b) :: r
def Sorted (l : List Pt) : Prop := l.Pairwise fun x y => x.1 < y.1
theorem insP_mem {l : List Pt} {t v : Int} {x : Pt} (h : x ∈ insP l t v) : x = (t, v) ∨ x ∈ l := by
  induction l with
  | nil => simp [insP] at h; exact .inl h
  | cons e r ih =>
    obtain ⟨a, b⟩ := e
    simp only [insP] at h
    split at h
    · rcases List.mem_cons.1 h with h | h
      · exact .inr (by simp [h])
      · rcases ih h with h | h
        · exact .inl h
        · exact .inr (List.mem_cons_of_mem _ h)
    · split at h
      · rcases List.mem_cons.1 h with h | h
        · exact .inl h
        · exact .inr (List.mem_cons_of_mem _ h)
      · rcases List.mem_cons.1 h with h | h
        · exact .inl h
        · exact .inr h
theorem insP_sorted {l : List Pt} (h : Sorted l) (t v : Int) : Sorted (insP l t v) := by
  induction l with
  | nil => simp [insP, Sorted]
  | cons e r ih =>
    obtain ⟨a, b⟩ := e
    have h' := List.pairwise_cons.1 h
    simp only [insP]
    split
    · rename_i hlt
      refine List.pairwise_cons.2 ⟨fun x hx => ?_, ih h'.2⟩
      rcases insP_mem hx with rfl | hx
      · exact hlt
      · exact h'.1 x hx
    · rename_i hlt
      split
      · rename_i he
        subst he
        exact List.pairwise_cons.2 ⟨fun x hx => h'.1 x hx, h'.2⟩
      · rename_i he
        refine List.pairwise_cons.2 ⟨fun x hx => ?_, h⟩
        rcases List.mem_cons.1 hx with rfl | hx
        · show t < a; omega
        · have := h'.1 x hx; show t < x.1; simp only at this; omega
/-- Where a time stands, or would stand. -/
def posP (l : List Pt) (t : Int) : Nat := (l.takeWhile fun x => decide (x.1 < t)).length
theorem posP_le (l : List Pt) (t : Int) : posP l t ≤ l.length := by
  unfold posP; exact (List.takeWhile_sublist _).length_le
theorem posP_lt {l : List Pt} {t : Int} {i : Nat} (h : i < posP l t) (hl : i < l.length) : (l[i]'hl).1 < t := by
  unfold posP at h
  induction l generalizing i with
  | nil => simp at hl
  | cons e r ih =>
    by_cases he : e.1 < t
    · simp only [List.takeWhile_cons, he, decide_true, if_true, List.length_cons] at h
      cases i with
      | zero => exact he
      | succ i => simp only [List.getElem_cons_succ]; exact ih (by omega) _
    · simp [he] at h
theorem posP_ge {l : List Pt} (hs : Sorted l) {t : Int} {i : Nat} (h : posP l t ≤ i) (hl : i < l.length) : t ≤ (l[i]'hl).1 := by
  unfold posP at h
  induction l generalizing i with
  | nil => simp at hl
  | cons e r ih =>
    have hs' := List.pairwise_cons.1 hs
    by_cases he : e.1 < t
    · simp only [List.takeWhile_cons, he, decide_true, if_true, List.length_cons] at h
      cases i with
      | zero => omega
      | succ i => simp only [List.getElem_cons_succ]; exact ih hs'.2 (by omega) _
    · cases i with
      | zero => simp only [List.getElem_cons_zero]; omega
      | succ i =>
        have := hs'.1 (r[i]'(by simpa using hl)) (List.getElem_mem _)
        simp only [List.getElem_cons_succ]; omega
/-- The one place with that property. -/
theorem posP_unique {l : List Pt} (hs : Sorted l) {t : Int} {k : Nat} (hk : k ≤ l.length) (h1 : ∀ i (hi : i < l.length), i < k → (l[i]'hi).1 < t) (h2 : ∀ i (hi : i < l.length), k ≤ i → t ≤ (l[i]'hi).1) : posP l t = k := by
  rcases Nat.lt_trichotomy (posP l t) k with h | h | h
  · have hl : posP l t < l.length := by omega
    have := h1 _ hl h
    have := posP_ge hs (Nat.le_refl (posP l t)) hl
    omega
  · exact h
  · have hp := posP_le l t
    have hl : k < l.length := by omega
    have := posP_lt h hl
    have := h2 k hl (Nat.le_refl k)
    omega
theorem insP_eq (l : List Pt) (t v : Int) : insP l t v = l.take (posP l t) ++ (t, v) :: (if (l[posP l t]?).any (fun x => x.1 == t) then l.drop (posP l t + 1) else l.drop (posP l t)) := by
  unfold posP
  induction l with
  | nil => simp [insP]
  | cons e r ih =>
    obtain ⟨a, b⟩ := e
    simp only [insP]
    by_cases he : a < t
    · simp only [he, if_true, List.takeWhile_cons, decide_true, List.length_cons, List.take_succ_cons, List.drop_succ_cons, List.getElem?_cons_succ, List.cons_append, ih]
    · by_cases hq : a = t
      · subst hq; simp
      · simp [he, hq]
theorem insP_filter {l : List Pt} (hs : Sorted l) (p : Int → Bool) (t v : Int) : (insP l t v).filter (fun x => p x.1) = if p t then insP (l.filter fun x => p x.1) t v else l.filter (fun x => p x.1) := by
  induction l with
  | nil => by_cases hp : p t <;> simp [insP, hp]
  | cons e r ih =>
    obtain ⟨a, b⟩ := e
    have hs' := List.pairwise_cons.1 hs
    have ih := ih hs'.2
    simp only [insP]
    by_cases he : a < t
    · simp only [he, if_true, List.filter_cons, ih]
      by_cases hp : p t <;> by_cases ha : p a <;> simp [hp, ha, insP, he]
    · by_cases hq : a = t
      · subst hq
        simp only [he, if_false, if_true, List.filter_cons]
        by_cases hp : p a <;> simp [hp, insP]
      · simp only [he, hq, if_false, List.filter_cons]
        by_cases hp : p t
        · by_cases ha : p a
          · simp [hp, ha, insP, he, hq]
          · simp only [hp, ha, if_true]
            -- all that is left is later
            have hall : ∀ x ∈ r.filter (fun x => p x.1), t < x.1 := fun x hx => by
              have := hs'.1 x (List.mem_filter.1 hx).1
              simp only at this; omega
            cases hr : r.filter (fun x => p x.1) with
            | nil => simp [insP]
            | cons y ys =>
              obtain ⟨c, d⟩ := y
              have := hall (c, d) (by rw [hr]; simp)
              simp only at this
              have h1 : ¬ c < t := by omega
              have h2 : ¬ c = t := by omega
              simp [insP, h1, h2]
        · by_cases ha : p a <;> simp [hp, ha]
theorem Sorted.filter {l : List Pt} (h : Sorted l) (p : Pt → Bool) : Sorted (l.filter p) := List.Pairwise.filter p h
theorem Sorted.drop {l : List Pt} (h : Sorted l) (k : Nat) : Sorted (l.drop k) := List.Pairwise.sublist (List.drop_sublist k l) h
/-- Those from one time to another stand in one piece. -/
theorem filter_piece {l : List Pt} (hs : Sorted l) (a b : Int) : l.filter (fun x => decide (a ≤ x.1) && decide (x.1 < b)) = (l.take (posP l b)).drop (posP l a) := by
  unfold posP
  induction l with
  | nil => simp
  | cons e r ih =>
    have hs' := List.pairwise_cons.1 hs
    have ih := ih hs'.2
    by_cases hb : e.1 < b
    · by_cases ha : e.1 < a
      · have : ¬ a ≤ e.1 := by omega
        simp [ha, hb, this, ih]
      · have h1 : a ≤ e.1 := by omega
        have hz : r.takeWhile (fun x => decide (x.1 < a)) = [] := by
          cases r with
          | nil => rfl
          | cons y ys => have := hs'.1 y (by simp); rw [List.takeWhile_cons]; have : ¬ y.1 < a := by omega
                         simp [this]
        simp only [hz, List.length_nil, List.drop_zero] at ih
        simp [ha, hb, h1, ih]
    · have hf : ∀ x ∈ r, ¬ x.1 < b := fun x hx => by have := hs'.1 x hx; omega
      have : r.filter (fun x => decide (a ≤ x.1) && decide (x.1 < b)) = [] := by
        rw [List.filter_eq_nil_iff]; intro x hx; have := hf x hx; simp [this]
      simp [hb, this]
end Go.Proofs.YtfaeidbgdcincaaGreatDoor
/- Walks: the document's answer: Config, Series, Alive, Ticked. -/
namespace Go.Proofs.YtfaeidbgdcincaaGreatDoor
open Go.RowKit
attribute [local go_sem ↓] Go.wp_at_zero Go.wp_at_succ

/-- Is a point of this time alive? -/
def aliveB (t life clock : Int) : Bool := decide (t + life > clock)
def In64 (x : Int) : Prop := -9223372036854775808 ≤ x ∧ x ≤ 9223372036854775807
set_option maxRecDepth 100000 in
set_option maxHeartbeats 400000 in
theorem alive_any (t life clock : Int) (w : World) (ht : In64 t) (hl : 1 ≤ life ∧ life ≤ 4611686018427387904) (hc : In64 clock) (hg : clock ≤ 9223372036854775807) :
    Calls Tryz.prog 101 #[.int .i64 t, .int .i64 life, .int .i64 clock] w fun e w' => e = .returned (.bool (aliveB t life clock)) ∧ w = w' := by
  obtain ⟨t1, t2⟩ := ht
  obtain ⟨l1, l2⟩ := hl
  obtain ⟨c1, c2⟩ := hc
  by_cases h : 9223372036854775807 - life < t
  · have q : Hid (aliveB t life clock = true) := by unfold Hid aliveB; simp; omega
    have hd : decide (9223372036854775807 - life < t) = true := by simpa using h
    go_enter Tryz.func101, Tryz.ntmps101
    go_wp2
    go_ret
    rw [q.out]
    exact ⟨rfl, rfl⟩
  · have h' : t ≤ 9223372036854775807 - life := by omega
    have hw : t + life ≤ 9223372036854775807 := by omega
    by_cases h2 : clock < t + life
    · have q : Hid (aliveB t life clock = true) := by unfold Hid aliveB; simp; omega
      go_enter Tryz.func101, Tryz.ntmps101
      go_wp2
      go_ret
      rw [q.out]
      exact ⟨rfl, rfl⟩
    · have q : Hid (aliveB t life clock = false) := by unfold Hid aliveB; simp; omega
      have h2' : t + life ≤ clock := by omega
      go_enter Tryz.func101, Tryz.ntmps101
      go_wp2
      go_ret
      rw [q.out]
      exact ⟨rfl, rfl⟩
def tickedN (clock ticks : Int) : Int := if clock > 9223372036854775807 - ticks then 9223372036854775807 else clock + ticks
set_option maxRecDepth 100000 in
set_option maxHeartbeats 400000 in
theorem ticked_any (clock ticks : Int) (w : World) (hc : In64 clock) (ht : 0 ≤ ticks ∧ ticks ≤ 9223372036854775807) :
    Calls Tryz.prog 39 #[.int .i64 clock, .int .i64 ticks] w fun e w' => e = .returned (.int .i64 (tickedN clock ticks)) ∧ w = w' := by
  obtain ⟨c1, c2⟩ := hc
  obtain ⟨t1, t2⟩ := ht
  by_cases h : 9223372036854775807 - ticks < clock
  · have q : Hid (tickedN clock ticks = 9223372036854775807) := by unfold Hid tickedN; rw [if_pos h]
    go_enter Tryz.func39, Tryz.ntmps39
    go_wp2
    go_ret
    rw [q.out]
    exact ⟨rfl, rfl⟩
  · have q : Hid (tickedN clock ticks = clock + ticks) := by unfold Hid tickedN; rw [if_neg h]
    have h1 : clock ≤ 9223372036854775807 - ticks := by omega
    have h2 : clock + ticks ≤ 9223372036854775807 := by omega
    have h3 : -9223372036854775808 ≤ clock + ticks := by omega
    go_enter Tryz.func39, Tryz.ntmps39
    go_wp2
    go_ret
    rw [q.out]
    exact ⟨rfl, rfl⟩
def isSer (s : Int) : Bool := decide (0 ≤ s) && decide (s < 8)
set_option maxRecDepth 100000 in
set_option maxHeartbeats 400000 in
theorem refSeries_any (s : Int) (w : World) : Calls Tryz.prog 82 #[.int .i64 s] w fun e w' => e = .returned (.bool (isSer s)) ∧ w = w' := by
  by_cases h : 0 ≤ s
  · by_cases h2 : s < 8
    · have q : Hid (isSer s = true) := by unfold Hid isSer; simp [h, h2]
      go_enter Tryz.func82, Tryz.ntmps82
      go_wp2
      go_ret
      rw [q.out]; exact ⟨rfl, rfl⟩
    · have q : Hid (isSer s = false) := by unfold Hid isSer; simp [h2]
      have h2' : 8 ≤ s := by omega
      go_enter Tryz.func82, Tryz.ntmps82
      go_wp2
      go_ret
      rw [q.out]; exact ⟨rfl, rfl⟩
  · have q : Hid (isSer s = false) := by unfold Hid isSer; simp [h]
    have h' : s < 0 := by omega
    go_enter Tryz.func82, Tryz.ntmps82
    go_wp2
    go_ret
    rw [q.out]; exact ⟨rfl, rfl⟩
end Go.Proofs.YtfaeidbgdcincaaGreatDoor
/- Walks: a store's small functions: isSeries, isSpan, oldest. -/
namespace Go.Proofs.YtfaeidbgdcincaaGreatDoor
open Go.RowKit

set_option maxRecDepth 100000 in
set_option maxHeartbeats 1000000 in
theorem isSeries_any (w : World) (x : Int) : Calls Tryz.prog 58 #[.int .i64 x] w fun e w' => e = .returned (.bool (decide (0 ≤ x ∧ x < 8))) ∧ w = w' := by
  obtain ⟨q, hq⟩ : ∃ q, decide (0 ≤ x ∧ x < 8) = q := ⟨_, rfl⟩
  rw [hq]
  have HQ := hide hq
  clear hq
  by_cases h1 : 0 ≤ x <;> by_cases h2 : x < 8
  all_goals try (exfalso; omega)
  all_goals
    go_enter Tryz.func58, Tryz.ntmps58
    go_wp2
    go_ret
    refine ⟨?_, rfl⟩
    rw [← HQ.out]
    simp
    try omega
set_option maxRecDepth 100000 in
set_option maxHeartbeats 1000000 in
theorem isSpan_any (w : World) (x : Int) : Calls Tryz.prog 53 #[.int .i64 x] w fun e w' => e = .returned (.bool (decide (1 ≤ x ∧ x ≤ 4611686018427387904))) ∧ w = w' := by
  obtain ⟨q, hq⟩ : ∃ q, decide (1 ≤ x ∧ x ≤ 4611686018427387904) = q := ⟨_, rfl⟩
  rw [hq]
  have HQ := hide hq
  clear hq
  by_cases h1 : 1 ≤ x <;> by_cases h2 : x ≤ 4611686018427387904
  all_goals try (exfalso; omega)
  all_goals
    go_enter Tryz.func53, Tryz.ntmps53
    go_wp2
    go_ret
    refine ⟨?_, rfl⟩
    rw [← HQ.out]
    simp
    try omega
/-- The least time at which a point is alive. -/
def oldestN (clock life : Int) : Int := if clock < -9223372036854775808 + life then -9223372036854775808 else clock - life + 1
theorem oldest_alive (clock life t : Int) (ht : In64 t) : decide (oldestN clock life ≤ t) = aliveB t life clock := by
  obtain ⟨t1, t2⟩ := ht
  unfold oldestN aliveB
  split <;> simp <;> omega
set_option maxRecDepth 100000 in
set_option maxHeartbeats 1000000 in
theorem oldest_any (w : World) (sb : Nat) (clock life : Int) (c3 : w.cell? ⟨sb, 3, none⟩ = some (.int .i64 life)) (c4 : w.cell? ⟨sb, 4, none⟩ = some (.int .i64 clock)) (hl : 1 ≤ life ∧ life ≤ 4611686018427387904) (hc : In64 clock) :
    Calls Tryz.prog 64 #[.pointer (some ⟨sb, 0, none⟩)] w fun e w' => e = .returned (.int .i64 (oldestN clock life)) ∧ Chg (fun _ => False) w w' := by
  obtain ⟨l1, l2⟩ := hl
  obtain ⟨k1, k2⟩ := hc
  have ew : IntKind.i64.wrap (-9223372036854775808 + life) = -9223372036854775808 + life := by simp [IntKind.wrap, IntKind.bits, IntKind.signed]; omega
  go_enter Tryz.func64, Tryz.ntmps64
  go_wp2
  refine wp_region_sch (fun w' => w'.cell? ⟨sb, 3, none⟩ = some (.int .i64 life) ∧ w'.cell? ⟨sb, 4, none⟩ = some (.int .i64 clock)) 9
    [(0, true), (1, true), (2, true), (3, true), (4, true), (5, true), (6, true), (7, true), (8, true)] (by kernel_rfl) (by kernel_rfl) (fun _ _ _ _ _ h => h) ⟨c3, c4⟩ ?_
  iterate 9 (refine wpSch_take (v := ?_) rfl (by rfl) ?_ ?_; rotate_left; (· (intro w' hS; (try dsimp only at hS); go_simp; try with_reducible rfl)); (try simp only [Act.put, List.setIfInBounds_toArray, List.set_cons_zero, List.set_cons_succ, List.getElem_toArray, List.getElem_cons_zero, List.getElem_cons_succ]))
  refine wpSch_end ?_
  simp only [List.drop_succ_cons, List.drop_zero]
  have d3 : w.drew.cell? ⟨sb, 3, none⟩ = some (.int .i64 life) := c3
  have d4 : w.drew.cell? ⟨sb, 4, none⟩ = some (.int .i64 clock) := c4
  have HC : Hid (Chg (fun _ => False) w w.drew) := (Chg.refl _ w).drew
  generalize w.drew = w1 at d3 d4 HC ⊢
  clear c3 c4
  by_cases h : clock < -9223372036854775808 + life
  · have hq : Hid (oldestN clock life = -9223372036854775808) := by unfold Hid oldestN; rw [if_pos h]
    go_wp2
    go_ret
    rw [hq.out]
    exact ⟨rfl, HC.out⟩
  · have hq : Hid (oldestN clock life = clock - life + 1) := by unfold Hid oldestN; rw [if_neg h]
    have ew2 : IntKind.i64.wrap (clock - life) = clock - life := by simp [IntKind.wrap, IntKind.bits, IntKind.signed]; omega
    have ew3 : IntKind.i64.wrap (clock - life + 1) = clock - life + 1 := by simp [IntKind.wrap, IntKind.bits, IntKind.signed]; omega
    go_wp2
    refine wp_region_sch (fun w' => w'.cell? ⟨sb, 3, none⟩ = some (.int .i64 life) ∧ w'.cell? ⟨sb, 4, none⟩ = some (.int .i64 clock)) 10
      [(0, true), (1, true), (2, true), (3, true), (4, true), (5, true), (6, true), (7, true), (8, true), (9, true)] (by kernel_rfl) (by kernel_rfl) (fun _ _ _ _ _ h => h) ⟨d3, d4⟩ ?_
    iterate 10 (refine wpSch_take (v := ?_) rfl (by rfl) ?_ ?_; rotate_left; (· (intro w' hS; (try dsimp only at hS); go_simp; try with_reducible rfl)); (try simp only [Act.put, List.setIfInBounds_toArray, List.set_cons_zero, List.set_cons_succ, List.getElem_toArray, List.getElem_cons_zero, List.getElem_cons_succ]))
    refine wpSch_end ?_
    simp only [List.drop_succ_cons, List.drop_zero]
    go_wp2
    go_ret
    rw [hq.out]
    exact ⟨rfl, HC.out.drew⟩
end Go.Proofs.YtfaeidbgdcincaaGreatDoor
/- Laws of copy and of append(s[:i], make(S, n)...), elements of any number of cells. No walk. -/
namespace Go.Proofs.YtfaeidbgdcincaaGreatDoor
open Go.RowKit
section
variable {P : Program}
theorem run_copy_u (w : World) (dT sT ty elem : TypeId) (i : TypeInfo) (size : Nat) (g o dLen dCap : Nat) (a : Addr) (sLen sCap k : Nat) (cur : Array Value) (t : TypeId) (cs : List Value)
    (hu : P.underlying dT = some (.slice elem)) (hi : P.info? elem = some i) (hsize : i.size = size) (hg : w.heap[g]? = some (.cells cur t (0, 0))) (hn : Nat.min sLen dLen = k) (hcl : cs.length = k * size)
    (hsrc : ∀ j v, cs[j]? = some v → w.cell? (a.add j) = some v) (hfit : o + cs.length ≤ cur.size) (h1 : ∀ v ∈ cs, v.oneCell' = true) :
    (Builtin.copy_ #[dT, sT] ty #[.slice (some ⟨g, o, none⟩) dLen dCap, .slice (some a) sLen sCap]).run P w =
      .ok (goInt k) (w.setRow g (cur.toList.take o ++ cs ++ cur.toList.drop (o + cs.length)).toArray) := by
  subst hsize
  have hf := run_firstCells_some (P := P) w i.size k a sLen sCap cs hcl hsrc
  have hst := run_storeCells_at P g o t cs 0 cur w hg (by simpa using hfit) h1
  simp only [Nat.add_zero] at hst
  simp [Builtin.copy_, run_underlying hu, Builtin.lenOf, sizeOf, typeInfo, hi, hn, hf, hst]
/-- append(s[:i], make(S, n)...), where there is no room: a new row. -/
theorem run_append_zeros_grow (w : World) (t tn ty e : TypeId) (i : TypeInfo) (z : Value) (kn : IntKind) (ht : P.underlying t = some (.slice e)) (htn : P.underlying tn = some (.int kn)) (hi : P.info? e = some i) (hz : i.zero = some z) (hs0 : 0 < i.size)
    (base : Option Addr) (len cap : Nat) (olds : List Value) (hold : (Builtin.firstCells i.size len (.slice base len cap)).run P w.drew = .ok olds.toArray w.drew) (n : Nat) (h0 : 0 < n) (hgrow : cap < len + n)
    (h63 : ((len + n : Nat) : Int) ≤ 9223372036854775807) (h48 : n * i.bytes ≤ 281474976710656) (hcap : Builtin.nextslicecap (len + n) cap * i.bytes ≤ 281474976710656) :
    (Builtin.append_ #[t, tn] ty #[.slice base len cap, .int .i64 n]).run P w =
      .ok (.slice (some ⟨w.heap.size, 0, none⟩) (len + n) (grownCap w (len + n) cap e)) (w.drew.alloc (.cells (olds.toArray ++ Builtin.zeroCells z.cells n ++ Builtin.zeroCells z.cells (grownCap w (len + n) cap e - (len + n))) e)) := by
  have hw : IntKind.i64.wrap (n : Int) = n := by rw [IntKind.wrap_i64]; omega
  have hneg : ¬ ((n : Int) < 0) := by omega
  have h48i : ¬ (281474976710656 < (n : Int) * (i.bytes : Int)) := by rw [← Int.natCast_mul]; omega
  have hns : ¬ (n * i.size = 0) := Nat.mul_ne_zero (by omega) (by omega)
  have hroom : ¬ (len + n ≤ cap) := by omega
  have hcap' : ¬ (281474976710656 < Builtin.nextslicecap (len + n) cap * i.bytes) := by omega
  have h63a : ¬ (9223372036854775807 < (len : Int) + (n : Int)) := by omega
  simp [Builtin.append_, run_underlying ht, run_underlying htn, sizeOf, typeInfo, zeroValue, hi, hz, asInt, asIntOf, hw, hneg, hns, h48i, hroom, hcap', h63a, Question.forced, hold, newRow, grownCap]
/-- Which cells a row of its own has, spare room too. -/
theorem ownsRow_block {w : World} {base e size n g cap : Nat} {xs : List Value} (h : w.ownsRow base e size (.slice (some ⟨g, 0, none⟩) n cap) n xs) : ∃ cur : Array Value, w.heap[g]? = some (.cells cur e (0, 0)) ∧ cur.size = cap * size ∧ cur.toList.take (n * size) = xs ∧ n ≤ cap ∧ cap ≤ maxLen := by
  rcases h.2 with ⟨h1, _⟩ | ⟨g', cap', cur, h1, _, hg, hnc, hcm, hcs, ht⟩
  · cases h1
  · cases h1; exact ⟨cur, hg, hcs, ht, hnc, hcm⟩
end
end Go.Proofs.YtfaeidbgdcincaaGreatDoor
