/-
  The statement PassingCardSaid is proved: the law Passing answers true, at every four numbers; there is no condition.
  Part 13 of 34.
-/
import Derived.Test.YtodcnkbblippnaaGreatDoorPart12
/- Walks: a name is read: Named, whatever the name is. -/
namespace Go.Proofs.YtodcnkbblippnaaGreatDoor
open Go.RowKit
attribute [local go_sem ↓] Go.wp_at_zero Go.wp_at_succ

/-- The library's two errors are there. -/
def ErrC (w : World) : Prop :=
  (∃ ev, w.cell? ⟨1, 0, none⟩ = some ev ∧ (ev = .nilIface ∨ ∃ te pe, ev = .iface te pe)) ∧ ∃ ev, w.cell? ⟨2, 0, none⟩ = some ev ∧ (ev = .nilIface ∨ ∃ te pe, ev = .iface te pe)
theorem ErrC.keep0 {w w' : World} (h : ErrC w) (hc : Chg (fun _ => False) w w') : ErrC w' := by
  obtain ⟨⟨e1, h1, k1⟩, e2, h2, k2⟩ := h
  exact ⟨⟨e1, hc.cellKeep h1, k1⟩, e2, hc.cellKeep h2, k2⟩
theorem isNum_sat (s : List UInt8) : isNum (Lib.atoiSat s) = false := by
  unfold Lib.atoiSat
  split <;> rfl
theorem atoi_all (w : World) (s : List UInt8) (hl : s.length ≤ 281474976710656) (he : ErrC w) :
    Calls Tryz.prog 131 #[.string ⟨s.toArray⟩] w fun e w' => ∃ v er, e = .returned (.tuple #[.int .i64 v, er]) ∧ AtoiAns s v ∧ Chg (fun _ => False) w w' := by
  obtain ⟨⟨e1, h1, k1⟩, e2, h2, k2⟩ := he
  have hs : (ByteArray.mk s.toArray).size = s.length := by show s.toArray.size = _; simp
  have hd : (ByteArray.mk s.toArray).data.toList = s := by simp
  cases hr : Lib.atoiAll s with
  | ok v =>
    refine (Tryz.strconv_Atoi_ok ⟨s.toArray⟩ (by omega) v (by rw [hd]; exact hr) w).mono ?_
    rintro e w' ⟨rfl, hw⟩
    refine ⟨v, _, rfl, .inl hr, ?_⟩
    rcases hw with rfl | ⟨t, rfl⟩
    · exact Chg.refl _ _
    · exact Chg.ofBelow (Lib.bytesWorld_below _ _ _)
  | «syntax» =>
    refine (Tryz.strconv_Atoi_syntax ⟨s.toArray⟩ (by omega) (by rw [hd]; exact hr) e1 w h1 k1).mono ?_
    rintro e w' ⟨N, rfl, -, -, hb⟩
    exact ⟨0, _, rfl, .inr ⟨fun x h => (by rw [hr] at h; cases h), rfl, fun _ => rfl⟩, Chg.ofBelow hb⟩
  | range =>
    refine (Tryz.strconv_Atoi_range ⟨s.toArray⟩ (by omega) (by rw [hd]; exact hr) e2 w h2 k2).mono ?_
    rintro e w' ⟨N, rfl, -, -, hb⟩
    have hn : s ≠ [] := by
      rintro rfl
      have : Lib.atoiAll [] = .syntax := by decide +kernel
      rw [this] at hr; cases hr
    exact ⟨Lib.atoiSat s, _, (by rw [hd]), .inr ⟨fun x h => (by rw [hr] at h; cases h), isNum_sat s, fun h => absurd h hn⟩, Chg.ofBelow hb⟩
set_option maxRecDepth 100000 in
theorem isNumber_any (w : World) (v : Int) : Calls Tryz.prog 128 #[.int .i64 v] w fun e w' => e = .returned (.bool (isNum v)) ∧ w = w' := by
  unfold isNum
  go_enter Tryz.func128, Tryz.ntmps128
  by_cases h1 : 1 ≤ v
  · by_cases h2 : v ≤ 4611686018427387904
    · go_wp2
      go_ret
      exact ⟨by simp [h1, h2], rfl⟩
    · go_wp2
      go_ret
      exact ⟨by simp [h2], rfl⟩
  · have e : decide (1 ≤ v ∧ v ≤ 4611686018427387904) = false := decide_eq_false fun h => h1 h.1
    rw [e]
    go_wp2
    go_ret
    exact ⟨rfl, rfl⟩
section
variable {w : World} {B : Nat}
set_option maxRecDepth 100000 in
set_option maxHeartbeats 4000000 in
theorem named_any (w : World) (nm : List UInt8) (hl : nm.length ≤ 281474976710656) (he : ErrC w) (hL : Lets B w) :
    Calls Tryz.prog 97 #[.string ⟨nm.toArray⟩] w fun e w' => e = .returned (.tuple #[.int .i64 (namedP nm).1, .int .i64 (namedP nm).2]) ∧ Chg (fun _ => False) w w' := by
  have TP : Hid (∀ (wr : World) (k : Nat), Calls Tryz.prog 132 #[.string ⟨nm.toArray⟩, .string ⟨(ltr k).toArray⟩] wr fun e w' => e = .returned (.string ⟨(Lib.trimPrefix nm (ltr k)).toArray⟩) ∧ w' = wr) := fun wr k => by
    have := Tryz.strings_TrimPrefix ⟨nm.toArray⟩ ⟨(ltr k).toArray⟩ wr
    simpa using this
  have CE : Hid (∀ wr : World, Chg (fun _ => False) w wr → ∀ k : Nat, 1 ≤ k → k ≤ 4 → wr.cell? ⟨0, k, none⟩ = some (.string ⟨(ltr k).toArray⟩)) := fun wr hc k h1 h2 => ((hL.keep0 hc).2 wr (Below.refl _ _)).1 k h1 h2
  have AT : Hid (∀ wr : World, Chg (fun _ => False) w wr → ∀ k : Nat, _) := fun wr hc k => atoi_all wr (Lib.trimPrefix nm (ltr k)) (Nat.le_trans (Lib.trimPrefix_le _ _) hl) (he.keep0 hc)
  have NO : Hid (∀ (wr : World) (k : Nat) (v : Int), Chg (fun _ => False) w wr → 1 ≤ k → k ≤ 4 → isNum v = decide ((k : Int) = 1 ∨ (k : Int) = 2) → Calls Tryz.prog 134 #[.int .i64 k, .int .i64 v] wr fun e w'' => e = .returned (.string ⟨(nmOf k v).toArray⟩) ∧ Chg (fun _ => False) wr w'') := fun wr k v hc h1 h2 h3 => by
    by_cases hk : k = 1 ∨ k = 2
    · rw [decide_eq_true (by omega)] at h3
      unfold isNum at h3
      have hv := of_decide_eq_true h3
      have hn := numOk_of (n := v) (by omega) hv.2
      exact nameOf_nm wr k ⟨h1, h2⟩ ⟨by omega, by omega⟩ hn.2.2 (hL.keep0 hc)
    · have e : nmOf k v = ltr k := by unfold nmOf; rw [if_neg (by omega)]
      rw [e]
      refine (nameOf_lone wr k (by omega) (ltr k) v (((hL.keep0 hc).2 wr (Below.refl _ _)).1 k h1 h2)).mono ?_
      rintro e w' ⟨rfl, rfl⟩
      exact ⟨rfl, Chg.refl _ _⟩
  obtain ⟨R, hR⟩ : ∃ R, namedP nm = R := ⟨_, rfl⟩
  have HR1 : Hid (namedFrom nm 1 = R) := by rw [namedFrom_1]; exact hR
  rw [hR]
  clear he hL hl hR
  go_enter Tryz.func97, Tryz.ntmps97
  go_wp2
  go_loopw [4, 5, 6] (fun iv _ _ wr => ∃ k : Nat, 1 ≤ k ∧ k ≤ 5 ∧ iv = .int .i64 k ∧ Hid (Chg (fun _ => False) w wr) ∧ Hid (namedFrom nm k = R)) (fun iv _ _ _ => 5 - (intOf iv).toNat)
  case atStart => exact ⟨1, by omega, by omega, rfl, Chg.refl _ _, HR1.out⟩
  case round =>
    obtain ⟨k, hk1, hk2, rfl, hc, HRk⟩ := hrel
    by_cases hk : k < 5
    · have ck := CE.out wr hc.out k hk1 (by omega)
      have TPk := hide (TP.out wr k)
      have ATk := hide (AT.out wr hc.out k)
      have hk0 : (0 : Int) ≤ (k : Int) := Int.natCast_nonneg _
      have hk5 : (k : Int) < 5 := by omega
      obtain ⟨tr, htr⟩ : ∃ tr, Lib.trimPrefix nm (ltr k) = tr := ⟨_, rfl⟩
      have HTR := hide htr
      rw [htr] at TPk ATk
      clear htr TP AT CE HR1
      go_wp2_with (first | (go_at_call 132; refine TPk.out.mono ?_; rintro e w1 ⟨rfl, rfl⟩) | (go_at_call 131; fail))
      refine ATk.out.mono ?_
      rintro e w1 ⟨v, er, rfl, hv, hc1⟩
      have TRY := named_try (k := k) ⟨hk1, by omega⟩ (by rw [HTR.out]; exact hv)
      have HC1 : Hid (Chg (fun _ => False) w w1) := hc.out.trans hc1 fun _ h _ => h
      have NOk := hide (NO.out w1 k v HC1.out hk1 (by omega))
      obtain ⟨nb, hnb⟩ : ∃ nb, isNum v = nb := ⟨_, rfl⟩
      obtain ⟨kb, hkb⟩ : ∃ kb, decide ((k : Int) = 1 ∨ (k : Int) = 2) = kb := ⟨_, rfl⟩
      rw [hnb, hkb] at TRY NOk
      have IN : Hid (∀ wr, Calls Tryz.prog 128 #[.int .i64 v] wr fun e w' => e = .returned (.bool nb) ∧ wr = w') := fun wr => by rw [← hnb]; exact isNumber_any wr v
      have ID : Hid (∀ wr, Calls Tryz.prog 133 #[.int .i64 k] wr fun e w' => e = .returned (.bool kb) ∧ wr = w') := fun wr => by rw [← hkb]; exact isNumbered_any wr k
      obtain ⟨n2, hn2⟩ : ∃ n2, nmOf k v = n2 := ⟨_, rfl⟩
      rw [hn2] at TRY NOk
      have HTRY := hide TRY
      clear hnb hkb hn2 TRY hv hc1 NO ATk TPk hc
      have NEXT : Hid (¬ (nb = kb ∧ n2 = nm) → namedFrom nm (k + 1) = R) := fun h => by have := HTRY.out; rw [if_neg h] at this; rw [← this]; exact HRk.out
      have HIT : Hid (nb = kb ∧ n2 = nm → R = ((k : Int), v)) := fun h => by have := HTRY.out; rw [if_pos h] at this; rw [← HRk.out]; exact this
      clear HTRY HRk
      by_cases hb : nb = kb
      · subst hb
        have hbb : (nb == nb) = true := beq_self_eq_true nb
        have NOl := hide (NOk.out rfl)
        clear NOk
        by_cases h3 : n2 = nm
        · subst h3
          have hR2 := HIT.out ⟨rfl, rfl⟩
          subst hR2
          have hb := beq_self_eq_true n2
          go_wp2_with (first | (go_at_call 128; refine (IN.out _).mono ?_; rintro e w2 ⟨rfl, rfl⟩) | (go_at_call 133; refine (ID.out _).mono ?_; rintro e w2 ⟨rfl, rfl⟩) | (go_at_call 134; refine NOl.out.mono ?_; rintro e w2 ⟨rfl, hc2⟩; have HC2 := hide hc2; clear hc2))
          go_ret2
          exact ⟨rfl, HC1.out.trans HC2.out fun _ h _ => h⟩
        · have hb : (n2 == nm) = false := beq_eq_false_iff_ne.2 h3
          have hN := hide (NEXT.out fun h => h3 h.2)
          go_wp2_with (first | (go_at_call 128; refine (IN.out _).mono ?_; rintro e w2 ⟨rfl, rfl⟩) | (go_at_call 133; refine (ID.out _).mono ?_; rintro e w2 ⟨rfl, rfl⟩) | (go_at_call 134; refine NOl.out.mono ?_; rintro e w2 ⟨rfl, hc2⟩; have HC2 := hide hc2; clear hc2))
          go_roundw
          case rel => exact ⟨k + 1, by omega, by omega, by go_num, HC1.out.trans HC2.out fun _ h _ => h, hN.out⟩
          case measure => simp [intOf]; omega
      · have hN := hide (NEXT.out fun h => hb h.1)
        have hbb : (nb == kb) = false := beq_eq_false_iff_ne.2 hb
        clear NOk HIT NEXT
        go_wp2_with (first | (go_at_call 128; refine (IN.out _).mono ?_; rintro e w2 ⟨rfl, rfl⟩) | (go_at_call 133; refine (ID.out _).mono ?_; rintro e w2 ⟨rfl, rfl⟩))
        go_roundw
        case rel => exact ⟨k + 1, by omega, by omega, by go_num, HC1.out, hN.out⟩
        case measure => simp [intOf]; omega
    · obtain rfl : k = 5 := by omega
      have hR2 : R = (0, 0) := by rw [← HRk.out, namedFrom_5]
      subst hR2
      go_wp2
      go_ret2
      exact ⟨rfl, hc.out⟩
end
end Go.Proofs.YtodcnkbblippnaaGreatDoor
/- The store's files, journal and archive: what each call makes of a disk, as pure functions. No walk. -/
namespace Go.Proofs.YtodcnkbblippnaaGreatDoor
open Go.RowKit

/-! ## Files of pieces -/
def pieceB (s : Nat) (l : Bs) : Bs := l ++ sumB (sumOn s l)
def PD.add (P : PD) (nm : ByteArray) (s : Nat) (l : Bs) : Bool × Int × PD :=
  (addOk P.D P.F nm (pieceB s l), (P.append nm (pieceB s l)).1, (P.append nm (pieceB s l)).2)
/-- A file of one piece is made, and made safe. -/
def PD.write (P : PD) (nm : Bs) (s : Nat) (l : Bs) : Int × PD :=
  if (P.create (nmB nm)).1 ≠ 0 then P.create (nmB nm) else
  if ((P.create (nmB nm)).2.add (nmB nm) s l).2.1 ≠ 0 then ((P.create (nmB nm)).2.add (nmB nm) s l).2 else
  ((P.create (nmB nm)).2.add (nmB nm) s l).2.2.sync (nmB nm)
def PD.all (P : PD) (nm : Bs) : Bs × Int := allN P.D P.F (nmB nm)
def unsealN (s : Nat) (t : Bs) : Option Bs :=
  if t.length < 4 then none else if sumB (sumOn s (t.take (t.length - 4))) = t.drop (t.length - 4) then some (t.take (t.length - 4)) else none
/-- A file of one piece is read. -/
def PD.read (P : PD) (nm : Bs) : Bs × Int :=
  if (P.all nm).2 ≠ 0 then ([], (P.all nm).2) else match unsealN (sum0 nm) (P.all nm).1 with
  | some d => (d, 0)
  | none => ([], 7)

/-! ## The index -/
def intsK : Nat → Bs → List Int
  | 0, _ => []
  | k + 1, l => if l.length < 8 then [] else intN l :: intsK k (l.drop 8)
def intsN (l : Bs) : List Int := intsK l.length l
def riseB {α : Type} (cmp : α → α → Int) : List α → Bool
  | [] => true
  | [_] => true
  | x :: y :: r => decide (cmp x y < 0) && riseB cmp (y :: r)
def cmpI (x y : Int) : Int := if x < y then -1 else if y < x then 1 else 0
structure Ix where
  first : Int
  segs : List Int
/-- What the index tells; none: it is spoilt. -/
def indexOf (d : Bs × Int) : Option Ix :=
  if d.2 = 8 then some ⟨1, []⟩ else
  if d.2 ≠ 0 ∨ intsN d.1 = [] ∨ d.1.length ≠ (intsN d.1).length * 8 then none else
  if (intsN d.1).all isNum = false then none else
  if riseB cmpI (intsN d.1).tail then some ⟨(intsN d.1).headD 0, (intsN d.1).tail⟩ else none
def PD.index (P : PD) : Option Ix := indexOf (P.read nmIdx)
def idxB (first : Int) (segs : List Int) : Bs := intB first ++ segs.flatMap intB
/-- Other segments and logs count. -/
def PD.turn (P : PD) (first : Int) (segs : List Int) : Int × PD :=
  if (P.write nmDrf (sum0 nmIdx) (idxB first segs)).1 ≠ 0 then P.write nmDrf (sum0 nmIdx) (idxB first segs) else
  (P.write nmDrf (sum0 nmIdx) (idxB first segs)).2.rename (nmB nmDrf) (nmB nmIdx)

/-! ## Segments -/
def putsB (l : List Pu) : Bs := l.flatMap fun p => putB p.1 p.2.1 p.2.2
def PD.newSeg (P : PD) (n : Int) (l : List Pu) : Int × PD := P.write (nmSeg n) (sum0 (nmSeg n)) (putsB l)
def cmpPu (p q : Pu) : Int := if cmpI p.1 q.1 ≠ 0 then cmpI p.1 q.1 else cmpI p.2.1 q.2.1
def putN (l : Bs) : Pu := (((l.headD 0).toNat : Int), intN (l.drop 1), intN (l.drop 9))
/-- The points that a segment's bytes tell; none: a series that there is not; what is left. -/
def segK : Nat → Bs → Option (List Pu × Bs)
  | 0, l => some ([], l)
  | k + 1, l => if l.length < 17 then some ([], l) else
    if (l.headD 0).toNat < 8 then (segK k (l.drop 17)).map fun r => (putN l :: r.1, r.2) else none
def segOf (d : Bs × Int) : Option (List Pu) :=
  if d.2 ≠ 0 then none else match segK d.1.length d.1 with
  | none => none
  | some (l, r) => if r = [] ∧ riseB cmpPu l = true then some l else none
def PD.seg (P : PD) (n : Int) : Option (List Pu) := segOf (P.read (nmSeg n))
def PD.segs (P : PD) : List Int → Option (List (Int × List Pu))
  | [] => some []
  | n :: r => match P.seg n with
    | none => none
    | some l => (P.segs r).map fun x => (n, l) :: x

/-! ## The journal -/
structure Jn where
  logs : List Int
  last : Int
  puts : Int
  own : Option (Int × Nat)
def PD.log (P : PD) (n : Int) (ahead : Int) : List Pu × Int := readLogN P.D P.F (nmLog n) ahead
def PD.putsK (P : PD) : List Int → List Pu → List Pu × Int
  | [], acc => (acc, 0)
  | n :: r, acc => if (P.log n acc.length).2 ≠ 0 then ([], (P.log n acc.length).2) else P.putsK r (acc ++ (P.log n acc.length).1)
def PD.puts (P : PD) (logs : List Int) : List Pu × Int := P.putsK logs []
def PD.names (P : PD) : List Bs := (dList P.D.dir).map fun b => b.data.toList
def logsOf (first : Int) (l : List Bs) : List Int := l.filterMap fun nm => if (namedP nm).1 = 1 ∧ first ≤ (namedP nm).2 then some (namedP nm).2 else none
def PD.journal (P : PD) (first : Int) : Jn := ⟨logsOf first P.names, (logsOf first P.names).getLastD (first - 1), (P.puts (logsOf first P.names)).1.length, none⟩
/-- The journal's own log is made. -/
def Jn.begin (J : Jn) (P : PD) : Int × Jn × PD :=
  if (P.create (nmB (nmLog (J.last + 1)))).1 ≠ 0 then ((P.create (nmB (nmLog (J.last + 1)))).1, J, (P.create (nmB (nmLog (J.last + 1)))).2) else
  let a := (P.create (nmB (nmLog (J.last + 1)))).2.add (nmB (nmLog (J.last + 1))) (sum0 (nmLog (J.last + 1))) (intB J.puts)
  if a.2.1 ≠ 0 then (a.2.1, J, a.2.2) else
  (0, ⟨J.logs ++ [J.last + 1], J.last + 1, J.puts, some (J.last + 1, sumOn (sum0 (nmLog (J.last + 1))) (intB J.puts))⟩, a.2.2)
/-- A Put is added to the own log. -/
def Jn.put (J : Jn) (P : PD) (p : Pu) : Bool × Int × Jn × PD := match J.own with
  | none => (false, 0, J, P)
  | some (n, s) =>
    let a := P.add (nmB (nmLog n)) s (putB p.1 p.2.1 p.2.2)
    (a.1, a.2.1, { J with own := some (n, sumOn s (putB p.1 p.2.1 p.2.2)) }, a.2.2)
def Jn.add (J : Jn) (P : PD) (p : Pu) : Bool × Int × Jn × PD :=
  if J.own = none then
    (if (J.begin P).1 ≠ 0 then (false, (J.begin P).1, (J.begin P).2.1, (J.begin P).2.2) else (J.begin P).2.1.put (J.begin P).2.2 p)
  else J.put P p
/-! ## The archive -/
structure Ar where
  ix : Ix
  j : Jn
  last : Int
  loose : List Bs
def Ar.names (A : Ar) : List Bs := nmIdx :: A.j.logs.map nmLog ++ A.ix.segs.map nmSeg
def Ar.counting (A : Ar) (P : PD) : List Bs := P.names.filter fun nm => decide (nm ∈ A.names)
def Ar.others (A : Ar) (P : PD) : List Bs := P.names.filter fun nm => !decide (nm ∈ A.names)
def PD.syncAll : List Bs → PD → Int × PD
  | [], P => (0, P)
  | nm :: r, P => if (P.sync (nmB nm)).1 ≠ 0 then P.sync (nmB nm) else PD.syncAll r (P.sync (nmB nm)).2
def PD.removeAll : List Bs → PD → Int × PD
  | [], P => (0, P)
  | nm :: r, P => if (P.remove (nmB nm)).1 ≠ 0 then P.remove (nmB nm) else PD.removeAll r (P.remove (nmB nm)).2
def Ar.settle (A : Ar) (P : PD) : Int × Ar × PD :=
  if (P.syncAll A.loose).1 ≠ 0 then ((P.syncAll A.loose).1, A, (P.syncAll A.loose).2) else (0, { A with loose := [] }, (P.syncAll A.loose).2)
def Ar.sweep (A : Ar) (P : PD) : Int × PD := P.removeAll (A.others P)
def Ar.add (A : Ar) (P : PD) (p : Pu) : Bool × Int × Ar × PD :=
  if (A.settle P).1 ≠ 0 then (false, (A.settle P).1, (A.settle P).2.1, (A.settle P).2.2) else
  let r := (A.settle P).2.1.j.add (A.settle P).2.2 p
  (r.1, r.2.1, { (A.settle P).2.1 with j := r.2.2.1 }, r.2.2.2)
/-- Segments are made, one behind the other: the error, the last number, the numbers of all. -/
def PD.newSegs : List (List Pu) → Int → List Int → PD → Int × Int × List Int × PD
  | [], last, kept, P => (0, last, kept, P)
  | l :: r, last, kept, P => if (P.newSeg (last + 1) l).1 ≠ 0 then ((P.newSeg (last + 1) l).1, last + 1, kept, (P.newSeg (last + 1) l).2) else
    PD.newSegs r (last + 1) (kept ++ [last + 1]) (P.newSeg (last + 1) l).2
def Ar.turn (A : Ar) (P : PD) (segs : List Int) : Int × Ar × PD :=
  if A.ix.first = A.j.last + 1 ∧ A.ix.segs = segs then (0, A, P) else
  if (P.turn (A.j.last + 1) segs).1 ≠ 0 then ((P.turn (A.j.last + 1) segs).1, A, (P.turn (A.j.last + 1) segs).2) else
  (0, { A with ix := ⟨A.j.last + 1, segs⟩, j := ⟨[], A.j.last, 0, none⟩ }, (P.turn (A.j.last + 1) segs).2)
/-- The end of replace: what does not count is taken away, and all is made safe. -/
def Ar.close (A : Ar) (P : PD) : Int × Ar × PD :=
  if (A.sweep P).1 ≠ 0 then ((A.sweep P).1, A, (A.sweep P).2) else ((A.sweep P).2.syncDir.1, A, (A.sweep P).2.syncDir.2)
def Ar.replace (A : Ar) (P : PD) (kept : List Int) (fresh : List (List Pu)) : Int × Ar × PD :=
  let a := A.settle P
  if a.1 ≠ 0 then a else
  let b := a.2.1.sweep a.2.2
  if b.1 ≠ 0 then (b.1, a.2.1, b.2) else
  let c := PD.newSegs fresh a.2.1.last kept b.2
  if c.1 ≠ 0 then (c.1, { a.2.1 with last := c.2.1 }, c.2.2.2) else
  let d := ({ a.2.1 with last := c.2.1 } : Ar).turn c.2.2.2 c.2.2.1
  if d.1 ≠ 0 then d else d.2.1.close d.2.2

/-! ## Windows -/
/-- The quotient, rounded down (of a length above 0). -/
def winOf (t len : Int) : Int := t / len
def keyLt (len : Int) (p q : Pu) : Bool :=
  decide (winOf p.2.1 len < winOf q.2.1 len ∨ winOf p.2.1 len = winOf q.2.1 len ∧ (p.1 < q.1 ∨ p.1 = q.1 ∧ p.2.1 < q.2.1))
/-- Behind all that are not greater. -/
def insSt {α : Type} (lt : α → α → Bool) (x : α) : List α → List α
  | [] => [x]
  | y :: r => if lt x y then x :: y :: r else y :: insSt lt x r
/-- Sorted, equals in their order. -/
def sortSt {α : Type} (lt : α → α → Bool) (l : List α) : List α := l.foldl (fun s x => insSt lt x s) []
/-- One more point, in its place behind those of the windows so far. -/
def winStep (len : Int) (ws : List (List Pu)) (first : Bool) (prev p : Pu) : List (List Pu) :=
  let ws1 := if first ∨ winOf p.2.1 len ≠ winOf prev.2.1 len then ws ++ [[]] else ws
  let last := ws1.getLastD []
  if last ≠ [] ∧ cmpPu p (last.getLastD (0, 0, 0)) = 0 then ws1.dropLast ++ [last.dropLast ++ [p]] else ws1.dropLast ++ [last ++ [p]]
def winsK (len : Int) : List Pu → Bool → Pu → List (List Pu) → List (List Pu)
  | [], _, _, ws => ws
  | p :: r, first, prev, ws => winsK len r false p (winStep len ws first prev p)
def inWins (len : Int) (l : List Pu) : List (List Pu) := winsK len (sortSt (keyLt len) l) true (0, 0, 0) []

def Ar.flush (A : Ar) (P : PD) (window : Int) : Int × Ar × PD :=
  if (P.puts A.j.logs).2 ≠ 0 then ((P.puts A.j.logs).2, A, P) else A.replace P A.ix.segs (inWins window (P.puts A.j.logs).1)
/-- Which windows stay as they are (the number of the segment), which are to be made. -/
def keptOf (segs : List (Int × List Pu)) (oldest : Int) : List (List Pu) → List Int × List (List Pu)
  | [] => ([], [])
  | l :: r => if l.any (fun p => decide (oldest ≤ p.2.1)) = false then keptOf segs oldest r else
    match segs.find? fun s => decide (s.2 = l) with
    | none => ((keptOf segs oldest r).1, l :: (keptOf segs oldest r).2)
    | some s => (s.1 :: (keptOf segs oldest r).1, (keptOf segs oldest r).2)
def Ar.compact (A : Ar) (P : PD) (window oldest : Int) : Int × Ar × PD := match P.segs A.ix.segs with
  | none => (7, A, P)
  | some segs => if (P.puts A.j.logs).2 ≠ 0 then ((P.puts A.j.logs).2, A, P) else
    let k := keptOf segs oldest (inWins window (segs.flatMap (·.2) ++ (P.puts A.j.logs).1))
    A.replace P (k.1.mergeSort fun x y => decide (x ≤ y)) k.2
/-- An archive is opened: the archive, all that was put; or the error. -/
def Ar.open (P : PD) : Except Int (Ar × List Pu) := match P.index with
  | none => .error 7
  | some ix => if P.names.any (fun nm => decide ((namedP nm).1 = 0)) then .error 7 else
    match P.segs ix.segs with
    | none => .error 7
    | some segs => if (P.puts (logsOf ix.first P.names)).2 ≠ 0 then .error (P.puts (logsOf ix.first P.names)).2 else
      let A : Ar := ⟨ix, P.journal ix.first, (P.names.filterMap fun nm => if (namedP nm).1 = 2 then some (namedP nm).2 else none).getLastD 0, []⟩
      .ok ({ A with loose := A.counting P }, segs.flatMap (·.2) ++ (P.puts (logsOf ix.first P.names)).1)
end Go.Proofs.YtodcnkbblippnaaGreatDoor
/- Slices that are read, numbers and names in rows; how calls join ('Into'). No walk. -/
namespace Go.Proofs.YtodcnkbblippnaaGreatDoor
open Go.RowKit

/-! ## What is so behind a call -/
/-- R holds behind a call, at a footprint that has nothing but what was there and what is new; what was changed lies in the footprint. -/
def Into (w : World) (Ft : Nat → Prop) (w' : World) (R : World → (Nat → Prop) → Prop) : Prop :=
  Chg Ft w w' ∧ ∃ Ft', R w' Ft' ∧ (∀ k, Ft' k → k < w'.heap.size) ∧ ∀ k, Ft' k → Ft k ∨ w.heap.size ≤ k
theorem Into.trans {w w1 w2 : World} {Ft : Nat → Prop} {R R2 : World → (Nat → Prop) → Prop} (h : Into w Ft w1 R) (h2 : ∀ Ft1, R w1 Ft1 → (∀ k, Ft1 k → k < w1.heap.size) → (∀ k, Ft1 k → Ft k ∨ w.heap.size ≤ k) → Into w1 Ft1 w2 R2) : Into w Ft w2 R2 := by
  obtain ⟨hc, Ft1, hr, hlt, hs⟩ := h
  obtain ⟨hc2, Ft2, hr2, hlt2, hs2⟩ := h2 Ft1 hr hlt hs
  refine ⟨hc.trans hc2 fun x hx hlt => (hs x hx).resolve_right (by omega), Ft2, hr2, hlt2, fun k hk => ?_⟩
  rcases hs2 k hk with h | h
  · exact hs k h
  · exact .inr (Nat.le_trans hc.size h)
theorem Into.before {w w1 w' : World} {Ft : Nat → Prop} {R : World → (Nat → Prop) → Prop} (h : Into w1 Ft w' R) (hc : Chg (fun _ => False) w w1) : Into w Ft w' R := by
  obtain ⟨h1, Ft', h2, h3, h4⟩ := h
  exact ⟨(hc.mono fun _ _ h => h.elim).trans h1 fun _ h _ => h, Ft', h2, h3, fun k hk => (h4 k hk).imp id fun h => Nat.le_trans hc.size h⟩
theorem Into.imp {w w' : World} {Ft : Nat → Prop} {R R2 : World → (Nat → Prop) → Prop} (h : Into w Ft w' R) (hi : ∀ Ft', (∀ k, Ft' k → k < w'.heap.size) → R w' Ft' → R2 w' Ft') : Into w Ft w' R2 := by
  obtain ⟨h1, Ft', h2, h3, h4⟩ := h
  exact ⟨h1, Ft', hi Ft' h3 h2, h3, h4⟩
theorem Into.wide {w w' : World} {Ft Ft2 : Nat → Prop} {R : World → (Nat → Prop) → Prop} (h : Into w Ft w' R) (hs : ∀ k, Ft k → Ft2 k) : Into w Ft2 w' R := by
  obtain ⟨h1, Ft', h2, h3, h4⟩ := h
  exact ⟨h1.mono fun x _ hx => hs x hx, Ft', h2, h3, fun k hk => (h4 k hk).imp (hs k) id⟩
/-- The disk P lies at b. -/
def DkAt (w : World) (b : Nat) (P : PD) (Ft : Nat → Prop) : Prop := RepU w b P.D P.F Ft
theorem DkAt.frame {w w' : World} {b : Nat} {P : PD} {Ft : Nat → Prop} (h : DkAt w b P Ft) (hs : Same Ft w w') : DkAt w' b P Ft := RepU.frame h hs

/-! ## Slices that are read -/
/-- n elements of so many cells each, at any place of a block. -/
def RdSl (w : World) (size : Nat) (v : Value) (n : Nat) (xs : List Value) : Prop :=
  xs.length = n * size ∧ ∃ a cap, v = .slice a n cap ∧ n ≤ cap ∧ cap ≤ maxLen ∧ (∀ g, v.ownBlock = some g → g < w.heap.size) ∧
    ∀ j u, xs[j]? = some u → ∃ g o, a = some ⟨g, o, none⟩ ∧ w.cell? ⟨g, o + j, none⟩ = some u
theorem RdSl.frame {w w' : World} {size n : Nat} {v : Value} {xs : List Value} (h : RdSl w size v n xs) (hs : ∀ g, v.ownBlock = some g → w'.heap[g]? = w.heap[g]?) : RdSl w' size v n xs := by
  obtain ⟨h1, a, cap, rfl, h2, h3, h4, h5⟩ := h
  refine ⟨h1, a, cap, rfl, h2, h3, fun g hg => ?_, fun j u hj => ?_⟩
  · have := hs g hg
    have hl := h4 g hg
    rcases Nat.lt_or_ge g w'.heap.size with h | h
    · exact h
    · rw [Array.getElem?_eq_none h] at this
      rw [Array.getElem?_eq_getElem hl] at this
      cases this
  · obtain ⟨g, o, rfl, hc⟩ := h5 j u hj
    refine ⟨g, o, rfl, ?_⟩
    have := hs g rfl
    unfold World.cell? at hc ⊢
    rw [this]; exact hc
theorem RdSl.chg {S : Nat → Prop} {w w' : World} {size n : Nat} {v : Value} {xs : List Value} (h : RdSl w size v n xs) (hc : Chg S w w') (hs : ∀ g, v.ownBlock = some g → ¬ S g) : RdSl w' size v n xs := by
  refine h.frame fun g hg => hc.block g ?_ (hs g hg)
  obtain ⟨_, a, cap, rfl, _, _, h4, _⟩ := h
  exact h4 g hg
theorem RdSl.lt {w : World} {size n : Nat} {v : Value} {xs : List Value} (h : RdSl w size v n xs) {g : Nat} (hg : v.ownBlock = some g) : g < w.heap.size := by
  obtain ⟨_, a, cap, rfl, _, _, h4, _⟩ := h
  exact h4 g hg
theorem RdSl.ofOwns {w : World} {base e size n : Nat} {v : Value} {xs : List Value} (h : w.ownsRow base e size v n xs) : RdSl w size v n xs := by
  obtain ⟨a, cap, rfl, h1, h2, h3, h4, h5⟩ := ownsRow_form h
  refine ⟨h.1, a, cap, rfl, h1, h2, fun g hg => ownsRow_lt h hg, fun j u hj => ?_⟩
  cases ha : a with
  | none =>
    subst ha
    have h0 := (h4 rfl).1
    have hl := h.1
    rw [h0] at hl
    have : xs = [] := by simpa using hl
    rw [this] at hj; simp at hj
  | some x =>
    subst ha
    obtain ⟨g, rfl⟩ := h5 x rfl
    exact ⟨g, 0, rfl, by simpa using ownsRow_cell h rfl hj⟩
theorem RdSl.form {w : World} {size n : Nat} {v : Value} {xs : List Value} (h : RdSl w size v n xs) : ∃ a cap, v = .slice a n cap ∧ n ≤ cap ∧ cap ≤ maxLen := by
  obtain ⟨_, a, cap, h1, h2, h3, _⟩ := h
  exact ⟨a, cap, h1, h2, h3⟩
theorem RdSl.nil {w : World} {size : Nat} : RdSl w size (.slice none 0 0) 0 [] :=
  ⟨by simp, none, 0, rfl, Nat.le_refl _, by decide, fun g hg => by simp [Value.ownBlock] at hg, fun j u hj => by simp at hj⟩
def intVals (l : List Int) : List Value := l.map fun n => .int .i64 n
theorem intVals_length (l : List Int) : (intVals l).length = l.length := by simp [intVals]
theorem intVals_append (a b : List Int) : intVals (a ++ b) = intVals a ++ intVals b := by simp [intVals]
theorem intVals_at (l : List Int) (k : Nat) (h : k < l.length) : (intVals l)[k]? = some (.int .i64 (l[k]'h)) := by simp [intVals, h]
theorem intVals_oneCell (l : List Int) : ∀ u ∈ intVals l, u.oneCell' = true := by
  intro u hu; simp [intVals] at hu; obtain ⟨x, _, rfl⟩ := hu; rfl
/-- A row of numbers, to be read. -/
def RdI (w : World) (v : Value) (l : List Int) : Prop := RdSl w 1 v l.length (intVals l)
/-- .. of one's own. -/
def InSl (w : World) (v : Value) (l : List Int) : Prop := w.ownsRow 0 3 1 v l.length (intVals l)
theorem InSl.rd {w : World} {v : Value} {l : List Int} (h : InSl w v l) : RdI w v l := RdSl.ofOwns h
/-- A row of names, to be read. -/
def bsVals (l : List Bs) : List Value := l.map fun x => .string ⟨x.toArray⟩
theorem bsVals_append (a b : List Bs) : bsVals (a ++ b) = bsVals a ++ bsVals b := by simp [bsVals]
theorem bsVals_at (l : List Bs) (k : Nat) (h : k < l.length) : (bsVals l)[k]? = some (.string ⟨(l[k]'h).toArray⟩) := by simp [bsVals, h]
theorem bsVals_oneCell (l : List Bs) : ∀ u ∈ bsVals l, u.oneCell' = true := by
  intro u hu; simp [bsVals] at hu; obtain ⟨x, _, rfl⟩ := hu; rfl
theorem strVals_bs (l : List ByteArray) : strVals l = bsVals (l.map fun b => b.data.toList) := by simp [strVals, bsVals]
def RdS (w : World) (v : Value) (l : List Bs) : Prop := RdSl w 1 v l.length (bsVals l)
def StSl (w : World) (v : Value) (l : List Bs) : Prop := w.ownsRow 0 9 1 v l.length (bsVals l)
theorem StSl.rd {w : World} {v : Value} {l : List Bs} (h : StSl w v l) : RdS w v l := RdSl.ofOwns h
/-- A row of Puts, to be read. -/
def RdP (w : World) (v : Value) (l : List Pu) : Prop := RdSl w 3 v l.length (puVals l)
theorem PfSl.rd {w : World} {v : Value} {l : List Pu} (h : PfSl w v l) : RdP w v l := RdSl.ofOwns h
theorem RdI.at {w : World} {a : Option Addr} {n cap : Nat} {l : List Int} (h : RdI w (.slice a n cap) l) (k : Nat) (hk : k < l.length) : ∃ g o, a = some ⟨g, o, none⟩ ∧ w.cell? ⟨g, o + k, none⟩ = some (.int .i64 (l[k]'hk)) := by
  obtain ⟨_, a', cap', e, _, _, _, h5⟩ := h
  cases e
  exact h5 k _ (intVals_at l k hk)
theorem RdP.at {w : World} {a : Option Addr} {n cap : Nat} {l : List Pu} (h : RdP w (.slice a n cap) l) (k : Nat) (hk : k < l.length) : ∃ g o, a = some ⟨g, o, none⟩ ∧ g < w.heap.size ∧ w.cell? ⟨g, o + k * 3, none⟩ = some (.int .i64 (l[k]'hk).1) ∧ w.cell? ⟨g, o + k * 3 + 1, none⟩ = some (.int .i64 (l[k]'hk).2.1) ∧ w.cell? ⟨g, o + k * 3 + 2, none⟩ = some (.int .i64 (l[k]'hk).2.2) := by
  obtain ⟨_, a', cap', e, _, _, h4, h5⟩ := h
  cases e
  obtain ⟨q1, q2, q3⟩ := puVals_at l k hk
  obtain ⟨g, o, rfl, c1⟩ := h5 _ _ q1
  obtain ⟨g', o', e, c2⟩ := h5 _ _ q2
  cases e
  obtain ⟨g', o', e, c3⟩ := h5 _ _ q3
  cases e
  exact ⟨g, o, rfl, h4 g rfl, c1, c2, c3⟩
theorem RdS.at {w : World} {a : Option Addr} {n cap : Nat} {l : List Bs} (h : RdS w (.slice a n cap) l) (k : Nat) (hk : k < l.length) : ∃ g o, a = some ⟨g, o, none⟩ ∧ w.cell? ⟨g, o + k, none⟩ = some (.string ⟨(l[k]'hk).toArray⟩) := by
  obtain ⟨_, a', cap', e, _, _, _, h5⟩ := h
  cases e
  exact h5 k _ (bsVals_at l k hk)
end Go.Proofs.YtodcnkbblippnaaGreatDoor
/- Walks: files of one piece on a pure disk: create, add, Sync, write, read; logs: NewLog, Add. -/
namespace Go.Proofs.YtodcnkbblippnaaGreatDoor
open Go.RowKit

/-- Within what a disk of this place may hold. -/
structure Lim (a c m : Nat) : Prop where
  a : a ≤ 1073741824
  c : c ≤ 1000000000000
  m : m ≤ 4294967296
theorem Fit.usedLim {P : PD} {a c m : Nat} (h : Fit P a c m) (hl : Lim a c m) : usedL P.F P.D.dir ≤ 4611686018427387904 :=
  Nat.le_trans h.used (Nat.le_trans (Nat.mul_le_mul hl.a hl.m) (by decide))
theorem dSize_le {P : PD} {a c m : Nat} (h : Fit P a c m) (nm : ByteArray) : (dSize P.D P.F nm).1 ≤ m := by
  unfold dSize
  cases hx : lookup P.D.dir nm with
  | none => simp
  | some f => have := h.len f (lookup_ids hx); simp; omega
section
variable {w : World} {b fb : Nat} {P : PD} {Ft : Nat → Prop} {T : TypeId} {name : ByteArray} {s a c m : Nat}
theorem createD (hf : FlBlk w fb T (.pointer (some ⟨b, 0, none⟩)) name s) (h : DkAt w b P Ft) (hF : Fit P a c m) (hl : Lim a c m) :
    Calls Tryz.prog 240 #[.pointer (some ⟨fb, 0, none⟩)] w fun e w' => e = .returned (.int .i64 (P.create name).1) ∧ Into w Ft w' (fun w' Ft' => DkAt w' b (P.create name).2 Ft') :=
  createF hf h P.D.fresh P.D.fresh_not (by have := hF.dir; have := hF.chg; have := hl.a; have := hl.c; omega)
theorem syncD (hf : FlBlk w fb T (.pointer (some ⟨b, 0, none⟩)) name s) (h : DkAt w b P Ft) :
    Calls Tryz.prog 164 #[.pointer (some ⟨fb, 0, none⟩)] w fun e w' => e = .returned (.int .i64 (P.sync name).1) ∧ Into w Ft w' (fun w' Ft' => DkAt w' b (P.sync name).2 Ft') := syncF hf h
/-- A disk and a file's block beside it. -/
def IntoF (w : World) (Ft : Nat → Prop) (fb : Nat) (w' : World) (b : Nat) (P : PD) : Prop := AfterF w Ft fb w' b P.D P.F
theorem addD (hf : FlBlk w fb T (.pointer (some ⟨b, 0, none⟩)) name s) (hs : s < 4294967296) (h : DkAt w b P Ft) (hlt : ∀ k, Ft k → k < w.heap.size) (hn : ¬ Ft fb) (l : Bs) (hll : l.length ≤ 4294967296) (hF : Fit P a c m) (hl : Lim a c m) :
    Calls Tryz.prog 237 #[.pointer (some ⟨fb, 0, none⟩), .string ⟨l.toArray⟩] w fun e w' => e = .returned (.tuple #[.bool (P.add name s l).1, .int .i64 (P.add name s l).2.1]) ∧ FlBlk w' fb T (.pointer (some ⟨b, 0, none⟩)) name (sumOn s l) ∧ IntoF w Ft fb w' b (P.add name s l).2.2 := by
  have hm := hl.m
  have hp : (pieceB s l).length = l.length + 4 := by simp [pieceB, sumB_length]
  have hA := hF.append name (pieceB s l)
  have hz := dSize_le hA name
  have hz2 := dSize_le hF name
  exact addF hf hs h hlt hn l hF.room (hF.usedLim hl) hF.part (fun f hf => by have := hF.len f (lookup_ids hf); omega) (by omega) ⟨by
    show (dSize (P.append name (pieceB s l)).2.D (P.append name (pieceB s l)).2.F name).1 ≤ _; omega, by omega⟩
set_option maxRecDepth 100000 in
set_option maxHeartbeats 2000000 in
/-- A file of one piece is made, and made safe. -/
theorem writeD (nm l : Bs) (hs : s < 4294967296) (h : DkAt w b P Ft) (hlt : ∀ k, Ft k → k < w.heap.size) (hll : l.length ≤ 4294967296) (hF : Fit P a c m) (hl : Lim (a + 1) (c + 1) m) :
    Calls Tryz.prog 196 #[.agg #[.pointer (some ⟨b, 0, none⟩), .string ⟨nm.toArray⟩, .int .u32 s], .string ⟨l.toArray⟩] w fun e w' => e = .returned (.int .i64 (P.write nm s l).1) ∧ Into w Ft w' (fun w' Ft' => DkAt w' b (P.write nm s l).2 Ft') := by
  have hl0 : Lim a c m := ⟨by have := hl.a; omega, by have := hl.c; omega, hl.m⟩
  have hfb : FlBlk (w.alloc (.cells #[.pointer (some ⟨b, 0, none⟩), .string (nmB nm), .int .u32 s] 160)) w.heap.size 160 (.pointer (some ⟨b, 0, none⟩)) (nmB nm) s := heap_alloc_new w _
  have k0 : Chg (fun _ => False) w (w.alloc (.cells #[.pointer (some ⟨b, 0, none⟩), .string (nmB nm), .int .u32 s] 160)) := (Chg.refl _ w).alloc _
  have h0 : DkAt (w.alloc (.cells #[.pointer (some ⟨b, 0, none⟩), .string (nmB nm), .int .u32 s] 160)) b P Ft := RepU.same h hlt k0
  have CR := hide (createD hfb h0 hF hl0)
  have AD : Hid (∀ w1, FlBlk w1 w.heap.size 160 (.pointer (some ⟨b, 0, none⟩)) (nmB nm) s → ∀ Ft1, DkAt w1 b (P.create (nmB nm)).2 Ft1 → (∀ k, Ft1 k → k < w1.heap.size) → ¬ Ft1 w.heap.size → _) := fun w1 q1 Ft1 q2 q3 q4 => addD q1 hs q2 q3 q4 l hll (hF.create (nmB nm)) hl
  have SY : Hid (∀ w1, FlBlk w1 w.heap.size 160 (.pointer (some ⟨b, 0, none⟩)) (nmB nm) (sumOn s l) → ∀ Ft1, DkAt w1 b ((P.create (nmB nm)).2.add (nmB nm) s l).2.2 Ft1 → _) := fun w1 q1 Ft1 q2 => syncD q1 q2
  have HFB := hide hfb
  have K0 := hide k0
  have HLT := hide hlt
  have W : Hid (P.write nm s l = if (P.create (nmB nm)).1 ≠ 0 then P.create (nmB nm) else
    if ((P.create (nmB nm)).2.add (nmB nm) s l).2.1 ≠ 0 then ((P.create (nmB nm)).2.add (nmB nm) s l).2 else
    ((P.create (nmB nm)).2.add (nmB nm) s l).2.2.sync (nmB nm)) := rfl
  obtain ⟨R, hR⟩ : ∃ R, P.write nm s l = R := ⟨_, rfl⟩
  rw [hR] at W ⊢
  obtain ⟨C, hC⟩ : ∃ C, P.create (nmB nm) = C := ⟨_, rfl⟩
  rw [hC] at W CR AD SY
  obtain ⟨D, hD⟩ : ∃ D, C.2.add (nmB nm) s l = D := ⟨_, rfl⟩
  rw [hD] at W AD SY
  obtain ⟨E, hE⟩ : ∃ E, D.2.2.sync (nmB nm) = E := ⟨_, rfl⟩
  rw [hE] at W SY
  clear hR hC hD hE hfb k0 h0 hF hl hl0 hlt h
  go_enter Tryz.func196, Tryz.ntmps196
  go_wp2_with (fail)
  refine CR.out.mono ?_
  rintro e w1 ⟨rfl, hc1, Ft1, q2, q3, q4⟩
  have FB1 := hide (HFB.out.keep hc1 fun h => Nat.lt_irrefl _ (HLT.out _ h))
  have K1 : Hid (Chg (fun k => Ft k) w w1) := (K0.out.mono fun _ _ h => h.elim).trans hc1 fun _ h _ => h
  have HW1 : Hid (w.heap.size < w1.heap.size) := FB1.out.lt
  have Q2 := hide q2
  have Q3 := hide q3
  have Q4 : Hid (∀ k, Ft1 k → Ft k ∨ w.heap.size < k) := fun k hk => (q4 k hk).imp id fun h => by simp at h; omega
  have NF : Hid (¬ Ft1 w.heap.size) := fun hk => (Q4.out _ hk).elim (fun h => Nat.lt_irrefl _ (HLT.out _ h)) fun h => Nat.lt_irrefl _ h
  have AD1 := hide (AD.out w1 FB1.out Ft1 q2 q3 NF.out)
  clear hc1 q2 q3 q4 CR HFB K0 AD
  by_cases hc : C.1 = 0
  case neg =>
    have hR : R = C := by rw [W.out, if_pos hc]
    have hb : (C.1 != 0) = true := by simpa using hc
    clear AD1 SY
    go_wp2
    go_ret
    subst hR
    exact ⟨rfl, K1.out, Ft1, Q2.out, Q3.out, fun k hk => (Q4.out k hk).imp id Nat.le_of_lt⟩
  case pos =>
  have hb : (C.1 != 0) = false := by simpa using hc
  have W2 : Hid (R = if D.2.1 ≠ 0 then D.2 else E) := by rw [W.out, if_neg (by simpa using hc)]; rfl
  clear W
  have ADW : ∀ w2, (FlBlk w2 w.heap.size 160 (.pointer (some ⟨b, 0, none⟩)) (nmB nm) (sumOn s l) ∧ IntoF w1 Ft1 w.heap.size w2 b D.2.2) → Hid (Chg (fun k => Ft k) w w2 ∧ ∃ Ft2, DkAt w2 b D.2.2 Ft2 ∧ (∀ k, Ft2 k → k < w2.heap.size) ∧ (∀ k, Ft2 k → Ft k ∨ w.heap.size < k) ∧ Calls Tryz.prog 164 #[.pointer (some ⟨w.heap.size, 0, none⟩)] w2 fun e w' => e = .returned (.int .i64 E.1) ∧ Into w2 Ft2 w' (fun w' Ft' => DkAt w' b E.2 Ft')) := by
    rintro w2 ⟨hf2, hc2, Ft2, p2, p3, p4⟩
    refine ⟨K1.out.trans hc2 fun x hx hlt => hx.elim (fun h => (Q4.out x h).resolve_right (by omega)) fun h => by omega, Ft2, p2, p3, fun k hk => (p4 k hk).elim (fun h => Q4.out k h) fun h => .inr (by have := HW1.out; omega), SY.out w2 hf2 Ft2 p2⟩
  have HADW := hide ADW
  clear ADW SY K1 Q2 Q3 Q4 NF
  by_cases hd : D.2.1 = 0
  case neg =>
    have hR : R = D.2 := by rw [W2.out, if_pos hd]
    have hb2 : (D.2.1 != 0) = true := by simpa using hd
    go_wp2_with (go_at_call 237; refine AD1.out.mono ?_; rintro e w2 ⟨rfl, hf2, hc2⟩; have HD := HADW.out w2 ⟨hf2, hc2⟩; clear hf2 hc2)
    go_ret
    subst hR
    obtain ⟨k2, Ft2, p2, p3, p5, -⟩ := HD.out
    exact ⟨rfl, k2, Ft2, p2, p3, fun k hk => (p5 k hk).imp id Nat.le_of_lt⟩
  case pos =>
  have hb2 : (D.2.1 != 0) = false := by simpa using hd
  have hR : R = E := by rw [W2.out, if_neg (by simpa using hd)]
  subst hR
  go_wp2_with (fail)
  refine AD1.out.mono ?_
  rintro e w2 ⟨rfl, hf2, hc2⟩
  obtain ⟨k2, Ft2, p2, p3, p5, sy⟩ := (HADW.out w2 ⟨hf2, hc2⟩).out
  have K2 := hide k2
  have P5 := hide p5
  have SY := hide sy
  clear hf2 hc2 k2 p2 p3 p5 sy HADW AD1
  go_wp2_with (go_at_call 164; refine SY.out.mono ?_; rintro e w3 ⟨rfl, hc3, Ft3, r2, r3, r4⟩; have HC3 := hide hc3; have R2 := hide r2; have R3 := hide r3; have R4 := hide r4; clear hc3 r2 r3 r4)
  go_ret
  exact ⟨rfl, K2.out.trans HC3.out fun x hx hlt => (P5.out x hx).resolve_right (by omega), Ft3, R2.out, R3.out, fun k hk => (R4.out k hk).elim (fun h => (P5.out k h).imp id Nat.le_of_lt) fun h => .inr (by have := K2.out.size; omega)⟩
end
end Go.Proofs.YtodcnkbblippnaaGreatDoor
