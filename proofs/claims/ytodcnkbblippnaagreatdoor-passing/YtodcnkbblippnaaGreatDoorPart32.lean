/-
  The statement PassingCardSaid is proved: the law Passing answers true, at every four numbers; there is no condition.
  Part 32 of 34.
-/
import Derived.Test.YtodcnkbblippnaaGreatDoorPart31
/- An archive on a calm disk: what lies there ('Lay'); a Put is added, all is made safe. No walk. -/
namespace Go.Proofs.YtodcnkbblippnaaGreatDoor
open Go.RowKit

/-! ## Names are apart -/
theorem nmLog_eq (n : Int) : nmLog n = 108 :: (Lib.repeatL [48] (19 - (Lib.itoa n).length) ++ Lib.itoa n) := by simp [nmLog, nmOf, nameL, ltr]
theorem nmSeg_eq (n : Int) : nmSeg n = 115 :: (Lib.repeatL [48] (19 - (Lib.itoa n).length) ++ Lib.itoa n) := by simp [nmSeg, nmOf, nameL, ltr]
theorem nameL_inj {lt : Bs} {a b : Int} (ha : isNum a = true) (hb : isNum b = true) (h : nameL lt a = nameL lt b) : a = b := by
  unfold isNum at ha hb
  simp at ha hb
  have h1 := namedOne_name lt (n := a) (by omega) (by omega)
  have h2 := namedOne_name lt (n := b) (by omega) (by omega)
  rw [h, h2] at h1
  simpa using h1.symm
theorem nmLog_inj {a b : Int} (ha : isNum a = true) (hb : isNum b = true) (h : nmLog a = nmLog b) : a = b := nameL_inj (lt := ltr 1) ha hb (by simpa [nmLog, nmOf] using h)
theorem nmSeg_inj {a b : Int} (ha : isNum a = true) (hb : isNum b = true) (h : nmSeg a = nmSeg b) : a = b := nameL_inj (lt := ltr 2) ha hb (by simpa [nmSeg, nmOf] using h)
theorem log_ne_seg (a b : Int) : nmLog a ≠ nmSeg b := by rw [nmLog_eq, nmSeg_eq]; simp
theorem log_ne_idx (a : Int) : nmLog a ≠ nmIdx := by rw [nmLog_eq]; simp [nmIdx]
theorem seg_ne_idx (a : Int) : nmSeg a ≠ nmIdx := by rw [nmSeg_eq]; simp [nmIdx]
theorem log_ne_drf (a : Int) : nmLog a ≠ nmDrf := by rw [nmLog_eq]; simp [nmDrf]
theorem seg_ne_drf (a : Int) : nmSeg a ≠ nmDrf := by rw [nmSeg_eq]; simp [nmDrf]
theorem idx_ne_drf : nmIdx ≠ nmDrf := by simp [nmIdx, nmDrf]
theorem namedP_nmLog {n : Int} (h : isNum n = true) : namedP (nmLog n) = (1, n) := by
  have h' : 1 ≤ n ∧ n ≤ 4611686018427387904 := by unfold isNum at h; simpa using h
  unfold namedP
  have e : namedOne [108] (nmLog n) = some n := by
    have := namedOne_name (ltr 1) (n := n) (by omega) h'.2
    simpa [nmLog, nmOf, ltr] using this
  rw [e]
theorem namedOne_ne {c d : UInt8} {r : Bs} (h : c ≠ d) : namedOne [c] (d :: r) = none := by
  cases hx : namedOne [c] (d :: r) with
  | none => rfl
  | some v => have := (namedOne_some hx).2; simp [nameL] at this; exact absurd this.1 h
theorem namedP_nmSeg {n : Int} (h : isNum n = true) : namedP (nmSeg n) = (2, n) := by
  have h' : 1 ≤ n ∧ n ≤ 4611686018427387904 := by unfold isNum at h; simpa using h
  have e : namedOne [115] (nmSeg n) = some n := by
    have := namedOne_name (ltr 2) (n := n) (by omega) h'.2
    simpa [nmSeg, nmOf, ltr] using this
  have e2 : namedOne [108] (nmSeg n) = none := by rw [nmSeg_eq]; exact namedOne_ne (by decide)
  unfold namedP named2
  rw [e2, e]
theorem namedP_idx : namedP nmIdx = (3, 0) := by
  have e1 : namedOne [108] nmIdx = none := namedOne_ne (by decide)
  have e2 : namedOne [115] nmIdx = none := namedOne_ne (by decide)
  unfold namedP named2
  rw [e1, e2]
  simp [named3]
theorem log_ne_nil (a : Int) : nmLog a ≠ [] := by rw [nmLog_eq]; simp
theorem seg_ne_nil (a : Int) : nmSeg a ≠ [] := by rw [nmSeg_eq]; simp

/-! ## What lies on the disk -/
/-- Logs that are read, so many Puts ahead of them. -/
def LogsAt (P : PD) : Int → List (Int × List Pu) → Prop
  | _, [] => True
  | a, x :: r => P.log x.1 a = (x.2, 0) ∧ LogsAt P (a + x.2.length) r
def putsOf (l : List (Int × List Pu)) : List Pu := l.flatMap (·.2)
/-- The own log: none, or these Puts. -/
def OwnAt (P : PD) (j : Jn) (cl : List (Int × List Pu)) : Option (List Pu) → Prop
  | none => j.own = none ∧ j.logs = cl.map (·.1)
  | some l => j.own = some (j.last, logE (nmLog j.last) j.puts l) ∧ j.logs = cl.map (·.1) ++ [j.last] ∧ P.bs (nmLog j.last) = some (logB (nmLog j.last) j.puts l) ∧ (∀ p ∈ l, PuOk p) ∧ isNum j.last = true
structure Lay (P : PD) (A : Ar) (sg cl : List (Int × List Pu)) (ol : Option (List Pu)) : Prop where
  ixok : IxOk A.ix
  ix : (P.bs nmIdx = none ∧ A.ix = ⟨1, []⟩) ∨ P.bs nmIdx = some (pieceB (sum0 nmIdx) (idxB A.ix.first A.ix.segs))
  segs : sg.map (·.1) = A.ix.segs
  seg : ∀ x ∈ sg, ((∀ p ∈ x.2, PuOk p) ∧ riseB cmpPu x.2 = true) ∧ P.bs (nmSeg x.1) = some (pieceB (sum0 (nmSeg x.1)) (putsB x.2))
  clNum : ∀ x ∈ cl, (isNum x.1 = true ∧ x.1 ≤ A.j.last) ∧ ∀ p ∈ x.2, PuOk p
  clNew : ∀ x ∈ cl, ol ≠ none → x.1 ≠ A.j.last
  firsts : (∀ x ∈ cl, A.ix.first ≤ x.1) ∧ (ol ≠ none → A.ix.first ≤ A.j.last)
  logs : LogsAt P 0 cl
  ahead : A.j.puts = ((putsOf cl).length : Int)
  own : OwnAt P A.j cl ol
  jlast : 0 ≤ A.j.last ∧ A.ix.first ≤ A.j.last + 1 ∧ ∀ n, isNum n = true → P.bs (nmLog n) ≠ none → n ≤ A.j.last
  slast : 0 ≤ A.last ∧ ∀ n, isNum n = true → P.bs (nmSeg n) ≠ none → n ≤ A.last
  loose : ∀ nm ∈ A.loose, P.bs nm ≠ none
  jrise : A.j.logs.Pairwise (· < ·)
  named : ∀ nm, P.bs nm ≠ none → (namedP nm).1 ≠ 0
  logsAll : ∀ n, isNum n = true → A.ix.first ≤ n → P.bs (nmLog n) ≠ none → n ∈ A.j.logs
/-- All Puts of it. -/
def layAll (sg cl : List (Int × List Pu)) (ol : Option (List Pu)) : List Pu := putsOf sg ++ (putsOf cl ++ ol.getD [])
section
variable {P P' : PD} {A : Ar} {sg cl : List (Int × List Pu)} {ol : Option (List Pu)} {N R : Nat}
theorem LogsAt.same (hb : ∀ m, P'.bs m = P.bs m) : ∀ {a : Int} {l : List (Int × List Pu)}, LogsAt P a l → LogsAt P' a l
  | _, [], _ => trivial
  | a, x :: r, h => by
    obtain ⟨h1, h2⟩ := h
    refine ⟨?_, h2.same hb⟩
    rw [← h1]
    unfold PD.log readLogN
    have e : ∀ Q : PD, allN Q.D Q.F ⟨(nmLog x.1).toArray⟩ = match Q.bs (nmLog x.1) with | some c => (c, 0) | none => ([], 8) := fun Q => @bs_all Q (nmLog x.1)
    rw [e P', e P, hb]
theorem log_same {n : Int} (hb : P'.bs (nmLog n) = P.bs (nmLog n)) (a : Int) : P'.log n a = P.log n a := by
  unfold PD.log readLogN
  have e : ∀ Q : PD, allN Q.D Q.F ⟨(nmLog n).toArray⟩ = match Q.bs (nmLog n) with | some c => (c, 0) | none => ([], 8) := fun Q => @bs_all Q (nmLog n)
  rw [e P', e P, hb]
/-- Only other files are turned. -/
theorem LogsAt.other : ∀ {a : Int} {l : List (Int × List Pu)}, LogsAt P a l → (∀ x ∈ l, P'.bs (nmLog x.1) = P.bs (nmLog x.1)) → LogsAt P' a l
  | _, [], _, _ => trivial
  | a, x :: _, h, hb => ⟨(log_same (hb x (List.mem_cons_self ..)) a).trans h.1, h.2.other fun y hy => hb y (List.mem_cons_of_mem _ hy)⟩
theorem LogsAt.snoc : ∀ {a : Int} {l : List (Int × List Pu)} {x : Int × List Pu}, LogsAt P a l → P.log x.1 (a + (putsOf l).length) = (x.2, 0) → LogsAt P a (l ++ [x])
  | a, [], x, _, h => ⟨by simpa [putsOf] using h, trivial⟩
  | a, y :: r, x, h, h2 => ⟨h.1, h.2.snoc (by
      rw [← h2]; congr 1
      simp only [putsOf, List.flatMap_cons, List.length_append]; omega)⟩
theorem putsK_logs : ∀ {l : List (Int × List Pu)} {acc : List Pu}, LogsAt P acc.length l → P.putsK (l.map (·.1)) acc = (acc ++ putsOf l, 0)
  | [], acc, _ => by simp [PD.putsK, putsOf]
  | x :: r, acc, h => by
    obtain ⟨h1, h2⟩ := h
    simp only [List.map_cons, PD.putsK]
    rw [h1]
    dsimp only
    rw [if_neg (by simp), putsK_logs (by simpa using h2)]
    simp [putsOf, List.append_assoc]
theorem Lay.puts64 (h : Lay P A sg cl ol) (hl : (putsOf cl).length ≤ 1099511627776) : In64 A.j.puts := by rw [h.ahead]; constructor <;> omega
/-- What its journal reads. -/
theorem Lay.puts (h : Lay P A sg cl ol) (hl : (putsOf cl).length ≤ 1099511627776) : P.puts A.j.logs = (putsOf cl ++ ol.getD [], 0) := by
  have h0 := h.own
  unfold PD.puts
  cases ol with
  | none =>
    rw [h0.2, putsK_logs h.logs]; simp
  | some l =>
    obtain ⟨-, h1, h2, h3, h4⟩ := h0
    have hx : LogsAt P 0 (cl ++ [(A.j.last, l)]) := h.logs.snoc (by
      have := h.ahead
      rw [Int.zero_add, ← this]
      exact log_some (t := []) (h.puts64 hl) h3 (by simp) (by simpa using h2))
    have e : cl.map (·.1) ++ [A.j.last] = (cl ++ [(A.j.last, l)]).map (·.1) := by simp
    rw [h1, e, putsK_logs hx]
    simp [putsOf]
theorem Lay.segsOf (h : Lay P A sg cl ol) : P.segs A.ix.segs = some sg := by
  rw [← h.segs]
  have gen : ∀ l : List (Int × List Pu), (∀ x ∈ l, x ∈ sg) → P.segs (l.map (·.1)) = some l := by
    intro l
    induction l with
    | nil => intro _; rfl
    | cons x r ih =>
      intro hl
      obtain ⟨⟨h1, h2⟩, h3⟩ := h.seg x (hl x (List.mem_cons_self ..))
      simp only [List.map_cons, PD.segs]
      rw [seg_some h1 h2 h3]
      dsimp only
      rw [ih fun y hy => hl y (List.mem_cons_of_mem _ hy)]
      rfl
  exact gen sg fun _ h => h
/-- Nothing is turned that the archive has. -/
theorem Lay.same (h : Lay P A sg cl ol) (hb : ∀ m, P'.bs m = P.bs m) : Lay P' A sg cl ol := by
  refine ⟨h.ixok, by rw [hb]; exact h.ix, h.segs, fun x hx => by rw [hb]; exact h.seg x hx, h.clNum, h.clNew, h.firsts, h.logs.same hb, h.ahead, ?_, ⟨h.jlast.1, h.jlast.2.1, fun n hn hx => h.jlast.2.2 n hn (by rw [← hb]; exact hx)⟩,
    ⟨h.slast.1, fun n hn hx => h.slast.2 n hn (by rw [← hb]; exact hx)⟩, fun nm hm => by rw [hb]; exact h.loose nm hm, h.jrise, fun nm hm => h.named nm (by rw [← hb]; exact hm), fun n h1 h2 h3 => h.logsAll n h1 h2 (by rw [← hb]; exact h3)⟩
  have := h.own
  cases ol with
  | none => exact this
  | some l => unfold OwnAt at this ⊢; rw [hb]; exact this
/-- All is made safe that is not known to be. -/
theorem Lay.settle (h : Lay P A sg cl ol) (hc : Cm P (N + A.loose.length) R) : (A.settle P).1 = 0 ∧ (A.settle P).2.1 = { A with loose := [] } ∧ Cm (A.settle P).2.2 N R ∧ (∀ m, (A.settle P).2.2.bs m = P.bs m) ∧ Lay (A.settle P).2.2 { A with loose := [] } sg cl ol := by
  obtain ⟨h1, h2, h3⟩ := Cm.syncAll A.loose hc h.loose
  have e : A.settle P = (0, { A with loose := [] }, (P.syncAll A.loose).2) := by unfold Ar.settle; rw [if_neg (by simp [h1])]
  have hs := h.same h3
  rw [e]
  exact ⟨rfl, rfl, h2, h3, ⟨hs.ixok, hs.ix, hs.segs, hs.seg, hs.clNum, hs.clNew, hs.firsts, hs.logs, hs.ahead, hs.own, hs.jlast, hs.slast, fun nm hm => (by cases hm), hs.jrise, hs.named, hs.logsAll⟩⟩
/-- The own log is begun. -/
theorem Lay.begin (h : Lay P A sg cl none) (hc : Cm P (N + 2) R) (hn : isNum (A.j.last + 1) = true) (hR : 12 ≤ R) :
    (A.j.begin P).1 = 0 ∧ Cm (A.j.begin P).2.2 N (R - 12) ∧ Lay (A.j.begin P).2.2 { A with j := (A.j.begin P).2.1 } sg cl (some []) ∧ (A.j.begin P).2.1.own ≠ none := by
  obtain ⟨n, hnn⟩ : ∃ n, A.j.last + 1 = n := ⟨_, rfl⟩
  have h0 : P.bs (nmLog n) = none := by
    cases hx : P.bs (nmLog n) with
    | none => rfl
    | some c => have := h.jlast.2.2 n (hnn ▸ hn) (by rw [hx]; simp); omega
  obtain ⟨a1, a2, a3⟩ := Cm.createB (N := N + 1) hc h0 (log_ne_nil n)
  obtain ⟨-, b1, b2, b3⟩ := Cm.add (N := N) (nm := nmLog n) (c := []) a2 (by rw [a3]; simp) (sum0 (nmLog n)) (intB A.j.puts) (by rw [intB_length]; omega)
  rw [intB_length] at b2
  have hown := h.own
  have e : A.j.begin P = (0, ⟨A.j.logs ++ [n], n, A.j.puts, some (n, sumOn (sum0 (nmLog n)) (intB A.j.puts))⟩, ((P.create (nmB (nmLog n))).2.add (nmB (nmLog n)) (sum0 (nmLog n)) (intB A.j.puts)).2.2) := by
    unfold Jn.begin
    rw [hnn, if_neg (by simp [a1])]
    dsimp only
    rw [if_neg (by simp [b1])]
  rw [e]
  dsimp only
  have hother : ∀ m, m ≠ nmLog n → ((P.create (nmB (nmLog n))).2.add (nmB (nmLog n)) (sum0 (nmLog n)) (intB A.j.puts)).2.2.bs m = P.bs m := fun m hm => by rw [b3, if_neg hm, a3, if_neg hm]
  have hself := b3 (nmLog n)
  rw [if_pos rfl, List.nil_append] at hself
  generalize ((P.create (nmB (nmLog n))).2.add (nmB (nmLog n)) (sum0 (nmLog n)) (intB A.j.puts)).2.2 = P2 at hother hself b2
  have hnum : isNum n = true := hnn ▸ hn
  have hle : ∀ x ∈ cl, x.1 ≠ n := fun x hx e => by have := (h.clNum x hx).1.2; omega
  refine ⟨rfl, b2, ⟨h.ixok, ?_, h.segs, fun x hx => ?_, fun x hx => ?_, fun x hx _ => hle x hx, ⟨h.firsts.1, fun _ => by have := h.jlast.2.1; dsimp only; omega⟩, ?_, h.ahead, ?_, ?_, ?_, fun nm hm => ?_, ?_, fun nm hm => ?_, fun k h1 h2 h3 => ?_⟩, by simp⟩
  · rw [hother _ (log_ne_idx n).symm]; exact h.ix
  · rw [hother _ (log_ne_seg n x.1).symm]; exact h.seg x hx
  · obtain ⟨⟨c1, c2⟩, c3⟩ := h.clNum x hx
    exact ⟨⟨c1, by dsimp only; omega⟩, c3⟩
  · exact h.logs.other fun x hx => hother _ fun e => hle x hx (nmLog_inj (h.clNum x hx).1.1 hnum e)
  · refine ⟨rfl, by dsimp only; rw [hown.2], ?_, by simp, hnum⟩
    dsimp only
    rw [hself]; simp [logB, logP]
  · refine ⟨by have := h.jlast.1; dsimp only; omega, by have := h.jlast.2.1; dsimp only; omega, fun k hk hx => ?_⟩
    dsimp only
    by_cases e : nmLog k = nmLog n
    · have := nmLog_inj hk hnum e; omega
    · rw [hother _ e] at hx
      have := h.jlast.2.2 k hk hx; omega
  · refine ⟨h.slast.1, fun k hk hx => h.slast.2 k hk ?_⟩
    rwa [hother _ (log_ne_seg n k).symm] at hx
  · by_cases e : nm = nmLog n
    · subst e; rw [hself]; simp
    · rw [hother _ e]; exact h.loose nm hm
  · dsimp only
    refine List.pairwise_append.2 ⟨h.jrise, by simp, fun a ha b hb => ?_⟩
    simp at hb; subst hb
    rw [hown.2] at ha
    obtain ⟨x, hx, rfl⟩ := List.mem_map.1 ha
    have := (h.clNum x hx).1.2; omega
  · by_cases e : nm = nmLog n
    · subst e; rw [namedP_nmLog hnum]; simp
    · rw [hother _ e] at hm; exact h.named nm hm
  · dsimp only
    by_cases e : nmLog k = nmLog n
    · have := nmLog_inj h1 hnum e
      subst this; simp
    · rw [hother _ e] at h3
      exact List.mem_append_left _ (h.logsAll k h1 h2 h3)
/-- A Put goes to the own log. -/
theorem Lay.put {l : List Pu} (h : Lay P A sg cl (some l)) (hc : Cm P (N + 1) R) (p : Pu) (hp : PuOk p) (hR : 21 ≤ R) :
    (A.j.put P p).1 = true ∧ (A.j.put P p).2.1 = 0 ∧ Cm (A.j.put P p).2.2.2 N (R - 21) ∧ Lay (A.j.put P p).2.2.2 { A with j := (A.j.put P p).2.2.1 } sg cl (some (l ++ [p])) := by
  obtain ⟨h1, h2, h3, h4, h5⟩ := h.own
  obtain ⟨n, hnn⟩ : ∃ n, A.j.last = n := ⟨_, rfl⟩
  obtain ⟨b0, b1, b2, b3⟩ := Cm.add (N := N) hc h3 (logE (nmLog A.j.last) A.j.puts l) (putB p.1 p.2.1 p.2.2) (by rw [putB17]; omega)
  rw [putB17] at b2
  obtain ⟨q1, q2⟩ := logB_snoc (nmLog A.j.last) A.j.puts l p
  unfold Jn.put
  rw [h1]
  dsimp only
  refine ⟨b0, b1, b2, ?_⟩
  have hother : ∀ m, m ≠ nmLog A.j.last → (P.add (nmB (nmLog A.j.last)) (logE (nmLog A.j.last) A.j.puts l) (putB p.1 p.2.1 p.2.2)).2.2.bs m = P.bs m := fun m hm => by rw [b3, if_neg hm]
  have hself := b3 (nmLog A.j.last)
  rw [if_pos rfl] at hself
  generalize (P.add (nmB (nmLog A.j.last)) (logE (nmLog A.j.last) A.j.puts l) (putB p.1 p.2.1 p.2.2)).2.2 = P2 at hother hself b2
  refine ⟨h.ixok, ?_, h.segs, fun x hx => ?_, h.clNum, fun x hx _ => h.clNew x hx (by simp), ⟨h.firsts.1, fun _ => h.firsts.2 (by simp)⟩, ?_, h.ahead, ⟨?_, h2, ?_, ?_, h5⟩, ⟨h.jlast.1, h.jlast.2.1, fun k hk hx => ?_⟩, ⟨h.slast.1, fun k hk hx => ?_⟩, fun nm hm => ?_, h.jrise, fun nm hm => ?_, fun k h1 h2' h3' => ?_⟩
  · rw [hother _ (log_ne_idx _).symm]; exact h.ix
  · rw [hother _ (log_ne_seg _ x.1).symm]; exact h.seg x hx
  · exact h.logs.other fun x hx => hother _ fun e => h.clNew x hx (by simp) (nmLog_inj (h.clNum x hx).1.1 h5 e)
  · dsimp only; rw [q2]
  · dsimp only; rw [hself, q1]
  · intro x hx
    rcases List.mem_append.1 hx with hx | hx
    · exact h4 x hx
    · simp at hx; subst hx; exact hp
  · by_cases e : nmLog k = nmLog A.j.last
    · have := nmLog_inj hk h5 e
      show k ≤ A.j.last
      omega
    · rw [hother _ e] at hx; exact h.jlast.2.2 k hk hx
  · rw [hother _ (log_ne_seg _ k).symm] at hx; exact h.slast.2 k hk hx
  · by_cases e : nm = nmLog A.j.last
    · subst e; rw [hself]; simp
    · rw [hother _ e]; exact h.loose nm hm
  · by_cases e : nm = nmLog A.j.last
    · subst e; rw [namedP_nmLog h5]; simp
    · rw [hother _ e] at hm; exact h.named nm hm
  · by_cases e : nmLog k = nmLog A.j.last
    · have := nmLog_inj h1 h5 e
      subst this
      show A.j.last ∈ A.j.logs
      rw [h2]; simp
    · rw [hother _ e] at h3'
      exact h.logsAll k h1 h2' h3'
/-- A Put is added. -/
theorem Lay.add (h : Lay P A sg cl ol) (hc : Cm P (N + A.loose.length + 3) R) (hn : ol = none → isNum (A.j.last + 1) = true) (p : Pu) (hp : PuOk p) (hR : 33 ≤ R) :
    (A.add P p).1 = true ∧ (A.add P p).2.1 = 0 ∧ Cm (A.add P p).2.2.2 N (R - 33) ∧ Lay (A.add P p).2.2.2 (A.add P p).2.2.1 sg cl (some (ol.getD [] ++ [p])) ∧ (A.add P p).2.2.1.loose = [] := by
  obtain ⟨s1, s2, s3, s4, s5⟩ := h.settle (N := N + 3) (hc.mono (by omega) (Nat.le_refl _))
  unfold Ar.add
  rw [if_neg (by simp [s1])]
  dsimp only
  rw [s2]
  dsimp only
  generalize (A.settle P).2.2 = P1 at s3 s4 s5
  cases ol with
  | none =>
    obtain ⟨b1, b2, b3, b4⟩ := Lay.begin (N := N + 1) s5 s3 (hn rfl) (by omega)
    dsimp only at b1 b2 b3 b4
    obtain ⟨p1, p2, p3, p4⟩ := b3.put (N := N) b2 p hp (by omega)
    dsimp only at p1 p2 p3 p4
    have e : A.j.add P1 p = (A.j.begin P1).2.1.put (A.j.begin P1).2.2 p := by
      unfold Jn.add
      rw [if_pos h.own.1, if_neg (by simp [b1])]
    rw [e]
    exact ⟨p1, p2, p3.mono (Nat.le_refl _) (by omega), p4, rfl⟩
  | some l =>
    obtain ⟨p1, p2, p3, p4⟩ := s5.put (N := N) (s3.mono (by omega) (Nat.le_refl _)) p hp (by omega)
    dsimp only at p1 p2 p3 p4
    have e : A.j.add P1 p = A.j.put P1 p := by
      unfold Jn.add
      rw [if_neg (by rw [h.own.1]; simp)]
    rw [e]
    exact ⟨p1, p2, p3.mono (Nat.le_refl _) (by omega), p4, rfl⟩
end
end Go.Proofs.YtodcnkbblippnaaGreatDoor
/- An archive on a calm disk: other segments come into the place of logs and segments: replace. No walk. -/
namespace Go.Proofs.YtodcnkbblippnaaGreatDoor
open Go.RowKit

theorem cmpI_neg {x y : Int} : cmpI x y < 0 ↔ x < y := by 
  unfold cmpI
  by_cases h : x < y
  · simp [h]
  · rw [if_neg h]
    split <;> simp <;> omega
theorem riseI : ∀ {l : List Int}, riseB cmpI l = true ↔ l.Pairwise (· < ·)
  | [] => by simp [riseB]
  | [x] => by simp [riseB]
  | x :: y :: r => by
    have ih := @riseI (y :: r)
    simp only [riseB, Bool.and_eq_true, decide_eq_true_eq, cmpI_neg, ih]
    constructor
    · rintro ⟨h1, h2⟩
      refine List.pairwise_cons.2 ⟨fun z hz => ?_, h2⟩
      rcases List.mem_cons.1 hz with rfl | hz
      · exact h1
      · exact Int.lt_trans h1 ((List.pairwise_cons.1 h2).1 z hz)
    · intro h
      have h' := List.pairwise_cons.1 h
      exact ⟨h'.1 y (List.mem_cons_self ..), h'.2⟩
theorem nodup_sub {α : Type} [DecidableEq α] : ∀ {l l' : List α}, l.Nodup → (∀ x ∈ l, x ∈ l') → l.length ≤ l'.length
  | [], l', _, _ => by simp
  | x :: r, l', h, hs => by
    have h' := List.nodup_cons.1 h
    have hx := hs x (List.mem_cons_self ..)
    have ih := nodup_sub (l' := l'.erase x) h'.2 fun y hy => (List.mem_erase_of_ne (fun e => h'.1 (by subst e; exact hy))).2 (hs y (List.mem_cons_of_mem _ hy))
    have hl := List.length_erase_of_mem hx
    have : 0 < l'.length := List.length_pos_of_mem hx
    simp only [List.length_cons]; omega
/-- Segments that are made, with their numbers. -/
def numbered : Int → List (List Pu) → List (Int × List Pu)
  | _, [] => []
  | last, l :: r => (last + 1, l) :: numbered (last + 1) r
theorem numbered_lt : ∀ {l : List (List Pu)} {last : Int} {x : Int × List Pu}, x ∈ numbered last l → last < x.1 ∧ x.1 ≤ last + l.length ∧ x.2 ∈ l
  | [], _, _, h => by cases h
  | a :: r, last, x, h => by
    rcases List.mem_cons.1 h with rfl | h
    · simp; omega
    · obtain ⟨h1, h2, h3⟩ := numbered_lt h
      simp only [List.length_cons]
      exact ⟨by omega, by omega, List.mem_cons_of_mem _ h3⟩
theorem numbered_rise : ∀ {l : List (List Pu)} {last : Int}, ((numbered last l).map (·.1)).Pairwise (· < ·)
  | [], _ => by simp [numbered]
  | a :: r, last => by
    simp only [numbered, List.map_cons]
    refine List.pairwise_cons.2 ⟨fun z hz => ?_, numbered_rise⟩
    obtain ⟨x, hx, rfl⟩ := List.mem_map.1 hz
    exact (numbered_lt hx).1
theorem numbered_length : ∀ {l : List (List Pu)} {last : Int}, (numbered last l).length = l.length
  | [], _ => rfl
  | a :: r, last => by simp [numbered, numbered_length]
theorem numbered_puts : ∀ {l : List (List Pu)} {last : Int}, putsOf (numbered last l) = l.flatten
  | [], _ => rfl
  | a :: r, last => by
    have := @numbered_puts r (last + 1)
    unfold putsOf at this ⊢
    simp [numbered, this]
/-- The bytes of segments. -/
def segCost (l : List (List Pu)) : Nat := (l.map fun x => 17 * x.length + 4).sum
section
variable {P P' : PD} {A : Ar} {sg cl : List (Int × List Pu)} {ol : Option (List Pu)} {N R : Nat}
theorem Cm.newSegs : ∀ (fresh : List (List Pu)) (last : Int) (kept : List Int) {P : PD}, Cm P (N + 3 * fresh.length) (R + segCost fresh) → 0 ≤ last → last + fresh.length ≤ 4611686018427387904 →
    (∀ n, isNum n = true → last < n → P.bs (nmSeg n) = none) →
    (PD.newSegs fresh last kept P).1 = 0 ∧ (PD.newSegs fresh last kept P).2.1 = last + fresh.length ∧ (PD.newSegs fresh last kept P).2.2.1 = kept ++ (numbered last fresh).map (·.1) ∧ Cm (PD.newSegs fresh last kept P).2.2.2 N R ∧
      (∀ x ∈ numbered last fresh, (PD.newSegs fresh last kept P).2.2.2.bs (nmSeg x.1) = some (pieceB (sum0 (nmSeg x.1)) (putsB x.2))) ∧
      ∀ m, (∀ x ∈ numbered last fresh, m ≠ nmSeg x.1) → (PD.newSegs fresh last kept P).2.2.2.bs m = P.bs m
  | [], last, kept, P, hc, h0, h1, hn => ⟨rfl, by simp [PD.newSegs], by simp [PD.newSegs, numbered], by simpa [PD.newSegs, segCost] using hc, ⟨fun x hx => by simp [numbered] at hx, fun m _ => rfl⟩⟩
  | l :: r, last, kept, P, hc, h0, h1, hn => by
    simp only [List.length_cons] at h1
    have hnum : isNum (last + 1) = true := by unfold isNum; simp; omega
    have hcost : segCost (l :: r) = (17 * l.length + 4) + segCost r := by simp [segCost]
    obtain ⟨a1, a2, a3⟩ := Cm.write (N := N + 3 * r.length) (R := R + segCost (l :: r)) (nm := nmSeg (last + 1)) (hc.mono (by simp; omega) (Nat.le_refl _)) (hn _ hnum (by omega)) (seg_ne_nil _) (sum0 (nmSeg (last + 1))) (putsB l) (by rw [putsB_len, hcost]; omega)
    rw [putsB_len] at a2
    have a2' := a2.mono (N' := N + 3 * r.length) (R' := R + segCost r) (Nat.le_refl _) (by rw [hcost]; omega)
    obtain ⟨b1, b2, b3, b4, b5, b6⟩ := Cm.newSegs r (last + 1) (kept ++ [last + 1]) a2' (by omega) (by omega) fun n hk hlt => by
      have hne : nmSeg n ≠ nmSeg (last + 1) := fun e => by have := nmSeg_inj hk hnum e; omega
      rw [a3, if_neg hne]; exact hn n hk (by omega)
    have e : PD.newSegs (l :: r) last kept P = PD.newSegs r (last + 1) (kept ++ [last + 1]) (P.newSeg (last + 1) l).2 := by
      conv => lhs; unfold PD.newSegs
      rw [if_neg (by unfold PD.newSeg; simp [a1])]
    have e2 : (P.newSeg (last + 1) l).2 = (P.write (nmSeg (last + 1)) (sum0 (nmSeg (last + 1))) (putsB l)).2 := rfl
    rw [e, e2]
    refine ⟨b1, by rw [b2]; simp only [List.length_cons]; omega, by rw [b3]; simp [numbered], b4, fun x hx => ?_, fun m hm => ?_⟩
    · rcases List.mem_cons.1 hx with rfl | hx
      · dsimp only
        rw [b6 _ fun y hy e => ?_, a3, if_pos rfl]
        have hy := numbered_lt hy
        have hyn : isNum y.1 = true := by unfold isNum; simp; omega
        have := nmSeg_inj hnum hyn e
        omega
      · exact b5 x hx
    · rw [b6 m fun x hx => hm x (List.mem_cons_of_mem _ hx), a3, if_neg (hm _ (List.mem_cons_self ..))]
theorem others_mem {nm : Bs} : nm ∈ A.others P ↔ P.bs nm ≠ none ∧ nm ∉ A.names := by
  unfold Ar.others
  rw [List.mem_filter, names_mem]
  simp
/-- What does not count is taken away. -/
theorem Cm.sweep (hc : Cm P N R) {K M : Nat} (hK : (A.others P).length ≤ K) (hN : N = M + K) : (A.sweep P).1 = 0 ∧ Cm (A.sweep P).2 M R ∧ ∀ m, (A.sweep P).2.bs m = if m ∈ A.names then P.bs m else none := by
  obtain ⟨h1, h2, h3⟩ := Cm.removeAll (N := M) (A.others P) (hc.mono (by omega) (Nat.le_refl _)) (List.Nodup.sublist List.filter_sublist hc.nodup) fun m hm => (others_mem.1 hm).1
  refine ⟨h1, h2, fun m => ?_⟩
  show (PD.removeAll (A.others P) P).2.bs m = _
  rw [h3]
  by_cases hm : m ∈ A.names
  · rw [if_neg (fun h => (others_mem.1 h).2 hm), if_pos hm]
  · rw [if_neg hm]
    by_cases hb : P.bs m = none
    · rw [hb]; simp
    · rw [if_pos (others_mem.2 ⟨hb, hm⟩)]
/-- A new index comes in the old one's place. -/
theorem Cm.turn (hc : Cm P (N + 4) R) (first : Int) (segs : List Int) (h0 : P.bs nmDrf = none) (hR : 12 + 8 * segs.length ≤ R) :
    (P.turn first segs).1 = 0 ∧ Cm (P.turn first segs).2 N (R - (12 + 8 * segs.length)) ∧ ∀ m, (P.turn first segs).2.bs m = if m = nmIdx then some (pieceB (sum0 nmIdx) (idxB first segs)) else P.bs m := by
  have hl : (idxB first segs).length = 8 + 8 * segs.length := by unfold idxB; rw [List.length_append, intB_length, flat_len]
  obtain ⟨a1, a2, a3⟩ := Cm.write (N := N + 1) hc h0 (by simp [nmDrf]) (sum0 nmIdx) (idxB first segs) (by omega)
  obtain ⟨b1, b2, b3⟩ := Cm.renameB (N := N) (nm := nmIdx) a2 (by rw [a3, if_pos rfl]) (by simp [nmIdx]) idx_ne_drf.symm
  unfold PD.turn
  rw [if_neg (by simp [a1])]
  refine ⟨b1, by have := b2; rw [hl] at this; exact this.mono (Nat.le_refl _) (by omega), fun m => ?_⟩
  rw [b3]
  by_cases h : m = nmIdx
  · simp [h]
  · rw [if_neg h, if_neg h]
    by_cases h' : m = nmDrf
    · rw [if_pos h', h', h0]
    · rw [if_neg h', a3, if_neg h']
theorem Lay.segBs (h : Lay P A sg cl ol) {x : Int × List Pu} (hx : x ∈ sg) : P.bs (nmSeg x.1) ≠ none := by rw [(h.seg x hx).2]; simp
theorem Lay.segNum (h : Lay P A sg cl ol) {x : Int × List Pu} (hx : x ∈ sg) : isNum x.1 = true := h.ixok.segs _ (by rw [← h.segs]; exact List.mem_map_of_mem hx)
theorem Lay.segLe (h : Lay P A sg cl ol) {x : Int × List Pu} (hx : x ∈ sg) : x.1 ≤ A.last := h.slast.2 _ (h.segNum hx) (h.segBs hx)
/-- Segments ks stay, others come; the logs go. -/
theorem Lay.replace (h : Lay P A sg cl ol) {K : Nat} (ks : List (Int × List Pu)) (fresh : List (List Pu)) (hc : Cm P (N + A.loose.length + K + 3 * fresh.length + 8 + A.j.logs.length + sg.length + fresh.length) (R + segCost fresh + 12 + 8 * (ks.length + fresh.length)))
    (hK : P.names.length ≤ K) (hks : ∀ x ∈ ks, x ∈ sg) (hrise : (ks.map (·.1)).Pairwise (· < ·)) (hf : ∀ l ∈ fresh, (∀ p ∈ l, PuOk p) ∧ riseB cmpPu l = true)
    (hn : isNum (A.j.last + 1) = true) (hln : A.last + fresh.length ≤ 4611686018427387904) :
    (A.replace P (ks.map (·.1)) fresh).1 = 0 ∧ (A.replace P (ks.map (·.1)) fresh).2.1 = ⟨⟨A.j.last + 1, (ks ++ numbered A.last fresh).map (·.1)⟩, ⟨[], A.j.last, 0, none⟩, A.last + fresh.length, []⟩ ∧ Cm (A.replace P (ks.map (·.1)) fresh).2.2 N R ∧
      Lay (A.replace P (ks.map (·.1)) fresh).2.2 (A.replace P (ks.map (·.1)) fresh).2.1 (ks ++ numbered A.last fresh) [] none ∧
      (∀ m, (A.replace P (ks.map (·.1)) fresh).2.2.bs m ≠ none → m ∈ nmIdx :: (ks ++ numbered A.last fresh).map fun x => nmSeg x.1) := by
  obtain ⟨s1, s2, s3, s4, s5⟩ := h.settle (N := N + K + 3 * fresh.length + 8 + A.j.logs.length + sg.length + fresh.length) (R := R + segCost fresh + 12 + 8 * (ks.length + fresh.length)) (hc.mono (by omega) (Nat.le_refl _))
  have hothK : (({ A with loose := [] } : Ar).others (A.settle P).2.2).length ≤ K := by
    refine Nat.le_trans ?_ hK
    refine nodup_sub (List.Nodup.sublist List.filter_sublist s3.nodup) fun m hm => ?_
    rw [names_mem, ← s4]; exact (others_mem.1 hm).1
  obtain ⟨w1, w2, w3⟩ := Cm.sweep (A := { A with loose := [] }) s3 (K := K) (M := N + 3 * fresh.length + 8 + A.j.logs.length + sg.length + fresh.length) hothK (by omega)
  have hnames : ∀ m, m ∈ ({ A with loose := [] } : Ar).names ↔ m = nmIdx ∨ (∃ n ∈ A.j.logs, m = nmLog n) ∨ ∃ x ∈ sg, m = nmSeg x.1 := fun m => by
    unfold Ar.names
    dsimp only
    rw [← h.segs]
    simp [eq_comm]
  have wseg : ∀ n, isNum n = true → A.last < n → (({ A with loose := [] } : Ar).sweep (A.settle P).2.2).2.bs (nmSeg n) = none := fun n hk hlt => by
    rw [w3]
    split
    · rw [s4]
      cases hx : P.bs (nmSeg n) with
      | none => rfl
      | some c => have := h.slast.2 n hk (by rw [hx]; simp); omega
    · rfl
  obtain ⟨g1, g2, g3, g4, g5, g6⟩ := Cm.newSegs (N := N + 8 + A.j.logs.length + sg.length + fresh.length) (R := R + 12 + 8 * (ks.length + fresh.length)) fresh A.last (ks.map (·.1)) (w2.mono (by omega) (by omega)) h.slast.1 hln wseg
  obtain ⟨P1, hP1⟩ : ∃ P1, (({ A with loose := [] } : Ar).sweep (A.settle P).2.2).2 = P1 := ⟨_, rfl⟩
  rw [hP1] at w3 wseg g1 g2 g3 g4 g5 g6
  obtain ⟨P2, hP2⟩ : ∃ P2, (PD.newSegs fresh A.last (ks.map (·.1)) P1).2.2.2 = P2 := ⟨_, rfl⟩
  rw [hP2] at g4 g5 g6
  obtain ⟨ns, hns⟩ : ∃ ns, ks ++ numbered A.last fresh = ns := ⟨_, rfl⟩
  have hnsm : ns.map (·.1) = ks.map (·.1) ++ (numbered A.last fresh).map (·.1) := by rw [← hns, List.map_append]
  have hnsl : ns.length = ks.length + fresh.length := by rw [← hns, List.length_append, numbered_length]
  have P2drf : P2.bs nmDrf = none := by
    rw [g6 _ fun x _ => (seg_ne_drf x.1).symm, w3, if_neg]
    rw [hnames]
    rintro (e | ⟨n, _, e⟩ | ⟨x, _, e⟩)
    · exact idx_ne_drf e.symm
    · exact log_ne_drf n e.symm
    · exact seg_ne_drf x.1 e.symm
  have nsNum : ∀ x ∈ ns, isNum x.1 = true := fun x hx => by
    rw [← hns] at hx
    rcases List.mem_append.1 hx with hx | hx
    · exact h.segNum (hks x hx)
    · have := numbered_lt hx
      have := h.slast.1
      unfold isNum; simp; omega
  have nsLe : ∀ x ∈ ns, x.1 ≤ A.last + fresh.length := fun x hx => by
    rw [← hns] at hx
    rcases List.mem_append.1 hx with hx | hx
    · have := h.segLe (hks x hx); omega
    · have := numbered_lt hx; omega
  have nsRise : (ns.map (·.1)).Pairwise (· < ·) := by
    rw [hnsm]
    refine List.pairwise_append.2 ⟨hrise, numbered_rise, fun a ha b hb => ?_⟩
    obtain ⟨x, hx, rfl⟩ := List.mem_map.1 ha
    obtain ⟨y, hy, rfl⟩ := List.mem_map.1 hb
    have h1 := h.segLe (hks x hx)
    have h2 := numbered_lt hy
    omega
  have nsSeg : ∀ x ∈ ns, ((∀ p ∈ x.2, PuOk p) ∧ riseB cmpPu x.2 = true) ∧ P2.bs (nmSeg x.1) = some (pieceB (sum0 (nmSeg x.1)) (putsB x.2)) := fun x hx => by
    rw [← hns] at hx
    rcases List.mem_append.1 hx with hx | hx
    · have hsx := h.seg x (hks x hx)
      refine ⟨hsx.1, ?_⟩
      rw [g6 _ fun y hy e => ?_, w3, if_pos ((hnames _).2 (.inr (.inr ⟨x, hks x hx, rfl⟩))), s4, hsx.2]
      have h2 := numbered_lt hy
      have h3 := h.slast.1
      have := nmSeg_inj (h.segNum (hks x hx)) (by unfold isNum; simp; omega) e
      have h1 := h.segLe (hks x hx)
      omega
    · exact ⟨hf _ (numbered_lt hx).2.2, g5 x hx⟩
  -- the index
  have hturn : ∃ P3, (({ A with loose := [], last := A.last + fresh.length } : Ar).turn P2 (ns.map (·.1))) = (0, ⟨⟨A.j.last + 1, ns.map (·.1)⟩, ⟨[], A.j.last, 0, none⟩, A.last + fresh.length, []⟩, P3) ∧ Cm P3 (N + 4 + A.j.logs.length + sg.length + fresh.length) R ∧ ((P3.bs nmIdx = none ∧ A.j.last = 0 ∧ ns = []) ∨ P3.bs nmIdx = some (pieceB (sum0 nmIdx) (idxB (A.j.last + 1) (ns.map (·.1))))) ∧ ∀ m, m ≠ nmIdx → P3.bs m = P2.bs m := by
    unfold Ar.turn
    dsimp only
    by_cases hsame : A.ix.first = A.j.last + 1 ∧ A.ix.segs = ns.map (·.1)
    · rw [if_pos hsame]
      have hcl : cl = [] := by
        cases hcl : cl with
        | nil => rfl
        | cons x r =>
          have hx : x ∈ cl := by rw [hcl]; exact List.mem_cons_self ..
          have h1 := h.firsts.1 x hx
          have h2 := (h.clNum x hx).1.2
          have := hsame.1; omega
      have hol : ol = none := by
        cases ol with
        | none => rfl
        | some l => have := h.firsts.2 (by simp); have := hsame.1; omega
      subst hcl hol
      have hj : A.j = ⟨[], A.j.last, 0, none⟩ := by
        have h1 := h.own
        have h2 := h.ahead
        have e : ∀ j : Jn, j.own = none → j.logs = [] → j.puts = 0 → j = ⟨[], j.last, 0, none⟩ := fun j a b c => by cases j; simp_all
        exact e _ h1.1 (by simpa using h1.2) (by simpa [putsOf] using h2)
      have hi : A.ix = ⟨A.j.last + 1, ns.map (·.1)⟩ := by
        have e : ∀ i : Ix, i = ⟨i.first, i.segs⟩ := fun i => rfl
        rw [e A.ix, hsame.1, hsame.2]
      refine ⟨P2, ?_, g4.mono (by omega) (by omega), ?_, fun _ _ => rfl⟩
      · conv => lhs; rw [hj, hi]
      · rw [g6 _ fun x _ => (seg_ne_idx x.1).symm, w3, if_pos ((hnames _).2 (.inl rfl)), s4]
        rcases h.ix with ⟨h1, h2⟩ | h2
        · rw [h2] at hsame
          exact .inl ⟨h1, by have := hsame.1; dsimp only at this; omega, by simpa using hsame.2⟩
        · exact .inr (by rw [h2, hsame.1, hsame.2])
    · rw [if_neg hsame]
      obtain ⟨t1, t2, t3⟩ := Cm.turn (N := N + 4 + A.j.logs.length + sg.length + fresh.length) (R := R + 12 + 8 * ns.length) (g4.mono (by omega) (by rw [hnsl]; omega)) (A.j.last + 1) (ns.map (·.1)) P2drf (by simp)
      rw [if_neg (by simp [t1])]
      refine ⟨_, rfl, t2.mono (Nat.le_refl _) (by simp; omega), .inr (by rw [t3, if_pos rfl]), fun m hm => by rw [t3, if_neg hm]⟩
  obtain ⟨P3, t1, t2, t3, t4⟩ := hturn
  have P3bs : ∀ m, P3.bs m ≠ none → m = nmIdx ∨ (∃ n ∈ A.j.logs, m = nmLog n) ∨ (∃ x ∈ sg, m = nmSeg x.1) ∨ ∃ x ∈ numbered A.last fresh, m = nmSeg x.1 := fun m hm => by
    by_cases e : m = nmIdx
    · exact .inl e
    · rw [t4 m e] at hm
      by_cases e2 : ∃ x ∈ numbered A.last fresh, m = nmSeg x.1
      · exact .inr (.inr (.inr e2))
      · rw [g6 m fun x hx e3 => e2 ⟨x, hx, e3⟩, w3] at hm
        by_cases e3 : m ∈ ({ A with loose := [] } : Ar).names
        · rcases (hnames m).1 e3 with h | h | h
          · exact .inl h
          · exact .inr (.inl h)
          · exact .inr (.inr (.inl h))
        · rw [if_neg e3] at hm; exact absurd rfl hm
  obtain ⟨A3, hA3⟩ : ∃ A3 : Ar, (⟨⟨A.j.last + 1, ns.map (·.1)⟩, ⟨[], A.j.last, 0, none⟩, A.last + fresh.length, []⟩ : Ar) = A3 := ⟨_, rfl⟩
  have hnames3 : ∀ m, m ∈ A3.names ↔ m = nmIdx ∨ ∃ x ∈ ns, m = nmSeg x.1 := fun m => by
    rw [← hA3]; unfold Ar.names; dsimp only; simp [eq_comm]
  have hoth3 : (A3.others P3).length ≤ 1 + A.j.logs.length + sg.length + fresh.length := by
    have h1 : (A3.others P3).length ≤ (nmIdx :: (A.j.logs.map nmLog ++ (sg.map (fun x => nmSeg x.1) ++ (numbered A.last fresh).map fun x => nmSeg x.1))).length :=
      nodup_sub (List.Nodup.sublist List.filter_sublist t2.nodup) fun m hm => by
        rcases P3bs m (others_mem.1 hm).1 with h | ⟨n, h1, h2⟩ | ⟨n, h1, h2⟩ | ⟨n, h1, h2⟩
        · subst h; exact List.mem_cons_self ..
        · subst h2; exact List.mem_cons_of_mem _ (List.mem_append_left _ (List.mem_map_of_mem h1))
        · subst h2; exact List.mem_cons_of_mem _ (List.mem_append_right _ (List.mem_append_left _ (List.mem_map.2 ⟨n, h1, rfl⟩)))
        · subst h2; exact List.mem_cons_of_mem _ (List.mem_append_right _ (List.mem_append_right _ (List.mem_map.2 ⟨n, h1, rfl⟩)))
    simp only [List.length_cons, List.length_append, List.length_map, numbered_length] at h1
    omega
  obtain ⟨v1, v2, v3⟩ := Cm.sweep (A := A3) (t2.mono (N' := N + 1 + (1 + A.j.logs.length + sg.length + fresh.length)) (by omega) (Nat.le_refl _)) hoth3 (M := N + 1) (by omega)
  obtain ⟨d1, d2, d3⟩ := Cm.syncDirB (N := N) v2
  obtain ⟨P4, hP4⟩ : ∃ P4, (A3.sweep P3).2.syncDir.2 = P4 := ⟨_, rfl⟩
  have hrep : A.replace P (ks.map (·.1)) fresh = (0, A3, P4) := by
    unfold Ar.replace
    dsimp only
    rw [if_neg (by simp [s1]), s2, if_neg (by simp [w1]), hP1]
    dsimp only
    rw [if_neg (by simp [g1]), g2, g3, hP2, ← hnsm, t1, hA3]
    dsimp only
    rw [if_neg (by simp)]
    unfold Ar.close
    rw [if_neg (by simp [v1]), d1, hP4]
  rw [hP4] at d2 d3
  have P4bs : ∀ m, P4.bs m = if m ∈ A3.names then P3.bs m else none := fun m => by rw [d3, v3]
  have P4seg : ∀ x ∈ ns, P4.bs (nmSeg x.1) = some (pieceB (sum0 (nmSeg x.1)) (putsB x.2)) := fun x hx => by
    rw [P4bs, if_pos ((hnames3 _).2 (.inr ⟨x, hx, rfl⟩)), t4 _ (seg_ne_idx _)]; exact (nsSeg x hx).2
  have P4ix : P4.bs nmIdx = P3.bs nmIdx := by rw [P4bs, if_pos ((hnames3 _).2 (.inl rfl))]
  rw [hrep]
  dsimp only
  rw [hns]
  refine ⟨rfl, hA3.symm, d2, ?_, fun m hm => ?_⟩
  · rw [← hA3]
    refine ⟨⟨hn, fun n hm => ?_, riseI.2 nsRise⟩, ?_, rfl, fun x hx => ⟨(nsSeg x hx).1, P4seg x hx⟩, fun x hx => (by cases hx), fun x hx => (by cases hx), ⟨fun x hx => (by cases hx), fun h => absurd rfl h⟩, trivial, rfl, ⟨rfl, rfl⟩, ⟨h.jlast.1, Int.le_refl _, fun n hk hx => ?_⟩, ⟨by have := h.slast.1; dsimp only; omega, fun n hk hx => ?_⟩, fun nm hm => (by cases hm), List.Pairwise.nil, fun nm hm => ?_, fun n hk _ hx => ?_⟩
    · obtain ⟨x, hx, rfl⟩ := List.mem_map.1 hm
      exact nsNum x hx
    · rw [P4ix]
      rcases t3 with ⟨q1, q2, q3⟩ | q
      · exact .inl ⟨q1, by dsimp only; rw [q2, q3]; rfl⟩
      · exact .inr q
    · rw [P4bs, if_neg] at hx
      · exact absurd rfl hx
      · rw [hnames3]
        rintro (e | ⟨x, _, e⟩)
        · exact log_ne_idx n e
        · exact log_ne_seg n x.1 e
    · rw [P4bs] at hx
      split at hx
      · rename_i hm
        rcases (hnames3 _).1 hm with e | ⟨x, hx2, e⟩
        · exact absurd e (seg_ne_idx n)
        · have := nmSeg_inj hk (nsNum x hx2) e
          rw [this]; exact nsLe x hx2
      · exact absurd rfl hx
    · rw [P4bs] at hm
      split at hm
      · rename_i h2
        rcases (hnames3 _).1 h2 with e | ⟨x, hx, e⟩
        · subst e; rw [namedP_idx]; simp
        · subst e; rw [namedP_nmSeg (nsNum x hx)]; simp
      · exact absurd rfl hm
    · rw [P4bs, if_neg] at hx
      · exact absurd rfl hx
      · rw [hnames3]
        rintro (e | ⟨x, _, e⟩)
        · exact log_ne_idx n e
        · exact log_ne_seg n x.1 e
  · rw [P4bs] at hm
    split at hm
    · rename_i h2
      rcases (hnames3 _).1 h2 with e | ⟨x, hx, e⟩
      · subst e; exact List.mem_cons_self ..
      · subst e; exact List.mem_cons_of_mem _ (List.mem_map.2 ⟨x, hx, rfl⟩)
    · exact absurd rfl hm
end
end Go.Proofs.YtodcnkbblippnaaGreatDoor
