/-
  The statement PassingCardSaid is proved: the law Passing answers true, at every four numbers; there is no condition.
  Part 34 of 34.
-/
import Derived.Test.YtodcnkbblippnaaGreatDoorPart29
import Derived.Test.YtodcnkbblippnaaGreatDoorPart02
import Derived.Test.YtodcnkbblippnaaGreatDoorPart30
import Derived.Test.YtodcnkbblippnaaGreatDoorPart33
import Derived.Test.YtodcnkbblippnaaGreatDoorCards
import Derived.Test.YtodcnkbblippnaaGreatDoorTie
import Derived.Test.YtodcnkbblippnaaGreatDoorPart13
import Derived.Test.YtodcnkbblippnaaGreatDoorPart01
import Derived.WalkKit
import Derived.ProofKit
import Derived.OpenShut
import Derived.Carry
import Derived.Deep.DeepHandedRow
import Derived.Deep.DeepWitnessRowRef
import Derived.Deep.Slices
import Derived.Lib.LaidTab
import Derived.Stop.LaidErr
/- What a store's rows tell is what the document's answer tells: behind a Put, a Tick, for any question. No walk. -/
namespace Go.Proofs.YtodcnkbblippnaaGreatDoor
open Go.RowKit

/-- What the store's rows hold, against all that was put. -/
def Rel (L : Nat → List Pt) (puts : List Pu) (life clock : Int) : Prop := ∀ k : Nat, k < 8 → (L k).filter (fun x => decide (oldestN clock life ≤ x.1)) = refQ puts k (-9223372036854775808) 9223372036854775807 life clock
theorem refQ_sub (puts : List Pu) (s a b l c a' b' l' c' : Int) (g : Int → Bool) (h : ∀ p ∈ puts, qOk s a' b' l' c' p = (qOk s a b l c p && g p.2.1)) :
    refQ puts s a' b' l' c' = (refQ puts s a b l c).filter (fun x => g x.1) := by
  have key : ∀ (ps : List Pu) (acc : List Pt), Sorted acc → (∀ p ∈ ps, qOk s a' b' l' c' p = (qOk s a b l c p && g p.2.1)) →
      ps.foldl (qStep s a' b' l' c') (acc.filter fun x => g x.1) = (ps.foldl (qStep s a b l c) acc).filter (fun x => g x.1) := by
    intro ps
    induction ps with
    | nil => intro acc _ _; rfl
    | cons p r ih =>
      intro acc hs hp
      have hp0 := hp p (by simp)
      simp only [List.foldl_cons]
      by_cases q : qOk s a b l c p = true
      · have e1 : qStep s a b l c acc p = insP acc p.2.1 p.2.2 := by unfold qStep; rw [if_pos q]
        have e2 : qStep s a' b' l' c' (acc.filter fun x => g x.1) p = (insP acc p.2.1 p.2.2).filter (fun x => g x.1) := by
          unfold qStep
          rw [hp0, q, Bool.true_and, insP_filter hs]
        rw [e1, e2]
        exact ih _ (insP_sorted hs _ _) fun p hp' => hp p (List.mem_cons_of_mem _ hp')
      · have q' : qOk s a b l c p = false := by simpa using q
        have e1 : qStep s a b l c acc p = acc := by unfold qStep; rw [q']; rfl
        have e2 : qStep s a' b' l' c' (acc.filter fun x => g x.1) p = acc.filter fun x => g x.1 := by
          unfold qStep
          rw [hp0, q', Bool.false_and]; rfl
        rw [e1, e2]
        exact ih _ hs fun p hp' => hp p (List.mem_cons_of_mem _ hp')
  exact key puts [] List.Pairwise.nil h
theorem aliveB_of {t life clock : Int} (ht : In64 t) : aliveB t life clock = decide (oldestN clock life ≤ t) := (oldest_alive clock life t ht).symm
/-- A question: of the rows, as the document has it. -/
theorem Rel.query {L : Nat → List Pt} {puts : List Pu} {life clock : Int} (h : Rel L puts life clock) (hp : ∀ p ∈ puts, In64 p.2.1) {k : Nat} (hk : k < 8) (a b : Int) :
    piece (L k) (max a (oldestN clock life)) b = refQ puts k a b life clock := by
  have e := refQ_sub puts k (-9223372036854775808) 9223372036854775807 life clock a b life clock (fun t => decide (a ≤ t) && decide (t ≤ b)) fun p hpm => by
    obtain ⟨h1, h2⟩ := hp p hpm
    unfold qOk
    have d1 : decide (-9223372036854775808 ≤ p.2.1) = true := decide_eq_true h1
    have d2 : decide (p.2.1 ≤ 9223372036854775807) = true := decide_eq_true h2
    rw [d1, d2]
    cases decide (p.1 = (k : Int)) <;> cases decide (a ≤ p.2.1) <;> cases decide (p.2.1 ≤ b) <;> cases aliveB p.2.1 life clock <;> rfl
  rw [e, ← h k hk, List.filter_filter]
  unfold piece
  congr 1
  funext x
  apply Bool.eq_iff_iff.2
  simp only [Bool.and_eq_true, decide_eq_true_eq]
  omega
theorem Rel.nil (life clock : Int) : Rel (fun _ => []) [] life clock := fun _ _ => by simp [refQ]
/-- A point is put. -/
theorem Rel.put {L : Nat → List Pt} {puts : List Pu} {life clock : Int} (h : Rel L puts life clock) (hs : ∀ k, k < 8 → Sorted (L k)) {s : Nat} (hs8 : s < 8) {t v : Int} (ht : In64 t) :
    Rel (keptL L (oldestN clock life) s t v) (puts ++ [((s : Int), t, v)]) life clock := by
  intro k hk
  have e1 : refQ (puts ++ [((s : Int), t, v)]) k (-9223372036854775808) 9223372036854775807 life clock = qStep k (-9223372036854775808) 9223372036854775807 life clock (refQ puts k (-9223372036854775808) 9223372036854775807 life clock) ((s : Int), t, v) := by
    unfold refQ; rw [List.foldl_append]; rfl
  rw [e1, ← h k hk]
  obtain ⟨t1, t2⟩ := ht
  have d1 : decide (-9223372036854775808 ≤ t) = true := decide_eq_true t1
  have d2 : decide (t ≤ 9223372036854775807) = true := decide_eq_true t2
  unfold qStep qOk
  simp only [d1, d2, Bool.and_true, aliveB_of (⟨t1, t2⟩ : In64 t)]
  unfold keptL
  by_cases ho : oldestN clock life ≤ t
  · rw [if_pos ho]
    unfold updL
    by_cases e : k = s
    · subst e
      have f := insP_filter (hs k hk) (fun x => decide (oldestN clock life ≤ x)) t v
      simp only [decide_eq_true ho] at f ⊢
      simp only [if_true] at f ⊢
      simpa using f
    · have e' : ¬ (s : Int) = (k : Int) := fun x => e (by omega)
      simp [e, e']
  · rw [if_neg ho]
    have : decide (oldestN clock life ≤ t) = false := decide_eq_false ho
    simp [this]
theorem oldest_mono {c c' life : Int} (h : c ≤ c') : oldestN c life ≤ oldestN c' life := by
  unfold oldestN
  split <;> split <;> omega
/-- Time goes by. -/
theorem Rel.tick {L L' : Nat → List Pt} {puts : List Pu} {life clock clock' : Int} (h : Rel L puts life clock) (hp : ∀ p ∈ puts, In64 p.2.1) (hc : clock ≤ clock') (hf : Forgot L L' (oldestN clock' life)) : Rel L' puts life clock' := by
  intro k hk
  have ho : oldestN clock life ≤ oldestN clock' life := oldest_mono hc
  have e := refQ_sub puts k (-9223372036854775808) 9223372036854775807 life clock (-9223372036854775808) 9223372036854775807 life clock' (fun t => decide (oldestN clock' life ≤ t)) fun p hpm => by
    unfold qOk
    rw [aliveB_of (hp p hpm), aliveB_of (hp p hpm)]
    have : decide (oldestN clock' life ≤ p.2.1) = (decide (oldestN clock life ≤ p.2.1) && decide (oldestN clock' life ≤ p.2.1)) := by
      apply Bool.eq_iff_iff.2; simp only [Bool.and_eq_true, decide_eq_true_eq]; omega
    rw [this]
    simp [Bool.and_assoc]
  have e2 : (L k).filter (fun x => decide (oldestN clock' life ≤ x.1)) = refQ puts k (-9223372036854775808) 9223372036854775807 life clock' := by
    rw [e, ← h k hk, List.filter_filter]
    congr 1
    funext x
    apply Bool.eq_iff_iff.2; simp only [Bool.and_eq_true, decide_eq_true_eq]; omega
  rw [← e2]
  rcases hf k hk with q | q
  · rw [q]
  · rw [q]
    have hsplit : L k = (L k).take (posP (L k) (oldestN clock' life)) ++ (L k).drop (posP (L k) (oldestN clock' life)) := (List.take_append_drop _ _).symm
    have hz : ((L k).take (posP (L k) (oldestN clock' life))).filter (fun x => decide (oldestN clock' life ≤ x.1)) = [] := by
      rw [List.filter_eq_nil_iff]
      intro x hx
      obtain ⟨i, hi, rfl⟩ := List.mem_iff_getElem.1 hx
      rw [List.length_take] at hi
      have := posP_lt (l := L k) (t := oldestN clock' life) (i := i) (by omega) (by omega)
      rw [List.getElem_take]
      simp; omega
    conv => rhs; rw [hsplit, List.filter_append, hz, List.nil_append]
end Go.Proofs.YtodcnkbblippnaaGreatDoor
/- Walks: tideskeep.Passing, of a store on an empty disk that does not fail. -/
namespace Go.Proofs.YtodcnkbblippnaaGreatDoor
open Go.RowKit Go.MuLone

/-- Numbers of an archive that lies there. -/
theorem isNum_ok {n : Int} (h : isNum n = true) : NumOk n := by
  unfold isNum at h; simp at h
  exact numOk_of (by omega) h.2
section
variable {P : PD} {A : Ar} {sg cl : List (Int × List Pu)} {ol : Option (List Pu)}
theorem Lay.segOk (h : Lay P A sg cl ol) : ∀ n ∈ A.ix.segs, NumOk n := fun n hn => isNum_ok (h.ixok.segs n hn)
theorem Lay.seg64 (h : Lay P A sg cl ol) : ∀ n ∈ A.ix.segs, In64 n := fun n hn => isNum_64 (h.ixok.segs n hn)
theorem Lay.logOk (h : Lay P A sg cl ol) : ∀ n ∈ A.j.logs, NumOk n := fun n hn => by
  rw [h.logNums] at hn
  obtain ⟨x, hx, rfl⟩ := List.mem_map.1 hn
  cases ol with
  | none => exact isNum_ok (h.clNum x hx).1.1
  | some l =>
    rcases List.mem_append.1 hx with hx | hx
    · exact isNum_ok (h.clNum x hx).1.1
    · simp at hx; subst hx; exact isNum_ok h.own.2.2.2.2
end
/-- What stands behind a store of one point: n calls more may turn its disk. -/
structure One1 (n : Nat) (A : Ar) (P : PD) (sg cl : List (Int × List Pu)) (ol : Option (List Pu)) : Prop where
  n2 : n ≤ 2
  lay : Lay P A sg cl ol
  cm : Cm P (1000 * (n + 1)) (10000 * (n + 1))
  fit : Fit P (100 - 30 * n) (1000 - 300 * n) (1000 - 300 * n)
  all : (layAll sg cl ol).length ≤ 1
  sgl : sg.length ≤ 1
  jl : A.j.logs.length ≤ 1
  loose : A.loose = []
  jlast : A.j.last ≤ 1
  last : A.last + n ≤ 4
/-- A store that has had this one point. -/
def PassP (w0 : World) (time long : Int) (sb : Nat) (n : Nat) (w : World) (c : Int) : Prop :=
  In64 c ∧ ∃ ab b win L A P FT sg cl ol, SF w sb ab b 0 long win c false L A P FT ∧ (∀ k, FT k → k < w.heap.size) ∧ (∀ k, FT k → w0.heap.size ≤ k) ∧ Chg (fun _ => False) w0 w ∧ (1 ≤ win ∧ win ≤ 4611686018427387904) ∧
    Rel L [(((4 : Nat) : Int), time, 9)] long c ∧ One1 n A P sg cl ol ∧ sg.length + (putsOf cl ++ ol.getD []).length ≤ 1
theorem Chg.newer {S : Nat → Prop} {a b c : World} (h : Chg (fun _ => False) a b) (k : Chg S b c) (hs : ∀ x, S x → a.heap.size ≤ x) : Chg (fun _ => False) a c := h.trans k fun x hx hlt => by have := hs x hx; omega
section
variable {n : Nat} {A : Ar} {P : PD} {sg cl : List (Int × List Pu)} {ol : Option (List Pu)}
theorem One1.names (h : One1 n A P sg cl ol) : P.names.length ≤ 100 := by
  have := h.fit.dir
  rw [names_length]; omega
theorem One1.cls (h : One1 n A P sg cl ol) : (putsOf cl ++ ol.getD []).length ≤ 1 := by
  have := h.all
  unfold layAll at this
  rw [List.length_append] at this; omega
theorem One1.numJ (h : One1 n A P sg cl ol) : isNum (A.j.last + 1) = true := by
  have h1 := h.jlast
  have h2 := h.lay.jlast.1
  unfold isNum; simp; omega
/-- What flush and compact leave. -/
theorem One1.next (h : One1 (n + 1) A P sg cl ol) {A' : Ar} {P' : PD} {sg' : List (Int × List Pu)} {last : Int} (hA : A' = ⟨⟨A.j.last + 1, sg'.map (·.1)⟩, ⟨[], A.j.last, 0, none⟩, last, []⟩) (hl : last ≤ A.last + 1) (hL : Lay P' A' sg' [] none) (hc : Cm P' (1000 * (n + 1)) (10000 * (n + 1)))
    (hF : Fit P' (100 - 30 * (n + 1) + 3) (1000 - 300 * (n + 1) + 2 * (100 - 30 * (n + 1)) + 6) (1000 - 300 * (n + 1) + 60)) (hall : (putsOf sg').length ≤ 1) (hs : sg'.length ≤ 1) : One1 n A' P' sg' [] none := by
  have h1 := h.n2
  have h2 := h.last
  refine ⟨by omega, hL, hc, hF.mono (by omega) (by omega) (by omega), by simpa [layAll, putsOf] using hall, hs, by rw [hA]; simp, by rw [hA], by rw [hA]; exact h.jlast, by rw [hA]; dsimp only; omega⟩
theorem One1.flush (h : One1 (n + 1) A P sg cl ol) (window : Int) (hsg : sg.length + (putsOf cl ++ ol.getD []).length ≤ 1) : (A.flush P window).1 = 0 ∧ ∃ sg' cl' ol', One1 n (A.flush P window).2.1 (A.flush P window).2.2 sg' cl' ol' ∧ sg'.length + (putsOf cl' ++ ol'.getD []).length ≤ 1 := by
  have hn := h.n2
  have hla := h.last
  have hl0 := h.lay.slast.1
  obtain ⟨f1, f2, fresh, f3, f4, f5, f6, f7, f8, f9⟩ := h.lay.flush (keyWeak window) (N := 1000 * (n + 1)) (R := 10000 * (n + 1)) (K := 100) (n := 1) h.cls (by omega) h.names (by have := h.sgl; omega) (by have := h.jl; omega) (by rw [h.loose]; simp) (h.cm.mono (by omega) (by omega)) h.numJ (by omega)
  have hfl : fresh.length ≤ (putsOf cl ++ ol.getD []).length := by omega
  have hF := h.fit.replace (A := A) A.ix.segs (inWins window (P.puts A.j.logs).1)
  have hp := h.lay.puts (by have := h.cls; rw [List.length_append] at this; omega)
  have hiw : segCost (inWins window (P.puts A.j.logs).1) + 8 * (inWins window (P.puts A.j.logs).1).length ≤ 40 ∧ (inWins window (P.puts A.j.logs).1).length ≤ 1 := by
    rw [hp]
    dsimp only
    have hwi := inWins_inv (keyWeak window) (putsOf cl ++ ol.getD [])
    have e1 := flatten_len hwi.ne
    have e2 := hwi.len
    have e3 := h.cls
    rw [segCost_le]
    omega
  have hseg : A.ix.segs.length ≤ 1 := by rw [← h.lay.segs, List.length_map]; exact h.sgl
  have hfl2 : (A.flush P window) = A.replace P A.ix.segs (inWins window (P.puts A.j.logs).1) := by unfold Ar.flush; rw [hp, if_neg (by simp)]
  have hsl : (sg ++ numbered A.last fresh).length ≤ 1 := by rw [List.length_append, numbered_length]; omega
  have hall : (putsOf (sg ++ numbered A.last fresh)).length ≤ 1 := by
    have e := @numbered_puts fresh A.last
    have h2 := h.all
    unfold layAll at h2
    unfold putsOf at e h2 ⊢
    rw [List.flatMap_append, e, List.length_append]
    rw [List.length_append] at h2
    unfold putsOf at f7
    omega
  refine ⟨f1, sg ++ numbered A.last fresh, [], none, h.next f3 (by have := h.cls; omega) f4 f2 ?_ hall hsl, by simpa [putsOf] using hsl⟩
  rw [hfl2]
  obtain ⟨i1, i2⟩ := hiw
  exact hF.mono (by omega) (by omega) (by omega)
theorem One1.compact (h : One1 (n + 1) A P sg cl ol) (window oldest : Int) : (A.compact P window oldest).1 = 0 ∧ ∃ sg' cl' ol', One1 n (A.compact P window oldest).2.1 (A.compact P window oldest).2.2 sg' cl' ol' ∧ sg'.length + (putsOf cl' ++ ol'.getD []).length ≤ 1 := by
  have hn := h.n2
  have hla := h.last
  have hl0 := h.lay.slast.1
  obtain ⟨f1, f2, sg', last, f3, f4, f5, f6, f7, f8⟩ := h.lay.compact (window := window) (oldest := oldest) (keyWeak window) (N := 1000 * (n + 1)) (R := 10000 * (n + 1)) (K := 100) (n := 1) h.all (by omega) h.names (by have := h.sgl; omega) (by have := h.jl; omega) (by rw [h.loose]; simp) (h.cm.mono (by omega) (by omega)) h.numJ (by omega)
  have hwi := inWins_inv (keyWeak window) (layAll sg cl ol)
  have e1 := flatten_len hwi.ne
  have e2 := hwi.len
  have e3 := h.all
  have hlen := f7.length_eq
  rw [List.length_map] at hlen
  have hal : (aliveW oldest (inWins window (layAll sg cl ol))).length ≤ 1 := Nat.le_trans (List.length_filter_le _ _) (by omega)
  have hfl := f7.flatten.length_eq
  have hal2 : (aliveW oldest (inWins window (layAll sg cl ol))).flatten.length ≤ 1 := Nat.le_trans (flatten_filter _ _).length_le (by omega)
  have hall : (putsOf sg').length ≤ 1 := by
    have e : (sg'.map (·.2)).flatten = putsOf sg' := by unfold putsOf; rw [List.flatMap_def]
    rw [e] at hfl; omega
  have hp := h.lay.puts (by have := h.cls; rw [List.length_append] at this; omega)
  have e5 : A.compact P window oldest = A.replace P ((keptOf sg oldest (inWins window (layAll sg cl ol))).1.mergeSort fun x y => decide (x ≤ y)) (keptOf sg oldest (inWins window (layAll sg cl ol))).2 := by
    unfold Ar.compact
    rw [h.lay.segsOf]
    dsimp only
    have e6 : sg.flatMap (·.2) ++ (P.puts A.j.logs).1 = layAll sg cl ol := by rw [hp]; rfl
    rw [e6, hp, if_neg (by simp)]
  have hkp := kept_perm sg oldest (inWins window (layAll sg cl ol))
  have hkl := hkp.length_eq
  have hkf := hkp.flatten.length_eq
  rw [List.length_append, List.length_map] at hkl
  rw [List.flatten_append, List.length_append] at hkf
  have hk1 : ((keptOf sg oldest (inWins window (layAll sg cl ol))).1.mergeSort fun x y => decide (x ≤ y)).length = (keptSegs sg oldest (inWins window (layAll sg cl ol))).length := by rw [List.length_mergeSort, keptSegs_nums, List.length_map]
  have hF := h.fit.replace (A := A) ((keptOf sg oldest (inWins window (layAll sg cl ol))).1.mergeSort fun x y => decide (x ≤ y)) (keptOf sg oldest (inWins window (layAll sg cl ol))).2
  rw [segCost_le, hk1] at hF
  refine ⟨f1, sg', [], none, h.next f3 f4 f5 f2 ?_ hall (by omega), by simp [putsOf]; omega⟩
  rw [e5]
  exact hF.mono (by omega) (by omega) (by omega)
/-- What the walks of Flush and Compact ask. -/
theorem One1.puts19 (h : One1 n A P sg cl ol) : (P.puts A.j.logs).1.length ≤ 19 ∧ ∀ p ∈ (P.puts A.j.logs).1, PuOk p := by
  rw [h.lay.puts (by have := h.cls; rw [List.length_append] at this; omega)]
  exact ⟨by have := h.cls; dsimp only; omega, h.lay.clPu⟩
theorem One1.segl (h : One1 n A P sg cl ol) : A.ix.segs.length ≤ 1 := by rw [← h.lay.segs, List.length_map]; exact h.sgl
theorem One1.j64 (h : One1 n A P sg cl ol) : In64 (A.j.last + 1) := isNum_64 h.numJ
end
theorem passes_calm {B : Nat} (w0 : World) (hL : Lets B w0) (time long : Int) (sb : Nat) (ht : In64 time) (hl : 1 ≤ long ∧ long ≤ 4611686018427387904) : Passes time long (.pointer (some ⟨sb, 0, none⟩)) (PassP w0 time long sb) where
  keep := by
    rintro n w w' c ⟨hc, ab, b, win, L, A, P, FT, sg, cl, ol, hS, hlt, hF, hk, hw, hR, hO, hs⟩ h
    exact ⟨hc, ab, b, win, L, A, P, FT, sg, cl, ol, hS.chg0 h, fun k hk => Nat.lt_of_lt_of_le (hlt k hk) h.size, hF, hk.trans h fun _ h _ => h, hw, hR, hO, hs⟩
  query := by
    rintro n w c ⟨hc, ab, b, win, L, A, P, FT, sg, cl, ol, ⟨lv, F0, q, -⟩, hlt, hF, hk, hw, hR, hO, hs⟩
    refine (query_ok w 4 time time q.blk q.rows (by omega) hl hc).mono ?_
    rintro e w' ⟨x, rfl, hx, h1, -⟩
    refine ⟨x, rfl, ?_, h1⟩
    rw [hR.query (fun p hp => by simp at hp; subst hp; exact ht) (by omega)] at hx
    have e : refQ [(((4 : Nat) : Int), time, 9)] ((4 : Nat) : Int) time time long c = if aliveB time long c then [(time, 9)] else [] := by
      simp only [refQ, List.foldl_cons, List.foldl_nil, qStep, qOk]
      cases aliveB time long c <;> simp [insP]
    rw [← e]; exact hx
  flush := by
    rintro n w c ⟨hc, ab, b, win, L, A, P, FT, sg, cl, ol, hS, hlt, hF, hk, hw, hR, hO, hs⟩
    obtain ⟨f1, sg', cl', ol', f2, f3⟩ := hO.flush win hs
    have hLw := hL.keep0 hk
    have hB : B ≤ w0.heap.size := hL.1
    have hn2 := hO.n2
    refine (flush_sf w (A.flush P win).1 hS hlt hLw (fun k hk => Nat.le_trans hB (hF k hk)) (A' := (A.flush P win).2.1) (P' := (A.flush P win).2.2) fun w1 F0 hA h0 hL1 hB1 => ?_).mono ?_
    · exact arflush_any sortOk19 (by omega) w1 hA h0 win hw hO.puts19.1 hO.puts19.2 ⟨hO.lay.slast.1, by have := hO.last; omega⟩ hO.j64 hO.lay.seg64 hO.fit ⟨by omega, by omega, by have := hO.segl; omega⟩
        (Nat.le_trans (Nat.mul_le_mul hO.jl (show 1000 - 300 * (n + 1) ≤ 1000 by omega)) (by omega)) (by have := hO.segl; omega) hO.lay.segOk hO.lay.logOk (by have := hO.jl; omega) hL1 hB1
    · rintro e w' ⟨rfl, h1, F2, h2, h3, h4⟩
      rw [f1] at h2 ⊢
      exact ⟨rfl, hc, ab, b, win, L, _, _, F2, sg', cl', ol', h2, h3, fun k hk2 => (h4 k hk2).elim (hF k) fun h => Nat.le_trans hk.size h, hk.newer h1 hF, hw, hR, f2, f3⟩
  compact := by
    rintro n w c ⟨hc, ab, b, win, L, A, P, FT, sg, cl, ol, hS, hlt, hF, hk, hw, hR, hO, hs⟩
    obtain ⟨f1, sg', cl', ol', f2, f3⟩ := hO.compact win (oldestN c long)
    have hLw := hL.keep0 hk
    have hB : B ≤ w0.heap.size := hL.1
    have hn2 := hO.n2
    refine (compact_sf w (A.compact P win (oldestN c long)).1 hS hlt hLw (fun k hk => Nat.le_trans hB (hF k hk)) hl hc (A' := (A.compact P win (oldestN c long)).2.1) (P' := (A.compact P win (oldestN c long)).2.2) fun w1 F0 hA h0 hL1 hB1 => ?_).mono ?_
    · refine arcompact_any sortOk19 (by omega) w1 hA h0 win (oldestN c long) hw (fun segs hsg => ?_) ⟨by have := hO.segl; omega, Nat.le_trans (Nat.mul_le_mul hO.segl (show 1000 - 300 * (n + 1) ≤ 1000 by omega)) (by omega)⟩ ⟨hO.lay.slast.1, by have := hO.last; omega⟩ hO.j64 hO.lay.seg64 hO.fit ⟨by omega, by omega, by omega⟩
        (Nat.le_trans (Nat.mul_le_mul hO.jl (show 1000 - 300 * (n + 1) ≤ 1000 by omega)) (by omega)) hO.lay.segOk hO.lay.logOk (by have := hO.jl; omega) hL1 hB1
      rw [hO.lay.segsOf] at hsg
      cases hsg
      have e : sg.flatMap (·.2) ++ (P.puts A.j.logs).1 = layAll sg cl ol := by rw [hO.lay.puts (by have := hO.cls; rw [List.length_append] at this; omega)]; rfl
      rw [e]
      refine ⟨Nat.le_trans hO.all (by omega), fun p hp => ?_⟩
      rcases List.mem_append.1 hp with hp | hp
      · exact hO.lay.sgPu p hp
      · exact hO.lay.clPu p hp
    · rintro e w' ⟨rfl, h1, F2, h2, h3, h4⟩
      rw [f1] at h2 ⊢
      exact ⟨rfl, hc, ab, b, win, L, _, _, F2, sg', cl', ol', h2, h3, fun k hk2 => (h4 k hk2).elim (hF k) fun h => Nat.le_trans hk.size h, hk.newer h1 hF, hw, hR, f2, f3⟩
  tick := by
    rintro n w c x ⟨hc, ab, b, win, L, A, P, FT, sg, cl, ol, ⟨lv, F0, q, hsub⟩, hlt, hF, hk, hw, hR, hO, hs⟩ - h0 h1
    refine (tick_ok w x q.blk q.rows ⟨h0, h1⟩ hl hc).mono ?_
    rintro e w' ⟨rfl, lv', L', hS, hG⟩
    obtain ⟨k1, F2, h2, h3, h4⟩ := q.turnInto hsub hS
    refine ⟨rfl, ticked_In64 hc h0 h1, ab, b, win, L', A, P, F2, sg, cl, ol, h2, h3, fun k hk2 => (h4 k hk2).elim (hF k) fun h => Nat.le_trans hk.size h, hk.newer k1 hF, hw, hR.tick (fun p hp => by simp at hp; subst hp; exact ht) ?_ hG, hO, hs⟩
    obtain ⟨c1, c2⟩ := hc
    unfold tickedN; split <;> omega
/-- An empty disk. -/
def emptyP (room : Int) : PD := ⟨⟨[], [], [], dNew room⟩, fun _ => ([], 0)⟩
theorem emptyP_bs (room : Int) (nm : Bs) : (emptyP room).bs nm = none := rfl
theorem emptyP_names (room : Int) : (emptyP room).names = [] := rfl
theorem emptyP_fit {room : Int} (h : 0 ≤ room ∧ room ≤ 9223372036854775807) : Fit (emptyP room) 1 1 1 :=
  ⟨by simp [emptyP], by simp [emptyP], fun l hl => by simp [emptyP] at hl, by simp [emptyP], fun f _ => by simp [emptyP], by simp only [emptyP, dNew]; omega, by simp [emptyP, dNew]⟩
theorem emptyP_cm {room : Int} {N R : Nat} (hN : N ≤ 4611686018427387904) (hR : (R : Int) ≤ room) : Cm (emptyP room) N R :=
  ⟨rfl, rfl, rfl, by simp only [emptyP, dNew]; omega, by simp only [emptyP, dNew, usedL]; omega, by simp [emptyP], by simp [emptyP]⟩
/-- What Open makes of it. -/
theorem emptyP_open (room : Int) : Ar.open (emptyP room) = .ok (⟨⟨1, []⟩, ⟨[], 0, 0, none⟩, 0, []⟩, []) := by
  unfold Ar.open
  rw [index_none (emptyP_bs room nmIdx)]
  rfl
theorem open_empty {B : Nat} (w : World) (room : Int) (b : Nat) (Ft : Nat → Prop) (h : DkAt w b (emptyP room) Ft) (hlt : ∀ k, Ft k → k < w.heap.size) (hr : 0 ≤ room ∧ room ≤ 9223372036854775807) (hL : Lets B w) (hE : ErrC w) (life win clock : Int)
    (hl : 1 ≤ life ∧ life ≤ 4611686018427387904) (hw : 1 ≤ win ∧ win ≤ 4611686018427387904) (hc : In64 clock) :
    Calls Tryz.prog 22 #[.pointer (some ⟨b, 0, none⟩), .agg #[.int .i64 life, .int .i64 win], .int .i64 clock] w fun e w' =>
      ∃ ab sb, e = .returned (.tuple #[.pointer (some ⟨sb, 0, none⟩), .int .i64 0]) ∧ w.heap.size ≤ sb ∧ Into w Ft w' (fun w' FT' => SF w' sb ab b 0 life win clock false (fun _ => []) ⟨⟨1, []⟩, ⟨[], 0, 0, none⟩, 0, []⟩ (emptyP room) FT') := by
  refine (open_sf w life win clock hl hw hc hlt (P := emptyP room) (Ft := Ft) (b := b) (fun A ps h => by rw [emptyP_open] at h; cases h; simp) fun w1 hk => ?_).mono ?_
  · refine aropen_any w1 (RepU.same h hlt hk) (fun k hk2 => Nat.lt_of_lt_of_le (hlt k hk2) hk.size) (emptyP_fit hr) ⟨by omega, by omega, by omega⟩ (by omega) (hL.keep0 hk) (hE.keep0 hk) (fun nm hm => by rw [emptyP_names] at hm; cases hm) (fun ix hx => ?_) (fun first => ?_)
    · rw [index_none (emptyP_bs room nmIdx)] at hx; cases hx; simp
    · rw [emptyP_names]; simp [logsOf, PD.puts, PD.putsK]
  · rintro e w' (⟨n, h1, -⟩ | ⟨A, ps, ab, sb, h1, rfl, h2, h3⟩)
    · rw [emptyP_open] at h1; cases h1
    · rw [emptyP_open] at h1; cases h1
      exact ⟨ab, sb, rfl, h2, h3⟩
theorem passing_law {B : Nat} (w : World) (hL : Lets B w) (hE : ErrC w) (time long0 ticks how : Int) (ht : In64 time) (hlg : In64 long0) (htk : In64 ticks) (hhw : In64 how) :
    Calls Tryz.prog 9 #[.int .i64 time, .int .i64 long0, .int .i64 ticks, .int .i64 how] w fun e w' => e = .returned (.bool true) ∧ Chg (fun _ => False) w w' := by
  obtain ⟨p1, p2⟩ := kpickN_lt long0 4611686018427387904 (by decide)
  have hl : 1 ≤ 1 + kpickN long0 4611686018427387904 ∧ 1 + kpickN long0 4611686018427387904 ≤ 4611686018427387904 := by omega
  refine passing_of (fun w' => Chg (fun _ => False) w w') w time long0 ticks how ht hlg htk hhw ?_
  generalize 1 + kpickN long0 4611686018427387904 = long at hl
  have hfc : In64 (firstN time long) := by
    obtain ⟨t1, t2⟩ := ht
    unfold firstN; split <;> constructor <;> omega
  refine (newU (F := fun _ => ([], 0)) 1152921504606846976 w).mono ?_
  rintro e w1 ⟨rfl, hd1, k1, hz1⟩
  refine ⟨_, rfl, fun window hw => ?_⟩
  refine (open_empty (B := B) w1 1152921504606846976 w.heap.size (One w.heap.size) hd1 (fun k hk => by cases hk; omega) (by omega) (hL.keep0 k1) (hE.keep0 k1) long window (firstN time long) hl (by omega) hfc).mono ?_
  rintro e w2 ⟨ab, sb, rfl, hsb, hI⟩
  obtain ⟨k2, F2, hS, hlt2, hs2⟩ := hI
  have HF2 : ∀ k, F2 k → w.heap.size ≤ k := fun k hk => (hs2 k hk).elim (fun h => by cases h; exact Nat.le_refl _) fun h => Nat.le_trans k1.size h
  have K2 : Chg (fun _ => False) w w2 := k1.newer k2 fun k hk => by cases hk; exact Nat.le_refl _
  refine ⟨sb, rfl, PassP w time long sb, passes_calm w hL time long sb ht hl, ?_, ?_⟩
  · rintro n w' c ⟨-, _, _, _, _, _, _, _, _, _, _, -, -, -, hk, -⟩
    exact hk
  · have hp : PuOk (((4 : Nat) : Int), time, 9) := ⟨by simp, ht, (show In64 9 from ⟨by decide, by decide⟩)⟩
    have hlay := Lay.empty (emptyP_bs 1152921504606846976)
    have hcm : Cm (emptyP 1152921504606846976) (3003 + 0 + 3) 33000 := emptyP_cm (by omega) (by omega)
    obtain ⟨a1, a2, a3, a4, a5⟩ := hlay.add (N := 3003) (by simpa using hcm) (fun _ => rfl) (((4 : Nat) : Int), time, 9) hp (by omega)
    have hfit := (emptyP_fit (room := 1152921504606846976) (by omega)).arAdd (A := ⟨⟨1, []⟩, ⟨[], 0, 0, none⟩, 0, []⟩) (((4 : Nat) : Int), time, 9)
    obtain ⟨s1, s2⟩ := add_shape ⟨⟨1, []⟩, ⟨[], 0, 0, none⟩, 0, []⟩ (emptyP 1152921504606846976) (((4 : Nat) : Int), time, 9)
    have hn1 : NumOk (0 + 1) ∧ In64 (0 + 1) ∧ In64 0 := ⟨numOk_of (by omega) (by omega), by constructor <;> omega, by constructor <;> omega⟩
    refine (put_sf w2 (((4 : Nat) : Int), time, 9) hS hlt2 hp (fun _ => hn1) (by simp) (hL.keep0 K2) (fun k hk => Nat.le_trans hL.1 (HF2 k hk)) (emptyP_fit (by omega)) ⟨by omega, by omega, by omega⟩ (fun _ _ => by simp) hl hfc).mono ?_
    rintro e w3 ⟨rfl, k3, F3, hS3, hlt3, hs3⟩
    rw [a2] at hS3 ⊢
    rw [a1] at hS3
    have hrel := (Rel.nil long (firstN time long)).put (fun _ _ => List.Pairwise.nil) (s := 4) (by omega) (t := time) (v := 9) ht
    refine ⟨rfl, hfc, ab, w.heap.size, window, _, _, _, F3, [], [], some (Option.getD none [] ++ [(((4 : Nat) : Int), time, 9)]), hS3, hlt3, fun k hk => (hs3 k hk).elim (HF2 k) fun h => Nat.le_trans K2.size h, K2.newer k3 HF2, by omega, by simpa using hrel, ?_, by simp [putsOf]⟩
    refine ⟨by omega, a4, a3.mono (by omega) (by omega), hfit.mono (by omega) (by omega) (by omega), by simp [layAll, putsOf], by simp, ?_, a5, ?_, ?_⟩
    · rw [a4.logNums]; simp [shut]
    · rcases s2 with s2 | s2
      · rw [s2]; dsimp only; omega
      · rw [s2]; dsimp only; omega
    · rw [s1]; dsimp only; omega
end Go.Proofs.YtodcnkbblippnaaGreatDoor
/- What a row's list of laid variables gives: the letters of names, the library's table and its two errors. -/
namespace Go.Proofs.YtodcnkbblippnaaGreatDoor
open Go.ChangeShapes Go.WideShapes Go.ChangeAt Go.RowKit
set_option maxRecDepth 100000

theorem Tryz.own : ownKnob Tryz.prog.godebug = none := by kernel_rfl
theorem Tryz.gLet : Tryz.prog.globalNamed "tides/files.letters" = some 0 := by kernel_rfl
theorem Tryz.gPow : Tryz.prog.globalNamed "internal/strconv.uint64pow10" = some 3 := by kernel_rfl
theorem Tryz.gRng : Tryz.prog.globalNamed "strconv.ErrRange" = some 2 := by kernel_rfl
theorem Tryz.gSyn : Tryz.prog.globalNamed "strconv.ErrSyntax" = some 1 := by kernel_rfl
theorem Tryz.tLet : (Tryz.prog.globals[0]?).map (·.type) = some 201 := by kernel_rfl
theorem Tryz.tPow : (Tryz.prog.globals[3]?).map (·.type) = some 333 := by kernel_rfl
theorem Tryz.tRng : (Tryz.prog.globals[2]?).map (·.type) = some 197 := by kernel_rfl
theorem Tryz.tSyn : (Tryz.prog.globals[1]?).map (·.type) = some 197 := by kernel_rfl
theorem Tryz.cellsLet : Tryz.prog.cellsOf 201 = 5 := by kernel_rfl
theorem Tryz.cellsStr : Tryz.prog.cellsOf 9 = 1 := by kernel_rfl
theorem Tryz.cellsPow : Tryz.prog.cellsOf 333 = 20 := by kernel_rfl
theorem Tryz.cellsU64 : Tryz.prog.cellsOf 275 = 1 := by kernel_rfl
theorem Tryz.cellsErr : Tryz.prog.cellsOf 325 = 1 := by kernel_rfl
theorem Tryz.star : "*" ++ "errors.errorString" = "*errors.errorString" := by decide
theorem Tryz.rowErr (u : TypeId) (h : Tryz.prog.typeName? 3 u = some "*errors.errorString") : u = 323 :=
  typeName_ptr_named (nm := "errors.errorString") (by rw [Tryz.star]; kernel_rfl) (by kernel_rfl) (by decide) u (by rw [Tryz.star]; exact h)

/-- The table of letters: what its cells hold. -/
theorem letters_cell {fuel : Nat} {w : World} {cs : List Value} {s : List (List UInt8)} {p : List MemPlace} (h : DataW.trod (fun _ => ()) Tryz.prog w 0 (fun _ => true) false fuel 201 cs = some (.agg (s.map fun x => .lit (.string x)), p)) (k : Nat) (hk : k < 5) (x : List UInt8) (hx : s[k]? = some x) : cs[k]? = some (.string ⟨x.toArray⟩) := by
  cases fuel with
  | zero => simp [DataW.trod] at h
  | succ fuel =>
    simp only [DataW.trod, Tryz.underlying201, Tryz.cellsStr, Tryz.cellsLet, Nat.mul_one] at h
    split at h
    · obtain ⟨xs, hm, hq⟩ := Option.map_eq_some_iff.1 h
      have hxs : xs.map (·.1) = s.map fun x => DataW.lit (.string x) := by
        have := congrArg Prod.fst hq
        simpa using this
      obtain ⟨b, hb, hf⟩ := Lib.mapM_at hm k k (by simp [hk])
      obtain ⟨s', hc, rfl, _⟩ := DataW.trod_string Tryz.underlying9 hf
      have h1 : cs[k]? = some (.string s') := by
        have := congrArg (·[0]?) hc
        simpa [List.getElem?_take, List.getElem?_drop] using this
      have h2 : (xs.map (·.1))[k]? = some (DataW.lit (.string s'.data.toList)) := by simp [hb]
      rw [hxs] at h2
      simp [hx] at h2
      rw [h1, h2]
    · cases h
/-- What the row's list gives. -/
theorem laid_lets {W : World} (h : laidMetH Tryz.prog Rows.writesUptoRow.laid W) : Lets W.heap.size W := by
  have h0 : laidMet Tryz.prog Rows.writesUptoRow.laid W := h
  have h3 : laidMet Tryz.prog (("internal/strconv.uint64pow10", Lib.tabData .u64 Lib.pow10Tab) :: [("strconv.ErrRange", Rows.laid_strconv_ErrRange), ("strconv.ErrSyntax", Rows.laid_strconv_ErrSyntax), ("tides/files.letters", Rows.laid_tides_files_letters)]) W := laidMet.tail (laidMet.tail h0)
  have hp : Lib.TabIs Tryz.prog W "internal/strconv.uint64pow10" .u64 Lib.pow10Tab := Lib.tabIs_of_head Tryz.gPow Tryz.tPow Tryz.underlying333 Tryz.underlying275 Tryz.cellsU64 Tryz.cellsPow h3
  have h6 : laidMet Tryz.prog [("tides/files.letters", Rows.laid_tides_files_letters)] W := laidMet.tail (laidMet.tail (laidMet.tail h3))
  obtain ⟨ps, ⟨g', t', cs, fuel, p, q, hg', ht', hvar, hd, _, _⟩, _⟩ := h6
  obtain rfl := Option.some.inj (Tryz.gLet.symm.trans hg')
  obtain rfl := Option.some.inj (Tryz.tLet.symm.trans ht')
  have hl := letters_cell (s := [[], [108], [115], [105], [100]]) hd
  have hlc : ∀ k : Nat, 1 ≤ k → k ≤ 4 → W.cell? ⟨0, k, none⟩ = some (.string ⟨(ltr k).toArray⟩) := fun k h1 h2 => by
    rw [World.var?_cell Tryz.gLet hvar k]
    have : k = 1 ∨ k = 2 ∨ k = 3 ∨ k = 4 := by omega
    rcases this with rfl | rfl | rfl | rfl
    · simpa [ltr] using hl 1 (by omega) _ rfl
    · simpa [ltr] using hl 2 (by omega) _ rfl
    · simpa [ltr] using hl 3 (by omega) _ rfl
    · simpa [ltr] using hl 4 (by omega) _ rfl
  have hlb := World.block_lt_of_cell? W _ (hlc 1 (by omega) (by omega))
  have hpc := hp.cell Tryz.gPow 0 (by decide)
  have hpb := World.block_lt_of_cell? W _ hpc
  refine ⟨Nat.le_refl _, fun w' hb => ⟨fun k h1 h2 => ?_, ?_⟩⟩
  · rw [← hlc k h1 h2]; exact hb.cell hlb
  · unfold Lib.TabIs at hp ⊢
    rw [← hp]
    unfold World.var?
    rw [Tryz.gPow]
    simp only [Option.bind_some]
    rw [hb.block _ hpb]
theorem laid_errs {W : World} (h : laidMetH Tryz.prog Rows.writesUptoRow.laid W) : ErrC W := by
  have h0 : laidMet Tryz.prog Rows.writesUptoRow.laid W := h
  have h4 : laidMet Tryz.prog (("strconv.ErrRange", Rows.laid_strconv_ErrRange) :: [("strconv.ErrSyntax", Rows.laid_strconv_ErrSyntax), ("tides/files.letters", Rows.laid_tides_files_letters)]) W := laidMet.tail (laidMet.tail (laidMet.tail h0))
  have h5 : laidMet Tryz.prog (("strconv.ErrSyntax", Rows.laid_strconv_ErrSyntax) :: [("tides/files.letters", Rows.laid_tides_files_letters)]) W := laidMet.tail h4
  obtain ⟨a0, _, hva, _⟩ := laid_sentinel h4 Tryz.gRng Tryz.tRng Tryz.underlying197 Tryz.rowErr Tryz.underlying323 Tryz.underlying325 rfl rfl Tryz.underlying9 Tryz.cellsErr Tryz.cellsStr
  obtain ⟨b0, _, hvb, _⟩ := laid_sentinel h5 Tryz.gSyn Tryz.tSyn Tryz.underlying197 Tryz.rowErr Tryz.underlying323 Tryz.underlying325 rfl rfl Tryz.underlying9 Tryz.cellsErr Tryz.cellsStr
  exact ⟨⟨_, by simpa using World.var?_cell Tryz.gSyn hvb 0, .inr ⟨_, _, rfl⟩⟩, _, by simpa using World.var?_cell Tryz.gRng hva 0, .inr ⟨_, _, rfl⟩⟩
theorem wf_In64 {z : Int} (h : (Lit.int .i64 z).wf = true) : In64 z := by
  simp [Lit.wf] at h
  have e : IntKind.i64.min = -9223372036854775808 := rfl
  rw [e] at h
  exact h
/-! A world for the witness: the settled one, the listed variables holding what their initialisers lay. -/
abbrev synS : ByteArray := { data := #[105, 110, 118, 97, 108, 105, 100, 32, 115, 121, 110, 116, 97, 120] }
abbrev rngS : ByteArray := { data := #[118, 97, 108, 117, 101, 32, 111, 117, 116, 32, 111, 102, 32, 114, 97, 110, 103, 101] }
def put0 (v : Array Value) : Obj → Obj
  | .cells _ t frozen => .cells v t frozen
  | o => o
def IsLaid (os : Os) (W : World) : Prop := W =
  let w0 := World.holding Tryz.prog os ⟨#[.cells #[.string synS] 325, .cells #[.string rngS] 325], #[], []⟩
  let h0 := w0.heap
  let h1 := h0.modify 0 (put0 #[.string ⟨#[]⟩, .string ⟨#[108]⟩, .string ⟨#[115]⟩, .string ⟨#[105]⟩, .string ⟨#[100]⟩])
  let h2 := h1.modify 1 (put0 #[.iface 323 (.pointer (some ⟨(World.holding Tryz.prog default ⟨#[], #[], []⟩).heap.size, 0, none⟩))])
  let h3 := h2.modify 2 (put0 #[.iface 323 (.pointer (some ⟨(World.holding Tryz.prog default ⟨#[], #[], []⟩).heap.size + 1, 0, none⟩))])
  let h4 := h3.modify 3 (put0 #[.int .u64 1, .int .u64 10, .int .u64 100, .int .u64 1000, .int .u64 10000, .int .u64 100000, .int .u64 1000000, .int .u64 10000000, .int .u64 100000000, .int .u64 1000000000, .int .u64 10000000000, .int .u64 100000000000, .int .u64 1000000000000, .int .u64 10000000000000, .int .u64 100000000000000, .int .u64 1000000000000000, .int .u64 10000000000000000, .int .u64 100000000000000000, .int .u64 1000000000000000000, .int .u64 10000000000000000000])
  let h5 := h4.modify 5 (put0 #[.int .u8 0, .int .u8 1, .int .u8 28, .int .u8 2, .int .u8 29, .int .u8 14, .int .u8 24, .int .u8 3, .int .u8 30, .int .u8 22, .int .u8 20, .int .u8 15, .int .u8 25, .int .u8 17, .int .u8 4, .int .u8 8, .int .u8 31, .int .u8 27, .int .u8 13, .int .u8 23, .int .u8 21, .int .u8 19, .int .u8 16, .int .u8 7, .int .u8 26, .int .u8 12, .int .u8 18, .int .u8 6, .int .u8 11, .int .u8 5, .int .u8 10, .int .u8 9])
  let h6 := h5.modify 6 (put0 #[.int .u8 0, .int .u8 1, .int .u8 56, .int .u8 2, .int .u8 57, .int .u8 49, .int .u8 28, .int .u8 3, .int .u8 61, .int .u8 58, .int .u8 42, .int .u8 50, .int .u8 38, .int .u8 29, .int .u8 17, .int .u8 4, .int .u8 62, .int .u8 47, .int .u8 59, .int .u8 36, .int .u8 45, .int .u8 43, .int .u8 51, .int .u8 22, .int .u8 53, .int .u8 39, .int .u8 33, .int .u8 30, .int .u8 24, .int .u8 18, .int .u8 12, .int .u8 5, .int .u8 63, .int .u8 55, .int .u8 48, .int .u8 27, .int .u8 60, .int .u8 41, .int .u8 37, .int .u8 16, .int .u8 46, .int .u8 35, .int .u8 44, .int .u8 21, .int .u8 52, .int .u8 32, .int .u8 23, .int .u8 11, .int .u8 54, .int .u8 26, .int .u8 40, .int .u8 15, .int .u8 34, .int .u8 20, .int .u8 31, .int .u8 10, .int .u8 25, .int .u8 14, .int .u8 19, .int .u8 9, .int .u8 13, .int .u8 8, .int .u8 7, .int .u8 6])
  { w0 with heap := h6 }
theorem laid_met (os : Os) (W : World) (h : IsLaid os W) (args : Array Value) : laidMet Tryz.prog Rows.writesUptoRow.laid (W.forCall (fun _ _ => 0) ⟨#[], args, []⟩).memory := by
  unfold IsLaid at h
  subst h
  exact laidMet_of_run' 8 (by kernel_rfl) (by kernel_rfl)
end Go.Proofs.YtodcnkbblippnaaGreatDoor
/- The law Passing returns true, for every number that it is given: as a row, and its tied card. -/
namespace Go.Proofs.YtodcnkbblippnaaGreatDoor
open Go.ChangeShapes Go.WideShapes Go.ChangeAt Go.RowKit
set_option maxRecDepth 100000

theorem passing_met (os : Os) (W : World) (h : IsLaid os W) (args : Array Value) : laidMetH Tryz.prog Rows.passingRow.laid (W.forCall (fun _ _ => 0) ⟨#[], args, []⟩).memory := laid_met os W h args
theorem passing_lifted (os : Os) (started : os.Started) (H : Type) (enc : TypeId × Value → H) :
    ReturnsInHanded {} Tryz.checked os 9 .any (fun w args => (Rows.passingSpec.pre enc Tryz.prog Tryz.f9 Rows.passingRow.domain false w args ∧ laidMetH Tryz.prog Rows.passingRow.laid w) ∧ sizedMet enc Tryz.prog Tryz.f9 (OpenSpec.ofChange Rows.passingSpec) false w args)
      (Rows.passingSpec.post enc Tryz.prog Tryz.f9 false true false false) := by
  obtain ⟨W0, hW0⟩ : ∃ W0, IsLaid os W0 := ⟨_, rfl⟩
  have hm := passing_met os W0 hW0
  refine returnsInHanded_of_change_and (C := Tryz.checked) (X := fun w _ => laidMetH Tryz.prog Rows.passingRow.laid w) (fun _ _ _ hh h => h.of_heap hh) Tryz.own started (by kernel_rfl) Tryz.func9
    (ChangeSpec.witness_at (enc := enc) (C := Tryz.checked) (os := os) (X := fun w _ => laidMetH Tryz.prog Rows.passingRow.laid w) false W0 #[.int .i64 0, .int .i64 0, .int .i64 0, .int .i64 0] 8 (by unfold IsLaid at hW0; subst hW0; rfl) (by unfold IsLaid at hW0; subst hW0; kernel_rfl) (by unfold IsLaid at hW0; subst hW0; kernel_rfl) (by unfold IsLaid at hW0; subst hW0; kernel_rfl) (by unfold IsLaid at hW0; subst hW0; kernel_rfl) (by unfold IsLaid at hW0; subst hW0; kernel_rfl) (hm _)) ?_
  intro W base args ds gs before hval0 hW _ _ hL _
  have hval : ∀ (j : Nat) t v, Tryz.f9.params[j]? = some t → args[j]? = some v → Value.okWide Tryz.prog W .any base t v := hval0
  have hW' := hW
  obtain ⟨p, q, hA0, hV, rfl, hfz, hnd⟩ := hW
  have hA : DataW.TrodAll enc Tryz.prog W 0 (fun _ => true) true Tryz.f9.params.toList args.toList ds p := hA0
  rw [Tryz.params9] at hA hval
  obtain ⟨v0, vs0, d0, ds0, p0, q0, hargs, rfl, rfl, h0, r0⟩ := trodAll_cons hA
  obtain ⟨v1, vs1, d1, ds1, p1, q1, rfl, rfl, rfl, h1, r1⟩ := trodAll_cons r0
  obtain ⟨v2, vs2, d2, ds2, p2, q2, rfl, rfl, rfl, h2, r2⟩ := trodAll_cons r1
  obtain ⟨v3, vs3, d3, ds3, p3, q3, rfl, rfl, rfl, h3, r3⟩ := trodAll_cons r2
  obtain ⟨rfl, rfl, rfl⟩ := trodAll_nil r3
  obtain rfl : args = #[v0, v1, v2, v3] := by cases args; simp_all
  obtain ⟨rfl, rfl⟩ := trodVars_none hV
  obtain ⟨n0, rfl, rfl, rfl, w0⟩ := open_int Tryz.underlying3 (hval 0 3 v0 rfl rfl) h0
  obtain ⟨n1, rfl, rfl, rfl, w1⟩ := open_int Tryz.underlying3 (hval 1 3 v1 rfl rfl) h1
  obtain ⟨n2, rfl, rfl, rfl, w2⟩ := open_int Tryz.underlying3 (hval 2 3 v2 rfl rfl) h2
  obtain ⟨n3, rfl, rfl, rfl, w3⟩ := open_int Tryz.underlying3 (hval 3 3 v3 rfl rfl) h3
  simp only [List.append_nil] at hW'
  refine (passing_law W (laid_lets hL) (laid_errs hL) n0 n1 n2 n3 (wf_In64 w0) (wf_In64 w1) (wf_In64 w2) (wf_In64 w3)).mono fun e W' ⟨he, hc⟩ => ?_
  subst he
  have hb : Below W.heap.size W W' := hc.below (Nat.le_refl _) fun k _ h => h.elim
  exact ⟨_, rfl, [.lit (.int .i64 n0), .lit (.int .i64 n1), .lit (.int .i64 n2), .lit (.int .i64 n3)], [], _, [], _, [], hW', trodAll_cons_mk (shut_bool Tryz.underlying4 _) trodAll_mk0,
    trodAll_cons_mk (shut_int Tryz.underlying3 w0) (trodAll_cons_mk (shut_int Tryz.underlying3 w1) (trodAll_cons_mk (shut_int Tryz.underlying3 w2) (trodAll_cons_mk (shut_int Tryz.underlying3 w3) trodAll_mk0))), rfl, hb.frame _, fun h => by cases h⟩
/-- The row's closed facts, the heavy ones each a declaration of its own: the kernel frees what it holds only at a declaration's end (all in one: 10.6 GB). -/
theorem passing_j1 : (Rows.passingRow.inPlace == Tryz.pinned.checked.prog.inPlace 9) = true := by kernel_rfl
theorem passing_j2 : (Rows.passingRow.unfollowed == Tryz.pinned.checked.prog.unfollowed 9) = true := by kernel_rfl
theorem passing_j3 : (Rows.passingRow.recurses == Tryz.pinned.checked.prog.recurses 9) = true := by kernel_rfl
theorem passing_j4 : (Rows.passingRow.named == Tryz.pinned.checked.prog.varsNamed 9) = true := by kernel_rfl
theorem passing_j5 : (Rows.passingRow.wf (OpenSpec.ofChange Rows.passingSpec) && laidOutB Tryz.pinned.checked.prog && mapsRowed Tryz.pinned.checked.prog) = true := by kernel_rfl
theorem passing_j6 : (Rows.passingRow.lifted == Tryz.pinned.checked.prog.liftsFinal) = true := by kernel_rfl
theorem passing_joined : joinedFacts Tryz.pinned.checked.prog 9 Tryz.f9 Rows.passingSpec Rows.passingRow = true := by
  unfold joinedFacts
  simp only [passing_j5, passing_j1, passing_j2, passing_j3, passing_j4, passing_j6, Bool.true_and]
  kernel_rfl
theorem passing_said : Rows.PassingSaid :=
  OpenClaim.holds_of_wide 9 Tryz.f9 rfl rfl rfl rfl rfl rfl rfl ⟨rfl, rfl, rfl, rfl, rfl⟩ rfl rfl rfl rfl rfl (by kernel_rfl) Tryz.func9 passing_joined
    (of_decide_eq_true (by kernel_rfl)) (by unfold Func.isWrapper; first | (rw [if_pos (by decide +kernel)]; kernel_rfl) | (rw [if_neg (by decide +kernel)]; exact ⟨rfl, rfl⟩))
    (fun os started H enc _ => passing_lifted os started H enc)
/-- No parameter wants a stand-in; the program's own looks are on. -/
theorem passing_plain (f : FuncId) (fn : Func) (hf : Tryz.pinned.checked.prog.funcNamed "tides/tideskeep.Passing" = some f) (hfn : Tryz.pinned.checked.prog.funcs[f]? = some fn) :
    true = Tryz.pinned.checked.prog.looks [] ∧ ∀ (j : Nat) t, fn.params[j]? = some t → Tryz.pinned.checked.prog.wantsStandIn t = false := by
  obtain rfl : f = 9 := Option.some.inj ((show Tryz.prog.funcNamed "tides/tideskeep.Passing" = some 9 by kernel_rfl).symm.trans hf) |>.symm
  obtain rfl : fn = Tryz.f9 := (Option.some.inj (Tryz.func9.symm.trans hfn)).symm
  refine ⟨by kernel_rfl, fun j t ht => ?_⟩
  rw [Tryz.params9] at ht
  have hm := Array.mem_of_getElem? ht
  simp at hm
  subst hm
  exact (show Tryz.prog.wantsStandIn 3 = false by kernel_rfl)
/-- The given statement. -/
theorem passing_holds : Rows.PassingCardSaid :=
  Claim7.holds_tied_plain_at .later [] _ _ _ _ passing_said (fun _ h => by cases h) (by kernel_rfl) (fun _ h => by cases h) passing_row_tie rfl ⟨rfl, rfl⟩ (by kernel_rfl) rfl passing_plain (by kernel_rfl)
#print axioms passing_holds
end Go.Proofs.YtodcnkbblippnaaGreatDoor
