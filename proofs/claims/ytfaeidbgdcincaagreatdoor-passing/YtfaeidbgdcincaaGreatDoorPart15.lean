/-
  The statement WritesUptoCardSaid is proved: the law Writes answers true at every set and every script within the statement's bounds.
  Part 15 of 23.
-/
import Derived.Test.YtfaeidbgdcincaaGreatDoorPart11
import Derived.Test.YtfaeidbgdcincaaGreatDoorPart14
/- Walks: the journal of a calm disk (nothing fails, all there is is one log at most): settle, begin, Add. -/
namespace Go.Proofs.YtfaeidbgdcincaaGreatDoor
open Go.RowKit
attribute [local go_sem ↓] Go.wp_at_zero Go.wp_at_succ

/-- A disk on which nothing fails, with one log at most, of at most N bytes; at most C calls were made. -/
structure Calm (nm : List UInt8) (D : DS) (F : Nat → FC) (own : Bool) (N C : Nat) : Prop where
  room : D.n.room = 1152921504606846976 ∨ D.n.room = 100000 ∧ N ≤ 5000
  cut : D.n.cut = 0
  fail : D.n.fail = 0
  part : D.n.part = 0
  dead : D.n.dead = false
  refused : D.n.refused = 0
  fulls : D.n.fulls = 0
  calls : 0 ≤ D.n.calls ∧ D.n.calls ≤ C
  safe : D.safe = []
  none_ : own = false → D.dir = [] ∧ D.changes = []
  some_ : own = true → D.dir = [(⟨nm.toArray⟩, 0)] ∧ D.changes = [[(⟨nm.toArray⟩, 0)]] ∧ (F 0).1.length ≤ N
section
variable {nm : List UInt8} {D : DS} {F : Nat → FC} {own : Bool} {N C : Nat}
theorem Calm.bg (h : Calm nm D F own N C) (hC : C < 4611686018427387904) : bg D.n = (true, 0, { D.n with calls := D.n.calls + 1 }) := by
  obtain ⟨c1, c2⟩ := h.calls
  have ew : wrap64 (D.n.calls + 1) = D.n.calls + 1 := by simp [wrap64]; omega
  unfold Go.Proofs.YtfaeidbgdcincaaGreatDoor.bg
  simp only [ew, h.dead, h.cut, h.fail]
  have n0 : ¬ D.n.calls + 1 = 0 := by omega
  simp [n0]
theorem Calm.create (h : Calm nm D F false N C) (hC : C < 4611686018427387904) (hn : nm ≠ []) :
    ∃ D1, dCreate D ⟨nm.toArray⟩ 0 = (0, D1) ∧ Calm nm D1 (upd F 0 ([], 0)) true N (C + 1) := by
  obtain ⟨e1, e2⟩ := h.none_ rfl
  have hb := h.bg hC
  have c : ¬ ((⟨nm.toArray⟩ : ByteArray) = ByteArray.empty ∨ fidx D.dir ⟨nm.toArray⟩ ≥ 0) := by
    rintro (e | e)
    · have : (⟨nm.toArray⟩ : ByteArray).data = #[] := by rw [e]; rfl
      simp at this; exact hn this
    · rw [e1] at e; simp [fidx] at e
  have hq : dCreate D ⟨nm.toArray⟩ 0 = (0, { D with dir := D.dir ++ [(⟨nm.toArray⟩, 0)], changes := D.changes ++ [D.dir ++ [(⟨nm.toArray⟩, 0)]], n := { D.n with calls := D.n.calls + 1 } }) := by
    unfold dCreate; rw [if_neg c, hb]; rfl
  refine ⟨_, hq, h.room, h.cut, h.fail, h.part, h.dead, h.refused, h.fulls, ?_, h.safe, (by simp), fun _ => ⟨by simp [e1], by simp [e1, e2], by simp [upd]⟩⟩
  obtain ⟨c1, c2⟩ := h.calls
  exact ⟨by show 0 ≤ D.n.calls + 1; omega, by show D.n.calls + 1 ≤ _; omega⟩
theorem Calm.append (h : Calm nm D F true N C) (hC : C < 4611686018427387904) (hN : N + 100 ≤ 1099511627776 ∧ (N + 100 ≤ 5000 ∨ 5000 < N)) (l : List UInt8) (hl : l.length ≤ 40) :
    ∃ D1, dAppend D F ⟨nm.toArray⟩ ⟨l.toArray⟩ = (0, D1, upd F 0 ((F 0).1 ++ l, (F 0).2)) ∧ Calm nm D1 (upd F 0 ((F 0).1 ++ l, (F 0).2)) true (N + l.length) (C + 1) ∧ addOk D F ⟨nm.toArray⟩ l = true ∧
      (dSize D1 (upd F 0 ((F 0).1 ++ l, (F 0).2)) ⟨nm.toArray⟩).1 ≤ 70368744177664 ∧ (dSize D F ⟨nm.toArray⟩).1 ≤ 70368744177664 := by
  obtain ⟨e1, e2, e3⟩ := h.some_ rfl
  have hb := h.bg hC
  have hlk : lookup D.dir ⟨nm.toArray⟩ = some 0 := by rw [e1]; simp [lookup]
  have hlen : (⟨l.toArray⟩ : ByteArray).data.toList = l := by simp
  have hsz : (⟨l.toArray⟩ : ByteArray).size = l.length := by simp [ByteArray.size]
  have hleft : ¬ ((⟨l.toArray⟩ : ByteArray).size : Int) > dLeft { D with n := { D.n with calls := D.n.calls + 1 } } F := by
    unfold dLeft
    have hr := h.room
    simp only [hsz, e1, usedL]
    omega
  have hq : dAppend D F ⟨nm.toArray⟩ ⟨l.toArray⟩ = (0, { D with n := { D.n with calls := D.n.calls + 1 } }, upd F 0 ((F 0).1 ++ l, (F 0).2)) := by
    unfold dAppend
    rw [hlk]
    simp only [hb, if_true]
    unfold dAdd
    rw [if_neg hleft, hlen, hsz]
    simp
  have z1 : (dSize { D with n := { D.n with calls := D.n.calls + 1 } } (upd F 0 ((F 0).1 ++ l, (F 0).2)) ⟨nm.toArray⟩).1 = ((F 0).1.length + l.length : Nat) := by
    unfold dSize
    simp only [hlk, upd, if_true, List.length_append]
  have z2 : (dSize D F ⟨nm.toArray⟩).1 = ((F 0).1.length : Nat) := by
    unfold dSize
    simp only [hlk]
  refine ⟨_, hq, ⟨h.room.imp id (fun hr => ⟨hr.1, by omega⟩), h.cut, h.fail, h.part, h.dead, h.refused, h.fulls, ?_, h.safe, (by simp), fun _ => ⟨e1, e2, by simp [upd]; omega⟩⟩, ?_, ?_, ?_⟩
  · obtain ⟨c1, c2⟩ := h.calls
    exact ⟨by show 0 ≤ D.n.calls + 1; omega, by show D.n.calls + 1 ≤ _; omega⟩
  · unfold addOk
    rw [hq]
    simp only [z1, z2]
    simp
    omega
  · rw [z1]; omega
  · rw [z2]; omega
theorem Calm.mono (h : Calm nm D F own N C) {N' C' : Nat} (hN : N ≤ N' ∧ (N' ≤ 5000 ∨ 5000 < N)) (hC : C ≤ C') : Calm nm D F own N' C' :=
  ⟨h.room.imp id (fun hr => ⟨hr.1, by omega⟩), h.cut, h.fail, h.part, h.dead, h.refused, h.fulls, ⟨h.calls.1, by have := h.calls.2; omega⟩, h.safe, h.none_, fun e => let ⟨a, b, c⟩ := h.some_ e; ⟨a, b, Nat.le_trans c hN.1⟩⟩
theorem Calm.used (h : Calm nm D F own N C) : usedL F D.dir ≤ N := by
  cases own with
  | false => rw [(h.none_ rfl).1]; simp [usedL]
  | true => obtain ⟨e1, _, e3⟩ := h.some_ rfl; rw [e1]; simp [usedL]; exact e3
theorem Calm.dirlen (h : Calm nm D F own N C) : D.dir.length ≤ 1 ∧ D.changes.length ≤ 1 := by
  cases own with
  | false => obtain ⟨a, b⟩ := h.none_ rfl; rw [a, b]; simp
  | true => obtain ⟨e1, e2, e3⟩ := h.some_ rfl; rw [e1, e2]; simp
theorem Calm.ids0 (h : Calm nm D F false N C) (k : Nat) : ¬ D.ids k := by
  obtain ⟨a, b⟩ := h.none_ rfl
  rintro (⟨e, he, _⟩ | ⟨e, he, _⟩ | ⟨c, hc, _⟩)
  · rw [a] at he; cases he
  · rw [h.safe] at he; cases he
  · rw [b] at hc; cases hc
end
/-- The journal's block: nothing lay there. -/
def JBlk (w : World) (jb b : Nat) (own : Option (Nat × Nat)) : Prop :=
  w.heap[jb]? = some (.cells #[.pointer (some ⟨b, 0, none⟩), .slice none 0 0, .int .i64 0, .int .i64 0, .pointer (own.map fun x => ⟨x.1, 0, none⟩)] 141 (0, 0))
section
variable {w w' : World} {jb b : Nat} {own : Option (Nat × Nat)}
theorem JBlk.c0 (h : JBlk w jb b own) : w.cell? ⟨jb, 0, none⟩ = some (.pointer (some ⟨b, 0, none⟩)) := by unfold JBlk at h; simp [World.cell?, h]
theorem JBlk.c1 (h : JBlk w jb b own) : w.cell? ⟨jb, 1, none⟩ = some (.slice none 0 0) := by unfold JBlk at h; simp [World.cell?, h]
theorem JBlk.c2 (h : JBlk w jb b own) : w.cell? ⟨jb, 2, none⟩ = some (.int .i64 0) := by unfold JBlk at h; simp [World.cell?, h]
theorem JBlk.c3 (h : JBlk w jb b own) : w.cell? ⟨jb, 3, none⟩ = some (.int .i64 0) := by unfold JBlk at h; simp [World.cell?, h]
theorem JBlk.c4 (h : JBlk w jb b own) : w.cell? ⟨jb, 4, none⟩ = some (.pointer (own.map fun x => ⟨x.1, 0, none⟩)) := by unfold JBlk at h; simp [World.cell?, h]
theorem JBlk.fz (h : JBlk w jb b own) (o : Nat) : w.frozen? ⟨jb, o, none⟩ = false := by unfold JBlk at h; simp [World.frozen?, h]
theorem JBlk.lt (h : JBlk w jb b own) : jb < w.heap.size := lt_of_block h
theorem JBlk.chg {S : Nat → Prop} (h : JBlk w jb b own) (hg : Chg S w w') (hr : ¬ S jb) : JBlk w' jb b own := (hg.block jb h.lt hr).trans h
theorem JBlk.s1 (h : JBlk w jb b own) : JBlk (w.setCell ⟨jb, 1, none⟩ (.slice none 0 0)) jb b own := heap_setCell_at h
theorem JBlk.s4 (h : JBlk w jb b own) (own' : Option (Nat × Nat)) : JBlk (w.setCell ⟨jb, 4, none⟩ (.pointer (own'.map fun x => ⟨x.1, 0, none⟩))) jb b own' := heap_setCell_at h
set_option maxRecDepth 100000 in
set_option maxHeartbeats 1000000 in
theorem settle_nil (h : JBlk w jb b own) :
    Calls Tryz.prog 95 #[.pointer (some ⟨jb, 0, none⟩)] w fun e w' => e = .returned (.int .i64 0) ∧ JBlk w' jb b own ∧ Chg (fun _ => False) w w' := by
  have c1 := h.c1
  have f1 := h.fz 1
  have H := hide h
  clear h
  go_enter Tryz.func95, Tryz.ntmps95
  go_wp2
  go_loopw [11] (fun iv wr => iv = .int .i64 0 ∧ wr = w) (fun iv _ => 0)
  case atStart => exact ⟨rfl, rfl⟩
  case round =>
    obtain ⟨rfl, rfl⟩ := hrel
    go_wp2
    go_ret
    refine ⟨rfl, H.out.s1, ?_⟩
    have h2 := H.out.s1
    have hc2 := (Chg.refl (One jb) wr).setAt (b := jb) rfl 1 (.slice none 0 0)
    refine ⟨hc2.os, hc2.tape, hc2.output, hc2.size, fun k hk _ => ?_⟩
    by_cases e : k = jb
    · subst e
      have h1 := H.out
      unfold JBlk at h1 h2; rw [h1, h2]
    · exact hc2.block k hk e
end
/-- A journal on its disk, whole. -/
structure JV (w : World) (nm : List UInt8) (jb b : Nat) (own : Option (Nat × Nat)) (D : DS) (F : Nat → FC) (Ft : Nat → Prop) (N C : Nat) : Prop where
  jou : JBlk w jb b own
  log : ∀ lb s, own = some (lb, s) → FlBlk w lb 157 (.pointer (some ⟨b, 0, none⟩)) ⟨nm.toArray⟩ s ∧ s < 4294967296 ∧ ¬ Ft lb
  dsk : RepU w b D F Ft
  ftl : ∀ k, Ft k → k < w.heap.size
  calm : Calm nm D F own.isSome N C
  nj : ¬ Ft jb
def JFoot (jb : Nat) (own : Option (Nat × Nat)) (Ft : Nat → Prop) (k : Nat) : Prop := k = jb ∨ (∃ s, own = some (k, s)) ∨ Ft k
section
variable {w w' : World} {nm : List UInt8} {jb b : Nat} {own : Option (Nat × Nat)} {D : DS} {F : Nat → FC} {Ft : Nat → Prop} {N C : Nat}
theorem JV.chg {S : Nat → Prop} (h : JV w nm jb b own D F Ft N C) (hc : Chg S w w') (hS : ∀ k, JFoot jb own Ft k → ¬ S k) : JV w' nm jb b own D F Ft N C :=
  ⟨h.jou.chg hc (hS _ (.inl rfl)), fun lb s e => let ⟨a, b, c⟩ := h.log lb s e; ⟨a.keep hc (hS _ (.inr (.inl ⟨s, e⟩))), b, c⟩,
   h.dsk.frame (hc.same h.ftl fun k hk => hS k (.inr (.inr hk))), fun k hk => Nat.lt_of_lt_of_le (h.ftl k hk) hc.size, h.calm, h.nj⟩
theorem JV.lt (h : JV w nm jb b own D F Ft N C) {k : Nat} (hk : JFoot jb own Ft k) : k < w.heap.size := by
  rcases hk with rfl | ⟨s, e⟩ | hk
  · exact h.jou.lt
  · exact (h.log k s e).1.lt
  · exact h.ftl k hk
/-- What a call that turns a journal leaves. -/
def JTo (w w' : World) (nm : List UInt8) (jb b : Nat) (own : Option (Nat × Nat)) (Ft : Nat → Prop) (own' : Option (Nat × Nat)) (D' : DS) (F' : Nat → FC) (N' C' : Nat) : Prop :=
  Chg (JFoot jb own Ft) w w' ∧ ∃ Ft', JV w' nm jb b own' D' F' Ft' N' C' ∧ ∀ k, JFoot jb own' Ft' k → JFoot jb own Ft k ∨ w.heap.size ≤ k
set_option maxRecDepth 100000 in
set_option maxHeartbeats 2000000 in
theorem begin_calm {B : Nat} {lt : List UInt8} (h : JV w (nameL lt 1) jb b none D F Ft N C) (hL : Lets B w lt) (hn : NumOk 1) (hne : nameL lt 1 ≠ []) (hN : N + 200 ≤ 1099511627776 ∧ (N + 200 ≤ 5000 ∨ 5000 < N)) (hC : C + 100 ≤ 4611686018427387904) :
    Calls Tryz.prog 120 #[.pointer (some ⟨jb, 0, none⟩)] w fun e w' => e = .returned (.int .i64 0) ∧ ∃ lb s D' F', JTo w w' (nameL lt 1) jb b none Ft (some (lb, s)) D' F' (N + 12) (C + 2) := by
  obtain ⟨D1, hD1, hca1⟩ := h.calm.create (by omega) hne
  have hlen : (headB (nameL lt 1) 0).length = 12 := by simp [headB, intB_length, sumB_length]
  obtain ⟨D2, hD2, hca2, hok, hz1, hz2⟩ := hca1.append (by omega) (by omega) (headB (nameL lt 1) 0) (by omega)
  rw [hlen] at hca2
  have SE := hide (settle_nil h.jou)
  have hlt := h.ftl
  obtain ⟨F2, hF2⟩ : ∃ F2, upd (upd F 0 ([], 0)) 0 (((upd F 0 ([], 0)) 0).1 ++ headB (nameL lt 1) 0, ((upd F 0 ([], 0)) 0).2) = F2 := ⟨_, rfl⟩
  rw [hF2] at hD2 hca2 hz1
  have NL : Hid (∀ w', Chg (fun _ => False) w w' → Calls Tryz.prog 142 #[.pointer (some ⟨b, 0, none⟩), .int .i64 1, .int .i64 0] w' fun e w2 => ∃ lb s Ft2, e = .returned (.tuple #[.pointer (some ⟨lb, 0, none⟩), .int .i64 0]) ∧ w'.heap.size ≤ lb ∧ FlBlk w2 lb 157 (.pointer (some ⟨b, 0, none⟩)) ⟨(nameL lt 1).toArray⟩ s ∧ s < 4294967296 ∧ Chg Ft w' w2 ∧
      RepU w2 b D2 F2 Ft2 ∧ (∀ k, Ft2 k → k < w2.heap.size) ∧ (∀ k, Ft2 k → Ft k ∨ w'.heap.size ≤ k) ∧ ¬ Ft2 lb) := fun w' hc => by
    have hdl := h.calm.dirlen
    refine (newLog_any w' 0 0 D1 D2 (upd F 0 ([], 0)) F2 0 0 (h.dsk.frame (hc.same hlt fun _ _ h => h)) (fun k hk => Nat.lt_of_lt_of_le (hlt k hk) hc.size) hn (hL.keep0 hc) (by omega) (h.calm.ids0 0) (by omega) hD1 rfl hD2 (by have := hca1.room; omega) (by have := hca1.used; omega) (by rw [hca1.part]; omega)
      (fun f hf => by
        obtain ⟨e1, _, e3⟩ := hca1.some_ rfl
        rw [e1] at hf; simp [lookup] at hf; subst hf; omega) ⟨hz1, hz2⟩).mono ?_
    rintro e w2 (⟨h1, _⟩ | ⟨_, h1, _⟩ | ⟨_, _, lb, rfl, a1, a2, a3, Ft2, a4, a5, a6, a7⟩)
    · exact absurd rfl h1
    · exact absurd rfl h1
    · exact ⟨lb, _, Ft2, rfl, a1, a2, sumOn_lt _ _ (sum0_lt _), a3, a4, a5, a6, a7⟩
  have FIN : Hid (∀ w1 w2 lb s Ft2, Chg (fun _ => False) w w1 → JBlk w1 jb b none → w1.heap.size ≤ lb → FlBlk w2 lb 157 (.pointer (some ⟨b, 0, none⟩)) ⟨(nameL lt 1).toArray⟩ s → s < 4294967296 → Chg Ft w1 w2 →
      RepU w2 b D2 F2 Ft2 → (∀ k, Ft2 k → k < w2.heap.size) → (∀ k, Ft2 k → Ft k ∨ w1.heap.size ≤ k) → ¬ Ft2 lb →
      JBlk w2 jb b none ∧ JTo w (w2.setCell ⟨jb, 4, none⟩ (.pointer (some ⟨lb, 0, none⟩))) (nameL lt 1) jb b none Ft (some (lb, s)) D2 F2 (N + 12) (C + 2)) := by
    intro w1 w2 lb s Ft2 hc1 hj1 a1 a2 aS a3 a4 a5 a6 a7
    have hjl := hj1.lt
    have hj2 := hj1.chg a3 h.nj
    have hnF : ¬ Ft2 jb := fun hx => by
      rcases a6 jb hx with hx | hx
      · exact h.nj hx
      · omega
    have hjlb : jb ≠ lb := by omega
    refine ⟨hj2, ?_, Ft2, ⟨hj2.s4 (some (lb, s)), ?_, ?_, fun k hk => by simpa using a5 k hk, hca2, hnF⟩, ?_⟩
    · exact ((hc1.mono (S' := JFoot jb none Ft) fun _ _ h => h.elim).trans a3 (fun x hx _ => .inr (.inr hx))).setAt (.inl rfl) 4 _
    · rintro lb' s' e
      cases e
      exact ⟨a2.keep ((Chg.refl (One jb) w2).setAt rfl 4 _) (fun e => hjlb e.symm), aS, a7⟩
    · exact a4.frame (((Chg.refl (One jb) w2).setAt rfl 4 _).same a5 fun k hk e => by cases e; exact hnF hk)
    · have := hc1.size
      rintro k (rfl | ⟨s', e⟩ | hk)
      · exact .inl (.inl rfl)
      · cases e; exact .inr (by omega)
      · rcases a6 k hk with hx | hx
        · exact .inl (.inr (.inr hx))
        · exact .inr (by omega)
  clear h hD1 hca1 hlen hD2 hca2 hok hz1 hz2 hlt hL hn hne hN hC hF2
  go_enter Tryz.func120, Tryz.ntmps120
  go_wp2_with (go_at_call 95; refine SE.out.mono ?_; rintro e w1 ⟨rfl, hj1, hc1⟩)
  have c0 := hj1.c0
  have c2 := hj1.c2
  have c3 := hj1.c3
  have HJ1 := hide hj1
  have HC1 := hide hc1
  clear hj1 hc1 SE
  refine wp_region_sch (fun w' => w'.cell? ⟨jb, 0, none⟩ = some (.pointer (some ⟨b, 0, none⟩)) ∧ w'.cell? ⟨jb, 2, none⟩ = some (.int .i64 0) ∧ w'.cell? ⟨jb, 3, none⟩ = some (.int .i64 0)) 18
    [(0, true), (1, true), (2, true), (3, true), (4, true), (5, true), (6, true), (7, true), (8, true), (9, true), (10, true), (11, true), (12, true), (13, false), (14, true), (15, true), (16, true), (17, true)] (by kernel_rfl) (by kernel_rfl) (fun _ _ _ _ _ h => h) ⟨c0, c2, c3⟩ ?_
  iterate 13 (refine wpSch_take (v := ?_) rfl (by rfl) ?_ ?_; rotate_left; (· (intro w' hS; (try dsimp only at hS); go_simp; try with_reducible rfl)); (try simp only [Act.put, List.setIfInBounds_toArray, List.set_cons_zero, List.set_cons_succ, List.getElem_toArray, List.getElem_cons_zero, List.getElem_cons_succ]))
  refine wpSch_do rfl (by rfl) (fun K hK => ?_)
  go_simp
  refine (NL.out _ HC1.out.drew).mono ?_
  rintro e w2 ⟨lb, s, Ft2, rfl, a1, a2, aS, a3, a4, a5, a6, a7⟩
  obtain ⟨hj2, hF⟩ := FIN.out w1.drew w2 lb s Ft2 HC1.out.drew HJ1.out a1 a2 aS a3 a4 a5 a6 a7
  refine hK _ _ ⟨hj2.c0, hj2.c2, hj2.c3⟩ (fun hS => ?_)
  have y0 := hj2.c4
  have y1 := hj2.fz 4
  have HF := hide hF
  clear a1 a2 aS a3 a4 a5 a6 a7 hj2 hF hK K hS NL FIN HC1 HJ1
  (try simp only [Act.put, List.setIfInBounds_toArray, List.set_cons_zero, List.set_cons_succ, List.getElem_toArray, List.getElem_cons_zero, List.getElem_cons_succ])
  iterate 4 (refine wpSch_take (v := ?_) rfl (by rfl) ?_ ?_; rotate_left; (· (intro w' hS; (try dsimp only at hS); go_simp; try with_reducible rfl)); (try simp only [Act.put, List.setIfInBounds_toArray, List.set_cons_zero, List.set_cons_succ, List.getElem_toArray, List.getElem_cons_zero, List.getElem_cons_succ]))
  refine wpSch_end ?_
  simp only [List.drop_succ_cons, List.drop_zero]
  go_wp2
  go_ret
  exact ⟨rfl, lb, s, _, _, HF.out⟩
end
end Go.Proofs.YtfaeidbgdcincaaGreatDoor
/- Walks: the journal of a calm disk: Add. -/
namespace Go.Proofs.YtfaeidbgdcincaaGreatDoor
open Go.RowKit
attribute [local go_sem ↓] Go.wp_at_zero Go.wp_at_succ

section
variable {w w' : World} {nm : List UInt8} {jb b : Nat} {own : Option (Nat × Nat)} {D : DS} {F : Nat → FC} {Ft : Nat → Prop} {N C : Nat}
theorem putB_length (sr t v : Int) : (putB sr t v).length = 17 := by simp [putB, intB_length]
theorem JTo.before {w1 : World} {own' : Option (Nat × Nat)} {D' : DS} {F' : Nat → FC} {N' C' : Nat} (h : JTo w1 w' nm jb b own Ft own' D' F' N' C') (hc : Chg (fun _ => False) w w1) : JTo w w' nm jb b own Ft own' D' F' N' C' := by
  obtain ⟨h1, Ft', h2, h3⟩ := h
  exact ⟨(hc.mono fun _ _ h => h.elim).trans h1 fun _ h _ => h, Ft', h2, fun k hk => (h3 k hk).imp id fun h => Nat.le_trans hc.size h⟩
theorem ladd_calm {lb s : Nat} (h : JV w nm jb b (some (lb, s)) D F Ft N C) (sr t v : Int) (hsr : 0 ≤ sr ∧ sr < 256) (ht : In64 t) (hv : In64 v) (hN : N + 100 ≤ 1099511627776 ∧ (N + 100 ≤ 5000 ∨ 5000 < N)) (hC : C + 100 ≤ 4611686018427387904) :
    Calls Tryz.prog 121 #[.pointer (some ⟨lb, 0, none⟩), .agg #[.int .i64 sr, .int .i64 t, .int .i64 v]] w fun e w' => e = .returned (.tuple #[.bool true, .int .i64 0]) ∧
      ∃ s' D' F', JTo w w' nm jb b (some (lb, s)) Ft (some (lb, s')) D' F' (N + 21) (C + 1) := by
  obtain ⟨hf, hs, hn⟩ := h.log lb s rfl
  have hll : (putB sr t v ++ sumB (sumOn s (putB sr t v))).length = 21 := by rw [List.length_append, putB_length, sumB_length]
  obtain ⟨D1, hD1, hca, hok, hz1, hz2⟩ := h.calm.append (by omega) (by omega) (putB sr t v ++ sumB (sumOn s (putB sr t v))) (by omega)
  rw [hll] at hca
  have hjl : jb ≠ lb := fun e => by
    have h1 := h.jou
    unfold JBlk at h1; unfold FlBlk at hf
    rw [e] at h1; rw [h1] at hf; simp at hf
  refine (addLog_any w lb ⟨nm.toArray⟩ s sr t v hsr ht hv hf hs h.dsk h.ftl hn (by have := h.calm.room; omega) (by have := h.calm.used; omega) (by rw [h.calm.part]; omega) (fun f hf => by
      obtain ⟨e1, _, e3⟩ := h.calm.some_ rfl
      rw [e1] at hf; simp [lookup] at hf; subst hf; omega) ⟨by rw [hD1]; exact hz1, hz2⟩).mono ?_
  rw [hok, hD1]
  rintro e w' ⟨rfl, hb, hc, Ft', a1, a2, a3⟩
  refine ⟨rfl, sumOn s (putB sr t v), D1, _, ?_, Ft', ⟨?_, ?_, a1, a2, hca, ?_⟩, ?_⟩
  · exact hc.mono fun x _ hx => by
      rcases hx with hx | rfl
      · exact .inr (.inr hx)
      · exact .inr (.inl ⟨s, rfl⟩)
  · exact h.jou.chg hc fun hx => hx.elim h.nj hjl
  · rintro lb' s' e
    cases e
    refine ⟨hb, sumOn_lt _ _ hs, fun hx => ?_⟩
    rcases a3 lb hx with hx | hx
    · exact hn hx
    · have := hf.lt; omega
  · intro hx
    rcases a3 jb hx with hx | hx
    · exact h.nj hx
    · have := h.jou.lt; omega
  · rintro k (rfl | ⟨s', e⟩ | hk)
    · exact .inl (.inl rfl)
    · cases e; exact .inl (.inr (.inl ⟨s, rfl⟩))
    · exact (a3 k hk).imp (fun h => .inr (.inr h)) id
theorem JTo.join {w1 w2 : World} {own1 own2 : Option (Nat × Nat)} {D2 : DS} {F2 : Nat → FC} {N2 C2 : Nat} {Ft1 : Nat → Prop} (hc : Chg (JFoot jb own Ft) w w1) (hs : ∀ k, JFoot jb own1 Ft1 k → JFoot jb own Ft k ∨ w.heap.size ≤ k)
    (h2 : JTo w1 w2 nm jb b own1 Ft1 own2 D2 F2 N2 C2) : JTo w w2 nm jb b own Ft own2 D2 F2 N2 C2 := by
  obtain ⟨hc2, Ft2, hj2, hs2⟩ := h2
  refine ⟨hc.trans hc2 fun x hx hlt => (hs x hx).resolve_right (by omega), Ft2, hj2, fun k hk => ?_⟩
  rcases hs2 k hk with h | h
  · exact hs k h
  · exact .inr (Nat.le_trans hc.size h)
theorem JTo.more {own' : Option (Nat × Nat)} {D' : DS} {F' : Nat → FC} {N' C' N2 C2 : Nat} (h : JTo w w' nm jb b own Ft own' D' F' N' C') (hN : N' ≤ N2 ∧ (N2 ≤ 5000 ∨ 5000 < N')) (hC : C' ≤ C2) : JTo w w' nm jb b own Ft own' D' F' N2 C2 := by
  obtain ⟨h1, Ft', h2, h3⟩ := h
  exact ⟨h1, Ft', ⟨h2.jou, h2.log, h2.dsk, h2.ftl, h2.calm.mono hN hC, h2.nj⟩, h3⟩
set_option maxRecDepth 100000 in
set_option maxHeartbeats 2000000 in
theorem jadd_calm {B : Nat} {lt : List UInt8} (h : JV w (nameL lt 1) jb b own D F Ft N C) (hL : Lets B w lt) (hnum : NumOk 1) (hne : nameL lt 1 ≠ []) (sr t v : Int) (hsr : 0 ≤ sr ∧ sr < 256) (ht : In64 t) (hv : In64 v) (hN : N + 400 ≤ 1099511627776 ∧ (N + 400 ≤ 5000 ∨ 5000 < N)) (hC : C + 200 ≤ 4611686018427387904) :
    Calls Tryz.prog 92 #[.pointer (some ⟨jb, 0, none⟩), .agg #[.int .i64 sr, .int .i64 t, .int .i64 v]] w fun e w' => e = .returned (.tuple #[.bool true, .int .i64 0]) ∧
      ∃ lb s' D' F', JTo w w' (nameL lt 1) jb b own Ft (some (lb, s')) D' F' (N + 33) (C + 3) := by
  have hal : ∀ o, Chg (fun _ => False) w (w.alloc o) := fun o => (Chg.refl _ w).alloc o
  have c4 := h.jou.c4
  have hlt := h.jou.lt
  have H := hide h
  have HL := hide hL
  have LA : Hid (∀ w' lb s D F Ft N' C', JV w' (nameL lt 1) jb b (some (lb, s)) D F Ft N' C' → N' + 100 ≤ 1099511627776 ∧ (N' + 100 ≤ 5000 ∨ 5000 < N') → C' + 100 ≤ 4611686018427387904 → _) := fun w' lb s D F Ft N' C' h' hN hC => ladd_calm h' sr t v hsr ht hv hN hC
  have hbx := heap_alloc_new w (.cells #[.int .i64 sr, .int .i64 t, .int .i64 v] 109)
  have hjx : JBlk (w.alloc (.cells #[.int .i64 sr, .int .i64 t, .int .i64 v] 109)) jb b own := h.jou.chg (hal _) (fun h => h)
  have HV : Hid (JV (w.alloc (.cells #[.int .i64 sr, .int .i64 t, .int .i64 v] 109)) (nameL lt 1) jb b own D F Ft N C) := h.chg (hal _) (fun _ _ h => h)
  have q0 : (w.alloc (.cells #[.int .i64 sr, .int .i64 t, .int .i64 v] 109)).cell? ⟨w.heap.size, 0, none⟩ = some (.int .i64 sr) := by simp only [World.cell?, hbx]; rfl
  have q1 : (w.alloc (.cells #[.int .i64 sr, .int .i64 t, .int .i64 v] 109)).cell? ⟨w.heap.size, 1, none⟩ = some (.int .i64 t) := by simp only [World.cell?, hbx]; rfl
  have q2 : (w.alloc (.cells #[.int .i64 sr, .int .i64 t, .int .i64 v] 109)).cell? ⟨w.heap.size, 2, none⟩ = some (.int .i64 v) := by simp only [World.cell?, hbx]; rfl
  have HLT : Hid (∀ k, JFoot jb own Ft k → k < w.heap.size) := fun k hk => h.lt hk
  have HAL := hide (hal (.cells #[.int .i64 sr, .int .i64 t, .int .i64 v] 109))
  cases own with
  | some p =>
    obtain ⟨lb, s⟩ := p
    have x4 : (w.alloc (.cells #[.int .i64 sr, .int .i64 t, .int .i64 v] 109)).cell? ⟨jb, 4, none⟩ = some (.pointer (some ⟨lb, 0, none⟩)) := hjx.c4
    clear h hL hal hbx hjx hlt hsr ht hv hnum hne c4
    go_enter Tryz.func92, Tryz.ntmps92
    go_wp2
    generalize (w.alloc (.cells #[.int .i64 sr, .int .i64 t, .int .i64 v] 109)) = w1 at HV HAL x4 q0 q1 q2 ⊢
    have HAD := hide (LA.out w1.drew lb s D F Ft N C (HV.out.chg (Chg.refl (fun _ => False) w1).drew (fun _ _ h => h)) (by omega) (by omega))
    have KC : Hid (∀ w2 own' D' F' N' C', JTo w1.drew w2 (nameL lt 1) jb b (some (lb, s)) Ft own' D' F' N' C' → own'.map (fun x => x.1) = some lb → w2.cell? ⟨jb, 4, none⟩ = some (.pointer (some ⟨lb, 0, none⟩)) ∧ w2.cell? ⟨w.heap.size, 0, none⟩ = some (.int .i64 sr) ∧ w2.cell? ⟨w.heap.size, 1, none⟩ = some (.int .i64 t) ∧ w2.cell? ⟨w.heap.size, 2, none⟩ = some (.int .i64 v)) :=
      fun w2 own' D' F' N' C' hJ ho => by
        obtain ⟨k1, Ft', k2, _⟩ := hJ
        have y4 := k2.jou.c4
        obtain ⟨⟨l2, s2⟩, rfl⟩ : ∃ p, own' = some p := by cases own' with | none => cases ho | some p => exact ⟨p, rfl⟩
        simp at ho; subst ho
        have hb := World.block_lt_of_cell? w1 _ q0
        have kc : ∀ o u, w1.cell? ⟨w.heap.size, o, none⟩ = some u → w2.cell? ⟨w.heap.size, o, none⟩ = some u := fun o u hu => by
          have hh := k1.block w.heap.size hb (fun hx => by have := HLT.out _ hx; omega)
          unfold World.cell? at hu ⊢
          rw [hh]; exact hu
        exact ⟨y4, kc 0 _ q0, kc 1 _ q1, kc 2 _ q2⟩
    refine wp_region_sch (fun w' => w'.cell? ⟨jb, 4, none⟩ = some (.pointer (some ⟨lb, 0, none⟩)) ∧ w'.cell? ⟨w.heap.size, 0, none⟩ = some (.int .i64 sr) ∧ w'.cell? ⟨w.heap.size, 1, none⟩ = some (.int .i64 t) ∧ w'.cell? ⟨w.heap.size, 2, none⟩ = some (.int .i64 v)) 8
      [(0, true), (1, true), (2, true), (3, true), (4, true), (5, false), (6, true), (7, true)] (by kernel_rfl) (by kernel_rfl) (fun _ _ _ _ _ h => h) ⟨x4, q0, q1, q2⟩ ?_
    iterate 5 (refine wpSch_take (v := ?_) rfl (by rfl) ?_ ?_; rotate_left; (· (intro w' hS; (try dsimp only at hS); go_simp; try with_reducible rfl)); (try simp only [Act.put, List.setIfInBounds_toArray, List.set_cons_zero, List.set_cons_succ, List.getElem_toArray, List.getElem_cons_zero, List.getElem_cons_succ]))
    refine wpSch_do rfl (by rfl) (fun K hK => ?_)
    go_simp
    refine (HAD.out).mono ?_
    rintro e w2 ⟨rfl, s', D', F', hJ⟩
    refine hK _ _ (KC.out w2 _ _ _ _ _ hJ rfl) (fun hS => ?_)
    have HJ := hide hJ
    clear hK K hS hJ
    (try simp only [Act.put, List.setIfInBounds_toArray, List.set_cons_zero, List.set_cons_succ, List.getElem_toArray, List.getElem_cons_zero, List.getElem_cons_succ])
    iterate 2 (refine wpSch_take (v := ?_) rfl (by rfl) ?_ ?_; rotate_left; (· (intro w' hS; (try dsimp only at hS); go_simp; try with_reducible rfl)); (try simp only [Act.put, List.setIfInBounds_toArray, List.set_cons_zero, List.set_cons_succ, List.getElem_toArray, List.getElem_cons_zero, List.getElem_cons_succ]))
    refine wpSch_end ?_
    simp only [List.drop_succ_cons, List.drop_zero]
    go_wp2
    go_ret2
    exact ⟨rfl, lb, s', D', F', (HJ.out.before HAL.out.drew).more (by omega) (by omega)⟩
  | none =>
    have x4 : (w.alloc (.cells #[.int .i64 sr, .int .i64 t, .int .i64 v] 109)).cell? ⟨jb, 4, none⟩ = some (.pointer none) := hjx.c4
    have BG : Hid (Calls Tryz.prog 120 #[.pointer (some ⟨jb, 0, none⟩)] (w.alloc (.cells #[.int .i64 sr, .int .i64 t, .int .i64 v] 109)) fun e w' => e = .returned (.int .i64 0) ∧ ∃ lb s D' F', JTo (w.alloc (.cells #[.int .i64 sr, .int .i64 t, .int .i64 v] 109)) w' (nameL lt 1) jb b none Ft (some (lb, s)) D' F' (N + 12) (C + 2)) :=
      begin_calm HV.out (hL.keep0 HAL.out) hnum hne (by omega) (by omega)
    clear h hL hal hbx hjx hlt hsr ht hv hnum hne c4
    go_enter Tryz.func92, Tryz.ntmps92
    go_wp2_with (fail)
    generalize (w.alloc (.cells #[.int .i64 sr, .int .i64 t, .int .i64 v] 109)) = w0 at HV HAL x4 q0 q1 q2 BG ⊢
    refine BG.out.mono ?_
    rintro e w1 ⟨rfl, lb, s, D1, F1, hJ1⟩
    obtain ⟨k1, Ft1, hj1, hs1⟩ := hJ1
    have HK1 := hide k1
    have HJV := hide hj1
    have HS1 := hide hs1
    have x4' : w1.cell? ⟨jb, 4, none⟩ = some (.pointer (some ⟨lb, 0, none⟩)) := hj1.jou.c4
    have hb0 := World.block_lt_of_cell? w0 _ q0
    have hh1 : w1.heap[w.heap.size]? = w0.heap[w.heap.size]? := k1.block w.heap.size hb0 (fun hx => by have := HLT.out _ hx; omega)
    have p0 : w1.cell? ⟨w.heap.size, 0, none⟩ = some (.int .i64 sr) := by unfold World.cell? at q0 ⊢; rw [hh1]; exact q0
    have p1 : w1.cell? ⟨w.heap.size, 1, none⟩ = some (.int .i64 t) := by unfold World.cell? at q1 ⊢; rw [hh1]; exact q1
    have p2 : w1.cell? ⟨w.heap.size, 2, none⟩ = some (.int .i64 v) := by unfold World.cell? at q2 ⊢; rw [hh1]; exact q2
    have HLT1 : Hid (∀ k, JFoot jb (some (lb, s)) Ft1 k → k ≠ w.heap.size) := fun k hk e => by
      rcases hs1 k hk with hx | hx
      · have := HLT.out k hx; omega
      · have := World.block_lt_of_cell? w0 _ q0
        have := HAL.out.size
        simp only at *; omega
    clear k1 hj1 hs1 hh1 q0 q1 q2 x4 BG
    go_wp2
    have HAD := hide (LA.out w1.drew lb s D1 F1 Ft1 (N + 12) (C + 2) (HJV.out.chg (Chg.refl (fun _ => False) w1).drew (fun _ _ h => h)) (by omega) (by omega))
    have KC : Hid (∀ w2 own' D' F' N' C', JTo w1.drew w2 (nameL lt 1) jb b (some (lb, s)) Ft1 own' D' F' N' C' → own'.map (fun x => x.1) = some lb → w2.cell? ⟨jb, 4, none⟩ = some (.pointer (some ⟨lb, 0, none⟩)) ∧ w2.cell? ⟨w.heap.size, 0, none⟩ = some (.int .i64 sr) ∧ w2.cell? ⟨w.heap.size, 1, none⟩ = some (.int .i64 t) ∧ w2.cell? ⟨w.heap.size, 2, none⟩ = some (.int .i64 v)) :=
      fun w2 own' D' F' N' C' hJ ho => by
        obtain ⟨k1, Ft', k2, _⟩ := hJ
        have y4 := k2.jou.c4
        obtain ⟨⟨l2, s2⟩, rfl⟩ : ∃ p, own' = some p := by cases own' with | none => cases ho | some p => exact ⟨p, rfl⟩
        simp at ho; subst ho
        have hb := World.block_lt_of_cell? w1 _ p0
        have kc : ∀ o u, w1.cell? ⟨w.heap.size, o, none⟩ = some u → w2.cell? ⟨w.heap.size, o, none⟩ = some u := fun o u hu => by
          have hh := k1.block w.heap.size hb (fun hx => HLT1.out _ hx rfl)
          unfold World.cell? at hu ⊢
          rw [hh]; exact hu
        exact ⟨y4, kc 0 _ p0, kc 1 _ p1, kc 2 _ p2⟩
    refine wp_region_sch (fun w' => w'.cell? ⟨jb, 4, none⟩ = some (.pointer (some ⟨lb, 0, none⟩)) ∧ w'.cell? ⟨w.heap.size, 0, none⟩ = some (.int .i64 sr) ∧ w'.cell? ⟨w.heap.size, 1, none⟩ = some (.int .i64 t) ∧ w'.cell? ⟨w.heap.size, 2, none⟩ = some (.int .i64 v)) 8
      [(0, true), (1, true), (2, true), (3, true), (4, true), (5, false), (6, true), (7, true)] (by kernel_rfl) (by kernel_rfl) (fun _ _ _ _ _ h => h) ⟨x4', p0, p1, p2⟩ ?_
    iterate 5 (refine wpSch_take (v := ?_) rfl (by rfl) ?_ ?_; rotate_left; (· (intro w' hS; (try dsimp only at hS); go_simp; try with_reducible rfl)); (try simp only [Act.put, List.setIfInBounds_toArray, List.set_cons_zero, List.set_cons_succ, List.getElem_toArray, List.getElem_cons_zero, List.getElem_cons_succ]))
    refine wpSch_do rfl (by rfl) (fun K hK => ?_)
    go_simp
    refine (HAD.out).mono ?_
    rintro e w2 ⟨rfl, s', D', F', hJ⟩
    refine hK _ _ (KC.out w2 _ _ _ _ _ hJ rfl) (fun hS => ?_)
    have HJ := hide hJ
    clear hK K hS hJ
    (try simp only [Act.put, List.setIfInBounds_toArray, List.set_cons_zero, List.set_cons_succ, List.getElem_toArray, List.getElem_cons_zero, List.getElem_cons_succ])
    iterate 2 (refine wpSch_take (v := ?_) rfl (by rfl) ?_ ?_; rotate_left; (· (intro w' hS; (try dsimp only at hS); go_simp; try with_reducible rfl)); (try simp only [Act.put, List.setIfInBounds_toArray, List.set_cons_zero, List.set_cons_succ, List.getElem_toArray, List.getElem_cons_zero, List.getElem_cons_succ]))
    refine wpSch_end ?_
    simp only [List.drop_succ_cons, List.drop_zero]
    go_wp2
    go_ret2
    exact ⟨rfl, lb, s', D', F', ((JTo.join HK1.out HS1.out (HJ.out.before (Chg.refl (fun _ => False) w1).drew)).before HAL.out).more (by omega) (by omega)⟩
end
end Go.Proofs.YtfaeidbgdcincaaGreatDoor
