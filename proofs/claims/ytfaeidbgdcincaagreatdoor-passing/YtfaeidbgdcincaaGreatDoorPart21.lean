/-
  The statement WritesUptoCardSaid is proved: the law Writes answers true at every set and every script within the statement's bounds.
  Part 21 of 23.
-/
import Derived.Test.YtfaeidbgdcincaaGreatDoorPart20
/- Walks: the laws: takes. -/
namespace Go.Proofs.YtfaeidbgdcincaaGreatDoor
open Go.RowKit
attribute [local go_sem ↓] Go.wp_at_zero Go.wp_at_succ

theorem Tryz.infoList : (Tryz.prog.info? 87).map (fun i => (i.zero, i.size, i.bytes)) = some (some (.agg #[.slice none 0 0, .int .i64 0]), 2, 32) := by kernel_rfl
section
variable {lt : List UInt8} {H wb : Nat} {sb jb b : Nat} {life clock : Int} {lv : Nat → Value} {L : Nat → List Pt} {own : Option (Nat × Nat)} {D : DS} {F : Nat → FC} {Ft : Nat → Prop} {N C : Nat} {puts : List Pu}
/-- A list of the owner's: in memory that is nobody's else. -/
structure Mine (w : World) (H wb : Nat) (n : WN) (sb jb : Nat) (lv : Nat → Value) (own : Option (Nat × Nat)) (Ft : Nat → Prop) (v : Value) (l : List Pt) : Prop where
  row : PtSl w v l
  small : l.length < 1099511627776
  free : ∀ g, v.ownBlock = some g → H ≤ g ∧ ¬ WFoot wb n g ∧ ¬ SFoot sb jb lv own Ft g
/-- What a round of takes keeps: the world, the owner's list, the point that it writes. -/
structure Tak (w0 w : World) (lt : List UInt8) (H wb : Nat) (n0 n : WN) (sb jb b : Nat) (life clock : Int) (lv : Nat → Value) (L : Nat → List Pt) (own : Option (Nat × Nat)) (D : DS) (F : Nat → FC) (Ft : Nat → Prop) (N C : Nat) (puts : List Pu) (ls : List (Value × Int)) (xb : Nat) (a c : Int) (v : Value) (l : List Pt) : Prop where
  law : LW w lt H wb n sb jb b life clock lv L own D F Ft N C puts ls
  mine : Mine w H wb n sb jb lv own Ft v l
  x0 : w.cell? ⟨xb, 0, none⟩ = some (.int .i64 a)
  x1 : w.cell? ⟨xb, 1, none⟩ = some (.int .i64 c)
  xn : ∀ g, v.ownBlock = some g → g ≠ xb
  xw : ¬ WFoot wb n xb
  cnt : n.count = c
  clk : n.clock = n0.clock
  chg : Chg (Up H) w0 w
theorem Tak.size {w0 w : World} {n0 n : WN} {ls : List (Value × Int)} {xb : Nat} {a c : Int} {v : Value} {l : List Pt} (h : Tak w0 w lt H wb n0 n sb jb b life clock lv L own D F Ft N C puts ls xb a c v l) : xb < w.heap.size := World.block_lt_of_cell? w _ h.x0
theorem Tak.chg0 {w0 w w' : World} {n0 n : WN} {ls : List (Value × Int)} {xb : Nat} {a c : Int} {v : Value} {l : List Pt} (h : Tak w0 w lt H wb n0 n sb jb b life clock lv L own D F Ft N C puts ls xb a c v l) (hc : Chg (fun _ => False) w w') : Tak w0 w' lt H wb n0 n sb jb b life clock lv L own D F Ft N C puts ls xb a c v l :=
  ⟨h.law.chg0 hc, ⟨ownsRow_same h.mine.row fun g hg => hc.block g (ownsRow_lt h.mine.row hg) (fun h => h), h.mine.small, h.mine.free⟩, hc.cellKeep h.x0, hc.cellKeep h.x1, h.xn, h.xw, h.cnt, h.clk, h.chg.trans hc fun _ h _ => h.elim⟩
theorem Tak.lstApp {w0 w w' : World} {n0 n : WN} {ls : List (Value × Int)} {xb : Nat} {a c : Int} {v v' : Value} {l : List Pt} {p : Value × Int} (h : Tak w0 w lt H wb n0 n sb jb b life clock lv L own D F Ft N C puts ls xb a c v l) (hA : App w w' 87 2 n.lv v' (ls.length + 1) (lsVals ls ++ lsVals [p])) :
    w'.cell? ⟨wb, 14, none⟩ = some n.lv ∧ w'.frozen? ⟨wb, 14, none⟩ = false ∧ Tak w0 (w'.setCell ⟨wb, 14, none⟩ v') lt H wb n0 { n with lv := v' } sb jb b life clock lv L own D F Ft N C puts (ls ++ [p]) xb a c v l := by
  obtain ⟨a1, a2, a3, a4, a5⟩ := h.law.lstApp hA
  have hx := h.size
  have hne : ∀ k, (k = wb ∨ n.lv.ownBlock = some k) → WFoot wb n k := fun k hk => hk.elim .inl (fun e => .inr (.inr e))
  refine ⟨a1, a2, a4, ⟨?_, h.mine.small, fun g hg => ?_⟩, ?_, ?_, h.xn, ?_, h.cnt, h.clk, ?_⟩
  · exact ownsRow_same h.mine.row fun g hg => a3.block g (ownsRow_lt h.mine.row hg) fun e => (h.mine.free g hg).2.1 (hne g e)
  · obtain ⟨f1, f2, f3⟩ := h.mine.free g hg
    refine ⟨f1, ?_, f3⟩
    rintro (e | e | e)
    · exact f2 (.inl e)
    · exact f2 (.inr (.inl e))
    · rcases a5 with q | q
      · simp only at e; rw [q] at e; exact f2 (.inr (.inr e))
      · simp only at e; rw [q] at e; cases e
        have := ownsRow_lt h.mine.row hg; omega
  · exact cell_chg a3 h.x0 fun e => h.xw (hne xb e)
  · exact cell_chg a3 h.x1 fun e => h.xw (hne xb e)
  · rintro (e | e | e)
    · exact h.xw (.inl e)
    · exact h.xw (.inr (.inl e))
    · rcases a5 with q | q
      · simp only at e; rw [q] at e; exact h.xw (.inr (.inr e))
      · simp only at e; rw [q] at e; cases e; omega
  · exact h.chg.trans a3 fun x hx _ => h.law.upw x (hne x hx)
theorem Tak.mineApp {w0 w w' : World} {n0 n : WN} {ls : List (Value × Int)} {xb : Nat} {a c : Int} {v v' : Value} {l : List Pt} {p : Pt} (h : Tak w0 w lt H wb n0 n sb jb b life clock lv L own D F Ft N C puts ls xb a c v l) (hA : App w w' 73 2 v v' (l.length + 1) (ptVals l ++ ptVals [p])) (hs : l.length + 1 < 1099511627776) :
    Tak w0 w' lt H wb n0 n sb jb b life clock lv L own D F Ft N C puts ls xb a c v' (l ++ [p]) := by
  have hc := hA.chgOwn
  have hx := h.size
  have hz := h.law.size
  refine ⟨h.law.other hc (fun k hk e => (h.mine.free k e).2.1 hk) (fun k hk e => (h.mine.free k e).2.2 hk), ⟨?_, by simpa using hs, fun g hg => ?_⟩, cell_chg hc h.x0 fun e => h.xn xb e rfl, cell_chg hc h.x1 fun e => h.xn xb e rfl, fun g hg => ?_, h.xw, h.cnt, h.clk, h.chg.trans hc fun x hx _ => (h.mine.free x hx).1⟩
  · unfold PtSl
    have := hA.own
    rw [← ptVals_append] at this
    simpa using this
  · rcases hA.at_ with e | e
    · rw [e] at hg; exact h.mine.free g hg
    · rw [e] at hg; cases hg
      exact ⟨hz, fun hx => by have := h.law.wlt hx; omega, fun hx => by have := h.law.st.lt hx; omega⟩
  · rcases hA.at_ with e | e
    · rw [e] at hg; exact h.xn g hg
    · rw [e] at hg; cases hg; omega
set_option maxRecDepth 100000 in
set_option maxHeartbeats 8000000 in
theorem takes_any {n : WN} {ls : List (Value × Int)} (w : World) (v : Value) (l : List Pt) (h : LW w lt H wb n sb jb b life clock lv L own D F Ft N C puts ls) (hm : Mine w H wb n sb jb lv own Ft v l) (hll : l.length < 1099511627000) (hls : ls.length < 1099511627000) :
    Calls Tryz.prog 85 #[.pointer (some ⟨wb, 0, none⟩), v] w fun e w' => e = .returned (.tuple #[]) ∧ Chg (Up H) w w' ∧ ∃ n' ls', LW w' lt H wb n' sb jb b life clock lv L own D F Ft N C puts ls' ∧ ls'.length = ls.length + 4 ∧ n'.clock = n.clock := by
  obtain ⟨ad, cap, rfl, l1, l2, l3, -, -⟩ := ownsRow_form hm.row
  have c15 := h.blk.c15
  have z15 := h.blk.fz 15
  have hwl := h.blk.lt
  have hln := hm.small
  obtain ⟨cn, hcn⟩ : ∃ cn, IntKind.i64.wrap (n.count + 1) = cn := ⟨_, rfl⟩
  have hq := h.cell (n' := { n with count := cn }) 15 (.int .i64 cn) (h.blk.s15 cn) rfl rfl h.hbr rfl rfl rfl rfl
  obtain ⟨k1, h1⟩ := hq
  have H1 := hide h1
  have K1 := hide k1
  have HM := hide hm
  have HL3 := hide l3
  have MW : Hid (∀ g, (Value.slice ad l.length cap).ownBlock = some g → g < w.heap.size ∧ g ≠ wb) := fun g hg => ⟨ownsRow_lt hm.row hg, fun e => (hm.free g hg).2.1 (.inl e)⟩
  have c15' : (w.setCell ⟨wb, 15, none⟩ (.int .i64 cn)).cell? ⟨wb, 15, none⟩ = some (.int .i64 cn) := h1.blk.c15
  clear h hm h1 k1 l3
  go_enter Tryz.func85, Tryz.ntmps85
  go_wp2
  generalize hw1 : (w.setCell ⟨wb, 15, none⟩ (.int .i64 cn)) = w1 at H1 K1 c15' ⊢
  have hs1 : w1.heap.size = w.heap.size := by rw [← hw1]; simp
  refine wp_region_sch (fun w' => w'.cell? ⟨wb, 15, none⟩ = some (.int .i64 cn)) 11
    [(0, true), (1, true), (2, true), (3, true), (4, true), (5, true), (6, true), (7, true), (8, true), (9, true), (10, false)] (by kernel_rfl) (by kernel_rfl) (fun _ _ _ _ _ h => h) c15' ?_
  iterate 10 (refine wpSch_take (v := ?_) rfl (by rfl) ?_ ?_; rotate_left; (· (intro w' hS; (try dsimp only at hS); go_simp; try with_reducible rfl)); (try simp only [Act.put, List.setIfInBounds_toArray, List.set_cons_zero, List.set_cons_succ, List.getElem_toArray, List.getElem_cons_zero, List.getElem_cons_succ]))
  refine wpSch_do rfl (by rfl) (fun K hK => ?_)
  go_simp
  have k2 : Chg (fun _ => False) w1 (w1.alloc (.cells #[.int .i64 0, .int .i64 0] 73)).drew := ((Chg.refl _ w1).alloc _).drew
  have hbx : (w1.alloc (.cells #[.int .i64 0, .int .i64 0] 73)).drew.heap[w.heap.size]? = some (.cells #[.int .i64 0, .int .i64 0] 73 (0, 0)) := by rw [← hs1]; exact heap_alloc_new w1 _
  refine hK _ _ (k2.cellKeep c15') (fun hS => ?_)
  clear hK K hS
  generalize (w1.alloc (.cells #[.int .i64 0, .int .i64 0] 73)).drew = w2 at k2 hbx ⊢
  obtain ⟨a, ha⟩ : ∃ a, IntKind.i64.wrap (-cn) = a := ⟨_, rfl⟩
  have x0 : w2.cell? ⟨w.heap.size, 0, none⟩ = some (.int .i64 0) := by simp only [World.cell?, hbx]; rfl
  have x1 : w2.cell? ⟨w.heap.size, 1, none⟩ = some (.int .i64 0) := by simp only [World.cell?, hbx]; rfl
  have f0 : w2.frozen? ⟨w.heap.size, 0, none⟩ = false := by simp [World.frozen?, hbx]
  have f1 : w2.frozen? ⟨w.heap.size, 1, none⟩ = false := by simp [World.frozen?, hbx]
  have T3 : Hid (Tak w ((w2.setCell ⟨w.heap.size, 0, none⟩ (.int .i64 a)).setCell ⟨w.heap.size, 1, none⟩ (.int .i64 cn)) lt H wb n { n with count := cn } sb jb b life clock lv L own D F Ft N C puts ls w.heap.size a cn (.slice ad l.length cap) l) := by
    have hb3 : ((w2.setCell ⟨w.heap.size, 0, none⟩ (.int .i64 a)).setCell ⟨w.heap.size, 1, none⟩ (.int .i64 cn)).heap[w.heap.size]? = some (.cells #[.int .i64 a, .int .i64 cn] 73 (0, 0)) := heap_setCell_at (heap_setCell_at hbx)
    have hc3 := ((Chg.refl (One w.heap.size) w2).setAt (b := w.heap.size) rfl 0 (.int .i64 a)).setAt (b := w.heap.size) rfl 1 (.int .i64 cn)
    have h2 := H1.out.chg0 k2
    have hf : ∀ k, WFoot wb n k → k ≠ w.heap.size := fun k hk e => by
      have := H1.out.wlt (k := k) hk; omega
    have hff : ∀ k, SFoot sb jb lv own Ft k → k ≠ w.heap.size := fun k hk e => by
      have := H1.out.st.lt hk; omega
    refine ⟨h2.other hc3 (fun k hk e => hf k hk e) (fun k hk e => hff k hk e), ⟨?_, hln, HM.out.free⟩, by simp only [World.cell?, hb3]; rfl, by simp only [World.cell?, hb3]; rfl, fun g hg => by have := (MW.out g hg).1; omega, fun hx => hf _ hx rfl, rfl, rfl, ?_⟩
    · have hk : Chg (fun x => x = wb ∨ x = w.heap.size) w ((w2.setCell ⟨w.heap.size, 0, none⟩ (.int .i64 a)).setCell ⟨w.heap.size, 1, none⟩ (.int .i64 cn)) := by
        have q1 : Chg (One wb) w w1 := by rw [← hw1]; exact (Chg.refl (One wb) w).setAt rfl 15 _
        exact ((q1.mono (S' := fun x => x = wb ∨ x = w.heap.size) fun _ _ e => .inl e).trans k2 fun _ h _ => h.elim).trans hc3 fun x hx _ => .inr hx
      exact ownsRow_same HM.out.row fun g hg => hk.block g (MW.out g hg).1 fun e => by
        have := MW.out g hg
        rcases e with e | e <;> omega
    · have hz := H1.out.size
      exact (K1.out.trans k2 fun _ h _ => h.elim).trans hc3 fun x hx _ => by cases hx; unfold Up; omega
  rw [ha]
  clear K1 H1 k2 hbx c15 c15' z15 hw1 HM hcn ha
  (try simp only [Act.put, List.setIfInBounds_toArray, List.set_cons_zero, List.set_cons_succ, List.getElem_toArray, List.getElem_cons_zero, List.getElem_cons_succ])
  refine wpSch_end ?_
  simp only [List.drop_succ_cons, List.drop_zero]
  go_wp2
  clear x0 x1 f0 f1
  generalize ((w2.setCell ⟨w.heap.size, 0, none⟩ (.int .i64 a)).setCell ⟨w.heap.size, 1, none⟩ (.int .i64 cn)) = w3 at T3 ⊢
  go_loopw [5] (fun iv wr => ∃ k : Nat, k ≤ l.length ∧ iv = .int .i64 k ∧ Hid (∃ l', l'.length = l.length ∧ Tak w wr lt H wb n { n with count := cn } sb jb b life clock lv L own D F Ft N C puts ls w.heap.size a cn (.slice ad l.length cap) l')) (fun iv _ => l.length - (intOf iv).toNat)
  case atStart => exact ⟨0, Nat.zero_le _, rfl, l, rfl, T3.out⟩
  case round =>
    obtain ⟨k, hk, rfl, hT⟩ := hrel
    obtain ⟨w0, hw0⟩ : ∃ w0, w0 = wr := ⟨_, rfl⟩
    subst hw0
    have k0 : (0 : Int) ≤ (k : Int) := Int.natCast_nonneg _
    by_cases hlk : k < l.length
    · have i1 : (k : Int) < (l.length : Int) := by omega
      have i2 : (l.length : Int) < 1099511627776 := by omega
      obtain ⟨l', hl', hT'⟩ := hT.out
      obtain ⟨g, rfl⟩ := HL3.out (by omega)
      have hlk' : k < l'.length := by omega
      have hrow : PtSl w0 (.slice (some ⟨g, 0, none⟩) l.length cap) l' := hT'.mine.row
      obtain ⟨o0, o1⟩ := hrow.cells k hlk'
      have z0 := ownsRow_frozen hrow (g := g) rfl (k * 2)
      have z1 := ownsRow_frozen hrow (g := g) rfl (k * 2 + 1)
      have x0 := hT'.x0
      have x1 := hT'.x1
      have NXT : Hid (∃ l2, l2.length = l.length ∧ Tak w ((w0.setCell ⟨g, k * 2, none⟩ (.int .i64 a)).setCell ⟨g, k * 2 + 1, none⟩ (.int .i64 cn)) lt H wb n { n with count := cn } sb jb b life clock lv L own D F Ft N C puts ls w.heap.size a cn (.slice (some ⟨g, 0, none⟩) l.length cap) l2) := by
        have hrow' := hrow
        unfold PtSl at hrow'
        rw [hl'] at hrow'
        have s1 := (hrow'.stored (k * 2) (.int .i64 a)).1
        have s2 := (s1.stored (k * 2 + 1) (.int .i64 cn)).1
        have e := ptVals_set l' k (a, cn) hlk'
        simp only at e
        rw [e] at s2
        obtain ⟨f1, f2, f3⟩ := hT'.mine.free g rfl
        have hc := ((Chg.refl (One g) w0).setAt (b := g) rfl (k * 2) (.int .i64 a)).setAt (b := g) rfl (k * 2 + 1) (.int .i64 cn)
        have hgx := hT'.xn g rfl
        have hx : ∀ o u, w0.cell? ⟨w.heap.size, o, none⟩ = some u → ((w0.setCell ⟨g, k * 2, none⟩ (.int .i64 a)).setCell ⟨g, k * 2 + 1, none⟩ (.int .i64 cn)).cell? ⟨w.heap.size, o, none⟩ = some u := fun o u hu => cell_chg hc hu fun e => hgx e.symm
        refine ⟨l'.set k (a, cn), by rw [List.length_set]; exact hl', hT'.law.other hc (fun k hk e => f2 (by cases e; exact hk)) (fun k hk e => f3 (by cases e; exact hk)), ⟨?_, by rw [List.length_set]; exact hT'.mine.small, hT'.mine.free⟩, hx _ _ x0, hx _ _ x1, hT'.xn, hT'.xw, rfl, rfl, hT'.chg.trans hc fun x hx _ => by cases hx; exact f1⟩
        unfold PtSl
        rw [List.length_set, hl']; exact s2
      obtain ⟨u0, hu0⟩ : ∃ u0, (l'[k]'hlk').1 = u0 := ⟨_, rfl⟩
      obtain ⟨u1, hu1⟩ : ∃ u1, (l'[k]'hlk').2 = u1 := ⟨_, rfl⟩
      rw [hu0] at o0
      rw [hu1] at o1
      clear hT hrow hT' T3 hl' hu0 hu1 hlk'
      go_wp2
      go_roundw
      case rel => exact ⟨k + 1, by omega, by go_num, NXT.out⟩
      case measure => simp [intOf]; omega
    · obtain rfl : k = l.length := by omega
      clear T3
      go_wp2
      clear HL3 MW
      obtain ⟨l0, hl0, hT0⟩ := hT.out
      have HT0 := hide hT0
      obtain ⟨i0, hi, hz0, hz1, hz2⟩ := info_parts Tryz.infoList
      obtain ⟨j0, hj, hy0, hy1, hy2⟩ := info_parts Tryz.infoPt2
      clear hT hT0
      go_loopw [1, 6] (fun vv iv wr => ∃ k : Nat, k ≤ 4 ∧ iv = .int .i64 k ∧ Hid (∃ l' n' ls', l'.length ≤ l.length + k ∧ ls'.length = ls.length + k ∧ Tak w wr lt H wb n n' sb jb b life clock lv L own D F Ft N C puts ls' w.heap.size a cn vv l')) (fun _ iv _ => 4 - (intOf iv).toNat)
      case atStart => exact ⟨0, by omega, rfl, l0, _, ls, by omega, rfl, HT0.out⟩
      case round =>
        obtain ⟨k, hk, rfl, hT⟩ := hrel
        obtain ⟨w4, hw4⟩ : ∃ w4, w4 = wr := ⟨_, rfl⟩
        subst hw4
        have k0 : (0 : Int) ≤ (k : Int) := Int.natCast_nonneg _
        by_cases hlk : k < 4
        · have i1 : (k : Int) < 4 := by omega
          obtain ⟨l', n', ls', hl', hls', hT'⟩ := hT.out
          have c14 := hT'.law.blk.c14
          have c15 := hT'.law.blk.c15
          rw [hT'.cnt] at c15
          have x0 := hT'.x0
          have x1 := hT'.x1
          obtain ⟨aa, cc, rfl, -⟩ := ownsRow_form hT'.mine.row
          have HT' := hide hT'
          have HLL := hide hl'
          have HLS := hide hls'
          have bl : l'.length + 1 < 1099511627776 := by omega
          have bls : ls'.length + 1 < 1099511627776 := by omega
          clear hT hT' HT0 hl' hls'
          go_wp2
          refine wp_region_sch (fun w' => w'.cell? ⟨wb, 14, none⟩ = some n'.lv ∧ w'.cell? ⟨wb, 15, none⟩ = some (.int .i64 cn)) 13
            [(0, true), (1, true), (2, true), (3, true), (4, true), (5, true), (6, true), (7, true), (8, true), (9, true), (10, true), (11, false), (12, false)] (by kernel_rfl) (by kernel_rfl) (fun _ _ _ _ _ h => h) ⟨c14, c15⟩ ?_
          iterate 11 (refine wpSch_take (v := ?_) rfl (by rfl) ?_ ?_; rotate_left; (· (intro w' hS; (try dsimp only at hS); go_simp; try with_reducible rfl)); (try simp only [Act.put, List.setIfInBounds_toArray, List.set_cons_zero, List.set_cons_succ, List.getElem_toArray, List.getElem_cons_zero, List.getElem_cons_succ]))
          refine wpSch_do rfl (by rfl) (fun K hK => ?_)
          go_simp
          have k5 : Chg (fun _ => False) w4 (w4.alloc (.cells #[.slice aa l'.length cc, .int .i64 cn] 87)).drew := ((Chg.refl _ w4).alloc _).drew
          refine hK _ _ ⟨k5.cellKeep c14, k5.cellKeep c15⟩ (fun hS => ?_)
          clear hK K hS
          have HT5 := hide (HT'.out.chg0 k5)
          have SR : Hid (Src Tryz.prog 2 38 (.slice (some ⟨w4.heap.size, 0, none⟩) 1 1) 1 (lsVals [(.slice aa l'.length cc, cn)]) (w4.alloc (.cells #[.slice aa l'.length cc, .int .i64 cn] 87)).drew) :=
            Src.ofBlock (w := (w4.alloc (.cells #[.slice aa l'.length cc, .int .i64 cn] 87)).drew) (cs := #[.slice aa l'.length cc, .int .i64 cn]) Tryz.underlying38 (heap_alloc_new w4 _) 1 1 rfl (by
              intro u hu; simp at hu; rcases hu with rfl | rfl <;> rfl)
          clear k5 HT'
          generalize (w4.alloc (.cells #[.slice aa l'.length cc, .int .i64 cn] 87)).drew = w5 at HT5 SR ⊢
          (try simp only [Act.put, List.setIfInBounds_toArray, List.set_cons_zero, List.set_cons_succ, List.getElem_toArray, List.getElem_cons_zero, List.getElem_cons_succ])
          refine wpSch_do rfl (by rfl) (fun K hK => ?_)
          refine wp_app (.tmp 43) (.tmp 50) 38 38 rfl 87 i0 _ 2 32 Tryz.underlying38 hi hz0 hz1 hz2 rfl (by decide) n'.lv ls'.length (lsVals ls') (by rfl) HT5.out.law.lst _ 1 _ (by rfl) SR.out (by omega) ?_
          intro b6 cap6 w6 hA
          obtain ⟨y14, z14, hT6⟩ := HT5.out.lstApp hA
          have y15 : w6.cell? ⟨wb, 15, none⟩ = some (.int .i64 cn) := cell_chg hA.chgOwn (by rw [HT5.out.law.blk.c15, HT5.out.cnt]) HT5.out.law.wne_l
          refine hK _ _ ⟨y14, y15⟩ (fun hS => ?_)
          have x0' := hT6.x0
          have x1' := hT6.x1
          have x0w : w6.cell? ⟨w.heap.size, 0, none⟩ = some (.int .i64 a) := (World.cell?_setCell_other _ _ _ _ (by simp; try omega)).symm.trans x0'
          have x1w : w6.cell? ⟨w.heap.size, 1, none⟩ = some (.int .i64 cn) := (World.cell?_setCell_other _ _ _ _ (by simp; try omega)).symm.trans x1'
          have HT6 := hide hT6
          clear hK K hS hA SR HT5 hT6 c14 c15 x0 x1 y15
          (try simp only [Act.put, List.setIfInBounds_toArray, List.set_cons_zero, List.set_cons_succ, List.getElem_toArray, List.getElem_cons_zero, List.getElem_cons_succ])
          refine wpSch_end ?_
          simp only [List.drop_succ_cons, List.drop_zero]
          have HT7 := hide (HT6.out.chg0 ((Chg.refl (fun _ => False) (w6.setCell ⟨wb, 14, none⟩ (.slice b6 (ls'.length + 1) cap6))).alloc (.cells #[.int .i64 a, .int .i64 cn] 73)))
          have SR2 : Hid (Src Tryz.prog 2 66 (.slice (some ⟨w6.heap.size, 0, none⟩) 1 1) 1 (ptVals [(a, cn)]) ((w6.setCell ⟨wb, 14, none⟩ (.slice b6 (ls'.length + 1) cap6)).alloc (.cells #[.int .i64 a, .int .i64 cn] 73))) :=
            Src.ofNew (B := w6.heap.size) Tryz.underlying66 (w6.setCell ⟨wb, 14, none⟩ (.slice b6 (ls'.length + 1) cap6)) #[.int .i64 a, .int .i64 cn] 73 (by simp) 1 1 rfl (ptVals_oneCell [(a, cn)])
          go_wp2_with (at_builtin; refine wpList_app rfl (.tmp 54) (.tmp 56) 66 66 rfl 73 j0 _ 2 16 Tryz.underlying66 hj hy0 hy1 hy2 rfl (by decide) (.slice aa l'.length cc) l'.length (ptVals l') (by rfl) HT7.out.mine.row _ 1 _ (by rfl) SR2.out (by omega) ?_; intro b8 cap8 w8 hA; have HT8 := hide (HT7.out.mineApp hA (by omega)); clear hA)
          go_roundw
          case rel => exact ⟨k + 1, by omega, by go_num, l' ++ [(a, cn)], _, _, by have := HLL.out; simp; omega, by have := HLS.out; simp; omega, HT8.out⟩
          case measure => simp [intOf]; omega
        · obtain rfl : k = 4 := by omega
          clear HT0
          go_wp2
          go_end0
          obtain ⟨l', n', ls', hl', hls', hT'⟩ := hT.out
          exact ⟨rfl, hT'.chg, n', ls', hT'.law, hls', hT'.clk⟩
end
end Go.Proofs.YtfaeidbgdcincaaGreatDoor
/- Walks: the laws: asks. -/
namespace Go.Proofs.YtfaeidbgdcincaaGreatDoor
open Go.RowKit
attribute [local go_sem ↓] Go.wp_at_zero Go.wp_at_succ

section
variable {lt : List UInt8} {H wb : Nat} {n : WN} {sb jb b : Nat} {life clock : Int} {lv : Nat → Value} {L : Nat → List Pt} {own : Option (Nat × Nat)} {D : DS} {F : Nat → FC} {Ft : Nat → Prop} {N C : Nat} {puts : List Pu} {ls : List (Value × Int)}
set_option maxRecDepth 100000 in
set_option maxHeartbeats 8000000 in
theorem asks_state (w : World) (a b3 c3 : Int) (tv : Value) (h : LW w lt H wb n sb jb b life clock lv L own D F Ft N C puts ls) (hck : n.clock = clock) :
    Calls Tryz.prog 50 #[.pointer (some ⟨wb, 0, none⟩), .agg #[.int .i64 5, .int .i64 a, .int .i64 b3, .int .i64 c3, tv]] w fun e w' => e = .returned (.bool true) ∧ Chg (fun _ => False) w w' := by
  have hA := (Chg.refl (fun _ => False) w).alloc (opObj 5 a b3 c3 tv)
  obtain ⟨o0, -, -, -⟩ := opObj_at w 5 a b3 c3 tv
  have h1 := h.chg0 hA
  generalize hw1 : w.alloc (opObj 5 a b3 c3 tv) = w1 at hA o0 h1
  unfold opObj at hw1
  have c4 := h1.blk.c4
  rw [h1.hdv] at c4
  have c5 := h1.blk.c5
  rw [h1.hsv] at c5
  have CA2 : Hid (∀ w', Chg (fun _ => False) w1 w' → Calls Tryz.prog 44 #[.pointer (some ⟨b, 0, none⟩)] w' fun e w2 => e = .returned (.int .i64 D.n.calls) ∧ w' = w2) := fun w' k => callsU (h1.chg0 k).st.jv.dsk
  have ST := hide (state_any w1 h1.st.blk)
  obtain ⟨cn, hcn⟩ : ∃ cn, D.n.calls = cn := ⟨_, rfl⟩
  rw [hcn] at CA2
  have CA := hide (CA2.out w1 (Chg.refl _ _))
  have HA := hide hA
  have H1 := hide h1
  clear h hA h1 hcn
  go_enter Tryz.func50, Tryz.ntmps50
  go_wp2_with (first
    | (go_at_call 44; refine CA.out.mono ?_; rintro e w2 ⟨rfl, rfl⟩)
    | (go_at_call 30; refine ST.out.mono ?_; rintro e w2 ⟨rfl, hc2⟩; have HC2 := hide hc2; clear hc2))
  have hA2 : Chg (fun _ => False) w1 (w2.alloc (.cells #[.bool false, .int .i64 clock] 64)) := HC2.out.alloc _
  have hbx := heap_alloc_new w2 (.cells #[.bool false, .int .i64 clock] 64)
  have d0 : (w2.alloc (.cells #[.bool false, .int .i64 clock] 64)).cell? ⟨w2.heap.size, 0, none⟩ = some (.bool false) := by simp only [World.cell?, hbx]; rfl
  have d1 : (w2.alloc (.cells #[.bool false, .int .i64 clock] 64)).cell? ⟨w2.heap.size, 1, none⟩ = some (.int .i64 clock) := by simp only [World.cell?, hbx]; rfl
  clear hbx
  generalize (w2.alloc (.cells #[.bool false, .int .i64 clock] 64)) = w3 at hA2 d0 d1 ⊢
  have b9 := (H1.out.chg0 hA2).blk.c9
  rw [H1.out.hbr] at b9
  have b10 := (H1.out.chg0 hA2).blk.c10
  rw [hck] at b10
  have e4 := hA2.cellKeep c4
  have HC3 := hide hA2
  clear hA2 HC2 ST CA
  refine wp_region_sch (fun w' => w'.cell? ⟨w2.heap.size, 0, none⟩ = some (.bool false) ∧ w'.cell? ⟨w2.heap.size, 1, none⟩ = some (.int .i64 clock) ∧ w'.cell? ⟨wb, 9, none⟩ = some (.bool false) ∧ w'.cell? ⟨wb, 10, none⟩ = some (.int .i64 clock)) 16
    [(0, true), (1, true), (2, true), (3, true), (4, true), (5, true), (6, true), (7, true), (8, true), (9, true), (10, true), (11, true), (12, true), (13, true), (14, true), (15, true)] (by kernel_rfl) (by kernel_rfl) (fun _ _ _ _ _ h => h) ⟨d0, d1, b9, b10⟩ ?_
  iterate 16 (refine wpSch_take (v := ?_) rfl (by rfl) ?_ ?_; rotate_left; (· (intro w' hS; (try dsimp only at hS); go_simp; try with_reducible rfl)); (try simp only [Act.put, List.setIfInBounds_toArray, List.set_cons_zero, List.set_cons_succ, List.getElem_toArray, List.getElem_cons_zero, List.getElem_cons_succ]))
  refine wpSch_end ?_
  simp only [List.drop_succ_cons, List.drop_zero]
  have CA3 := hide (CA2.out w3.drew HC3.out.drew)
  clear CA2
  go_wp2_with (go_at_call 44; refine CA3.out.mono ?_; rintro e w4 ⟨rfl, rfl⟩)
  go_ret
  exact ⟨rfl, HA.out.trans HC3.out.drew fun _ h _ => h⟩
set_option maxRecDepth 100000 in
set_option maxHeartbeats 8000000 in
theorem asks_ok {k : Nat} (w : World) (a b3 : Int) (tv : Value) (h : LW w lt H wb n sb jb b life clock lv L own D F Ft N C puts ls) (hck : n.clock = clock) (hR : Rel L puts life clock) (hk : k < 8) (hp : ∀ p ∈ puts, In64 p.2.1) (hpl : puts.length < 1099511627000) (hls : ls.length < 1099511627000)
    (hl : 1 ≤ life ∧ life ≤ 4611686018427387904) (hc : In64 clock) :
    Calls Tryz.prog 50 #[.pointer (some ⟨wb, 0, none⟩), .agg #[.int .i64 3, .int .i64 k, .int .i64 a, .int .i64 b3, tv]] w fun e w' => e = .returned (.bool true) ∧ Chg (Up H) w w' ∧ ∃ n' ls', LW w' lt H wb n' sb jb b life clock lv L own D F Ft N C puts ls' ∧ ls'.length = ls.length + 4 ∧ n'.clock = n.clock := by
  have hA := (Chg.refl (fun _ => False) w).alloc (opObj 3 k a b3 tv)
  obtain ⟨o0, o1, o2, o3⟩ := opObj_at w 3 k a b3 tv
  have h1 := h.chg0 hA
  generalize hw1 : w.alloc (opObj 3 k a b3 tv) = w1 at hA o0 o1 o2 o3 h1
  unfold opObj at hw1
  have c4 := h1.blk.c4
  rw [h1.hdv] at c4
  have c5 := h1.blk.c5
  rw [h1.hsv] at c5
  have CA := hide (callsU h1.st.jv.dsk)
  obtain ⟨cn, hcn⟩ : ∃ cn, D.n.calls = cn := ⟨_, rfl⟩
  rw [hcn] at CA
  have HCN := hide hcn
  have HA := hide hA
  have h1d := h1.chg0 (Chg.refl (fun _ => False) w1).drew
  have QU := hide (query_ok w1.drew k a b3 h1d.st.blk h1d.st.rows hk hl hc)
  have eq1 := hR.query hp hk a b3
  rw [eq1] at QU
  have hql := refQ_len puts k a b3 life clock
  have RQ : Hid (∀ w', Chg (fun _ => False) w1 w' → _) := fun w' k' => query_any w' n.pv puts puts.length (h1.chg0 k').pts (Nat.le_refl _) (by omega) hp k a b3 life clock hl hc
  rw [List.take_length] at RQ
  obtain ⟨Q, hQ⟩ : ∃ Q, refQ puts k a b3 life clock = Q := ⟨_, rfl⟩
  rw [hQ] at QU RQ hql
  have SE : Hid (∀ w', Calls Tryz.prog 82 #[.int .i64 k] w' fun e w2 => e = .returned (.bool true) ∧ w' = w2) := fun w' => by
    have := refSeries_any k w'
    have e : isSer (k : Int) = true := by unfold isSer; simp; omega
    rwa [e] at this
  have HW1 := hide h1
  obtain ⟨ap, cp, hpf, -⟩ := h1.pts.form
  clear h hA h1 h1d hR hp eq1 hQ hcn
  go_enter Tryz.func50, Tryz.ntmps50
  go_wp2_with (go_at_call 44; refine CA.out.mono ?_; rintro e w2 ⟨rfl, rfl⟩)
  refine wp_region_sch (fun w' => w'.cell? ⟨wb, 5, none⟩ = some (.pointer (some ⟨sb, 0, none⟩)) ∧ w'.cell? ⟨w.heap.size, 1, none⟩ = some (.int .i64 k) ∧ w'.cell? ⟨w.heap.size, 2, none⟩ = some (.int .i64 a) ∧ w'.cell? ⟨w.heap.size, 3, none⟩ = some (.int .i64 b3)) 15
    [(0, true), (1, true), (2, true), (3, true), (4, true), (5, true), (6, true), (7, true), (8, true), (9, true), (10, false), (11, true), (12, true), (13, true), (14, true)] (by kernel_rfl) (by kernel_rfl) (fun _ _ _ _ _ h => h) ⟨c5, o1, o2, o3⟩ ?_
  iterate 10 (refine wpSch_take (v := ?_) rfl (by rfl) ?_ ?_; rotate_left; (· (intro w' hS; (try dsimp only at hS); go_simp; try with_reducible rfl)); (try simp only [Act.put, List.setIfInBounds_toArray, List.set_cons_zero, List.set_cons_succ, List.getElem_toArray, List.getElem_cons_zero, List.getElem_cons_succ]))
  refine wpSch_do rfl (by rfl) (fun K hK => ?_)
  go_simp
  refine QU.out.mono ?_
  rintro e w2 ⟨v, rfl, hv, hc2, hfr⟩
  have k2 : Chg (fun _ => False) w1 w2 := ⟨hc2.os, hc2.tape, hc2.output, hc2.size, hc2.block⟩
  have p1 := k2.cellKeep o1
  have p2 := k2.cellKeep o2
  have p3 := k2.cellKeep o3
  refine hK _ _ ⟨k2.cellKeep c5, p1, p2, p3⟩ (fun hS => ?_)
  have K2 := hide k2
  have HV := hide hv
  have HF : Hid (∀ g, v.ownBlock = some g → w1.heap.size ≤ g) := hfr
  have W2 := hide (HW1.out.chg0 k2)
  clear hK K hS QU hv hc2 hfr k2 c5 c4 o0 o1 o2 o3 hw1 CA
  (try simp only [Act.put, List.setIfInBounds_toArray, List.set_cons_zero, List.set_cons_succ, List.getElem_toArray, List.getElem_cons_zero, List.getElem_cons_succ])
  iterate 4 (refine wpSch_take (v := ?_) rfl (by rfl) ?_ ?_; rotate_left; (· (intro w' hS; (try dsimp only at hS); go_simp; try with_reducible rfl)); (try simp only [Act.put, List.setIfInBounds_toArray, List.set_cons_zero, List.set_cons_succ, List.getElem_toArray, List.getElem_cons_zero, List.getElem_cons_succ]))
  refine wpSch_end ?_
  simp only [List.drop_succ_cons, List.drop_zero]
  go_wp2_with (go_at_call 82; refine (SE.out _).mono ?_; rintro e w6 ⟨rfl, rfl⟩)
  have c6 := W2.out.blk.c6
  rw [hpf] at c6
  have c0 := W2.out.blk.c0
  rw [W2.out.hlf] at c0
  have c10 := W2.out.blk.c10
  rw [hck] at c10
  have RK := hide (RQ.out w2.drew K2.out.drew)
  rw [hpf] at RK
  clear RQ SE
  refine wp_region_sch (fun w' => w'.cell? ⟨wb, 6, none⟩ = some (.slice ap puts.length cp) ∧ w'.cell? ⟨wb, 0, none⟩ = some (.int .i64 life) ∧ w'.cell? ⟨wb, 10, none⟩ = some (.int .i64 clock) ∧ w'.cell? ⟨w.heap.size, 1, none⟩ = some (.int .i64 k) ∧ w'.cell? ⟨w.heap.size, 2, none⟩ = some (.int .i64 a) ∧ w'.cell? ⟨w.heap.size, 3, none⟩ = some (.int .i64 b3)) 25
    [(0, true), (1, true), (2, true), (3, true), (4, true), (5, true), (6, true), (7, true), (8, true), (9, true), (10, true), (11, true), (12, true), (13, true), (14, true), (15, true), (16, true), (17, true), (18, true), (19, true), (20, true), (21, true), (22, true), (23, true), (24, false)] (by kernel_rfl) (by kernel_rfl) (fun _ _ _ _ _ h => h) ⟨c6, c0, c10, p1, p2, p3⟩ ?_
  iterate 24 (refine wpSch_take (v := ?_) rfl (by rfl) ?_ ?_; rotate_left; (· (intro w' hS; (try dsimp only at hS); go_simp; try with_reducible rfl)); (try simp only [Act.put, List.setIfInBounds_toArray, List.set_cons_zero, List.set_cons_succ, List.getElem_toArray, List.getElem_cons_zero, List.getElem_cons_succ]))
  refine wpSch_do rfl (by rfl) (fun K hK => ?_)
  go_simp
  refine RK.out.mono ?_
  rintro e w3 ⟨v2, rfl, hv2, hc3, hfr3⟩
  have k3 : Chg (fun _ => False) w2 w3 := ⟨hc3.os, hc3.tape, hc3.output, hc3.size, hc3.block⟩
  refine hK _ _ ⟨k3.cellKeep c6, k3.cellKeep c0, k3.cellKeep c10, k3.cellKeep p1, k3.cellKeep p2, k3.cellKeep p3⟩ (fun hS => ?_)
  have K3 : Hid (Chg (fun _ => False) w1 w3) := K2.out.trans k3 fun _ h _ => h
  have HV3 : Hid (PtSl w3 v Q) := ownsRow_same HV.out fun g hg => k3.block g (ownsRow_lt HV.out hg) (fun h => h)
  have SM := hide (same_eq w3 v v2 Q HV3.out hv2 (by omega))
  clear hK K hS RK hv2 hc3 hfr3 k3 c6 c0 c10 p1 p2 p3 K2 HV W2
  (try simp only [Act.put, List.setIfInBounds_toArray, List.set_cons_zero, List.set_cons_succ, List.getElem_toArray, List.getElem_cons_zero, List.getElem_cons_succ])
  refine wpSch_end ?_
  simp only [List.drop_succ_cons, List.drop_zero]
  go_wp2_with (go_at_call 84; refine SM.out.mono ?_; rintro e w4 ⟨rfl, k4⟩; have K4 : Hid (Chg (fun _ => False) w1 w4) := K3.out.trans k4 (fun _ h _ => h); have HV4 : Hid (PtSl w4 v Q) := ownsRow_same HV3.out (fun g hg => k4.block g (ownsRow_lt HV3.out hg) (fun h => h)); clear k4)
  have W4 := hide (HW1.out.chg0 K4.out)
  have MI : Hid (Mine w4 H wb n sb jb lv own Ft v Q) := ⟨HV4.out, by omega, fun g hg => by
    have hg1 := HF.out g hg
    exact ⟨Nat.le_trans HW1.out.size hg1, fun hx => by have := HW1.out.wlt hx; omega, fun hx => by have := HW1.out.st.lt hx; omega⟩⟩
  have TK := hide (takes_any w4 v Q W4.out MI.out (by omega) hls)
  clear K3 HV3 HV4 SM MI HF
  refine TK.out.mono ?_
  rintro e w5 ⟨rfl, k5, n', ls', hW, hl5, hck5⟩
  have CA5 := hide (callsU hW.st.jv.dsk)
  rw [HCN.out] at CA5
  have d4 := hW.blk.c4
  rw [hW.hdv] at d4
  have K5 : Hid (Chg (Up H) w w5) := ((HA.out.trans K4.out fun _ h _ => h).mono (S' := Up H) fun _ _ h => h.elim).trans k5 fun _ h _ => h
  have HW := hide hW
  clear TK k5 hW W4 K4 HCN HW1 HA
  go_wp2_with (go_at_call 44; refine CA5.out.mono ?_; rintro e w6 ⟨rfl, rfl⟩)
  go_ret
  exact ⟨rfl, K5.out, n', ls', HW.out, hl5, hck5⟩
set_option maxRecDepth 100000 in
set_option maxHeartbeats 8000000 in
theorem asks_bad (w : World) (k a b3 : Int) (tv : Value) (h : LW w lt H wb n sb jb b life clock lv L own D F Ft N C puts ls) (hk : ¬ (0 ≤ k ∧ k < 8)) (hls : ls.length < 1099511627000) :
    Calls Tryz.prog 50 #[.pointer (some ⟨wb, 0, none⟩), .agg #[.int .i64 3, .int .i64 k, .int .i64 a, .int .i64 b3, tv]] w fun e w' => e = .returned (.bool true) ∧ Chg (Up H) w w' ∧ ∃ n' ls', LW w' lt H wb n' sb jb b life clock lv L own D F Ft N C puts ls' ∧ ls'.length = ls.length + 4 ∧ n'.clock = n.clock := by
  have hA := (Chg.refl (fun _ => False) w).alloc (opObj 3 k a b3 tv)
  obtain ⟨o0, o1, o2, o3⟩ := opObj_at w 3 k a b3 tv
  have h1 := h.chg0 hA
  generalize hw1 : w.alloc (opObj 3 k a b3 tv) = w1 at hA o0 o1 o2 o3 h1
  unfold opObj at hw1
  have c4 := h1.blk.c4
  rw [h1.hdv] at c4
  have c5 := h1.blk.c5
  rw [h1.hsv] at c5
  have CA := hide (callsU h1.st.jv.dsk)
  obtain ⟨cn, hcn⟩ : ∃ cn, D.n.calls = cn := ⟨_, rfl⟩
  rw [hcn] at CA
  have HCN := hide hcn
  have HA := hide hA
  have h1d := h1.chg0 (Chg.refl (fun _ => False) w1).drew
  have QU := hide (query_bad w1.drew k a b3 h1d.st.blk hk)
  have SE : Hid (∀ w', Calls Tryz.prog 82 #[.int .i64 k] w' fun e w2 => e = .returned (.bool false) ∧ w' = w2) := fun w' => by
    have := refSeries_any k w'
    have e : isSer k = false := by unfold isSer; simp; omega
    rwa [e] at this
  have HW1 := hide h1
  clear h hA h1 h1d hcn
  go_enter Tryz.func50, Tryz.ntmps50
  go_wp2_with (go_at_call 44; refine CA.out.mono ?_; rintro e w2 ⟨rfl, rfl⟩)
  refine wp_region_sch (fun w' => w'.cell? ⟨wb, 5, none⟩ = some (.pointer (some ⟨sb, 0, none⟩)) ∧ w'.cell? ⟨w.heap.size, 1, none⟩ = some (.int .i64 k) ∧ w'.cell? ⟨w.heap.size, 2, none⟩ = some (.int .i64 a) ∧ w'.cell? ⟨w.heap.size, 3, none⟩ = some (.int .i64 b3)) 15
    [(0, true), (1, true), (2, true), (3, true), (4, true), (5, true), (6, true), (7, true), (8, true), (9, true), (10, false), (11, true), (12, true), (13, true), (14, true)] (by kernel_rfl) (by kernel_rfl) (fun _ _ _ _ _ h => h) ⟨c5, o1, o2, o3⟩ ?_
  iterate 10 (refine wpSch_take (v := ?_) rfl (by rfl) ?_ ?_; rotate_left; (· (intro w' hS; (try dsimp only at hS); go_simp; try with_reducible rfl)); (try simp only [Act.put, List.setIfInBounds_toArray, List.set_cons_zero, List.set_cons_succ, List.getElem_toArray, List.getElem_cons_zero, List.getElem_cons_succ]))
  refine wpSch_do rfl (by rfl) (fun K hK => ?_)
  go_simp
  refine QU.out.mono ?_
  rintro e w2 ⟨rfl, hc2⟩
  have k2 : Chg (fun _ => False) w1 w2 := ⟨hc2.os, hc2.tape, hc2.output, hc2.size, hc2.block⟩
  have p1 := k2.cellKeep o1
  refine hK _ _ ⟨k2.cellKeep c5, p1, k2.cellKeep o2, k2.cellKeep o3⟩ (fun hS => ?_)
  have K2 := hide k2
  clear hK K hS QU hc2 k2 c5 c4 o0 o1 o2 o3 hw1 CA
  (try simp only [Act.put, List.setIfInBounds_toArray, List.set_cons_zero, List.set_cons_succ, List.getElem_toArray, List.getElem_cons_zero, List.getElem_cons_succ])
  iterate 4 (refine wpSch_take (v := ?_) rfl (by rfl) ?_ ?_; rotate_left; (· (intro w' hS; (try dsimp only at hS); go_simp; try with_reducible rfl)); (try simp only [Act.put, List.setIfInBounds_toArray, List.set_cons_zero, List.set_cons_succ, List.getElem_toArray, List.getElem_cons_zero, List.getElem_cons_succ]))
  refine wpSch_end ?_
  simp only [List.drop_succ_cons, List.drop_zero]
  have W4 := hide (HW1.out.chg0 K2.out)
  have MI : Hid (Mine w2 H wb n sb jb lv own Ft (.slice none 0 0) []) := ⟨World.ownsRow_nil _ _ _ _, by decide, fun g hg => by simp [Value.ownBlock] at hg⟩
  have TK := hide (takes_any w2 (.slice none 0 0) [] W4.out MI.out (by decide) hls)
  go_wp2_with (first
    | (go_at_call 82; refine (SE.out _).mono ?_; rintro e w6 ⟨rfl, rfl⟩))
  clear MI SE
  refine TK.out.mono ?_
  rintro e w5 ⟨rfl, k5, n', ls', hW, hl5, hck5⟩
  have CA5 := hide (callsU hW.st.jv.dsk)
  rw [HCN.out] at CA5
  have d4 := hW.blk.c4
  rw [hW.hdv] at d4
  have K5 : Hid (Chg (Up H) w w5) := ((HA.out.trans K2.out fun _ h _ => h).mono (S' := Up H) fun _ _ h => h.elim).trans k5 fun _ h _ => h
  have HW := hide hW
  clear TK k5 hW W4 K2 HCN HW1 HA
  go_wp2_with (go_at_call 44; refine CA5.out.mono ?_; rintro e w6 ⟨rfl, rfl⟩)
  go_ret
  exact ⟨rfl, K5.out, n', ls', HW.out, hl5, hck5⟩
end
end Go.Proofs.YtfaeidbgdcincaaGreatDoor
