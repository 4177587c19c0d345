/-
  The statement WritesUptoCardSaid is proved: the law Writes answers true at every set and every script within the statement's bounds.
  Part 20 of 23.
-/
import Derived.Test.YtfaeidbgdcincaaGreatDoorPart19
/- Walks: the laws: ticks. -/
namespace Go.Proofs.YtfaeidbgdcincaaGreatDoor
open Go.RowKit
attribute [local go_sem ↓] Go.wp_at_zero Go.wp_at_succ

/-- A step's box. -/
def opObj (kd a b c : Int) (tv : Value) : Obj := .cells #[.int .i64 kd, .int .i64 a, .int .i64 b, .int .i64 c, tv] 34
def OpAt (w : World) (x : Nat) (kd a b c : Int) : Prop := w.cell? ⟨x, 0, none⟩ = some (.int .i64 kd) ∧ w.cell? ⟨x, 1, none⟩ = some (.int .i64 a) ∧ w.cell? ⟨x, 2, none⟩ = some (.int .i64 b) ∧ w.cell? ⟨x, 3, none⟩ = some (.int .i64 c)
theorem opObj_at (w : World) (kd a b c : Int) (tv : Value) : OpAt (w.alloc (opObj kd a b c tv)) w.heap.size kd a b c := by
  have hbx := heap_alloc_new w (.cells #[.int .i64 kd, .int .i64 a, .int .i64 b, .int .i64 c, tv] 34)
  unfold OpAt opObj
  refine ⟨?_, ?_, ?_, ?_⟩ <;> (simp only [World.cell?, hbx]; rfl)
theorem cell_chg {S : Nat → Prop} {w w' : World} (hc : Chg S w w') {x o : Nat} {u : Value} (h : w.cell? ⟨x, o, none⟩ = some u) (hS : ¬ S x) : w'.cell? ⟨x, o, none⟩ = some u := by
  have hb := World.block_lt_of_cell? w _ h
  have hh := hc.block x hb hS
  unfold World.cell? at h ⊢; rw [hh]; exact h
theorem OpAt.chg {S : Nat → Prop} {w w' : World} {x : Nat} {kd a b c : Int} (h : OpAt w x kd a b c) (hc : Chg S w w') (hS : ¬ S x) : OpAt w' x kd a b c :=
  ⟨cell_chg hc h.1 hS, cell_chg hc h.2.1 hS, cell_chg hc h.2.2.1 hS, cell_chg hc h.2.2.2 hS⟩
section
variable {lt : List UInt8} {H wb : Nat} {n : WN} {sb jb b : Nat} {life clock : Int} {lv : Nat → Value} {L : Nat → List Pt} {own : Option (Nat × Nat)} {D : DS} {F : Nat → FC} {Ft : Nat → Prop} {N C : Nat} {puts : List Pu} {ls : List (Value × Int)}
set_option maxRecDepth 100000 in
set_option maxHeartbeats 4000000 in
theorem ticks_bad (w : World) (kd a b3 c3 : Int) (tv : Value) (h : LW w lt H wb n sb jb b life clock lv L own D F Ft N C puts ls) (ha : a < 0) :
    Calls Tryz.prog 51 #[.pointer (some ⟨wb, 0, none⟩), .agg #[.int .i64 kd, .int .i64 a, .int .i64 b3, .int .i64 c3, tv]] w fun e w' => e = .returned (.bool true) ∧ Chg (fun _ => False) w w' := by
  have hA := (Chg.refl (fun _ => False) w).alloc (opObj kd a b3 c3 tv)
  obtain ⟨-, o1, -, -⟩ := opObj_at w kd a b3 c3 tv
  have h1 := h.chg0 hA
  generalize hw1 : w.alloc (opObj kd a b3 c3 tv) = w1 at hA o1 h1
  unfold opObj at hw1
  have c4 := h1.blk.c4
  rw [h1.hdv] at c4
  have c5 := h1.blk.c5
  rw [h1.hsv] at c5
  have CA := hide (callsU h1.st.jv.dsk)
  have TI := hide (tick_bad w1.drew a h1.st.blk ha)
  have CA2 : Hid (∀ w', Chg (fun _ => False) w1 w' → Calls Tryz.prog 44 #[.pointer (some ⟨b, 0, none⟩)] w' fun e w2 => e = .returned (.int .i64 D.n.calls) ∧ w' = w2) := fun w' k => callsU (h1.chg0 k).st.jv.dsk
  obtain ⟨cn, hcn⟩ : ∃ cn, D.n.calls = cn := ⟨_, rfl⟩
  rw [hcn] at CA CA2
  have HA := hide hA
  have HK : Hid (∀ w', Chg (fun _ => False) w1 w' → w'.cell? ⟨wb, 4, none⟩ = some (.pointer (some ⟨b, 0, none⟩))) := fun w' k => k.cellKeep c4
  clear h hA h1 hcn
  go_enter Tryz.func51, Tryz.ntmps51
  go_wp2_with (go_at_call 44; refine CA.out.mono ?_; rintro e w2 ⟨rfl, rfl⟩)
  refine wp_region_sch (fun w' => w'.cell? ⟨wb, 5, none⟩ = some (.pointer (some ⟨sb, 0, none⟩)) ∧ w'.cell? ⟨w.heap.size, 1, none⟩ = some (.int .i64 a)) 7
    [(0, true), (1, true), (2, true), (3, true), (4, true), (5, true), (6, false)] (by kernel_rfl) (by kernel_rfl) (fun _ _ _ _ _ h => h) ⟨c5, o1⟩ ?_
  iterate 6 (refine wpSch_take (v := ?_) rfl (by rfl) ?_ ?_; rotate_left; (· (intro w' hS; (try dsimp only at hS); go_simp; try with_reducible rfl)); (try simp only [Act.put, List.setIfInBounds_toArray, List.set_cons_zero, List.set_cons_succ, List.getElem_toArray, List.getElem_cons_zero, List.getElem_cons_succ]))
  refine wpSch_do rfl (by rfl) (fun K hK => ?_)
  go_simp
  refine TI.out.mono ?_
  rintro e w2 ⟨rfl, k2⟩
  have k2' : Chg (fun _ => False) w1 w2 := ⟨k2.os, k2.tape, k2.output, k2.size, k2.block⟩
  have d5 := k2'.cellKeep c5
  have p1 := k2'.cellKeep o1
  refine hK _ _ ⟨d5, p1⟩ (fun hS => ?_)
  have CAk := hide (CA2.out w2 k2')
  have d4 := HK.out w2 k2'
  have K2 : Hid (Chg (fun _ => False) w w2) := HA.out.trans k2' fun _ h _ => h
  clear hK K hS k2 k2' CA CA2 TI HK c4 c5 o1 hw1
  (try simp only [Act.put, List.setIfInBounds_toArray, List.set_cons_zero, List.set_cons_succ, List.getElem_toArray, List.getElem_cons_zero, List.getElem_cons_succ])
  refine wpSch_end ?_
  simp only [List.drop_succ_cons, List.drop_zero]
  go_wp2_with (go_at_call 44; refine CAk.out.mono ?_; rintro e w3 ⟨rfl, rfl⟩)
  go_ret
  exact ⟨rfl, K2.out⟩
set_option maxRecDepth 100000 in
set_option maxHeartbeats 4000000 in
theorem ticks_ok (w : World) (kd a b3 c3 : Int) (tv : Value) (h : LW w lt H wb n sb jb b life clock lv L own D F Ft N C puts ls) (hck : n.clock = clock) (ha : 0 ≤ a ∧ a ≤ 9223372036854775807) (hl : 1 ≤ life ∧ life ≤ 4611686018427387904) (hc : In64 clock) :
    Calls Tryz.prog 51 #[.pointer (some ⟨wb, 0, none⟩), .agg #[.int .i64 kd, .int .i64 a, .int .i64 b3, .int .i64 c3, tv]] w fun e w' => e = .returned (.bool true) ∧ Chg (Up H) w w' ∧
      ∃ lv' own' D' F' Ft' L', LW w' lt H wb { n with clock := tickedN clock a } sb jb b life (tickedN clock a) lv' L' own' D' F' Ft' N C puts ls ∧ Forgot L L' (oldestN (tickedN clock a) life) := by
  have hA := (Chg.refl (fun _ => False) w).alloc (opObj kd a b3 c3 tv)
  obtain ⟨-, o1, -, -⟩ := opObj_at w kd a b3 c3 tv
  have h1 := h.chg0 hA
  have hwx : w.heap.size < (w.alloc (opObj kd a b3 c3 tv)).heap.size := by simp
  have hlt : ∀ k, SFoot sb jb lv own Ft k → k < w.heap.size := fun k hk => h.st.lt hk
  have hwl := h.blk.lt
  generalize hw1 : w.alloc (opObj kd a b3 c3 tv) = w1 at hA o1 h1 hwx
  unfold opObj at hw1
  have c4 := h1.blk.c4
  rw [h1.hdv] at c4
  have c5 := h1.blk.c5
  rw [h1.hsv] at c5
  have CA := hide (callsU h1.st.jv.dsk)
  have TI : Hid (Calls Tryz.prog 25 #[.pointer (some ⟨sb, 0, none⟩), .int .i64 a] w1.drew fun e w' => e = .returned (.int .i64 0) ∧ Chg (Up H) w1 w' ∧ w'.cell? ⟨wb, 5, none⟩ = some (.pointer (some ⟨sb, 0, none⟩)) ∧ w'.cell? ⟨w.heap.size, 1, none⟩ = some (.int .i64 a) ∧ w'.cell? ⟨wb, 10, none⟩ = some (.int .i64 clock) ∧ w'.frozen? ⟨wb, 10, none⟩ = false ∧
      ∃ lv' own' D' F' Ft' L', LW w' lt H wb n sb jb b life (tickedN clock a) lv' L' own' D' F' Ft' N C puts ls ∧ Forgot L L' (oldestN (tickedN clock a) life)) := by
    have h1d := h1.chg0 (Chg.refl (fun _ => False) w1).drew
    refine (tick_ok w1.drew a h1d.st.blk h1d.st.rows ha hl hc).mono ?_
    rintro e w' ⟨rfl, lv', L', hS, hF⟩
    have hsto := h1d.st.turn hS
    obtain ⟨q1, lv2, own2, D2, F2, Ft2, q2⟩ := h1d.store hsto
    refine ⟨rfl, ⟨q1.os, q1.tape, q1.output, q1.size, q1.block⟩, ?_, ?_, ?_, q2.blk.fz 10, lv2, own2, D2, F2, Ft2, L', q2, hF⟩
    · rw [q2.blk.c5, q2.hsv]
    · exact cell_chg (w := w1.drew) hsto.1 o1 (fun hx => by have := hlt _ hx; omega)
    · rw [q2.blk.c10, hck]
  have TD := hide (ticked_any clock a)
  obtain ⟨cn, hcn⟩ : ∃ cn, D.n.calls = cn := ⟨_, rfl⟩
  rw [hcn] at CA
  have HA := hide hA
  clear h hA h1 hcn hlt
  go_enter Tryz.func51, Tryz.ntmps51
  go_wp2_with (go_at_call 44; refine CA.out.mono ?_; rintro e w2 ⟨rfl, rfl⟩)
  refine wp_region_sch (fun w' => w'.cell? ⟨wb, 5, none⟩ = some (.pointer (some ⟨sb, 0, none⟩)) ∧ w'.cell? ⟨w.heap.size, 1, none⟩ = some (.int .i64 a)) 7
    [(0, true), (1, true), (2, true), (3, true), (4, true), (5, true), (6, false)] (by kernel_rfl) (by kernel_rfl) (fun _ _ _ _ _ h => h) ⟨c5, o1⟩ ?_
  iterate 6 (refine wpSch_take (v := ?_) rfl (by rfl) ?_ ?_; rotate_left; (· (intro w' hS; (try dsimp only at hS); go_simp; try with_reducible rfl)); (try simp only [Act.put, List.setIfInBounds_toArray, List.set_cons_zero, List.set_cons_succ, List.getElem_toArray, List.getElem_cons_zero, List.getElem_cons_succ]))
  refine wpSch_do rfl (by rfl) (fun K hK => ?_)
  go_simp
  refine TI.out.mono ?_
  rintro e w2 ⟨rfl, k2, d5, p1, d10, z10, hR⟩
  refine hK _ _ ⟨d5, p1⟩ (fun hS => ?_)
  have HR := hide hR
  have K2 : Hid (Chg (Up H) w w2) := (HA.out.mono (S' := Up H) fun _ _ h => h.elim).trans k2 fun _ h _ => h
  have TDk := hide (TD.out w2.drew hc ha)
  clear hK K hS k2 CA TI TD c4 c5 o1 hw1 hR HA hwx
  (try simp only [Act.put, List.setIfInBounds_toArray, List.set_cons_zero, List.set_cons_succ, List.getElem_toArray, List.getElem_cons_zero, List.getElem_cons_succ])
  refine wpSch_end ?_
  simp only [List.drop_succ_cons, List.drop_zero]
  obtain ⟨ha1, ha2⟩ := ha
  go_wp2
  refine wp_region_sch (fun w' => w'.cell? ⟨wb, 10, none⟩ = some (.int .i64 clock) ∧ w'.cell? ⟨w.heap.size, 1, none⟩ = some (.int .i64 a)) 8
    [(0, true), (1, true), (2, true), (3, true), (4, true), (5, true), (6, true), (7, false)] (by kernel_rfl) (by kernel_rfl) (fun _ _ _ _ _ h => h) ⟨d10, p1⟩ ?_
  iterate 7 (refine wpSch_take (v := ?_) rfl (by rfl) ?_ ?_; rotate_left; (· (intro w' hS; (try dsimp only at hS); go_simp; try with_reducible rfl)); (try simp only [Act.put, List.setIfInBounds_toArray, List.set_cons_zero, List.set_cons_succ, List.getElem_toArray, List.getElem_cons_zero, List.getElem_cons_succ]))
  refine wpSch_do rfl (by rfl) (fun K hK => ?_)
  go_simp
  refine TDk.out.mono ?_
  rintro e w3 ⟨rfl, rfl⟩
  refine hK _ _ ⟨d10, p1⟩ (fun hS => ?_)
  clear hK K hS TDk
  (try simp only [Act.put, List.setIfInBounds_toArray, List.set_cons_zero, List.set_cons_succ, List.getElem_toArray, List.getElem_cons_zero, List.getElem_cons_succ])
  refine wpSch_end ?_
  simp only [List.drop_succ_cons, List.drop_zero]
  go_wp2
  go_ret
  obtain ⟨lv', own', D', F', Ft', L', q1, q2⟩ := HR.out
  have q1d := q1.chg0 (Chg.refl (fun _ => False) w2).drew
  obtain ⟨r1, r2⟩ := q1d.cell 10 (.int .i64 (tickedN clock a)) (q1d.blk.s10 (tickedN clock a)) rfl rfl q1d.hbr rfl rfl rfl rfl
  exact ⟨rfl, K2.out.drew.trans r1 (fun _ h _ => h), lv', own', D', F', Ft', L', r2, q2⟩
end
end Go.Proofs.YtfaeidbgdcincaaGreatDoor
/- The laws' world: another point that was put, another list that came out. No walk. -/
namespace Go.Proofs.YtfaeidbgdcincaaGreatDoor
open Go.RowKit

section
variable {w w' : World} {lt : List UInt8} {H wb : Nat} {n : WN} {sb jb b : Nat} {life clock : Int} {lv : Nat → Value} {L : Nat → List Pt} {own : Option (Nat × Nat)} {D : DS} {F : Nat → FC} {Ft : Nat → Prop} {N C : Nat} {puts : List Pu} {ls : List (Value × Int)}
theorem LW.other {S : Nat → Prop} (h : LW w lt H wb n sb jb b life clock lv L own D F Ft N C puts ls) (hc : Chg S w w') (h1 : ∀ k, WFoot wb n k → ¬ S k) (h2 : ∀ k, SFoot sb jb lv own Ft k → ¬ S k) : LW w' lt H wb n sb jb b life clock lv L own D F Ft N C puts ls :=
  ⟨h.blk.chg hc (h1 wb (.inl rfl)), h.hdv, h.hsv, h.hbr, h.hlf, h.hrm, h.st.chg hc h2, ownsRow_same h.pts fun g hg => hc.block g (ownsRow_lt h.pts hg) (h1 g (.inr (.inl hg))), ownsRow_same h.lst fun g hg => hc.block g (ownsRow_lt h.lst hg) (h1 g (.inr (.inr hg))), h.nw, h.upw, h.ups⟩
theorem LW.wne_p (h : LW w lt H wb n sb jb b life clock lv L own D F Ft N C puts ls) : n.pv.ownBlock ≠ some wb := fun e => by
  obtain ⟨c, hh⟩ := ownsRow_elem h.pts e
  have := h.blk; unfold WBlk at this
  rw [hh] at this; cases this
theorem LW.wne_l (h : LW w lt H wb n sb jb b life clock lv L own D F Ft N C puts ls) : n.lv.ownBlock ≠ some wb := fun e => by
  obtain ⟨c, hh⟩ := ownsRow_elem h.lst e
  have := h.blk; unfold WBlk at this
  rw [hh] at this; cases this
theorem LW.pne_l (h : LW w lt H wb n sb jb b life clock lv L own D F Ft N C puts ls) {g : Nat} (hp : n.pv.ownBlock = some g) : n.lv.ownBlock ≠ some g := fun e => by
  obtain ⟨c, hh⟩ := ownsRow_elem h.lst e
  obtain ⟨c', hh'⟩ := ownsRow_elem h.pts hp
  rw [hh] at hh'; cases hh'
theorem App.chgOwn {e size : Nat} {v v' : Value} {n : Nat} {xs : List Value} (h : App w w' e size v v' n xs) : Chg (fun k => v.ownBlock = some k) w w' := (Chg.refl _ w).grown h.grown fun _ e _ => e
theorem LW.ptsApp {v' : Value} {p : Pu} (h : LW w lt H wb n sb jb b life clock lv L own D F Ft N C puts ls) (hA : App w w' 135 3 n.pv v' (puts.length + 1) (puVals puts ++ puVals [p])) :
    w'.cell? ⟨wb, 6, none⟩ = some n.pv ∧ w'.frozen? ⟨wb, 6, none⟩ = false ∧ Chg (Up H) w (w'.setCell ⟨wb, 6, none⟩ v') ∧ LW (w'.setCell ⟨wb, 6, none⟩ v') lt H wb { n with pv := v' } sb jb b life clock lv L own D F Ft N C (puts ++ [p]) ls := by
  have hc := hA.chgOwn
  have hwb : WBlk w' wb n := h.blk.chg hc h.wne_p
  have hc2 := (Chg.refl (One wb) w').setAt (b := wb) rfl 6 v'
  have hst : StV w' (nameL lt 1) sb jb b 0 life clock lv L own D F Ft N C := h.st.chg hc fun k hk e => h.nw k (.inr (.inl e)) hk
  have hls : LiSl w' n.lv ls := ownsRow_same h.lst fun g hg => hc.block g (ownsRow_lt h.lst hg) fun e => h.pne_l e hg
  have hown : PuSl w' v' (puts ++ [p]) := by
    unfold PuSl
    have := hA.own
    rw [← puVals_append] at this
    simpa using this
  have hvw : v'.ownBlock ≠ some wb := fun e => by
    obtain ⟨c, hh⟩ := ownsRow_elem hown e
    unfold WBlk at hwb; rw [hh] at hwb; cases hwb
  have hsz := h.size
  have hH : ∀ g, v'.ownBlock = some g → H ≤ g ∧ ¬ SFoot sb jb lv own Ft g := fun g hg => by
    rcases hA.at_ with e | e
    · rw [e] at hg; exact ⟨h.upw g (.inr (.inl hg)), h.nw g (.inr (.inl hg))⟩
    · rw [e] at hg; cases hg
      exact ⟨hsz, fun hx => by have := h.st.lt hx; omega⟩
  refine ⟨hwb.c6, hwb.fz 6, (hc.mono fun x _ e => h.upw x (.inr (.inl e))).setAt (h.upw wb (.inl rfl)) 6 _, ⟨hwb.s6 v', h.hdv, h.hsv, h.hbr, h.hlf, h.hrm, hst.chg hc2 (fun k hk e => h.nw wb (.inl rfl) (by cases e; exact hk)), ?_, ?_, ?_, ?_, h.ups⟩⟩
  · exact ownsRow_same hown fun g hg => Below.heap_setCell _ _ _ _ fun e => hvw (by rw [hg]; congr 1)
  · exact ownsRow_same hls fun g hg => Below.heap_setCell _ _ _ _ fun e => h.wne_l (by rw [hg]; congr 1)
  · rintro k (rfl | hk | hk)
    · exact h.nw _ (.inl rfl)
    · exact (hH k hk).2
    · exact h.nw k (.inr (.inr hk))
  · rintro k (rfl | hk | hk)
    · exact h.upw _ (.inl rfl)
    · exact (hH k hk).1
    · exact h.upw k (.inr (.inr hk))
theorem LW.lstApp {v' : Value} {p : Value × Int} (h : LW w lt H wb n sb jb b life clock lv L own D F Ft N C puts ls) (hA : App w w' 87 2 n.lv v' (ls.length + 1) (lsVals ls ++ lsVals [p])) :
    w'.cell? ⟨wb, 14, none⟩ = some n.lv ∧ w'.frozen? ⟨wb, 14, none⟩ = false ∧ Chg (fun k => k = wb ∨ n.lv.ownBlock = some k) w (w'.setCell ⟨wb, 14, none⟩ v') ∧ LW (w'.setCell ⟨wb, 14, none⟩ v') lt H wb { n with lv := v' } sb jb b life clock lv L own D F Ft N C puts (ls ++ [p]) ∧ (v'.ownBlock = n.lv.ownBlock ∨ v'.ownBlock = some w.heap.size) := by
  have hc := hA.chgOwn
  have hwb : WBlk w' wb n := h.blk.chg hc h.wne_l
  have hc2 := (Chg.refl (One wb) w').setAt (b := wb) rfl 14 v'
  have hst : StV w' (nameL lt 1) sb jb b 0 life clock lv L own D F Ft N C := h.st.chg hc fun k hk e => h.nw k (.inr (.inr e)) hk
  have hps : PuSl w' n.pv puts := ownsRow_same h.pts fun g hg => hc.block g (ownsRow_lt h.pts hg) fun e => h.pne_l hg e
  have hown : LiSl w' v' (ls ++ [p]) := by
    unfold LiSl
    have := hA.own
    rw [← lsVals_append] at this
    simpa using this
  have hvw : v'.ownBlock ≠ some wb := fun e => by
    obtain ⟨c, hh⟩ := ownsRow_elem hown e
    unfold WBlk at hwb; rw [hh] at hwb; cases hwb
  have hsz := h.size
  have hH : ∀ g, v'.ownBlock = some g → H ≤ g ∧ ¬ SFoot sb jb lv own Ft g := fun g hg => by
    rcases hA.at_ with e | e
    · rw [e] at hg; exact ⟨h.upw g (.inr (.inr hg)), h.nw g (.inr (.inr hg))⟩
    · rw [e] at hg; cases hg
      exact ⟨hsz, fun hx => by have := h.st.lt hx; omega⟩
  refine ⟨hwb.c14, hwb.fz 14, (hc.mono (S' := fun k => k = wb ∨ n.lv.ownBlock = some k) fun x _ e => .inr e).setAt (.inl rfl) 14 _, ⟨hwb.s14 v', h.hdv, h.hsv, h.hbr, h.hlf, h.hrm, hst.chg hc2 (fun k hk e => h.nw wb (.inl rfl) (by cases e; exact hk)), ?_, ?_, ?_, ?_, h.ups⟩, hA.at_⟩
  · exact ownsRow_same hps fun g hg => Below.heap_setCell _ _ _ _ fun e => h.wne_p (by rw [hg]; congr 1)
  · exact ownsRow_same hown fun g hg => Below.heap_setCell _ _ _ _ fun e => hvw (by rw [hg]; congr 1)
  · rintro k (rfl | hk | hk)
    · exact h.nw _ (.inl rfl)
    · exact h.nw k (.inr (.inl hk))
    · exact (hH k hk).2
  · rintro k (rfl | hk | hk)
    · exact h.upw _ (.inl rfl)
    · exact h.upw k (.inr (.inl hk))
    · exact (hH k hk).1
end
end Go.Proofs.YtfaeidbgdcincaaGreatDoor
/- Walks: the laws: writes. -/
namespace Go.Proofs.YtfaeidbgdcincaaGreatDoor
open Go.RowKit
attribute [local go_sem ↓] Go.wp_at_zero Go.wp_at_succ

theorem Tryz.infoPut3 : (Tryz.prog.info? 135).map (fun i => (i.zero, i.size, i.bytes)) = some (some (.agg #[.int .i64 0, .int .i64 0, .int .i64 0]), 3, 24) := by kernel_rfl
section
variable {lt : List UInt8} {H wb : Nat} {n : WN} {sb jb b : Nat} {life clock : Int} {lv : Nat → Value} {L : Nat → List Pt} {own : Option (Nat × Nat)} {D : DS} {F : Nat → FC} {Ft : Nat → Prop} {N C : Nat} {puts : List Pu} {ls : List (Value × Int)}
set_option maxRecDepth 100000 in
set_option maxHeartbeats 8000000 in
theorem writes_ok {B : Nat} {k : Nat} (w : World) (kd t v : Int) (tv : Value) (h : LW w lt H wb n sb jb b life clock lv L own D F Ft N C puts ls) (hL : Lets B w lt) (hBH : B ≤ H) (hnum : NumOk 1) (hne : nameL lt 1 ≠ []) (hk : k < 8) (hsm : (L k).length < 1099511627000)
    (hpl : puts.length < 1099511627776) (hl : 1 ≤ life ∧ life ≤ 4611686018427387904) (hc : In64 clock) (ht : In64 t) (hv : In64 v) (hN : N + 400 ≤ 1099511627776 ∧ (N + 400 ≤ 5000 ∨ 5000 < N)) (hC : C + 200 ≤ 4611686018427387904) :
    Calls Tryz.prog 49 #[.pointer (some ⟨wb, 0, none⟩), .agg #[.int .i64 kd, .int .i64 k, .int .i64 t, .int .i64 v, tv]] w fun e w' => e = .returned (.bool true) ∧ Chg (Up H) w w' ∧
      ∃ pv' lv' own' D' F' Ft', LW w' lt H wb { n with pv := pv' } sb jb b life clock lv' (keptL L (oldestN clock life) k t v) own' D' F' Ft' (N + 33) (C + 3) (puts ++ [((k : Int), t, v)]) ls := by
  have hA := (Chg.refl (fun _ => False) w).alloc (opObj kd k t v tv)
  obtain ⟨-, o1, o2, o3⟩ := opObj_at w kd k t v tv
  have h1 := h.chg0 hA
  have hL1 := hL.keep0 hA
  have hwl := h.blk.lt
  have hlt : ∀ k, SFoot sb jb lv own Ft k → k < w.heap.size := fun k hk => h.st.lt hk
  have hw1s : w.heap.size < (w.alloc (opObj kd k t v tv)).heap.size := by simp
  generalize hw1 : w.alloc (opObj kd k t v tv) = w1 at hA o1 o2 o3 h1 hL1 hw1s
  unfold opObj at hw1
  have MK := hide (marks_any w1 h1.blk h1.hdv h1.st.jv.dsk h1.st.jv.ftl)
  rw [h1.st.jv.calm.refused, h1.st.jv.calm.fulls] at MK
  have HA := hide hA
  have H1 := hide h1
  have HL1 := hide hL1
  have HLT := hide hlt
  have HPL : Hid (∀ g, n.pv.ownBlock = some g → g < w.heap.size) := fun g hg => ownsRow_lt h.pts hg
  clear h hL hA h1 hL1 hlt
  go_enter Tryz.func49, Tryz.ntmps49
  go_wp2_with (fail)
  refine MK.out.mono ?_
  rintro e w2 ⟨rfl, k2⟩
  have v4 : (w2.alloc (.cells #[.int .i64 0, .int .i64 0] 81)).cell? ⟨wb, 4, none⟩ = some (.pointer (some ⟨b, 0, none⟩)) := ((H1.out.chg0 (k2.alloc _)).blk.c4).trans (by rw [H1.out.hdv])
  clear MK hw1
  go_wp2_with (fail)
  have k3 : Chg (fun _ => False) w1 (w2.alloc (.cells #[.int .i64 0, .int .i64 0] 81)) := k2.alloc _
  have hbx := heap_alloc_new w2 (.cells #[.int .i64 0, .int .i64 0] 81)
  have m0 : (w2.alloc (.cells #[.int .i64 0, .int .i64 0] 81)).cell? ⟨w2.heap.size, 0, none⟩ = some (.int .i64 0) := by simp only [World.cell?, hbx]; rfl
  have HM : Hid (w1.heap.size ≤ w2.heap.size) := k2.size
  generalize w2.alloc (.cells #[.int .i64 0, .int .i64 0] 81) = w3 at k3 m0 v4 ⊢
  have H3 := hide (H1.out.chg0 k3)
  have HL3 := hide (HL1.out.keep0 k3)
  have K3 : Hid (Chg (fun _ => False) w w3) := HA.out.trans k3 fun _ h _ => h
  have p1 := k3.cellKeep o1
  have p2 := k3.cellKeep o2
  have p3 := k3.cellKeep o3
  have CA := hide (callsU H3.out.st.jv.dsk)
  obtain ⟨cn, hcn⟩ : ∃ cn, D.n.calls = cn := ⟨_, rfl⟩
  rw [hcn] at CA
  clear k2 k3 hbx H1 HL1 o1 o2 o3 hcn HA
  refine CA.out.mono ?_
  rintro e w4 ⟨rfl, rfl⟩
  have c2 := H3.out.blk.c2
  rw [H3.out.hrm] at c2
  have RM := hide (room_neg w3.drew (-1) (by decide))
  have US := hide (usedU H3.out.st.jv.dsk.drew (by have := H3.out.st.jv.calm.used; omega))
  clear CA
  go_wp2
  refine wp_region_sch (fun w' => w'.cell? ⟨wb, 2, none⟩ = some (.int .i64 (-1)) ∧ w'.cell? ⟨wb, 4, none⟩ = some (.pointer (some ⟨b, 0, none⟩))) 12
    [(0, true), (1, true), (2, true), (3, true), (4, true), (6, true), (7, true), (8, true), (9, true), (5, false), (10, false), (11, true)] (by kernel_rfl) (by kernel_rfl) (fun _ _ _ _ _ h => h) ⟨c2, v4⟩ ?_
  iterate 9 (refine wpSch_take (v := ?_) rfl (by rfl) ?_ ?_; rotate_left; (· (intro w' hS; (try dsimp only at hS); go_simp; try with_reducible rfl)); (try simp only [Act.put, List.setIfInBounds_toArray, List.set_cons_zero, List.set_cons_succ, List.getElem_toArray, List.getElem_cons_zero, List.getElem_cons_succ]))
  refine wpSch_do rfl (by rfl) (fun K hK => ?_)
  go_simp
  refine RM.out.mono ?_
  rintro e w4 ⟨rfl, rfl⟩
  refine hK _ _ ⟨c2, v4⟩ (fun hS => ?_)
  clear hK K hS RM
  (try simp only [Act.put, List.setIfInBounds_toArray, List.set_cons_zero, List.set_cons_succ, List.getElem_toArray, List.getElem_cons_zero, List.getElem_cons_succ])
  refine wpSch_do rfl (by rfl) (fun K hK => ?_)
  go_simp
  refine US.out.mono ?_
  rintro e w4 ⟨rfl, k4⟩
  have k4' : Chg (fun _ => False) w3 w4 := ⟨k4.os, k4.tape, k4.output, k4.size, k4.block⟩
  refine hK _ _ ⟨k4'.cellKeep c2, k4'.cellKeep v4⟩ (fun hS => ?_)
  have H4 := hide (H3.out.chg0 k4')
  have HL4 := hide (HL3.out.keep0 k4')
  have K4 : Hid (Chg (fun _ => False) w w4) := K3.out.trans k4' fun _ h _ => h
  have q1 := k4'.cellKeep p1
  have q2 := k4'.cellKeep p2
  have q3 := k4'.cellKeep p3
  have n0 := k4'.cellKeep m0
  clear hK K hS US k4 k4' p1 p2 p3 m0 c2 v4 H3 HL3 K3
  (try simp only [Act.put, List.setIfInBounds_toArray, List.set_cons_zero, List.set_cons_succ, List.getElem_toArray, List.getElem_cons_zero, List.getElem_cons_succ])
  (refine wpSch_take (v := ?_) rfl (by rfl) ?_ ?_; rotate_left; (· (intro w' hS; (try dsimp only at hS); go_simp; try with_reducible rfl)); (try simp only [Act.put, List.setIfInBounds_toArray, List.set_cons_zero, List.set_cons_succ, List.getElem_toArray, List.getElem_cons_zero, List.getElem_cons_succ]))
  refine wpSch_end ?_
  simp only [List.drop_succ_cons, List.drop_zero]
  go_wp2
  have PU : Hid (Calls Tryz.prog 21 #[.pointer (some ⟨sb, 0, none⟩), .int .i64 k, .int .i64 t, .int .i64 v] w4.drew fun e w' => e = .returned (.int .i64 0) ∧ Chg (Up H) w4 w' ∧ w'.cell? ⟨wb, 5, none⟩ = some (.pointer (some ⟨sb, 0, none⟩)) ∧ w'.cell? ⟨w.heap.size, 1, none⟩ = some (.int .i64 k) ∧ w'.cell? ⟨w.heap.size, 2, none⟩ = some (.int .i64 t) ∧ w'.cell? ⟨w.heap.size, 3, none⟩ = some (.int .i64 v) ∧
      w'.cell? ⟨w2.heap.size, 0, none⟩ = some (.int .i64 0) ∧ ∃ lv' own' D' F' Ft', LW w' lt H wb n sb jb b life clock lv' (keptL L (oldestN clock life) k t v) own' D' F' Ft' (N + 33) (C + 3) puts ls) := by
    have h4d := H4.out.chg0 (Chg.refl (fun _ => False) w4).drew
    have hsb : B ≤ sb := Nat.le_trans hBH (h4d.ups sb (.inl (.inl rfl)))
    refine (put_calm h4d.st (HL4.out.keep0 (Chg.refl (fun _ => False) w4).drew) hsb hnum hne t v hk hsm hl hc ht hv hN hC).mono ?_
    rintro e w' ⟨rfl, hS⟩
    obtain ⟨r1, lv2, own2, D2, F2, Ft2, r2⟩ := h4d.store hS
    have nb : ∀ x, w.heap.size ≤ x → ¬ SFoot sb jb lv own Ft x := fun x hx hy => by have := HLT.out x hy; omega
    have hm : w.heap.size ≤ w2.heap.size := by have := HM.out; omega
    exact ⟨rfl, ⟨r1.os, r1.tape, r1.output, r1.size, r1.block⟩, by rw [r2.blk.c5, r2.hsv], cell_chg (w := w4.drew) hS.1 q1 (nb _ (Nat.le_refl _)), cell_chg (w := w4.drew) hS.1 q2 (nb _ (Nat.le_refl _)), cell_chg (w := w4.drew) hS.1 q3 (nb _ (Nat.le_refl _)), cell_chg (w := w4.drew) hS.1 n0 (nb _ hm), lv2, own2, D2, F2, Ft2, r2⟩
  have c5 := H4.out.blk.c5
  rw [H4.out.hsv] at c5
  clear H4 HL4
  refine wp_region_sch (fun w' => w'.cell? ⟨wb, 5, none⟩ = some (.pointer (some ⟨sb, 0, none⟩)) ∧ w'.cell? ⟨w.heap.size, 1, none⟩ = some (.int .i64 k) ∧ w'.cell? ⟨w.heap.size, 2, none⟩ = some (.int .i64 t) ∧ w'.cell? ⟨w.heap.size, 3, none⟩ = some (.int .i64 v)) 11
    [(0, true), (1, true), (2, true), (3, true), (4, true), (5, true), (6, true), (7, true), (8, true), (9, true), (10, false)] (by kernel_rfl) (by kernel_rfl) (fun _ _ _ _ _ h => h) ⟨c5, q1, q2, q3⟩ ?_
  iterate 10 (refine wpSch_take (v := ?_) rfl (by rfl) ?_ ?_; rotate_left; (· (intro w' hS; (try dsimp only at hS); go_simp; try with_reducible rfl)); (try simp only [Act.put, List.setIfInBounds_toArray, List.set_cons_zero, List.set_cons_succ, List.getElem_toArray, List.getElem_cons_zero, List.getElem_cons_succ]))
  refine wpSch_do rfl (by rfl) (fun K hK => ?_)
  go_simp
  refine PU.out.mono ?_
  rintro e w5 ⟨rfl, k5, d5, r1, r2, r3, m5, hR⟩
  refine hK _ _ ⟨d5, r1, r2, r3⟩ (fun hS => ?_)
  have K5 : Hid (Chg (Up H) w w5) := (K4.out.mono (S' := Up H) fun _ _ h => h.elim).trans k5 fun _ h _ => h
  obtain ⟨lv', own', D', F', Ft', hR⟩ := hR
  have H5 := hide hR
  have d9 := hR.blk.c9
  rw [hR.hbr] at d9
  have d6 := hR.blk.c6
  clear hK K hS k5 PU q1 q2 q3 n0 c5 K4 d5
  (try simp only [Act.put, List.setIfInBounds_toArray, List.set_cons_zero, List.set_cons_succ, List.getElem_toArray, List.getElem_cons_zero, List.getElem_cons_succ])
  refine wpSch_end ?_
  simp only [List.drop_succ_cons, List.drop_zero]
  have SE : Hid (∀ w', Calls Tryz.prog 82 #[.int .i64 k] w' fun e w2 => e = .returned (.bool true) ∧ w' = w2) := fun w' => by
    have := refSeries_any k w'
    have e : isSer (k : Int) = true := by unfold isSer; simp; omega
    rwa [e] at this
  obtain ⟨ap, cp, hpf, hp1, hp2, -⟩ := hR.pts.form
  rw [hpf] at d6
  clear hR
  go_wp2_with (go_at_call 82; refine (SE.out _).mono ?_; rintro e w6 ⟨rfl, rfl⟩)
  clear SE
  obtain ⟨i0, hi, hz0, hz1, hz2⟩ := info_parts Tryz.infoPut3
  -- the literal's block
  have k6 : Chg (fun _ => False) w5 (w5.alloc (.cells #[.int .i64 k, .int .i64 t, .int .i64 v] 135)).drew := ((Chg.refl (fun _ => False) w5).alloc _).drew
  have H6 := hide (H5.out.chg0 k6)
  have hp6 : PuSl (w5.alloc (.cells #[.int .i64 k, .int .i64 t, .int .i64 v] 135)).drew (.slice ap puts.length cp) puts := by
    have := H6.out.pts; rwa [hpf] at this
  have HP6 := hide hp6
  have SR : Hid (Src Tryz.prog 3 37 (.slice (some ⟨w5.heap.size, 0, none⟩) 1 1) 1 (puVals [((k : Int), t, v)]) (w5.alloc (.cells #[.int .i64 k, .int .i64 t, .int .i64 v] 135)).drew) :=
    Src.ofBlock (w := (w5.alloc (.cells #[.int .i64 k, .int .i64 t, .int .i64 v] 135)).drew) (cs := #[.int .i64 k, .int .i64 t, .int .i64 v]) Tryz.underlying37 (heap_alloc_new w5 _) 1 1 rfl (puVals_oneCell [((k : Int), t, v)])
  have FIN : Hid (∀ w7 v', App (w5.alloc (.cells #[.int .i64 k, .int .i64 t, .int .i64 v] 135)).drew w7 135 3 (.slice ap puts.length cp) v' (puts.length + 1) (puVals puts ++ puVals [((k : Int), t, v)]) →
      w7.cell? ⟨wb, 6, none⟩ = some (.slice ap puts.length cp) ∧ w7.frozen? ⟨wb, 6, none⟩ = false ∧ Chg (Up H) w5 (w7.setCell ⟨wb, 6, none⟩ v') ∧ LW (w7.setCell ⟨wb, 6, none⟩ v') lt H wb { n with pv := v' } sb jb b life clock lv' (keptL L (oldestN clock life) k t v) own' D' F' Ft' (N + 33) (C + 3) (puts ++ [((k : Int), t, v)]) ls ∧
      (∀ x, w.heap.size ≤ x → ∀ o u, w5.cell? ⟨x, o, none⟩ = some u → w7.cell? ⟨x, o, none⟩ = some u ∧ (w7.setCell ⟨wb, 6, none⟩ v').cell? ⟨x, o, none⟩ = some u)) := fun w7 v' hA => by
    rw [← hpf] at hA
    obtain ⟨a1, a2, a3, a4⟩ := H6.out.ptsApp hA
    rw [hpf] at a1
    refine ⟨a1, a2, (k6.mono (S' := Up H) fun _ _ h => h.elim).trans a3 fun _ h _ => h, a4, fun x hx o u hu => ?_⟩
    have q := cell_chg hA.chgOwn (k6.cellKeep hu) (fun e => by have := HPL.out x e; omega)
    exact ⟨q, (World.cell?_setCell_other _ _ _ _ (by simp; try omega)).trans q⟩
  clear hp6 k6
  refine wp_region_sch (fun w' => w'.cell? ⟨wb, 6, none⟩ = some (.slice ap puts.length cp) ∧ w'.cell? ⟨w.heap.size, 1, none⟩ = some (.int .i64 k) ∧ w'.cell? ⟨w.heap.size, 2, none⟩ = some (.int .i64 t) ∧ w'.cell? ⟨w.heap.size, 3, none⟩ = some (.int .i64 v)) 14
    [(0, true), (1, true), (2, true), (3, true), (4, true), (5, true), (6, true), (7, true), (8, true), (9, true), (10, true), (11, true), (12, false), (13, false)] (by kernel_rfl) (by kernel_rfl) (fun _ _ _ _ _ h => h) ⟨d6, r1, r2, r3⟩ ?_
  iterate 12 (refine wpSch_take (v := ?_) rfl (by rfl) ?_ ?_; rotate_left; (· (intro w' hS; (try dsimp only at hS); go_simp; try with_reducible rfl)); (try simp only [Act.put, List.setIfInBounds_toArray, List.set_cons_zero, List.set_cons_succ, List.getElem_toArray, List.getElem_cons_zero, List.getElem_cons_succ]))
  refine wpSch_do rfl (by rfl) (fun K hK => ?_)
  go_simp
  have k6c : Chg (fun _ => False) w5 (w5.alloc (.cells #[.int .i64 k, .int .i64 t, .int .i64 v] 135)).drew := ((Chg.refl (fun _ => False) w5).alloc _).drew
  refine hK _ _ ⟨k6c.cellKeep d6, k6c.cellKeep r1, k6c.cellKeep r2, k6c.cellKeep r3⟩ (fun hS => ?_)
  clear hK K hS k6c
  (try simp only [Act.put, List.setIfInBounds_toArray, List.set_cons_zero, List.set_cons_succ, List.getElem_toArray, List.getElem_cons_zero, List.getElem_cons_succ])
  refine wpSch_do rfl (by rfl) (fun K hK => ?_)
  refine wp_app (.tmp 83) (.tmp 91) 37 37 rfl 135 i0 _ 3 24 Tryz.underlying37 hi hz0 hz1 hz2 rfl (by decide) (.slice ap puts.length cp) puts.length (puVals puts) (by rfl) HP6.out _ 1 _ (by rfl) SR.out (by omega) ?_
  intro b7 cap7 w7 hA
  obtain ⟨y6, z6, k8, h8, hbox⟩ := FIN.out w7 _ hA
  refine hK _ _ ⟨y6, (hbox _ (Nat.le_refl _) 1 _ r1).1, (hbox _ (Nat.le_refl _) 2 _ r2).1, (hbox _ (Nat.le_refl _) 3 _ r3).1⟩ (fun hS => ?_)
  have m8 := (hbox w2.heap.size (by have := HM.out; omega) 0 _ m5).2
  have H8 := hide h8
  have K8 : Hid (Chg (Up H) w (w7.setCell ⟨wb, 6, none⟩ (.slice b7 (puts.length + 1) cap7))) := K5.out.trans k8 fun _ h _ => h
  have e4 : (w7.setCell ⟨wb, 6, none⟩ (.slice b7 (puts.length + 1) cap7)).cell? ⟨wb, 4, none⟩ = some (.pointer (some ⟨b, 0, none⟩)) := by
    rw [h8.blk.c4]; exact congrArg some h8.hdv
  clear hK K hS hA FIN k8 h8 hbox r1 r2 r3 m5 SR HP6 H6 H5 K5 d6
  (try simp only [Act.put, List.setIfInBounds_toArray, List.set_cons_zero, List.set_cons_succ, List.getElem_toArray, List.getElem_cons_zero, List.getElem_cons_succ])
  refine wpSch_end ?_
  simp only [List.drop_succ_cons, List.drop_zero]
  go_wp2
  generalize (w7.setCell ⟨wb, 6, none⟩ (.slice b7 (puts.length + 1) cap7)) = w8 at m8 H8 K8 e4 ⊢
  have RF := hide (refusedU H8.out.st.jv.dsk.drew)
  rw [H8.out.st.jv.calm.refused] at RF
  refine wp_region_sch (fun w' => w'.cell? ⟨wb, 4, none⟩ = some (.pointer (some ⟨b, 0, none⟩)) ∧ w'.cell? ⟨w2.heap.size, 0, none⟩ = some (.int .i64 0)) 7
    [(0, true), (1, true), (2, true), (3, true), (5, true), (6, true), (4, false)] (by kernel_rfl) (by kernel_rfl) (fun _ _ _ _ _ h => h) ⟨e4, m8⟩ ?_
  iterate 6 (refine wpSch_take (v := ?_) rfl (by rfl) ?_ ?_; rotate_left; (· (intro w' hS; (try dsimp only at hS); go_simp; try with_reducible rfl)); (try simp only [Act.put, List.setIfInBounds_toArray, List.set_cons_zero, List.set_cons_succ, List.getElem_toArray, List.getElem_cons_zero, List.getElem_cons_succ]))
  refine wpSch_do rfl (by rfl) (fun K hK => ?_)
  go_simp
  refine RF.out.mono ?_
  rintro e w9 ⟨rfl, rfl⟩
  refine hK _ _ ⟨e4, m8⟩ (fun hS => ?_)
  clear hK K hS RF
  (try simp only [Act.put, List.setIfInBounds_toArray, List.set_cons_zero, List.set_cons_succ, List.getElem_toArray, List.getElem_cons_zero, List.getElem_cons_succ])
  refine wpSch_end ?_
  simp only [List.drop_succ_cons, List.drop_zero]
  go_wp2
  go_ret
  exact ⟨rfl, K8.out.drew, _, lv', own', D', F', Ft', H8.out.chg0 (Chg.refl (fun _ => False) w8).drew⟩
set_option maxRecDepth 100000 in
set_option maxHeartbeats 8000000 in
theorem writes_bad (w : World) (kd k t v : Int) (tv : Value) (h : LW w lt H wb n sb jb b life clock lv L own D F Ft N C puts ls) (hk : ¬ (0 ≤ k ∧ k < 8)) (hN : N ≤ 1099511627776) :
    Calls Tryz.prog 49 #[.pointer (some ⟨wb, 0, none⟩), .agg #[.int .i64 kd, .int .i64 k, .int .i64 t, .int .i64 v, tv]] w fun e w' => e = .returned (.bool true) ∧ Chg (fun _ => False) w w' := by
  have hA := (Chg.refl (fun _ => False) w).alloc (opObj kd k t v tv)
  obtain ⟨-, o1, o2, o3⟩ := opObj_at w kd k t v tv
  have h1 := h.chg0 hA
  generalize hw1 : w.alloc (opObj kd k t v tv) = w1 at hA o1 o2 o3 h1
  unfold opObj at hw1
  have MK := hide (marks_any w1 h1.blk h1.hdv h1.st.jv.dsk h1.st.jv.ftl)
  rw [h1.st.jv.calm.refused, h1.st.jv.calm.fulls] at MK
  have HA := hide hA
  have H1 := hide h1
  clear h hA h1
  go_enter Tryz.func49, Tryz.ntmps49
  go_wp2_with (fail)
  refine MK.out.mono ?_
  rintro e w2 ⟨rfl, k2⟩
  have v4 : (w2.alloc (.cells #[.int .i64 0, .int .i64 0] 81)).cell? ⟨wb, 4, none⟩ = some (.pointer (some ⟨b, 0, none⟩)) := ((H1.out.chg0 (k2.alloc _)).blk.c4).trans (by rw [H1.out.hdv])
  clear MK hw1
  go_wp2_with (fail)
  have k3 : Chg (fun _ => False) w1 (w2.alloc (.cells #[.int .i64 0, .int .i64 0] 81)) := k2.alloc _
  generalize w2.alloc (.cells #[.int .i64 0, .int .i64 0] 81) = w3 at k3 v4 ⊢
  have H3 := hide (H1.out.chg0 k3)
  have K3 : Hid (Chg (fun _ => False) w w3) := HA.out.trans k3 fun _ h _ => h
  have p1 := k3.cellKeep o1
  have p2 := k3.cellKeep o2
  have p3 := k3.cellKeep o3
  have CA := hide (callsU H3.out.st.jv.dsk)
  obtain ⟨cn, hcn⟩ : ∃ cn, D.n.calls = cn := ⟨_, rfl⟩
  rw [hcn] at CA
  have HCN := hide hcn
  clear k2 k3 H1 o1 o2 o3 hcn HA
  refine CA.out.mono ?_
  rintro e w4 ⟨rfl, rfl⟩
  have c2 := H3.out.blk.c2
  rw [H3.out.hrm] at c2
  have RM := hide (room_neg w3.drew (-1) (by decide))
  have US := hide (usedU H3.out.st.jv.dsk.drew (by have := H3.out.st.jv.calm.used; omega))
  clear CA
  go_wp2
  refine wp_region_sch (fun w' => w'.cell? ⟨wb, 2, none⟩ = some (.int .i64 (-1)) ∧ w'.cell? ⟨wb, 4, none⟩ = some (.pointer (some ⟨b, 0, none⟩))) 12
    [(0, true), (1, true), (2, true), (3, true), (4, true), (6, true), (7, true), (8, true), (9, true), (5, false), (10, false), (11, true)] (by kernel_rfl) (by kernel_rfl) (fun _ _ _ _ _ h => h) ⟨c2, v4⟩ ?_
  iterate 9 (refine wpSch_take (v := ?_) rfl (by rfl) ?_ ?_; rotate_left; (· (intro w' hS; (try dsimp only at hS); go_simp; try with_reducible rfl)); (try simp only [Act.put, List.setIfInBounds_toArray, List.set_cons_zero, List.set_cons_succ, List.getElem_toArray, List.getElem_cons_zero, List.getElem_cons_succ]))
  refine wpSch_do rfl (by rfl) (fun K hK => ?_)
  go_simp
  refine RM.out.mono ?_
  rintro e w4 ⟨rfl, rfl⟩
  refine hK _ _ ⟨c2, v4⟩ (fun hS => ?_)
  clear hK K hS RM
  (try simp only [Act.put, List.setIfInBounds_toArray, List.set_cons_zero, List.set_cons_succ, List.getElem_toArray, List.getElem_cons_zero, List.getElem_cons_succ])
  refine wpSch_do rfl (by rfl) (fun K hK => ?_)
  go_simp
  refine US.out.mono ?_
  rintro e w4 ⟨rfl, k4⟩
  have k4' : Chg (fun _ => False) w3 w4 := ⟨k4.os, k4.tape, k4.output, k4.size, k4.block⟩
  refine hK _ _ ⟨k4'.cellKeep c2, k4'.cellKeep v4⟩ (fun hS => ?_)
  have H4 := hide (H3.out.chg0 k4')
  have K4 : Hid (Chg (fun _ => False) w w4) := K3.out.trans k4' fun _ h _ => h
  have q1 := k4'.cellKeep p1
  have q2 := k4'.cellKeep p2
  have q3 := k4'.cellKeep p3
  clear hK K hS US k4 p1 p2 p3 c2 v4 H3 K3
  (try simp only [Act.put, List.setIfInBounds_toArray, List.set_cons_zero, List.set_cons_succ, List.getElem_toArray, List.getElem_cons_zero, List.getElem_cons_succ])
  (refine wpSch_take (v := ?_) rfl (by rfl) ?_ ?_; rotate_left; (· (intro w' hS; (try dsimp only at hS); go_simp; try with_reducible rfl)); (try simp only [Act.put, List.setIfInBounds_toArray, List.set_cons_zero, List.set_cons_succ, List.getElem_toArray, List.getElem_cons_zero, List.getElem_cons_succ]))
  refine wpSch_end ?_
  simp only [List.drop_succ_cons, List.drop_zero]
  go_wp2
  have CA4 : Hid (∀ w', Chg (fun _ => False) w4 w' → Calls Tryz.prog 44 #[.pointer (some ⟨b, 0, none⟩)] w' fun e w2 => e = .returned (.int .i64 cn) ∧ w' = w2) := fun w' k => by
    have := callsU (H4.out.chg0 k).st.jv.dsk
    rwa [HCN.out] at this
  have PU := hide (put_bad w4.drew k t v H4.out.st.blk hk)
  have c5 := H4.out.blk.c5
  rw [H4.out.hsv] at c5
  have c4 := H4.out.blk.c4
  rw [H4.out.hdv] at c4
  clear H4 k4'
  refine wp_region_sch (fun w' => w'.cell? ⟨wb, 5, none⟩ = some (.pointer (some ⟨sb, 0, none⟩)) ∧ w'.cell? ⟨w.heap.size, 1, none⟩ = some (.int .i64 k) ∧ w'.cell? ⟨w.heap.size, 2, none⟩ = some (.int .i64 t) ∧ w'.cell? ⟨w.heap.size, 3, none⟩ = some (.int .i64 v)) 11
    [(0, true), (1, true), (2, true), (3, true), (4, true), (5, true), (6, true), (7, true), (8, true), (9, true), (10, false)] (by kernel_rfl) (by kernel_rfl) (fun _ _ _ _ _ h => h) ⟨c5, q1, q2, q3⟩ ?_
  iterate 10 (refine wpSch_take (v := ?_) rfl (by rfl) ?_ ?_; rotate_left; (· (intro w' hS; (try dsimp only at hS); go_simp; try with_reducible rfl)); (try simp only [Act.put, List.setIfInBounds_toArray, List.set_cons_zero, List.set_cons_succ, List.getElem_toArray, List.getElem_cons_zero, List.getElem_cons_succ]))
  refine wpSch_do rfl (by rfl) (fun K hK => ?_)
  go_simp
  refine PU.out.mono ?_
  rintro e w5 ⟨rfl, k5⟩
  have k5' : Chg (fun _ => False) w4 w5 := ⟨k5.os, k5.tape, k5.output, k5.size, k5.block⟩
  have r1 := k5'.cellKeep q1
  refine hK _ _ ⟨k5'.cellKeep c5, r1, k5'.cellKeep q2, k5'.cellKeep q3⟩ (fun hS => ?_)
  have d4 := k5'.cellKeep c4
  have CA5 := hide (CA4.out w5 k5')
  have K5 : Hid (Chg (fun _ => False) w w5) := K4.out.trans k5' fun _ h _ => h
  clear hK K hS k5 k5' PU q1 q2 q3 c5 c4 K4 CA4
  (try simp only [Act.put, List.setIfInBounds_toArray, List.set_cons_zero, List.set_cons_succ, List.getElem_toArray, List.getElem_cons_zero, List.getElem_cons_succ])
  refine wpSch_end ?_
  simp only [List.drop_succ_cons, List.drop_zero]
  have SE : Hid (∀ w', Calls Tryz.prog 82 #[.int .i64 k] w' fun e w2 => e = .returned (.bool false) ∧ w' = w2) := fun w' => by
    have := refSeries_any k w'
    have e : isSer (k : Int) = false := by unfold isSer; simp; omega
    rwa [e] at this
  go_wp2_with (first
    | (go_at_call 82; refine (SE.out _).mono ?_; rintro e w6 ⟨rfl, rfl⟩)
    | (go_at_call 44; refine CA5.out.mono ?_; rintro e w6 ⟨rfl, rfl⟩))
  go_ret
  exact ⟨rfl, K5.out⟩
end
end Go.Proofs.YtfaeidbgdcincaaGreatDoor
