/-
  The statement PassingCardSaid is proved: the law Passing answers true, at every four numbers; there is no condition.
  Part 5 of 34.
-/
import Derived.Test.YtodcnkbblippnaaGreatDoorPart04
import Derived.Test.YtodcnkbblippnaaGreatDoorPart02
import Derived.StillTailTactics
import Derived.StillTactics
import Derived.Laws.Externs
/- Walks: package points: Forget. -/
namespace Go.Proofs.YtodcnkbblippnaaGreatDoor
open Go.RowKit
attribute [local go_sem ↓] Go.wp_at_zero Go.wp_at_succ

/-- A row in its place: one cell of a block that is known. -/
structure RowIn (w : World) (b o : Nat) (cs : Array Value) (T : Nat) (L : List Pt) (lv : Value) : Prop where
  blk : w.heap[b]? = some (.cells cs T (0, 0))
  at_ : cs[o]? = some lv
  row : PtSl w lv L
  sorted : Sorted L
  small : L.length < 1099511627776
theorem RowIn.toAt {w : World} {b o : Nat} {cs : Array Value} {T : Nat} {L : List Pt} {lv : Value} (h : RowIn w b o cs T L lv) : RowAt w b o L lv :=
  ⟨by simp [World.cell?, h.blk, h.at_], h.row, h.sorted, h.small⟩
theorem RowIn.chg {w w' : World} {b o : Nat} {cs : Array Value} {T : Nat} {L : List Pt} {lv : Value} (h : RowIn w b o cs T L lv) (hc : Chg (fun _ => False) w w') : RowIn w' b o cs T L lv :=
  ⟨(hc.block b (lt_of_block h.blk) (fun h => h)).trans h.blk, h.at_, ownsRow_same h.row fun g hg => hc.block g (ownsRow_lt h.row hg) (fun h => h), h.sorted, h.small⟩
/-- What a call that turns a row leaves. -/
structure RowTo (w w' : World) (b o : Nat) (cs : Array Value) (T : Nat) (lv : Value) (L' : List Pt) (lv' : Value) : Prop where
  row : RowIn w' b o (cs.setIfInBounds o lv') T L' lv'
  chg : Chg (fun k => k = b ∨ lv.ownBlock = some k) w w'
  own : ∀ g, lv'.ownBlock = some g → lv.ownBlock = some g ∨ w.heap.size ≤ g
set_option maxRecDepth 100000 in
set_option maxHeartbeats 2000000 in
theorem forget_any (w : World) (rb ro : Nat) (cs : Array Value) (T : Nat) (hT : T ≠ 70) (L : List Pt) (lv : Value) (t : Int) (h : RowIn w rb ro cs T L lv) :
    Calls Tryz.prog 72 #[.pointer (some ⟨rb, ro, none⟩), .int .i64 t] w fun e w' => e = .returned (.tuple #[]) ∧ ∃ L' lv', (L' = L ∨ L' = L.drop (posP L t)) ∧ RowTo w w' rb ro cs T lv L' lv' := by
  have H := hide h
  obtain ⟨ad, cap, rfl, h1, h2, h3, h4, h5⟩ := ownsRow_form h.row
  unfold maxLen at h2
  have HA := hide h3
  have H4 := hide h4
  have H5 := hide h5
  obtain ⟨i0, hi, hz0, hz1, hz2⟩ := info_parts Tryz.infoPt2
  have hsm := h.small
  have hle := posP_le L t
  obtain ⟨i, hiq⟩ : ∃ i, posP L t = i := ⟨_, rfl⟩
  rw [hiq] at hle
  have FA : Hid (Calls Tryz.prog 116 #[.pointer (some ⟨rb, ro, none⟩), .int .i64 t] w fun e w' => ∃ x, e = .returned (.tuple #[.int .i64 i, .bool x]) ∧ Chg (fun _ => False) w w') :=
    (find_row w rb ro L _ t h.toAt).mono (by rintro e w' ⟨rfl, h⟩; rw [hiq]; exact ⟨_, rfl, h⟩)
  have HIQ := hide hiq
  clear h h3 h4 h5 hiq
  have iz : (0 : Int) ≤ (i : Int) := Int.natCast_nonneg _
  have hic : (i : Int) ≤ (L.length : Int) := by omega
  have hlc : (L.length : Int) ≤ (cap : Int) := by omega
  by_cases hgt : ((L.length : Int) / 2 < (i : Int))
  · -- what is left is laid anew
    have SRC : Hid (∀ W, Chg (fun _ => False) w W → ∀ v m, (v = .slice (Option.map (fun x => x.add (i * 2)) ad) m (cap - i) ∧ m = L.length - i ∨ (L.length = i ∧ m = 0 ∧ ∃ x c, v = .slice x 0 c)) → Src Tryz.prog 2 66 v m (ptVals (L.drop i)) W) := by
      intro W hW v m hv
      have hrow := (H.out.chg hW).row
      have hnil : L.length - i = 0 → ∀ x c, Src Tryz.prog 2 66 (.slice x 0 c) 0 (ptVals (L.drop i)) W := by
        intro h0 x c
        have : L.drop i = [] := List.drop_of_length_le (by omega)
        rw [this]
        cases x with
        | none => exact Src.ofNil W Tryz.underlying66 c
        | some y => exact Src.ofSlice W Tryz.underlying66 _ 0 c [] rfl (by simp) (by simp)
      rcases hv with ⟨rfl, rfl⟩ | ⟨hni, rfl, x, c, rfl⟩
      · cases ad with
        | none =>
          have := (H4.out rfl).1
          have h0 : L.length - i = 0 := by omega
          rw [h0]; exact hnil h0 _ _
        | some x =>
          obtain ⟨g, rfl⟩ := H5.out x rfl
          refine Src.ofSlice W Tryz.underlying66 _ _ _ _ (by rw [ptVals_length, List.length_drop]) (fun k u hk => ?_) (ptVals_oneCell _)
          have hx : Addr.add (Addr.add ⟨g, 0, none⟩ (i * 2)) k = ⟨g, i * 2 + k, none⟩ := by
            unfold Addr.add
            by_cases h1 : i * 2 = 0 <;> by_cases h2 : k = 0 <;> simp [h1, h2]
          rw [hx]
          refine ownsRow_cell hrow (g := g) rfl ?_
          rw [← ptVals_drop, List.getElem?_drop] at hk; exact hk
      · exact hnil (by omega) x c
    have FIN : Hid (∀ (W w3 : World) (m : Nat) (b3 : Option Addr) (cap3 : Nat), Chg (fun _ => False) w W → m = L.length - i → App W w3 70 2 (.slice none 0 0) (.slice b3 (0 + m) cap3) (0 + m) ([] ++ ptVals (L.drop i)) →
        w3.cell? ⟨rb, ro, none⟩ = some (.slice ad L.length cap) ∧ w3.frozen? ⟨rb, ro, none⟩ = false ∧ RowTo w (w3.setCell ⟨rb, ro, none⟩ (.slice b3 m cap3)) rb ro cs T (.slice ad L.length cap) (L.drop i) (.slice b3 m cap3)) := by
      intro W w3 m b3 cap3 hW hm hA
      subst hm
      have hb3 : w3.heap[rb]? = some (.cells cs T (0, 0)) := (hA.chgNil.block rb (lt_of_block (H.out.chg hW).blk) (fun h => h)).trans (H.out.chg hW).blk
      have hrow : PtSl w3 (.slice b3 (L.length - i) cap3) (L.drop i) := by
        have := hA.own
        unfold PtSl
        rw [List.length_drop]; simpa using this
      have hw3 : Chg (fun _ => False) w w3 := hW.trans hA.chgNil fun _ h _ => h
      refine ⟨by simp [World.cell?, hb3, H.out.at_], by simp [World.frozen?, hb3], ⟨⟨heap_setCell_at hb3, ?_, ?_, H.out.sorted.drop i, by rw [List.length_drop]; omega⟩, ?_, ?_⟩⟩
      · have hlt : ro < cs.size := (Array.getElem?_eq_some_iff.1 H.out.at_).1
        simp [hlt]
      · refine ownsRow_same hrow fun g hg => ?_
        have hne : g ≠ rb := fun e => by
          obtain ⟨c, hh⟩ := ownsRow_elem hrow hg
          subst e
          rw [hb3] at hh; cases hh; exact hT rfl
        exact Below.heap_setCell _ _ _ _ (fun e => hne (by simpa using e))
      · exact (hw3.mono (fun _ _ h => h.elim)).setAt (.inl rfl) ro _
      · intro g hg
        right
        have := hA.fresh g (by simpa using hg)
        have := hW.size
        omega
    by_cases hci : cap = i
    · obtain rfl : i = cap := hci.symm
      have hli : L.length = i := by omega
      have HLI := hide hli
      clear hli
      go_enter Tryz.func72, Tryz.ntmps72
      go_wp2_with (fail)
      refine FA.out.mono ?_
      rintro e w1 ⟨x, rfl, k1⟩
      have K1 := hide k1
      have c2 := (H.out.chg k1).toAt.cell
      clear k1
      go_wp2_with (at_builtin; refine wpList_app rfl (.const (.slice none 0 0)) (.tmp 26) 66 66 rfl 70 i0 _ 2 16 Tryz.underlying66 hi hz0 hz1 hz2 rfl (by decide) (.slice none 0 0) 0 [] (by rfl) (World.ownsRow_nil _ 0 70 2) _ 0 _ (by rfl) (SRC.out _ K1.out _ 0 (.inr ⟨HLI.out, rfl, _, _, rfl⟩)) (by omega) ?_; intro b3 cap3 w3 hA; have hA3 := hide (FIN.out _ w3 0 b3 cap3 K1.out (by have := HLI.out; omega) hA); have y1 := hA3.out.1; have y2 := hA3.out.2.1; clear hA)
      go_end0
      refine ⟨rfl, _, .slice b3 0 cap3, .inr rfl, ?_⟩
      rw [HIQ.out]
      have := hA3.out.2.2
      simpa using this
    · go_enter Tryz.func72, Tryz.ntmps72
      go_wp2_with (fail)
      refine FA.out.mono ?_
      rintro e w1 ⟨x, rfl, k1⟩
      have K1 := hide k1
      have c2 := (H.out.chg k1).toAt.cell
      clear k1
      go_wp2_with (at_builtin; refine wpList_app rfl (.const (.slice none 0 0)) (.tmp 26) 66 66 rfl 70 i0 _ 2 16 Tryz.underlying66 hi hz0 hz1 hz2 rfl (by decide) (.slice none 0 0) 0 [] (by rfl) (World.ownsRow_nil _ 0 70 2) _ (L.length - i) _ (by rfl) (SRC.out _ K1.out _ _ (.inl ⟨rfl, rfl⟩)) (by omega) ?_; intro b3 cap3 w3 hA; have hA3 := hide (FIN.out _ w3 _ b3 cap3 K1.out rfl hA); have y1 := hA3.out.1; have y2 := hA3.out.2.1; clear hA)
      go_end0
      refine ⟨rfl, _, .slice b3 (L.length - i) cap3, .inr rfl, ?_⟩
      rw [HIQ.out]
      have := hA3.out.2.2
      simpa using this
  · have hgt' : (i : Int) ≤ (L.length : Int) / 2 := by omega
    go_enter Tryz.func72, Tryz.ntmps72
    go_wp2_with (fail)
    refine FA.out.mono ?_
    rintro e w1 ⟨x, rfl, k1⟩
    have K1 := hide k1
    have c2 := (H.out.chg k1).toAt.cell
    clear k1
    go_wp2
    go_end0
    have hR := H.out.chg K1.out
    refine ⟨rfl, L, _, .inl rfl, ⟨?_, K1.out.mono (fun _ _ h => h.elim), fun g hg => .inl hg⟩⟩
    have hset : cs.setIfInBounds ro (.slice ad L.length cap) = cs := by
      obtain ⟨hlt, he⟩ := Array.getElem?_eq_some_iff.1 H.out.at_
      apply Array.ext_getElem?
      intro k
      by_cases hk : ro = k
      · subst hk; simp [hlt, he]
      · rw [Array.getElem?_setIfInBounds_ne hk]
    rw [hset]
    exact hR
end Go.Proofs.YtodcnkbblippnaaGreatDoor
/- Walk: slices.Insert of one point. -/
namespace Go.Proofs.YtodcnkbblippnaaGreatDoor
open Go.RowKit
attribute [local go_sem ↓] Go.wp_at_zero Go.wp_at_succ

/-- A copy whose run is known. -/
theorem wpList_copy_run {P : Program} (w : World) {ops : Array Oper} {rest : List Oper} {o : Oper} {a : Act} {Q : Exit → Act → World → Prop} (hgd : o.guard = none) (d s : Operand) (t t' : TypeId)
    (ho : o.op = .call { callee := .builtin .copy, args := #[d, s], argTypes := #[t, t'] }) (v u : Value) (hd : a.eval d = v) (hs : a.eval s = u) {v' : Value} {w' : World}
    (hr : (Builtin.copy_ #[t, t'] o.type #[v, u]).run P w = .ok v' w') (h : wpList P ops Q rest (a.put o.dst v') w') : wpList P ops Q (o :: rest) a w :=
  wpList_plain hgd fun _ hK => by
    unfold Oper.wp execOp
    simp only [ho, resolve, invoke, builtin, Sem.run_bind, Sem.run_pure, Result.andThen_ok, List.map_toArray, List.map_cons, List.map_nil, hd, hs, hr]
    exact hK _ _ h
/-- In place: what the first copy leaves, and the second. -/
def insC1 (cur : List Value) (L : List Pt) (i : Nat) : List Value := cur.take ((i + 1) * 2) ++ ptVals (L.drop i) ++ cur.drop ((i + 1) * 2 + (ptVals (L.drop i)).length)
def insC2 (c : List Value) (i : Nat) (t v : Int) : List Value := c.take (i * 2) ++ [Value.int .i64 t, Value.int .i64 v] ++ c.drop (i * 2 + 2)
theorem ins_row (L : List Pt) (i : Nat) (t v : Int) : ptVals (L.take i ++ (t, v) :: L.drop i) = ptVals (L.take i) ++ [Value.int .i64 t, Value.int .i64 v] ++ ptVals (L.drop i) := by
  rw [ptVals_append]; simp [ptVals]
theorem insC1_length (cur : List Value) (L : List Pt) (i : Nat) (hi : i ≤ L.length) (hlen : (L.length + 1) * 2 ≤ cur.length) : (insC1 cur L i).length = cur.length := by
  have hpl : (ptVals (L.drop i)).length = (L.length - i) * 2 := by rw [ptVals_length, List.length_drop]
  unfold insC1
  simp only [List.length_append, List.length_take, List.length_drop, hpl]; omega
theorem insC2_length (c : List Value) (i : Nat) (t v : Int) (h : i * 2 + 2 ≤ c.length) : (insC2 c i t v).length = c.length := by
  unfold insC2
  simp only [List.length_append, List.length_take, List.length_drop, List.length_cons, List.length_nil]; omega
theorem ins_cells (L : List Pt) (i : Nat) (hi : i ≤ L.length) (t v : Int) (cur : List Value) (hcur : cur.take (i * 2) = ptVals (L.take i)) (hlen : (L.length + 1) * 2 ≤ cur.length) :
    (insC2 (insC1 cur L i) i t v).take ((L.length + 1) * 2) = ptVals (L.take i ++ (t, v) :: L.drop i) := by
  have hpl : (ptVals (L.drop i)).length = (L.length - i) * 2 := by rw [ptVals_length, List.length_drop]
  have h1 : (cur.take ((i + 1) * 2)).length = (i + 1) * 2 := by rw [List.length_take]; omega
  have e1 : (insC1 cur L i).take (i * 2) = ptVals (L.take i) := by
    unfold insC1
    rw [List.append_assoc, List.take_append_of_le_length (by rw [h1]; omega), List.take_take, show min (i * 2) ((i + 1) * 2) = i * 2 from by omega, hcur]
  have e2 : (insC1 cur L i).drop (i * 2 + 2) = ptVals (L.drop i) ++ cur.drop ((i + 1) * 2 + (ptVals (L.drop i)).length) := by
    unfold insC1
    rw [List.append_assoc]
    conv => lhs; rw [show i * 2 + 2 = (cur.take ((i + 1) * 2)).length from by rw [h1]; omega]
    rw [List.drop_left]
  have hwl : (ptVals (L.take i) ++ [Value.int .i64 t, Value.int .i64 v] ++ ptVals (L.drop i)).length = (L.length + 1) * 2 := by
    simp only [List.length_append, ptVals_length, hpl, List.length_take, List.length_cons, List.length_nil]; omega
  unfold insC2
  rw [e1, e2, ins_row, ← List.append_assoc, ← hwl, List.take_left]
/-- What Insert leaves. -/
structure InsTo (w w' : World) (lv : Value) (L' : List Pt) (lv' : Value) : Prop where
  row : PtSl w' lv' L'
  chg : Chg (fun k => lv.ownBlock = some k) w w'
  own : ∀ g, lv'.ownBlock = some g → lv.ownBlock = some g ∨ w.heap.size ≤ g
set_option maxRecDepth 100000 in
set_option maxHeartbeats 4000000 in
/-- There is room, not at the end: in place. -/
theorem insert_in (w : World) (g cap : Nat) (L : List Pt) (i vb : Nat) (t v : Int) (hL : PtSl w (.slice (some ⟨g, 0, none⟩) L.length cap) L) (hi : i < L.length) (hroom : L.length + 1 ≤ cap) (hsm : L.length < 1099511627776)
    (hv : w.heap[vb]? = some (.cells #[.int .i64 t, .int .i64 v] 70 (0, 0))) (hvb : vb ≠ g) :
    Calls Tryz.prog 139 #[.slice (some ⟨g, 0, none⟩) L.length cap, .int .i64 i, .slice (some ⟨vb, 0, none⟩) 1 1] w fun e w' => ∃ lv', e = .returned lv' ∧ InsTo w w' (.slice (some ⟨g, 0, none⟩) L.length cap) (L.take i ++ (t, v) :: L.drop i) lv' := by
  obtain ⟨cur, hg, hcs, htake, _, hcm⟩ := ownsRow_block hL
  unfold maxLen at hcm
  obtain ⟨i0, hi0, hz0, hz1, hz2⟩ := info_parts Tryz.infoPt2
  have hov : ∀ lb cb, (callFunc 181 #[.slice (some ⟨vb, 0, none⟩) 1 1, .slice (some ⟨g, (i + 1) * 2, none⟩) lb cb]).run Tryz.prog w = .ok (.value (.bool false)) w := fun lb cb => by
    have hsz : ∀ w, (Go.sizeOf 70).run Tryz.prog w = .ok 2 w := fun w => by simp [sizeOf, typeInfo, hi0, hz1]
    rw [run_callFunc_extern Tryz.func181 (by kernel_rfl) (by kernel_rfl) (by kernel_rfl) (e := Extern.SlicesOverlaps.overlaps #[66, 66] #[4]) (by kernel_rfl),
      Lib.run_overlaps_apart w 66 4 70 Tryz.underlying66 2 hsz ⟨vb, 0, none⟩ ⟨g, (i + 1) * 2, none⟩ 1 1 lb cb hvb 70 70 2 cur.size (by simp [World.shape?, hv]) (by simp [World.shape?, hg]) (by rw [hcs]; omega) (by simp [World.frozen?, hv]) (by simp [World.frozen?, hv])]
    rfl
  have hcl : (L.length + 1) * 2 ≤ cur.toList.length := by have := Array.length_toList (xs := cur); omega
  have hc1s : (insC1 cur.toList L i).length = cap * 2 := by rw [insC1_length _ _ _ (by omega) hcl, Array.length_toList, hcs]
  have hdl : (ptVals (L.drop i)).length = (L.length - i) * 2 := by rw [ptVals_length, List.length_drop]
  have htk : cur.toList.take (i * 2) = ptVals (L.take i) := by
    rw [show i * 2 = min (i * 2) (L.length * 2) from by omega, ← List.take_take, htake, ptVals_take]
  have adc : ∀ (x y : Nat), Addr.add ⟨g, x, none⟩ y = ⟨g, x + y, none⟩ := fun x y => by unfold Addr.add; by_cases h : y = 0 <;> simp [h]
  have adv : ∀ (y : Nat), Addr.add ⟨vb, 0, none⟩ y = ⟨vb, y, none⟩ := fun y => by unfold Addr.add; by_cases h : y = 0 <;> simp [h]
  have hcp1 : Hid (∀ ty dc sc, (Builtin.copy_ #[66, 66] ty #[.slice (some ⟨g, (i + 1) * 2, none⟩) (L.length - i) dc, .slice (some ⟨g, i * 2, none⟩) (L.length + 1 - i) sc]).run Tryz.prog w.drew = .ok (goInt ((L.length - i : Nat) : Int)) (w.drew.setRow g (insC1 cur.toList L i).toArray)) := fun ty dc sc =>
    run_copy_u w.drew _ _ ty 70 i0 2 g ((i + 1) * 2) _ dc ⟨g, i * 2, none⟩ _ sc (L.length - i) cur 70 (ptVals (L.drop i)) Tryz.underlying66 hi0 hz1 hg (by simp only [Nat.min_def]; split <;> omega) hdl
      (fun j u hj => by
        rw [adc]
        refine ownsRow_cell (w := w) hL (g := g) rfl ?_
        rw [← ptVals_drop, List.getElem?_drop] at hj; exact hj)
      (by rw [hdl, hcs]; omega) (ptVals_oneCell _)
  have hcp2 : Hid (∀ ty dc, (Builtin.copy_ #[66, 66] ty #[.slice (some ⟨g, i * 2, none⟩) (L.length + 1 - i) dc, .slice (some ⟨vb, 0, none⟩) 1 1]).run Tryz.prog (w.drew.setRow g (insC1 cur.toList L i).toArray) = .ok (goInt ((1 : Nat) : Int)) ((w.drew.setRow g (insC1 cur.toList L i).toArray).setRow g (insC2 (insC1 cur.toList L i) i t v).toArray)) := fun ty dc => by
    have hg1 : (w.drew.setRow g (insC1 cur.toList L i).toArray).heap[g]? = some (.cells (insC1 cur.toList L i).toArray 70 (0, 0)) := setRow_heap w.drew g cur _ 70 _ hg
    have := run_copy_u (P := Tryz.prog) (w.drew.setRow g (insC1 cur.toList L i).toArray) 66 66 ty 70 i0 2 g (i * 2) (L.length + 1 - i) dc ⟨vb, 0, none⟩ 1 1 1 (insC1 cur.toList L i).toArray 70 [Value.int .i64 t, Value.int .i64 v] Tryz.underlying66 hi0 hz1 hg1 (by simp only [Nat.min_def]; split <;> omega) rfl
      (fun j u hj => by
        rw [adv]
        have hv1 : (w.drew.setRow g (insC1 cur.toList L i).toArray).heap[vb]? = some (.cells #[.int .i64 t, .int .i64 v] 70 (0, 0)) := (setRow_other w.drew g vb _ hvb).trans hv
        unfold World.cell?
        rw [hv1]
        match j, hj with
        | 0, hj => simpa using hj
        | 1, hj => simpa using hj
        | j + 2, hj => simp at hj)
      (by simp only [List.size_toArray, hc1s, List.length_cons, List.length_nil]; omega) (by simp [Value.oneCell'])
    simpa [insC2] using this
  have FIN : Hid (InsTo w ((w.drew.setRow g (insC1 cur.toList L i).toArray).setRow g (insC2 (insC1 cur.toList L i) i t v).toArray) (.slice (some ⟨g, 0, none⟩) L.length cap) (L.take i ++ (t, v) :: L.drop i) (.slice (some ⟨g, 0, none⟩) (L.length + 1) cap)) := by
    have hg1 : (w.drew.setRow g (insC1 cur.toList L i).toArray).heap[g]? = some (.cells (insC1 cur.toList L i).toArray 70 (0, 0)) := setRow_heap w.drew g cur _ 70 _ hg
    have hg2 : ((w.drew.setRow g (insC1 cur.toList L i).toArray).setRow g (insC2 (insC1 cur.toList L i) i t v).toArray).heap[g]? = some (.cells (insC2 (insC1 cur.toList L i) i t v).toArray 70 (0, 0)) := setRow_heap _ g _ _ 70 _ hg1
    have hll : (L.take i ++ (t, v) :: L.drop i).length = L.length + 1 := by simp; omega
    refine ⟨?_, ?_, fun g' h' => .inl h'⟩
    · unfold PtSl
      rw [hll]
      refine ⟨by rw [ptVals_length, hll], .inr ⟨g, cap, _, rfl, Nat.zero_le _, hg2, hroom, by unfold maxLen; omega, ?_, ?_⟩⟩
      · rw [List.size_toArray, insC2_length _ _ _ _ (by rw [hc1s]; omega), hc1s]
      · exact ins_cells L i (by omega) t v cur.toList htk hcl
    · refine ⟨rfl, rfl, rfl, by simp, fun k hk hn => ?_⟩
      have hkg : k ≠ g := fun e => hn (by simp [Value.ownBlock, e])
      rw [setRow_other _ g k _ hkg, setRow_other _ g k _ hkg]; rfl
  have HOV := hide hov
  have q1 : ((i : Int) == (L.length : Int)) = false := by simp; omega
  have q2 : ¬ (cap = i) := by omega
  have q3 : ¬ (cap = i + 1) := by omega
  have q4 : (i : Int) ≤ (L.length : Int) := by omega
  have q5 : (L.length : Int) ≤ (cap : Int) := by omega
  have q6 : (L.length : Int) + 1 ≤ (cap : Int) := by omega
  have q7 : ((L.length : Int) + 1).toNat = L.length + 1 := by omega
  have q8 : ((i : Int) + 1).toNat = i + 1 := by omega
  have q9 : (i : Int) + 1 ≤ (L.length : Int) + 1 := by omega
  have q10 : (0 : Int) ≤ (i : Int) := Int.natCast_nonneg _
  have q11 : (i : Int) ≤ (L.length : Int) + 1 := by omega
  have q13 : (0 : Int) ≤ (i : Int) + 1 := by omega
  have q12 : IntKind.i64.wrap ((i : Int) + 1) = (i : Int) + 1 := by simp only [IntKind.wrap_i64]; omega
  clear hL hv hg hcs htake hcl hc1s hdl htk adc adv
  go_enter Tryz.func139, Tryz.ntmps139
  go_wp2_with (simp only [hov])
  refine wp_region_still_tail 8 (by kernel_rfl) (by kernel_rfl) ?_
  simp only [World.drew_eq, List.take_succ_cons, List.take_zero, List.drop_succ_cons, List.drop_zero]
  repeat still_step
  refine wpStill_nil ?_
  refine wpList_copy_run _ rfl (.tmp 73) (.tmp 76) 66 66 rfl _ _ (by rfl) (by rfl) (hcp1.out _ _ _) ?_
  go_wp2_with (refine wpList_copy_run _ rfl (.tmp 80) (.tmp 81) 66 66 rfl _ _ (by rfl) (by rfl) (hcp2.out _ _) ?_)
  go_ret
  exact ⟨_, rfl, FIN.out⟩
end Go.Proofs.YtodcnkbblippnaaGreatDoor
/- Walks: slices.Insert of one point: at the end; where there is no room. Row.Put. -/
namespace Go.Proofs.YtodcnkbblippnaaGreatDoor
open Go.RowKit
attribute [local go_sem ↓] Go.wp_at_zero Go.wp_at_succ

set_option maxRecDepth 100000 in
set_option maxHeartbeats 4000000 in
theorem insert_end (w : World) (ad : Option Addr) (cap : Nat) (L : List Pt) (vb : Nat) (t v : Int) (hL : PtSl w (.slice ad L.length cap) L) (hsm : L.length < 1099511627776)
    (hv : w.heap[vb]? = some (.cells #[.int .i64 t, .int .i64 v] 70 (0, 0))) :
    Calls Tryz.prog 139 #[.slice ad L.length cap, .int .i64 L.length, .slice (some ⟨vb, 0, none⟩) 1 1] w fun e w' => ∃ lv', e = .returned lv' ∧ InsTo w w' (.slice ad L.length cap) (L.take L.length ++ (t, v) :: L.drop L.length) lv' := by
  obtain ⟨i0, hi0, hz0, hz1, hz2⟩ := info_parts Tryz.infoPt2
  obtain ⟨_, _, he, h1, h2, _, h4, h5⟩ := ownsRow_form hL
  cases he
  unfold maxLen at h2
  have hsr : Hid (Src Tryz.prog 2 66 (.slice (some ⟨vb, 0, none⟩) 1 1) 1 [.int .i64 t, .int .i64 v] w) := Src.ofBlock Tryz.underlying66 hv 1 1 rfl (by simp [Value.oneCell'])
  have FIN : Hid (∀ b3 cap3 w3, App w w3 70 2 (.slice ad L.length cap) (.slice b3 (L.length + 1) cap3) (L.length + 1) (ptVals L ++ [.int .i64 t, .int .i64 v]) → InsTo w w3 (.slice ad L.length cap) (L.take L.length ++ (t, v) :: L.drop L.length) (.slice b3 (L.length + 1) cap3)) := by
    intro b3 cap3 w3 hA
    refine ⟨?_, hA.chg fun k hk => hk, fun g hg => ?_⟩
    · have := hA.own
      unfold PtSl
      rw [List.take_of_length_le (Nat.le_refl _), List.drop_of_length_le (Nat.le_refl _), ptVals_append, List.length_append]
      exact this
    · rcases hA.at_ with e | e
      · rw [e] at hg; exact .inl hg
      · rw [e] at hg; cases hg; exact .inr (Nat.le_refl _)
  have HL := hide hL
  have q4 : (0 : Int) ≤ (L.length : Int) := Int.natCast_nonneg _
  have hbb : (L.length + 1) * 16 ≤ 140737488355328 := by omega
  clear hL hv h4 h5
  by_cases hc : cap = L.length
  · subst hc
    go_enter Tryz.func139, Tryz.ntmps139
    go_wp2_with (at_builtin; refine wpList_app rfl (.tmp 23) (.tmp 24) 66 66 rfl 70 i0 _ 2 16 Tryz.underlying66 hi0 hz0 hz1 hz2 rfl (by decide) _ L.length (ptVals L) (by rfl) HL.out _ 1 _ (by rfl) hsr.out hbb ?_; intro b3 cap3 w3 hA; have hA3 := hide (FIN.out b3 cap3 w3 hA); clear hA)
    go_ret
    exact ⟨_, rfl, hA3.out⟩
  · go_enter Tryz.func139, Tryz.ntmps139
    go_wp2_with (at_builtin; refine wpList_app rfl (.tmp 23) (.tmp 24) 66 66 rfl 70 i0 _ 2 16 Tryz.underlying66 hi0 hz0 hz1 hz2 rfl (by decide) _ L.length (ptVals L) (by rfl) HL.out _ 1 _ (by rfl) hsr.out hbb ?_; intro b3 cap3 w3 hA; have hA3 := hide (FIN.out b3 cap3 w3 hA); clear hA)
    go_ret
    exact ⟨_, rfl, hA3.out⟩
theorem ins_cells2 (L : List Pt) (i : Nat) (hi : i ≤ L.length) (t v : Int) (c : List Value) (hcur : c.take (i * 2) = ptVals (L.take i)) (hlen : (L.length + 1) * 2 ≤ c.length) :
    (insC1 (insC2 c i t v) L i).take ((L.length + 1) * 2) = ptVals (L.take i ++ (t, v) :: L.drop i) ∧ (insC1 (insC2 c i t v) L i).length = c.length := by
  have hpl : (ptVals (L.drop i)).length = (L.length - i) * 2 := by rw [ptVals_length, List.length_drop]
  have hl2 : (insC2 c i t v).length = c.length := insC2_length c i t v (by omega)
  refine ⟨?_, by rw [insC1_length _ _ _ hi (by omega), hl2]⟩
  have h1 : (ptVals (L.take i) ++ [Value.int .i64 t, Value.int .i64 v]).length = (i + 1) * 2 := by
    simp only [List.length_append, ptVals_length, List.length_take, List.length_cons, List.length_nil]; omega
  have e1 : (insC2 c i t v).take ((i + 1) * 2) = ptVals (L.take i) ++ [Value.int .i64 t, Value.int .i64 v] := by
    unfold insC2
    rw [hcur, ← h1, List.take_left]
  have hwl : (ptVals (L.take i) ++ [Value.int .i64 t, Value.int .i64 v] ++ ptVals (L.drop i)).length = (L.length + 1) * 2 := by
    rw [List.length_append, h1, hpl]; omega
  unfold insC1
  rw [e1, ins_row, ← hwl, List.take_left]
set_option maxRecDepth 100000 in
set_option maxHeartbeats 4000000 in
/-- There is no room, not at the end: a new row. -/
theorem insert_grow (w : World) (g cap : Nat) (L : List Pt) (i vb : Nat) (t v : Int) (hL : PtSl w (.slice (some ⟨g, 0, none⟩) L.length cap) L) (hi : i < L.length) (hroom : cap < L.length + 1) (hsm : L.length < 1099511627776)
    (hv : w.heap[vb]? = some (.cells #[.int .i64 t, .int .i64 v] 70 (0, 0))) :
    Calls Tryz.prog 139 #[.slice (some ⟨g, 0, none⟩) L.length cap, .int .i64 i, .slice (some ⟨vb, 0, none⟩) 1 1] w fun e w' => ∃ lv', e = .returned lv' ∧ InsTo w w' (.slice (some ⟨g, 0, none⟩) L.length cap) (L.take i ++ (t, v) :: L.drop i) lv' := by
  obtain ⟨cur, hg, hcs, htake, hnc, hcm⟩ := ownsRow_block hL
  unfold maxLen at hcm
  obtain rfl : cap = L.length := by omega
  obtain ⟨i0, hi0, hz0, hz1, hz2⟩ := info_parts Tryz.infoPt2
  have hdl : (ptVals (L.drop i)).length = (L.length - i) * 2 := by rw [ptVals_length, List.length_drop]
  have adc : ∀ (b x y : Nat), Addr.add ⟨b, x, none⟩ y = ⟨b, x + y, none⟩ := fun b x y => by unfold Addr.add; by_cases h : y = 0 <;> simp [h]
  -- the new row
  have hold : (Builtin.firstCells i0.size i (.slice (some ⟨g, 0, none⟩) i L.length)).run Tryz.prog w.drew = .ok (ptVals (L.take i)).toArray w.drew :=
    run_firstCells_some w.drew i0.size i ⟨g, 0, none⟩ i L.length (ptVals (L.take i)) (by rw [hz1, ptVals_length, List.length_take]; omega) (fun j u hj => by
      rw [adc, Nat.zero_add]
      refine ownsRow_cell (w := w) hL (g := g) rfl ?_
      rw [← ptVals_take, List.getElem?_take] at hj
      split at hj
      · exact hj
      · cases hj)
  have happ := run_append_zeros_grow (P := Tryz.prog) w 66 3 66 70 i0 _ .i64 Tryz.underlying66 Tryz.underlying3 hi0 hz0 (by omega) (some ⟨g, 0, none⟩) i L.length (ptVals (L.take i)) hold (L.length + 1 - i) (by omega) (by omega) (by omega) (by rw [hz2]; omega) (by rw [hz2]; exact growslice_fits (by omega) (by omega))
  rw [show i + (L.length + 1 - i) = L.length + 1 from by omega, show ((L.length + 1 - i : Nat) : Int) = (L.length : Int) + 1 - (i : Int) from by omega] at happ
  obtain ⟨nc, hnc2⟩ : ∃ nc, grownCap w (L.length + 1) L.length 70 = nc := ⟨_, rfl⟩
  have hge := grownCap_ge w (L.length + 1) L.length 70
  have hgm : grownCap w (L.length + 1) L.length 70 ≤ maxLen := grownCap_le_maxLen w (L.length + 1) L.length 70 (by unfold maxLen; omega)
  rw [hnc2] at happ hge hgm
  obtain ⟨c0, hc0⟩ : ∃ c0, (ptVals (L.take i)).toArray ++ Builtin.zeroCells (Value.agg #[Value.int .i64 0, Value.int .i64 0]).cells (L.length + 1 - i) ++ Builtin.zeroCells (Value.agg #[Value.int .i64 0, Value.int .i64 0]).cells (nc - (L.length + 1)) = c0 := ⟨_, rfl⟩
  have hc0s : c0.toList.length = nc * 2 := by
    rw [← hc0]
    have e1 : (Value.agg #[Value.int .i64 0, Value.int .i64 0]).cells.size = 2 := rfl
    simp only [Array.toList_append, List.length_append, Array.length_toList, size_zeroCells, e1, ptVals_length, List.length_take]
    omega
  have hc0t : c0.toList.take (i * 2) = ptVals (L.take i) := by
    rw [← hc0, Array.toList_append, Array.toList_append, List.append_assoc]
    have : (ptVals (L.take i)).length = i * 2 := by rw [ptVals_length, List.length_take]; omega
    rw [← this, List.take_left]
  rw [hc0] at happ
  unfold maxLen at hgm
  have hg1 : ((w.drew.alloc (.cells c0 70))).heap[w.heap.size]? = some (.cells c0 70 (0, 0)) := heap_alloc_new w.drew _
  have hvl := lt_of_block hv
  have hgl := lt_of_block hg
  have hv1 : ((w.drew.alloc (.cells c0 70))).heap[vb]? = some (.cells #[.int .i64 t, .int .i64 v] 70 (0, 0)) := (Below.heap_alloc w.drew _ _ hvl).trans hv
  have hcp1 : Hid (∀ ty dc, (Builtin.copy_ #[66, 66] ty #[.slice (some ⟨w.heap.size, i * 2, none⟩) (L.length + 1 - i) dc, .slice (some ⟨vb, 0, none⟩) 1 1]).run Tryz.prog (w.drew.alloc (.cells c0 70)) = .ok (goInt ((1 : Nat) : Int)) ((w.drew.alloc (.cells c0 70)).setRow w.heap.size (insC2 c0.toList i t v).toArray)) := fun ty dc => by
    have := run_copy_u (P := Tryz.prog) (w.drew.alloc (.cells c0 70)) 66 66 ty 70 i0 2 w.heap.size (i * 2) (L.length + 1 - i) dc ⟨vb, 0, none⟩ 1 1 1 c0 70 [Value.int .i64 t, Value.int .i64 v] Tryz.underlying66 hi0 hz1 hg1 (by simp only [Nat.min_def]; split <;> omega) rfl
      (fun j u hj => by
        rw [adc, Nat.zero_add]
        unfold World.cell?
        rw [hv1]
        match j, hj with
        | 0, hj => simpa using hj
        | 1, hj => simpa using hj
        | j + 2, hj => simp at hj)
      (by rw [← Array.length_toList, hc0s]; simp only [List.length_cons, List.length_nil]; omega) (by simp [Value.oneCell'])
    simpa [insC2] using this
  have hc2l : (insC2 c0.toList i t v).length = nc * 2 := by rw [insC2_length _ _ _ _ (by omega), hc0s]
  have hg2 : ((w.drew.alloc (.cells c0 70)).setRow w.heap.size (insC2 c0.toList i t v).toArray).heap[w.heap.size]? = some (.cells (insC2 c0.toList i t v).toArray 70 (0, 0)) := setRow_heap _ w.heap.size c0 _ 70 _ hg1
  have hcp2 : Hid (∀ ty dc sc, (Builtin.copy_ #[66, 66] ty #[.slice (some ⟨w.heap.size, (i + 1) * 2, none⟩) (L.length - i) dc, .slice (some ⟨g, i * 2, none⟩) (L.length - i) sc]).run Tryz.prog ((w.drew.alloc (.cells c0 70)).setRow w.heap.size (insC2 c0.toList i t v).toArray).drew = .ok (goInt ((L.length - i : Nat) : Int)) (((w.drew.alloc (.cells c0 70)).setRow w.heap.size (insC2 c0.toList i t v).toArray).drew.setRow w.heap.size (insC1 (insC2 c0.toList i t v) L i).toArray)) := fun ty dc sc =>
    run_copy_u (P := Tryz.prog) ((w.drew.alloc (.cells c0 70)).setRow w.heap.size (insC2 c0.toList i t v).toArray).drew 66 66 ty 70 i0 2 w.heap.size ((i + 1) * 2) (L.length - i) dc ⟨g, i * 2, none⟩ (L.length - i) sc (L.length - i) (insC2 c0.toList i t v).toArray 70 (ptVals (L.drop i)) Tryz.underlying66 hi0 hz1 hg2 (by simp) hdl
      (fun j u hj => by
        rw [adc]
        have h0 : w.cell? ⟨g, i * 2 + j, none⟩ = some u := by
          refine ownsRow_cell (w := w) hL (g := g) rfl ?_
          rw [← ptVals_drop, List.getElem?_drop] at hj; exact hj
        refine (World.cell?_of_block ?_).trans h0
        exact (setRow_other _ w.heap.size g _ (by omega)).trans (Below.heap_alloc w.drew _ _ hgl))
      (by rw [hdl, List.size_toArray, hc2l]; omega) (ptVals_oneCell _)
  have FIN : Hid (InsTo w (((w.drew.alloc (.cells c0 70)).setRow w.heap.size (insC2 c0.toList i t v).toArray).drew.setRow w.heap.size (insC1 (insC2 c0.toList i t v) L i).toArray) (.slice (some ⟨g, 0, none⟩) L.length L.length) (L.take i ++ (t, v) :: L.drop i) (.slice (some ⟨w.heap.size, 0, none⟩) (L.length + 1) nc)) := by
    have hg3 : (((w.drew.alloc (.cells c0 70)).setRow w.heap.size (insC2 c0.toList i t v).toArray).drew.setRow w.heap.size (insC1 (insC2 c0.toList i t v) L i).toArray).heap[w.heap.size]? = some (.cells (insC1 (insC2 c0.toList i t v) L i).toArray 70 (0, 0)) := setRow_heap _ w.heap.size _ _ 70 _ hg2
    have hll : (L.take i ++ (t, v) :: L.drop i).length = L.length + 1 := by simp; omega
    obtain ⟨k1, k2⟩ := ins_cells2 L i (by omega) t v c0.toList hc0t (by omega)
    refine ⟨?_, ?_, fun g' h' => by simp [Value.ownBlock] at h'; exact .inr (by omega)⟩
    · unfold PtSl
      rw [hll]
      refine ⟨by rw [ptVals_length, hll], .inr ⟨w.heap.size, nc, _, rfl, Nat.zero_le _, hg3, hge, by unfold maxLen; omega, ?_, k1⟩⟩
      rw [List.size_toArray, k2, hc0s]
    · refine ⟨rfl, rfl, rfl, by simp, fun k hk hn => ?_⟩
      have hkg : k ≠ w.heap.size := by omega
      rw [setRow_other _ _ k _ hkg]
      exact (setRow_other _ _ k _ hkg).trans (Below.heap_alloc w.drew _ _ hk)
  have q1 : ((i : Int) == (L.length : Int)) = false := by simp; omega
  have q2 : ¬ (nc = i) := by omega
  have q3 : ¬ (nc = i + 1) := by omega
  have q3' : ¬ (L.length = i) := by omega
  have q4 : (i : Int) ≤ (L.length : Int) := by omega
  have q8 : ((i : Int) + 1).toNat = i + 1 := by omega
  have q9 : (i : Int) + 1 ≤ (L.length : Int) + 1 := by omega
  have q10 : (0 : Int) ≤ (i : Int) := Int.natCast_nonneg _
  have q11 : (i : Int) ≤ (L.length : Int) + 1 := by omega
  have q13 : (0 : Int) ≤ (i : Int) + 1 := by omega
  have q12 : IntKind.i64.wrap ((i : Int) + 1) = (i : Int) + 1 := by simp only [IntKind.wrap_i64]; omega
  have q14 : IntKind.i64.wrap ((L.length : Int) + 1 - (i : Int)) = (L.length : Int) + 1 - (i : Int) := by simp only [IntKind.wrap_i64]; omega
  have HAPP := hide happ
  clear hL hv hg hcs htake hdl adc hold happ hnc2 hc0 hc0s hc0t hg1 hv1 hg2 hc2l hgl hvl
  go_enter Tryz.func139, Tryz.ntmps139
  go_wp2_with (first
    | (at_builtin; refine Lib.wpList_append_run _ rfl (.tmp 34) (.tmp 39) 66 3 rfl _ _ (by rfl) (by rfl) _ _ HAPP.out ?_)
    | (refine wpList_copy_run _ rfl (.tmp 43) (.tmp 44) 66 66 rfl _ _ (by rfl) (by rfl) (hcp1.out _ _) ?_))
  refine wp_region_still_tail 8 (by kernel_rfl) (by kernel_rfl) ?_
  simp only [World.drew_eq, List.take_succ_cons, List.take_zero, List.drop_succ_cons, List.drop_zero]
  repeat still_step
  refine wpStill_nil ?_
  refine wpList_copy_run _ rfl (.tmp 50) (.tmp 53) 66 66 rfl _ _ (by rfl) (by rfl) (hcp2.out _ _ _) ?_
  go_wp2
  go_ret
  exact ⟨_, rfl, FIN.out⟩
/-- slices.Insert of one point, wherever it stands. -/
theorem insert_any (w : World) (ad : Option Addr) (cap : Nat) (L : List Pt) (i vb : Nat) (t v : Int) (hL : PtSl w (.slice ad L.length cap) L) (hi : i ≤ L.length) (hsm : L.length < 1099511627776)
    (hv : w.heap[vb]? = some (.cells #[.int .i64 t, .int .i64 v] 70 (0, 0))) (hvb : (Value.slice ad L.length cap).ownBlock ≠ some vb) :
    Calls Tryz.prog 139 #[.slice ad L.length cap, .int .i64 i, .slice (some ⟨vb, 0, none⟩) 1 1] w fun e w' => ∃ lv', e = .returned lv' ∧ InsTo w w' (.slice ad L.length cap) (L.take i ++ (t, v) :: L.drop i) lv' := by
  by_cases hil : i = L.length
  · subst hil
    exact insert_end w ad cap L vb t v hL hsm hv
  · obtain ⟨_, _, he, h1, h2, h3, h4, h5⟩ := ownsRow_form hL
    cases he
    obtain ⟨g, rfl⟩ := h3 (by omega)
    have hne : vb ≠ g := fun e => hvb (by simp [Value.ownBlock, e])
    by_cases hroom : L.length + 1 ≤ cap
    · exact insert_in w g cap L i vb t v hL (by omega) hroom hsm hv hne
    · exact insert_grow w g cap L i vb t v hL (by omega) (by omega) hsm hv
end Go.Proofs.YtodcnkbblippnaaGreatDoor
/- Walk: package points: Put. -/
namespace Go.Proofs.YtodcnkbblippnaaGreatDoor
open Go.RowKit
attribute [local go_sem ↓] Go.wp_at_zero Go.wp_at_succ

theorem hasP_true {l : List Pt} {t : Int} (h : hasP l t = true) : ∃ hl : posP l t < l.length, (l[posP l t]'hl).1 = t := by
  unfold hasP at h
  by_cases hl : posP l t < l.length
  · rw [List.getElem?_eq_getElem hl] at h
    exact ⟨hl, by simpa using h⟩
  · rw [List.getElem?_eq_none (by omega)] at h; cases h
theorem insP_put (l : List Pt) (t v : Int) : insP l t v = if hasP l t then l.set (posP l t) (t, v) else l.take (posP l t) ++ (t, v) :: l.drop (posP l t) := by
  rw [insP_eq]
  show _ ++ _ :: (if hasP l t then _ else _) = _
  by_cases h : hasP l t = true
  · obtain ⟨hl, _⟩ := hasP_true h
    rw [if_pos h, if_pos h, List.set_eq_take_append_cons_drop, if_pos hl]
  · rw [if_neg h, if_neg h]
theorem insP_small {l : List Pt} {t v : Int} (h : l.length < 1099511627775) : (insP l t v).length < 1099511627776 := by
  have : (insP l t v).length ≤ l.length + 1 := by
    rw [insP_put]
    split
    · simp
    · simp; omega
  omega
set_option maxRecDepth 100000 in
set_option maxHeartbeats 4000000 in
theorem put_row (w : World) (rb ro : Nat) (cs : Array Value) (T : Nat) (hT : T ≠ 70) (L : List Pt) (lv : Value) (t v : Int) (h : RowIn w rb ro cs T L lv) (hsm : L.length < 1099511627775) :
    Calls Tryz.prog 102 #[.pointer (some ⟨rb, ro, none⟩), .agg #[.int .i64 t, .int .i64 v]] w fun e w' => e = .returned (.tuple #[]) ∧ ∃ lv', RowTo w w' rb ro cs T lv (insP L t v) lv' := by
  have H := hide h
  obtain ⟨ad, cap, rfl, h1, h2, h3, h4, h5⟩ := ownsRow_form h.row
  unfold maxLen at h2
  have HA := hide h3
  have hIP := insP_put L t v
  have hle := posP_le L t
  obtain ⟨i, hiq⟩ : ∃ i, posP L t = i := ⟨_, rfl⟩
  obtain ⟨hs, hsq⟩ : ∃ hs, hasP L t = hs := ⟨_, rfl⟩
  have HH : Hid (hs = true → i < L.length) := fun e => by
    obtain ⟨q, _⟩ := hasP_true (hsq.trans e); rw [hiq] at q; exact q
  have FA : Hid (∀ W, Chg (fun _ => False) w W → Calls Tryz.prog 116 #[.pointer (some ⟨rb, ro, none⟩), .int .i64 t] W fun e w' => e = .returned (.tuple #[.int .i64 i, .bool hs]) ∧ Chg (fun _ => False) W w') := fun W hW =>
    (find_row W rb ro L _ t (H.out.chg hW).toAt).mono (by rintro e w' ⟨rfl, h⟩; rw [hiq, hsq]; exact ⟨rfl, h⟩)
  rw [hiq, hsq] at hIP
  rw [hiq] at hle
  have HIP := hide hIP
  have nbx := heap_alloc_new w (.cells #[.int .i64 t, .int .i64 v] 70)
  have NB := hide nbx
  have hbl := lt_of_block h.blk
  have hsz : L.length < 1099511627776 := h.small
  clear h h3 h4 h5 hiq hsq hIP nbx
  have iz : (0 : Int) ≤ (i : Int) := Int.natCast_nonneg _
  have HW : Hid (∀ W, Chg (fun _ => False) (w.alloc (.cells #[.int .i64 t, .int .i64 v] 70)) W → Chg (fun _ => False) w W ∧ W.heap[w.heap.size]? = some (.cells #[.int .i64 t, .int .i64 v] 70 (0, 0)) ∧ RowIn W rb ro cs T L (.slice ad L.length cap)) := fun W hW => by
    have h1 : Chg (fun _ => False) w W := ((Chg.refl _ w).alloc _).trans hW fun _ h _ => h
    exact ⟨h1, (hW.block _ (by simp) (fun h => h)).trans NB.out, H.out.chg h1⟩
  cases hs with
  | true =>
    have hil := HH.out rfl
    obtain ⟨g, rfl⟩ := HA.out (by omega)
    have i1 : (i : Int) < (L.length : Int) := by omega
    have FIN : Hid (∀ W n, Chg (fun _ => False) (w.alloc (.cells #[.int .i64 t, .int .i64 v] 70)) W → RowTo w (((W.drewN n).setCell ⟨g, i * 2, none⟩ (.int .i64 t)).setCell ⟨g, i * 2 + 1, none⟩ (.int .i64 v)) rb ro cs T (.slice (some ⟨g, 0, none⟩) L.length cap) (insP L t v) (.slice (some ⟨g, 0, none⟩) L.length cap)) := by
      intro W n hW
      obtain ⟨k1, k2, k3⟩ := HW.out W hW
      have s1 := ((ownsRow_same k3.row (w' := W.drewN n) fun _ _ => rfl).stored (i * 2) (.int .i64 t)).1
      have s2 := (s1.stored (i * 2 + 1) (.int .i64 v)).1
      have e := ptVals_set L i (t, v) hil
      simp only at e
      rw [e] at s2
      obtain ⟨ce, hce⟩ := ownsRow_elem k3.row (g := g) rfl
      have hne : rb ≠ g := fun e => by subst e; rw [k3.blk] at hce; cases hce; exact hT rfl
      have hins : insP L t v = L.set i (t, v) := HIP.out
      have hset : cs.setIfInBounds ro (.slice (some ⟨g, 0, none⟩) L.length cap) = cs := by
        obtain ⟨hlt, he⟩ := Array.getElem?_eq_some_iff.1 H.out.at_
        apply Array.ext_getElem?
        intro k
        by_cases hk : ro = k
        · subst hk; simp [hlt, he]
        · rw [Array.getElem?_setIfInBounds_ne hk]
      refine ⟨⟨?_, by rw [hset]; exact H.out.at_, ?_, insP_sorted H.out.sorted t v, insP_small hsm⟩, ?_, fun g hg => .inl hg⟩
      · rw [hset, Below.heap_setCell _ _ _ _ hne, Below.heap_setCell _ _ _ _ hne]; exact k3.blk
      · rw [hins]; unfold PtSl; rw [List.length_set]; exact s2
      · exact (((k1.drewN n).mono (S' := fun k => k = rb ∨ (Value.slice (some ⟨g, 0, none⟩) L.length cap).ownBlock = some k) (fun _ _ h => h.elim)).setAt (b := g) (.inr rfl) (i * 2) _).setAt (b := g) (.inr rfl) (i * 2 + 1) _
    go_enter Tryz.func102, Tryz.ntmps102
    go_wp2_with (fail)
    refine (FA.out _ ((Chg.refl _ w).alloc _)).mono ?_
    rintro e w1 ⟨rfl, k1⟩
    have K1 := hide k1
    obtain ⟨k2, k3, k4⟩ := HW.out w1 k1
    have c0 := k4.toAt.cell
    have p0 : w1.cell? ⟨w.heap.size, 0, none⟩ = some (.int .i64 t) := by simp [World.cell?, k3]
    have p1 : w1.cell? ⟨w.heap.size, 1, none⟩ = some (.int .i64 v) := by simp [World.cell?, k3]
    obtain ⟨o0, o1⟩ := k4.row.cells i hil
    have z0 := ownsRow_frozen k4.row (g := g) rfl (i * 2)
    have z1 := ownsRow_frozen k4.row (g := g) rfl (i * 2 + 1)
    clear k1 k2 k3 k4
    go_wp2
    refine wp_region_still_tail 7 (by kernel_rfl) (by kernel_rfl) ?_
    simp only [World.drew_eq, List.take_succ_cons, List.take_zero, List.drop_succ_cons, List.drop_zero]
    repeat still_step
    refine wpStill_nil ?_
    go_wp2
    refine bodyPost_ret (results_none rfl _ _ _) rfl ?_
    exact ⟨rfl, _, FIN.out w1 1 K1.out⟩
  | false =>
    have INS : Hid (∀ W, Chg (fun _ => False) (w.alloc (.cells #[.int .i64 t, .int .i64 v] 70)) W → Calls Tryz.prog 139 #[.slice ad L.length cap, .int .i64 i, .slice (some ⟨W.heap.size, 0, none⟩) 1 1] (W.alloc (.cells #[.int .i64 t, .int .i64 v] 70)) fun e w' => ∃ lv', e = .returned lv' ∧ InsTo (W.alloc (.cells #[.int .i64 t, .int .i64 v] 70)) w' (.slice ad L.length cap) (L.take i ++ (t, v) :: L.drop i) lv') := fun W hW => by
      obtain ⟨k1, k2, k3⟩ := HW.out W hW
      exact insert_any _ ad cap L i W.heap.size t v (ownsRow_same k3.row fun g hg => Below.heap_alloc _ _ _ (ownsRow_lt k3.row hg)) hle hsz (heap_alloc_new W _) (fun e => by have := ownsRow_lt k3.row e; omega)
    have FIN : Hid (∀ W w3 lv', Chg (fun _ => False) (w.alloc (.cells #[.int .i64 t, .int .i64 v] 70)) W → InsTo (W.alloc (.cells #[.int .i64 t, .int .i64 v] 70)) w3 (.slice ad L.length cap) (L.take i ++ (t, v) :: L.drop i) lv' →
        (w3.cell? ⟨rb, ro, none⟩ = some (.slice ad L.length cap) ∧ w3.cell? ⟨w.heap.size, 0, none⟩ = some (.int .i64 t) ∧ w3.cell? ⟨w.heap.size, 1, none⟩ = some (.int .i64 v)) ∧ w3.frozen? ⟨rb, ro, none⟩ = false ∧ RowTo w (w3.setCell ⟨rb, ro, none⟩ lv') rb ro cs T (.slice ad L.length cap) (insP L t v) lv' ∧ ∃ a c, lv' = .slice a (L.length + 1) c) := by
      intro W w3 lv' hW hI
      obtain ⟨k1, k2, k3⟩ := HW.out W hW
      have hnb : (Value.slice ad L.length cap).ownBlock ≠ some rb := fun e => by
        obtain ⟨c, hh⟩ := ownsRow_elem k3.row e
        rw [k3.blk] at hh; cases hh; exact hT rfl
      have hnp : (Value.slice ad L.length cap).ownBlock ≠ some w.heap.size := fun e => by
        have := ownsRow_lt H.out.row e; omega
      have hb3 : w3.heap[rb]? = some (.cells cs T (0, 0)) := (hI.chg.block rb (by have := lt_of_block k3.blk; simp; omega) hnb).trans ((Below.heap_alloc _ _ _ (lt_of_block k3.blk)).trans k3.blk)
      have hp3 : w3.heap[w.heap.size]? = some (.cells #[.int .i64 t, .int .i64 v] 70 (0, 0)) := (hI.chg.block _ (by have := lt_of_block k2; simp; omega) hnp).trans ((Below.heap_alloc _ _ _ (lt_of_block k2)).trans k2)
      have hll : (L.take i ++ (t, v) :: L.drop i).length = L.length + 1 := by simp; omega
      have hins : insP L t v = L.take i ++ (t, v) :: L.drop i := by have := HIP.out; simpa using this
      refine ⟨⟨by simp [World.cell?, hb3, H.out.at_], by simp [World.cell?, hp3], by simp [World.cell?, hp3]⟩, by simp [World.frozen?, hb3], ⟨⟨heap_setCell_at hb3, ?_, ?_, insP_sorted H.out.sorted t v, insP_small hsm⟩, ?_, ?_⟩, ?_⟩
      · have hlt : ro < cs.size := (Array.getElem?_eq_some_iff.1 H.out.at_).1
        simp [hlt]
      · rw [hins]
        refine ownsRow_same hI.row fun g hg => ?_
        have hne : g ≠ rb := fun e => by
          obtain ⟨c, hh⟩ := ownsRow_elem hI.row hg
          subst e
          rw [hb3] at hh; cases hh; exact hT rfl
        exact Below.heap_setCell _ _ _ _ (fun e => hne (by simpa using e))
      · have c1 : Chg (fun k => k = rb ∨ (Value.slice ad L.length cap).ownBlock = some k) w w3 := ((k1.alloc (.cells #[.int .i64 t, .int .i64 v] 70)).mono (fun _ _ h => h.elim)).trans hI.chg (fun x hx _ => .inr hx)
        exact c1.setAt (.inl rfl) ro _
      · intro g hg
        rcases hI.own g hg with h | h
        · exact .inl h
        · right
          have := k1.size
          simp at h; omega
      · obtain ⟨a, c, e, _⟩ := ownsRow_form hI.row
        rw [hll] at e
        exact ⟨a, c, e⟩
    go_enter Tryz.func102, Tryz.ntmps102
    go_wp2_with (fail)
    refine (FA.out _ ((Chg.refl _ w).alloc _)).mono ?_
    rintro e w1 ⟨rfl, k1⟩
    have K1 := hide k1
    obtain ⟨k2, k3, k4⟩ := HW.out w1 k1
    have c0 := k4.toAt.cell
    have p0 : w1.cell? ⟨w.heap.size, 0, none⟩ = some (.int .i64 t) := by simp [World.cell?, k3]
    have p1 : w1.cell? ⟨w.heap.size, 1, none⟩ = some (.int .i64 v) := by simp [World.cell?, k3]
    clear k1 k2 k3 k4
    go_wp2
    refine wp_region_sch (fun w' => w'.cell? ⟨rb, ro, none⟩ = some (.slice ad L.length cap) ∧ w'.cell? ⟨w.heap.size, 0, none⟩ = some (.int .i64 t) ∧ w'.cell? ⟨w.heap.size, 1, none⟩ = some (.int .i64 v)) 9
      [(0, true), (1, true), (2, true), (3, true), (4, true), (5, true), (6, true), (7, false), (8, false)] (by kernel_rfl) (by kernel_rfl) (fun _ _ _ _ _ h => h) ⟨c0, p0, p1⟩ ?_
    iterate 7 (refine wpSch_take (v := ?_) rfl (by rfl) ?_ ?_; rotate_left; (· (intro w' hS; (try dsimp only at hS); go_simp; try with_reducible rfl)); (try simp only [Act.put, List.setIfInBounds_toArray, List.set_cons_zero, List.set_cons_succ, List.getElem_toArray, List.getElem_cons_zero, List.getElem_cons_succ]))
    refine wpSch_do rfl (by rfl) (fun K hK => ?_)
    go_simp
    refine hK _ _ ?_ (fun hS => ?_)
    · simp [World.cell?_alloc_some, c0, p0, p1]
    clear hK K hS
    (try simp only [Act.put, List.setIfInBounds_toArray, List.set_cons_zero, List.set_cons_succ, List.getElem_toArray, List.getElem_cons_zero, List.getElem_cons_succ])
    refine wpSch_do rfl (by rfl) (fun K hK => ?_)
    go_simp
    refine (INS.out w1.drew K1.out.drew).mono ?_
    rintro e w3 ⟨lv', rfl, hI⟩
    obtain ⟨f1, f2, f3, a3, d3, rfl⟩ := FIN.out w1.drew w3 lv' K1.out.drew hI
    have F3 := hide f3
    refine hK _ _ f1 (fun hS => ?_)
    obtain ⟨f1, -, -⟩ := f1
    clear hK K hS hI f3
    (try simp only [Act.put, List.setIfInBounds_toArray, List.set_cons_zero, List.set_cons_succ, List.getElem_toArray, List.getElem_cons_zero, List.getElem_cons_succ])
    refine wpSch_end ?_
    simp only [List.drop_succ_cons, List.drop_zero]
    go_wp2
    go_end0
    exact ⟨rfl, _, F3.out⟩
end Go.Proofs.YtodcnkbblippnaaGreatDoor
