/-
  The statement WritesUptoCardSaid is proved: the law Writes answers true at every set and every script within the statement's bounds.
  Part 17 of 23.
-/
import Derived.Test.YtfaeidbgdcincaaGreatDoorPart15
import Derived.Test.YtfaeidbgdcincaaGreatDoorPart16
/- Walks: a store on a calm disk: add, change, Put, Flush. -/
namespace Go.Proofs.YtfaeidbgdcincaaGreatDoor
open Go.RowKit Go.MuLone
attribute [local go_sem ↓] Go.wp_at_zero Go.wp_at_succ NoP_normal

/-- A store on a calm disk, whole. -/
structure StV (w : World) (nm : List UInt8) (sb jb b : Nat) (mu life clock : Int) (lv : Nat → Value) (L : Nat → List Pt) (own : Option (Nat × Nat)) (D : DS) (F : Nat → FC) (Ft : Nat → Prop) (N C : Nat) : Prop where
  blk : SBlk w sb mu (.pointer (some ⟨jb, 0, none⟩)) life clock false lv
  rows : RowsAt w lv L
  jv : JV w nm jb b own D F Ft N C
  ns : ¬ JFoot jb own Ft sb
  nr : ∀ g, rowsOwn lv g → ¬ JFoot jb own Ft g
def SFoot (sb jb : Nat) (lv : Nat → Value) (own : Option (Nat × Nat)) (Ft : Nat → Prop) (k : Nat) : Prop := Own sb lv k ∨ JFoot jb own Ft k
/-- What a call that turns a store leaves. -/
def STo (w w' : World) (nm : List UInt8) (sb jb b : Nat) (mu life clock : Int) (lv : Nat → Value) (own : Option (Nat × Nat)) (Ft : Nat → Prop) (L' : Nat → List Pt) (N' C' : Nat) : Prop :=
  Chg (SFoot sb jb lv own Ft) w w' ∧ ∃ lv' own' D' F' Ft', StV w' nm sb jb b mu life clock lv' L' own' D' F' Ft' N' C' ∧ ∀ k, SFoot sb jb lv' own' Ft' k → SFoot sb jb lv own Ft k ∨ w.heap.size ≤ k
section
variable {w w' w2 : World} {nm : List UInt8} {sb jb b : Nat} {mu life clock : Int} {lv : Nat → Value} {L : Nat → List Pt} {own : Option (Nat × Nat)} {D : DS} {F : Nat → FC} {Ft : Nat → Prop} {N C : Nat}
theorem StV.lt (h : StV w nm sb jb b mu life clock lv L own D F Ft N C) {k : Nat} (hk : SFoot sb jb lv own Ft k) : k < w.heap.size := by
  rcases hk with (rfl | hk) | hk
  · exact h.blk.lt
  · exact h.rows.lt hk
  · exact h.jv.lt hk
theorem StV.chg {S : Nat → Prop} (h : StV w nm sb jb b mu life clock lv L own D F Ft N C) (hc : Chg S w w') (hS : ∀ k, SFoot sb jb lv own Ft k → ¬ S k) : StV w' nm sb jb b mu life clock lv L own D F Ft N C :=
  ⟨h.blk.chg hc (hS _ (.inl (.inl rfl))), h.rows.chg hc (fun g hg => hS g (.inl (.inr hg))), h.jv.chg hc (fun k hk => hS k (.inr hk)), h.ns, h.nr⟩
theorem StV.chg0 (h : StV w nm sb jb b mu life clock lv L own D F Ft N C) (hc : Chg (fun _ => False) w w') : StV w' nm sb jb b mu life clock lv L own D F Ft N C := h.chg hc fun _ _ h => h
/-- A cell of the store's own block. -/
theorem StV.cell {mu' clock' : Int} (h : StV w nm sb jb b mu life clock lv L own D F Ft N C) (o : Nat) (u : Value) (hb : SBlk (w.setCell ⟨sb, o, none⟩ u) sb mu' (.pointer (some ⟨jb, 0, none⟩)) life clock' false lv) :
    StV (w.setCell ⟨sb, o, none⟩ u) nm sb jb b mu' life clock' lv L own D F Ft N C :=
  have hc := (Chg.refl (One sb) w).setAt (b := sb) rfl o u
  ⟨hb, h.rows.chg hc (fun g hg e => h.rows.ne h.blk (by decide) (by cases e; exact hg)), h.jv.chg hc (fun k hk e => h.ns (by cases e; exact hk)), h.ns, h.nr⟩
theorem STo.before {w1 : World} {mu' clock' : Int} {L' : Nat → List Pt} {N' C' : Nat} (h : STo w1 w' nm sb jb b mu' life clock' lv own Ft L' N' C') (hc : Chg (fun _ => False) w w1) : STo w w' nm sb jb b mu' life clock' lv own Ft L' N' C' := by
  obtain ⟨h1, lv', own', D', F', Ft', h2, h3⟩ := h
  exact ⟨(hc.mono fun _ _ h => h.elim).trans h1 fun _ h _ => h, lv', own', D', F', Ft', h2, fun k hk => (h3 k hk).imp id fun h => Nat.le_trans hc.size h⟩
theorem STo.join {w1 : World} {lv1 : Nat → Value} {own1 : Option (Nat × Nat)} {Ft1 : Nat → Prop} {mu' clock' : Int} {L' : Nat → List Pt} {N' C' : Nat} (hc : Chg (SFoot sb jb lv own Ft) w w1) (hs : ∀ k, SFoot sb jb lv1 own1 Ft1 k → SFoot sb jb lv own Ft k ∨ w.heap.size ≤ k)
    (h2 : STo w1 w' nm sb jb b mu' life clock' lv1 own1 Ft1 L' N' C') : STo w w' nm sb jb b mu' life clock' lv own Ft L' N' C' := by
  obtain ⟨hc2, lv2, own2, D2, F2, Ft2, hj2, hs2⟩ := h2
  refine ⟨hc.trans hc2 fun x hx hlt => (hs x hx).resolve_right (by omega), lv2, own2, D2, F2, Ft2, hj2, fun k hk => ?_⟩
  rcases hs2 k hk with h | h
  · exact hs k h
  · exact .inr (Nat.le_trans hc.size h)
theorem STo.cell {mu' mu2 clock' clock2 : Int} {L' : Nat → List Pt} {N' C' : Nat} (h : STo w w' nm sb jb b mu' life clock' lv own Ft L' N' C') (o : Nat) (u : Value)
    (hb : ∀ lv', SBlk w' sb mu' (.pointer (some ⟨jb, 0, none⟩)) life clock' false lv' → SBlk (w'.setCell ⟨sb, o, none⟩ u) sb mu2 (.pointer (some ⟨jb, 0, none⟩)) life clock2 false lv') : STo w (w'.setCell ⟨sb, o, none⟩ u) nm sb jb b mu2 life clock2 lv own Ft L' N' C' := by
  obtain ⟨h1, lv', own', D', F', Ft', h2, h3⟩ := h
  exact ⟨h1.setAt (.inl (.inl rfl)) o u, lv', own', D', F', Ft', h2.cell o u (hb lv' h2.blk), h3⟩
/-- The journal is turned. -/
theorem StV.jou {own' : Option (Nat × Nat)} {D' : DS} {F' : Nat → FC} {N' C' : Nat} (h : StV w nm sb jb b mu life clock lv L own D F Ft N C) (hj : JTo w w' nm jb b own Ft own' D' F' N' C') :
    ∃ Ft', StV w' nm sb jb b mu life clock lv L own' D' F' Ft' N' C' ∧ Chg (SFoot sb jb lv own Ft) w w' ∧ ∀ k, SFoot sb jb lv own' Ft' k → SFoot sb jb lv own Ft k ∨ w.heap.size ≤ k := by
  obtain ⟨hc, Ft', h2, h3⟩ := hj
  refine ⟨Ft', ⟨h.blk.chg hc h.ns, h.rows.chg hc h.nr, h2, fun hx => ?_, fun g hg hx => ?_⟩, hc.mono fun _ _ h => .inr h, fun k hk => ?_⟩
  · rcases h3 _ hx with hy | hy
    · exact h.ns hy
    · have := h.blk.lt; omega
  · rcases h3 _ hx with hy | hy
    · exact h.nr g hg hy
    · have := h.rows.lt hg; omega
  · rcases hk with hk | hk
    · exact .inl (.inl hk)
    · exact (h3 k hk).imp .inr id
/-- The rows are turned. -/
theorem StV.turn {mu' clock' : Int} {lv' : Nat → Value} {L' : Nat → List Pt} (h : StV w nm sb jb b mu life clock lv L own D F Ft N C) (hs : StTo w w' sb mu' (.pointer (some ⟨jb, 0, none⟩)) life clock' false lv lv' L') :
    STo w w' nm sb jb b mu' life clock' lv own Ft L' N C := by
  refine ⟨hs.chg.mono fun _ _ h => .inl h, lv', own, D, F, Ft, ⟨hs.blk, hs.rows, h.jv.chg hs.chg fun k hk hx => ?_, h.ns, fun g hg hx => ?_⟩, fun k hk => ?_⟩
  · rcases hx with rfl | hx
    · exact h.ns hk
    · exact h.nr k hx hk
  · rcases hs.own g hg with hy | hy
    · exact h.nr g hy hx
    · have := h.jv.lt hx; omega
  · rcases hk with (rfl | hk) | hk
    · exact .inl (.inl (.inl rfl))
    · exact (hs.own k hk).imp (fun h => .inl (.inr h)) id
    · exact .inl (.inr hk)
/-- The rows behind a Put. -/
def keptL (L : Nat → List Pt) (o : Int) (k : Nat) (t v : Int) : Nat → List Pt := if o ≤ t then updL L k (insP (L k) t v) else L
theorem keep_calm {k : Nat} (h : StV w nm sb jb b mu life clock lv L own D F Ft N C) (t v : Int) (hk : k < 8) (hsm : (L k).length < 1099511627000) (hl : 1 ≤ life ∧ life ≤ 4611686018427387904) (hc : In64 clock) :
    Calls Tryz.prog 55 #[.pointer (some ⟨sb, 0, none⟩), .agg #[.int .i64 k, .int .i64 t, .int .i64 v]] w fun e w' => e = .returned (.tuple #[]) ∧ STo w w' nm sb jb b mu life clock lv own Ft (keptL L (oldestN clock life) k t v) N C := by
  refine (keep_any w sb k _ _ (by decide) clock life t v (L k) (lv k) hk (h.rows.rowIn h.blk hk) (by omega) rfl rfl hl hc).mono ?_
  rintro e w' ⟨rfl, h2⟩
  refine ⟨rfl, ?_⟩
  unfold keptL
  rcases h2 with ⟨ho, lv', hR⟩ | ⟨ho, hcc⟩
  · rw [if_pos ho]
    have hlen := (insP_length (L k) t v).2
    obtain ⟨b1, b2, b3, b4⟩ := h.rows.turn h.blk hk hR rfl (by omega)
    exact h.turn ⟨b1, b2, b3, b4⟩
  · rw [if_neg (by omega)]
    exact h.turn ⟨h.blk.chg hcc (fun h => h), h.rows.chg hcc (fun _ _ h => h), hcc.mono fun _ _ h => h.elim, fun _ h => .inl h⟩
set_option maxRecDepth 100000 in
set_option maxHeartbeats 2000000 in
theorem sadd_calm {B : Nat} {lt : List UInt8} {k : Nat} (h : StV w (nameL lt 1) sb jb b mu life clock lv L own D F Ft N C) (hL : Lets B w lt) (hnum : NumOk 1) (hne : nameL lt 1 ≠ []) (t v : Int) (hk : k < 8) (hsm : (L k).length < 1099511627000) (hl : 1 ≤ life ∧ life ≤ 4611686018427387904) (hc : In64 clock) (ht : In64 t) (hv : In64 v) (hN : N + 400 ≤ 1099511627776 ∧ (N + 400 ≤ 5000 ∨ 5000 < N)) (hC : C + 200 ≤ 4611686018427387904) :
    Calls Tryz.prog 61 #[.pointer (some ⟨sb, 0, none⟩), .agg #[.int .i64 k, .int .i64 t, .int .i64 v]] w fun e w' => e = .returned (.int .i64 0) ∧ STo w w' (nameL lt 1) sb jb b mu life clock lv own Ft (keptL L (oldestN clock life) k t v) (N + 33) (C + 3) := by
  have hA : Chg (fun _ => False) w (w.alloc (.cells #[.int .i64 k, .int .i64 t, .int .i64 v] 109)) := (Chg.refl _ w).alloc _
  have hbx := heap_alloc_new w (.cells #[.int .i64 k, .int .i64 t, .int .i64 v] 109)
  have hlt : ∀ k, SFoot sb jb lv own Ft k → k < w.heap.size := fun k hk => h.lt hk
  have hV := h.chg0 hA
  have hLA := hL.keep0 hA
  generalize hw0 : (w.alloc (.cells #[.int .i64 k, .int .i64 t, .int .i64 v] 109)) = w0 at hA hbx hV hLA
  have JA := hide (jadd_calm (w := w0.drew) (hV.jv.chg (Chg.refl (fun _ => False) w0).drew fun _ _ h => h) (hLA.keep0 (Chg.refl (fun _ => False) w0).drew) hnum hne k t v (by omega) ht hv hN hC)
  have KE : Hid (∀ w1 lb s D' F', JTo w0.drew w1 (nameL lt 1) jb b own Ft (some (lb, s)) D' F' (N + 33) (C + 3) → Calls Tryz.prog 55 #[.pointer (some ⟨sb, 0, none⟩), .agg #[.int .i64 k, .int .i64 t, .int .i64 v]] w1 fun e w' => e = .returned (.tuple #[]) ∧ STo w w' (nameL lt 1) sb jb b mu life clock lv own Ft (keptL L (oldestN clock life) k t v) (N + 33) (C + 3)) := fun w1 lb s D' F' hJ => by
    obtain ⟨Ft1, a1, a2, a3⟩ := (hV.chg0 (Chg.refl (fun _ => False) w0).drew).jou hJ
    refine (keep_calm a1 t v hk hsm hl hc).mono ?_
    rintro e w' ⟨rfl, hS⟩
    exact ⟨rfl, (STo.join a2 a3 hS).before hA.drew⟩
  have c2 := hV.blk.c2
  have q0 : w0.cell? ⟨w.heap.size, 0, none⟩ = some (.int .i64 k) := by simp only [World.cell?, hbx]; rfl
  have q1 : w0.cell? ⟨w.heap.size, 1, none⟩ = some (.int .i64 t) := by simp only [World.cell?, hbx]; rfl
  have q2 : w0.cell? ⟨w.heap.size, 2, none⟩ = some (.int .i64 v) := by simp only [World.cell?, hbx]; rfl
  have KC : Hid (∀ w1 lb s D' F', JTo w0.drew w1 (nameL lt 1) jb b own Ft (some (lb, s)) D' F' (N + 33) (C + 3) → w1.heap[w.heap.size]? = w0.heap[w.heap.size]? ∧ w1.cell? ⟨sb, 2, none⟩ = some (.pointer (some ⟨jb, 0, none⟩))) := fun w1 lb s D' F' hJ => by
    obtain ⟨_, a1, _⟩ := (hV.chg0 (Chg.refl (fun _ => False) w0).drew).jou hJ
    refine ⟨?_, a1.blk.c2⟩
    have hb := World.block_lt_of_cell? w0 _ q0
    exact hJ.1.block w.heap.size hb fun hx => by have := hlt _ (.inr hx); omega
  clear h hL hA hbx hV hLA hnum hne hk hsm hl hc ht hv hlt
  go_enter Tryz.func61, Tryz.ntmps61
  go_wp2
  refine wp_region_sch (fun w' => w'.cell? ⟨sb, 2, none⟩ = some (.pointer (some ⟨jb, 0, none⟩)) ∧ w'.cell? ⟨w.heap.size, 0, none⟩ = some (.int .i64 k) ∧ w'.cell? ⟨w.heap.size, 1, none⟩ = some (.int .i64 t) ∧ w'.cell? ⟨w.heap.size, 2, none⟩ = some (.int .i64 v)) 10
    [(0, true), (1, true), (2, true), (3, true), (4, true), (5, false), (6, true), (7, true), (8, true), (9, true)] (by kernel_rfl) (by kernel_rfl) (fun _ _ _ _ _ h => h) ⟨c2, q0, q1, q2⟩ ?_
  iterate 5 (refine wpSch_take (v := ?_) rfl (by rfl) ?_ ?_; rotate_left; (· (intro w' hS; (try dsimp only at hS); go_simp; try with_reducible rfl)); (try simp only [Act.put, List.setIfInBounds_toArray, List.set_cons_zero, List.set_cons_succ, List.getElem_toArray, List.getElem_cons_zero, List.getElem_cons_succ]))
  refine wpSch_do rfl (by rfl) (fun K hK => ?_)
  go_simp
  refine JA.out.mono ?_
  rintro e w1 ⟨rfl, lb, s, D', F', hJ⟩
  obtain ⟨hh, p3⟩ := KC.out w1 _ _ _ _ hJ
  have p0 : w1.cell? ⟨w.heap.size, 0, none⟩ = some (.int .i64 k) := by unfold World.cell? at q0 ⊢; rw [hh]; exact q0
  have p1 : w1.cell? ⟨w.heap.size, 1, none⟩ = some (.int .i64 t) := by unfold World.cell? at q1 ⊢; rw [hh]; exact q1
  have p2 : w1.cell? ⟨w.heap.size, 2, none⟩ = some (.int .i64 v) := by unfold World.cell? at q2 ⊢; rw [hh]; exact q2
  refine hK _ _ ⟨p3, p0, p1, p2⟩ (fun hS => ?_)
  have KE1 := hide (KE.out w1 _ _ _ _ hJ)
  clear hK K hS hJ hh JA KE KC hw0
  (try simp only [Act.put, List.setIfInBounds_toArray, List.set_cons_zero, List.set_cons_succ, List.getElem_toArray, List.getElem_cons_zero, List.getElem_cons_succ])
  iterate 4 (refine wpSch_take (v := ?_) rfl (by rfl) ?_ ?_; rotate_left; (· (intro w' hS; (try dsimp only at hS); go_simp; try with_reducible rfl)); (try simp only [Act.put, List.setIfInBounds_toArray, List.set_cons_zero, List.set_cons_succ, List.getElem_toArray, List.getElem_cons_zero, List.getElem_cons_succ]))
  refine wpSch_end ?_
  simp only [List.drop_succ_cons, List.drop_zero]
  go_wp2_with (go_at_call 55; refine KE1.out.mono ?_; rintro e w2 ⟨rfl, hS⟩; have HS := hide hS; clear hS)
  go_ret
  exact ⟨rfl, HS.out⟩
set_option maxRecDepth 100000 in
set_option maxHeartbeats 2000000 in
theorem nothing_any (w : World) : Calls Tryz.prog 62 #[] w fun e w' => e = .returned (.int .i64 0) ∧ w = w' := by
  go_enter Tryz.func62, Tryz.ntmps62
  go_wp2
  go_ret
  exact ⟨rfl, rfl⟩
set_option maxRecDepth 100000 in
set_option maxHeartbeats 2000000 in
theorem change_nothing (h : StV w nm sb jb b mu life clock lv L own D F Ft N C) :
    Calls Tryz.prog 59 #[.pointer (some ⟨sb, 0, none⟩), .func (Fn.func 62) #[] #[]] w fun e w' => e = .returned (.int .i64 0) ∧ StV w' nm sb jb b mu life clock lv L own D F Ft N C ∧ Chg (One sb) w w' := by
  have c5 := h.blk.c5
  have f5 := h.blk.fz 5
  have H2 := hide (h.cell 5 (.bool false) (h.blk.s5 false))
  have HC2 := hide ((Chg.refl (One sb) w).setAt (b := sb) rfl 5 (.bool false))
  clear h
  go_enter Tryz.func59, Tryz.ntmps59
  go_wp2_with (go_at_call 62; refine (nothing_any _).mono ?_; rintro e w' ⟨rfl, rfl⟩)
  go_ret
  exact ⟨rfl, H2.out, HC2.out⟩
set_option maxRecDepth 100000 in
set_option maxHeartbeats 2000000 in
theorem flush_calm (h : StV w nm sb jb b 0 life clock lv L own D F Ft N C) :
    Calls Tryz.prog 22 #[.pointer (some ⟨sb, 0, none⟩)] w fun e w' => e = .returned (.int .i64 0) ∧ StV w' nm sb jb b 0 life clock lv L own D F Ft N C ∧ Chg (One sb) w w' := by
  have c0 := h.blk.c0
  have f0 := h.blk.fz 0
  have CH := hide (change_nothing (h.cell 0 (.int .i32 1) (h.blk.s0 1)))
  have HC1 := hide ((Chg.refl (One sb) w).setAt (b := sb) rfl 0 (.int .i32 1))
  clear h
  go_enter_defers Tryz.func22, Tryz.ntmps22
  go_wp2_with (first
    | (go_at_call 56; refine (lock_free Tryz.muLib ⟨sb, 0, none⟩ _ c0 f0).mono ?_; rintro e w' ⟨rfl, rfl⟩)
    | (go_at_call 59; refine CH.out.mono ?_; rintro e w2 ⟨rfl, h2, hc2⟩; have H2 := hide h2; have HC2 := hide hc2; clear h2 hc2))
  refine leaves_cons (f := 57) (args := #[.pointer (some ⟨sb, 0, none⟩)]) (by simp) (by simp [go_sem]) ?_
  refine (unlock_deferred Tryz.muLib ⟨sb, 0, none⟩ .returning _ ?_ ?_).mono ?_
  · exact H2.out.blk.c0
  · exact H2.out.blk.fz 0
  rintro e u' w'' ⟨rfl, rfl, rfl⟩
  exact ⟨_, results_tmp rfl _ _ _, rfl, H2.out.cell 0 _ (H2.out.blk.s0 0), (HC1.out.trans HC2.out fun _ h _ => h).setAt rfl 0 _⟩
/-- What the closure of a Put has hold of. -/
def PutBox (w : World) (x sb : Nat) (k t v : Int) : Prop :=
  w.cell? ⟨x, 0, none⟩ = some (.pointer (some ⟨sb, 0, none⟩)) ∧ w.cell? ⟨x + 1, 0, none⟩ = some (.int .i64 k) ∧ w.cell? ⟨x + 2, 0, none⟩ = some (.int .i64 t) ∧ w.cell? ⟨x + 3, 0, none⟩ = some (.int .i64 v)
set_option maxRecDepth 100000 in
set_option maxHeartbeats 2000000 in
theorem put1_calm {B : Nat} {lt : List UInt8} {k : Nat} {x : Nat} (h : StV w (nameL lt 1) sb jb b mu life clock lv L own D F Ft N C) (hL : Lets B w lt) (hnum : NumOk 1) (hne : nameL lt 1 ≠ []) (t v : Int) (hx : PutBox w x sb k t v) (hk : k < 8) (hsm : (L k).length < 1099511627000) (hl : 1 ≤ life ∧ life ≤ 4611686018427387904) (hc : In64 clock) (ht : In64 t) (hv : In64 v) (hN : N + 400 ≤ 1099511627776 ∧ (N + 400 ≤ 5000 ∨ 5000 < N)) (hC : C + 200 ≤ 4611686018427387904) :
    Calls Tryz.prog 60 #[.pointer (some ⟨x, 0, none⟩), .pointer (some ⟨x + 1, 0, none⟩), .pointer (some ⟨x + 2, 0, none⟩), .pointer (some ⟨x + 3, 0, none⟩)] w fun e w' => e = .returned (.int .i64 0) ∧ STo w w' (nameL lt 1) sb jb b mu life clock lv own Ft (keptL L (oldestN clock life) k t v) (N + 33) (C + 3) := by
  obtain ⟨x0, x1, x2, x3⟩ := hx
  have SA := hide (sadd_calm h hL hnum hne t v hk hsm hl hc ht hv hN hC)
  clear h hL hnum hne hk hsm hl hc ht hv
  go_enter Tryz.func60, Tryz.ntmps60
  go_wp2_with (go_at_call 61; refine SA.out.mono ?_; rintro e w2 ⟨rfl, hS⟩; have HS := hide hS; clear hS)
  go_ret
  exact ⟨rfl, HS.out⟩
set_option maxRecDepth 100000 in
set_option maxHeartbeats 2000000 in
theorem change_put {B : Nat} {lt : List UInt8} {k : Nat} {x : Nat} (h : StV w (nameL lt 1) sb jb b mu life clock lv L own D F Ft N C) (hL : Lets B w lt) (hnum : NumOk 1) (hne : nameL lt 1 ≠ []) (t v : Int) (hx : PutBox w x sb k t v) (hk : k < 8) (hsm : (L k).length < 1099511627000) (hl : 1 ≤ life ∧ life ≤ 4611686018427387904) (hc : In64 clock) (ht : In64 t) (hv : In64 v) (hN : N + 400 ≤ 1099511627776 ∧ (N + 400 ≤ 5000 ∨ 5000 < N)) (hC : C + 200 ≤ 4611686018427387904) :
    Calls Tryz.prog 59 #[.pointer (some ⟨sb, 0, none⟩), .func (Fn.func 60) #[] #[.pointer (some ⟨x, 0, none⟩), .pointer (some ⟨x + 1, 0, none⟩), .pointer (some ⟨x + 2, 0, none⟩), .pointer (some ⟨x + 3, 0, none⟩)]] w fun e w' => e = .returned (.int .i64 0) ∧ STo w w' (nameL lt 1) sb jb b mu life clock lv own Ft (keptL L (oldestN clock life) k t v) (N + 33) (C + 3) := by
  have c5 := h.blk.c5
  have PU := hide (put1_calm h hL hnum hne t v hx hk hsm hl hc ht hv hN hC)
  clear h hL hnum hne hx hk hsm hl hc ht hv
  go_enter Tryz.func59, Tryz.ntmps59
  go_wp2_with (go_at_call 60; refine PU.out.mono ?_; rintro e w2 ⟨rfl, hS⟩; have HS := hide hS; obtain ⟨h1, lv', own', D', F', Ft', h2, h3⟩ := hS; have y5 := h2.blk.c5; have f5 := h2.blk.fz 5; clear h1 h2 h3)
  go_ret
  exact ⟨rfl, HS.out.cell 5 _ (fun lv' h => h.s5 false)⟩
end
end Go.Proofs.YtfaeidbgdcincaaGreatDoor
/- Walks: a store on a calm disk: Put. -/
namespace Go.Proofs.YtfaeidbgdcincaaGreatDoor
open Go.RowKit Go.MuLone
attribute [local go_sem ↓] Go.wp_at_zero Go.wp_at_succ NoP_normal

section
variable {w w' w2 : World} {nm : List UInt8} {sb jb b : Nat} {mu life clock : Int} {lv : Nat → Value} {L : Nat → List Pt} {own : Option (Nat × Nat)} {D : DS} {F : Nat → FC} {Ft : Nat → Prop} {N C : Nat}
/-- The four boxes of a Put. -/
def boxed (w : World) (sb : Nat) (k t v : Int) : World :=
  (((w.alloc (.cells #[.pointer (some ⟨sb, 0, none⟩)] 36)).alloc (.cells #[.int .i64 k] 3)).alloc (.cells #[.int .i64 t] 3)).alloc (.cells #[.int .i64 v] 3)
theorem boxed_chg (w : World) (sb : Nat) (k t v : Int) : Chg (fun _ => False) w (boxed w sb k t v) := ((((Chg.refl _ w).alloc _).alloc _).alloc _).alloc _
theorem boxed_size (w : World) (sb : Nat) (k t v : Int) : (boxed w sb k t v).heap.size = w.heap.size + 4 := by unfold boxed; simp
theorem boxed_box (w : World) (sb : Nat) (k t v : Int) : PutBox (boxed w sb k t v) w.heap.size sb k t v := by
  unfold boxed
  refine ⟨?_, ?_, ?_, ?_⟩
  all_goals unfold World.cell?
  · rw [Below.heap_alloc _ _ _ (by simp; try omega), Below.heap_alloc _ _ _ (by simp; try omega), Below.heap_alloc _ _ _ (by simp), heap_alloc_new]; rfl
  · rw [Below.heap_alloc _ _ _ (by simp; try omega), Below.heap_alloc _ _ _ (by simp)]
    have := heap_alloc_new (w.alloc (.cells #[.pointer (some ⟨sb, 0, none⟩)] 36)) (.cells #[.int .i64 k] 3)
    have e : (w.alloc (.cells #[.pointer (some ⟨sb, 0, none⟩)] 36)).heap.size = w.heap.size + 1 := by simp
    rw [e] at this; simp only [this]; rfl
  · rw [Below.heap_alloc _ _ _ (by simp)]
    have := heap_alloc_new ((w.alloc (.cells #[.pointer (some ⟨sb, 0, none⟩)] 36)).alloc (.cells #[.int .i64 k] 3)) (.cells #[.int .i64 t] 3)
    have e : ((w.alloc (.cells #[.pointer (some ⟨sb, 0, none⟩)] 36)).alloc (.cells #[.int .i64 k] 3)).heap.size = w.heap.size + 2 := by simp
    rw [e] at this; simp only [this]; rfl
  · have := heap_alloc_new (((w.alloc (.cells #[.pointer (some ⟨sb, 0, none⟩)] 36)).alloc (.cells #[.int .i64 k] 3)).alloc (.cells #[.int .i64 t] 3)) (.cells #[.int .i64 v] 3)
    have e : (((w.alloc (.cells #[.pointer (some ⟨sb, 0, none⟩)] 36)).alloc (.cells #[.int .i64 k] 3)).alloc (.cells #[.int .i64 t] 3)).heap.size = w.heap.size + 3 := by simp
    rw [e] at this; simp only [this]; rfl
theorem PutBox.chg {S : Nat → Prop} {x : Nat} {k t v : Int} (h : PutBox w x sb k t v) (hc : Chg S w w') (hS : ∀ i, i < 4 → ¬ S (x + i)) : PutBox w' x sb k t v := by
  obtain ⟨h0, h1, h2, h3⟩ := h
  have kc : ∀ i u, i < 4 → w.cell? ⟨x + i, 0, none⟩ = some u → w'.cell? ⟨x + i, 0, none⟩ = some u := fun i u hi hu => by
    have hb := World.block_lt_of_cell? w _ hu
    have hh := hc.block (x + i) hb (hS i hi)
    unfold World.cell? at hu ⊢; rw [hh]; exact hu
  exact ⟨kc 0 _ (by omega) h0, kc 1 _ (by omega) h1, kc 2 _ (by omega) h2, kc 3 _ (by omega) h3⟩
set_option maxRecDepth 100000 in
set_option maxHeartbeats 2000000 in
theorem put_calm {B : Nat} {lt : List UInt8} {k : Nat} (h : StV w (nameL lt 1) sb jb b 0 life clock lv L own D F Ft N C) (hL : Lets B w lt) (hBs : B ≤ sb) (hnum : NumOk 1) (hne : nameL lt 1 ≠ []) (t v : Int) (hk : k < 8) (hsm : (L k).length < 1099511627000) (hl : 1 ≤ life ∧ life ≤ 4611686018427387904) (hc : In64 clock) (ht : In64 t) (hv : In64 v) (hN : N + 400 ≤ 1099511627776 ∧ (N + 400 ≤ 5000 ∨ 5000 < N)) (hC : C + 200 ≤ 4611686018427387904) :
    Calls Tryz.prog 21 #[.pointer (some ⟨sb, 0, none⟩), .int .i64 k, .int .i64 t, .int .i64 v] w fun e w' => e = .returned (.int .i64 0) ∧ STo w w' (nameL lt 1) sb jb b 0 life clock lv own Ft (keptL L (oldestN clock life) k t v) (N + 33) (C + 3) := by
  have IS : Hid (∀ w', Calls Tryz.prog 58 #[.int .i64 k] w' fun e w'' => e = .returned (.bool true) ∧ w' = w'') := fun w' => by
    have := isSeries_any w' k
    rwa [decide_eq_true (by omega)] at this
  have hA := boxed_chg w sb k t v
  have hX := boxed_box w sb k t v
  have hZ := boxed_size w sb k t v
  have hV := h.chg0 hA
  have hLA := hL.keep0 hA
  have hsb := h.blk.lt
  have hlt : ∀ k, SFoot sb jb lv own Ft k → k < w.heap.size := fun k hk => h.lt hk
  generalize hw0 : boxed w sb k t v = w0 at hA hX hZ hV hLA
  unfold boxed at hw0
  have c0 := hV.blk.c0
  have f0 := hV.blk.fz 0
  obtain ⟨x0, x1, x2, x3⟩ := hX
  have hc1 := (Chg.refl (One sb) w0).setAt (b := sb) rfl 0 (.int .i32 1)
  have hX1 : PutBox (w0.setCell ⟨sb, 0, none⟩ (.int .i32 1)) w.heap.size sb k t v := PutBox.chg ⟨x0, x1, x2, x3⟩ hc1 fun i _ e => by unfold One at e; omega
  have hV1 := hV.cell 0 (.int .i32 1) (hV.blk.s0 1)
  obtain ⟨y0, y1, y2, y3⟩ := hX1
  have CH := hide (change_put hV1 (hLA.keep hc1 fun k e => by cases e; exact hBs) hnum hne t v ⟨y0, y1, y2, y3⟩ hk hsm hl hc ht hv hN hC)
  have HA := hide hA
  have HC1 := hide hc1
  clear h hL hA hZ hV hLA hlt hV1 hnum hne hk hsm hl hc ht hv hc1
  go_enter_defers Tryz.func21, Tryz.ntmps21
  go_wp2_with (first
    | (go_at_call 56; refine (lock_free Tryz.muLib ⟨sb, 0, none⟩ _ c0 f0).mono ?_; rintro e w' ⟨rfl, rfl⟩)
    | (go_at_call 58; refine (IS.out _).mono ?_; rintro e w' ⟨rfl, rfl⟩))
  refine CH.out.mono ?_
  rintro e w2 ⟨rfl, hS⟩
  have HS := hide hS
  clear hS CH x0 x1 x2 x3 y0 y1 y2 y3
  go_wp2
  refine leaves_cons (f := 57) (args := #[.pointer (some ⟨sb, 0, none⟩)]) (by simp) (by simp [go_sem]) ?_
  refine (unlock_deferred Tryz.muLib ⟨sb, 0, none⟩ .returning _ ?_ ?_).mono ?_
  · obtain ⟨h1, lv', own', D', F', Ft', h2, h3⟩ := HS.out; exact h2.blk.c0
  · obtain ⟨h1, lv', own', D', F', Ft', h2, h3⟩ := HS.out; exact h2.blk.fz 0
  rintro e u' w'' ⟨rfl, rfl, rfl⟩
  have HC : Hid (Chg (SFoot sb jb lv own Ft) w0 (w0.setCell ⟨sb, 0, none⟩ (.int .i32 1))) := HC1.out.mono fun x _ e => .inl (.inl e)
  refine ⟨_, results_tmp rfl _ _ _, rfl, STo.before (STo.join HC.out (fun k hk => .inl hk) ?_) HA.out⟩
  exact HS.out.cell 0 _ (fun lv' h => h.s0 0)
set_option maxRecDepth 100000 in
set_option maxHeartbeats 2000000 in
theorem put_bad {jv : Value} {ro : Bool} (w : World) (k t v : Int) (h : SBlk w sb 0 jv life clock ro lv) (hk : ¬ (0 ≤ k ∧ k < 8)) :
    Calls Tryz.prog 21 #[.pointer (some ⟨sb, 0, none⟩), .int .i64 k, .int .i64 t, .int .i64 v] w fun e w' => e = .returned (.int .i64 2) ∧ Chg (fun _ => False) w w' := by
  have IS : Hid (∀ w', Calls Tryz.prog 58 #[.int .i64 k] w' fun e w'' => e = .returned (.bool false) ∧ w' = w'') := fun w' => by
    have := isSeries_any w' k
    rwa [decide_eq_false hk] at this
  have hA := boxed_chg w sb k t v
  have hX := boxed_box w sb k t v
  have hV := h.chg hA (fun h => h)
  have hsb := h.lt
  generalize hw0 : boxed w sb k t v = w0 at hA hX hV
  unfold boxed at hw0
  have c0 := hV.c0
  have f0 := hV.fz 0
  obtain ⟨x0, x1, x2, x3⟩ := hX
  have hc1 := (Chg.refl (One sb) w0).setAt (b := sb) rfl 0 (.int .i32 1)
  have hX1 : PutBox (w0.setCell ⟨sb, 0, none⟩ (.int .i32 1)) w.heap.size sb k t v := PutBox.chg ⟨x0, x1, x2, x3⟩ hc1 fun i _ e => by unfold One at e; omega
  obtain ⟨y0, y1, y2, y3⟩ := hX1
  have HV := hide hV
  have HA := hide hA
  have HC1 := hide hc1
  clear h hA hV hk hc1
  go_enter_defers Tryz.func21, Tryz.ntmps21
  go_wp2_with (first
    | (go_at_call 56; refine (lock_free Tryz.muLib ⟨sb, 0, none⟩ _ c0 f0).mono ?_; rintro e w' ⟨rfl, rfl⟩)
    | (go_at_call 58; refine (IS.out _).mono ?_; rintro e w' ⟨rfl, rfl⟩))
  refine leaves_cons (f := 57) (args := #[.pointer (some ⟨sb, 0, none⟩)]) (by simp) (by simp [go_sem]) ?_
  refine (unlock_deferred Tryz.muLib ⟨sb, 0, none⟩ .returning _ ?_ ?_).mono ?_
  · exact (HV.out.s0 1).c0
  · exact (HV.out.s0 1).fz 0
  rintro e u' w'' ⟨rfl, rfl, rfl⟩
  have hf := HV.out.freed (HV.out.s0 1) HC1.out
  exact ⟨_, results_tmp rfl _ _ _, rfl, HA.out.trans hf fun _ h _ => h⟩
end
end Go.Proofs.YtfaeidbgdcincaaGreatDoor
/- Walks: a store is opened on an empty calm disk: journal.Open, Open. -/
namespace Go.Proofs.YtfaeidbgdcincaaGreatDoor
open Go.RowKit Go.MuLone
attribute [local go_sem ↓] Go.wp_at_zero Go.wp_at_succ NoP_normal

section
variable {w w' w2 : World} {nm : List UInt8} {b : Nat} {D : DS} {F : Nat → FC} {Ft : Nat → Prop} {N C : Nat}
set_option maxRecDepth 100000 in
set_option maxHeartbeats 2000000 in
theorem jopen_empty (h : RepU w b D F Ft) (hlt : ∀ k, Ft k → k < w.heap.size) (hD : D.dir = []) :
    Calls Tryz.prog 54 #[.pointer (some ⟨b, 0, none⟩)] w fun e w' => ∃ jb, e = .returned (.tuple #[.pointer (some ⟨jb, 0, none⟩), .slice none 0 0, .int .i64 0]) ∧ JBlk w' jb b none ∧ Chg (fun _ => False) w w' ∧ w.heap.size ≤ jb := by
  have hA := (Chg.refl (fun _ => False) w).alloc (.cells #[.pointer (some ⟨b, 0, none⟩), .slice none 0 0, .int .i64 0, .int .i64 0, .pointer none] 141)
  have hbx : JBlk (w.alloc (.cells #[.pointer (some ⟨b, 0, none⟩), .slice none 0 0, .int .i64 0, .int .i64 0, .pointer none] 141)) w.heap.size b none := heap_alloc_new w _
  have hs : D.dir.length < 1099511627776 := by rw [hD]; decide
  have LI := hide (listU (h.same hlt hA) hs)
  have hl0 : D.dir.length = 0 := by rw [hD]; rfl
  rw [hl0] at LI
  have HA := hide hA
  clear h hlt hD hs hl0 hA
  generalize hw0 : (w.alloc (.cells #[.pointer (some ⟨b, 0, none⟩), .slice none 0 0, .int .i64 0, .int .i64 0, .pointer none] 141)) = w0 at HA hbx LI
  have HB := hide hbx
  clear hbx
  go_enter Tryz.func54, Tryz.ntmps54
  go_wp2_with (fail)
  refine LI.out.mono ?_
  rintro e w1 ⟨v, rfl, how, hc1, hfr⟩
  obtain ⟨ad, cap, rfl, -⟩ := ownsRow_form how
  have c3 := (HB.out.chg hc1 (fun h => h)).c3
  have f3 := (HB.out.chg hc1 (fun h => h)).fz 3
  have HB1 := hide (HB.out.chg hc1 (fun h => h))
  have HC1 : Hid (Chg (fun _ => False) w w1) := HA.out.trans hc1 fun _ h _ => h
  have HS := hide (HA.out.size)
  clear how hc1 hfr LI HB
  go_wp2
  go_loopw [6, 19] (fun av iv wr => av = .slice none 0 0 ∧ iv = .int .i64 0 ∧ wr = w1) (fun av iv _ => 0)
  case atStart => exact ⟨rfl, rfl, rfl⟩
  case round =>
    obtain ⟨rfl, rfl, rfl⟩ := hrel
    go_wp2
    refine bodyPost_ret (v := .tuple #[.pointer (some ⟨w.heap.size, 0, none⟩), .slice none 0 0, .int .i64 0]) (by simp [results, Tryz.results54, go_sem]) rfl ?_
    refine ⟨w.heap.size, rfl, ?_, ?_, Nat.le_refl _⟩
    · exact heap_setCell_at HB1.out
    · have h2 : JBlk (wr.setCell ⟨w.heap.size, 3, none⟩ (.int .i64 0)) w.heap.size b none := heap_setCell_at HB1.out
      have hc2 := (Chg.refl (One w.heap.size) wr).setAt (b := w.heap.size) rfl 3 (.int .i64 0)
      have h3 : Chg (fun _ => False) wr (wr.setCell ⟨w.heap.size, 3, none⟩ (.int .i64 0)) := by
        refine ⟨hc2.os, hc2.tape, hc2.output, hc2.size, fun k hk _ => ?_⟩
        by_cases e : k = w.heap.size
        · subst e
          have h1 := HB1.out
          unfold JBlk at h1 h2; rw [h1, h2]
        · exact hc2.block k hk e
      exact HC1.out.trans h3 fun _ h _ => h
theorem noRows (w : World) : RowsAt w (fun _ => .slice none 0 0) (fun _ => []) :=
  ⟨fun _ _ => World.ownsRow_nil _ _ _ _, fun _ _ => List.Pairwise.nil, fun _ _ => by simp, fun _ _ _ _ _ g h => by simp [Value.ownBlock] at h⟩
set_option maxRecDepth 100000 in
set_option maxHeartbeats 2000000 in
theorem open_calm (life window clock : Int) (h : RepU w b D F Ft) (hlt : ∀ k, Ft k → k < w.heap.size) (hca : Calm nm D F false N C) (hl : 1 ≤ life ∧ life ≤ 4611686018427387904) (hw : 1 ≤ window ∧ window ≤ 4611686018427387904) :
    Calls Tryz.prog 20 #[.pointer (some ⟨b, 0, none⟩), .agg #[.int .i64 life, .int .i64 window], .int .i64 clock] w fun e w' => ∃ sb jb, e = .returned (.tuple #[.pointer (some ⟨sb, 0, none⟩), .int .i64 0]) ∧
      StV w' nm sb jb b 0 life clock (fun _ => .slice none 0 0) (fun _ => []) none D F Ft N C ∧ Chg (fun _ => False) w w' ∧ w.heap.size ≤ sb ∧ w.heap.size ≤ jb := by
  have IS1 : Hid (∀ w', Calls Tryz.prog 53 #[.int .i64 life] w' fun e w'' => e = .returned (.bool true) ∧ w' = w'') := fun w' => by
    have := isSpan_any w' life
    rwa [decide_eq_true hl] at this
  have IS2 : Hid (∀ w', Calls Tryz.prog 53 #[.int .i64 window] w' fun e w'' => e = .returned (.bool true) ∧ w' = w'') := fun w' => by
    have := isSpan_any w' window
    rwa [decide_eq_true hw] at this
  have hA := (Chg.refl (fun _ => False) w).alloc (.cells #[.int .i64 life, .int .i64 window] 48)
  have hbx := heap_alloc_new w (.cells #[.int .i64 life, .int .i64 window] 48)
  generalize hw0 : (w.alloc (.cells #[.int .i64 life, .int .i64 window] 48)) = w0 at hA hbx
  have q0 : w0.cell? ⟨w.heap.size, 0, none⟩ = some (.int .i64 life) := by simp only [World.cell?, hbx]; rfl
  have q1 : w0.cell? ⟨w.heap.size, 1, none⟩ = some (.int .i64 window) := by simp only [World.cell?, hbx]; rfl
  have JO : Hid (Calls Tryz.prog 54 #[.pointer (some ⟨b, 0, none⟩)] w0 fun e w' => ∃ jb, e = .returned (.tuple #[.pointer (some ⟨jb, 0, none⟩), .slice none 0 0, .int .i64 0]) ∧ JBlk w' jb b none ∧ Chg (fun _ => False) w w' ∧ w.heap.size ≤ jb ∧ w'.cell? ⟨w.heap.size, 0, none⟩ = some (.int .i64 life) ∧ RepU w' b D F Ft) := by
    refine (jopen_empty (h.same hlt hA) (fun k hk => Nat.lt_of_lt_of_le (hlt k hk) hA.size) (hca.none_ rfl).1).mono ?_
    rintro e w' ⟨jb, rfl, h1, h2, h3⟩
    exact ⟨jb, rfl, h1, hA.trans h2 fun _ h _ => h, Nat.le_trans hA.size h3, h2.cellKeep q0, (h.same hlt hA).same (fun k hk => Nat.lt_of_lt_of_le (hlt k hk) hA.size) h2⟩
  have HLT := hide hlt
  have HCA := hide hca
  clear h hlt hca hl hw hA hbx
  go_enter Tryz.func20, Tryz.ntmps20
  go_wp2_with (first
    | (go_at_call 53; refine (IS1.out _).mono ?_; rintro e w' ⟨rfl, rfl⟩)
    | (go_at_call 53; refine (IS2.out _).mono ?_; rintro e w' ⟨rfl, rfl⟩)
    | (go_at_call 54; refine JO.out.mono ?_; rintro e w1 ⟨jb, rfl, hj, hc1, hjl, p0, hd⟩; have HJ := hide hj; have HC1 := hide hc1; have HJL := hide hjl; have HD := hide hd; clear hj hc1 hjl hd))
  go_loopw [41] (fun iv wr => iv = .int .i64 0 ∧ wr = (w1.alloc (.cells (stCells 0 (.pointer (some ⟨jb, 0, none⟩)) life clock false (fun _ => .slice none 0 0)) 107))) (fun iv _ => 0)
  case atStart => exact ⟨rfl, rfl⟩
  case round =>
    obtain ⟨rfl, rfl⟩ := hrel
    have hA1 := (Chg.refl (fun _ => False) w1).alloc (.cells (stCells 0 (.pointer (some ⟨jb, 0, none⟩)) life clock false (fun _ => .slice none 0 0)) 107)
    have hs := HC1.out.size
    have hjl := HJ.out.lt
    have hftl : ∀ k, Ft k → k < w1.heap.size := fun k hk => by have := HLT.out k hk; omega
    have FIN : Hid (StV (w1.alloc (.cells (stCells 0 (.pointer (some ⟨jb, 0, none⟩)) life clock false (fun _ => .slice none 0 0)) 107)) nm w1.heap.size jb b 0 life clock (fun _ => .slice none 0 0) (fun _ => []) none D F Ft N C ∧ Chg (fun _ => False) w (w1.alloc (.cells (stCells 0 (.pointer (some ⟨jb, 0, none⟩)) life clock false (fun _ => .slice none 0 0)) 107)) ∧ w.heap.size ≤ w1.heap.size ∧ w.heap.size ≤ jb) := by
      refine ⟨⟨heap_alloc_new w1 _, noRows _, ⟨HJ.out.chg hA1 (fun h => h), (fun _ _ e => by cases e), HD.out.same hftl hA1, (fun k hk => Nat.lt_of_lt_of_le (hftl k hk) hA1.size), HCA.out, fun hx => ?_⟩, ?_, ?_⟩, HC1.out.trans hA1 (fun _ h _ => h), hs, HJL.out⟩
      · have := HLT.out jb hx; have := HJL.out; omega
      · rintro (e | ⟨s, e⟩ | hx)
        · omega
        · cases e
        · have := hftl _ hx; omega
      · rintro g ⟨k, hk, e⟩
        simp [Value.ownBlock] at e
    clear hA1 hs hjl hftl HJ HC1 HD HLT HCA HJL IS1 IS2 q0 q1 p0 hw0 JO
    generalize (w1.alloc (.cells (stCells 0 (.pointer (some ⟨jb, 0, none⟩)) life clock false (fun _ => .slice none 0 0)) 107)) = w2 at FIN ⊢
    go_wp2
    go_ret2
    exact ⟨_, jb, rfl, FIN.out⟩
set_option maxRecDepth 100000 in
set_option maxHeartbeats 2000000 in
theorem open_bad (life window clock : Int) (db : Option Addr) (h : ¬ (1 ≤ life ∧ life ≤ 4611686018427387904) ∨ ¬ (1 ≤ window ∧ window ≤ 4611686018427387904)) :
    Calls Tryz.prog 20 #[.pointer db, .agg #[.int .i64 life, .int .i64 window], .int .i64 clock] w fun e w' => e = .returned (.tuple #[.pointer none, .int .i64 1]) ∧ Chg (fun _ => False) w w' := by
  have hA := (Chg.refl (fun _ => False) w).alloc (.cells #[.int .i64 life, .int .i64 window] 48)
  have hbx := heap_alloc_new w (.cells #[.int .i64 life, .int .i64 window] 48)
  generalize hw0 : (w.alloc (.cells #[.int .i64 life, .int .i64 window] 48)) = w0 at hA hbx
  have q0 : w0.cell? ⟨w.heap.size, 0, none⟩ = some (.int .i64 life) := by simp only [World.cell?, hbx]; rfl
  have q1 : w0.cell? ⟨w.heap.size, 1, none⟩ = some (.int .i64 window) := by simp only [World.cell?, hbx]; rfl
  have HA := hide hA
  clear hA hbx
  by_cases h1 : 1 ≤ life ∧ life ≤ 4611686018427387904
  · have h2 : ¬ (1 ≤ window ∧ window ≤ 4611686018427387904) := h.resolve_left (fun h => h h1)
    have IS1 : Hid (∀ w', Calls Tryz.prog 53 #[.int .i64 life] w' fun e w'' => e = .returned (.bool true) ∧ w' = w'') := fun w' => by
      have := isSpan_any w' life
      rwa [decide_eq_true h1] at this
    have IS2 : Hid (∀ w', Calls Tryz.prog 53 #[.int .i64 window] w' fun e w'' => e = .returned (.bool false) ∧ w' = w'') := fun w' => by
      have := isSpan_any w' window
      rwa [decide_eq_false h2] at this
    clear h h1 h2
    go_enter Tryz.func20, Tryz.ntmps20
    go_wp2_with (first
      | (go_at_call 53; refine (IS1.out _).mono ?_; rintro e w' ⟨rfl, rfl⟩)
      | (go_at_call 53; refine (IS2.out _).mono ?_; rintro e w' ⟨rfl, rfl⟩))
    go_ret2
    exact ⟨rfl, HA.out⟩
  · have IS1 : Hid (∀ w', Calls Tryz.prog 53 #[.int .i64 life] w' fun e w'' => e = .returned (.bool false) ∧ w' = w'') := fun w' => by
      have := isSpan_any w' life
      rwa [decide_eq_false h1] at this
    clear h h1
    go_enter Tryz.func20, Tryz.ntmps20
    go_wp2_with (go_at_call 53; refine (IS1.out _).mono ?_; rintro e w' ⟨rfl, rfl⟩)
    go_ret2
    exact ⟨rfl, HA.out⟩
end
end Go.Proofs.YtfaeidbgdcincaaGreatDoor
/- Walks: the laws' small functions: room, among, same. -/
namespace Go.Proofs.YtfaeidbgdcincaaGreatDoor
open Go.RowKit
attribute [local go_sem ↓] Go.wp_at_zero Go.wp_at_succ

set_option maxRecDepth 100000 in
set_option maxHeartbeats 1000000 in
theorem room_neg (w : World) (c : Int) (h : c < 0) : Calls Tryz.prog 36 #[.int .i64 c] w fun e w' => e = .returned (.int .i64 1152921504606846976) ∧ w = w' := by
  go_enter Tryz.func36, Tryz.ntmps36
  go_wp2
  go_ret
  exact ⟨rfl, rfl⟩
/-- A list of plain numbers, read. -/
def IntsAt (w : World) (g : Nat) (l : List Int) : Prop := ∀ k (hk : k < l.length), w.cell? ⟨g, k, none⟩ = some (.int .i64 (l[k]'hk))
set_option maxRecDepth 100000 in
set_option maxHeartbeats 1000000 in
theorem among_any (w : World) (g : Nat) (l : List Int) (x : Int) (h : IntsAt w g l) (hl : l.length < 1000) :
    Calls Tryz.prog 35 #[.slice (some ⟨g, 0, none⟩) l.length l.length, .int .i64 x] w fun e w' => e = .returned (.bool (decide (x ∈ l))) ∧ w = w' := by
  obtain ⟨q, hq⟩ : ∃ q, decide (x ∈ l) = q := ⟨_, rfl⟩
  rw [hq]
  have HQ := hide hq
  have H := hide h
  clear h hq
  go_enter Tryz.func35, Tryz.ntmps35
  go_wp2
  go_loopw [5] (fun iv wr => ∃ k : Nat, k ≤ l.length ∧ iv = .int .i64 k ∧ wr = w ∧ Hid (∀ i (hi : i < l.length), i < k → l[i]'hi ≠ x)) (fun iv _ => l.length - (intOf iv).toNat)
  case atStart => exact ⟨0, by omega, rfl, rfl, fun i hi h => by omega⟩
  case round =>
    obtain ⟨k, hk, rfl, rfl, hno⟩ := hrel
    have k0 : (0 : Int) ≤ (k : Int) := Int.natCast_nonneg _
    by_cases hlk : k < l.length
    · have k1 : (k : Int) < (l.length : Int) := by omega
      have k2 : (l.length : Int) < 1000 := by omega
      have hc := H.out k hlk
      obtain ⟨y, hy⟩ : ∃ y, l[k]'hlk = y := ⟨_, rfl⟩
      rw [hy] at hc
      by_cases hxy : y = x
      · have HT : Hid (q = true) := by
          rw [← HQ.out]; exact decide_eq_true (hxy ▸ hy ▸ List.getElem_mem hlk)
        subst hxy
        clear hy
        go_wp2
        go_ret
        rw [HT.out]; exact ⟨rfl, rfl⟩
      · have HN : Hid (∀ i (hi : i < l.length), i < k + 1 → l[i]'hi ≠ x) := fun i hi h => by
          by_cases e : i = k
          · subst e; rw [hy]; exact hxy
          · exact hno.out i hi (by omega)
        clear hy
        go_wp2
        go_roundw
        case rel => exact ⟨k + 1, by omega, by go_num, trivial, HN.out⟩
        case measure => simp [intOf]; omega
    · obtain rfl : k = l.length := by omega
      have HT : Hid (q = false) := by
        rw [← HQ.out]
        refine decide_eq_false fun hx => ?_
        obtain ⟨i, hi, e⟩ := List.mem_iff_getElem.1 hx
        exact hno.out i hi hi e
      go_wp2
      go_ret
      rw [HT.out]; exact ⟨rfl, rfl⟩
set_option maxRecDepth 100000 in
set_option maxHeartbeats 2000000 in
theorem same_eq (w : World) (va vb : Value) (l : List Pt) (ha : PtSl w va l) (hb : PtSl w vb l) (hl : l.length < 1099511627776) :
    Calls Tryz.prog 84 #[va, vb] w fun e w' => e = .returned (.bool true) ∧ Chg (fun _ => False) w w' := by
  obtain ⟨aa, ca, rfl, -, -, ha3, -, -⟩ := ownsRow_form ha
  obtain ⟨ab, cb, rfl, -, -, hb3, -, -⟩ := ownsRow_form hb
  have HA := hide ha
  have HB := hide hb
  have HA3 := hide ha3
  have HB3 := hide hb3
  clear ha hb ha3 hb3
  go_enter Tryz.func84, Tryz.ntmps84
  go_wp2
  go_loopw [5] (fun iv wr => ∃ k : Nat, k ≤ l.length ∧ iv = .int .i64 k ∧ Hid (Chg (fun _ => False) w wr)) (fun iv _ => l.length - (intOf iv).toNat)
  case atStart => exact ⟨0, by omega, rfl, Chg.refl _ _⟩
  case round =>
    obtain ⟨k, hk, rfl, hc⟩ := hrel
    obtain ⟨w0, hw0⟩ : ∃ w0, w0 = wr := ⟨_, rfl⟩
    subst hw0
    have k0 : (0 : Int) ≤ (k : Int) := Int.natCast_nonneg _
    by_cases hlk : k < l.length
    · have k1 : (k : Int) < (l.length : Int) := by omega
      have k2 : (l.length : Int) < 1099511627776 := by omega
      obtain ⟨ga, rfl⟩ := HA3.out (by omega)
      obtain ⟨gb, rfl⟩ := HB3.out (by omega)
      have hak : PtSl w0 _ l := ownsRow_same HA.out fun g hg => hc.out.block g (ownsRow_lt HA.out hg) (fun h => h)
      obtain ⟨a0, a1⟩ := hak.cells k hlk
      clear hak
      have hbk : PtSl w0 _ l := ownsRow_same HB.out fun g hg => hc.out.block g (ownsRow_lt HB.out hg) (fun h => h)
      obtain ⟨b0, b1⟩ := hbk.cells k hlk
      clear hbk
      obtain ⟨⟨t, v⟩, hx⟩ : ∃ p, l[k]'hlk = p := ⟨_, rfl⟩
      rw [hx] at a0 a1 b0 b1
      clear hx HA HB HA3 HB3
      go_wp2
      refine wp_region_sch (fun w' => w'.cell? ⟨ga, k * 2, none⟩ = some (.int .i64 t) ∧ w'.cell? ⟨ga, k * 2 + 1, none⟩ = some (.int .i64 v) ∧ w'.cell? ⟨gb, k * 2, none⟩ = some (.int .i64 t) ∧ w'.cell? ⟨gb, k * 2 + 1, none⟩ = some (.int .i64 v)) 23
        [(0, true), (1, true), (2, true), (3, true), (4, true), (5, true), (6, true), (7, true), (8, true), (9, true), (10, true), (11, true), (12, true), (13, true), (14, true), (15, true), (16, true), (17, true), (18, true), (19, true), (20, true), (21, true), (22, true)] (by kernel_rfl) (by kernel_rfl) (fun _ _ _ _ _ h => h) ⟨a0, a1, b0, b1⟩ ?_
      iterate 23 (refine wpSch_take (v := ?_) rfl (by rfl) ?_ ?_; rotate_left; (· (intro w' hS; (try dsimp only at hS); go_simp; try with_reducible rfl)); (try simp only [Act.put, List.setIfInBounds_toArray, List.set_cons_zero, List.set_cons_succ, List.getElem_toArray, List.getElem_cons_zero, List.getElem_cons_succ]))
      refine wpSch_end ?_
      simp only [List.drop_succ_cons, List.drop_zero]
      go_wp2
      go_roundw
      case rel => exact ⟨k + 1, by omega, by go_num, hc.out.drew⟩
      case measure => simp [intOf]; omega
    · obtain rfl : k = l.length := by omega
      go_wp2
      go_ret
      exact ⟨rfl, hc.out⟩
end Go.Proofs.YtfaeidbgdcincaaGreatDoor
