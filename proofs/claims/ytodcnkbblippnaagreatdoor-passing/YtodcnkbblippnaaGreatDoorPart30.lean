/-
  The statement PassingCardSaid is proved: the law Passing answers true, at every four numbers; there is no condition.
  Part 30 of 34.
-/
import Derived.Test.YtodcnkbblippnaaGreatDoorPart29
/- Walks: a store's Put, Sync, Flush, Compact, whatever the disk answers. -/
namespace Go.Proofs.YtodcnkbblippnaaGreatDoor
open Go.RowKit Go.MuLone
attribute [local go_sem ↓] Go.wp_at_zero Go.wp_at_succ NoP_normal

/-- The four boxes of a Put. -/
def boxed (w : World) (sb : Nat) (k t v : Int) : World :=
  (((w.alloc (.cells #[.pointer (some ⟨sb, 0, none⟩)] 36)).alloc (.cells #[.int .i64 k] 3)).alloc (.cells #[.int .i64 t] 3)).alloc (.cells #[.int .i64 v] 3)
/-- What the closure of a Put has hold of. -/
def PutBox (w : World) (x sb : Nat) (k t v : Int) : Prop :=
  w.cell? ⟨x, 0, none⟩ = some (.pointer (some ⟨sb, 0, none⟩)) ∧ w.cell? ⟨x + 1, 0, none⟩ = some (.int .i64 k) ∧ w.cell? ⟨x + 2, 0, none⟩ = some (.int .i64 t) ∧ w.cell? ⟨x + 3, 0, none⟩ = some (.int .i64 v)
section
variable {w w' w2 : World} {sb ab b B : Nat} {mu life win clock : Int} {ro : Bool} {lv : Nat → Value} {L L' : Nat → List Pt} {A A' : Ar} {P P' : PD} {F0 FT : Nat → Prop} {a c m N : Nat}
theorem boxed_chg (w : World) (sb : Nat) (k t v : Int) : Chg (fun _ => False) w (boxed w sb k t v) := ((((Chg.refl _ w).alloc _).alloc _).alloc _).alloc _
theorem boxed_size (w : World) (sb : Nat) (k t v : Int) : (boxed w sb k t v).heap.size = w.heap.size + 4 := by unfold boxed; simp
theorem boxed_box (w : World) (sb : Nat) (k t v : Int) : PutBox (boxed w sb k t v) w.heap.size sb k t v := by
  unfold boxed
  refine ⟨?_, ?_, ?_, ?_⟩
  all_goals unfold World.cell?
  · rw [Below.heap_alloc _ _ _ (by simp; try omega), Below.heap_alloc _ _ _ (by simp; try omega), Below.heap_alloc _ _ _ (by simp), heap_alloc_new]; rfl
  · rw [Below.heap_alloc _ _ _ (by simp; try omega), Below.heap_alloc _ _ _ (by simp)]
    have := heap_alloc_new (w.alloc (.cells #[.pointer (some ⟨sb, 0, none⟩)] 36)) (.cells #[.int .i64 k] 3)
    have e : (w.alloc (.cells #[.pointer (some ⟨sb, 0, none⟩)] 36)).heap.size = w.heap.size + 1 := by simp
    rw [e] at this; simp only [this]; rfl
  · rw [Below.heap_alloc _ _ _ (by simp)]
    have := heap_alloc_new ((w.alloc (.cells #[.pointer (some ⟨sb, 0, none⟩)] 36)).alloc (.cells #[.int .i64 k] 3)) (.cells #[.int .i64 t] 3)
    have e : ((w.alloc (.cells #[.pointer (some ⟨sb, 0, none⟩)] 36)).alloc (.cells #[.int .i64 k] 3)).heap.size = w.heap.size + 2 := by simp
    rw [e] at this; simp only [this]; rfl
  · have := heap_alloc_new (((w.alloc (.cells #[.pointer (some ⟨sb, 0, none⟩)] 36)).alloc (.cells #[.int .i64 k] 3)).alloc (.cells #[.int .i64 t] 3)) (.cells #[.int .i64 v] 3)
    have e : (((w.alloc (.cells #[.pointer (some ⟨sb, 0, none⟩)] 36)).alloc (.cells #[.int .i64 k] 3)).alloc (.cells #[.int .i64 t] 3)).heap.size = w.heap.size + 3 := by simp
    rw [e] at this; simp only [this]; rfl
theorem PutBox.chg {S : Nat → Prop} {x : Nat} {k t v : Int} (h : PutBox w x sb k t v) (hc : Chg S w w') (hS : ∀ i, i < 4 → ¬ S (x + i)) : PutBox w' x sb k t v := by
  obtain ⟨h0, h1, h2, h3⟩ := h
  have kc : ∀ i u, i < 4 → w.cell? ⟨x + i, 0, none⟩ = some u → w'.cell? ⟨x + i, 0, none⟩ = some u := fun i u hi hu => by
    have hb := World.block_lt_of_cell? w _ hu
    have hh := hc.block (x + i) hb (hS i hi)
    unfold World.cell? at hu ⊢; rw [hh]; exact hu
  exact ⟨kc 0 _ (by omega) h0, kc 1 _ (by omega) h1, kc 2 _ (by omega) h2, kc 3 _ (by omega) h3⟩
set_option maxRecDepth 100000 in
set_option maxHeartbeats 2000000 in
theorem put1_sf (w : World) (x : Nat) (p : Pu) (n : Int) (Q : World → Prop) (hx : PutBox w x sb p.1 p.2.1 p.2.2) (CL : Calls Tryz.prog 66 #[.pointer (some ⟨sb, 0, none⟩), puAgg p] w fun e w' => e = .returned (.int .i64 n) ∧ Q w') :
    Calls Tryz.prog 65 #[.pointer (some ⟨x, 0, none⟩), .pointer (some ⟨x + 1, 0, none⟩), .pointer (some ⟨x + 2, 0, none⟩), .pointer (some ⟨x + 3, 0, none⟩)] w fun e w' => e = .returned (.int .i64 n) ∧ Q w' := by
  obtain ⟨p1, p2, p3⟩ := p
  unfold puAgg at CL
  dsimp only at CL hx
  obtain ⟨x0, x1, x2, x3⟩ := hx
  have HC := hide CL
  clear CL
  go_enter Tryz.func65, Tryz.ntmps65
  go_wp2_with (go_at_call 66; refine HC.out.mono ?_; rintro e w2 ⟨rfl, hS⟩; have HS := hide hS; clear hS)
  go_ret
  exact ⟨rfl, HS.out⟩
/-- Behind the lock. -/
theorem SF.locked (h : SF w sb ab b 0 life win clock ro L A P FT) : Into w FT (w.setCell ⟨sb, 0, none⟩ (.int .i32 1)) (fun w' FT' => SF w' sb ab b 1 life win clock ro L A P FT') := h.cell 0 _ fun _ h => h.s0 1
set_option maxRecDepth 100000 in
set_option maxHeartbeats 4000000 in
theorem put_sf (w : World) (p : Pu) (h : SF w sb ab b 0 life win clock false L A P FT) (hFT : ∀ k, FT k → k < w.heap.size) (hp : PuOk p) (hn : A.j.own = none → NumOk (A.j.last + 1) ∧ In64 (A.j.last + 1) ∧ In64 A.j.puts) (hll : A.j.logs.length ≤ 1073741824)
    (hL : Lets B w) (hLB : ∀ k, FT k → B ≤ k) (hF : Fit P a c m) (hlm : Lim (a + 1) (c + 1) (m + 33)) (hsm : ∀ k, k < 8 → (L k).length < 1099511627000) (hl : 1 ≤ life ∧ life ≤ 4611686018427387904) (hc : In64 clock) :
    Calls Tryz.prog 23 #[.pointer (some ⟨sb, 0, none⟩), .int .i64 p.1, .int .i64 p.2.1, .int .i64 p.2.2] w fun e w' => e = .returned (.int .i64 (A.add P p).2.1) ∧
      Into w FT w' (fun w' FT' => SF w' sb ab b 0 life win clock (decide ((A.add P p).2.1 ≠ 0)) (if (A.add P p).1 = true then keptL L (oldestN clock life) p.1.toNat p.2.1 p.2.2 else L) (A.add P p).2.2.1 (A.add P p).2.2.2 FT') := by
  have IS : Hid (∀ w', Calls Tryz.prog 63 #[.int .i64 p.1] w' fun e w'' => e = .returned (.bool true) ∧ w' = w'') := fun w' => by
    have := isSeries_any w' p.1
    rwa [decide_eq_true hp.1] at this
  have hA := boxed_chg w sb p.1 p.2.1 p.2.2
  have hX := boxed_box w sb p.1 p.2.1 p.2.2
  have hZ := boxed_size w sb p.1 p.2.1 p.2.2
  generalize hw0 : boxed w sb p.1 p.2.1 p.2.2 = w0 at hA hX hZ
  unfold boxed at hw0
  have hV := h.chg0 hA
  have hLA := hL.keep0 hA
  have hlk := hV.locked
  have hX1 : PutBox (w0.setCell ⟨sb, 0, none⟩ (.int .i32 1)) w.heap.size sb p.1 p.2.1 p.2.2 := hX.chg hlk.1 fun i _ hx => by have := hFT _ hx; omega
  have HI1 : Hid (Into w FT (w0.setCell ⟨sb, 0, none⟩ (.int .i32 1)) (fun w' FT' => SF w' sb ab b 1 life win clock false L A P FT')) := hlk.before hA
  obtain ⟨k1, F1, s1, s2, s3⟩ := HI1.out
  have hL1 := hLA.keep hlk.1 hLB
  have hBw := hL.1
  have CH := hide (change_put (w0.setCell ⟨sb, 0, none⟩ (.int .i32 1)) w.heap.size (A.add P p).2.1 s1 (put1_sf _ w.heap.size p _ _ hX1
    (add_sf _ p s1 s2 hp hn hll hL1 (fun k hk => (s3 k hk).elim (hLB k) fun h => Nat.le_trans hBw h) hF hlm hsm hl hc)))
  have ST : Hid (∀ wx R, Into (w0.setCell ⟨sb, 0, none⟩ (.int .i32 1)) F1 wx R → Into w FT wx R) := fun wx R h => Into.step k1 s3 h
  obtain ⟨x0, x1, x2, x3⟩ := hX
  obtain ⟨y0, y1, y2, y3⟩ := hX1
  have c0 : w0.cell? ⟨sb, 0, none⟩ = some (.int .i32 0) := by obtain ⟨lv, F0, q, -⟩ := hV; exact q.blk.c0
  have f0 : w0.frozen? ⟨sb, 0, none⟩ = false := by obtain ⟨lv, F0, q, -⟩ := hV; exact q.blk.fz 0
  obtain ⟨p1, p2, p3⟩ := p
  dsimp only at *
  obtain ⟨R, hR⟩ : ∃ R, A.add P (p1, p2, p3) = R := ⟨_, rfl⟩
  rw [hR] at CH ⊢
  obtain ⟨R1, R2, R3, R4⟩ := R
  dsimp only at CH ⊢
  obtain ⟨L2, hL2⟩ : ∃ L2, (if R1 = true then keptL L (oldestN clock life) p1.toNat p2 p3 else L) = L2 := ⟨_, rfl⟩
  rw [hL2] at CH ⊢
  clear hL2 hR h hFT hp hn hll hL hLB hF hlm hsm hl hc hA hZ hV hLA hlk s1 s2 hL1 hBw k1 s3 HI1
  go_enter_defers Tryz.func23, Tryz.ntmps23
  go_wp2_with (first
    | (go_at_call 61; refine (lock_free Tryz.muLib ⟨sb, 0, none⟩ _ c0 f0).mono ?_; rintro e w' ⟨rfl, rfl⟩)
    | (go_at_call 63; refine (IS.out _).mono ?_; rintro e w' ⟨rfl, rfl⟩))
  refine CH.out.mono ?_
  rintro e w2 ⟨rfl, hS⟩
  have HS := hide (ST.out _ _ hS)
  clear hS CH x0 x1 x2 x3 y0 y1 y2 y3 ST
  go_wp2
  refine leaves_cons (f := 62) (args := #[.pointer (some ⟨sb, 0, none⟩)]) (by simp) (by simp [go_sem]) ?_
  refine (unlock_deferred Tryz.muLib ⟨sb, 0, none⟩ .returning _ ?_ ?_).mono ?_
  · obtain ⟨-, F2, ⟨lv2, F3, a1, -⟩, -, -⟩ := HS.out; exact a1.blk.c0
  · obtain ⟨-, F2, ⟨lv2, F3, a1, -⟩, -, -⟩ := HS.out; exact a1.blk.fz 0
  rintro e u' w'' ⟨rfl, rfl, rfl⟩
  exact ⟨_, results_tmp rfl _ _ _, rfl, SFto.cell HS.out 0 _ fun lv h => h.s0 0⟩
set_option maxRecDepth 100000 in
set_option maxHeartbeats 4000000 in
theorem flush1_sf (w : World) (x : Nat) (n : Int) (Q : World → Prop) (h : SBlk w sb mu (.pointer (some ⟨ab, 0, none⟩)) life win clock ro lv) (hx : w.cell? ⟨x, 0, none⟩ = some (.pointer (some ⟨sb, 0, none⟩)))
    (CL : Calls Tryz.prog 68 #[.pointer (some ⟨ab, 0, none⟩), .int .i64 win] w.drew fun e w' => e = .returned (.int .i64 n) ∧ Q w') :
    Calls Tryz.prog 67 #[.pointer (some ⟨x, 0, none⟩)] w fun e w' => e = .returned (.int .i64 n) ∧ Q w' := by
  have c2 := h.c2
  have cw := h.cW
  have HC := hide CL
  clear h CL
  go_enter Tryz.func67, Tryz.ntmps67
  go_wp2
  refine wp_region_sch (fun w' => w'.cell? ⟨x, 0, none⟩ = some (.pointer (some ⟨sb, 0, none⟩)) ∧ w'.cell? ⟨sb, 2, none⟩ = some (.pointer (some ⟨ab, 0, none⟩)) ∧ w'.cell? ⟨sb, 4, none⟩ = some (.int .i64 win)) 8
    [(0, true), (1, true), (2, true), (3, true), (4, true), (5, true), (6, true), (7, true)] (by kernel_rfl) (by kernel_rfl) (fun _ _ _ _ _ h => h) ⟨hx, c2, cw⟩ ?_
  iterate 8 (refine wpSch_take (v := ?_) rfl (by rfl) ?_ ?_; rotate_left; (· (intro w' hS; (try dsimp only at hS); go_simp; try with_reducible rfl)); (try simp only [Act.put, List.setIfInBounds_toArray, List.set_cons_zero, List.set_cons_succ, List.getElem_toArray, List.getElem_cons_zero, List.getElem_cons_succ]))
  refine wpSch_end ?_
  simp only [List.drop_succ_cons, List.drop_zero]
  go_wp2_with (go_at_call 68; refine HC.out.mono ?_; rintro e w2 ⟨rfl, hS⟩; have HS := hide hS; clear hS)
  go_ret
  exact ⟨rfl, HS.out⟩
set_option maxRecDepth 100000 in
set_option maxHeartbeats 4000000 in
theorem compact1_sf (w : World) (x : Nat) (n o : Int) (Q : World → Prop) (h : SBlk w sb mu (.pointer (some ⟨ab, 0, none⟩)) life win clock ro lv) (hx : w.cell? ⟨x, 0, none⟩ = some (.pointer (some ⟨sb, 0, none⟩)))
    (OL : Calls Tryz.prog 71 #[.pointer (some ⟨sb, 0, none⟩)] w.drew fun e w' => e = .returned (.int .i64 o) ∧ Chg (fun _ => False) w.drew w')
    (CL : ∀ w2, Chg (fun _ => False) w w2 → Calls Tryz.prog 70 #[.pointer (some ⟨ab, 0, none⟩), .int .i64 win, .int .i64 o] w2 fun e w' => e = .returned (.int .i64 n) ∧ Q w') :
    Calls Tryz.prog 69 #[.pointer (some ⟨x, 0, none⟩)] w fun e w' => e = .returned (.int .i64 n) ∧ Q w' := by
  have c2 := h.c2
  have cw := h.cW
  have HC := hide CL
  have HO : Hid (Calls Tryz.prog 71 #[.pointer (some ⟨sb, 0, none⟩)] w.drew fun e w' => e = .returned (.int .i64 o) ∧ (w'.cell? ⟨x, 0, none⟩ = some (.pointer (some ⟨sb, 0, none⟩)) ∧ w'.cell? ⟨sb, 2, none⟩ = some (.pointer (some ⟨ab, 0, none⟩)) ∧ w'.cell? ⟨sb, 4, none⟩ = some (.int .i64 win)) ∧ Chg (fun _ => False) w w') := by
    refine OL.mono ?_
    rintro e w' ⟨rfl, hk⟩
    have hk' : Chg (fun _ => False) w w' := (Chg.refl _ w).drew.trans hk fun _ h _ => h
    exact ⟨rfl, ⟨hk'.cellKeep hx, hk'.cellKeep c2, hk'.cellKeep cw⟩, hk'⟩
  clear h CL OL
  go_enter Tryz.func69, Tryz.ntmps69
  go_wp2
  refine wp_region_sch (fun w' => w'.cell? ⟨x, 0, none⟩ = some (.pointer (some ⟨sb, 0, none⟩)) ∧ w'.cell? ⟨sb, 2, none⟩ = some (.pointer (some ⟨ab, 0, none⟩)) ∧ w'.cell? ⟨sb, 4, none⟩ = some (.int .i64 win)) 10
    [(0, true), (1, true), (2, true), (3, true), (4, true), (5, true), (6, true), (7, true), (8, true), (9, false)] (by kernel_rfl) (by kernel_rfl) (fun _ _ _ _ _ h => h) ⟨hx, c2, cw⟩ ?_
  iterate 9 (refine wpSch_take (v := ?_) rfl (by rfl) ?_ ?_; rotate_left; (· (intro w' hS; (try dsimp only at hS); go_simp; try with_reducible rfl)); (try simp only [Act.put, List.setIfInBounds_toArray, List.set_cons_zero, List.set_cons_succ, List.getElem_toArray, List.getElem_cons_zero, List.getElem_cons_succ]))
  refine wpSch_do rfl (by rfl) (fun K hK => ?_)
  go_simp
  refine HO.out.mono ?_
  rintro e w2 ⟨rfl, hS2, hk⟩
  refine hK _ _ hS2 (fun hS => ?_)
  have HC2 := hide (HC.out w2 hk)
  clear hK K hS hS2 hk HO HC
  (try simp only [Act.put, List.setIfInBounds_toArray, List.set_cons_zero, List.set_cons_succ, List.getElem_toArray, List.getElem_cons_zero, List.getElem_cons_succ])
  refine wpSch_end ?_
  simp only [List.drop_succ_cons, List.drop_zero]
  go_wp2_with (go_at_call 70; refine HC2.out.mono ?_; rintro e w3 ⟨rfl, hS⟩; have HS := hide hS; clear hS)
  go_ret
  exact ⟨rfl, HS.out⟩
set_option maxRecDepth 100000 in
set_option maxHeartbeats 4000000 in
theorem store_flush (w : World) (n : Int) (Q : World → Prop) (c0 : w.cell? ⟨sb, 0, none⟩ = some (.int .i32 0)) (f0 : w.frozen? ⟨sb, 0, none⟩ = false) (hz : sb < w.heap.size)
    (CH : ∀ w1, w1 = (w.alloc (.cells #[.pointer (some ⟨sb, 0, none⟩)] 36)).setCell ⟨sb, 0, none⟩ (.int .i32 1) → Calls Tryz.prog 64 #[.pointer (some ⟨sb, 0, none⟩), .func (Fn.func 67) #[] #[.pointer (some ⟨w.heap.size, 0, none⟩)]] w1 fun e w' => e = .returned (.int .i64 n) ∧ w'.cell? ⟨sb, 0, none⟩ = some (.int .i32 1) ∧ w'.frozen? ⟨sb, 0, none⟩ = false ∧ Q w') :
    Calls Tryz.prog 24 #[.pointer (some ⟨sb, 0, none⟩)] w fun e w' => e = .returned (.int .i64 n) ∧ ∃ w2, Q w2 ∧ w' = w2.setCell ⟨sb, 0, none⟩ (.int .i32 0) := by
  have hA : Chg (fun _ => False) w (w.alloc (.cells #[.pointer (some ⟨sb, 0, none⟩)] 36)) := (Chg.refl _ w).alloc _
  have hbx := heap_alloc_new w (.cells #[.pointer (some ⟨sb, 0, none⟩)] 36)
  have a0 := hA.cellKeep c0
  have fa : (w.alloc (.cells #[.pointer (some ⟨sb, 0, none⟩)] 36)).frozen? ⟨sb, 0, none⟩ = false := by
    have hb := hA.block sb hz (fun h => h)
    unfold World.frozen? at f0 ⊢; rw [hb]; exact f0
  have HC := hide (CH _ rfl)
  have b0 : (w.alloc (.cells #[.pointer (some ⟨sb, 0, none⟩)] 36)).cell? ⟨w.heap.size, 0, none⟩ = some (.pointer (some ⟨sb, 0, none⟩)) := by simp only [World.cell?, hbx]; rfl
  have hne : w.heap.size ≠ sb := by omega
  have b1 : ((w.alloc (.cells #[.pointer (some ⟨sb, 0, none⟩)] 36)).setCell ⟨sb, 0, none⟩ (.int .i32 1)).cell? ⟨w.heap.size, 0, none⟩ = some (.pointer (some ⟨sb, 0, none⟩)) := by
    have hc1 := (Chg.refl (One sb) (w.alloc (.cells #[.pointer (some ⟨sb, 0, none⟩)] 36))).setAt (b := sb) rfl 0 (.int .i32 1)
    have hb := hc1.block w.heap.size (by simp) (fun h => hne h)
    unfold World.cell? at b0 ⊢; rw [hb]; exact b0
  clear CH c0 f0 hA hbx hne
  generalize hw0 : (w.alloc (.cells #[.pointer (some ⟨sb, 0, none⟩)] 36)) = w0 at a0 fa HC b0 b1
  go_enter_defers Tryz.func24, Tryz.ntmps24
  go_wp2_with (go_at_call 61; refine (lock_free Tryz.muLib ⟨sb, 0, none⟩ _ a0 fa).mono ?_; rintro e w' ⟨rfl, rfl⟩)
  refine HC.out.mono ?_
  rintro e w2 ⟨rfl, u0, uf, hS⟩
  have HS := hide hS
  clear hS HC b0 b1
  go_wp2
  refine leaves_cons (f := 62) (args := #[.pointer (some ⟨sb, 0, none⟩)]) (by simp) (by simp [go_sem]) ?_
  refine (unlock_deferred Tryz.muLib ⟨sb, 0, none⟩ .returning _ ?_ ?_).mono ?_
  · exact u0
  · exact uf
  rintro e u' w'' ⟨rfl, rfl, rfl⟩
  exact ⟨_, results_tmp rfl _ _ _, rfl, _, HS.out, rfl⟩
set_option maxRecDepth 100000 in
set_option maxHeartbeats 4000000 in
theorem store_compact (w : World) (n : Int) (Q : World → Prop) (c0 : w.cell? ⟨sb, 0, none⟩ = some (.int .i32 0)) (f0 : w.frozen? ⟨sb, 0, none⟩ = false) (hz : sb < w.heap.size)
    (CH : ∀ w1, w1 = (w.alloc (.cells #[.pointer (some ⟨sb, 0, none⟩)] 36)).setCell ⟨sb, 0, none⟩ (.int .i32 1) → Calls Tryz.prog 64 #[.pointer (some ⟨sb, 0, none⟩), .func (Fn.func 69) #[] #[.pointer (some ⟨w.heap.size, 0, none⟩)]] w1 fun e w' => e = .returned (.int .i64 n) ∧ w'.cell? ⟨sb, 0, none⟩ = some (.int .i32 1) ∧ w'.frozen? ⟨sb, 0, none⟩ = false ∧ Q w') :
    Calls Tryz.prog 25 #[.pointer (some ⟨sb, 0, none⟩)] w fun e w' => e = .returned (.int .i64 n) ∧ ∃ w2, Q w2 ∧ w' = w2.setCell ⟨sb, 0, none⟩ (.int .i32 0) := by
  have hA : Chg (fun _ => False) w (w.alloc (.cells #[.pointer (some ⟨sb, 0, none⟩)] 36)) := (Chg.refl _ w).alloc _
  have hbx := heap_alloc_new w (.cells #[.pointer (some ⟨sb, 0, none⟩)] 36)
  have a0 := hA.cellKeep c0
  have fa : (w.alloc (.cells #[.pointer (some ⟨sb, 0, none⟩)] 36)).frozen? ⟨sb, 0, none⟩ = false := by
    have hb := hA.block sb hz (fun h => h)
    unfold World.frozen? at f0 ⊢; rw [hb]; exact f0
  have HC := hide (CH _ rfl)
  have b0 : (w.alloc (.cells #[.pointer (some ⟨sb, 0, none⟩)] 36)).cell? ⟨w.heap.size, 0, none⟩ = some (.pointer (some ⟨sb, 0, none⟩)) := by simp only [World.cell?, hbx]; rfl
  have hne : w.heap.size ≠ sb := by omega
  have b1 : ((w.alloc (.cells #[.pointer (some ⟨sb, 0, none⟩)] 36)).setCell ⟨sb, 0, none⟩ (.int .i32 1)).cell? ⟨w.heap.size, 0, none⟩ = some (.pointer (some ⟨sb, 0, none⟩)) := by
    have hc1 := (Chg.refl (One sb) (w.alloc (.cells #[.pointer (some ⟨sb, 0, none⟩)] 36))).setAt (b := sb) rfl 0 (.int .i32 1)
    have hb := hc1.block w.heap.size (by simp) (fun h => hne h)
    unfold World.cell? at b0 ⊢; rw [hb]; exact b0
  clear CH c0 f0 hA hbx hne
  generalize hw0 : (w.alloc (.cells #[.pointer (some ⟨sb, 0, none⟩)] 36)) = w0 at a0 fa HC b0 b1
  go_enter_defers Tryz.func25, Tryz.ntmps25
  go_wp2_with (go_at_call 61; refine (lock_free Tryz.muLib ⟨sb, 0, none⟩ _ a0 fa).mono ?_; rintro e w' ⟨rfl, rfl⟩)
  refine HC.out.mono ?_
  rintro e w2 ⟨rfl, u0, uf, hS⟩
  have HS := hide hS
  clear hS HC b0 b1
  go_wp2
  refine leaves_cons (f := 62) (args := #[.pointer (some ⟨sb, 0, none⟩)]) (by simp) (by simp [go_sem]) ?_
  refine (unlock_deferred Tryz.muLib ⟨sb, 0, none⟩ .returning _ ?_ ?_).mono ?_
  · exact u0
  · exact uf
  rintro e u' w'' ⟨rfl, rfl, rfl⟩
  exact ⟨_, results_tmp rfl _ _ _, rfl, _, HS.out, rfl⟩
end
end Go.Proofs.YtodcnkbblippnaaGreatDoor
/- Walks: a store's Sync, Flush, Compact over what the archive's answer. -/
namespace Go.Proofs.YtodcnkbblippnaaGreatDoor
open Go.RowKit Go.MuLone

section
variable {w w' w2 : World} {sb ab b B : Nat} {mu life win clock : Int} {ro : Bool} {lv : Nat → Value} {L L' : Nat → List Pt} {A A' : Ar} {P P' : PD} {F0 FT : Nat → Prop} {a c m N : Nat}
theorem SF.c0 (h : SF w sb ab b mu life win clock ro L A P FT) : w.cell? ⟨sb, 0, none⟩ = some (.int .i32 mu) ∧ w.frozen? ⟨sb, 0, none⟩ = false ∧ sb < w.heap.size ∧ w.cell? ⟨sb, 2, none⟩ = some (.pointer (some ⟨ab, 0, none⟩)) := by
  obtain ⟨lv, F0, q, -⟩ := h
  exact ⟨q.blk.c0, q.blk.fz 0, q.blk.lt, q.blk.c2⟩
/-- The archive's answer, within the store. -/
theorem SF.call (h : SF w sb ab b mu life win clock ro L A P FT) (hLB : ∀ k, FT k → B ≤ k) (f : Nat) (args : List Value) (n : Int) (hL : Lets B w)
    (CL : ∀ w1 F0, AD w1 ab b A P F0 → (∀ k, F0 k → k < w1.heap.size) → Lets B w1 → (∀ k, F0 k → B ≤ k) → Calls Tryz.prog f args.toArray w1 fun e w' => e = .returned (.int .i64 n) ∧ Into w1 F0 w' (fun w' FT' => AD w' ab b A' P' FT')) :
    Calls Tryz.prog f args.toArray w fun e w' => e = .returned (.int .i64 n) ∧ Into w FT w' (fun w' FT' => SF w' sb ab b mu life win clock ro L A' P' FT') := by
  obtain ⟨lv, F0, q, hs⟩ := h
  refine (CL w F0 q.ar q.lt hL (fun k hk => hLB k (hs k (.inl hk)))).mono ?_
  rintro e w' ⟨rfl, hI⟩
  exact ⟨rfl, q.arTo hs hI⟩
theorem flush_sf (w : World) (n : Int) (h : SF w sb ab b 0 life win clock false L A P FT) (hFT : ∀ k, FT k → k < w.heap.size) (hL : Lets B w) (hLB : ∀ k, FT k → B ≤ k)
    (CL : ∀ w1 F0, AD w1 ab b A P F0 → (∀ k, F0 k → k < w1.heap.size) → Lets B w1 → (∀ k, F0 k → B ≤ k) → Calls Tryz.prog 68 #[.pointer (some ⟨ab, 0, none⟩), .int .i64 win] w1 fun e w' => e = .returned (.int .i64 n) ∧ Into w1 F0 w' (fun w' FT' => AD w' ab b A' P' FT')) :
    Calls Tryz.prog 24 #[.pointer (some ⟨sb, 0, none⟩)] w fun e w' => e = .returned (.int .i64 n) ∧ Into w FT w' (fun w' FT' => SF w' sb ab b 0 life win clock (decide (n ≠ 0)) L A' P' FT') := by
  obtain ⟨c0, f0, hz, -⟩ := h.c0
  have hA : Chg (fun _ => False) w (w.alloc (.cells #[.pointer (some ⟨sb, 0, none⟩)] 36)) := (Chg.refl _ w).alloc _
  have hbx := heap_alloc_new w (.cells #[.pointer (some ⟨sb, 0, none⟩)] 36)
  have hBw := hL.1
  refine (store_flush w n (fun w2 => Into w FT w2 (fun w' FT' => SF w' sb ab b 1 life win clock (decide (n ≠ 0)) L A' P' FT')) c0 f0 hz (fun w1 hw1 => ?_)).mono ?_
  · have hI1 := (h.chg0 hA).locked
    rw [← hw1] at hI1
    obtain ⟨k1, F1, s1, s2, s3⟩ := hI1
    have hL1 := (hL.keep0 hA).keep k1 hLB
    have b0 : (w.alloc (.cells #[.pointer (some ⟨sb, 0, none⟩)] 36)).cell? ⟨w.heap.size, 0, none⟩ = some (.pointer (some ⟨sb, 0, none⟩)) := by simp only [World.cell?, hbx]; rfl
    have hx : w1.cell? ⟨w.heap.size, 0, none⟩ = some (.pointer (some ⟨sb, 0, none⟩)) := by
      have hb := k1.block w.heap.size (by simp) (fun hx => Nat.lt_irrefl _ (hFT _ hx))
      unfold World.cell? at b0 ⊢; rw [hb]; exact b0
    have hLB1 : ∀ k, F1 k → B ≤ k := fun k hk => (s3 k hk).elim (hLB k) fun h => Nat.le_trans hBw (Nat.le_trans hA.size h)
    obtain ⟨lv1, F2, q, hs⟩ := s1
    have s1 : SF w1 sb ab b 1 life win clock false L A P F1 := ⟨lv1, F2, q, hs⟩
    have body : Calls Tryz.prog 67 #[.pointer (some ⟨w.heap.size, 0, none⟩)] w1 fun e w' => e = .returned (.int .i64 n) ∧ Into w1 F1 w' (fun w' FT' => SF w' sb ab b 1 life win clock false L A' P' FT') := by
      have kd : Chg (fun _ => False) w1 w1.drew := (Chg.refl _ w1).drew
      refine flush1_sf w1 w.heap.size n _ q.blk hx ?_
      refine ((s1.chg0 kd).call hLB1 _ [.pointer (some ⟨ab, 0, none⟩), .int .i64 win] n (hL1.keep0 kd) CL).mono ?_
      rintro e w' ⟨rfl, hI⟩
      exact ⟨rfl, hI.before kd⟩
    refine (change_flush w1 w.heap.size n s1 body).mono ?_
    rintro e w' ⟨rfl, hI⟩
    have hI' := (Into.step k1 s3 hI).before hA
    obtain ⟨-, F3, q3, -, -⟩ := hI
    obtain ⟨d0, df, -, -⟩ := q3.c0
    exact ⟨rfl, d0, df, hI'⟩
  · rintro e w' ⟨rfl, w2, hI, rfl⟩
    exact ⟨rfl, SFto.cell hI 0 _ fun lv h => h.s0 0⟩
theorem compact_sf (w : World) (n : Int) (h : SF w sb ab b 0 life win clock false L A P FT) (hFT : ∀ k, FT k → k < w.heap.size) (hL : Lets B w) (hLB : ∀ k, FT k → B ≤ k) (hl : 1 ≤ life ∧ life ≤ 4611686018427387904) (hc : In64 clock)
    (CL : ∀ w1 F0, AD w1 ab b A P F0 → (∀ k, F0 k → k < w1.heap.size) → Lets B w1 → (∀ k, F0 k → B ≤ k) → Calls Tryz.prog 70 #[.pointer (some ⟨ab, 0, none⟩), .int .i64 win, .int .i64 (oldestN clock life)] w1 fun e w' => e = .returned (.int .i64 n) ∧ Into w1 F0 w' (fun w' FT' => AD w' ab b A' P' FT')) :
    Calls Tryz.prog 25 #[.pointer (some ⟨sb, 0, none⟩)] w fun e w' => e = .returned (.int .i64 n) ∧ Into w FT w' (fun w' FT' => SF w' sb ab b 0 life win clock (decide (n ≠ 0)) L A' P' FT') := by
  obtain ⟨c0, f0, hz, -⟩ := h.c0
  have hA : Chg (fun _ => False) w (w.alloc (.cells #[.pointer (some ⟨sb, 0, none⟩)] 36)) := (Chg.refl _ w).alloc _
  have hbx := heap_alloc_new w (.cells #[.pointer (some ⟨sb, 0, none⟩)] 36)
  have hBw := hL.1
  refine (store_compact w n (fun w2 => Into w FT w2 (fun w' FT' => SF w' sb ab b 1 life win clock (decide (n ≠ 0)) L A' P' FT')) c0 f0 hz (fun w1 hw1 => ?_)).mono ?_
  · have hI1 := (h.chg0 hA).locked
    rw [← hw1] at hI1
    obtain ⟨k1, F1, s1, s2, s3⟩ := hI1
    have hL1 := (hL.keep0 hA).keep k1 hLB
    have b0 : (w.alloc (.cells #[.pointer (some ⟨sb, 0, none⟩)] 36)).cell? ⟨w.heap.size, 0, none⟩ = some (.pointer (some ⟨sb, 0, none⟩)) := by simp only [World.cell?, hbx]; rfl
    have hx : w1.cell? ⟨w.heap.size, 0, none⟩ = some (.pointer (some ⟨sb, 0, none⟩)) := by
      have hb := k1.block w.heap.size (by simp) (fun hx => Nat.lt_irrefl _ (hFT _ hx))
      unfold World.cell? at b0 ⊢; rw [hb]; exact b0
    have hLB1 : ∀ k, F1 k → B ≤ k := fun k hk => (s3 k hk).elim (hLB k) fun h => Nat.le_trans hBw (Nat.le_trans hA.size h)
    obtain ⟨lv1, F2, q, hs⟩ := s1
    have s1 : SF w1 sb ab b 1 life win clock false L A P F1 := ⟨lv1, F2, q, hs⟩
    have body : Calls Tryz.prog 69 #[.pointer (some ⟨w.heap.size, 0, none⟩)] w1 fun e w' => e = .returned (.int .i64 n) ∧ Into w1 F1 w' (fun w' FT' => SF w' sb ab b 1 life win clock false L A' P' FT') := by
      have kd : Chg (fun _ => False) w1 w1.drew := (Chg.refl _ w1).drew
      refine compact1_sf w1 w.heap.size n (oldestN clock life) _ q.blk hx (oldest_any w1.drew sb clock life (q.blk.chg kd fun h => h).c3 (q.blk.chg kd fun h => h).cK hl hc) fun w2 kk => ?_
      refine ((s1.chg0 kk).call hLB1 _ [.pointer (some ⟨ab, 0, none⟩), .int .i64 win, .int .i64 (oldestN clock life)] n (hL1.keep0 kk) CL).mono ?_
      rintro e w' ⟨rfl, hI⟩
      exact ⟨rfl, hI.before kk⟩
    refine (change_compact w1 w.heap.size n s1 body).mono ?_
    rintro e w' ⟨rfl, hI⟩
    have hI' := (Into.step k1 s3 hI).before hA
    obtain ⟨-, F3, q3, -, -⟩ := hI
    obtain ⟨d0, df, -, -⟩ := q3.c0
    exact ⟨rfl, d0, df, hI'⟩
  · rintro e w' ⟨rfl, w2, hI, rfl⟩
    exact ⟨rfl, SFto.cell hI 0 _ fun lv h => h.s0 0⟩
end
end Go.Proofs.YtodcnkbblippnaaGreatDoor
/- Walk: a store is opened: Open. -/
namespace Go.Proofs.YtodcnkbblippnaaGreatDoor
open Go.RowKit Go.MuLone
attribute [local go_sem ↓] Go.wp_at_zero Go.wp_at_succ NoP_normal

theorem noRows (w : World) : RowsAt w (fun _ => .slice none 0 0) (fun _ => []) :=
  ⟨fun _ _ => World.ownsRow_nil _ _ _ _, fun _ _ => List.Pairwise.nil, fun _ _ => by simp, fun _ _ _ _ _ g h => by simp [Value.ownBlock] at h⟩
/-- The rows behind so many Puts. -/
def keptAll (o : Int) (ps : List Pu) : Nat → List Pt := ps.foldl (fun L p => keptL L o p.1.toNat p.2.1 p.2.2) (fun _ => [])
theorem keptAll_snoc (o : Int) (ps : List Pu) (p : Pu) : keptAll o (ps ++ [p]) = keptL (keptAll o ps) o p.1.toNat p.2.1 p.2.2 := by simp [keptAll]
theorem keptAll_len (o : Int) (k : Nat) : ∀ n (ps : List Pu), ps.length = n → (keptAll o ps k).length ≤ n
  | 0, ps, h => by obtain rfl := List.length_eq_zero_iff.1 h; simp [keptAll]
  | n + 1, ps, h => by
    have hne : ps ≠ [] := fun e => by subst e; simp at h
    have hs := (List.dropLast_concat_getLast hne).symm
    rw [hs, keptAll_snoc]
    have h1 := keptAll_len o k n ps.dropLast (by rw [List.length_dropLast]; omega)
    have h2 := keptL_len (keptAll o ps.dropLast) o (ps.getLast hne).1.toNat (ps.getLast hne).2.1 (ps.getLast hne).2.2 k
    omega
theorem open_error {P : PD} {n : Int} (h : Ar.open P = .error n) : n ≠ 0 := by
  unfold Ar.open at h
  split at h
  · cases h; decide
  · split at h
    · cases h; decide
    · split at h
      · cases h; decide
      · split at h
        · rename_i hx; cases h; exact hx
        · cases h
section
variable {w w' w2 : World} {sb ab b B : Nat} {mu life win clock : Int} {ro : Bool} {lv : Nat → Value} {L L' : Nat → List Pt} {A A' : Ar} {P P' : PD} {F0 Ft FT : Nat → Prop} {a c m N : Nat}
set_option maxRecDepth 100000 in
set_option maxHeartbeats 8000000 in
theorem open_sf (w : World) (life win clock : Int) (hl : 1 ≤ life ∧ life ≤ 4611686018427387904) (hw : 1 ≤ win ∧ win ≤ 4611686018427387904) (hc : In64 clock) (hlt : ∀ k, Ft k → k < w.heap.size)
    (hps : ∀ A ps, Ar.open P = .ok (A, ps) → ps.length < 1099511627000 ∧ ∀ p ∈ ps, 0 ≤ p.1 ∧ p.1 < 8)
    (CL : ∀ w1, Chg (fun _ => False) w w1 → Calls Tryz.prog 59 #[.pointer (some ⟨b, 0, none⟩)] w1 fun e w' =>
      (∃ n, Ar.open P = .error n ∧ e = .returned (.tuple #[.pointer none, .slice none 0 0, .int .i64 n]) ∧ Chg (fun _ => False) w1 w') ∨
      (∃ A ps ab v FT, Ar.open P = .ok (A, ps) ∧ e = .returned (.tuple #[.pointer (some ⟨ab, 0, none⟩), v, .int .i64 0]) ∧ PfSl w' v ps ∧ AD w' ab b A P FT ∧ (∀ k, FT k → Ft k ∨ w1.heap.size ≤ k) ∧ (∀ k, FT k → k < w'.heap.size) ∧ (∀ g, v.ownBlock = some g → ¬ FT g ∧ w1.heap.size ≤ g) ∧ Chg (fun _ => False) w1 w')) :
    Calls Tryz.prog 22 #[.pointer (some ⟨b, 0, none⟩), .agg #[.int .i64 life, .int .i64 win], .int .i64 clock] w fun e w' =>
      (∃ n, Ar.open P = .error n ∧ e = .returned (.tuple #[.pointer none, .int .i64 n]) ∧ Chg (fun _ => False) w w') ∨
      (∃ A ps ab sb, Ar.open P = .ok (A, ps) ∧ e = .returned (.tuple #[.pointer (some ⟨sb, 0, none⟩), .int .i64 0]) ∧ w.heap.size ≤ sb ∧ Into w Ft w' (fun w' FT' => SF w' sb ab b 0 life win clock false (keptAll (oldestN clock life) ps) A P FT')) := by
  have IS1 : Hid (∀ w', Calls Tryz.prog 58 #[.int .i64 life] w' fun e w'' => e = .returned (.bool true) ∧ w' = w'') := fun w' => by
    have := isSpan_any w' life
    rwa [decide_eq_true hl] at this
  have IS2 : Hid (∀ w', Calls Tryz.prog 58 #[.int .i64 win] w' fun e w'' => e = .returned (.bool true) ∧ w' = w'') := fun w' => by
    have := isSpan_any w' win
    rwa [decide_eq_true hw] at this
  have hA := (Chg.refl (fun _ => False) w).alloc (.cells #[.int .i64 life, .int .i64 win] 48)
  have hbx := heap_alloc_new w (.cells #[.int .i64 life, .int .i64 win] 48)
  generalize hw0 : (w.alloc (.cells #[.int .i64 life, .int .i64 win] 48)) = w0 at hA hbx
  have q0 : w0.cell? ⟨w.heap.size, 0, none⟩ = some (.int .i64 life) := by simp only [World.cell?, hbx]; rfl
  have q1 : w0.cell? ⟨w.heap.size, 1, none⟩ = some (.int .i64 win) := by simp only [World.cell?, hbx]; rfl
  have AO := hide (CL w0 hA)
  have HA := hide hA
  have HLT := hide hlt
  have HPS := hide hps
  have HL := hide hl
  have HC := hide hc
  clear CL hA hbx hlt hps hl hw hc
  go_enter Tryz.func22, Tryz.ntmps22
  go_wp2_with (fail)
  refine (IS1.out _).mono ?_
  rintro e w' ⟨rfl, rfl⟩
  go_wp2_with (fail)
  refine (IS2.out _).mono ?_
  rintro e w' ⟨rfl, rfl⟩
  go_wp2_with (fail)
  refine AO.out.mono ?_
  rintro e w1 (⟨n, hO, rfl, hk⟩ | ⟨A, ps, ab, v, FT, hO, rfl, hp, ha, hf1, hf2, hf3, hk⟩)
  · have hn := open_error hO
    have hnb : (n != 0) = true := by simpa using hn
    have HO := hide hO
    have HK := hide (HA.out.trans hk fun _ h _ => h)
    clear AO hO hk hn
    go_wp2
    go_ret2
    exact .inl ⟨n, HO.out, rfl, HK.out⟩
  · obtain ⟨va, vcap, rfl, v1, v2, v3, -⟩ := ownsRow_form hp
    unfold maxLen at v2
    have r0 := hk.cellKeep q0
    have r1 := hk.cellKeep q1
    obtain ⟨hpl, hpo⟩ := HPS.out A ps hO
    have HK : Hid (Chg (fun _ => False) w w1) := HA.out.trans hk fun _ h _ => h
    have HP := hide hp
    have HAD := hide ha
    have HF1 : Hid (∀ k, FT k → Ft k ∨ w.heap.size ≤ k) := fun k h => (hf1 k h).imp id (Nat.le_trans HA.out.size)
    have HF2 := hide hf2
    have HF3 := hide hf3
    have HO := hide hO
    have HPL := hide hpl
    have HPO := hide hpo
    clear AO hO hk hp ha hf1 hf2 hf3 q0 q1 hpl hpo
    have hst : stCells 0 (.pointer (some ⟨ab, 0, none⟩)) life win clock false (fun _ => .slice none 0 0) = #[.int .i32 0, .int .u32 0, .pointer (some ⟨ab, 0, none⟩), .int .i64 life, .int .i64 win, .int .i64 clock, .bool false, .slice none 0 0, .slice none 0 0, .slice none 0 0, .slice none 0 0, .slice none 0 0, .slice none 0 0, .slice none 0 0, .slice none 0 0] := rfl
    have ST : Hid (∀ w2, w2 = w1.alloc (.cells (stCells 0 (.pointer (some ⟨ab, 0, none⟩)) life win clock false (fun _ => .slice none 0 0)) 111) →
        Into w Ft w2 (fun w' FT' => SF w' w1.heap.size ab b 0 life win clock false (keptAll (oldestN clock life) (ps.take 0)) A P FT' ∧ ∀ g, (Value.slice va ps.length vcap).ownBlock = some g → ¬ FT' g) ∧ PfSl w2 (.slice va ps.length vcap) ps) := fun w2 e => by
      subst e
      have kA : Chg (fun _ => False) w1 (w1.alloc (.cells (stCells 0 (.pointer (some ⟨ab, 0, none⟩)) life win clock false (fun _ => .slice none 0 0)) 111)) := (Chg.refl _ w1).alloc _
      have hb : SBlk (w1.alloc (.cells (stCells 0 (.pointer (some ⟨ab, 0, none⟩)) life win clock false (fun _ => .slice none 0 0)) 111)) w1.heap.size 0 (.pointer (some ⟨ab, 0, none⟩)) life win clock false (fun _ => .slice none 0 0) := heap_alloc_new w1 _
      have nS : ¬ FT w1.heap.size := fun h => Nat.lt_irrefl _ (HF2.out _ h)
      refine ⟨⟨(HK.out.trans kA fun _ h _ => h).mono fun _ _ h => h.elim, fun k => FT k ∨ Own w1.heap.size (fun _ => .slice none 0 0) k, ⟨⟨_, FT, ⟨hb, noRows _, HAD.out.chg0 kA, fun k hk => Nat.lt_of_lt_of_le (HF2.out k hk) kA.size, nS, fun k hk => ?_⟩, fun _ h => h⟩, fun g hg hx => ?_⟩, fun k hk => ?_, fun k hk => ?_⟩, ownsRow_same HP.out fun g hg => kA.block g (ownsRow_lt HP.out hg) (fun h => h)⟩
      · obtain ⟨i, _, hi⟩ := hk; simp [Value.ownBlock] at hi
      · rcases hx with hx | rfl | ⟨i, _, hi⟩
        · exact (HF3.out g hg).1 hx
        · have := ownsRow_lt HP.out hg; omega
        · simp [Value.ownBlock] at hi
      · rcases hk with hk | rfl | ⟨i, _, hi⟩
        · exact Nat.lt_of_lt_of_le (HF2.out k hk) kA.size
        · simp
        · simp [Value.ownBlock] at hi
      · rcases hk with hk | rfl | ⟨i, _, hi⟩
        · exact HF1.out k hk
        · exact .inr HK.out.size
        · simp [Value.ownBlock] at hi
    have HSB : Hid (w.heap.size ≤ w1.heap.size) := HK.out.size
    rw [hst] at ST
    have STA := hide (ST.out _ rfl)
    clear ST hst HF1 HF2 HF3 HAD HP HK
    go_wp2
    go_loopw [43] (fun iv wr => ∃ k : Nat, k ≤ ps.length ∧ iv = .int .i64 k ∧ Hid (Into w Ft wr (fun w' FT' => SF w' w1.heap.size ab b 0 life win clock false (keptAll (oldestN clock life) (ps.take k)) A P FT' ∧ ∀ g, (Value.slice va ps.length vcap).ownBlock = some g → ¬ FT' g) ∧ PfSl wr (.slice va ps.length vcap) ps)) (fun iv _ => ps.length - (intOf iv).toNat)
    case atStart => exact ⟨0, by omega, by go_num, STA.out⟩
    case round =>
      obtain ⟨k, hk, rfl, hI⟩ := hrel
      obtain ⟨w0', hw0'⟩ : ∃ w0', w0' = wr := ⟨_, rfl⟩
      subst hw0'
      have k0 : (0 : Int) ≤ (k : Int) := Int.natCast_nonneg _
      by_cases hk1 : k < ps.length
      · have kI : (k : Int) < (ps.length : Int) := by omega
        obtain ⟨g, o, rfl, hgl, c1, c2, c3⟩ := RdP.at hI.out.2.rd k hk1
        have htk : ps.take (k + 1) = ps.take k ++ [ps[k]'hk1] := List.take_succ_eq_append_getElem hk1
        have hpo := HPO.out _ (List.getElem_mem hk1)
        have hpl := HPL.out
        obtain ⟨p, hp⟩ : ∃ p, (ps[k]'hk1) = p := ⟨_, rfl⟩
        rw [hp] at c1 c2 c3 htk hpo
        have HA0 : Hid (∀ w3, Chg (fun _ => False) w0' w3 → Calls Tryz.prog 60 #[.pointer (some ⟨w1.heap.size, 0, none⟩), puAgg p] w3 fun e w' => e = .returned (.tuple #[]) ∧ (Into w Ft w' (fun w' FT' => SF w' w1.heap.size ab b 0 life win clock false (keptAll (oldestN clock life) (ps.take (k + 1))) A P FT' ∧ ∀ g', (Value.slice (some ⟨g, o, none⟩) ps.length vcap).ownBlock = some g' → ¬ FT' g') ∧ PfSl w' (.slice (some ⟨g, o, none⟩) ps.length vcap) ps)) := fun w3 k3 => by
          obtain ⟨⟨i1, F1, ⟨i2, i3⟩, i4, i5⟩, i6⟩ := hI.out
          have hlen : ∀ j, j < 8 → (keptAll (oldestN clock life) (ps.take k) j).length < 1099511627000 := fun j _ => by
            have := keptAll_len (oldestN clock life) j _ (ps.take k) rfl
            rw [List.length_take] at this; omega
          refine (keep_sf w3 p (i2.chg0 k3) hpo hlen HL.out HC.out).mono ?_
          rintro e w' ⟨rfl, q1, F2, q2, q3, q4⟩
          have i1' : Chg Ft w w3 := i1.trans k3 fun _ h _ => h.elim
          have own3 : ∀ g', (Value.slice (some ⟨g, o, none⟩) ps.length vcap).ownBlock = some g' → g' < w0'.heap.size := fun g' hg' => ownsRow_lt i6 hg'
          refine ⟨rfl, ⟨i1'.trans q1 fun x hx hlt => (i5 x hx).resolve_right (by omega), F2, ⟨by rw [htk, keptAll_snoc]; exact q2, fun g' hg' hx => ?_⟩, q3, fun x hx => ?_⟩, ?_⟩
          · rcases q4 g' hx with hy | hy
            · exact i3 g' hg' hy
            · have := own3 g' hg'; have := k3.size; omega
          · rcases q4 x hx with hy | hy
            · exact i5 x hy
            · exact .inr (Nat.le_trans i1'.size hy)
          · exact ownsRow_same (ownsRow_same i6 fun g' hg' => k3.block g' (own3 g' hg') fun h => h) fun g' hg' => q1.block g' (Nat.lt_of_lt_of_le (own3 g' hg') k3.size) (i3 g' hg')
        obtain ⟨p1, p2, p3⟩ := p
        unfold puAgg at HA0
        dsimp only at c1 c2 c3 HA0
        clear hI htk hpo hp hpl STA
        go_wp2_with (go_at_call 60; refine (HA0.out _ ((Chg.refl _ w0').alloc _)).mono ?_; rintro e w3 ⟨rfl, hS⟩; have HS := hide hS; clear hS)
        go_roundw
        case rel => exact ⟨k + 1, by omega, by go_num, HS.out⟩
        case measure => simp [intOf]; omega
      · obtain rfl : k = ps.length := by omega
        have HI := hide hI.out.1
        clear STA hI
        go_wp2
        go_ret2
        refine .inr ⟨A, ps, ab, w1.heap.size, HO.out, rfl, HSB.out, ?_⟩
        have h := HI.out
        rw [List.take_length] at h
        exact h.imp fun _ _ h => h.1
end
end Go.Proofs.YtodcnkbblippnaaGreatDoor
