/-
  The statement PassingCardSaid is proved: the law Passing answers true, at every four numbers; there is no condition.
  Part 7 of 34.
-/
import Derived.Test.YtodcnkbblippnaaGreatDoorPart06
import Derived.Test.YtodcnkbblippnaaGreatDoorPart03
import Derived.Deep.RegionHeld3
import Derived.Deep.DrawnRows
/- Walks: a piece of a file and its sum: seal, unseal. -/
namespace Go.Proofs.YtodcnkbblippnaaGreatDoor
open Go.RowKit

theorem addSum_list (w : World) (s : Nat) (l : List UInt8) (hs : s < 4294967296) (hl : l.length ≤ 9223372036854775807) :
    Calls Tryz.prog 165 #[.int .u32 s, .string ⟨l.toArray⟩] w fun e w' => e = .returned (.int .u32 (sumOn s l)) ∧ w = w' :=
  addSum_any w s ⟨l.toArray⟩ hs hl
/-- A file's block, or a log's. -/
def FlBlk (w : World) (fb : Nat) (T : TypeId) (p : Value) (name : ByteArray) (s : Nat) : Prop := w.heap[fb]? = some (.cells #[p, .string name, .int .u32 s] T (0, 0))
theorem FlBlk.c0 {w : World} {fb : Nat} {T : TypeId} {p : Value} {name : ByteArray} {s : Nat} (h : FlBlk w fb T p name s) : w.cell? ⟨fb, 0, none⟩ = some p := by unfold FlBlk at h; simp [World.cell?, h]
theorem FlBlk.c1 {w : World} {fb : Nat} {T : TypeId} {p : Value} {name : ByteArray} {s : Nat} (h : FlBlk w fb T p name s) : w.cell? ⟨fb, 1, none⟩ = some (.string name) := by unfold FlBlk at h; simp [World.cell?, h]
theorem FlBlk.c2 {w : World} {fb : Nat} {T : TypeId} {p : Value} {name : ByteArray} {s : Nat} (h : FlBlk w fb T p name s) : w.cell? ⟨fb, 2, none⟩ = some (.int .u32 s) := by unfold FlBlk at h; simp [World.cell?, h]
theorem FlBlk.fz {w : World} {fb : Nat} {T : TypeId} {p : Value} {name : ByteArray} {s : Nat} (h : FlBlk w fb T p name s) (o : Nat) : w.frozen? ⟨fb, o, none⟩ = false := by unfold FlBlk at h; simp [World.frozen?, h]
theorem FlBlk.lt {w : World} {fb : Nat} {T : TypeId} {p : Value} {name : ByteArray} {s : Nat} (h : FlBlk w fb T p name s) : fb < w.heap.size := lt_of_block h
theorem FlBlk.s2 {w : World} {fb : Nat} {T : TypeId} {p : Value} {name : ByteArray} {s : Nat} (h : FlBlk w fb T p name s) (s' : Nat) : FlBlk (w.setCell ⟨fb, 2, none⟩ (.int .u32 s')) fb T p name s' := heap_setCell_at h
theorem FlBlk.keep {S : Nat → Prop} {w w' : World} {fb : Nat} {T : TypeId} {p : Value} {name : ByteArray} {s : Nat} (h : FlBlk w fb T p name s) (hc : Chg S w w') (hn : ¬ S fb) : FlBlk w' fb T p name s := hc.keep h hn

set_option maxRecDepth 100000 in
set_option maxHeartbeats 1000000 in
theorem seal_any (w : World) (fb : Nat) (T : TypeId) (p : Value) (name : ByteArray) (s : Nat) (l : List UInt8) (h : FlBlk w fb T p name s) (hs : s < 4294967296) (hl : l.length ≤ 9223372036854775803) :
    Calls Tryz.prog 214 #[.pointer (some ⟨fb, 0, none⟩), .string ⟨l.toArray⟩] w fun e w' => e = .returned (.string ⟨(l ++ sumB (sumOn s l)).toArray⟩) ∧ FlBlk w' fb T p name (sumOn s l) ∧ Chg (One fb) w w' := by
  have c2 := h.c2
  have fz := h.fz 2
  have h1 := h.s2 (sumOn s l)
  have hs1 := sumOn_lt s l hs
  obtain ⟨s1, hs1e⟩ : ∃ s1, sumOn s l = s1 := ⟨_, rfl⟩
  have hq := hide hs1e
  rw [hs1e] at h1 hs1 ⊢
  clear hs1e
  have c3 := h1.c2
  have k1 : Chg (One fb) w (w.setCell ⟨fb, 2, none⟩ (.int .u32 s1)) := (Chg.refl _ w).setAt (show One fb fb from rfl) 2 _
  have ap := append_mk l (sumB s1)
  have hsb := sumB_length s1
  have H1 := hide h1
  have K1 := hide k1
  have H := hide h
  clear h1 k1 h
  have hl2 : l.length ≤ 9223372036854775807 := by omega
  go_enter Tryz.func214, Tryz.ntmps214
  go_wp2_with (first | (go_at_call 165; refine (addSum_list _ _ _ hs hl2).mono ?_; rintro e w' ⟨rfl, rfl⟩; rw [hq.out]) | (go_at_call 250; refine (sumBytes_any _ _ hs1).mono ?_; rintro e w' ⟨rfl, hc⟩))
  go_ret
  exact ⟨rfl, H1.out.keep hc (by simp), K1.out.trans hc (by simp)⟩

set_option maxRecDepth 100000 in
set_option maxHeartbeats 1000000 in
theorem unseal_any (w : World) (fb : Nat) (T : TypeId) (p : Value) (name : ByteArray) (s : Nat) (l t : List UInt8) (h : FlBlk w fb T p name s) (hs : s < 4294967296) (ht : t.length = 4) (hl : l.length ≤ 9223372036854775803) :
    Calls Tryz.prog 167 #[.pointer (some ⟨fb, 0, none⟩), .string ⟨(l ++ t).toArray⟩] w fun e w' => e = .returned (.tuple #[.string ⟨l.toArray⟩, .bool (decide (sumB (sumOn s l) = t))]) ∧ FlBlk w' fb T p name (sumOn s l) ∧ Chg (One fb) w w' := by
  have hfb := h.lt
  have hteq0 : (l ++ sumB (sumOn s l) == l ++ t) = decide (sumB (sumOn s l) = t) := by
    by_cases heq : sumB (sumOn s l) = t
    · rw [decide_eq_true heq, heq]; exact beq_self_eq_true _
    · rw [decide_eq_false heq]; exact beq_eq_false_iff_ne.2 fun h => heq (List.append_cancel_left h)
  obtain ⟨bb, hbb⟩ : ∃ bb, decide (sumB (sumOn s l) = t) = bb := ⟨_, rfl⟩
  rw [hbb] at hteq0 ⊢
  have hteq := hide hteq0
  clear hbb hteq0
  have hlt0 : ((ByteArray.mk (l ++ t).toArray).size : Int) = (l.length : Int) + 4 := by show (((l ++ t).length : Nat) : Int) = _; simp [ht]
  have hn4 : ¬ ((l.length : Int) + 4 < 4) := by omega
  go_enter Tryz.func167, Tryz.ntmps167
  go_wp2
  refine wp_region_each 11 (fun y => { tmps := #[.pointer (some ⟨fb, 0, none⟩), .string ⟨(l ++ t).toArray⟩, undef, undef, .string ⟨#[]⟩, .bool false, y 10, undef, .string ⟨(l ++ t).toArray⟩, .int .i64 ((l.length : Int) + 4), .bool false, y 0, y 1, y 2, y 3, y 4, y 5, y 6, y 7, y 8, y 9, undef, undef, undef, undef, undef, undef, undef, undef], defers := [] }) (fun _ => undef)
    (fun w' => FlBlk w' fb T p name s ∧ Chg (fun _ => False) w w') (Chg (fun _ => False))
    (fun j x w' => match j with
      | 0 => x = .string ⟨(l ++ t).toArray⟩
      | 1 => x = .string ⟨(l ++ t).toArray⟩
      | 2 => x = .int .i64 ((l.length : Int) + 4)
      | 3 => x = .int .i64 l.length
      | 4 => x = .string ⟨l.toArray⟩
      | 5 => x = .string ⟨(l ++ t).toArray⟩
      | 6 => x = .string ⟨(l ++ t).toArray⟩
      | 7 => x = .int .i64 ((l.length : Int) + 4)
      | 8 => x = .int .i64 l.length
      | 9 => x = .string ⟨t.toArray⟩
      | 10 => x = .string ⟨l.toArray⟩
      | _ => True)
    (by kernel_rfl) (by kernel_rfl) rfl ?_ ?_ ?_ ?_
  · exact ⟨h, (Chg.refl _ _).drew⟩
  · intro j x w1 w2 hR hS' hG
    split at hG <;> exact hG
  · simp only [List.take_succ_cons, List.take_zero, EachOb, and_true]
    repeat' (with_reducible apply And.intro)
    all_goals refine ⟨?_, (by intro y wx _ _ h; exact Bool.noConfusion h), fun y x => rfl⟩
    all_goals
      intro y wx hS hd hw K hK
      clear hw
      obtain ⟨hS1, hS2⟩ := hS
      simp [depsOf, Region.binds, DepsG, List.filter_cons] at hd
      have e1 : (ByteArray.mk (l ++ t).toArray).extract 0 l.length = ⟨l.toArray⟩ := by
        rw [extract_mk]; simp
      have e9 : (ByteArray.mk (l ++ t).toArray).extract l.length (l.length + 4) = ⟨t.toArray⟩ := by
        rw [extract_mk, List.drop_left, show l.length + 4 - l.length = t.length by omega, List.take_length]
      have g1 : (l.length : Int) ≤ (l.length : Int) + 4 := by omega
      have ew : IntKind.i64.wrap (l.length : Int) = l.length := by simp [IntKind.wrap, IntKind.bits, IntKind.signed]; omega
      have HS1 := hide hS1
      have HS2 := hide hS2
      have HK := hide hK
      clear hS1 hS2 hK h
    all_goals dsimp only
    all_goals try go_simp
    all_goals try with_reducible exact HK.out _ _ _ rfl (by simp [Act.put, hd]) (Chg.refl _ _) ⟨HS1.out, HS2.out⟩
  · intro y wx hS hG
    obtain ⟨hS1, hS2⟩ := hS
    have h10 : y 10 = .string ⟨l.toArray⟩ := hG 10 (by omega)
    have h9 : y 9 = .string ⟨t.toArray⟩ := hG 9 (by omega)
    have hk := hS1
    have HS2 := hide hS2
    clear hG hS1 hS2 h
    have ap := append_mk l t
    have hq := hteq.out
    have SE := hide (seal_any wx fb T p name s l hk hs hl)
    have hlt : (ByteArray.mk (l ++ t).toArray).size = l.length + 4 := by show (l ++ t).length = _; simp [ht]
    clear hteq hk
    go_wp2_with (go_at_call 214; refine SE.out.mono ?_; rintro e w' ⟨rfl, hb, hc⟩; have HB := hide hb; have HC := hide hc; clear hb hc)
    go_ret2
    exact ⟨rfl, HB.out, HS2.out.mono (fun _ _ h => h.elim) |>.trans HC.out (fun _ h _ => h)⟩
set_option maxRecDepth 100000 in
set_option maxHeartbeats 1000000 in
/-- .. of what is shorter than a sum. -/
theorem unseal_short (w : World) (fb : Nat) (l : List UInt8) (hl : l.length < 4) :
    Calls Tryz.prog 167 #[.pointer (some ⟨fb, 0, none⟩), .string ⟨l.toArray⟩] w fun e w' => e = .returned (.tuple #[.string ⟨#[]⟩, .bool false]) ∧ w = w' := by
  have hlt : (ByteArray.mk l.toArray).size = l.length := by show l.toArray.size = _; simp
  have hlt0 : ((ByteArray.mk l.toArray).size : Int) < 4 := by rw [hlt]; omega
  obtain ⟨tx, htx⟩ : ∃ tx, ByteArray.mk l.toArray = tx := ⟨_, rfl⟩
  rw [htx] at hlt0 ⊢
  clear hlt htx
  go_enter Tryz.func167, Tryz.ntmps167
  go_wp2
  go_ret2
  exact ⟨rfl, rfl⟩
end Go.Proofs.YtodcnkbblippnaaGreatDoor
/- Walks: SyncDir, Used, Read. -/
namespace Go.Proofs.YtodcnkbblippnaaGreatDoor
open Go.RowKit
attribute [local go_sem ↓] Go.wp_at_zero Go.wp_at_succ

/-- SyncDir. -/
def dSyncDir (D : DS) : Int × DS :=
  ((bg D.n).2.1, if (bg D.n).2.1 = 0 then { D with safe := D.dir, changes := [], n := (bg D.n).2.2 } else { D with n := (bg D.n).2.2 })
theorem RepV.syncDir {w w' : World} {b : Nat} {D : DS} {F : Nat → FC} {vd vs vc : Value} {vals : List Value} {VB : Nat → Value} (h : RepV w b D F vd vs vc vals VB)
    (hb : DBlk w' b vd vd (.slice none 0 0) D.n) (hc : Chg (One b) w w') : RepV w' b { D with safe := D.dir, changes := [] } F vd vd (.slice none 0 0) [] VB := by
  have hk : ∀ (k : Nat) (c : Array Value) (e : Nat), w.heap[k]? = some (Obj.cells c e (0, 0)) → e ≠ 95 → w'.heap[k]? = w.heap[k]? := fun k c e hk he =>
    hc.block k (lt_of_block hk) (elem_ne hk h.blk he)
  have hd : EntSl w' vd D.dir := ownsRow_same h.dir fun g hg => by obtain ⟨c, hh⟩ := ownsRow_elem h.dir hg; exact hk g _ _ hh (by decide)
  have hids : ∀ f, ({ D with safe := D.dir, changes := [] } : DS).ids f → D.ids f := by
    rintro f (hf | hf | ⟨c, hcm, hf⟩)
    · exact .inl hf
    · exact .inl hf
    · cases hcm
  refine ⟨hb, hd, hd, World.ownsRow_nil _ _ _ _, fun i hi => by simp at hi, fun f hf => ?_, fun f f' g hf hf' => h.inj f f' g (hids f hf) (hids f' hf')⟩
  obtain ⟨h1, h2⟩ := h.fil f (hids f hf)
  refine ⟨?_, ownsRow_same h2 fun g hg => by obtain ⟨c, hh⟩ := ownsRow_elem h2 hg; exact hk g _ _ hh (by decide)⟩
  unfold FBlk at h1 ⊢; rw [hk f _ _ h1 (by decide)]; exact h1
set_option maxRecDepth 100000 in
set_option maxHeartbeats 1000000 in
theorem syncDir_any (w : World) (b : Nat) (D : DS) (F : Nat → FC) (Ft : Nat → Prop) (h : Rep w b D F Ft) :
    Calls Tryz.prog 86 #[.pointer (some ⟨b, 0, none⟩)] w fun e w' => e = .returned (.int .i64 (dSyncDir D).1) ∧ After w Ft w' b (dSyncDir D).2 F := by
  obtain ⟨vd, vs, vc, vals, VB, hr, hft⟩ := h
  obtain ⟨ad, cap, rfl, _⟩ := hr.dir.form
  have HR := hide hr
  have hbk := hide hr.blk
  clear hr
  by_cases hdo : (bg D.n).2.1 = 0
  · have q : Hid (dSyncDir D = (0, { D with safe := D.dir, changes := [], n := (bg D.n).2.2 })) := by unfold Hid dSyncDir; rw [if_pos hdo, hdo]
    have hdo' : ((bg D.n).2.1 == 0) = true := by simpa using hdo
    have hdo2 : Hid ((bg D.n).2.1 = 0) := hdo
    clear hdo
    go_enter Tryz.func86, Tryz.ntmps86
    go_wp2_with (go_at_call 121; refine (begins_any _ _ _ _ _ _ hbk.out).mono ?_; rintro e w1 ⟨rfl, hb1, hc1⟩; have c01 := hb1.c0; have c11 := hb1.c1; have c21 := hb1.c2; have hf1 := hb1.fz)
    go_ret
    refine ⟨by rw [q.out]; simp [hdo2.out], ?_⟩
    rw [q.out]
    have r1 := HR.out.turn hb1 hc1
    have r2 := r1.syncDir ((hb1.s1 _).s2 (.slice none 0 0)) (((Chg.refl (One b) w1).setAt rfl 1 _).setAt rfl 2 (.slice none 0 0))
    refine After.mk' ?_ r2 ?_
    · exact (((hc1.mono (S' := Ft) fun k _ hk => by cases hk; exact hft b .blk)).setAt (hft b .blk) 1 _).setAt (hft b .blk) 2 _
    · intro k hk
      left
      cases hk using Foot.elim with
      | blk => exact hft _ .blk
      | dir e => exact hft _ (.dir e)
      | safe e => exact hft _ (.dir e)
      | chg e => simp [Value.ownBlock] at e
      | che hm e => cases hm
      | fil hf =>
        rcases hf with hf | hf | ⟨c, hcm, _⟩
        · exact hft _ (.fil (.inl hf))
        · exact hft _ (.fil (.inl hf))
        · cases hcm
      | byt hf e =>
        rcases hf with hf | hf | ⟨c, hcm, _⟩
        · exact hft _ (.byt (.inl hf) e)
        · exact hft _ (.byt (.inl hf) e)
        · cases hcm
  · have q : Hid (dSyncDir D = ((bg D.n).2.1, { D with n := (bg D.n).2.2 })) := by unfold Hid dSyncDir; rw [if_neg hdo]
    have hdo' : ((bg D.n).2.1 == 0) = false := by simpa using hdo
    clear hdo
    go_enter Tryz.func86, Tryz.ntmps86
    go_wp2_with (go_at_call 121; refine (begins_any _ _ _ _ _ _ hbk.out).mono ?_; rintro e w1 ⟨rfl, hb1, hc1⟩)
    go_ret
    refine ⟨by rw [q.out]; rfl, ?_⟩
    rw [q.out]
    exact HR.out.afterN hft hb1 hc1

/-- Used: all bytes of all files of the directory. -/
def usedL (F : Nat → FC) : List Ent → Nat
  | [] => 0
  | e :: r => (F e.2).1.length + usedL F r
theorem usedL_append (F : Nat → FC) (a c : List Ent) : usedL F (a ++ c) = usedL F a + usedL F c := by
  induction a with
  | nil => simp [usedL]
  | cons e r ih => simp [usedL, ih]; omega
theorem usedL_take (F : Nat → FC) (es : List Ent) (k : Nat) (hk : k < es.length) : usedL F (es.take (k + 1)) = usedL F (es.take k) + (F (es[k]'hk).2).1.length := by
  rw [List.take_succ_eq_append_getElem hk, usedL_append]; simp [usedL]
theorem usedL_take_le (F : Nat → FC) (es : List Ent) (k : Nat) : usedL F (es.take k) ≤ usedL F es := by
  conv => rhs; rw [← List.take_append_drop k es]
  rw [usedL_append]; omega
set_option maxRecDepth 100000 in
set_option maxHeartbeats 1000000 in
theorem used_any (w : World) (b : Nat) (D : DS) (F : Nat → FC) (Ft : Nat → Prop) (h : Rep w b D F Ft) (hu : usedL F D.dir ≤ 4611686018427387904) :
    Calls Tryz.prog 90 #[.pointer (some ⟨b, 0, none⟩)] w fun e w' => e = .returned (.int .i64 (usedL F D.dir)) ∧ Chg (fun _ => False) w w' := by
  obtain ⟨vd, vs, vc, vals, VB, hr, hft⟩ := h
  have c0 := hr.blk.c0
  have hlt := hr.blk.lt
  obtain ⟨a, cap, rfl, hc1, hc2, hcell⟩ := hr.dir.form
  unfold maxLen at hc2
  have HR := hide hr
  clear hr
  go_enter Tryz.func90, Tryz.ntmps90
  go_wp2
  go_loopw [3, 11] (fun t i wr => ∃ k : Nat, k ≤ D.dir.length ∧ i = .int .i64 k ∧ t = .int .i64 (usedL F (D.dir.take k)) ∧ Chg (fun _ => False) w wr) (fun _ i _ => D.dir.length - (intOf i).toNat)
  case atStart => exact ⟨0, Nat.zero_le _, rfl, by simp [usedL], Chg.refl _ _⟩
  case round =>
    obtain ⟨k, hk, rfl, rfl, hcr⟩ := hrel
    by_cases hlk : k < D.dir.length
    · obtain ⟨g, rfl, hn, hp⟩ := hcell k hlk
      obtain ⟨hfb, hbs⟩ := HR.out.dirAt k hlk
      obtain ⟨a', cap', hv, _, _⟩ := hbs.form
      rw [hv] at hfb
      have hgl : g < w.heap.size := World.block_lt_of_cell? w _ hn
      have hfl := lt_of_block hfb
      have hn' : wr.cell? ⟨g, k * 2, none⟩ = some (.string (D.dir[k]'hlk).1) := (World.cell?_of_block (hcr.block g hgl (fun h => h))).trans hn
      have hp' : wr.cell? ⟨g, k * 2 + 1, none⟩ = some (.pointer (some ⟨(D.dir[k]'hlk).2, 0, none⟩)) := (World.cell?_of_block (hcr.block g hgl (fun h => h))).trans hp
      have hb0 : wr.cell? ⟨(D.dir[k]'hlk).2, 0, none⟩ = some (.slice a' (F (D.dir[k]'hlk).2).1.length cap') := (World.cell?_of_block (hcr.block _ hfl (fun h => h))).trans hfb.c0
      have hsz := hcr.size
      have hflr : (D.dir[k]'hlk).2 < wr.heap.size := by omega
      have hgr : g < wr.heap.size := by omega
      have ht := hide (usedL_take F D.dir k hlk)
      have hle := usedL_take_le F D.dir (k + 1)
      rw [usedL_take F D.dir k hlk] at hle
      clear hn hp hfb hv hbs hcell
      go_wp2
      go_roundw
      case rel => exact ⟨k + 1, by omega, by go_num, by rw [ht.out]; go_num, hcr.alloc _⟩
      case measure => simp [intOf]; omega
    · have hfin : D.dir.take k = D.dir := List.take_of_length_le (by omega)
      have Hfin := hide hfin
      clear hfin hcell
      go_wp2
      go_ret
      exact ⟨by rw [Hfin.out]; rfl, hcr⟩
/-- What Read answers. -/
def dRead (D : DS) (F : Nat → FC) (name : ByteArray) (at_ n : Int) : List UInt8 × Int := match lookup D.dir name with
  | some f => if at_ < 0 ∨ n < 0 ∨ at_ > (F f).1.length ∨ n > (F f).1.length - at_ then ([], 9) else (((F f).1.drop at_.toNat).take n.toNat, 0)
  | none => ([], 8)
end Go.Proofs.YtodcnkbblippnaaGreatDoor
/- Walks: Read, Sync. -/
namespace Go.Proofs.YtodcnkbblippnaaGreatDoor
open Go.RowKit
attribute [local go_sem ↓] Go.wp_at_zero Go.wp_at_succ

set_option maxRecDepth 100000 in
set_option maxHeartbeats 1000000 in
theorem read_any (w : World) (b : Nat) (D : DS) (F : Nat → FC) (Ft : Nat → Prop) (h : Rep w b D F Ft) (name : ByteArray) (p n : Int) :
    Calls Tryz.prog 82 #[.pointer (some ⟨b, 0, none⟩), .string name, .int .i64 p, .int .i64 n] w fun e w' => e = .returned (.tuple #[.string ⟨(dRead D F name p n).1.toArray⟩, .int .i64 (dRead D F name p n).2]) ∧ w = w' := by
  obtain ⟨vd, vs, vc, vals, VB, hr, hft⟩ := h
  have c0 := hr.blk.c0
  have hd := hide hr.dir
  obtain ⟨a, cap, rfl, hc1, hc2, hcell⟩ := hr.dir.form
  unfold maxLen at hc2
  rcases lookup_cases D.dir name with ⟨h1, h2⟩ | ⟨k, hk, h1, h2, h3⟩
  · have q : Hid (dRead D F name p n = ([], 8)) := by unfold Hid dRead; rw [h2]
    have hfi : fidx D.dir name < 0 := by omega
    clear hr h1 h2 hcell
    go_enter Tryz.func82, Tryz.ntmps82
    go_wp2_with (go_at_call 77; refine (find_any _ _ _ _ hd.out).mono ?_; rintro e w' ⟨rfl, rfl⟩)
    go_ret2
    rw [q.out]
    exact ⟨rfl, rfl⟩
  · obtain ⟨hfb, hbs⟩ := hr.dirAt k hk
    obtain ⟨a', cap', hv, hl1, hl2⟩ := hbs.form
    unfold maxLen at hl2
    rw [hv] at hfb hbs
    have hb0 := hfb.c0
    have Hbs := hide hbs
    obtain ⟨g, rfl, hn, hp⟩ := hcell k hk
    have H1 := hide h1
    have H2 := hide h2
    clear hv hbs hfb hcell h1 h2 h3 hr
    obtain ⟨bs, hbs⟩ : ∃ bs, (F (D.dir[k]'hk).2).1 = bs := ⟨_, rfl⟩
    have Hb := hide hbs
    rw [hbs] at hb0 hl1 Hbs
    clear hbs
    have hlen : (bs.length : Int) ≤ 9223372036854775807 := by omega
    have q : Hid (dRead D F name p n = if p < 0 ∨ n < 0 ∨ p > bs.length ∨ n > bs.length - p then ([], 9) else ((bs.drop p.toNat).take n.toNat, 0)) := by
      unfold Hid dRead; rw [H2.out]; dsimp only; rw [Hb.out]
    by_cases hok : 0 ≤ p ∧ 0 ≤ n ∧ p ≤ bs.length ∧ n ≤ bs.length - p
    · obtain ⟨o1, o2, o3, o4⟩ := hok
      obtain ⟨p', rfl⟩ := Int.eq_ofNat_of_zero_le o1
      obtain ⟨n', rfl⟩ := Int.eq_ofNat_of_zero_le o2
      have q2 : Hid (dRead D F name p' n' = ((bs.drop p').take n', 0)) := by
        unfold Hid; rw [q.out, if_neg (by omega)]; simp
      clear q
      have o5 : p' ≤ bs.length := by omega
      have o6 : n' ≤ bs.length - p' := by omega
      obtain ⟨_, _, he, _, _, _, hnil, hform⟩ := ownsRow_form Hbs.out
      cases he
      by_cases hcp : cap' = p'
      · have hn0 : n' = 0 := by omega
        subst hn0
        have cv : ∀ (x : Option Addr) (c : Nat), (convert 127 9 (.slice x 0 c)).run Tryz.prog w = .ok (.string ⟨#[]⟩) w := by
          intro x c
          cases x with
          | none =>
            rw [run_convert_bytes_string (P := Tryz.prog) w 127 9 5 none 0 c Tryz.underlying127 Tryz.underlying5 Tryz.underlying9]
            rfl
          | some ad => exact run_convert_bytes_back (P := Tryz.prog) w 127 9 5 ad c [] Tryz.underlying127 Tryz.underlying5 Tryz.underlying9 (by simp)
        subst hcp
        clear hnil hform
        go_enter Tryz.func82, Tryz.ntmps82
        go_wp2_with (go_at_call 77; refine (find_any _ _ _ _ hd.out).mono ?_; rintro e w' ⟨rfl, rfl⟩; rw [H1.out])
        go_ret2
        rw [q2.out]
        exact ⟨by simp, rfl⟩
      · obtain ⟨ga, hga⟩ : ∃ ga, a' = some ⟨ga, 0, none⟩ := by
          cases ha : a' with
          | none => have := (hnil ha).2; omega
          | some ad => obtain ⟨g', rfl⟩ := hform ad ha; exact ⟨g', rfl⟩
        subst hga
        have cv : (convert 127 9 (.slice (some ⟨ga, p', none⟩) n' (cap' - p'))).run Tryz.prog w = .ok (.string ⟨((bs.drop p').take n').toArray⟩) w := by
          have hl : ((bs.drop p').take n').length = n' := by simp; omega
          have := run_convert_bytes_back (P := Tryz.prog) w 127 9 5 ⟨ga, p', none⟩ (cap' - p') ((bs.drop p').take n') Tryz.underlying127 Tryz.underlying5 Tryz.underlying9 (by
            intro j hj
            have hj' : p' + j < bs.length := by simp at hj; omega
            have hadd : (⟨ga, p', none⟩ : Addr).add j = ⟨ga, p' + j, none⟩ := by unfold Addr.add; split <;> simp_all
            rw [hadd]
            have := ownsRow_cell Hbs.out (g := ga) rfl (j := p' + j) (u := .int .u8 (bs[p' + j]'hj').toNat) (by simp [byteVals, List.getElem?_eq_getElem hj'])
            simpa using this)
          rw [hl] at this; exact this
        clear hnil hform
        go_enter Tryz.func82, Tryz.ntmps82
        go_wp2_with (go_at_call 77; refine (find_any _ _ _ _ hd.out).mono ?_; rintro e w' ⟨rfl, rfl⟩; rw [H1.out])
        go_ret2
        rw [q2.out]
        exact ⟨rfl, rfl⟩
    · have q2 : Hid (dRead D F name p n = ([], 9)) := by
        unfold Hid; rw [q.out, if_pos (by omega)]
      clear q
      go_enter Tryz.func82, Tryz.ntmps82
      go_wp2_with (go_at_call 77; refine (find_any _ _ _ _ hd.out).mono ?_; rintro e w' ⟨rfl, rfl⟩; rw [H1.out])
      all_goals (go_ret2; rw [q2.out]; exact ⟨rfl, rfl⟩)

/-- One file, turned. -/
theorem RepV.fileUpd {w w' : World} {b : Nat} {D : DS} {F : Nat → FC} {vd vs vc : Value} {vals : List Value} {VB : Nat → Value} {S : Nat → Prop} (h : RepV w b D F vd vs vc vals VB) {f : Nat} (hf : D.ids f) {vb' : Value} {bs' : List UInt8} {s' : Int}
    (h1 : FBlk w' f vb' s') (h2 : BSl w' vb' bs') (hc : Chg S w w') (hS : ∀ k, S k → k = f ∨ (VB f).ownBlock = some k) (hv : ∀ g, vb'.ownBlock = some g → (VB f).ownBlock = some g ∨ w.heap.size ≤ g) :
    RepV w' b D (upd F f (bs', s')) vd vs vc vals (fun x => if x = f then vb' else VB x) := by
  obtain ⟨hf1, hf2⟩ := h.fil f hf
  have hk : ∀ (k : Nat) (c : Array Value) (e : Nat), w.heap[k]? = some (Obj.cells c e (0, 0)) → e ≠ 129 → e ≠ 5 → w'.heap[k]? = w.heap[k]? := fun k c e hk he he2 =>
    hc.block k (lt_of_block hk) (fun hs => by
      rcases hS k hs with hs | hs
      · exact elem_ne hk hf1 he hs
      · obtain ⟨c', hh⟩ := ownsRow_elem hf2 hs
        exact elem_ne hk hh he2 rfl)
  refine ⟨?_, ?_, ?_, ?_, ?_, ?_, ?_⟩
  · have := h.blk; unfold DBlk at this ⊢; rw [hk b _ _ this (by decide) (by decide)]; exact this
  · exact ownsRow_same h.dir fun g hg => by obtain ⟨c, hh⟩ := ownsRow_elem h.dir hg; exact hk g _ _ hh (by decide) (by decide)
  · exact ownsRow_same h.safe fun g hg => by obtain ⟨c, hh⟩ := ownsRow_elem h.safe hg; exact hk g _ _ hh (by decide) (by decide)
  · exact ownsRow_same h.chg fun g hg => by obtain ⟨c, hh⟩ := ownsRow_elem h.chg hg; exact hk g _ _ hh (by decide) (by decide)
  · intro i hi
    obtain ⟨v, h1, h2⟩ := h.che i hi
    exact ⟨v, h1, ownsRow_same h2 fun g hg => by obtain ⟨c, hh⟩ := ownsRow_elem h2 hg; exact hk g _ _ hh (by decide) (by decide)⟩
  · intro f2 hf2'
    by_cases he : f2 = f
    · subst he; simp only [upd, if_true]; exact ⟨h1, h2⟩
    · obtain ⟨g1, g2⟩ := h.fil f2 hf2'
      simp only [upd, he, if_false]
      refine ⟨g1.same (hc.block f2 (lt_of_block g1) (fun hs => ?_)), ownsRow_same g2 fun g hg => hc.block g (ownsRow_lt g2 hg) (fun hs => ?_)⟩
      · rcases hS _ hs with hs | hs
        · exact he hs
        · obtain ⟨c', hh⟩ := ownsRow_elem hf2 hs
          exact elem_ne g1 hh (by decide) rfl
      · rcases hS _ hs with hs | hs
        · obtain ⟨c', hh⟩ := ownsRow_elem g2 hg
          exact elem_ne hh hf1 (by decide) hs
        · exact he (h.inj f2 f g hf2' hf hg hs)
  · have key : ∀ f2 g, D.ids f2 → f2 ≠ f → (VB f2).ownBlock = some g → vb'.ownBlock = some g → False := by
      intro f2 g h3 hne h4 h5
      rcases hv g h5 with h6 | h6
      · exact hne (h.inj f2 f g h3 hf h4 h6)
      · have := ownsRow_lt (h.fil f2 h3).2 h4; omega
    intro f1 f2 g k1 k2 e1 e2
    by_cases a1 : f1 = f <;> by_cases a2 : f2 = f
    · rw [a1, a2]
    · simp only [a1, if_true] at e1; simp only [a2, if_false] at e2
      exact (key f2 g k2 a2 e2 e1).elim
    · simp only [a2, if_true] at e2; simp only [a1, if_false] at e1
      exact (key f1 g k1 a1 e1 e2).elim
    · simp only [a1, if_false] at e1; simp only [a2, if_false] at e2
      exact h.inj f1 f2 g k1 k2 e1 e2
theorem Foot.fileUpd {b : Nat} {D : DS} {vd vs vc : Value} {vals : List Value} {VB : Nat → Value} {f : Nat} {vb' : Value} {N : Nat} (hf : D.ids f) (hv : ∀ g, vb'.ownBlock = some g → (VB f).ownBlock = some g ∨ N ≤ g) {k : Nat}
    (h : Foot b D vd vs vc vals (fun x => if x = f then vb' else VB x) k) : Foot b D vd vs vc vals VB k ∨ N ≤ k := by
  cases h using Foot.elim with
  | blk => exact .inl .blk
  | dir e => exact .inl (.dir e)
  | safe e => exact .inl (.safe e)
  | chg e => exact .inl (.chg e)
  | che h e => exact .inl (.che h e)
  | fil h => exact .inl (.fil h)
  | byt h e =>
    rename_i f2
    by_cases he : f2 = f
    · simp only [he, if_true] at e
      rcases hv k e with h | h
      · exact .inl (.byt hf h)
      · exact .inr h
    · simp only [he, if_false] at e
      exact .inl (.byt h e)

/-- What lies where a name was found. -/
theorem RepV.at_ {w : World} {b : Nat} {D : DS} {F : Nat → FC} {vd vs vc : Value} {vals : List Value} {VB : Nat → Value} (h : RepV w b D F vd vs vc vals VB) (k : Nat) (hk : k < D.dir.length) :
    ∃ g cap a' cap', vd = .slice (some ⟨g, 0, none⟩) D.dir.length cap ∧ VB (D.dir[k]'hk).2 = .slice a' (F (D.dir[k]'hk).2).1.length cap' ∧ D.dir.length ≤ cap ∧ cap ≤ maxLen ∧ (F (D.dir[k]'hk).2).1.length ≤ cap' ∧ cap' ≤ maxLen := by
  obtain ⟨a, cap, hv, h1, h2, hc⟩ := h.dir.form
  obtain ⟨g, rfl, _, _⟩ := hc k hk
  obtain ⟨a', cap', h3, h4, h5⟩ := (h.dirAt k hk).2.form
  exact ⟨g, cap, a', cap', hv, h3, h1, h2, h4, h5⟩
structure AtK (w : World) (b : Nat) (g k f n cap l cap' : Nat) (a' : Option Addr) (name : ByteArray) (safe : Int) : Prop where
  d : w.cell? ⟨b, 0, none⟩ = some (.slice (some ⟨g, 0, none⟩) n cap)
  n : w.cell? ⟨g, k * 2, none⟩ = some (.string name)
  p : w.cell? ⟨g, k * 2 + 1, none⟩ = some (.pointer (some ⟨f, 0, none⟩))
  f0 : w.cell? ⟨f, 0, none⟩ = some (.slice a' l cap')
  f1 : w.cell? ⟨f, 1, none⟩ = some (.int .i64 safe)
  fz : ∀ o, w.frozen? ⟨f, o, none⟩ = false
  gf : ¬ g = f
  fg : ¬ f = g
  gb : ¬ g = b
  bg : ¬ b = g
  fb : ¬ f = b
  bf : ¬ b = f
theorem RepV.atK {w : World} {b : Nat} {D : DS} {F : Nat → FC} {vd vs vc : Value} {vals : List Value} {VB : Nat → Value} (h : RepV w b D F vd vs vc vals VB) (k : Nat) (hk : k < D.dir.length) {g cap cap' : Nat} {a' : Option Addr}
    (h1 : vd = .slice (some ⟨g, 0, none⟩) D.dir.length cap) (h2 : VB (D.dir[k]'hk).2 = .slice a' (F (D.dir[k]'hk).2).1.length cap') :
    AtK w b g k (D.dir[k]'hk).2 D.dir.length cap (F (D.dir[k]'hk).2).1.length cap' a' (D.dir[k]'hk).1 (F (D.dir[k]'hk).2).2 := by
  subst h1
  obtain ⟨hf, hb⟩ := h.dirAt k hk
  rw [h2] at hf
  obtain ⟨c, hh⟩ := ownsRow_elem h.dir (g := g) rfl
  exact ⟨h.blk.c0, ownsRow_cell h.dir rfl (entVals_name _ k hk), ownsRow_cell h.dir rfl (entVals_ptr _ k hk), hf.c0, hf.c1, hf.fz, fun e => elem_ne hh hf (by decide) e, fun e => elem_ne hh hf (by decide) e.symm,
    fun e => elem_ne hh h.blk (by decide) e, fun e => elem_ne hh h.blk (by decide) e.symm, fun e => elem_ne hf h.blk (by decide) e, fun e => elem_ne hf h.blk (by decide) e.symm⟩
end Go.Proofs.YtodcnkbblippnaaGreatDoor
/- Walk: Sync. -/
namespace Go.Proofs.YtodcnkbblippnaaGreatDoor
open Go.RowKit
attribute [local go_sem ↓] Go.wp_at_zero Go.wp_at_succ

/-- Sync. -/
def dSync (D : DS) (F : Nat → FC) (name : ByteArray) : Int × DS × (Nat → FC) := match lookup D.dir name with
  | none => (8, D, F)
  | some f => ((bg D.n).2.1, { D with n := (bg D.n).2.2 }, if (bg D.n).2.1 = 0 then upd F f ((F f).1, (F f).1.length) else F)
set_option maxRecDepth 100000 in
set_option maxHeartbeats 1000000 in
theorem sync_any (w : World) (b : Nat) (D : DS) (F : Nat → FC) (Ft : Nat → Prop) (h : Rep w b D F Ft) (name : ByteArray) :
    Calls Tryz.prog 85 #[.pointer (some ⟨b, 0, none⟩), .string name] w fun e w' => e = .returned (.int .i64 (dSync D F name).1) ∧ After w Ft w' b (dSync D F name).2.1 (dSync D F name).2.2 := by
  obtain ⟨vd, vs, vc, vals, VB, hr, hft⟩ := h
  have c0 := hr.blk.c0
  have hd := hide hr.dir
  have hbk := hide hr.blk
  have HR := hide hr
  rcases lookup_cases D.dir name with ⟨h1, h2⟩ | ⟨k, hk, h1, h2, h3⟩
  · have q : Hid (dSync D F name = (8, D, F)) := by unfold Hid dSync; rw [h2]
    have hfi : fidx D.dir name < 0 := by omega
    clear hr h1 h2
    go_enter Tryz.func85, Tryz.ntmps85
    go_wp2_with (go_at_call 77; refine (find_any _ _ _ _ hd.out).mono ?_; rintro e w' ⟨rfl, rfl⟩)
    go_ret
    rw [q.out]
    exact ⟨rfl, After.mk' (Chg.refl _ _) HR.out fun k hk => .inl (hft k hk)⟩
  · have q : Hid (dSync D F name = ((bg D.n).2.1, { D with n := (bg D.n).2.2 }, if (bg D.n).2.1 = 0 then upd F (D.dir[k]'hk).2 ((F (D.dir[k]'hk).2).1, (F (D.dir[k]'hk).2).1.length) else F)) := by unfold Hid dSync; rw [h2]
    have H1 := hide h1
    clear hr h1 h2 h3
    by_cases hdo : (bg D.n).2.1 = 0
    · have hdo' : ((bg D.n).2.1 == 0) = true := by simpa using hdo
      have hdo2 : Hid ((bg D.n).2.1 = 0) := hdo
      clear hdo
      have hk0 : (0 : Int) ≤ (k : Int) := Int.natCast_nonneg _
      have hk1 : (k : Int) < (D.dir.length : Int) := by omega
      obtain ⟨g, cap, a', cap', rfl, hv, z1, z2, z3, z4⟩ := HR.out.at_ k hk
      have Hv := hide hv
      unfold maxLen at z2 z4
      clear hv
      obtain ⟨f, hf⟩ : ∃ f, (D.dir[k]'hk).2 = f := ⟨_, rfl⟩
      have hids : Hid (D.ids f) := .inl ⟨_, List.getElem_mem hk, hf⟩
      have fin : Hid (∀ w1, DBlk w1 b (.slice (some ⟨g, 0, none⟩) D.dir.length cap) vs vc (bg D.n).2.2 → Chg (One b) w w1 → AtK w1 b g k f D.dir.length cap (F f).1.length cap' a' (D.dir[k]'hk).1 (F f).2 ∧
          After w Ft (w1.setCell ⟨f, 1, none⟩ (.int .i64 (F f).1.length)).drew b { D with n := (bg D.n).2.2 } (upd F f ((F f).1, (F f).1.length))) := by
        intro w1 hb1 hc1
        have r1 := HR.out.turn hb1 hc1
        subst hf
        refine ⟨r1.atK k hk rfl Hv.out, ?_⟩
        obtain ⟨hf1, hf2⟩ := r1.dirAt k hk
        have r2 := r1.fileUpd (S := One (D.dir[k]'hk).2) (w' := (w1.setCell ⟨(D.dir[k]'hk).2, 1, none⟩ (.int .i64 (F (D.dir[k]'hk).2).1.length)).drew) (f := (D.dir[k]'hk).2) hids.out (vb' := VB (D.dir[k]'hk).2) (bs' := (F (D.dir[k]'hk).2).1) (s' := (F (D.dir[k]'hk).2).1.length)
          (hf1.s1 _) (by
            refine ownsRow_setCell_other hf2 (a := ⟨(D.dir[k]'hk).2, 1, none⟩) ?_ _
            intro e; obtain ⟨c, hh⟩ := ownsRow_elem hf2 e
            exact elem_ne hh hf1 (by decide) rfl) (((Chg.refl (One _) w1).setAt rfl 1 _).drew) (fun k hk => .inl hk) (fun g hg => .inl hg)
        refine After.mk' ?_ r2 ?_
        · exact ((hc1.mono (S' := Ft) fun k _ hk => by cases hk; exact hft b .blk).setAt (hft _ (.fil hids.out)) 1 _).drew
        · intro x hx
          rcases Foot.fileUpd (N := w.heap.size) (vb' := VB (D.dir[k]'hk).2) (f := (D.dir[k]'hk).2) hids.out (fun g hg => .inl hg) hx.n with h | h
          · exact .inl (hft x h)
          · exact .inr h
      rw [hf] at q
      have Hf := hide hf
      clear hf Hv
      go_enter Tryz.func85, Tryz.ntmps85
      go_wp2_with (first
        | (go_at_call 77; refine (find_any _ _ _ _ hd.out).mono ?_; rintro e w' ⟨rfl, rfl⟩; rw [H1.out])
        | (go_at_call 121; refine (begins_any _ _ _ _ _ _ hbk.out).mono ?_; rintro e w1 ⟨rfl, hb1, hc1⟩))
      obtain ⟨hat, haf⟩ := fin.out w1 hb1 hc1
      have HA := hide haf
      have x1 := hat.d
      have x2 := hat.p
      have x3 := hat.f0
      have x4 := hat.f1
      have x5 := hat.fz
      have x6 := hat.gf
      have x7 := hat.fg
      clear haf hat
      go_region_held3 (fun w' => w'.cell? ⟨b, 0, none⟩ = some (.slice (some ⟨g, 0, none⟩) D.dir.length cap) ∧ w'.cell? ⟨g, k * 2 + 1, none⟩ = some (.pointer (some ⟨f, 0, none⟩)) ∧ w'.cell? ⟨f, 0, none⟩ = some (.slice a' (F f).1.length cap')) (refine ⟨?_, ?_, ?_⟩ <;> go_simp) (fail)
      go_wp2
      go_ret
      rw [q.out, if_pos hdo2.out]
      exact ⟨rfl, HA.out⟩
    · have hdo' : ((bg D.n).2.1 == 0) = false := by simpa using hdo
      have hdo2 : Hid ((bg D.n).2.1 ≠ 0) := hdo
      clear hdo
      go_enter Tryz.func85, Tryz.ntmps85
      go_wp2_with (first
        | (go_at_call 77; refine (find_any _ _ _ _ hd.out).mono ?_; rintro e w' ⟨rfl, rfl⟩; rw [H1.out])
        | (go_at_call 121; refine (begins_any _ _ _ _ _ _ hbk.out).mono ?_; rintro e w1 ⟨rfl, hb1, hc1⟩))
      go_ret
      rw [q.out, if_neg hdo2.out]
      exact ⟨rfl, HR.out.afterN hft hb1 hc1⟩
end Go.Proofs.YtodcnkbblippnaaGreatDoor
