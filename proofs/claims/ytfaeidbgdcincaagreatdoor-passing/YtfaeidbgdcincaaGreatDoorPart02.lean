/-
  The statement WritesUptoCardSaid is proved: the law Writes answers true at every set and every script within the statement's bounds.
  Part 2 of 23.
-/
import Derived.StillTail
import Derived.OrdersHeld
import Derived.Tactics
import Derived.WalkKit
import Derived.Test.YtfaeidbgdcincaaGreatDoorPart01
import Derived.Handy
/- A law on regions that draw their order, no walk: what each operation yields is told by a predicate on its value and the world that the others' doings keep; one obligation an operation, whatever order is drawn; a row of operations at the end that waits for all of them is walked as it stands. -/
namespace Go.Proofs.YtfaeidbgdcincaaGreatDoor
open Go
section
variable {P : Program} {Q : Exit → Act → World → Prop}
def updV (y : Nat → Value) (i : Nat) (v : Value) : Nat → Value := fun j => if j = i then v else y j
/-- The frame with these values in the slots of the operations. -/
def actOf (y : Nat → Value) : Nat → List Oper → Act → Act
  | _, [], a => a
  | k, o :: r, a => actOf y (k + 1) r (a.put o.dst (y k))
/-- What an operation waits for. -/
def depsOf (o : Oper) : List Nat := (o.after.toList.filter (Region.binds .any)).map (·.on)
/-- What is known of the operations that are waited for. -/
def DepsG (G : Nat → Value → World → Prop) (y : Nat → Value) (w : World) : List Nat → Prop
  | [] => True
  | j :: r => G j (y j) w ∧ DepsG G y w r
theorem DepsG.of {G : Nat → Value → World → Prop} {y : Nat → Value} {w : World} : ∀ (l : List Nat), (∀ j ∈ l, G j (y j) w) → DepsG G y w l
  | [], _ => trivial
  | j :: r, h => ⟨h j (by simp), DepsG.of r fun k hk => h k (by simp [hk])⟩
def EachOne (P : Program) (ops : Array Oper) (A : (Nat → Value) → Act) (S : World → Prop) (R : World → World → Prop) (G : Nat → Value → World → Prop) (Q : Exit → Act → World → Prop) (i : Nat) (o : Oper) : Prop :=
  (∀ y w, S w → DepsG G y w (depsOf o) → Region.wanted o (yielded ops (A y).tmps) = true → ∀ K : Act → World → Prop, (∀ v a' w', G i v w' → a' = (A y).put o.dst v → R w w' → S w' → K a' w') → o.wp P (A y) w K Q) ∧
  (∀ y w, S w → DepsG G y w (depsOf o) → Region.wanted o (yielded ops (A y).tmps) = false → G i undef w) ∧
  (∀ y v, (A y).put o.dst v = A (updV y i v))
def EachOb (P : Program) (ops : Array Oper) (A : (Nat → Value) → Act) (S : World → Prop) (R : World → World → Prop) (G : Nat → Value → World → Prop) (Q : Exit → Act → World → Prop) : Nat → List Oper → Prop
  | _, [] => True
  | i, o :: r => EachOne P ops A S R G Q i o ∧ EachOb P ops A S R G Q (i + 1) r
theorem EachOb.get {ops : Array Oper} {A : (Nat → Value) → Act} {S : World → Prop} {R : World → World → Prop} {G : Nat → Value → World → Prop} : ∀ {k : Nat} {l : List Oper}, EachOb P ops A S R G Q k l → ∀ (i : Nat) (o : Oper), l[i]? = some o → EachOne P ops A S R G Q (k + i) o
  | _, [], _, i, o, h => by simp at h
  | k, o' :: r, hh, 0, o, h => by
    have : o' = o := by simpa using h
    subst this; exact hh.1
  | k, o' :: r, hh, i + 1, o, h => by
    have := EachOb.get hh.2 i o (by simpa using h)
    rwa [show k + 1 + i = k + (i + 1) by omega] at this
/-- How many heads are not through. -/
def cntU (listed : Array Bool) : Nat → Nat
  | 0 => 0
  | k + 1 => cntU listed k + (if listed.getD k true then 0 else 1)
theorem cntU_far (listed : Array Bool) (i : Nat) : ∀ n, n ≤ i → cntU (listed.setIfInBounds i true) n = cntU listed n
  | 0, _ => rfl
  | n + 1, h => by
    unfold cntU
    rw [cntU_far listed i n (by omega), getD_set_ne true (by omega)]
theorem cntU_set (listed : Array Bool) (i : Nat) (hi : listed.getD i true = false) : ∀ n, i < n → cntU listed n = cntU (listed.setIfInBounds i true) n + 1
  | 0, h => by omega
  | n + 1, h => by
    unfold cntU
    by_cases hin : i = n
    · subst hin
      have hs : i < listed.size := by
        rcases Nat.lt_or_ge i listed.size with h' | h'
        · exact h'
        · simp [Array.getElem?_eq_none h'] at hi
      rw [cntU_far listed i i (Nat.le_refl _), hi]
      simp [hs]
    · rw [cntU_set listed i hi n (by omega), getD_set_ne true hin]; omega
theorem cntU_zero (listed : Array Bool) : ∀ n, cntU listed n = 0 → ∀ j, j < n → listed.getD j true = true
  | 0, _, j, h => by omega
  | n + 1, h, j, hj => by
    unfold cntU at h
    rcases Nat.lt_or_ge j n with h' | h'
    · exact cntU_zero listed n (by omega) j h'
    · obtain rfl : j = n := by omega
      cases hg : listed.getD j true with
      | true => rfl
      | false => rw [hg] at h; simp at h
theorem cntU_pos (listed : Array Bool) : ∀ n, cntU listed n ≠ 0 → ∃ j, j < n ∧ listed.getD j true = false
  | 0, h => absurd rfl h
  | n + 1, h => by
    cases hg : listed.getD n true with
    | false => exact ⟨n, by omega, hg⟩
    | true =>
      unfold cntU at h
      rw [hg] at h
      obtain ⟨j, hj, h2⟩ := cntU_pos listed n (by simpa using h)
      exact ⟨j, by omega, h2⟩
theorem cntU_start (m : Nat) : ∀ n, n ≤ m → cntU (Array.replicate m false) n = n
  | 0, _ => rfl
  | n + 1, h => by
    unfold cntU
    rw [cntU_start m n (by omega)]
    have hnm : n < m := by omega
    have : (Array.replicate m false).getD n true = false := by simp [hnm]
    rw [this]; simp
def eachB (ops : Array Oper) (n : Nat) : Bool :=
  decide (n < ops.size) && Region.sinkB .any ops n && Region.chainB .any ops n &&
    ((List.range n).all fun i => ((ops[i]?).map fun o => o.after.all fun e => !Region.binds .any e || decide (e.on < i)).getD false) &&
    Region.seqB .any ops (ops.size - n) n (List.replicate n true ++ List.replicate (ops.size - n) false).toArray
theorem ready_some {ops : Array Oper} {n : Nat} {listed : Array Bool} (inv : HeadInv .any ops n listed) (hn : n < ops.size)
    (hlow : ((List.range n).all fun i => ((ops[i]?).map fun o => o.after.all fun e => !Region.binds .any e || decide (e.on < i)).getD false) = true) :
    ∀ (i : Nat), i < n → listed.getD i true = false → ∃ k, k ∈ Region.ready .any ops listed := by
  intro i
  induction i using Nat.strongRecOn with
  | _ i ih =>
    intro hi hun
    have ho : ops[i]? = some (ops[i]'(by omega)) := Array.getElem?_eq_getElem (by omega)
    obtain ⟨o, ho⟩ : ∃ o, ops[i]? = some o := ⟨_, ho⟩
    by_cases hall : ∀ e ∈ o.after, Region.binds .any e = true → listed.getD e.on false = true
    · exact ⟨i, mem_ready.2 ⟨hun, o, ho, hall⟩⟩
    · simp only [Classical.not_forall] at hall
      obtain ⟨e, he, hb, hne⟩ := hall
      have h1 := (List.all_eq_true.1 hlow) i (List.mem_range.2 hi)
      rw [ho] at h1
      simp only [Option.map_some, Option.getD_some, Array.all_eq_true_iff_forall_mem] at h1
      have h2 := h1 e he
      rw [hb] at h2
      have h3 : e.on < i := by simpa using h2
      refine ih e.on h3 (by omega) (getD_in (by rw [inv.size]; omega) ?_)
      cases h : listed.getD e.on false with
      | true => exact absurd h hne
      | false => rfl
theorem each_core {l : List Oper} {n : Nat} {A : (Nat → Value) → Act} {S : World → Prop} {R : World → World → Prop} {G : Nat → Value → World → Prop} (hB : eachB l.toArray n = true)
    (hob : EachOb P l.toArray A S R G Q 0 (l.take n)) (hst : ∀ j v w w', R w w' → S w' → G j v w → G j v w')
    (hend : ∀ y w, S w → (∀ j, j < n → G j (y j) w) → wpList P l.toArray Q (l.drop n) (A y) w) :
    ∀ (f : Nat) (listed : Array Bool) (y : Nat → Value) (w : World), HeadInv .any l.toArray n listed → cntU listed n = f → S w → (∀ j, j < n → listed.getD j false = true → G j (y j) w) →
      wpAny P .any l.toArray Q (f + (l.toArray.size - n)) listed (A y) w := by
  simp only [eachB, Bool.and_eq_true, decide_eq_true_eq] at hB
  obtain ⟨⟨⟨⟨hn, hs⟩, hc⟩, hlow⟩, hseq⟩ := hB
  intro f
  induction f with
  | zero =>
    intro listed y w inv hcnt hS hG
    have hall := cntU_zero listed n hcnt
    have hsz := inv.size
    have hallF : ∀ j, j < n → listed.getD j false = true := fun j hj => by
      have h1 := hall j hj
      have h2 : j < listed.size := by omega
      simp [h2] at h1 ⊢; exact h1
    have hL : listed = (List.replicate n true ++ List.replicate (l.toArray.size - n) false).toArray := by
      refine Array.ext (by simp [hsz]; have : n < l.length := by simpa using hn
                           omega) fun i h1 h2 => ?_
      rcases Nat.lt_or_ge i n with h | h
      · have := hallF i h
        simp [h1] at this
        simp [this, h]
      · have := inv.tail i h (by omega)
        simp [h1] at this
        simp [this, List.getElem_append, Nat.not_lt.2 h]
    rw [Nat.zero_add]
    have hdl : (l.drop n).length = l.toArray.size - n := by simp
    have := wpAny_of_seq (P := P) (md := .any) (ops := l.toArray) (Q' := Q) (l.drop n) n listed (A y) w (fun j => by simp [List.getElem?_drop]) (by rw [hdl, hL]; exact hseq) (hend y w hS fun j hj => hG j hj (hallF j hj))
    rwa [hdl] at this
  | succ f ih =>
    intro listed y w inv hcnt hS hG
    obtain ⟨i0, hi0, hun0⟩ := cntU_pos listed n (by omega)
    have hfuel : f + 1 + (l.toArray.size - n) = (f + (l.toArray.size - n)) + 1 := by omega
    rw [hfuel]
    refine ⟨fun h0 => ?_, fun i hi => ?_⟩
    · obtain ⟨k, hk⟩ := ready_some inv hn hlow i0 hi0 hun0
      rw [h0] at hk; cases hk
    · have hin : i < n := by
        rcases Nat.lt_or_ge i n with h | h
        · exact h
        · exact absurd hi (tail_waits hs hc hn inv _ i0 rfl hi0 hun0 i h)
      obtain ⟨hun, o, ho, hall⟩ := mem_ready.1 hi
      have hon : (l.take n)[i]? = some o := by
        rw [List.getElem?_take_of_lt hin]; simpa using ho
      have h1 := (List.all_eq_true.1 hlow) i (List.mem_range.2 hin)
      rw [ho] at h1
      simp only [Option.map_some, Option.getD_some, Array.all_eq_true_iff_forall_mem] at h1
      have ob := hob.get i o hon
      rw [Nat.zero_add] at ob
      have hdeps : DepsG G y w (depsOf o) := by
        refine DepsG.of _ fun j hj => ?_
        unfold depsOf at hj
        rw [List.mem_map] at hj
        obtain ⟨e, he, rfl⟩ := hj
        rw [List.mem_filter] at he
        have he1 : e ∈ o.after := by simpa using he.1
        have h2 := h1 e he1
        rw [he.2] at h2
        have h3 : e.on < i := by simpa using h2
        exact hG e.on (by omega) (hall e he1 he.2)
      have hnext : ∀ v w', S w' → (R w w' ∨ w' = w) → G i v w' → wpAny P .any l.toArray Q (f + (l.toArray.size - n)) (listed.setIfInBounds i true) ((A y).put o.dst v) w' := by
        intro v w' hS' hR hGi
        rw [ob.2.2 y v]
        refine ih _ _ _ (inv.set hi hin) (by have := cntU_set listed i hun n hin; omega) hS' fun j hj hl => ?_
        unfold updV
        by_cases hji : j = i
        · subst hji; simpa using hGi
        · rw [if_neg hji]
          rw [getD_set_ne false (Ne.symm hji)] at hl
          rcases hR with hR | rfl
          · exact hst j _ w w' hR hS' (hG j hj hl)
          · exact hG j hj hl
      unfold wpOp
      simp only [ho]
      split
      · rename_i hw
        exact .inl (ob.1 y w hS hdeps hw _ fun v a' w' hGi ha' hR hS' => ha' ▸ hnext v w' hS' (.inl hR) hGi)
      · rename_i hw
        exact hnext _ w hS (.inr rfl) (ob.2.1 y w hS hdeps (by simpa using hw))
/-- **One obligation an operation.** -/
theorem wp_region_each {id : Nat} {a : Act} {w : World} {l : List Oper} (n : Nat) (A : (Nat → Value) → Act) (y0 : Nat → Value) (S : World → Prop) (R : World → World → Prop) (G : Nat → Value → World → Prop) (hm : P.follows .mixedOrders = true) (hB : eachB l.toArray n = true)
    (ha : a = A y0) (hS : S w.drew) (hst : ∀ j v w w', R w w' → S w' → G j v w → G j v w')
    (hob : EachOb P l.toArray A S R G Q 0 (l.take n))
    (hend : ∀ y w, S w → (∀ j, j < n → G j (y j) w) → wpList P l.toArray Q (l.drop n) (A y) w) : (Code.region id l.toArray true).wp P Q a w := by
  have hn : n < l.toArray.size := by
    simp only [eachB, Bool.and_eq_true, decide_eq_true_eq] at hB
    exact hB.1.1.1.1
  refine wp_region_any hm ?_
  have inv0 : HeadInv .any l.toArray n (Array.replicate l.toArray.size false) :=
    ⟨by simp, fun j oj _ hl => (by rw [getD_replicate_false] at hl; cases hl), fun t _ ht => getD_in (by simpa using ht) (getD_replicate_false _ _)⟩
  have H := each_core hB hob hst hend n _ y0 w.drew inv0 (cntU_start _ n (by omega)) hS (fun j _ hl => by rw [getD_replicate_false] at hl; cases hl)
  rw [show n + (l.toArray.size - n) = l.toArray.size by omega] at H
  rw [ha]
  exact H
end
end Go.Proofs.YtfaeidbgdcincaaGreatDoor
/- Walks: a Put as bytes: putBytes, putOf. -/
namespace Go.Proofs.YtfaeidbgdcincaaGreatDoor
open Go.RowKit

/-- A Put's bytes. -/
def putB (s t v : Int) : List UInt8 := UInt8.ofNat (s % 256).toNat :: (intB t ++ intB v)
set_option maxRecDepth 100000 in
set_option maxHeartbeats 1000000 in
theorem putBytes_any (w : World) (s t v : Int) (hs : 0 ≤ s ∧ s < 256) (ht : -9223372036854775808 ≤ t ∧ t ≤ 9223372036854775807) (hv : -9223372036854775808 ≤ v ∧ v ≤ 9223372036854775807) :
    Calls Tryz.prog 144 #[.agg #[.int .i64 s, .int .i64 t, .int .i64 v]] w fun e w' => e = .returned (.string ⟨(putB s t v).toArray⟩) ∧ Chg (fun _ => False) w w' := by
  go_enter Tryz.func144, Tryz.ntmps144
  go_wp2
  refine wp_region_each 15 (fun y => { tmps := #[.agg #[.int .i64 s, .int .i64 t, .int .i64 v], .pointer (some ⟨w.heap.size, 0, none⟩), .string ⟨#[]⟩, y 0, y 1, y 2, y 3, y 4, y 5, y 6, y 7, y 8, y 9, y 10, y 11, y 12, y 13, y 14], defers := [] }) (fun _ => undef)
    (fun w' => w'.heap[w.heap.size]? = some (.cells #[.int .i64 s, .int .i64 t, .int .i64 v] 109 (0, 0)) ∧ Chg (fun _ => False) w w') (Chg (fun _ => False))
    (fun j x w' => match j with
      | 0 => x = .pointer (some ⟨w.heap.size, 0, none⟩)
      | 1 => x = .int .i64 s
      | 2 => x = .int .u8 s
      | 3 => ∃ g e, x = .slice (some ⟨g, 0, none⟩) 1 1 ∧ w'.heap[g]? = some (.cells #[.int .u8 s] e (0, 0))
      | 4 => x = .string ⟨#[UInt8.ofNat (s % 256).toNat]⟩
      | 5 => x = .pointer (some ⟨w.heap.size, 1, none⟩)
      | 6 => x = .pointer (some ⟨w.heap.size, 1, none⟩)
      | 7 => x = .int .i64 t
      | 8 => x = .string ⟨(intB t).toArray⟩
      | 9 => x = .string ⟨(UInt8.ofNat (s % 256).toNat :: intB t).toArray⟩
      | 10 => x = .pointer (some ⟨w.heap.size, 1, none⟩)
      | 11 => x = .pointer (some ⟨w.heap.size, 2, none⟩)
      | 12 => x = .int .i64 v
      | 13 => x = .string ⟨(intB v).toArray⟩
      | 14 => x = .string ⟨(putB s t v).toArray⟩
      | _ => True)
    (by kernel_rfl) (by kernel_rfl) rfl ?_ ?_ ?_ ?_
  · exact ⟨(by show (w.heap.push _)[w.heap.size]? = _; rw [Array.getElem?_push_size]), ((Chg.refl _ _).alloc _).drew⟩
  · intro j x w1 w2 hR hS' hG
    split at hG <;> first | exact hG | (obtain ⟨g, e, h1, h2⟩ := hG; exact ⟨g, e, h1, hR.keep h2 (by simp)⟩)
  · simp only [List.take_succ_cons, List.take_zero, EachOb, and_true]
    repeat' (with_reducible apply And.intro)
    all_goals refine ⟨?_, (by intro y wx _ _ h; exact Bool.noConfusion h), fun y x => rfl⟩
    all_goals
      intro y wx hS hd hw K hK
      clear hw
      obtain ⟨hS1, hS2⟩ := hS
      simp [depsOf, Region.binds, DepsG, List.filter_cons] at hd
      have hc0 : wx.cell? ⟨w.heap.size, 0, none⟩ = some (.int .i64 s) := by simp [World.cell?, hS1]
      have hc1 : wx.cell? ⟨w.heap.size, 1, none⟩ = some (.int .i64 t) := by simp [World.cell?, hS1]
      have hc2 : wx.cell? ⟨w.heap.size, 2, none⟩ = some (.int .i64 v) := by simp [World.cell?, hS1]
      have hw8 : IntKind.u8.wrap s = s := by simp [IntKind.wrap, IntKind.bits, IntKind.signed]; omega
      have hlt := intB_length t
      have hlv := intB_length v
      have HS1 := hide hS1
      have HS2 := hide hS2
      have HK := hide hK
      clear hS1 hS2 hK
      have ap1 : (ByteArray.mk #[UInt8.ofNat (s % 256).toNat]) ++ (ByteArray.mk (intB t).toArray) = ⟨(UInt8.ofNat (s % 256).toNat :: intB t).toArray⟩ := append_mk [_] _
      have ap2 : (ByteArray.mk (UInt8.ofNat (s % 256).toNat :: intB t).toArray) ++ (ByteArray.mk (intB v).toArray) = ⟨(putB s t v).toArray⟩ := append_mk _ _
      try
        have hd3 : ∃ g, y 3 = .slice (some ⟨g, 0, none⟩) 1 1 ∧ ∃ e, wx.heap[g]? = some (.cells #[.int .u8 s] e (0, 0)) := by with_reducible exact hd
        clear hd
        obtain ⟨g, hd, e, hg⟩ := hd3
        have hgc : wx.cell? ⟨g, 0, none⟩ = some (.int .u8 s) := by simp [World.cell?, hg]
        have cv : (convert 122 9 (.slice (some ⟨g, 0, none⟩) 1 1)).run Tryz.prog wx = .ok (.string ⟨#[UInt8.ofNat (s % 256).toNat]⟩) wx := run_convert_bytes_back (P := Tryz.prog) wx 122 9 5 ⟨g, 0, none⟩ 1 [UInt8.ofNat (s % 256).toNat] Tryz.underlying122 Tryz.underlying5 Tryz.underlying9 (by
          intro j hj
          have hj0 : j = 0 := by simpa using hj
          subst hj0
          have hadd : (⟨g, 0, none⟩ : Addr).add 0 = ⟨g, 0, none⟩ := by unfold Addr.add; split <;> simp_all
          have hs8 : ((UInt8.ofNat (s % 256).toNat).toNat : Int) = s := by simp; omega
          rw [hadd, hgc]
          simp only [List.getElem_cons_zero, hs8])
        clear hg
    all_goals dsimp only
    all_goals try go_simp
    all_goals try with_reducible exact HK.out _ _ _ rfl (by simp [Act.put, hd]) (Chg.refl _ _) ⟨HS1.out, HS2.out⟩
    all_goals try
      have hd7 : y 7 = .int .i64 t := by with_reducible exact hd
      clear hd7
      refine (intBytes_any wx t ht).mono ?_
      rintro e w2 ⟨rfl, hc⟩
      exact HK.out _ _ _ rfl (by simp [Act.put, hd]) hc ⟨hc.keep HS1.out (by simp), HS2.out.trans hc (by simp)⟩
    all_goals try
      have hd12 : y 12 = .int .i64 v := by with_reducible exact hd.1
      clear hd12
      refine (intBytes_any wx v hv).mono ?_
      rintro e w2 ⟨rfl, hc⟩
      exact HK.out _ _ _ rfl (by simp [Act.put, hd]) hc ⟨hc.keep HS1.out (by simp), HS2.out.trans hc (by simp)⟩
    · exact HK.out _ _ _ ⟨wx.heap.size, _, rfl, (by show (wx.heap.push _)[wx.heap.size]? = _; rw [Array.getElem?_push_size])⟩ (by simp [Act.put, hd]) ((Chg.refl _ _).alloc _) ⟨((Chg.refl (fun _ => False) wx).alloc _).keep HS1.out (by simp), HS2.out.alloc _⟩
  · intro y wx hS hG
    obtain ⟨hS1, hS2⟩ := hS
    have h14 : y 14 = .string ⟨(putB s t v).toArray⟩ := hG 14 (by omega)
    have HS2 := hide hS2
    clear hG hS1 hS2
    go_wp2
    go_ret
    exact ⟨rfl, HS2.out⟩
end Go.Proofs.YtfaeidbgdcincaaGreatDoor
/- Walks: a Put out of its bytes: putOf. -/
namespace Go.Proofs.YtfaeidbgdcincaaGreatDoor
open Go.RowKit

/-- A number out of its bytes. -/
def intN (l : List UInt8) : Int := wrap64 (leN (l.take 8) : Nat)
theorem intOf_list (w : World) (l : List UInt8) (hl : 8 ≤ l.length ∧ l.length ≤ 9223372036854775807) :
    Calls Tryz.prog 109 #[.string ⟨l.toArray⟩] w fun e w' => e = .returned (.int .i64 (intN l)) ∧ w = w' :=
  intOf_any w ⟨l.toArray⟩ hl
theorem intN_intB (n : Int) (h : -9223372036854775808 ≤ n ∧ n ≤ 9223372036854775807) (r : List UInt8) : intN (intB n ++ r) = n := by
  unfold intN
  rw [List.take_append_of_le_length (by rw [intB_length]; omega), List.take_of_length_le (by rw [intB_length]; omega)]
  exact wrap_leN_intB n h
set_option maxRecDepth 100000 in
set_option maxHeartbeats 1000000 in
theorem putOf_any (w : World) (b : UInt8) (l : List UInt8) (hl : 16 ≤ l.length ∧ l.length < 9223372036854775807) :
    Calls Tryz.prog 110 #[.string ⟨(b :: l).toArray⟩] w fun e w' => e = .returned (.agg #[.int .i64 b.toNat, .int .i64 (intN l), .int .i64 (intN (l.drop 8))]) ∧ Chg (fun _ => False) w w' := by
  obtain ⟨hl1, hl2⟩ := hl
  have hb := b.toNat_lt
  go_enter Tryz.func110, Tryz.ntmps110
  go_wp2
  refine wp_region_each 11 (fun y => { tmps := #[.string ⟨(b :: l).toArray⟩, undef, .pointer (some ⟨w.heap.size, 0, none⟩), y 0, y 1, y 2, y 3, y 4, y 5, y 6, y 7, y 8, y 9, y 10], defers := [] }) (fun _ => undef)
    (fun w' => w'.heap[w.heap.size]? = some (.cells #[.int .i64 0, .int .i64 0, .int .i64 0] 109 (0, 0)) ∧ Chg (fun _ => False) w w') (Chg (fun _ => False))
    (fun j x w' => match j with
      | 0 => x = .string ⟨(b :: l).toArray⟩
      | 1 => x = .int .u8 b.toNat
      | 2 => x = .int .i64 b.toNat
      | 3 => x = .string ⟨(b :: l).toArray⟩
      | 4 => x = .string ⟨l.toArray⟩
      | 5 => x = .int .i64 (intN l)
      | 6 => x = .string ⟨(b :: l).toArray⟩
      | 7 => x = .string ⟨(l.drop 8).toArray⟩
      | 8 => x = .int .i64 (intN (l.drop 8))
      | 9 => x = .agg #[.int .i64 (intN l), .int .i64 (intN (l.drop 8))]
      | 10 => x = .agg #[.int .i64 b.toNat, .int .i64 (intN l), .int .i64 (intN (l.drop 8))]
      | _ => True)
    (by kernel_rfl) (by kernel_rfl) rfl ?_ ?_ ?_ ?_
  · exact ⟨(by show (w.heap.push _)[w.heap.size]? = _; rw [Array.getElem?_push_size]), ((Chg.refl _ _).alloc _).drew⟩
  · intro j x w1 w2 hR hS' hG
    split at hG <;> exact hG
  · simp only [List.take_succ_cons, List.take_zero, EachOb, and_true]
    repeat' (with_reducible apply And.intro)
    all_goals refine ⟨?_, (by intro y wx _ _ h; exact Bool.noConfusion h), fun y x => rfl⟩
    all_goals
      intro y wx hS hd hw K hK
      clear hw
      obtain ⟨hS1, hS2⟩ := hS
      simp [depsOf, Region.binds, DepsG, List.filter_cons] at hd
      have e0 : (ByteArray.mk (b :: l).toArray)[0]'(by show 0 < l.length + 1; omega) = b := rfl
      have e1 : (ByteArray.mk (b :: l).toArray).extract 1 (l.length + 1) = ⟨l.toArray⟩ := by
        rw [extract_mk]; simp
      have e9 : (ByteArray.mk (b :: l).toArray).extract 9 (l.length + 1) = ⟨(l.drop 8).toArray⟩ := by
        rw [extract_mk, List.drop_succ_cons, List.take_of_length_le (by simp)]
      have g1 : (1 : Int) ≤ (l.length : Int) + 1 := by omega
      have g9 : (9 : Int) ≤ (l.length : Int) + 1 := by omega
      have ew : IntKind.i64.wrap (b.toNat : Int) = b.toNat := by simp [IntKind.wrap, IntKind.bits, IntKind.signed]; omega
      have HS1 := hide hS1
      have HS2 := hide hS2
      have HK := hide hK
      clear hS1 hS2 hK
    all_goals dsimp only
    all_goals try go_simp
    all_goals try with_reducible exact HK.out _ _ _ rfl (by simp [Act.put, hd]) (Chg.refl _ _) ⟨HS1.out, HS2.out⟩
    all_goals try
      have hd4 : y 4 = .string ⟨l.toArray⟩ := by with_reducible exact hd
      clear hd4
      refine (intOf_list wx l (by omega)).mono ?_
      rintro e w2 ⟨rfl, rfl⟩
      exact HK.out _ _ _ rfl (by simp [Act.put, hd]) (Chg.refl _ _) ⟨HS1.out, HS2.out⟩
    all_goals try
      have hd7 : y 7 = .string ⟨(l.drop 8).toArray⟩ := by with_reducible exact hd.1
      clear hd7
      refine (intOf_list wx (l.drop 8) (by rw [List.length_drop]; omega)).mono ?_
      rintro e w2 ⟨rfl, rfl⟩
      exact HK.out _ _ _ rfl (by simp [Act.put, hd]) (Chg.refl _ _) ⟨HS1.out, HS2.out⟩
  · intro y wx hS hG
    obtain ⟨hS1, hS2⟩ := hS
    have h10 : y 10 = .agg #[.int .i64 b.toNat, .int .i64 (intN l), .int .i64 (intN (l.drop 8))] := hG 10 (by omega)
    have c0 : wx.cell? ⟨w.heap.size, 0, none⟩ = some (.int .i64 0) := by simp [World.cell?, hS1]
    have c1 : wx.cell? ⟨w.heap.size, 1, none⟩ = some (.int .i64 0) := by simp [World.cell?, hS1]
    have c2 : wx.cell? ⟨w.heap.size, 2, none⟩ = some (.int .i64 0) := by simp [World.cell?, hS1]
    have f0 : wx.frozen? ⟨w.heap.size, 0, none⟩ = false := by simp [World.frozen?, hS1]
    have f1 : wx.frozen? ⟨w.heap.size, 1, none⟩ = false := by simp [World.frozen?, hS1]
    have f2 : wx.frozen? ⟨w.heap.size, 2, none⟩ = false := by simp [World.frozen?, hS1]
    have h3 := heap_setCell_at (o := 2) (v := .int .i64 (intN (l.drop 8))) (heap_setCell_at (o := 1) (v := .int .i64 (intN l)) (heap_setCell_at (o := 0) (v := .int .i64 b.toNat) hS1))
    have k3 : Chg (fun _ => False) w (((wx.setCell ⟨w.heap.size, 0, none⟩ (.int .i64 b.toNat)).setCell ⟨w.heap.size, 1, none⟩ (.int .i64 (intN l))).setCell ⟨w.heap.size, 2, none⟩ (.int .i64 (intN (l.drop 8)))) := ((hS2.setCell (by simp) _).setCell (by simp) _).setCell (by simp) _
    have H3 := hide h3
    have K3 := hide k3
    clear hG hS1 hS2 h3 k3
    go_wp2
    generalize (((wx.setCell ⟨w.heap.size, 0, none⟩ (.int .i64 b.toNat)).setCell ⟨w.heap.size, 1, none⟩ (.int .i64 (intN l))).setCell ⟨w.heap.size, 2, none⟩ (.int .i64 (intN (l.drop 8)))) = w3 at H3 K3 ⊢
    have h3 := H3.out
    have r0 : w3.cell? ⟨w.heap.size, 0, none⟩ = some (.int .i64 b.toNat) := by simp [World.cell?, h3]
    have r1 : w3.cell? ⟨w.heap.size, 1, none⟩ = some (.int .i64 (intN l)) := by simp [World.cell?, h3]
    have r2 : w3.cell? ⟨w.heap.size, 2, none⟩ = some (.int .i64 (intN (l.drop 8))) := by simp [World.cell?, h3]
    clear h3 H3 c0 c1 c2 f0 f1 f2
    refine bodyPost_ret (v := .agg #[.int .i64 b.toNat, .int .i64 (intN l), .int .i64 (intN (l.drop 8))]) (by simp [results, Tryz.results110, go_sem, r0, r1, r2]) rfl ?_
    exact ⟨rfl, K3.out⟩
end Go.Proofs.YtfaeidbgdcincaaGreatDoor
/- Walks: a piece of a file and its sum: seal, unseal. -/
namespace Go.Proofs.YtfaeidbgdcincaaGreatDoor
open Go.RowKit

theorem addSum_list (w : World) (s : Nat) (l : List UInt8) (hs : s < 4294967296) (hl : l.length ≤ 9223372036854775807) :
    Calls Tryz.prog 159 #[.int .u32 s, .string ⟨l.toArray⟩] w fun e w' => e = .returned (.int .u32 (sumOn s l)) ∧ w = w' :=
  addSum_any w s ⟨l.toArray⟩ hs hl
/-- A file's block, or a log's. -/
def FlBlk (w : World) (fb : Nat) (T : TypeId) (p : Value) (name : ByteArray) (s : Nat) : Prop := w.heap[fb]? = some (.cells #[p, .string name, .int .u32 s] T (0, 0))
theorem FlBlk.c0 {w : World} {fb : Nat} {T : TypeId} {p : Value} {name : ByteArray} {s : Nat} (h : FlBlk w fb T p name s) : w.cell? ⟨fb, 0, none⟩ = some p := by unfold FlBlk at h; simp [World.cell?, h]
theorem FlBlk.c1 {w : World} {fb : Nat} {T : TypeId} {p : Value} {name : ByteArray} {s : Nat} (h : FlBlk w fb T p name s) : w.cell? ⟨fb, 1, none⟩ = some (.string name) := by unfold FlBlk at h; simp [World.cell?, h]
theorem FlBlk.c2 {w : World} {fb : Nat} {T : TypeId} {p : Value} {name : ByteArray} {s : Nat} (h : FlBlk w fb T p name s) : w.cell? ⟨fb, 2, none⟩ = some (.int .u32 s) := by unfold FlBlk at h; simp [World.cell?, h]
theorem FlBlk.fz {w : World} {fb : Nat} {T : TypeId} {p : Value} {name : ByteArray} {s : Nat} (h : FlBlk w fb T p name s) (o : Nat) : w.frozen? ⟨fb, o, none⟩ = false := by unfold FlBlk at h; simp [World.frozen?, h]
theorem FlBlk.lt {w : World} {fb : Nat} {T : TypeId} {p : Value} {name : ByteArray} {s : Nat} (h : FlBlk w fb T p name s) : fb < w.heap.size := lt_of_block h
theorem FlBlk.s2 {w : World} {fb : Nat} {T : TypeId} {p : Value} {name : ByteArray} {s : Nat} (h : FlBlk w fb T p name s) (s' : Nat) : FlBlk (w.setCell ⟨fb, 2, none⟩ (.int .u32 s')) fb T p name s' := heap_setCell_at h
theorem FlBlk.keep {S : Nat → Prop} {w w' : World} {fb : Nat} {T : TypeId} {p : Value} {name : ByteArray} {s : Nat} (h : FlBlk w fb T p name s) (hc : Chg S w w') (hn : ¬ S fb) : FlBlk w' fb T p name s := hc.keep h hn

set_option maxRecDepth 100000 in
set_option maxHeartbeats 1000000 in
theorem seal_any (w : World) (fb : Nat) (T : TypeId) (p : Value) (name : ByteArray) (s : Nat) (l : List UInt8) (h : FlBlk w fb T p name s) (hs : s < 4294967296) (hl : l.length ≤ 9223372036854775803) :
    Calls Tryz.prog 132 #[.pointer (some ⟨fb, 0, none⟩), .string ⟨l.toArray⟩] w fun e w' => e = .returned (.string ⟨(l ++ sumB (sumOn s l)).toArray⟩) ∧ FlBlk w' fb T p name (sumOn s l) ∧ Chg (One fb) w w' := by
  have c2 := h.c2
  have fz := h.fz 2
  have h1 := h.s2 (sumOn s l)
  have hs1 := sumOn_lt s l hs
  obtain ⟨s1, hs1e⟩ : ∃ s1, sumOn s l = s1 := ⟨_, rfl⟩
  have hq := hide hs1e
  rw [hs1e] at h1 hs1 ⊢
  clear hs1e
  have c3 := h1.c2
  have k1 : Chg (One fb) w (w.setCell ⟨fb, 2, none⟩ (.int .u32 s1)) := (Chg.refl _ w).setAt (show One fb fb from rfl) 2 _
  have ap := append_mk l (sumB s1)
  have hsb := sumB_length s1
  have H1 := hide h1
  have K1 := hide k1
  have H := hide h
  clear h1 k1 h
  have hl2 : l.length ≤ 9223372036854775807 := by omega
  go_enter Tryz.func132, Tryz.ntmps132
  go_wp2_with (first | (go_at_call 159; refine (addSum_list _ _ _ hs hl2).mono ?_; rintro e w' ⟨rfl, rfl⟩; rw [hq.out]) | (go_at_call 160; refine (sumBytes_any _ _ hs1).mono ?_; rintro e w' ⟨rfl, hc⟩))
  go_ret
  exact ⟨rfl, H1.out.keep hc (by simp), K1.out.trans hc (by simp)⟩

set_option maxRecDepth 100000 in
set_option maxHeartbeats 1000000 in
theorem unseal_any (w : World) (fb : Nat) (T : TypeId) (p : Value) (name : ByteArray) (s : Nat) (l t : List UInt8) (h : FlBlk w fb T p name s) (hs : s < 4294967296) (ht : t.length = 4) (hl : l.length ≤ 9223372036854775803) :
    Calls Tryz.prog 108 #[.pointer (some ⟨fb, 0, none⟩), .string ⟨(l ++ t).toArray⟩] w fun e w' => e = .returned (.tuple #[.string ⟨l.toArray⟩, .bool (decide (sumB (sumOn s l) = t))]) ∧ FlBlk w' fb T p name (sumOn s l) ∧ Chg (One fb) w w' := by
  have hfb := h.lt
  have hteq0 : (l ++ sumB (sumOn s l) == l ++ t) = decide (sumB (sumOn s l) = t) := by
    by_cases heq : sumB (sumOn s l) = t
    · rw [decide_eq_true heq, heq]; exact beq_self_eq_true _
    · rw [decide_eq_false heq]; exact beq_eq_false_iff_ne.2 fun h => heq (List.append_cancel_left h)
  obtain ⟨bb, hbb⟩ : ∃ bb, decide (sumB (sumOn s l) = t) = bb := ⟨_, rfl⟩
  rw [hbb] at hteq0 ⊢
  have hteq := hide hteq0
  clear hbb hteq0
  go_enter Tryz.func108, Tryz.ntmps108
  go_wp2
  refine wp_region_each 11 (fun y => { tmps := #[.pointer (some ⟨fb, 0, none⟩), .string ⟨(l ++ t).toArray⟩, undef, undef, .string ⟨#[]⟩, .bool false, y 10, undef, y 0, y 1, y 2, y 3, y 4, y 5, y 6, y 7, y 8, y 9, undef, undef, undef, undef, undef, undef, undef, undef], defers := [] }) (fun _ => undef)
    (fun w' => FlBlk w' fb T p name s ∧ Chg (fun _ => False) w w') (Chg (fun _ => False))
    (fun j x w' => match j with
      | 0 => x = .string ⟨(l ++ t).toArray⟩
      | 1 => x = .string ⟨(l ++ t).toArray⟩
      | 2 => x = .int .i64 ((l.length : Int) + 4)
      | 3 => x = .int .i64 l.length
      | 4 => x = .string ⟨l.toArray⟩
      | 5 => x = .string ⟨(l ++ t).toArray⟩
      | 6 => x = .string ⟨(l ++ t).toArray⟩
      | 7 => x = .int .i64 ((l.length : Int) + 4)
      | 8 => x = .int .i64 l.length
      | 9 => x = .string ⟨t.toArray⟩
      | 10 => x = .string ⟨l.toArray⟩
      | _ => True)
    (by kernel_rfl) (by kernel_rfl) rfl ?_ ?_ ?_ ?_
  · exact ⟨h, (Chg.refl _ _).drew⟩
  · intro j x w1 w2 hR hS' hG
    split at hG <;> exact hG
  · simp only [List.take_succ_cons, List.take_zero, EachOb, and_true]
    repeat' (with_reducible apply And.intro)
    all_goals refine ⟨?_, (by intro y wx _ _ h; exact Bool.noConfusion h), fun y x => rfl⟩
    all_goals
      intro y wx hS hd hw K hK
      clear hw
      obtain ⟨hS1, hS2⟩ := hS
      simp [depsOf, Region.binds, DepsG, List.filter_cons] at hd
      have e1 : (ByteArray.mk (l ++ t).toArray).extract 0 l.length = ⟨l.toArray⟩ := by
        rw [extract_mk]; simp
      have e9 : (ByteArray.mk (l ++ t).toArray).extract l.length (l.length + 4) = ⟨t.toArray⟩ := by
        rw [extract_mk, List.drop_left, show l.length + 4 - l.length = t.length by omega, List.take_length]
      have g1 : (l.length : Int) ≤ (l.length : Int) + 4 := by omega
      have ew : IntKind.i64.wrap (l.length : Int) = l.length := by simp [IntKind.wrap, IntKind.bits, IntKind.signed]; omega
      have HS1 := hide hS1
      have HS2 := hide hS2
      have HK := hide hK
      clear hS1 hS2 hK h
    all_goals dsimp only
    all_goals try go_simp
    all_goals try with_reducible exact HK.out _ _ _ rfl (by simp [Act.put, hd]) (Chg.refl _ _) ⟨HS1.out, HS2.out⟩
  · intro y wx hS hG
    obtain ⟨hS1, hS2⟩ := hS
    have h10 : y 10 = .string ⟨l.toArray⟩ := hG 10 (by omega)
    have h9 : y 9 = .string ⟨t.toArray⟩ := hG 9 (by omega)
    have hk := hS1
    have HS2 := hide hS2
    clear hG hS1 hS2 h
    have ap := append_mk l t
    have hq := hteq.out
    have SE := hide (seal_any wx fb T p name s l hk hs hl)
    have hlt : (ByteArray.mk (l ++ t).toArray).size = l.length + 4 := by show (l ++ t).length = _; simp [ht]
    clear hteq hk
    go_wp2_with (go_at_call 132; refine SE.out.mono ?_; rintro e w' ⟨rfl, hb, hc⟩; have HB := hide hb; have HC := hide hc; clear hb hc)
    go_ret2
    exact ⟨rfl, HB.out, HS2.out.mono (fun _ _ h => h.elim) |>.trans HC.out (fun _ h _ => h)⟩
end Go.Proofs.YtfaeidbgdcincaaGreatDoor
/- A whole disk in memory: 'RepV' (with all that is there by name), 'Rep' (without). No walk. -/
namespace Go.Proofs.YtfaeidbgdcincaaGreatDoor
open Go.RowKit

structure DS where
  dir : List Ent
  safe : List Ent
  changes : List (List Ent)
  n : DN
/-- A file: its bytes, how many of them are safe. -/
abbrev FC := List UInt8 × Int
def inEnts (f : Nat) (es : List Ent) : Prop := ∃ e ∈ es, e.2 = f
/-- Files that the disk can reach. -/
def DS.ids (D : DS) (f : Nat) : Prop := inEnts f D.dir ∨ inEnts f D.safe ∨ ∃ c ∈ D.changes, inEnts f c
structure RepV (w : World) (b : Nat) (D : DS) (F : Nat → FC) (vd vs vc : Value) (vals : List Value) (VB : Nat → Value) : Prop where
  blk : DBlk w b vd vs vc D.n
  dir : EntSl w vd D.dir
  safe : EntSl w vs D.safe
  chg : w.ownsRow 0 133 1 vc D.changes.length vals
  che : ∀ i (h : i < D.changes.length), ∃ v, vals[i]? = some v ∧ EntSl w v (D.changes[i]'h)
  fil : ∀ f, D.ids f → FBlk w f (VB f) (F f).2 ∧ BSl w (VB f) (F f).1
  inj : ∀ f f' g, D.ids f → D.ids f' → (VB f).ownBlock = some g → (VB f').ownBlock = some g → f = f'
/-- The blocks of the disk. -/
def Foot (b : Nat) (D : DS) (vd vs vc : Value) (vals : List Value) (VB : Nat → Value) (k : Nat) : Prop :=
  k = b ∨ vd.ownBlock = some k ∨ vs.ownBlock = some k ∨ vc.ownBlock = some k ∨ (∃ v ∈ vals, v.ownBlock = some k) ∨ D.ids k ∨ ∃ f, D.ids f ∧ (VB f).ownBlock = some k
section
variable {b : Nat} {D : DS} {vd vs vc : Value} {vals : List Value} {VB : Nat → Value}
theorem Foot.blk : Foot b D vd vs vc vals VB b := .inl rfl
theorem Foot.dir {k : Nat} (h : vd.ownBlock = some k) : Foot b D vd vs vc vals VB k := .inr (.inl h)
theorem Foot.safe {k : Nat} (h : vs.ownBlock = some k) : Foot b D vd vs vc vals VB k := .inr (.inr (.inl h))
theorem Foot.chg {k : Nat} (h : vc.ownBlock = some k) : Foot b D vd vs vc vals VB k := .inr (.inr (.inr (.inl h)))
theorem Foot.che {k : Nat} {v : Value} (hv : v ∈ vals) (h : v.ownBlock = some k) : Foot b D vd vs vc vals VB k := .inr (.inr (.inr (.inr (.inl ⟨v, hv, h⟩))))
theorem Foot.fil {f : Nat} (h : D.ids f) : Foot b D vd vs vc vals VB f := .inr (.inr (.inr (.inr (.inr (.inl h)))))
theorem Foot.byt {f k : Nat} (hf : D.ids f) (h : (VB f).ownBlock = some k) : Foot b D vd vs vc vals VB k := .inr (.inr (.inr (.inr (.inr (.inr ⟨f, hf, h⟩)))))
theorem Foot.elim {motive : (k : Nat) → Foot b D vd vs vc vals VB k → Prop} (blk : motive b .blk) (dir : ∀ {k} (e : vd.ownBlock = some k), motive k (.dir e)) (safe : ∀ {k} (e : vs.ownBlock = some k), motive k (.safe e)) (chg : ∀ {k} (e : vc.ownBlock = some k), motive k (.chg e))
    (che : ∀ {k v} (hv : v ∈ vals) (e : v.ownBlock = some k), motive k (.che hv e)) (fil : ∀ {f} (h : D.ids f), motive f (.fil h)) (byt : ∀ {f k} (hf : D.ids f) (e : (VB f).ownBlock = some k), motive k (.byt hf e)) {k : Nat} (t : Foot b D vd vs vc vals VB k) : motive k t := by
  rcases t with rfl | e | e | e | ⟨v, hv, e⟩ | h | ⟨f, hf, e⟩
  · exact blk
  · exact dir e
  · exact safe e
  · exact chg e
  · exact che hv e
  · exact fil h
  · exact byt hf e
end
def Rep (w : World) (b : Nat) (D : DS) (F : Nat → FC) (Ft : Nat → Prop) : Prop :=
  ∃ vd vs vc vals VB, RepV w b D F vd vs vc vals VB ∧ ∀ k, Foot b D vd vs vc vals VB k → Ft k

section
variable {w w' : World} {b : Nat} {D : DS} {F : Nat → FC} {vd vs vc : Value} {vals : List Value} {VB : Nat → Value}
theorem RepV.vals_length (h : RepV w b D F vd vs vc vals VB) : vals.length = D.changes.length := by have := h.chg.1; omega
theorem RepV.lt (h : RepV w b D F vd vs vc vals VB) {k : Nat} (hk : Foot b D vd vs vc vals VB k) : k < w.heap.size := by
  cases hk using Foot.elim with
  | blk => exact lt_of_block h.blk
  | dir e => exact ownsRow_lt h.dir e
  | safe e => exact ownsRow_lt h.safe e
  | chg e => exact ownsRow_lt h.chg e
  | che hv e =>
    obtain ⟨i, hi⟩ := List.getElem?_of_mem hv
    have hl : i < D.changes.length := by rw [← h.vals_length]; exact (List.getElem?_eq_some_iff.1 hi).1
    obtain ⟨v', h1, h2⟩ := h.che i hl
    rw [hi] at h1; cases h1
    exact ownsRow_lt h2 e
  | fil hf => exact lt_of_block (h.fil _ hf).1
  | byt hf e => exact ownsRow_lt (h.fil _ hf).2 e
/-- The reading hangs on the disk's blocks alone. -/
theorem RepV.frame (h : RepV w b D F vd vs vc vals VB) (hs : Same (Foot b D vd vs vc vals VB) w w') : RepV w' b D F vd vs vc vals VB := by
  refine ⟨?_, ?_, ?_, ?_, ?_, ?_, h.inj⟩
  · have := h.blk; unfold DBlk at this ⊢; rw [hs b .blk]; exact this
  · exact ownsRow_same h.dir fun g hg => hs g (.dir hg)
  · exact ownsRow_same h.safe fun g hg => hs g (.safe hg)
  · exact ownsRow_same h.chg fun g hg => hs g (.chg hg)
  · intro i hi
    obtain ⟨v, h1, h2⟩ := h.che i hi
    exact ⟨v, h1, ownsRow_same h2 fun g hg => hs g (.che (List.mem_of_getElem? h1) hg)⟩
  · intro f hf
    obtain ⟨h1, h2⟩ := h.fil f hf
    refine ⟨?_, ownsRow_same h2 fun g hg => hs g (.byt hf hg)⟩
    unfold FBlk at h1 ⊢; rw [hs f (.fil hf)]; exact h1
theorem Rep.frame {Ft : Nat → Prop} (h : Rep w b D F Ft) (hs : Same Ft w w') : Rep w' b D F Ft := by
  obtain ⟨vd, vs, vc, vals, VB, hr, hf⟩ := h
  exact ⟨vd, vs, vc, vals, VB, hr.frame (hs.mono hf), hf⟩
theorem Rep.mono {Ft Ft' : Nat → Prop} (h : Rep w b D F Ft) (hs : ∀ k, Ft k → Ft' k) : Rep w b D F Ft' := by
  obtain ⟨vd, vs, vc, vals, VB, hr, hf⟩ := h
  exact ⟨vd, vs, vc, vals, VB, hr, fun k hk => hs k (hf k hk)⟩
theorem Rep.F_congr {Ft : Nat → Prop} {F' : Nat → FC} (h : Rep w b D F Ft) (hF : ∀ f, D.ids f → F' f = F f) : Rep w b D F' Ft := by
  obtain ⟨vd, vs, vc, vals, VB, hr, hf⟩ := h
  exact ⟨vd, vs, vc, vals, VB, ⟨hr.blk, hr.dir, hr.safe, hr.chg, hr.che, fun f hh => by rw [hF f hh]; exact hr.fil f hh, hr.inj⟩, hf⟩
/-- Blocks of different elements are different. -/
theorem elem_ne {w : World} {g k : Nat} {c c' : Array Value} {e e' : Nat} (h : w.heap[g]? = some (.cells c e (0, 0))) (h' : w.heap[k]? = some (.cells c' e' (0, 0))) (hne : e ≠ e') : g ≠ k := by
  intro he; subst he; rw [h] at h'; cases h'; exact hne rfl
theorem RepV.dir_ne (h : RepV w b D F vd vs vc vals VB) {g : Nat} (hg : vd.ownBlock = some g) : ∃ c, w.heap[g]? = some (.cells c 128 (0, 0)) := ownsRow_elem h.dir hg
/-- What is in a block of entries. -/
theorem RepV.ent (h : RepV w b D F vd vs vc vals VB) {g : Nat} : (vd.ownBlock = some g ∨ vs.ownBlock = some g ∨ ∃ v ∈ vals, v.ownBlock = some g) → ∃ c, w.heap[g]? = some (.cells c 128 (0, 0)) := by
  rintro (hg | hg | ⟨v, hv, hg⟩)
  · exact ownsRow_elem h.dir hg
  · exact ownsRow_elem h.safe hg
  · obtain ⟨i, hi⟩ := List.getElem?_of_mem hv
    have hl : i < D.changes.length := by rw [← h.vals_length]; exact (List.getElem?_eq_some_iff.1 hi).1
    obtain ⟨v', h1, h2⟩ := h.che i hl
    rw [hi] at h1; cases h1
    exact ownsRow_elem h2 hg
/-- The disk's own block, turned: all else is as it was. -/
theorem RepV.turn (h : RepV w b D F vd vs vc vals VB) {n : DN} (hb : DBlk w' b vd vs vc n) (hc : Chg (One b) w w') : RepV w' b { D with n := n } F vd vs vc vals VB := by
  have hk : ∀ (k : Nat) (c : Array Value) (e : Nat), w.heap[k]? = some (Obj.cells c e (0, 0)) → e ≠ 91 → w'.heap[k]? = w.heap[k]? := fun k c e hk he =>
    hc.block k (lt_of_block hk) (elem_ne hk h.blk he)
  refine ⟨hb, ?_, ?_, ?_, ?_, ?_, h.inj⟩
  · exact ownsRow_same h.dir fun g hg => by obtain ⟨c, hh⟩ := ownsRow_elem h.dir hg; exact hk g _ _ hh (by decide)
  · exact ownsRow_same h.safe fun g hg => by obtain ⟨c, hh⟩ := ownsRow_elem h.safe hg; exact hk g _ _ hh (by decide)
  · exact ownsRow_same h.chg fun g hg => by obtain ⟨c, hh⟩ := ownsRow_elem h.chg hg; exact hk g _ _ hh (by decide)
  · intro i hi
    obtain ⟨v, h1, h2⟩ := h.che i hi
    exact ⟨v, h1, ownsRow_same h2 fun g hg => by obtain ⟨c, hh⟩ := ownsRow_elem h2 hg; exact hk g _ _ hh (by decide)⟩
  · intro f hf
    obtain ⟨h1, h2⟩ := h.fil f hf
    refine ⟨?_, ownsRow_same h2 fun g hg => by obtain ⟨c, hh⟩ := ownsRow_elem h2 hg; exact hk g _ _ hh (by decide)⟩
    unfold FBlk at h1 ⊢; rw [hk f _ _ h1 (by decide)]; exact h1
end
/-! ## Files by their names -/
def lookup : List Ent → ByteArray → Option Nat
  | [], _ => none
  | e :: r, name => if e.1 = name then some e.2 else lookup r name
theorem lookup_cases (es : List Ent) (name : ByteArray) : (fidx es name = -1 ∧ lookup es name = none) ∨ ∃ k, ∃ hk : k < es.length, fidx es name = (k : Int) ∧ lookup es name = some (es[k]'hk).2 ∧ (es[k]'hk).1 = name := by
  induction es with
  | nil => exact .inl ⟨rfl, rfl⟩
  | cons e r ih =>
    by_cases h : e.1 = name
    · exact .inr ⟨0, by simp, by simp [fidx, h], by simp [lookup, h], by simpa using h⟩
    · rcases ih with ⟨h1, h2⟩ | ⟨k, hk, h1, h2, h3⟩
      · exact .inl ⟨by simp [fidx, h, h1], by simp [lookup, h, h2]⟩
      · exact .inr ⟨k + 1, by simpa using hk, by simp only [fidx, h, if_false, h1]; rw [if_neg (by omega)]; omega, by simp [lookup, h, h2], by simpa using h3⟩
theorem RepV.dirAt {w : World} {b : Nat} {D : DS} {F : Nat → FC} {vd vs vc : Value} {vals : List Value} {VB : Nat → Value} (h : RepV w b D F vd vs vc vals VB) (k : Nat) (hk : k < D.dir.length) :
    FBlk w (D.dir[k]'hk).2 (VB (D.dir[k]'hk).2) (F (D.dir[k]'hk).2).2 ∧ BSl w (VB (D.dir[k]'hk).2) (F (D.dir[k]'hk).2).1 := h.fil _ (.inl ⟨_, List.getElem_mem hk, rfl⟩)
theorem BSl.form {w : World} {v : Value} {bs : List UInt8} (h : BSl w v bs) : ∃ a cap, v = .slice a bs.length cap ∧ bs.length ≤ cap ∧ cap ≤ maxLen := by
  obtain ⟨a, cap, h1, h2, h3, _⟩ := ownsRow_form h
  exact ⟨a, cap, h1, h2, h3⟩

/-- Behind a call: the disk as it is then, and what was changed. -/
def After (w : World) (Ft : Nat → Prop) (w' : World) (b : Nat) (D' : DS) (F' : Nat → FC) : Prop :=
  Chg Ft w w' ∧ ∃ Ft', Rep w' b D' F' Ft' ∧ (∀ k, Ft' k → k < w'.heap.size) ∧ ∀ k, Ft' k → Ft k ∨ w.heap.size ≤ k
theorem After.mk' {w w' : World} {Ft : Nat → Prop} {b : Nat} {D' : DS} {F' : Nat → FC} {vd vs vc : Value} {vals : List Value} {VB : Nat → Value} (hc : Chg Ft w w') (h : RepV w' b D' F' vd vs vc vals VB)
    (hf : ∀ k, Foot b D' vd vs vc vals VB k → Ft k ∨ w.heap.size ≤ k) : After w Ft w' b D' F' :=
  ⟨hc, _, ⟨vd, vs, vc, vals, VB, h, fun _ hk => hk⟩, fun _ hk => h.lt hk, hf⟩
theorem After.trans {w w1 w2 : World} {Ft : Nat → Prop} {b : Nat} {D1 D2 : DS} {F1 F2 : Nat → FC} (h : After w Ft w1 b D1 F1) (h2 : ∀ Ft1, Rep w1 b D1 F1 Ft1 → After w1 Ft1 w2 b D2 F2) : After w Ft w2 b D2 F2 := by
  obtain ⟨hc, Ft1, hr, hlt, hs⟩ := h
  obtain ⟨hc2, Ft2, hr2, hlt2, hs2⟩ := h2 Ft1 hr
  refine ⟨hc.trans hc2 fun x hx hlt => (hs x hx).resolve_right (by omega), Ft2, hr2, hlt2, fun k hk => ?_⟩
  rcases hs2 k hk with h | h
  · exact hs k h
  · exact .inr (Nat.le_trans hc.size h)
/-- The directory, turned. -/
theorem RepV.turnDir {w w' : World} {b : Nat} {D : DS} {F F' : Nat → FC} {vd vs vc vl vc' : Value} {vals : List Value} {VB VB' : Nat → Value} {n : DN} {es : List Ent} {S : Nat → Prop} (h : RepV w b D F vd vs vc vals VB)
    (hb : DBlk w' b vl vs vc' n) (hch : w'.ownsRow 0 133 1 vc' (D.changes.length + 1) (vals ++ [vl])) (hes : EntSl w' vl es) (hc : Chg S w w') (hS : ∀ k, S k → k = b ∨ vc.ownBlock = some k)
    (hF : ∀ f, D.ids f → F' f = F f ∧ VB' f = VB f) (hnew : ∀ f, inEnts f es → D.ids f ∨ (FBlk w' f (VB' f) (F' f).2 ∧ BSl w' (VB' f) (F' f).1 ∧ (VB' f).ownBlock = none)) :
    RepV w' b { D with dir := es, changes := D.changes ++ [es], n := n } F' vl vs vc' (vals ++ [vl]) VB' := by
  have hk : ∀ (k : Nat) (c : Array Value) (e : Nat), w.heap[k]? = some (Obj.cells c e (0, 0)) → e ≠ 91 → e ≠ 133 → w'.heap[k]? = w.heap[k]? := fun k c e hk he he2 =>
    hc.block k (lt_of_block hk) (fun hs => by
      rcases hS k hs with hs | hs
      · exact elem_ne hk h.blk he hs
      · obtain ⟨c', hh⟩ := ownsRow_elem h.chg hs
        exact elem_ne hk hh he2 rfl)
  have hids : ∀ f, ({ D with dir := es, changes := D.changes ++ [es], n := n } : DS).ids f → D.ids f ∨ inEnts f es := by
    rintro f (hf | hf | ⟨c, hcm, hf⟩)
    · exact .inr hf
    · exact .inl (.inr (.inl hf))
    · rcases List.mem_append.1 hcm with hcm | hcm
      · exact .inl (.inr (.inr ⟨c, hcm, hf⟩))
      · simp at hcm; subst hcm; exact .inr hf
  have hold : ∀ f, D.ids f → FBlk w' f (VB' f) (F' f).2 ∧ BSl w' (VB' f) (F' f).1 := by
    intro f hf
    obtain ⟨h1, h2⟩ := h.fil f hf
    rw [(hF f hf).1, (hF f hf).2]
    refine ⟨?_, ownsRow_same h2 fun g hg => by obtain ⟨c, hh⟩ := ownsRow_elem h2 hg; exact hk g _ _ hh (by decide) (by decide)⟩
    unfold FBlk at h1 ⊢; rw [hk f _ _ h1 (by decide) (by decide)]; exact h1
  refine ⟨hb, hes, ?_, ?_, ?_, ?_, ?_⟩
  · exact ownsRow_same h.safe fun g hg => by obtain ⟨c, hh⟩ := ownsRow_elem h.safe hg; exact hk g _ _ hh (by decide) (by decide)
  · simpa using hch
  · intro i hi
    by_cases hlt : i < D.changes.length
    · obtain ⟨v, h1, h2⟩ := h.che i hlt
      refine ⟨v, by rw [List.getElem?_append_left (by rw [h.vals_length]; exact hlt)]; exact h1, ?_⟩
      simp only [List.getElem_append_left hlt]
      exact ownsRow_same h2 fun g hg => by obtain ⟨c, hh⟩ := ownsRow_elem h2 hg; exact hk g _ _ hh (by decide) (by decide)
    · obtain rfl : i = D.changes.length := by simp at hi; omega
      refine ⟨vl, by rw [← h.vals_length]; simp, ?_⟩
      simpa using hes
  · intro f hf
    rcases hids f hf with hf | hf
    · exact hold f hf
    · rcases hnew f hf with hf | ⟨h1, h2, _⟩
      · exact hold f hf
      · exact ⟨h1, h2⟩
  · intro f f' g hf hf' hg hg'
    have key : ∀ f, ({ D with dir := es, changes := D.changes ++ [es], n := n } : DS).ids f → (VB' f).ownBlock = some g → D.ids f := by
      intro f hf hg
      rcases hids f hf with hf | hf
      · exact hf
      · rcases hnew f hf with hf | ⟨_, _, h3⟩
        · exact hf
        · rw [h3] at hg; cases hg
    have k1 := key f hf hg
    have k2 := key f' hf' hg'
    rw [(hF f k1).2] at hg
    rw [(hF f' k2).2] at hg'
    exact h.inj f f' g k1 k2 hg hg'
end Go.Proofs.YtfaeidbgdcincaaGreatDoor
