/-
  The statement PassingCardSaid is proved: the law Passing answers true, at every four numbers; there is no condition.
  Part 6 of 34.
-/
import Derived.StillTail
import Derived.OrdersHeld
import Derived.Tactics
import Derived.WalkKit
import Derived.Test.YtodcnkbblippnaaGreatDoorPart01
import Derived.Laws.BitsAllLaws
import Derived.Laws.BytesString
import Derived.Test.YtodcnkbblippnaaGreatDoorPart02
import Derived.Handy
/- A law on regions that draw their order, no walk: what each operation yields is told by a predicate on its value and the world that the others' doings keep; one obligation an operation, whatever order is drawn; a row of operations at the end that waits for all of them is walked as it stands. -/
namespace Go.Proofs.YtodcnkbblippnaaGreatDoor
open Go
section
variable {P : Program} {Q : Exit → Act → World → Prop}
def updV (y : Nat → Value) (i : Nat) (v : Value) : Nat → Value := fun j => if j = i then v else y j
/-- What an operation waits for. -/
def depsOf (o : Oper) : List Nat := (o.after.toList.filter (Region.binds .any)).map (·.on)
/-- What is known of the operations that are waited for. -/
def DepsG (G : Nat → Value → World → Prop) (y : Nat → Value) (w : World) : List Nat → Prop
  | [] => True
  | j :: r => G j (y j) w ∧ DepsG G y w r
theorem DepsG.of {G : Nat → Value → World → Prop} {y : Nat → Value} {w : World} : ∀ (l : List Nat), (∀ j ∈ l, G j (y j) w) → DepsG G y w l
  | [], _ => trivial
  | j :: r, h => ⟨h j (by simp), DepsG.of r fun k hk => h k (by simp [hk])⟩
def EachOne (P : Program) (ops : Array Oper) (A : (Nat → Value) → Act) (S : World → Prop) (R : World → World → Prop) (G : Nat → Value → World → Prop) (Q : Exit → Act → World → Prop) (i : Nat) (o : Oper) : Prop :=
  (∀ y w, S w → DepsG G y w (depsOf o) → Region.wanted o (yielded ops (A y).tmps) = true → ∀ K : Act → World → Prop, (∀ v a' w', G i v w' → a' = (A y).put o.dst v → R w w' → S w' → K a' w') → o.wp P (A y) w K Q) ∧
  (∀ y w, S w → DepsG G y w (depsOf o) → Region.wanted o (yielded ops (A y).tmps) = false → G i undef w) ∧
  (∀ y v, (A y).put o.dst v = A (updV y i v))
def EachOb (P : Program) (ops : Array Oper) (A : (Nat → Value) → Act) (S : World → Prop) (R : World → World → Prop) (G : Nat → Value → World → Prop) (Q : Exit → Act → World → Prop) : Nat → List Oper → Prop
  | _, [] => True
  | i, o :: r => EachOne P ops A S R G Q i o ∧ EachOb P ops A S R G Q (i + 1) r
theorem EachOb.get {ops : Array Oper} {A : (Nat → Value) → Act} {S : World → Prop} {R : World → World → Prop} {G : Nat → Value → World → Prop} : ∀ {k : Nat} {l : List Oper}, EachOb P ops A S R G Q k l → ∀ (i : Nat) (o : Oper), l[i]? = some o → EachOne P ops A S R G Q (k + i) o
  | _, [], _, i, o, h => by simp at h
  | k, o' :: r, hh, 0, o, h => by
    have : o' = o := by simpa using h
    subst this; exact hh.1
  | k, o' :: r, hh, i + 1, o, h => by
    have := EachOb.get hh.2 i o (by simpa using h)
    rwa [show k + 1 + i = k + (i + 1) by omega] at this
/-- How many heads are not through. -/
def cntU (listed : Array Bool) : Nat → Nat
  | 0 => 0
  | k + 1 => cntU listed k + (if listed.getD k true then 0 else 1)
theorem cntU_far (listed : Array Bool) (i : Nat) : ∀ n, n ≤ i → cntU (listed.setIfInBounds i true) n = cntU listed n
  | 0, _ => rfl
  | n + 1, h => by
    unfold cntU
    rw [cntU_far listed i n (by omega), getD_set_ne true (by omega)]
theorem cntU_set (listed : Array Bool) (i : Nat) (hi : listed.getD i true = false) : ∀ n, i < n → cntU listed n = cntU (listed.setIfInBounds i true) n + 1
  | 0, h => by omega
  | n + 1, h => by
    unfold cntU
    by_cases hin : i = n
    · subst hin
      have hs : i < listed.size := by
        rcases Nat.lt_or_ge i listed.size with h' | h'
        · exact h'
        · simp [Array.getElem?_eq_none h'] at hi
      rw [cntU_far listed i i (Nat.le_refl _), hi]
      simp [hs]
    · rw [cntU_set listed i hi n (by omega), getD_set_ne true hin]; omega
theorem cntU_zero (listed : Array Bool) : ∀ n, cntU listed n = 0 → ∀ j, j < n → listed.getD j true = true
  | 0, _, j, h => by omega
  | n + 1, h, j, hj => by
    unfold cntU at h
    rcases Nat.lt_or_ge j n with h' | h'
    · exact cntU_zero listed n (by omega) j h'
    · obtain rfl : j = n := by omega
      cases hg : listed.getD j true with
      | true => rfl
      | false => rw [hg] at h; simp at h
theorem cntU_pos (listed : Array Bool) : ∀ n, cntU listed n ≠ 0 → ∃ j, j < n ∧ listed.getD j true = false
  | 0, h => absurd rfl h
  | n + 1, h => by
    cases hg : listed.getD n true with
    | false => exact ⟨n, by omega, hg⟩
    | true =>
      unfold cntU at h
      rw [hg] at h
      obtain ⟨j, hj, h2⟩ := cntU_pos listed n (by simpa using h)
      exact ⟨j, by omega, h2⟩
theorem cntU_start (m : Nat) : ∀ n, n ≤ m → cntU (Array.replicate m false) n = n
  | 0, _ => rfl
  | n + 1, h => by
    unfold cntU
    rw [cntU_start m n (by omega)]
    have hnm : n < m := by omega
    have : (Array.replicate m false).getD n true = false := by simp [hnm]
    rw [this]; simp
def eachB (ops : Array Oper) (n : Nat) : Bool :=
  decide (n < ops.size) && Region.sinkB .any ops n && Region.chainB .any ops n &&
    ((List.range n).all fun i => ((ops[i]?).map fun o => o.after.all fun e => !Region.binds .any e || decide (e.on < i)).getD false) &&
    Region.seqB .any ops (ops.size - n) n (List.replicate n true ++ List.replicate (ops.size - n) false).toArray
theorem ready_some {ops : Array Oper} {n : Nat} {listed : Array Bool} (inv : HeadInv .any ops n listed) (hn : n < ops.size)
    (hlow : ((List.range n).all fun i => ((ops[i]?).map fun o => o.after.all fun e => !Region.binds .any e || decide (e.on < i)).getD false) = true) :
    ∀ (i : Nat), i < n → listed.getD i true = false → ∃ k, k ∈ Region.ready .any ops listed := by
  intro i
  induction i using Nat.strongRecOn with
  | _ i ih =>
    intro hi hun
    have ho : ops[i]? = some (ops[i]'(by omega)) := Array.getElem?_eq_getElem (by omega)
    obtain ⟨o, ho⟩ : ∃ o, ops[i]? = some o := ⟨_, ho⟩
    by_cases hall : ∀ e ∈ o.after, Region.binds .any e = true → listed.getD e.on false = true
    · exact ⟨i, mem_ready.2 ⟨hun, o, ho, hall⟩⟩
    · simp only [Classical.not_forall] at hall
      obtain ⟨e, he, hb, hne⟩ := hall
      have h1 := (List.all_eq_true.1 hlow) i (List.mem_range.2 hi)
      rw [ho] at h1
      simp only [Option.map_some, Option.getD_some, Array.all_eq_true_iff_forall_mem] at h1
      have h2 := h1 e he
      rw [hb] at h2
      have h3 : e.on < i := by simpa using h2
      refine ih e.on h3 (by omega) (getD_in (by rw [inv.size]; omega) ?_)
      cases h : listed.getD e.on false with
      | true => exact absurd h hne
      | false => rfl
theorem each_core {l : List Oper} {n : Nat} {A : (Nat → Value) → Act} {S : World → Prop} {R : World → World → Prop} {G : Nat → Value → World → Prop} (hB : eachB l.toArray n = true)
    (hob : EachOb P l.toArray A S R G Q 0 (l.take n)) (hst : ∀ j v w w', R w w' → S w' → G j v w → G j v w')
    (hend : ∀ y w, S w → (∀ j, j < n → G j (y j) w) → wpList P l.toArray Q (l.drop n) (A y) w) :
    ∀ (f : Nat) (listed : Array Bool) (y : Nat → Value) (w : World), HeadInv .any l.toArray n listed → cntU listed n = f → S w → (∀ j, j < n → listed.getD j false = true → G j (y j) w) →
      wpAny P .any l.toArray Q (f + (l.toArray.size - n)) listed (A y) w := by
  simp only [eachB, Bool.and_eq_true, decide_eq_true_eq] at hB
  obtain ⟨⟨⟨⟨hn, hs⟩, hc⟩, hlow⟩, hseq⟩ := hB
  intro f
  induction f with
  | zero =>
    intro listed y w inv hcnt hS hG
    have hall := cntU_zero listed n hcnt
    have hsz := inv.size
    have hallF : ∀ j, j < n → listed.getD j false = true := fun j hj => by
      have h1 := hall j hj
      have h2 : j < listed.size := by omega
      simp [h2] at h1 ⊢; exact h1
    have hL : listed = (List.replicate n true ++ List.replicate (l.toArray.size - n) false).toArray := by
      refine Array.ext (by simp [hsz]; have : n < l.length := by simpa using hn
                           omega) fun i h1 h2 => ?_
      rcases Nat.lt_or_ge i n with h | h
      · have := hallF i h
        simp [h1] at this
        simp [this, h]
      · have := inv.tail i h (by omega)
        simp [h1] at this
        simp [this, List.getElem_append, Nat.not_lt.2 h]
    rw [Nat.zero_add]
    have hdl : (l.drop n).length = l.toArray.size - n := by simp
    have := wpAny_of_seq (P := P) (md := .any) (ops := l.toArray) (Q' := Q) (l.drop n) n listed (A y) w (fun j => by simp [List.getElem?_drop]) (by rw [hdl, hL]; exact hseq) (hend y w hS fun j hj => hG j hj (hallF j hj))
    rwa [hdl] at this
  | succ f ih =>
    intro listed y w inv hcnt hS hG
    obtain ⟨i0, hi0, hun0⟩ := cntU_pos listed n (by omega)
    have hfuel : f + 1 + (l.toArray.size - n) = (f + (l.toArray.size - n)) + 1 := by omega
    rw [hfuel]
    refine ⟨fun h0 => ?_, fun i hi => ?_⟩
    · obtain ⟨k, hk⟩ := ready_some inv hn hlow i0 hi0 hun0
      rw [h0] at hk; cases hk
    · have hin : i < n := by
        rcases Nat.lt_or_ge i n with h | h
        · exact h
        · exact absurd hi (tail_waits hs hc hn inv _ i0 rfl hi0 hun0 i h)
      obtain ⟨hun, o, ho, hall⟩ := mem_ready.1 hi
      have hon : (l.take n)[i]? = some o := by
        rw [List.getElem?_take_of_lt hin]; simpa using ho
      have h1 := (List.all_eq_true.1 hlow) i (List.mem_range.2 hin)
      rw [ho] at h1
      simp only [Option.map_some, Option.getD_some, Array.all_eq_true_iff_forall_mem] at h1
      have ob := hob.get i o hon
      rw [Nat.zero_add] at ob
      have hdeps : DepsG G y w (depsOf o) := by
        refine DepsG.of _ fun j hj => ?_
        unfold depsOf at hj
        rw [List.mem_map] at hj
        obtain ⟨e, he, rfl⟩ := hj
        rw [List.mem_filter] at he
        have he1 : e ∈ o.after := by simpa using he.1
        have h2 := h1 e he1
        rw [he.2] at h2
        have h3 : e.on < i := by simpa using h2
        exact hG e.on (by omega) (hall e he1 he.2)
      have hnext : ∀ v w', S w' → (R w w' ∨ w' = w) → G i v w' → wpAny P .any l.toArray Q (f + (l.toArray.size - n)) (listed.setIfInBounds i true) ((A y).put o.dst v) w' := by
        intro v w' hS' hR hGi
        rw [ob.2.2 y v]
        refine ih _ _ _ (inv.set hi hin) (by have := cntU_set listed i hun n hin; omega) hS' fun j hj hl => ?_
        unfold updV
        by_cases hji : j = i
        · subst hji; simpa using hGi
        · rw [if_neg hji]
          rw [getD_set_ne false (Ne.symm hji)] at hl
          rcases hR with hR | rfl
          · exact hst j _ w w' hR hS' (hG j hj hl)
          · exact hG j hj hl
      unfold wpOp
      simp only [ho]
      split
      · rename_i hw
        exact .inl (ob.1 y w hS hdeps hw _ fun v a' w' hGi ha' hR hS' => ha' ▸ hnext v w' hS' (.inl hR) hGi)
      · rename_i hw
        exact hnext _ w hS (.inr rfl) (ob.2.1 y w hS hdeps (by simpa using hw))
/-- **One obligation an operation.** -/
theorem wp_region_each {id : Nat} {a : Act} {w : World} {l : List Oper} (n : Nat) (A : (Nat → Value) → Act) (y0 : Nat → Value) (S : World → Prop) (R : World → World → Prop) (G : Nat → Value → World → Prop) (hm : P.follows .mixedOrders = true) (hB : eachB l.toArray n = true)
    (ha : a = A y0) (hS : S w.drew) (hst : ∀ j v w w', R w w' → S w' → G j v w → G j v w')
    (hob : EachOb P l.toArray A S R G Q 0 (l.take n))
    (hend : ∀ y w, S w → (∀ j, j < n → G j (y j) w) → wpList P l.toArray Q (l.drop n) (A y) w) : (Code.region id l.toArray true).wp P Q a w := by
  have hn : n < l.toArray.size := by
    simp only [eachB, Bool.and_eq_true, decide_eq_true_eq] at hB
    exact hB.1.1.1.1
  refine wp_region_any hm ?_
  have inv0 : HeadInv .any l.toArray n (Array.replicate l.toArray.size false) :=
    ⟨by simp, fun j oj _ hl => (by rw [getD_replicate_false] at hl; cases hl), fun t _ ht => getD_in (by simpa using ht) (getD_replicate_false _ _)⟩
  have H := each_core hB hob hst hend n _ y0 w.drew inv0 (cntU_start _ n (by omega)) hS (fun j _ hl => by rw [getD_replicate_false] at hl; cases hl)
  rw [show n + (l.toArray.size - n) = l.toArray.size by omega] at H
  rw [ha]
  exact H
end
end Go.Proofs.YtodcnkbblippnaaGreatDoor
/- Walks: the sum of a file's pieces: addSum. -/
namespace Go.Proofs.YtodcnkbblippnaaGreatDoor
open Go.RowKit

/-- One bit of the sum. -/
def sumBit (s : Nat) : Nat := (s / 2) ^^^ (3988292384 * (s &&& 1))
def sumBits (s : Nat) : Nat → Nat
  | 0 => s
  | n + 1 => sumBit (sumBits s n)
def sumByte (s : Nat) (b : UInt8) : Nat := sumBits (s ^^^ b.toNat) 8
/-- The sum, gone on with over more text. -/
def sumOn (s : Nat) (bs : List UInt8) : Nat := bs.foldl sumByte s
theorem and_one_le (s : Nat) : s &&& 1 ≤ 1 := Nat.and_le_right
theorem sumBit_lt (s : Nat) (h : s < 4294967296) : sumBit s < 4294967296 := by
  unfold sumBit
  have := and_one_le s
  exact Nat.xor_lt_two_pow (n := 32) (by omega) (by omega)
theorem sumBits_lt (s n : Nat) (h : s < 4294967296) : sumBits s n < 4294967296 := by
  induction n with
  | zero => exact h
  | succ n ih => exact sumBit_lt _ ih
theorem sumByte_lt (s : Nat) (b : UInt8) (h : s < 4294967296) : sumByte s b < 4294967296 := by
  have := b.toNat_lt
  exact sumBits_lt _ _ (Nat.xor_lt_two_pow (n := 32) (by omega) (by omega))
theorem sumOn_lt (s : Nat) (bs : List UInt8) (h : s < 4294967296) : sumOn s bs < 4294967296 := by
  unfold sumOn
  induction bs generalizing s with
  | nil => exact h
  | cons b t ih => exact ih _ (sumByte_lt s b h)
theorem sumOn_append (s : Nat) (a b : List UInt8) : sumOn s (a ++ b) = sumOn (sumOn s a) b := List.foldl_append
theorem sumOn_take_succ (s : Nat) (bs : List UInt8) (k : Nat) (hk : k < bs.length) : sumOn s (bs.take (k + 1)) = sumByte (sumOn s (bs.take k)) (bs[k]'hk) := by
  rw [List.take_succ_eq_append_getElem hk, sumOn_append]; rfl

set_option maxRecDepth 100000 in
set_option maxHeartbeats 1000000 in
theorem addSum_any (w : World) (s : Nat) (text : ByteArray) (hs : s < 4294967296) (hl : text.size ≤ 9223372036854775807) :
    Calls Tryz.prog 165 #[.int .u32 s, .string text] w fun e w' => e = .returned (.int .u32 (sumOn s text.data.toList)) ∧ w = w' := by
  go_enter Tryz.func165, Tryz.ntmps165
  go_wp2
  go_loop [0, 8] (fun c i => ∃ k x : Nat, k ≤ text.size ∧ i = .int .i64 k ∧ c = .int .u32 x ∧ x < 4294967296 ∧ Hid (x = sumOn s (text.data.toList.take k))) (fun _ i => text.size - (intOf i).toNat)
  case atStart => exact ⟨0, s, Nat.zero_le _, rfl, rfl, hs, rfl⟩
  case round =>
    obtain ⟨k, x, hk, rfl, rfl, hx, hq⟩ := hrel
    by_cases hlt : k < text.size
    · have hb := (text[k]'hlt).toNat_lt
      have e0 : bits .xor .u32 (x : Int) (((text[k]'hlt).toNat : Int) % 4294967296) = ((x ^^^ (text[k]'hlt).toNat : Nat) : Int) := by
        rw [show (((text[k]'hlt).toNat : Int) % 4294967296) = (((text[k]'hlt).toNat : Nat) : Int) by omega]
        exact u32_xor_nat _ _ hx (by omega)
      have hy : x ^^^ (text[k]'hlt).toNat < 4294967296 := Nat.xor_lt_two_pow (n := 32) (by omega) (by omega)
      have hq2 : Hid (sumBits (x ^^^ (text[k]'hlt).toNat) 8 = sumOn s (text.data.toList.take (k + 1))) := by
        unfold Hid
        rw [sumOn_take_succ s _ k (by simpa using hlt), ← hq.out]
        simp [sumByte]
        rfl
      obtain ⟨y, hyy⟩ : ∃ y, x ^^^ (text[k]'hlt).toNat = y := ⟨_, rfl⟩
      rw [hyy] at e0 hy hq2
      clear hyy hb hq
      go_wp2
      clear e0
      go_loop [0, 17] (fun c i => ∃ j z : Nat, j ≤ 8 ∧ i = .int .i64 j ∧ c = .int .u32 z ∧ z < 4294967296 ∧ Hid (z = sumBits y j)) (fun _ i => 8 - (intOf i).toNat)
      case atStart => exact ⟨0, y, Nat.zero_le _, rfl, rfl, hy, rfl⟩
      case round =>
        obtain ⟨j, z, hj, rfl, rfl, hz, hqz⟩ := hrel
        by_cases hj8 : j < 8
        · have e1 : bits .xor .u32 ((z : Int) / 2) (3988292384 * bits .and .u32 (z : Int) 1 % 4294967296) = ((sumBit z : Nat) : Int) := by
            rw [show (1 : Int) = ((1 : Nat) : Int) from rfl, u32_and_nat z 1 hz (by omega)]
            have := and_one_le z
            have e2 : (3988292384 : Int) * ((z &&& 1 : Nat) : Int) % 4294967296 = ((3988292384 * (z &&& 1) : Nat) : Int) := by omega
            rw [e2, show ((z : Int) / 2) = ((z / 2 : Nat) : Int) by omega]
            exact u32_xor_nat _ _ (by omega) (by omega)
          have hs2 := sumBit_lt z hz
          have hq3 : Hid (sumBit z = sumBits y (j + 1)) := by unfold Hid; rw [hqz.out]; rfl
          go_wp2
          exact ⟨⟨j + 1, sumBit z, by omega, by go_num, rfl, hs2, hq3⟩, by simp [intOf]; omega⟩
        · obtain rfl : j = 8 := by omega
          have hq3 : Hid (z = sumOn s (text.data.toList.take (k + 1))) := by unfold Hid; rw [hqz.out]; exact hq2.out
          go_wp2
          exact ⟨⟨k + 1, z, by omega, by go_num, rfl, hz, hq3⟩, by simp [intOf]; omega⟩
    · have hq3 : Hid (x = sumOn s text.data.toList) := by
        unfold Hid
        rw [hq.out, List.take_of_length_le]
        simpa using by omega
      go_wp2
      go_ret
      rw [hq3.out]
      exact ⟨rfl, rfl⟩
end Go.Proofs.YtodcnkbblippnaaGreatDoor
/- Walks: numbers as bytes: intOf, intBytes, sumBytes. -/
namespace Go.Proofs.YtodcnkbblippnaaGreatDoor
open Go.RowKit

theorem extract_mk (l : List UInt8) (i j : Nat) : (ByteArray.mk l.toArray).extract i j = ⟨((l.drop i).take (j - i)).toArray⟩ := by
  apply ByteArray.ext
  simp [ByteArray.data_extract]
theorem append_mk (a b : List UInt8) : (ByteArray.mk a.toArray) ++ (ByteArray.mk b.toArray) = ⟨(a ++ b).toArray⟩ := by
  apply ByteArray.ext
  simp [ByteArray.data_append]
/-- The number of bytes that stand lowest first. -/
def leN : List UInt8 → Nat
  | [] => 0
  | b :: t => b.toNat + 256 * leN t
theorem leN_append (a b : List UInt8) : leN (a ++ b) = leN a + 256 ^ a.length * leN b := by
  induction a with
  | nil => simp [leN]
  | cons c t ih => simp only [List.cons_append, leN, ih, List.length_cons, Nat.pow_succ]; rw [Nat.mul_add, ← Nat.mul_assoc, Nat.mul_comm (256 ^ t.length) 256]; omega
theorem leN_take_succ (bs : List UInt8) (k : Nat) (hk : k < bs.length) : leN (bs.take (k + 1)) = leN (bs.take k) + (bs[k]'hk).toNat * 256 ^ k := by
  rw [List.take_succ_eq_append_getElem hk, leN_append]
  simp [leN, Nat.min_eq_left (Nat.le_of_lt hk), Nat.mul_comm]

set_option maxRecDepth 100000 in
set_option maxHeartbeats 1000000 in
theorem intOf_any (w : World) (text : ByteArray) (hl : 8 ≤ text.size ∧ text.size ≤ 9223372036854775807) :
    Calls Tryz.prog 168 #[.string text] w fun e w' => e = .returned (.int .i64 (wrap64 (leN (text.data.toList.take 8) : Nat))) ∧ w = w' := by
  obtain ⟨hl1, hl2⟩ := hl
  go_enter Tryz.func168, Tryz.ntmps168
  go_wp2
  go_loop [3, 5] (fun c i => ∃ k x : Nat, k ≤ 8 ∧ i = .int .i64 k ∧ c = .int .u64 x ∧ x < 18446744073709551616 ∧ Hid (x < 256 ^ k) ∧ Hid (x = leN (text.data.toList.take k))) (fun _ i => 8 - (intOf i).toNat)
  case atStart => exact ⟨0, 0, Nat.zero_le _, rfl, rfl, by omega, (by unfold Hid; decide), rfl⟩
  case round =>
    obtain ⟨k, x, hk, rfl, rfl, hx, hxk, hq⟩ := hrel
    by_cases hlt : k < 8
    · have hlt2 : k < text.size := by omega
      have hb := (text[k]'hlt2).toNat_lt
      have hb0 := hb
      have hstep : Hid (x + (text[k]'hlt2).toNat * 256 ^ k = leN (text.data.toList.take (k + 1))) := by
        unfold Hid
        rw [leN_take_succ _ k (by simpa using hlt2), ← hq.out]
        rfl
      obtain ⟨b, hbb⟩ : ∃ b, (text[k]'hlt2).toNat = b := ⟨_, rfl⟩
      rw [hbb] at hb hstep
      obtain ⟨y, hyk, hy256, e1⟩ : ∃ y, y = x + b * 256 ^ k ∧ y < 256 ^ (k + 1) ∧ bits .or .u64 (x : Int) (IntKind.u64.wrap (((text[k]'hlt2).toNat : Int) * 2 ^ (8 * k))) = ((y : Nat) : Int) := by
        have h1 := hxk.out
        have h2 : (256 : Nat) ^ k = 2 ^ (8 * k) := by rw [Nat.pow_mul]
        have h3 : b * 256 ^ k ≤ 255 * 256 ^ k := Nat.mul_le_mul_right _ (by omega)
        have h4 : (256 : Nat) ^ (k + 1) = 256 * 256 ^ k := by rw [Nat.pow_succ, Nat.mul_comm]
        have h5 : (256 : Nat) ^ (k + 1) ≤ 256 ^ 8 := Nat.pow_le_pow_right (by omega) (by omega)
        have h6 : (256 : Nat) ^ 8 = 18446744073709551616 := by decide
        refine ⟨_, rfl, by omega, ?_⟩
        rw [hbb, IntKind.wrap_u64, show ((b : Int) * 2 ^ (8 * k)) = ((b * 2 ^ (8 * k) : Nat) : Int) by push_cast; rfl]
        rw [← h2, show ((b * 256 ^ k : Nat) : Int) % 18446744073709551616 = ((b * 256 ^ k : Nat) : Int) by omega]
        rw [u64_or_nat _ _ hx (by omega)]
        congr 1
        have h7 := Nat.shiftLeft_add_eq_or_of_lt (i := 8 * k) (b := x) (by rw [← h2]; exact h1) b
        rw [Nat.shiftLeft_eq, ← h2] at h7
        rw [Nat.or_comm, ← h7]; omega
      have hy2 : y < 18446744073709551616 := by
        have h5 : (256 : Nat) ^ (k + 1) ≤ 256 ^ 8 := Nat.pow_le_pow_right (by omega) (by omega)
        have h6 : (256 : Nat) ^ 8 = 18446744073709551616 := by decide
        omega
      have hq3 : Hid (y = leN (text.data.toList.take (k + 1))) := by unfold Hid; rw [hyk]; exact hstep.out
      have hy3 : Hid (y < 256 ^ (k + 1)) := hy256
      clear hyk hbb hy256 hstep hq hxk
      go_wp2
      exact ⟨⟨k + 1, y, by omega, by go_num, rfl, hy2, hy3, hq3⟩, by simp [intOf]; omega⟩
    · obtain rfl : k = 8 := by omega
      go_wp2
      go_ret
      rw [hq.out]
      exact ⟨rfl, rfl⟩

/-- A number's bytes, the lowest first. -/
def leB (n : Nat) (k : Nat) : List UInt8 := (List.range k).map fun i => UInt8.ofNat (n / 256 ^ i)
theorem leB_length (n k : Nat) : (leB n k).length = k := by simp [leB]
theorem leB_succ (n k : Nat) : leB n (k + 1) = UInt8.ofNat n :: leB (n / 256) k := by
  simp only [leB, List.range_succ_eq_map, List.map_cons, List.map_map, Nat.pow_zero, Nat.div_one]
  congr 1
  apply List.map_congr_left
  intro i _
  simp only [Function.comp, Nat.succ_eq_add_one, Nat.pow_succ, Nat.div_div_eq_div_mul]
  rw [Nat.mul_comm (256 ^ i) 256]
theorem leN_leB (n k : Nat) : leN (leB n k) = n % 256 ^ k := by
  induction k generalizing n with
  | zero => simp [leB, leN, Nat.mod_one]
  | succ k ih =>
    rw [leB_succ, leN, ih, Nat.pow_succ, Nat.mul_comm (256 ^ k) 256, Nat.mod_mul]
    simp
/-- An Int as a uint64. -/
def asU (n : Int) : Nat := (n % 18446744073709551616).toNat
theorem asU_lt (n : Int) : asU n < 18446744073709551616 := by unfold asU; omega
theorem asU_cast (n : Int) : n % 18446744073709551616 = (asU n : Int) := by unfold asU; omega
/-- An Int's bytes. -/
def intB (n : Int) : List UInt8 := leB (asU n) 8
theorem intB_length (n : Int) : (intB n).length = 8 := leB_length _ _
theorem wrap_leN_intB (n : Int) (h : -9223372036854775808 ≤ n ∧ n ≤ 9223372036854775807) : wrap64 (leN (intB n) : Nat) = n := by
  have h1 : leN (intB n) = asU n := by
    unfold intB
    rw [leN_leB]
    have := asU_lt n
    have h6 : (256 : Nat) ^ 8 = 18446744073709551616 := by decide
    rw [h6]; omega
  rw [h1]
  have := asU_cast n
  unfold wrap64
  omega

/-- The array's cells when k of them are written. -/
def arrB (n : Nat) (k : Nat) : List Value := byteVals (leB n k) ++ List.replicate (8 - k) (.int .u8 0)
set_option maxRecDepth 100000 in
set_option maxHeartbeats 1000000 in
theorem intBytes_any (w : World) (n : Int) (hn : -9223372036854775808 ≤ n ∧ n ≤ 9223372036854775807) :
    Calls Tryz.prog 239 #[.int .i64 n] w fun e w' => e = .returned (.string ⟨(intB n).toArray⟩) ∧ Chg (fun _ => False) w w' := by
  obtain ⟨n1, n2⟩ := hn
  have eu : IntKind.u64.wrap n = (asU n : Int) := by rw [IntKind.wrap_u64]; exact asU_cast n
  have hu := asU_lt n
  go_enter Tryz.func239, Tryz.ntmps239
  go_wp2
  go_loopw [5] (fun i wr => ∃ k : Nat, k ≤ 8 ∧ i = .int .i64 k ∧ Hid (Chg (fun _ => False) w wr) ∧ Hid (wr.heap[w.heap.size]? = some (.cells (arrB (asU n) k).toArray 318 (0, 0)))) (fun i _ => 8 - (intOf i).toNat)
  case atStart => exact ⟨0, Nat.zero_le _, rfl, (Chg.refl _ _).alloc _, by unfold Hid; show (w.heap.push _)[w.heap.size]? = _; rw [Array.getElem?_push_size]; rfl⟩
  case round =>
    obtain ⟨k, hk, rfl, hc, hh⟩ := hrel
    by_cases hlt : k < 8
    · have hfz : wr.frozen? ⟨w.heap.size, k, none⟩ = false := by have := hh.out; simp [World.frozen?, this]
      have hce : wr.cell? ⟨w.heap.size, k, none⟩ = some (.int .u8 0) := by
        have := hh.out
        have hl : (arrB (asU n) k)[k]? = some (.int .u8 0) := by
          have h1 : (byteVals (leB (asU n) k)).length = k := by simp [byteVals, leB]
          unfold arrB
          rw [List.getElem?_append_right (by omega), h1, List.getElem?_replicate]
          simp; omega
        simp [World.cell?, this, hl]
      have hh2 := hide (heap_setCell_at (o := k) (v := .int .u8 (asU n / 2 ^ (8 * k) % 256 : Nat)) hh.out)
      have hc2 : Hid (Chg (fun _ => False) w (wr.setCell ⟨w.heap.size, k, none⟩ (.int .u8 (asU n / 2 ^ (8 * k) % 256 : Nat)))) := Chg.setCell hc.out (by simp) _
      have hst : Hid ((arrB (asU n) k).toArray.setIfInBounds k (.int .u8 (asU n / 2 ^ (8 * k) % 256 : Nat)) = (arrB (asU n) (k + 1)).toArray) := by
        unfold Hid
        rcases (show k = 0 ∨ k = 1 ∨ k = 2 ∨ k = 3 ∨ k = 4 ∨ k = 5 ∨ k = 6 ∨ k = 7 by omega) with rfl | rfl | rfl | rfl | rfl | rfl | rfl | rfl <;> simp [arrB, byteVals, leB, List.range_succ, List.replicate]
      have e1 : (asU n : Int) / 2 ^ (8 * k) % 256 = ((asU n / 2 ^ (8 * k) % 256 : Nat) : Int) := by push_cast; rfl
      unfold Hid at hh2
      rw [hst.out] at hh2
      have hh3 := hide hh2
      clear hh2 hst
      obtain ⟨q, hq⟩ : ∃ q, asU n / 2 ^ (8 * k) % 256 = q := ⟨_, rfl⟩
      rw [hq] at hh3 hc2 e1
      have hq2 : q < 256 := by omega
      clear hq
      go_wp2
      exact ⟨⟨k + 1, by omega, by go_num, hc2, hh3⟩, by simp [intOf]; omega⟩
    · obtain rfl : k = 8 := by omega
      have cv : (convert 127 9 (.slice (some ⟨w.heap.size, 0, none⟩) 8 8)).run Tryz.prog wr = .ok (.string ⟨(intB n).toArray⟩) wr := by
        have hl : (intB n).length = 8 := intB_length n
        have := run_convert_bytes_back (P := Tryz.prog) wr 127 9 5 ⟨w.heap.size, 0, none⟩ 8 (intB n) Tryz.underlying127 Tryz.underlying5 Tryz.underlying9 (by
          intro j hj
          have hadd : (⟨w.heap.size, 0, none⟩ : Addr).add j = ⟨w.heap.size, j, none⟩ := by unfold Addr.add; split <;> simp_all
          rw [hadd]
          have h2 := hh.out
          have h3 : (arrB (asU n) 8) = byteVals (intB n) := by simp [arrB, intB]
          rw [h3] at h2
          simp [World.cell?, h2, byteVals, List.getElem?_eq_getElem hj])
        rw [hl] at this; exact this
      go_wp2
      go_ret
      exact ⟨rfl, hc.out⟩

/-- A sum's bytes. -/
def sumB (s : Nat) : List UInt8 := (intB s).take 4
theorem sumB_length (s : Nat) : (sumB s).length = 4 := by simp [sumB, intB_length]
set_option maxRecDepth 100000 in
set_option maxHeartbeats 1000000 in
theorem sumBytes_any (w : World) (s : Nat) (hs : s < 4294967296) :
    Calls Tryz.prog 250 #[.int .u32 s] w fun e w' => e = .returned (.string ⟨(sumB s).toArray⟩) ∧ Chg (fun _ => False) w w' := by
  have hn : -9223372036854775808 ≤ (s : Int) ∧ (s : Int) ≤ 9223372036854775807 := by omega
  have hl := intB_length s
  go_enter Tryz.func250, Tryz.ntmps250
  go_wp2_with (go_at_call 239; refine (intBytes_any _ _ hn).mono ?_; rintro e w' ⟨rfl, hc⟩)
  go_ret
  exact ⟨by rw [extract_mk]; simp [sumB], hc⟩
end Go.Proofs.YtodcnkbblippnaaGreatDoor
/- Walks: a Put as bytes: putBytes, putOf. -/
namespace Go.Proofs.YtodcnkbblippnaaGreatDoor
open Go.RowKit

/-- A Put's bytes. -/
def putB (s t v : Int) : List UInt8 := UInt8.ofNat (s % 256).toNat :: (intB t ++ intB v)
set_option maxRecDepth 100000 in
set_option maxHeartbeats 1000000 in
theorem putBytes_any (w : World) (s t v : Int) (hs : 0 ≤ s ∧ s < 256) (ht : -9223372036854775808 ≤ t ∧ t ≤ 9223372036854775807) (hv : -9223372036854775808 ≤ v ∧ v ≤ 9223372036854775807) :
    Calls Tryz.prog 195 #[.agg #[.int .i64 s, .int .i64 t, .int .i64 v]] w fun e w' => e = .returned (.string ⟨(putB s t v).toArray⟩) ∧ Chg (fun _ => False) w w' := by
  go_enter Tryz.func195, Tryz.ntmps195
  go_wp2
  refine wp_region_each 15 (fun y => { tmps := #[.agg #[.int .i64 s, .int .i64 t, .int .i64 v], .pointer (some ⟨w.heap.size, 0, none⟩), .string ⟨#[]⟩, y 0, y 1, y 2, y 3, y 4, y 5, y 6, y 7, y 8, y 9, y 10, y 11, y 12, y 13, y 14], defers := [] }) (fun _ => undef)
    (fun w' => w'.heap[w.heap.size]? = some (.cells #[.int .i64 s, .int .i64 t, .int .i64 v] 113 (0, 0)) ∧ Chg (fun _ => False) w w') (Chg (fun _ => False))
    (fun j x w' => match j with
      | 0 => x = .pointer (some ⟨w.heap.size, 0, none⟩)
      | 1 => x = .int .i64 s
      | 2 => x = .int .u8 s
      | 3 => ∃ g e, x = .slice (some ⟨g, 0, none⟩) 1 1 ∧ w'.heap[g]? = some (.cells #[.int .u8 s] e (0, 0))
      | 4 => x = .string ⟨#[UInt8.ofNat (s % 256).toNat]⟩
      | 5 => x = .pointer (some ⟨w.heap.size, 1, none⟩)
      | 6 => x = .pointer (some ⟨w.heap.size, 1, none⟩)
      | 7 => x = .int .i64 t
      | 8 => x = .string ⟨(intB t).toArray⟩
      | 9 => x = .string ⟨(UInt8.ofNat (s % 256).toNat :: intB t).toArray⟩
      | 10 => x = .pointer (some ⟨w.heap.size, 1, none⟩)
      | 11 => x = .pointer (some ⟨w.heap.size, 2, none⟩)
      | 12 => x = .int .i64 v
      | 13 => x = .string ⟨(intB v).toArray⟩
      | 14 => x = .string ⟨(putB s t v).toArray⟩
      | _ => True)
    (by kernel_rfl) (by kernel_rfl) rfl ?_ ?_ ?_ ?_
  · exact ⟨(by show (w.heap.push _)[w.heap.size]? = _; rw [Array.getElem?_push_size]), ((Chg.refl _ _).alloc _).drew⟩
  · intro j x w1 w2 hR hS' hG
    split at hG <;> first | exact hG | (obtain ⟨g, e, h1, h2⟩ := hG; exact ⟨g, e, h1, hR.keep h2 (by simp)⟩)
  · simp only [List.take_succ_cons, List.take_zero, EachOb, and_true]
    repeat' (with_reducible apply And.intro)
    all_goals refine ⟨?_, (by intro y wx _ _ h; exact Bool.noConfusion h), fun y x => rfl⟩
    all_goals
      intro y wx hS hd hw K hK
      clear hw
      obtain ⟨hS1, hS2⟩ := hS
      simp [depsOf, Region.binds, DepsG, List.filter_cons] at hd
      have hc0 : wx.cell? ⟨w.heap.size, 0, none⟩ = some (.int .i64 s) := by simp [World.cell?, hS1]
      have hc1 : wx.cell? ⟨w.heap.size, 1, none⟩ = some (.int .i64 t) := by simp [World.cell?, hS1]
      have hc2 : wx.cell? ⟨w.heap.size, 2, none⟩ = some (.int .i64 v) := by simp [World.cell?, hS1]
      have hw8 : IntKind.u8.wrap s = s := by simp [IntKind.wrap, IntKind.bits, IntKind.signed]; omega
      have hlt := intB_length t
      have hlv := intB_length v
      have HS1 := hide hS1
      have HS2 := hide hS2
      have HK := hide hK
      clear hS1 hS2 hK
      have ap1 : (ByteArray.mk #[UInt8.ofNat (s % 256).toNat]) ++ (ByteArray.mk (intB t).toArray) = ⟨(UInt8.ofNat (s % 256).toNat :: intB t).toArray⟩ := append_mk [_] _
      have ap2 : (ByteArray.mk (UInt8.ofNat (s % 256).toNat :: intB t).toArray) ++ (ByteArray.mk (intB v).toArray) = ⟨(putB s t v).toArray⟩ := append_mk _ _
      try
        have hd3 : ∃ g, y 3 = .slice (some ⟨g, 0, none⟩) 1 1 ∧ ∃ e, wx.heap[g]? = some (.cells #[.int .u8 s] e (0, 0)) := by with_reducible exact hd
        clear hd
        obtain ⟨g, hd, e, hg⟩ := hd3
        have hgc : wx.cell? ⟨g, 0, none⟩ = some (.int .u8 s) := by simp [World.cell?, hg]
        have cv : (convert 127 9 (.slice (some ⟨g, 0, none⟩) 1 1)).run Tryz.prog wx = .ok (.string ⟨#[UInt8.ofNat (s % 256).toNat]⟩) wx := run_convert_bytes_back (P := Tryz.prog) wx 127 9 5 ⟨g, 0, none⟩ 1 [UInt8.ofNat (s % 256).toNat] Tryz.underlying127 Tryz.underlying5 Tryz.underlying9 (by
          intro j hj
          have hj0 : j = 0 := by simpa using hj
          subst hj0
          have hadd : (⟨g, 0, none⟩ : Addr).add 0 = ⟨g, 0, none⟩ := by unfold Addr.add; split <;> simp_all
          have hs8 : ((UInt8.ofNat (s % 256).toNat).toNat : Int) = s := by simp; omega
          rw [hadd, hgc]
          simp only [List.getElem_cons_zero, hs8])
        clear hg
    all_goals dsimp only
    all_goals try go_simp
    all_goals try with_reducible exact HK.out _ _ _ rfl (by simp [Act.put, hd]) (Chg.refl _ _) ⟨HS1.out, HS2.out⟩
    all_goals try
      have hd7 : y 7 = .int .i64 t := by with_reducible exact hd
      clear hd7
      refine (intBytes_any wx t ht).mono ?_
      rintro e w2 ⟨rfl, hc⟩
      exact HK.out _ _ _ rfl (by simp [Act.put, hd]) hc ⟨hc.keep HS1.out (by simp), HS2.out.trans hc (by simp)⟩
    all_goals try
      have hd12 : y 12 = .int .i64 v := by with_reducible exact hd.1
      clear hd12
      refine (intBytes_any wx v hv).mono ?_
      rintro e w2 ⟨rfl, hc⟩
      exact HK.out _ _ _ rfl (by simp [Act.put, hd]) hc ⟨hc.keep HS1.out (by simp), HS2.out.trans hc (by simp)⟩
    · exact HK.out _ _ _ ⟨wx.heap.size, _, rfl, (by show (wx.heap.push _)[wx.heap.size]? = _; rw [Array.getElem?_push_size])⟩ (by simp [Act.put, hd]) ((Chg.refl _ _).alloc _) ⟨((Chg.refl (fun _ => False) wx).alloc _).keep HS1.out (by simp), HS2.out.alloc _⟩
  · intro y wx hS hG
    obtain ⟨hS1, hS2⟩ := hS
    have h14 : y 14 = .string ⟨(putB s t v).toArray⟩ := hG 14 (by omega)
    have HS2 := hide hS2
    clear hG hS1 hS2
    go_wp2
    go_ret
    exact ⟨rfl, HS2.out⟩
end Go.Proofs.YtodcnkbblippnaaGreatDoor
/- Walks: a Put out of its bytes: putOf. -/
namespace Go.Proofs.YtodcnkbblippnaaGreatDoor
open Go.RowKit

/-- A number out of its bytes. -/
def intN (l : List UInt8) : Int := wrap64 (leN (l.take 8) : Nat)
theorem intOf_list (w : World) (l : List UInt8) (hl : 8 ≤ l.length ∧ l.length ≤ 9223372036854775807) :
    Calls Tryz.prog 168 #[.string ⟨l.toArray⟩] w fun e w' => e = .returned (.int .i64 (intN l)) ∧ w = w' :=
  intOf_any w ⟨l.toArray⟩ hl
theorem intN_intB (n : Int) (h : -9223372036854775808 ≤ n ∧ n ≤ 9223372036854775807) (r : List UInt8) : intN (intB n ++ r) = n := by
  unfold intN
  rw [List.take_append_of_le_length (by rw [intB_length]; omega), List.take_of_length_le (by rw [intB_length]; omega)]
  exact wrap_leN_intB n h
/-- A Put's block. -/
def PuBlk (w : World) (p : Nat) (s t v : Int) : Prop := w.heap[p]? = some (.cells #[.int .i64 s, .int .i64 t, .int .i64 v] 113 (0, 0))
theorem PuBlk.c0 {w : World} {p : Nat} {s t v : Int} (h : PuBlk w p s t v) : w.cell? ⟨p, 0, none⟩ = some (.int .i64 s) := by unfold PuBlk at h; simp [World.cell?, h]
theorem PuBlk.c1 {w : World} {p : Nat} {s t v : Int} (h : PuBlk w p s t v) : w.cell? ⟨p, 1, none⟩ = some (.int .i64 t) := by unfold PuBlk at h; simp [World.cell?, h]
theorem PuBlk.c2 {w : World} {p : Nat} {s t v : Int} (h : PuBlk w p s t v) : w.cell? ⟨p, 2, none⟩ = some (.int .i64 v) := by unfold PuBlk at h; simp [World.cell?, h]
theorem PuBlk.fz {w : World} {p : Nat} {s t v : Int} (h : PuBlk w p s t v) (o : Nat) : w.frozen? ⟨p, o, none⟩ = false := by unfold PuBlk at h; simp [World.frozen?, h]
theorem PuBlk.lt {w : World} {p : Nat} {s t v : Int} (h : PuBlk w p s t v) : p < w.heap.size := lt_of_block h
theorem PuBlk.keep {S : Nat → Prop} {w w' : World} {p : Nat} {s t v : Int} (h : PuBlk w p s t v) (hc : Chg S w w') (hn : ¬ S p) : PuBlk w' p s t v := hc.keep h hn
theorem PuBlk.drew {w : World} {p : Nat} {s t v : Int} (h : PuBlk w p s t v) : PuBlk w.drew p s t v := by unfold PuBlk at h ⊢; exact h
theorem PuBlk.set {w : World} {p : Nat} {s t v : Int} (h : PuBlk w p s t v) (s' t' v' : Int) : PuBlk (((w.setCell ⟨p, 0, none⟩ (.int .i64 s')).setCell ⟨p, 1, none⟩ (.int .i64 t')).setCell ⟨p, 2, none⟩ (.int .i64 v')) p s' t' v' :=
  heap_setCell_at (o := 2) (v := .int .i64 v') (heap_setCell_at (o := 1) (v := .int .i64 t') (heap_setCell_at (o := 0) (v := .int .i64 s') h))
set_option maxRecDepth 100000 in
set_option maxHeartbeats 2000000 in
theorem putOf_any (w : World) (b : UInt8) (l : List UInt8) (hl : 16 ≤ l.length ∧ l.length < 9223372036854775807) :
    Calls Tryz.prog 176 #[.string ⟨(b :: l).toArray⟩] w fun e w' => e = .returned (.tuple #[.agg #[.int .i64 b.toNat, .int .i64 (intN l), .int .i64 (intN (l.drop 8))], .bool (decide (b.toNat < 8))]) ∧ Chg (fun _ => False) w w' := by
  obtain ⟨hl1, hl2⟩ := hl
  have hb := b.toNat_lt
  go_enter Tryz.func176, Tryz.ntmps176
  go_wp2
  refine wp_region_each 12 (fun y => { tmps := #[.string ⟨(b :: l).toArray⟩, undef, .pointer (some ⟨w.heap.size, 0, none⟩), .bool false, y 11, y 0, y 1, y 2, y 3, y 4, y 5, y 6, y 7, y 8, y 9, y 10, undef, undef, undef, undef], defers := [] }) (fun _ => undef)
    (fun w' => PuBlk w' w.heap.size 0 0 0 ∧ Chg (fun _ => False) w w') (Chg (fun _ => False))
    (fun j x w' => match j with
      | 0 => x = .string ⟨(b :: l).toArray⟩
      | 1 => x = .int .u8 b.toNat
      | 2 => x = .int .i64 b.toNat
      | 3 => x = .string ⟨(b :: l).toArray⟩
      | 4 => x = .string ⟨l.toArray⟩
      | 5 => x = .int .i64 (intN l)
      | 6 => x = .string ⟨(b :: l).toArray⟩
      | 7 => x = .string ⟨(l.drop 8).toArray⟩
      | 8 => x = .int .i64 (intN (l.drop 8))
      | 9 => x = .agg #[.int .i64 (intN l), .int .i64 (intN (l.drop 8))]
      | 10 => x = .agg #[.int .i64 b.toNat, .int .i64 (intN l), .int .i64 (intN (l.drop 8))]
      | 11 => ∃ p, x = .pointer (some ⟨p, 0, none⟩) ∧ w.heap.size < p ∧ PuBlk w' p 0 0 0
      | _ => True)
    (by kernel_rfl) (by kernel_rfl) rfl ?_ ?_ ?_ ?_
  · exact ⟨(by show (w.heap.push _)[w.heap.size]? = _; rw [Array.getElem?_push_size]), ((Chg.refl _ _).alloc _).drew⟩
  · intro j x w1 w2 hR hS' hG
    split at hG
    case h_12 =>
      obtain ⟨p, h1, h2, h3⟩ := hG
      exact ⟨p, h1, h2, h3.keep hR (fun h => h)⟩
    all_goals exact hG
  · simp only [List.take_succ_cons, List.take_zero, EachOb, and_true]
    repeat' (with_reducible apply And.intro)
    all_goals refine ⟨?_, (by intro y wx _ _ h; exact Bool.noConfusion h), fun y x => rfl⟩
    all_goals
      intro y wx hS hd hw K hK
      clear hw
      obtain ⟨hS1, hS2⟩ := hS
      simp [depsOf, Region.binds, DepsG, List.filter_cons] at hd
      have e0 : (ByteArray.mk (b :: l).toArray)[0]'(by show 0 < l.length + 1; omega) = b := rfl
      have e1 : (ByteArray.mk (b :: l).toArray).extract 1 (l.length + 1) = ⟨l.toArray⟩ := by
        rw [extract_mk]; simp
      have e9 : (ByteArray.mk (b :: l).toArray).extract 9 (l.length + 1) = ⟨(l.drop 8).toArray⟩ := by
        rw [extract_mk, List.drop_succ_cons, List.take_of_length_le (by simp)]
      have g1 : (1 : Int) ≤ (l.length : Int) + 1 := by omega
      have g9 : (9 : Int) ≤ (l.length : Int) + 1 := by omega
      have ew : IntKind.i64.wrap (b.toNat : Int) = b.toNat := by simp [IntKind.wrap, IntKind.bits, IntKind.signed]; omega
      have HS1 := hide hS1
      have HS2 := hide hS2
      have HK := hide hK
      clear hS1 hS2 hK
    all_goals dsimp only
    all_goals try go_simp
    all_goals try with_reducible exact HK.out _ _ _ rfl (by simp [Act.put, hd]) (Chg.refl _ _) ⟨HS1.out, HS2.out⟩
    all_goals try
      have hd4 : y 4 = .string ⟨l.toArray⟩ := by with_reducible exact hd
      clear hd4
      refine (intOf_list wx l (by omega)).mono ?_
      rintro e w2 ⟨rfl, rfl⟩
      exact HK.out _ _ _ rfl (by simp [Act.put, hd]) (Chg.refl _ _) ⟨HS1.out, HS2.out⟩
    all_goals try
      have hd7 : y 7 = .string ⟨(l.drop 8).toArray⟩ := by with_reducible exact hd.1
      clear hd7
      refine (intOf_list wx (l.drop 8) (by rw [List.length_drop]; omega)).mono ?_
      rintro e w2 ⟨rfl, rfl⟩
      exact HK.out _ _ _ rfl (by simp [Act.put, hd]) (Chg.refl _ _) ⟨HS1.out, HS2.out⟩
    · refine HK.out _ _ _ ⟨wx.heap.size, rfl, ?_, heap_alloc_new wx _⟩ (by simp [Act.put]) ((Chg.refl _ _).alloc _) ⟨HS1.out.keep ((Chg.refl (fun _ => False) _).alloc _) (fun h => h), HS2.out.alloc _⟩
      exact HS1.out.lt
  · intro y wx hS hG
    obtain ⟨hS1, hS2⟩ := hS
    have h10 : y 10 = .agg #[.int .i64 b.toNat, .int .i64 (intN l), .int .i64 (intN (l.drop 8))] := hG 10 (by omega)
    obtain ⟨p, h11, hlt, hp⟩ : ∃ p, y 11 = .pointer (some ⟨p, 0, none⟩) ∧ w.heap.size < p ∧ PuBlk wx p 0 0 0 := hG 11 (by omega)
    have c0 := hp.c0
    have c1 := hp.c1
    have c2 := hp.c2
    have f0 := hp.fz 0
    have f1 := hp.fz 1
    have f2 := hp.fz 2
    have h3 := hp.set b.toNat (intN l) (intN (l.drop 8))
    have cr : Chg (One p) wx (((wx.setCell ⟨p, 0, none⟩ (.int .i64 b.toNat)).setCell ⟨p, 1, none⟩ (.int .i64 (intN l))).setCell ⟨p, 2, none⟩ (.int .i64 (intN (l.drop 8)))) := (((Chg.refl (One p) wx).setAt rfl _ _).setAt rfl _ _).setAt rfl _ _
    have H3 := hide h3
    have R3 := hide (hS1.keep cr (fun h => by have h' : w.heap.size = p := h; omega))
    have K3 : Hid (Chg (fun _ => False) w (((wx.setCell ⟨p, 0, none⟩ (.int .i64 b.toNat)).setCell ⟨p, 1, none⟩ (.int .i64 (intN l))).setCell ⟨p, 2, none⟩ (.int .i64 (intN (l.drop 8))))) := hS2.trans cr (fun k hk hlt2 => by have h' : k = p := hk; omega)
    have NE : Hid (w.heap.size < p) := hlt
    clear hG hS1 hS2 h3 hp hlt cr
    go_wp2
    generalize (((wx.setCell ⟨p, 0, none⟩ (.int .i64 b.toNat)).setCell ⟨p, 1, none⟩ (.int .i64 (intN l))).setCell ⟨p, 2, none⟩ (.int .i64 (intN (l.drop 8)))) = w3 at H3 R3 K3 ⊢
    clear c0 c1 c2 f0 f1 f2 h10 h11
    obtain ⟨iv, hiv⟩ : ∃ iv, intN l = iv := ⟨_, rfl⟩
    obtain ⟨jv, hjv⟩ : ∃ jv, intN (l.drop 8) = jv := ⟨_, rfl⟩
    rw [hiv, hjv] at H3 ⊢
    have hbi : Hid (((b.toNat : Int) < 8) = (b.toNat < 8)) := by unfold Hid; simp; omega
    obtain ⟨n, hn⟩ : ∃ n : Nat, b.toNat = n := ⟨_, rfl⟩
    have HNV : Hid (b.toNat = n ∧ intN l = iv ∧ intN (l.drop 8) = jv) := ⟨hn, hiv, hjv⟩
    rw [hn] at H3 hbi ⊢
    clear hiv hjv hn hb
    have q0 := H3.out.c0
    have q1 := H3.out.c1
    have q2 := H3.out.c2
    have r0 := R3.out.c0
    have r1 := R3.out.c1
    have r2 := R3.out.c2
    have z0 := R3.out.fz 0
    have z1 := R3.out.fz 1
    have z2 := R3.out.fz 2
    go_wp2
    clear q0 q1 q2 r0 r1 r2 z0 z1 z2
    refine wp_region_each 5 (fun z => { tmps := #[.string ⟨(b :: l).toArray⟩, undef, .pointer (some ⟨w.heap.size, 0, none⟩), .bool false, .pointer (some ⟨p, 0, none⟩), y 0, y 1, y 2, y 3, y 4, y 5, y 6, y 7, y 8, y 9, .agg #[.int .i64 n, .int .i64 iv, .int .i64 jv], z 0, z 1, z 2, z 3], defers := [] }) (fun _ => undef)
      (fun w' => PuBlk w' p n iv jv ∧ (∃ a b c, PuBlk w' w.heap.size a b c) ∧ Chg (fun _ => False) w w') (fun w1 w2 => PuBlk w1 w.heap.size n iv jv → PuBlk w2 w.heap.size n iv jv)
      (fun j x w' => match j with
        | 0 => x = .agg #[.int .i64 n, .int .i64 iv, .int .i64 jv]
        | 1 => x = .pointer (some ⟨p, 0, none⟩)
        | 2 => x = .int .i64 n
        | 3 => x = .bool (decide ((n : Int) < 8))
        | 4 => PuBlk w' w.heap.size n iv jv
        | _ => True)
      (by kernel_rfl) (by kernel_rfl) rfl ?_ ?_ ?_ ?_
    · exact ⟨H3.out.drew, ⟨_, _, _, R3.out.drew⟩, K3.out.drew⟩
    · intro j x w1 w2 hR hS' hG
      split at hG
      case h_5 => exact hR hG
      all_goals exact hG
    · clear H3 R3 K3
      simp only [List.take_succ_cons, List.take_zero, EachOb, and_true]
      repeat' (with_reducible apply And.intro)
      all_goals refine ⟨?_, (by intro y wx _ _ h; exact Bool.noConfusion h), fun y x => rfl⟩
      all_goals
        intro z wz hS hd hw K hK
        clear hw
        obtain ⟨hS1, ⟨a1, a2, a3, hS2⟩, hS3⟩ := hS
        simp [depsOf, Region.binds, DepsG, List.filter_cons] at hd
        have q0 := hS1.c0
        have q1 := hS1.c1
        have q2 := hS1.c2
        have r0 := hS2.c0
        have r1 := hS2.c1
        have r2 := hS2.c2
        have z0 := hS2.fz 0
        have z1 := hS2.fz 1
        have z2 := hS2.fz 2
        have HS1 := hide hS1
        have HS2 := hide hS2
        have HS3 := hide hS3
        have HK := hide hK
        clear hS1 hS2 hS3 hK
      all_goals dsimp only
      all_goals try go_simp
      all_goals try with_reducible exact HK.out _ _ _ rfl (by simp [Act.put, hd]) (fun h => h) ⟨HS1.out, ⟨_, _, _, HS2.out⟩, HS3.out⟩
      have st := HS2.out.set n iv jv
      have cr : Chg (One w.heap.size) wz (((wz.setCell ⟨w.heap.size, 0, none⟩ (.int .i64 n)).setCell ⟨w.heap.size, 1, none⟩ (.int .i64 iv)).setCell ⟨w.heap.size, 2, none⟩ (.int .i64 jv)) := (((Chg.refl (One w.heap.size) wz).setAt rfl _ _).setAt rfl _ _).setAt rfl _ _
      refine HK.out undef _ _ st (by simp [Act.put, hd]) (fun _ => st) ⟨HS1.out.keep cr (fun h => by have h' : p = w.heap.size := h; have := NE.out; omega), ⟨_, _, _, st⟩, HS3.out.trans cr (fun k hk hlt => by have h' : k = w.heap.size := hk; omega)⟩
    · intro z wz hS hG
      have h3 : z 3 = .bool (decide ((n : Int) < 8)) := hG 3 (by omega)
      have h4 : PuBlk wz w.heap.size n iv jv := hG 4 (by omega)
      have r0 := h4.c0
      have r1 := h4.c1
      have r2 := h4.c2
      have HC := hide hS.2.2
      clear hS hG h4 H3 R3 K3 NE
      have hb8 : decide ((n : Int) < 8) = decide (n < 8) := by
        by_cases h : n < 8
        · rw [decide_eq_true h, decide_eq_true (by omega)]
        · rw [decide_eq_false h, decide_eq_false (by omega)]
      rw [hb8] at h3
      clear hb8 hbi
      go_wp2
      refine bodyPost_ret (v := .tuple #[.agg #[.int .i64 n, .int .i64 iv, .int .i64 jv], .bool (decide (n < 8))]) (by simp [results, Tryz.results176, go_sem, r0, r1, r2]) rfl ?_
      exact ⟨by rw [HNV.out.1, HNV.out.2.1, HNV.out.2.2], HC.out⟩
end Go.Proofs.YtodcnkbblippnaaGreatDoor
