/-
  The statement WritesUptoCardSaid is proved: the law Writes answers true at every set and every script within the statement's bounds.
  Part 10 of 23.
-/
import Derived.Test.YtfaeidbgdcincaaGreatDoorPart09
import Derived.Test.YtfaeidbgdcincaaGreatDoorPart02
import Derived.Test.YtfaeidbgdcincaaGreatDoorPart06
import Derived.Test.YtfaeidbgdcincaaGreatDoorShelf
import Derived.Lib.ItoaLen
/- Disks made behind a start: 'DAt N w b D F': in world w there lies at block b, above N, the disk D with files F. Each call's contract with what it makes, given by equations. No walk. -/
namespace Go.Proofs.YtfaeidbgdcincaaGreatDoor
open Go.RowKit

def DAt (N : Nat) (w : World) (b : Nat) (D : DS) (F : Nat → FC) : Prop := ∃ Ft, RepU w b D F Ft ∧ ∀ k, Ft k → N ≤ k ∧ k < w.heap.size
/-- Blocks from N on. -/
def Up (N : Nat) : Nat → Prop := fun k => N ≤ k
theorem DAt.of_after {N : Nat} {w w' : World} {b : Nat} {D : DS} {F F' : Nat → FC} {Ft : Nat → Prop} (h : AfterU w Ft w' b D F) (hft : ∀ k, Ft k → N ≤ k ∧ k < w.heap.size) (hN : N ≤ w.heap.size) (hF : ∀ f, D.ids f → F' f = F f) : DAt N w' b D F' ∧ Chg (Up N) w w' := by
  obtain ⟨h1, Ft', h2, h3, h4⟩ := h
  refine ⟨⟨Ft', h2.F_congr hF, fun k hk => ⟨?_, h3 k hk⟩⟩, h1.mono fun k _ hk => (hft k hk).1⟩
  rcases h4 k hk with h | h
  · exact (hft k h).1
  · omega
theorem DAt.lt {N : Nat} {w : World} {b : Nat} {D : DS} {F : Nat → FC} (h : DAt N w b D F) : N ≤ b ∧ b < w.heap.size := by
  obtain ⟨Ft, h1, h2⟩ := h
  exact h2 b h1.foot
theorem DAt.same {N : Nat} {w w' : World} {b : Nat} {D : DS} {F : Nat → FC} (h : DAt N w b D F) (hc : Chg (fun _ => False) w w') : DAt N w' b D F := by
  obtain ⟨Ft, h1, h2⟩ := h
  exact ⟨Ft, h1.frame fun k hk => hc.block k (h2 k hk).2 (fun h => h), fun k hk => ⟨(h2 k hk).1, Nat.lt_of_lt_of_le (h2 k hk).2 hc.size⟩⟩
theorem Chg.up {N : Nat} {w w' : World} (hc : Chg (fun _ => False) w w') : Chg (Up N) w w' := hc.mono fun _ _ h => h.elim
theorem Chg.ups {N : Nat} {w w1 w2 : World} (hc : Chg (Up N) w w1) (hc2 : Chg (Up N) w1 w2) : Chg (Up N) w w2 := hc.trans hc2 fun _ h _ => h

section
variable {N : Nat} {w : World} {b : Nat} {D : DS} {F : Nat → FC}
theorem newA (room : Int) (w : World) (hN : N ≤ w.heap.size) : Calls Tryz.prog 19 #[.int .i64 room] w fun e w' => ∃ b, e = .returned (.pointer (some ⟨b, 0, none⟩)) ∧ DAt N w' b ⟨[], [], [], dNew room⟩ F ∧ Chg (Up N) w w' ∧ w.heap.size ≤ b := by
  refine (newU (F := F) room w).mono ?_
  rintro e w' ⟨q1, q2, q3, q4⟩
  exact ⟨_, q1, ⟨_, q2, fun k hk => by cases hk; omega⟩, q3.up, Nat.le_refl _⟩
theorem createA (h : DAt N w b D F) (name : ByteArray) (k : Nat) {e : Int} {D' : DS} {F' : Nat → FC} (he : dCreate D name k = (e, D')) (hF : ∀ f, D'.ids f → F' f = upd F k ([], 0) f) (hk : ¬ D.ids k) (hs : D.dir.length < 1099511627776 ∧ D.changes.length < 1099511627776) :
    Calls Tryz.prog 73 #[.pointer (some ⟨b, 0, none⟩), .string name] w fun r w' => r = .returned (.int .i64 e) ∧ DAt N w' b D' F' ∧ Chg (Up N) w w' := by
  have hN := Nat.le_of_lt (Nat.lt_of_le_of_lt h.lt.1 h.lt.2)
  obtain ⟨Ft, h1, h2⟩ := h
  refine (createU h1 name k hk hs).mono ?_
  rintro r w' ⟨q1, q2⟩
  rw [he] at q1 q2
  exact ⟨q1, DAt.of_after q2 h2 hN hF⟩
theorem appendA (h : DAt N w b D F) (name data : ByteArray) {e : Int} {D' : DS} {G F' : Nat → FC} (he : dAppend D F name data = (e, D', G)) (hF : ∀ f, D'.ids f → F' f = G f) (hroom : -4611686018427387904 ≤ D.n.room ∧ D.n.room ≤ 9223372036854775807)
    (hu : usedL F D.dir ≤ 4611686018427387904) (hp : 0 ≤ D.n.part ∧ D.n.part ≤ 9223372036854775807) (hl : ∀ f, lookup D.dir name = some f → (F f).1.length + data.size ≤ 70368744177664) :
    Calls Tryz.prog 74 #[.pointer (some ⟨b, 0, none⟩), .string name, .string data] w fun r w' => r = .returned (.int .i64 e) ∧ DAt N w' b D' F' ∧ Chg (Up N) w w' := by
  have hN := Nat.le_of_lt (Nat.lt_of_le_of_lt h.lt.1 h.lt.2)
  obtain ⟨Ft, h1, h2⟩ := h
  refine (appendU h1 name data hroom hu hp hl).mono ?_
  rintro r w' ⟨q1, q2⟩
  rw [he] at q1 q2
  exact ⟨q1, DAt.of_after q2 h2 hN hF⟩
theorem syncA (h : DAt N w b D F) (name : ByteArray) {e : Int} {D' : DS} {G F' : Nat → FC} (he : dSync D F name = (e, D', G)) (hF : ∀ f, D'.ids f → F' f = G f) :
    Calls Tryz.prog 75 #[.pointer (some ⟨b, 0, none⟩), .string name] w fun r w' => r = .returned (.int .i64 e) ∧ DAt N w' b D' F' ∧ Chg (Up N) w w' := by
  have hN := Nat.le_of_lt (Nat.lt_of_le_of_lt h.lt.1 h.lt.2)
  obtain ⟨Ft, h1, h2⟩ := h
  refine (syncU h1 name).mono ?_
  rintro r w' ⟨q1, q2⟩
  rw [he] at q1 q2
  exact ⟨q1, DAt.of_after q2 h2 hN hF⟩
theorem syncDirA (h : DAt N w b D F) {e : Int} {D' : DS} (he : dSyncDir D = (e, D')) :
    Calls Tryz.prog 76 #[.pointer (some ⟨b, 0, none⟩)] w fun r w' => r = .returned (.int .i64 e) ∧ DAt N w' b D' F ∧ Chg (Up N) w w' := by
  have hN := Nat.le_of_lt (Nat.lt_of_le_of_lt h.lt.1 h.lt.2)
  obtain ⟨Ft, h1, h2⟩ := h
  refine (syncDirU h1).mono ?_
  rintro r w' ⟨q1, q2⟩
  rw [he] at q1 q2
  exact ⟨q1, DAt.of_after q2 h2 hN fun _ _ => rfl⟩
theorem cutA (h : DAt N w b D F) (c : Int) {D' : DS} (he : ({ D with n := { D.n with cut := if c > 0 then wrap64 (D.n.calls + c) else 0 } } : DS) = D') : Calls Tryz.prog 65 #[.pointer (some ⟨b, 0, none⟩), .int .i64 c] w fun r w' => r = .returned (.tuple #[]) ∧ DAt N w' b D' F ∧ Chg (Up N) w w' := by
  subst he
  have hN := Nat.le_of_lt (Nat.lt_of_le_of_lt h.lt.1 h.lt.2)
  obtain ⟨Ft, h1, h2⟩ := h
  refine (cutU h1 c).mono ?_
  rintro r w' ⟨q1, q2⟩
  exact ⟨q1, DAt.of_after q2 h2 hN fun _ _ => rfl⟩
theorem failA (h : DAt N w b D F) (c p : Int) {D' : DS} (he : ({ D with n := dFail D.n c p } : DS) = D') : Calls Tryz.prog 66 #[.pointer (some ⟨b, 0, none⟩), .int .i64 c, .int .i64 p] w fun r w' => r = .returned (.tuple #[]) ∧ DAt N w' b D' F ∧ Chg (Up N) w w' := by
  subst he
  have hN := Nat.le_of_lt (Nat.lt_of_le_of_lt h.lt.1 h.lt.2)
  obtain ⟨Ft, h1, h2⟩ := h
  refine (failU h1 c p).mono ?_
  rintro r w' ⟨q1, q2⟩
  exact ⟨q1, DAt.of_after q2 h2 hN fun _ _ => rfl⟩
/-- A copy: both disks. -/
theorem copyA (h : DAt N w b D F) (hs : D.dir.length + D.safe.length + sumLen D.changes < 1099511627776) (hs2 : D.changes.length < 1099511627776) (hF : ∀ f, D.ids f → (F f).1.length ≤ 1099511627776) :
    Calls Tryz.prog 42 #[.pointer (some ⟨b, 0, none⟩)] w fun r w' => ∃ b2, r = .returned (.pointer (some ⟨b2, 0, none⟩)) ∧ DAt w.heap.size w' b2 D F ∧ DAt N w' b D F ∧ Chg (fun _ => False) w w' := by
  have hh := h
  obtain ⟨Ft, h1, h2⟩ := h
  refine (copyU h1 hs hs2 hF).mono ?_
  rintro r w' ⟨b2, Ft2, q1, q2, q3, q4⟩
  exact ⟨b2, q1, ⟨Ft2, q2, q3⟩, hh.same q4, q4⟩
/-- A crash; what is left of the files is told by a list, that lies below N or was made behind the disk. -/
theorem crashA {w0 : World} (h : DAt N w0 b D F) (hc : Chg (fun _ => False) w0 w) (dirs : Int) (vt : Value) (ts : List Int) {D' : DS} {G F' : Nat → FC} (he : dCrash D F dirs ts = (D', G)) (hF' : ∀ f, D'.ids f → F' f = G f) (ht : IntSl w vt ts) (hta : ∀ ad n c x, vt = .slice ad n c → ad = some x → x.block < N ∨ w0.heap.size ≤ x.block)
    (hs : D.dir.length < 1099511627776 ∧ D.safe.length < 1099511627776 ∧ D.changes.length < 1099511627776 ∧ ∀ c ∈ D.changes, c.length < 1099511627776) (hdi : -9223372036854775808 ≤ dirs ∧ dirs ≤ 9223372036854775807)
    (hts : ∀ t ∈ ts, -9223372036854775808 ≤ t ∧ t ≤ 9223372036854775807) (hF : ∀ f, D.ids f → 0 ≤ (F f).2 ∧ (F f).2 ≤ (F f).1.length ∧ (F f).1.length ≤ 1099511627776) :
    Calls Tryz.prog 77 #[.pointer (some ⟨b, 0, none⟩), .int .i64 dirs, vt] w fun r w' => r = .returned (.tuple #[]) ∧ DAt N w' b D' F' ∧ Chg (Up N) w w' := by
  have hN := Nat.le_of_lt (Nat.lt_of_le_of_lt h.lt.1 h.lt.2)
  obtain ⟨Ft, h1, h2⟩ := h
  have h3 : RepU w b D F Ft := h1.frame fun k hk => hc.block k (h2 k hk).2 (fun h => h)
  refine (crashU h3 dirs vt ts ht (fun ad n c x e1 e2 hx => ?_) hs hdi hts hF).mono ?_
  · have := h2 _ hx
    rcases hta ad n c x e1 e2 with h | h <;> omega
  · rintro r w' ⟨q1, q2⟩
    rw [he] at q2
    have := hc.size
    obtain ⟨q3, q4⟩ := DAt.of_after q2 (fun k hk => ⟨(h2 k hk).1, by have := (h2 k hk).2; omega⟩) (by omega) hF'
    exact ⟨q1, q3, q4⟩
theorem IntSl.nil0 (w : World) : IntSl w (.slice none 0 0) [] := ⟨_, _, rfl, by simp, fun j hj => by simp at hj⟩
theorem IntSl.one (w : World) (t : Int) : IntSl (w.alloc (.cells #[.int .i64 t] 3)) (.slice (some ⟨w.heap.size, 0, none⟩) 1 1) [t] := by
  refine ⟨_, _, rfl, by simp, fun j hj => ⟨w.heap.size, 0, rfl, by simp, ?_⟩⟩
  obtain rfl : j = 0 := by simpa using hj
  have := heap_alloc_new w (.cells #[.int .i64 t] 3)
  unfold World.cell?
  simp only [Nat.zero_add]
  rw [this]; rfl
end
/-- Two disks that share nothing. -/
def DPair (N : Nat) (w : World) (b : Nat) (D : DS) (F : Nat → FC) (b2 : Nat) (D2 : DS) (F2 : Nat → FC) : Prop :=
  ∃ Ft Ft2, RepU w b D F Ft ∧ RepU w b2 D2 F2 Ft2 ∧ (∀ k, Ft k → N ≤ k ∧ k < w.heap.size) ∧ (∀ k, Ft2 k → N ≤ k ∧ k < w.heap.size) ∧ ∀ k, Ft k → Ft2 k → False
section
variable {N : Nat} {w w' : World} {b b2 : Nat} {D D2 : DS} {F F2 : Nat → FC}
theorem DPair.symm (h : DPair N w b D F b2 D2 F2) : DPair N w b2 D2 F2 b D F := by
  obtain ⟨Ft, Ft2, h1, h2, h3, h4, h5⟩ := h
  exact ⟨Ft2, Ft, h2, h1, h4, h3, fun k a c => h5 k c a⟩
theorem DPair.one (h : DPair N w b D F b2 D2 F2) : DAt N w b D F := by
  obtain ⟨Ft, Ft2, h1, h2, h3, h4, h5⟩ := h
  exact ⟨Ft, h1, h3⟩
theorem DPair.of_copy {w0 : World} (h : DAt N w0 b D F) (hc : Chg (fun _ => False) w0 w) (h2 : DAt w0.heap.size w b2 D2 F2) : DPair N w b D F b2 D2 F2 := by
  have hN := Nat.le_of_lt (Nat.lt_of_le_of_lt h.lt.1 h.lt.2)
  obtain ⟨Ft, h1, h3⟩ := h
  obtain ⟨Ft2, h4, h5⟩ := h2
  refine ⟨Ft, Ft2, h1.frame fun k hk => hc.block k (h3 k hk).2 (fun h => h), h4, fun k hk => ⟨(h3 k hk).1, Nat.lt_of_lt_of_le (h3 k hk).2 hc.size⟩, fun k hk => ⟨Nat.le_trans hN (h5 k hk).1, (h5 k hk).2⟩, fun k a c => ?_⟩
  have := (h3 k a).2
  have := (h5 k c).1
  omega
theorem DPair.same (h : DPair N w b D F b2 D2 F2) (hc : Chg (fun _ => False) w w') : DPair N w' b D F b2 D2 F2 := by
  obtain ⟨Ft, Ft2, h1, h2, h3, h4, h5⟩ := h
  exact ⟨Ft, Ft2, h1.frame fun k hk => hc.block k (h3 k hk).2 (fun h => h), h2.frame fun k hk => hc.block k (h4 k hk).2 (fun h => h), fun k hk => ⟨(h3 k hk).1, Nat.lt_of_lt_of_le (h3 k hk).2 hc.size⟩, fun k hk => ⟨(h4 k hk).1, Nat.lt_of_lt_of_le (h4 k hk).2 hc.size⟩, h5⟩
/-- A call on the first leaves the second. -/
theorem DPair.after {D' : DS} {G F' : Nat → FC} {Ft Ft2 : Nat → Prop} (h2 : RepU w b2 D2 F2 Ft2) (h3 : ∀ k, Ft k → N ≤ k ∧ k < w.heap.size) (h4 : ∀ k, Ft2 k → N ≤ k ∧ k < w.heap.size) (h5 : ∀ k, Ft k → Ft2 k → False) (hN : N ≤ w.heap.size)
    (ha : AfterU w Ft w' b D' G) (hF : ∀ f, D'.ids f → F' f = G f) : DPair N w' b D' F' b2 D2 F2 ∧ Chg (Up N) w w' := by
  obtain ⟨q1, Ft', q2, q3, q4⟩ := ha
  refine ⟨⟨Ft', Ft2, q2.F_congr hF, h2.frame fun k hk => q1.block k (h4 k hk).2 (fun a => h5 k a hk), fun k hk => ⟨?_, q3 k hk⟩, fun k hk => ⟨(h4 k hk).1, Nat.lt_of_lt_of_le (h4 k hk).2 q1.size⟩, fun k a c => ?_⟩, q1.mono fun k _ hk => (h3 k hk).1⟩
  · rcases q4 k hk with h | h
    · exact (h3 k h).1
    · omega
  · rcases q4 k a with h | h
    · exact h5 k h c
    · have := (h4 k c).2; omega
theorem appendP (h : DPair N w b D F b2 D2 F2) (name data : ByteArray) {e : Int} {D' : DS} {G F' : Nat → FC} (he : dAppend D F name data = (e, D', G)) (hF : ∀ f, D'.ids f → F' f = G f) (hroom : -4611686018427387904 ≤ D.n.room ∧ D.n.room ≤ 9223372036854775807)
    (hu : usedL F D.dir ≤ 4611686018427387904) (hp : 0 ≤ D.n.part ∧ D.n.part ≤ 9223372036854775807) (hl : ∀ f, lookup D.dir name = some f → (F f).1.length + data.size ≤ 70368744177664) :
    Calls Tryz.prog 74 #[.pointer (some ⟨b, 0, none⟩), .string name, .string data] w fun r w' => r = .returned (.int .i64 e) ∧ DPair N w' b D' F' b2 D2 F2 ∧ Chg (Up N) w w' := by
  have hN := Nat.le_of_lt (Nat.lt_of_le_of_lt h.one.lt.1 h.one.lt.2)
  obtain ⟨Ft, Ft2, h1, h2, h3, h4, h5⟩ := h
  refine (appendU h1 name data hroom hu hp hl).mono ?_
  rintro r w' ⟨q1, q2⟩
  rw [he] at q1 q2
  exact ⟨q1, DPair.after h2 h3 h4 h5 hN q2 hF⟩
theorem crashP {w0 : World} (h : DPair N w0 b D F b2 D2 F2) (hc : Chg (fun _ => False) w0 w) (dirs : Int) (vt : Value) (ts : List Int) {D' : DS} {G F' : Nat → FC} (he : dCrash D F dirs ts = (D', G)) (hF' : ∀ f, D'.ids f → F' f = G f) (ht : IntSl w vt ts) (hta : ∀ ad n c x, vt = .slice ad n c → ad = some x → x.block < N ∨ w0.heap.size ≤ x.block)
    (hs : D.dir.length < 1099511627776 ∧ D.safe.length < 1099511627776 ∧ D.changes.length < 1099511627776 ∧ ∀ c ∈ D.changes, c.length < 1099511627776) (hdi : -9223372036854775808 ≤ dirs ∧ dirs ≤ 9223372036854775807)
    (hts : ∀ t ∈ ts, -9223372036854775808 ≤ t ∧ t ≤ 9223372036854775807) (hF : ∀ f, D.ids f → 0 ≤ (F f).2 ∧ (F f).2 ≤ (F f).1.length ∧ (F f).1.length ≤ 1099511627776) :
    Calls Tryz.prog 77 #[.pointer (some ⟨b, 0, none⟩), .int .i64 dirs, vt] w fun r w' => r = .returned (.tuple #[]) ∧ DPair N w' b D' F' b2 D2 F2 ∧ Chg (Up N) w w' := by
  have hN := Nat.le_of_lt (Nat.lt_of_le_of_lt h.one.lt.1 h.one.lt.2)
  have hp := h.same hc
  obtain ⟨Ft, Ft2, h1, h2, h3, h4, h5⟩ := h
  have hsz := hc.size
  refine (crashU (h1.frame fun k hk => hc.block k (h3 k hk).2 (fun h => h)) dirs vt ts ht (fun ad n c x e1 e2 hx => ?_) hs hdi hts hF).mono ?_
  · have := h3 _ hx
    rcases hta ad n c x e1 e2 with h | h <;> omega
  · rintro r w' ⟨q1, q2⟩
    rw [he] at q2
    exact ⟨q1, DPair.after (h2.frame fun k hk => hc.block k (h4 k hk).2 (fun h => h)) (fun k hk => ⟨(h3 k hk).1, Nat.lt_of_lt_of_le (h3 k hk).2 hsz⟩) (fun k hk => ⟨(h4 k hk).1, Nat.lt_of_lt_of_le (h4 k hk).2 hsz⟩) h5 (by omega) q2 hF'⟩
end
end Go.Proofs.YtfaeidbgdcincaaGreatDoor
/- Walks: a file on the disk: create, Sync, all, add. -/
namespace Go.Proofs.YtfaeidbgdcincaaGreatDoor
open Go.RowKit

theorem RepU.drew {w : World} {b : Nat} {D : DS} {F : Nat → FC} {Ft : Nat → Prop} (h : RepU w b D F Ft) : RepU w.drew b D F Ft := h.frame fun _ _ => rfl
theorem AfterU.ofDrew {w w' : World} {b : Nat} {D : DS} {F : Nat → FC} {Ft : Nat → Prop} (h : AfterU w.drew Ft w' b D F) : AfterU w Ft w' b D F := by
  obtain ⟨h1, h2⟩ := h
  exact ⟨⟨h1.os, h1.tape, h1.output, h1.size, h1.block⟩, h2⟩
section
variable {w : World} {b fb : Nat} {D : DS} {F : Nat → FC} {Ft : Nat → Prop} {T : TypeId} {name : ByteArray} {s : Nat}
set_option maxRecDepth 100000 in
set_option maxHeartbeats 1000000 in
theorem createF (hf : FlBlk w fb T (.pointer (some ⟨b, 0, none⟩)) name s) (h : RepU w b D F Ft) (k : Nat) (hk : ¬ D.ids k) (hs : D.dir.length < 1099511627776 ∧ D.changes.length < 1099511627776) :
    Calls Tryz.prog 162 #[.pointer (some ⟨fb, 0, none⟩)] w fun e w' => e = .returned (.int .i64 (dCreate D name k).1) ∧ AfterU w Ft w' b (dCreate D name k).2 (upd F k ([], 0)) := by
  have c0 := hf.c0
  have c1 := hf.c1
  have CR := hide (createU h.drew name k hk hs)
  obtain ⟨q, hq⟩ : ∃ q, (dCreate D name k).1 = q := ⟨_, rfl⟩
  rw [hq] at CR ⊢
  clear hf h hq
  go_enter Tryz.func162, Tryz.ntmps162
  go_wp2
  refine wp_region_sch (fun w' => w'.cell? ⟨fb, 0, none⟩ = some (.pointer (some ⟨b, 0, none⟩)) ∧ w'.cell? ⟨fb, 1, none⟩ = some (.string name)) 8
    [(0, true), (1, true), (2, true), (3, true), (4, true), (5, true), (6, true), (7, true)] (by kernel_rfl) (by kernel_rfl) (fun _ _ _ _ _ h => h) ⟨c0, c1⟩ ?_
  iterate 8 (refine wpSch_take (v := ?_) rfl (by rfl) ?_ ?_; rotate_left; (· (intro w' hS; (try dsimp only at hS); go_simp; try with_reducible rfl)); (try simp only [Act.put, List.setIfInBounds_toArray, List.set_cons_zero, List.set_cons_succ, List.getElem_toArray, List.getElem_cons_zero, List.getElem_cons_succ]))
  refine wpSch_end ?_
  simp only [List.drop_succ_cons, List.drop_zero]
  go_wp2_with (go_at_call 73; refine CR.out.mono ?_; rintro e w' ⟨rfl, hA⟩; have HA := hide hA; clear hA)
  go_ret
  exact ⟨rfl, HA.out.ofDrew⟩
set_option maxRecDepth 100000 in
set_option maxHeartbeats 1000000 in
theorem syncF (hf : FlBlk w fb T (.pointer (some ⟨b, 0, none⟩)) name s) (h : RepU w b D F Ft) :
    Calls Tryz.prog 96 #[.pointer (some ⟨fb, 0, none⟩)] w fun e w' => e = .returned (.int .i64 (dSync D F name).1) ∧ AfterU w Ft w' b (dSync D F name).2.1 (dSync D F name).2.2 := by
  have c0 := hf.c0
  have c1 := hf.c1
  have CR := hide (syncU h.drew name)
  obtain ⟨q, hq⟩ : ∃ q, (dSync D F name).1 = q := ⟨_, rfl⟩
  rw [hq] at CR ⊢
  clear hf h hq
  go_enter Tryz.func96, Tryz.ntmps96
  go_wp2
  refine wp_region_sch (fun w' => w'.cell? ⟨fb, 0, none⟩ = some (.pointer (some ⟨b, 0, none⟩)) ∧ w'.cell? ⟨fb, 1, none⟩ = some (.string name)) 8
    [(0, true), (1, true), (2, true), (3, true), (4, true), (5, true), (6, true), (7, true)] (by kernel_rfl) (by kernel_rfl) (fun _ _ _ _ _ h => h) ⟨c0, c1⟩ ?_
  iterate 8 (refine wpSch_take (v := ?_) rfl (by rfl) ?_ ?_; rotate_left; (· (intro w' hS; (try dsimp only at hS); go_simp; try with_reducible rfl)); (try simp only [Act.put, List.setIfInBounds_toArray, List.set_cons_zero, List.set_cons_succ, List.getElem_toArray, List.getElem_cons_zero, List.getElem_cons_succ]))
  refine wpSch_end ?_
  simp only [List.drop_succ_cons, List.drop_zero]
  go_wp2_with (go_at_call 75; refine CR.out.mono ?_; rintro e w' ⟨rfl, hA⟩; have HA := hide hA; clear hA)
  go_ret
  exact ⟨rfl, HA.out.ofDrew⟩
end
end Go.Proofs.YtfaeidbgdcincaaGreatDoor
/- Walks: a whole file is read: all. -/
namespace Go.Proofs.YtfaeidbgdcincaaGreatDoor
open Go.RowKit

/-- What a file has. -/
def allN (D : DS) (F : Nat → FC) (name : ByteArray) : List UInt8 × Int := match lookup D.dir name with
  | some f => ((F f).1, 0)
  | none => ([], 8)
theorem RepU.same {w w' : World} {b : Nat} {D : DS} {F : Nat → FC} {Ft : Nat → Prop} (h : RepU w b D F Ft) (hlt : ∀ k, Ft k → k < w.heap.size) (hc : Chg (fun _ => False) w w') : RepU w' b D F Ft := h.frame fun k hk => hc.block k (hlt k hk) (fun h => h)
section
variable {w : World} {b fb : Nat} {D : DS} {F : Nat → FC} {Ft : Nat → Prop} {T : TypeId} {name : ByteArray} {s : Nat}
set_option maxRecDepth 100000 in
set_option maxHeartbeats 1000000 in
theorem allF (hf : FlBlk w fb T (.pointer (some ⟨b, 0, none⟩)) name s) (h : RepU w b D F Ft) :
    Calls Tryz.prog 107 #[.pointer (some ⟨fb, 0, none⟩)] w fun e w' => e = .returned (.tuple #[.string ⟨(allN D F name).1.toArray⟩, .int .i64 (allN D F name).2]) ∧ Chg (fun _ => False) w w' := by
  obtain ⟨zn, hzn⟩ : ∃ zn, (dSize D F name).1 = zn := ⟨_, rfl⟩
  obtain ⟨ze, hze⟩ : ∃ ze, (dSize D F name).2 = ze := ⟨_, rfl⟩
  have SZ : ∀ w', RepU w' b D F Ft → Calls Tryz.prog 71 #[.pointer (some ⟨b, 0, none⟩), .string name] w' fun e w'' => e = .returned (.tuple #[.int .i64 zn, .int .i64 ze]) ∧ w' = w'' := fun w' h => by
    rw [← hzn, ← hze]; exact sizeU h name
  have RD : ∀ w', RepU w' b D F Ft → Calls Tryz.prog 72 #[.pointer (some ⟨b, 0, none⟩), .string name, .int .i64 0, .int .i64 zn] w' fun e w'' => e = .returned (.tuple #[.string ⟨(dRead D F name 0 zn).1.toArray⟩, .int .i64 (dRead D F name 0 zn).2]) ∧ w' = w'' := fun w' h => readU h name 0 zn
  have SZ' := hide SZ
  have RD' := hide RD
  have HA : (ze = 0 ∧ Hid ((dRead D F name 0 zn).1 = (allN D F name).1 ∧ (dRead D F name 0 zn).2 = (allN D F name).2)) ∨ (ze = 8 ∧ Hid ((allN D F name).1 = [] ∧ (allN D F name).2 = 8)) := by
    unfold dSize at hzn hze
    unfold dRead allN Hid
    cases hx : lookup D.dir name with
    | none => rw [hx] at hze; exact .inr ⟨hze.symm, rfl, rfl⟩
    | some f =>
      rw [hx] at hze hzn
      subst hzn
      refine .inl ⟨hze.symm, ?_⟩
      dsimp only
      rw [if_neg (by omega)]
      simp
  obtain ⟨rs, hrs⟩ : ∃ rs, (allN D F name).1 = rs := ⟨_, rfl⟩
  obtain ⟨re, hre⟩ : ∃ re, (allN D F name).2 = re := ⟨_, rfl⟩
  rw [hrs, hre] at HA ⊢
  clear hrs hre
  clear SZ RD hzn hze
  go_enter Tryz.func107, Tryz.ntmps107
  go_wp2
  refine wp_region_each 13 (fun y => { tmps := #[.pointer (some ⟨fb, 0, none⟩), undef, .string ⟨#[]⟩, .int .i64 0, y 12, undef, y 9, y 0, y 1, y 2, y 3, y 4, y 5, y 6, y 7, y 8, y 10, y 11, undef, undef, undef, undef, undef, undef, undef, undef, undef, undef, undef, undef, undef, undef, undef], defers := [] }) (fun _ => undef)
    (fun w' => FlBlk w' fb T (.pointer (some ⟨b, 0, none⟩)) name s ∧ RepU w' b D F Ft ∧ Chg (fun _ => False) w w') (Chg (fun _ => False))
    (fun j x w' => match j with
      | 0 => x = .pointer (some ⟨fb, 0, none⟩)
      | 1 => x = .pointer (some ⟨fb, 0, none⟩)
      | 2 => x = .pointer (some ⟨fb, 0, none⟩)
      | 3 => x = .pointer (some ⟨b, 0, none⟩)
      | 4 => x = .pointer (some ⟨fb, 0, none⟩)
      | 5 => x = .pointer (some ⟨fb, 0, none⟩)
      | 6 => x = .pointer (some ⟨fb, 1, none⟩)
      | 7 => x = .string name
      | 8 => x = .tuple #[.int .i64 zn, .int .i64 ze]
      | 9 => x = .tuple #[.int .i64 zn, .int .i64 ze]
      | 10 => x = .int .i64 zn
      | 11 => x = .int .i64 ze
      | 12 => x = .int .i64 zn
      | _ => True)
    (by kernel_rfl) (by kernel_rfl) rfl ?_ ?_ ?_ ?_
  · exact ⟨hf, h.drew, (Chg.refl _ _).drew⟩
  · intro j x w1 w2 hR hS' hG
    split at hG <;> exact hG
  · simp only [List.take_succ_cons, List.take_zero, EachOb, and_true]
    repeat' (with_reducible apply And.intro)
    all_goals refine ⟨?_, (by intro y wx _ _ h; exact Bool.noConfusion h), fun y x => rfl⟩
    all_goals
      intro y wx hS hd hw K hK
      clear hw
      obtain ⟨hS1, hS2, hS3⟩ := hS
      simp [depsOf, Region.binds, DepsG, List.filter_cons] at hd
      have c0 := hS1.c0
      have c1 := hS1.c1
      have HS : Hid (FlBlk wx fb T (.pointer (some ⟨b, 0, none⟩)) name s ∧ RepU wx b D F Ft ∧ Chg (fun _ => False) w wx) := ⟨hS1, hS2, hS3⟩
      have HK := hide hK
      clear hS1 hS2 hS3 hK hf h
    all_goals dsimp only
    all_goals try go_simp
    all_goals try with_reducible exact HK.out _ _ _ rfl (by simp [Act.put, hd]) (Chg.refl _ _) HS.out
    all_goals try
      have hd3 : y 3 = .pointer (some ⟨b, 0, none⟩) := by with_reducible exact hd.1
      clear hd3
      refine (SZ'.out wx HS.out.2.1).mono ?_
      rintro e w2 ⟨rfl, rfl⟩
      exact HK.out _ _ _ rfl (by simp [Act.put, hd]) (Chg.refl _ _) HS.out
  · intro y wx hS hG
    have h11 : y 11 = .int .i64 ze := hG 11 (by omega)
    have h12 : y 12 = .int .i64 zn := hG 12 (by omega)
    have HS := hide hS
    clear hG hS hf h
    rcases HA with ⟨rfl, HA⟩ | ⟨rfl, HA⟩
    · have RD2 : ∀ w', RepU w' b D F Ft → Calls Tryz.prog 72 #[.pointer (some ⟨b, 0, none⟩), .string name, .int .i64 0, .int .i64 zn] w' fun e w'' => e = .returned (.tuple #[.string ⟨rs.toArray⟩, .int .i64 re]) ∧ w' = w'' := by rw [← HA.out.1, ← HA.out.2]; exact RD'.out
      have HRD := hide RD2
      clear RD2 RD' HA SZ'
      go_wp2
      refine wp_region_each 13 (fun z => { tmps := #[.pointer (some ⟨fb, 0, none⟩), undef, z 12, .int .i64 0, .int .i64 zn, .int .i64 0, y 9, y 0, y 1, y 2, y 3, y 4, y 5, y 6, y 7, y 8, y 10, .int .i64 0, .int .i64 0, .bool false, undef, z 0, z 1, z 2, z 3, z 4, z 5, z 6, z 7, z 8, z 9, z 10, z 11], defers := [] }) (fun j => if j = 12 then .string ⟨#[]⟩ else undef)
        (fun w' => FlBlk w' fb T (.pointer (some ⟨b, 0, none⟩)) name s ∧ RepU w' b D F Ft ∧ Chg (fun _ => False) w w') (Chg (fun _ => False))
        (fun j x w' => match j with
          | 0 => x = .pointer (some ⟨fb, 0, none⟩)
          | 1 => x = .pointer (some ⟨fb, 0, none⟩)
          | 2 => x = .pointer (some ⟨fb, 0, none⟩)
          | 3 => x = .pointer (some ⟨b, 0, none⟩)
          | 4 => x = .pointer (some ⟨fb, 0, none⟩)
          | 5 => x = .pointer (some ⟨fb, 0, none⟩)
          | 6 => x = .pointer (some ⟨fb, 1, none⟩)
          | 7 => x = .string name
          | 8 => x = .int .i64 zn
          | 9 => x = .tuple #[.string ⟨rs.toArray⟩, .int .i64 re]
          | 10 => x = .string ⟨rs.toArray⟩
          | 11 => x = .int .i64 re
          | 12 => x = .string ⟨rs.toArray⟩
          | _ => True)
        (by kernel_rfl) (by kernel_rfl) rfl ?_ ?_ ?_ ?_
      · exact ⟨HS.out.1, HS.out.2.1.drew, HS.out.2.2.drew⟩
      · intro j x w1 w2 hR hS' hG
        split at hG <;> exact hG
      · clear HS h11 h12
        simp only [List.take_succ_cons, List.take_zero, EachOb, and_true]
        repeat' (with_reducible apply And.intro)
        all_goals refine ⟨?_, (by intro y wx _ _ h; exact Bool.noConfusion h), fun y x => rfl⟩
        all_goals
          intro z wx hS hd hw K hK
          clear hw
          obtain ⟨hS1, hS2, hS3⟩ := hS
          simp [depsOf, Region.binds, DepsG, List.filter_cons] at hd
          have c0 := hS1.c0
          have c1 := hS1.c1
          have HS : Hid (FlBlk wx fb T (.pointer (some ⟨b, 0, none⟩)) name s ∧ RepU wx b D F Ft ∧ Chg (fun _ => False) w wx) := ⟨hS1, hS2, hS3⟩
          have HK := hide hK
          clear hS1 hS2 hS3 hK
        all_goals dsimp only
        all_goals try go_simp
        all_goals try with_reducible exact HK.out _ _ _ rfl (by simp [Act.put, hd]) (Chg.refl _ _) HS.out
        all_goals try
          have hd3 : z 3 = .pointer (some ⟨b, 0, none⟩) := by with_reducible exact hd.1
          clear hd3
          refine (HRD.out wx HS.out.2.1).mono ?_
          rintro e w2 ⟨rfl, rfl⟩
          exact HK.out _ _ _ rfl (by simp [Act.put, hd]) (Chg.refl _ _) HS.out
      · intro z wz hZ hG
        have z11 : z 11 = .int .i64 re := hG 11 (by omega)
        have z12 : z 12 = .string ⟨rs.toArray⟩ := hG 12 (by omega)
        have HZ := hide hZ
        clear hG hZ HS
        go_wp2
        go_ret2
        exact ⟨rfl, HZ.out.2.2⟩
    · go_wp2
      go_ret2
      rw [HA.out.1, HA.out.2]
      exact ⟨rfl, HS.out.2.2⟩
end
end Go.Proofs.YtfaeidbgdcincaaGreatDoor
/- Walks: a file's name: nameOf. -/
namespace Go.Proofs.YtfaeidbgdcincaaGreatDoor
open Go.RowKit

theorem Chg.ofBelow {S : Nat → Prop} {w w' : World} (h : Below w.heap.size w w') : Chg S w w' := ⟨h.os, h.tape, h.output, h.size, fun k hk _ => h.block k hk⟩
theorem Chg.ofGrow {S : Nat → Prop} {w : World} (k : Nat) (os : Array Obj) : Chg S w (Go.Sort.grow (w.drewN k) os) :=
  ⟨rfl, rfl, rfl, (by show w.heap.size ≤ (w.heap ++ os).size; simp), fun j hj _ => (by show (w.heap ++ os)[j]? = _; rw [Array.getElem?_append_left hj])⟩
theorem Chg.cellKeep {w w' : World} (h : Chg (fun _ => False) w w') {p : Addr} {v : Value} (hc : w.cell? p = some v) : w'.cell? p = some v := by
  have hlt : p.block < w.heap.size := by
    rcases Nat.lt_or_ge p.block w.heap.size with h | h
    · exact h
    · unfold World.cell? at hc
      rw [Array.getElem?_eq_none h] at hc
      simp at hc
  unfold World.cell? at hc ⊢
  rw [h.block _ hlt (fun h => h)]
  exact hc
/-- A file's name: its letter, then its number, padded. -/
def nameL (lt : List UInt8) (n : Int) : List UInt8 := lt ++ Lib.repeatL [48] (19 - (Lib.itoa n).length) ++ Lib.itoa n
set_option maxRecDepth 100000 in
set_option maxHeartbeats 1000000 in
theorem nameOf_any (w : World) (lt : List UInt8) (n : Int) (hn : -9223372036854775808 ≤ n ∧ n ≤ 9223372036854775807) (hlt : lt.length ≤ 1000) (hd : (Lib.itoa n).length ≤ 19)
    (hl : w.cell? ⟨0, 1, none⟩ = some (.string ⟨lt.toArray⟩)) (htab : Lib.TabIs Tryz.prog w "internal/strconv.uint64pow10" .u64 Lib.pow10Tab) :
    Calls Tryz.prog 105 #[.int .i64 1, .int .i64 n] w fun e w' => e = .returned (.string ⟨(nameL lt n).toArray⟩) ∧ Chg (fun _ => False) w w' := by
  obtain ⟨hn1, hn2⟩ := hn
  have IT := hide (Tryz.strconv_Itoa n hn1 hn2 w htab)
  have RP : ∀ w', _ := fun w' => Tryz.strings_Repeat ⟨#[48]⟩ (19 - (Lib.itoa n).length) w' (by omega) (by show 1 * _ ≤ _; omega)
  have HRP := hide RP
  have hnm : Hid (nameL lt n = lt ++ Lib.repeatL [48] (19 - (Lib.itoa n).length) ++ Lib.itoa n) := rfl
  have hrl := Lib.repeatL_length [48] (19 - (Lib.itoa n).length)
  obtain ⟨dg, hdg⟩ : ∃ dg, Lib.itoa n = dg := ⟨_, rfl⟩
  rw [hdg] at IT hd HRP hnm hrl
  clear RP hdg htab
  obtain ⟨c, hc, hcl⟩ : ∃ c : Nat, 19 - dg.length = c ∧ dg.length + c = 19 := ⟨_, rfl, by omega⟩
  rw [hc] at HRP hnm hrl
  clear hc
  obtain ⟨rp, hrp⟩ : ∃ rp, Lib.repeatL [48] c = rp := ⟨_, rfl⟩
  have HRP2 : Hid (∀ w' : World, Calls Tryz.prog 130 #[.string ⟨#[48]⟩, .int .i64 (c : Int)] w' fun e w'' => e = .returned (.string ⟨rp.toArray⟩) ∧ Below w'.heap.size w' w'') := by
    rw [← hrp]; exact HRP.out
  rw [hrp] at hnm hrl
  clear hrp HRP
  have hrl2 : rp.length ≤ 19 := by rw [hrl]; simp; omega
  clear hrl
  obtain ⟨nm, hnm2⟩ : ∃ nm, nameL lt n = nm := ⟨_, rfl⟩
  rw [hnm2] at hnm ⊢
  have HL := hide hl
  clear hnm2 hl
  go_enter Tryz.func105, Tryz.ntmps105
  go_wp2_with (go_at_call 129; refine IT.out.mono ?_; rintro e w1 ⟨rfl, hw⟩; have HW := hide hw; clear hw)
  have HC1 : Hid (Chg (fun _ => False) w w1) := by
    obtain ⟨k, os, he⟩ := HW.out
    rw [he]; exact Chg.ofGrow k os
  have HL1 := hide (HC1.out.cellKeep HL.out)
  clear HW IT HL
  refine wp_region_each 10 (fun y => { tmps := #[.int .i64 1, .int .i64 n, undef, undef, .string ⟨#[]⟩, .string ⟨dg.toArray⟩, .int .i64 n, .string ⟨dg.toArray⟩, y 0, y 1, y 2, y 3, y 4, y 5, y 6, y 7, y 8, y 9], defers := [] }) (fun _ => undef)
    (fun w' => w'.cell? ⟨0, 1, none⟩ = some (.string ⟨lt.toArray⟩) ∧ Chg (fun _ => False) w1 w') (Chg (fun _ => False))
    (fun j x w' => match j with
      | 0 => x = .int .i64 1
      | 1 => x = .pointer (some ⟨0, 1, none⟩)
      | 2 => x = .string ⟨lt.toArray⟩
      | 3 => x = .string ⟨dg.toArray⟩
      | 4 => x = .int .i64 dg.length
      | 5 => x = .int .i64 (c : Int)
      | 6 => x = .string ⟨rp.toArray⟩
      | 7 => x = .string ⟨(lt ++ rp).toArray⟩
      | 8 => x = .string ⟨dg.toArray⟩
      | 9 => x = .string ⟨nm.toArray⟩
      | _ => True)
    (by kernel_rfl) (by kernel_rfl) rfl ?_ ?_ ?_ ?_
  · exact ⟨HL1.out, (Chg.refl _ _).drew⟩
  · intro j x w1 w2 hR hS' hG
    split at hG <;> exact hG
  · clear HL1
    simp only [List.take_succ_cons, List.take_zero, EachOb, and_true]
    repeat' (with_reducible apply And.intro)
    all_goals refine ⟨?_, (by intro y wx _ _ h; exact Bool.noConfusion h), fun y x => rfl⟩
    all_goals
      intro y wx hS hd hw K hK
      clear hw
      obtain ⟨c0, hS2⟩ := hS
      simp [depsOf, Region.binds, DepsG, List.filter_cons] at hd
      have ap1 := append_mk lt rp
      have g1 : ¬ (9223372036854775807 < lt.length + rp.length) := by omega
      have g2 : ¬ (9223372036854775807 < lt.length + rp.length + dg.length) := by omega
      have g3 : ¬ (9223372036854775807 < lt.length + (rp.length + dg.length)) := by omega
      have ap2 : (ByteArray.mk (lt ++ rp).toArray) ++ (ByteArray.mk dg.toArray) = ⟨nm.toArray⟩ := by rw [append_mk, hnm.out]
      have ew : IntKind.i64.wrap (c : Int) = c := by simp [IntKind.wrap, IntKind.bits, IntKind.signed]; omega
      have ew2 : (19 : Int) - (dg.length : Int) = (c : Int) := by omega
      have HS : Hid (wx.cell? ⟨0, 1, none⟩ = some (.string ⟨lt.toArray⟩) ∧ Chg (fun _ => False) w1 wx) := ⟨c0, hS2⟩
      have HK := hide hK
      clear hS2 hK
    all_goals dsimp only
    all_goals try go_simp
    all_goals try with_reducible exact HK.out _ _ _ rfl (by simp [Act.put, hd]) (Chg.refl _ _) HS.out
    all_goals try
      have hd5 : y 5 = .int .i64 (c : Int) := by with_reducible exact hd
      clear hd5
      refine (HRP2.out wx).mono ?_
      rintro e w2 ⟨rfl, hb⟩
      have hc : Chg (fun _ => False) wx w2 := Chg.ofBelow hb
      exact HK.out _ _ _ rfl (by simp [Act.put, hd]) hc ⟨hc.cellKeep HS.out.1, HS.out.2.trans hc (fun _ h _ => h)⟩
  · intro y wx hS hG
    have h9 : y 9 = .string ⟨nm.toArray⟩ := hG 9 (by omega)
    have HS := hide hS
    clear hG hS HL1
    go_wp2
    go_ret
    exact ⟨rfl, HC1.out.trans HS.out.2 (fun _ h _ => h)⟩
end Go.Proofs.YtfaeidbgdcincaaGreatDoor
/- Walks: a piece is added to a file: add. -/
namespace Go.Proofs.YtfaeidbgdcincaaGreatDoor
open Go.RowKit

/-- What is so behind a call that writes to the disk and to the file's block. -/
def AfterF (w : World) (Ft : Nat → Prop) (fb : Nat) (w' : World) (b : Nat) (D' : DS) (F' : Nat → FC) : Prop :=
  Chg (fun k => Ft k ∨ k = fb) w w' ∧ ∃ Ft', RepU w' b D' F' Ft' ∧ (∀ k, Ft' k → k < w'.heap.size) ∧ ∀ k, Ft' k → Ft k ∨ w.heap.size ≤ k
/-- Was all of the piece added? -/
def addOk (D : DS) (F : Nat → FC) (name : ByteArray) (pc : List UInt8) : Bool :=
  decide ((dSize (dAppend D F name ⟨pc.toArray⟩).2.1 (dAppend D F name ⟨pc.toArray⟩).2.2 name).1 - (dSize D F name).1 = pc.length)
theorem dSize_range (D : DS) (F : Nat → FC) (name : ByteArray) : 0 ≤ (dSize D F name).1 := by
  unfold dSize
  cases lookup D.dir name <;> simp
section
variable {w : World} {b fb : Nat} {D : DS} {F : Nat → FC} {Ft : Nat → Prop} {T : TypeId} {name : ByteArray} {s : Nat}
set_option maxRecDepth 100000 in
set_option maxHeartbeats 2000000 in
theorem addF (hf : FlBlk w fb T (.pointer (some ⟨b, 0, none⟩)) name s) (hs : s < 4294967296) (h : RepU w b D F Ft) (hlt : ∀ k, Ft k → k < w.heap.size) (hn : ¬ Ft fb) (l : List UInt8) (hroom : -4611686018427387904 ≤ D.n.room ∧ D.n.room ≤ 9223372036854775807)
    (hu : usedL F D.dir ≤ 4611686018427387904) (hp : 0 ≤ D.n.part ∧ D.n.part ≤ 9223372036854775807) (hl : ∀ f, lookup D.dir name = some f → (F f).1.length + (l.length + 4) ≤ 70368744177664) (hll : l.length ≤ 4611686018427387904)
    (hz : (dSize (dAppend D F name ⟨(l ++ sumB (sumOn s l)).toArray⟩).2.1 (dAppend D F name ⟨(l ++ sumB (sumOn s l)).toArray⟩).2.2 name).1 ≤ 70368744177664 ∧ (dSize D F name).1 ≤ 70368744177664) :
    Calls Tryz.prog 143 #[.pointer (some ⟨fb, 0, none⟩), .string ⟨l.toArray⟩] w fun e w' => e = .returned (.tuple #[.bool (addOk D F name (l ++ sumB (sumOn s l))), .int .i64 (dAppend D F name ⟨(l ++ sumB (sumOn s l)).toArray⟩).1]) ∧ FlBlk w' fb T (.pointer (some ⟨b, 0, none⟩)) name (sumOn s l) ∧ AfterF w Ft fb w' b (dAppend D F name ⟨(l ++ sumB (sumOn s l)).toArray⟩).2.1 (dAppend D F name ⟨(l ++ sumB (sumOn s l)).toArray⟩).2.2 := by
  obtain ⟨hz1, hz2⟩ := hz
  have SE := hide (seal_any w fb T _ name s l hf hs (by omega))
  have hpl : (l ++ sumB (sumOn s l)).length = l.length + 4 := by simp [sumB_length]
  obtain ⟨s1, hs1⟩ : ∃ s1, sumOn s l = s1 := ⟨_, rfl⟩
  rw [hs1] at SE hpl hz1 ⊢
  clear hs1 hf
  obtain ⟨pc, hpc⟩ : ∃ pc, l ++ sumB s1 = pc := ⟨_, rfl⟩
  rw [hpc] at SE hpl hz1 ⊢
  clear hpc
  have AP : ∀ w', RepU w' b D F Ft → _ := fun w' h' => appendU h' name ⟨pc.toArray⟩ hroom hu hp (fun f hf => by have := hl f hf; show _ + pc.length ≤ _; omega)
  have r1 := dSize_range D F name
  have r2 := dSize_range (dAppend D F name ⟨pc.toArray⟩).2.1 (dAppend D F name ⟨pc.toArray⟩).2.2 name
  have hok : addOk D F name pc = decide ((dSize (dAppend D F name ⟨pc.toArray⟩).2.1 (dAppend D F name ⟨pc.toArray⟩).2.2 name).1 - (dSize D F name).1 = pc.length) := rfl
  obtain ⟨D', hD'⟩ : ∃ D', (dAppend D F name ⟨pc.toArray⟩).2.1 = D' := ⟨_, rfl⟩
  obtain ⟨F', hF'⟩ : ∃ F', (dAppend D F name ⟨pc.toArray⟩).2.2 = F' := ⟨_, rfl⟩
  obtain ⟨er, her⟩ : ∃ er, (dAppend D F name ⟨pc.toArray⟩).1 = er := ⟨_, rfl⟩
  rw [hD', hF'] at hok r2 hz1 ⊢
  rw [her]
  rw [hD', hF', her] at AP
  clear hD' hF' her
  have S1 : ∀ w', RepU w' b D F Ft → _ := fun w' h' => sizeU h' name
  have S2 : ∀ w' Ft', RepU w' b D' F' Ft' → _ := fun w' Ft' h' => sizeU h' name
  obtain ⟨zn, hzn⟩ : ∃ zn, (dSize D F name).1 = zn := ⟨_, rfl⟩
  obtain ⟨ze, hze⟩ : ∃ ze, (dSize D F name).2 = ze := ⟨_, rfl⟩
  obtain ⟨yn, hyn⟩ : ∃ yn, (dSize D' F' name).1 = yn := ⟨_, rfl⟩
  obtain ⟨ye, hye⟩ : ∃ ye, (dSize D' F' name).2 = ye := ⟨_, rfl⟩
  rw [hzn, hyn] at hok
  rw [hzn] at r1 hz2
  rw [hyn] at r2 hz1
  rw [hzn, hze] at S1
  rw [hyn, hye] at S2
  clear hzn hze hyn hye
  rw [hok]
  clear hok
  obtain ⟨ok, hok⟩ : ∃ ok, decide (yn - zn = (pc.length : Int)) = ok := ⟨_, rfl⟩
  rw [hok]
  have HOK := hide hok
  have AP' := hide AP
  have S1' := hide S1
  have S2' := hide S2
  have H := hide h
  have HLT := hide hlt
  have HN := hide hn
  clear AP S1 S2 h hlt hn hok hroom hu hp hl
  go_enter Tryz.func143, Tryz.ntmps143
  go_wp2_with (go_at_call 132; refine SE.out.mono ?_; rintro e w1 ⟨rfl, hb1, hc1⟩; have HB1 := hide hb1; have HC1 := hide hc1; clear hb1 hc1)
  have HS0 : Hid (FlBlk w1 fb T (.pointer (some ⟨b, 0, none⟩)) name s1 ∧ RepU w1 b D F Ft) := ⟨HB1.out, H.out.frame fun k hk => HC1.out.block k (HLT.out k hk) (fun e => HN.out (e ▸ hk))⟩
  clear HB1 SE H
  refine wp_region_each 13 (fun y => { tmps := #[.pointer (some ⟨fb, 0, none⟩), .string ⟨l.toArray⟩, undef, undef, .bool false, .int .i64 0, .string ⟨pc.toArray⟩, y 12, undef, undef, undef, undef, .pointer (some ⟨fb, 0, none⟩), .string ⟨l.toArray⟩, .string ⟨pc.toArray⟩, y 9, y 0, y 1, y 2, y 3, y 4, y 5, y 6, y 7, y 8, y 10, y 11, undef, undef, undef, undef, undef, undef, undef, undef, undef, undef, undef, undef, undef, undef, undef, undef, undef, undef, undef, undef, undef, undef, undef, undef, undef, undef, undef, undef, undef], defers := [] }) (fun _ => undef)
    (fun w' => FlBlk w' fb T (.pointer (some ⟨b, 0, none⟩)) name s1 ∧ RepU w' b D F Ft ∧ Chg (fun _ => False) w1 w') (Chg (fun _ => False))
    (fun j x w' => match j with
      | 0 => x = .pointer (some ⟨fb, 0, none⟩)
      | 1 => x = .pointer (some ⟨fb, 0, none⟩)
      | 2 => x = .pointer (some ⟨fb, 0, none⟩)
      | 3 => x = .pointer (some ⟨b, 0, none⟩)
      | 4 => x = .pointer (some ⟨fb, 0, none⟩)
      | 5 => x = .pointer (some ⟨fb, 0, none⟩)
      | 6 => x = .pointer (some ⟨fb, 1, none⟩)
      | 7 => x = .string name
      | 8 => x = .tuple #[.int .i64 zn, .int .i64 ze]
      | 9 => x = .tuple #[.int .i64 zn, .int .i64 ze]
      | 10 => x = .int .i64 zn
      | 11 => x = .int .i64 ze
      | 12 => x = .int .i64 zn
      | _ => True)
    (by kernel_rfl) (by kernel_rfl) rfl ?_ ?_ ?_ ?_
  · exact ⟨HS0.out.1, HS0.out.2.drew, (Chg.refl _ _).drew⟩
  · intro j x w1 w2 hR hS' hG
    split at hG <;> exact hG
  · clear HS0
    simp only [List.take_succ_cons, List.take_zero, EachOb, and_true]
    repeat' (with_reducible apply And.intro)
    all_goals refine ⟨?_, (by intro y wx _ _ h; exact Bool.noConfusion h), fun y x => rfl⟩
    all_goals
      intro zz wx hS hd hw K hK
      clear hw
      obtain ⟨hS1, hS2, hS3⟩ := hS
      simp [depsOf, Region.binds, DepsG, List.filter_cons] at hd
      have c0 := hS1.c0
      have c1 := hS1.c1
      have HS : Hid (FlBlk wx fb T (.pointer (some ⟨b, 0, none⟩)) name s1 ∧ RepU wx b D F Ft ∧ Chg (fun _ => False) w1 wx) := ⟨hS1, hS2, hS3⟩
      have HK := hide hK
      clear hS1 hS2 hS3 hK
    all_goals dsimp only
    all_goals try go_simp
    all_goals try with_reducible exact HK.out _ _ _ rfl (by simp [Act.put, hd]) (Chg.refl _ _) HS.out
    all_goals
      refine (S1'.out wx HS.out.2.1).mono ?_
      rintro e w2 ⟨rfl, rfl⟩
      exact HK.out _ _ _ rfl (by simp [Act.put, hd]) (Chg.refl _ _) HS.out
  intro y wx hS hG
  have h11 : y 11 = .int .i64 ze := hG 11 (by omega)
  have h12 : y 12 = .int .i64 zn := hG 12 (by omega)
  have c0 := hS.1.c0
  have c1 := hS.1.c1
  have HS := hide hS
  clear hG hS HS0 S1'
  go_wp2
  refine wp_region_sch (fun w' => w'.cell? ⟨fb, 0, none⟩ = some (.pointer (some ⟨b, 0, none⟩)) ∧ w'.cell? ⟨fb, 1, none⟩ = some (.string name)) 9
    [(0, true), (1, true), (2, true), (3, true), (4, true), (5, true), (6, true), (7, true), (8, true)] (by kernel_rfl) (by kernel_rfl) (fun _ _ _ _ _ h => h) ⟨c0, c1⟩ ?_
  iterate 9 (refine wpSch_take (v := ?_) rfl (by rfl) ?_ ?_; rotate_left; (· (intro w' hS; (try dsimp only at hS); go_simp; try with_reducible rfl)); (try simp only [Act.put, List.setIfInBounds_toArray, List.set_cons_zero, List.set_cons_succ, List.getElem_toArray, List.getElem_cons_zero, List.getElem_cons_succ]))
  refine wpSch_end ?_
  simp only [List.drop_succ_cons, List.drop_zero]
  have AP2 := hide (AP'.out wx.drew HS.out.2.1.drew)
  clear AP'
  go_wp2_with (go_at_call 74; refine AP2.out.mono ?_; rintro e w3 ⟨rfl, hA⟩; have HA := hide hA; clear hA)
  have HA2 := HA.out.ofDrew
  obtain ⟨hk3, Ft', hr3, hl3, hf3⟩ := HA2
  have hsz := HS.out.1.lt
  have HS0 : Hid (FlBlk w3 fb T (.pointer (some ⟨b, 0, none⟩)) name s1 ∧ RepU w3 b D' F' Ft') := ⟨HS.out.1.keep hk3 HN.out, hr3⟩
  have HK3 := hide hk3
  have HL3 := hide hl3
  have HF3 := hide hf3
  clear hk3 hr3 hl3 hf3 AP2 HA c0 c1 hsz
  have S3' : Hid (∀ w', RepU w' b D' F' Ft' → _) := fun w' h' => S2'.out w' Ft' h'
  clear S2'
  refine wp_region_each 13 (fun z => { tmps := #[.pointer (some ⟨fb, 0, none⟩), .string ⟨l.toArray⟩, undef, undef, .bool false, .int .i64 0, .string ⟨pc.toArray⟩, .int .i64 zn, .int .i64 ze, .int .i64 er, z 12, undef, .pointer (some ⟨fb, 0, none⟩), .string ⟨l.toArray⟩, .string ⟨pc.toArray⟩, y 9, y 0, y 1, y 2, y 3, y 4, y 5, y 6, y 7, y 8, y 10, .int .i64 ze, .pointer (some ⟨fb, 0, none⟩), .pointer (some ⟨fb, 0, none⟩), .pointer (some ⟨fb, 0, none⟩), .pointer (some ⟨b, 0, none⟩), .pointer (some ⟨fb, 0, none⟩), .pointer (some ⟨fb, 0, none⟩), .pointer (some ⟨fb, 1, none⟩), .string name, .string ⟨pc.toArray⟩, .int .i64 er, z 9, z 0, z 1, z 2, z 3, z 4, z 5, z 6, z 7, z 8, z 10, z 11, undef, undef, undef, undef, undef, undef, undef], defers := [] }) (fun _ => undef)
    (fun w' => FlBlk w' fb T (.pointer (some ⟨b, 0, none⟩)) name s1 ∧ RepU w' b D' F' Ft' ∧ Chg (fun _ => False) w3 w') (Chg (fun _ => False))
    (fun j x w' => match j with
      | 0 => x = .pointer (some ⟨fb, 0, none⟩)
      | 1 => x = .pointer (some ⟨fb, 0, none⟩)
      | 2 => x = .pointer (some ⟨fb, 0, none⟩)
      | 3 => x = .pointer (some ⟨b, 0, none⟩)
      | 4 => x = .pointer (some ⟨fb, 0, none⟩)
      | 5 => x = .pointer (some ⟨fb, 0, none⟩)
      | 6 => x = .pointer (some ⟨fb, 1, none⟩)
      | 7 => x = .string name
      | 8 => x = .tuple #[.int .i64 yn, .int .i64 ye]
      | 9 => x = .tuple #[.int .i64 yn, .int .i64 ye]
      | 10 => x = .int .i64 yn
      | 11 => x = .int .i64 ye
      | 12 => x = .int .i64 yn
      | _ => True)
    (by kernel_rfl) (by kernel_rfl) rfl ?_ ?_ ?_ ?_
  · exact ⟨HS0.out.1, HS0.out.2.drew, (Chg.refl _ _).drew⟩
  · intro j x w1 w2 hR hS' hG
    split at hG <;> exact hG
  · clear HS0
    simp only [List.take_succ_cons, List.take_zero, EachOb, and_true]
    repeat' (with_reducible apply And.intro)
    all_goals refine ⟨?_, (by intro y wx _ _ h; exact Bool.noConfusion h), fun y x => rfl⟩
    all_goals
      intro zz wx hS hd hw K hK
      clear hw
      obtain ⟨hS1, hS2, hS3⟩ := hS
      simp [depsOf, Region.binds, DepsG, List.filter_cons] at hd
      have c0 := hS1.c0
      have c1 := hS1.c1
      have HS : Hid (FlBlk wx fb T (.pointer (some ⟨b, 0, none⟩)) name s1 ∧ RepU wx b D' F' Ft' ∧ Chg (fun _ => False) w3 wx) := ⟨hS1, hS2, hS3⟩
      have HK := hide hK
      clear hS1 hS2 hS3 hK
    all_goals dsimp only
    all_goals try go_simp
    all_goals try with_reducible exact HK.out _ _ _ rfl (by simp [Act.put, hd]) (Chg.refl _ _) HS.out
    all_goals
      refine (S3'.out wx HS.out.2.1).mono ?_
      rintro e w2 ⟨rfl, rfl⟩
      exact HK.out _ _ _ rfl (by simp [Act.put, hd]) (Chg.refl _ _) HS.out
  intro z wz hZ hG
  have z11 : z 11 = .int .i64 ye := hG 11 (by omega)
  have z12 : z 12 = .int .i64 yn := hG 12 (by omega)
  have HZ := hide hZ
  have hbe : (yn - zn == (l.length : Int) + 4) = ok := by
    rw [← HOK.out, hpl, Bool.eq_iff_iff]; simp
  clear hG hZ HS0 S3' HOK
  go_wp2
  go_ret2
  exact ⟨rfl, HZ.out.1, (((HC1.out.mono (fun _ _ h => .inr h)).trans HS.out.2.2 (fun _ h _ => h.elim)).trans HK3.out (fun _ h _ => .inl h)).trans HZ.out.2.2 (fun _ h _ => h.elim),
    Ft', HZ.out.2.1, fun k hk => Nat.lt_of_lt_of_le (HL3.out k hk) HZ.out.2.2.size, fun k hk => (HF3.out k hk).imp id fun h => Nat.le_trans (Nat.le_trans HC1.out.size HS.out.2.2.size) h⟩
end
end Go.Proofs.YtfaeidbgdcincaaGreatDoor
