/- Disks made behind a start: 'DAt N w b D F': in world w there lies at block b, above N, the disk D with files F. Each call's contract with what it makes, given by equations. No walk. -/
import Derived.Test.YtodcnkbblippnaaRu
namespace Go.Proofs.Ytodcnkbblippnaa
open Go.RowKit

def DAt (N : Nat) (w : World) (b : Nat) (D : DS) (F : Nat → FC) : Prop := ∃ Ft, RepU w b D F Ft ∧ ∀ k, Ft k → N ≤ k ∧ k < w.heap.size
/-- Blocks from N on. -/
def Up (N : Nat) : Nat → Prop := fun k => N ≤ k
theorem DAt.of_after {N : Nat} {w w' : World} {b : Nat} {D : DS} {F F' : Nat → FC} {Ft : Nat → Prop} (h : AfterU w Ft w' b D F) (hft : ∀ k, Ft k → N ≤ k ∧ k < w.heap.size) (hN : N ≤ w.heap.size) (hF : ∀ f, D.ids f → F' f = F f) : DAt N w' b D F' ∧ Chg (Up N) w w' := by
  obtain ⟨h1, Ft', h2, h3, h4⟩ := h
  refine ⟨⟨Ft', h2.F_congr hF, fun k hk => ⟨?_, h3 k hk⟩⟩, h1.mono fun k _ hk => (hft k hk).1⟩
  rcases h4 k hk with h | h
  · exact (hft k h).1
  · omega
theorem DAt.lt {N : Nat} {w : World} {b : Nat} {D : DS} {F : Nat → FC} (h : DAt N w b D F) : N ≤ b ∧ b < w.heap.size := by
  obtain ⟨Ft, h1, h2⟩ := h
  exact h2 b h1.foot
theorem DAt.same {N : Nat} {w w' : World} {b : Nat} {D : DS} {F : Nat → FC} (h : DAt N w b D F) (hc : Chg (fun _ => False) w w') : DAt N w' b D F := by
  obtain ⟨Ft, h1, h2⟩ := h
  exact ⟨Ft, h1.frame fun k hk => hc.block k (h2 k hk).2 (fun h => h), fun k hk => ⟨(h2 k hk).1, Nat.lt_of_lt_of_le (h2 k hk).2 hc.size⟩⟩
theorem Chg.up {N : Nat} {w w' : World} (hc : Chg (fun _ => False) w w') : Chg (Up N) w w' := hc.mono fun _ _ h => h.elim
theorem Chg.ups {N : Nat} {w w1 w2 : World} (hc : Chg (Up N) w w1) (hc2 : Chg (Up N) w1 w2) : Chg (Up N) w w2 := hc.trans hc2 fun _ h _ => h

section
variable {N : Nat} {w : World} {b : Nat} {D : DS} {F : Nat → FC}
theorem newA (room : Int) (w : World) (hN : N ≤ w.heap.size) : Calls Try.prog 15 #[.int .i64 room] w fun e w' => ∃ b, e = .returned (.pointer (some ⟨b, 0, none⟩)) ∧ DAt N w' b ⟨[], [], [], dNew room⟩ F ∧ Chg (Up N) w w' ∧ w.heap.size ≤ b := by
  refine (newU (F := F) room w).mono ?_
  rintro e w' ⟨q1, q2, q3, q4⟩
  exact ⟨_, q1, ⟨_, q2, fun k hk => by cases hk; omega⟩, q3.up, Nat.le_refl _⟩
theorem createA (h : DAt N w b D F) (name : ByteArray) (k : Nat) {e : Int} {D' : DS} {F' : Nat → FC} (he : dCreate D name k = (e, D')) (hF : ∀ f, D'.ids f → F' f = upd F k ([], 0) f) (hk : ¬ D.ids k) (hs : D.dir.length < 1099511627776 ∧ D.changes.length < 1099511627776) :
    Calls Try.prog 9 #[.pointer (some ⟨b, 0, none⟩), .string name] w fun r w' => r = .returned (.int .i64 e) ∧ DAt N w' b D' F' ∧ Chg (Up N) w w' := by
  have hN := Nat.le_of_lt (Nat.lt_of_le_of_lt h.lt.1 h.lt.2)
  obtain ⟨Ft, h1, h2⟩ := h
  refine (createU h1 name k hk hs).mono ?_
  rintro r w' ⟨q1, q2⟩
  rw [he] at q1 q2
  exact ⟨q1, DAt.of_after q2 h2 hN hF⟩
theorem appendA (h : DAt N w b D F) (name data : ByteArray) {e : Int} {D' : DS} {G F' : Nat → FC} (he : dAppend D F name data = (e, D', G)) (hF : ∀ f, D'.ids f → F' f = G f) (hroom : -4611686018427387904 ≤ D.n.room ∧ D.n.room ≤ 9223372036854775807)
    (hu : usedL F D.dir ≤ 4611686018427387904) (hp : 0 ≤ D.n.part ∧ D.n.part ≤ 9223372036854775807) (hl : ∀ f, lookup D.dir name = some f → (F f).1.length + data.size ≤ 70368744177664) :
    Calls Try.prog 12 #[.pointer (some ⟨b, 0, none⟩), .string name, .string data] w fun r w' => r = .returned (.int .i64 e) ∧ DAt N w' b D' F' ∧ Chg (Up N) w w' := by
  have hN := Nat.le_of_lt (Nat.lt_of_le_of_lt h.lt.1 h.lt.2)
  obtain ⟨Ft, h1, h2⟩ := h
  refine (appendU h1 name data hroom hu hp hl).mono ?_
  rintro r w' ⟨q1, q2⟩
  rw [he] at q1 q2
  exact ⟨q1, DAt.of_after q2 h2 hN hF⟩
theorem syncA (h : DAt N w b D F) (name : ByteArray) {e : Int} {D' : DS} {G F' : Nat → FC} (he : dSync D F name = (e, D', G)) (hF : ∀ f, D'.ids f → F' f = G f) :
    Calls Try.prog 17 #[.pointer (some ⟨b, 0, none⟩), .string name] w fun r w' => r = .returned (.int .i64 e) ∧ DAt N w' b D' F' ∧ Chg (Up N) w w' := by
  have hN := Nat.le_of_lt (Nat.lt_of_le_of_lt h.lt.1 h.lt.2)
  obtain ⟨Ft, h1, h2⟩ := h
  refine (syncU h1 name).mono ?_
  rintro r w' ⟨q1, q2⟩
  rw [he] at q1 q2
  exact ⟨q1, DAt.of_after q2 h2 hN hF⟩
theorem syncDirA (h : DAt N w b D F) {e : Int} {D' : DS} (he : dSyncDir D = (e, D')) :
    Calls Try.prog 16 #[.pointer (some ⟨b, 0, none⟩)] w fun r w' => r = .returned (.int .i64 e) ∧ DAt N w' b D' F ∧ Chg (Up N) w w' := by
  have hN := Nat.le_of_lt (Nat.lt_of_le_of_lt h.lt.1 h.lt.2)
  obtain ⟨Ft, h1, h2⟩ := h
  refine (syncDirU h1).mono ?_
  rintro r w' ⟨q1, q2⟩
  rw [he] at q1 q2
  exact ⟨q1, DAt.of_after q2 h2 hN fun _ _ => rfl⟩
theorem removeA (h : DAt N w b D F) (name : ByteArray) {e : Int} {D' : DS} (he : dRemove D name = (e, D')) (hs : D.dir.length < 1099511627776 ∧ D.changes.length < 1099511627776) :
    Calls Try.prog 10 #[.pointer (some ⟨b, 0, none⟩), .string name] w fun r w' => r = .returned (.int .i64 e) ∧ DAt N w' b D' F ∧ Chg (Up N) w w' := by
  have hN := Nat.le_of_lt (Nat.lt_of_le_of_lt h.lt.1 h.lt.2)
  obtain ⟨Ft, h1, h2⟩ := h
  refine (removeU h1 name hs).mono ?_
  rintro r w' ⟨q1, q2⟩
  rw [he] at q1 q2
  exact ⟨q1, DAt.of_after q2 h2 hN fun _ _ => rfl⟩
theorem renameA (h : DAt N w b D F) (old name : ByteArray) {e : Int} {D' : DS} (he : dRename D old name = (e, D')) (hs : D.dir.length < 1099511627776 ∧ D.changes.length < 1099511627776) :
    Calls Try.prog 8 #[.pointer (some ⟨b, 0, none⟩), .string old, .string name] w fun r w' => r = .returned (.int .i64 e) ∧ DAt N w' b D' F ∧ Chg (Up N) w w' := by
  have hN := Nat.le_of_lt (Nat.lt_of_le_of_lt h.lt.1 h.lt.2)
  obtain ⟨Ft, h1, h2⟩ := h
  refine (renameU h1 old name hs).mono ?_
  rintro r w' ⟨q1, q2⟩
  rw [he] at q1 q2
  exact ⟨q1, DAt.of_after q2 h2 hN fun _ _ => rfl⟩
theorem cutA (h : DAt N w b D F) (c : Int) {D' : DS} (he : ({ D with n := { D.n with cut := if c > 0 then wrap64 (D.n.calls + c) else 0 } } : DS) = D') : Calls Try.prog 26 #[.pointer (some ⟨b, 0, none⟩), .int .i64 c] w fun r w' => r = .returned (.tuple #[]) ∧ DAt N w' b D' F ∧ Chg (Up N) w w' := by
  subst he
  have hN := Nat.le_of_lt (Nat.lt_of_le_of_lt h.lt.1 h.lt.2)
  obtain ⟨Ft, h1, h2⟩ := h
  refine (cutU h1 c).mono ?_
  rintro r w' ⟨q1, q2⟩
  exact ⟨q1, DAt.of_after q2 h2 hN fun _ _ => rfl⟩
theorem failA (h : DAt N w b D F) (c p : Int) {D' : DS} (he : ({ D with n := dFail D.n c p } : DS) = D') : Calls Try.prog 29 #[.pointer (some ⟨b, 0, none⟩), .int .i64 c, .int .i64 p] w fun r w' => r = .returned (.tuple #[]) ∧ DAt N w' b D' F ∧ Chg (Up N) w w' := by
  subst he
  have hN := Nat.le_of_lt (Nat.lt_of_le_of_lt h.lt.1 h.lt.2)
  obtain ⟨Ft, h1, h2⟩ := h
  refine (failU h1 c p).mono ?_
  rintro r w' ⟨q1, q2⟩
  exact ⟨q1, DAt.of_after q2 h2 hN fun _ _ => rfl⟩
/-- A copy: both disks. -/
theorem copyA (h : DAt N w b D F) (hs : D.dir.length + D.safe.length + sumLen D.changes < 1099511627776) (hs2 : D.changes.length < 1099511627776) (hF : ∀ f, D.ids f → (F f).1.length ≤ 1099511627776) :
    Calls Try.prog 11 #[.pointer (some ⟨b, 0, none⟩)] w fun r w' => ∃ b2, r = .returned (.pointer (some ⟨b2, 0, none⟩)) ∧ DAt w.heap.size w' b2 D F ∧ DAt N w' b D F ∧ Chg (fun _ => False) w w' := by
  have hh := h
  obtain ⟨Ft, h1, h2⟩ := h
  refine (copyU h1 hs hs2 hF).mono ?_
  rintro r w' ⟨b2, Ft2, q1, q2, q3, q4⟩
  exact ⟨b2, q1, ⟨Ft2, q2, q3⟩, hh.same q4, q4⟩
/-- A crash; what is left of the files is told by a list, that lies below N or was made behind the disk. -/
theorem crashA {w0 : World} (h : DAt N w0 b D F) (hc : Chg (fun _ => False) w0 w) (dirs : Int) (vt : Value) (ts : List Int) {D' : DS} {G F' : Nat → FC} (he : dCrash D F dirs ts = (D', G)) (hF' : ∀ f, D'.ids f → F' f = G f) (ht : IntSl w vt ts) (hta : ∀ ad n c x, vt = .slice ad n c → ad = some x → x.block < N ∨ w0.heap.size ≤ x.block)
    (hs : D.dir.length < 1099511627776 ∧ D.safe.length < 1099511627776 ∧ D.changes.length < 1099511627776 ∧ ∀ c ∈ D.changes, c.length < 1099511627776) (hdi : -9223372036854775808 ≤ dirs ∧ dirs ≤ 9223372036854775807)
    (hts : ∀ t ∈ ts, -9223372036854775808 ≤ t ∧ t ≤ 9223372036854775807) (hF : ∀ f, D.ids f → 0 ≤ (F f).2 ∧ (F f).2 ≤ (F f).1.length ∧ (F f).1.length ≤ 1099511627776) :
    Calls Try.prog 6 #[.pointer (some ⟨b, 0, none⟩), .int .i64 dirs, vt] w fun r w' => r = .returned (.tuple #[]) ∧ DAt N w' b D' F' ∧ Chg (Up N) w w' := by
  have hN := Nat.le_of_lt (Nat.lt_of_le_of_lt h.lt.1 h.lt.2)
  obtain ⟨Ft, h1, h2⟩ := h
  have h3 : RepU w b D F Ft := h1.frame fun k hk => hc.block k (h2 k hk).2 (fun h => h)
  refine (crashU h3 dirs vt ts ht (fun ad n c x e1 e2 hx => ?_) hs hdi hts hF).mono ?_
  · have := h2 _ hx
    rcases hta ad n c x e1 e2 with h | h <;> omega
  · rintro r w' ⟨q1, q2⟩
    rw [he] at q2
    have := hc.size
    obtain ⟨q3, q4⟩ := DAt.of_after q2 (fun k hk => ⟨(h2 k hk).1, by have := (h2 k hk).2; omega⟩) (by omega) hF'
    exact ⟨q1, q3, q4⟩
theorem IntSl.nil0 (w : World) : IntSl w (.slice none 0 0) [] := ⟨_, _, rfl, by simp, fun j hj => by simp at hj⟩
theorem IntSl.one (w : World) (t : Int) : IntSl (w.alloc (.cells #[.int .i64 t] 3)) (.slice (some ⟨w.heap.size, 0, none⟩) 1 1) [t] := by
  refine ⟨_, _, rfl, by simp, fun j hj => ⟨w.heap.size, 0, rfl, by simp, ?_⟩⟩
  obtain rfl : j = 0 := by simpa using hj
  have := heap_alloc_new w (.cells #[.int .i64 t] 3)
  unfold World.cell?
  simp only [Nat.zero_add]
  rw [this]; rfl
end
/-- Two disks that share nothing. -/
def DPair (N : Nat) (w : World) (b : Nat) (D : DS) (F : Nat → FC) (b2 : Nat) (D2 : DS) (F2 : Nat → FC) : Prop :=
  ∃ Ft Ft2, RepU w b D F Ft ∧ RepU w b2 D2 F2 Ft2 ∧ (∀ k, Ft k → N ≤ k ∧ k < w.heap.size) ∧ (∀ k, Ft2 k → N ≤ k ∧ k < w.heap.size) ∧ ∀ k, Ft k → Ft2 k → False
section
variable {N : Nat} {w w' : World} {b b2 : Nat} {D D2 : DS} {F F2 : Nat → FC}
theorem DPair.symm (h : DPair N w b D F b2 D2 F2) : DPair N w b2 D2 F2 b D F := by
  obtain ⟨Ft, Ft2, h1, h2, h3, h4, h5⟩ := h
  exact ⟨Ft2, Ft, h2, h1, h4, h3, fun k a c => h5 k c a⟩
theorem DPair.one (h : DPair N w b D F b2 D2 F2) : DAt N w b D F := by
  obtain ⟨Ft, Ft2, h1, h2, h3, h4, h5⟩ := h
  exact ⟨Ft, h1, h3⟩
theorem DPair.of_copy {w0 : World} (h : DAt N w0 b D F) (hc : Chg (fun _ => False) w0 w) (h2 : DAt w0.heap.size w b2 D2 F2) : DPair N w b D F b2 D2 F2 := by
  have hN := Nat.le_of_lt (Nat.lt_of_le_of_lt h.lt.1 h.lt.2)
  obtain ⟨Ft, h1, h3⟩ := h
  obtain ⟨Ft2, h4, h5⟩ := h2
  refine ⟨Ft, Ft2, h1.frame fun k hk => hc.block k (h3 k hk).2 (fun h => h), h4, fun k hk => ⟨(h3 k hk).1, Nat.lt_of_lt_of_le (h3 k hk).2 hc.size⟩, fun k hk => ⟨Nat.le_trans hN (h5 k hk).1, (h5 k hk).2⟩, fun k a c => ?_⟩
  have := (h3 k a).2
  have := (h5 k c).1
  omega
theorem DPair.same (h : DPair N w b D F b2 D2 F2) (hc : Chg (fun _ => False) w w') : DPair N w' b D F b2 D2 F2 := by
  obtain ⟨Ft, Ft2, h1, h2, h3, h4, h5⟩ := h
  exact ⟨Ft, Ft2, h1.frame fun k hk => hc.block k (h3 k hk).2 (fun h => h), h2.frame fun k hk => hc.block k (h4 k hk).2 (fun h => h), fun k hk => ⟨(h3 k hk).1, Nat.lt_of_lt_of_le (h3 k hk).2 hc.size⟩, fun k hk => ⟨(h4 k hk).1, Nat.lt_of_lt_of_le (h4 k hk).2 hc.size⟩, h5⟩
/-- A call on the first leaves the second. -/
theorem DPair.after {D' : DS} {G F' : Nat → FC} {Ft Ft2 : Nat → Prop} (h2 : RepU w b2 D2 F2 Ft2) (h3 : ∀ k, Ft k → N ≤ k ∧ k < w.heap.size) (h4 : ∀ k, Ft2 k → N ≤ k ∧ k < w.heap.size) (h5 : ∀ k, Ft k → Ft2 k → False) (hN : N ≤ w.heap.size)
    (ha : AfterU w Ft w' b D' G) (hF : ∀ f, D'.ids f → F' f = G f) : DPair N w' b D' F' b2 D2 F2 ∧ Chg (Up N) w w' := by
  obtain ⟨q1, Ft', q2, q3, q4⟩ := ha
  refine ⟨⟨Ft', Ft2, q2.F_congr hF, h2.frame fun k hk => q1.block k (h4 k hk).2 (fun a => h5 k a hk), fun k hk => ⟨?_, q3 k hk⟩, fun k hk => ⟨(h4 k hk).1, Nat.lt_of_lt_of_le (h4 k hk).2 q1.size⟩, fun k a c => ?_⟩, q1.mono fun k _ hk => (h3 k hk).1⟩
  · rcases q4 k hk with h | h
    · exact (h3 k h).1
    · omega
  · rcases q4 k a with h | h
    · exact h5 k h c
    · have := (h4 k c).2; omega
theorem appendP (h : DPair N w b D F b2 D2 F2) (name data : ByteArray) {e : Int} {D' : DS} {G F' : Nat → FC} (he : dAppend D F name data = (e, D', G)) (hF : ∀ f, D'.ids f → F' f = G f) (hroom : -4611686018427387904 ≤ D.n.room ∧ D.n.room ≤ 9223372036854775807)
    (hu : usedL F D.dir ≤ 4611686018427387904) (hp : 0 ≤ D.n.part ∧ D.n.part ≤ 9223372036854775807) (hl : ∀ f, lookup D.dir name = some f → (F f).1.length + data.size ≤ 70368744177664) :
    Calls Try.prog 12 #[.pointer (some ⟨b, 0, none⟩), .string name, .string data] w fun r w' => r = .returned (.int .i64 e) ∧ DPair N w' b D' F' b2 D2 F2 ∧ Chg (Up N) w w' := by
  have hN := Nat.le_of_lt (Nat.lt_of_le_of_lt h.one.lt.1 h.one.lt.2)
  obtain ⟨Ft, Ft2, h1, h2, h3, h4, h5⟩ := h
  refine (appendU h1 name data hroom hu hp hl).mono ?_
  rintro r w' ⟨q1, q2⟩
  rw [he] at q1 q2
  exact ⟨q1, DPair.after h2 h3 h4 h5 hN q2 hF⟩
theorem crashP {w0 : World} (h : DPair N w0 b D F b2 D2 F2) (hc : Chg (fun _ => False) w0 w) (dirs : Int) (vt : Value) (ts : List Int) {D' : DS} {G F' : Nat → FC} (he : dCrash D F dirs ts = (D', G)) (hF' : ∀ f, D'.ids f → F' f = G f) (ht : IntSl w vt ts) (hta : ∀ ad n c x, vt = .slice ad n c → ad = some x → x.block < N ∨ w0.heap.size ≤ x.block)
    (hs : D.dir.length < 1099511627776 ∧ D.safe.length < 1099511627776 ∧ D.changes.length < 1099511627776 ∧ ∀ c ∈ D.changes, c.length < 1099511627776) (hdi : -9223372036854775808 ≤ dirs ∧ dirs ≤ 9223372036854775807)
    (hts : ∀ t ∈ ts, -9223372036854775808 ≤ t ∧ t ≤ 9223372036854775807) (hF : ∀ f, D.ids f → 0 ≤ (F f).2 ∧ (F f).2 ≤ (F f).1.length ∧ (F f).1.length ≤ 1099511627776) :
    Calls Try.prog 6 #[.pointer (some ⟨b, 0, none⟩), .int .i64 dirs, vt] w fun r w' => r = .returned (.tuple #[]) ∧ DPair N w' b D' F' b2 D2 F2 ∧ Chg (Up N) w w' := by
  have hN := Nat.le_of_lt (Nat.lt_of_le_of_lt h.one.lt.1 h.one.lt.2)
  have hp := h.same hc
  obtain ⟨Ft, Ft2, h1, h2, h3, h4, h5⟩ := h
  have hsz := hc.size
  refine (crashU (h1.frame fun k hk => hc.block k (h3 k hk).2 (fun h => h)) dirs vt ts ht (fun ad n c x e1 e2 hx => ?_) hs hdi hts hF).mono ?_
  · have := h3 _ hx
    rcases hta ad n c x e1 e2 with h | h <;> omega
  · rintro r w' ⟨q1, q2⟩
    rw [he] at q2
    exact ⟨q1, DPair.after (h2.frame fun k hk => hc.block k (h4 k hk).2 (fun h => h)) (fun k hk => ⟨(h3 k hk).1, Nat.lt_of_lt_of_le (h3 k hk).2 hsz⟩) (fun k hk => ⟨(h4 k hk).1, Nat.lt_of_lt_of_le (h4 k hk).2 hsz⟩) h5 (by omega) q2 hF'⟩
end
end Go.Proofs.Ytodcnkbblippnaa
