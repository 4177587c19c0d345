/- Walk: Copy. -/
import Derived.Test.YtodcnkbblippnaaDp
namespace Go.Proofs.Ytodcnkbblippnaa
open Go.RowKit
attribute [local go_sem ↓] Go.wp_at_zero Go.wp_at_succ

/-- The new file of an old one. -/
def rho : List Nat → List Nat → Nat → Nat
  | x :: xs, y :: ys, f => if x = f then y else rho xs ys f
  | _, _, _ => 0
theorem rho_at : ∀ (xs ys : List Nat) (i f m : Nat), xs.Nodup → xs[i]? = some f → ys[i]? = some m → rho xs ys f = m
  | [], _, i, _, _, _, h, _ => by simp at h
  | x :: xs, [], i, _, _, _, _, h => by simp at h
  | x :: xs, y :: ys, 0, f, m, _, h1, h2 => by
    simp only [List.getElem?_cons_zero, Option.some.injEq] at h1 h2
    subst h1; subst h2; simp [rho]
  | x :: xs, y :: ys, i + 1, f, m, hn, h1, h2 => by
    simp only [List.getElem?_cons_succ] at h1 h2
    have hx : x ≠ f := fun e => by subst e; exact (List.nodup_cons.1 hn).1 (List.mem_of_getElem? h1)
    simp only [rho, hx, if_false]
    exact rho_at xs ys i f m (List.nodup_cons.1 hn).2 h1 h2
/-- Entries, their files renamed. -/
def ren (r : Nat → Nat) (es : List Ent) : List Ent := es.map fun e => (e.1, r e.2)
def DS.ren (r : Nat → Nat) (D : DS) : DS := { dir := Go.Proofs.Ytodcnkbblippnaa.ren r D.dir, safe := Go.Proofs.Ytodcnkbblippnaa.ren r D.safe, changes := D.changes.map (Go.Proofs.Ytodcnkbblippnaa.ren r), n := D.n }
theorem Ren.eq {L M : List Nat} {es es' : List Ent} (h : Ren L M es es') (hn : L.Nodup) : es' = ren (rho L M) es := by
  apply List.ext_getElem
  · simp [ren, h.1]
  · intro k h1 h2
    have hk : k < es.length := by rw [← h.1]; exact h1
    obtain ⟨q1, i, q2, q3⟩ := h.2 k hk h1
    simp only [ren, List.getElem_map]
    rw [rho_at L M i _ _ hn q2 q3]
    exact Prod.ext q1 rfl
theorem CS.elem2 {N : Nat} {w : World} {bo bm : Nat} {F : Nat → FC} {old made : List Nat} {vo vm : Value} {VB : Nat → Value} (h : CS N w bo bm F old made vo vm VB) {k : Nat} (hk : CB bo bm vo vm made VB k ∨ k ∈ old) : ∃ c e, w.heap[k]? = some (.cells c e (0, 0)) ∧ e ≠ 50 ∧ e ≠ 47 ∧ e ≠ 45 := by
  have hl := h.made_len
  rcases hk with (rfl | rfl | hk | hk | hk | ⟨m, hm, hk⟩) | hk
  · exact ⟨_, _, h.ob, by decide⟩
  · exact ⟨_, _, h.mb, by decide⟩
  · obtain ⟨c, hc⟩ := ownsRow_elem h.ol hk; exact ⟨c, _, hc, by decide⟩
  · obtain ⟨c, hc⟩ := ownsRow_elem h.ml hk; exact ⟨c, _, hc, by decide⟩
  · obtain ⟨i, hi, rfl⟩ := List.getElem_of_mem hk
    exact ⟨_, _, (h.fil i hi (by omega)).1, by decide⟩
  · obtain ⟨i, hi, rfl⟩ := List.getElem_of_mem hm
    obtain ⟨c, hc⟩ := ownsRow_elem (h.fil i hi (by omega)).2 hk; exact ⟨c, _, hc, by decide⟩
  · obtain ⟨c, hc⟩ := (h.ofil k hk).2; exact ⟨c, _, hc, by decide⟩
/-- What the closure changes are no entries, no changes, no disks. -/
theorem CS.far {N : Nat} {w : World} {bo bm : Nat} {F : Nat → FC} {old made : List Nat} {vo vm : Value} {VB : Nat → Value} (h : CS N w bo bm F old made vo vm VB) {k e : Nat} {c : Array Value} (hk : w.heap[k]? = some (.cells c e (0, 0))) (he : e = 50 ∨ e = 47 ∨ e = 45) : ¬ CF bo bm vo vm k := by
  intro hc
  have hcb : CB bo bm vo vm made VB k := by
    rcases hc with h | h | h | h
    · exact .inl h
    · exact .inr (.inl h)
    · exact .inr (.inr (.inl h))
    · exact .inr (.inr (.inr (.inl h)))
  obtain ⟨c', e', h1, h2, h3, h4⟩ := h.elem2 (.inl hcb)
  rw [hk] at h1; cases h1
  rcases he with e | e | e <;> simp_all
def sumLen (l : List (List Ent)) : Nat := (l.map List.length).sum
theorem sumLen_take (l : List (List Ent)) (i : Nat) (h : i < l.length) : sumLen (l.take (i + 1)) = sumLen (l.take i) + (l[i]'h).length := by
  unfold sumLen
  rw [List.take_succ_eq_append_getElem h, List.map_append, List.sum_append]
  simp
theorem sumLen_le (l : List (List Ent)) (i : Nat) : sumLen (l.take i) ≤ sumLen l := by
  unfold sumLen
  conv => rhs; rw [← List.take_append_drop i l]
  rw [List.map_append, List.sum_append]; omega
theorem sumLen_mem (l : List (List Ent)) (i : Nat) (h : i < l.length) : (l[i]'h).length ≤ sumLen l := by
  have := sumLen_take l i h
  have := sumLen_le l (i + 1)
  omega
/-- Copy, behind i changes. -/
structure CR (N : Nat) (w wr : World) (b2 bo bm : Nat) (D : DS) (F : Nat → FC) (i : Nat) (L M : List Nat) (vo vm v1 v2 vc : Value) (VB : Nat → Value) (vals : List Value) (e1 e2 : List Ent) (cs : List (List Ent)) : Prop where
  cs0 : CS N wr bo bm F L M vo vm VB
  blk : DBlk wr b2 v1 v2 vc D.n
  d1 : EntSl wr v1 e1
  d2 : EntSl wr v2 e2
  r1 : Ren L M D.dir e1
  r2 : Ren L M D.safe e2
  ch : wr.ownsRow 0 47 1 vc i vals
  cl : cs.length = i
  che : ∀ k (h : k < cs.length), ∃ v, vals[k]? = some v ∧ EntSl wr v (cs[k]'h)
  chr : ∀ k (h : k < cs.length) (h' : k < D.changes.length), Ren L M (D.changes[k]'h') (cs[k]'h)
  cnt : L.length ≤ D.dir.length + D.safe.length + sumLen (D.changes.take i)
  lids : ∀ f ∈ L, D.ids f
  chg : Chg (fun _ => False) w wr
  nb : N ≤ b2
  nv1 : ∀ g, v1.ownBlock = some g → N ≤ g
  nv2 : ∀ g, v2.ownBlock = some g → N ≤ g
  nvc : ∀ g, vc.ownBlock = some g → N ≤ g
  nvs : ∀ v ∈ vals, ∀ g, v.ownBlock = some g → N ≤ g
/-- One change more. -/
theorem CR.step {w wr W1 w2 w3 : World} {b2 bo bm : Nat} {D : DS} {F : Nat → FC} {i nq : Nat} {L M L2 M2 : List Nat} {vo vm v1 v2 vc vo2 vm2 v : Value} {VB VB2 : Nat → Value} {vals : List Value} {e1 e2 es2 : List Ent} {cs : List (List Ent)} {a3 : Option Addr} {c3 : Nat}
    (h : CR w.heap.size w wr b2 bo bm D F i L M vo vm v1 v2 vc VB vals e1 e2 cs) (hi : i < D.changes.length) {es : List Ent} (hes : D.changes[i]'hi = es) (hW : Chg (fun _ => False) wr W1)
    (ho : OR1 w.heap.size W1 bo bm F L M vo vm VB es es.length es.length v w2 L2 M2 vo2 vm2 VB2 es2)
    (hA : App ((w2.drewN nq).alloc (.cells #[v] 47)) w3 47 1 vc (.slice a3 (i + 1) c3) (i + 1) (vals ++ [v])) :
    CR w.heap.size w (w3.setCell ⟨b2, 2, none⟩ (.slice a3 (i + 1) c3)) b2 bo bm D F (i + 1) L2 M2 vo2 vm2 v1 v2 (.slice a3 (i + 1) c3) VB2 (vals ++ [v]) e1 e2 (cs ++ [es2]) := by
  subst hes
  have csW : CS w.heap.size W1 bo bm F L M vo vm VB := h.cs0.chg hW (fun _ _ h => h) (fun _ _ h => h)
  -- entries, changes, disks are as they were
  have k12 : ∀ (k : Nat) (c : Array Value) (e : Nat), wr.heap[k]? = some (Obj.cells c e (0, 0)) → (e = 50 ∨ e = 47 ∨ e = 45) → w2.heap[k]? = some (Obj.cells c e (0, 0)) := fun k c e hk he => by
    have h1 : W1.heap[k]? = some (Obj.cells c e (0, 0)) := (hW.block k (lt_of_block hk) (fun h => h)).trans hk
    exact (ho.chg.block k (lt_of_block h1) (csW.far h1 he)).trans h1
  have k23 : ∀ (k : Nat) (c : Array Value) (e : Nat), w2.heap[k]? = some (Obj.cells c e (0, 0)) → e ≠ 47 → w3.heap[k]? = some (Obj.cells c e (0, 0)) := fun k c e hk he => by
    have h1 : ((w2.drewN nq).alloc (.cells #[v] 47)).heap[k]? = some (Obj.cells c e (0, 0)) := (Below.heap_alloc _ _ _ (by simpa using lt_of_block hk)).trans hk
    refine (hA.grown.block k (lt_of_block h1) (fun e2 => ?_)).trans h1
    obtain ⟨c', hh⟩ := ownsRow_elem h.ch e2.symm
    have := k12 _ _ _ hh (.inr (.inl rfl))
    rw [hk] at this; cases this; exact he rfl
  have hb3 : DBlk w3 b2 v1 v2 vc D.n := k23 _ _ _ (k12 _ _ _ h.blk (.inr (.inr rfl))) (by decide)
  have hb4 := hb3.s2 (.slice a3 (i + 1) c3)
  have k34 : Chg (One b2) w3 (w3.setCell ⟨b2, 2, none⟩ (.slice a3 (i + 1) c3)) := (Chg.refl (One b2) w3).setAt rfl 2 _
  generalize hW4 : w3.setCell ⟨b2, 2, none⟩ (.slice a3 (i + 1) c3) = W4 at hb4 k34 ⊢
  have k34' : ∀ (k : Nat) (c : Array Value) (e : Nat), w3.heap[k]? = some (Obj.cells c e (0, 0)) → e ≠ 45 → W4.heap[k]? = some (Obj.cells c e (0, 0)) := fun k c e hk he =>
    (k34.block k (lt_of_block hk) (fun e2 => elem_ne hk hb3 he e2)).trans hk
  have kE : ∀ (k : Nat) (c : Array Value), wr.heap[k]? = some (Obj.cells c 50 (0, 0)) → W4.heap[k]? = wr.heap[k]? := fun k c hk =>
    (k34' _ _ _ (k23 _ _ _ (k12 _ _ _ hk (.inl rfl)) (by decide)) (by decide)).trans hk.symm
  have kE2 : ∀ (k : Nat) (c : Array Value), w2.heap[k]? = some (Obj.cells c 50 (0, 0)) → W4.heap[k]? = w2.heap[k]? := fun k c hk =>
    (k34' _ _ _ (k23 _ _ _ hk (by decide)) (by decide)).trans hk.symm
  have hEn : ∀ {v : Value} {es : List Ent}, EntSl wr v es → EntSl W4 v es := fun he => ownsRow_same he fun g hg => by
    obtain ⟨c, hh⟩ := ownsRow_elem he hg; exact kE _ _ hh
  have hvE : EntSl W4 v es2 := ownsRow_same ho.ent fun g hg => by
    obtain ⟨c, hh⟩ := ownsRow_elem ho.ent hg; exact kE2 _ _ hh
  have hlM : ∀ {es es' : List Ent}, Ren L M es es' → Ren L2 M2 es es' := fun hr => by
    obtain ⟨o, q1, _⟩ := ho.pre
    obtain ⟨o2, q2, _⟩ := ho.prm
    rw [q1, q2]; exact hr.mono
  have hsz1 := h.chg.size
  have hsz2 := hW.size
  have hvl : vals.length = i := by simpa using h.ch.1
  refine ⟨?_, hb4, hEn h.d1, hEn h.d2, hlM h.r1, hlM h.r2, ?_, by simp [h.cl], ?_, ?_, ?_, ?_, ?_, h.nb, h.nv1, h.nv2, ?_, ?_⟩
  · refine ho.cs.frame (fun k hk => ?_) (fun k hk => ?_)
    · obtain ⟨c, e, h1, h2, h3, h4⟩ := ho.cs.elem2 (.inl hk)
      exact (k34' _ _ _ (k23 _ _ _ h1 h3) h4).trans h1.symm
    · obtain ⟨c, e, h1, h2, h3, h4⟩ := ho.cs.elem2 (.inr hk)
      exact (k34' _ _ _ (k23 _ _ _ h1 h3) h4).trans h1.symm
  · exact ownsRow_same hA.own fun g hg => by
      obtain ⟨c, hh⟩ := ownsRow_elem hA.own hg
      exact (k34' _ _ _ hh (by decide)).trans hh.symm
  · intro k hk
    by_cases hlt : k < cs.length
    · obtain ⟨u, q1, q2⟩ := h.che k hlt
      refine ⟨u, ?_, ?_⟩
      · rw [List.getElem?_append_left (by rw [hvl, ← h.cl]; exact hlt)]; exact q1
      · simp only [List.getElem_append_left hlt]; exact hEn q2
    · obtain rfl : k = cs.length := by simp at hk; omega
      refine ⟨v, ?_, ?_⟩
      · rw [List.getElem?_append_right (by rw [hvl, h.cl]; omega), hvl, h.cl]; simp
      · simpa using hvE
  · intro k hk hk'
    by_cases hlt : k < cs.length
    · simp only [List.getElem_append_left hlt]; exact hlM (h.chr k hlt hk')
    · obtain rfl : k = cs.length := by simp at hk; omega
      have hcl := h.cl
      have := ho.ren
      rw [List.take_length] at this
      simp only [hcl]
      have e1 : (cs ++ [es2])[i]'(by simp [hcl]) = es2 := by simp [← hcl]
      rw [e1]; exact this
  · obtain ⟨o, q1, q2, _⟩ := ho.pre
    have := h.cnt
    rw [sumLen_take _ _ hi, q1, List.length_append]; omega
  · intro f hf
    obtain ⟨o, q1, _, q3⟩ := ho.pre
    rw [q1] at hf
    rcases List.mem_append.1 hf with hf | hf
    · exact h.lids f hf
    · exact .inr (.inr ⟨_, List.getElem_mem hi, q3 f hf⟩)
  · have c1 : Chg (fun _ => False) w W1 := h.chg.trans hW (fun _ h _ => h)
    have c2 : Chg (fun _ => False) w w2 := c1.trans ho.chg (fun x hx hlt => by
      rcases hx with rfl | rfl | hx | hx
      · have := csW.nobo; omega
      · have := csW.nobm; omega
      · have := csW.novo x hx; omega
      · have := csW.novm x hx; omega)
    have c3 : Chg (fun _ => False) w w3 := ((c2.drewN nq).alloc (.cells #[v] 47)).grown hA.grown (fun k hk hlt => by have := h.nvc k hk; omega)
    exact c3.trans k34 (fun x hx hlt => by have := h.nb; have : x = b2 := hx; omega)
  · intro g hg
    rcases hA.at_ with e | e
    · rw [e] at hg; exact h.nvc g hg
    · rw [e] at hg; cases hg
      have := ho.chg.size
      simp; omega
  · intro u hu g hg
    rcases List.mem_append.1 hu with hu | hu
    · exact h.nvs u hu g hg
    · simp at hu; subst hu
      have := ho.fresh g hg; omega
/-- The closure, called on entries of the disk. -/
theorem other_copy {w W : World} {b bo bm : Nat} {D : DS} {F : Nat → FC} {vd vs vc vo vm vl : Value} {vals : List Value} {VB VB1 : Nat → Value} {L M : List Nat} {es : List Ent} (hr : RepV w b D F vd vs vc vals VB) (hc : Chg (fun _ => False) w W) (hcs : CS w.heap.size W bo bm F L M vo vm VB1)
    (hes : EntSl w vl es) (hids : ∀ f, inEnts f es → D.ids f) (hF : ∀ f, D.ids f → (F f).1.length ≤ 1099511627776) (hn : es.length < 1099511627776 ∧ L.length < 1099511627776) :
    Calls Try.prog 25 #[vl, .pointer (some ⟨bo, 0, none⟩), .pointer (some ⟨bm, 0, none⟩)] W fun e w' => ∃ v L2 M2 vo2 vm2 VB2 es2, e = .returned v ∧ OR1 w.heap.size W bo bm F L M vo vm VB1 es es.length es.length v w' L2 M2 vo2 vm2 VB2 es2 := by
  have hb : ∀ k, k < w.heap.size → W.heap[k]? = w.heap[k]? := fun k hk => hc.block k hk (fun h => h)
  refine (other_any w.heap.size W bo bm F L M vo vm VB1 hcs es vl (ownsRow_same hes fun g hg => hb g (ownsRow_lt hes hg)) (fun g hg => ownsRow_lt hes hg) hn fun f hf => ?_).mono ?_
  · obtain ⟨h1, h2⟩ := hr.fil f (hids f hf)
    refine ⟨lt_of_block h1, hF f (hids f hf), VB f, (hb f (lt_of_block h1)).trans h1, ownsRow_same h2 fun g hg => hb g (ownsRow_lt h2 hg), fun g hg => ownsRow_lt h2 hg⟩
  · rintro e w' ⟨v, rfl, L2, M2, vo2, vm2, VB2, es2, h⟩
    exact ⟨v, L2, M2, vo2, vm2, VB2, es2, rfl, h⟩
/-- Behind the closure nothing that was there is changed. -/
theorem OR1.chgW {w W w' : World} {bo bm : Nat} {F : Nat → FC} {old made L2 M2 : List Nat} {vo vm v vo2 vm2 : Value} {VB VB2 : Nat → Value} {es es2 : List Ent} {i cn : Nat} (h : OR1 w.heap.size W bo bm F old made vo vm VB es i cn v w' L2 M2 vo2 vm2 VB2 es2) (hc : Chg (fun _ => False) w W) (hcs : CS w.heap.size W bo bm F old made vo vm VB) : Chg (fun _ => False) w w' :=
  hc.trans h.chg (fun x hx hlt => by
    rcases hx with rfl | rfl | hx | hx
    · have := hcs.nobo; omega
    · have := hcs.nobm; omega
    · have := hcs.novo x hx; omega
    · have := hcs.novm x hx; omega)

theorem inEnts_ren {r : Nat → Nat} {es : List Ent} {f' : Nat} (h : inEnts f' (ren r es)) : ∃ f, inEnts f es ∧ r f = f' := by
  obtain ⟨e, he, rfl⟩ := h
  obtain ⟨e0, he0, rfl⟩ := List.mem_map.1 he
  exact ⟨e0.2, ⟨e0, he0, rfl⟩, rfl⟩
theorem DS.ids_ren {r : Nat → Nat} {D : DS} {f' : Nat} (h : (D.ren r).ids f') : ∃ f, D.ids f ∧ r f = f' := by
  rcases h with h | h | ⟨c, hc, h⟩
  · obtain ⟨f, h1, h2⟩ := inEnts_ren h; exact ⟨f, .inl h1, h2⟩
  · obtain ⟨f, h1, h2⟩ := inEnts_ren h; exact ⟨f, .inr (.inl h1), h2⟩
  · obtain ⟨c0, hc0, rfl⟩ := List.mem_map.1 hc
    obtain ⟨f, h1, h2⟩ := inEnts_ren h; exact ⟨f, .inr (.inr ⟨c0, hc0, h1⟩), h2⟩
theorem Ren.ids {L M : List Nat} {es es' : List Ent} (h : Ren L M es es') {f : Nat} (hf : inEnts f es) : ∃ (i : Nat) (m : Nat), L[i]? = some f ∧ M[i]? = some m := by
  obtain ⟨e, he, rfl⟩ := hf
  obtain ⟨k, hk, rfl⟩ := List.getElem_of_mem he
  obtain ⟨_, i, h1, h2⟩ := h.2 k hk (by rw [h.1]; exact hk)
  exact ⟨i, _, h1, h2⟩
/-- All changes are copied. -/
theorem CR.fin {w wr : World} {b2 bo bm : Nat} {D : DS} {F : Nat → FC} {L M : List Nat} {vo vm v1 v2 vc : Value} {VB : Nat → Value} {vals : List Value} {e1 e2 : List Ent} {cs : List (List Ent)}
    (h : CR w.heap.size w wr b2 bo bm D F D.changes.length L M vo vm v1 v2 vc VB vals e1 e2 cs) :
    ∃ r F2 Ft2, Rep wr b2 (D.ren r) F2 Ft2 ∧ (∀ k, Ft2 k → w.heap.size ≤ k ∧ k < wr.heap.size) ∧ Chg (fun _ => False) w wr ∧ (∀ f, D.ids f → F2 (r f) = F f) ∧ ∀ f f', D.ids f → D.ids f' → r f = r f' → f = f' := by
  have q1 : e1 = ren (rho L M) D.dir := h.r1.eq h.cs0.odup
  have q2 : e2 = ren (rho L M) D.safe := h.r2.eq h.cs0.odup
  have q3 : cs = D.changes.map (ren (rho L M)) := by
    apply List.ext_getElem
    · simp [h.cl]
    · intro k h1 h2
      rw [List.getElem_map]
      exact (h.chr k h1 (by simpa using h2)).eq h.cs0.odup
  have hids : ∀ f, D.ids f → ∃ (i : Nat) (m : Nat), L[i]? = some f ∧ M[i]? = some m := by
    rintro f (hf | hf | ⟨c, hc, hf⟩)
    · exact h.r1.ids hf
    · exact h.r2.ids hf
    · obtain ⟨k, hk, rfl⟩ := List.getElem_of_mem hc
      exact (h.chr k (by rw [h.cl]; exact hk) hk).ids hf
  have hback : ∀ f, D.ids f → rho M L (rho L M f) = f := fun f hf => by
    obtain ⟨i, m, h1, h2⟩ := hids f hf
    rw [rho_at L M i f m h.cs0.odup h1 h2, rho_at M L i m f h.cs0.dup h2 h1]
  have hmade : ∀ f', (D.ren (rho L M)).ids f' → ∃ i, ∃ hi : i < M.length, ∃ hi' : i < L.length, M[i]'hi = f' ∧ L[i]'hi' = rho M L f' := fun f' hf' => by
    obtain ⟨f, h1, rfl⟩ := DS.ids_ren hf'
    obtain ⟨i, m, h2, h3⟩ := hids f h1
    rw [hback f h1, rho_at L M i f m h.cs0.odup h2 h3]
    obtain ⟨k1, k2⟩ := List.getElem?_eq_some_iff.1 h2
    obtain ⟨k3, k4⟩ := List.getElem?_eq_some_iff.1 h3
    exact ⟨i, k3, k1, k4, k2⟩
  have hmem : ∀ f', (D.ren (rho L M)).ids f' → f' ∈ M := fun f' hf' => by
    obtain ⟨i, k1, _, k2, _⟩ := hmade f' hf'
    rw [← k2]; exact List.getElem_mem k1
  have hv : RepV wr b2 (D.ren (rho L M)) (fun m => F (rho M L m)) v1 v2 vc vals VB := by
    refine ⟨h.blk, ?_, ?_, ?_, ?_, ?_, ?_⟩
    · have := h.d1; rw [q1] at this; exact this
    · have := h.d2; rw [q2] at this; exact this
    · have := h.ch; simpa [DS.ren] using this
    · intro i hi
      have hi' : i < cs.length := by rw [h.cl]; simpa [DS.ren] using hi
      obtain ⟨v, k1, k2⟩ := h.che i hi'
      refine ⟨v, k1, ?_⟩
      subst q3
      exact k2
    · intro f' hf'
      obtain ⟨i, k1, k2, k3, k4⟩ := hmade f' hf'
      have := h.cs0.fil i k1 k2
      rw [k3, k4] at this; exact this
    · exact fun f f' g hf hf' => h.cs0.inj f f' g (hmem f hf) (hmem f' hf')
  refine ⟨rho L M, fun m => F (rho M L m), Foot b2 (D.ren (rho L M)) v1 v2 vc vals VB, ⟨_, _, _, _, _, hv, fun _ h => h⟩, fun k hk => ⟨?_, hv.lt hk⟩, h.chg, fun f hf => by simp only [hback f hf], fun f f' hf hf' e => by rw [← hback f hf, ← hback f' hf', e]⟩
  cases hk using Foot.elim with
  | blk => exact h.nb
  | dir e => exact h.nv1 _ e
  | safe e => exact h.nv2 _ e
  | chg e => exact h.nvc _ e
  | che hm e => exact h.nvs _ hm _ e
  | fil hf => exact h.cs0.nomade _ (hmem _ hf)
  | byt hf e => exact h.cs0.nobyt _ (hmem _ hf) _ e
/-- The new disk and the closure's two boxes. -/
theorem copy_init (w : World) (n : DN) (F : Nat → FC) (VB : Nat → Value) (W : World) (hW : W = (((w.alloc (.cells #[.slice none 0 0, .slice none 0 0, .slice none 0 0, .int .i64 n.room, .int .i64 n.calls, .int .i64 n.cut, .int .i64 n.fail, .int .i64 n.part, .int .i64 n.refused, .int .i64 n.fulls, .bool n.dead] 45)).alloc (.cells #[.slice none 0 0] 58)).alloc (.cells #[.slice none 0 0] 58)).drew) :
    CS w.heap.size W (w.heap.size + 1) (w.heap.size + 2) F [] [] (.slice none 0 0) (.slice none 0 0) VB ∧ DBlk W w.heap.size (.slice none 0 0) (.slice none 0 0) (.slice none 0 0) n ∧ Chg (fun _ => False) w W := by
  subst hW
  refine ⟨⟨?_, ?_, by omega, World.ownsRow_nil _ _ _ _, World.ownsRow_nil _ _ _ _, by simp [Value.ownBlock], by simp, by simp, by simp, by simp, by simp, by omega, by omega, by simp [Value.ownBlock], by simp [Value.ownBlock], by simp, by simp⟩, ?_, (((Chg.refl _ w).alloc _).alloc _).alloc _ |>.drew⟩
  · show ((((w.alloc _).alloc _).alloc _).heap[w.heap.size + 1]?) = _
    rw [Below.heap_alloc _ _ _ (by simp)]
    have := heap_alloc_new (w.alloc (.cells #[.slice none 0 0, .slice none 0 0, .slice none 0 0, .int .i64 n.room, .int .i64 n.calls, .int .i64 n.cut, .int .i64 n.fail, .int .i64 n.part, .int .i64 n.refused, .int .i64 n.fulls, .bool n.dead] 45)) (.cells #[.slice none 0 0] 58)
    rw [World.size_alloc] at this; exact this
  · show ((((w.alloc _).alloc _).alloc _).heap[w.heap.size + 2]?) = _
    have := heap_alloc_new ((w.alloc (.cells #[.slice none 0 0, .slice none 0 0, .slice none 0 0, .int .i64 n.room, .int .i64 n.calls, .int .i64 n.cut, .int .i64 n.fail, .int .i64 n.part, .int .i64 n.refused, .int .i64 n.fulls, .bool n.dead] 45)).alloc (.cells #[.slice none 0 0] 58)) (.cells #[.slice none 0 0] 58)
    rw [World.size_alloc, World.size_alloc] at this; exact this
  · show ((((w.alloc _).alloc _).alloc _).heap[w.heap.size]?) = _
    rw [Below.heap_alloc _ _ _ (by simp; omega), Below.heap_alloc _ _ _ (by simp)]
    exact heap_alloc_new _ _
/-- The directory and what is safe of it are copied. -/
theorem copy_start {w W w2 w3 : World} {bo bm : Nat} {D : DS} {F : Nat → FC} {vo vm v1 v2 vo2 vm2 : Value} {VB0 VB1 VB2 : Nat → Value} {L M L2 M2 : List Nat} {e1 e2 : List Ent} (hcs : CS w.heap.size W bo bm F [] [] (.slice none 0 0) (.slice none 0 0) VB0) (hb : DBlk W w.heap.size (.slice none 0 0) (.slice none 0 0) (.slice none 0 0) D.n) (hc : Chg (fun _ => False) w W)
    (h1 : OR1 w.heap.size W bo bm F [] [] (.slice none 0 0) (.slice none 0 0) VB0 D.dir D.dir.length D.dir.length v1 w2 L M vo vm VB1 e1)
    (h2 : OR1 w.heap.size w2 bo bm F L M vo vm VB1 D.safe D.safe.length D.safe.length v2 w3 L2 M2 vo2 vm2 VB2 e2) :
    DBlk w3 w.heap.size (.slice none 0 0) (.slice none 0 0) (.slice none 0 0) D.n ∧ CR w.heap.size w ((w3.setCell ⟨w.heap.size, 0, none⟩ v1).setCell ⟨w.heap.size, 1, none⟩ v2) w.heap.size bo bm D F 0 L2 M2 vo2 vm2 v1 v2 (.slice none 0 0) VB2 [] e1 e2 [] := by
  have cs1 := h1.cs
  have c2 := h1.chgW hc hcs
  have c3 := h2.chgW c2 cs1
  have hb2 : DBlk w2 w.heap.size (.slice none 0 0) (.slice none 0 0) (.slice none 0 0) D.n := (h1.chg.block _ hb.lt (hcs.far hb (.inr (.inr rfl)))).trans hb
  have hb3 : DBlk w3 w.heap.size (.slice none 0 0) (.slice none 0 0) (.slice none 0 0) D.n := (h2.chg.block _ hb2.lt (cs1.far hb2 (.inr (.inr rfl)))).trans hb2
  refine ⟨hb3, ?_⟩
  have hb4 := (hb3.s0 v1).s1 v2
  have k34 : Chg (One w.heap.size) w3 ((w3.setCell ⟨w.heap.size, 0, none⟩ v1).setCell ⟨w.heap.size, 1, none⟩ v2) := ((Chg.refl (One w.heap.size) w3).setAt rfl 0 _).setAt rfl 1 _
  generalize hW4 : (w3.setCell ⟨w.heap.size, 0, none⟩ v1).setCell ⟨w.heap.size, 1, none⟩ v2 = W4 at hb4 k34 ⊢
  have k34' : ∀ (k : Nat) (c : Array Value) (e : Nat), w3.heap[k]? = some (Obj.cells c e (0, 0)) → e ≠ 45 → W4.heap[k]? = w3.heap[k]? := fun k c e hk he =>
    k34.block k (lt_of_block hk) (fun e2 => elem_ne hk hb3 he e2)
  have d1 : EntSl w3 v1 e1 := ownsRow_same h1.ent fun g hg => by
    obtain ⟨c, hh⟩ := ownsRow_elem h1.ent hg
    exact h2.chg.block g (lt_of_block hh) (cs1.far hh (.inl rfl))
  have sz := hc.size
  have sz2 := h1.chg.size
  have hren : Ren L2 M2 D.dir e1 := by
    obtain ⟨o, q1, _⟩ := h2.pre
    obtain ⟨o2, q2, _⟩ := h2.prm
    have := h1.ren
    rw [List.take_length] at this
    rw [q1, q2]; exact this.mono
  refine ⟨?_, hb4, ?_, ?_, hren, ?_, World.ownsRow_nil _ _ _ _, rfl, by simp, by simp, ?_, ?_, ?_, Nat.le_refl _, ?_, ?_, by simp [Value.ownBlock], by simp⟩
  · refine h2.cs.frame (fun k hk => ?_) (fun k hk => ?_)
    · obtain ⟨c, e, q1, q2, q3, q4⟩ := h2.cs.elem2 (.inl hk)
      exact k34' _ _ _ q1 q4
    · obtain ⟨c, e, q1, q2, q3, q4⟩ := h2.cs.elem2 (.inr hk)
      exact k34' _ _ _ q1 q4
  · exact ownsRow_same d1 fun g hg => by
      obtain ⟨c, hh⟩ := ownsRow_elem d1 hg; exact k34' _ _ _ hh (by decide)
  · exact ownsRow_same h2.ent fun g hg => by
      obtain ⟨c, hh⟩ := ownsRow_elem h2.ent hg; exact k34' _ _ _ hh (by decide)
  · have := h2.ren
    rw [List.take_length] at this; exact this
  · obtain ⟨o, q1, q2, _⟩ := h1.pre
    obtain ⟨o2, q3, q4, _⟩ := h2.pre
    rw [q3, q1]; simp; omega
  · intro f hf
    obtain ⟨o, q1, _, q2⟩ := h1.pre
    obtain ⟨o2, q3, _, q4⟩ := h2.pre
    rw [q3, q1] at hf
    rcases List.mem_append.1 hf with hf | hf
    · simp at hf; exact .inl (q2 f hf)
    · exact .inr (.inl (q4 f hf))
  · exact c3.trans k34 (fun x hx hlt => by have : x = w.heap.size := hx; omega)
  · intro g hg; have := h1.fresh g hg; omega
  · intro g hg; have := h2.fresh g hg; omega

set_option maxRecDepth 100000 in
set_option maxHeartbeats 4000000 in
theorem copy_any (w : World) (b : Nat) (D : DS) (F : Nat → FC) (Ft : Nat → Prop) (h : Rep w b D F Ft) (hs : D.dir.length + D.safe.length + sumLen D.changes < 1099511627776) (hs2 : D.changes.length < 1099511627776) (hF : ∀ f, D.ids f → (F f).1.length ≤ 1099511627776) :
    Calls Try.prog 11 #[.pointer (some ⟨b, 0, none⟩)] w fun e w' => ∃ b2 r F2 Ft2, e = .returned (.pointer (some ⟨b2, 0, none⟩)) ∧ Rep w' b2 (D.ren r) F2 Ft2 ∧ (∀ k, Ft2 k → w.heap.size ≤ k ∧ k < w'.heap.size) ∧ Chg (fun _ => False) w w' ∧
      (∀ f, D.ids f → F2 (r f) = F f) ∧ ∀ f f', D.ids f → D.ids f' → r f = r f' → f = f' := by
  obtain ⟨vd, vs, vc, vals, VB, hr, hft⟩ := h
  have HR := hide hr
  have HFF := hide hF
  have c0 := hr.blk.c0
  have c1 := hr.blk.c1
  have c2 := hr.blk.c2
  have c3 := hr.blk.c3
  have c4 := hr.blk.c4
  have c5 := hr.blk.c5
  have c6 := hr.blk.c6
  have c7 := hr.blk.c7
  have c8 := hr.blk.c8
  have c9 := hr.blk.c9
  have c10 := hr.blk.c10
  obtain ⟨ac, pc, rfl, hc1, hc2, hcsome, hcnone, hcform⟩ := ownsRow_form hr.chg
  unfold maxLen at hc2
  have HSome := hide hcsome
  have CA : Hid (∀ (vl : Value) (es : List Ent) (W : World) (L M : List Nat) (vo vm : Value) (VB1 : Nat → Value), EntSl w vl es → (∀ f, inEnts f es → D.ids f) → es.length < 1099511627776 → Chg (fun _ => False) w W → CS w.heap.size W (w.heap.size + 1) (w.heap.size + 2) F L M vo vm VB1 → L.length < 1099511627776 →
      Calls Try.prog 25 #[vl, .pointer (some ⟨w.heap.size + 1, 0, none⟩), .pointer (some ⟨w.heap.size + 2, 0, none⟩)] W fun e w' => ∃ v L2 M2 vo2 vm2 VB2 es2, e = .returned v ∧ OR1 w.heap.size W (w.heap.size + 1) (w.heap.size + 2) F L M vo vm VB1 es es.length es.length v w' L2 M2 vo2 vm2 VB2 es2) :=
    fun vl es W L M vo vm VB1 h1 h2 h3 h4 h5 h6 => other_copy HR.out h4 h5 h1 h2 HFF.out ⟨h3, h6⟩
  have HC : Hid (∀ W, Chg (fun _ => False) w W → W.cell? ⟨b, 0, none⟩ = some vd ∧ W.cell? ⟨b, 1, none⟩ = some vs) := fun W hc =>
    ⟨(World.cell?_of_block (hc.block b HR.out.blk.lt (fun h => h))).trans HR.out.blk.c0, (World.cell?_of_block (hc.block b HR.out.blk.lt (fun h => h))).trans HR.out.blk.c1⟩
  have hbne : w.heap.size ≠ b := by have := HR.out.blk.lt; omega
  clear hr hft hF hcsome hcnone hcform
  go_enter Try.func11, Try.ntmps11
  go_wp2
  refine wp_region_still_tail 33 (by kernel_rfl) (by kernel_rfl) ?_
  simp only [World.drew_eq, List.take_succ_cons, List.take_zero, List.drop_succ_cons, List.drop_zero]
  repeat still_step
  refine wpStill_nil ?_
  go_wp2
  generalize hW1 : (((w.alloc (.cells #[.slice none 0 0, .slice none 0 0, .slice none 0 0, .int .i64 D.n.room, .int .i64 D.n.calls, .int .i64 D.n.cut, .int .i64 D.n.fail, .int .i64 D.n.part, .int .i64 D.n.refused, .int .i64 D.n.fulls, .bool D.n.dead] 45)).alloc (.cells #[.slice none 0 0] 58)).alloc (.cells #[.slice none 0 0] 58)).drew = W1
  obtain ⟨cs1, hb1, hc1W⟩ := copy_init w D.n F VB W1 hW1.symm
  have HB1 := hide hb1
  have HCS1 := hide cs1
  have HCW1 := hide hc1W
  clear hW1 cs1 hb1 hc1W c0 c1 c3 c4 c5 c6 c7 c8 c9 c10
  refine wp_region_sch (fun w' => w'.cell? ⟨b, 0, none⟩ = some vd ∧ w'.cell? ⟨b, 1, none⟩ = some vs) 17
    [(0, true), (1, true), (2, true), (3, true), (4, true), (5, true), (6, true), (8, true), (9, true), (10, true), (11, true), (12, true), (7, false), (13, false), (14, true), (15, true), (16, false)] (by kernel_rfl) (by kernel_rfl) (fun _ _ _ _ _ h => h) (HC.out _ HCW1.out.drew) ?_
  iterate 12 (refine wpSch_take (v := ?_) rfl (by rfl) ?_ ?_; rotate_left; (· (intro w' hS; (try dsimp only at hS); go_simp; try with_reducible rfl)); (try simp only [Act.put, List.setIfInBounds_toArray, List.set_cons_zero, List.set_cons_succ, List.getElem_toArray, List.getElem_cons_zero, List.getElem_cons_succ]))
  refine wpSch_do rfl (by rfl) (fun K hK => ?_)
  go_simp
  refine (CA.out vd D.dir _ _ _ _ _ _ HR.out.dir (fun f hf => .inl hf) (by omega) HCW1.out.drew (HCS1.out.chg (Chg.refl (fun _ => False) W1).drew (fun _ _ h => h) (fun _ _ h => h)) (by simp)).mono ?_
  rintro e w2 ⟨v1, L, M, vo, vm, VB2, e1, rfl, ho1⟩
  obtain ⟨a1, k1, rfl, -⟩ := EntSl.form ho1.ent
  have HO1 := hide ho1
  have HC2 : Hid (Chg (fun _ => False) w w2) := ho1.chgW HCW1.out.drew (HCS1.out.chg (Chg.refl (fun _ => False) W1).drew (fun _ _ h => h) (fun _ _ h => h))
  have hL : L.length ≤ D.dir.length := by
    obtain ⟨o, q1, q2, _⟩ := ho1.pre
    rw [q1]; simpa using q2
  clear ho1
  refine hK _ _ (HC.out _ HC2.out) (fun hS => ?_)
  clear hK K hS
  (try simp only [Act.put, List.setIfInBounds_toArray, List.set_cons_zero, List.set_cons_succ, List.getElem_toArray, List.getElem_cons_zero, List.getElem_cons_succ])
  refine wpSch_do rfl (by rfl) (fun K hK => ?_)
  go_simp
  refine (CA.out vs D.safe _ _ _ _ _ _ HR.out.safe (fun f hf => .inr (.inl hf)) (by omega) HC2.out HO1.out.cs (by omega)).mono ?_
  rintro e w3 ⟨v2, L2, M2, vo2, vm2, VB3, e2, rfl, ho2⟩
  obtain ⟨a2, k2, rfl, -⟩ := EntSl.form ho2.ent
  have HO2 := hide ho2
  have HC3 : Hid (Chg (fun _ => False) w w3) := ho2.chgW HC2.out HO1.out.cs
  have hst := copy_start (HCS1.out.chg (Chg.refl (fun _ => False) W1).drew (fun _ _ h => h) (fun _ _ h => h)) ((HB1.out : DBlk W1.drew _ _ _ _ _)) HCW1.out.drew HO1.out ho2
  have z0 := hst.1.c0
  have z1 := hst.1.c1
  have zf := hst.1.fz
  have HST := hide hst.2
  clear ho2 hst
  refine hK _ _ (HC.out _ HC3.out) (fun hS => ?_)
  obtain ⟨s0, s1⟩ := hS
  clear hK K
  (try simp only [Act.put, List.setIfInBounds_toArray, List.set_cons_zero, List.set_cons_succ, List.getElem_toArray, List.getElem_cons_zero, List.getElem_cons_succ])
  iterate 2 (refine wpSch_take (v := ?_) rfl (by rfl) ?_ ?_; rotate_left; (· (intro w' hS; (try dsimp only at hS); go_simp; try with_reducible rfl)); (try simp only [Act.put, List.setIfInBounds_toArray, List.set_cons_zero, List.set_cons_succ, List.getElem_toArray, List.getElem_cons_zero, List.getElem_cons_succ]))
  refine wpSch_do rfl (by rfl) (fun K hK => ?_)
  go_simp
  refine hK _ _ ?_ (fun hS => ?_)
  · simp [World.cell?_setCell_far, hbne, s0, s1]
  clear hK K hS s0 s1
  (try simp only [Act.put, List.setIfInBounds_toArray, List.set_cons_zero, List.set_cons_succ, List.getElem_toArray, List.getElem_cons_zero, List.getElem_cons_succ])
  have c2b : w3.cell? ⟨b, 2, none⟩ = some (.slice ac D.changes.length pc) := (World.cell?_of_block (HC3.out.block b HR.out.blk.lt (fun h => h))).trans c2
  refine wpSch_end ?_
  simp only [List.drop_succ_cons, List.drop_zero]
  go_wp2
  generalize hW4 : (w3.setCell ⟨w.heap.size, 0, none⟩ (.slice a1 e1.length k1)).setCell ⟨w.heap.size, 1, none⟩ (.slice a2 e2.length k2) = W4 at HST ⊢
  clear hW4 z0 z1 zf c2b c2
  go_loopw [67] (fun iv wr => ∃ i : Nat, i ≤ D.changes.length ∧ iv = .int .i64 i ∧ Hid (∃ L M vo vm vcn VB vals' cs, CR w.heap.size w wr w.heap.size (w.heap.size + 1) (w.heap.size + 2) D F i L M vo vm (.slice a1 e1.length k1) (.slice a2 e2.length k2) vcn VB vals' e1 e2 cs)) (fun iv _ => D.changes.length - (intOf iv).toNat)
  case atStart => exact ⟨0, Nat.zero_le _, rfl, _, _, _, _, _, _, _, _, HST.out⟩
  case round =>
    obtain ⟨i, hi, rfl, hcr⟩ := hrel
    clear HST
    by_cases hli : i < D.changes.length
    · obtain ⟨L3, M3, vo3, vm3, vcn, VB4, vals', cs, k0⟩ := hcr.out
      have K0 := hide k0
      obtain ⟨gc, rfl⟩ := HSome.out (by omega)
      obtain ⟨vk, hvk, hek⟩ := HR.out.che i hli
      have hgc := ownsRow_lt HR.out.chg (g := gc) rfl
      have m1 : wr.cell? ⟨gc, i, none⟩ = some vk := (World.cell?_of_block (k0.chg.block gc hgc (fun h => h))).trans (ownsRow_cell HR.out.chg (g := gc) rfl hvk)
      obtain ⟨ak, pk, rfl, hk1, hk2, -⟩ := EntSl.form hek
      have HEK := hide hek
      obtain ⟨es, hes⟩ : ∃ es, D.changes[i]'hli = es := ⟨_, rfl⟩
      have hesl : es.length < 1099511627776 := by have := sumLen_mem D.changes i hli; rw [hes] at this; omega
      have hL3 : L3.length < 1099511627776 := by
        have := k0.cnt
        have := sumLen_le D.changes i
        omega
      rw [hes] at HEK
      have m2 := k0.blk.c2
      have mf := k0.blk.fz
      have HES := hide hes
      have hids : Hid (∀ f, inEnts f es → D.ids f) := fun f hf => .inr (.inr ⟨_, List.getElem_mem hli, hes ▸ hf⟩)
      have hi0 : (0 : Int) ≤ (i : Int) := Int.natCast_nonneg _
      have hi1 : (i : Int) < (D.changes.length : Int) := by omega
      rw [hes] at m1
      obtain ⟨p0, hp, hp0, hp1, hp2⟩ := info_parts Try.infoChange
      clear hek hvk hk1 hk2 k0 hcr hes
      have hsz : w.heap.size < wr.heap.size := K0.out.blk.lt
      have hne2 : wr.heap.size ≠ w.heap.size := by omega
      have csr : Hid (CS w.heap.size ((wr.alloc (.cells #[.slice ak es.length pk] 47)).drew) (w.heap.size + 1) (w.heap.size + 2) F L3 M3 vo3 vm3 VB4) := K0.out.cs0.chg ((Chg.refl (fun _ => False) wr).alloc (.cells #[.slice ak es.length pk] 47)).drew (fun _ _ h => h) (fun _ _ h => h)
      have cwr : Hid (Chg (fun _ => False) w ((wr.alloc (.cells #[.slice ak es.length pk] 47)).drew)) := (K0.out.chg.alloc (.cells #[.slice ak es.length pk] 47)).drew
      have nbx := heap_alloc_new wr (.cells #[.slice ak es.length pk] 47)
      have n0 : (wr.alloc (.cells #[.slice ak es.length pk] 47)).cell? ⟨wr.heap.size, 0, none⟩ = some (.slice ak es.length pk) := by unfold World.cell?; rw [nbx]; rfl
      have n1 : (wr.alloc (.cells #[.slice ak es.length pk] 47)).cell? ⟨w.heap.size, 2, none⟩ = some vcn := (K0.out.blk.alloc (.cells #[.slice ak es.length pk] 47)).c2
      have NB := hide nbx
      clear nbx
      go_wp2
      refine wp_region_sch (fun w' => w'.cell? ⟨w.heap.size, 2, none⟩ = some vcn ∧ w'.cell? ⟨wr.heap.size, 0, none⟩ = some (.slice ak es.length pk)) 12
        [(0, true), (1, true), (2, true), (3, true), (4, true), (5, true), (6, true), (7, true), (8, false), (9, true), (10, false), (11, false)] (by kernel_rfl) (by kernel_rfl) (fun _ _ _ _ _ h => h) ⟨n1, n0⟩ ?_
      iterate 8 (refine wpSch_take (v := ?_) rfl (by rfl) ?_ ?_; rotate_left; (· (intro w' hS; (try dsimp only at hS); go_simp; try with_reducible rfl)); (try simp only [Act.put, List.setIfInBounds_toArray, List.set_cons_zero, List.set_cons_succ, List.getElem_toArray, List.getElem_cons_zero, List.getElem_cons_succ]))
      refine wpSch_do rfl (by rfl) (fun K hK => ?_)
      go_simp
      refine (CA.out _ es _ _ _ _ _ _ HEK.out hids.out hesl cwr.out csr.out hL3).mono ?_
      rintro e w5 ⟨v5, L5, M5, vo5, vm5, VB5, es5, rfl, ho5⟩
      obtain ⟨a5, k5, rfl, -⟩ := EntSl.form ho5.ent
      have HO5 := hide ho5
      have hb5 : DBlk w5 w.heap.size (.slice a1 e1.length k1) (.slice a2 e2.length k2) vcn D.n :=
        (ho5.chg.block _ (by simp; omega) (csr.out.far (K0.out.blk.alloc (.cells #[.slice ak es.length pk] 47)) (.inr (.inr rfl)))).trans (K0.out.blk.alloc (.cells #[.slice ak es.length pk] 47))
      have hbx : w5.heap[wr.heap.size]? = some (.cells #[.slice ak es.length pk] 47 (0, 0)) := (ho5.chg.block _ (by simp) (csr.out.far NB.out (.inr (.inl rfl)))).trans NB.out
      have hch5 : w5.ownsRow 0 47 1 vcn i vals' := ownsRow_same K0.out.ch fun g hg => by
        obtain ⟨c, hh⟩ := ownsRow_elem K0.out.ch hg
        have h1 : ((wr.alloc (.cells #[.slice ak es.length pk] 47)).drew).heap[g]? = some (Obj.cells c 47 (0, 0)) := (Below.heap_alloc _ _ _ (lt_of_block hh)).trans hh
        exact ((ho5.chg.block _ (lt_of_block h1) (csr.out.far h1 (.inr (.inl rfl)))).trans h1).trans hh.symm
      have p1 := hb5.c2
      have p2 : w5.cell? ⟨wr.heap.size, 0, none⟩ = some (.slice ak es.length pk) := by simp [World.cell?, hbx]
      have HB5 := hide hb5
      have HBX := hide hbx
      have HCH5 : Hid ((w5.alloc (.cells #[.slice a5 es5.length k5] 47)).ownsRow 0 47 1 vcn i vals') := ownsRow_same hch5 fun g hg => Below.heap_alloc _ _ _ (ownsRow_lt hch5 hg)
      have hgrow : Hid (∀ w6 v6 n xs, App (w5.alloc (.cells #[.slice a5 es5.length k5] 47)) w6 47 1 vcn v6 n xs → (w6.cell? ⟨w.heap.size, 2, none⟩ = some vcn ∧ w6.cell? ⟨wr.heap.size, 0, none⟩ = some (.slice ak es.length pk)) ∧ w6.frozen? ⟨w.heap.size, 2, none⟩ = false) := by
        intro w6 v6 n xs hA
        have x1 : w6.heap[w.heap.size]? = w5.heap[w.heap.size]? := (hA.grown.block _ (by have := HB5.out.lt; simp; omega) (fun e => by
          obtain ⟨c, hh⟩ := ownsRow_elem HCH5.out e.symm
          exact elem_ne hh (HB5.out.alloc _) (by decide) rfl)).trans (Below.heap_alloc _ _ _ HB5.out.lt)
        have x2 : w6.heap[wr.heap.size]? = w5.heap[wr.heap.size]? := (hA.grown.block _ (by have := lt_of_block HBX.out; simp; omega) (fun e => by
          have := ownsRow_lt K0.out.ch e.symm; omega)).trans (Below.heap_alloc _ _ _ (lt_of_block HBX.out))
        exact ⟨⟨(World.cell?_of_block x1).trans HB5.out.c2, by simp [World.cell?, x2, HBX.out]⟩, (HB5.out.same x1).fz 2⟩
      have hsr : Hid (Src Try.prog 1 43 (.slice (some ⟨w5.heap.size, 0, none⟩) 1 1) 1 [.slice a5 es5.length k5] (w5.alloc (.cells #[.slice a5 es5.length k5] 47))) :=
        Src.ofNew Try.underlying43 w5 #[.slice a5 es5.length k5] 47 w5.heap.size rfl 1 1 rfl (by simp [Value.oneCell'])
      have hbb : (i + 1) * 24 ≤ 140737488355328 := by omega
      clear ho5 hb5 hbx hch5
      refine hK _ _ ⟨p1, p2⟩ (fun hS => ?_)
      clear hK K hS
      (try simp only [Act.put, List.setIfInBounds_toArray, List.set_cons_zero, List.set_cons_succ, List.getElem_toArray, List.getElem_cons_zero, List.getElem_cons_succ])
      (refine wpSch_take (v := ?_) rfl (by rfl) ?_ ?_; rotate_left; (· (intro w' hS; (try dsimp only at hS); go_simp; try with_reducible rfl)); (try simp only [Act.put, List.setIfInBounds_toArray, List.set_cons_zero, List.set_cons_succ, List.getElem_toArray, List.getElem_cons_zero, List.getElem_cons_succ]))
      refine wpSch_do rfl (by rfl) (fun K hK => ?_)
      go_simp
      refine hK _ _ ?_ (fun hS => ?_)
      · simp [World.cell?_alloc_some, p1, p2]
      clear hK K hS p1 p2
      (try simp only [Act.put, List.setIfInBounds_toArray, List.set_cons_zero, List.set_cons_succ, List.getElem_toArray, List.getElem_cons_zero, List.getElem_cons_succ])
      refine wpSch_do rfl (by rfl) (fun K hK => ?_)
      refine wp_app (.tmp 75) (.tmp 81) 43 43 (by rfl) 47 p0 _ 1 24 Try.underlying43 hp hp0 hp1 hp2 rfl (by decide) vcn i vals' (by rfl) HCH5.out _ 1 _ (by rfl) hsr.out hbb ?_
      intro a6 k6 w6 hA
      obtain ⟨r1, r2⟩ := hgrow.out _ _ _ _ hA
      have HSTEP := hide (K0.out.step (nq := 0) hli HES.out (((Chg.refl (fun _ => False) wr).alloc (.cells #[.slice ak es.length pk] 47)).drew) HO5.out hA)
      refine hK _ _ r1 (fun hS => ?_)
      obtain ⟨r1, -⟩ := r1
      clear hK K hS hA
      (try simp only [Act.put, List.setIfInBounds_toArray, List.set_cons_zero, List.set_cons_succ, List.getElem_toArray, List.getElem_cons_zero, List.getElem_cons_succ])
      refine wpSch_end ?_
      simp only [List.drop_succ_cons, List.drop_zero]
      go_wp2
      go_roundw
      case rel => exact ⟨i + 1, by omega, by go_num, _, _, _, _, _, _, _, _, HSTEP.out⟩
      case measure => simp [intOf]; omega
    · obtain rfl : i = D.changes.length := by omega
      obtain ⟨L3, M3, vo3, vm3, vcn, VB4, vals', cs, k0⟩ := hcr.out
      obtain ⟨r, F2, Ft2, q1, q2, q3, q4, q5⟩ := k0.fin
      have Q1 := hide q1
      have Q2 := hide q2
      have Q4 := hide q4
      have Q5 := hide q5
      have Q3 := hide q3
      clear q1 q2 q3 q4 q5 k0 hcr
      go_wp2
      go_ret
      exact ⟨_, r, F2, Ft2, rfl, Q1.out, Q2.out, Q3.out, Q4.out, Q5.out⟩
end Go.Proofs.Ytodcnkbblippnaa
