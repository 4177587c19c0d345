/- One law for every append of this program: onto a row of the program's own (or nil), of whatever stands behind it (a slice, nil, a string). No walk. -/
import Derived.Test.YtodcnkbblippnaaMem
import Derived.Deep.AppendSrc
import Derived.RegionTactic
namespace Go.Proofs.Ytodcnkbblippnaa
open Go.RowKit

/-- What an append leaves. -/
structure App (w w' : World) (e size : Nat) (v v' : Value) (n : Nat) (xs : List Value) : Prop where
  own : w'.ownsRow 0 e size v' n xs
  grown : w.grownBy w' v.ownBlock
  at_ : v'.ownBlock = v.ownBlock ∨ v'.ownBlock = some w.heap.size
  form : ∃ a cap, v' = .slice a n cap

theorem run_append_u {P : Program} (w : World) (t tx ty e : TypeId) (i : TypeInfo) (z : Value) (size bytes : Nat) (ht : P.underlying t = some (.slice e)) (hi : P.info? e = some i) (hz : i.zero = some z)
    (hsize : i.size = size) (hby : i.bytes = bytes) (hzs : z.cells.size = size) (hb0 : 0 < bytes)
    (v : Value) (n : Nat) (xs : List Value) (hown : w.ownsRow 0 e size v n xs)
    (x : Value) (m : Nat) (news : List Value) (hs : Src P size tx x m news w) (hbytes : (n + m) * bytes ≤ 140737488355328) :
    ∃ v' w', (Builtin.append_ #[t, tx] ty #[v, x]).run P w = .ok v' w' ∧ App w w' e size v v' (n + m) (xs ++ news) := by
  subst hsize
  subst hby
  have hnm : n + m ≤ 140737488355328 := Nat.le_trans (Nat.le_mul_of_pos_right _ hb0) hbytes
  have hlen : (xs ++ news).length = (n + m) * i.size := by rw [List.length_append, hown.1, hs.newsLen, Nat.add_mul]
  obtain ⟨a, cap, rfl, hnc, hcm, _, hnil, hform⟩ := ownsRow_form hown
  by_cases hroom : n + m ≤ cap
  · rcases hown.2 with ⟨h1, h2⟩ | ⟨g, cap', cur, h1, _, hg, _, _, hcs, htake⟩
    · cases h1
      obtain rfl : m = 0 := by omega
      have hn : news = [] := List.eq_nil_of_length_eq_zero (by simpa using hs.newsLen)
      subst hn
      have hx : xs = [] := List.eq_nil_of_length_eq_zero (by simpa using hown.1)
      subst hx
      refine ⟨.slice none 0 0, w, ?_, ⟨World.ownsRow_nil w 0 e i.size, ⟨rfl, rfl, rfl, Nat.le_refl _, fun _ _ _ => rfl⟩, .inl rfl, ⟨none, 0, rfl⟩⟩⟩
      rcases hs.kind with ⟨e', hk⟩ | hk <;> simp [Builtin.append_, run_underlying ht, run_underlying hk, sizeOf, typeInfo, hi, hs.len, hs.cells]
    · cases h1
      have hfit : n * i.size + news.length ≤ cur.size := by rw [hs.newsLen, hcs, ← Nat.add_mul]; exact Nat.mul_le_mul_right _ hroom
      have hst := run_storeCells_at P g (n * i.size) e news 0 cur w hg (by simpa using hfit) hs.one
      simp only [Nat.add_zero] at hst
      have hr : (Builtin.append_ #[t, tx] ty #[.slice (some ⟨g, 0, none⟩) n cap, x]).run P w = .ok (.slice (some ⟨g, 0, none⟩) (n + m) cap) (w.setRow g (cur.toList.take (n * i.size) ++ news ++ cur.toList.drop (n * i.size + news.length)).toArray) := by
        rcases hs.kind with ⟨e', hk⟩ | hk <;> simp [Builtin.append_, run_underlying ht, run_underlying hk, sizeOf, typeInfo, hi, hs.len, hroom, hs.cells, Addr.add_lit, hst]
      refine ⟨_, _, hr, ⟨⟨hlen, .inr ⟨g, cap, _, rfl, Nat.zero_le _, setRow_heap w g cur _ e _ hg, hroom, hcm, ?_, ?_⟩⟩, ⟨rfl, rfl, rfl, by simp, fun k _ hk => setRow_other w g k _ (fun e => hk (by simp [Value.ownBlock, e]))⟩, .inl rfl, ⟨_, _, rfl⟩⟩⟩
      · simp only [List.size_toArray, List.length_append, List.length_take, List.length_drop, Array.length_toList]
        omega
      · rw [htake, ← hlen]
        exact List.take_left
  · have hold : (Builtin.firstCells i.size n (.slice a n cap)).run P w.drew = .ok xs.toArray w.drew := by
      cases a with
      | none =>
        obtain ⟨rfl, _⟩ := hnil rfl
        have hx : xs = [] := List.eq_nil_of_length_eq_zero (by simpa using hown.1)
        subst hx
        exact run_firstCells_none w.drew i.size 0 0 cap
      | some ad =>
        obtain ⟨g, rfl⟩ := hform ad rfl
        exact run_firstCells_some w.drew i.size n _ n cap xs hown.1 (by simpa using hown.cells (g := g) rfl)
    have hr := run_append_grow_src (P := P) w t tx ty e i z ht hi hz a n cap xs hold x m news hs (by omega) (by omega) (growslice_fits (by omega) hbytes)
    have hge := grownCap_ge w (n + m) cap e
    have hgm : grownCap w (n + m) cap e ≤ maxLen := grownCap_le_maxLen w (n + m) cap e (by unfold maxLen; omega)
    refine ⟨_, _, hr, ⟨⟨hlen, .inr ⟨w.heap.size, _, _, rfl, Nat.zero_le _, heap_alloc_new w.drew _, hge, hgm, ?_, ?_⟩⟩, ⟨rfl, rfl, rfl, by simp, fun k hk _ => Below.heap_alloc w.drew _ k hk⟩, .inr rfl, ⟨_, _, rfl⟩⟩⟩
    · simp only [Array.size_append, List.size_toArray, size_zeroCells, hzs, hlen, ← Nat.add_mul]
      congr 1
      omega
    · simp only [Array.toList_append]
      rw [← hlen]
      exact List.take_left

section
variable {P : Program} {w : World}
/-- At the operation. -/
theorem wp_app {o : Oper} {a : Act} {K : Act → World → Prop} {Q : Exit → Act → World → Prop} (s x : Operand) (t tx : TypeId)
    (ho : o.op = .call { callee := .builtin .append, args := #[s, x], argTypes := #[t, tx] })
    (e : TypeId) (i : TypeInfo) (z : Value) (size bytes : Nat) (ht : P.underlying t = some (.slice e)) (hi : P.info? e = some i) (hz : i.zero = some z)
    (hsize : i.size = size) (hby : i.bytes = bytes) (hzs : z.cells.size = size) (hb0 : 0 < bytes)
    (v : Value) (n : Nat) (xs : List Value) (hv : a.eval s = v) (hown : w.ownsRow 0 e size v n xs)
    (sv : Value) (m : Nat) (news : List Value) (hx : a.eval x = sv) (hs : Src P size tx sv m news w) (hbytes : (n + m) * bytes ≤ 140737488355328)
    (h : ∀ b cap w', App w w' e size v (.slice b (n + m) cap) (n + m) (xs ++ news) → K (a.put o.dst (.slice b (n + m) cap)) w') : o.wp P a w K Q := by
  obtain ⟨v', w', hr, hA⟩ := run_append_u (P := P) w t tx o.type e i z size bytes ht hi hz hsize hby hzs hb0 v n xs hown sv m news hs hbytes
  obtain ⟨b, cap, rfl⟩ := hA.form
  unfold Oper.wp execOp
  simp only [ho, resolve, invoke, builtin, Sem.run_bind, Sem.run_pure, Result.andThen_ok, List.map_toArray, List.map_cons, List.map_nil, hv, hx, hr]
  exact h b cap w' hA
/-- In a plain region. -/
theorem wpList_app {ops : Array Oper} {rest : List Oper} {o : Oper} {a : Act} {Q : Exit → Act → World → Prop} (hgd : o.guard = none) (s x : Operand) (t tx : TypeId)
    (ho : o.op = .call { callee := .builtin .append, args := #[s, x], argTypes := #[t, tx] })
    (e : TypeId) (i : TypeInfo) (z : Value) (size bytes : Nat) (ht : P.underlying t = some (.slice e)) (hi : P.info? e = some i) (hz : i.zero = some z)
    (hsize : i.size = size) (hby : i.bytes = bytes) (hzs : z.cells.size = size) (hb0 : 0 < bytes)
    (v : Value) (n : Nat) (xs : List Value) (hv : a.eval s = v) (hown : w.ownsRow 0 e size v n xs)
    (sv : Value) (m : Nat) (news : List Value) (hx : a.eval x = sv) (hs : Src P size tx sv m news w) (hbytes : (n + m) * bytes ≤ 140737488355328)
    (h : ∀ b cap w', App w w' e size v (.slice b (n + m) cap) (n + m) (xs ++ news) → wpList P ops Q rest (a.put o.dst (.slice b (n + m) cap)) w') : wpList P ops Q (o :: rest) a w :=
  wpList_plain hgd fun _ hK => wp_app s x t tx ho e i z size bytes ht hi hz hsize hby hzs hb0 v n xs hv hown sv m news hx hs hbytes fun b cap w' hA => hK _ _ (h b cap w' hA)
/-- At a step of a region that draws. -/
theorem step_app {y : Nat → Option Bool} {o : Oper} {a : Act} {K : Act → World → Prop} {Q : Exit → Act → World → Prop} {E : Prop} (hgd : o.guard = none) (s x : Operand) (t tx : TypeId)
    (ho : o.op = .call { callee := .builtin .append, args := #[s, x], argTypes := #[t, tx] })
    (e : TypeId) (i : TypeInfo) (z : Value) (size bytes : Nat) (ht : P.underlying t = some (.slice e)) (hi : P.info? e = some i) (hz : i.zero = some z)
    (hsize : i.size = size) (hby : i.bytes = bytes) (hzs : z.cells.size = size) (hb0 : 0 < bytes)
    (v : Value) (n : Nat) (xs : List Value) (hv : a.eval s = v) (hown : w.ownsRow 0 e size v n xs)
    (sv : Value) (m : Nat) (news : List Value) (hx : a.eval x = sv) (hs : Src P size tx sv m news w) (hbytes : (n + m) * bytes ≤ 140737488355328)
    (h : ∀ b cap w', App w w' e size v (.slice b (n + m) cap) (n + m) (xs ++ news) → K (a.put o.dst (.slice b (n + m) cap)) w') :
    if Region.wanted o y = true then Oper.wp P o a w K Q else E := by
  have hw : Region.wanted o y = true := by simp [Region.wanted, hgd]
  rw [if_pos hw]
  exact wp_app s x t tx ho e i z size bytes ht hi hz hsize hby hzs hb0 v n xs hv hown sv m news hx hs hbytes h
/-- What is appended lies in a block that was laid just now. -/
theorem Src.ofBlock {size : Nat} {tx e' : TypeId} (hk : P.underlying tx = some (.slice e')) {B : Nat} {cs : Array Value} {t : TypeId} {fr : Nat × Nat} (hb : w.heap[B]? = some (.cells cs t fr)) (m c : Nat) (hl : cs.size = m * size)
    (h1 : ∀ u ∈ cs.toList, u.oneCell' = true) : Src P size tx (.slice (some ⟨B, 0, none⟩) m c) m cs.toList w :=
  Src.ofSlice w hk _ m c _ (by simpa using hl) (World.news_of_block hb) h1
/-- .. that was laid last. -/
theorem Src.ofNew {size : Nat} {tx e' : TypeId} (hk : P.underlying tx = some (.slice e')) (w : World) (cs : Array Value) (t B : Nat) (hB : w.heap.size = B) (m c : Nat) (hl : cs.size = m * size)
    (h1 : ∀ u ∈ cs.toList, u.oneCell' = true) : Src P size tx (.slice (some ⟨B, 0, none⟩) m c) m cs.toList (w.alloc (.cells cs t)) := by
  subst hB; exact Src.ofBlock hk (heap_alloc_new _ _) m c hl h1
/-- What is appended is a row that is owned. -/
theorem Src.ofOwn {size : Nat} {tx e' e : TypeId} (hk : P.underlying tx = some (.slice e')) {v : Value} {m : Nat} {news : List Value} (h : w.ownsRow 0 e size v m news) (h1 : ∀ u ∈ news, u.oneCell' = true) : Src P size tx v m news w := by
  obtain ⟨a, cap, rfl, _, _, _, hnil, hform⟩ := ownsRow_form h
  cases a with
  | none =>
    obtain ⟨rfl, rfl⟩ := hnil rfl
    have hx : news = [] := List.eq_nil_of_length_eq_zero (by simpa using h.1)
    subst hx
    exact Src.ofNil w hk 0
  | some ad =>
    obtain ⟨g, rfl⟩ := hform ad rfl
    exact Src.ofSlice w hk _ m cap news h.1 (h.cells rfl) h1
/-- .. or a part of one, from element k on. -/
theorem Src.ofPart {size : Nat} {tx e' e : TypeId} (hk : P.underlying tx = some (.slice e')) {g n cap : Nat} {xs : List Value} (h : w.ownsRow 0 e size (.slice (some ⟨g, 0, none⟩) n cap) n xs) (h1 : ∀ u ∈ xs, u.oneCell' = true) (k m c : Nat) (hkm : k + m ≤ n) :
    Src P size tx (.slice (some ((⟨g, 0, none⟩ : Addr).add (k * size))) m c) m ((xs.drop (k * size)).take (m * size)) w := by
  have hle : k * size + m * size ≤ n * size := by rw [← Nat.add_mul]; exact Nat.mul_le_mul_right _ hkm
  refine Src.ofSlice w hk _ m c _ ?_ ?_ ?_
  · rw [List.length_take, List.length_drop, h.1]; omega
  · intro j u hj
    rw [List.getElem?_take] at hj
    split at hj
    · rw [List.getElem?_drop] at hj
      have := ownsRow_cell h (g := g) rfl hj
      have hadd : ((⟨g, 0, none⟩ : Addr).add (k * size)).add j = ⟨g, k * size + j, none⟩ := by
        unfold Addr.add
        by_cases h0 : k * size = 0 <;> by_cases h1 : j = 0 <;> simp [h0, h1]
      rw [hadd]; exact this
    · cases hj
  · intro u hu
    exact h1 u (List.mem_of_mem_drop (List.mem_of_mem_take hu))
end
end Go.Proofs.Ytodcnkbblippnaa
