/- Walk: Create. -/
import Derived.Test.YtodcnkbblippnaaDc
namespace Go.Proofs.Ytodcnkbblippnaa
open Go.RowKit
attribute [local go_sem ↓] Go.wp_at_zero Go.wp_at_succ

def upd (F : Nat → FC) (f0 : Nat) (c : FC) : Nat → FC := fun f => if f = f0 then c else F f
/-- What Create answers, and makes of a disk; f0: the new file. -/
def dCreate (D : DS) (name : ByteArray) (f0 : Nat) : Int × DS :=
  if name = ByteArray.empty ∨ fidx D.dir name ≥ 0 then (8, D) else
    ((bg D.n).2.1, if (bg D.n).1 then { D with dir := D.dir ++ [(name, f0)], changes := D.changes ++ [D.dir ++ [(name, f0)]], n := (bg D.n).2.2 } else { D with n := (bg D.n).2.2 })
theorem isEmpty_iff (s : ByteArray) : s.toList.isEmpty = true ↔ s = ByteArray.empty := by
  rw [List.isEmpty_iff, Lib.toList_data]
  exact ⟨fun h => WideShapes.bytes_inj (by rw [h]; rfl), fun h => by rw [h]; rfl⟩
/-- A file that is not there yet. -/
theorem RepV.updF {w : World} {b : Nat} {D : DS} {F : Nat → FC} {vd vs vc : Value} {vals : List Value} {VB : Nat → Value} (h : RepV w b D F vd vs vc vals VB) {f0 : Nat} (hf : w.heap.size ≤ f0) (c : FC) :
    RepV w b D (upd F f0 c) vd vs vc vals VB :=
  ⟨h.blk, h.dir, h.safe, h.chg, h.che, fun f hh => by
    have : f ≠ f0 := by have := h.lt (.fil hh); omega
    simp only [upd, this, if_false]; exact h.fil f hh, h.inj⟩
theorem Foot.n {b : Nat} {D : DS} {n : DN} {vd vs vc : Value} {vals : List Value} {VB : Nat → Value} {k : Nat} (h : Foot b { D with n := n } vd vs vc vals VB k) : Foot b D vd vs vc vals VB k := by
  cases h using Foot.elim with
  | blk => exact .blk
  | dir e => exact .dir e
  | safe e => exact .safe e
  | chg e => exact .chg e
  | che h e => exact .che h e
  | fil h => exact .fil h
  | byt h e => exact .byt h e
/-- Behind a begins that does nothing more. -/
theorem RepV.afterN {w w' : World} {b : Nat} {D : DS} {F : Nat → FC} {vd vs vc : Value} {vals : List Value} {VB : Nat → Value} {Ft : Nat → Prop} (h : RepV w b D F vd vs vc vals VB) (hft : ∀ k, Foot b D vd vs vc vals VB k → Ft k)
    {n : DN} (hb : DBlk w' b vd vs vc n) (hc : Chg (One b) w w') : After w Ft w' b { D with n := n } F :=
  After.mk' (hc.mono fun k _ hk => by cases hk; exact hft b .blk) (h.turn hb hc) fun k hk => .inl (hft k hk.n)

theorem App.chg {w w' : World} {e size n : Nat} {v v' : Value} {xs : List Value} (h : App w w' e size v v' n xs) {S : Nat → Prop} (hS : ∀ k, v.ownBlock = some k → S k) : Chg S w w' :=
  (Chg.refl S w).grown h.grown fun k hk _ => hS k hk
theorem FBlk.same {w w' : World} {f : Nat} {vb : Value} {safe : Int} (h : FBlk w f vb safe) (he : w'.heap[f]? = w.heap[f]?) : FBlk w' f vb safe := he.trans h
/-- All of create's memory, put together. -/
theorem create_fin {w w1 w2 w3 w5 : World} {b : Nat} {D : DS} {F : Nat → FC} {vd vs vc va2 vc' : Value} {vals : List Value} {VB : Nat → Value} {Ft : Nat → Prop} {n1 : DN} {a3 : Option Addr} {cap3 : Nat} {name : ByteArray}
    (hr : RepV w b D F vd vs vc vals VB) (hft : ∀ k, Foot b D vd vs vc vals VB k → Ft k) (hb1 : DBlk w1 b vd vs vc n1) (hc1 : Chg (One b) w w1)
    (hA : App w1 w2 50 2 (.slice none 0 0) va2 D.dir.length (entVals D.dir))
    (hB : App ((w2.alloc (.cells #[.slice none 0 0, .int .i64 0] 54)).alloc (.cells #[.string name, .pointer (some ⟨w2.heap.size, 0, none⟩)] 50)) w3 50 2 va2 (.slice a3 (D.dir.length + 1) cap3) (D.dir.length + 1) (entVals D.dir ++ [.string name, .pointer (some ⟨w2.heap.size, 0, none⟩)]))
    (hb5 : DBlk w5 b (.slice a3 (D.dir.length + 1) cap3) vs vc' n1) (hch : w5.ownsRow 0 47 1 vc' (D.changes.length + 1) (vals ++ [.slice a3 (D.dir.length + 1) cap3]))
    (hc5 : Chg (fun k => k = b ∨ vc.ownBlock = some k) w3 w5) (hv : ∀ g, vc'.ownBlock = some g → vc.ownBlock = some g ∨ w3.heap.size ≤ g) :
    w.heap.size ≤ w2.heap.size ∧ After w Ft w5 b { D with dir := D.dir ++ [(name, w2.heap.size)], changes := D.changes ++ [D.dir ++ [(name, w2.heap.size)]], n := n1 } (upd F w2.heap.size ([], 0)) := by
  have hva : ∀ k, va2.ownBlock = some k → k = w1.heap.size := by
    intro k hk
    rcases hA.at_ with h | h
    · rw [h] at hk; cases hk
    · rw [h] at hk; cases hk; rfl
  have s1 := hc1.size
  have s2 := hA.grown.size
  have s3 := hB.grown.size
  have s5 := hc5.size
  simp only [World.size_alloc] at s3
  -- from w1 to w3 nothing old is changed
  have c13 : Chg (fun _ => False) w1 w3 :=
    (((hA.chg (S := fun _ => False) (by intro k hk; simp [Value.ownBlock] at hk)).alloc (.cells #[.slice none 0 0, .int .i64 0] 54)).alloc (.cells #[.string name, .pointer (some ⟨w2.heap.size, 0, none⟩)] 50)).grown hB.grown
      (fun k hk hlt => by have := hva k hk; omega)
  have r1 := hr.turn hb1 hc1
  have r3 : RepV w3 b { D with n := n1 } F vd vs vc vals VB := r1.frame fun k hk => c13.block k (r1.lt hk) (fun h => h)
  -- the new file
  have f0 : FBlk ((w2.alloc (.cells #[.slice none 0 0, .int .i64 0] 54)).alloc (.cells #[.string name, .pointer (some ⟨w2.heap.size, 0, none⟩)] 50)) w2.heap.size (.slice none 0 0) 0 := by
    unfold FBlk
    rw [Below.heap_alloc _ _ _ (by simp)]
    exact heap_alloc_new _ _
  have f3 : FBlk w3 w2.heap.size (.slice none 0 0) 0 := f0.same (hB.grown.block _ (by simp; omega) (fun e => by have := ownsRow_lt hA.own e.symm; omega))
  have f5 : FBlk w5 w2.heap.size (.slice none 0 0) 0 := f3.same (hc5.block _ (by omega) (by
    rintro (e | e)
    · exact elem_ne f3 r3.blk (by decide) e
    · obtain ⟨c, hh⟩ := ownsRow_elem r3.chg e
      exact elem_ne f3 hh (by decide) rfl))
  have e3 : EntSl w3 (.slice a3 (D.dir.length + 1) cap3) (D.dir ++ [(name, w2.heap.size)]) := by
    have := hB.own
    unfold EntSl
    rw [entVals_append]
    simpa [entVals] using this
  have e5 : EntSl w5 (.slice a3 (D.dir.length + 1) cap3) (D.dir ++ [(name, w2.heap.size)]) := ownsRow_same e3 fun g hg => hc5.block g (ownsRow_lt e3 hg) (by
    obtain ⟨c, hh⟩ := ownsRow_elem e3 hg
    rintro (e | e)
    · exact elem_ne hh r3.blk (by decide) e
    · obtain ⟨c', hh'⟩ := ownsRow_elem r3.chg e
      exact elem_ne hh hh' (by decide) rfl)
  have hold : ∀ f, D.ids f → f ≠ w2.heap.size := fun f hf => by have := hr.lt (.fil hf); omega
  have r5 := r3.turnDir (F' := upd F w2.heap.size ([], 0)) (VB' := fun f => if f = w2.heap.size then .slice none 0 0 else VB f) (es := D.dir ++ [(name, w2.heap.size)]) hb5 hch e5 hc5 (fun k hk => hk)
    (fun f hf => by have := hold f hf; simp [upd, this])
    (fun f hf => by
      obtain ⟨e, he, rfl⟩ := hf
      rcases List.mem_append.1 he with he | he
      · exact .inl (.inl ⟨e, he, rfl⟩)
      · simp at he; subst he
        right
        simp only [upd, if_true]
        exact ⟨f5, World.ownsRow_nil _ _ _ _, rfl⟩)
  refine ⟨by omega, After.mk' ?_ r5 ?_⟩
  · have a : Chg Ft w w3 := (hc1.mono (S' := Ft) fun k _ hk => by cases hk; exact hft b .blk).trans c13 (fun x hx => hx.elim)
    refine a.trans hc5 ?_
    rintro x (e | e) _
    · subst e; exact hft x .blk
    · exact hft x (.chg e)
  · intro k hk
    cases hk using Foot.elim with
    | blk => exact .inl (hft b .blk)
    | dir e =>
      rcases hB.at_ with h | h
      · rw [h] at e; have := hva _ e; right; omega
      · rw [h] at e; cases e; right; simp; omega
    | safe e => exact .inl (hft k (.safe e))
    | chg e =>
      rcases hv k e with h | h
      · exact .inl (hft k (.chg h))
      · right; omega
    | che hm e =>
      rcases List.mem_append.1 hm with hm | hm
      · exact .inl (hft k (.che hm e))
      · simp at hm; subst hm
        rcases hB.at_ with h | h
        · rw [h] at e; have := hva _ e; right; omega
        · rw [h] at e; cases e; right; simp; omega
    | fil hf =>
      rcases hf with ⟨e, he, rfl⟩ | hf | ⟨c, hcm, hf⟩
      · rcases List.mem_append.1 he with he | he
        · exact .inl (hft _ (.fil (.inl ⟨e, he, rfl⟩)))
        · simp at he; subst he; right; simp; omega
      · exact .inl (hft _ (.fil (.inr (.inl hf))))
      · rcases List.mem_append.1 hcm with hcm | hcm
        · exact .inl (hft _ (.fil (.inr (.inr ⟨c, hcm, hf⟩))))
        · simp at hcm; subst hcm
          obtain ⟨e, he, rfl⟩ := hf
          rcases List.mem_append.1 he with he | he
          · exact .inl (hft _ (.fil (.inl ⟨e, he, rfl⟩)))
          · simp at he; subst he; right; simp; omega
    | byt hf e =>
      rename_i f
      by_cases hx : f = w2.heap.size
      · simp [hx, Value.ownBlock] at e
      · simp only [hx, if_false] at e
        have hf' : D.ids f := by
          rcases hf with ⟨en, he, rfl⟩ | hf | ⟨c, hcm, hf⟩
          · rcases List.mem_append.1 he with he | he
            · exact .inl ⟨en, he, rfl⟩
            · simp at he; subst he; exact absurd rfl hx
          · exact .inr (.inl hf)
          · rcases List.mem_append.1 hcm with hcm | hcm
            · exact .inr (.inr ⟨c, hcm, hf⟩)
            · simp at hcm; subst hcm
              obtain ⟨en, he, rfl⟩ := hf
              rcases List.mem_append.1 he with he | he
              · exact .inl ⟨en, he, rfl⟩
              · simp at he; subst he; exact absurd rfl hx
        exact .inl (hft _ (.byt hf' e))

theorem create_mid {w1 w2 w3 : World} {b : Nat} {D : DS} {F : Nat → FC} {vd vs vc va2 : Value} {vals : List Value} {VB : Nat → Value} {n1 : DN} {v3 : Value} {n2 : Nat} {xs : List Value} {o1 o2 : Obj}
    (hb1 : DBlk w1 b vd vs vc n1) (r1 : RepV w1 b { D with n := n1 } F vd vs vc vals VB)
    (hA : App w1 w2 50 2 (.slice none 0 0) va2 D.dir.length (entVals D.dir)) (hB : App ((w2.alloc o1).alloc o2) w3 50 2 va2 v3 n2 xs) :
    DBlk w3 b vd vs vc n1 ∧ w3.ownsRow 0 47 1 vc D.changes.length vals := by
  have hva : ∀ k, va2.ownBlock = some k → k = w1.heap.size := by
    intro k hk
    rcases hA.at_ with h | h
    · rw [h] at hk; cases hk
    · rw [h] at hk; cases hk; rfl
  have c13 : Chg (fun _ => False) w1 w3 :=
    (((hA.chg (S := fun _ => False) (by intro k hk; simp [Value.ownBlock] at hk)).alloc o1).alloc o2).grown hB.grown (fun k hk hlt => by have := hva k hk; omega)
  refine ⟨hb1.chg c13 (fun h => h), ownsRow_same r1.chg fun g hg => c13.block g (ownsRow_lt r1.chg hg) (fun h => h)⟩

set_option maxRecDepth 100000 in
set_option maxHeartbeats 1000000 in
theorem create_any (w : World) (b : Nat) (D : DS) (F : Nat → FC) (Ft : Nat → Prop) (h : Rep w b D F Ft) (name : ByteArray) (hs : D.dir.length < 1099511627776 ∧ D.changes.length < 1099511627776) :
    Calls Try.prog 9 #[.pointer (some ⟨b, 0, none⟩), .string name] w fun e w' => ∃ f0, w.heap.size ≤ f0 ∧ e = .returned (.int .i64 (dCreate D name f0).1) ∧ After w Ft w' b (dCreate D name f0).2 (upd F f0 ([], 0)) := by
  obtain ⟨vd, vs, vc, vals, VB, hr, hft⟩ := h
  obtain ⟨hs1, hs2⟩ := hs
  have hq : ∀ f0, w.heap.size ≤ f0 → (dCreate D name f0).2 = D → After w Ft w b (dCreate D name f0).2 (upd F f0 ([], 0)) := fun f0 hf e => by
    rw [e]; exact After.mk' (Chg.refl _ _) (hr.updF hf _) fun k hk => .inl (hft k hk)
  have Hq := hide hq
  clear hq
  have HR := hide hr
  have c0 := hr.blk.c0
  have hd := hide hr.dir
  have hbk := hide hr.blk
  obtain ⟨ad, cap, hvd, _⟩ := hr.dir.form
  have Hvd := hide hvd
  clear hr hvd
  by_cases hn : name.toList.isEmpty = true
  · have q : Hid (dCreate D name w.heap.size = (8, D)) := by unfold Hid dCreate; rw [if_pos (.inl ((isEmpty_iff _).1 hn))]
    go_enter Try.func9, Try.ntmps9
    go_wp2
    go_ret
    exact ⟨_, Nat.le_refl _, by rw [q.out]; rfl, Hq.out _ (Nat.le_refl _) (by rw [q.out])⟩
  · have hn' : name.toList.isEmpty = false := by simpa using hn
    have hne : Hid (name ≠ ByteArray.empty) := fun e => hn ((isEmpty_iff _).2 e)
    clear hn
    by_cases hx : (0 : Int) ≤ fidx D.dir name
    · have q : Hid (dCreate D name w.heap.size = (8, D)) := by unfold Hid dCreate; rw [if_pos (.inr hx)]
      go_enter Try.func9, Try.ntmps9
      go_wp2_with (go_at_call 22; refine (find_any _ _ _ _ hd.out).mono ?_; rintro e w' ⟨rfl, rfl⟩)
      go_ret
      exact ⟨_, Nat.le_refl _, by rw [q.out]; rfl, Hq.out _ (Nat.le_refl _) (by rw [q.out])⟩
    · have q : Hid (∀ f0, dCreate D name f0 = ((bg D.n).2.1, if (bg D.n).1 then { D with dir := D.dir ++ [(name, f0)], changes := D.changes ++ [D.dir ++ [(name, f0)]], n := (bg D.n).2.2 } else { D with n := (bg D.n).2.2 })) := by
        intro f0; unfold dCreate; rw [if_neg (by rintro (h | h); exact hne h; exact hx h)]
      have hx' : fidx D.dir name < 0 := by omega
      clear hx
      by_cases hdo : (bg D.n).1 = true
      · obtain ⟨i0, hi, hz0, hz1, hz2⟩ := info_parts Try.infoEntry
        have fin : Hid (∀ (w1 w2 w3 w5 : World) (va2 vc' : Value) (a3 : Option Addr) (cap3 : Nat), DBlk w1 b vd vs vc (bg D.n).2.2 → Chg (One b) w w1 → App w1 w2 50 2 (.slice none 0 0) va2 D.dir.length (entVals D.dir) →
            App ((w2.alloc (.cells #[.slice none 0 0, .int .i64 0] 54)).alloc (.cells #[.string name, .pointer (some ⟨w2.heap.size, 0, none⟩)] 50)) w3 50 2 va2 (.slice a3 (D.dir.length + 1) cap3) (D.dir.length + 1) (entVals D.dir ++ [.string name, .pointer (some ⟨w2.heap.size, 0, none⟩)]) →
            DBlk w5 b (.slice a3 (D.dir.length + 1) cap3) vs vc' (bg D.n).2.2 → w5.ownsRow 0 47 1 vc' (D.changes.length + 1) (vals ++ [.slice a3 (D.dir.length + 1) cap3]) → Chg (fun k => k = b ∨ vc.ownBlock = some k) w3 w5 → (∀ g, vc'.ownBlock = some g → vc.ownBlock = some g ∨ w3.heap.size ≤ g) →
            w.heap.size ≤ w2.heap.size ∧ After w Ft w5 b { D with dir := D.dir ++ [(name, w2.heap.size)], changes := D.changes ++ [D.dir ++ [(name, w2.heap.size)]], n := (bg D.n).2.2 } (upd F w2.heap.size ([], 0))) :=
          fun w1 w2 w3 w5 va2 vc' a3 cap3 h1 h2 h3 h4 h5 h6 h7 h8 => create_fin HR.out hft h1 h2 h3 h4 h5 h6 h7 h8
        have r1' : Hid (∀ w1, DBlk w1 b vd vs vc (bg D.n).2.2 → Chg (One b) w w1 → RepV w1 b { D with n := (bg D.n).2.2 } F vd vs vc vals VB) := fun w1 h1 h2 => HR.out.turn h1 h2
        go_enter Try.func9, Try.ntmps9
        go_wp2_with (first
          | (go_at_call 22; refine (find_any _ _ _ _ hd.out).mono ?_; rintro e w' ⟨rfl, rfl⟩)
          | (go_at_call 23; refine (begins_any _ _ _ _ _ _ hbk.out).mono ?_; rintro e w1 ⟨rfl, hb1, hc1⟩; have c01 := hb1.c0; have R1 := hide (r1'.out w1 hb1 hc1))
          | (at_builtin; refine wpList_app rfl (.const (.slice none 0 0)) (.tmp 28) 42 42 rfl 50 i0 _ 2 24 Try.underlying42 hi hz0 hz1 hz2 rfl (by decide) (.slice none 0 0) 0 [] (by rfl) (World.ownsRow_nil _ 0 50 2) vd D.dir.length (entVals D.dir) (by rfl) (Src.ofOwn Try.underlying42 R1.out.dir (entVals_oneCell _)) (by omega) ?_; intro a2 cap2 w2 hA; simp only [Nat.zero_add, List.nil_append] at hA; have hA2 := hide ((hA.own.alloc (.cells #[.slice none 0 0, .int .i64 0] 54)).alloc (.cells #[.string name, .pointer (some ⟨w2.heap.size, 0, none⟩)] 50)); have hsr := hide (Src.ofNew (size := 2) Try.underlying42 (w2.alloc (.cells #[.slice none 0 0, .int .i64 0] 54)) #[.string name, .pointer (some ⟨w2.heap.size, 0, none⟩)] 50 (w2.heap.size + 1) (by simp) 1 1 rfl (by simp [Value.oneCell'])))
          | (at_builtin; refine wpList_app rfl (.tmp 31) (.tmp 36) 42 42 rfl 50 i0 _ 2 24 Try.underlying42 hi hz0 hz1 hz2 rfl (by decide) _ D.dir.length (entVals D.dir) (by rfl) hA2.out _ 1 _ (by rfl) hsr.out (by omega) ?_; intro a3 cap3 w3 hB; have hm := hide (create_mid hb1 R1.out hA hB))
          | (go_at_call 24; refine (turned_any _ b vd vs vc _ _ _ _ _ _ hm.out.1 hm.out.2 hs2).mono ?_; rintro e w5 ⟨rfl, vc', k1, k2, k3, k4⟩))
        go_ret
        obtain ⟨g1, g2⟩ := fin.out w1 w2 w3 w5 _ vc' a3 cap3 hb1 hc1 hA hB k1 k2 k3 k4
        refine ⟨w2.heap.size, g1, by rw [q.out]; rfl, ?_⟩
        rw [q.out, hdo]
        exact g2
      · have hdo' : (bg D.n).1 = false := by simpa using hdo
        clear hdo
        go_enter Try.func9, Try.ntmps9
        go_wp2_with (first | (go_at_call 22; refine (find_any _ _ _ _ hd.out).mono ?_; rintro e w' ⟨rfl, rfl⟩) | (go_at_call 23; refine (begins_any _ _ _ _ _ _ hbk.out).mono ?_; rintro e w1 ⟨rfl, hb1, hc1⟩))
        go_ret
        refine ⟨w.heap.size, Nat.le_refl _, by rw [q.out]; rfl, ?_⟩
        rw [q.out, hdo']
        exact (HR.out.updF (Nat.le_refl _) _).afterN hft hb1 hc1
end Go.Proofs.Ytodcnkbblippnaa
