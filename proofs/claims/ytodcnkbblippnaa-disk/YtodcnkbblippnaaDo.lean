/- Walk: Crash itself. -/
import Derived.Test.YtodcnkbblippnaaDm
import Derived.Test.YtodcnkbblippnaaDh
import Derived.Test.YtodcnkbblippnaaDd
import Derived.Deep.RegionLaw
import Derived.StillTailTactics
import Derived.Deep.RegionHeld3
namespace Go.Proofs.Ytodcnkbblippnaa
open Go.RowKit
attribute [local go_sem ↓] Go.wp_at_zero Go.wp_at_succ

theorem crashFile_ok (c : FC) (t : Int) (B : Nat) (h : 0 ≤ c.2 ∧ c.2 ≤ c.1.length ∧ c.1.length ≤ B) : 0 ≤ (crashFile c t).2 ∧ (crashFile c t).2 ≤ (crashFile c t).1.length ∧ (crashFile c t).1.length ≤ B := by
  unfold crashFile
  simp only [List.length_take]
  omega
theorem crashK_ok (es : List Ent) (ts : List Int) (names : List ByteArray) (F : Nat → FC) (B : Nat) (P : Nat → Prop) (h : ∀ f, P f → 0 ≤ (F f).2 ∧ (F f).2 ≤ (F f).1.length ∧ (F f).1.length ≤ B) (k : Nat) :
    ∀ f, P f → 0 ≤ (crashK es ts names F k f).2 ∧ (crashK es ts names F k f).2 ≤ (crashK es ts names F k f).1.length ∧ (crashK es ts names F k f).1.length ≤ B := by
  induction k with
  | zero => exact h
  | succ k ih =>
    intro f hf
    cases h1 : names[k]? with
    | none => simp only [crashK, h1]; exact ih f hf
    | some name =>
      cases h2 : lookup es name with
      | none => simp only [crashK, h1, h2]; exact ih f hf
      | some f0 =>
        simp only [crashK, h1, h2]
        by_cases he : f = f0
        · subst he; simp only [upd, if_true]; exact crashFile_ok _ _ B (ih f hf)
        · simp only [upd, he, if_false]; exact ih f hf
theorem crashK_succ (es : List Ent) (ts : List Int) (names : List ByteArray) (F : Nat → FC) (k : Nat) (name : ByteArray) (f : Nat) (h1 : names[k]? = some name) (h2 : lookup es name = some f) :
    crashK es ts names F (k + 1) = upd (crashK es ts names F k) f (crashFile (crashK es ts names F k f) (ts.getD k 0)) := by
  simp only [crashK, h1, h2]
/-- What one round of Crash leaves. -/
theorem crash_round {w wr : World} {b : Nat} {D : DS} {es : List Ent} {G : Nat → FC} {Ft0 : Nat → Prop} {t : Int} {vd vs vc : Value} {vals : List Value} {VB : Nat → Value} (hft : ∀ k, Foot b { D with dir := es } vd vs vc vals VB k → Ft0 k)
    (hr : RepV wr b { D with dir := es } G vd vs vc vals VB) (hc : Chg Ft0 w wr) {k : Nat} (hk : k < es.length) {a' : Option Addr} {cap' : Nat} (hv : VB (es[k]'hk).2 = .slice a' (G (es[k]'hk).2).1.length cap')
    (hG : 0 ≤ (G (es[k]'hk).2).2 ∧ (G (es[k]'hk).2).2 ≤ (G (es[k]'hk).2).1.length) (m : Nat) (hm : m = (G (es[k]'hk).2).2.toNat + pickN t ((G (es[k]'hk).2).1.length - (G (es[k]'hk).2).2.toNat)) (w' : World)
    (hw : w' = (wr.setCell ⟨(es[k]'hk).2, 0, none⟩ (.slice a' m cap')).setCell ⟨(es[k]'hk).2, 1, none⟩ (.int .i64 m)) :
    Rep w' b { D with dir := es } (upd G (es[k]'hk).2 (crashFile (G (es[k]'hk).2) t)) Ft0 ∧ Chg Ft0 w w' := by
  have hids : ({ D with dir := es } : DS).ids (es[k]'hk).2 := .inl ⟨_, List.getElem_mem hk, rfl⟩
  obtain ⟨h1, h2⟩ := hr.fil _ hids
  have hpk := pickN_le t ((G (es[k]'hk).2).1.length - (G (es[k]'hk).2).2.toNat)
  have hml : m ≤ (G (es[k]'hk).2).1.length := by omega
  have hlen : ((G (es[k]'hk).2).1.take m).length = m := by simp; omega
  have hcut : wr.ownsRow 0 5 1 (.slice a' m cap') m (byteVals ((G (es[k]'hk).2).1.take m)) := by
    rw [hv] at h2
    have := ownsRow_cut h2 hml
    rw [Nat.mul_one] at this
    unfold byteVals at this ⊢
    rw [List.map_take]; exact this
  have hne : ∀ g, (Value.slice a' m cap').ownBlock = some g → g ≠ (es[k]'hk).2 := by
    intro g hg e
    obtain ⟨c, hh⟩ := ownsRow_elem hcut hg
    exact elem_ne hh h1 (by decide) e
  have hb2 : BSl w' (.slice a' m cap') ((G (es[k]'hk).2).1.take m) := by
    subst hw
    unfold BSl
    rw [hlen]
    exact ownsRow_same hcut fun g hg => by rw [Below.heap_setCell _ _ _ _ (hne g hg), Below.heap_setCell _ _ _ _ (hne g hg)]
  have hf2 : FBlk w' (es[k]'hk).2 (.slice a' m cap') m := by subst hw; exact (h1.s0 _).s1 _
  have hcc : Chg (One (es[k]'hk).2) wr w' := by subst hw; exact ((Chg.refl (One _) wr).setAt rfl 0 _).setAt rfl 1 _
  have hob : ∀ g, (Value.slice a' m cap').ownBlock = some g → (VB (es[k]'hk).2).ownBlock = some g ∨ wr.heap.size ≤ g := by
    intro g hg; left; rw [hv]
    cases a' with
    | none => simp [Value.ownBlock] at hg
    | some x => exact hg
  have r2 := hr.fileUpd hids hf2 hb2 hcc (fun k hk => .inl hk) hob
  have e : crashFile (G (es[k]'hk).2) t = ((G (es[k]'hk).2).1.take m, (m : Int)) := by
    unfold crashFile; simp only [← hm, hlen]
  rw [e]
  refine ⟨⟨_, _, _, _, _, r2, fun x hx => ?_⟩, hc.trans hcc fun x hx _ => by cases hx; exact hft _ (.fil hids)⟩
  rcases Foot.fileUpd (N := wr.heap.size) hids hob hx with h | h
  · exact hft x h
  · have := r2.lt hx; subst hw; simp at this; omega

set_option maxRecDepth 100000 in
set_option maxHeartbeats 8000000 in
theorem crash_any (w : World) (b : Nat) (D : DS) (F : Nat → FC) (Ft : Nat → Prop) (h : Rep w b D F Ft) (dirs : Int) (vt : Value) (ts : List Int) (ht : IntSl w vt ts) (hta : ∀ ad n c x, vt = .slice ad n c → ad = some x → ¬ Ft x.block)
    (hs : D.dir.length < 1099511627776 ∧ D.safe.length < 1099511627776 ∧ D.changes.length < 1099511627776 ∧ ∀ c ∈ D.changes, c.length < 1099511627776) (hdi : -9223372036854775808 ≤ dirs ∧ dirs ≤ 9223372036854775807)
    (hts : ∀ t ∈ ts, -9223372036854775808 ≤ t ∧ t ≤ 9223372036854775807) (hF : ∀ f, D.ids f → 0 ≤ (F f).2 ∧ (F f).2 ≤ (F f).1.length ∧ (F f).1.length ≤ 1099511627776) :
    Calls Try.prog 6 #[.pointer (some ⟨b, 0, none⟩), .int .i64 dirs, vt] w fun e w' => e = .returned (.tuple #[]) ∧ After w Ft w' b (dCrash D F dirs ts).1 (dCrash D F dirs ts).2 := by
  obtain ⟨vd, vs, vc, vals, VB, hr, hft⟩ := h
  have HR := hide hr
  have HFT := hide hft
  obtain ⟨hs1, hs2, hs3, hs4⟩ := hs
  have c0 := hr.blk.c0
  have c1 := hr.blk.c1
  have c2 := hr.blk.c2
  have hz := hr.blk.fz
  obtain ⟨ad, tc, rfl, htl, htc⟩ := ht
  obtain ⟨a1, p1, rfl, -⟩ := hr.safe.form
  obtain ⟨a2, p2, hvc, _, _, hsome, _, _⟩ := ownsRow_form hr.chg
  subst hvc
  have Htc := hide htc
  have Hta := hide hta
  have Hs4 := hide hs4
  have HF := hide hF
  have Hts := hide hts
  have Hsome := hide hsome
  obtain ⟨d1, d2⟩ := hdi
  have hpk := pickN_le dirs D.changes.length
  clear hr htc hta hs4 hF hts hft hsome
  obtain ⟨K, hK⟩ : ∃ K, pickN dirs D.changes.length = K := ⟨_, rfl⟩
  rw [hK] at hpk
  have HK := hide hK
  clear hK
  have PK : Hid (∀ W : World, Calls Try.prog 21 #[.int .i64 dirs, .int .i64 D.changes.length] W fun e w' => e = .returned (.int .i64 K) ∧ W = w') := by
    intro W
    have := pick_any dirs D.changes.length W ⟨d1, d2⟩ ⟨by omega, by omega⟩
    simp only [Int.toNat_natCast, HK.out] at this; exact this
  have HR2 := HR.out
  obtain ⟨vda, vdc, hvd, -⟩ := HR2.dir.form
  subst hvd
  clear HR2
  obtain ⟨Ft0, f1, f2, f3⟩ : ∃ Ft0 : Nat → Prop, (∀ k, Foot b D (.slice vda D.dir.length vdc) (.slice a1 D.safe.length p1) (.slice a2 D.changes.length p2) vals VB k → Ft0 k) ∧ (∀ k, Ft0 k → k < w.heap.size) ∧ (∀ k, Ft0 k → Ft k) :=
    ⟨Foot b D (.slice vda D.dir.length vdc) (.slice a1 D.safe.length p1) (.slice a2 D.changes.length p2) vals VB, fun _ h => h, fun _ h => HR.out.lt h, fun _ h => HFT.out _ h⟩
  have F1 := hide f1
  have F2 := hide f2
  have F3 := hide f3
  have HTL : Hid (∀ wr, Chg Ft0 w wr → ∀ j (hj : j < ts.length), ∃ tb to_, ad = some ⟨tb, to_, none⟩ ∧ wr.cell? ⟨tb, to_ + j, none⟩ = some (.int .i64 (ts[j]'hj))) := by
    intro wr hc j hj
    obtain ⟨tb, to_, h1, h2, h3⟩ := Htc.out j hj
    refine ⟨tb, to_, h1, ?_⟩
    rw [World.cell?_of_block (hc.block tb h2 (fun h => Hta.out ad ts.length tc ⟨tb, to_, none⟩ rfl h1 (F3.out _ h)))]; exact h3
  clear f1 f2 f3
  by_cases hk0 : K = 0
  · subst hk0
    have RW := HR.out.setDirOld (.inl ⟨rfl, rfl⟩) (HR.out.blk.s0 _) ((Chg.refl (One b) w).setAt rfl 0 (.slice a1 D.safe.length p1))
    have hin : Hid (∀ f, inEnts f D.safe → D.ids f) := fun f hf => .inr (.inl hf)
    have RepW : Hid (Rep (w.setCell ⟨b, 0, none⟩ (.slice a1 D.safe.length p1)) b { D with dir := D.safe } F Ft0) := ⟨_, _, _, _, _, RW.1, fun k hk => F1.out k (RW.2 k hk)⟩
    have cW : Hid (Chg Ft0 w (w.setCell ⟨b, 0, none⟩ (.slice a1 D.safe.length p1))) := (Chg.refl _ w).setAt (F1.out _ .blk) 0 _
    clear RW
    rw [show ((0 : Nat) : Int) = 0 from rfl] at PK
    go_enter Try.func6, Try.ntmps6
    go_wp2_with (first
      | (go_at_call 21; refine (PK.out _).mono ?_; rintro e w' ⟨rfl, rfl⟩)
      | (go_at_call 7; refine (list_any _ b _ F _ RepW.out hs2).mono ?_; rintro e w2 ⟨v, rfl, hlo, hlc, hlf⟩; obtain ⟨al, cl, rfl, _, hclm, hlsome, _⟩ := ownsRow_form hlo))
    have s2 : w.heap.size ≤ w2.heap.size := by have := hlc.size; simp at this; omega
    have HLO := hide hlo
    have HLF : Hid (∀ g, al.map Addr.block = some g → w.heap.size ≤ g) := by
      intro g hg
      have := hlf g (by cases al with
        | none => simp at hg
        | some x => simp at hg; simp [Value.ownBlock, hg])
      simpa using this
    have RepW2 : Hid (Rep w2 b { D with dir := D.safe } F Ft0) := RepW.out.frame fun k hk => hlc.block k (by have := F2.out k hk; simpa using this) (fun h => h)
    have CW2 : Hid (Chg Ft0 w w2) := cW.out.trans hlc (fun x hx => hx.elim)
    have HLS := hide hlsome
    have HLL := hide (dListK_length D.safe D.safe.length (Nat.le_refl _))
    unfold maxLen at hclm
    clear hlo hlf hlc hlsome
    go_loopw [44] (fun iv wr => ∃ i : Nat, i ≤ D.safe.length ∧ iv = .int .i64 i ∧ Hid (Rep wr b { D with dir := D.safe } (crashK D.safe ts (dList D.safe) F i) Ft0) ∧ Hid (Chg Ft0 w2 wr)) (fun iv _ => D.safe.length - (intOf iv).toNat)
    case atStart => exact ⟨0, Nat.zero_le _, rfl, RepW2.out, Chg.refl _ _⟩
    case round =>
      obtain ⟨i, hi, rfl, hrep, hcr⟩ := hrel
      by_cases hli : i < D.safe.length
      · have hcw : Hid (Chg Ft0 w wr) := CW2.out.trans hcr.out (fun x hx _ => hx)
        obtain ⟨lb, hlb⟩ := HLS.out (by omega)
        have hln : i < (dList D.safe).length := by have := HLL.out; unfold dList; omega
        have hlc : wr.cell? ⟨lb, i, none⟩ = some (.string ((dList D.safe)[i]'hln)) := by
          have h1 := ownsRow_cell HLO.out (g := lb) (by rw [hlb]; rfl) (j := i) (u := .string ((dList D.safe)[i]'hln)) (by unfold strVals; rw [List.getElem?_map, List.getElem?_eq_getElem hln]; rfl)
          have h2 := HLF.out lb (by rw [hlb]; rfl)
          rw [World.cell?_of_block (hcr.out.block lb (ownsRow_lt HLO.out (by rw [hlb]; rfl)) (fun h => by have := F2.out lb h; omega))]; exact h1
        subst hlb
        obtain ⟨nm, hnm⟩ : ∃ nm, (dList D.safe)[i]'hln = nm := ⟨_, rfl⟩
        rw [hnm] at hlc
        have hmem : ∃ e ∈ D.safe, e.1 = nm := (dList_mem D.safe nm).1 (by rw [← hnm]; exact List.getElem_mem hln)
        have hget : (dList D.safe)[i]? = some nm := by rw [← hnm]; exact List.getElem?_eq_getElem hln
        obtain ⟨G, hGq⟩ : ∃ G, crashK D.safe ts (dList D.safe) F i = G := ⟨_, rfl⟩
        have hrep2 := hrep.out
        rw [hGq] at hrep2
        obtain ⟨vd', vs', vc', vals', VB', hr', hft'⟩ := hrep2
        rcases lookup_cases D.safe nm with ⟨_, h2⟩ | ⟨k, hk, h1, h2, h3⟩
        · exfalso
          obtain ⟨e, he, h4⟩ := hmem
          rcases fidx_cases D.safe nm with ⟨_, h5⟩ | ⟨k, hk, h5, _⟩
          · exact h5 e he h4
          · omega
        · have hok := crashK_ok D.safe ts (dList D.safe) F 1099511627776 D.ids HF.out i (D.safe[k]'hk).2 (hin.out _ ⟨_, List.getElem_mem hk, rfl⟩)
          rw [hGq] at hok
          obtain ⟨ok1, ok2, ok3⟩ := hok
          obtain ⟨g, cap, a', cap', rfl, hv, z1, z2, z3, z4⟩ := hr'.at_ k hk
          have hat := hr'.atK k hk rfl hv
          have hdE : Hid (EntSl wr.drew (.slice (some ⟨g, 0, none⟩) D.safe.length cap) D.safe) := hr'.dir
          have H1 := hide h1
          obtain ⟨f, hf⟩ : ∃ f, (D.safe[k]'hk).2 = f := ⟨_, rfl⟩
          rw [hf] at hat
          have fin : Hid (∀ (t : Int) (m : Nat) (w' : World), t = ts.getD i 0 → m = (G f).2.toNat + pickN t ((G f).1.length - (G f).2.toNat) → w' = (wr.setCell ⟨f, 0, none⟩ (.slice a' m cap')).setCell ⟨f, 1, none⟩ (.int .i64 m) →
              Rep w' b { D with dir := D.safe } (crashK D.safe ts (dList D.safe) F (i + 1)) Ft0 ∧ Chg Ft0 w2 w') := by
            intro t m w' ht hm hw
            subst hf
            have := crash_round (t := t) hft' hr' hcr.out hk hv ⟨ok1, ok2⟩ m hm w' hw
            rw [crashK_succ D.safe ts (dList D.safe) F i nm _ hget h2, hGq, ← ht]; exact this
          rw [hf] at ok1 ok2 ok3 z3
          have x1 := hat.d
          have x2 := hat.p
          have x3 := hat.f0
          have x4 := hat.f1
          have x5 := hat.fz
          have x6 := hat.gf
          have x7 := hat.fg
          unfold maxLen at z2 z4
          have hk0 : (0 : Int) ≤ (k : Int) := Int.natCast_nonneg _
          have hk1 : (k : Int) < (D.safe.length : Int) := by omega
          clear hat hv hr' hft' h1 h2 h3 hmem hget hrep hnm hGq
          obtain ⟨t, ht⟩ : ∃ t, ts.getD i 0 = t := ⟨_, rfl⟩
          have htb : -9223372036854775808 ≤ t ∧ t ≤ 9223372036854775807 := by
            rw [← ht, List.getD_eq_getElem?_getD]
            cases hx : ts[i]? with
            | none => simp
            | some y => exact Hts.out y (List.mem_of_getElem? hx)
          obtain ⟨sn, hsn⟩ := Int.eq_ofNat_of_zero_le ok1
          obtain ⟨l, hl⟩ : ∃ l, (G f).1.length = l := ⟨_, rfl⟩
          obtain ⟨p, hp⟩ : ∃ p, pickN t (l - sn) = p := ⟨_, rfl⟩
          have hple := pickN_le t (l - sn)
          rw [hp] at hple
          have fin2 : Hid (∀ w', w' = (wr.setCell ⟨f, 0, none⟩ (.slice a' (sn + p) cap')).setCell ⟨f, 1, none⟩ (.int .i64 ((sn + p : Nat) : Int)) → Rep w' b { D with dir := D.safe } (crashK D.safe ts (dList D.safe) F (i + 1)) Ft0 ∧ Chg Ft0 w2 w') := by
            intro w' hw
            exact fin.out t (sn + p) w' ht.symm (by rw [hsn, hl, Int.toNat_natCast, hp]) hw
          rw [hsn, hl] at ok2
          rw [hl] at ok3 z3 x3
          rw [hsn] at x4
          have ok4 : sn ≤ l := by omega
          have PQ : Hid (∀ W : World, Calls Try.prog 21 #[.int .i64 t, .int .i64 ((l : Int) - (sn : Int))] W fun e w' => e = .returned (.int .i64 p) ∧ W = w') := by
            intro W
            have := pick_any t ((l : Int) - (sn : Int)) W htb ⟨by omega, by omega⟩
            rw [show ((l : Int) - (sn : Int)).toNat = l - sn from by omega, hp] at this; exact this
          have q1 : sn + p ≤ cap' := by omega
          have hw1 : IntKind.i64.wrap ((l : Int) - (sn : Int)) = (l : Int) - (sn : Int) := by simp only [IntKind.wrap_i64]; omega
          have hw2 : IntKind.i64.wrap ((sn : Int) + (p : Int)) = (sn : Int) + (p : Int) := by simp only [IntKind.wrap_i64]; omega
          have q3 : (0 : Int) ≤ (sn : Int) + (p : Int) := by omega
          have q4 : (sn : Int) + (p : Int) ≤ (cap' : Int) := by omega
          have q5 : ((sn : Int) + (p : Int)).toNat = sn + p := by omega
          have Ht := hide ht
          clear hp hl hsn ok1 htb fin ht
          by_cases hit : i < ts.length
          · obtain ⟨tb, to_, hta2, htc2⟩ := HTL.out wr hcw.out i hit
            have hte : ts[i]'hit = t := by have := Ht.out; rw [List.getD_eq_getElem?_getD, List.getElem?_eq_getElem hit] at this; exact this
            rw [hte] at htc2
            clear hte
            subst hta2
            have hit2 : (i : Int) < (ts.length : Int) := by omega
            go_wp2
            go_region_held3 (fun w' => w'.cell? ⟨b, 0, none⟩ = some (.slice (some ⟨g, 0, none⟩) D.safe.length cap) ∧ w'.cell? ⟨g, k * 2 + 1, none⟩ = some (.pointer (some ⟨f, 0, none⟩))) (refine ⟨?_, ?_⟩ <;> go_simp) ((go_at_call 22; refine (find_any _ _ D.safe nm hdE.out).mono ?_; rintro e w' ⟨rfl, rfl⟩; rw [H1.out]))
            go_wp2
            refine wp_region_still_tail 24 (by kernel_rfl) (by kernel_rfl) ?_
            simp only [World.drew_eq, List.take_succ_cons, List.take_zero, List.drop_succ_cons, List.drop_zero]
            repeat still_step
            refine wpStill_step (fun K hK => ?_)
            go_simp
            refine ⟨_, (PQ.out _).mono (fun e w' h => ⟨h.1, h.2.symm⟩), hK _ ?_⟩
            clear hK K
            repeat still_step
            refine wpStill_nil ?_
            go_wp2
            go_roundw
            case rel =>
              obtain ⟨z5, z6⟩ := fin2.out _ rfl
              refine ⟨i + 1, by omega, by go_num, ?_, ?_⟩
              · exact Rep.same_heap z5 rfl
              · exact Chg.same_heap z6 rfl rfl rfl rfl
            case measure => simp [intOf]; omega
          · have ht0 : t = 0 := by
              rw [← Ht.out, List.getD_eq_getElem?_getD, List.getElem?_eq_none (by omega)]; rfl
            subst ht0
            have hit2 : (ts.length : Int) ≤ (i : Int) := by omega
            go_wp2
            go_region_held3 (fun w' => w'.cell? ⟨b, 0, none⟩ = some (.slice (some ⟨g, 0, none⟩) D.safe.length cap) ∧ w'.cell? ⟨g, k * 2 + 1, none⟩ = some (.pointer (some ⟨f, 0, none⟩))) (refine ⟨?_, ?_⟩ <;> go_simp) ((go_at_call 22; refine (find_any _ _ D.safe nm hdE.out).mono ?_; rintro e w' ⟨rfl, rfl⟩; rw [H1.out]))
            go_wp2
            refine wp_region_still_tail 24 (by kernel_rfl) (by kernel_rfl) ?_
            simp only [World.drew_eq, List.take_succ_cons, List.take_zero, List.drop_succ_cons, List.drop_zero]
            repeat still_step
            refine wpStill_step (fun K hK => ?_)
            go_simp
            refine ⟨_, (PQ.out _).mono (fun e w' h => ⟨h.1, h.2.symm⟩), hK _ ?_⟩
            clear hK K
            repeat still_step
            refine wpStill_nil ?_
            go_wp2
            go_roundw
            case rel =>
              obtain ⟨z5, z6⟩ := fin2.out _ rfl
              refine ⟨i + 1, by omega, by go_num, ?_, ?_⟩
              · exact Rep.same_heap z5 rfl
              · exact Chg.same_heap z6 rfl rfl rfl rfl
            case measure => simp [intOf]; omega
      · have hil : i = D.safe.length := by omega
        have HIL := hide hil
        have hrep2 := hrep.out
        rw [hil] at hrep2
        obtain ⟨vd', vs', vc', vals', VB', hr', hft'⟩ := hrep2
        obtain ⟨ae, ce, rfl, _⟩ := hr'.dir.form
        have y0 := hr'.blk.c0
        have y1 := hr'.blk.c1
        have y2 := hr'.blk.c2
        have y5 := hr'.blk.c5
        have y6 := hr'.blk.c6
        have y10 := hr'.blk.c10
        have yz := hr'.blk.fz
        have HR' := hide hr'
        have HFT' := hide hft'
        clear hil hrep hr' hft'
        go_wp2
        go_end0
        have r1 := HR'.out.syncDir ((HR'.out.blk.s1 _).s2 (.slice none 0 0)) (((Chg.refl (One b) wr).setAt rfl 1 _).setAt rfl 2 (.slice none 0 0))
        have r2 := r1.turn (n := { D.n with dead := false, cut := 0, fail := 0 }) (((r1.blk.s10 false).s5 0).s6 0) ((((Chg.refl (One b) _).setAt rfl 10 (.bool false)).setAt rfl 5 (.int .i64 0)).setAt rfl 6 (.int .i64 0))
        have hq : dCrash D F dirs ts = ({ dir := D.safe, safe := D.safe, changes := [], n := { D.n with dead := false, cut := 0, fail := 0 } }, crashK D.safe ts (dList D.safe) F D.safe.length) := by
          have he : crashDir D dirs = D.safe := by unfold crashDir; rw [HK.out]
          unfold dCrash; rw [he]
        rw [hq]
        refine ⟨rfl, After.mk' ?_ r2 ?_⟩
        · have hcw : Chg Ft0 w wr := CW2.out.trans hcr.out (fun x hx _ => hx)
          have hb0 : Ft0 b := F1.out _ .blk
          exact (((((hcw.setAt hb0 1 _).setAt hb0 2 _).setAt hb0 10 _).setAt hb0 5 _).setAt hb0 6 _).mono fun k _ hk => F3.out k hk
        · intro k hk
          have hk2 : Foot b { dir := D.safe, safe := D.safe, changes := [], n := D.n } (.slice ae D.safe.length ce) (.slice ae D.safe.length ce) (.slice none 0 0) [] VB' k := Foot.n (D := { dir := D.safe, safe := D.safe, changes := [], n := D.n }) hk
          left
          refine F3.out k (HFT'.out k ?_)
          cases hk2 using Foot.elim with
          | blk => exact .blk
          | dir e => exact .dir e
          | safe e => exact .dir e
          | chg e => simp [Value.ownBlock] at e
          | che hm e => cases hm
          | fil hf =>
            rcases hf with hf | hf | ⟨c, hcm, _⟩
            · exact .fil (.inl hf)
            · exact .fil (.inl hf)
            · cases hcm
          | byt hf e =>
            rcases hf with hf | hf | ⟨c, hcm, _⟩
            · exact .byt (.inl hf) e
            · exact .byt (.inl hf) e
            · cases hcm
  · obtain ⟨j, rfl⟩ : ∃ j, K = j + 1 := ⟨K - 1, by omega⟩
    clear hk0
    have hKl : j < D.changes.length := by omega
    clear hpk
    obtain ⟨v0, hv1, hv2⟩ := HR.out.che j hKl
    obtain ⟨ak, pk, rfl, -⟩ := hv2.form
    obtain ⟨es, hes⟩ : ∃ es, D.changes[j]'hKl = es := ⟨_, rfl⟩
    have hesl : es.length < 1099511627776 := by rw [← hes]; exact Hs4.out _ (List.getElem_mem hKl)
    have hin : Hid (∀ f, inEnts f es → D.ids f) := fun f hf => .inr (.inr ⟨_, List.getElem_mem hKl, hes ▸ hf⟩)
    have Hcd : Hid (crashDir D dirs = es) := by
      unfold Hid crashDir; rw [HK.out]
      show D.changes.getD j [] = es
      rw [← hes, List.getD_eq_getElem?_getD, List.getElem?_eq_getElem hKl]; rfl
    rw [hes] at hv1 hv2
    obtain ⟨gc, hgc⟩ := Hsome.out (by omega)
    subst hgc
    have cg := ownsRow_cell HR.out.chg (g := gc) rfl hv1
    obtain ⟨cgc, cgh⟩ := ownsRow_elem HR.out.chg (g := gc) rfl
    have n1 : ¬ gc = b := fun e => elem_ne cgh HR.out.blk (by decide) e
    have n2 : ¬ b = gc := fun e => n1 e.symm
    have RW := HR.out.setDirOld (.inr ⟨j, hKl, hv1, hes.symm⟩) ((HR.out.blk.s0 (.slice a1 D.safe.length p1)).s0 _) (((Chg.refl (One b) w).setAt rfl 0 (.slice a1 D.safe.length p1)).setAt rfl 0 (.slice ak es.length pk))
    have RepW : Hid (Rep ((w.setCell ⟨b, 0, none⟩ (.slice a1 D.safe.length p1)).setCell ⟨b, 0, none⟩ (.slice ak es.length pk)) b { D with dir := es } F Ft0) := ⟨_, _, _, _, _, RW.1, fun k hk => F1.out k (RW.2 k hk)⟩
    have cW : Hid (Chg Ft0 w ((w.setCell ⟨b, 0, none⟩ (.slice a1 D.safe.length p1)).setCell ⟨b, 0, none⟩ (.slice ak es.length pk))) := ((Chg.refl _ w).setAt (F1.out _ .blk) 0 _).setAt (F1.out _ .blk) 0 _
    have k0 : (0 : Int) < (j : Int) + 1 := by omega
    have k1 : (0 : Int) ≤ (j : Int) := by omega
    have k2 : (j : Int) < (D.changes.length : Int) := by omega
    have hwj : IntKind.i64.wrap (j : Int) = (j : Int) := by simp only [IntKind.wrap_i64]; omega
    have PJ : Hid (∀ W : World, Calls Try.prog 21 #[.int .i64 dirs, .int .i64 D.changes.length] W fun e w' => e = .returned (.int .i64 ((j : Int) + 1)) ∧ W = w') := PK.out
    clear RW hv1 hv2 hes cgh PK hKl
    skip
    go_enter Try.func6, Try.ntmps6
    go_wp2_with (first
      | (go_at_call 21; refine (PJ.out _).mono ?_; rintro e w' ⟨rfl, rfl⟩)
      | (go_at_call 7; refine (list_any _ b _ F _ RepW.out hesl).mono ?_; rintro e w2 ⟨v, rfl, hlo, hlc, hlf⟩; obtain ⟨al, cl, rfl, _, hclm, hlsome, _⟩ := ownsRow_form hlo))
    have s2 : w.heap.size ≤ w2.heap.size := by have := hlc.size; simp at this; omega
    have HLO := hide hlo
    have HLF : Hid (∀ g, al.map Addr.block = some g → w.heap.size ≤ g) := by
      intro g hg
      have := hlf g (by cases al with
        | none => simp at hg
        | some x => simp at hg; simp [Value.ownBlock, hg])
      simpa using this
    have RepW2 : Hid (Rep w2 b { D with dir := es } F Ft0) := RepW.out.frame fun k hk => hlc.block k (by have := F2.out k hk; simpa using this) (fun h => h)
    have CW2 : Hid (Chg Ft0 w w2) := cW.out.trans hlc (fun x hx => hx.elim)
    have HLS := hide hlsome
    have HLL := hide (dListK_length es es.length (Nat.le_refl _))
    unfold maxLen at hclm
    clear hlo hlf hlc hlsome
    go_loopw [44] (fun iv wr => ∃ i : Nat, i ≤ es.length ∧ iv = .int .i64 i ∧ Hid (Rep wr b { D with dir := es } (crashK es ts (dList es) F i) Ft0) ∧ Hid (Chg Ft0 w2 wr)) (fun iv _ => es.length - (intOf iv).toNat)
    case atStart => exact ⟨0, Nat.zero_le _, rfl, RepW2.out, Chg.refl _ _⟩
    case round =>
      obtain ⟨i, hi, rfl, hrep, hcr⟩ := hrel
      by_cases hli : i < es.length
      · have hcw : Hid (Chg Ft0 w wr) := CW2.out.trans hcr.out (fun x hx _ => hx)
        obtain ⟨lb, hlb⟩ := HLS.out (by omega)
        have hln : i < (dList es).length := by have := HLL.out; unfold dList; omega
        have hlc : wr.cell? ⟨lb, i, none⟩ = some (.string ((dList es)[i]'hln)) := by
          have h1 := ownsRow_cell HLO.out (g := lb) (by rw [hlb]; rfl) (j := i) (u := .string ((dList es)[i]'hln)) (by unfold strVals; rw [List.getElem?_map, List.getElem?_eq_getElem hln]; rfl)
          have h2 := HLF.out lb (by rw [hlb]; rfl)
          rw [World.cell?_of_block (hcr.out.block lb (ownsRow_lt HLO.out (by rw [hlb]; rfl)) (fun h => by have := F2.out lb h; omega))]; exact h1
        subst hlb
        obtain ⟨nm, hnm⟩ : ∃ nm, (dList es)[i]'hln = nm := ⟨_, rfl⟩
        rw [hnm] at hlc
        have hmem : ∃ e ∈ es, e.1 = nm := (dList_mem es nm).1 (by rw [← hnm]; exact List.getElem_mem hln)
        have hget : (dList es)[i]? = some nm := by rw [← hnm]; exact List.getElem?_eq_getElem hln
        obtain ⟨G, hGq⟩ : ∃ G, crashK es ts (dList es) F i = G := ⟨_, rfl⟩
        have hrep2 := hrep.out
        rw [hGq] at hrep2
        obtain ⟨vd', vs', vc', vals', VB', hr', hft'⟩ := hrep2
        rcases lookup_cases es nm with ⟨_, h2⟩ | ⟨k, hk, h1, h2, h3⟩
        · exfalso
          obtain ⟨e, he, h4⟩ := hmem
          rcases fidx_cases es nm with ⟨_, h5⟩ | ⟨k, hk, h5, _⟩
          · exact h5 e he h4
          · omega
        · have hok := crashK_ok es ts (dList es) F 1099511627776 D.ids HF.out i (es[k]'hk).2 (hin.out _ ⟨_, List.getElem_mem hk, rfl⟩)
          rw [hGq] at hok
          obtain ⟨ok1, ok2, ok3⟩ := hok
          obtain ⟨g, cap, a', cap', rfl, hv, z1, z2, z3, z4⟩ := hr'.at_ k hk
          have hat := hr'.atK k hk rfl hv
          have hdE : Hid (EntSl wr.drew (.slice (some ⟨g, 0, none⟩) es.length cap) es) := hr'.dir
          have H1 := hide h1
          obtain ⟨f, hf⟩ : ∃ f, (es[k]'hk).2 = f := ⟨_, rfl⟩
          rw [hf] at hat
          have fin : Hid (∀ (t : Int) (m : Nat) (w' : World), t = ts.getD i 0 → m = (G f).2.toNat + pickN t ((G f).1.length - (G f).2.toNat) → w' = (wr.setCell ⟨f, 0, none⟩ (.slice a' m cap')).setCell ⟨f, 1, none⟩ (.int .i64 m) →
              Rep w' b { D with dir := es } (crashK es ts (dList es) F (i + 1)) Ft0 ∧ Chg Ft0 w2 w') := by
            intro t m w' ht hm hw
            subst hf
            have := crash_round (t := t) hft' hr' hcr.out hk hv ⟨ok1, ok2⟩ m hm w' hw
            rw [crashK_succ es ts (dList es) F i nm _ hget h2, hGq, ← ht]; exact this
          rw [hf] at ok1 ok2 ok3 z3
          have x1 := hat.d
          have x2 := hat.p
          have x3 := hat.f0
          have x4 := hat.f1
          have x5 := hat.fz
          have x6 := hat.gf
          have x7 := hat.fg
          unfold maxLen at z2 z4
          have hk0 : (0 : Int) ≤ (k : Int) := Int.natCast_nonneg _
          have hk1 : (k : Int) < (es.length : Int) := by omega
          clear hat hv hr' hft' h1 h2 h3 hmem hget hrep hnm hGq
          obtain ⟨t, ht⟩ : ∃ t, ts.getD i 0 = t := ⟨_, rfl⟩
          have htb : -9223372036854775808 ≤ t ∧ t ≤ 9223372036854775807 := by
            rw [← ht, List.getD_eq_getElem?_getD]
            cases hx : ts[i]? with
            | none => simp
            | some y => exact Hts.out y (List.mem_of_getElem? hx)
          obtain ⟨sn, hsn⟩ := Int.eq_ofNat_of_zero_le ok1
          obtain ⟨l, hl⟩ : ∃ l, (G f).1.length = l := ⟨_, rfl⟩
          obtain ⟨p, hp⟩ : ∃ p, pickN t (l - sn) = p := ⟨_, rfl⟩
          have hple := pickN_le t (l - sn)
          rw [hp] at hple
          have fin2 : Hid (∀ w', w' = (wr.setCell ⟨f, 0, none⟩ (.slice a' (sn + p) cap')).setCell ⟨f, 1, none⟩ (.int .i64 ((sn + p : Nat) : Int)) → Rep w' b { D with dir := es } (crashK es ts (dList es) F (i + 1)) Ft0 ∧ Chg Ft0 w2 w') := by
            intro w' hw
            exact fin.out t (sn + p) w' ht.symm (by rw [hsn, hl, Int.toNat_natCast, hp]) hw
          rw [hsn, hl] at ok2
          rw [hl] at ok3 z3 x3
          rw [hsn] at x4
          have ok4 : sn ≤ l := by omega
          have PQ : Hid (∀ W : World, Calls Try.prog 21 #[.int .i64 t, .int .i64 ((l : Int) - (sn : Int))] W fun e w' => e = .returned (.int .i64 p) ∧ W = w') := by
            intro W
            have := pick_any t ((l : Int) - (sn : Int)) W htb ⟨by omega, by omega⟩
            rw [show ((l : Int) - (sn : Int)).toNat = l - sn from by omega, hp] at this; exact this
          have q1 : sn + p ≤ cap' := by omega
          have hw1 : IntKind.i64.wrap ((l : Int) - (sn : Int)) = (l : Int) - (sn : Int) := by simp only [IntKind.wrap_i64]; omega
          have hw2 : IntKind.i64.wrap ((sn : Int) + (p : Int)) = (sn : Int) + (p : Int) := by simp only [IntKind.wrap_i64]; omega
          have q3 : (0 : Int) ≤ (sn : Int) + (p : Int) := by omega
          have q4 : (sn : Int) + (p : Int) ≤ (cap' : Int) := by omega
          have q5 : ((sn : Int) + (p : Int)).toNat = sn + p := by omega
          have Ht := hide ht
          clear hp hl hsn ok1 htb fin ht
          by_cases hit : i < ts.length
          · obtain ⟨tb, to_, hta2, htc2⟩ := HTL.out wr hcw.out i hit
            have hte : ts[i]'hit = t := by have := Ht.out; rw [List.getD_eq_getElem?_getD, List.getElem?_eq_getElem hit] at this; exact this
            rw [hte] at htc2
            clear hte
            subst hta2
            have hit2 : (i : Int) < (ts.length : Int) := by omega
            go_wp2
            go_region_held3 (fun w' => w'.cell? ⟨b, 0, none⟩ = some (.slice (some ⟨g, 0, none⟩) es.length cap) ∧ w'.cell? ⟨g, k * 2 + 1, none⟩ = some (.pointer (some ⟨f, 0, none⟩))) (refine ⟨?_, ?_⟩ <;> go_simp) ((go_at_call 22; refine (find_any _ _ es nm hdE.out).mono ?_; rintro e w' ⟨rfl, rfl⟩; rw [H1.out]))
            go_wp2
            refine wp_region_still_tail 24 (by kernel_rfl) (by kernel_rfl) ?_
            simp only [World.drew_eq, List.take_succ_cons, List.take_zero, List.drop_succ_cons, List.drop_zero]
            repeat still_step
            refine wpStill_step (fun K hK => ?_)
            go_simp
            refine ⟨_, (PQ.out _).mono (fun e w' h => ⟨h.1, h.2.symm⟩), hK _ ?_⟩
            clear hK K
            repeat still_step
            refine wpStill_nil ?_
            go_wp2
            go_roundw
            case rel =>
              obtain ⟨z5, z6⟩ := fin2.out _ rfl
              refine ⟨i + 1, by omega, by go_num, ?_, ?_⟩
              · exact Rep.same_heap z5 rfl
              · exact Chg.same_heap z6 rfl rfl rfl rfl
            case measure => simp [intOf]; omega
          · have ht0 : t = 0 := by
              rw [← Ht.out, List.getD_eq_getElem?_getD, List.getElem?_eq_none (by omega)]; rfl
            subst ht0
            have hit2 : (ts.length : Int) ≤ (i : Int) := by omega
            go_wp2
            go_region_held3 (fun w' => w'.cell? ⟨b, 0, none⟩ = some (.slice (some ⟨g, 0, none⟩) es.length cap) ∧ w'.cell? ⟨g, k * 2 + 1, none⟩ = some (.pointer (some ⟨f, 0, none⟩))) (refine ⟨?_, ?_⟩ <;> go_simp) ((go_at_call 22; refine (find_any _ _ es nm hdE.out).mono ?_; rintro e w' ⟨rfl, rfl⟩; rw [H1.out]))
            go_wp2
            refine wp_region_still_tail 24 (by kernel_rfl) (by kernel_rfl) ?_
            simp only [World.drew_eq, List.take_succ_cons, List.take_zero, List.drop_succ_cons, List.drop_zero]
            repeat still_step
            refine wpStill_step (fun K hK => ?_)
            go_simp
            refine ⟨_, (PQ.out _).mono (fun e w' h => ⟨h.1, h.2.symm⟩), hK _ ?_⟩
            clear hK K
            repeat still_step
            refine wpStill_nil ?_
            go_wp2
            go_roundw
            case rel =>
              obtain ⟨z5, z6⟩ := fin2.out _ rfl
              refine ⟨i + 1, by omega, by go_num, ?_, ?_⟩
              · exact Rep.same_heap z5 rfl
              · exact Chg.same_heap z6 rfl rfl rfl rfl
            case measure => simp [intOf]; omega
      · have hil : i = es.length := by omega
        have HIL := hide hil
        have hrep2 := hrep.out
        rw [hil] at hrep2
        obtain ⟨vd', vs', vc', vals', VB', hr', hft'⟩ := hrep2
        obtain ⟨ae, ce, rfl, _⟩ := hr'.dir.form
        have y0 := hr'.blk.c0
        have y1 := hr'.blk.c1
        have y2 := hr'.blk.c2
        have y5 := hr'.blk.c5
        have y6 := hr'.blk.c6
        have y10 := hr'.blk.c10
        have yz := hr'.blk.fz
        have HR' := hide hr'
        have HFT' := hide hft'
        clear hil hrep hr' hft'
        go_wp2
        go_end0
        have r1 := HR'.out.syncDir ((HR'.out.blk.s1 _).s2 (.slice none 0 0)) (((Chg.refl (One b) wr).setAt rfl 1 _).setAt rfl 2 (.slice none 0 0))
        have r2 := r1.turn (n := { D.n with dead := false, cut := 0, fail := 0 }) (((r1.blk.s10 false).s5 0).s6 0) ((((Chg.refl (One b) _).setAt rfl 10 (.bool false)).setAt rfl 5 (.int .i64 0)).setAt rfl 6 (.int .i64 0))
        have hq : dCrash D F dirs ts = ({ dir := es, safe := es, changes := [], n := { D.n with dead := false, cut := 0, fail := 0 } }, crashK es ts (dList es) F es.length) := by
          have he : crashDir D dirs = es := by exact Hcd.out
          unfold dCrash; rw [he]
        rw [hq]
        refine ⟨rfl, After.mk' ?_ r2 ?_⟩
        · have hcw : Chg Ft0 w wr := CW2.out.trans hcr.out (fun x hx _ => hx)
          have hb0 : Ft0 b := F1.out _ .blk
          exact (((((hcw.setAt hb0 1 _).setAt hb0 2 _).setAt hb0 10 _).setAt hb0 5 _).setAt hb0 6 _).mono fun k _ hk => F3.out k hk
        · intro k hk
          have hk2 : Foot b { dir := es, safe := es, changes := [], n := D.n } (.slice ae es.length ce) (.slice ae es.length ce) (.slice none 0 0) [] VB' k := Foot.n (D := { dir := es, safe := es, changes := [], n := D.n }) hk
          left
          refine F3.out k (HFT'.out k ?_)
          cases hk2 using Foot.elim with
          | blk => exact .blk
          | dir e => exact .dir e
          | safe e => exact .dir e
          | chg e => simp [Value.ownBlock] at e
          | che hm e => cases hm
          | fil hf =>
            rcases hf with hf | hf | ⟨c, hcm, _⟩
            · exact .fil (.inl hf)
            · exact .fil (.inl hf)
            · cases hcm
          | byt hf e =>
            rcases hf with hf | hf | ⟨c, hcm, _⟩
            · exact .byt (.inl hf) e
            · exact .byt (.inl hf) e
            · cases hcm
end Go.Proofs.Ytodcnkbblippnaa
