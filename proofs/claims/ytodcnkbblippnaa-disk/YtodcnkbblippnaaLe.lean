/- Walks: the law's own functions begins, has. -/
import Derived.Test.YtodcnkbblippnaaRa
namespace Go.Proofs.Ytodcnkbblippnaa
open Go.RowKit
attribute [local go_sem ↓] Go.wp_at_zero Go.wp_at_succ

def nmA : ByteArray := ⟨#[97]⟩
/-- One file a: so many calls, its name safe or not. -/
def begT : DS := ⟨[(⟨#[97]⟩, 0)], [(⟨#[97]⟩, 0)], [], ⟨10, 5, 0, 0, 0, 0, 0, false⟩⟩
def begF : DS := ⟨[(⟨#[97]⟩, 0)], [], [[(⟨#[97]⟩, 0)]], ⟨10, 4, 0, 0, 0, 0, 0, false⟩⟩
def file0 (l : List UInt8) (s : Int) : Nat → FC := fun _ => (l, s)
theorem ids_one {D : DS} (h : ∀ f, D.ids f → f = 0) {l : List UInt8} {s : Int} {G : Nat → FC} (hG : G 0 = (l, s)) : ∀ f, D.ids f → file0 l s f = G f := fun f hf => by rw [h f hf, hG]; rfl
/-- 'has', where it says yes. -/
theorem has_yes {N : Nat} {w : World} {b : Nat} {D : DS} {F : Nat → FC} (h : DAt N w b D F) (name : ByteArray) (bytes : ByteArray) (n : Int) (hl : dList D.dir = [name]) (hlen : D.dir.length = 1) (hsz : dSize D F name = (n, 0)) (hr : dRead D F name 0 n = (bytes.data.toList, 0)) (hu : usedL F D.dir = bytes.size) (hb : bytes.size < 1000000) :
    Calls Try.prog 5 #[.pointer (some ⟨b, 0, none⟩), .string name, .string bytes] w fun e w' => e = .returned (.bool true) ∧ Chg (fun _ => False) w w' := by
  have CL : Hid (Calls Try.prog 7 #[.pointer (some ⟨b, 0, none⟩)] w fun e w' => ∃ g c, e = .returned (.slice (some ⟨g, 0, none⟩) 1 c) ∧ w'.cell? ⟨g, 0, none⟩ = some (.string name) ∧ Chg (fun _ => False) w w') := by
    obtain ⟨Ft, h1, h2⟩ := h
    refine (listU h1 (by omega)).mono ?_
    rintro e w' ⟨v, q1, q2, q3, q4⟩
    rw [hlen, hl] at q2
    obtain ⟨a, c, rfl, _, _, q5, _, _⟩ := ownsRow_form q2
    obtain ⟨g, rfl⟩ := q5 (by omega)
    exact ⟨g, c, q1, ownsRow_cell q2 (g := g) rfl (by rfl), q3⟩
  have CS2 : Hid (∀ W, Chg (fun _ => False) w W → Calls Try.prog 18 #[.pointer (some ⟨b, 0, none⟩), .string name] W fun e w' => e = .returned (.tuple #[.int .i64 n, .int .i64 0]) ∧ W = w') := fun W hc => by
    obtain ⟨Ft, h1, h2⟩ := h.same hc
    have := sizeU h1 name
    rw [hsz] at this; exact this
  have CR2 : Hid (∀ W, Chg (fun _ => False) w W → Calls Try.prog 19 #[.pointer (some ⟨b, 0, none⟩), .string name, .int .i64 0, .int .i64 n] W fun e w' => e = .returned (.tuple #[.string bytes, .int .i64 0]) ∧ W = w') := fun W hc => by
    obtain ⟨Ft, h1, h2⟩ := h.same hc
    have := readU h1 name 0 n
    rw [hr] at this; exact this
  have CU : Hid (∀ W, Chg (fun _ => False) w W → Calls Try.prog 20 #[.pointer (some ⟨b, 0, none⟩)] W fun e w' => e = .returned (.int .i64 bytes.size) ∧ Chg (fun _ => False) W w') := fun W hc => by
    obtain ⟨Ft, h1, h2⟩ := h.same hc
    have := usedU h1 (by omega)
    rw [hu] at this; exact this
  clear h hl hlen hsz hr hu
  go_enter Try.func5, Try.ntmps5
  go_wp2_with (first
    | (go_at_call 7; refine CL.out.mono ?_; rintro e w1 ⟨g, c, rfl, hcell, hc1⟩; have HC1 := hide hc1; clear hc1)
    | (go_at_call 18; refine (CS2.out _ HC1.out).mono ?_; rintro e w2 ⟨rfl, rfl⟩)
    | (go_at_call 19; refine (CR2.out _ HC1.out).mono ?_; rintro e w2 ⟨rfl, rfl⟩)
    | (go_at_call 20; refine (CU.out _ HC1.out).mono ?_; rintro e w3 ⟨rfl, hc3⟩))
  go_ret
  exact ⟨rfl, HC1.out.trans hc3 fun _ h _ => h⟩
end Go.Proofs.Ytodcnkbblippnaa
