/-
  DERIVED. GIVEN WITH THE SEED: THE CARDS: each row of YtodcnkbblippnabGreatDoorRows.lean that lists a variable, with what it lists TIED to the program's text (the seventh form; the later family's looks); each row that meets fmt, with fmt's text TOLD by the authors' own Lean function (tested against real Go, not proved from fmt's source: count such statements apart). THE CARD IS WHAT COUNTS. Prove the row's statement (the work); the ties are given (YtodcnkbblippnabGreatDoorTie.lean); close each card by the builder's one call (the guide's Derived/Test/ToyasCard.lean, 'card_holds'). Laid BY PROGRAM, IN A SANDBOX (cutbox-door.mjs). By AI agents, Wed Nov 11 2026. No macro, syntax, notation, axiom, sorry.
-/
import Derived.Test.YtodcnkbblippnabGreatDoorRows
import GoSem.ClaimSeven
namespace Go.Proofs.YtodcnkbblippnabGreatDoor
namespace Rows

/-- THE TIED CARD OF 'tideskeep.Strange'. -/
def strangeCard : Claim7 := { stood := { row := strangeRow, standIns := [], harness := (true, "4ecfaba2c6f9fe9af62a28abda969980e6e1024e302c76d1471bfb1f53193b5d"), looks := true }, kinds := [], alts := [], laidByText := true, laidKinds := [.data, .data, .data, .sentinel, .sentinel, .data], laidTests := true, laidLooks := .later }
def StrangeCardSaid : Prop := Claim7.holds Tryz.pinned (.plain (OpenSpec.ofChange strangeSpec)) strangeCard

/-- THE TIED CARD OF 'tideskeep.Frozen'. -/
def frozenCard : Claim7 := { stood := { row := frozenRow, standIns := [], harness := (true, "4ecfaba2c6f9fe9af62a28abda969980e6e1024e302c76d1471bfb1f53193b5d"), looks := true }, kinds := [], alts := [], laidByText := true, laidKinds := [.data, .data, .data, .sentinel, .sentinel, .data], laidTests := true, laidLooks := .later }
def FrozenCardSaid : Prop := Claim7.holds Tryz.pinned (.plain (OpenSpec.ofChange frozenSpec)) frozenCard

/-- THE SECOND FORM's CARD OF 'tideskeep.Strange'. -/
def strangeUptoCard : Claim7 := { stood := { row := strangeUptoRow, standIns := [], harness := (true, "4ecfaba2c6f9fe9af62a28abda969980e6e1024e302c76d1471bfb1f53193b5d"), looks := true }, kinds := [], alts := [], laidByText := true, laidKinds := [.data, .data, .data, .sentinel, .sentinel, .data], laidTests := true, laidLooks := .later }
def StrangeUptoCardSaid : Prop := Claim7.holds Tryz.pinned (.plain (OpenSpec.upto strangeSpec)) strangeUptoCard

/-- THE SECOND FORM's CARD OF 'tideskeep.Frozen'. -/
def frozenUptoCard : Claim7 := { stood := { row := frozenUptoRow, standIns := [], harness := (true, "4ecfaba2c6f9fe9af62a28abda969980e6e1024e302c76d1471bfb1f53193b5d"), looks := true }, kinds := [], alts := [], laidByText := true, laidKinds := [.data, .data, .data, .sentinel, .sentinel, .data], laidTests := true, laidLooks := .later }
def FrozenUptoCardSaid : Prop := Claim7.holds Tryz.pinned (.plain (OpenSpec.upto frozenSpec)) frozenUptoCard
end Rows
end Go.Proofs.YtodcnkbblippnabGreatDoor
