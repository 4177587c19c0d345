/-
  DERIVED. GIVEN WITH THE SEED: THE CARDS: each row of YtodcnkbblippnaaGreatDoorRows.lean that lists a variable, with what it lists TIED to the program's text (the seventh form; the later family's looks); each row that meets fmt, with fmt's text TOLD by the authors' own Lean function (tested against real Go, not proved from fmt's source: count such statements apart). THE CARD IS WHAT COUNTS. Prove the row's statement (the work); the ties are given (YtodcnkbblippnaaGreatDoorTie.lean); close each card by the builder's one call (the guide's Derived/Test/ToyasCard.lean, 'card_holds'). Laid BY PROGRAM, IN A SANDBOX (cutbox-door.mjs). By AI agents, Wed Nov 11 2026. No macro, syntax, notation, axiom, sorry.
-/
import Derived.Test.YtodcnkbblippnaaGreatDoorRows
import GoSem.ClaimSeven
namespace Go.Proofs.YtodcnkbblippnaaGreatDoor
namespace Rows

/-- THE TIED CARD OF 'tideslaw.Writes'. -/
def writesCard : Claim7 := { stood := { row := writesRow, standIns := [], harness := (true, "e10beb0cab785e23903d88c9cc1c94730cdc4e8b14b84dcb4d0a39c4bd27cb80"), looks := true }, kinds := [], alts := [], laidByText := true, laidKinds := [.data, .data, .data, .sentinel, .sentinel, .data], laidTests := true, laidLooks := .later }
def WritesCardSaid : Prop := Claim7.holds Tryz.pinned (.plain (OpenSpec.ofChange writesSpec)) writesCard

/-- THE TIED CARD OF 'tideslaw.Reopens'. -/
def reopensCard : Claim7 := { stood := { row := reopensRow, standIns := [], harness := (true, "e10beb0cab785e23903d88c9cc1c94730cdc4e8b14b84dcb4d0a39c4bd27cb80"), looks := true }, kinds := [], alts := [], laidByText := true, laidKinds := [.data, .data, .data, .sentinel, .sentinel, .data], laidTests := true, laidLooks := .later }
def ReopensCardSaid : Prop := Claim7.holds Tryz.pinned (.plain (OpenSpec.ofChange reopensSpec)) reopensCard

/-- THE TIED CARD OF 'tideslaw.Survives'. -/
def survivesCard : Claim7 := { stood := { row := survivesRow, standIns := [], harness := (true, "e10beb0cab785e23903d88c9cc1c94730cdc4e8b14b84dcb4d0a39c4bd27cb80"), looks := true }, kinds := [], alts := [], laidByText := true, laidKinds := [.data, .data, .data, .sentinel, .sentinel, .data], laidTests := true, laidLooks := .later }
def SurvivesCardSaid : Prop := Claim7.holds Tryz.pinned (.plain (OpenSpec.ofChange survivesSpec)) survivesCard

/-- THE TIED CARD OF 'tideslaw.Faults'. -/
def faultsCard : Claim7 := { stood := { row := faultsRow, standIns := [], harness := (true, "e10beb0cab785e23903d88c9cc1c94730cdc4e8b14b84dcb4d0a39c4bd27cb80"), looks := true }, kinds := [], alts := [], laidByText := true, laidKinds := [.data, .data, .data, .sentinel, .sentinel, .data], laidTests := true, laidLooks := .later }
def FaultsCardSaid : Prop := Claim7.holds Tryz.pinned (.plain (OpenSpec.ofChange faultsSpec)) faultsCard

/-- THE TIED CARD OF 'tideslaw.Compacts'. -/
def compactsCard : Claim7 := { stood := { row := compactsRow, standIns := [], harness := (true, "e10beb0cab785e23903d88c9cc1c94730cdc4e8b14b84dcb4d0a39c4bd27cb80"), looks := true }, kinds := [], alts := [], laidByText := true, laidKinds := [.data, .data, .data, .sentinel, .sentinel, .data], laidTests := true, laidLooks := .later }
def CompactsCardSaid : Prop := Claim7.holds Tryz.pinned (.plain (OpenSpec.ofChange compactsSpec)) compactsCard

/-- THE TIED CARD OF 'tideslaw.All'. -/
def allCard : Claim7 := { stood := { row := allRow, standIns := [], harness := (true, "e10beb0cab785e23903d88c9cc1c94730cdc4e8b14b84dcb4d0a39c4bd27cb80"), looks := true }, kinds := [], alts := [], laidByText := true, laidKinds := [.data, .data, .data, .sentinel, .sentinel, .data], laidTests := true, laidLooks := .later }
def AllCardSaid : Prop := Claim7.holds Tryz.pinned (.plain (OpenSpec.ofChange allSpec)) allCard

/-- THE TIED CARD OF 'tideskeep.Passing'. -/
def passingCard : Claim7 := { stood := { row := passingRow, standIns := [], harness := (true, "e10beb0cab785e23903d88c9cc1c94730cdc4e8b14b84dcb4d0a39c4bd27cb80"), looks := true }, kinds := [], alts := [], laidByText := true, laidKinds := [.data, .data, .data, .sentinel, .sentinel, .data], laidTests := true, laidLooks := .later }
def PassingCardSaid : Prop := Claim7.holds Tryz.pinned (.plain (OpenSpec.ofChange passingSpec)) passingCard

/-- THE TIED CARD OF 'tideskeep.Kept'. -/
def keptCard : Claim7 := { stood := { row := keptRow, standIns := [], harness := (true, "e10beb0cab785e23903d88c9cc1c94730cdc4e8b14b84dcb4d0a39c4bd27cb80"), looks := true }, kinds := [], alts := [], laidByText := true, laidKinds := [.data, .data, .data, .sentinel, .sentinel, .data], laidTests := true, laidLooks := .later }
def KeptCardSaid : Prop := Claim7.holds Tryz.pinned (.plain (OpenSpec.ofChange keptSpec)) keptCard

/-- THE TIED CARD OF 'tideskeep.Wholly'. -/
def whollyCard : Claim7 := { stood := { row := whollyRow, standIns := [], harness := (true, "e10beb0cab785e23903d88c9cc1c94730cdc4e8b14b84dcb4d0a39c4bd27cb80"), looks := true }, kinds := [], alts := [], laidByText := true, laidKinds := [.data, .data, .data, .sentinel, .sentinel, .data], laidTests := true, laidLooks := .later }
def WhollyCardSaid : Prop := Claim7.holds Tryz.pinned (.plain (OpenSpec.ofChange whollySpec)) whollyCard

/-- THE TIED CARD OF 'tideskeep.Alike'. -/
def alikeCard : Claim7 := { stood := { row := alikeRow, standIns := [], harness := (true, "e10beb0cab785e23903d88c9cc1c94730cdc4e8b14b84dcb4d0a39c4bd27cb80"), looks := true }, kinds := [], alts := [], laidByText := true, laidKinds := [.data, .data, .data, .sentinel, .sentinel, .data], laidTests := true, laidLooks := .later }
def AlikeCardSaid : Prop := Claim7.holds Tryz.pinned (.plain (OpenSpec.ofChange alikeSpec)) alikeCard

/-- THE TIED CARD OF 'tideskeep.Spoilt'. -/
def spoiltCard : Claim7 := { stood := { row := spoiltRow, standIns := [], harness := (true, "e10beb0cab785e23903d88c9cc1c94730cdc4e8b14b84dcb4d0a39c4bd27cb80"), looks := true }, kinds := [], alts := [], laidByText := true, laidKinds := [.data, .data, .data, .sentinel, .sentinel, .data], laidTests := true, laidLooks := .later }
def SpoiltCardSaid : Prop := Claim7.holds Tryz.pinned (.plain (OpenSpec.ofChange spoiltSpec)) spoiltCard

/-- THE SECOND FORM's CARD OF 'tideslaw.Writes'. -/
def writesUptoCard : Claim7 := { stood := { row := writesUptoRow, standIns := [], harness := (true, "e10beb0cab785e23903d88c9cc1c94730cdc4e8b14b84dcb4d0a39c4bd27cb80"), looks := true }, kinds := [], alts := [], laidByText := true, laidKinds := [.data, .data, .data, .sentinel, .sentinel, .data], laidTests := true, laidLooks := .later }
def WritesUptoCardSaid : Prop := Claim7.holds Tryz.pinned (.plain (OpenSpec.upto writesSpec)) writesUptoCard

/-- THE SECOND FORM's CARD OF 'tideslaw.Reopens'. -/
def reopensUptoCard : Claim7 := { stood := { row := reopensUptoRow, standIns := [], harness := (true, "e10beb0cab785e23903d88c9cc1c94730cdc4e8b14b84dcb4d0a39c4bd27cb80"), looks := true }, kinds := [], alts := [], laidByText := true, laidKinds := [.data, .data, .data, .sentinel, .sentinel, .data], laidTests := true, laidLooks := .later }
def ReopensUptoCardSaid : Prop := Claim7.holds Tryz.pinned (.plain (OpenSpec.upto reopensSpec)) reopensUptoCard

/-- THE SECOND FORM's CARD OF 'tideslaw.Survives'. -/
def survivesUptoCard : Claim7 := { stood := { row := survivesUptoRow, standIns := [], harness := (true, "e10beb0cab785e23903d88c9cc1c94730cdc4e8b14b84dcb4d0a39c4bd27cb80"), looks := true }, kinds := [], alts := [], laidByText := true, laidKinds := [.data, .data, .data, .sentinel, .sentinel, .data], laidTests := true, laidLooks := .later }
def SurvivesUptoCardSaid : Prop := Claim7.holds Tryz.pinned (.plain (OpenSpec.upto survivesSpec)) survivesUptoCard

/-- THE SECOND FORM's CARD OF 'tideslaw.Faults'. -/
def faultsUptoCard : Claim7 := { stood := { row := faultsUptoRow, standIns := [], harness := (true, "e10beb0cab785e23903d88c9cc1c94730cdc4e8b14b84dcb4d0a39c4bd27cb80"), looks := true }, kinds := [], alts := [], laidByText := true, laidKinds := [.data, .data, .data, .sentinel, .sentinel, .data], laidTests := true, laidLooks := .later }
def FaultsUptoCardSaid : Prop := Claim7.holds Tryz.pinned (.plain (OpenSpec.upto faultsSpec)) faultsUptoCard

/-- THE SECOND FORM's CARD OF 'tideslaw.Compacts'. -/
def compactsUptoCard : Claim7 := { stood := { row := compactsUptoRow, standIns := [], harness := (true, "e10beb0cab785e23903d88c9cc1c94730cdc4e8b14b84dcb4d0a39c4bd27cb80"), looks := true }, kinds := [], alts := [], laidByText := true, laidKinds := [.data, .data, .data, .sentinel, .sentinel, .data], laidTests := true, laidLooks := .later }
def CompactsUptoCardSaid : Prop := Claim7.holds Tryz.pinned (.plain (OpenSpec.upto compactsSpec)) compactsUptoCard

/-- THE SECOND FORM's CARD OF 'tideslaw.All'. -/
def allUptoCard : Claim7 := { stood := { row := allUptoRow, standIns := [], harness := (true, "e10beb0cab785e23903d88c9cc1c94730cdc4e8b14b84dcb4d0a39c4bd27cb80"), looks := true }, kinds := [], alts := [], laidByText := true, laidKinds := [.data, .data, .data, .sentinel, .sentinel, .data], laidTests := true, laidLooks := .later }
def AllUptoCardSaid : Prop := Claim7.holds Tryz.pinned (.plain (OpenSpec.upto allSpec)) allUptoCard

/-- THE SECOND FORM's CARD OF 'tideskeep.Passing'. -/
def passingUptoCard : Claim7 := { stood := { row := passingUptoRow, standIns := [], harness := (true, "e10beb0cab785e23903d88c9cc1c94730cdc4e8b14b84dcb4d0a39c4bd27cb80"), looks := true }, kinds := [], alts := [], laidByText := true, laidKinds := [.data, .data, .data, .sentinel, .sentinel, .data], laidTests := true, laidLooks := .later }
def PassingUptoCardSaid : Prop := Claim7.holds Tryz.pinned (.plain (OpenSpec.upto passingSpec)) passingUptoCard

/-- THE SECOND FORM's CARD OF 'tideskeep.Kept'. -/
def keptUptoCard : Claim7 := { stood := { row := keptUptoRow, standIns := [], harness := (true, "e10beb0cab785e23903d88c9cc1c94730cdc4e8b14b84dcb4d0a39c4bd27cb80"), looks := true }, kinds := [], alts := [], laidByText := true, laidKinds := [.data, .data, .data, .sentinel, .sentinel, .data], laidTests := true, laidLooks := .later }
def KeptUptoCardSaid : Prop := Claim7.holds Tryz.pinned (.plain (OpenSpec.upto keptSpec)) keptUptoCard

/-- THE SECOND FORM's CARD OF 'tideskeep.Wholly'. -/
def whollyUptoCard : Claim7 := { stood := { row := whollyUptoRow, standIns := [], harness := (true, "e10beb0cab785e23903d88c9cc1c94730cdc4e8b14b84dcb4d0a39c4bd27cb80"), looks := true }, kinds := [], alts := [], laidByText := true, laidKinds := [.data, .data, .data, .sentinel, .sentinel, .data], laidTests := true, laidLooks := .later }
def WhollyUptoCardSaid : Prop := Claim7.holds Tryz.pinned (.plain (OpenSpec.upto whollySpec)) whollyUptoCard

/-- THE SECOND FORM's CARD OF 'tideskeep.Alike'. -/
def alikeUptoCard : Claim7 := { stood := { row := alikeUptoRow, standIns := [], harness := (true, "e10beb0cab785e23903d88c9cc1c94730cdc4e8b14b84dcb4d0a39c4bd27cb80"), looks := true }, kinds := [], alts := [], laidByText := true, laidKinds := [.data, .data, .data, .sentinel, .sentinel, .data], laidTests := true, laidLooks := .later }
def AlikeUptoCardSaid : Prop := Claim7.holds Tryz.pinned (.plain (OpenSpec.upto alikeSpec)) alikeUptoCard

/-- THE SECOND FORM's CARD OF 'tideskeep.Spoilt'. -/
def spoiltUptoCard : Claim7 := { stood := { row := spoiltUptoRow, standIns := [], harness := (true, "e10beb0cab785e23903d88c9cc1c94730cdc4e8b14b84dcb4d0a39c4bd27cb80"), looks := true }, kinds := [], alts := [], laidByText := true, laidKinds := [.data, .data, .data, .sentinel, .sentinel, .data], laidTests := true, laidLooks := .later }
def SpoiltUptoCardSaid : Prop := Claim7.holds Tryz.pinned (.plain (OpenSpec.upto spoiltSpec)) spoiltUptoCard
end Rows
end Go.Proofs.YtodcnkbblippnaaGreatDoor
