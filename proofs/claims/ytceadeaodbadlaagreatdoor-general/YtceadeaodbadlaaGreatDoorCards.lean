/-
  DERIVED. GIVEN WITH THE SEED: THE CARDS: each row of YtceadeaodbadlaaGreatDoorRows.lean that lists a variable, with what it lists TIED to the program's text (the seventh form; the later family's looks); each row that meets fmt, with fmt's text TOLD by the authors' own Lean function (tested against real Go, not proved from fmt's source: count such statements apart). THE CARD IS WHAT COUNTS. Prove the row's statement (the work); the ties are given (YtceadeaodbadlaaGreatDoorTie.lean); close each card by the builder's one call (the guide's Derived/Test/ToyasCard.lean, 'card_holds'). Laid BY PROGRAM, IN A SANDBOX (cutbox-door.mjs). By AI agents, Wed Nov 11 2026. No macro, syntax, notation, axiom, sorry.
-/
import Derived.Test.YtceadeaodbadlaaGreatDoorRows
import GoSem.ClaimSeven
namespace Go.Proofs.YtceadeaodbadlaaGreatDoor
namespace Rows

/-- THE TIED CARD OF 'shapelaw.Prints'. -/
def printsCard : Claim7 := { stood := { row := printsRow, standIns := [], harness := (true, "7a7ad982e969d15451ef5a6d2c73a2d5038f2a3e02c90a551025bb01c99e837f"), looks := true }, kinds := [], alts := [], laidByText := true, laidKinds := [.handle, .sentinel, .sentinel, .sentinel, .sentinel, .sentinel, .sentinel, .sentinel, .sentinel], laidTests := true, laidLooks := .later }
def PrintsCardSaid : Prop := Claim7.holds Tryz.pinned (.plain (OpenSpec.ofChange printsSpec)) printsCard

/-- THE TIED CARD OF 'shapelaw.Checks'. -/
def checksCard : Claim7 := { stood := { row := checksRow, standIns := [], harness := (true, "7a7ad982e969d15451ef5a6d2c73a2d5038f2a3e02c90a551025bb01c99e837f"), looks := true }, kinds := [], alts := [], laidByText := true, laidKinds := [.handle, .sentinel, .sentinel, .sentinel, .sentinel, .sentinel, .sentinel, .sentinel, .sentinel, .data], laidTests := true, laidLooks := .later }
def ChecksCardSaid : Prop := Claim7.holds Tryz.pinned (.plain (OpenSpec.ofChange checksSpec)) checksCard

/-- THE TIED CARD OF 'shapelaw.Opened'. -/
def openedCard : Claim7 := { stood := { row := openedRow, standIns := [], harness := (true, "7a7ad982e969d15451ef5a6d2c73a2d5038f2a3e02c90a551025bb01c99e837f"), looks := true }, kinds := [], alts := [], laidByText := true, laidKinds := [.handle, .sentinel, .sentinel, .sentinel, .sentinel, .sentinel, .sentinel, .sentinel, .sentinel, .data], laidTests := true, laidLooks := .later }
def OpenedCardSaid : Prop := Claim7.holds Tryz.pinned (.plain (OpenSpec.ofChange openedSpec)) openedCard

/-- THE TIED CARD OF 'shapelaw.Shown'. -/
def shownCard : Claim7 := { stood := { row := shownRow, standIns := [], harness := (true, "7a7ad982e969d15451ef5a6d2c73a2d5038f2a3e02c90a551025bb01c99e837f"), looks := true }, kinds := [], alts := [], laidByText := true, laidKinds := [.handle, .sentinel, .sentinel, .sentinel, .sentinel, .sentinel, .sentinel, .sentinel, .sentinel, .data], laidTests := true, laidLooks := .later }
def ShownCardSaid : Prop := Claim7.holds Tryz.pinned (.plain (OpenSpec.ofChange shownSpec)) shownCard

/-- THE TIED CARD OF 'shapelaw.General'. -/
def generalCard : Claim7 := { stood := { row := generalRow, standIns := [], harness := (true, "7a7ad982e969d15451ef5a6d2c73a2d5038f2a3e02c90a551025bb01c99e837f"), looks := true }, kinds := [], alts := [], laidByText := true, laidKinds := [.handle, .sentinel, .sentinel, .sentinel, .sentinel, .sentinel, .sentinel, .sentinel, .sentinel, .data], laidTests := true, laidLooks := .later }
def GeneralCardSaid : Prop := Claim7.holds Tryz.pinned (.plain (OpenSpec.ofChange generalSpec)) generalCard

/-- THE TIED CARD OF 'shapelaw.Own'. -/
def ownCard : Claim7 := { stood := { row := ownRow, standIns := [], harness := (true, "7a7ad982e969d15451ef5a6d2c73a2d5038f2a3e02c90a551025bb01c99e837f"), looks := true }, kinds := [], alts := [], laidByText := true, laidKinds := [.handle, .sentinel, .sentinel, .sentinel, .sentinel, .sentinel, .sentinel, .sentinel, .sentinel, .data], laidTests := true, laidLooks := .later }
def OwnCardSaid : Prop := Claim7.holds Tryz.pinned (.plain (OpenSpec.ofChange ownSpec)) ownCard

/-- THE TIED CARD OF 'shapelaw.Called'. -/
def calledCard : Claim7 := { stood := { row := calledRow, standIns := [], harness := (true, "7a7ad982e969d15451ef5a6d2c73a2d5038f2a3e02c90a551025bb01c99e837f"), looks := true }, kinds := [], alts := [], laidByText := true, laidKinds := [.handle, .sentinel, .sentinel, .sentinel, .sentinel, .sentinel, .sentinel, .sentinel, .sentinel, .data], laidTests := true, laidLooks := .later }
def CalledCardSaid : Prop := Claim7.holds Tryz.pinned (.plain (OpenSpec.ofChange calledSpec)) calledCard

/-- THE TIED CARD OF 'shapelaw.Unwound'. -/
def unwoundCard : Claim7 := { stood := { row := unwoundRow, standIns := [], harness := (true, "7a7ad982e969d15451ef5a6d2c73a2d5038f2a3e02c90a551025bb01c99e837f"), looks := true }, kinds := [], alts := [], laidByText := true, laidKinds := [.handle, .sentinel, .sentinel, .sentinel, .sentinel, .sentinel, .sentinel, .sentinel, .sentinel, .data], laidTests := true, laidLooks := .later }
def UnwoundCardSaid : Prop := Claim7.holds Tryz.pinned (.plain (OpenSpec.ofChange unwoundSpec)) unwoundCard

/-- THE TIED CARD OF 'shapelaw.All'. -/
def allCard : Claim7 := { stood := { row := allRow, standIns := [], harness := (true, "7a7ad982e969d15451ef5a6d2c73a2d5038f2a3e02c90a551025bb01c99e837f"), looks := true }, kinds := [], alts := [], laidByText := true, laidKinds := [.handle, .sentinel, .sentinel, .sentinel, .sentinel, .sentinel, .sentinel, .sentinel, .sentinel, .data], laidTests := true, laidLooks := .later }
def AllCardSaid : Prop := Claim7.holds Tryz.pinned (.plain (OpenSpec.ofChange allSpec)) allCard

/-- THE SECOND FORM's CARD OF 'shapelaw.Prints'. -/
def printsUptoCard : Claim7 := { stood := { row := printsUptoRow, standIns := [], harness := (true, "7a7ad982e969d15451ef5a6d2c73a2d5038f2a3e02c90a551025bb01c99e837f"), looks := true }, kinds := [], alts := [], laidByText := true, laidKinds := [.handle, .sentinel, .sentinel, .sentinel, .sentinel, .sentinel, .sentinel, .sentinel, .sentinel], laidTests := true, laidLooks := .later }
def PrintsUptoCardSaid : Prop := Claim7.holds Tryz.pinned (.plain (OpenSpec.upto printsSpec)) printsUptoCard

/-- THE SECOND FORM's CARD OF 'shapelaw.Checks'. -/
def checksUptoCard : Claim7 := { stood := { row := checksUptoRow, standIns := [], harness := (true, "7a7ad982e969d15451ef5a6d2c73a2d5038f2a3e02c90a551025bb01c99e837f"), looks := true }, kinds := [], alts := [], laidByText := true, laidKinds := [.handle, .sentinel, .sentinel, .sentinel, .sentinel, .sentinel, .sentinel, .sentinel, .sentinel, .data], laidTests := true, laidLooks := .later }
def ChecksUptoCardSaid : Prop := Claim7.holds Tryz.pinned (.plain (OpenSpec.upto checksSpec)) checksUptoCard

/-- THE SECOND FORM's CARD OF 'shapelaw.Opened'. -/
def openedUptoCard : Claim7 := { stood := { row := openedUptoRow, standIns := [], harness := (true, "7a7ad982e969d15451ef5a6d2c73a2d5038f2a3e02c90a551025bb01c99e837f"), looks := true }, kinds := [], alts := [], laidByText := true, laidKinds := [.handle, .sentinel, .sentinel, .sentinel, .sentinel, .sentinel, .sentinel, .sentinel, .sentinel, .data], laidTests := true, laidLooks := .later }
def OpenedUptoCardSaid : Prop := Claim7.holds Tryz.pinned (.plain (OpenSpec.upto openedSpec)) openedUptoCard

/-- THE SECOND FORM's CARD OF 'shapelaw.Shown'. -/
def shownUptoCard : Claim7 := { stood := { row := shownUptoRow, standIns := [], harness := (true, "7a7ad982e969d15451ef5a6d2c73a2d5038f2a3e02c90a551025bb01c99e837f"), looks := true }, kinds := [], alts := [], laidByText := true, laidKinds := [.handle, .sentinel, .sentinel, .sentinel, .sentinel, .sentinel, .sentinel, .sentinel, .sentinel, .data], laidTests := true, laidLooks := .later }
def ShownUptoCardSaid : Prop := Claim7.holds Tryz.pinned (.plain (OpenSpec.upto shownSpec)) shownUptoCard

/-- THE SECOND FORM's CARD OF 'shapelaw.General'. -/
def generalUptoCard : Claim7 := { stood := { row := generalUptoRow, standIns := [], harness := (true, "7a7ad982e969d15451ef5a6d2c73a2d5038f2a3e02c90a551025bb01c99e837f"), looks := true }, kinds := [], alts := [], laidByText := true, laidKinds := [.handle, .sentinel, .sentinel, .sentinel, .sentinel, .sentinel, .sentinel, .sentinel, .sentinel, .data], laidTests := true, laidLooks := .later }
def GeneralUptoCardSaid : Prop := Claim7.holds Tryz.pinned (.plain (OpenSpec.upto generalSpec)) generalUptoCard

/-- THE SECOND FORM's CARD OF 'shapelaw.Own'. -/
def ownUptoCard : Claim7 := { stood := { row := ownUptoRow, standIns := [], harness := (true, "7a7ad982e969d15451ef5a6d2c73a2d5038f2a3e02c90a551025bb01c99e837f"), looks := true }, kinds := [], alts := [], laidByText := true, laidKinds := [.handle, .sentinel, .sentinel, .sentinel, .sentinel, .sentinel, .sentinel, .sentinel, .sentinel, .data], laidTests := true, laidLooks := .later }
def OwnUptoCardSaid : Prop := Claim7.holds Tryz.pinned (.plain (OpenSpec.upto ownSpec)) ownUptoCard

/-- THE SECOND FORM's CARD OF 'shapelaw.Called'. -/
def calledUptoCard : Claim7 := { stood := { row := calledUptoRow, standIns := [], harness := (true, "7a7ad982e969d15451ef5a6d2c73a2d5038f2a3e02c90a551025bb01c99e837f"), looks := true }, kinds := [], alts := [], laidByText := true, laidKinds := [.handle, .sentinel, .sentinel, .sentinel, .sentinel, .sentinel, .sentinel, .sentinel, .sentinel, .data], laidTests := true, laidLooks := .later }
def CalledUptoCardSaid : Prop := Claim7.holds Tryz.pinned (.plain (OpenSpec.upto calledSpec)) calledUptoCard

/-- THE SECOND FORM's CARD OF 'shapelaw.Unwound'. -/
def unwoundUptoCard : Claim7 := { stood := { row := unwoundUptoRow, standIns := [], harness := (true, "7a7ad982e969d15451ef5a6d2c73a2d5038f2a3e02c90a551025bb01c99e837f"), looks := true }, kinds := [], alts := [], laidByText := true, laidKinds := [.handle, .sentinel, .sentinel, .sentinel, .sentinel, .sentinel, .sentinel, .sentinel, .sentinel, .data], laidTests := true, laidLooks := .later }
def UnwoundUptoCardSaid : Prop := Claim7.holds Tryz.pinned (.plain (OpenSpec.upto unwoundSpec)) unwoundUptoCard

/-- THE SECOND FORM's CARD OF 'shapelaw.All'. -/
def allUptoCard : Claim7 := { stood := { row := allUptoRow, standIns := [], harness := (true, "7a7ad982e969d15451ef5a6d2c73a2d5038f2a3e02c90a551025bb01c99e837f"), looks := true }, kinds := [], alts := [], laidByText := true, laidKinds := [.handle, .sentinel, .sentinel, .sentinel, .sentinel, .sentinel, .sentinel, .sentinel, .sentinel, .data], laidTests := true, laidLooks := .later }
def AllUptoCardSaid : Prop := Claim7.holds Tryz.pinned (.plain (OpenSpec.upto allSpec)) allUptoCard
end Rows
end Go.Proofs.YtceadeaodbadlaaGreatDoor
