/-
  DERIVED. GIVEN WITH THE SEED: THE CARDS: each row of YtceadeaodbadlaaDoorRows.lean that lists a variable, with what it lists TIED to the program's text (the seventh form; the later family's looks); each row that meets fmt, with fmt's text TOLD by the authors' own Lean function (tested against real Go, not proved from fmt's source: count such statements apart). THE CARD IS WHAT COUNTS. Prove the row's statement (the work); the ties are given (YtceadeaodbadlaaDoorTie.lean); close each card by the builder's one call (the guide's Derived/Test/ToyasCard.lean, 'card_holds'). Laid BY PROGRAM, IN A SANDBOX (cutbox-door.mjs). By AI agents, Wed Nov 11 2026. No macro, syntax, notation, axiom, sorry.
-/
import Derived.Test.YtceadeaodbadlaaDoorRows
import GoSem.ClaimSeven
namespace Go.Proofs.YtceadeaodbadlaaDoor
namespace Rows

/-- THE TIED CARD OF 'shapelaw.Instances'. -/
def instancesCard : Claim7 := { stood := { row := instancesRow, standIns := [], harness := (true, "2847ad0dce619d67d57659cf8f3ab08fcacdb21f39eebbc3d3b73881c03042bc"), looks := true }, kinds := [], alts := [], laidByText := true, laidKinds := [.handle, .sentinel, .sentinel, .sentinel, .sentinel, .sentinel, .sentinel, .sentinel, .sentinel], laidTests := true, laidLooks := .later }
def InstancesCardSaid : Prop := Claim7.holds Tryd.pinned (.plain (OpenSpec.ofChange instancesSpec)) instancesCard

/-- THE TIED CARD OF 'shapelaw.Ordered'. -/
def orderedCard : Claim7 := { stood := { row := orderedRow, standIns := [], harness := (true, "2847ad0dce619d67d57659cf8f3ab08fcacdb21f39eebbc3d3b73881c03042bc"), looks := true }, kinds := [], alts := [], laidByText := true, laidKinds := [.handle, .sentinel, .sentinel, .sentinel, .sentinel, .sentinel, .sentinel, .sentinel, .sentinel], laidTests := true, laidLooks := .later }
def OrderedCardSaid : Prop := Claim7.holds Tryd.pinned (.plain (OpenSpec.ofChange orderedSpec)) orderedCard

/-- THE SECOND FORM's CARD OF 'shapelaw.Instances'. -/
def instancesUptoCard : Claim7 := { stood := { row := instancesUptoRow, standIns := [], harness := (true, "2847ad0dce619d67d57659cf8f3ab08fcacdb21f39eebbc3d3b73881c03042bc"), looks := true }, kinds := [], alts := [], laidByText := true, laidKinds := [.handle, .sentinel, .sentinel, .sentinel, .sentinel, .sentinel, .sentinel, .sentinel, .sentinel], laidTests := true, laidLooks := .later }
def InstancesUptoCardSaid : Prop := Claim7.holds Tryd.pinned (.plain (OpenSpec.upto instancesSpec)) instancesUptoCard

/-- THE SECOND FORM's CARD OF 'shapelaw.Ordered'. -/
def orderedUptoCard : Claim7 := { stood := { row := orderedUptoRow, standIns := [], harness := (true, "2847ad0dce619d67d57659cf8f3ab08fcacdb21f39eebbc3d3b73881c03042bc"), looks := true }, kinds := [], alts := [], laidByText := true, laidKinds := [.handle, .sentinel, .sentinel, .sentinel, .sentinel, .sentinel, .sentinel, .sentinel, .sentinel], laidTests := true, laidLooks := .later }
def OrderedUptoCardSaid : Prop := Claim7.holds Tryd.pinned (.plain (OpenSpec.upto orderedSpec)) orderedUptoCard
end Rows
end Go.Proofs.YtceadeaodbadlaaDoor
