/-
  DERIVED. GIVEN WITH THE SEED: THE PROGRAM's TIES (one call each: nine closed facts by the kernel) AND EACH ROW's TIE, after the 31st guide's Derived/Test/Toyas{Tie, Card}.lean. No idea stands in it: it is a product of the set-up. Laid BY PROGRAM, IN A SANDBOX (cutbox-door.mjs). By AI agents, Wed Nov 11 2026. No macro, syntax, notation, axiom, sorry.
-/
import Derived.Test.YtceadeaodbadlaaDoorRows
import Derived.LaidByTextLater
import Derived.SevenTiedAt
import Derived.LaidSub
import Derived.LaidOnce
namespace Go.Proofs.YtceadeaodbadlaaDoor
open Go
set_option maxRecDepth 100000
theorem seatTie1 : Tryd.prog.laidByTextLater [("errors.errorType", Rows.laid_errors_errorType), ("shape/fault.Long", Rows.laid_shape_fault_Long), ("shape/fault.Text", Rows.laid_shape_fault_Text), ("shape/fault.Free", Rows.laid_shape_fault_Free), ("shape/fault.Count", Rows.laid_shape_fault_Count), ("shape/fault.Mixed", Rows.laid_shape_fault_Mixed), ("shape/fault.Fixed", Rows.laid_shape_fault_Fixed), ("shape/fault.Type", Rows.laid_shape_fault_Type), ("shape/fault.Big", Rows.laid_shape_fault_Big)] [.handle, .sentinel, .sentinel, .sentinel, .sentinel, .sentinel, .sentinel, .sentinel, .sentinel] true :=
  Program.laidByTextLater_by_one 168 8 2 (by kernel_rfl) (by kernel_rfl) (by kernel_rfl) (by kernel_rfl) (by kernel_rfl) (by kernel_rfl) (fun _ _ => by kernel_rfl)
theorem noOwnUnsafe : Tryd.pinned.checked.prog.headLifts.contains "ownunsafe" = false := by kernel_rfl
theorem tie : Tryd.prog.laidByTextLater [("errors.errorType", Rows.laid_errors_errorType), ("shape/fault.Long", Rows.laid_shape_fault_Long), ("shape/fault.Text", Rows.laid_shape_fault_Text), ("shape/fault.Free", Rows.laid_shape_fault_Free), ("shape/fault.Count", Rows.laid_shape_fault_Count), ("shape/fault.Mixed", Rows.laid_shape_fault_Mixed), ("shape/fault.Fixed", Rows.laid_shape_fault_Fixed), ("shape/fault.Type", Rows.laid_shape_fault_Type), ("shape/fault.Big", Rows.laid_shape_fault_Big)] [.handle, .sentinel, .sentinel, .sentinel, .sentinel, .sentinel, .sentinel, .sentinel, .sentinel] true :=
  Program.laidByTextLater.sub seatTie1 ["errors.errorType", "shape/fault.Long", "shape/fault.Text", "shape/fault.Free", "shape/fault.Count", "shape/fault.Mixed", "shape/fault.Fixed", "shape/fault.Type", "shape/fault.Big"] (by kernel_rfl) (by kernel_rfl)
theorem instances_row_tie : Rows.instancesRow.laidByTextAt .later Tryd.pinned [.handle, .sentinel, .sentinel, .sentinel, .sentinel, .sentinel, .sentinel, .sentinel, .sentinel] true :=
  OpenClaim.laidByTextAt_later rfl rfl tie noOwnUnsafe
theorem ordered_row_tie : Rows.orderedRow.laidByTextAt .later Tryd.pinned [.handle, .sentinel, .sentinel, .sentinel, .sentinel, .sentinel, .sentinel, .sentinel, .sentinel] true :=
  OpenClaim.laidByTextAt_later rfl rfl tie noOwnUnsafe
theorem instancesUpto_row_tie : Rows.instancesUptoRow.laidByTextAt .later Tryd.pinned [.handle, .sentinel, .sentinel, .sentinel, .sentinel, .sentinel, .sentinel, .sentinel, .sentinel] true :=
  OpenClaim.laidByTextAt_later rfl rfl tie noOwnUnsafe
theorem orderedUpto_row_tie : Rows.orderedUptoRow.laidByTextAt .later Tryd.pinned [.handle, .sentinel, .sentinel, .sentinel, .sentinel, .sentinel, .sentinel, .sentinel, .sentinel] true :=
  OpenClaim.laidByTextAt_later rfl rfl tie noOwnUnsafe
end Go.Proofs.YtceadeaodbadlaaDoor
