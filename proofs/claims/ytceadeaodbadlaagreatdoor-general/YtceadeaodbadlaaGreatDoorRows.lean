/-
  NARROWER THAN 'FOR EVERY INPUT', by the rows' own cells (each row's printed sentence says how): Prints: laid · Checks: laid · Opened: laid · Shown: laid · General: laid · Own: laid · Called: laid · Unwound: laid · All: laid.
  DERIVED. THE GIVEN ROWS OF THIS SEAT. 9 by the template 'for every input the law returns true; each argument reads behind the call as it read before'; 0 by the template 'total and deterministic' (their statements: YtceadeaodbadlaaGreatDoorTotals.lean).
  GIVEN WITH THE SEED: the statements are not yours to turn. If you find one false, say at which input.
  Laid BY PROGRAM, IN A SANDBOX (cutbox-rows.mjs): the forced cells as the released guide's own fill.sh prints them over the translation 068962c7890c6df3… (all of the seat's roots in one cut). By AI agents, Wed Nov 11 2026. No macro, syntax, notation, axiom, sorry.
-/
import Derived.Test.YtceadeaodbadlaaGreatDoorChecked
import GoSem.Claim
import GoSem.ClaimJoined
import GoSem.ClaimMapViews
import Derived.JoinedTies
import Derived.KernelRfl
namespace Go.Proofs.YtceadeaodbadlaaGreatDoor
/- THE CELL 'sum', in the pinned program and in every row, IS THE sha256 OF THE DUMP (.gsa) THAT YtceadeaodbadlaaGreatDoorProg.lean LOADS. Nothing in Lean hashes anything: it is a label: what it is worth is what the hold of that sum in a sandbox is worth. -/
noncomputable def Tryz.pinned : Pinned := { name := "ytceadeaodbadlaagreatdoor", sum := "068962c7890c6df3ca6f71b3266a3e685f1570a46b10417be4e3ff870fec4892", checked := Tryz.checked }
namespace Rows
def none {H : Type} : Left H := { results := [], args := [] }

/- WHAT THE LISTED PACKAGE-LEVEL VARIABLES READ AS WHEN THE CALL BEGINS. Each datum BY PROGRAM (the guide's laid-datum.mjs) off the statement by which the dump's own 'gosem.cut.vars' lays the variable. In a bare row this is a premise. The card (YtceadeaodbadlaaGreatDoorCards.lean) ties it to the program's text. -/
def laid_errors_errorType {H : Type} : DataW H := .iface "internal/reflectlite.rtype" (.agg [.ptr (.lit (.string [101, 114, 114, 111, 114]))])
def laid_shape_fault_Long {H : Type} : DataW H := .iface "*errors.errorString" (.ptr (.agg [.lit (.string [116, 104, 101, 32, 116, 101, 120, 116, 32, 105, 115, 32, 116, 111, 111, 32, 108, 111, 110, 103])]))
def laid_shape_fault_Text {H : Type} : DataW H := .iface "*errors.errorString" (.ptr (.agg [.lit (.string [116, 104, 101, 114, 101, 32, 105, 115, 32, 110, 111, 32, 115, 117, 99, 104, 32, 116, 101, 120, 116])]))
def laid_shape_fault_Free {H : Type} : DataW H := .iface "*errors.errorString" (.ptr (.agg [.lit (.string [110, 111, 116, 104, 105, 110, 103, 32, 115, 97, 121, 115, 32, 119, 104, 97, 116, 32, 116, 104, 101, 32, 110, 97, 109, 101, 32, 115, 116, 97, 110, 100, 115, 32, 102, 111, 114])]))
def laid_shape_fault_Count {H : Type} : DataW H := .iface "*errors.errorString" (.ptr (.agg [.lit (.string [116, 104, 101, 114, 101, 32, 97, 114, 101, 32, 109, 111, 114, 101, 32, 111, 114, 32, 102, 101, 119, 101, 114, 32, 116, 121, 112, 101, 115, 32, 116, 104, 97, 110, 32, 118, 97, 114, 105, 97, 98, 108, 101, 115])]))
def laid_shape_fault_Mixed {H : Type} : DataW H := .iface "*errors.errorString" (.ptr (.agg [.lit (.string [116, 104, 101, 32, 111, 110, 101, 32, 99, 97, 110, 39, 116, 32, 98, 101, 32, 99, 97, 108, 108, 101, 100, 32, 119, 105, 116, 104, 32, 116, 104, 101, 32, 111, 116, 104, 101, 114])]))
def laid_shape_fault_Fixed {H : Type} : DataW H := .iface "*errors.errorString" (.ptr (.agg [.lit (.string [116, 104, 101, 32, 118, 97, 114, 105, 97, 98, 108, 101, 32, 109, 97, 121, 32, 110, 111, 116, 32, 98, 101, 32, 116, 97, 107, 101, 110, 32, 102, 111, 114, 32, 97, 110, 121, 116, 104, 105, 110, 103])]))
def laid_shape_fault_Type {H : Type} : DataW H := .iface "*errors.errorString" (.ptr (.agg [.lit (.string [116, 104, 101, 114, 101, 32, 105, 115, 32, 110, 111, 32, 116, 121, 112, 101])]))
def laid_shape_fault_Big {H : Type} : DataW H := .iface "*errors.errorString" (.ptr (.agg [.lit (.string [116, 104, 101, 32, 116, 121, 112, 101, 32, 105, 115, 32, 116, 111, 111, 32, 98, 105, 103])]))
def laid_shape_scheme_constants {H : Type} : DataW H := .agg [.agg [.lit (.int .u8 78), .lit (.string [91, 97, 93]), .lit (.string [97])], .agg [.lit (.int .u8 67), .lit (.string [97, 62, 91, 97, 93, 62, 91, 97, 93]), .lit (.string [97])], .agg [.lit (.int .u8 80), .lit (.string [97, 62, 98, 62, 97, 42, 98]), .lit (.string [97, 98])], .agg [.lit (.int .u8 76), .lit (.string [97, 42, 98, 62, 97]), .lit (.string [97, 98])], .agg [.lit (.int .u8 82), .lit (.string [97, 42, 98, 62, 98]), .lit (.string [97, 98])], .agg [.lit (.int .u8 74), .lit (.string [66, 62, 97, 62, 97, 62, 97]), .lit (.string [97])], .agg [.lit (.int .u8 69), .lit (.string [73, 62, 73, 62, 66]), .lit (.string [])], .agg [.lit (.int .u8 65), .lit (.string [73, 62, 73, 62, 73]), .lit (.string [])], .agg [.lit (.int .u8 89), .lit (.string [40, 97, 62, 97, 41, 62, 97]), .lit (.string [97])], .agg [.lit (.int .u8 68), .lit (.string [40, 97, 62, 98, 62, 98, 41, 62, 98, 62, 91, 97, 93, 62, 98]), .lit (.string [97, 98])]]

/-- 'shapelaw.Prints': WHATEVER THE INPUT: true; the input reads as it did. -/
def printsSpec : ChangeSpec := { name := "prints", fn := fun _ => fun
  | [d] => { results := [.lit (.bool true)], args := [d] }
  | _ => none }
def printsRow : OpenClaim := { program := "ytceadeaodbadlaagreatdoor", sum := "068962c7890c6df3ca6f71b3266a3e685f1570a46b10417be4e3ff870fec4892", func := "shape/shapelaw.Prints", spec := "prints", inPlace := ["internal/bytealg.IndexByteString", "internal/abi.NoEscape", "internal/bytealg.MakeNoZero", "internal/reflectlite.TypeOf", "internal/reflectlite.ValueOf", "(internal/reflectlite.Value).Type", "(internal/reflectlite.Value).IsNil", "(internal/reflectlite.Value).Elem", "(internal/reflectlite.Value).Set"], unfollowed := true, recurses := true, named := ["shape/fault.Long", "shape/fault.Text", "shape/fault.Free", "shape/fault.Count", "shape/fault.Mixed", "shape/fault.Fixed", "shape/fault.Type", "shape/fault.Big", "errors.errorType"], plainKeys := false, apart := false, laid := [("errors.errorType", laid_errors_errorType), ("shape/fault.Long", laid_shape_fault_Long), ("shape/fault.Text", laid_shape_fault_Text), ("shape/fault.Free", laid_shape_fault_Free), ("shape/fault.Count", laid_shape_fault_Count), ("shape/fault.Mixed", laid_shape_fault_Mixed), ("shape/fault.Fixed", laid_shape_fault_Fixed), ("shape/fault.Type", laid_shape_fault_Type), ("shape/fault.Big", laid_shape_fault_Big)] }
def PrintsSaid : Prop := printsRow.holds Tryz.pinned (OpenSpec.ofChange printsSpec)

/-- ITS FALSE NEIGHBOUR: 'it returns false'. Refute it at one input. -/
def printsWrong : ChangeSpec := { name := "prints", fn := fun _ => fun
  | [d] => { results := [.lit (.bool false)], args := [d] }
  | _ => none }
def PrintsWrongFalsely : Prop := printsRow.holds Tryz.pinned (OpenSpec.ofChange printsWrong)

/-- 'shapelaw.Checks': WHATEVER THE INPUT: true; the input reads as it did. -/
def checksSpec : ChangeSpec := { name := "checks", fn := fun _ => fun
  | [d] => { results := [.lit (.bool true)], args := [d] }
  | _ => none }
def checksRow : OpenClaim := { program := "ytceadeaodbadlaagreatdoor", sum := "068962c7890c6df3ca6f71b3266a3e685f1570a46b10417be4e3ff870fec4892", func := "shape/shapelaw.Checks", spec := "checks", inPlace := ["internal/bytealg.IndexByteString", "internal/abi.NoEscape", "internal/bytealg.MakeNoZero", "internal/reflectlite.TypeOf", "internal/reflectlite.ValueOf", "(internal/reflectlite.Value).Type", "(internal/reflectlite.Value).IsNil", "(internal/reflectlite.Value).Elem", "(internal/reflectlite.Value).Set"], unfollowed := true, recurses := true, named := ["shape/fault.Long", "shape/fault.Text", "shape/fault.Free", "shape/fault.Count", "shape/fault.Big", "shape/scheme.constants", "shape/fault.Fixed", "shape/fault.Mixed", "shape/fault.Type", "errors.errorType"], plainKeys := false, apart := false, laid := [("errors.errorType", laid_errors_errorType), ("shape/fault.Long", laid_shape_fault_Long), ("shape/fault.Text", laid_shape_fault_Text), ("shape/fault.Free", laid_shape_fault_Free), ("shape/fault.Count", laid_shape_fault_Count), ("shape/fault.Mixed", laid_shape_fault_Mixed), ("shape/fault.Fixed", laid_shape_fault_Fixed), ("shape/fault.Type", laid_shape_fault_Type), ("shape/fault.Big", laid_shape_fault_Big), ("shape/scheme.constants", laid_shape_scheme_constants)] }
def ChecksSaid : Prop := checksRow.holds Tryz.pinned (OpenSpec.ofChange checksSpec)

/-- ITS FALSE NEIGHBOUR: 'it returns false'. Refute it at one input. -/
def checksWrong : ChangeSpec := { name := "checks", fn := fun _ => fun
  | [d] => { results := [.lit (.bool false)], args := [d] }
  | _ => none }
def ChecksWrongFalsely : Prop := checksRow.holds Tryz.pinned (OpenSpec.ofChange checksWrong)

/-- 'shapelaw.Opened': WHATEVER THE INPUT: true; the input reads as it did. -/
def openedSpec : ChangeSpec := { name := "opened", fn := fun _ => fun
  | [d] => { results := [.lit (.bool true)], args := [d] }
  | _ => none }
def openedRow : OpenClaim := { program := "ytceadeaodbadlaagreatdoor", sum := "068962c7890c6df3ca6f71b3266a3e685f1570a46b10417be4e3ff870fec4892", func := "shape/shapelaw.Opened", spec := "opened", inPlace := ["internal/bytealg.IndexByteString", "internal/abi.NoEscape", "internal/bytealg.MakeNoZero", "internal/reflectlite.TypeOf", "internal/reflectlite.ValueOf", "(internal/reflectlite.Value).Type", "(internal/reflectlite.Value).IsNil", "(internal/reflectlite.Value).Elem", "(internal/reflectlite.Value).Set"], unfollowed := true, recurses := true, named := ["shape/fault.Long", "shape/fault.Text", "shape/fault.Free", "shape/scheme.constants", "shape/fault.Type", "shape/fault.Count", "shape/fault.Mixed", "shape/fault.Fixed", "shape/fault.Big", "errors.errorType"], plainKeys := false, apart := false, laid := [("errors.errorType", laid_errors_errorType), ("shape/fault.Long", laid_shape_fault_Long), ("shape/fault.Text", laid_shape_fault_Text), ("shape/fault.Free", laid_shape_fault_Free), ("shape/fault.Count", laid_shape_fault_Count), ("shape/fault.Mixed", laid_shape_fault_Mixed), ("shape/fault.Fixed", laid_shape_fault_Fixed), ("shape/fault.Type", laid_shape_fault_Type), ("shape/fault.Big", laid_shape_fault_Big), ("shape/scheme.constants", laid_shape_scheme_constants)] }
def OpenedSaid : Prop := openedRow.holds Tryz.pinned (OpenSpec.ofChange openedSpec)

/-- ITS FALSE NEIGHBOUR: 'it returns false'. Refute it at one input. -/
def openedWrong : ChangeSpec := { name := "opened", fn := fun _ => fun
  | [d] => { results := [.lit (.bool false)], args := [d] }
  | _ => none }
def OpenedWrongFalsely : Prop := openedRow.holds Tryz.pinned (OpenSpec.ofChange openedWrong)

/-- 'shapelaw.Shown': WHATEVER THE INPUT: true; the input reads as it did. -/
def shownSpec : ChangeSpec := { name := "shown", fn := fun _ => fun
  | [d] => { results := [.lit (.bool true)], args := [d] }
  | _ => none }
def shownRow : OpenClaim := { program := "ytceadeaodbadlaagreatdoor", sum := "068962c7890c6df3ca6f71b3266a3e685f1570a46b10417be4e3ff870fec4892", func := "shape/shapelaw.Shown", spec := "shown", inPlace := ["internal/bytealg.IndexByteString", "internal/abi.NoEscape", "internal/bytealg.MakeNoZero", "internal/reflectlite.TypeOf", "internal/reflectlite.ValueOf", "(internal/reflectlite.Value).Type", "(internal/reflectlite.Value).IsNil", "(internal/reflectlite.Value).Elem", "(internal/reflectlite.Value).Set"], unfollowed := true, recurses := true, named := ["shape/fault.Long", "shape/fault.Text", "shape/fault.Free", "shape/scheme.constants", "shape/fault.Type", "shape/fault.Count", "shape/fault.Mixed", "shape/fault.Fixed", "shape/fault.Big", "errors.errorType"], plainKeys := false, apart := false, laid := [("errors.errorType", laid_errors_errorType), ("shape/fault.Long", laid_shape_fault_Long), ("shape/fault.Text", laid_shape_fault_Text), ("shape/fault.Free", laid_shape_fault_Free), ("shape/fault.Count", laid_shape_fault_Count), ("shape/fault.Mixed", laid_shape_fault_Mixed), ("shape/fault.Fixed", laid_shape_fault_Fixed), ("shape/fault.Type", laid_shape_fault_Type), ("shape/fault.Big", laid_shape_fault_Big), ("shape/scheme.constants", laid_shape_scheme_constants)] }
def ShownSaid : Prop := shownRow.holds Tryz.pinned (OpenSpec.ofChange shownSpec)

/-- ITS FALSE NEIGHBOUR: 'it returns false'. Refute it at one input. -/
def shownWrong : ChangeSpec := { name := "shown", fn := fun _ => fun
  | [d] => { results := [.lit (.bool false)], args := [d] }
  | _ => none }
def ShownWrongFalsely : Prop := shownRow.holds Tryz.pinned (OpenSpec.ofChange shownWrong)

/-- 'shapelaw.General': WHATEVER THE INPUT: true; the input reads as it did. -/
def generalSpec : ChangeSpec := { name := "general", fn := fun _ => fun
  | [d] => { results := [.lit (.bool true)], args := [d] }
  | _ => none }
def generalRow : OpenClaim := { program := "ytceadeaodbadlaagreatdoor", sum := "068962c7890c6df3ca6f71b3266a3e685f1570a46b10417be4e3ff870fec4892", func := "shape/shapelaw.General", spec := "general", inPlace := ["internal/bytealg.IndexByteString", "internal/abi.NoEscape", "internal/bytealg.MakeNoZero", "internal/reflectlite.TypeOf", "internal/reflectlite.ValueOf", "(internal/reflectlite.Value).Type", "(internal/reflectlite.Value).IsNil", "(internal/reflectlite.Value).Elem", "(internal/reflectlite.Value).Set"], unfollowed := true, recurses := true, named := ["shape/fault.Long", "shape/fault.Text", "shape/fault.Free", "shape/scheme.constants", "shape/fault.Type", "shape/fault.Count", "shape/fault.Mixed", "shape/fault.Fixed", "shape/fault.Big", "errors.errorType"], plainKeys := false, apart := false, laid := [("errors.errorType", laid_errors_errorType), ("shape/fault.Long", laid_shape_fault_Long), ("shape/fault.Text", laid_shape_fault_Text), ("shape/fault.Free", laid_shape_fault_Free), ("shape/fault.Count", laid_shape_fault_Count), ("shape/fault.Mixed", laid_shape_fault_Mixed), ("shape/fault.Fixed", laid_shape_fault_Fixed), ("shape/fault.Type", laid_shape_fault_Type), ("shape/fault.Big", laid_shape_fault_Big), ("shape/scheme.constants", laid_shape_scheme_constants)] }
def GeneralSaid : Prop := generalRow.holds Tryz.pinned (OpenSpec.ofChange generalSpec)

/-- ITS FALSE NEIGHBOUR: 'it returns false'. Refute it at one input. -/
def generalWrong : ChangeSpec := { name := "general", fn := fun _ => fun
  | [d] => { results := [.lit (.bool false)], args := [d] }
  | _ => none }
def GeneralWrongFalsely : Prop := generalRow.holds Tryz.pinned (OpenSpec.ofChange generalWrong)

/-- 'shapelaw.Own': WHATEVER THE INPUT: true; the input reads as it did. -/
def ownSpec : ChangeSpec := { name := "own", fn := fun _ => fun
  | [d] => { results := [.lit (.bool true)], args := [d] }
  | _ => none }
def ownRow : OpenClaim := { program := "ytceadeaodbadlaagreatdoor", sum := "068962c7890c6df3ca6f71b3266a3e685f1570a46b10417be4e3ff870fec4892", func := "shape/shapelaw.Own", spec := "own", inPlace := ["internal/bytealg.IndexByteString", "internal/abi.NoEscape", "internal/bytealg.MakeNoZero", "internal/reflectlite.TypeOf", "internal/reflectlite.ValueOf", "(internal/reflectlite.Value).Type", "(internal/reflectlite.Value).IsNil", "(internal/reflectlite.Value).Elem", "(internal/reflectlite.Value).Set"], unfollowed := true, recurses := true, named := ["shape/fault.Long", "shape/fault.Text", "shape/fault.Free", "shape/scheme.constants", "shape/fault.Type", "shape/fault.Count", "shape/fault.Mixed", "shape/fault.Fixed", "shape/fault.Big", "errors.errorType"], plainKeys := false, apart := false, laid := [("errors.errorType", laid_errors_errorType), ("shape/fault.Long", laid_shape_fault_Long), ("shape/fault.Text", laid_shape_fault_Text), ("shape/fault.Free", laid_shape_fault_Free), ("shape/fault.Count", laid_shape_fault_Count), ("shape/fault.Mixed", laid_shape_fault_Mixed), ("shape/fault.Fixed", laid_shape_fault_Fixed), ("shape/fault.Type", laid_shape_fault_Type), ("shape/fault.Big", laid_shape_fault_Big), ("shape/scheme.constants", laid_shape_scheme_constants)] }
def OwnSaid : Prop := ownRow.holds Tryz.pinned (OpenSpec.ofChange ownSpec)

/-- ITS FALSE NEIGHBOUR: 'it returns false'. Refute it at one input. -/
def ownWrong : ChangeSpec := { name := "own", fn := fun _ => fun
  | [d] => { results := [.lit (.bool false)], args := [d] }
  | _ => none }
def OwnWrongFalsely : Prop := ownRow.holds Tryz.pinned (OpenSpec.ofChange ownWrong)

/-- 'shapelaw.Called': WHATEVER THE INPUT: true; the input reads as it did. -/
def calledSpec : ChangeSpec := { name := "called", fn := fun _ => fun
  | [d] => { results := [.lit (.bool true)], args := [d] }
  | _ => none }
def calledRow : OpenClaim := { program := "ytceadeaodbadlaagreatdoor", sum := "068962c7890c6df3ca6f71b3266a3e685f1570a46b10417be4e3ff870fec4892", func := "shape/shapelaw.Called", spec := "called", inPlace := ["internal/bytealg.IndexByteString", "internal/abi.NoEscape", "internal/bytealg.MakeNoZero", "internal/reflectlite.TypeOf", "internal/reflectlite.ValueOf", "(internal/reflectlite.Value).Type", "(internal/reflectlite.Value).IsNil", "(internal/reflectlite.Value).Elem", "(internal/reflectlite.Value).Set"], unfollowed := true, recurses := true, named := ["shape/fault.Long", "shape/fault.Text", "shape/fault.Free", "shape/scheme.constants", "shape/fault.Type", "shape/fault.Count", "shape/fault.Mixed", "shape/fault.Fixed", "shape/fault.Big", "errors.errorType"], plainKeys := false, apart := false, laid := [("errors.errorType", laid_errors_errorType), ("shape/fault.Long", laid_shape_fault_Long), ("shape/fault.Text", laid_shape_fault_Text), ("shape/fault.Free", laid_shape_fault_Free), ("shape/fault.Count", laid_shape_fault_Count), ("shape/fault.Mixed", laid_shape_fault_Mixed), ("shape/fault.Fixed", laid_shape_fault_Fixed), ("shape/fault.Type", laid_shape_fault_Type), ("shape/fault.Big", laid_shape_fault_Big), ("shape/scheme.constants", laid_shape_scheme_constants)] }
def CalledSaid : Prop := calledRow.holds Tryz.pinned (OpenSpec.ofChange calledSpec)

/-- ITS FALSE NEIGHBOUR: 'it returns false'. Refute it at one input. -/
def calledWrong : ChangeSpec := { name := "called", fn := fun _ => fun
  | [d] => { results := [.lit (.bool false)], args := [d] }
  | _ => none }
def CalledWrongFalsely : Prop := calledRow.holds Tryz.pinned (OpenSpec.ofChange calledWrong)

/-- 'shapelaw.Unwound': WHATEVER THE INPUT: true; the input reads as it did. -/
def unwoundSpec : ChangeSpec := { name := "unwound", fn := fun _ => fun
  | [d1, d2, d3] => { results := [.lit (.bool true)], args := [d1, d2, d3] }
  | _ => none }
def unwoundRow : OpenClaim := { program := "ytceadeaodbadlaagreatdoor", sum := "068962c7890c6df3ca6f71b3266a3e685f1570a46b10417be4e3ff870fec4892", func := "shape/shapelaw.Unwound", spec := "unwound", inPlace := ["internal/bytealg.IndexByteString", "internal/abi.NoEscape", "internal/bytealg.MakeNoZero", "internal/reflectlite.TypeOf", "internal/reflectlite.ValueOf", "(internal/reflectlite.Value).Type", "(internal/reflectlite.Value).IsNil", "(internal/reflectlite.Value).Elem", "(internal/reflectlite.Value).Set"], unfollowed := true, recurses := true, named := ["shape/fault.Long", "shape/fault.Text", "shape/fault.Free", "shape/scheme.constants", "shape/fault.Type", "shape/fault.Count", "shape/fault.Mixed", "shape/fault.Fixed", "shape/fault.Big", "errors.errorType"], plainKeys := false, apart := false, laid := [("errors.errorType", laid_errors_errorType), ("shape/fault.Long", laid_shape_fault_Long), ("shape/fault.Text", laid_shape_fault_Text), ("shape/fault.Free", laid_shape_fault_Free), ("shape/fault.Count", laid_shape_fault_Count), ("shape/fault.Mixed", laid_shape_fault_Mixed), ("shape/fault.Fixed", laid_shape_fault_Fixed), ("shape/fault.Type", laid_shape_fault_Type), ("shape/fault.Big", laid_shape_fault_Big), ("shape/scheme.constants", laid_shape_scheme_constants)] }
def UnwoundSaid : Prop := unwoundRow.holds Tryz.pinned (OpenSpec.ofChange unwoundSpec)

/-- ITS FALSE NEIGHBOUR: 'it returns false'. Refute it at one input. -/
def unwoundWrong : ChangeSpec := { name := "unwound", fn := fun _ => fun
  | [d1, d2, d3] => { results := [.lit (.bool false)], args := [d1, d2, d3] }
  | _ => none }
def UnwoundWrongFalsely : Prop := unwoundRow.holds Tryz.pinned (OpenSpec.ofChange unwoundWrong)

/-- 'shapelaw.All': WHATEVER THE INPUT: true; the input reads as it did. -/
def allSpec : ChangeSpec := { name := "all", fn := fun _ => fun
  | [d] => { results := [.lit (.bool true)], args := [d] }
  | _ => none }
def allRow : OpenClaim := { program := "ytceadeaodbadlaagreatdoor", sum := "068962c7890c6df3ca6f71b3266a3e685f1570a46b10417be4e3ff870fec4892", func := "shape/shapelaw.All", spec := "all", inPlace := ["internal/bytealg.IndexByteString", "internal/abi.NoEscape", "internal/bytealg.MakeNoZero", "internal/reflectlite.TypeOf", "internal/reflectlite.ValueOf", "(internal/reflectlite.Value).Type", "(internal/reflectlite.Value).IsNil", "(internal/reflectlite.Value).Elem", "(internal/reflectlite.Value).Set"], unfollowed := true, recurses := true, named := ["shape/fault.Long", "shape/fault.Text", "shape/fault.Free", "shape/fault.Count", "shape/fault.Mixed", "shape/fault.Fixed", "shape/fault.Type", "shape/fault.Big", "errors.errorType", "shape/scheme.constants"], plainKeys := false, apart := false, laid := [("errors.errorType", laid_errors_errorType), ("shape/fault.Long", laid_shape_fault_Long), ("shape/fault.Text", laid_shape_fault_Text), ("shape/fault.Free", laid_shape_fault_Free), ("shape/fault.Count", laid_shape_fault_Count), ("shape/fault.Mixed", laid_shape_fault_Mixed), ("shape/fault.Fixed", laid_shape_fault_Fixed), ("shape/fault.Type", laid_shape_fault_Type), ("shape/fault.Big", laid_shape_fault_Big), ("shape/scheme.constants", laid_shape_scheme_constants)] }
def AllSaid : Prop := allRow.holds Tryz.pinned (OpenSpec.ofChange allSpec)

/-- ITS FALSE NEIGHBOUR: 'it returns false'. Refute it at one input. -/
def allWrong : ChangeSpec := { name := "all", fn := fun _ => fun
  | [d] => { results := [.lit (.bool false)], args := [d] }
  | _ => none }
def AllWrongFalsely : Prop := allRow.holds Tryz.pinned (OpenSpec.ofChange allWrong)

/- THE SECOND FORM. 'bulk': how many values and letters a reading holds, each counted each time it is reached (what is shared counts as often as it is met; a slice's spare places count too). A statement '..UptoSaid' is the law's where the arguments, and the package variables that the reading takes, are together of bulk at most 1048576: NARROWER than '..Said'. Prove '..Said' where nothing that the law and all that it calls make is longer than what came in: it says more and counts as full. Else prove '..UptoSaid'. A law counts once. -/
mutual
def uptoBulk {H : Type} : DataW H → Nat
  | .lit (.string bytes) => bytes.length + 1
  | .lit _ => 1
  | .nil => 1
  | .ptr d => uptoBulk d + 1
  | .slice elems spare => uptoBulkAll elems + uptoBulkAll spare + 1
  | .agg parts => uptoBulkAll parts + 1
  | .iface _ d => uptoBulk d + 1
  | .map entries => uptoBulkEntries entries + 1
  | .held _ => 1
def uptoBulkAll {H : Type} : List (DataW H) → Nat
  | [] => 0
  | d :: r => uptoBulk d + uptoBulkAll r
def uptoBulkEntries {H : Type} : List (Lit × DataW H) → Nat
  | [] => 0
  | x :: r => uptoBulkEntry x + uptoBulkEntries r
def uptoBulkEntry {H : Type} : Lit × DataW H → Nat
  | (.string bytes, d) => bytes.length + uptoBulk d + 1
  | (_, d) => uptoBulk d + 1
 end
def uptoSmall : (H : Type) → List (DataW H) → Bool := fun _ ds => decide (uptoBulkAll ds ≤ 1048576)
def OpenSpec.upto (s : _root_.Go.ChangeSpec) : _root_.Go.OpenSpec := { _root_.Go.OpenSpec.ofChange s with cond := some uptoSmall }

/-- 'shapelaw.Prints', WHERE WHAT IT READS IS OF BULK AT MOST 1048576: true; the input reads as it did. -/
def printsUptoRow : OpenClaim := { program := "ytceadeaodbadlaagreatdoor", sum := "068962c7890c6df3ca6f71b3266a3e685f1570a46b10417be4e3ff870fec4892", func := "shape/shapelaw.Prints", spec := "prints", inPlace := ["internal/bytealg.IndexByteString", "internal/abi.NoEscape", "internal/bytealg.MakeNoZero", "internal/reflectlite.TypeOf", "internal/reflectlite.ValueOf", "(internal/reflectlite.Value).Type", "(internal/reflectlite.Value).IsNil", "(internal/reflectlite.Value).Elem", "(internal/reflectlite.Value).Set"], unfollowed := true, recurses := true, named := ["shape/fault.Long", "shape/fault.Text", "shape/fault.Free", "shape/fault.Count", "shape/fault.Mixed", "shape/fault.Fixed", "shape/fault.Type", "shape/fault.Big", "errors.errorType"], plainKeys := false, apart := false, laid := [("errors.errorType", laid_errors_errorType), ("shape/fault.Long", laid_shape_fault_Long), ("shape/fault.Text", laid_shape_fault_Text), ("shape/fault.Free", laid_shape_fault_Free), ("shape/fault.Count", laid_shape_fault_Count), ("shape/fault.Mixed", laid_shape_fault_Mixed), ("shape/fault.Fixed", laid_shape_fault_Fixed), ("shape/fault.Type", laid_shape_fault_Type), ("shape/fault.Big", laid_shape_fault_Big)], narrowed := true }
def PrintsUptoSaid : Prop := printsUptoRow.holds Tryz.pinned (OpenSpec.upto printsSpec)

/-- 'shapelaw.Checks', WHERE WHAT IT READS IS OF BULK AT MOST 1048576: true; the input reads as it did. -/
def checksUptoRow : OpenClaim := { program := "ytceadeaodbadlaagreatdoor", sum := "068962c7890c6df3ca6f71b3266a3e685f1570a46b10417be4e3ff870fec4892", func := "shape/shapelaw.Checks", spec := "checks", inPlace := ["internal/bytealg.IndexByteString", "internal/abi.NoEscape", "internal/bytealg.MakeNoZero", "internal/reflectlite.TypeOf", "internal/reflectlite.ValueOf", "(internal/reflectlite.Value).Type", "(internal/reflectlite.Value).IsNil", "(internal/reflectlite.Value).Elem", "(internal/reflectlite.Value).Set"], unfollowed := true, recurses := true, named := ["shape/fault.Long", "shape/fault.Text", "shape/fault.Free", "shape/fault.Count", "shape/fault.Big", "shape/scheme.constants", "shape/fault.Fixed", "shape/fault.Mixed", "shape/fault.Type", "errors.errorType"], plainKeys := false, apart := false, laid := [("errors.errorType", laid_errors_errorType), ("shape/fault.Long", laid_shape_fault_Long), ("shape/fault.Text", laid_shape_fault_Text), ("shape/fault.Free", laid_shape_fault_Free), ("shape/fault.Count", laid_shape_fault_Count), ("shape/fault.Mixed", laid_shape_fault_Mixed), ("shape/fault.Fixed", laid_shape_fault_Fixed), ("shape/fault.Type", laid_shape_fault_Type), ("shape/fault.Big", laid_shape_fault_Big), ("shape/scheme.constants", laid_shape_scheme_constants)], narrowed := true }
def ChecksUptoSaid : Prop := checksUptoRow.holds Tryz.pinned (OpenSpec.upto checksSpec)

/-- 'shapelaw.Opened', WHERE WHAT IT READS IS OF BULK AT MOST 1048576: true; the input reads as it did. -/
def openedUptoRow : OpenClaim := { program := "ytceadeaodbadlaagreatdoor", sum := "068962c7890c6df3ca6f71b3266a3e685f1570a46b10417be4e3ff870fec4892", func := "shape/shapelaw.Opened", spec := "opened", inPlace := ["internal/bytealg.IndexByteString", "internal/abi.NoEscape", "internal/bytealg.MakeNoZero", "internal/reflectlite.TypeOf", "internal/reflectlite.ValueOf", "(internal/reflectlite.Value).Type", "(internal/reflectlite.Value).IsNil", "(internal/reflectlite.Value).Elem", "(internal/reflectlite.Value).Set"], unfollowed := true, recurses := true, named := ["shape/fault.Long", "shape/fault.Text", "shape/fault.Free", "shape/scheme.constants", "shape/fault.Type", "shape/fault.Count", "shape/fault.Mixed", "shape/fault.Fixed", "shape/fault.Big", "errors.errorType"], plainKeys := false, apart := false, laid := [("errors.errorType", laid_errors_errorType), ("shape/fault.Long", laid_shape_fault_Long), ("shape/fault.Text", laid_shape_fault_Text), ("shape/fault.Free", laid_shape_fault_Free), ("shape/fault.Count", laid_shape_fault_Count), ("shape/fault.Mixed", laid_shape_fault_Mixed), ("shape/fault.Fixed", laid_shape_fault_Fixed), ("shape/fault.Type", laid_shape_fault_Type), ("shape/fault.Big", laid_shape_fault_Big), ("shape/scheme.constants", laid_shape_scheme_constants)], narrowed := true }
def OpenedUptoSaid : Prop := openedUptoRow.holds Tryz.pinned (OpenSpec.upto openedSpec)

/-- 'shapelaw.Shown', WHERE WHAT IT READS IS OF BULK AT MOST 1048576: true; the input reads as it did. -/
def shownUptoRow : OpenClaim := { program := "ytceadeaodbadlaagreatdoor", sum := "068962c7890c6df3ca6f71b3266a3e685f1570a46b10417be4e3ff870fec4892", func := "shape/shapelaw.Shown", spec := "shown", inPlace := ["internal/bytealg.IndexByteString", "internal/abi.NoEscape", "internal/bytealg.MakeNoZero", "internal/reflectlite.TypeOf", "internal/reflectlite.ValueOf", "(internal/reflectlite.Value).Type", "(internal/reflectlite.Value).IsNil", "(internal/reflectlite.Value).Elem", "(internal/reflectlite.Value).Set"], unfollowed := true, recurses := true, named := ["shape/fault.Long", "shape/fault.Text", "shape/fault.Free", "shape/scheme.constants", "shape/fault.Type", "shape/fault.Count", "shape/fault.Mixed", "shape/fault.Fixed", "shape/fault.Big", "errors.errorType"], plainKeys := false, apart := false, laid := [("errors.errorType", laid_errors_errorType), ("shape/fault.Long", laid_shape_fault_Long), ("shape/fault.Text", laid_shape_fault_Text), ("shape/fault.Free", laid_shape_fault_Free), ("shape/fault.Count", laid_shape_fault_Count), ("shape/fault.Mixed", laid_shape_fault_Mixed), ("shape/fault.Fixed", laid_shape_fault_Fixed), ("shape/fault.Type", laid_shape_fault_Type), ("shape/fault.Big", laid_shape_fault_Big), ("shape/scheme.constants", laid_shape_scheme_constants)], narrowed := true }
def ShownUptoSaid : Prop := shownUptoRow.holds Tryz.pinned (OpenSpec.upto shownSpec)

/-- 'shapelaw.General', WHERE WHAT IT READS IS OF BULK AT MOST 1048576: true; the input reads as it did. -/
def generalUptoRow : OpenClaim := { program := "ytceadeaodbadlaagreatdoor", sum := "068962c7890c6df3ca6f71b3266a3e685f1570a46b10417be4e3ff870fec4892", func := "shape/shapelaw.General", spec := "general", inPlace := ["internal/bytealg.IndexByteString", "internal/abi.NoEscape", "internal/bytealg.MakeNoZero", "internal/reflectlite.TypeOf", "internal/reflectlite.ValueOf", "(internal/reflectlite.Value).Type", "(internal/reflectlite.Value).IsNil", "(internal/reflectlite.Value).Elem", "(internal/reflectlite.Value).Set"], unfollowed := true, recurses := true, named := ["shape/fault.Long", "shape/fault.Text", "shape/fault.Free", "shape/scheme.constants", "shape/fault.Type", "shape/fault.Count", "shape/fault.Mixed", "shape/fault.Fixed", "shape/fault.Big", "errors.errorType"], plainKeys := false, apart := false, laid := [("errors.errorType", laid_errors_errorType), ("shape/fault.Long", laid_shape_fault_Long), ("shape/fault.Text", laid_shape_fault_Text), ("shape/fault.Free", laid_shape_fault_Free), ("shape/fault.Count", laid_shape_fault_Count), ("shape/fault.Mixed", laid_shape_fault_Mixed), ("shape/fault.Fixed", laid_shape_fault_Fixed), ("shape/fault.Type", laid_shape_fault_Type), ("shape/fault.Big", laid_shape_fault_Big), ("shape/scheme.constants", laid_shape_scheme_constants)], narrowed := true }
def GeneralUptoSaid : Prop := generalUptoRow.holds Tryz.pinned (OpenSpec.upto generalSpec)

/-- 'shapelaw.Own', WHERE WHAT IT READS IS OF BULK AT MOST 1048576: true; the input reads as it did. -/
def ownUptoRow : OpenClaim := { program := "ytceadeaodbadlaagreatdoor", sum := "068962c7890c6df3ca6f71b3266a3e685f1570a46b10417be4e3ff870fec4892", func := "shape/shapelaw.Own", spec := "own", inPlace := ["internal/bytealg.IndexByteString", "internal/abi.NoEscape", "internal/bytealg.MakeNoZero", "internal/reflectlite.TypeOf", "internal/reflectlite.ValueOf", "(internal/reflectlite.Value).Type", "(internal/reflectlite.Value).IsNil", "(internal/reflectlite.Value).Elem", "(internal/reflectlite.Value).Set"], unfollowed := true, recurses := true, named := ["shape/fault.Long", "shape/fault.Text", "shape/fault.Free", "shape/scheme.constants", "shape/fault.Type", "shape/fault.Count", "shape/fault.Mixed", "shape/fault.Fixed", "shape/fault.Big", "errors.errorType"], plainKeys := false, apart := false, laid := [("errors.errorType", laid_errors_errorType), ("shape/fault.Long", laid_shape_fault_Long), ("shape/fault.Text", laid_shape_fault_Text), ("shape/fault.Free", laid_shape_fault_Free), ("shape/fault.Count", laid_shape_fault_Count), ("shape/fault.Mixed", laid_shape_fault_Mixed), ("shape/fault.Fixed", laid_shape_fault_Fixed), ("shape/fault.Type", laid_shape_fault_Type), ("shape/fault.Big", laid_shape_fault_Big), ("shape/scheme.constants", laid_shape_scheme_constants)], narrowed := true }
def OwnUptoSaid : Prop := ownUptoRow.holds Tryz.pinned (OpenSpec.upto ownSpec)

/-- 'shapelaw.Called', WHERE WHAT IT READS IS OF BULK AT MOST 1048576: true; the input reads as it did. -/
def calledUptoRow : OpenClaim := { program := "ytceadeaodbadlaagreatdoor", sum := "068962c7890c6df3ca6f71b3266a3e685f1570a46b10417be4e3ff870fec4892", func := "shape/shapelaw.Called", spec := "called", inPlace := ["internal/bytealg.IndexByteString", "internal/abi.NoEscape", "internal/bytealg.MakeNoZero", "internal/reflectlite.TypeOf", "internal/reflectlite.ValueOf", "(internal/reflectlite.Value).Type", "(internal/reflectlite.Value).IsNil", "(internal/reflectlite.Value).Elem", "(internal/reflectlite.Value).Set"], unfollowed := true, recurses := true, named := ["shape/fault.Long", "shape/fault.Text", "shape/fault.Free", "shape/scheme.constants", "shape/fault.Type", "shape/fault.Count", "shape/fault.Mixed", "shape/fault.Fixed", "shape/fault.Big", "errors.errorType"], plainKeys := false, apart := false, laid := [("errors.errorType", laid_errors_errorType), ("shape/fault.Long", laid_shape_fault_Long), ("shape/fault.Text", laid_shape_fault_Text), ("shape/fault.Free", laid_shape_fault_Free), ("shape/fault.Count", laid_shape_fault_Count), ("shape/fault.Mixed", laid_shape_fault_Mixed), ("shape/fault.Fixed", laid_shape_fault_Fixed), ("shape/fault.Type", laid_shape_fault_Type), ("shape/fault.Big", laid_shape_fault_Big), ("shape/scheme.constants", laid_shape_scheme_constants)], narrowed := true }
def CalledUptoSaid : Prop := calledUptoRow.holds Tryz.pinned (OpenSpec.upto calledSpec)

/-- 'shapelaw.Unwound', WHERE WHAT IT READS IS OF BULK AT MOST 1048576: true; the input reads as it did. -/
def unwoundUptoRow : OpenClaim := { program := "ytceadeaodbadlaagreatdoor", sum := "068962c7890c6df3ca6f71b3266a3e685f1570a46b10417be4e3ff870fec4892", func := "shape/shapelaw.Unwound", spec := "unwound", inPlace := ["internal/bytealg.IndexByteString", "internal/abi.NoEscape", "internal/bytealg.MakeNoZero", "internal/reflectlite.TypeOf", "internal/reflectlite.ValueOf", "(internal/reflectlite.Value).Type", "(internal/reflectlite.Value).IsNil", "(internal/reflectlite.Value).Elem", "(internal/reflectlite.Value).Set"], unfollowed := true, recurses := true, named := ["shape/fault.Long", "shape/fault.Text", "shape/fault.Free", "shape/scheme.constants", "shape/fault.Type", "shape/fault.Count", "shape/fault.Mixed", "shape/fault.Fixed", "shape/fault.Big", "errors.errorType"], plainKeys := false, apart := false, laid := [("errors.errorType", laid_errors_errorType), ("shape/fault.Long", laid_shape_fault_Long), ("shape/fault.Text", laid_shape_fault_Text), ("shape/fault.Free", laid_shape_fault_Free), ("shape/fault.Count", laid_shape_fault_Count), ("shape/fault.Mixed", laid_shape_fault_Mixed), ("shape/fault.Fixed", laid_shape_fault_Fixed), ("shape/fault.Type", laid_shape_fault_Type), ("shape/fault.Big", laid_shape_fault_Big), ("shape/scheme.constants", laid_shape_scheme_constants)], narrowed := true }
def UnwoundUptoSaid : Prop := unwoundUptoRow.holds Tryz.pinned (OpenSpec.upto unwoundSpec)

/-- 'shapelaw.All', WHERE WHAT IT READS IS OF BULK AT MOST 1048576: true; the input reads as it did. -/
def allUptoRow : OpenClaim := { program := "ytceadeaodbadlaagreatdoor", sum := "068962c7890c6df3ca6f71b3266a3e685f1570a46b10417be4e3ff870fec4892", func := "shape/shapelaw.All", spec := "all", inPlace := ["internal/bytealg.IndexByteString", "internal/abi.NoEscape", "internal/bytealg.MakeNoZero", "internal/reflectlite.TypeOf", "internal/reflectlite.ValueOf", "(internal/reflectlite.Value).Type", "(internal/reflectlite.Value).IsNil", "(internal/reflectlite.Value).Elem", "(internal/reflectlite.Value).Set"], unfollowed := true, recurses := true, named := ["shape/fault.Long", "shape/fault.Text", "shape/fault.Free", "shape/fault.Count", "shape/fault.Mixed", "shape/fault.Fixed", "shape/fault.Type", "shape/fault.Big", "errors.errorType", "shape/scheme.constants"], plainKeys := false, apart := false, laid := [("errors.errorType", laid_errors_errorType), ("shape/fault.Long", laid_shape_fault_Long), ("shape/fault.Text", laid_shape_fault_Text), ("shape/fault.Free", laid_shape_fault_Free), ("shape/fault.Count", laid_shape_fault_Count), ("shape/fault.Mixed", laid_shape_fault_Mixed), ("shape/fault.Fixed", laid_shape_fault_Fixed), ("shape/fault.Type", laid_shape_fault_Type), ("shape/fault.Big", laid_shape_fault_Big), ("shape/scheme.constants", laid_shape_scheme_constants)], narrowed := true }
def AllUptoSaid : Prop := allUptoRow.holds Tryz.pinned (OpenSpec.upto allSpec)

end Rows
end Go.Proofs.YtceadeaodbadlaaGreatDoor
