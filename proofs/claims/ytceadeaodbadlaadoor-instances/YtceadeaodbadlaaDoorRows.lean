/-
  NARROWER THAN 'FOR EVERY INPUT', by the rows' own cells (each row's printed sentence says how): Instances: laid · Ordered: laid.
  DERIVED. THE GIVEN ROWS OF THIS SEAT. 2 by the template 'for every input the law returns true; each argument reads behind the call as it read before'; 0 by the template 'total and deterministic' (their statements: YtceadeaodbadlaaDoorTotals.lean).
  GIVEN WITH THE SEED: the statements are not yours to turn. If you find one false, say at which input.
  Laid BY PROGRAM, IN A SANDBOX (cutbox-rows.mjs): the forced cells as the released guide's own fill.sh prints them over the translation 86492214630763a7… (all of the seat's roots in one cut). By AI agents, Wed Nov 11 2026. No macro, syntax, notation, axiom, sorry.
-/
import Derived.Test.YtceadeaodbadlaaDoorChecked
import GoSem.Claim
import GoSem.ClaimJoined
import GoSem.ClaimMapViews
import Derived.JoinedTies
import Derived.KernelRfl
namespace Go.Proofs.YtceadeaodbadlaaDoor
/- THE CELL 'sum', in the pinned program and in every row, IS THE sha256 OF THE DUMP (.gsa) THAT YtceadeaodbadlaaDoorProg.lean LOADS. Nothing in Lean hashes anything: it is a label: what it is worth is what the hold of that sum in a sandbox is worth. -/
noncomputable def Tryd.pinned : Pinned := { name := "ytceadeaodbadlaadoor", sum := "86492214630763a74959ffdb88cf277fd4cc2a588ebccf4129475ca1ce738547", checked := Tryd.checked }
namespace Rows
def none {H : Type} : Left H := { results := [], args := [] }

/- WHAT THE LISTED PACKAGE-LEVEL VARIABLES READ AS WHEN THE CALL BEGINS. Each datum BY PROGRAM (the guide's laid-datum.mjs) off the statement by which the dump's own 'gosem.cut.vars' lays the variable. In a bare row this is a premise. The card (YtceadeaodbadlaaDoorCards.lean) ties it to the program's text. -/
def laid_errors_errorType {H : Type} : DataW H := .iface "internal/reflectlite.rtype" (.agg [.ptr (.lit (.string [101, 114, 114, 111, 114]))])
def laid_shape_fault_Long {H : Type} : DataW H := .iface "*errors.errorString" (.ptr (.agg [.lit (.string [116, 104, 101, 32, 116, 101, 120, 116, 32, 105, 115, 32, 116, 111, 111, 32, 108, 111, 110, 103])]))
def laid_shape_fault_Text {H : Type} : DataW H := .iface "*errors.errorString" (.ptr (.agg [.lit (.string [116, 104, 101, 114, 101, 32, 105, 115, 32, 110, 111, 32, 115, 117, 99, 104, 32, 116, 101, 120, 116])]))
def laid_shape_fault_Free {H : Type} : DataW H := .iface "*errors.errorString" (.ptr (.agg [.lit (.string [110, 111, 116, 104, 105, 110, 103, 32, 115, 97, 121, 115, 32, 119, 104, 97, 116, 32, 116, 104, 101, 32, 110, 97, 109, 101, 32, 115, 116, 97, 110, 100, 115, 32, 102, 111, 114])]))
def laid_shape_fault_Count {H : Type} : DataW H := .iface "*errors.errorString" (.ptr (.agg [.lit (.string [116, 104, 101, 114, 101, 32, 97, 114, 101, 32, 109, 111, 114, 101, 32, 111, 114, 32, 102, 101, 119, 101, 114, 32, 116, 121, 112, 101, 115, 32, 116, 104, 97, 110, 32, 118, 97, 114, 105, 97, 98, 108, 101, 115])]))
def laid_shape_fault_Mixed {H : Type} : DataW H := .iface "*errors.errorString" (.ptr (.agg [.lit (.string [116, 104, 101, 32, 111, 110, 101, 32, 99, 97, 110, 39, 116, 32, 98, 101, 32, 99, 97, 108, 108, 101, 100, 32, 119, 105, 116, 104, 32, 116, 104, 101, 32, 111, 116, 104, 101, 114])]))
def laid_shape_fault_Fixed {H : Type} : DataW H := .iface "*errors.errorString" (.ptr (.agg [.lit (.string [116, 104, 101, 32, 118, 97, 114, 105, 97, 98, 108, 101, 32, 109, 97, 121, 32, 110, 111, 116, 32, 98, 101, 32, 116, 97, 107, 101, 110, 32, 102, 111, 114, 32, 97, 110, 121, 116, 104, 105, 110, 103])]))
def laid_shape_fault_Type {H : Type} : DataW H := .iface "*errors.errorString" (.ptr (.agg [.lit (.string [116, 104, 101, 114, 101, 32, 105, 115, 32, 110, 111, 32, 116, 121, 112, 101])]))
def laid_shape_fault_Big {H : Type} : DataW H := .iface "*errors.errorString" (.ptr (.agg [.lit (.string [116, 104, 101, 32, 116, 121, 112, 101, 32, 105, 115, 32, 116, 111, 111, 32, 98, 105, 103])]))

/-- 'shapelaw.Instances': WHATEVER THE INPUT: true; the input reads as it did. -/
def instancesSpec : ChangeSpec := { name := "instances", fn := fun _ => fun
  | [d1, d2] => { results := [.lit (.bool true)], args := [d1, d2] }
  | _ => none }
def instancesRow : OpenClaim := { program := "ytceadeaodbadlaadoor", sum := "86492214630763a74959ffdb88cf277fd4cc2a588ebccf4129475ca1ce738547", func := "shape/shapelaw.Instances", spec := "instances", inPlace := ["internal/reflectlite.TypeOf", "internal/reflectlite.ValueOf", "(internal/reflectlite.Value).Type", "(internal/reflectlite.Value).IsNil", "(internal/reflectlite.Value).Elem", "(internal/reflectlite.Value).Set"], unfollowed := true, recurses := true, named := ["shape/fault.Long", "shape/fault.Text", "shape/fault.Free", "shape/fault.Count", "shape/fault.Mixed", "shape/fault.Fixed", "shape/fault.Type", "shape/fault.Big", "errors.errorType"], plainKeys := false, apart := false, laid := [("errors.errorType", laid_errors_errorType), ("shape/fault.Long", laid_shape_fault_Long), ("shape/fault.Text", laid_shape_fault_Text), ("shape/fault.Free", laid_shape_fault_Free), ("shape/fault.Count", laid_shape_fault_Count), ("shape/fault.Mixed", laid_shape_fault_Mixed), ("shape/fault.Fixed", laid_shape_fault_Fixed), ("shape/fault.Type", laid_shape_fault_Type), ("shape/fault.Big", laid_shape_fault_Big)] }
def InstancesSaid : Prop := instancesRow.holds Tryd.pinned (OpenSpec.ofChange instancesSpec)

/-- ITS FALSE NEIGHBOUR: 'it returns false'. Refute it at one input. -/
def instancesWrong : ChangeSpec := { name := "instances", fn := fun _ => fun
  | [d1, d2] => { results := [.lit (.bool false)], args := [d1, d2] }
  | _ => none }
def InstancesWrongFalsely : Prop := instancesRow.holds Tryd.pinned (OpenSpec.ofChange instancesWrong)

/-- 'shapelaw.Ordered': WHATEVER THE INPUT: true; the input reads as it did. -/
def orderedSpec : ChangeSpec := { name := "ordered", fn := fun _ => fun
  | [d1, d2, d3] => { results := [.lit (.bool true)], args := [d1, d2, d3] }
  | _ => none }
def orderedRow : OpenClaim := { program := "ytceadeaodbadlaadoor", sum := "86492214630763a74959ffdb88cf277fd4cc2a588ebccf4129475ca1ce738547", func := "shape/shapelaw.Ordered", spec := "ordered", inPlace := ["internal/reflectlite.TypeOf", "internal/reflectlite.ValueOf", "(internal/reflectlite.Value).Type", "(internal/reflectlite.Value).IsNil", "(internal/reflectlite.Value).Elem", "(internal/reflectlite.Value).Set"], unfollowed := true, recurses := true, named := ["shape/fault.Long", "shape/fault.Text", "shape/fault.Free", "shape/fault.Count", "shape/fault.Mixed", "shape/fault.Fixed", "shape/fault.Type", "shape/fault.Big", "errors.errorType"], plainKeys := false, apart := false, laid := [("errors.errorType", laid_errors_errorType), ("shape/fault.Long", laid_shape_fault_Long), ("shape/fault.Text", laid_shape_fault_Text), ("shape/fault.Free", laid_shape_fault_Free), ("shape/fault.Count", laid_shape_fault_Count), ("shape/fault.Mixed", laid_shape_fault_Mixed), ("shape/fault.Fixed", laid_shape_fault_Fixed), ("shape/fault.Type", laid_shape_fault_Type), ("shape/fault.Big", laid_shape_fault_Big)] }
def OrderedSaid : Prop := orderedRow.holds Tryd.pinned (OpenSpec.ofChange orderedSpec)

/-- ITS FALSE NEIGHBOUR: 'it returns false'. Refute it at one input. -/
def orderedWrong : ChangeSpec := { name := "ordered", fn := fun _ => fun
  | [d1, d2, d3] => { results := [.lit (.bool false)], args := [d1, d2, d3] }
  | _ => none }
def OrderedWrongFalsely : Prop := orderedRow.holds Tryd.pinned (OpenSpec.ofChange orderedWrong)

/- THE SECOND FORM. 'bulk': how many values and letters a reading holds, each counted each time it is reached (what is shared counts as often as it is met; a slice's spare places count too). A statement '..UptoSaid' is the law's where the arguments, and the package variables that the reading takes, are together of bulk at most 1048576: NARROWER than '..Said'. Prove '..Said' where nothing that the law and all that it calls make is longer than what came in: it says more and counts as full. Else prove '..UptoSaid'. A law counts once. -/
mutual
def uptoBulk {H : Type} : DataW H → Nat
  | .lit (.string bytes) => bytes.length + 1
  | .lit _ => 1
  | .nil => 1
  | .ptr d => uptoBulk d + 1
  | .slice elems spare => uptoBulkAll elems + uptoBulkAll spare + 1
  | .agg parts => uptoBulkAll parts + 1
  | .iface _ d => uptoBulk d + 1
  | .map entries => uptoBulkEntries entries + 1
  | .held _ => 1
def uptoBulkAll {H : Type} : List (DataW H) → Nat
  | [] => 0
  | d :: r => uptoBulk d + uptoBulkAll r
def uptoBulkEntries {H : Type} : List (Lit × DataW H) → Nat
  | [] => 0
  | x :: r => uptoBulkEntry x + uptoBulkEntries r
def uptoBulkEntry {H : Type} : Lit × DataW H → Nat
  | (.string bytes, d) => bytes.length + uptoBulk d + 1
  | (_, d) => uptoBulk d + 1
 end
def uptoSmall : (H : Type) → List (DataW H) → Bool := fun _ ds => decide (uptoBulkAll ds ≤ 1048576)
def OpenSpec.upto (s : _root_.Go.ChangeSpec) : _root_.Go.OpenSpec := { _root_.Go.OpenSpec.ofChange s with cond := some uptoSmall }

/-- 'shapelaw.Instances', WHERE WHAT IT READS IS OF BULK AT MOST 1048576: true; the input reads as it did. -/
def instancesUptoRow : OpenClaim := { program := "ytceadeaodbadlaadoor", sum := "86492214630763a74959ffdb88cf277fd4cc2a588ebccf4129475ca1ce738547", func := "shape/shapelaw.Instances", spec := "instances", inPlace := ["internal/reflectlite.TypeOf", "internal/reflectlite.ValueOf", "(internal/reflectlite.Value).Type", "(internal/reflectlite.Value).IsNil", "(internal/reflectlite.Value).Elem", "(internal/reflectlite.Value).Set"], unfollowed := true, recurses := true, named := ["shape/fault.Long", "shape/fault.Text", "shape/fault.Free", "shape/fault.Count", "shape/fault.Mixed", "shape/fault.Fixed", "shape/fault.Type", "shape/fault.Big", "errors.errorType"], plainKeys := false, apart := false, laid := [("errors.errorType", laid_errors_errorType), ("shape/fault.Long", laid_shape_fault_Long), ("shape/fault.Text", laid_shape_fault_Text), ("shape/fault.Free", laid_shape_fault_Free), ("shape/fault.Count", laid_shape_fault_Count), ("shape/fault.Mixed", laid_shape_fault_Mixed), ("shape/fault.Fixed", laid_shape_fault_Fixed), ("shape/fault.Type", laid_shape_fault_Type), ("shape/fault.Big", laid_shape_fault_Big)], narrowed := true }
def InstancesUptoSaid : Prop := instancesUptoRow.holds Tryd.pinned (OpenSpec.upto instancesSpec)

/-- 'shapelaw.Ordered', WHERE WHAT IT READS IS OF BULK AT MOST 1048576: true; the input reads as it did. -/
def orderedUptoRow : OpenClaim := { program := "ytceadeaodbadlaadoor", sum := "86492214630763a74959ffdb88cf277fd4cc2a588ebccf4129475ca1ce738547", func := "shape/shapelaw.Ordered", spec := "ordered", inPlace := ["internal/reflectlite.TypeOf", "internal/reflectlite.ValueOf", "(internal/reflectlite.Value).Type", "(internal/reflectlite.Value).IsNil", "(internal/reflectlite.Value).Elem", "(internal/reflectlite.Value).Set"], unfollowed := true, recurses := true, named := ["shape/fault.Long", "shape/fault.Text", "shape/fault.Free", "shape/fault.Count", "shape/fault.Mixed", "shape/fault.Fixed", "shape/fault.Type", "shape/fault.Big", "errors.errorType"], plainKeys := false, apart := false, laid := [("errors.errorType", laid_errors_errorType), ("shape/fault.Long", laid_shape_fault_Long), ("shape/fault.Text", laid_shape_fault_Text), ("shape/fault.Free", laid_shape_fault_Free), ("shape/fault.Count", laid_shape_fault_Count), ("shape/fault.Mixed", laid_shape_fault_Mixed), ("shape/fault.Fixed", laid_shape_fault_Fixed), ("shape/fault.Type", laid_shape_fault_Type), ("shape/fault.Big", laid_shape_fault_Big)], narrowed := true }
def OrderedUptoSaid : Prop := orderedUptoRow.holds Tryd.pinned (OpenSpec.upto orderedSpec)

end Rows
end Go.Proofs.YtceadeaodbadlaaDoor
