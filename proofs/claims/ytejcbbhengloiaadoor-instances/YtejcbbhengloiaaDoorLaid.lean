import Derived.Test.YtejcbbhengloiaaDoorTie
import Derived.Test.YtejcbbhengloiaaDoorCards
import Derived.Test.YtejcbbhengloiaaDoorPrint
import Derived.ProofKit
import Derived.LaidMore
import Derived.LaidHandle
import Derived.Stop.Joined
import Derived.Stop.LaidTwo
import Derived.SevenTiedAt
set_option linter.unusedVariables false
set_option linter.unusedSimpArgs false
namespace Go.Proofs.YtejcbbhengloiaaDoor
open Go.ChangeShapes Go.WideShapes Go.ChangeAt Go.RowKit

theorem ownK : ownKnob Tryd.prog.godebug = none := by kernel_rfl
theorem gLong : Tryd.prog.globalNamed "shape/fault.Long" = some 0 := by kernel_rfl
theorem gText : Tryd.prog.globalNamed "shape/fault.Text" = some 1 := by kernel_rfl
theorem gType : Tryd.prog.globalNamed "errors.errorType" = some 2 := by kernel_rfl
theorem gLongT : (Tryd.prog.globals[0]?).map (·.type) = some 36 := by kernel_rfl
theorem gTextT : (Tryd.prog.globals[1]?).map (·.type) = some 36 := by kernel_rfl
theorem cellsES : Tryd.prog.cellsOf 200 = 1 := by kernel_rfl
theorem cellsS : Tryd.prog.cellsOf 9 = 1 := by kernel_rfl
theorem rtRow : (Tryd.prog.cutTypes.find? (·.1 == "internal/reflectlite.rtype")).map (·.2) = some 132 := by kernel_rfl
theorem typesSize : Tryd.prog.types.size = 212 := by kernel_rfl
theorem oneRow : ((List.range 212).filter fun t => Tryd.prog.rowNamed t [101, 114, 114, 111, 114]) = [36] := by kernel_rfl
theorem starE : "*" ++ "errors.errorString" = "*errors.errorString" := by decide
theorem rowE (u : TypeId) (h : Tryd.prog.typeName? 3 u = some "*errors.errorString") : u = 181 :=
  typeName_ptr_named (nm := "errors.errorString") (by rw [starE]; kernel_rfl) (by kernel_rfl) (by decide) u (by rw [starE]; exact h)

def laid3 : List (String × DataW Unit) := [("errors.errorType", Rows.laid_errors_errorType), ("shape/fault.Long", Rows.laid_shape_fault_Long), ("shape/fault.Text", Rows.laid_shape_fault_Text)]

/-- The door's own heap meets the condition. -/
theorem door_met (os : Os) (args : Array Value) : laidMetH Tryd.prog laid3 ((World.doorLaid Tryd.prog 54 os).forCall (fun _ _ => 0) ⟨#[], args, []⟩).memory :=
  laidMetH_of_parts3 (fuel := 8) (laidMet_of_run' 8 (by kernel_rfl) (by kernel_rfl)) (by kernel_rfl) (by kernel_rfl)

theorem cell_of_var {W : World} {x : String} {g : Nat} {v : Value} (hg : Tryd.prog.globalNamed x = some g) (h : W.var? Tryd.prog x = some #[v]) : W.cell? ⟨g, 0, none⟩ = some v := by
  simpa using World.var?_cell hg h 0

/-- What the condition gives the walks. -/
theorem of_laid {W : World} (h : laidMetH Tryd.prog laid3 W) : ∃ tl tx, Gs tl tx W := by
  have h' : laidMet Tryd.prog [("shape/fault.Long", Rows.laid_shape_fault_Long), ("shape/fault.Text", Rows.laid_shape_fault_Text)] W ∧ handlesMet Tryd.prog [("errors.errorType", Rows.laid_errors_errorType)] W := h
  obtain ⟨a0, a1, s0, s1, c0, c1, t0, t1, hv0, hv1, _, _, _, _, _, _, hne, hb0, hb1⟩ := laid_sentinels2 h'.1 gLong gLongT gText gTextT Tryd.underlying36 rowE Tryd.underlying181 Tryd.underlying200 rfl rfl Tryd.underlying9 cellsES cellsS
  obtain ⟨name, u, ty, e1, e2, e3, e4, e5⟩ := h'.2 _ (List.mem_singleton.2 rfl)
  have en : name = [101, 114, 114, 111, 114] := (Option.some.inj e1).symm
  subst en
  obtain rfl := Option.some.inj (rtRow.symm.trans e2)
  have hm : ty ∈ (List.range 212).filter fun t => Tryd.prog.rowNamed t [101, 114, 114, 111, 114] := List.mem_filter.2 ⟨List.mem_range.2 (by rw [← typesSize]; exact e3), e4⟩
  rw [oneRow] at hm
  obtain rfl := List.mem_singleton.1 hm
  have hh : typeHandle Tryd.prog 36 = .pointer (some ⟨4, 36, none⟩) := by kernel_rfl
  rw [hh] at e5
  have hc2 := cell_of_var gType e5
  exact ⟨a0, a1, ⟨⟨cell_of_var gLong hv0, cell_of_var gText hv1, hc2, World.block_lt_of_cell? W ⟨2, 0, none⟩ hc2⟩, Ne.symm hne, ⟨c0, t0, hb0⟩, ⟨c1, t1, hb1⟩⟩⟩
end Go.Proofs.YtejcbbhengloiaaDoor
