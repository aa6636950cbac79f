import Derived.Test.YtceadeaodbadlaaGreatDoorTie
import Derived.Test.YtceadeaodbadlaaGreatDoorCards
import Derived.Test.YtceadeaodbadlaaGreatDoorPrint
import Derived.ProofKit
import Derived.LaidMore
import Derived.LaidSub
import Derived.LaidHandle
import Derived.Stop.Joined
import Derived.Stop.LaidTwo
import Derived.SevenTiedAt
set_option linter.unusedVariables false
set_option linter.unusedSimpArgs false
namespace Go.Proofs.YtceadeaodbadlaaGreatDoor
open Go.ChangeShapes Go.WideShapes Go.ChangeAt Go.RowKit

theorem ownK : ownKnob Tryz.prog.godebug = none := by kernel_rfl
theorem g0 : Tryz.prog.globalNamed "shape/fault.Long" = some 0 := by kernel_rfl
theorem g0T : (Tryz.prog.globals[0]?).map (·.type) = some 55 := by kernel_rfl
theorem g1 : Tryz.prog.globalNamed "shape/fault.Text" = some 1 := by kernel_rfl
theorem g1T : (Tryz.prog.globals[1]?).map (·.type) = some 55 := by kernel_rfl
theorem g2 : Tryz.prog.globalNamed "shape/fault.Free" = some 2 := by kernel_rfl
theorem g2T : (Tryz.prog.globals[2]?).map (·.type) = some 55 := by kernel_rfl
theorem g3 : Tryz.prog.globalNamed "shape/fault.Count" = some 3 := by kernel_rfl
theorem g3T : (Tryz.prog.globals[3]?).map (·.type) = some 55 := by kernel_rfl
theorem g4 : Tryz.prog.globalNamed "shape/fault.Mixed" = some 4 := by kernel_rfl
theorem g4T : (Tryz.prog.globals[4]?).map (·.type) = some 55 := by kernel_rfl
theorem g5 : Tryz.prog.globalNamed "shape/fault.Fixed" = some 5 := by kernel_rfl
theorem g5T : (Tryz.prog.globals[5]?).map (·.type) = some 55 := by kernel_rfl
theorem g6 : Tryz.prog.globalNamed "shape/fault.Type" = some 6 := by kernel_rfl
theorem g6T : (Tryz.prog.globals[6]?).map (·.type) = some 55 := by kernel_rfl
theorem g7 : Tryz.prog.globalNamed "shape/fault.Big" = some 7 := by kernel_rfl
theorem g7T : (Tryz.prog.globals[7]?).map (·.type) = some 55 := by kernel_rfl
theorem gType : Tryz.prog.globalNamed "errors.errorType" = some 8 := by kernel_rfl
theorem cellsES : Tryz.prog.cellsOf 371 = 1 := by kernel_rfl
theorem cellsS : Tryz.prog.cellsOf 9 = 1 := by kernel_rfl
theorem rtRow : (Tryz.prog.cutTypes.find? (·.1 == "internal/reflectlite.rtype")).map (·.2) = some 190 := by kernel_rfl
theorem typesSize : Tryz.prog.types.size = 382 := by kernel_rfl
theorem oneRow : ((List.range 382).filter fun t => Tryz.prog.rowNamed t [101, 114, 114, 111, 114]) = [55] := by kernel_rfl
theorem starE : "*" ++ "errors.errorString" = "*errors.errorString" := by decide
theorem rowE (u : TypeId) (h : Tryz.prog.typeName? 3 u = some "*errors.errorString") : u = 353 :=
  typeName_ptr_named (nm := "errors.errorString") (by rw [starE]; kernel_rfl) (by kernel_rfl) (by decide) u (by rw [starE]; exact h)

/-- The errors that are laid. -/
def sents : List (String × DataW Unit) := [("shape/fault.Long", Rows.laid_shape_fault_Long), ("shape/fault.Text", Rows.laid_shape_fault_Text), ("shape/fault.Free", Rows.laid_shape_fault_Free), ("shape/fault.Count", Rows.laid_shape_fault_Count), ("shape/fault.Mixed", Rows.laid_shape_fault_Mixed), ("shape/fault.Fixed", Rows.laid_shape_fault_Fixed), ("shape/fault.Type", Rows.laid_shape_fault_Type), ("shape/fault.Big", Rows.laid_shape_fault_Big)]
def laid8 : List (String × DataW Unit) := ("errors.errorType", Rows.laid_errors_errorType) :: sents

/-- The door's own heap meets the condition. -/
theorem door_met (os : Os) (args : Array Value) : laidMetH Tryz.prog laid8 ((World.doorLaid Tryz.prog 183 os).forCall (fun _ _ => 0) ⟨#[], args, []⟩).memory :=
  laidMetH_of_parts3 (fuel := 8) (laidMet_of_run' 8 (by kernel_rfl) (by kernel_rfl)) (by kernel_rfl) (by kernel_rfl)

theorem cell_of_var {W : World} {x : String} {g : Nat} {v : Value} (hg : Tryz.prog.globalNamed x = some g) (h : W.var? Tryz.prog x = some #[v]) : W.cell? ⟨g, 0, none⟩ = some v := by
  simpa using World.var?_cell hg h 0

/-- Two of them: apart, in memory. -/
def Apart (x y : String) (W : World) : Prop := ∃ (a b : Addr) (c d : Array Value) (t u : TypeId), W.var? Tryz.prog x = some #[.iface 353 (.pointer (some a))] ∧ W.var? Tryz.prog y = some #[.iface 353 (.pointer (some b))] ∧ a ≠ b ∧
  W.heap[a.block]? = some (.cells c t (0, 0)) ∧ W.heap[b.block]? = some (.cells d u (0, 0))
theorem Apart.ne {x y : String} {W : World} (h : Apart x y W) {a b : Addr} (ha : W.var? Tryz.prog x = some #[.iface 353 (.pointer (some a))]) (hb : W.var? Tryz.prog y = some #[.iface 353 (.pointer (some b))]) : a ≠ b := by
  obtain ⟨a', b', _, _, _, _, h1, h2, h3, _⟩ := h
  rw [ha] at h1
  rw [hb] at h2
  simp at h1 h2
  subst h1
  subst h2
  exact h3
theorem pair01 {W : World} (h : laidMet Tryz.prog sents W) : Apart "shape/fault.Long" "shape/fault.Text" W := by
  have h2 : laidMet Tryz.prog [("shape/fault.Long", Rows.laid_shape_fault_Long), ("shape/fault.Text", Rows.laid_shape_fault_Text)] W := h.filter (fun x => x.1 == "shape/fault.Long" || x.1 == "shape/fault.Text")
  obtain ⟨a0, a1, s0, s1, c0, c1, t0, t1, hv0, hv1, _, _, _, _, _, _, hne, hb0, hb1⟩ := laid_sentinels2 h2 g0 g0T g1 g1T Tryz.underlying55 rowE Tryz.underlying353 Tryz.underlying371 rfl rfl Tryz.underlying9 cellsES cellsS
  exact ⟨a0, a1, c0, c1, t0, t1, hv0, hv1, hne, hb0, hb1⟩
theorem pair02 {W : World} (h : laidMet Tryz.prog sents W) : Apart "shape/fault.Long" "shape/fault.Free" W := by
  have h2 : laidMet Tryz.prog [("shape/fault.Long", Rows.laid_shape_fault_Long), ("shape/fault.Free", Rows.laid_shape_fault_Free)] W := h.filter (fun x => x.1 == "shape/fault.Long" || x.1 == "shape/fault.Free")
  obtain ⟨a0, a1, s0, s1, c0, c1, t0, t1, hv0, hv1, _, _, _, _, _, _, hne, hb0, hb1⟩ := laid_sentinels2 h2 g0 g0T g2 g2T Tryz.underlying55 rowE Tryz.underlying353 Tryz.underlying371 rfl rfl Tryz.underlying9 cellsES cellsS
  exact ⟨a0, a1, c0, c1, t0, t1, hv0, hv1, hne, hb0, hb1⟩
theorem pair03 {W : World} (h : laidMet Tryz.prog sents W) : Apart "shape/fault.Long" "shape/fault.Count" W := by
  have h2 : laidMet Tryz.prog [("shape/fault.Long", Rows.laid_shape_fault_Long), ("shape/fault.Count", Rows.laid_shape_fault_Count)] W := h.filter (fun x => x.1 == "shape/fault.Long" || x.1 == "shape/fault.Count")
  obtain ⟨a0, a1, s0, s1, c0, c1, t0, t1, hv0, hv1, _, _, _, _, _, _, hne, hb0, hb1⟩ := laid_sentinels2 h2 g0 g0T g3 g3T Tryz.underlying55 rowE Tryz.underlying353 Tryz.underlying371 rfl rfl Tryz.underlying9 cellsES cellsS
  exact ⟨a0, a1, c0, c1, t0, t1, hv0, hv1, hne, hb0, hb1⟩
theorem pair04 {W : World} (h : laidMet Tryz.prog sents W) : Apart "shape/fault.Long" "shape/fault.Mixed" W := by
  have h2 : laidMet Tryz.prog [("shape/fault.Long", Rows.laid_shape_fault_Long), ("shape/fault.Mixed", Rows.laid_shape_fault_Mixed)] W := h.filter (fun x => x.1 == "shape/fault.Long" || x.1 == "shape/fault.Mixed")
  obtain ⟨a0, a1, s0, s1, c0, c1, t0, t1, hv0, hv1, _, _, _, _, _, _, hne, hb0, hb1⟩ := laid_sentinels2 h2 g0 g0T g4 g4T Tryz.underlying55 rowE Tryz.underlying353 Tryz.underlying371 rfl rfl Tryz.underlying9 cellsES cellsS
  exact ⟨a0, a1, c0, c1, t0, t1, hv0, hv1, hne, hb0, hb1⟩
theorem pair05 {W : World} (h : laidMet Tryz.prog sents W) : Apart "shape/fault.Long" "shape/fault.Fixed" W := by
  have h2 : laidMet Tryz.prog [("shape/fault.Long", Rows.laid_shape_fault_Long), ("shape/fault.Fixed", Rows.laid_shape_fault_Fixed)] W := h.filter (fun x => x.1 == "shape/fault.Long" || x.1 == "shape/fault.Fixed")
  obtain ⟨a0, a1, s0, s1, c0, c1, t0, t1, hv0, hv1, _, _, _, _, _, _, hne, hb0, hb1⟩ := laid_sentinels2 h2 g0 g0T g5 g5T Tryz.underlying55 rowE Tryz.underlying353 Tryz.underlying371 rfl rfl Tryz.underlying9 cellsES cellsS
  exact ⟨a0, a1, c0, c1, t0, t1, hv0, hv1, hne, hb0, hb1⟩
theorem pair06 {W : World} (h : laidMet Tryz.prog sents W) : Apart "shape/fault.Long" "shape/fault.Type" W := by
  have h2 : laidMet Tryz.prog [("shape/fault.Long", Rows.laid_shape_fault_Long), ("shape/fault.Type", Rows.laid_shape_fault_Type)] W := h.filter (fun x => x.1 == "shape/fault.Long" || x.1 == "shape/fault.Type")
  obtain ⟨a0, a1, s0, s1, c0, c1, t0, t1, hv0, hv1, _, _, _, _, _, _, hne, hb0, hb1⟩ := laid_sentinels2 h2 g0 g0T g6 g6T Tryz.underlying55 rowE Tryz.underlying353 Tryz.underlying371 rfl rfl Tryz.underlying9 cellsES cellsS
  exact ⟨a0, a1, c0, c1, t0, t1, hv0, hv1, hne, hb0, hb1⟩
theorem pair07 {W : World} (h : laidMet Tryz.prog sents W) : Apart "shape/fault.Long" "shape/fault.Big" W := by
  have h2 : laidMet Tryz.prog [("shape/fault.Long", Rows.laid_shape_fault_Long), ("shape/fault.Big", Rows.laid_shape_fault_Big)] W := h.filter (fun x => x.1 == "shape/fault.Long" || x.1 == "shape/fault.Big")
  obtain ⟨a0, a1, s0, s1, c0, c1, t0, t1, hv0, hv1, _, _, _, _, _, _, hne, hb0, hb1⟩ := laid_sentinels2 h2 g0 g0T g7 g7T Tryz.underlying55 rowE Tryz.underlying353 Tryz.underlying371 rfl rfl Tryz.underlying9 cellsES cellsS
  exact ⟨a0, a1, c0, c1, t0, t1, hv0, hv1, hne, hb0, hb1⟩
theorem pair12 {W : World} (h : laidMet Tryz.prog sents W) : Apart "shape/fault.Text" "shape/fault.Free" W := by
  have h2 : laidMet Tryz.prog [("shape/fault.Text", Rows.laid_shape_fault_Text), ("shape/fault.Free", Rows.laid_shape_fault_Free)] W := h.filter (fun x => x.1 == "shape/fault.Text" || x.1 == "shape/fault.Free")
  obtain ⟨a0, a1, s0, s1, c0, c1, t0, t1, hv0, hv1, _, _, _, _, _, _, hne, hb0, hb1⟩ := laid_sentinels2 h2 g1 g1T g2 g2T Tryz.underlying55 rowE Tryz.underlying353 Tryz.underlying371 rfl rfl Tryz.underlying9 cellsES cellsS
  exact ⟨a0, a1, c0, c1, t0, t1, hv0, hv1, hne, hb0, hb1⟩
theorem pair13 {W : World} (h : laidMet Tryz.prog sents W) : Apart "shape/fault.Text" "shape/fault.Count" W := by
  have h2 : laidMet Tryz.prog [("shape/fault.Text", Rows.laid_shape_fault_Text), ("shape/fault.Count", Rows.laid_shape_fault_Count)] W := h.filter (fun x => x.1 == "shape/fault.Text" || x.1 == "shape/fault.Count")
  obtain ⟨a0, a1, s0, s1, c0, c1, t0, t1, hv0, hv1, _, _, _, _, _, _, hne, hb0, hb1⟩ := laid_sentinels2 h2 g1 g1T g3 g3T Tryz.underlying55 rowE Tryz.underlying353 Tryz.underlying371 rfl rfl Tryz.underlying9 cellsES cellsS
  exact ⟨a0, a1, c0, c1, t0, t1, hv0, hv1, hne, hb0, hb1⟩
theorem pair14 {W : World} (h : laidMet Tryz.prog sents W) : Apart "shape/fault.Text" "shape/fault.Mixed" W := by
  have h2 : laidMet Tryz.prog [("shape/fault.Text", Rows.laid_shape_fault_Text), ("shape/fault.Mixed", Rows.laid_shape_fault_Mixed)] W := h.filter (fun x => x.1 == "shape/fault.Text" || x.1 == "shape/fault.Mixed")
  obtain ⟨a0, a1, s0, s1, c0, c1, t0, t1, hv0, hv1, _, _, _, _, _, _, hne, hb0, hb1⟩ := laid_sentinels2 h2 g1 g1T g4 g4T Tryz.underlying55 rowE Tryz.underlying353 Tryz.underlying371 rfl rfl Tryz.underlying9 cellsES cellsS
  exact ⟨a0, a1, c0, c1, t0, t1, hv0, hv1, hne, hb0, hb1⟩
theorem pair15 {W : World} (h : laidMet Tryz.prog sents W) : Apart "shape/fault.Text" "shape/fault.Fixed" W := by
  have h2 : laidMet Tryz.prog [("shape/fault.Text", Rows.laid_shape_fault_Text), ("shape/fault.Fixed", Rows.laid_shape_fault_Fixed)] W := h.filter (fun x => x.1 == "shape/fault.Text" || x.1 == "shape/fault.Fixed")
  obtain ⟨a0, a1, s0, s1, c0, c1, t0, t1, hv0, hv1, _, _, _, _, _, _, hne, hb0, hb1⟩ := laid_sentinels2 h2 g1 g1T g5 g5T Tryz.underlying55 rowE Tryz.underlying353 Tryz.underlying371 rfl rfl Tryz.underlying9 cellsES cellsS
  exact ⟨a0, a1, c0, c1, t0, t1, hv0, hv1, hne, hb0, hb1⟩
theorem pair16 {W : World} (h : laidMet Tryz.prog sents W) : Apart "shape/fault.Text" "shape/fault.Type" W := by
  have h2 : laidMet Tryz.prog [("shape/fault.Text", Rows.laid_shape_fault_Text), ("shape/fault.Type", Rows.laid_shape_fault_Type)] W := h.filter (fun x => x.1 == "shape/fault.Text" || x.1 == "shape/fault.Type")
  obtain ⟨a0, a1, s0, s1, c0, c1, t0, t1, hv0, hv1, _, _, _, _, _, _, hne, hb0, hb1⟩ := laid_sentinels2 h2 g1 g1T g6 g6T Tryz.underlying55 rowE Tryz.underlying353 Tryz.underlying371 rfl rfl Tryz.underlying9 cellsES cellsS
  exact ⟨a0, a1, c0, c1, t0, t1, hv0, hv1, hne, hb0, hb1⟩
theorem pair17 {W : World} (h : laidMet Tryz.prog sents W) : Apart "shape/fault.Text" "shape/fault.Big" W := by
  have h2 : laidMet Tryz.prog [("shape/fault.Text", Rows.laid_shape_fault_Text), ("shape/fault.Big", Rows.laid_shape_fault_Big)] W := h.filter (fun x => x.1 == "shape/fault.Text" || x.1 == "shape/fault.Big")
  obtain ⟨a0, a1, s0, s1, c0, c1, t0, t1, hv0, hv1, _, _, _, _, _, _, hne, hb0, hb1⟩ := laid_sentinels2 h2 g1 g1T g7 g7T Tryz.underlying55 rowE Tryz.underlying353 Tryz.underlying371 rfl rfl Tryz.underlying9 cellsES cellsS
  exact ⟨a0, a1, c0, c1, t0, t1, hv0, hv1, hne, hb0, hb1⟩
theorem pair23 {W : World} (h : laidMet Tryz.prog sents W) : Apart "shape/fault.Free" "shape/fault.Count" W := by
  have h2 : laidMet Tryz.prog [("shape/fault.Free", Rows.laid_shape_fault_Free), ("shape/fault.Count", Rows.laid_shape_fault_Count)] W := h.filter (fun x => x.1 == "shape/fault.Free" || x.1 == "shape/fault.Count")
  obtain ⟨a0, a1, s0, s1, c0, c1, t0, t1, hv0, hv1, _, _, _, _, _, _, hne, hb0, hb1⟩ := laid_sentinels2 h2 g2 g2T g3 g3T Tryz.underlying55 rowE Tryz.underlying353 Tryz.underlying371 rfl rfl Tryz.underlying9 cellsES cellsS
  exact ⟨a0, a1, c0, c1, t0, t1, hv0, hv1, hne, hb0, hb1⟩
theorem pair24 {W : World} (h : laidMet Tryz.prog sents W) : Apart "shape/fault.Free" "shape/fault.Mixed" W := by
  have h2 : laidMet Tryz.prog [("shape/fault.Free", Rows.laid_shape_fault_Free), ("shape/fault.Mixed", Rows.laid_shape_fault_Mixed)] W := h.filter (fun x => x.1 == "shape/fault.Free" || x.1 == "shape/fault.Mixed")
  obtain ⟨a0, a1, s0, s1, c0, c1, t0, t1, hv0, hv1, _, _, _, _, _, _, hne, hb0, hb1⟩ := laid_sentinels2 h2 g2 g2T g4 g4T Tryz.underlying55 rowE Tryz.underlying353 Tryz.underlying371 rfl rfl Tryz.underlying9 cellsES cellsS
  exact ⟨a0, a1, c0, c1, t0, t1, hv0, hv1, hne, hb0, hb1⟩
theorem pair25 {W : World} (h : laidMet Tryz.prog sents W) : Apart "shape/fault.Free" "shape/fault.Fixed" W := by
  have h2 : laidMet Tryz.prog [("shape/fault.Free", Rows.laid_shape_fault_Free), ("shape/fault.Fixed", Rows.laid_shape_fault_Fixed)] W := h.filter (fun x => x.1 == "shape/fault.Free" || x.1 == "shape/fault.Fixed")
  obtain ⟨a0, a1, s0, s1, c0, c1, t0, t1, hv0, hv1, _, _, _, _, _, _, hne, hb0, hb1⟩ := laid_sentinels2 h2 g2 g2T g5 g5T Tryz.underlying55 rowE Tryz.underlying353 Tryz.underlying371 rfl rfl Tryz.underlying9 cellsES cellsS
  exact ⟨a0, a1, c0, c1, t0, t1, hv0, hv1, hne, hb0, hb1⟩
theorem pair26 {W : World} (h : laidMet Tryz.prog sents W) : Apart "shape/fault.Free" "shape/fault.Type" W := by
  have h2 : laidMet Tryz.prog [("shape/fault.Free", Rows.laid_shape_fault_Free), ("shape/fault.Type", Rows.laid_shape_fault_Type)] W := h.filter (fun x => x.1 == "shape/fault.Free" || x.1 == "shape/fault.Type")
  obtain ⟨a0, a1, s0, s1, c0, c1, t0, t1, hv0, hv1, _, _, _, _, _, _, hne, hb0, hb1⟩ := laid_sentinels2 h2 g2 g2T g6 g6T Tryz.underlying55 rowE Tryz.underlying353 Tryz.underlying371 rfl rfl Tryz.underlying9 cellsES cellsS
  exact ⟨a0, a1, c0, c1, t0, t1, hv0, hv1, hne, hb0, hb1⟩
theorem pair27 {W : World} (h : laidMet Tryz.prog sents W) : Apart "shape/fault.Free" "shape/fault.Big" W := by
  have h2 : laidMet Tryz.prog [("shape/fault.Free", Rows.laid_shape_fault_Free), ("shape/fault.Big", Rows.laid_shape_fault_Big)] W := h.filter (fun x => x.1 == "shape/fault.Free" || x.1 == "shape/fault.Big")
  obtain ⟨a0, a1, s0, s1, c0, c1, t0, t1, hv0, hv1, _, _, _, _, _, _, hne, hb0, hb1⟩ := laid_sentinels2 h2 g2 g2T g7 g7T Tryz.underlying55 rowE Tryz.underlying353 Tryz.underlying371 rfl rfl Tryz.underlying9 cellsES cellsS
  exact ⟨a0, a1, c0, c1, t0, t1, hv0, hv1, hne, hb0, hb1⟩
theorem pair34 {W : World} (h : laidMet Tryz.prog sents W) : Apart "shape/fault.Count" "shape/fault.Mixed" W := by
  have h2 : laidMet Tryz.prog [("shape/fault.Count", Rows.laid_shape_fault_Count), ("shape/fault.Mixed", Rows.laid_shape_fault_Mixed)] W := h.filter (fun x => x.1 == "shape/fault.Count" || x.1 == "shape/fault.Mixed")
  obtain ⟨a0, a1, s0, s1, c0, c1, t0, t1, hv0, hv1, _, _, _, _, _, _, hne, hb0, hb1⟩ := laid_sentinels2 h2 g3 g3T g4 g4T Tryz.underlying55 rowE Tryz.underlying353 Tryz.underlying371 rfl rfl Tryz.underlying9 cellsES cellsS
  exact ⟨a0, a1, c0, c1, t0, t1, hv0, hv1, hne, hb0, hb1⟩
theorem pair35 {W : World} (h : laidMet Tryz.prog sents W) : Apart "shape/fault.Count" "shape/fault.Fixed" W := by
  have h2 : laidMet Tryz.prog [("shape/fault.Count", Rows.laid_shape_fault_Count), ("shape/fault.Fixed", Rows.laid_shape_fault_Fixed)] W := h.filter (fun x => x.1 == "shape/fault.Count" || x.1 == "shape/fault.Fixed")
  obtain ⟨a0, a1, s0, s1, c0, c1, t0, t1, hv0, hv1, _, _, _, _, _, _, hne, hb0, hb1⟩ := laid_sentinels2 h2 g3 g3T g5 g5T Tryz.underlying55 rowE Tryz.underlying353 Tryz.underlying371 rfl rfl Tryz.underlying9 cellsES cellsS
  exact ⟨a0, a1, c0, c1, t0, t1, hv0, hv1, hne, hb0, hb1⟩
theorem pair36 {W : World} (h : laidMet Tryz.prog sents W) : Apart "shape/fault.Count" "shape/fault.Type" W := by
  have h2 : laidMet Tryz.prog [("shape/fault.Count", Rows.laid_shape_fault_Count), ("shape/fault.Type", Rows.laid_shape_fault_Type)] W := h.filter (fun x => x.1 == "shape/fault.Count" || x.1 == "shape/fault.Type")
  obtain ⟨a0, a1, s0, s1, c0, c1, t0, t1, hv0, hv1, _, _, _, _, _, _, hne, hb0, hb1⟩ := laid_sentinels2 h2 g3 g3T g6 g6T Tryz.underlying55 rowE Tryz.underlying353 Tryz.underlying371 rfl rfl Tryz.underlying9 cellsES cellsS
  exact ⟨a0, a1, c0, c1, t0, t1, hv0, hv1, hne, hb0, hb1⟩
theorem pair37 {W : World} (h : laidMet Tryz.prog sents W) : Apart "shape/fault.Count" "shape/fault.Big" W := by
  have h2 : laidMet Tryz.prog [("shape/fault.Count", Rows.laid_shape_fault_Count), ("shape/fault.Big", Rows.laid_shape_fault_Big)] W := h.filter (fun x => x.1 == "shape/fault.Count" || x.1 == "shape/fault.Big")
  obtain ⟨a0, a1, s0, s1, c0, c1, t0, t1, hv0, hv1, _, _, _, _, _, _, hne, hb0, hb1⟩ := laid_sentinels2 h2 g3 g3T g7 g7T Tryz.underlying55 rowE Tryz.underlying353 Tryz.underlying371 rfl rfl Tryz.underlying9 cellsES cellsS
  exact ⟨a0, a1, c0, c1, t0, t1, hv0, hv1, hne, hb0, hb1⟩
theorem pair45 {W : World} (h : laidMet Tryz.prog sents W) : Apart "shape/fault.Mixed" "shape/fault.Fixed" W := by
  have h2 : laidMet Tryz.prog [("shape/fault.Mixed", Rows.laid_shape_fault_Mixed), ("shape/fault.Fixed", Rows.laid_shape_fault_Fixed)] W := h.filter (fun x => x.1 == "shape/fault.Mixed" || x.1 == "shape/fault.Fixed")
  obtain ⟨a0, a1, s0, s1, c0, c1, t0, t1, hv0, hv1, _, _, _, _, _, _, hne, hb0, hb1⟩ := laid_sentinels2 h2 g4 g4T g5 g5T Tryz.underlying55 rowE Tryz.underlying353 Tryz.underlying371 rfl rfl Tryz.underlying9 cellsES cellsS
  exact ⟨a0, a1, c0, c1, t0, t1, hv0, hv1, hne, hb0, hb1⟩
theorem pair46 {W : World} (h : laidMet Tryz.prog sents W) : Apart "shape/fault.Mixed" "shape/fault.Type" W := by
  have h2 : laidMet Tryz.prog [("shape/fault.Mixed", Rows.laid_shape_fault_Mixed), ("shape/fault.Type", Rows.laid_shape_fault_Type)] W := h.filter (fun x => x.1 == "shape/fault.Mixed" || x.1 == "shape/fault.Type")
  obtain ⟨a0, a1, s0, s1, c0, c1, t0, t1, hv0, hv1, _, _, _, _, _, _, hne, hb0, hb1⟩ := laid_sentinels2 h2 g4 g4T g6 g6T Tryz.underlying55 rowE Tryz.underlying353 Tryz.underlying371 rfl rfl Tryz.underlying9 cellsES cellsS
  exact ⟨a0, a1, c0, c1, t0, t1, hv0, hv1, hne, hb0, hb1⟩
theorem pair47 {W : World} (h : laidMet Tryz.prog sents W) : Apart "shape/fault.Mixed" "shape/fault.Big" W := by
  have h2 : laidMet Tryz.prog [("shape/fault.Mixed", Rows.laid_shape_fault_Mixed), ("shape/fault.Big", Rows.laid_shape_fault_Big)] W := h.filter (fun x => x.1 == "shape/fault.Mixed" || x.1 == "shape/fault.Big")
  obtain ⟨a0, a1, s0, s1, c0, c1, t0, t1, hv0, hv1, _, _, _, _, _, _, hne, hb0, hb1⟩ := laid_sentinels2 h2 g4 g4T g7 g7T Tryz.underlying55 rowE Tryz.underlying353 Tryz.underlying371 rfl rfl Tryz.underlying9 cellsES cellsS
  exact ⟨a0, a1, c0, c1, t0, t1, hv0, hv1, hne, hb0, hb1⟩
theorem pair56 {W : World} (h : laidMet Tryz.prog sents W) : Apart "shape/fault.Fixed" "shape/fault.Type" W := by
  have h2 : laidMet Tryz.prog [("shape/fault.Fixed", Rows.laid_shape_fault_Fixed), ("shape/fault.Type", Rows.laid_shape_fault_Type)] W := h.filter (fun x => x.1 == "shape/fault.Fixed" || x.1 == "shape/fault.Type")
  obtain ⟨a0, a1, s0, s1, c0, c1, t0, t1, hv0, hv1, _, _, _, _, _, _, hne, hb0, hb1⟩ := laid_sentinels2 h2 g5 g5T g6 g6T Tryz.underlying55 rowE Tryz.underlying353 Tryz.underlying371 rfl rfl Tryz.underlying9 cellsES cellsS
  exact ⟨a0, a1, c0, c1, t0, t1, hv0, hv1, hne, hb0, hb1⟩
theorem pair57 {W : World} (h : laidMet Tryz.prog sents W) : Apart "shape/fault.Fixed" "shape/fault.Big" W := by
  have h2 : laidMet Tryz.prog [("shape/fault.Fixed", Rows.laid_shape_fault_Fixed), ("shape/fault.Big", Rows.laid_shape_fault_Big)] W := h.filter (fun x => x.1 == "shape/fault.Fixed" || x.1 == "shape/fault.Big")
  obtain ⟨a0, a1, s0, s1, c0, c1, t0, t1, hv0, hv1, _, _, _, _, _, _, hne, hb0, hb1⟩ := laid_sentinels2 h2 g5 g5T g7 g7T Tryz.underlying55 rowE Tryz.underlying353 Tryz.underlying371 rfl rfl Tryz.underlying9 cellsES cellsS
  exact ⟨a0, a1, c0, c1, t0, t1, hv0, hv1, hne, hb0, hb1⟩
theorem pair67 {W : World} (h : laidMet Tryz.prog sents W) : Apart "shape/fault.Type" "shape/fault.Big" W := by
  have h2 : laidMet Tryz.prog [("shape/fault.Type", Rows.laid_shape_fault_Type), ("shape/fault.Big", Rows.laid_shape_fault_Big)] W := h.filter (fun x => x.1 == "shape/fault.Type" || x.1 == "shape/fault.Big")
  obtain ⟨a0, a1, s0, s1, c0, c1, t0, t1, hv0, hv1, _, _, _, _, _, _, hne, hb0, hb1⟩ := laid_sentinels2 h2 g6 g6T g7 g7T Tryz.underlying55 rowE Tryz.underlying353 Tryz.underlying371 rfl rfl Tryz.underlying9 cellsES cellsS
  exact ⟨a0, a1, c0, c1, t0, t1, hv0, hv1, hne, hb0, hb1⟩

/-- What the condition gives the walks. -/
theorem of_sents {W : World} (h : laidMet Tryz.prog sents W) (hh : W.cell? ⟨8, 0, none⟩ = some (.iface 190 (.agg #[.pointer (some ⟨11, 55, none⟩)]))) : ∃ tx, Gs tx W := by
  obtain ⟨b1, a1, d1, c1, u1, t1, w1, v1, _, y1, z1⟩ := pair01 h
  obtain ⟨b2, a2, d2, c2, u2, t2, w2, v2, _, y2, z2⟩ := pair02 h
  obtain ⟨b3, a3, d3, c3, u3, t3, w3, v3, _, y3, z3⟩ := pair03 h
  obtain ⟨b4, a4, d4, c4, u4, t4, w4, v4, _, y4, z4⟩ := pair04 h
  obtain ⟨b5, a5, d5, c5, u5, t5, w5, v5, _, y5, z5⟩ := pair05 h
  obtain ⟨b6, a6, d6, c6, u6, t6, w6, v6, _, y6, z6⟩ := pair06 h
  obtain ⟨b7, a7, d7, c7, u7, t7, w7, v7, _, y7, z7⟩ := pair07 h
  refine ⟨fun k => if k = 0 then b1 else if k = 1 then a1 else if k = 2 then a2 else if k = 3 then a3 else if k = 4 then a4 else if k = 5 then a5 else if k = 6 then a6 else a7, ⟨⟨fun k hk => ?_, hh, World.block_lt_of_cell? W ⟨8, 0, none⟩ hh⟩, fun j k hj hk hjk => ?_, fun k hk => ?_⟩⟩
  · rcases (by omega : k = 0 ∨ k = 1 ∨ k = 2 ∨ k = 3 ∨ k = 4 ∨ k = 5 ∨ k = 6 ∨ k = 7) with rfl | rfl | rfl | rfl | rfl | rfl | rfl | rfl
    · exact cell_of_var g0 w1
    · exact cell_of_var g1 v1
    · exact cell_of_var g2 v2
    · exact cell_of_var g3 v3
    · exact cell_of_var g4 v4
    · exact cell_of_var g5 v5
    · exact cell_of_var g6 v6
    · exact cell_of_var g7 v7
  · have N : ∀ j k, j < k → k < 8 → (if j = 0 then b1 else if j = 1 then a1 else if j = 2 then a2 else if j = 3 then a3 else if j = 4 then a4 else if j = 5 then a5 else if j = 6 then a6 else a7) ≠ (if k = 0 then b1 else if k = 1 then a1 else if k = 2 then a2 else if k = 3 then a3 else if k = 4 then a4 else if k = 5 then a5 else if k = 6 then a6 else a7) := by
      intro j k hjk hk
      rcases (by omega : k = 0 ∨ k = 1 ∨ k = 2 ∨ k = 3 ∨ k = 4 ∨ k = 5 ∨ k = 6 ∨ k = 7) with rfl | rfl | rfl | rfl | rfl | rfl | rfl | rfl
      · omega
      · rcases (by omega : j = 0) with rfl
        · exact (pair01 h).ne w1 v1
      · rcases (by omega : j = 0 ∨ j = 1) with rfl | rfl
        · exact (pair02 h).ne w1 v2
        · exact (pair12 h).ne v1 v2
      · rcases (by omega : j = 0 ∨ j = 1 ∨ j = 2) with rfl | rfl | rfl
        · exact (pair03 h).ne w1 v3
        · exact (pair13 h).ne v1 v3
        · exact (pair23 h).ne v2 v3
      · rcases (by omega : j = 0 ∨ j = 1 ∨ j = 2 ∨ j = 3) with rfl | rfl | rfl | rfl
        · exact (pair04 h).ne w1 v4
        · exact (pair14 h).ne v1 v4
        · exact (pair24 h).ne v2 v4
        · exact (pair34 h).ne v3 v4
      · rcases (by omega : j = 0 ∨ j = 1 ∨ j = 2 ∨ j = 3 ∨ j = 4) with rfl | rfl | rfl | rfl | rfl
        · exact (pair05 h).ne w1 v5
        · exact (pair15 h).ne v1 v5
        · exact (pair25 h).ne v2 v5
        · exact (pair35 h).ne v3 v5
        · exact (pair45 h).ne v4 v5
      · rcases (by omega : j = 0 ∨ j = 1 ∨ j = 2 ∨ j = 3 ∨ j = 4 ∨ j = 5) with rfl | rfl | rfl | rfl | rfl | rfl
        · exact (pair06 h).ne w1 v6
        · exact (pair16 h).ne v1 v6
        · exact (pair26 h).ne v2 v6
        · exact (pair36 h).ne v3 v6
        · exact (pair46 h).ne v4 v6
        · exact (pair56 h).ne v5 v6
      · rcases (by omega : j = 0 ∨ j = 1 ∨ j = 2 ∨ j = 3 ∨ j = 4 ∨ j = 5 ∨ j = 6) with rfl | rfl | rfl | rfl | rfl | rfl | rfl
        · exact (pair07 h).ne w1 v7
        · exact (pair17 h).ne v1 v7
        · exact (pair27 h).ne v2 v7
        · exact (pair37 h).ne v3 v7
        · exact (pair47 h).ne v4 v7
        · exact (pair57 h).ne v5 v7
        · exact (pair67 h).ne v6 v7
    rcases Nat.lt_or_gt_of_ne hjk with h1 | h1
    · exact N j k h1 hk
    · exact (N k j h1 hj).symm
  · rcases (by omega : k = 0 ∨ k = 1 ∨ k = 2 ∨ k = 3 ∨ k = 4 ∨ k = 5 ∨ k = 6 ∨ k = 7) with rfl | rfl | rfl | rfl | rfl | rfl | rfl | rfl
    · exact ⟨_, _, y1⟩
    · exact ⟨_, _, z1⟩
    · exact ⟨_, _, z2⟩
    · exact ⟨_, _, z3⟩
    · exact ⟨_, _, z4⟩
    · exact ⟨_, _, z5⟩
    · exact ⟨_, _, z6⟩
    · exact ⟨_, _, z7⟩

theorem hand_of {W : World} (h : handlesMet Tryz.prog [("errors.errorType", Rows.laid_errors_errorType)] W) : W.cell? ⟨8, 0, none⟩ = some (.iface 190 (.agg #[.pointer (some ⟨11, 55, none⟩)])) := by
  obtain ⟨name, u, ty, e1, e2, e3, e4, e5⟩ := h _ (List.mem_singleton.2 rfl)
  have en : name = [101, 114, 114, 111, 114] := (Option.some.inj e1).symm
  subst en
  obtain rfl := Option.some.inj (rtRow.symm.trans e2)
  have hm : ty ∈ (List.range 382).filter fun t => Tryz.prog.rowNamed t [101, 114, 114, 111, 114] := List.mem_filter.2 ⟨List.mem_range.2 (by rw [← typesSize]; exact e3), e4⟩
  rw [oneRow] at hm
  obtain rfl := List.mem_singleton.1 hm
  have hh : typeHandle Tryz.prog 55 = .pointer (some ⟨11, 55, none⟩) := by kernel_rfl
  rw [hh] at e5
  exact cell_of_var gType e5
theorem of_laid {W : World} (h : laidMetH Tryz.prog laid8 W) : ∃ tx, Gs tx W := by
  have h' : laidMet Tryz.prog sents W ∧ handlesMet Tryz.prog [("errors.errorType", Rows.laid_errors_errorType)] W := h
  exact of_sents h'.1 (hand_of h'.2)
end Go.Proofs.YtceadeaodbadlaaGreatDoor
