import Derived.Test.YtkcleplifimgmaaGreatDoorTyv
import Derived.KernelRfl
set_option linter.unusedVariables false
set_option linter.unusedSimpArgs false
namespace Go.Proofs.YtkcleplifimgmaaGreatDoor
open Go.RowKit
/-! What an assertion on a type's value answers, by its dynamic type. -/
theorem th_Whole (v : Value) (w : World) : (Instr.typeAssert (.iface 171 v) 62 171 true).run Tryz.prog w = .ok (.tuple #[v, .bool true]) w := by kernel_rfl
theorem tz_Whole (w : World) : (zeroValue 171).run Tryz.prog w = .ok (.agg #[]) w := by kernel_rfl
theorem tm_Whole {T : TypeId} (v : Value) (h : T ≠ 171) (w : World) : (Instr.typeAssert (.iface T v) 62 171 true).run Tryz.prog w = .ok (.tuple #[.agg #[], .bool false]) w := by
  simp [Instr.typeAssert, run_underlying Tryz.underlying171, h, tz_Whole w]
theorem th_Truth (v : Value) (w : World) : (Instr.typeAssert (.iface 172 v) 62 172 true).run Tryz.prog w = .ok (.tuple #[v, .bool true]) w := by kernel_rfl
theorem tz_Truth (w : World) : (zeroValue 172).run Tryz.prog w = .ok (.agg #[]) w := by kernel_rfl
theorem tm_Truth {T : TypeId} (v : Value) (h : T ≠ 172) (w : World) : (Instr.typeAssert (.iface T v) 62 172 true).run Tryz.prog w = .ok (.tuple #[.agg #[], .bool false]) w := by
  simp [Instr.typeAssert, run_underlying Tryz.underlying172, h, tz_Truth w]
theorem th_Variable (v : Value) (w : World) : (Instr.typeAssert (.iface 174 v) 62 174 true).run Tryz.prog w = .ok (.tuple #[v, .bool true]) w := by kernel_rfl
theorem tz_Variable (w : World) : (zeroValue 174).run Tryz.prog w = .ok (.agg #[.int .u8 0, .int .u8 0]) w := by kernel_rfl
theorem tm_Variable {T : TypeId} (v : Value) (h : T ≠ 174) (w : World) : (Instr.typeAssert (.iface T v) 62 174 true).run Tryz.prog w = .ok (.tuple #[.agg #[.int .u8 0, .int .u8 0], .bool false]) w := by
  simp [Instr.typeAssert, run_underlying Tryz.underlying174, h, tz_Variable w]
theorem th_List (v : Value) (w : World) : (Instr.typeAssert (.iface 177 v) 62 177 true).run Tryz.prog w = .ok (.tuple #[v, .bool true]) w := by kernel_rfl
theorem tz_List (w : World) : (zeroValue 177).run Tryz.prog w = .ok (.pointer none) w := by kernel_rfl
theorem tm_List {T : TypeId} (v : Value) (h : T ≠ 177) (w : World) : (Instr.typeAssert (.iface T v) 62 177 true).run Tryz.prog w = .ok (.tuple #[.pointer none, .bool false]) w := by
  simp [Instr.typeAssert, run_underlying Tryz.underlying177, h, tz_List w]
theorem th_Pair (v : Value) (w : World) : (Instr.typeAssert (.iface 183 v) 62 183 true).run Tryz.prog w = .ok (.tuple #[v, .bool true]) w := by kernel_rfl
theorem tz_Pair (w : World) : (zeroValue 183).run Tryz.prog w = .ok (.pointer none) w := by kernel_rfl
theorem tm_Pair {T : TypeId} (v : Value) (h : T ≠ 183) (w : World) : (Instr.typeAssert (.iface T v) 62 183 true).run Tryz.prog w = .ok (.tuple #[.pointer none, .bool false]) w := by
  simp [Instr.typeAssert, run_underlying Tryz.underlying183, h, tz_Pair w]
theorem th_Function (v : Value) (w : World) : (Instr.typeAssert (.iface 188 v) 62 188 true).run Tryz.prog w = .ok (.tuple #[v, .bool true]) w := by kernel_rfl
theorem tz_Function (w : World) : (zeroValue 188).run Tryz.prog w = .ok (.pointer none) w := by kernel_rfl
theorem tm_Function {T : TypeId} (v : Value) (h : T ≠ 188) (w : World) : (Instr.typeAssert (.iface T v) 62 188 true).run Tryz.prog w = .ok (.tuple #[.pointer none, .bool false]) w := by
  simp [Instr.typeAssert, run_underlying Tryz.underlying188, h, tz_Function w]
end Go.Proofs.YtkcleplifimgmaaGreatDoor
