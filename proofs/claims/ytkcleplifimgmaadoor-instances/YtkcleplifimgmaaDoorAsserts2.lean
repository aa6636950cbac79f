import Derived.Test.YtkcleplifimgmaaDoorTyv
import Derived.KernelRfl
set_option linter.unusedVariables false
set_option linter.unusedSimpArgs false
namespace Go.Proofs.YtkcleplifimgmaaDoor
open Go.RowKit
/-! What an assertion on a type's value answers, by its dynamic type. -/
theorem th_Whole (v : Value) (w : World) : (Instr.typeAssert (.iface 92 v) 43 92 true).run Tryd.prog w = .ok (.tuple #[v, .bool true]) w := by kernel_rfl
theorem tz_Whole (w : World) : (zeroValue 92).run Tryd.prog w = .ok (.agg #[]) w := by kernel_rfl
theorem tm_Whole {T : TypeId} (v : Value) (h : T ≠ 92) (w : World) : (Instr.typeAssert (.iface T v) 43 92 true).run Tryd.prog w = .ok (.tuple #[.agg #[], .bool false]) w := by
  simp [Instr.typeAssert, run_underlying Tryd.underlying92, h, tz_Whole w]
theorem th_Truth (v : Value) (w : World) : (Instr.typeAssert (.iface 93 v) 43 93 true).run Tryd.prog w = .ok (.tuple #[v, .bool true]) w := by kernel_rfl
theorem tz_Truth (w : World) : (zeroValue 93).run Tryd.prog w = .ok (.agg #[]) w := by kernel_rfl
theorem tm_Truth {T : TypeId} (v : Value) (h : T ≠ 93) (w : World) : (Instr.typeAssert (.iface T v) 43 93 true).run Tryd.prog w = .ok (.tuple #[.agg #[], .bool false]) w := by
  simp [Instr.typeAssert, run_underlying Tryd.underlying93, h, tz_Truth w]
theorem th_Variable (v : Value) (w : World) : (Instr.typeAssert (.iface 95 v) 43 95 true).run Tryd.prog w = .ok (.tuple #[v, .bool true]) w := by kernel_rfl
theorem tz_Variable (w : World) : (zeroValue 95).run Tryd.prog w = .ok (.agg #[.int .u8 0, .int .u8 0]) w := by kernel_rfl
theorem tm_Variable {T : TypeId} (v : Value) (h : T ≠ 95) (w : World) : (Instr.typeAssert (.iface T v) 43 95 true).run Tryd.prog w = .ok (.tuple #[.agg #[.int .u8 0, .int .u8 0], .bool false]) w := by
  simp [Instr.typeAssert, run_underlying Tryd.underlying95, h, tz_Variable w]
theorem th_List (v : Value) (w : World) : (Instr.typeAssert (.iface 97 v) 43 97 true).run Tryd.prog w = .ok (.tuple #[v, .bool true]) w := by kernel_rfl
theorem tz_List (w : World) : (zeroValue 97).run Tryd.prog w = .ok (.pointer none) w := by kernel_rfl
theorem tm_List {T : TypeId} (v : Value) (h : T ≠ 97) (w : World) : (Instr.typeAssert (.iface T v) 43 97 true).run Tryd.prog w = .ok (.tuple #[.pointer none, .bool false]) w := by
  simp [Instr.typeAssert, run_underlying Tryd.underlying97, h, tz_List w]
theorem th_Pair (v : Value) (w : World) : (Instr.typeAssert (.iface 104 v) 43 104 true).run Tryd.prog w = .ok (.tuple #[v, .bool true]) w := by kernel_rfl
theorem tz_Pair (w : World) : (zeroValue 104).run Tryd.prog w = .ok (.pointer none) w := by kernel_rfl
theorem tm_Pair {T : TypeId} (v : Value) (h : T ≠ 104) (w : World) : (Instr.typeAssert (.iface T v) 43 104 true).run Tryd.prog w = .ok (.tuple #[.pointer none, .bool false]) w := by
  simp [Instr.typeAssert, run_underlying Tryd.underlying104, h, tz_Pair w]
theorem th_Function (v : Value) (w : World) : (Instr.typeAssert (.iface 89 v) 43 89 true).run Tryd.prog w = .ok (.tuple #[v, .bool true]) w := by kernel_rfl
theorem tz_Function (w : World) : (zeroValue 89).run Tryd.prog w = .ok (.pointer none) w := by kernel_rfl
theorem tm_Function {T : TypeId} (v : Value) (h : T ≠ 89) (w : World) : (Instr.typeAssert (.iface T v) 43 89 true).run Tryd.prog w = .ok (.tuple #[.pointer none, .bool false]) w := by
  simp [Instr.typeAssert, run_underlying Tryd.underlying89, h, tz_Function w]
end Go.Proofs.YtkcleplifimgmaaDoor
