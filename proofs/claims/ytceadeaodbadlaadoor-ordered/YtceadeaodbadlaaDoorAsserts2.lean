import Derived.Test.YtceadeaodbadlaaDoorTyv
import Derived.KernelRfl
set_option linter.unusedVariables false
set_option linter.unusedSimpArgs false
namespace Go.Proofs.YtceadeaodbadlaaDoor
open Go.RowKit
/-! What an assertion on a type's value answers, by its dynamic type. -/
theorem th_Whole (v : Value) (w : World) : (Instr.typeAssert (.iface 137 v) 43 137 true).run Tryd.prog w = .ok (.tuple #[v, .bool true]) w := by kernel_rfl
theorem tz_Whole (w : World) : (zeroValue 137).run Tryd.prog w = .ok (.agg #[]) w := by kernel_rfl
theorem tm_Whole {T : TypeId} (v : Value) (h : T ≠ 137) (w : World) : (Instr.typeAssert (.iface T v) 43 137 true).run Tryd.prog w = .ok (.tuple #[.agg #[], .bool false]) w := by
  simp [Instr.typeAssert, run_underlying Tryd.underlying137, h, tz_Whole w]
theorem th_Truth (v : Value) (w : World) : (Instr.typeAssert (.iface 138 v) 43 138 true).run Tryd.prog w = .ok (.tuple #[v, .bool true]) w := by kernel_rfl
theorem tz_Truth (w : World) : (zeroValue 138).run Tryd.prog w = .ok (.agg #[]) w := by kernel_rfl
theorem tm_Truth {T : TypeId} (v : Value) (h : T ≠ 138) (w : World) : (Instr.typeAssert (.iface T v) 43 138 true).run Tryd.prog w = .ok (.tuple #[.agg #[], .bool false]) w := by
  simp [Instr.typeAssert, run_underlying Tryd.underlying138, h, tz_Truth w]
theorem th_Variable (v : Value) (w : World) : (Instr.typeAssert (.iface 92 v) 43 92 true).run Tryd.prog w = .ok (.tuple #[v, .bool true]) w := by kernel_rfl
theorem tz_Variable (w : World) : (zeroValue 92).run Tryd.prog w = .ok (.agg #[.int .u8 0, .int .u8 0]) w := by kernel_rfl
theorem tm_Variable {T : TypeId} (v : Value) (h : T ≠ 92) (w : World) : (Instr.typeAssert (.iface T v) 43 92 true).run Tryd.prog w = .ok (.tuple #[.agg #[.int .u8 0, .int .u8 0], .bool false]) w := by
  simp [Instr.typeAssert, run_underlying Tryd.underlying92, h, tz_Variable w]
theorem th_List (v : Value) (w : World) : (Instr.typeAssert (.iface 126 v) 43 126 true).run Tryd.prog w = .ok (.tuple #[v, .bool true]) w := by kernel_rfl
theorem tz_List (w : World) : (zeroValue 126).run Tryd.prog w = .ok (.pointer none) w := by kernel_rfl
theorem tm_List {T : TypeId} (v : Value) (h : T ≠ 126) (w : World) : (Instr.typeAssert (.iface T v) 43 126 true).run Tryd.prog w = .ok (.tuple #[.pointer none, .bool false]) w := by
  simp [Instr.typeAssert, run_underlying Tryd.underlying126, h, tz_List w]
theorem th_Pair (v : Value) (w : World) : (Instr.typeAssert (.iface 118 v) 43 118 true).run Tryd.prog w = .ok (.tuple #[v, .bool true]) w := by kernel_rfl
theorem tz_Pair (w : World) : (zeroValue 118).run Tryd.prog w = .ok (.pointer none) w := by kernel_rfl
theorem tm_Pair {T : TypeId} (v : Value) (h : T ≠ 118) (w : World) : (Instr.typeAssert (.iface T v) 43 118 true).run Tryd.prog w = .ok (.tuple #[.pointer none, .bool false]) w := by
  simp [Instr.typeAssert, run_underlying Tryd.underlying118, h, tz_Pair w]
theorem th_Function (v : Value) (w : World) : (Instr.typeAssert (.iface 89 v) 43 89 true).run Tryd.prog w = .ok (.tuple #[v, .bool true]) w := by kernel_rfl
theorem tz_Function (w : World) : (zeroValue 89).run Tryd.prog w = .ok (.pointer none) w := by kernel_rfl
theorem tm_Function {T : TypeId} (v : Value) (h : T ≠ 89) (w : World) : (Instr.typeAssert (.iface T v) 43 89 true).run Tryd.prog w = .ok (.tuple #[.pointer none, .bool false]) w := by
  simp [Instr.typeAssert, run_underlying Tryd.underlying89, h, tz_Function w]
end Go.Proofs.YtceadeaodbadlaaDoor
