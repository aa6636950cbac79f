import Derived.Test.YtejcbbhengloiaaDoorKind2
import Derived.KernelRfl
set_option linter.unusedVariables false
set_option linter.unusedSimpArgs false
namespace Go.Proofs.YtejcbbhengloiaaDoor
open Go.RowKit
/-! What an assertion on a type's value answers, by its dynamic type. -/
theorem th_Whole (v : Value) (w : World) : (Instr.typeAssert (.iface 154 v) 70 154 true).run Tryd.prog w = .ok (.tuple #[v, .bool true]) w := by kernel_rfl
theorem tz_Whole (w : World) : (zeroValue 154).run Tryd.prog w = .ok (.agg #[]) w := by kernel_rfl
theorem tm_Whole {T : TypeId} (v : Value) (h : T ≠ 154) (w : World) : (Instr.typeAssert (.iface T v) 70 154 true).run Tryd.prog w = .ok (.tuple #[.agg #[], .bool false]) w := by
  simp [Instr.typeAssert, run_underlying Tryd.underlying154, h, tz_Whole w]
theorem th_Truth (v : Value) (w : World) : (Instr.typeAssert (.iface 155 v) 70 155 true).run Tryd.prog w = .ok (.tuple #[v, .bool true]) w := by kernel_rfl
theorem tz_Truth (w : World) : (zeroValue 155).run Tryd.prog w = .ok (.agg #[]) w := by kernel_rfl
theorem tm_Truth {T : TypeId} (v : Value) (h : T ≠ 155) (w : World) : (Instr.typeAssert (.iface T v) 70 155 true).run Tryd.prog w = .ok (.tuple #[.agg #[], .bool false]) w := by
  simp [Instr.typeAssert, run_underlying Tryd.underlying155, h, tz_Truth w]
theorem th_Variable (v : Value) (w : World) : (Instr.typeAssert (.iface 157 v) 70 157 true).run Tryd.prog w = .ok (.tuple #[v, .bool true]) w := by kernel_rfl
theorem tz_Variable (w : World) : (zeroValue 157).run Tryd.prog w = .ok (.agg #[.int .u8 0, .int .u8 0]) w := by kernel_rfl
theorem tm_Variable {T : TypeId} (v : Value) (h : T ≠ 157) (w : World) : (Instr.typeAssert (.iface T v) 70 157 true).run Tryd.prog w = .ok (.tuple #[.agg #[.int .u8 0, .int .u8 0], .bool false]) w := by
  simp [Instr.typeAssert, run_underlying Tryd.underlying157, h, tz_Variable w]
theorem th_List (v : Value) (w : World) : (Instr.typeAssert (.iface 160 v) 70 160 true).run Tryd.prog w = .ok (.tuple #[v, .bool true]) w := by kernel_rfl
theorem tz_List (w : World) : (zeroValue 160).run Tryd.prog w = .ok (.agg #[.nilIface]) w := by kernel_rfl
theorem tm_List {T : TypeId} (v : Value) (h : T ≠ 160) (w : World) : (Instr.typeAssert (.iface T v) 70 160 true).run Tryd.prog w = .ok (.tuple #[.agg #[.nilIface], .bool false]) w := by
  simp [Instr.typeAssert, run_underlying Tryd.underlying160, h, tz_List w]
theorem th_Pair (v : Value) (w : World) : (Instr.typeAssert (.iface 163 v) 70 163 true).run Tryd.prog w = .ok (.tuple #[v, .bool true]) w := by kernel_rfl
theorem tz_Pair (w : World) : (zeroValue 163).run Tryd.prog w = .ok (.agg #[.nilIface, .nilIface]) w := by kernel_rfl
theorem tm_Pair {T : TypeId} (v : Value) (h : T ≠ 163) (w : World) : (Instr.typeAssert (.iface T v) 70 163 true).run Tryd.prog w = .ok (.tuple #[.agg #[.nilIface, .nilIface], .bool false]) w := by
  simp [Instr.typeAssert, run_underlying Tryd.underlying163, h, tz_Pair w]
theorem th_Function (v : Value) (w : World) : (Instr.typeAssert (.iface 152 v) 70 152 true).run Tryd.prog w = .ok (.tuple #[v, .bool true]) w := by kernel_rfl
theorem tz_Function (w : World) : (zeroValue 152).run Tryd.prog w = .ok (.agg #[.nilIface, .nilIface]) w := by kernel_rfl
theorem tm_Function {T : TypeId} (v : Value) (h : T ≠ 152) (w : World) : (Instr.typeAssert (.iface T v) 70 152 true).run Tryd.prog w = .ok (.tuple #[.agg #[.nilIface, .nilIface], .bool false]) w := by
  simp [Instr.typeAssert, run_underlying Tryd.underlying152, h, tz_Function w]

end Go.Proofs.YtejcbbhengloiaaDoor
