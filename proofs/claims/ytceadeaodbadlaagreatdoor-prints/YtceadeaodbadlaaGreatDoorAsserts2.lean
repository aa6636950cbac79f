import Derived.Test.YtceadeaodbadlaaGreatDoorTyv
import Derived.KernelRfl
set_option linter.unusedVariables false
set_option linter.unusedSimpArgs false
namespace Go.Proofs.YtceadeaodbadlaaGreatDoor
open Go.RowKit
/-! What an assertion on a type's value answers, by its dynamic type. -/
theorem th_Whole (v : Value) (w : World) : (Instr.typeAssert (.iface 255 v) 94 255 true).run Tryz.prog w = .ok (.tuple #[v, .bool true]) w := by kernel_rfl
theorem tz_Whole (w : World) : (zeroValue 255).run Tryz.prog w = .ok (.agg #[]) w := by kernel_rfl
theorem tm_Whole {T : TypeId} (v : Value) (h : T ≠ 255) (w : World) : (Instr.typeAssert (.iface T v) 94 255 true).run Tryz.prog w = .ok (.tuple #[.agg #[], .bool false]) w := by
  simp [Instr.typeAssert, run_underlying Tryz.underlying255, h, tz_Whole w]
theorem th_Truth (v : Value) (w : World) : (Instr.typeAssert (.iface 254 v) 94 254 true).run Tryz.prog w = .ok (.tuple #[v, .bool true]) w := by kernel_rfl
theorem tz_Truth (w : World) : (zeroValue 254).run Tryz.prog w = .ok (.agg #[]) w := by kernel_rfl
theorem tm_Truth {T : TypeId} (v : Value) (h : T ≠ 254) (w : World) : (Instr.typeAssert (.iface T v) 94 254 true).run Tryz.prog w = .ok (.tuple #[.agg #[], .bool false]) w := by
  simp [Instr.typeAssert, run_underlying Tryz.underlying254, h, tz_Truth w]
theorem th_Variable (v : Value) (w : World) : (Instr.typeAssert (.iface 263 v) 94 263 true).run Tryz.prog w = .ok (.tuple #[v, .bool true]) w := by kernel_rfl
theorem tz_Variable (w : World) : (zeroValue 263).run Tryz.prog w = .ok (.agg #[.int .u8 0, .int .u8 0]) w := by kernel_rfl
theorem tm_Variable {T : TypeId} (v : Value) (h : T ≠ 263) (w : World) : (Instr.typeAssert (.iface T v) 94 263 true).run Tryz.prog w = .ok (.tuple #[.agg #[.int .u8 0, .int .u8 0], .bool false]) w := by
  simp [Instr.typeAssert, run_underlying Tryz.underlying263, h, tz_Variable w]
theorem th_List (v : Value) (w : World) : (Instr.typeAssert (.iface 256 v) 94 256 true).run Tryz.prog w = .ok (.tuple #[v, .bool true]) w := by kernel_rfl
theorem tz_List (w : World) : (zeroValue 256).run Tryz.prog w = .ok (.pointer none) w := by kernel_rfl
theorem tm_List {T : TypeId} (v : Value) (h : T ≠ 256) (w : World) : (Instr.typeAssert (.iface T v) 94 256 true).run Tryz.prog w = .ok (.tuple #[.pointer none, .bool false]) w := by
  simp [Instr.typeAssert, run_underlying Tryz.underlying256, h, tz_List w]
theorem th_Pair (v : Value) (w : World) : (Instr.typeAssert (.iface 259 v) 94 259 true).run Tryz.prog w = .ok (.tuple #[v, .bool true]) w := by kernel_rfl
theorem tz_Pair (w : World) : (zeroValue 259).run Tryz.prog w = .ok (.pointer none) w := by kernel_rfl
theorem tm_Pair {T : TypeId} (v : Value) (h : T ≠ 259) (w : World) : (Instr.typeAssert (.iface T v) 94 259 true).run Tryz.prog w = .ok (.tuple #[.pointer none, .bool false]) w := by
  simp [Instr.typeAssert, run_underlying Tryz.underlying259, h, tz_Pair w]
theorem th_Function (v : Value) (w : World) : (Instr.typeAssert (.iface 243 v) 94 243 true).run Tryz.prog w = .ok (.tuple #[v, .bool true]) w := by kernel_rfl
theorem tz_Function (w : World) : (zeroValue 243).run Tryz.prog w = .ok (.pointer none) w := by kernel_rfl
theorem tm_Function {T : TypeId} (v : Value) (h : T ≠ 243) (w : World) : (Instr.typeAssert (.iface T v) 94 243 true).run Tryz.prog w = .ok (.tuple #[.pointer none, .bool false]) w := by
  simp [Instr.typeAssert, run_underlying Tryz.underlying243, h, tz_Function w]
end Go.Proofs.YtceadeaodbadlaaGreatDoor
