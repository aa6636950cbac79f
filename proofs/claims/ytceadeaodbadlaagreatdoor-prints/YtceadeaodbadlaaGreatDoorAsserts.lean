import Derived.Test.YtceadeaodbadlaaGreatDoorProg
import Derived.WalkKit
import Derived.KernelRfl
set_option linter.unusedVariables false
set_option linter.unusedSimpArgs false
namespace Go.Proofs.YtceadeaodbadlaaGreatDoor
/-! What an assertion on an expression's value answers, by its dynamic type. -/
theorem ta_Name_Name (v : Value) (w : World) : (Instr.typeAssert (.iface 173 v) 82 173 true).run Tryz.prog w = .ok (.tuple #[v, .bool true]) w := by kernel_rfl
theorem ta_Constant_Name (v : Value) (w : World) : (Instr.typeAssert (.iface 175 v) 82 173 true).run Tryz.prog w = .ok (.tuple #[.agg #[.int .u8 0, .slice none 0 0, .int .i64 0], .bool false]) w := by kernel_rfl
theorem ta_Literal_Name (v : Value) (w : World) : (Instr.typeAssert (.iface 177 v) 82 173 true).run Tryz.prog w = .ok (.tuple #[.agg #[.int .u8 0, .slice none 0 0, .int .i64 0], .bool false]) w := by kernel_rfl
theorem ta_Function_Name (v : Value) (w : World) : (Instr.typeAssert (.iface 179 v) 82 173 true).run Tryz.prog w = .ok (.tuple #[.agg #[.int .u8 0, .slice none 0 0, .int .i64 0], .bool false]) w := by kernel_rfl
theorem ta_Let_Name (v : Value) (w : World) : (Instr.typeAssert (.iface 183 v) 82 173 true).run Tryz.prog w = .ok (.tuple #[.agg #[.int .u8 0, .slice none 0 0, .int .i64 0], .bool false]) w := by kernel_rfl
theorem ta_Call_Name (v : Value) (w : World) : (Instr.typeAssert (.iface 186 v) 82 173 true).run Tryz.prog w = .ok (.tuple #[.agg #[.int .u8 0, .slice none 0 0, .int .i64 0], .bool false]) w := by kernel_rfl
theorem ta_Name_Constant (v : Value) (w : World) : (Instr.typeAssert (.iface 173 v) 82 175 true).run Tryz.prog w = .ok (.tuple #[.agg #[.int .u8 0, .slice none 0 0, .int .i64 0], .bool false]) w := by kernel_rfl
theorem ta_Constant_Constant (v : Value) (w : World) : (Instr.typeAssert (.iface 175 v) 82 175 true).run Tryz.prog w = .ok (.tuple #[v, .bool true]) w := by kernel_rfl
theorem ta_Literal_Constant (v : Value) (w : World) : (Instr.typeAssert (.iface 177 v) 82 175 true).run Tryz.prog w = .ok (.tuple #[.agg #[.int .u8 0, .slice none 0 0, .int .i64 0], .bool false]) w := by kernel_rfl
theorem ta_Function_Constant (v : Value) (w : World) : (Instr.typeAssert (.iface 179 v) 82 175 true).run Tryz.prog w = .ok (.tuple #[.agg #[.int .u8 0, .slice none 0 0, .int .i64 0], .bool false]) w := by kernel_rfl
theorem ta_Let_Constant (v : Value) (w : World) : (Instr.typeAssert (.iface 183 v) 82 175 true).run Tryz.prog w = .ok (.tuple #[.agg #[.int .u8 0, .slice none 0 0, .int .i64 0], .bool false]) w := by kernel_rfl
theorem ta_Call_Constant (v : Value) (w : World) : (Instr.typeAssert (.iface 186 v) 82 175 true).run Tryz.prog w = .ok (.tuple #[.agg #[.int .u8 0, .slice none 0 0, .int .i64 0], .bool false]) w := by kernel_rfl
theorem ta_Name_Literal (v : Value) (w : World) : (Instr.typeAssert (.iface 173 v) 82 177 true).run Tryz.prog w = .ok (.tuple #[.agg #[.int .u8 0], .bool false]) w := by kernel_rfl
theorem ta_Constant_Literal (v : Value) (w : World) : (Instr.typeAssert (.iface 175 v) 82 177 true).run Tryz.prog w = .ok (.tuple #[.agg #[.int .u8 0], .bool false]) w := by kernel_rfl
theorem ta_Literal_Literal (v : Value) (w : World) : (Instr.typeAssert (.iface 177 v) 82 177 true).run Tryz.prog w = .ok (.tuple #[v, .bool true]) w := by kernel_rfl
theorem ta_Function_Literal (v : Value) (w : World) : (Instr.typeAssert (.iface 179 v) 82 177 true).run Tryz.prog w = .ok (.tuple #[.agg #[.int .u8 0], .bool false]) w := by kernel_rfl
theorem ta_Let_Literal (v : Value) (w : World) : (Instr.typeAssert (.iface 183 v) 82 177 true).run Tryz.prog w = .ok (.tuple #[.agg #[.int .u8 0], .bool false]) w := by kernel_rfl
theorem ta_Call_Literal (v : Value) (w : World) : (Instr.typeAssert (.iface 186 v) 82 177 true).run Tryz.prog w = .ok (.tuple #[.agg #[.int .u8 0], .bool false]) w := by kernel_rfl
theorem ta_Name_Function (v : Value) (w : World) : (Instr.typeAssert (.iface 173 v) 82 179 true).run Tryz.prog w = .ok (.tuple #[.agg #[.int .u8 0, .nilIface, .nilIface, .int .i64 0], .bool false]) w := by kernel_rfl
theorem ta_Constant_Function (v : Value) (w : World) : (Instr.typeAssert (.iface 175 v) 82 179 true).run Tryz.prog w = .ok (.tuple #[.agg #[.int .u8 0, .nilIface, .nilIface, .int .i64 0], .bool false]) w := by kernel_rfl
theorem ta_Literal_Function (v : Value) (w : World) : (Instr.typeAssert (.iface 177 v) 82 179 true).run Tryz.prog w = .ok (.tuple #[.agg #[.int .u8 0, .nilIface, .nilIface, .int .i64 0], .bool false]) w := by kernel_rfl
theorem ta_Function_Function (v : Value) (w : World) : (Instr.typeAssert (.iface 179 v) 82 179 true).run Tryz.prog w = .ok (.tuple #[v, .bool true]) w := by kernel_rfl
theorem ta_Let_Function (v : Value) (w : World) : (Instr.typeAssert (.iface 183 v) 82 179 true).run Tryz.prog w = .ok (.tuple #[.agg #[.int .u8 0, .nilIface, .nilIface, .int .i64 0], .bool false]) w := by kernel_rfl
theorem ta_Call_Function (v : Value) (w : World) : (Instr.typeAssert (.iface 186 v) 82 179 true).run Tryz.prog w = .ok (.tuple #[.agg #[.int .u8 0, .nilIface, .nilIface, .int .i64 0], .bool false]) w := by kernel_rfl
theorem ta_Name_Let (v : Value) (w : World) : (Instr.typeAssert (.iface 173 v) 82 183 true).run Tryz.prog w = .ok (.tuple #[.agg #[.int .u8 0, .slice none 0 0, .nilIface, .nilIface], .bool false]) w := by kernel_rfl
theorem ta_Constant_Let (v : Value) (w : World) : (Instr.typeAssert (.iface 175 v) 82 183 true).run Tryz.prog w = .ok (.tuple #[.agg #[.int .u8 0, .slice none 0 0, .nilIface, .nilIface], .bool false]) w := by kernel_rfl
theorem ta_Literal_Let (v : Value) (w : World) : (Instr.typeAssert (.iface 177 v) 82 183 true).run Tryz.prog w = .ok (.tuple #[.agg #[.int .u8 0, .slice none 0 0, .nilIface, .nilIface], .bool false]) w := by kernel_rfl
theorem ta_Function_Let (v : Value) (w : World) : (Instr.typeAssert (.iface 179 v) 82 183 true).run Tryz.prog w = .ok (.tuple #[.agg #[.int .u8 0, .slice none 0 0, .nilIface, .nilIface], .bool false]) w := by kernel_rfl
theorem ta_Let_Let (v : Value) (w : World) : (Instr.typeAssert (.iface 183 v) 82 183 true).run Tryz.prog w = .ok (.tuple #[v, .bool true]) w := by kernel_rfl
theorem ta_Call_Let (v : Value) (w : World) : (Instr.typeAssert (.iface 186 v) 82 183 true).run Tryz.prog w = .ok (.tuple #[.agg #[.int .u8 0, .slice none 0 0, .nilIface, .nilIface], .bool false]) w := by kernel_rfl
theorem ta_Name_Call (v : Value) (w : World) : (Instr.typeAssert (.iface 173 v) 82 186 true).run Tryz.prog w = .ok (.tuple #[.agg #[.nilIface, .nilIface, .int .i64 0], .bool false]) w := by kernel_rfl
theorem ta_Constant_Call (v : Value) (w : World) : (Instr.typeAssert (.iface 175 v) 82 186 true).run Tryz.prog w = .ok (.tuple #[.agg #[.nilIface, .nilIface, .int .i64 0], .bool false]) w := by kernel_rfl
theorem ta_Literal_Call (v : Value) (w : World) : (Instr.typeAssert (.iface 177 v) 82 186 true).run Tryz.prog w = .ok (.tuple #[.agg #[.nilIface, .nilIface, .int .i64 0], .bool false]) w := by kernel_rfl
theorem ta_Function_Call (v : Value) (w : World) : (Instr.typeAssert (.iface 179 v) 82 186 true).run Tryz.prog w = .ok (.tuple #[.agg #[.nilIface, .nilIface, .int .i64 0], .bool false]) w := by kernel_rfl
theorem ta_Let_Call (v : Value) (w : World) : (Instr.typeAssert (.iface 183 v) 82 186 true).run Tryz.prog w = .ok (.tuple #[.agg #[.nilIface, .nilIface, .int .i64 0], .bool false]) w := by kernel_rfl
theorem ta_Call_Call (v : Value) (w : World) : (Instr.typeAssert (.iface 186 v) 82 186 true).run Tryz.prog w = .ok (.tuple #[v, .bool true]) w := by kernel_rfl
end Go.Proofs.YtceadeaodbadlaaGreatDoor
