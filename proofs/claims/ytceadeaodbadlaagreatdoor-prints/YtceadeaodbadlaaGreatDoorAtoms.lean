import Derived.Test.YtceadeaodbadlaaGreatDoorScan2
import Derived.Lib.Bytealg
set_option linter.unusedVariables false
set_option linter.unusedSimpArgs false
namespace Go.Proofs.YtceadeaodbadlaaGreatDoor
open Go.RowKit

set_option maxHeartbeats 400000 in
theorem slIndexByte_any (s : ByteArray) (c : Int) (w : World) :
    Calls Tryz.prog 238 #[.string s, .int .u8 c] w fun e w' => e = .returned (.int .i64 (Lib.indexByte s.data.toList c.toNat.toUInt8)) ∧ w' = w := by
  have hx := @run_callFunc_extern Tryz.prog 243 _ Extern.BytealgIndexByte.indexByte Tryz.func243 (by kernel_rfl) (by kernel_rfl) (by kernel_rfl) (by kernel_rfl)
  have hr := @Lib.run_indexByteString Tryz.prog s c
  generalize Lib.indexByte s.data.toList c.toNat.toUInt8 = x at *
  go_enter Tryz.func238, Tryz.ntmps238
  go_wp2
  go_ret
  exact ⟨rfl, rfl⟩

theorem stIndexByte_any (s : ByteArray) (c : Int) (w : World) :
    Calls Tryz.prog 232 #[.string s, .int .u8 c] w fun e w' => e = .returned (.int .i64 (Lib.indexByte s.data.toList c.toNat.toUInt8)) ∧ w' = w := by
  go_enter Tryz.func232, Tryz.ntmps232
  go_wp2_with fail
  refine (slIndexByte_any s c _).mono ?_
  rintro e w' ⟨rfl, rfl⟩
  go_wp2_with fail
  go_ret
  exact ⟨rfl, rfl⟩

theorem con_all : (List.range 256).all (fun c => decide (0 ≤ Lib.indexByte [78, 67, 80, 76, 82, 74, 69, 65, 89, 68] (c : Int).toNat.toUInt8) == isCon c) = true := by decide +kernel
theorem lit_all : (List.range 256).all (fun c => decide (0 ≤ Lib.indexByte [48, 49, 50, 51, 52, 53, 54, 55, 56, 57, 84, 70] (c : Int).toNat.toUInt8) == isLit c) = true := by decide +kernel

theorem con_at (c : Nat) (h : c < 256) : decide (0 ≤ Lib.indexByte [78, 67, 80, 76, 82, 74, 69, 65, 89, 68] (c : Int).toNat.toUInt8) = isCon c := by
  have := List.all_eq_true.1 con_all c (List.mem_range.2 h)
  simpa only [beq_iff_eq] using this
theorem lit_at (c : Nat) (h : c < 256) : decide (0 ≤ Lib.indexByte [48, 49, 50, 51, 52, 53, 54, 55, 56, 57, 84, 70] (c : Int).toNat.toUInt8) = isLit c := by
  have := List.all_eq_true.1 lit_all c (List.mem_range.2 h)
  simpa only [beq_iff_eq] using this

set_option maxHeartbeats 400000 in
theorem isConstant_any (c : Nat) (w : World) (hc : c < 256) :
    Calls Tryz.prog 216 #[.int .u8 (c : Int)] w fun e w' => e = .returned (.bool (isCon c)) ∧ w' = w := by
  rw [← con_at c hc]
  generalize hx : Lib.indexByte [78, 67, 80, 76, 82, 74, 69, 65, 89, 68] (c : Int).toNat.toUInt8 = x
  have HX : Hid (Lib.indexByte [78, 67, 80, 76, 82, 74, 69, 65, 89, 68] (c : Int).toNat.toUInt8 = x) := hx
  clear hx
  go_enter Tryz.func216, Tryz.ntmps216
  go_wp2_with fail
  refine (stIndexByte_any _ _ _).mono ?_
  rintro e w' ⟨rfl, rfl⟩
  rw [show Lib.indexByte (ByteArray.mk #[78, 67, 80, 76, 82, 74, 69, 65, 89, 68]).data.toList (c : Int).toNat.toUInt8 = x from HX.out]
  go_wp2_with fail
  go_ret
  exact ⟨rfl, rfl⟩

set_option maxHeartbeats 400000 in
theorem isLiteral_any (c : Nat) (w : World) (hc : c < 256) :
    Calls Tryz.prog 213 #[.int .u8 (c : Int)] w fun e w' => e = .returned (.bool (isLit c)) ∧ w' = w := by
  rw [← lit_at c hc]
  generalize hx : Lib.indexByte [48, 49, 50, 51, 52, 53, 54, 55, 56, 57, 84, 70] (c : Int).toNat.toUInt8 = x
  have HX : Hid (Lib.indexByte [48, 49, 50, 51, 52, 53, 54, 55, 56, 57, 84, 70] (c : Int).toNat.toUInt8 = x) := hx
  clear hx
  go_enter Tryz.func213, Tryz.ntmps213
  go_wp2_with fail
  refine (stIndexByte_any _ _ _).mono ?_
  rintro e w' ⟨rfl, rfl⟩
  rw [show Lib.indexByte (ByteArray.mk #[48, 49, 50, 51, 52, 53, 54, 55, 56, 57, 84, 70]).data.toList (c : Int).toNat.toUInt8 = x from HX.out]
  go_wp2_with fail
  go_ret
  exact ⟨rfl, rfl⟩

set_option maxHeartbeats 400000 in
theorem beginsAtom_any (c : Nat) (w : World) (hc : c < 256) :
    Calls Tryz.prog 188 #[.int .u8 (c : Int)] w fun e w' => e = .returned (.bool (begins c)) ∧ w' = w := by
  unfold begins
  by_cases h0 : c = 40
  · subst h0
    go_enter Tryz.func188, Tryz.ntmps188
    go_wp2_with fail
    go_ret
    exact ⟨rfl, rfl⟩
  have h0' : ((c : Int) == 40) = false := by rw [beq_eq_false_iff_ne]; omega
  have e0 : (c == 40) = false := by simp [h0]
  rw [e0]
  clear e0 h0
  cases h1 : isLet c
  · cases h2 : isCon c
    · simp only [Bool.false_or]
      go_enter Tryz.func188, Tryz.ntmps188
      go_wp2_with fail
      refine (isLetter_any c _ hc).mono ?_
      rintro e w' ⟨rfl, rfl⟩
      rw [h1]
      go_wp2_with fail
      refine (isConstant_any c _ hc).mono ?_
      rintro e w' ⟨rfl, rfl⟩
      rw [h2]
      go_wp2_with fail
      refine (isLiteral_any c _ hc).mono ?_
      rintro e w' ⟨rfl, rfl⟩
      go_wp2_with fail
      go_ret
      exact ⟨rfl, rfl⟩
    · go_enter Tryz.func188, Tryz.ntmps188
      go_wp2_with fail
      refine (isLetter_any c _ hc).mono ?_
      rintro e w' ⟨rfl, rfl⟩
      rw [h1]
      go_wp2_with fail
      refine (isConstant_any c _ hc).mono ?_
      rintro e w' ⟨rfl, rfl⟩
      rw [h2]
      go_wp2_with fail
      go_ret
      exact ⟨rfl, rfl⟩
  · go_enter Tryz.func188, Tryz.ntmps188
    go_wp2_with fail
    refine (isLetter_any c _ hc).mono ?_
    rintro e w' ⟨rfl, rfl⟩
    rw [h1]
    go_wp2_with fail
    go_ret
    exact ⟨rfl, rfl⟩
end Go.Proofs.YtceadeaodbadlaaGreatDoor
