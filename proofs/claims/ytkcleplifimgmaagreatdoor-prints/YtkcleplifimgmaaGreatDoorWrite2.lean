import Derived.Test.YtkcleplifimgmaaGreatDoorWrite
import Derived.Deep.DeepCutAuto
set_option linter.unusedVariables false
set_option linter.unusedSimpArgs false
namespace Go.Proofs.YtkcleplifimgmaaGreatDoor
open Go.RowKit

theorem Kb.undrew {B b n : Nat} {w w' : World} (h : Kb B b (w.drewN n) w') : Kb B b w w' := ⟨⟨h.1.os, h.1.tape, h.1.output, h.1.size, h.1.block⟩, h.2⟩

theorem reachesOn_on (T : TypeId) (x : Value) (hk : Kd T x 2) (w : World) :
    Calls Tryz.prog 66 #[.iface T x] w fun e w' => e = .returned (.bool true) ∧ w' = w := reachesOn_any T x 2 hk w
theorem reachesOn_off (T : TypeId) (x : Value) (k : Nat) (hk : Kd T x k) (hk2 : (k == 2) = false) (w : World) :
    Calls Tryz.prog 66 #[.iface T x] w fun e w' => e = .returned (.bool false) ∧ w' = w := by
  rw [← hk2]; exact reachesOn_any T x k hk w

set_option maxHeartbeats 4000000 in
set_option maxRecDepth 100000 in
theorem wr_call_on (T : TypeId) (x : Value) (k : Nat) (f : List UInt8) (T' : TypeId) (x' : Value) (f' : List UInt8) (p : Int) (hk : Kd T x k) (hk' : Kd T' x' 2) (hx : Wr T x f) (hx' : Wr T' x' f') :
    Wr 139 (.agg #[.iface T x, .iface T' x', .int .i64 p]) (partOf (k == 2) f ++ partOf true f') := by
  intro B b l w h hB hl
  have hl2 : l.length + (partOf (k == 2) f).length + (partOf true f').length ≤ 1000000 := by simp at hl; omega
  clear hl
  have hbl := h.le
  have HW := h.alloc (.cells #[.iface T x, .iface T' x', .int .i64 p] 139)
  have q0 : (w.alloc (.cells #[.iface T x, .iface T' x', .int .i64 p] 139)).heap[w.heap.size]? = some (.cells #[.iface T x, .iface T' x', .int .i64 p] 139 (0, 0)) := heap_alloc_new w _
  have K0 : Kb B b w (w.alloc (.cells #[.iface T x, .iface T' x', .int .i64 p] 139)) := (Kb.refl B b w).alloc hB _
  have a1 := ta_Call_Name
  have a2 := ta_Call_Constant
  have a3 := ta_Call_Literal
  have a4 := ta_Call_Function
  have a5 := ta_Call_Let
  have a6 := ta_Call_Call
  go_enter Tryz.func35, Tryz.ntmps35
  go_upto_region 26 with fail
  clear a1 a2 a3 a4 a5 a6
  go_cut [77] from 71 to 77 (fun _ wx => Bu B b (l ++ partOf (k == 2) f) wx ∧ Kb B b w wx ∧ wx.heap[w.heap.size]? = some (.cells #[.iface T x, .iface T' x', .int .i64 p] 139 (0, 0)))
  case first =>
    go_region_with (first
      | (go_at_call 66; refine (reachesOn_any T x k hk _).mono ?_; rintro e w' ⟨rfl, rfl⟩)
      | (go_at_call 65; refine (writePart_any T x f hx (k == 2) B b l _ (by exact HW) (by simp; omega) (by omega)).mono ?_; rintro e w1 ⟨rfl, h1, k1⟩))
    all_goals
      rename_i w1 h1 k1
      have k1 := Kb.undrew (n := 1) k1
      go_wp2_with fail
      go_meet
      case rel => exact ⟨h1, K0.trans k1, k1.box q0 (by omega) (by decide)⟩
  case rest =>
    obtain ⟨h1, K1, q1⟩ := hcut
    have c1 : wc.cell? ⟨w.heap.size, 1, none⟩ = some (.iface T' x') := by rw [Lib.cell_of_heap q1]; rfl
    have s1 : B ≤ wc.heap.size := Nat.le_trans hB K1.size
    have c2 : ∀ o, (wc.alloc o).cell? ⟨w.heap.size, 1, none⟩ = some (.iface T' x') := fun o => by
      rw [World.cell?_alloc_lt _ _ _ (Array.getElem?_eq_some_iff.1 q1).1]; exact c1
    clear q0 K0 HW q1 h
    go_wp2_with fail
    first | go_region_with (first
      | (go_at_call 66; refine (reachesOn_on T' x' hk' _).mono ?_; rintro e w' ⟨rfl, rfl⟩)
      | (go_at_call 65; refine (writePart_any T' x' f' hx' true B b _ _ (by exact h1) (by simp; omega) (by simp; omega)).mono ?_; rintro e w2 ⟨rfl, h2, k2⟩)) | fail
    all_goals
      go_wp2_with fail
      go_end0
      exact ⟨rfl, by simpa using h2, K1.trans (Kb.undrew (n := 1) k2)⟩

set_option maxHeartbeats 4000000 in
set_option maxRecDepth 100000 in
theorem wr_call_off (T : TypeId) (x : Value) (k : Nat) (f : List UInt8) (T' : TypeId) (x' : Value) (k' : Nat) (f' : List UInt8) (p : Int) (hk : Kd T x k) (hk' : Kd T' x' k') (hk2 : (k' == 2) = false) (hx : Wr T x f) (hx' : Wr T' x' f') :
    Wr 139 (.agg #[.iface T x, .iface T' x', .int .i64 p]) (partOf (k == 2) f ++ partOf (k' == 1) f') := by
  intro B b l w h hB hl
  have hl2 : l.length + (partOf (k == 2) f).length + (partOf (k' == 1) f').length ≤ 1000000 := by simp at hl; omega
  clear hl
  have hbl := h.le
  have HW := h.alloc (.cells #[.iface T x, .iface T' x', .int .i64 p] 139)
  have q0 : (w.alloc (.cells #[.iface T x, .iface T' x', .int .i64 p] 139)).heap[w.heap.size]? = some (.cells #[.iface T x, .iface T' x', .int .i64 p] 139 (0, 0)) := heap_alloc_new w _
  have K0 : Kb B b w (w.alloc (.cells #[.iface T x, .iface T' x', .int .i64 p] 139)) := (Kb.refl B b w).alloc hB _
  have a1 := ta_Call_Name
  have a2 := ta_Call_Constant
  have a3 := ta_Call_Literal
  have a4 := ta_Call_Function
  have a5 := ta_Call_Let
  have a6 := ta_Call_Call
  go_enter Tryz.func35, Tryz.ntmps35
  go_upto_region 26 with fail
  clear a1 a2 a3 a4 a5 a6
  go_cut [77] from 71 to 77 (fun _ wx => Bu B b (l ++ partOf (k == 2) f) wx ∧ Kb B b w wx ∧ wx.heap[w.heap.size]? = some (.cells #[.iface T x, .iface T' x', .int .i64 p] 139 (0, 0)))
  case first =>
    go_region_with (first
      | (go_at_call 66; refine (reachesOn_any T x k hk _).mono ?_; rintro e w' ⟨rfl, rfl⟩)
      | (go_at_call 65; refine (writePart_any T x f hx (k == 2) B b l _ (by exact HW) (by simp; omega) (by omega)).mono ?_; rintro e w1 ⟨rfl, h1, k1⟩))
    all_goals
      rename_i w1 h1 k1
      have k1 := Kb.undrew (n := 1) k1
      go_wp2_with fail
      go_meet
      case rel => exact ⟨h1, K0.trans k1, k1.box q0 (by omega) (by decide)⟩
  case rest =>
    obtain ⟨h1, K1, q1⟩ := hcut
    have c1 : wc.cell? ⟨w.heap.size, 1, none⟩ = some (.iface T' x') := by rw [Lib.cell_of_heap q1]; rfl
    have s1 : B ≤ wc.heap.size := Nat.le_trans hB K1.size
    have c2 : ∀ o, (wc.alloc o).cell? ⟨w.heap.size, 1, none⟩ = some (.iface T' x') := fun o => by
      rw [World.cell?_alloc_lt _ _ _ (Array.getElem?_eq_some_iff.1 q1).1]; exact c1
    clear q0 K0 HW q1 h
    go_wp2_with fail
    go_region_with (first
      | (go_at_call 66; refine (reachesOn_off T' x' k' hk' hk2 _).mono ?_; rintro e w' ⟨rfl, rfl⟩)
      | (go_at_call 67; refine (isCall_any T' x' k' hk' _).mono ?_; rintro e w' ⟨rfl, o, rfl⟩)
      | (go_at_call 65; refine (writePart_any T' x' f' hx' (k' == 1) B b _ _ (by exact h1.alloc _) (by simp; omega) (by simp; omega)).mono ?_; rintro e w2 ⟨rfl, h2, k2⟩))
    all_goals
      go_wp2_with fail
      go_end0
      exact ⟨rfl, by simpa using h2, K1.trans (((Kb.refl B b wc).alloc s1 _).trans (Kb.undrew (n := 1) k2))⟩

theorem wr_call (T : TypeId) (x : Value) (k : Nat) (f : List UInt8) (T' : TypeId) (x' : Value) (k' : Nat) (f' : List UInt8) (p : Int) (hk : Kd T x k) (hk' : Kd T' x' k') (hx : Wr T x f) (hx' : Wr T' x' f') :
    Wr 139 (.agg #[.iface T x, .iface T' x', .int .i64 p]) (firstOf k f ++ secondOf k' f') := by
  rw [firstOf_part, secondOf_part hk']
  by_cases h2 : k' = 2
  · subst h2
    exact wr_call_on T x k f T' x' f' p hk hk' hx hx'
  · have hk2 : (k' == 2) = false := by simp [h2]
    rw [hk2, Bool.false_or]
    exact wr_call_off T x k f T' x' k' f' p hk hk' hk2 hx hx'
end Go.Proofs.YtkcleplifimgmaaGreatDoor
