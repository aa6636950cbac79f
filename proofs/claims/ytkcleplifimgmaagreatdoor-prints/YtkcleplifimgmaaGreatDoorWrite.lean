import Derived.Test.YtkcleplifimgmaaGreatDoorBuilder
import Derived.Test.YtkcleplifimgmaaGreatDoorAsserts
set_option linter.unusedVariables false
set_option linter.unusedSimpArgs false
namespace Go.Proofs.YtkcleplifimgmaaGreatDoor
open Go.RowKit

/-- The shape of an expression's value, by its kind. -/
def Kd (T : TypeId) (x : Value) (k : Nat) : Prop :=
  (k = 0 ∧ (((T = 128 ∨ T = 130) ∧ ∃ (c : Int) (sa : Option Addr) (sm sc : Nat) (p : Int), x = .agg #[.int .u8 c, .slice sa sm sc, .int .i64 p]) ∨ (T = 132 ∧ ∃ c : Int, x = .agg #[.int .u8 c]))) ∨
  (k = 1 ∧ T = 139 ∧ ∃ T1 x1 T2 x2 p, x = .agg #[.iface T1 x1, .iface T2 x2, .int .i64 p]) ∨
  (k = 2 ∧ T = 134 ∧ ∃ c F T1 x1 p, x = .agg #[.int .u8 c, F, .iface T1 x1, .int .i64 p]) ∨
  (k = 2 ∧ T = 137 ∧ ∃ c V T1 x1 T2 x2, x = .agg #[.int .u8 c, V, .iface T1 x1, .iface T2 x2])

/-- 'write' writes the form f. -/
def Wr (T : TypeId) (x : Value) (f : List UInt8) : Prop :=
  ∀ (B b : Nat) (l : List UInt8) (w : World), Bu B b l w → B ≤ w.heap.size → l.length + f.length ≤ 1000000 →
    Calls Tryz.prog 35 #[.pointer (some ⟨b, 0, none⟩), .iface T x] w fun e w' => e = .returned (.tuple #[]) ∧ Bu B b (l ++ f) w' ∧ Kb B b w w'

theorem Bu.alloc {B b : Nat} {l : List UInt8} {w : World} (h : Bu B b l w) (o : Obj) : Bu B b l (w.alloc o) := by
  rcases h with h | h
  · obtain ⟨hB, v, hb, hown, hne⟩ := h
    exact .inl ⟨hB, v, (Lib.alloc_old w o b (Array.getElem?_eq_some_iff.1 hb).1).trans hb, hown.alloc o, hne⟩
  · obtain ⟨hB, v, hb, hown, hne⟩ := h
    exact .inr ⟨hB, v, (Lib.alloc_old w o b (Array.getElem?_eq_some_iff.1 hb).1).trans hb, hown.alloc o, hne⟩
theorem Bu.drewN {B b : Nat} {l : List UInt8} {w : World} (h : Bu B b l w) (n : Nat) : Bu B b l (w.drewN n) := h

theorem Bu.le {B b : Nat} {l : List UInt8} {w : World} (h : Bu B b l w) : B ≤ b ∧ b < w.heap.size := by
  rcases h with h | h
  · exact ⟨h.1, h.lt⟩
  · exact ⟨h.1, h.lt⟩

set_option maxHeartbeats 400000 in
set_option maxRecDepth 100000 in
theorem wr_name (c : Nat) (sa : Option Addr) (sm sc : Nat) (p : Int) (hc : c < 256) : Wr 128 (.agg #[.int .u8 (c : Int), .slice sa sm sc, .int .i64 p]) [u8 c] := by
  intro B b l w h hB hl
  have hw := h.alloc (.cells #[.int .u8 (c : Int), .slice sa sm sc, .int .i64 p] 128)
  have a1 := ta_Name_Name
  go_enter Tryz.func35, Tryz.ntmps35
  go_wp2_with fail
  refine (writeByte_bu B b l c _ hw hc (by simpa using hl) (by simp; omega)).mono ?_
  rintro e w' ⟨rfl, h1, h2⟩
  go_wp2_with fail
  go_end0
  exact ⟨rfl, h1, ((Kb.refl B b w).alloc hB _).trans h2⟩

set_option maxHeartbeats 400000 in
set_option maxRecDepth 100000 in
theorem wr_const (c : Nat) (sa : Option Addr) (sm sc : Nat) (p : Int) (hc : c < 256) : Wr 130 (.agg #[.int .u8 (c : Int), .slice sa sm sc, .int .i64 p]) [u8 c] := by
  intro B b l w h hB hl
  have hw := h.alloc (.cells #[.int .u8 (c : Int), .slice sa sm sc, .int .i64 p] 130)
  have a1 := ta_Constant_Name
  have a2 := ta_Constant_Constant
  go_enter Tryz.func35, Tryz.ntmps35
  go_wp2_with fail
  refine (writeByte_bu B b l c _ hw hc (by simpa using hl) (by simp; omega)).mono ?_
  rintro e w' ⟨rfl, h1, h2⟩
  go_wp2_with fail
  go_end0
  exact ⟨rfl, h1, ((Kb.refl B b w).alloc hB _).trans h2⟩

set_option maxHeartbeats 400000 in
set_option maxRecDepth 100000 in
theorem wr_lit (c : Nat) (hc : c < 256) : Wr 132 (.agg #[.int .u8 (c : Int)]) [u8 c] := by
  intro B b l w h hB hl
  have hw := h.alloc (.cells #[.int .u8 (c : Int)] 132)
  have a1 := ta_Literal_Name
  have a2 := ta_Literal_Constant
  have a3 := ta_Literal_Literal
  go_enter Tryz.func35, Tryz.ntmps35
  go_wp2_with fail
  refine (writeByte_bu B b l c _ hw hc (by simpa using hl) (by simp; omega)).mono ?_
  rintro e w' ⟨rfl, h1, h2⟩
  go_wp2_with fail
  go_end0
  exact ⟨rfl, h1, ((Kb.refl B b w).alloc hB _).trans h2⟩

theorem Kb.box {B b : Nat} {w w' : World} (h : Kb B b w w') {k : Nat} {cs : Array Value} {T : TypeId} {fz : Nat × Nat} (hk : w.heap[k]? = some (.cells cs T fz)) (hb : k ≠ b) (hT : T ≠ 5) : w'.heap[k]? = some (.cells cs T fz) :=
  h.2 k _ hk (by simpa using hb) (fun c fz' e => hT (by injection e))

set_option maxHeartbeats 1000000 in
set_option maxRecDepth 100000 in
theorem wr_fn (c : Nat) (F : Value) (hF : F = .nilIface ∨ ∃ T x, F = .iface T x) (p : Int) (T : TypeId) (x : Value) (f : List UInt8) (hc : c < 256) (hx : Wr T x f) : Wr 134 (.agg #[.int .u8 (c : Int), F, .iface T x, .int .i64 p]) (92 :: u8 c :: 46 :: f) := by
  intro B b l w h hB hl
  have hl' : l.length + (f.length + 3) ≤ 1000000 := by simpa using hl
  clear hl
  have hbl := h.le
  have HW := h.alloc (.cells #[.int .u8 (c : Int), F, .iface T x, .int .i64 p] 134)
  have q0 : (w.alloc (.cells #[.int .u8 (c : Int), F, .iface T x, .int .i64 p] 134)).heap[w.heap.size]? = some (.cells #[.int .u8 (c : Int), F, .iface T x, .int .i64 p] 134 (0, 0)) := heap_alloc_new w _
  have K0 : Kb B b w (w.alloc (.cells #[.int .u8 (c : Int), F, .iface T x, .int .i64 p] 134)) := (Kb.refl B b w).alloc hB _
  have a1 := ta_Function_Name
  have a2 := ta_Function_Constant
  have a3 := ta_Function_Literal
  have a4 := ta_Function_Function
  rcases hF with rfl | ⟨TF, xF, rfl⟩
  all_goals
    go_enter Tryz.func35, Tryz.ntmps35
    go_wp2_with fail
    refine (writeByte_bu B b l 92 _ HW (by decide) (by omega) (by simp; omega)).mono ?_
    rintro e w1 ⟨rfl, h1, k1⟩
    have q1 := k1.box q0 (by omega) (by decide)
    have c1 : w1.cell? ⟨w.heap.size, 0, none⟩ = some (.int .u8 (c : Int)) := by rw [Lib.cell_of_heap q1]; rfl
    have K1 := K0.trans k1
    have s1 : B ≤ w1.heap.size := Nat.le_trans hB K1.size
    clear q0 K0 HW k1
    go_wp2_with fail
    refine (writeByte_bu B b _ c _ h1 hc (by simp; omega) s1).mono ?_
    rintro e w2 ⟨rfl, h2, k2⟩
    have q2 := k2.box q1 (by omega) (by decide)
    have K2 := K1.trans k2
    have s2 : B ≤ w2.heap.size := Nat.le_trans hB K2.size
    clear c1 q1 K1 h1 k2 s1
    go_wp2_with fail
    refine (writeByte_bu B b _ 46 _ h2 (by decide) (by simp; omega) s2).mono ?_
    rintro e w3 ⟨rfl, h3, k3⟩
    have q3 := k3.box q2 (by omega) (by decide)
    have c3 : w3.cell? ⟨w.heap.size, 2, none⟩ = some (.iface T x) := by rw [Lib.cell_of_heap q3]; rfl
    have K3 := K2.trans k3
    have s3 : B ≤ w3.heap.size := Nat.le_trans hB K3.size
    clear q2 q3 K2 h2 k3 s2
    go_wp2_with fail
    refine (hx B b _ _ h3 s3 (by simp; omega)).mono ?_
    rintro e w4 ⟨rfl, h4, k4⟩
    clear c3
    go_wp2_with fail
    go_end0
    exact ⟨rfl, by simpa [u8] using h4, K3.trans k4⟩

set_option maxHeartbeats 1000000 in
set_option maxRecDepth 100000 in
theorem wr_let (c : Nat) (sa : Option Addr) (sm sc : Nat) (T : TypeId) (x : Value) (f : List UInt8) (T' : TypeId) (x' : Value) (f' : List UInt8) (hc : c < 256) (hx : Wr T x f) (hx' : Wr T' x' f') :
    Wr 137 (.agg #[.int .u8 (c : Int), .slice sa sm sc, .iface T x, .iface T' x']) (64 :: u8 c :: 61 :: (f ++ 59 :: f')) := by
  intro B b l w h hB hl
  have hl' : l.length + (f.length + f'.length + 4) ≤ 1000000 := by simp at hl; omega
  clear hl
  have hbl := h.le
  have HW := h.alloc (.cells #[.int .u8 (c : Int), .slice sa sm sc, .iface T x, .iface T' x'] 137)
  have q0 : (w.alloc (.cells #[.int .u8 (c : Int), .slice sa sm sc, .iface T x, .iface T' x'] 137)).heap[w.heap.size]? = some (.cells #[.int .u8 (c : Int), .slice sa sm sc, .iface T x, .iface T' x'] 137 (0, 0)) := heap_alloc_new w _
  have K0 : Kb B b w (w.alloc (.cells #[.int .u8 (c : Int), .slice sa sm sc, .iface T x, .iface T' x'] 137)) := (Kb.refl B b w).alloc hB _
  have a1 := ta_Let_Name
  have a2 := ta_Let_Constant
  have a3 := ta_Let_Literal
  have a4 := ta_Let_Function
  have a5 := ta_Let_Let
  go_enter Tryz.func35, Tryz.ntmps35
  go_wp2_with fail
  refine (writeByte_bu B b l 64 _ HW (by decide) (by omega) (by simp; omega)).mono ?_
  rintro e w1 ⟨rfl, h1, k1⟩
  have q1 := k1.box q0 (by omega) (by decide)
  have c1 : w1.cell? ⟨w.heap.size, 0, none⟩ = some (.int .u8 (c : Int)) := by rw [Lib.cell_of_heap q1]; rfl
  have K1 := K0.trans k1
  have s1 : B ≤ w1.heap.size := Nat.le_trans hB K1.size
  clear q0 K0 HW k1
  go_wp2_with fail
  refine (writeByte_bu B b _ c _ h1 hc (by simp; omega) s1).mono ?_
  rintro e w2 ⟨rfl, h2, k2⟩
  have q2 := k2.box q1 (by omega) (by decide)
  have K2 := K1.trans k2
  have s2 : B ≤ w2.heap.size := Nat.le_trans hB K2.size
  clear c1 q1 K1 h1 k2 s1
  go_wp2_with fail
  refine (writeByte_bu B b _ 61 _ h2 (by decide) (by simp; omega) s2).mono ?_
  rintro e w3 ⟨rfl, h3, k3⟩
  have q3 := k3.box q2 (by omega) (by decide)
  have c3 : w3.cell? ⟨w.heap.size, 2, none⟩ = some (.iface T x) := by rw [Lib.cell_of_heap q3]; rfl
  have K3 := K2.trans k3
  have s3 : B ≤ w3.heap.size := Nat.le_trans hB K3.size
  clear q2 K2 h2 k3 s2
  go_wp2_with fail
  refine (hx B b _ _ h3 s3 (by simp; omega)).mono ?_
  rintro e w4 ⟨rfl, h4, k4⟩
  have q4 := k4.box q3 (by omega) (by decide)
  have K4 := K3.trans k4
  have s4 : B ≤ w4.heap.size := Nat.le_trans hB K4.size
  clear c3 q3 K3 h3 k4 s3
  go_wp2_with fail
  refine (writeByte_bu B b _ 59 _ h4 (by decide) (by simp; omega) s4).mono ?_
  rintro e w5 ⟨rfl, h5, k5⟩
  have q5 := k5.box q4 (by omega) (by decide)
  have c5 : w5.cell? ⟨w.heap.size, 3, none⟩ = some (.iface T' x') := by rw [Lib.cell_of_heap q5]; rfl
  have K5 := K4.trans k5
  have s5 : B ≤ w5.heap.size := Nat.le_trans hB K5.size
  clear q4 q5 K4 h4 k5 s4
  go_wp2_with fail
  refine (hx' B b _ _ h5 s5 (by simp; omega)).mono ?_
  rintro e w6 ⟨rfl, h6, k6⟩
  clear c5
  go_wp2_with fail
  go_end0
  exact ⟨rfl, by simpa [u8] using h6, K5.trans k6⟩

def partOf (cl : Bool) (f : List UInt8) : List UInt8 := if cl then 40 :: (f ++ [41]) else f
theorem firstOf_part (k : Nat) (f : List UInt8) : firstOf k f = partOf (k == 2) f := by
  unfold firstOf partOf; by_cases h : k = 2 <;> simp [h]
theorem secondOf_part {T : TypeId} {x : Value} {k : Nat} (h : Kd T x k) (f : List UInt8) : secondOf k f = partOf (k == 2 || k == 1) f := by
  rcases h with ⟨rfl, _⟩ | ⟨rfl, _⟩ | ⟨rfl, _⟩ | ⟨rfl, _⟩ <;> rfl

set_option maxHeartbeats 400000 in
theorem writePart_any (T : TypeId) (x : Value) (f : List UInt8) (hx : Wr T x f) (cl : Bool) (B b : Nat) (l : List UInt8) (w : World) (h : Bu B b l w) (hB : B ≤ w.heap.size) (hl : l.length + (partOf cl f).length ≤ 1000000) :
    Calls Tryz.prog 65 #[.pointer (some ⟨b, 0, none⟩), .iface T x, .bool cl] w fun e w' => e = .returned (.tuple #[]) ∧ Bu B b (l ++ partOf cl f) w' ∧ Kb B b w w' := by
  cases cl
  · have hl' : l.length + f.length ≤ 1000000 := hl
    clear hl
    go_enter Tryz.func65, Tryz.ntmps65
    go_wp2_with fail
    refine (hx B b _ _ h hB (by omega)).mono ?_
    rintro e w4 ⟨rfl, h4, k4⟩
    go_wp2_with fail
    go_end0
    exact ⟨rfl, h4, k4⟩
  · have hl' : l.length + (f.length + 2) ≤ 1000000 := by simpa [partOf] using hl
    clear hl
    go_enter Tryz.func65, Tryz.ntmps65
    go_wp2_with fail
    refine (writeByte_bu B b _ 40 _ h (by decide) (by omega) hB).mono ?_
    rintro e w1 ⟨rfl, h1, k1⟩
    have s1 : B ≤ w1.heap.size := Nat.le_trans hB k1.size
    go_wp2_with fail
    refine (hx B b _ _ h1 s1 (by simp; omega)).mono ?_
    rintro e w2 ⟨rfl, h2, k2⟩
    have s2 : B ≤ w2.heap.size := Nat.le_trans s1 k2.size
    go_wp2_with fail
    refine (writeByte_bu B b _ 41 _ h2 (by decide) (by simp; omega) s2).mono ?_
    rintro e w3 ⟨rfl, h3, k3⟩
    go_wp2_with fail
    go_end0
    exact ⟨rfl, by simpa [u8, partOf] using h3, (k1.trans k2).trans k3⟩

set_option maxHeartbeats 400000 in
theorem reachesOn_any (T : TypeId) (x : Value) (k : Nat) (hk : Kd T x k) (w : World) :
    Calls Tryz.prog 66 #[.iface T x] w fun e w' => e = .returned (.bool (k == 2)) ∧ w' = w := by
  rcases hk with ⟨rfl, ⟨rfl | rfl, c, sa, sm, sc, p, rfl⟩ | ⟨rfl, c, rfl⟩⟩ | ⟨rfl, rfl, T1, x1, T2, x2, p, rfl⟩ | ⟨rfl, rfl, c, F, T1, x1, p, rfl⟩ | ⟨rfl, rfl, c, V, T1, x1, T2, x2, rfl⟩
  · have a1 := ta_Name_Function
    have a2 := ta_Name_Let
    go_enter Tryz.func66, Tryz.ntmps66
    go_wp2
    go_ret
    exact ⟨rfl, rfl⟩
  · have a1 := ta_Constant_Function
    have a2 := ta_Constant_Let
    go_enter Tryz.func66, Tryz.ntmps66
    go_wp2
    go_ret
    exact ⟨rfl, rfl⟩
  · have a1 := ta_Literal_Function
    have a2 := ta_Literal_Let
    go_enter Tryz.func66, Tryz.ntmps66
    go_wp2
    go_ret
    exact ⟨rfl, rfl⟩
  · have a1 := ta_Call_Function
    have a2 := ta_Call_Let
    go_enter Tryz.func66, Tryz.ntmps66
    go_wp2
    go_ret
    exact ⟨rfl, rfl⟩
  · have a1 := ta_Function_Function
    have a2 := ta_Function_Let
    go_enter Tryz.func66, Tryz.ntmps66
    go_wp2
    go_ret
    exact ⟨rfl, rfl⟩
  · have a1 := ta_Let_Function
    have a2 := ta_Let_Let
    go_enter Tryz.func66, Tryz.ntmps66
    go_wp2
    go_ret
    exact ⟨rfl, rfl⟩

set_option maxHeartbeats 400000 in
theorem isCall_any (T : TypeId) (x : Value) (k : Nat) (hk : Kd T x k) (w : World) :
    Calls Tryz.prog 67 #[.iface T x] w fun e w' => e = .returned (.bool (k == 1)) ∧ ∃ o, w' = w.alloc o := by
  rcases hk with ⟨rfl, ⟨rfl | rfl, c, sa, sm, sc, p, rfl⟩ | ⟨rfl, c, rfl⟩⟩ | ⟨rfl, rfl, T1, x1, T2, x2, p, rfl⟩ | ⟨rfl, rfl, c, F, T1, x1, p, rfl⟩ | ⟨rfl, rfl, c, V, T1, x1, T2, x2, rfl⟩
  · have a1 := ta_Name_Call
    go_enter Tryz.func67, Tryz.ntmps67
    go_wp2
    go_ret
    exact ⟨rfl, _, rfl⟩
  · have a1 := ta_Constant_Call
    go_enter Tryz.func67, Tryz.ntmps67
    go_wp2
    go_ret
    exact ⟨rfl, _, rfl⟩
  · have a1 := ta_Literal_Call
    go_enter Tryz.func67, Tryz.ntmps67
    go_wp2
    go_ret
    exact ⟨rfl, _, rfl⟩
  · have a1 := ta_Call_Call
    go_enter Tryz.func67, Tryz.ntmps67
    go_wp2
    go_ret
    exact ⟨rfl, _, rfl⟩
  · have a1 := ta_Function_Call
    go_enter Tryz.func67, Tryz.ntmps67
    go_wp2
    go_ret
    exact ⟨rfl, _, rfl⟩
  · have a1 := ta_Let_Call
    go_enter Tryz.func67, Tryz.ntmps67
    go_wp2
    go_ret
    exact ⟨rfl, _, rfl⟩
end Go.Proofs.YtkcleplifimgmaaGreatDoor
