import Derived.Test.YtceadeaodbadlaaGreatDoorWriter
import Derived.Test.YtceadeaodbadlaaGreatDoorAsserts
set_option linter.unusedVariables false
set_option linter.unusedSimpArgs false
namespace Go.Proofs.YtceadeaodbadlaaGreatDoor
open Go.RowKit

theorem Wi.mge {m : Option Nat} {B wb : Nat} {nm sp : Value} {l : List UInt8} {w : World} (h : Wi m B wb nm sp l w) : ∀ k, w.heap.size ≤ k → m ≠ some k := by
  intro k hk e
  have := (h.bu _ e).1.le.2
  omega

/-- The shape of an expression's value, by its kind. -/
def Kd (T : TypeId) (x : Value) (k : Nat) : Prop :=
  (k = 0 ∧ (((T = 173 ∨ T = 175) ∧ ∃ (c : Int) (sa : Option Addr) (sm sc : Nat) (p : Int), x = .agg #[.int .u8 c, .slice sa sm sc, .int .i64 p]) ∨ (T = 177 ∧ ∃ c : Int, x = .agg #[.int .u8 c]))) ∨
  (k = 1 ∧ T = 186 ∧ ∃ T1 x1 T2 x2 p, x = .agg #[.iface T1 x1, .iface T2 x2, .int .i64 p]) ∨
  (k = 2 ∧ T = 179 ∧ ∃ c F T1 x1 p, x = .agg #[.int .u8 c, F, .iface T1 x1, .int .i64 p]) ∨
  (k = 2 ∧ T = 183 ∧ ∃ c V T1 x1 T2 x2, x = .agg #[.int .u8 c, V, .iface T1 x1, .iface T2 x2])

/-- 'expr' of the writer writes the form f. -/
def Wr (T : TypeId) (x : Value) (f : List UInt8) : Prop :=
  ∀ (m : Option Nat) (B wb : Nat) (nm sp : Value) (l : List UInt8) (w : World), Wi m B wb nm sp l w → B ≤ w.heap.size → l.length + f.length ≤ 1000000 →
    Calls Tryz.prog 82 #[.agg #[.pointer (some ⟨wb, 0, none⟩), .bool false], .iface T x] w fun e w' => e = .returned (.tuple #[]) ∧ Wi m B wb nm sp (l ++ f) w' ∧ Kw m B wb w w'

set_option maxHeartbeats 1000000 in
set_option maxRecDepth 100000 in
theorem given_off (wb : Nat) (sa : Option Addr) (sm sc : Nat) (w : World) :
    Calls Tryz.prog 115 #[.agg #[.pointer (some ⟨wb, 0, none⟩), .bool false], .slice sa sm sc] w fun e w' => e = .returned (.tuple #[]) ∧ ∃ o, w' = w.alloc o := by
  go_enter Tryz.func115, Tryz.ntmps115
  go_wp2_with fail
  first | go_end0 | refine bodyPost_ret (results_none rfl _ _ _) rfl ?_
  exact ⟨rfl, _, rfl⟩

set_option maxHeartbeats 1000000 in
set_option maxRecDepth 100000 in
theorem wr_name (c : Nat) (sa : Option Addr) (sm sc : Nat) (p : Int) (hc : c < 256) : Wr 173 (.agg #[.int .u8 (c : Int), .slice sa sm sc, .int .i64 p]) [u8 c] := by
  intro m B wb nm sp l w h hB hl
  have hl' : l.length + 1 ≤ 1000000 := by simpa using hl
  clear hl
  have hlt := h.lt
  have hmg := h.mge
  have HW : Wi m B wb nm sp l ((w.alloc (.cells #[.pointer (some ⟨wb, 0, none⟩), .bool false] 119)).alloc (.cells #[.int .u8 (c : Int), .slice sa sm sc, .int .i64 p] 173)) := ((h.alloc (.cells #[.pointer (some ⟨wb, 0, none⟩), .bool false] 119)).alloc (.cells #[.int .u8 (c : Int), .slice sa sm sc, .int .i64 p] 173))
  have q00 : ((w.alloc (.cells #[.pointer (some ⟨wb, 0, none⟩), .bool false] 119)).alloc (.cells #[.int .u8 (c : Int), .slice sa sm sc, .int .i64 p] 173)).heap[w.heap.size]? = some (.cells #[.pointer (some ⟨wb, 0, none⟩), .bool false] 119 (0, 0)) := by
    rw [Lib.alloc_old _ _ _ (by simp; try omega)]
    simpa using heap_alloc_new w (.cells #[.pointer (some ⟨wb, 0, none⟩), .bool false] 119)
  have q10 : ((w.alloc (.cells #[.pointer (some ⟨wb, 0, none⟩), .bool false] 119)).alloc (.cells #[.int .u8 (c : Int), .slice sa sm sc, .int .i64 p] 173)).heap[w.heap.size + 1]? = some (.cells #[.int .u8 (c : Int), .slice sa sm sc, .int .i64 p] 173 (0, 0)) := by
    simpa using heap_alloc_new (w.alloc (.cells #[.pointer (some ⟨wb, 0, none⟩), .bool false] 119)) (.cells #[.int .u8 (c : Int), .slice sa sm sc, .int .i64 p] 173)
  have K0 : Kw m B wb w ((w.alloc (.cells #[.pointer (some ⟨wb, 0, none⟩), .bool false] 119)).alloc (.cells #[.int .u8 (c : Int), .slice sa sm sc, .int .i64 p] 173)) := (((Kw.refl m B wb w).alloc (by first | exact hB | (simp; omega)) (.cells #[.pointer (some ⟨wb, 0, none⟩), .bool false] 119)).alloc (by first | exact hB | (simp; omega)) (.cells #[.int .u8 (c : Int), .slice sa sm sc, .int .i64 p] 173))
  have a1 := ta_Name_Name
  go_enter Tryz.func82, Tryz.ntmps82
  go_wp2_with fail
  refine (byte_any m B wb nm sp _ c _ HW hc (by omega) (by simp; omega)).mono ?_
  rintro e w1 ⟨rfl, h1, k1⟩
  have q01 := k1.box q00 (by omega) (hmg _ (by omega)) (by decide)
  have q11 := k1.box q10 (by omega) (hmg _ (by omega)) (by decide)
  have K1 := K0.trans k1
  have s1 : B ≤ w1.heap.size := Nat.le_trans hB K1.size
  clear q00 q10  K0 k1 HW
  have c00 : w1.cell? ⟨w.heap.size, 0, none⟩ = some (.pointer (some ⟨wb, 0, none⟩)) := by rw [Lib.cell_of_heap q01]; rfl
  have c01 : w1.cell? ⟨w.heap.size, 1, none⟩ = some (.bool false) := by rw [Lib.cell_of_heap q01]; rfl
  have c10 : w1.cell? ⟨w.heap.size + 1, 0, none⟩ = some (.int .u8 (c : Int)) := by rw [Lib.cell_of_heap q11]; rfl
  have c11 : w1.cell? ⟨w.heap.size + 1, 1, none⟩ = some (.slice sa sm sc) := by rw [Lib.cell_of_heap q11]; rfl
  have c12 : w1.cell? ⟨w.heap.size + 1, 2, none⟩ = some (.int .i64 p) := by rw [Lib.cell_of_heap q11]; rfl
  go_wp2_with fail
  refine (given_off wb sa sm sc _).mono ?_
  rintro e w2 ⟨rfl, o, rfl⟩
  go_wp2_with fail
  go_end0
  exact ⟨rfl, h1.alloc _, K1.alloc s1 _⟩

set_option maxHeartbeats 1000000 in
set_option maxRecDepth 100000 in
theorem wr_const (c : Nat) (sa : Option Addr) (sm sc : Nat) (p : Int) (hc : c < 256) : Wr 175 (.agg #[.int .u8 (c : Int), .slice sa sm sc, .int .i64 p]) [u8 c] := by
  intro m B wb nm sp l w h hB hl
  have hl' : l.length + 1 ≤ 1000000 := by simpa using hl
  clear hl
  have hlt := h.lt
  have hmg := h.mge
  have HW : Wi m B wb nm sp l ((w.alloc (.cells #[.pointer (some ⟨wb, 0, none⟩), .bool false] 119)).alloc (.cells #[.int .u8 (c : Int), .slice sa sm sc, .int .i64 p] 175)) := ((h.alloc (.cells #[.pointer (some ⟨wb, 0, none⟩), .bool false] 119)).alloc (.cells #[.int .u8 (c : Int), .slice sa sm sc, .int .i64 p] 175))
  have q00 : ((w.alloc (.cells #[.pointer (some ⟨wb, 0, none⟩), .bool false] 119)).alloc (.cells #[.int .u8 (c : Int), .slice sa sm sc, .int .i64 p] 175)).heap[w.heap.size]? = some (.cells #[.pointer (some ⟨wb, 0, none⟩), .bool false] 119 (0, 0)) := by
    rw [Lib.alloc_old _ _ _ (by simp; try omega)]
    simpa using heap_alloc_new w (.cells #[.pointer (some ⟨wb, 0, none⟩), .bool false] 119)
  have q10 : ((w.alloc (.cells #[.pointer (some ⟨wb, 0, none⟩), .bool false] 119)).alloc (.cells #[.int .u8 (c : Int), .slice sa sm sc, .int .i64 p] 175)).heap[w.heap.size + 1]? = some (.cells #[.int .u8 (c : Int), .slice sa sm sc, .int .i64 p] 175 (0, 0)) := by
    simpa using heap_alloc_new (w.alloc (.cells #[.pointer (some ⟨wb, 0, none⟩), .bool false] 119)) (.cells #[.int .u8 (c : Int), .slice sa sm sc, .int .i64 p] 175)
  have K0 : Kw m B wb w ((w.alloc (.cells #[.pointer (some ⟨wb, 0, none⟩), .bool false] 119)).alloc (.cells #[.int .u8 (c : Int), .slice sa sm sc, .int .i64 p] 175)) := (((Kw.refl m B wb w).alloc (by first | exact hB | (simp; omega)) (.cells #[.pointer (some ⟨wb, 0, none⟩), .bool false] 119)).alloc (by first | exact hB | (simp; omega)) (.cells #[.int .u8 (c : Int), .slice sa sm sc, .int .i64 p] 175))
  have a1 := ta_Constant_Name
  have a2 := ta_Constant_Constant
  go_enter Tryz.func82, Tryz.ntmps82
  go_wp2_with fail
  refine (byte_any m B wb nm sp _ c _ HW hc (by omega) (by simp; omega)).mono ?_
  rintro e w1 ⟨rfl, h1, k1⟩
  have q01 := k1.box q00 (by omega) (hmg _ (by omega)) (by decide)
  have q11 := k1.box q10 (by omega) (hmg _ (by omega)) (by decide)
  have K1 := K0.trans k1
  have s1 : B ≤ w1.heap.size := Nat.le_trans hB K1.size
  clear q00 q10  K0 k1 HW
  have c00 : w1.cell? ⟨w.heap.size, 0, none⟩ = some (.pointer (some ⟨wb, 0, none⟩)) := by rw [Lib.cell_of_heap q01]; rfl
  have c01 : w1.cell? ⟨w.heap.size, 1, none⟩ = some (.bool false) := by rw [Lib.cell_of_heap q01]; rfl
  have c10 : w1.cell? ⟨w.heap.size + 1, 0, none⟩ = some (.int .u8 (c : Int)) := by rw [Lib.cell_of_heap q11]; rfl
  have c11 : w1.cell? ⟨w.heap.size + 1, 1, none⟩ = some (.slice sa sm sc) := by rw [Lib.cell_of_heap q11]; rfl
  have c12 : w1.cell? ⟨w.heap.size + 1, 2, none⟩ = some (.int .i64 p) := by rw [Lib.cell_of_heap q11]; rfl
  go_wp2_with fail
  refine (given_off wb sa sm sc _).mono ?_
  rintro e w2 ⟨rfl, o, rfl⟩
  go_wp2_with fail
  go_end0
  exact ⟨rfl, h1.alloc _, K1.alloc s1 _⟩

set_option maxHeartbeats 1000000 in
set_option maxRecDepth 100000 in
theorem wr_lit (c : Nat) (hc : c < 256) : Wr 177 (.agg #[.int .u8 (c : Int)]) [u8 c] := by
  intro m B wb nm sp l w h hB hl
  have hl' : l.length + 1 ≤ 1000000 := by simpa using hl
  clear hl
  have hlt := h.lt
  have hmg := h.mge
  have HW : Wi m B wb nm sp l ((w.alloc (.cells #[.pointer (some ⟨wb, 0, none⟩), .bool false] 119)).alloc (.cells #[.int .u8 (c : Int)] 177)) := ((h.alloc (.cells #[.pointer (some ⟨wb, 0, none⟩), .bool false] 119)).alloc (.cells #[.int .u8 (c : Int)] 177))
  have q00 : ((w.alloc (.cells #[.pointer (some ⟨wb, 0, none⟩), .bool false] 119)).alloc (.cells #[.int .u8 (c : Int)] 177)).heap[w.heap.size]? = some (.cells #[.pointer (some ⟨wb, 0, none⟩), .bool false] 119 (0, 0)) := by
    rw [Lib.alloc_old _ _ _ (by simp; try omega)]
    simpa using heap_alloc_new w (.cells #[.pointer (some ⟨wb, 0, none⟩), .bool false] 119)
  have q10 : ((w.alloc (.cells #[.pointer (some ⟨wb, 0, none⟩), .bool false] 119)).alloc (.cells #[.int .u8 (c : Int)] 177)).heap[w.heap.size + 1]? = some (.cells #[.int .u8 (c : Int)] 177 (0, 0)) := by
    simpa using heap_alloc_new (w.alloc (.cells #[.pointer (some ⟨wb, 0, none⟩), .bool false] 119)) (.cells #[.int .u8 (c : Int)] 177)
  have K0 : Kw m B wb w ((w.alloc (.cells #[.pointer (some ⟨wb, 0, none⟩), .bool false] 119)).alloc (.cells #[.int .u8 (c : Int)] 177)) := (((Kw.refl m B wb w).alloc (by first | exact hB | (simp; omega)) (.cells #[.pointer (some ⟨wb, 0, none⟩), .bool false] 119)).alloc (by first | exact hB | (simp; omega)) (.cells #[.int .u8 (c : Int)] 177))
  have a1 := ta_Literal_Name
  have a2 := ta_Literal_Constant
  have a3 := ta_Literal_Literal
  go_enter Tryz.func82, Tryz.ntmps82
  go_wp2_with fail
  refine (byte_any m B wb nm sp _ c _ HW hc (by omega) (by simp; omega)).mono ?_
  rintro e w1 ⟨rfl, h1, k1⟩
  go_wp2_with fail
  go_end0
  exact ⟨rfl, by simpa [u8] using h1, K0.trans k1⟩

set_option maxHeartbeats 1000000 in
set_option maxRecDepth 100000 in
theorem fn_any (c : Nat) (F : Value) (hF : F = .nilIface ∨ ∃ T x, F = .iface T x) (p : Int) (T : TypeId) (x : Value) (f : List UInt8) (hc : c < 256) (hx : Wr T x f) (m : Option Nat) (B wb : Nat) (nm sp : Value) (l : List UInt8) (w : World) (h : Wi m B wb nm sp l w) (hB : B ≤ w.heap.size) (hl : l.length + (92 :: u8 c :: 46 :: f).length ≤ 1000000) :
    Calls Tryz.prog 116 #[.agg #[.pointer (some ⟨wb, 0, none⟩), .bool false], .agg #[.int .u8 (c : Int), F, .iface T x, .int .i64 p]] w fun e w' => e = .returned (.tuple #[]) ∧ Wi m B wb nm sp (l ++ (92 :: u8 c :: 46 :: f)) w' ∧ Kw m B wb w w' := by
  have hl' : l.length + (f.length + 3) ≤ 1000000 := by simpa using hl
  clear hl
  rcases hF with rfl | ⟨TF, xF, rfl⟩
  · have hlt := h.lt
    have hmg := h.mge
    have HW : Wi m B wb nm sp l ((w.alloc (.cells #[.pointer (some ⟨wb, 0, none⟩), .bool false] 119)).alloc (.cells #[.int .u8 (c : Int), .nilIface, .iface T x, .int .i64 p] 179)) := ((h.alloc (.cells #[.pointer (some ⟨wb, 0, none⟩), .bool false] 119)).alloc (.cells #[.int .u8 (c : Int), .nilIface, .iface T x, .int .i64 p] 179))
    have q00 : ((w.alloc (.cells #[.pointer (some ⟨wb, 0, none⟩), .bool false] 119)).alloc (.cells #[.int .u8 (c : Int), .nilIface, .iface T x, .int .i64 p] 179)).heap[w.heap.size]? = some (.cells #[.pointer (some ⟨wb, 0, none⟩), .bool false] 119 (0, 0)) := by
      rw [Lib.alloc_old _ _ _ (by simp; try omega)]
      simpa using heap_alloc_new w (.cells #[.pointer (some ⟨wb, 0, none⟩), .bool false] 119)
    have q10 : ((w.alloc (.cells #[.pointer (some ⟨wb, 0, none⟩), .bool false] 119)).alloc (.cells #[.int .u8 (c : Int), .nilIface, .iface T x, .int .i64 p] 179)).heap[w.heap.size + 1]? = some (.cells #[.int .u8 (c : Int), .nilIface, .iface T x, .int .i64 p] 179 (0, 0)) := by
      simpa using heap_alloc_new (w.alloc (.cells #[.pointer (some ⟨wb, 0, none⟩), .bool false] 119)) (.cells #[.int .u8 (c : Int), .nilIface, .iface T x, .int .i64 p] 179)
    have K0 : Kw m B wb w ((w.alloc (.cells #[.pointer (some ⟨wb, 0, none⟩), .bool false] 119)).alloc (.cells #[.int .u8 (c : Int), .nilIface, .iface T x, .int .i64 p] 179)) := (((Kw.refl m B wb w).alloc (by first | exact hB | (simp; omega)) (.cells #[.pointer (some ⟨wb, 0, none⟩), .bool false] 119)).alloc (by first | exact hB | (simp; omega)) (.cells #[.int .u8 (c : Int), .nilIface, .iface T x, .int .i64 p] 179))
    go_enter Tryz.func116, Tryz.ntmps116
    go_wp2_with fail
    refine (byte_any m B wb nm sp _ 92 _ HW (by decide) (by omega) (by simp; omega)).mono ?_
    rintro e w1 ⟨rfl, h1, k1⟩
    have q01 := k1.box q00 (by omega) (hmg _ (by omega)) (by decide)
    have q11 := k1.box q10 (by omega) (hmg _ (by omega)) (by decide)
    have K1 := K0.trans k1
    have s1 : B ≤ w1.heap.size := Nat.le_trans hB K1.size
    clear q00 q10  K0 k1 HW
    have c00 : w1.cell? ⟨w.heap.size, 0, none⟩ = some (.pointer (some ⟨wb, 0, none⟩)) := by rw [Lib.cell_of_heap q01]; rfl
    have c01 : w1.cell? ⟨w.heap.size, 1, none⟩ = some (.bool false) := by rw [Lib.cell_of_heap q01]; rfl
    have c10 : w1.cell? ⟨w.heap.size + 1, 0, none⟩ = some (.int .u8 (c : Int)) := by rw [Lib.cell_of_heap q11]; rfl
    have c11 : w1.cell? ⟨w.heap.size + 1, 1, none⟩ = some (.nilIface) := by rw [Lib.cell_of_heap q11]; rfl
    have c12 : w1.cell? ⟨w.heap.size + 1, 2, none⟩ = some (.iface T x) := by rw [Lib.cell_of_heap q11]; rfl
    have c13 : w1.cell? ⟨w.heap.size + 1, 3, none⟩ = some (.int .i64 p) := by rw [Lib.cell_of_heap q11]; rfl
    go_wp2_with fail
    refine (byte_any m B wb nm sp _ c _ h1 hc (by simp; omega) s1).mono ?_
    rintro e w2 ⟨rfl, h2, k2⟩
    have q02 := k2.box q01 (by omega) (hmg _ (by omega)) (by decide)
    have q12 := k2.box q11 (by omega) (hmg _ (by omega)) (by decide)
    have K2 := K1.trans k2
    have s2 : B ≤ w2.heap.size := Nat.le_trans hB K2.size
    clear q01 q11 c00 c01 c10 c11 c12 c13 K1 k2 h1 s1
    have c00 : w2.cell? ⟨w.heap.size, 0, none⟩ = some (.pointer (some ⟨wb, 0, none⟩)) := by rw [Lib.cell_of_heap q02]; rfl
    have c01 : w2.cell? ⟨w.heap.size, 1, none⟩ = some (.bool false) := by rw [Lib.cell_of_heap q02]; rfl
    have c10 : w2.cell? ⟨w.heap.size + 1, 0, none⟩ = some (.int .u8 (c : Int)) := by rw [Lib.cell_of_heap q12]; rfl
    have c11 : w2.cell? ⟨w.heap.size + 1, 1, none⟩ = some (.nilIface) := by rw [Lib.cell_of_heap q12]; rfl
    have c12 : w2.cell? ⟨w.heap.size + 1, 2, none⟩ = some (.iface T x) := by rw [Lib.cell_of_heap q12]; rfl
    have c13 : w2.cell? ⟨w.heap.size + 1, 3, none⟩ = some (.int .i64 p) := by rw [Lib.cell_of_heap q12]; rfl
    go_wp2_with fail
    refine (byte_any m B wb nm sp _ 46 _ h2 (by decide) (by simp; omega) s2).mono ?_
    rintro e w3 ⟨rfl, h3, k3⟩
    have q03 := k3.box q02 (by omega) (hmg _ (by omega)) (by decide)
    have q13 := k3.box q12 (by omega) (hmg _ (by omega)) (by decide)
    have K3 := K2.trans k3
    have s3 : B ≤ w3.heap.size := Nat.le_trans hB K3.size
    clear q02 q12 c00 c01 c10 c11 c12 c13 K2 k3 h2 s2
    have c00 : w3.cell? ⟨w.heap.size, 0, none⟩ = some (.pointer (some ⟨wb, 0, none⟩)) := by rw [Lib.cell_of_heap q03]; rfl
    have c01 : w3.cell? ⟨w.heap.size, 1, none⟩ = some (.bool false) := by rw [Lib.cell_of_heap q03]; rfl
    have c10 : w3.cell? ⟨w.heap.size + 1, 0, none⟩ = some (.int .u8 (c : Int)) := by rw [Lib.cell_of_heap q13]; rfl
    have c11 : w3.cell? ⟨w.heap.size + 1, 1, none⟩ = some (.nilIface) := by rw [Lib.cell_of_heap q13]; rfl
    have c12 : w3.cell? ⟨w.heap.size + 1, 2, none⟩ = some (.iface T x) := by rw [Lib.cell_of_heap q13]; rfl
    have c13 : w3.cell? ⟨w.heap.size + 1, 3, none⟩ = some (.int .i64 p) := by rw [Lib.cell_of_heap q13]; rfl
    go_wp2_with fail
    refine (hx m B wb nm sp _ _ h3 s3 (by simp; omega)).mono ?_
    rintro e w4 ⟨rfl, h4, k4⟩
    go_wp2_with fail
    go_end0
    exact ⟨rfl, by simpa [u8] using h4, K3.trans k4⟩
  · have hlt := h.lt
    have hmg := h.mge
    have HW : Wi m B wb nm sp l ((w.alloc (.cells #[.pointer (some ⟨wb, 0, none⟩), .bool false] 119)).alloc (.cells #[.int .u8 (c : Int), .iface TF xF, .iface T x, .int .i64 p] 179)) := ((h.alloc (.cells #[.pointer (some ⟨wb, 0, none⟩), .bool false] 119)).alloc (.cells #[.int .u8 (c : Int), .iface TF xF, .iface T x, .int .i64 p] 179))
    have q00 : ((w.alloc (.cells #[.pointer (some ⟨wb, 0, none⟩), .bool false] 119)).alloc (.cells #[.int .u8 (c : Int), .iface TF xF, .iface T x, .int .i64 p] 179)).heap[w.heap.size]? = some (.cells #[.pointer (some ⟨wb, 0, none⟩), .bool false] 119 (0, 0)) := by
      rw [Lib.alloc_old _ _ _ (by simp; try omega)]
      simpa using heap_alloc_new w (.cells #[.pointer (some ⟨wb, 0, none⟩), .bool false] 119)
    have q10 : ((w.alloc (.cells #[.pointer (some ⟨wb, 0, none⟩), .bool false] 119)).alloc (.cells #[.int .u8 (c : Int), .iface TF xF, .iface T x, .int .i64 p] 179)).heap[w.heap.size + 1]? = some (.cells #[.int .u8 (c : Int), .iface TF xF, .iface T x, .int .i64 p] 179 (0, 0)) := by
      simpa using heap_alloc_new (w.alloc (.cells #[.pointer (some ⟨wb, 0, none⟩), .bool false] 119)) (.cells #[.int .u8 (c : Int), .iface TF xF, .iface T x, .int .i64 p] 179)
    have K0 : Kw m B wb w ((w.alloc (.cells #[.pointer (some ⟨wb, 0, none⟩), .bool false] 119)).alloc (.cells #[.int .u8 (c : Int), .iface TF xF, .iface T x, .int .i64 p] 179)) := (((Kw.refl m B wb w).alloc (by first | exact hB | (simp; omega)) (.cells #[.pointer (some ⟨wb, 0, none⟩), .bool false] 119)).alloc (by first | exact hB | (simp; omega)) (.cells #[.int .u8 (c : Int), .iface TF xF, .iface T x, .int .i64 p] 179))
    go_enter Tryz.func116, Tryz.ntmps116
    go_wp2_with fail
    refine (byte_any m B wb nm sp _ 92 _ HW (by decide) (by omega) (by simp; omega)).mono ?_
    rintro e w1 ⟨rfl, h1, k1⟩
    have q01 := k1.box q00 (by omega) (hmg _ (by omega)) (by decide)
    have q11 := k1.box q10 (by omega) (hmg _ (by omega)) (by decide)
    have K1 := K0.trans k1
    have s1 : B ≤ w1.heap.size := Nat.le_trans hB K1.size
    clear q00 q10  K0 k1 HW
    have c00 : w1.cell? ⟨w.heap.size, 0, none⟩ = some (.pointer (some ⟨wb, 0, none⟩)) := by rw [Lib.cell_of_heap q01]; rfl
    have c01 : w1.cell? ⟨w.heap.size, 1, none⟩ = some (.bool false) := by rw [Lib.cell_of_heap q01]; rfl
    have c10 : w1.cell? ⟨w.heap.size + 1, 0, none⟩ = some (.int .u8 (c : Int)) := by rw [Lib.cell_of_heap q11]; rfl
    have c11 : w1.cell? ⟨w.heap.size + 1, 1, none⟩ = some (.iface TF xF) := by rw [Lib.cell_of_heap q11]; rfl
    have c12 : w1.cell? ⟨w.heap.size + 1, 2, none⟩ = some (.iface T x) := by rw [Lib.cell_of_heap q11]; rfl
    have c13 : w1.cell? ⟨w.heap.size + 1, 3, none⟩ = some (.int .i64 p) := by rw [Lib.cell_of_heap q11]; rfl
    go_wp2_with fail
    refine (byte_any m B wb nm sp _ c _ h1 hc (by simp; omega) s1).mono ?_
    rintro e w2 ⟨rfl, h2, k2⟩
    have q02 := k2.box q01 (by omega) (hmg _ (by omega)) (by decide)
    have q12 := k2.box q11 (by omega) (hmg _ (by omega)) (by decide)
    have K2 := K1.trans k2
    have s2 : B ≤ w2.heap.size := Nat.le_trans hB K2.size
    clear q01 q11 c00 c01 c10 c11 c12 c13 K1 k2 h1 s1
    have c00 : w2.cell? ⟨w.heap.size, 0, none⟩ = some (.pointer (some ⟨wb, 0, none⟩)) := by rw [Lib.cell_of_heap q02]; rfl
    have c01 : w2.cell? ⟨w.heap.size, 1, none⟩ = some (.bool false) := by rw [Lib.cell_of_heap q02]; rfl
    have c10 : w2.cell? ⟨w.heap.size + 1, 0, none⟩ = some (.int .u8 (c : Int)) := by rw [Lib.cell_of_heap q12]; rfl
    have c11 : w2.cell? ⟨w.heap.size + 1, 1, none⟩ = some (.iface TF xF) := by rw [Lib.cell_of_heap q12]; rfl
    have c12 : w2.cell? ⟨w.heap.size + 1, 2, none⟩ = some (.iface T x) := by rw [Lib.cell_of_heap q12]; rfl
    have c13 : w2.cell? ⟨w.heap.size + 1, 3, none⟩ = some (.int .i64 p) := by rw [Lib.cell_of_heap q12]; rfl
    go_wp2_with fail
    refine (byte_any m B wb nm sp _ 46 _ h2 (by decide) (by simp; omega) s2).mono ?_
    rintro e w3 ⟨rfl, h3, k3⟩
    have q03 := k3.box q02 (by omega) (hmg _ (by omega)) (by decide)
    have q13 := k3.box q12 (by omega) (hmg _ (by omega)) (by decide)
    have K3 := K2.trans k3
    have s3 : B ≤ w3.heap.size := Nat.le_trans hB K3.size
    clear q02 q12 c00 c01 c10 c11 c12 c13 K2 k3 h2 s2
    have c00 : w3.cell? ⟨w.heap.size, 0, none⟩ = some (.pointer (some ⟨wb, 0, none⟩)) := by rw [Lib.cell_of_heap q03]; rfl
    have c01 : w3.cell? ⟨w.heap.size, 1, none⟩ = some (.bool false) := by rw [Lib.cell_of_heap q03]; rfl
    have c10 : w3.cell? ⟨w.heap.size + 1, 0, none⟩ = some (.int .u8 (c : Int)) := by rw [Lib.cell_of_heap q13]; rfl
    have c11 : w3.cell? ⟨w.heap.size + 1, 1, none⟩ = some (.iface TF xF) := by rw [Lib.cell_of_heap q13]; rfl
    have c12 : w3.cell? ⟨w.heap.size + 1, 2, none⟩ = some (.iface T x) := by rw [Lib.cell_of_heap q13]; rfl
    have c13 : w3.cell? ⟨w.heap.size + 1, 3, none⟩ = some (.int .i64 p) := by rw [Lib.cell_of_heap q13]; rfl
    go_wp2_with fail
    refine (hx m B wb nm sp _ _ h3 s3 (by simp; omega)).mono ?_
    rintro e w4 ⟨rfl, h4, k4⟩
    go_wp2_with fail
    go_end0
    exact ⟨rfl, by simpa [u8] using h4, K3.trans k4⟩

set_option maxHeartbeats 1000000 in
set_option maxRecDepth 100000 in
theorem wr_fn (c : Nat) (F : Value) (hF : F = .nilIface ∨ ∃ T x, F = .iface T x) (p : Int) (T : TypeId) (x : Value) (f : List UInt8) (hc : c < 256) (hx : Wr T x f) : Wr 179 (.agg #[.int .u8 (c : Int), F, .iface T x, .int .i64 p]) (92 :: u8 c :: 46 :: f) := by
  intro m B wb nm sp l w h hB hl
  rcases hF with rfl | ⟨TF, xF, rfl⟩
  · have hlt := h.lt
    have hmg := h.mge
    have HW : Wi m B wb nm sp l ((w.alloc (.cells #[.pointer (some ⟨wb, 0, none⟩), .bool false] 119)).alloc (.cells #[.int .u8 (c : Int), .nilIface, .iface T x, .int .i64 p] 179)) := ((h.alloc (.cells #[.pointer (some ⟨wb, 0, none⟩), .bool false] 119)).alloc (.cells #[.int .u8 (c : Int), .nilIface, .iface T x, .int .i64 p] 179))
    have q00 : ((w.alloc (.cells #[.pointer (some ⟨wb, 0, none⟩), .bool false] 119)).alloc (.cells #[.int .u8 (c : Int), .nilIface, .iface T x, .int .i64 p] 179)).heap[w.heap.size]? = some (.cells #[.pointer (some ⟨wb, 0, none⟩), .bool false] 119 (0, 0)) := by
      rw [Lib.alloc_old _ _ _ (by simp; try omega)]
      simpa using heap_alloc_new w (.cells #[.pointer (some ⟨wb, 0, none⟩), .bool false] 119)
    have q10 : ((w.alloc (.cells #[.pointer (some ⟨wb, 0, none⟩), .bool false] 119)).alloc (.cells #[.int .u8 (c : Int), .nilIface, .iface T x, .int .i64 p] 179)).heap[w.heap.size + 1]? = some (.cells #[.int .u8 (c : Int), .nilIface, .iface T x, .int .i64 p] 179 (0, 0)) := by
      simpa using heap_alloc_new (w.alloc (.cells #[.pointer (some ⟨wb, 0, none⟩), .bool false] 119)) (.cells #[.int .u8 (c : Int), .nilIface, .iface T x, .int .i64 p] 179)
    have K0 : Kw m B wb w ((w.alloc (.cells #[.pointer (some ⟨wb, 0, none⟩), .bool false] 119)).alloc (.cells #[.int .u8 (c : Int), .nilIface, .iface T x, .int .i64 p] 179)) := (((Kw.refl m B wb w).alloc (by first | exact hB | (simp; omega)) (.cells #[.pointer (some ⟨wb, 0, none⟩), .bool false] 119)).alloc (by first | exact hB | (simp; omega)) (.cells #[.int .u8 (c : Int), .nilIface, .iface T x, .int .i64 p] 179))
    have a1 := ta_Function_Name
    have a2 := ta_Function_Constant
    have a3 := ta_Function_Literal
    have a4 := ta_Function_Function
    go_enter Tryz.func82, Tryz.ntmps82
    go_wp2_with fail
    refine (fn_any c (.nilIface) (.inl rfl) p T x f hc hx m B wb nm sp l _ HW (by simp; omega) hl).mono ?_
    rintro e w1 ⟨rfl, h1, k1⟩
    go_wp2_with fail
    go_end0
    exact ⟨rfl, h1, K0.trans k1⟩
  · have hlt := h.lt
    have hmg := h.mge
    have HW : Wi m B wb nm sp l ((w.alloc (.cells #[.pointer (some ⟨wb, 0, none⟩), .bool false] 119)).alloc (.cells #[.int .u8 (c : Int), .iface TF xF, .iface T x, .int .i64 p] 179)) := ((h.alloc (.cells #[.pointer (some ⟨wb, 0, none⟩), .bool false] 119)).alloc (.cells #[.int .u8 (c : Int), .iface TF xF, .iface T x, .int .i64 p] 179))
    have q00 : ((w.alloc (.cells #[.pointer (some ⟨wb, 0, none⟩), .bool false] 119)).alloc (.cells #[.int .u8 (c : Int), .iface TF xF, .iface T x, .int .i64 p] 179)).heap[w.heap.size]? = some (.cells #[.pointer (some ⟨wb, 0, none⟩), .bool false] 119 (0, 0)) := by
      rw [Lib.alloc_old _ _ _ (by simp; try omega)]
      simpa using heap_alloc_new w (.cells #[.pointer (some ⟨wb, 0, none⟩), .bool false] 119)
    have q10 : ((w.alloc (.cells #[.pointer (some ⟨wb, 0, none⟩), .bool false] 119)).alloc (.cells #[.int .u8 (c : Int), .iface TF xF, .iface T x, .int .i64 p] 179)).heap[w.heap.size + 1]? = some (.cells #[.int .u8 (c : Int), .iface TF xF, .iface T x, .int .i64 p] 179 (0, 0)) := by
      simpa using heap_alloc_new (w.alloc (.cells #[.pointer (some ⟨wb, 0, none⟩), .bool false] 119)) (.cells #[.int .u8 (c : Int), .iface TF xF, .iface T x, .int .i64 p] 179)
    have K0 : Kw m B wb w ((w.alloc (.cells #[.pointer (some ⟨wb, 0, none⟩), .bool false] 119)).alloc (.cells #[.int .u8 (c : Int), .iface TF xF, .iface T x, .int .i64 p] 179)) := (((Kw.refl m B wb w).alloc (by first | exact hB | (simp; omega)) (.cells #[.pointer (some ⟨wb, 0, none⟩), .bool false] 119)).alloc (by first | exact hB | (simp; omega)) (.cells #[.int .u8 (c : Int), .iface TF xF, .iface T x, .int .i64 p] 179))
    have a1 := ta_Function_Name
    have a2 := ta_Function_Constant
    have a3 := ta_Function_Literal
    have a4 := ta_Function_Function
    go_enter Tryz.func82, Tryz.ntmps82
    go_wp2_with fail
    refine (fn_any c (.iface TF xF) (.inr ⟨_, _, rfl⟩) p T x f hc hx m B wb nm sp l _ HW (by simp; omega) hl).mono ?_
    rintro e w1 ⟨rfl, h1, k1⟩
    go_wp2_with fail
    go_end0
    exact ⟨rfl, h1, K0.trans k1⟩

set_option maxHeartbeats 1000000 in
set_option maxRecDepth 100000 in
theorem let_wr (c : Nat) (sa : Option Addr) (sm sc : Nat) (T : TypeId) (x : Value) (f : List UInt8) (T' : TypeId) (x' : Value) (f' : List UInt8) (hc : c < 256) (hx : Wr T x f) (hx' : Wr T' x' f') (m : Option Nat) (B wb : Nat) (nm sp : Value) (l : List UInt8) (w : World) (h : Wi m B wb nm sp l w) (hB : B ≤ w.heap.size) (hl : l.length + (64 :: u8 c :: 61 :: (f ++ 59 :: f')).length ≤ 1000000) :
    Calls Tryz.prog 117 #[.agg #[.pointer (some ⟨wb, 0, none⟩), .bool false], .agg #[.int .u8 (c : Int), .slice sa sm sc, .iface T x, .iface T' x']] w fun e w' => e = .returned (.tuple #[]) ∧ Wi m B wb nm sp (l ++ (64 :: u8 c :: 61 :: (f ++ 59 :: f'))) w' ∧ Kw m B wb w w' := by
  have hl' : l.length + (f.length + f'.length + 4) ≤ 1000000 := by simp at hl; omega
  clear hl
  have hlt := h.lt
  have hmg := h.mge
  have HW : Wi m B wb nm sp l ((w.alloc (.cells #[.pointer (some ⟨wb, 0, none⟩), .bool false] 119)).alloc (.cells #[.int .u8 (c : Int), .slice sa sm sc, .iface T x, .iface T' x'] 183)) := ((h.alloc (.cells #[.pointer (some ⟨wb, 0, none⟩), .bool false] 119)).alloc (.cells #[.int .u8 (c : Int), .slice sa sm sc, .iface T x, .iface T' x'] 183))
  have q00 : ((w.alloc (.cells #[.pointer (some ⟨wb, 0, none⟩), .bool false] 119)).alloc (.cells #[.int .u8 (c : Int), .slice sa sm sc, .iface T x, .iface T' x'] 183)).heap[w.heap.size]? = some (.cells #[.pointer (some ⟨wb, 0, none⟩), .bool false] 119 (0, 0)) := by
    rw [Lib.alloc_old _ _ _ (by simp; try omega)]
    simpa using heap_alloc_new w (.cells #[.pointer (some ⟨wb, 0, none⟩), .bool false] 119)
  have q10 : ((w.alloc (.cells #[.pointer (some ⟨wb, 0, none⟩), .bool false] 119)).alloc (.cells #[.int .u8 (c : Int), .slice sa sm sc, .iface T x, .iface T' x'] 183)).heap[w.heap.size + 1]? = some (.cells #[.int .u8 (c : Int), .slice sa sm sc, .iface T x, .iface T' x'] 183 (0, 0)) := by
    simpa using heap_alloc_new (w.alloc (.cells #[.pointer (some ⟨wb, 0, none⟩), .bool false] 119)) (.cells #[.int .u8 (c : Int), .slice sa sm sc, .iface T x, .iface T' x'] 183)
  have K0 : Kw m B wb w ((w.alloc (.cells #[.pointer (some ⟨wb, 0, none⟩), .bool false] 119)).alloc (.cells #[.int .u8 (c : Int), .slice sa sm sc, .iface T x, .iface T' x'] 183)) := (((Kw.refl m B wb w).alloc (by first | exact hB | (simp; omega)) (.cells #[.pointer (some ⟨wb, 0, none⟩), .bool false] 119)).alloc (by first | exact hB | (simp; omega)) (.cells #[.int .u8 (c : Int), .slice sa sm sc, .iface T x, .iface T' x'] 183))
  go_enter Tryz.func117, Tryz.ntmps117
  go_wp2_with fail
  refine (byte_any m B wb nm sp _ 64 _ HW (by decide) (by omega) (by simp; omega)).mono ?_
  rintro e w1 ⟨rfl, h1, k1⟩
  have q01 := k1.box q00 (by omega) (hmg _ (by omega)) (by decide)
  have q11 := k1.box q10 (by omega) (hmg _ (by omega)) (by decide)
  have K1 := K0.trans k1
  have s1 : B ≤ w1.heap.size := Nat.le_trans hB K1.size
  clear q00 q10  K0 k1 HW
  have c00 : w1.cell? ⟨w.heap.size, 0, none⟩ = some (.pointer (some ⟨wb, 0, none⟩)) := by rw [Lib.cell_of_heap q01]; rfl
  have c01 : w1.cell? ⟨w.heap.size, 1, none⟩ = some (.bool false) := by rw [Lib.cell_of_heap q01]; rfl
  have c10 : w1.cell? ⟨w.heap.size + 1, 0, none⟩ = some (.int .u8 (c : Int)) := by rw [Lib.cell_of_heap q11]; rfl
  have c11 : w1.cell? ⟨w.heap.size + 1, 1, none⟩ = some (.slice sa sm sc) := by rw [Lib.cell_of_heap q11]; rfl
  have c12 : w1.cell? ⟨w.heap.size + 1, 2, none⟩ = some (.iface T x) := by rw [Lib.cell_of_heap q11]; rfl
  have c13 : w1.cell? ⟨w.heap.size + 1, 3, none⟩ = some (.iface T' x') := by rw [Lib.cell_of_heap q11]; rfl
  go_wp2_with fail
  refine (byte_any m B wb nm sp _ c _ h1 hc (by simp; omega) s1).mono ?_
  rintro e w2 ⟨rfl, h2, k2⟩
  have q02 := k2.box q01 (by omega) (hmg _ (by omega)) (by decide)
  have q12 := k2.box q11 (by omega) (hmg _ (by omega)) (by decide)
  have K2 := K1.trans k2
  have s2 : B ≤ w2.heap.size := Nat.le_trans hB K2.size
  clear q01 q11 c00 c01 c10 c11 c12 c13 K1 k2 h1 s1
  have c00 : w2.cell? ⟨w.heap.size, 0, none⟩ = some (.pointer (some ⟨wb, 0, none⟩)) := by rw [Lib.cell_of_heap q02]; rfl
  have c01 : w2.cell? ⟨w.heap.size, 1, none⟩ = some (.bool false) := by rw [Lib.cell_of_heap q02]; rfl
  have c10 : w2.cell? ⟨w.heap.size + 1, 0, none⟩ = some (.int .u8 (c : Int)) := by rw [Lib.cell_of_heap q12]; rfl
  have c11 : w2.cell? ⟨w.heap.size + 1, 1, none⟩ = some (.slice sa sm sc) := by rw [Lib.cell_of_heap q12]; rfl
  have c12 : w2.cell? ⟨w.heap.size + 1, 2, none⟩ = some (.iface T x) := by rw [Lib.cell_of_heap q12]; rfl
  have c13 : w2.cell? ⟨w.heap.size + 1, 3, none⟩ = some (.iface T' x') := by rw [Lib.cell_of_heap q12]; rfl
  go_wp2_with fail
  refine (byte_any m B wb nm sp _ 61 _ h2 (by decide) (by simp; omega) s2).mono ?_
  rintro e w3 ⟨rfl, h3, k3⟩
  have q03 := k3.box q02 (by omega) (hmg _ (by omega)) (by decide)
  have q13 := k3.box q12 (by omega) (hmg _ (by omega)) (by decide)
  have K3 := K2.trans k3
  have s3 : B ≤ w3.heap.size := Nat.le_trans hB K3.size
  clear q02 q12 c00 c01 c10 c11 c12 c13 K2 k3 h2 s2
  have c00 : w3.cell? ⟨w.heap.size, 0, none⟩ = some (.pointer (some ⟨wb, 0, none⟩)) := by rw [Lib.cell_of_heap q03]; rfl
  have c01 : w3.cell? ⟨w.heap.size, 1, none⟩ = some (.bool false) := by rw [Lib.cell_of_heap q03]; rfl
  have c10 : w3.cell? ⟨w.heap.size + 1, 0, none⟩ = some (.int .u8 (c : Int)) := by rw [Lib.cell_of_heap q13]; rfl
  have c11 : w3.cell? ⟨w.heap.size + 1, 1, none⟩ = some (.slice sa sm sc) := by rw [Lib.cell_of_heap q13]; rfl
  have c12 : w3.cell? ⟨w.heap.size + 1, 2, none⟩ = some (.iface T x) := by rw [Lib.cell_of_heap q13]; rfl
  have c13 : w3.cell? ⟨w.heap.size + 1, 3, none⟩ = some (.iface T' x') := by rw [Lib.cell_of_heap q13]; rfl
  go_wp2_with fail
  refine (hx m B wb nm sp _ _ h3 s3 (by simp; omega)).mono ?_
  rintro e w4 ⟨rfl, h4, k4⟩
  have q04 := k4.box q03 (by omega) (hmg _ (by omega)) (by decide)
  have q14 := k4.box q13 (by omega) (hmg _ (by omega)) (by decide)
  have K4 := K3.trans k4
  have s4 : B ≤ w4.heap.size := Nat.le_trans hB K4.size
  clear q03 q13 c00 c01 c10 c11 c12 c13 K3 k4 h3 s3
  have c00 : w4.cell? ⟨w.heap.size, 0, none⟩ = some (.pointer (some ⟨wb, 0, none⟩)) := by rw [Lib.cell_of_heap q04]; rfl
  have c01 : w4.cell? ⟨w.heap.size, 1, none⟩ = some (.bool false) := by rw [Lib.cell_of_heap q04]; rfl
  have c10 : w4.cell? ⟨w.heap.size + 1, 0, none⟩ = some (.int .u8 (c : Int)) := by rw [Lib.cell_of_heap q14]; rfl
  have c11 : w4.cell? ⟨w.heap.size + 1, 1, none⟩ = some (.slice sa sm sc) := by rw [Lib.cell_of_heap q14]; rfl
  have c12 : w4.cell? ⟨w.heap.size + 1, 2, none⟩ = some (.iface T x) := by rw [Lib.cell_of_heap q14]; rfl
  have c13 : w4.cell? ⟨w.heap.size + 1, 3, none⟩ = some (.iface T' x') := by rw [Lib.cell_of_heap q14]; rfl
  go_wp2_with fail
  refine (byte_any m B wb nm sp _ 59 _ h4 (by decide) (by simp; omega) s4).mono ?_
  rintro e w5 ⟨rfl, h5, k5⟩
  have q05 := k5.box q04 (by omega) (hmg _ (by omega)) (by decide)
  have q15 := k5.box q14 (by omega) (hmg _ (by omega)) (by decide)
  have K5 := K4.trans k5
  have s5 : B ≤ w5.heap.size := Nat.le_trans hB K5.size
  clear q04 q14 c00 c01 c10 c11 c12 c13 K4 k5 h4 s4
  have c00 : w5.cell? ⟨w.heap.size, 0, none⟩ = some (.pointer (some ⟨wb, 0, none⟩)) := by rw [Lib.cell_of_heap q05]; rfl
  have c01 : w5.cell? ⟨w.heap.size, 1, none⟩ = some (.bool false) := by rw [Lib.cell_of_heap q05]; rfl
  have c10 : w5.cell? ⟨w.heap.size + 1, 0, none⟩ = some (.int .u8 (c : Int)) := by rw [Lib.cell_of_heap q15]; rfl
  have c11 : w5.cell? ⟨w.heap.size + 1, 1, none⟩ = some (.slice sa sm sc) := by rw [Lib.cell_of_heap q15]; rfl
  have c12 : w5.cell? ⟨w.heap.size + 1, 2, none⟩ = some (.iface T x) := by rw [Lib.cell_of_heap q15]; rfl
  have c13 : w5.cell? ⟨w.heap.size + 1, 3, none⟩ = some (.iface T' x') := by rw [Lib.cell_of_heap q15]; rfl
  go_wp2_with fail
  refine (hx' m B wb nm sp _ _ h5 s5 (by simp; omega)).mono ?_
  rintro e w6 ⟨rfl, h6, k6⟩
  go_wp2_with fail
  go_end0
  exact ⟨rfl, by simpa [u8] using h6, K5.trans k6⟩

set_option maxHeartbeats 1000000 in
set_option maxRecDepth 100000 in
theorem wr_let (c : Nat) (sa : Option Addr) (sm sc : Nat) (T : TypeId) (x : Value) (f : List UInt8) (T' : TypeId) (x' : Value) (f' : List UInt8) (hc : c < 256) (hx : Wr T x f) (hx' : Wr T' x' f') : Wr 183 (.agg #[.int .u8 (c : Int), .slice sa sm sc, .iface T x, .iface T' x']) (64 :: u8 c :: 61 :: (f ++ 59 :: f')) := by
  intro m B wb nm sp l w h hB hl
  have hlt := h.lt
  have hmg := h.mge
  have HW : Wi m B wb nm sp l ((w.alloc (.cells #[.pointer (some ⟨wb, 0, none⟩), .bool false] 119)).alloc (.cells #[.int .u8 (c : Int), .slice sa sm sc, .iface T x, .iface T' x'] 183)) := ((h.alloc (.cells #[.pointer (some ⟨wb, 0, none⟩), .bool false] 119)).alloc (.cells #[.int .u8 (c : Int), .slice sa sm sc, .iface T x, .iface T' x'] 183))
  have q00 : ((w.alloc (.cells #[.pointer (some ⟨wb, 0, none⟩), .bool false] 119)).alloc (.cells #[.int .u8 (c : Int), .slice sa sm sc, .iface T x, .iface T' x'] 183)).heap[w.heap.size]? = some (.cells #[.pointer (some ⟨wb, 0, none⟩), .bool false] 119 (0, 0)) := by
    rw [Lib.alloc_old _ _ _ (by simp; try omega)]
    simpa using heap_alloc_new w (.cells #[.pointer (some ⟨wb, 0, none⟩), .bool false] 119)
  have q10 : ((w.alloc (.cells #[.pointer (some ⟨wb, 0, none⟩), .bool false] 119)).alloc (.cells #[.int .u8 (c : Int), .slice sa sm sc, .iface T x, .iface T' x'] 183)).heap[w.heap.size + 1]? = some (.cells #[.int .u8 (c : Int), .slice sa sm sc, .iface T x, .iface T' x'] 183 (0, 0)) := by
    simpa using heap_alloc_new (w.alloc (.cells #[.pointer (some ⟨wb, 0, none⟩), .bool false] 119)) (.cells #[.int .u8 (c : Int), .slice sa sm sc, .iface T x, .iface T' x'] 183)
  have K0 : Kw m B wb w ((w.alloc (.cells #[.pointer (some ⟨wb, 0, none⟩), .bool false] 119)).alloc (.cells #[.int .u8 (c : Int), .slice sa sm sc, .iface T x, .iface T' x'] 183)) := (((Kw.refl m B wb w).alloc (by first | exact hB | (simp; omega)) (.cells #[.pointer (some ⟨wb, 0, none⟩), .bool false] 119)).alloc (by first | exact hB | (simp; omega)) (.cells #[.int .u8 (c : Int), .slice sa sm sc, .iface T x, .iface T' x'] 183))
  have a1 := ta_Let_Name
  have a2 := ta_Let_Constant
  have a3 := ta_Let_Literal
  have a4 := ta_Let_Function
  have a5 := ta_Let_Let
  go_enter Tryz.func82, Tryz.ntmps82
  go_wp2_with fail
  refine (let_wr c sa sm sc T x f T' x' f' hc hx hx' m B wb nm sp l _ HW (by simp; omega) hl).mono ?_
  rintro e w1 ⟨rfl, h1, k1⟩
  go_wp2_with fail
  go_end0
  exact ⟨rfl, h1, K0.trans k1⟩

def partOf (cl : Bool) (f : List UInt8) : List UInt8 := if cl then 40 :: (f ++ [41]) else f
theorem firstOf_part (k : Nat) (f : List UInt8) : firstOf k f = partOf (k == 2) f := by
  unfold firstOf partOf; by_cases h : k = 2 <;> simp [h]
theorem secondOf_part {T : TypeId} {x : Value} {k : Nat} (h : Kd T x k) (f : List UInt8) : secondOf k f = partOf (k == 2 || k == 1) f := by
  rcases h with ⟨rfl, _⟩ | ⟨rfl, _⟩ | ⟨rfl, _⟩ | ⟨rfl, _⟩ <;> rfl

set_option maxHeartbeats 1000000 in
set_option maxRecDepth 100000 in
theorem part_any (T : TypeId) (x : Value) (f : List UInt8) (hx : Wr T x f) (cl : Bool) (m : Option Nat) (B wb : Nat) (nm sp : Value) (l : List UInt8) (w : World) (h : Wi m B wb nm sp l w) (hB : B ≤ w.heap.size) (hl : l.length + (partOf cl f).length ≤ 1000000) :
    Calls Tryz.prog 118 #[.agg #[.pointer (some ⟨wb, 0, none⟩), .bool false], .iface T x, .bool cl] w fun e w' => e = .returned (.tuple #[]) ∧ Wi m B wb nm sp (l ++ partOf cl f) w' ∧ Kw m B wb w w' := by
  cases cl
  · have hl' : l.length + f.length ≤ 1000000 := hl
    clear hl
    have hlt := h.lt
    have hmg := h.mge
    have HW : Wi m B wb nm sp l (w.alloc (.cells #[.pointer (some ⟨wb, 0, none⟩), .bool false] 119)) := (h.alloc (.cells #[.pointer (some ⟨wb, 0, none⟩), .bool false] 119))
    have q00 : (w.alloc (.cells #[.pointer (some ⟨wb, 0, none⟩), .bool false] 119)).heap[w.heap.size]? = some (.cells #[.pointer (some ⟨wb, 0, none⟩), .bool false] 119 (0, 0)) := by
      simpa using heap_alloc_new w (.cells #[.pointer (some ⟨wb, 0, none⟩), .bool false] 119)
    have K0 : Kw m B wb w (w.alloc (.cells #[.pointer (some ⟨wb, 0, none⟩), .bool false] 119)) := ((Kw.refl m B wb w).alloc (by first | exact hB | (simp; omega)) (.cells #[.pointer (some ⟨wb, 0, none⟩), .bool false] 119))
    go_enter Tryz.func118, Tryz.ntmps118
    go_wp2_with fail
    refine (hx m B wb nm sp _ _ HW (by simp; omega) (by omega)).mono ?_
    rintro e w1 ⟨rfl, h1, k1⟩
    go_wp2_with fail
    go_end0
    exact ⟨rfl, h1, K0.trans k1⟩
  · have hl' : l.length + (f.length + 2) ≤ 1000000 := by simpa [partOf] using hl
    clear hl
    have hlt := h.lt
    have hmg := h.mge
    have HW : Wi m B wb nm sp l (w.alloc (.cells #[.pointer (some ⟨wb, 0, none⟩), .bool false] 119)) := (h.alloc (.cells #[.pointer (some ⟨wb, 0, none⟩), .bool false] 119))
    have q00 : (w.alloc (.cells #[.pointer (some ⟨wb, 0, none⟩), .bool false] 119)).heap[w.heap.size]? = some (.cells #[.pointer (some ⟨wb, 0, none⟩), .bool false] 119 (0, 0)) := by
      simpa using heap_alloc_new w (.cells #[.pointer (some ⟨wb, 0, none⟩), .bool false] 119)
    have K0 : Kw m B wb w (w.alloc (.cells #[.pointer (some ⟨wb, 0, none⟩), .bool false] 119)) := ((Kw.refl m B wb w).alloc (by first | exact hB | (simp; omega)) (.cells #[.pointer (some ⟨wb, 0, none⟩), .bool false] 119))
    go_enter Tryz.func118, Tryz.ntmps118
    go_wp2_with fail
    refine (byte_any m B wb nm sp _ 40 _ HW (by decide) (by omega) (by simp; omega)).mono ?_
    rintro e w1 ⟨rfl, h1, k1⟩
    have q01 := k1.box q00 (by omega) (hmg _ (by omega)) (by decide)
    have K1 := K0.trans k1
    have s1 : B ≤ w1.heap.size := Nat.le_trans hB K1.size
    clear q00  K0 k1 HW
    have c00 : w1.cell? ⟨w.heap.size, 0, none⟩ = some (.pointer (some ⟨wb, 0, none⟩)) := by rw [Lib.cell_of_heap q01]; rfl
    have c01 : w1.cell? ⟨w.heap.size, 1, none⟩ = some (.bool false) := by rw [Lib.cell_of_heap q01]; rfl
    go_wp2_with fail
    refine (hx m B wb nm sp _ _ h1 s1 (by simp; omega)).mono ?_
    rintro e w2 ⟨rfl, h2, k2⟩
    have q02 := k2.box q01 (by omega) (hmg _ (by omega)) (by decide)
    have K2 := K1.trans k2
    have s2 : B ≤ w2.heap.size := Nat.le_trans hB K2.size
    clear q01 c00 c01 K1 k2 h1 s1
    have c00 : w2.cell? ⟨w.heap.size, 0, none⟩ = some (.pointer (some ⟨wb, 0, none⟩)) := by rw [Lib.cell_of_heap q02]; rfl
    have c01 : w2.cell? ⟨w.heap.size, 1, none⟩ = some (.bool false) := by rw [Lib.cell_of_heap q02]; rfl
    go_wp2_with fail
    refine (byte_any m B wb nm sp _ 41 _ h2 (by decide) (by simp; omega) s2).mono ?_
    rintro e w3 ⟨rfl, h3, k3⟩
    go_wp2_with fail
    go_end0
    exact ⟨rfl, by simpa [u8, partOf] using h3, K2.trans k3⟩

set_option maxHeartbeats 400000 in
theorem reachesOn_any (T : TypeId) (x : Value) (k : Nat) (hk : Kd T x k) (w : World) :
    Calls Tryz.prog 119 #[.iface T x] w fun e w' => e = .returned (.bool (k == 2)) ∧ w' = w := by
  rcases hk with ⟨rfl, ⟨rfl | rfl, c, sa, sm, sc, p, rfl⟩ | ⟨rfl, c, rfl⟩⟩ | ⟨rfl, rfl, T1, x1, T2, x2, p, rfl⟩ | ⟨rfl, rfl, c, F, T1, x1, p, rfl⟩ | ⟨rfl, rfl, c, V, T1, x1, T2, x2, rfl⟩
  · have a1 := ta_Name_Function
    have a2 := ta_Name_Let
    go_enter Tryz.func119, Tryz.ntmps119
    go_wp2
    go_ret
    exact ⟨rfl, rfl⟩
  · have a1 := ta_Constant_Function
    have a2 := ta_Constant_Let
    go_enter Tryz.func119, Tryz.ntmps119
    go_wp2
    go_ret
    exact ⟨rfl, rfl⟩
  · have a1 := ta_Literal_Function
    have a2 := ta_Literal_Let
    go_enter Tryz.func119, Tryz.ntmps119
    go_wp2
    go_ret
    exact ⟨rfl, rfl⟩
  · have a1 := ta_Call_Function
    have a2 := ta_Call_Let
    go_enter Tryz.func119, Tryz.ntmps119
    go_wp2
    go_ret
    exact ⟨rfl, rfl⟩
  · have a1 := ta_Function_Function
    have a2 := ta_Function_Let
    go_enter Tryz.func119, Tryz.ntmps119
    go_wp2
    go_ret
    exact ⟨rfl, rfl⟩
  · have a1 := ta_Let_Function
    have a2 := ta_Let_Let
    go_enter Tryz.func119, Tryz.ntmps119
    go_wp2
    go_ret
    exact ⟨rfl, rfl⟩

set_option maxHeartbeats 400000 in
theorem isCall_any (T : TypeId) (x : Value) (k : Nat) (hk : Kd T x k) (w : World) :
    Calls Tryz.prog 120 #[.iface T x] w fun e w' => e = .returned (.bool (k == 1)) ∧ ∃ o, w' = w.alloc o := by
  rcases hk with ⟨rfl, ⟨rfl | rfl, c, sa, sm, sc, p, rfl⟩ | ⟨rfl, c, rfl⟩⟩ | ⟨rfl, rfl, T1, x1, T2, x2, p, rfl⟩ | ⟨rfl, rfl, c, F, T1, x1, p, rfl⟩ | ⟨rfl, rfl, c, V, T1, x1, T2, x2, rfl⟩
  · have a1 := ta_Name_Call
    go_enter Tryz.func120, Tryz.ntmps120
    go_wp2
    go_ret
    exact ⟨rfl, _, rfl⟩
  · have a1 := ta_Constant_Call
    go_enter Tryz.func120, Tryz.ntmps120
    go_wp2
    go_ret
    exact ⟨rfl, _, rfl⟩
  · have a1 := ta_Literal_Call
    go_enter Tryz.func120, Tryz.ntmps120
    go_wp2
    go_ret
    exact ⟨rfl, _, rfl⟩
  · have a1 := ta_Call_Call
    go_enter Tryz.func120, Tryz.ntmps120
    go_wp2
    go_ret
    exact ⟨rfl, _, rfl⟩
  · have a1 := ta_Function_Call
    go_enter Tryz.func120, Tryz.ntmps120
    go_wp2
    go_ret
    exact ⟨rfl, _, rfl⟩
  · have a1 := ta_Let_Call
    go_enter Tryz.func120, Tryz.ntmps120
    go_wp2
    go_ret
    exact ⟨rfl, _, rfl⟩
end Go.Proofs.YtceadeaodbadlaaGreatDoor
