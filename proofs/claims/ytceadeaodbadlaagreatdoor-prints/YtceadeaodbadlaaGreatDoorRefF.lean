import Derived.Test.YtceadeaodbadlaaGreatDoorRefP
import Derived.Test.YtceadeaodbadlaaGreatDoorPrOut
set_option linter.unusedVariables false
set_option linter.unusedSimpArgs false
namespace Go.Proofs.YtceadeaodbadlaaGreatDoor
open Go.RowKit

theorem Bx.all {q : Nat} {t : Tm} {w : World} (h : Bx q t w) :
    w.cell? ⟨q, 0, none⟩ = some (.int .u8 (t.op : Int)) ∧ w.cell? ⟨q, 1, none⟩ = some (.int .u8 (t.c : Int)) ∧ w.cell? ⟨q, 2, none⟩ = some (.int .i64 (t.a : Int)) ∧ w.cell? ⟨q, 3, none⟩ = some (.int .i64 (t.b : Int)) ∧
    w.cell? ⟨q, 4, none⟩ = some (.slice none 0 0) ∧ w.cell? ⟨q, 5, none⟩ = some (.slice none 0 0) ∧ w.cell? ⟨q, 6, none⟩ = some (.slice none 0 0) ∧ w.cell? ⟨q, 7, none⟩ = some (.int .i64 (t.at' : Int)) ∧ w.cell? ⟨q, 8, none⟩ = some (.int .i64 (t.to : Int)) :=
  ⟨h.c 0, h.c 1, h.c 2, h.c 3, h.c 4, h.c 5, h.c 6, h.c 7, h.c 8⟩

theorem pr_small (s : ByteArray) (n i : Nat) (l : Nat) (g : List UInt8) (j : Nat) (h : pr s n 0 i 0 [] = .ok (l, g, j)) (hi : i ≤ s.size) (hs : s.size ≤ 1000) : g.length ≤ 5000 := by
  have p := pr_places s _ _ _ _ _ _ _ _ h hi
  have := pr_len s _ _ _ _ _ 0 _ _ _ h hi (by omega) (by omega)
  omega

theorem ret_nat {a b : Int} (h : a = b) : Ending.returned (.int .i64 a) = .returned (.int .i64 b) := by rw [h]

set_option maxRecDepth 100000 in
set_option maxHeartbeats 2000000 in
theorem rfn_letter (b : Nat) (s : ByteArray) (n i tat : Nat) (ts : List Tm) (w : World) (h : St b s i (-1) ts w) (hi : i ≤ s.size) (hs : s.size ≤ 1000) (hl : ts.length + 2 * (s.size - i) + 2 ≤ 900) (hc : isLet (chr s i) = false) :
    Calls Tryz.prog 74 #[.pointer (some ⟨b, 0, none⟩), .int .i64 (tat : Int)] w (RPost b s (fnOut s n i) i ts w) := by
  have HR : Hid (fnOut s n i = .error i) := by unfold Hid fnOut; rw [if_neg (by rw [hc]; decide)]
  have hlt := h.lt
  have hqb : w.heap.size ≠ b := by omega
  have B0 := Bx.new ⟨92, 0, 0, 0, tat, 0⟩ w
  have F0 : Fr b w (w.alloc (.cells #[.int .u8 92, .int .u8 0, .int .i64 0, .int .i64 0, .slice none 0 0, .slice none 0 0, .slice none 0 0, .int .i64 (tat : Int), .int .i64 0] 76)) := (Fr.refl b w).alloc hlt _
  have r0 := rowNe_new h (.cells #[.int .u8 92, .int .u8 0, .int .i64 0, .int .i64 0, .slice none 0 0, .slice none 0 0, .slice none 0 0, .int .i64 (tat : Int), .int .i64 0] 76)
  have h0 := h.alloc (.cells #[.int .u8 92, .int .u8 0, .int .i64 0, .int .i64 0, .slice none 0 0, .slice none 0 0, .slice none 0 0, .int .i64 (tat : Int), .int .i64 0] 76)
  go_enter Tryz.func74, Tryz.ntmps74
  go_wp2_with fail
  refine (rletter_no b s i ts _ h0 hi (by omega) hc).mono ?_
  rintro e w1 ⟨rfl, h1, k1⟩
  have B1 := Bx.fr B0 k1 hqb r0
  have r1 := k1.rowNe r0 (by simp)
  have F1 := F0.trans k1
  clear B0 F0 r0 h0 hc
  have c1 := B1.c 1
  have f1 := B1.fz 1
  have B2 := B1.setC 0
  have h2 : St b s i i ts (w1.setCell ⟨w.heap.size, 1, none⟩ (.int .u8 0)) := h1.setFar hqb r1
  have r2 : rowOf b (w1.setCell ⟨w.heap.size, 1, none⟩ (.int .u8 0)) ≠ some w.heap.size := rowNe_set hqb r1
  have F2 : Fr b w (w1.setCell ⟨w.heap.size, 1, none⟩ (.int .u8 0)) := F1.setNew hqb (Nat.le_refl _)
  have t2 := h2.c1
  clear B1 r1 F1 h1
  go_wp2_with fail
  refine (rmust_bad b s i i 46 ts _ h2).mono ?_
  rintro e w3 ⟨rfl, d, rfl⟩
  go_wp2_with fail
  refine (rexpr_bad b s i i ts _ (h2.drewN d) (by omega)).mono ?_
  rintro e w4 ⟨rfl, h4, k4⟩
  have k4 := k4.undrew
  have B4 := Bx.fr B2 k4 hqb r2
  have r4 := k4.rowNe r2 B2.lt
  have F4 := F2.trans k4
  clear B2 r2 F2 h2 t2
  have c4 := B4.c 2
  have f4 := B4.fz 2
  have B5 := B4.setA ts.length
  have h5 : St b s i i (ts ++ [dummy]) (w4.setCell ⟨w.heap.size, 2, none⟩ (.int .i64 (ts.length : Int))) := h4.setFar hqb r4
  have F5 : Fr b w (w4.setCell ⟨w.heap.size, 2, none⟩ (.int .i64 (ts.length : Int))) := F4.setNew hqb (Nat.le_refl _)
  obtain ⟨d0, d1, d2, d3, d4, d5, d6, d7, d8⟩ := B5.all
  clear B4 B5 r4 F4 h4
  go_wp2_with fail
  refine (radd_any b s i i (ts ++ [dummy]) _ ⟨92, 0, ts.length, 0, tat, 0⟩ h5 (by simp; omega)).mono ?_
  rintro e w6 ⟨rfl, h6, k6⟩
  clear d0 d1 d2 d3 d4 d5 d6 d7 d8
  go_wp2_with fail
  go_ret
  refine ⟨F5.trans k6, ?_⟩
  rw [HR.out]
  refine ⟨(ts ++ [dummy]).length, [dummy, ⟨92, 0, ts.length, 0, tat, 0⟩], ret_nat (by simp), ?_, by simp⟩
  rw [show ts ++ [dummy, ⟨92, 0, ts.length, 0, tat, 0⟩] = ts ++ [dummy] ++ [⟨92, 0, ts.length, 0, tat, 0⟩] from by simp]
  exact h6

set_option maxRecDepth 100000 in
set_option maxHeartbeats 2000000 in
theorem rfn_must (b : Nat) (s : ByteArray) (n i tat : Nat) (ts : List Tm) (w : World) (h : St b s i (-1) ts w) (hi : i ≤ s.size) (hs : s.size ≤ 1000) (hl : ts.length + 2 * (s.size - i) + 2 ≤ 900) (HC : Hid (isLet (chr s i) = true)) (HD : Hid (chr s (i + 1) ≠ 46)) :
    Calls Tryz.prog 74 #[.pointer (some ⟨b, 0, none⟩), .int .i64 (tat : Int)] w (RPost b s (fnOut s n i) i ts w) := by
  have HR : Hid (fnOut s n i = .error (i + 1)) := by unfold Hid fnOut; rw [if_pos HC.out, if_neg HD.out]
  have hi1 : i < s.size := chr_in (by intro e; have := HC.out; rw [e] at this; exact absurd this (by decide))
  have hlt := h.lt
  have hqb : w.heap.size ≠ b := by omega
  have B0 := Bx.new ⟨92, 0, 0, 0, tat, 0⟩ w
  have F0 : Fr b w (w.alloc (.cells #[.int .u8 92, .int .u8 0, .int .i64 0, .int .i64 0, .slice none 0 0, .slice none 0 0, .slice none 0 0, .int .i64 (tat : Int), .int .i64 0] 76)) := (Fr.refl b w).alloc hlt _
  have r0 := rowNe_new h (.cells #[.int .u8 92, .int .u8 0, .int .i64 0, .int .i64 0, .slice none 0 0, .slice none 0 0, .slice none 0 0, .int .i64 (tat : Int), .int .i64 0] 76)
  have h0 := h.alloc (.cells #[.int .u8 92, .int .u8 0, .int .i64 0, .int .i64 0, .slice none 0 0, .slice none 0 0, .slice none 0 0, .int .i64 (tat : Int), .int .i64 0] 76)
  go_enter Tryz.func74, Tryz.ntmps74
  go_wp2_with fail
  refine (rletter_yes b s i ts _ h0 (by omega) HC.out).mono ?_
  rintro e w1 ⟨rfl, h1, k1⟩
  have B1 := Bx.fr B0 k1 hqb r0
  have r1 := k1.rowNe r0 (by simp)
  have F1 := F0.trans k1
  clear B0 F0 r0 h0
  have c1 := B1.c 1
  have f1 := B1.fz 1
  have B2 := B1.setC (chr s i)
  have h2 : St b s (i + 1) (-1) ts (w1.setCell ⟨w.heap.size, 1, none⟩ (.int .u8 (chr s i : Int))) := h1.setFar hqb r1
  have r2 : rowOf b (w1.setCell ⟨w.heap.size, 1, none⟩ (.int .u8 (chr s i : Int))) ≠ some w.heap.size := rowNe_set hqb r1
  have F2 : Fr b w (w1.setCell ⟨w.heap.size, 1, none⟩ (.int .u8 (chr s i : Int))) := F1.setNew hqb (Nat.le_refl _)
  have t2 := h2.c1
  clear B1 r1 F1 h1
  go_wp2_with fail
  refine (rmust_no b s (i + 1) 46 ts _ h2 hi1 (by omega) HD.out (by decide)).mono ?_
  rintro e w3 ⟨rfl, h3, k3⟩
  have B3 := Bx.fr B2 k3 hqb r2
  have r3 := k3.rowNe r2 B2.lt
  have F3 := F2.trans k3
  clear B2 r2 F2 h2 t2
  go_wp2_with fail
  refine (rexpr_bad b s (i + 1) (i + 1) ts _ h3 (by omega)).mono ?_
  rintro e w4 ⟨rfl, h4, k4⟩
  have B4 := Bx.fr B3 k4 hqb r3
  have r4 := k4.rowNe r3 B3.lt
  have F4 := F3.trans k4
  clear B3 r3 F3 h3
  have c4 := B4.c 2
  have f4 := B4.fz 2
  have B5 := B4.setA (ts.length)
  have h5 : St b s (i + 1) ((i + 1 : Nat) : Int) (ts ++ [dummy]) (w4.setCell ⟨w.heap.size, 2, none⟩ (.int .i64 (ts.length : Int))) := h4.setFar hqb r4
  have F5 : Fr b w (w4.setCell ⟨w.heap.size, 2, none⟩ (.int .i64 (ts.length : Int))) := F4.setNew hqb (Nat.le_refl _)
  obtain ⟨d0, d1, d2, d3, d4, d5, d6, d7, d8⟩ := B5.all
  clear B4 B5 r4 F4 h4
  go_wp2_with fail
  refine (radd_any b s (i + 1) ((i + 1 : Nat) : Int) (ts ++ [dummy]) _ ⟨92, chr s i, ts.length, 0, tat, 0⟩ h5 (by simp; omega)).mono ?_
  rintro e w6 ⟨rfl, h6, k6⟩
  clear d0 d1 d2 d3 d4 d5 d6 d7 d8
  go_wp2_with fail
  go_ret
  refine ⟨F5.trans k6, ?_⟩
  rw [HR.out]
  refine ⟨(ts ++ [dummy]).length, [dummy, ⟨92, chr s i, ts.length, 0, tat, 0⟩], ret_nat (by simp), ?_, by simp⟩
  rw [show ts ++ [dummy, ⟨92, chr s i, ts.length, 0, tat, 0⟩] = ts ++ [dummy] ++ [⟨92, chr s i, ts.length, 0, tat, 0⟩] from by simp]
  exact h6

set_option maxRecDepth 100000 in
set_option maxHeartbeats 2000000 in
theorem rfn_err (b : Nat) (s : ByteArray) (n i tat : Nat) (ts : List Tm) (w : World) (h : St b s i (-1) ts w) (hi : i ≤ s.size) (hs : s.size ≤ 1000) (hl : ts.length + 2 * (s.size - i) + 2 ≤ 900) (ih : RExpr b s n) (hn : 3 * (s.size - i) ≤ n) (HC : Hid (isLet (chr s i) = true)) (HD : Hid (chr s (i + 1) = 46)) (p : Nat) (HQ : Hid (pr s n 0 (i + 2) 0 [] = .error p)) :
    Calls Tryz.prog 74 #[.pointer (some ⟨b, 0, none⟩), .int .i64 (tat : Int)] w (RPost b s (fnOut s n i) i ts w) := by
  have HR : Hid (fnOut s n i = .error p) := by unfold Hid fnOut; rw [if_pos HC.out, if_pos HD.out, HQ.out]
  have hi1 : i < s.size := chr_in (by intro e; have := HC.out; rw [e] at this; exact absurd this (by decide))
  have hi2 : i + 1 < s.size := chr_in (by rw [HD.out]; decide)
  have hcl := chr_lt s i
  have hlt := h.lt
  have hqb : w.heap.size ≠ b := by omega
  have B0 := Bx.new ⟨92, 0, 0, 0, tat, 0⟩ w
  have F0 : Fr b w (w.alloc (.cells #[.int .u8 92, .int .u8 0, .int .i64 0, .int .i64 0, .slice none 0 0, .slice none 0 0, .slice none 0 0, .int .i64 (tat : Int), .int .i64 0] 76)) := (Fr.refl b w).alloc hlt _
  have r0 := rowNe_new h (.cells #[.int .u8 92, .int .u8 0, .int .i64 0, .int .i64 0, .slice none 0 0, .slice none 0 0, .slice none 0 0, .int .i64 (tat : Int), .int .i64 0] 76)
  have h0 := h.alloc (.cells #[.int .u8 92, .int .u8 0, .int .i64 0, .int .i64 0, .slice none 0 0, .slice none 0 0, .slice none 0 0, .int .i64 (tat : Int), .int .i64 0] 76)
  go_enter Tryz.func74, Tryz.ntmps74
  go_wp2_with fail
  refine (rletter_yes b s i ts _ h0 (by omega) HC.out).mono ?_
  rintro e w1 ⟨rfl, h1, k1⟩
  have B1 := Bx.fr B0 k1 hqb r0
  have r1 := k1.rowNe r0 (by simp)
  have F1 := F0.trans k1
  clear B0 F0 r0 h0
  have c1 := B1.c 1
  have f1 := B1.fz 1
  have B2 := B1.setC (chr s i)
  have h2 : St b s (i + 1) (-1) ts (w1.setCell ⟨w.heap.size, 1, none⟩ (.int .u8 (chr s i : Int))) := h1.setFar hqb r1
  have r2 : rowOf b (w1.setCell ⟨w.heap.size, 1, none⟩ (.int .u8 (chr s i : Int))) ≠ some w.heap.size := rowNe_set hqb r1
  have F2 : Fr b w (w1.setCell ⟨w.heap.size, 1, none⟩ (.int .u8 (chr s i : Int))) := F1.setNew hqb (Nat.le_refl _)
  have t2 := h2.c1
  clear B1 r1 F1 h1
  go_wp2_with fail
  refine (rmust_yes b s (i + 1) 46 ts _ h2 (by omega) HD.out (by decide)).mono ?_
  rintro e w3 ⟨rfl, h3, k3⟩
  have B3 := Bx.fr B2 k3 hqb r2
  have r3 := k3.rowNe r2 B2.lt
  have F3 := F2.trans k3
  clear B2 r2 F2 h2 t2
  go_wp2_with fail
  refine (ih (i + 2) ts _ h3 (by omega) (by omega) (by omega)).mono ?_
  rintro e w4 ⟨k4, hp⟩
  rw [HQ.out] at hp
  obtain ⟨k, us, rfl, h4, hu⟩ := hp
  have B4 := Bx.fr B3 k4 hqb r3
  have r4 := k4.rowNe r3 B3.lt
  have F4 := F3.trans k4
  clear B3 r3 F3 h3
  have c4 := B4.c 2
  have f4 := B4.fz 2
  have B5 := B4.setA (k)
  have h5 : St b s p (p : Int) (ts ++ us) (w4.setCell ⟨w.heap.size, 2, none⟩ (.int .i64 (k : Int))) := h4.setFar hqb r4
  have F5 : Fr b w (w4.setCell ⟨w.heap.size, 2, none⟩ (.int .i64 (k : Int))) := F4.setNew hqb (Nat.le_refl _)
  obtain ⟨d0, d1, d2, d3, d4, d5, d6, d7, d8⟩ := B5.all
  clear B4 B5 r4 F4 h4
  go_wp2_with fail
  refine (radd_any b s p (p : Int) (ts ++ us) _ ⟨92, chr s i, k, 0, tat, 0⟩ h5 (by simp; omega)).mono ?_
  rintro e w6 ⟨rfl, h6, k6⟩
  clear d0 d1 d2 d3 d4 d5 d6 d7 d8
  go_wp2_with fail
  go_ret
  refine ⟨F5.trans k6, ?_⟩
  rw [HR.out]
  refine ⟨(ts ++ us).length, us ++ [⟨92, chr s i, k, 0, tat, 0⟩], ret_nat (by simp), ?_, by simp; omega⟩
  rw [← List.append_assoc]
  exact h6

set_option maxRecDepth 100000 in
set_option maxHeartbeats 2000000 in
theorem rfn_ok (b : Nat) (s : ByteArray) (n i tat : Nat) (ts : List Tm) (w : World) (h : St b s i (-1) ts w) (hi : i ≤ s.size) (hs : s.size ≤ 1000) (hl : ts.length + 2 * (s.size - i) + 2 ≤ 900) (ih : RExpr b s n) (hn : 3 * (s.size - i) ≤ n) (HC : Hid (isLet (chr s i) = true)) (HD : Hid (chr s (i + 1) = 46)) (kd : Nat) (f : List UInt8) (j : Nat) (HQ : Hid (pr s n 0 (i + 2) 0 [] = .ok (kd, f, j))) :
    Calls Tryz.prog 74 #[.pointer (some ⟨b, 0, none⟩), .int .i64 (tat : Int)] w (RPost b s (fnOut s n i) i ts w) := by
  have HR : Hid (fnOut s n i = .ok (2, 92 :: u8 (chr s i) :: 46 :: f, j)) := by unfold Hid fnOut; rw [if_pos HC.out, if_pos HD.out, HQ.out]
  have hi2' : i + 1 < s.size := chr_in (by rw [HD.out]; decide)
  have pl := pr_places s _ _ _ _ _ _ _ _ HQ.out (by omega)
  have sm := pr_small s n (i + 2) kd f j HQ.out (by omega) hs
  have hi1 : i < s.size := chr_in (by intro e; have := HC.out; rw [e] at this; exact absurd this (by decide))
  have hi2 : i + 1 < s.size := chr_in (by rw [HD.out]; decide)
  have hcl := chr_lt s i
  have hlt := h.lt
  have hqb : w.heap.size ≠ b := by omega
  have B0 := Bx.new ⟨92, 0, 0, 0, tat, 0⟩ w
  have F0 : Fr b w (w.alloc (.cells #[.int .u8 92, .int .u8 0, .int .i64 0, .int .i64 0, .slice none 0 0, .slice none 0 0, .slice none 0 0, .int .i64 (tat : Int), .int .i64 0] 76)) := (Fr.refl b w).alloc hlt _
  have r0 := rowNe_new h (.cells #[.int .u8 92, .int .u8 0, .int .i64 0, .int .i64 0, .slice none 0 0, .slice none 0 0, .slice none 0 0, .int .i64 (tat : Int), .int .i64 0] 76)
  have h0 := h.alloc (.cells #[.int .u8 92, .int .u8 0, .int .i64 0, .int .i64 0, .slice none 0 0, .slice none 0 0, .slice none 0 0, .int .i64 (tat : Int), .int .i64 0] 76)
  go_enter Tryz.func74, Tryz.ntmps74
  go_wp2_with fail
  refine (rletter_yes b s i ts _ h0 (by omega) HC.out).mono ?_
  rintro e w1 ⟨rfl, h1, k1⟩
  have B1 := Bx.fr B0 k1 hqb r0
  have r1 := k1.rowNe r0 (by simp)
  have F1 := F0.trans k1
  clear B0 F0 r0 h0
  have c1 := B1.c 1
  have f1 := B1.fz 1
  have B2 := B1.setC (chr s i)
  have h2 : St b s (i + 1) (-1) ts (w1.setCell ⟨w.heap.size, 1, none⟩ (.int .u8 (chr s i : Int))) := h1.setFar hqb r1
  have r2 : rowOf b (w1.setCell ⟨w.heap.size, 1, none⟩ (.int .u8 (chr s i : Int))) ≠ some w.heap.size := rowNe_set hqb r1
  have F2 : Fr b w (w1.setCell ⟨w.heap.size, 1, none⟩ (.int .u8 (chr s i : Int))) := F1.setNew hqb (Nat.le_refl _)
  have t2 := h2.c1
  clear B1 r1 F1 h1
  go_wp2_with fail
  refine (rmust_yes b s (i + 1) 46 ts _ h2 (by omega) HD.out (by decide)).mono ?_
  rintro e w3 ⟨rfl, h3, k3⟩
  have B3 := Bx.fr B2 k3 hqb r2
  have r3 := k3.rowNe r2 B2.lt
  have F3 := F2.trans k3
  clear B2 r2 F2 h2 t2
  go_wp2_with fail
  refine (ih (i + 2) ts _ h3 (by omega) (by omega) (by omega)).mono ?_
  rintro e w4 ⟨k4, hp⟩
  rw [HQ.out] at hp
  obtain ⟨k, us, rfl, hkk, h4, hu, hfo⟩ := hp
  have B4 := Bx.fr B3 k4 hqb r3
  have r4 := k4.rowNe r3 B3.lt
  have F4 := F3.trans k4
  clear B3 r3 F3 h3
  have c4 := B4.c 2
  have f4 := B4.fz 2
  have B5 := B4.setA (k)
  have h5 : St b s j (-1) (ts ++ us) (w4.setCell ⟨w.heap.size, 2, none⟩ (.int .i64 (k : Int))) := h4.setFar hqb r4
  have F5 : Fr b w (w4.setCell ⟨w.heap.size, 2, none⟩ (.int .i64 (k : Int))) := F4.setNew hqb (Nat.le_refl _)
  obtain ⟨d0, d1, d2, d3, d4, d5, d6, d7, d8⟩ := B5.all
  clear B4 B5 r4 F4 h4
  go_wp2_with fail
  refine (radd_any b s j (-1) (ts ++ us) _ ⟨92, chr s i, k, 0, tat, 0⟩ h5 (by simp; omega)).mono ?_
  rintro e w6 ⟨rfl, h6, k6⟩
  clear d0 d1 d2 d3 d4 d5 d6 d7 d8
  go_wp2_with fail
  go_ret
  refine ⟨F5.trans k6, ?_⟩
  rw [HR.out]
  refine ⟨(ts ++ us).length, us ++ [⟨92, chr s i, k, 0, tat, 0⟩], ret_nat (by simp), by simp; omega, ?_, by simp; omega, ?_⟩
  · rw [← List.append_assoc]
    exact h6
  · rw [← List.append_assoc]
    exact Fo.fn (ts ++ us) (chr s i) k 0 tat 0 kd f hcl hfo (by omega)

theorem rfunction_any (b : Nat) (s : ByteArray) (n i tat : Nat) (ts : List Tm) (w : World) (ih : RExpr b s n) (h : St b s i (-1) ts w) (hi : i ≤ s.size) (hs : s.size ≤ 1000) (hn : 3 * (s.size - i) ≤ n) (hl : ts.length + 2 * (s.size - i) + 2 ≤ 900) :
    Calls Tryz.prog 74 #[.pointer (some ⟨b, 0, none⟩), .int .i64 (tat : Int)] w (RPost b s (fnOut s n i) i ts w) := by
  cases hc : isLet (chr s i)
  · exact rfn_letter b s n i tat ts w h hi hs hl hc
  · by_cases hd : chr s (i + 1) = 46
    · cases hq : pr s n 0 (i + 2) 0 [] with
      | error p => exact rfn_err b s n i tat ts w h hi hs hl ih hn hc hd p hq
      | ok r => obtain ⟨kd, f, j⟩ := r; exact rfn_ok b s n i tat ts w h hi hs hl ih hn hc hd kd f j hq
    · exact rfn_must b s n i tat ts w h hi hs hl hc hd
end Go.Proofs.YtceadeaodbadlaaGreatDoor
