import Derived.Test.YtceadeaodbadlaaGreatDoorRefF
set_option linter.unusedVariables false
set_option linter.unusedSimpArgs false
namespace Go.Proofs.YtceadeaodbadlaaGreatDoor
open Go.RowKit

theorem rexpr_badk (b : Nat) (s : ByteArray) (i p : Nat) (ts : List Tm) (w : World) (h : St b s i p ts w) (hl : ts.length ≤ 1000) :
    Calls Tryz.prog 46 #[.pointer (some ⟨b, 0, none⟩)] w fun e w' => ∃ k : Nat, e = .returned (.int .i64 (k : Int)) ∧ St b s i p (ts ++ [dummy]) w' ∧ Fr b w w' :=
  (rexpr_bad b s i p ts w h hl).mono fun _ _ h => ⟨_, h⟩

theorem app3 (ts : List Tm) (x y z : Tm) : ts ++ [x, y, z] = ts ++ [x] ++ [y] ++ [z] := by simp
theorem app2 (ts us : List Tm) (y z : Tm) : ts ++ (us ++ [y, z]) = ts ++ us ++ [y] ++ [z] := by simp
theorem app1 (ts us vs : List Tm) (z : Tm) : ts ++ (us ++ vs ++ [z]) = ts ++ us ++ vs ++ [z] := by simp

set_option maxRecDepth 100000 in
set_option maxHeartbeats 4000000 in
theorem rwi_letter (b : Nat) (s : ByteArray) (n i tat : Nat) (ts : List Tm) (w : World) (h : St b s (i + 1) (-1) ts w) (hi : i + 1 ≤ s.size) (hs : s.size ≤ 1000) (hl : ts.length + 2 * (s.size - i) + 2 ≤ 900) (HC : Hid (isLet (chr s (i + 1)) = false)) :
    Calls Tryz.prog 75 #[.pointer (some ⟨b, 0, none⟩), .int .i64 (tat : Int)] w (RPost b s (ltOut s n (i + 1)) i ts w) := by
  have HR : Hid (ltOut s n (i + 1) = .error (i + 1)) := by unfold Hid ltOut; rw [if_neg (by rw [HC.out]; decide)]
  have hlt := h.lt
  have hqb : w.heap.size ≠ b := by omega
  have B0 := Bx.new ⟨64, 0, 0, 0, tat, 0⟩ w
  have F0 : Fr b w (w.alloc (.cells #[.int .u8 64, .int .u8 0, .int .i64 0, .int .i64 0, .slice none 0 0, .slice none 0 0, .slice none 0 0, .int .i64 (tat : Int), .int .i64 0] 76)) := (Fr.refl b w).alloc hlt _
  have r0 := rowNe_new h (.cells #[.int .u8 64, .int .u8 0, .int .i64 0, .int .i64 0, .slice none 0 0, .slice none 0 0, .slice none 0 0, .int .i64 (tat : Int), .int .i64 0] 76)
  have h0 := h.alloc (.cells #[.int .u8 64, .int .u8 0, .int .i64 0, .int .i64 0, .slice none 0 0, .slice none 0 0, .slice none 0 0, .int .i64 (tat : Int), .int .i64 0] 76)
  go_enter Tryz.func75, Tryz.ntmps75
  go_wp2_with fail
  refine (rletter_no b s (i + 1) ts _ h0 (by omega) (by omega) HC.out).mono ?_
  rintro e w1 ⟨rfl, h1, k1⟩
  have B1 := Bx.fr B0 k1 hqb r0
  have r1 := k1.rowNe r0 (by simp)
  have F1 := F0.trans k1
  clear B0 F0 r0 h0
  have c1 := B1.c 1
  have f1 := B1.fz 1
  have B2 := B1.setC (0)
  have h2 : St b s (i + 1) ((i + 1 : Nat) : Int) ts (w1.setCell ⟨w.heap.size, 1, none⟩ (.int .u8 0)) := h1.setFar hqb r1
  have r2 : rowOf b (w1.setCell ⟨w.heap.size, 1, none⟩ (.int .u8 0)) ≠ some w.heap.size := rowNe_set hqb r1
  have F2 : Fr b w (w1.setCell ⟨w.heap.size, 1, none⟩ (.int .u8 0)) := F1.setNew hqb (Nat.le_refl _)
  have t2 := h2.c1
  clear B1 r1 F1 h1
  go_wp2_with fail
  refine (rmust_bad b s (i + 1) (i + 1) 61 ts _ h2).mono ?_
  rintro e w3 ⟨rfl, d, rfl⟩
  have h3 := h2.drewN d
  have B3 : Bx w.heap.size _ _ := B2
  have r3 := r2
  have F3 := F2
  clear t2
  go_wp2_with fail
  refine (rexpr_bad b s (i + 1) (i + 1) ts _ h3 (by omega)).mono ?_
  rintro e w4 ⟨rfl, h4, k4⟩
  have k4 := k4.undrew
  have B4 := Bx.fr B2 k4 hqb r2
  have r4 := k4.rowNe r2 B2.lt
  have F4 := F2.trans k4
  clear B2 r2 F2 h2 B3 r3 F3 h3
  have c4 := B4.c 2
  have f4 := B4.fz 2
  have B5 := B4.setA (ts.length)
  have h5 : St b s (i + 1) ((i + 1 : Nat) : Int) (ts ++ [dummy]) (w4.setCell ⟨w.heap.size, 2, none⟩ (.int .i64 (ts.length : Int))) := h4.setFar hqb r4
  have r5 : rowOf b (w4.setCell ⟨w.heap.size, 2, none⟩ (.int .i64 (ts.length : Int))) ≠ some w.heap.size := rowNe_set hqb r4
  have F5 : Fr b w (w4.setCell ⟨w.heap.size, 2, none⟩ (.int .i64 (ts.length : Int))) := F4.setNew hqb (Nat.le_refl _)
  clear B4 r4 F4 h4
  go_wp2_with fail
  refine (rmust_bad b s (i + 1) (i + 1) 59 (ts ++ [dummy]) _ h5).mono ?_
  rintro e w6 ⟨rfl, d', rfl⟩
  have h6 := h5.drewN d'
  go_wp2_with fail
  refine (rexpr_badk b s (i + 1) (i + 1) (ts ++ [dummy]) _ h6 (by simp; omega)).mono ?_
  rintro e w7 ⟨k', rfl, h7, k7⟩
  have k7 := k7.undrew
  have B7 := Bx.fr B5 k7 hqb r5
  have r7 := k7.rowNe r5 B5.lt
  have F7 := F5.trans k7
  clear B5 r5 F5 h5 h6
  have c7 := B7.c 3
  have f7 := B7.fz 3
  have B8 := B7.setB k'
  have h8 : St b s (i + 1) ((i + 1 : Nat) : Int) (ts ++ [dummy] ++ [dummy]) (w7.setCell ⟨w.heap.size, 3, none⟩ (.int .i64 (k' : Int))) := h7.setFar hqb r7
  have F8 : Fr b w (w7.setCell ⟨w.heap.size, 3, none⟩ (.int .i64 (k' : Int))) := F7.setNew hqb (Nat.le_refl _)
  obtain ⟨d0, d1, d2, d3, d4, d5, d6, d7, d8⟩ := B8.all
  clear B7 B8 r7 F7 h7
  go_wp2_with fail
  refine (radd_any b s (i + 1) ((i + 1 : Nat) : Int) (ts ++ [dummy] ++ [dummy]) _ ⟨64, 0, ts.length, k', tat, 0⟩ h8 (by simp; omega)).mono ?_
  rintro e w9 ⟨rfl, h9, k9⟩
  clear d0 d1 d2 d3 d4 d5 d6 d7 d8
  go_wp2_with fail
  go_ret
  refine ⟨F8.trans k9, ?_⟩
  rw [HR.out]
  refine ⟨(ts ++ [dummy] ++ [dummy]).length, [dummy, dummy, ⟨64, 0, ts.length, k', tat, 0⟩], ret_nat (by simp), ?_, by simp; omega⟩
  rw [app3]
  exact h9

set_option maxRecDepth 100000 in
set_option maxHeartbeats 4000000 in
theorem rwi_must (b : Nat) (s : ByteArray) (n i tat : Nat) (ts : List Tm) (w : World) (h : St b s (i + 1) (-1) ts w) (hi : i + 1 ≤ s.size) (hs : s.size ≤ 1000) (hl : ts.length + 2 * (s.size - i) + 2 ≤ 900) (HC : Hid (isLet (chr s (i + 1)) = true)) (HD : Hid (chr s (i + 2) ≠ 61)) :
    Calls Tryz.prog 75 #[.pointer (some ⟨b, 0, none⟩), .int .i64 (tat : Int)] w (RPost b s (ltOut s n (i + 1)) i ts w) := by
  have HR : Hid (ltOut s n (i + 1) = .error (i + 2)) := by unfold Hid ltOut; rw [if_pos HC.out, if_neg HD.out]
  have hi1 : i + 1 < s.size := chr_in (by intro e; have := HC.out; rw [e] at this; exact absurd this (by decide))
  have hlt := h.lt
  have hqb : w.heap.size ≠ b := by omega
  have B0 := Bx.new ⟨64, 0, 0, 0, tat, 0⟩ w
  have F0 : Fr b w (w.alloc (.cells #[.int .u8 64, .int .u8 0, .int .i64 0, .int .i64 0, .slice none 0 0, .slice none 0 0, .slice none 0 0, .int .i64 (tat : Int), .int .i64 0] 76)) := (Fr.refl b w).alloc hlt _
  have r0 := rowNe_new h (.cells #[.int .u8 64, .int .u8 0, .int .i64 0, .int .i64 0, .slice none 0 0, .slice none 0 0, .slice none 0 0, .int .i64 (tat : Int), .int .i64 0] 76)
  have h0 := h.alloc (.cells #[.int .u8 64, .int .u8 0, .int .i64 0, .int .i64 0, .slice none 0 0, .slice none 0 0, .slice none 0 0, .int .i64 (tat : Int), .int .i64 0] 76)
  go_enter Tryz.func75, Tryz.ntmps75
  go_wp2_with fail
  refine (rletter_yes b s (i + 1) ts _ h0 (by omega) HC.out).mono ?_
  rintro e w1 ⟨rfl, h1, k1⟩
  have B1 := Bx.fr B0 k1 hqb r0
  have r1 := k1.rowNe r0 (by simp)
  have F1 := F0.trans k1
  clear B0 F0 r0 h0
  have c1 := B1.c 1
  have f1 := B1.fz 1
  have B2 := B1.setC (chr s (i + 1))
  have h2 : St b s (i + 2) (-1) ts (w1.setCell ⟨w.heap.size, 1, none⟩ (.int .u8 (chr s (i + 1) : Int))) := h1.setFar hqb r1
  have r2 : rowOf b (w1.setCell ⟨w.heap.size, 1, none⟩ (.int .u8 (chr s (i + 1) : Int))) ≠ some w.heap.size := rowNe_set hqb r1
  have F2 : Fr b w (w1.setCell ⟨w.heap.size, 1, none⟩ (.int .u8 (chr s (i + 1) : Int))) := F1.setNew hqb (Nat.le_refl _)
  have t2 := h2.c1
  clear B1 r1 F1 h1
  go_wp2_with fail
  refine (rmust_no b s (i + 2) 61 ts _ h2 (by omega) (by omega) HD.out (by decide)).mono ?_
  rintro e w3 ⟨rfl, h3, k3⟩
  have B3 := Bx.fr B2 k3 hqb r2
  have r3 := k3.rowNe r2 B2.lt
  have F3 := F2.trans k3
  clear B2 r2 F2 h2
  clear t2
  go_wp2_with fail
  refine (rexpr_bad b s (i + 2) (i + 2) ts _ h3 (by omega)).mono ?_
  rintro e w4 ⟨rfl, h4, k4⟩
  have B4 := Bx.fr B3 k4 hqb r3
  have r4 := k4.rowNe r3 B3.lt
  have F4 := F3.trans k4
  clear B3 r3 F3 h3
  have c4 := B4.c 2
  have f4 := B4.fz 2
  have B5 := B4.setA (ts.length)
  have h5 : St b s (i + 2) ((i + 2 : Nat) : Int) (ts ++ [dummy]) (w4.setCell ⟨w.heap.size, 2, none⟩ (.int .i64 (ts.length : Int))) := h4.setFar hqb r4
  have r5 : rowOf b (w4.setCell ⟨w.heap.size, 2, none⟩ (.int .i64 (ts.length : Int))) ≠ some w.heap.size := rowNe_set hqb r4
  have F5 : Fr b w (w4.setCell ⟨w.heap.size, 2, none⟩ (.int .i64 (ts.length : Int))) := F4.setNew hqb (Nat.le_refl _)
  clear B4 r4 F4 h4
  go_wp2_with fail
  refine (rmust_bad b s (i + 2) (i + 2) 59 (ts ++ [dummy]) _ h5).mono ?_
  rintro e w6 ⟨rfl, d', rfl⟩
  have h6 := h5.drewN d'
  go_wp2_with fail
  refine (rexpr_badk b s (i + 2) (i + 2) (ts ++ [dummy]) _ h6 (by simp; omega)).mono ?_
  rintro e w7 ⟨k', rfl, h7, k7⟩
  have k7 := k7.undrew
  have B7 := Bx.fr B5 k7 hqb r5
  have r7 := k7.rowNe r5 B5.lt
  have F7 := F5.trans k7
  clear B5 r5 F5 h5 h6
  have c7 := B7.c 3
  have f7 := B7.fz 3
  have B8 := B7.setB k'
  have h8 : St b s (i + 2) ((i + 2 : Nat) : Int) (ts ++ [dummy] ++ [dummy]) (w7.setCell ⟨w.heap.size, 3, none⟩ (.int .i64 (k' : Int))) := h7.setFar hqb r7
  have F8 : Fr b w (w7.setCell ⟨w.heap.size, 3, none⟩ (.int .i64 (k' : Int))) := F7.setNew hqb (Nat.le_refl _)
  obtain ⟨d0, d1, d2, d3, d4, d5, d6, d7, d8⟩ := B8.all
  clear B7 B8 r7 F7 h7
  go_wp2_with fail
  refine (radd_any b s (i + 2) ((i + 2 : Nat) : Int) (ts ++ [dummy] ++ [dummy]) _ ⟨64, chr s (i + 1), ts.length, k', tat, 0⟩ h8 (by simp; omega)).mono ?_
  rintro e w9 ⟨rfl, h9, k9⟩
  clear d0 d1 d2 d3 d4 d5 d6 d7 d8
  go_wp2_with fail
  go_ret
  refine ⟨F8.trans k9, ?_⟩
  rw [HR.out]
  refine ⟨(ts ++ [dummy] ++ [dummy]).length, [dummy, dummy, ⟨64, chr s (i + 1), ts.length, k', tat, 0⟩], ret_nat (by simp), ?_, by simp; omega⟩
  rw [app3]
  exact h9

set_option maxRecDepth 100000 in
set_option maxHeartbeats 4000000 in
theorem rwi_err (b : Nat) (s : ByteArray) (n i tat : Nat) (ts : List Tm) (w : World) (h : St b s (i + 1) (-1) ts w) (hi : i + 1 ≤ s.size) (hs : s.size ≤ 1000) (hl : ts.length + 2 * (s.size - i) + 2 ≤ 900) (ih : RExpr b s n) (hn : 3 * (s.size - i) ≤ n + 2) (HC : Hid (isLet (chr s (i + 1)) = true)) (HD : Hid (chr s (i + 2) = 61)) (p : Nat) (HQ : Hid (pr s n 0 (i + 3) 0 [] = .error p)) :
    Calls Tryz.prog 75 #[.pointer (some ⟨b, 0, none⟩), .int .i64 (tat : Int)] w (RPost b s (ltOut s n (i + 1)) i ts w) := by
  have HR : Hid (ltOut s n (i + 1) = .error p) := by unfold Hid ltOut; rw [if_pos HC.out, if_pos HD.out, HQ.out]
  have hi1 : i + 1 < s.size := chr_in (by intro e; have := HC.out; rw [e] at this; exact absurd this (by decide))
  have hi2 : i + 2 < s.size := chr_in (by rw [HD.out]; decide)
  have hcl := chr_lt s (i + 1)
  have hlt := h.lt
  have hqb : w.heap.size ≠ b := by omega
  have B0 := Bx.new ⟨64, 0, 0, 0, tat, 0⟩ w
  have F0 : Fr b w (w.alloc (.cells #[.int .u8 64, .int .u8 0, .int .i64 0, .int .i64 0, .slice none 0 0, .slice none 0 0, .slice none 0 0, .int .i64 (tat : Int), .int .i64 0] 76)) := (Fr.refl b w).alloc hlt _
  have r0 := rowNe_new h (.cells #[.int .u8 64, .int .u8 0, .int .i64 0, .int .i64 0, .slice none 0 0, .slice none 0 0, .slice none 0 0, .int .i64 (tat : Int), .int .i64 0] 76)
  have h0 := h.alloc (.cells #[.int .u8 64, .int .u8 0, .int .i64 0, .int .i64 0, .slice none 0 0, .slice none 0 0, .slice none 0 0, .int .i64 (tat : Int), .int .i64 0] 76)
  go_enter Tryz.func75, Tryz.ntmps75
  go_wp2_with fail
  refine (rletter_yes b s (i + 1) ts _ h0 (by omega) HC.out).mono ?_
  rintro e w1 ⟨rfl, h1, k1⟩
  have B1 := Bx.fr B0 k1 hqb r0
  have r1 := k1.rowNe r0 (by simp)
  have F1 := F0.trans k1
  clear B0 F0 r0 h0
  have c1 := B1.c 1
  have f1 := B1.fz 1
  have B2 := B1.setC (chr s (i + 1))
  have h2 : St b s (i + 2) (-1) ts (w1.setCell ⟨w.heap.size, 1, none⟩ (.int .u8 (chr s (i + 1) : Int))) := h1.setFar hqb r1
  have r2 : rowOf b (w1.setCell ⟨w.heap.size, 1, none⟩ (.int .u8 (chr s (i + 1) : Int))) ≠ some w.heap.size := rowNe_set hqb r1
  have F2 : Fr b w (w1.setCell ⟨w.heap.size, 1, none⟩ (.int .u8 (chr s (i + 1) : Int))) := F1.setNew hqb (Nat.le_refl _)
  have t2 := h2.c1
  clear B1 r1 F1 h1
  go_wp2_with fail
  refine (rmust_yes b s (i + 2) 61 ts _ h2 (by omega) HD.out (by decide)).mono ?_
  rintro e w3 ⟨rfl, h3, k3⟩
  have B3 := Bx.fr B2 k3 hqb r2
  have r3 := k3.rowNe r2 B2.lt
  have F3 := F2.trans k3
  clear B2 r2 F2 h2
  clear t2
  go_wp2_with fail
  refine (ih (i + 3) ts _ h3 (by omega) (by omega) (by omega)).mono ?_
  rintro e w4 ⟨k4, hp⟩
  rw [HQ.out] at hp
  obtain ⟨k, us, rfl, h4, hu⟩ := hp
  have B4 := Bx.fr B3 k4 hqb r3
  have r4 := k4.rowNe r3 B3.lt
  have F4 := F3.trans k4
  clear B3 r3 F3 h3
  have c4 := B4.c 2
  have f4 := B4.fz 2
  have B5 := B4.setA (k)
  have h5 : St b s p (p : Int) (ts ++ us) (w4.setCell ⟨w.heap.size, 2, none⟩ (.int .i64 (k : Int))) := h4.setFar hqb r4
  have r5 : rowOf b (w4.setCell ⟨w.heap.size, 2, none⟩ (.int .i64 (k : Int))) ≠ some w.heap.size := rowNe_set hqb r4
  have F5 : Fr b w (w4.setCell ⟨w.heap.size, 2, none⟩ (.int .i64 (k : Int))) := F4.setNew hqb (Nat.le_refl _)
  clear B4 r4 F4 h4
  go_wp2_with fail
  refine (rmust_bad b s p p 59 (ts ++ us) _ h5).mono ?_
  rintro e w6 ⟨rfl, d', rfl⟩
  have h6 := h5.drewN d'
  go_wp2_with fail
  refine (rexpr_badk b s p p (ts ++ us) _ h6 (by simp; omega)).mono ?_
  rintro e w7 ⟨k', rfl, h7, k7⟩
  have k7 := k7.undrew
  have B7 := Bx.fr B5 k7 hqb r5
  have r7 := k7.rowNe r5 B5.lt
  have F7 := F5.trans k7
  clear B5 r5 F5 h5 h6
  have c7 := B7.c 3
  have f7 := B7.fz 3
  have B8 := B7.setB k'
  have h8 : St b s p (p : Int) (ts ++ us ++ [dummy]) (w7.setCell ⟨w.heap.size, 3, none⟩ (.int .i64 (k' : Int))) := h7.setFar hqb r7
  have F8 : Fr b w (w7.setCell ⟨w.heap.size, 3, none⟩ (.int .i64 (k' : Int))) := F7.setNew hqb (Nat.le_refl _)
  obtain ⟨d0, d1, d2, d3, d4, d5, d6, d7, d8⟩ := B8.all
  clear B7 B8 r7 F7 h7
  go_wp2_with fail
  refine (radd_any b s p (p : Int) (ts ++ us ++ [dummy]) _ ⟨64, chr s (i + 1), k, k', tat, 0⟩ h8 (by simp; omega)).mono ?_
  rintro e w9 ⟨rfl, h9, k9⟩
  clear d0 d1 d2 d3 d4 d5 d6 d7 d8
  go_wp2_with fail
  go_ret
  refine ⟨F8.trans k9, ?_⟩
  rw [HR.out]
  refine ⟨(ts ++ us ++ [dummy]).length, us ++ [dummy, ⟨64, chr s (i + 1), k, k', tat, 0⟩], ret_nat (by simp), ?_, by simp; omega⟩
  rw [app2]
  exact h9

set_option maxRecDepth 100000 in
set_option maxHeartbeats 4000000 in
theorem rwi_semi (b : Nat) (s : ByteArray) (n i tat : Nat) (ts : List Tm) (w : World) (h : St b s (i + 1) (-1) ts w) (hi : i + 1 ≤ s.size) (hs : s.size ≤ 1000) (hl : ts.length + 2 * (s.size - i) + 2 ≤ 900) (ih : RExpr b s n) (hn : 3 * (s.size - i) ≤ n + 2) (HC : Hid (isLet (chr s (i + 1)) = true)) (HD : Hid (chr s (i + 2) = 61)) (kd : Nat) (f : List UInt8) (j : Nat) (HQ : Hid (pr s n 0 (i + 3) 0 [] = .ok (kd, f, j))) (HE : Hid (chr s j ≠ 59)) :
    Calls Tryz.prog 75 #[.pointer (some ⟨b, 0, none⟩), .int .i64 (tat : Int)] w (RPost b s (ltOut s n (i + 1)) i ts w) := by
  have HR : Hid (ltOut s n (i + 1) = .error j) := by unfold Hid ltOut; simp only [HQ.out]; rw [if_pos HC.out, if_pos HD.out, if_neg HE.out]
  have hi2' : i + 2 < s.size := chr_in (by rw [HD.out]; decide)
  have pl := pr_places s _ _ _ _ _ _ _ _ HQ.out (by omega)
  have sm := pr_small s n (i + 3) kd f j HQ.out (by omega) hs
  have hj1 : i + 3 < j := by omega
  have hj2 : j ≤ s.size := pl.2
  clear pl
  have hi1 : i + 1 < s.size := chr_in (by intro e; have := HC.out; rw [e] at this; exact absurd this (by decide))
  have hi2 : i + 2 < s.size := chr_in (by rw [HD.out]; decide)
  have hcl := chr_lt s (i + 1)
  have hlt := h.lt
  have hqb : w.heap.size ≠ b := by omega
  have B0 := Bx.new ⟨64, 0, 0, 0, tat, 0⟩ w
  have F0 : Fr b w (w.alloc (.cells #[.int .u8 64, .int .u8 0, .int .i64 0, .int .i64 0, .slice none 0 0, .slice none 0 0, .slice none 0 0, .int .i64 (tat : Int), .int .i64 0] 76)) := (Fr.refl b w).alloc hlt _
  have r0 := rowNe_new h (.cells #[.int .u8 64, .int .u8 0, .int .i64 0, .int .i64 0, .slice none 0 0, .slice none 0 0, .slice none 0 0, .int .i64 (tat : Int), .int .i64 0] 76)
  have h0 := h.alloc (.cells #[.int .u8 64, .int .u8 0, .int .i64 0, .int .i64 0, .slice none 0 0, .slice none 0 0, .slice none 0 0, .int .i64 (tat : Int), .int .i64 0] 76)
  go_enter Tryz.func75, Tryz.ntmps75
  go_wp2_with fail
  refine (rletter_yes b s (i + 1) ts _ h0 (by omega) HC.out).mono ?_
  rintro e w1 ⟨rfl, h1, k1⟩
  have B1 := Bx.fr B0 k1 hqb r0
  have r1 := k1.rowNe r0 (by simp)
  have F1 := F0.trans k1
  clear B0 F0 r0 h0
  have c1 := B1.c 1
  have f1 := B1.fz 1
  have B2 := B1.setC (chr s (i + 1))
  have h2 : St b s (i + 2) (-1) ts (w1.setCell ⟨w.heap.size, 1, none⟩ (.int .u8 (chr s (i + 1) : Int))) := h1.setFar hqb r1
  have r2 : rowOf b (w1.setCell ⟨w.heap.size, 1, none⟩ (.int .u8 (chr s (i + 1) : Int))) ≠ some w.heap.size := rowNe_set hqb r1
  have F2 : Fr b w (w1.setCell ⟨w.heap.size, 1, none⟩ (.int .u8 (chr s (i + 1) : Int))) := F1.setNew hqb (Nat.le_refl _)
  have t2 := h2.c1
  clear B1 r1 F1 h1
  go_wp2_with fail
  refine (rmust_yes b s (i + 2) 61 ts _ h2 (by omega) HD.out (by decide)).mono ?_
  rintro e w3 ⟨rfl, h3, k3⟩
  have B3 := Bx.fr B2 k3 hqb r2
  have r3 := k3.rowNe r2 B2.lt
  have F3 := F2.trans k3
  clear B2 r2 F2 h2
  clear t2
  go_wp2_with fail
  refine (ih (i + 3) ts _ h3 (by omega) (by omega) (by omega)).mono ?_
  rintro e w4 ⟨k4, hp⟩
  rw [HQ.out] at hp
  obtain ⟨k, us, rfl, hkk, h4, hu, hfo⟩ := hp
  have B4 := Bx.fr B3 k4 hqb r3
  have r4 := k4.rowNe r3 B3.lt
  have F4 := F3.trans k4
  clear B3 r3 F3 h3
  have c4 := B4.c 2
  have f4 := B4.fz 2
  have B5 := B4.setA (k)
  have h5 : St b s j (-1) (ts ++ us) (w4.setCell ⟨w.heap.size, 2, none⟩ (.int .i64 (k : Int))) := h4.setFar hqb r4
  have r5 : rowOf b (w4.setCell ⟨w.heap.size, 2, none⟩ (.int .i64 (k : Int))) ≠ some w.heap.size := rowNe_set hqb r4
  have F5 : Fr b w (w4.setCell ⟨w.heap.size, 2, none⟩ (.int .i64 (k : Int))) := F4.setNew hqb (Nat.le_refl _)
  clear B4 r4 F4 h4
  go_wp2_with fail
  refine (rmust_no b s j 59 (ts ++ us) _ h5 (by omega) (by omega) HE.out (by decide)).mono ?_
  rintro e w6 ⟨rfl, h6, k6⟩
  have B6 := Bx.fr B5 k6 hqb r5
  have r6 := k6.rowNe r5 B5.lt
  have F6 := F5.trans k6
  clear B5 r5 F5 h5
  go_wp2_with fail
  refine (rexpr_badk b s j j (ts ++ us) _ h6 (by simp; omega)).mono ?_
  rintro e w7 ⟨k', rfl, h7, k7⟩
  have B7 := Bx.fr B6 k7 hqb r6
  have r7 := k7.rowNe r6 B6.lt
  have F7 := F6.trans k7
  clear B6 r6 F6 h6
  have c7 := B7.c 3
  have f7 := B7.fz 3
  have B8 := B7.setB k'
  have h8 : St b s j (j : Int) (ts ++ us ++ [dummy]) (w7.setCell ⟨w.heap.size, 3, none⟩ (.int .i64 (k' : Int))) := h7.setFar hqb r7
  have F8 : Fr b w (w7.setCell ⟨w.heap.size, 3, none⟩ (.int .i64 (k' : Int))) := F7.setNew hqb (Nat.le_refl _)
  obtain ⟨d0, d1, d2, d3, d4, d5, d6, d7, d8⟩ := B8.all
  clear B7 B8 r7 F7 h7
  go_wp2_with fail
  refine (radd_any b s j (j : Int) (ts ++ us ++ [dummy]) _ ⟨64, chr s (i + 1), k, k', tat, 0⟩ h8 (by simp; omega)).mono ?_
  rintro e w9 ⟨rfl, h9, k9⟩
  clear d0 d1 d2 d3 d4 d5 d6 d7 d8
  go_wp2_with fail
  go_ret
  refine ⟨F8.trans k9, ?_⟩
  rw [HR.out]
  refine ⟨(ts ++ us ++ [dummy]).length, us ++ [dummy, ⟨64, chr s (i + 1), k, k', tat, 0⟩], ret_nat (by simp), ?_, by simp; omega⟩
  rw [app2]
  exact h9

set_option maxRecDepth 100000 in
set_option maxHeartbeats 4000000 in
theorem rwi_err2 (b : Nat) (s : ByteArray) (n i tat : Nat) (ts : List Tm) (w : World) (h : St b s (i + 1) (-1) ts w) (hi : i + 1 ≤ s.size) (hs : s.size ≤ 1000) (hl : ts.length + 2 * (s.size - i) + 2 ≤ 900) (ih : RExpr b s n) (hn : 3 * (s.size - i) ≤ n + 2) (HC : Hid (isLet (chr s (i + 1)) = true)) (HD : Hid (chr s (i + 2) = 61)) (kd : Nat) (f : List UInt8) (j : Nat) (HQ : Hid (pr s n 0 (i + 3) 0 [] = .ok (kd, f, j))) (HE : Hid (chr s j = 59)) (p : Nat) (HS : Hid (pr s n 0 (j + 1) 0 [] = .error p)) :
    Calls Tryz.prog 75 #[.pointer (some ⟨b, 0, none⟩), .int .i64 (tat : Int)] w (RPost b s (ltOut s n (i + 1)) i ts w) := by
  have HR : Hid (ltOut s n (i + 1) = .error p) := by unfold Hid ltOut; simp only [HQ.out]; rw [if_pos HC.out, if_pos HD.out, if_pos HE.out, HS.out]
  have hi2' : i + 2 < s.size := chr_in (by rw [HD.out]; decide)
  have pl := pr_places s _ _ _ _ _ _ _ _ HQ.out (by omega)
  have sm := pr_small s n (i + 3) kd f j HQ.out (by omega) hs
  have hj1 : i + 3 < j := by omega
  have hj2 : j ≤ s.size := pl.2
  clear pl
  have hj4 : j < s.size := chr_in (by rw [HE.out]; decide)
  have hi1 : i + 1 < s.size := chr_in (by intro e; have := HC.out; rw [e] at this; exact absurd this (by decide))
  have hi2 : i + 2 < s.size := chr_in (by rw [HD.out]; decide)
  have hcl := chr_lt s (i + 1)
  have hlt := h.lt
  have hqb : w.heap.size ≠ b := by omega
  have B0 := Bx.new ⟨64, 0, 0, 0, tat, 0⟩ w
  have F0 : Fr b w (w.alloc (.cells #[.int .u8 64, .int .u8 0, .int .i64 0, .int .i64 0, .slice none 0 0, .slice none 0 0, .slice none 0 0, .int .i64 (tat : Int), .int .i64 0] 76)) := (Fr.refl b w).alloc hlt _
  have r0 := rowNe_new h (.cells #[.int .u8 64, .int .u8 0, .int .i64 0, .int .i64 0, .slice none 0 0, .slice none 0 0, .slice none 0 0, .int .i64 (tat : Int), .int .i64 0] 76)
  have h0 := h.alloc (.cells #[.int .u8 64, .int .u8 0, .int .i64 0, .int .i64 0, .slice none 0 0, .slice none 0 0, .slice none 0 0, .int .i64 (tat : Int), .int .i64 0] 76)
  go_enter Tryz.func75, Tryz.ntmps75
  go_wp2_with fail
  refine (rletter_yes b s (i + 1) ts _ h0 (by omega) HC.out).mono ?_
  rintro e w1 ⟨rfl, h1, k1⟩
  have B1 := Bx.fr B0 k1 hqb r0
  have r1 := k1.rowNe r0 (by simp)
  have F1 := F0.trans k1
  clear B0 F0 r0 h0
  have c1 := B1.c 1
  have f1 := B1.fz 1
  have B2 := B1.setC (chr s (i + 1))
  have h2 : St b s (i + 2) (-1) ts (w1.setCell ⟨w.heap.size, 1, none⟩ (.int .u8 (chr s (i + 1) : Int))) := h1.setFar hqb r1
  have r2 : rowOf b (w1.setCell ⟨w.heap.size, 1, none⟩ (.int .u8 (chr s (i + 1) : Int))) ≠ some w.heap.size := rowNe_set hqb r1
  have F2 : Fr b w (w1.setCell ⟨w.heap.size, 1, none⟩ (.int .u8 (chr s (i + 1) : Int))) := F1.setNew hqb (Nat.le_refl _)
  have t2 := h2.c1
  clear B1 r1 F1 h1
  go_wp2_with fail
  refine (rmust_yes b s (i + 2) 61 ts _ h2 (by omega) HD.out (by decide)).mono ?_
  rintro e w3 ⟨rfl, h3, k3⟩
  have B3 := Bx.fr B2 k3 hqb r2
  have r3 := k3.rowNe r2 B2.lt
  have F3 := F2.trans k3
  clear B2 r2 F2 h2
  clear t2
  go_wp2_with fail
  refine (ih (i + 3) ts _ h3 (by omega) (by omega) (by omega)).mono ?_
  rintro e w4 ⟨k4, hp⟩
  rw [HQ.out] at hp
  obtain ⟨k, us, rfl, hkk, h4, hu, hfo⟩ := hp
  have B4 := Bx.fr B3 k4 hqb r3
  have r4 := k4.rowNe r3 B3.lt
  have F4 := F3.trans k4
  clear B3 r3 F3 h3
  have c4 := B4.c 2
  have f4 := B4.fz 2
  have B5 := B4.setA (k)
  have h5 : St b s j (-1) (ts ++ us) (w4.setCell ⟨w.heap.size, 2, none⟩ (.int .i64 (k : Int))) := h4.setFar hqb r4
  have r5 : rowOf b (w4.setCell ⟨w.heap.size, 2, none⟩ (.int .i64 (k : Int))) ≠ some w.heap.size := rowNe_set hqb r4
  have F5 : Fr b w (w4.setCell ⟨w.heap.size, 2, none⟩ (.int .i64 (k : Int))) := F4.setNew hqb (Nat.le_refl _)
  clear B4 r4 F4 h4
  go_wp2_with fail
  refine (rmust_yes b s j 59 (ts ++ us) _ h5 (by omega) HE.out (by decide)).mono ?_
  rintro e w6 ⟨rfl, h6, k6⟩
  have B6 := Bx.fr B5 k6 hqb r5
  have r6 := k6.rowNe r5 B5.lt
  have F6 := F5.trans k6
  clear B5 r5 F5 h5
  go_wp2_with fail
  refine (ih (j + 1) (ts ++ us) _ h6 (by omega) (by omega) (by simp; omega)).mono ?_
  rintro e w7 ⟨k7, hp⟩
  rw [HS.out] at hp
  obtain ⟨k', us', rfl, h7, hu'⟩ := hp
  have B7 := Bx.fr B6 k7 hqb r6
  have r7 := k7.rowNe r6 B6.lt
  have F7 := F6.trans k7
  clear B6 r6 F6 h6
  have c7 := B7.c 3
  have f7 := B7.fz 3
  have B8 := B7.setB (k')
  have h8 : St b s p (p : Int) (ts ++ us ++ us') (w7.setCell ⟨w.heap.size, 3, none⟩ (.int .i64 (k' : Int))) := h7.setFar hqb r7
  have F8 : Fr b w (w7.setCell ⟨w.heap.size, 3, none⟩ (.int .i64 (k' : Int))) := F7.setNew hqb (Nat.le_refl _)
  obtain ⟨d0, d1, d2, d3, d4, d5, d6, d7, d8⟩ := B8.all
  clear B7 B8 r7 F7 h7
  go_wp2_with fail
  refine (radd_any b s p (p : Int) (ts ++ us ++ us') _ ⟨64, chr s (i + 1), k, k', tat, 0⟩ h8 (by simp; omega)).mono ?_
  rintro e w9 ⟨rfl, h9, k9⟩
  clear d0 d1 d2 d3 d4 d5 d6 d7 d8
  go_wp2_with fail
  go_ret
  refine ⟨F8.trans k9, ?_⟩
  rw [HR.out]
  refine ⟨(ts ++ us ++ us').length, us ++ us' ++ [⟨64, chr s (i + 1), k, k', tat, 0⟩], ret_nat (by simp), ?_, by simp; omega⟩
  rw [app1]
  exact h9

set_option maxRecDepth 100000 in
set_option maxHeartbeats 4000000 in
theorem rwi_ok (b : Nat) (s : ByteArray) (n i tat : Nat) (ts : List Tm) (w : World) (h : St b s (i + 1) (-1) ts w) (hi : i + 1 ≤ s.size) (hs : s.size ≤ 1000) (hl : ts.length + 2 * (s.size - i) + 2 ≤ 900) (ih : RExpr b s n) (hn : 3 * (s.size - i) ≤ n + 2) (HC : Hid (isLet (chr s (i + 1)) = true)) (HD : Hid (chr s (i + 2) = 61)) (kd : Nat) (f : List UInt8) (j : Nat) (HQ : Hid (pr s n 0 (i + 3) 0 [] = .ok (kd, f, j))) (HE : Hid (chr s j = 59)) (kd' : Nat) (f' : List UInt8) (l : Nat) (HS : Hid (pr s n 0 (j + 1) 0 [] = .ok (kd', f', l))) :
    Calls Tryz.prog 75 #[.pointer (some ⟨b, 0, none⟩), .int .i64 (tat : Int)] w (RPost b s (ltOut s n (i + 1)) i ts w) := by
  have HR : Hid (ltOut s n (i + 1) = .ok (2, 64 :: u8 (chr s (i + 1)) :: 61 :: (f ++ 59 :: f'), l)) := by unfold Hid ltOut; simp only [HQ.out]; rw [if_pos HC.out, if_pos HD.out, if_pos HE.out, HS.out]
  have hi2' : i + 2 < s.size := chr_in (by rw [HD.out]; decide)
  have pl := pr_places s _ _ _ _ _ _ _ _ HQ.out (by omega)
  have sm := pr_small s n (i + 3) kd f j HQ.out (by omega) hs
  have hj1 : i + 3 < j := by omega
  have hj2 : j ≤ s.size := pl.2
  clear pl
  have hj4 : j < s.size := chr_in (by rw [HE.out]; decide)
  have pl := pr_places s _ _ _ _ _ _ _ _ HS.out (by omega)
  have sm' := pr_small s n (j + 1) kd' f' l HS.out (by omega) hs
  have hl1 : j + 1 < l := by omega
  have hl2 : l ≤ s.size := pl.2
  clear pl
  have hi1 : i + 1 < s.size := chr_in (by intro e; have := HC.out; rw [e] at this; exact absurd this (by decide))
  have hi2 : i + 2 < s.size := chr_in (by rw [HD.out]; decide)
  have hcl := chr_lt s (i + 1)
  have hlt := h.lt
  have hqb : w.heap.size ≠ b := by omega
  have B0 := Bx.new ⟨64, 0, 0, 0, tat, 0⟩ w
  have F0 : Fr b w (w.alloc (.cells #[.int .u8 64, .int .u8 0, .int .i64 0, .int .i64 0, .slice none 0 0, .slice none 0 0, .slice none 0 0, .int .i64 (tat : Int), .int .i64 0] 76)) := (Fr.refl b w).alloc hlt _
  have r0 := rowNe_new h (.cells #[.int .u8 64, .int .u8 0, .int .i64 0, .int .i64 0, .slice none 0 0, .slice none 0 0, .slice none 0 0, .int .i64 (tat : Int), .int .i64 0] 76)
  have h0 := h.alloc (.cells #[.int .u8 64, .int .u8 0, .int .i64 0, .int .i64 0, .slice none 0 0, .slice none 0 0, .slice none 0 0, .int .i64 (tat : Int), .int .i64 0] 76)
  go_enter Tryz.func75, Tryz.ntmps75
  go_wp2_with fail
  refine (rletter_yes b s (i + 1) ts _ h0 (by omega) HC.out).mono ?_
  rintro e w1 ⟨rfl, h1, k1⟩
  have B1 := Bx.fr B0 k1 hqb r0
  have r1 := k1.rowNe r0 (by simp)
  have F1 := F0.trans k1
  clear B0 F0 r0 h0
  have c1 := B1.c 1
  have f1 := B1.fz 1
  have B2 := B1.setC (chr s (i + 1))
  have h2 : St b s (i + 2) (-1) ts (w1.setCell ⟨w.heap.size, 1, none⟩ (.int .u8 (chr s (i + 1) : Int))) := h1.setFar hqb r1
  have r2 : rowOf b (w1.setCell ⟨w.heap.size, 1, none⟩ (.int .u8 (chr s (i + 1) : Int))) ≠ some w.heap.size := rowNe_set hqb r1
  have F2 : Fr b w (w1.setCell ⟨w.heap.size, 1, none⟩ (.int .u8 (chr s (i + 1) : Int))) := F1.setNew hqb (Nat.le_refl _)
  have t2 := h2.c1
  clear B1 r1 F1 h1
  go_wp2_with fail
  refine (rmust_yes b s (i + 2) 61 ts _ h2 (by omega) HD.out (by decide)).mono ?_
  rintro e w3 ⟨rfl, h3, k3⟩
  have B3 := Bx.fr B2 k3 hqb r2
  have r3 := k3.rowNe r2 B2.lt
  have F3 := F2.trans k3
  clear B2 r2 F2 h2
  clear t2
  go_wp2_with fail
  refine (ih (i + 3) ts _ h3 (by omega) (by omega) (by omega)).mono ?_
  rintro e w4 ⟨k4, hp⟩
  rw [HQ.out] at hp
  obtain ⟨k, us, rfl, hkk, h4, hu, hfo⟩ := hp
  have B4 := Bx.fr B3 k4 hqb r3
  have r4 := k4.rowNe r3 B3.lt
  have F4 := F3.trans k4
  clear B3 r3 F3 h3
  have c4 := B4.c 2
  have f4 := B4.fz 2
  have B5 := B4.setA (k)
  have h5 : St b s j (-1) (ts ++ us) (w4.setCell ⟨w.heap.size, 2, none⟩ (.int .i64 (k : Int))) := h4.setFar hqb r4
  have r5 : rowOf b (w4.setCell ⟨w.heap.size, 2, none⟩ (.int .i64 (k : Int))) ≠ some w.heap.size := rowNe_set hqb r4
  have F5 : Fr b w (w4.setCell ⟨w.heap.size, 2, none⟩ (.int .i64 (k : Int))) := F4.setNew hqb (Nat.le_refl _)
  clear B4 r4 F4 h4
  go_wp2_with fail
  refine (rmust_yes b s j 59 (ts ++ us) _ h5 (by omega) HE.out (by decide)).mono ?_
  rintro e w6 ⟨rfl, h6, k6⟩
  have B6 := Bx.fr B5 k6 hqb r5
  have r6 := k6.rowNe r5 B5.lt
  have F6 := F5.trans k6
  clear B5 r5 F5 h5
  go_wp2_with fail
  refine (ih (j + 1) (ts ++ us) _ h6 (by omega) (by omega) (by simp; omega)).mono ?_
  rintro e w7 ⟨k7, hp⟩
  rw [HS.out] at hp
  obtain ⟨k', us', rfl, hkk', h7, hu', hfo'⟩ := hp
  have B7 := Bx.fr B6 k7 hqb r6
  have r7 := k7.rowNe r6 B6.lt
  have F7 := F6.trans k7
  clear B6 r6 F6 h6
  have c7 := B7.c 3
  have f7 := B7.fz 3
  have B8 := B7.setB (k')
  have h8 : St b s l (-1) (ts ++ us ++ us') (w7.setCell ⟨w.heap.size, 3, none⟩ (.int .i64 (k' : Int))) := h7.setFar hqb r7
  have F8 : Fr b w (w7.setCell ⟨w.heap.size, 3, none⟩ (.int .i64 (k' : Int))) := F7.setNew hqb (Nat.le_refl _)
  obtain ⟨d0, d1, d2, d3, d4, d5, d6, d7, d8⟩ := B8.all
  clear B7 B8 r7 F7 h7
  go_wp2_with fail
  refine (radd_any b s l (-1) (ts ++ us ++ us') _ ⟨64, chr s (i + 1), k, k', tat, 0⟩ h8 (by simp; omega)).mono ?_
  rintro e w9 ⟨rfl, h9, k9⟩
  clear d0 d1 d2 d3 d4 d5 d6 d7 d8
  go_wp2_with fail
  go_ret
  refine ⟨F8.trans k9, ?_⟩
  rw [HR.out]
  refine ⟨(ts ++ us ++ us').length, us ++ us' ++ [⟨64, chr s (i + 1), k, k', tat, 0⟩], ret_nat (by simp), by simp; omega, ?_, by simp; omega, ?_⟩
  · rw [app1]
    exact h9
  · rw [app1]
    exact Fo.lt' (ts ++ us ++ us') (chr s (i + 1)) k k' tat 0 kd kd' f f' hcl (hfo.more us') hfo' (by omega)

theorem rwithin_any (b : Nat) (s : ByteArray) (n i tat : Nat) (ts : List Tm) (w : World) (ih : RExpr b s n) (h : St b s (i + 1) (-1) ts w) (hi : i + 1 ≤ s.size) (hs : s.size ≤ 1000) (hn : 3 * (s.size - i) ≤ n + 2) (hl : ts.length + 2 * (s.size - i) + 2 ≤ 900) :
    Calls Tryz.prog 75 #[.pointer (some ⟨b, 0, none⟩), .int .i64 (tat : Int)] w (RPost b s (ltOut s n (i + 1)) i ts w) := by
  cases hc : isLet (chr s (i + 1))
  · exact rwi_letter b s n i tat ts w h hi hs hl hc
  · by_cases hd : chr s (i + 2) = 61
    · cases hq : pr s n 0 (i + 3) 0 [] with
      | error p => exact rwi_err b s n i tat ts w h hi hs hl ih hn hc hd p hq
      | ok r =>
        obtain ⟨kd, f, j⟩ := r
        by_cases he : chr s j = 59
        · cases hq2 : pr s n 0 (j + 1) 0 [] with
          | error p => exact rwi_err2 b s n i tat ts w h hi hs hl ih hn hc hd kd f j hq he p hq2
          | ok r => obtain ⟨kd', f', l⟩ := r; exact rwi_ok b s n i tat ts w h hi hs hl ih hn hc hd kd f j hq he kd' f' l hq2
        · exact rwi_semi b s n i tat ts w h hi hs hl ih hn hc hd kd f j hq he
    · exact rwi_must b s n i tat ts w h hi hs hl hc hd
end Go.Proofs.YtceadeaodbadlaaGreatDoor
