import Derived.Test.YtceadeaodbadlaaGreatDoorRefW
set_option linter.unusedVariables false
set_option linter.unusedSimpArgs false
namespace Go.Proofs.YtceadeaodbadlaaGreatDoor
open Go.RowKit

set_option maxRecDepth 100000 in
set_option maxHeartbeats 4000000 in
theorem rat_none (b : Nat) (s : ByteArray) (n i : Nat) (ts : List Tm) (w : World) (h : St b s i (-1) ts w) (hi : i ≤ s.size) (hs : s.size ≤ 1000) (hl : ts.length + 2 * (s.size - i) + 2 ≤ 900) (HB : Hid (begins (chr s i) = false)) :
    Calls Tryz.prog 76 #[.pointer (some ⟨b, 0, none⟩)] w (RPost b s (pr s (n + 1) 2 i 0 []) i ts w) := by
  have HR : Hid (pr s (n + 1) 2 i 0 [] = .error i) := atom_none s n i HB.out
  go_enter Tryz.func76, Tryz.ntmps76
  go_wp2_with fail
  refine (rstarts_any b s i ts w h hi (by omega)).mono ?_
  rintro e w1 ⟨rfl, d1, rfl⟩
  rw [HB.out]
  go_wp2_with fail
  refine (rfail_new b s i ts _ (h.drewN d1)).mono ?_
  rintro e w2 ⟨rfl, h2, k2⟩
  have F2 := k2.undrew
  go_wp2_with fail
  refine (radd_any b s i i ts _ dummy h2 (by omega)).mono ?_
  rintro e w3 ⟨rfl, h3, k3⟩
  go_wp2_with fail
  go_ret
  refine ⟨F2.trans k3, ?_⟩
  rw [HR.out]
  exact ⟨ts.length, [dummy], rfl, h3, by simp⟩

set_option maxRecDepth 100000 in
set_option maxHeartbeats 4000000 in
theorem rat_err (b : Nat) (s : ByteArray) (n i : Nat) (ts : List Tm) (w : World) (h : St b s i (-1) ts w) (hi : i ≤ s.size) (hs : s.size ≤ 1000) (hl : ts.length + 2 * (s.size - i) + 2 ≤ 900) (ih : RExpr b s n) (hn : 3 * (s.size - i) + 1 ≤ n + 1) (HB : Hid (begins (chr s i) = true)) (H40 : Hid (chr s i = 40)) (p : Nat) (HQ : Hid (pr s n 0 (i + 1) 0 [] = .error p)) :
    Calls Tryz.prog 76 #[.pointer (some ⟨b, 0, none⟩)] w (RPost b s (pr s (n + 1) 2 i 0 []) i ts w) := by
  have HR : Hid (pr s (n + 1) 2 i 0 [] = .error p) := by unfold Hid; rw [atom_step s n i HB.out H40.out, clOut, HQ.out]
  have hi1 : i < s.size := chr_in (by rw [H40.out]; decide)
  go_enter Tryz.func76, Tryz.ntmps76
  go_wp2_with fail
  refine (rstarts_any b s i ts w h hi (by omega)).mono ?_
  rintro e w1 ⟨rfl, d1, rfl⟩
  rw [HB.out]
  go_wp2_with fail
  refine (rgot_yes b s i 40 ts _ (h.drewN d1) (by omega) H40.out (by decide)).mono ?_
  rintro e w2 ⟨rfl, h2, k2⟩
  have F2 := k2.undrew
  clear k2
  go_wp2_with fail
  refine (ih (i + 1) ts _ h2 (by omega) (by omega) (by omega)).mono ?_
  rintro e w3 ⟨k3, hp⟩
  rw [HQ.out] at hp
  have F3 := F2.trans k3
  clear k3 F2 h2
  obtain ⟨k, us, rfl, h3, hu⟩ := hp
  go_wp2_with fail
  refine (rmust_bad b s p p 41 _ _ h3).mono ?_
  rintro e w4 ⟨rfl, d4, rfl⟩
  go_wp2_with fail
  go_ret
  refine ⟨F3.drewN d4, ?_⟩
  rw [HR.out]
  exact ⟨k, us, rfl, h3.drewN d4, by omega⟩

set_option maxRecDepth 100000 in
set_option maxHeartbeats 4000000 in
theorem rat_close (b : Nat) (s : ByteArray) (n i : Nat) (ts : List Tm) (w : World) (h : St b s i (-1) ts w) (hi : i ≤ s.size) (hs : s.size ≤ 1000) (hl : ts.length + 2 * (s.size - i) + 2 ≤ 900) (ih : RExpr b s n) (hn : 3 * (s.size - i) + 1 ≤ n + 1) (HB : Hid (begins (chr s i) = true)) (H40 : Hid (chr s i = 40)) (kd : Nat) (f : List UInt8) (j : Nat) (HQ : Hid (pr s n 0 (i + 1) 0 [] = .ok (kd, f, j))) (HE : Hid (chr s j ≠ 41)) :
    Calls Tryz.prog 76 #[.pointer (some ⟨b, 0, none⟩)] w (RPost b s (pr s (n + 1) 2 i 0 []) i ts w) := by
  have HR : Hid (pr s (n + 1) 2 i 0 [] = .error j) := by unfold Hid; rw [atom_step s n i HB.out H40.out, clOut, HQ.out]; exact if_neg HE.out
  have hi1' : i < s.size := chr_in (by rw [H40.out]; decide)
  have pl := pr_places s _ _ _ _ _ _ _ _ HQ.out (by omega)
  have hj1 : i + 1 < j := by omega
  have hj2 : j ≤ s.size := pl.2
  clear pl
  have hi1 : i < s.size := chr_in (by rw [H40.out]; decide)
  go_enter Tryz.func76, Tryz.ntmps76
  go_wp2_with fail
  refine (rstarts_any b s i ts w h hi (by omega)).mono ?_
  rintro e w1 ⟨rfl, d1, rfl⟩
  rw [HB.out]
  go_wp2_with fail
  refine (rgot_yes b s i 40 ts _ (h.drewN d1) (by omega) H40.out (by decide)).mono ?_
  rintro e w2 ⟨rfl, h2, k2⟩
  have F2 := k2.undrew
  clear k2
  go_wp2_with fail
  refine (ih (i + 1) ts _ h2 (by omega) (by omega) (by omega)).mono ?_
  rintro e w3 ⟨k3, hp⟩
  rw [HQ.out] at hp
  have F3 := F2.trans k3
  clear k3 F2 h2
  obtain ⟨k, us, rfl, hkk, h3, hu, hfo⟩ := hp
  go_wp2_with fail
  refine (rmust_no b s j 41 _ _ h3 hj2 (by omega) HE.out (by decide)).mono ?_
  rintro e w4 ⟨rfl, h4, k4⟩
  go_wp2_with fail
  go_ret
  refine ⟨F3.trans k4, ?_⟩
  rw [HR.out]
  exact ⟨k, us, rfl, h4, by omega⟩

set_option maxRecDepth 100000 in
set_option maxHeartbeats 4000000 in
theorem rat_ok (b : Nat) (s : ByteArray) (n i : Nat) (ts : List Tm) (w : World) (h : St b s i (-1) ts w) (hi : i ≤ s.size) (hs : s.size ≤ 1000) (hl : ts.length + 2 * (s.size - i) + 2 ≤ 900) (ih : RExpr b s n) (hn : 3 * (s.size - i) + 1 ≤ n + 1) (HB : Hid (begins (chr s i) = true)) (H40 : Hid (chr s i = 40)) (kd : Nat) (f : List UInt8) (j : Nat) (HQ : Hid (pr s n 0 (i + 1) 0 [] = .ok (kd, f, j))) (HE : Hid (chr s j = 41)) :
    Calls Tryz.prog 76 #[.pointer (some ⟨b, 0, none⟩)] w (RPost b s (pr s (n + 1) 2 i 0 []) i ts w) := by
  have HR : Hid (pr s (n + 1) 2 i 0 [] = .ok (kd, f, j + 1)) := by unfold Hid; rw [atom_step s n i HB.out H40.out, clOut, HQ.out]; exact if_pos HE.out
  have hi1' : i < s.size := chr_in (by rw [H40.out]; decide)
  have pl := pr_places s _ _ _ _ _ _ _ _ HQ.out (by omega)
  have hj1 : i + 1 < j := by omega
  have hj2 : j ≤ s.size := pl.2
  clear pl
  have hi1 : i < s.size := chr_in (by rw [H40.out]; decide)
  go_enter Tryz.func76, Tryz.ntmps76
  go_wp2_with fail
  refine (rstarts_any b s i ts w h hi (by omega)).mono ?_
  rintro e w1 ⟨rfl, d1, rfl⟩
  rw [HB.out]
  go_wp2_with fail
  refine (rgot_yes b s i 40 ts _ (h.drewN d1) (by omega) H40.out (by decide)).mono ?_
  rintro e w2 ⟨rfl, h2, k2⟩
  have F2 := k2.undrew
  clear k2
  go_wp2_with fail
  refine (ih (i + 1) ts _ h2 (by omega) (by omega) (by omega)).mono ?_
  rintro e w3 ⟨k3, hp⟩
  rw [HQ.out] at hp
  have F3 := F2.trans k3
  clear k3 F2 h2
  obtain ⟨k, us, rfl, hkk, h3, hu, hfo⟩ := hp
  go_wp2_with fail
  refine (rmust_yes b s j 41 _ _ h3 (by omega) HE.out (by decide)).mono ?_
  rintro e w4 ⟨rfl, h4, k4⟩
  go_wp2_with fail
  go_ret
  refine ⟨F3.trans k4, ?_⟩
  rw [HR.out]
  exact ⟨k, us, rfl, hkk, h4, by omega, hfo⟩

set_option maxRecDepth 100000 in
set_option maxHeartbeats 4000000 in
theorem rat_digit (b : Nat) (s : ByteArray) (n i : Nat) (ts : List Tm) (w : World) (h : St b s i (-1) ts w) (hi : i ≤ s.size) (hs : s.size ≤ 1000) (hl : ts.length + 2 * (s.size - i) + 2 ≤ 900) (HB : Hid (begins (chr s i) = true)) (H40 : Hid (chr s i ≠ 40)) (hL : 48 ≤ chr s i ∧ chr s i ≤ 57) :
    Calls Tryz.prog 76 #[.pointer (some ⟨b, 0, none⟩)] w (RPost b s (pr s (n + 1) 2 i 0 []) i ts w) := by
  have HR : Hid (pr s (n + 1) 2 i 0 [] = .ok (0, [u8 (chr s i)], i + 1)) := atom_one s n i HB.out H40.out
  have hi1 : i < s.size := chr_in (begins_ne HB.out)
  have hcl := chr_lt s i
  have hlt := h.lt
  go_enter Tryz.func76, Tryz.ntmps76
  go_wp2_with fail
  refine (rstarts_any b s i ts w h hi (by omega)).mono ?_
  rintro e w1 ⟨rfl, d1, rfl⟩
  rw [HB.out]
  go_wp2_with fail
  refine (rgot_no b s i 40 ts _ (h.drewN d1) hi (by omega) H40.out (by decide)).mono ?_
  rintro e w2 ⟨rfl, d2, rfl⟩
  have hcs : s[i].toNat = chr s i := chr_at hi1
  generalize chr s i = c at *
  have c0 := h.c0
  have c2 := h.c2
  have f2 := h.fz 2
  have d1' : decide ((48 : Int) ≤ (c : Int)) = true := by simp; omega
  have d2' : decide ((c : Int) ≤ 57) = true := by simp; omega
  clear hL
  go_wp2_with fail
  go_quiet (fail)
  have h3 := h.next (d1 + d2 + nq)
  have F3 : Fr b w ((w.drewN (d1 + d2 + nq)).setCell ⟨b, 2, none⟩ (.int .i64 ((i : Int) + 1))) := ((Fr.refl b w).drewN (d1 + d2 + nq)).setR 2 (by decide) _
  go_wp2_with fail
  refine (radd_any b s (i + 1) (-1) ts _ ⟨48, c, 0, 0, i, 0⟩ h3 (by omega)).mono ?_
  rintro e w4 ⟨rfl, h4, k4⟩
  go_wp2_with fail
  go_ret
  refine ⟨F3.trans k4, ?_⟩
  rw [HR.out]
  exact ⟨ts.length, [⟨48, c, 0, 0, i, 0⟩], rfl, by simp, h4, by simp, Fo.atom ts 48 c 0 0 i 0 (.inr rfl) hcl⟩

set_option maxRecDepth 100000 in
set_option maxHeartbeats 4000000 in
theorem rat_84 (b : Nat) (s : ByteArray) (n i : Nat) (ts : List Tm) (w : World) (h : St b s i (-1) ts w) (hi : i ≤ s.size) (hs : s.size ≤ 1000) (hl : ts.length + 2 * (s.size - i) + 2 ≤ 900) (HB : Hid (begins (chr s i) = true)) (H40 : Hid (chr s i ≠ 40)) (hL : chr s i = 84) :
    Calls Tryz.prog 76 #[.pointer (some ⟨b, 0, none⟩)] w (RPost b s (pr s (n + 1) 2 i 0 []) i ts w) := by
  have HR : Hid (pr s (n + 1) 2 i 0 [] = .ok (0, [u8 (chr s i)], i + 1)) := atom_one s n i HB.out H40.out
  have hi1 : i < s.size := chr_in (begins_ne HB.out)
  have hcl := chr_lt s i
  have hlt := h.lt
  go_enter Tryz.func76, Tryz.ntmps76
  go_wp2_with fail
  refine (rstarts_any b s i ts w h hi (by omega)).mono ?_
  rintro e w1 ⟨rfl, d1, rfl⟩
  rw [HB.out]
  go_wp2_with fail
  refine (rgot_no b s i 40 ts _ (h.drewN d1) hi (by omega) H40.out (by decide)).mono ?_
  rintro e w2 ⟨rfl, d2, rfl⟩
  have hcs : s[i].toNat = chr s i := chr_at hi1
  generalize chr s i = c at *
  have c0 := h.c0
  have c2 := h.c2
  have f2 := h.fz 2
  subst hL
  go_wp2_with fail
  go_quiet (fail)
  have h3 := h.next (d1 + d2 + nq)
  have F3 : Fr b w ((w.drewN (d1 + d2 + nq)).setCell ⟨b, 2, none⟩ (.int .i64 ((i : Int) + 1))) := ((Fr.refl b w).drewN (d1 + d2 + nq)).setR 2 (by decide) _
  go_wp2_with fail
  refine (radd_any b s (i + 1) (-1) ts _ ⟨48, 84, 0, 0, i, 0⟩ h3 (by omega)).mono ?_
  rintro e w4 ⟨rfl, h4, k4⟩
  go_wp2_with fail
  go_ret
  refine ⟨F3.trans k4, ?_⟩
  rw [HR.out]
  exact ⟨ts.length, [⟨48, 84, 0, 0, i, 0⟩], rfl, by simp, h4, by simp, Fo.atom ts 48 84 0 0 i 0 (.inr rfl) hcl⟩

set_option maxRecDepth 100000 in
set_option maxHeartbeats 4000000 in
theorem rat_70 (b : Nat) (s : ByteArray) (n i : Nat) (ts : List Tm) (w : World) (h : St b s i (-1) ts w) (hi : i ≤ s.size) (hs : s.size ≤ 1000) (hl : ts.length + 2 * (s.size - i) + 2 ≤ 900) (HB : Hid (begins (chr s i) = true)) (H40 : Hid (chr s i ≠ 40)) (hL : chr s i = 70) :
    Calls Tryz.prog 76 #[.pointer (some ⟨b, 0, none⟩)] w (RPost b s (pr s (n + 1) 2 i 0 []) i ts w) := by
  have HR : Hid (pr s (n + 1) 2 i 0 [] = .ok (0, [u8 (chr s i)], i + 1)) := atom_one s n i HB.out H40.out
  have hi1 : i < s.size := chr_in (begins_ne HB.out)
  have hcl := chr_lt s i
  have hlt := h.lt
  go_enter Tryz.func76, Tryz.ntmps76
  go_wp2_with fail
  refine (rstarts_any b s i ts w h hi (by omega)).mono ?_
  rintro e w1 ⟨rfl, d1, rfl⟩
  rw [HB.out]
  go_wp2_with fail
  refine (rgot_no b s i 40 ts _ (h.drewN d1) hi (by omega) H40.out (by decide)).mono ?_
  rintro e w2 ⟨rfl, d2, rfl⟩
  have hcs : s[i].toNat = chr s i := chr_at hi1
  generalize chr s i = c at *
  have c0 := h.c0
  have c2 := h.c2
  have f2 := h.fz 2
  subst hL
  go_wp2_with fail
  go_quiet (fail)
  have h3 := h.next (d1 + d2 + nq)
  have F3 : Fr b w ((w.drewN (d1 + d2 + nq)).setCell ⟨b, 2, none⟩ (.int .i64 ((i : Int) + 1))) := ((Fr.refl b w).drewN (d1 + d2 + nq)).setR 2 (by decide) _
  go_wp2_with fail
  refine (radd_any b s (i + 1) (-1) ts _ ⟨48, 70, 0, 0, i, 0⟩ h3 (by omega)).mono ?_
  rintro e w4 ⟨rfl, h4, k4⟩
  go_wp2_with fail
  go_ret
  refine ⟨F3.trans k4, ?_⟩
  rw [HR.out]
  exact ⟨ts.length, [⟨48, 70, 0, 0, i, 0⟩], rfl, by simp, h4, by simp, Fo.atom ts 48 70 0 0 i 0 (.inr rfl) hcl⟩

set_option maxRecDepth 100000 in
set_option maxHeartbeats 4000000 in
theorem rat_name (b : Nat) (s : ByteArray) (n i : Nat) (ts : List Tm) (w : World) (h : St b s i (-1) ts w) (hi : i ≤ s.size) (hs : s.size ≤ 1000) (hl : ts.length + 2 * (s.size - i) + 2 ≤ 900) (HB : Hid (begins (chr s i) = true)) (H40 : Hid (chr s i ≠ 40)) (hL : 65 ≤ chr s i) (h84 : chr s i ≠ 84) (h70 : chr s i ≠ 70) :
    Calls Tryz.prog 76 #[.pointer (some ⟨b, 0, none⟩)] w (RPost b s (pr s (n + 1) 2 i 0 []) i ts w) := by
  have HR : Hid (pr s (n + 1) 2 i 0 [] = .ok (0, [u8 (chr s i)], i + 1)) := atom_one s n i HB.out H40.out
  have hi1 : i < s.size := chr_in (begins_ne HB.out)
  have hcl := chr_lt s i
  have hlt := h.lt
  go_enter Tryz.func76, Tryz.ntmps76
  go_wp2_with fail
  refine (rstarts_any b s i ts w h hi (by omega)).mono ?_
  rintro e w1 ⟨rfl, d1, rfl⟩
  rw [HB.out]
  go_wp2_with fail
  refine (rgot_no b s i 40 ts _ (h.drewN d1) hi (by omega) H40.out (by decide)).mono ?_
  rintro e w2 ⟨rfl, d2, rfl⟩
  have hcs : s[i].toNat = chr s i := chr_at hi1
  generalize chr s i = c at *
  have c0 := h.c0
  have c2 := h.c2
  have f2 := h.fz 2
  have d1' : decide ((48 : Int) ≤ (c : Int)) = true := by simp; omega
  have d2' : decide ((c : Int) ≤ 57) = false := by simp; omega
  have d3' : ((c : Int) == 84) = false := by rw [beq_eq_false_iff_ne]; omega
  have d4' : ((c : Int) == 70) = false := by rw [beq_eq_false_iff_ne]; omega
  clear h84 h70
  go_wp2_with fail
  go_quiet (fail)
  have h3 := h.next (d1 + d2 + nq)
  have F3 : Fr b w ((w.drewN (d1 + d2 + nq)).setCell ⟨b, 2, none⟩ (.int .i64 ((i : Int) + 1))) := ((Fr.refl b w).drewN (d1 + d2 + nq)).setR 2 (by decide) _
  have h4 := h3.alloc (.cells #[.int .u8 120, .int .u8 (c : Int), .int .i64 0, .int .i64 0, .slice none 0 0, .slice none 0 0, .slice none 0 0, .int .i64 (i : Int), .int .i64 0] 76)
  have F4 := F3.alloc h3.lt (.cells #[.int .u8 120, .int .u8 (c : Int), .int .i64 0, .int .i64 0, .slice none 0 0, .slice none 0 0, .slice none 0 0, .int .i64 (i : Int), .int .i64 0] 76)
  have t4 := h4.c1
  go_wp2_with fail
  refine (radd_any b s (i + 1) (-1) ts _ ⟨120, c, 0, 0, i, 0⟩ h4 (by omega)).mono ?_
  rintro e w4 ⟨rfl, h5, k4⟩
  go_wp2_with fail
  go_ret
  refine ⟨F4.trans k4, ?_⟩
  rw [HR.out]
  exact ⟨ts.length, [⟨120, c, 0, 0, i, 0⟩], rfl, by simp, h5, by simp, Fo.atom ts 120 c 0 0 i 0 (.inl rfl) hcl⟩

theorem ratom_any (b : Nat) (s : ByteArray) (n : Nat) (ih : RExpr b s n) (hs : s.size ≤ 1000) : RAtom b s (n + 1) := by
  intro i ts w h hi hn hl
  cases hb : begins (chr s i)
  · exact rat_none b s n i ts w h hi hs hl hb
  · by_cases h40 : chr s i = 40
    · cases hq : pr s n 0 (i + 1) 0 [] with
      | error p => exact rat_err b s n i ts w h hi hs hl ih hn hb h40 p hq
      | ok r =>
        obtain ⟨kd, f, j⟩ := r
        by_cases he : chr s j = 41
        · exact rat_ok b s n i ts w h hi hs hl ih hn hb h40 kd f j hq he
        · exact rat_close b s n i ts w h hi hs hl ih hn hb h40 kd f j hq he
    · by_cases h1 : 48 ≤ chr s i ∧ chr s i ≤ 57
      · exact rat_digit b s n i ts w h hi hs hl hb h40 h1
      by_cases h84 : chr s i = 84
      · exact rat_84 b s n i ts w h hi hs hl hb h40 h84
      by_cases h70 : chr s i = 70
      · exact rat_70 b s n i ts w h hi hs hl hb h40 h70
      refine rat_name b s n i ts w h hi hs hl hb h40 ?_ h84 h70
      have : begins (chr s i) = true := hb
      simp [begins, isLet, isCon, isLit] at this
      omega
end Go.Proofs.YtceadeaodbadlaaGreatDoor
