import Derived.Test.YtceadeaodbadlaaGreatDoorRef
set_option linter.unusedVariables false
set_option linter.unusedSimpArgs false
namespace Go.Proofs.YtceadeaodbadlaaGreatDoor
open Go.RowKit

theorem inR_self {c d : Nat} : inR c d d = true ↔ c = d := by simp [inR]; omega
theorem inR_self_no {c d : Nat} (h : c ≠ d) : inR c d d = false := by simp [inR]; omega

theorem St.next {b : Nat} {s : ByteArray} {i : Nat} {bad : Int} {ts : List Tm} {w : World} (h : St b s i bad ts w) (n : Nat) : St b s (i + 1) bad ts ((w.drewN n).setCell ⟨b, 2, none⟩ (.int .i64 ((i : Int) + 1))) := by
  have := (h.drewN n).setI (i + 1)
  rwa [Int.natCast_add] at this

set_option maxHeartbeats 400000 in
theorem rgot_yes (b : Nat) (s : ByteArray) (i c : Nat) (ts : List Tm) (w : World) (h : St b s i (-1) ts w) (hs : s.size ≤ 100000) (hc : chr s i = c) (h0 : 1 ≤ c) :
    Calls Tryz.prog 71 #[.pointer (some ⟨b, 0, none⟩), .int .u8 (c : Int)] w fun e w' => e = .returned (.bool true) ∧ St b s (i + 1) (-1) ts w' ∧ Fr b w w' := by
  have hlt : i < s.size := chr_in (by omega)
  have c2 := h.c2
  have f2 := h.fz 2
  have hn := h.next
  have HR : Hid (inR (chr s i) c c = true) := inR_self.2 hc
  clear hc
  go_enter Tryz.func71, Tryz.ntmps71
  go_wp2_with fail
  refine (ris_ok b s i c c ts w h (by omega) hs h0).mono ?_
  rintro e w' ⟨rfl, n, rfl⟩
  rw [HR.out]
  go_wp2_with fail
  go_ret
  exact ⟨rfl, hn n, ((Fr.refl b w).drewN n).setR 2 (by decide) _⟩

set_option maxHeartbeats 400000 in
theorem rgot_no (b : Nat) (s : ByteArray) (i c : Nat) (ts : List Tm) (w : World) (h : St b s i (-1) ts w) (hi : i ≤ s.size) (hs : s.size ≤ 100000) (hc : chr s i ≠ c) (h0 : 1 ≤ c) :
    Calls Tryz.prog 71 #[.pointer (some ⟨b, 0, none⟩), .int .u8 (c : Int)] w fun e w' => e = .returned (.bool false) ∧ ∃ n, w' = w.drewN n := by
  have HR : Hid (inR (chr s i) c c = false) := inR_self_no hc
  clear hc
  go_enter Tryz.func71, Tryz.ntmps71
  go_wp2_with fail
  refine (ris_ok b s i c c ts w h hi hs h0).mono ?_
  rintro e w' ⟨rfl, n, rfl⟩
  rw [HR.out]
  go_wp2_with fail
  go_ret
  exact ⟨rfl, n, rfl⟩

set_option maxHeartbeats 400000 in
theorem rgot_bad (b : Nat) (s : ByteArray) (i p c : Nat) (ts : List Tm) (w : World) (h : St b s i p ts w) :
    Calls Tryz.prog 71 #[.pointer (some ⟨b, 0, none⟩), .int .u8 (c : Int)] w fun e w' => e = .returned (.bool false) ∧ ∃ n, w' = w.drewN n := by
  go_enter Tryz.func71, Tryz.ntmps71
  go_wp2_with fail
  refine (ris_bad b s i p c c ts w h).mono ?_
  rintro e w' ⟨rfl, n, rfl⟩
  go_wp2_with fail
  go_ret
  exact ⟨rfl, n, rfl⟩

set_option maxHeartbeats 400000 in
theorem rmust_yes (b : Nat) (s : ByteArray) (i c : Nat) (ts : List Tm) (w : World) (h : St b s i (-1) ts w) (hs : s.size ≤ 100000) (hc : chr s i = c) (h0 : 1 ≤ c) :
    Calls Tryz.prog 106 #[.pointer (some ⟨b, 0, none⟩), .int .u8 (c : Int)] w fun e w' => e = .returned (.tuple #[]) ∧ St b s (i + 1) (-1) ts w' ∧ Fr b w w' := by
  go_enter Tryz.func106, Tryz.ntmps106
  go_wp2_with fail
  refine (rgot_yes b s i c ts w h hs hc h0).mono ?_
  rintro e w' ⟨rfl, h1, k1⟩
  clear hc
  go_wp2_with fail
  go_end0
  exact ⟨rfl, h1, k1⟩

set_option maxHeartbeats 400000 in
theorem rmust_no (b : Nat) (s : ByteArray) (i c : Nat) (ts : List Tm) (w : World) (h : St b s i (-1) ts w) (hi : i ≤ s.size) (hs : s.size ≤ 100000) (hc : chr s i ≠ c) (h0 : 1 ≤ c) :
    Calls Tryz.prog 106 #[.pointer (some ⟨b, 0, none⟩), .int .u8 (c : Int)] w fun e w' => e = .returned (.tuple #[]) ∧ St b s i i ts w' ∧ Fr b w w' := by
  go_enter Tryz.func106, Tryz.ntmps106
  go_wp2_with fail
  refine (rgot_no b s i c ts w h hi hs hc h0).mono ?_
  rintro e w' ⟨rfl, n, rfl⟩
  clear hc
  go_wp2_with fail
  refine (rfail_new b s i ts _ (h.drewN n)).mono ?_
  rintro e w' ⟨rfl, h1, k1⟩
  go_wp2_with fail
  go_end0
  exact ⟨rfl, h1, k1.undrew⟩

set_option maxHeartbeats 400000 in
theorem rmust_bad (b : Nat) (s : ByteArray) (i p c : Nat) (ts : List Tm) (w : World) (h : St b s i p ts w) :
    Calls Tryz.prog 106 #[.pointer (some ⟨b, 0, none⟩), .int .u8 (c : Int)] w fun e w' => e = .returned (.tuple #[]) ∧ ∃ n, w' = w.drewN n := by
  go_enter Tryz.func106, Tryz.ntmps106
  go_wp2_with fail
  refine (rgot_bad b s i p c ts w h).mono ?_
  rintro e w' ⟨rfl, n, rfl⟩
  go_wp2_with fail
  refine (rfail_old b s i p ts _ (h.drewN n)).mono ?_
  rintro e w' ⟨rfl, rfl⟩
  go_wp2_with fail
  go_end0
  exact ⟨rfl, n, rfl⟩

set_option maxHeartbeats 1000000 in
theorem rletter_yes (b : Nat) (s : ByteArray) (i : Nat) (ts : List Tm) (w : World) (h : St b s i (-1) ts w) (hs : s.size ≤ 100000) (hc : isLet (chr s i) = true) :
    Calls Tryz.prog 107 #[.pointer (some ⟨b, 0, none⟩)] w fun e w' => e = .returned (.int .u8 (chr s i)) ∧ St b s (i + 1) (-1) ts w' ∧ Fr b w w' := by
  have hlt : i < s.size := chr_in (by intro e; rw [e] at hc; exact absurd hc (by decide))
  have HR : Hid (inR (chr s i) 97 122 = true) := hc
  have c2 := h.c2
  have f2 := h.fz 2
  have HN : Hid (∀ n, St b s (i + 1) (-1) ts ((w.drewN n).setCell ⟨b, 2, none⟩ (.int .i64 ((i : Int) + 1)))) := h.next
  have hcs : chr s i = s[i].toNat := by simp [chr, hlt]
  have HC : Hid (chr s i = s[i].toNat) := hcs
  clear hc hcs
  go_enter Tryz.func107, Tryz.ntmps107
  go_wp2_with fail
  refine (ris_ok b s i 97 122 ts w h (by omega) hs (by decide)).mono ?_
  rintro e w' ⟨rfl, n, rfl⟩
  rw [HR.out]
  have h1 := HN.out n
  have c0' := h1.c0
  have c2' := h1.c2
  go_wp2_with fail
  go_quiet (fail)
  go_wp2_with fail
  go_ret
  rw [HC.out]
  exact ⟨rfl, h1, (((Fr.refl b w).drewN n).setR 2 (by decide) _).drewN _⟩

set_option maxHeartbeats 1000000 in
theorem rletter_no (b : Nat) (s : ByteArray) (i : Nat) (ts : List Tm) (w : World) (h : St b s i (-1) ts w) (hi : i ≤ s.size) (hs : s.size ≤ 100000) (hc : isLet (chr s i) = false) :
    Calls Tryz.prog 107 #[.pointer (some ⟨b, 0, none⟩)] w fun e w' => e = .returned (.int .u8 0) ∧ St b s i i ts w' ∧ Fr b w w' := by
  have HR : Hid (inR (chr s i) 97 122 = false) := hc
  clear hc
  go_enter Tryz.func107, Tryz.ntmps107
  go_wp2_with fail
  refine (ris_ok b s i 97 122 ts w h hi hs (by decide)).mono ?_
  rintro e w' ⟨rfl, n, rfl⟩
  rw [HR.out]
  go_wp2_with fail
  refine (rfail_new b s i ts _ (h.drewN n)).mono ?_
  rintro e w' ⟨rfl, h1, k1⟩
  go_wp2_with fail
  go_ret
  exact ⟨rfl, h1, k1.undrew⟩

set_option maxHeartbeats 1000000 in
theorem rletter_bad (b : Nat) (s : ByteArray) (i p : Nat) (ts : List Tm) (w : World) (h : St b s i p ts w) :
    Calls Tryz.prog 107 #[.pointer (some ⟨b, 0, none⟩)] w fun e w' => e = .returned (.int .u8 0) ∧ ∃ n, w' = w.drewN n := by
  go_enter Tryz.func107, Tryz.ntmps107
  go_wp2_with fail
  refine (ris_bad b s i p 97 122 ts w h).mono ?_
  rintro e w' ⟨rfl, n, rfl⟩
  go_wp2_with fail
  refine (rfail_old b s i p ts _ (h.drewN n)).mono ?_
  rintro e w' ⟨rfl, rfl⟩
  go_wp2_with fail
  go_ret
  exact ⟨rfl, n, rfl⟩

set_option maxHeartbeats 1000000 in
theorem constant_any (c : Nat) (w : World) :
    Calls Tryz.prog 108 #[.int .u8 (c : Int)] w fun e w' => ∃ x y, e = .returned (.tuple #[.string x, .string y, .bool (isCon c)]) ∧ w' = w := by
  by_cases h78 : c = 78
  · subst h78
    go_enter Tryz.func108, Tryz.ntmps108
    go_wp2
    go_ret3
    exact ⟨_, _, rfl, rfl⟩
  have e78 : ((c : Int) == 78) = false := by rw [beq_eq_false_iff_ne]; omega
  by_cases h67 : c = 67
  · subst h67
    go_enter Tryz.func108, Tryz.ntmps108
    go_wp2
    go_ret3
    exact ⟨_, _, rfl, rfl⟩
  have e67 : ((c : Int) == 67) = false := by rw [beq_eq_false_iff_ne]; omega
  by_cases h80 : c = 80
  · subst h80
    go_enter Tryz.func108, Tryz.ntmps108
    go_wp2
    go_ret3
    exact ⟨_, _, rfl, rfl⟩
  have e80 : ((c : Int) == 80) = false := by rw [beq_eq_false_iff_ne]; omega
  by_cases h76 : c = 76
  · subst h76
    go_enter Tryz.func108, Tryz.ntmps108
    go_wp2
    go_ret3
    exact ⟨_, _, rfl, rfl⟩
  have e76 : ((c : Int) == 76) = false := by rw [beq_eq_false_iff_ne]; omega
  by_cases h82 : c = 82
  · subst h82
    go_enter Tryz.func108, Tryz.ntmps108
    go_wp2
    go_ret3
    exact ⟨_, _, rfl, rfl⟩
  have e82 : ((c : Int) == 82) = false := by rw [beq_eq_false_iff_ne]; omega
  by_cases h74 : c = 74
  · subst h74
    go_enter Tryz.func108, Tryz.ntmps108
    go_wp2
    go_ret3
    exact ⟨_, _, rfl, rfl⟩
  have e74 : ((c : Int) == 74) = false := by rw [beq_eq_false_iff_ne]; omega
  by_cases h69 : c = 69
  · subst h69
    go_enter Tryz.func108, Tryz.ntmps108
    go_wp2
    go_ret3
    exact ⟨_, _, rfl, rfl⟩
  have e69 : ((c : Int) == 69) = false := by rw [beq_eq_false_iff_ne]; omega
  by_cases h65 : c = 65
  · subst h65
    go_enter Tryz.func108, Tryz.ntmps108
    go_wp2
    go_ret3
    exact ⟨_, _, rfl, rfl⟩
  have e65 : ((c : Int) == 65) = false := by rw [beq_eq_false_iff_ne]; omega
  by_cases h89 : c = 89
  · subst h89
    go_enter Tryz.func108, Tryz.ntmps108
    go_wp2
    go_ret3
    exact ⟨_, _, rfl, rfl⟩
  have e89 : ((c : Int) == 89) = false := by rw [beq_eq_false_iff_ne]; omega
  by_cases h68 : c = 68
  · subst h68
    go_enter Tryz.func108, Tryz.ntmps108
    go_wp2
    go_ret3
    exact ⟨_, _, rfl, rfl⟩
  have e68 : ((c : Int) == 68) = false := by rw [beq_eq_false_iff_ne]; omega
  have hr : isCon c = false := by simp [isCon]; omega
  rw [hr]
  clear hr h78 h67 h80 h76 h82 h74 h69 h65 h89 h68
  go_enter Tryz.func108, Tryz.ntmps108
  go_wp2
  go_ret3
  exact ⟨_, _, rfl, rfl⟩

set_option maxHeartbeats 1000000 in
theorem rstarts_bad (b : Nat) (s : ByteArray) (i p : Nat) (ts : List Tm) (w : World) (h : St b s i p ts w) :
    Calls Tryz.prog 77 #[.pointer (some ⟨b, 0, none⟩)] w fun e w' => e = .returned (.bool false) ∧ ∃ n, w' = w.drewN n := by
  have h3 := h.c3
  have hd : decide ((0 : Int) ≤ (p : Int)) = true := by simp
  go_enter Tryz.func77, Tryz.ntmps77
  go_wp2
  go_quiet (fail)
  go_wp2
  go_ret
  exact ⟨rfl, _, rfl⟩

set_option maxHeartbeats 1000000 in
theorem rstarts_end (b : Nat) (s : ByteArray) (ts : List Tm) (w : World) (h : St b s s.size (-1) ts w) :
    Calls Tryz.prog 77 #[.pointer (some ⟨b, 0, none⟩)] w fun e w' => e = .returned (.bool false) ∧ ∃ n, w' = w.drewN n := by
  have h0 := h.c0
  have h2 := h.c2
  have h3 := h.c3
  go_enter Tryz.func77, Tryz.ntmps77
  go_wp2
  go_quiet (fail)
  go_wp2
  go_ret
  exact ⟨rfl, _, rfl⟩

set_option maxHeartbeats 2000000 in
set_option maxRecDepth 100000 in
theorem rstarts_in (b : Nat) (s : ByteArray) (i : Nat) (ts : List Tm) (w : World) (h : St b s i (-1) ts w) (hlt : i < s.size) (hs : s.size ≤ 100000) :
    Calls Tryz.prog 77 #[.pointer (some ⟨b, 0, none⟩)] w fun e w' => e = .returned (.bool (begins (chr s i))) ∧ ∃ n, w' = w.drewN n := by
  have h0 := h.c0
  have h2 := h.c2
  have h3 := h.c3
  have hd : decide ((s.size : Int) ≤ (i : Int)) = false := by simp; omega
  have hd' : decide (s.size ≤ i) = false := by simp; omega
  have hcs : chr s i = s[i].toNat := by simp [chr, hlt]
  rw [hcs]
  clear hcs h
  have hl : s[i].toNat < 256 := s[i].toNat_lt
  generalize hg : s[i].toNat = c at *
  cases hcon : isCon c
  · have HC : Hid (isCon c = false) := hcon
    by_cases h1 : 97 ≤ c ∧ c ≤ 122
    · have HB : Hid (begins c = true) := by unfold Hid; simp [begins, isLet, h1.1, h1.2]
      have d1 : decide ((97 : Int) ≤ (c : Int)) = true := by simp; omega
      have d2 : decide ((c : Int) ≤ 122) = true := by simp; omega
      clear hcon h1
      go_enter Tryz.func77, Tryz.ntmps77
      go_wp2_with fail
      go_quiet (fail)
      go_wp2_with fail
      go_quiet (fail)
      go_wp2_with fail
      refine (constant_any c _).mono ?_
      rintro e w' ⟨x, y, rfl, rfl⟩
      rw [HC.out]
      go_wp2_with fail
      go_ret
      exact ⟨by rw [HB.out]; first | rfl | simp, _, rfl⟩
    by_cases h2 : 48 ≤ c ∧ c ≤ 57
    · have HB : Hid (begins c = true) := by unfold Hid; simp [begins, isLit, h2.1, h2.2]
      have d1 : decide ((97 : Int) ≤ (c : Int)) = false := by simp; omega
      have d3 : decide ((48 : Int) ≤ (c : Int)) = true := by simp; omega
      have d4 : decide ((c : Int) ≤ 57) = true := by simp; omega
      clear hcon h1 h2
      go_enter Tryz.func77, Tryz.ntmps77
      go_wp2_with fail
      go_quiet (fail)
      go_wp2_with fail
      go_quiet (fail)
      go_wp2_with fail
      refine (constant_any c _).mono ?_
      rintro e w' ⟨x, y, rfl, rfl⟩
      rw [HC.out]
      go_wp2_with fail
      go_ret
      exact ⟨by rw [HB.out]; first | rfl | simp, _, rfl⟩
    by_cases h84 : c = 84
    · have HB : Hid (begins c = true) := by unfold Hid; simp [begins, isLit, h84]
      have HC' : Hid (isCon c = false) := HC
      clear hcon h1 h2
      subst h84
      go_enter Tryz.func77, Tryz.ntmps77
      go_wp2_with fail
      go_quiet (fail)
      go_wp2_with fail
      go_quiet (fail)
      go_wp2_with fail
      refine (constant_any 84 _).mono ?_
      rintro e w' ⟨x, y, rfl, rfl⟩
      rw [HC.out]
      go_wp2_with fail
      go_ret
      exact ⟨by rw [HB.out]; first | rfl | simp, _, rfl⟩
    by_cases h70 : c = 70
    · have HB : Hid (begins c = true) := by unfold Hid; simp [begins, isLit, h70]
      have HC' : Hid (isCon c = false) := HC
      clear hcon h1 h2
      subst h70
      go_enter Tryz.func77, Tryz.ntmps77
      go_wp2_with fail
      go_quiet (fail)
      go_wp2_with fail
      go_quiet (fail)
      go_wp2_with fail
      refine (constant_any 70 _).mono ?_
      rintro e w' ⟨x, y, rfl, rfl⟩
      rw [HC.out]
      go_wp2_with fail
      go_ret
      exact ⟨by rw [HB.out]; first | rfl | simp, _, rfl⟩
    by_cases h40 : c = 40
    · have HB : Hid (begins c = true) := by unfold Hid; simp [begins, isLit, h40]
      have HC' : Hid (isCon c = false) := HC
      clear hcon h1 h2
      subst h40
      go_enter Tryz.func77, Tryz.ntmps77
      go_wp2_with fail
      go_quiet (fail)
      go_wp2_with fail
      go_quiet (fail)
      go_wp2_with fail
      refine (constant_any 40 _).mono ?_
      rintro e w' ⟨x, y, rfl, rfl⟩
      rw [HC.out]
      go_wp2_with fail
      go_ret
      exact ⟨by rw [HB.out]; first | rfl | simp, _, rfl⟩
    have HB : Hid (begins c = false) := by unfold Hid; simp [begins, isLet, isLit, hcon]; omega
    have d5 : ((c : Int) == 84) = false := by rw [beq_eq_false_iff_ne]; omega
    have d6 : ((c : Int) == 70) = false := by rw [beq_eq_false_iff_ne]; omega
    have d7 : ((c : Int) == 40) = false := by rw [beq_eq_false_iff_ne]; omega
    by_cases h3 : 97 ≤ c
    · have d1 : decide ((97 : Int) ≤ (c : Int)) = true := by simp; omega
      have d2 : decide ((c : Int) ≤ 122) = false := by simp; omega
      have d3 : decide ((48 : Int) ≤ (c : Int)) = true := by simp; omega
      have d4 : decide ((c : Int) ≤ 57) = false := by simp; omega
      clear hcon h1 h2 h84 h70 h40
      go_enter Tryz.func77, Tryz.ntmps77
      go_wp2_with fail
      go_quiet (fail)
      go_wp2_with fail
      go_quiet (fail)
      go_wp2_with fail
      refine (constant_any c _).mono ?_
      rintro e w' ⟨x, y, rfl, rfl⟩
      rw [HC.out]
      go_wp2_with fail
      go_ret
      exact ⟨by rw [HB.out]; first | rfl | simp, _, rfl⟩
    · have d1 : decide ((97 : Int) ≤ (c : Int)) = false := by simp; omega
      by_cases h4 : 48 ≤ c
      · have d3 : decide ((48 : Int) ≤ (c : Int)) = true := by simp; omega
        have d4 : decide ((c : Int) ≤ 57) = false := by simp; omega
        clear hcon h1 h2 h84 h70 h40
        go_enter Tryz.func77, Tryz.ntmps77
        go_wp2_with fail
        go_quiet (fail)
        go_wp2_with fail
        go_quiet (fail)
        go_wp2_with fail
        refine (constant_any c _).mono ?_
        rintro e w' ⟨x, y, rfl, rfl⟩
        rw [HC.out]
        go_wp2_with fail
        go_ret
        exact ⟨by rw [HB.out]; first | rfl | simp, _, rfl⟩
      · have d3 : decide ((48 : Int) ≤ (c : Int)) = false := by simp; omega
        clear hcon h1 h2 h84 h70 h40
        go_enter Tryz.func77, Tryz.ntmps77
        go_wp2_with fail
        go_quiet (fail)
        go_wp2_with fail
        go_quiet (fail)
        go_wp2_with fail
        refine (constant_any c _).mono ?_
        rintro e w' ⟨x, y, rfl, rfl⟩
        rw [HC.out]
        go_wp2_with fail
        go_ret
        exact ⟨by rw [HB.out]; first | rfl | simp, _, rfl⟩
  · have HC : Hid (isCon c = true) := hcon
    have HB : Hid (begins c = true) := by unfold Hid; simp [begins, hcon]
    clear hcon
    go_enter Tryz.func77, Tryz.ntmps77
    go_wp2_with fail
    go_quiet (fail)
    go_wp2_with fail
    go_quiet (fail)
    go_wp2_with fail
    refine (constant_any c _).mono ?_
    rintro e w' ⟨x, y, rfl, rfl⟩
    rw [HC.out]
    go_wp2_with fail
    go_ret
    exact ⟨by rw [HB.out]; first | rfl | simp, _, rfl⟩

theorem rstarts_any (b : Nat) (s : ByteArray) (i : Nat) (ts : List Tm) (w : World) (h : St b s i (-1) ts w) (hi : i ≤ s.size) (hs : s.size ≤ 100000) :
    Calls Tryz.prog 77 #[.pointer (some ⟨b, 0, none⟩)] w fun e w' => e = .returned (.bool (begins (chr s i))) ∧ ∃ n, w' = w.drewN n := by
  by_cases hlt : i < s.size
  · exact rstarts_in b s i ts w h hlt hs
  · obtain rfl : i = s.size := by omega
    have : begins (chr s s.size) = false := by simp [chr]; decide
    rw [this]
    exact rstarts_end b s ts w h
end Go.Proofs.YtceadeaodbadlaaGreatDoor
