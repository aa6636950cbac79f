import Derived.Test.YtejcbbhengloiaaDoorVals
set_option linter.unusedVariables false
set_option linter.unusedSimpArgs false
namespace Go.Proofs.YtejcbbhengloiaaDoor
open Go.RowKit

/-- What readLet comes to, at the name. -/
def ltOut (s : ByteArray) (n i : Nat) : Out :=
  if isLet (chr s i) then
    if chr s (i + 1) = 61 then
      match pr s n 0 (i + 2) 0 [] with
      | .error p => .error p
      | .ok (_, f, j) =>
        if chr s j = 59 then
          match pr s n 0 (j + 1) 0 [] with
          | .error p => .error p
          | .ok (_, g, l) => .ok (2, 64 :: u8 (chr s i) :: 61 :: (f ++ 59 :: g), l)
        else .error j
    else .error (i + 1)
  else .error i

set_option maxHeartbeats 400000 in
theorem let_any (tl tx : Addr) (b : Nat) (s : ByteArray) (n i : Nat) (w : World) (ih : ExprSaid tl tx b s n) (h : Rd b s i w) (g : Gl tl tx w) (hi : i ≤ s.size) (hs : s.size ≤ 100000) (hb : 3 ≤ b) (hn : 3 * (s.size - i) ≤ n) :
    Calls Tryd.prog 60 #[.pointer (some ⟨b, 0, none⟩)] w (Post tx b s (ltOut s n i) w) := by
  have hl := chr_lt s i
  go_enter Tryd.func60, Tryd.ntmps60
  go_wp2_with fail
  refine (nameAnd_any tl tx b s i 61 w h g hi hs hb (by decide)).mono ?_
  rintro e w1 ⟨hg, ⟨hc, hd, rfl, hr, hj⟩ | ⟨hc, hd, c, q, rfl, ha⟩ | ⟨hc, c, q, rfl, ha⟩⟩
  · go_wp2_with fail
    refine (ih (i + 2) w1 hr (g.gb hg hb) hj (by omega)).mono ?_
    rintro e w2 ⟨hg2, hp⟩
    cases hq : pr s n 0 (i + 2) 0 [] with
    | error p =>
      rw [hq] at hp
      obtain ⟨q, rfl, ha⟩ := hp
      have HR : Hid (ltOut s n i = .error p) := by unfold Hid ltOut; rw [if_pos hc.out, if_pos hd.out, hq]
      clear hq
      go_wp2_with fail
      go_ret2
      rw [HR.out]
      exact ⟨hg.trans hg2, q, rfl, ha⟩
    | ok r =>
      obtain ⟨k, f, j⟩ := r
      rw [hq] at hp
      obtain ⟨T, x, rfl, hv, hr2⟩ := hp
      have pl := pr_places s _ _ _ _ _ _ _ _ hq hj
      have HQ : Hid (pr s n 0 (i + 2) 0 [] = .ok (k, f, j)) := hq
      clear hq
      have hj2 : j ≤ s.size := pl.2
      have hj3 : i + 2 < j := by omega
      clear pl
      have hg3 := hg.trans hg2
      go_wp2_with fail
      by_cases h59 : chr s j = 59
      · have hj4 : j < s.size := chr_in (by omega)
        refine (want_yes b s j 59 w2 hr2 hs h59 (by decide)).mono ?_
        rintro e w3 ⟨rfl, hr3, hg4⟩
        have H59 : Hid (chr s j = 59) := h59
        clear h59
        go_wp2_with fail
        refine (ih (j + 1) w3 hr3 (g.gb (hg3.trans hg4) hb) (by omega) (by omega)).mono ?_
        rintro e w4 ⟨hg5, hp⟩
        cases hq : pr s n 0 (j + 1) 0 [] with
        | error p =>
          rw [hq] at hp
          obtain ⟨q, rfl, ha⟩ := hp
          have HR : Hid (ltOut s n i = .error p) := by unfold Hid ltOut; simp only [HQ.out]; rw [if_pos hc.out, if_pos hd.out, if_pos H59.out, hq]
          clear hq
          go_wp2_with fail
          go_ret2
          rw [HR.out]
          exact ⟨(hg3.trans hg4).trans hg5, q, rfl, ha⟩
        | ok r =>
          obtain ⟨k', f', l⟩ := r
          rw [hq] at hp
          obtain ⟨T', x', rfl, hv', hr4⟩ := hp
          have HR : Hid (ltOut s n i = .ok (2, 64 :: u8 (chr s i) :: 61 :: (f ++ 59 :: f'), l)) := by unfold Hid ltOut; simp only [HQ.out]; rw [if_pos hc.out, if_pos hd.out, if_pos H59.out, hq]
          clear hq
          go_wp2_with fail
          go_ret2
          rw [HR.out]
          exact ⟨(hg3.trans hg4).trans hg5, _, _, rfl, Pv.closed.lt _ T x k f T' x' k' f' hl hv hv', hr4⟩
      · have HR : Hid (ltOut s n i = .error j) := by unfold Hid ltOut; simp only [HQ.out]; rw [if_pos hc.out, if_pos hd.out, if_neg h59]
        refine (want_no tl tx b s j 59 w2 hr2 (g.gb hg3 hb) hj2 hs h59 hb).mono ?_
        rintro e w3 ⟨q, rfl, ha, hg4⟩
        clear h59
        go_wp2_with fail
        go_ret2
        rw [HR.out]
        exact ⟨hg3.trans hg4, q, rfl, ha⟩
  · have HR : Hid (ltOut s n i = .error (i + 1)) := by unfold Hid ltOut; rw [if_pos hc.out, if_neg hd.out]
    go_wp2_with fail
    go_ret2
    rw [HR.out]
    exact ⟨hg, q, rfl, ha⟩
  · have HR : Hid (ltOut s n i = .error i) := by unfold Hid ltOut; rw [if_neg (by rw [hc.out]; decide)]
    go_wp2_with fail
    go_ret2
    rw [HR.out]
    exact ⟨hg, q, rfl, ha⟩

/-- What readClosed comes to, behind the bracket. -/
def clOut (s : ByteArray) (n i : Nat) : Out :=
  match pr s n 0 i 0 [] with
  | .error p => .error p
  | .ok (k, f, j) => if chr s j = 41 then .ok (k, f, j + 1) else .error j

set_option maxHeartbeats 400000 in
theorem closed_any (tl tx : Addr) (b : Nat) (s : ByteArray) (n i : Nat) (w : World) (ih : ExprSaid tl tx b s n) (h : Rd b s i w) (g : Gl tl tx w) (hi : i ≤ s.size) (hs : s.size ≤ 100000) (hb : 3 ≤ b) (hn : 3 * (s.size - i) + 2 ≤ n) :
    Calls Tryd.prog 92 #[.pointer (some ⟨b, 0, none⟩)] w (Post tx b s (clOut s n i) w) := by
  go_enter Tryd.func92, Tryd.ntmps92
  go_wp2_with fail
  refine (ih i w h g hi hn).mono ?_
  rintro e w1 ⟨hg, hp⟩
  cases hq : pr s n 0 i 0 [] with
  | error p =>
    rw [hq] at hp
    obtain ⟨q, rfl, ha⟩ := hp
    have HR : Hid (clOut s n i = .error p) := by unfold Hid clOut; rw [hq]
    clear hq
    go_wp2_with fail
    go_ret2
    rw [HR.out]
    exact ⟨hg, q, rfl, ha⟩
  | ok r =>
    obtain ⟨k, f, j⟩ := r
    rw [hq] at hp
    obtain ⟨T, x, rfl, hv, hr⟩ := hp
    have pl := pr_places s _ _ _ _ _ _ _ _ hq hi
    have hj2 : j ≤ s.size := pl.2
    clear pl
    by_cases h41 : chr s j = 41
    · have HR : Hid (clOut s n i = .ok (k, f, j + 1)) := by unfold Hid clOut; simp only [hq]; rw [if_pos h41]
      clear hq
      go_wp2_with fail
      refine (want_yes b s j 41 w1 hr hs h41 (by decide)).mono ?_
      rintro e w2 ⟨rfl, hr2, hg2⟩
      clear h41
      go_wp2_with fail
      go_ret2
      rw [HR.out]
      exact ⟨hg.trans hg2, _, _, rfl, hv, hr2⟩
    · have HR : Hid (clOut s n i = .error j) := by unfold Hid clOut; simp only [hq]; rw [if_neg h41]
      clear hq
      go_wp2_with fail
      refine (want_no tl tx b s j 41 w1 hr (g.gb hg hb) hj2 hs h41 hb).mono ?_
      rintro e w2 ⟨q, rfl, ha, hg2⟩
      clear h41
      go_wp2_with fail
      go_ret2
      rw [HR.out]
      exact ⟨hg.trans hg2, q, rfl, ha⟩

theorem atom_step (s : ByteArray) (n i : Nat) (h : begins (chr s i) = true) (h40 : chr s i = 40) : pr s (n + 1) 2 i 0 [] = clOut s n (i + 1) := by
  rw [pr, if_pos h, if_pos h40]; rfl
theorem atom_one (s : ByteArray) (n i : Nat) (h : begins (chr s i) = true) (h40 : chr s i ≠ 40) : pr s (n + 1) 2 i 0 [] = .ok (0, [u8 (chr s i)], i + 1) := by
  rw [pr, if_pos h, if_neg h40]
theorem atom_none (s : ByteArray) (n i : Nat) (h : begins (chr s i) = false) : pr s (n + 1) 2 i 0 [] = .error i := by
  rw [pr, if_neg (by rw [h]; decide)]

set_option maxHeartbeats 400000 in
theorem atom_any (tl tx : Addr) (b : Nat) (s : ByteArray) (n : Nat) (ih : ExprSaid tl tx b s n) (hs : s.size ≤ 100000) (hb : 3 ≤ b) : AtomSaid tl tx b s (n + 1) := by
  intro i w h g hi hn
  have hl := chr_lt s i
  cases hbg : begins (chr s i)
  · have HR : Hid (pr s (n + 1) 2 i 0 [] = .error i) := atom_none s n i hbg
    go_enter Tryd.func82, Tryd.ntmps82
    go_wp2_with fail
    refine (peek_any b s i w h hi hs).mono ?_
    rintro e w' ⟨rfl, m, rfl⟩
    go_wp2_with fail
    refine (beginsAtom_any (chr s i) _ hl).mono ?_
    rintro e w' ⟨rfl, rfl⟩
    rw [hbg]
    clear hbg
    go_wp2_with fail
    refine (wrong_any tl tx b s i _ (h.drewN m) (g.gb ((Gb.refl b w).drewN m) hb)).mono ?_
    rintro e w' ⟨q, rfl, ha, hg⟩
    go_wp2_with fail
    go_ret2
    rw [HR.out]
    exact ⟨((Gb.refl b w).drewN m).trans hg, q, rfl, ha⟩
  · have hlt : i < s.size := chr_in (begins_ne hbg)
    have HB : Hid (begins (chr s i) = true) := hbg
    go_enter Tryd.func82, Tryd.ntmps82
    go_wp2_with fail
    refine (peek_any b s i w h hi hs).mono ?_
    rintro e w' ⟨rfl, m, rfl⟩
    go_wp2_with fail
    refine (beginsAtom_any (chr s i) _ hl).mono ?_
    rintro e w' ⟨rfl, rfl⟩
    rw [hbg]
    clear hbg
    go_wp2_with fail
    refine (skip_any b s i _ (h.drewN m) hlt hs).mono ?_
    rintro e w1 ⟨rfl, hr, hg⟩
    have hg1 := ((Gb.refl b w).drewN m).trans hg
    go_wp2_with fail
    refine (isLetter_any (chr s i) _ hl).mono ?_
    rintro e w' ⟨rfl, rfl⟩
    cases hc1 : isLet (chr s i)
    · go_wp2_with fail
      refine (isConstant_any (chr s i) _ hl).mono ?_
      rintro e w' ⟨rfl, rfl⟩
      cases hc2 : isCon (chr s i)
      · go_wp2_with fail
        refine (isLiteral_any (chr s i) _ hl).mono ?_
        rintro e w' ⟨rfl, rfl⟩
        cases hc3 : isLit (chr s i)
        · have h40 : chr s i = 40 := by
            have := HB.out
            rw [begins, hc1, hc2, hc3] at this
            simpa using this
          have HR : Hid (pr s (n + 1) 2 i 0 [] = clOut s n (i + 1)) := atom_step s n i HB.out h40
          clear hc1 hc2 hc3 h40
          go_wp2_with fail
          refine (closed_any tl tx b s n (i + 1) _ ih hr (g.gb hg1 hb) hlt hs hb (by omega)).mono ?_
          rintro e w2 ⟨hg2, hp⟩
          have HP : Hid (Post tx b s (pr s (n + 1) 2 i 0 []) w e w2) := by
            unfold Hid Post; rw [HR.out]; exact ⟨hg1.trans hg2, hp⟩
          cases hq : clOut s n (i + 1) with
          | error p =>
            rw [hq] at hp
            obtain ⟨q, rfl, ha⟩ := hp
            clear hq
            go_wp2_with fail
            go_ret2
            exact HP.out
          | ok r =>
            obtain ⟨k, f, j⟩ := r
            rw [hq] at hp
            obtain ⟨T, x, rfl, hv, hr⟩ := hp
            clear hq
            go_wp2_with fail
            go_ret2
            exact HP.out
        · have HR : Hid (pr s (n + 1) 2 i 0 [] = .ok (0, [u8 (chr s i)], i + 1)) := atom_one s n i HB.out (by intro e; rw [e] at hc3; exact absurd hc3 (by decide))
          clear hc1 hc2 hc3
          go_wp2_with fail
          go_ret2
          rw [HR.out]
          exact ⟨hg1, _, _, rfl, Pv.closed.lit _ hl, hr⟩
      · have HR : Hid (pr s (n + 1) 2 i 0 [] = .ok (0, [u8 (chr s i)], i + 1)) := atom_one s n i HB.out (by intro e; rw [e] at hc2; exact absurd hc2 (by decide))
        clear hc1 hc2
        go_wp2_with fail
        go_ret2
        rw [HR.out]
        exact ⟨hg1, _, _, rfl, Pv.closed.const _ hl, hr⟩
    · have HR : Hid (pr s (n + 1) 2 i 0 [] = .ok (0, [u8 (chr s i)], i + 1)) := atom_one s n i HB.out (by intro e; rw [e] at hc1; exact absurd hc1 (by decide))
      clear hc1
      go_wp2_with fail
      go_ret2
      rw [HR.out]
      exact ⟨hg1, _, _, rfl, Pv.closed.name _ hl, hr⟩
end Go.Proofs.YtejcbbhengloiaaDoor
