import Derived.Test.YtceadeaodbadlaaDoorInst
set_option linter.unusedVariables false
set_option linter.unusedSimpArgs false
namespace Go.Proofs.YtceadeaodbadlaaDoor
open Go.RowKit

theorem inst_bad {a : ByteArray} (h : (instOut a a).2.1 ≠ 0) (s : ByteArray) : (instOut a s).1 = false ∧ (instOut a s).2.1 ≠ 0 := by
  unfold instOut at h ⊢
  by_cases h1 : 4000 < a.size
  · rw [if_pos (.inl h1)]; simp
  · rw [if_neg (by omega)] at h
    by_cases h2 : 4000 < s.size
    · rw [if_pos (.inr h2)]; simp
    · rw [if_neg (by omega)]
      cases hq : wholeT a with
      | error p => simp
      | ok g => simp [hq] at h
theorem inst_zero {a s : ByteArray} (h : (instOut a s).2.1 = 0) : ∃ g t, wholeT a = .ok g ∧ wholeT s = .ok t ∧ Ok g ∧ Ok t ∧ a.size ≤ 4000 ∧ s.size ≤ 4000 ∧ (instOut a s).1 = inst g t := by
  unfold instOut at h ⊢
  by_cases h1 : 4000 < a.size ∨ 4000 < s.size
  · rw [if_pos h1] at h; simp at h
  · rw [if_neg h1] at h ⊢
    cases hq : wholeT a with
    | error p => simp [hq] at h
    | ok g =>
      cases hq2 : wholeT s with
      | error p => simp [hq, hq2] at h
      | ok t => exact ⟨g, t, rfl, rfl, wholeT_ok hq, wholeT_ok hq2, by omega, by omega, rfl⟩
theorem inst_self {a : ByteArray} (h : (instOut a a).2.1 = 0) : (instOut a a).1 = true := by
  obtain ⟨g, t, h1, h2, k1, k2, _, _, he⟩ := inst_zero h
  rw [h1] at h2
  cases h2
  rw [he, inst_refl k1]
theorem inst_of {av a : ByteArray} {o : Nat} (ha : wholeT av = .ok (tV o)) (h4 : av.size ≤ 4000) (h : (instOut a a).2.1 = 0) : (instOut av a).1 = true ∧ (instOut av a).2.1 = 0 := by
  obtain ⟨g, t, h1, h2, k1, k2, l1, l2, he⟩ := inst_zero h
  unfold instOut
  rw [if_neg (by omega), ha, h1]
  exact ⟨inst_var (wholeT_ok ha) k1, rfl⟩
theorem inst_chain {a b c : ByteArray} (h : (instOut a b).2.1 = 0) (h' : (instOut b c).2.1 = 0) (h'' : (instOut a c).2.1 = 0) (k : (instOut a b).1 = true) (k' : (instOut b c).1 = true) : (instOut a c).1 = true := by
  obtain ⟨g, t, h1, h2, k1, k2, l1, l2, he⟩ := inst_zero h
  obtain ⟨g', t', h1', h2', k1', k2', l1', l2', he'⟩ := inst_zero h'
  obtain ⟨g'', t'', h1'', h2'', k1'', k2'', l1'', l2'', he''⟩ := inst_zero h''
  rw [h2] at h1'; cases h1'
  rw [h1] at h1''; cases h1''
  rw [h2'] at h2''; cases h2''
  rw [he''] ; rw [he] at k; rw [he'] at k'
  exact inst_trans k1 k2 k2' k k'

set_option maxHeartbeats 400000 in
theorem numO_any (n : Nat) (w : World) : Calls Tryd.prog 7 #[.int .i64 (n : Int)] w fun e w' => e = .returned (.int .i64 (n : Int)) ∧ w' = w := by
  go_enter Tryd.func7, Tryd.ntmps7
  go_wp2
  go_ret
  exact ⟨rfl, rfl⟩

theorem aText : wholeT ⟨#[97]⟩ = .ok (tV 970) := rfl

set_option maxRecDepth 100000 in
set_option maxHeartbeats 4000000 in
theorem ordered_any (tx : Nat → Addr) (a b c : ByteArray) (w : World) (g : Gs tx w) (ha : a.size ≤ maxLen) (hb : b.size ≤ maxLen) (hc : c.size ≤ maxLen) :
    Calls Tryd.prog 4 #[.string a, .string b, .string c] w fun e w' => e = .returned (.bool true) ∧ Below w.heap.size w w' := by
  have HG : Hid (Gs tx w) := g
  have B0 := Below.refl w.heap.size w
  clear g
  go_enter Tryd.func4, Tryd.ntmps4
  go_wp2_with fail
  refine (instance_any tx a a w HG.out ha ha).mono ?_
  rintro e w1 ⟨rfl, b1⟩
  go_wp2_with fail
  refine (instance_any tx a b w1 (HG.out.below b1) ha hb).mono ?_
  rintro e w2 ⟨rfl, b2⟩
  have B2 := b1.trans (b2.mono b1.size)
  clear b1 b2
  go_wp2_with fail
  refine (instance_any tx b c w2 (HG.out.below B2) hb hc).mono ?_
  rintro e w3 ⟨rfl, b3⟩
  have B3 := B2.trans (b3.mono B2.size)
  clear b3 B2
  go_wp2_with fail
  refine (instance_any tx a c w3 (HG.out.below B3) ha hc).mono ?_
  rintro e w4 ⟨rfl, b4⟩
  have B4 := B3.trans (b4.mono B3.size)
  clear b4 B3
  go_wp2_with fail
  refine (instance_any tx _ a w4 (HG.out.below B4) (by unfold maxLen; decide) ha).mono ?_
  rintro e w5 ⟨rfl, b5⟩
  have B5 := B4.trans (b5.mono B4.size)
  clear b5 B4
  have F1 : (instOut a a).2.1 ≠ 0 → (instOut a a).1 = false ∧ (instOut a b).1 = false ∧ (instOut a c).1 = false ∧ (instOut a b).2.1 ≠ 0 ∧ (instOut a c).2.1 ≠ 0 :=
    fun h => ⟨(inst_bad h a).1, (inst_bad h b).1, (inst_bad h c).1, (inst_bad h b).2, (inst_bad h c).2⟩
  have F2 : (instOut a a).2.1 = 0 → (instOut a a).1 = true ∧ (instOut ⟨#[97]⟩ a).1 = true ∧ (instOut ⟨#[97]⟩ a).2.1 = 0 :=
    fun h => ⟨inst_self h, inst_of aText (by decide) h⟩
  have F3 : Hid ((instOut a b).2.1 = 0 → (instOut b c).2.1 = 0 → (instOut a c).2.1 = 0 → (instOut a b).1 = true → (instOut b c).1 = true → (instOut a c).1 = true) := inst_chain
  generalize (instOut a a).1 = x at F1 F2 F3 ⊢
  generalize (instOut a a).2.1 = e at F1 F2 F3 ⊢
  generalize (instOut a a).2.2 = p1
  generalize (instOut a b).1 = y at F1 F2 F3 ⊢
  generalize (instOut a b).2.1 = f at F1 F2 F3 ⊢
  generalize (instOut a b).2.2 = p2
  generalize (instOut b c).1 = z at F1 F2 F3 ⊢
  generalize (instOut b c).2.1 = j at F1 F2 F3 ⊢
  generalize (instOut b c).2.2 = p3
  generalize (instOut a c).1 = u at F1 F2 F3 ⊢
  generalize (instOut a c).2.1 = h at F1 F2 F3 ⊢
  generalize (instOut a c).2.2 = p4
  generalize (instOut ⟨#[97]⟩ a).1 = v at F1 F2 F3 ⊢
  generalize (instOut ⟨#[97]⟩ a).2.1 = k at F1 F2 F3 ⊢
  generalize (instOut ⟨#[97]⟩ a).2.2 = p5
  by_cases he : e = 0
  · obtain ⟨rfl, rfl, rfl⟩ := F2 he
    subst he
    clear F1 F2
    go_wp2_with fail
    refine (numO_any 0 w5).mono ?_
    rintro e' w6 ⟨rfl, rfl⟩
    go_wp2_with fail
    refine (numO_any 0 w6).mono ?_
    rintro e' w7 ⟨rfl, rfl⟩
    go_wp2_with fail
    refine (numO_any f _).mono ?_
    rintro e' w8 ⟨rfl, rfl⟩
    by_cases hf : f = 0
    · subst hf
      go_wp2_with fail
      refine (numO_any j _).mono ?_
      rintro e' w9 ⟨rfl, rfl⟩
      by_cases hj : j = 0
      · subst hj
        go_wp2_with fail
        refine (numO_any h _).mono ?_
        rintro e' w10 ⟨rfl, rfl⟩
        by_cases hh : h = 0
        · subst hh
          have F4 : Hid (y = true → z = true → u = true) := F3.out (by simp) (by simp) (by simp)
          clear F3
          cases y
          · go_wp2_with fail
            go_ret
            exact ⟨rfl, B5⟩
          · cases z
            · go_wp2_with fail
              go_ret
              exact ⟨rfl, B5⟩
            · obtain rfl := F4.out rfl rfl
              go_wp2_with fail
              go_ret
              exact ⟨rfl, B5⟩
        · have h0 : ((h : Int) == 0) = false := by simp; omega
          go_wp2_with fail
          go_ret
          exact ⟨rfl, B5⟩
      · have j0 : ((j : Int) == 0) = false := by simp; omega
        go_wp2_with fail
        go_ret
        exact ⟨rfl, B5⟩
    · have f0 : ((f : Int) == 0) = false := by simp; omega
      go_wp2_with fail
      go_ret
      exact ⟨rfl, B5⟩
  · obtain ⟨rfl, rfl, rfl, hf, hh⟩ := F1 he
    clear F1 F2 F3
    have e0 : ((e : Int) == 0) = false := by simp; omega
    have f0 : ((f : Int) == 0) = false := by simp; omega
    have h0 : ((h : Int) == 0) = false := by simp; omega
    go_wp2_with fail
    refine (numO_any e w5).mono ?_
    rintro e' w6 ⟨rfl, rfl⟩
    go_wp2_with fail
    refine (numO_any f _).mono ?_
    rintro e' w6 ⟨rfl, rfl⟩
    go_wp2_with fail
    refine (numO_any h _).mono ?_
    rintro e' w6 ⟨rfl, rfl⟩
    go_wp2_with fail
    go_ret
    refine ⟨?_, B5⟩
    show Ending.returned (Value.bool _) = _
    simp [hh, hf]
end Go.Proofs.YtceadeaodbadlaaDoor
