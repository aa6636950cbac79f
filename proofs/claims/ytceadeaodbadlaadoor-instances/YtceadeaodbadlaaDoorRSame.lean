import Derived.Test.YtceadeaodbadlaaDoorPart
set_option linter.unusedVariables false
set_option linter.unusedSimpArgs false
namespace Go.Proofs.YtceadeaodbadlaaDoor
open Go.RowKit

theorem eqT_no {x y : Ty} (h : x ≠ y) : eqT x y = false := by
  cases hq : eqT x y
  · rfl
  · exact absurd ((eqT_iff x y).1 hq) h
theorem eqT_yes (x : Ty) : eqT x x = true := (eqT_iff x x).2 rfl

/-- As far as node k the signs are the same. -/
def upTo (x y : Ty) (k : Nat) : Prop := ∀ m, m < k → ((nd x 0)[m]?).map (·.op) = ((nd y 0)[m]?).map (·.op)
theorem upTo_more {x y : Ty} {k : Nat} {n n' : Nd} (h : upTo x y k) (hn : (nd x 0)[k]? = some n) (hn' : (nd y 0)[k]? = some n') (he : n.op = n'.op) : upTo x y (k + 1) := by
  intro m hm
  rcases Nat.lt_or_ge m k with h1 | h1
  · exact h m h1
  · obtain rfl : m = k := by omega
    rw [hn, hn']; simp [he]
theorem upTo_all {x y : Ty} (hx : Ok x) (hy : Ok y) (hs : sz x = sz y) (h : upTo x y (sz x)) : x = y := by
  refine ops_eq hx hy 0 0 ?_
  refine List.ext_getElem? fun m => ?_
  rw [List.getElem?_map, List.getElem?_map]
  rcases Nat.lt_or_ge m (sz x) with h1 | h1
  · exact h m h1
  · have l1 := nd_length x 0
    have l2 := nd_length y 0
    rw [List.getElem?_eq_none (by omega), List.getElem?_eq_none (by omega)]
theorem node_ne {x y : Ty} {k : Nat} {n n' : Nd} (hn : (nd x 0)[k]? = some n) (hn' : (nd y 0)[k]? = some n') (he : n ≠ n') : x ≠ y := by
  rintro rfl
  rw [hn] at hn'
  exact he (Option.some.inj hn')

set_option maxHeartbeats 1000000 in
theorem rsame_len (x y : Ty) (g cap g' cap' : Nat) (w : World) (hx : Rg g x w) (hy : Rg g' y w) (hl : sz x ≤ 1000000) (hne : sz x ≠ sz y) :
    Calls Tryd.prog 35 #[.agg #[.slice (some ⟨g, 0, none⟩) (sz x) cap], .agg #[.slice (some ⟨g', 0, none⟩) (sz y) cap']] w fun e w' => e = .returned (.bool (eqT x y)) ∧ Below w.heap.size w w' := by
  have HE : Hid (eqT x y = false) := eqT_no (by rintro rfl; exact hne rfl)
  have e1 : ((sz x : Int) == (sz y : Int)) = false := by rw [beq_eq_false_iff_ne]; omega
  have e2 : ((sz x : Int) != (sz y : Int)) = true := by rw [bne, e1]; rfl
  go_enter Tryd.func35, Tryd.ntmps35
  go_wp2_with fail
  go_ret
  rw [HE.out]
  exact ⟨rfl, ((Below.refl w.heap.size w).alloc (Nat.le_refl _) _).alloc (by simp) _⟩

set_option maxRecDepth 100000 in
set_option maxHeartbeats 8000000 in
theorem rsame_any (x y : Ty) (g cap g' cap' : Nat) (w : World) (hx : Rg g x w) (hy : Rg g' y w) (hl : sz x ≤ 1000000) :
    Calls Tryd.prog 35 #[.agg #[.slice (some ⟨g, 0, none⟩) (sz x) cap], .agg #[.slice (some ⟨g', 0, none⟩) (sz y) cap']] w fun e w' => e = .returned (.bool (eqT x y)) ∧ Below w.heap.size w w' := by
  by_cases hs : sz x ≠ sz y
  · exact rsame_len x y g cap g' cap' w hx hy hl hs
  have hs : sz y = sz x := by omega
  have HS : Hid (sz y = sz x) := hs
  rw [hs]
  have hb1 : ((w.alloc (.cells #[.slice (some ⟨g, 0, none⟩) (sz x) cap] 38)).alloc (.cells #[.slice (some ⟨g', 0, none⟩) (sz x) cap'] 38)).heap[w.heap.size]? = some (.cells #[.slice (some ⟨g, 0, none⟩) (sz x) cap] 38 (0, 0)) := by
    rw [Below.heap_alloc _ _ _ (by simp)]; exact heap_alloc_new w _
  have hb2 := heap_alloc2_new w (.cells #[.slice (some ⟨g, 0, none⟩) (sz x) cap] 38) (.cells #[.slice (some ⟨g', 0, none⟩) (sz x) cap'] 38)
  have hX := (hx.alloc (.cells #[.slice (some ⟨g, 0, none⟩) (sz x) cap] 38)).alloc (.cells #[.slice (some ⟨g', 0, none⟩) (sz x) cap'] 38)
  have hY := (hy.alloc (.cells #[.slice (some ⟨g, 0, none⟩) (sz x) cap] 38)).alloc (.cells #[.slice (some ⟨g', 0, none⟩) (sz x) cap'] 38)
  have B0 : Below w.heap.size w ((w.alloc (.cells #[.slice (some ⟨g, 0, none⟩) (sz x) cap] 38)).alloc (.cells #[.slice (some ⟨g', 0, none⟩) (sz x) cap'] 38)) := ((Below.refl w.heap.size w).alloc (Nat.le_refl _) _).alloc (by simp) _
  clear hs
  go_enter Tryd.func35, Tryd.ntmps35
  go_wp2_with fail
  go_loopw [5] (fun i wr => ∃ k : Nat, i = .int .i64 (k : Int) ∧ k ≤ sz x ∧ Hid (upTo x y k) ∧ ((w.alloc (.cells #[.slice (some ⟨g, 0, none⟩) (sz x) cap] 38)).alloc (.cells #[.slice (some ⟨g', 0, none⟩) (sz x) cap'] 38)).grownBy wr none) (fun i _ => sz x - (intOf i).toNat)
  case atStart => exact ⟨0, rfl, Nat.zero_le _, fun m hm => absurd hm (by omega), World.grownBy.refl _ _⟩
  case round =>
    obtain ⟨k, rfl, hk, HU, hg⟩ := hrel
    have c0 := cell_box ((hg.block _ (by simp; omega) (by simp)).trans hb1)
    have c1 := cell_box ((hg.block _ (by simp) (by simp)).trans hb2)
    have BW : Below w.heap.size w wr := B0.grown hg B0.size (by simp)
    have hsz := hg.size
    simp only [World.size_alloc] at hsz
    rcases Nat.lt_or_ge k (sz x) with hlt | hge
    · have hRx := hX.kept hg (by simp)
      have hRy := hY.kept hg (by simp)
      have hlt' : k < sz y := by have := HS.out; omega
      obtain ⟨⟨p, a, b⟩, hn⟩ : ∃ n, (nd x 0)[k]? = some n := ⟨_, List.getElem?_eq_getElem (by rw [nd_length]; exact hlt)⟩
      obtain ⟨⟨q, c, d⟩, hn'⟩ : ∃ n, (nd y 0)[k]? = some n := ⟨_, List.getElem?_eq_getElem (by rw [nd_length]; exact hlt')⟩
      obtain ⟨k0, k1, k2⟩ := hRx.cell k _ hn
      obtain ⟨j0, j1, j2⟩ := hRy.cell k _ hn'
      have j0' := World.cell?_alloc_lt wr (.cells #[.int .i64 (p : Int), .int .i64 (a : Int), .int .i64 (b : Int)] 117) ⟨g', k * 3, none⟩ hRy.lt
      simp only at k0 k1 k2 j0 j1 j2
      have HN : Hid ((nd x 0)[k]? = some ⟨p, a, b⟩) := hn
      have HN' : Hid ((nd y 0)[k]? = some ⟨q, c, d⟩) := hn'
      have lg := hRx.lt
      have lg' := hRy.lt
      have lw : w.heap.size < wr.heap.size := by omega
      have lw' : w.heap.size + 1 < wr.heap.size := by omega
      clear hn hn' hRx hRy j0' hlt'
      by_cases hq : p = q
      · subst hq
        rcases (show p = 42 ∨ p = 62 ∨ (p ≠ 42 ∧ p ≠ 62) from by omega) with hp | hp | ⟨hp, hp2⟩
        · subst hp
          by_cases ha : a = c
          · subst ha
            by_cases hb : b = d
            · subst hb
              have HM : Hid (upTo x y (k + 1)) := upTo_more HU.out HN.out HN'.out rfl
              go_wp2_with fail
              go_roundw
              case rel => exact ⟨k + 1, by simp, by omega, HM, (hg.trans (World.grownBy_alloc wr _ none)).trans (World.grownBy_alloc _ _ none)⟩
              case measure => simp [intOf]; omega
            · have e1 : ((b : Int) == (d : Int)) = false := by rw [beq_eq_false_iff_ne]; omega
              have e2 : ((b : Int) != (d : Int)) = true := by rw [bne, e1]; rfl
              have HE : Hid (eqT x y = false) := eqT_no (node_ne HN.out HN'.out (by intro e; injection e with _ _ e; exact hb e))
              go_wp2_with fail
              go_ret
              rw [HE.out]
              exact ⟨rfl, (BW.alloc BW.size _).alloc (by simp; omega) _⟩
          · have e1 : ((a : Int) == (c : Int)) = false := by rw [beq_eq_false_iff_ne]; omega
            have e2 : ((a : Int) != (c : Int)) = true := by rw [bne, e1]; rfl
            have HE : Hid (eqT x y = false) := eqT_no (node_ne HN.out HN'.out (by intro e; injection e with _ e _; exact ha e))
            go_wp2_with fail
            go_ret
            rw [HE.out]
            exact ⟨rfl, (BW.alloc BW.size _).alloc (by simp; omega) _⟩
        · subst hp
          by_cases ha : a = c
          · subst ha
            by_cases hb : b = d
            · subst hb
              have HM : Hid (upTo x y (k + 1)) := upTo_more HU.out HN.out HN'.out rfl
              go_wp2_with fail
              go_roundw
              case rel => exact ⟨k + 1, by simp, by omega, HM, (hg.trans (World.grownBy_alloc wr _ none)).trans (World.grownBy_alloc _ _ none)⟩
              case measure => simp [intOf]; omega
            · have e1 : ((b : Int) == (d : Int)) = false := by rw [beq_eq_false_iff_ne]; omega
              have e2 : ((b : Int) != (d : Int)) = true := by rw [bne, e1]; rfl
              have HE : Hid (eqT x y = false) := eqT_no (node_ne HN.out HN'.out (by intro e; injection e with _ _ e; exact hb e))
              go_wp2_with fail
              go_ret
              rw [HE.out]
              exact ⟨rfl, (BW.alloc BW.size _).alloc (by simp; omega) _⟩
          · have e1 : ((a : Int) == (c : Int)) = false := by rw [beq_eq_false_iff_ne]; omega
            have e2 : ((a : Int) != (c : Int)) = true := by rw [bne, e1]; rfl
            have HE : Hid (eqT x y = false) := eqT_no (node_ne HN.out HN'.out (by intro e; injection e with _ e _; exact ha e))
            go_wp2_with fail
            go_ret
            rw [HE.out]
            exact ⟨rfl, (BW.alloc BW.size _).alloc (by simp; omega) _⟩
        · have e1 : ((p : Int) == 42) = false := by rw [beq_eq_false_iff_ne]; omega
          have e2 : ((p : Int) == 62) = false := by rw [beq_eq_false_iff_ne]; omega
          have HM : Hid (upTo x y (k + 1)) := upTo_more HU.out HN.out HN'.out rfl
          go_wp2_with fail
          go_roundw
          case rel => exact ⟨k + 1, by simp, by omega, HM, (hg.trans (World.grownBy_alloc wr _ none)).trans (World.grownBy_alloc _ _ none)⟩
          case measure => simp [intOf]; omega
      · have e1 : ((p : Int) == (q : Int)) = false := by rw [beq_eq_false_iff_ne]; omega
        have e2 : ((p : Int) != (q : Int)) = true := by rw [bne, e1]; rfl
        have HE : Hid (eqT x y = false) := eqT_no (node_ne HN.out HN'.out (by intro e; injection e with e _ _; exact hq e))
        rcases (show p = 42 ∨ p = 62 ∨ (p ≠ 42 ∧ p ≠ 62) from by omega) with hp | hp | ⟨hp, hp2⟩
        · have e3 : ((p : Int) == 42) = true := by rw [hp]; rfl
          clear hp hq
          go_wp2_with fail
          go_ret
          rw [HE.out]
          exact ⟨rfl, (BW.alloc BW.size _).alloc (by simp; omega) _⟩
        · have e3 : ((p : Int) == 42) = false := by rw [hp]; rfl
          have e4 : ((p : Int) == 62) = true := by rw [hp]; rfl
          clear hp hq
          go_wp2_with fail
          go_ret
          rw [HE.out]
          exact ⟨rfl, (BW.alloc BW.size _).alloc (by simp; omega) _⟩
        · have e3 : ((p : Int) == 42) = false := by rw [beq_eq_false_iff_ne]; omega
          have e4 : ((p : Int) == 62) = false := by rw [beq_eq_false_iff_ne]; omega
          clear hp hp2 hq
          go_wp2_with fail
          go_ret
          rw [HE.out]
          exact ⟨rfl, (BW.alloc BW.size _).alloc (by simp; omega) _⟩
    · obtain rfl : k = sz x := by omega
      have d1 : decide ((sz x : Int) < (sz x : Int)) = false := by simp
      have HE : Hid (eqT x y = true) := by
        unfold Hid
        have := upTo_all hx.ok hy.ok HS.out.symm HU.out
        rw [this]; exact eqT_yes _
      go_wp2_with fail
      go_ret
      rw [HE.out]
      exact ⟨rfl, BW⟩
end Go.Proofs.YtceadeaodbadlaaDoor
