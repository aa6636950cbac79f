import Derived.Test.YtceadeaodbadlaaDoorRRead2
set_option linter.unusedVariables false
set_option linter.unusedSimpArgs false
namespace Go.Proofs.YtceadeaodbadlaaDoor
open Go.RowKit

/-- The reader's state behind a part, u the type at hand. -/
def KS (b : Nat) (s : ByteArray) (r : TOut) (i : Nat) (u : Ty) (w' : World) : Prop :=
  match r with
  | .error p => sz u ≤ p - i + 1 ∧ i ≤ p ∧ p ≤ s.size ∧ R0 b s p p w'
  | .ok (t, j) => u = t ∧ sz t ≤ j - i ∧ j ≤ s.size ∧ R0 b s j (-1) w'

theorem RKPost.parts {b : Nat} {s : ByteArray} {r : TOut} {i : Nat} {w w' : World} {e : Ending} (h : RKPost b s r i w e w') (hj : ∀ t j, r = .ok (t, j) → j ≤ s.size) :
    Gb b w w' ∧ ∃ g cap u, e = .returned (.agg #[.slice (some ⟨g, 0, none⟩) (sz u) cap]) ∧ Rg g u w' ∧ KS b s r i u w' := by
  obtain ⟨hg, h⟩ := h
  refine ⟨hg, ?_⟩
  cases r with
  | error p =>
    obtain ⟨g, cap, u, he, hR, h1, h2, h3, h4⟩ := h
    exact ⟨g, cap, u, he, hR, h1, h2, h3, h4⟩
  | ok r =>
    obtain ⟨t, j⟩ := r
    obtain ⟨g, cap, he, hR, h1, h2⟩ := h
    exact ⟨g, cap, t, he, hR, rfl, h1, hj t j rfl, h2⟩
theorem RKPost.of {b : Nat} {s : ByteArray} {r : TOut} {i g cap : Nat} {u : Ty} {w w' : World} (hg : Gb b w w') (hR : Rg g u w') (k : KS b s r i u w') :
    RKPost b s r i w (.returned (.agg #[.slice (some ⟨g, 0, none⟩) (sz u) cap])) w' := by
  refine ⟨hg, ?_⟩
  cases r with
  | error p =>
    obtain ⟨h1, h2, h3, h4⟩ := k
    exact ⟨g, cap, u, rfl, hR, h1, h2, h3, h4⟩
  | ok r =>
    obtain ⟨t, j⟩ := r
    obtain ⟨rfl, h1, _, h2⟩ := k
    exact ⟨g, cap, rfl, hR, h1, h2⟩
theorem KS.moved {b : Nat} {s : ByteArray} {r : TOut} {i : Nat} {u : Ty} {w w' : World} (k : KS b s r i u w) (hm : ∀ j bad, R0 b s j bad w → R0 b s j bad w') : KS b s r i u w' := by
  cases r with
  | error p => exact ⟨k.1, k.2.1, k.2.2.1, hm _ _ k.2.2.2⟩
  | ok r => obtain ⟨t, j⟩ := r; exact ⟨k.1, k.2.1, k.2.2.1, hm _ _ k.2.2.2⟩
theorem KS.lt {b : Nat} {s : ByteArray} {r : TOut} {i : Nat} {u : Ty} {w : World} (k : KS b s r i u w) : b < w.heap.size := by
  cases r with
  | error p => exact k.2.2.2.lt
  | ok r => obtain ⟨t, j⟩ := r; exact k.2.2.2.lt
theorem KS.small {b : Nat} {s : ByteArray} {r : TOut} {i : Nat} {u : Ty} {w : World} (k : KS b s r i u w) : sz u ≤ s.size + 1 := by
  cases r with
  | error p => obtain ⟨h1, h2, h3, _⟩ := k; omega
  | ok r => obtain ⟨t, j⟩ := r; obtain ⟨rfl, h1, h3, _⟩ := k; omega
theorem KS.back {b : Nat} {s : ByteArray} {r : TOut} {i : Nat} {u : Ty} {w : World} (k : KS b s r (i + 1) u w) : KS b s r i u w := by
  cases r with
  | error p => obtain ⟨h1, h2, h3, h4⟩ := k; exact ⟨by omega, by omega, h3, h4⟩
  | ok r => obtain ⟨t, j⟩ := r; obtain ⟨h0, h1, h3, h4⟩ := k; exact ⟨h0, by omega, h3, h4⟩
theorem KS.ne {b g : Nat} {s : ByteArray} {r : TOut} {i : Nat} {u v : Ty} {w : World} (k : KS b s r i u w) (h : Rg g v w) : g ≠ b := by
  cases r with
  | error p => exact h.ne k.2.2.2
  | ok r => obtain ⟨t, j⟩ := r; exact h.ne k.2.2.2
def mapL : TOut → TOut
  | .error p => .error p
  | .ok (a, j) => .ok (tL a, j)
theorem un_L2 {s : ByteArray} {n i : Nat} (h : chr s i = 91) : unOut s n i = mapL (cbOut s n (i + 1) 93) := by
  rw [un_L h]; cases cbOut s n (i + 1) 93 <;> rfl
theorem KS.list {b : Nat} {s : ByteArray} {r : TOut} {i : Nat} {u : Ty} {w : World} (ok : Ok u) (k : KS b s r (i + 1) u w) : KS b s (mapL r) i (tL u) w := by
  have hp := sz_pos ok
  cases r with
  | error p => obtain ⟨h1, h2, h3, h4⟩ := k; exact ⟨by show sz u + 0 + 1 ≤ _; omega, by omega, h3, h4⟩
  | ok r => obtain ⟨t, j⟩ := r; obtain ⟨rfl, h1, h3, h4⟩ := k; exact ⟨rfl, by show sz u + 0 + 1 ≤ _; omega, h3, h4⟩
theorem pt_end {s : ByteArray} {n i : Nat} (hi : i ≤ s.size) : ∀ t j, pt s n 0 i .nil = .ok (t, j) → j ≤ s.size := fun t j h => (pt_places s _ _ _ _ _ _ h hi (by omega)).2.1
theorem pt_end2 {s : ByteArray} {n i : Nat} (hi : i ≤ s.size) : ∀ t j, pt s n 2 i .nil = .ok (t, j) → j ≤ s.size := fun t j h => (pt_places s _ _ _ _ _ _ h hi (by omega)).2.1
theorem gb_drew {b : Nat} {w : World} (n : Nat) : Gb b w (w.drewN n) := (Gb.refl b w).drewN n

/-- The closing bracket. -/
theorem must_any (b : Nat) (s : ByteArray) (n i c : Nat) (u : Ty) (w : World) (ok : Ok u) (k : KS b s (pt s n 0 i .nil) i u w) (hs : s.size ≤ 100000) (h0 : 1 ≤ c) :
    Calls Tryd.prog 50 #[.pointer (some ⟨b, 0, none⟩), .int .u8 (c : Int)] w fun e w' => e = .returned (.tuple #[]) ∧ Gb b w w' ∧ KS b s (cbOut s n i c) i u w' := by
  have hp := sz_pos ok
  unfold cbOut
  cases hq : pt s n 0 i .nil with
  | error p =>
    rw [hq] at k
    refine (gmust_bad b s p p c w k.2.2.2).mono ?_
    rintro e w' ⟨rfl, d, rfl⟩
    exact ⟨rfl, gb_drew d, k.1, k.2.1, k.2.2.1, k.2.2.2.drewN d⟩
  | ok r =>
    obtain ⟨t, j⟩ := r
    rw [hq] at k
    obtain ⟨rfl, h1, h2, h3⟩ := k
    by_cases hc : chr s j = c
    · refine (gmust_yes b s j c w h3 hs hc h0).mono ?_
      rintro e w' ⟨rfl, h4, h5⟩
      have hlt : j < s.size := chr_in (by omega)
      refine ⟨rfl, h5, ?_⟩
      simp only [hc, if_true]
      exact ⟨rfl, by omega, hlt, h4⟩
    · refine (gmust_no b s j c w h3 h2 hs hc h0).mono ?_
      rintro e w' ⟨rfl, h4, h5⟩
      refine ⟨rfl, h5, ?_⟩
      simp only [hc, if_false]
      exact ⟨by omega, by omega, h2, h4⟩

set_option maxRecDepth 100000 in
set_option maxHeartbeats 1000000 in
theorem runit_none (b : Nat) (s : ByteArray) (n i : Nat) (w : World) (h : R0 b s i (-1) w) (hi : i ≤ s.size) (hs : s.size ≤ 100000) (N73 : Hid (chr s i ≠ 73)) (N66 : Hid (chr s i ≠ 66)) (N91 : Hid (chr s i ≠ 91)) (N40 : Hid (chr s i ≠ 40)) (HL : Hid (isLet (chr s i) = false)) :
    Calls Tryd.prog 30 #[.pointer (some ⟨b, 0, none⟩)] w (RKPost b s (unOut s n i) i w) := by
  have hlt := h.lt
  have HV : Hid (unOut s n i = .error i) := un_N N73.out N66.out N91.out N40.out HL.out
  have LF : ∀ w1, Calls Tryd.prog 48 #[.int .i64 73] w1 (TPost tI w1) := fun w1 => leaf_any 0 0 (by decide) okI w1
  go_enter Tryd.func30, Tryd.ntmps30
  go_wp2_with fail
  refine (ris_ok b s i 97 122 [] _ (h.alloc nilBox).toSt hi hs (by decide)).mono ?_
  rintro e w' ⟨rfl, d, rfl⟩
  rw [show inR (chr s i) 97 122 = false from HL.out]
  go_wp2_with fail
  refine (ris_ok b s i 73 73 [] _ ((h.alloc nilBox).drewN d).toSt hi hs (by decide)).mono ?_
  rintro e w' ⟨rfl, d1, rfl⟩
  rw [inS_no N73.out]
  go_wp2_with fail
  refine (ris_ok b s i 66 66 [] _ ((h.alloc nilBox).drewN _).toSt hi hs (by decide)).mono ?_
  rintro e w' ⟨rfl, d2, rfl⟩
  rw [inS_no N66.out]
  go_wp2_with fail
  refine (ggot_no b s i 91 _ ((h.alloc nilBox).drewN _) hi hs N91.out (by decide)).mono ?_
  rintro e w' ⟨rfl, d3, rfl⟩
  go_wp2_with fail
  refine (ggot_no b s i 40 _ ((h.alloc nilBox).drewN _) hi hs N40.out (by decide)).mono ?_
  rintro e w' ⟨rfl, d4, rfl⟩
  go_wp2_with fail
  refine (gfail_new b s i _ ((h.alloc nilBox).drewN _)).mono ?_
  rintro e w1 ⟨rfl, h1, g1⟩
  go_wp2_with fail
  refine (LF w1).mono ?_
  rintro e w2 ⟨g2, cap2, rfl, R2, hg2, b2⟩
  have G1 : Gb b (w.alloc nilBox) w2 := ((Gb.refl b (w.alloc nilBox)).drewN _).trans (g1.trans ⟨b2.os, b2.tape, b2.output, b2.size, fun k hk _ => b2.block k hk⟩)
  have hbx := gb_box G1 hlt
  have cb := cell_box hbx
  have fb := free_box hbx
  have R02 := h1.below b2
  go_wp2_with fail
  refine ret_type rfl rfl (set_cell0 hbx) ?_
  rw [HV.out]
  exact RKPost.of (gb_fin G1 _) (R2.setBox (R2.neBox hbx) _) ⟨by show 1 ≤ _; omega, Nat.le_refl i, hi, R02.setFar (by omega) _⟩

theorem gb_below {b : Nat} {w w' : World} (h : Below w.heap.size w w') : Gb b w w' := ⟨h.os, h.tape, h.output, h.size, fun k hk _ => h.block k hk⟩

set_option maxRecDepth 100000 in
set_option maxHeartbeats 1000000 in
theorem runit_list (b : Nat) (s : ByteArray) (n i : Nat) (w : World) (ih : Hid (RTypeSaid b s n)) (h : R0 b s i (-1) w) (hi : i ≤ s.size) (hs : s.size ≤ 50000) (hn : 3 * (s.size - i) + 1 ≤ n + 1) (H : Hid (chr s i = 91)) :
    Calls Tryd.prog 30 #[.pointer (some ⟨b, 0, none⟩)] w (RKPost b s (unOut s n i) i w) := by
  have hlt := h.lt
  have hlt0 : i < s.size := chr_in (by rw [H.out]; decide)
  have HV : Hid (unOut s n i = mapL (cbOut s n (i + 1) 93)) := un_L2 H.out
  go_enter Tryd.func30, Tryd.ntmps30
  go_wp2_with fail
  refine (ris_ok b s i 97 122 [] _ (h.alloc nilBox).toSt hi (by omega) (by decide)).mono ?_
  rintro e w' ⟨rfl, d, rfl⟩
  rw [show inR (chr s i) 97 122 = false from by rw [H.out]; decide]
  go_wp2_with fail
  refine (ris_ok b s i 73 73 [] _ ((h.alloc nilBox).drewN d).toSt hi (by omega) (by decide)).mono ?_
  rintro e w' ⟨rfl, d1, rfl⟩
  rw [inS_no (c := chr s i) (d := 73) (by rw [H.out]; decide)]
  go_wp2_with fail
  refine (ris_ok b s i 66 66 [] _ ((h.alloc nilBox).drewN _).toSt hi (by omega) (by decide)).mono ?_
  rintro e w' ⟨rfl, d2, rfl⟩
  rw [inS_no (c := chr s i) (d := 66) (by rw [H.out]; decide)]
  go_wp2_with fail
  refine (ggot_yes b s i 91 _ ((h.alloc nilBox).drewN _) (by omega) H.out (by decide)).mono ?_
  rintro e w1 ⟨rfl, h1, g1⟩
  have G1 : Gb b (w.alloc nilBox) w1 := (gb_drew _).trans g1
  clear g1
  go_wp2_with fail
  refine (ih.out (i + 1) _ h1 hlt0 (by omega)).mono ?_
  intro e w2 hp
  obtain ⟨g2, g, cap, u, rfl, R2, k2⟩ := hp.parts (pt_end hlt0)
  have G2 := G1.trans g2
  have hsm := k2.small
  have K2 : Hid (KS b s (pt s n 0 (i + 1) .nil) (i + 1) u w2) := k2
  clear hp k2 g2 h1
  go_wp2_with fail
  refine (must_any b s n (i + 1) 93 u _ R2.ok (K2.out.moved fun j bad r => r.alloc _) (by omega) (by decide)).mono ?_
  rintro e w4 ⟨rfl, g4, k4⟩
  have cb4 := cell_box (gb_box g4 K2.out.lt)
  have R4 : Rg g u w4 := (R2.alloc _).gb g4 (K2.out.ne R2)
  have G4 : Gb b (w.alloc nilBox) w4 := (G2.alloc _).trans g4
  have K4 : Hid (KS b s (mapL (cbOut s n (i + 1) 93)) i (tL u) w4) := k4.list R2.ok
  have LA := list_any u g cap w4 R4 (by omega)
  clear k4 g4 G2 R2 R4
  generalize tL u = T at K4 LA
  go_wp2_with fail
  refine LA.mono ?_
  rintro e w5 ⟨g5, cap5, rfl, R5, hg5, b5⟩
  have G5 : Gb b (w.alloc nilBox) w5 := G4.trans (gb_below b5)
  have hbx := gb_box G5 hlt
  have cb := cell_box hbx
  have fb := free_box hbx
  go_wp2_with fail
  refine ret_type rfl rfl (set_cell0 hbx) ?_
  rw [HV.out]
  exact RKPost.of (gb_fin G5 _) (R5.setBox (R5.neBox hbx) _) (K4.out.moved fun j bad r => (r.below b5).setFar (by omega) _)

set_option maxRecDepth 100000 in
set_option maxHeartbeats 1000000 in
theorem runit_paren (b : Nat) (s : ByteArray) (n i : Nat) (w : World) (ih : Hid (RTypeSaid b s n)) (h : R0 b s i (-1) w) (hi : i ≤ s.size) (hs : s.size ≤ 50000) (hn : 3 * (s.size - i) + 1 ≤ n + 1) (H : Hid (chr s i = 40)) :
    Calls Tryd.prog 30 #[.pointer (some ⟨b, 0, none⟩)] w (RKPost b s (unOut s n i) i w) := by
  have hlt := h.lt
  have hlt0 : i < s.size := chr_in (by rw [H.out]; decide)
  have HV : Hid (unOut s n i = cbOut s n (i + 1) 41) := un_C H.out
  go_enter Tryd.func30, Tryd.ntmps30
  go_wp2_with fail
  refine (ris_ok b s i 97 122 [] _ (h.alloc nilBox).toSt hi (by omega) (by decide)).mono ?_
  rintro e w' ⟨rfl, d, rfl⟩
  rw [show inR (chr s i) 97 122 = false from by rw [H.out]; decide]
  go_wp2_with fail
  refine (ris_ok b s i 73 73 [] _ ((h.alloc nilBox).drewN d).toSt hi (by omega) (by decide)).mono ?_
  rintro e w' ⟨rfl, d1, rfl⟩
  rw [inS_no (c := chr s i) (d := 73) (by rw [H.out]; decide)]
  go_wp2_with fail
  refine (ris_ok b s i 66 66 [] _ ((h.alloc nilBox).drewN _).toSt hi (by omega) (by decide)).mono ?_
  rintro e w' ⟨rfl, d2, rfl⟩
  rw [inS_no (c := chr s i) (d := 66) (by rw [H.out]; decide)]
  go_wp2_with fail
  refine (ggot_no b s i 91 _ ((h.alloc nilBox).drewN _) hi (by omega) (by rw [H.out]; decide) (by decide)).mono ?_
  rintro e w' ⟨rfl, d3, rfl⟩
  go_wp2_with fail
  refine (ggot_yes b s i 40 _ ((h.alloc nilBox).drewN _) (by omega) H.out (by decide)).mono ?_
  rintro e w1 ⟨rfl, h1, g1⟩
  have G1 : Gb b (w.alloc nilBox) w1 := (gb_drew _).trans g1
  clear g1
  go_wp2_with fail
  refine (ih.out (i + 1) _ h1 hlt0 (by omega)).mono ?_
  intro e w2 hp
  obtain ⟨g2, g, cap, u, rfl, R2, k2⟩ := hp.parts (pt_end hlt0)
  have G2 := G1.trans g2
  have hsm := k2.small
  have K2 : Hid (KS b s (pt s n 0 (i + 1) .nil) (i + 1) u w2) := k2
  clear hp k2 g2 h1
  go_wp2_with fail
  refine (must_any b s n (i + 1) 41 u _ R2.ok (K2.out.moved fun j bad r => r.alloc _) (by omega) (by decide)).mono ?_
  rintro e w4 ⟨rfl, g4, k4⟩
  have cb4 := cell_box (gb_box g4 K2.out.lt)
  have R4 : Rg g u w4 := (R2.alloc _).gb g4 (K2.out.ne R2)
  have G4 : Gb b (w.alloc nilBox) w4 := (G2.alloc _).trans g4
  have K4 : Hid (KS b s (cbOut s n (i + 1) 41) i u w4) := k4.back
  have hbx := gb_box G4 hlt
  have cb := cell_box hbx
  have fb := free_box hbx
  clear k4 g4 G2 R2
  go_wp2_with fail
  refine ret_type rfl rfl (set_cell0 hbx) ?_
  rw [HV.out]
  exact RKPost.of (gb_fin G4 _) (R4.setBox (R4.neBox hbx) _) (K4.out.moved fun j bad r => r.setFar (by omega) _)

theorem runit_any (b : Nat) (s : ByteArray) (n : Nat) (ih : RTypeSaid b s n) (hs : s.size ≤ 50000) : RUnitSaid b s (n + 1) := by
  intro i w h hi hn
  show Calls _ _ _ _ (RKPost b s (unOut s n i) i w)
  by_cases h1 : chr s i = 73
  · exact runit_leaf 0 73 (.inl ⟨rfl, rfl⟩) b s n i w h hi (by omega) h1
  by_cases h2 : chr s i = 66
  · exact runit_leaf 1 66 (.inr ⟨rfl, rfl⟩) b s n i w h hi (by omega) h2
  by_cases h3 : chr s i = 91
  · exact runit_list b s n i w ih h hi hs hn h3
  by_cases h4 : chr s i = 40
  · exact runit_paren b s n i w ih h hi hs hn h4
  cases hc : isLet (chr s i)
  · exact runit_none b s n i w h hi (by omega) h1 h2 h3 h4 hc
  · exact runit_let b s n i w h hi (by omega) hc
end Go.Proofs.YtceadeaodbadlaaDoor
