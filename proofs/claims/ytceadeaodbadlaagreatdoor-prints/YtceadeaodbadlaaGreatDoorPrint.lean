import Derived.Test.YtceadeaodbadlaaGreatDoorAs2
set_option linter.unusedVariables false
set_option linter.unusedSimpArgs false
namespace Go.Proofs.YtceadeaodbadlaaGreatDoor
open Go.RowKit

/-- The errors that the package-level variables hold: eight, in old memory. -/
structure Gs (tx : Nat → Addr) (w : World) : Prop extends Gl tx w where
  ne : ∀ j k, j < 8 → k < 8 → j ≠ k → tx j ≠ tx k
  bl : ∀ k, k < 8 → ∃ c t, w.heap[(tx k).block]? = some (.cells c t (0, 0))

theorem Gs.below {tx : Nat → Addr} {w w' : World} (h : Gs tx w) (hb : Below w.heap.size w w') : Gs tx w' := by
  refine ⟨h.toGl.below hb h.size, h.ne, fun k hk => ?_⟩
  obtain ⟨c, t, hc⟩ := h.bl k hk
  exact ⟨c, t, (hb.block _ (Array.getElem?_eq_some_iff.1 hc).1).trans hc⟩

/-- The number of an error. -/
def numOf (k : Nat) : Nat := k + 1

theorem AtErr.cell0 {a : Addr} {q i : Nat} {w : World} (h : AtErr a q i w) : w.cell? ⟨q, 0, none⟩ = some (.int .i64 (i : Int)) := by
  unfold AtErr at h; simp [World.cell?, h]
theorem AtErr.cell1 {a : Addr} {q i : Nat} {w : World} (h : AtErr a q i w) : w.cell? ⟨q, 1, none⟩ = some (.iface 353 (.pointer (some a))) := by
  unfold AtErr at h; simp [World.cell?, h]
theorem AtErr.lt {a : Addr} {q i : Nat} {w : World} (h : AtErr a q i w) : q < w.heap.size := (Array.getElem?_eq_some_iff.1 h).1

theorem cell_set_self {w : World} {b o : Nat} {u v : Value} (h : w.cell? ⟨b, o, none⟩ = some u) : (w.setCell ⟨b, o, none⟩ v).cell? ⟨b, o, none⟩ = some v := by
  cases hb : w.heap[b]? with
  | none => simp [World.cell?, hb] at h
  | some x =>
    cases x with
    | cells c e fz =>
      simp [World.cell?, hb] at h
      simp only [World.cell?, World.setCell, Array.getElem?_modify, hb]
      simp [(Array.getElem?_eq_some_iff.1 h).1]
    | _ => simp [World.cell?, hb] at h

set_option maxHeartbeats 1000000 in
theorem number_nil (tx : Nat → Addr) (w : World) (g : Gs tx w) :
    Calls Tryz.prog 31 #[.nilIface] w fun e w' => e = .returned (.int .i64 0) ∧ w' = w := by
  have h0 := g.errs 0 (by decide)
  have h1 := g.errs 1 (by decide)
  have h2 := g.errs 2 (by decide)
  have h3 := g.errs 3 (by decide)
  have h4 := g.errs 4 (by decide)
  have h5 := g.errs 5 (by decide)
  have h6 := g.errs 6 (by decide)
  have h7 := g.errs 7 (by decide)
  go_enter Tryz.func31, Tryz.ntmps31
  go_wp2_with fail
  refine (is_nil (tx 0) _).mono ?_
  rintro e w' ⟨rfl, rfl⟩
  go_wp2_with fail
  refine (is_nil (tx 1) _).mono ?_
  rintro e w' ⟨rfl, rfl⟩
  go_wp2_with fail
  refine (is_nil (tx 2) _).mono ?_
  rintro e w' ⟨rfl, rfl⟩
  go_wp2_with fail
  refine (is_nil (tx 3) _).mono ?_
  rintro e w' ⟨rfl, rfl⟩
  go_wp2_with fail
  refine (is_nil (tx 4) _).mono ?_
  rintro e w' ⟨rfl, rfl⟩
  go_wp2_with fail
  refine (is_nil (tx 5) _).mono ?_
  rintro e w' ⟨rfl, rfl⟩
  go_wp2_with fail
  refine (is_nil (tx 6) _).mono ?_
  rintro e w' ⟨rfl, rfl⟩
  go_wp2_with fail
  refine (is_nil (tx 7) _).mono ?_
  rintro e w' ⟨rfl, rfl⟩
  go_wp2_with fail
  go_ret
  exact ⟨rfl, rfl⟩

set_option maxHeartbeats 400000 in
theorem number_long (tx : Nat → Addr) (w : World) (g : Gs tx w) :
    Calls Tryz.prog 31 #[.iface 353 (.pointer (some (tx 0)))] w fun e w' => e = .returned (.int .i64 1) ∧ w' = w := by
  have h0 := g.long
  go_enter Tryz.func31, Tryz.ntmps31
  go_wp2_with fail
  refine (is_same (tx 0) _).mono ?_
  rintro e w' ⟨rfl, rfl⟩
  go_wp2_with fail
  go_ret
  exact ⟨rfl, rfl⟩

set_option maxHeartbeats 1000000 in
theorem number_at1 (tx : Nat → Addr) (q i : Nat) (w : World) (g : Gs tx w) (h : AtErr (tx 1) q i w) :
    Calls Tryz.prog 31 #[atv q] w fun e w' => e = .returned (.int .i64 2) ∧ w' = w := by
  have h0 := g.errs 0 (by decide)
  have h1 := g.errs 1 (by decide)
  have c1 := h.cell1
  obtain ⟨ck, tk, hk⟩ := g.bl 1 (by decide)
  go_enter Tryz.func31, Tryz.ntmps31
  obtain ⟨c0', t0', hb0⟩ := g.bl 0 (by decide)
  go_wp2_with fail
  refine (is_wrap_other q (tx 0) (tx 1) ck c0' tk t0' _ c1 (g.ne 1 0 (by decide) (by decide) (by decide)) hk hb0).mono ?_
  rintro e w' ⟨rfl, rfl⟩
  go_wp2_with fail
  refine (is_wrap_same q (tx 1) _ c1).mono ?_
  rintro e w' ⟨rfl, rfl⟩
  go_wp2_with fail
  go_ret
  exact ⟨rfl, rfl⟩

set_option maxHeartbeats 1000000 in
theorem number_at2 (tx : Nat → Addr) (q i : Nat) (w : World) (g : Gs tx w) (h : AtErr (tx 2) q i w) :
    Calls Tryz.prog 31 #[atv q] w fun e w' => e = .returned (.int .i64 3) ∧ w' = w := by
  have h0 := g.errs 0 (by decide)
  have h1 := g.errs 1 (by decide)
  have h2 := g.errs 2 (by decide)
  have c1 := h.cell1
  obtain ⟨ck, tk, hk⟩ := g.bl 2 (by decide)
  go_enter Tryz.func31, Tryz.ntmps31
  obtain ⟨c0', t0', hb0⟩ := g.bl 0 (by decide)
  go_wp2_with fail
  refine (is_wrap_other q (tx 0) (tx 2) ck c0' tk t0' _ c1 (g.ne 2 0 (by decide) (by decide) (by decide)) hk hb0).mono ?_
  rintro e w' ⟨rfl, rfl⟩
  obtain ⟨c1', t1', hb1⟩ := g.bl 1 (by decide)
  go_wp2_with fail
  refine (is_wrap_other q (tx 1) (tx 2) ck c1' tk t1' _ c1 (g.ne 2 1 (by decide) (by decide) (by decide)) hk hb1).mono ?_
  rintro e w' ⟨rfl, rfl⟩
  go_wp2_with fail
  refine (is_wrap_same q (tx 2) _ c1).mono ?_
  rintro e w' ⟨rfl, rfl⟩
  go_wp2_with fail
  go_ret
  exact ⟨rfl, rfl⟩

set_option maxHeartbeats 1000000 in
theorem number_at3 (tx : Nat → Addr) (q i : Nat) (w : World) (g : Gs tx w) (h : AtErr (tx 3) q i w) :
    Calls Tryz.prog 31 #[atv q] w fun e w' => e = .returned (.int .i64 4) ∧ w' = w := by
  have h0 := g.errs 0 (by decide)
  have h1 := g.errs 1 (by decide)
  have h2 := g.errs 2 (by decide)
  have h3 := g.errs 3 (by decide)
  have c1 := h.cell1
  obtain ⟨ck, tk, hk⟩ := g.bl 3 (by decide)
  go_enter Tryz.func31, Tryz.ntmps31
  obtain ⟨c0', t0', hb0⟩ := g.bl 0 (by decide)
  go_wp2_with fail
  refine (is_wrap_other q (tx 0) (tx 3) ck c0' tk t0' _ c1 (g.ne 3 0 (by decide) (by decide) (by decide)) hk hb0).mono ?_
  rintro e w' ⟨rfl, rfl⟩
  obtain ⟨c1', t1', hb1⟩ := g.bl 1 (by decide)
  go_wp2_with fail
  refine (is_wrap_other q (tx 1) (tx 3) ck c1' tk t1' _ c1 (g.ne 3 1 (by decide) (by decide) (by decide)) hk hb1).mono ?_
  rintro e w' ⟨rfl, rfl⟩
  obtain ⟨c2', t2', hb2⟩ := g.bl 2 (by decide)
  go_wp2_with fail
  refine (is_wrap_other q (tx 2) (tx 3) ck c2' tk t2' _ c1 (g.ne 3 2 (by decide) (by decide) (by decide)) hk hb2).mono ?_
  rintro e w' ⟨rfl, rfl⟩
  go_wp2_with fail
  refine (is_wrap_same q (tx 3) _ c1).mono ?_
  rintro e w' ⟨rfl, rfl⟩
  go_wp2_with fail
  go_ret
  exact ⟨rfl, rfl⟩

set_option maxHeartbeats 1000000 in
theorem number_at4 (tx : Nat → Addr) (q i : Nat) (w : World) (g : Gs tx w) (h : AtErr (tx 4) q i w) :
    Calls Tryz.prog 31 #[atv q] w fun e w' => e = .returned (.int .i64 5) ∧ w' = w := by
  have h0 := g.errs 0 (by decide)
  have h1 := g.errs 1 (by decide)
  have h2 := g.errs 2 (by decide)
  have h3 := g.errs 3 (by decide)
  have h4 := g.errs 4 (by decide)
  have c1 := h.cell1
  obtain ⟨ck, tk, hk⟩ := g.bl 4 (by decide)
  go_enter Tryz.func31, Tryz.ntmps31
  obtain ⟨c0', t0', hb0⟩ := g.bl 0 (by decide)
  go_wp2_with fail
  refine (is_wrap_other q (tx 0) (tx 4) ck c0' tk t0' _ c1 (g.ne 4 0 (by decide) (by decide) (by decide)) hk hb0).mono ?_
  rintro e w' ⟨rfl, rfl⟩
  obtain ⟨c1', t1', hb1⟩ := g.bl 1 (by decide)
  go_wp2_with fail
  refine (is_wrap_other q (tx 1) (tx 4) ck c1' tk t1' _ c1 (g.ne 4 1 (by decide) (by decide) (by decide)) hk hb1).mono ?_
  rintro e w' ⟨rfl, rfl⟩
  obtain ⟨c2', t2', hb2⟩ := g.bl 2 (by decide)
  go_wp2_with fail
  refine (is_wrap_other q (tx 2) (tx 4) ck c2' tk t2' _ c1 (g.ne 4 2 (by decide) (by decide) (by decide)) hk hb2).mono ?_
  rintro e w' ⟨rfl, rfl⟩
  obtain ⟨c3', t3', hb3⟩ := g.bl 3 (by decide)
  go_wp2_with fail
  refine (is_wrap_other q (tx 3) (tx 4) ck c3' tk t3' _ c1 (g.ne 4 3 (by decide) (by decide) (by decide)) hk hb3).mono ?_
  rintro e w' ⟨rfl, rfl⟩
  go_wp2_with fail
  refine (is_wrap_same q (tx 4) _ c1).mono ?_
  rintro e w' ⟨rfl, rfl⟩
  go_wp2_with fail
  go_ret
  exact ⟨rfl, rfl⟩

set_option maxHeartbeats 1000000 in
theorem number_at5 (tx : Nat → Addr) (q i : Nat) (w : World) (g : Gs tx w) (h : AtErr (tx 5) q i w) :
    Calls Tryz.prog 31 #[atv q] w fun e w' => e = .returned (.int .i64 6) ∧ w' = w := by
  have h0 := g.errs 0 (by decide)
  have h1 := g.errs 1 (by decide)
  have h2 := g.errs 2 (by decide)
  have h3 := g.errs 3 (by decide)
  have h4 := g.errs 4 (by decide)
  have h5 := g.errs 5 (by decide)
  have c1 := h.cell1
  obtain ⟨ck, tk, hk⟩ := g.bl 5 (by decide)
  go_enter Tryz.func31, Tryz.ntmps31
  obtain ⟨c0', t0', hb0⟩ := g.bl 0 (by decide)
  go_wp2_with fail
  refine (is_wrap_other q (tx 0) (tx 5) ck c0' tk t0' _ c1 (g.ne 5 0 (by decide) (by decide) (by decide)) hk hb0).mono ?_
  rintro e w' ⟨rfl, rfl⟩
  obtain ⟨c1', t1', hb1⟩ := g.bl 1 (by decide)
  go_wp2_with fail
  refine (is_wrap_other q (tx 1) (tx 5) ck c1' tk t1' _ c1 (g.ne 5 1 (by decide) (by decide) (by decide)) hk hb1).mono ?_
  rintro e w' ⟨rfl, rfl⟩
  obtain ⟨c2', t2', hb2⟩ := g.bl 2 (by decide)
  go_wp2_with fail
  refine (is_wrap_other q (tx 2) (tx 5) ck c2' tk t2' _ c1 (g.ne 5 2 (by decide) (by decide) (by decide)) hk hb2).mono ?_
  rintro e w' ⟨rfl, rfl⟩
  obtain ⟨c3', t3', hb3⟩ := g.bl 3 (by decide)
  go_wp2_with fail
  refine (is_wrap_other q (tx 3) (tx 5) ck c3' tk t3' _ c1 (g.ne 5 3 (by decide) (by decide) (by decide)) hk hb3).mono ?_
  rintro e w' ⟨rfl, rfl⟩
  obtain ⟨c4', t4', hb4⟩ := g.bl 4 (by decide)
  go_wp2_with fail
  refine (is_wrap_other q (tx 4) (tx 5) ck c4' tk t4' _ c1 (g.ne 5 4 (by decide) (by decide) (by decide)) hk hb4).mono ?_
  rintro e w' ⟨rfl, rfl⟩
  go_wp2_with fail
  refine (is_wrap_same q (tx 5) _ c1).mono ?_
  rintro e w' ⟨rfl, rfl⟩
  go_wp2_with fail
  go_ret
  exact ⟨rfl, rfl⟩

set_option maxHeartbeats 1000000 in
theorem number_at6 (tx : Nat → Addr) (q i : Nat) (w : World) (g : Gs tx w) (h : AtErr (tx 6) q i w) :
    Calls Tryz.prog 31 #[atv q] w fun e w' => e = .returned (.int .i64 7) ∧ w' = w := by
  have h0 := g.errs 0 (by decide)
  have h1 := g.errs 1 (by decide)
  have h2 := g.errs 2 (by decide)
  have h3 := g.errs 3 (by decide)
  have h4 := g.errs 4 (by decide)
  have h5 := g.errs 5 (by decide)
  have h6 := g.errs 6 (by decide)
  have c1 := h.cell1
  obtain ⟨ck, tk, hk⟩ := g.bl 6 (by decide)
  go_enter Tryz.func31, Tryz.ntmps31
  obtain ⟨c0', t0', hb0⟩ := g.bl 0 (by decide)
  go_wp2_with fail
  refine (is_wrap_other q (tx 0) (tx 6) ck c0' tk t0' _ c1 (g.ne 6 0 (by decide) (by decide) (by decide)) hk hb0).mono ?_
  rintro e w' ⟨rfl, rfl⟩
  obtain ⟨c1', t1', hb1⟩ := g.bl 1 (by decide)
  go_wp2_with fail
  refine (is_wrap_other q (tx 1) (tx 6) ck c1' tk t1' _ c1 (g.ne 6 1 (by decide) (by decide) (by decide)) hk hb1).mono ?_
  rintro e w' ⟨rfl, rfl⟩
  obtain ⟨c2', t2', hb2⟩ := g.bl 2 (by decide)
  go_wp2_with fail
  refine (is_wrap_other q (tx 2) (tx 6) ck c2' tk t2' _ c1 (g.ne 6 2 (by decide) (by decide) (by decide)) hk hb2).mono ?_
  rintro e w' ⟨rfl, rfl⟩
  obtain ⟨c3', t3', hb3⟩ := g.bl 3 (by decide)
  go_wp2_with fail
  refine (is_wrap_other q (tx 3) (tx 6) ck c3' tk t3' _ c1 (g.ne 6 3 (by decide) (by decide) (by decide)) hk hb3).mono ?_
  rintro e w' ⟨rfl, rfl⟩
  obtain ⟨c4', t4', hb4⟩ := g.bl 4 (by decide)
  go_wp2_with fail
  refine (is_wrap_other q (tx 4) (tx 6) ck c4' tk t4' _ c1 (g.ne 6 4 (by decide) (by decide) (by decide)) hk hb4).mono ?_
  rintro e w' ⟨rfl, rfl⟩
  obtain ⟨c5', t5', hb5⟩ := g.bl 5 (by decide)
  go_wp2_with fail
  refine (is_wrap_other q (tx 5) (tx 6) ck c5' tk t5' _ c1 (g.ne 6 5 (by decide) (by decide) (by decide)) hk hb5).mono ?_
  rintro e w' ⟨rfl, rfl⟩
  go_wp2_with fail
  refine (is_wrap_same q (tx 6) _ c1).mono ?_
  rintro e w' ⟨rfl, rfl⟩
  go_wp2_with fail
  go_ret
  exact ⟨rfl, rfl⟩

set_option maxHeartbeats 1000000 in
theorem number_at7 (tx : Nat → Addr) (q i : Nat) (w : World) (g : Gs tx w) (h : AtErr (tx 7) q i w) :
    Calls Tryz.prog 31 #[atv q] w fun e w' => e = .returned (.int .i64 8) ∧ w' = w := by
  have h0 := g.errs 0 (by decide)
  have h1 := g.errs 1 (by decide)
  have h2 := g.errs 2 (by decide)
  have h3 := g.errs 3 (by decide)
  have h4 := g.errs 4 (by decide)
  have h5 := g.errs 5 (by decide)
  have h6 := g.errs 6 (by decide)
  have h7 := g.errs 7 (by decide)
  have c1 := h.cell1
  obtain ⟨ck, tk, hk⟩ := g.bl 7 (by decide)
  go_enter Tryz.func31, Tryz.ntmps31
  obtain ⟨c0', t0', hb0⟩ := g.bl 0 (by decide)
  go_wp2_with fail
  refine (is_wrap_other q (tx 0) (tx 7) ck c0' tk t0' _ c1 (g.ne 7 0 (by decide) (by decide) (by decide)) hk hb0).mono ?_
  rintro e w' ⟨rfl, rfl⟩
  obtain ⟨c1', t1', hb1⟩ := g.bl 1 (by decide)
  go_wp2_with fail
  refine (is_wrap_other q (tx 1) (tx 7) ck c1' tk t1' _ c1 (g.ne 7 1 (by decide) (by decide) (by decide)) hk hb1).mono ?_
  rintro e w' ⟨rfl, rfl⟩
  obtain ⟨c2', t2', hb2⟩ := g.bl 2 (by decide)
  go_wp2_with fail
  refine (is_wrap_other q (tx 2) (tx 7) ck c2' tk t2' _ c1 (g.ne 7 2 (by decide) (by decide) (by decide)) hk hb2).mono ?_
  rintro e w' ⟨rfl, rfl⟩
  obtain ⟨c3', t3', hb3⟩ := g.bl 3 (by decide)
  go_wp2_with fail
  refine (is_wrap_other q (tx 3) (tx 7) ck c3' tk t3' _ c1 (g.ne 7 3 (by decide) (by decide) (by decide)) hk hb3).mono ?_
  rintro e w' ⟨rfl, rfl⟩
  obtain ⟨c4', t4', hb4⟩ := g.bl 4 (by decide)
  go_wp2_with fail
  refine (is_wrap_other q (tx 4) (tx 7) ck c4' tk t4' _ c1 (g.ne 7 4 (by decide) (by decide) (by decide)) hk hb4).mono ?_
  rintro e w' ⟨rfl, rfl⟩
  obtain ⟨c5', t5', hb5⟩ := g.bl 5 (by decide)
  go_wp2_with fail
  refine (is_wrap_other q (tx 5) (tx 7) ck c5' tk t5' _ c1 (g.ne 7 5 (by decide) (by decide) (by decide)) hk hb5).mono ?_
  rintro e w' ⟨rfl, rfl⟩
  obtain ⟨c6', t6', hb6⟩ := g.bl 6 (by decide)
  go_wp2_with fail
  refine (is_wrap_other q (tx 6) (tx 7) ck c6' tk t6' _ c1 (g.ne 7 6 (by decide) (by decide) (by decide)) hk hb6).mono ?_
  rintro e w' ⟨rfl, rfl⟩
  go_wp2_with fail
  refine (is_wrap_same q (tx 7) _ c1).mono ?_
  rintro e w' ⟨rfl, rfl⟩
  go_wp2_with fail
  go_ret
  exact ⟨rfl, rfl⟩

theorem number_at (tx : Nat → Addr) (k q i : Nat) (w : World) (g : Gs tx w) (h1 : 1 ≤ k) (h7 : k < 8) (h : AtErr (tx k) q i w) :
    Calls Tryz.prog 31 #[atv q] w fun e w' => e = .returned (.int .i64 (numOf k : Int)) ∧ w' = w := by
  match k, h1, h7, h with
  | 1, _, _, h => exact number_at1 tx q i w g h
  | 2, _, _, h => exact number_at2 tx q i w g h
  | 3, _, _, h => exact number_at3 tx q i w g h
  | 4, _, _, h => exact number_at4 tx q i w g h
  | 5, _, _, h => exact number_at5 tx q i w g h
  | 6, _, _, h => exact number_at6 tx q i w g h
  | 7, _, _, h => exact number_at7 tx q i w g h
  | n + 8, _, h7, _ => omega

set_option maxHeartbeats 400000 in
theorem place_nil (w : World) :
    Calls Tryz.prog 32 #[.nilIface] w fun e w' => e = .returned (.int .i64 0) ∧ Below w.heap.size w w' := by
  go_enter Tryz.func32, Tryz.ntmps32
  go_wp2_with fail
  refine (as_nil _ _).mono ?_
  rintro e w' ⟨rfl, rfl⟩
  go_wp2_with fail
  go_ret
  exact ⟨rfl, (Below.refl _ w).alloc (Nat.le_refl _) _⟩

set_option maxHeartbeats 400000 in
theorem place_long (tx : Nat → Addr) (w : World) (g : Gs tx w) :
    Calls Tryz.prog 32 #[.iface 353 (.pointer (some (tx 0)))] w fun e w' => e = .returned (.int .i64 0) ∧ Below w.heap.size w w' := by
  have h2 : (w.alloc (.cells #[.pointer none] 87)).cell? ⟨8, 0, none⟩ = some (.iface 190 (.agg #[.pointer (some ⟨11, 55, none⟩)])) := by
    rw [World.cell?_alloc_lt _ _ ⟨8, 0, none⟩ (by have := g.size; show 8 < _; omega)]; exact g.hand
  go_enter Tryz.func32, Tryz.ntmps32
  go_wp2_with fail
  refine (as_miss (tx 0) _ _ h2).mono ?_
  rintro e w' ⟨rfl, rfl⟩
  go_wp2_with fail
  go_ret
  exact ⟨rfl, ((((Below.refl _ w).alloc (Nat.le_refl _) _).alloc (by simp) _).alloc (by simp; omega) _).alloc (by simp; omega) _⟩

set_option maxHeartbeats 400000 in
theorem place_at (tx : Nat → Addr) (a : Addr) (q i : Nat) (w : World) (g : Gs tx w) (h : AtErr a q i w) :
    Calls Tryz.prog 32 #[atv q] w fun e w' => e = .returned (.int .i64 i) ∧ Below w.heap.size w w' := by
  have h2 : (w.alloc (.cells #[.pointer none] 87)).cell? ⟨8, 0, none⟩ = some (.iface 190 (.agg #[.pointer (some ⟨11, 55, none⟩)])) := by
    rw [World.cell?_alloc_lt _ _ ⟨8, 0, none⟩ (by have := g.size; show 8 < _; omega)]; exact g.hand
  have hq := h.lt
  have c0 := h.cell0
  go_enter Tryz.func32, Tryz.ntmps32
  go_wp2_with fail
  refine (as_hit ⟨q, 0, none⟩ ⟨w.heap.size, 0, none⟩ (.pointer none) _ h2 (by simp) (by simp)).mono ?_
  rintro e w' ⟨rfl, hw⟩
  have hb : Below w.heap.size w w' := by
    rw [hw]
    exact (((((Below.refl _ w).alloc (Nat.le_refl _) _).alloc (by simp) _).alloc (by simp; omega) _).alloc (by simp; omega) _).alloc (by simp; omega) _ |>.setCell (Nat.le_refl _) _
  have k0 : w'.cell? ⟨w.heap.size, 0, none⟩ = some (.pointer (some ⟨q, 0, none⟩)) := by
    rw [hw]
    refine cell_set_self (u := .pointer none) ?_
    rw [World.cell?_alloc_lt _ _ _ (by simp; omega), World.cell?_alloc_lt _ _ _ (by simp; omega), World.cell?_alloc_lt _ _ _ (by simp; omega), World.cell?_alloc_lt _ _ _ (by simp)]
    simp
  have k1 : w'.cell? ⟨q, 0, none⟩ = some (.int .i64 (i : Int)) := (hb.cell (p := ⟨q, 0, none⟩) hq).trans c0
  clear hw h2 c0 g h
  go_wp2_with fail
  go_ret
  exact ⟨rfl, hb⟩
end Go.Proofs.YtceadeaodbadlaaGreatDoor
