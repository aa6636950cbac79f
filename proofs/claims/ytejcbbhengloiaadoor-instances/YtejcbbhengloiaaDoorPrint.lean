import Derived.Test.YtejcbbhengloiaaDoorAs2
import Derived.Test.YtejcbbhengloiaaDoorReaders2
import Derived.Test.YtejcbbhengloiaaDoorWrite2
set_option linter.unusedVariables false
set_option linter.unusedSimpArgs false
namespace Go.Proofs.YtejcbbhengloiaaDoor
open Go.RowKit

/-- The errors that the package-level variables hold: two, in old memory. -/
structure Gs (tl tx : Addr) (w : World) : Prop extends Gl tl tx w where
  ne : tx ≠ tl
  lb : ∃ c t, w.heap[tl.block]? = some (.cells c t (0, 0))
  tb : ∃ c t, w.heap[tx.block]? = some (.cells c t (0, 0))

theorem Gs.below {tl tx : Addr} {w w' : World} (h : Gs tl tx w) (hb : Below w.heap.size w w') : Gs tl tx w' := by
  obtain ⟨c, t, hc⟩ := h.lb
  obtain ⟨c', t', hc'⟩ := h.tb
  exact ⟨h.toGl.below hb h.size, h.ne, ⟨c, t, (hb.block _ (Array.getElem?_eq_some_iff.1 hc).1).trans hc⟩, ⟨c', t', (hb.block _ (Array.getElem?_eq_some_iff.1 hc').1).trans hc'⟩⟩

theorem AtErr.cell0 {tx : Addr} {q i : Nat} {w : World} (h : AtErr tx q i w) : w.cell? ⟨q, 0, none⟩ = some (.int .i64 (i : Int)) := by
  unfold AtErr at h; simp [World.cell?, h]
theorem AtErr.cell1 {tx : Addr} {q i : Nat} {w : World} (h : AtErr tx q i w) : w.cell? ⟨q, 1, none⟩ = some (.iface 181 (.pointer (some tx))) := by
  unfold AtErr at h; simp [World.cell?, h]
theorem AtErr.lt {tx : Addr} {q i : Nat} {w : World} (h : AtErr tx q i w) : q < w.heap.size := (Array.getElem?_eq_some_iff.1 h).1

theorem cell_set_self {w : World} {b o : Nat} {u v : Value} (h : w.cell? ⟨b, o, none⟩ = some u) : (w.setCell ⟨b, o, none⟩ v).cell? ⟨b, o, none⟩ = some v := by
  cases hb : w.heap[b]? with
  | none => simp [World.cell?, hb] at h
  | some x =>
    cases x with
    | cells c e fz =>
      simp [World.cell?, hb] at h
      simp only [World.cell?, World.setCell, Array.getElem?_modify, hb]
      simp [(Array.getElem?_eq_some_iff.1 h).1]
    | _ => simp [World.cell?, hb] at h

set_option maxHeartbeats 400000 in
theorem number_nil (tl tx : Addr) (w : World) (g : Gs tl tx w) :
    Calls Tryd.prog 12 #[.nilIface] w fun e w' => e = .returned (.int .i64 0) ∧ w' = w := by
  have h0 := g.long
  have h1 := g.text
  go_enter Tryd.func12, Tryd.ntmps12
  go_wp2_with fail
  refine (is_nil tl _).mono ?_
  rintro e w' ⟨rfl, rfl⟩
  go_wp2_with fail
  refine (is_nil tx _).mono ?_
  rintro e w' ⟨rfl, rfl⟩
  go_wp2_with fail
  go_ret
  exact ⟨rfl, rfl⟩

set_option maxHeartbeats 400000 in
theorem number_long (tl tx : Addr) (w : World) (g : Gs tl tx w) :
    Calls Tryd.prog 12 #[.iface 181 (.pointer (some tl))] w fun e w' => e = .returned (.int .i64 1) ∧ w' = w := by
  have h0 := g.long
  go_enter Tryd.func12, Tryd.ntmps12
  go_wp2_with fail
  refine (is_same tl _).mono ?_
  rintro e w' ⟨rfl, rfl⟩
  go_wp2_with fail
  go_ret
  exact ⟨rfl, rfl⟩

set_option maxHeartbeats 400000 in
theorem number_at (tl tx : Addr) (q i : Nat) (w : World) (g : Gs tl tx w) (h : AtErr tx q i w) :
    Calls Tryd.prog 12 #[atv q] w fun e w' => e = .returned (.int .i64 2) ∧ w' = w := by
  have h0 := g.long
  have h1 := g.text
  have c1 := h.cell1
  obtain ⟨ca, ta, hla⟩ := g.lb
  obtain ⟨cb, tb, hlb⟩ := g.tb
  go_enter Tryd.func12, Tryd.ntmps12
  go_wp2_with fail
  refine (is_wrap_other q tl tx cb ca tb ta _ c1 g.ne hlb hla).mono ?_
  rintro e w' ⟨rfl, rfl⟩
  go_wp2_with fail
  refine (is_wrap_same q tx _ c1).mono ?_
  rintro e w' ⟨rfl, rfl⟩
  go_wp2_with fail
  go_ret
  exact ⟨rfl, rfl⟩

set_option maxHeartbeats 400000 in
theorem place_nil (w : World) :
    Calls Tryd.prog 13 #[.nilIface] w fun e w' => e = .returned (.int .i64 0) ∧ Below w.heap.size w w' := by
  go_enter Tryd.func13, Tryd.ntmps13
  go_wp2_with fail
  refine (as_nil _ _).mono ?_
  rintro e w' ⟨rfl, rfl⟩
  go_wp2_with fail
  go_ret
  exact ⟨rfl, (Below.refl _ w).alloc (Nat.le_refl _) _⟩

set_option maxHeartbeats 400000 in
theorem place_long (tl tx : Addr) (w : World) (g : Gs tl tx w) :
    Calls Tryd.prog 13 #[.iface 181 (.pointer (some tl))] w fun e w' => e = .returned (.int .i64 0) ∧ Below w.heap.size w w' := by
  have h2 : (w.alloc (.cells #[.pointer none] 59)).cell? ⟨2, 0, none⟩ = some (.iface 132 (.agg #[.pointer (some ⟨4, 36, none⟩)])) := by
    rw [World.cell?_alloc_lt _ _ ⟨2, 0, none⟩ (by have := g.size; show 2 < _; omega)]; exact g.hand
  go_enter Tryd.func13, Tryd.ntmps13
  go_wp2_with fail
  refine (as_miss tl _ _ h2).mono ?_
  rintro e w' ⟨rfl, rfl⟩
  go_wp2_with fail
  go_ret
  exact ⟨rfl, ((((Below.refl _ w).alloc (Nat.le_refl _) _).alloc (by simp) _).alloc (by simp; omega) _).alloc (by simp; omega) _⟩

set_option maxHeartbeats 400000 in
theorem place_at (tl tx : Addr) (q i : Nat) (w : World) (g : Gs tl tx w) (h : AtErr tx q i w) :
    Calls Tryd.prog 13 #[atv q] w fun e w' => e = .returned (.int .i64 i) ∧ Below w.heap.size w w' := by
  have h2 : (w.alloc (.cells #[.pointer none] 59)).cell? ⟨2, 0, none⟩ = some (.iface 132 (.agg #[.pointer (some ⟨4, 36, none⟩)])) := by
    rw [World.cell?_alloc_lt _ _ ⟨2, 0, none⟩ (by have := g.size; show 2 < _; omega)]; exact g.hand
  have hq := h.lt
  have c0 := h.cell0
  go_enter Tryd.func13, Tryd.ntmps13
  go_wp2_with fail
  refine (as_hit ⟨q, 0, none⟩ ⟨w.heap.size, 0, none⟩ (.pointer none) _ h2 (by simp) (by simp)).mono ?_
  rintro e w' ⟨rfl, hw⟩
  have hb : Below w.heap.size w w' := by
    rw [hw]
    exact (((((Below.refl _ w).alloc (Nat.le_refl _) _).alloc (by simp) _).alloc (by simp; omega) _).alloc (by simp; omega) _).alloc (by simp; omega) _ |>.setCell (Nat.le_refl _) _
  have k0 : w'.cell? ⟨w.heap.size, 0, none⟩ = some (.pointer (some ⟨q, 0, none⟩)) := by
    rw [hw]
    refine cell_set_self (u := .pointer none) ?_
    rw [World.cell?_alloc_lt _ _ _ (by simp; omega), World.cell?_alloc_lt _ _ _ (by simp; omega), World.cell?_alloc_lt _ _ _ (by simp; omega), World.cell?_alloc_lt _ _ _ (by simp)]
    simp
  have k1 : w'.cell? ⟨q, 0, none⟩ = some (.int .i64 (i : Int)) := (hb.cell (p := ⟨q, 0, none⟩) hq).trans c0
  clear hw h2 c0 g h
  go_wp2_with fail
  go_ret
  exact ⟨rfl, hb⟩
end Go.Proofs.YtejcbbhengloiaaDoor
