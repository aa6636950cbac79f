import Derived.Test.YtceadeaodbadlaaGreatDoorAsserts2
set_option linter.unusedVariables false
set_option linter.unusedSimpArgs false
namespace Go.Proofs.YtceadeaodbadlaaGreatDoor
open Go.RowKit

/-- What nodeOf answers: none; the part of a type that keeps what a visit finds. -/
theorem nodeOf_leaf (T : TypeId) (x : Value) (w : World) (h1 : T ≠ 256) (h2 : T ≠ 259) (h3 : T ≠ 243) :
    Calls Tryz.prog 131 #[.iface T x] w fun e w' => e = .returned (.pointer none) ∧ w' = w := by
  have a1 := fun w => tm_List x h1 w
  have a2 := fun w => tm_Pair x h2 w
  have a3 := fun w => tm_Function x h3 w
  go_enter Tryz.func131, Tryz.ntmps131
  go_wp2
  go_ret
  exact ⟨rfl, rfl⟩
theorem nodeOf_L (q : Nat) (w : World) :
    Calls Tryz.prog 131 #[viL q] w fun e w' => e = .returned (.pointer (some ⟨q, 1, none⟩)) ∧ w' = w := by
  have a1 := th_List
  go_enter Tryz.func131, Tryz.ntmps131
  go_wp2
  go_ret
  exact ⟨rfl, rfl⟩
theorem nodeOf_P (q : Nat) (w : World) :
    Calls Tryz.prog 131 #[viP q] w fun e w' => e = .returned (.pointer (some ⟨q, 2, none⟩)) ∧ w' = w := by
  have a1 := fun v => tm_List (T := 259) v (by decide)
  have a2 := th_Pair
  go_enter Tryz.func131, Tryz.ntmps131
  go_wp2
  go_ret
  exact ⟨rfl, rfl⟩
theorem nodeOf_F (q : Nat) (w : World) :
    Calls Tryz.prog 131 #[viF q] w fun e w' => e = .returned (.pointer (some ⟨q, 2, none⟩)) ∧ w' = w := by
  have a1 := fun v => tm_List (T := 243) v (by decide)
  have a2 := fun v => tm_Pair (T := 243) v (by decide)
  have a3 := th_Function
  go_enter Tryz.func131, Tryz.ntmps131
  go_wp2
  go_ret
  exact ⟨rfl, rfl⟩

theorem nodes_leaf (T : TypeId) (x : Value) (w : World) (h1 : T ≠ 256) (h2 : T ≠ 259) (h3 : T ≠ 243) :
    Calls Tryz.prog 193 #[.iface T x] w fun e w' => e = .returned (.int .i64 1) ∧ w' = w := by
  have n := nodeOf_leaf T x w h1 h2 h3
  clear h1 h2 h3
  go_enter Tryz.func193, Tryz.ntmps193
  go_wp2_with fail
  refine n.mono ?_
  rintro e w' ⟨rfl, rfl⟩
  go_wp2_with fail
  go_ret
  exact ⟨rfl, rfl⟩

theorem nodes_any (t : Ty) (v : Value) (w : World) (ht : Ok t) (h : Tv w t v) :
    Calls Tryz.prog 193 #[v] w fun e w' => e = .returned (.int .i64 (sz t : Int)) ∧ w' = w := by
  rcases ht.cases with rfl | rfl | ⟨o, _, _, rfl⟩ | ⟨a, ha, rfl⟩ | ⟨a, b, ha, hb, rfl⟩ | ⟨a, b, ha, hb, rfl⟩
  · rw [h.isI]; exact nodes_leaf _ _ w (by decide) (by decide) (by decide)
  · rw [h.isB]; exact nodes_leaf _ _ w (by decide) (by decide) (by decide)
  · rw [h.isV]; exact nodes_leaf _ _ w (by decide) (by decide) (by decide)
  · obtain ⟨q, x, rfl, hq, _⟩ := h.isL
    generalize sz (tL a) = n at *
    have c1 : w.cell? ⟨q, 1, none⟩ = some (.int .i64 (n : Int)) := by rw [Lib.cell_of_heap hq]; rfl
    clear hq h
    go_enter Tryz.func193, Tryz.ntmps193
    go_wp2_with fail
    refine (nodeOf_L q w).mono ?_
    rintro e w' ⟨rfl, rfl⟩
    go_wp2_with fail
    go_ret
    exact ⟨rfl, rfl⟩
  · obtain ⟨q, x, y, rfl, hq, _⟩ := h.isP
    generalize sz (tP a b) = n at *
    have c1 : w.cell? ⟨q, 2, none⟩ = some (.int .i64 (n : Int)) := by rw [Lib.cell_of_heap hq]; rfl
    clear hq h
    go_enter Tryz.func193, Tryz.ntmps193
    go_wp2_with fail
    refine (nodeOf_P q w).mono ?_
    rintro e w' ⟨rfl, rfl⟩
    go_wp2_with fail
    go_ret
    exact ⟨rfl, rfl⟩
  · obtain ⟨q, x, y, rfl, hq, _⟩ := h.isF
    generalize sz (tF a b) = n at *
    have c1 : w.cell? ⟨q, 2, none⟩ = some (.int .i64 (n : Int)) := by rw [Lib.cell_of_heap hq]; rfl
    clear hq h
    go_enter Tryz.func193, Tryz.ntmps193
    go_wp2_with fail
    refine (nodeOf_F q w).mono ?_
    rintro e w' ⟨rfl, rfl⟩
    go_wp2_with fail
    go_ret
    exact ⟨rfl, rfl⟩
end Go.Proofs.YtceadeaodbadlaaGreatDoor
