import Derived.Test.YtceadeaodbadlaaGreatDoorForm
import Derived.Deep.RegionHeld3
set_option linter.unusedVariables false
set_option linter.unusedSimpArgs false
namespace Go.Proofs.YtceadeaodbadlaaGreatDoor
open Go.RowKit

/-- 'form' at one index over one row. -/
def FormAt (B : Nat) (us : List Tm) (v : Value) (k : Nat) (f : List UInt8) : Prop :=
  ∀ w : World, w.ownsRow B 76 9 v us.length (flat us) → Calls Tryz.prog 53 #[v, .int .i64 (k : Int)] w fun e w' => e = .returned (.string ⟨f.toArray⟩) ∧ Below w.heap.size w w'

theorem str_app (a b : List UInt8) : (⟨a.toArray⟩ : ByteArray) ++ ⟨b.toArray⟩ = ⟨(a ++ b).toArray⟩ := by
  apply ByteArray.ext
  simp
theorem str_one (x : UInt8) : (⟨#[x]⟩ : ByteArray) = ⟨[x].toArray⟩ := rfl

theorem drew_size (w : World) : w.drew.heap.size = w.heap.size := rfl
theorem box_below {w w1 : World} {A A' : Obj} {j : Nat} {u : Value} (hb : Below ((w.alloc A).alloc A').drew.heap.size ((w.alloc A).alloc A').drew w1) (hA : (w.alloc A).cell? ⟨w.heap.size, j, none⟩ = some u) : w1.cell? ⟨w.heap.size, j, none⟩ = some u := by
  rw [hb.cell (p := ⟨w.heap.size, j, none⟩) (by rw [drew_size]; simp; omega)]
  show ((w.alloc A).alloc A').cell? ⟨w.heap.size, j, none⟩ = some u
  rw [World.cell?_alloc_lt _ _ ⟨w.heap.size, j, none⟩ (by simp)]; exact hA
theorem size_below {w w1 : World} {A A' : Obj} (hb : Below ((w.alloc A).alloc A').drew.heap.size ((w.alloc A).alloc A').drew w1) : w.heap.size + 2 ≤ w1.heap.size := by
  have := hb.size; rw [drew_size] at this; simp at this; omega

theorem own_below {w w' : World} {B : Nat} {e : TypeId} {n m : Nat} {v : Value} {xs : List Value} (h : w.ownsRow B e n v m xs) (hb : Below w.heap.size w w') : w'.ownsRow B e n v m xs := by
  refine h.kept (row := none) ⟨hb.os, hb.tape, hb.output, hb.size, fun k hk _ => hb.block k hk⟩ ?_
  cases hv : v.ownBlock
  · exact .inl rfl
  · exact .inr (by simp)

set_option maxRecDepth 100000 in
set_option maxHeartbeats 1000000 in
theorem form_fn (B : Nat) (us : List Tm) (k : Nat) (c ta tb tat tto : Nat) (f : List UInt8) (v : Value) (w : World) (hc : c < 256) (hl : us.length ≤ 2000) (ha : ta < us.length) (hf : f.length ≤ 100000) (ht : us[k]? = some ⟨92, c, ta, tb, tat, tto⟩) (h : w.ownsRow B 76 9 v us.length (flat us)) (hF : FormAt B us v ta f) :
    Calls Tryz.prog 53 #[v, .int .i64 (k : Int)] w fun e w' => e = .returned (.string ⟨(92 :: u8 c :: 46 :: f).toArray⟩) ∧ Below w.heap.size w w' := by
  obtain ⟨g, cap, rfl, hg⟩ := Fo.row h ht
  have hk : k < us.length := (List.getElem?_eq_some_iff.1 ht).1
  have k0 := row_cell h ht 0 rfl
  have k1 := row_cell h ht 1 rfl
  have k2 := row_cell h ht 2 rfl
  have k3 := row_cell h ht 3 rfl
  have k4 := row_cell h ht 4 rfl
  have k5 := row_cell h ht 5 rfl
  have k6 := row_cell h ht 6 rfl
  have k7 := row_cell h ht 7 rfl
  have k8 := row_cell h ht 8 rfl
  clear ht
  simp only [Nat.add_zero] at k0
  have hcv := conv_one ((w.alloc (.cells #[.int .u8 92, .int .u8 (c : Int), .int .i64 (ta : Int), .int .i64 (tb : Int), .slice none 0 0, .slice none 0 0, .slice none 0 0, .int .i64 (tat : Int), .int .i64 (tto : Int)] 76)).alloc (.cells #[.int .u8 (c : Int)] 5)) (w.heap.size + 1) c hc (by simp)
  go_enter Tryz.func53, Tryz.ntmps53
  go_wp2_with fail
  refine (hF _ ((h.alloc _).alloc _)).mono ?_
  rintro e w' ⟨rfl, hb⟩
  go_wp2_with fail
  go_ret
  refine ⟨?_, (((Below.refl _ w).alloc (Nat.le_refl _) _).alloc (by simp) _).trans (hb.mono (by simp; omega))⟩
  show Ending.returned (.string _) = Ending.returned (.string _)
  rw [str_one, str_one, str_one, str_app, str_app, str_app]
  rfl

set_option maxRecDepth 100000 in
set_option maxHeartbeats 4000000 in
theorem form_let (B : Nat) (us : List Tm) (k : Nat) (c ta tb tat tto : Nat) (f f' : List UInt8) (v : Value) (w : World) (hc : c < 256) (hl : us.length ≤ 2000) (ha : ta < us.length) (hb : tb < us.length) (hf : f.length ≤ 100000) (hf' : f'.length ≤ 100000) (ht : us[k]? = some ⟨64, c, ta, tb, tat, tto⟩) (h : w.ownsRow B 76 9 v us.length (flat us)) (hF : FormAt B us v ta f) (hG : FormAt B us v tb f') :
    Calls Tryz.prog 53 #[v, .int .i64 (k : Int)] w fun e w' => e = .returned (.string ⟨(64 :: u8 c :: 61 :: (f ++ 59 :: f')).toArray⟩) ∧ Below w.heap.size w w' := by
  obtain ⟨g, cap, rfl, hg⟩ := Fo.row h ht
  have hk : k < us.length := (List.getElem?_eq_some_iff.1 ht).1
  have k0 := row_cell h ht 0 rfl
  have k1 := row_cell h ht 1 rfl
  have k2 := row_cell h ht 2 rfl
  have k3 := row_cell h ht 3 rfl
  have k4 := row_cell h ht 4 rfl
  have k5 := row_cell h ht 5 rfl
  have k6 := row_cell h ht 6 rfl
  have k7 := row_cell h ht 7 rfl
  have k8 := row_cell h ht 8 rfl
  clear ht
  simp only [Nat.add_zero] at k0
  have hcv := conv_one ((w.alloc (.cells #[.int .u8 64, .int .u8 (c : Int), .int .i64 (ta : Int), .int .i64 (tb : Int), .slice none 0 0, .slice none 0 0, .slice none 0 0, .int .i64 (tat : Int), .int .i64 (tto : Int)] 76)).alloc (.cells #[.int .u8 (c : Int)] 5)) (w.heap.size + 1) c hc (by simp)
  go_enter Tryz.func53, Tryz.ntmps53
  go_wp2_with fail
  clear k0 k1 k2 k3 k4 k5 k6 k7 k8 hcv
  have n1 : ¬ (9223372036854775807 < 3 + f.length) := by omega
  have n2 : ¬ (9223372036854775807 < 3 + f.length + 1) := by omega
  have n3 : ¬ (9223372036854775807 < 3 + f.length + 1 + f'.length) := by omega
  go_region_held3 (fun w' => w'.cell? ⟨w.heap.size, 2, none⟩ = some (.int .i64 (ta : Int)) ∧ w'.cell? ⟨w.heap.size, 3, none⟩ = some (.int .i64 (tb : Int)))
    (first | go_keep | (go_split_ands; exact ⟨q2, q3⟩))
    (first
      | (go_at_call_of 53 (Value.int IntKind.i64 (ta : Int)); refine (hF _ ?_).mono ?_; (exact ((h.alloc _).alloc _).drew); rintro e w1 ⟨rfl, hb1⟩; (have q2 : w1.cell? ⟨w.heap.size, 2, none⟩ = some (.int .i64 (ta : Int)) := box_below hb1 (by simp)); (have q3 : w1.cell? ⟨w.heap.size, 3, none⟩ = some (.int .i64 (tb : Int)) := box_below hb1 (by simp)); (have z1 : w.heap.size + 2 ≤ w1.heap.size := size_below hb1))
      | (go_at_call_of 53 (Value.int IntKind.i64 (tb : Int)); refine (hG _ ?_).mono ?_; (exact own_below (((h.alloc _).alloc _).drew) hb1); rintro e w2 ⟨rfl, hb2⟩; (have q2 : w2.cell? ⟨w.heap.size, 2, none⟩ = some (.int .i64 (ta : Int)) := (hb2.cell (p := ⟨w.heap.size, 2, none⟩) (by show w.heap.size < _; omega)).trans q2); (have q3 : w2.cell? ⟨w.heap.size, 3, none⟩ = some (.int .i64 (tb : Int)) := (hb2.cell (p := ⟨w.heap.size, 3, none⟩) (by show w.heap.size < _; omega)).trans q3)))
  go_wp2_with fail
  go_ret
  refine ⟨?_, ((((Below.refl _ w).alloc (Nat.le_refl _) _).alloc (by simp) _).drew.trans (hb1.mono (by rw [drew_size]; simp; omega))).trans (hb2.mono (by omega))⟩
  show Ending.returned (.string _) = Ending.returned (.string _)
  rw [str_one, str_one, str_one, str_one, str_app, str_app, str_app, str_app, str_app]
  simp
end Go.Proofs.YtceadeaodbadlaaGreatDoor
