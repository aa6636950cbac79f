import Derived.Test.YtceadeaodbadlaaGreatDoorForm2
import Derived.Test.YtceadeaodbadlaaGreatDoorPure
set_option linter.unusedVariables false
set_option linter.unusedSimpArgs false
namespace Go.Proofs.YtceadeaodbadlaaGreatDoor
open Go.RowKit

theorem br_form (f : List UInt8) : (⟨#[40]⟩ : ByteArray) ++ ⟨f.toArray⟩ ++ ⟨#[41]⟩ = ⟨(40 :: (f ++ [41])).toArray⟩ := by
  rw [str_one, str_one, str_app, str_app]; simp

set_option maxRecDepth 100000 in
set_option maxHeartbeats 1000000 in
theorem first_any (B : Nat) (us : List Tm) (k kd : Nat) (op c ta tb tat tto : Nat) (f : List UInt8) (v : Value) (w : World) (hl : us.length ≤ 2000) (hf : f.length ≤ 100000) (ht : us[k]? = some ⟨op, c, ta, tb, tat, tto⟩) (hop : KindOf op kd) (h : w.ownsRow B 76 9 v us.length (flat us)) (hF : FormAt B us v k f) :
    Calls Tryz.prog 89 #[v, .int .i64 (k : Int)] w fun e w' => e = .returned (.string ⟨(firstOf kd f).toArray⟩) ∧ Below w.heap.size w w' := by
  obtain ⟨g, cap, rfl, hg⟩ := Fo.row h ht
  have hk : k < us.length := (List.getElem?_eq_some_iff.1 ht).1
  have k0 := row_cell h ht 0 rfl
  clear ht
  simp only [Nat.add_zero] at k0
  rcases hop with ⟨rfl, rfl | rfl⟩ | ⟨rfl, rfl⟩ | ⟨rfl, rfl | rfl⟩
  · go_enter Tryz.func89, Tryz.ntmps89
    go_wp2_with fail
    refine (hF _ h).mono ?_
    rintro e w' ⟨rfl, hb⟩
    go_wp2_with fail
    go_ret
    exact ⟨rfl, hb⟩
  · go_enter Tryz.func89, Tryz.ntmps89
    go_wp2_with fail
    refine (hF _ h).mono ?_
    rintro e w' ⟨rfl, hb⟩
    go_wp2_with fail
    go_ret
    exact ⟨rfl, hb⟩
  · go_enter Tryz.func89, Tryz.ntmps89
    go_wp2_with fail
    refine (hF _ h).mono ?_
    rintro e w' ⟨rfl, hb⟩
    go_wp2_with fail
    go_ret
    exact ⟨rfl, hb⟩
  · go_enter Tryz.func89, Tryz.ntmps89
    go_wp2_with fail
    refine (hF _ h).mono ?_
    rintro e w' ⟨rfl, hb⟩
    go_wp2_with fail
    go_ret
    exact ⟨congrArg (fun x => Ending.returned (.string x)) (br_form f), hb⟩
  · go_enter Tryz.func89, Tryz.ntmps89
    go_wp2_with fail
    refine (hF _ h).mono ?_
    rintro e w' ⟨rfl, hb⟩
    go_wp2_with fail
    go_ret
    exact ⟨congrArg (fun x => Ending.returned (.string x)) (br_form f), hb⟩

set_option maxRecDepth 100000 in
set_option maxHeartbeats 1000000 in
theorem second_any (B : Nat) (us : List Tm) (k kd : Nat) (op c ta tb tat tto : Nat) (f : List UInt8) (v : Value) (w : World) (hl : us.length ≤ 2000) (hf : f.length ≤ 100000) (ht : us[k]? = some ⟨op, c, ta, tb, tat, tto⟩) (hop : KindOf op kd) (h : w.ownsRow B 76 9 v us.length (flat us)) (hF : FormAt B us v k f) :
    Calls Tryz.prog 90 #[v, .int .i64 (k : Int)] w fun e w' => e = .returned (.string ⟨(secondOf kd f).toArray⟩) ∧ Below w.heap.size w w' := by
  obtain ⟨g, cap, rfl, hg⟩ := Fo.row h ht
  have hk : k < us.length := (List.getElem?_eq_some_iff.1 ht).1
  have k0 := row_cell h ht 0 rfl
  clear ht
  simp only [Nat.add_zero] at k0
  rcases hop with ⟨rfl, rfl | rfl⟩ | ⟨rfl, rfl⟩ | ⟨rfl, rfl | rfl⟩
  · go_enter Tryz.func90, Tryz.ntmps90
    go_wp2_with fail
    refine (hF _ h).mono ?_
    rintro e w' ⟨rfl, hb⟩
    go_wp2_with fail
    go_ret
    exact ⟨rfl, hb⟩
  · go_enter Tryz.func90, Tryz.ntmps90
    go_wp2_with fail
    refine (hF _ h).mono ?_
    rintro e w' ⟨rfl, hb⟩
    go_wp2_with fail
    go_ret
    exact ⟨rfl, hb⟩
  · go_enter Tryz.func90, Tryz.ntmps90
    go_wp2_with fail
    refine (hF _ h).mono ?_
    rintro e w' ⟨rfl, hb⟩
    go_wp2_with fail
    go_ret
    exact ⟨congrArg (fun x => Ending.returned (.string x)) (br_form f), hb⟩
  · go_enter Tryz.func90, Tryz.ntmps90
    go_wp2_with fail
    refine (hF _ h).mono ?_
    rintro e w' ⟨rfl, hb⟩
    go_wp2_with fail
    go_ret
    exact ⟨congrArg (fun x => Ending.returned (.string x)) (br_form f), hb⟩
  · go_enter Tryz.func90, Tryz.ntmps90
    go_wp2_with fail
    refine (hF _ h).mono ?_
    rintro e w' ⟨rfl, hb⟩
    go_wp2_with fail
    go_ret
    exact ⟨congrArg (fun x => Ending.returned (.string x)) (br_form f), hb⟩

/-- 'first' and 'second' at one index over one row. -/
def FirstAt (B : Nat) (us : List Tm) (v : Value) (k : Nat) (f : List UInt8) : Prop :=
  ∀ w : World, w.ownsRow B 76 9 v us.length (flat us) → Calls Tryz.prog 89 #[v, .int .i64 (k : Int)] w fun e w' => e = .returned (.string ⟨f.toArray⟩) ∧ Below w.heap.size w w'
def SecondAt (B : Nat) (us : List Tm) (v : Value) (k : Nat) (f : List UInt8) : Prop :=
  ∀ w : World, w.ownsRow B 76 9 v us.length (flat us) → Calls Tryz.prog 90 #[v, .int .i64 (k : Int)] w fun e w' => e = .returned (.string ⟨f.toArray⟩) ∧ Below w.heap.size w w'

set_option maxRecDepth 100000 in
set_option maxHeartbeats 4000000 in
theorem form_call (B : Nat) (us : List Tm) (k : Nat) (c ta tb tat tto : Nat) (f f' : List UInt8) (v : Value) (w : World) (hc : c < 256) (hl : us.length ≤ 2000) (ha : ta < us.length) (hb : tb < us.length) (hf : f.length ≤ 100002) (hf' : f'.length ≤ 100002) (ht : us[k]? = some ⟨99, c, ta, tb, tat, tto⟩) (h : w.ownsRow B 76 9 v us.length (flat us)) (hF : FirstAt B us v ta f) (hG : SecondAt B us v tb f') :
    Calls Tryz.prog 53 #[v, .int .i64 (k : Int)] w fun e w' => e = .returned (.string ⟨(f ++ f').toArray⟩) ∧ Below w.heap.size w w' := by
  obtain ⟨g, cap, rfl, hg⟩ := Fo.row h ht
  have hk : k < us.length := (List.getElem?_eq_some_iff.1 ht).1
  have k0 := row_cell h ht 0 rfl
  have k1 := row_cell h ht 1 rfl
  have k2 := row_cell h ht 2 rfl
  have k3 := row_cell h ht 3 rfl
  have k4 := row_cell h ht 4 rfl
  have k5 := row_cell h ht 5 rfl
  have k6 := row_cell h ht 6 rfl
  have k7 := row_cell h ht 7 rfl
  have k8 := row_cell h ht 8 rfl
  clear ht
  simp only [Nat.add_zero] at k0
  have hcv := conv_one ((w.alloc (.cells #[.int .u8 99, .int .u8 (c : Int), .int .i64 (ta : Int), .int .i64 (tb : Int), .slice none 0 0, .slice none 0 0, .slice none 0 0, .int .i64 (tat : Int), .int .i64 (tto : Int)] 76)).alloc (.cells #[.int .u8 (c : Int)] 5)) (w.heap.size + 1) c hc (by simp)
  go_enter Tryz.func53, Tryz.ntmps53
  go_wp2_with fail
  clear k0 k1 k2 k3 k4 k5 k6 k7 k8 hcv
  have n1 : ¬ (9223372036854775807 < f.length + f'.length) := by omega
  go_region_held3 (fun w' => w'.cell? ⟨w.heap.size, 2, none⟩ = some (.int .i64 (ta : Int)) ∧ w'.cell? ⟨w.heap.size, 3, none⟩ = some (.int .i64 (tb : Int)))
    (first | go_keep | (go_split_ands; exact ⟨q2, q3⟩))
    (first
      | (go_at_call 89; refine (hF _ ?_).mono ?_; (exact ((h.alloc _).alloc _).drew); rintro e w1 ⟨rfl, hb1⟩; (have q2 : w1.cell? ⟨w.heap.size, 2, none⟩ = some (.int .i64 (ta : Int)) := box_below hb1 (by simp)); (have q3 : w1.cell? ⟨w.heap.size, 3, none⟩ = some (.int .i64 (tb : Int)) := box_below hb1 (by simp)); (have z1 : w.heap.size + 2 ≤ w1.heap.size := size_below hb1))
      | (go_at_call 90; refine (hG _ ?_).mono ?_; (exact own_below (((h.alloc _).alloc _).drew) hb1); rintro e w2 ⟨rfl, hb2⟩; (have q2 : w2.cell? ⟨w.heap.size, 2, none⟩ = some (.int .i64 (ta : Int)) := (hb2.cell (p := ⟨w.heap.size, 2, none⟩) (by show w.heap.size < _; omega)).trans q2); (have q3 : w2.cell? ⟨w.heap.size, 3, none⟩ = some (.int .i64 (tb : Int)) := (hb2.cell (p := ⟨w.heap.size, 3, none⟩) (by show w.heap.size < _; omega)).trans q3)))
  go_wp2_with fail
  go_ret
  refine ⟨?_, ((((Below.refl _ w).alloc (Nat.le_refl _) _).alloc (by simp) _).drew.trans (hb1.mono (by rw [drew_size]; simp; omega))).trans (hb2.mono (by omega))⟩
  show Ending.returned (.string _) = Ending.returned (.string _)
  rw [str_app]
end Go.Proofs.YtceadeaodbadlaaGreatDoor
