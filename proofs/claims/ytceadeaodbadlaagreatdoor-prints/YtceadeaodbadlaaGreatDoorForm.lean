import Derived.Test.YtceadeaodbadlaaGreatDoorRef3
import Derived.Deep.RegionWith
import Derived.Laws.IdiomStrings
set_option linter.unusedVariables false
set_option linter.unusedSimpArgs false
namespace Go.Proofs.YtceadeaodbadlaaGreatDoor
open Go.RowKit

/-- The kind of a term, by its sign. -/
def KindOf (op kd : Nat) : Prop := (kd = 0 ∧ (op = 120 ∨ op = 48)) ∨ (kd = 1 ∧ op = 99) ∨ (kd = 2 ∧ (op = 92 ∨ op = 64))

/-- Term k of ts is of kind kd, and 'form' writes f of it, whatever stands behind. -/
def Fo (ts : List Tm) (k kd : Nat) (f : List UInt8) : Prop :=
  (∃ t, ts[k]? = some t ∧ KindOf t.op kd) ∧ f.length ≤ 100000 ∧
  ∀ (B : Nat) (more : List Tm) (v : Value) (w : World), (ts ++ more).length ≤ 2000 → w.ownsRow B 76 9 v (ts ++ more).length (flat (ts ++ more)) →
    Calls Tryz.prog 53 #[v, .int .i64 (k : Int)] w fun e w' => e = .returned (.string ⟨f.toArray⟩) ∧ Below w.heap.size w w'

/-- A row of terms, read. -/
theorem row_cell {w : World} {B g n cap : Nat} {us : List Tm} (h : w.ownsRow B 76 9 (.slice (some ⟨g, 0, none⟩) n cap) us.length (flat us)) {k : Nat} {t : Tm} (ht : us[k]? = some t) (j : Nat) {u : Value} (hu : t.cells[j]? = some u) :
    w.cell? ⟨g, k * 9 + j, none⟩ = some u := by
  have hadd : ∀ m, (⟨g, 0, none⟩ : Addr).add m = ⟨g, m, none⟩ := fun m => by unfold Addr.add; split <;> simp_all
  have := h.cells (g := g) rfl (k * 9 + j) u ?_
  · rwa [hadd] at this
  · clear h
    induction us generalizing k with
    | nil => simp at ht
    | cons x us ih =>
      cases k with
      | zero =>
        simp at ht; subst ht
        simp only [flat, List.flatMap_cons]
        rw [List.getElem?_append_left (by simpa using (List.getElem?_eq_some_iff.1 hu).1)]
        simpa using hu
      | succ k =>
        simp only [flat, List.flatMap_cons]
        have hl : x.cells.length = 9 := by simp [Tm.cells]
        rw [List.getElem?_append_right (by rw [hl]; omega), hl, show (k + 1) * 9 + j - 9 = k * 9 + j from by omega]
        exact ih (by simpa using ht)

theorem Fo.row {w : World} {B : Nat} {v : Value} {us : List Tm} (h : w.ownsRow B 76 9 v us.length (flat us)) {k : Nat} {t : Tm} (ht : us[k]? = some t) : ∃ g cap, v = .slice (some ⟨g, 0, none⟩) us.length cap ∧ g < w.heap.size := by
  have hk : k < us.length := (List.getElem?_eq_some_iff.1 ht).1
  rcases h.2 with ⟨_, h0⟩ | ⟨g, cap, cur, hv, _, hg, _⟩
  · omega
  · exact ⟨g, cap, hv, (Array.getElem?_eq_some_iff.1 hg).1⟩

theorem conv_one (w : World) (g c : Nat) (hc : c < 256) (h : w.cell? ⟨g, 0, none⟩ = some (.int .u8 (c : Int))) : (convert 46 9 (.slice (some ⟨g, 0, none⟩) 1 1)).run Tryz.prog w = .ok (.string ⟨#[u8 c]⟩) w := by
  refine run_convert_bytes_back w 46 9 5 ⟨g, 0, none⟩ 1 [u8 c] Tryz.underlying46 Tryz.underlying5 Tryz.underlying9 ?_
  intro j hj
  have hj0 : j = 0 := by simpa using hj
  subst hj0
  have hadd : (⟨g, 0, none⟩ : Addr).add 0 = ⟨g, 0, none⟩ := rfl
  have hu : ((u8 c).toNat : Int) = (c : Int) := by simp [u8]; omega
  rw [hadd, h]
  show some (Value.int .u8 (c : Int)) = some (.int .u8 ((u8 c).toNat : Int))
  rw [hu]

set_option maxRecDepth 100000 in
set_option maxHeartbeats 1000000 in
theorem form_atom (B : Nat) (us : List Tm) (k : Nat) (op c ta tb tat tto : Nat) (v : Value) (w : World) (hop : op = 120 ∨ op = 48) (hc : c < 256) (hl : us.length ≤ 2000) (ht : us[k]? = some ⟨op, c, ta, tb, tat, tto⟩) (h : w.ownsRow B 76 9 v us.length (flat us)) :
    Calls Tryz.prog 53 #[v, .int .i64 (k : Int)] w fun e w' => e = .returned (.string ⟨#[u8 c]⟩) ∧ Below w.heap.size w w' := by
  obtain ⟨g, cap, rfl, hg⟩ := Fo.row h ht
  have hk : k < us.length := (List.getElem?_eq_some_iff.1 ht).1
  have k0 := row_cell h ht 0 rfl
  have k1 := row_cell h ht 1 rfl
  have k2 := row_cell h ht 2 rfl
  have k3 := row_cell h ht 3 rfl
  have k4 := row_cell h ht 4 rfl
  have k5 := row_cell h ht 5 rfl
  have k6 := row_cell h ht 6 rfl
  have k7 := row_cell h ht 7 rfl
  have k8 := row_cell h ht 8 rfl
  clear h ht
  simp only [Nat.add_zero] at k0
  have e1 : ((op : Int) == 92) = false := by rw [beq_eq_false_iff_ne]; omega
  have e2 : ((op : Int) == 64) = false := by rw [beq_eq_false_iff_ne]; omega
  have e3 : ((op : Int) == 99) = false := by rw [beq_eq_false_iff_ne]; omega
  clear hop
  have hcv := conv_one ((w.alloc (.cells #[.int .u8 (op : Int), .int .u8 (c : Int), .int .i64 (ta : Int), .int .i64 (tb : Int), .slice none 0 0, .slice none 0 0, .slice none 0 0, .int .i64 (tat : Int), .int .i64 (tto : Int)] 76)).alloc (.cells #[.int .u8 (c : Int)] 5)) (w.heap.size + 1) c hc (by simp)
  go_enter Tryz.func53, Tryz.ntmps53
  go_wp2_with fail
  go_ret
  exact ⟨rfl, ((Below.refl _ w).alloc (Nat.le_refl _) _).alloc (by simp) _⟩
end Go.Proofs.YtceadeaodbadlaaGreatDoor
