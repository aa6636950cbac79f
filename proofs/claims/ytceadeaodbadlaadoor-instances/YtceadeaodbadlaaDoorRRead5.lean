import Derived.Test.YtceadeaodbadlaaDoorRRead4
import Derived.Laws.ResultCell
set_option linter.unusedVariables false
set_option linter.unusedSimpArgs false
namespace Go.Proofs.YtceadeaodbadlaaDoor
open Go.RowKit

/-- What ReadType leaves. -/
def RTPost (s : ByteArray) (w : World) (e : Ending) (w' : World) : Prop :=
  Below w.heap.size w w' ∧ match wholeT s with
    | .error p => ∃ g n cap, e = .returned (.tuple #[.agg #[.slice (some ⟨g, 0, none⟩) n cap], .int .i64 (p : Int)])
    | .ok t => ∃ g cap, e = .returned (.tuple #[.agg #[.slice (some ⟨g, 0, none⟩) (sz t) cap], .int .i64 (-1)]) ∧ Rg g t w' ∧ sz t ≤ s.size

/-- A type and a number handed back. -/
theorem ret_type_int {fn : Func} {p u : Tmp} (h : fn.results = #[.cell p 38, .tmp u]) {tmps : Array Value} {w : World} {g : Nat} {v x : Value} {Q : Ending → World → Prop}
    (hp : tmps.getD p undef = .pointer (some ⟨g, 0, none⟩)) (hx : tmps.getD u undef = x) (hg : w.heap[g]? = some (.cells #[v] 38 (0, 0))) (hq : Q (.returned (.tuple #[.agg #[v], x])) w) : bodyPost Tryd.prog fn Q Exit.ret { tmps := tmps, defers := [] } w := by
  refine bodyPost_ret ?_ rfl hq
  have hl := run_loadVar_row w g 38 38 #[v] (0, 0) _ hg Tryd.underlying38 rfl sizeType
  rw [results_cell_tmp h, hp, hx]
  simp [asAddr, hl, Result.andThen]
theorem cell_far (w : World) (a c : Addr) {v : Value} (h : a.block ≠ c.block) : (w.setCell a v).cell? c = w.cell? c :=
  World.cell?_of_block (w := w) (a := c) (Below.heap_setCell w a v c.block (fun e => h e.symm))
theorem cell_far_drew (w : World) (a c : Addr) (v : Value) (h : c.block ≠ a.block) : (w.setCell a v).drew.cell? c = w.cell? c := cell_far w a c (fun e => h e.symm)
abbrev rdObj (s : ByteArray) : Obj := .cells #[.string s, .bool false, .int .i64 0, .int .i64 (-1), .slice none 0 0] 56
theorem below_gb {w w' : World} {o o' : Obj} (h : Gb (w.heap.size + 1) ((w.alloc o).alloc o') w') : Below w.heap.size w w' :=
  ⟨h.os, h.tape, h.output, Nat.le_trans (by simp; omega) h.size, fun k hk => (h.block k (by simp; omega) (by simp; omega)).trans ((Below.heap_alloc _ _ _ (by simp; omega)).trans (Below.heap_alloc _ _ _ hk))⟩

set_option maxRecDepth 100000 in
set_option maxHeartbeats 4000000 in
theorem rtype_any (s : ByteArray) (w : World) (hs : s.size ≤ 50000) :
    Calls Tryd.prog 11 #[.string s] w (RTPost s w) := by
  have hE : Hid (RTypeSaid (w.heap.size + 1) s (3 * s.size + 3)) := (rkinds_all (w.heap.size + 1) s hs (3 * s.size + 3) _ (Nat.le_refl _)).1
  have h0 : R0 (w.heap.size + 1) s 0 (-1) ((w.alloc nilBox).alloc (rdObj s)) := heap_alloc2_new w _ _
  go_enter Tryd.func11, Tryd.ntmps11
  go_wp2_with fail
  refine (hE.out 0 _ h0 (Nat.zero_le _) (by omega)).mono ?_
  intro e w1 hp
  obtain ⟨G1, g, cap, u, rfl, R1, k1⟩ := hp.parts (pt_end (Nat.zero_le _))
  have hb : w.heap.size + 1 < w1.heap.size := k1.lt
  have rbx : w1.heap[w.heap.size]? = some (.cells #[.slice none 0 0] 38 (0, 0)) := G1.old ((Below.heap_alloc _ _ _ (by simp)).trans (heap_alloc_new w _)) (by omega)
  have G2 := G1.alloc (tyBox g (sz u) cap)
  have bx2 : (w1.alloc (tyBox g (sz u) cap)).heap[w1.heap.size]? = some (.cells #[.slice (some ⟨g, 0, none⟩) (sz u) cap] 38 (0, 0)) := heap_alloc_new w1 _
  have rbx2 : (w1.alloc (tyBox g (sz u) cap)).heap[w.heap.size]? = some (.cells #[.slice none 0 0] 38 (0, 0)) := (Below.heap_alloc _ _ _ (by omega)).trans rbx
  have R2 : Rg g u (w1.alloc (tyBox g (sz u) cap)) := R1.alloc _
  have hgb := k1.ne R1
  clear hp h0
  cases hq : pt s (3 * s.size + 3) 0 0 .nil with
  | error p =>
    rw [hq] at k1
    obtain ⟨z1, z2, z3, h1⟩ := k1
    have HW : Hid (wholeT s = .error p) := by unfold Hid wholeT; rw [hq]
    have hW : R0 (w.heap.size + 1) s p p (w1.alloc (tyBox g (sz u) cap)) := h1.alloc _
    have c2 := hW.c2
    clear hq h1 hE
    rcases Nat.lt_or_ge p s.size with hlt | hge
    · have d1 : decide ((p : Int) < (s.size : Int)) = true := by simp; omega
      have hne1 : w1.heap.size ≠ w.heap.size := by omega
      have hne2 : w.heap.size + 1 ≠ w.heap.size := by omega
      go_wp2_with fail
      refine (rfail_old (w.heap.size + 1) s p p [] _ hW.toSt).mono ?_
      rintro e w' ⟨rfl, rfl⟩
      go_wp2_with fail
      have bxW := bx2
      have rbxW := rbx2
      have cx := cell_box bxW
      have c3 := hW.c3
      have rcb := cell_box rbxW
      have rfb := free_box rbxW
      go_region_held3 (fun wq => wq.cell? ⟨w1.heap.size, 0, none⟩ = some (.slice (some ⟨g, 0, none⟩) (sz u) cap) ∧ wq.cell? ⟨w.heap.size + 1, 3, none⟩ = some (.int .i64 (p : Int)))
        (first | (go_keep; done) | (go_split_ands; exact ⟨cx, c3⟩) | exact ⟨Eq.trans (cell_far_drew _ ⟨w.heap.size, 0, none⟩ ⟨w1.heap.size, 0, none⟩ _ hne1) cx, Eq.trans (cell_far_drew _ ⟨w.heap.size, 0, none⟩ ⟨w.heap.size + 1, 3, none⟩ _ hne2) c3⟩)
        (fail)
      go_wp2_with fail
      refine ret_type_int rfl rfl rfl (set_cell0 (w := (w1.alloc (tyBox g (sz u) cap)).drew) rbxW) ?_
      exact ⟨(below_gb (G2.drewN 1)).setCell (Nat.le_refl _) _, by rw [HW.out]; exact ⟨g, sz u, cap, rfl⟩⟩
    · have d1 : decide ((p : Int) < (s.size : Int)) = false := by simp; omega
      have hne1 : w1.heap.size ≠ w.heap.size := by omega
      have hne2 : w.heap.size + 1 ≠ w.heap.size := by omega
      go_wp2_with fail
      have bxW := bx2
      have rbxW := rbx2
      have cx := cell_box bxW
      have c3 := hW.c3
      have rcb := cell_box rbxW
      have rfb := free_box rbxW
      go_region_held3 (fun wq => wq.cell? ⟨w1.heap.size, 0, none⟩ = some (.slice (some ⟨g, 0, none⟩) (sz u) cap) ∧ wq.cell? ⟨w.heap.size + 1, 3, none⟩ = some (.int .i64 (p : Int)))
        (first | (go_keep; done) | (go_split_ands; exact ⟨cx, c3⟩) | exact ⟨Eq.trans (cell_far_drew _ ⟨w.heap.size, 0, none⟩ ⟨w1.heap.size, 0, none⟩ _ hne1) cx, Eq.trans (cell_far_drew _ ⟨w.heap.size, 0, none⟩ ⟨w.heap.size + 1, 3, none⟩ _ hne2) c3⟩)
        (fail)
      go_wp2_with fail
      refine ret_type_int rfl rfl rfl (set_cell0 (w := (w1.alloc (tyBox g (sz u) cap)).drew) rbxW) ?_
      exact ⟨(below_gb (G2.drewN 1)).setCell (Nat.le_refl _) _, by rw [HW.out]; exact ⟨g, sz u, cap, rfl⟩⟩
  | ok r =>
    obtain ⟨t, j⟩ := r
    rw [hq] at k1
    obtain ⟨rfl, z1, z2, h1⟩ := k1
    have h2 : R0 (w.heap.size + 1) s j (-1) (w1.alloc (tyBox g (sz u) cap)) := h1.alloc _
    have c2 := h2.c2
    rcases Nat.lt_or_ge j s.size with hlt | hge
    · have HW : Hid (wholeT s = .error j) := by unfold Hid wholeT; rw [hq]; exact if_pos hlt
      have d1 : decide ((j : Int) < (s.size : Int)) = true := by simp; omega
      clear hq h1 hE
      have hne1 : w1.heap.size ≠ w.heap.size := by omega
      have hne2 : w.heap.size + 1 ≠ w.heap.size := by omega
      go_wp2_with fail
      refine (gfail_new (w.heap.size + 1) s j _ h2).mono ?_
      rintro e w3 ⟨rfl, hW, g3⟩
      have bxW := g3.old bx2 (by omega)
      have rbxW := g3.old rbx2 (by omega)
      clear c2 d1
      go_wp2_with fail
      have cx := cell_box bxW
      have c3 := hW.c3
      have rcb := cell_box rbxW
      have rfb := free_box rbxW
      go_region_held3 (fun wq => wq.cell? ⟨w1.heap.size, 0, none⟩ = some (.slice (some ⟨g, 0, none⟩) (sz u) cap) ∧ wq.cell? ⟨w.heap.size + 1, 3, none⟩ = some (.int .i64 (j : Int)))
        (first | (go_keep; done) | (go_split_ands; exact ⟨cx, c3⟩) | exact ⟨Eq.trans (cell_far_drew _ ⟨w.heap.size, 0, none⟩ ⟨w1.heap.size, 0, none⟩ _ hne1) cx, Eq.trans (cell_far_drew _ ⟨w.heap.size, 0, none⟩ ⟨w.heap.size + 1, 3, none⟩ _ hne2) c3⟩)
        (fail)
      go_wp2_with fail
      refine ret_type_int rfl rfl rfl (set_cell0 (w := w3.drew) rbxW) ?_
      exact ⟨(below_gb ((G2.trans g3).drewN 1)).setCell (Nat.le_refl _) _, by rw [HW.out]; exact ⟨g, sz u, cap, rfl⟩⟩
    · have HW : Hid (wholeT s = .ok u) := by unfold Hid wholeT; rw [hq]; exact if_neg (by omega)
      have d1 : decide ((j : Int) < (s.size : Int)) = false := by simp; omega
      have hW := h2
      clear hq h1 hE
      have hne1 : w1.heap.size ≠ w.heap.size := by omega
      have hne2 : w.heap.size + 1 ≠ w.heap.size := by omega
      go_wp2_with fail
      have bxW := bx2
      have rbxW := rbx2
      have cx := cell_box bxW
      have c3 := hW.c3
      have rcb := cell_box rbxW
      have rfb := free_box rbxW
      go_region_held3 (fun wq => wq.cell? ⟨w1.heap.size, 0, none⟩ = some (.slice (some ⟨g, 0, none⟩) (sz u) cap) ∧ wq.cell? ⟨w.heap.size + 1, 3, none⟩ = some (.int .i64 (-1)))
        (first | (go_keep; done) | (go_split_ands; exact ⟨cx, c3⟩) | exact ⟨Eq.trans (cell_far_drew _ ⟨w.heap.size, 0, none⟩ ⟨w1.heap.size, 0, none⟩ _ hne1) cx, Eq.trans (cell_far_drew _ ⟨w.heap.size, 0, none⟩ ⟨w.heap.size + 1, 3, none⟩ _ hne2) c3⟩)
        (fail)
      go_wp2_with fail
      refine ret_type_int rfl rfl rfl (set_cell0 (w := (w1.alloc (tyBox g (sz u) cap)).drew) rbxW) ?_
      exact ⟨(below_gb (G2.drewN 1)).setCell (Nat.le_refl _) _, by rw [HW.out]; exact ⟨g, cap, rfl, (Rg.drew R2).setBox (R1.neBox rbx) _, by omega⟩⟩
end Go.Proofs.YtceadeaodbadlaaDoor
