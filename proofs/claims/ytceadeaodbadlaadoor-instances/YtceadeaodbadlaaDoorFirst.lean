import Derived.Test.YtceadeaodbadlaaDoorPart
import Derived.Deep.RegionWith
import Derived.IntWalk
set_option linter.unusedVariables false
set_option linter.unusedSimpArgs false
namespace Go.Proofs.YtceadeaodbadlaaDoor
open Go.RowKit

theorem Rg.drew {g : Nat} {t : Ty} {w : World} (h : Rg g t w) : Rg g t w.drew := ⟨h.ok, h.lt, h.cell⟩
theorem size_drewed (w : World) (o o' : Obj) : ((w.alloc o).alloc o').drew.heap.size = w.heap.size + 2 := by show ((w.alloc o).alloc o').heap.size = _; simp
theorem below_drewed {w w1 : World} {o o' : Obj} (hb : Below ((w.alloc o).alloc o').drew.heap.size ((w.alloc o).alloc o').drew w1) : Below w.heap.size w w1 := by
  have B0 : Below w.heap.size w ((w.alloc o).alloc o').drew := (((Below.refl w.heap.size w).alloc (Nat.le_refl _) o).alloc (by simp) o').drew
  exact B0.trans (hb.mono B0.size)

set_option maxRecDepth 100000 in
set_option maxHeartbeats 1000000 in
theorem tfirst_any (t x : Ty) (op c : Nat) (pre post : List Nd) (g cap : Nat) (w : World) (ht : Rg g t w) (hl : sz t ≤ 1000000) (hx : Ok x) (hN : nd t 0 = pre ++ (nd x pre.length ++ post)) (hr : rt t 0 = ⟨op, pre.length + sz x - 1, c⟩) :
    Calls Tryd.prog 36 #[.agg #[.slice (some ⟨g, 0, none⟩) (sz t) cap]] w (TPost x w) := by
  have hpos := sz_pos ht.ok
  have hpx := sz_pos hx
  have hA := (ht.alloc (.cells #[.slice (some ⟨g, 0, none⟩) (sz t) cap] 38)).alloc (.cells #[.slice none 0 0] 38)
  have KK := hA.cell (sz t - 1) _ (nd_last t ht.ok 0)
  rw [hr] at KK
  obtain ⟨m, hm⟩ : ∃ m, m = sz t - 1 := ⟨_, rfl⟩
  rw [← hm] at KK
  have k1 := KK.2.1
  have k2 := KK.2.2
  simp only at k1 k2
  obtain ⟨kk, hkk⟩ : ∃ kk, kk = pre.length + sz x - 1 := ⟨_, rfl⟩
  rw [← hkk] at k1
  have HP : Hid (∀ w' : World, Rg g t w' → Calls Tryd.prog 53 #[.agg #[.slice (some ⟨g, 0, none⟩) (sz t) cap], .int .i64 (kk : Int)] w' (TPost x w')) :=
    fun w' h' => part_any t x pre post pre.length kk g cap w' h' hl hx hN rfl (by omega)
  have hcx := heap_alloc2_new w (.cells #[.slice (some ⟨g, 0, none⟩) (sz t) cap] 38) (.cells #[.slice none 0 0] 38)
  have e1 : ((sz t : Int) - 1) = (m : Int) := by omega
  have hklt : kk < sz t := by
    have := nd_length t 0
    rw [hN, List.length_append, List.length_append, nd_length] at this
    omega
  have b1 : m < sz t := by omega
  have hw : IntKind.i64.wrap (m : Int) = (m : Int) := IntWalk.i64_in _ ⟨by omega, by omega⟩
  clear hN hr hkk KK hm
  go_enter Tryd.func36, Tryd.ntmps36
  go_wp2_with fail
  go_region_with (go_at_call 53; refine (HP.out _ hA.drew).mono ?_; rintro e w1 ⟨g1, cap1, rfl, hR1, hg1, hb1⟩; have hc1 : w1.heap[w.heap.size + 1]? = some (.cells #[.slice none 0 0] 38 (0, 0)) := (hb1.block (w.heap.size + 1) (by show w.heap.size + 1 < ((w.alloc _).alloc _).heap.size; simp)).trans hcx; have cb := cell_box hc1; have fb := free_box hc1)
  all_goals
    rw [size_drewed] at hg1
    go_wp2_with fail
    refine ret_type rfl rfl (set_cell0 hc1) ?_
    exact ⟨g1, cap1, rfl, hR1.kept (set_grown _ _) (by simp; omega), by omega, (below_drewed hb1).setCell (by simp) _⟩

set_option maxRecDepth 100000 in
set_option maxHeartbeats 1000000 in
theorem tsecond_any (t x : Ty) (op c : Nat) (pre post : List Nd) (g cap : Nat) (w : World) (ht : Rg g t w) (hl : sz t ≤ 1000000) (hx : Ok x) (hN : nd t 0 = pre ++ (nd x pre.length ++ post)) (hr : rt t 0 = ⟨op, c, pre.length + sz x - 1⟩) :
    Calls Tryd.prog 37 #[.agg #[.slice (some ⟨g, 0, none⟩) (sz t) cap]] w (TPost x w) := by
  have hpos := sz_pos ht.ok
  have hpx := sz_pos hx
  have hA := (ht.alloc (.cells #[.slice (some ⟨g, 0, none⟩) (sz t) cap] 38)).alloc (.cells #[.slice none 0 0] 38)
  have KK := hA.cell (sz t - 1) _ (nd_last t ht.ok 0)
  rw [hr] at KK
  obtain ⟨m, hm⟩ : ∃ m, m = sz t - 1 := ⟨_, rfl⟩
  rw [← hm] at KK
  have k1 := KK.2.1
  have k2 := KK.2.2
  simp only at k1 k2
  obtain ⟨kk, hkk⟩ : ∃ kk, kk = pre.length + sz x - 1 := ⟨_, rfl⟩
  rw [← hkk] at k2
  have HP : Hid (∀ w' : World, Rg g t w' → Calls Tryd.prog 53 #[.agg #[.slice (some ⟨g, 0, none⟩) (sz t) cap], .int .i64 (kk : Int)] w' (TPost x w')) :=
    fun w' h' => part_any t x pre post pre.length kk g cap w' h' hl hx hN rfl (by omega)
  have hcx := heap_alloc2_new w (.cells #[.slice (some ⟨g, 0, none⟩) (sz t) cap] 38) (.cells #[.slice none 0 0] 38)
  have e1 : ((sz t : Int) - 1) = (m : Int) := by omega
  have hklt : kk < sz t := by
    have := nd_length t 0
    rw [hN, List.length_append, List.length_append, nd_length] at this
    omega
  have b1 : m < sz t := by omega
  have hw : IntKind.i64.wrap (m : Int) = (m : Int) := IntWalk.i64_in _ ⟨by omega, by omega⟩
  clear hN hr hkk KK hm
  go_enter Tryd.func37, Tryd.ntmps37
  go_wp2_with fail
  go_region_with (go_at_call 53; refine (HP.out _ hA.drew).mono ?_; rintro e w1 ⟨g1, cap1, rfl, hR1, hg1, hb1⟩; have hc1 : w1.heap[w.heap.size + 1]? = some (.cells #[.slice none 0 0] 38 (0, 0)) := (hb1.block (w.heap.size + 1) (by show w.heap.size + 1 < ((w.alloc _).alloc _).heap.size; simp)).trans hcx; have cb := cell_box hc1; have fb := free_box hc1)
  all_goals
    rw [size_drewed] at hg1
    go_wp2_with fail
    refine ret_type rfl rfl (set_cell0 hc1) ?_
    exact ⟨g1, cap1, rfl, hR1.kept (set_grown _ _) (by simp; omega), by omega, (below_drewed hb1).setCell (by simp) _⟩

/-- The parts of a list, of a pair and of a function. -/
theorem first_list (a : Ty) (ha : Ok a) (g cap : Nat) (w : World) (ht : Rg g (tL a) w) (hl : sz (tL a) ≤ 1000000) : Calls Tryd.prog 36 #[.agg #[.slice (some ⟨g, 0, none⟩) (sz (tL a)) cap]] w (TPost a w) :=
  tfirst_any (tL a) a 91 0 [] _ g cap w ht hl ha (by rw [list_nd a ha]; rfl) (by simp [rt, rtA, rtB, sgn])
theorem first_both (gt : Nat) (hgt : gt = 4 ∨ gt = 5) (a b : Ty) (ha : Ok a) (g cap : Nat) (w : World) (ht : Rg g (.node gt 0 () a b) w) (hl : sz (.node gt 0 () a b) ≤ 1000000) : Calls Tryd.prog 36 #[.agg #[.slice (some ⟨g, 0, none⟩) (sz (.node gt 0 () a b)) cap]] w (TPost a w) :=
  tfirst_any _ a (sgn gt 0) (sz a + sz b - 1) [] _ g cap w ht hl ha (by rw [both_nd gt hgt, List.append_assoc]; rfl) (by rcases hgt with rfl | rfl <;> simp [rt, rtA, rtB, sgn])
theorem second_both (gt : Nat) (hgt : gt = 4 ∨ gt = 5) (a b : Ty) (hb : Ok b) (g cap : Nat) (w : World) (ht : Rg g (.node gt 0 () a b) w) (hl : sz (.node gt 0 () a b) ≤ 1000000) : Calls Tryd.prog 37 #[.agg #[.slice (some ⟨g, 0, none⟩) (sz (.node gt 0 () a b)) cap]] w (TPost b w) :=
  tsecond_any _ b (sgn gt 0) (sz a - 1) (nd a 0) _ g cap w ht hl hb (by rw [both_nd gt hgt, nd_length, List.append_assoc]) (by rw [nd_length]; rcases hgt with rfl | rfl <;> simp [rt, rtA, rtB, sgn])
end Go.Proofs.YtceadeaodbadlaaDoor
