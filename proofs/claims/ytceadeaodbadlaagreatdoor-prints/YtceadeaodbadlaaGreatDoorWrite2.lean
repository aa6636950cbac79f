import Derived.Test.YtceadeaodbadlaaGreatDoorWrite
import Derived.Deep.DeepCutAuto
import Derived.Deep.RegionWith
import Derived.Deep.RegionHeld3
set_option linter.unusedVariables false
set_option linter.unusedSimpArgs false
namespace Go.Proofs.YtceadeaodbadlaaGreatDoor
open Go.RowKit

theorem reachesOn_on (T : TypeId) (x : Value) (hk : Kd T x 2) (w : World) :
    Calls Tryz.prog 119 #[.iface T x] w fun e w' => e = .returned (.bool true) ∧ w' = w := reachesOn_any T x 2 hk w
theorem reachesOn_off (T : TypeId) (x : Value) (k : Nat) (hk : Kd T x k) (hk2 : (k == 2) = false) (w : World) :
    Calls Tryz.prog 119 #[.iface T x] w fun e w' => e = .returned (.bool false) ∧ w' = w := by
  rw [← hk2]; exact reachesOn_any T x k hk w

set_option maxHeartbeats 4000000 in
set_option maxRecDepth 100000 in
theorem wr_call_on (T : TypeId) (x : Value) (k : Nat) (f : List UInt8) (T' : TypeId) (x' : Value) (f' : List UInt8) (p : Int) (hk : Kd T x k) (hk' : Kd T' x' 2) (hx : Wr T x f) (hx' : Wr T' x' f') :
    Wr 186 (.agg #[.iface T x, .iface T' x', .int .i64 p]) (partOf (k == 2) f ++ partOf true f') := by
  intro m B wb nm sp l w h hB hl
  have hl2 : l.length + (partOf (k == 2) f).length + (partOf true f').length ≤ 1000000 := by simp at hl; omega
  clear hl
  have hlt := h.lt
  have hmg := h.mge
  have HW : Wi m B wb nm sp l ((w.alloc (.cells #[.pointer (some ⟨wb, 0, none⟩), .bool false] 119)).alloc (.cells #[.iface T x, .iface T' x', .int .i64 p] 186)) := ((h.alloc (.cells #[.pointer (some ⟨wb, 0, none⟩), .bool false] 119)).alloc (.cells #[.iface T x, .iface T' x', .int .i64 p] 186))
  have q00 : ((w.alloc (.cells #[.pointer (some ⟨wb, 0, none⟩), .bool false] 119)).alloc (.cells #[.iface T x, .iface T' x', .int .i64 p] 186)).heap[w.heap.size]? = some (.cells #[.pointer (some ⟨wb, 0, none⟩), .bool false] 119 (0, 0)) := by
    rw [Lib.alloc_old _ _ _ (by simp; try omega)]
    simpa using heap_alloc_new w (.cells #[.pointer (some ⟨wb, 0, none⟩), .bool false] 119)
  have q10 : ((w.alloc (.cells #[.pointer (some ⟨wb, 0, none⟩), .bool false] 119)).alloc (.cells #[.iface T x, .iface T' x', .int .i64 p] 186)).heap[w.heap.size + 1]? = some (.cells #[.iface T x, .iface T' x', .int .i64 p] 186 (0, 0)) := by
    simpa using heap_alloc_new (w.alloc (.cells #[.pointer (some ⟨wb, 0, none⟩), .bool false] 119)) (.cells #[.iface T x, .iface T' x', .int .i64 p] 186)
  have K0 : Kw m B wb w ((w.alloc (.cells #[.pointer (some ⟨wb, 0, none⟩), .bool false] 119)).alloc (.cells #[.iface T x, .iface T' x', .int .i64 p] 186)) := (((Kw.refl m B wb w).alloc (by first | exact hB | (simp; omega)) (.cells #[.pointer (some ⟨wb, 0, none⟩), .bool false] 119)).alloc (by first | exact hB | (simp; omega)) (.cells #[.iface T x, .iface T' x', .int .i64 p] 186))
  have a1 := ta_Call_Name
  have a2 := ta_Call_Constant
  have a3 := ta_Call_Literal
  have a4 := ta_Call_Function
  have a5 := ta_Call_Let
  have a6 := ta_Call_Call
  go_enter Tryz.func82, Tryz.ntmps82
  go_upto_region 21 with fail
  clear a1 a2 a3 a4 a5 a6
  go_cut [64] from 58 to 64 (fun _ wx => Wi m B wb nm sp (l ++ partOf (k == 2) f) wx ∧ Kw m B wb w wx ∧ wx.heap[w.heap.size]? = some (.cells #[.pointer (some ⟨wb, 0, none⟩), .bool false] 119 (0, 0)) ∧ wx.heap[w.heap.size + 1]? = some (.cells #[.iface T x, .iface T' x', .int .i64 p] 186 (0, 0)))
  case first =>
    have c00 : ((w.alloc (.cells #[.pointer (some ⟨wb, 0, none⟩), .bool false] 119)).alloc (.cells #[.iface T x, .iface T' x', .int .i64 p] 186)).cell? ⟨w.heap.size, 0, none⟩ = some (.pointer (some ⟨wb, 0, none⟩)) := by rw [Lib.cell_of_heap q00]; rfl
    have c01 : ((w.alloc (.cells #[.pointer (some ⟨wb, 0, none⟩), .bool false] 119)).alloc (.cells #[.iface T x, .iface T' x', .int .i64 p] 186)).cell? ⟨w.heap.size, 1, none⟩ = some (.bool false) := by rw [Lib.cell_of_heap q00]; rfl
    have c10 : ((w.alloc (.cells #[.pointer (some ⟨wb, 0, none⟩), .bool false] 119)).alloc (.cells #[.iface T x, .iface T' x', .int .i64 p] 186)).cell? ⟨w.heap.size + 1, 0, none⟩ = some (.iface T x) := by rw [Lib.cell_of_heap q10]; rfl
    have s0 : B ≤ ((w.alloc (.cells #[.pointer (some ⟨wb, 0, none⟩), .bool false] 119)).alloc (.cells #[.iface T x, .iface T' x', .int .i64 p] 186)).heap.size := Nat.le_trans hB K0.size
    generalize ((w.alloc (.cells #[.pointer (some ⟨wb, 0, none⟩), .bool false] 119)).alloc (.cells #[.iface T x, .iface T' x', .int .i64 p] 186)) = w0 at *
    go_region_held3 (fun wq => wq.cell? ⟨w.heap.size, 0, none⟩ = some (.pointer (some ⟨wb, 0, none⟩)) ∧ wq.cell? ⟨w.heap.size, 1, none⟩ = some (.bool false) ∧ wq.cell? ⟨w.heap.size + 1, 0, none⟩ = some (.iface T x))
      (first | (go_keep; done) | (go_split_ands; exact ⟨r1, r2, r3⟩))
      (first
        | (go_at_call 119; refine (reachesOn_any T x k hk _).mono ?_; rintro e w' ⟨rfl, rfl⟩; (have r1 := c00); (have r2 := c01); (have r3 := c10))
        | (go_at_call 118; refine (part_any T x f hx (k == 2) m B wb nm sp l _ (by exact HW.drew) (by exact s0) (by omega)).mono ?_; rintro e w1 ⟨rfl, h1, k1⟩; (have k1 := Kw.undrew (n := 1) k1); (have z1 := k1.box q00 (by omega) (hmg _ (by omega)) (by decide)); (have z2 := k1.box q10 (by omega) (hmg _ (by omega)) (by decide)); (have r1 : w1.cell? ⟨w.heap.size, 0, none⟩ = some (.pointer (some ⟨wb, 0, none⟩)) := by rw [Lib.cell_of_heap z1]; rfl); (have r2 : w1.cell? ⟨w.heap.size, 1, none⟩ = some (.bool false) := by rw [Lib.cell_of_heap z1]; rfl); (have r3 : w1.cell? ⟨w.heap.size + 1, 0, none⟩ = some (.iface T x) := by rw [Lib.cell_of_heap z2]; rfl)))
    go_wp2_with fail
    go_meet
    case rel => exact ⟨h1, K0.trans k1, z1, z2⟩
  case rest =>
    obtain ⟨h1, K1, q01, q11⟩ := hcut
    have s1 : B ≤ wc.heap.size := Nat.le_trans hB K1.size
    have e1 : w.heap.size < wc.heap.size := (Array.getElem?_eq_some_iff.1 q01).1
    have e2 : w.heap.size + 1 < wc.heap.size := (Array.getElem?_eq_some_iff.1 q11).1
    have c00 : wc.cell? ⟨w.heap.size, 0, none⟩ = some (.pointer (some ⟨wb, 0, none⟩)) := by rw [Lib.cell_of_heap q01]; rfl
    have c01 : wc.cell? ⟨w.heap.size, 1, none⟩ = some (.bool false) := by rw [Lib.cell_of_heap q01]; rfl
    have c11 : wc.cell? ⟨w.heap.size + 1, 1, none⟩ = some (.iface T' x') := by rw [Lib.cell_of_heap q11]; rfl
    have d00 : ∀ o, (wc.alloc o).cell? ⟨w.heap.size, 0, none⟩ = some (.pointer (some ⟨wb, 0, none⟩)) := fun o => by
      rw [World.cell?_alloc_lt _ _ _ e1]; exact c00
    have d01 : ∀ o, (wc.alloc o).cell? ⟨w.heap.size, 1, none⟩ = some (.bool false) := fun o => by
      rw [World.cell?_alloc_lt _ _ _ e1]; exact c01
    have d11 : ∀ o, (wc.alloc o).cell? ⟨w.heap.size + 1, 1, none⟩ = some (.iface T' x') := fun o => by
      rw [World.cell?_alloc_lt _ _ _ e2]; exact c11
    clear q00 q10 K0 HW h
    go_wp2_with fail
    refine wp_region_held_drew (S := (fun wq => wq.cell? ⟨w.heap.size, 0, none⟩ = some (.pointer (some ⟨wb, 0, none⟩)) ∧ wq.cell? ⟨w.heap.size, 1, none⟩ = some (.bool false) ∧ wq.cell? ⟨w.heap.size + 1, 1, none⟩ = some (.iface T' x'))) (by kernel_rfl) (⟨c00, c01, c11⟩) (fun hS => ?_)
    refine wpAnyH_take (i := 0) (v := .agg #[.pointer (some ⟨wb, 0, none⟩), .bool false]) rfl (by kernel_rfl) (by kernel_rfl) (by kernel_rfl) (fun _ _ _ h => h) (Or.inl ⟨by rfl, fun w hSw => by (try dsimp only at hSw); go_split_ands; go_simp⟩) hS ?_
    (try simp only [List.getElem_toArray, List.getElem_cons_succ, List.getElem_cons_zero, Act.put, List.setIfInBounds_toArray, List.set_cons_zero, List.set_cons_succ])
    refine wpAnyH_take (i := 1) (v := .pointer (some ⟨w.heap.size + 1, 1, none⟩)) rfl (by kernel_rfl) (by kernel_rfl) (by kernel_rfl) (fun _ _ _ h => h) (Or.inl ⟨by rfl, fun w hSw => by go_simp⟩) hS ?_
    (try simp only [List.getElem_toArray, List.getElem_cons_succ, List.getElem_cons_zero, Act.put, List.setIfInBounds_toArray, List.set_cons_zero, List.set_cons_succ])
    refine wpAnyH_take (i := 2) (v := .iface T' x') rfl (by kernel_rfl) (by kernel_rfl) (by kernel_rfl) (fun _ _ _ h => h) (Or.inl ⟨by rfl, fun w hSw => by (try dsimp only at hSw); go_split_ands; go_simp⟩) hS ?_
    (try simp only [List.getElem_toArray, List.getElem_cons_succ, List.getElem_cons_zero, Act.put, List.setIfInBounds_toArray, List.set_cons_zero, List.set_cons_succ])
    refine wpAnyH_take (i := 3) (v := .pointer (some ⟨w.heap.size + 1, 1, none⟩)) rfl (by kernel_rfl) (by kernel_rfl) (by kernel_rfl) (fun _ _ _ h => h) (Or.inl ⟨by rfl, fun w hSw => by go_simp⟩) hS ?_
    (try simp only [List.getElem_toArray, List.getElem_cons_succ, List.getElem_cons_zero, Act.put, List.setIfInBounds_toArray, List.set_cons_zero, List.set_cons_succ])
    refine wpAnyH_take (i := 4) (v := .iface T' x') rfl (by kernel_rfl) (by kernel_rfl) (by kernel_rfl) (fun _ _ _ h => h) (Or.inl ⟨by rfl, fun w hSw => by (try dsimp only at hSw); go_split_ands; go_simp⟩) hS ?_
    (try simp only [List.getElem_toArray, List.getElem_cons_succ, List.getElem_cons_zero, Act.put, List.setIfInBounds_toArray, List.set_cons_zero, List.set_cons_succ])
    refine wpAnyH_ready (rs := [5]) (by kernel_rfl) (by simp) ?_
    refine AllReadyH.cons rfl (fun KK hK => ?_) AllReadyH.nil
    (try simp only [List.getElem_toArray, List.getElem_cons_succ, List.getElem_cons_zero])
    go_simp
    go_at_call 119
    refine (reachesOn_on T' x' hk' _).mono ?_
    rintro e w' ⟨rfl, rfl⟩
    dsimp only
    refine hK.out _ _ ⟨c00, c01, c11⟩ (fun hS => ?_)
    (try simp only [List.getElem_toArray, List.getElem_cons_succ, List.getElem_cons_zero, Act.put, List.setIfInBounds_toArray, List.set_cons_zero, List.set_cons_succ])
    refine wpAnyH_take (i := 6) (v := .bool true) rfl (by kernel_rfl) (by kernel_rfl) (by kernel_rfl) (fun _ _ _ h => h) (Or.inl ⟨by rfl, fun w hSw => by go_simp⟩) hS ?_
    (try simp only [List.getElem_toArray, List.getElem_cons_succ, List.getElem_cons_zero, Act.put, List.setIfInBounds_toArray, List.set_cons_zero, List.set_cons_succ])
    refine wpAnyH_take (i := 7) (v := undef) rfl (by kernel_rfl) (by kernel_rfl) (by kernel_rfl) (fun _ _ _ h => h) (Or.inr ⟨by rfl, rfl⟩) hS ?_
    (try simp only [List.getElem_toArray, List.getElem_cons_succ, List.getElem_cons_zero, Act.put, List.setIfInBounds_toArray, List.set_cons_zero, List.set_cons_succ])
    refine wpAnyH_take (i := 8) (v := undef) rfl (by kernel_rfl) (by kernel_rfl) (by kernel_rfl) (fun _ _ _ h => h) (Or.inr ⟨by rfl, rfl⟩) hS ?_
    (try simp only [List.getElem_toArray, List.getElem_cons_succ, List.getElem_cons_zero, Act.put, List.setIfInBounds_toArray, List.set_cons_zero, List.set_cons_succ])
    refine wpAnyH_take (i := 9) (v := undef) rfl (by kernel_rfl) (by kernel_rfl) (by kernel_rfl) (fun _ _ _ h => h) (Or.inr ⟨by rfl, rfl⟩) hS ?_
    (try simp only [List.getElem_toArray, List.getElem_cons_succ, List.getElem_cons_zero, Act.put, List.setIfInBounds_toArray, List.set_cons_zero, List.set_cons_succ])
    refine wpAnyH_take (i := 10) (v := .bool true) rfl (by kernel_rfl) (by kernel_rfl) (by kernel_rfl) (fun _ _ _ h => h) (Or.inl ⟨by rfl, fun w hSw => by go_simp⟩) hS ?_
    (try simp only [List.getElem_toArray, List.getElem_cons_succ, List.getElem_cons_zero, Act.put, List.setIfInBounds_toArray, List.set_cons_zero, List.set_cons_succ])
    refine wpAnyH_ready (rs := [11]) (by kernel_rfl) (by simp) ?_
    refine AllReadyH.cons rfl (fun KK hK => ?_) AllReadyH.nil
    (try simp only [List.getElem_toArray, List.getElem_cons_succ, List.getElem_cons_zero])
    go_simp
    go_at_call 118
    refine (part_any T' x' f' hx' true m B wb nm sp _ _ (by exact h1.drew) (by simp; omega) (by simp; omega)).mono ?_
    rintro e w2 ⟨rfl, h2, k2⟩
    have k2 := Kw.undrew (n := 1) k2
    have hm2 := h1.mge
    have z1 := k2.box q01 (by omega) (hmg _ (by omega)) (by decide)
    have z2 := k2.box q11 (by omega) (hmg _ (by omega)) (by decide)
    have r1 : w2.cell? ⟨w.heap.size, 0, none⟩ = some (.pointer (some ⟨wb, 0, none⟩)) := by rw [Lib.cell_of_heap z1]; rfl
    have r2 : w2.cell? ⟨w.heap.size, 1, none⟩ = some (.bool false) := by rw [Lib.cell_of_heap z1]; rfl
    have r3 : w2.cell? ⟨w.heap.size + 1, 1, none⟩ = some (.iface T' x') := by rw [Lib.cell_of_heap z2]; rfl
    dsimp only
    refine hK.out _ _ ⟨r1, r2, r3⟩ (fun hS => ?_)
    (try simp only [List.getElem_toArray, List.getElem_cons_succ, List.getElem_cons_zero, Act.put, List.setIfInBounds_toArray, List.set_cons_zero, List.set_cons_succ])
    refine wpAnyH_done (by kernel_rfl) ?_ _
    go_wp2_with fail
    go_end0
    exact ⟨rfl, by simpa using h2, K1.trans k2⟩

set_option maxHeartbeats 4000000 in
set_option maxRecDepth 100000 in
theorem wr_call_off (T : TypeId) (x : Value) (k : Nat) (f : List UInt8) (T' : TypeId) (x' : Value) (k' : Nat) (f' : List UInt8) (p : Int) (hk : Kd T x k) (hk' : Kd T' x' k') (hk2 : (k' == 2) = false) (hx : Wr T x f) (hx' : Wr T' x' f') :
    Wr 186 (.agg #[.iface T x, .iface T' x', .int .i64 p]) (partOf (k == 2) f ++ partOf (k' == 1) f') := by
  intro m B wb nm sp l w h hB hl
  have hl2 : l.length + (partOf (k == 2) f).length + (partOf (k' == 1) f').length ≤ 1000000 := by simp at hl; omega
  clear hl
  have hlt := h.lt
  have hmg := h.mge
  have HW : Wi m B wb nm sp l ((w.alloc (.cells #[.pointer (some ⟨wb, 0, none⟩), .bool false] 119)).alloc (.cells #[.iface T x, .iface T' x', .int .i64 p] 186)) := ((h.alloc (.cells #[.pointer (some ⟨wb, 0, none⟩), .bool false] 119)).alloc (.cells #[.iface T x, .iface T' x', .int .i64 p] 186))
  have q00 : ((w.alloc (.cells #[.pointer (some ⟨wb, 0, none⟩), .bool false] 119)).alloc (.cells #[.iface T x, .iface T' x', .int .i64 p] 186)).heap[w.heap.size]? = some (.cells #[.pointer (some ⟨wb, 0, none⟩), .bool false] 119 (0, 0)) := by
    rw [Lib.alloc_old _ _ _ (by simp; try omega)]
    simpa using heap_alloc_new w (.cells #[.pointer (some ⟨wb, 0, none⟩), .bool false] 119)
  have q10 : ((w.alloc (.cells #[.pointer (some ⟨wb, 0, none⟩), .bool false] 119)).alloc (.cells #[.iface T x, .iface T' x', .int .i64 p] 186)).heap[w.heap.size + 1]? = some (.cells #[.iface T x, .iface T' x', .int .i64 p] 186 (0, 0)) := by
    simpa using heap_alloc_new (w.alloc (.cells #[.pointer (some ⟨wb, 0, none⟩), .bool false] 119)) (.cells #[.iface T x, .iface T' x', .int .i64 p] 186)
  have K0 : Kw m B wb w ((w.alloc (.cells #[.pointer (some ⟨wb, 0, none⟩), .bool false] 119)).alloc (.cells #[.iface T x, .iface T' x', .int .i64 p] 186)) := (((Kw.refl m B wb w).alloc (by first | exact hB | (simp; omega)) (.cells #[.pointer (some ⟨wb, 0, none⟩), .bool false] 119)).alloc (by first | exact hB | (simp; omega)) (.cells #[.iface T x, .iface T' x', .int .i64 p] 186))
  have a1 := ta_Call_Name
  have a2 := ta_Call_Constant
  have a3 := ta_Call_Literal
  have a4 := ta_Call_Function
  have a5 := ta_Call_Let
  have a6 := ta_Call_Call
  go_enter Tryz.func82, Tryz.ntmps82
  go_upto_region 21 with fail
  clear a1 a2 a3 a4 a5 a6
  go_cut [64] from 58 to 64 (fun _ wx => Wi m B wb nm sp (l ++ partOf (k == 2) f) wx ∧ Kw m B wb w wx ∧ wx.heap[w.heap.size]? = some (.cells #[.pointer (some ⟨wb, 0, none⟩), .bool false] 119 (0, 0)) ∧ wx.heap[w.heap.size + 1]? = some (.cells #[.iface T x, .iface T' x', .int .i64 p] 186 (0, 0)))
  case first =>
    have c00 : ((w.alloc (.cells #[.pointer (some ⟨wb, 0, none⟩), .bool false] 119)).alloc (.cells #[.iface T x, .iface T' x', .int .i64 p] 186)).cell? ⟨w.heap.size, 0, none⟩ = some (.pointer (some ⟨wb, 0, none⟩)) := by rw [Lib.cell_of_heap q00]; rfl
    have c01 : ((w.alloc (.cells #[.pointer (some ⟨wb, 0, none⟩), .bool false] 119)).alloc (.cells #[.iface T x, .iface T' x', .int .i64 p] 186)).cell? ⟨w.heap.size, 1, none⟩ = some (.bool false) := by rw [Lib.cell_of_heap q00]; rfl
    have c10 : ((w.alloc (.cells #[.pointer (some ⟨wb, 0, none⟩), .bool false] 119)).alloc (.cells #[.iface T x, .iface T' x', .int .i64 p] 186)).cell? ⟨w.heap.size + 1, 0, none⟩ = some (.iface T x) := by rw [Lib.cell_of_heap q10]; rfl
    have s0 : B ≤ ((w.alloc (.cells #[.pointer (some ⟨wb, 0, none⟩), .bool false] 119)).alloc (.cells #[.iface T x, .iface T' x', .int .i64 p] 186)).heap.size := Nat.le_trans hB K0.size
    generalize ((w.alloc (.cells #[.pointer (some ⟨wb, 0, none⟩), .bool false] 119)).alloc (.cells #[.iface T x, .iface T' x', .int .i64 p] 186)) = w0 at *
    go_region_held3 (fun wq => wq.cell? ⟨w.heap.size, 0, none⟩ = some (.pointer (some ⟨wb, 0, none⟩)) ∧ wq.cell? ⟨w.heap.size, 1, none⟩ = some (.bool false) ∧ wq.cell? ⟨w.heap.size + 1, 0, none⟩ = some (.iface T x))
      (first | (go_keep; done) | (go_split_ands; exact ⟨r1, r2, r3⟩))
      (first
        | (go_at_call 119; refine (reachesOn_any T x k hk _).mono ?_; rintro e w' ⟨rfl, rfl⟩; (have r1 := c00); (have r2 := c01); (have r3 := c10))
        | (go_at_call 118; refine (part_any T x f hx (k == 2) m B wb nm sp l _ (by exact HW.drew) (by exact s0) (by omega)).mono ?_; rintro e w1 ⟨rfl, h1, k1⟩; (have k1 := Kw.undrew (n := 1) k1); (have z1 := k1.box q00 (by omega) (hmg _ (by omega)) (by decide)); (have z2 := k1.box q10 (by omega) (hmg _ (by omega)) (by decide)); (have r1 : w1.cell? ⟨w.heap.size, 0, none⟩ = some (.pointer (some ⟨wb, 0, none⟩)) := by rw [Lib.cell_of_heap z1]; rfl); (have r2 : w1.cell? ⟨w.heap.size, 1, none⟩ = some (.bool false) := by rw [Lib.cell_of_heap z1]; rfl); (have r3 : w1.cell? ⟨w.heap.size + 1, 0, none⟩ = some (.iface T x) := by rw [Lib.cell_of_heap z2]; rfl)))
    go_wp2_with fail
    go_meet
    case rel => exact ⟨h1, K0.trans k1, z1, z2⟩
  case rest =>
    obtain ⟨h1, K1, q01, q11⟩ := hcut
    have s1 : B ≤ wc.heap.size := Nat.le_trans hB K1.size
    have e1 : w.heap.size < wc.heap.size := (Array.getElem?_eq_some_iff.1 q01).1
    have e2 : w.heap.size + 1 < wc.heap.size := (Array.getElem?_eq_some_iff.1 q11).1
    have c00 : wc.cell? ⟨w.heap.size, 0, none⟩ = some (.pointer (some ⟨wb, 0, none⟩)) := by rw [Lib.cell_of_heap q01]; rfl
    have c01 : wc.cell? ⟨w.heap.size, 1, none⟩ = some (.bool false) := by rw [Lib.cell_of_heap q01]; rfl
    have c11 : wc.cell? ⟨w.heap.size + 1, 1, none⟩ = some (.iface T' x') := by rw [Lib.cell_of_heap q11]; rfl
    have d00 : ∀ o, (wc.alloc o).cell? ⟨w.heap.size, 0, none⟩ = some (.pointer (some ⟨wb, 0, none⟩)) := fun o => by
      rw [World.cell?_alloc_lt _ _ _ e1]; exact c00
    have d01 : ∀ o, (wc.alloc o).cell? ⟨w.heap.size, 1, none⟩ = some (.bool false) := fun o => by
      rw [World.cell?_alloc_lt _ _ _ e1]; exact c01
    have d11 : ∀ o, (wc.alloc o).cell? ⟨w.heap.size + 1, 1, none⟩ = some (.iface T' x') := fun o => by
      rw [World.cell?_alloc_lt _ _ _ e2]; exact c11
    clear q00 q10 K0 HW h
    go_wp2_with fail
    refine wp_region_held_drew (S := (fun wq => wq.cell? ⟨w.heap.size, 0, none⟩ = some (.pointer (some ⟨wb, 0, none⟩)) ∧ wq.cell? ⟨w.heap.size, 1, none⟩ = some (.bool false) ∧ wq.cell? ⟨w.heap.size + 1, 1, none⟩ = some (.iface T' x'))) (by kernel_rfl) (⟨c00, c01, c11⟩) (fun hS => ?_)
    refine wpAnyH_take (i := 0) (v := .agg #[.pointer (some ⟨wb, 0, none⟩), .bool false]) rfl (by kernel_rfl) (by kernel_rfl) (by kernel_rfl) (fun _ _ _ h => h) (Or.inl ⟨by rfl, fun w hSw => by (try dsimp only at hSw); go_split_ands; go_simp⟩) hS ?_
    (try simp only [List.getElem_toArray, List.getElem_cons_succ, List.getElem_cons_zero, Act.put, List.setIfInBounds_toArray, List.set_cons_zero, List.set_cons_succ])
    refine wpAnyH_take (i := 1) (v := .pointer (some ⟨w.heap.size + 1, 1, none⟩)) rfl (by kernel_rfl) (by kernel_rfl) (by kernel_rfl) (fun _ _ _ h => h) (Or.inl ⟨by rfl, fun w hSw => by go_simp⟩) hS ?_
    (try simp only [List.getElem_toArray, List.getElem_cons_succ, List.getElem_cons_zero, Act.put, List.setIfInBounds_toArray, List.set_cons_zero, List.set_cons_succ])
    refine wpAnyH_take (i := 2) (v := .iface T' x') rfl (by kernel_rfl) (by kernel_rfl) (by kernel_rfl) (fun _ _ _ h => h) (Or.inl ⟨by rfl, fun w hSw => by (try dsimp only at hSw); go_split_ands; go_simp⟩) hS ?_
    (try simp only [List.getElem_toArray, List.getElem_cons_succ, List.getElem_cons_zero, Act.put, List.setIfInBounds_toArray, List.set_cons_zero, List.set_cons_succ])
    refine wpAnyH_take (i := 3) (v := .pointer (some ⟨w.heap.size + 1, 1, none⟩)) rfl (by kernel_rfl) (by kernel_rfl) (by kernel_rfl) (fun _ _ _ h => h) (Or.inl ⟨by rfl, fun w hSw => by go_simp⟩) hS ?_
    (try simp only [List.getElem_toArray, List.getElem_cons_succ, List.getElem_cons_zero, Act.put, List.setIfInBounds_toArray, List.set_cons_zero, List.set_cons_succ])
    refine wpAnyH_take (i := 4) (v := .iface T' x') rfl (by kernel_rfl) (by kernel_rfl) (by kernel_rfl) (fun _ _ _ h => h) (Or.inl ⟨by rfl, fun w hSw => by (try dsimp only at hSw); go_split_ands; go_simp⟩) hS ?_
    (try simp only [List.getElem_toArray, List.getElem_cons_succ, List.getElem_cons_zero, Act.put, List.setIfInBounds_toArray, List.set_cons_zero, List.set_cons_succ])
    refine wpAnyH_ready (rs := [5]) (by kernel_rfl) (by simp) ?_
    refine AllReadyH.cons rfl (fun KK hK => ?_) AllReadyH.nil
    (try simp only [List.getElem_toArray, List.getElem_cons_succ, List.getElem_cons_zero])
    go_simp
    go_at_call 119
    refine (reachesOn_off T' x' k' hk' hk2 _).mono ?_
    rintro e w' ⟨rfl, rfl⟩
    dsimp only
    refine hK.out _ _ ⟨c00, c01, c11⟩ (fun hS => ?_)
    (try simp only [List.getElem_toArray, List.getElem_cons_succ, List.getElem_cons_zero, Act.put, List.setIfInBounds_toArray, List.set_cons_zero, List.set_cons_succ])
    refine wpAnyH_take (i := 6) (v := .bool false) rfl (by kernel_rfl) (by kernel_rfl) (by kernel_rfl) (fun _ _ _ h => h) (Or.inl ⟨by rfl, fun w hSw => by go_simp⟩) hS ?_
    (try simp only [List.getElem_toArray, List.getElem_cons_succ, List.getElem_cons_zero, Act.put, List.setIfInBounds_toArray, List.set_cons_zero, List.set_cons_succ])
    refine wpAnyH_take (i := 7) (v := .pointer (some ⟨w.heap.size + 1, 1, none⟩)) rfl (by kernel_rfl) (by kernel_rfl) (by kernel_rfl) (fun _ _ _ h => h) (Or.inl ⟨by rfl, fun w hSw => by go_simp⟩) hS ?_
    (try simp only [List.getElem_toArray, List.getElem_cons_succ, List.getElem_cons_zero, Act.put, List.setIfInBounds_toArray, List.set_cons_zero, List.set_cons_succ])
    refine wpAnyH_take (i := 8) (v := .iface T' x') rfl (by kernel_rfl) (by kernel_rfl) (by kernel_rfl) (fun _ _ _ h => h) (Or.inl ⟨by rfl, fun w hSw => by (try dsimp only at hSw); go_split_ands; go_simp⟩) hS ?_
    (try simp only [List.getElem_toArray, List.getElem_cons_succ, List.getElem_cons_zero, Act.put, List.setIfInBounds_toArray, List.set_cons_zero, List.set_cons_succ])
    refine wpAnyH_ready (rs := [9]) (by kernel_rfl) (by simp) ?_
    refine AllReadyH.cons rfl (fun KK hK => ?_) AllReadyH.nil
    (try simp only [List.getElem_toArray, List.getElem_cons_succ, List.getElem_cons_zero])
    go_simp
    go_at_call 120
    refine (isCall_any T' x' k' hk' _).mono ?_
    rintro e w' ⟨rfl, o, rfl⟩
    dsimp only
    refine hK.out _ _ ⟨d00 o, d01 o, d11 o⟩ (fun hS => ?_)
    (try simp only [List.getElem_toArray, List.getElem_cons_succ, List.getElem_cons_zero, Act.put, List.setIfInBounds_toArray, List.set_cons_zero, List.set_cons_succ])
    refine wpAnyH_take (i := 10) (v := .bool (k' == 1)) rfl (by kernel_rfl) (by kernel_rfl) (by kernel_rfl) (fun _ _ _ h => h) (Or.inl ⟨by rfl, fun w hSw => by go_simp⟩) hS ?_
    (try simp only [List.getElem_toArray, List.getElem_cons_succ, List.getElem_cons_zero, Act.put, List.setIfInBounds_toArray, List.set_cons_zero, List.set_cons_succ])
    refine wpAnyH_ready (rs := [11]) (by kernel_rfl) (by simp) ?_
    refine AllReadyH.cons rfl (fun KK hK => ?_) AllReadyH.nil
    (try simp only [List.getElem_toArray, List.getElem_cons_succ, List.getElem_cons_zero])
    go_simp
    go_at_call 118
    refine (part_any T' x' f' hx' (k' == 1) m B wb nm sp _ _ (by exact h1.drew.alloc o) (by simp; omega) (by simp; omega)).mono ?_
    rintro e w2 ⟨rfl, h2, k2⟩
    have k2 : Kw m B wb wc w2 := ((Kw.refl m B wb wc).alloc s1 o).trans ⟨⟨k2.1.os, k2.1.tape, k2.1.output, k2.1.size, k2.1.block⟩, k2.2⟩
    have hm2 := h1.mge
    have z1 := k2.box q01 (by omega) (hmg _ (by omega)) (by decide)
    have z2 := k2.box q11 (by omega) (hmg _ (by omega)) (by decide)
    have r1 : w2.cell? ⟨w.heap.size, 0, none⟩ = some (.pointer (some ⟨wb, 0, none⟩)) := by rw [Lib.cell_of_heap z1]; rfl
    have r2 : w2.cell? ⟨w.heap.size, 1, none⟩ = some (.bool false) := by rw [Lib.cell_of_heap z1]; rfl
    have r3 : w2.cell? ⟨w.heap.size + 1, 1, none⟩ = some (.iface T' x') := by rw [Lib.cell_of_heap z2]; rfl
    dsimp only
    refine hK.out _ _ ⟨r1, r2, r3⟩ (fun hS => ?_)
    (try simp only [List.getElem_toArray, List.getElem_cons_succ, List.getElem_cons_zero, Act.put, List.setIfInBounds_toArray, List.set_cons_zero, List.set_cons_succ])
    refine wpAnyH_done (by kernel_rfl) ?_ _
    go_wp2_with fail
    go_end0
    exact ⟨rfl, by simpa using h2, K1.trans k2⟩

theorem wr_call (T : TypeId) (x : Value) (k : Nat) (f : List UInt8) (T' : TypeId) (x' : Value) (k' : Nat) (f' : List UInt8) (p : Int) (hk : Kd T x k) (hk' : Kd T' x' k') (hx : Wr T x f) (hx' : Wr T' x' f') :
    Wr 186 (.agg #[.iface T x, .iface T' x', .int .i64 p]) (firstOf k f ++ secondOf k' f') := by
  rw [firstOf_part, secondOf_part hk']
  by_cases h2 : k' = 2
  · subst h2
    exact wr_call_on T x k f T' x' f' p hk hk' hx hx'
  · have hk2 : (k' == 2) = false := by simp [h2]
    rw [hk2, Bool.false_or]
    exact wr_call_off T x k f T' x' k' f' p hk hk' hk2 hx hx'
end Go.Proofs.YtceadeaodbadlaaGreatDoor
