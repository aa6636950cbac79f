import Derived.Test.YtkcleplifimgmaaDoorFits
set_option linter.unusedVariables false
set_option linter.unusedSimpArgs false
namespace Go.Proofs.YtkcleplifimgmaaDoor
open Go.RowKit

set_option maxRecDepth 100000 in
set_option maxHeartbeats 1000000 in
theorem fits_Pair_miss (q : Nat) (T : TypeId) (v : Value) (h : T ≠ 104) (w : World) (b : Nat) : Calls Tryd.prog 23 #[viP q, .iface T v, .map (some b)] w (MPost b none w) := by
  have z := fun w => tm_Pair v h w
  have a1 := fun v => tm_Whole (T := 104) v (by decide)
  have a2 := fun v => tm_Truth (T := 104) v (by decide)
  have a3 := fun v => tm_Variable (T := 104) v (by decide)
  have a4 := fun v => tm_List (T := 104) v (by decide)
  have a5 := th_Pair
  go_enter Tryd.func23, Tryd.ntmps23
  go_wp2_with fail
  go_quiet (fail)
  go_wp2_with fail
  go_ret
  exact ⟨rfl, (Gb.refl b w).drewN _, fun m hm => by cases hm⟩

set_option maxRecDepth 100000 in
set_option maxHeartbeats 4000000 in
theorem fits_Pair_no (a a' c d : Ty) (ih : FitsAt a c) (ih' : FitsAt a' d) (w : World) (b : Nat) (l : List (Nat × Ty)) (hac : fitsT a c l = none) (q q' n n' : Nat) (x x2 y y2 : Value) (h : Mp b l w) (hx : Tv w a x) (hx2 : Tv w a' x2) (hy : Tv w c y) (hy2 : Tv w d y2) (hq : w.heap[q]? = some (obP n x x2)) (hq' : w.heap[q']? = some (obP n' y y2)) : Calls Tryd.prog 23 #[viP q, viP q', .map (some b)] w (MPost b none w) := by
  have IH0 := ih w.drew b l x y h.drew hx.drew hy.drew
  rw [hac] at IH0
  have IH : Hid (Calls Tryd.prog 23 #[x, y, .map (some b)] w.drew (MPost b none w.drew)) := IH0
  have HK : Hid (∀ w1, Gb b w.drew w1 → KeptN w w1) := fun w1 g => h.kept g.undrew
  obtain ⟨T, x', rfl⟩ := hx.iface
  obtain ⟨T', y', rfl⟩ := hy.iface
  obtain ⟨S, x2', rfl⟩ := hx2.iface
  obtain ⟨S', y2', rfl⟩ := hy2.iface
  have HQ : Hid (w.heap[q]? = some (obP n (.iface T x') (.iface S x2'))) := hq
  have HQ' : Hid (w.heap[q']? = some (obP n' (.iface T' y') (.iface S' y2'))) := hq'
  have c1 : w.cell? ⟨q, 0, none⟩ = some (.iface T x') := by rw [Lib.cell_of_heap hq]; rfl
  have c2 : w.cell? ⟨q', 0, none⟩ = some (.iface T' y') := by rw [Lib.cell_of_heap hq']; rfl
  have c3 : w.cell? ⟨q, 1, none⟩ = some (.iface S x2') := by rw [Lib.cell_of_heap hq]; rfl
  have c4 : w.cell? ⟨q', 1, none⟩ = some (.iface S' y2') := by rw [Lib.cell_of_heap hq']; rfl
  have a1 := fun v => tm_Whole (T := 104) v (by decide)
  have a2 := fun v => tm_Truth (T := 104) v (by decide)
  have a3 := fun v => tm_Variable (T := 104) v (by decide)
  have a4 := fun v => tm_List (T := 104) v (by decide)
  have a5 := th_Pair
  clear ih ih' hx hx2 hy hy2 hq hq' h hac IH0
  go_enter Tryd.func23, Tryd.ntmps23
  go_wp2_with fail
  refine wp_region_held_drew (S := (fun wq => wq.cell? ⟨q, 0, none⟩ = some (.iface T x') ∧ wq.cell? ⟨q', 0, none⟩ = some (.iface T' y') ∧ wq.cell? ⟨q, 1, none⟩ = some (.iface S x2') ∧ wq.cell? ⟨q', 1, none⟩ = some (.iface S' y2'))) (by kernel_rfl) (⟨c1, c2, c3, c4⟩) (fun hS => ?_)
  refine wpAnyH_take (i := 0) (v := .bool true) rfl (by kernel_rfl) (by kernel_rfl) (by kernel_rfl) (fun _ _ _ h => h) (Or.inl ⟨by rfl, fun w hSw => by go_simp⟩) hS ?_
  (try simp only [List.getElem_toArray, List.getElem_cons_succ, List.getElem_cons_zero, Act.put, List.setIfInBounds_toArray, List.set_cons_zero, List.set_cons_succ])
  refine wpAnyH_take (i := 1) (v := .bool true) rfl (by kernel_rfl) (by kernel_rfl) (by kernel_rfl) (fun _ _ _ h => h) (Or.inl ⟨by rfl, fun w hSw => by go_simp⟩) hS ?_
  (try simp only [List.getElem_toArray, List.getElem_cons_succ, List.getElem_cons_zero, Act.put, List.setIfInBounds_toArray, List.set_cons_zero, List.set_cons_succ])
  refine wpAnyH_take (i := 2) (v := .pointer (some ⟨q, 0, none⟩)) rfl (by kernel_rfl) (by kernel_rfl) (by kernel_rfl) (fun _ _ _ h => h) (Or.inl ⟨by rfl, fun w hSw => by go_simp⟩) hS ?_
  (try simp only [List.getElem_toArray, List.getElem_cons_succ, List.getElem_cons_zero, Act.put, List.setIfInBounds_toArray, List.set_cons_zero, List.set_cons_succ])
  refine wpAnyH_take (i := 3) (v := .pointer (some ⟨q, 0, none⟩)) rfl (by kernel_rfl) (by kernel_rfl) (by kernel_rfl) (fun _ _ _ h => h) (Or.inl ⟨by rfl, fun w hSw => by go_simp⟩) hS ?_
  (try simp only [List.getElem_toArray, List.getElem_cons_succ, List.getElem_cons_zero, Act.put, List.setIfInBounds_toArray, List.set_cons_zero, List.set_cons_succ])
  refine wpAnyH_take (i := 4) (v := .pointer (some ⟨q, 0, none⟩)) rfl (by kernel_rfl) (by kernel_rfl) (by kernel_rfl) (fun _ _ _ h => h) (Or.inl ⟨by rfl, fun w hSw => by go_simp⟩) hS ?_
  (try simp only [List.getElem_toArray, List.getElem_cons_succ, List.getElem_cons_zero, Act.put, List.setIfInBounds_toArray, List.set_cons_zero, List.set_cons_succ])
  refine wpAnyH_take (i := 5) (v := .iface T x') rfl (by kernel_rfl) (by kernel_rfl) (by kernel_rfl) (fun _ _ _ h => h) (Or.inl ⟨by rfl, fun w hSw => by (try dsimp only at hSw); go_split_ands; go_simp⟩) hS ?_
  (try simp only [List.getElem_toArray, List.getElem_cons_succ, List.getElem_cons_zero, Act.put, List.setIfInBounds_toArray, List.set_cons_zero, List.set_cons_succ])
  refine wpAnyH_take (i := 6) (v := .pointer (some ⟨q', 0, none⟩)) rfl (by kernel_rfl) (by kernel_rfl) (by kernel_rfl) (fun _ _ _ h => h) (Or.inl ⟨by rfl, fun w hSw => by go_simp⟩) hS ?_
  (try simp only [List.getElem_toArray, List.getElem_cons_succ, List.getElem_cons_zero, Act.put, List.setIfInBounds_toArray, List.set_cons_zero, List.set_cons_succ])
  refine wpAnyH_take (i := 7) (v := .pointer (some ⟨q', 0, none⟩)) rfl (by kernel_rfl) (by kernel_rfl) (by kernel_rfl) (fun _ _ _ h => h) (Or.inl ⟨by rfl, fun w hSw => by go_simp⟩) hS ?_
  (try simp only [List.getElem_toArray, List.getElem_cons_succ, List.getElem_cons_zero, Act.put, List.setIfInBounds_toArray, List.set_cons_zero, List.set_cons_succ])
  refine wpAnyH_take (i := 8) (v := .pointer (some ⟨q', 0, none⟩)) rfl (by kernel_rfl) (by kernel_rfl) (by kernel_rfl) (fun _ _ _ h => h) (Or.inl ⟨by rfl, fun w hSw => by go_simp⟩) hS ?_
  (try simp only [List.getElem_toArray, List.getElem_cons_succ, List.getElem_cons_zero, Act.put, List.setIfInBounds_toArray, List.set_cons_zero, List.set_cons_succ])
  refine wpAnyH_take (i := 9) (v := .iface T' y') rfl (by kernel_rfl) (by kernel_rfl) (by kernel_rfl) (fun _ _ _ h => h) (Or.inl ⟨by rfl, fun w hSw => by (try dsimp only at hSw); go_split_ands; go_simp⟩) hS ?_
  (try simp only [List.getElem_toArray, List.getElem_cons_succ, List.getElem_cons_zero, Act.put, List.setIfInBounds_toArray, List.set_cons_zero, List.set_cons_succ])
  refine wpAnyH_take (i := 10) (v := .map (some b)) rfl (by kernel_rfl) (by kernel_rfl) (by kernel_rfl) (fun _ _ _ h => h) (Or.inl ⟨by rfl, fun w hSw => by go_simp⟩) hS ?_
  (try simp only [List.getElem_toArray, List.getElem_cons_succ, List.getElem_cons_zero, Act.put, List.setIfInBounds_toArray, List.set_cons_zero, List.set_cons_succ])
  refine wpAnyH_ready (rs := [11]) (by kernel_rfl) (by simp) ?_
  refine AllReadyH.cons rfl (fun K hK => ?_) AllReadyH.nil
  (try simp only [List.getElem_toArray, List.getElem_cons_succ, List.getElem_cons_zero])
  go_simp
  go_at_call 23
  refine IH.out.mono ?_
  rintro e w1 ⟨rfl, hg, hm⟩
  have K1 := HK.out w1 hg
  have q1 : w1.cell? ⟨q, 0, none⟩ = some (.iface T x') := by rw [Lib.cell_of_heap (K1 q _ _ (.inr (.inl rfl)) HQ.out)]; rfl
  have q2 : w1.cell? ⟨q', 0, none⟩ = some (.iface T' y') := by rw [Lib.cell_of_heap (K1 q' _ _ (.inr (.inl rfl)) HQ'.out)]; rfl
  have q3 : w1.cell? ⟨q, 1, none⟩ = some (.iface S x2') := by rw [Lib.cell_of_heap (K1 q _ _ (.inr (.inl rfl)) HQ.out)]; rfl
  have q4 : w1.cell? ⟨q', 1, none⟩ = some (.iface S' y2') := by rw [Lib.cell_of_heap (K1 q' _ _ (.inr (.inl rfl)) HQ'.out)]; rfl
  dsimp only
  refine hK.out _ _ ⟨q1, q2, q3, q4⟩ (fun hS => ?_)
  (try simp only [List.getElem_toArray, List.getElem_cons_succ, List.getElem_cons_zero, Act.put, List.setIfInBounds_toArray, List.set_cons_zero, List.set_cons_succ])
  refine wpAnyH_take (i := 12) (v := .bool false) rfl (by kernel_rfl) (by kernel_rfl) (by kernel_rfl) (fun _ _ _ h => h) (Or.inl ⟨by rfl, fun w hSw => by go_simp⟩) hS ?_
  (try simp only [List.getElem_toArray, List.getElem_cons_succ, List.getElem_cons_zero, Act.put, List.setIfInBounds_toArray, List.set_cons_zero, List.set_cons_succ])
  refine wpAnyH_take (i := 13) (v := .bool false) rfl (by kernel_rfl) (by kernel_rfl) (by kernel_rfl) (fun _ _ _ h => h) (Or.inl ⟨by rfl, fun w hSw => by go_simp⟩) hS ?_
  (try simp only [List.getElem_toArray, List.getElem_cons_succ, List.getElem_cons_zero, Act.put, List.setIfInBounds_toArray, List.set_cons_zero, List.set_cons_succ])
  refine wpAnyH_take (i := 14) (v := undef) rfl (by kernel_rfl) (by kernel_rfl) (by kernel_rfl) (fun _ _ _ h => h) (Or.inr ⟨by rfl, rfl⟩) hS ?_
  (try simp only [List.getElem_toArray, List.getElem_cons_succ, List.getElem_cons_zero, Act.put, List.setIfInBounds_toArray, List.set_cons_zero, List.set_cons_succ])
  refine wpAnyH_take (i := 15) (v := undef) rfl (by kernel_rfl) (by kernel_rfl) (by kernel_rfl) (fun _ _ _ h => h) (Or.inr ⟨by rfl, rfl⟩) hS ?_
  (try simp only [List.getElem_toArray, List.getElem_cons_succ, List.getElem_cons_zero, Act.put, List.setIfInBounds_toArray, List.set_cons_zero, List.set_cons_succ])
  refine wpAnyH_take (i := 16) (v := undef) rfl (by kernel_rfl) (by kernel_rfl) (by kernel_rfl) (fun _ _ _ h => h) (Or.inr ⟨by rfl, rfl⟩) hS ?_
  (try simp only [List.getElem_toArray, List.getElem_cons_succ, List.getElem_cons_zero, Act.put, List.setIfInBounds_toArray, List.set_cons_zero, List.set_cons_succ])
  refine wpAnyH_take (i := 17) (v := undef) rfl (by kernel_rfl) (by kernel_rfl) (by kernel_rfl) (fun _ _ _ h => h) (Or.inr ⟨by rfl, rfl⟩) hS ?_
  (try simp only [List.getElem_toArray, List.getElem_cons_succ, List.getElem_cons_zero, Act.put, List.setIfInBounds_toArray, List.set_cons_zero, List.set_cons_succ])
  refine wpAnyH_take (i := 18) (v := undef) rfl (by kernel_rfl) (by kernel_rfl) (by kernel_rfl) (fun _ _ _ h => h) (Or.inr ⟨by rfl, rfl⟩) hS ?_
  (try simp only [List.getElem_toArray, List.getElem_cons_succ, List.getElem_cons_zero, Act.put, List.setIfInBounds_toArray, List.set_cons_zero, List.set_cons_succ])
  refine wpAnyH_take (i := 19) (v := undef) rfl (by kernel_rfl) (by kernel_rfl) (by kernel_rfl) (fun _ _ _ h => h) (Or.inr ⟨by rfl, rfl⟩) hS ?_
  (try simp only [List.getElem_toArray, List.getElem_cons_succ, List.getElem_cons_zero, Act.put, List.setIfInBounds_toArray, List.set_cons_zero, List.set_cons_succ])
  refine wpAnyH_take (i := 20) (v := undef) rfl (by kernel_rfl) (by kernel_rfl) (by kernel_rfl) (fun _ _ _ h => h) (Or.inr ⟨by rfl, rfl⟩) hS ?_
  (try simp only [List.getElem_toArray, List.getElem_cons_succ, List.getElem_cons_zero, Act.put, List.setIfInBounds_toArray, List.set_cons_zero, List.set_cons_succ])
  refine wpAnyH_take (i := 21) (v := undef) rfl (by kernel_rfl) (by kernel_rfl) (by kernel_rfl) (fun _ _ _ h => h) (Or.inr ⟨by rfl, rfl⟩) hS ?_
  (try simp only [List.getElem_toArray, List.getElem_cons_succ, List.getElem_cons_zero, Act.put, List.setIfInBounds_toArray, List.set_cons_zero, List.set_cons_succ])
  refine wpAnyH_take (i := 22) (v := undef) rfl (by kernel_rfl) (by kernel_rfl) (by kernel_rfl) (fun _ _ _ h => h) (Or.inr ⟨by rfl, rfl⟩) hS ?_
  (try simp only [List.getElem_toArray, List.getElem_cons_succ, List.getElem_cons_zero, Act.put, List.setIfInBounds_toArray, List.set_cons_zero, List.set_cons_succ])
  refine wpAnyH_take (i := 23) (v := undef) rfl (by kernel_rfl) (by kernel_rfl) (by kernel_rfl) (fun _ _ _ h => h) (Or.inr ⟨by rfl, rfl⟩) hS ?_
  (try simp only [List.getElem_toArray, List.getElem_cons_succ, List.getElem_cons_zero, Act.put, List.setIfInBounds_toArray, List.set_cons_zero, List.set_cons_succ])
  refine wpAnyH_take (i := 24) (v := .bool false) rfl (by kernel_rfl) (by kernel_rfl) (by kernel_rfl) (fun _ _ _ h => h) (Or.inl ⟨by rfl, fun w hSw => by go_simp⟩) hS ?_
  (try simp only [List.getElem_toArray, List.getElem_cons_succ, List.getElem_cons_zero, Act.put, List.setIfInBounds_toArray, List.set_cons_zero, List.set_cons_succ])
  refine wpAnyH_take (i := 25) (v := .bool false) rfl (by kernel_rfl) (by kernel_rfl) (by kernel_rfl) (fun _ _ _ h => h) (Or.inl ⟨by rfl, fun w hSw => by go_simp⟩) hS ?_
  (try simp only [List.getElem_toArray, List.getElem_cons_succ, List.getElem_cons_zero, Act.put, List.setIfInBounds_toArray, List.set_cons_zero, List.set_cons_succ])
  refine wpAnyH_done (by kernel_rfl) ?_ _
  go_wp2_with fail
  go_ret
  exact ⟨rfl, hg.undrew, fun m hm => by cases hm⟩

set_option maxRecDepth 100000 in
set_option maxHeartbeats 4000000 in
theorem fits_Pair_yes (a a' c d : Ty) (ih : FitsAt a c) (ih' : FitsAt a' d) (w : World) (b : Nat) (l m : List (Nat × Ty)) (hac : fitsT a c l = some m) (q q' n n' : Nat) (x x2 y y2 : Value) (h : Mp b l w) (hx : Tv w a x) (hx2 : Tv w a' x2) (hy : Tv w c y) (hy2 : Tv w d y2) (hq : w.heap[q]? = some (obP n x x2)) (hq' : w.heap[q']? = some (obP n' y y2)) : Calls Tryd.prog 23 #[viP q, viP q', .map (some b)] w (MPost b (fitsT a' d m) w) := by
  have IH0 := ih w.drew b l x y h.drew hx.drew hy.drew
  rw [hac] at IH0
  have IH : Hid (Calls Tryd.prog 23 #[x, y, .map (some b)] w.drew (MPost b (some m) w.drew)) := IH0
  have HK : Hid (∀ w1, Gb b w.drew w1 → KeptN w w1) := fun w1 g => h.kept g.undrew
  have IH' : Hid (∀ w1, Gb b w.drew w1 → Mp b m w1 → Calls Tryd.prog 23 #[x2, y2, .map (some b)] w1 (MPost b (fitsT a' d m) w1)) := fun w1 g hm => ih' w1 b m x2 y2 hm (Tv.keptN (HK.out w1 g) _ _ hx2) (Tv.keptN (HK.out w1 g) _ _ hy2)
  obtain ⟨T, x', rfl⟩ := hx.iface
  obtain ⟨T', y', rfl⟩ := hy.iface
  obtain ⟨S, x2', rfl⟩ := hx2.iface
  obtain ⟨S', y2', rfl⟩ := hy2.iface
  have HQ : Hid (w.heap[q]? = some (obP n (.iface T x') (.iface S x2'))) := hq
  have HQ' : Hid (w.heap[q']? = some (obP n' (.iface T' y') (.iface S' y2'))) := hq'
  have c1 : w.cell? ⟨q, 0, none⟩ = some (.iface T x') := by rw [Lib.cell_of_heap hq]; rfl
  have c2 : w.cell? ⟨q', 0, none⟩ = some (.iface T' y') := by rw [Lib.cell_of_heap hq']; rfl
  have c3 : w.cell? ⟨q, 1, none⟩ = some (.iface S x2') := by rw [Lib.cell_of_heap hq]; rfl
  have c4 : w.cell? ⟨q', 1, none⟩ = some (.iface S' y2') := by rw [Lib.cell_of_heap hq']; rfl
  have a1 := fun v => tm_Whole (T := 104) v (by decide)
  have a2 := fun v => tm_Truth (T := 104) v (by decide)
  have a3 := fun v => tm_Variable (T := 104) v (by decide)
  have a4 := fun v => tm_List (T := 104) v (by decide)
  have a5 := th_Pair
  clear ih ih' hx hx2 hy hy2 hq hq' h hac IH0
  generalize fitsT a' d m = r at *
  go_enter Tryd.func23, Tryd.ntmps23
  go_wp2_with fail
  first | go_region_held3 (fun wq => wq.cell? ⟨q, 0, none⟩ = some (.iface T x') ∧ wq.cell? ⟨q', 0, none⟩ = some (.iface T' y') ∧ wq.cell? ⟨q, 1, none⟩ = some (.iface S x2') ∧ wq.cell? ⟨q', 1, none⟩ = some (.iface S' y2'))
    (first | (go_keep; done) | (go_split_ands; exact ⟨q1, q2, q3, q4⟩))
    (first
      | (go_at_call 23; (have hb3 := hg); refine (IH'.out _ hg (hm m rfl)).mono ?_; rintro e w2 ⟨rfl, hg2, hm2⟩; (have K2 := HK.out w2 (hg.trans hg2)); (have q1 : w2.cell? ⟨q, 0, none⟩ = some (.iface T x') := by rw [Lib.cell_of_heap (K2 q _ _ (.inr (.inl rfl)) HQ.out)]; rfl); (have q2 : w2.cell? ⟨q', 0, none⟩ = some (.iface T' y') := by rw [Lib.cell_of_heap (K2 q' _ _ (.inr (.inl rfl)) HQ'.out)]; rfl); (have q3 : w2.cell? ⟨q, 1, none⟩ = some (.iface S x2') := by rw [Lib.cell_of_heap (K2 q _ _ (.inr (.inl rfl)) HQ.out)]; rfl); (have q4 : w2.cell? ⟨q', 1, none⟩ = some (.iface S' y2') := by rw [Lib.cell_of_heap (K2 q' _ _ (.inr (.inl rfl)) HQ'.out)]; rfl))
      | (go_at_call 23; refine IH.out.mono ?_; rintro e w1 ⟨rfl, hg, hm⟩; (have K1 := HK.out w1 hg); (have q1 : w1.cell? ⟨q, 0, none⟩ = some (.iface T x') := by rw [Lib.cell_of_heap (K1 q _ _ (.inr (.inl rfl)) HQ.out)]; rfl); (have q2 : w1.cell? ⟨q', 0, none⟩ = some (.iface T' y') := by rw [Lib.cell_of_heap (K1 q' _ _ (.inr (.inl rfl)) HQ'.out)]; rfl); (have q3 : w1.cell? ⟨q, 1, none⟩ = some (.iface S x2') := by rw [Lib.cell_of_heap (K1 q _ _ (.inr (.inl rfl)) HQ.out)]; rfl); (have q4 : w1.cell? ⟨q', 1, none⟩ = some (.iface S' y2') := by rw [Lib.cell_of_heap (K1 q' _ _ (.inr (.inl rfl)) HQ'.out)]; rfl))) | fail
  go_wp2_with fail
  go_ret
  exact ⟨rfl, (hg.trans hg2).undrew, hm2⟩

end Go.Proofs.YtkcleplifimgmaaDoor
