import Derived.Test.YtkcleplifimgmaaDoorVisit4
set_option linter.unusedVariables false
set_option linter.unusedSimpArgs false
namespace Go.Proofs.YtkcleplifimgmaaDoor
open Go.RowKit

set_option maxRecDepth 100000 in
set_option maxHeartbeats 1000000 in
theorem partsF_miss {T : TypeId} (q : Nat) (x : Value) (vb : Nat) (w : World) (h : T ≠ 89) :
    Calls Tryd.prog 62 #[.pointer (some ⟨vb, 0, none⟩), viF q, .iface T x] w fun e w' => e = .returned (.bool false) ∧ ∃ n, w' = w.drewN n := by
  have z := fun w => tm_Function x h w
  have a1 := fun v => tm_List (T := 89) v (by decide)
  have a2 := fun v => tm_Pair (T := 89) v (by decide)
  have a3 := th_Function
  go_enter Tryd.func62, Tryd.ntmps62
  go_wp2_with fail
  go_quiet (fail)
  go_wp2_with fail
  go_ret
  exact ⟨rfl, _, rfl⟩

set_option maxRecDepth 100000 in
set_option maxHeartbeats 4000000 in
theorem partsF_no (a b c d : Ty) (ih : SameSaid a c) (ih' : SameSaid b d) (hac : eqT a c = false) (vb : Nat) (L : Mks) (u w : World) (q q' n n' : Nat) (x x2 y y2 : Value) (hx : Tv u a x) (hx2 : Tv u b x2) (hy : Tv u c y) (hy2 : Tv u d y2) (hq : u.heap[q]? = some (obF n x x2)) (hq' : u.heap[q']? = some (obF n' y y2)) (hV : Vs vb L u w) (hg : good u L) :
    Calls Tryd.prog 62 #[.pointer (some ⟨vb, 0, none⟩), viF q, viF q'] w fun e w' => ∃ L', e = .returned (.bool false) ∧ Vs vb L' u w' ∧ good u L' := by
  have IH : Hid (∀ w', Vs vb L u w' → Calls Tryd.prog 56 #[.pointer (some ⟨vb, 0, none⟩), x, y] w' fun e w'' => e = .returned (.bool false) ∧ ∃ L', Vs vb L' u w'' ∧ good u L') := fun w' h => by rw [← hac]; exact ih vb L u w' x y hx hy h hg
  have IH' : Hid (∀ w' L1, Vs vb L1 u w' → good u L1 → Calls Tryd.prog 56 #[.pointer (some ⟨vb, 0, none⟩), x2, y2] w' fun e w'' => e = .returned (.bool (eqT b d)) ∧ ∃ L', Vs vb L' u w'' ∧ good u L') := fun w' L1 h h' => ih' vb L1 u w' x2 y2 hx2 hy2 h h'
  obtain ⟨T, x', rfl⟩ := hx.iface
  obtain ⟨T', y', rfl⟩ := hy.iface
  obtain ⟨S, x2', rfl⟩ := hx2.iface
  obtain ⟨S', y2', rfl⟩ := hy2.iface
  have HQ : Hid (u.heap[q]? = some (obF n (.iface T x') (.iface S x2'))) := hq
  have HQ' : Hid (u.heap[q']? = some (obF n' (.iface T' y') (.iface S' y2'))) := hq'
  have c1 : w.cell? ⟨q, 0, none⟩ = some (.iface T x') := hV.part hq (ndF _ _ _) (Nat.zero_le _) rfl
  have c2 : w.cell? ⟨q', 0, none⟩ = some (.iface T' y') := hV.part hq' (ndF _ _ _) (Nat.zero_le _) rfl
  have c3 : w.cell? ⟨q, 1, none⟩ = some (.iface S x2') := hV.part hq (ndF _ _ _) (by decide) rfl
  have c4 : w.cell? ⟨q', 1, none⟩ = some (.iface S' y2') := hV.part hq' (ndF _ _ _) (by decide) rfl
  have a1 := fun v => tm_List (T := 89) v (by decide)
  have a2 := fun v => tm_Pair (T := 89) v (by decide)
  have a3 := th_Function
  clear ih ih' hx hx2 hy hy2 hg hq hq' hac
  generalize eqT b d = r at *
  go_enter Tryd.func62, Tryd.ntmps62
  go_wp2_with fail
  refine wp_region_held_drew (S := (fun wq => wq.cell? ⟨q, 0, none⟩ = some (.iface T x') ∧ wq.cell? ⟨q', 0, none⟩ = some (.iface T' y') ∧ wq.cell? ⟨q, 1, none⟩ = some (.iface S x2') ∧ wq.cell? ⟨q', 1, none⟩ = some (.iface S' y2'))) (by kernel_rfl) (⟨c1, c2, c3, c4⟩) (fun hS => ?_)
  refine wpAnyH_take (i := 0) (v := .bool true) rfl (by kernel_rfl) (by kernel_rfl) (by kernel_rfl) (fun _ _ _ h => h) (Or.inl ⟨by rfl, fun w hSw => by go_simp⟩) hS ?_
  (try simp only [List.getElem_toArray, List.getElem_cons_succ, List.getElem_cons_zero, Act.put, List.setIfInBounds_toArray, List.set_cons_zero, List.set_cons_succ])
  refine wpAnyH_take (i := 1) (v := .bool true) rfl (by kernel_rfl) (by kernel_rfl) (by kernel_rfl) (fun _ _ _ h => h) (Or.inl ⟨by rfl, fun w hSw => by go_simp⟩) hS ?_
  (try simp only [List.getElem_toArray, List.getElem_cons_succ, List.getElem_cons_zero, Act.put, List.setIfInBounds_toArray, List.set_cons_zero, List.set_cons_succ])
  refine wpAnyH_take (i := 2) (v := .pointer (some ⟨vb, 0, none⟩)) rfl (by kernel_rfl) (by kernel_rfl) (by kernel_rfl) (fun _ _ _ h => h) (Or.inl ⟨by rfl, fun w hSw => by go_simp⟩) hS ?_
  (try simp only [List.getElem_toArray, List.getElem_cons_succ, List.getElem_cons_zero, Act.put, List.setIfInBounds_toArray, List.set_cons_zero, List.set_cons_succ])
  refine wpAnyH_take (i := 3) (v := .pointer (some ⟨q, 0, none⟩)) rfl (by kernel_rfl) (by kernel_rfl) (by kernel_rfl) (fun _ _ _ h => h) (Or.inl ⟨by rfl, fun w hSw => by go_simp⟩) hS ?_
  (try simp only [List.getElem_toArray, List.getElem_cons_succ, List.getElem_cons_zero, Act.put, List.setIfInBounds_toArray, List.set_cons_zero, List.set_cons_succ])
  refine wpAnyH_take (i := 4) (v := .pointer (some ⟨q, 0, none⟩)) rfl (by kernel_rfl) (by kernel_rfl) (by kernel_rfl) (fun _ _ _ h => h) (Or.inl ⟨by rfl, fun w hSw => by go_simp⟩) hS ?_
  (try simp only [List.getElem_toArray, List.getElem_cons_succ, List.getElem_cons_zero, Act.put, List.setIfInBounds_toArray, List.set_cons_zero, List.set_cons_succ])
  refine wpAnyH_take (i := 5) (v := .pointer (some ⟨q, 0, none⟩)) rfl (by kernel_rfl) (by kernel_rfl) (by kernel_rfl) (fun _ _ _ h => h) (Or.inl ⟨by rfl, fun w hSw => by go_simp⟩) hS ?_
  (try simp only [List.getElem_toArray, List.getElem_cons_succ, List.getElem_cons_zero, Act.put, List.setIfInBounds_toArray, List.set_cons_zero, List.set_cons_succ])
  refine wpAnyH_take (i := 6) (v := .iface T x') rfl (by kernel_rfl) (by kernel_rfl) (by kernel_rfl) (fun _ _ _ h => h) (Or.inl ⟨by rfl, fun w hSw => by (try dsimp only at hSw); go_split_ands; go_simp⟩) hS ?_
  (try simp only [List.getElem_toArray, List.getElem_cons_succ, List.getElem_cons_zero, Act.put, List.setIfInBounds_toArray, List.set_cons_zero, List.set_cons_succ])
  refine wpAnyH_take (i := 7) (v := .pointer (some ⟨q', 0, none⟩)) rfl (by kernel_rfl) (by kernel_rfl) (by kernel_rfl) (fun _ _ _ h => h) (Or.inl ⟨by rfl, fun w hSw => by go_simp⟩) hS ?_
  (try simp only [List.getElem_toArray, List.getElem_cons_succ, List.getElem_cons_zero, Act.put, List.setIfInBounds_toArray, List.set_cons_zero, List.set_cons_succ])
  refine wpAnyH_take (i := 8) (v := .pointer (some ⟨q', 0, none⟩)) rfl (by kernel_rfl) (by kernel_rfl) (by kernel_rfl) (fun _ _ _ h => h) (Or.inl ⟨by rfl, fun w hSw => by go_simp⟩) hS ?_
  (try simp only [List.getElem_toArray, List.getElem_cons_succ, List.getElem_cons_zero, Act.put, List.setIfInBounds_toArray, List.set_cons_zero, List.set_cons_succ])
  refine wpAnyH_take (i := 9) (v := .pointer (some ⟨q', 0, none⟩)) rfl (by kernel_rfl) (by kernel_rfl) (by kernel_rfl) (fun _ _ _ h => h) (Or.inl ⟨by rfl, fun w hSw => by go_simp⟩) hS ?_
  (try simp only [List.getElem_toArray, List.getElem_cons_succ, List.getElem_cons_zero, Act.put, List.setIfInBounds_toArray, List.set_cons_zero, List.set_cons_succ])
  refine wpAnyH_take (i := 10) (v := .iface T' y') rfl (by kernel_rfl) (by kernel_rfl) (by kernel_rfl) (fun _ _ _ h => h) (Or.inl ⟨by rfl, fun w hSw => by (try dsimp only at hSw); go_split_ands; go_simp⟩) hS ?_
  (try simp only [List.getElem_toArray, List.getElem_cons_succ, List.getElem_cons_zero, Act.put, List.setIfInBounds_toArray, List.set_cons_zero, List.set_cons_succ])
  refine wpAnyH_ready (rs := [11]) (by kernel_rfl) (by simp) ?_
  refine AllReadyH.cons rfl (fun K hK => ?_) AllReadyH.nil
  (try simp only [List.getElem_toArray, List.getElem_cons_succ, List.getElem_cons_zero])
  go_simp
  go_at_call 56
  refine (IH.out _ hV.drew).mono ?_
  rintro e w1 ⟨rfl, L1, hV1, hg1⟩
  have q1 : w1.cell? ⟨q, 0, none⟩ = some (.iface T x') := hV1.part HQ.out (ndF _ _ _) (by decide) rfl
  have q2 : w1.cell? ⟨q', 0, none⟩ = some (.iface T' y') := hV1.part HQ'.out (ndF _ _ _) (by decide) rfl
  have q3 : w1.cell? ⟨q, 1, none⟩ = some (.iface S x2') := hV1.part HQ.out (ndF _ _ _) (by decide) rfl
  have q4 : w1.cell? ⟨q', 1, none⟩ = some (.iface S' y2') := hV1.part HQ'.out (ndF _ _ _) (by decide) rfl
  dsimp only
  refine hK.out _ _ ⟨q1, q2, q3, q4⟩ (fun hS => ?_)
  (try simp only [List.getElem_toArray, List.getElem_cons_succ, List.getElem_cons_zero, Act.put, List.setIfInBounds_toArray, List.set_cons_zero, List.set_cons_succ])
  refine wpAnyH_take (i := 12) (v := .bool false) rfl (by kernel_rfl) (by kernel_rfl) (by kernel_rfl) (fun _ _ _ h => h) (Or.inl ⟨by rfl, fun w hSw => by go_simp⟩) hS ?_
  (try simp only [List.getElem_toArray, List.getElem_cons_succ, List.getElem_cons_zero, Act.put, List.setIfInBounds_toArray, List.set_cons_zero, List.set_cons_succ])
  refine wpAnyH_take (i := 13) (v := .bool false) rfl (by kernel_rfl) (by kernel_rfl) (by kernel_rfl) (fun _ _ _ h => h) (Or.inl ⟨by rfl, fun w hSw => by go_simp⟩) hS ?_
  (try simp only [List.getElem_toArray, List.getElem_cons_succ, List.getElem_cons_zero, Act.put, List.setIfInBounds_toArray, List.set_cons_zero, List.set_cons_succ])
  refine wpAnyH_take (i := 14) (v := undef) rfl (by kernel_rfl) (by kernel_rfl) (by kernel_rfl) (fun _ _ _ h => h) (Or.inr ⟨by rfl, rfl⟩) hS ?_
  (try simp only [List.getElem_toArray, List.getElem_cons_succ, List.getElem_cons_zero, Act.put, List.setIfInBounds_toArray, List.set_cons_zero, List.set_cons_succ])
  refine wpAnyH_take (i := 15) (v := undef) rfl (by kernel_rfl) (by kernel_rfl) (by kernel_rfl) (fun _ _ _ h => h) (Or.inr ⟨by rfl, rfl⟩) hS ?_
  (try simp only [List.getElem_toArray, List.getElem_cons_succ, List.getElem_cons_zero, Act.put, List.setIfInBounds_toArray, List.set_cons_zero, List.set_cons_succ])
  refine wpAnyH_take (i := 16) (v := undef) rfl (by kernel_rfl) (by kernel_rfl) (by kernel_rfl) (fun _ _ _ h => h) (Or.inr ⟨by rfl, rfl⟩) hS ?_
  (try simp only [List.getElem_toArray, List.getElem_cons_succ, List.getElem_cons_zero, Act.put, List.setIfInBounds_toArray, List.set_cons_zero, List.set_cons_succ])
  refine wpAnyH_take (i := 17) (v := undef) rfl (by kernel_rfl) (by kernel_rfl) (by kernel_rfl) (fun _ _ _ h => h) (Or.inr ⟨by rfl, rfl⟩) hS ?_
  (try simp only [List.getElem_toArray, List.getElem_cons_succ, List.getElem_cons_zero, Act.put, List.setIfInBounds_toArray, List.set_cons_zero, List.set_cons_succ])
  refine wpAnyH_take (i := 18) (v := undef) rfl (by kernel_rfl) (by kernel_rfl) (by kernel_rfl) (fun _ _ _ h => h) (Or.inr ⟨by rfl, rfl⟩) hS ?_
  (try simp only [List.getElem_toArray, List.getElem_cons_succ, List.getElem_cons_zero, Act.put, List.setIfInBounds_toArray, List.set_cons_zero, List.set_cons_succ])
  refine wpAnyH_take (i := 19) (v := undef) rfl (by kernel_rfl) (by kernel_rfl) (by kernel_rfl) (fun _ _ _ h => h) (Or.inr ⟨by rfl, rfl⟩) hS ?_
  (try simp only [List.getElem_toArray, List.getElem_cons_succ, List.getElem_cons_zero, Act.put, List.setIfInBounds_toArray, List.set_cons_zero, List.set_cons_succ])
  refine wpAnyH_take (i := 20) (v := undef) rfl (by kernel_rfl) (by kernel_rfl) (by kernel_rfl) (fun _ _ _ h => h) (Or.inr ⟨by rfl, rfl⟩) hS ?_
  (try simp only [List.getElem_toArray, List.getElem_cons_succ, List.getElem_cons_zero, Act.put, List.setIfInBounds_toArray, List.set_cons_zero, List.set_cons_succ])
  refine wpAnyH_take (i := 21) (v := undef) rfl (by kernel_rfl) (by kernel_rfl) (by kernel_rfl) (fun _ _ _ h => h) (Or.inr ⟨by rfl, rfl⟩) hS ?_
  (try simp only [List.getElem_toArray, List.getElem_cons_succ, List.getElem_cons_zero, Act.put, List.setIfInBounds_toArray, List.set_cons_zero, List.set_cons_succ])
  refine wpAnyH_take (i := 22) (v := undef) rfl (by kernel_rfl) (by kernel_rfl) (by kernel_rfl) (fun _ _ _ h => h) (Or.inr ⟨by rfl, rfl⟩) hS ?_
  (try simp only [List.getElem_toArray, List.getElem_cons_succ, List.getElem_cons_zero, Act.put, List.setIfInBounds_toArray, List.set_cons_zero, List.set_cons_succ])
  refine wpAnyH_take (i := 23) (v := undef) rfl (by kernel_rfl) (by kernel_rfl) (by kernel_rfl) (fun _ _ _ h => h) (Or.inr ⟨by rfl, rfl⟩) hS ?_
  (try simp only [List.getElem_toArray, List.getElem_cons_succ, List.getElem_cons_zero, Act.put, List.setIfInBounds_toArray, List.set_cons_zero, List.set_cons_succ])
  refine wpAnyH_take (i := 24) (v := .bool false) rfl (by kernel_rfl) (by kernel_rfl) (by kernel_rfl) (fun _ _ _ h => h) (Or.inl ⟨by rfl, fun w hSw => by go_simp⟩) hS ?_
  (try simp only [List.getElem_toArray, List.getElem_cons_succ, List.getElem_cons_zero, Act.put, List.setIfInBounds_toArray, List.set_cons_zero, List.set_cons_succ])
  refine wpAnyH_take (i := 25) (v := .bool false) rfl (by kernel_rfl) (by kernel_rfl) (by kernel_rfl) (fun _ _ _ h => h) (Or.inl ⟨by rfl, fun w hSw => by go_simp⟩) hS ?_
  (try simp only [List.getElem_toArray, List.getElem_cons_succ, List.getElem_cons_zero, Act.put, List.setIfInBounds_toArray, List.set_cons_zero, List.set_cons_succ])
  refine wpAnyH_done (by kernel_rfl) ?_ _
  go_wp2_with fail
  go_ret
  exact ⟨L1, rfl, hV1, hg1⟩

set_option maxRecDepth 100000 in
set_option maxHeartbeats 4000000 in
theorem partsF_yes (a b c d : Ty) (ih : SameSaid a c) (ih' : SameSaid b d) (hac : eqT a c = true) (vb : Nat) (L : Mks) (u w : World) (q q' n n' : Nat) (x x2 y y2 : Value) (hx : Tv u a x) (hx2 : Tv u b x2) (hy : Tv u c y) (hy2 : Tv u d y2) (hq : u.heap[q]? = some (obF n x x2)) (hq' : u.heap[q']? = some (obF n' y y2)) (hV : Vs vb L u w) (hg : good u L) :
    Calls Tryd.prog 62 #[.pointer (some ⟨vb, 0, none⟩), viF q, viF q'] w fun e w' => ∃ L', e = .returned (.bool (eqT b d)) ∧ Vs vb L' u w' ∧ good u L' := by
  have IH : Hid (∀ w', Vs vb L u w' → Calls Tryd.prog 56 #[.pointer (some ⟨vb, 0, none⟩), x, y] w' fun e w'' => e = .returned (.bool true) ∧ ∃ L', Vs vb L' u w'' ∧ good u L') := fun w' h => by rw [← hac]; exact ih vb L u w' x y hx hy h hg
  have IH' : Hid (∀ w' L1, Vs vb L1 u w' → good u L1 → Calls Tryd.prog 56 #[.pointer (some ⟨vb, 0, none⟩), x2, y2] w' fun e w'' => e = .returned (.bool (eqT b d)) ∧ ∃ L', Vs vb L' u w'' ∧ good u L') := fun w' L1 h h' => ih' vb L1 u w' x2 y2 hx2 hy2 h h'
  obtain ⟨T, x', rfl⟩ := hx.iface
  obtain ⟨T', y', rfl⟩ := hy.iface
  obtain ⟨S, x2', rfl⟩ := hx2.iface
  obtain ⟨S', y2', rfl⟩ := hy2.iface
  have HQ : Hid (u.heap[q]? = some (obF n (.iface T x') (.iface S x2'))) := hq
  have HQ' : Hid (u.heap[q']? = some (obF n' (.iface T' y') (.iface S' y2'))) := hq'
  have c1 : w.cell? ⟨q, 0, none⟩ = some (.iface T x') := hV.part hq (ndF _ _ _) (Nat.zero_le _) rfl
  have c2 : w.cell? ⟨q', 0, none⟩ = some (.iface T' y') := hV.part hq' (ndF _ _ _) (Nat.zero_le _) rfl
  have c3 : w.cell? ⟨q, 1, none⟩ = some (.iface S x2') := hV.part hq (ndF _ _ _) (by decide) rfl
  have c4 : w.cell? ⟨q', 1, none⟩ = some (.iface S' y2') := hV.part hq' (ndF _ _ _) (by decide) rfl
  have a1 := fun v => tm_List (T := 89) v (by decide)
  have a2 := fun v => tm_Pair (T := 89) v (by decide)
  have a3 := th_Function
  clear ih ih' hx hx2 hy hy2 hg hq hq' hac
  generalize eqT b d = r at *
  go_enter Tryd.func62, Tryd.ntmps62
  go_wp2_with fail
  first | go_region_held3 (fun wq => wq.cell? ⟨q, 0, none⟩ = some (.iface T x') ∧ wq.cell? ⟨q', 0, none⟩ = some (.iface T' y') ∧ wq.cell? ⟨q, 1, none⟩ = some (.iface S x2') ∧ wq.cell? ⟨q', 1, none⟩ = some (.iface S' y2'))
    (first | (go_keep; done) | (go_split_ands; exact ⟨q1, q2, q3, q4⟩))
    (first
      | (go_at_call 56; (have hb3 := hV1); refine (IH'.out _ L1 hV1 hg1).mono ?_; rintro e w2 ⟨rfl, L2, hV2, hg2⟩; (have q1 : w2.cell? ⟨q, 0, none⟩ = some (.iface T x') := hV2.part HQ.out (ndF _ _ _) (by decide) rfl); (have q2 : w2.cell? ⟨q', 0, none⟩ = some (.iface T' y') := hV2.part HQ'.out (ndF _ _ _) (by decide) rfl); (have q3 : w2.cell? ⟨q, 1, none⟩ = some (.iface S x2') := hV2.part HQ.out (ndF _ _ _) (by decide) rfl); (have q4 : w2.cell? ⟨q', 1, none⟩ = some (.iface S' y2') := hV2.part HQ'.out (ndF _ _ _) (by decide) rfl))
      | (go_at_call 56; refine (IH.out _ hV.drew).mono ?_; rintro e w1 ⟨rfl, L1, hV1, hg1⟩; (have q1 : w1.cell? ⟨q, 0, none⟩ = some (.iface T x') := hV1.part HQ.out (ndF _ _ _) (by decide) rfl); (have q2 : w1.cell? ⟨q', 0, none⟩ = some (.iface T' y') := hV1.part HQ'.out (ndF _ _ _) (by decide) rfl); (have q3 : w1.cell? ⟨q, 1, none⟩ = some (.iface S x2') := hV1.part HQ.out (ndF _ _ _) (by decide) rfl); (have q4 : w1.cell? ⟨q', 1, none⟩ = some (.iface S' y2') := hV1.part HQ'.out (ndF _ _ _) (by decide) rfl))) | fail
  go_wp2_with fail
  go_ret
  exact ⟨L2, rfl, hV2, hg2⟩

end Go.Proofs.YtkcleplifimgmaaDoor
