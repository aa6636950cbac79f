import Derived.Test.YtceadeaodbadlaaDoorVisit4
import Derived.Deep.RegionWith
import Derived.Deep.RegionHeld3
import Derived.Shelf.Abstract
set_option linter.unusedVariables false
set_option linter.unusedSimpArgs false
namespace Go.Proofs.YtceadeaodbadlaaDoor
open Go.RowKit Go.Extern.Stop Go.Stop Go.Extern

/-- A function of the program's own is entered. -/
abbrev Entered (K : Nat) : Prop := ∀ args w, (callFunc K args).run Tryd.prog w = .ok (.enter K args) w

set_option maxRecDepth 100000 in
set_option maxHeartbeats 1000000 in
theorem alike_leaf {T : TypeId} (x v' hv : Value) (c : Bool) (w : World) (hv' : ∃ T' x', v' = .iface T' x') (h1 : T ≠ 126) (h2 : T ≠ 118) (h3 : T ≠ 89)
    (he : (binOp .eql 43 (.iface T x) v').run Tryd.prog w = .ok (.bool c) w) :
    Calls Tryd.prog 42 #[.iface T x, v', hv] w fun e w' => e = .returned (.bool c) ∧ w' = w := by
  obtain ⟨T', x', rfl⟩ := hv'
  have a1 := fun w => tm_List x h1 w
  have a2 := fun w => tm_Pair x h2 w
  have a3 := fun w => tm_Function x h3 w
  go_enter Tryd.func42, Tryd.ntmps42
  go_wp2_with fail
  go_ret
  exact ⟨rfl, rfl⟩

set_option maxRecDepth 100000 in
set_option maxHeartbeats 1000000 in
theorem alikeL_miss {T : TypeId} (q : Nat) (x : Value) (hv : Value) (w : World) (h : T ≠ 126) :
    Calls Tryd.prog 42 #[viL q, .iface T x, hv] w fun e w' => e = .returned (.bool false) ∧ ∃ n, w' = w.drewN n := by
  have z := fun w => tm_List x h w
  have a3 := th_List
  go_enter Tryd.func42, Tryd.ntmps42
  go_wp2_with fail
  go_quiet (fail)
  go_wp2_with fail
  go_ret
  exact ⟨rfl, _, rfl⟩

set_option maxRecDepth 100000 in
set_option maxHeartbeats 1000000 in
theorem alikeP_miss {T : TypeId} (q : Nat) (x : Value) (hv : Value) (w : World) (h : T ≠ 118) :
    Calls Tryd.prog 42 #[viP q, .iface T x, hv] w fun e w' => e = .returned (.bool false) ∧ ∃ n, w' = w.drewN n := by
  have z := fun w => tm_Pair x h w
  have a1 := fun v => tm_List (T := 118) v (by decide)
  have a3 := th_Pair
  go_enter Tryd.func42, Tryd.ntmps42
  go_wp2_with fail
  go_quiet (fail)
  go_wp2_with fail
  go_ret
  exact ⟨rfl, _, rfl⟩

set_option maxRecDepth 100000 in
set_option maxHeartbeats 1000000 in
theorem alikeF_miss {T : TypeId} (q : Nat) (x : Value) (hv : Value) (w : World) (h : T ≠ 89) :
    Calls Tryd.prog 42 #[viF q, .iface T x, hv] w fun e w' => e = .returned (.bool false) ∧ ∃ n, w' = w.drewN n := by
  have z := fun w => tm_Function x h w
  have a1 := fun v => tm_List (T := 89) v (by decide)
  have a2 := fun v => tm_Pair (T := 89) v (by decide)
  have a3 := th_Function
  go_enter Tryd.func42, Tryd.ntmps42
  go_wp2_with fail
  go_quiet (fail)
  go_wp2_with fail
  go_ret
  exact ⟨rfl, _, rfl⟩

set_option maxRecDepth 100000 in
set_option maxHeartbeats 2000000 in
theorem alikeL_hit (K : Nat) (fs cs : Array Value) (eK : Entered K) (w : World) (q q' : Nat) (T T' : TypeId) (x' y' : Value) (Q : Bool → World → Prop)
    (c1 : w.cell? ⟨q, 0, none⟩ = some (.iface T x')) (c2 : w.cell? ⟨q', 0, none⟩ = some (.iface T' y'))
    (H : Calls Tryd.prog K (fs ++ (#[.iface T x', .iface T' y'] ++ cs)) w.drew fun e w1 => ∃ r, e = .returned (.bool r) ∧ Q r w1)
    (HC : ∀ r w1, Q r w1 → w1.cell? ⟨q, 0, none⟩ = some (.iface T x') ∧ w1.cell? ⟨q', 0, none⟩ = some (.iface T' y')) :
    Calls Tryd.prog 42 #[viL q, viL q', .func (.func K) fs cs] w fun e w' => ∃ r, e = .returned (.bool r) ∧ Q r w' := by
  have HH : Hid (Calls Tryd.prog K (fs ++ (#[.iface T x', .iface T' y'] ++ cs)) w.drew fun e w1 => ∃ r, e = .returned (.bool r) ∧ Q r w1) := H
  have HHC : Hid (∀ r w1, Q r w1 → w1.cell? ⟨q, 0, none⟩ = some (.iface T x') ∧ w1.cell? ⟨q', 0, none⟩ = some (.iface T' y')) := HC
  clear H HC
  have a1 := th_List
  go_enter Tryd.func42, Tryd.ntmps42
  go_wp2_with fail
  go_region_held3 (fun wq => wq.cell? ⟨q, 0, none⟩ = some (.iface T x') ∧ wq.cell? ⟨q', 0, none⟩ = some (.iface T' y'))
    (first | (go_keep; done) | (go_split_ands; exact ⟨q1, q2⟩))
    (first | (go_at_fn K; refine HH.out.mono ?_; rintro e w1 ⟨r, rfl, hQ⟩; obtain ⟨q1, q2⟩ := HHC.out r w1 hQ))
  go_wp2_with fail
  go_ret
  exact ⟨_, rfl, hQ⟩
set_option maxRecDepth 100000 in
set_option maxHeartbeats 4000000 in
theorem alikeP_no (K : Nat) (fs cs : Array Value) (eK : Entered K) (w : World) (q q' : Nat) (T T' S S' : TypeId) (x' y' x2' y2' : Value) (Q : World → Prop) (c1 : w.cell? ⟨q, 0, none⟩ = some (.iface T x')) (c2 : w.cell? ⟨q', 0, none⟩ = some (.iface T' y')) (c3 : w.cell? ⟨q, 1, none⟩ = some (.iface S x2')) (c4 : w.cell? ⟨q', 1, none⟩ = some (.iface S' y2'))
    (H : Calls Tryd.prog K (fs ++ (#[.iface T x', .iface T' y'] ++ cs)) w.drew fun e w1 => e = .returned (.bool false) ∧ Q w1)
    (HC : ∀ w1, Q w1 → w1.cell? ⟨q, 0, none⟩ = some (.iface T x') ∧ w1.cell? ⟨q', 0, none⟩ = some (.iface T' y') ∧ w1.cell? ⟨q, 1, none⟩ = some (.iface S x2') ∧ w1.cell? ⟨q', 1, none⟩ = some (.iface S' y2')) :
    Calls Tryd.prog 42 #[viP q, viP q', .func (.func K) fs cs] w fun e w' => e = .returned (.bool false) ∧ Q w' := by
  have HH : Hid (Calls Tryd.prog K (fs ++ (#[.iface T x', .iface T' y'] ++ cs)) w.drew fun e w1 => e = .returned (.bool false) ∧ Q w1) := H
  have HHC : Hid (∀ w1, Q w1 → w1.cell? ⟨q, 0, none⟩ = some (.iface T x') ∧ w1.cell? ⟨q', 0, none⟩ = some (.iface T' y') ∧ w1.cell? ⟨q, 1, none⟩ = some (.iface S x2') ∧ w1.cell? ⟨q', 1, none⟩ = some (.iface S' y2')) := HC
  clear H HC
  have a1 := fun v => tm_List (T := 118) v (by decide)
  have a3 := th_Pair
  go_enter Tryd.func42, Tryd.ntmps42
  go_wp2_with fail
  refine wp_region_held_drew (S := (fun wq => wq.cell? ⟨q, 0, none⟩ = some (.iface T x') ∧ wq.cell? ⟨q', 0, none⟩ = some (.iface T' y') ∧ wq.cell? ⟨q, 1, none⟩ = some (.iface S x2') ∧ wq.cell? ⟨q', 1, none⟩ = some (.iface S' y2'))) (by kernel_rfl) (⟨c1, c2, c3, c4⟩) (fun hS => ?_)
  refine wpAnyH_take (i := 0) (v := .bool true) rfl (by kernel_rfl) (by kernel_rfl) (by kernel_rfl) (fun _ _ _ h => h) (Or.inl ⟨by rfl, fun w hSw => by go_simp⟩) hS ?_
  (try simp only [List.getElem_toArray, List.getElem_cons_succ, List.getElem_cons_zero, Act.put, List.setIfInBounds_toArray, List.set_cons_zero, List.set_cons_succ])
  refine wpAnyH_take (i := 1) (v := .bool true) rfl (by kernel_rfl) (by kernel_rfl) (by kernel_rfl) (fun _ _ _ h => h) (Or.inl ⟨by rfl, fun w hSw => by go_simp⟩) hS ?_
  (try simp only [List.getElem_toArray, List.getElem_cons_succ, List.getElem_cons_zero, Act.put, List.setIfInBounds_toArray, List.set_cons_zero, List.set_cons_succ])
  refine wpAnyH_take (i := 2) (v := .func (.func K) fs cs) rfl (by kernel_rfl) (by kernel_rfl) (by kernel_rfl) (fun _ _ _ h => h) (Or.inl ⟨by rfl, fun w hSw => by go_simp⟩) hS ?_
  (try simp only [List.getElem_toArray, List.getElem_cons_succ, List.getElem_cons_zero, Act.put, List.setIfInBounds_toArray, List.set_cons_zero, List.set_cons_succ])
  refine wpAnyH_take (i := 3) (v := .pointer (some ⟨q, 0, none⟩)) rfl (by kernel_rfl) (by kernel_rfl) (by kernel_rfl) (fun _ _ _ h => h) (Or.inl ⟨by rfl, fun w hSw => by go_simp⟩) hS ?_
  (try simp only [List.getElem_toArray, List.getElem_cons_succ, List.getElem_cons_zero, Act.put, List.setIfInBounds_toArray, List.set_cons_zero, List.set_cons_succ])
  refine wpAnyH_take (i := 4) (v := .pointer (some ⟨q, 0, none⟩)) rfl (by kernel_rfl) (by kernel_rfl) (by kernel_rfl) (fun _ _ _ h => h) (Or.inl ⟨by rfl, fun w hSw => by go_simp⟩) hS ?_
  (try simp only [List.getElem_toArray, List.getElem_cons_succ, List.getElem_cons_zero, Act.put, List.setIfInBounds_toArray, List.set_cons_zero, List.set_cons_succ])
  refine wpAnyH_take (i := 5) (v := .pointer (some ⟨q, 0, none⟩)) rfl (by kernel_rfl) (by kernel_rfl) (by kernel_rfl) (fun _ _ _ h => h) (Or.inl ⟨by rfl, fun w hSw => by go_simp⟩) hS ?_
  (try simp only [List.getElem_toArray, List.getElem_cons_succ, List.getElem_cons_zero, Act.put, List.setIfInBounds_toArray, List.set_cons_zero, List.set_cons_succ])
  refine wpAnyH_take (i := 6) (v := .iface T x') rfl (by kernel_rfl) (by kernel_rfl) (by kernel_rfl) (fun _ _ _ h => h) (Or.inl ⟨by rfl, fun w hSw => by (try dsimp only at hSw); go_split_ands; go_simp⟩) hS ?_
  (try simp only [List.getElem_toArray, List.getElem_cons_succ, List.getElem_cons_zero, Act.put, List.setIfInBounds_toArray, List.set_cons_zero, List.set_cons_succ])
  refine wpAnyH_take (i := 7) (v := .pointer (some ⟨q', 0, none⟩)) rfl (by kernel_rfl) (by kernel_rfl) (by kernel_rfl) (fun _ _ _ h => h) (Or.inl ⟨by rfl, fun w hSw => by go_simp⟩) hS ?_
  (try simp only [List.getElem_toArray, List.getElem_cons_succ, List.getElem_cons_zero, Act.put, List.setIfInBounds_toArray, List.set_cons_zero, List.set_cons_succ])
  refine wpAnyH_take (i := 8) (v := .pointer (some ⟨q', 0, none⟩)) rfl (by kernel_rfl) (by kernel_rfl) (by kernel_rfl) (fun _ _ _ h => h) (Or.inl ⟨by rfl, fun w hSw => by go_simp⟩) hS ?_
  (try simp only [List.getElem_toArray, List.getElem_cons_succ, List.getElem_cons_zero, Act.put, List.setIfInBounds_toArray, List.set_cons_zero, List.set_cons_succ])
  refine wpAnyH_take (i := 9) (v := .pointer (some ⟨q', 0, none⟩)) rfl (by kernel_rfl) (by kernel_rfl) (by kernel_rfl) (fun _ _ _ h => h) (Or.inl ⟨by rfl, fun w hSw => by go_simp⟩) hS ?_
  (try simp only [List.getElem_toArray, List.getElem_cons_succ, List.getElem_cons_zero, Act.put, List.setIfInBounds_toArray, List.set_cons_zero, List.set_cons_succ])
  refine wpAnyH_take (i := 10) (v := .iface T' y') rfl (by kernel_rfl) (by kernel_rfl) (by kernel_rfl) (fun _ _ _ h => h) (Or.inl ⟨by rfl, fun w hSw => by (try dsimp only at hSw); go_split_ands; go_simp⟩) hS ?_
  (try simp only [List.getElem_toArray, List.getElem_cons_succ, List.getElem_cons_zero, Act.put, List.setIfInBounds_toArray, List.set_cons_zero, List.set_cons_succ])
  refine wpAnyH_ready (rs := [11]) (by kernel_rfl) (by simp) ?_
  refine AllReadyH.cons rfl (fun KK hK => ?_) AllReadyH.nil
  (try simp only [List.getElem_toArray, List.getElem_cons_succ, List.getElem_cons_zero])
  go_simp
  go_at_fn K
  refine HH.out.mono ?_
  rintro e w1 ⟨rfl, hQ⟩
  obtain ⟨q1, q2, q3, q4⟩ := HHC.out w1 hQ
  dsimp only
  refine hK.out _ _ ⟨q1, q2, q3, q4⟩ (fun hS => ?_)
  (try simp only [List.getElem_toArray, List.getElem_cons_succ, List.getElem_cons_zero, Act.put, List.setIfInBounds_toArray, List.set_cons_zero, List.set_cons_succ])
  refine wpAnyH_take (i := 12) (v := .bool false) rfl (by kernel_rfl) (by kernel_rfl) (by kernel_rfl) (fun _ _ _ h => h) (Or.inl ⟨by rfl, fun w hSw => by go_simp⟩) hS ?_
  (try simp only [List.getElem_toArray, List.getElem_cons_succ, List.getElem_cons_zero, Act.put, List.setIfInBounds_toArray, List.set_cons_zero, List.set_cons_succ])
  refine wpAnyH_take (i := 13) (v := .bool false) rfl (by kernel_rfl) (by kernel_rfl) (by kernel_rfl) (fun _ _ _ h => h) (Or.inl ⟨by rfl, fun w hSw => by go_simp⟩) hS ?_
  (try simp only [List.getElem_toArray, List.getElem_cons_succ, List.getElem_cons_zero, Act.put, List.setIfInBounds_toArray, List.set_cons_zero, List.set_cons_succ])
  refine wpAnyH_take (i := 14) (v := undef) rfl (by kernel_rfl) (by kernel_rfl) (by kernel_rfl) (fun _ _ _ h => h) (Or.inr ⟨by rfl, rfl⟩) hS ?_
  (try simp only [List.getElem_toArray, List.getElem_cons_succ, List.getElem_cons_zero, Act.put, List.setIfInBounds_toArray, List.set_cons_zero, List.set_cons_succ])
  refine wpAnyH_take (i := 15) (v := undef) rfl (by kernel_rfl) (by kernel_rfl) (by kernel_rfl) (fun _ _ _ h => h) (Or.inr ⟨by rfl, rfl⟩) hS ?_
  (try simp only [List.getElem_toArray, List.getElem_cons_succ, List.getElem_cons_zero, Act.put, List.setIfInBounds_toArray, List.set_cons_zero, List.set_cons_succ])
  refine wpAnyH_take (i := 16) (v := undef) rfl (by kernel_rfl) (by kernel_rfl) (by kernel_rfl) (fun _ _ _ h => h) (Or.inr ⟨by rfl, rfl⟩) hS ?_
  (try simp only [List.getElem_toArray, List.getElem_cons_succ, List.getElem_cons_zero, Act.put, List.setIfInBounds_toArray, List.set_cons_zero, List.set_cons_succ])
  refine wpAnyH_take (i := 17) (v := undef) rfl (by kernel_rfl) (by kernel_rfl) (by kernel_rfl) (fun _ _ _ h => h) (Or.inr ⟨by rfl, rfl⟩) hS ?_
  (try simp only [List.getElem_toArray, List.getElem_cons_succ, List.getElem_cons_zero, Act.put, List.setIfInBounds_toArray, List.set_cons_zero, List.set_cons_succ])
  refine wpAnyH_take (i := 18) (v := undef) rfl (by kernel_rfl) (by kernel_rfl) (by kernel_rfl) (fun _ _ _ h => h) (Or.inr ⟨by rfl, rfl⟩) hS ?_
  (try simp only [List.getElem_toArray, List.getElem_cons_succ, List.getElem_cons_zero, Act.put, List.setIfInBounds_toArray, List.set_cons_zero, List.set_cons_succ])
  refine wpAnyH_take (i := 19) (v := undef) rfl (by kernel_rfl) (by kernel_rfl) (by kernel_rfl) (fun _ _ _ h => h) (Or.inr ⟨by rfl, rfl⟩) hS ?_
  (try simp only [List.getElem_toArray, List.getElem_cons_succ, List.getElem_cons_zero, Act.put, List.setIfInBounds_toArray, List.set_cons_zero, List.set_cons_succ])
  refine wpAnyH_take (i := 20) (v := undef) rfl (by kernel_rfl) (by kernel_rfl) (by kernel_rfl) (fun _ _ _ h => h) (Or.inr ⟨by rfl, rfl⟩) hS ?_
  (try simp only [List.getElem_toArray, List.getElem_cons_succ, List.getElem_cons_zero, Act.put, List.setIfInBounds_toArray, List.set_cons_zero, List.set_cons_succ])
  refine wpAnyH_take (i := 21) (v := undef) rfl (by kernel_rfl) (by kernel_rfl) (by kernel_rfl) (fun _ _ _ h => h) (Or.inr ⟨by rfl, rfl⟩) hS ?_
  (try simp only [List.getElem_toArray, List.getElem_cons_succ, List.getElem_cons_zero, Act.put, List.setIfInBounds_toArray, List.set_cons_zero, List.set_cons_succ])
  refine wpAnyH_take (i := 22) (v := undef) rfl (by kernel_rfl) (by kernel_rfl) (by kernel_rfl) (fun _ _ _ h => h) (Or.inr ⟨by rfl, rfl⟩) hS ?_
  (try simp only [List.getElem_toArray, List.getElem_cons_succ, List.getElem_cons_zero, Act.put, List.setIfInBounds_toArray, List.set_cons_zero, List.set_cons_succ])
  refine wpAnyH_take (i := 23) (v := undef) rfl (by kernel_rfl) (by kernel_rfl) (by kernel_rfl) (fun _ _ _ h => h) (Or.inr ⟨by rfl, rfl⟩) hS ?_
  (try simp only [List.getElem_toArray, List.getElem_cons_succ, List.getElem_cons_zero, Act.put, List.setIfInBounds_toArray, List.set_cons_zero, List.set_cons_succ])
  refine wpAnyH_take (i := 24) (v := .bool false) rfl (by kernel_rfl) (by kernel_rfl) (by kernel_rfl) (fun _ _ _ h => h) (Or.inl ⟨by rfl, fun w hSw => by go_simp⟩) hS ?_
  (try simp only [List.getElem_toArray, List.getElem_cons_succ, List.getElem_cons_zero, Act.put, List.setIfInBounds_toArray, List.set_cons_zero, List.set_cons_succ])
  refine wpAnyH_take (i := 25) (v := .bool false) rfl (by kernel_rfl) (by kernel_rfl) (by kernel_rfl) (fun _ _ _ h => h) (Or.inl ⟨by rfl, fun w hSw => by go_simp⟩) hS ?_
  (try simp only [List.getElem_toArray, List.getElem_cons_succ, List.getElem_cons_zero, Act.put, List.setIfInBounds_toArray, List.set_cons_zero, List.set_cons_succ])
  refine wpAnyH_done (by kernel_rfl) ?_ _
  go_wp2_with fail
  go_ret
  exact ⟨rfl, hQ⟩

set_option maxRecDepth 100000 in
set_option maxHeartbeats 4000000 in
theorem alikeP_yes (K : Nat) (fs cs : Array Value) (eK : Entered K) (w : World) (q q' : Nat) (T T' S S' : TypeId) (x' y' x2' y2' : Value) (Q : World → Prop) (Q2 : Bool → World → Prop) (c1 : w.cell? ⟨q, 0, none⟩ = some (.iface T x')) (c2 : w.cell? ⟨q', 0, none⟩ = some (.iface T' y')) (c3 : w.cell? ⟨q, 1, none⟩ = some (.iface S x2')) (c4 : w.cell? ⟨q', 1, none⟩ = some (.iface S' y2'))
    (H : Calls Tryd.prog K (fs ++ (#[.iface T x', .iface T' y'] ++ cs)) w.drew fun e w1 => e = .returned (.bool true) ∧ Q w1)
    (H2 : ∀ w1, Q w1 → Calls Tryd.prog K (fs ++ (#[.iface S x2', .iface S' y2'] ++ cs)) w1 fun e w2 => ∃ r, e = .returned (.bool r) ∧ Q2 r w2)
    (HC : ∀ w1, Q w1 → w1.cell? ⟨q, 0, none⟩ = some (.iface T x') ∧ w1.cell? ⟨q', 0, none⟩ = some (.iface T' y') ∧ w1.cell? ⟨q, 1, none⟩ = some (.iface S x2') ∧ w1.cell? ⟨q', 1, none⟩ = some (.iface S' y2'))
    (HC2 : ∀ r w1, Q2 r w1 → w1.cell? ⟨q, 0, none⟩ = some (.iface T x') ∧ w1.cell? ⟨q', 0, none⟩ = some (.iface T' y') ∧ w1.cell? ⟨q, 1, none⟩ = some (.iface S x2') ∧ w1.cell? ⟨q', 1, none⟩ = some (.iface S' y2')) :
    Calls Tryd.prog 42 #[viP q, viP q', .func (.func K) fs cs] w fun e w' => ∃ r, e = .returned (.bool r) ∧ Q2 r w' := by
  have HH : Hid (Calls Tryd.prog K (fs ++ (#[.iface T x', .iface T' y'] ++ cs)) w.drew fun e w1 => e = .returned (.bool true) ∧ Q w1) := H
  have HH2 : Hid (∀ w1, Q w1 → Calls Tryd.prog K (fs ++ (#[.iface S x2', .iface S' y2'] ++ cs)) w1 fun e w2 => ∃ r, e = .returned (.bool r) ∧ Q2 r w2) := H2
  have HHC : Hid (∀ w1, Q w1 → w1.cell? ⟨q, 0, none⟩ = some (.iface T x') ∧ w1.cell? ⟨q', 0, none⟩ = some (.iface T' y') ∧ w1.cell? ⟨q, 1, none⟩ = some (.iface S x2') ∧ w1.cell? ⟨q', 1, none⟩ = some (.iface S' y2')) := HC
  have HHC2 : Hid (∀ r w1, Q2 r w1 → w1.cell? ⟨q, 0, none⟩ = some (.iface T x') ∧ w1.cell? ⟨q', 0, none⟩ = some (.iface T' y') ∧ w1.cell? ⟨q, 1, none⟩ = some (.iface S x2') ∧ w1.cell? ⟨q', 1, none⟩ = some (.iface S' y2')) := HC2
  clear H H2 HC HC2
  have a1 := fun v => tm_List (T := 118) v (by decide)
  have a3 := th_Pair
  go_enter Tryd.func42, Tryd.ntmps42
  go_wp2_with fail
  first | go_region_held3 (fun wq => wq.cell? ⟨q, 0, none⟩ = some (.iface T x') ∧ wq.cell? ⟨q', 0, none⟩ = some (.iface T' y') ∧ wq.cell? ⟨q, 1, none⟩ = some (.iface S x2') ∧ wq.cell? ⟨q', 1, none⟩ = some (.iface S' y2'))
    (first | (go_keep; done) | (go_split_ands; exact ⟨q1, q2, q3, q4⟩))
    (first
      | (go_at_fn K; (have hb3 := hQ1); refine (HH2.out _ hQ1).mono ?_; rintro e w2 ⟨r, rfl, hQ2⟩; obtain ⟨q1, q2, q3, q4⟩ := HHC2.out r w2 hQ2)
      | (go_at_fn K; refine HH.out.mono ?_; rintro e w1 ⟨rfl, hQ1⟩; obtain ⟨q1, q2, q3, q4⟩ := HHC.out w1 hQ1)) | fail
  go_wp2_with fail
  go_ret
  exact ⟨_, rfl, hQ2⟩

set_option maxRecDepth 100000 in
set_option maxHeartbeats 4000000 in
theorem alikeF_no (K : Nat) (fs cs : Array Value) (eK : Entered K) (w : World) (q q' : Nat) (T T' S S' : TypeId) (x' y' x2' y2' : Value) (Q : World → Prop) (c1 : w.cell? ⟨q, 0, none⟩ = some (.iface T x')) (c2 : w.cell? ⟨q', 0, none⟩ = some (.iface T' y')) (c3 : w.cell? ⟨q, 1, none⟩ = some (.iface S x2')) (c4 : w.cell? ⟨q', 1, none⟩ = some (.iface S' y2'))
    (H : Calls Tryd.prog K (fs ++ (#[.iface T x', .iface T' y'] ++ cs)) w.drew fun e w1 => e = .returned (.bool false) ∧ Q w1)
    (HC : ∀ w1, Q w1 → w1.cell? ⟨q, 0, none⟩ = some (.iface T x') ∧ w1.cell? ⟨q', 0, none⟩ = some (.iface T' y') ∧ w1.cell? ⟨q, 1, none⟩ = some (.iface S x2') ∧ w1.cell? ⟨q', 1, none⟩ = some (.iface S' y2')) :
    Calls Tryd.prog 42 #[viF q, viF q', .func (.func K) fs cs] w fun e w' => e = .returned (.bool false) ∧ Q w' := by
  have HH : Hid (Calls Tryd.prog K (fs ++ (#[.iface T x', .iface T' y'] ++ cs)) w.drew fun e w1 => e = .returned (.bool false) ∧ Q w1) := H
  have HHC : Hid (∀ w1, Q w1 → w1.cell? ⟨q, 0, none⟩ = some (.iface T x') ∧ w1.cell? ⟨q', 0, none⟩ = some (.iface T' y') ∧ w1.cell? ⟨q, 1, none⟩ = some (.iface S x2') ∧ w1.cell? ⟨q', 1, none⟩ = some (.iface S' y2')) := HC
  clear H HC
  have a1 := fun v => tm_List (T := 89) v (by decide)
  have a2 := fun v => tm_Pair (T := 89) v (by decide)
  have a3 := th_Function
  go_enter Tryd.func42, Tryd.ntmps42
  go_wp2_with fail
  refine wp_region_held_drew (S := (fun wq => wq.cell? ⟨q, 0, none⟩ = some (.iface T x') ∧ wq.cell? ⟨q', 0, none⟩ = some (.iface T' y') ∧ wq.cell? ⟨q, 1, none⟩ = some (.iface S x2') ∧ wq.cell? ⟨q', 1, none⟩ = some (.iface S' y2'))) (by kernel_rfl) (⟨c1, c2, c3, c4⟩) (fun hS => ?_)
  refine wpAnyH_take (i := 0) (v := .bool true) rfl (by kernel_rfl) (by kernel_rfl) (by kernel_rfl) (fun _ _ _ h => h) (Or.inl ⟨by rfl, fun w hSw => by go_simp⟩) hS ?_
  (try simp only [List.getElem_toArray, List.getElem_cons_succ, List.getElem_cons_zero, Act.put, List.setIfInBounds_toArray, List.set_cons_zero, List.set_cons_succ])
  refine wpAnyH_take (i := 1) (v := .bool true) rfl (by kernel_rfl) (by kernel_rfl) (by kernel_rfl) (fun _ _ _ h => h) (Or.inl ⟨by rfl, fun w hSw => by go_simp⟩) hS ?_
  (try simp only [List.getElem_toArray, List.getElem_cons_succ, List.getElem_cons_zero, Act.put, List.setIfInBounds_toArray, List.set_cons_zero, List.set_cons_succ])
  refine wpAnyH_take (i := 2) (v := .func (.func K) fs cs) rfl (by kernel_rfl) (by kernel_rfl) (by kernel_rfl) (fun _ _ _ h => h) (Or.inl ⟨by rfl, fun w hSw => by go_simp⟩) hS ?_
  (try simp only [List.getElem_toArray, List.getElem_cons_succ, List.getElem_cons_zero, Act.put, List.setIfInBounds_toArray, List.set_cons_zero, List.set_cons_succ])
  refine wpAnyH_take (i := 3) (v := .pointer (some ⟨q, 0, none⟩)) rfl (by kernel_rfl) (by kernel_rfl) (by kernel_rfl) (fun _ _ _ h => h) (Or.inl ⟨by rfl, fun w hSw => by go_simp⟩) hS ?_
  (try simp only [List.getElem_toArray, List.getElem_cons_succ, List.getElem_cons_zero, Act.put, List.setIfInBounds_toArray, List.set_cons_zero, List.set_cons_succ])
  refine wpAnyH_take (i := 4) (v := .pointer (some ⟨q, 0, none⟩)) rfl (by kernel_rfl) (by kernel_rfl) (by kernel_rfl) (fun _ _ _ h => h) (Or.inl ⟨by rfl, fun w hSw => by go_simp⟩) hS ?_
  (try simp only [List.getElem_toArray, List.getElem_cons_succ, List.getElem_cons_zero, Act.put, List.setIfInBounds_toArray, List.set_cons_zero, List.set_cons_succ])
  refine wpAnyH_take (i := 5) (v := .pointer (some ⟨q, 0, none⟩)) rfl (by kernel_rfl) (by kernel_rfl) (by kernel_rfl) (fun _ _ _ h => h) (Or.inl ⟨by rfl, fun w hSw => by go_simp⟩) hS ?_
  (try simp only [List.getElem_toArray, List.getElem_cons_succ, List.getElem_cons_zero, Act.put, List.setIfInBounds_toArray, List.set_cons_zero, List.set_cons_succ])
  refine wpAnyH_take (i := 6) (v := .iface T x') rfl (by kernel_rfl) (by kernel_rfl) (by kernel_rfl) (fun _ _ _ h => h) (Or.inl ⟨by rfl, fun w hSw => by (try dsimp only at hSw); go_split_ands; go_simp⟩) hS ?_
  (try simp only [List.getElem_toArray, List.getElem_cons_succ, List.getElem_cons_zero, Act.put, List.setIfInBounds_toArray, List.set_cons_zero, List.set_cons_succ])
  refine wpAnyH_take (i := 7) (v := .pointer (some ⟨q', 0, none⟩)) rfl (by kernel_rfl) (by kernel_rfl) (by kernel_rfl) (fun _ _ _ h => h) (Or.inl ⟨by rfl, fun w hSw => by go_simp⟩) hS ?_
  (try simp only [List.getElem_toArray, List.getElem_cons_succ, List.getElem_cons_zero, Act.put, List.setIfInBounds_toArray, List.set_cons_zero, List.set_cons_succ])
  refine wpAnyH_take (i := 8) (v := .pointer (some ⟨q', 0, none⟩)) rfl (by kernel_rfl) (by kernel_rfl) (by kernel_rfl) (fun _ _ _ h => h) (Or.inl ⟨by rfl, fun w hSw => by go_simp⟩) hS ?_
  (try simp only [List.getElem_toArray, List.getElem_cons_succ, List.getElem_cons_zero, Act.put, List.setIfInBounds_toArray, List.set_cons_zero, List.set_cons_succ])
  refine wpAnyH_take (i := 9) (v := .pointer (some ⟨q', 0, none⟩)) rfl (by kernel_rfl) (by kernel_rfl) (by kernel_rfl) (fun _ _ _ h => h) (Or.inl ⟨by rfl, fun w hSw => by go_simp⟩) hS ?_
  (try simp only [List.getElem_toArray, List.getElem_cons_succ, List.getElem_cons_zero, Act.put, List.setIfInBounds_toArray, List.set_cons_zero, List.set_cons_succ])
  refine wpAnyH_take (i := 10) (v := .iface T' y') rfl (by kernel_rfl) (by kernel_rfl) (by kernel_rfl) (fun _ _ _ h => h) (Or.inl ⟨by rfl, fun w hSw => by (try dsimp only at hSw); go_split_ands; go_simp⟩) hS ?_
  (try simp only [List.getElem_toArray, List.getElem_cons_succ, List.getElem_cons_zero, Act.put, List.setIfInBounds_toArray, List.set_cons_zero, List.set_cons_succ])
  refine wpAnyH_ready (rs := [11]) (by kernel_rfl) (by simp) ?_
  refine AllReadyH.cons rfl (fun KK hK => ?_) AllReadyH.nil
  (try simp only [List.getElem_toArray, List.getElem_cons_succ, List.getElem_cons_zero])
  go_simp
  go_at_fn K
  refine HH.out.mono ?_
  rintro e w1 ⟨rfl, hQ⟩
  obtain ⟨q1, q2, q3, q4⟩ := HHC.out w1 hQ
  dsimp only
  refine hK.out _ _ ⟨q1, q2, q3, q4⟩ (fun hS => ?_)
  (try simp only [List.getElem_toArray, List.getElem_cons_succ, List.getElem_cons_zero, Act.put, List.setIfInBounds_toArray, List.set_cons_zero, List.set_cons_succ])
  refine wpAnyH_take (i := 12) (v := .bool false) rfl (by kernel_rfl) (by kernel_rfl) (by kernel_rfl) (fun _ _ _ h => h) (Or.inl ⟨by rfl, fun w hSw => by go_simp⟩) hS ?_
  (try simp only [List.getElem_toArray, List.getElem_cons_succ, List.getElem_cons_zero, Act.put, List.setIfInBounds_toArray, List.set_cons_zero, List.set_cons_succ])
  refine wpAnyH_take (i := 13) (v := .bool false) rfl (by kernel_rfl) (by kernel_rfl) (by kernel_rfl) (fun _ _ _ h => h) (Or.inl ⟨by rfl, fun w hSw => by go_simp⟩) hS ?_
  (try simp only [List.getElem_toArray, List.getElem_cons_succ, List.getElem_cons_zero, Act.put, List.setIfInBounds_toArray, List.set_cons_zero, List.set_cons_succ])
  refine wpAnyH_take (i := 14) (v := undef) rfl (by kernel_rfl) (by kernel_rfl) (by kernel_rfl) (fun _ _ _ h => h) (Or.inr ⟨by rfl, rfl⟩) hS ?_
  (try simp only [List.getElem_toArray, List.getElem_cons_succ, List.getElem_cons_zero, Act.put, List.setIfInBounds_toArray, List.set_cons_zero, List.set_cons_succ])
  refine wpAnyH_take (i := 15) (v := undef) rfl (by kernel_rfl) (by kernel_rfl) (by kernel_rfl) (fun _ _ _ h => h) (Or.inr ⟨by rfl, rfl⟩) hS ?_
  (try simp only [List.getElem_toArray, List.getElem_cons_succ, List.getElem_cons_zero, Act.put, List.setIfInBounds_toArray, List.set_cons_zero, List.set_cons_succ])
  refine wpAnyH_take (i := 16) (v := undef) rfl (by kernel_rfl) (by kernel_rfl) (by kernel_rfl) (fun _ _ _ h => h) (Or.inr ⟨by rfl, rfl⟩) hS ?_
  (try simp only [List.getElem_toArray, List.getElem_cons_succ, List.getElem_cons_zero, Act.put, List.setIfInBounds_toArray, List.set_cons_zero, List.set_cons_succ])
  refine wpAnyH_take (i := 17) (v := undef) rfl (by kernel_rfl) (by kernel_rfl) (by kernel_rfl) (fun _ _ _ h => h) (Or.inr ⟨by rfl, rfl⟩) hS ?_
  (try simp only [List.getElem_toArray, List.getElem_cons_succ, List.getElem_cons_zero, Act.put, List.setIfInBounds_toArray, List.set_cons_zero, List.set_cons_succ])
  refine wpAnyH_take (i := 18) (v := undef) rfl (by kernel_rfl) (by kernel_rfl) (by kernel_rfl) (fun _ _ _ h => h) (Or.inr ⟨by rfl, rfl⟩) hS ?_
  (try simp only [List.getElem_toArray, List.getElem_cons_succ, List.getElem_cons_zero, Act.put, List.setIfInBounds_toArray, List.set_cons_zero, List.set_cons_succ])
  refine wpAnyH_take (i := 19) (v := undef) rfl (by kernel_rfl) (by kernel_rfl) (by kernel_rfl) (fun _ _ _ h => h) (Or.inr ⟨by rfl, rfl⟩) hS ?_
  (try simp only [List.getElem_toArray, List.getElem_cons_succ, List.getElem_cons_zero, Act.put, List.setIfInBounds_toArray, List.set_cons_zero, List.set_cons_succ])
  refine wpAnyH_take (i := 20) (v := undef) rfl (by kernel_rfl) (by kernel_rfl) (by kernel_rfl) (fun _ _ _ h => h) (Or.inr ⟨by rfl, rfl⟩) hS ?_
  (try simp only [List.getElem_toArray, List.getElem_cons_succ, List.getElem_cons_zero, Act.put, List.setIfInBounds_toArray, List.set_cons_zero, List.set_cons_succ])
  refine wpAnyH_take (i := 21) (v := undef) rfl (by kernel_rfl) (by kernel_rfl) (by kernel_rfl) (fun _ _ _ h => h) (Or.inr ⟨by rfl, rfl⟩) hS ?_
  (try simp only [List.getElem_toArray, List.getElem_cons_succ, List.getElem_cons_zero, Act.put, List.setIfInBounds_toArray, List.set_cons_zero, List.set_cons_succ])
  refine wpAnyH_take (i := 22) (v := undef) rfl (by kernel_rfl) (by kernel_rfl) (by kernel_rfl) (fun _ _ _ h => h) (Or.inr ⟨by rfl, rfl⟩) hS ?_
  (try simp only [List.getElem_toArray, List.getElem_cons_succ, List.getElem_cons_zero, Act.put, List.setIfInBounds_toArray, List.set_cons_zero, List.set_cons_succ])
  refine wpAnyH_take (i := 23) (v := undef) rfl (by kernel_rfl) (by kernel_rfl) (by kernel_rfl) (fun _ _ _ h => h) (Or.inr ⟨by rfl, rfl⟩) hS ?_
  (try simp only [List.getElem_toArray, List.getElem_cons_succ, List.getElem_cons_zero, Act.put, List.setIfInBounds_toArray, List.set_cons_zero, List.set_cons_succ])
  refine wpAnyH_take (i := 24) (v := .bool false) rfl (by kernel_rfl) (by kernel_rfl) (by kernel_rfl) (fun _ _ _ h => h) (Or.inl ⟨by rfl, fun w hSw => by go_simp⟩) hS ?_
  (try simp only [List.getElem_toArray, List.getElem_cons_succ, List.getElem_cons_zero, Act.put, List.setIfInBounds_toArray, List.set_cons_zero, List.set_cons_succ])
  refine wpAnyH_take (i := 25) (v := .bool false) rfl (by kernel_rfl) (by kernel_rfl) (by kernel_rfl) (fun _ _ _ h => h) (Or.inl ⟨by rfl, fun w hSw => by go_simp⟩) hS ?_
  (try simp only [List.getElem_toArray, List.getElem_cons_succ, List.getElem_cons_zero, Act.put, List.setIfInBounds_toArray, List.set_cons_zero, List.set_cons_succ])
  refine wpAnyH_done (by kernel_rfl) ?_ _
  go_wp2_with fail
  go_ret
  exact ⟨rfl, hQ⟩

set_option maxRecDepth 100000 in
set_option maxHeartbeats 4000000 in
theorem alikeF_yes (K : Nat) (fs cs : Array Value) (eK : Entered K) (w : World) (q q' : Nat) (T T' S S' : TypeId) (x' y' x2' y2' : Value) (Q : World → Prop) (Q2 : Bool → World → Prop) (c1 : w.cell? ⟨q, 0, none⟩ = some (.iface T x')) (c2 : w.cell? ⟨q', 0, none⟩ = some (.iface T' y')) (c3 : w.cell? ⟨q, 1, none⟩ = some (.iface S x2')) (c4 : w.cell? ⟨q', 1, none⟩ = some (.iface S' y2'))
    (H : Calls Tryd.prog K (fs ++ (#[.iface T x', .iface T' y'] ++ cs)) w.drew fun e w1 => e = .returned (.bool true) ∧ Q w1)
    (H2 : ∀ w1, Q w1 → Calls Tryd.prog K (fs ++ (#[.iface S x2', .iface S' y2'] ++ cs)) w1 fun e w2 => ∃ r, e = .returned (.bool r) ∧ Q2 r w2)
    (HC : ∀ w1, Q w1 → w1.cell? ⟨q, 0, none⟩ = some (.iface T x') ∧ w1.cell? ⟨q', 0, none⟩ = some (.iface T' y') ∧ w1.cell? ⟨q, 1, none⟩ = some (.iface S x2') ∧ w1.cell? ⟨q', 1, none⟩ = some (.iface S' y2'))
    (HC2 : ∀ r w1, Q2 r w1 → w1.cell? ⟨q, 0, none⟩ = some (.iface T x') ∧ w1.cell? ⟨q', 0, none⟩ = some (.iface T' y') ∧ w1.cell? ⟨q, 1, none⟩ = some (.iface S x2') ∧ w1.cell? ⟨q', 1, none⟩ = some (.iface S' y2')) :
    Calls Tryd.prog 42 #[viF q, viF q', .func (.func K) fs cs] w fun e w' => ∃ r, e = .returned (.bool r) ∧ Q2 r w' := by
  have HH : Hid (Calls Tryd.prog K (fs ++ (#[.iface T x', .iface T' y'] ++ cs)) w.drew fun e w1 => e = .returned (.bool true) ∧ Q w1) := H
  have HH2 : Hid (∀ w1, Q w1 → Calls Tryd.prog K (fs ++ (#[.iface S x2', .iface S' y2'] ++ cs)) w1 fun e w2 => ∃ r, e = .returned (.bool r) ∧ Q2 r w2) := H2
  have HHC : Hid (∀ w1, Q w1 → w1.cell? ⟨q, 0, none⟩ = some (.iface T x') ∧ w1.cell? ⟨q', 0, none⟩ = some (.iface T' y') ∧ w1.cell? ⟨q, 1, none⟩ = some (.iface S x2') ∧ w1.cell? ⟨q', 1, none⟩ = some (.iface S' y2')) := HC
  have HHC2 : Hid (∀ r w1, Q2 r w1 → w1.cell? ⟨q, 0, none⟩ = some (.iface T x') ∧ w1.cell? ⟨q', 0, none⟩ = some (.iface T' y') ∧ w1.cell? ⟨q, 1, none⟩ = some (.iface S x2') ∧ w1.cell? ⟨q', 1, none⟩ = some (.iface S' y2')) := HC2
  clear H H2 HC HC2
  have a1 := fun v => tm_List (T := 89) v (by decide)
  have a2 := fun v => tm_Pair (T := 89) v (by decide)
  have a3 := th_Function
  go_enter Tryd.func42, Tryd.ntmps42
  go_wp2_with fail
  first | go_region_held3 (fun wq => wq.cell? ⟨q, 0, none⟩ = some (.iface T x') ∧ wq.cell? ⟨q', 0, none⟩ = some (.iface T' y') ∧ wq.cell? ⟨q, 1, none⟩ = some (.iface S x2') ∧ wq.cell? ⟨q', 1, none⟩ = some (.iface S' y2'))
    (first | (go_keep; done) | (go_split_ands; exact ⟨q1, q2, q3, q4⟩))
    (first
      | (go_at_fn K; (have hb3 := hQ1); refine (HH2.out _ hQ1).mono ?_; rintro e w2 ⟨r, rfl, hQ2⟩; obtain ⟨q1, q2, q3, q4⟩ := HHC2.out r w2 hQ2)
      | (go_at_fn K; refine HH.out.mono ?_; rintro e w1 ⟨rfl, hQ1⟩; obtain ⟨q1, q2, q3, q4⟩ := HHC.out w1 hQ1)) | fail
  go_wp2_with fail
  go_ret
  exact ⟨_, rfl, hQ2⟩

end Go.Proofs.YtceadeaodbadlaaDoor
