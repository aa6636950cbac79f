import Derived.Test.YtkcleplifimgmaaDoorMaps
import Derived.Deep.RegionHeld3
set_option linter.unusedVariables false
set_option linter.unusedSimpArgs false
namespace Go.Proofs.YtkcleplifimgmaaDoor
open Go.RowKit

def MPost (b : Nat) (r : Option (List (Nat × Ty))) (w : World) (e : Ending) (w' : World) : Prop :=
  e = .returned (.bool r.isSome) ∧ Gb b w w' ∧ ∀ m, r = some m → Mp b m w'
def FitsAt (g s : Ty) : Prop := ∀ (w : World) (b : Nat) (l : List (Nat × Ty)) (v v' : Value), Mp b l w → Tv w g v → Tv w s v' →
  Calls Tryd.prog 23 #[v, v', .map (some b)] w (MPost b (fitsT g s l) w)

def fits2 (a c a' d : Ty) (l : List (Nat × Ty)) : Option (List (Nat × Ty)) := match fitsT a c l with | none => none | some m => fitsT a' d m
theorem Gb.ofBelow {b : Nat} {w w' : World} (h : Below w.heap.size w w') : Gb b w w' := ⟨h.os, h.tape, h.output, h.size, fun k hk _ => h.block k hk⟩
theorem Gb.drew {b : Nat} {x y : World} (h : Gb b x y) : Gb b x y.drew := ⟨h.os, h.tape, h.output, h.size, h.block⟩
theorem Gb.undrew {b : Nat} {x y : World} (h : Gb b x.drew y) : Gb b x y := ⟨h.os, h.tape, h.output, h.size, h.block⟩
theorem Tv.drew {w : World} {t : Ty} {v : Value} (h : Tv w t v) : Tv w.drew t v := Tv.kept (w := w) (w' := w.drew) (fun _ _ _ _ _ h => h) t v h
theorem fits_I {s : Ty} (hs : Ok s) (l : List (Nat × Ty)) : fitsT tI s l = if eqT tI s then some l else none := by
  rcases hs.cases with rfl | rfl | ⟨o', h1', h2', rfl⟩ | ⟨a', ha', rfl⟩ | ⟨a', b', ha', hb', rfl⟩ | ⟨a', b', ha', hb', rfl⟩ <;> simp [fitsT, eqT]
theorem fits_B {s : Ty} (hs : Ok s) (l : List (Nat × Ty)) : fitsT tB s l = if eqT tB s then some l else none := by
  rcases hs.cases with rfl | rfl | ⟨o', h1', h2', rfl⟩ | ⟨a', ha', rfl⟩ | ⟨a', b', ha', hb', rfl⟩ | ⟨a', b', ha', hb', rfl⟩ <;> simp [fitsT, eqT]

set_option maxRecDepth 100000 in
set_option maxHeartbeats 1000000 in
theorem fits_Whole (s : Ty) (hs : Ok s) (w : World) (b : Nat) (l : List (Nat × Ty)) (v' : Value) (h : Mp b l w) (h' : Tv w s v') : Calls Tryd.prog 23 #[viI, v', .map (some b)] w (MPost b (fitsT tI s l) w) := by
  have HS := same_any tI s viI v' w okI hs (Tv.I w) h'
  have HF : Hid (fitsT tI s l = if eqT tI s then some l else none) := fits_I hs l
  obtain ⟨T, x, rfl⟩ := h'.iface
  have a1 := th_Whole
  have a2 := fun v => tm_Truth (T := 92) v (by decide)
  go_enter Tryd.func23, Tryd.ntmps23
  go_wp2_with fail
  refine HS.mono ?_
  rintro e w1 ⟨rfl, hb⟩
  go_wp2_with fail
  go_ret
  rw [HF.out]
  refine ⟨?_, Gb.ofBelow hb, ?_⟩
  · show Ending.returned (Value.bool (eqT tI s)) = _
    cases eqT tI s <;> rfl
  · intro m hm
    split at hm
    · cases hm
      exact h.below hb
    · cases hm

set_option maxRecDepth 100000 in
set_option maxHeartbeats 1000000 in
theorem fits_Truth (s : Ty) (hs : Ok s) (w : World) (b : Nat) (l : List (Nat × Ty)) (v' : Value) (h : Mp b l w) (h' : Tv w s v') : Calls Tryd.prog 23 #[viB, v', .map (some b)] w (MPost b (fitsT tB s l) w) := by
  have HS := same_any tB s viB v' w okB hs (Tv.B w) h'
  have HF : Hid (fitsT tB s l = if eqT tB s then some l else none) := fits_B hs l
  obtain ⟨T, x, rfl⟩ := h'.iface
  have a1 := fun v => tm_Whole (T := 93) v (by decide)
  have a2 := th_Truth
  go_enter Tryd.func23, Tryd.ntmps23
  go_wp2_with fail
  refine HS.mono ?_
  rintro e w1 ⟨rfl, hb⟩
  go_wp2_with fail
  go_ret
  rw [HF.out]
  refine ⟨?_, Gb.ofBelow hb, ?_⟩
  · show Ending.returned (Value.bool (eqT tB s)) = _
    cases eqT tB s <;> rfl
  · intro m hm
    split at hm
    · cases hm
      exact h.below hb
    · cases hm

set_option maxRecDepth 100000 in
set_option maxHeartbeats 1000000 in
theorem fits_var_new (o : Nat) (s : Ty) (hs : Ok s) (w : World) (b : Nat) (l : List (Nat × Ty)) (v' : Value) (h : Mp b l w) (h' : Tv w s v') (hl : look l o = none) : Calls Tryd.prog 23 #[viV o, v', .map (some b)] w (MPost b (fitsT (tV o) s l) w) := by
  have HR : Hid (fitsT (tV o) s l = some (l ++ [(o, s)])) := by
    unfold Hid; rw [fitsT_node, if_pos rfl, hl]
  have l1 := map_look_none (h.alloc (.cells #[.int .u8 ((o / 10 : Nat) : Int), .int .u8 ((o % 10 : Nat) : Int)] 95)) hl
  obtain ⟨w2, l2, h2, g2⟩ := map_put (h.alloc (.cells #[.int .u8 ((o / 10 : Nat) : Int), .int .u8 ((o % 10 : Nat) : Int)] 95)) hs (h'.below ((Below.refl _ w).alloc (Nat.le_refl _) (.cells #[.int .u8 ((o / 10 : Nat) : Int), .int .u8 ((o % 10 : Nat) : Int)] 95))) hl
  obtain ⟨T, z, rfl⟩ := h'.iface
  unfold viV
  unfold kv at *
  generalize ((o / 10 : Nat) : Int) = x at l1 l2 g2 ⊢
  generalize ((o % 10 : Nat) : Int) = y at l1 l2 g2 ⊢
  have a1 := fun v => tm_Whole (T := 95) v (by decide)
  have a2 := fun v => tm_Truth (T := 95) v (by decide)
  have a3 := th_Variable
  clear h h' hs
  go_enter Tryd.func23, Tryd.ntmps23
  go_wp2_with fail
  go_ret
  rw [HR.out]
  refine ⟨rfl, ((Gb.refl b w).alloc _).trans g2, ?_⟩
  intro m hm
  cases hm
  exact h2

set_option maxRecDepth 100000 in
set_option maxHeartbeats 1000000 in
theorem fits_var_old (o : Nat) (s t : Ty) (hs : Ok s) (w : World) (b : Nat) (l : List (Nat × Ty)) (v' : Value) (h : Mp b l w) (h' : Tv w s v') (hl : look l o = some t) : Calls Tryd.prog 23 #[viV o, v', .map (some b)] w (MPost b (fitsT (tV o) s l) w) := by
  have HR : Hid (fitsT (tV o) s l = if eqT t s then some l else none) := by
    unfold Hid; rw [fitsT_node, if_pos rfl, hl]
  have hA := h.alloc (.cells #[.int .u8 ((o / 10 : Nat) : Int), .int .u8 ((o % 10 : Nat) : Int)] 95)
  obtain ⟨v2, l1, ho2, t2⟩ := map_look_some hA hl
  have HS := same_any t s v2 v' _ ho2 hs t2 (h'.below ((Below.refl _ w).alloc (Nat.le_refl _) (.cells #[.int .u8 ((o / 10 : Nat) : Int), .int .u8 ((o % 10 : Nat) : Int)] 95)))
  obtain ⟨T, z, rfl⟩ := h'.iface
  obtain ⟨T2, z2, rfl⟩ := t2.iface
  clear h h' t2 ho2
  unfold viV
  unfold kv at *
  generalize ((o / 10 : Nat) : Int) = x at l1 hA HS ⊢
  generalize ((o % 10 : Nat) : Int) = y at l1 hA HS ⊢
  have a1 := fun v => tm_Whole (T := 95) v (by decide)
  have a2 := fun v => tm_Truth (T := 95) v (by decide)
  have a3 := th_Variable
  go_enter Tryd.func23, Tryd.ntmps23
  go_wp2_with fail
  refine HS.mono ?_
  rintro e w1 ⟨rfl, hb⟩
  go_wp2_with fail
  go_ret
  rw [HR.out]
  refine ⟨?_, ((Gb.refl b w).alloc _).trans (Gb.ofBelow hb), ?_⟩
  · show Ending.returned (Value.bool (eqT t s)) = _
    cases eqT t s <;> rfl
  · intro m hm
    split at hm
    · cases hm
      exact hA.below hb
    · cases hm

set_option maxRecDepth 100000 in
set_option maxHeartbeats 1000000 in
theorem fits_List_miss (q : Nat) (T : TypeId) (v : Value) (h : T ≠ 97) (w : World) (b : Nat) : Calls Tryd.prog 23 #[viL q, .iface T v, .map (some b)] w (MPost b none w) := by
  have z := fun w => tm_List v h w
  have a1 := fun v => tm_Whole (T := 97) v (by decide)
  have a2 := fun v => tm_Truth (T := 97) v (by decide)
  have a3 := fun v => tm_Variable (T := 97) v (by decide)
  have a4 := th_List
  go_enter Tryd.func23, Tryd.ntmps23
  go_wp2_with fail
  go_quiet (fail)
  go_wp2_with fail
  go_ret
  exact ⟨rfl, (Gb.refl b w).drewN _, fun m hm => by cases hm⟩

set_option maxRecDepth 100000 in
set_option maxHeartbeats 2000000 in
theorem fits_List_hit (a c : Ty) (ih : FitsAt a c) (w : World) (b : Nat) (l : List (Nat × Ty)) (q q' n n' : Nat) (x y : Value) (h : Mp b l w) (hx : Tv w a x) (hy : Tv w c y) (hq : w.heap[q]? = some (obL n x)) (hq' : w.heap[q']? = some (obL n' y)) : Calls Tryd.prog 23 #[viL q, viL q', .map (some b)] w (MPost b (fitsT a c l) w) := by
  have IH : Hid (Calls Tryd.prog 23 #[x, y, .map (some b)] w.drew (MPost b (fitsT a c l) w.drew)) := ih w.drew b l x y h.drew hx.drew hy.drew
  obtain ⟨T, x', rfl⟩ := hx.iface
  obtain ⟨T', y', rfl⟩ := hy.iface
  have HK : Hid (∀ w1, Gb b w.drew w1 → KeptN w w1) := fun w1 g => h.kept g.undrew
  have HQ : Hid (w.heap[q]? = some (obL n (.iface T x'))) := hq
  have HQ' : Hid (w.heap[q']? = some (obL n' (.iface T' y'))) := hq'
  have c1 : w.cell? ⟨q, 0, none⟩ = some (.iface T x') := by rw [Lib.cell_of_heap hq]; rfl
  have c2 : w.cell? ⟨q', 0, none⟩ = some (.iface T' y') := by rw [Lib.cell_of_heap hq']; rfl
  have a1 := fun v => tm_Whole (T := 97) v (by decide)
  have a2 := fun v => tm_Truth (T := 97) v (by decide)
  have a3 := fun v => tm_Variable (T := 97) v (by decide)
  have a4 := th_List
  clear ih hx hy hq hq' h
  generalize fitsT a c l = r at *
  go_enter Tryd.func23, Tryd.ntmps23
  go_wp2_with fail
  first | go_region_held3 (fun wq => wq.cell? ⟨q, 0, none⟩ = some (.iface T x') ∧ wq.cell? ⟨q', 0, none⟩ = some (.iface T' y'))
    (first | (go_keep; done) | (go_split_ands; exact ⟨q1, q2⟩))
    (first | (go_at_call 23; refine IH.out.mono ?_; rintro e w1 ⟨rfl, hg, hm⟩; (have q1 : w1.cell? ⟨q, 0, none⟩ = some (.iface T x') := by rw [Lib.cell_of_heap (HK.out w1 hg q _ _ (.inl rfl) HQ.out)]; rfl); (have q2 : w1.cell? ⟨q', 0, none⟩ = some (.iface T' y') := by rw [Lib.cell_of_heap (HK.out w1 hg q' _ _ (.inl rfl) HQ'.out)]; rfl))) | fail
  go_wp2_with fail
  go_ret
  exact ⟨rfl, hg.undrew, hm⟩
end Go.Proofs.YtkcleplifimgmaaDoor
