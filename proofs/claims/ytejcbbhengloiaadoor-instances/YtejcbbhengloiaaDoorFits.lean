import Derived.Test.YtejcbbhengloiaaDoorMaps
set_option linter.unusedVariables false
set_option linter.unusedSimpArgs false
namespace Go.Proofs.YtejcbbhengloiaaDoor
open Go.RowKit

def FPost (b : Nat) (r : Option (List (Nat × Ty))) (w : World) (e : Ending) (w' : World) : Prop :=
  e = .returned (.bool r.isSome) ∧ Gb b w w' ∧ ∀ m, r = some m → Mp b m w'
def FitsAt (g s : Ty) : Prop := ∀ (w : World) (b : Nat) (l : List (Nat × Ty)), Mp b l w →
  Calls Tryd.prog 50 #[.iface (tg g) (ag g), .iface (tg s) (ag s), .map (some b)] w (FPost b (fitsT g s l) w)

def fits2 (a c a' d : Ty) (l : List (Nat × Ty)) : Option (List (Nat × Ty)) := match fitsT a c l with | none => none | some m => fitsT a' d m
theorem Gb.ofBelow {b : Nat} {w w' : World} (h : Below w.heap.size w w') : Gb b w w' := ⟨h.os, h.tape, h.output, h.size, fun k hk _ => h.block k hk⟩
theorem boxA (w : World) (cs : Array Value) (t : TypeId) (o : Obj) : ((w.alloc (.cells cs t)).alloc o).heap[w.heap.size]? = some (.cells cs t (0, 0)) := by
  rw [Below.heap_alloc _ _ _ (by simp)]; exact heap_alloc_new w _
theorem boxB (w : World) (o : Obj) (cs : Array Value) (t : TypeId) : ((w.alloc o).alloc (.cells cs t)).heap[w.heap.size + 1]? = some (.cells cs t (0, 0)) := by
  have := heap_alloc_new (w.alloc o) (.cells cs t)
  simpa using this
theorem fits_I {s : Ty} (hs : Ok s) (l : List (Nat × Ty)) : fitsT tI s l = if eqT tI s then some l else none := by
  rcases hs.cases with rfl | rfl | ⟨o', h1', h2', rfl⟩ | ⟨a', ha', rfl⟩ | ⟨a', b', ha', hb', rfl⟩ | ⟨a', b', ha', hb', rfl⟩ <;> simp [fitsT, eqT]
theorem fits_B {s : Ty} (hs : Ok s) (l : List (Nat × Ty)) : fitsT tB s l = if eqT tB s then some l else none := by
  rcases hs.cases with rfl | rfl | ⟨o', h1', h2', rfl⟩ | ⟨a', ha', rfl⟩ | ⟨a', b', ha', hb', rfl⟩ | ⟨a', b', ha', hb', rfl⟩ <;> simp [fitsT, eqT]

set_option maxRecDepth 100000 in
set_option maxHeartbeats 1000000 in
theorem fits_Whole (s : Ty) (hs : Ok s) (w : World) (b : Nat) (l : List (Nat × Ty)) (h : Mp b l w) : Calls Tryd.prog 50 #[.iface 154 (.agg #[]), .iface (tg s) (ag s), .map (some b)] w (FPost b (fitsT tI s l) w) := by
  have HS : Hid (SameAt tI s) := same_any tI s okI hs
  have a1 := th_Whole
  have a2 := fun v => tm_Truth (T := 154) v (by decide)
  go_enter Tryd.func50, Tryd.ntmps50
  go_wp2_with fail
  refine (HS.out _).mono ?_
  rintro e w1 ⟨rfl, hb⟩
  go_wp2_with fail
  go_ret
  have hlt := h.lt
  rw [fits_I hs]
  refine ⟨?_, Gb.ofBelow hb, ?_⟩
  · show Ending.returned (Value.bool (eqT tI s)) = _
    cases eqT tI s <;> rfl
  · intro m hm
    split at hm
    · cases hm
      exact h.below hb hlt
    · cases hm

set_option maxRecDepth 100000 in
set_option maxHeartbeats 1000000 in
theorem fits_Truth (s : Ty) (hs : Ok s) (w : World) (b : Nat) (l : List (Nat × Ty)) (h : Mp b l w) : Calls Tryd.prog 50 #[.iface 155 (.agg #[]), .iface (tg s) (ag s), .map (some b)] w (FPost b (fitsT tB s l) w) := by
  have HS : Hid (SameAt tB s) := same_any tB s okB hs
  have a1 := fun v => tm_Whole (T := 155) v (by decide)
  have a2 := th_Truth
  go_enter Tryd.func50, Tryd.ntmps50
  go_wp2_with fail
  refine (HS.out _).mono ?_
  rintro e w1 ⟨rfl, hb⟩
  go_wp2_with fail
  go_ret
  have hlt := h.lt
  rw [fits_B hs]
  refine ⟨?_, Gb.ofBelow hb, ?_⟩
  · show Ending.returned (Value.bool (eqT tB s)) = _
    cases eqT tB s <;> rfl
  · intro m hm
    split at hm
    · cases hm
      exact h.below hb hlt
    · cases hm

set_option maxRecDepth 100000 in
set_option maxHeartbeats 1000000 in
theorem fits_var_new (o : Nat) (s : Ty) (hs : Ok s) (w : World) (b : Nat) (l : List (Nat × Ty)) (h : Mp b l w) (hl : look l o = none) : Calls Tryd.prog 50 #[.iface 157 (kv o), .iface (tg s) (ag s), .map (some b)] w (FPost b (fitsT (tV o) s l) w) := by
  have HR : Hid (fitsT (tV o) s l = some (l ++ [(o, s)])) := by
    unfold Hid; rw [fitsT_node, if_pos rfl, hl]
  have l1 := map_look_none (h.alloc (.cells #[.int .u8 ((o / 10 : Nat) : Int), .int .u8 ((o % 10 : Nat) : Int)] 157)) hl
  obtain ⟨w2, l2, h2, g2⟩ := map_put (h.alloc (.cells #[.int .u8 ((o / 10 : Nat) : Int), .int .u8 ((o % 10 : Nat) : Int)] 157)) hs hl
  unfold kv at *
  generalize ((o / 10 : Nat) : Int) = x at l1 l2 g2 ⊢
  generalize ((o % 10 : Nat) : Int) = y at l1 l2 g2 ⊢
  have a1 := fun v => tm_Whole (T := 157) v (by decide)
  have a2 := fun v => tm_Truth (T := 157) v (by decide)
  have a3 := th_Variable
  go_enter Tryd.func50, Tryd.ntmps50
  go_wp2_with fail
  go_ret
  rw [HR.out]
  refine ⟨rfl, ((Gb.refl b w).alloc _).trans g2, ?_⟩
  intro m hm
  cases hm
  exact h2

set_option maxRecDepth 100000 in
set_option maxHeartbeats 1000000 in
theorem fits_var_old (o : Nat) (s t : Ty) (hs : Ok s) (w : World) (b : Nat) (l : List (Nat × Ty)) (h : Mp b l w) (hl : look l o = some t) : Calls Tryd.prog 50 #[.iface 157 (kv o), .iface (tg s) (ag s), .map (some b)] w (FPost b (fitsT (tV o) s l) w) := by
  have HR : Hid (fitsT (tV o) s l = if eqT t s then some l else none) := by
    unfold Hid; rw [fitsT_node, if_pos rfl, hl]
  have HS : Hid (SameAt t s) := same_any t s (h.ok hl) hs
  have l1 := map_look_some (h.alloc (.cells #[.int .u8 ((o / 10 : Nat) : Int), .int .u8 ((o % 10 : Nat) : Int)] 157)) hl
  have hA := h.alloc (.cells #[.int .u8 ((o / 10 : Nat) : Int), .int .u8 ((o % 10 : Nat) : Int)] 157)
  unfold kv at *
  generalize ((o / 10 : Nat) : Int) = x at l1 hA ⊢
  generalize ((o % 10 : Nat) : Int) = y at l1 hA ⊢
  have a1 := fun v => tm_Whole (T := 157) v (by decide)
  have a2 := fun v => tm_Truth (T := 157) v (by decide)
  have a3 := th_Variable
  go_enter Tryd.func50, Tryd.ntmps50
  go_wp2_with fail
  refine (HS.out _).mono ?_
  rintro e w1 ⟨rfl, hb⟩
  go_wp2_with fail
  go_ret
  rw [HR.out]
  refine ⟨?_, ((Gb.refl b w).alloc _).trans (Gb.ofBelow hb), ?_⟩
  · show Ending.returned (Value.bool (eqT t s)) = _
    cases eqT t s <;> rfl
  · intro m hm
    split at hm
    · cases hm
      exact hA.below hb hA.lt
    · cases hm

set_option maxRecDepth 100000 in
set_option maxHeartbeats 1000000 in
theorem fits_List_miss (Ta : TypeId) (va : Value) (T : TypeId) (v : Value) (h : T ≠ 160) (w : World) (b : Nat) : Calls Tryd.prog 50 #[.iface 160 (.agg #[.iface Ta va]), .iface T v, .map (some b)] w (FPost b none w) := by
  have z := fun w => tm_List v h w
  have a1 := fun v => tm_Whole (T := 160) v (by decide)
  have a2 := fun v => tm_Truth (T := 160) v (by decide)
  have a3 := fun v => tm_Variable (T := 160) v (by decide)
  have a4 := th_List
  go_enter Tryd.func50, Tryd.ntmps50
  go_wp2_with fail
  go_ret
  exact ⟨rfl, Gb.ofBelow below_one, fun m hm => by cases hm⟩

set_option maxRecDepth 100000 in
set_option maxHeartbeats 1000000 in
theorem fits_Pair_miss (Ta Tb : TypeId) (va vb : Value) (T : TypeId) (v : Value) (h : T ≠ 163) (w : World) (b : Nat) : Calls Tryd.prog 50 #[.iface 163 (.agg #[.iface Ta va, .iface Tb vb]), .iface T v, .map (some b)] w (FPost b none w) := by
  have z := fun w => tm_Pair v h w
  have a1 := fun v => tm_Whole (T := 163) v (by decide)
  have a2 := fun v => tm_Truth (T := 163) v (by decide)
  have a3 := fun v => tm_Variable (T := 163) v (by decide)
  have a4 := fun v => tm_List (T := 163) v (by decide)
  have a5 := th_Pair
  go_enter Tryd.func50, Tryd.ntmps50
  go_wp2_with fail
  go_ret
  exact ⟨rfl, Gb.ofBelow below_one, fun m hm => by cases hm⟩

set_option maxRecDepth 100000 in
set_option maxHeartbeats 1000000 in
theorem fits_Function_miss (Ta Tb : TypeId) (va vb : Value) (T : TypeId) (v : Value) (h : T ≠ 152) (w : World) (b : Nat) : Calls Tryd.prog 50 #[.iface 152 (.agg #[.iface Ta va, .iface Tb vb]), .iface T v, .map (some b)] w (FPost b none w) := by
  have z := fun w => tm_Function v h w
  have a1 := fun v => tm_Whole (T := 152) v (by decide)
  have a2 := fun v => tm_Truth (T := 152) v (by decide)
  have a3 := fun v => tm_Variable (T := 152) v (by decide)
  have a4 := fun v => tm_List (T := 152) v (by decide)
  have a5 := fun v => tm_Pair (T := 152) v (by decide)
  have a6 := th_Function
  go_enter Tryd.func50, Tryd.ntmps50
  go_wp2_with fail
  go_ret
  exact ⟨rfl, Gb.ofBelow below_one, fun m hm => by cases hm⟩

set_option maxRecDepth 100000 in
set_option maxHeartbeats 1000000 in
theorem fits_List_hit (a c : Ty) (ih : FitsAt a c) (w : World) (b : Nat) (l : List (Nat × Ty)) (h : Mp b l w) : Calls Tryd.prog 50 #[.iface 160 (.agg #[.iface (tg a) (ag a)]), .iface 160 (.agg #[.iface (tg c) (ag c)]), .map (some b)] w (FPost b (fitsT a c l) w) := by
  have IH : Hid (FitsAt a c) := ih
  have hA := (h.alloc (.cells #[.iface (tg a) (ag a)] 160)).alloc (.cells #[.iface (tg c) (ag c)] 160)
  clear ih
  have a1 := fun v => tm_Whole (T := 160) v (by decide)
  have a2 := fun v => tm_Truth (T := 160) v (by decide)
  have a3 := fun v => tm_Variable (T := 160) v (by decide)
  have a4 := th_List
  go_enter Tryd.func50, Tryd.ntmps50
  go_wp2_with fail
  refine (IH.out _ b l hA).mono ?_
  rintro e w1 ⟨rfl, hb, hm⟩
  go_wp2_with fail
  go_ret
  exact ⟨rfl, (((Gb.refl b w).alloc _).alloc _).trans hb, hm⟩

set_option maxRecDepth 100000 in
set_option maxHeartbeats 1000000 in
theorem fits_Pair_hit (a a' c d : Ty) (ih : FitsAt a c) (ih' : FitsAt a' d) (w : World) (b : Nat) (l : List (Nat × Ty)) (h : Mp b l w) : Calls Tryd.prog 50 #[.iface 163 (.agg #[.iface (tg a) (ag a), .iface (tg a') (ag a')]), .iface 163 (.agg #[.iface (tg c) (ag c), .iface (tg d) (ag d)]), .map (some b)] w (FPost b (fits2 a c a' d l) w) := by
  have IH : Hid (FitsAt a c) := ih
  have IH' : Hid (FitsAt a' d) := ih'
  have hA := (h.alloc (.cells #[.iface (tg a) (ag a), .iface (tg a') (ag a')] 163)).alloc (.cells #[.iface (tg c) (ag c), .iface (tg d) (ag d)] 163)
  have hlt := h.lt
  clear ih ih'
  have a1 := fun v => tm_Whole (T := 163) v (by decide)
  have a2 := fun v => tm_Truth (T := 163) v (by decide)
  have a3 := fun v => tm_Variable (T := 163) v (by decide)
  have a4 := fun v => tm_List (T := 163) v (by decide)
  have a5 := th_Pair
  go_enter Tryd.func50, Tryd.ntmps50
  go_wp2_with fail
  refine (IH.out _ b l hA).mono ?_
  rintro e w1 ⟨rfl, hb, hm⟩
  have hg := (((Gb.refl b w).alloc _).alloc _).trans hb
  cases hq : fitsT a c l with
  | none =>
    have HQ : Hid (fitsT a c l = none) := hq
    clear hq
    go_wp2_with fail
    go_ret
    unfold fits2
    rw [HQ.out]
    exact ⟨rfl, hg, fun m hm => by cases hm⟩
  | some m =>
    have hm2 := hm m hq
    have HQ : Hid (fitsT a c l = some m) := hq
    clear hq hm
    have c1 : w1.cell? ⟨w.heap.size, 1, none⟩ = some (.iface (tg a') (ag a')) := by rw [Lib.cell_of_heap (hb.old (boxA w _ _ _) (by omega))]; rfl
    have c2 : w1.cell? ⟨w.heap.size + 1, 1, none⟩ = some (.iface (tg d) (ag d)) := by rw [Lib.cell_of_heap (hb.old (boxB w _ _ _) (by omega))]; rfl
    go_wp2_with fail
    refine (IH'.out _ b m hm2).mono ?_
    rintro e w2 ⟨rfl, hb3, hm3⟩
    go_wp2_with fail
    go_ret
    unfold fits2
    rw [HQ.out]
    exact ⟨rfl, hg.trans hb3, hm3⟩

set_option maxRecDepth 100000 in
set_option maxHeartbeats 1000000 in
theorem fits_Function_hit (a a' c d : Ty) (ih : FitsAt a c) (ih' : FitsAt a' d) (w : World) (b : Nat) (l : List (Nat × Ty)) (h : Mp b l w) : Calls Tryd.prog 50 #[.iface 152 (.agg #[.iface (tg a) (ag a), .iface (tg a') (ag a')]), .iface 152 (.agg #[.iface (tg c) (ag c), .iface (tg d) (ag d)]), .map (some b)] w (FPost b (fits2 a c a' d l) w) := by
  have IH : Hid (FitsAt a c) := ih
  have IH' : Hid (FitsAt a' d) := ih'
  have hA := (h.alloc (.cells #[.iface (tg a) (ag a), .iface (tg a') (ag a')] 152)).alloc (.cells #[.iface (tg c) (ag c), .iface (tg d) (ag d)] 152)
  have hlt := h.lt
  clear ih ih'
  have a1 := fun v => tm_Whole (T := 152) v (by decide)
  have a2 := fun v => tm_Truth (T := 152) v (by decide)
  have a3 := fun v => tm_Variable (T := 152) v (by decide)
  have a4 := fun v => tm_List (T := 152) v (by decide)
  have a5 := fun v => tm_Pair (T := 152) v (by decide)
  have a6 := th_Function
  go_enter Tryd.func50, Tryd.ntmps50
  go_wp2_with fail
  refine (IH.out _ b l hA).mono ?_
  rintro e w1 ⟨rfl, hb, hm⟩
  have hg := (((Gb.refl b w).alloc _).alloc _).trans hb
  cases hq : fitsT a c l with
  | none =>
    have HQ : Hid (fitsT a c l = none) := hq
    clear hq
    go_wp2_with fail
    go_ret
    unfold fits2
    rw [HQ.out]
    exact ⟨rfl, hg, fun m hm => by cases hm⟩
  | some m =>
    have hm2 := hm m hq
    have HQ : Hid (fitsT a c l = some m) := hq
    clear hq hm
    have c1 : w1.cell? ⟨w.heap.size, 1, none⟩ = some (.iface (tg a') (ag a')) := by rw [Lib.cell_of_heap (hb.old (boxA w _ _ _) (by omega))]; rfl
    have c2 : w1.cell? ⟨w.heap.size + 1, 1, none⟩ = some (.iface (tg d) (ag d)) := by rw [Lib.cell_of_heap (hb.old (boxB w _ _ _) (by omega))]; rfl
    go_wp2_with fail
    refine (IH'.out _ b m hm2).mono ?_
    rintro e w2 ⟨rfl, hb3, hm3⟩
    go_wp2_with fail
    go_ret
    unfold fits2
    rw [HQ.out]
    exact ⟨rfl, hg.trans hb3, hm3⟩

theorem fits_any : ∀ g s : Ty, Ok g → Ok s → FitsAt g s := by
  intro g
  induction g with
  | nil => intro s hg; exact hg.elim
  | node g o u a a' iha ihb =>
    intro s hg hs w b l h
    cases u
    rcases hg with ⟨rfl, rfl, rfl, rfl⟩ | ⟨rfl, rfl, rfl, rfl⟩ | ⟨rfl, ho, rfl, rfl⟩ | ⟨rfl, rfl, ha, rfl⟩ | ⟨rfl, rfl, ha, hb⟩ | ⟨rfl, rfl, ha, hb⟩
    · exact fits_Whole s hs w b l h
    · exact fits_Truth s hs w b l h
    · cases hl : look l o with
      | none => exact fits_var_new o s hs w b l h hl
      | some t => exact fits_var_old o s t hs w b l h hl
    · rcases hs.cases with rfl | rfl | ⟨o', h1', h2', rfl⟩ | ⟨c, hc, rfl⟩ | ⟨c, d, hc, hd, rfl⟩ | ⟨c, d, hc, hd, rfl⟩
      iterate 3 exact fits_List_miss _ _ _ _ (by simp [tg]) w b
      · exact fits_List_hit _ _ (iha c ha hc) w b l h
      iterate 2 exact fits_List_miss _ _ _ _ (by simp [tg]) w b
    · rcases hs.cases with rfl | rfl | ⟨o', h1', h2', rfl⟩ | ⟨c, hc, rfl⟩ | ⟨c, d, hc, hd, rfl⟩ | ⟨c, d, hc, hd, rfl⟩
      iterate 4 exact fits_Pair_miss _ _ _ _ _ _ (by simp [tg]) w b
      · exact fits_Pair_hit _ _ _ _ (iha c ha hc) (ihb d hb hd) w b l h
      · exact fits_Pair_miss _ _ _ _ _ _ (by simp [tg]) w b
    · rcases hs.cases with rfl | rfl | ⟨o', h1', h2', rfl⟩ | ⟨c, hc, rfl⟩ | ⟨c, d, hc, hd, rfl⟩ | ⟨c, d, hc, hd, rfl⟩
      iterate 5 exact fits_Function_miss _ _ _ _ _ _ (by simp [tg]) w b
      · exact fits_Function_hit _ _ _ _ (iha c ha hc) (ihb d hb hd) w b l h

theorem kinst_any (g s : Ty) (hg : Ok g) (hs : Ok s) (w : World) : Calls Tryd.prog 27 #[.iface (tg g) (ag g), .iface (tg s) (ag s)] w fun e w' => e = .returned (.bool (inst g s)) ∧ Below w.heap.size w w' := by
  have HF : Hid (FitsAt g s) := fits_any g s hg hs
  have hM : Mp w.heap.size [] (w.alloc (.map #[] 0)) := ⟨#[], 0, heap_alloc_new w _, rfl, fun p hp => by cases hp⟩
  have hmm := @run_makeMap Tryd.prog
  go_enter Tryd.func27, Tryd.ntmps27
  go_wp2_with fail
  refine (HF.out _ _ _ hM).mono ?_
  rintro e w1 ⟨rfl, hb, _⟩
  go_wp2_with fail
  go_ret
  exact ⟨rfl, hb.belowK⟩
end Go.Proofs.YtejcbbhengloiaaDoor
