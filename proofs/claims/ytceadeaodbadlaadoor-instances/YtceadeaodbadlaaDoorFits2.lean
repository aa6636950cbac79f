import Derived.Test.YtceadeaodbadlaaDoorKind2
import Derived.Test.YtceadeaodbadlaaDoorSame
import Derived.Test.YtceadeaodbadlaaDoorFits
set_option linter.unusedVariables false
set_option linter.unusedSimpArgs false
namespace Go.Proofs.YtceadeaodbadlaaDoor
open Go.RowKit

set_option maxRecDepth 100000 in
set_option maxHeartbeats 1000000 in
theorem fits_alike {g s : Ty} (A : AlikeFits g s) {T : TypeId} {x : Value} (hT : T ≠ 92) (w : World) (b : Nat) (l : List (Nat × Ty)) (v' : Value) (h : Mp b l w) (hv : Tv w g (.iface T x)) (hv' : Tv w s v') :
    Calls Tryd.prog 23 #[.iface T x, v', .map (some b)] w (MPost b (fitsT g s l) w) := by
  have a1 := fun w => tm_Variable x hT w
  have BB : Below w.heap.size w ((w.alloc (.cells #[.map (some b)] 67)).alloc (.cells #[.int .u8 0, .int .u8 0] 92)) := ((Below.refl _ w).alloc (Nat.le_refl _) _).alloc (by simp) _
  have cB : Bx w.heap.size b ((w.alloc (.cells #[.map (some b)] 67)).alloc (.cells #[.int .u8 0, .int .u8 0] 92)) := by
    unfold Bx
    rw [World.cell?_alloc_lt _ _ _ (by simp)]
    simp
  have H := A _ w.heap.size b l _ v' (h.below BB) (hv.below BB) (hv'.below BB) cB
  obtain ⟨T', x', rfl⟩ := hv'.iface
  clear A h hv hv' cB
  generalize fitsT g s l = r at *
  go_enter Tryd.func23, Tryd.ntmps23
  go_wp2_with fail
  refine H.mono ?_
  rintro e w1 ⟨rfl, hg, hm⟩
  go_wp2_with fail
  go_ret
  exact ⟨rfl, (Gb.ofBelow BB).trans hg, hm⟩

set_option maxRecDepth 100000 in
set_option maxHeartbeats 1000000 in
theorem fits_var_new (o : Nat) (s : Ty) (hs : Ok s) (w : World) (b : Nat) (l : List (Nat × Ty)) (v' : Value) (h : Mp b l w) (h' : Tv w s v') (hl : look l o = none) : Calls Tryd.prog 23 #[viV o, v', .map (some b)] w (MPost b (fitsT (tV o) s l) w) := by
  have HR : Hid (fitsT (tV o) s l = some (l ++ [(o, s)])) := by
    unfold Hid; rw [fitsT_node, if_pos rfl, hl]
  have BB : Below w.heap.size w ((w.alloc (.cells #[.map (some b)] 67)).alloc (.cells #[.int .u8 ((o / 10 : Nat) : Int), .int .u8 ((o % 10 : Nat) : Int)] 92)) := ((Below.refl _ w).alloc (Nat.le_refl _) _).alloc (by simp) _
  have l1 := map_look_none (h.below BB) hl
  obtain ⟨w2, l2, h2, g2⟩ := map_put (h.below BB) hs (h'.below BB) hl
  have cB : ((w.alloc (.cells #[.map (some b)] 67)).alloc (.cells #[.int .u8 ((o / 10 : Nat) : Int), .int .u8 ((o % 10 : Nat) : Int)] 92)).cell? ⟨w.heap.size, 0, none⟩ = some (.map (some b)) := by
    rw [World.cell?_alloc_lt _ _ _ (by simp)]
    simp
  obtain ⟨T, z, rfl⟩ := h'.iface
  unfold viV
  unfold kv at *
  generalize ((o / 10 : Nat) : Int) = x at l1 l2 g2 BB cB ⊢
  generalize ((o % 10 : Nat) : Int) = y at l1 l2 g2 BB cB ⊢
  have a3 := th_Variable
  clear h h' hs
  go_enter Tryd.func23, Tryd.ntmps23
  go_wp2_with fail
  go_ret
  rw [HR.out]
  refine ⟨rfl, (Gb.ofBelow BB).trans g2, ?_⟩
  intro m hm
  cases hm
  exact h2

set_option maxRecDepth 100000 in
set_option maxHeartbeats 1000000 in
theorem fits_var_old (o : Nat) (s t : Ty) (hs : Ok s) (w : World) (b : Nat) (l : List (Nat × Ty)) (v' : Value) (h : Mp b l w) (h' : Tv w s v') (hl : look l o = some t) : Calls Tryd.prog 23 #[viV o, v', .map (some b)] w (MPost b (fitsT (tV o) s l) w) := by
  have HR : Hid (fitsT (tV o) s l = if eqT t s then some l else none) := by
    unfold Hid; rw [fitsT_node, if_pos rfl, hl]
  have BB : Below w.heap.size w ((w.alloc (.cells #[.map (some b)] 67)).alloc (.cells #[.int .u8 ((o / 10 : Nat) : Int), .int .u8 ((o % 10 : Nat) : Int)] 92)) := ((Below.refl _ w).alloc (Nat.le_refl _) _).alloc (by simp) _
  have hA := h.below BB
  obtain ⟨v2, l1, ho2, t2⟩ := map_look_some hA hl
  have HS := same_any t s v2 v' _ ho2 hs t2 (h'.below BB)
  have cB : ((w.alloc (.cells #[.map (some b)] 67)).alloc (.cells #[.int .u8 ((o / 10 : Nat) : Int), .int .u8 ((o % 10 : Nat) : Int)] 92)).cell? ⟨w.heap.size, 0, none⟩ = some (.map (some b)) := by
    rw [World.cell?_alloc_lt _ _ _ (by simp)]
    simp
  obtain ⟨T, z, rfl⟩ := h'.iface
  obtain ⟨T2, z2, rfl⟩ := t2.iface
  clear h h' t2 ho2
  unfold viV
  unfold kv at *
  generalize ((o / 10 : Nat) : Int) = x at l1 hA HS BB cB ⊢
  generalize ((o % 10 : Nat) : Int) = y at l1 hA HS BB cB ⊢
  have a3 := th_Variable
  go_enter Tryd.func23, Tryd.ntmps23
  go_wp2_with fail
  refine HS.mono ?_
  rintro e w1 ⟨rfl, hb⟩
  go_wp2_with fail
  go_ret
  rw [HR.out]
  refine ⟨?_, (Gb.ofBelow BB).trans (Gb.ofBelow hb), ?_⟩
  · show Ending.returned (Value.bool (eqT t s)) = _
    cases eqT t s <;> rfl
  · intro m hm
    split at hm
    · cases hm
      exact hA.below hb
    · cases hm

theorem fits_any : ∀ g s : Ty, Ok g → Ok s → FitsAt g s := by
  intro g
  induction g with
  | nil => intro s hg; exact hg.elim
  | node g o u a a' iha ihb =>
    intro s hg hs w b l v v' h hv hv'
    cases u
    rcases hg with ⟨rfl, rfl, rfl, rfl⟩ | ⟨rfl, rfl, rfl, rfl⟩ | ⟨rfl, ho, rfl, rfl⟩ | ⟨rfl, rfl, ha, rfl⟩ | ⟨rfl, rfl, ha, hb⟩ | ⟨rfl, rfl, ha, hb⟩
    · have e := Tv.isI hv; subst e; exact fits_alike (alike_fits_I hs) (by decide) w b l v' h hv hv'
    · have e := Tv.isB hv; subst e; exact fits_alike (alike_fits_B hs) (by decide) w b l v' h hv hv'
    · rw [Tv.isV hv]
      cases hl : look l o with
      | none => exact fits_var_new o s hs w b l v' h hv' hl
      | some t => exact fits_var_old o s t hs w b l v' h hv' hl
    · obtain ⟨q, x, rfl, hq, hx⟩ := Tv.isL hv
      exact fits_alike (alike_fits_L hs (fun c hc => iha c ha hc)) (by decide) w b l v' h hv hv'
    · obtain ⟨q, x, x2, rfl, hq, hx, hx2⟩ := Tv.isP hv
      exact fits_alike (alike_fits_P hs (fun c hc => iha c ha hc) (fun d hd => ihb d hb hd)) (by decide) w b l v' h hv hv'
    · obtain ⟨q, x, x2, rfl, hq, hx, hx2⟩ := Tv.isF hv
      exact fits_alike (alike_fits_F hs (fun c hc => iha c ha hc) (fun d hd => ihb d hb hd)) (by decide) w b l v' h hv hv'


set_option maxHeartbeats 1000000 in
theorem kinst_any (g s : Ty) (v v' : Value) (w : World) (hg : Ok g) (hs : Ok s) (h : Tv w g v) (h' : Tv w s v') : Calls Tryd.prog 14 #[v, v'] w fun e w' => e = .returned (.bool (inst g s)) ∧ Below w.heap.size w w' := by
  have hM : Mp w.heap.size [] (w.alloc (.map #[] 0)) := ⟨#[], 0, [], heap_alloc_new w _, rfl, trivial⟩
  have b1 : Below w.heap.size w (w.alloc (.map #[] 0)) := (Below.refl _ w).alloc (Nat.le_refl _) _
  have HF := fits_any g s hg hs _ _ _ v v' hM (h.below b1) (h'.below b1)
  have hmm := @run_makeMap Tryd.prog
  obtain ⟨T, x, rfl⟩ := h.iface
  obtain ⟨T', x', rfl⟩ := h'.iface
  clear h h'
  go_enter Tryd.func14, Tryd.ntmps14
  go_wp2_with fail
  refine HF.mono ?_
  rintro e w1 ⟨rfl, hb, _⟩
  go_wp2_with fail
  go_ret
  exact ⟨rfl, Gb.belowK hb⟩
end Go.Proofs.YtceadeaodbadlaaDoor
