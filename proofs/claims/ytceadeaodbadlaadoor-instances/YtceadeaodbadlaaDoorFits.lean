import Derived.Test.YtceadeaodbadlaaDoorMaps
set_option linter.unusedVariables false
set_option linter.unusedSimpArgs false
namespace Go.Proofs.YtceadeaodbadlaaDoor
open Go.RowKit

def MPost (b : Nat) (r : Option (List (Nat × Ty))) (w : World) (e : Ending) (w' : World) : Prop :=
  e = .returned (.bool r.isSome) ∧ Gb b w w' ∧ ∀ m, r = some m → Mp b m w'
def FitsAt (g s : Ty) : Prop := ∀ (w : World) (b : Nat) (l : List (Nat × Ty)) (v v' : Value), Mp b l w → Tv w g v → Tv w s v' →
  Calls Tryd.prog 23 #[v, v', .map (some b)] w (MPost b (fitsT g s l) w)

def fits2 (a c a' d : Ty) (l : List (Nat × Ty)) : Option (List (Nat × Ty)) := match fitsT a c l with | none => none | some m => fitsT a' d m
theorem Gb.ofBelow {b : Nat} {w w' : World} (h : Below w.heap.size w w') : Gb b w w' := ⟨h.os, h.tape, h.output, h.size, fun k hk _ => h.block k hk⟩
theorem Gb.drew {b : Nat} {x y : World} (h : Gb b x y) : Gb b x y.drew := ⟨h.os, h.tape, h.output, h.size, h.block⟩
theorem Gb.undrew {b : Nat} {x y : World} (h : Gb b x.drew y) : Gb b x y := ⟨h.os, h.tape, h.output, h.size, h.block⟩
theorem Tv.drew {w : World} {t : Ty} {v : Value} (h : Tv w t v) : Tv w.drew t v := Tv.kept (w := w) (w' := w.drew) (fun _ _ _ _ _ h => h) t v h
theorem fits_I {s : Ty} (hs : Ok s) (l : List (Nat × Ty)) : fitsT tI s l = if eqT tI s then some l else none := by
  rcases hs.cases with rfl | rfl | ⟨o', h1', h2', rfl⟩ | ⟨a', ha', rfl⟩ | ⟨a', b', ha', hb', rfl⟩ | ⟨a', b', ha', hb', rfl⟩ <;> simp [fitsT, eqT]
theorem fits_B {s : Ty} (hs : Ok s) (l : List (Nat × Ty)) : fitsT tB s l = if eqT tB s then some l else none := by
  rcases hs.cases with rfl | rfl | ⟨o', h1', h2', rfl⟩ | ⟨a', ha', rfl⟩ | ⟨a', b', ha', hb', rfl⟩ | ⟨a', b', ha', hb', rfl⟩ <;> simp [fitsT, eqT]

/-- The variable that the function literal captures. -/
def Bx (tb b : Nat) (w : World) : Prop := w.cell? ⟨tb, 0, none⟩ = some (.map (some b))
theorem Bx.gb {tb b : Nat} {l : List (Nat × Ty)} {w w' : World} (h : Bx tb b w) (hm : Mp b l w) (g : Gb b w w') : Bx tb b w' := by
  obtain ⟨es, cl, m, hb, _⟩ := hm
  have hne : tb ≠ b := by
    rintro rfl
    simp [Bx, World.cell?, hb] at h
  have hlt : tb < w.heap.size := World.block_lt_of_cell? w ⟨tb, 0, none⟩ h
  unfold Bx
  rw [World.cell?_of_block (w := w) (a := ⟨tb, 0, none⟩) (g.block tb hlt (by simpa using hne))]
  exact h

set_option maxRecDepth 100000 in
set_option maxHeartbeats 1000000 in
theorem fits1_any (g s : Ty) (ih : FitsAt g s) (tb b : Nat) (l : List (Nat × Ty)) (w : World) (v v' : Value) (hm : Mp b l w) (h : Tv w g v) (h' : Tv w s v') (hc : Bx tb b w) :
    Calls Tryd.prog 43 #[v, v', .pointer (some ⟨tb, 0, none⟩)] w (MPost b (fitsT g s l) w) := by
  have IH := ih w b l v v' hm h h'
  have c0 : w.cell? ⟨tb, 0, none⟩ = some (.map (some b)) := hc
  obtain ⟨T, x, rfl⟩ := h.iface
  obtain ⟨T', x', rfl⟩ := h'.iface
  clear ih hm h h' hc
  generalize fitsT g s l = r at *
  go_enter Tryd.func43, Tryd.ntmps43
  go_wp2_with fail
  refine IH.mono ?_
  rintro e w1 ⟨rfl, hg, hm⟩
  go_wp2_with fail
  go_ret
  exact ⟨rfl, hg, hm⟩
theorem fits1_entered : Entered 43 := enters_of Tryd.func43 (by kernel_rfl) rfl

def AlikeFits (g s : Ty) : Prop := ∀ (w : World) (tb b : Nat) (l : List (Nat × Ty)) (v v' : Value), Mp b l w → Tv w g v → Tv w s v' → Bx tb b w →
  Calls Tryd.prog 42 #[v, v', .func (.func 43) #[] #[.pointer (some ⟨tb, 0, none⟩)]] w (MPost b (fitsT g s l) w)

theorem alike_fits_leaf {g s : Ty} {T : TypeId} {x : Value} (h1 : T ≠ 126) (h2 : T ≠ 118) (h3 : T ≠ 89) (c : Bool)
    (w : World) (tb b : Nat) (l : List (Nat × Ty)) (v' : Value) (hm : Mp b l w) (h' : Tv w s v') (he : (binOp .eql 43 (.iface T x) v').run Tryd.prog w = .ok (.bool c) w) (hf : fitsT g s l = if c then some l else none) :
    Calls Tryd.prog 42 #[.iface T x, v', .func (.func 43) #[] #[.pointer (some ⟨tb, 0, none⟩)]] w (MPost b (fitsT g s l) w) := by
  refine (alike_leaf x v' _ c w h'.iface h1 h2 h3 he).mono ?_
  rintro e w' ⟨rfl, rfl⟩
  rw [hf]
  refine ⟨by cases c <;> rfl, Gb.refl b _, ?_⟩
  intro m e
  cases c
  · cases e
  · cases e; exact hm
theorem alike_fits_miss {g s : Ty} {l : List (Nat × Ty)} (hf : fitsT g s l = none) {b : Nat} {w : World} {e : Ending} {w' : World} (h : e = .returned (.bool false) ∧ ∃ n, w' = w.drewN n) : MPost b (fitsT g s l) w e w' := by
  obtain ⟨rfl, n, rfl⟩ := h
  rw [hf]
  exact ⟨rfl, (Gb.refl b w).drewN _, fun m hm => by cases hm⟩

theorem alike_fits_I {s : Ty} (hs : Ok s) : AlikeFits tI s := by
  intro w tb b l v v' hm hv hv' hc
  rw [Tv.isI hv]
  rcases hs.cases with rfl | rfl | ⟨o', h1', h2', rfl⟩ | ⟨a', ha', rfl⟩ | ⟨a', b', ha', hb', rfl⟩ | ⟨a', b', ha', hb', rfl⟩
  · rw [hv'.isI]; exact alike_fits_leaf (by decide) (by decide) (by decide) true w tb b l viI hm (by rw [← hv'.isI]; exact hv') (eql_I w) (by rw [fits_I okI]; simp [eqT])
  · rw [hv'.isB]; exact alike_fits_leaf (by decide) (by decide) (by decide) false w tb b l viB hm (by rw [← hv'.isB]; exact hv') (eql_types _ _ w (by decide)) (by rw [fits_I okB]; simp [eqT])
  · have e := hv'.isV; subst e; exact alike_fits_leaf (by decide) (by decide) (by decide) false w tb b l _ hm hv' (eql_types _ _ w (by decide)) (by rw [fits_I hs]; simp [eqT])
  · obtain ⟨q', y, rfl, _⟩ := hv'.isL; exact alike_fits_leaf (by decide) (by decide) (by decide) false w tb b l _ hm hv' (eql_types _ _ w (by decide)) (by rw [fits_I hs]; simp [eqT])
  · obtain ⟨q', y, y2, rfl, _⟩ := hv'.isP; exact alike_fits_leaf (by decide) (by decide) (by decide) false w tb b l _ hm hv' (eql_types _ _ w (by decide)) (by rw [fits_I hs]; simp [eqT])
  · obtain ⟨q', y, y2, rfl, _⟩ := hv'.isF; exact alike_fits_leaf (by decide) (by decide) (by decide) false w tb b l _ hm hv' (eql_types _ _ w (by decide)) (by rw [fits_I hs]; simp [eqT])
theorem alike_fits_B {s : Ty} (hs : Ok s) : AlikeFits tB s := by
  intro w tb b l v v' hm hv hv' hc
  rw [Tv.isB hv]
  rcases hs.cases with rfl | rfl | ⟨o', h1', h2', rfl⟩ | ⟨a', ha', rfl⟩ | ⟨a', b', ha', hb', rfl⟩ | ⟨a', b', ha', hb', rfl⟩
  · rw [hv'.isI]; exact alike_fits_leaf (by decide) (by decide) (by decide) false w tb b l viI hm (by rw [← hv'.isI]; exact hv') (eql_types _ _ w (by decide)) (by rw [fits_B okI]; simp [eqT])
  · rw [hv'.isB]; exact alike_fits_leaf (by decide) (by decide) (by decide) true w tb b l viB hm (by rw [← hv'.isB]; exact hv') (eql_B w) (by rw [fits_B okB]; simp [eqT])
  · have e := hv'.isV; subst e; exact alike_fits_leaf (by decide) (by decide) (by decide) false w tb b l _ hm hv' (eql_types _ _ w (by decide)) (by rw [fits_B hs]; simp [eqT])
  · obtain ⟨q', y, rfl, _⟩ := hv'.isL; exact alike_fits_leaf (by decide) (by decide) (by decide) false w tb b l _ hm hv' (eql_types _ _ w (by decide)) (by rw [fits_B hs]; simp [eqT])
  · obtain ⟨q', y, y2, rfl, _⟩ := hv'.isP; exact alike_fits_leaf (by decide) (by decide) (by decide) false w tb b l _ hm hv' (eql_types _ _ w (by decide)) (by rw [fits_B hs]; simp [eqT])
  · obtain ⟨q', y, y2, rfl, _⟩ := hv'.isF; exact alike_fits_leaf (by decide) (by decide) (by decide) false w tb b l _ hm hv' (eql_types _ _ w (by decide)) (by rw [fits_B hs]; simp [eqT])
set_option maxRecDepth 100000 in
set_option maxHeartbeats 1000000 in
theorem alike_fits_L {a s : Ty} (hs : Ok s) (iha : ∀ c, Ok c → FitsAt a c) : AlikeFits (tL a) s := by
  intro w tb b l v v' hm hv hv' hc
  obtain ⟨q, x, rfl, hq, hx⟩ := Tv.isL hv
  rcases hs.cases with rfl | rfl | ⟨o', h1', h2', rfl⟩ | ⟨c, hc', rfl⟩ | ⟨c, d, hc', hd', rfl⟩ | ⟨c, d, hc', hd', rfl⟩
  · rw [hv'.isI]; exact (alikeL_miss q _ _ w (by decide)).mono fun e w' h => alike_fits_miss (by simp [fitsT]) h
  · rw [hv'.isB]; exact (alikeL_miss q _ _ w (by decide)).mono fun e w' h => alike_fits_miss (by simp [fitsT]) h
  · rw [hv'.isV]; exact (alikeL_miss q _ _ w (by decide)).mono fun e w' h => alike_fits_miss (by simp [fitsT]) h
  · obtain ⟨q', y, rfl, hq', hy⟩ := hv'.isL
    have e0 : fitsT (tL a) (tL c) l = fitsT a c l := by simp [fitsT]
    rw [e0]
    have I1 := fits1_any a c (iha c hc') tb b l w.drew x y hm.drew hx.drew hy.drew hc
    obtain ⟨T, x', rfl⟩ := hx.iface
    obtain ⟨T', y', rfl⟩ := hy.iface
    have KP : ∀ w1, Gb b w.drew w1 → w1.cell? ⟨q, 0, none⟩ = some (.iface T x') ∧ w1.cell? ⟨q', 0, none⟩ = some (.iface T' y') := fun w1 g => by
      have K1 := hm.kept g.undrew
      exact ⟨by rw [Lib.cell_of_heap (K1 q _ _ (.inl rfl) hq)]; rfl, by rw [Lib.cell_of_heap (K1 q' _ _ (.inl rfl) hq')]; rfl⟩
    refine (alikeL_hit 43 #[] #[.pointer (some ⟨tb, 0, none⟩)] fits1_entered w q q' T T' x' y' (fun r w1 => MPost b (fitsT a c l) w.drew (.returned (.bool r)) w1) (by rw [Lib.cell_of_heap hq]; rfl) (by rw [Lib.cell_of_heap hq']; rfl) ?_ ?_).mono ?_
    · rw [args_last]
      refine I1.mono ?_
      rintro e w1 h1
      exact ⟨_, h1.1, by obtain ⟨h1, h2⟩ := h1; exact ⟨rfl, h2⟩⟩
    · rintro r w1 ⟨_, g, _⟩; exact KP w1 g
    · rintro e w1 ⟨r, rfl, h1, g, h2⟩; exact ⟨h1, g.undrew, h2⟩
  · obtain ⟨q', y, y2, rfl, _⟩ := hv'.isP; exact (alikeL_miss q _ _ w (by decide)).mono fun e w' h => alike_fits_miss (by simp [fitsT]) h
  · obtain ⟨q', y, y2, rfl, _⟩ := hv'.isF; exact (alikeL_miss q _ _ w (by decide)).mono fun e w' h => alike_fits_miss (by simp [fitsT]) h

set_option maxRecDepth 100000 in
set_option maxHeartbeats 1000000 in
theorem alike_fits_P {a a' s : Ty} (hs : Ok s) (iha : ∀ c, Ok c → FitsAt a c) (ihb : ∀ d, Ok d → FitsAt a' d) : AlikeFits (tP a a') s := by
  intro w tb b l v v' hm hv hv' hc
  obtain ⟨q, x, x2, rfl, hq, hx, hx2⟩ := Tv.isP hv
  rcases hs.cases with rfl | rfl | ⟨o', h1', h2', rfl⟩ | ⟨c, hc', rfl⟩ | ⟨c, d, hc', hd', rfl⟩ | ⟨c, d, hc', hd', rfl⟩
  · rw [hv'.isI]; exact (alikeP_miss q _ _ w (by decide)).mono fun e w' h => alike_fits_miss (by simp [fitsT]) h
  · rw [hv'.isB]; exact (alikeP_miss q _ _ w (by decide)).mono fun e w' h => alike_fits_miss (by simp [fitsT]) h
  · rw [hv'.isV]; exact (alikeP_miss q _ _ w (by decide)).mono fun e w' h => alike_fits_miss (by simp [fitsT]) h
  · obtain ⟨q', y, rfl, _⟩ := hv'.isL; exact (alikeP_miss q _ _ w (by decide)).mono fun e w' h => alike_fits_miss (by simp [fitsT]) h
  · obtain ⟨q', y, y2, rfl, hq', hy, hy2⟩ := hv'.isP
    have e0 : fitsT (tP a a') (tP c d) l = fits2 a c a' d l := by simp only [fits2]; simp [fitsT]; rfl
    rw [e0]
    have I1 := fits1_any a c (iha c hc') tb b l w.drew x y hm.drew hx.drew hy.drew hc
    have KK : ∀ w1, Gb b w.drew w1 → KeptN w w1 := fun w1 g => hm.kept g.undrew
    have I2 : ∀ w1 m, Gb b w.drew w1 → Mp b m w1 → Calls Tryd.prog 43 #[x2, y2, .pointer (some ⟨tb, 0, none⟩)] w1 (MPost b (fitsT a' d m) w1) := fun w1 m g hm1 => fits1_any a' d (ihb d hd') tb b m w1 x2 y2 hm1 (Tv.keptN (KK w1 g) _ _ hx2) (Tv.keptN (KK w1 g) _ _ hy2) (Bx.gb hc hm g.undrew)
    obtain ⟨T, x', rfl⟩ := hx.iface
    obtain ⟨T', y', rfl⟩ := hy.iface
    obtain ⟨S, x2', rfl⟩ := hx2.iface
    obtain ⟨S', y2', rfl⟩ := hy2.iface
    have KP : ∀ w1, Gb b w.drew w1 → w1.cell? ⟨q, 0, none⟩ = some (.iface T x') ∧ w1.cell? ⟨q', 0, none⟩ = some (.iface T' y') ∧ w1.cell? ⟨q, 1, none⟩ = some (.iface S x2') ∧ w1.cell? ⟨q', 1, none⟩ = some (.iface S' y2') := fun w1 g => by
      have K1 := KK w1 g
      exact ⟨by rw [Lib.cell_of_heap (K1 q _ _ (.inr (.inl rfl)) hq)]; rfl, by rw [Lib.cell_of_heap (K1 q' _ _ (.inr (.inl rfl)) hq')]; rfl, by rw [Lib.cell_of_heap (K1 q _ _ (.inr (.inl rfl)) hq)]; rfl, by rw [Lib.cell_of_heap (K1 q' _ _ (.inr (.inl rfl)) hq')]; rfl⟩
    have c1 : w.cell? ⟨q, 0, none⟩ = some (.iface T x') := by rw [Lib.cell_of_heap hq]; rfl
    have c2 : w.cell? ⟨q', 0, none⟩ = some (.iface T' y') := by rw [Lib.cell_of_heap hq']; rfl
    have c3 : w.cell? ⟨q, 1, none⟩ = some (.iface S x2') := by rw [Lib.cell_of_heap hq]; rfl
    have c4 : w.cell? ⟨q', 1, none⟩ = some (.iface S' y2') := by rw [Lib.cell_of_heap hq']; rfl
    cases hac : fitsT a c l with
    | none =>
      have e1 : fits2 a c a' d l = none := by simp [fits2, hac]
      rw [e1]
      rw [hac] at I1
      refine (alikeP_no 43 #[] #[.pointer (some ⟨tb, 0, none⟩)] fits1_entered w q q' T T' S S' x' y' x2' y2' (fun w1 => Gb b w.drew w1) c1 c2 c3 c4 ?_ KP).mono ?_
      · rw [args_last]
        refine I1.mono ?_
        rintro e w1 ⟨rfl, g, _⟩; exact ⟨rfl, g⟩
      · rintro e w1 ⟨rfl, g⟩; exact ⟨rfl, g.undrew, fun m hm => by cases hm⟩
    | some m =>
      have e1 : fits2 a c a' d l = fitsT a' d m := by simp [fits2, hac]
      rw [e1]
      rw [hac] at I1
      refine (alikeP_yes 43 #[] #[.pointer (some ⟨tb, 0, none⟩)] fits1_entered w q q' T T' S S' x' y' x2' y2' (fun w1 => Gb b w.drew w1 ∧ Mp b m w1) (fun r w1 => Gb b w.drew w1 ∧ r = (fitsT a' d m).isSome ∧ ∀ m', fitsT a' d m = some m' → Mp b m' w1) c1 c2 c3 c4 ?_ ?_ (fun w1 h => KP w1 h.1) (fun r w1 h => KP w1 h.1)).mono ?_
      · rw [args_last]
        refine I1.mono ?_
        rintro e w1 ⟨rfl, g, h1⟩; exact ⟨rfl, g, h1 m rfl⟩
      · rintro w1 ⟨g, h1⟩
        rw [args_last]
        refine (I2 w1 m g h1).mono ?_
        rintro e w2 ⟨rfl, g2, h2⟩
        exact ⟨_, rfl, g.trans g2, rfl, h2⟩
      · rintro e w1 ⟨r, rfl, g, rfl, h2⟩; exact ⟨rfl, g.undrew, h2⟩
  · obtain ⟨q', y, y2, rfl, _⟩ := hv'.isF; exact (alikeP_miss q _ _ w (by decide)).mono fun e w' h => alike_fits_miss (by simp [fitsT]) h

set_option maxRecDepth 100000 in
set_option maxHeartbeats 1000000 in
theorem alike_fits_F {a a' s : Ty} (hs : Ok s) (iha : ∀ c, Ok c → FitsAt a c) (ihb : ∀ d, Ok d → FitsAt a' d) : AlikeFits (tF a a') s := by
  intro w tb b l v v' hm hv hv' hc
  obtain ⟨q, x, x2, rfl, hq, hx, hx2⟩ := Tv.isF hv
  rcases hs.cases with rfl | rfl | ⟨o', h1', h2', rfl⟩ | ⟨c, hc', rfl⟩ | ⟨c, d, hc', hd', rfl⟩ | ⟨c, d, hc', hd', rfl⟩
  · rw [hv'.isI]; exact (alikeF_miss q _ _ w (by decide)).mono fun e w' h => alike_fits_miss (by simp [fitsT]) h
  · rw [hv'.isB]; exact (alikeF_miss q _ _ w (by decide)).mono fun e w' h => alike_fits_miss (by simp [fitsT]) h
  · rw [hv'.isV]; exact (alikeF_miss q _ _ w (by decide)).mono fun e w' h => alike_fits_miss (by simp [fitsT]) h
  · obtain ⟨q', y, rfl, _⟩ := hv'.isL; exact (alikeF_miss q _ _ w (by decide)).mono fun e w' h => alike_fits_miss (by simp [fitsT]) h
  · obtain ⟨q', y, y2, rfl, _⟩ := hv'.isP; exact (alikeF_miss q _ _ w (by decide)).mono fun e w' h => alike_fits_miss (by simp [fitsT]) h
  · obtain ⟨q', y, y2, rfl, hq', hy, hy2⟩ := hv'.isF
    have e0 : fitsT (tF a a') (tF c d) l = fits2 a c a' d l := by simp only [fits2]; simp [fitsT]; rfl
    rw [e0]
    have I1 := fits1_any a c (iha c hc') tb b l w.drew x y hm.drew hx.drew hy.drew hc
    have KK : ∀ w1, Gb b w.drew w1 → KeptN w w1 := fun w1 g => hm.kept g.undrew
    have I2 : ∀ w1 m, Gb b w.drew w1 → Mp b m w1 → Calls Tryd.prog 43 #[x2, y2, .pointer (some ⟨tb, 0, none⟩)] w1 (MPost b (fitsT a' d m) w1) := fun w1 m g hm1 => fits1_any a' d (ihb d hd') tb b m w1 x2 y2 hm1 (Tv.keptN (KK w1 g) _ _ hx2) (Tv.keptN (KK w1 g) _ _ hy2) (Bx.gb hc hm g.undrew)
    obtain ⟨T, x', rfl⟩ := hx.iface
    obtain ⟨T', y', rfl⟩ := hy.iface
    obtain ⟨S, x2', rfl⟩ := hx2.iface
    obtain ⟨S', y2', rfl⟩ := hy2.iface
    have KP : ∀ w1, Gb b w.drew w1 → w1.cell? ⟨q, 0, none⟩ = some (.iface T x') ∧ w1.cell? ⟨q', 0, none⟩ = some (.iface T' y') ∧ w1.cell? ⟨q, 1, none⟩ = some (.iface S x2') ∧ w1.cell? ⟨q', 1, none⟩ = some (.iface S' y2') := fun w1 g => by
      have K1 := KK w1 g
      exact ⟨by rw [Lib.cell_of_heap (K1 q _ _ (.inr (.inr rfl)) hq)]; rfl, by rw [Lib.cell_of_heap (K1 q' _ _ (.inr (.inr rfl)) hq')]; rfl, by rw [Lib.cell_of_heap (K1 q _ _ (.inr (.inr rfl)) hq)]; rfl, by rw [Lib.cell_of_heap (K1 q' _ _ (.inr (.inr rfl)) hq')]; rfl⟩
    have c1 : w.cell? ⟨q, 0, none⟩ = some (.iface T x') := by rw [Lib.cell_of_heap hq]; rfl
    have c2 : w.cell? ⟨q', 0, none⟩ = some (.iface T' y') := by rw [Lib.cell_of_heap hq']; rfl
    have c3 : w.cell? ⟨q, 1, none⟩ = some (.iface S x2') := by rw [Lib.cell_of_heap hq]; rfl
    have c4 : w.cell? ⟨q', 1, none⟩ = some (.iface S' y2') := by rw [Lib.cell_of_heap hq']; rfl
    cases hac : fitsT a c l with
    | none =>
      have e1 : fits2 a c a' d l = none := by simp [fits2, hac]
      rw [e1]
      rw [hac] at I1
      refine (alikeF_no 43 #[] #[.pointer (some ⟨tb, 0, none⟩)] fits1_entered w q q' T T' S S' x' y' x2' y2' (fun w1 => Gb b w.drew w1) c1 c2 c3 c4 ?_ KP).mono ?_
      · rw [args_last]
        refine I1.mono ?_
        rintro e w1 ⟨rfl, g, _⟩; exact ⟨rfl, g⟩
      · rintro e w1 ⟨rfl, g⟩; exact ⟨rfl, g.undrew, fun m hm => by cases hm⟩
    | some m =>
      have e1 : fits2 a c a' d l = fitsT a' d m := by simp [fits2, hac]
      rw [e1]
      rw [hac] at I1
      refine (alikeF_yes 43 #[] #[.pointer (some ⟨tb, 0, none⟩)] fits1_entered w q q' T T' S S' x' y' x2' y2' (fun w1 => Gb b w.drew w1 ∧ Mp b m w1) (fun r w1 => Gb b w.drew w1 ∧ r = (fitsT a' d m).isSome ∧ ∀ m', fitsT a' d m = some m' → Mp b m' w1) c1 c2 c3 c4 ?_ ?_ (fun w1 h => KP w1 h.1) (fun r w1 h => KP w1 h.1)).mono ?_
      · rw [args_last]
        refine I1.mono ?_
        rintro e w1 ⟨rfl, g, h1⟩; exact ⟨rfl, g, h1 m rfl⟩
      · rintro w1 ⟨g, h1⟩
        rw [args_last]
        refine (I2 w1 m g h1).mono ?_
        rintro e w2 ⟨rfl, g2, h2⟩
        exact ⟨_, rfl, g.trans g2, rfl, h2⟩
      · rintro e w1 ⟨r, rfl, g, rfl, h2⟩; exact ⟨rfl, g.undrew, h2⟩

end Go.Proofs.YtceadeaodbadlaaDoor
