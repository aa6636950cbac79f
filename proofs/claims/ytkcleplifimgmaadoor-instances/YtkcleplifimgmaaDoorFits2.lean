import Derived.Test.YtkcleplifimgmaaDoorKind2
import Derived.Test.YtkcleplifimgmaaDoorFitsP
import Derived.Test.YtkcleplifimgmaaDoorFitsF
set_option linter.unusedVariables false
set_option linter.unusedSimpArgs false
namespace Go.Proofs.YtkcleplifimgmaaDoor
open Go.RowKit

theorem fits_any : ∀ g s : Ty, Ok g → Ok s → FitsAt g s := by
  intro g
  induction g with
  | nil => intro s hg; exact hg.elim
  | node g o u a a' iha ihb =>
    intro s hg hs w b l v v' h hv hv'
    cases u
    rcases hg with ⟨rfl, rfl, rfl, rfl⟩ | ⟨rfl, rfl, rfl, rfl⟩ | ⟨rfl, ho, rfl, rfl⟩ | ⟨rfl, rfl, ha, rfl⟩ | ⟨rfl, rfl, ha, hb⟩ | ⟨rfl, rfl, ha, hb⟩
    · rw [Tv.isI hv]; exact fits_Whole s hs w b l v' h hv'
    · rw [Tv.isB hv]; exact fits_Truth s hs w b l v' h hv'
    · rw [Tv.isV hv]
      cases hl : look l o with
      | none => exact fits_var_new o s hs w b l v' h hv' hl
      | some t => exact fits_var_old o s t hs w b l v' h hv' hl
    · obtain ⟨q, x, rfl, hq, hx⟩ := Tv.isL hv
      rcases hs.cases with rfl | rfl | ⟨o', h1', h2', rfl⟩ | ⟨c, hc, rfl⟩ | ⟨c, d, hc, hd, rfl⟩ | ⟨c, d, hc, hd, rfl⟩
      · rw [hv'.isI]; exact fits_List_miss q _ _ (by decide) w b
      · rw [hv'.isB]; exact fits_List_miss q _ _ (by decide) w b
      · rw [hv'.isV]; exact fits_List_miss q _ _ (by decide) w b
      · obtain ⟨q', y, rfl, hq', hy⟩ := hv'.isL
        exact fits_List_hit a c (iha c ha hc) w b l q q' _ _ x y h hx hy hq hq'
      · obtain ⟨q', y, y2, rfl, _⟩ := hv'.isP; exact fits_List_miss q _ _ (by decide) w b
      · obtain ⟨q', y, y2, rfl, _⟩ := hv'.isF; exact fits_List_miss q _ _ (by decide) w b
    · obtain ⟨q, x, x2, rfl, hq, hx, hx2⟩ := Tv.isP hv
      rcases hs.cases with rfl | rfl | ⟨o', h1', h2', rfl⟩ | ⟨c, hc, rfl⟩ | ⟨c, d, hc, hd, rfl⟩ | ⟨c, d, hc, hd, rfl⟩
      · rw [hv'.isI]; exact fits_Pair_miss q _ _ (by decide) w b
      · rw [hv'.isB]; exact fits_Pair_miss q _ _ (by decide) w b
      · rw [hv'.isV]; exact fits_Pair_miss q _ _ (by decide) w b
      · obtain ⟨q', y, rfl, _⟩ := hv'.isL; exact fits_Pair_miss q _ _ (by decide) w b
      · obtain ⟨q', y, y2, rfl, hq', hy, hy2⟩ := hv'.isP
        show Calls _ _ _ _ (MPost b (fits2 a c a' d l) w)
        unfold fits2
        cases hac : fitsT a c l with
        | none => exact fits_Pair_no a a' c d (iha c ha hc) (ihb d hb hd) w b l hac q q' _ _ x x2 y y2 h hx hx2 hy hy2 hq hq'
        | some m => exact fits_Pair_yes a a' c d (iha c ha hc) (ihb d hb hd) w b l m hac q q' _ _ x x2 y y2 h hx hx2 hy hy2 hq hq'
      · obtain ⟨q', y, y2, rfl, _⟩ := hv'.isF; exact fits_Pair_miss q _ _ (by decide) w b
    · obtain ⟨q, x, x2, rfl, hq, hx, hx2⟩ := Tv.isF hv
      rcases hs.cases with rfl | rfl | ⟨o', h1', h2', rfl⟩ | ⟨c, hc, rfl⟩ | ⟨c, d, hc, hd, rfl⟩ | ⟨c, d, hc, hd, rfl⟩
      · rw [hv'.isI]; exact fits_Function_miss q _ _ (by decide) w b
      · rw [hv'.isB]; exact fits_Function_miss q _ _ (by decide) w b
      · rw [hv'.isV]; exact fits_Function_miss q _ _ (by decide) w b
      · obtain ⟨q', y, rfl, _⟩ := hv'.isL; exact fits_Function_miss q _ _ (by decide) w b
      · obtain ⟨q', y, y2, rfl, _⟩ := hv'.isP; exact fits_Function_miss q _ _ (by decide) w b
      · obtain ⟨q', y, y2, rfl, hq', hy, hy2⟩ := hv'.isF
        show Calls _ _ _ _ (MPost b (fits2 a c a' d l) w)
        unfold fits2
        cases hac : fitsT a c l with
        | none => exact fits_Function_no a a' c d (iha c ha hc) (ihb d hb hd) w b l hac q q' _ _ x x2 y y2 h hx hx2 hy hy2 hq hq'
        | some m => exact fits_Function_yes a a' c d (iha c ha hc) (ihb d hb hd) w b l m hac q q' _ _ x x2 y y2 h hx hx2 hy hy2 hq hq'

set_option maxHeartbeats 1000000 in
theorem kinst_any (g s : Ty) (v v' : Value) (w : World) (hg : Ok g) (hs : Ok s) (h : Tv w g v) (h' : Tv w s v') : Calls Tryd.prog 14 #[v, v'] w fun e w' => e = .returned (.bool (inst g s)) ∧ Below w.heap.size w w' := by
  have hM : Mp w.heap.size [] (w.alloc (.map #[] 0)) := ⟨#[], 0, [], heap_alloc_new w _, rfl, trivial⟩
  have b1 : Below w.heap.size w (w.alloc (.map #[] 0)) := (Below.refl _ w).alloc (Nat.le_refl _) _
  have HF := fits_any g s hg hs _ _ _ v v' hM (h.below b1) (h'.below b1)
  have hmm := @run_makeMap Tryd.prog
  obtain ⟨T, x, rfl⟩ := h.iface
  obtain ⟨T', x', rfl⟩ := h'.iface
  clear h h'
  go_enter Tryd.func14, Tryd.ntmps14
  go_wp2_with fail
  refine HF.mono ?_
  rintro e w1 ⟨rfl, hb, _⟩
  go_wp2_with fail
  go_ret
  exact ⟨rfl, Gb.belowK hb⟩
end Go.Proofs.YtkcleplifimgmaaDoor
