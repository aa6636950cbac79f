import Derived.Test.YtceadeaodbadlaaDoorRInst2
import Derived.Deep.RegionHeld3
set_option linter.unusedVariables false
set_option linter.unusedSimpArgs false
namespace Go.Proofs.YtceadeaodbadlaaDoor
open Go.RowKit

theorem IS.vlt {B : Nat} {l : List (Nat × Ty)} {vv vl : Value} {w : World} (h : IS B l vv vl w) : ∀ k, w.heap.size ≤ k → vv.ownBlock ≠ some k := fun k hk e => by
  obtain ⟨ls, _, h2⟩ := h; have := h2.vlt k e; omega
theorem IS.llt {B : Nat} {l : List (Nat × Ty)} {vv vl : Value} {w : World} (h : IS B l vv vl w) : ∀ k, w.heap.size ≤ k → vl.ownBlock ≠ some k := fun k hk e => by
  obtain ⟨ls, _, h2⟩ := h; have := h2.llt k e; omega
theorem TV.new {B : Nat} {l : List (Nat × Ty)} {vv vl : Value} {w w1 w2 : World} {g : Nat} {t : Ty} (h : IS B l vv vl w) (hb : Below w.heap.size w w1) (hg : w1.heap.size ≤ g) (hR : Rg g t w2) (hs : sz t ≤ 100000) : TV g t vv vl w2 :=
  ⟨hR, hs, h.vlt g (Nat.le_trans hb.size hg), h.llt g (Nat.le_trans hb.size hg)⟩
theorem IS.drew {B : Nat} {l : List (Nat × Ty)} {vv vl : Value} {w : World} (h : IS B l vv vl w) : IS B l vv vl w.drew := h.below (Below.refl _ _).drew
theorem sz_list (a : Ty) : sz (tL a) = sz a + 1 := rfl
theorem sz_both (gt : Nat) (a b : Ty) : sz (.node gt 0 () a b) = sz a + sz b + 1 := rfl

theorem FI.cell {vv vl : Value} {w w' : World} (h : FI vv vl w w') {a : Addr} (hlt : a.block < w.heap.size) (h1 : vv.ownBlock ≠ some a.block) (h2 : vl.ownBlock ≠ some a.block) : w'.cell? a = w.cell? a :=
  World.cell?_of_block (w := w) (a := a) (h.block a.block hlt (fun e => h1 e.symm) (fun e => h2 e.symm))
theorem NewOr.up {w w' : World} {a b : Value} (h : NewOr w' a b) (hs : w.heap.size ≤ w'.heap.size) : NewOr w a b := (NewOr.refl w a).trans h hs

/-- The parts of two types, made. -/
def FirstOf (t a : Ty) (g cap : Nat) : Prop := ∀ w : World, Rg g t w → Calls Tryd.prog 36 #[.agg #[.slice (some ⟨g, 0, none⟩) (sz t) cap]] w (TPost a w)
def SecondOf (t a : Ty) (g cap : Nat) : Prop := ∀ w : World, Rg g t w → Calls Tryd.prog 37 #[.agg #[.slice (some ⟨g, 0, none⟩) (sz t) cap]] w (TPost a w)

set_option maxRecDepth 100000 in
set_option maxHeartbeats 2000000 in
theorem inst_list (t s a c : Ty) (ht0 : (rt t 0).op = 91) (hs0 : (rt s 0).op = 91) (ih : InstAt a c) (B : Nat) (l : List (Nat × Ty)) (vv vl : Value) (g cap g' cap' : Nat) (w : World) (F1 : FirstOf t a g cap) (F2 : FirstOf s c g' cap') (hI : IS B l vv vl w) (hB : B ≤ w.heap.size) (ht : TV g t vv vl w) (hs : TV g' s vv vl w) (hza : sz a ≤ 100000) (hzc : sz c ≤ 100000) (hl : l.length + sz a ≤ 200000) :
    Calls Tryd.prog 19 #[.agg #[.slice (some ⟨g, 0, none⟩) (sz t) cap], .agg #[.slice (some ⟨g', 0, none⟩) (sz s) cap'], vv, vl] w (IPost B vv vl (fitsT a c l) w) := by
  have b0 := below2 w (.cells #[.slice (some ⟨g, 0, none⟩) (sz t) cap] 38) (.cells #[.slice (some ⟨g', 0, none⟩) (sz s) cap'] 38)
  have R1 := root_any t g cap _ (ht.rg.below b0) (sz_small ht)
  rw [ht0] at R1
  have HT : Hid (TV g t vv vl w) := ht
  have HS : Hid (TV g' s vv vl w) := hs
  have HI : Hid (IS B l vv vl w) := hI
  have HH : Hid (InstAt a c) := ih
  have HF1 : Hid (FirstOf t a g cap) := F1
  have HF2 : Hid (FirstOf s c g' cap') := F2
  have HS0 : Hid ((rt s 0).op = 91) := hs0
  have d1 : decide ((1000 : Int) ≤ ((91 : Nat) : Int)) = false := by decide
  clear hI ht hs ih F1 F2 ht0 hs0
  go_enter Tryd.func19, Tryd.ntmps19
  go_wp2_with fail
  refine R1.mono ?_
  rintro e w1 ⟨rfl, b1⟩
  have b01 := b0.trans (b1.mono b0.size)
  have c1 := box1 b1
  have c2 := box2 b1
  clear R1
  go_wp2_with fail
  refine (isVar_any 91 w1).mono ?_
  rintro e w' ⟨rfl, rfl⟩
  rw [d1]
  go_wp2_with fail
  have R2 := root_any s g' cap' _ (HS.out.rg.below b01) (sz_small HS.out)
  rw [HS0.out] at R2
  refine R2.mono ?_
  rintro e w2 ⟨rfl, b2⟩
  have s1 := b1.size
  simp only [World.size_alloc] at s1
  have s2 := b2.size
  have c1 := (b2.cell (p := ⟨w.heap.size, 0, none⟩) (by show w.heap.size < _; omega)).trans c1
  have c2 := (b2.cell (p := ⟨w.heap.size + 1, 0, none⟩) (by show w.heap.size + 1 < _; omega)).trans c2
  have b02 := (b01.trans (b2.mono b01.size)).drew
  clear b1 b2 b01 b0 R2
  have RT := HT.out.rg.below b02
  have RS := HS.out.rg.below b02
  have I2 := HI.out.below b02
  go_wp2_with fail
  go_region_held3 (fun w' => w'.cell? ⟨w.heap.size, 0, none⟩ = some (.slice (some ⟨g, 0, none⟩) (sz t) cap) ∧ w'.cell? ⟨w.heap.size + 1, 0, none⟩ = some (.slice (some ⟨g', 0, none⟩) (sz s) cap'))
    (first | go_keep | (go_split_ands; exact ⟨q1, q2⟩))
    (first
      | (go_at_call 36; (have hb3 := b3); refine (HF2.out _ (RS.below b3)).mono ?_; rintro e w4 ⟨g4, cap4, rfl, R4, hg4, b4⟩; (have q1 := (b4.cell (p := ⟨w.heap.size, 0, none⟩) (by show w.heap.size < w3.heap.size; omega)).trans q1); (have q2 := (b4.cell (p := ⟨w.heap.size + 1, 0, none⟩) (by show w.heap.size + 1 < w3.heap.size; omega)).trans q2))
      | (go_at_call 36; refine (HF1.out _ RT).mono ?_; rintro e w3 ⟨g3, cap3, rfl, R3, hg3, b3⟩; (have q1 := (b3.cell (p := ⟨w.heap.size, 0, none⟩) (by show w.heap.size < w2.heap.size; omega)).trans c1); (have q2 := (b3.cell (p := ⟨w.heap.size + 1, 0, none⟩) (by show w.heap.size + 1 < w2.heap.size; omega)).trans c2); (have s3 : w2.heap.size ≤ w3.heap.size := b3.size))
      | (go_at_call 19; refine (HH.out B l vv vl g3 cap3 g4 cap4 w4 ((I2.below b3).below b4) (by have := b4.size; have := b02.size; omega) ((TV.new HI.out b02 hg3 R3 hza).below b4) (TV.new HI.out (b02.trans (b3.mono b02.size)) hg4 R4 hzc) hl).mono ?_; rintro e w5 ⟨vv5, vl5, rfl, f5, nv5, nl5, i5⟩; (have q1 := (f5.cell (a := ⟨w.heap.size, 0, none⟩) (by have := b4.size; show w.heap.size < _; omega) (HI.out.vlt w.heap.size (Nat.le_refl _)) (HI.out.llt w.heap.size (Nat.le_refl _))).trans q1); (have q2 := (f5.cell (a := ⟨w.heap.size + 1, 0, none⟩) (by have := b4.size; show w.heap.size + 1 < _; omega) (HI.out.vlt (w.heap.size + 1) (by omega)) (HI.out.llt (w.heap.size + 1) (by omega))).trans q2)))
  go_wp2_with fail
  go_ret3
  have b03 := b02.trans (b3.mono b02.size)
  have b04 := b03.trans (b4.mono b03.size)
  exact ⟨vv5, vl5, rfl, FI.trans (FI.ofBelow b04) (NewOr.refl _ _) (NewOr.refl _ _) f5, nv5.up b04.size, nl5.up b04.size, i5⟩
end Go.Proofs.YtceadeaodbadlaaDoor
