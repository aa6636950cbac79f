import Derived.Test.YtceadeaodbadlaaDoorRInst
set_option linter.unusedVariables false
set_option linter.unusedSimpArgs false
namespace Go.Proofs.YtceadeaodbadlaaDoor
open Go.RowKit

theorem sz_small {g : Nat} {t : Ty} {vv vl : Value} {w : World} (h : TV g t vv vl w) : sz t ≤ 1000000 := Nat.le_trans h.small (by decide)
theorem below2 (w : World) (o o' : Obj) : Below w.heap.size w ((w.alloc o).alloc o') := ((Below.refl w.heap.size w).alloc (Nat.le_refl _) o).alloc (by simp) o'
theorem box1 {w w1 : World} {v : Value} {T : TypeId} {o' : Obj} (hb : Below ((w.alloc (.cells #[v] T)).alloc o').heap.size ((w.alloc (.cells #[v] T)).alloc o') w1) : w1.cell? ⟨w.heap.size, 0, none⟩ = some v := by
  rw [hb.cell (p := ⟨w.heap.size, 0, none⟩) (by simp; omega)]
  refine cell_box (T := T) ?_
  rw [Below.heap_alloc _ _ _ (by simp)]; exact heap_alloc_new w _
theorem box2 {w w1 : World} {v : Value} {T : TypeId} {o : Obj} (hb : Below ((w.alloc o).alloc (.cells #[v] T)).heap.size ((w.alloc o).alloc (.cells #[v] T)) w1) : w1.cell? ⟨w.heap.size + 1, 0, none⟩ = some v := by
  rw [hb.cell (p := ⟨w.heap.size + 1, 0, none⟩) (by simp)]
  exact cell_box (T := T) (heap_alloc2_new w _ _)

set_option maxRecDepth 100000 in
set_option maxHeartbeats 1000000 in
theorem inst_miss (t s : Ty) (B : Nat) (vv vl : Value) (g cap g' cap' : Nat) (w : World) (ht : TV g t vv vl w) (hs : TV g' s vv vl w) (hv : (rt t 0).op < 1000) (hne : (rt t 0).op ≠ (rt s 0).op) :
    Calls Tryd.prog 19 #[.agg #[.slice (some ⟨g, 0, none⟩) (sz t) cap], .agg #[.slice (some ⟨g', 0, none⟩) (sz s) cap'], vv, vl] w (IPost B vv vl none w) := by
  have b0 := below2 w (.cells #[.slice (some ⟨g, 0, none⟩) (sz t) cap] 38) (.cells #[.slice (some ⟨g', 0, none⟩) (sz s) cap'] 38)
  have R1 := root_any t g cap _ (ht.rg.below b0) (sz_small ht)
  have HS : Hid (TV g' s vv vl w) := hs
  generalize (rt t 0).op = p at R1 hv hne
  generalize hq : (rt s 0).op = q at hne
  have HQ : Hid ((rt s 0).op = q) := hq
  have d1 : decide ((1000 : Int) ≤ (p : Int)) = false := by simp; omega
  have e1 : ((p : Int) == (q : Int)) = false := by rw [beq_eq_false_iff_ne]; omega
  have e2 : ((p : Int) != (q : Int)) = true := by rw [bne, e1]; rfl
  clear hq hs
  go_enter Tryd.func19, Tryd.ntmps19
  go_wp2_with fail
  refine R1.mono ?_
  rintro e w1 ⟨rfl, b1⟩
  have c2 := box2 b1
  have b01 := b0.trans (b1.mono b0.size)
  clear R1
  go_wp2_with fail
  refine (isVar_any p w1).mono ?_
  rintro e w' ⟨rfl, rfl⟩
  rw [d1]
  go_wp2_with fail
  refine (root_any s g' cap' _ (HS.out.rg.below b01) (sz_small HS.out)).mono ?_
  rintro e w2 ⟨rfl, b2⟩
  rw [HQ.out]
  go_wp2_with fail
  go_ret3
  exact ⟨vv, vl, rfl, FI.ofBelow (b01.trans (b2.mono b01.size)), NewOr.refl _ _, NewOr.refl _ _, fun m hm => by cases hm⟩

set_option maxRecDepth 100000 in
set_option maxHeartbeats 1000000 in
theorem inst_leaf (t s : Ty) (B : Nat) (l : List (Nat × Ty)) (vv vl : Value) (g cap g' cap' : Nat) (w : World) (hI : IS B l vv vl w) (ht : TV g t vv vl w) (hs : TV g' s vv vl w) (hv : (rt t 0).op < 1000) (n1 : (rt t 0).op ≠ 91) (n2 : (rt t 0).op ≠ 42) (n3 : (rt t 0).op ≠ 62) (hne : (rt t 0).op = (rt s 0).op) :
    Calls Tryd.prog 19 #[.agg #[.slice (some ⟨g, 0, none⟩) (sz t) cap], .agg #[.slice (some ⟨g', 0, none⟩) (sz s) cap'], vv, vl] w (IPost B vv vl (some l) w) := by
  have b0 := below2 w (.cells #[.slice (some ⟨g, 0, none⟩) (sz t) cap] 38) (.cells #[.slice (some ⟨g', 0, none⟩) (sz s) cap'] 38)
  have R1 := root_any t g cap _ (ht.rg.below b0) (sz_small ht)
  have HS : Hid (TV g' s vv vl w) := hs
  have HI : Hid (IS B l vv vl w) := hI
  generalize (rt t 0).op = p at R1 hv hne n1 n2 n3
  have HQ : Hid ((rt s 0).op = p) := hne.symm
  have d1 : decide ((1000 : Int) ≤ (p : Int)) = false := by simp; omega
  have e1 : ((p : Int) == 91) = false := by rw [beq_eq_false_iff_ne]; omega
  have e2 : ((p : Int) == 42) = false := by rw [beq_eq_false_iff_ne]; omega
  have e3 : ((p : Int) == 62) = false := by rw [beq_eq_false_iff_ne]; omega
  clear hne hs hI
  go_enter Tryd.func19, Tryd.ntmps19
  go_wp2_with fail
  refine R1.mono ?_
  rintro e w1 ⟨rfl, b1⟩
  have c2 := box2 b1
  have b01 := b0.trans (b1.mono b0.size)
  clear R1
  go_wp2_with fail
  refine (isVar_any p w1).mono ?_
  rintro e w' ⟨rfl, rfl⟩
  rw [d1]
  go_wp2_with fail
  refine (root_any s g' cap' _ (HS.out.rg.below b01) (sz_small HS.out)).mono ?_
  rintro e w2 ⟨rfl, b2⟩
  rw [HQ.out]
  go_wp2_with fail
  go_ret3
  have b02 := b01.trans (b2.mono b01.size)
  exact ⟨vv, vl, rfl, FI.ofBelow b02, NewOr.refl _ _, NewOr.refl _ _, fun m hm => by cases hm; exact HI.out.below b02⟩
end Go.Proofs.YtceadeaodbadlaaDoor
