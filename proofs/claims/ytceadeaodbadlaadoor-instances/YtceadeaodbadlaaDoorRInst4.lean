import Derived.Test.YtceadeaodbadlaaDoorRInst3
set_option linter.unusedVariables false
set_option linter.unusedSimpArgs false
namespace Go.Proofs.YtceadeaodbadlaaDoor
open Go.RowKit

def fitsB (a c a' d : Ty) (l : List (Nat × Ty)) : Option (List (Nat × Ty)) := match fitsT a c l with | none => none | some m => fitsT a' d m

set_option maxRecDepth 100000 in
set_option maxHeartbeats 8000000 in
theorem inst_pair (t s a c b d : Ty) (ht0 : (rt t 0).op = 42) (hs0 : (rt s 0).op = 42) (ih : InstAt a c) (ih' : InstAt b d) (B : Nat) (l : List (Nat × Ty)) (vv vl : Value) (g cap g' cap' : Nat) (w : World) (F1 : FirstOf t a g cap) (F2 : FirstOf s c g' cap') (G1 : SecondOf t b g cap) (G2 : SecondOf s d g' cap') (hI : IS B l vv vl w) (hB : B ≤ w.heap.size) (ht : TV g t vv vl w) (hs : TV g' s vv vl w) (hza : sz a ≤ 100000) (hzc : sz c ≤ 100000) (hzb : sz b ≤ 100000) (hzd : sz d ≤ 100000) (hl : l.length + sz a ≤ 200000) (hl' : ∀ m, fitsT a c l = some m → m.length + sz b ≤ 200000) :
    Calls Tryd.prog 19 #[.agg #[.slice (some ⟨g, 0, none⟩) (sz t) cap], .agg #[.slice (some ⟨g', 0, none⟩) (sz s) cap'], vv, vl] w (IPost B vv vl (fitsB a c b d l) w) := by
  have b0 := below2 w (.cells #[.slice (some ⟨g, 0, none⟩) (sz t) cap] 38) (.cells #[.slice (some ⟨g', 0, none⟩) (sz s) cap'] 38)
  have R1 := root_any t g cap _ (ht.rg.below b0) (sz_small ht)
  rw [ht0] at R1
  have HT : Hid (TV g t vv vl w) := ht
  have HS : Hid (TV g' s vv vl w) := hs
  have HI : Hid (IS B l vv vl w) := hI
  have HH : Hid (InstAt a c) := ih
  have HH' : Hid (InstAt b d) := ih'
  have HG1 : Hid (SecondOf t b g cap) := G1
  have HG2 : Hid (SecondOf s d g' cap') := G2
  have HL : Hid (∀ m, fitsT a c l = some m → m.length + sz b ≤ 200000) := hl'
  have HF1 : Hid (FirstOf t a g cap) := F1
  have HF2 : Hid (FirstOf s c g' cap') := F2
  have HS0 : Hid ((rt s 0).op = 42) := hs0
  have d1 : decide ((1000 : Int) ≤ ((42 : Nat) : Int)) = false := by decide

  clear hI ht hs ih ih' F1 F2 G1 G2 ht0 hs0 hl'
  go_enter Tryd.func19, Tryd.ntmps19
  go_wp2_with fail
  refine R1.mono ?_
  rintro e w1 ⟨rfl, b1⟩
  have b01 := b0.trans (b1.mono b0.size)
  have c1 := box1 b1
  have c2 := box2 b1
  clear R1
  go_wp2_with fail
  refine (isVar_any 42 w1).mono ?_
  rintro e w' ⟨rfl, rfl⟩
  rw [d1]
  go_wp2_with fail
  have R2 := root_any s g' cap' _ (HS.out.rg.below b01) (sz_small HS.out)
  rw [HS0.out] at R2
  refine R2.mono ?_
  rintro e w2 ⟨rfl, b2⟩
  have s1 := b1.size
  simp only [World.size_alloc] at s1
  have s2 := b2.size
  have c1 := (b2.cell (p := ⟨w.heap.size, 0, none⟩) (by show w.heap.size < _; omega)).trans c1
  have c2 := (b2.cell (p := ⟨w.heap.size + 1, 0, none⟩) (by show w.heap.size + 1 < _; omega)).trans c2
  have b02 := (b01.trans (b2.mono b01.size)).drew
  clear b1 b2 b01 b0 R2
  have RT := HT.out.rg.below b02
  have RS := HS.out.rg.below b02
  have I2 := HI.out.below b02
  go_wp2_with fail
  go_region_held3 (fun w' => w'.cell? ⟨w.heap.size, 0, none⟩ = some (.slice (some ⟨g, 0, none⟩) (sz t) cap) ∧ w'.cell? ⟨w.heap.size + 1, 0, none⟩ = some (.slice (some ⟨g', 0, none⟩) (sz s) cap'))
    (first | go_keep | (go_split_ands; exact ⟨q1, q2⟩))
    (first
      | (go_at_call 36; (have hb3 := b3); refine (HF2.out _ (RS.below b3)).mono ?_; rintro e w4 ⟨g4, cap4, rfl, R4, hg4, b4⟩; (have q1 := (b4.cell (p := ⟨w.heap.size, 0, none⟩) (by show w.heap.size < w3.heap.size; omega)).trans q1); (have q2 := (b4.cell (p := ⟨w.heap.size + 1, 0, none⟩) (by show w.heap.size + 1 < w3.heap.size; omega)).trans q2))
      | (go_at_call 36; refine (HF1.out _ RT).mono ?_; rintro e w3 ⟨g3, cap3, rfl, R3, hg3, b3⟩; (have q1 := (b3.cell (p := ⟨w.heap.size, 0, none⟩) (by show w.heap.size < w2.heap.size; omega)).trans c1); (have q2 := (b3.cell (p := ⟨w.heap.size + 1, 0, none⟩) (by show w.heap.size + 1 < w2.heap.size; omega)).trans c2); (have s3 : w2.heap.size ≤ w3.heap.size := b3.size))
      | (go_at_call 19; refine (HH.out B l vv vl g3 cap3 g4 cap4 w4 ((I2.below b3).below b4) (by have := b4.size; have := b02.size; omega) ((TV.new HI.out b02 hg3 R3 hza).below b4) (TV.new HI.out (b02.trans (b3.mono b02.size)) hg4 R4 hzc) hl).mono ?_; rintro e w5 ⟨vv5, vl5, rfl, f5, nv5, nl5, i5⟩; (have q1 := (f5.cell (a := ⟨w.heap.size, 0, none⟩) (by have := b4.size; show w.heap.size < _; omega) (HI.out.vlt w.heap.size (Nat.le_refl _)) (HI.out.llt w.heap.size (Nat.le_refl _))).trans q1); (have q2 := (f5.cell (a := ⟨w.heap.size + 1, 0, none⟩) (by have := b4.size; show w.heap.size + 1 < _; omega) (HI.out.vlt (w.heap.size + 1) (by omega)) (HI.out.llt (w.heap.size + 1) (by omega))).trans q2)))
  have b03 := b02.trans (b3.mono b02.size)
  have b04 := b03.trans (b4.mono b03.size)
  have f05 := FI.trans (FI.ofBelow b04) (NewOr.refl _ _) (NewOr.refl _ _) f5
  have nv05 := nv5.up b04.size
  have nl05 := nl5.up b04.size
  have s4 : w.heap.size + 2 ≤ w4.heap.size := by have := b4.size; omega
  have nN : vv5.ownBlock ≠ some w.heap.size := nv5.ne (by omega) (HI.out.vlt _ (Nat.le_refl _))
  have nN1 : vv5.ownBlock ≠ some (w.heap.size + 1) := nv5.ne (by omega) (HI.out.vlt _ (by omega))
  have mN : vl5.ownBlock ≠ some w.heap.size := nl5.ne (by omega) (HI.out.llt _ (Nat.le_refl _))
  have mN1 : vl5.ownBlock ≠ some (w.heap.size + 1) := nl5.ne (by omega) (HI.out.llt _ (by omega))
  have HN : Hid (vv5.ownBlock ≠ some w.heap.size ∧ vv5.ownBlock ≠ some (w.heap.size + 1) ∧ vl5.ownBlock ≠ some w.heap.size ∧ vl5.ownBlock ≠ some (w.heap.size + 1)) := ⟨nN, nN1, mN, mN1⟩
  clear nN nN1 mN mN1
  have s5 : w2.heap.size ≤ w5.heap.size := by have := f5.size; have := b4.size; omega
  cases hq : fitsT a c l with
  | none =>
    have HQ : Hid (fitsB a c b d l = none) := by unfold Hid fitsB; rw [hq]
    clear hq
    go_wp2_with fail
    go_ret3
    rw [HQ.out]
    exact ⟨vv5, vl5, rfl, f05, nv05, nl05, fun m hm => by cases hm⟩
  | some m =>
    have HQ : Hid (fitsB a c b d l = fitsT b d m) := by unfold Hid fitsB; rw [hq]
    have I5 := i5 m hq
    have hlm := HL.out m hq
    have HT5 : Hid (TV g t vv5 vl5 w5) := HT.out.fi f05 nv05 nl05
    have HS5 : Hid (TV g' s vv5 vl5 w5) := HS.out.fi f05 nv05 nl05
    have RT5 := HT5.out.rg.drew
    have RS5 := HS5.out.rg.drew
    have B5 : B ≤ w5.heap.size := by have := b02.size; omega
    have b05 : Below w5.heap.size w5 w5.drew := (Below.refl _ _).drew
    have HI5 : Hid (IS B m vv5 vl5 w5) := I5
    clear hq i5 I5 I2 RT RS R3 R4 b3 b4 b03 b04 c1 c2 f5 nv5 nl5 b02 hg3 hg4 s3
    go_wp2_with fail
    go_region_held3 (fun w' => w'.cell? ⟨w.heap.size, 0, none⟩ = some (.slice (some ⟨g, 0, none⟩) (sz t) cap) ∧ w'.cell? ⟨w.heap.size + 1, 0, none⟩ = some (.slice (some ⟨g', 0, none⟩) (sz s) cap'))
      (first | go_keep | (go_split_ands; exact ⟨q1, q2⟩))
      (first
        | (go_at_call 37; (have hb6 := b6); refine (HG2.out _ (RS5.below b6)).mono ?_; rintro e w7 ⟨g7, cap7, rfl, R7, hg7, b7⟩; (have q1 := (b7.cell (p := ⟨w.heap.size, 0, none⟩) (by show w.heap.size < w6.heap.size; omega)).trans q1); (have q2 := (b7.cell (p := ⟨w.heap.size + 1, 0, none⟩) (by show w.heap.size + 1 < w6.heap.size; omega)).trans q2))
        | (go_at_call 37; refine (HG1.out _ RT5).mono ?_; rintro e w6 ⟨g6, cap6, rfl, R6, hg6, b6⟩; (have q1 := (b6.cell (p := ⟨w.heap.size, 0, none⟩) (by show w.heap.size < w5.heap.size; omega)).trans q1); (have q2 := (b6.cell (p := ⟨w.heap.size + 1, 0, none⟩) (by show w.heap.size + 1 < w5.heap.size; omega)).trans q2); (have s6 : w5.heap.size ≤ w6.heap.size := b6.size))
        | (go_at_call 19; refine (HH'.out B m vv5 vl5 g6 cap6 g7 cap7 w7 (((HI5.out.below b05).below b6).below b7) (by have := b7.size; omega) ((TV.new HI5.out b05 hg6 R6 hzb).below b7) (TV.new HI5.out (b05.trans (b6.mono b05.size)) hg7 R7 hzd) hlm).mono ?_; rintro e w8 ⟨vv8, vl8, rfl, f8, nv8, nl8, i8⟩; (have q1 := (f8.cell (a := ⟨w.heap.size, 0, none⟩) (by have := b7.size; show w.heap.size < _; omega) HN.out.1 HN.out.2.2.1).trans q1); (have q2 := (f8.cell (a := ⟨w.heap.size + 1, 0, none⟩) (by have := b7.size; show w.heap.size + 1 < _; omega) HN.out.2.1 HN.out.2.2.2).trans q2)))
    go_wp2_with fail
    go_ret3
    rw [HQ.out]
    have b06 := b05.trans (b6.mono b05.size)
    have b07 := b06.trans (b7.mono b06.size)
    have f58 := FI.trans (FI.ofBelow b07) (NewOr.refl _ _) (NewOr.refl _ _) f8
    exact ⟨vv8, vl8, rfl, FI.trans f05 nv05 nl05 f58, nv05.trans (nv8.up b07.size) f05.size, nl05.trans (nl8.up b07.size) f05.size, i8⟩

set_option maxRecDepth 100000 in
set_option maxHeartbeats 8000000 in
theorem inst_fn (t s a c b d : Ty) (ht0 : (rt t 0).op = 62) (hs0 : (rt s 0).op = 62) (ih : InstAt a c) (ih' : InstAt b d) (B : Nat) (l : List (Nat × Ty)) (vv vl : Value) (g cap g' cap' : Nat) (w : World) (F1 : FirstOf t a g cap) (F2 : FirstOf s c g' cap') (G1 : SecondOf t b g cap) (G2 : SecondOf s d g' cap') (hI : IS B l vv vl w) (hB : B ≤ w.heap.size) (ht : TV g t vv vl w) (hs : TV g' s vv vl w) (hza : sz a ≤ 100000) (hzc : sz c ≤ 100000) (hzb : sz b ≤ 100000) (hzd : sz d ≤ 100000) (hl : l.length + sz a ≤ 200000) (hl' : ∀ m, fitsT a c l = some m → m.length + sz b ≤ 200000) :
    Calls Tryd.prog 19 #[.agg #[.slice (some ⟨g, 0, none⟩) (sz t) cap], .agg #[.slice (some ⟨g', 0, none⟩) (sz s) cap'], vv, vl] w (IPost B vv vl (fitsB a c b d l) w) := by
  have b0 := below2 w (.cells #[.slice (some ⟨g, 0, none⟩) (sz t) cap] 38) (.cells #[.slice (some ⟨g', 0, none⟩) (sz s) cap'] 38)
  have R1 := root_any t g cap _ (ht.rg.below b0) (sz_small ht)
  rw [ht0] at R1
  have HT : Hid (TV g t vv vl w) := ht
  have HS : Hid (TV g' s vv vl w) := hs
  have HI : Hid (IS B l vv vl w) := hI
  have HH : Hid (InstAt a c) := ih
  have HH' : Hid (InstAt b d) := ih'
  have HG1 : Hid (SecondOf t b g cap) := G1
  have HG2 : Hid (SecondOf s d g' cap') := G2
  have HL : Hid (∀ m, fitsT a c l = some m → m.length + sz b ≤ 200000) := hl'
  have HF1 : Hid (FirstOf t a g cap) := F1
  have HF2 : Hid (FirstOf s c g' cap') := F2
  have HS0 : Hid ((rt s 0).op = 62) := hs0
  have d1 : decide ((1000 : Int) ≤ ((62 : Nat) : Int)) = false := by decide

  clear hI ht hs ih ih' F1 F2 G1 G2 ht0 hs0 hl'
  go_enter Tryd.func19, Tryd.ntmps19
  go_wp2_with fail
  refine R1.mono ?_
  rintro e w1 ⟨rfl, b1⟩
  have b01 := b0.trans (b1.mono b0.size)
  have c1 := box1 b1
  have c2 := box2 b1
  clear R1
  go_wp2_with fail
  refine (isVar_any 62 w1).mono ?_
  rintro e w' ⟨rfl, rfl⟩
  rw [d1]
  go_wp2_with fail
  have R2 := root_any s g' cap' _ (HS.out.rg.below b01) (sz_small HS.out)
  rw [HS0.out] at R2
  refine R2.mono ?_
  rintro e w2 ⟨rfl, b2⟩
  have s1 := b1.size
  simp only [World.size_alloc] at s1
  have s2 := b2.size
  have c1 := (b2.cell (p := ⟨w.heap.size, 0, none⟩) (by show w.heap.size < _; omega)).trans c1
  have c2 := (b2.cell (p := ⟨w.heap.size + 1, 0, none⟩) (by show w.heap.size + 1 < _; omega)).trans c2
  have b02 := (b01.trans (b2.mono b01.size)).drew
  clear b1 b2 b01 b0 R2
  have RT := HT.out.rg.below b02
  have RS := HS.out.rg.below b02
  have I2 := HI.out.below b02
  go_wp2_with fail
  go_region_held3 (fun w' => w'.cell? ⟨w.heap.size, 0, none⟩ = some (.slice (some ⟨g, 0, none⟩) (sz t) cap) ∧ w'.cell? ⟨w.heap.size + 1, 0, none⟩ = some (.slice (some ⟨g', 0, none⟩) (sz s) cap'))
    (first | go_keep | (go_split_ands; exact ⟨q1, q2⟩))
    (first
      | (go_at_call 36; (have hb3 := b3); refine (HF2.out _ (RS.below b3)).mono ?_; rintro e w4 ⟨g4, cap4, rfl, R4, hg4, b4⟩; (have q1 := (b4.cell (p := ⟨w.heap.size, 0, none⟩) (by show w.heap.size < w3.heap.size; omega)).trans q1); (have q2 := (b4.cell (p := ⟨w.heap.size + 1, 0, none⟩) (by show w.heap.size + 1 < w3.heap.size; omega)).trans q2))
      | (go_at_call 36; refine (HF1.out _ RT).mono ?_; rintro e w3 ⟨g3, cap3, rfl, R3, hg3, b3⟩; (have q1 := (b3.cell (p := ⟨w.heap.size, 0, none⟩) (by show w.heap.size < w2.heap.size; omega)).trans c1); (have q2 := (b3.cell (p := ⟨w.heap.size + 1, 0, none⟩) (by show w.heap.size + 1 < w2.heap.size; omega)).trans c2); (have s3 : w2.heap.size ≤ w3.heap.size := b3.size))
      | (go_at_call 19; refine (HH.out B l vv vl g3 cap3 g4 cap4 w4 ((I2.below b3).below b4) (by have := b4.size; have := b02.size; omega) ((TV.new HI.out b02 hg3 R3 hza).below b4) (TV.new HI.out (b02.trans (b3.mono b02.size)) hg4 R4 hzc) hl).mono ?_; rintro e w5 ⟨vv5, vl5, rfl, f5, nv5, nl5, i5⟩; (have q1 := (f5.cell (a := ⟨w.heap.size, 0, none⟩) (by have := b4.size; show w.heap.size < _; omega) (HI.out.vlt w.heap.size (Nat.le_refl _)) (HI.out.llt w.heap.size (Nat.le_refl _))).trans q1); (have q2 := (f5.cell (a := ⟨w.heap.size + 1, 0, none⟩) (by have := b4.size; show w.heap.size + 1 < _; omega) (HI.out.vlt (w.heap.size + 1) (by omega)) (HI.out.llt (w.heap.size + 1) (by omega))).trans q2)))
  have b03 := b02.trans (b3.mono b02.size)
  have b04 := b03.trans (b4.mono b03.size)
  have f05 := FI.trans (FI.ofBelow b04) (NewOr.refl _ _) (NewOr.refl _ _) f5
  have nv05 := nv5.up b04.size
  have nl05 := nl5.up b04.size
  have s4 : w.heap.size + 2 ≤ w4.heap.size := by have := b4.size; omega
  have nN : vv5.ownBlock ≠ some w.heap.size := nv5.ne (by omega) (HI.out.vlt _ (Nat.le_refl _))
  have nN1 : vv5.ownBlock ≠ some (w.heap.size + 1) := nv5.ne (by omega) (HI.out.vlt _ (by omega))
  have mN : vl5.ownBlock ≠ some w.heap.size := nl5.ne (by omega) (HI.out.llt _ (Nat.le_refl _))
  have mN1 : vl5.ownBlock ≠ some (w.heap.size + 1) := nl5.ne (by omega) (HI.out.llt _ (by omega))
  have HN : Hid (vv5.ownBlock ≠ some w.heap.size ∧ vv5.ownBlock ≠ some (w.heap.size + 1) ∧ vl5.ownBlock ≠ some w.heap.size ∧ vl5.ownBlock ≠ some (w.heap.size + 1)) := ⟨nN, nN1, mN, mN1⟩
  clear nN nN1 mN mN1
  have s5 : w2.heap.size ≤ w5.heap.size := by have := f5.size; have := b4.size; omega
  cases hq : fitsT a c l with
  | none =>
    have HQ : Hid (fitsB a c b d l = none) := by unfold Hid fitsB; rw [hq]
    clear hq
    go_wp2_with fail
    go_ret3
    rw [HQ.out]
    exact ⟨vv5, vl5, rfl, f05, nv05, nl05, fun m hm => by cases hm⟩
  | some m =>
    have HQ : Hid (fitsB a c b d l = fitsT b d m) := by unfold Hid fitsB; rw [hq]
    have I5 := i5 m hq
    have hlm := HL.out m hq
    have HT5 : Hid (TV g t vv5 vl5 w5) := HT.out.fi f05 nv05 nl05
    have HS5 : Hid (TV g' s vv5 vl5 w5) := HS.out.fi f05 nv05 nl05
    have RT5 := HT5.out.rg.drew
    have RS5 := HS5.out.rg.drew
    have B5 : B ≤ w5.heap.size := by have := b02.size; omega
    have b05 : Below w5.heap.size w5 w5.drew := (Below.refl _ _).drew
    have HI5 : Hid (IS B m vv5 vl5 w5) := I5
    clear hq i5 I5 I2 RT RS R3 R4 b3 b4 b03 b04 c1 c2 f5 nv5 nl5 b02 hg3 hg4 s3
    go_wp2_with fail
    go_region_held3 (fun w' => w'.cell? ⟨w.heap.size, 0, none⟩ = some (.slice (some ⟨g, 0, none⟩) (sz t) cap) ∧ w'.cell? ⟨w.heap.size + 1, 0, none⟩ = some (.slice (some ⟨g', 0, none⟩) (sz s) cap'))
      (first | go_keep | (go_split_ands; exact ⟨q1, q2⟩))
      (first
        | (go_at_call 37; (have hb6 := b6); refine (HG2.out _ (RS5.below b6)).mono ?_; rintro e w7 ⟨g7, cap7, rfl, R7, hg7, b7⟩; (have q1 := (b7.cell (p := ⟨w.heap.size, 0, none⟩) (by show w.heap.size < w6.heap.size; omega)).trans q1); (have q2 := (b7.cell (p := ⟨w.heap.size + 1, 0, none⟩) (by show w.heap.size + 1 < w6.heap.size; omega)).trans q2))
        | (go_at_call 37; refine (HG1.out _ RT5).mono ?_; rintro e w6 ⟨g6, cap6, rfl, R6, hg6, b6⟩; (have q1 := (b6.cell (p := ⟨w.heap.size, 0, none⟩) (by show w.heap.size < w5.heap.size; omega)).trans q1); (have q2 := (b6.cell (p := ⟨w.heap.size + 1, 0, none⟩) (by show w.heap.size + 1 < w5.heap.size; omega)).trans q2); (have s6 : w5.heap.size ≤ w6.heap.size := b6.size))
        | (go_at_call 19; refine (HH'.out B m vv5 vl5 g6 cap6 g7 cap7 w7 (((HI5.out.below b05).below b6).below b7) (by have := b7.size; omega) ((TV.new HI5.out b05 hg6 R6 hzb).below b7) (TV.new HI5.out (b05.trans (b6.mono b05.size)) hg7 R7 hzd) hlm).mono ?_; rintro e w8 ⟨vv8, vl8, rfl, f8, nv8, nl8, i8⟩; (have q1 := (f8.cell (a := ⟨w.heap.size, 0, none⟩) (by have := b7.size; show w.heap.size < _; omega) HN.out.1 HN.out.2.2.1).trans q1); (have q2 := (f8.cell (a := ⟨w.heap.size + 1, 0, none⟩) (by have := b7.size; show w.heap.size + 1 < _; omega) HN.out.2.1 HN.out.2.2.2).trans q2)))
    go_wp2_with fail
    go_ret3
    rw [HQ.out]
    have b06 := b05.trans (b6.mono b05.size)
    have b07 := b06.trans (b7.mono b06.size)
    have f58 := FI.trans (FI.ofBelow b07) (NewOr.refl _ _) (NewOr.refl _ _) f8
    exact ⟨vv8, vl8, rfl, FI.trans f05 nv05 nl05 f58, nv05.trans (nv8.up b07.size) f05.size, nl05.trans (nl8.up b07.size) f05.size, i8⟩

end Go.Proofs.YtceadeaodbadlaaDoor
