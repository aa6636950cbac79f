import Derived.Test.YtceadeaodbadlaaDoorRRead3
set_option linter.unusedVariables false
set_option linter.unusedSimpArgs false
namespace Go.Proofs.YtceadeaodbadlaaDoor
open Go.RowKit

def plr (b : Nat) (w : World) : Nat := (intOf ((w.cell? ⟨b, 2, none⟩).getD .nilIface)).toNat
theorem R0.plr {b : Nat} {s : ByteArray} {i : Nat} {bad : Int} {w : World} (h : R0 b s i bad w) : plr b w = i := by
  unfold YtceadeaodbadlaaDoor.plr; rw [h.c2]; simp [intOf]
theorem KS.place {b : Nat} {s : ByteArray} {r : TOut} {i : Nat} {u : Ty} {w : World} (ok : Ok u) (k : KS b s r i u w) : ∃ q bad, i ≤ q ∧ q ≤ s.size ∧ R0 b s q bad w := by
  have hp := sz_pos ok
  cases r with
  | error p => exact ⟨p, p, k.2.1, k.2.2.1, k.2.2.2⟩
  | ok r => obtain ⟨t, j⟩ := r; obtain ⟨rfl, h1, h2, h3⟩ := k; exact ⟨j, -1, by omega, h2, h3⟩

/-- In the loop of kind: all is well so far, or a fault has been met. -/
def LG (b : Nat) (s : ByteArray) (n i m j : Nat) (t : Ty) (wr : World) : Prop := m ≤ n ∧ j ≤ s.size ∧ 3 * (s.size - j) + 2 ≤ m ∧ pt s m 1 j t = prOut s n i ∧ sz t ≤ j - i ∧ i ≤ j ∧ R0 b s j (-1) wr
def LB (b : Nat) (s : ByteArray) (n i p : Nat) (t : Ty) (wr : World) : Prop := prOut s n i = .error p ∧ sz t ≤ p - i + 1 ∧ i ≤ p ∧ p ≤ s.size ∧ R0 b s p p wr
def LS (b : Nat) (s : ByteArray) (n i : Nat) (t : Ty) (wr : World) : Prop := (∃ m j, LG b s n i m j t wr) ∨ (∃ p, LB b s n i p t wr)

theorem LS.start {b : Nat} {s : ByteArray} {n i : Nat} {u : Ty} {w w' : World} (ok : Ok u) (hi : i ≤ s.size) (hn : 3 * (s.size - i) + 3 ≤ n + 1) (k : KS b s (pt s n 2 i .nil) i u w) (mv : ∀ j bad, R0 b s j bad w → R0 b s j bad w') : LS b s n i u w' := by
  have hp := sz_pos ok
  cases hq : pt s n 2 i .nil with
  | error p =>
    rw [hq] at k
    exact .inr ⟨p, by unfold prOut; rw [hq], k.1, k.2.1, k.2.2.1, mv _ _ k.2.2.2⟩
  | ok r =>
    obtain ⟨t, j⟩ := r
    rw [hq] at k
    obtain ⟨rfl, h1, h2, h3⟩ := k
    exact .inl ⟨n, j, Nat.le_refl n, h2, by omega, by unfold prOut; rw [hq], h1, by omega, mv _ _ h3⟩
theorem LS.star {b : Nat} {s : ByteArray} {n i m j : Nat} {t v : Ty} {w w3 w' : World} (ok : Ok v) (hst : chr s j = 42) (g : LG b s n i (m + 1) j t w) (k : KS b s (pt s m 2 (j + 1) .nil) (j + 1) v w3) (mv : ∀ j bad, R0 b s j bad w3 → R0 b s j bad w') : LS b s n i (tP t v) w' := by
  have hp := sz_pos ok
  have hz : sz (tP t v) = sz t + sz v + 1 := rfl
  obtain ⟨g1, g2, g3, g4, g5, g6, -⟩ := g
  rw [star_yes s m j t hst] at g4
  cases hq : pt s m 2 (j + 1) .nil with
  | error p =>
    rw [hq] at k g4
    obtain ⟨h1, h2, h3, h4⟩ := k
    exact .inr ⟨p, g4.symm, by omega, by omega, h3, mv _ _ h4⟩
  | ok r =>
    obtain ⟨x, q⟩ := r
    rw [hq] at k g4
    obtain ⟨rfl, h1, h2, h3⟩ := k
    exact .inl ⟨m, q, by omega, h2, by omega, g4, by omega, by omega, mv _ _ h3⟩
theorem LS.lt {b : Nat} {s : ByteArray} {n i : Nat} {t : Ty} {w : World} (h : LS b s n i t w) : b < w.heap.size := by
  rcases h with ⟨m, j, h⟩ | ⟨p, h⟩
  · exact h.2.2.2.2.2.2.lt
  · exact h.2.2.2.2.lt
def mapF (t : Ty) : TOut → TOut
  | .error p => .error p
  | .ok (b, l) => .ok (tF t b, l)
theorem pt_fn {s : ByteArray} {n i k : Nat} {t : Ty} (hp : prOut s n i = .ok (t, k)) (hc : chr s k = 62) : pt s (n + 1) 0 i .nil = mapF t (pt s n 0 (k + 1) .nil) := by
  rw [pt_type, hp]
  simp only [hc, if_true]
  cases pt s n 0 (k + 1) .nil <;> rfl
theorem pt_one {s : ByteArray} {n i k : Nat} {t : Ty} (hp : prOut s n i = .ok (t, k)) (hc : chr s k ≠ 62) : pt s (n + 1) 0 i .nil = .ok (t, k) := by
  rw [pt_type, hp]
  simp only [hc, if_false]
theorem pt_bad {s : ByteArray} {n i p : Nat} (hp : prOut s n i = .error p) : pt s (n + 1) 0 i .nil = .error p := by
  rw [pt_type, hp]
theorem KS.fn {b : Nat} {s : ByteArray} {r : TOut} {i k : Nat} {t u : Ty} {w : World} (ok : Ok u) (hz : sz t ≤ k - i) (hik : i ≤ k) (h : KS b s r (k + 1) u w) : KS b s (mapF t r) i (tF t u) w := by
  have hp := sz_pos ok
  have hzz : sz (tF t u) = sz t + sz u + 1 := rfl
  cases r with
  | error p => obtain ⟨h1, h2, h3, h4⟩ := h; exact ⟨by omega, by omega, h3, h4⟩
  | ok r => obtain ⟨x, j⟩ := r; obtain ⟨rfl, h1, h3, h4⟩ := h; exact ⟨rfl, by omega, h3, h4⟩
theorem gb_set {b : Nat} {w0 wX : World} (h : Gb b w0 wX) {q : Nat} (hq : w0.heap.size ≤ q) (v : Value) : Gb b w0 (wX.setCell ⟨q, 0, none⟩ v) := by
  refine ⟨h.os, h.tape, h.output, by simpa [World.setCell] using h.size, fun k hk hn => ?_⟩
  exact (Below.heap_setCell wX ⟨q, 0, none⟩ v k (by simp; omega)).trans (h.block k hk hn)

abbrev tyBox (g n cap : Nat) : Obj := .cells #[.slice (some ⟨g, 0, none⟩) n cap] 38

set_option maxRecDepth 100000 in
set_option maxHeartbeats 4000000 in
theorem rkind_step (b : Nat) (s : ByteArray) (n : Nat) (ihT : Hid (RTypeSaid b s n)) (IH : Hid (∀ m, m ≤ n → RUnitSaid b s m)) (hs : s.size ≤ 50000) : RTypeSaid b s (n + 1) := by
  intro i w h hi hn
  have hlt := h.lt
  go_enter Tryd.func17, Tryd.ntmps17
  go_wp2_with fail
  refine (IH.out n (Nat.le_refl n) i _ (h.alloc nilBox) hi (by omega)).mono ?_
  intro e w1 hp
  obtain ⟨G1, gu, cap, u, rfl, R1, k1⟩ := hp.parts (pt_end2 hi)
  have HS : Hid (LS b s n i u (w1.alloc (tyBox gu (sz u) cap))) := LS.start R1.ok hi hn k1 (fun j bad r => r.alloc _)
  have hq1 : w.heap.size + 1 ≤ w1.heap.size := by have := G1.size; simpa using this
  have hb1 : b < w1.heap.size := k1.lt
  clear hp k1
  go_wp2_with fail
  go_loopw [8] (fun _ wr => ∃ g cap t, wr.heap[w1.heap.size]? = some (.cells #[.slice (some ⟨g, 0, none⟩) (sz t) cap] 38 (0, 0)) ∧ Rg g t wr ∧ Gb b (w.alloc nilBox) wr ∧ Hid (LS b s n i t wr)) (fun _ wr => s.size - plr b wr)
  case atStart => exact ⟨gu, cap, u, heap_alloc_new w1 _, R1.alloc _, G1.alloc _, HS⟩
  case round =>
    clear HS G1 R1
    obtain ⟨g, cap, t, bx, R, G, HS⟩ := hrel
    have rbx := gb_box G hlt
    rcases HS.out with ⟨m, j, LGh⟩ | ⟨p, LBh⟩
    · obtain ⟨m, rfl⟩ : ∃ m', m = m' + 1 := ⟨m - 1, by have := LGh.2.2.1; omega⟩
      have hr : R0 b s j (-1) wr := LGh.2.2.2.2.2.2
      have hj : j ≤ s.size := LGh.2.1
      have hij : i ≤ j := LGh.2.2.2.2.2.1
      have hz : sz t ≤ j - i := LGh.2.2.2.2.1
      have hm1 : m + 1 ≤ n := LGh.1
      have hm2 : 3 * (s.size - j) + 2 ≤ m + 1 := LGh.2.2.1
      have HG : Hid (LG b s n i (m + 1) j t wr) := LGh
      clear LGh HS
      by_cases hst : chr s j = 42
      · have HST : Hid (chr s j = 42) := hst
        have hltj : j < s.size := chr_in (by rw [hst]; decide)
        clear hst
        go_wp2_with fail
        refine (ggot_yes b s j 42 _ hr (by omega) HST.out (by decide)).mono ?_
        rintro e w2 ⟨rfl, h2, g2⟩
        have bx2 := g2.old bx (by omega)
        have cb2 := cell_box bx2
        have UC := IH.out m (by omega) (j + 1) w2.drew h2.drew hltj (by omega)
        have R2 : Rg g t w2 := R.gb g2 (R.ne hr)
        have G2 := G.trans g2
        go_wp2_with fail
        go_region_with (first
          | (go_at_call 30; refine UC.mono ?_; intro e w3 hp; obtain ⟨g3, gv, cv, v, rfl, R3, k3⟩ := hp.parts (pt_end2 hltj); (have bx3 := g3.old (c := w1.heap.size) (x := w2.drew) bx2 (by omega)); (have cb3 := cell_box bx3); (have K3 : Hid (KS b s (pt s m 2 (j + 1) .nil) (j + 1) v w3) := k3); (have hz3 := k3.small); (have G3 := (G2.drewN 1).trans g3); (have R23 : Rg g t w3 := (Rg.drew R2).gb g3 (R.ne hr)); clear hp k3 UC)
          | (go_at_call 32; (have BA : Calls Tryd.prog 32 _ w3 (TPost (tP t v) w3) := both_any 4 (.inl rfl) t v g cap gv cv w3 R23 R3 (by omega) (by omega)); refine BA.mono ?_; rintro e w5 ⟨g5, cap5, rfl, R5, hg5, b5⟩; (obtain ⟨T, hT⟩ : ∃ T, T = tP t v := ⟨_, rfl⟩); (rw [← hT] at R5 ⊢); (have HT : Hid (T = tP t v) := hT); (clear hT BA); (have bx5 := (gb_below (b := b) b5).old bx3 (by omega)); (have cb5 := cell_box bx5); (have fb5 := free_box bx5)))
        all_goals
          have hg5b : g5 ≠ w1.heap.size := R5.neBox bx5
          have hq3 : w1.heap.size < w3.heap.size := (Array.getElem?_eq_some_iff.1 bx3).1
          have HS5 : Hid (LS b s n i T (w5.setCell ⟨w1.heap.size, 0, none⟩ (.slice (some ⟨g5, 0, none⟩) (sz T) cap5))) := by
            rw [HT.out]
            exact LS.star R3.ok HST.out HG.out K3.out (fun j bad r => (r.below b5).setFar (by omega) _)
          have HM : Hid (s.size - plr b (w5.setCell ⟨w1.heap.size, 0, none⟩ (.slice (some ⟨g5, 0, none⟩) (sz T) cap5)) < s.size - plr b wr) := by
            obtain ⟨q, bad, h1, h2, h3⟩ := K3.out.place R3.ok
            unfold Hid
            rw [((h3.below b5).setFar (by omega) _).plr, hr.plr]
            omega
          have G5 : Gb b (w.alloc nilBox) (w5.setCell ⟨w1.heap.size, 0, none⟩ (.slice (some ⟨g5, 0, none⟩) (sz T) cap5)) := gb_set (G3.trans (gb_below b5)) (by simp; omega) _
          have R6 := R5.setBox hg5b (.slice (some ⟨g5, 0, none⟩) (sz T) cap5)
          have bx6 := set_cell0 (v := .slice (some ⟨g5, 0, none⟩) (sz T) cap5) bx5
          go_wp2_with fail
          go_roundw
          case rel => exact ⟨g5, cap5, T, bx6, R6, G5, HS5⟩
          case measure => exact HM.out
      · have HP : Hid (prOut s n i = .ok (t, j)) := by rw [← HG.out.2.2.2.1]; exact star_no s m j t hst
        have HST : Hid (chr s j ≠ 42) := hst
        clear hst
        by_cases hft : chr s j = 62
        · have HF : Hid (pt s (n + 1) 0 i .nil = mapF t (pt s n 0 (j + 1) .nil)) := pt_fn HP.out hft
          have HFT : Hid (chr s j = 62) := hft
          have hltj : j < s.size := chr_in (by rw [hft]; decide)
          clear hft
          go_wp2_with fail
          refine (ggot_no b s j 42 _ hr hj (by omega) HST.out (by decide)).mono ?_
          rintro e w2 ⟨rfl, d, rfl⟩
          go_wp2_with fail
          refine (ggot_yes b s j 62 _ (hr.drewN d) (by omega) HFT.out (by decide)).mono ?_
          rintro e w2 ⟨rfl, h2, g2⟩
          have bx2 := g2.old (x := wr.drewN d) bx (by omega)
          have cb2 := cell_box bx2
          have UC := ihT.out (j + 1) w2.drew h2.drew hltj (by omega)
          have R2 : Rg g t w2 := R.gb ((gb_drew d).trans g2) (R.ne hr)
          have G2 := (G.drewN d).trans g2
          go_wp2_with fail
          go_region_with (first
            | (go_at_call 17; refine UC.mono ?_; intro e w3 hp; obtain ⟨g3, gv, cv, v, rfl, R3, k3⟩ := hp.parts (pt_end hltj); (have bx3 := g3.old (c := w1.heap.size) (x := w2.drew) bx2 (by omega)); (have cb3 := cell_box bx3); (have K3 : Hid (KS b s (pt s n 0 (j + 1) .nil) (j + 1) v w3) := k3); (have hz3 := k3.small); (have G3 := (G2.drewN 1).trans g3); (have R23 : Rg g t w3 := (Rg.drew R2).gb g3 (R.ne hr)); clear hp k3 UC)
            | (go_at_call 32; (have BA : Calls Tryd.prog 32 _ w3 (TPost (tF t v) w3) := both_any 5 (.inr rfl) t v g cap gv cv w3 R23 R3 (by omega) (by omega)); refine BA.mono ?_; rintro e w5 ⟨g5, cap5, rfl, R5, hg5, b5⟩; (obtain ⟨T, hT⟩ : ∃ T, T = tF t v := ⟨_, rfl⟩); (rw [← hT] at R5 ⊢); (have HT : Hid (T = tF t v) := hT); (clear hT BA); (have G5 := G3.trans (gb_below (b := b) b5)); (have bx5 := gb_box G5 hlt); (have cb5 := cell_box bx5); (have fb5 := free_box bx5)))
          all_goals
            go_wp2_with fail
            refine ret_type rfl rfl (set_cell0 bx5) ?_
            rw [HF.out]
            refine RKPost.of (gb_fin G5 _) (R5.setBox (R5.neBox bx5) _) ?_
            rw [HT.out]
            exact (KS.fn R3.ok hz hij K3.out).moved (fun j bad r => (r.below b5).setFar (by omega) _)
        · have HF : Hid (pt s (n + 1) 0 i .nil = .ok (t, j)) := pt_one HP.out hft
          have HFT : Hid (chr s j ≠ 62) := hft
          clear hft
          go_wp2_with fail
          refine (ggot_no b s j 42 _ hr hj (by omega) HST.out (by decide)).mono ?_
          rintro e w2 ⟨rfl, d, rfl⟩
          go_wp2_with fail
          refine (ggot_no b s j 62 _ (hr.drewN d) hj (by omega) HFT.out (by decide)).mono ?_
          rintro e w2 ⟨rfl, d2, rfl⟩
          have cb := cell_box bx
          have rcb := cell_box rbx
          have rfb := free_box rbx
          go_wp2_with fail
          refine ret_type rfl rfl (set_cell0 rbx) ?_
          rw [HF.out]
          exact RKPost.of (gb_fin (G.drewN _) _) ((R.gb (gb_drew (b := b) _) (R.ne hr)).setBox (R.neBox rbx) _) ⟨rfl, hz, hj, (hr.drewN _).setFar (by omega) _⟩
    · have hr : R0 b s p p wr := LBh.2.2.2.2
      have HB : Hid (LB b s n i p t wr) := LBh
      have HF : Hid (pt s (n + 1) 0 i .nil = .error p) := pt_bad LBh.1
      have cb := cell_box bx
      have rcb := cell_box rbx
      have rfb := free_box rbx
      clear LBh HS
      go_wp2_with fail
      refine (ggot_bad b s p p 42 _ hr).mono ?_
      rintro e w2 ⟨rfl, d, rfl⟩
      go_wp2_with fail
      refine (ggot_bad b s p p 62 _ (hr.drewN d)).mono ?_
      rintro e w2 ⟨rfl, d2, rfl⟩
      go_wp2_with fail
      refine ret_type rfl rfl (set_cell0 rbx) ?_
      rw [HF.out]
      exact RKPost.of (gb_fin (G.drewN _) _) ((R.gb (gb_drew (b := b) _) (R.ne hr)).setBox (R.neBox rbx) _) ⟨HB.out.2.1, HB.out.2.2.1, HB.out.2.2.2.1, (hr.drewN _).setFar (by omega) _⟩

theorem rkinds_all (b : Nat) (s : ByteArray) (hs : s.size ≤ 50000) : ∀ n m, m ≤ n → RTypeSaid b s m ∧ RUnitSaid b s m := by
  have zero : RTypeSaid b s 0 ∧ RUnitSaid b s 0 := ⟨fun i w _ _ h0 => absurd h0 (by omega), fun i w _ _ h0 => absurd h0 (by omega)⟩
  intro n
  induction n with
  | zero => intro m hm; obtain rfl : m = 0 := by omega
            exact zero
  | succ n ih =>
    intro m hm
    rcases Nat.lt_or_ge m (n + 1) with h | h
    · exact ih m (by omega)
    · obtain rfl : m = n + 1 := by omega
      exact ⟨rkind_step b s n (ih n (Nat.le_refl n)).1 (fun m hm => (ih m hm).2) hs, runit_any b s n (ih n (Nat.le_refl n)).1 hs⟩
end Go.Proofs.YtceadeaodbadlaaDoor
