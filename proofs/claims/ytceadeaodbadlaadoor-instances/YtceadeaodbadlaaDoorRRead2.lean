import Derived.Test.YtceadeaodbadlaaDoorRRead
import Derived.Test.YtceadeaodbadlaaDoorKind2
import Derived.Deep.RegionHeld3
set_option linter.unusedVariables false
set_option linter.unusedSimpArgs false
namespace Go.Proofs.YtceadeaodbadlaaDoor
open Go.RowKit

/-- What the reference's reader of a type leaves. -/
def RKPost (b : Nat) (s : ByteArray) (r : TOut) (i : Nat) (w : World) (e : Ending) (w' : World) : Prop :=
  Gb b w w' ∧ match r with
    | .error p => ∃ g cap u, e = .returned (.agg #[.slice (some ⟨g, 0, none⟩) (sz u) cap]) ∧ Rg g u w' ∧ sz u ≤ p - i + 1 ∧ i ≤ p ∧ p ≤ s.size ∧ R0 b s p p w'
    | .ok (t, j) => ∃ g cap, e = .returned (.agg #[.slice (some ⟨g, 0, none⟩) (sz t) cap]) ∧ Rg g t w' ∧ sz t ≤ j - i ∧ R0 b s j (-1) w'

def RTypeSaid (b : Nat) (s : ByteArray) (n : Nat) : Prop :=
  ∀ (i : Nat) (w : World), R0 b s i (-1) w → i ≤ s.size → 3 * (s.size - i) + 3 ≤ n →
    Calls Tryd.prog 17 #[.pointer (some ⟨b, 0, none⟩)] w (RKPost b s (pt s n 0 i .nil) i w)
def RUnitSaid (b : Nat) (s : ByteArray) (n : Nat) : Prop :=
  ∀ (i : Nat) (w : World), R0 b s i (-1) w → i ≤ s.size → 3 * (s.size - i) + 1 ≤ n →
    Calls Tryd.prog 30 #[.pointer (some ⟨b, 0, none⟩)] w (RKPost b s (pt s n 2 i .nil) i w)

abbrev nilBox : Obj := .cells #[.slice none 0 0] 38
theorem Rg.neBox {g q : Nat} {t : Ty} {w : World} {v : Option Addr} {m c : Nat} {T : TypeId} (h : Rg g t w) (k : w.heap[q]? = some (.cells #[.slice v m c] T (0, 0))) : g ≠ q := by
  rintro rfl
  have hp := sz_pos h.ok
  obtain ⟨n, hn⟩ : ∃ n, (nd t 0)[0]? = some n := ⟨_, List.getElem?_eq_getElem (by rw [nd_length]; omega)⟩
  have := (h.cell 0 n hn).1
  rw [Nat.zero_mul, cell_box k] at this
  cases this
theorem gb_box {b : Nat} {w wX : World} {o : Obj} (hg : Gb b (w.alloc o) wX) (hb : b < w.heap.size) : wX.heap[w.heap.size]? = some o := hg.old (heap_alloc_new w o) (by omega)
theorem gb_fin {b : Nat} {w wX : World} {o : Obj} (hg : Gb b (w.alloc o) wX) (v : Value) : Gb b w (wX.setCell ⟨w.heap.size, 0, none⟩ v) := by
  have h1 : Gb b w wX := ((Gb.refl b w).alloc o).trans hg
  refine ⟨h1.os, h1.tape, h1.output, by simpa [World.setCell] using Gb.size h1, fun k hk hn => ?_⟩
  exact (Below.heap_setCell wX ⟨w.heap.size, 0, none⟩ v k (by simp; omega)).trans (h1.block k hk hn)
theorem Rg.setBox {g q : Nat} {t : Ty} {w : World} (h : Rg g t w) (hn : g ≠ q) (v : Value) : Rg g t (w.setCell ⟨q, 0, none⟩ v) := h.kept (set_grown q v) (by simp; exact fun e => hn e.symm)

set_option maxRecDepth 100000 in
set_option maxHeartbeats 1000000 in
theorem runit_let (b : Nat) (s : ByteArray) (n i : Nat) (w : World) (h : R0 b s i (-1) w) (hi : i ≤ s.size) (hs : s.size ≤ 100000) (hc : isLet (chr s i) = true) :
    Calls Tryd.prog 30 #[.pointer (some ⟨b, 0, none⟩)] w (RKPost b s (unOut s n i) i w) := by
  have hlt := h.lt
  have hb : isLet (chr s i) = inR (chr s i) 97 122 := rfl
  have HR : Hid (unOut s n i = vOut s i) := by
    have : 97 ≤ chr s i ∧ chr s i ≤ 122 := by simpa [isLet] using hc
    exact un_V (by omega) (by omega) (by omega) (by omega) hc
  have hv := vnum_ok (d := chr s (i + 1)) hc
  have HC : Hid (isLet (chr s i) = true) := hc
  obtain ⟨o, ho⟩ : ∃ o, o = vnum (chr s i) (chr s (i + 1)) := ⟨_, rfl⟩
  obtain ⟨j, hj⟩ : ∃ j, j = if 49 ≤ chr s (i + 1) ∧ chr s (i + 1) ≤ 57 then i + 2 else i + 1 := ⟨_, rfl⟩
  have HV : Hid (unOut s n i = .ok (tV o, j)) := by unfold Hid; rw [HR.out, ho, hj]; rfl
  rw [← ho] at hv
  have hjlt : i + 1 ≤ j := by rw [hj]; split <;> omega
  have HO : Hid (o + 30 = vnum (chr s i) (chr s (i + 1)) + 30) := by unfold Hid; rw [ho]
  have HJ : Hid (j = if 49 ≤ chr s (i + 1) ∧ chr s (i + 1) ≤ 57 then i + 2 else i + 1) := hj
  clear hc hb ho hj HR
  go_enter Tryd.func30, Tryd.ntmps30
  go_wp2_with fail
  refine (ris_ok b s i 97 122 [] _ (h.alloc nilBox).toSt hi hs (by decide)).mono ?_
  rintro e w' ⟨rfl, d, rfl⟩
  rw [show inR (chr s i) 97 122 = true from HC.out]
  go_wp2_with fail
  refine (gvariable_raw b s i (o + 30) j _ ((h.alloc nilBox).drewN d) hs HC.out HO HJ).mono ?_
  rintro e w1 ⟨rfl, h1, g1⟩
  go_wp2_with fail
  refine (leaf_any 2 o (by omega) (okV hv.1 hv.2) w1).mono ?_
  rintro e w2 ⟨g2, cap2, rfl, R2, hg2, b2⟩
  have G1 : Gb b (w.alloc nilBox) w2 := ((Gb.refl b (w.alloc nilBox)).drewN d).trans (g1.trans ⟨b2.os, b2.tape, b2.output, b2.size, fun k hk _ => b2.block k hk⟩)
  have hbx := gb_box G1 hlt
  have cb := cell_box hbx
  have fb := free_box hbx
  have R02 := h1.below b2
  go_wp2_with fail
  refine ret_type rfl rfl (set_cell0 hbx) ?_
  refine ⟨gb_fin G1 _, ?_⟩
  rw [HV.out]
  exact ⟨g2, cap2, rfl, R2.setBox (R2.neBox hbx) _, by rw [leaf_sz]; omega, R02.setFar (by omega) _⟩

theorem let_ne {c : Nat} (h : inR c 97 122 = false) : isLet c = false := h

set_option maxRecDepth 100000 in
set_option maxHeartbeats 2000000 in
theorem runit_leaf (gt c : Nat) (hgt : (gt = 0 ∧ c = 73) ∨ (gt = 1 ∧ c = 66)) (b : Nat) (s : ByteArray) (n i : Nat) (w : World) (h : R0 b s i (-1) w) (hi : i ≤ s.size) (hs : s.size ≤ 100000) (hc : chr s i = c) :
    Calls Tryd.prog 30 #[.pointer (some ⟨b, 0, none⟩)] w (RKPost b s (unOut s n i) i w) := by
  have hlt := h.lt
  have hlt0 : i < s.size := chr_in (by rw [hc]; omega)
  have hcc : c = 73 ∨ c = 66 := by omega
  have HV : Hid (unOut s n i = .ok (.node gt 0 () .nil .nil, i + 1)) := by
    unfold Hid
    rcases hgt with ⟨rfl, rfl⟩ | ⟨rfl, rfl⟩
    · exact un_I hc
    · exact un_B hc
  have HO : Hid (Ok (.node gt 0 () .nil .nil)) := by
    unfold Hid
    rcases hgt with ⟨rfl, rfl⟩ | ⟨rfl, rfl⟩
    · exact okI
    · exact okB
  have HG : Hid (sgn gt 0 = c ∧ gt ≤ 2) := by
    unfold Hid
    rcases hgt with ⟨rfl, rfl⟩ | ⟨rfl, rfl⟩ <;> exact ⟨rfl, by decide⟩
  have HL : Hid (inR (chr s i) 97 122 = false) := by
    unfold Hid; rw [hc]; rcases hcc with rfl | rfl <;> decide
  have HI : Hid ((inR (chr s i) 73 73 || inR (chr s i) 66 66) = true) := by
    unfold Hid; rw [hc]; rcases hcc with rfl | rfl <;> decide
  have hci : s[i].toNat = c := by rw [← hc]; simp [chr, hlt0]
  clear hgt hc
  have hr1 : Hid (∃ x, x = inR (chr s i) 73 73) := ⟨_, rfl⟩
  obtain ⟨x, hx⟩ := hr1.out
  obtain ⟨y, hy⟩ : ∃ y, y = inR (chr s i) 66 66 := ⟨_, rfl⟩
  have HXY : Hid ((x || y) = true) := by unfold Hid; rw [hx, hy]; exact HI.out
  have HX : Hid (inR (chr s i) 73 73 = x) := hx.symm
  have HY : Hid (inR (chr s i) 66 66 = y) := hy.symm
  clear hr1 hx hy HI
  go_enter Tryd.func30, Tryd.ntmps30
  go_wp2_with fail
  refine (ris_ok b s i 97 122 [] _ (h.alloc nilBox).toSt hi hs (by decide)).mono ?_
  rintro e w' ⟨rfl, d, rfl⟩
  rw [HL.out]
  go_wp2_with fail
  refine (ris_ok b s i 73 73 [] _ ((h.alloc nilBox).drewN d).toSt hi hs (by decide)).mono ?_
  rintro e w' ⟨rfl, d1, rfl⟩
  rw [HX.out]
  go_wp2_with fail
  refine (ris_ok b s i 66 66 [] _ ((h.alloc nilBox).drewN _).toSt hi hs (by decide)).mono ?_
  rintro e w' ⟨rfl, d2, rfl⟩
  rw [HY.out]
  have h3 := ((h.alloc nilBox).drewN (d + d1)).drewN d2
  have g3 : Gb b (w.alloc nilBox) (((w.alloc nilBox).drewN (d + d1)).drewN d2) := ((Gb.refl b (w.alloc nilBox)).drewN _).drewN _
  generalize ((w.alloc nilBox).drewN (d + d1)).drewN d2 = w3 at h3 g3 ⊢
  have c2 := h3.c2
  have f2 := h3.fz 2
  have HN : Hid (R0 b s (i + 1) (-1) (w3.setCell ⟨b, 2, none⟩ (.int .i64 ((i : Int) + 1)))) := h3.next 0
  have G4 : Gb b (w.alloc nilBox) (w3.setCell ⟨b, 2, none⟩ (.int .i64 ((i : Int) + 1))) := g3.setCell 2 _
  have hxy : (x = true) ∨ (x = false ∧ y = true) := by have := HXY.out; cases x <;> simp_all
  have hc9 : c ≤ 73 := by omega
  clear HL HX HY HXY hcc
  rcases hxy with rfl | ⟨rfl, rfl⟩
  all_goals
    go_wp2_with fail
    have h4 := HN.out
    generalize w3.setCell ⟨b, 2, none⟩ (.int .i64 ((i : Int) + 1)) = w4 at h4 G4 ⊢
    clear HN c2 f2
    obtain ⟨i1, hi1⟩ : ∃ i1, i1 = i + 1 := ⟨_, rfl⟩
    rw [← hi1] at h4
    have he : ((i1 : Int) - 1) = (i : Int) := by omega
    have HI1 : Hid (i1 = i + 1) := hi1
    have c0 := h4.c0
    have c2 := h4.c2
    have hw : IntKind.i64.wrap (i : Int) = (i : Int) := IntWalk.i64_in _ ⟨by omega, by omega⟩
    have hwc : IntKind.i64.wrap (c : Int) = (c : Int) := IntWalk.i64_in _ ⟨by omega, by omega⟩
    have hqb : w.heap.size ≠ b := by omega
    have LF := leaf_any gt 0 HG.out.2 HO.out w4.drew
    rw [HG.out.1] at LF
    clear hi1
    go_region_held3 (fun wq => wq.cell? ⟨b, 0, none⟩ = some (.string s) ∧ wq.cell? ⟨b, 2, none⟩ = some (.int .i64 (i1 : Int)))
      (first | go_keep | (go_split_ands; exact ⟨q0, q2⟩) | exact ⟨(h5.setFar hqb _).c0, (h5.setFar hqb _).c2⟩)
      (first | (go_at_call 48; refine LF.mono ?_; rintro e w5 ⟨g5, cap5, rfl, R5, hg5, b5⟩; (have h5 := h4.drew.below b5); (have q0 := h5.c0); (have q2 := h5.c2); (have G5 : Gb b (w.alloc nilBox) w5 := (G4.drewN 1).trans ⟨b5.os, b5.tape, b5.output, b5.size, fun k hk _ => b5.block k hk⟩); (have hbx := gb_box G5 hlt); (have cb := cell_box hbx); (have fb := free_box hbx)))
    go_wp2_with fail
    refine ret_type rfl rfl (set_cell0 hbx) ?_
    refine ⟨gb_fin G5 _, ?_⟩
    rw [HV.out]
    exact ⟨g5, cap5, rfl, R5.setBox (R5.neBox hbx) _, by rw [leaf_sz]; omega, by rw [← HI1.out]; exact h5.setFar (by omega) _⟩
end Go.Proofs.YtceadeaodbadlaaDoor
