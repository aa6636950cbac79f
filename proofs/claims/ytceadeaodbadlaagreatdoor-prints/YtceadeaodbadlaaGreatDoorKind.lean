import Derived.Test.YtceadeaodbadlaaGreatDoorMade2
import Derived.Laws.ResultCell
set_option linter.unusedVariables false
set_option linter.unusedSimpArgs false
namespace Go.Proofs.YtceadeaodbadlaaGreatDoor
open Go.RowKit

/-- What a reader of a type leaves. -/
def KPost (tx : Nat → Addr) (b : Nat) (s : ByteArray) (r : TOut) (w : World) (e : Ending) (w' : World) : Prop :=
  Gb b w w' ∧ match r with
    | .error p => ∃ q, e = .returned (.tuple #[.nilIface, atv q]) ∧ AtErr (tx 1) q p w'
    | .ok (t, j) => ∃ v, e = .returned (.tuple #[v, .nilIface]) ∧ Tv w' t v ∧ Rd b s j w'

def TypeSaid (tx : Nat → Addr) (b : Nat) (s : ByteArray) (n : Nat) : Prop :=
  ∀ (i : Nat) (w : World), Rd b s i w → Gl tx w → i ≤ s.size → 3 * (s.size - i) + 3 ≤ n →
    Calls Tryz.prog 142 #[.pointer (some ⟨b, 0, none⟩)] w (KPost tx b s (pt s n 0 i .nil) w)
def UnitSaid (tx : Nat → Addr) (b : Nat) (s : ByteArray) (n : Nat) : Prop :=
  ∀ (i : Nat) (w : World), Rd b s i w → Gl tx w → i ≤ s.size → 3 * (s.size - i) + 1 ≤ n →
    Calls Tryz.prog 208 #[.pointer (some ⟨b, 0, none⟩)] w (KPost tx b s (pt s n 2 i .nil) w)

theorem KPost.hand {tx : Nat → Addr} {b : Nat} {s : ByteArray} {r : TOut} {w w1 w2 : World} {e : Ending} (hg : Gb b w w1) (h : KPost tx b s r w1 e w2) : KPost tx b s r w e w2 := ⟨hg.trans h.1, h.2⟩
theorem KPost.two {tx : Nat → Addr} {b : Nat} {s : ByteArray} {r : TOut} {w w1 : World} {e : Ending} (h : KPost tx b s r w e w1) : ∃ u v, e = .returned (.tuple #[u, v]) := by
  obtain ⟨_, h⟩ := h
  cases r with
  | error p => obtain ⟨q, rfl, _⟩ := h; exact ⟨_, _, rfl⟩
  | ok r => obtain ⟨t, j⟩ := r; obtain ⟨v, h, _⟩ := h; exact ⟨_, _, h⟩

theorem chrAt {s : ByteArray} {i : Nat} (hlt : i < s.size) : s[i].toNat = chr s i := by simp [chr, hlt]

theorem Gb.setNew {b c k : Nat} {x y : World} {u : Value} (h : Gb b x y) (hc : x.heap.size ≤ c) : Gb b x (y.setCell ⟨c, k, none⟩ u) :=
  ⟨h.os, h.tape, h.output, Nat.le_trans h.size (by simp [World.setCell]), fun i hi hn => (Below.heap_setCell _ _ _ _ (by show ¬ _; simp; omega)).trans (h.block i hi hn)⟩

theorem sizeVar (a b : Value) : (Tryz.prog.info? 263).map (·.size) = some (#[a, b]).size := by kernel_rfl
/-- A variable and an error handed back. -/
theorem ret_var {fn : Func} {p u : Tmp} (h : fn.results = #[.cell p 263, .tmp u]) {tmps : Array Value} {w : World} {g : Nat} {a b x : Value} {Q : Ending → World → Prop}
    (hp : tmps.getD p undef = .pointer (some ⟨g, 0, none⟩)) (hx : tmps.getD u undef = x) (hg : w.heap[g]? = some (.cells #[a, b] 263 (0, 0))) (hq : Q (.returned (.tuple #[.agg #[a, b], x])) w) : bodyPost Tryz.prog fn Q Exit.ret { tmps := tmps, defers := [] } w := by
  refine bodyPost_ret ?_ rfl hq
  have hl := run_loadVar_row w g 263 263 #[a, b] (0, 0) _ hg Tryz.underlying263 rfl (sizeVar a b)
  rw [results_cell_tmp h, hp, hx]
  simp [asAddr, hl, Result.andThen]

theorem Gb.un {b : Nat} {w w' : World} {o : Obj} (h : Gb b (w.alloc o) w') : Gb b w w' := ((Gb.refl b w).alloc o).trans h

theorem set_two {w : World} {g : Nat} {a b u v : Value} {T : TypeId} (hg : w.heap[g]? = some (.cells #[a, b] T (0, 0))) : ((w.setCell ⟨g, 0, none⟩ u).setCell ⟨g, 1, none⟩ v).heap[g]? = some (.cells #[u, v] T (0, 0)) := by
  simp [World.setCell, Array.getElem?_modify, hg]
theorem set_two_other {w : World} {g c : Nat} {u v : Value} (h : c ≠ g) : ((w.setCell ⟨g, 0, none⟩ u).setCell ⟨g, 1, none⟩ v).heap[c]? = w.heap[c]? := by
  rw [Below.heap_setCell _ _ _ _ (by show ¬ _; simp; omega), Below.heap_setCell _ _ _ _ (by show ¬ _; simp; omega)]

set_option maxHeartbeats 400000 in
theorem rv_no (tx : Nat → Addr) (b : Nat) (s : ByteArray) (i : Nat) (w : World) (h : Rd b s i w) (g : Gl tx w) (hi : i ≤ s.size) (hs : s.size ≤ 100000) (hb : 9 ≤ b) (hc : isLet (chr s i) = false) :
    Calls Tryz.prog 212 #[.pointer (some ⟨b, 0, none⟩)] w fun e w' => ∃ q, e = .returned (.tuple #[.agg #[.int .u8 0, .int .u8 0], atv q]) ∧ AtErr (tx 1) q i w' ∧ Gb b w w' := by
  have h1 := h.alloc (.cells #[.int .u8 0, .int .u8 0] 263)
  have g1 := g.gb ((Gb.refl b w).alloc (.cells #[.int .u8 0, .int .u8 0] 263)) hb
  have hbw := h.lt
  go_enter Tryz.func212, Tryz.ntmps212
  go_wp2_with fail
  refine (letter_no tx b s i _ h1 g1 hi hs hc hb).mono ?_
  rintro e w1 ⟨q, rfl, ha, hg⟩
  clear hc
  have hv : w1.heap[w.heap.size]? = some (.cells #[.int .u8 0, .int .u8 0] 263 (0, 0)) := hg.old (heap_alloc_new w _) (by omega)
  have c0 : w1.cell? ⟨w.heap.size, 0, none⟩ = some (.int .u8 0) := by rw [Lib.cell_of_heap hv]; rfl
  have c1 : w1.cell? ⟨w.heap.size, 1, none⟩ = some (.int .u8 0) := by rw [Lib.cell_of_heap hv]; rfl
  have f0 : w1.frozen? ⟨w.heap.size, 0, none⟩ = false := Lib.frozen_of_heap hv 0
  have f1 : w1.frozen? ⟨w.heap.size, 1, none⟩ = false := Lib.frozen_of_heap hv 1
  have hq : q ≠ w.heap.size := by
    rintro rfl
    unfold AtErr at ha
    rw [hv] at ha
    simp at ha
  go_wp2_with fail
  refine ret_var rfl rfl rfl (set_two hv) ?_
  exact ⟨q, rfl, (set_two_other hq).trans ha, (hg.un.setNew (Nat.le_refl _)).setNew (Nat.le_refl _)⟩

set_option maxHeartbeats 400000 in
theorem rv_yes (b : Nat) (s : ByteArray) (i : Nat) (w : World) (h : Rd b s i w) (hi : i ≤ s.size) (hs : s.size ≤ 100000) (hc : isLet (chr s i) = true) :
    Calls Tryz.prog 212 #[.pointer (some ⟨b, 0, none⟩)] w fun e w' => e = .returned (.tuple #[kv (vnum (chr s i) (chr s (i + 1))), .nilIface]) ∧ Rd b s (vEnd s i) w' ∧ Gb b w w' := by
  have hlt : i < s.size := chr_in (by intro e; rw [e] at hc; exact absurd hc (by decide))
  have hl := chr_lt s (i + 1)
  have HC : Hid (isLet (chr s i) = true) := hc
  clear hc
  have h1 := h.alloc (.cells #[.int .u8 0, .int .u8 0] 263)
  have hbw := h.lt
  by_cases hd : 49 ≤ chr s (i + 1) ∧ chr s (i + 1) ≤ 57
  · have hlt2 : i + 1 < s.size := chr_in (by omega)
    have HV : Hid (kv (vnum (chr s i) (chr s (i + 1))) = .agg #[.int .u8 (chr s i : Int), .int .u8 ((chr s (i + 1) : Int) - 48)]) := by
      unfold Hid
      rw [vnum, if_pos hd]; unfold kv
      have e1 : (10 * chr s i + (chr s (i + 1) - 48)) / 10 = chr s i := by omega
      have e2 : (10 * chr s i + (chr s (i + 1) - 48)) % 10 = chr s (i + 1) - 48 := by omega
      have e3 : ((chr s (i + 1) - 48 : Nat) : Int) = (chr s (i + 1) : Int) - 48 := by omega
      rw [e1, e2, e3]
    have HJ : Hid (vEnd s i = i + 2) := by unfold Hid vEnd; rw [if_pos hd]
    have d1 : decide ((chr s (i + 1) : Int) < 49) = false := by simp; omega
    have d2 : decide ((57 : Int) < (chr s (i + 1) : Int)) = false := by simp; omega
    go_enter Tryz.func212, Tryz.ntmps212
    go_wp2_with fail
    refine (letter_yes b s i _ h1 hs HC.out).mono ?_
    rintro e w1 ⟨rfl, hr, hg⟩
    go_wp2_with fail
    refine (peek_any b s (i + 1) w1 hr (by omega) hs).mono ?_
    rintro e w2 ⟨rfl, d, rfl⟩
    go_wp2_with fail
    refine (skip_any b s (i + 1) _ (hr.drewN d) hlt2 hs).mono ?_
    rintro e w3 ⟨rfl, hr3, hg3⟩
    have hg4 := (hg.drewN d).trans hg3
    have hv : w3.heap[w.heap.size]? = some (.cells #[.int .u8 0, .int .u8 0] 263 (0, 0)) := hg4.old (heap_alloc_new w _) (by omega)
    have c0 : w3.cell? ⟨w.heap.size, 0, none⟩ = some (.int .u8 0) := by rw [Lib.cell_of_heap hv]; rfl
    have c1 : w3.cell? ⟨w.heap.size, 1, none⟩ = some (.int .u8 0) := by rw [Lib.cell_of_heap hv]; rfl
    have f0 : w3.frozen? ⟨w.heap.size, 0, none⟩ = false := Lib.frozen_of_heap hv 0
    have f1 : w3.frozen? ⟨w.heap.size, 1, none⟩ = false := Lib.frozen_of_heap hv 1
    go_wp2_with fail
    refine ret_var rfl rfl rfl (set_two hv) ?_
    refine ⟨?_, ?_, (hg4.un.setNew (Nat.le_refl _)).setNew (Nat.le_refl _)⟩
    · rw [HV.out]; rfl
    · rw [HJ.out]; exact (set_two_other (by omega)).trans hr3
  · have HV : Hid (kv (vnum (chr s i) (chr s (i + 1))) = .agg #[.int .u8 (chr s i : Int), .int .u8 0]) := by
      unfold Hid
      rw [vnum, if_neg hd]; unfold kv
      have e1 : (10 * chr s i + 0) / 10 = chr s i := by omega
      have e2 : (10 * chr s i + 0) % 10 = 0 := by omega
      rw [e1, e2]; rfl
    have HJ : Hid (vEnd s i = i + 1) := by unfold Hid vEnd; rw [if_neg hd]
    by_cases h1' : chr s (i + 1) < 49
    · have d1 : decide ((chr s (i + 1) : Int) < 49) = true := by simp; omega
      go_enter Tryz.func212, Tryz.ntmps212
      go_wp2_with fail
      refine (letter_yes b s i _ h1 hs HC.out).mono ?_
      rintro e w1 ⟨rfl, hr, hg⟩
      go_wp2_with fail
      refine (peek_any b s (i + 1) w1 hr (by omega) hs).mono ?_
      rintro e w2 ⟨rfl, d, rfl⟩
      have hr3 := hr.drewN d
      have hg4 := hg.drewN d
      have hv : (w1.drewN d).heap[w.heap.size]? = some (.cells #[.int .u8 0, .int .u8 0] 263 (0, 0)) := hg4.old (heap_alloc_new w _) (by omega)
      have c0 : (w1.drewN d).cell? ⟨w.heap.size, 0, none⟩ = some (.int .u8 0) := by rw [Lib.cell_of_heap hv]; rfl
      have c1 : (w1.drewN d).cell? ⟨w.heap.size, 1, none⟩ = some (.int .u8 0) := by rw [Lib.cell_of_heap hv]; rfl
      have f0 : (w1.drewN d).frozen? ⟨w.heap.size, 0, none⟩ = false := Lib.frozen_of_heap hv 0
      have f1 : (w1.drewN d).frozen? ⟨w.heap.size, 1, none⟩ = false := Lib.frozen_of_heap hv 1
      generalize w1.drewN d = w3 at *
      go_wp2_with fail
      refine ret_var rfl rfl rfl (set_two hv) ?_
      refine ⟨?_, ?_, (hg4.un.setNew (Nat.le_refl _)).setNew (Nat.le_refl _)⟩
      · rw [HV.out]; rfl
      · rw [HJ.out]; exact (set_two_other (by omega)).trans hr3
    · have d1 : decide ((chr s (i + 1) : Int) < 49) = false := by simp; omega
      have d2 : decide ((57 : Int) < (chr s (i + 1) : Int)) = true := by simp; omega
      go_enter Tryz.func212, Tryz.ntmps212
      go_wp2_with fail
      refine (letter_yes b s i _ h1 hs HC.out).mono ?_
      rintro e w1 ⟨rfl, hr, hg⟩
      go_wp2_with fail
      refine (peek_any b s (i + 1) w1 hr (by omega) hs).mono ?_
      rintro e w2 ⟨rfl, d, rfl⟩
      have hr3 := hr.drewN d
      have hg4 := hg.drewN d
      have hv : (w1.drewN d).heap[w.heap.size]? = some (.cells #[.int .u8 0, .int .u8 0] 263 (0, 0)) := hg4.old (heap_alloc_new w _) (by omega)
      have c0 : (w1.drewN d).cell? ⟨w.heap.size, 0, none⟩ = some (.int .u8 0) := by rw [Lib.cell_of_heap hv]; rfl
      have c1 : (w1.drewN d).cell? ⟨w.heap.size, 1, none⟩ = some (.int .u8 0) := by rw [Lib.cell_of_heap hv]; rfl
      have f0 : (w1.drewN d).frozen? ⟨w.heap.size, 0, none⟩ = false := Lib.frozen_of_heap hv 0
      have f1 : (w1.drewN d).frozen? ⟨w.heap.size, 1, none⟩ = false := Lib.frozen_of_heap hv 1
      generalize w1.drewN d = w3 at *
      go_wp2_with fail
      refine ret_var rfl rfl rfl (set_two hv) ?_
      refine ⟨?_, ?_, (hg4.un.setNew (Nat.le_refl _)).setNew (Nat.le_refl _)⟩
      · rw [HV.out]; rfl
      · rw [HJ.out]; exact (set_two_other (by omega)).trans hr3

def vOut (s : ByteArray) (i : Nat) : TOut := .ok (tV (vnum (chr s i) (chr s (i + 1))), vEnd s i)

set_option maxHeartbeats 400000 in
theorem variable_no (tx : Nat → Addr) (b : Nat) (s : ByteArray) (i : Nat) (w : World) (h : Rd b s i w) (g : Gl tx w) (hi : i ≤ s.size) (hs : s.size ≤ 100000) (hb : 9 ≤ b) (hc : isLet (chr s i) = false) :
    Calls Tryz.prog 231 #[.pointer (some ⟨b, 0, none⟩)] w (KPost tx b s (.error i) w) := by
  go_enter Tryz.func231, Tryz.ntmps231
  go_wp2_with fail
  refine (rv_no tx b s i w h g hi hs hb hc).mono ?_
  rintro e w1 ⟨q, rfl, ha, hg⟩
  clear hc
  have hq : AtErr (tx 1) q i (w1.alloc (.cells #[.int .u8 0, .int .u8 0] 263)) := (Below.heap_alloc _ _ _ (Array.getElem?_eq_some_iff.1 ha).1).trans ha
  go_wp2_with fail
  go_ret2
  exact ⟨hg.alloc _, q, rfl, hq⟩

set_option maxHeartbeats 400000 in
theorem variable_yes (tx : Nat → Addr) (b : Nat) (s : ByteArray) (i : Nat) (w : World) (h : Rd b s i w) (g : Gl tx w) (hi : i ≤ s.size) (hs : s.size ≤ 100000) (hb : 9 ≤ b) (hc : isLet (chr s i) = true) :
    Calls Tryz.prog 231 #[.pointer (some ⟨b, 0, none⟩)] w (KPost tx b s (vOut s i) w) := by
  have R := rv_yes b s i w h hi hs hc
  clear hc
  generalize hv : vnum (chr s i) (chr s (i + 1)) = o at R
  have HO : Hid (vOut s i = .ok (tV o, vEnd s i)) := by unfold Hid vOut; rw [hv]
  clear hv
  go_enter Tryz.func231, Tryz.ntmps231
  go_wp2_with fail
  refine R.mono ?_
  rintro e w1 ⟨rfl, hr, hg⟩
  go_wp2_with fail
  go_ret2
  refine ⟨hg.alloc _, ?_⟩
  rw [HO.out]
  exact ⟨_, rfl, Tv.V _ o, hr.alloc _⟩

/-- What readClosed comes to, behind the bracket. -/
def cbOut (s : ByteArray) (n i c : Nat) : TOut :=
  match pt s n 0 i .nil with
  | .error p => .error p
  | .ok (a, j) => if chr s j = c then .ok (a, j + 1) else .error j

set_option maxHeartbeats 400000 in
theorem kclosed_any (tx : Nat → Addr) (b : Nat) (s : ByteArray) (n i c : Nat) (w : World) (ih : TypeSaid tx b s n) (h : Rd b s i w) (g : Gl tx w) (hi : i ≤ s.size) (hs : s.size ≤ 100000) (hb : 9 ≤ b) (hn : 3 * (s.size - i) + 3 ≤ n) (hc0 : c ≠ 0) :
    Calls Tryz.prog 229 #[.pointer (some ⟨b, 0, none⟩), .int .u8 (c : Int)] w (KPost tx b s (cbOut s n i c) w) := by
  go_enter Tryz.func229, Tryz.ntmps229
  go_wp2_with fail
  refine (ih i w h g hi hn).mono ?_
  rintro e w1 ⟨hg, hp⟩
  cases hq : pt s n 0 i .nil with
  | error p =>
    rw [hq] at hp
    obtain ⟨q, rfl, ha⟩ := hp
    have HR : Hid (cbOut s n i c = .error p) := by unfold Hid cbOut; rw [hq]
    clear hq
    go_wp2_with fail
    go_ret2
    rw [HR.out]
    exact ⟨hg, q, rfl, ha⟩
  | ok r =>
    obtain ⟨t, j⟩ := r
    rw [hq] at hp
    obtain ⟨v, rfl, hv, hr⟩ := hp
    obtain ⟨T, x, rfl⟩ := hv.iface
    have pl := pt_places s _ _ _ _ _ _ hq hi (by omega)
    have hj2 : j ≤ s.size := pl.2.1
    clear pl
    by_cases h41 : chr s j = c
    · have HR : Hid (cbOut s n i c = .ok (t, j + 1)) := by unfold Hid cbOut; simp only [hq]; rw [if_pos h41]
      have H41 : Hid (chr s j = c) := h41
      clear hq h41
      go_wp2_with fail
      refine (want_yes b s j c w1 hr hs H41.out hc0).mono ?_
      rintro e w2 ⟨rfl, hr2, hg2⟩
      go_wp2_with fail
      go_ret2
      rw [HR.out]
      exact ⟨hg.trans hg2, _, rfl, Tv.kept (hg2.kept hr) _ _ hv, hr2⟩
    · have HR : Hid (cbOut s n i c = .error j) := by unfold Hid cbOut; simp only [hq]; rw [if_neg h41]
      have H41 : Hid (chr s j ≠ c) := h41
      clear hq h41
      go_wp2_with fail
      refine (want_no tx b s j c w1 hr (g.gb hg hb) hj2 hs H41.out hb).mono ?_
      rintro e w2 ⟨q, rfl, ha, hg2⟩
      go_wp2_with fail
      go_ret2
      rw [HR.out]
      exact ⟨hg.trans hg2, q, rfl, ha⟩
end Go.Proofs.YtceadeaodbadlaaGreatDoor
