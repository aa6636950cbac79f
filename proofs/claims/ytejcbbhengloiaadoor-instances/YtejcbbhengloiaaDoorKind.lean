import Derived.Test.YtejcbbhengloiaaDoorScan2
import Derived.Test.YtejcbbhengloiaaDoorTyPure
set_option linter.unusedVariables false
set_option linter.unusedSimpArgs false
namespace Go.Proofs.YtejcbbhengloiaaDoor
open Go.RowKit

/-- A type's value in package kind: its dynamic type, and what that holds. -/
def tg : Ty → TypeId
  | .nil => 152
  | .node g _ _ _ _ => if g = 0 then 154 else if g = 1 then 155 else if g = 2 then 157 else if g = 3 then 160 else if g = 4 then 163 else 152
def ag : Ty → Value
  | .nil => .agg #[]
  | .node g o _ a b => if g = 0 then .agg #[] else if g = 1 then .agg #[] else if g = 2 then .agg #[.int .u8 ((o / 10 : Nat) : Int), .int .u8 ((o % 10 : Nat) : Int)] else if g = 3 then .agg #[.iface (tg a) (ag a)] else .agg #[.iface (tg a) (ag a), .iface (tg b) (ag b)]

/-- What a reader of a type leaves. -/
def KPost (tx : Addr) (b : Nat) (s : ByteArray) (r : TOut) (w : World) (e : Ending) (w' : World) : Prop :=
  Gb b w w' ∧ match r with
    | .error p => ∃ q, e = .returned (.tuple #[.nilIface, atv q]) ∧ AtErr tx q p w'
    | .ok (t, j) => e = .returned (.tuple #[.iface (tg t) (ag t), .nilIface]) ∧ Rd b s j w'

def TypeSaid (tl tx : Addr) (b : Nat) (s : ByteArray) (n : Nat) : Prop :=
  ∀ (i : Nat) (w : World), Rd b s i w → Gl tl tx w → i ≤ s.size → 3 * (s.size - i) + 3 ≤ n →
    Calls Tryd.prog 49 #[.pointer (some ⟨b, 0, none⟩)] w (KPost tx b s (pt s n 0 i .nil) w)
def UnitSaid (tl tx : Addr) (b : Nat) (s : ByteArray) (n : Nat) : Prop :=
  ∀ (i : Nat) (w : World), Rd b s i w → Gl tl tx w → i ≤ s.size → 3 * (s.size - i) + 1 ≤ n →
    Calls Tryd.prog 86 #[.pointer (some ⟨b, 0, none⟩)] w (KPost tx b s (pt s n 2 i .nil) w)

theorem KPost.hand {tx : Addr} {b : Nat} {s : ByteArray} {r : TOut} {w w1 w2 : World} {e : Ending} (hg : Gb b w w1) (h : KPost tx b s r w1 e w2) : KPost tx b s r w e w2 := ⟨hg.trans h.1, h.2⟩
theorem KPost.two {tx : Addr} {b : Nat} {s : ByteArray} {r : TOut} {w w1 : World} {e : Ending} (h : KPost tx b s r w e w1) : ∃ u v, e = .returned (.tuple #[u, v]) := by
  obtain ⟨_, h⟩ := h
  cases r with
  | error p => obtain ⟨q, rfl, _⟩ := h; exact ⟨_, _, rfl⟩
  | ok r => obtain ⟨t, j⟩ := r; exact ⟨_, _, h.1⟩

theorem chrAt {s : ByteArray} {i : Nat} (hlt : i < s.size) : s[i].toNat = chr s i := by simp [chr, hlt]

theorem ag_var (o : Nat) : ag (tV o) = .agg #[.int .u8 ((o / 10 : Nat) : Int), .int .u8 ((o % 10 : Nat) : Int)] := rfl

def vOut (s : ByteArray) (i : Nat) : TOut := .ok (tV (vnum (chr s i) (chr s (i + 1))), if 49 ≤ chr s (i + 1) ∧ chr s (i + 1) ≤ 57 then i + 2 else i + 1)

set_option maxHeartbeats 400000 in
theorem variable_no (tl tx : Addr) (b : Nat) (s : ByteArray) (i : Nat) (w : World) (h : Rd b s i w) (g : Gl tl tx w) (hi : i ≤ s.size) (hs : s.size ≤ 100000) (hb : 3 ≤ b) (hc : isLet (chr s i) = false) :
    Calls Tryd.prog 95 #[.pointer (some ⟨b, 0, none⟩)] w (KPost tx b s (.error i) w) := by
  go_enter Tryd.func95, Tryd.ntmps95
  go_wp2_with fail
  refine (letter_no tl tx b s i w h g hi hs hc hb).mono ?_
  rintro e w1 ⟨q, rfl, ha, hg⟩
  clear hc
  go_wp2_with fail
  go_ret2
  exact ⟨hg, q, rfl, ha⟩

set_option maxHeartbeats 400000 in
theorem variable_yes (tl tx : Addr) (b : Nat) (s : ByteArray) (i : Nat) (w : World) (h : Rd b s i w) (g : Gl tl tx w) (hi : i ≤ s.size) (hs : s.size ≤ 100000) (hb : 3 ≤ b) (hc : isLet (chr s i) = true) :
    Calls Tryd.prog 95 #[.pointer (some ⟨b, 0, none⟩)] w (KPost tx b s (vOut s i) w) := by
  have hlt : i < s.size := chr_in (by intro e; rw [e] at hc; exact absurd hc (by decide))
  have hl := chr_lt s (i + 1)
  have HC : Hid (isLet (chr s i) = true) := hc
  clear hc
  by_cases hd : 49 ≤ chr s (i + 1) ∧ chr s (i + 1) ≤ 57
  · have hlt2 : i + 1 < s.size := chr_in (by omega)
    have HV : Hid (ag (tV (vnum (chr s i) (chr s (i + 1)))) = .agg #[.int .u8 (chr s i : Int), .int .u8 ((chr s (i + 1) : Int) - 48)]) := by
      unfold Hid
      rw [ag_var, vnum, if_pos hd]
      have e1 : (10 * chr s i + (chr s (i + 1) - 48)) / 10 = chr s i := by omega
      have e2 : (10 * chr s i + (chr s (i + 1) - 48)) % 10 = chr s (i + 1) - 48 := by omega
      have e3 : ((chr s (i + 1) - 48 : Nat) : Int) = (chr s (i + 1) : Int) - 48 := by omega
      rw [e1, e2, e3]
    have HJ : Hid (vOut s i = .ok (tV (vnum (chr s i) (chr s (i + 1))), i + 2)) := by unfold Hid vOut; rw [if_pos hd]
    have d1 : decide ((chr s (i + 1) : Int) < 49) = false := by simp; omega
    have d2 : decide ((57 : Int) < (chr s (i + 1) : Int)) = false := by simp; omega
    go_enter Tryd.func95, Tryd.ntmps95
    go_wp2_with fail
    refine (letter_yes b s i w h hs HC.out).mono ?_
    rintro e w1 ⟨rfl, hr, hg⟩
    go_wp2_with fail
    refine (peek_any b s (i + 1) w1 hr (by omega) hs).mono ?_
    rintro e w2 ⟨rfl, d, rfl⟩
    go_wp2_with fail
    refine (skip_any b s (i + 1) _ (hr.drewN d) hlt2 hs).mono ?_
    rintro e w3 ⟨rfl, hr3, hg3⟩
    go_wp2_with fail
    go_ret2
    refine ⟨(hg.drewN d).trans hg3, ?_⟩
    rw [HJ.out]
    refine ⟨?_, hr3⟩
    rw [HV.out]; rfl
  · have HV : Hid (ag (tV (vnum (chr s i) (chr s (i + 1)))) = .agg #[.int .u8 (chr s i : Int), .int .u8 0]) := by
      unfold Hid
      rw [ag_var, vnum, if_neg hd]
      have e1 : (10 * chr s i + 0) / 10 = chr s i := by omega
      have e2 : (10 * chr s i + 0) % 10 = 0 := by omega
      rw [e1, e2]; rfl
    have HJ : Hid (vOut s i = .ok (tV (vnum (chr s i) (chr s (i + 1))), i + 1)) := by unfold Hid vOut; rw [if_neg hd]
    by_cases h1 : chr s (i + 1) < 49
    · have d1 : decide ((chr s (i + 1) : Int) < 49) = true := by simp; omega
      go_enter Tryd.func95, Tryd.ntmps95
      go_wp2_with fail
      refine (letter_yes b s i w h hs HC.out).mono ?_
      rintro e w1 ⟨rfl, hr, hg⟩
      go_wp2_with fail
      refine (peek_any b s (i + 1) w1 hr (by omega) hs).mono ?_
      rintro e w2 ⟨rfl, d, rfl⟩
      go_wp2_with fail
      go_ret2
      refine ⟨hg.drewN d, ?_⟩
      rw [HJ.out]
      refine ⟨?_, hr.drewN d⟩
      rw [HV.out]; rfl
    · have d1 : decide ((chr s (i + 1) : Int) < 49) = false := by simp; omega
      have d2 : decide ((57 : Int) < (chr s (i + 1) : Int)) = true := by simp; omega
      go_enter Tryd.func95, Tryd.ntmps95
      go_wp2_with fail
      refine (letter_yes b s i w h hs HC.out).mono ?_
      rintro e w1 ⟨rfl, hr, hg⟩
      go_wp2_with fail
      refine (peek_any b s (i + 1) w1 hr (by omega) hs).mono ?_
      rintro e w2 ⟨rfl, d, rfl⟩
      go_wp2_with fail
      go_ret2
      refine ⟨hg.drewN d, ?_⟩
      rw [HJ.out]
      refine ⟨?_, hr.drewN d⟩
      rw [HV.out]; rfl

/-- What readClosed comes to, behind the bracket. -/
def cbOut (s : ByteArray) (n i c : Nat) : TOut :=
  match pt s n 0 i .nil with
  | .error p => .error p
  | .ok (a, j) => if chr s j = c then .ok (a, j + 1) else .error j

set_option maxHeartbeats 400000 in
theorem kclosed_any (tl tx : Addr) (b : Nat) (s : ByteArray) (n i c : Nat) (w : World) (ih : TypeSaid tl tx b s n) (h : Rd b s i w) (g : Gl tl tx w) (hi : i ≤ s.size) (hs : s.size ≤ 100000) (hb : 3 ≤ b) (hn : 3 * (s.size - i) + 3 ≤ n) (hc0 : c ≠ 0) :
    Calls Tryd.prog 94 #[.pointer (some ⟨b, 0, none⟩), .int .u8 (c : Int)] w (KPost tx b s (cbOut s n i c) w) := by
  go_enter Tryd.func94, Tryd.ntmps94
  go_wp2_with fail
  refine (ih i w h g hi hn).mono ?_
  rintro e w1 ⟨hg, hp⟩
  cases hq : pt s n 0 i .nil with
  | error p =>
    rw [hq] at hp
    obtain ⟨q, rfl, ha⟩ := hp
    have HR : Hid (cbOut s n i c = .error p) := by unfold Hid cbOut; rw [hq]
    clear hq
    go_wp2_with fail
    go_ret2
    rw [HR.out]
    exact ⟨hg, q, rfl, ha⟩
  | ok r =>
    obtain ⟨t, j⟩ := r
    rw [hq] at hp
    obtain ⟨rfl, hr⟩ := hp
    have pl := pt_places s _ _ _ _ _ _ hq hi (by omega)
    have hj2 : j ≤ s.size := pl.2.1
    clear pl
    by_cases h41 : chr s j = c
    · have HR : Hid (cbOut s n i c = .ok (t, j + 1)) := by unfold Hid cbOut; simp only [hq]; rw [if_pos h41]
      have H41 : Hid (chr s j = c) := h41
      clear hq h41
      go_wp2_with fail
      refine (want_yes b s j c w1 hr hs H41.out hc0).mono ?_
      rintro e w2 ⟨rfl, hr2, hg2⟩
      go_wp2_with fail
      go_ret2
      rw [HR.out]
      exact ⟨hg.trans hg2, rfl, hr2⟩
    · have HR : Hid (cbOut s n i c = .error j) := by unfold Hid cbOut; simp only [hq]; rw [if_neg h41]
      have H41 : Hid (chr s j ≠ c) := h41
      clear hq h41
      go_wp2_with fail
      refine (want_no tl tx b s j c w1 hr (g.gb hg hb) hj2 hs H41.out hb).mono ?_
      rintro e w2 ⟨q, rfl, ha, hg2⟩
      go_wp2_with fail
      go_ret2
      rw [HR.out]
      exact ⟨hg.trans hg2, q, rfl, ha⟩
end Go.Proofs.YtejcbbhengloiaaDoor
