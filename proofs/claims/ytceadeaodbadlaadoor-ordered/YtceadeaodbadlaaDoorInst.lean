import Derived.Test.YtceadeaodbadlaaDoorFits2
import Derived.Test.YtceadeaodbadlaaDoorPrint
set_option linter.unusedVariables false
set_option linter.unusedSimpArgs false
namespace Go.Proofs.YtceadeaodbadlaaDoor
open Go.RowKit

/-- What Instance answers: whether it is one, the number, the place. -/
def instOut (a s : ByteArray) : Bool × Nat × Nat :=
  if 4000 < a.size ∨ 4000 < s.size then (false, 1, 0) else match wholeT a with
    | .error p => (false, 2, p)
    | .ok g => match wholeT s with
      | .error p => (false, 2, p)
      | .ok t => (inst g t, 0, 0)

/-- What isInstance leaves. -/
def InPost (tx : Nat → Addr) (a s : ByteArray) (w : World) (e : Ending) (w' : World) : Prop :=
  Below w.heap.size w w' ∧
    ((instOut a s = (false, 1, 0) ∧ e = .returned (.tuple #[.bool false, .iface 153 (.pointer (some (tx 0)))])) ∨
     (∃ p q, instOut a s = (false, 2, p) ∧ e = .returned (.tuple #[.bool false, atv q]) ∧ AtErr (tx 1) q p w') ∨
     (∃ r, instOut a s = (r, 0, 0) ∧ e = .returned (.tuple #[.bool r, .nilIface])))

set_option maxRecDepth 100000 in
set_option maxHeartbeats 400000 in
theorem isInstance_any (tx : Nat → Addr) (a s : ByteArray) (w : World) (g : Gs tx w) (ha : a.size ≤ maxLen) (hs : s.size ≤ maxLen) :
    Calls Tryd.prog 8 #[.string a, .string s] w (InPost tx a s w) := by
  have h0 := g.long
  unfold maxLen at hs ha
  by_cases h1 : 4000 < a.size
  · have HR : Hid (instOut a s = (false, 1, 0)) := by unfold Hid instOut; rw [if_pos (.inl h1)]
    go_enter Tryd.func8, Tryd.ntmps8
    go_wp2_with fail
    go_quiet (fail)
    go_wp2_with fail
    go_ret2
    exact ⟨below_drewN (Below.refl _ w) _, .inl ⟨HR.out, rfl⟩⟩
  by_cases h2 : 4000 < s.size
  · have HR : Hid (instOut a s = (false, 1, 0)) := by unfold Hid instOut; rw [if_pos (.inr h2)]
    go_enter Tryd.func8, Tryd.ntmps8
    go_wp2_with fail
    go_quiet (fail)
    go_wp2_with fail
    go_ret2
    exact ⟨below_drewN (Below.refl _ w) _, .inl ⟨HR.out, rfl⟩⟩
  have h3 : a.size ≤ 4000 := by omega
  have h4 : s.size ≤ 4000 := by omega
  have HN : Hid (instOut a s = match wholeT a with
    | .error p => (false, 2, p)
    | .ok g => match wholeT s with
      | .error p => (false, 2, p)
      | .ok t => (inst g t, 0, 0)) := by unfold Hid instOut; rw [if_neg (by omega)]
  clear h1 h2
  go_enter Tryd.func8, Tryd.ntmps8
  go_wp2_with fail
  refine (kread_any tx a w g.toGl (by omega)).mono ?_
  rintro e w1 ⟨hb, hp⟩
  cases hq : wholeT a with
  | error p =>
    rw [hq] at hp
    obtain ⟨q, rfl, ha⟩ := hp
    have HQ := HN.out
    rw [hq] at HQ
    clear hq HN
    have HR : Hid (_ = _) := HQ
    clear HQ
    go_wp2_with fail
    go_ret2
    exact ⟨hb, .inr (.inl ⟨p, q, HR.out, rfl, ha⟩)⟩
  | ok u =>
    rw [hq] at hp
    obtain ⟨vu, rfl, tu⟩ := hp
    have g1 := g.below hb
    have hu : Hid (Ok u) := wholeT_ok hq
    have HQ := HN.out
    rw [hq] at HQ
    clear hq HN
    have HR : Hid (_ = _) := HQ
    clear HQ
    obtain ⟨Tu, xu, rfl⟩ := tu.iface
    go_wp2_with fail
    refine (kread_any tx s w1 g1.toGl (by omega)).mono ?_
    rintro e w2 ⟨hb2, hp⟩
    have tu2 := tu.below hb2
    have hb3 := hb.trans (hb2.mono hb.size)
    cases hq : wholeT s with
    | error p =>
      rw [hq] at hp
      obtain ⟨q, rfl, ha⟩ := hp
      have HQ := HR.out
      rw [hq] at HQ
      clear hq HR
      have HR : Hid (_ = _) := HQ
      clear HQ
      go_wp2_with fail
      go_ret2
      exact ⟨hb3, .inr (.inl ⟨p, q, HR.out, rfl, ha⟩)⟩
    | ok v =>
      rw [hq] at hp
      obtain ⟨vv, rfl, tv⟩ := hp
      have hv : Hid (Ok v) := wholeT_ok hq
      have HQ := HR.out
      rw [hq] at HQ
      clear hq HR
      have HR : Hid (_ = _) := HQ
      clear HQ
      have KI := kinst_any u v _ _ w2 hu.out hv.out tu2 tv
      obtain ⟨Tv', xv, rfl⟩ := tv.iface
      go_wp2_with fail
      refine KI.mono ?_
      rintro e w3 ⟨rfl, hb4⟩
      go_wp2_with fail
      go_ret2
      exact ⟨hb3.trans (hb4.mono hb3.size), .inr (.inr ⟨_, HR.out, rfl⟩)⟩

set_option maxHeartbeats 400000 in
theorem instance_any (tx : Nat → Addr) (a s : ByteArray) (w : World) (g : Gs tx w) (ha : a.size ≤ maxLen) (hs : s.size ≤ maxLen) :
    Calls Tryd.prog 5 #[.string a, .string s] w fun e w' => e = .returned (.tuple #[.bool (instOut a s).1, .int .i64 ((instOut a s).2.1 : Int), .int .i64 ((instOut a s).2.2 : Int)]) ∧ Below w.heap.size w w' := by
  go_enter Tryd.func5, Tryd.ntmps5
  go_wp2_with fail
  refine (isInstance_any tx a s w g ha hs).mono ?_
  rintro e w1 ⟨hb, ⟨hq, rfl⟩ | ⟨p, q, hq, rfl, ha⟩ | ⟨r, hq, rfl⟩⟩
  · have HR : Hid (instOut a s = (false, 1, 0)) := hq
    clear hq
    have g1 := g.below hb
    go_wp2_with fail
    refine (number_long tx w1 g1).mono ?_
    rintro e w' ⟨rfl, rfl⟩
    go_wp2_with fail
    refine (place_long tx _ g1).mono ?_
    rintro e w2 ⟨rfl, hb2⟩
    go_wp2_with fail
    go_ret3
    rw [HR.out]
    exact ⟨rfl, hb.trans (hb2.mono hb.size)⟩
  · have HR : Hid (instOut a s = (false, 2, p)) := hq
    clear hq
    have g1 := g.below hb
    go_wp2_with fail
    refine (number_at tx 1 q p w1 g1 (by decide) (by decide) ha).mono ?_
    rintro e w' ⟨rfl, rfl⟩
    go_wp2_with fail
    refine (place_at tx (tx 1) q p _ g1 ha).mono ?_
    rintro e w2 ⟨rfl, hb2⟩
    go_wp2_with fail
    go_ret3
    rw [HR.out]
    exact ⟨rfl, hb.trans (hb2.mono hb.size)⟩
  · have HR : Hid (instOut a s = (r, 0, 0)) := hq
    clear hq
    have g1 := g.below hb
    go_wp2_with fail
    refine (number_nil tx w1 g1).mono ?_
    rintro e w' ⟨rfl, rfl⟩
    go_wp2_with fail
    refine (place_nil _).mono ?_
    rintro e w2 ⟨rfl, hb2⟩
    go_wp2_with fail
    go_ret3
    rw [HR.out]
    exact ⟨rfl, hb.trans (hb2.mono hb.size)⟩
end Go.Proofs.YtceadeaodbadlaaDoor
