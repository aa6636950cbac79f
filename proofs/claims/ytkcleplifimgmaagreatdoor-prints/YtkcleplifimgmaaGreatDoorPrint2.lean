import Derived.Test.YtkcleplifimgmaaGreatDoorPrint
import Derived.Test.YtkcleplifimgmaaGreatDoorPrOut
import Derived.Test.YtkcleplifimgmaaGreatDoorReaders3
import Derived.Test.YtkcleplifimgmaaGreatDoorWrite2
set_option linter.unusedVariables false
set_option linter.unusedSimpArgs false
namespace Go.Proofs.YtkcleplifimgmaaGreatDoor
open Go.RowKit

theorem let_lt {c : Nat} (h : isLet c = true) : c < 256 := by simp [isLet] at h; omega
theorem con_lt {c : Nat} (h : isCon c = true) : c < 256 := by simp [isCon] at h; omega
theorem lit_lt {c : Nat} (h : isLit c = true) : c < 256 := by simp [isLit] at h; omega

/-- What the readers make is written in its one form. -/
theorem Ev.wr {w : World} {m : Nat} : ∀ (e : Ex) (T : TypeId) (x : Value), EOk false m e → Ev w e (.iface T x) → Kd T x (knd e) ∧ Wr T x (frm e) := by
  intro e
  induction e with
  | nil => intro T x h; exact h.elim
  | node t o p a b iha ihb =>
    intro T x ho h
    rcases ho with ⟨rfl, hc, _⟩ | ⟨rfl, hc, _⟩ | ⟨rfl, hc, _⟩ | ⟨rfl, hc, _, _, ha, _⟩ | ⟨rfl, hc, _, ha, hb⟩ | ⟨rfl, ha, hb⟩
    · rcases h with ⟨_, G, hv, hG⟩ | ⟨e, _⟩ | ⟨e, _⟩ | ⟨e, _⟩ | ⟨e, _⟩ | ⟨e, _⟩ <;> first | cases e | skip
      obtain ⟨sa, sm, sc, rfl⟩ := hG.shape
      simp only [Value.iface.injEq] at hv
      obtain ⟨rfl, rfl⟩ := hv
      exact ⟨.inl ⟨rfl, .inl ⟨.inl rfl, _, _, _, _, _, rfl⟩⟩, wr_name _ _ _ _ _ (let_lt hc)⟩
    · rcases h with ⟨e, _⟩ | ⟨_, G, hv, hG⟩ | ⟨e, _⟩ | ⟨e, _⟩ | ⟨e, _⟩ | ⟨e, _⟩ <;> first | cases e | skip
      obtain ⟨sa, sm, sc, rfl⟩ := hG.shape
      simp only [Value.iface.injEq] at hv
      obtain ⟨rfl, rfl⟩ := hv
      exact ⟨.inl ⟨rfl, .inl ⟨.inr rfl, _, _, _, _, _, rfl⟩⟩, wr_const _ _ _ _ _ (con_lt hc)⟩
    · rcases h with ⟨e, _⟩ | ⟨e, _⟩ | ⟨_, hv⟩ | ⟨e, _⟩ | ⟨e, _⟩ | ⟨e, _⟩ <;> first | cases e | skip
      simp only [Value.iface.injEq] at hv
      obtain ⟨rfl, rfl⟩ := hv
      exact ⟨.inl ⟨rfl, .inr ⟨rfl, _, rfl⟩⟩, wr_lit _ (lit_lt hc)⟩
    · rcases h with ⟨e, _⟩ | ⟨e, _⟩ | ⟨e, _⟩ | ⟨_, F, T', y, hv, hF, hy⟩ | ⟨e, _⟩ | ⟨e, _⟩ <;> first | cases e | skip
      simp only [Value.iface.injEq] at hv
      obtain ⟨rfl, rfl⟩ := hv
      exact ⟨.inr (.inr (.inl ⟨rfl, rfl, _, _, _, _, _, rfl⟩)), wr_fn _ F hF.shape _ T' y _ (let_lt hc) (iha T' y ha hy).2⟩
    · rcases h with ⟨e, _⟩ | ⟨e, _⟩ | ⟨e, _⟩ | ⟨e, _⟩ | ⟨_, V, T', y, T'', z, hv, hV, hy, hz⟩ | ⟨e, _⟩ <;> first | cases e | skip
      obtain ⟨sa, sm, sc, rfl⟩ := row_shape hV
      simp only [Value.iface.injEq] at hv
      obtain ⟨rfl, rfl⟩ := hv
      exact ⟨.inr (.inr (.inr ⟨rfl, rfl, _, _, _, _, _, _, rfl⟩)), wr_let _ _ _ _ T' y _ T'' z _ (let_lt hc) (iha T' y ha hy).2 (ihb T'' z hb hz).2⟩
    · rcases h with ⟨e, _⟩ | ⟨e, _⟩ | ⟨e, _⟩ | ⟨e, _⟩ | ⟨e, _⟩ | ⟨_, T', y, T'', z, hv, hy, hz⟩ <;> first | cases e | skip
      simp only [Value.iface.injEq] at hv
      obtain ⟨rfl, rfl⟩ := hv
      have A := iha T' y ha hy
      have B := ihb T'' z hb hz
      exact ⟨.inr (.inl ⟨rfl, rfl, _, _, _, _, _, rfl⟩), wr_call T' y _ _ T'' z _ _ _ A.1 B.1 A.2 B.2⟩

theorem Bu.new (w : World) : Bu w.heap.size w.heap.size [] (w.alloc (.cells #[.pointer none, .slice none 0 0] 80)) :=
  .inl ⟨Nat.le_refl _, .slice none 0 0, heap_alloc_new w _, World.ownsRow_nil _ _ _ _, by simp [Value.ownBlock]⟩

set_option maxHeartbeats 400000 in
theorem write_any (T : TypeId) (x : Value) (f : List UInt8) (w : World) (h : Wr T x f) (hf : f.length ≤ 1000000) :
    Calls Tryz.prog 19 #[.iface T x] w fun e w' => e = .returned (.string ⟨f.toArray⟩) ∧ Below w.heap.size w w' := by
  have hb := Bu.new w
  go_enter Tryz.func19, Tryz.ntmps19
  go_wp2_with fail
  refine (h w.heap.size w.heap.size [] _ hb (by simp) (by simpa using hf)).mono ?_
  rintro e w1 ⟨rfl, h1, k1⟩
  have s1 : w.heap.size ≤ w1.heap.size := Nat.le_trans (by simp) k1.size
  go_wp2_with fail
  refine (builderString w.heap.size w.heap.size _ w1 h1 s1).mono ?_
  rintro e w2 ⟨rfl, h2⟩
  go_wp2_with fail
  go_ret
  exact ⟨rfl, (((Below.refl _ w).alloc (Nat.le_refl _) _).trans k1.1).trans h2⟩

/-- What printed leaves. -/
def PrPost (tx : Nat → Addr) (s : ByteArray) (w : World) (e : Ending) (w' : World) : Prop :=
  Below w.heap.size w w' ∧
    ((24 < s.size ∧ e = .returned (.tuple #[.string ⟨#[]⟩, .iface 272 (.pointer (some (tx 0)))])) ∨
     (s.size ≤ 24 ∧ ∃ p q, whole s = .error p ∧ e = .returned (.tuple #[.string ⟨#[]⟩, atv q]) ∧ AtErr (tx 1) q p w') ∨
     (s.size ≤ 24 ∧ ∃ f, whole s = .ok f ∧ e = .returned (.tuple #[.string ⟨f.toArray⟩, .nilIface])))

set_option maxHeartbeats 400000 in
theorem printed_any (tx : Nat → Addr) (s : ByteArray) (w : World) (g : Gs tx w) (hs : s.size ≤ maxLen) :
    Calls Tryz.prog 10 #[.string s] w (PrPost tx s w) := by
  have h0 := g.long
  unfold maxLen at hs
  by_cases h24 : 24 < s.size
  · have HH : Hid (24 < s.size) := h24
    go_enter Tryz.func10, Tryz.ntmps10
    go_wp2_with fail
    go_quiet (fail)
    go_wp2_with fail
    go_ret2
    exact ⟨below_drewN (Below.refl _ w) _, .inl ⟨HH.out, rfl⟩⟩
  · have HH : Hid (s.size ≤ 24) := by unfold Hid; omega
    have hh : s.size ≤ 24 := HH
    clear h24
    go_enter Tryz.func10, Tryz.ntmps10
    go_wp2_with fail
    refine (read_any tx s w g.toGl (by omega)).mono ?_
    rintro e w1 ⟨hb, hp⟩
    cases hq : wholeE s false with
    | error p =>
      rw [hq] at hp
      obtain ⟨q, rfl, ha⟩ := hp
      have HQ : Hid (whole s = .error p) := by unfold Hid; rw [whole_e, hq]
      clear hq
      go_wp2_with fail
      go_ret2
      exact ⟨hb, .inr (.inl ⟨HH, p, q, HQ, rfl, ha⟩)⟩
    | ok x =>
      rw [hq] at hp
      obtain ⟨v, rfl, hv⟩ := hp
      have HQ : Hid (whole s = .ok (frm x)) := by unfold Hid; rw [whole_e, hq]
      have hl := whole_len s _ HQ.out
      have hok := wholeE_ok hq
      clear hq
      obtain ⟨T, y, rfl⟩ := hv.iface
      have W := (Ev.wr x T y hok hv).2
      generalize frm x = f at *
      go_wp2_with fail
      refine (write_any T y f w1 W (by omega)).mono ?_
      rintro e w2 ⟨rfl, hb2⟩
      go_wp2_with fail
      go_ret2
      exact ⟨hb.trans (hb2.mono hb.size), .inr (.inr ⟨HH, f, HQ, rfl⟩)⟩

/-- What Print answers: the text, the number, the place. -/
def printOut (s : ByteArray) : ByteArray × Nat × Nat :=
  if 24 < s.size then (⟨#[]⟩, 1, 0) else match whole s with
    | .error p => (⟨#[]⟩, 2, p)
    | .ok f => (⟨f.toArray⟩, 0, 0)

set_option maxHeartbeats 400000 in
theorem print_any (tx : Nat → Addr) (s : ByteArray) (w : World) (g : Gs tx w) (hs : s.size ≤ maxLen) :
    Calls Tryz.prog 5 #[.string s] w fun e w' => e = .returned (.tuple #[.string (printOut s).1, .int .i64 ((printOut s).2.1 : Int), .int .i64 ((printOut s).2.2 : Int)]) ∧ Below w.heap.size w w' := by
  go_enter Tryz.func5, Tryz.ntmps5
  go_wp2_with fail
  refine (printed_any tx s w g hs).mono ?_
  rintro e w1 ⟨hb, ⟨h24, rfl⟩ | ⟨h24, p, q, hq, rfl, ha⟩ | ⟨h24, f, hq, rfl⟩⟩
  · have HR : Hid (printOut s = (⟨#[]⟩, 1, 0)) := by unfold Hid printOut; rw [if_pos h24]
    clear h24
    have g1 := g.below hb
    go_wp2_with fail
    refine (number_long tx w1 g1).mono ?_
    rintro e w' ⟨rfl, rfl⟩
    go_wp2_with fail
    refine (place_long tx _ g1).mono ?_
    rintro e w2 ⟨rfl, hb2⟩
    go_wp2_with fail
    go_ret3
    rw [HR.out]
    exact ⟨rfl, hb.trans (hb2.mono hb.size)⟩
  · have HR : Hid (printOut s = (⟨#[]⟩, 2, p)) := by unfold Hid printOut; rw [if_neg (by omega), hq]
    clear h24 hq
    have g1 := g.below hb
    go_wp2_with fail
    refine (number_at tx 1 q p w1 g1 (by decide) (by decide) ha).mono ?_
    rintro e w' ⟨rfl, rfl⟩
    go_wp2_with fail
    refine (place_at tx (tx 1) q p _ g1 ha).mono ?_
    rintro e w2 ⟨rfl, hb2⟩
    go_wp2_with fail
    go_ret3
    rw [HR.out]
    exact ⟨rfl, hb.trans (hb2.mono hb.size)⟩
  · have HR : Hid (printOut s = (⟨f.toArray⟩, 0, 0)) := by unfold Hid printOut; rw [if_neg (by omega), hq]
    clear h24 hq
    have g1 := g.below hb
    go_wp2_with fail
    refine (number_nil tx w1 g1).mono ?_
    rintro e w' ⟨rfl, rfl⟩
    go_wp2_with fail
    refine (place_nil _).mono ?_
    rintro e w2 ⟨rfl, hb2⟩
    go_wp2_with fail
    go_ret3
    rw [HR.out]
    exact ⟨rfl, hb.trans (hb2.mono hb.size)⟩
end Go.Proofs.YtkcleplifimgmaaGreatDoor
