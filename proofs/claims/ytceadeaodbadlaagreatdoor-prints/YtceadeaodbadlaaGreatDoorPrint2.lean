import Derived.Test.YtceadeaodbadlaaGreatDoorPrint
import Derived.Test.YtceadeaodbadlaaGreatDoorPrOut
import Derived.Test.YtceadeaodbadlaaGreatDoorReaders3
import Derived.Test.YtceadeaodbadlaaGreatDoorWrite2
import Derived.Test.YtceadeaodbadlaaGreatDoorText
set_option linter.unusedVariables false
set_option linter.unusedSimpArgs false
namespace Go.Proofs.YtceadeaodbadlaaGreatDoor
open Go.RowKit

theorem let_lt {c : Nat} (h : isLet c = true) : c < 256 := by simp [isLet] at h; omega
theorem con_lt {c : Nat} (h : isCon c = true) : c < 256 := by simp [isCon] at h; omega
theorem lit_lt {c : Nat} (h : isLit c = true) : c < 256 := by simp [isLit] at h; omega

/-- What the readers make is written in its one form. -/
theorem Ev.wr {w : World} {m : Nat} : ∀ (e : Ex) (T : TypeId) (x : Value), EOk false m e → Ev w e (.iface T x) → Kd T x (knd e) ∧ Wr T x (frm e) := by
  intro e
  induction e with
  | nil => intro T x h; exact h.elim
  | node t o p a b iha ihb =>
    intro T x ho h
    rcases ho with ⟨rfl, hc, _⟩ | ⟨rfl, hc, _⟩ | ⟨rfl, hc, _⟩ | ⟨rfl, hc, _, _, ha, _⟩ | ⟨rfl, hc, _, ha, hb⟩ | ⟨rfl, ha, hb⟩
    · rcases h with ⟨_, G, hv, hG⟩ | ⟨e, _⟩ | ⟨e, _⟩ | ⟨e, _⟩ | ⟨e, _⟩ | ⟨e, _⟩ <;> first | cases e | skip
      obtain ⟨sa, sm, sc, rfl⟩ := hG.shape
      simp only [Value.iface.injEq] at hv
      obtain ⟨rfl, rfl⟩ := hv
      exact ⟨.inl ⟨rfl, .inl ⟨.inl rfl, _, _, _, _, _, rfl⟩⟩, wr_name _ _ _ _ _ (let_lt hc)⟩
    · rcases h with ⟨e, _⟩ | ⟨_, G, hv, hG⟩ | ⟨e, _⟩ | ⟨e, _⟩ | ⟨e, _⟩ | ⟨e, _⟩ <;> first | cases e | skip
      obtain ⟨sa, sm, sc, rfl⟩ := hG.shape
      simp only [Value.iface.injEq] at hv
      obtain ⟨rfl, rfl⟩ := hv
      exact ⟨.inl ⟨rfl, .inl ⟨.inr rfl, _, _, _, _, _, rfl⟩⟩, wr_const _ _ _ _ _ (con_lt hc)⟩
    · rcases h with ⟨e, _⟩ | ⟨e, _⟩ | ⟨_, hv⟩ | ⟨e, _⟩ | ⟨e, _⟩ | ⟨e, _⟩ <;> first | cases e | skip
      simp only [Value.iface.injEq] at hv
      obtain ⟨rfl, rfl⟩ := hv
      exact ⟨.inl ⟨rfl, .inr ⟨rfl, _, rfl⟩⟩, wr_lit _ (lit_lt hc)⟩
    · rcases h with ⟨e, _⟩ | ⟨e, _⟩ | ⟨e, _⟩ | ⟨_, F, T', y, hv, hF, hy⟩ | ⟨e, _⟩ | ⟨e, _⟩ <;> first | cases e | skip
      simp only [Value.iface.injEq] at hv
      obtain ⟨rfl, rfl⟩ := hv
      exact ⟨.inr (.inr (.inl ⟨rfl, rfl, _, _, _, _, _, rfl⟩)), wr_fn _ F hF.shape _ T' y _ (let_lt hc) (iha T' y ha hy).2⟩
    · rcases h with ⟨e, _⟩ | ⟨e, _⟩ | ⟨e, _⟩ | ⟨e, _⟩ | ⟨_, V, T', y, T'', z, hv, hV, hy, hz⟩ | ⟨e, _⟩ <;> first | cases e | skip
      obtain ⟨sa, sm, sc, rfl⟩ := row_shape hV
      simp only [Value.iface.injEq] at hv
      obtain ⟨rfl, rfl⟩ := hv
      exact ⟨.inr (.inr (.inr ⟨rfl, rfl, _, _, _, _, _, _, rfl⟩)), wr_let _ _ _ _ T' y _ T'' z _ (let_lt hc) (iha T' y ha hy).2 (ihb T'' z hb hz).2⟩
    · rcases h with ⟨e, _⟩ | ⟨e, _⟩ | ⟨e, _⟩ | ⟨e, _⟩ | ⟨e, _⟩ | ⟨_, T', y, T'', z, hv, hy, hz⟩ <;> first | cases e | skip
      simp only [Value.iface.injEq] at hv
      obtain ⟨rfl, rfl⟩ := hv
      have A := iha T' y ha hy
      have B := ihb T'' z hb hz
      exact ⟨.inr (.inl ⟨rfl, rfl, _, _, _, _, _, rfl⟩), wr_call T' y _ _ T'' z _ _ _ A.1 B.1 A.2 B.2⟩

set_option maxHeartbeats 400000 in
set_option maxRecDepth 100000 in
theorem write1_any (T : TypeId) (x : Value) (f : List UInt8) (h : Wr T x f) (hf : f.length ≤ 1000000) (m : Option Nat) (B wb k1 k2 eb : Nat) (w : World) (hB : B ≤ w.heap.size) (hW : Wn m B wb k1 k2 w) (c0 : w.cell? ⟨eb, 0, none⟩ = some (.iface T x)) :
    Calls Tryz.prog 81 #[.pointer (some ⟨wb, 0, none⟩), .pointer (some ⟨eb, 0, none⟩)] w fun e w2 => e = .returned (.tuple #[]) ∧ (∃ nm sp, Wi m B wb nm sp f w2) ∧ Below B w w2 := by
  have H := h m B wb _ _ [] w hW.wi hB (by simpa using hf)
  clear h hW
  go_enter Tryz.func81, Tryz.ntmps81
  go_wp2_with fail
  refine H.mono ?_
  rintro e w1 ⟨rfl, h1, k1⟩
  go_wp2_with fail
  go_end0
  exact ⟨rfl, ⟨_, _, by simpa using h1⟩, k1.1⟩
theorem write1_entered : EnteredW 81 := enters_of Tryz.func81 (by kernel_rfl) rfl

set_option maxHeartbeats 400000 in
set_option maxRecDepth 100000 in
theorem write_any (T : TypeId) (x : Value) (f : List UInt8) (w : World) (h : Wr T x f) (hf : f.length ≤ 1000000) :
    Calls Tryz.prog 50 #[.iface T x] w fun e w' => e = .returned (.string ⟨f.toArray⟩) ∧ Below w.heap.size w w' := by
  have B0 : Below w.heap.size w (w.alloc (.cells #[.iface T x] 82)) := (Below.refl _ w).alloc (Nat.le_refl _) _
  have c0 : (w.alloc (.cells #[.iface T x] 82)).cell? ⟨w.heap.size, 0, none⟩ = some (.iface T x) := by simp
  have H := text_any' 81 #[] #[.pointer (some ⟨w.heap.size, 0, none⟩)] write1_entered f (w.alloc (.cells #[.iface T x] 82)) (by omega)
    (fun m B wb k1 k2 w1 b1 b2 b3 hW => write1_any T x f h hf m B wb k1 k2 w.heap.size w1 b3 hW ((b1.cell (p := ⟨w.heap.size, 0, none⟩) (by show w.heap.size < _; simp)).trans c0))
  clear c0 h
  go_enter Tryz.func50, Tryz.ntmps50
  go_wp2_with fail
  refine H.mono ?_
  rintro e w1 ⟨rfl, h1⟩
  go_wp2_with fail
  go_ret
  exact ⟨rfl, B0.trans (h1.mono B0.size)⟩

/-- What printed leaves. -/
def PrPost (tx : Nat → Addr) (s : ByteArray) (w : World) (e : Ending) (w' : World) : Prop :=
  Below w.heap.size w w' ∧
    ((24 < s.size ∧ e = .returned (.tuple #[.string ⟨#[]⟩, .iface 353 (.pointer (some (tx 0)))])) ∨
     (s.size ≤ 24 ∧ ∃ p q, whole s = .error p ∧ e = .returned (.tuple #[.string ⟨#[]⟩, atv q]) ∧ AtErr (tx 1) q p w') ∨
     (s.size ≤ 24 ∧ ∃ f, whole s = .ok f ∧ e = .returned (.tuple #[.string ⟨f.toArray⟩, .nilIface])))

/-- What shape.read leaves. -/
def SrPost (tx : Nat → Addr) (s : ByteArray) (w : World) (e : Ending) (w' : World) : Prop :=
  Below w.heap.size w w' ∧
    ((24 < s.size ∧ e = .returned (.tuple #[.nilIface, .iface 353 (.pointer (some (tx 0)))])) ∨
     (s.size ≤ 24 ∧ ∃ p q, wholeE s false = .error p ∧ e = .returned (.tuple #[.nilIface, atv q]) ∧ AtErr (tx 1) q p w') ∨
     (s.size ≤ 24 ∧ ∃ x T y, wholeE s false = .ok x ∧ e = .returned (.tuple #[.iface T y, .nilIface]) ∧ Ev w' x (.iface T y)))

set_option maxHeartbeats 400000 in
theorem sread_any (tx : Nat → Addr) (s : ByteArray) (w : World) (g : Gs tx w) (hs : s.size ≤ maxLen) :
    Calls Tryz.prog 49 #[.string s] w (SrPost tx s w) := by
  have h0 := g.long
  unfold maxLen at hs
  by_cases h24 : 24 < s.size
  · have HH : Hid (24 < s.size) := h24
    go_enter Tryz.func49, Tryz.ntmps49
    go_wp2_with fail
    go_quiet (fail)
    go_wp2_with fail
    go_ret2
    exact ⟨below_drewN (Below.refl _ w) _, .inl ⟨HH.out, rfl⟩⟩
  · have HH : Hid (s.size ≤ 24) := by unfold Hid; omega
    have hh : s.size ≤ 24 := HH
    clear h24
    go_enter Tryz.func49, Tryz.ntmps49
    go_wp2_with fail
    refine (read_any tx s w g.toGl (by omega)).mono ?_
    rintro e w1 ⟨hb, hp⟩
    cases hq : wholeE s false with
    | error p =>
      rw [hq] at hp
      obtain ⟨q, rfl, ha⟩ := hp
      have HQ : Hid (wholeE s false = .error p) := hq
      clear hq
      go_wp2_with fail
      go_ret2
      exact ⟨hb, .inr (.inl ⟨HH, p, q, HQ, rfl, ha⟩)⟩
    | ok x =>
      rw [hq] at hp
      obtain ⟨v, rfl, hv⟩ := hp
      have HQ : Hid (wholeE s false = .ok x) := hq
      clear hq
      obtain ⟨T, y, rfl⟩ := hv.iface
      go_wp2_with fail
      go_ret2
      exact ⟨hb, .inr (.inr ⟨HH, x, T, y, HQ, rfl, hv⟩)⟩

set_option maxHeartbeats 400000 in
theorem printed_any (tx : Nat → Addr) (s : ByteArray) (w : World) (g : Gs tx w) (hs : s.size ≤ maxLen) :
    Calls Tryz.prog 30 #[.string s] w (PrPost tx s w) := by
  go_enter Tryz.func30, Tryz.ntmps30
  go_wp2_with fail
  refine (sread_any tx s w g hs).mono ?_
  rintro e w1 ⟨hb, ⟨h24, rfl⟩ | ⟨h24, p, q, hq, rfl, ha⟩ | ⟨h24, x, T, y, hq, rfl, hv⟩⟩
  · have HH : Hid (24 < s.size) := h24
    clear h24
    go_wp2_with fail
    go_ret2
    exact ⟨hb, .inl ⟨HH.out, rfl⟩⟩
  · have HQ : Hid (s.size ≤ 24 ∧ whole s = .error p) := by unfold Hid; rw [whole_e, hq]; exact ⟨h24, rfl⟩
    clear hq h24
    go_wp2_with fail
    go_ret2
    exact ⟨hb, .inr (.inl ⟨HQ.out.1, p, q, HQ.out.2, rfl, ha⟩)⟩
  · have HQ : Hid (s.size ≤ 24 ∧ whole s = .ok (frm x)) := by unfold Hid; rw [whole_e, hq]; exact ⟨h24, rfl⟩
    have hl := whole_len s _ HQ.out.2
    have hok := wholeE_ok hq
    have W := (Ev.wr x T y hok hv).2
    have hl2 : (frm x).length ≤ 1000000 := by omega
    clear hq h24 hok hv hl
    generalize frm x = f at *
    go_wp2_with fail
    refine (write_any T y f w1 W hl2).mono ?_
    rintro e w2 ⟨rfl, hb2⟩
    go_wp2_with fail
    go_ret2
    exact ⟨hb.trans (hb2.mono hb.size), .inr (.inr ⟨HQ.out.1, f, HQ.out.2, rfl⟩)⟩

/-- What Print answers: the text, the number, the place. -/
def printOut (s : ByteArray) : ByteArray × Nat × Nat :=
  if 24 < s.size then (⟨#[]⟩, 1, 0) else match whole s with
    | .error p => (⟨#[]⟩, 2, p)
    | .ok f => (⟨f.toArray⟩, 0, 0)

set_option maxHeartbeats 400000 in
theorem print_any (tx : Nat → Addr) (s : ByteArray) (w : World) (g : Gs tx w) (hs : s.size ≤ maxLen) :
    Calls Tryz.prog 12 #[.string s] w fun e w' => e = .returned (.tuple #[.string (printOut s).1, .int .i64 ((printOut s).2.1 : Int), .int .i64 ((printOut s).2.2 : Int)]) ∧ Below w.heap.size w w' := by
  go_enter Tryz.func12, Tryz.ntmps12
  go_wp2_with fail
  refine (printed_any tx s w g hs).mono ?_
  rintro e w1 ⟨hb, ⟨h24, rfl⟩ | ⟨h24, p, q, hq, rfl, ha⟩ | ⟨h24, f, hq, rfl⟩⟩
  · have HR : Hid (printOut s = (⟨#[]⟩, 1, 0)) := by unfold Hid printOut; rw [if_pos h24]
    clear h24
    have g1 := g.below hb
    go_wp2_with fail
    refine (number_long tx w1 g1).mono ?_
    rintro e w' ⟨rfl, rfl⟩
    go_wp2_with fail
    refine (place_long tx _ g1).mono ?_
    rintro e w2 ⟨rfl, hb2⟩
    go_wp2_with fail
    go_ret3
    rw [HR.out]
    exact ⟨rfl, hb.trans (hb2.mono hb.size)⟩
  · have HR : Hid (printOut s = (⟨#[]⟩, 2, p)) := by unfold Hid printOut; rw [if_neg (by omega), hq]
    clear h24 hq
    have g1 := g.below hb
    go_wp2_with fail
    refine (number_at tx 1 q p w1 g1 (by decide) (by decide) ha).mono ?_
    rintro e w' ⟨rfl, rfl⟩
    go_wp2_with fail
    refine (place_at tx (tx 1) q p _ g1 ha).mono ?_
    rintro e w2 ⟨rfl, hb2⟩
    go_wp2_with fail
    go_ret3
    rw [HR.out]
    exact ⟨rfl, hb.trans (hb2.mono hb.size)⟩
  · have HR : Hid (printOut s = (⟨f.toArray⟩, 0, 0)) := by unfold Hid printOut; rw [if_neg (by omega), hq]
    clear h24 hq
    have g1 := g.below hb
    go_wp2_with fail
    refine (number_nil tx w1 g1).mono ?_
    rintro e w' ⟨rfl, rfl⟩
    go_wp2_with fail
    refine (place_nil _).mono ?_
    rintro e w2 ⟨rfl, hb2⟩
    go_wp2_with fail
    go_ret3
    rw [HR.out]
    exact ⟨rfl, hb.trans (hb2.mono hb.size)⟩
end Go.Proofs.YtceadeaodbadlaaGreatDoor
