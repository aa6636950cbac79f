import Derived.Test.YtejcbbhengloiaaDoorAtoms
set_option linter.unusedVariables false
set_option linter.unusedSimpArgs false
namespace Go.Proofs.YtejcbbhengloiaaDoor
open Go.RowKit

/-- What the readers of package expr make, by kind and one form: R holds of all of it. -/
structure Closed (R : TypeId → Value → Nat → List UInt8 → Prop) : Prop where
  name : ∀ c : Nat, c < 256 → R 117 (.agg #[.int .u8 (c : Int)]) 0 [u8 c]
  const : ∀ c : Nat, c < 256 → R 119 (.agg #[.int .u8 (c : Int)]) 0 [u8 c]
  lit : ∀ c : Nat, c < 256 → R 121 (.agg #[.int .u8 (c : Int)]) 0 [u8 c]
  fn : ∀ (c : Nat) (T : TypeId) (x : Value) (k : Nat) (f : List UInt8), c < 256 → R T x k f → R 123 (.agg #[.int .u8 (c : Int), .iface T x]) 2 (92 :: u8 c :: 46 :: f)
  lt : ∀ (c : Nat) (T : TypeId) (x : Value) (k : Nat) (f : List UInt8) (T' : TypeId) (x' : Value) (k' : Nat) (f' : List UInt8), c < 256 → R T x k f → R T' x' k' f' →
    R 125 (.agg #[.int .u8 (c : Int), .iface T x, .iface T' x']) 2 (64 :: u8 c :: 61 :: (f ++ 59 :: f'))
  call : ∀ (T : TypeId) (x : Value) (k : Nat) (f : List UInt8) (T' : TypeId) (x' : Value) (k' : Nat) (f' : List UInt8), R T x k f → R T' x' k' f' →
    R 127 (.agg #[.iface T x, .iface T' x']) 1 (firstOf k f ++ secondOf k' f')

/-- The value of an expression, its kind and its one form. -/
def Pv (T : TypeId) (x : Value) (k : Nat) (f : List UInt8) : Prop := ∀ R : TypeId → Value → Nat → List UInt8 → Prop, Closed R → R T x k f

theorem Pv.closed : Closed Pv where
  name c hc := fun _ hR => hR.name c hc
  const c hc := fun _ hR => hR.const c hc
  lit c hc := fun _ hR => hR.lit c hc
  fn c T x k f hc h := fun R hR => hR.fn c T x k f hc (h R hR)
  lt c T x k f T' x' k' f' hc h h' := fun R hR => hR.lt c T x k f T' x' k' f' hc (h R hR) (h' R hR)
  call T x k f T' x' k' f' h h' := fun R hR => hR.call T x k f T' x' k' f' (h R hR) (h' R hR)

/-- What a reader of an expression leaves. -/
def Post (tx : Addr) (b : Nat) (s : ByteArray) (r : Out) (w : World) (e : Ending) (w' : World) : Prop :=
  Gb b w w' ∧ match r with
    | .error p => ∃ q, e = .returned (.tuple #[.nilIface, atv q]) ∧ AtErr tx q p w'
    | .ok (k, f, j) => ∃ T x, e = .returned (.tuple #[.iface T x, .nilIface]) ∧ Pv T x k f ∧ Rd b s j w'

/-- readExpr comes to what the grammar says, with n steps. -/
def ExprSaid (tl tx : Addr) (b : Nat) (s : ByteArray) (n : Nat) : Prop :=
  ∀ (i : Nat) (w : World), Rd b s i w → Gl tl tx w → i ≤ s.size → 3 * (s.size - i) + 2 ≤ n →
    Calls Tryd.prog 31 #[.pointer (some ⟨b, 0, none⟩)] w (Post tx b s (pr s n 0 i 0 []) w)
/-- .. readAtom likewise. -/
def AtomSaid (tl tx : Addr) (b : Nat) (s : ByteArray) (n : Nat) : Prop :=
  ∀ (i : Nat) (w : World), Rd b s i w → Gl tl tx w → i ≤ s.size → 3 * (s.size - i) + 1 ≤ n →
    Calls Tryd.prog 82 #[.pointer (some ⟨b, 0, none⟩)] w (Post tx b s (pr s n 2 i 0 []) w)

set_option maxHeartbeats 400000 in
theorem nameAnd_any (tl tx : Addr) (b : Nat) (s : ByteArray) (i m : Nat) (w : World) (h : Rd b s i w) (g : Gl tl tx w) (hi : i ≤ s.size) (hs : s.size ≤ 100000) (hb : 3 ≤ b) (hm : m ≠ 0) :
    Calls Tryd.prog 80 #[.pointer (some ⟨b, 0, none⟩), .int .u8 (m : Int)] w fun e w' => Gb b w w' ∧
      ((Hid (isLet (chr s i) = true) ∧ Hid (chr s (i + 1) = m) ∧ e = .returned (.tuple #[.int .u8 (chr s i), .nilIface]) ∧ Rd b s (i + 2) w' ∧ i + 2 ≤ s.size) ∨
       (Hid (isLet (chr s i) = true) ∧ Hid (chr s (i + 1) ≠ m) ∧ ∃ c q, e = .returned (.tuple #[.int .u8 c, atv q]) ∧ AtErr tx q (i + 1) w') ∨
       (Hid (isLet (chr s i) = false) ∧ ∃ c q, e = .returned (.tuple #[.int .u8 c, atv q]) ∧ AtErr tx q i w')) := by
  cases hc : isLet (chr s i)
  · have HC : Hid (isLet (chr s i) = false) := hc
    go_enter Tryd.func80, Tryd.ntmps80
    go_wp2_with fail
    refine (letter_no tl tx b s i w h g hi hs hc hb).mono ?_
    rintro e w' ⟨q, rfl, ha, hg⟩
    clear hc
    go_wp2_with fail
    go_ret2
    exact ⟨hg, .inr (.inr ⟨True.intro, _, q, rfl, ha⟩)⟩
  · have HC : Hid (isLet (chr s i) = true) := hc
    have hlt : i < s.size := chr_in (by intro e; rw [e] at hc; exact absurd hc (by decide))
    by_cases hd : chr s (i + 1) = m
    · have hlt2 : i + 1 < s.size := chr_in (by omega)
      have HD : Hid (chr s (i + 1) = m) := hd
      go_enter Tryd.func80, Tryd.ntmps80
      clear hd
      go_wp2_with fail
      refine (letter_yes b s i w h hs hc).mono ?_
      rintro e w' ⟨rfl, hr, hg⟩
      clear hc
      go_wp2_with fail
      refine (want_yes b s (i + 1) m w' hr hs HD.out hm).mono ?_
      rintro e w'' ⟨rfl, hr', hg'⟩
      go_wp2_with fail
      go_ret2
      exact ⟨hg.trans hg', .inl ⟨True.intro, HD, rfl, hr', by omega⟩⟩
    · have HD : Hid (chr s (i + 1) ≠ m) := hd
      go_enter Tryd.func80, Tryd.ntmps80
      clear hd
      go_wp2_with fail
      refine (letter_yes b s i w h hs hc).mono ?_
      rintro e w' ⟨rfl, hr, hg⟩
      clear hc
      go_wp2_with fail
      refine (want_no tl tx b s (i + 1) m w' hr (g.gb hg hb) (by omega) hs HD.out hb).mono ?_
      rintro e w'' ⟨q, rfl, ha, hg'⟩
      go_wp2_with fail
      go_ret2
      exact ⟨hg.trans hg', .inr (.inl ⟨True.intro, HD, _, q, rfl, ha⟩)⟩

/-- What readFunction comes to, at the name. -/
def fnOut (s : ByteArray) (n i : Nat) : Out :=
  if isLet (chr s i) then
    if chr s (i + 1) = 46 then
      match pr s n 0 (i + 2) 0 [] with
      | .error p => .error p
      | .ok (_, f, j) => .ok (2, 92 :: u8 (chr s i) :: 46 :: f, j)
    else .error (i + 1)
  else .error i

set_option maxHeartbeats 400000 in
theorem function_any (tl tx : Addr) (b : Nat) (s : ByteArray) (n i : Nat) (w : World) (ih : ExprSaid tl tx b s n) (h : Rd b s i w) (g : Gl tl tx w) (hi : i ≤ s.size) (hs : s.size ≤ 100000) (hb : 3 ≤ b) (hn : 3 * (s.size - i) ≤ n) :
    Calls Tryd.prog 59 #[.pointer (some ⟨b, 0, none⟩)] w (Post tx b s (fnOut s n i) w) := by
  have hl := chr_lt s i
  go_enter Tryd.func59, Tryd.ntmps59
  go_wp2_with fail
  refine (nameAnd_any tl tx b s i 46 w h g hi hs hb (by decide)).mono ?_
  rintro e w1 ⟨hg, ⟨hc, hd, rfl, hr, hj⟩ | ⟨hc, hd, c, q, rfl, ha⟩ | ⟨hc, c, q, rfl, ha⟩⟩
  · go_wp2_with fail
    refine (ih (i + 2) w1 hr (g.gb hg hb) hj (by omega)).mono ?_
    rintro e w2 ⟨hg2, hp⟩
    cases hq : pr s n 0 (i + 2) 0 [] with
    | error p =>
      rw [hq] at hp
      obtain ⟨q, rfl, ha⟩ := hp
      have HR : Hid (fnOut s n i = .error p) := by unfold Hid fnOut; rw [if_pos hc.out, if_pos hd.out, hq]
      clear hq
      go_wp2_with fail
      go_ret2
      rw [HR.out]
      exact ⟨hg.trans hg2, q, rfl, ha⟩
    | ok r =>
      obtain ⟨k, f, j⟩ := r
      rw [hq] at hp
      obtain ⟨T, x, rfl, hv, hr2⟩ := hp
      have HR : Hid (fnOut s n i = .ok (2, 92 :: u8 (chr s i) :: 46 :: f, j)) := by unfold Hid fnOut; rw [if_pos hc.out, if_pos hd.out, hq]
      clear hq
      go_wp2_with fail
      go_ret2
      rw [HR.out]
      exact ⟨hg.trans hg2, _, _, rfl, Pv.closed.fn _ T x k f hl hv, hr2⟩
  · have HR : Hid (fnOut s n i = .error (i + 1)) := by unfold Hid fnOut; rw [if_pos hc.out, if_neg hd.out]
    go_wp2_with fail
    go_ret2
    rw [HR.out]
    exact ⟨hg, q, rfl, ha⟩
  · have HR : Hid (fnOut s n i = .error i) := by unfold Hid fnOut; rw [if_neg (by rw [hc.out]; decide)]
    go_wp2_with fail
    go_ret2
    rw [HR.out]
    exact ⟨hg, q, rfl, ha⟩
end Go.Proofs.YtejcbbhengloiaaDoor
