import Derived.Test.YtejcbbhengloiaaDoorPrint
set_option linter.unusedVariables false
set_option linter.unusedSimpArgs false
namespace Go.Proofs.YtejcbbhengloiaaDoor
open Go.RowKit

theorem firstOf_len (k : Nat) (f : List UInt8) : (firstOf k f).length ≤ f.length + 2 := by unfold firstOf; split <;> simp
theorem secondOf_len (k : Nat) (f : List UInt8) : (secondOf k f).length ≤ f.length + 2 := by unfold secondOf; split <;> simp

/-- The one form is not much longer than the text. -/
theorem pr_len (s : ByteArray) : ∀ (n t i k : Nat) (f : List UInt8) (d : Nat) (l : Nat) (g : List UInt8) (j : Nat), pr s n t i k f = .ok (l, g, j) → i ≤ s.size → (t = 1 → f.length + 4 ≤ 5 * d) → (t ≠ 1 → d = 0) →
    g.length + 4 ≤ 5 * (d + (j - i)) := by
  intro n
  induction n with
  | zero => intro t i k f d l g j h; simp [pr] at h
  | succ n ih =>
    intro t i k f d l g j h hi hd hd0
    match t with
    | 0 =>
      have hd1 := hd0 (by decide)
      rw [pr] at h
      split at h
      · split at h
        · rename_i h2
          have i2 := chr_in (s := s) (i := i + 1) (by rintro e; rw [e] at h2; exact absurd h2 (by decide))
          split at h
          · rename_i h3
            have i3 := chr_in (s := s) (i := i + 2) (by omega)
            split at h
            · cases h
            · rename_i h4
              have := ih _ _ _ _ 0 _ _ _ h4 (by omega) (by omega) (by omega)
              have p4 := pr_places s _ _ _ _ _ _ _ _ h4 (by omega)
              cases h; simp; omega
          · cases h
        · cases h
      · split at h
        · split at h
          · rename_i h2
            have i2 := chr_in (s := s) (i := i + 1) (by rintro e; rw [e] at h2; exact absurd h2 (by decide))
            split at h
            · rename_i h3
              have i3 := chr_in (s := s) (i := i + 2) (by omega)
              split at h
              · cases h
              · rename_i h4
                have p4 := pr_places s _ _ _ _ _ _ _ _ h4 (by omega)
                have l4 := ih _ _ _ _ 0 _ _ _ h4 (by omega) (by omega) (by omega)
                split at h
                · rename_i h5
                  have i5 := chr_in (fun e => absurd (h5.symm.trans e) (by decide))
                  split at h
                  · cases h
                  · rename_i h6
                    have p6 := pr_places s _ _ _ _ _ _ _ _ h6 (by omega)
                    have l6 := ih _ _ _ _ 0 _ _ _ h6 (by omega) (by omega) (by omega)
                    cases h; simp; omega
                · cases h
            · cases h
          · cases h
        · split at h
          · cases h
          · rename_i h4
            have p4 := pr_places s _ _ _ _ _ _ _ _ h4 (by omega)
            have l4 := ih _ _ _ _ 0 _ _ _ h4 (by omega) (by omega) (by omega)
            have p5 := pr_places s _ _ _ _ _ _ _ _ h (by omega)
            have l5 := ih _ _ _ _ _ _ _ _ h (by omega) (fun _ => l4) (by omega)
            omega
    | 1 =>
      have hd1 := hd rfl
      rw [pr] at h
      split at h
      · split at h
        · cases h
        · rename_i h4
          have p4 := pr_places s _ _ _ _ _ _ _ _ h4 (by omega)
          have l4 := ih _ _ _ _ 0 _ _ _ h4 (by omega) (by omega) (by omega)
          rename_i l' g' j'
          have p5 := pr_places s _ _ _ _ _ _ _ _ h (by omega)
          have l5 := ih _ _ _ _ (d + (j' - i)) _ _ _ h (by omega) (fun _ => by
            have a := firstOf_len k f
            have b := secondOf_len l' g'
            rw [List.length_append]; omega) (by omega)
          omega
      · cases h; omega
    | t + 2 =>
      have hd1 := hd0 (by omega)
      rw [pr] at h
      split at h
      · rename_i h1
        have i1 := chr_in (s := s) (i := i) (begins_ne h1)
        split at h
        · split at h
          · cases h
          · rename_i h4
            have p4 := pr_places s _ _ _ _ _ _ _ _ h4 (by omega)
            have l4 := ih _ _ _ _ 0 _ _ _ h4 (by omega) (by omega) (by omega)
            split at h
            · cases h; omega
            · cases h
        · cases h; simp; omega
      · cases h

theorem whole_len (s : ByteArray) (f : List UInt8) (h : whole s = .ok f) : f.length ≤ 5 * s.size := by
  unfold whole at h
  split at h
  · cases h
  · rename_i h4
    have p4 := pr_places s _ _ _ _ _ _ _ _ h4 (Nat.zero_le _)
    have l4 := pr_len s _ _ _ _ _ 0 _ _ _ h4 (Nat.zero_le _) (by omega) (by omega)
    split at h
    · cases h
    · cases h; omega

/-- What the readers make is written in its one form. -/
theorem Pv.wr {T : TypeId} {x : Value} {k : Nat} {f : List UInt8} (h : Pv T x k f) : Kd T x k ∧ Wr T x f := by
  refine h (fun T x k f => Kd T x k ∧ Wr T x f) ?_
  refine ⟨fun c hc => ⟨.inl ⟨rfl, .inl rfl, _, rfl⟩, wr_name c hc⟩, fun c hc => ⟨.inl ⟨rfl, .inr (.inl rfl), _, rfl⟩, wr_const c hc⟩, fun c hc => ⟨.inl ⟨rfl, .inr (.inr rfl), _, rfl⟩, wr_lit c hc⟩,
    fun c T x k f hc h => ⟨.inr (.inr (.inl ⟨rfl, rfl, _, _, _, rfl⟩)), wr_fn c T x f hc h.2⟩,
    fun c T x k f T' x' k' f' hc h h' => ⟨.inr (.inr (.inr ⟨rfl, rfl, _, _, _, _, _, rfl⟩)), wr_let c T x f T' x' f' hc h.2 h'.2⟩,
    fun T x k f T' x' k' f' h h' => ⟨.inr (.inl ⟨rfl, rfl, _, _, _, _, rfl⟩), wr_call T x k f T' x' k' f' h.1 h'.1 h.2 h'.2⟩⟩

theorem Bu.new (w : World) : Bu w.heap.size w.heap.size [] (w.alloc (.cells #[.pointer none, .slice none 0 0] 86)) :=
  .inl ⟨Nat.le_refl _, .slice none 0 0, heap_alloc_new w _, World.ownsRow_nil _ _ _ _, by simp [Value.ownBlock]⟩

set_option maxHeartbeats 400000 in
theorem write_any (T : TypeId) (x : Value) (f : List UInt8) (w : World) (h : Wr T x f) (hf : f.length ≤ 1000000) :
    Calls Tryd.prog 20 #[.iface T x] w fun e w' => e = .returned (.string ⟨f.toArray⟩) ∧ Below w.heap.size w w' := by
  have hb := Bu.new w
  go_enter Tryd.func20, Tryd.ntmps20
  go_wp2_with fail
  refine (h w.heap.size w.heap.size [] _ hb (by simp) (by simpa using hf)).mono ?_
  rintro e w1 ⟨rfl, h1, k1⟩
  have s1 : w.heap.size ≤ w1.heap.size := Nat.le_trans (by simp) k1.size
  go_wp2_with fail
  refine (builderString w.heap.size w.heap.size _ w1 h1 s1).mono ?_
  rintro e w2 ⟨rfl, h2⟩
  go_wp2_with fail
  go_ret
  exact ⟨rfl, (((Below.refl _ w).alloc (Nat.le_refl _) _).trans k1.1).trans h2⟩

/-- What printed leaves. -/
def PrPost (tl tx : Addr) (s : ByteArray) (w : World) (e : Ending) (w' : World) : Prop :=
  Below w.heap.size w w' ∧
    ((24 < s.size ∧ e = .returned (.tuple #[.string ⟨#[]⟩, .iface 181 (.pointer (some tl))])) ∨
     (s.size ≤ 24 ∧ ∃ p q, whole s = .error p ∧ e = .returned (.tuple #[.string ⟨#[]⟩, atv q]) ∧ AtErr tx q p w') ∨
     (s.size ≤ 24 ∧ ∃ f, whole s = .ok f ∧ e = .returned (.tuple #[.string ⟨f.toArray⟩, .nilIface])))

set_option maxHeartbeats 400000 in
theorem printed_any (tl tx : Addr) (s : ByteArray) (w : World) (g : Gs tl tx w) (hs : s.size ≤ maxLen) :
    Calls Tryd.prog 11 #[.string s] w (PrPost tl tx s w) := by
  have h0 := g.long
  unfold maxLen at hs
  by_cases h24 : 24 < s.size
  · have HH : Hid (24 < s.size) := h24
    go_enter Tryd.func11, Tryd.ntmps11
    go_wp2_with fail
    go_quiet (fail)
    go_wp2_with fail
    go_ret2
    exact ⟨below_drewN (Below.refl _ w) _, .inl ⟨HH.out, rfl⟩⟩
  · have HH : Hid (s.size ≤ 24) := by unfold Hid; omega
    have hh : s.size ≤ 24 := HH
    clear h24
    go_enter Tryd.func11, Tryd.ntmps11
    go_wp2_with fail
    refine (read_any tl tx s w g.toGl (by omega)).mono ?_
    rintro e w1 ⟨hb, hp⟩
    cases hq : whole s with
    | error p =>
      rw [hq] at hp
      obtain ⟨q, rfl, ha⟩ := hp
      have HQ : Hid (whole s = .error p) := hq
      clear hq
      go_wp2_with fail
      go_ret2
      exact ⟨hb, .inr (.inl ⟨HH, p, q, HQ, rfl, ha⟩)⟩
    | ok f =>
      rw [hq] at hp
      obtain ⟨T, x, k, rfl, hv⟩ := hp
      have hl := whole_len s f hq
      have HQ : Hid (whole s = .ok f) := hq
      clear hq
      go_wp2_with fail
      refine (write_any T x f w1 hv.wr.2 (by omega)).mono ?_
      rintro e w2 ⟨rfl, hb2⟩
      go_wp2_with fail
      go_ret2
      exact ⟨hb.trans (hb2.mono hb.size), .inr (.inr ⟨HH, f, HQ, rfl⟩)⟩

/-- What Print answers: the text, the number, the place. -/
def printOut (s : ByteArray) : ByteArray × Nat × Nat :=
  if 24 < s.size then (⟨#[]⟩, 1, 0) else match whole s with
    | .error p => (⟨#[]⟩, 2, p)
    | .ok f => (⟨f.toArray⟩, 0, 0)

set_option maxHeartbeats 400000 in
theorem print_any (tl tx : Addr) (s : ByteArray) (w : World) (g : Gs tl tx w) (hs : s.size ≤ maxLen) :
    Calls Tryd.prog 6 #[.string s] w fun e w' => e = .returned (.tuple #[.string (printOut s).1, .int .i64 ((printOut s).2.1 : Int), .int .i64 ((printOut s).2.2 : Int)]) ∧ Below w.heap.size w w' := by
  go_enter Tryd.func6, Tryd.ntmps6
  go_wp2_with fail
  refine (printed_any tl tx s w g hs).mono ?_
  rintro e w1 ⟨hb, ⟨h24, rfl⟩ | ⟨h24, p, q, hq, rfl, ha⟩ | ⟨h24, f, hq, rfl⟩⟩
  · have HR : Hid (printOut s = (⟨#[]⟩, 1, 0)) := by unfold Hid printOut; rw [if_pos h24]
    clear h24
    have g1 := g.below hb
    go_wp2_with fail
    refine (number_long tl tx w1 g1).mono ?_
    rintro e w' ⟨rfl, rfl⟩
    go_wp2_with fail
    refine (place_long tl tx _ g1).mono ?_
    rintro e w2 ⟨rfl, hb2⟩
    go_wp2_with fail
    go_ret3
    rw [HR.out]
    exact ⟨rfl, hb.trans (hb2.mono hb.size)⟩
  · have HR : Hid (printOut s = (⟨#[]⟩, 2, p)) := by unfold Hid printOut; rw [if_neg (by omega), hq]
    clear h24 hq
    have g1 := g.below hb
    go_wp2_with fail
    refine (number_at tl tx q p w1 g1 ha).mono ?_
    rintro e w' ⟨rfl, rfl⟩
    go_wp2_with fail
    refine (place_at tl tx q p _ g1 ha).mono ?_
    rintro e w2 ⟨rfl, hb2⟩
    go_wp2_with fail
    go_ret3
    rw [HR.out]
    exact ⟨rfl, hb.trans (hb2.mono hb.size)⟩
  · have HR : Hid (printOut s = (⟨f.toArray⟩, 0, 0)) := by unfold Hid printOut; rw [if_neg (by omega), hq]
    clear h24 hq
    have g1 := g.below hb
    go_wp2_with fail
    refine (number_nil tl tx w1 g1).mono ?_
    rintro e w' ⟨rfl, rfl⟩
    go_wp2_with fail
    refine (place_nil _).mono ?_
    rintro e w2 ⟨rfl, hb2⟩
    go_wp2_with fail
    go_ret3
    rw [HR.out]
    exact ⟨rfl, hb.trans (hb2.mono hb.size)⟩
end Go.Proofs.YtejcbbhengloiaaDoor
