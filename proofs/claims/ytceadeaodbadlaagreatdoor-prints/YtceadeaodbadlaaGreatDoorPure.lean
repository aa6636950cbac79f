import Derived.WalkKit
set_option linter.unusedVariables false
set_option linter.unusedSimpArgs false
namespace Go.Proofs.YtceadeaodbadlaaGreatDoor

/-- The byte at a place; behind the end: 0. -/
def chr (s : ByteArray) (i : Nat) : Nat := if h : i < s.size then s[i].toNat else 0

theorem chr_lt (s : ByteArray) (i : Nat) : chr s i < 256 := by
  unfold chr; split
  · exact s[i].toNat_lt
  · omega

theorem chr_in {s : ByteArray} {i : Nat} (h : chr s i ≠ 0) : i < s.size := by
  unfold chr at h; split at h
  · assumption
  · simp at h

def isLet (c : Nat) : Bool := decide (97 ≤ c) && decide (c ≤ 122)
def isCon (c : Nat) : Bool := c == 78 || c == 67 || c == 80 || c == 76 || c == 82 || c == 74 || c == 69 || c == 65 || c == 89 || c == 68
def isLit (c : Nat) : Bool := (decide (48 ≤ c) && decide (c ≤ 57)) || c == 84 || c == 70
def begins (c : Nat) : Bool := c == 40 || isLet c || isCon c || isLit c

theorem begins_ne {c : Nat} (h : begins c = true) : c ≠ 0 := by
  rintro rfl; revert h; decide

/-- Kinds of expressions: 0 an atom, 1 a call, 2 a function or an @. -/
def firstOf (k : Nat) (f : List UInt8) : List UInt8 := if k = 2 then 40 :: (f ++ [41]) else f
def secondOf (k : Nat) (f : List UInt8) : List UInt8 := if k = 0 then f else 40 :: (f ++ [41])

/-- What a reader comes to: a place at which it cannot go on, or the kind, the one form, the place behind. -/
abbrev Out : Type := Except Nat (Nat × List UInt8 × Nat)

def u8 (c : Nat) : UInt8 := UInt8.ofNat c

/-- The grammar, read: tag 0: an expression at i; 1: what stands behind the atoms read so far (of kind k and form f); else an atom. -/
def pr (s : ByteArray) : Nat → Nat → Nat → Nat → List UInt8 → Out
  | 0, _, i, _, _ => .error i
  | n + 1, 0, i, _, _ =>
    if chr s i = 92 then
      if isLet (chr s (i + 1)) then
        if chr s (i + 2) = 46 then
          match pr s n 0 (i + 3) 0 [] with
          | .error p => .error p
          | .ok (_, f, j) => .ok (2, 92 :: u8 (chr s (i + 1)) :: 46 :: f, j)
        else .error (i + 2)
      else .error (i + 1)
    else if chr s i = 64 then
      if isLet (chr s (i + 1)) then
        if chr s (i + 2) = 61 then
          match pr s n 0 (i + 3) 0 [] with
          | .error p => .error p
          | .ok (_, f, j) =>
            if chr s j = 59 then
              match pr s n 0 (j + 1) 0 [] with
              | .error p => .error p
              | .ok (_, g, l) => .ok (2, 64 :: u8 (chr s (i + 1)) :: 61 :: (f ++ 59 :: g), l)
            else .error j
        else .error (i + 2)
      else .error (i + 1)
    else
      match pr s n 2 i 0 [] with
      | .error p => .error p
      | .ok (k, f, j) => pr s n 1 j k f
  | n + 1, 1, i, k, f =>
    if begins (chr s i) then
      match pr s n 2 i 0 [] with
      | .error p => .error p
      | .ok (l, g, j) => pr s n 1 j 1 (firstOf k f ++ secondOf l g)
    else .ok (k, f, i)
  | n + 1, _ + 2, i, _, _ =>
    if begins (chr s i) then
      if chr s i = 40 then
        match pr s n 0 (i + 1) 0 [] with
        | .error p => .error p
        | .ok (k, f, j) => if chr s j = 41 then .ok (k, f, j + 1) else .error j
      else .ok (0, [u8 (chr s i)], i + 1)
    else .error i

/-- The whole: behind the expression the text ends. -/
def whole (s : ByteArray) : Except Nat (List UInt8) :=
  match pr s (3 * s.size + 2) 0 0 0 [] with
  | .error p => .error p
  | .ok (_, f, j) => if j < s.size then .error j else .ok f

/-- The places: what is read lies behind what was read before, and within the text. -/
theorem pr_places (s : ByteArray) : ∀ (n t i k : Nat) (f : List UInt8) (l : Nat) (g : List UInt8) (j : Nat), pr s n t i k f = .ok (l, g, j) → i ≤ s.size →
    (i < j ∨ (t = 1 ∧ i ≤ j)) ∧ j ≤ s.size := by
  intro n
  induction n with
  | zero => intro t i k f l g j h; simp [pr] at h
  | succ n ih =>
    intro t i k f l g j h hi
    match t with
    | 0 =>
      rw [pr] at h
      split at h
      · rename_i h1
        have i1 := chr_in (s := s) (i := i) (by omega)
        split at h
        · rename_i h2
          have i2 := chr_in (s := s) (i := i + 1) (by rintro e; rw [e] at h2; exact absurd h2 (by decide))
          split at h
          · rename_i h3
            have i3 := chr_in (s := s) (i := i + 2) (by omega)
            split at h
            · cases h
            · rename_i h4
              have := ih _ _ _ _ _ _ _ h4 (by omega)
              cases h; omega
          · cases h
        · cases h
      · split at h
        · rename_i h1
          have i1 := chr_in (s := s) (i := i) (by omega)
          split at h
          · rename_i h2
            have i2 := chr_in (s := s) (i := i + 1) (by rintro e; rw [e] at h2; exact absurd h2 (by decide))
            split at h
            · rename_i h3
              have i3 := chr_in (s := s) (i := i + 2) (by omega)
              split at h
              · cases h
              · rename_i h4
                have p4 := ih _ _ _ _ _ _ _ h4 (by omega)
                split at h
                · rename_i h5
                  have i5 := chr_in (fun e => absurd (h5.symm.trans e) (by decide))
                  split at h
                  · cases h
                  · rename_i h6
                    have p6 := ih _ _ _ _ _ _ _ h6 (by omega)
                    cases h; omega
                · cases h
            · cases h
          · cases h
        · split at h
          · cases h
          · rename_i h4
            have p4 := ih _ _ _ _ _ _ _ h4 (by omega)
            have p5 := ih _ _ _ _ _ _ _ h (by omega)
            omega
    | 1 =>
      rw [pr] at h
      split at h
      · split at h
        · cases h
        · rename_i h4
          have p4 := ih _ _ _ _ _ _ _ h4 (by omega)
          have p5 := ih _ _ _ _ _ _ _ h (by omega)
          omega
      · cases h; omega
    | t + 2 =>
      rw [pr] at h
      split at h
      · rename_i h1
        have i1 := chr_in (s := s) (i := i) (begins_ne h1)
        split at h
        · split at h
          · cases h
          · rename_i h4
            have p4 := ih _ _ _ _ _ _ _ h4 (by omega)
            split at h
            · rename_i h5
              have i5 := chr_in (fun e => absurd (h5.symm.trans e) (by decide))
              cases h; omega
            · cases h
        · cases h; omega
      · cases h
end Go.Proofs.YtceadeaodbadlaaGreatDoor
