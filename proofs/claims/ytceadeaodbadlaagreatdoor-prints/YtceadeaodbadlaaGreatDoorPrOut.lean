import Derived.Test.YtceadeaodbadlaaGreatDoorPure
set_option linter.unusedVariables false
set_option linter.unusedSimpArgs false
namespace Go.Proofs.YtceadeaodbadlaaGreatDoor

/-- What readFunction comes to, at the name. -/
def fnOut (s : ByteArray) (n i : Nat) : Out :=
  if isLet (chr s i) then
    if chr s (i + 1) = 46 then
      match pr s n 0 (i + 2) 0 [] with
      | .error p => .error p
      | .ok (_, f, j) => .ok (2, 92 :: u8 (chr s i) :: 46 :: f, j)
    else .error (i + 1)
  else .error i

/-- What readLet comes to, at the name. -/
def ltOut (s : ByteArray) (n i : Nat) : Out :=
  if isLet (chr s i) then
    if chr s (i + 1) = 61 then
      match pr s n 0 (i + 2) 0 [] with
      | .error p => .error p
      | .ok (_, f, j) =>
        if chr s j = 59 then
          match pr s n 0 (j + 1) 0 [] with
          | .error p => .error p
          | .ok (_, g, l) => .ok (2, 64 :: u8 (chr s i) :: 61 :: (f ++ 59 :: g), l)
        else .error j
    else .error (i + 1)
  else .error i

/-- What readClosed comes to, behind the bracket. -/
def clOut (s : ByteArray) (n i : Nat) : Out :=
  match pr s n 0 i 0 [] with
  | .error p => .error p
  | .ok (k, f, j) => if chr s j = 41 then .ok (k, f, j + 1) else .error j

theorem atom_step (s : ByteArray) (n i : Nat) (h : begins (chr s i) = true) (h40 : chr s i = 40) : pr s (n + 1) 2 i 0 [] = clOut s n (i + 1) := by
  rw [pr, if_pos h, if_pos h40]; rfl
theorem atom_one (s : ByteArray) (n i : Nat) (h : begins (chr s i) = true) (h40 : chr s i ≠ 40) : pr s (n + 1) 2 i 0 [] = .ok (0, [u8 (chr s i)], i + 1) := by
  rw [pr, if_pos h, if_neg h40]
theorem atom_none (s : ByteArray) (n i : Nat) (h : begins (chr s i) = false) : pr s (n + 1) 2 i 0 [] = .error i := by
  rw [pr, if_neg (by rw [h]; decide)]

/-- What readCalls comes to. -/
def caOut (s : ByteArray) (n i : Nat) : Out :=
  match pr s n 2 i 0 [] with
  | .error p => .error p
  | .ok (k, f, j) => pr s n 1 j k f

theorem more_yes (s : ByteArray) (m j k : Nat) (f : List UInt8) (h : begins (chr s j) = true) : pr s (m + 1) 1 j k f =
    match pr s m 2 j 0 [] with
    | .error p => .error p
    | .ok (l, g, q) => pr s m 1 q 1 (firstOf k f ++ secondOf l g) := by
  rw [pr, if_pos h]
  cases pr s m 2 j 0 [] <;> rfl
theorem more_no (s : ByteArray) (m j k : Nat) (f : List UInt8) (h : begins (chr s j) = false) : pr s (m + 1) 1 j k f = .ok (k, f, j) := by
  rw [pr, if_neg (by rw [h]; decide)]

theorem expr_fn (s : ByteArray) (n i : Nat) (h : chr s i = 92) : pr s (n + 1) 0 i 0 [] = fnOut s n (i + 1) := by
  rw [pr, if_pos h]; rfl
theorem expr_lt (s : ByteArray) (n i : Nat) (h : chr s i = 64) : pr s (n + 1) 0 i 0 [] = ltOut s n (i + 1) := by
  rw [pr, if_neg (by omega), if_pos h]; rfl
theorem expr_ca (s : ByteArray) (n i : Nat) (h : chr s i ≠ 92) (h' : chr s i ≠ 64) : pr s (n + 1) 0 i 0 [] = caOut s n i := by
  rw [pr, if_neg h, if_neg h']; rfl

theorem chr_at {s : ByteArray} {i : Nat} (hlt : i < s.size) : s[i].toNat = chr s i := by simp [chr, hlt]

theorem firstOf_len (k : Nat) (f : List UInt8) : (firstOf k f).length ≤ f.length + 2 := by unfold firstOf; split <;> simp
theorem secondOf_len (k : Nat) (f : List UInt8) : (secondOf k f).length ≤ f.length + 2 := by unfold secondOf; split <;> simp

/-- The one form is not much longer than the text. -/
theorem pr_len (s : ByteArray) : ∀ (n t i k : Nat) (f : List UInt8) (d : Nat) (l : Nat) (g : List UInt8) (j : Nat), pr s n t i k f = .ok (l, g, j) → i ≤ s.size → (t = 1 → f.length + 4 ≤ 5 * d) → (t ≠ 1 → d = 0) →
    g.length + 4 ≤ 5 * (d + (j - i)) := by
  intro n
  induction n with
  | zero => intro t i k f d l g j h; simp [pr] at h
  | succ n ih =>
    intro t i k f d l g j h hi hd hd0
    match t with
    | 0 =>
      have hd1 := hd0 (by decide)
      rw [pr] at h
      split at h
      · split at h
        · rename_i h2
          have i2 := chr_in (s := s) (i := i + 1) (by rintro e; rw [e] at h2; exact absurd h2 (by decide))
          split at h
          · rename_i h3
            have i3 := chr_in (s := s) (i := i + 2) (by omega)
            split at h
            · cases h
            · rename_i h4
              have := ih _ _ _ _ 0 _ _ _ h4 (by omega) (by omega) (by omega)
              have p4 := pr_places s _ _ _ _ _ _ _ _ h4 (by omega)
              cases h; simp; omega
          · cases h
        · cases h
      · split at h
        · split at h
          · rename_i h2
            have i2 := chr_in (s := s) (i := i + 1) (by rintro e; rw [e] at h2; exact absurd h2 (by decide))
            split at h
            · rename_i h3
              have i3 := chr_in (s := s) (i := i + 2) (by omega)
              split at h
              · cases h
              · rename_i h4
                have p4 := pr_places s _ _ _ _ _ _ _ _ h4 (by omega)
                have l4 := ih _ _ _ _ 0 _ _ _ h4 (by omega) (by omega) (by omega)
                split at h
                · rename_i h5
                  have i5 := chr_in (fun e => absurd (h5.symm.trans e) (by decide))
                  split at h
                  · cases h
                  · rename_i h6
                    have p6 := pr_places s _ _ _ _ _ _ _ _ h6 (by omega)
                    have l6 := ih _ _ _ _ 0 _ _ _ h6 (by omega) (by omega) (by omega)
                    cases h; simp; omega
                · cases h
            · cases h
          · cases h
        · split at h
          · cases h
          · rename_i h4
            have p4 := pr_places s _ _ _ _ _ _ _ _ h4 (by omega)
            have l4 := ih _ _ _ _ 0 _ _ _ h4 (by omega) (by omega) (by omega)
            have p5 := pr_places s _ _ _ _ _ _ _ _ h (by omega)
            have l5 := ih _ _ _ _ _ _ _ _ h (by omega) (fun _ => l4) (by omega)
            omega
    | 1 =>
      have hd1 := hd rfl
      rw [pr] at h
      split at h
      · split at h
        · cases h
        · rename_i h4
          have p4 := pr_places s _ _ _ _ _ _ _ _ h4 (by omega)
          have l4 := ih _ _ _ _ 0 _ _ _ h4 (by omega) (by omega) (by omega)
          rename_i l' g' j'
          have p5 := pr_places s _ _ _ _ _ _ _ _ h (by omega)
          have l5 := ih _ _ _ _ (d + (j' - i)) _ _ _ h (by omega) (fun _ => by
            have a := firstOf_len k f
            have b := secondOf_len l' g'
            rw [List.length_append]; omega) (by omega)
          omega
      · cases h; omega
    | t + 2 =>
      have hd1 := hd0 (by omega)
      rw [pr] at h
      split at h
      · rename_i h1
        have i1 := chr_in (s := s) (i := i) (begins_ne h1)
        split at h
        · split at h
          · cases h
          · rename_i h4
            have p4 := pr_places s _ _ _ _ _ _ _ _ h4 (by omega)
            have l4 := ih _ _ _ _ 0 _ _ _ h4 (by omega) (by omega) (by omega)
            split at h
            · cases h; omega
            · cases h
        · cases h; simp; omega
      · cases h

theorem whole_len (s : ByteArray) (f : List UInt8) (h : whole s = .ok f) : f.length ≤ 5 * s.size := by
  unfold whole at h
  split at h
  · cases h
  · rename_i h4
    have p4 := pr_places s _ _ _ _ _ _ _ _ h4 (Nat.zero_le _)
    have l4 := pr_len s _ _ _ _ _ 0 _ _ _ h4 (Nat.zero_le _) (by omega) (by omega)
    split at h
    · cases h
    · cases h; omega

end Go.Proofs.YtceadeaodbadlaaGreatDoor
