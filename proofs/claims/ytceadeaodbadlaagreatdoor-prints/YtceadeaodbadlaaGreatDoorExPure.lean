import Derived.Test.YtceadeaodbadlaaGreatDoorTyPure
set_option linter.unusedVariables false
set_option linter.unusedSimpArgs false
namespace Go.Proofs.YtceadeaodbadlaaGreatDoor

/-- What stands at a part of an expression: a byte, a place, types, variables with their places. -/
structure Pt where
  c : Nat
  p : Nat
  g : List Ty
  v : List (Nat × Nat)

/-- Expressions, as trees: the sign 0: a name, 1: a constant, 2: a digit, T or F, 3: a function, 4: an @, 5: a call. -/
abbrev Ex : Type := Go.Deep.BT Pt
abbrev eX (c p : Nat) (g : List Ty) : Ex := .node 0 0 ⟨c, p, g, []⟩ .nil .nil
abbrev eK (c p : Nat) (g : List Ty) : Ex := .node 1 0 ⟨c, p, g, []⟩ .nil .nil
abbrev eN (c p : Nat) : Ex := .node 2 0 ⟨c, p, [], []⟩ .nil .nil
abbrev eF (c p : Nat) (g : List Ty) (a : Ex) : Ex := .node 3 0 ⟨c, p, g, []⟩ a .nil
abbrev eL (c p : Nat) (v : List (Nat × Nat)) (a b : Ex) : Ex := .node 4 0 ⟨c, p, [], v⟩ a b
abbrev eC (p : Nat) (a b : Ex) : Ex := .node 5 0 ⟨0, p, [], []⟩ a b

/-- A type at i. -/
def pT (s : ByteArray) (i : Nat) : TOut := pt s (3 * s.size + 3) 0 i .nil

/-- Types with commas between, from i on, up to the bracket. -/
def pg (s : ByteArray) : Nat → Nat → List Ty → Except Nat (List Ty × Nat)
  | 0, i, _ => .error i
  | n + 1, i, l =>
    match pT s i with
    | .error p => .error p
    | .ok (t, j) => if chr s j = 44 then pg s n (j + 1) (l ++ [t]) else if chr s j = 125 then .ok (l ++ [t], j + 1) else .error j

/-- The place behind a variable at i. -/
def vEnd (s : ByteArray) (i : Nat) : Nat := if 49 ≤ chr s (i + 1) ∧ chr s (i + 1) ≤ 57 then i + 2 else i + 1

/-- The variables of an @, from i on. -/
def pw (s : ByteArray) : Nat → Nat → List (Nat × Nat) → Except Nat (List (Nat × Nat) × Nat)
  | 0, i, _ => .error i
  | n + 1, i, l =>
    if chr s i = 62 then .ok (l, i + 1)
    else if isLet (chr s i) then pw s n (vEnd s i) (l ++ [(vnum (chr s i) (chr s (i + 1)), i)])
    else .error i

def fromO (s : ByteArray) (ty : Bool) (i : Nat) : Except Nat (List Ty × Nat) :=
  if ty then
    if chr s i = 58 then
      match pT s (i + 1) with
      | .error p => .error p
      | .ok (t, j) => .ok ([t], j)
    else .error i
  else .ok ([], i)
def ownO (s : ByteArray) (ty : Bool) (i : Nat) : Except Nat (List (Nat × Nat) × Nat) :=
  if ty then if chr s i = 60 then pw s (s.size + 1) (i + 1) [] else .error i else .ok ([], i)
def givenO (s : ByteArray) (ty : Bool) (i : Nat) : Except Nat (List Ty × Nat) :=
  if ty then if chr s i = 123 then pg s (s.size + 1) (i + 1) [] else .ok ([], i) else .ok ([], i)

/-- What a reader of expressions comes to. -/
abbrev EOut : Type := Except Nat (Ex × Nat)

/-- The grammar of expressions (ty: of typed ones), read: tag 0: an expression at i; 1: what stands behind the atoms read so far; else an atom. -/
def pe (s : ByteArray) (ty : Bool) : Nat → Nat → Nat → Ex → EOut
  | 0, _, i, _ => .error i
  | n + 1, 0, i, _ =>
    if chr s i = 92 then
      if isLet (chr s (i + 1)) then
        match fromO s ty (i + 2) with
        | .error p => .error p
        | .ok (g, j) =>
          if chr s j = 46 then
            match pe s ty n 0 (j + 1) .nil with
            | .error p => .error p
            | .ok (a, k) => .ok (eF (chr s (i + 1)) i g a, k)
          else .error j
      else .error (i + 1)
    else if chr s i = 64 then
      if isLet (chr s (i + 1)) then
        match ownO s ty (i + 2) with
        | .error p => .error p
        | .ok (v, j) =>
          if chr s j = 61 then
            match pe s ty n 0 (j + 1) .nil with
            | .error p => .error p
            | .ok (a, k) =>
              if chr s k = 59 then
                match pe s ty n 0 (k + 1) .nil with
                | .error p => .error p
                | .ok (b, l) => .ok (eL (chr s (i + 1)) i v a b, l)
              else .error k
          else .error j
      else .error (i + 1)
    else
      match pe s ty n 2 i .nil with
      | .error p => .error p
      | .ok (a, j) => pe s ty n 1 j a
  | n + 1, 1, i, a =>
    if begins (chr s i) then
      match pe s ty n 2 i .nil with
      | .error p => .error p
      | .ok (b, j) => pe s ty n 1 j (eC i a b)
    else .ok (a, i)
  | n + 1, _ + 2, i, _ =>
    if begins (chr s i) then
      if isLit (chr s i) then .ok (eN (chr s i) i, i + 1)
      else if chr s i = 40 then
        match pe s ty n 0 (i + 1) .nil with
        | .error p => .error p
        | .ok (a, j) => if chr s j = 41 then .ok (a, j + 1) else .error j
      else
        match givenO s ty (i + 1) with
        | .error p => .error p
        | .ok (g, j) => .ok (if isCon (chr s i) then eK (chr s i) i g else eX (chr s i) i g, j)
    else .error i

/-- The whole: behind the expression the text ends. -/
def wholeE (s : ByteArray) (ty : Bool) : Except Nat Ex :=
  match pe s ty (3 * s.size + 2) 0 0 .nil with
  | .error p => .error p
  | .ok (e, j) => if j < s.size then .error j else .ok e

/-- Kind and one form of an expression, without its types. -/
def knd : Ex → Nat
  | .nil => 0
  | .node t _ _ _ _ => if t ≤ 2 then 0 else if t = 5 then 1 else 2
def frm : Ex → List UInt8
  | .nil => []
  | .node t _ x a b =>
    if t = 3 then 92 :: u8 x.c :: 46 :: frm a
    else if t = 4 then 64 :: u8 x.c :: 61 :: (frm a ++ 59 :: frm b)
    else if t = 5 then firstOf (knd a) (frm a) ++ secondOf (knd b) (frm b)
    else [u8 x.c]

def asOut : EOut → Out
  | .error p => .error p
  | .ok (e, j) => .ok (knd e, frm e, j)

theorem lit_let {c : Nat} (h : isLit c = true) : c ≠ 40 := by rintro rfl; revert h; decide

theorem pe_pr (s : ByteArray) : ∀ (n t i : Nat) (a : Ex), pr s n t i (knd a) (frm a) = asOut (pe s false n t i a) := by
  intro n
  induction n with
  | zero => intro t i a; simp [pr, pe, asOut]
  | succ n ih =>
    intro t i a
    have ih0 := fun i => ih 0 i .nil
    have ih2 := fun i => ih 2 i .nil
    simp only [knd, frm] at ih0 ih2
    match t with
    | 0 =>
      rw [pr, pe]
      simp only [fromO, ownO, Bool.false_eq_true, if_false]
      split
      · split
        · split
          · rw [ih0]
            cases pe s false n 0 (i + 2 + 1) .nil with
            | error p => rfl
            | ok r => obtain ⟨e, j⟩ := r; rfl
          · rfl
        · rfl
      · split
        · split
          · split
            · rw [ih0]
              cases pe s false n 0 (i + 2 + 1) .nil with
              | error p => rfl
              | ok r =>
                obtain ⟨e, j⟩ := r
                simp only [asOut]
                split
                · rw [ih0]
                  cases pe s false n 0 (j + 1) .nil with
                  | error p => rfl
                  | ok r => obtain ⟨e, j⟩ := r; rfl
                · rfl
            · rfl
          · rfl
        · rw [ih2]
          cases pe s false n 2 i .nil with
          | error p => rfl
          | ok r => obtain ⟨e, j⟩ := r; exact ih 1 j e
    | 1 =>
      rw [pr, pe]
      split
      · rw [ih2]
        cases pe s false n 2 i .nil with
        | error p => rfl
        | ok r => obtain ⟨e, j⟩ := r; exact ih 1 j (eC i a e)
      · rfl
    | t + 2 =>
      rw [pr, pe]
      simp only [givenO, Bool.false_eq_true, if_false]
      split
      · by_cases hl : isLit (chr s i) = true
        · rw [if_neg (lit_let hl), if_pos hl]; rfl
        · rw [if_neg hl]
          split
          · rw [ih0]
            cases pe s false n 0 (i + 1) .nil with
            | error p => rfl
            | ok r =>
              obtain ⟨e, j⟩ := r
              simp only [asOut]
              split <;> rfl
          · simp only [asOut]
            split <;> rfl
      · rfl

theorem whole_e (s : ByteArray) : whole s = match wholeE s false with | .error p => .error p | .ok e => .ok (frm e) := by
  unfold whole wholeE
  have h := pe_pr s (3 * s.size + 2) 0 0 .nil
  simp only [knd, frm] at h
  rw [h]
  cases pe s false (3 * s.size + 2) 0 0 .nil with
  | error p => rfl
  | ok r =>
    obtain ⟨e, j⟩ := r
    simp only [asOut]
    split <;> rfl

/-- A type that was read has no more nodes than bytes were read. -/
theorem pt_size (s : ByteArray) : ∀ (n t i : Nat) (a u : Ty) (j : Nat), pt s n t i a = .ok (u, j) → i ≤ s.size → (t = 1 → Ok a) →
    sz u ≤ (if t = 1 then sz a else 0) + (j - i) := by
  intro n
  induction n with
  | zero => intro t i a u j h; simp [pt] at h
  | succ n ih =>
    intro t i a u j h hi ha
    match t with
    | 0 =>
      rw [pt] at h
      split at h
      · cases h
      · rename_i h1
        have p1 := pt_places s _ _ _ _ _ _ h1 hi (by omega)
        have q1 := ih _ _ _ _ _ h1 hi (by omega)
        split at h
        · cases h
        · rename_i h2
          have p2 := pt_places s _ _ _ _ _ _ h2 (by omega) (fun _ => p1.2.2)
          have q2 := ih _ _ _ _ _ h2 (by omega) (fun _ => p1.2.2)
          split at h
          · rename_i h3
            split at h
            · cases h
            · rename_i h4
              have i3 := chr_in (fun e => absurd (h3.symm.trans e) (by decide))
              have p4 := pt_places s _ _ _ _ _ _ h4 (by omega) (by omega)
              have q4 := ih _ _ _ _ _ h4 (by omega) (by omega)
              cases h
              simp [sz] at *
              omega
          · cases h
            simp at *
            omega
    | 1 =>
      rw [pt] at h
      split at h
      · rename_i h3
        have i3 := chr_in (fun e => absurd (h3.symm.trans e) (by decide))
        split at h
        · cases h
        · rename_i h1
          have p1 := pt_places s _ _ _ _ _ _ h1 (by omega) (by omega)
          have q1 := ih _ _ _ _ _ h1 (by omega) (by omega)
          have p2 := pt_places s _ _ _ _ _ _ h (by omega) (fun _ => okP (ha rfl) p1.2.2)
          have q2 := ih _ _ _ _ _ h (by omega) (fun _ => okP (ha rfl) p1.2.2)
          simp [sz] at *
          omega
      · cases h
        simp
    | t + 2 =>
      rw [pt] at h
      split at h
      · cases h; simp [sz]
      split at h
      · cases h; simp [sz]
      split at h
      · rename_i h3
        have i3 := chr_in (fun e => absurd (h3.symm.trans e) (by decide))
        split at h
        · cases h
        · rename_i h1
          have p1 := pt_places s _ _ _ _ _ _ h1 (by omega) (by omega)
          have q1 := ih _ _ _ _ _ h1 (by omega) (by omega)
          split at h
          · cases h; simp [sz] at *; omega
          · cases h
      split at h
      · rename_i h3
        have i3 := chr_in (fun e => absurd (h3.symm.trans e) (by decide))
        split at h
        · cases h
        · rename_i h1
          have p1 := pt_places s _ _ _ _ _ _ h1 (by omega) (by omega)
          have q1 := ih _ _ _ _ _ h1 (by omega) (by omega)
          split at h
          · cases h; simp at *; omega
          · cases h
      split at h
      · cases h
        simp [sz]
        split <;> omega
      · cases h

/-- Types that were read: they are types, of no more than m nodes. -/
def GOk (m : Nat) (l : List Ty) : Prop := ∀ t ∈ l, Ok t ∧ sz t ≤ m
theorem GOk.nil (m : Nat) : GOk m [] := by intro t h; cases h
theorem GOk.snoc {m : Nat} {l : List Ty} {t : Ty} (h : GOk m l) (ht : Ok t) (hs : sz t ≤ m) : GOk m (l ++ [t]) := by
  intro u hu
  rcases List.mem_append.1 hu with hu | hu
  · exact h u hu
  · obtain rfl : u = t := by simpa using hu
    exact ⟨ht, hs⟩
/-- Variables that were read. -/
def VOk (l : List (Nat × Nat)) : Prop := ∀ x ∈ l, 970 ≤ x.1 ∧ x.1 < 1230
theorem VOk.nil : VOk [] := by intro t h; cases h
theorem VOk.snoc {l : List (Nat × Nat)} {o p : Nat} (h : VOk l) (ho : 970 ≤ o ∧ o < 1230) : VOk (l ++ [(o, p)]) := by
  intro u hu
  rcases List.mem_append.1 hu with hu | hu
  · exact h u hu
  · obtain rfl : u = (o, p) := by simpa using hu
    exact ho

theorem pT_places {s : ByteArray} {i j : Nat} {t : Ty} (h : pT s i = .ok (t, j)) (hi : i ≤ s.size) : i < j ∧ j ≤ s.size ∧ Ok t ∧ sz t ≤ s.size := by
  have p := pt_places s _ _ _ _ _ _ h hi (by omega)
  have q := pt_size s _ _ _ _ _ _ h hi (by omega)
  simp at q
  exact ⟨by omega, p.2.1, p.2.2, by omega⟩

theorem pg_places (s : ByteArray) : ∀ (n i : Nat) (l m : List Ty) (j : Nat), pg s n i l = .ok (m, j) → i ≤ s.size → GOk s.size l → i < j ∧ j ≤ s.size ∧ GOk s.size m := by
  intro n
  induction n with
  | zero => intro i l m j h; simp [pg] at h
  | succ n ih =>
    intro i l m j h hi hl
    rw [pg] at h
    split at h
    · cases h
    · rename_i h1
      have p1 := pT_places h1 hi
      split at h
      · rename_i h2
        have i2 := chr_in (fun e => absurd (h2.symm.trans e) (by decide))
        have p2 := ih _ _ _ _ h (by omega) (hl.snoc p1.2.2.1 p1.2.2.2)
        exact ⟨by omega, p2.2⟩
      · split at h
        · rename_i h2
          have i2 := chr_in (fun e => absurd (h2.symm.trans e) (by decide))
          cases h
          exact ⟨by omega, by omega, hl.snoc p1.2.2.1 p1.2.2.2⟩
        · cases h

theorem vEnd_places {s : ByteArray} {i : Nat} (h : isLet (chr s i) = true) : i < vEnd s i ∧ vEnd s i ≤ s.size := by
  have i1 : i < s.size := chr_in (by intro e; rw [e] at h; exact absurd h (by decide))
  unfold vEnd
  split
  · rename_i h4
    have i4 := chr_in (s := s) (i := i + 1) (by omega)
    omega
  · omega

theorem pw_places (s : ByteArray) : ∀ (n i : Nat) (l m : List (Nat × Nat)) (j : Nat), pw s n i l = .ok (m, j) → i ≤ s.size → VOk l → i < j ∧ j ≤ s.size ∧ VOk m := by
  intro n
  induction n with
  | zero => intro i l m j h; simp [pw] at h
  | succ n ih =>
    intro i l m j h hi hl
    rw [pw] at h
    split at h
    · rename_i h2
      have i2 := chr_in (fun e => absurd (h2.symm.trans e) (by decide))
      cases h
      exact ⟨by omega, by omega, hl⟩
    · split at h
      · rename_i h2
        have p1 := vEnd_places h2
        have p2 := ih _ _ _ _ h p1.2 (hl.snoc (vnum_ok h2))
        exact ⟨by omega, p2.2⟩
      · cases h

theorem fromO_places {s : ByteArray} {ty : Bool} {i j : Nat} {g : List Ty} (h : fromO s ty i = .ok (g, j)) (hi : i ≤ s.size) : i ≤ j ∧ j ≤ s.size ∧ GOk s.size g ∧ (ty = true → ∃ t, g = [t]) ∧ (ty = false → g = []) := by
  unfold fromO at h
  split at h
  · split at h
    · rename_i h2
      have i2 := chr_in (fun e => absurd (h2.symm.trans e) (by decide))
      split at h
      · cases h
      · rename_i h1
        have p1 := pT_places h1 (by omega)
        cases h
        exact ⟨by omega, p1.2.1, (GOk.nil _).snoc p1.2.2.1 p1.2.2.2, fun _ => ⟨_, rfl⟩, fun e => by simp_all⟩
    · cases h
  · cases h
    exact ⟨Nat.le_refl _, hi, GOk.nil _, fun e => by simp_all, fun _ => rfl⟩
theorem ownO_places {s : ByteArray} {ty : Bool} {i j : Nat} {v : List (Nat × Nat)} (h : ownO s ty i = .ok (v, j)) (hi : i ≤ s.size) : i ≤ j ∧ j ≤ s.size ∧ VOk v := by
  unfold ownO at h
  split at h
  · split at h
    · rename_i h2
      have i2 := chr_in (fun e => absurd (h2.symm.trans e) (by decide))
      have p1 := pw_places s _ _ _ _ _ h (by omega) VOk.nil
      exact ⟨by omega, p1.2⟩
    · cases h
  · cases h
    exact ⟨Nat.le_refl _, hi, VOk.nil⟩
theorem givenO_places {s : ByteArray} {ty : Bool} {i j : Nat} {g : List Ty} (h : givenO s ty i = .ok (g, j)) (hi : i ≤ s.size) : i ≤ j ∧ j ≤ s.size ∧ GOk s.size g := by
  unfold givenO at h
  split at h
  · split at h
    · rename_i h2
      have i2 := chr_in (fun e => absurd (h2.symm.trans e) (by decide))
      have p1 := pg_places s _ _ _ _ _ h (by omega) (GOk.nil _)
      exact ⟨by omega, p1.2⟩
    · cases h; exact ⟨Nat.le_refl _, hi, GOk.nil _⟩
  · cases h
    exact ⟨Nat.le_refl _, hi, GOk.nil _⟩

/-- It is an expression, with types (if typed) of no more than m nodes. -/
def EOk (ty : Bool) (m : Nat) : Ex → Prop
  | .nil => False
  | .node t _ x a b =>
    (t = 0 ∧ isLet x.c = true ∧ GOk m x.g ∧ a = .nil ∧ b = .nil) ∨
    (t = 1 ∧ isCon x.c = true ∧ GOk m x.g ∧ a = .nil ∧ b = .nil) ∨
    (t = 2 ∧ isLit x.c = true ∧ a = .nil ∧ b = .nil) ∨
    (t = 3 ∧ isLet x.c = true ∧ GOk m x.g ∧ (ty = true → ∃ u, x.g = [u]) ∧ EOk ty m a ∧ b = .nil) ∨
    (t = 4 ∧ isLet x.c = true ∧ VOk x.v ∧ EOk ty m a ∧ EOk ty m b) ∨
    (t = 5 ∧ EOk ty m a ∧ EOk ty m b)

theorem pe_places (s : ByteArray) (ty : Bool) : ∀ (n t i : Nat) (a u : Ex) (j : Nat), pe s ty n t i a = .ok (u, j) → i ≤ s.size → (t = 1 → EOk ty s.size a) →
    (i < j ∨ (t = 1 ∧ i ≤ j)) ∧ j ≤ s.size ∧ EOk ty s.size u := by
  intro n
  induction n with
  | zero => intro t i a u j h; simp [pe] at h
  | succ n ih =>
    intro t i a u j h hi ha
    match t with
    | 0 =>
      rw [pe] at h
      split at h
      · split at h
        · rename_i h2
          have i2 := chr_in (s := s) (i := i + 1) (by rintro e; rw [e] at h2; exact absurd h2 (by decide))
          split at h
          · cases h
          · rename_i h3
            have p3 := fromO_places h3 (by omega)
            split at h
            · rename_i h4
              have i4 := chr_in (fun e => absurd (h4.symm.trans e) (by decide))
              split at h
              · cases h
              · rename_i h5
                have p5 := ih _ _ _ _ _ h5 (by omega) (by omega)
                cases h
                exact ⟨by omega, p5.2.1, .inr (.inr (.inr (.inl ⟨rfl, h2, p3.2.2.1, p3.2.2.2.1, p5.2.2, rfl⟩)))⟩
            · cases h
        · cases h
      · split at h
        · split at h
          · rename_i h2
            have i2 := chr_in (s := s) (i := i + 1) (by rintro e; rw [e] at h2; exact absurd h2 (by decide))
            split at h
            · cases h
            · rename_i h3
              have p3 := ownO_places h3 (by omega)
              split at h
              · rename_i h4
                have i4 := chr_in (fun e => absurd (h4.symm.trans e) (by decide))
                split at h
                · cases h
                · rename_i h5
                  have p5 := ih _ _ _ _ _ h5 (by omega) (by omega)
                  split at h
                  · rename_i h6
                    have i6 := chr_in (fun e => absurd (h6.symm.trans e) (by decide))
                    split at h
                    · cases h
                    · rename_i h7
                      have p7 := ih _ _ _ _ _ h7 (by omega) (by omega)
                      cases h
                      exact ⟨by omega, p7.2.1, .inr (.inr (.inr (.inr (.inl ⟨rfl, h2, p3.2.2, p5.2.2, p7.2.2⟩))))⟩
                  · cases h
              · cases h
          · cases h
        · split at h
          · cases h
          · rename_i h4
            have p4 := ih _ _ _ _ _ h4 (by omega) (by omega)
            have p5 := ih _ _ _ _ _ h (by omega) (fun _ => p4.2.2)
            exact ⟨by omega, p5.2⟩
    | 1 =>
      rw [pe] at h
      split at h
      · split at h
        · cases h
        · rename_i h4
          have p4 := ih _ _ _ _ _ h4 (by omega) (by omega)
          have p5 := ih _ _ _ _ _ h (by omega) (fun _ => .inr (.inr (.inr (.inr (.inr ⟨rfl, ha rfl, p4.2.2⟩)))))
          exact ⟨by omega, p5.2⟩
      · cases h; exact ⟨by omega, hi, ha rfl⟩
    | t + 2 =>
      rw [pe] at h
      split at h
      · rename_i h1
        have i1 := chr_in (s := s) (i := i) (begins_ne h1)
        split at h
        · rename_i h2
          cases h; exact ⟨by omega, by omega, .inr (.inr (.inl ⟨rfl, h2, rfl, rfl⟩))⟩
        rename_i h2
        split at h
        · split at h
          · cases h
          · rename_i h4
            have p4 := ih _ _ _ _ _ h4 (by omega) (by omega)
            split at h
            · rename_i h5
              have i5 := chr_in (fun e => absurd (h5.symm.trans e) (by decide))
              cases h; exact ⟨by omega, by omega, p4.2.2⟩
            · cases h
        rename_i h3
        split at h
        · cases h
        · rename_i h4
          have p4 := givenO_places h4 (by omega)
          cases h
          refine ⟨by omega, p4.2.1, ?_⟩
          by_cases hc : isCon (chr s i) = true
          · rw [if_pos hc]; exact .inr (.inl ⟨rfl, hc, p4.2.2, rfl, rfl⟩)
          · rw [if_neg hc]
            have hl : isLet (chr s i) = true := by
              rw [begins] at h1
              simp [h2, h3, hc] at h1
              exact h1
            exact .inl ⟨rfl, hl, p4.2.2, rfl, rfl⟩
      · cases h
theorem wholeE_ok {s : ByteArray} {ty : Bool} {e : Ex} (h : wholeE s ty = .ok e) : EOk ty s.size e := by
  unfold wholeE at h
  split at h
  · cases h
  · rename_i h1
    have := pe_places s ty _ _ _ _ _ _ h1 (Nat.zero_le _) (by omega)
    split at h
    · cases h
    · cases h; exact this.2.2
end Go.Proofs.YtceadeaodbadlaaGreatDoor
