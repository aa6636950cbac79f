import Derived.Test.YtceadeaodbadlaaGreatDoorPure
import Derived.Deep.Trees
set_option linter.unusedVariables false
set_option linter.unusedSimpArgs false
namespace Go.Proofs.YtceadeaodbadlaaGreatDoor

/-- Types, as trees: the sign 0: I, 1: B, 2: a variable (10 times its letter, and its digit), 3: a list, 4: a pair, 5: a function. -/
abbrev Ty : Type := Go.Deep.BT Unit
abbrev tI : Ty := .node 0 0 () .nil .nil
abbrev tB : Ty := .node 1 0 () .nil .nil
abbrev tV (o : Nat) : Ty := .node 2 o () .nil .nil
abbrev tL (a : Ty) : Ty := .node 3 0 () a .nil
abbrev tP (a b : Ty) : Ty := .node 4 0 () a b
abbrev tF (a b : Ty) : Ty := .node 5 0 () a b

/-- How many nodes a type has. -/
def sz : Ty → Nat
  | .nil => 0
  | .node _ _ _ a b => sz a + sz b + 1

/-- It is one of these. -/
def Ok : Ty → Prop
  | .nil => False
  | .node g o _ a b =>
    (g = 0 ∧ o = 0 ∧ a = .nil ∧ b = .nil) ∨ (g = 1 ∧ o = 0 ∧ a = .nil ∧ b = .nil) ∨ (g = 2 ∧ (970 ≤ o ∧ o < 1230) ∧ a = .nil ∧ b = .nil) ∨
    (g = 3 ∧ o = 0 ∧ Ok a ∧ b = .nil) ∨ (g = 4 ∧ o = 0 ∧ Ok a ∧ Ok b) ∨ (g = 5 ∧ o = 0 ∧ Ok a ∧ Ok b)

/-- Which of them. -/
theorem Ok.cases {t : Ty} (h : Ok t) : t = tI ∨ t = tB ∨ (∃ o, 970 ≤ o ∧ o < 1230 ∧ t = tV o) ∨ (∃ a, Ok a ∧ t = tL a) ∨ (∃ a b, Ok a ∧ Ok b ∧ t = tP a b) ∨ (∃ a b, Ok a ∧ Ok b ∧ t = tF a b) := by
  cases t with
  | nil => exact h.elim
  | node g o u a b =>
    cases u
    rcases h with ⟨rfl, rfl, rfl, rfl⟩ | ⟨rfl, rfl, rfl, rfl⟩ | ⟨rfl, ho, rfl, rfl⟩ | ⟨rfl, rfl, ha, rfl⟩ | ⟨rfl, rfl, ha, hb⟩ | ⟨rfl, rfl, ha, hb⟩
    · exact .inl rfl
    · exact .inr (.inl rfl)
    · exact .inr (.inr (.inl ⟨o, ho.1, ho.2, rfl⟩))
    · exact .inr (.inr (.inr (.inl ⟨a, ha, rfl⟩)))
    · exact .inr (.inr (.inr (.inr (.inl ⟨a, b, ha, hb, rfl⟩))))
    · exact .inr (.inr (.inr (.inr (.inr ⟨a, b, ha, hb, rfl⟩))))
theorem okI : Ok tI := .inl ⟨rfl, rfl, rfl, rfl⟩
theorem okB : Ok tB := .inr (.inl ⟨rfl, rfl, rfl, rfl⟩)
theorem okV {o : Nat} (h : 970 ≤ o) (h' : o < 1230) : Ok (tV o) := .inr (.inr (.inl ⟨rfl, ⟨h, h'⟩, rfl, rfl⟩))
theorem okL {a : Ty} (h : Ok a) : Ok (tL a) := .inr (.inr (.inr (.inl ⟨rfl, rfl, h, rfl⟩)))
theorem okP {a b : Ty} (h : Ok a) (h' : Ok b) : Ok (tP a b) := .inr (.inr (.inr (.inr (.inl ⟨rfl, rfl, h, h'⟩))))
theorem okF {a b : Ty} (h : Ok a) (h' : Ok b) : Ok (tF a b) := .inr (.inr (.inr (.inr (.inr ⟨rfl, rfl, h, h'⟩))))

def eqT : Ty → Ty → Bool
  | .nil, .nil => true
  | .node g o _ a b, .node h p _ c d => g == h && o == p && eqT a c && eqT b d
  | _, _ => false
theorem eqT_iff : ∀ x y : Ty, eqT x y = true ↔ x = y := by
  intro x
  induction x with
  | nil => intro y; cases y <;> simp [eqT]
  | node g o u a b iha ihb =>
    intro y
    cases u
    cases y with
    | nil => simp [eqT]
    | node h p u' c d =>
      cases u'
      simp only [eqT, Bool.and_eq_true, beq_iff_eq, iha, ihb, Go.Deep.BT.node.injEq, true_and]
      constructor
      · rintro ⟨⟨⟨rfl, rfl⟩, rfl⟩, rfl⟩; simp
      · rintro ⟨rfl, rfl, rfl, rfl⟩; simp

/-- What stands in a variable's place so far. -/
def look : List (Nat × Ty) → Nat → Option Ty
  | [], _ => none
  | (p, t) :: r, o => if p = o then some t else look r o

/-- Is s the type g with types in the place of its variables, those of l where it has them? Then those and more. -/
def fitsT : Ty → Ty → List (Nat × Ty) → Option (List (Nat × Ty))
  | .nil, _, _ => none
  | .node g o _ a a', s, l =>
    if g = 2 then
      match look l o with
      | none => some (l ++ [(o, s)])
      | some t => if eqT t s then some l else none
    else match s with
      | .nil => none
      | .node h _ _ b b' =>
        if g = h then
          if g = 0 ∨ g = 1 then some l
          else if g = 3 then fitsT a b l
          else match fitsT a b l with
            | none => none
            | some m => fitsT a' b' m
        else none

theorem fitsT_node (g o : Nat) (u : Unit) (a a' s : Ty) (l : List (Nat × Ty)) : fitsT (.node g o u a a') s l =
    if g = 2 then
      match look l o with
      | none => some (l ++ [(o, s)])
      | some t => if eqT t s then some l else none
    else match s with
      | .nil => none
      | .node h _ _ b b' =>
        if g = h then
          if g = 0 ∨ g = 1 then some l
          else if g = 3 then fitsT a b l
          else match fitsT a b l with
            | none => none
            | some m => fitsT a' b' m
        else none := by
  cases s <;> rfl

def sub (θ : Nat → Ty) : Ty → Ty
  | .nil => .nil
  | .node g o u a b => if g = 2 then θ o else .node g o u (sub θ a) (sub θ b)

def agrees (θ : Nat → Ty) (l : List (Nat × Ty)) : Prop := ∀ o t, look l o = some t → θ o = t

theorem look_append (l m : List (Nat × Ty)) (o : Nat) : look (l ++ m) o = match look l o with | some t => some t | none => look m o := by
  induction l with
  | nil => rfl
  | cons x l ih =>
    obtain ⟨p, t⟩ := x
    simp only [List.cons_append, look]
    split
    · rfl
    · exact ih

/-- It only adds. -/
theorem fits_adds : ∀ (g s : Ty) (l m : List (Nat × Ty)), fitsT g s l = some m → ∃ r, m = l ++ r := by
  intro g
  induction g with
  | nil => intro s l m h; simp [fitsT] at h
  | node g o u a b iha ihb =>
    intro s l m h
    rw [fitsT_node] at h
    split at h
    · split at h
      · cases h; exact ⟨_, rfl⟩
      · split at h
        · cases h; exact ⟨[], by simp⟩
        · cases h
    · split at h
      · cases h
      · split at h
        · split at h
          · cases h; exact ⟨[], by simp⟩
          · split at h
            · exact iha _ _ _ h
            · split at h
              · cases h
              · rename_i h1
                obtain ⟨r, rfl⟩ := iha _ _ _ h1
                obtain ⟨r', rfl⟩ := ihb _ _ _ h
                exact ⟨r ++ r', by simp⟩
        · cases h

theorem agrees_left {θ : Nat → Ty} {l r : List (Nat × Ty)} (h : agrees θ (l ++ r)) : agrees θ l := by
  intro o t ht
  exact h o t (by rw [look_append, ht])

theorem fits_sound : ∀ (g s : Ty) (l m : List (Nat × Ty)), Ok g → Ok s → fitsT g s l = some m → ∀ θ, agrees θ m → sub θ g = s := by
  intro g
  induction g with
  | nil => intro s l m hg; exact hg.elim
  | node g o u a b iha ihb =>
    intro s l m hg hs h θ hθ
    cases u
    rw [fitsT_node] at h
    split at h
    · rename_i e
      subst e
      show (if 2 = 2 then θ o else _) = s
      rw [if_pos rfl]
      split at h
      · rename_i hl
        cases h
        exact hθ o s (by rw [look_append, hl]; simp [look])
      · rename_i t hl
        split at h
        · rename_i he
          cases h
          rw [hθ o t hl]; exact (eqT_iff t s).1 he
        · cases h
    · rename_i e2
      split at h
      · cases h
      · rename_i h' p u' c d
        cases u'
        split at h
        · rename_i e
          subst e
          show (if g = 2 then θ o else _) = _
          rw [if_neg e2]
          rcases hg with ⟨rfl, rfl, rfl, rfl⟩ | ⟨rfl, rfl, rfl, rfl⟩ | ⟨rfl, _⟩ | ⟨rfl, rfl, ha, rfl⟩ | ⟨rfl, rfl, ha, hb⟩ | ⟨rfl, rfl, ha, hb⟩
          · rcases hs with ⟨_, rfl, rfl, rfl⟩ | ⟨e, _⟩ | ⟨e, _⟩ | ⟨e, _⟩ | ⟨e, _⟩ | ⟨e, _⟩ <;> first | rfl | cases e
          · rcases hs with ⟨e, _⟩ | ⟨_, rfl, rfl, rfl⟩ | ⟨e, _⟩ | ⟨e, _⟩ | ⟨e, _⟩ | ⟨e, _⟩ <;> first | rfl | cases e
          · exact absurd rfl e2
          · rcases hs with ⟨e, _⟩ | ⟨e, _⟩ | ⟨e, _⟩ | ⟨_, rfl, hc, rfl⟩ | ⟨e, _⟩ | ⟨e, _⟩ <;> first | cases e | skip
            simp at h
            rw [iha _ _ _ ha hc h θ hθ]; rfl
          · rcases hs with ⟨e, _⟩ | ⟨e, _⟩ | ⟨e, _⟩ | ⟨e, _⟩ | ⟨_, rfl, hc, hd⟩ | ⟨e, _⟩ <;> first | cases e | skip
            simp at h
            split at h
            · cases h
            · rename_i m1 h1
              obtain ⟨r, rfl⟩ := fits_adds _ _ _ _ h
              rw [iha _ _ _ ha hc h1 θ (agrees_left hθ), ihb _ _ _ hb hd h θ hθ]
          · rcases hs with ⟨e, _⟩ | ⟨e, _⟩ | ⟨e, _⟩ | ⟨e, _⟩ | ⟨e, _⟩ | ⟨_, rfl, hc, hd⟩ <;> first | cases e | skip
            simp at h
            split at h
            · cases h
            · rename_i m1 h1
              obtain ⟨r, rfl⟩ := fits_adds _ _ _ _ h
              rw [iha _ _ _ ha hc h1 θ (agrees_left hθ), ihb _ _ _ hb hd h θ hθ]
        · cases h

theorem fits_complete : ∀ (g : Ty) (l : List (Nat × Ty)) (θ : Nat → Ty), Ok g → agrees θ l → ∃ m, fitsT g (sub θ g) l = some m ∧ agrees θ m := by
  intro g
  induction g with
  | nil => intro l θ hg; exact hg.elim
  | node g o u a b iha ihb =>
    intro l θ hg hθ
    cases u
    rcases hg with ⟨rfl, rfl, rfl, rfl⟩ | ⟨rfl, rfl, rfl, rfl⟩ | ⟨rfl, ho, rfl, rfl⟩ | ⟨rfl, rfl, ha, rfl⟩ | ⟨rfl, rfl, ha, hb⟩ | ⟨rfl, rfl, ha, hb⟩
    · exact ⟨l, by simp [fitsT, sub], hθ⟩
    · exact ⟨l, by simp [fitsT, sub], hθ⟩
    · rw [fitsT_node, if_pos rfl]
      have e : sub θ (tV o) = θ o := rfl
      rw [e]
      cases hl : look l o with
      | none =>
        refine ⟨_, rfl, fun p t hp => ?_⟩
        rw [look_append] at hp
        split at hp
        · rename_i hq; cases hp; exact hθ p t hq
        · simp only [look] at hp
          split at hp
          · rename_i e; subst e; cases hp; rfl
          · cases hp
      | some t =>
        have : eqT t (θ o) = true := (eqT_iff _ _).2 (hθ o t hl).symm
        exact ⟨l, by simp [this], hθ⟩
    · obtain ⟨m, h1, h2⟩ := iha l θ ha hθ
      refine ⟨m, ?_, h2⟩
      have e : sub θ (tL a) = tL (sub θ a) := rfl
      rw [e, fitsT_node]; simpa using h1
    · obtain ⟨m, h1, h2⟩ := iha l θ ha hθ
      obtain ⟨m', h3, h4⟩ := ihb m θ hb h2
      refine ⟨m', ?_, h4⟩
      have e : sub θ (tP a b) = tP (sub θ a) (sub θ b) := rfl
      rw [e, fitsT_node]; simp [h1, h3]
    · obtain ⟨m, h1, h2⟩ := iha l θ ha hθ
      obtain ⟨m', h3, h4⟩ := ihb m θ hb h2
      refine ⟨m', ?_, h4⟩
      have e : sub θ (tF a b) = tF (sub θ a) (sub θ b) := rfl
      rw [e, fitsT_node]; simp [h1, h3]

/-- Is s an instance of g? -/
def inst (g s : Ty) : Bool := (fitsT g s []).isSome
theorem inst_iff {g s : Ty} (hg : Ok g) (hs : Ok s) : inst g s = true ↔ ∃ θ, sub θ g = s := by
  unfold inst
  constructor
  · intro h
    obtain ⟨m, hm⟩ := Option.isSome_iff_exists.1 h
    refine ⟨fun o => (look m o).getD tI, fits_sound g s [] m hg hs hm _ fun o t ht => by simp [ht]⟩
  · rintro ⟨θ, rfl⟩
    obtain ⟨m, hm, _⟩ := fits_complete g [] θ hg (fun o t h => by simp [look] at h)
    rw [hm]; rfl
theorem sub_id : ∀ g, Ok g → sub tV g = g := by
  intro g
  induction g with
  | nil => intro h; exact h.elim
  | node g o u a b iha ihb =>
    intro hg
    cases u
    rcases hg with ⟨rfl, rfl, rfl, rfl⟩ | ⟨rfl, rfl, rfl, rfl⟩ | ⟨rfl, ho, rfl, rfl⟩ | ⟨rfl, rfl, ha, rfl⟩ | ⟨rfl, rfl, ha, hb⟩ | ⟨rfl, rfl, ha, hb⟩
    · rfl
    · rfl
    · rfl
    · show tL (sub tV a) = tL a; rw [iha ha]
    · show tP (sub tV a) (sub tV b) = tP a b; rw [iha ha, ihb hb]
    · show tF (sub tV a) (sub tV b) = tF a b; rw [iha ha, ihb hb]
theorem sub_sub (θ θ' : Nat → Ty) : ∀ g, sub θ' (sub θ g) = sub (fun o => sub θ' (θ o)) g := by
  intro g
  induction g with
  | nil => rfl
  | node g o u a b iha ihb =>
    by_cases h : g = 2
    · simp [sub, h]
    · simp [sub, h, iha, ihb]
theorem inst_refl {g : Ty} (hg : Ok g) : inst g g = true := (inst_iff hg hg).2 ⟨tV, sub_id g hg⟩
theorem inst_trans {a b c : Ty} (ha : Ok a) (hb : Ok b) (hc : Ok c) (h : inst a b = true) (h' : inst b c = true) : inst a c = true := by
  obtain ⟨θ, rfl⟩ := (inst_iff ha hb).1 h
  obtain ⟨θ', rfl⟩ := (inst_iff hb hc).1 h'
  exact (inst_iff ha hc).2 ⟨_, (sub_sub θ θ' a).symm⟩
theorem inst_var {o : Nat} {s : Ty} (ho : Ok (tV o)) (hs : Ok s) : inst (tV o) s = true := (inst_iff ho hs).2 ⟨fun _ => s, rfl⟩

/-- What a reader of types comes to. -/
abbrev TOut : Type := Except Nat (Ty × Nat)

/-- The number of a variable. -/
def vnum (c d : Nat) : Nat := 10 * c + (if 49 ≤ d ∧ d ≤ 57 then d - 48 else 0)

/-- The grammar of types, read: tag 0: a type at i; 1: what stands behind the units read so far; else a unit. -/
def pt (s : ByteArray) : Nat → Nat → Nat → Ty → TOut
  | 0, _, i, _ => .error i
  | n + 1, 0, i, _ =>
    match pt s n 2 i .nil with
    | .error p => .error p
    | .ok (u, j) =>
      match pt s n 1 j u with
      | .error p => .error p
      | .ok (a, k) =>
        if chr s k = 62 then
          match pt s n 0 (k + 1) .nil with
          | .error p => .error p
          | .ok (b, l) => .ok (tF a b, l)
        else .ok (a, k)
  | n + 1, 1, i, a =>
    if chr s i = 42 then
      match pt s n 2 (i + 1) .nil with
      | .error p => .error p
      | .ok (b, j) => pt s n 1 j (tP a b)
    else .ok (a, i)
  | n + 1, _ + 2, i, _ =>
    if chr s i = 73 then .ok (tI, i + 1)
    else if chr s i = 66 then .ok (tB, i + 1)
    else if chr s i = 91 then
      match pt s n 0 (i + 1) .nil with
      | .error p => .error p
      | .ok (a, j) => if chr s j = 93 then .ok (tL a, j + 1) else .error j
    else if chr s i = 40 then
      match pt s n 0 (i + 1) .nil with
      | .error p => .error p
      | .ok (a, j) => if chr s j = 41 then .ok (a, j + 1) else .error j
    else if isLet (chr s i) then .ok (tV (vnum (chr s i) (chr s (i + 1))), if 49 ≤ chr s (i + 1) ∧ chr s (i + 1) ≤ 57 then i + 2 else i + 1)
    else .error i

def wholeT (s : ByteArray) : Except Nat Ty :=
  match pt s (3 * s.size + 3) 0 0 .nil with
  | .error p => .error p
  | .ok (t, j) => if j < s.size then .error j else .ok t

theorem vnum_ok {c d : Nat} (h : isLet c = true) : 970 ≤ vnum c d ∧ vnum c d < 1230 := by
  simp [isLet] at h; unfold vnum; split <;> omega

theorem pt_places (s : ByteArray) : ∀ (n t i : Nat) (a u : Ty) (j : Nat), pt s n t i a = .ok (u, j) → i ≤ s.size → (t = 1 → Ok a) →
    (i < j ∨ (t = 1 ∧ i ≤ j)) ∧ j ≤ s.size ∧ Ok u := by
  intro n
  induction n with
  | zero => intro t i a u j h; simp [pt] at h
  | succ n ih =>
    intro t i a u j h hi ha
    match t with
    | 0 =>
      rw [pt] at h
      split at h
      · cases h
      · rename_i h1
        have p1 := ih _ _ _ _ _ h1 hi (by omega)
        split at h
        · cases h
        · rename_i h2
          have p2 := ih _ _ _ _ _ h2 (by omega) (fun _ => p1.2.2)
          split at h
          · rename_i h3
            have i3 := chr_in (fun e => absurd (h3.symm.trans e) (by decide))
            split at h
            · cases h
            · rename_i h4
              have p4 := ih _ _ _ _ _ h4 (by omega) (by omega)
              cases h
              exact ⟨by omega, p4.2.1, okF p2.2.2 p4.2.2⟩
          · cases h
            exact ⟨by omega, p2.2.1, p2.2.2⟩
    | 1 =>
      rw [pt] at h
      split at h
      · rename_i h3
        have i3 := chr_in (fun e => absurd (h3.symm.trans e) (by decide))
        split at h
        · cases h
        · rename_i h1
          have p1 := ih _ _ _ _ _ h1 (by omega) (by omega)
          have p2 := ih _ _ _ _ _ h (by omega) (fun _ => okP (ha rfl) p1.2.2)
          exact ⟨by omega, p2.2.1, p2.2.2⟩
      · cases h
        exact ⟨by omega, hi, ha rfl⟩
    | t + 2 =>
      rw [pt] at h
      split at h
      · rename_i h3
        have i3 := chr_in (fun e => absurd (h3.symm.trans e) (by decide))
        cases h; exact ⟨by omega, by omega, okI⟩
      split at h
      · rename_i h3
        have i3 := chr_in (fun e => absurd (h3.symm.trans e) (by decide))
        cases h; exact ⟨by omega, by omega, okB⟩
      split at h
      · rename_i h3
        have i3 := chr_in (fun e => absurd (h3.symm.trans e) (by decide))
        split at h
        · cases h
        · rename_i h1
          have p1 := ih _ _ _ _ _ h1 (by omega) (by omega)
          split at h
          · rename_i h4
            have i4 := chr_in (fun e => absurd (h4.symm.trans e) (by decide))
            cases h; exact ⟨by omega, by omega, okL p1.2.2⟩
          · cases h
      split at h
      · rename_i h3
        have i3 := chr_in (fun e => absurd (h3.symm.trans e) (by decide))
        split at h
        · cases h
        · rename_i h1
          have p1 := ih _ _ _ _ _ h1 (by omega) (by omega)
          split at h
          · rename_i h4
            have i4 := chr_in (fun e => absurd (h4.symm.trans e) (by decide))
            cases h; exact ⟨by omega, by omega, p1.2.2⟩
          · cases h
      split at h
      · rename_i h3
        have i3 : i < s.size := chr_in (by intro e; rw [e] at h3; exact absurd h3 (by decide))
        have hv := vnum_ok (d := chr s (i + 1)) h3
        cases h
        refine ⟨by split <;> omega, ?_, okV hv.1 hv.2⟩
        split
        · rename_i h4
          have i4 := chr_in (s := s) (i := i + 1) (by omega)
          omega
        · omega
      · cases h
theorem wholeT_ok {s : ByteArray} {t : Ty} (h : wholeT s = .ok t) : Ok t := by
  unfold wholeT at h
  split at h
  · cases h
  · rename_i h1
    have := pt_places s _ _ _ _ _ _ h1 (Nat.zero_le _) (by omega)
    split at h
    · cases h
    · cases h; exact this.2.2
end Go.Proofs.YtceadeaodbadlaaGreatDoor
