import Derived.Test.YtceadeaodbadlaaDoorScan2
import Derived.Test.YtceadeaodbadlaaDoorTyPure
set_option linter.unusedVariables false
set_option linter.unusedSimpArgs false
namespace Go.Proofs.YtceadeaodbadlaaDoor
open Go.RowKit

/-- A node of the reference's types. -/
structure Nd where
  op : Nat
  a : Nat
  b : Nat
def Nd.cells (n : Nd) : List Value := [.int .i64 (n.op : Int), .int .i64 (n.a : Int), .int .i64 (n.b : Int)]
def nflat (l : List Nd) : List Value := l.flatMap Nd.cells
theorem nflat_append (l m : List Nd) : nflat (l ++ m) = nflat l ++ nflat m := by simp [nflat]
theorem nflat_length (l : List Nd) : (nflat l).length = l.length * 3 := by
  induction l with
  | nil => rfl
  | cons t ts ih => simp only [nflat, List.flatMap_cons, List.length_append, List.length_cons] at *; rw [ih]; simp [Nd.cells]; omega
theorem nflat_get (l : List Nd) (k j : Nat) (n : Nd) (u : Value) (hk : l[k]? = some n) (hu : n.cells[j]? = some u) : (nflat l)[k * 3 + j]? = some u := by
  induction l generalizing k with
  | nil => simp at hk
  | cons x us ih =>
    cases k with
    | zero =>
      simp at hk; subst hk
      simp only [nflat, List.flatMap_cons]
      rw [List.getElem?_append_left (by simpa using (List.getElem?_eq_some_iff.1 hu).1)]
      simpa using hu
    | succ k =>
      simp only [nflat, List.flatMap_cons]
      have hl : x.cells.length = 3 := by simp [Nd.cells]
      rw [List.getElem?_append_right (by rw [hl]; omega), hl, show (k + 1) * 3 + j - 3 = k * 3 + j from by omega]
      exact ih k (by simpa using hk)

/-- The sign of a type's root; how many nodes it has; its nodes, laid from place f on. -/
def sgn (g o : Nat) : Nat := if g = 0 then 73 else if g = 1 then 66 else if g = 2 then o + 30 else if g = 3 then 91 else if g = 4 then 42 else 62
def rtA (g : Nat) (a : Ty) (f : Nat) : Nat := if g ≤ 2 then f else f + sz a - 1
def rtB (g : Nat) (a b : Ty) (f : Nat) : Nat := if g ≤ 3 then f else f + sz a + sz b - 1
def rt : Ty → Nat → Nd
  | .nil, f => ⟨0, f, f⟩
  | .node g o _ a b, f => ⟨sgn g o, rtA g a f, rtB g a b f⟩
def nd : Ty → Nat → List Nd
  | .nil, _ => []
  | .node g o u a b, f => nd a f ++ nd b (f + sz a) ++ [rt (.node g o u a b) f]
def shift (d : Nat) (n : Nd) : Nd := ⟨n.op, n.a + d, n.b + d⟩

theorem nd_length : ∀ (t : Ty) (f : Nat), (nd t f).length = sz t := by
  intro t
  induction t with
  | nil => intro f; rfl
  | node g o u a b iha ihb => intro f; simp [nd, sz, iha, ihb]; omega
theorem sz_pos {t : Ty} (h : Ok t) : 1 ≤ sz t := by
  cases t with
  | nil => exact h.elim
  | node g o u a b => simp [sz]
theorem rt_shift {t : Ty} (h : Ok t) (f d : Nat) : rt t (f + d) = shift d (rt t f) := by
  cases t with
  | nil => exact h.elim
  | node g o u a b =>
    rcases h with ⟨rfl, rfl, rfl, rfl⟩ | ⟨rfl, rfl, rfl, rfl⟩ | ⟨rfl, ho, rfl, rfl⟩ | ⟨rfl, rfl, ha, rfl⟩ | ⟨rfl, rfl, ha, hb⟩ | ⟨rfl, rfl, ha, hb⟩
    · rfl
    · rfl
    · rfl
    · have := sz_pos ha
      simp only [rt, shift, rtA, rtB, sz, Nd.mk.injEq, true_and]
      simp; omega
    · have := sz_pos ha
      have := sz_pos hb
      simp only [rt, shift, rtA, rtB, sz, Nd.mk.injEq, true_and]
      simp; omega
    · have := sz_pos ha
      have := sz_pos hb
      simp only [rt, shift, rtA, rtB, sz, Nd.mk.injEq, true_and]
      simp; omega
theorem nd_shift : ∀ (t : Ty) (f d : Nat), Ok t → nd t (f + d) = (nd t f).map (shift d) := by
  intro t
  induction t with
  | nil => intro f d h; exact h.elim
  | node g o u a b iha ihb =>
    intro f d h
    have hr := rt_shift h f d
    have e : f + d + sz a = f + sz a + d := by omega
    rcases h with ⟨rfl, rfl, rfl, rfl⟩ | ⟨rfl, rfl, rfl, rfl⟩ | ⟨rfl, ho, rfl, rfl⟩ | ⟨rfl, rfl, ha, rfl⟩ | ⟨rfl, rfl, ha, hb⟩ | ⟨rfl, rfl, ha, hb⟩
    · simp [nd, hr]
    · simp [nd, hr]
    · simp [nd, hr]
    · simp [nd, hr, iha f d ha]
    · simp only [nd, hr, iha f d ha, e, ihb (f + sz a) d hb, List.map_append, List.map_cons, List.map_nil]
    · simp only [nd, hr, iha f d ha, e, ihb (f + sz a) d hb, List.map_append, List.map_cons, List.map_nil]
theorem nd_zero (t : Ty) (h : Ok t) (d : Nat) : nd t d = (nd t 0).map (shift d) := by
  have := nd_shift t 0 d h
  rwa [Nat.zero_add] at this

/-- Where a node's fields lie. -/
theorem nd_bound : ∀ (t : Ty) (f : Nat), Ok t → ∀ n ∈ nd t f, f ≤ n.a ∧ n.a < f + sz t ∧ f ≤ n.b ∧ n.b < f + sz t ∧ n.op < 1300 := by
  intro t
  induction t with
  | nil => intro f h; exact h.elim
  | node g o u a b iha ihb =>
    intro f h n hn
    simp only [nd, List.mem_append, List.mem_singleton] at hn
    rcases h with ⟨rfl, rfl, rfl, rfl⟩ | ⟨rfl, rfl, rfl, rfl⟩ | ⟨rfl, ho, rfl, rfl⟩ | ⟨rfl, rfl, ha, rfl⟩ | ⟨rfl, rfl, ha, hb⟩ | ⟨rfl, rfl, ha, hb⟩
    · rcases hn with (hn | hn) | rfl
      · simp [nd] at hn
      · simp [nd] at hn
      · simp [rt, rtA, rtB, sz, sgn]
    · rcases hn with (hn | hn) | rfl
      · simp [nd] at hn
      · simp [nd] at hn
      · simp [rt, rtA, rtB, sz, sgn]
    · rcases hn with (hn | hn) | rfl
      · simp [nd] at hn
      · simp [nd] at hn
      · simp [rt, rtA, rtB, sz, sgn]; omega
    · rcases hn with (hn | hn) | rfl
      · have := iha f ha n hn
        simp only [sz]; omega
      · simp [nd] at hn
      · have := sz_pos ha
        simp [rt, rtA, rtB, sz, sgn]; omega
    · rcases hn with (hn | hn) | rfl
      · have := iha f ha n hn
        simp only [sz]; omega
      · have := ihb (f + sz a) hb n hn
        simp only [sz]; omega
      · have := sz_pos ha
        have := sz_pos hb
        simp [rt, rtA, rtB, sz, sgn]; omega
    · rcases hn with (hn | hn) | rfl
      · have := iha f ha n hn
        simp only [sz]; omega
      · have := ihb (f + sz a) hb n hn
        simp only [sz]; omega
      · have := sz_pos ha
        have := sz_pos hb
        simp [rt, rtA, rtB, sz, sgn]; omega

theorem nd_last (t : Ty) (h : Ok t) (f : Nat) : (nd t f)[sz t - 1]? = some (rt t f) := by
  cases t with
  | nil => exact h.elim
  | node g o u a b =>
    have e : sz (Go.Deep.BT.node g o u a b) - 1 = (nd a f ++ nd b (f + sz a)).length := by simp [sz, nd_length]
    rw [e]
    simp only [nd]
    rw [List.getElem?_append_right (Nat.le_refl _)]
    simp

/-- The signs, from the root on: they tell the type. -/
def ops : Ty → List Nat
  | .nil => []
  | .node g o _ a b => sgn g o :: (ops b ++ ops a)
theorem ops_nd : ∀ (t : Ty) (f : Nat), ((nd t f).map (·.op)).reverse = ops t := by
  intro t
  induction t with
  | nil => intro f; rfl
  | node g o u a b iha ihb => intro f; simp [nd, ops, iha, ihb, rt]
theorem ops_inj : ∀ (x y : Ty) (r r' : List Nat), Ok x → Ok y → ops x ++ r = ops y ++ r' → x = y ∧ r = r' := by
  intro x
  induction x with
  | nil => intro y r r' h; exact h.elim
  | node g o u a b iha ihb =>
    intro y r r' hx hy h
    cases u
    rcases hx with ⟨rfl, rfl, rfl, rfl⟩ | ⟨rfl, rfl, rfl, rfl⟩ | ⟨rfl, ho, rfl, rfl⟩ | ⟨rfl, rfl, ha, rfl⟩ | ⟨rfl, rfl, ha, hb⟩ | ⟨rfl, rfl, ha, hb⟩ <;>
    rcases hy.cases with rfl | rfl | ⟨o', h1', h2', rfl⟩ | ⟨c, hc, rfl⟩ | ⟨c, d, hc, hd, rfl⟩ | ⟨c, d, hc, hd, rfl⟩ <;>
    simp only [ops, sgn, List.nil_append, List.append_nil, List.cons_append, List.cons.injEq, List.append_assoc] at h
    all_goals first
      | (exfalso; obtain ⟨h, _⟩ := h; simp at h; done)
      | (exfalso; obtain ⟨h, _⟩ := h; simp at h; omega)
      | skip
    · exact ⟨rfl, h.2⟩
    · exact ⟨rfl, h.2⟩
    · obtain ⟨h1, h2⟩ := h
      simp at h1
      subst h1
      exact ⟨rfl, h2⟩
    · obtain ⟨rfl, h2⟩ := iha c r r' ha hc h.2
      exact ⟨rfl, h2⟩
    · obtain ⟨rfl, h2⟩ := ihb d _ _ hb hd h.2
      obtain ⟨rfl, h3⟩ := iha c _ _ ha hc h2
      exact ⟨rfl, h3⟩
    · obtain ⟨rfl, h2⟩ := ihb d _ _ hb hd h.2
      obtain ⟨rfl, h3⟩ := iha c _ _ ha hc h2
      exact ⟨rfl, h3⟩
theorem ops_eq {x y : Ty} (hx : Ok x) (hy : Ok y) (f f' : Nat) (h : (nd x f).map (·.op) = (nd y f').map (·.op)) : x = y := by
  have e : ops x ++ [] = ops y ++ [] := by rw [← ops_nd x f, ← ops_nd y f', h]
  exact (ops_inj x y [] [] hx hy e).1
end Go.Proofs.YtceadeaodbadlaaDoor
