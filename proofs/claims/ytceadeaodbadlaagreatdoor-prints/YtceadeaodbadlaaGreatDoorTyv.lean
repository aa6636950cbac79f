import Derived.Test.YtceadeaodbadlaaGreatDoorScan2
import Derived.Test.YtceadeaodbadlaaGreatDoorExPure
set_option linter.unusedVariables false
set_option linter.unusedSimpArgs false
namespace Go.Proofs.YtceadeaodbadlaaGreatDoor
open Go.RowKit

/-- A variable, as a value. -/
abbrev kv (o : Nat) : Value := .agg #[.int .u8 ((o / 10 : Nat) : Int), .int .u8 ((o % 10 : Nat) : Int)]

/-- What a type with one part lies as; .. with two. -/
abbrev obL (n : Nat) (x : Value) : Obj := .cells #[x, .int .i64 (n : Int), .nilIface, .pointer none] 258 (0, 0)
abbrev obP (n : Nat) (x y : Value) : Obj := .cells #[x, y, .int .i64 (n : Int), .nilIface, .pointer none] 261 (0, 0)
abbrev obF (n : Nat) (x y : Value) : Obj := .cells #[x, y, .int .i64 (n : Int), .nilIface, .pointer none] 252 (0, 0)
abbrev viL (q : Nat) : Value := .iface 256 (.pointer (some ⟨q, 0, none⟩))
abbrev viP (q : Nat) : Value := .iface 259 (.pointer (some ⟨q, 0, none⟩))
abbrev viF (q : Nat) : Value := .iface 243 (.pointer (some ⟨q, 0, none⟩))
abbrev viI : Value := .iface 255 (.agg #[])
abbrev viB : Value := .iface 254 (.agg #[])
abbrev viV (o : Nat) : Value := .iface 263 (kv o)

/-- The value v is the type, in memory that no visit has marked. -/
def Tv (w : World) : Ty → Value → Prop
  | .nil, _ => False
  | .node g o _ a b, v =>
    (g = 0 ∧ v = viI) ∨ (g = 1 ∧ v = viB) ∨ (g = 2 ∧ v = viV o) ∨
    (g = 3 ∧ ∃ q x, v = viL q ∧ w.heap[q]? = some (obL (sz a + sz b + 1) x) ∧ Tv w a x) ∨
    (g = 4 ∧ ∃ q x y, v = viP q ∧ w.heap[q]? = some (obP (sz a + sz b + 1) x y) ∧ Tv w a x ∧ Tv w b y) ∨
    (g = 5 ∧ ∃ q x y, v = viF q ∧ w.heap[q]? = some (obF (sz a + sz b + 1) x y) ∧ Tv w a x ∧ Tv w b y)

theorem Tv.I (w : World) : Tv w tI viI := .inl ⟨rfl, rfl⟩
theorem Tv.B (w : World) : Tv w tB viB := .inr (.inl ⟨rfl, rfl⟩)
theorem Tv.V (w : World) (o : Nat) : Tv w (tV o) (viV o) := .inr (.inr (.inl ⟨rfl, rfl⟩))
theorem Tv.L {w : World} {a : Ty} {q : Nat} {x : Value} (h : w.heap[q]? = some (obL (sz (tL a)) x)) (ha : Tv w a x) : Tv w (tL a) (viL q) := .inr (.inr (.inr (.inl ⟨rfl, q, x, rfl, h, ha⟩)))
theorem Tv.P {w : World} {a b : Ty} {q : Nat} {x y : Value} (h : w.heap[q]? = some (obP (sz (tP a b)) x y)) (ha : Tv w a x) (hb : Tv w b y) : Tv w (tP a b) (viP q) := .inr (.inr (.inr (.inr (.inl ⟨rfl, q, x, y, rfl, h, ha, hb⟩))))
theorem Tv.F {w : World} {a b : Ty} {q : Nat} {x y : Value} (h : w.heap[q]? = some (obF (sz (tF a b)) x y)) (ha : Tv w a x) (hb : Tv w b y) : Tv w (tF a b) (viF q) := .inr (.inr (.inr (.inr (.inr ⟨rfl, q, x, y, rfl, h, ha, hb⟩))))

theorem Tv.isI {w : World} {v : Value} (h : Tv w tI v) : v = viI := by
  rcases h with ⟨_, h⟩ | ⟨e, _⟩ | ⟨e, _⟩ | ⟨e, _⟩ | ⟨e, _⟩ | ⟨e, _⟩ <;> first | exact h | cases e
theorem Tv.isB {w : World} {v : Value} (h : Tv w tB v) : v = viB := by
  rcases h with ⟨e, _⟩ | ⟨_, h⟩ | ⟨e, _⟩ | ⟨e, _⟩ | ⟨e, _⟩ | ⟨e, _⟩ <;> first | exact h | cases e
theorem Tv.isV {w : World} {v : Value} {o : Nat} (h : Tv w (tV o) v) : v = viV o := by
  rcases h with ⟨e, _⟩ | ⟨e, _⟩ | ⟨_, h⟩ | ⟨e, _⟩ | ⟨e, _⟩ | ⟨e, _⟩ <;> first | exact h | cases e
theorem Tv.isL {w : World} {v : Value} {a : Ty} (h : Tv w (tL a) v) : ∃ q x, v = viL q ∧ w.heap[q]? = some (obL (sz (tL a)) x) ∧ Tv w a x := by
  rcases h with ⟨e, _⟩ | ⟨e, _⟩ | ⟨e, _⟩ | ⟨_, h⟩ | ⟨e, _⟩ | ⟨e, _⟩ <;> first | exact h | cases e
theorem Tv.isP {w : World} {v : Value} {a b : Ty} (h : Tv w (tP a b) v) : ∃ q x y, v = viP q ∧ w.heap[q]? = some (obP (sz (tP a b)) x y) ∧ Tv w a x ∧ Tv w b y := by
  rcases h with ⟨e, _⟩ | ⟨e, _⟩ | ⟨e, _⟩ | ⟨e, _⟩ | ⟨_, h⟩ | ⟨e, _⟩ <;> first | exact h | cases e
theorem Tv.isF {w : World} {v : Value} {a b : Ty} (h : Tv w (tF a b) v) : ∃ q x y, v = viF q ∧ w.heap[q]? = some (obF (sz (tF a b)) x y) ∧ Tv w a x ∧ Tv w b y := by
  rcases h with ⟨e, _⟩ | ⟨e, _⟩ | ⟨e, _⟩ | ⟨e, _⟩ | ⟨e, _⟩ | ⟨_, h⟩ <;> first | exact h | cases e

/-- What lies in w, but readers, lies in w' as it was. -/
def Kept (w w' : World) : Prop := ∀ (q : Nat) (c : Array Value) (T : TypeId) (fz : Nat × Nat), T ≠ 207 → w.heap[q]? = some (.cells c T fz) → w'.heap[q]? = some (.cells c T fz)
theorem Kept.refl (w : World) : Kept w w := fun _ _ _ _ _ h => h
theorem Kept.trans {x y z : World} (h : Kept x y) (k : Kept y z) : Kept x z := fun q c T fz hT hq => k q c T fz hT (h q c T fz hT hq)
theorem Below.kept {w w' : World} (h : Below w.heap.size w w') : Kept w w' := fun q c T fz _ hq => (h.block q (Array.getElem?_eq_some_iff.1 hq).1).trans hq
theorem Gb.kept {b : Nat} {w w' : World} (h : Gb b w w') {s : ByteArray} {i : Nat} (hr : Rd b s i w) : Kept w w' := by
  intro q c T fz hT hq
  refine h.old hq ?_
  rintro rfl
  unfold Rd at hr
  rw [hr] at hq
  simp only [Option.some.injEq, Obj.cells.injEq] at hq
  exact hT hq.2.1.symm

/-- .. only types. -/
def KeptN (w w' : World) : Prop := ∀ (q : Nat) (c : Array Value) (T : TypeId), T = 258 ∨ T = 261 ∨ T = 252 → w.heap[q]? = some (.cells c T (0, 0)) → w'.heap[q]? = some (.cells c T (0, 0))
theorem Kept.n {w w' : World} (h : Kept w w') : KeptN w w' := by
  intro q c T hT hq
  refine h q c T _ ?_ hq
  rcases hT with rfl | rfl | rfl <;> decide
theorem KeptN.trans {x y z : World} (h : KeptN x y) (k : KeptN y z) : KeptN x z := fun q c T hT hq => k q c T hT (h q c T hT hq)

theorem Tv.keptN {w w' : World} (hk : KeptN w w') : ∀ (t : Ty) (v : Value), Tv w t v → Tv w' t v := by
  intro t
  induction t with
  | nil => intro v h; exact h.elim
  | node g o u a b iha ihb =>
    intro v h
    rcases h with h | h | h | ⟨e, q, x, hv, hq, ha⟩ | ⟨e, q, x, y, hv, hq, ha, hb⟩ | ⟨e, q, x, y, hv, hq, ha, hb⟩
    · exact .inl h
    · exact .inr (.inl h)
    · exact .inr (.inr (.inl h))
    · exact .inr (.inr (.inr (.inl ⟨e, q, x, hv, hk _ _ _ (.inl rfl) hq, iha _ ha⟩)))
    · exact .inr (.inr (.inr (.inr (.inl ⟨e, q, x, y, hv, hk _ _ _ (.inr (.inl rfl)) hq, iha _ ha, ihb _ hb⟩))))
    · exact .inr (.inr (.inr (.inr (.inr ⟨e, q, x, y, hv, hk _ _ _ (.inr (.inr rfl)) hq, iha _ ha, ihb _ hb⟩))))
theorem Tv.kept {w w' : World} (hk : Kept w w') (t : Ty) (v : Value) (h : Tv w t v) : Tv w' t v := Tv.keptN hk.n t v h
theorem Tv.below {w w' : World} {t : Ty} {v : Value} (h : Tv w t v) (hb : Below w.heap.size w w') : Tv w' t v := Tv.kept (Below.kept hb) t v h

theorem Tv.drewN {w : World} {t : Ty} {v : Value} (h : Tv w t v) (n : Nat) : Tv (w.drewN n) t v := Tv.kept (w := w) (w' := w.drewN n) (fun _ _ _ _ _ h => h) t v h

theorem Tv.iface {w : World} {t : Ty} {v : Value} (h : Tv w t v) : ∃ T x, v = .iface T x := by
  cases t with
  | nil => exact h.elim
  | node g o u a b =>
    rcases h with ⟨_, rfl⟩ | ⟨_, rfl⟩ | ⟨_, rfl⟩ | ⟨_, q, x, rfl, _⟩ | ⟨_, q, x, y, rfl, _⟩ | ⟨_, q, x, y, rfl, _⟩ <;> exact ⟨_, _, rfl⟩

/-- One value is one type. -/
theorem Tv.one {w : World} : ∀ (t u : Ty) (v : Value), Ok t → Ok u → Tv w t v → Tv w u v → t = u := by
  intro t
  induction t with
  | nil => intro u v h; exact h.elim
  | node g o x a b iha ihb =>
    intro u v ht hu h k
    cases x
    rcases ht with ⟨rfl, rfl, rfl, rfl⟩ | ⟨rfl, rfl, rfl, rfl⟩ | ⟨rfl, ho, rfl, rfl⟩ | ⟨rfl, rfl, ha, rfl⟩ | ⟨rfl, rfl, ha, hb⟩ | ⟨rfl, rfl, ha, hb⟩
    · have e := Tv.isI h; subst e
      rcases hu.cases with rfl | rfl | ⟨o', _, _, rfl⟩ | ⟨a', ha', rfl⟩ | ⟨a', b', ha', hb', rfl⟩ | ⟨a', b', ha', hb', rfl⟩
      · rfl
      · exact absurd k.isB (by simp)
      · exact absurd k.isV (by simp)
      · obtain ⟨q, x, e, _⟩ := k.isL; exact absurd e (by simp)
      · obtain ⟨q, x, y, e, _⟩ := k.isP; exact absurd e (by simp)
      · obtain ⟨q, x, y, e, _⟩ := k.isF; exact absurd e (by simp)
    · have e := Tv.isB h; subst e
      rcases hu.cases with rfl | rfl | ⟨o', _, _, rfl⟩ | ⟨a', ha', rfl⟩ | ⟨a', b', ha', hb', rfl⟩ | ⟨a', b', ha', hb', rfl⟩
      · exact absurd k.isI (by simp)
      · rfl
      · exact absurd k.isV (by simp)
      · obtain ⟨q, x, e, _⟩ := k.isL; exact absurd e (by simp)
      · obtain ⟨q, x, y, e, _⟩ := k.isP; exact absurd e (by simp)
      · obtain ⟨q, x, y, e, _⟩ := k.isF; exact absurd e (by simp)
    · have e := Tv.isV h; subst e
      rcases hu.cases with rfl | rfl | ⟨o', _, _, rfl⟩ | ⟨a', ha', rfl⟩ | ⟨a', b', ha', hb', rfl⟩ | ⟨a', b', ha', hb', rfl⟩
      · exact absurd k.isI (by simp)
      · exact absurd k.isB (by simp)
      · have e := k.isV
        simp at e
        obtain rfl : o = o' := by omega
        rfl
      · obtain ⟨q, x, e, _⟩ := k.isL; exact absurd e (by simp)
      · obtain ⟨q, x, y, e, _⟩ := k.isP; exact absurd e (by simp)
      · obtain ⟨q, x, y, e, _⟩ := k.isF; exact absurd e (by simp)
    · obtain ⟨q, x, rfl, hq, hx⟩ := Tv.isL h
      rcases hu.cases with rfl | rfl | ⟨o', _, _, rfl⟩ | ⟨a', ha', rfl⟩ | ⟨a', b', ha', hb', rfl⟩ | ⟨a', b', ha', hb', rfl⟩
      · exact absurd k.isI (by simp)
      · exact absurd k.isB (by simp)
      · exact absurd k.isV (by simp)
      · obtain ⟨q', x', e, hq', hx'⟩ := k.isL
        simp at e; subst e
        rw [hq] at hq'
        simp at hq'
        obtain ⟨rfl, _⟩ := hq'
        rw [iha _ _ ha ha' hx hx']
      · obtain ⟨q, x, y, e, _⟩ := k.isP; exact absurd e (by simp)
      · obtain ⟨q, x, y, e, _⟩ := k.isF; exact absurd e (by simp)
    · obtain ⟨q, x, y, rfl, hq, hx, hy⟩ := Tv.isP h
      rcases hu.cases with rfl | rfl | ⟨o', _, _, rfl⟩ | ⟨a', ha', rfl⟩ | ⟨a', b', ha', hb', rfl⟩ | ⟨a', b', ha', hb', rfl⟩
      · exact absurd k.isI (by simp)
      · exact absurd k.isB (by simp)
      · exact absurd k.isV (by simp)
      · obtain ⟨q, x, e, _⟩ := k.isL; exact absurd e (by simp)
      · obtain ⟨q', x', y', e, hq', hx', hy'⟩ := k.isP
        simp at e; subst e
        rw [hq] at hq'
        simp at hq'
        obtain ⟨rfl, rfl, _⟩ := hq'
        rw [iha _ _ ha ha' hx hx', ihb _ _ hb hb' hy hy']
      · obtain ⟨q, x, y, e, _⟩ := k.isF; exact absurd e (by simp)
    · obtain ⟨q, x, y, rfl, hq, hx, hy⟩ := Tv.isF h
      rcases hu.cases with rfl | rfl | ⟨o', _, _, rfl⟩ | ⟨a', ha', rfl⟩ | ⟨a', b', ha', hb', rfl⟩ | ⟨a', b', ha', hb', rfl⟩
      · exact absurd k.isI (by simp)
      · exact absurd k.isB (by simp)
      · exact absurd k.isV (by simp)
      · obtain ⟨q, x, e, _⟩ := k.isL; exact absurd e (by simp)
      · obtain ⟨q, x, y, e, _⟩ := k.isP; exact absurd e (by simp)
      · obtain ⟨q', x', y', e, hq', hx', hy'⟩ := k.isF
        simp at e; subst e
        rw [hq] at hq'
        simp at hq'
        obtain ⟨rfl, rfl, _⟩ := hq'
        rw [iha _ _ ha ha' hx hx', ihb _ _ hb hb' hy hy']
end Go.Proofs.YtceadeaodbadlaaGreatDoor
