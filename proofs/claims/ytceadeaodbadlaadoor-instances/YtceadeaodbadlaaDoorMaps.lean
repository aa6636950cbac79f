import Derived.Test.YtceadeaodbadlaaDoorSame
import Derived.MapKept
import Derived.KernelRfl
set_option linter.unusedVariables false
set_option linter.unusedSimpArgs false
namespace Go.Proofs.YtceadeaodbadlaaDoor
open Go.RowKit

theorem kv_check (a b : Int) (em : Bool) (w : World) : (Instr.checkKey em 10000 92 (.agg #[.int .u8 a, .int .u8 b])).run Tryd.prog w = .ok () w := by kernel_rfl
theorem kv_zero (w : World) : (zeroValue 43).run Tryd.prog w = .ok .nilIface w := by kernel_rfl
theorem kv_now (a b : Int) (e : MapEntry) (es : List MapEntry) (fs) : Instr.findNow (.struct fs) (.agg #[.int .u8 a, .int .u8 b]) (e :: es) 0 = none := by kernel_rfl
theorem kv_eq (a b c d : Int) (w : World) : (Op.equal 92 (.agg #[.int .u8 a, .int .u8 b]) (.agg #[.int .u8 c, .int .u8 d])).run Tryd.prog w = .ok (a == c && b == d) w := kv_eqIn 9997 a b c d w

/-- What stands in a variable's place so far, as values. -/
def lookV : List (Nat × Value) → Nat → Option Value
  | [], _ => none
  | (p, t) :: r, o => if p = o then some t else lookV r o
abbrev ent (p : Nat × Value) : Value × Value := (kv p.1, p.2)

theorem ask_any (o : Nat) (w : World) : ∀ (l : List (Nat × Value)) (es : List MapEntry) (i : Nat), es.map (fun e => (e.key, e.val)) = l.map ent →
    ∃ j, (Instr.findAsking 92 (kv o) es i).run Tryd.prog w = .ok (match lookV l o with | none => none | some t => some (j, t)) w := by
  intro l
  induction l with
  | nil =>
    intro es i h
    obtain rfl : es = [] := by simpa using h
    exact ⟨0, by simp [Instr.findAsking, lookV]⟩
  | cons p l ih =>
    intro es i h
    obtain ⟨q, t⟩ := p
    cases es with
    | nil => simp at h
    | cons e es =>
      simp only [List.map_cons, List.cons.injEq, Prod.mk.injEq] at h
      obtain ⟨⟨hk, hv⟩, hr⟩ := h
      by_cases hq : q = o
      · subst hq
        refine ⟨i, ?_⟩
        simp only [Instr.findAsking, Sem.run_bind, hk, kv_eq, lookV, if_true, Result.andThen_ok, beq_self_eq_true, Bool.and_self, hv, Sem.run_pure]
      · have hne : (((o / 10 : Nat) : Int) == ((q / 10 : Nat) : Int) && ((o % 10 : Nat) : Int) == ((q % 10 : Nat) : Int)) = false := by
          rw [Bool.eq_false_iff]; simp; omega
        obtain ⟨j, hj⟩ := ih es (i + 1) hr
        refine ⟨j, ?_⟩
        simp only [Instr.findAsking, Sem.run_bind, hk, kv_eq, hne, lookV, if_neg hq, Result.andThen_ok, Bool.false_eq_true, if_false, hj]

theorem find_any (o : Nat) (w : World) (l : List (Nat × Value)) (es : List MapEntry) (h : es.map (fun e => (e.key, e.val)) = l.map ent) :
    ∃ j, (Instr.findKey 92 (kv o) es).run Tryd.prog w = .ok (match lookV l o with | none => none | some t => some (j, t)) w := by
  cases es with
  | nil =>
    obtain rfl : l = [] := by simpa using h.symm
    exact ⟨0, by simp [Instr.findKey, run_underlying Tryd.underlying92, Instr.findNow, lookV]⟩
  | cons e es =>
    obtain ⟨j, hj⟩ := ask_any o w l (e :: es) 0 h
    refine ⟨j, ?_⟩
    simp only [Instr.findKey, Sem.run_bind, run_underlying Tryd.underlying92, Result.andThen_ok, kv_now, hj]

/-- Values and types, one by one. -/
def Tps (w : World) : List (Nat × Ty) → List (Nat × Value) → Prop
  | [], [] => True
  | p :: l, q :: m => p.1 = q.1 ∧ Ok p.2 ∧ Tv w p.2 q.2 ∧ Tps w l m
  | _, _ => False
theorem Tps.keptN {w w' : World} (hk : KeptN w w') : ∀ (l : List (Nat × Ty)) (m : List (Nat × Value)), Tps w l m → Tps w' l m := by
  intro l
  induction l with
  | nil => intro m h; cases m with | nil => exact h | cons => exact h.elim
  | cons p l ih => intro m h; cases m with | nil => exact h.elim | cons q m => exact ⟨h.1, h.2.1, Tv.keptN hk _ _ h.2.2.1, ih _ h.2.2.2⟩
theorem Tps.snoc {w : World} {o : Nat} {t : Ty} {v : Value} (ht : Ok t) (hv : Tv w t v) : ∀ (l : List (Nat × Ty)) (m : List (Nat × Value)), Tps w l m → Tps w (l ++ [(o, t)]) (m ++ [(o, v)]) := by
  intro l
  induction l with
  | nil => intro m h; cases m with | nil => exact ⟨rfl, ht, hv, trivial⟩ | cons => exact h.elim
  | cons p l ih => intro m h; cases m with | nil => exact h.elim | cons q m => exact ⟨h.1, h.2.1, h.2.2.1, ih _ h.2.2.2⟩
theorem Tps.none {w : World} {o : Nat} : ∀ (l : List (Nat × Ty)) (m : List (Nat × Value)), Tps w l m → look l o = none → lookV m o = none := by
  intro l
  induction l with
  | nil => intro m h _; cases m with | nil => rfl | cons => exact h.elim
  | cons p l ih =>
    intro m h hl
    cases m with
    | nil => exact h.elim
    | cons q m =>
      obtain ⟨p1, p2⟩ := p
      obtain ⟨q1, q2⟩ := q
      obtain ⟨e, _, _, h3⟩ := h
      simp only at e
      subst e
      simp only [look] at hl
      split at hl
      · cases hl
      · rename_i e
        rw [lookV, if_neg e]; exact ih m h3 hl
theorem Tps.some {w : World} {o : Nat} {t : Ty} : ∀ (l : List (Nat × Ty)) (m : List (Nat × Value)), Tps w l m → look l o = some t → ∃ v, lookV m o = some v ∧ Ok t ∧ Tv w t v := by
  intro l
  induction l with
  | nil => intro m h hl; cases hl
  | cons p l ih =>
    intro m h hl
    cases m with
    | nil => exact h.elim
    | cons q m =>
      obtain ⟨p1, p2⟩ := p
      obtain ⟨q1, q2⟩ := q
      obtain ⟨e, h1, h2, h3⟩ := h
      simp only at e h1 h2
      subst e
      simp only [look] at hl
      split at hl
      · rename_i e
        cases hl
        exact ⟨q2, by rw [lookV, if_pos e], h1, h2⟩
      · rename_i e
        rw [lookV, if_neg e]; exact ih m h3 hl

/-- Block b holds what stands in the variables' places. -/
def Mp (b : Nat) (l : List (Nat × Ty)) (w : World) : Prop := ∃ es clock m, w.heap[b]? = some (.map es clock) ∧ es.toList.map (fun e => (e.key, e.val)) = m.map ent ∧ Tps w l m

theorem Mp.lt {b : Nat} {l : List (Nat × Ty)} {w : World} (h : Mp b l w) : b < w.heap.size := by
  obtain ⟨es, clock, m, hb, _⟩ := h
  exact (Array.getElem?_eq_some_iff.1 hb).1
theorem Mp.below {b : Nat} {l : List (Nat × Ty)} {w w' : World} (h : Mp b l w) (hb : Below w.heap.size w w') : Mp b l w' := by
  have hlt := h.lt
  obtain ⟨es, clock, m, h1, h2, h3⟩ := h
  exact ⟨es, clock, m, (hb.block b hlt).trans h1, h2, Tps.keptN (Below.kept hb).n _ _ h3⟩
theorem Mp.alloc {b : Nat} {l : List (Nat × Ty)} {w : World} (h : Mp b l w) (o : Obj) : Mp b l (w.alloc o) := h.below ((Below.refl _ w).alloc (Nat.le_refl _) o)
theorem Mp.drew {b : Nat} {l : List (Nat × Ty)} {w : World} (h : Mp b l w) : Mp b l w.drew := by
  obtain ⟨es, clock, m, h1, h2, h3⟩ := h
  exact ⟨es, clock, m, h1, h2, Tps.keptN (w := w) (w' := w.drew) (fun _ _ _ _ h => h) _ _ h3⟩
theorem Mp.drewN {b : Nat} {l : List (Nat × Ty)} {w : World} (h : Mp b l w) (n : Nat) : Mp b l (w.drewN n) := by
  obtain ⟨es, clock, m, h1, h2, h3⟩ := h
  exact ⟨es, clock, m, h1, h2, Tps.keptN (w := w) (w' := w.drewN n) (fun _ _ _ _ h => h) _ _ h3⟩
/-- What turns the map alone keeps types. -/
theorem Mp.kept {b : Nat} {l : List (Nat × Ty)} {w w' : World} (h : Mp b l w) (hg : Gb b w w') : KeptN w w' := by
  obtain ⟨es, clock, m, h1, _⟩ := h
  intro q c T _ hq
  refine hg.old hq ?_
  rintro rfl
  rw [h1] at hq
  cases hq

theorem map_look_none {b : Nat} {l : List (Nat × Ty)} {w : World} (h : Mp b l w) {o : Nat} (ho : look l o = none) :
    (Instr.lookup 67 (.map (some b)) (kv o) true).run Tryd.prog w = .ok (.tuple #[.nilIface, .bool false]) w := by
  obtain ⟨es, clock, m, hb, he, ht⟩ := h
  obtain ⟨j, hj⟩ := find_any o w m es.toList he
  rw [Tps.none l m ht ho] at hj
  simp [Instr.lookup, run_underlying Tryd.underlying67, MapKept.run_getObj_map hb, kv_check, hj, kv_zero]
theorem map_look_some {b : Nat} {l : List (Nat × Ty)} {w : World} (h : Mp b l w) {o : Nat} {t : Ty} (ho : look l o = some t) :
    ∃ v, (Instr.lookup 67 (.map (some b)) (kv o) true).run Tryd.prog w = .ok (.tuple #[v, .bool true]) w ∧ Ok t ∧ Tv w t v := by
  obtain ⟨es, clock, m, hb, he, ht⟩ := h
  obtain ⟨j, hj⟩ := find_any o w m es.toList he
  obtain ⟨v, h1, h2, h3⟩ := Tps.some l m ht ho
  rw [h1] at hj
  exact ⟨v, by simp [Instr.lookup, run_underlying Tryd.underlying67, MapKept.run_getObj_map hb, kv_check, hj], h2, h3⟩
theorem map_put {b : Nat} {l : List (Nat × Ty)} {w : World} (h : Mp b l w) {o : Nat} {s : Ty} {v : Value} (hs : Ok s) (hv : Tv w s v) (ho : look l o = none) :
    ∃ w', (Instr.mapUpdate 67 (.map (some b)) (kv o) v).run Tryd.prog w = .ok () w' ∧ Mp b (l ++ [(o, s)]) w' ∧ Gb b w w' := by
  have hlt := h.lt
  have h0 := h
  obtain ⟨es, clock, m, hb, he, ht⟩ := h
  obtain ⟨j, hj⟩ := find_any o w m es.toList he
  rw [Tps.none l m ht ho] at hj
  have G : Gb b w { w with heap := w.heap.setIfInBounds b (.map (es.push ⟨kv o, v, clock⟩) (clock + 1)) } := by
    refine ⟨rfl, rfl, rfl, by simp, fun k hk hne => ?_⟩
    have hne' : ¬ b = k := fun e => hne (by rw [e])
    simp [Array.getElem?_setIfInBounds, hne']
  refine ⟨{ w with heap := w.heap.setIfInBounds b (.map (es.push ⟨kv o, v, clock⟩) (clock + 1)) }, ?_, ⟨es.push ⟨kv o, v, clock⟩, clock + 1, m ++ [(o, v)], ?_, ?_, ?_⟩, G⟩
  · simp [Instr.mapUpdate, run_underlying Tryd.underlying67, MapKept.run_getObj_map hb, kv_check, hj, MapKept.run_setObj_map _ hb, Result.andThen]
  · simp [hlt]
  · simp [he]
  · exact Tps.keptN (h0.kept G) _ _ (Tps.snoc hs hv _ _ ht)
end Go.Proofs.YtceadeaodbadlaaDoor
