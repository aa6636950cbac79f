import Derived.Test.YtejcbbhengloiaaDoorSame
import Derived.MapKept
import Derived.KernelRfl
set_option linter.unusedVariables false
set_option linter.unusedSimpArgs false
namespace Go.Proofs.YtejcbbhengloiaaDoor
open Go.RowKit

/-- A variable, as a key. -/
abbrev kv (o : Nat) : Value := .agg #[.int .u8 ((o / 10 : Nat) : Int), .int .u8 ((o % 10 : Nat) : Int)]
theorem kv_check (a b : Int) (em : Bool) (w : World) : (Instr.checkKey em 10000 157 (.agg #[.int .u8 a, .int .u8 b])).run Tryd.prog w = .ok () w := by kernel_rfl
theorem kv_zero (w : World) : (zeroValue 70).run Tryd.prog w = .ok .nilIface w := by kernel_rfl
theorem kv_now (a b : Int) (e : MapEntry) (es : List MapEntry) (fs) : Instr.findNow (.struct fs) (.agg #[.int .u8 a, .int .u8 b]) (e :: es) 0 = none := by kernel_rfl
theorem kv_held : Tryd.prog.stoodInHeld 157 = false := by kernel_rfl
theorem kv_eq (a b c d : Int) (w : World) : (Op.equal 157 (.agg #[.int .u8 a, .int .u8 b]) (.agg #[.int .u8 c, .int .u8 d])).run Tryd.prog w = .ok (a == c && b == d) w := by
  simp only [Op.equal, Op.maxDepth]
  rw [run_equalIn_struct w 9999 _ _ _ (by kernel_rfl) kv_held]
  simp only [Program.fieldsOf, Tryd.underlying157]
  simp [go_sem]
  by_cases h : a = c <;> by_cases h' : b = d <;> simp [h, h']

/-- What an entry holds. -/
abbrev ent (p : Nat × Ty) : Value × Value := (kv p.1, .iface (tg p.2) (ag p.2))

theorem ask_any (o : Nat) (w : World) : ∀ (l : List (Nat × Ty)) (es : List MapEntry) (i : Nat), es.map (fun e => (e.key, e.val)) = l.map ent →
    ∃ j, (Instr.findAsking 157 (kv o) es i).run Tryd.prog w = .ok (match look l o with | none => none | some t => some (j, .iface (tg t) (ag t))) w := by
  intro l
  induction l with
  | nil =>
    intro es i h
    obtain rfl : es = [] := by simpa using h
    exact ⟨0, by simp [Instr.findAsking, look]⟩
  | cons p l ih =>
    intro es i h
    obtain ⟨q, t⟩ := p
    cases es with
    | nil => simp at h
    | cons e es =>
      simp only [List.map_cons, List.cons.injEq, Prod.mk.injEq] at h
      obtain ⟨⟨hk, hv⟩, hr⟩ := h
      by_cases hq : q = o
      · subst hq
        refine ⟨i, ?_⟩
        simp only [Instr.findAsking, Sem.run_bind, hk, kv_eq, look, if_true, Result.andThen_ok, beq_self_eq_true, Bool.and_self, hv, Sem.run_pure]
      · have hne : (((o / 10 : Nat) : Int) == ((q / 10 : Nat) : Int) && ((o % 10 : Nat) : Int) == ((q % 10 : Nat) : Int)) = false := by
          rw [Bool.eq_false_iff]; simp; omega
        obtain ⟨j, hj⟩ := ih es (i + 1) hr
        refine ⟨j, ?_⟩
        simp only [Instr.findAsking, Sem.run_bind, hk, kv_eq, hne, look, if_neg hq, Result.andThen_ok, Bool.false_eq_true, if_false, hj]

theorem find_any (o : Nat) (w : World) (l : List (Nat × Ty)) (es : List MapEntry) (h : es.map (fun e => (e.key, e.val)) = l.map ent) :
    ∃ j, (Instr.findKey 157 (kv o) es).run Tryd.prog w = .ok (match look l o with | none => none | some t => some (j, .iface (tg t) (ag t))) w := by
  cases es with
  | nil =>
    obtain rfl : l = [] := by simpa using h.symm
    exact ⟨0, by simp [Instr.findKey, run_underlying Tryd.underlying157, Instr.findNow, look]⟩
  | cons e es =>
    obtain ⟨j, hj⟩ := ask_any o w l (e :: es) 0 h
    refine ⟨j, ?_⟩
    simp only [Instr.findKey, Sem.run_bind, run_underlying Tryd.underlying157, Result.andThen_ok, kv_now, hj]

/-- Block b holds what stands in the variables' places. -/
def Mp (b : Nat) (l : List (Nat × Ty)) (w : World) : Prop := ∃ es clock, w.heap[b]? = some (.map es clock) ∧ es.toList.map (fun e => (e.key, e.val)) = l.map ent ∧ ∀ p ∈ l, Ok p.2

theorem Mp.lt {b : Nat} {l : List (Nat × Ty)} {w : World} (h : Mp b l w) : b < w.heap.size := by
  obtain ⟨es, clock, hb, _⟩ := h
  exact (Array.getElem?_eq_some_iff.1 hb).1
theorem Mp.below {b B : Nat} {l : List (Nat × Ty)} {w w' : World} (h : Mp b l w) (hb : Below B w w') (hB : b < B) : Mp b l w' := by
  obtain ⟨es, clock, h1, h2⟩ := h
  exact ⟨es, clock, (hb.block b hB).trans h1, h2⟩
theorem Mp.alloc {b : Nat} {l : List (Nat × Ty)} {w : World} (h : Mp b l w) (o : Obj) : Mp b l (w.alloc o) := by
  have := h.lt
  obtain ⟨es, clock, h1, h2⟩ := h
  exact ⟨es, clock, (Below.heap_alloc w o b this).trans h1, h2⟩
theorem look_mem : ∀ (l : List (Nat × Ty)) (o : Nat) (t : Ty), look l o = some t → (o, t) ∈ l := by
  intro l
  induction l with
  | nil => intro o t h; cases h
  | cons p l ih =>
    intro o t h
    obtain ⟨q, u⟩ := p
    simp only [look] at h
    split at h
    · rename_i e; subst e; cases h; exact List.mem_cons_self
    · exact List.mem_cons_of_mem _ (ih o t h)
theorem Mp.ok {b : Nat} {l : List (Nat × Ty)} {w : World} (h : Mp b l w) {o : Nat} {t : Ty} (ho : look l o = some t) : Ok t := by
  obtain ⟨es, clock, _, _, h3⟩ := h
  exact h3 (o, t) (look_mem l o t ho)

theorem map_look_none {b : Nat} {l : List (Nat × Ty)} {w : World} (h : Mp b l w) {o : Nat} (ho : look l o = none) :
    (Instr.lookup 111 (.map (some b)) (kv o) true).run Tryd.prog w = .ok (.tuple #[.nilIface, .bool false]) w := by
  obtain ⟨es, clock, hb, he, _⟩ := h
  obtain ⟨j, hj⟩ := find_any o w l es.toList he
  rw [ho] at hj
  simp [Instr.lookup, run_underlying Tryd.underlying111, MapKept.run_getObj_map hb, kv_check, hj, kv_zero]
theorem map_look_some {b : Nat} {l : List (Nat × Ty)} {w : World} (h : Mp b l w) {o : Nat} {t : Ty} (ho : look l o = some t) :
    (Instr.lookup 111 (.map (some b)) (kv o) true).run Tryd.prog w = .ok (.tuple #[.iface (tg t) (ag t), .bool true]) w := by
  obtain ⟨es, clock, hb, he, _⟩ := h
  obtain ⟨j, hj⟩ := find_any o w l es.toList he
  rw [ho] at hj
  simp [Instr.lookup, run_underlying Tryd.underlying111, MapKept.run_getObj_map hb, kv_check, hj]
theorem map_put {b : Nat} {l : List (Nat × Ty)} {w : World} (h : Mp b l w) {o : Nat} {s : Ty} (hs : Ok s) (ho : look l o = none) :
    ∃ w', (Instr.mapUpdate 111 (.map (some b)) (kv o) (.iface (tg s) (ag s))).run Tryd.prog w = .ok () w' ∧ Mp b (l ++ [(o, s)]) w' ∧ Gb b w w' := by
  have hlt := h.lt
  obtain ⟨es, clock, hb, he, h3⟩ := h
  obtain ⟨j, hj⟩ := find_any o w l es.toList he
  rw [ho] at hj
  refine ⟨{ w with heap := w.heap.setIfInBounds b (.map (es.push ⟨kv o, .iface (tg s) (ag s), clock⟩) (clock + 1)) }, ?_, ⟨es.push ⟨kv o, .iface (tg s) (ag s), clock⟩, clock + 1, ?_, ?_, ?_⟩, ?_⟩
  · simp [Instr.mapUpdate, run_underlying Tryd.underlying111, MapKept.run_getObj_map hb, kv_check, hj, MapKept.run_setObj_map _ hb, Result.andThen]
  · simp [hlt]
  · simp [he]
  · intro p hp
    rcases List.mem_append.1 hp with hp | hp
    · exact h3 p hp
    · obtain rfl : p = (o, s) := by simpa using hp
      exact hs
  · refine ⟨rfl, rfl, rfl, by simp, fun k hk hne => ?_⟩
    have hne' : ¬ b = k := fun e => hne (by rw [e])
    simp [Array.getElem?_setIfInBounds, hne']
end Go.Proofs.YtejcbbhengloiaaDoor
