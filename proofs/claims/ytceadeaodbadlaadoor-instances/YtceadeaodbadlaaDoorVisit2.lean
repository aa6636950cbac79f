import Derived.Test.YtceadeaodbadlaaDoorVisit
set_option linter.unusedVariables false
set_option linter.unusedSimpArgs false
namespace Go.Proofs.YtceadeaodbadlaaDoor
open Go.RowKit

theorem nodeOf_nd {v : Value} {q k : Nat} (h : NdV v q k) (w : World) : Calls Tryd.prog 67 #[v] w fun e w' => e = .returned (.pointer (some ⟨q, k, none⟩)) ∧ w' = w := by
  rcases h with ⟨rfl, rfl⟩ | ⟨rfl, rfl⟩ | ⟨rfl, rfl⟩
  · exact nodeOf_L q w
  · exact nodeOf_P q w
  · exact nodeOf_F q w
theorem NdV.iface {v : Value} {q k : Nat} (h : NdV v q k) : ∃ T x, v = .iface T x := by
  rcases h with ⟨rfl, rfl⟩ | ⟨rfl, rfl⟩ | ⟨rfl, rfl⟩ <;> exact ⟨_, _, rfl⟩

/-- A type without parts; with parts. -/
def Leaf (v : Value) : Prop := v = viI ∨ v = viB ∨ ∃ o, v = viV o
theorem Leaf.nodeOf {v : Value} (h : Leaf v) (w : World) : Calls Tryd.prog 67 #[v] w fun e w' => e = .returned (.pointer none) ∧ w' = w := by
  rcases h with rfl | rfl | ⟨o, rfl⟩ <;> exact nodeOf_leaf _ _ w (by decide) (by decide) (by decide)
theorem Leaf.iface {v : Value} (h : Leaf v) : ∃ T x, v = .iface T x := by
  rcases h with rfl | rfl | ⟨o, rfl⟩ <;> exact ⟨_, _, rfl⟩

set_option maxHeartbeats 400000 in
theorem at_leaf {v : Value} (vb : Nat) (w : World) (h : Leaf v) :
    Calls Tryd.prog 63 #[.pointer (some ⟨vb, 0, none⟩), v] w fun e w' => e = .returned .nilIface ∧ w' = w := by
  have N := h.nodeOf w
  obtain ⟨T, x, rfl⟩ := h.iface
  clear h
  go_enter Tryd.func63, Tryd.ntmps63
  go_wp2_with fail
  refine N.mono ?_
  rintro e w' ⟨rfl, rfl⟩
  go_wp2_with fail
  go_ret
  exact ⟨rfl, rfl⟩
set_option maxHeartbeats 400000 in
theorem at_nd {v : Value} {q k : Nat} (vb : Nat) (f : Value) (w : World) (h : NdV v q k) (hf : w.cell? ⟨q, k + 1, none⟩ = some f) :
    Calls Tryd.prog 63 #[.pointer (some ⟨vb, 0, none⟩), v] w fun e w' => e = .returned f ∧ w' = w := by
  have N := nodeOf_nd h w
  obtain ⟨T, x, rfl⟩ := h.iface
  clear h
  go_enter Tryd.func63, Tryd.ntmps63
  go_wp2_with fail
  refine N.mono ?_
  rintro e w' ⟨rfl, rfl⟩
  go_wp2_with fail
  go_ret
  exact ⟨rfl, rfl⟩

set_option maxHeartbeats 400000 in
theorem keep_leaf {v : Value} (vb : Nat) (f : Value) (w : World) (h : Leaf v) :
    Calls Tryd.prog 64 #[.pointer (some ⟨vb, 0, none⟩), v, f] w fun e w' => e = .returned (.tuple #[]) ∧ w' = w := by
  have N := h.nodeOf w
  obtain ⟨T, x, rfl⟩ := h.iface
  clear h
  go_enter Tryd.func64, Tryd.ntmps64
  go_wp2_with fail
  refine N.mono ?_
  rintro e w' ⟨rfl, rfl⟩
  go_wp2_with fail
  first | go_end0 | refine bodyPost_ret (results_none rfl _ _ _) rfl ?_
  exact ⟨rfl, rfl⟩

theorem np_ptr (L : Mks) : ∃ p, np L = .pointer p := by
  cases L with
  | nil => exact ⟨_, rfl⟩
  | cons m r => obtain ⟨q, k, f⟩ := m; exact ⟨_, rfl⟩

set_option maxHeartbeats 1000000 in
theorem keep_new {v : Value} {q k : Nat} {vb : Nat} {L : Mks} {u w : World} {o : Obj} (h : NdV v q k) (hV : Vs vb L u w) (hq : u.heap[q]? = some o) (hn : isNd o k) (hnot : q ∉ L.map (·.1)) (T : TypeId) (x : Value) :
    Calls Tryd.prog 64 #[.pointer (some ⟨vb, 0, none⟩), v, .iface T x] w fun e w' => e = .returned (.tuple #[]) ∧ Vs vb ((q, k, .iface T x) :: L) u w' := by
  have N := nodeOf_nd h w
  obtain ⟨T', x', rfl⟩ := h.iface
  have hne := hV.ne hq hn
  have M := hV.mark hq hn hnot T x
  have cl := hV.last
  have fl : w.frozen? ⟨vb, 0, none⟩ = false := Lib.frozen_of_heap hV.vis 0
  have cf := hV.found hq hn
  rw [fnd_not hnot] at cf
  obtain ⟨c, T1, c', _, hw, _, _, n, e2⟩ := hV.at_node hq hn
  have cn : w.cell? ⟨q, k + 2, none⟩ = some n := by rw [Lib.cell_of_heap hw]; exact e2
  have ff : w.frozen? ⟨q, k + 1, none⟩ = false := Lib.frozen_of_heap hw _
  have fn : w.frozen? ⟨q, k + 2, none⟩ = false := Lib.frozen_of_heap hw _
  clear h hV hq hn hnot hw e2
  obtain ⟨pp, hpp⟩ := np_ptr L
  rw [hpp] at M cl
  clear hpp
  go_enter Tryd.func64, Tryd.ntmps64
  go_wp2_with fail
  refine N.mono ?_
  rintro e w' ⟨rfl, rfl⟩
  go_wp2_with fail
  go_end0
  exact ⟨rfl, M⟩

set_option maxHeartbeats 1000000 in
theorem keep_old {v : Value} {q k : Nat} {vb : Nat} {L : Mks} {u w : World} {o : Obj} (h : NdV v q k) (hV : Vs vb L u w) (hq : u.heap[q]? = some o) (hn : isNd o k) (hin : q ∈ L.map (·.1)) (T : TypeId) (x : Value) :
    Calls Tryd.prog 64 #[.pointer (some ⟨vb, 0, none⟩), v, .iface T x] w fun e w' => e = .returned (.tuple #[]) ∧ Vs vb (upd q (.iface T x) L) u w' := by
  have N := nodeOf_nd h w
  obtain ⟨T', x', rfl⟩ := h.iface
  have M := hV.remark hq hn hin T x
  have cf := hV.found hq hn
  obtain ⟨k', hm⟩ := fnd_in hin
  obtain ⟨T2, x2, e3⟩ := (hV.nds _ hm).2
  have e3' : fnd L q = .iface T2 x2 := e3
  rw [e3'] at cf
  obtain ⟨c, T1, c', _, hw, _, _, n, e2⟩ := hV.at_node hq hn
  have ff : w.frozen? ⟨q, k + 1, none⟩ = false := Lib.frozen_of_heap hw _
  clear h hV hq hn hin hw e2 hm e3 e3'
  go_enter Tryd.func64, Tryd.ntmps64
  go_wp2_with fail
  refine N.mono ?_
  rintro e w' ⟨rfl, rfl⟩
  go_wp2_with fail
  go_end0
  exact ⟨rfl, M⟩

/-- The visit is over: all is as it was, but the visit itself. -/
structure Ends (vb : Nat) (u w : World) : Prop where
  os : w.os = u.os
  tape : w.tape = u.tape
  output : w.output = u.output
  size : w.heap.size = u.heap.size
  blk : ∀ q, q ≠ vb → w.heap[q]? = u.heap[q]?
  vis : ∃ c, w.heap[vb]? = some (.cells c 135 (0, 0))
theorem Vs.ends {vb : Nat} {u w : World} (h : Vs vb [] u w) : Ends vb u w := ⟨h.os, h.tape, h.output, h.size, h.blk, _, h.vis⟩

/-- How long the chain of marks is. -/
def chain (w : World) : Nat → Value → Nat
  | 0, _ => 0
  | n + 1, .pointer (some a) => 1 + chain w n ((w.cell? ⟨a.block, a.off + 2, none⟩).getD .nilIface)
  | _ + 1, _ => 0
theorem Vs.next {vb : Nat} {u w : World} : ∀ (L pre r : Mks) (q k : Nat) (f : Value), L = pre ++ (q, k, f) :: r → Vs vb L u w → w.cell? ⟨q, k + 2, none⟩ = some (np r) := by
  intro L pre r q k f e h
  subst e
  have hm : (q, k, f) ∈ pre ++ (q, k, f) :: r := by simp
  obtain ⟨⟨o, ho, hn⟩, _⟩ := h.nds _ hm
  have hne := h.ne ho hn
  obtain ⟨c, T, rfl, _, _, _, e2, _⟩ := hn.cells
  have hw := h.blk q hne
  simp only at ho
  rw [ho] at hw
  have hnp : q ∉ pre.map (·.1) := by
    have := h.nodup
    simp only [List.map_append, List.map_cons] at this
    intro hq
    exact (List.nodup_append.1 this).2.2 q hq q (by simp) rfl
  have hmk : ∀ p : Mks, q ∉ p.map (·.1) → ∀ o, marked (p ++ (q, k, f) :: r) q o = o.map (mkd k f (np r)) := by
    intro p
    induction p with
    | nil => intro _ o; rw [List.nil_append, marked, if_pos rfl]
    | cons m p ih =>
      intro hp o
      obtain ⟨p1, k1, f1⟩ := m
      simp only [List.map_cons, List.mem_cons, not_or] at hp
      rw [List.cons_append, marked, if_neg hp.1]
      exact ih hp.2 o
  rw [hmk pre hnp] at hw
  rw [Lib.cell_of_heap (show w.heap[q]? = some (.cells _ T (0, 0)) from hw)]
  simp [(Array.getElem?_eq_some_iff.1 e2).1]
theorem Vs.len {vb : Nat} {u w : World} {L : Mks} (h : Vs vb L u w) : ∀ (r pre : Mks) (n : Nat), L = pre ++ r → r.length ≤ n → chain w n (np r) = r.length := by
  intro r
  induction r with
  | nil => intro pre n _ _; cases n <;> rfl
  | cons m r ih =>
    intro pre n e hn
    obtain ⟨q, k, f⟩ := m
    cases n with
    | zero => simp at hn
    | succ n =>
      have c := h.next L pre r q k f e
      show 1 + chain w n ((w.cell? ⟨q, k + 2, none⟩).getD .nilIface) = _
      rw [c, Option.getD_some, ih (pre ++ [(q, k, f)]) n (by rw [e]; simp) (by simpa using hn)]
      simp; omega

/-- One mark less. -/
theorem Vs.unmark {vb : Nat} {r : Mks} {u w : World} {q k : Nat} {f : Value} (h : Vs vb ((q, k, f) :: r) u w) :
    Vs vb r u (((w.setCell ⟨vb, 0, none⟩ (np r)).setCell ⟨q, k + 1, none⟩ .nilIface).setCell ⟨q, k + 2, none⟩ (.pointer none)) := by
  obtain ⟨⟨o, ho, hn⟩, _⟩ := h.nds _ List.mem_cons_self
  simp only at ho hn
  have hne := h.ne ho hn
  obtain ⟨c, T, rfl, _, _, e1, e2, _⟩ := hn.cells
  have hw : w.heap[q]? = some (.cells ((c.setIfInBounds (k + 1) f).setIfInBounds (k + 2) (np r)) T (0, 0)) := by rw [h.blk q hne, ho, marked, if_pos rfl]; rfl
  have hnd := h.nodup
  simp only [List.map_cons, List.nodup_cons] at hnd
  refine ⟨h.os, h.tape, h.output, by simp [World.setCell, h.size], ?_, h.uvis, ?_, fun m hm => h.nds m (List.mem_cons_of_mem _ hm), hnd.2⟩
  · rw [Below.heap_setCell _ _ _ _ (by show ¬ _; simp; omega), Below.heap_setCell _ _ _ _ (by show ¬ _; simp; omega)]
    have hv := h.vis
    simp [World.setCell, Array.getElem?_modify, hv]
  · intro p hp
    by_cases e : p = q
    · subst e
      rw [marked_not hnd.1, ho]
      have hw2 : (w.setCell ⟨vb, 0, none⟩ (np r)).heap[p]? = some (.cells ((c.setIfInBounds (k + 1) f).setIfInBounds (k + 2) (np r)) T (0, 0)) := by
        rw [Below.heap_setCell _ _ _ _ (by show ¬ _; simp; omega)]; exact hw
      generalize w.setCell ⟨vb, 0, none⟩ (np r) = w2 at hw2
      have hw3 : ((w2.setCell ⟨p, k + 1, none⟩ .nilIface).setCell ⟨p, k + 2, none⟩ (.pointer none)).heap[p]? = some (.cells ((((c.setIfInBounds (k + 1) f).setIfInBounds (k + 2) (np r)).setIfInBounds (k + 1) .nilIface).setIfInBounds (k + 2) (.pointer none)) T (0, 0)) := by
        simp [World.setCell, Array.getElem?_modify, hw2]
      rw [hw3]
      refine congrArg some (congrArg (fun c => Obj.cells c T (0, 0)) ?_)
      apply Array.ext_getElem?
      intro j
      have s1 := (Array.getElem?_eq_some_iff.1 e1).1
      have s2 := (Array.getElem?_eq_some_iff.1 e2).1
      simp only [Array.getElem?_setIfInBounds, Array.size_setIfInBounds]
      by_cases j1 : k + 1 = j
      · subst j1
        rw [e1]; simp [s1]
      · by_cases j2 : k + 2 = j
        · subst j2
          rw [e2]; simp [s2]
        · simp [j1, j2]
    · rw [Below.heap_setCell _ _ _ _ (by show ¬ _; simp; omega), Below.heap_setCell _ _ _ _ (by show ¬ _; simp; omega), Below.heap_setCell _ _ _ _ (by show ¬ _; simp; omega), h.blk p hp, marked, if_neg e]
end Go.Proofs.YtceadeaodbadlaaDoor
