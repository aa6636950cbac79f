import Derived.Test.YtceadeaodbadlaaDoorMade2
import Derived.LaidEql
import Derived.Stop.Asserts
import Derived.Defers
set_option linter.unusedVariables false
set_option linter.unusedSimpArgs false
namespace Go.Proofs.YtceadeaodbadlaaDoor
open Go.RowKit

/-! A visit marks types in place. The marks: the type's block, where its node lies in it, what was found; the last one first. -/
abbrev Mks : Type := List (Nat × Nat × Value)
def np : Mks → Value
  | [] => .pointer none
  | (q, k, _) :: _ => .pointer (some ⟨q, k, none⟩)
def mkd (k : Nat) (f n : Value) : Obj → Obj
  | .cells c T fz => .cells ((c.setIfInBounds (k + 1) f).setIfInBounds (k + 2) n) T fz
  | o => o
def marked : Mks → Nat → Option Obj → Option Obj
  | [], _, o => o
  | (q, k, f) :: r, p, o => if p = q then o.map (mkd k f (np r)) else marked r p o
def fnd : Mks → Nat → Value
  | [], _ => .nilIface
  | (q, _, f) :: r, p => if p = q then f else fnd r p

/-- A type's block, its node at k. -/
def isNd (o : Obj) (k : Nat) : Prop := (∃ n x, o = obL n x ∧ k = 1) ∨ (∃ n x y, o = obP n x y ∧ k = 2) ∨ (∃ n x y, o = obF n x y ∧ k = 2)
def NdV (v : Value) (q k : Nat) : Prop := (v = viL q ∧ k = 1) ∨ (v = viP q ∧ k = 2) ∨ (v = viF q ∧ k = 2)

/-- w is u with the marks of L, of the visit in block vb. -/
structure Vs (vb : Nat) (L : Mks) (u w : World) : Prop where
  os : w.os = u.os
  tape : w.tape = u.tape
  output : w.output = u.output
  size : w.heap.size = u.heap.size
  vis : w.heap[vb]? = some (.cells #[np L] 135 (0, 0))
  uvis : ∃ c, u.heap[vb]? = some (.cells c 135 (0, 0))
  blk : ∀ q, q ≠ vb → w.heap[q]? = marked L q u.heap[q]?
  nds : ∀ m ∈ L, (∃ o, u.heap[m.1]? = some o ∧ isNd o m.2.1) ∧ ∃ T x, m.2.2 = .iface T x
  nodup : (L.map (·.1)).Nodup

theorem isNd.cells {o : Obj} {k : Nat} (h : isNd o k) : ∃ c T, o = .cells c T (0, 0) ∧ T ≠ 135 ∧ T ≠ 88 ∧ c[k + 1]? = some .nilIface ∧ c[k + 2]? = some (.pointer none) ∧ 1 ≤ k := by
  rcases h with ⟨n, x, rfl, rfl⟩ | ⟨n, x, y, rfl, rfl⟩ | ⟨n, x, y, rfl, rfl⟩ <;> exact ⟨_, _, rfl, by decide, by decide, rfl, rfl, by decide⟩
theorem Vs.ne {vb : Nat} {L : Mks} {u w : World} (h : Vs vb L u w) {q k : Nat} {o : Obj} (hq : u.heap[q]? = some o) (hn : isNd o k) : q ≠ vb := by
  rintro rfl
  obtain ⟨c, hc⟩ := h.uvis
  obtain ⟨c', T, rfl, hT, _⟩ := hn.cells
  rw [hc] at hq
  simp at hq
  exact hT hq.2.symm
theorem marked_not {L : Mks} {q : Nat} {o : Option Obj} : q ∉ L.map (·.1) → marked L q o = o := by
  induction L with
  | nil => intro _; rfl
  | cons m r ih =>
    intro h
    obtain ⟨p, k, f⟩ := m
    simp only [List.map_cons, List.mem_cons, not_or] at h
    rw [marked, if_neg h.1]
    exact ih h.2
theorem fnd_not {L : Mks} {q : Nat} : q ∉ L.map (·.1) → fnd L q = .nilIface := by
  induction L with
  | nil => intro _; rfl
  | cons m r ih =>
    intro h
    obtain ⟨p, k, f⟩ := m
    simp only [List.map_cons, List.mem_cons, not_or] at h
    rw [fnd, if_neg h.1]
    exact ih h.2
theorem fnd_in {L : Mks} {q : Nat} : q ∈ L.map (·.1) → ∃ k, (q, k, fnd L q) ∈ L := by
  induction L with
  | nil => intro h; simp at h
  | cons m r ih =>
    intro h
    obtain ⟨p, k, f⟩ := m
    by_cases e : q = p
    · subst e; exact ⟨k, by simp [fnd]⟩
    · simp only [List.map_cons, List.mem_cons, e, false_or] at h
      obtain ⟨k', hk⟩ := ih h
      refine ⟨k', ?_⟩
      rw [fnd, if_neg e]
      exact List.mem_cons_of_mem _ hk

/-- How a block that is marked lies. -/
theorem marked_cells {L : Mks} {q k : Nat} {c : Array Value} {T : TypeId} (hk : ∀ m ∈ L, m.1 = q → m.2.1 = k) (h1 : c[k + 1]? = some .nilIface) (h2 : c[k + 2]? = some (.pointer none)) :
    ∃ c', marked L q (some (.cells c T (0, 0))) = some (.cells c' T (0, 0)) ∧ (∀ j, j ≤ k → c'[j]? = c[j]?) ∧ c'[k + 1]? = some (fnd L q) ∧ ∃ n, c'[k + 2]? = some n := by
  induction L with
  | nil => exact ⟨c, rfl, fun _ _ => rfl, h1, _, h2⟩
  | cons m r ih =>
    obtain ⟨p, k', f⟩ := m
    by_cases e : q = p
    · subst e
      obtain rfl : k' = k := hk (q, k', f) List.mem_cons_self rfl
      have s1 := (Array.getElem?_eq_some_iff.1 h1).1
      have s2 := (Array.getElem?_eq_some_iff.1 h2).1
      refine ⟨_, by rw [marked, if_pos rfl]; rfl, ?_, ?_, np r, ?_⟩
      · intro j hj
        rw [Array.getElem?_setIfInBounds_ne (by omega), Array.getElem?_setIfInBounds_ne (by omega)]
      · rw [Array.getElem?_setIfInBounds_ne (by omega), fnd, if_pos rfl]
        simp [s1]
      · simp [s2]
    · rw [marked, if_neg e, fnd, if_neg e]
      exact ih (fun m hm => hk m (List.mem_cons_of_mem _ hm))

theorem isNd.one {o : Obj} {k k' : Nat} (h : isNd o k) (h' : isNd o k') : k = k' := by
  rcases h with ⟨n, x, rfl, rfl⟩ | ⟨n, x, y, rfl, rfl⟩ | ⟨n, x, y, rfl, rfl⟩ <;> rcases h' with ⟨n, x, e, rfl⟩ | ⟨n, x, y, e, rfl⟩ | ⟨n, x, y, e, rfl⟩ <;> simp at e ⊢

theorem Vs.at_node {vb : Nat} {L : Mks} {u w : World} (h : Vs vb L u w) {q k : Nat} {o : Obj} (hq : u.heap[q]? = some o) (hn : isNd o k) :
    ∃ c T c', o = .cells c T (0, 0) ∧ w.heap[q]? = some (.cells c' T (0, 0)) ∧ (∀ j, j ≤ k → c'[j]? = c[j]?) ∧ c'[k + 1]? = some (fnd L q) ∧ ∃ n, c'[k + 2]? = some n := by
  obtain ⟨c, T, rfl, _, _, h1, h2, _⟩ := hn.cells
  obtain ⟨c', e1, e2, e3, e4⟩ := marked_cells (L := L) (q := q) (k := k) (T := T) (c := c) (fun m hm e => by
    obtain ⟨⟨o, ho, hno⟩, _⟩ := h.nds m hm
    rw [e, hq] at ho
    obtain rfl := Option.some.inj ho
    exact hno.one hn) h1 h2
  exact ⟨c, T, c', rfl, by rw [h.blk q (h.ne hq hn), hq]; exact e1, e2, e3, e4⟩

theorem Vs.found {vb : Nat} {L : Mks} {u w : World} (h : Vs vb L u w) {q k : Nat} {o : Obj} (hq : u.heap[q]? = some o) (hn : isNd o k) : w.cell? ⟨q, k + 1, none⟩ = some (fnd L q) := by
  obtain ⟨c, T, c', rfl, hw, _, e, _⟩ := h.at_node hq hn
  rw [Lib.cell_of_heap hw]; exact e
/-- The parts stand as they stood. -/
theorem Vs.part {vb : Nat} {L : Mks} {u w : World} (h : Vs vb L u w) {q k j : Nat} {c : Array Value} {T : TypeId} {v : Value} (hq : u.heap[q]? = some (.cells c T (0, 0))) (hn : isNd (.cells c T (0, 0)) k) (hj : j ≤ k) (hv : c[j]? = some v) : w.cell? ⟨q, j, none⟩ = some v := by
  obtain ⟨c1, T1, c', e, hw, e1, _⟩ := h.at_node hq hn
  simp at e
  obtain ⟨rfl, rfl⟩ := e
  rw [Lib.cell_of_heap hw]; exact (e1 j hj).trans hv
theorem Vs.last {vb : Nat} {L : Mks} {u w : World} (h : Vs vb L u w) : w.cell? ⟨vb, 0, none⟩ = some (np L) := by rw [Lib.cell_of_heap h.vis]; rfl
theorem Vs.drewN {vb : Nat} {L : Mks} {u w : World} (h : Vs vb L u w) (n : Nat) : Vs vb L u (w.drewN n) := ⟨h.os, h.tape, h.output, h.size, h.vis, h.uvis, h.blk, h.nds, h.nodup⟩

theorem Vs.drew {vb : Nat} {L : Mks} {u w : World} (h : Vs vb L u w) : Vs vb L u w.drew := ⟨h.os, h.tape, h.output, h.size, h.vis, h.uvis, h.blk, h.nds, h.nodup⟩

theorem marked_none {L : Mks} {q : Nat} : marked L q none = none := by
  induction L with
  | nil => rfl
  | cons m r ih => obtain ⟨p, k, f⟩ := m; rw [marked]; split <;> first | rfl | exact ih
theorem Vs.alloc {vb : Nat} {L : Mks} {u w : World} (h : Vs vb L u w) (o : Obj) : Vs vb L (u.alloc o) (w.alloc o) := by
  have hlt : vb < w.heap.size := (Array.getElem?_eq_some_iff.1 h.vis).1
  have hlu : vb < u.heap.size := by rw [← h.size]; exact hlt
  refine ⟨h.os, h.tape, h.output, by simp [h.size], (Below.heap_alloc _ _ _ hlt).trans h.vis, ?_, ?_, ?_, h.nodup⟩
  · obtain ⟨c, hc⟩ := h.uvis
    exact ⟨c, (Below.heap_alloc _ _ _ hlu).trans hc⟩
  · intro q hq
    by_cases e : q < u.heap.size
    · rw [Below.heap_alloc _ _ _ (by rw [h.size]; exact e), Below.heap_alloc _ _ _ e]; exact h.blk q hq
    · have hnot : q ∉ L.map (·.1) := by
        intro hm
        obtain ⟨m, hm', rfl⟩ := List.mem_map.1 hm
        obtain ⟨⟨o, ho, _⟩, _⟩ := h.nds m hm'
        exact e (Array.getElem?_eq_some_iff.1 ho).1
      rw [marked_not hnot]
      by_cases e2 : q = u.heap.size
      · subst e2
        have := heap_alloc_new w o
        rw [h.size] at this
        rw [this, heap_alloc_new u o]
      · rw [Array.getElem?_eq_none (by simp [h.size]; omega), Array.getElem?_eq_none (by simp; omega)]
  · intro m hm
    obtain ⟨⟨o', ho, hn⟩, hx⟩ := h.nds m hm
    exact ⟨⟨o', (Below.heap_alloc _ _ _ (Array.getElem?_eq_some_iff.1 ho).1).trans ho, hn⟩, hx⟩

/-- One more mark. -/
theorem Vs.mark {vb : Nat} {L : Mks} {u w : World} (h : Vs vb L u w) {q k : Nat} {o : Obj} (hq : u.heap[q]? = some o) (hn : isNd o k) (hnot : q ∉ L.map (·.1)) (T : TypeId) (x : Value) :
    Vs vb ((q, k, .iface T x) :: L) u (((w.setCell ⟨q, k + 2, none⟩ (np L)).setCell ⟨vb, 0, none⟩ (.pointer (some ⟨q, k, none⟩))).setCell ⟨q, k + 1, none⟩ (.iface T x)) := by
  have hne := h.ne hq hn
  obtain ⟨c, T', rfl, _, _, e1, e2, _⟩ := hn.cells
  have hw : w.heap[q]? = some (.cells c T' (0, 0)) := by rw [h.blk q hne, hq, marked_not hnot]
  refine ⟨h.os, h.tape, h.output, by simp [World.setCell, h.size], ?_, h.uvis, ?_, ?_, ?_⟩
  · rw [Below.heap_setCell _ _ _ _ (by show ¬ _; simp; omega)]
    have hv : (w.setCell ⟨q, k + 2, none⟩ (np L)).heap[vb]? = some (.cells #[np L] 135 (0, 0)) := by
      rw [Below.heap_setCell _ _ _ _ (by show ¬ _; simp; omega)]; exact h.vis
    simp [World.setCell, Array.getElem?_modify] at hv ⊢
    rw [hv]
    simp [np]
  · intro p hp
    by_cases e : p = q
    · subst e
      rw [marked, if_pos rfl, hq]
      simp [World.setCell, Array.getElem?_modify, hw, mkd, hne, Ne.symm hne]
      rw [Array.setIfInBounds_comm _ _ (by omega)]
    · rw [marked, if_neg e, Below.heap_setCell _ _ _ _ (by show ¬ _; simp; omega), Below.heap_setCell _ _ _ _ (by show ¬ _; simp; omega), Below.heap_setCell _ _ _ _ (by show ¬ _; simp; omega)]
      exact h.blk p hp
  · intro m hm
    rcases List.mem_cons.1 hm with rfl | hm
    · exact ⟨⟨_, hq, hn⟩, T, x, rfl⟩
    · exact h.nds m hm
  · simp only [List.map_cons, List.nodup_cons]
    exact ⟨hnot, h.nodup⟩

def upd (q : Nat) (f : Value) : Mks → Mks
  | [] => []
  | (p, k, g) :: r => if q = p then (p, k, f) :: r else (p, k, g) :: upd q f r
theorem upd_np (q : Nat) (f : Value) (L : Mks) : np (upd q f L) = np L := by
  cases L with
  | nil => rfl
  | cons m r => obtain ⟨p, k, g⟩ := m; rw [upd]; split <;> rfl
theorem upd_map (q : Nat) (f : Value) (L : Mks) : (upd q f L).map (·.1) = L.map (·.1) := by
  induction L with
  | nil => rfl
  | cons m r ih => obtain ⟨p, k, g⟩ := m; rw [upd]; split <;> simp [ih]
theorem upd_mem {q : Nat} {f : Value} {L : Mks} {m : Nat × Nat × Value} (h : m ∈ upd q f L) : m ∈ L ∨ (m.1 = q ∧ m.2.2 = f ∧ ∃ g, (m.1, m.2.1, g) ∈ L) := by
  induction L with
  | nil => cases h
  | cons m' r ih =>
    obtain ⟨p, k, g⟩ := m'
    rw [upd] at h
    split at h
    · rename_i e
      rcases List.mem_cons.1 h with rfl | h
      · exact .inr ⟨e.symm, rfl, g, List.mem_cons_self⟩
      · exact .inl (List.mem_cons_of_mem _ h)
    · rcases List.mem_cons.1 h with rfl | h
      · exact .inl List.mem_cons_self
      · rcases ih h with h | ⟨e1, e2, g', hg⟩
        · exact .inl (List.mem_cons_of_mem _ h)
        · exact .inr ⟨e1, e2, g', List.mem_cons_of_mem _ hg⟩
theorem marked_upd {q k : Nat} {f : Value} {L : Mks} (hk : ∀ m ∈ L, m.1 = q → m.2.1 = k) (hin : q ∈ L.map (·.1)) (c : Array Value) (T : TypeId) (hs : k + 2 < c.size) :
    ∃ c', marked L q (some (.cells c T (0, 0))) = some (.cells c' T (0, 0)) ∧ marked (upd q f L) q (some (.cells c T (0, 0))) = some (.cells (c'.setIfInBounds (k + 1) f) T (0, 0)) := by
  induction L with
  | nil => simp at hin
  | cons m r ih =>
    obtain ⟨p, k', g⟩ := m
    by_cases e : q = p
    · subst e
      obtain rfl : k' = k := hk (q, k', g) List.mem_cons_self rfl
      refine ⟨_, by rw [marked, if_pos rfl]; rfl, ?_⟩
      rw [upd, if_pos rfl, marked, if_pos rfl]
      simp only [Option.map_some, mkd, Option.some.injEq, Obj.cells.injEq, and_true]
      apply Array.ext_getElem?
      intro j
      simp only [Array.getElem?_setIfInBounds, Array.size_setIfInBounds]
      by_cases j1 : k' + 1 = j
      · have j2 : ¬ k' + 2 = j := by omega
        simp [j1, j2]
      · simp [j1]
    · simp only [List.map_cons, List.mem_cons, e, false_or] at hin
      rw [upd, if_neg e, marked, if_neg e, marked, if_neg e]
      exact ih (fun m hm => hk m (List.mem_cons_of_mem _ hm)) hin
theorem marked_upd_ne {q p : Nat} {f : Value} {L : Mks} {o : Option Obj} (e : p ≠ q) : marked (upd q f L) p o = marked L p o := by
  induction L with
  | nil => rfl
  | cons m r ih =>
    obtain ⟨p', k', g⟩ := m
    rw [upd]
    split
    · rename_i e1
      subst e1
      rw [marked, marked, if_neg e, if_neg e]
    · rw [marked, marked]
      split
      · rw [upd_np]
      · exact ih
/-- Another thing found at a mark. -/
theorem Vs.remark {vb : Nat} {L : Mks} {u w : World} (h : Vs vb L u w) {q k : Nat} {o : Obj} (hq : u.heap[q]? = some o) (hn : isNd o k) (hin : q ∈ L.map (·.1)) (T : TypeId) (x : Value) :
    Vs vb (upd q (.iface T x) L) u (w.setCell ⟨q, k + 1, none⟩ (.iface T x)) := by
  have hne := h.ne hq hn
  have hk : ∀ m ∈ L, m.1 = q → m.2.1 = k := fun m hm e => by
    obtain ⟨⟨o, ho, hno⟩, _⟩ := h.nds m hm
    rw [e, hq] at ho
    obtain rfl := Option.some.inj ho
    exact hno.one hn
  obtain ⟨c, T', rfl, _, _, e1, e2, _⟩ := hn.cells
  obtain ⟨c', m1, m2⟩ := marked_upd (f := .iface T x) hk hin c T' (Array.getElem?_eq_some_iff.1 e2).1
  have hw : w.heap[q]? = some (.cells c' T' (0, 0)) := by rw [h.blk q hne, hq, m1]
  refine ⟨h.os, h.tape, h.output, by simp [World.setCell, h.size], ?_, h.uvis, ?_, ?_, by rw [upd_map]; exact h.nodup⟩
  · rw [Below.heap_setCell _ _ _ _ (by show ¬ _; simp; omega), upd_np]; exact h.vis
  · intro p hp
    by_cases e : p = q
    · subst e
      rw [hq, m2]
      simp [World.setCell, Array.getElem?_modify, hw]
    · rw [marked_upd_ne e, Below.heap_setCell _ _ _ _ (by show ¬ _; simp; omega)]
      exact h.blk p hp
  · intro m hm
    rcases upd_mem hm with hm | ⟨e1, e2, g, hg⟩
    · exact h.nds m hm
    · exact ⟨(h.nds _ hg).1, T, x, e2⟩
end Go.Proofs.YtceadeaodbadlaaDoor
