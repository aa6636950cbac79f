import Derived.Test.YtceadeaodbadlaaGreatDoorRef2
import Derived.Deep.RegionLaw
import Derived.Deep.AppendLies
set_option linter.unusedVariables false
set_option linter.unusedSimpArgs false
namespace Go.Proofs.YtceadeaodbadlaaGreatDoor
open Go.RowKit

theorem infoTerm : (Tryz.prog.info? 76).map (fun i => (i.zero, i.size, i.bytes)) = some (some (.agg #[.int .u8 0, .int .u8 0, .int .i64 0, .int .i64 0, .slice none 0 0, .slice none 0 0, .slice none 0 0, .int .i64 0, .int .i64 0]), 9, 112) := by kernel_rfl

theorem add_kept {w w1 : World} {A A' : Obj} {row : Option Nat} (hg : ((w.alloc A).alloc A').drew.grownBy w1 row) {b : Nat} {o : Obj} (hb : w.heap[b]? = some o) (hne : row ≠ some b) : w1.heap[b]? = some o := by
  have hlt : b < w.heap.size := (Array.getElem?_eq_some_iff.1 hb).1
  rw [hg.block b (by show b < ((w.alloc A).alloc A').heap.size; simp; omega) (Ne.symm hne)]
  show ((w.alloc A).alloc A').heap[b]? = some o
  rw [Below.heap_alloc _ _ _ (by simp; omega), Below.heap_alloc _ _ _ hlt]; exact hb
theorem cell_at {w : World} {b j : Nat} {cs : Array Value} {T : TypeId} {fz : Nat × Nat} (hb : w.heap[b]? = some (.cells cs T fz)) : w.cell? ⟨b, j, none⟩ = cs[j]? := by simp [World.cell?, hb]
theorem free_at {w : World} {b j : Nat} {cs : Array Value} {T : TypeId} (hb : w.heap[b]? = some (.cells cs T (0, 0))) : w.frozen? ⟨b, j, none⟩ = false := by simp [World.frozen?, hb]

theorem add_state {b : Nat} {s : ByteArray} {i : Nat} {bad : Int} {ts : List Tm} {v : Value} {w w1 : World} {t : Tm} {A A' : Obj} {gg cap : Nat} (h : StV b s i bad ts v w)
    (hown1 : w1.ownsRow b 76 9 (.slice (some ⟨gg, 0, none⟩) (ts.length + 1) cap) (ts.length + 1) (flat ts ++ t.cells)) (hgrow : ((w.alloc A).alloc A').drew.grownBy w1 v.ownBlock) (hat : v.ownBlock = some gg ∨ gg = w.heap.size + 2) :
    St b s i bad (ts ++ [t]) (w1.setCell ⟨b, 4, none⟩ (.slice (some ⟨gg, 0, none⟩) (ts.length + 1) cap)) ∧ Fr b w (w1.setCell ⟨b, 4, none⟩ (.slice (some ⟨gg, 0, none⟩) (ts.length + 1) cap)) := by
  have hlt : b < w.heap.size := (Array.getElem?_eq_some_iff.1 h.1).1
  have hb1 := add_kept hgrow h.1 h.2.2
  have hgb : gg ≠ b := by
    rcases hat with e | e
    · intro e'; exact h.2.2 (by rw [e, e'])
    · omega
  have hst : StV b s i bad (ts ++ [t]) (.slice (some ⟨gg, 0, none⟩) (ts.length + 1) cap) (w1.setCell ⟨b, 4, none⟩ (.slice (some ⟨gg, 0, none⟩) (ts.length + 1) cap)) := by
    refine ⟨?_, ?_, by simp [Value.ownBlock, hgb]⟩
    · simp [World.setCell, Array.getElem?_modify, hb1]
    · have e1 : flat (ts ++ [t]) = flat ts ++ t.cells := by rw [flat_append]; simp [flat]
      rw [e1, List.length_append]
      exact hown1.kept (grown_set w1 b 4 _) (.inr (by simp [Value.ownBlock, hgb]))
  refine ⟨⟨_, hst⟩, hgrow.os, hgrow.tape, hgrow.output, ?_, fun k hk hkb hkr => ?_, ?_⟩
  · have := hgrow.size
    have e : ((w.alloc A).alloc A').drew.heap.size = w.heap.size + 2 := by show ((w.alloc A).alloc A').heap.size = _; simp
    simp only [World.setCell, Array.size_modify]
    omega
  · rw [Below.heap_setCell _ _ _ _ hkb]
    rw [h.row] at hkr
    rw [hgrow.block k (by show k < ((w.alloc A).alloc A').heap.size; simp; omega) hkr]
    show ((w.alloc A).alloc A').heap[k]? = _
    rw [Below.heap_alloc _ _ _ (by simp; omega), Below.heap_alloc _ _ _ hk]
  · rw [hst.row, h.row]
    rcases hat with e | e
    · exact .inl e.symm
    · exact .inr ⟨gg, rfl, by omega⟩

set_option maxRecDepth 100000 in
set_option maxHeartbeats 3200000 in
theorem radd_raw (b : Nat) (s : ByteArray) (i : Nat) (bad : Int) (ts : List Tm) (v : Value) (w : World) (t : Tm) (h : StV b s i bad ts v w) (hn : ts.length ≤ 1000) :
    Calls Tryz.prog 73 #[.pointer (some ⟨b, 0, none⟩), .agg #[.int .u8 (t.op : Int), .int .u8 (t.c : Int), .int .i64 (t.a : Int), .int .i64 (t.b : Int), .slice none 0 0, .slice none 0 0, .slice none 0 0, .int .i64 (t.at' : Int), .int .i64 (t.to : Int)]] w
      fun e w' => e = .returned (.int .i64 (ts.length : Int)) ∧ St b s i bad (ts ++ [t]) w' ∧ Fr b w w' := by
  obtain ⟨i0, hi0, hz0, hz1, hz2⟩ := info_parts infoTerm
  obtain ⟨op, c, ta, tb, tat, tto⟩ := t
  have c4 : w.cell? ⟨b, 4, none⟩ = some v := by rw [h.cell 4]; rfl
  have lg := World.block_lt_of_cell? w _ c4
  have hown := h.2.1
  have hne := h.2.2
  have hnb : ((w.alloc (.cells #[.int .u8 (op : Int), .int .u8 (c : Int), .int .i64 (ta : Int), .int .i64 (tb : Int), .slice none 0 0, .slice none 0 0, .slice none 0 0, .int .i64 (tat : Int), .int .i64 (tto : Int)] 76)).alloc (.cells #[.int .u8 (op : Int), .int .u8 (c : Int), .int .i64 (ta : Int), .int .i64 (tb : Int), .slice none 0 0, .slice none 0 0, .slice none 0 0, .int .i64 (tat : Int), .int .i64 (tto : Int)] 76)).drew.heap[w.heap.size + 1]? = some (.cells #[.int .u8 (op : Int), .int .u8 (c : Int), .int .i64 (ta : Int), .int .i64 (tb : Int), .slice none 0 0, .slice none 0 0, .slice none 0 0, .int .i64 (tat : Int), .int .i64 (tto : Int)] 76 (0, 0)) := by
    have e1 : (w.alloc (.cells #[.int .u8 (op : Int), .int .u8 (c : Int), .int .i64 (ta : Int), .int .i64 (tb : Int), .slice none 0 0, .slice none 0 0, .slice none 0 0, .int .i64 (tat : Int), .int .i64 (tto : Int)] 76)).heap.size = w.heap.size + 1 := by simp
    rw [← e1]
    exact heap_alloc_new (w.alloc (.cells #[.int .u8 (op : Int), .int .u8 (c : Int), .int .i64 (ta : Int), .int .i64 (tb : Int), .slice none 0 0, .slice none 0 0, .slice none 0 0, .int .i64 (tat : Int), .int .i64 (tto : Int)] 76)) (.cells #[.int .u8 (op : Int), .int .u8 (c : Int), .int .i64 (ta : Int), .int .i64 (tb : Int), .slice none 0 0, .slice none 0 0, .slice none 0 0, .int .i64 (tat : Int), .int .i64 (tto : Int)] 76)
  have hnews := World.news_of_block hnb
  have HN : Hid (∀ j u, (Tm.cells ⟨op, c, ta, tb, tat, tto⟩)[j]? = some u → ((w.alloc (.cells #[.int .u8 (op : Int), .int .u8 (c : Int), .int .i64 (ta : Int), .int .i64 (tb : Int), .slice none 0 0, .slice none 0 0, .slice none 0 0, .int .i64 (tat : Int), .int .i64 (tto : Int)] 76)).alloc (.cells #[.int .u8 (op : Int), .int .u8 (c : Int), .int .i64 (ta : Int), .int .i64 (tb : Int), .slice none 0 0, .slice none 0 0, .slice none 0 0, .int .i64 (tat : Int), .int .i64 (tto : Int)] 76)).drew.cell? ((⟨w.heap.size + 1, 0, none⟩ : Addr).add j) = some u) := hnews
  clear hnb hnews
  go_enter Tryz.func73, Tryz.ntmps73
  go_wp2_with fail
  go_region_law ((refine step_append_lies _ (by rfl) _ _ _ (by rfl) b 76 i0 _ 9 112 Tryz.underlying43 hi0 hz0 hz1 hz2 rfl (by omega) v ts.length (flat ts) (by rfl) (((hown.alloc _).alloc _).drew) ⟨w.heap.size + 1, 0, none⟩ 1 1 (Tm.cells ⟨op, c, ta, tb, tat, tto⟩) (by rfl) (by rfl) HN.out (by simp [Value.oneCell', Tm.cells]) (by omega) (by unfold maxLen; omega) (by omega) (by simp; omega) (w.heap.size + 2) (by simp) ?_; intro gg cap w1 hown1 hgrow hat hlt; have k4 : w1.cell? ⟨b, 4, none⟩ = some v := (cell_at (add_kept hgrow h.1 hne)); have kf : w1.frozen? ⟨b, 4, none⟩ = false := free_at (add_kept hgrow h.1 hne)))
  all_goals
    go_wp2
    go_ret
    exact ⟨by simp, add_state h hown1 hgrow hat⟩

theorem radd_any (b : Nat) (s : ByteArray) (i : Nat) (bad : Int) (ts : List Tm) (w : World) (t : Tm) (h : St b s i bad ts w) (hn : ts.length ≤ 1000) :
    Calls Tryz.prog 73 #[.pointer (some ⟨b, 0, none⟩), .agg #[.int .u8 (t.op : Int), .int .u8 (t.c : Int), .int .i64 (t.a : Int), .int .i64 (t.b : Int), .slice none 0 0, .slice none 0 0, .slice none 0 0, .int .i64 (t.at' : Int), .int .i64 (t.to : Int)]] w
      fun e w' => e = .returned (.int .i64 (ts.length : Int)) ∧ St b s i bad (ts ++ [t]) w' ∧ Fr b w w' := by
  obtain ⟨v, h⟩ := h
  exact radd_raw b s i bad ts v w t h hn
end Go.Proofs.YtceadeaodbadlaaGreatDoor
