import Derived.Test.YtceadeaodbadlaaGreatDoorMade
import Derived.Laws.Rows
set_option linter.unusedVariables false
set_option linter.unusedSimpArgs false
namespace Go.Proofs.YtceadeaodbadlaaGreatDoor
open Go.RowKit

theorem sizeNode (a b c : Value) : (Tryz.prog.info? 250).map (·.size) = some (#[a, b, c]).size := by kernel_rfl
theorem ret_node {fn : Func} {p : Tmp} (h : fn.results = #[.cell p 250]) {tmps : Array Value} {w : World} {g : Nat} {a b c : Value} {Q : Ending → World → Prop}
    (hp : tmps.getD p undef = .pointer (some ⟨g, 0, none⟩)) (hg : w.heap[g]? = some (.cells #[a, b, c] 250 (0, 0))) (hq : Q (.returned (.agg #[a, b, c])) w) : bodyPost Tryz.prog fn Q Exit.ret { tmps := tmps, defers := [] } w :=
  bodyPost_ret (results_cell_row h tmps w g 250 #[a, b, c] (0, 0) _ hp hg Tryz.underlying250 rfl (sizeNode a b c)) rfl hq

set_option maxHeartbeats 1000000 in
set_option maxRecDepth 100000 in
theorem above_one (a : Ty) (x : Value) (g n : Nat) (w : World) (hx : w.cell? ⟨g, 0, none⟩ = some x) (ha : Ok a) (h : Tv w a x) (hn : sz a = n) (hs : n ≤ 4000000000000000000) :
    Calls Tryz.prog 194 #[.slice (some ⟨g, 0, none⟩) 1 1] w fun e w' => e = .returned (.agg #[.int .i64 ((n + 1 : Nat) : Int), .nilIface, .pointer none]) ∧ Below w.heap.size w w' := by
  have hg := World.block_lt_of_cell? w _ hx
  have hn1 : ((n + 1 : Nat) : Int) = 1 + (n : Int) := by omega
  rw [hn1]
  have h1 : Tv (w.alloc (.cells #[.int .i64 0, .nilIface, .pointer none] 250)) a x := h.below ((Below.refl _ w).alloc (Nat.le_refl _) _)
  have hx1 : (w.alloc (.cells #[.int .i64 0, .nilIface, .pointer none] 250)).cell? ⟨g, 0, none⟩ = some x := by rw [World.cell?_alloc_lt _ _ _ hg]; exact hx
  have N := nodes_any a x _ ha h1
  rw [hn] at N
  obtain ⟨T, x', rfl⟩ := h.iface
  clear h h1 ha hx hn
  go_enter Tryz.func194, Tryz.ntmps194
  go_wp2_with fail
  refine wp_loop_rounds 2 ?_
  rw [rounds_succ]
  go_wp2_with fail
  refine N.mono ?_
  rintro e w' ⟨rfl, rfl⟩
  go_wp2_with fail
  rw [rounds_succ]
  go_wp2_with fail
  refine ret_node rfl rfl (heap_alloc_new w _) ?_
  exact ⟨rfl, (Below.refl _ w).alloc (Nat.le_refl _) _⟩

set_option maxHeartbeats 1000000 in
set_option maxRecDepth 100000 in
theorem above_two (a b : Ty) (x y : Value) (g n m : Nat) (w : World) (hx : w.cell? ⟨g, 0, none⟩ = some x) (hy : w.cell? ⟨g, 1, none⟩ = some y) (ha : Ok a) (h : Tv w a x) (hb : Ok b) (h' : Tv w b y) (hn : sz a = n) (hm : sz b = m) (hs : n + m ≤ 4000000000000000000) :
    Calls Tryz.prog 194 #[.slice (some ⟨g, 0, none⟩) 2 2] w fun e w' => e = .returned (.agg #[.int .i64 ((n + m + 1 : Nat) : Int), .nilIface, .pointer none]) ∧ Below w.heap.size w w' := by
  have hg := World.block_lt_of_cell? w _ hx
  have hn1 : ((n + m + 1 : Nat) : Int) = 1 + (n : Int) + (m : Int) := by omega
  rw [hn1]
  have h1 : Tv (w.alloc (.cells #[.int .i64 0, .nilIface, .pointer none] 250)) a x := h.below ((Below.refl _ w).alloc (Nat.le_refl _) _)
  have h2 : Tv (w.alloc (.cells #[.int .i64 0, .nilIface, .pointer none] 250)) b y := h'.below ((Below.refl _ w).alloc (Nat.le_refl _) _)
  have hx1 : (w.alloc (.cells #[.int .i64 0, .nilIface, .pointer none] 250)).cell? ⟨g, 0, none⟩ = some x := by rw [World.cell?_alloc_lt _ _ _ hg]; exact hx
  have hy1 : (w.alloc (.cells #[.int .i64 0, .nilIface, .pointer none] 250)).cell? ⟨g, 1, none⟩ = some y := by rw [World.cell?_alloc_lt _ _ ⟨g, 1, none⟩ hg]; exact hy
  have N := nodes_any a x _ ha h1
  have M := nodes_any b y _ hb h2
  rw [hn] at N
  rw [hm] at M
  obtain ⟨T, x', rfl⟩ := h.iface
  obtain ⟨T', y', rfl⟩ := h'.iface
  clear h h1 h' h2 ha hb hx hy hn hm
  go_enter Tryz.func194, Tryz.ntmps194
  go_wp2_with fail
  refine wp_loop_rounds 3 ?_
  rw [rounds_succ]
  go_wp2_with fail
  refine N.mono ?_
  rintro e w' ⟨rfl, rfl⟩
  go_wp2_with fail
  rw [rounds_succ]
  go_wp2_with fail
  refine M.mono ?_
  rintro e w' ⟨rfl, rfl⟩
  go_wp2_with fail
  rw [rounds_succ]
  go_wp2_with fail
  refine ret_node rfl rfl (heap_alloc_new w _) ?_
  exact ⟨rfl, (Below.refl _ w).alloc (Nat.le_refl _) _⟩

/-- A type that was made of another one. -/
theorem Tv.newL {w w' : World} {a : Ty} {x : Value} (h : Tv w a x) (hb : Below w.heap.size w w') : Tv (w'.alloc (obL (sz (tL a)) x)) (tL a) (viL w'.heap.size) :=
  Tv.L (heap_alloc_new w' _) ((h.below hb).below ((Below.refl _ w').alloc (Nat.le_refl _) _))
theorem Tv.newP {w w' : World} {a b : Ty} {x y : Value} (h : Tv w a x) (h' : Tv w b y) (hb : Below w.heap.size w w') : Tv (w'.alloc (obP (sz (tP a b)) x y)) (tP a b) (viP w'.heap.size) :=
  Tv.P (heap_alloc_new w' _) ((h.below hb).below ((Below.refl _ w').alloc (Nat.le_refl _) _)) ((h'.below hb).below ((Below.refl _ w').alloc (Nat.le_refl _) _))
theorem Tv.newF {w w' : World} {a b : Ty} {x y : Value} (h : Tv w a x) (h' : Tv w b y) (hb : Below w.heap.size w w') : Tv (w'.alloc (obF (sz (tF a b)) x y)) (tF a b) (viF w'.heap.size) :=
  Tv.F (heap_alloc_new w' _) ((h.below hb).below ((Below.refl _ w').alloc (Nat.le_refl _) _)) ((h'.below hb).below ((Below.refl _ w').alloc (Nat.le_refl _) _))

set_option maxHeartbeats 1000000 in
theorem newList_any (a : Ty) (x : Value) (w : World) (ha : Ok a) (h : Tv w a x) (hs : sz a ≤ 4000000000000000000) :
    Calls Tryz.prog 230 #[x] w fun e w' => ∃ q, e = .returned (.pointer (some ⟨q, 0, none⟩)) ∧ Tv w' (tL a) (viL q) ∧ Below w.heap.size w w' := by
  have b1 : Below w.heap.size w (w.alloc (.cells #[x] 94)) := (Below.refl _ w).alloc (Nat.le_refl _) _
  have A := above_one a x w.heap.size (sz a) _ (by simp) ha (h.below b1) rfl hs
  have e1 : sz (tL a) = sz a + 1 := by simp [sz]
  have N := fun w' => @Tv.newL w w' a x h
  rw [e1] at N
  obtain ⟨T, x', rfl⟩ := h.iface
  clear h
  generalize sz a = n at *
  go_enter Tryz.func230, Tryz.ntmps230
  go_wp2_with fail
  refine A.mono ?_
  rintro e w1 ⟨rfl, hb⟩
  have b2 : Below w.heap.size w w1 := b1.trans (hb.mono (by simp))
  have N1 := N w1 b2
  go_wp2_with fail
  go_ret
  exact ⟨_, rfl, N1, b2.alloc b2.size _⟩

set_option maxHeartbeats 1000000 in
theorem newPair_any (a b : Ty) (x y : Value) (w : World) (ha : Ok a) (h : Tv w a x) (hb : Ok b) (h' : Tv w b y) (hs : sz a + sz b ≤ 4000000000000000000) :
    Calls Tryz.prog 209 #[x, y] w fun e w' => ∃ q, e = .returned (.pointer (some ⟨q, 0, none⟩)) ∧ Tv w' (tP a b) (viP q) ∧ Below w.heap.size w w' := by
  have b1 : Below w.heap.size w (w.alloc (.cells #[x, y] 94)) := (Below.refl _ w).alloc (Nat.le_refl _) _
  have A := above_two a b x y w.heap.size (sz a) (sz b) _ (by simp) (by simp) ha (h.below b1) hb (h'.below b1) rfl rfl hs
  have e1 : sz (tP a b) = sz a + sz b + 1 := rfl
  have N := fun w' => @Tv.newP w w' a b x y h h'
  rw [e1] at N
  obtain ⟨T, x', rfl⟩ := h.iface
  obtain ⟨T', y', rfl⟩ := h'.iface
  clear h h'
  generalize sz a = n at *
  generalize sz b = m at *
  go_enter Tryz.func209, Tryz.ntmps209
  go_wp2_with fail
  refine A.mono ?_
  rintro e w1 ⟨rfl, hb⟩
  have b2 : Below w.heap.size w w1 := b1.trans (hb.mono (by simp))
  have N1 := N w1 b2
  go_wp2_with fail
  go_ret
  exact ⟨_, rfl, N1, b2.alloc b2.size _⟩

set_option maxHeartbeats 1000000 in
theorem newFunction_any (a b : Ty) (x y : Value) (w : World) (ha : Ok a) (h : Tv w a x) (hb : Ok b) (h' : Tv w b y) (hs : sz a + sz b ≤ 4000000000000000000) :
    Calls Tryz.prog 160 #[x, y] w fun e w' => ∃ q, e = .returned (.pointer (some ⟨q, 0, none⟩)) ∧ Tv w' (tF a b) (viF q) ∧ Below w.heap.size w w' := by
  have b1 : Below w.heap.size w (w.alloc (.cells #[x, y] 94)) := (Below.refl _ w).alloc (Nat.le_refl _) _
  have A := above_two a b x y w.heap.size (sz a) (sz b) _ (by simp) (by simp) ha (h.below b1) hb (h'.below b1) rfl rfl hs
  have e1 : sz (tF a b) = sz a + sz b + 1 := rfl
  have N := fun w' => @Tv.newF w w' a b x y h h'
  rw [e1] at N
  obtain ⟨T, x', rfl⟩ := h.iface
  obtain ⟨T', y', rfl⟩ := h'.iface
  clear h h'
  generalize sz a = n at *
  generalize sz b = m at *
  go_enter Tryz.func160, Tryz.ntmps160
  go_wp2_with fail
  refine A.mono ?_
  rintro e w1 ⟨rfl, hb⟩
  have b2 : Below w.heap.size w w1 := b1.trans (hb.mono (by simp))
  have N1 := N w1 b2
  go_wp2_with fail
  go_ret
  exact ⟨_, rfl, N1, b2.alloc b2.size _⟩
end Go.Proofs.YtceadeaodbadlaaGreatDoor
