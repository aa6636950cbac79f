import Derived.Test.YtejcbbhengloiaaDoorAsserts2
set_option linter.unusedVariables false
set_option linter.unusedSimpArgs false
namespace Go.Proofs.YtejcbbhengloiaaDoor
open Go.RowKit

def SameAt (x y : Ty) : Prop := ∀ w : World, Calls Tryd.prog 75 #[.iface (tg x) (ag x), .iface (tg y) (ag y)] w fun e w' => e = .returned (.bool (eqT x y)) ∧ Below w.heap.size w w'

theorem cellA (w : World) (cs : Array Value) (t : TypeId) (o : Obj) (k : Nat) : ((w.alloc (.cells cs t)).alloc o).cell? ⟨w.heap.size, k, none⟩ = cs[k]? := by
  have h : ((w.alloc (.cells cs t)).alloc o).heap[w.heap.size]? = some (.cells cs t (0, 0)) := by
    rw [Below.heap_alloc _ _ _ (by simp)]; exact heap_alloc_new w _
  rw [Lib.cell_of_heap h]
theorem cellB (w : World) (o : Obj) (cs : Array Value) (t : TypeId) (k : Nat) : ((w.alloc o).alloc (.cells cs t)).cell? ⟨w.heap.size + 1, k, none⟩ = cs[k]? := by
  have h : ((w.alloc o).alloc (.cells cs t)).heap[w.heap.size + 1]? = some (.cells cs t (0, 0)) := by
    have := heap_alloc_new (w.alloc o) (.cells cs t)
    simpa using this
  rw [Lib.cell_of_heap h]
theorem below_two {w w' : World} {o o' : Obj} (h : Below ((w.alloc o).alloc o').heap.size ((w.alloc o).alloc o') w') : Below w.heap.size w w' :=
  (((Below.refl w.heap.size w).alloc (Nat.le_refl _) o).alloc (by simp) o').trans (h.mono (by simp; omega))
theorem below_one {w : World} {o o' : Obj} : Below w.heap.size w ((w.alloc o).alloc o') :=
  ((Below.refl w.heap.size w).alloc (Nat.le_refl _) o).alloc (by simp) o'

set_option maxRecDepth 100000 in
set_option maxHeartbeats 1000000 in
theorem same_Whole_miss (T : TypeId) (v : Value) (h : T ≠ 154) (w : World) : Calls Tryd.prog 75 #[.iface 154 (.agg #[]), .iface T v] w fun e w' => e = .returned (.bool false) ∧ Below w.heap.size w w' := by
  have z := fun w => tm_Whole v h w
  have a1 := th_Whole
  go_enter Tryd.func75, Tryd.ntmps75
  go_wp2_with fail
  go_ret
  exact ⟨rfl, below_one⟩

set_option maxRecDepth 100000 in
set_option maxHeartbeats 1000000 in
theorem same_Truth_miss (T : TypeId) (v : Value) (h : T ≠ 155) (w : World) : Calls Tryd.prog 75 #[.iface 155 (.agg #[]), .iface T v] w fun e w' => e = .returned (.bool false) ∧ Below w.heap.size w w' := by
  have z := fun w => tm_Truth v h w
  have a1 := fun v => tm_Whole (T := 155) v (by decide)
  have a2 := th_Truth
  go_enter Tryd.func75, Tryd.ntmps75
  go_wp2_with fail
  go_ret
  exact ⟨rfl, below_one⟩

set_option maxRecDepth 100000 in
set_option maxHeartbeats 1000000 in
theorem same_Variable_miss (l d : Int) (T : TypeId) (v : Value) (h : T ≠ 157) (w : World) : Calls Tryd.prog 75 #[.iface 157 (.agg #[.int .u8 l, .int .u8 d]), .iface T v] w fun e w' => e = .returned (.bool false) ∧ Below w.heap.size w w' := by
  have z := fun w => tm_Variable v h w
  have a1 := fun v => tm_Whole (T := 157) v (by decide)
  have a2 := fun v => tm_Truth (T := 157) v (by decide)
  have a3 := th_Variable
  go_enter Tryd.func75, Tryd.ntmps75
  go_wp2_with fail
  go_ret
  exact ⟨rfl, below_one⟩

set_option maxRecDepth 100000 in
set_option maxHeartbeats 1000000 in
theorem same_List_miss (Ta : TypeId) (va : Value) (T : TypeId) (v : Value) (h : T ≠ 160) (w : World) : Calls Tryd.prog 75 #[.iface 160 (.agg #[.iface Ta va]), .iface T v] w fun e w' => e = .returned (.bool false) ∧ Below w.heap.size w w' := by
  have z := fun w => tm_List v h w
  have a1 := fun v => tm_Whole (T := 160) v (by decide)
  have a2 := fun v => tm_Truth (T := 160) v (by decide)
  have a3 := fun v => tm_Variable (T := 160) v (by decide)
  have a4 := th_List
  go_enter Tryd.func75, Tryd.ntmps75
  go_wp2_with fail
  go_ret
  exact ⟨rfl, below_one⟩

set_option maxRecDepth 100000 in
set_option maxHeartbeats 1000000 in
theorem same_Pair_miss (Ta Tb : TypeId) (va vb : Value) (T : TypeId) (v : Value) (h : T ≠ 163) (w : World) : Calls Tryd.prog 75 #[.iface 163 (.agg #[.iface Ta va, .iface Tb vb]), .iface T v] w fun e w' => e = .returned (.bool false) ∧ Below w.heap.size w w' := by
  have z := fun w => tm_Pair v h w
  have a1 := fun v => tm_Whole (T := 163) v (by decide)
  have a2 := fun v => tm_Truth (T := 163) v (by decide)
  have a3 := fun v => tm_Variable (T := 163) v (by decide)
  have a4 := fun v => tm_List (T := 163) v (by decide)
  have a5 := th_Pair
  go_enter Tryd.func75, Tryd.ntmps75
  go_wp2_with fail
  go_ret
  exact ⟨rfl, below_one⟩

set_option maxRecDepth 100000 in
set_option maxHeartbeats 1000000 in
theorem same_Function_miss (Ta Tb : TypeId) (va vb : Value) (T : TypeId) (v : Value) (h : T ≠ 152) (w : World) : Calls Tryd.prog 75 #[.iface 152 (.agg #[.iface Ta va, .iface Tb vb]), .iface T v] w fun e w' => e = .returned (.bool false) ∧ Below w.heap.size w w' := by
  have z := fun w => tm_Function v h w
  have a1 := fun v => tm_Whole (T := 152) v (by decide)
  have a2 := fun v => tm_Truth (T := 152) v (by decide)
  have a3 := fun v => tm_Variable (T := 152) v (by decide)
  have a4 := fun v => tm_List (T := 152) v (by decide)
  have a5 := fun v => tm_Pair (T := 152) v (by decide)
  have a6 := th_Function
  go_enter Tryd.func75, Tryd.ntmps75
  go_wp2_with fail
  go_ret
  exact ⟨rfl, below_one⟩

set_option maxRecDepth 100000 in
set_option maxHeartbeats 1000000 in
theorem same_Whole_hit (w : World) : Calls Tryd.prog 75 #[.iface 154 (.agg #[]), .iface 154 (.agg #[])] w fun e w' => e = .returned (.bool true) ∧ Below w.heap.size w w' := by
  have a1 := th_Whole
  go_enter Tryd.func75, Tryd.ntmps75
  go_wp2_with fail
  go_ret
  exact ⟨rfl, below_one⟩

set_option maxRecDepth 100000 in
set_option maxHeartbeats 1000000 in
theorem same_Truth_hit (w : World) : Calls Tryd.prog 75 #[.iface 155 (.agg #[]), .iface 155 (.agg #[])] w fun e w' => e = .returned (.bool true) ∧ Below w.heap.size w w' := by
  have a1 := fun v => tm_Whole (T := 155) v (by decide)
  have a2 := th_Truth
  go_enter Tryd.func75, Tryd.ntmps75
  go_wp2_with fail
  go_ret
  exact ⟨rfl, below_one⟩

set_option maxRecDepth 100000 in
set_option maxHeartbeats 1000000 in
theorem same_Variable_hit (l d l' d' : Int) (w : World) : Calls Tryd.prog 75 #[.iface 157 (.agg #[.int .u8 l, .int .u8 d]), .iface 157 (.agg #[.int .u8 l', .int .u8 d'])] w fun e w' => e = .returned (.bool (l == l' && d == d')) ∧ Below w.heap.size w w' := by
  have a1 := fun v => tm_Whole (T := 157) v (by decide)
  have a2 := fun v => tm_Truth (T := 157) v (by decide)
  have a3 := th_Variable
  go_enter Tryd.func75, Tryd.ntmps75
  go_wp2_with fail
  all_goals
    go_ret
    refine ⟨?_, below_one⟩
    show Ending.returned (Value.bool _) = Ending.returned (Value.bool _)
    simp [*]

set_option maxRecDepth 100000 in
set_option maxHeartbeats 1000000 in
theorem same_List_hit (a c : Ty) (ih : SameAt a c) (w : World) : Calls Tryd.prog 75 #[.iface 160 (.agg #[.iface (tg a) (ag a)]), .iface 160 (.agg #[.iface (tg c) (ag c)])] w fun e w' => e = .returned (.bool (eqT a c)) ∧ Below w.heap.size w w' := by
  have IH : Hid (SameAt a c) := ih
  clear ih
  have a1 := fun v => tm_Whole (T := 160) v (by decide)
  have a2 := fun v => tm_Truth (T := 160) v (by decide)
  have a3 := fun v => tm_Variable (T := 160) v (by decide)
  have a4 := th_List
  go_enter Tryd.func75, Tryd.ntmps75
  go_wp2_with fail
  refine (IH.out _).mono ?_
  rintro e w1 ⟨rfl, hb⟩
  go_wp2_with fail
  go_ret
  exact ⟨rfl, below_two hb⟩

set_option maxRecDepth 100000 in
set_option maxHeartbeats 1000000 in
theorem same_Pair_hit (a b c d : Ty) (ih : SameAt a c) (ih' : SameAt b d) (w : World) : Calls Tryd.prog 75 #[.iface 163 (.agg #[.iface (tg a) (ag a), .iface (tg b) (ag b)]), .iface 163 (.agg #[.iface (tg c) (ag c), .iface (tg d) (ag d)])] w fun e w' => e = .returned (.bool (eqT a c && eqT b d)) ∧ Below w.heap.size w w' := by
  have IH : Hid (SameAt a c) := ih
  have IH' : Hid (SameAt b d) := ih'
  clear ih ih'
  have a1 := fun v => tm_Whole (T := 163) v (by decide)
  have a2 := fun v => tm_Truth (T := 163) v (by decide)
  have a3 := fun v => tm_Variable (T := 163) v (by decide)
  have a4 := fun v => tm_List (T := 163) v (by decide)
  have a5 := th_Pair
  go_enter Tryd.func75, Tryd.ntmps75
  go_wp2_with fail
  refine (IH.out _).mono ?_
  rintro e w1 ⟨rfl, hb⟩
  cases hq : eqT a c with
  | false =>
    have HQ : Hid (eqT a c = false) := hq
    clear hq
    go_wp2_with fail
    go_ret
    rw [HQ.out]
    exact ⟨rfl, below_two hb⟩
  | true =>
    have HQ : Hid (eqT a c = true) := hq
    clear hq
    have hb2 := below_two hb
    have c1 : w1.cell? ⟨w.heap.size, 1, none⟩ = some (.iface (tg b) (ag b)) := by rw [hb.cell (by simp; omega)]; exact cellA _ _ _ _ _
    have c2 : w1.cell? ⟨w.heap.size + 1, 1, none⟩ = some (.iface (tg d) (ag d)) := by rw [hb.cell (by simp)]; exact cellB _ _ _ _ _
    have hz := hb.size
    simp at hz
    go_wp2_with fail
    refine (IH'.out _).mono ?_
    rintro e w2 ⟨rfl, hb3⟩
    go_wp2_with fail
    go_ret
    rw [HQ.out]
    exact ⟨rfl, hb2.trans (hb3.mono (by omega))⟩

set_option maxRecDepth 100000 in
set_option maxHeartbeats 1000000 in
theorem same_Function_hit (a b c d : Ty) (ih : SameAt a c) (ih' : SameAt b d) (w : World) : Calls Tryd.prog 75 #[.iface 152 (.agg #[.iface (tg a) (ag a), .iface (tg b) (ag b)]), .iface 152 (.agg #[.iface (tg c) (ag c), .iface (tg d) (ag d)])] w fun e w' => e = .returned (.bool (eqT a c && eqT b d)) ∧ Below w.heap.size w w' := by
  have IH : Hid (SameAt a c) := ih
  have IH' : Hid (SameAt b d) := ih'
  clear ih ih'
  have a1 := fun v => tm_Whole (T := 152) v (by decide)
  have a2 := fun v => tm_Truth (T := 152) v (by decide)
  have a3 := fun v => tm_Variable (T := 152) v (by decide)
  have a4 := fun v => tm_List (T := 152) v (by decide)
  have a5 := fun v => tm_Pair (T := 152) v (by decide)
  have a6 := th_Function
  go_enter Tryd.func75, Tryd.ntmps75
  go_wp2_with fail
  refine (IH.out _).mono ?_
  rintro e w1 ⟨rfl, hb⟩
  cases hq : eqT a c with
  | false =>
    have HQ : Hid (eqT a c = false) := hq
    clear hq
    go_wp2_with fail
    go_ret
    rw [HQ.out]
    exact ⟨rfl, below_two hb⟩
  | true =>
    have HQ : Hid (eqT a c = true) := hq
    clear hq
    have hb2 := below_two hb
    have c1 : w1.cell? ⟨w.heap.size, 1, none⟩ = some (.iface (tg b) (ag b)) := by rw [hb.cell (by simp; omega)]; exact cellA _ _ _ _ _
    have c2 : w1.cell? ⟨w.heap.size + 1, 1, none⟩ = some (.iface (tg d) (ag d)) := by rw [hb.cell (by simp)]; exact cellB _ _ _ _ _
    have hz := hb.size
    simp at hz
    go_wp2_with fail
    refine (IH'.out _).mono ?_
    rintro e w2 ⟨rfl, hb3⟩
    go_wp2_with fail
    go_ret
    rw [HQ.out]
    exact ⟨rfl, hb2.trans (hb3.mono (by omega))⟩

theorem same_any : ∀ x y : Ty, Ok x → Ok y → SameAt x y := by
  intro x
  induction x with
  | nil => intro y hx; exact hx.elim
  | node g o u a b iha ihb =>
    intro y hx hy w
    cases u
    rcases hx with ⟨rfl, rfl, rfl, rfl⟩ | ⟨rfl, rfl, rfl, rfl⟩ | ⟨rfl, ho, rfl, rfl⟩ | ⟨rfl, rfl, ha, rfl⟩ | ⟨rfl, rfl, ha, hb⟩ | ⟨rfl, rfl, ha, hb⟩ <;>
    rcases hy.cases with rfl | rfl | ⟨o', h1', h2', rfl⟩ | ⟨a', ha', rfl⟩ | ⟨a', b', ha', hb', rfl⟩ | ⟨a', b', ha', hb', rfl⟩
    · exact same_Whole_hit w
    iterate 5 exact same_Whole_miss _ _ (by simp [tg]) w
    · exact same_Truth_miss _ _ (by simp [tg]) w
    · exact same_Truth_hit w
    iterate 4 exact same_Truth_miss _ _ (by simp [tg]) w
    iterate 2 exact same_Variable_miss _ _ _ _ (by simp [tg]) w
    · refine (same_Variable_hit _ _ _ _ w).mono ?_
      rintro e w' ⟨rfl, h⟩
      refine ⟨?_, h⟩
      have : (((o / 10 : Nat) : Int) == ((o' / 10 : Nat) : Int) && ((o % 10 : Nat) : Int) == ((o' % 10 : Nat) : Int)) = eqT (tV o) (tV o') := by
        rw [Bool.eq_iff_iff]
        simp [eqT]
        omega
      rw [this]
    iterate 3 exact same_Variable_miss _ _ _ _ (by simp [tg]) w
    iterate 3 exact same_List_miss _ _ _ _ (by simp [tg]) w
    · refine (same_List_hit _ _ (iha _ ha ha') w).mono ?_
      rintro e w' ⟨rfl, h⟩
      refine ⟨?_, h⟩
      simp [eqT]
    iterate 2 exact same_List_miss _ _ _ _ (by simp [tg]) w
    iterate 4 exact same_Pair_miss _ _ _ _ _ _ (by simp [tg]) w
    · refine (same_Pair_hit _ _ _ _ (iha _ ha ha') (ihb _ hb hb') w).mono ?_
      rintro e w' ⟨rfl, h⟩
      refine ⟨?_, h⟩
      simp [eqT]
    · exact same_Pair_miss _ _ _ _ _ _ (by simp [tg]) w
    iterate 5 exact same_Function_miss _ _ _ _ _ _ (by simp [tg]) w
    · refine (same_Function_hit _ _ _ _ (iha _ ha ha') (ihb _ hb hb') w).mono ?_
      rintro e w' ⟨rfl, h⟩
      refine ⟨?_, h⟩
      simp [eqT]
end Go.Proofs.YtejcbbhengloiaaDoor
