import Derived.Test.YtceadeaodbadlaaDoorCopied
set_option linter.unusedVariables false
set_option linter.unusedSimpArgs false
namespace Go.Proofs.YtceadeaodbadlaaDoor
open Go.RowKit

/-- A type that was made. -/
def TPost (t : Ty) (w : World) (e : Ending) (w' : World) : Prop :=
  ∃ g cap, e = .returned (.agg #[.slice (some ⟨g, 0, none⟩) (sz t) cap]) ∧ Rg g t w' ∧ w.heap.size ≤ g ∧ Below w.heap.size w w'

theorem add0 (g m : Nat) : (⟨g, 0, none⟩ : Addr).add m = ⟨g, m, none⟩ := by unfold Addr.add; split <;> simp_all

theorem Rg.ofOwn {B g n cap : Nat} {t : Ty} {w : World} (ok : Ok t) (h : w.ownsRow B 117 3 (.slice (some ⟨g, 0, none⟩) n cap) n (nflat (nd t 0))) : Rg g t w := by
  refine ⟨ok, (h.lt g rfl).2, fun k n hk => ?_⟩
  have c0 := h.cells (g := g) rfl (k * 3 + 0) _ (nflat_get _ k 0 n _ hk rfl)
  have c1 := h.cells (g := g) rfl (k * 3 + 1) _ (nflat_get _ k 1 n _ hk rfl)
  have c2 := h.cells (g := g) rfl (k * 3 + 2) _ (nflat_get _ k 2 n _ hk rfl)
  rw [add0] at c0 c1 c2
  exact ⟨c0, c1, c2⟩

theorem grow_below {w w' : World} {row : Option Nat} (h : w.grownBy w' row) (hr : ∀ k, row = some k → w.heap.size ≤ k) : Below w.heap.size w w' :=
  ⟨h.os, h.tape, h.output, h.size, fun k hk => h.block k hk (fun e => by have := hr k e.symm; omega)⟩

theorem set_grown {w : World} (b : Nat) (u : Value) : w.grownBy (w.setCell ⟨b, 0, none⟩ u) (some b) :=
  ⟨rfl, rfl, rfl, by simp [World.setCell], fun i _ hn => Below.heap_setCell _ _ _ _ (by simpa using hn)⟩
theorem leaf_nd (g o : Nat) (hg : g ≤ 2) (u : Unit) : nd (.node g o u .nil .nil) 0 = [⟨sgn g o, 0, 0⟩] := by
  have h3 : g ≤ 3 := by omega
  simp [nd, rt, rtA, rtB, hg, h3]
theorem leaf_sz (g o : Nat) (u : Unit) : sz (.node g o u .nil .nil) = 1 := rfl

theorem sizeType : (Tryd.prog.info? 38).map (·.size) = some (#[Value.slice none 0 0]).size := by kernel_rfl
/-- A type handed back by way of its cell. -/
theorem ret_type {fn : Func} {p : Tmp} (h : fn.results = #[.cell p 38]) {tmps : Array Value} {w : World} {g : Nat} {v : Value} {Q : Ending → World → Prop}
    (hp : tmps.getD p undef = .pointer (some ⟨g, 0, none⟩)) (hg : w.heap[g]? = some (.cells #[v] 38 (0, 0))) (hq : Q (.returned (.agg #[v])) w) : bodyPost Tryd.prog fn Q Exit.ret { tmps := tmps, defers := [] } w :=
  bodyPost_ret (results_cell_row h tmps w g 38 #[v] (0, 0) _ hp hg Tryd.underlying38 rfl sizeType) rfl hq
theorem set_cell0 {w : World} {g : Nat} {u v : Value} (hg : w.heap[g]? = some (.cells #[u] 38 (0, 0))) : (w.setCell ⟨g, 0, none⟩ v).heap[g]? = some (.cells #[v] 38 (0, 0)) := by
  simp [World.setCell, Array.getElem?_modify, hg]

theorem nd_news1 (wr : World) (op x y : Nat) (z a b : Int) (hz : z = (op : Int)) (ha : a = (x : Int)) (hb : b = (y : Int)) : ∀ j u, (Nd.cells ⟨op, x, y⟩)[j]? = some u →
    (wr.alloc (.cells #[.int .i64 z, .int .i64 a, .int .i64 b] 117)).cell? ((⟨wr.heap.size, 0, none⟩ : Addr).add j) = some u := by
  subst hz
  subst ha
  subst hb
  exact World.news_of_block (heap_alloc_new wr (.cells #[.int .i64 (op : Int), .int .i64 (x : Int), .int .i64 (y : Int)] 117))
theorem cell_box {w : World} {b : Nat} {v : Value} {T : TypeId} (h : w.heap[b]? = some (.cells #[v] T (0, 0))) : w.cell? ⟨b, 0, none⟩ = some v := by simp [World.cell?, h]
theorem free_box {w : World} {b : Nat} {v : Value} {T : TypeId} (h : w.heap[b]? = some (.cells #[v] T (0, 0))) : w.frozen? ⟨b, 0, none⟩ = false := by simp [World.frozen?, h]

set_option maxHeartbeats 400000 in
theorem leaf_any (g o : Nat) (hg : g ≤ 2) (hok : Ok (.node g o () .nil .nil)) (w : World) : Calls Tryd.prog 48 #[.int .i64 (sgn g o : Int)] w (TPost (.node g o () .nil .nil) w) := by
  have HN : Hid (nd (.node g o () .nil .nil) 0 = [⟨sgn g o, 0, 0⟩]) := leaf_nd g o hg ()
  have HK : Hid (Ok (.node g o () .nil .nil)) := hok
  clear hok hg
  generalize sgn g o = op at *
  go_enter Tryd.func48, Tryd.ntmps48
  go_wp2_with fail
  refine ret_type rfl rfl (by rw [Below.heap_alloc _ _ _ (by simp)]; exact heap_alloc_new w _) ?_
  refine ⟨w.heap.size + 1, 1, rfl, ⟨HK.out, by simp, fun k n hk => ?_⟩, by omega, ((Below.refl w.heap.size w).alloc (Nat.le_refl _) _).alloc (by simp) _⟩
  rw [HN.out] at hk
  cases k with
  | zero =>
    simp at hk
    subst hk
    simp
  | succ k => simp at hk

theorem list_nd (t : Ty) (h : Ok t) : nd (tL t) 0 = nd t 0 ++ [⟨91, sz t - 1, 0⟩] := by
  simp [nd, rt, rtA, rtB, sgn]

set_option maxRecDepth 100000 in
set_option maxHeartbeats 1000000 in
theorem list_any (t : Ty) (g cap : Nat) (w : World) (ht : Rg g t w) (hl : sz t ≤ 100000) : Calls Tryd.prog 51 #[.agg #[.slice (some ⟨g, 0, none⟩) (sz t) cap]] w (TPost (tL t) w) := by
  obtain ⟨i0, hi0, hz0, hz1, hz2⟩ := info_parts infoNode
  have HC : Hid (∀ w' : World, Rg g t w' → w.heap.size + 2 ≤ w'.heap.size → Calls Tryd.prog 52 #[.slice none 0 0, .agg #[.slice (some ⟨g, 0, none⟩) (sz t) cap]] w' (CoPost (w.heap.size + 2) [] (.slice none 0 0) t w')) :=
    fun w' h' hs => copied_any (w.heap.size + 2) [] (.slice none 0 0) g cap t w' (World.ownsRow_nil _ _ _ _) h' (by simp [Value.ownBlock]) hs (by simp; omega)
  have HD : Hid (nd (tL t) 0 = nd t 0 ++ [⟨91, sz t - 1, 0⟩]) := list_nd t ht.ok
  have hpos := sz_pos ht.ok
  have hbox : ((w.alloc (.cells #[.slice (some ⟨g, 0, none⟩) (sz t) cap] 38)).alloc (.cells #[.slice none 0 0] 38)).heap[w.heap.size + 1]? = some (.cells #[.slice none 0 0] 38 (0, 0)) := heap_alloc2_new w _ _
  have hA := (ht.alloc (.cells #[.slice (some ⟨g, 0, none⟩) (sz t) cap] 38)).alloc (.cells #[.slice none 0 0] 38)
  go_enter Tryd.func51, Tryd.ntmps51
  go_wp2_with fail
  refine (HC.out _ hA (by simp)).mono ?_
  rintro e w1 ⟨v1, rfl, hown, hgr, hv1⟩
  simp only [List.length_nil, Nat.zero_add, List.nil_append] at hown
  obtain ⟨g1, cap1, rfl, hb1, hg1⟩ := hown.form hpos
  have hbox1 : w1.heap[w.heap.size + 1]? = some (.cells #[.slice none 0 0] 38 (0, 0)) := (hgr.block _ (by simp) (by simp [Value.ownBlock])).trans hbox
  have HN := nd_news1 w1 91 (sz t - 1) 0 91 ((sz t : Int) - 1) 0 rfl (by omega) rfl
  go_wp2_with (at_builtin; refine wpList_append_lies _ rfl _ _ 36 rfl (w.heap.size + 2) 117 i0 _ 3 24 Tryd.underlying36 hi0 hz0 hz1 hz2 rfl (by omega) (.slice (some ⟨g1, 0, none⟩) (sz t) cap1) (sz t) _ rfl (hown.alloc _) ⟨w1.heap.size, 0, none⟩ 1 1 (Nd.cells ⟨91, sz t - 1, 0⟩) rfl rfl HN (by simp [Value.oneCell', Nd.cells]) (by omega) (by unfold maxLen; omega) (by omega) (by simp; omega) (w1.heap.size + 1) (by simp) ?_; intro gg cap2 w2 hown2 hgrow2 hat2 hlt2; have hbox2 : w2.heap[w.heap.size + 1]? = some (.cells #[.slice none 0 0] 38 (0, 0)) := (hgrow2.block _ (by simp; omega) (by simp [Value.ownBlock]; omega)).trans ((Below.heap_alloc _ _ _ (by omega)).trans hbox1); have cb := cell_box hbox2; have fb := free_box hbox2)
  refine ret_type rfl rfl (set_cell0 hbox2) ?_
  have hgb : w.heap.size + 2 ≤ gg := (hown2.lt gg rfl).1
  have e1 : nflat (nd (tL t) 0) = nflat (nd t 0) ++ Nd.cells ⟨91, sz t - 1, 0⟩ := by rw [HD.out, nflat_append]; simp [nflat]
  have B1 : Below w.heap.size w w1 := (((Below.refl w.heap.size w).alloc (Nat.le_refl _) _).alloc (by simp) _).trans ((grow_below hgr (by simp [Value.ownBlock])).mono (by simp; omega))
  have B2 : Below w.heap.size w w2 := B1.grown ((World.grownBy_alloc w1 _ _).trans hgrow2) B1.size (fun k hk => by simp [Value.ownBlock] at hk; omega)
  refine ⟨gg, cap2, rfl, ?_, by omega, B2.setCell (by simp) _⟩
  rw [← e1] at hown2
  exact (Rg.ofOwn (okL ht.ok) hown2).kept (set_grown _ _) (by simp; omega)

theorem both_nd (gt : Nat) (h : gt = 4 ∨ gt = 5) (a b : Ty) (u : Unit) : nd (.node gt 0 u a b) 0 = nd a 0 ++ nd b (sz a) ++ [⟨sgn gt 0, sz a - 1, sz a + sz b - 1⟩] := by
  rcases h with rfl | rfl <;> simp [nd, rt, rtA, rtB, sgn]
theorem both_ok (gt : Nat) (h : gt = 4 ∨ gt = 5) {a b : Ty} (ha : Ok a) (hb : Ok b) : Ok (.node gt 0 () a b) := by
  rcases h with rfl | rfl
  · exact okP ha hb
  · exact okF ha hb

set_option maxRecDepth 100000 in
set_option maxHeartbeats 2000000 in
theorem both_any (gt : Nat) (hgt : gt = 4 ∨ gt = 5) (a b : Ty) (g cap g' cap' : Nat) (w : World) (ha : Rg g a w) (hb : Rg g' b w) (hl : sz a ≤ 100000) (hl' : sz b ≤ 100000) :
    Calls Tryd.prog 32 #[.int .i64 (sgn gt 0 : Int), .agg #[.slice (some ⟨g, 0, none⟩) (sz a) cap], .agg #[.slice (some ⟨g', 0, none⟩) (sz b) cap']] w (TPost (.node gt 0 () a b) w) := by
  obtain ⟨i0, hi0, hz0, hz1, hz2⟩ := info_parts infoNode
  have HO : Hid (Ok (.node gt 0 () a b)) := both_ok gt hgt ha.ok hb.ok
  have HD : Hid (nd (.node gt 0 () a b) 0 = nd a 0 ++ nd b (sz a) ++ [⟨sgn gt 0, sz a - 1, sz a + sz b - 1⟩]) := both_nd gt hgt a b ()
  have hpos := sz_pos ha.ok
  have hpos' := sz_pos hb.ok
  have HZ : Hid (sz (.node gt 0 () a b) = sz a + sz b + 1) := rfl
  have hlt := ha.lt
  have hlt' := hb.lt
  clear hgt
  generalize sgn gt 0 = op at HD ⊢
  generalize Go.Deep.BT.node gt 0 () a b = T at HD HO HZ ⊢
  have hbx : (((w.alloc (.cells #[.slice (some ⟨g, 0, none⟩) (sz a) cap] 38)).alloc (.cells #[.slice (some ⟨g', 0, none⟩) (sz b) cap'] 38)).alloc (.cells #[.slice none 0 0] 38)).heap[w.heap.size + 1]? = some (.cells #[.slice (some ⟨g', 0, none⟩) (sz b) cap'] 38 (0, 0)) := by
    rw [Below.heap_alloc _ _ _ (by simp)]; exact heap_alloc2_new w _ _
  have hcx : (((w.alloc (.cells #[.slice (some ⟨g, 0, none⟩) (sz a) cap] 38)).alloc (.cells #[.slice (some ⟨g', 0, none⟩) (sz b) cap'] 38)).alloc (.cells #[.slice none 0 0] 38)).heap[w.heap.size + 1 + 1]? = some (.cells #[.slice none 0 0] 38 (0, 0)) := by
    have := heap_alloc2_new (w.alloc (.cells #[.slice (some ⟨g, 0, none⟩) (sz a) cap] 38)) (.cells #[.slice (some ⟨g', 0, none⟩) (sz b) cap'] 38) (.cells #[.slice none 0 0] 38)
    simpa using this
  have hA := ((ha.alloc (.cells #[.slice (some ⟨g, 0, none⟩) (sz a) cap] 38)).alloc (.cells #[.slice (some ⟨g', 0, none⟩) (sz b) cap'] 38)).alloc (.cells #[.slice none 0 0] 38)
  have hB := ((hb.alloc (.cells #[.slice (some ⟨g, 0, none⟩) (sz a) cap] 38)).alloc (.cells #[.slice (some ⟨g', 0, none⟩) (sz b) cap'] 38)).alloc (.cells #[.slice none 0 0] 38)
  have B0 : Below w.heap.size w (((w.alloc (.cells #[.slice (some ⟨g, 0, none⟩) (sz a) cap] 38)).alloc (.cells #[.slice (some ⟨g', 0, none⟩) (sz b) cap'] 38)).alloc (.cells #[.slice none 0 0] 38)) :=
    (((Below.refl w.heap.size w).alloc (Nat.le_refl _) _).alloc (by simp) _).alloc (by simp; omega) _
  have s0 : (((w.alloc (.cells #[.slice (some ⟨g, 0, none⟩) (sz a) cap] 38)).alloc (.cells #[.slice (some ⟨g', 0, none⟩) (sz b) cap'] 38)).alloc (.cells #[.slice none 0 0] 38)).heap.size = w.heap.size + 3 := by simp
  go_enter Tryd.func32, Tryd.ntmps32
  go_wp2_with fail
  refine (copied_any (w.heap.size + 3) [] (.slice none 0 0) g cap a _ (World.ownsRow_nil _ _ _ _) hA (by simp [Value.ownBlock]) (by omega) (by simp; omega)).mono ?_
  rintro e w1 ⟨v1, rfl, hown, hgr, -⟩
  simp only [List.length_nil, Nat.zero_add, List.nil_append] at hown
  obtain ⟨g1, cap1, rfl, hb1, hg1⟩ := hown.form hpos
  have hbx1 : w1.heap[w.heap.size + 1]? = some (.cells #[.slice (some ⟨g', 0, none⟩) (sz b) cap'] 38 (0, 0)) := (hgr.block _ (by omega) (by simp [Value.ownBlock])).trans hbx
  have hcx1 : w1.heap[w.heap.size + 1 + 1]? = some (.cells #[.slice none 0 0] 38 (0, 0)) := (hgr.block _ (by omega) (by simp [Value.ownBlock])).trans hcx
  have B1 : Below w.heap.size w w1 := B0.grown hgr (by omega) (by simp [Value.ownBlock])
  have hR1 := hB.kept hgr (by simp [Value.ownBlock])
  have cb1 := cell_box hbx1
  have hle : (nd a 0).length = sz a := nd_length a 0
  have HC := copied_any (w.heap.size + 3) (nd a 0) (.slice (some ⟨g1, 0, none⟩) (sz a) cap1) g' cap' b w1 (by rw [hle]; exact hown) hR1 (by simp [Value.ownBlock]; omega) (by omega) (by omega)
  clear hA hB hbx hcx B0 s0 hbx1 hgr hR1 ha
  go_wp2_with fail
  refine HC.mono ?_
  rintro e w2 ⟨v2, rfl, hown2, hgr2, hat2⟩
  rw [hle] at hown2
  obtain ⟨g2, cap2, rfl, hb2, hg2⟩ := hown2.form (by omega)
  have hcx2 : w2.heap[w.heap.size + 1 + 1]? = some (.cells #[.slice none 0 0] 38 (0, 0)) := (hgr2.block _ (by omega) (by simp [Value.ownBlock]; omega)).trans hcx1
  have B2 : Below w.heap.size w w2 := B1.grown hgr2 B1.size (by simp [Value.ownBlock]; omega)
  have s2 : w.heap.size + 3 ≤ w2.heap.size := by omega
  clear HC hcx1 B1 hown hgr2 hat2
  have HN := nd_news1 w2 op (sz a - 1) (sz a + sz b - 1) op ((sz a : Int) - 1) ((sz a : Int) + (sz b : Int) - 1) rfl (by omega) (by omega)
  go_wp2_with (at_builtin; refine wpList_append_lies _ rfl _ _ 36 rfl (w.heap.size + 3) 117 i0 _ 3 24 Tryd.underlying36 hi0 hz0 hz1 hz2 rfl (by omega) (.slice (some ⟨g2, 0, none⟩) (sz a + sz b) cap2) (sz a + sz b) _ rfl (hown2.alloc _) ⟨w2.heap.size, 0, none⟩ 1 1 (Nd.cells ⟨op, sz a - 1, sz a + sz b - 1⟩) rfl rfl HN (by simp [Value.oneCell', Nd.cells]) (by omega) (by unfold maxLen; omega) (by omega) (by simp; omega) (w2.heap.size + 1) (by simp) ?_; intro gg cap3 w3 hown3 hgrow3 hat3 hlt3; have hbox3 : w3.heap[w.heap.size + 1 + 1]? = some (.cells #[.slice none 0 0] 38 (0, 0)) := (hgrow3.block _ (by simp; omega) (by simp [Value.ownBlock]; omega)).trans ((Below.heap_alloc _ _ _ (by omega)).trans hcx2); have cb := cell_box hbox3; have fb := free_box hbox3)
  refine ret_type rfl rfl (set_cell0 hbox3) ?_
  have hgb : w.heap.size + 3 ≤ gg := (hown3.lt gg rfl).1
  have e1 : nflat (nd T 0) = nflat (nd a 0 ++ nd b (sz a)) ++ Nd.cells ⟨op, sz a - 1, sz a + sz b - 1⟩ := by rw [HD.out, nflat_append]; simp [nflat]
  have B3 : Below w.heap.size w w3 := B2.grown ((World.grownBy_alloc w2 _ _).trans hgrow3) B2.size (fun k hk => by simp [Value.ownBlock] at hk; omega)
  refine ⟨gg, cap3, by rw [HZ.out], ?_, by omega, B3.setCell (by simp; omega) _⟩
  rw [← e1] at hown3
  exact (Rg.ofOwn HO.out hown3).kept (set_grown _ _) (by simp; omega)
end Go.Proofs.YtceadeaodbadlaaDoor
