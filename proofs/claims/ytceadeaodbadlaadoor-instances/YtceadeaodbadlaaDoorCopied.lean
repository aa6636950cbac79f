import Derived.Test.YtceadeaodbadlaaDoorNodes
import Derived.Deep.AppendLies
import Derived.OwnWalk
set_option linter.unusedVariables false
set_option linter.unusedSimpArgs false
namespace Go.Proofs.YtceadeaodbadlaaDoor
open Go.RowKit

/-- Block g holds the nodes of t; it is read, not written. -/
structure Rg (g : Nat) (t : Ty) (w : World) : Prop where
  ok : Ok t
  lt : g < w.heap.size
  cell : ∀ k n, (nd t 0)[k]? = some n → w.cell? ⟨g, k * 3, none⟩ = some (.int .i64 (n.op : Int)) ∧ w.cell? ⟨g, k * 3 + 1, none⟩ = some (.int .i64 (n.a : Int)) ∧ w.cell? ⟨g, k * 3 + 2, none⟩ = some (.int .i64 (n.b : Int))

theorem Rg.kept {g : Nat} {t : Ty} {w w' : World} {row : Option Nat} (h : Rg g t w) (hg : w.grownBy w' row) (hne : row ≠ some g) : Rg g t w' := by
  refine ⟨h.ok, Nat.lt_of_lt_of_le h.lt hg.size, fun k n hk => ?_⟩
  have hb := hg.block g h.lt (Ne.symm hne)
  have e : ∀ j, w'.cell? ⟨g, j, none⟩ = w.cell? ⟨g, j, none⟩ := fun j => World.cell?_of_block (w := w) (a := ⟨g, j, none⟩) hb
  rw [e, e, e]
  exact h.cell k n hk
theorem Rg.below {g : Nat} {t : Ty} {w w' : World} (h : Rg g t w) (hb : Below w.heap.size w w') : Rg g t w' :=
  h.kept (row := none) ⟨hb.os, hb.tape, hb.output, hb.size, fun k hk _ => hb.block k hk⟩ (by simp)
theorem Rg.alloc {g : Nat} {t : Ty} {w : World} (h : Rg g t w) (o : Obj) : Rg g t (w.alloc o) := h.kept (World.grownBy_alloc w o none) (by simp)

theorem grow_then {a b c : World} {row row' : Option Nat} (h : a.grownBy b row) (k : b.grownBy c row') (hr : row' = row ∨ ∃ q, row' = some q ∧ a.heap.size ≤ q) : a.grownBy c row := by
  refine ⟨k.os.trans h.os, k.tape.trans h.tape, k.output.trans h.output, Nat.le_trans h.size k.size, fun i hi hn => ?_⟩
  refine (k.block i (Nat.lt_of_lt_of_le hi h.size) ?_).trans (h.block i hi hn)
  rcases hr with rfl | ⟨q, rfl, hq⟩
  · exact hn
  · intro e; simp at e; omega

theorem infoNode : (Tryd.prog.info? 117).map (fun i => (i.zero, i.size, i.bytes)) = some (some (.agg #[.int .i64 0, .int .i64 0, .int .i64 0]), 3, 24) := by kernel_rfl

theorem len_own {B : Nat} {vl : Value} {n : Nat} {xs : List Value} {w : World} {e : TypeId} {m : Nat} (h : w.ownsRow B e m vl n xs) (w' : World) : (Builtin.len_ #[36] 3 #[vl]).run Tryd.prog w' = .ok (.int .i64 (n : Int)) w' := by
  rcases h.2 with ⟨rfl, rfl⟩ | ⟨g, cap, cur, rfl, _⟩
  · kernel_rfl
  · kernel_rfl

/-- What copied leaves. -/
def CoPost (B : Nat) (us : List Nd) (vl : Value) (t : Ty) (w : World) (e : Ending) (w' : World) : Prop :=
  ∃ v', e = .returned v' ∧ w'.ownsRow B 117 3 v' (us.length + sz t) (nflat (us ++ nd t us.length)) ∧ w.grownBy w' vl.ownBlock ∧ (v'.ownBlock = vl.ownBlock ∨ ∃ k, v'.ownBlock = some k ∧ w.heap.size ≤ k)

theorem take_more (us : List Nd) (t : Ty) (N k : Nat) (n : Nd) (h : Ok t) (hn : (nd t 0)[k]? = some n) : nflat (us ++ (nd t N).take (k + 1)) = nflat (us ++ (nd t N).take k) ++ Nd.cells (shift N n) := by
  have e : (nd t N)[k]? = some (shift N n) := by rw [nd_zero t h N, List.getElem?_map, hn]; rfl
  rw [List.take_add_one, e, ← List.append_assoc, nflat_append]
  simp [nflat]
theorem nd_news (wr : World) (o : Obj) (op x y : Nat) (a b : Int) (ha : a = (x : Int)) (hb : b = (y : Int)) : ∀ j u, (Nd.cells ⟨op, x, y⟩)[j]? = some u →
    ((wr.alloc o).alloc (.cells #[.int .i64 (op : Int), .int .i64 a, .int .i64 b] 117)).cell? ((⟨wr.heap.size + 1, 0, none⟩ : Addr).add j) = some u := by
  subst ha
  subst hb
  have hnb : ((wr.alloc o).alloc (.cells #[.int .i64 (op : Int), .int .i64 (x : Int), .int .i64 (y : Int)] 117)).heap[wr.heap.size + 1]? = some (.cells #[.int .i64 (op : Int), .int .i64 (x : Int), .int .i64 (y : Int)] 117 (0, 0)) := by
    have := heap_alloc_new (wr.alloc o) (.cells #[.int .i64 (op : Int), .int .i64 (x : Int), .int .i64 (y : Int)] 117)
    simpa using this
  exact World.news_of_block hnb
theorem grow_two {wr w1 : World} {o o' : Obj} {row : Option Nat} (h : ((wr.alloc o).alloc o').grownBy w1 row) : wr.grownBy w1 row :=
  ((World.grownBy_alloc wr o row).trans (World.grownBy_alloc _ o' row)).trans h

set_option maxRecDepth 100000 in
set_option maxHeartbeats 4000000 in
theorem copied_any (B : Nat) (us : List Nd) (vl : Value) (g cap : Nat) (t : Ty) (w : World) (hown : w.ownsRow B 117 3 vl us.length (nflat us)) (ht : Rg g t w) (hne : vl.ownBlock ≠ some g) (hB : B ≤ w.heap.size) (hl : us.length + sz t ≤ 1000000) :
    Calls Tryd.prog 52 #[vl, .agg #[.slice (some ⟨g, 0, none⟩) (sz t) cap]] w (CoPost B us vl t w) := by
  obtain ⟨i0, hi0, hz0, hz1, hz2⟩ := info_parts infoNode
  have hlen := nd_length t us.length
  have hlen0 := nd_length t 0
  have hpos := sz_pos ht.ok
  have hrow := hown.lt
  have hbox : (w.alloc (.cells #[.slice (some ⟨g, 0, none⟩) (sz t) cap] 38)).heap[w.heap.size]? = some (.cells #[.slice (some ⟨g, 0, none⟩) (sz t) cap] 38 (0, 0)) := heap_alloc_new w _
  have hln := len_own hown
  have W0 : (w.alloc (.cells #[.slice (some ⟨g, 0, none⟩) (sz t) cap] 38)).grownBy (w.alloc (.cells #[.slice (some ⟨g, 0, none⟩) (sz t) cap] 38)) vl.ownBlock := World.grownBy.refl _ _
  go_enter Tryd.func52, Tryd.ntmps52
  go_wp2_with fail
  go_loopw [0, 6] (fun v i wr => ∃ k : Nat, i = .int .i64 (k : Int) ∧ k ≤ sz t ∧ wr.ownsRow B 117 3 v (us.length + k) (nflat (us ++ (nd t us.length).take k)) ∧ (w.alloc (.cells #[.slice (some ⟨g, 0, none⟩) (sz t) cap] 38)).grownBy wr vl.ownBlock ∧ (v.ownBlock = vl.ownBlock ∨ ∃ q, v.ownBlock = some q ∧ w.heap.size + 1 ≤ q)) (fun _ i _ => sz t - (intOf i).toNat)
  case atStart => exact ⟨0, rfl, Nat.zero_le _, by simpa using hown.alloc _, W0, .inl rfl⟩
  case round =>
    obtain ⟨k, rfl, hk, ho, hg, hv⟩ := hrel
    have c0 : wr.cell? ⟨w.heap.size, 0, none⟩ = some (.slice (some ⟨g, 0, none⟩) (sz t) cap) := by
      rw [Lib.cell_of_heap ((hg.block w.heap.size (by simp) (fun e => by have := hrow _ e.symm; omega)).trans hbox)]; rfl
    rcases Nat.lt_or_ge k (sz t) with hlt | hge
    · have hR : Rg g t wr := (ht.alloc _).kept hg hne
      obtain ⟨nn, hn⟩ : ∃ n, (nd t 0)[k]? = some n := ⟨_, List.getElem?_eq_getElem (by omega)⟩
      obtain ⟨k0, k1, k2⟩ := hR.cell k nn hn
      have d1 : decide ((k : Int) < (sz t : Int)) = true := by simp; omega
      obtain ⟨op, na, nb⟩ := nn
      have hbd := nd_bound t 0 ht.ok _ (List.mem_of_getElem? hn)
      have b1 : na < sz t := by have := hbd.2.1; simp at this; exact this
      have b2 : nb < sz t := by have := hbd.2.2.2.1; simp at this; exact this
      have b3 : op < 1300 := hbd.2.2.2.2
      clear hbd
      have HN := nd_news wr (.cells #[.int .i64 (op : Int), .int .i64 (na : Int), .int .i64 (nb : Int)] 117) op (na + us.length) (nb + us.length) ((na : Int) + (us.length : Int)) ((nb : Int) + (us.length : Int)) (by simp) (by simp)
      have hBr : B ≤ wr.heap.size := by have := hg.size; simp at this; omega
      have HT : Hid (nflat (us ++ (nd t us.length).take (k + 1)) = nflat (us ++ (nd t us.length).take k) ++ Nd.cells ⟨op, na + us.length, nb + us.length⟩) := take_more us t us.length k _ ht.ok hn
      go_wp2_with (at_builtin; refine wpList_append_lies _ rfl _ _ 36 rfl B 117 i0 _ 3 24 Tryd.underlying36 hi0 hz0 hz1 hz2 rfl (by omega) u0 (us.length + k) _ rfl ((ho.alloc _).alloc _) ⟨wr.heap.size + 1, 0, none⟩ 1 1 (Nd.cells ⟨op, na + us.length, nb + us.length⟩) rfl rfl HN (by simp [Value.oneCell', Nd.cells]) (by omega) (by unfold maxLen; omega) (by omega) (by simp; omega) (wr.heap.size + 2) (by simp) ?_; intro gg cap1 w1 hown1 hgrow1 hat1 hlt1)
      refine ⟨⟨k + 1, by simp, by omega, ?_, grow_then hg (grow_two hgrow1) (hv.imp id (fun ⟨q, h1, h2⟩ => ⟨q, h1, by simpa using h2⟩)), ?_⟩, ?_⟩
      · rw [HT.out]; exact hown1
      · rcases hat1 with e | e
        · rw [e] at hv; exact hv
        · refine .inr ⟨gg, rfl, ?_⟩
          have := hg.size; simp at this; omega
      · simp [intOf]; omega
    · obtain rfl : k = sz t := by omega
      have d1 : decide ((sz t : Int) < (sz t : Int)) = false := by simp
      have HT : Hid ((nd t us.length).take (sz t) = nd t us.length) := by unfold Hid; rw [← hlen]; exact List.take_length
      go_wp2_with fail
      go_ret
      rw [HT.out] at ho
      refine ⟨u0, rfl, ho, ?_, ?_⟩
      · exact (World.grownBy_alloc w _ vl.ownBlock).trans hg
      · exact hv.imp id (fun ⟨q, h1, h2⟩ => ⟨q, h1, by omega⟩)
end Go.Proofs.YtceadeaodbadlaaDoor
