import Derived.Test.YtceadeaodbadlaaGreatDoorChecksP5
import Derived.Deep.RegionLaw
import Derived.Deep.AppendLies
import Derived.Deep.DeepCutAuto
import Derived.Deep.RegionHeld3
import Derived.Deep.RegionWith
set_option linter.unusedVariables false
set_option linter.unusedSimpArgs false
set_option maxRecDepth 100000
set_option maxHeartbeats 8000000
namespace Go.Proofs.YtceadeaodbadlaaGreatDoor
open Go.RowKit
abbrev tmI (op : Int) (c a b : Nat) (ga va pa : Option Addr) (gn gc vn vc pn pc at' tu : Nat) : Array Value := #[.int .u8 op, .int .u8 (c : Int), .int .i64 (a : Int), .int .i64 (b : Int), .slice ga gn gc, .slice va vn vc, .slice pa pn pc, .int .i64 (at' : Int), .int .i64 (tu : Int)]
abbrev ckW (T : Array Value) (w : World) : World := (w.alloc rbO).alloc (.cells T 76)
theorem zcu (T : Array Value) (w : World) : Below w.heap.size w (ckW T w) := (bal w _).alloc (by simp) _
theorem zdj (T : Array Value) (w : World) : (ckW T w).heap.size = w.heap.size + 2 := by simp [ckW]
theorem zeq (T : Array Value) (w : World) : (ckW T w).heap[w.heap.size]? = some (.cells #[.slice none 0 0] 33 (0, 0)) := (Below.heap_alloc _ _ _ (by simp)).trans (heap_alloc_new w _)
theorem zdm (T : Array Value) (w : World) : (ckW T w).heap[w.heap.size + 1]? = some (.cells T 76 (0, 0)) := by
 have := heap_alloc_new (w.alloc rbO) (.cells T 76)
 simpa using this
theorem Cs.box {B b r : Nat} {L : Value} {ε : Ce} {m : Nat} {st : List Se} {w : World} {a : Option Addr} {n c : Nat} {T : TypeId} (h : Cs B b L ε m st w) (hr : w.heap[r]? = some (.cells #[.slice a n c] T (0, 0))) (v : Value) :
 Cs B b L ε m st (w.setCell ⟨r, 0, none⟩ v) /\ b ≠ r /\ srow b w ≠ some r := by
 have hc := zab hr
 obtain ⟨hB, hL, he, S, hk, ho, hn, hu, hxs⟩ := h
 have hbr : b ≠ r := by
  rintro rfl
  unfold Ck at hk
  rw [hk] at hr
  injection hr with hr
  injection hr with hr
  have := congrArg Array.size hr
  simp at this
 have hSr : S.ownBlock ≠ some r := by
  intro e
  obtain ⟨z, hz⟩ := hu r e
  rw [hc] at hz
  cases hz
 refine ⟨⟨hB, hL, he, S, hk.kept (zai _ _) (by simp; exact fun e => hbr e.symm), ho.kept (zai _ _) (.inr hSr), hn, fun g e => ?_, fun x hx => ?_⟩, hbr, by rw [hk.row]; exact hSr⟩
 · obtain ⟨z, hz⟩ := hu g e
   exact ⟨z, by rw [cell_far w ⟨r, 0, none⟩ ⟨g, 0, none⟩ (by show r ≠ g; rintro rfl; exact hSr e)]; exact hz⟩
 · obtain ⟨h1, h2⟩ := hxs x hx
   refine ⟨h1.kept (zai _ _) (by simp; exact fun e => h1.notBox hc e.symm), h2.at' (by simp [World.setCell]) (fun g z hz => Below.heap_setCell w _ _ _ (by show g ≠ r; rintro rfl; rw [hc] at hz; cases hz))⟩
theorem CFr.box {b r : Nat} {w w1 : World} (F : CFr b w w1) (hs : w.heap.size <= r) (hb : b ≠ r) (v : Value) : CFr b w (w1.setCell ⟨r, 0, none⟩ v) := by
 refine ⟨F.os, F.tape, F.output, by simp only [World.setCell, Array.size_modify]; exact F.size, fun k hk3 hkb hkr => ?_, ?_⟩
 · rw [Below.heap_setCell _ _ _ _ (by show k ≠ r; omega)]; exact F.block k hk3 hkb hkr
 · have e : srow b (w1.setCell ⟨r, 0, none⟩ v) = srow b w1 := by unfold srow; rw [cell_far w1 ⟨r, 0, none⟩ ⟨b, 1, none⟩ (fun e => hb e.symm)]
   rw [e]; exact F.row
theorem CPost.store {B b r N : Nat} {L : Value} {m : Nat} {st : List Se} {R : COut} {w w1 w2 : World} {e : Ending} {a : Option Addr} {n c : Nat} {T : TypeId} (h : CPost B b L m st N R w1 e w2) (F : CFr b w w1) (hr : w2.heap[r]? = some (.cells #[.slice a n c] T (0, 0))) (hs : w.heap.size <= r) (v : Value) :
 CPost B b L m st N R w e (w2.setCell ⟨r, 0, none⟩ v) := by
 obtain ⟨t, g, cap, rfl, R', C, F', h1, h2⟩ := h
 obtain ⟨C', hb, _⟩ := C.box hr v
 exact ⟨t, g, cap, rfl, R'.kept (zai _ _) (by simp; exact fun e => R'.notBox (zab hr) e.symm), C', (F.trans F').box hs hb v, h1, h2⟩
theorem CFr.old {B b r : Nat} {L : Value} {ε : Ce} {m : Nat} {st : List Se} {w w1 : World} {o : Obj} (F : CFr b w w1) (hr : w.heap[r]? = some o) (hb : b ≠ r) (hn : srow b w ≠ some r) : w1.heap[r]? = some o := (F.block r (Array.getElem?_eq_some_iff.1 hr).1 (fun e => hb e.symm) (fun e => hn e.symm)).trans hr
structure Ct (w0 : World) (b : Nat) (L : Value) (ts : List Tt) (ε : Ce) (st : List Se) (w : World) : Prop where
 old : Below w0.heap.size w0 w
 cs : Cs w0.heap.size b L ε 50000 st w
 lr : Lr w0 L ts
 len : ts.length <= 300000
theorem Ct.terms {w0 : World} {b : Nat} {L : Value} {ts : List Tt} {ε : Ce} {st : List Se} {w : World} (h : Ct w0 b L ts ε st w) : Lr w L ts := h.lr.below h.old
/-- Behind a fault nothing is checked any more. -/
theorem znd (op : Nat) (r1 r2 : Nat) (w0 : World) (b : Nat) (L : Value) (ts : List Tt) (st : List Se) (w : World) (k : Nat) (c ta tb : Nat) (ga va pa : Option Addr) (gn gc vn vc pn pc tat tto : Nat) (h : Ct w0 b L ts (some (r1, r2)) st w) (hu : ts[k]? = some ⟨op, c, ta, tb, (ga, gn, gc), (va, vn, vc), (pa, pn, pc), tat, tto⟩) (he : 1 <= r1) :
 Calls Tryz.prog 61 #[.pointer (some ⟨b, 0, none⟩), .int .i64 (k : Int)] w (CPost w0.heap.size b L 50000 st 1 (.error (r1, r2)) w) := by
 have hT := h.terms
 obtain ⟨gL, capL, rfl, hgL, HLcs⟩ := id hT
 have HLC : Hid _ := HLcs
 clear HLcs
 obtain ⟨k0, k1, k2, k3, k4, k5, k6, k7, k8⟩ := hT.at hu
 simp only at k0 k1 k2 k3 k4 k5 k6 k7 k8
 have hkl : k < ts.length := (List.getElem?_eq_some_iff.1 hu).1
 have hlen := h.len
 have hblt := h.cs.lt
 have hw0 : w0.heap.size <= w.heap.size := h.old.size
 obtain ⟨S, hck, -, -⟩ := h.cs.mv
 have B0 := zcu (tmA op c ta tb ga va pa gn gc vn vc pn pc tat tto) w
 have r0 := zeq (tmA op c ta tb ga va pa gn gc vn vc pn pc tat tto) w
 have q0 := zdm (tmA op c ta tb ga va pa gn gc vn vc pn pc tat tto) w
 have z0 := zdj (tmA op c ta tb ga va pa gn gc vn vc pn pc tat tto) w
 have kb0 : w.cell? ⟨b, 0, none⟩ = some (.slice (some ⟨gL, 0, none⟩) ts.length capL) := cbl hck
 have kb0' : (w.alloc rbO).cell? ⟨b, 0, none⟩ = some (.slice (some ⟨gL, 0, none⟩) ts.length capL) := (World.cell?_alloc_lt _ _ ⟨b, 0, none⟩ hblt).trans kb0
 have kb2 : (ckW (tmA op c ta tb ga va pa gn gc vn vc pn pc tat tto) w).cell? ⟨b, 2, none⟩ = some (.int .i64 (r1 : Int)) := by rw [Lib.cell_of_heap (hck.below B0)]; rfl
 have HC : Hid (Cs w0.heap.size b (.slice (some ⟨gL, 0, none⟩) ts.length capL) (some (r1, r2)) 50000 st w) := h.cs
 have HC0 : Hid (Cs w0.heap.size b (.slice (some ⟨gL, 0, none⟩) ts.length capL) (some (r1, r2)) 50000 st (ckW (tmA op c ta tb ga va pa gn gc vn vc pn pc tat tto) w)) := (h.cs.below B0).1
 have HF0 : Hid (CFr b w (ckW (tmA op c ta tb ga va pa gn gc vn vc pn pc tat tto) w)) := (h.cs.below B0).2
 have HCT : Hid (Ct w0 b (.slice (some ⟨gL, 0, none⟩) ts.length capL) ts (some (r1, r2)) st w) := h
 have HB0 : Hid (Below w.heap.size w (ckW (tmA op c ta tb ga va pa gn gc vn vc pn pc tat tto) w)) := B0
 have HU : Hid (ts[k]? = some ⟨op, c, ta, tb, (ga, gn, gc), (va, vn, vc), (pa, pn, pc), tat, tto⟩) := hu
 have HSL : Hid (∀ j, srow b (ckW (tmA op c ta tb ga va pa gn gc vn vc pn pc tat tto) w) = some j -> j < w.heap.size) := by
  intro j e
  rw [(hck.below B0).row, <- hck.row] at e
  exact (h.cs.rowB j e).2
 have e1 : ((r1 : Int) != 0) = true := by rw [bne_iff_ne]; omega
 clear h hT hu B0 hck
 go_enter Tryz.func61, Tryz.ntmps61
 go_wp2_with fail
 unfold ckW at *
 generalize (w.alloc rbO).alloc (.cells (tmA op c ta tb ga va pa gn gc vn vc pn pc tat tto) 76) = W at *
 refine (zcc 0 0 (by decide) (.inl ⟨rfl, rfl, rfl, rfl⟩) W).mono ?_
 rintro e w1 ⟨g1, cap1, rfl, R1, hg1, b1⟩
 have h1 := (b1.block w.heap.size (by omega)).trans r0
 have c1 := zab h1
 have f1 := zae h1
 rw [zen]
 have HP : Hid (∀ u cap, CPost w0.heap.size b (.slice (some ⟨gL, 0, none⟩) ts.length capL) 50000 st 1 (.error (r1, r2)) w (.returned (.agg #[.slice (some ⟨g1, 0, none⟩) 1 cap])) (w1.setCell ⟨w.heap.size, 0, none⟩ u)) := by
  intro u cap
  have P : CPost w0.heap.size b (.slice (some ⟨gL, 0, none⟩) ts.length capL) 50000 st 1 (.error (r1, r2)) W (.returned (.agg #[.slice (some ⟨g1, 0, none⟩) 1 cap])) w1 := ⟨tI, g1, cap, rfl, R1, (HC0.out.below b1).1, (HC0.out.below b1).2, (fun u e => by first | exact Except.ok.inj e | cases e), (fun f e => by first | exact Nat.le_refl _ | cases e)⟩
  exact P.store HF0.out h1 (Nat.le_refl _) u
 clear R1 b1
 go_wp2_with fail
 refine zag rfl rfl (zac h1) ?_
 exact HP.out _ _
theorem zil (w0 : World) (b : Nat) (L : Value) (ts : List Tt) (r : Nat × Nat) (st : List Se) (w : World) (k : Nat) (h : Ct w0 b L ts (some r) st w) (hk : k < ts.length) :
 Calls Tryz.prog 61 #[.pointer (some ⟨b, 0, none⟩), .int .i64 (k : Int)] w (CPost w0.heap.size b L 50000 st 1 (.error r) w) := by
 obtain ⟨u, hu⟩ : ∃ u, ts[k]? = some u := ⟨_, List.getElem?_eq_getElem hk⟩
 obtain ⟨op, c, ta, tb, ⟨ga, gn, gc⟩, ⟨va, vn, vc⟩, ⟨pa, pn, pc⟩, tat, tto⟩ := u
 obtain ⟨r1, r2⟩ := r
 exact znd op r1 r2 w0 b L ts st w k c ta tb ga va pa gn gc vn vc pn pc tat tto h hu (h.cs.2.2.1 _ rfl)
theorem check_litI (w0 : World) (b : Nat) (L : Value) (ts : List Tt) (st : List Se) (w : World) (k : Nat) (c ta tb : Nat) (ga va pa : Option Addr) (gn gc vn vc pn pc tat tto : Nat) (h : Ct w0 b L ts none st w) (hu : ts[k]? = some ⟨48, c, ta, tb, (ga, gn, gc), (va, vn, vc), (pa, pn, pc), tat, tto⟩) (hc : c ≠ 84 /\ c ≠ 70) :
 Calls Tryz.prog 61 #[.pointer (some ⟨b, 0, none⟩), .int .i64 (k : Int)] w (CPost w0.heap.size b L 50000 st 1 (.ok tI) w) := by
 have hT := h.terms
 obtain ⟨gL, capL, rfl, hgL, HLcs⟩ := id hT
 have HLC : Hid _ := HLcs
 clear HLcs
 obtain ⟨k0, k1, k2, k3, k4, k5, k6, k7, k8⟩ := hT.at hu
 simp only at k0 k1 k2 k3 k4 k5 k6 k7 k8
 have hkl : k < ts.length := (List.getElem?_eq_some_iff.1 hu).1
 have hlen := h.len
 have hblt := h.cs.lt
 have hw0 : w0.heap.size <= w.heap.size := h.old.size
 obtain ⟨S, hck, -, -⟩ := h.cs.mv
 have B0 := zcu (tmI 48 c ta tb ga va pa gn gc vn vc pn pc tat tto) w
 have r0 := zeq (tmI 48 c ta tb ga va pa gn gc vn vc pn pc tat tto) w
 have q0 := zdm (tmI 48 c ta tb ga va pa gn gc vn vc pn pc tat tto) w
 have z0 := zdj (tmI 48 c ta tb ga va pa gn gc vn vc pn pc tat tto) w
 have kb0 : w.cell? ⟨b, 0, none⟩ = some (.slice (some ⟨gL, 0, none⟩) ts.length capL) := cbl hck
 have kb0' : (w.alloc rbO).cell? ⟨b, 0, none⟩ = some (.slice (some ⟨gL, 0, none⟩) ts.length capL) := (World.cell?_alloc_lt _ _ ⟨b, 0, none⟩ hblt).trans kb0
 have kb2 : (ckW (tmI 48 c ta tb ga va pa gn gc vn vc pn pc tat tto) w).cell? ⟨b, 2, none⟩ = some (.int .i64 0) := by rw [Lib.cell_of_heap (hck.below B0)]; rfl
 have HC : Hid (Cs w0.heap.size b (.slice (some ⟨gL, 0, none⟩) ts.length capL) none 50000 st w) := h.cs
 have HC0 : Hid (Cs w0.heap.size b (.slice (some ⟨gL, 0, none⟩) ts.length capL) none 50000 st (ckW (tmI 48 c ta tb ga va pa gn gc vn vc pn pc tat tto) w)) := (h.cs.below B0).1
 have HF0 : Hid (CFr b w (ckW (tmI 48 c ta tb ga va pa gn gc vn vc pn pc tat tto) w)) := (h.cs.below B0).2
 have HCT : Hid (Ct w0 b (.slice (some ⟨gL, 0, none⟩) ts.length capL) ts none st w) := h
 have HB0 : Hid (Below w.heap.size w (ckW (tmI 48 c ta tb ga va pa gn gc vn vc pn pc tat tto) w)) := B0
 have HU : Hid (ts[k]? = some ⟨48, c, ta, tb, (ga, gn, gc), (va, vn, vc), (pa, pn, pc), tat, tto⟩) := hu
 have HSL : Hid (∀ j, srow b (ckW (tmI 48 c ta tb ga va pa gn gc vn vc pn pc tat tto) w) = some j -> j < w.heap.size) := by
  intro j e
  rw [(hck.below B0).row, <- hck.row] at e
  exact (h.cs.rowB j e).2
 have q1 : (ckW (tmI 48 c ta tb ga va pa gn gc vn vc pn pc tat tto) w).cell? ⟨w.heap.size + 1, 1, none⟩ = some (.int .u8 (c : Int)) := cbl q0
 have e1 : ((c : Int) == 84) = false := by rw [beq_eq_false_iff_ne]; omega
 have e2 : ((c : Int) == 70) = false := by rw [beq_eq_false_iff_ne]; omega
 clear h hT hu B0 hck
 go_enter Tryz.func61, Tryz.ntmps61
 go_wp2_with fail
 unfold ckW at *
 generalize (w.alloc rbO).alloc (.cells (tmI 48 c ta tb ga va pa gn gc vn vc pn pc tat tto) 76) = W at *
 refine (zcc 0 0 (by decide) (.inl ⟨rfl, rfl, rfl, rfl⟩) W).mono ?_
 rintro e w1 ⟨g1, cap1, rfl, R1, hg1, b1⟩
 have h1 := (b1.block w.heap.size (by omega)).trans r0
 have c1 := zab h1
 have f1 := zae h1
 rw [zen]
 have HP : Hid (∀ u cap, CPost w0.heap.size b (.slice (some ⟨gL, 0, none⟩) ts.length capL) 50000 st 1 (.ok tI) w (.returned (.agg #[.slice (some ⟨g1, 0, none⟩) 1 cap])) (w1.setCell ⟨w.heap.size, 0, none⟩ u)) := by
  intro u cap
  have P : CPost w0.heap.size b (.slice (some ⟨gL, 0, none⟩) ts.length capL) 50000 st 1 (.ok tI) W (.returned (.agg #[.slice (some ⟨g1, 0, none⟩) 1 cap])) w1 := ⟨tI, g1, cap, rfl, R1, (HC0.out.below b1).1, (HC0.out.below b1).2, (fun u e => by first | exact Except.ok.inj e | cases e), (fun f e => by first | exact Nat.le_refl _ | cases e)⟩
  exact P.store HF0.out h1 (Nat.le_refl _) u
 clear R1 b1
 go_wp2_with fail
 refine zag rfl rfl (zac h1) ?_
 exact HP.out _ _
theorem check_litT (w0 : World) (b : Nat) (L : Value) (ts : List Tt) (st : List Se) (w : World) (k : Nat) (c ta tb : Nat) (ga va pa : Option Addr) (gn gc vn vc pn pc tat tto : Nat) (h : Ct w0 b L ts none st w) (hu : ts[k]? = some ⟨48, c, ta, tb, (ga, gn, gc), (va, vn, vc), (pa, pn, pc), tat, tto⟩) (hc : c = 84) :
 Calls Tryz.prog 61 #[.pointer (some ⟨b, 0, none⟩), .int .i64 (k : Int)] w (CPost w0.heap.size b L 50000 st 1 (.ok tB) w) := by
 have hT := h.terms
 obtain ⟨gL, capL, rfl, hgL, HLcs⟩ := id hT
 have HLC : Hid _ := HLcs
 clear HLcs
 obtain ⟨k0, k1, k2, k3, k4, k5, k6, k7, k8⟩ := hT.at hu
 simp only at k0 k1 k2 k3 k4 k5 k6 k7 k8
 have hkl : k < ts.length := (List.getElem?_eq_some_iff.1 hu).1
 have hlen := h.len
 have hblt := h.cs.lt
 have hw0 : w0.heap.size <= w.heap.size := h.old.size
 obtain ⟨S, hck, -, -⟩ := h.cs.mv
 have B0 := zcu (tmI 48 c ta tb ga va pa gn gc vn vc pn pc tat tto) w
 have r0 := zeq (tmI 48 c ta tb ga va pa gn gc vn vc pn pc tat tto) w
 have q0 := zdm (tmI 48 c ta tb ga va pa gn gc vn vc pn pc tat tto) w
 have z0 := zdj (tmI 48 c ta tb ga va pa gn gc vn vc pn pc tat tto) w
 have kb0 : w.cell? ⟨b, 0, none⟩ = some (.slice (some ⟨gL, 0, none⟩) ts.length capL) := cbl hck
 have kb0' : (w.alloc rbO).cell? ⟨b, 0, none⟩ = some (.slice (some ⟨gL, 0, none⟩) ts.length capL) := (World.cell?_alloc_lt _ _ ⟨b, 0, none⟩ hblt).trans kb0
 have kb2 : (ckW (tmI 48 c ta tb ga va pa gn gc vn vc pn pc tat tto) w).cell? ⟨b, 2, none⟩ = some (.int .i64 0) := by rw [Lib.cell_of_heap (hck.below B0)]; rfl
 have HC : Hid (Cs w0.heap.size b (.slice (some ⟨gL, 0, none⟩) ts.length capL) none 50000 st w) := h.cs
 have HC0 : Hid (Cs w0.heap.size b (.slice (some ⟨gL, 0, none⟩) ts.length capL) none 50000 st (ckW (tmI 48 c ta tb ga va pa gn gc vn vc pn pc tat tto) w)) := (h.cs.below B0).1
 have HF0 : Hid (CFr b w (ckW (tmI 48 c ta tb ga va pa gn gc vn vc pn pc tat tto) w)) := (h.cs.below B0).2
 have HCT : Hid (Ct w0 b (.slice (some ⟨gL, 0, none⟩) ts.length capL) ts none st w) := h
 have HB0 : Hid (Below w.heap.size w (ckW (tmI 48 c ta tb ga va pa gn gc vn vc pn pc tat tto) w)) := B0
 have HU : Hid (ts[k]? = some ⟨48, c, ta, tb, (ga, gn, gc), (va, vn, vc), (pa, pn, pc), tat, tto⟩) := hu
 have HSL : Hid (∀ j, srow b (ckW (tmI 48 c ta tb ga va pa gn gc vn vc pn pc tat tto) w) = some j -> j < w.heap.size) := by
  intro j e
  rw [(hck.below B0).row, <- hck.row] at e
  exact (h.cs.rowB j e).2
 have q1 : (ckW (tmI 48 c ta tb ga va pa gn gc vn vc pn pc tat tto) w).cell? ⟨w.heap.size + 1, 1, none⟩ = some (.int .u8 (c : Int)) := cbl q0
 have e1 : ((c : Int) == 84) = true := by rw [hc]; rfl
 clear hc
 clear h hT hu B0 hck
 go_enter Tryz.func61, Tryz.ntmps61
 go_wp2_with fail
 unfold ckW at *
 generalize (w.alloc rbO).alloc (.cells (tmI 48 c ta tb ga va pa gn gc vn vc pn pc tat tto) 76) = W at *
 refine (zcc 1 0 (by decide) (.inr (.inl ⟨rfl, rfl, rfl, rfl⟩)) W).mono ?_
 rintro e w1 ⟨g1, cap1, rfl, R1, hg1, b1⟩
 have h1 := (b1.block w.heap.size (by omega)).trans r0
 have c1 := zab h1
 have f1 := zae h1
 rw [zen]
 have HP : Hid (∀ u cap, CPost w0.heap.size b (.slice (some ⟨gL, 0, none⟩) ts.length capL) 50000 st 1 (.ok tB) w (.returned (.agg #[.slice (some ⟨g1, 0, none⟩) 1 cap])) (w1.setCell ⟨w.heap.size, 0, none⟩ u)) := by
  intro u cap
  have P : CPost w0.heap.size b (.slice (some ⟨gL, 0, none⟩) ts.length capL) 50000 st 1 (.ok tB) W (.returned (.agg #[.slice (some ⟨g1, 0, none⟩) 1 cap])) w1 := ⟨tB, g1, cap, rfl, R1, (HC0.out.below b1).1, (HC0.out.below b1).2, (fun u e => by first | exact Except.ok.inj e | cases e), (fun f e => by first | exact Nat.le_refl _ | cases e)⟩
  exact P.store HF0.out h1 (Nat.le_refl _) u
 clear R1 b1
 go_wp2_with fail
 refine zag rfl rfl (zac h1) ?_
 exact HP.out _ _
theorem check_litF (w0 : World) (b : Nat) (L : Value) (ts : List Tt) (st : List Se) (w : World) (k : Nat) (c ta tb : Nat) (ga va pa : Option Addr) (gn gc vn vc pn pc tat tto : Nat) (h : Ct w0 b L ts none st w) (hu : ts[k]? = some ⟨48, c, ta, tb, (ga, gn, gc), (va, vn, vc), (pa, pn, pc), tat, tto⟩) (hc : c = 70) :
 Calls Tryz.prog 61 #[.pointer (some ⟨b, 0, none⟩), .int .i64 (k : Int)] w (CPost w0.heap.size b L 50000 st 1 (.ok tB) w) := by
 have hT := h.terms
 obtain ⟨gL, capL, rfl, hgL, HLcs⟩ := id hT
 have HLC : Hid _ := HLcs
 clear HLcs
 obtain ⟨k0, k1, k2, k3, k4, k5, k6, k7, k8⟩ := hT.at hu
 simp only at k0 k1 k2 k3 k4 k5 k6 k7 k8
 have hkl : k < ts.length := (List.getElem?_eq_some_iff.1 hu).1
 have hlen := h.len
 have hblt := h.cs.lt
 have hw0 : w0.heap.size <= w.heap.size := h.old.size
 obtain ⟨S, hck, -, -⟩ := h.cs.mv
 have B0 := zcu (tmI 48 c ta tb ga va pa gn gc vn vc pn pc tat tto) w
 have r0 := zeq (tmI 48 c ta tb ga va pa gn gc vn vc pn pc tat tto) w
 have q0 := zdm (tmI 48 c ta tb ga va pa gn gc vn vc pn pc tat tto) w
 have z0 := zdj (tmI 48 c ta tb ga va pa gn gc vn vc pn pc tat tto) w
 have kb0 : w.cell? ⟨b, 0, none⟩ = some (.slice (some ⟨gL, 0, none⟩) ts.length capL) := cbl hck
 have kb0' : (w.alloc rbO).cell? ⟨b, 0, none⟩ = some (.slice (some ⟨gL, 0, none⟩) ts.length capL) := (World.cell?_alloc_lt _ _ ⟨b, 0, none⟩ hblt).trans kb0
 have kb2 : (ckW (tmI 48 c ta tb ga va pa gn gc vn vc pn pc tat tto) w).cell? ⟨b, 2, none⟩ = some (.int .i64 0) := by rw [Lib.cell_of_heap (hck.below B0)]; rfl
 have HC : Hid (Cs w0.heap.size b (.slice (some ⟨gL, 0, none⟩) ts.length capL) none 50000 st w) := h.cs
 have HC0 : Hid (Cs w0.heap.size b (.slice (some ⟨gL, 0, none⟩) ts.length capL) none 50000 st (ckW (tmI 48 c ta tb ga va pa gn gc vn vc pn pc tat tto) w)) := (h.cs.below B0).1
 have HF0 : Hid (CFr b w (ckW (tmI 48 c ta tb ga va pa gn gc vn vc pn pc tat tto) w)) := (h.cs.below B0).2
 have HCT : Hid (Ct w0 b (.slice (some ⟨gL, 0, none⟩) ts.length capL) ts none st w) := h
 have HB0 : Hid (Below w.heap.size w (ckW (tmI 48 c ta tb ga va pa gn gc vn vc pn pc tat tto) w)) := B0
 have HU : Hid (ts[k]? = some ⟨48, c, ta, tb, (ga, gn, gc), (va, vn, vc), (pa, pn, pc), tat, tto⟩) := hu
 have HSL : Hid (∀ j, srow b (ckW (tmI 48 c ta tb ga va pa gn gc vn vc pn pc tat tto) w) = some j -> j < w.heap.size) := by
  intro j e
  rw [(hck.below B0).row, <- hck.row] at e
  exact (h.cs.rowB j e).2
 have q1 : (ckW (tmI 48 c ta tb ga va pa gn gc vn vc pn pc tat tto) w).cell? ⟨w.heap.size + 1, 1, none⟩ = some (.int .u8 (c : Int)) := cbl q0
 have e1 : ((c : Int) == 84) = false := by rw [hc]; rfl
 have e2 : ((c : Int) == 70) = true := by rw [hc]; rfl
 clear hc
 clear h hT hu B0 hck
 go_enter Tryz.func61, Tryz.ntmps61
 go_wp2_with fail
 unfold ckW at *
 generalize (w.alloc rbO).alloc (.cells (tmI 48 c ta tb ga va pa gn gc vn vc pn pc tat tto) 76) = W at *
 refine (zcc 1 0 (by decide) (.inr (.inl ⟨rfl, rfl, rfl, rfl⟩)) W).mono ?_
 rintro e w1 ⟨g1, cap1, rfl, R1, hg1, b1⟩
 have h1 := (b1.block w.heap.size (by omega)).trans r0
 have c1 := zab h1
 have f1 := zae h1
 rw [zen]
 have HP : Hid (∀ u cap, CPost w0.heap.size b (.slice (some ⟨gL, 0, none⟩) ts.length capL) 50000 st 1 (.ok tB) w (.returned (.agg #[.slice (some ⟨g1, 0, none⟩) 1 cap])) (w1.setCell ⟨w.heap.size, 0, none⟩ u)) := by
  intro u cap
  have P : CPost w0.heap.size b (.slice (some ⟨gL, 0, none⟩) ts.length capL) 50000 st 1 (.ok tB) W (.returned (.agg #[.slice (some ⟨g1, 0, none⟩) 1 cap])) w1 := ⟨tB, g1, cap, rfl, R1, (HC0.out.below b1).1, (HC0.out.below b1).2, (fun u e => by first | exact Except.ok.inj e | cases e), (fun f e => by first | exact Nat.le_refl _ | cases e)⟩
  exact P.store HF0.out h1 (Nat.le_refl _) u
 clear R1 b1
 go_wp2_with fail
 refine zag rfl rfl (zac h1) ?_
 exact HP.out _ _
theorem zkg (w0 : World) (b : Nat) (L : Value) (ts : List Tt) (st : List Se) (w : World) (k : Nat) (c ta tb : Nat) (ga va pa : Option Addr) (gn gc vn vc pn pc tat tto : Nat) (h : Ct w0 b L ts none st w) (hu : ts[k]? = some ⟨120, c, ta, tb, (ga, gn, gc), (va, vn, vc), (pa, pn, pc), tat, tto⟩) (N : Nat) (R : COut)
 (HN : ∀ X, Below w.heap.size w X -> Calls Tryz.prog 98 #[.pointer (some ⟨b, 0, none⟩), .agg (tmA 120 c ta tb ga va pa gn gc vn vc pn pc tat tto)] X (CPost w0.heap.size b L 50000 st N R X)) :
 Calls Tryz.prog 61 #[.pointer (some ⟨b, 0, none⟩), .int .i64 (k : Int)] w (CPost w0.heap.size b L 50000 st N R w) := by
 have hT := h.terms
 obtain ⟨gL, capL, rfl, hgL, HLcs⟩ := id hT
 have HLC : Hid _ := HLcs
 clear HLcs
 obtain ⟨k0, k1, k2, k3, k4, k5, k6, k7, k8⟩ := hT.at hu
 simp only at k0 k1 k2 k3 k4 k5 k6 k7 k8
 have hkl : k < ts.length := (List.getElem?_eq_some_iff.1 hu).1
 have hlen := h.len
 have hblt := h.cs.lt
 have hw0 : w0.heap.size <= w.heap.size := h.old.size
 obtain ⟨S, hck, -, -⟩ := h.cs.mv
 have B0 := zcu (tmI 120 c ta tb ga va pa gn gc vn vc pn pc tat tto) w
 have r0 := zeq (tmI 120 c ta tb ga va pa gn gc vn vc pn pc tat tto) w
 have q0 := zdm (tmI 120 c ta tb ga va pa gn gc vn vc pn pc tat tto) w
 have z0 := zdj (tmI 120 c ta tb ga va pa gn gc vn vc pn pc tat tto) w
 have kb0 : w.cell? ⟨b, 0, none⟩ = some (.slice (some ⟨gL, 0, none⟩) ts.length capL) := cbl hck
 have kb0' : (w.alloc rbO).cell? ⟨b, 0, none⟩ = some (.slice (some ⟨gL, 0, none⟩) ts.length capL) := (World.cell?_alloc_lt _ _ ⟨b, 0, none⟩ hblt).trans kb0
 have kb2 : (ckW (tmI 120 c ta tb ga va pa gn gc vn vc pn pc tat tto) w).cell? ⟨b, 2, none⟩ = some (.int .i64 0) := by rw [Lib.cell_of_heap (hck.below B0)]; rfl
 have HC : Hid (Cs w0.heap.size b (.slice (some ⟨gL, 0, none⟩) ts.length capL) none 50000 st w) := h.cs
 have HC0 : Hid (Cs w0.heap.size b (.slice (some ⟨gL, 0, none⟩) ts.length capL) none 50000 st (ckW (tmI 120 c ta tb ga va pa gn gc vn vc pn pc tat tto) w)) := (h.cs.below B0).1
 have HF0 : Hid (CFr b w (ckW (tmI 120 c ta tb ga va pa gn gc vn vc pn pc tat tto) w)) := (h.cs.below B0).2
 have HCT : Hid (Ct w0 b (.slice (some ⟨gL, 0, none⟩) ts.length capL) ts none st w) := h
 have HB0 : Hid (Below w.heap.size w (ckW (tmI 120 c ta tb ga va pa gn gc vn vc pn pc tat tto) w)) := B0
 have HU : Hid (ts[k]? = some ⟨120, c, ta, tb, (ga, gn, gc), (va, vn, vc), (pa, pn, pc), tat, tto⟩) := hu
 have HSL : Hid (∀ j, srow b (ckW (tmI 120 c ta tb ga va pa gn gc vn vc pn pc tat tto) w) = some j -> j < w.heap.size) := by
  intro j e
  rw [(hck.below B0).row, <- hck.row] at e
  exact (h.cs.rowB j e).2
 have HNH : Hid (Calls Tryz.prog 98 #[.pointer (some ⟨b, 0, none⟩), .agg (tmI 120 c ta tb ga va pa gn gc vn vc pn pc tat tto)] (ckW (tmI 120 c ta tb ga va pa gn gc vn vc pn pc tat tto) w) (CPost w0.heap.size b (.slice (some ⟨gL, 0, none⟩) ts.length capL) 50000 st N R (ckW (tmI 120 c ta tb ga va pa gn gc vn vc pn pc tat tto) w))) := HN _ B0
 clear HN
 clear h hT hu B0 hck
 go_enter Tryz.func61, Tryz.ntmps61
 go_wp2_with fail
 unfold ckW at *
 generalize (w.alloc rbO).alloc (.cells (tmI 120 c ta tb ga va pa gn gc vn vc pn pc tat tto) 76) = W at *
 refine HNH.out.mono ?_
 intro e w1 hP
 obtain ⟨n1, g1, cap1, rfl⟩ := hP.form
 have HP : Hid (CPost w0.heap.size b (.slice (some ⟨gL, 0, none⟩) ts.length capL) 50000 st N R W (.returned (.agg #[.slice (some ⟨g1, 0, none⟩) n1 cap1])) w1) := hP
 have hbr := HC0.out.box r0 (.int .i64 0)
 have h1 : w1.heap[w.heap.size]? = some (.cells #[.slice none 0 0] 33 (0, 0)) := by
  obtain ⟨_, _, _, _, _, _, F, _⟩ := hP
  exact F.old (B := w0.heap.size) (L := (.slice (some ⟨gL, 0, none⟩) ts.length capL)) (ε := none) (m := 0) (st := []) r0 hbr.2.1 hbr.2.2
 have c1 := zab h1
 have f1 := zae h1
 clear hP hbr
 go_wp2_with fail
 refine zag rfl rfl (zac h1) ?_
 exact HP.out.store HF0.out h1 (Nat.le_refl _) _
theorem zim {B b N : Nat} {L S : Value} {m : Nat} {st : List Se} {w : World} {c q : Nat} {e : Ending} {w' : World}
 (mv : ∀ (ε' : Ce) (w' : World), (∀ r, ε' = some r -> 1 <= r.1) -> Ck b L S (cErr ε') (cAt ε') m w' -> w.grownBy w' (some b) -> Cs B b L ε' m st w' /\ CFr b w w')
 (hc : 1 <= c) (hN : 1 <= N) (P : FPost b L S c q m w e w') : CPost B b L m st N (.error (c, q)) w e w' := by
 obtain ⟨g, cap, rfl, R, hg, C, G⟩ := P
 obtain ⟨h1, h2⟩ := mv (some (c, q)) _ (fun r e => by cases e; exact hc) C G
 exact ⟨tI, g, cap, rfl, R, h1, h2, (fun u e => by cases e), fun f _ => hN⟩
theorem call_any (B b : Nat) (L : Value) (st : List Se) (N op c ta tb : Nat) (ga va pa : Option Addr) (gn gc vn vc pn pc tat tto : Nat) (f y : Ty) (gf cf gy cy : Nat) (w : World) (h : Cs B b L none 50000 st w) (hf : Rg gf f w) (hy : Rg gy y w) (hfl : sz f <= 60000) (hyl : sz y <= 60000) (hN : 1 <= N) :
 Calls Tryz.prog 101 #[.pointer (some ⟨b, 0, none⟩), .agg (tmA op c ta tb ga va pa gn gc vn vc pn pc tat tto), .agg #[.slice (some ⟨gf, 0, none⟩) (sz f) cf], .agg #[.slice (some ⟨gy, 0, none⟩) (sz y) cy]] w (CPost B b L 50000 st N (callT f y tto) w) := by
 obtain ⟨S, hk, -, mv⟩ := h.mv
 have bad : (rt f 0).op ≠ 62 -> callT f y tto = .error (5, tto) -> Calls Tryz.prog 101 #[.pointer (some ⟨b, 0, none⟩), .agg (tmA op c ta tb ga va pa gn gc vn vc pn pc tat tto), .agg #[.slice (some ⟨gf, 0, none⟩) (sz f) cf], .agg #[.slice (some ⟨gy, 0, none⟩) (sz y) cy]] w (CPost B b L 50000 st N (callT f y tto) w) := by
  intro h1 h2
  rw [h2]
  exact (call_root b op c ta tb ga va pa gn gc vn vc pn pc tat tto f (sz y) gf cf gy cy L S 0 50000 w hk hf hfl h1).mono fun e w' P => zim mv (by decide) hN P
 rcases hf.ok.cases with rfl | rfl | ⟨o, h1, h2, rfl⟩ | ⟨a, ha, rfl⟩ | ⟨a, a', ha, ha', rfl⟩ | ⟨a, a', ha, ha', rfl⟩
 · exact bad (by decide) rfl
 · exact bad (by decide) rfl
 · exact bad (by show o + 30 ≠ 62; omega) rfl
 · exact bad (by show 91 ≠ 62; decide) rfl
 · exact bad (by show 42 ≠ 62; decide) rfl
 · by_cases he : a = y
   · subst he
     have e : callT (tF a a') a tto = .ok a' := by
      show (if eqT a a then Except.ok a' else Except.error (5, tto)) = Except.ok a'
      rw [if_pos ((zcx a a).2 rfl)]
     rw [e]
     refine (call_ok b op c ta tb ga va pa gn gc vn vc pn pc tat tto a a' gf cf gy cy w hf hy hfl ha ha').mono ?_
     rintro e w' ⟨g, cap, rfl, R, hg, hb⟩
     exact ⟨a', g, cap, rfl, R, (h.below hb).1, (h.below hb).2, (fun u e => Except.ok.inj e), (fun f e => by cases e)⟩
   · have e : callT (tF a a') y tto = .error (5, tto) := by
      show (if eqT a y then Except.ok a' else Except.error (5, tto)) = Except.error (5, tto)
      rw [if_neg (fun e => he ((zcx a y).1 e))]
     rw [e]
     exact (call_diff b op c ta tb ga va pa gn gc vn vc pn pc tat tto a a' y gf cf gy cy L S 0 50000 w hk hf hy hfl hyl ha he).mono fun e w' P => zim mv (by decide) hN P
def callC (ra rb : COut) (p : Nat) : COut := match ra with
 | .error r => .error r
 | .ok f => match rb with
  | .error r => .error r
  | .ok y => callT f y p
def secC (ra rb : COut) : COut := match ra with
 | .error r => .error r
 | .ok _ => rb
theorem CFr.rowNe {b r : Nat} {w w1 : World} (F : CFr b w w1) (hn : srow b w ≠ some r) (hl : r < w.heap.size) : srow b w1 ≠ some r := by
 rcases F.row with e | ⟨q, e, hq⟩
 · rw [e]; exact hn
 · rw [e]; simp; omega
theorem CFr.keep {b r : Nat} {w w1 : World} {o : Obj} (F : CFr b w w1) (hr : w.heap[r]? = some o) (hb : b ≠ r) (hn : srow b w ≠ some r) : w1.heap[r]? = some o /\ srow b w1 ≠ some r :=
 ⟨F.old (B := 0) (L := .nilIface) (ε := none) (m := 0) (st := []) hr hb hn, F.rowNe hn (Array.getElem?_eq_some_iff.1 hr).1⟩
theorem CFr.ct {w0 : World} {b : Nat} {L : Value} {ts : List Tt} {ε ε' : Ce} {st st' : List Se} {w w' : World} (h : Ct w0 b L ts ε st w) (F : CFr b w w') (hc : Cs w0.heap.size b L ε' 50000 st' w') : Ct w0 b L ts ε' st' w' :=
 ⟨h.old.trans (h.cs.tu F h.old.size), hc, h.lr, h.len⟩
theorem check_call (w0 : World) (b : Nat) (L : Value) (ts : List Tt) (st : List Se) (w : World) (k : Nat) (c ta tb : Nat) (ga va pa : Option Addr) (gn gc vn vc pn pc tat tto : Nat) (h : Ct w0 b L ts none st w) (hu : ts[k]? = some ⟨99, c, ta, tb, (ga, gn, gc), (va, vn, vc), (pa, pn, pc), tat, tto⟩) (Na Nb N : Nat) (Ra Rb : COut) (hta : ta < ts.length) (htb : tb < ts.length) (hN : 1 <= N)
 (hfa : ∀ u, Ra = .ok u -> sz u <= 60000) (hfb : ∀ u, Rb = .ok u -> sz u <= 60000)
 (HA : ∀ X, Ct w0 b L ts none st X -> Calls Tryz.prog 61 #[.pointer (some ⟨b, 0, none⟩), .int .i64 (ta : Int)] X (CPost w0.heap.size b L 50000 st Na Ra X))
 (HB : ∀ X, Ct w0 b L ts none st X -> Calls Tryz.prog 61 #[.pointer (some ⟨b, 0, none⟩), .int .i64 (tb : Int)] X (CPost w0.heap.size b L 50000 st Nb Rb X)) :
 Calls Tryz.prog 61 #[.pointer (some ⟨b, 0, none⟩), .int .i64 (k : Int)] w (CPost w0.heap.size b L 50000 st N (callC Ra Rb tto) w) := by
 have hT := h.terms
 obtain ⟨gL, capL, rfl, hgL, HLcs⟩ := id hT
 have HLC : Hid _ := HLcs
 clear HLcs
 obtain ⟨k0, k1, k2, k3, k4, k5, k6, k7, k8⟩ := hT.at hu
 simp only at k0 k1 k2 k3 k4 k5 k6 k7 k8
 have hkl : k < ts.length := (List.getElem?_eq_some_iff.1 hu).1
 have hlen := h.len
 have hblt := h.cs.lt
 have hw0 : w0.heap.size <= w.heap.size := h.old.size
 obtain ⟨S, hck, -, -⟩ := h.cs.mv
 have B0 := zcu (tmI 99 c ta tb ga va pa gn gc vn vc pn pc tat tto) w
 have r0 := zeq (tmI 99 c ta tb ga va pa gn gc vn vc pn pc tat tto) w
 have q0 := zdm (tmI 99 c ta tb ga va pa gn gc vn vc pn pc tat tto) w
 have z0 := zdj (tmI 99 c ta tb ga va pa gn gc vn vc pn pc tat tto) w
 have kb0 : w.cell? ⟨b, 0, none⟩ = some (.slice (some ⟨gL, 0, none⟩) ts.length capL) := cbl hck
 have kb0' : (w.alloc rbO).cell? ⟨b, 0, none⟩ = some (.slice (some ⟨gL, 0, none⟩) ts.length capL) := (World.cell?_alloc_lt _ _ ⟨b, 0, none⟩ hblt).trans kb0
 have kb2 : (ckW (tmI 99 c ta tb ga va pa gn gc vn vc pn pc tat tto) w).cell? ⟨b, 2, none⟩ = some (.int .i64 0) := by rw [Lib.cell_of_heap (hck.below B0)]; rfl
 have HC : Hid (Cs w0.heap.size b (.slice (some ⟨gL, 0, none⟩) ts.length capL) none 50000 st w) := h.cs
 have HC0 : Hid (Cs w0.heap.size b (.slice (some ⟨gL, 0, none⟩) ts.length capL) none 50000 st (ckW (tmI 99 c ta tb ga va pa gn gc vn vc pn pc tat tto) w)) := (h.cs.below B0).1
 have HF0 : Hid (CFr b w (ckW (tmI 99 c ta tb ga va pa gn gc vn vc pn pc tat tto) w)) := (h.cs.below B0).2
 have HCT : Hid (Ct w0 b (.slice (some ⟨gL, 0, none⟩) ts.length capL) ts none st w) := h
 have HB0 : Hid (Below w.heap.size w (ckW (tmI 99 c ta tb ga va pa gn gc vn vc pn pc tat tto) w)) := B0
 have HU : Hid (ts[k]? = some ⟨99, c, ta, tb, (ga, gn, gc), (va, vn, vc), (pa, pn, pc), tat, tto⟩) := hu
 have HSL : Hid (∀ j, srow b (ckW (tmI 99 c ta tb ga va pa gn gc vn vc pn pc tat tto) w) = some j -> j < w.heap.size) := by
  intro j e
  rw [(hck.below B0).row, <- hck.row] at e
  exact (h.cs.rowB j e).2
 have HCTW : Hid (Ct w0 b (.slice (some ⟨gL, 0, none⟩) ts.length capL) ts none st (ckW (tmI 99 c ta tb ga va pa gn gc vn vc pn pc tat tto) w)) := (h.cs.below B0).2.ct h (h.cs.below B0).1
 have HHA : Hid (Calls Tryz.prog 61 #[.pointer (some ⟨b, 0, none⟩), .int .i64 (ta : Int)] (ckW (tmI 99 c ta tb ga va pa gn gc vn vc pn pc tat tto) w) (CPost w0.heap.size b (.slice (some ⟨gL, 0, none⟩) ts.length capL) 50000 st Na Ra (ckW (tmI 99 c ta tb ga va pa gn gc vn vc pn pc tat tto) w))) := HA _ HCTW.out
 have HHB : Hid (∀ X, Ct w0 b (.slice (some ⟨gL, 0, none⟩) ts.length capL) ts (errOf Ra) st X -> Calls Tryz.prog 61 #[.pointer (some ⟨b, 0, none⟩), .int .i64 (tb : Int)] X (CPost w0.heap.size b (.slice (some ⟨gL, 0, none⟩) ts.length capL) 50000 st (Nb + 1) (secC Ra Rb) X)) := by
  intro X hX
  cases Ra with
  | error r =>
   refine (zil w0 b _ ts r st X tb hX htb).mono ?_
   rintro e w' ⟨t, g, cap, rfl, R, C, F, h1, h2⟩
   exact ⟨t, g, cap, rfl, R, C, F, h1, fun f e => Nat.le_trans (h2 f e) (by omega)⟩
  | ok u =>
   refine (HB X hX).mono ?_
   rintro e w' ⟨t, g, cap, rfl, R, C, F, h1, h2⟩
   exact ⟨t, g, cap, rfl, R, C, F, h1, fun f e => Nat.le_trans (h2 f e) (by omega)⟩
 have HFA : Hid (∀ u, Ra = .ok u -> sz u <= 60000) := hfa
 have HFB : Hid (∀ u, Rb = .ok u -> sz u <= 60000) := hfb
 clear HA HB hfa hfb
 clear h hT hu B0 hck
 go_enter Tryz.func61, Tryz.ntmps61
 go_wp2_with fail
 unfold ckW at *
 generalize (w.alloc rbO).alloc (.cells (tmI 99 c ta tb ga va pa gn gc vn vc pn pc tat tto) 76) = W at *
 refine HHA.out.mono ?_
 intro e w1 hP1
 obtain ⟨t1, g1, cap1, rfl, R1, C1, F1, y1, y1'⟩ := hP1
 have HY1 : Hid (∀ u, Ra = .ok u -> t1 = u) := y1
 have bA : Below w1.heap.size w1 (w1.alloc (tbO g1 (sz t1) cap1)) := bal w1 _
 have HC2 : Hid (Cs w0.heap.size b (.slice (some ⟨gL, 0, none⟩) ts.length capL) (errOf Ra) 50000 st (w1.alloc (tbO g1 (sz t1) cap1))) := (C1.below bA).1
 have HF2 : Hid (CFr b W (w1.alloc (tbO g1 (sz t1) cap1))) := F1.trans (C1.below bA).2
 have HR2 : Hid (Rg g1 t1 (w1.alloc (tbO g1 (sz t1) cap1))) := R1.below bA
 have x2 : (w1.alloc (tbO g1 (sz t1) cap1)).heap[w1.heap.size]? = some (.cells #[.slice (some ⟨g1, 0, none⟩) (sz t1) cap1] 33 (0, 0)) := heap_alloc_new w1 _
 have s1 := F1.size
 have sA : (w1.alloc (tbO g1 (sz t1) cap1)).heap.size = w1.heap.size + 1 := by simp
 have nr : srow b W ≠ some w.heap.size := fun e => by have := HSL.out _ e; omega
 have nq : srow b W ≠ some (w.heap.size + 1) := fun e => by have := HSL.out _ e; omega
 obtain ⟨r1, nr1⟩ := F1.keep r0 (by omega) nr
 obtain ⟨q1, nq1⟩ := F1.keep q0 (by omega) nq
 have r2 := (Below.heap_alloc w1 (tbO g1 (sz t1) cap1) w.heap.size (by omega)).trans r1
 have q2 := (Below.heap_alloc w1 (tbO g1 (sz t1) cap1) (w.heap.size + 1) (by omega)).trans q1
 have nx2 : srow b (w1.alloc (tbO g1 (sz t1) cap1)) ≠ some w1.heap.size := by
  intro e
  obtain ⟨S', hk', -⟩ := C1.mv
  rw [(hk'.below bA).row, <- hk'.row] at e
  have := (C1.rowB _ e).2
  omega
 have nr2 := HF2.out.rowNe nr (by omega)
 have nq2 := HF2.out.rowNe nq (by omega)
 have qa : (w1.alloc (tbO g1 (sz t1) cap1)).cell? ⟨w.heap.size + 1, 3, none⟩ = some (.int .i64 (tb : Int)) := cbl q2
 have q1a : W.cell? ⟨w.heap.size + 1, 2, none⟩ = some (.int .i64 (ta : Int)) := cbl q0
 have HNX : Hid (srow b (w1.alloc (tbO g1 (sz t1) cap1)) ≠ some w1.heap.size) := nx2
 have HNR : Hid (srow b (w1.alloc (tbO g1 (sz t1) cap1)) ≠ some w.heap.size) := nr2
 have HNQ : Hid (srow b (w1.alloc (tbO g1 (sz t1) cap1)) ≠ some (w.heap.size + 1)) := nq2
 have HCT2 : Hid (Ct w0 b (.slice (some ⟨gL, 0, none⟩) ts.length capL) ts (errOf Ra) st (w1.alloc (tbO g1 (sz t1) cap1))) := HF2.out.ct HCTW.out HC2.out
 clear R1 C1 F1 y1 y1' bA nr nq nr1 nq1 nx2 nr2 nq2 r1 q1
 go_wp2_with fail
 generalize hn1 : sz t1 = n1 at *
 have HN1 : Hid (sz t1 = n1) := hn1
 clear hn1
 generalize hY : w1.alloc (tbO g1 n1 cap1) = Y at *
 clear hY
 refine (HHB.out Y HCT2.out).mono ?_
 intro e w2 hP2
 obtain ⟨t2, g2, cap2, rfl, R2, C2, F2, y2, y2'⟩ := hP2
 have HY2 : Hid (∀ u, secC Ra Rb = .ok u -> t2 = u) := y2
 have bB : Below w2.heap.size w2 (w2.alloc (tbO g2 (sz t2) cap2)) := bal w2 _
 have HC3 : Hid (Cs w0.heap.size b (.slice (some ⟨gL, 0, none⟩) ts.length capL) (errOf (secC Ra Rb)) 50000 st (w2.alloc (tbO g2 (sz t2) cap2))) := (C2.below bB).1
 have HF3 : Hid (CFr b Y (w2.alloc (tbO g2 (sz t2) cap2))) := F2.trans (C2.below bB).2
 have HR3 : Hid (Rg g2 t2 (w2.alloc (tbO g2 (sz t2) cap2))) := R2.below bB
 have HR3' : Hid (Rg g1 t1 (w2.alloc (tbO g2 (sz t2) cap2))) := HR2.out.cfr HC2.out HF3.out
 have x3 : (w2.alloc (tbO g2 (sz t2) cap2)).heap[w2.heap.size]? = some (.cells #[.slice (some ⟨g2, 0, none⟩) (sz t2) cap2] 33 (0, 0)) := heap_alloc_new w2 _
 have s2 := F2.size
 have sB : (w2.alloc (tbO g2 (sz t2) cap2)).heap.size = w2.heap.size + 1 := by simp
 have r3 := (HF3.out.keep r2 (by omega) HNR.out).1
 have q3 := (HF3.out.keep q2 (by omega) HNQ.out).1
 have x3' := (HF3.out.keep x2 (by omega) HNX.out).1
 obtain ⟨S3, hk3, -, -⟩ := HC3.out.mv
 have e3 : (w2.alloc (tbO g2 (sz t2) cap2)).cell? ⟨b, 2, none⟩ = some (.int .i64 (cErr (errOf (secC Ra Rb)) : Int)) := cbl hk3
 have c31 := zab x3'
 have c32 := zab x3
 have c3r := zab r3
 have f3r := zae r3
 have HF : Hid (CFr b w (w2.alloc (tbO g2 (sz t2) cap2))) := (HF0.out.trans HF2.out).trans HF3.out
 have q3all : ∀ j v, (tmI 99 c ta tb ga va pa gn gc vn vc pn pc tat tto)[j]? = some v -> (w2.alloc (tbO g2 (sz t2) cap2)).cell? ⟨w.heap.size + 1, j, none⟩ = some v := fun j v hv => by rw [Lib.cell_of_heap q3]; exact hv
 have j0 := q3all 0 _ rfl
 have j1 := q3all 1 _ rfl
 have j2 := q3all 2 _ rfl
 have j3 := q3all 3 _ rfl
 have j4 := q3all 4 _ rfl
 have j5 := q3all 5 _ rfl
 have j6 := q3all 6 _ rfl
 have j7 := q3all 7 _ rfl
 have j8 := q3all 8 _ rfl
 clear R2 C2 F2 y2 y2' bB r2 q2 x2 q3all hk3 qa
 cases hR : secC Ra Rb with
 | error r =>
  have HRR : Hid (callC Ra Rb tto = .error r) := by
   unfold Hid
   cases Ra with
   | error r' => cases hR; rfl
   | ok u => cases Rb with
    | error r' => cases hR; rfl
    | ok u' => cases hR
  rw [hR] at e3 HC3
  obtain ⟨r1, r2⟩ := r
  have her : 1 <= r1 := HC3.out.2.2.1 _ rfl
  have e1 : ((r1 : Int) != 0) = true := by rw [bne_iff_ne]; omega
  have e3' : (w2.alloc (tbO g2 (sz t2) cap2)).cell? ⟨b, 2, none⟩ = some (.int .i64 (r1 : Int)) := e3
  clear hR e3 HY2
  go_wp2_with fail
  generalize w2.alloc (tbO g2 (sz t2) cap2) = Z at *
  refine (zcc 0 0 (by decide) (.inl ⟨rfl, rfl, rfl, rfl⟩) Z).mono ?_
  rintro e w4 ⟨g4, cap4, rfl, R4, hg4, b4⟩
  have h4 := (b4.block w.heap.size (by omega)).trans r3
  have c4 := zab h4
  have f4 := zae h4
  rw [zen]
  have HP : Hid (∀ u cap, CPost w0.heap.size b (.slice (some ⟨gL, 0, none⟩) ts.length capL) 50000 st N (callC Ra Rb tto) w (.returned (.agg #[.slice (some ⟨g4, 0, none⟩) 1 cap])) (w4.setCell ⟨w.heap.size, 0, none⟩ u)) := by
   intro u cap
   rw [HRR.out]
   have P : CPost w0.heap.size b (.slice (some ⟨gL, 0, none⟩) ts.length capL) 50000 st N (.error (r1, r2)) Z (.returned (.agg #[.slice (some ⟨g4, 0, none⟩) 1 cap])) w4 := ⟨tI, g4, cap, rfl, R4, (HC3.out.below b4).1, (HC3.out.below b4).2, (fun u e => by cases e), (fun f e => hN)⟩
   exact P.store HF.out h4 (Nat.le_refl _) u
  clear R4 b4
  go_wp2_with fail
  refine zag rfl rfl (zac h4) ?_
  exact HP.out _ _
 | ok u' =>
  obtain ⟨u, hu1, hu2⟩ : ∃ u, Ra = .ok u /\ Rb = .ok u' := by
   cases Ra with
   | error r' => cases hR
   | ok u => exact ⟨u, rfl, hR⟩
  have hv1 := HY1.out u hu1
  have hv2 := HY2.out u' hR
  subst hv1 hv2
  have HRR : Hid (callC Ra Rb tto = callT t1 t2 tto) := by rw [hu1, hu2]; rfl
  rw [hR] at e3 HC3
  have e3' : (w2.alloc (tbO g2 (sz t2) cap2)).cell? ⟨b, 2, none⟩ = some (.int .i64 0) := e3
  have HCA : Hid (Calls Tryz.prog 101 #[.pointer (some ⟨b, 0, none⟩), .agg (tmI 99 c ta tb ga va pa gn gc vn vc pn pc tat tto), .agg #[.slice (some ⟨g1, 0, none⟩) n1 cap1], .agg #[.slice (some ⟨g2, 0, none⟩) (sz t2) cap2]] (w2.alloc (tbO g2 (sz t2) cap2)) (CPost w0.heap.size b (.slice (some ⟨gL, 0, none⟩) ts.length capL) 50000 st N (callT t1 t2 tto) (w2.alloc (tbO g2 (sz t2) cap2)))) := by
   have := call_any w0.heap.size b (.slice (some ⟨gL, 0, none⟩) ts.length capL) st N 99 c ta tb ga va pa gn gc vn vc pn pc tat tto t1 t2 g1 cap1 g2 cap2 _ HC3.out HR3'.out HR3.out (HFA.out _ hu1) (HFB.out _ hu2) hN
   rw [HN1.out] at this
   exact this
  clear hR e3 HY2 HY1 hu1 hu2
  generalize hn2 : sz t2 = n2 at *
  clear hn2
  go_wp2_with fail
  generalize w2.alloc (tbO g2 n2 cap2) = Z at *
  refine HCA.out.mono ?_
  intro e w4 hP4
  obtain ⟨n4, g4, cap4, rfl⟩ := hP4.form
  have h4 : w4.heap[w.heap.size]? = some (.cells #[.slice none 0 0] 33 (0, 0)) := by
   obtain ⟨_, _, _, _, _, _, F, _⟩ := hP4
   exact (F.keep r3 (by omega) (HF3.out.rowNe HNR.out (by omega))).1
  have c4 := zab h4
  have f4 := zae h4
  have HP : Hid (∀ u, CPost w0.heap.size b (.slice (some ⟨gL, 0, none⟩) ts.length capL) 50000 st N (callC Ra Rb tto) w (.returned (.agg #[.slice (some ⟨g4, 0, none⟩) n4 cap4])) (w4.setCell ⟨w.heap.size, 0, none⟩ u)) := by
   intro u
   rw [HRR.out]
   exact hP4.store HF.out h4 (Nat.le_refl _) u
  clear hP4
  go_wp2_with fail
  refine zag rfl rfl (zac h4) ?_
  exact HP.out _
theorem zlb : (Tryz.prog.info? 150).map (fun i => (i.zero, i.size, i.bytes)) = some (some (.agg #[.int .u8 0, .slice none 0 0, .slice none 0 0]), 3, 56) := by kernel_rfl
abbrev seA (c h n cp : Nat) (va : Option Addr) (vn vc : Nat) : Array Value := #[.int .u8 (c : Int), .slice (some ⟨h, 0, none⟩) n cp, .slice va vn vc]
abbrev seO (c h n cp : Nat) (va : Option Addr) (vn vc : Nat) : Obj := .cells (seA c h n cp va vn vc) 150
theorem se_news (W : World) (c h n cp : Nat) (va : Option Addr) (vn vc : Nat) : ∀ j u, [Value.int .u8 (c : Int), .slice (some ⟨h, 0, none⟩) n cp, .slice va vn vc][j]? = some u -> (W.alloc (seO c h n cp va vn vc)).drew.cell? ((⟨W.heap.size, 0, none⟩ : Addr).add j) = some u := by
 have hnb : (W.alloc (seO c h n cp va vn vc)).drew.heap[W.heap.size]? = some (.cells (seA c h n cp va vn vc) 150 (0, 0)) := heap_alloc_new W _
 exact World.news_of_block hnb
theorem zax {W w1 : World} {A : Obj} {row : Option Nat} (hg : (W.alloc A).drew.grownBy w1 row) {g : Nat} {o : Obj} (hb : W.heap[g]? = some o) (hne : row ≠ some g) : w1.heap[g]? = some o := by
 have hlt : g < W.heap.size := (Array.getElem?_eq_some_iff.1 hb).1
 rw [hg.block g (by show g < (W.alloc A).heap.size; simp; omega) (Ne.symm hne)]
 show (W.alloc A).heap[g]? = some o
 rw [Below.heap_alloc _ _ _ hlt]; exact hb
def funC (u : Ty) (r : COut) (p : Nat) : COut := match r with
 | .error f => .error f
 | .ok t => if 50000 < sz (tF u t) then .error (8, p) else .ok (tF u t)
theorem check_fn (w0 : World) (b : Nat) (L : Value) (ts : List Tt) (st : List Se) (w : World) (k : Nat) (c ta tb : Nat) (ga va pa : Option Addr) (gn gc vn vc pn pc tat tto : Nat) (h : Ct w0 b L ts none st w) (hu : ts[k]? = some ⟨92, c, ta, tb, (ga, gn, gc), (va, vn, vc), (pa, pn, pc), tat, tto⟩) (u : Ty) (Na N : Nat) (Ra : COut) (hta : ta < ts.length) (hN : sz u + 1 + Na <= N) (hNa : Na <= 60000) (hsu : sz u <= 60000) (hls : st.length <= 100000)
 (hG : Ls w0 (.slice ga gn gc) [u]) (hfa : ∀ v, Ra = .ok v -> sz v <= 60000)
 (HA : ∀ X h0 cp, Ct w0 b L ts none (st ++ [⟨c, u, [], h0, cp, (none, 0, 0)⟩]) X -> Calls Tryz.prog 61 #[.pointer (some ⟨b, 0, none⟩), .int .i64 (ta : Int)] X (CPost w0.heap.size b L 50000 (st ++ [⟨c, u, [], h0, cp, (none, 0, 0)⟩]) Na Ra X)) :
 Calls Tryz.prog 61 #[.pointer (some ⟨b, 0, none⟩), .int .i64 (k : Int)] w (CPost w0.heap.size b L 50000 st N (funC u Ra tat) w) := by
 have hT := h.terms
 obtain ⟨gL, capL, rfl, hgL, HLcs⟩ := id hT
 have HLC : Hid _ := HLcs
 clear HLcs
 obtain ⟨k0, k1, k2, k3, k4, k5, k6, k7, k8⟩ := hT.at hu
 simp only at k0 k1 k2 k3 k4 k5 k6 k7 k8
 have hkl : k < ts.length := (List.getElem?_eq_some_iff.1 hu).1
 have hlen := h.len
 have hblt := h.cs.lt
 have hw0 : w0.heap.size <= w.heap.size := h.old.size
 obtain ⟨S, hck, -, -⟩ := h.cs.mv
 have B0 := zcu (tmI 92 c ta tb ga va pa gn gc vn vc pn pc tat tto) w
 have r0 := zeq (tmI 92 c ta tb ga va pa gn gc vn vc pn pc tat tto) w
 have q0 := zdm (tmI 92 c ta tb ga va pa gn gc vn vc pn pc tat tto) w
 have z0 := zdj (tmI 92 c ta tb ga va pa gn gc vn vc pn pc tat tto) w
 have kb0 : w.cell? ⟨b, 0, none⟩ = some (.slice (some ⟨gL, 0, none⟩) ts.length capL) := cbl hck
 have kb0' : (w.alloc rbO).cell? ⟨b, 0, none⟩ = some (.slice (some ⟨gL, 0, none⟩) ts.length capL) := (World.cell?_alloc_lt _ _ ⟨b, 0, none⟩ hblt).trans kb0
 have kb2 : (ckW (tmI 92 c ta tb ga va pa gn gc vn vc pn pc tat tto) w).cell? ⟨b, 2, none⟩ = some (.int .i64 0) := by rw [Lib.cell_of_heap (hck.below B0)]; rfl
 have HC : Hid (Cs w0.heap.size b (.slice (some ⟨gL, 0, none⟩) ts.length capL) none 50000 st w) := h.cs
 have HC0 : Hid (Cs w0.heap.size b (.slice (some ⟨gL, 0, none⟩) ts.length capL) none 50000 st (ckW (tmI 92 c ta tb ga va pa gn gc vn vc pn pc tat tto) w)) := (h.cs.below B0).1
 have HF0 : Hid (CFr b w (ckW (tmI 92 c ta tb ga va pa gn gc vn vc pn pc tat tto) w)) := (h.cs.below B0).2
 have HCT : Hid (Ct w0 b (.slice (some ⟨gL, 0, none⟩) ts.length capL) ts none st w) := h
 have HB0 : Hid (Below w.heap.size w (ckW (tmI 92 c ta tb ga va pa gn gc vn vc pn pc tat tto) w)) := B0
 have HU : Hid (ts[k]? = some ⟨92, c, ta, tb, (ga, gn, gc), (va, vn, vc), (pa, pn, pc), tat, tto⟩) := hu
 have HSL : Hid (∀ j, srow b (ckW (tmI 92 c ta tb ga va pa gn gc vn vc pn pc tat tto) w) = some j -> j < w.heap.size) := by
  intro j e
  rw [(hck.below B0).row, <- hck.row] at e
  exact (h.cs.rowB j e).2
 have HCTW : Hid (Ct w0 b (.slice (some ⟨gL, 0, none⟩) ts.length capL) ts none st (ckW (tmI 92 c ta tb ga va pa gn gc vn vc pn pc tat tto) w)) := (h.cs.below B0).2.ct h (h.cs.below B0).1
 have HHA : Hid (∀ X h0 cp, Ct w0 b (.slice (some ⟨gL, 0, none⟩) ts.length capL) ts none (st ++ [⟨c, u, [], h0, cp, (none, 0, 0)⟩]) X -> Calls Tryz.prog 61 #[.pointer (some ⟨b, 0, none⟩), .int .i64 (ta : Int)] X (CPost w0.heap.size b (.slice (some ⟨gL, 0, none⟩) ts.length capL) 50000 (st ++ [⟨c, u, [], h0, cp, (none, 0, 0)⟩]) Na Ra X)) := HA
 have HFA : Hid (∀ v, Ra = .ok v -> sz v <= 60000) := hfa
 obtain ⟨aG, cG, eG, hG1⟩ := hG
 rcases hG1 with hG1 | ⟨gg, rfl, hgg, hG1⟩
 · cases hG1
 obtain ⟨h0, cp0, y00, Ru0⟩ := hG1 0 u rfl
 have hbB : w0.heap.size <= b := h.cs.1
 simp only [Value.slice.injEq, List.length_singleton] at eG
 obtain ⟨rfl, rfl, rfl⟩ := eG
 have BW0 := HCTW.out.old
 have y0 := (BW0.cell (p := ⟨gg, 0, none⟩) hgg).trans y00
 have Ru := Ru0.below BW0
 have HRu : Hid (Rg h0 u (ckW (tmI 92 c ta tb (some ⟨gg, 0, none⟩) va pa 1 gc vn vc pn pc tat tto) w)) := Ru
 obtain ⟨S', hck', -, -⟩ := HC0.out.mv
 obtain ⟨i0, hi0, hz0, hz1, hz2⟩ := info_parts zlb
 have ho : (ckW (tmI 92 c ta tb (some ⟨gg, 0, none⟩) va pa 1 gc vn vc pn pc tat tto) w).ownsRow w0.heap.size 150 3 S' st.length (zbl st) := by
  obtain ⟨_, _, _, S2, hk2, ho2, _⟩ := id HC0.out
  obtain rfl : S2 = S' := by
   have e : some (Obj.cells _ _ _) = some (Obj.cells _ _ _) := hk2.symm.trans hck'
   simp at e
   exact e
  exact ho2
 have hne : S'.ownBlock ≠ some b := by
  obtain ⟨_, _, _, S2, hk2, ho2, hn2, _⟩ := id HC0.out
  obtain rfl : S2 = S' := by
   have e : some (Obj.cells _ _ _) = some (Obj.cells _ _ _) := hk2.symm.trans hck'
   simp at e
   exact e
  exact hn2
 have kb1 : (ckW (tmI 92 c ta tb (some ⟨gg, 0, none⟩) va pa 1 gc vn vc pn pc tat tto) w).cell? ⟨b, 1, none⟩ = some S' := cbl hck'
 have q0' := q0
 have j1 : (ckW (tmI 92 c ta tb (some ⟨gg, 0, none⟩) va pa 1 gc vn vc pn pc tat tto) w).cell? ⟨w.heap.size + 1, 1, none⟩ = some (.int .u8 (c : Int)) := cbl q0
 have j4 : (ckW (tmI 92 c ta tb (some ⟨gg, 0, none⟩) va pa 1 gc vn vc pn pc tat tto) w).cell? ⟨w.heap.size + 1, 4, none⟩ = some (.slice (some ⟨gg, 0, none⟩) 1 gc) := cbl q0
 have HK' : Hid (Ck b (.slice (some ⟨gL, 0, none⟩) ts.length capL) S' 0 0 50000 (ckW (tmI 92 c ta tb (some ⟨gg, 0, none⟩) va pa 1 gc vn vc pn pc tat tto) w)) := hck'
 have nqS : S'.ownBlock ≠ some (w.heap.size + 1) := fun e => by have := HSL.out _ (hck'.row.trans e); omega
 have ngS : S'.ownBlock ≠ some gg := fun e => by have := (ho.lt gg e).1; omega
 have HY00 : Hid (w0.cell? ⟨gg, 0, none⟩ = some (.slice (some ⟨h0, 0, none⟩) (sz u) cp0)) := y00
 clear HA hfa hG1 Ru q0' hck' BW0 y00 Ru0
 generalize hn1 : sz u = n1 at *
 have HN1 : Hid (sz u = n1) := hn1
 clear hn1
 clear h hT hu B0 hck
 go_enter Tryz.func61, Tryz.ntmps61
 go_upto_region 8 with fail
 unfold ckW at *
 generalize (w.alloc rbO).alloc (.cells (tmI 92 c ta tb (some ⟨gg, 0, none⟩) va pa 1 gc vn vc pn pc tat tto) 76) = W at *
 have HNW0 := se_news W c h0 n1 cp0 none 0 0
 rw [z0] at HNW0
 have HNW : Hid _ := HNW0
 have hbW : b < W.heap.size := by omega
 have hgW : gg < W.heap.size := by omega
 clear HNW0
 have HPU : Hid (∀ g5 cap5 w5, World.ownsRow w5 w0.heap.size 150 3 (.slice (some ⟨g5, 0, none⟩) (st.length + 1) cap5) (st.length + 1) (zbl st ++ [Value.int .u8 (c : Int), .slice (some ⟨h0, 0, none⟩) n1 cp0, .slice none 0 0]) -> (W.alloc (seO c h0 n1 cp0 none 0 0)).drew.grownBy w5 S'.ownBlock -> (S'.ownBlock = some g5 \/ g5 = w.heap.size + 3) ->
  Hid (Cs w0.heap.size b (.slice (some ⟨gL, 0, none⟩) ts.length capL) none 50000 (st ++ [⟨c, u, [], h0, cp0, (none, 0, 0)⟩]) (w5.setCell ⟨b, 1, none⟩ (.slice (some ⟨g5, 0, none⟩) (st.length + 1) cap5)) /\ CFr b W (w5.setCell ⟨b, 1, none⟩ (.slice (some ⟨g5, 0, none⟩) (st.length + 1) cap5)))) := by
  intro g5 cap5 w5 ho5 hg5 ha5
  have B5 : Below W.heap.size W (W.alloc (seO c h0 n1 cp0 none 0 0)).drew := (bal W _).drew
  have e5 : [Value.int .u8 (c : Int), .slice (some ⟨h0, 0, none⟩) n1 cp0, .slice none 0 0] = Se.cells ⟨c, u, [], h0, cp0, (none, 0, 0)⟩ := by unfold Se.cells; rw [HN1.out]
  rw [e5] at ho5
  have C5 := HC0.out.below B5
  have := C5.1.push (HK'.out.below B5) ho5 hg5 (by rcases ha5 with e | e; exact .inl e; exact .inr (by rw [e]; show (W.alloc (seO c h0 n1 cp0 none 0 0)).heap.size <= _; simp [z0])) ⟨HRu.out.below B5, none, 0, rfl, .inl rfl⟩
  exact ⟨this.1, C5.2.trans this.2⟩
 have HSW : Hid (srow b W ≠ some w.heap.size /\ srow b W ≠ some (w.heap.size + 1)) := ⟨fun e => by have := HSL.out _ e; omega, fun e => by have := HSL.out _ e; omega⟩
 go_cut [48] from 33 to 48 (fun _ wx => Hid (Cs w0.heap.size b (.slice (some ⟨gL, 0, none⟩) ts.length capL) none 50000 (st ++ [⟨c, u, [], h0, cp0, (none, 0, 0)⟩]) wx /\ CFr b W wx))
 case first =>
  have fA : ∀ g j, g < W.heap.size -> (W.alloc (seO c h0 n1 cp0 none 0 0)).cell? ⟨g, j, none⟩ = W.cell? ⟨g, j, none⟩ := fun g j hg => World.cell?_alloc_lt _ _ ⟨g, j, none⟩ hg
  have jA1 := (fA (w.heap.size + 1) 1 (by omega)).trans j1
  have jA4 := (fA (w.heap.size + 1) 4 (by omega)).trans j4
  have yA0 := (fA gg 0 hgW).trans y0
  have kA1 : (W.alloc (seO c h0 n1 cp0 none 0 0)).drew.cell? ⟨b, 1, none⟩ = some S' := (fA b 1 hbW).trans kb1
  have kA1' : (W.drew.alloc (seO c h0 n1 cp0 none 0 0)).cell? ⟨b, 1, none⟩ = some S' := (fA b 1 hbW).trans kb1
  have kb1' : W.drew.cell? ⟨b, 1, none⟩ = some S' := kb1
  refine wp_region_held_drew (S := (fun wq => wq.cell? ⟨w.heap.size + 1, 1, none⟩ = some (.int .u8 (c : Int)) /\ wq.cell? ⟨w.heap.size + 1, 4, none⟩ = some (.slice (some ⟨gg, 0, none⟩) 1 gc) /\ wq.cell? ⟨gg, 0, none⟩ = some (.slice (some ⟨h0, 0, none⟩) n1 cp0))) (by kernel_rfl) (⟨j1, j4, y0⟩) (fun hS => ?_)
  refine tkS 0 (.pointer (some ⟨b, 0, none⟩)) hS ?_
  refine tkS 1 (.pointer (some ⟨b, 0, none⟩)) hS ?_
  refine tkS 2 (.pointer (some ⟨b, 0, none⟩)) hS ?_
  refine tkS 3 (.pointer (some ⟨b, 1, none⟩)) hS ?_
  refine tkS 5 (.pointer (some ⟨w.heap.size + 1, 1, none⟩)) hS ?_
  refine tkL 6 (.int .u8 (c : Int)) hS ?_
  refine tkS 7 (.pointer (some ⟨w.heap.size + 1, 4, none⟩)) hS ?_
  refine tkL 8 (.slice (some ⟨gg, 0, none⟩) 1 gc) hS ?_
  refine tkS 9 (.pointer (some ⟨gg, 0, none⟩)) hS ?_
  refine tkL 10 (.agg #[.slice (some ⟨h0, 0, none⟩) n1 cp0]) hS ?_
  refine tkS 11 (.agg #[.int .u8 (c : Int), .slice (some ⟨h0, 0, none⟩) n1 cp0, .slice none 0 0]) hS ?_
  refine wpAnyH_ready (rs := [4, 12]) (by kernel_rfl) (by simp) ?_
  refine AllReadyH.cons rfl (fun KK hK => ?_) (AllReadyH.cons rfl (fun KK hK => ?_) AllReadyH.nil)
  · (try simp only [List.getElem_toArray, List.getElem_cons_succ, List.getElem_cons_zero])
    go_simp
    (try dsimp only)
    refine hK.out _ _ hS (fun hS => nrm ?_)
    refine rd1 12 (fun KK hK => ?_)
    (try simp only [List.getElem_toArray, List.getElem_cons_succ, List.getElem_cons_zero])
    go_simp
    (try dsimp only)
    refine hK.out _ _ ⟨jA1, jA4, yA0⟩ (fun hS => nrm ?_)
    refine rd1 13 (fun KK hK => ?_)
    refine step_append_lies _ (by rfl) _ _ _ (by rfl) w0.heap.size 150 i0 _ 3 56 Tryz.underlying102 hi0 hz0 hz1 hz2 rfl (by omega) S' st.length (zbl st) (by rfl) ((ho.alloc _).drew) ⟨w.heap.size + 2, 0, none⟩ 1 1 [Value.int .u8 (c : Int), .slice (some ⟨h0, 0, none⟩) n1 cp0, .slice none 0 0] (by rfl) (by rfl) HNW.out (by simp [Value.oneCell']) (by omega) (by unfold maxLen; omega) (by omega) (by simp; omega) (w.heap.size + 3) (by simp [z0]) ?_
    intro g5 cap5 w5 hown5 hgrow5 hat5 hlt5
    have k5 : w5.cell? ⟨b, 1, none⟩ = some S' := zei (zax hgrow5 HK'.out hne)
    have f5 : w5.frozen? ⟨b, 1, none⟩ = false := zek (zax hgrow5 HK'.out hne)
    have l0 := zax hgrow5 q0 nqS
    have l1 : w5.cell? ⟨w.heap.size + 1, 1, none⟩ = some (.int .u8 (c : Int)) := cbl l0
    have l4 : w5.cell? ⟨w.heap.size + 1, 4, none⟩ = some (.slice (some ⟨gg, 0, none⟩) 1 gc) := cbl l0
    have ly : w5.cell? ⟨gg, 0, none⟩ = some (.slice (some ⟨h0, 0, none⟩) n1 cp0) := (World.cell?_of_block (w := (W.alloc (seO c h0 n1 cp0 none 0 0)).drew) (a := ⟨gg, 0, none⟩) (hgrow5.block gg (by show gg < (W.alloc (seO c h0 n1 cp0 none 0 0)).heap.size; simp; omega) (Ne.symm ngS))).trans yA0
    have HS5 : Hid (w0.heap.size <= g5) := by obtain ⟨_, hz⟩ := hown5.lt g5 rfl; exact (hown5.lt g5 rfl).1
    have l1' := l1
    have l4' := l4
    have ly' := ly
    refine hK.out _ _ ⟨l1, l4, ly⟩ (fun hS => nrm ?_)
    refine tkS 14 (.pointer (some ⟨b, 0, none⟩)) hS ?_
    refine tkS 15 (.pointer (some ⟨b, 1, none⟩)) hS ?_
    refine rd1 16 (fun KK hK => ?_)
    (try simp only [List.getElem_toArray, List.getElem_cons_succ, List.getElem_cons_zero])
    go_simp
    (try dsimp only)
    refine hK.out _ _ ⟨(cell_far w5 ⟨b, 1, none⟩ ⟨w.heap.size + 1, 1, none⟩ (show b ≠ w.heap.size + 1 by omega)).trans l1, (cell_far w5 ⟨b, 1, none⟩ ⟨w.heap.size + 1, 4, none⟩ (show b ≠ w.heap.size + 1 by omega)).trans l4, (cell_far w5 ⟨b, 1, none⟩ ⟨gg, 0, none⟩ (show b ≠ gg by omega)).trans ly⟩ (fun hS => nrm ?_)
    refine wpAnyH_done (by kernel_rfl) ?_ _
    go_wp2_with fail
    go_meet
    case rel => exact HPU.out g5 cap5 w5 hown5 hgrow5 hat5
  · (try simp only [List.getElem_toArray, List.getElem_cons_succ, List.getElem_cons_zero])
    go_simp
    (try dsimp only)
    refine hK.out _ _ ⟨jA1, jA4, yA0⟩ (fun hS => nrm ?_)
    refine rd1 4 (fun KK hK => ?_)
    (try simp only [List.getElem_toArray, List.getElem_cons_succ, List.getElem_cons_zero])
    go_simp
    (try dsimp only)
    refine hK.out _ _ ⟨jA1, jA4, yA0⟩ (fun hS => nrm ?_)
    refine rd1 13 (fun KK hK => ?_)
    refine step_append_lies _ (by rfl) _ _ _ (by rfl) w0.heap.size 150 i0 _ 3 56 Tryz.underlying102 hi0 hz0 hz1 hz2 rfl (by omega) S' st.length (zbl st) (by rfl) ((ho.alloc _).drew) ⟨w.heap.size + 2, 0, none⟩ 1 1 [Value.int .u8 (c : Int), .slice (some ⟨h0, 0, none⟩) n1 cp0, .slice none 0 0] (by rfl) (by rfl) HNW.out (by simp [Value.oneCell']) (by omega) (by unfold maxLen; omega) (by omega) (by simp; omega) (w.heap.size + 3) (by simp [z0]) ?_
    intro g5 cap5 w5 hown5 hgrow5 hat5 hlt5
    have k5 : w5.cell? ⟨b, 1, none⟩ = some S' := zei (zax hgrow5 HK'.out hne)
    have f5 : w5.frozen? ⟨b, 1, none⟩ = false := zek (zax hgrow5 HK'.out hne)
    have l0 := zax hgrow5 q0 nqS
    have l1 : w5.cell? ⟨w.heap.size + 1, 1, none⟩ = some (.int .u8 (c : Int)) := cbl l0
    have l4 : w5.cell? ⟨w.heap.size + 1, 4, none⟩ = some (.slice (some ⟨gg, 0, none⟩) 1 gc) := cbl l0
    have ly : w5.cell? ⟨gg, 0, none⟩ = some (.slice (some ⟨h0, 0, none⟩) n1 cp0) := (World.cell?_of_block (w := (W.alloc (seO c h0 n1 cp0 none 0 0)).drew) (a := ⟨gg, 0, none⟩) (hgrow5.block gg (by show gg < (W.alloc (seO c h0 n1 cp0 none 0 0)).heap.size; simp; omega) (Ne.symm ngS))).trans yA0
    have HS5 : Hid (w0.heap.size <= g5) := by obtain ⟨_, hz⟩ := hown5.lt g5 rfl; exact (hown5.lt g5 rfl).1
    have l1' := l1
    have l4' := l4
    have ly' := ly
    refine hK.out _ _ ⟨l1, l4, ly⟩ (fun hS => nrm ?_)
    refine tkS 14 (.pointer (some ⟨b, 0, none⟩)) hS ?_
    refine tkS 15 (.pointer (some ⟨b, 1, none⟩)) hS ?_
    refine rd1 16 (fun KK hK => ?_)
    (try simp only [List.getElem_toArray, List.getElem_cons_succ, List.getElem_cons_zero])
    go_simp
    (try dsimp only)
    refine hK.out _ _ ⟨(cell_far w5 ⟨b, 1, none⟩ ⟨w.heap.size + 1, 1, none⟩ (show b ≠ w.heap.size + 1 by omega)).trans l1, (cell_far w5 ⟨b, 1, none⟩ ⟨w.heap.size + 1, 4, none⟩ (show b ≠ w.heap.size + 1 by omega)).trans l4, (cell_far w5 ⟨b, 1, none⟩ ⟨gg, 0, none⟩ (show b ≠ gg by omega)).trans ly⟩ (fun hS => nrm ?_)
    refine wpAnyH_done (by kernel_rfl) ?_ _
    go_wp2_with fail
    go_meet
    case rel => exact HPU.out g5 cap5 w5 hown5 hgrow5 hat5
 case rest =>
  generalize wc = wA at *
  obtain ⟨C5, F5⟩ := hcut.out
  obtain ⟨r5, nr5⟩ := F5.keep r0 (by omega) HSW.out.1
  obtain ⟨q5, nq5⟩ := F5.keep q0 (by omega) HSW.out.2
  have z5 := F5.size
  have j5 : wA.cell? ⟨w.heap.size + 1, 2, none⟩ = some (.int .i64 (ta : Int)) := cbl q5
  have HCT5 : Hid (Ct w0 b (.slice (some ⟨gL, 0, none⟩) ts.length capL) ts none (st ++ [⟨c, u, [], h0, cp0, (none, 0, 0)⟩]) wA) := F5.ct HCTW.out C5
  have HF5 : Hid (CFr b w wA) := HF0.out.trans F5
  have HRu5 : Hid (Rg h0 u wA) := HRu.out.cfr HC0.out F5
  have HNR5 : Hid (srow b wA ≠ some w.heap.size /\ srow b wA ≠ some (w.heap.size + 1)) := ⟨nr5, nq5⟩
  clear nr5 nq5 C5 F5 hcut HPU HK' ho hne nqS ngS HNW hi0 hz0 hz1 hz2 r0 q0 kb1 j1 j4 y0
  go_wp2_with fail
  refine (HHA.out wA h0 cp0 HCT5.out).mono ?_
  intro e w1 hP1
  obtain ⟨t1, g1, cap1, rfl, R1, C1, F1, y1, y1'⟩ := hP1
  have HY1 : Hid (∀ v, Ra = .ok v -> t1 = v) := y1
  have HY1' : Hid (∀ f, Ra = .error f -> sz t1 <= Na) := y1'
  have bA : Below w1.heap.size w1 (w1.alloc (tbO g1 (sz t1) cap1)) := bal w1 _
  have C2 := (C1.below bA).1
  have HF2 : Hid (CFr b wA (w1.alloc (tbO g1 (sz t1) cap1))) := F1.trans (C1.below bA).2
  have HR2 : Hid (Rg g1 t1 (w1.alloc (tbO g1 (sz t1) cap1))) := R1.below bA
  have HRu2 : Hid (Rg h0 u (w1.alloc (tbO g1 (sz t1) cap1))) := HRu5.out.cfr HCT5.out.cs HF2.out
  have x2 : (w1.alloc (tbO g1 (sz t1) cap1)).heap[w1.heap.size]? = some (.cells #[.slice (some ⟨g1, 0, none⟩) (sz t1) cap1] 33 (0, 0)) := heap_alloc_new w1 _
  have s1 := F1.size
  have sA : (w1.alloc (tbO g1 (sz t1) cap1)).heap.size = w1.heap.size + 1 := by simp
  obtain ⟨r2, nr2⟩ := HF2.out.keep r5 (by omega) HNR5.out.1
  obtain ⟨q2, nq2⟩ := HF2.out.keep q5 (by omega) HNR5.out.2
  have nx2 : srow b (w1.alloc (tbO g1 (sz t1) cap1)) ≠ some w1.heap.size := by
   intro e
   obtain ⟨S', hk', -⟩ := C1.mv
   rw [(hk'.below bA).row, <- hk'.row] at e
   have := (C1.rowB _ e).2
   omega
  obtain ⟨S2, hk2, -, -⟩ := C2.mv
  obtain ⟨gs, caps, rfl, hcaps, C3, F3⟩ := C2.pop hk2
  have kb2' : (w1.alloc (tbO g1 (sz t1) cap1)).drew.cell? ⟨b, 1, none⟩ = some (.slice (some ⟨gs, 0, none⟩) (st.length + 1) caps) := zei hk2
  have fb2 : (w1.alloc (tbO g1 (sz t1) cap1)).drew.frozen? ⟨b, 1, none⟩ = false := zek hk2
  have HPO : Hid (Cs w0.heap.size b (.slice (some ⟨gL, 0, none⟩) ts.length capL) (errOf Ra) 50000 st ((w1.alloc (tbO g1 (sz t1) cap1)).setCell ⟨b, 1, none⟩ (.slice (some ⟨gs, 0, none⟩) st.length caps)) /\ CFr b (w1.alloc (tbO g1 (sz t1) cap1)) ((w1.alloc (tbO g1 (sz t1) cap1)).setCell ⟨b, 1, none⟩ (.slice (some ⟨gs, 0, none⟩) st.length caps))) := ⟨C3, F3⟩
  have HN2 : Hid (srow b (w1.alloc (tbO g1 (sz t1) cap1)) ≠ some w.heap.size /\ srow b (w1.alloc (tbO g1 (sz t1) cap1)) ≠ some (w.heap.size + 1) /\ srow b (w1.alloc (tbO g1 (sz t1) cap1)) ≠ some w1.heap.size) := ⟨nr2, nq2, nx2⟩
  have HC2 : Hid (Cs w0.heap.size b (.slice (some ⟨gL, 0, none⟩) ts.length capL) (errOf Ra) 50000 (st ++ [⟨c, u, [], h0, cp0, (none, 0, 0)⟩]) (w1.alloc (tbO g1 (sz t1) cap1))) := C2
  clear R1 C1 F1 y1 y1' bA nr2 nq2 nx2 r5 q5 j5 C2 C3 F3 hk2 HHA
  generalize hn2 : sz t1 = n2 at *
  have HN2' : Hid (sz t1 = n2) := hn2
  clear hn2
  go_upto_region 10 with fail
  generalize hY : w1.alloc (tbO g1 n2 cap1) = Y at *
  clear hY
  generalize hsl : st.length = sl at *
  have HSLN : Hid (st.length = sl) := hsl
  clear hsl
  go_cut [66] from 53 to 66 (fun _ wx => wx = (Y.setCell ⟨b, 1, none⟩ (.slice (some ⟨gs, 0, none⟩) sl caps)).drew)
  case first =>
   have hwsl : IntKind.i64.wrap (sl : Int) = (sl : Int) := IntWalk.i64_in _ ⟨by omega, by omega⟩
   have bs1 : (0 : Int) <= (sl : Int) := by omega
   have bs2 : (sl : Int) <= (caps : Int) := by omega
   have bs3 : sl <= caps := by omega
   refine wp_region_held_drew (S := (fun _ => True)) (by kernel_rfl) trivial (fun hS => ?_)
   refine tkS 0 (.pointer (some ⟨b, 0, none⟩)) hS ?_
   refine tkS 1 (.pointer (some ⟨b, 0, none⟩)) hS ?_
   refine tkS 2 (.pointer (some ⟨b, 0, none⟩)) hS ?_
   refine tkS 3 (.pointer (some ⟨b, 1, none⟩)) hS ?_
   refine tkS 5 (.pointer (some ⟨b, 0, none⟩)) hS ?_
   refine tkS 6 (.pointer (some ⟨b, 0, none⟩)) hS ?_
   refine tkS 7 (.pointer (some ⟨b, 1, none⟩)) hS ?_
   refine wpAnyH_ready (rs := [4, 8]) (by kernel_rfl) (by simp) ?_
   refine AllReadyH.cons rfl (fun KK hK => ?_) (AllReadyH.cons rfl (fun KK hK => ?_) AllReadyH.nil)
   · (try simp only [List.getElem_toArray, List.getElem_cons_succ, List.getElem_cons_zero])
     go_simp
     (try dsimp only)
     refine hK.out _ _ trivial (fun hS => nrm ?_)
     refine rd1 8 (fun KK hK => ?_)
     (try simp only [List.getElem_toArray, List.getElem_cons_succ, List.getElem_cons_zero])
     go_simp
     (try dsimp only)
     refine hK.out _ _ trivial (fun hS => nrm ?_)
     refine tkS 9 (.int .i64 ((sl : Int) + 1)) hS ?_
     refine tkS 10 (.int .i64 (sl : Int)) hS ?_
     refine tkS 11 (.slice (some ⟨gs, 0, none⟩) sl caps) hS ?_
     refine tkS 12 (.pointer (some ⟨b, 0, none⟩)) hS ?_
     refine tkS 13 (.pointer (some ⟨b, 1, none⟩)) hS ?_
     refine rd1 14 (fun KK hK => ?_)
     (try simp only [List.getElem_toArray, List.getElem_cons_succ, List.getElem_cons_zero])
     go_simp
     (try dsimp only)
     refine hK.out _ _ trivial (fun hS => nrm ?_)
     refine wpAnyH_done (by kernel_rfl) ?_ _
     go_wp2_with fail
     go_meet
     case rel => rfl
   · (try simp only [List.getElem_toArray, List.getElem_cons_succ, List.getElem_cons_zero])
     go_simp
     (try dsimp only)
     refine hK.out _ _ trivial (fun hS => nrm ?_)
     refine tkS 9 (.int .i64 ((sl : Int) + 1)) hS ?_
     refine tkS 10 (.int .i64 (sl : Int)) hS ?_
     refine rd1 4 (fun KK hK => ?_)
     (try simp only [List.getElem_toArray, List.getElem_cons_succ, List.getElem_cons_zero])
     go_simp
     (try dsimp only)
     refine hK.out _ _ trivial (fun hS => nrm ?_)
     refine tkS 11 (.slice (some ⟨gs, 0, none⟩) sl caps) hS ?_
     refine tkS 12 (.pointer (some ⟨b, 0, none⟩)) hS ?_
     refine tkS 13 (.pointer (some ⟨b, 1, none⟩)) hS ?_
     refine rd1 14 (fun KK hK => ?_)
     (try simp only [List.getElem_toArray, List.getElem_cons_succ, List.getElem_cons_zero])
     go_simp
     (try dsimp only)
     refine hK.out _ _ trivial (fun hS => nrm ?_)
     refine wpAnyH_done (by kernel_rfl) ?_ _
     go_wp2_with fail
     go_meet
     case rel => rfl
  case rest =>
   have hcut' := hcut
   subst hcut'
   have C3 : Cs w0.heap.size b (.slice (some ⟨gL, 0, none⟩) ts.length capL) (errOf Ra) 50000 st (Y.setCell ⟨b, 1, none⟩ (.slice (some ⟨gs, 0, none⟩) sl caps)).drew := (HPO.out.1.below ((Below.refl _ _).drew)).1
   have F3 : CFr b Y (Y.setCell ⟨b, 1, none⟩ (.slice (some ⟨gs, 0, none⟩) sl caps)).drew := ⟨HPO.out.2.os, HPO.out.2.tape, HPO.out.2.output, HPO.out.2.size, HPO.out.2.block, HPO.out.2.row⟩
   clear HPO kb2' fb2
   generalize (Y.setCell ⟨b, 1, none⟩ (.slice (some ⟨gs, 0, none⟩) sl caps)).drew = Z at *
   have r3 := (F3.keep r2 (by omega) HN2.out.1)
   have q3 := (F3.keep q2 (by omega) HN2.out.2.1).1
   have x3 := (F3.keep x2 (by omega) HN2.out.2.2).1
   have s3 := F3.size
   have HF3 : Hid (CFr b w Z) := (HF5.out.trans HF2.out).trans F3
   have HC3 : Hid (Cs w0.heap.size b (.slice (some ⟨gL, 0, none⟩) ts.length capL) (errOf Ra) 50000 st Z) := C3
   have HCT3 : Hid (Ct w0 b (.slice (some ⟨gL, 0, none⟩) ts.length capL) ts (errOf Ra) st Z) := HF3.out.ct HCT.out C3
   have HR3 : Hid (Rg g1 t1 Z) := HR2.out.cfr HC2.out F3
   have HRu3 : Hid (Rg h0 u Z) := HRu2.out.cfr HC2.out F3
   have HNR3 : Hid (srow b Z ≠ some w.heap.size) := r3.2
   replace r3 := r3.1
   have yz : Z.cell? ⟨gg, 0, none⟩ = some (.slice (some ⟨h0, 0, none⟩) n1 cp0) := (HCT3.out.old.cell (p := ⟨gg, 0, none⟩) (by show gg < w0.heap.size; omega)).trans HY00.out
   obtain ⟨S3, hk3, -, mv3⟩ := C3.mv
   have jb4 : Z.cell? ⟨b, 4, none⟩ = some (.int .i64 50000) := cbl hk3
   have jb2 : Z.cell? ⟨b, 2, none⟩ = some (.int .i64 (cErr (errOf Ra) : Int)) := cbl hk3
   have jq4 : Z.cell? ⟨w.heap.size + 1, 4, none⟩ = some (.slice (some ⟨gg, 0, none⟩) 1 gc) := cbl q3
   have jq7 : Z.cell? ⟨w.heap.size + 1, 7, none⟩ = some (.int .i64 (tat : Int)) := cbl q3
   have jx := zab x3
   have HN12 : Hid (sz (tF u t1) = n1 + n2 + 1) := by unfold Hid; show sz u + sz t1 + 1 = _; rw [HN1.out, HN2'.out]
   have HM3 : Hid (∀ (ε' : Ce) (w' : World), (∀ r, ε' = some r -> 1 <= r.1) -> Ck b (.slice (some ⟨gL, 0, none⟩) ts.length capL) S3 (cErr ε') (cAt ε') 50000 w' -> Z.grownBy w' (some b) -> Cs w0.heap.size b (.slice (some ⟨gL, 0, none⟩) ts.length capL) ε' 50000 st w' /\ CFr b Z w') := mv3
   have HK3 : Hid (Ck b (.slice (some ⟨gL, 0, none⟩) ts.length capL) S3 (cErr (errOf Ra)) (cAt (errOf Ra)) 50000 Z) := hk3
   have hn1 : n1 <= 60000 := hsu
   have hn2 : n2 <= 60000 := by
    cases hq : Ra with
    | error f => exact Nat.le_trans (HY1'.out f hq) hNa
    | ok v => have := HFA.out v hq; rw [<- HY1.out v hq, HN2'.out] at this; exact this
   have HBO : Hid (∀ X, Below Z.heap.size Z X -> Calls Tryz.prog 67 #[.int .i64 62, .agg #[.slice (some ⟨h0, 0, none⟩) n1 cp0], .agg #[.slice (some ⟨g1, 0, none⟩) n2 cap1]] X (TPost (tF u t1) X)) := by
    intro X hX
    have := zgr 5 (.inr rfl) u t1 h0 cp0 g1 cap1 X (HRu3.out.below hX) (HR3.out.below hX) (by rw [HN1.out]; omega) (by rw [HN2'.out]; omega)
    rw [HN1.out, HN2'.out] at this
    exact this
   have hw1 : IntKind.i64.wrap ((n1 : Int) + (n2 : Int)) = (n1 : Int) + (n2 : Int) := IntWalk.i64_in _ ⟨by omega, by omega⟩
   have hw2 : IntKind.i64.wrap ((n1 : Int) + (n2 : Int) + 1) = (n1 : Int) + (n2 : Int) + 1 := IntWalk.i64_in _ ⟨by omega, by omega⟩
   have hc0 : (0 : Int) < 1 := by decide
   clear hk3 mv3 C3 F3 r2 q2 x2 HR2 HRu2 HC2
   cases hR : Ra with
   | error r =>
    obtain ⟨e1, e2⟩ := r
    rw [hR] at jb2 HC3
    have hRa : Hid (Ra = .error (e1, e2)) := hR
    have her : 1 <= e1 := HC3.out.2.2.1 _ rfl
    have jb2' : Z.cell? ⟨b, 2, none⟩ = some (.int .i64 (e1 : Int)) := jb2
    have heq : ((e1 : Int) == 0) = false := by rw [beq_eq_false_iff_ne]; omega
    have HSZ : Hid (n2 <= Na) := HY1'.out _ hR
    clear jb2 hR
    generalize hbg : decide ((50000 : Int) < (n1 : Int) + (n2 : Int) + 1) = bg at *
    have HBG : Hid (decide ((50000 : Int) < (n1 : Int) + (n2 : Int) + 1) = bg) := hbg
    cases bg
    · go_wp2_with fail
      refine wp_region_held_drew (S := (fun wq => wq.cell? ⟨b, 4, none⟩ = some (.int .i64 50000) /\ wq.cell? ⟨b, 2, none⟩ = some (.int .i64 (e1 : Int)) /\ wq.cell? ⟨w.heap.size + 1, 4, none⟩ = some (.slice (some ⟨gg, 0, none⟩) 1 gc) /\ wq.cell? ⟨gg, 0, none⟩ = some (.slice (some ⟨h0, 0, none⟩) n1 cp0) /\ wq.cell? ⟨w1.heap.size, 0, none⟩ = some (.slice (some ⟨g1, 0, none⟩) n2 cap1))) (by kernel_rfl) (⟨jb4, jb2', jq4, yz, jx⟩) (fun hS => ?_)
      refine tkS 0 (.pointer (some ⟨b, 0, none⟩)) hS ?_
      refine tkS 1 (.pointer (some ⟨b, 0, none⟩)) hS ?_
      refine tkS 2 (.pointer (some ⟨b, 4, none⟩)) hS ?_
      refine tkL 3 (.int .i64 50000) hS ?_
      refine tkS 4 (.bool true) hS ?_
      refine tkS 5 (.bool true) hS ?_
      refine tkS 6 (.pointer (some ⟨w.heap.size + 1, 4, none⟩)) hS ?_
      refine tkL 7 (.slice (some ⟨gg, 0, none⟩) 1 gc) hS ?_
      refine tkS 8 (.pointer (some ⟨gg, 0, none⟩)) hS ?_
      refine tkS 9 (.pointer (some ⟨gg, 0, none⟩)) hS ?_
      refine tkL 10 (.slice (some ⟨h0, 0, none⟩) n1 cp0) hS ?_
      refine tkS 11 (.int .i64 (n1 : Int)) hS ?_
      refine tkS 12 (.pointer (some ⟨w1.heap.size, 0, none⟩)) hS ?_
      refine tkL 13 (.slice (some ⟨g1, 0, none⟩) n2 cap1) hS ?_
      refine tkS 14 (.int .i64 (n2 : Int)) hS ?_
      refine tkS 15 (.int .i64 ((n1 : Int) + (n2 : Int))) hS ?_
      refine tkS 16 (.int .i64 ((n1 : Int) + (n2 : Int) + 1)) hS ?_
      refine tkS 17 (.pointer (some ⟨b, 0, none⟩)) hS ?_
      refine tkS 18 (.pointer (some ⟨b, 0, none⟩)) hS ?_
      refine tkS 19 (.pointer (some ⟨b, 4, none⟩)) hS ?_
      refine tkL 20 (.int .i64 50000) hS ?_
      refine tkS 21 (.bool false) hS ?_
      refine tkS 22 (.bool false) hS ?_
      refine tkS 23 (.bool false) hS ?_
      refine tkU 24 hS ?_
      refine tkU 25 hS ?_
      refine tkU 26 hS ?_
      refine tkU 27 hS ?_
      refine tkU 28 hS ?_
      refine tkS 29 (.bool false) hS ?_
      refine wpAnyH_done (by kernel_rfl) ?_ _
      have HRS : Hid (funC u Ra tat = (.error (e1, e2))) := by unfold Hid; rw [hRa.out]; rfl
      go_wp2_with fail
      refine wp_region_held_drew (S := (fun wq => wq.cell? ⟨w.heap.size + 1, 4, none⟩ = some (.slice (some ⟨gg, 0, none⟩) 1 gc) /\ wq.cell? ⟨gg, 0, none⟩ = some (.slice (some ⟨h0, 0, none⟩) n1 cp0) /\ wq.cell? ⟨w1.heap.size, 0, none⟩ = some (.slice (some ⟨g1, 0, none⟩) n2 cap1))) (by kernel_rfl) (⟨jq4, yz, jx⟩) (fun hS => ?_)
      refine tkS 0 (.pointer (some ⟨w.heap.size + 1, 4, none⟩)) hS ?_
      refine tkL 1 (.slice (some ⟨gg, 0, none⟩) 1 gc) hS ?_
      refine tkS 2 (.pointer (some ⟨gg, 0, none⟩)) hS ?_
      refine tkL 3 (.agg #[.slice (some ⟨h0, 0, none⟩) n1 cp0]) hS ?_
      refine tkL 4 (.agg #[.slice (some ⟨g1, 0, none⟩) n2 cap1]) hS ?_
      refine rd1 5 (fun KK hK => ?_)
      (try simp only [List.getElem_toArray, List.getElem_cons_succ, List.getElem_cons_zero])
      go_simp
      go_at_call 67
      refine (HBO.out _ ((Below.refl _ Z).drew.drew)).mono ?_
      rintro e w4 ⟨g4, cap4, rfl, R4, hg4, b4'⟩
      have b4 : Below Z.heap.size Z w4 := ⟨b4'.os, b4'.tape, b4'.output, b4'.size, b4'.block⟩
      have k4 : w4.cell? ⟨w.heap.size + 1, 4, none⟩ = some (.slice (some ⟨gg, 0, none⟩) 1 gc) := (b4.cell (p := ⟨w.heap.size + 1, 4, none⟩) (show w.heap.size + 1 < Z.heap.size by omega)).trans jq4
      have k5 : w4.cell? ⟨gg, 0, none⟩ = some (.slice (some ⟨h0, 0, none⟩) n1 cp0) := (b4.cell (p := ⟨gg, 0, none⟩) (show gg < Z.heap.size by omega)).trans yz
      have k6 : w4.cell? ⟨w1.heap.size, 0, none⟩ = some (.slice (some ⟨g1, 0, none⟩) n2 cap1) := (b4.cell (p := ⟨w1.heap.size, 0, none⟩) (show w1.heap.size < Z.heap.size by omega)).trans jx
      have h4 := (b4.block w.heap.size (by omega)).trans r3
      have c4 := zab h4
      have f4 := zae h4
      have P4 : CPost w0.heap.size b (.slice (some ⟨gL, 0, none⟩) ts.length capL) 50000 st N (.error (e1, e2)) Z (.returned (.agg #[.slice (some ⟨g4, 0, none⟩) (sz (tF u t1)) cap4])) w4 := ⟨tF u t1, g4, cap4, rfl, R4, (HC3.out.below b4).1, (HC3.out.below b4).2, (fun u e => by cases e), (fun f e => by rw [HN12.out]; have := HSZ.out; omega)⟩
      have HP4 : Hid (∀ v, CPost w0.heap.size b (.slice (some ⟨gL, 0, none⟩) ts.length capL) 50000 st N (.error (e1, e2)) w (.returned (.agg #[.slice (some ⟨g4, 0, none⟩) (sz (tF u t1)) cap4])) (w4.setCell ⟨w.heap.size, 0, none⟩ v)) := fun v => P4.store HF3.out h4 (Nat.le_refl _) v
      clear P4 R4 b4'
      (try dsimp only)
      refine hK.out _ _ ⟨k4, k5, k6⟩ (fun hS => nrm ?_)
      refine rd1 6 (fun KK hK => ?_)
      (try simp only [List.getElem_toArray, List.getElem_cons_succ, List.getElem_cons_zero])
      go_simp
      (try dsimp only)
      refine hK.out _ _ ⟨(cell_far w4 ⟨w.heap.size, 0, none⟩ ⟨w.heap.size + 1, 4, none⟩ (show w.heap.size ≠ w.heap.size + 1 by omega)).trans k4, (cell_far w4 ⟨w.heap.size, 0, none⟩ ⟨gg, 0, none⟩ (show w.heap.size ≠ gg by omega)).trans k5, (cell_far w4 ⟨w.heap.size, 0, none⟩ ⟨w1.heap.size, 0, none⟩ (show w.heap.size ≠ w1.heap.size by omega)).trans k6⟩ (fun hS => nrm ?_)
      refine wpAnyH_done (by kernel_rfl) ?_ _
      go_wp2_with fail
      refine zag rfl rfl (zac h4) ?_
      rw [HRS.out]
      exact HP4.out _
    · go_wp2_with fail
      refine wp_region_held_drew (S := (fun wq => wq.cell? ⟨b, 4, none⟩ = some (.int .i64 50000) /\ wq.cell? ⟨b, 2, none⟩ = some (.int .i64 (e1 : Int)) /\ wq.cell? ⟨w.heap.size + 1, 4, none⟩ = some (.slice (some ⟨gg, 0, none⟩) 1 gc) /\ wq.cell? ⟨gg, 0, none⟩ = some (.slice (some ⟨h0, 0, none⟩) n1 cp0) /\ wq.cell? ⟨w1.heap.size, 0, none⟩ = some (.slice (some ⟨g1, 0, none⟩) n2 cap1))) (by kernel_rfl) (⟨jb4, jb2', jq4, yz, jx⟩) (fun hS => ?_)
      refine tkS 0 (.pointer (some ⟨b, 0, none⟩)) hS ?_
      refine tkS 1 (.pointer (some ⟨b, 0, none⟩)) hS ?_
      refine tkS 2 (.pointer (some ⟨b, 4, none⟩)) hS ?_
      refine tkL 3 (.int .i64 50000) hS ?_
      refine tkS 4 (.bool true) hS ?_
      refine tkS 5 (.bool true) hS ?_
      refine tkS 6 (.pointer (some ⟨w.heap.size + 1, 4, none⟩)) hS ?_
      refine tkL 7 (.slice (some ⟨gg, 0, none⟩) 1 gc) hS ?_
      refine tkS 8 (.pointer (some ⟨gg, 0, none⟩)) hS ?_
      refine tkS 9 (.pointer (some ⟨gg, 0, none⟩)) hS ?_
      refine tkL 10 (.slice (some ⟨h0, 0, none⟩) n1 cp0) hS ?_
      refine tkS 11 (.int .i64 (n1 : Int)) hS ?_
      refine tkS 12 (.pointer (some ⟨w1.heap.size, 0, none⟩)) hS ?_
      refine tkL 13 (.slice (some ⟨g1, 0, none⟩) n2 cap1) hS ?_
      refine tkS 14 (.int .i64 (n2 : Int)) hS ?_
      refine tkS 15 (.int .i64 ((n1 : Int) + (n2 : Int))) hS ?_
      refine tkS 16 (.int .i64 ((n1 : Int) + (n2 : Int) + 1)) hS ?_
      refine tkS 17 (.pointer (some ⟨b, 0, none⟩)) hS ?_
      refine tkS 18 (.pointer (some ⟨b, 0, none⟩)) hS ?_
      refine tkS 19 (.pointer (some ⟨b, 4, none⟩)) hS ?_
      refine tkL 20 (.int .i64 50000) hS ?_
      refine tkS 21 (.bool true) hS ?_
      refine tkS 22 (.bool true) hS ?_
      refine tkS 23 (.bool true) hS ?_
      refine tkS 24 (.pointer (some ⟨b, 0, none⟩)) hS ?_
      refine tkS 25 (.pointer (some ⟨b, 0, none⟩)) hS ?_
      refine tkS 26 (.pointer (some ⟨b, 2, none⟩)) hS ?_
      refine tkL 27 (.int .i64 (e1 : Int)) hS ?_
      refine tkS 28 (.bool false) hS ?_
      refine tkS 29 (.bool false) hS ?_
      refine wpAnyH_done (by kernel_rfl) ?_ _
      have HRS : Hid (funC u Ra tat = (.error (e1, e2))) := by unfold Hid; rw [hRa.out]; rfl
      go_wp2_with fail
      refine wp_region_held_drew (S := (fun wq => wq.cell? ⟨w.heap.size + 1, 4, none⟩ = some (.slice (some ⟨gg, 0, none⟩) 1 gc) /\ wq.cell? ⟨gg, 0, none⟩ = some (.slice (some ⟨h0, 0, none⟩) n1 cp0) /\ wq.cell? ⟨w1.heap.size, 0, none⟩ = some (.slice (some ⟨g1, 0, none⟩) n2 cap1))) (by kernel_rfl) (⟨jq4, yz, jx⟩) (fun hS => ?_)
      refine tkS 0 (.pointer (some ⟨w.heap.size + 1, 4, none⟩)) hS ?_
      refine tkL 1 (.slice (some ⟨gg, 0, none⟩) 1 gc) hS ?_
      refine tkS 2 (.pointer (some ⟨gg, 0, none⟩)) hS ?_
      refine tkL 3 (.agg #[.slice (some ⟨h0, 0, none⟩) n1 cp0]) hS ?_
      refine tkL 4 (.agg #[.slice (some ⟨g1, 0, none⟩) n2 cap1]) hS ?_
      refine rd1 5 (fun KK hK => ?_)
      (try simp only [List.getElem_toArray, List.getElem_cons_succ, List.getElem_cons_zero])
      go_simp
      go_at_call 67
      refine (HBO.out _ ((Below.refl _ Z).drew.drew)).mono ?_
      rintro e w4 ⟨g4, cap4, rfl, R4, hg4, b4'⟩
      have b4 : Below Z.heap.size Z w4 := ⟨b4'.os, b4'.tape, b4'.output, b4'.size, b4'.block⟩
      have k4 : w4.cell? ⟨w.heap.size + 1, 4, none⟩ = some (.slice (some ⟨gg, 0, none⟩) 1 gc) := (b4.cell (p := ⟨w.heap.size + 1, 4, none⟩) (show w.heap.size + 1 < Z.heap.size by omega)).trans jq4
      have k5 : w4.cell? ⟨gg, 0, none⟩ = some (.slice (some ⟨h0, 0, none⟩) n1 cp0) := (b4.cell (p := ⟨gg, 0, none⟩) (show gg < Z.heap.size by omega)).trans yz
      have k6 : w4.cell? ⟨w1.heap.size, 0, none⟩ = some (.slice (some ⟨g1, 0, none⟩) n2 cap1) := (b4.cell (p := ⟨w1.heap.size, 0, none⟩) (show w1.heap.size < Z.heap.size by omega)).trans jx
      have h4 := (b4.block w.heap.size (by omega)).trans r3
      have c4 := zab h4
      have f4 := zae h4
      have P4 : CPost w0.heap.size b (.slice (some ⟨gL, 0, none⟩) ts.length capL) 50000 st N (.error (e1, e2)) Z (.returned (.agg #[.slice (some ⟨g4, 0, none⟩) (sz (tF u t1)) cap4])) w4 := ⟨tF u t1, g4, cap4, rfl, R4, (HC3.out.below b4).1, (HC3.out.below b4).2, (fun u e => by cases e), (fun f e => by rw [HN12.out]; have := HSZ.out; omega)⟩
      have HP4 : Hid (∀ v, CPost w0.heap.size b (.slice (some ⟨gL, 0, none⟩) ts.length capL) 50000 st N (.error (e1, e2)) w (.returned (.agg #[.slice (some ⟨g4, 0, none⟩) (sz (tF u t1)) cap4])) (w4.setCell ⟨w.heap.size, 0, none⟩ v)) := fun v => P4.store HF3.out h4 (Nat.le_refl _) v
      clear P4 R4 b4'
      (try dsimp only)
      refine hK.out _ _ ⟨k4, k5, k6⟩ (fun hS => nrm ?_)
      refine rd1 6 (fun KK hK => ?_)
      (try simp only [List.getElem_toArray, List.getElem_cons_succ, List.getElem_cons_zero])
      go_simp
      (try dsimp only)
      refine hK.out _ _ ⟨(cell_far w4 ⟨w.heap.size, 0, none⟩ ⟨w.heap.size + 1, 4, none⟩ (show w.heap.size ≠ w.heap.size + 1 by omega)).trans k4, (cell_far w4 ⟨w.heap.size, 0, none⟩ ⟨gg, 0, none⟩ (show w.heap.size ≠ gg by omega)).trans k5, (cell_far w4 ⟨w.heap.size, 0, none⟩ ⟨w1.heap.size, 0, none⟩ (show w.heap.size ≠ w1.heap.size by omega)).trans k6⟩ (fun hS => nrm ?_)
      refine wpAnyH_done (by kernel_rfl) ?_ _
      go_wp2_with fail
      refine zag rfl rfl (zac h4) ?_
      rw [HRS.out]
      exact HP4.out _
   | ok v =>
    rw [hR] at jb2 HC3
    have hv := HY1.out v hR
    subst hv
    have hRa : Hid (Ra = .ok t1) := hR
    have jb2' : Z.cell? ⟨b, 2, none⟩ = some (.int .i64 0) := jb2
    clear jb2 hR
    generalize hbg : decide ((50000 : Int) < (n1 : Int) + (n2 : Int) + 1) = bg at *
    have HBG : Hid (decide ((50000 : Int) < (n1 : Int) + (n2 : Int) + 1) = bg) := hbg
    cases bg
    · go_wp2_with fail
      refine wp_region_held_drew (S := (fun wq => wq.cell? ⟨b, 4, none⟩ = some (.int .i64 50000) /\ wq.cell? ⟨b, 2, none⟩ = some (.int .i64 0) /\ wq.cell? ⟨w.heap.size + 1, 4, none⟩ = some (.slice (some ⟨gg, 0, none⟩) 1 gc) /\ wq.cell? ⟨gg, 0, none⟩ = some (.slice (some ⟨h0, 0, none⟩) n1 cp0) /\ wq.cell? ⟨w1.heap.size, 0, none⟩ = some (.slice (some ⟨g1, 0, none⟩) n2 cap1))) (by kernel_rfl) (⟨jb4, jb2', jq4, yz, jx⟩) (fun hS => ?_)
      refine tkS 0 (.pointer (some ⟨b, 0, none⟩)) hS ?_
      refine tkS 1 (.pointer (some ⟨b, 0, none⟩)) hS ?_
      refine tkS 2 (.pointer (some ⟨b, 4, none⟩)) hS ?_
      refine tkL 3 (.int .i64 50000) hS ?_
      refine tkS 4 (.bool true) hS ?_
      refine tkS 5 (.bool true) hS ?_
      refine tkS 6 (.pointer (some ⟨w.heap.size + 1, 4, none⟩)) hS ?_
      refine tkL 7 (.slice (some ⟨gg, 0, none⟩) 1 gc) hS ?_
      refine tkS 8 (.pointer (some ⟨gg, 0, none⟩)) hS ?_
      refine tkS 9 (.pointer (some ⟨gg, 0, none⟩)) hS ?_
      refine tkL 10 (.slice (some ⟨h0, 0, none⟩) n1 cp0) hS ?_
      refine tkS 11 (.int .i64 (n1 : Int)) hS ?_
      refine tkS 12 (.pointer (some ⟨w1.heap.size, 0, none⟩)) hS ?_
      refine tkL 13 (.slice (some ⟨g1, 0, none⟩) n2 cap1) hS ?_
      refine tkS 14 (.int .i64 (n2 : Int)) hS ?_
      refine tkS 15 (.int .i64 ((n1 : Int) + (n2 : Int))) hS ?_
      refine tkS 16 (.int .i64 ((n1 : Int) + (n2 : Int) + 1)) hS ?_
      refine tkS 17 (.pointer (some ⟨b, 0, none⟩)) hS ?_
      refine tkS 18 (.pointer (some ⟨b, 0, none⟩)) hS ?_
      refine tkS 19 (.pointer (some ⟨b, 4, none⟩)) hS ?_
      refine tkL 20 (.int .i64 50000) hS ?_
      refine tkS 21 (.bool false) hS ?_
      refine tkS 22 (.bool false) hS ?_
      refine tkS 23 (.bool false) hS ?_
      refine tkU 24 hS ?_
      refine tkU 25 hS ?_
      refine tkU 26 hS ?_
      refine tkU 27 hS ?_
      refine tkU 28 hS ?_
      refine tkS 29 (.bool false) hS ?_
      refine wpAnyH_done (by kernel_rfl) ?_ _
      have HRS : Hid (funC u Ra tat = (.ok (tF u t1))) := by unfold Hid; rw [hRa.out]; show (if 50000 < sz (tF u t1) then Except.error (8, tat) else Except.ok (tF u t1)) = _; rw [if_neg (by rw [HN12.out]; have := of_decide_eq_false HBG.out; omega)]
      go_wp2_with fail
      refine wp_region_held_drew (S := (fun wq => wq.cell? ⟨w.heap.size + 1, 4, none⟩ = some (.slice (some ⟨gg, 0, none⟩) 1 gc) /\ wq.cell? ⟨gg, 0, none⟩ = some (.slice (some ⟨h0, 0, none⟩) n1 cp0) /\ wq.cell? ⟨w1.heap.size, 0, none⟩ = some (.slice (some ⟨g1, 0, none⟩) n2 cap1))) (by kernel_rfl) (⟨jq4, yz, jx⟩) (fun hS => ?_)
      refine tkS 0 (.pointer (some ⟨w.heap.size + 1, 4, none⟩)) hS ?_
      refine tkL 1 (.slice (some ⟨gg, 0, none⟩) 1 gc) hS ?_
      refine tkS 2 (.pointer (some ⟨gg, 0, none⟩)) hS ?_
      refine tkL 3 (.agg #[.slice (some ⟨h0, 0, none⟩) n1 cp0]) hS ?_
      refine tkL 4 (.agg #[.slice (some ⟨g1, 0, none⟩) n2 cap1]) hS ?_
      refine rd1 5 (fun KK hK => ?_)
      (try simp only [List.getElem_toArray, List.getElem_cons_succ, List.getElem_cons_zero])
      go_simp
      go_at_call 67
      refine (HBO.out _ ((Below.refl _ Z).drew.drew)).mono ?_
      rintro e w4 ⟨g4, cap4, rfl, R4, hg4, b4'⟩
      have b4 : Below Z.heap.size Z w4 := ⟨b4'.os, b4'.tape, b4'.output, b4'.size, b4'.block⟩
      have k4 : w4.cell? ⟨w.heap.size + 1, 4, none⟩ = some (.slice (some ⟨gg, 0, none⟩) 1 gc) := (b4.cell (p := ⟨w.heap.size + 1, 4, none⟩) (show w.heap.size + 1 < Z.heap.size by omega)).trans jq4
      have k5 : w4.cell? ⟨gg, 0, none⟩ = some (.slice (some ⟨h0, 0, none⟩) n1 cp0) := (b4.cell (p := ⟨gg, 0, none⟩) (show gg < Z.heap.size by omega)).trans yz
      have k6 : w4.cell? ⟨w1.heap.size, 0, none⟩ = some (.slice (some ⟨g1, 0, none⟩) n2 cap1) := (b4.cell (p := ⟨w1.heap.size, 0, none⟩) (show w1.heap.size < Z.heap.size by omega)).trans jx
      have h4 := (b4.block w.heap.size (by omega)).trans r3
      have c4 := zab h4
      have f4 := zae h4
      have P4 : CPost w0.heap.size b (.slice (some ⟨gL, 0, none⟩) ts.length capL) 50000 st N (.ok (tF u t1)) Z (.returned (.agg #[.slice (some ⟨g4, 0, none⟩) (sz (tF u t1)) cap4])) w4 := ⟨tF u t1, g4, cap4, rfl, R4, (HC3.out.below b4).1, (HC3.out.below b4).2, (fun u e => Except.ok.inj e), (fun f e => by cases e)⟩
      have HP4 : Hid (∀ v, CPost w0.heap.size b (.slice (some ⟨gL, 0, none⟩) ts.length capL) 50000 st N (.ok (tF u t1)) w (.returned (.agg #[.slice (some ⟨g4, 0, none⟩) (sz (tF u t1)) cap4])) (w4.setCell ⟨w.heap.size, 0, none⟩ v)) := fun v => P4.store HF3.out h4 (Nat.le_refl _) v
      clear P4 R4 b4'
      (try dsimp only)
      refine hK.out _ _ ⟨k4, k5, k6⟩ (fun hS => nrm ?_)
      refine rd1 6 (fun KK hK => ?_)
      (try simp only [List.getElem_toArray, List.getElem_cons_succ, List.getElem_cons_zero])
      go_simp
      (try dsimp only)
      refine hK.out _ _ ⟨(cell_far w4 ⟨w.heap.size, 0, none⟩ ⟨w.heap.size + 1, 4, none⟩ (show w.heap.size ≠ w.heap.size + 1 by omega)).trans k4, (cell_far w4 ⟨w.heap.size, 0, none⟩ ⟨gg, 0, none⟩ (show w.heap.size ≠ gg by omega)).trans k5, (cell_far w4 ⟨w.heap.size, 0, none⟩ ⟨w1.heap.size, 0, none⟩ (show w.heap.size ≠ w1.heap.size by omega)).trans k6⟩ (fun hS => nrm ?_)
      refine wpAnyH_done (by kernel_rfl) ?_ _
      go_wp2_with fail
      refine zag rfl rfl (zac h4) ?_
      rw [HRS.out]
      exact HP4.out _
    · go_wp2_with fail
      refine wp_region_held_drew (S := (fun wq => wq.cell? ⟨b, 4, none⟩ = some (.int .i64 50000) /\ wq.cell? ⟨b, 2, none⟩ = some (.int .i64 0) /\ wq.cell? ⟨w.heap.size + 1, 4, none⟩ = some (.slice (some ⟨gg, 0, none⟩) 1 gc) /\ wq.cell? ⟨gg, 0, none⟩ = some (.slice (some ⟨h0, 0, none⟩) n1 cp0) /\ wq.cell? ⟨w1.heap.size, 0, none⟩ = some (.slice (some ⟨g1, 0, none⟩) n2 cap1))) (by kernel_rfl) (⟨jb4, jb2', jq4, yz, jx⟩) (fun hS => ?_)
      refine tkS 0 (.pointer (some ⟨b, 0, none⟩)) hS ?_
      refine tkS 1 (.pointer (some ⟨b, 0, none⟩)) hS ?_
      refine tkS 2 (.pointer (some ⟨b, 4, none⟩)) hS ?_
      refine tkL 3 (.int .i64 50000) hS ?_
      refine tkS 4 (.bool true) hS ?_
      refine tkS 5 (.bool true) hS ?_
      refine tkS 6 (.pointer (some ⟨w.heap.size + 1, 4, none⟩)) hS ?_
      refine tkL 7 (.slice (some ⟨gg, 0, none⟩) 1 gc) hS ?_
      refine tkS 8 (.pointer (some ⟨gg, 0, none⟩)) hS ?_
      refine tkS 9 (.pointer (some ⟨gg, 0, none⟩)) hS ?_
      refine tkL 10 (.slice (some ⟨h0, 0, none⟩) n1 cp0) hS ?_
      refine tkS 11 (.int .i64 (n1 : Int)) hS ?_
      refine tkS 12 (.pointer (some ⟨w1.heap.size, 0, none⟩)) hS ?_
      refine tkL 13 (.slice (some ⟨g1, 0, none⟩) n2 cap1) hS ?_
      refine tkS 14 (.int .i64 (n2 : Int)) hS ?_
      refine tkS 15 (.int .i64 ((n1 : Int) + (n2 : Int))) hS ?_
      refine tkS 16 (.int .i64 ((n1 : Int) + (n2 : Int) + 1)) hS ?_
      refine tkS 17 (.pointer (some ⟨b, 0, none⟩)) hS ?_
      refine tkS 18 (.pointer (some ⟨b, 0, none⟩)) hS ?_
      refine tkS 19 (.pointer (some ⟨b, 4, none⟩)) hS ?_
      refine tkL 20 (.int .i64 50000) hS ?_
      refine tkS 21 (.bool true) hS ?_
      refine tkS 22 (.bool true) hS ?_
      refine tkS 23 (.bool true) hS ?_
      refine tkS 24 (.pointer (some ⟨b, 0, none⟩)) hS ?_
      refine tkS 25 (.pointer (some ⟨b, 0, none⟩)) hS ?_
      refine tkS 26 (.pointer (some ⟨b, 2, none⟩)) hS ?_
      refine tkL 27 (.int .i64 0) hS ?_
      refine tkS 28 (.bool true) hS ?_
      refine tkS 29 (.bool true) hS ?_
      refine wpAnyH_done (by kernel_rfl) ?_ _
      have HRS : Hid (funC u Ra tat = .error (8, tat)) := by unfold Hid; rw [hRa.out]; show (if 50000 < sz (tF u t1) then Except.error (8, tat) else Except.ok (tF u t1)) = _; rw [if_pos (by rw [HN12.out]; have := of_decide_eq_true HBG.out; omega)]
      have C3d := HC3.out.below ((Below.refl _ Z).drew)
      have HF3d : Hid (CFr b w Z.drew) := HF3.out.trans C3d.2
      obtain ⟨S4, hk4, -, mv4⟩ := C3d.1.mv
      have HCK : Hid (Ck b (.slice (some ⟨gL, 0, none⟩) ts.length capL) S4 0 0 50000 Z.drew) := hk4
      have HM4 : Hid (∀ (ε' : Ce) (w' : World), (∀ r, ε' = some r -> 1 <= r.1) -> Ck b (.slice (some ⟨gL, 0, none⟩) ts.length capL) S4 (cErr ε') (cAt ε') 50000 w' -> Z.drew.grownBy w' (some b) -> Cs w0.heap.size b (.slice (some ⟨gL, 0, none⟩) ts.length capL) ε' 50000 st w' /\ CFr b Z.drew w') := mv4
      clear C3d hk4 mv4
      go_wp2_with fail
      refine (zch b _ S4 0 50000 8 tat Z.drew HCK.out).mono ?_
      intro e w4 hP4
      have P4 := zim (B := w0.heap.size) (N := N) (st := st) (w := Z.drew) HM4.out (by decide) (by omega) hP4
      obtain ⟨n4, g4, cap4, rfl⟩ := P4.form
      have h4 : w4.heap[w.heap.size]? = some (.cells #[.slice none 0 0] 33 (0, 0)) := by
       obtain ⟨_, _, _, _, _, _, F, _⟩ := P4
       exact (F.keep (w := Z.drew) r3 (by omega) HNR3.out).1
      have c4 := zab h4
      have f4 := zae h4
      have HP4 : Hid (∀ v, CPost w0.heap.size b (.slice (some ⟨gL, 0, none⟩) ts.length capL) 50000 st N (.error (8, tat)) w (.returned (.agg #[.slice (some ⟨g4, 0, none⟩) n4 cap4])) (w4.setCell ⟨w.heap.size, 0, none⟩ v)) := fun v => P4.store (w := w) HF3d.out h4 (Nat.le_refl _) v
      clear P4 hP4
      go_wp2_with fail
      refine zag rfl rfl (zac h4) ?_
      rw [HRS.out]
      exact HP4.out _
def zld (o : Option Nat) (ra : COut) : COut := match o with
 | some p => .error (6, p)
 | none => ra
def restC (r1 : COut) (rb : Ty -> COut) : COut := match r1 with
 | .error f => .error f
 | .ok u => rb u
theorem check_let (w0 : World) (b : Nat) (L : Value) (ts : List Tt) (st : List Se) (w : World) (k : Nat) (c ta tb : Nat) (ga va pa : Option Addr) (gn gc vn vc pn pc tat tto : Nat) (h : Ct w0 b L ts none st w) (hu : ts[k]? = some ⟨64, c, ta, tb, (ga, gn, gc), (va, vn, vc), (pa, pn, pc), tat, tto⟩) (vs : List (Nat × Nat)) (Na Nb N : Nat) (Ra : COut) (Rb : Ty -> COut) (hta : ta < ts.length) (htb : tb < ts.length) (hst : StOk st) (hls : st.length <= 100000) (hv : VOk vs) (hvl : vs.length <= 60000) (hN : Nb + 1 <= N)
 (hcap : vn <= vc) (hV : Is w0 (.slice va vn vc) (vs.map (·.1 + 30))) (hP : Is w0 (.slice pa pn pc) (vs.map (·.2)))
 (HA : ∀ X, Ct w0 b L ts none st X -> Calls Tryz.prog 61 #[.pointer (some ⟨b, 0, none⟩), .int .i64 (ta : Int)] X (CPost w0.heap.size b L 50000 st Na Ra X))
 (HB : ∀ u X g1 cap1, zld (zaz (envSt st) vs []) Ra = .ok u -> Ct w0 b L ts none (st ++ [⟨c, u, (vs.map (·.1)), g1, cap1, (va, vn, vc)⟩]) X -> Calls Tryz.prog 61 #[.pointer (some ⟨b, 0, none⟩), .int .i64 (tb : Int)] X (CPost w0.heap.size b L 50000 (st ++ [⟨c, u, (vs.map (·.1)), g1, cap1, (va, vn, vc)⟩]) Nb (Rb u) X)) :
 Calls Tryz.prog 61 #[.pointer (some ⟨b, 0, none⟩), .int .i64 (k : Int)] w (CPost w0.heap.size b L 50000 st N (restC (zld (zaz (envSt st) vs []) Ra) Rb) w) := by
 have hT := h.terms
 obtain ⟨gL, capL, rfl, hgL, HLcs⟩ := id hT
 have HLC : Hid _ := HLcs
 clear HLcs
 obtain ⟨k0, k1, k2, k3, k4, k5, k6, k7, k8⟩ := hT.at hu
 simp only at k0 k1 k2 k3 k4 k5 k6 k7 k8
 have hkl : k < ts.length := (List.getElem?_eq_some_iff.1 hu).1
 have hlen := h.len
 have hblt := h.cs.lt
 have hw0 : w0.heap.size <= w.heap.size := h.old.size
 obtain ⟨S, hck, -, -⟩ := h.cs.mv
 have B0 := zcu (tmI 64 c ta tb ga va pa gn gc vn vc pn pc tat tto) w
 have r0 := zeq (tmI 64 c ta tb ga va pa gn gc vn vc pn pc tat tto) w
 have q0 := zdm (tmI 64 c ta tb ga va pa gn gc vn vc pn pc tat tto) w
 have z0 := zdj (tmI 64 c ta tb ga va pa gn gc vn vc pn pc tat tto) w
 have kb0 : w.cell? ⟨b, 0, none⟩ = some (.slice (some ⟨gL, 0, none⟩) ts.length capL) := cbl hck
 have kb0' : (w.alloc rbO).cell? ⟨b, 0, none⟩ = some (.slice (some ⟨gL, 0, none⟩) ts.length capL) := (World.cell?_alloc_lt _ _ ⟨b, 0, none⟩ hblt).trans kb0
 have kb2 : (ckW (tmI 64 c ta tb ga va pa gn gc vn vc pn pc tat tto) w).cell? ⟨b, 2, none⟩ = some (.int .i64 0) := by rw [Lib.cell_of_heap (hck.below B0)]; rfl
 have HC : Hid (Cs w0.heap.size b (.slice (some ⟨gL, 0, none⟩) ts.length capL) none 50000 st w) := h.cs
 have HC0 : Hid (Cs w0.heap.size b (.slice (some ⟨gL, 0, none⟩) ts.length capL) none 50000 st (ckW (tmI 64 c ta tb ga va pa gn gc vn vc pn pc tat tto) w)) := (h.cs.below B0).1
 have HF0 : Hid (CFr b w (ckW (tmI 64 c ta tb ga va pa gn gc vn vc pn pc tat tto) w)) := (h.cs.below B0).2
 have HCT : Hid (Ct w0 b (.slice (some ⟨gL, 0, none⟩) ts.length capL) ts none st w) := h
 have HB0 : Hid (Below w.heap.size w (ckW (tmI 64 c ta tb ga va pa gn gc vn vc pn pc tat tto) w)) := B0
 have HU : Hid (ts[k]? = some ⟨64, c, ta, tb, (ga, gn, gc), (va, vn, vc), (pa, pn, pc), tat, tto⟩) := hu
 have HSL : Hid (∀ j, srow b (ckW (tmI 64 c ta tb ga va pa gn gc vn vc pn pc tat tto) w) = some j -> j < w.heap.size) := by
  intro j e
  rw [(hck.below B0).row, <- hck.row] at e
  exact (h.cs.rowB j e).2
 have HCTW : Hid (Ct w0 b (.slice (some ⟨gL, 0, none⟩) ts.length capL) ts none st (ckW (tmI 64 c ta tb ga va pa gn gc vn vc pn pc tat tto) w)) := (h.cs.below B0).2.ct h (h.cs.below B0).1
 have BW0 := HCTW.out.old
 have hbB : w0.heap.size <= b := h.cs.1
 have HBD : Hid (Calls Tryz.prog 100 #[.pointer (some ⟨b, 0, none⟩), .agg (tmI 64 c ta tb ga va pa gn gc vn vc pn pc tat tto)] (ckW (tmI 64 c ta tb ga va pa gn gc vn vc pn pc tat tto) w) fun e w' => e = .returned (.tuple #[]) /\ Cs w0.heap.size b (.slice (some ⟨gL, 0, none⟩) ts.length capL) ((zaz (envSt st) vs []).map (fun p => (6, p))) 50000 st w' /\ CFr b (ckW (tmI 64 c ta tb ga va pa gn gc vn vc pn pc tat tto) w) w') :=
  bound_any w0.heap.size b (.slice (some ⟨gL, 0, none⟩) ts.length capL) 50000 st vs 64 c ta tb ga va pa gn gc vn vc pn pc tat tto (ckW (tmI 64 c ta tb ga va pa gn gc vn vc pn pc tat tto) w) HC0.out hst hls hv hvl hcap (hV.below BW0) (hP.below BW0)
 have HIV : Hid (∀ X, Below w0.heap.size w0 X -> Is X (slV (va, vn, vc)) ((vs.map (·.1)).map (· + 30))) := by
  intro X hX
  have e : (vs.map (·.1)).map (· + 30) = vs.map (·.1 + 30) := by rw [List.map_map]; rfl
  rw [e]
  exact hV.below hX
 generalize hob : zaz (envSt st) vs [] = ob at *
 clear hob
 have HHA : Hid (∀ X, Ct w0 b (.slice (some ⟨gL, 0, none⟩) ts.length capL) ts (ob.map (fun p => (6, p))) st X -> Calls Tryz.prog 61 #[.pointer (some ⟨b, 0, none⟩), .int .i64 (ta : Int)] X (CPost w0.heap.size b (.slice (some ⟨gL, 0, none⟩) ts.length capL) 50000 st (Na + 1) (zld ob Ra) X)) := by
  intro X hX
  cases ob with
  | some p =>
   refine (zil w0 b _ ts (6, p) st X ta hX hta).mono ?_
   rintro e w' ⟨t, g, cap, rfl, R, C, F, h1, h2⟩
   exact ⟨t, g, cap, rfl, R, C, F, h1, fun f e => Nat.le_trans (h2 f e) (by omega)⟩
  | none =>
   refine (HA X hX).mono ?_
   rintro e w' ⟨t, g, cap, rfl, R, C, F, h1, h2⟩
   exact ⟨t, g, cap, rfl, R, C, F, h1, fun f e => Nat.le_trans (h2 f e) (by omega)⟩
 generalize hr1 : zld ob Ra = r1 at *
 clear hr1
 have HHB : Hid (∀ X t1 g1 cap1, (∀ u, r1 = .ok u -> t1 = u) -> Ct w0 b (.slice (some ⟨gL, 0, none⟩) ts.length capL) ts (errOf r1) (st ++ [⟨c, t1, (vs.map (·.1)), g1, cap1, (va, vn, vc)⟩]) X -> Calls Tryz.prog 61 #[.pointer (some ⟨b, 0, none⟩), .int .i64 (tb : Int)] X (CPost w0.heap.size b (.slice (some ⟨gL, 0, none⟩) ts.length capL) 50000 (st ++ [⟨c, t1, (vs.map (·.1)), g1, cap1, (va, vn, vc)⟩]) N (restC r1 Rb) X)) := by
  intro X t1 g1 cap1 ht hX
  cases r1 with
  | error r =>
   refine (zil w0 b _ ts r _ X tb hX htb).mono ?_
   rintro e w' ⟨t, g, cap, rfl, R, C, F, h1, h2⟩
   exact ⟨t, g, cap, rfl, R, C, F, h1, fun f e => Nat.le_trans (h2 f e) (by omega)⟩
  | ok u =>
   obtain rfl := ht u rfl
   refine (HB _ X g1 cap1 rfl hX).mono ?_
   rintro e w' ⟨t, g, cap, rfl, R, C, F, h1, h2⟩
   exact ⟨t, g, cap, rfl, R, C, F, h1, fun f e => Nat.le_trans (h2 f e) (by omega)⟩
 clear HA HB hV hP hv hst BW0
 have HSW : Hid (srow b (ckW (tmI 64 c ta tb ga va pa gn gc vn vc pn pc tat tto) w) ≠ some w.heap.size /\ srow b (ckW (tmI 64 c ta tb ga va pa gn gc vn vc pn pc tat tto) w) ≠ some (w.heap.size + 1)) := ⟨fun e => by have := HSL.out _ e; omega, fun e => by have := HSL.out _ e; omega⟩
 clear h hT hu B0 hck
 go_enter Tryz.func61, Tryz.ntmps61
 go_wp2_with fail
 unfold ckW at *
 generalize (w.alloc rbO).alloc (.cells (tmI 64 c ta tb ga va pa gn gc vn vc pn pc tat tto) 76) = W at *
 refine HBD.out.mono ?_
 rintro e wA ⟨rfl, C5, F5⟩
 obtain ⟨r5, nr5⟩ := F5.keep r0 (by omega) HSW.out.1
 obtain ⟨q5, nq5⟩ := F5.keep q0 (by omega) HSW.out.2
 have z5 := F5.size
 have j5 : wA.cell? ⟨w.heap.size + 1, 2, none⟩ = some (.int .i64 (ta : Int)) := cbl q5
 have HCT5 : Hid (Ct w0 b (.slice (some ⟨gL, 0, none⟩) ts.length capL) ts (ob.map (fun p => (6, p))) st wA) := F5.ct HCTW.out C5
 have HF5 : Hid (CFr b w wA) := HF0.out.trans F5
 have HNR5 : Hid (srow b wA ≠ some w.heap.size /\ srow b wA ≠ some (w.heap.size + 1)) := ⟨nr5, nq5⟩
 clear nr5 nq5 C5 F5 r0 q0
 go_wp2_with fail
 refine (HHA.out wA HCT5.out).mono ?_
 intro e w1 hP1
 obtain ⟨t1, g1, cap1, rfl, R1, C1, F1, y1, y1'⟩ := hP1
 have HY1 : Hid (∀ v, r1 = .ok v -> t1 = v) := y1
 have bA : Below w1.heap.size w1 (w1.alloc (tbO g1 (sz t1) cap1)) := bal w1 _
 have HC2 : Hid (Cs w0.heap.size b (.slice (some ⟨gL, 0, none⟩) ts.length capL) (errOf r1) 50000 st (w1.alloc (tbO g1 (sz t1) cap1))) := (C1.below bA).1
 have HF2 : Hid (CFr b wA (w1.alloc (tbO g1 (sz t1) cap1))) := F1.trans (C1.below bA).2
 have HR2 : Hid (Rg g1 t1 (w1.alloc (tbO g1 (sz t1) cap1))) := R1.below bA
 have x2 : (w1.alloc (tbO g1 (sz t1) cap1)).heap[w1.heap.size]? = some (.cells #[.slice (some ⟨g1, 0, none⟩) (sz t1) cap1] 33 (0, 0)) := heap_alloc_new w1 _
 have s1 := F1.size
 have sA : Hid ((w1.alloc (tbO g1 (sz t1) cap1)).heap.size = w1.heap.size + 1) := by unfold Hid; simp
 obtain ⟨r2, nr2⟩ := HF2.out.keep r5 (by omega) HNR5.out.1
 obtain ⟨q2, nq2⟩ := HF2.out.keep q5 (by omega) HNR5.out.2
 have nx2 : srow b (w1.alloc (tbO g1 (sz t1) cap1)) ≠ some w1.heap.size := by
  intro e
  obtain ⟨S', hk', -⟩ := C1.mv
  rw [(hk'.below bA).row, <- hk'.row] at e
  have := (C1.rowB _ e).2
  omega
 have HCT2 : Hid (Ct w0 b (.slice (some ⟨gL, 0, none⟩) ts.length capL) ts (errOf r1) st (w1.alloc (tbO g1 (sz t1) cap1))) := HF2.out.ct HCT5.out HC2.out
 obtain ⟨S', hck', -, -⟩ := HC2.out.mv
 obtain ⟨i0, hi0, hz0, hz1, hz2⟩ := info_parts zlb
 have ho : (w1.alloc (tbO g1 (sz t1) cap1)).ownsRow w0.heap.size 150 3 S' st.length (zbl st) := by
  obtain ⟨_, _, _, S2, hk2, ho2, _⟩ := id HC2.out
  obtain rfl : S2 = S' := by
   have e : some (Obj.cells _ _ _) = some (Obj.cells _ _ _) := hk2.symm.trans hck'
   simp at e
   exact e
  exact ho2
 have hne : S'.ownBlock ≠ some b := by
  obtain ⟨_, _, _, S2, hk2, ho2, hn2, _⟩ := id HC2.out
  obtain rfl : S2 = S' := by
   have e : some (Obj.cells _ _ _) = some (Obj.cells _ _ _) := hk2.symm.trans hck'
   simp at e
   exact e
  exact hn2
 have nqS : S'.ownBlock ≠ some (w.heap.size + 1) := fun e => nq2 (hck'.row.trans e)
 have nxS : S'.ownBlock ≠ some w1.heap.size := fun e => nx2 (hck'.row.trans e)
 have HN2 : Hid (srow b (w1.alloc (tbO g1 (sz t1) cap1)) ≠ some w.heap.size /\ srow b (w1.alloc (tbO g1 (sz t1) cap1)) ≠ some (w.heap.size + 1)) := ⟨nr2, nq2⟩
 have HK' : Hid (Ck b (.slice (some ⟨gL, 0, none⟩) ts.length capL) S' (cErr (errOf r1)) (cAt (errOf r1)) 50000 (w1.alloc (tbO g1 (sz t1) cap1))) := hck'
 have kb1 : (w1.alloc (tbO g1 (sz t1) cap1)).cell? ⟨b, 1, none⟩ = some S' := cbl hck'
 have j1 : (w1.alloc (tbO g1 (sz t1) cap1)).cell? ⟨w.heap.size + 1, 1, none⟩ = some (.int .u8 (c : Int)) := cbl q2
 have j4 : (w1.alloc (tbO g1 (sz t1) cap1)).cell? ⟨w.heap.size + 1, 5, none⟩ = some (.slice va vn vc) := cbl q2
 have y0 := zab x2
 clear R1 C1 F1 y1 y1' bA nr2 nq2 nx2 r5 q5 j5 hck' HHA
 generalize hn1 : sz t1 = n1 at *
 have HN1 : Hid (sz t1 = n1) := hn1
 clear hn1
 go_upto_region 17 with fail
 generalize hY : w1.alloc (tbO g1 n1 cap1) = Y at *
 clear hY
 have HNW : Hid (∀ j u, [Value.int .u8 (c : Int), .slice (some ⟨g1, 0, none⟩) n1 cap1, .slice va vn vc][j]? = some u -> (Y.alloc (seO c g1 n1 cap1 va vn vc)).drew.cell? ((⟨Y.heap.size, 0, none⟩ : Addr).add j) = some u) := se_news Y c g1 n1 cap1 va vn vc
 have hbW : b < Y.heap.size := by have := sA.out; omega
 have hxW : w1.heap.size < Y.heap.size := by have := sA.out; omega
 have hqW : w.heap.size + 1 < Y.heap.size := by have := sA.out; omega
 have hYw : w0.heap.size <= Y.heap.size := by omega
 have HPU : Hid (∀ g5 cap5 w5, World.ownsRow w5 w0.heap.size 150 3 (.slice (some ⟨g5, 0, none⟩) (st.length + 1) cap5) (st.length + 1) (zbl st ++ [Value.int .u8 (c : Int), .slice (some ⟨g1, 0, none⟩) n1 cap1, .slice va vn vc]) -> (Y.alloc (seO c g1 n1 cap1 va vn vc)).drew.grownBy w5 S'.ownBlock -> (S'.ownBlock = some g5 \/ g5 = Y.heap.size + 1) ->
  Hid (Cs w0.heap.size b (.slice (some ⟨gL, 0, none⟩) ts.length capL) (errOf r1) 50000 (st ++ [⟨c, t1, (vs.map (·.1)), g1, cap1, (va, vn, vc)⟩]) (w5.setCell ⟨b, 1, none⟩ (.slice (some ⟨g5, 0, none⟩) (st.length + 1) cap5)) /\ CFr b Y (w5.setCell ⟨b, 1, none⟩ (.slice (some ⟨g5, 0, none⟩) (st.length + 1) cap5)))) := by
  intro g5 cap5 w5 ho5 hg5 ha5
  have B5 : Below Y.heap.size Y (Y.alloc (seO c g1 n1 cap1 va vn vc)).drew := (bal Y _).drew
  have e5 : [Value.int .u8 (c : Int), .slice (some ⟨g1, 0, none⟩) n1 cap1, .slice va vn vc] = Se.cells ⟨c, t1, (vs.map (·.1)), g1, cap1, (va, vn, vc)⟩ := by unfold Se.cells; rw [HN1.out]
  rw [e5] at ho5
  have C5 := HC2.out.below B5
  have := C5.1.push (HK'.out.below B5) ho5 hg5 (by rcases ha5 with e | e; exact .inl e; exact .inr (by rw [e]; show (Y.alloc (seO c g1 n1 cap1 va vn vc)).heap.size <= _; simp)) ⟨HR2.out.below B5, HIV.out _ (HCT2.out.old.trans (B5.mono HCT2.out.old.size))⟩
  exact ⟨this.1, C5.2.trans this.2⟩
 go_cut [130] from 116 to 130 (fun _ wx => Hid (Cs w0.heap.size b (.slice (some ⟨gL, 0, none⟩) ts.length capL) (errOf r1) 50000 (st ++ [⟨c, t1, (vs.map (·.1)), g1, cap1, (va, vn, vc)⟩]) wx /\ CFr b Y wx))
 case first =>
  have fA : ∀ g j, g < Y.heap.size -> (Y.alloc (seO c g1 n1 cap1 va vn vc)).cell? ⟨g, j, none⟩ = Y.cell? ⟨g, j, none⟩ := fun g j hg => World.cell?_alloc_lt _ _ ⟨g, j, none⟩ hg
  have jA1 := (fA (w.heap.size + 1) 1 (by omega)).trans j1
  have jA4 := (fA (w.heap.size + 1) 5 (by omega)).trans j4
  have yA0 := (fA w1.heap.size 0 hxW).trans y0
  have kA1 : (Y.alloc (seO c g1 n1 cap1 va vn vc)).drew.cell? ⟨b, 1, none⟩ = some S' := (fA b 1 hbW).trans kb1
  have kA1' : (Y.drew.alloc (seO c g1 n1 cap1 va vn vc)).cell? ⟨b, 1, none⟩ = some S' := (fA b 1 hbW).trans kb1
  have kb1' : Y.drew.cell? ⟨b, 1, none⟩ = some S' := kb1
  refine wp_region_held_drew (S := (fun wq => wq.cell? ⟨w.heap.size + 1, 1, none⟩ = some (.int .u8 (c : Int)) /\ wq.cell? ⟨w.heap.size + 1, 5, none⟩ = some (.slice va vn vc) /\ wq.cell? ⟨w1.heap.size, 0, none⟩ = some (.slice (some ⟨g1, 0, none⟩) n1 cap1))) (by kernel_rfl) (⟨j1, j4, y0⟩) (fun hS => ?_)
  refine tkS 0 (.pointer (some ⟨b, 0, none⟩)) hS ?_
  refine tkS 1 (.pointer (some ⟨b, 0, none⟩)) hS ?_
  refine tkS 2 (.pointer (some ⟨b, 0, none⟩)) hS ?_
  refine tkS 3 (.pointer (some ⟨b, 1, none⟩)) hS ?_
  refine tkS 5 (.pointer (some ⟨w.heap.size + 1, 1, none⟩)) hS ?_
  refine tkL 6 (.int .u8 (c : Int)) hS ?_
  refine tkL 7 (.agg #[.slice (some ⟨g1, 0, none⟩) n1 cap1]) hS ?_
  refine tkS 8 (.pointer (some ⟨w.heap.size + 1, 5, none⟩)) hS ?_
  refine tkL 9 (.slice va vn vc) hS ?_
  refine tkS 10 (.agg #[.int .u8 (c : Int), .slice (some ⟨g1, 0, none⟩) n1 cap1, .slice va vn vc]) hS ?_
  refine wpAnyH_ready (rs := [4, 11]) (by kernel_rfl) (by simp) ?_
  refine AllReadyH.cons rfl (fun KK hK => ?_) (AllReadyH.cons rfl (fun KK hK => ?_) AllReadyH.nil)
  · (try simp only [List.getElem_toArray, List.getElem_cons_succ, List.getElem_cons_zero])
    go_simp
    (try dsimp only)
    refine hK.out _ _ hS (fun hS => nrm ?_)
    refine rd1 11 (fun KK hK => ?_)
    (try simp only [List.getElem_toArray, List.getElem_cons_succ, List.getElem_cons_zero])
    go_simp
    (try dsimp only)
    refine hK.out _ _ ⟨jA1, jA4, yA0⟩ (fun hS => nrm ?_)
    refine rd1 12 (fun KK hK => ?_)
    refine step_append_lies _ (by rfl) _ _ _ (by rfl) w0.heap.size 150 i0 _ 3 56 Tryz.underlying102 hi0 hz0 hz1 hz2 rfl (by omega) S' st.length (zbl st) (by rfl) ((ho.alloc _).drew) ⟨Y.heap.size, 0, none⟩ 1 1 [Value.int .u8 (c : Int), .slice (some ⟨g1, 0, none⟩) n1 cap1, .slice va vn vc] (by rfl) (by rfl) HNW.out (by simp [Value.oneCell']) (by omega) (by unfold maxLen; omega) (by omega) (by simp; omega) (Y.heap.size + 1) (by simp) ?_
    intro g5 cap5 w5 hown5 hgrow5 hat5 hlt5
    have k5 : w5.cell? ⟨b, 1, none⟩ = some S' := zei (zax hgrow5 HK'.out hne)
    have f5 : w5.frozen? ⟨b, 1, none⟩ = false := zek (zax hgrow5 HK'.out hne)
    have l0 := zax hgrow5 q2 nqS
    have l1 : w5.cell? ⟨w.heap.size + 1, 1, none⟩ = some (.int .u8 (c : Int)) := cbl l0
    have l4 : w5.cell? ⟨w.heap.size + 1, 5, none⟩ = some (.slice va vn vc) := cbl l0
    have ly : w5.cell? ⟨w1.heap.size, 0, none⟩ = some (.slice (some ⟨g1, 0, none⟩) n1 cap1) := zab (zax hgrow5 x2 nxS)
    refine hK.out _ _ ⟨l1, l4, ly⟩ (fun hS => nrm ?_)
    refine tkS 13 (.pointer (some ⟨b, 0, none⟩)) hS ?_
    refine tkS 14 (.pointer (some ⟨b, 1, none⟩)) hS ?_
    refine rd1 15 (fun KK hK => ?_)
    (try simp only [List.getElem_toArray, List.getElem_cons_succ, List.getElem_cons_zero])
    go_simp
    (try dsimp only)
    refine hK.out _ _ ⟨(cell_far w5 ⟨b, 1, none⟩ ⟨w.heap.size + 1, 1, none⟩ (show b ≠ w.heap.size + 1 by omega)).trans l1, (cell_far w5 ⟨b, 1, none⟩ ⟨w.heap.size + 1, 5, none⟩ (show b ≠ w.heap.size + 1 by omega)).trans l4, (cell_far w5 ⟨b, 1, none⟩ ⟨w1.heap.size, 0, none⟩ (show b ≠ w1.heap.size by omega)).trans ly⟩ (fun hS => nrm ?_)
    refine wpAnyH_done (by kernel_rfl) ?_ _
    go_wp2_with fail
    go_meet
    case rel => exact HPU.out g5 cap5 w5 hown5 hgrow5 hat5
  · (try simp only [List.getElem_toArray, List.getElem_cons_succ, List.getElem_cons_zero])
    go_simp
    (try dsimp only)
    refine hK.out _ _ ⟨jA1, jA4, yA0⟩ (fun hS => nrm ?_)
    refine rd1 4 (fun KK hK => ?_)
    (try simp only [List.getElem_toArray, List.getElem_cons_succ, List.getElem_cons_zero])
    go_simp
    (try dsimp only)
    refine hK.out _ _ ⟨jA1, jA4, yA0⟩ (fun hS => nrm ?_)
    refine rd1 12 (fun KK hK => ?_)
    refine step_append_lies _ (by rfl) _ _ _ (by rfl) w0.heap.size 150 i0 _ 3 56 Tryz.underlying102 hi0 hz0 hz1 hz2 rfl (by omega) S' st.length (zbl st) (by rfl) ((ho.alloc _).drew) ⟨Y.heap.size, 0, none⟩ 1 1 [Value.int .u8 (c : Int), .slice (some ⟨g1, 0, none⟩) n1 cap1, .slice va vn vc] (by rfl) (by rfl) HNW.out (by simp [Value.oneCell']) (by omega) (by unfold maxLen; omega) (by omega) (by simp; omega) (Y.heap.size + 1) (by simp) ?_
    intro g5 cap5 w5 hown5 hgrow5 hat5 hlt5
    have k5 : w5.cell? ⟨b, 1, none⟩ = some S' := zei (zax hgrow5 HK'.out hne)
    have f5 : w5.frozen? ⟨b, 1, none⟩ = false := zek (zax hgrow5 HK'.out hne)
    have l0 := zax hgrow5 q2 nqS
    have l1 : w5.cell? ⟨w.heap.size + 1, 1, none⟩ = some (.int .u8 (c : Int)) := cbl l0
    have l4 : w5.cell? ⟨w.heap.size + 1, 5, none⟩ = some (.slice va vn vc) := cbl l0
    have ly : w5.cell? ⟨w1.heap.size, 0, none⟩ = some (.slice (some ⟨g1, 0, none⟩) n1 cap1) := zab (zax hgrow5 x2 nxS)
    refine hK.out _ _ ⟨l1, l4, ly⟩ (fun hS => nrm ?_)
    refine tkS 13 (.pointer (some ⟨b, 0, none⟩)) hS ?_
    refine tkS 14 (.pointer (some ⟨b, 1, none⟩)) hS ?_
    refine rd1 15 (fun KK hK => ?_)
    (try simp only [List.getElem_toArray, List.getElem_cons_succ, List.getElem_cons_zero])
    go_simp
    (try dsimp only)
    refine hK.out _ _ ⟨(cell_far w5 ⟨b, 1, none⟩ ⟨w.heap.size + 1, 1, none⟩ (show b ≠ w.heap.size + 1 by omega)).trans l1, (cell_far w5 ⟨b, 1, none⟩ ⟨w.heap.size + 1, 5, none⟩ (show b ≠ w.heap.size + 1 by omega)).trans l4, (cell_far w5 ⟨b, 1, none⟩ ⟨w1.heap.size, 0, none⟩ (show b ≠ w1.heap.size by omega)).trans ly⟩ (fun hS => nrm ?_)
    refine wpAnyH_done (by kernel_rfl) ?_ _
    go_wp2_with fail
    go_meet
    case rel => exact HPU.out g5 cap5 w5 hown5 hgrow5 hat5
 case rest =>
  generalize wc = wB at *
  obtain ⟨C6, F6⟩ := hcut.out
  obtain ⟨r6, nr6⟩ := F6.keep r2 (by omega) HN2.out.1
  obtain ⟨q6, nq6⟩ := F6.keep q2 (by omega) HN2.out.2
  have z6 := F6.size
  have j6 : wB.cell? ⟨w.heap.size + 1, 3, none⟩ = some (.int .i64 (tb : Int)) := cbl q6
  have HCT6 : Hid (Ct w0 b (.slice (some ⟨gL, 0, none⟩) ts.length capL) ts (errOf r1) (st ++ [⟨c, t1, (vs.map (·.1)), g1, cap1, (va, vn, vc)⟩]) wB) := F6.ct HCT2.out C6
  have HF6 : Hid (CFr b w wB) := (HF5.out.trans HF2.out).trans F6
  have HNR6 : Hid (srow b wB ≠ some w.heap.size) := nr6
  clear nr6 nq6 C6 F6 hcut HPU HK' ho hne nqS nxS HNW hi0 hz0 hz1 hz2 r2 q2 x2 kb1 j1 j4 y0 q6
  go_wp2_with fail
  refine (HHB.out wB t1 g1 cap1 HY1.out HCT6.out).mono ?_
  intro e w2 hP2
  obtain ⟨t2, g2, cap2, rfl, R2, C2, F2, y2, y2'⟩ := hP2
  have HY2 : Hid ((∀ v, restC r1 Rb = .ok v -> t2 = v) /\ (∀ f, restC r1 Rb = .error f -> sz t2 <= N)) := ⟨y2, y2'⟩
  have bB : Below w2.heap.size w2 (w2.alloc (tbO g2 (sz t2) cap2)) := bal w2 _
  have C3 := (C2.below bB).1
  have HF3 : Hid (CFr b wB (w2.alloc (tbO g2 (sz t2) cap2))) := F2.trans (C2.below bB).2
  have HR3 : Hid (Rg g2 t2 (w2.alloc (tbO g2 (sz t2) cap2))) := R2.below bB
  have x3 : (w2.alloc (tbO g2 (sz t2) cap2)).heap[w2.heap.size]? = some (.cells #[.slice (some ⟨g2, 0, none⟩) (sz t2) cap2] 33 (0, 0)) := heap_alloc_new w2 _
  have s2 := F2.size
  have sB : Hid ((w2.alloc (tbO g2 (sz t2) cap2)).heap.size = w2.heap.size + 1) := by unfold Hid; simp
  obtain ⟨r3, nr3⟩ := HF3.out.keep r6 (by omega) HNR6.out
  have nx3 : srow b (w2.alloc (tbO g2 (sz t2) cap2)) ≠ some w2.heap.size := by
   intro e
   obtain ⟨S', hk', -⟩ := C2.mv
   rw [(hk'.below bB).row, <- hk'.row] at e
   have := (C2.rowB _ e).2
   omega
  obtain ⟨S2, hk2, -, -⟩ := C3.mv
  obtain ⟨gs, caps, rfl, hcaps, C4, F4⟩ := C3.pop hk2
  have kb2' : (w2.alloc (tbO g2 (sz t2) cap2)).drew.cell? ⟨b, 1, none⟩ = some (.slice (some ⟨gs, 0, none⟩) (st.length + 1) caps) := zei hk2
  have fb2 : (w2.alloc (tbO g2 (sz t2) cap2)).drew.frozen? ⟨b, 1, none⟩ = false := zek hk2
  have HPO : Hid (Cs w0.heap.size b (.slice (some ⟨gL, 0, none⟩) ts.length capL) (errOf (restC r1 Rb)) 50000 st ((w2.alloc (tbO g2 (sz t2) cap2)).setCell ⟨b, 1, none⟩ (.slice (some ⟨gs, 0, none⟩) st.length caps)) /\ CFr b (w2.alloc (tbO g2 (sz t2) cap2)) ((w2.alloc (tbO g2 (sz t2) cap2)).setCell ⟨b, 1, none⟩ (.slice (some ⟨gs, 0, none⟩) st.length caps))) := ⟨C4, F4⟩
  have HN3 : Hid (srow b (w2.alloc (tbO g2 (sz t2) cap2)) ≠ some w.heap.size /\ srow b (w2.alloc (tbO g2 (sz t2) cap2)) ≠ some w2.heap.size) := ⟨nr3, nx3⟩
  have HC3 : Hid (Cs w0.heap.size b (.slice (some ⟨gL, 0, none⟩) ts.length capL) (errOf (restC r1 Rb)) 50000 (st ++ [⟨c, t1, (vs.map (·.1)), g1, cap1, (va, vn, vc)⟩]) (w2.alloc (tbO g2 (sz t2) cap2))) := C3
  clear R2 C2 F2 y2 y2' bB nr3 nx3 r6 j6 C3 C4 F4 hk2 HHB
  generalize hn2 : sz t2 = n2 at *
  have HN2' : Hid (sz t2 = n2) := hn2
  clear hn2
  go_upto_region 19 with fail
  generalize hY2 : w2.alloc (tbO g2 n2 cap2) = Y2 at *
  clear hY2
  generalize hsl : st.length = sl at *
  clear hsl
  go_cut [148] from 135 to 148 (fun _ wx => wx = (Y2.setCell ⟨b, 1, none⟩ (.slice (some ⟨gs, 0, none⟩) sl caps)).drew)
  case first =>
   have hwsl : IntKind.i64.wrap (sl : Int) = (sl : Int) := IntWalk.i64_in _ ⟨by omega, by omega⟩
   have bs1 : (0 : Int) <= (sl : Int) := by omega
   have bs2 : (sl : Int) <= (caps : Int) := by omega
   have bs3 : sl <= caps := by omega
   refine wp_region_held_drew (S := (fun _ => True)) (by kernel_rfl) trivial (fun hS => ?_)
   refine tkS 0 (.pointer (some ⟨b, 0, none⟩)) hS ?_
   refine tkS 1 (.pointer (some ⟨b, 0, none⟩)) hS ?_
   refine tkS 2 (.pointer (some ⟨b, 0, none⟩)) hS ?_
   refine tkS 3 (.pointer (some ⟨b, 1, none⟩)) hS ?_
   refine tkS 5 (.pointer (some ⟨b, 0, none⟩)) hS ?_
   refine tkS 6 (.pointer (some ⟨b, 0, none⟩)) hS ?_
   refine tkS 7 (.pointer (some ⟨b, 1, none⟩)) hS ?_
   refine wpAnyH_ready (rs := [4, 8]) (by kernel_rfl) (by simp) ?_
   refine AllReadyH.cons rfl (fun KK hK => ?_) (AllReadyH.cons rfl (fun KK hK => ?_) AllReadyH.nil)
   · (try simp only [List.getElem_toArray, List.getElem_cons_succ, List.getElem_cons_zero])
     go_simp
     (try dsimp only)
     refine hK.out _ _ trivial (fun hS => nrm ?_)
     refine rd1 8 (fun KK hK => ?_)
     (try simp only [List.getElem_toArray, List.getElem_cons_succ, List.getElem_cons_zero])
     go_simp
     (try dsimp only)
     refine hK.out _ _ trivial (fun hS => nrm ?_)
     refine tkS 9 (.int .i64 ((sl : Int) + 1)) hS ?_
     refine tkS 10 (.int .i64 (sl : Int)) hS ?_
     refine tkS 11 (.slice (some ⟨gs, 0, none⟩) sl caps) hS ?_
     refine tkS 12 (.pointer (some ⟨b, 0, none⟩)) hS ?_
     refine tkS 13 (.pointer (some ⟨b, 1, none⟩)) hS ?_
     refine rd1 14 (fun KK hK => ?_)
     (try simp only [List.getElem_toArray, List.getElem_cons_succ, List.getElem_cons_zero])
     go_simp
     (try dsimp only)
     refine hK.out _ _ trivial (fun hS => nrm ?_)
     refine wpAnyH_done (by kernel_rfl) ?_ _
     go_wp2_with fail
     go_meet
     case rel => rfl
   · (try simp only [List.getElem_toArray, List.getElem_cons_succ, List.getElem_cons_zero])
     go_simp
     (try dsimp only)
     refine hK.out _ _ trivial (fun hS => nrm ?_)
     refine tkS 9 (.int .i64 ((sl : Int) + 1)) hS ?_
     refine tkS 10 (.int .i64 (sl : Int)) hS ?_
     refine rd1 4 (fun KK hK => ?_)
     (try simp only [List.getElem_toArray, List.getElem_cons_succ, List.getElem_cons_zero])
     go_simp
     (try dsimp only)
     refine hK.out _ _ trivial (fun hS => nrm ?_)
     refine tkS 11 (.slice (some ⟨gs, 0, none⟩) sl caps) hS ?_
     refine tkS 12 (.pointer (some ⟨b, 0, none⟩)) hS ?_
     refine tkS 13 (.pointer (some ⟨b, 1, none⟩)) hS ?_
     refine rd1 14 (fun KK hK => ?_)
     (try simp only [List.getElem_toArray, List.getElem_cons_succ, List.getElem_cons_zero])
     go_simp
     (try dsimp only)
     refine hK.out _ _ trivial (fun hS => nrm ?_)
     refine wpAnyH_done (by kernel_rfl) ?_ _
     go_wp2_with fail
     go_meet
     case rel => rfl
  case rest =>
   have hcut' := hcut
   subst hcut'
   have C4 : Cs w0.heap.size b (.slice (some ⟨gL, 0, none⟩) ts.length capL) (errOf (restC r1 Rb)) 50000 st (Y2.setCell ⟨b, 1, none⟩ (.slice (some ⟨gs, 0, none⟩) sl caps)).drew := (HPO.out.1.below ((Below.refl _ _).drew)).1
   have F4 : CFr b Y2 (Y2.setCell ⟨b, 1, none⟩ (.slice (some ⟨gs, 0, none⟩) sl caps)).drew := ⟨HPO.out.2.os, HPO.out.2.tape, HPO.out.2.output, HPO.out.2.size, HPO.out.2.block, HPO.out.2.row⟩
   clear HPO kb2' fb2
   generalize (Y2.setCell ⟨b, 1, none⟩ (.slice (some ⟨gs, 0, none⟩) sl caps)).drew = Z at *
   obtain ⟨r4, nr4⟩ := F4.keep r3 (by omega) HN3.out.1
   have x4 := (F4.keep x3 (by have := sB.out; omega) HN3.out.2).1
   have HR4 : Hid (Rg g2 t2 Z) := HR3.out.cfr HC3.out F4
   have HFw : Hid (CFr b w Z) := (HF6.out.trans HF3.out).trans F4
   have c4r := zab r4
   have f4r := zae r4
   have c4x := zab x4
   have HP : Hid (∀ v, CPost w0.heap.size b (.slice (some ⟨gL, 0, none⟩) ts.length capL) 50000 st N (restC r1 Rb) w (.returned (.agg #[.slice (some ⟨g2, 0, none⟩) n2 cap2])) (Z.setCell ⟨w.heap.size, 0, none⟩ v)) := by
    intro v
    have P : CPost w0.heap.size b (.slice (some ⟨gL, 0, none⟩) ts.length capL) 50000 st N (restC r1 Rb) Z (.returned (.agg #[.slice (some ⟨g2, 0, none⟩) n2 cap2])) Z := ⟨t2, g2, cap2, by rw [HN2'.out], HR4.out, C4, CFr.refl _ _, HY2.out.1, by intro f e; rw [HN2'.out]; exact HY2.out.2 f e⟩
    exact P.store HFw.out r4 (Nat.le_refl _) v
   clear C4 F4 r3 x3 HY2
   go_wp2_with fail
   refine zag rfl rfl (zac r4) ?_
   exact HP.out _
theorem StOk.env {st : List Se} (h : StOk st) : EnvOk 60000 (envSt st) := by
 intro c s hs
 obtain ⟨k, x, _, hx, _, rfl⟩ := env_at hs
 obtain ⟨y, hy, rfl⟩ := List.mem_map.1 (List.mem_of_getElem? hx)
 have := h y hy
 exact ⟨this.2.1, this.2.2.1⟩
theorem StOk.push {st : List Se} (h : StOk st) {x : Se} (hx : (97 <= x.c /\ x.c < 123) /\ Ok x.t /\ sz x.t <= 60000 /\ x.o.length <= 60000 /\ (∀ o ∈ x.o, 970 <= o)) : StOk (st ++ [x]) := by
 intro y hy
 rcases List.mem_append.1 hy with hy | hy
 · exact h y hy
 · obtain rfl : y = x := by simpa using hy
   exact hx
theorem env_push (st : List Se) (x : Se) : envSt (st ++ [x]) = zbo (envSt st) x.c (x.t, x.o) := by
 show envOf (skl (st ++ [x])) = _
 have e : skl (st ++ [x]) = skl st ++ [(x.c, x.t, x.o)] := by simp [skl]
 rw [e, zhm]
theorem zfo {c : Nat} (h : isLet c = true) : 97 <= c /\ c < 123 := by simp [isLet] at h; omega
theorem named_name (w0 : World) (b : Nat) (L : Value) (ts : List Tt) (st : List Se) (N c ta tb : Nat) (ga va pa : Option Addr) (gn gc vn vc pn pc tat tto : Nat) (g : List Ty) (X : World) (h : Ct w0 b L ts none st X) (hst : StOk st) (hl : st.length <= 100000) (hN : 1 <= N) (hG : Ls w0 (.slice ga gn gc) g) (hgl : g.length <= 60000) (hgs : ∀ u ∈ g, sz u <= 60000) (hc : 97 <= c /\ c < 123) :
 Calls Tryz.prog 98 #[.pointer (some ⟨b, 0, none⟩), .agg (tmA 120 c ta tb ga va pa gn gc vn vc pn pc tat tto)] X (CPost w0.heap.size b L 50000 st N (match envSt st c with | none => .error (3, tat) | some s => zap s g tat) X) := by
 cases hE : envSt st c with
 | none => exact named_free w0.heap.size b L 50000 N st c ta tb ga va pa gn gc vn vc pn pc tat tto g X h.cs hst hl rfl hN (hG.below h.old) hgl hgs hc hE
 | some s => exact named_found w0.heap.size b L 50000 N st c ta tb ga va pa gn gc vn vc pn pc tat tto g X h.cs hst hl rfl hN (hG.below h.old) hgl hgs hc s hE
theorem named_con (w0 : World) (b : Nat) (L : Value) (ts : List Tt) (st : List Se) (N c ta tb : Nat) (ga va pa : Option Addr) (gn gc vn vc pn pc tat tto : Nat) (g : List Ty) (X : World) (h : Ct w0 b L ts none st X) (hst : StOk st) (hl : st.length <= 100000) (hN : 1 <= N) (hG : Ls w0 (.slice ga gn gc) g) (hgl : g.length <= 60000) (hgs : ∀ u ∈ g, sz u <= 60000) (hc : conP c) :
 Calls Tryz.prog 98 #[.pointer (some ⟨b, 0, none⟩), .agg (tmA 120 c ta tb ga va pa gn gc vn vc pn pc tat tto)] X (CPost w0.heap.size b L 50000 st N (zap (conS c) g tat) X) := by
 have z := fun c hc cs nb v t h1 h2 h3 h4 h5 h6 CN => named_cons w0.heap.size b L 50000 N st c ta tb ga va pa gn gc vn vc pn pc tat tto g X h.cs hst hl rfl hN (hG.below h.old) hgl hgs hc cs nb v t h1 h2 h3 h4 h5 h6 CN
 have a0 : ∀ k (h : k < (⟨#[]⟩ : ByteArray).size), 97 <= (⟨#[]⟩ : ByteArray)[k].toNat /\ (⟨#[]⟩ : ByteArray)[k].toNat < 123 /\ ([] : List Nat)[k]? = some (970 + 10 * ((⟨#[]⟩ : ByteArray)[k].toNat - 97)) := fun k h => absurd h (by simp [ByteArray.size])
 have a1 : ∀ k (h : k < (⟨#[97]⟩ : ByteArray).size), 97 <= (⟨#[97]⟩ : ByteArray)[k].toNat /\ (⟨#[97]⟩ : ByteArray)[k].toNat < 123 /\ [970][k]? = some (970 + 10 * ((⟨#[97]⟩ : ByteArray)[k].toNat - 97)) := fun k h => by
  match k, h with
  | 0, _ => exact ⟨show 97 <= 97 by decide, show 97 < 123 by decide, rfl⟩
  | k + 1, h => exact absurd h (by simp [ByteArray.size])
 have a2 : ∀ k (h : k < (⟨#[97, 98]⟩ : ByteArray).size), 97 <= (⟨#[97, 98]⟩ : ByteArray)[k].toNat /\ (⟨#[97, 98]⟩ : ByteArray)[k].toNat < 123 /\ [970, 980][k]? = some (970 + 10 * ((⟨#[97, 98]⟩ : ByteArray)[k].toNat - 97)) := fun k h => by
  match k, h with
  | 0, _ => exact ⟨show 97 <= 97 by decide, show 97 < 123 by decide, rfl⟩
  | 1, _ => exact ⟨show 97 <= 98 by decide, show 98 < 123 by decide, rfl⟩
  | k + 2, h => exact absurd h (by simp [ByteArray.size])
 have z0 := fun c hc cs t h1 h2 CN => z c hc cs ⟨#[]⟩ [] t h1 h2 rfl (by decide) (by simp) a0 CN
 have z1 := fun c hc cs t h1 h2 CN => z c hc cs ⟨#[97]⟩ [970] t h1 h2 rfl (by decide) (by simp) a1 CN
 have z2 := fun c hc cs t h1 h2 CN => z c hc cs ⟨#[97, 98]⟩ [970, 980] t h1 h2 rfl (by decide) (by simp) a2 CN
 have R := con_reads c hc
 rcases hc with rfl | rfl | rfl | rfl | rfl | rfl | rfl | rfl | rfl | rfl
 · exact z1 78 (by decide) _ _ (by decide) R (fun X => constant_78 X)
 · exact z1 67 (by decide) _ _ (by decide) R (fun X => zqa X)
 · exact z2 80 (by decide) _ _ (by decide) R (fun X => constant_80 X)
 · exact z2 76 (by decide) _ _ (by decide) R (fun X => constant_76 X)
 · exact z2 82 (by decide) _ _ (by decide) R (fun X => constant_82 X)
 · exact z1 74 (by decide) _ _ (by decide) R (fun X => constant_74 X)
 · exact z0 69 (by decide) _ _ (by decide) R (fun X => zpq X)
 · exact z0 65 (by decide) _ _ (by decide) R (fun X => zpw X)
 · exact z1 89 (by decide) _ _ (by decide) R (fun X => zpf X)
 · exact z2 68 (by decide) _ _ (by decide) R (fun X => zps X)
theorem rcheck_any (w0 : World) (b : Nat) (L : Value) (ts : List Tt) (m : Nat) (hm : m <= 60000) : ∀ (x : Ex) (k : Nat), Sd w0 ts x k -> EOk true m x -> EB m x -> xz x <= 60000 -> ∀ (st : List Se) (w : World), Ct w0 b L ts none st w -> StOk st -> st.length + xz x <= 100000 ->
 Calls Tryz.prog 61 #[.pointer (some ⟨b, 0, none⟩), .int .i64 (k : Int)] w (CPost w0.heap.size b L 50000 st (xz x) (chk x (envSt st)) w) := by
 intro x
 induction x with
 | nil => intro k h; exact h.elim
 | node t o x a b' iha ihb =>
  rintro k ⟨u, hu, hs⟩ ho hb hz st w h hst hl
  obtain ⟨hb1, hb2, hb3, hb4⟩ := hb
  obtain ⟨op, c, ta, tb, ⟨ga, gn, gc⟩, ⟨va, vn, vc⟩, ⟨pa, pn, pc⟩, tat, tto⟩ := u
  simp only at hs
  have ct : ∀ X, Below w.heap.size w X -> Ct w0 b L ts none st X := fun X hX => (h.cs.below hX).2.ct h (h.cs.below hX).1
  have gs : ∀ l, GOk m l -> ∀ u ∈ l, sz u <= 60000 := fun l hl u hu => Nat.le_trans (hl u hu).2 hm
  rcases ho with ⟨rfl, hc, hg, _⟩ | ⟨rfl, hc, hg, _⟩ | ⟨rfl, hc, _⟩ | ⟨rfl, hc, hg, hg1, ha, rfl⟩ | ⟨rfl, hc, hv, ha, hbb⟩ | ⟨rfl, ha, hbb⟩
  · rcases hs with ⟨_, rfl, rfl, rfl, hG⟩ | ⟨h0, _⟩ | ⟨h0, _⟩ | ⟨h0, _⟩ | ⟨h0, _⟩
    · have e1 : chk (.node 0 o x a b') (envSt st) = match envSt st x.c with | none => .error (3, x.p) | some s => zap s x.g x.p := by
       simp only [chk, if_true]
       cases envSt st x.c <;> rfl
      rw [e1]
      exact zkg w0 b L ts st w k x.c ta tb ga va pa gn gc vn vc pn pc x.p tto h hu _ _ fun X hX => named_name w0 b L ts st _ x.c ta tb ga va pa gn gc vn vc pn pc x.p tto x.g X (ct X hX) hst (by omega) (by simp [xz]) hG (by omega) (gs _ hg) (zfo hc)
    all_goals omega
  · rcases hs with ⟨_, rfl, rfl, rfl, hG⟩ | ⟨h0, _⟩ | ⟨h0, _⟩ | ⟨h0, _⟩ | ⟨h0, _⟩
    · have e1 : chk (.node 1 o x a b') (envSt st) = zap (conS x.c) x.g x.p := by simp [chk]
      rw [e1]
      exact zkg w0 b L ts st w k x.c ta tb ga va pa gn gc vn vc pn pc x.p tto h hu _ _ fun X hX => named_con w0 b L ts st _ x.c ta tb ga va pa gn gc vn vc pn pc x.p tto x.g X (ct X hX) hst (by omega) (by simp [xz]) hG (by omega) (gs _ hg) (conP_of hc)
    all_goals omega
  · rcases hs with ⟨h0, _⟩ | ⟨_, rfl, rfl⟩ | ⟨h0, _⟩ | ⟨h0, _⟩ | ⟨h0, _⟩
    · omega
    · have e1 : chk (.node 2 o x a b') (envSt st) = .ok (if x.c = 84 \/ x.c = 70 then tB else tI) := by simp [chk]
      have e2 : xz (.node 2 o x a b') = 1 := by simp [xz]
      rw [e1, e2]
      by_cases h84 : x.c = 84
      · rw [if_pos (.inl h84)]
        exact check_litT w0 b L ts st w k x.c ta tb ga va pa gn gc vn vc pn pc tat tto h hu h84
      · by_cases h70 : x.c = 70
        · rw [if_pos (.inr h70)]
          exact check_litF w0 b L ts st w k x.c ta tb ga va pa gn gc vn vc pn pc tat tto h hu h70
        · rw [if_neg (by omega)]
          exact check_litI w0 b L ts st w k x.c ta tb ga va pa gn gc vn vc pn pc tat tto h hu ⟨h84, h70⟩
    all_goals omega
  · rcases hs with ⟨h0, _⟩ | ⟨h0, _⟩ | ⟨_, rfl, rfl, rfl, hG, hk, hsd⟩ | ⟨h0, _⟩ | ⟨h0, _⟩
    · omega
    · omega
    · obtain ⟨u, hu1⟩ := hg1 rfl
      have hgu := hg u (by rw [hu1]; exact List.mem_singleton.2 rfl)
      have e1 : chk (.node 3 o x a .nil) (envSt st) = funC u (chk a (zbo (envSt st) x.c (u, []))) x.p := by
       simp [chk, hu1, funC]
       rfl
      have e2 : xz (.node 3 o x a .nil) = sz u + 1 + xz a := by simp only [xz, if_true]; rw [hu1]; rfl
      rw [e1, e2]
      rw [e2] at hz hl
      rw [hu1] at hG
      have hok : ∀ h0 cp, StOk (st ++ [⟨x.c, u, [], h0, cp, (none, 0, 0)⟩]) := fun h0 cp => hst.push ⟨zfo hc, hgu.1, Nat.le_trans hgu.2 hm, by simp, by simp⟩
      have henv : ∀ h0 cp, envSt (st ++ [⟨x.c, u, [], h0, cp, (none, 0, 0)⟩]) = zbo (envSt st) x.c (u, []) := fun h0 cp => env_push st _
      refine check_fn w0 b L ts st w k x.c ta tb ga va pa gn gc vn vc pn pc x.p tto h hu u (xz a) _ _ hsd.lt (by omega) (by omega) (Nat.le_trans hgu.2 hm) (by omega) hG ?_ ?_
      · intro v hv
        rw [<- henv 0 0] at hv
        have := zfl hm a _ v ha (hok 0 0).env hv
        omega
      · intro X h0 cp hX
        have := iha ta hsd ha hb3 (by omega) _ X hX (hok h0 cp) (by simp; omega)
        rw [henv h0 cp] at this
        exact this
    all_goals omega
  · rcases hs with ⟨h0, _⟩ | ⟨h0, _⟩ | ⟨h0, _⟩ | ⟨_, rfl, ⟨rfl, hcap⟩, hV, hP, hk, hk', hsd, hsd'⟩ | ⟨h0, _⟩
    · omega
    · omega
    · omega
    · have e1 : chk (.node 4 o x a b') (envSt st) = restC (zld (zaz (envSt st) x.v []) (chk a (envSt st))) (fun u => chk b' (zbo (envSt st) x.c (u, x.v.map (·.1)))) := by
       simp [chk, restC, zld]
       cases zaz (envSt st) x.v [] with
       | some p => rfl
       | none => cases chk a (envSt st) <;> rfl
      have e2 : xz (.node 4 o x a b') = xz a + xz b' := by simp [xz]
      rw [e1, e2]
      rw [e2] at hz hl
      have p1 := xz_pos ha
      refine check_let w0 b L ts st w k x.c ta tb ga va pa gn gc vn vc pn pc tat tto h hu x.v (xz a) (xz b') _ _ _ hsd.lt hsd'.lt hst (by omega) hv (by omega) (by omega) hcap hV hP ?_ ?_
      · intro X hX
        exact iha ta hsd ha hb3 (by omega) st X hX hst (by omega)
      · intro u X g1 cap1 hR hX
        have hau : chk a (envSt st) = .ok u := by
         cases hq : zaz (envSt st) x.v [] with
         | some p => rw [hq] at hR; cases hR
         | none => rw [hq] at hR; exact hR
        have hcu := zfl hm a _ u ha hst.env hau
        have hok : StOk (st ++ [⟨x.c, u, x.v.map (·.1), g1, cap1, (va, vn, vc)⟩]) := by
         refine hst.push ⟨zfo hc, hcu.1, by show sz u <= 60000; omega, by show (x.v.map (·.1)).length <= 60000; simp; omega, ?_⟩
         intro o' ho'
         obtain ⟨p, hp, rfl⟩ := List.mem_map.1 ho'
         exact (hv p hp).1
        have henv : envSt (st ++ [⟨x.c, u, x.v.map (·.1), g1, cap1, (va, vn, vc)⟩]) = zbo (envSt st) x.c (u, x.v.map (·.1)) := env_push st _
        have := ihb tb hsd' hbb hb4 (by omega) _ X hX hok (by simp; omega)
        rw [henv] at this
        exact this
    · omega
  · rcases hs with ⟨h0, _⟩ | ⟨h0, _⟩ | ⟨h0, _⟩ | ⟨h0, _⟩ | ⟨_, rfl, ⟨rfl, rfl⟩, hk, hk', hsd, hsd'⟩
    · omega
    · omega
    · omega
    · omega
    · have e1 : chk (.node 5 o x a b') (envSt st) = callC (chk a (envSt st)) (chk b' (envSt st)) x.p := by
       simp [chk, callC]
       cases chk a (envSt st) with
       | error r => rfl
       | ok f => cases chk b' (envSt st) <;> rfl
      have e2 : xz (.node 5 o x a b') = xz a + xz b' := by simp [xz]
      rw [e1, e2]
      rw [e2] at hz hl
      have p1 := xz_pos ha
      refine check_call w0 b L ts st w k 0 ta tb ga va pa gn gc vn vc pn pc tat x.p h hu (xz a) (xz b') _ _ _ hsd.lt hsd'.lt (by omega) ?_ ?_ ?_ ?_
      · intro v hv'
        have := zfl hm a _ v ha hst.env hv'
        omega
      · intro v hv'
        have := zfl hm b' _ v hbb hst.env hv'
        omega
      · intro X hX
        exact iha ta hsd ha hb3 (by omega) st X hX hst (by omega)
      · intro X hX
        exact ihb tb hsd' hbb hb4 (by omega) st X hX hst (by omega)
def exprO (s : ByteArray) (n : Nat) : Sg -> EOut
 | .error p => .error p
 | .ok i => pe s true n 0 i .nil
def posS : EOut -> Sg
 | .error p => .error p
 | .ok (_, j) => .ok j
def kT (s : ByteArray) : Sg -> Ty
 | .error _ => tI
 | .ok i => match pT s i with
  | .error _ => tI
  | .ok (t, _) => t
theorem kindT_ok {s : ByteArray} {σ : Sg} {u : Ty} (h : kindT s σ u) {j : Nat} (hj : kindS s σ = .ok j) : u = kT s σ := by
 cases σ with
 | error p => cases hj
 | ok i =>
  simp only [kindS] at hj
  simp only [kT]
  cases hp : pT s i with
  | error p => rw [hp] at hj; cases hj
  | ok r => obtain ⟨t, j'⟩ := r; exact h i t j' rfl hp
def fnS (s : ByteArray) (i : Nat) : Sg := mustS s 46 (kindS s (mustS s 58 (letS s (.ok (i + 1)))))
theorem pe_fn (s : ByteArray) (n i : Nat) (h : chr s i = 92) : pe s true (n + 1) 0 i .nil = match exprO s n (fnS s i) with
 | .error p => .error p
 | .ok (a, j) => .ok (eF (letC s (.ok (i + 1))) i [kT s (mustS s 58 (letS s (.ok (i + 1))))] a, j) := by
 rw [pe, if_pos h]
 unfold fnS
 by_cases hl : isLet (chr s (i + 1)) = true
 · simp only [letS, letC, if_pos hl, fromO, if_true, mustS]
   by_cases h58 : chr s (i + 1 + 1) = 58
   · rw [if_pos (show chr s (i + 2) = 58 from h58), if_pos h58]
     simp only [kindS, kT]
     cases hp : pT s (i + 2 + 1) with
     | error p => rfl
     | ok r =>
      obtain ⟨t, j⟩ := r
      dsimp only [mustS]
      by_cases h46 : chr s j = 46
      · rw [if_pos h46, if_pos h46]; rfl
      · rw [if_neg h46, if_neg h46]; rfl
   · rw [if_neg (show ¬ chr s (i + 2) = 58 from h58), if_neg h58]
     rfl
 · simp only [letS, letC, if_neg hl, mustS, kindS]
   rfl
def ownS (s : ByteArray) : Sg -> Sg
 | .error p => .error p
 | .ok i => match pw s (s.size + 1) i [] with
  | .error p => .error p
  | .ok (_, j) => .ok j
def ownV (s : ByteArray) : Sg -> List (Nat × Nat)
 | .error _ => []
 | .ok i => match pw s (s.size + 1) i [] with
  | .error _ => []
  | .ok (l, _) => l
def wiS (s : ByteArray) (i : Nat) : Sg := mustS s 61 (ownS s (mustS s 60 (letS s (.ok (i + 1)))))
theorem pe_wi (s : ByteArray) (n i : Nat) (h : chr s i = 64) : pe s true (n + 1) 0 i .nil = match exprO s n (wiS s i) with
 | .error p => .error p
 | .ok (a, k) => match exprO s n (mustS s 59 (.ok k)) with
  | .error p => .error p
  | .ok (b, l) => .ok (eL (letC s (.ok (i + 1))) i (ownV s (mustS s 60 (letS s (.ok (i + 1))))) a b, l) := by
 rw [pe, if_neg (by rw [h]; decide), if_pos h]
 unfold wiS
 by_cases hl : isLet (chr s (i + 1)) = true
 · simp only [letS, letC, if_pos hl, ownO, if_true, mustS]
   by_cases h58 : chr s (i + 1 + 1) = 60
   · rw [if_pos (show chr s (i + 2) = 60 from h58), if_pos h58]
     simp only [ownS, ownV]
     cases hp : pw s (s.size + 1) (i + 2 + 1) [] with
     | error p => rfl
     | ok r =>
      obtain ⟨t, j⟩ := r
      dsimp only [mustS]
      by_cases h46 : chr s j = 61
      · rw [if_pos h46, if_pos h46]
        simp only [exprO]
        cases pe s true n 0 (j + 1) .nil with
        | error p => rfl
        | ok r =>
         obtain ⟨a, k⟩ := r
         simp only
         by_cases h59 : chr s k = 59
         · rw [if_pos h59, if_pos h59]; rfl
         · rw [if_neg h59, if_neg h59]
      · rw [if_neg h46, if_neg h46]; rfl
   · rw [if_neg (show ¬ chr s (i + 2) = 60 from h58), if_neg h58]
     rfl
 · simp only [letS, letC, if_neg hl, mustS, ownS]
   rfl
theorem zdd {s : ByteArray} {c : Nat} {σ : Sg} {i : Nat} (h0 : 1 <= c) (h : mustS s c σ = .ok i) : ∃ j, σ = .ok j /\ i = j + 1 /\ j < s.size /\ chr s j = c := by
 cases σ with
 | error p => cases h
 | ok j =>
  simp only [mustS] at h
  split at h
  · rename_i e; cases h; exact ⟨j, rfl, rfl, zaf (by omega), e⟩
  · cases h
theorem letS_pos {s : ByteArray} {σ : Sg} {i : Nat} (h : letS s σ = .ok i) : ∃ j, σ = .ok j /\ i = j + 1 /\ j < s.size /\ isLet (chr s j) = true /\ letC s σ = chr s j := by
 cases σ with
 | error p => cases h
 | ok j =>
  simp only [letS] at h
  split at h
  · rename_i e; cases h; exact ⟨j, rfl, rfl, zaf (by intro e'; rw [e'] at e; exact absurd e (by decide)), e, if_pos e⟩
  · cases h
theorem zoy {s : ByteArray} {σ : Sg} {i : Nat} (hσ : gPos σ <= s.size) (h : kindS s σ = .ok i) : ∃ j, σ = .ok j /\ j < i /\ i <= s.size /\ Ok (kT s σ) := by
 cases σ with
 | error p => cases h
 | ok j =>
  simp only [kindS] at h
  simp only [kT]
  cases hp : pT s j with
  | error p => rw [hp] at h; cases h
  | ok r => obtain ⟨t, k⟩ := r; rw [hp] at h; cases h; have := zcb hp hσ; exact ⟨j, rfl, this.1, this.2.1, this.2.2.1⟩
theorem zjn {s : ByteArray} {i k : Nat} (hi : i < s.size) (h : fnS s i = .ok k) : i + 4 < k /\ k <= s.size /\ kindS s (mustS s 58 (letS s (.ok (i + 1)))) = .ok (k - 1) := by
 obtain ⟨j1, h1, h2, h3, h4⟩ := zdd (by decide) h
 have hp : gPos (mustS s 58 (letS s (.ok (i + 1)))) <= s.size := by
  cases hq : mustS s 58 (letS s (.ok (i + 1))) with
  | error p => rw [hq] at h1; cases h1
  | ok q =>
   obtain ⟨j2, g1, g2, g3, _⟩ := zdd (by decide) hq
   show q <= s.size
   omega
 obtain ⟨j2, h5, h6, h7, _⟩ := zoy hp h1
 obtain ⟨j3, h8, h9, h10, _⟩ := zdd (by decide) h5
 obtain ⟨j4, h11, h12, h13, _⟩ := letS_pos h8
 cases h11
 exact ⟨by omega, by omega, by rw [h1]; congr 1; omega⟩
theorem ownS_pos {s : ByteArray} {σ : Sg} {i : Nat} (hσ : gPos σ <= s.size) (h : ownS s σ = .ok i) : ∃ j, σ = .ok j /\ j < i /\ i <= s.size := by
 cases σ with
 | error p => cases h
 | ok j =>
  simp only [ownS] at h
  cases hp : pw s (s.size + 1) j [] with
  | error p => rw [hp] at h; cases h
  | ok r => obtain ⟨t, k⟩ := r; rw [hp] at h; cases h; have := zoe s _ _ _ _ _ hp hσ VOk.nil; exact ⟨j, rfl, this.1, this.2.1⟩
theorem zpm {s : ByteArray} {i k : Nat} (hi : i < s.size) (h : wiS s i = .ok k) : i + 4 < k /\ k <= s.size := by
 obtain ⟨j1, h1, h2, h3, h4⟩ := zdd (by decide) h
 have hp : gPos (mustS s 60 (letS s (.ok (i + 1)))) <= s.size := by
  cases hq : mustS s 60 (letS s (.ok (i + 1))) with
  | error p => rw [hq] at h1; cases h1
  | ok q =>
   obtain ⟨j2, g1, g2, g3, _⟩ := zdd (by decide) hq
   show q <= s.size
   omega
 obtain ⟨j2, h5, h6, h7⟩ := ownS_pos hp h1
 obtain ⟨j3, h8, h9, h10, _⟩ := zdd (by decide) h5
 obtain ⟨j4, h11, h12, h13, _⟩ := letS_pos h8
 cases h11
 exact ⟨by omega, by omega⟩
def xB (s : ByteArray) : Sg -> Nat
 | .error _ => 1
 | .ok i => 2 * (s.size - i) + 2
def XPost (b : Nat) (s : ByteArray) (r : EOut) (σ : Sg) (ts : List Tt) (w : World) (e : Ending) (w' : World) : Prop :=
 Fr b w w' /\ ∃ (k : Nat) (us : List Tt), e = .returned (.int .i64 (k : Int)) /\ Sr b s (posS r) (ts ++ us) w' /\ us.length <= xB s σ /\
  ∀ x j, r = .ok (x, j) -> k + 1 = (ts ++ us).length /\ us.length + 1 <= 2 * (j - gPos σ) /\ Sd w' (ts ++ us) x k
def TExpr (b : Nat) (s : ByteArray) (n : Nat) : Prop :=
 ∀ (σ : Sg) (ts : List Tt) (w : World), Sr b s σ ts w -> (∀ i, σ = .ok i -> 3 * (s.size - i) + 2 <= n) -> ts.length + xB s σ <= 300000 ->
  Calls Tryz.prog 46 #[.pointer (some ⟨b, 0, none⟩)] w (XPost b s (exprO s n σ) σ ts w)
def TAtom (b : Nat) (s : ByteArray) (n : Nat) : Prop :=
 ∀ (i : Nat) (ts : List Tt) (w : World), Sr b s (.ok i) ts w -> 3 * (s.size - i) + 1 <= n -> ts.length + xB s (.ok i) <= 300000 ->
  Calls Tryz.prog 76 #[.pointer (some ⟨b, 0, none⟩)] w (XPost b s (pe s true n 2 i .nil) (.ok i) ts w)
theorem Sr.c1 {b : Nat} {s : ByteArray} {σ : Sg} {ts : List Tt} {w : World} (h : Sr b s σ ts w) : w.cell? ⟨b, 1, none⟩ = some (.bool true) := by
 obtain ⟨_, lv, h, _⟩ := h; rw [Lib.cell_of_heap h]; rfl
theorem Sr.c2 {b : Nat} {s : ByteArray} {σ : Sg} {ts : List Tt} {w : World} (h : Sr b s σ ts w) : w.cell? ⟨b, 2, none⟩ = some (.int .i64 (gPos σ : Int)) := by
 obtain ⟨_, lv, h, _⟩ := h; rw [Lib.cell_of_heap h]; rfl
theorem Sr.c3 {b : Nat} {s : ByteArray} {σ : Sg} {ts : List Tt} {w : World} (h : Sr b s σ ts w) : w.cell? ⟨b, 3, none⟩ = some (.int .i64 (gBad σ)) := by
 obtain ⟨_, lv, h, _⟩ := h; rw [Lib.cell_of_heap h]; rfl
theorem Sr.c0 {b : Nat} {s : ByteArray} {σ : Sg} {ts : List Tt} {w : World} (h : Sr b s σ ts w) : w.cell? ⟨b, 0, none⟩ = some (.string s) := by
 obtain ⟨_, lv, h, _⟩ := h; rw [Lib.cell_of_heap h]; rfl
theorem Sr.fz {b : Nat} {s : ByteArray} {σ : Sg} {ts : List Tt} {w : World} (h : Sr b s σ ts w) (j : Nat) : w.frozen? ⟨b, j, none⟩ = false := by
 obtain ⟨_, lv, h, _⟩ := h; exact h.fz j
theorem Sr.pos {b : Nat} {s : ByteArray} {σ : Sg} {ts : List Tt} {w : World} (h : Sr b s σ ts w) : gPos σ <= s.size := h.1
theorem Sr.apartT {b : Nat} {s : ByteArray} {σ : Sg} {ts : List Tt} {w : World} (h : Sr b s σ ts w) {g : Nat} {cur : Array Value} {T : TypeId} {fz : Nat × Nat} (hg : w.heap[g]? = some (.cells cur T fz)) (h1 : T ≠ 70) (h2 : T ≠ 76) : g ≠ b /\ rowOf b w ≠ some g := by
 obtain ⟨_, lv, h0, ho, hn, he⟩ := h
 refine ⟨?_, ?_⟩
 · rintro rfl
   unfold R0 at h0
   rw [h0] at hg
   injection hg with hg
   injection hg with _ hg
   exact h1 hg.symm
 · intro e
   rw [h0.row] at e
   obtain ⟨c, f, hh⟩ : ∃ c f, w.heap[g]? = some (.cells c 76 f) := by
    rcases ho.2 with ⟨rfl, _⟩ | ⟨g', cap, cur, rfl, _, hgg, _⟩
    · simp [Value.ownBlock] at e
    · simp [Value.ownBlock] at e; subst e; exact ⟨_, _, hgg⟩
   rw [hh] at hg
   injection hg with hg
   injection hg with _ hg
   exact h2 hg.symm
theorem zgf {w : World} {B : Nat} {e : TypeId} {m : Nat} {v : Value} {n : Nat} {xs : List Value} (h : w.ownsRow B e m v n xs) {g : Nat} (hg : v.ownBlock = some g) : ∃ cur, w.heap[g]? = some (.cells cur e (0, 0)) /\ B <= g := by
 rcases h.2 with ⟨rfl, _⟩ | ⟨g', cap, cur, rfl, hB, hgg, _⟩
 · simp [Value.ownBlock] at hg
 · simp [Value.ownBlock] at hg; subst hg; exact ⟨cur, hgg, hB⟩
theorem znf {w w' : World} {B : Nat} {e : TypeId} {m : Nat} {v : Value} {n : Nat} {xs : List Value} (h : w.ownsRow B e m v n xs) (hb : ∀ g, v.ownBlock = some g -> w'.heap[g]? = w.heap[g]?) : w'.ownsRow B e m v n xs := by
 obtain ⟨h1, h2 | ⟨g, cap, cur, rfl, hB, hg, h3⟩⟩ := h
 · exact ⟨h1, .inl h2⟩
 · exact ⟨h1, .inr ⟨g, cap, cur, rfl, hB, (hb g rfl).trans hg, h3⟩⟩
theorem row_fr {b : Nat} {s : ByteArray} {σ : Sg} {ts : List Tt} {w w' : World} (hS : Sr b s σ ts w) (F : Fr b w w') {B : Nat} {e : TypeId} {m : Nat} {v : Value} {n : Nat} {xs : List Value} (h : w.ownsRow B e m v n xs) (h1 : e ≠ 70) (h2 : e ≠ 76) : w'.ownsRow B e m v n xs := by
 refine znf h fun g hg => ?_
 obtain ⟨cur, hc, _⟩ := zgf h hg
 have ha := hS.apartT hc h1 h2
 exact F.block g (Array.getElem?_eq_some_iff.1 hc).1 ha.1 (Ne.symm ha.2)
theorem Sr.grown {b : Nat} {s : ByteArray} {σ : Sg} {ts : List Tt} {w0 w1 w2 : World} {row : Option Nat} (h : Sr b s σ ts w1) (F : Fr b w0 w1) (hg : w1.grownBy w2 row) (hr : ∀ g, row = some g -> g ≠ b /\ rowOf b w1 ≠ some g /\ w0.heap.size <= g) : Sr b s σ ts w2 /\ Fr b w0 w2 := by
 obtain ⟨hp, lv, h0, ho, hn, he⟩ := h
 have hrb : row ≠ some b := fun e => (hr b e).1 rfl
 have h2 : R0 true lv b s (gPos σ) (gBad σ) w2 := (hg.block b h0.lt (Ne.symm hrb)).trans h0
 refine ⟨⟨hp, lv, h2, znf ho (fun g e => hg.block g (ho.lt g e).2 (fun e' => (hr g e'.symm).2.1 (h0.row.trans e))), hn, he⟩, ?_⟩
 have hrow : rowOf b w2 = rowOf b w1 := h2.row.trans h0.row.symm
 refine ⟨hg.os.trans F.os, hg.tape.trans F.tape, hg.output.trans F.output, Nat.le_trans F.size hg.size, fun k hk hb hr' => ?_, by rw [hrow]; exact F.row⟩
 exact (hg.block k (Nat.lt_of_lt_of_le hk F.size) (fun e => by have := (hr k e.symm).2.2; omega)).trans (F.block k hk hb hr')
theorem Bt.grown {q : Nat} {t : Tt} {w w' : World} {row : Option Nat} (h : Bt q t w) (hg : w.grownBy w' row) (hr : row ≠ some q) : Bt q t w' := (hg.block q h.lt (Ne.symm hr)).trans h
theorem Bt.ne {q : Nat} {t : Tt} {w : World} (h : Bt q t w) {g : Nat} {cur : Array Value} {T : TypeId} {fz : Nat × Nat} (hg : w.heap[g]? = some (.cells cur T fz)) (h2 : T ≠ 76) : g ≠ q := by
 rintro rfl
 unfold Bt at h
 rw [h] at hg
 injection hg with hg
 injection hg with _ hg
 exact h2 hg.symm
def gcell (h : Ty × Nat × Nat) : Value := .slice (some ⟨h.2.1, 0, none⟩) (sz h.1) h.2.2
def Gr (B : Nat) (w : World) (G : Option Addr × Nat × Nat) (hs : List (Ty × Nat × Nat)) : Prop :=
 w.ownsRow B 33 1 (slV G) hs.length (hs.map gcell) /\ (hs = [] -> G = (none, 0, 0)) /\ ∀ h ∈ hs, Rg h.2.1 h.1 w
theorem Gr.nil (B : Nat) (w : World) : Gr B w (none, 0, 0) [] := ⟨World.ownsRow_nil _ _ _ _, fun _ => rfl, fun h hh => by cases hh⟩
theorem Gr.ls {B : Nat} {w : World} {G : Option Addr × Nat × Nat} {hs : List (Ty × Nat × Nat)} (h : Gr B w G hs) : Ls w (slV G) (hs.map (·.1)) := by
 obtain ⟨ho, he, hr⟩ := h
 rcases id ho.2 with ⟨e, h0⟩ | ⟨g, cap, cur, e, hB, hg, _⟩
 · have : hs = [] := List.length_eq_zero_iff.1 h0
   subst this
   exact ⟨none, 0, e, .inl rfl⟩
 · refine ⟨some ⟨g, 0, none⟩, cap, by rw [e]; simp, .inr ⟨g, rfl, (Array.getElem?_eq_some_iff.1 hg).1, fun k t hk => ?_⟩⟩
   rw [List.getElem?_map] at hk
   obtain ⟨x, hx, rfl⟩ := Option.map_eq_some_iff.1 hk
   have hc := ho.cells (g := g) (by rw [e]; rfl) k (gcell x) (by rw [List.getElem?_map, hx]; rfl)
   rw [zic g k] at hc
   exact ⟨x.2.1, x.2.2, hc, hr x (List.mem_of_getElem? hx)⟩
theorem Gr.fr {b : Nat} {s : ByteArray} {σ : Sg} {ts : List Tt} {w w' : World} (hS : Sr b s σ ts w) (F : Fr b w w') {B : Nat} {G : Option Addr × Nat × Nat} {hs : List (Ty × Nat × Nat)} (h : Gr B w G hs) : Gr B w' G hs :=
 ⟨row_fr hS F h.1 (by decide) (by decide), h.2.1, fun x hx => (h.2.2 x hx).fr hS F⟩
theorem Gr.apart {B : Nat} {w : World} {G : Option Addr × Nat × Nat} {hs : List (Ty × Nat × Nat)} (h : Gr B w G hs) {g : Nat} {t : Ty} (R : Rg g t w) : (slV G).ownBlock ≠ some g := by
 intro e
 cases hs with
 | nil => rw [h.2.1 rfl] at e; cases e
 | cons x hs =>
  have hc := h.1.cells e 0 (gcell x) rfl
  have hp := zau R.ok
  obtain ⟨n, hn⟩ : ∃ n, (nd t 0)[0]? = some n := ⟨_, List.getElem?_eq_getElem (by rw [zaj]; omega)⟩
  have hc2 := (R.cell 0 n hn).1
  rw [Nat.zero_mul] at hc2
  rw [show (⟨g, 0, none⟩ : Addr).add 0 = ⟨g, 0, none⟩ from rfl, hc2] at hc
  cases hc
theorem Gr.app {B : Nat} {w w5 : World} {G : Option Addr × Nat × Nat} {hs : List (Ty × Nat × Nat)} {u : Ty} {g c gg cap : Nat} {o : Obj} (h : Gr B w G hs) (R : Rg g u w)
 (hown : w5.ownsRow B 33 1 (.slice (some ⟨gg, 0, none⟩) (hs.length + 1) cap) (hs.length + 1) (hs.map gcell ++ [gcell (u, g, c)])) (hg : (w.alloc o).grownBy w5 (slV G).ownBlock) :
 Gr B w5 (some ⟨gg, 0, none⟩, hs.length + 1, cap) (hs ++ [(u, g, c)]) := by
 have hg1 : w.grownBy w5 (slV G).ownBlock := (World.grownBy_alloc w o _).trans hg
 refine ⟨by simpa using hown, fun e => by simp at e, fun x hx => ?_⟩
 rcases List.mem_append.1 hx with hx | hx
 · exact (h.2.2 x hx).kept hg1 (h.apart (h.2.2 x hx))
 · obtain rfl : x = (u, g, c) := by simpa using hx
   exact R.kept hg1 (h.apart R)
def KeepC (w w' : World) : Prop := w.heap.size <= w'.heap.size /\ ∀ (g : Nat) (v : Value), w.cell? ⟨g, 0, none⟩ = some v -> (∀ z, v ≠ .int .u8 z) -> w'.heap[g]? = w.heap[g]?
theorem KeepC.at {w w' : World} (h : KeepC w w') {g : Nat} {v : Value} (hc : w.cell? ⟨g, 0, none⟩ = some v) (hv : ∀ z, v ≠ .int .u8 z) (j : Nat) : w'.cell? ⟨g, j, none⟩ = w.cell? ⟨g, j, none⟩ := World.cell?_of_block (w := w) (a := ⟨g, j, none⟩) (h.2 g v hc hv)
theorem KeepC.rg {w w' : World} (h : KeepC w w') {g : Nat} {t : Ty} (R : Rg g t w) : Rg g t w' := by
 have hp := zau R.ok
 obtain ⟨n, hn⟩ : ∃ n, (nd t 0)[0]? = some n := ⟨_, List.getElem?_eq_getElem (by rw [zaj]; omega)⟩
 have hc := (R.cell 0 n hn).1
 rw [Nat.zero_mul] at hc
 exact ⟨R.ok, Nat.lt_of_lt_of_le R.lt h.1, fun k n hk => by rw [h.at hc (by simp), h.at hc (by simp), h.at hc (by simp)]; exact R.cell k n hk⟩
theorem KeepC.is {w w' : World} (h : KeepC w w') {V : Value} {l : List Nat} (R : Is w V l) : Is w' V l := by
 obtain ⟨a, cap, rfl, R⟩ := R
 refine ⟨a, cap, rfl, ?_⟩
 rcases R with R | ⟨g, rfl, hg, hc⟩
 · exact .inl R
 · cases l with
   | nil => exact .inl rfl
   | cons n l => exact .inr ⟨g, rfl, Nat.lt_of_lt_of_le hg h.1, fun k m hk => (h.at (hc 0 n rfl) (by simp) k).trans (hc k m hk)⟩
theorem KeepC.ls {w w' : World} (h : KeepC w w') {V : Value} {l : List Ty} (R : Ls w V l) : Ls w' V l := by
 obtain ⟨a, cap, rfl, R⟩ := R
 refine ⟨a, cap, rfl, ?_⟩
 rcases R with R | ⟨g, rfl, hg, hc⟩
 · exact .inl R
 · cases l with
   | nil => exact .inl rfl
   | cons n l =>
    obtain ⟨h', c', hc', _⟩ := hc 0 n rfl
    refine .inr ⟨g, rfl, Nat.lt_of_lt_of_le hg h.1, fun k m hk => ?_⟩
    obtain ⟨h1, c1, e1, e2⟩ := hc k m hk
    exact ⟨h1, c1, (h.at hc' (by simp) k).trans e1, h.rg e2⟩
theorem KeepC.sd {w w' : World} (h : KeepC w w') {us : List Tt} {x : Ex} {k : Nat} (R : Sd w us x k) : Sd w' us x k := R.kept (fun _ _ R => h.is R) (fun _ _ R => h.ls R)
theorem KeepC.gr {w w' : World} (h : KeepC w w') {B : Nat} {G : Option Addr × Nat × Nat} {hs : List (Ty × Nat × Nat)} (R : Gr B w G hs) : Gr B w' G hs := by
 refine ⟨znf R.1 fun g e => ?_, R.2.1, fun x hx => h.rg (R.2.2 x hx)⟩
 cases hs with
 | nil => rw [R.2.1 rfl] at e; cases e
 | cons x hs => exact h.2 g (gcell x) (R.1.cells e 0 _ rfl) (by simp [gcell])
theorem Bt.keepC {q : Nat} {t : Tt} {w : World} (h : Bt q t w) (j : Nat) (v : Value) : KeepC w (w.setCell ⟨q, j, none⟩ v) := by
 refine ⟨by simp [World.setCell], fun g v' hc hv => Below.heap_setCell _ _ _ _ ?_⟩
 rintro rfl
 rw [h.c 0] at hc
 exact hv _ (Option.some.inj hc).symm
theorem znw : (Tryz.prog.info? 33).map (fun i => (i.zero, i.size, i.bytes)) = some (some (.agg #[.slice none 0 0]), 1, 24) := by kernel_rfl
theorem zmv (w : World) (g n c : Nat) : ∀ j u, [Value.slice (some ⟨g, 0, none⟩) n c][j]? = some u -> (w.alloc (.cells #[.slice (some ⟨g, 0, none⟩) n c] 33)).cell? ((⟨w.heap.size, 0, none⟩ : Addr).add j) = some u := World.news_of_block (heap_alloc_new w _)
abbrev tO (op c a b at' tu : Nat) : Obj := .cells #[.int .u8 (op : Int), .int .u8 (c : Int), .int .i64 (a : Int), .int .i64 (b : Int), .slice none 0 0, .slice none 0 0, .slice none 0 0, .int .i64 (at' : Int), .int .i64 (tu : Int)] 76
abbrev t0 (op c a b at' tu : Nat) : Tt := ⟨op, c, a, b, (none, 0, 0), (none, 0, 0), (none, 0, 0), at', tu⟩
theorem tfn_any (b : Nat) (s : ByteArray) (n i : Nat) (ts : List Tt) (w : World) (h : Sr b s (.ok (i + 1)) ts w) (hi : i < s.size) (hs : s.size <= 60000) (ih : TExpr b s n) (hn : 3 * (s.size - i) + 2 <= n + 1) (hc : chr s i = 92) (hl : ts.length + xB s (.ok i) <= 300000) :
 Calls Tryz.prog 74 #[.pointer (some ⟨b, 0, none⟩), .int .i64 (i : Int)] w (XPost b s (pe s true (n + 1) 0 i .nil) (.ok i) ts w) := by
 obtain ⟨i0, hi0, hz0, hz1, hz2⟩ := info_parts znw
 have HPE : Hid _ := pe_fn s n i hc
 have HC : Hid (chr s i = 92) := hc
 have IH : Hid (TExpr b s n) := ih
 have hlt := h.lt
 have hqb : w.heap.size ≠ b := by omega
 have B0 : Bt w.heap.size (t0 92 0 0 0 i 0) (w.alloc (tO 92 0 0 0 i 0)) := heap_alloc_new w _
 have F0 : Fr b w (w.alloc (tO 92 0 0 0 i 0)) := (Fr.refl b w).alloc hlt _
 have r0 := h.rowNew (tO 92 0 0 0 i 0)
 have h0 := h.alloc (tO 92 0 0 0 i 0)
 have HL : Hid (ts.length + xB s (.ok i) <= 300000) := hl
 clear hc ih hl
 go_enter Tryz.func74, Tryz.ntmps74
 go_wp2_with fail
 refine (sletter b s _ ts _ h0 (by omega)).mono ?_
 rintro e w1 ⟨rfl, h1, k1⟩
 have B1 := Bt.fr B0 k1 hqb r0
 have r1 := k1.rowNe' r0 (by simp)
 have F1 := F0.trans k1
 clear B0 F0 r0 h0 k1
 generalize hcc : letC s (.ok (i + 1)) = c at *
 have HCC : Hid (letC s (.ok (i + 1)) = c) := hcc
 clear hcc
 have c1 := B1.c 1
 have f1 := B1.fz 1
 have B2 := B1.setC c
 have h2 : Sr b s (letS s (.ok (i + 1))) ts (w1.setCell ⟨w.heap.size, 1, none⟩ (.int .u8 (c : Int))) := h1.setFar hqb r1
 have r2 : rowOf b (w1.setCell ⟨w.heap.size, 1, none⟩ (.int .u8 (c : Int))) ≠ some w.heap.size := zcl hqb r1
 have F2 : Fr b w (w1.setCell ⟨w.heap.size, 1, none⟩ (.int .u8 (c : Int))) := F1.setNew' hqb (Nat.le_refl _)
 have t2 := h2.c1
 clear B1 r1 F1 h1
 go_wp2_with fail
 generalize w1.setCell ⟨w.heap.size, 1, none⟩ (.int .u8 (c : Int)) = w2 at *
 refine (smust b s 58 _ ts w2 h2 (by omega) (by decide)).mono ?_
 rintro e w3 ⟨rfl, h3, k3⟩
 have B3 := Bt.fr B2 k3 hqb r2
 have r3 := k3.rowNe' r2 B2.lt
 have F3 := F2.trans k3
 clear B2 r2 F2 h2 t2 k3 c1 f1
 generalize hs3 : mustS s 58 (letS s (.ok (i + 1))) = σ3 at *
 have HS3 : Hid (mustS s 58 (letS s (.ok (i + 1))) = σ3) := hs3
 clear hs3
 have KC : Hid (Calls Tryz.prog 43 #[.pointer (some ⟨b, 0, none⟩)] w3.drew fun e w' => ∃ g cap u, e = .returned (.agg #[.slice (some ⟨g, 0, none⟩) (sz u) cap]) /\ Rg g u w' /\ sz u <= s.size + 1 /\ kindT s σ3 u /\ Sr b s (kindS s σ3) ts w' /\ Fr b w3.drew w') := skind b s σ3 ts w3.drew h3.drew hs
 have c4 : w3.cell? ⟨w.heap.size, 4, none⟩ = some (.slice none 0 0) := B3.c 4
 have f4 := B3.fz 4
 have lq := B3.lt
 clear h3
 go_wp2_with fail
 go_region_law
  (first
   | (go_simp; go_at_call 43; refine KC.out.mono ?_; rintro e w4 ⟨g4, cap4, u4, rfl, R4, z4, hk4, h4, k4⟩; (have B4 := Bt.fr (w := w3.drew) B3 k4 hqb r3); (have r4 := k4.rowNe' (w := w3.drew) r3 lq); (have F4 := (F3.drewN 1).trans k4); (have d4 : w4.cell? ⟨w.heap.size, 4, none⟩ = some (.slice none 0 0) := B4.c 4); (have HN := zmv w4 g4 (sz u4) cap4); (have s4 : w.heap.size <= w4.heap.size := F4.size); (have l4 : w.heap.size < w4.heap.size := B4.lt); (try dsimp only))
   | ((refine step_append_lies _ (by rfl) _ _ _ (by rfl) w.heap.size 33 i0 _ 1 24 Tryz.underlying65 hi0 hz0 hz1 hz2 rfl (by omega) (.slice none 0 0) 0 [] (by rfl) (World.ownsRow_nil _ _ _ _) ⟨w4.heap.size, 0, none⟩ 1 1 [.slice (some ⟨g4, 0, none⟩) (sz u4) cap4] (by rfl) (by rfl) HN (by simp [Value.oneCell']) (by omega) (by unfold maxLen; omega) (by omega) (by simp; omega) (w4.heap.size + 1) (by simp) ?_; intro gg cap5 w5 hown5 hgrow5 hat5 hlt5; have d5 : w5.cell? ⟨w.heap.size, 4, none⟩ = some (.slice none 0 0) := (((B4.grown ((World.grownBy_alloc w4 _ none).trans hgrow5) (by simp))).c 4); have e5 : w5.frozen? ⟨w.heap.size, 4, none⟩ = false := (((B4.grown ((World.grownBy_alloc w4 _ none).trans hgrow5) (by simp))).fz 4))))
 all_goals
  have g45 : w4.grownBy w5 none := (World.grownBy_alloc w4 _ none).trans hgrow5
  have B5 := B4.grown g45 (by simp)
  obtain ⟨h5, k5⟩ := h4.grown (Fr.refl b w4) (row := none) g45 (fun g e => by cases e)
  have r5 := k5.rowNe' r4 B4.lt
  have F5 := F4.trans k5
  have G5 : Gr w.heap.size w5 (some ⟨gg, 0, none⟩, 1, cap5) [(u4, g4, cap4)] := Gr.app (Gr.nil _ w4) R4 hown5 hgrow5
  have K6 := B5.keepC 4 (.slice (some ⟨gg, 0, none⟩) 1 cap5)
  have B6 := B5.setG (some ⟨gg, 0, none⟩) 1 cap5
  have G6 := K6.gr G5
  have h6 : Sr b s (kindS s σ3) ts (w5.setCell ⟨w.heap.size, 4, none⟩ (.slice (some ⟨gg, 0, none⟩) 1 cap5)) := h5.setFar hqb r5
  have r6 : rowOf b (w5.setCell ⟨w.heap.size, 4, none⟩ (.slice (some ⟨gg, 0, none⟩) 1 cap5)) ≠ some w.heap.size := zcl hqb r5
  have F6 : Fr b w (w5.setCell ⟨w.heap.size, 4, none⟩ (.slice (some ⟨gg, 0, none⟩) 1 cap5)) := F5.setNew' hqb (Nat.le_refl _)
  clear g45 B5 h5 k5 r5 F5 G5 K6 B4 h4 k4 r4 F4 hown5 hgrow5 hat5 hlt5 d4 d5 e5 HN R4
  go_wp2_with fail
  generalize w5.setCell ⟨w.heap.size, 4, none⟩ (.slice (some ⟨gg, 0, none⟩) 1 cap5) = w6 at *
  refine (smust b s 46 _ ts w6 h6 (by omega) (by decide)).mono ?_
  rintro e w7 ⟨rfl, h7, k7⟩
  have B7 := Bt.fr B6 k7 hqb r6
  have r7 := k7.rowNe' r6 B6.lt
  have F7 := F6.trans k7
  have G7 := G6.fr h6 k7
  clear B6 r6 F6 G6 h6 k7
  have HF7 : Hid (mustS s 46 (kindS s σ3) = fnS s i) := by unfold Hid fnS; rw [HS3.out]
  rw [HF7.out] at h7
  go_wp2_with fail
  have HFU : Hid (∀ j, fnS s i = .ok j -> 3 * (s.size - j) + 2 <= n) := by intro j hj; have := zjn hi hj; omega
  have HLN : Hid (ts.length + xB s (fnS s i) <= 300000) := by
   have := HL.out
   unfold Hid
   cases hj : fnS s i with
   | error p => simp only [xB] at *; omega
   | ok j => have := zjn hi hj; simp only [xB] at *; omega
  refine (IH.out (fnS s i) ts w7 h7 HFU.out HLN.out).mono ?_
  rintro e w8 ⟨k8, k, us, rfl, h8, hu, hx⟩
  have B8 := Bt.fr B7 k8 hqb r7
  have r8 := k8.rowNe' r7 B7.lt
  have F8 := F7.trans k8
  have G8 := G7.fr h7 k8
  have HX : Hid _ := hx
  have HU : Hid (us.length <= xB s (fnS s i)) := hu
  clear B7 r7 F7 G7 h7 k8 hx hu
  have c8 := B8.c 2
  have f8 := B8.fz 2
  have K9 := B8.keepC 2 (.int .i64 (k : Int))
  have B9 := B8.setA k
  have G9 := K9.gr G8
  have HK9 : Hid (KeepC w8 (w8.setCell ⟨w.heap.size, 2, none⟩ (.int .i64 (k : Int)))) := K9
  have h9 : Sr b s _ (ts ++ us) (w8.setCell ⟨w.heap.size, 2, none⟩ (.int .i64 (k : Int))) := h8.setFar hqb r8
  have F9 : Fr b w (w8.setCell ⟨w.heap.size, 2, none⟩ (.int .i64 (k : Int))) := F8.setNew' hqb (Nat.le_refl _)
  obtain ⟨d0, d1, d2, d3, d4, d5, d6, d7, d8⟩ := B9.all
  have HLU : Hid ((ts ++ us).length <= 1000000) := by
   have := HL.out
   have := HU.out
   unfold Hid
   simp
   cases hj : fnS s i with
   | error p => rw [hj] at this; simp only [xB] at *; omega
   | ok j => rw [hj] at this; have := zjn hi hj; simp only [xB] at *; omega
  clear B8 B9 r8 F8 h8 K9 G8
  go_wp2_with fail
  refine (tadd b s _ (ts ++ us) _ 92 c k 0 (some ⟨gg, 0, none⟩) none none 1 cap5 0 0 0 0 i 0 h9 HLU.out).mono ?_
  rintro e w10 ⟨rfl, h10, k10⟩
  clear d0 d1 d2 d3 d4 d5 d6 d7 d8 c8 f8
  have G10 := G9.fr h9 k10
  have HS10 : Hid (∀ x j, Sd w8 (ts ++ us) x j -> Sd w10 (ts ++ us) x j) := fun x j S => (HK9.out.sd S).fr h9 k10
  have HG10 : Hid (Ls w10 (.slice (some ⟨gg, 0, none⟩) 1 cap5) [u4]) := G10.ls
  have HF10 : Hid (Fr b w w10) := F9.trans k10
  have HR10 : Hid (Sr b s (posS (exprO s n (fnS s i))) (ts ++ us ++ [⟨92, c, k, 0, (some ⟨gg, 0, none⟩, 1, cap5), (none, 0, 0), (none, 0, 0), i, 0⟩]) w10) := h10
  have HKT : Hid (kindT s σ3 u4) := hk4
  clear G9 G10 h9 h10 F9 k10 HK9 hk4
  generalize hll : (ts ++ us).length = ll at *
  have HLL : Hid ((ts ++ us).length = ll) := hll
  clear hll
  go_wp2_with fail
  go_ret
  refine ⟨HF10.out, ll, us ++ [⟨92, c, k, 0, (some ⟨gg, 0, none⟩, 1, cap5), (none, 0, 0), (none, 0, 0), i, 0⟩], rfl, ?_, ?_, ?_⟩
  · rw [HPE.out]
    have := HR10.out
    rw [List.append_assoc] at this
    cases hq : exprO s n (fnS s i) with
    | error p => rw [hq] at this; exact this
    | ok r => obtain ⟨a, j⟩ := r; rw [hq] at this; exact this
  · have h1 := HU.out
    simp
    cases hj : fnS s i with
    | error p => rw [hj] at h1; simp only [xB] at *; omega
    | ok j => rw [hj] at h1; have := zjn hi hj; simp only [xB] at *; omega
  · intro x j hr
    rw [HPE.out] at hr
    cases hq : exprO s n (fnS s i) with
    | error p => rw [hq] at hr; cases hr
    | ok r =>
     obtain ⟨a, j'⟩ := r
     rw [hq] at hr
     cases hr
     obtain ⟨x1, x2, x3⟩ := HX.out a j hq
     cases hj : fnS s i with
     | error p => rw [hj] at hq; cases hq
     | ok q =>
      rw [hj] at x2
      obtain ⟨p1, p2, p3⟩ := zjn hi hj
      have hpl : q <= j := by
       rw [hj] at hq
       have := (zao s true _ _ _ _ _ _ hq (by omega) (by omega)).1
       omega
      have hll := HLL.out
      simp only [gPos] at *
      refine ⟨by simp at hll ⊢; omega, by simp; omega, ?_⟩
      rw [<- List.append_assoc]
      rw [HS3.out] at p3
      refine ⟨⟨92, c, k, 0, (some ⟨gg, 0, none⟩, 1, cap5), (none, 0, 0), (none, 0, 0), i, 0⟩, by rw [<- hll]; simp, .inr (.inr (.inl ⟨rfl, rfl, rfl, rfl, ?_, (by show k < ll; omega), (HS10.out a k x3).more _⟩))⟩
      show Ls w10 (.slice (some ⟨gg, 0, none⟩) 1 cap5) [kT s _]
      rw [<- kindT_ok HKT.out p3]
      exact HG10.out
theorem tinfoInt : (Tryz.prog.info? 3).map (fun i => (i.zero, i.size, i.bytes)) = some (some (.int .i64 0), 1, 8) := by kernel_rfl
def icell (n : Nat) : Value := .int .i64 (n : Int)
def Ir (B : Nat) (w : World) (V : Option Addr × Nat × Nat) (l : List Nat) : Prop := w.ownsRow B 3 1 (slV V) l.length (l.map icell) /\ (l = [] -> V = (none, 0, 0))
theorem Ir.nil (B : Nat) (w : World) : Ir B w (none, 0, 0) [] := ⟨World.ownsRow_nil _ _ _ _, fun _ => rfl⟩
theorem Ir.is {B : Nat} {w : World} {V : Option Addr × Nat × Nat} {l : List Nat} (h : Ir B w V l) : Is w (slV V) l := by
 obtain ⟨ho, he⟩ := h
 rcases id ho.2 with ⟨e, h0⟩ | ⟨g, cap, cur, e, hB, hg, _⟩
 · have : l = [] := List.length_eq_zero_iff.1 h0
   subst this
   exact ⟨none, 0, e, .inl rfl⟩
 · refine ⟨some ⟨g, 0, none⟩, cap, e, .inr ⟨g, rfl, (Array.getElem?_eq_some_iff.1 hg).1, fun k n hk => ?_⟩⟩
   have hc := ho.cells (g := g) (by rw [e]; rfl) k (icell n) (by rw [List.getElem?_map, hk]; rfl)
   rw [zic g k] at hc
   exact hc
theorem Ir.cap {B : Nat} {w : World} {V : Option Addr × Nat × Nat} {l : List Nat} (h : Ir B w V l) : V.2.1 <= V.2.2 := by
 obtain ⟨a, n, c⟩ := V
 rcases h.1.2 with ⟨e, _⟩ | ⟨g, cap, cur, e, _, _, hc, _⟩
 · simp at e; simp [e]
 · simp at e; obtain ⟨_, e1, e2⟩ := e; show n <= c; omega
theorem Ir.fr {b : Nat} {s : ByteArray} {σ : Sg} {ts : List Tt} {w w' : World} (hS : Sr b s σ ts w) (F : Fr b w w') {B : Nat} {V : Option Addr × Nat × Nat} {l : List Nat} (h : Ir B w V l) : Ir B w' V l :=
 ⟨row_fr hS F h.1 (by decide) (by decide), h.2⟩
theorem KeepC.ir {w w' : World} (h : KeepC w w') {B : Nat} {V : Option Addr × Nat × Nat} {l : List Nat} (R : Ir B w V l) : Ir B w' V l := by
 refine ⟨znf R.1 fun g e => ?_, R.2⟩
 cases l with
 | nil => rw [R.2 rfl] at e; cases e
 | cons x hs => exact h.2 g (icell x) (R.1.cells e 0 _ rfl) (by simp [icell])
theorem Ir.grown {B : Nat} {w w' : World} {V : Option Addr × Nat × Nat} {l : List Nat} {row : Option Nat} (h : Ir B w V l) (hg : w.grownBy w' row) (hn : ∀ g, row = some g -> (slV V).ownBlock ≠ some g) : Ir B w' V l :=
 ⟨znf h.1 fun g e => hg.block g (h.1.lt g e).2 (fun e' => hn g e'.symm e), h.2⟩
theorem Ir.kind {B : Nat} {w : World} {V : Option Addr × Nat × Nat} {l : List Nat} (h : Ir B w V l) {g : Nat} (e : (slV V).ownBlock = some g) : ∃ cur, w.heap[g]? = some (.cells cur 3 (0, 0)) /\ B <= g := zgf h.1 e
theorem news_int (w : World) (n : Nat) : ∀ j u, [icell n][j]? = some u -> (w.alloc (.cells #[.int .i64 (n : Int)] 3)).cell? ((⟨w.heap.size, 0, none⟩ : Addr).add j) = some u := World.news_of_block (heap_alloc_new w _)
def WS (s : ByteArray) (σ0 σ : Sg) (vs : List (Nat × Nat)) : Prop :=
 (∀ p, σ0 = .error p -> σ = .error p /\ vs = []) /\ ∀ i0, σ0 = .ok i0 -> ∃ m j, σ = .ok j /\ vs.length + i0 <= j /\ j <= s.size /\ s.size - j + 1 <= m /\ pw s m j vs = pw s (s.size + 1) i0 []
theorem WS.start {s : ByteArray} {σ0 : Sg} (h : gPos σ0 <= s.size) : WS s σ0 σ0 [] :=
 ⟨fun p e => ⟨e, rfl⟩, fun i0 e => ⟨s.size + 1, i0, e, (by simp), (by rw [e] at h; exact h), by omega, rfl⟩⟩
theorem WS.step {s : ByteArray} {σ0 : Sg} {j : Nat} {vs : List (Nat × Nat)} (h : WS s σ0 (.ok j) vs) (hc : isLet (chr s j) = true) : WS s σ0 (.ok (vEnd s j)) (vs ++ [(vnum (chr s j) (chr s (j + 1)), j)]) := by
 refine ⟨fun p e => (by cases (h.1 p e).1), fun i0 e => ?_⟩
 obtain ⟨m, j', e1, h1, h2, h3, h4⟩ := h.2 i0 e
 cases e1
 have hv := zcm hc
 obtain ⟨m, rfl⟩ : ∃ m', m = m' + 1 := ⟨m - 1, by omega⟩
 refine ⟨m, _, rfl, by simp; omega, hv.2, by omega, ?_⟩
 rw [<- h4, pw, if_neg (by intro e; rw [e] at hc; exact absurd hc (by decide)), if_pos hc]
theorem WS.len {s : ByteArray} {σ0 : Sg} {j : Nat} {vs : List (Nat × Nat)} (h : WS s σ0 (.ok j) vs) : vs.length <= s.size := by
 cases σ0 with
 | error p => cases (h.1 p rfl).1
 | ok i0 => obtain ⟨m, j', e1, h1, h2, _⟩ := h.2 i0 rfl; omega
theorem WS.stop {s : ByteArray} {σ0 σ : Sg} {vs : List (Nat × Nat)} (h : WS s σ0 σ vs) (hc : isS s 97 122 σ = false) : mustS s 62 σ = ownS s σ0 /\ ∀ k, ownS s σ0 = .ok k -> ownV s σ0 = vs := by
 cases σ0 with
 | error p =>
  obtain ⟨rfl, rfl⟩ := h.1 p rfl
  exact ⟨rfl, fun k e => by cases e⟩
 | ok i0 =>
  obtain ⟨m, j, rfl, h1, h2, h3, h4⟩ := h.2 i0 rfl
  obtain ⟨m, rfl⟩ : ∃ m', m = m' + 1 := ⟨m - 1, by omega⟩
  have hl : isLet (chr s j) = false := hc
  rw [pw, hl] at h4
  simp only [mustS, ownS, ownV]
  rw [<- h4]
  by_cases h62 : chr s j = 62
  · rw [if_pos h62, if_pos h62]
    exact ⟨rfl, fun k e => rfl⟩
  · rw [if_neg h62, if_neg h62]
    exact ⟨rfl, fun k e => by cases e⟩
structure LW (b q : Nat) (s : ByteArray) (σ0 : Sg) (c i : Nat) (ts : List Tt) (w : World) (σ : Sg) (vs : List (Nat × Nat)) (V P : Option Addr × Nat × Nat) (wr : World) : Prop where
 sr : Sr b s σ ts wr
 bt : Bt q ⟨64, c, 0, 0, (none, 0, 0), V, P, i, 0⟩ wr
 rn : rowOf b wr ≠ some q
 fr : Fr b w wr
 iv : Ir w.heap.size wr V (vs.map (·.1 + 30))
 ip : Ir w.heap.size wr P (vs.map (·.2))
 ne : ∀ g, (slV V).ownBlock = some g -> (slV P).ownBlock ≠ some g
 ws : WS s σ0 σ vs
theorem LW.drewN {b q : Nat} {s : ByteArray} {σ0 : Sg} {c i : Nat} {ts : List Tt} {w : World} {σ : Sg} {vs : List (Nat × Nat)} {V P : Option Addr × Nat × Nat} {wr : World} (h : LW b q s σ0 c i ts w σ vs V P wr) (n : Nat) : LW b q s σ0 c i ts w σ vs V P (wr.drewN n) :=
 ⟨h.sr, h.bt, h.rn, h.fr.drewN n, h.iv, h.ip, h.ne, h.ws⟩
theorem LW.kept6 {b q : Nat} {s : ByteArray} {σ0 : Sg} {c i : Nat} {ts : List Tt} {w : World} {σ : Sg} {vs : List (Nat × Nat)} {V P : Option Addr × Nat × Nat} {wr w5 : World} {o : Obj} (h : LW b q s σ0 c i ts w σ vs V P wr) (hg : (wr.alloc o).grownBy w5 (slV P).ownBlock) : Bt q ⟨64, c, 0, 0, (none, 0, 0), V, P, i, 0⟩ w5 :=
 h.bt.grown ((World.grownBy_alloc wr o _).trans hg) (fun e => by obtain ⟨cur, hc, _⟩ := h.ip.kind e; exact h.bt.ne hc (by decide) rfl)
theorem zht {w w' : World} {row : Option Nat} (h : w.drew.grownBy w' row) : w.grownBy w' row := ⟨h.os, h.tape, h.output, h.size, h.block⟩
theorem Ir.ne {B : Nat} {w : World} {V : Option Addr × Nat × Nat} {l : List Nat} (h : Ir B w V l) {q : Nat} {t : Tt} (hB : Bt q t w) : (slV V).ownBlock ≠ some q := fun e => by obtain ⟨cur, hc, _⟩ := h.kind e; exact hB.ne hc (by decide) rfl
theorem LW.place {b q : Nat} {s : ByteArray} {σ0 : Sg} {c i : Nat} {ts : List Tt} {w : World} {j : Nat} {vs : List (Nat × Nat)} {V P : Option Addr × Nat × Nat} {wr w5 : World} {o : Obj} {gg cap : Nat} (h : LW b q s σ0 c i ts w (.ok j) vs V P wr) (hqb : q ≠ b) (hwq : w.heap.size <= q)
 (hown : w5.ownsRow w.heap.size 3 1 (.slice (some ⟨gg, 0, none⟩) (vs.length + 1) cap) (vs.length + 1) ((vs.map (·.2)).map icell ++ [icell j])) (hg : (wr.alloc o).grownBy w5 (slV P).ownBlock) (hat : (slV P).ownBlock = some gg \/ gg = wr.heap.size + 1) :
 Sr b s (.ok j) ts (w5.setCell ⟨q, 6, none⟩ (.slice (some ⟨gg, 0, none⟩) (vs.length + 1) cap)) /\ Bt q ⟨64, c, 0, 0, (none, 0, 0), V, (some ⟨gg, 0, none⟩, vs.length + 1, cap), i, 0⟩ (w5.setCell ⟨q, 6, none⟩ (.slice (some ⟨gg, 0, none⟩) (vs.length + 1) cap)) /\
 rowOf b (w5.setCell ⟨q, 6, none⟩ (.slice (some ⟨gg, 0, none⟩) (vs.length + 1) cap)) ≠ some q /\ Fr b w (w5.setCell ⟨q, 6, none⟩ (.slice (some ⟨gg, 0, none⟩) (vs.length + 1) cap)) /\
 Ir w.heap.size (w5.setCell ⟨q, 6, none⟩ (.slice (some ⟨gg, 0, none⟩) (vs.length + 1) cap)) V (vs.map (·.1 + 30)) /\ Ir w.heap.size (w5.setCell ⟨q, 6, none⟩ (.slice (some ⟨gg, 0, none⟩) (vs.length + 1) cap)) (some ⟨gg, 0, none⟩, vs.length + 1, cap) ((vs.map (·.2)) ++ [j]) /\
 (∀ g, (slV V).ownBlock = some g -> gg ≠ g) := by
 have g15 : wr.grownBy w5 (slV P).ownBlock := (World.grownBy_alloc wr o _).trans hg
 have hrow : ∀ g, (slV P).ownBlock = some g -> g ≠ b /\ rowOf b wr ≠ some g /\ w.heap.size <= g := fun g e => by
  obtain ⟨cur, hc, hB⟩ := h.ip.kind e
  have := h.sr.apartT hc (by decide) (by decide)
  exact ⟨this.1, this.2, hB⟩
 obtain ⟨s5, f5⟩ := h.sr.grown h.fr g15 hrow
 have hrow5 : rowOf b w5 = rowOf b wr := by
  obtain ⟨_, lv, h0, _⟩ := h.sr
  have hb : w5.heap[b]? = wr.heap[b]? := g15.block b h0.lt (fun e => (hrow b e.symm).1 rfl)
  unfold rowOf
  rw [World.cell?_of_block (w := wr) (w' := w5) (a := ⟨b, 4, none⟩) hb]
 have r5 : rowOf b w5 ≠ some q := by rw [hrow5]; exact h.rn
 have b5 : Bt q ⟨64, c, 0, 0, (none, 0, 0), V, P, i, 0⟩ w5 := h.bt.grown g15 (fun e => by obtain ⟨cur, hc, _⟩ := h.ip.kind e; exact h.bt.ne hc (by decide) rfl)
 have v5 := h.iv.grown g15 (fun g e e' => h.ne g e' e)
 have K := b5.keepC 6 (.slice (some ⟨gg, 0, none⟩) (vs.length + 1) cap)
 have p5 : Ir w.heap.size w5 (some ⟨gg, 0, none⟩, vs.length + 1, cap) ((vs.map (·.2)) ++ [j]) := ⟨by simpa using hown, fun e => by simp at e⟩
 refine ⟨s5.setFar hqb r5, b5.setP _ _ _, zcl hqb r5, f5.setNew' hqb hwq, K.ir v5, K.ir p5, fun g e e' => ?_⟩
 subst e'
 rcases hat with e2 | e2
 · exact h.ne gg e e2
 · have := (h.iv.1.lt gg e).2; omega
theorem LW.var {b q : Nat} {s : ByteArray} {σ0 : Sg} {c i : Nat} {ts : List Tt} {w : World} {j : Nat} {vs : List (Nat × Nat)} {V P : Option Addr × Nat × Nat} {wr w5 : World} {o : Obj} {gg cap : Nat} (hS : Sr b s (.ok (vEnd s j)) ts wr) (hB : Bt q ⟨64, c, 0, 0, (none, 0, 0), V, P, i, 0⟩ wr) (hR : rowOf b wr ≠ some q) (hF : Fr b w wr) (hV : Ir w.heap.size wr V (vs.map (·.1 + 30))) (hP : Ir w.heap.size wr P (vs.map (·.2) ++ [j])) (hne : ∀ g, (slV V).ownBlock = some g -> (slV P).ownBlock ≠ some g) (hW : WS s σ0 (.ok j) vs) (hl : isLet (chr s j) = true) (hqb : q ≠ b) (hwq : w.heap.size <= q)
 (hown : w5.ownsRow w.heap.size 3 1 (.slice (some ⟨gg, 0, none⟩) (vs.length + 1) cap) (vs.length + 1) ((vs.map (·.1 + 30)).map icell ++ [icell (vnum (chr s j) (chr s (j + 1)) + 30)])) (hg : (wr.alloc o).grownBy w5 (slV V).ownBlock) (hat : (slV V).ownBlock = some gg \/ gg = wr.heap.size + 1) :
 LW b q s σ0 c i ts w (.ok (vEnd s j)) (vs ++ [(vnum (chr s j) (chr s (j + 1)), j)]) (some ⟨gg, 0, none⟩, vs.length + 1, cap) P (w5.setCell ⟨q, 5, none⟩ (.slice (some ⟨gg, 0, none⟩) (vs.length + 1) cap)) := by
 have g15 : wr.grownBy w5 (slV V).ownBlock := (World.grownBy_alloc wr o _).trans hg
 have hrow : ∀ g, (slV V).ownBlock = some g -> g ≠ b /\ rowOf b wr ≠ some g /\ w.heap.size <= g := fun g e => by
  obtain ⟨cur, hc, hB⟩ := hV.kind e
  have := hS.apartT hc (by decide) (by decide)
  exact ⟨this.1, this.2, hB⟩
 obtain ⟨s5, f5⟩ := hS.grown hF g15 hrow
 have hrow5 : rowOf b w5 = rowOf b wr := by
  obtain ⟨_, lv, h0, _⟩ := hS
  have hb : w5.heap[b]? = wr.heap[b]? := g15.block b h0.lt (fun e => (hrow b e.symm).1 rfl)
  unfold rowOf
  rw [World.cell?_of_block (w := wr) (w' := w5) (a := ⟨b, 4, none⟩) hb]
 have r5 : rowOf b w5 ≠ some q := by rw [hrow5]; exact hR
 have b5 : Bt q ⟨64, c, 0, 0, (none, 0, 0), V, P, i, 0⟩ w5 := hB.grown g15 (fun e => by obtain ⟨cur, hc, _⟩ := hV.kind e; exact hB.ne hc (by decide) rfl)
 have v5 := hP.grown g15 (fun g e e' => hne g e e')
 have K := b5.keepC 5 (.slice (some ⟨gg, 0, none⟩) (vs.length + 1) cap)
 have p5 : Ir w.heap.size w5 (some ⟨gg, 0, none⟩, vs.length + 1, cap) ((vs.map (·.1 + 30)) ++ [vnum (chr s j) (chr s (j + 1)) + 30]) := ⟨by simpa using hown, fun e => by simp at e⟩
 refine ⟨s5.setFar hqb r5, b5.setV _ _ _, zcl hqb r5, f5.setNew' hqb hwq, ?_, ?_, fun g e e' => ?_, hW.step hl⟩
 · simpa using K.ir p5
 · simpa using K.ir v5
 · have e2 : gg = g := by simpa [Value.ownBlock] using e
   subst e2
   rcases hat with e2 | e2
   · exact hne gg e2 e'
   · have := (hP.1.lt gg e').2; omega
theorem Sr.plr {b : Nat} {s : ByteArray} {σ : Sg} {ts : List Tt} {w : World} (h : Sr b s σ ts w) : plr b w = gPos σ := by
 obtain ⟨_, lv, h, _⟩ := h; exact h.plr
def wiS2 (s : ByteArray) (n i : Nat) : Sg := mustS s 59 (posS (exprO s n (wiS s i)))
theorem pe_wi2 (s : ByteArray) (n i : Nat) (h : chr s i = 64) : pe s true (n + 1) 0 i .nil = match exprO s n (wiS2 s n i) with
 | .error p => .error p
 | .ok (b, l) => match exprO s n (wiS s i) with
  | .error p => .error p
  | .ok (a, _) => .ok (eL (letC s (.ok (i + 1))) i (ownV s (mustS s 60 (letS s (.ok (i + 1))))) a b, l) := by
 rw [pe_wi s n i h]
 unfold wiS2
 cases exprO s n (wiS s i) with
 | error p => rfl
 | ok r => obtain ⟨a, k⟩ := r; rfl
theorem wi_pos {s : ByteArray} {n i j : Nat} (hi : i < s.size) (h : wiS2 s n i = .ok j) : ∃ a q, exprO s n (wiS s i) = .ok (a, j - 1) /\ wiS s i = .ok q /\ i + 4 < q /\ q < j - 1 /\ j <= s.size /\ 1 <= j := by
 obtain ⟨j1, h1, h2, h3, _⟩ := zdd (by decide) h
 cases hr : exprO s n (wiS s i) with
 | error p => rw [hr] at h1; cases h1
 | ok r =>
  obtain ⟨a, k⟩ := r
  rw [hr] at h1
  cases h1
  cases hq : wiS s i with
  | error p => rw [hq] at hr; cases hr
  | ok q =>
   have hp := zpm hi hq
   rw [hq] at hr
   have := zao s true _ _ _ _ _ _ hr hp.2 (by omega)
   exact ⟨a, q, by rw [h2]; rfl, rfl, hp.1, by omega, by omega, by omega⟩
theorem wi_len1 {s : ByteArray} {i : Nat} (hi : i < s.size) : xB s (wiS s i) + 2 <= xB s (.ok i) := by
 cases hq : wiS s i with
 | error p => simp only [xB]; omega
 | ok q => have := zpm hi hq; simp only [xB]; omega
theorem wi_len2 {s : ByteArray} {n i u : Nat} (hi : i < s.size) (hu : u <= xB s (wiS s i)) (hx : ∀ a k, exprO s n (wiS s i) = .ok (a, k) -> u + 1 <= 2 * (k - gPos (wiS s i))) : u + xB s (wiS2 s n i) + 1 <= xB s (.ok i) := by
 cases hj : wiS2 s n i with
 | error p => have := wi_len1 hi; simp only [xB] at *; omega
 | ok j =>
  obtain ⟨a, q, h1, h2, h3, h4, h5, h6⟩ := wi_pos hi hj
  have := hx a _ h1
  rw [h2] at this
  simp only [gPos, xB] at *
  omega
theorem wi_len3 {s : ByteArray} {n i u u' l : Nat} {b : Ex} (hi : i < s.size) (hx : ∀ a k, exprO s n (wiS s i) = .ok (a, k) -> u + 1 <= 2 * (k - gPos (wiS s i))) (h : exprO s n (wiS2 s n i) = .ok (b, l)) (hu : u' + 1 <= 2 * (l - gPos (wiS2 s n i))) : u + u' + 2 <= 2 * (l - i) := by
 cases hj : wiS2 s n i with
 | error p => rw [hj] at h; cases h
 | ok j =>
  obtain ⟨a, q, h1, h2, h3, h4, h5, h6⟩ := wi_pos hi hj
  have := hx a _ h1
  rw [h2] at this
  rw [hj] at hu h
  have := zao s true _ _ _ _ _ _ h h5 (by omega)
  simp only [gPos] at *
  omega
theorem twi_any (b : Nat) (s : ByteArray) (n i : Nat) (ts : List Tt) (w : World) (h : Sr b s (.ok (i + 1)) ts w) (hi : i < s.size) (hs : s.size <= 60000) (ih : TExpr b s n) (hn : 3 * (s.size - i) + 2 <= n + 1) (hc : chr s i = 64) (hl : ts.length + xB s (.ok i) <= 300000) :
 Calls Tryz.prog 75 #[.pointer (some ⟨b, 0, none⟩), .int .i64 (i : Int)] w (XPost b s (pe s true (n + 1) 0 i .nil) (.ok i) ts w) := by
 obtain ⟨i0, hi0, hz0, hz1, hz2⟩ := info_parts tinfoInt
 have HPE : Hid _ := pe_wi2 s n i hc
 have IH : Hid (TExpr b s n) := ih
 have hlt := h.lt
 have hqb : w.heap.size ≠ b := by omega
 have B0 : Bt w.heap.size (t0 64 0 0 0 i 0) (w.alloc (tO 64 0 0 0 i 0)) := heap_alloc_new w _
 have F0 : Fr b w (w.alloc (tO 64 0 0 0 i 0)) := (Fr.refl b w).alloc hlt _
 have r0 := h.rowNew (tO 64 0 0 0 i 0)
 have h0 := h.alloc (tO 64 0 0 0 i 0)
 have HL : Hid (ts.length + xB s (.ok i) <= 300000) := hl
 clear hc ih hl
 go_enter Tryz.func75, Tryz.ntmps75
 go_wp2_with fail
 refine (sletter b s _ ts _ h0 (by omega)).mono ?_
 rintro e w1 ⟨rfl, h1, k1⟩
 have B1 := Bt.fr B0 k1 hqb r0
 have r1 := k1.rowNe' r0 (by simp)
 have F1 := F0.trans k1
 clear B0 F0 r0 h0 k1
 generalize hcc : letC s (.ok (i + 1)) = c at *
 have HCC : Hid (letC s (.ok (i + 1)) = c) := hcc
 clear hcc
 have c1 := B1.c 1
 have f1 := B1.fz 1
 have B2 := B1.setC c
 have h2 : Sr b s (letS s (.ok (i + 1))) ts (w1.setCell ⟨w.heap.size, 1, none⟩ (.int .u8 (c : Int))) := h1.setFar hqb r1
 have r2 : rowOf b (w1.setCell ⟨w.heap.size, 1, none⟩ (.int .u8 (c : Int))) ≠ some w.heap.size := zcl hqb r1
 have F2 : Fr b w (w1.setCell ⟨w.heap.size, 1, none⟩ (.int .u8 (c : Int))) := F1.setNew' hqb (Nat.le_refl _)
 have t2 := h2.c1
 clear B1 r1 F1 h1
 go_wp2_with fail
 generalize w1.setCell ⟨w.heap.size, 1, none⟩ (.int .u8 (c : Int)) = w2 at *
 refine (smust b s 60 _ ts w2 h2 (by omega) (by decide)).mono ?_
 rintro e w3 ⟨rfl, h3, k3⟩
 have B3 := Bt.fr B2 k3 hqb r2
 have r3 := k3.rowNe' r2 B2.lt
 have F3 := F2.trans k3
 clear B2 r2 F2 h2 t2 k3 c1 f1
 generalize hs3 : mustS s 60 (letS s (.ok (i + 1))) = σ3 at *
 have HS3 : Hid (mustS s 60 (letS s (.ok (i + 1))) = σ3) := hs3
 clear hs3
 have L3 : LW b w.heap.size s σ3 c i ts w σ3 [] (none, 0, 0) (none, 0, 0) w3 := ⟨h3, B3, r3, F3, Ir.nil _ _, Ir.nil _ _, (fun g e => by cases e), WS.start h3.pos⟩
 clear B3 r3 F3
 go_wp2_with fail
 refine (sis b s 97 122 σ3 ts w3 h3 (by omega) (by decide)).mono ?_
 rintro e w4 ⟨rfl, d4, rfl⟩
 have HL4 : Hid (LW b w.heap.size s σ3 c i ts w σ3 [] (none, 0, 0) (none, 0, 0) (w3.drewN d4)) := L3.drewN d4
 clear L3 h3
 go_wp2_with fail
 go_loopw [6] (fun m wr => ∃ σ vs V P, m = .bool (isS s 97 122 σ) /\ Hid (LW b w.heap.size s σ3 c i ts w σ vs V P wr)) (fun _ wr => s.size - plr b wr)
 case atStart => exact ⟨σ3, [], _, _, rfl, HL4⟩
 case round =>
  clear HL4
  obtain ⟨σ, vs, V, P, rfl, HL4⟩ := hrel
  cases hm : isS s 97 122 σ
  · obtain ⟨e1, e2⟩ := HL4.out.ws.stop hm
    have HE1 : Hid (mustS s 62 σ = ownS s σ3) := e1
    have HE2 : Hid (∀ k, ownS s σ3 = .ok k -> ownV s σ3 = vs) := e2
    clear e1 e2
    have h5 := HL4.out.sr
    have B5 := HL4.out.bt
    have r5 := HL4.out.rn
    have F5 := HL4.out.fr
    have V5 := HL4.out.iv
    have P5 := HL4.out.ip
    clear HL4 hm
    go_wp2_with fail
    refine (smust b s 62 σ ts wr h5 (by omega) (by decide)).mono ?_
    rintro e w6 ⟨rfl, h6, k6⟩
    have B6 := Bt.fr B5 k6 hqb r5
    have r6 := k6.rowNe' r5 B5.lt
    have F6 := F5.trans k6
    have V6 := V5.fr h5 k6
    have P6 := P5.fr h5 k6
    rw [HE1.out] at h6
    clear B5 r5 F5 V5 P5 h5 k6
    go_wp2_with fail
    refine (smust b s 61 _ ts w6 h6 (by omega) (by decide)).mono ?_
    rintro e w7 ⟨rfl, h7, k7⟩
    have B7 := Bt.fr B6 k7 hqb r6
    have r7 := k7.rowNe' r6 B6.lt
    have F7 := F6.trans k7
    have V7 := V6.fr h6 k7
    have P7 := P6.fr h6 k7
    have HW7 : Hid (mustS s 61 (ownS s σ3) = wiS s i) := by unfold Hid wiS; rw [HS3.out]
    rw [HW7.out] at h7
    clear B6 r6 F6 V6 P6 h6 k7
    have HFU : Hid (∀ j, wiS s i = .ok j -> 3 * (s.size - j) + 2 <= n) := by intro j hj; have := zpm hi hj; omega
    have HLN : Hid (ts.length + xB s (wiS s i) <= 300000) := by have := HL.out; have := wi_len1 hi; unfold Hid; omega
    go_wp2_with fail
    refine (IH.out (wiS s i) ts w7 h7 HFU.out HLN.out).mono ?_
    rintro e w8 ⟨k8, ka, us, rfl, h8, hu, hx⟩
    have B8 := Bt.fr B7 k8 hqb r7
    have r8 := k8.rowNe' r7 B7.lt
    have F8 := F7.trans k8
    have V8 := V7.fr h7 k8
    have P8 := P7.fr h7 k8
    have HX : Hid _ := hx
    have HU : Hid (us.length <= xB s (wiS s i)) := hu
    clear B7 r7 F7 V7 P7 h7 k8 hx hu HFU HLN
    have c8 := B8.c 2
    have f8 := B8.fz 2
    have K9 := B8.keepC 2 (.int .i64 (ka : Int))
    have B9 := B8.setA ka
    have V9 := K9.ir V8
    have P9 := K9.ir P8
    have HK9 : Hid (KeepC w8 (w8.setCell ⟨w.heap.size, 2, none⟩ (.int .i64 (ka : Int)))) := K9
    have h9 : Sr b s _ (ts ++ us) (w8.setCell ⟨w.heap.size, 2, none⟩ (.int .i64 (ka : Int))) := h8.setFar hqb r8
    have r9 : rowOf b (w8.setCell ⟨w.heap.size, 2, none⟩ (.int .i64 (ka : Int))) ≠ some w.heap.size := zcl hqb r8
    have F9 : Fr b w (w8.setCell ⟨w.heap.size, 2, none⟩ (.int .i64 (ka : Int))) := F8.setNew' hqb (Nat.le_refl _)
    clear B8 r8 F8 V8 P8 h8 K9
    go_wp2_with fail
    have HS9 : Hid (∀ x j, Sd w8 (ts ++ us) x j -> Sd (w8.setCell ⟨w.heap.size, 2, none⟩ (.int .i64 (ka : Int))) (ts ++ us) x j) := fun x j S => HK9.out.sd S
    clear HK9
    generalize w8.setCell ⟨w.heap.size, 2, none⟩ (.int .i64 (ka : Int)) = w9 at *
    refine (smust b s 59 _ (ts ++ us) w9 h9 (by omega) (by decide)).mono ?_
    rintro e w10 ⟨rfl, h10, k10⟩
    have B10 := Bt.fr B9 k10 hqb r9
    have r10 := k10.rowNe' r9 B9.lt
    have F10 := F9.trans k10
    have V10 := V9.fr h9 k10
    have P10 := P9.fr h9 k10
    have HS10 : Hid (∀ x j, Sd w8 (ts ++ us) x j -> Sd w10 (ts ++ us) x j) := fun x j S => (HS9.out x j S).fr h9 k10
    have HU2 : Hid (us.length + xB s (wiS2 s n i) + 1 <= xB s (.ok i)) := wi_len2 hi HU.out (fun a k e => (HX.out a k e).2.1)
    clear B9 r9 F9 V9 P9 h9 k10 HS9 c8 f8
    have HFU : Hid (∀ j, wiS2 s n i = .ok j -> 3 * (s.size - j) + 2 <= n) := by intro j hj; obtain ⟨a, q, g1, g2, g3, g4, g5, g6⟩ := wi_pos hi hj; omega
    have HLN : Hid ((ts ++ us).length + xB s (wiS2 s n i) <= 300000) := by have := HL.out; have := HU2.out; unfold Hid; simp; omega
    go_wp2_with fail
    refine (IH.out (wiS2 s n i) (ts ++ us) w10 h10 HFU.out HLN.out).mono ?_
    rintro e w11 ⟨k11, kb, us', rfl, h11, hu', hx'⟩
    have B11 := Bt.fr B10 k11 hqb r10
    have r11 := k11.rowNe' r10 B10.lt
    have F11 := F10.trans k11
    have V11 := V10.fr h10 k11
    have P11 := P10.fr h10 k11
    have HS11 : Hid (∀ x j, Sd w8 (ts ++ us) x j -> Sd w11 (ts ++ us) x j) := fun x j S => (HS10.out x j S).fr h10 k11
    have HX' : Hid _ := hx'
    have HU' : Hid (us'.length <= xB s (wiS2 s n i)) := hu'
    clear B10 r10 F10 V10 P10 h10 k11 hx' hu' HFU HLN HS10
    have c11 := B11.c 3
    have f11 := B11.fz 3
    have K12 := B11.keepC 3 (.int .i64 (kb : Int))
    have B12 := B11.setB kb
    have V12 := K12.ir V11
    have P12 := K12.ir P11
    have HS12 : Hid (∀ us x j, Sd w11 us x j -> Sd (w11.setCell ⟨w.heap.size, 3, none⟩ (.int .i64 (kb : Int))) us x j) := fun us x j S => K12.sd S
    have h12 : Sr b s _ (ts ++ us ++ us') (w11.setCell ⟨w.heap.size, 3, none⟩ (.int .i64 (kb : Int))) := h11.setFar hqb r11
    have F12 : Fr b w (w11.setCell ⟨w.heap.size, 3, none⟩ (.int .i64 (kb : Int))) := F11.setNew' hqb (Nat.le_refl _)
    obtain ⟨d0, d1, d2, d3, d4, d5, d6, d7, d8⟩ := B12.all
    have HLU : Hid ((ts ++ us ++ us').length <= 1000000) := by have := HL.out; have := HU2.out; have := HU'.out; unfold Hid; simp; omega
    clear B11 B12 r11 F11 V11 P11 h11 K12
    obtain ⟨va, vn, vc⟩ := V
    obtain ⟨pa, pn, pc⟩ := P
    go_wp2_with fail
    refine (tadd b s _ (ts ++ us ++ us') _ 64 c ka kb none va pa 0 0 vn vc pn pc i 0 h12 HLU.out).mono ?_
    rintro e w13 ⟨rfl, h13, k13⟩
    clear d0 d1 d2 d3 d4 d5 d6 d7 d8 c11 f11
    have HCAP : Hid (vn <= vc) := V12.cap
    have HV13 : Hid (Is w13 (.slice va vn vc) (vs.map (·.1 + 30))) := (V12.fr h12 k13).is
    have HP13 : Hid (Is w13 (.slice pa pn pc) (vs.map (·.2))) := (P12.fr h12 k13).is
    have HS13 : Hid (∀ us x j, Sd w11 us x j -> Sd w13 us x j) := fun us x j S => (HS12.out us x j S).fr h12 k13
    have HF13 : Hid (Fr b w w13) := F12.trans k13
    have HR13 : Hid (Sr b s (posS (exprO s n (wiS2 s n i))) (ts ++ us ++ us' ++ [⟨64, c, ka, kb, (none, 0, 0), (va, vn, vc), (pa, pn, pc), i, 0⟩]) w13) := h13
    clear V12 P12 h12 h13 F12 k13 HS12
    generalize hll : (ts ++ us ++ us').length = ll at *
    have HLL : Hid ((ts ++ us ++ us').length = ll) := hll
    clear hll
    go_wp2_with fail
    go_ret
    refine ⟨HF13.out, ll, us ++ us' ++ [⟨64, c, ka, kb, (none, 0, 0), (va, vn, vc), (pa, pn, pc), i, 0⟩], rfl, ?_, ?_, ?_⟩
    · rw [HPE.out]
      have := HR13.out
      rw [<- List.append_assoc, <- List.append_assoc]
      cases hq : exprO s n (wiS2 s n i) with
      | error p => rw [hq] at this; exact this
      | ok r =>
       obtain ⟨a, j⟩ := r
       rw [hq] at this
       cases hq1 : exprO s n (wiS s i) with
       | error p =>
        exfalso
        unfold wiS2 at hq
        rw [hq1] at hq
        cases hq
       | ok r1 => obtain ⟨a1, j1⟩ := r1; exact this
    · have := HU2.out
      have := HU'.out
      simp
      omega
    · intro x j hr
      rw [HPE.out] at hr
      cases hq : exprO s n (wiS2 s n i) with
      | error p => rw [hq] at hr; cases hr
      | ok r =>
       obtain ⟨bb, j'⟩ := r
       rw [hq] at hr
       cases hq1 : exprO s n (wiS s i) with
       | error p => rw [hq1] at hr; cases hr
       | ok r1 =>
        obtain ⟨a1, j1⟩ := r1
        rw [hq1] at hr
        cases hr
        obtain ⟨x1, x2, x3⟩ := HX.out a1 j1 hq1
        obtain ⟨y1, y2, y3⟩ := HX'.out bb j hq
        have hll := HLL.out
        have h3 := wi_len3 hi (fun a k e => (HX.out a k e).2.1) hq y2
        have hown : ∃ q, ownS s σ3 = .ok q := by
         cases ho : ownS s σ3 with
         | ok q => exact ⟨q, rfl⟩
         | error p =>
          exfalso
          have e1 := HW7.out
          rw [ho] at e1
          rw [<- e1] at hq1
          cases hq1
        obtain ⟨q, hown⟩ := hown
        have hvs := HE2.out q hown
        refine ⟨by simp at hll ⊢; omega, by simp [gPos]; omega, ?_⟩
        rw [<- List.append_assoc, <- List.append_assoc]
        refine ⟨⟨64, c, ka, kb, (none, 0, 0), (va, vn, vc), (pa, pn, pc), i, 0⟩, by rw [<- hll]; simp, .inr (.inr (.inr (.inl ⟨rfl, rfl, ⟨rfl, HCAP.out⟩, ?_, ?_, (by show ka < ll; simp at hll x1; omega), (by show kb < ll; simp at hll y1; omega), ((HS13.out _ _ _ ((HS11.out _ _ x3).more us'))).more _, (HS13.out _ _ _ y3).more _⟩)))⟩
        · show Is w13 (.slice va vn vc) ((ownV s σ3).map (·.1 + 30))
          rw [hvs]; exact HV13.out
        · show Is w13 (.slice pa pn pc) ((ownV s σ3).map (·.2))
          rw [hvs]; exact HP13.out
  · cases σ with
    | error p => cases hm
    | ok j =>
     have hlet : isLet (chr s j) = true := hm
     have HLET : Hid (isLet (chr s j) = true) := hlet
     have h5 := HL4.out.sr
     have c2 : wr.cell? ⟨b, 2, none⟩ = some (.int .i64 (j : Int)) := h5.c2
     have c6 : wr.cell? ⟨w.heap.size, 6, none⟩ = some (.slice P.1 P.2.1 P.2.2) := HL4.out.bt.c 6
     have f6 := HL4.out.bt.fz 6
     have lq := HL4.out.bt.lt
     have lb := h5.lt
     have HP5 : Hid (wr.ownsRow w.heap.size 3 1 (slV P) vs.length ((vs.map (·.2)).map icell)) := by have := HL4.out.ip.1; rw [List.length_map] at this; exact this
     have hwl : w.heap.size <= wr.heap.size := HL4.out.fr.size
     have HN := news_int wr j
     have hvl : vs.length <= 1000000 := by have := HL4.out.ws.len; omega
     have HVL : Hid (vs.length <= s.size) := HL4.out.ws.len
     clear hm hlet
     go_wp2_with fail
     go_region_law
      ((refine step_append_lies _ (by rfl) _ _ _ (by rfl) w.heap.size 3 i0 _ 1 8 Tryz.underlying63 hi0 hz0 hz1 hz2 rfl (by omega) (.slice P.1 P.2.1 P.2.2) vs.length ((vs.map (·.2)).map icell) (by rfl) ((HP5.out.alloc _).drew) ⟨wr.heap.size, 0, none⟩ 1 1 [icell j] (by rfl) (by rfl) HN (by simp [Value.oneCell', icell]) (by omega) (by unfold maxLen; omega) (by omega) (by simp; omega) (wr.heap.size + 1) (by simp) ?_; intro gg cap5 w5 hown5 hgrow5 hat5 hlt5; have b5 := HL4.out.kept6 (zht hgrow5); have k6 : w5.cell? ⟨w.heap.size, 6, none⟩ = some (.slice P.1 P.2.1 P.2.2) := b5.c 6; have z6 := b5.fz 6))
     all_goals
      obtain ⟨s6, b6, r6, F6, V6, P6, n6⟩ := HL4.out.place hqb (Nat.le_refl _) hown5 (zht hgrow5) hat5
      have HW : Hid (WS s σ3 (.ok j) vs) := HL4.out.ws
      have HM5 : Hid (plr b wr = j) := HL4.out.sr.plr
      clear HL4 b5 k6 z6 hown5 hgrow5 hat5 hlt5 HP5 HN h5 c2 c6 f6
      go_wp2_with fail
      generalize w5.setCell ⟨w.heap.size, 6, none⟩ (.slice (some ⟨gg, 0, none⟩) (vs.length + 1) cap5) = w6 at *
      refine (svariable b s j ts w6 s6 (by omega) HLET.out).mono ?_
      rintro e w7 ⟨rfl, h7, k7⟩
      have B7 := Bt.fr b6 k7 hqb r6
      have r7 := k7.rowNe' r6 b6.lt
      have F7 := F6.trans k7
      have V7 := V6.fr s6 k7
      have P7 := P6.fr s6 k7
      clear s6 b6 r6 F6 V6 P6 k7
      have c5 : w7.cell? ⟨w.heap.size, 5, none⟩ = some (.slice V.1 V.2.1 V.2.2) := B7.c 5
      have f5 := B7.fz 5
      have l7 := B7.lt
      have s7 := F7.size
      generalize hvn : vnum (chr s j) (chr s (j + 1)) + 30 = vv at *
      have HVV : Hid (vnum (chr s j) (chr s (j + 1)) + 30 = vv) := hvn
      clear hvn
      have HN7 := news_int w7 vv
      have hvl1 : vs.length <= 1000000 := by have := HVL.out; omega
      have HV7 : Hid (Ir w.heap.size w7 V (vs.map (·.1 + 30))) := V7
      have HW7 : Hid (w7.ownsRow w.heap.size 3 1 (slV V) vs.length ((vs.map (·.1 + 30)).map icell)) := by have := V7.1; rw [List.length_map] at this; exact this
      have HB7 : Hid (Bt w.heap.size ⟨64, c, 0, 0, (none, 0, 0), V, (some ⟨gg, 0, none⟩, vs.length + 1, cap5), i, 0⟩ w7) := B7
      have HP7 : Hid (Ir w.heap.size w7 (some ⟨gg, 0, none⟩, vs.length + 1, cap5) (vs.map (·.2) ++ [j])) := P7
      have HF7 : Hid (Fr b w w7) := F7
      have HR7 : Hid (rowOf b w7 ≠ some w.heap.size) := r7
      have HN6 : Hid (∀ g, (slV V).ownBlock = some g -> gg ≠ g) := n6
      have HS7 : Hid (Sr b s (.ok (vEnd s j)) ts w7) := h7
      clear V7 B7 P7 F7 r7 n6 h7
      go_wp2_with (at_builtin; refine wpList_append_lies _ rfl _ _ 63 rfl w.heap.size 3 i0 _ 1 8 Tryz.underlying63 hi0 hz0 hz1 hz2 rfl (by omega) (.slice V.1 V.2.1 V.2.2) vs.length ((vs.map (·.1 + 30)).map icell) rfl (HW7.out.alloc _) ⟨w7.heap.size, 0, none⟩ 1 1 [icell vv] rfl rfl HN7 (by simp [Value.oneCell', icell]) (by omega) (by unfold maxLen; omega) (by omega) (by simp; omega) (w7.heap.size + 1) (by simp) ?_; intro gg8 cap8 w8 hown8 hgrow8 hat8 hlt8; have b8 := HB7.out.grown ((World.grownBy_alloc w7 _ _).trans hgrow8) (HV7.out.ne HB7.out); have k8 : w8.cell? ⟨w.heap.size, 5, none⟩ = some (.slice V.1 V.2.1 V.2.2) := b8.c 5; have z8 := b8.fz 5)
      rw [<- HVV.out] at hown8
      have L8 := LW.var HS7.out HB7.out HR7.out HF7.out HV7.out HP7.out (fun g e e' => HN6.out g e (by simpa [Value.ownBlock] using e')) HW.out HLET.out hqb (Nat.le_refl _) hown8 hgrow8 hat8
      clear hown8 hgrow8 hat8 hlt8 b8 k8 z8 HN7 c5 f5
      generalize w8.setCell ⟨w.heap.size, 5, none⟩ (.slice (some ⟨gg8, 0, none⟩) (vs.length + 1) cap8) = w9 at *
      refine (sis b s 97 122 _ ts w9 L8.sr (by omega) (by decide)).mono ?_
      rintro e w10 ⟨rfl, d10, rfl⟩
      have HL10 : Hid _ := L8.drewN d10
      have HM10 : Hid (plr b (w9.drewN d10) = vEnd s j) := (L8.drewN d10).sr.plr
      clear L8
      generalize hbo : isS s 97 122 (.ok (vEnd s j)) = bo at *
      have HBO : Hid (isS s 97 122 (.ok (vEnd s j)) = bo) := hbo
      clear hbo
      go_wp2_with fail
      go_roundw
      case rel => exact ⟨.ok (vEnd s j), _, _, _, by rw [HBO.out], HL10.out⟩
      case measure =>
       rw [HM10.out, HM5.out]
       have := zcm HLET.out
       omega
theorem Sr.next {b : Nat} {s : ByteArray} {i : Nat} {ts : List Tt} {w : World} (h : Sr b s (.ok i) ts w) (hi : i < s.size) (n : Nat) :
 Sr b s (.ok (i + 1)) ts ((w.drewN n).setCell ⟨b, 2, none⟩ (.int .i64 ((i : Int) + 1))) /\ Fr b w ((w.drewN n).setCell ⟨b, 2, none⟩ (.int .i64 ((i : Int) + 1))) := by
 obtain ⟨lv, r0, mv⟩ := h.mv
 exact mv (.ok (i + 1)) _ (r0.next n) (((Gb.refl b w).drewN n).setCell 2 _) hi
def tmeas (b : Nat) (s : ByteArray) (w : World) : Nat :=
 if intOf ((w.cell? ⟨b, 3, none⟩).getD .nilIface) < 0 then 1 + (s.size - (intOf ((w.cell? ⟨b, 2, none⟩).getD .nilIface)).toNat) else 0
theorem zmb {b : Nat} {s : ByteArray} {i : Nat} {ts : List Tt} {w : World} (h : Sr b s (.ok i) ts w) : tmeas b s w = 1 + (s.size - i) := by
 unfold tmeas; rw [h.c3, h.c2]; simp [intOf, gBad, gPos]
theorem tmeas_bad {b : Nat} {s : ByteArray} {p : Nat} {ts : List Tt} {w : World} (h : Sr b s (.error p) ts w) : tmeas b s w = 0 := by
 unfold tmeas; rw [h.c3]; exact if_neg (by show ¬ ((p : Int) < 0); omega)
theorem tmeas_lt {b : Nat} {s : ByteArray} {σ : Sg} {j : Nat} {ts : List Tt} {w : World} (h : Sr b s σ ts w) (hj : ∀ i, σ = .ok i -> j < i) (hs : j < s.size) : tmeas b s w < 1 + (s.size - j) := by
 cases σ with
 | error p => rw [tmeas_bad h]; omega
 | ok i => rw [zmb h]; have := hj i rfl; omega
theorem pe_none {s : ByteArray} {n i : Nat} (h : zal (chr s i) = false) : pe s true (n + 1) 2 i .nil = .error i := by
 rw [pe, if_neg (by rw [h]; decide)]
theorem pe_lit {s : ByteArray} {n i : Nat} (h : zal (chr s i) = true) (hl : isLit (chr s i) = true) : pe s true (n + 1) 2 i .nil = .ok (eN (chr s i) i, i + 1) := by
 rw [pe, if_pos h, if_pos hl]
theorem pe_par {s : ByteArray} {n i : Nat} (h : zal (chr s i) = true) (hc : chr s i = 40) : pe s true (n + 1) 2 i .nil = match exprO s n (.ok (i + 1)) with
 | .error p => .error p
 | .ok (a, j) => if chr s j = 41 then .ok (a, j + 1) else .error j := by
 rw [pe, if_pos h, if_neg (by rw [hc]; decide), if_pos hc]; rfl
theorem pe_par_pos {s : ByteArray} {n i : Nat} (h : zal (chr s i) = true) (hc : chr s i = 40) : posS (pe s true (n + 1) 2 i .nil) = mustS s 41 (posS (exprO s n (.ok (i + 1)))) := by
 rw [pe_par h hc]
 cases exprO s n (.ok (i + 1)) with
 | error p => rfl
 | ok r =>
  obtain ⟨a, j⟩ := r
  by_cases h1 : chr s j = 41
  · simp only [posS, mustS, if_pos h1]
  · simp only [posS, mustS, if_neg h1]
def nameX (c i : Nat) (g : List Ty) : Ex := if isCon c then eK c i g else eX c i g
theorem pe_name {s : ByteArray} {n i : Nat} (h : zal (chr s i) = true) (hl : isLit (chr s i) = false) (hc : chr s i ≠ 40) : pe s true (n + 1) 2 i .nil = if chr s (i + 1) = 123 then (match pg s (s.size + 1) (i + 2) [] with
 | .error p => .error p
 | .ok (g, j) => .ok (nameX (chr s i) i g, j)) else .ok (nameX (chr s i) i [], i + 1) := by
 rw [pe, if_pos h, if_neg (by rw [hl]; decide), if_neg hc]
 simp only [zdi, if_true]
 by_cases h1 : chr s (i + 1) = 123
 · rw [if_pos h1, if_pos h1]; rfl
 · rw [if_neg h1, if_neg h1]; rfl
def pgA (s : ByteArray) (m j : Nat) (l : List Ty) : Except Nat (List Ty × Nat) := if chr s j = 44 then pg s m (j + 1) l else if chr s j = 125 then .ok (l, j + 1) else .error j
theorem zll (s : ByteArray) (m i : Nat) (l : List Ty) : pg s (m + 1) i l = match pT s i with
 | .error p => .error p
 | .ok (t, j) => pgA s m j (l ++ [t]) := by rw [pg]; rfl
def givS (r : Except Nat (List Ty × Nat)) : Sg := match r with
 | .error p => .error p
 | .ok (_, j) => .ok j
def GS (s : ByteArray) (i0 : Nat) (σ : Sg) (l : List Ty) : Prop :=
 (∀ p, σ = .error p -> pg s (s.size + 1) i0 [] = .error p) /\ ∀ j, σ = .ok j -> ∃ m, s.size - j <= m /\ l.length + i0 <= j /\ j <= s.size /\ pgA s m j l = pg s (s.size + 1) i0 []
theorem GS.start {s : ByteArray} {i0 : Nat} {u : Ty} (hi : i0 <= s.size) (hu : kindT s (.ok i0) u) : GS s i0 (kindS s (.ok i0)) [u] := by
 simp only [kindS]
 cases hp : pT s i0 with
 | error p => exact ⟨fun q e => by rw [zll, hp]; cases e; rfl, fun j e => by cases e⟩
 | ok r =>
  obtain ⟨t, k⟩ := r
  have pl := zcb hp hi
  refine ⟨fun q e => (by cases e), fun j e => ?_⟩
  cases e
  obtain rfl := hu i0 t k rfl hp
  exact ⟨s.size, by omega, by simp; omega, pl.2.1, by rw [zll, hp]; rfl⟩
theorem GS.step {s : ByteArray} {i0 j : Nat} {l : List Ty} {u : Ty} (h : GS s i0 (.ok j) l) (hc : chr s j = 44) (hu : kindT s (.ok (j + 1)) u) : GS s i0 (kindS s (.ok (j + 1))) (l ++ [u]) := by
 have hj : j < s.size := zaf (by rw [hc]; decide)
 obtain ⟨m, h1, h2, h3, h4⟩ := h.2 j rfl
 obtain ⟨m, rfl⟩ : ∃ m', m = m' + 1 := ⟨m - 1, by omega⟩
 rw [pgA, if_pos hc, zll] at h4
 simp only [kindS]
 cases hp : pT s (j + 1) with
 | error p => exact ⟨fun q e => by rw [hp] at h4; cases e; exact h4.symm, fun j e => by cases e⟩
 | ok r =>
  obtain ⟨t, k⟩ := r
  have pl := zcb hp hj
  refine ⟨fun q e => (by cases e), fun j' e => ?_⟩
  cases e
  obtain rfl := hu (j + 1) t k rfl hp
  rw [hp] at h4
  exact ⟨m, by omega, by simp; omega, pl.2.1, h4⟩
theorem GS.stop {s : ByteArray} {i0 : Nat} {σ : Sg} {l : List Ty} (h : GS s i0 σ l) (hc : isS s 44 44 σ = false) : mustS s 125 σ = givS (pg s (s.size + 1) i0 []) /\ ∀ g k, pg s (s.size + 1) i0 [] = .ok (g, k) -> g = l := by
 cases σ with
 | error p => rw [h.1 p rfl]; exact ⟨rfl, fun g k e => by cases e⟩
 | ok j =>
  obtain ⟨m, h1, h2, h3, h4⟩ := h.2 j rfl
  have hn : chr s j ≠ 44 := fun e => by rw [show isS s 44 44 (.ok j) = true from inS.2 e] at hc; cases hc
  rw [pgA, if_neg hn] at h4
  rw [<- h4]
  simp only [mustS]
  by_cases h5 : chr s j = 125
  · rw [if_pos h5, if_pos h5]; exact ⟨rfl, fun g k e => by cases e; rfl⟩
  · rw [if_neg h5, if_neg h5]; exact ⟨rfl, fun g k e => by cases e⟩
structure LT (b q : Nat) (s : ByteArray) (c i : Nat) (ts : List Tt) (w : World) (σ : Sg) (hs : List (Ty × Nat × Nat)) (G : Option Addr × Nat × Nat) (wr : World) : Prop where
 sr : Sr b s σ ts wr
 bt : Bt q ⟨120, c, 0, 0, G, (none, 0, 0), (none, 0, 0), i, 0⟩ wr
 rn : rowOf b wr ≠ some q
 fr : Fr b w wr
 gr : Gr w.heap.size wr G hs
theorem Gr.ne {B : Nat} {w : World} {G : Option Addr × Nat × Nat} {hs : List (Ty × Nat × Nat)} (h : Gr B w G hs) {q : Nat} {t : Tt} (hB : Bt q t w) : (slV G).ownBlock ≠ some q := fun e => by
 obtain ⟨cur, hc, _⟩ := zgf h.1 e
 exact hB.ne hc (by decide) rfl
theorem LT.more {b q : Nat} {s : ByteArray} {c i : Nat} {ts : List Tt} {w : World} {σ : Sg} {hs : List (Ty × Nat × Nat)} {G : Option Addr × Nat × Nat} {wr w5 : World} {u : Ty} {g4 cap4 gg cap : Nat} {o : Obj} (h : LT b q s c i ts w σ hs G wr) (R : Rg g4 u wr) (hqb : q ≠ b) (hwq : w.heap.size <= q)
 (hown : w5.ownsRow w.heap.size 33 1 (.slice (some ⟨gg, 0, none⟩) (hs.length + 1) cap) (hs.length + 1) (hs.map gcell ++ [gcell (u, g4, cap4)])) (hg : (wr.alloc o).grownBy w5 (slV G).ownBlock) :
 LT b q s c i ts w σ (hs ++ [(u, g4, cap4)]) (some ⟨gg, 0, none⟩, hs.length + 1, cap) (w5.setCell ⟨q, 4, none⟩ (.slice (some ⟨gg, 0, none⟩) (hs.length + 1) cap)) := by
 have g15 : wr.grownBy w5 (slV G).ownBlock := (World.grownBy_alloc wr o _).trans hg
 have hrow : ∀ g, (slV G).ownBlock = some g -> g ≠ b /\ rowOf b wr ≠ some g /\ w.heap.size <= g := fun g e => by
  obtain ⟨cur, hc, hB⟩ := zgf h.gr.1 e
  have := h.sr.apartT hc (by decide) (by decide)
  exact ⟨this.1, this.2, hB⟩
 obtain ⟨s5, f5⟩ := h.sr.grown h.fr g15 hrow
 have hrow5 : rowOf b w5 = rowOf b wr := by
  obtain ⟨_, lv, h0, _⟩ := h.sr
  have hb : w5.heap[b]? = wr.heap[b]? := g15.block b h0.lt (fun e => (hrow b e.symm).1 rfl)
  unfold rowOf
  rw [World.cell?_of_block (w := wr) (w' := w5) (a := ⟨b, 4, none⟩) hb]
 have r5 : rowOf b w5 ≠ some q := by rw [hrow5]; exact h.rn
 have b5 := h.bt.grown g15 (h.gr.ne h.bt)
 have K := b5.keepC 4 (.slice (some ⟨gg, 0, none⟩) (hs.length + 1) cap)
 exact ⟨s5.setFar hqb r5, b5.setG _ _ _, zcl hqb r5, f5.setNew' hqb hwq, K.gr (Gr.app h.gr R hown hg)⟩
theorem zjy {s : ByteArray} {i : Nat} (h : i < s.size) : s[i].toNat = chr s i := by simp [chr, h]
theorem tat_none (b : Nat) (s : ByteArray) (n i : Nat) (ts : List Tt) (w : World) (h : Sr b s (.ok i) ts w) (hs : s.size <= 60000) (hl : ts.length + xB s (.ok i) <= 300000) (HB : Hid (zal (chr s i) = false)) :
 Calls Tryz.prog 76 #[.pointer (some ⟨b, 0, none⟩)] w (XPost b s (pe s true (n + 1) 2 i .nil) (.ok i) ts w) := by
 have HR : Hid (pe s true (n + 1) 2 i .nil = .error i) := pe_none HB.out
 have HL : Hid (ts.length + xB s (.ok i) <= 300000) := hl
 have hl1 : ts.length <= 1000000 := by simp only [xB] at hl; omega
 clear hl
 go_enter Tryz.func76, Tryz.ntmps76
 go_wp2_with fail
 refine (zds b s _ ts w h (by omega)).mono ?_
 rintro e w1 ⟨rfl, d1, rfl⟩
 rw [show zfn s (.ok i) = false from HB.out]
 go_wp2_with fail
 refine (sfail b s i ts _ (h.drewN d1)).mono ?_
 rintro e w2 ⟨rfl, h2, k2⟩
 have F2 : Fr b w w2 := k2.undrew
 go_wp2_with fail
 refine (tadd b s _ ts _ 48 48 0 0 none none none 0 0 0 0 0 0 0 0 h2 hl1).mono ?_
 rintro e w3 ⟨rfl, h3, k3⟩
 go_wp2_with fail
 go_ret
 refine ⟨F2.trans k3, ts.length, [t0 48 48 0 0 0 0], rfl, ?_, by simp [xB], ?_⟩
 · rw [HR.out]; exact h3
 · intro x j e; rw [HR.out] at e; cases e
theorem tat_par (b : Nat) (s : ByteArray) (n i : Nat) (ts : List Tt) (w : World) (h : Sr b s (.ok i) ts w) (hs : s.size <= 60000) (hl : ts.length + xB s (.ok i) <= 300000) (ih : TExpr b s n) (hn : 3 * (s.size - i) + 1 <= n + 1) (HB : Hid (zal (chr s i) = true)) (H40 : Hid (chr s i = 40)) :
 Calls Tryz.prog 76 #[.pointer (some ⟨b, 0, none⟩)] w (XPost b s (pe s true (n + 1) 2 i .nil) (.ok i) ts w) := by
 have HP : Hid _ := pe_par (n := n) HB.out H40.out
 have HQ : Hid _ := pe_par_pos (n := n) HB.out H40.out
 have HL : Hid (ts.length + xB s (.ok i) <= 300000) := hl
 have IH : Hid (TExpr b s n) := ih
 have hi1 : i < s.size := zaf (by rw [H40.out]; decide)
 clear hl ih
 go_enter Tryz.func76, Tryz.ntmps76
 go_wp2_with fail
 refine (zds b s _ ts w h (by omega)).mono ?_
 rintro e w1 ⟨rfl, d1, rfl⟩
 rw [show zfn s (.ok i) = true from HB.out]
 go_wp2_with fail
 refine (sgot b s 40 _ ts _ (h.drewN d1) (by omega) (by decide)).mono ?_
 rintro e w2 ⟨rfl, h2, k2⟩
 have F2 : Fr b w w2 := k2.undrew
 rw [show isS s 40 40 (.ok i) = true from inS.2 H40.out]
 rw [show gotS s 40 (.ok i) = .ok (i + 1) from if_pos H40.out] at h2
 clear k2
 go_wp2_with fail
 have HFU : Hid (∀ j, (Except.ok (i + 1) : Sg) = .ok j -> 3 * (s.size - j) + 2 <= n) := by intro j hj; cases hj; omega
 have HLN : Hid (ts.length + xB s (.ok (i + 1)) <= 300000) := by have := HL.out; unfold Hid; simp only [xB] at *; omega
 refine (IH.out (.ok (i + 1)) ts w2 h2 HFU.out HLN.out).mono ?_
 rintro e w3 ⟨k3, k, us, rfl, h3, hu, hx⟩
 have F3 := F2.trans k3
 have HX : Hid _ := hx
 have HU : Hid (us.length <= xB s (.ok (i + 1))) := hu
 clear k3 F2 h2 hx hu
 go_wp2_with fail
 refine (smust b s 41 _ (ts ++ us) w3 h3 (by omega) (by decide)).mono ?_
 rintro e w4 ⟨rfl, h4, k4⟩
 have HS4 : Hid (∀ x j, Sd w3 (ts ++ us) x j -> Sd w4 (ts ++ us) x j) := fun x j S => S.fr h3 k4
 have HR4 : Hid (Sr b s (mustS s 41 (posS (exprO s n (.ok (i + 1))))) (ts ++ us) w4) := h4
 have HF4 : Hid (Fr b w w4) := F3.trans k4
 clear h3 h4 k4 F3
 go_wp2_with fail
 go_ret
 refine ⟨HF4.out, k, us, rfl, by rw [HQ.out]; exact HR4.out, by have := HU.out; simp only [xB] at *; omega, ?_⟩
 intro x j e
 rw [HP.out] at e
 cases hq : exprO s n (.ok (i + 1)) with
 | error p => rw [hq] at e; cases e
 | ok r =>
  obtain ⟨a, j1⟩ := r
  rw [hq] at e
  simp only at e
  split at e
  · cases e
    obtain ⟨x1, x2, x3⟩ := HX.out x j1 hq
    simp only [gPos] at *
    exact ⟨x1, by omega, HS4.out _ _ x3⟩
  · cases e
theorem tat_digit (b : Nat) (s : ByteArray) (n i : Nat) (ts : List Tt) (w : World) (h : Sr b s (.ok i) ts w) (hs : s.size <= 60000) (hl : ts.length + xB s (.ok i) <= 300000) (HB : Hid (zal (chr s i) = true)) (H40 : Hid (chr s i ≠ 40)) (hL : 48 <= chr s i /\ chr s i <= 57) :
 Calls Tryz.prog 76 #[.pointer (some ⟨b, 0, none⟩)] w (XPost b s (pe s true (n + 1) 2 i .nil) (.ok i) ts w) := by
 have HR : Hid (pe s true (n + 1) 2 i .nil = .ok (eN (chr s i) i, i + 1)) := pe_lit HB.out (by simp [isLit]; omega)
 have HL : Hid (ts.length + xB s (.ok i) <= 300000) := hl
 have hl1 : ts.length <= 1000000 := by simp only [xB] at hl; omega
 have hi1 : i < s.size := zaf (zcd HB.out)
 clear hl
 go_enter Tryz.func76, Tryz.ntmps76
 go_wp2_with fail
 refine (zds b s _ ts w h (by omega)).mono ?_
 rintro e w1 ⟨rfl, d1, rfl⟩
 rw [show zfn s (.ok i) = true from HB.out]
 go_wp2_with fail
 refine (sgot b s 40 _ ts _ (h.drewN d1) (by omega) (by decide)).mono ?_
 rintro e w2 ⟨rfl, h2, k2⟩
 have F2 : Fr b w w2 := k2.undrew
 rw [show isS s 40 40 (.ok i) = false from zcs H40.out]
 rw [show gotS s 40 (.ok i) = .ok i from if_neg H40.out] at h2
 clear k2
 have hcs : s[i].toNat = chr s i := zjy hi1
 generalize chr s i = c at *
 have c0 := h2.c0
 have c2 : w2.cell? ⟨b, 2, none⟩ = some (.int .i64 (i : Int)) := h2.c2
 have f2 := h2.fz 2
 have d1' : decide ((48 : Int) <= (c : Int)) = true := by simp; omega
 have d2' : decide ((c : Int) <= 57) = true := by simp; omega
 clear hL
 go_wp2_with fail
 go_quiet (fail)
 obtain ⟨h3, k3⟩ := h2.next hi1 nq
 have F3 := F2.trans k3
 clear F2 k3
 go_wp2_with fail
 refine (tadd b s _ ts _ 48 c 0 0 none none none 0 0 0 0 0 0 i 0 h3 hl1).mono ?_
 rintro e w4 ⟨rfl, h4, k4⟩
 go_wp2_with fail
 go_ret
 refine ⟨F3.trans k4, ts.length, [t0 48 c 0 0 i 0], rfl, ?_, by simp [xB], ?_⟩
 · rw [HR.out]; exact h4
 · intro x j e
   rw [HR.out] at e
   cases e
   exact ⟨by simp, by simp [gPos], t0 48 c 0 0 i 0, by simp, .inr (.inl ⟨rfl, rfl, rfl⟩)⟩
theorem tat_84 (b : Nat) (s : ByteArray) (n i : Nat) (ts : List Tt) (w : World) (h : Sr b s (.ok i) ts w) (hs : s.size <= 60000) (hl : ts.length + xB s (.ok i) <= 300000) (HB : Hid (zal (chr s i) = true)) (H40 : Hid (chr s i ≠ 40)) (hL : chr s i = 84) :
 Calls Tryz.prog 76 #[.pointer (some ⟨b, 0, none⟩)] w (XPost b s (pe s true (n + 1) 2 i .nil) (.ok i) ts w) := by
 have HR : Hid (pe s true (n + 1) 2 i .nil = .ok (eN (chr s i) i, i + 1)) := pe_lit HB.out (by rw [hL]; decide)
 have HL : Hid (ts.length + xB s (.ok i) <= 300000) := hl
 have hl1 : ts.length <= 1000000 := by simp only [xB] at hl; omega
 have hi1 : i < s.size := zaf (zcd HB.out)
 clear hl
 go_enter Tryz.func76, Tryz.ntmps76
 go_wp2_with fail
 refine (zds b s _ ts w h (by omega)).mono ?_
 rintro e w1 ⟨rfl, d1, rfl⟩
 rw [show zfn s (.ok i) = true from HB.out]
 go_wp2_with fail
 refine (sgot b s 40 _ ts _ (h.drewN d1) (by omega) (by decide)).mono ?_
 rintro e w2 ⟨rfl, h2, k2⟩
 have F2 : Fr b w w2 := k2.undrew
 rw [show isS s 40 40 (.ok i) = false from zcs H40.out]
 rw [show gotS s 40 (.ok i) = .ok i from if_neg H40.out] at h2
 clear k2
 have hcs : s[i].toNat = chr s i := zjy hi1
 generalize chr s i = c at *
 have c0 := h2.c0
 have c2 : w2.cell? ⟨b, 2, none⟩ = some (.int .i64 (i : Int)) := h2.c2
 have f2 := h2.fz 2
 subst hL
 go_wp2_with fail
 go_quiet (fail)
 obtain ⟨h3, k3⟩ := h2.next hi1 nq
 have F3 := F2.trans k3
 clear F2 k3
 go_wp2_with fail
 refine (tadd b s _ ts _ 48 84 0 0 none none none 0 0 0 0 0 0 i 0 h3 hl1).mono ?_
 rintro e w4 ⟨rfl, h4, k4⟩
 go_wp2_with fail
 go_ret
 refine ⟨F3.trans k4, ts.length, [t0 48 84 0 0 i 0], rfl, ?_, by simp [xB], ?_⟩
 · rw [HR.out]; exact h4
 · intro x j e
   rw [HR.out] at e
   cases e
   exact ⟨by simp, by simp [gPos], t0 48 84 0 0 i 0, by simp, .inr (.inl ⟨rfl, rfl, rfl⟩)⟩
theorem tat_70 (b : Nat) (s : ByteArray) (n i : Nat) (ts : List Tt) (w : World) (h : Sr b s (.ok i) ts w) (hs : s.size <= 60000) (hl : ts.length + xB s (.ok i) <= 300000) (HB : Hid (zal (chr s i) = true)) (H40 : Hid (chr s i ≠ 40)) (hL : chr s i = 70) :
 Calls Tryz.prog 76 #[.pointer (some ⟨b, 0, none⟩)] w (XPost b s (pe s true (n + 1) 2 i .nil) (.ok i) ts w) := by
 have HR : Hid (pe s true (n + 1) 2 i .nil = .ok (eN (chr s i) i, i + 1)) := pe_lit HB.out (by rw [hL]; decide)
 have HL : Hid (ts.length + xB s (.ok i) <= 300000) := hl
 have hl1 : ts.length <= 1000000 := by simp only [xB] at hl; omega
 have hi1 : i < s.size := zaf (zcd HB.out)
 clear hl
 go_enter Tryz.func76, Tryz.ntmps76
 go_wp2_with fail
 refine (zds b s _ ts w h (by omega)).mono ?_
 rintro e w1 ⟨rfl, d1, rfl⟩
 rw [show zfn s (.ok i) = true from HB.out]
 go_wp2_with fail
 refine (sgot b s 40 _ ts _ (h.drewN d1) (by omega) (by decide)).mono ?_
 rintro e w2 ⟨rfl, h2, k2⟩
 have F2 : Fr b w w2 := k2.undrew
 rw [show isS s 40 40 (.ok i) = false from zcs H40.out]
 rw [show gotS s 40 (.ok i) = .ok i from if_neg H40.out] at h2
 clear k2
 have hcs : s[i].toNat = chr s i := zjy hi1
 generalize chr s i = c at *
 have c0 := h2.c0
 have c2 : w2.cell? ⟨b, 2, none⟩ = some (.int .i64 (i : Int)) := h2.c2
 have f2 := h2.fz 2
 subst hL
 go_wp2_with fail
 go_quiet (fail)
 obtain ⟨h3, k3⟩ := h2.next hi1 nq
 have F3 := F2.trans k3
 clear F2 k3
 go_wp2_with fail
 refine (tadd b s _ ts _ 48 70 0 0 none none none 0 0 0 0 0 0 i 0 h3 hl1).mono ?_
 rintro e w4 ⟨rfl, h4, k4⟩
 go_wp2_with fail
 go_ret
 refine ⟨F3.trans k4, ts.length, [t0 48 70 0 0 i 0], rfl, ?_, by simp [xB], ?_⟩
 · rw [HR.out]; exact h4
 · intro x j e
   rw [HR.out] at e
   cases e
   exact ⟨by simp, by simp [gPos], t0 48 70 0 0 i 0, by simp, .inr (.inl ⟨rfl, rfl, rfl⟩)⟩
abbrev nO (c i : Nat) : Obj := .cells #[.int .u8 120, .int .u8 (c : Int), .int .i64 0, .int .i64 0, .slice none 0 0, .slice none 0 0, .slice none 0 0, .int .i64 (i : Int), .int .i64 0] 76
theorem gotS_no {s : ByteArray} {c : Nat} {σ : Sg} (h : isS s c c σ = false) : gotS s c σ = σ := by
 cases σ with
 | error p => rfl
 | ok i => exact if_neg (fun e => by rw [show isS s c c (.ok i) = true from inS.2 e] at h; cases h)
theorem Gr.drew {B : Nat} {w : World} {G : Option Addr × Nat × Nat} {hs : List (Ty × Nat × Nat)} (h : Gr B w G hs) : Gr B w.drew G hs := ⟨h.1, h.2.1, fun x hx => Rg.drew (h.2.2 x hx)⟩
theorem sd_name {w : World} {ts : List Tt} {c i : Nat} {g : List Ty} {G : Option Addr × Nat × Nat} (h : Ls w (slV G) g) : Sd w (ts ++ [⟨120, c, 0, 0, G, (none, 0, 0), (none, 0, 0), i, 0⟩]) (nameX c i g) ts.length := by
 unfold nameX
 split
 · exact ⟨⟨120, c, 0, 0, G, (none, 0, 0), (none, 0, 0), i, 0⟩, by simp, .inl ⟨by decide, rfl, rfl, rfl, h⟩⟩
 · exact ⟨⟨120, c, 0, 0, G, (none, 0, 0), (none, 0, 0), i, 0⟩, by simp, .inl ⟨by decide, rfl, rfl, rfl, h⟩⟩
theorem tat_bare (b : Nat) (s : ByteArray) (n i : Nat) (ts : List Tt) (w : World) (h : Sr b s (.ok i) ts w) (hs : s.size <= 60000) (hl : ts.length + xB s (.ok i) <= 300000) (HB : Hid (zal (chr s i) = true)) (H40 : Hid (chr s i ≠ 40)) (HI : Hid (isLit (chr s i) = false)) (hL : 65 <= chr s i) (h84 : chr s i ≠ 84) (h70 : chr s i ≠ 70) (H123 : Hid (chr s (i + 1) ≠ 123)) :
 Calls Tryz.prog 76 #[.pointer (some ⟨b, 0, none⟩)] w (XPost b s (pe s true (n + 1) 2 i .nil) (.ok i) ts w) := by
 have HR : Hid (pe s true (n + 1) 2 i .nil = .ok (nameX (chr s i) i [], i + 1)) := by unfold Hid; rw [pe_name HB.out HI.out H40.out, if_neg H123.out]
 have hi1 : i < s.size := zaf (zcd HB.out)
 have hl1 : ts.length <= 1000000 := by simp only [xB] at hl; omega
 have hlt := h.lt
 clear hl
 go_enter Tryz.func76, Tryz.ntmps76
 go_wp2_with fail
 refine (zds b s _ ts w h (by omega)).mono ?_
 rintro e w1 ⟨rfl, d1, rfl⟩
 rw [show zfn s (.ok i) = true from HB.out]
 go_wp2_with fail
 refine (sgot b s 40 _ ts _ (h.drewN d1) (by omega) (by decide)).mono ?_
 rintro e w2 ⟨rfl, h2, k2⟩
 have F2 : Fr b w w2 := k2.undrew
 rw [show isS s 40 40 (.ok i) = false from zcs H40.out]
 rw [show gotS s 40 (.ok i) = .ok i from if_neg H40.out] at h2
 clear k2
 have hcs : s[i].toNat = chr s i := zjy hi1
 have HCL : Hid (65 <= chr s i /\ chr s i ≠ 84 /\ chr s i ≠ 70) := ⟨hL, h84, h70⟩
 clear hL h84 h70
 generalize hcg : chr s i = c at *
 have HCG : Hid (chr s i = c) := hcg
 clear hcg
 have c0 := h2.c0
 have c2 : w2.cell? ⟨b, 2, none⟩ = some (.int .i64 (i : Int)) := h2.c2
 have f2 := h2.fz 2
 obtain ⟨hL, h84, h70⟩ := HCL.out
 have d1' : decide ((48 : Int) <= (c : Int)) = true := by simp; omega
 have d2' : decide ((c : Int) <= 57) = false := by simp; omega
 have d3' : ((c : Int) == 84) = false := by rw [beq_eq_false_iff_ne]; omega
 have d4' : ((c : Int) == 70) = false := by rw [beq_eq_false_iff_ne]; omega
 clear hL h84 h70
 go_wp2_with fail
 go_quiet (fail)
 obtain ⟨h3, k3⟩ := h2.next hi1 nq
 have F3 := F2.trans k3
 clear F2 k3
 have lz : ((w2.drewN nq).setCell ⟨b, 2, none⟩ (.int .i64 ((i : Int) + 1))).heap.size = w2.heap.size := by simp [World.setCell]
 have h4 := h3.alloc (nO c i)
 have F4 := F3.alloc h3.lt (nO c i)
 have B4 : Bt _ (t0 120 c 0 0 i 0) _ := heap_alloc_new ((w2.drewN nq).setCell ⟨b, 2, none⟩ (.int .i64 ((i : Int) + 1))) (nO c i)
 have r4 := h3.rowNew (nO c i)
 rw [lz] at B4 r4
 have t4 := h4.c1
 have hqb : w2.heap.size ≠ b := by have := h2.lt; omega
 have hwq : w.heap.size <= w2.heap.size := by have := F3.size; rw [lz] at this; exact this
 have hq4 : (((w2.drewN nq).setCell ⟨b, 2, none⟩ (.int .i64 ((i : Int) + 1))).alloc (nO c i)).heap.size = w2.heap.size + 1 := by simp [World.setCell]
 go_wp2_with fail
 refine (sgot b s 123 _ ts _ h4 (by omega) (by decide)).mono ?_
 rintro e w5 ⟨rfl, h5, k5⟩
 rw [show isS s 123 123 (.ok (i + 1)) = false from zcs H123.out]
 rw [show gotS s 123 (.ok (i + 1)) = .ok (i + 1) from if_neg H123.out] at h5
 have B5 := B4.fr k5 hqb r4
 have F5 := F4.trans k5
 obtain ⟨e0, e1, e2, e3, e4, e5, e6, e7, e8⟩ := B5.all
 clear B4 B5 r4 F4 h4 h3 F3 k5 c0 c2 f2 t4
 go_wp2_with fail
 refine (tadd b s _ ts _ 120 c 0 0 none none none 0 0 0 0 0 0 i 0 h5 hl1).mono ?_
 rintro e w6 ⟨rfl, h6, k6⟩
 clear e0 e1 e2 e3 e4 e5 e6 e7 e8
 go_wp2_with fail
 go_ret
 refine ⟨F5.trans k6, ts.length, [t0 120 c 0 0 i 0], rfl, ?_, by simp [xB], ?_⟩
 · rw [HR.out]; exact h6
 · intro x j e
   rw [HR.out] at e
   cases e
   exact ⟨by simp, by simp [gPos], sd_name ⟨none, 0, rfl, .inl rfl⟩⟩
theorem tat_given (b : Nat) (s : ByteArray) (n i : Nat) (ts : List Tt) (w : World) (h : Sr b s (.ok i) ts w) (hs : s.size <= 60000) (hl : ts.length + xB s (.ok i) <= 300000) (HB : Hid (zal (chr s i) = true)) (H40 : Hid (chr s i ≠ 40)) (HI : Hid (isLit (chr s i) = false)) (hL : 65 <= chr s i) (h84 : chr s i ≠ 84) (h70 : chr s i ≠ 70) (H123 : Hid (chr s (i + 1) = 123)) :
 Calls Tryz.prog 76 #[.pointer (some ⟨b, 0, none⟩)] w (XPost b s (pe s true (n + 1) 2 i .nil) (.ok i) ts w) := by
 have HR : Hid (pe s true (n + 1) 2 i .nil = match pg s (s.size + 1) (i + 2) [] with
  | .error p => .error p
  | .ok (g, j) => .ok (nameX (chr s i) i g, j)) := by unfold Hid; rw [pe_name HB.out HI.out H40.out, if_pos H123.out]; try rfl
 have hi2 : i + 1 < s.size := zaf (by rw [H123.out]; decide)
 obtain ⟨i0, hi0, hz0, hz1, hz2⟩ := info_parts znw
 have hi1 : i < s.size := zaf (zcd HB.out)
 have hl1 : ts.length <= 1000000 := by simp only [xB] at hl; omega
 have hlt := h.lt
 clear hl
 go_enter Tryz.func76, Tryz.ntmps76
 go_wp2_with fail
 refine (zds b s _ ts w h (by omega)).mono ?_
 rintro e w1 ⟨rfl, d1, rfl⟩
 rw [show zfn s (.ok i) = true from HB.out]
 go_wp2_with fail
 refine (sgot b s 40 _ ts _ (h.drewN d1) (by omega) (by decide)).mono ?_
 rintro e w2 ⟨rfl, h2, k2⟩
 have F2 : Fr b w w2 := k2.undrew
 rw [show isS s 40 40 (.ok i) = false from zcs H40.out]
 rw [show gotS s 40 (.ok i) = .ok i from if_neg H40.out] at h2
 clear k2
 have hcs : s[i].toNat = chr s i := zjy hi1
 have HCL : Hid (65 <= chr s i /\ chr s i ≠ 84 /\ chr s i ≠ 70) := ⟨hL, h84, h70⟩
 clear hL h84 h70
 generalize hcg : chr s i = c at *
 have HCG : Hid (chr s i = c) := hcg
 clear hcg
 have c0 := h2.c0
 have c2 : w2.cell? ⟨b, 2, none⟩ = some (.int .i64 (i : Int)) := h2.c2
 have f2 := h2.fz 2
 obtain ⟨hL, h84, h70⟩ := HCL.out
 have d1' : decide ((48 : Int) <= (c : Int)) = true := by simp; omega
 have d2' : decide ((c : Int) <= 57) = false := by simp; omega
 have d3' : ((c : Int) == 84) = false := by rw [beq_eq_false_iff_ne]; omega
 have d4' : ((c : Int) == 70) = false := by rw [beq_eq_false_iff_ne]; omega
 clear hL h84 h70
 go_wp2_with fail
 go_quiet (fail)
 obtain ⟨h3, k3⟩ := h2.next hi1 nq
 have F3 := F2.trans k3
 clear F2 k3
 have lz : ((w2.drewN nq).setCell ⟨b, 2, none⟩ (.int .i64 ((i : Int) + 1))).heap.size = w2.heap.size := by simp [World.setCell]
 have h4 := h3.alloc (nO c i)
 have F4 := F3.alloc h3.lt (nO c i)
 have B4 : Bt _ (t0 120 c 0 0 i 0) _ := heap_alloc_new ((w2.drewN nq).setCell ⟨b, 2, none⟩ (.int .i64 ((i : Int) + 1))) (nO c i)
 have r4 := h3.rowNew (nO c i)
 rw [lz] at B4 r4
 have t4 := h4.c1
 have hqb : w2.heap.size ≠ b := by have := h2.lt; omega
 have hwq : w.heap.size <= w2.heap.size := by have := F3.size; rw [lz] at this; exact this
 have hq4 : (((w2.drewN nq).setCell ⟨b, 2, none⟩ (.int .i64 ((i : Int) + 1))).alloc (nO c i)).heap.size = w2.heap.size + 1 := by simp [World.setCell]
 go_wp2_with fail
 refine (sgot b s 123 _ ts _ h4 (by omega) (by decide)).mono ?_
 rintro e w5 ⟨rfl, h5, k5⟩
 rw [show isS s 123 123 (.ok (i + 1)) = true from inS.2 H123.out]
 rw [show gotS s 123 (.ok (i + 1)) = .ok (i + 2) from if_pos H123.out] at h5
 have B5 := B4.fr k5 hqb r4
 have r5 := k5.rowNe' r4 (by rw [hq4]; omega)
 have F5 := F4.trans k5
 clear B4 r4 F4 h4 h3 F3 k5 c0 c2 f2 t4 hq4 lz d1' d2' d3' d4' hcs
 obtain ⟨q, hq⟩ : ∃ q, q = w2.heap.size := ⟨_, rfl⟩
 rw [<- hq] at B5 r5 hqb hwq ⊢
 clear hq h2
 have KC : Hid (Calls Tryz.prog 43 #[.pointer (some ⟨b, 0, none⟩)] w5.drew fun e w' => ∃ g cap u, e = .returned (.agg #[.slice (some ⟨g, 0, none⟩) (sz u) cap]) /\ Rg g u w' /\ sz u <= s.size + 1 /\ kindT s (.ok (i + 2)) u /\ Sr b s (kindS s (.ok (i + 2))) ts w' /\ Fr b w5.drew w') := skind b s _ ts w5.drew h5.drew hs
 have c4 : w5.cell? ⟨q, 4, none⟩ = some (.slice none 0 0) := B5.c 4
 have f4 := B5.fz 4
 have lq := B5.lt
 clear h5
 go_wp2_with fail
 go_region_law
  (first
   | (go_simp; go_at_call 43; refine KC.out.mono ?_; rintro e w6 ⟨g6, cap6, u6, rfl, R6, z6, hk6, h6, k6⟩; (have L6 : LT b q s c i ts w (kindS s (.ok (i + 2))) [] (none, 0, 0) w6 := ⟨h6, Bt.fr (w := w5.drew) B5 k6 hqb r5, k6.rowNe' (w := w5.drew) r5 lq, (F5.drewN 1).trans k6, Gr.nil _ _⟩); (have d6 : w6.cell? ⟨q, 4, none⟩ = some (.slice none 0 0) := L6.bt.c 4); (have HN := zmv w6 g6 (sz u6) cap6); (have s6 : w.heap.size <= w6.heap.size := L6.fr.size); (have l6 : q < w6.heap.size := L6.bt.lt); (try dsimp only))
   | ((refine step_append_lies _ (by rfl) _ _ _ (by rfl) w.heap.size 33 i0 _ 1 24 Tryz.underlying65 hi0 hz0 hz1 hz2 rfl (by omega) (.slice none 0 0) 0 [] (by rfl) (World.ownsRow_nil _ _ _ _) ⟨w6.heap.size, 0, none⟩ 1 1 [.slice (some ⟨g6, 0, none⟩) (sz u6) cap6] (by rfl) (by rfl) HN (by simp [Value.oneCell']) (by omega) (by unfold maxLen; omega) (by omega) (by simp; omega) (w6.heap.size + 1) (by simp) ?_; intro gg cap7 w7 hown7 hgrow7 hat7 hlt7; have b7 := L6.bt.grown ((World.grownBy_alloc w6 _ none).trans hgrow7) (by simp); have d7 : w7.cell? ⟨q, 4, none⟩ = some (.slice none 0 0) := b7.c 4; have e7 := b7.fz 4)))
 all_goals
  have L8 := L6.more R6 hqb hwq hown7 hgrow7
  have HG8 : Hid (GS s (i + 2) (kindS s (.ok (i + 2))) [u6]) := GS.start hi2 hk6
  clear L6 R6 hown7 hgrow7 hat7 hlt7 b7 d7 e7 d6 HN B5 r5 F5 KC c4 f4 lq s6 l6 hk6 h6 k6
  go_wp2_with fail
  have HL8 : Hid (∃ hs G, LT b q s c i ts w (kindS s (.ok (i + 2))) hs G (w7.setCell ⟨q, 4, none⟩ (.slice (some ⟨gg, 0, none⟩) 1 cap7)) /\ GS s (i + 2) (kindS s (.ok (i + 2))) (hs.map (·.1))) := ⟨_, _, L8, HG8.out⟩
  clear L8 HG8
  generalize w7.setCell ⟨q, 4, none⟩ (.slice (some ⟨gg, 0, none⟩) 1 cap7) = w8 at *
  go_loopw [82] (fun _ wr => ∃ σ, Hid (∃ hs G, LT b q s c i ts w σ hs G wr /\ GS s (i + 2) σ (hs.map (·.1)))) (fun _ wr => tmeas b s wr)
  case atStart => exact ⟨_, HL8⟩
  case round =>
   clear HL8
   obtain ⟨σ, HL9⟩ := hrel
   obtain ⟨hs', G, L, GG⟩ := HL9.out
   have HGG : Hid (GS s (i + 2) σ (hs'.map (·.1))) := GG
   clear GG HL9
   obtain ⟨ga, gn, gc⟩ := G
   cases hm : isS s 44 44 σ
   · obtain ⟨st1, st2⟩ := HGG.out.stop hm
     have HM : Hid (isS s 44 44 σ = false) := hm
     have HS1 : Hid (mustS s 125 σ = givS (pg s (s.size + 1) (i + 2) [])) := st1
     have HS2 : Hid (∀ g k, pg s (s.size + 1) (i + 2) [] = .ok (g, k) -> g = hs'.map (·.1)) := st2
     clear hm st1 st2
     have h9 := L.sr
     have B9 := L.bt
     have r9 := L.rn
     have F9 := L.fr
     have G9 := L.gr
     clear L
     go_wp2_with fail
     refine (sgot b s 44 σ ts wr h9 (by omega) (by decide)).mono ?_
     rintro e w10 ⟨rfl, h10, k10⟩
     rw [HM.out]
     rw [gotS_no HM.out] at h10
     have B10 := B9.fr k10 hqb r9
     have r10 := k10.rowNe' r9 B9.lt
     have F10 := F9.trans k10
     have G10 := G9.fr h9 k10
     clear h9 B9 r9 F9 G9 k10
     go_wp2_with fail
     refine (smust b s 125 σ ts w10 h10 (by omega) (by decide)).mono ?_
     rintro e w11 ⟨rfl, h11, k11⟩
     rw [HS1.out] at h11
     have B11 := B10.fr k11 hqb r10
     have F11 := F10.trans k11
     have G11 := G10.fr h10 k11
     obtain ⟨e0, e1, e2, e3, e4, e5, e6, e7, e8⟩ := B11.all
     clear h10 B10 r10 F10 G10 k11 B11
     go_wp2_with fail
     refine (tadd b s _ ts _ 120 c 0 0 ga none none gn gc 0 0 0 0 i 0 h11 hl1).mono ?_
     rintro e w12 ⟨rfl, h12, k12⟩
     clear e0 e1 e2 e3 e4 e5 e6 e7 e8
     have HG12 : Hid (Ls w12 (.slice ga gn gc) (hs'.map (·.1))) := (G11.fr h11 k12).ls
     have HF12 : Hid (Fr b w w12) := F11.trans k12
     have HR12 : Hid (Sr b s (givS (pg s (s.size + 1) (i + 2) [])) (ts ++ [⟨120, c, 0, 0, (ga, gn, gc), (none, 0, 0), (none, 0, 0), i, 0⟩]) w12) := h12
     clear h11 h12 k12 F11 G11
     go_wp2_with fail
     go_ret
     refine ⟨HF12.out, ts.length, [⟨120, c, 0, 0, (ga, gn, gc), (none, 0, 0), (none, 0, 0), i, 0⟩], rfl, ?_, by simp [xB], ?_⟩
     · rw [HR.out]
       have := HR12.out
       cases hp : pg s (s.size + 1) (i + 2) [] with
       | error p => rw [hp] at this; exact this
       | ok r => obtain ⟨g, k⟩ := r; rw [hp] at this; exact this
     · intro x j e
       rw [HR.out] at e
       cases hp : pg s (s.size + 1) (i + 2) [] with
       | error p => rw [hp] at e; cases e
       | ok r =>
        obtain ⟨g, k⟩ := r
        rw [hp] at e
        cases e
        have pl := znc s _ _ _ _ _ hp (by omega) (GOk.nil _)
        obtain rfl := HS2.out g _ hp
        exact ⟨by simp, by simp [gPos]; omega, sd_name HG12.out⟩
   · cases σ with
     | error p => cases hm
     | ok j =>
      have hj44 : chr s j = 44 := inS.1 hm
      have H44 : Hid (chr s j = 44) := hj44
      have HM : Hid (isS s 44 44 (.ok j) = true) := hm
      have hjs : j < s.size := zaf (by rw [hj44]; decide)
      have HLL : Hid (hs'.length <= s.size) := by
       obtain ⟨m, g1, g2, g3, _⟩ := HGG.out.2 j rfl
       unfold Hid
       simp at g2
       omega
      have HMS : Hid (tmeas b s wr = 1 + (s.size - j)) := zmb L.sr
      clear hm hj44
      go_wp2_with fail
      refine (sgot b s 44 _ ts wr L.sr (by omega) (by decide)).mono ?_
      rintro e w10 ⟨rfl, h10, k10⟩
      rw [HM.out]
      rw [show gotS s 44 (.ok j) = .ok (j + 1) from if_pos H44.out] at h10
      have B10 := L.bt.fr k10 hqb L.rn
      have r10 := k10.rowNe' L.rn L.bt.lt
      have F10 := L.fr.trans k10
      have G10 := L.gr.fr L.sr k10
      clear L k10
      have KC : Hid (Calls Tryz.prog 43 #[.pointer (some ⟨b, 0, none⟩)] w10.drew fun e w' => ∃ g cap u, e = .returned (.agg #[.slice (some ⟨g, 0, none⟩) (sz u) cap]) /\ Rg g u w' /\ sz u <= s.size + 1 /\ kindT s (.ok (j + 1)) u /\ Sr b s (kindS s (.ok (j + 1))) ts w' /\ Fr b w10.drew w') := skind b s _ ts w10.drew h10.drew hs
      have c4 : w10.cell? ⟨q, 4, none⟩ = some (.slice ga gn gc) := B10.c 4
      have f4 := B10.fz 4
      have lq := B10.lt
      have hle := HLL.out
      go_wp2_with fail
      go_region_law
       (first
        | (go_simp; go_at_call 43; refine KC.out.mono ?_; rintro e w11 ⟨g11, cap11, u11, rfl, R11, z11, hk11, h11, k11⟩; (have L11 : LT b q s c i ts w (kindS s (.ok (j + 1))) hs' (ga, gn, gc) w11 := ⟨h11, Bt.fr (w := w10.drew) B10 k11 hqb r10, k11.rowNe' (w := w10.drew) r10 lq, (F10.drewN 1).trans k11, Gr.fr (w := w10.drew) h10.drew k11 G10.drew⟩); (have d11 : w11.cell? ⟨q, 4, none⟩ = some (.slice ga gn gc) := L11.bt.c 4); (have HN := zmv w11 g11 (sz u11) cap11); (have s11 : w.heap.size <= w11.heap.size := L11.fr.size); (have l11 : q < w11.heap.size := L11.bt.lt); (have o11 : w11.ownsRow w.heap.size 33 1 (.slice ga gn gc) hs'.length (hs'.map gcell) := L11.gr.1); (try dsimp only))
        | ((refine step_append_lies _ (by rfl) _ _ _ (by rfl) w.heap.size 33 i0 _ 1 24 Tryz.underlying65 hi0 hz0 hz1 hz2 rfl (by omega) (.slice ga gn gc) hs'.length (hs'.map gcell) (by rfl) (o11.alloc _) ⟨w11.heap.size, 0, none⟩ 1 1 [.slice (some ⟨g11, 0, none⟩) (sz u11) cap11] (by rfl) (by rfl) HN (by simp [Value.oneCell']) (by omega) (by unfold maxLen; omega) (by omega) (by simp; omega) (w11.heap.size + 1) (by simp) ?_; intro gg2 cap12 w12 hown12 hgrow12 hat12 hlt12; have b12 := L11.bt.grown ((World.grownBy_alloc w11 _ _).trans hgrow12) (L11.gr.ne L11.bt); have d12 : w12.cell? ⟨q, 4, none⟩ = some (.slice ga gn gc) := b12.c 4; have e12 := b12.fz 4)))
      all_goals
       have L13 := L11.more R11 hqb hwq hown12 hgrow12
       have HG13 : Hid (GS s (i + 2) (kindS s (.ok (j + 1))) ((hs' ++ [(u11, g11, cap11)]).map (·.1))) := by
        have := HGG.out.step H44.out hk11
        unfold Hid
        simpa using this
       have HL13 : Hid _ := L13
       have HMS2 : Hid _ := tmeas_lt L13.sr (j := j) (fun k e => by obtain ⟨q1, e1, e2, _⟩ := zoy (σ := .ok (j + 1)) hjs e; cases e1; omega) hjs
       clear L13 L11 R11 hown12 hgrow12 hat12 hlt12 b12 d12 e12 d11 HN B10 r10 F10 G10 KC c4 f4 lq s11 l11 hk11 h11 k11 h10 o11
       go_wp2_with fail
       go_roundw
       case rel => exact ⟨_, _, _, HL13.out, HG13.out⟩
       case measure => rw [HMS.out]; exact HMS2.out
theorem tatom_any (b : Nat) (s : ByteArray) (n : Nat) (ih : TExpr b s n) (hs : s.size <= 60000) : TAtom b s (n + 1) := by
 intro i ts w h hn hl
 cases hb : zal (chr s i)
 · exact tat_none b s n i ts w h hs hl hb
 · by_cases h40 : chr s i = 40
   · exact tat_par b s n i ts w h hs hl ih hn hb h40
   · by_cases h1 : 48 <= chr s i /\ chr s i <= 57
     · exact tat_digit b s n i ts w h hs hl hb h40 h1
     by_cases h84 : chr s i = 84
     · exact tat_84 b s n i ts w h hs hl hb h40 h84
     by_cases h70 : chr s i = 70
     · exact tat_70 b s n i ts w h hs hl hb h40 h70
     have h65 : 65 <= chr s i := by
      have : zal (chr s i) = true := hb
      simp [zal, isLet, isCon, isLit] at this
      omega
     have hlit : isLit (chr s i) = false := by simp [isLit]; omega
     by_cases h123 : chr s (i + 1) = 123
     · exact tat_given b s n i ts w h hs hl hb h40 hlit h65 h84 h70 h123
     · exact tat_bare b s n i ts w h hs hl hb h40 hlit h65 h84 h70 h123
def caT (s : ByteArray) (n i : Nat) : EOut := match pe s true n 2 i .nil with
 | .error p => .error p
 | .ok (a, j) => pe s true n 1 j a
theorem pe_ca {s : ByteArray} {n i : Nat} (h1 : chr s i ≠ 92) (h2 : chr s i ≠ 64) : pe s true (n + 1) 0 i .nil = caT s n i := by
 rw [pe, if_neg h1, if_neg h2]; rfl
theorem pe_more_no {s : ByteArray} {m j : Nat} {x : Ex} (h : zal (chr s j) = false) : pe s true (m + 1) 1 j x = .ok (x, j) := by
 rw [pe, if_neg (by rw [h]; decide)]
theorem zpu {s : ByteArray} {m j : Nat} {x : Ex} (h : zal (chr s j) = true) : pe s true (m + 1) 1 j x = match pe s true m 2 j .nil with
 | .error p => .error p
 | .ok (b, q) => pe s true m 1 q (eC j x b) := by
 rw [pe, if_pos h]; rfl
theorem Sd.drewN {w : World} {us : List Tt} {x : Ex} {k : Nat} (h : Sd w us x k) (n : Nat) : Sd (w.drewN n) us x k := by
 refine Sd.kept (w := w) (w' := w.drewN n) (fun V l (h : Is w V l) => h) (fun V l (h : Ls w V l) => ?_) h
 obtain ⟨a, cap, e, h⟩ := h
 refine ⟨a, cap, e, h.imp id ?_⟩
 rintro ⟨g, e1, e2, h⟩
 refine ⟨g, e1, e2, fun k t hk => ?_⟩
 obtain ⟨h1, c1, e3, e4⟩ := h k t hk
 exact ⟨h1, c1, e3, ⟨e4.ok, e4.lt, e4.cell⟩⟩
theorem znu (b : Nat) (s : ByteArray) (n p : Nat) (ts : List Tt) (w : World) (h : Sr b s (.error p) ts w) (hl : ts.length <= 1000000) :
 Calls Tryz.prog 46 #[.pointer (some ⟨b, 0, none⟩)] w (XPost b s (exprO s n (.error p)) (.error p) ts w) := by
 have c2 := h.c2
 have c3 : w.cell? ⟨b, 3, none⟩ = some (.int .i64 (p : Int)) := h.c3
 go_enter Tryz.func46, Tryz.ntmps46
 go_wp2_with fail
 refine (tadd b s _ ts w 48 48 0 0 none none none 0 0 0 0 0 0 0 0 h hl).mono ?_
 rintro e w' ⟨rfl, h1, k1⟩
 go_wp2_with fail
 go_ret
 exact ⟨k1, ts.length, [t0 48 48 0 0 0 0], rfl, h1, by simp [xB], fun x j e => by cases e⟩
theorem XPost.hand {b : Nat} {s : ByteArray} {r : EOut} {σ : Sg} {ts : List Tt} {w w1 w2 : World} {e : Ending} (hF : Fr b w w1) (h : XPost b s r σ ts w1 e w2) : XPost b s r σ ts w e w2 := ⟨hF.trans h.1, h.2⟩
theorem XPost.one {b : Nat} {s : ByteArray} {r : EOut} {σ : Sg} {ts : List Tt} {w w2 : World} {e : Ending} (h : XPost b s r σ ts w e w2) : ∃ k : Nat, e = .returned (.int .i64 (k : Int)) := by
 obtain ⟨_, k, us, he, _⟩ := h
 exact ⟨k, he⟩
theorem texpr_fn (b : Nat) (s : ByteArray) (n i : Nat) (ts : List Tt) (w : World) (h : Sr b s (.ok i) ts w) (hs : s.size <= 60000) (ih : TExpr b s n) (hn : 3 * (s.size - i) + 2 <= n + 1) (H92 : Hid (chr s i = 92)) (hl : ts.length + xB s (.ok i) <= 300000) :
 Calls Tryz.prog 46 #[.pointer (some ⟨b, 0, none⟩)] w (XPost b s (pe s true (n + 1) 0 i .nil) (.ok i) ts w) := by
 have c2 : w.cell? ⟨b, 2, none⟩ = some (.int .i64 (i : Int)) := h.c2
 have c3 : w.cell? ⟨b, 3, none⟩ = some (.int .i64 (-1)) := h.c3
 have hi1 : i < s.size := zaf (by rw [H92.out]; decide)
 have FN : Hid (∀ X, Sr b s (.ok (i + 1)) ts X -> Calls Tryz.prog 74 #[.pointer (some ⟨b, 0, none⟩), .int .i64 (i : Int)] X (XPost b s (pe s true (n + 1) 0 i .nil) (.ok i) ts X)) := fun X hX => tfn_any b s n i ts X hX hi1 hs ih hn H92.out hl
 clear ih hn hl
 go_enter Tryz.func46, Tryz.ntmps46
 go_wp2_with fail
 refine (sgot b s 92 _ ts w h (by omega) (by decide)).mono ?_
 rintro e w1 ⟨rfl, h1, k1⟩
 rw [show isS s 92 92 (.ok i) = true from inS.2 H92.out]
 rw [show gotS s 92 (.ok i) = .ok (i + 1) from if_pos H92.out] at h1
 clear c2 c3
 go_wp2_with fail
 refine (FN.out w1 h1).mono ?_
 intro e w2 hp
 have HP : Hid (XPost b s (pe s true (n + 1) 0 i .nil) (.ok i) ts w e w2) := hp.hand k1
 obtain ⟨k, rfl⟩ := hp.one
 clear hp
 go_wp2_with fail
 go_ret
 exact HP.out
theorem texpr_wi (b : Nat) (s : ByteArray) (n i : Nat) (ts : List Tt) (w : World) (h : Sr b s (.ok i) ts w) (hs : s.size <= 60000) (ih : TExpr b s n) (hn : 3 * (s.size - i) + 2 <= n + 1) (H64 : Hid (chr s i = 64)) (hl : ts.length + xB s (.ok i) <= 300000) :
 Calls Tryz.prog 46 #[.pointer (some ⟨b, 0, none⟩)] w (XPost b s (pe s true (n + 1) 0 i .nil) (.ok i) ts w) := by
 have c2 : w.cell? ⟨b, 2, none⟩ = some (.int .i64 (i : Int)) := h.c2
 have c3 : w.cell? ⟨b, 3, none⟩ = some (.int .i64 (-1)) := h.c3
 have hi1 : i < s.size := zaf (by rw [H64.out]; decide)
 have H92 : Hid (chr s i ≠ 92) := by unfold Hid; rw [H64.out]; decide
 have FN : Hid (∀ X, Sr b s (.ok (i + 1)) ts X -> Calls Tryz.prog 75 #[.pointer (some ⟨b, 0, none⟩), .int .i64 (i : Int)] X (XPost b s (pe s true (n + 1) 0 i .nil) (.ok i) ts X)) := fun X hX => twi_any b s n i ts X hX hi1 hs ih hn H64.out hl
 clear ih hn hl
 go_enter Tryz.func46, Tryz.ntmps46
 go_wp2_with fail
 refine (sgot b s 92 _ ts w h (by omega) (by decide)).mono ?_
 rintro e w0 ⟨rfl, h0, k0⟩
 rw [show isS s 92 92 (.ok i) = false from zcs H92.out]
 rw [show gotS s 92 (.ok i) = .ok i from if_neg H92.out] at h0
 go_wp2_with fail
 refine (sgot b s 64 _ ts w0 h0 (by omega) (by decide)).mono ?_
 rintro e w1 ⟨rfl, h1, k1⟩
 rw [show isS s 64 64 (.ok i) = true from inS.2 H64.out]
 rw [show gotS s 64 (.ok i) = .ok (i + 1) from if_pos H64.out] at h1
 clear c2 c3
 go_wp2_with fail
 refine (FN.out w1 h1).mono ?_
 intro e w2 hp
 have HP : Hid (XPost b s (pe s true (n + 1) 0 i .nil) (.ok i) ts w e w2) := hp.hand (k0.trans k1)
 obtain ⟨k, rfl⟩ := hp.one
 clear hp
 go_wp2_with fail
 go_ret
 exact HP.out
def TGood (b : Nat) (s : ByteArray) (n i : Nat) (ts : List Tt) (w : World) (kN j : Nat) (wr : World) : Prop :=
 ∃ m x us, m <= n /\ j <= s.size /\ i < j /\ 3 * (s.size - j) + 2 <= m /\ Sr b s (.ok j) (ts ++ us) wr /\ Fr b w wr /\ kN + 1 = (ts ++ us).length /\ us.length + 1 <= 2 * (j - i) /\ Sd wr (ts ++ us) x kN /\ pe s true m 1 j x = caT s n i
def TBad (b : Nat) (s : ByteArray) (n i : Nat) (ts : List Tt) (w : World) (p : Nat) (wr : World) : Prop :=
 ∃ us, Sr b s (.error p) (ts ++ us) wr /\ Fr b w wr /\ us.length <= 2 * (s.size - i) + 2 /\ caT s n i = .error p
theorem tapp1 (ts us vs : List Tt) (z : Tt) : ts ++ (us ++ vs ++ [z]) = ts ++ us ++ vs ++ [z] := by simp
theorem tcalls_any (b : Nat) (s : ByteArray) (n i : Nat) (ts : List Tt) (w : World) (IH : Hid (∀ m, m <= n -> TAtom b s m)) (h : Sr b s (.ok i) ts w) (hs : s.size <= 60000) (hn : 3 * (s.size - i) + 1 <= n) (hl : ts.length + xB s (.ok i) <= 300000)
 (H92 : Hid (chr s i ≠ 92)) (H64 : Hid (chr s i ≠ 64)) :
 Calls Tryz.prog 46 #[.pointer (some ⟨b, 0, none⟩)] w (XPost b s (caT s n i) (.ok i) ts w) := by
 have hi : i <= s.size := h.1
 have c2 : w.cell? ⟨b, 2, none⟩ = some (.int .i64 (i : Int)) := h.c2
 have c3 : w.cell? ⟨b, 3, none⟩ = some (.int .i64 (-1)) := h.c3
 simp only [xB] at hl
 go_enter Tryz.func46, Tryz.ntmps46
 go_wp2_with fail
 refine (sgot b s 92 _ ts w h (by omega) (by decide)).mono ?_
 rintro e w0 ⟨rfl, h0, k0⟩
 rw [show isS s 92 92 (.ok i) = false from zcs H92.out]
 rw [show gotS s 92 (.ok i) = .ok i from if_neg H92.out] at h0
 go_wp2_with fail
 refine (sgot b s 64 _ ts w0 h0 (by omega) (by decide)).mono ?_
 rintro e w1 ⟨rfl, h1, k1⟩
 rw [show isS s 64 64 (.ok i) = false from zcs H64.out]
 rw [show gotS s 64 (.ok i) = .ok i from if_neg H64.out] at h1
 go_wp2_with fail
 refine (IH.out n (Nat.le_refl n) i ts _ h1 hn hl).mono ?_
 rintro e w3 ⟨k3, kN, us, rfl, h3, hu, hx⟩
 have F3 : Fr b w w3 := (k0.trans k1).trans k3
 clear k3 k0 k1 h0 h1
 have HI : ∃ more : Bool, Hid ((∃ j, TGood b s n i ts w kN j w3 /\ more = zal (chr s j)) \/ ((∃ p, TBad b s n i ts w p w3) /\ more = false)) := by
  cases hq : pe s true n 2 i .nil with
  | error p =>
   rw [hq] at h3
   exact ⟨false, .inr ⟨⟨p, us, h3, F3, hu, by unfold caT; rw [hq]⟩, rfl⟩⟩
  | ok r =>
   obtain ⟨a, j⟩ := r
   rw [hq] at h3
   obtain ⟨x1, x2, x3⟩ := hx a j hq
   have pl := zao s true _ _ _ _ _ _ hq hi (by omega)
   simp only [gPos] at x2
   exact ⟨zal (chr s j), .inl ⟨j, ⟨n, a, us, Nat.le_refl n, pl.2.1, by omega, by omega, h3, F3, x1, x2, x3, by unfold caT; rw [hq]⟩, rfl⟩⟩
 obtain ⟨more, HI⟩ := HI
 clear hx hu F3 h3
 go_wp2_with fail
 have HS : Calls Tryz.prog 77 #[.pointer (some ⟨b, 0, none⟩)] w3 fun e w' => e = .returned (.bool more) /\ ∃ d, w' = w3.drewN d := by
  rcases HI.out with ⟨j, hg, rfl⟩ | ⟨⟨p, hb⟩, rfl⟩
  · obtain ⟨m, x, us, _, hj, _, _, hst, _⟩ := hg
    exact zds b s (.ok j) _ w3 hst (by omega)
  · obtain ⟨us, hst, _⟩ := hb
    exact zds b s (.error p) _ w3 hst (by omega)
 refine HS.mono ?_
 rintro e w4 ⟨rfl, d4, rfl⟩
 clear HS
 have HJ : Hid ((∃ j, TGood b s n i ts w kN j (w3.drewN d4) /\ more = zal (chr s j)) \/ ((∃ p, TBad b s n i ts w p (w3.drewN d4)) /\ more = false)) := by
  rcases HI.out with ⟨j, ⟨m, x, us, a1, a2, a3, a4, a5, a6, a7, a8, a9, a10⟩, e⟩ | ⟨⟨p, us, b1, b2, b3⟩, e⟩
  · exact .inl ⟨j, ⟨m, x, us, a1, a2, a3, a4, a5.drewN d4, a6.drewN d4, a7, a8, a9.drewN d4, a10⟩, e⟩
  · exact .inr ⟨⟨p, us, b1.drewN d4, b2.drewN d4, b3⟩, e⟩
 clear HI
 go_wp2_with fail
 go_loopw [4, 5] (fun kv mv wr => ∃ (kN : Nat) (more : Bool), kv = .int .i64 (kN : Int) /\ mv = .bool more /\ Hid ((∃ j, TGood b s n i ts w kN j wr /\ more = zal (chr s j)) \/ ((∃ p, TBad b s n i ts w p wr) /\ more = false))) (fun _ _ wr => tmeas b s wr)
 case atStart => exact ⟨kN, more, rfl, rfl, HJ⟩
 case round =>
  clear HJ c2 c3
  obtain ⟨kN, more, rfl, rfl, HI⟩ := hrel
  cases more with
  | false =>
   have HP : Hid (XPost b s (caT s n i) (.ok i) ts w (.returned (.int .i64 (kN : Int))) wr) := by
    rcases HI.out with ⟨j, ⟨m, x, us, a1, a2, a3, a4, a5, a6, a7, a8, a9, a10⟩, e⟩ | ⟨⟨p, us, b1, b2, b3, b4⟩, e⟩
    · obtain ⟨m, rfl⟩ : ∃ m', m = m' + 1 := ⟨m - 1, by omega⟩
      rw [pe_more_no e.symm] at a10
      refine ⟨a6, kN, us, rfl, by rw [<- a10]; exact a5, by simp only [xB]; omega, fun y q e2 => ?_⟩
      rw [<- a10] at e2
      cases e2
      exact ⟨a7, a8, a9⟩
    · refine ⟨b2, kN, us, rfl, by rw [b4]; exact b1, b3, fun y q e2 => by rw [b4] at e2; cases e2⟩
   clear HI
   go_wp2_with fail
   go_ret
   exact HP.out
  | true =>
   rcases HI.out with ⟨j, ⟨m, x, us, a1, a2, a3, a4, a5, a6, a7, a8, a9, a10⟩, e⟩ | ⟨_, e⟩
   · obtain ⟨m, rfl⟩ : ∃ m', m = m' + 1 := ⟨m - 1, by omega⟩
     rw [zpu e.symm] at a10
     have HA : Hid (_ = caT s n i) := a10
     have HE : Hid (true = zal (chr s j)) := e
     have HL : Hid (us.length + 1 <= 2 * (j - i)) := a8
     have HK : Hid (kN + 1 = (ts ++ us).length) := a7
     have HSd : Hid (Sd wr (ts ++ us) x kN) := a9
     clear a10 e HI a9 a7
     have hjs : j < s.size := zaf (zcd HE.out.symm)
     have c2 : wr.cell? ⟨b, 2, none⟩ = some (.int .i64 (j : Int)) := a5.c2
     have hlen : (ts ++ us).length + xB s (.ok j) <= 300000 := by simp only [xB, List.length_append]; have := HL.out; omega
     have HMS : Hid (tmeas b s wr = 1 + (s.size - j)) := zmb a5
     go_wp2_with fail
     refine (IH.out m (by omega) j (ts ++ us) _ a5 (by omega) hlen).mono ?_
     rintro e w5 ⟨k5, k', us', rfl, h5, hu', hx'⟩
     have F5 := a6.trans k5
     have HSd5 : Hid (Sd w5 (ts ++ us ++ us') x kN) := (HSd.out.fr a5 k5).more us'
     have HX : Hid _ := hx'
     clear a5 a6 k5 hx' HSd
     have hl5 : (ts ++ us ++ us').length <= 1000000 := by simp only [xB] at hu' hlen; simp at hlen ⊢; omega
     go_wp2_with fail
     refine (tadd b s _ (ts ++ us ++ us') _ 99 0 kN k' none none none 0 0 0 0 0 0 i j h5 hl5).mono ?_
     rintro e w6 ⟨rfl, h6, k6⟩
     have F6 := F5.trans k6
     have HS6 : Hid (∀ us y k, Sd w5 us y k -> Sd w6 us y k) := fun us y k S => S.fr h5 k6
     generalize hm : (ts ++ us ++ us').length = kM at *
     have HM : Hid ((ts ++ us ++ us').length = kM) := hm
     clear hm h5 k6 F5 c2
     go_wp2_with fail
     refine (zds b s _ _ w6 h6 (by omega)).mono ?_
     rintro e w7 ⟨rfl, d7, rfl⟩
     generalize hbq : zfn s (posS (pe s true m 2 j .nil)) = bq at *
     have HBQ : Hid (zfn s (posS (pe s true m 2 j .nil)) = bq) := hbq
     have h7 := h6.drewN d7
     have F7 := F6.drewN d7
     clear hbq h6 F6
     have HH7 : Hid _ := h7
     have HF7 : Hid (Fr b w (w6.drewN d7)) := F7
     clear h7 F7
     go_wp2_with fail
     go_roundw
     case rel =>
      refine ⟨kM, bq, rfl, rfl, ?_⟩
      cases hq : pe s true m 2 j .nil with
      | error p =>
       have hb7 := HBQ.out
       have h7 := HH7.out
       have ha := HA.out
       rw [hq] at hb7 h7 ha
       refine .inr ⟨⟨p, us ++ us' ++ [⟨99, 0, kN, k', (none, 0, 0), (none, 0, 0), (none, 0, 0), i, j⟩], by rw [tapp1]; exact h7, HF7.out, ?_, ha.symm⟩, hb7.symm⟩
       have := HL.out
       simp only [xB] at hu'
       simp
       omega
      | ok r =>
       obtain ⟨y, q⟩ := r
       have hb7 := HBQ.out
       have h7 := HH7.out
       have ha := HA.out
       rw [hq] at hb7 h7 ha
       obtain ⟨x1, x2, x3⟩ := HX.out y q hq
       have pl := zao s true _ _ _ _ _ _ hq a2 (by omega)
       have hM := HM.out
       have hK := HK.out
       have := HL.out
       simp only [gPos] at x2
       refine .inl ⟨q, ⟨m, eC j x y, us ++ us' ++ [⟨99, 0, kN, k', (none, 0, 0), (none, 0, 0), (none, 0, 0), i, j⟩], by omega, pl.2.1, by omega, by omega, by rw [tapp1]; exact h7, HF7.out, by simp at hM ⊢; omega, by simp; omega, ?_, ha⟩, hb7.symm⟩
       rw [tapp1, <- hM]
       exact ⟨⟨99, 0, kN, k', (none, 0, 0), (none, 0, 0), (none, 0, 0), i, j⟩, by simp, .inr (.inr (.inr (.inr ⟨rfl, rfl, ⟨rfl, rfl⟩, (by show kN < _; simp at hK ⊢; omega), (by show k' < _; rw [hM]; omega), ((HS6.out _ _ _ HSd5.out).drewN d7).more _, ((HS6.out _ _ _ x3).drewN d7).more _⟩)))⟩
     case measure =>
      rw [HMS.out]
      refine tmeas_lt HH7.out (fun q e => ?_) hjs
      cases hq : pe s true m 2 j .nil with
      | error p => rw [hq] at e; cases e
      | ok r =>
       obtain ⟨y, q'⟩ := r
       rw [hq] at e
       cases e
       have pl := zao s true _ _ _ _ _ _ hq a2 (by omega)
       omega
   · cases e
theorem znj (b : Nat) (s : ByteArray) (hs : s.size <= 60000) : ∀ n m, m <= n -> TExpr b s m /\ TAtom b s m := by
 have zero : TExpr b s 0 /\ TAtom b s 0 := by
  refine ⟨fun σ ts w h h0 hl => ?_, fun i ts w _ h0 => absurd h0 (by omega)⟩
  cases σ with
  | error p => exact znu b s 0 p ts w h (by simp only [xB] at hl; omega)
  | ok i => exact absurd (h0 i rfl) (by omega)
 intro n
 induction n with
 | zero => intro m hm; obtain rfl : m = 0 := by omega
           exact zero
 | succ n ih =>
  intro m hm
  rcases Nat.lt_or_ge m (n + 1) with h | h
  · exact ih m (by omega)
  · obtain rfl : m = n + 1 := by omega
    refine ⟨fun σ ts w h h0 hl => ?_, tatom_any b s n (ih n (Nat.le_refl n)).1 hs⟩
    cases σ with
    | error p => exact znu b s (n + 1) p ts w h (by simp only [xB] at hl; omega)
    | ok i =>
     have hf := h0 i rfl
     show Calls _ _ _ _ (XPost b s (pe s true (n + 1) 0 i .nil) (.ok i) ts w)
     by_cases h92 : chr s i = 92
     · exact texpr_fn b s n i ts w h hs (ih n (Nat.le_refl n)).1 hf h92 hl
     by_cases h64 : chr s i = 64
     · exact texpr_wi b s n i ts w h hs (ih n (Nat.le_refl n)).1 hf h64 hl
     rw [pe_ca h92 h64]
     exact tcalls_any b s n i ts w (fun m hm => (ih m hm).2) h hs (by omega) hl h92 h64
end Go.Proofs.YtceadeaodbadlaaGreatDoor
