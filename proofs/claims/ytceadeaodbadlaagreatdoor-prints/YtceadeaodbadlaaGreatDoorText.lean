import Derived.Test.YtceadeaodbadlaaGreatDoorWriter
import Derived.MapKept
import Derived.Shelf.Abstract
set_option linter.unusedVariables false
set_option linter.unusedSimpArgs false
namespace Go.Proofs.YtceadeaodbadlaaGreatDoor
open Go.RowKit

/-- A function of the program's own is entered. -/
abbrev EnteredW (K : Nat) : Prop := ∀ args w, (callFunc K args).run Tryz.prog w = .ok (.enter K args) w

/-- A new kind.Writer in block wb: it has written nothing, and its maps, in k1 and k2, are empty. -/
structure Wn (m : Option Nat) (B wb k1 k2 : Nat) (w : World) : Prop where
  wi : Wi m B wb (.map (some k1)) (.map (some k2)) [] w
  n1 : w.heap[k1]? = some (.map #[] 0)
  n2 : w.heap[k2]? = some (.map #[] 0)
  b1 : B ≤ k1
  b2 : B ≤ k2
  ne : k1 ≠ k2

abbrev wobj (m : Option Nat) (k1 k2 : Nat) : Obj := .cells #[wtp m, .int .i64 0, .map (some k1), .map (some k2)] 170
abbrev wnew (m : Option Nat) (w : World) : World := ((w.alloc (.map #[] 0)).alloc (.map #[] 0)).alloc (wobj m w.heap.size (w.heap.size + 1))

theorem Wn.new (m : Option Nat) (B : Nat) (w : World) (hB : B ≤ w.heap.size) (hb : ∀ b, m = some b → Bu B b [] w) : Wn m B (w.heap.size + 2) w.heap.size (w.heap.size + 1) (wnew m w) := by
  have h0 : ((w.alloc (.map #[] 0)).alloc (.map #[] 0)).heap.size = w.heap.size + 2 := by simp
  refine ⟨⟨by omega, ?_, fun b e => ⟨((((hb b e).alloc _).alloc _).alloc _), ?_⟩⟩, ?_, ?_, hB, by omega, by omega⟩
  · have := heap_alloc_new ((w.alloc (.map #[] 0)).alloc (.map #[] 0)) (wobj m w.heap.size (w.heap.size + 1))
    rw [h0] at this
    simpa using this
  · have := (hb b e).le.2
    omega
  · rw [Lib.alloc_old _ _ _ (by simp; omega), Lib.alloc_old _ _ _ (by simp)]
    exact heap_alloc_new w _
  · rw [Lib.alloc_old _ _ _ (by simp)]
    have := heap_alloc_new (w.alloc (.map #[] 0)) (.map #[] 0)
    simpa using this

set_option maxHeartbeats 1000000 in
set_option maxRecDepth 100000 in
theorem newWriter_any (m : Option Nat) (w : World) :
    Calls Tryz.prog 111 #[wtp m] w fun e w' => e = .returned (.pointer (some ⟨w.heap.size + 2, 0, none⟩)) ∧ w' = wnew m w := by
  have hmm := @run_makeMap Tryz.prog
  go_enter Tryz.func111, Tryz.ntmps111
  go_wp2_with fail
  go_ret
  exact ⟨rfl, rfl⟩

set_option maxHeartbeats 2000000 in
set_option maxRecDepth 100000 in
/-- Text answers what the function writes. -/
theorem text_any' (K : Nat) (fs cs : Array Value) (eK : EnteredW K) (f : List UInt8) (w : World) (hf : f.length ≤ 140737488355328)
    (hW : ∀ (m : Option Nat) (B wb k1 k2 : Nat) (w1 : World), Below w.heap.size w w1 → w.heap.size ≤ B → B ≤ w1.heap.size → Wn m B wb k1 k2 w1 →
      Calls Tryz.prog K (fs.push (.pointer (some ⟨wb, 0, none⟩)) ++ cs) w1 fun e w2 => e = .returned (.tuple #[]) ∧ (∃ nm sp, Wi m B wb nm sp f w2) ∧ Below B w1 w2) :
    Calls Tryz.prog 80 #[.func (.func K) fs cs] w fun e w' => e = .returned (.string ⟨f.toArray⟩) ∧ Below w.heap.size w w' := by
  have HW : Hid (∀ (m : Option Nat) (B wb k1 k2 : Nat) (w1 : World), Below w.heap.size w w1 → w.heap.size ≤ B → B ≤ w1.heap.size → Wn m B wb k1 k2 w1 →
      Calls Tryz.prog K (fs.push (.pointer (some ⟨wb, 0, none⟩)) ++ cs) w1 fun e w2 => e = .returned (.tuple #[]) ∧ (∃ nm sp, Wi m B wb nm sp f w2) ∧ Below B w1 w2) := hW
  clear hW
  go_enter Tryz.func80, Tryz.ntmps80
  go_wp2_with fail
  refine (newWriter_any none w).mono ?_
  rintro e w0 ⟨rfl, hw0⟩
  have W0 : Wn none w.heap.size (w.heap.size + 2) w.heap.size (w.heap.size + 1) w0 := by rw [hw0]; exact Wn.new none w.heap.size w (Nat.le_refl _) (fun b e => by cases e)
  have B0 : Below w.heap.size w w0 := by rw [hw0]; exact (((Below.refl _ w).alloc (Nat.le_refl _) _).alloc (by simp) _).alloc (by simp; omega) _
  clear hw0
  go_wp2_with fail
  refine (HW.out none w.heap.size (w.heap.size + 2) _ _ w0 B0 (Nat.le_refl _) B0.size W0).mono ?_
  rintro e w2 ⟨rfl, ⟨nm, sp, W2⟩, B2⟩
  have c1 : w2.cell? ⟨w.heap.size + 2, 1, none⟩ = some (.int .i64 (f.length : Int)) := by rw [Lib.cell_of_heap W2.blk]; rfl
  have c2 : ∀ o, (w2.alloc o).cell? ⟨w.heap.size + 2, 1, none⟩ = some (.int .i64 (f.length : Int)) := fun o => by rw [World.cell?_alloc_lt _ _ _ W2.lt]; exact c1
  have K2 := B0.trans B2
  clear B0 B2 W0 c1
  go_wp2_with fail
  refine (builderGrow w2.heap.size w2.heap.size f.length _ (Nat.le_refl _) (heap_alloc_new w2 _) (by simp) (by omega)).mono ?_
  rintro e w4 ⟨rfl, U4, B4⟩
  have K4 : Below w.heap.size w w4 := (K2.alloc K2.size _).trans (B4.mono K2.size)
  have s4 : w2.heap.size ≤ w4.heap.size := Nat.le_trans (by simp) B4.size
  clear c2 W2
  go_wp2_with fail
  refine (newWriter_any (some w2.heap.size) w4).mono ?_
  rintro e w5 ⟨rfl, hw5⟩
  have W5 : Wn (some w2.heap.size) w2.heap.size (w4.heap.size + 2) w4.heap.size (w4.heap.size + 1) w5 := by
    rw [hw5]; exact Wn.new _ _ w4 s4 (fun b e => by cases e; exact U4)
  have B5 : Below w4.heap.size w4 w5 := by rw [hw5]; exact (((Below.refl _ w4).alloc (Nat.le_refl _) _).alloc (by simp) _).alloc (by simp; omega) _
  have K5 : Below w.heap.size w w5 := K4.trans (B5.mono K4.size)
  have s5 : w2.heap.size ≤ w5.heap.size := Nat.le_trans s4 B5.size
  clear hw5 U4 B4 B5
  go_wp2_with fail
  refine (HW.out (some w2.heap.size) w2.heap.size (w4.heap.size + 2) _ _ w5 K5 K2.size s5 W5).mono ?_
  rintro e w6 ⟨rfl, ⟨nm', sp', W6⟩, B6⟩
  have K6 : Below w.heap.size w w6 := K5.trans (B6.mono K2.size)
  have s6 : w2.heap.size ≤ w6.heap.size := Nat.le_trans s5 B6.size
  go_wp2_with fail
  refine (builderString w2.heap.size w2.heap.size f w6 (W6.bu _ rfl).1 s6).mono ?_
  rintro e w7 ⟨rfl, _, k7⟩
  go_wp2_with fail
  go_ret
  exact ⟨rfl, K6.trans (k7.1.mono K2.size)⟩
end Go.Proofs.YtceadeaodbadlaaGreatDoor
