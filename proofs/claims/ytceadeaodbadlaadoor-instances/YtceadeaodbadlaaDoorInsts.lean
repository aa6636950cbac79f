import Derived.Test.YtceadeaodbadlaaDoorRInst6
import Derived.Test.YtceadeaodbadlaaDoorRRead5
import Derived.Test.YtceadeaodbadlaaDoorOrdered
set_option linter.unusedVariables false
set_option linter.unusedSimpArgs false
namespace Go.Proofs.YtceadeaodbadlaaDoor
open Go.RowKit

set_option maxRecDepth 100000 in
set_option maxHeartbeats 1000000 in
theorem rinstance_any (a s : ByteArray) (w : World) (ha : a.size ≤ maxLen) (hs : s.size ≤ maxLen) :
    Calls Tryd.prog 6 #[.string a, .string s] w fun e w' => e = .returned (.tuple #[.bool (instOut a s).1, .int .i64 ((instOut a s).2.1 : Int), .int .i64 ((instOut a s).2.2 : Int)]) ∧ Below w.heap.size w w' := by
  unfold maxLen at hs ha
  by_cases h1 : 4000 < a.size
  · have HR : Hid (instOut a s = (false, 1, 0)) := by unfold Hid instOut; rw [if_pos (.inl h1)]
    go_enter Tryd.func6, Tryd.ntmps6
    go_wp2_with fail
    go_ret3
    rw [HR.out]
    exact ⟨rfl, Below.refl _ w⟩
  by_cases h2 : 4000 < s.size
  · have HR : Hid (instOut a s = (false, 1, 0)) := by unfold Hid instOut; rw [if_pos (.inr h2)]
    go_enter Tryd.func6, Tryd.ntmps6
    go_wp2_with fail
    go_ret3
    rw [HR.out]
    exact ⟨rfl, Below.refl _ w⟩
  have h3 : a.size ≤ 4000 := by omega
  have h4 : s.size ≤ 4000 := by omega
  have HN : Hid (instOut a s = match wholeT a with
    | .error p => (false, 2, p)
    | .ok g => match wholeT s with
      | .error p => (false, 2, p)
      | .ok t => (inst g t, 0, 0)) := by unfold Hid instOut; rw [if_neg (by omega)]; rfl
  clear h1 h2
  go_enter Tryd.func6, Tryd.ntmps6
  go_wp2_with fail
  refine (rtype_any a w (by omega)).mono ?_
  rintro e w1 ⟨hb, hp⟩
  cases hq : wholeT a with
  | error p =>
    rw [hq] at hp
    obtain ⟨g, m, cap, rfl⟩ := hp
    have HQ := HN.out
    rw [hq] at HQ
    clear hq HN
    have HR : Hid (_ = _) := HQ
    clear HQ
    go_wp2_with fail
    go_ret3
    rw [HR.out]
    exact ⟨rfl, hb.alloc hb.size _⟩
  | ok u =>
    rw [hq] at hp
    obtain ⟨g, cap, rfl, R1, hz1⟩ := hp
    have HQ := HN.out
    rw [hq] at HQ
    clear hq HN
    have HR : Hid (_ = _) := HQ
    clear HQ
    go_wp2_with fail
    have b1 := hb.alloc hb.size (.cells #[.slice (some ⟨g, 0, none⟩) (sz u) cap] 38)
    have R1a := R1.alloc (.cells #[.slice (some ⟨g, 0, none⟩) (sz u) cap] 38)
    have x1 : (w1.alloc (.cells #[.slice (some ⟨g, 0, none⟩) (sz u) cap] 38)).heap[w1.heap.size]? = some (.cells #[.slice (some ⟨g, 0, none⟩) (sz u) cap] 38 (0, 0)) := heap_alloc_new w1 _
    have RT := rtype_any s (w1.alloc (.cells #[.slice (some ⟨g, 0, none⟩) (sz u) cap] 38)) (by omega)
    generalize w1.alloc (.cells #[.slice (some ⟨g, 0, none⟩) (sz u) cap] 38) = w2 at *
    refine RT.mono ?_
    rintro e w3 ⟨hb3, hp⟩
    have b3 := b1.trans (hb3.mono b1.size)
    have x3 : w3.heap[w1.heap.size]? = some (.cells #[.slice (some ⟨g, 0, none⟩) (sz u) cap] 38 (0, 0)) := (hb3.block _ (Array.getElem?_eq_some_iff.1 x1).1).trans x1
    have hlt3 : w1.heap.size < w3.heap.size := (Array.getElem?_eq_some_iff.1 x3).1
    have R3 := R1a.below hb3
    clear RT x1 R1 R1a hb3 b1 hb
    cases hq : wholeT s with
    | error p =>
      rw [hq] at hp
      obtain ⟨g4, m4, cap4, rfl⟩ := hp
      have HQ := HR.out
      rw [hq] at HQ
      clear hq HR
      have HR : Hid (_ = _) := HQ
      clear HQ
      go_wp2_with fail
      go_ret3
      rw [HR.out]
      exact ⟨rfl, b3.alloc b3.size _⟩
    | ok v =>
      rw [hq] at hp
      obtain ⟨g4, cap4, rfl, R4, hz4⟩ := hp
      have HQ := HR.out
      rw [hq] at HQ
      clear hq HR
      have HR : Hid (_ = _) := HQ
      clear HQ
      have b5 := b3.alloc b3.size (.cells #[.slice (some ⟨g4, 0, none⟩) (sz v) cap4] 38)
      have IA := is_any u v g cap g4 cap4 _ (R3.alloc (.cells #[.slice (some ⟨g4, 0, none⟩) (sz v) cap4] 38)) (R4.alloc _) (by omega) (by omega)
      have c3 := cell_box ((Below.heap_alloc w3 (.cells #[.slice (some ⟨g4, 0, none⟩) (sz v) cap4] 38) _ hlt3).trans x3)
      have c4 := cell_box (heap_alloc_new w3 (.cells #[.slice (some ⟨g4, 0, none⟩) (sz v) cap4] 38))
      go_wp2_with fail
      refine IA.mono ?_
      rintro e w6 ⟨rfl, b6⟩
      go_wp2_with fail
      go_ret3
      rw [HR.out]
      exact ⟨rfl, b5.trans (b6.mono b5.size)⟩

set_option maxHeartbeats 1000000 in
theorem instances_any (tx : Nat → Addr) (a s : ByteArray) (w : World) (g : Gs tx w) (ha : a.size ≤ maxLen) (hs : s.size ≤ maxLen) :
    Calls Tryd.prog 3 #[.string a, .string s] w fun e w' => e = .returned (.bool true) ∧ Below w.heap.size w w' := by
  go_enter Tryd.func3, Tryd.ntmps3
  go_wp2_with fail
  refine (instance_any tx a s w g ha hs).mono ?_
  rintro e w1 ⟨rfl, b1⟩
  have RI := rinstance_any a s w1 ha hs
  generalize (instOut a s).1 = x at RI ⊢
  generalize (instOut a s).2.1 = n at RI ⊢
  generalize (instOut a s).2.2 = p at RI ⊢
  go_wp2_with fail
  refine RI.mono ?_
  rintro e w2 ⟨rfl, b2⟩
  have b3 := b1.trans (b2.mono b1.size)
  go_wp2_with fail
  refine (numO_any n _).mono ?_
  rintro e w4 ⟨rfl, rfl⟩
  go_wp2_with fail
  go_ret
  exact ⟨by simp, b3⟩
end Go.Proofs.YtceadeaodbadlaaDoor
