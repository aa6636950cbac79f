import Derived.Test.YtceadeaodbadlaaDoorRInst5
set_option linter.unusedVariables false
set_option linter.unusedSimpArgs false
namespace Go.Proofs.YtceadeaodbadlaaDoor
open Go.RowKit

theorem fits_len : ∀ (g s : Ty) (l m : List (Nat × Ty)), fitsT g s l = some m → m.length ≤ l.length + sz g := by
  intro g
  induction g with
  | nil => intro s l m h; simp [fitsT] at h
  | node g o u a b iha ihb =>
    intro s l m h
    rw [fitsT_node] at h
    simp only [sz]
    split at h
    · split at h
      · cases h; simp
      · split at h
        · cases h; omega
        · cases h
    · split at h
      · cases h
      · split at h
        · split at h
          · cases h; omega
          · split at h
            · have := iha _ _ _ h; omega
            · split at h
              · cases h
              · rename_i h1
                have := iha _ _ _ h1
                have := ihb _ _ _ h
                omega
        · cases h

theorem rinst_any : ∀ t s : Ty, Ok t → Ok s → InstAt t s := by
  intro t
  induction t with
  | nil => intro s h; exact h.elim
  | node gt o u a b iha ihb =>
    intro s ht hs B l vv vl g cap g' cap' w hI hB hT hS hl
    cases u
    rcases ht with ⟨rfl, rfl, rfl, rfl⟩ | ⟨rfl, rfl, rfl, rfl⟩ | ⟨rfl, ho, rfl, rfl⟩ | ⟨rfl, rfl, ha, rfl⟩ | ⟨rfl, rfl, ha, hb⟩ | ⟨rfl, rfl, ha, hb⟩
    · rcases hs.cases with rfl | rfl | ⟨o', h1', h2', rfl⟩ | ⟨c, hc, rfl⟩ | ⟨c, d, hc, hd, rfl⟩ | ⟨c, d, hc, hd, rfl⟩
      · exact inst_leaf _ _ B l vv vl g cap g' cap' w hI hT hS (by decide) (by decide) (by decide) (by decide) rfl
      · exact inst_miss _ _ B vv vl g cap g' cap' w hT hS (by decide) (by decide)
      · exact inst_miss _ _ B vv vl g cap g' cap' w hT hS (by decide) (by show 73 ≠ o' + 30; omega)
      iterate 3 exact inst_miss _ _ B vv vl g cap g' cap' w hT hS (by decide) (by simp [rt, sgn])
    · rcases hs.cases with rfl | rfl | ⟨o', h1', h2', rfl⟩ | ⟨c, hc, rfl⟩ | ⟨c, d, hc, hd, rfl⟩ | ⟨c, d, hc, hd, rfl⟩
      · exact inst_miss _ _ B vv vl g cap g' cap' w hT hS (by decide) (by decide)
      · exact inst_leaf _ _ B l vv vl g cap g' cap' w hI hT hS (by decide) (by decide) (by decide) (by decide) rfl
      · exact inst_miss _ _ B vv vl g cap g' cap' w hT hS (by decide) (by show 66 ≠ o' + 30; omega)
      iterate 3 exact inst_miss _ _ B vv vl g cap g' cap' w hT hS (by decide) (by simp [rt, sgn])
    · exact rinst_var o _ s rfl ho B l vv vl g cap g' cap' w hI hB hT hS (by omega)
    · have hsm : sz a + 1 ≤ 100000 := hT.small
      rcases hs.cases with rfl | rfl | ⟨o', h1', h2', rfl⟩ | ⟨c, hc, rfl⟩ | ⟨c, d, hc, hd, rfl⟩ | ⟨c, d, hc, hd, rfl⟩
      · exact inst_miss _ _ B vv vl g cap g' cap' w hT hS (by simp [rt, sgn]) (by simp [rt, sgn])
      · exact inst_miss _ _ B vv vl g cap g' cap' w hT hS (by simp [rt, sgn]) (by simp [rt, sgn])
      · exact inst_miss _ _ B vv vl g cap g' cap' w hT hS (by simp [rt, sgn]) (by show 91 ≠ o' + 30; omega)
      · have hsn : sz c + 1 ≤ 100000 := hS.small
        exact inst_list _ _ a c rfl rfl (iha c ha hc) B l vv vl g cap g' cap' w (fun w' h => first_list a ha g cap w' h (sz_small hT)) (fun w' h => first_list c hc g' cap' w' h (sz_small hS)) hI hB hT hS (by omega) (by omega) (by rw [sz_list] at hl; omega)
      iterate 2 exact inst_miss _ _ B vv vl g cap g' cap' w hT hS (by simp [rt, sgn]) (by simp [rt, sgn])
    · have hsm : sz a + sz b + 1 ≤ 100000 := hT.small
      rcases hs.cases with rfl | rfl | ⟨o', h1', h2', rfl⟩ | ⟨c, hc, rfl⟩ | ⟨c, d, hc, hd, rfl⟩ | ⟨c, d, hc, hd, rfl⟩
      · exact inst_miss _ _ B vv vl g cap g' cap' w hT hS (by simp [rt, sgn]) (by simp [rt, sgn])
      · exact inst_miss _ _ B vv vl g cap g' cap' w hT hS (by simp [rt, sgn]) (by simp [rt, sgn])
      · exact inst_miss _ _ B vv vl g cap g' cap' w hT hS (by simp [rt, sgn]) (by show 42 ≠ o' + 30; omega)
      · exact inst_miss _ _ B vv vl g cap g' cap' w hT hS (by simp [rt, sgn]) (by simp [rt, sgn])
      · have hsn : sz c + sz d + 1 ≤ 100000 := hS.small
        rw [sz_both] at hl
        exact inst_pair _ _ a c b d rfl rfl (iha c ha hc) (ihb d hb hd) B l vv vl g cap g' cap' w (fun w' h => first_both 4 (.inl rfl) a b ha g cap w' h (sz_small hT)) (fun w' h => first_both 4 (.inl rfl) c d hc g' cap' w' h (sz_small hS)) (fun w' h => second_both 4 (.inl rfl) a b hb g cap w' h (sz_small hT)) (fun w' h => second_both 4 (.inl rfl) c d hd g' cap' w' h (sz_small hS)) hI hB hT hS (by omega) (by omega) (by omega) (by omega) (by omega) (fun m hm => by have := fits_len _ _ _ _ hm; omega)
      · exact inst_miss _ _ B vv vl g cap g' cap' w hT hS (by simp [rt, sgn]) (by simp [rt, sgn])
    · have hsm : sz a + sz b + 1 ≤ 100000 := hT.small
      rcases hs.cases with rfl | rfl | ⟨o', h1', h2', rfl⟩ | ⟨c, hc, rfl⟩ | ⟨c, d, hc, hd, rfl⟩ | ⟨c, d, hc, hd, rfl⟩
      · exact inst_miss _ _ B vv vl g cap g' cap' w hT hS (by simp [rt, sgn]) (by simp [rt, sgn])
      · exact inst_miss _ _ B vv vl g cap g' cap' w hT hS (by simp [rt, sgn]) (by simp [rt, sgn])
      · exact inst_miss _ _ B vv vl g cap g' cap' w hT hS (by simp [rt, sgn]) (by show 62 ≠ o' + 30; omega)
      · exact inst_miss _ _ B vv vl g cap g' cap' w hT hS (by simp [rt, sgn]) (by simp [rt, sgn])
      · exact inst_miss _ _ B vv vl g cap g' cap' w hT hS (by simp [rt, sgn]) (by simp [rt, sgn])
      · have hsn : sz c + sz d + 1 ≤ 100000 := hS.small
        rw [sz_both] at hl
        exact inst_fn _ _ a c b d rfl rfl (iha c ha hc) (ihb d hb hd) B l vv vl g cap g' cap' w (fun w' h => first_both 5 (.inr rfl) a b ha g cap w' h (sz_small hT)) (fun w' h => first_both 5 (.inr rfl) c d hc g' cap' w' h (sz_small hS)) (fun w' h => second_both 5 (.inr rfl) a b hb g cap w' h (sz_small hT)) (fun w' h => second_both 5 (.inr rfl) c d hd g' cap' w' h (sz_small hS)) hI hB hT hS (by omega) (by omega) (by omega) (by omega) (by omega) (fun m hm => by have := fits_len _ _ _ _ hm; omega)

theorem IS.nil (B : Nat) (w : World) : IS B [] (.slice none 0 0) (.slice none 0 0) w :=
  ⟨[], rfl, ⟨World.ownsRow_nil _ _ _ _, World.ownsRow_nil _ _ _ _, fun e he => absurd he (by simp), .inl rfl⟩⟩

set_option maxHeartbeats 400000 in
theorem is_any (t s : Ty) (g cap g' cap' : Nat) (w : World) (ht : Rg g t w) (hs : Rg g' s w) (hl : sz t ≤ 100000) (hl' : sz s ≤ 100000) :
    Calls Tryd.prog 12 #[.agg #[.slice (some ⟨g, 0, none⟩) (sz t) cap], .agg #[.slice (some ⟨g', 0, none⟩) (sz s) cap']] w fun e w' => e = .returned (.bool (inst t s)) ∧ Below w.heap.size w w' := by
  have HI : Hid (InstAt t s) := rinst_any t s ht.ok hs.ok
  have HT : Hid (Rg g t w) := ht
  have HS : Hid (Rg g' s w) := hs
  have HF : Hid (inst t s = (fitsT t s []).isSome) := rfl
  clear ht hs
  go_enter Tryd.func12, Tryd.ntmps12
  go_wp2_with fail
  have b0 := below2 w (.cells #[.slice (some ⟨g, 0, none⟩) (sz t) cap] 38) (.cells #[.slice (some ⟨g', 0, none⟩) (sz s) cap'] 38)
  refine (HI.out w.heap.size [] (.slice none 0 0) (.slice none 0 0) g cap g' cap' _ (IS.nil _ _) b0.size ⟨HT.out.below b0, hl, by simp [Value.ownBlock], by simp [Value.ownBlock]⟩ ⟨HS.out.below b0, hl', by simp [Value.ownBlock], by simp [Value.ownBlock]⟩ (by simp; omega)).mono ?_
  rintro e w1 ⟨vv, vl, rfl, f, -, -, -⟩
  go_wp2_with fail
  go_ret
  rw [HF.out]
  refine ⟨rfl, b0.trans ?_⟩
  have hz := b0.size
  exact ⟨f.os, f.tape, f.output, f.size, fun k hk => f.block k (Nat.lt_of_lt_of_le hk hz) (by simp [Value.ownBlock]) (by simp [Value.ownBlock])⟩
end Go.Proofs.YtceadeaodbadlaaDoor
