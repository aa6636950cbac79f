import Derived.Test.YtceadeaodbadlaaGreatDoorRefE
import Derived.Test.YtceadeaodbadlaaGreatDoorPrint2
set_option linter.unusedVariables false
set_option linter.unusedSimpArgs false
namespace Go.Proofs.YtceadeaodbadlaaGreatDoor
open Go.RowKit

set_option maxRecDepth 100000 in
set_option maxHeartbeats 2000000 in
theorem rexpr_step (b : Nat) (s : ByteArray) (n : Nat) (ihE : RExpr b s n) (ihA : ∀ m, m ≤ n → RAtom b s m) (hs : s.size ≤ 1000) : RExpr b s (n + 1) := by
  intro i ts w h hi hn hl
  by_cases h92 : chr s i = 92
  · have HR : Hid (pr s (n + 1) 0 i 0 [] = fnOut s n (i + 1)) := expr_fn s n i h92
    have hlt : i < s.size := chr_in (by omega)
    have H92 : Hid (chr s i = 92) := h92
    have c2 := h.c2
    have c3 := h.c3
    clear h92 ihA
    go_enter Tryz.func46, Tryz.ntmps46
    go_wp2_with fail
    refine (rgot_yes b s i 92 ts w h (by omega) H92.out (by decide)).mono ?_
    rintro e w1 ⟨rfl, h1, k1⟩
    clear c2 c3
    go_wp2_with fail
    refine (rfunction_any b s n (i + 1) i ts w1 ihE h1 hlt hs (by omega) (by omega)).mono ?_
    rintro e w2 hp
    have HP : Hid (RPost b s (pr s (n + 1) 0 i 0 []) i ts w e w2) := by rw [HR.out]; exact hp.shift k1
    obtain ⟨k, rfl⟩ := hp.one
    clear HR hp
    go_wp2_with fail
    go_ret
    exact HP.out
  · by_cases h64 : chr s i = 64
    · have HR : Hid (pr s (n + 1) 0 i 0 [] = ltOut s n (i + 1)) := expr_lt s n i h64
      have hlt : i < s.size := chr_in (by omega)
      have H92 : Hid (chr s i ≠ 92) := h92
      have H64 : Hid (chr s i = 64) := h64
      have c2 := h.c2
      have c3 := h.c3
      clear h92 h64 ihA
      go_enter Tryz.func46, Tryz.ntmps46
      go_wp2_with fail
      refine (rgot_no b s i 92 ts w h hi (by omega) H92.out (by decide)).mono ?_
      rintro e w0 ⟨rfl, d, rfl⟩
      go_wp2_with fail
      refine (rgot_yes b s i 64 ts _ (h.drewN d) (by omega) H64.out (by decide)).mono ?_
      rintro e w1 ⟨rfl, h1, k1⟩
      have k1 := k1.undrew
      clear c2 c3
      go_wp2_with fail
      refine (rwithin_any b s n i i ts w1 ihE h1 hlt hs (by omega) (by omega)).mono ?_
      rintro e w2 hp
      have HP : Hid (RPost b s (pr s (n + 1) 0 i 0 []) i ts w e w2) := by rw [HR.out]; exact hp.hand k1
      obtain ⟨k, rfl⟩ := hp.one
      clear HR hp
      go_wp2_with fail
      go_ret
      exact HP.out
    · rw [expr_ca s n i h92 h64]
      exact rcalls_any b s n i ts w ihA h hi hs (by omega) hl h92 h64

theorem rreaders_all (b : Nat) (s : ByteArray) (hs : s.size ≤ 1000) : ∀ n m, m ≤ n → RExpr b s m ∧ RAtom b s m := by
  have zero : RExpr b s 0 ∧ RAtom b s 0 := ⟨fun i ts w _ _ h0 _ => absurd h0 (by omega), fun i ts w _ _ h0 _ => absurd h0 (by omega)⟩
  intro n
  induction n with
  | zero => intro m hm; obtain rfl : m = 0 := by omega
            exact zero
  | succ n ih =>
    intro m hm
    rcases Nat.lt_or_ge m (n + 1) with h | h
    · exact ih m (by omega)
    · obtain rfl : m = n + 1 := by omega
      exact ⟨rexpr_step b s n (ih n (Nat.le_refl n)).1 (fun m hm => (ih m hm).2) hs, ratom_any b s n (ih n (Nat.le_refl n)).1 hs⟩

theorem St.new (s : ByteArray) (w : World) : St w.heap.size s 0 (-1) [] (w.alloc (.cells #[.string s, .bool false, .int .i64 0, .int .i64 (-1), .slice none 0 0] 70)) :=
  ⟨.slice none 0 0, heap_alloc_new w _, World.ownsRow_nil _ _ _ _, by simp [Value.ownBlock]⟩

theorem Fr.belowNew {w w' : World} {s : ByteArray} (h : Fr w.heap.size (w.alloc (.cells #[.string s, .bool false, .int .i64 0, .int .i64 (-1), .slice none 0 0] 70)) w') : Below w.heap.size w w' := by
  have hr : rowOf w.heap.size (w.alloc (.cells #[.string s, .bool false, .int .i64 0, .int .i64 (-1), .slice none 0 0] 70)) = none := by
    obtain ⟨v, hv⟩ := St.new s w
    unfold rowOf; simp [Value.ownBlock]
  refine ⟨h.os, h.tape, h.output, Nat.le_trans (by simp) h.size, fun k hk => ?_⟩
  rw [h.block k (by simp; omega) (by omega) (by rw [hr]; simp)]
  exact Below.heap_alloc _ _ _ hk

/-- What Read leaves of the reference. -/
def RReadPost (s : ByteArray) (w : World) (e : Ending) (w' : World) : Prop :=
  Below w.heap.size w w' ∧ match whole s with
    | .error p => e = .returned (.tuple #[.slice none 0 0, .int .i64 (p : Int)])
    | .ok f => ∃ v us k kd, e = .returned (.tuple #[v, .int .i64 (-1)]) ∧ k + 1 = us.length ∧ us.length ≤ 1000 ∧ w'.ownsRow w.heap.size 76 9 v us.length (flat us) ∧ Fo us k kd f

set_option maxRecDepth 100000 in
set_option maxHeartbeats 2000000 in
theorem rread_any (s : ByteArray) (w : World) (hs : s.size ≤ 24) :
    Calls Tryz.prog 27 #[.string s, .bool false] w (RReadPost s w) := by
  have hE := (rreaders_all w.heap.size s (by omega) (3 * s.size + 2) _ (Nat.le_refl _)).1
  have h0 := St.new s w
  go_enter Tryz.func27, Tryz.ntmps27
  go_wp2_with fail
  refine (hE 0 [] _ h0 (Nat.zero_le _) (by omega) (by simp; omega)).mono ?_
  rintro e w1 ⟨k1, hp⟩
  cases hq : pr s (3 * s.size + 2) 0 0 0 [] with
  | error p =>
    rw [hq] at hp
    obtain ⟨k, us, rfl, h1, hu⟩ := hp
    have HR : Hid (whole s = .error p) := by unfold Hid whole; rw [hq]
    clear hq
    have c2 := h1.c2
    have c3 := h1.c3
    by_cases hps : p < s.size
    · go_wp2_with fail
      refine (rfail_old _ s p p _ w1 h1).mono ?_
      rintro e w2 ⟨rfl, rfl⟩
      go_wp2_with fail
      go_quiet (fail)
      go_wp2_with fail
      go_ret2
      refine ⟨(k1.drewN _).belowNew, ?_⟩
      rw [HR.out]
      exact rfl
    · go_wp2_with fail
      go_quiet (fail)
      go_wp2_with fail
      go_ret2
      refine ⟨(k1.drewN _).belowNew, ?_⟩
      rw [HR.out]
      exact rfl
  | ok r =>
    obtain ⟨kd, f, j⟩ := r
    rw [hq] at hp
    obtain ⟨k, us, rfl, hkk, h1, hu, hfo⟩ := hp
    have pl := pr_places s _ _ _ _ _ _ _ _ hq (Nat.zero_le _)
    have hj2 : j ≤ s.size := pl.2
    clear pl
    rw [List.nil_append] at h1 hfo hkk
    have c2 := h1.c2
    have c3 := h1.c3
    by_cases hj : j < s.size
    · have HR : Hid (whole s = .error j) := by unfold Hid whole; rw [hq]; exact if_pos hj
      clear hq
      go_wp2_with fail
      refine (rfail_new _ s j _ w1 h1).mono ?_
      rintro e w2 ⟨rfl, h2, k2⟩
      have c3' := h2.c3
      clear c2 c3
      go_wp2_with fail
      go_quiet (fail)
      go_wp2_with fail
      go_ret2
      refine ⟨((k1.trans k2).drewN _).belowNew, ?_⟩
      rw [HR.out]
      exact rfl
    · have HR : Hid (whole s = .ok f) := by unfold Hid whole; rw [hq]; exact if_neg hj
      clear hq
      obtain ⟨v, hv⟩ := h1
      obtain ⟨g, cap, rfl, hg⟩ := Fo.row hv.2.1 (show us[k]? = some us[k] from List.getElem?_eq_getElem (by omega))
      have hcap : us.length ≤ cap := by
        rcases hv.2.1.2 with ⟨e, _⟩ | ⟨g', cap', cur, e, _, _, hc, _⟩
        · cases e
        · cases e; exact hc
      have c4 : w1.cell? ⟨w.heap.size, 4, none⟩ = some (.slice (some ⟨g, 0, none⟩) us.length cap) := by rw [hv.cell 4]; rfl
      have hk1 : (k : Int) + 1 = (us.length : Int) := by omega
      have HK : Hid ((k : Int) + 1 = (us.length : Int)) := hk1
      have hk2 : k < us.length := by omega
      clear hk1
      go_wp2_with fail
      go_ret2
      refine ⟨k1.belowNew, ?_⟩
      rw [HR.out]
      exact ⟨_, us, k, kd, rfl, hkk, by omega, hv.2.1, hfo⟩

set_option maxHeartbeats 400000 in
theorem bare_any (B : Nat) (v : Value) (us : List Tm) (k kd : Nat) (f : List UInt8) (w : World) (hk : k + 1 = us.length) (hl : us.length ≤ 1000) (h : w.ownsRow B 76 9 v us.length (flat us)) (hf : Fo us k kd f) :
    Calls Tryz.prog 33 #[v] w fun e w' => e = .returned (.string ⟨f.toArray⟩) ∧ Below w.heap.size w w' := by
  have hF := hf.formAt B [] v (by simp; omega)
  rw [List.append_nil] at hF
  obtain ⟨g, cap, rfl, hg⟩ := Fo.row h (show us[k]? = some us[k] from List.getElem?_eq_getElem (by omega))
  have hk' : (us.length : Int) - 1 = (k : Int) := by omega
  clear hk
  go_enter Tryz.func33, Tryz.ntmps33
  go_wp2_with fail
  refine (hF w h).mono ?_
  rintro e w' ⟨rfl, hb⟩
  go_wp2_with fail
  go_ret
  exact ⟨rfl, hb⟩

set_option maxHeartbeats 400000 in
theorem rprint_any (s : ByteArray) (w : World) (hs : s.size ≤ maxLen) :
    Calls Tryz.prog 13 #[.string s] w fun e w' => e = .returned (.tuple #[.string (printOut s).1, .int .i64 ((printOut s).2.1 : Int), .int .i64 ((printOut s).2.2 : Int)]) ∧ Below w.heap.size w w' := by
  unfold maxLen at hs
  by_cases h24 : 24 < s.size
  · have HR : Hid (printOut s = (⟨#[]⟩, 1, 0)) := by unfold Hid printOut; rw [if_pos h24]
    go_enter Tryz.func13, Tryz.ntmps13
    go_wp2_with fail
    go_ret3
    rw [HR.out]
    exact ⟨rfl, Below.refl _ w⟩
  · have hh : s.size ≤ 24 := by omega
    have HN : Hid (¬ 24 < s.size) := h24
    clear h24
    go_enter Tryz.func13, Tryz.ntmps13
    go_wp2_with fail
    refine (rread_any s w hh).mono ?_
    rintro e w1 ⟨hb, hp⟩
    cases hq : whole s with
    | error p =>
      rw [hq] at hp
      subst hp
      have HR : Hid (printOut s = (⟨#[]⟩, 2, p)) := by unfold Hid printOut; rw [if_neg HN.out, hq]
      clear hq
      go_wp2_with fail
      go_ret3
      rw [HR.out]
      exact ⟨rfl, hb⟩
    | ok f =>
      rw [hq] at hp
      obtain ⟨v, us, k, kd, rfl, hk, hl, hown, hfo⟩ := hp
      have HR : Hid (printOut s = (⟨f.toArray⟩, 0, 0)) := by unfold Hid printOut; rw [if_neg HN.out, hq]
      have HK : Hid (k + 1 = us.length) := hk
      clear hq hk
      go_wp2_with fail
      refine (bare_any w.heap.size v us k kd f w1 HK.out hl hown hfo).mono ?_
      rintro e w2 ⟨rfl, hb2⟩
      go_wp2_with fail
      go_ret3
      rw [HR.out]
      exact ⟨rfl, hb.trans (hb2.mono hb.size)⟩

set_option maxHeartbeats 400000 in
theorem num_any (n : Nat) (w : World) : Calls Tryz.prog 14 #[.int .i64 (n : Int)] w fun e w' => e = .returned (.int .i64 (n : Int)) ∧ w' = w := by
  go_enter Tryz.func14, Tryz.ntmps14
  go_wp2
  go_ret
  exact ⟨rfl, rfl⟩

set_option maxHeartbeats 400000 in
theorem prints_any (tx : Nat → Addr) (s : ByteArray) (w : World) (g : Gs tx w) (hs : s.size ≤ maxLen) :
    Calls Tryz.prog 3 #[.string s] w fun e w' => e = .returned (.bool true) ∧ Below w.heap.size w w' := by
  go_enter Tryz.func3, Tryz.ntmps3
  go_wp2_with fail
  refine (print_any tx s w g hs).mono ?_
  rintro e w1 ⟨rfl, hb⟩
  go_wp2_with fail
  refine (rprint_any s w1 hs).mono ?_
  rintro e w2 ⟨rfl, hb2⟩
  generalize (printOut s).1 = x
  generalize (printOut s).2.1 = y
  generalize (printOut s).2.2 = z
  go_wp2_with fail
  refine (num_any y w2).mono ?_
  rintro e w3 ⟨rfl, rfl⟩
  go_wp2_with fail
  go_ret
  exact ⟨by simp, hb.trans (hb2.mono hb.size)⟩
end Go.Proofs.YtceadeaodbadlaaGreatDoor
