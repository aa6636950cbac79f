import Derived.Test.YtceadeaodbadlaaDoorRef
import Derived.Test.YtceadeaodbadlaaDoorFirst
import Derived.IntWalk
set_option linter.unusedVariables false
set_option linter.unusedSimpArgs false
namespace Go.Proofs.YtceadeaodbadlaaDoor
open Go.RowKit

/-- The reference's Reader, of a type, in block b. -/
def R0 (b : Nat) (s : ByteArray) (i : Nat) (bad : Int) (w : World) : Prop := w.heap[b]? = some (.cells #[.string s, .bool false, .int .i64 (i : Int), .int .i64 bad, .slice none 0 0] 56 (0, 0))
theorem R0.toSt {b : Nat} {s : ByteArray} {i : Nat} {bad : Int} {w : World} (h : R0 b s i bad w) : St b s i bad [] w := ⟨.slice none 0 0, h, World.ownsRow_nil _ _ _ _, by simp [Value.ownBlock]⟩
theorem R0.lt {b : Nat} {s : ByteArray} {i : Nat} {bad : Int} {w : World} (h : R0 b s i bad w) : b < w.heap.size := (Array.getElem?_eq_some_iff.1 h).1
theorem R0.drewN {b : Nat} {s : ByteArray} {i : Nat} {bad : Int} {w : World} (h : R0 b s i bad w) (n : Nat) : R0 b s i bad (w.drewN n) := h
theorem R0.drew {b : Nat} {s : ByteArray} {i : Nat} {bad : Int} {w : World} (h : R0 b s i bad w) : R0 b s i bad w.drew := h
theorem R0.below {b : Nat} {s : ByteArray} {i : Nat} {bad : Int} {w w' : World} (h : R0 b s i bad w) (hb : Below w.heap.size w w') : R0 b s i bad w' := (hb.block b h.lt).trans h
theorem R0.alloc {b : Nat} {s : ByteArray} {i : Nat} {bad : Int} {w : World} (h : R0 b s i bad w) (o : Obj) : R0 b s i bad (w.alloc o) := (Below.heap_alloc w o b h.lt).trans h
theorem R0.setFar {b : Nat} {s : ByteArray} {i : Nat} {bad : Int} {w : World} (h : R0 b s i bad w) {q : Nat} (hq : q ≠ b) (u : Value) : R0 b s i bad (w.setCell ⟨q, 0, none⟩ u) := (Below.heap_setCell w ⟨q, 0, none⟩ u b (fun e => hq e.symm)).trans h
theorem R0.setI {b : Nat} {s : ByteArray} {i : Nat} {bad : Int} {w : World} (h : R0 b s i bad w) (j : Nat) : R0 b s j bad (w.setCell ⟨b, 2, none⟩ (.int .i64 (j : Int))) := by
  unfold R0 at h ⊢
  simp [World.setCell, Array.getElem?_modify, h]
theorem R0.setBad {b : Nat} {s : ByteArray} {i : Nat} {bad : Int} {w : World} (h : R0 b s i bad w) (p : Int) : R0 b s i p (w.setCell ⟨b, 3, none⟩ (.int .i64 p)) := by
  unfold R0 at h ⊢
  simp [World.setCell, Array.getElem?_modify, h]
theorem R0.next {b : Nat} {s : ByteArray} {i : Nat} {bad : Int} {w : World} (h : R0 b s i bad w) (n : Nat) : R0 b s (i + 1) bad ((w.drewN n).setCell ⟨b, 2, none⟩ (.int .i64 ((i : Int) + 1))) := by
  have := (h.drewN n).setI (i + 1)
  rwa [Int.natCast_add] at this
theorem R0.c0 {b : Nat} {s : ByteArray} {i : Nat} {bad : Int} {w : World} (h : R0 b s i bad w) : w.cell? ⟨b, 0, none⟩ = some (.string s) := h.toSt.c0
theorem R0.c2 {b : Nat} {s : ByteArray} {i : Nat} {bad : Int} {w : World} (h : R0 b s i bad w) : w.cell? ⟨b, 2, none⟩ = some (.int .i64 (i : Int)) := h.toSt.c2
theorem R0.c3 {b : Nat} {s : ByteArray} {i : Nat} {bad : Int} {w : World} (h : R0 b s i bad w) : w.cell? ⟨b, 3, none⟩ = some (.int .i64 bad) := h.toSt.c3
theorem R0.fz {b : Nat} {s : ByteArray} {i : Nat} {bad : Int} {w : World} (h : R0 b s i bad w) (j : Nat) : w.frozen? ⟨b, j, none⟩ = false := h.toSt.fz j
theorem Rg.ne {g b : Nat} {t : Ty} {s : ByteArray} {i : Nat} {bad : Int} {w : World} (h : Rg g t w) (k : R0 b s i bad w) : g ≠ b := by
  rintro rfl
  have hp := sz_pos h.ok
  obtain ⟨n, hn⟩ : ∃ n, (nd t 0)[0]? = some n := ⟨_, List.getElem?_eq_getElem (by rw [nd_length]; omega)⟩
  have := (h.cell 0 n hn).1
  rw [Nat.zero_mul, k.c0] at this
  cases this
theorem Rg.gb {g b : Nat} {t : Ty} {w w' : World} (h : Rg g t w) (hg : Gb b w w') (hn : g ≠ b) : Rg g t w' := h.kept hg (by simp; exact fun e => hn e.symm)

set_option maxHeartbeats 400000 in
theorem gfail_new (b : Nat) (s : ByteArray) (i : Nat) (w : World) (h : R0 b s i (-1) w) :
    Calls Tryd.prog 18 #[.pointer (some ⟨b, 0, none⟩)] w fun e w' => e = .returned (.tuple #[]) ∧ R0 b s i i w' ∧ Gb b w w' := by
  have h2 := h.c2
  have h3 := h.c3
  have f3 := h.fz 3
  go_enter Tryd.func18, Tryd.ntmps18
  go_wp2
  go_end0
  exact ⟨rfl, h.setBad i, (Gb.refl b w).setCell 3 _⟩

theorem inS {c d : Nat} : inR c d d = true ↔ c = d := by simp [inR]; omega
theorem inS_no {c d : Nat} (h : c ≠ d) : inR c d d = false := by simp [inR]; omega

set_option maxHeartbeats 400000 in
theorem ggot_yes (b : Nat) (s : ByteArray) (i c : Nat) (w : World) (h : R0 b s i (-1) w) (hs : s.size ≤ 100000) (hc : chr s i = c) (h0 : 1 ≤ c) :
    Calls Tryd.prog 31 #[.pointer (some ⟨b, 0, none⟩), .int .u8 (c : Int)] w fun e w' => e = .returned (.bool true) ∧ R0 b s (i + 1) (-1) w' ∧ Gb b w w' := by
  have hlt : i < s.size := chr_in (by omega)
  have c2 := h.c2
  have f2 := h.fz 2
  have hn := h.next
  have HR : Hid (inR (chr s i) c c = true) := inS.2 hc
  clear hc
  go_enter Tryd.func31, Tryd.ntmps31
  go_wp2_with fail
  refine (ris_ok b s i c c [] w h.toSt (by omega) hs h0).mono ?_
  rintro e w' ⟨rfl, n, rfl⟩
  rw [HR.out]
  go_wp2_with fail
  go_ret
  exact ⟨rfl, hn n, ((Gb.refl b w).drewN n).setCell 2 _⟩

set_option maxHeartbeats 400000 in
theorem ggot_no (b : Nat) (s : ByteArray) (i c : Nat) (w : World) (h : R0 b s i (-1) w) (hi : i ≤ s.size) (hs : s.size ≤ 100000) (hc : chr s i ≠ c) (h0 : 1 ≤ c) :
    Calls Tryd.prog 31 #[.pointer (some ⟨b, 0, none⟩), .int .u8 (c : Int)] w fun e w' => e = .returned (.bool false) ∧ ∃ n, w' = w.drewN n := by
  have HR : Hid (inR (chr s i) c c = false) := inS_no hc
  clear hc
  go_enter Tryd.func31, Tryd.ntmps31
  go_wp2_with fail
  refine (ris_ok b s i c c [] w h.toSt hi hs h0).mono ?_
  rintro e w' ⟨rfl, n, rfl⟩
  rw [HR.out]
  go_wp2_with fail
  go_ret
  exact ⟨rfl, n, rfl⟩

set_option maxHeartbeats 400000 in
theorem ggot_bad (b : Nat) (s : ByteArray) (i p c : Nat) (w : World) (h : R0 b s i p w) :
    Calls Tryd.prog 31 #[.pointer (some ⟨b, 0, none⟩), .int .u8 (c : Int)] w fun e w' => e = .returned (.bool false) ∧ ∃ n, w' = w.drewN n := by
  go_enter Tryd.func31, Tryd.ntmps31
  go_wp2_with fail
  refine (ris_bad b s i p c c [] w h.toSt).mono ?_
  rintro e w' ⟨rfl, n, rfl⟩
  go_wp2_with fail
  go_ret
  exact ⟨rfl, n, rfl⟩

set_option maxHeartbeats 400000 in
theorem gmust_yes (b : Nat) (s : ByteArray) (i c : Nat) (w : World) (h : R0 b s i (-1) w) (hs : s.size ≤ 100000) (hc : chr s i = c) (h0 : 1 ≤ c) :
    Calls Tryd.prog 50 #[.pointer (some ⟨b, 0, none⟩), .int .u8 (c : Int)] w fun e w' => e = .returned (.tuple #[]) ∧ R0 b s (i + 1) (-1) w' ∧ Gb b w w' := by
  go_enter Tryd.func50, Tryd.ntmps50
  go_wp2_with fail
  refine (ggot_yes b s i c w h hs hc h0).mono ?_
  rintro e w' ⟨rfl, h1, k1⟩
  clear hc
  go_wp2_with fail
  go_end0
  exact ⟨rfl, h1, k1⟩

set_option maxHeartbeats 400000 in
theorem gmust_no (b : Nat) (s : ByteArray) (i c : Nat) (w : World) (h : R0 b s i (-1) w) (hi : i ≤ s.size) (hs : s.size ≤ 100000) (hc : chr s i ≠ c) (h0 : 1 ≤ c) :
    Calls Tryd.prog 50 #[.pointer (some ⟨b, 0, none⟩), .int .u8 (c : Int)] w fun e w' => e = .returned (.tuple #[]) ∧ R0 b s i i w' ∧ Gb b w w' := by
  go_enter Tryd.func50, Tryd.ntmps50
  go_wp2_with fail
  refine (ggot_no b s i c w h hi hs hc h0).mono ?_
  rintro e w' ⟨rfl, n, rfl⟩
  clear hc
  go_wp2_with fail
  refine (gfail_new b s i _ (h.drewN n)).mono ?_
  rintro e w' ⟨rfl, h1, k1⟩
  go_wp2_with fail
  go_end0
  exact ⟨rfl, h1, ((Gb.refl b w).drewN n).trans k1⟩

set_option maxHeartbeats 400000 in
theorem gmust_bad (b : Nat) (s : ByteArray) (i p c : Nat) (w : World) (h : R0 b s i p w) :
    Calls Tryd.prog 50 #[.pointer (some ⟨b, 0, none⟩), .int .u8 (c : Int)] w fun e w' => e = .returned (.tuple #[]) ∧ ∃ n, w' = w.drewN n := by
  go_enter Tryd.func50, Tryd.ntmps50
  go_wp2_with fail
  refine (ggot_bad b s i p c w h).mono ?_
  rintro e w' ⟨rfl, n, rfl⟩
  go_wp2_with fail
  refine (rfail_old b s i p [] _ (h.drewN n).toSt).mono ?_
  rintro e w' ⟨rfl, rfl⟩
  go_wp2_with fail
  go_end0
  exact ⟨rfl, n, rfl⟩

set_option maxRecDepth 100000 in
set_option maxHeartbeats 2000000 in
theorem gvariable_raw (b : Nat) (s : ByteArray) (i r j : Nat) (w : World) (h : R0 b s i (-1) w) (hs : s.size ≤ 100000) (hc : isLet (chr s i) = true) (HE : Hid (r = vnum (chr s i) (chr s (i + 1)) + 30)) (HJ : Hid (j = if 49 ≤ chr s (i + 1) ∧ chr s (i + 1) ≤ 57 then i + 2 else i + 1)) :
    Calls Tryd.prog 49 #[.pointer (some ⟨b, 0, none⟩)] w fun e w' => e = .returned (.int .i64 (r : Int)) ∧ R0 b s j (-1) w' ∧ Gb b w w' := by
  have hlt : i < s.size := chr_in (by intro e; rw [e] at hc; exact absurd hc (by decide))
  have c0 := h.c0
  have c2 := h.c2
  have f2 := h.fz 2
  have hci : s[i].toNat = chr s i := by simp [chr, hlt]
  have hl : 97 ≤ chr s i ∧ chr s i ≤ 122 := by simpa [isLet] using hc
  have hu : IntKind.u8.wrap ((chr s i : Int) - 97) = (chr s i : Int) - 97 := IntWalk.u8_in _ ⟨by omega, by omega⟩
  have HN : Hid (∀ n, R0 b s (i + 1) (-1) ((w.drewN n).setCell ⟨b, 2, none⟩ (.int .i64 ((i : Int) + 1)))) := h.next
  clear hc
  go_enter Tryd.func49, Tryd.ntmps49
  go_wp2_with fail
  go_quiet (fail)
  go_wp2_with fail
  have h1 := HN.out nq
  have g1 : Gb b w ((w.drewN nq).setCell ⟨b, 2, none⟩ (.int .i64 ((i : Int) + 1))) := ((Gb.refl b w).drewN nq).setCell 2 _
  generalize (w.drewN nq).setCell ⟨b, 2, none⟩ (.int .i64 ((i : Int) + 1)) = w1 at h1 g1 ⊢
  clear c0 c2 f2 HN
  refine (ris_ok b s (i + 1) 49 57 [] w1 h1.toSt (by omega) hs (by decide)).mono ?_
  rintro e w' ⟨rfl, n, rfl⟩
  by_cases hd : 49 ≤ chr s (i + 1) ∧ chr s (i + 1) ≤ 57
  · have hr : inR (chr s (i + 1)) 49 57 = true := by simp [inR, hd.1, hd.2]
    rw [hr]
    have hlt2 : i + 1 < s.size := chr_in (by omega)
    have hcj : s[i + 1].toNat = chr s (i + 1) := by simp [chr, hlt2]
    have hv : IntKind.u8.wrap ((chr s (i + 1) : Int) - 48) = (chr s (i + 1) : Int) - 48 := IntWalk.u8_in _ ⟨by omega, by omega⟩
    have HF : Hid ((r : Int) = 1000 + 10 * ((chr s i : Int) - 97) + ((chr s (i + 1) : Int) - 48)) := by
      unfold Hid; rw [HE.out, vnum, if_pos hd]; omega
    have HK : Hid (j = i + 1 + 1) := HJ.out.trans (if_pos hd)
    have h2 := h1.drewN n
    have g2 := g1.drewN n
    generalize w1.drewN n = w2 at h2 g2 ⊢
    clear h1 g1
    obtain ⟨i1, hi1⟩ : ∃ i1, i1 = i + 1 := ⟨_, rfl⟩
    have HI1 : Hid (i1 = i + 1) := hi1
    have hcj' : s[i1]'(by omega) = s[i + 1] := by subst hi1; rfl
    have hlt3 : i1 < s.size := by omega
    rw [← hi1] at h2
    have c0 := h2.c0
    have c2 := h2.c2
    have f2 := h2.fz 2
    have hcn : s[i1].toNat = chr s (i + 1) := by rw [hcj']; exact hcj
    have HN2 : Hid (∀ m, R0 b s (i1 + 1) (-1) ((w2.drewN m).setCell ⟨b, 2, none⟩ (.int .i64 ((i1 : Int) + 1)))) := h2.next
    clear hr hi1 hcj hcj' hlt2
    go_wp2_with fail
    go_quiet (fail)
    go_wp2_with fail
    go_ret
    rw [HF.out, HK.out, ← HI1.out]
    exact ⟨rfl, HN2.out _, (g2.drewN _).setCell 2 _⟩
  · have hr : inR (chr s (i + 1)) 49 57 = false := by simp only [inR, Bool.and_eq_false_iff, decide_eq_false_iff_not]; omega
    rw [hr]
    have HF : Hid ((r : Int) = 1000 + 10 * ((chr s i : Int) - 97)) := by
      unfold Hid; rw [HE.out, vnum, if_neg hd]; omega
    have HK : Hid (j = i + 1) := HJ.out.trans (if_neg hd)
    clear hd
    go_wp2_with fail
    go_ret
    rw [HF.out, HK.out]
    exact ⟨rfl, h1.drewN n, g1.drewN n⟩
end Go.Proofs.YtceadeaodbadlaaDoor
