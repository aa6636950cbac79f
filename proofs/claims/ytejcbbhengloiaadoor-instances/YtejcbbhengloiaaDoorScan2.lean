import Derived.Test.YtejcbbhengloiaaDoorScan
set_option linter.unusedVariables false
set_option linter.unusedSimpArgs false
namespace Go.Proofs.YtejcbbhengloiaaDoor
open Go.RowKit

/-- The package-level variables: fault.Long and fault.Text hold errors at tl and tx; errors.errorType the handle of 'error'. -/
structure Gl (tl tx : Addr) (w : World) : Prop where
  long : w.cell? ⟨0, 0, none⟩ = some (.iface 181 (.pointer (some tl)))
  text : w.cell? ⟨1, 0, none⟩ = some (.iface 181 (.pointer (some tx)))
  hand : w.cell? ⟨2, 0, none⟩ = some (.iface 132 (.agg #[.pointer (some ⟨4, 36, none⟩)]))
  size : 3 ≤ w.heap.size

theorem Gl.below {tl tx : Addr} {w w' : World} (h : Gl tl tx w) {B : Nat} (hb : Below B w w') (hB : 3 ≤ B) : Gl tl tx w' :=
  ⟨(hb.cell (p := ⟨0, 0, none⟩) (by show 0 < B; omega)).trans h.long, (hb.cell (p := ⟨1, 0, none⟩) (by show 1 < B; omega)).trans h.text, (hb.cell (p := ⟨2, 0, none⟩) (by show 2 < B; omega)).trans h.hand, Nat.le_trans h.size hb.size⟩

theorem Gl.gb {tl tx : Addr} {w w' : World} {b : Nat} (h : Gl tl tx w) (hb : Gb b w w') (hB : 3 ≤ b) : Gl tl tx w' := by
  have hs := h.size
  refine ⟨?_, ?_, ?_, Nat.le_trans h.size hb.size⟩
  · rw [World.cell?_of_block (w := w) (a := ⟨0, 0, none⟩) (hb.block 0 (by omega) (by simp; omega))]; exact h.long
  · rw [World.cell?_of_block (w := w) (a := ⟨1, 0, none⟩) (hb.block 1 (by omega) (by simp; omega))]; exact h.text
  · rw [World.cell?_of_block (w := w) (a := ⟨2, 0, none⟩) (hb.block 2 (by omega) (by simp; omega))]; exact h.hand

/-- An error of fault.At in block q: place i, around fault.Text. -/
def AtErr (tx : Addr) (q i : Nat) (w : World) : Prop := w.heap[q]? = some (.cells #[.int .i64 (i : Int), .iface 181 (.pointer (some tx))] 63 (0, 0))

/-- The value of such an error. -/
abbrev atv (q : Nat) : Value := .iface 59 (.pointer (some ⟨q, 0, none⟩))

theorem AtErr.new (tx : Addr) (i : Nat) (w : World) : AtErr tx w.heap.size i (w.alloc (.cells #[.int .i64 (i : Int), .iface 181 (.pointer (some tx))] 63)) := by
  unfold AtErr; exact heap_alloc_new w _

theorem AtErr.drewN {tx : Addr} {q i : Nat} {w : World} (h : AtErr tx q i w) (n : Nat) : AtErr tx q i (w.drewN n) := h

set_option maxHeartbeats 400000 in
theorem wrong_any (tl tx : Addr) (b : Nat) (s : ByteArray) (i : Nat) (w : World) (h : Rd b s i w) (g : Gl tl tx w) :
    Calls Tryd.prog 62 #[.pointer (some ⟨b, 0, none⟩)] w fun e w' => ∃ q, e = .returned (atv q) ∧ AtErr tx q i w' ∧ Gb b w w' := by
  have h1 := h.place
  have h2 := g.text
  go_enter Tryd.func62, Tryd.ntmps62
  go_wp2
  go_region
  all_goals
    go_wp2
    go_ret
    exact ⟨_, rfl, (AtErr.new tx i w).drewN 1, ((Gb.refl b w).alloc _).drewN 1⟩

set_option maxHeartbeats 400000 in
theorem want_yes (b : Nat) (s : ByteArray) (i c : Nat) (w : World) (h : Rd b s i w) (hs : s.size ≤ 100000) (hc : chr s i = c) (h0 : c ≠ 0) :
    Calls Tryd.prog 81 #[.pointer (some ⟨b, 0, none⟩), .int .u8 (c : Int)] w fun e w' => e = .returned .nilIface ∧ Rd b s (i + 1) w' ∧ Gb b w w' := by
  have hlt : i < s.size := chr_in (by omega)
  have hq : s[i].toNat = c := by rw [← hc]; simp [chr, hlt]
  clear hc
  go_enter Tryd.func81, Tryd.ntmps81
  go_wp2_with fail
  refine (take_yes b s i c w h hlt hs hq).mono ?_
  rintro e w' ⟨rfl, hr, hg⟩
  go_wp2_with fail
  go_ret
  exact ⟨rfl, hr, hg⟩

set_option maxHeartbeats 400000 in
theorem want_no (tl tx : Addr) (b : Nat) (s : ByteArray) (i c : Nat) (w : World) (h : Rd b s i w) (g : Gl tl tx w) (hi : i ≤ s.size) (hs : s.size ≤ 100000) (hc : chr s i ≠ c) (hb : 3 ≤ b) :
    Calls Tryd.prog 81 #[.pointer (some ⟨b, 0, none⟩), .int .u8 (c : Int)] w fun e w' => ∃ q, e = .returned (atv q) ∧ AtErr tx q i w' ∧ Gb b w w' := by
  have hq : ∀ hlt : i < s.size, s[i].toNat ≠ c := by intro hlt e; apply hc; simp [chr, hlt, e]
  clear hc
  go_enter Tryd.func81, Tryd.ntmps81
  go_wp2_with fail
  refine (take_no b s i c w h hi hs hq).mono ?_
  rintro e w' ⟨rfl, n, rfl⟩
  clear hq
  go_wp2_with fail
  refine (wrong_any tl tx b s i _ (h.drewN n) (g.gb ((Gb.refl b w).drewN n) hb)).mono ?_
  rintro e w' ⟨q, rfl, ha, hg⟩
  go_wp2_with fail
  go_ret
  exact ⟨q, rfl, ha, ((Gb.refl b w).drewN n).trans hg⟩

theorem isLetter_any (c : Nat) (w : World) (hc : c < 256) :
    Calls Tryd.prog 89 #[.int .u8 (c : Int)] w fun e w' => e = .returned (.bool (isLet c)) ∧ w' = w := by
  by_cases h1 : 97 ≤ c
  · by_cases h2 : c ≤ 122
    · have hq : isLet c = true := by simp [isLet, h1, h2]
      rw [hq]
      clear hq
      go_enter Tryd.func89, Tryd.ntmps89
      go_wp2
      go_ret
      exact ⟨by first | rfl | (simp; omega), rfl⟩
    · have hq : isLet c = false := by simp [isLet, h2]
      rw [hq]
      clear hq
      go_enter Tryd.func89, Tryd.ntmps89
      go_wp2
      go_ret
      exact ⟨by first | rfl | (simp; omega), rfl⟩
  · have hq : isLet c = false := by simp [isLet, h1]
    rw [hq]
    clear hq
    go_enter Tryd.func89, Tryd.ntmps89
    go_wp2
    go_ret
    exact ⟨by first | rfl | (simp; omega), rfl⟩

set_option maxHeartbeats 400000 in
theorem letter_yes (b : Nat) (s : ByteArray) (i : Nat) (w : World) (h : Rd b s i w) (hs : s.size ≤ 100000) (hc : isLet (chr s i) = true) :
    Calls Tryd.prog 87 #[.pointer (some ⟨b, 0, none⟩)] w fun e w' => e = .returned (.tuple #[.int .u8 (chr s i), .nilIface]) ∧ Rd b s (i + 1) w' ∧ Gb b w w' := by
  have hlt : i < s.size := chr_in (by intro e; rw [e] at hc; exact absurd hc (by decide))
  have hl := chr_lt s i
  go_enter Tryd.func87, Tryd.ntmps87
  go_wp2_with fail
  refine (peek_any b s i w h (by omega) hs).mono ?_
  rintro e w' ⟨rfl, n, rfl⟩
  go_wp2_with fail
  refine (isLetter_any (chr s i) _ hl).mono ?_
  rintro e w' ⟨rfl, rfl⟩
  rw [hc]
  go_wp2_with fail
  refine (skip_any b s i _ (h.drewN n) hlt hs).mono ?_
  rintro e w' ⟨rfl, hr, hg⟩
  go_wp2_with fail
  go_ret2
  exact ⟨rfl, hr, ((Gb.refl b w).drewN n).trans hg⟩

set_option maxHeartbeats 400000 in
theorem letter_no (tl tx : Addr) (b : Nat) (s : ByteArray) (i : Nat) (w : World) (h : Rd b s i w) (g : Gl tl tx w) (hi : i ≤ s.size) (hs : s.size ≤ 100000) (hc : isLet (chr s i) = false) (hb : 3 ≤ b) :
    Calls Tryd.prog 87 #[.pointer (some ⟨b, 0, none⟩)] w fun e w' => ∃ q, e = .returned (.tuple #[.int .u8 0, atv q]) ∧ AtErr tx q i w' ∧ Gb b w w' := by
  have hl := chr_lt s i
  go_enter Tryd.func87, Tryd.ntmps87
  go_wp2_with fail
  refine (peek_any b s i w h (by omega) hs).mono ?_
  rintro e w' ⟨rfl, n, rfl⟩
  go_wp2_with fail
  refine (isLetter_any (chr s i) _ hl).mono ?_
  rintro e w' ⟨rfl, rfl⟩
  rw [hc]
  go_wp2_with fail
  refine (wrong_any tl tx b s i _ (h.drewN n) (g.gb ((Gb.refl b w).drewN n) hb)).mono ?_
  rintro e w' ⟨q, rfl, ha, hg⟩
  go_wp2_with fail
  go_ret2
  exact ⟨q, rfl, ha, ((Gb.refl b w).drewN n).trans hg⟩

set_option maxHeartbeats 400000 in
theorem end_yes (b : Nat) (s : ByteArray) (w : World) (h : Rd b s s.size w) (hs : s.size ≤ 100000) :
    Calls Tryd.prog 32 #[.pointer (some ⟨b, 0, none⟩)] w fun e w' => e = .returned .nilIface ∧ ∃ n, w' = w.drewN n := by
  have h0 := h.text
  have h1 := h.place
  clear h
  go_enter Tryd.func32, Tryd.ntmps32
  go_wp2
  go_quiet (fail)
  go_wp2
  go_ret
  exact ⟨rfl, _, rfl⟩

set_option maxHeartbeats 400000 in
theorem end_no (tl tx : Addr) (b : Nat) (s : ByteArray) (i : Nat) (w : World) (h : Rd b s i w) (g : Gl tl tx w) (hlt : i < s.size) (hs : s.size ≤ 100000) (hb : 3 ≤ b) :
    Calls Tryd.prog 32 #[.pointer (some ⟨b, 0, none⟩)] w fun e w' => ∃ q, e = .returned (atv q) ∧ AtErr tx q i w' ∧ Gb b w w' := by
  have h0 := h.text
  have h1 := h.place
  go_enter Tryd.func32, Tryd.ntmps32
  go_wp2_with fail
  go_quiet (fail)
  go_wp2_with fail
  refine (wrong_any tl tx b s i _ (h.drewN _) (g.gb ((Gb.refl b w).drewN _) hb)).mono ?_
  rintro e w' ⟨q, rfl, ha, hg⟩
  go_wp2_with fail
  go_ret
  exact ⟨q, rfl, ha, ((Gb.refl b w).drewN _).trans hg⟩

theorem new_any (s : ByteArray) (w : World) :
    Calls Tryd.prog 30 #[.string s] w fun e w' => e = .returned (.pointer (some ⟨w.heap.size, 0, none⟩)) ∧ w' = w.alloc (.cells #[.string s, .int .i64 0] 115) := by
  go_enter Tryd.func30, Tryd.ntmps30
  go_wp2
  go_ret
  exact ⟨rfl, rfl⟩
end Go.Proofs.YtejcbbhengloiaaDoor
