import Derived.Test.YtceadeaodbadlaaGreatDoorScan
set_option linter.unusedVariables false
set_option linter.unusedSimpArgs false
namespace Go.Proofs.YtceadeaodbadlaaGreatDoor
open Go.RowKit

/-- The package-level variables: those of package fault hold errors at tx (Long, Text, Free, Count, Mixed, Fixed, Type, Big, in this order); errors.errorType the handle of 'error'. -/
structure Gl (tx : Nat → Addr) (w : World) : Prop where
  errs : ∀ k, k < 8 → w.cell? ⟨k, 0, none⟩ = some (.iface 353 (.pointer (some (tx k))))
  hand : w.cell? ⟨8, 0, none⟩ = some (.iface 190 (.agg #[.pointer (some ⟨11, 55, none⟩)]))
  size : 9 ≤ w.heap.size

theorem Gl.below {tx : Nat → Addr} {w w' : World} (h : Gl tx w) {B : Nat} (hb : Below B w w') (hB : 9 ≤ B) : Gl tx w' :=
  ⟨fun k hk => (hb.cell (p := ⟨k, 0, none⟩) (by show k < B; omega)).trans (h.errs k hk), (hb.cell (p := ⟨8, 0, none⟩) (by show 8 < B; omega)).trans h.hand, Nat.le_trans h.size hb.size⟩

theorem Gl.gb {tx : Nat → Addr} {w w' : World} {b : Nat} (h : Gl tx w) (hb : Gb b w w') (hB : 9 ≤ b) : Gl tx w' := by
  have hs := h.size
  refine ⟨fun k hk => ?_, ?_, Nat.le_trans h.size hb.size⟩
  · rw [World.cell?_of_block (w := w) (a := ⟨k, 0, none⟩) (hb.block k (by omega) (by simp; omega))]; exact h.errs k hk
  · rw [World.cell?_of_block (w := w) (a := ⟨8, 0, none⟩) (hb.block 8 (by omega) (by simp; omega))]; exact h.hand
theorem Gl.text {tx : Nat → Addr} {w : World} (h : Gl tx w) : w.cell? ⟨1, 0, none⟩ = some (.iface 353 (.pointer (some (tx 1)))) := h.errs 1 (by decide)
theorem Gl.long {tx : Nat → Addr} {w : World} (h : Gl tx w) : w.cell? ⟨0, 0, none⟩ = some (.iface 353 (.pointer (some (tx 0)))) := h.errs 0 (by decide)

/-- An error of fault.At in block q: place i, around the error at a. -/
def AtErr (a : Addr) (q i : Nat) (w : World) : Prop := w.heap[q]? = some (.cells #[.int .i64 (i : Int), .iface 353 (.pointer (some a))] 91 (0, 0))

/-- The value of such an error. -/
abbrev atv (q : Nat) : Value := .iface 87 (.pointer (some ⟨q, 0, none⟩))

theorem AtErr.new (a : Addr) (i : Nat) (w : World) : AtErr a w.heap.size i (w.alloc (.cells #[.int .i64 (i : Int), .iface 353 (.pointer (some a))] 91)) := by
  unfold AtErr; exact heap_alloc_new w _

theorem AtErr.drewN {a : Addr} {q i : Nat} {w : World} (h : AtErr a q i w) (n : Nat) : AtErr a q i (w.drewN n) := h

set_option maxHeartbeats 400000 in
theorem wrong_any (tx : Nat → Addr) (b : Nat) (s : ByteArray) (i : Nat) (w : World) (h : Rd b s i w) (g : Gl tx w) :
    Calls Tryz.prog 153 #[.pointer (some ⟨b, 0, none⟩)] w fun e w' => ∃ q, e = .returned (atv q) ∧ AtErr (tx 1) q i w' ∧ Gb b w w' := by
  have h1 := h.place
  have h2 := g.text
  go_enter Tryz.func153, Tryz.ntmps153
  go_wp2
  go_region
  all_goals
    go_wp2
    go_ret
    exact ⟨_, rfl, (AtErr.new (tx 1) i w).drewN 1, ((Gb.refl b w).alloc _).drewN 1⟩

set_option maxHeartbeats 400000 in
theorem want_yes (b : Nat) (s : ByteArray) (i c : Nat) (w : World) (h : Rd b s i w) (hs : s.size ≤ 100000) (hc : chr s i = c) (h0 : c ≠ 0) :
    Calls Tryz.prog 185 #[.pointer (some ⟨b, 0, none⟩), .int .u8 (c : Int)] w fun e w' => e = .returned .nilIface ∧ Rd b s (i + 1) w' ∧ Gb b w w' := by
  have hlt : i < s.size := chr_in (by omega)
  have hq : s[i].toNat = c := by rw [← hc]; simp [chr, hlt]
  clear hc
  go_enter Tryz.func185, Tryz.ntmps185
  go_wp2_with fail
  refine (take_yes b s i c w h hlt hs hq).mono ?_
  rintro e w' ⟨rfl, hr, hg⟩
  go_wp2_with fail
  go_ret
  exact ⟨rfl, hr, hg⟩

set_option maxHeartbeats 400000 in
theorem want_no (tx : Nat → Addr) (b : Nat) (s : ByteArray) (i c : Nat) (w : World) (h : Rd b s i w) (g : Gl tx w) (hi : i ≤ s.size) (hs : s.size ≤ 100000) (hc : chr s i ≠ c) (hb : 9 ≤ b) :
    Calls Tryz.prog 185 #[.pointer (some ⟨b, 0, none⟩), .int .u8 (c : Int)] w fun e w' => ∃ q, e = .returned (atv q) ∧ AtErr (tx 1) q i w' ∧ Gb b w w' := by
  have hq : ∀ hlt : i < s.size, s[i].toNat ≠ c := by intro hlt e; apply hc; simp [chr, hlt, e]
  clear hc
  go_enter Tryz.func185, Tryz.ntmps185
  go_wp2_with fail
  refine (take_no b s i c w h hi hs hq).mono ?_
  rintro e w' ⟨rfl, n, rfl⟩
  clear hq
  go_wp2_with fail
  refine (wrong_any tx b s i _ (h.drewN n) (g.gb ((Gb.refl b w).drewN n) hb)).mono ?_
  rintro e w' ⟨q, rfl, ha, hg⟩
  go_wp2_with fail
  go_ret
  exact ⟨q, rfl, ha, ((Gb.refl b w).drewN n).trans hg⟩

theorem isLetter_any (c : Nat) (w : World) (hc : c < 256) :
    Calls Tryz.prog 210 #[.int .u8 (c : Int)] w fun e w' => e = .returned (.bool (isLet c)) ∧ w' = w := by
  by_cases h1 : 97 ≤ c
  · by_cases h2 : c ≤ 122
    · have hq : isLet c = true := by simp [isLet, h1, h2]
      rw [hq]
      clear hq
      go_enter Tryz.func210, Tryz.ntmps210
      go_wp2
      go_ret
      exact ⟨by first | rfl | (simp; omega), rfl⟩
    · have hq : isLet c = false := by simp [isLet, h2]
      rw [hq]
      clear hq
      go_enter Tryz.func210, Tryz.ntmps210
      go_wp2
      go_ret
      exact ⟨by first | rfl | (simp; omega), rfl⟩
  · have hq : isLet c = false := by simp [isLet, h1]
    rw [hq]
    clear hq
    go_enter Tryz.func210, Tryz.ntmps210
    go_wp2
    go_ret
    exact ⟨by first | rfl | (simp; omega), rfl⟩

set_option maxHeartbeats 400000 in
theorem letter_yes (b : Nat) (s : ByteArray) (i : Nat) (w : World) (h : Rd b s i w) (hs : s.size ≤ 100000) (hc : isLet (chr s i) = true) :
    Calls Tryz.prog 183 #[.pointer (some ⟨b, 0, none⟩)] w fun e w' => e = .returned (.tuple #[.int .u8 (chr s i), .nilIface]) ∧ Rd b s (i + 1) w' ∧ Gb b w w' := by
  have hlt : i < s.size := chr_in (by intro e; rw [e] at hc; exact absurd hc (by decide))
  have hl := chr_lt s i
  go_enter Tryz.func183, Tryz.ntmps183
  go_wp2_with fail
  refine (peek_any b s i w h (by omega) hs).mono ?_
  rintro e w' ⟨rfl, n, rfl⟩
  go_wp2_with fail
  refine (isLetter_any (chr s i) _ hl).mono ?_
  rintro e w' ⟨rfl, rfl⟩
  rw [hc]
  go_wp2_with fail
  refine (skip_any b s i _ (h.drewN n) hlt hs).mono ?_
  rintro e w' ⟨rfl, hr, hg⟩
  go_wp2_with fail
  go_ret2
  exact ⟨rfl, hr, ((Gb.refl b w).drewN n).trans hg⟩

set_option maxHeartbeats 400000 in
theorem letter_no (tx : Nat → Addr) (b : Nat) (s : ByteArray) (i : Nat) (w : World) (h : Rd b s i w) (g : Gl tx w) (hi : i ≤ s.size) (hs : s.size ≤ 100000) (hc : isLet (chr s i) = false) (hb : 9 ≤ b) :
    Calls Tryz.prog 183 #[.pointer (some ⟨b, 0, none⟩)] w fun e w' => ∃ q, e = .returned (.tuple #[.int .u8 0, atv q]) ∧ AtErr (tx 1) q i w' ∧ Gb b w w' := by
  have hl := chr_lt s i
  go_enter Tryz.func183, Tryz.ntmps183
  go_wp2_with fail
  refine (peek_any b s i w h (by omega) hs).mono ?_
  rintro e w' ⟨rfl, n, rfl⟩
  go_wp2_with fail
  refine (isLetter_any (chr s i) _ hl).mono ?_
  rintro e w' ⟨rfl, rfl⟩
  rw [hc]
  go_wp2_with fail
  refine (wrong_any tx b s i _ (h.drewN n) (g.gb ((Gb.refl b w).drewN n) hb)).mono ?_
  rintro e w' ⟨q, rfl, ha, hg⟩
  go_wp2_with fail
  go_ret2
  exact ⟨q, rfl, ha, ((Gb.refl b w).drewN n).trans hg⟩

set_option maxHeartbeats 400000 in
theorem end_yes (b : Nat) (s : ByteArray) (w : World) (h : Rd b s s.size w) (hs : s.size ≤ 100000) :
    Calls Tryz.prog 124 #[.pointer (some ⟨b, 0, none⟩)] w fun e w' => e = .returned .nilIface ∧ ∃ n, w' = w.drewN n := by
  have h0 := h.text
  have h1 := h.place
  clear h
  go_enter Tryz.func124, Tryz.ntmps124
  go_wp2
  go_quiet (fail)
  go_wp2
  go_ret
  exact ⟨rfl, _, rfl⟩

set_option maxHeartbeats 400000 in
theorem end_no (tx : Nat → Addr) (b : Nat) (s : ByteArray) (i : Nat) (w : World) (h : Rd b s i w) (g : Gl tx w) (hlt : i < s.size) (hs : s.size ≤ 100000) (hb : 9 ≤ b) :
    Calls Tryz.prog 124 #[.pointer (some ⟨b, 0, none⟩)] w fun e w' => ∃ q, e = .returned (atv q) ∧ AtErr (tx 1) q i w' ∧ Gb b w w' := by
  have h0 := h.text
  have h1 := h.place
  go_enter Tryz.func124, Tryz.ntmps124
  go_wp2_with fail
  go_quiet (fail)
  go_wp2_with fail
  refine (wrong_any tx b s i _ (h.drewN _) (g.gb ((Gb.refl b w).drewN _) hb)).mono ?_
  rintro e w' ⟨q, rfl, ha, hg⟩
  go_wp2_with fail
  go_ret
  exact ⟨q, rfl, ha, ((Gb.refl b w).drewN _).trans hg⟩

theorem new_any (s : ByteArray) (w : World) :
    Calls Tryz.prog 92 #[.string s] w fun e w' => e = .returned (.pointer (some ⟨w.heap.size, 0, none⟩)) ∧ w' = w.alloc (.cells #[.string s, .int .i64 0] 207) := by
  go_enter Tryz.func92, Tryz.ntmps92
  go_wp2
  go_ret
  exact ⟨rfl, rfl⟩
end Go.Proofs.YtceadeaodbadlaaGreatDoor
