import Derived.Test.YtceadeaodbadlaaGreatDoorProg
import Derived.Test.YtceadeaodbadlaaGreatDoorPure
import Derived.WalkKit
import Derived.WalkSmall
import Derived.Deep.QuietTactic
import Derived.Deep.RegionWith
import Derived.BigQuiet
set_option linter.unusedVariables false
set_option linter.unusedSimpArgs false
namespace Go.Proofs.YtceadeaodbadlaaGreatDoor
open Go.RowKit

/-- w' is w with new blocks, and with writes to block b alone. -/
def Gb (b : Nat) (w w' : World) : Prop := w.grownBy w' (some b)

theorem Gb.refl (b : Nat) (w : World) : Gb b w w := ⟨rfl, rfl, rfl, Nat.le_refl _, fun _ _ _ => rfl⟩
theorem Gb.trans {b : Nat} {x y z : World} (h : Gb b x y) (k : Gb b y z) : Gb b x z :=
  ⟨k.os.trans h.os, k.tape.trans h.tape, k.output.trans h.output, Nat.le_trans h.size k.size, fun i hi hn => (k.block i (Nat.lt_of_lt_of_le hi h.size) hn).trans (h.block i hi hn)⟩
theorem Gb.drewN {b : Nat} {x y : World} (h : Gb b x y) (n : Nat) : Gb b x (y.drewN n) := ⟨h.os, h.tape, h.output, h.size, h.block⟩
theorem Gb.alloc {b : Nat} {x y : World} (h : Gb b x y) (o : Obj) : Gb b x (y.alloc o) := h.trans (World.grownBy_alloc y o (some b))
theorem Gb.setCell {b : Nat} {x y : World} (h : Gb b x y) (k : Nat) (u : Value) : Gb b x (y.setCell ⟨b, k, none⟩ u) :=
  h.trans ⟨rfl, rfl, rfl, by simp [World.setCell], fun i _ hn => Below.heap_setCell _ _ _ _ (by simpa using hn)⟩
theorem Gb.size {b : Nat} {x y : World} (h : Gb b x y) : x.heap.size ≤ y.heap.size := World.grownBy.size h
theorem Gb.old {b : Nat} {x y : World} (h : Gb b x y) {c : Nat} {o : Obj} (hc : x.heap[c]? = some o) (hn : c ≠ b) : y.heap[c]? = some o := by
  rw [h.block c (Array.getElem?_eq_some_iff.1 hc).1 (by simpa using hn)]; exact hc

/-- A Reader of package scan: in block b; its text s, its place i. -/
def Rd (b : Nat) (s : ByteArray) (i : Nat) (w : World) : Prop := w.heap[b]? = some (.cells #[.string s, .int .i64 (i : Int)] 207 (0, 0))

theorem Rd.text {b : Nat} {s : ByteArray} {i : Nat} {w : World} (h : Rd b s i w) : w.cell? ⟨b, 0, none⟩ = some (.string s) := by
  unfold Rd at h; simp [World.cell?, h]
theorem Rd.place {b : Nat} {s : ByteArray} {i : Nat} {w : World} (h : Rd b s i w) : w.cell? ⟨b, 1, none⟩ = some (.int .i64 (i : Int)) := by
  unfold Rd at h; simp [World.cell?, h]
theorem Rd.free {b : Nat} {s : ByteArray} {i : Nat} {w : World} (h : Rd b s i w) : w.frozen? ⟨b, 1, none⟩ = false := by
  unfold Rd at h; simp [World.frozen?, h]
theorem Rd.lt {b : Nat} {s : ByteArray} {i : Nat} {w : World} (h : Rd b s i w) : b < w.heap.size := (Array.getElem?_eq_some_iff.1 h).1
theorem Rd.drewN {b : Nat} {s : ByteArray} {i : Nat} {w : World} (h : Rd b s i w) (n : Nat) : Rd b s i (w.drewN n) := h
theorem Rd.alloc {b : Nat} {s : ByteArray} {i : Nat} {w : World} (h : Rd b s i w) (o : Obj) : Rd b s i (w.alloc o) := by
  unfold Rd at *; rw [Below.heap_alloc _ _ _ (Array.getElem?_eq_some_iff.1 h).1]; exact h
theorem Rd.set {b : Nat} {s : ByteArray} {i : Nat} {w : World} (h : Rd b s i w) (j : Nat) : Rd b s j (w.setCell ⟨b, 1, none⟩ (.int .i64 (j : Int))) := by
  unfold Rd at *
  simp [World.setCell, Array.getElem?_modify, h]
theorem Rd.new (s : ByteArray) (w : World) : Rd w.heap.size s 0 (w.alloc (.cells #[.string s, .int .i64 0] 207)) := by
  unfold Rd; exact heap_alloc_new w _


set_option maxHeartbeats 400000 in
theorem peek_any (b : Nat) (s : ByteArray) (i : Nat) (w : World) (h : Rd b s i w) (hi : i ≤ s.size) (hs : s.size ≤ 100000) :
    Calls Tryz.prog 189 #[.pointer (some ⟨b, 0, none⟩)] w fun e w' => e = .returned (.int .u8 (chr s i)) ∧ ∃ n, w' = w.drewN n := by
  have h0 := h.text
  have h1 := h.place
  by_cases hlt : i < s.size
  · have hc : chr s i = s[i].toNat := by simp [chr, hlt]
    rw [hc]
    clear hc h
    have he : ((i : Int) == (s.size : Int)) = false := by rw [beq_eq_false_iff_ne]; omega
    go_enter Tryz.func189, Tryz.ntmps189
    go_wp2
    go_quiet (fail)
    go_wp2
    go_quiet (fail)
    go_wp2
    go_ret
    exact ⟨rfl, _, World.drewN_drewN ..⟩
  · have hc : chr s i = 0 := by simp [chr, hlt]
    rw [hc]
    clear hc h
    have he : ((i : Int) == (s.size : Int)) = true := by rw [beq_iff_eq]; omega
    go_enter Tryz.func189, Tryz.ntmps189
    go_wp2
    go_quiet (fail)
    go_wp2
    go_ret
    exact ⟨rfl, _, rfl⟩

theorem Rd.next {b : Nat} {s : ByteArray} {i : Nat} {w : World} (h : Rd b s i w) (n : Nat) : Rd b s (i + 1) ((w.drewN n).setCell ⟨b, 1, none⟩ (.int .i64 ((i : Int) + 1))) := by
  have := (h.drewN n).set (i + 1)
  rwa [Int.natCast_add] at this

set_option maxHeartbeats 400000 in
theorem skip_any (b : Nat) (s : ByteArray) (i : Nat) (w : World) (h : Rd b s i w) (hlt : i < s.size) (hs : s.size ≤ 100000) :
    Calls Tryz.prog 211 #[.pointer (some ⟨b, 0, none⟩)] w fun e w' => e = .returned (.tuple #[]) ∧ Rd b s (i + 1) w' ∧ Gb b w w' := by
  have h0 := h.text
  have h1 := h.place
  have h2 := h.free
  have hr := h.next
  go_enter Tryz.func211, Tryz.ntmps211
  go_wp2
  go_quiet (fail)
  go_wp2
  go_end0
  exact ⟨rfl, hr _, ((Gb.refl b w).drewN _).setCell 1 _⟩

/-- Take: the byte that may stand here stands here. -/
theorem take_yes (b : Nat) (s : ByteArray) (i c : Nat) (w : World) (h : Rd b s i w) (hlt : i < s.size) (hs : s.size ≤ 100000) (hc : s[i].toNat = c) :
    Calls Tryz.prog 149 #[.pointer (some ⟨b, 0, none⟩), .int .u8 (c : Int)] w fun e w' => e = .returned (.bool true) ∧ Rd b s (i + 1) w' ∧ Gb b w w' := by
  have h0 := h.text
  have h1 := h.place
  have h2 := h.free
  have hr := h.next
  have he : ((i : Int) == (s.size : Int)) = false := by rw [beq_eq_false_iff_ne]; omega
  have hq : ((s[i].toNat : Int) != (c : Int)) = false := by rw [hc]; simp
  clear hc
  go_enter Tryz.func149, Tryz.ntmps149
  go_wp2
  go_quiet (fail)
  go_wp2
  go_ret
  exact ⟨rfl, hr _, ((Gb.refl b w).drewN _).setCell 1 _⟩

/-- Take: another byte stands here, or none. -/
theorem take_no (b : Nat) (s : ByteArray) (i c : Nat) (w : World) (h : Rd b s i w) (hi : i ≤ s.size) (hs : s.size ≤ 100000) (hc : ∀ hlt : i < s.size, s[i].toNat ≠ c) :
    Calls Tryz.prog 149 #[.pointer (some ⟨b, 0, none⟩), .int .u8 (c : Int)] w fun e w' => e = .returned (.bool false) ∧ ∃ n, w' = w.drewN n := by
  have h0 := h.text
  have h1 := h.place
  by_cases hlt : i < s.size
  · have he : ((i : Int) == (s.size : Int)) = false := by rw [beq_eq_false_iff_ne]; omega
    have hq : ((s[i].toNat : Int) != (c : Int)) = true := by have := hc hlt; rw [bne_iff_ne]; omega
    clear hc
    go_enter Tryz.func149, Tryz.ntmps149
    go_wp2
    go_quiet (fail)
    go_wp2
    go_ret
    exact ⟨rfl, _, rfl⟩
  · have he : ((i : Int) == (s.size : Int)) = true := by rw [beq_iff_eq]; omega
    clear hc
    go_enter Tryz.func149, Tryz.ntmps149
    go_wp2
    go_quiet (fail)
    go_wp2
    go_ret
    exact ⟨rfl, _, rfl⟩
end Go.Proofs.YtceadeaodbadlaaGreatDoor
