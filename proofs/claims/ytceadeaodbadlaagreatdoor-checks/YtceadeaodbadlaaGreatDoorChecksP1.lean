import Derived.Test.YtceadeaodbadlaaGreatDoorProg
import Derived.WalkKit
import Derived.KernelRfl
import Derived.Deep.RegionHeld3
import Derived.Lib.OthersKept
import Derived.WalkSmall
import Derived.Deep.QuietTactic
import Derived.Deep.RegionWith
import Derived.BigQuiet
import Derived.LaidEql
import Derived.Stop.Asserts
import Derived.RowKitTokens
import Derived.Test.YtceadeaodbadlaaGreatDoorTie
import Derived.Test.YtceadeaodbadlaaGreatDoorCards
import Derived.ProofKit
import Derived.LaidMore
import Derived.LaidSub
import Derived.LaidHandle
import Derived.Stop.Joined
import Derived.Stop.LaidTwo
import Derived.SevenTiedAt
import Derived.Deep.Trees
import Derived.Laws.Rows
import Derived.Defers
import Derived.Laws.StructEq
import Derived.Laws.BitsAllLaws
import Derived.Laws.BitsAll
import Derived.Laws.ShiftsVar
import Derived.Shelf.Abstract
set_option linter.unusedVariables false
set_option linter.unusedSimpArgs false
set_option maxRecDepth 100000
set_option maxHeartbeats 8000000
namespace Go.Proofs.YtceadeaodbadlaaGreatDoor
section
variable {P : Program} {ops : Array Oper} {Q : Exit -> Act -> World -> Prop} {md : Region.Mode} {S : World -> Prop}
theorem tkS (i : Nat) (v : Value) {oi : Oper} {fuel : Nat} {listed : Array Bool} {a a' : Act} {w : World} (hS : S w)
 (h : wpAnyH P md ops Q S fuel (listed.setIfInBounds i true) a' w) (hi : ops[i]? = some oi := by rfl)
 (hs : Region.noSelect ops = true := by kernel_rfl) (hf : Region.free md ops listed i = true := by kernel_rfl) (hr : (Region.ready md ops listed).contains i = true := by kernel_rfl)
 (hQ : ∀ c a w, Q (.panic c) (a.put oi.dst v) w -> Q (.panic c) a w := by exact fun _ _ _ h => h)
 (hy : YieldsIf P ops S oi v a := by exact Or.inl ⟨by rfl, fun w hSw => by go_simp⟩)
 (ha : a.put oi.dst v = a' := by (try simp only [List.getElem_toArray, List.getElem_cons_succ, List.getElem_cons_zero, Act.put, List.setIfInBounds_toArray, List.set_cons_zero, List.set_cons_succ]); exact rfl) :
 wpAnyH P md ops Q S (fuel + 1) listed a w := wpAnyH_take hi hs hf hr hQ hy hS (ha ▸ h)
theorem tkL (i : Nat) (v : Value) {oi : Oper} {fuel : Nat} {listed : Array Bool} {a a' : Act} {w : World} (hS : S w)
 (h : wpAnyH P md ops Q S fuel (listed.setIfInBounds i true) a' w) (hi : ops[i]? = some oi := by rfl)
 (hs : Region.noSelect ops = true := by kernel_rfl) (hf : Region.free md ops listed i = true := by kernel_rfl) (hr : (Region.ready md ops listed).contains i = true := by kernel_rfl)
 (hQ : ∀ c a w, Q (.panic c) (a.put oi.dst v) w -> Q (.panic c) a w := by exact fun _ _ _ h => h)
 (hy : YieldsIf P ops S oi v a := by exact Or.inl ⟨by rfl, fun w hSw => by (try dsimp only at hSw); go_split_ands; go_simp⟩)
 (ha : a.put oi.dst v = a' := by (try simp only [List.getElem_toArray, List.getElem_cons_succ, List.getElem_cons_zero, Act.put, List.setIfInBounds_toArray, List.set_cons_zero, List.set_cons_succ]); exact rfl) :
 wpAnyH P md ops Q S (fuel + 1) listed a w := wpAnyH_take hi hs hf hr hQ hy hS (ha ▸ h)
theorem tkU (i : Nat) {oi : Oper} {fuel : Nat} {listed : Array Bool} {a a' : Act} {w : World} (hS : S w)
 (h : wpAnyH P md ops Q S fuel (listed.setIfInBounds i true) a' w) (hi : ops[i]? = some oi := by rfl)
 (hs : Region.noSelect ops = true := by kernel_rfl) (hf : Region.free md ops listed i = true := by kernel_rfl) (hr : (Region.ready md ops listed).contains i = true := by kernel_rfl)
 (hQ : ∀ c a w, Q (.panic c) (a.put oi.dst undef) w -> Q (.panic c) a w := by exact fun _ _ _ h => h)
 (hy : YieldsIf P ops S oi undef a := by exact Or.inr ⟨by rfl, rfl⟩)
 (ha : a.put oi.dst undef = a' := by (try simp only [List.getElem_toArray, List.getElem_cons_succ, List.getElem_cons_zero, Act.put, List.setIfInBounds_toArray, List.set_cons_zero, List.set_cons_succ]); exact rfl) :
 wpAnyH P md ops Q S (fuel + 1) listed a w := wpAnyH_take hi hs hf hr hQ hy hS (ha ▸ h)
theorem nrm {fuel : Nat} {listed : Array Bool} {a a' : Act} {w : World} (h : wpAnyH P md ops Q S fuel listed a' w)
 (ha : a = a' := by (try simp only [List.getElem_toArray, List.getElem_cons_succ, List.getElem_cons_zero, Act.put, List.setIfInBounds_toArray, List.set_cons_zero, List.set_cons_succ]); exact rfl) :
 wpAnyH P md ops Q S fuel listed a w := ha ▸ h
theorem rd1 (i : Nat) {o : Oper} {fuel : Nat} {listed : Array Bool} {a : Act} {w : World}
 (h : ∀ K' : Act -> World -> Prop, Shut (∀ a w, S w -> (S w -> wpAnyH P md ops Q S fuel (listed.setIfInBounds i true) a w) -> K' a w) -> if Region.wanted o (yielded ops a.tmps) = true then Oper.wp P o a w K' Q else K' (a.put o.dst undef) w)
 (hr : Region.ready md ops listed = [i] := by kernel_rfl) (ho : ops[i]? = some o := by rfl) : wpAnyH P md ops Q S (fuel + 1) listed a w :=
 wpAnyH_ready hr (by simp) (AllReadyH.cons ho h AllReadyH.nil)
end
end Go.Proofs.YtceadeaodbadlaaGreatDoor
namespace Go.Proofs.YtceadeaodbadlaaGreatDoor
open Go.RowKit
theorem bal (w : World) (o : Obj) : Below w.heap.size w (w.alloc o) := (Below.refl _ w).alloc (Nat.le_refl _) o
theorem cbl {w : World} {b j : Nat} {A : Array Value} {T : TypeId} {fz : Nat × Nat} {v : Value} (h : w.heap[b]? = some (.cells A T fz)) (hv : A[j]? = some v := by rfl) : w.cell? ⟨b, j, none⟩ = some v := by
 rw [Lib.cell_of_heap h]; exact hv
end Go.Proofs.YtceadeaodbadlaaGreatDoor
namespace Go.Proofs.YtceadeaodbadlaaGreatDoor
def chr (s : ByteArray) (i : Nat) : Nat := if h : i < s.size then s[i].toNat else 0
theorem zkf (s : ByteArray) (i : Nat) : chr s i < 256 := by
 unfold chr; split
 · exact s[i].toNat_lt
 · omega
theorem zaf {s : ByteArray} {i : Nat} (h : chr s i ≠ 0) : i < s.size := by
 unfold chr at h; split at h
 · assumption
 · simp at h
def isLet (c : Nat) : Bool := decide (97 <= c) && decide (c <= 122)
def isCon (c : Nat) : Bool := c == 78 || c == 67 || c == 80 || c == 76 || c == 82 || c == 74 || c == 69 || c == 65 || c == 89 || c == 68
def isLit (c : Nat) : Bool := (decide (48 <= c) && decide (c <= 57)) || c == 84 || c == 70
def zal (c : Nat) : Bool := c == 40 || isLet c || isCon c || isLit c
theorem zcd {c : Nat} (h : zal c = true) : c ≠ 0 := by
 rintro rfl; revert h; decide
def firstOf (k : Nat) (f : List UInt8) : List UInt8 := if k = 2 then 40 :: (f ++ [41]) else f
def secondOf (k : Nat) (f : List UInt8) : List UInt8 := if k = 0 then f else 40 :: (f ++ [41])
abbrev Out : Type := Except Nat (Nat × List UInt8 × Nat)
def u8 (c : Nat) : UInt8 := UInt8.ofNat c
def pr (s : ByteArray) : Nat -> Nat -> Nat -> Nat -> List UInt8 -> Out
 | 0, _, i, _, _ => .error i
 | n + 1, 0, i, _, _ =>
  if chr s i = 92 then
   if isLet (chr s (i + 1)) then
    if chr s (i + 2) = 46 then
     match pr s n 0 (i + 3) 0 [] with
     | .error p => .error p
     | .ok (_, f, j) => .ok (2, 92 :: u8 (chr s (i + 1)) :: 46 :: f, j)
    else .error (i + 2)
   else .error (i + 1)
  else if chr s i = 64 then
   if isLet (chr s (i + 1)) then
    if chr s (i + 2) = 61 then
     match pr s n 0 (i + 3) 0 [] with
     | .error p => .error p
     | .ok (_, f, j) =>
      if chr s j = 59 then
       match pr s n 0 (j + 1) 0 [] with
       | .error p => .error p
       | .ok (_, g, l) => .ok (2, 64 :: u8 (chr s (i + 1)) :: 61 :: (f ++ 59 :: g), l)
      else .error j
    else .error (i + 2)
   else .error (i + 1)
  else
   match pr s n 2 i 0 [] with
   | .error p => .error p
   | .ok (k, f, j) => pr s n 1 j k f
 | n + 1, 1, i, k, f =>
  if zal (chr s i) then
   match pr s n 2 i 0 [] with
   | .error p => .error p
   | .ok (l, g, j) => pr s n 1 j 1 (firstOf k f ++ secondOf l g)
  else .ok (k, f, i)
 | n + 1, _ + 2, i, _, _ =>
  if zal (chr s i) then
   if chr s i = 40 then
    match pr s n 0 (i + 1) 0 [] with
    | .error p => .error p
    | .ok (k, f, j) => if chr s j = 41 then .ok (k, f, j + 1) else .error j
   else .ok (0, [u8 (chr s i)], i + 1)
  else .error i
def whole (s : ByteArray) : Except Nat (List UInt8) :=
 match pr s (3 * s.size + 2) 0 0 0 [] with
 | .error p => .error p
 | .ok (_, f, j) => if j < s.size then .error j else .ok f
end Go.Proofs.YtceadeaodbadlaaGreatDoor
namespace Go.Proofs.YtceadeaodbadlaaGreatDoor
open Go.RowKit
def Gb (b : Nat) (w w' : World) : Prop := w.grownBy w' (some b)
theorem Gb.refl (b : Nat) (w : World) : Gb b w w := ⟨rfl, rfl, rfl, Nat.le_refl _, fun _ _ _ => rfl⟩
theorem Gb.trans {b : Nat} {x y z : World} (h : Gb b x y) (k : Gb b y z) : Gb b x z :=
 ⟨k.os.trans h.os, k.tape.trans h.tape, k.output.trans h.output, Nat.le_trans h.size k.size, fun i hi hn => (k.block i (Nat.lt_of_lt_of_le hi h.size) hn).trans (h.block i hi hn)⟩
theorem Gb.drewN {b : Nat} {x y : World} (h : Gb b x y) (n : Nat) : Gb b x (y.drewN n) := ⟨h.os, h.tape, h.output, h.size, h.block⟩
theorem Gb.alloc {b : Nat} {x y : World} (h : Gb b x y) (o : Obj) : Gb b x (y.alloc o) := h.trans (World.grownBy_alloc y o (some b))
theorem Gb.setCell {b : Nat} {x y : World} (h : Gb b x y) (k : Nat) (u : Value) : Gb b x (y.setCell ⟨b, k, none⟩ u) :=
 h.trans ⟨rfl, rfl, rfl, by simp [World.setCell], fun i _ hn => Below.heap_setCell _ _ _ _ (by simpa using hn)⟩
theorem Gb.size {b : Nat} {x y : World} (h : Gb b x y) : x.heap.size <= y.heap.size := World.grownBy.size h
theorem Gb.old {b : Nat} {x y : World} (h : Gb b x y) {c : Nat} {o : Obj} (hc : x.heap[c]? = some o) (hn : c ≠ b) : y.heap[c]? = some o := by
 rw [h.block c (Array.getElem?_eq_some_iff.1 hc).1 (by simpa using hn)]; exact hc
def Rd (b : Nat) (s : ByteArray) (i : Nat) (w : World) : Prop := w.heap[b]? = some (.cells #[.string s, .int .i64 (i : Int)] 207 (0, 0))
theorem Rd.text {b : Nat} {s : ByteArray} {i : Nat} {w : World} (h : Rd b s i w) : w.cell? ⟨b, 0, none⟩ = some (.string s) := by
 unfold Rd at h; simp [World.cell?, h]
theorem Rd.place {b : Nat} {s : ByteArray} {i : Nat} {w : World} (h : Rd b s i w) : w.cell? ⟨b, 1, none⟩ = some (.int .i64 (i : Int)) := by
 unfold Rd at h; simp [World.cell?, h]
theorem Rd.free {b : Nat} {s : ByteArray} {i : Nat} {w : World} (h : Rd b s i w) : w.frozen? ⟨b, 1, none⟩ = false := by
 unfold Rd at h; simp [World.frozen?, h]
theorem Rd.lt {b : Nat} {s : ByteArray} {i : Nat} {w : World} (h : Rd b s i w) : b < w.heap.size := (Array.getElem?_eq_some_iff.1 h).1
theorem Rd.drewN {b : Nat} {s : ByteArray} {i : Nat} {w : World} (h : Rd b s i w) (n : Nat) : Rd b s i (w.drewN n) := h
theorem Rd.alloc {b : Nat} {s : ByteArray} {i : Nat} {w : World} (h : Rd b s i w) (o : Obj) : Rd b s i (w.alloc o) := by
 unfold Rd at *; rw [Below.heap_alloc _ _ _ (Array.getElem?_eq_some_iff.1 h).1]; exact h
theorem Rd.set {b : Nat} {s : ByteArray} {i : Nat} {w : World} (h : Rd b s i w) (j : Nat) : Rd b s j (w.setCell ⟨b, 1, none⟩ (.int .i64 (j : Int))) := by
 unfold Rd at *
 simp [World.setCell, Array.getElem?_modify, h]
theorem Rd.new (s : ByteArray) (w : World) : Rd w.heap.size s 0 (w.alloc (.cells #[.string s, .int .i64 0] 207)) := by
 unfold Rd; exact heap_alloc_new w _
theorem zej (b : Nat) (s : ByteArray) (i : Nat) (w : World) (h : Rd b s i w) (hi : i <= s.size) (hs : s.size <= 100000) :
 Calls Tryz.prog 189 #[.pointer (some ⟨b, 0, none⟩)] w fun e w' => e = .returned (.int .u8 (chr s i)) /\ ∃ n, w' = w.drewN n := by
 have h0 := h.text
 have h1 := h.place
 by_cases hlt : i < s.size
 · have hc : chr s i = s[i].toNat := by simp [chr, hlt]
   rw [hc]
   clear hc h
   have he : ((i : Int) == (s.size : Int)) = false := by rw [beq_eq_false_iff_ne]; omega
   go_enter Tryz.func189, Tryz.ntmps189
   go_wp2
   go_quiet (fail)
   go_wp2
   go_quiet (fail)
   go_wp2
   go_ret
   exact ⟨rfl, _, World.drewN_drewN ..⟩
 · have hc : chr s i = 0 := by simp [chr, hlt]
   rw [hc]
   clear hc h
   have he : ((i : Int) == (s.size : Int)) = true := by rw [beq_iff_eq]; omega
   go_enter Tryz.func189, Tryz.ntmps189
   go_wp2
   go_quiet (fail)
   go_wp2
   go_ret
   exact ⟨rfl, _, rfl⟩
theorem Rd.next {b : Nat} {s : ByteArray} {i : Nat} {w : World} (h : Rd b s i w) (n : Nat) : Rd b s (i + 1) ((w.drewN n).setCell ⟨b, 1, none⟩ (.int .i64 ((i : Int) + 1))) := by
 have := (h.drewN n).set (i + 1)
 rwa [Int.natCast_add] at this
theorem zma (b : Nat) (s : ByteArray) (i : Nat) (w : World) (h : Rd b s i w) (hlt : i < s.size) (hs : s.size <= 100000) :
 Calls Tryz.prog 211 #[.pointer (some ⟨b, 0, none⟩)] w fun e w' => e = .returned (.tuple #[]) /\ Rd b s (i + 1) w' /\ Gb b w w' := by
 have h0 := h.text
 have h1 := h.place
 have h2 := h.free
 have hr := h.next
 go_enter Tryz.func211, Tryz.ntmps211
 go_wp2
 go_quiet (fail)
 go_wp2
 go_end0
 exact ⟨rfl, hr _, ((Gb.refl b w).drewN _).setCell 1 _⟩
theorem zbu (b : Nat) (s : ByteArray) (i c : Nat) (w : World) (h : Rd b s i w) (hlt : i < s.size) (hs : s.size <= 100000) (hc : s[i].toNat = c) :
 Calls Tryz.prog 149 #[.pointer (some ⟨b, 0, none⟩), .int .u8 (c : Int)] w fun e w' => e = .returned (.bool true) /\ Rd b s (i + 1) w' /\ Gb b w w' := by
 have h0 := h.text
 have h1 := h.place
 have h2 := h.free
 have hr := h.next
 have he : ((i : Int) == (s.size : Int)) = false := by rw [beq_eq_false_iff_ne]; omega
 have hq : ((s[i].toNat : Int) != (c : Int)) = false := by rw [hc]; simp
 clear hc
 go_enter Tryz.func149, Tryz.ntmps149
 go_wp2
 go_quiet (fail)
 go_wp2
 go_ret
 exact ⟨rfl, hr _, ((Gb.refl b w).drewN _).setCell 1 _⟩
theorem zbh (b : Nat) (s : ByteArray) (i c : Nat) (w : World) (h : Rd b s i w) (hi : i <= s.size) (hs : s.size <= 100000) (hc : ∀ hlt : i < s.size, s[i].toNat ≠ c) :
 Calls Tryz.prog 149 #[.pointer (some ⟨b, 0, none⟩), .int .u8 (c : Int)] w fun e w' => e = .returned (.bool false) /\ ∃ n, w' = w.drewN n := by
 have h0 := h.text
 have h1 := h.place
 by_cases hlt : i < s.size
 · have he : ((i : Int) == (s.size : Int)) = false := by rw [beq_eq_false_iff_ne]; omega
   have hq : ((s[i].toNat : Int) != (c : Int)) = true := by have := hc hlt; rw [bne_iff_ne]; omega
   clear hc
   go_enter Tryz.func149, Tryz.ntmps149
   go_wp2
   go_quiet (fail)
   go_wp2
   go_ret
   exact ⟨rfl, _, rfl⟩
 · have he : ((i : Int) == (s.size : Int)) = true := by rw [beq_iff_eq]; omega
   clear hc
   go_enter Tryz.func149, Tryz.ntmps149
   go_wp2
   go_quiet (fail)
   go_wp2
   go_ret
   exact ⟨rfl, _, rfl⟩
structure Gl (tx : Nat -> Addr) (w : World) : Prop where
 errs : ∀ k, k < 8 -> w.cell? ⟨k, 0, none⟩ = some (.iface 353 (.pointer (some (tx k))))
 hand : w.cell? ⟨8, 0, none⟩ = some (.iface 190 (.agg #[.pointer (some ⟨11, 55, none⟩)]))
 size : 9 <= w.heap.size
theorem Gl.below {tx : Nat -> Addr} {w w' : World} (h : Gl tx w) {B : Nat} (hb : Below B w w') (hB : 9 <= B) : Gl tx w' :=
 ⟨fun k hk => (hb.cell (p := ⟨k, 0, none⟩) (by show k < B; omega)).trans (h.errs k hk), (hb.cell (p := ⟨8, 0, none⟩) (by show 8 < B; omega)).trans h.hand, Nat.le_trans h.size hb.size⟩
theorem Gl.gb {tx : Nat -> Addr} {w w' : World} {b : Nat} (h : Gl tx w) (hb : Gb b w w') (hB : 9 <= b) : Gl tx w' := by
 have hs := h.size
 refine ⟨fun k hk => ?_, ?_, Nat.le_trans h.size hb.size⟩
 · rw [World.cell?_of_block (w := w) (a := ⟨k, 0, none⟩) (hb.block k (by omega) (by simp; omega))]; exact h.errs k hk
 · rw [World.cell?_of_block (w := w) (a := ⟨8, 0, none⟩) (hb.block 8 (by omega) (by simp; omega))]; exact h.hand
theorem Gl.text {tx : Nat -> Addr} {w : World} (h : Gl tx w) : w.cell? ⟨1, 0, none⟩ = some (.iface 353 (.pointer (some (tx 1)))) := h.errs 1 (by decide)
theorem Gl.long {tx : Nat -> Addr} {w : World} (h : Gl tx w) : w.cell? ⟨0, 0, none⟩ = some (.iface 353 (.pointer (some (tx 0)))) := h.errs 0 (by decide)
def AtErr (a : Addr) (q i : Nat) (w : World) : Prop := w.heap[q]? = some (.cells #[.int .i64 (i : Int), .iface 353 (.pointer (some a))] 91 (0, 0))
abbrev atv (q : Nat) : Value := .iface 87 (.pointer (some ⟨q, 0, none⟩))
theorem AtErr.new (a : Addr) (i : Nat) (w : World) : AtErr a w.heap.size i (w.alloc (.cells #[.int .i64 (i : Int), .iface 353 (.pointer (some a))] 91)) := by
 unfold AtErr; exact heap_alloc_new w _
theorem AtErr.drewN {a : Addr} {q i : Nat} {w : World} (h : AtErr a q i w) (n : Nat) : AtErr a q i (w.drewN n) := h
theorem zgw (tx : Nat -> Addr) (b : Nat) (s : ByteArray) (i : Nat) (w : World) (h : Rd b s i w) (g : Gl tx w) :
 Calls Tryz.prog 153 #[.pointer (some ⟨b, 0, none⟩)] w fun e w' => ∃ q, e = .returned (atv q) /\ AtErr (tx 1) q i w' /\ Gb b w w' := by
 have h1 := h.place
 have h2 := g.text
 go_enter Tryz.func153, Tryz.ntmps153
 go_wp2
 go_region
 all_goals
  go_wp2
  go_ret
  exact ⟨_, rfl, (AtErr.new (tx 1) i w).drewN 1, ((Gb.refl b w).alloc _).drewN 1⟩
theorem zdl (b : Nat) (s : ByteArray) (i c : Nat) (w : World) (h : Rd b s i w) (hs : s.size <= 100000) (hc : chr s i = c) (h0 : c ≠ 0) :
 Calls Tryz.prog 185 #[.pointer (some ⟨b, 0, none⟩), .int .u8 (c : Int)] w fun e w' => e = .returned .nilIface /\ Rd b s (i + 1) w' /\ Gb b w w' := by
 have hlt : i < s.size := zaf (by omega)
 have hq : s[i].toNat = c := by rw [<- hc]; simp [chr, hlt]
 clear hc
 go_enter Tryz.func185, Tryz.ntmps185
 go_wp2_with fail
 refine (zbu b s i c w h hlt hs hq).mono ?_
 rintro e w' ⟨rfl, hr, hg⟩
 go_wp2_with fail
 go_ret
 exact ⟨rfl, hr, hg⟩
theorem zey (tx : Nat -> Addr) (b : Nat) (s : ByteArray) (i c : Nat) (w : World) (h : Rd b s i w) (g : Gl tx w) (hi : i <= s.size) (hs : s.size <= 100000) (hc : chr s i ≠ c) (hb : 9 <= b) :
 Calls Tryz.prog 185 #[.pointer (some ⟨b, 0, none⟩), .int .u8 (c : Int)] w fun e w' => ∃ q, e = .returned (atv q) /\ AtErr (tx 1) q i w' /\ Gb b w w' := by
 have hq : ∀ hlt : i < s.size, s[i].toNat ≠ c := by intro hlt e; apply hc; simp [chr, hlt, e]
 clear hc
 go_enter Tryz.func185, Tryz.ntmps185
 go_wp2_with fail
 refine (zbh b s i c w h hi hs hq).mono ?_
 rintro e w' ⟨rfl, n, rfl⟩
 clear hq
 go_wp2_with fail
 refine (zgw tx b s i _ (h.drewN n) (g.gb ((Gb.refl b w).drewN n) hb)).mono ?_
 rintro e w' ⟨q, rfl, ha, hg⟩
 go_wp2_with fail
 go_ret
 exact ⟨q, rfl, ha, ((Gb.refl b w).drewN n).trans hg⟩
theorem zct (c : Nat) (w : World) (hc : c < 256) :
 Calls Tryz.prog 210 #[.int .u8 (c : Int)] w fun e w' => e = .returned (.bool (isLet c)) /\ w' = w := by
 by_cases h1 : 97 <= c
 · by_cases h2 : c <= 122
   · have hq : isLet c = true := by simp [isLet, h1, h2]
     rw [hq]
     clear hq
     go_enter Tryz.func210, Tryz.ntmps210
     go_wp2
     go_ret
     exact ⟨by first | rfl | (simp; omega), rfl⟩
   · have hq : isLet c = false := by simp [isLet, h2]
     rw [hq]
     clear hq
     go_enter Tryz.func210, Tryz.ntmps210
     go_wp2
     go_ret
     exact ⟨by first | rfl | (simp; omega), rfl⟩
 · have hq : isLet c = false := by simp [isLet, h1]
   rw [hq]
   clear hq
   go_enter Tryz.func210, Tryz.ntmps210
   go_wp2
   go_ret
   exact ⟨by first | rfl | (simp; omega), rfl⟩
theorem zdv (b : Nat) (s : ByteArray) (i : Nat) (w : World) (h : Rd b s i w) (hs : s.size <= 100000) (hc : isLet (chr s i) = true) :
 Calls Tryz.prog 183 #[.pointer (some ⟨b, 0, none⟩)] w fun e w' => e = .returned (.tuple #[.int .u8 (chr s i), .nilIface]) /\ Rd b s (i + 1) w' /\ Gb b w w' := by
 have hlt : i < s.size := zaf (by intro e; rw [e] at hc; exact absurd hc (by decide))
 have hl := zkf s i
 go_enter Tryz.func183, Tryz.ntmps183
 go_wp2_with fail
 refine (zej b s i w h (by omega) hs).mono ?_
 rintro e w' ⟨rfl, n, rfl⟩
 go_wp2_with fail
 refine (zct (chr s i) _ hl).mono ?_
 rintro e w' ⟨rfl, rfl⟩
 rw [hc]
 go_wp2_with fail
 refine (zma b s i _ (h.drewN n) hlt hs).mono ?_
 rintro e w' ⟨rfl, hr, hg⟩
 go_wp2_with fail
 go_ret2
 exact ⟨rfl, hr, ((Gb.refl b w).drewN n).trans hg⟩
theorem zjm (tx : Nat -> Addr) (b : Nat) (s : ByteArray) (i : Nat) (w : World) (h : Rd b s i w) (g : Gl tx w) (hi : i <= s.size) (hs : s.size <= 100000) (hc : isLet (chr s i) = false) (hb : 9 <= b) :
 Calls Tryz.prog 183 #[.pointer (some ⟨b, 0, none⟩)] w fun e w' => ∃ q, e = .returned (.tuple #[.int .u8 0, atv q]) /\ AtErr (tx 1) q i w' /\ Gb b w w' := by
 have hl := zkf s i
 go_enter Tryz.func183, Tryz.ntmps183
 go_wp2_with fail
 refine (zej b s i w h (by omega) hs).mono ?_
 rintro e w' ⟨rfl, n, rfl⟩
 go_wp2_with fail
 refine (zct (chr s i) _ hl).mono ?_
 rintro e w' ⟨rfl, rfl⟩
 rw [hc]
 go_wp2_with fail
 refine (zgw tx b s i _ (h.drewN n) (g.gb ((Gb.refl b w).drewN n) hb)).mono ?_
 rintro e w' ⟨q, rfl, ha, hg⟩
 go_wp2_with fail
 go_ret2
 exact ⟨q, rfl, ha, ((Gb.refl b w).drewN n).trans hg⟩
theorem end_yes (b : Nat) (s : ByteArray) (w : World) (h : Rd b s s.size w) (hs : s.size <= 100000) :
 Calls Tryz.prog 124 #[.pointer (some ⟨b, 0, none⟩)] w fun e w' => e = .returned .nilIface /\ ∃ n, w' = w.drewN n := by
 have h0 := h.text
 have h1 := h.place
 clear h
 go_enter Tryz.func124, Tryz.ntmps124
 go_wp2
 go_quiet (fail)
 go_wp2
 go_ret
 exact ⟨rfl, _, rfl⟩
theorem end_no (tx : Nat -> Addr) (b : Nat) (s : ByteArray) (i : Nat) (w : World) (h : Rd b s i w) (g : Gl tx w) (hlt : i < s.size) (hs : s.size <= 100000) (hb : 9 <= b) :
 Calls Tryz.prog 124 #[.pointer (some ⟨b, 0, none⟩)] w fun e w' => ∃ q, e = .returned (atv q) /\ AtErr (tx 1) q i w' /\ Gb b w w' := by
 have h0 := h.text
 have h1 := h.place
 go_enter Tryz.func124, Tryz.ntmps124
 go_wp2_with fail
 go_quiet (fail)
 go_wp2_with fail
 refine (zgw tx b s i _ (h.drewN _) (g.gb ((Gb.refl b w).drewN _) hb)).mono ?_
 rintro e w' ⟨q, rfl, ha, hg⟩
 go_wp2_with fail
 go_ret
 exact ⟨q, rfl, ha, ((Gb.refl b w).drewN _).trans hg⟩
theorem new_any (s : ByteArray) (w : World) :
 Calls Tryz.prog 92 #[.string s] w fun e w' => e = .returned (.pointer (some ⟨w.heap.size, 0, none⟩)) /\ w' = w.alloc (.cells #[.string s, .int .i64 0] 207) := by
 go_enter Tryz.func92, Tryz.ntmps92
 go_wp2
 go_ret
 exact ⟨rfl, rfl⟩
end Go.Proofs.YtceadeaodbadlaaGreatDoor
namespace Go.Proofs.YtceadeaodbadlaaGreatDoor
open Go.RowKit Go.Extern.Stop Go.Stop Go.Extern
theorem zii (v : Value) (w : World) : (callFunc 83 #[.iface 353 v]).run Tryz.prog w = .ok (.value (.iface 190 (.agg #[.pointer (some ⟨11, 353, none⟩)]))) w := by kernel_rfl
theorem zft (w : World) : (callFunc 279 #[.agg #[.pointer (some ⟨11, 353, none⟩)]]).run Tryz.prog w = .ok (.value (.bool true)) w := by kernel_rfl
theorem zga (v : Value) (w : World) : (Go.method 482 190 v "Comparable").run Tryz.prog w = .ok (279, v) w := by kernel_rfl
theorem mUnwrap (v : Value) (w : World) : (Go.method 482 87 v "Unwrap").run Tryz.prog w = .ok (266, v) w := by kernel_rfl
theorem fComp : (Tryz.prog.info? 353).map (·.comparable) = some true := by kernel_rfl
theorem fSize : (Tryz.prog.info? 371).map (·.size) = some 1 := by kernel_rfl
theorem noIsE (v : Value) (xT : TypeId) (w : World) : (Instr.typeAssert (.iface 353 v) xT 192 true).run Tryz.prog w = .ok (.tuple #[.nilIface, .bool false]) w := run_typeAssert_lacksB Tryz.underlying192 (by kernel_rfl) (by kernel_rfl) v xT w
theorem zje (v : Value) (xT : TypeId) (w : World) : (Instr.typeAssert (.iface 353 v) xT 195 true).run Tryz.prog w = .ok (.tuple #[.nilIface, .bool false]) w := run_typeAssert_lacksB Tryz.underlying195 (by kernel_rfl) (by kernel_rfl) v xT w
theorem zhc (v : Value) (xT : TypeId) (w : World) : (Instr.typeAssert (.iface 353 v) xT 197 true).run Tryz.prog w = .ok (.tuple #[.nilIface, .bool false]) w := run_typeAssert_lacksB Tryz.underlying197 (by kernel_rfl) (by kernel_rfl) v xT w
theorem noIsW (v : Value) (xT : TypeId) (w : World) : (Instr.typeAssert (.iface 87 v) xT 192 true).run Tryz.prog w = .ok (.tuple #[.nilIface, .bool false]) w := run_typeAssert_lacksB Tryz.underlying192 (by kernel_rfl) (by kernel_rfl) v xT w
theorem zlc (v : Value) (xT : TypeId) (w : World) : (Instr.typeAssert (.iface 87 v) xT 195 true).run Tryz.prog w = .ok (.tuple #[.iface 87 v, .bool true]) w := run_typeAssert_hasB Tryz.underlying195 (by kernel_rfl) v xT w
theorem zhs (b : Addr) (w : World) :
 Calls Tryz.prog 51 #[.nilIface, .iface 353 (.pointer (some b))] w fun e w' => e = .returned (.bool false) /\ w' = w := by
 have hn := run_eql_iface_nil_left (P := Tryz.prog) w 353 (.pointer (some b)) Tryz.underlying55
 go_enter Tryz.func51, Tryz.ntmps51
 go_wp2
 go_ret
 exact ⟨rfl, rfl⟩
theorem is_same (a : Addr) (w : World) :
 Calls Tryz.prog 51 #[.iface 353 (.pointer (some a)), .iface 353 (.pointer (some a))] w fun e w' => e = .returned (.bool true) /\ w' = w := by
 obtain ⟨i, hi, hcmp⟩ := Option.map_eq_some_iff.1 fComp
 obtain ⟨j, hj, hjs⟩ := Option.map_eq_some_iff.1 fSize
 have c1 := zii
 have c2 := zft
 have c3 := zga
 have heq := run_eql_iface_ptr_same (P := Tryz.prog) w a Tryz.underlying55 Tryz.underlying353 hi hcmp hj
 go_enter Tryz.func51, Tryz.ntmps51
 go_wp2
 refine wp_loop_rounds 1 ?_
 rw [rounds_succ]
 go_wp2
 go_ret
 exact ⟨rfl, rfl⟩
theorem zbq (q : Nat) (b : Addr) (w : World) (h1 : w.cell? ⟨q, 1, none⟩ = some (.iface 353 (.pointer (some b)))) :
 Calls Tryz.prog 51 #[atv q, .iface 353 (.pointer (some b))] w fun e w' => e = .returned (.bool true) /\ w' = w := by
 obtain ⟨i, hi, hcmp⟩ := Option.map_eq_some_iff.1 fComp
 obtain ⟨j, hj, hjs⟩ := Option.map_eq_some_iff.1 fSize
 have c1 := zii
 have c2 := zft
 have c3 := zga
 have nE := noIsE
 have uE := zje
 have vE := zhc
 have nW := noIsW
 have uW := zlc
 have mU := mUnwrap
 have heq := run_eql_iface_ptr_same (P := Tryz.prog) w b Tryz.underlying55 Tryz.underlying353 hi hcmp hj
 have hty := run_eql_iface_types (P := Tryz.prog) 87 353 (.pointer (some ⟨q, 0, none⟩)) (.pointer (some b)) Tryz.underlying55 (by decide) w
 go_enter Tryz.func51, Tryz.ntmps51
 go_wp2
 refine wp_loop_rounds 2 ?_
 rw [rounds_succ]
 go_wp2
 rw [rounds_succ]
 go_wp2
 go_ret
 exact ⟨rfl, rfl⟩
theorem zad (q : Nat) (b a : Addr) (ca cb : Array Value) (ta tb : TypeId) (w : World) (h1 : w.cell? ⟨q, 1, none⟩ = some (.iface 353 (.pointer (some a)))) (hne : a ≠ b) (ha : w.heap[a.block]? = some (.cells ca ta (0, 0))) (hb : w.heap[b.block]? = some (.cells cb tb (0, 0))) :
 Calls Tryz.prog 51 #[atv q, .iface 353 (.pointer (some b))] w fun e w' => e = .returned (.bool false) /\ w' = w := by
 obtain ⟨i, hi, hcmp⟩ := Option.map_eq_some_iff.1 fComp
 obtain ⟨j, hj, hjs⟩ := Option.map_eq_some_iff.1 fSize
 have c1 := zii
 have c2 := zft
 have c3 := zga
 have nE := noIsE
 have uE := zje
 have vE := zhc
 have nW := noIsW
 have uW := zlc
 have mU := mUnwrap
 have heq := run_eql_iface_ptr_other (P := Tryz.prog) w Tryz.underlying55 Tryz.underlying353 hi hcmp hj (by rw [hjs]; decide) hne ha hb
 have hty := run_eql_iface_types (P := Tryz.prog) 87 353 (.pointer (some ⟨q, 0, none⟩)) (.pointer (some b)) Tryz.underlying55 (by decide) w
 clear ha hb
 go_enter Tryz.func51, Tryz.ntmps51
 go_wp2
 refine wp_loop_rounds 2 ?_
 rw [rounds_succ]
 go_wp2
 rw [rounds_succ]
 go_wp2
 go_ret
 exact ⟨rfl, rfl⟩
theorem as_nil (t : Value) (w : World) :
 Calls Tryz.prog 52 #[.nilIface, t] w fun e w' => e = .returned (.bool false) /\ w' = w := by
 go_enter Tryz.func52, Tryz.ntmps52
 go_wp2
 go_ret
 exact ⟨rfl, rfl⟩
theorem zkt (t : Addr) (w : World) : (ReflectliteValue.unpack (.iface 89 (.pointer (some t)))).run Tryz.prog w
 = .ok (.agg #[.pointer (some ⟨11, 89, none⟩), .pointer (some ⟨w.heap.size, 0, none⟩), .int .u64 150]) (w.alloc (.cells #[.pointer (some t)] 89)) := by kernel_rfl
theorem Atype27 (a : Addr) (w : World) : (ReflectliteValue.methodAny (ReflectliteValue.valueError "reflectlite.Value.Type" 0) (fun t _ _ _ => ReflectliteType.toType t) #[.agg #[.pointer (some ⟨11, 89, none⟩), .pointer (some a), .int .u64 150]]).run Tryz.prog w
 = .ok (.iface 190 (.agg #[.pointer (some ⟨11, 89, none⟩)])) w := by kernel_rfl
theorem zis (h : Value) (w : World) : (Go.method 482 190 (.agg #[h]) "Kind").run Tryz.prog w = .ok (262, h) w := by kernel_rfl
theorem Akind27 (w : World) : ((ReflectliteType.abiMethod fun t => (fun a : Nat => Value.int IntKind.u8 (a : Int)) <$> Rtype.kind t) #[.pointer (some ⟨11, 89, none⟩)]).run Tryz.prog w = .ok (.int .u8 22) w := by kernel_rfl
theorem Akind25 (w : World) : ((ReflectliteType.abiMethod fun t => (fun a : Nat => Value.int IntKind.u8 (a : Int)) <$> Rtype.kind t) #[.pointer (some ⟨11, 87, none⟩)]).run Tryz.prog w = .ok (.int .u8 22) w := by kernel_rfl
theorem Aparts27 (a : Addr) (w : World) : (ReflectliteValue.parts (.agg #[.pointer (some ⟨11, 89, none⟩), .pointer (some a), .int .u64 150])).run Tryz.prog w = .ok (some (89, a, 150)) w := by kernel_rfl
theorem AisNil27 (a p : Addr) (W : World) (ha : W.cell? a = some (.pointer (some p))) :
 (ReflectliteValue.method (ReflectliteValue.valueError "reflectlite.Value.IsNil" 0) ReflectliteValue.isNil #[.agg #[.pointer (some ⟨11, 89, none⟩), .pointer (some a), .int .u64 150]]).run Tryz.prog W = .ok (.bool false) W := by
 change Sem.run Tryz.prog (ReflectliteValue.parts (.agg #[.pointer (some ⟨11, 89, none⟩), .pointer (some a), .int .u64 150]) >>= _) W = _
 simp only [Sem.run_bind, Aparts27, Result.andThen]
 simp [ReflectliteValue.isNil, loadVar, isAgg, underlying, Tryz.underlying89, ha, Result.andThen]
theorem zkb (h : Value) (w : World) : (Go.method 482 190 (.agg #[h]) "Elem").run Tryz.prog w = .ok (280, .agg #[h]) w := by kernel_rfl
theorem zec (h : Value) (w : World) : (Go.method 482 190 (.agg #[h]) "Implements").run Tryz.prog w = .ok (281, .agg #[h]) w := by kernel_rfl
theorem zdh (h : Value) (w : World) : (Go.method 482 190 (.agg #[h]) "AssignableTo").run Tryz.prog w = .ok (278, .agg #[h]) w := by kernel_rfl
theorem Aelem27 (w : World) : (ReflectliteType.method ReflectliteType.elem #[.agg #[.pointer (some ⟨11, 89, none⟩)]]).run Tryz.prog w = .ok (.iface 190 (.agg #[.pointer (some ⟨11, 87, none⟩)])) w := by kernel_rfl
theorem zgq (w : World) : (ReflectliteType.relation "Implements" ReflectliteType.implements_ #[.agg #[.pointer (some ⟨11, 87, none⟩)], .iface 190 (.agg #[.pointer (some ⟨11, 55, none⟩)])]).run Tryz.prog w = .ok (.bool true) w := by kernel_rfl
theorem AtypeOf25 (v : Value) (w : World) : (ReflectliteType.typeOf #[.iface 87 v]).run Tryz.prog w = .ok (.iface 190 (.agg #[.pointer (some ⟨11, 87, none⟩)])) w := by kernel_rfl
theorem zmh (w : World) : (ReflectliteType.relation "AssignableTo" ReflectliteType.assignableTo #[.agg #[.pointer (some ⟨11, 87, none⟩)], .iface 190 (.agg #[.pointer (some ⟨11, 87, none⟩)])]).run Tryz.prog w = .ok (.bool true) w := by kernel_rfl
theorem AvalueOf25 (e : Addr) (w : World) : (ReflectliteValue.unpack (.iface 87 (.pointer (some e)))).run Tryz.prog w
 = .ok (.agg #[.pointer (some ⟨11, 87, none⟩), .pointer (some ⟨w.heap.size, 0, none⟩), .int .u64 150]) (w.alloc (.cells #[.pointer (some e)] 87)) := by kernel_rfl
theorem AelemOf27 (w : World) : (Rtype.elem? 89).run Tryz.prog w = .ok (some 87) w := by kernel_rfl
theorem Amk25 (p : Addr) (w : World) : (ReflectliteValue.mk 87 p ReflectliteValue.flagAddr).run Tryz.prog w = .ok (.agg #[.pointer (some ⟨11, 87, none⟩), .pointer (some p), .int .u64 406]) w := by kernel_rfl
theorem AelemV27 (a p : Addr) (W : World) (ha : W.cell? a = some (.pointer (some p))) :
 (ReflectliteValue.method (ReflectliteValue.valueError "reflectlite.Value.Elem" 0) ReflectliteValue.elem #[.agg #[.pointer (some ⟨11, 89, none⟩), .pointer (some a), .int .u64 150]]).run Tryz.prog W
  = .ok (.agg #[.pointer (some ⟨11, 87, none⟩), .pointer (some p), .int .u64 406]) W := by
 change Sem.run Tryz.prog (ReflectliteValue.parts (.agg #[.pointer (some ⟨11, 89, none⟩), .pointer (some a), .int .u64 150]) >>= _) W = _
 simp only [Sem.run_bind, Aparts27, Result.andThen]
 simp [ReflectliteValue.elem, loadVar, isAgg, underlying, Tryz.underlying89, ha, Result.andThen, AelemOf27, Amk25]
theorem Aparts25a (a : Addr) (w : World) : (ReflectliteValue.parts (.agg #[.pointer (some ⟨11, 87, none⟩), .pointer (some a), .int .u64 406])).run Tryz.prog w = .ok (some (87, a, 406)) w := by kernel_rfl
theorem Aparts25 (a : Addr) (w : World) : (ReflectliteValue.parts (.agg #[.pointer (some ⟨11, 87, none⟩), .pointer (some a), .int .u64 150])).run Tryz.prog w = .ok (some (87, a, 150)) w := by kernel_rfl
theorem Adirect25 (w : World) : (Rtype.directlyAssignable 87 87).run Tryz.prog w = .ok true w := by kernel_rfl
theorem Aset25 (ta b e : Addr) (old : Value) (W : World) (hb : W.cell? b = some (.pointer (some e))) (ht : W.cell? ta = some old) (hf : W.frozen? ta = false) :
 (ReflectliteValue.set #[.agg #[.pointer (some ⟨11, 87, none⟩), .pointer (some ta), .int .u64 406], .agg #[.pointer (some ⟨11, 87, none⟩), .pointer (some b), .int .u64 150]]).run Tryz.prog W
  = .ok (.tuple #[]) (W.setCell ta (.pointer (some e))) := by
 change Sem.run Tryz.prog (ReflectliteValue.parts (.agg #[.pointer (some ⟨11, 87, none⟩), .pointer (some ta), .int .u64 406]) >>= _) W = _
 rw [Sem.run_bind, Aparts25a]
 simp only [Result.andThen]
 change Sem.run Tryz.prog (ReflectliteValue.parts (.agg #[.pointer (some ⟨11, 87, none⟩), .pointer (some b), .int .u64 150]) >>= _) W = _
 rw [Sem.run_bind, Aparts25]
 simp only [Result.andThen]
 simp [ReflectliteValue.flagAddr, loadVar, isAgg, underlying, Tryz.underlying87, hb, Result.andThen, Adirect25, storeVar, Value.cells, storeCells, Addr.add]
 rw [run_store Tryz.prog W ta _ _ (by rfl)]
 simp [ht, hf]
theorem as_hit (e t : Addr) (old : Value) (w : World) (hg : w.cell? ⟨8, 0, none⟩ = some (.iface 190 (.agg #[.pointer (some ⟨11, 55, none⟩)]))) (ht0 : w.cell? t = some old) (hf0 : w.frozen? t = false) :
 Calls Tryz.prog 52 #[.iface 87 (.pointer (some e)), .iface 89 (.pointer (some t))] w fun ev w' => ev = .returned (.bool true) /\ w' = ((((w.alloc (.cells #[.pointer (some t)] 89)).alloc (.cells #[.pointer (some ⟨11, 89, none⟩), .pointer (some ⟨w.heap.size, 0, none⟩), .int .u64 150] 129)).alloc (.cells #[.pointer (some ⟨11, 89, none⟩), .pointer (some ⟨w.heap.size, 0, none⟩), .int .u64 150] 129)).alloc (.cells #[.pointer (some e)] 87)).setCell t (.pointer (some e)) := by
 have h6 := @run_callFunc_extern Tryz.prog 85 _ (fun args => ReflectliteValue.unpack (args.getD 0 (.tuple #[]))) Tryz.func85 (by kernel_rfl) (by kernel_rfl) (by kernel_rfl) (by kernel_rfl)
 have h7 := @run_callFunc_extern Tryz.prog 86 _ (ReflectliteValue.methodAny (ReflectliteValue.valueError "reflectlite.Value.Type" 0) (fun t _ _ _ => ReflectliteType.toType t)) Tryz.func86 (by kernel_rfl) (by kernel_rfl) (by kernel_rfl) (by kernel_rfl)
 have h8 := @run_callFunc_extern Tryz.prog 87 _ (ReflectliteValue.method (ReflectliteValue.valueError "reflectlite.Value.IsNil" 0) ReflectliteValue.isNil) Tryz.func87 (by kernel_rfl) (by kernel_rfl) (by kernel_rfl) (by kernel_rfl)
 have h27 := @run_callFunc_extern Tryz.prog 262 _ (ReflectliteType.abiMethod fun t => do pure (.int .u8 (<- Rtype.kind t))) Tryz.func262 (by kernel_rfl) (by kernel_rfl) (by kernel_rfl) (by kernel_rfl)
 have h37 := @run_callFunc_extern Tryz.prog 280 _ (ReflectliteType.method ReflectliteType.elem) Tryz.func280 (by kernel_rfl) (by kernel_rfl) (by kernel_rfl) (by kernel_rfl)
 have h38 := @run_callFunc_extern Tryz.prog 281 _ (ReflectliteType.relation "Implements" ReflectliteType.implements_) Tryz.func281 (by kernel_rfl) (by kernel_rfl) (by kernel_rfl) (by kernel_rfl)
 have h10 := @run_callFunc_extern Tryz.prog 83 _ ReflectliteType.typeOf Tryz.func83 (by kernel_rfl) (by kernel_rfl) (by kernel_rfl) (by kernel_rfl)
 have h35 := @run_callFunc_extern Tryz.prog 278 _ (ReflectliteType.relation "AssignableTo" ReflectliteType.assignableTo) Tryz.func278 (by kernel_rfl) (by kernel_rfl) (by kernel_rfl) (by kernel_rfl)
 have h11 := @run_callFunc_extern Tryz.prog 121 _ (ReflectliteValue.method (ReflectliteValue.valueError "reflectlite.Value.Elem" 0) ReflectliteValue.elem) Tryz.func121 (by kernel_rfl) (by kernel_rfl) (by kernel_rfl) (by kernel_rfl)
 have h12 := @run_callFunc_extern Tryz.prog 122 _ ReflectliteValue.set Tryz.func122 (by kernel_rfl) (by kernel_rfl) (by kernel_rfl) (by kernel_rfl)
 have tO := AtypeOf25
 have mA := zdh
 have a25 := zmh
 have v25 := AvalueOf25
 have f6 := zkt
 have f7 := Atype27
 have mK := zis
 have mE := zkb
 have mI := zec
 have k27 := Akind27
 have k25 := Akind25
 have e27 := Aelem27
 have i25 := zgq
 have n8 := AisNil27 ⟨w.heap.size, 0, none⟩ t ((w.alloc (.cells #[.pointer (some t)] 89)).alloc (.cells #[.pointer (some ⟨11, 89, none⟩), .pointer (some ⟨w.heap.size, 0, none⟩), .int .u64 150] 129)) (by simp)
 have hlt : 8 < w.heap.size := World.block_lt_of_cell? w ⟨8, 0, none⟩ hg
 have hg2 : ((w.alloc (.cells #[.pointer (some t)] 89)).alloc (.cells #[.pointer (some ⟨11, 89, none⟩), .pointer (some ⟨w.heap.size, 0, none⟩), .int .u64 150] 129)).cell? ⟨8, 0, none⟩ = some (.iface 190 (.agg #[.pointer (some ⟨11, 55, none⟩)])) := by
  rw [World.cell?_alloc_lt _ _ ⟨8, 0, none⟩ (by simp; omega), World.cell?_alloc_lt _ _ ⟨8, 0, none⟩ hlt]; exact hg
 have htl : t.block < w.heap.size := by
  rcases Nat.lt_or_ge t.block w.heap.size with h | h
  · exact h
  · simp [World.cell?, Array.getElem?_eq_none h] at ht0
 have el := AelemV27 ⟨w.heap.size, 0, none⟩ t (((w.alloc (.cells #[.pointer (some t)] 89)).alloc (.cells #[.pointer (some ⟨11, 89, none⟩), .pointer (some ⟨w.heap.size, 0, none⟩), .int .u64 150] 129)).alloc (.cells #[.pointer (some ⟨11, 89, none⟩), .pointer (some ⟨w.heap.size, 0, none⟩), .int .u64 150] 129)) (by rw [World.cell?_alloc_lt _ _ ⟨w.heap.size, 0, none⟩ (by simp; omega)]; simp)
 have st := Aset25 t ⟨w.heap.size + 1 + 1 + 1, 0, none⟩ e old ((((w.alloc (.cells #[.pointer (some t)] 89)).alloc (.cells #[.pointer (some ⟨11, 89, none⟩), .pointer (some ⟨w.heap.size, 0, none⟩), .int .u64 150] 129)).alloc (.cells #[.pointer (some ⟨11, 89, none⟩), .pointer (some ⟨w.heap.size, 0, none⟩), .int .u64 150] 129)).alloc (.cells #[.pointer (some e)] 87))
  (by rw [World.cell?_alloc_at _ _ _ _ (by simp)]; rfl)
  (by rw [World.cell?_alloc_lt _ _ t (by simp; omega), World.cell?_alloc_lt _ _ t (by simp; omega), World.cell?_alloc_lt _ _ t (by simp; omega), World.cell?_alloc_lt _ _ t htl]; exact ht0)
  (by rw [World.frozen?_alloc_old _ _ t (by simp; omega), World.frozen?_alloc_old _ _ t (by simp; omega), World.frozen?_alloc_old _ _ t (by simp; omega), World.frozen?_alloc_old _ _ t (Nat.ne_of_lt htl)]; exact hf0)
 go_enter Tryz.func52, Tryz.ntmps52
 go_wp2
 refine wp_loop_rounds 1 ?_
 rw [rounds_succ]
 go_wp2
 go_ret
 exact ⟨rfl, rfl⟩
theorem noAsE (v : Value) (xT : TypeId) (w : World) : (Instr.typeAssert (.iface 353 v) xT 202 true).run Tryz.prog w = .ok (.tuple #[.nilIface, .bool false]) w := run_typeAssert_lacksB Tryz.underlying202 (by kernel_rfl) (by kernel_rfl) v xT w
theorem zmw (w : World) : (ReflectliteType.relation "AssignableTo" ReflectliteType.assignableTo #[.agg #[.pointer (some ⟨11, 353, none⟩)], .iface 190 (.agg #[.pointer (some ⟨11, 87, none⟩)])]).run Tryz.prog w = .ok (.bool false) w := by kernel_rfl
theorem as_miss (e t : Addr) (w : World) (hg : w.cell? ⟨8, 0, none⟩ = some (.iface 190 (.agg #[.pointer (some ⟨11, 55, none⟩)]))) :
 Calls Tryz.prog 52 #[.iface 353 (.pointer (some e)), .iface 89 (.pointer (some t))] w fun ev w' => ev = .returned (.bool false) /\ w' = (((w.alloc (.cells #[.pointer (some t)] 89)).alloc (.cells #[.pointer (some ⟨11, 89, none⟩), .pointer (some ⟨w.heap.size, 0, none⟩), .int .u64 150] 129)).alloc (.cells #[.pointer (some ⟨11, 89, none⟩), .pointer (some ⟨w.heap.size, 0, none⟩), .int .u64 150] 129)) := by
 have h6 := @run_callFunc_extern Tryz.prog 85 _ (fun args => ReflectliteValue.unpack (args.getD 0 (.tuple #[]))) Tryz.func85 (by kernel_rfl) (by kernel_rfl) (by kernel_rfl) (by kernel_rfl)
 have h7 := @run_callFunc_extern Tryz.prog 86 _ (ReflectliteValue.methodAny (ReflectliteValue.valueError "reflectlite.Value.Type" 0) (fun t _ _ _ => ReflectliteType.toType t)) Tryz.func86 (by kernel_rfl) (by kernel_rfl) (by kernel_rfl) (by kernel_rfl)
 have h8 := @run_callFunc_extern Tryz.prog 87 _ (ReflectliteValue.method (ReflectliteValue.valueError "reflectlite.Value.IsNil" 0) ReflectliteValue.isNil) Tryz.func87 (by kernel_rfl) (by kernel_rfl) (by kernel_rfl) (by kernel_rfl)
 have h27 := @run_callFunc_extern Tryz.prog 262 _ (ReflectliteType.abiMethod fun t => do pure (.int .u8 (<- Rtype.kind t))) Tryz.func262 (by kernel_rfl) (by kernel_rfl) (by kernel_rfl) (by kernel_rfl)
 have h37 := @run_callFunc_extern Tryz.prog 280 _ (ReflectliteType.method ReflectliteType.elem) Tryz.func280 (by kernel_rfl) (by kernel_rfl) (by kernel_rfl) (by kernel_rfl)
 have h38 := @run_callFunc_extern Tryz.prog 281 _ (ReflectliteType.relation "Implements" ReflectliteType.implements_) Tryz.func281 (by kernel_rfl) (by kernel_rfl) (by kernel_rfl) (by kernel_rfl)
 have h35 := @run_callFunc_extern Tryz.prog 278 _ (ReflectliteType.relation "AssignableTo" ReflectliteType.assignableTo) Tryz.func278 (by kernel_rfl) (by kernel_rfl) (by kernel_rfl) (by kernel_rfl)
 have mA := zdh
 have tO := zii
 have nA := noAsE
 have uE := zje
 have vE := zhc
 have aN := zmw
 have f6 := zkt
 have f7 := Atype27
 have mK := zis
 have mE := zkb
 have mI := zec
 have k27 := Akind27
 have k25 := Akind25
 have e27 := Aelem27
 have i25 := zgq
 have n8 := AisNil27 ⟨w.heap.size, 0, none⟩ t ((w.alloc (.cells #[.pointer (some t)] 89)).alloc (.cells #[.pointer (some ⟨11, 89, none⟩), .pointer (some ⟨w.heap.size, 0, none⟩), .int .u64 150] 129)) (by simp)
 have hlt : 8 < w.heap.size := World.block_lt_of_cell? w ⟨8, 0, none⟩ hg
 have hg2 : ((w.alloc (.cells #[.pointer (some t)] 89)).alloc (.cells #[.pointer (some ⟨11, 89, none⟩), .pointer (some ⟨w.heap.size, 0, none⟩), .int .u64 150] 129)).cell? ⟨8, 0, none⟩ = some (.iface 190 (.agg #[.pointer (some ⟨11, 55, none⟩)])) := by
  rw [World.cell?_alloc_lt _ _ ⟨8, 0, none⟩ (by simp; omega), World.cell?_alloc_lt _ _ ⟨8, 0, none⟩ hlt]; exact hg
 go_enter Tryz.func52, Tryz.ntmps52
 go_wp2
 refine wp_loop_rounds 1 ?_
 rw [rounds_succ]
 go_wp2
 go_ret
 exact ⟨rfl, rfl⟩
end Go.Proofs.YtceadeaodbadlaaGreatDoor
namespace Go.Proofs.YtceadeaodbadlaaGreatDoor
open Go.RowKit
structure Gs (tx : Nat -> Addr) (w : World) : Prop extends Gl tx w where
 ne : ∀ j k, j < 8 -> k < 8 -> j ≠ k -> tx j ≠ tx k
 bl : ∀ k, k < 8 -> ∃ c t, w.heap[(tx k).block]? = some (.cells c t (0, 0))
def numOf (k : Nat) : Nat := k + 1
theorem AtErr.cell0 {a : Addr} {q i : Nat} {w : World} (h : AtErr a q i w) : w.cell? ⟨q, 0, none⟩ = some (.int .i64 (i : Int)) := by
 unfold AtErr at h; simp [World.cell?, h]
theorem AtErr.cell1 {a : Addr} {q i : Nat} {w : World} (h : AtErr a q i w) : w.cell? ⟨q, 1, none⟩ = some (.iface 353 (.pointer (some a))) := by
 unfold AtErr at h; simp [World.cell?, h]
theorem AtErr.lt {a : Addr} {q i : Nat} {w : World} (h : AtErr a q i w) : q < w.heap.size := (Array.getElem?_eq_some_iff.1 h).1
theorem zmm {w : World} {b o : Nat} {u v : Value} (h : w.cell? ⟨b, o, none⟩ = some u) : (w.setCell ⟨b, o, none⟩ v).cell? ⟨b, o, none⟩ = some v := by
 cases hb : w.heap[b]? with
 | none => simp [World.cell?, hb] at h
 | some x =>
  cases x with
  | cells c e fz =>
   simp [World.cell?, hb] at h
   simp only [World.cell?, World.setCell, Array.getElem?_modify, hb]
   simp [(Array.getElem?_eq_some_iff.1 h).1]
  | _ => simp [World.cell?, hb] at h
theorem number_nil (tx : Nat -> Addr) (w : World) (g : Gs tx w) :
 Calls Tryz.prog 31 #[.nilIface] w fun e w' => e = .returned (.int .i64 0) /\ w' = w := by
 have h0 := g.errs 0 (by decide)
 have h1 := g.errs 1 (by decide)
 have h2 := g.errs 2 (by decide)
 have h3 := g.errs 3 (by decide)
 have h4 := g.errs 4 (by decide)
 have h5 := g.errs 5 (by decide)
 have h6 := g.errs 6 (by decide)
 have h7 := g.errs 7 (by decide)
 go_enter Tryz.func31, Tryz.ntmps31
 go_wp2_with fail
 refine (zhs (tx 0) _).mono ?_
 rintro e w' ⟨rfl, rfl⟩
 go_wp2_with fail
 refine (zhs (tx 1) _).mono ?_
 rintro e w' ⟨rfl, rfl⟩
 go_wp2_with fail
 refine (zhs (tx 2) _).mono ?_
 rintro e w' ⟨rfl, rfl⟩
 go_wp2_with fail
 refine (zhs (tx 3) _).mono ?_
 rintro e w' ⟨rfl, rfl⟩
 go_wp2_with fail
 refine (zhs (tx 4) _).mono ?_
 rintro e w' ⟨rfl, rfl⟩
 go_wp2_with fail
 refine (zhs (tx 5) _).mono ?_
 rintro e w' ⟨rfl, rfl⟩
 go_wp2_with fail
 refine (zhs (tx 6) _).mono ?_
 rintro e w' ⟨rfl, rfl⟩
 go_wp2_with fail
 refine (zhs (tx 7) _).mono ?_
 rintro e w' ⟨rfl, rfl⟩
 go_wp2_with fail
 go_ret
 exact ⟨rfl, rfl⟩
theorem number_long (tx : Nat -> Addr) (w : World) (g : Gs tx w) :
 Calls Tryz.prog 31 #[.iface 353 (.pointer (some (tx 0)))] w fun e w' => e = .returned (.int .i64 1) /\ w' = w := by
 have h0 := g.long
 go_enter Tryz.func31, Tryz.ntmps31
 go_wp2_with fail
 refine (is_same (tx 0) _).mono ?_
 rintro e w' ⟨rfl, rfl⟩
 go_wp2_with fail
 go_ret
 exact ⟨rfl, rfl⟩
theorem number_at1 (tx : Nat -> Addr) (q i : Nat) (w : World) (g : Gs tx w) (h : AtErr (tx 1) q i w) :
 Calls Tryz.prog 31 #[atv q] w fun e w' => e = .returned (.int .i64 2) /\ w' = w := by
 have h0 := g.errs 0 (by decide)
 have h1 := g.errs 1 (by decide)
 have c1 := h.cell1
 obtain ⟨ck, tk, hk⟩ := g.bl 1 (by decide)
 go_enter Tryz.func31, Tryz.ntmps31
 obtain ⟨c0', t0', hb0⟩ := g.bl 0 (by decide)
 go_wp2_with fail
 refine (zad q (tx 0) (tx 1) ck c0' tk t0' _ c1 (g.ne 1 0 (by decide) (by decide) (by decide)) hk hb0).mono ?_
 rintro e w' ⟨rfl, rfl⟩
 go_wp2_with fail
 refine (zbq q (tx 1) _ c1).mono ?_
 rintro e w' ⟨rfl, rfl⟩
 go_wp2_with fail
 go_ret
 exact ⟨rfl, rfl⟩
theorem number_at2 (tx : Nat -> Addr) (q i : Nat) (w : World) (g : Gs tx w) (h : AtErr (tx 2) q i w) :
 Calls Tryz.prog 31 #[atv q] w fun e w' => e = .returned (.int .i64 3) /\ w' = w := by
 have h0 := g.errs 0 (by decide)
 have h1 := g.errs 1 (by decide)
 have h2 := g.errs 2 (by decide)
 have c1 := h.cell1
 obtain ⟨ck, tk, hk⟩ := g.bl 2 (by decide)
 go_enter Tryz.func31, Tryz.ntmps31
 obtain ⟨c0', t0', hb0⟩ := g.bl 0 (by decide)
 go_wp2_with fail
 refine (zad q (tx 0) (tx 2) ck c0' tk t0' _ c1 (g.ne 2 0 (by decide) (by decide) (by decide)) hk hb0).mono ?_
 rintro e w' ⟨rfl, rfl⟩
 obtain ⟨c1', t1', hb1⟩ := g.bl 1 (by decide)
 go_wp2_with fail
 refine (zad q (tx 1) (tx 2) ck c1' tk t1' _ c1 (g.ne 2 1 (by decide) (by decide) (by decide)) hk hb1).mono ?_
 rintro e w' ⟨rfl, rfl⟩
 go_wp2_with fail
 refine (zbq q (tx 2) _ c1).mono ?_
 rintro e w' ⟨rfl, rfl⟩
 go_wp2_with fail
 go_ret
 exact ⟨rfl, rfl⟩
theorem number_at3 (tx : Nat -> Addr) (q i : Nat) (w : World) (g : Gs tx w) (h : AtErr (tx 3) q i w) :
 Calls Tryz.prog 31 #[atv q] w fun e w' => e = .returned (.int .i64 4) /\ w' = w := by
 have h0 := g.errs 0 (by decide)
 have h1 := g.errs 1 (by decide)
 have h2 := g.errs 2 (by decide)
 have h3 := g.errs 3 (by decide)
 have c1 := h.cell1
 obtain ⟨ck, tk, hk⟩ := g.bl 3 (by decide)
 go_enter Tryz.func31, Tryz.ntmps31
 obtain ⟨c0', t0', hb0⟩ := g.bl 0 (by decide)
 go_wp2_with fail
 refine (zad q (tx 0) (tx 3) ck c0' tk t0' _ c1 (g.ne 3 0 (by decide) (by decide) (by decide)) hk hb0).mono ?_
 rintro e w' ⟨rfl, rfl⟩
 obtain ⟨c1', t1', hb1⟩ := g.bl 1 (by decide)
 go_wp2_with fail
 refine (zad q (tx 1) (tx 3) ck c1' tk t1' _ c1 (g.ne 3 1 (by decide) (by decide) (by decide)) hk hb1).mono ?_
 rintro e w' ⟨rfl, rfl⟩
 obtain ⟨c2', t2', hb2⟩ := g.bl 2 (by decide)
 go_wp2_with fail
 refine (zad q (tx 2) (tx 3) ck c2' tk t2' _ c1 (g.ne 3 2 (by decide) (by decide) (by decide)) hk hb2).mono ?_
 rintro e w' ⟨rfl, rfl⟩
 go_wp2_with fail
 refine (zbq q (tx 3) _ c1).mono ?_
 rintro e w' ⟨rfl, rfl⟩
 go_wp2_with fail
 go_ret
 exact ⟨rfl, rfl⟩
theorem number_at4 (tx : Nat -> Addr) (q i : Nat) (w : World) (g : Gs tx w) (h : AtErr (tx 4) q i w) :
 Calls Tryz.prog 31 #[atv q] w fun e w' => e = .returned (.int .i64 5) /\ w' = w := by
 have h0 := g.errs 0 (by decide)
 have h1 := g.errs 1 (by decide)
 have h2 := g.errs 2 (by decide)
 have h3 := g.errs 3 (by decide)
 have h4 := g.errs 4 (by decide)
 have c1 := h.cell1
 obtain ⟨ck, tk, hk⟩ := g.bl 4 (by decide)
 go_enter Tryz.func31, Tryz.ntmps31
 obtain ⟨c0', t0', hb0⟩ := g.bl 0 (by decide)
 go_wp2_with fail
 refine (zad q (tx 0) (tx 4) ck c0' tk t0' _ c1 (g.ne 4 0 (by decide) (by decide) (by decide)) hk hb0).mono ?_
 rintro e w' ⟨rfl, rfl⟩
 obtain ⟨c1', t1', hb1⟩ := g.bl 1 (by decide)
 go_wp2_with fail
 refine (zad q (tx 1) (tx 4) ck c1' tk t1' _ c1 (g.ne 4 1 (by decide) (by decide) (by decide)) hk hb1).mono ?_
 rintro e w' ⟨rfl, rfl⟩
 obtain ⟨c2', t2', hb2⟩ := g.bl 2 (by decide)
 go_wp2_with fail
 refine (zad q (tx 2) (tx 4) ck c2' tk t2' _ c1 (g.ne 4 2 (by decide) (by decide) (by decide)) hk hb2).mono ?_
 rintro e w' ⟨rfl, rfl⟩
 obtain ⟨c3', t3', hb3⟩ := g.bl 3 (by decide)
 go_wp2_with fail
 refine (zad q (tx 3) (tx 4) ck c3' tk t3' _ c1 (g.ne 4 3 (by decide) (by decide) (by decide)) hk hb3).mono ?_
 rintro e w' ⟨rfl, rfl⟩
 go_wp2_with fail
 refine (zbq q (tx 4) _ c1).mono ?_
 rintro e w' ⟨rfl, rfl⟩
 go_wp2_with fail
 go_ret
 exact ⟨rfl, rfl⟩
theorem number_at5 (tx : Nat -> Addr) (q i : Nat) (w : World) (g : Gs tx w) (h : AtErr (tx 5) q i w) :
 Calls Tryz.prog 31 #[atv q] w fun e w' => e = .returned (.int .i64 6) /\ w' = w := by
 have h0 := g.errs 0 (by decide)
 have h1 := g.errs 1 (by decide)
 have h2 := g.errs 2 (by decide)
 have h3 := g.errs 3 (by decide)
 have h4 := g.errs 4 (by decide)
 have h5 := g.errs 5 (by decide)
 have c1 := h.cell1
 obtain ⟨ck, tk, hk⟩ := g.bl 5 (by decide)
 go_enter Tryz.func31, Tryz.ntmps31
 obtain ⟨c0', t0', hb0⟩ := g.bl 0 (by decide)
 go_wp2_with fail
 refine (zad q (tx 0) (tx 5) ck c0' tk t0' _ c1 (g.ne 5 0 (by decide) (by decide) (by decide)) hk hb0).mono ?_
 rintro e w' ⟨rfl, rfl⟩
 obtain ⟨c1', t1', hb1⟩ := g.bl 1 (by decide)
 go_wp2_with fail
 refine (zad q (tx 1) (tx 5) ck c1' tk t1' _ c1 (g.ne 5 1 (by decide) (by decide) (by decide)) hk hb1).mono ?_
 rintro e w' ⟨rfl, rfl⟩
 obtain ⟨c2', t2', hb2⟩ := g.bl 2 (by decide)
 go_wp2_with fail
 refine (zad q (tx 2) (tx 5) ck c2' tk t2' _ c1 (g.ne 5 2 (by decide) (by decide) (by decide)) hk hb2).mono ?_
 rintro e w' ⟨rfl, rfl⟩
 obtain ⟨c3', t3', hb3⟩ := g.bl 3 (by decide)
 go_wp2_with fail
 refine (zad q (tx 3) (tx 5) ck c3' tk t3' _ c1 (g.ne 5 3 (by decide) (by decide) (by decide)) hk hb3).mono ?_
 rintro e w' ⟨rfl, rfl⟩
 obtain ⟨c4', t4', hb4⟩ := g.bl 4 (by decide)
 go_wp2_with fail
 refine (zad q (tx 4) (tx 5) ck c4' tk t4' _ c1 (g.ne 5 4 (by decide) (by decide) (by decide)) hk hb4).mono ?_
 rintro e w' ⟨rfl, rfl⟩
 go_wp2_with fail
 refine (zbq q (tx 5) _ c1).mono ?_
 rintro e w' ⟨rfl, rfl⟩
 go_wp2_with fail
 go_ret
 exact ⟨rfl, rfl⟩
theorem number_at6 (tx : Nat -> Addr) (q i : Nat) (w : World) (g : Gs tx w) (h : AtErr (tx 6) q i w) :
 Calls Tryz.prog 31 #[atv q] w fun e w' => e = .returned (.int .i64 7) /\ w' = w := by
 have h0 := g.errs 0 (by decide)
 have h1 := g.errs 1 (by decide)
 have h2 := g.errs 2 (by decide)
 have h3 := g.errs 3 (by decide)
 have h4 := g.errs 4 (by decide)
 have h5 := g.errs 5 (by decide)
 have h6 := g.errs 6 (by decide)
 have c1 := h.cell1
 obtain ⟨ck, tk, hk⟩ := g.bl 6 (by decide)
 go_enter Tryz.func31, Tryz.ntmps31
 obtain ⟨c0', t0', hb0⟩ := g.bl 0 (by decide)
 go_wp2_with fail
 refine (zad q (tx 0) (tx 6) ck c0' tk t0' _ c1 (g.ne 6 0 (by decide) (by decide) (by decide)) hk hb0).mono ?_
 rintro e w' ⟨rfl, rfl⟩
 obtain ⟨c1', t1', hb1⟩ := g.bl 1 (by decide)
 go_wp2_with fail
 refine (zad q (tx 1) (tx 6) ck c1' tk t1' _ c1 (g.ne 6 1 (by decide) (by decide) (by decide)) hk hb1).mono ?_
 rintro e w' ⟨rfl, rfl⟩
 obtain ⟨c2', t2', hb2⟩ := g.bl 2 (by decide)
 go_wp2_with fail
 refine (zad q (tx 2) (tx 6) ck c2' tk t2' _ c1 (g.ne 6 2 (by decide) (by decide) (by decide)) hk hb2).mono ?_
 rintro e w' ⟨rfl, rfl⟩
 obtain ⟨c3', t3', hb3⟩ := g.bl 3 (by decide)
 go_wp2_with fail
 refine (zad q (tx 3) (tx 6) ck c3' tk t3' _ c1 (g.ne 6 3 (by decide) (by decide) (by decide)) hk hb3).mono ?_
 rintro e w' ⟨rfl, rfl⟩
 obtain ⟨c4', t4', hb4⟩ := g.bl 4 (by decide)
 go_wp2_with fail
 refine (zad q (tx 4) (tx 6) ck c4' tk t4' _ c1 (g.ne 6 4 (by decide) (by decide) (by decide)) hk hb4).mono ?_
 rintro e w' ⟨rfl, rfl⟩
 obtain ⟨c5', t5', hb5⟩ := g.bl 5 (by decide)
 go_wp2_with fail
 refine (zad q (tx 5) (tx 6) ck c5' tk t5' _ c1 (g.ne 6 5 (by decide) (by decide) (by decide)) hk hb5).mono ?_
 rintro e w' ⟨rfl, rfl⟩
 go_wp2_with fail
 refine (zbq q (tx 6) _ c1).mono ?_
 rintro e w' ⟨rfl, rfl⟩
 go_wp2_with fail
 go_ret
 exact ⟨rfl, rfl⟩
theorem number_at7 (tx : Nat -> Addr) (q i : Nat) (w : World) (g : Gs tx w) (h : AtErr (tx 7) q i w) :
 Calls Tryz.prog 31 #[atv q] w fun e w' => e = .returned (.int .i64 8) /\ w' = w := by
 have h0 := g.errs 0 (by decide)
 have h1 := g.errs 1 (by decide)
 have h2 := g.errs 2 (by decide)
 have h3 := g.errs 3 (by decide)
 have h4 := g.errs 4 (by decide)
 have h5 := g.errs 5 (by decide)
 have h6 := g.errs 6 (by decide)
 have h7 := g.errs 7 (by decide)
 have c1 := h.cell1
 obtain ⟨ck, tk, hk⟩ := g.bl 7 (by decide)
 go_enter Tryz.func31, Tryz.ntmps31
 obtain ⟨c0', t0', hb0⟩ := g.bl 0 (by decide)
 go_wp2_with fail
 refine (zad q (tx 0) (tx 7) ck c0' tk t0' _ c1 (g.ne 7 0 (by decide) (by decide) (by decide)) hk hb0).mono ?_
 rintro e w' ⟨rfl, rfl⟩
 obtain ⟨c1', t1', hb1⟩ := g.bl 1 (by decide)
 go_wp2_with fail
 refine (zad q (tx 1) (tx 7) ck c1' tk t1' _ c1 (g.ne 7 1 (by decide) (by decide) (by decide)) hk hb1).mono ?_
 rintro e w' ⟨rfl, rfl⟩
 obtain ⟨c2', t2', hb2⟩ := g.bl 2 (by decide)
 go_wp2_with fail
 refine (zad q (tx 2) (tx 7) ck c2' tk t2' _ c1 (g.ne 7 2 (by decide) (by decide) (by decide)) hk hb2).mono ?_
 rintro e w' ⟨rfl, rfl⟩
 obtain ⟨c3', t3', hb3⟩ := g.bl 3 (by decide)
 go_wp2_with fail
 refine (zad q (tx 3) (tx 7) ck c3' tk t3' _ c1 (g.ne 7 3 (by decide) (by decide) (by decide)) hk hb3).mono ?_
 rintro e w' ⟨rfl, rfl⟩
 obtain ⟨c4', t4', hb4⟩ := g.bl 4 (by decide)
 go_wp2_with fail
 refine (zad q (tx 4) (tx 7) ck c4' tk t4' _ c1 (g.ne 7 4 (by decide) (by decide) (by decide)) hk hb4).mono ?_
 rintro e w' ⟨rfl, rfl⟩
 obtain ⟨c5', t5', hb5⟩ := g.bl 5 (by decide)
 go_wp2_with fail
 refine (zad q (tx 5) (tx 7) ck c5' tk t5' _ c1 (g.ne 7 5 (by decide) (by decide) (by decide)) hk hb5).mono ?_
 rintro e w' ⟨rfl, rfl⟩
 obtain ⟨c6', t6', hb6⟩ := g.bl 6 (by decide)
 go_wp2_with fail
 refine (zad q (tx 6) (tx 7) ck c6' tk t6' _ c1 (g.ne 7 6 (by decide) (by decide) (by decide)) hk hb6).mono ?_
 rintro e w' ⟨rfl, rfl⟩
 go_wp2_with fail
 refine (zbq q (tx 7) _ c1).mono ?_
 rintro e w' ⟨rfl, rfl⟩
 go_wp2_with fail
 go_ret
 exact ⟨rfl, rfl⟩
theorem number_at (tx : Nat -> Addr) (k q i : Nat) (w : World) (g : Gs tx w) (h1 : 1 <= k) (h7 : k < 8) (h : AtErr (tx k) q i w) :
 Calls Tryz.prog 31 #[atv q] w fun e w' => e = .returned (.int .i64 (numOf k : Int)) /\ w' = w := by
 match k, h1, h7, h with
 | 1, _, _, h => exact number_at1 tx q i w g h
 | 2, _, _, h => exact number_at2 tx q i w g h
 | 3, _, _, h => exact number_at3 tx q i w g h
 | 4, _, _, h => exact number_at4 tx q i w g h
 | 5, _, _, h => exact number_at5 tx q i w g h
 | 6, _, _, h => exact number_at6 tx q i w g h
 | 7, _, _, h => exact number_at7 tx q i w g h
 | n + 8, _, h7, _ => omega
theorem place_nil (w : World) :
 Calls Tryz.prog 32 #[.nilIface] w fun e w' => e = .returned (.int .i64 0) /\ Below w.heap.size w w' := by
 go_enter Tryz.func32, Tryz.ntmps32
 go_wp2_with fail
 refine (as_nil _ _).mono ?_
 rintro e w' ⟨rfl, rfl⟩
 go_wp2_with fail
 go_ret
 exact ⟨rfl, bal w _⟩
theorem place_long (tx : Nat -> Addr) (w : World) (g : Gs tx w) :
 Calls Tryz.prog 32 #[.iface 353 (.pointer (some (tx 0)))] w fun e w' => e = .returned (.int .i64 0) /\ Below w.heap.size w w' := by
 have h2 : (w.alloc (.cells #[.pointer none] 87)).cell? ⟨8, 0, none⟩ = some (.iface 190 (.agg #[.pointer (some ⟨11, 55, none⟩)])) := by
  rw [World.cell?_alloc_lt _ _ ⟨8, 0, none⟩ (by have := g.size; show 8 < _; omega)]; exact g.hand
 go_enter Tryz.func32, Tryz.ntmps32
 go_wp2_with fail
 refine (as_miss (tx 0) _ _ h2).mono ?_
 rintro e w' ⟨rfl, rfl⟩
 go_wp2_with fail
 go_ret
 exact ⟨rfl, (((bal w _).alloc (by simp) _).alloc (by simp; omega) _).alloc (by simp; omega) _⟩
theorem place_at (tx : Nat -> Addr) (a : Addr) (q i : Nat) (w : World) (g : Gs tx w) (h : AtErr a q i w) :
 Calls Tryz.prog 32 #[atv q] w fun e w' => e = .returned (.int .i64 i) /\ Below w.heap.size w w' := by
 have h2 : (w.alloc (.cells #[.pointer none] 87)).cell? ⟨8, 0, none⟩ = some (.iface 190 (.agg #[.pointer (some ⟨11, 55, none⟩)])) := by
  rw [World.cell?_alloc_lt _ _ ⟨8, 0, none⟩ (by have := g.size; show 8 < _; omega)]; exact g.hand
 have hq := h.lt
 have c0 := h.cell0
 go_enter Tryz.func32, Tryz.ntmps32
 go_wp2_with fail
 refine (as_hit ⟨q, 0, none⟩ ⟨w.heap.size, 0, none⟩ (.pointer none) _ h2 (by simp) (by simp)).mono ?_
 rintro e w' ⟨rfl, hw⟩
 have hb : Below w.heap.size w w' := by
  rw [hw]
  exact ((((bal w _).alloc (by simp) _).alloc (by simp; omega) _).alloc (by simp; omega) _).alloc (by simp; omega) _ |>.setCell (Nat.le_refl _) _
 have k0 : w'.cell? ⟨w.heap.size, 0, none⟩ = some (.pointer (some ⟨q, 0, none⟩)) := by
  rw [hw]
  refine zmm (u := .pointer none) ?_
  rw [World.cell?_alloc_lt _ _ _ (by simp; omega), World.cell?_alloc_lt _ _ _ (by simp; omega), World.cell?_alloc_lt _ _ _ (by simp; omega), World.cell?_alloc_lt _ _ _ (by simp)]
  simp
 have k1 : w'.cell? ⟨q, 0, none⟩ = some (.int .i64 (i : Int)) := (hb.cell (p := ⟨q, 0, none⟩) hq).trans c0
 clear hw h2 c0 g h
 go_wp2_with fail
 go_ret
 exact ⟨rfl, hb⟩
end Go.Proofs.YtceadeaodbadlaaGreatDoor
namespace Go.Proofs.YtceadeaodbadlaaGreatDoor
open Go.ChangeShapes Go.WideShapes Go.ChangeAt Go.RowKit
theorem ownK : ownKnob Tryz.prog.godebug = none := by kernel_rfl
theorem g0 : Tryz.prog.globalNamed "shape/fault.Long" = some 0 := by kernel_rfl
theorem g0T : (Tryz.prog.globals[0]?).map (·.type) = some 55 := by kernel_rfl
theorem g1 : Tryz.prog.globalNamed "shape/fault.Text" = some 1 := by kernel_rfl
theorem g1T : (Tryz.prog.globals[1]?).map (·.type) = some 55 := by kernel_rfl
theorem g2 : Tryz.prog.globalNamed "shape/fault.Free" = some 2 := by kernel_rfl
theorem g2T : (Tryz.prog.globals[2]?).map (·.type) = some 55 := by kernel_rfl
theorem g3 : Tryz.prog.globalNamed "shape/fault.Count" = some 3 := by kernel_rfl
theorem g3T : (Tryz.prog.globals[3]?).map (·.type) = some 55 := by kernel_rfl
theorem g4 : Tryz.prog.globalNamed "shape/fault.Mixed" = some 4 := by kernel_rfl
theorem g4T : (Tryz.prog.globals[4]?).map (·.type) = some 55 := by kernel_rfl
theorem g5 : Tryz.prog.globalNamed "shape/fault.Fixed" = some 5 := by kernel_rfl
theorem g5T : (Tryz.prog.globals[5]?).map (·.type) = some 55 := by kernel_rfl
theorem g6 : Tryz.prog.globalNamed "shape/fault.Type" = some 6 := by kernel_rfl
theorem g6T : (Tryz.prog.globals[6]?).map (·.type) = some 55 := by kernel_rfl
theorem g7 : Tryz.prog.globalNamed "shape/fault.Big" = some 7 := by kernel_rfl
theorem g7T : (Tryz.prog.globals[7]?).map (·.type) = some 55 := by kernel_rfl
theorem gType : Tryz.prog.globalNamed "errors.errorType" = some 8 := by kernel_rfl
theorem cellsES : Tryz.prog.cellsOf 371 = 1 := by kernel_rfl
theorem cellsS : Tryz.prog.cellsOf 9 = 1 := by kernel_rfl
theorem rtRow : (Tryz.prog.cutTypes.find? (·.1 == "internal/reflectlite.rtype")).map (·.2) = some 190 := by kernel_rfl
theorem typesSize : Tryz.prog.types.size = 382 := by kernel_rfl
theorem oneRow : ((List.range 382).filter fun t => Tryz.prog.rowNamed t [101, 114, 114, 111, 114]) = [55] := by kernel_rfl
theorem starE : "*" ++ "errors.errorString" = "*errors.errorString" := by decide
theorem rowE (u : TypeId) (h : Tryz.prog.typeName? 3 u = some "*errors.errorString") : u = 353 :=
 typeName_ptr_named (nm := "errors.errorString") (by rw [starE]; kernel_rfl) (by kernel_rfl) (by decide) u (by rw [starE]; exact h)
def sents : List (String × DataW Unit) := [("shape/fault.Long", Rows.laid_shape_fault_Long), ("shape/fault.Text", Rows.laid_shape_fault_Text), ("shape/fault.Free", Rows.laid_shape_fault_Free), ("shape/fault.Count", Rows.laid_shape_fault_Count), ("shape/fault.Mixed", Rows.laid_shape_fault_Mixed), ("shape/fault.Fixed", Rows.laid_shape_fault_Fixed), ("shape/fault.Type", Rows.laid_shape_fault_Type), ("shape/fault.Big", Rows.laid_shape_fault_Big)]
theorem zbi {W : World} {x : String} {g : Nat} {v : Value} (hg : Tryz.prog.globalNamed x = some g) (h : W.var? Tryz.prog x = some #[v]) : W.cell? ⟨g, 0, none⟩ = some v := by
 simpa using World.var?_cell hg h 0
def Apart (x y : String) (W : World) : Prop := ∃ (a b : Addr) (c d : Array Value) (t u : TypeId), W.var? Tryz.prog x = some #[.iface 353 (.pointer (some a))] /\ W.var? Tryz.prog y = some #[.iface 353 (.pointer (some b))] /\ a ≠ b /\
 W.heap[a.block]? = some (.cells c t (0, 0)) /\ W.heap[b.block]? = some (.cells d u (0, 0))
theorem Apart.ne {x y : String} {W : World} (h : Apart x y W) {a b : Addr} (ha : W.var? Tryz.prog x = some #[.iface 353 (.pointer (some a))]) (hb : W.var? Tryz.prog y = some #[.iface 353 (.pointer (some b))]) : a ≠ b := by
 obtain ⟨a', b', _, _, _, _, h1, h2, h3, _⟩ := h
 rw [ha] at h1
 rw [hb] at h2
 simp at h1 h2
 subst h1
 subst h2
 exact h3
theorem zbf {x y : String} {a b : Nat} {tx ty : List UInt8} {W : World} (h : laidMet Tryz.prog sents W)
 (hf : sents.filter (fun z => z.1 == x || z.1 == y) = [(x, .iface "*errors.errorString" (.ptr (.agg [.lit (.string tx)]))), (y, .iface "*errors.errorString" (.ptr (.agg [.lit (.string ty)])))])
 (gx : Tryz.prog.globalNamed x = some a) (gxT : (Tryz.prog.globals[a]?).map (·.type) = some 55) (gy : Tryz.prog.globalNamed y = some b) (gyT : (Tryz.prog.globals[b]?).map (·.type) = some 55) : Apart x y W := by
 have h2 := h.filter (fun z => z.1 == x || z.1 == y)
 rw [hf] at h2
 obtain ⟨a0, a1, s0, s1, c0, c1, t0, t1, hv0, hv1, _, _, _, _, _, _, hne, hb0, hb1⟩ := laid_sentinels2 h2 gx gxT gy gyT Tryz.underlying55 rowE Tryz.underlying353 Tryz.underlying371 rfl rfl Tryz.underlying9 cellsES cellsS
 exact ⟨a0, a1, c0, c1, t0, t1, hv0, hv1, hne, hb0, hb1⟩
theorem pair01 {W : World} (h : laidMet Tryz.prog sents W) : Apart "shape/fault.Long" "shape/fault.Text" W := zbf h rfl g0 g0T g1 g1T
theorem pair02 {W : World} (h : laidMet Tryz.prog sents W) : Apart "shape/fault.Long" "shape/fault.Free" W := zbf h rfl g0 g0T g2 g2T
theorem pair03 {W : World} (h : laidMet Tryz.prog sents W) : Apart "shape/fault.Long" "shape/fault.Count" W := zbf h rfl g0 g0T g3 g3T
theorem pair04 {W : World} (h : laidMet Tryz.prog sents W) : Apart "shape/fault.Long" "shape/fault.Mixed" W := zbf h rfl g0 g0T g4 g4T
theorem pair05 {W : World} (h : laidMet Tryz.prog sents W) : Apart "shape/fault.Long" "shape/fault.Fixed" W := zbf h rfl g0 g0T g5 g5T
theorem pair06 {W : World} (h : laidMet Tryz.prog sents W) : Apart "shape/fault.Long" "shape/fault.Type" W := zbf h rfl g0 g0T g6 g6T
theorem pair07 {W : World} (h : laidMet Tryz.prog sents W) : Apart "shape/fault.Long" "shape/fault.Big" W := zbf h rfl g0 g0T g7 g7T
theorem pair12 {W : World} (h : laidMet Tryz.prog sents W) : Apart "shape/fault.Text" "shape/fault.Free" W := zbf h rfl g1 g1T g2 g2T
theorem pair13 {W : World} (h : laidMet Tryz.prog sents W) : Apart "shape/fault.Text" "shape/fault.Count" W := zbf h rfl g1 g1T g3 g3T
theorem pair14 {W : World} (h : laidMet Tryz.prog sents W) : Apart "shape/fault.Text" "shape/fault.Mixed" W := zbf h rfl g1 g1T g4 g4T
theorem pair15 {W : World} (h : laidMet Tryz.prog sents W) : Apart "shape/fault.Text" "shape/fault.Fixed" W := zbf h rfl g1 g1T g5 g5T
theorem pair16 {W : World} (h : laidMet Tryz.prog sents W) : Apart "shape/fault.Text" "shape/fault.Type" W := zbf h rfl g1 g1T g6 g6T
theorem pair17 {W : World} (h : laidMet Tryz.prog sents W) : Apart "shape/fault.Text" "shape/fault.Big" W := zbf h rfl g1 g1T g7 g7T
theorem pair23 {W : World} (h : laidMet Tryz.prog sents W) : Apart "shape/fault.Free" "shape/fault.Count" W := zbf h rfl g2 g2T g3 g3T
theorem pair24 {W : World} (h : laidMet Tryz.prog sents W) : Apart "shape/fault.Free" "shape/fault.Mixed" W := zbf h rfl g2 g2T g4 g4T
theorem pair25 {W : World} (h : laidMet Tryz.prog sents W) : Apart "shape/fault.Free" "shape/fault.Fixed" W := zbf h rfl g2 g2T g5 g5T
theorem pair26 {W : World} (h : laidMet Tryz.prog sents W) : Apart "shape/fault.Free" "shape/fault.Type" W := zbf h rfl g2 g2T g6 g6T
theorem pair27 {W : World} (h : laidMet Tryz.prog sents W) : Apart "shape/fault.Free" "shape/fault.Big" W := zbf h rfl g2 g2T g7 g7T
theorem pair34 {W : World} (h : laidMet Tryz.prog sents W) : Apart "shape/fault.Count" "shape/fault.Mixed" W := zbf h rfl g3 g3T g4 g4T
theorem pair35 {W : World} (h : laidMet Tryz.prog sents W) : Apart "shape/fault.Count" "shape/fault.Fixed" W := zbf h rfl g3 g3T g5 g5T
theorem pair36 {W : World} (h : laidMet Tryz.prog sents W) : Apart "shape/fault.Count" "shape/fault.Type" W := zbf h rfl g3 g3T g6 g6T
theorem pair37 {W : World} (h : laidMet Tryz.prog sents W) : Apart "shape/fault.Count" "shape/fault.Big" W := zbf h rfl g3 g3T g7 g7T
theorem pair45 {W : World} (h : laidMet Tryz.prog sents W) : Apart "shape/fault.Mixed" "shape/fault.Fixed" W := zbf h rfl g4 g4T g5 g5T
theorem pair46 {W : World} (h : laidMet Tryz.prog sents W) : Apart "shape/fault.Mixed" "shape/fault.Type" W := zbf h rfl g4 g4T g6 g6T
theorem pair47 {W : World} (h : laidMet Tryz.prog sents W) : Apart "shape/fault.Mixed" "shape/fault.Big" W := zbf h rfl g4 g4T g7 g7T
theorem pair56 {W : World} (h : laidMet Tryz.prog sents W) : Apart "shape/fault.Fixed" "shape/fault.Type" W := zbf h rfl g5 g5T g6 g6T
theorem pair57 {W : World} (h : laidMet Tryz.prog sents W) : Apart "shape/fault.Fixed" "shape/fault.Big" W := zbf h rfl g5 g5T g7 g7T
theorem pair67 {W : World} (h : laidMet Tryz.prog sents W) : Apart "shape/fault.Type" "shape/fault.Big" W := zbf h rfl g6 g6T g7 g7T
theorem of_sents {W : World} (h : laidMet Tryz.prog sents W) (hh : W.cell? ⟨8, 0, none⟩ = some (.iface 190 (.agg #[.pointer (some ⟨11, 55, none⟩)]))) : ∃ tx, Gs tx W := by
 obtain ⟨b1, a1, d1, c1, u1, t1, w1, v1, _, y1, z1⟩ := pair01 h
 obtain ⟨b2, a2, d2, c2, u2, t2, w2, v2, _, y2, z2⟩ := pair02 h
 obtain ⟨b3, a3, d3, c3, u3, t3, w3, v3, _, y3, z3⟩ := pair03 h
 obtain ⟨b4, a4, d4, c4, u4, t4, w4, v4, _, y4, z4⟩ := pair04 h
 obtain ⟨b5, a5, d5, c5, u5, t5, w5, v5, _, y5, z5⟩ := pair05 h
 obtain ⟨b6, a6, d6, c6, u6, t6, w6, v6, _, y6, z6⟩ := pair06 h
 obtain ⟨b7, a7, d7, c7, u7, t7, w7, v7, _, y7, z7⟩ := pair07 h
 refine ⟨fun k => if k = 0 then b1 else if k = 1 then a1 else if k = 2 then a2 else if k = 3 then a3 else if k = 4 then a4 else if k = 5 then a5 else if k = 6 then a6 else a7, ⟨⟨fun k hk => ?_, hh, World.block_lt_of_cell? W ⟨8, 0, none⟩ hh⟩, fun j k hj hk hjk => ?_, fun k hk => ?_⟩⟩
 · rcases (by omega : k = 0 \/ k = 1 \/ k = 2 \/ k = 3 \/ k = 4 \/ k = 5 \/ k = 6 \/ k = 7) with rfl | rfl | rfl | rfl | rfl | rfl | rfl | rfl
   · exact zbi g0 w1
   · exact zbi g1 v1
   · exact zbi g2 v2
   · exact zbi g3 v3
   · exact zbi g4 v4
   · exact zbi g5 v5
   · exact zbi g6 v6
   · exact zbi g7 v7
 · have N : ∀ j k, j < k -> k < 8 -> (if j = 0 then b1 else if j = 1 then a1 else if j = 2 then a2 else if j = 3 then a3 else if j = 4 then a4 else if j = 5 then a5 else if j = 6 then a6 else a7) ≠ (if k = 0 then b1 else if k = 1 then a1 else if k = 2 then a2 else if k = 3 then a3 else if k = 4 then a4 else if k = 5 then a5 else if k = 6 then a6 else a7) := by
    intro j k hjk hk
    rcases (by omega : k = 0 \/ k = 1 \/ k = 2 \/ k = 3 \/ k = 4 \/ k = 5 \/ k = 6 \/ k = 7) with rfl | rfl | rfl | rfl | rfl | rfl | rfl | rfl
    · omega
    · rcases (by omega : j = 0) with rfl
      · exact (pair01 h).ne w1 v1
    · rcases (by omega : j = 0 \/ j = 1) with rfl | rfl
      · exact (pair02 h).ne w1 v2
      · exact (pair12 h).ne v1 v2
    · rcases (by omega : j = 0 \/ j = 1 \/ j = 2) with rfl | rfl | rfl
      · exact (pair03 h).ne w1 v3
      · exact (pair13 h).ne v1 v3
      · exact (pair23 h).ne v2 v3
    · rcases (by omega : j = 0 \/ j = 1 \/ j = 2 \/ j = 3) with rfl | rfl | rfl | rfl
      · exact (pair04 h).ne w1 v4
      · exact (pair14 h).ne v1 v4
      · exact (pair24 h).ne v2 v4
      · exact (pair34 h).ne v3 v4
    · rcases (by omega : j = 0 \/ j = 1 \/ j = 2 \/ j = 3 \/ j = 4) with rfl | rfl | rfl | rfl | rfl
      · exact (pair05 h).ne w1 v5
      · exact (pair15 h).ne v1 v5
      · exact (pair25 h).ne v2 v5
      · exact (pair35 h).ne v3 v5
      · exact (pair45 h).ne v4 v5
    · rcases (by omega : j = 0 \/ j = 1 \/ j = 2 \/ j = 3 \/ j = 4 \/ j = 5) with rfl | rfl | rfl | rfl | rfl | rfl
      · exact (pair06 h).ne w1 v6
      · exact (pair16 h).ne v1 v6
      · exact (pair26 h).ne v2 v6
      · exact (pair36 h).ne v3 v6
      · exact (pair46 h).ne v4 v6
      · exact (pair56 h).ne v5 v6
    · rcases (by omega : j = 0 \/ j = 1 \/ j = 2 \/ j = 3 \/ j = 4 \/ j = 5 \/ j = 6) with rfl | rfl | rfl | rfl | rfl | rfl | rfl
      · exact (pair07 h).ne w1 v7
      · exact (pair17 h).ne v1 v7
      · exact (pair27 h).ne v2 v7
      · exact (pair37 h).ne v3 v7
      · exact (pair47 h).ne v4 v7
      · exact (pair57 h).ne v5 v7
      · exact (pair67 h).ne v6 v7
   rcases Nat.lt_or_gt_of_ne hjk with h1 | h1
   · exact N j k h1 hk
   · exact (N k j h1 hj).symm
 · rcases (by omega : k = 0 \/ k = 1 \/ k = 2 \/ k = 3 \/ k = 4 \/ k = 5 \/ k = 6 \/ k = 7) with rfl | rfl | rfl | rfl | rfl | rfl | rfl | rfl
   · exact ⟨_, _, y1⟩
   · exact ⟨_, _, z1⟩
   · exact ⟨_, _, z2⟩
   · exact ⟨_, _, z3⟩
   · exact ⟨_, _, z4⟩
   · exact ⟨_, _, z5⟩
   · exact ⟨_, _, z6⟩
   · exact ⟨_, _, z7⟩
theorem hand_of {W : World} (h : handlesMet Tryz.prog [("errors.errorType", Rows.laid_errors_errorType)] W) : W.cell? ⟨8, 0, none⟩ = some (.iface 190 (.agg #[.pointer (some ⟨11, 55, none⟩)])) := by
 obtain ⟨name, u, ty, e1, e2, e3, e4, e5⟩ := h _ (List.mem_singleton.2 rfl)
 have en : name = [101, 114, 114, 111, 114] := (Option.some.inj e1).symm
 subst en
 obtain rfl := Option.some.inj (rtRow.symm.trans e2)
 have hm : ty ∈ (List.range 382).filter fun t => Tryz.prog.rowNamed t [101, 114, 114, 111, 114] := List.mem_filter.2 ⟨List.mem_range.2 (by rw [<- typesSize]; exact e3), e4⟩
 rw [oneRow] at hm
 obtain rfl := List.mem_singleton.1 hm
 have hh : typeHandle Tryz.prog 55 = .pointer (some ⟨11, 55, none⟩) := by kernel_rfl
 rw [hh] at e5
 exact zbi gType e5
end Go.Proofs.YtceadeaodbadlaaGreatDoor
namespace Go.Proofs.YtceadeaodbadlaaGreatDoor
abbrev Ty : Type := Go.Deep.BT Unit
abbrev tI : Ty := .node 0 0 () .nil .nil
abbrev tB : Ty := .node 1 0 () .nil .nil
abbrev tV (o : Nat) : Ty := .node 2 o () .nil .nil
abbrev tL (a : Ty) : Ty := .node 3 0 () a .nil
abbrev tP (a b : Ty) : Ty := .node 4 0 () a b
abbrev tF (a b : Ty) : Ty := .node 5 0 () a b
def sz : Ty -> Nat
 | .nil => 0
 | .node _ _ _ a b => sz a + sz b + 1
def Ok : Ty -> Prop
 | .nil => False
 | .node g o _ a b =>
  (g = 0 /\ o = 0 /\ a = .nil /\ b = .nil) \/ (g = 1 /\ o = 0 /\ a = .nil /\ b = .nil) \/ (g = 2 /\ (970 <= o /\ o < 1230) /\ a = .nil /\ b = .nil) \/
  (g = 3 /\ o = 0 /\ Ok a /\ b = .nil) \/ (g = 4 /\ o = 0 /\ Ok a /\ Ok b) \/ (g = 5 /\ o = 0 /\ Ok a /\ Ok b)
theorem Ok.cases {t : Ty} (h : Ok t) : t = tI \/ t = tB \/ (∃ o, 970 <= o /\ o < 1230 /\ t = tV o) \/ (∃ a, Ok a /\ t = tL a) \/ (∃ a b, Ok a /\ Ok b /\ t = tP a b) \/ (∃ a b, Ok a /\ Ok b /\ t = tF a b) := by
 cases t with
 | nil => exact h.elim
 | node g o u a b =>
  cases u
  rcases h with ⟨rfl, rfl, rfl, rfl⟩ | ⟨rfl, rfl, rfl, rfl⟩ | ⟨rfl, ho, rfl, rfl⟩ | ⟨rfl, rfl, ha, rfl⟩ | ⟨rfl, rfl, ha, hb⟩ | ⟨rfl, rfl, ha, hb⟩
  · exact .inl rfl
  · exact .inr (.inl rfl)
  · exact .inr (.inr (.inl ⟨o, ho.1, ho.2, rfl⟩))
  · exact .inr (.inr (.inr (.inl ⟨a, ha, rfl⟩)))
  · exact .inr (.inr (.inr (.inr (.inl ⟨a, b, ha, hb, rfl⟩))))
  · exact .inr (.inr (.inr (.inr (.inr ⟨a, b, ha, hb, rfl⟩))))
theorem okI : Ok tI := .inl ⟨rfl, rfl, rfl, rfl⟩
theorem okB : Ok tB := .inr (.inl ⟨rfl, rfl, rfl, rfl⟩)
theorem okV {o : Nat} (h : 970 <= o) (h' : o < 1230) : Ok (tV o) := .inr (.inr (.inl ⟨rfl, ⟨h, h'⟩, rfl, rfl⟩))
theorem okL {a : Ty} (h : Ok a) : Ok (tL a) := .inr (.inr (.inr (.inl ⟨rfl, rfl, h, rfl⟩)))
theorem okP {a b : Ty} (h : Ok a) (h' : Ok b) : Ok (tP a b) := .inr (.inr (.inr (.inr (.inl ⟨rfl, rfl, h, h'⟩))))
theorem okF {a b : Ty} (h : Ok a) (h' : Ok b) : Ok (tF a b) := .inr (.inr (.inr (.inr (.inr ⟨rfl, rfl, h, h'⟩))))
def eqT : Ty -> Ty -> Bool
 | .nil, .nil => true
 | .node g o _ a b, .node h p _ c d => g == h && o == p && eqT a c && eqT b d
 | _, _ => false
theorem zcx : ∀ x y : Ty, eqT x y = true ↔ x = y := by
 intro x
 induction x with
 | nil => intro y; cases y <;> simp [eqT]
 | node g o u a b iha ihb =>
  intro y
  cases u
  cases y with
  | nil => simp [eqT]
  | node h p u' c d =>
   cases u'
   simp only [eqT, Bool.and_eq_true, beq_iff_eq, iha, ihb, Go.Deep.BT.node.injEq, true_and]
   constructor
   · rintro ⟨⟨⟨rfl, rfl⟩, rfl⟩, rfl⟩; simp
   · rintro ⟨rfl, rfl, rfl, rfl⟩; simp
def look : List (Nat × Ty) -> Nat -> Option Ty
 | [], _ => none
 | (p, t) :: r, o => if p = o then some t else look r o
def sub (θ : Nat -> Ty) : Ty -> Ty
 | .nil => .nil
 | .node g o u a b => if g = 2 then θ o else .node g o u (sub θ a) (sub θ b)
abbrev TOut : Type := Except Nat (Ty × Nat)
def vnum (c d : Nat) : Nat := 10 * c + (if 49 <= d /\ d <= 57 then d - 48 else 0)
def pt (s : ByteArray) : Nat -> Nat -> Nat -> Ty -> TOut
 | 0, _, i, _ => .error i
 | n + 1, 0, i, _ =>
  match pt s n 2 i .nil with
  | .error p => .error p
  | .ok (u, j) =>
   match pt s n 1 j u with
   | .error p => .error p
   | .ok (a, k) =>
    if chr s k = 62 then
     match pt s n 0 (k + 1) .nil with
     | .error p => .error p
     | .ok (b, l) => .ok (tF a b, l)
    else .ok (a, k)
 | n + 1, 1, i, a =>
  if chr s i = 42 then
   match pt s n 2 (i + 1) .nil with
   | .error p => .error p
   | .ok (b, j) => pt s n 1 j (tP a b)
  else .ok (a, i)
 | n + 1, _ + 2, i, _ =>
  if chr s i = 73 then .ok (tI, i + 1)
  else if chr s i = 66 then .ok (tB, i + 1)
  else if chr s i = 91 then
   match pt s n 0 (i + 1) .nil with
   | .error p => .error p
   | .ok (a, j) => if chr s j = 93 then .ok (tL a, j + 1) else .error j
  else if chr s i = 40 then
   match pt s n 0 (i + 1) .nil with
   | .error p => .error p
   | .ok (a, j) => if chr s j = 41 then .ok (a, j + 1) else .error j
  else if isLet (chr s i) then .ok (tV (vnum (chr s i) (chr s (i + 1))), if 49 <= chr s (i + 1) /\ chr s (i + 1) <= 57 then i + 2 else i + 1)
  else .error i
def zbc (s : ByteArray) : Except Nat Ty :=
 match pt s (3 * s.size + 3) 0 0 .nil with
 | .error p => .error p
 | .ok (t, j) => if j < s.size then .error j else .ok t
theorem zpp {c d : Nat} (h : isLet c = true) : 970 <= vnum c d /\ vnum c d < 1230 := by
 simp [isLet] at h; unfold vnum; split <;> omega
theorem zav (s : ByteArray) : ∀ (n t i : Nat) (a u : Ty) (j : Nat), pt s n t i a = .ok (u, j) -> i <= s.size -> (t = 1 -> Ok a) ->
 (i < j \/ (t = 1 /\ i <= j)) /\ j <= s.size /\ Ok u := by
 intro n
 induction n with
 | zero => intro t i a u j h; simp [pt] at h
 | succ n ih =>
  intro t i a u j h hi ha
  match t with
  | 0 =>
   rw [pt] at h
   split at h
   · cases h
   · rename_i h1
     have p1 := ih _ _ _ _ _ h1 hi (by omega)
     split at h
     · cases h
     · rename_i h2
       have p2 := ih _ _ _ _ _ h2 (by omega) (fun _ => p1.2.2)
       split at h
       · rename_i h3
         have i3 := zaf (fun e => absurd (h3.symm.trans e) (by decide))
         split at h
         · cases h
         · rename_i h4
           have p4 := ih _ _ _ _ _ h4 (by omega) (by omega)
           cases h
           exact ⟨by omega, p4.2.1, okF p2.2.2 p4.2.2⟩
       · cases h
         exact ⟨by omega, p2.2.1, p2.2.2⟩
  | 1 =>
   rw [pt] at h
   split at h
   · rename_i h3
     have i3 := zaf (fun e => absurd (h3.symm.trans e) (by decide))
     split at h
     · cases h
     · rename_i h1
       have p1 := ih _ _ _ _ _ h1 (by omega) (by omega)
       have p2 := ih _ _ _ _ _ h (by omega) (fun _ => okP (ha rfl) p1.2.2)
       exact ⟨by omega, p2.2.1, p2.2.2⟩
   · cases h
     exact ⟨by omega, hi, ha rfl⟩
  | t + 2 =>
   rw [pt] at h
   split at h
   · rename_i h3
     have i3 := zaf (fun e => absurd (h3.symm.trans e) (by decide))
     cases h; exact ⟨by omega, by omega, okI⟩
   split at h
   · rename_i h3
     have i3 := zaf (fun e => absurd (h3.symm.trans e) (by decide))
     cases h; exact ⟨by omega, by omega, okB⟩
   split at h
   · rename_i h3
     have i3 := zaf (fun e => absurd (h3.symm.trans e) (by decide))
     split at h
     · cases h
     · rename_i h1
       have p1 := ih _ _ _ _ _ h1 (by omega) (by omega)
       split at h
       · rename_i h4
         have i4 := zaf (fun e => absurd (h4.symm.trans e) (by decide))
         cases h; exact ⟨by omega, by omega, okL p1.2.2⟩
       · cases h
   split at h
   · rename_i h3
     have i3 := zaf (fun e => absurd (h3.symm.trans e) (by decide))
     split at h
     · cases h
     · rename_i h1
       have p1 := ih _ _ _ _ _ h1 (by omega) (by omega)
       split at h
       · rename_i h4
         have i4 := zaf (fun e => absurd (h4.symm.trans e) (by decide))
         cases h; exact ⟨by omega, by omega, p1.2.2⟩
       · cases h
   split at h
   · rename_i h3
     have i3 : i < s.size := zaf (by intro e; rw [e] at h3; exact absurd h3 (by decide))
     have hv := zpp (d := chr s (i + 1)) h3
     cases h
     refine ⟨by split <;> omega, ?_, okV hv.1 hv.2⟩
     split
     · rename_i h4
       have i4 := zaf (s := s) (i := i + 1) (by omega)
       omega
     · omega
   · cases h
structure Pt where
 c : Nat
 p : Nat
 g : List Ty
 v : List (Nat × Nat)
abbrev Ex : Type := Go.Deep.BT Pt
abbrev eX (c p : Nat) (g : List Ty) : Ex := .node 0 0 ⟨c, p, g, []⟩ .nil .nil
abbrev eK (c p : Nat) (g : List Ty) : Ex := .node 1 0 ⟨c, p, g, []⟩ .nil .nil
abbrev eN (c p : Nat) : Ex := .node 2 0 ⟨c, p, [], []⟩ .nil .nil
abbrev eF (c p : Nat) (g : List Ty) (a : Ex) : Ex := .node 3 0 ⟨c, p, g, []⟩ a .nil
abbrev eL (c p : Nat) (v : List (Nat × Nat)) (a b : Ex) : Ex := .node 4 0 ⟨c, p, [], v⟩ a b
abbrev eC (p : Nat) (a b : Ex) : Ex := .node 5 0 ⟨0, p, [], []⟩ a b
def pT (s : ByteArray) (i : Nat) : TOut := pt s (3 * s.size + 3) 0 i .nil
def pg (s : ByteArray) : Nat -> Nat -> List Ty -> Except Nat (List Ty × Nat)
 | 0, i, _ => .error i
 | n + 1, i, l =>
  match pT s i with
  | .error p => .error p
  | .ok (t, j) => if chr s j = 44 then pg s n (j + 1) (l ++ [t]) else if chr s j = 125 then .ok (l ++ [t], j + 1) else .error j
def vEnd (s : ByteArray) (i : Nat) : Nat := if 49 <= chr s (i + 1) /\ chr s (i + 1) <= 57 then i + 2 else i + 1
def pw (s : ByteArray) : Nat -> Nat -> List (Nat × Nat) -> Except Nat (List (Nat × Nat) × Nat)
 | 0, i, _ => .error i
 | n + 1, i, l =>
  if chr s i = 62 then .ok (l, i + 1)
  else if isLet (chr s i) then pw s n (vEnd s i) (l ++ [(vnum (chr s i) (chr s (i + 1)), i)])
  else .error i
def fromO (s : ByteArray) (ty : Bool) (i : Nat) : Except Nat (List Ty × Nat) :=
 if ty then
  if chr s i = 58 then
   match pT s (i + 1) with
   | .error p => .error p
   | .ok (t, j) => .ok ([t], j)
  else .error i
 else .ok ([], i)
def ownO (s : ByteArray) (ty : Bool) (i : Nat) : Except Nat (List (Nat × Nat) × Nat) :=
 if ty then if chr s i = 60 then pw s (s.size + 1) (i + 1) [] else .error i else .ok ([], i)
def zdi (s : ByteArray) (ty : Bool) (i : Nat) : Except Nat (List Ty × Nat) :=
 if ty then if chr s i = 123 then pg s (s.size + 1) (i + 1) [] else .ok ([], i) else .ok ([], i)
abbrev EOut : Type := Except Nat (Ex × Nat)
def pe (s : ByteArray) (ty : Bool) : Nat -> Nat -> Nat -> Ex -> EOut
 | 0, _, i, _ => .error i
 | n + 1, 0, i, _ =>
  if chr s i = 92 then
   if isLet (chr s (i + 1)) then
    match fromO s ty (i + 2) with
    | .error p => .error p
    | .ok (g, j) =>
     if chr s j = 46 then
      match pe s ty n 0 (j + 1) .nil with
      | .error p => .error p
      | .ok (a, k) => .ok (eF (chr s (i + 1)) i g a, k)
     else .error j
   else .error (i + 1)
  else if chr s i = 64 then
   if isLet (chr s (i + 1)) then
    match ownO s ty (i + 2) with
    | .error p => .error p
    | .ok (v, j) =>
     if chr s j = 61 then
      match pe s ty n 0 (j + 1) .nil with
      | .error p => .error p
      | .ok (a, k) =>
       if chr s k = 59 then
        match pe s ty n 0 (k + 1) .nil with
        | .error p => .error p
        | .ok (b, l) => .ok (eL (chr s (i + 1)) i v a b, l)
       else .error k
     else .error j
   else .error (i + 1)
  else
   match pe s ty n 2 i .nil with
   | .error p => .error p
   | .ok (a, j) => pe s ty n 1 j a
 | n + 1, 1, i, a =>
  if zal (chr s i) then
   match pe s ty n 2 i .nil with
   | .error p => .error p
   | .ok (b, j) => pe s ty n 1 j (eC i a b)
  else .ok (a, i)
 | n + 1, _ + 2, i, _ =>
  if zal (chr s i) then
   if isLit (chr s i) then .ok (eN (chr s i) i, i + 1)
   else if chr s i = 40 then
    match pe s ty n 0 (i + 1) .nil with
    | .error p => .error p
    | .ok (a, j) => if chr s j = 41 then .ok (a, j + 1) else .error j
   else
    match zdi s ty (i + 1) with
    | .error p => .error p
    | .ok (g, j) => .ok (if isCon (chr s i) then eK (chr s i) i g else eX (chr s i) i g, j)
  else .error i
def zbn (s : ByteArray) (ty : Bool) : Except Nat Ex :=
 match pe s ty (3 * s.size + 2) 0 0 .nil with
 | .error p => .error p
 | .ok (e, j) => if j < s.size then .error j else .ok e
def knd : Ex -> Nat
 | .nil => 0
 | .node t _ _ _ _ => if t <= 2 then 0 else if t = 5 then 1 else 2
theorem zfd (s : ByteArray) : ∀ (n t i : Nat) (a u : Ty) (j : Nat), pt s n t i a = .ok (u, j) -> i <= s.size -> (t = 1 -> Ok a) ->
 sz u <= (if t = 1 then sz a else 0) + (j - i) := by
 intro n
 induction n with
 | zero => intro t i a u j h; simp [pt] at h
 | succ n ih =>
  intro t i a u j h hi ha
  match t with
  | 0 =>
   rw [pt] at h
   split at h
   · cases h
   · rename_i h1
     have p1 := zav s _ _ _ _ _ _ h1 hi (by omega)
     have q1 := ih _ _ _ _ _ h1 hi (by omega)
     split at h
     · cases h
     · rename_i h2
       have p2 := zav s _ _ _ _ _ _ h2 (by omega) (fun _ => p1.2.2)
       have q2 := ih _ _ _ _ _ h2 (by omega) (fun _ => p1.2.2)
       split at h
       · rename_i h3
         split at h
         · cases h
         · rename_i h4
           have i3 := zaf (fun e => absurd (h3.symm.trans e) (by decide))
           have p4 := zav s _ _ _ _ _ _ h4 (by omega) (by omega)
           have q4 := ih _ _ _ _ _ h4 (by omega) (by omega)
           cases h
           simp [sz] at *
           omega
       · cases h
         simp at *
         omega
  | 1 =>
   rw [pt] at h
   split at h
   · rename_i h3
     have i3 := zaf (fun e => absurd (h3.symm.trans e) (by decide))
     split at h
     · cases h
     · rename_i h1
       have p1 := zav s _ _ _ _ _ _ h1 (by omega) (by omega)
       have q1 := ih _ _ _ _ _ h1 (by omega) (by omega)
       have p2 := zav s _ _ _ _ _ _ h (by omega) (fun _ => okP (ha rfl) p1.2.2)
       have q2 := ih _ _ _ _ _ h (by omega) (fun _ => okP (ha rfl) p1.2.2)
       simp [sz] at *
       omega
   · cases h
     simp
  | t + 2 =>
   rw [pt] at h
   split at h
   · cases h; simp [sz]
   split at h
   · cases h; simp [sz]
   split at h
   · rename_i h3
     have i3 := zaf (fun e => absurd (h3.symm.trans e) (by decide))
     split at h
     · cases h
     · rename_i h1
       have p1 := zav s _ _ _ _ _ _ h1 (by omega) (by omega)
       have q1 := ih _ _ _ _ _ h1 (by omega) (by omega)
       split at h
       · cases h; simp [sz] at *; omega
       · cases h
   split at h
   · rename_i h3
     have i3 := zaf (fun e => absurd (h3.symm.trans e) (by decide))
     split at h
     · cases h
     · rename_i h1
       have p1 := zav s _ _ _ _ _ _ h1 (by omega) (by omega)
       have q1 := ih _ _ _ _ _ h1 (by omega) (by omega)
       split at h
       · cases h; simp at *; omega
       · cases h
   split at h
   · cases h
     simp [sz]
     split <;> omega
   · cases h
def GOk (m : Nat) (l : List Ty) : Prop := ∀ t ∈ l, Ok t /\ sz t <= m
theorem GOk.nil (m : Nat) : GOk m [] := by intro t h; cases h
theorem GOk.snoc {m : Nat} {l : List Ty} {t : Ty} (h : GOk m l) (ht : Ok t) (hs : sz t <= m) : GOk m (l ++ [t]) := by
 intro u hu
 rcases List.mem_append.1 hu with hu | hu
 · exact h u hu
 · obtain rfl : u = t := by simpa using hu
   exact ⟨ht, hs⟩
def VOk (l : List (Nat × Nat)) : Prop := ∀ x ∈ l, 970 <= x.1 /\ x.1 < 1230
theorem VOk.nil : VOk [] := by intro t h; cases h
theorem VOk.snoc {l : List (Nat × Nat)} {o p : Nat} (h : VOk l) (ho : 970 <= o /\ o < 1230) : VOk (l ++ [(o, p)]) := by
 intro u hu
 rcases List.mem_append.1 hu with hu | hu
 · exact h u hu
 · obtain rfl : u = (o, p) := by simpa using hu
   exact ho
theorem zcb {s : ByteArray} {i j : Nat} {t : Ty} (h : pT s i = .ok (t, j)) (hi : i <= s.size) : i < j /\ j <= s.size /\ Ok t /\ sz t <= s.size := by
 have p := zav s _ _ _ _ _ _ h hi (by omega)
 have q := zfd s _ _ _ _ _ _ h hi (by omega)
 simp at q
 exact ⟨by omega, p.2.1, p.2.2, by omega⟩
theorem znc (s : ByteArray) : ∀ (n i : Nat) (l m : List Ty) (j : Nat), pg s n i l = .ok (m, j) -> i <= s.size -> GOk s.size l -> i < j /\ j <= s.size /\ GOk s.size m := by
 intro n
 induction n with
 | zero => intro i l m j h; simp [pg] at h
 | succ n ih =>
  intro i l m j h hi hl
  rw [pg] at h
  split at h
  · cases h
  · rename_i h1
    have p1 := zcb h1 hi
    split at h
    · rename_i h2
      have i2 := zaf (fun e => absurd (h2.symm.trans e) (by decide))
      have p2 := ih _ _ _ _ h (by omega) (hl.snoc p1.2.2.1 p1.2.2.2)
      exact ⟨by omega, p2.2⟩
    · split at h
      · rename_i h2
        have i2 := zaf (fun e => absurd (h2.symm.trans e) (by decide))
        cases h
        exact ⟨by omega, by omega, hl.snoc p1.2.2.1 p1.2.2.2⟩
      · cases h
theorem zcm {s : ByteArray} {i : Nat} (h : isLet (chr s i) = true) : i < vEnd s i /\ vEnd s i <= s.size := by
 have i1 : i < s.size := zaf (by intro e; rw [e] at h; exact absurd h (by decide))
 unfold vEnd
 split
 · rename_i h4
   have i4 := zaf (s := s) (i := i + 1) (by omega)
   omega
 · omega
theorem zoe (s : ByteArray) : ∀ (n i : Nat) (l m : List (Nat × Nat)) (j : Nat), pw s n i l = .ok (m, j) -> i <= s.size -> VOk l -> i < j /\ j <= s.size /\ VOk m := by
 intro n
 induction n with
 | zero => intro i l m j h; simp [pw] at h
 | succ n ih =>
  intro i l m j h hi hl
  rw [pw] at h
  split at h
  · rename_i h2
    have i2 := zaf (fun e => absurd (h2.symm.trans e) (by decide))
    cases h
    exact ⟨by omega, by omega, hl⟩
  · split at h
    · rename_i h2
      have p1 := zcm h2
      have p2 := ih _ _ _ _ h p1.2 (hl.snoc (zpp h2))
      exact ⟨by omega, p2.2⟩
    · cases h
theorem zev {s : ByteArray} {ty : Bool} {i j : Nat} {g : List Ty} (h : fromO s ty i = .ok (g, j)) (hi : i <= s.size) : i <= j /\ j <= s.size /\ GOk s.size g /\ (ty = true -> ∃ t, g = [t]) /\ (ty = false -> g = []) := by
 unfold fromO at h
 split at h
 · split at h
   · rename_i h2
     have i2 := zaf (fun e => absurd (h2.symm.trans e) (by decide))
     split at h
     · cases h
     · rename_i h1
       have p1 := zcb h1 (by omega)
       cases h
       exact ⟨by omega, p1.2.1, (GOk.nil _).snoc p1.2.2.1 p1.2.2.2, fun _ => ⟨_, rfl⟩, fun e => by simp_all⟩
   · cases h
 · cases h
   exact ⟨Nat.le_refl _, hi, GOk.nil _, fun e => by simp_all, fun _ => rfl⟩
theorem zel {s : ByteArray} {ty : Bool} {i j : Nat} {v : List (Nat × Nat)} (h : ownO s ty i = .ok (v, j)) (hi : i <= s.size) : i <= j /\ j <= s.size /\ VOk v := by
 unfold ownO at h
 split at h
 · split at h
   · rename_i h2
     have i2 := zaf (fun e => absurd (h2.symm.trans e) (by decide))
     have p1 := zoe s _ _ _ _ _ h (by omega) VOk.nil
     exact ⟨by omega, p1.2⟩
   · cases h
 · cases h
   exact ⟨Nat.le_refl _, hi, VOk.nil⟩
theorem zeg {s : ByteArray} {ty : Bool} {i j : Nat} {g : List Ty} (h : zdi s ty i = .ok (g, j)) (hi : i <= s.size) : i <= j /\ j <= s.size /\ GOk s.size g := by
 unfold zdi at h
 split at h
 · split at h
   · rename_i h2
     have i2 := zaf (fun e => absurd (h2.symm.trans e) (by decide))
     have p1 := znc s _ _ _ _ _ h (by omega) (GOk.nil _)
     exact ⟨by omega, p1.2⟩
   · cases h; exact ⟨Nat.le_refl _, hi, GOk.nil _⟩
 · cases h
   exact ⟨Nat.le_refl _, hi, GOk.nil _⟩
def EOk (ty : Bool) (m : Nat) : Ex -> Prop
 | .nil => False
 | .node t _ x a b =>
  (t = 0 /\ isLet x.c = true /\ GOk m x.g /\ a = .nil /\ b = .nil) \/
  (t = 1 /\ isCon x.c = true /\ GOk m x.g /\ a = .nil /\ b = .nil) \/
  (t = 2 /\ isLit x.c = true /\ a = .nil /\ b = .nil) \/
  (t = 3 /\ isLet x.c = true /\ GOk m x.g /\ (ty = true -> ∃ u, x.g = [u]) /\ EOk ty m a /\ b = .nil) \/
  (t = 4 /\ isLet x.c = true /\ VOk x.v /\ EOk ty m a /\ EOk ty m b) \/
  (t = 5 /\ EOk ty m a /\ EOk ty m b)
theorem zao (s : ByteArray) (ty : Bool) : ∀ (n t i : Nat) (a u : Ex) (j : Nat), pe s ty n t i a = .ok (u, j) -> i <= s.size -> (t = 1 -> EOk ty s.size a) ->
 (i < j \/ (t = 1 /\ i <= j)) /\ j <= s.size /\ EOk ty s.size u := by
 intro n
 induction n with
 | zero => intro t i a u j h; simp [pe] at h
 | succ n ih =>
  intro t i a u j h hi ha
  match t with
  | 0 =>
   rw [pe] at h
   split at h
   · split at h
     · rename_i h2
       have i2 := zaf (s := s) (i := i + 1) (by rintro e; rw [e] at h2; exact absurd h2 (by decide))
       split at h
       · cases h
       · rename_i h3
         have p3 := zev h3 (by omega)
         split at h
         · rename_i h4
           have i4 := zaf (fun e => absurd (h4.symm.trans e) (by decide))
           split at h
           · cases h
           · rename_i h5
             have p5 := ih _ _ _ _ _ h5 (by omega) (by omega)
             cases h
             exact ⟨by omega, p5.2.1, .inr (.inr (.inr (.inl ⟨rfl, h2, p3.2.2.1, p3.2.2.2.1, p5.2.2, rfl⟩)))⟩
         · cases h
     · cases h
   · split at h
     · split at h
       · rename_i h2
         have i2 := zaf (s := s) (i := i + 1) (by rintro e; rw [e] at h2; exact absurd h2 (by decide))
         split at h
         · cases h
         · rename_i h3
           have p3 := zel h3 (by omega)
           split at h
           · rename_i h4
             have i4 := zaf (fun e => absurd (h4.symm.trans e) (by decide))
             split at h
             · cases h
             · rename_i h5
               have p5 := ih _ _ _ _ _ h5 (by omega) (by omega)
               split at h
               · rename_i h6
                 have i6 := zaf (fun e => absurd (h6.symm.trans e) (by decide))
                 split at h
                 · cases h
                 · rename_i h7
                   have p7 := ih _ _ _ _ _ h7 (by omega) (by omega)
                   cases h
                   exact ⟨by omega, p7.2.1, .inr (.inr (.inr (.inr (.inl ⟨rfl, h2, p3.2.2, p5.2.2, p7.2.2⟩))))⟩
               · cases h
           · cases h
       · cases h
     · split at h
       · cases h
       · rename_i h4
         have p4 := ih _ _ _ _ _ h4 (by omega) (by omega)
         have p5 := ih _ _ _ _ _ h (by omega) (fun _ => p4.2.2)
         exact ⟨by omega, p5.2⟩
  | 1 =>
   rw [pe] at h
   split at h
   · split at h
     · cases h
     · rename_i h4
       have p4 := ih _ _ _ _ _ h4 (by omega) (by omega)
       have p5 := ih _ _ _ _ _ h (by omega) (fun _ => .inr (.inr (.inr (.inr (.inr ⟨rfl, ha rfl, p4.2.2⟩)))))
       exact ⟨by omega, p5.2⟩
   · cases h; exact ⟨by omega, hi, ha rfl⟩
  | t + 2 =>
   rw [pe] at h
   split at h
   · rename_i h1
     have i1 := zaf (s := s) (i := i) (zcd h1)
     split at h
     · rename_i h2
       cases h; exact ⟨by omega, by omega, .inr (.inr (.inl ⟨rfl, h2, rfl, rfl⟩))⟩
     rename_i h2
     split at h
     · split at h
       · cases h
       · rename_i h4
         have p4 := ih _ _ _ _ _ h4 (by omega) (by omega)
         split at h
         · rename_i h5
           have i5 := zaf (fun e => absurd (h5.symm.trans e) (by decide))
           cases h; exact ⟨by omega, by omega, p4.2.2⟩
         · cases h
     rename_i h3
     split at h
     · cases h
     · rename_i h4
       have p4 := zeg h4 (by omega)
       cases h
       refine ⟨by omega, p4.2.1, ?_⟩
       by_cases hc : isCon (chr s i) = true
       · rw [if_pos hc]; exact .inr (.inl ⟨rfl, hc, p4.2.2, rfl, rfl⟩)
       · rw [if_neg hc]
         have hl : isLet (chr s i) = true := by
          rw [zal] at h1
          simp [h2, h3, hc] at h1
          exact h1
         exact .inl ⟨rfl, hl, p4.2.2, rfl, rfl⟩
   · cases h
theorem zoj {s : ByteArray} {ty : Bool} {e : Ex} (h : zbn s ty = .ok e) : EOk ty s.size e := by
 unfold zbn at h
 split at h
 · cases h
 · rename_i h1
   have := zao s ty _ _ _ _ _ _ h1 (Nat.zero_le _) (by omega)
   split at h
   · cases h
   · cases h; exact this.2.2
end Go.Proofs.YtceadeaodbadlaaGreatDoor
namespace Go.Proofs.YtceadeaodbadlaaGreatDoor
open Go.RowKit
abbrev kv (o : Nat) : Value := .agg #[.int .u8 ((o / 10 : Nat) : Int), .int .u8 ((o % 10 : Nat) : Int)]
abbrev obL (n : Nat) (x : Value) : Obj := .cells #[x, .int .i64 (n : Int), .nilIface, .pointer none] 258 (0, 0)
abbrev obP (n : Nat) (x y : Value) : Obj := .cells #[x, y, .int .i64 (n : Int), .nilIface, .pointer none] 261 (0, 0)
abbrev obF (n : Nat) (x y : Value) : Obj := .cells #[x, y, .int .i64 (n : Int), .nilIface, .pointer none] 252 (0, 0)
abbrev viL (q : Nat) : Value := .iface 256 (.pointer (some ⟨q, 0, none⟩))
abbrev viP (q : Nat) : Value := .iface 259 (.pointer (some ⟨q, 0, none⟩))
abbrev viF (q : Nat) : Value := .iface 243 (.pointer (some ⟨q, 0, none⟩))
abbrev viI : Value := .iface 255 (.agg #[])
abbrev viB : Value := .iface 254 (.agg #[])
abbrev viV (o : Nat) : Value := .iface 263 (kv o)
def Tv (w : World) : Ty -> Value -> Prop
 | .nil, _ => False
 | .node g o _ a b, v =>
  (g = 0 /\ v = viI) \/ (g = 1 /\ v = viB) \/ (g = 2 /\ v = viV o) \/
  (g = 3 /\ ∃ q x, v = viL q /\ w.heap[q]? = some (obL (sz a + sz b + 1) x) /\ Tv w a x) \/
  (g = 4 /\ ∃ q x y, v = viP q /\ w.heap[q]? = some (obP (sz a + sz b + 1) x y) /\ Tv w a x /\ Tv w b y) \/
  (g = 5 /\ ∃ q x y, v = viF q /\ w.heap[q]? = some (obF (sz a + sz b + 1) x y) /\ Tv w a x /\ Tv w b y)
theorem Tv.I (w : World) : Tv w tI viI := .inl ⟨rfl, rfl⟩
theorem Tv.B (w : World) : Tv w tB viB := .inr (.inl ⟨rfl, rfl⟩)
theorem Tv.V (w : World) (o : Nat) : Tv w (tV o) (viV o) := .inr (.inr (.inl ⟨rfl, rfl⟩))
theorem Tv.L {w : World} {a : Ty} {q : Nat} {x : Value} (h : w.heap[q]? = some (obL (sz (tL a)) x)) (ha : Tv w a x) : Tv w (tL a) (viL q) := .inr (.inr (.inr (.inl ⟨rfl, q, x, rfl, h, ha⟩)))
theorem Tv.P {w : World} {a b : Ty} {q : Nat} {x y : Value} (h : w.heap[q]? = some (obP (sz (tP a b)) x y)) (ha : Tv w a x) (hb : Tv w b y) : Tv w (tP a b) (viP q) := .inr (.inr (.inr (.inr (.inl ⟨rfl, q, x, y, rfl, h, ha, hb⟩))))
theorem Tv.F {w : World} {a b : Ty} {q : Nat} {x y : Value} (h : w.heap[q]? = some (obF (sz (tF a b)) x y)) (ha : Tv w a x) (hb : Tv w b y) : Tv w (tF a b) (viF q) := .inr (.inr (.inr (.inr (.inr ⟨rfl, q, x, y, rfl, h, ha, hb⟩))))
theorem Tv.isI {w : World} {v : Value} (h : Tv w tI v) : v = viI := by
 rcases h with ⟨_, h⟩ | ⟨e, _⟩ | ⟨e, _⟩ | ⟨e, _⟩ | ⟨e, _⟩ | ⟨e, _⟩ <;> first | exact h | cases e
theorem Tv.isB {w : World} {v : Value} (h : Tv w tB v) : v = viB := by
 rcases h with ⟨e, _⟩ | ⟨_, h⟩ | ⟨e, _⟩ | ⟨e, _⟩ | ⟨e, _⟩ | ⟨e, _⟩ <;> first | exact h | cases e
theorem Tv.isV {w : World} {v : Value} {o : Nat} (h : Tv w (tV o) v) : v = viV o := by
 rcases h with ⟨e, _⟩ | ⟨e, _⟩ | ⟨_, h⟩ | ⟨e, _⟩ | ⟨e, _⟩ | ⟨e, _⟩ <;> first | exact h | cases e
theorem Tv.isL {w : World} {v : Value} {a : Ty} (h : Tv w (tL a) v) : ∃ q x, v = viL q /\ w.heap[q]? = some (obL (sz (tL a)) x) /\ Tv w a x := by
 rcases h with ⟨e, _⟩ | ⟨e, _⟩ | ⟨e, _⟩ | ⟨_, h⟩ | ⟨e, _⟩ | ⟨e, _⟩ <;> first | exact h | cases e
theorem Tv.isP {w : World} {v : Value} {a b : Ty} (h : Tv w (tP a b) v) : ∃ q x y, v = viP q /\ w.heap[q]? = some (obP (sz (tP a b)) x y) /\ Tv w a x /\ Tv w b y := by
 rcases h with ⟨e, _⟩ | ⟨e, _⟩ | ⟨e, _⟩ | ⟨e, _⟩ | ⟨_, h⟩ | ⟨e, _⟩ <;> first | exact h | cases e
theorem Tv.isF {w : World} {v : Value} {a b : Ty} (h : Tv w (tF a b) v) : ∃ q x y, v = viF q /\ w.heap[q]? = some (obF (sz (tF a b)) x y) /\ Tv w a x /\ Tv w b y := by
 rcases h with ⟨e, _⟩ | ⟨e, _⟩ | ⟨e, _⟩ | ⟨e, _⟩ | ⟨e, _⟩ | ⟨_, h⟩ <;> first | exact h | cases e
def Kept (w w' : World) : Prop := ∀ (q : Nat) (c : Array Value) (T : TypeId) (fz : Nat × Nat), T ≠ 207 -> w.heap[q]? = some (.cells c T fz) -> w'.heap[q]? = some (.cells c T fz)
theorem Kept.trans {x y z : World} (h : Kept x y) (k : Kept y z) : Kept x z := fun q c T fz hT hq => k q c T fz hT (h q c T fz hT hq)
theorem Below.kept {w w' : World} (h : Below w.heap.size w w') : Kept w w' := fun q c T fz _ hq => (h.block q (Array.getElem?_eq_some_iff.1 hq).1).trans hq
theorem Gb.kept {b : Nat} {w w' : World} (h : Gb b w w') {s : ByteArray} {i : Nat} (hr : Rd b s i w) : Kept w w' := by
 intro q c T fz hT hq
 refine h.old hq ?_
 rintro rfl
 unfold Rd at hr
 rw [hr] at hq
 simp only [Option.some.injEq, Obj.cells.injEq] at hq
 exact hT hq.2.1.symm
def KeptN (w w' : World) : Prop := ∀ (q : Nat) (c : Array Value) (T : TypeId), T = 258 \/ T = 261 \/ T = 252 -> w.heap[q]? = some (.cells c T (0, 0)) -> w'.heap[q]? = some (.cells c T (0, 0))
theorem Kept.n {w w' : World} (h : Kept w w') : KeptN w w' := by
 intro q c T hT hq
 refine h q c T _ ?_ hq
 rcases hT with rfl | rfl | rfl <;> decide
theorem Tv.keptN {w w' : World} (hk : KeptN w w') : ∀ (t : Ty) (v : Value), Tv w t v -> Tv w' t v := by
 intro t
 induction t with
 | nil => intro v h; exact h.elim
 | node g o u a b iha ihb =>
  intro v h
  rcases h with h | h | h | ⟨e, q, x, hv, hq, ha⟩ | ⟨e, q, x, y, hv, hq, ha, hb⟩ | ⟨e, q, x, y, hv, hq, ha, hb⟩
  · exact .inl h
  · exact .inr (.inl h)
  · exact .inr (.inr (.inl h))
  · exact .inr (.inr (.inr (.inl ⟨e, q, x, hv, hk _ _ _ (.inl rfl) hq, iha _ ha⟩)))
  · exact .inr (.inr (.inr (.inr (.inl ⟨e, q, x, y, hv, hk _ _ _ (.inr (.inl rfl)) hq, iha _ ha, ihb _ hb⟩))))
  · exact .inr (.inr (.inr (.inr (.inr ⟨e, q, x, y, hv, hk _ _ _ (.inr (.inr rfl)) hq, iha _ ha, ihb _ hb⟩))))
theorem Tv.kept {w w' : World} (hk : Kept w w') (t : Ty) (v : Value) (h : Tv w t v) : Tv w' t v := Tv.keptN hk.n t v h
theorem Tv.below {w w' : World} {t : Ty} {v : Value} (h : Tv w t v) (hb : Below w.heap.size w w') : Tv w' t v := Tv.kept (Below.kept hb) t v h
theorem Tv.drewN {w : World} {t : Ty} {v : Value} (h : Tv w t v) (n : Nat) : Tv (w.drewN n) t v := Tv.kept (w := w) (w' := w.drewN n) (fun _ _ _ _ _ h => h) t v h
theorem Tv.iface {w : World} {t : Ty} {v : Value} (h : Tv w t v) : ∃ T x, v = .iface T x := by
 cases t with
 | nil => exact h.elim
 | node g o u a b =>
  rcases h with ⟨_, rfl⟩ | ⟨_, rfl⟩ | ⟨_, rfl⟩ | ⟨_, q, x, rfl, _⟩ | ⟨_, q, x, y, rfl, _⟩ | ⟨_, q, x, y, rfl, _⟩ <;> exact ⟨_, _, rfl⟩
theorem Tv.one {w : World} : ∀ (t u : Ty) (v : Value), Ok t -> Ok u -> Tv w t v -> Tv w u v -> t = u := by
 intro t
 induction t with
 | nil => intro u v h; exact h.elim
 | node g o x a b iha ihb =>
  intro u v ht hu h k
  cases x
  rcases ht with ⟨rfl, rfl, rfl, rfl⟩ | ⟨rfl, rfl, rfl, rfl⟩ | ⟨rfl, ho, rfl, rfl⟩ | ⟨rfl, rfl, ha, rfl⟩ | ⟨rfl, rfl, ha, hb⟩ | ⟨rfl, rfl, ha, hb⟩
  · have e := Tv.isI h; subst e
    rcases hu.cases with rfl | rfl | ⟨o', _, _, rfl⟩ | ⟨a', ha', rfl⟩ | ⟨a', b', ha', hb', rfl⟩ | ⟨a', b', ha', hb', rfl⟩
    · rfl
    · exact absurd k.isB (by simp)
    · exact absurd k.isV (by simp)
    · obtain ⟨q, x, e, _⟩ := k.isL; exact absurd e (by simp)
    · obtain ⟨q, x, y, e, _⟩ := k.isP; exact absurd e (by simp)
    · obtain ⟨q, x, y, e, _⟩ := k.isF; exact absurd e (by simp)
  · have e := Tv.isB h; subst e
    rcases hu.cases with rfl | rfl | ⟨o', _, _, rfl⟩ | ⟨a', ha', rfl⟩ | ⟨a', b', ha', hb', rfl⟩ | ⟨a', b', ha', hb', rfl⟩
    · exact absurd k.isI (by simp)
    · rfl
    · exact absurd k.isV (by simp)
    · obtain ⟨q, x, e, _⟩ := k.isL; exact absurd e (by simp)
    · obtain ⟨q, x, y, e, _⟩ := k.isP; exact absurd e (by simp)
    · obtain ⟨q, x, y, e, _⟩ := k.isF; exact absurd e (by simp)
  · have e := Tv.isV h; subst e
    rcases hu.cases with rfl | rfl | ⟨o', _, _, rfl⟩ | ⟨a', ha', rfl⟩ | ⟨a', b', ha', hb', rfl⟩ | ⟨a', b', ha', hb', rfl⟩
    · exact absurd k.isI (by simp)
    · exact absurd k.isB (by simp)
    · have e := k.isV
      simp at e
      obtain rfl : o = o' := by omega
      rfl
    · obtain ⟨q, x, e, _⟩ := k.isL; exact absurd e (by simp)
    · obtain ⟨q, x, y, e, _⟩ := k.isP; exact absurd e (by simp)
    · obtain ⟨q, x, y, e, _⟩ := k.isF; exact absurd e (by simp)
  · obtain ⟨q, x, rfl, hq, hx⟩ := Tv.isL h
    rcases hu.cases with rfl | rfl | ⟨o', _, _, rfl⟩ | ⟨a', ha', rfl⟩ | ⟨a', b', ha', hb', rfl⟩ | ⟨a', b', ha', hb', rfl⟩
    · exact absurd k.isI (by simp)
    · exact absurd k.isB (by simp)
    · exact absurd k.isV (by simp)
    · obtain ⟨q', x', e, hq', hx'⟩ := k.isL
      simp at e; subst e
      rw [hq] at hq'
      simp at hq'
      obtain ⟨rfl, _⟩ := hq'
      rw [iha _ _ ha ha' hx hx']
    · obtain ⟨q, x, y, e, _⟩ := k.isP; exact absurd e (by simp)
    · obtain ⟨q, x, y, e, _⟩ := k.isF; exact absurd e (by simp)
  · obtain ⟨q, x, y, rfl, hq, hx, hy⟩ := Tv.isP h
    rcases hu.cases with rfl | rfl | ⟨o', _, _, rfl⟩ | ⟨a', ha', rfl⟩ | ⟨a', b', ha', hb', rfl⟩ | ⟨a', b', ha', hb', rfl⟩
    · exact absurd k.isI (by simp)
    · exact absurd k.isB (by simp)
    · exact absurd k.isV (by simp)
    · obtain ⟨q, x, e, _⟩ := k.isL; exact absurd e (by simp)
    · obtain ⟨q', x', y', e, hq', hx', hy'⟩ := k.isP
      simp at e; subst e
      rw [hq] at hq'
      simp at hq'
      obtain ⟨rfl, rfl, _⟩ := hq'
      rw [iha _ _ ha ha' hx hx', ihb _ _ hb hb' hy hy']
    · obtain ⟨q, x, y, e, _⟩ := k.isF; exact absurd e (by simp)
  · obtain ⟨q, x, y, rfl, hq, hx, hy⟩ := Tv.isF h
    rcases hu.cases with rfl | rfl | ⟨o', _, _, rfl⟩ | ⟨a', ha', rfl⟩ | ⟨a', b', ha', hb', rfl⟩ | ⟨a', b', ha', hb', rfl⟩
    · exact absurd k.isI (by simp)
    · exact absurd k.isB (by simp)
    · exact absurd k.isV (by simp)
    · obtain ⟨q, x, e, _⟩ := k.isL; exact absurd e (by simp)
    · obtain ⟨q, x, y, e, _⟩ := k.isP; exact absurd e (by simp)
    · obtain ⟨q', x', y', e, hq', hx', hy'⟩ := k.isF
      simp at e; subst e
      rw [hq] at hq'
      simp at hq'
      obtain ⟨rfl, rfl, _⟩ := hq'
      rw [iha _ _ ha ha' hx hx', ihb _ _ hb hb' hy hy']
theorem th_Whole (v : Value) (w : World) : (Instr.typeAssert (.iface 255 v) 94 255 true).run Tryz.prog w = .ok (.tuple #[v, .bool true]) w := by kernel_rfl
theorem tz_Whole (w : World) : (zeroValue 255).run Tryz.prog w = .ok (.agg #[]) w := by kernel_rfl
theorem tm_Whole {T : TypeId} (v : Value) (h : T ≠ 255) (w : World) : (Instr.typeAssert (.iface T v) 94 255 true).run Tryz.prog w = .ok (.tuple #[.agg #[], .bool false]) w := by
 simp [Instr.typeAssert, run_underlying Tryz.underlying255, h, tz_Whole w]
theorem th_Truth (v : Value) (w : World) : (Instr.typeAssert (.iface 254 v) 94 254 true).run Tryz.prog w = .ok (.tuple #[v, .bool true]) w := by kernel_rfl
theorem tz_Truth (w : World) : (zeroValue 254).run Tryz.prog w = .ok (.agg #[]) w := by kernel_rfl
theorem tm_Truth {T : TypeId} (v : Value) (h : T ≠ 254) (w : World) : (Instr.typeAssert (.iface T v) 94 254 true).run Tryz.prog w = .ok (.tuple #[.agg #[], .bool false]) w := by
 simp [Instr.typeAssert, run_underlying Tryz.underlying254, h, tz_Truth w]
theorem zfw (v : Value) (w : World) : (Instr.typeAssert (.iface 263 v) 94 263 true).run Tryz.prog w = .ok (.tuple #[v, .bool true]) w := by kernel_rfl
theorem zpv (w : World) : (zeroValue 263).run Tryz.prog w = .ok (.agg #[.int .u8 0, .int .u8 0]) w := by kernel_rfl
theorem zjs {T : TypeId} (v : Value) (h : T ≠ 263) (w : World) : (Instr.typeAssert (.iface T v) 94 263 true).run Tryz.prog w = .ok (.tuple #[.agg #[.int .u8 0, .int .u8 0], .bool false]) w := by
 simp [Instr.typeAssert, run_underlying Tryz.underlying263, h, zpv w]
theorem zhg (v : Value) (w : World) : (Instr.typeAssert (.iface 256 v) 94 256 true).run Tryz.prog w = .ok (.tuple #[v, .bool true]) w := by kernel_rfl
theorem tz_List (w : World) : (zeroValue 256).run Tryz.prog w = .ok (.pointer none) w := by kernel_rfl
theorem zbg {T : TypeId} (v : Value) (h : T ≠ 256) (w : World) : (Instr.typeAssert (.iface T v) 94 256 true).run Tryz.prog w = .ok (.tuple #[.pointer none, .bool false]) w := by
 simp [Instr.typeAssert, run_underlying Tryz.underlying256, h, tz_List w]
theorem zee (v : Value) (w : World) : (Instr.typeAssert (.iface 259 v) 94 259 true).run Tryz.prog w = .ok (.tuple #[v, .bool true]) w := by kernel_rfl
theorem tz_Pair (w : World) : (zeroValue 259).run Tryz.prog w = .ok (.pointer none) w := by kernel_rfl
theorem zcp {T : TypeId} (v : Value) (h : T ≠ 259) (w : World) : (Instr.typeAssert (.iface T v) 94 259 true).run Tryz.prog w = .ok (.tuple #[.pointer none, .bool false]) w := by
 simp [Instr.typeAssert, run_underlying Tryz.underlying259, h, tz_Pair w]
theorem zbk (v : Value) (w : World) : (Instr.typeAssert (.iface 243 v) 94 243 true).run Tryz.prog w = .ok (.tuple #[v, .bool true]) w := by kernel_rfl
theorem tz_Function (w : World) : (zeroValue 243).run Tryz.prog w = .ok (.pointer none) w := by kernel_rfl
theorem zbx {T : TypeId} (v : Value) (h : T ≠ 243) (w : World) : (Instr.typeAssert (.iface T v) 94 243 true).run Tryz.prog w = .ok (.tuple #[.pointer none, .bool false]) w := by
 simp [Instr.typeAssert, run_underlying Tryz.underlying243, h, tz_Function w]
theorem zjr (T : TypeId) (x : Value) (w : World) (h1 : T ≠ 256) (h2 : T ≠ 259) (h3 : T ≠ 243) :
 Calls Tryz.prog 131 #[.iface T x] w fun e w' => e = .returned (.pointer none) /\ w' = w := by
 have a1 := fun w => zbg x h1 w
 have a2 := fun w => zcp x h2 w
 have a3 := fun w => zbx x h3 w
 go_enter Tryz.func131, Tryz.ntmps131
 go_wp2
 go_ret
 exact ⟨rfl, rfl⟩
theorem nodeOf_L (q : Nat) (w : World) :
 Calls Tryz.prog 131 #[viL q] w fun e w' => e = .returned (.pointer (some ⟨q, 1, none⟩)) /\ w' = w := by
 have a1 := zhg
 go_enter Tryz.func131, Tryz.ntmps131
 go_wp2
 go_ret
 exact ⟨rfl, rfl⟩
theorem nodeOf_P (q : Nat) (w : World) :
 Calls Tryz.prog 131 #[viP q] w fun e w' => e = .returned (.pointer (some ⟨q, 2, none⟩)) /\ w' = w := by
 have a1 := fun v => zbg (T := 259) v (by decide)
 have a2 := zee
 go_enter Tryz.func131, Tryz.ntmps131
 go_wp2
 go_ret
 exact ⟨rfl, rfl⟩
theorem nodeOf_F (q : Nat) (w : World) :
 Calls Tryz.prog 131 #[viF q] w fun e w' => e = .returned (.pointer (some ⟨q, 2, none⟩)) /\ w' = w := by
 have a1 := fun v => zbg (T := 243) v (by decide)
 have a2 := fun v => zcp (T := 243) v (by decide)
 have a3 := zbk
 go_enter Tryz.func131, Tryz.ntmps131
 go_wp2
 go_ret
 exact ⟨rfl, rfl⟩
theorem zhn (T : TypeId) (x : Value) (w : World) (h1 : T ≠ 256) (h2 : T ≠ 259) (h3 : T ≠ 243) :
 Calls Tryz.prog 193 #[.iface T x] w fun e w' => e = .returned (.int .i64 1) /\ w' = w := by
 have n := zjr T x w h1 h2 h3
 clear h1 h2 h3
 go_enter Tryz.func193, Tryz.ntmps193
 go_wp2_with fail
 refine n.mono ?_
 rintro e w' ⟨rfl, rfl⟩
 go_wp2_with fail
 go_ret
 exact ⟨rfl, rfl⟩
theorem zgo (t : Ty) (v : Value) (w : World) (ht : Ok t) (h : Tv w t v) :
 Calls Tryz.prog 193 #[v] w fun e w' => e = .returned (.int .i64 (sz t : Int)) /\ w' = w := by
 rcases ht.cases with rfl | rfl | ⟨o, _, _, rfl⟩ | ⟨a, ha, rfl⟩ | ⟨a, b, ha, hb, rfl⟩ | ⟨a, b, ha, hb, rfl⟩
 · rw [h.isI]; exact zhn _ _ w (by decide) (by decide) (by decide)
 · rw [h.isB]; exact zhn _ _ w (by decide) (by decide) (by decide)
 · rw [h.isV]; exact zhn _ _ w (by decide) (by decide) (by decide)
 · obtain ⟨q, x, rfl, hq, _⟩ := h.isL
   generalize sz (tL a) = n at *
   have c1 : w.cell? ⟨q, 1, none⟩ = some (.int .i64 (n : Int)) := cbl hq
   clear hq h
   go_enter Tryz.func193, Tryz.ntmps193
   go_wp2_with fail
   refine (nodeOf_L q w).mono ?_
   rintro e w' ⟨rfl, rfl⟩
   go_wp2_with fail
   go_ret
   exact ⟨rfl, rfl⟩
 · obtain ⟨q, x, y, rfl, hq, _⟩ := h.isP
   generalize sz (tP a b) = n at *
   have c1 : w.cell? ⟨q, 2, none⟩ = some (.int .i64 (n : Int)) := cbl hq
   clear hq h
   go_enter Tryz.func193, Tryz.ntmps193
   go_wp2_with fail
   refine (nodeOf_P q w).mono ?_
   rintro e w' ⟨rfl, rfl⟩
   go_wp2_with fail
   go_ret
   exact ⟨rfl, rfl⟩
 · obtain ⟨q, x, y, rfl, hq, _⟩ := h.isF
   generalize sz (tF a b) = n at *
   have c1 : w.cell? ⟨q, 2, none⟩ = some (.int .i64 (n : Int)) := cbl hq
   clear hq h
   go_enter Tryz.func193, Tryz.ntmps193
   go_wp2_with fail
   refine (nodeOf_F q w).mono ?_
   rintro e w' ⟨rfl, rfl⟩
   go_wp2_with fail
   go_ret
   exact ⟨rfl, rfl⟩
theorem sizeNode (a b c : Value) : (Tryz.prog.info? 250).map (·.size) = some (#[a, b, c]).size := by kernel_rfl
theorem zif {fn : Func} {p : Tmp} (h : fn.results = #[.cell p 250]) {tmps : Array Value} {w : World} {g : Nat} {a b c : Value} {Q : Ending -> World -> Prop}
 (hp : tmps.getD p undef = .pointer (some ⟨g, 0, none⟩)) (hg : w.heap[g]? = some (.cells #[a, b, c] 250 (0, 0))) (hq : Q (.returned (.agg #[a, b, c])) w) : bodyPost Tryz.prog fn Q Exit.ret { tmps := tmps, defers := [] } w :=
 bodyPost_ret (results_cell_row h tmps w g 250 #[a, b, c] (0, 0) _ hp hg Tryz.underlying250 rfl (sizeNode a b c)) rfl hq
theorem above_one (a : Ty) (x : Value) (g n : Nat) (w : World) (hx : w.cell? ⟨g, 0, none⟩ = some x) (ha : Ok a) (h : Tv w a x) (hn : sz a = n) (hs : n <= 4000000000000000000) :
 Calls Tryz.prog 194 #[.slice (some ⟨g, 0, none⟩) 1 1] w fun e w' => e = .returned (.agg #[.int .i64 ((n + 1 : Nat) : Int), .nilIface, .pointer none]) /\ Below w.heap.size w w' := by
 have hg := World.block_lt_of_cell? w _ hx
 have hn1 : ((n + 1 : Nat) : Int) = 1 + (n : Int) := by omega
 rw [hn1]
 have h1 : Tv (w.alloc (.cells #[.int .i64 0, .nilIface, .pointer none] 250)) a x := h.below (bal w _)
 have hx1 : (w.alloc (.cells #[.int .i64 0, .nilIface, .pointer none] 250)).cell? ⟨g, 0, none⟩ = some x := by rw [World.cell?_alloc_lt _ _ _ hg]; exact hx
 have N := zgo a x _ ha h1
 rw [hn] at N
 obtain ⟨T, x', rfl⟩ := h.iface
 clear h h1 ha hx hn
 go_enter Tryz.func194, Tryz.ntmps194
 go_wp2_with fail
 refine wp_loop_rounds 2 ?_
 rw [rounds_succ]
 go_wp2_with fail
 refine N.mono ?_
 rintro e w' ⟨rfl, rfl⟩
 go_wp2_with fail
 rw [rounds_succ]
 go_wp2_with fail
 refine zif rfl rfl (heap_alloc_new w _) ?_
 exact ⟨rfl, bal w _⟩
theorem zos (a b : Ty) (x y : Value) (g n m : Nat) (w : World) (hx : w.cell? ⟨g, 0, none⟩ = some x) (hy : w.cell? ⟨g, 1, none⟩ = some y) (ha : Ok a) (h : Tv w a x) (hb : Ok b) (h' : Tv w b y) (hn : sz a = n) (hm : sz b = m) (hs : n + m <= 4000000000000000000) :
 Calls Tryz.prog 194 #[.slice (some ⟨g, 0, none⟩) 2 2] w fun e w' => e = .returned (.agg #[.int .i64 ((n + m + 1 : Nat) : Int), .nilIface, .pointer none]) /\ Below w.heap.size w w' := by
 have hg := World.block_lt_of_cell? w _ hx
 have hn1 : ((n + m + 1 : Nat) : Int) = 1 + (n : Int) + (m : Int) := by omega
 rw [hn1]
 have h1 : Tv (w.alloc (.cells #[.int .i64 0, .nilIface, .pointer none] 250)) a x := h.below (bal w _)
 have h2 : Tv (w.alloc (.cells #[.int .i64 0, .nilIface, .pointer none] 250)) b y := h'.below (bal w _)
 have hx1 : (w.alloc (.cells #[.int .i64 0, .nilIface, .pointer none] 250)).cell? ⟨g, 0, none⟩ = some x := by rw [World.cell?_alloc_lt _ _ _ hg]; exact hx
 have hy1 : (w.alloc (.cells #[.int .i64 0, .nilIface, .pointer none] 250)).cell? ⟨g, 1, none⟩ = some y := by rw [World.cell?_alloc_lt _ _ ⟨g, 1, none⟩ hg]; exact hy
 have N := zgo a x _ ha h1
 have M := zgo b y _ hb h2
 rw [hn] at N
 rw [hm] at M
 obtain ⟨T, x', rfl⟩ := h.iface
 obtain ⟨T', y', rfl⟩ := h'.iface
 clear h h1 h' h2 ha hb hx hy hn hm
 go_enter Tryz.func194, Tryz.ntmps194
 go_wp2_with fail
 refine wp_loop_rounds 3 ?_
 rw [rounds_succ]
 go_wp2_with fail
 refine N.mono ?_
 rintro e w' ⟨rfl, rfl⟩
 go_wp2_with fail
 rw [rounds_succ]
 go_wp2_with fail
 refine M.mono ?_
 rintro e w' ⟨rfl, rfl⟩
 go_wp2_with fail
 rw [rounds_succ]
 go_wp2_with fail
 refine zif rfl rfl (heap_alloc_new w _) ?_
 exact ⟨rfl, bal w _⟩
theorem Tv.newL {w w' : World} {a : Ty} {x : Value} (h : Tv w a x) (hb : Below w.heap.size w w') : Tv (w'.alloc (obL (sz (tL a)) x)) (tL a) (viL w'.heap.size) :=
 Tv.L (heap_alloc_new w' _) ((h.below hb).below (bal w' _))
theorem Tv.newP {w w' : World} {a b : Ty} {x y : Value} (h : Tv w a x) (h' : Tv w b y) (hb : Below w.heap.size w w') : Tv (w'.alloc (obP (sz (tP a b)) x y)) (tP a b) (viP w'.heap.size) :=
 Tv.P (heap_alloc_new w' _) ((h.below hb).below (bal w' _)) ((h'.below hb).below (bal w' _))
theorem Tv.newF {w w' : World} {a b : Ty} {x y : Value} (h : Tv w a x) (h' : Tv w b y) (hb : Below w.heap.size w w') : Tv (w'.alloc (obF (sz (tF a b)) x y)) (tF a b) (viF w'.heap.size) :=
 Tv.F (heap_alloc_new w' _) ((h.below hb).below (bal w' _)) ((h'.below hb).below (bal w' _))
theorem newList_any (a : Ty) (x : Value) (w : World) (ha : Ok a) (h : Tv w a x) (hs : sz a <= 4000000000000000000) :
 Calls Tryz.prog 230 #[x] w fun e w' => ∃ q, e = .returned (.pointer (some ⟨q, 0, none⟩)) /\ Tv w' (tL a) (viL q) /\ Below w.heap.size w w' := by
 have b1 : Below w.heap.size w (w.alloc (.cells #[x] 94)) := bal w _
 have A := above_one a x w.heap.size (sz a) _ (by simp) ha (h.below b1) rfl hs
 have e1 : sz (tL a) = sz a + 1 := by simp [sz]
 have N := fun w' => @Tv.newL w w' a x h
 rw [e1] at N
 obtain ⟨T, x', rfl⟩ := h.iface
 clear h
 generalize sz a = n at *
 go_enter Tryz.func230, Tryz.ntmps230
 go_wp2_with fail
 refine A.mono ?_
 rintro e w1 ⟨rfl, hb⟩
 have b2 : Below w.heap.size w w1 := b1.trans (hb.mono (by simp))
 have N1 := N w1 b2
 go_wp2_with fail
 go_ret
 exact ⟨_, rfl, N1, b2.alloc b2.size _⟩
theorem newPair_any (a b : Ty) (x y : Value) (w : World) (ha : Ok a) (h : Tv w a x) (hb : Ok b) (h' : Tv w b y) (hs : sz a + sz b <= 4000000000000000000) :
 Calls Tryz.prog 209 #[x, y] w fun e w' => ∃ q, e = .returned (.pointer (some ⟨q, 0, none⟩)) /\ Tv w' (tP a b) (viP q) /\ Below w.heap.size w w' := by
 have b1 : Below w.heap.size w (w.alloc (.cells #[x, y] 94)) := bal w _
 have A := zos a b x y w.heap.size (sz a) (sz b) _ (by simp) (by simp) ha (h.below b1) hb (h'.below b1) rfl rfl hs
 have e1 : sz (tP a b) = sz a + sz b + 1 := rfl
 have N := fun w' => @Tv.newP w w' a b x y h h'
 rw [e1] at N
 obtain ⟨T, x', rfl⟩ := h.iface
 obtain ⟨T', y', rfl⟩ := h'.iface
 clear h h'
 generalize sz a = n at *
 generalize sz b = m at *
 go_enter Tryz.func209, Tryz.ntmps209
 go_wp2_with fail
 refine A.mono ?_
 rintro e w1 ⟨rfl, hb⟩
 have b2 : Below w.heap.size w w1 := b1.trans (hb.mono (by simp))
 have N1 := N w1 b2
 go_wp2_with fail
 go_ret
 exact ⟨_, rfl, N1, b2.alloc b2.size _⟩
theorem zfa (a b : Ty) (x y : Value) (w : World) (ha : Ok a) (h : Tv w a x) (hb : Ok b) (h' : Tv w b y) (hs : sz a + sz b <= 4000000000000000000) :
 Calls Tryz.prog 160 #[x, y] w fun e w' => ∃ q, e = .returned (.pointer (some ⟨q, 0, none⟩)) /\ Tv w' (tF a b) (viF q) /\ Below w.heap.size w w' := by
 have b1 : Below w.heap.size w (w.alloc (.cells #[x, y] 94)) := bal w _
 have A := zos a b x y w.heap.size (sz a) (sz b) _ (by simp) (by simp) ha (h.below b1) hb (h'.below b1) rfl rfl hs
 have e1 : sz (tF a b) = sz a + sz b + 1 := rfl
 have N := fun w' => @Tv.newF w w' a b x y h h'
 rw [e1] at N
 obtain ⟨T, x', rfl⟩ := h.iface
 obtain ⟨T', y', rfl⟩ := h'.iface
 clear h h'
 generalize sz a = n at *
 generalize sz b = m at *
 go_enter Tryz.func160, Tryz.ntmps160
 go_wp2_with fail
 refine A.mono ?_
 rintro e w1 ⟨rfl, hb⟩
 have b2 : Below w.heap.size w w1 := b1.trans (hb.mono (by simp))
 have N1 := N w1 b2
 go_wp2_with fail
 go_ret
 exact ⟨_, rfl, N1, b2.alloc b2.size _⟩
abbrev Mks : Type := List (Nat × Nat × Value)
def np : Mks -> Value
 | [] => .pointer none
 | (q, k, _) :: _ => .pointer (some ⟨q, k, none⟩)
def mkd (k : Nat) (f n : Value) : Obj -> Obj
 | .cells c T fz => .cells ((c.setIfInBounds (k + 1) f).setIfInBounds (k + 2) n) T fz
 | o => o
def zbe : Mks -> Nat -> Option Obj -> Option Obj
 | [], _, o => o
 | (q, k, f) :: r, p, o => if p = q then o.map (mkd k f (np r)) else zbe r p o
def fnd : Mks -> Nat -> Value
 | [], _ => .nilIface
 | (q, _, f) :: r, p => if p = q then f else fnd r p
def isNd (o : Obj) (k : Nat) : Prop := (∃ n x, o = obL n x /\ k = 1) \/ (∃ n x y, o = obP n x y /\ k = 2) \/ (∃ n x y, o = obF n x y /\ k = 2)
def NdV (v : Value) (q k : Nat) : Prop := (v = viL q /\ k = 1) \/ (v = viP q /\ k = 2) \/ (v = viF q /\ k = 2)
def VisT (T : TypeId) : Prop := T ≠ 258 /\ T ≠ 261 /\ T ≠ 252
structure Vs (vb : Nat) (L : Mks) (u w : World) : Prop where
 os : w.os = u.os
 tape : w.tape = u.tape
 output : w.output = u.output
 size : w.heap.size = u.heap.size
 vis : ∃ T r x, VisT T /\ u.heap[vb]? = some (.cells (List.toArray (x :: r)) T (0, 0)) /\ w.heap[vb]? = some (.cells (List.toArray (np L :: r)) T (0, 0))
 blk : ∀ q, q ≠ vb -> w.heap[q]? = zbe L q u.heap[q]?
 nds : ∀ m ∈ L, (∃ o, u.heap[m.1]? = some o /\ isNd o m.2.1) /\ ∃ T x, m.2.2 = .iface T x
 nodup : (L.map (·.1)).Nodup
theorem isNd.cells {o : Obj} {k : Nat} (h : isNd o k) : ∃ c T, o = .cells c T (0, 0) /\ ¬ VisT T /\ T ≠ 207 /\ c[k + 1]? = some .nilIface /\ c[k + 2]? = some (.pointer none) /\ 1 <= k := by
 rcases h with ⟨n, x, rfl, rfl⟩ | ⟨n, x, y, rfl, rfl⟩ | ⟨n, x, y, rfl, rfl⟩ <;> exact ⟨_, _, rfl, by simp [VisT], by decide, rfl, rfl, by decide⟩
theorem Vs.ne {vb : Nat} {L : Mks} {u w : World} (h : Vs vb L u w) {q k : Nat} {o : Obj} (hq : u.heap[q]? = some o) (hn : isNd o k) : q ≠ vb := by
 rintro rfl
 obtain ⟨T0, r, x, hT0, hc, _⟩ := h.vis
 obtain ⟨c', T, rfl, hT, _⟩ := hn.cells
 rw [hc] at hq
 simp at hq
 exact hT (hq.2 ▸ hT0)
theorem zck {L : Mks} {q : Nat} {o : Option Obj} : q ∉ L.map (·.1) -> zbe L q o = o := by
 induction L with
 | nil => intro _; rfl
 | cons m r ih =>
  intro h
  obtain ⟨p, k, f⟩ := m
  simp only [List.map_cons, List.mem_cons, not_or] at h
  rw [zbe, if_neg h.1]
  exact ih h.2
theorem zmc {L : Mks} {q : Nat} : q ∉ L.map (·.1) -> fnd L q = .nilIface := by
 induction L with
 | nil => intro _; rfl
 | cons m r ih =>
  intro h
  obtain ⟨p, k, f⟩ := m
  simp only [List.map_cons, List.mem_cons, not_or] at h
  rw [fnd, if_neg h.1]
  exact ih h.2
theorem fnd_in {L : Mks} {q : Nat} : q ∈ L.map (·.1) -> ∃ k, (q, k, fnd L q) ∈ L := by
 induction L with
 | nil => intro h; simp at h
 | cons m r ih =>
  intro h
  obtain ⟨p, k, f⟩ := m
  by_cases e : q = p
  · subst e; exact ⟨k, by simp [fnd]⟩
  · simp only [List.map_cons, List.mem_cons, e, false_or] at h
    obtain ⟨k', hk⟩ := ih h
    refine ⟨k', ?_⟩
    rw [fnd, if_neg e]
    exact List.mem_cons_of_mem _ hk
theorem zne {L : Mks} {q k : Nat} {c : Array Value} {T : TypeId} (hk : ∀ m ∈ L, m.1 = q -> m.2.1 = k) (h1 : c[k + 1]? = some .nilIface) (h2 : c[k + 2]? = some (.pointer none)) :
 ∃ c', zbe L q (some (.cells c T (0, 0))) = some (.cells c' T (0, 0)) /\ (∀ j, j <= k -> c'[j]? = c[j]?) /\ c'[k + 1]? = some (fnd L q) /\ ∃ n, c'[k + 2]? = some n := by
 induction L with
 | nil => exact ⟨c, rfl, fun _ _ => rfl, h1, _, h2⟩
 | cons m r ih =>
  obtain ⟨p, k', f⟩ := m
  by_cases e : q = p
  · subst e
    obtain rfl : k' = k := hk (q, k', f) List.mem_cons_self rfl
    have s1 := (Array.getElem?_eq_some_iff.1 h1).1
    have s2 := (Array.getElem?_eq_some_iff.1 h2).1
    refine ⟨_, by rw [zbe, if_pos rfl]; rfl, ?_, ?_, np r, ?_⟩
    · intro j hj
      rw [Array.getElem?_setIfInBounds_ne (by omega), Array.getElem?_setIfInBounds_ne (by omega)]
    · rw [Array.getElem?_setIfInBounds_ne (by omega), fnd, if_pos rfl]
      simp [s1]
    · simp [s2]
  · rw [zbe, if_neg e, fnd, if_neg e]
    exact ih (fun m hm => hk m (List.mem_cons_of_mem _ hm))
theorem isNd.one {o : Obj} {k k' : Nat} (h : isNd o k) (h' : isNd o k') : k = k' := by
 rcases h with ⟨n, x, rfl, rfl⟩ | ⟨n, x, y, rfl, rfl⟩ | ⟨n, x, y, rfl, rfl⟩ <;> rcases h' with ⟨n, x, e, rfl⟩ | ⟨n, x, y, e, rfl⟩ | ⟨n, x, y, e, rfl⟩ <;> simp at e ⊢
theorem Vs.at_node {vb : Nat} {L : Mks} {u w : World} (h : Vs vb L u w) {q k : Nat} {o : Obj} (hq : u.heap[q]? = some o) (hn : isNd o k) :
 ∃ c T c', o = .cells c T (0, 0) /\ w.heap[q]? = some (.cells c' T (0, 0)) /\ (∀ j, j <= k -> c'[j]? = c[j]?) /\ c'[k + 1]? = some (fnd L q) /\ ∃ n, c'[k + 2]? = some n := by
 obtain ⟨c, T, rfl, _, _, h1, h2, _⟩ := hn.cells
 obtain ⟨c', e1, e2, e3, e4⟩ := zne (L := L) (q := q) (k := k) (T := T) (c := c) (fun m hm e => by
  obtain ⟨⟨o, ho, hno⟩, _⟩ := h.nds m hm
  rw [e, hq] at ho
  obtain rfl := Option.some.inj ho
  exact hno.one hn) h1 h2
 exact ⟨c, T, c', rfl, by rw [h.blk q (h.ne hq hn), hq]; exact e1, e2, e3, e4⟩
theorem Vs.found {vb : Nat} {L : Mks} {u w : World} (h : Vs vb L u w) {q k : Nat} {o : Obj} (hq : u.heap[q]? = some o) (hn : isNd o k) : w.cell? ⟨q, k + 1, none⟩ = some (fnd L q) := by
 obtain ⟨c, T, c', rfl, hw, _, e, _⟩ := h.at_node hq hn
 rw [Lib.cell_of_heap hw]; exact e
theorem Vs.part {vb : Nat} {L : Mks} {u w : World} (h : Vs vb L u w) {q k j : Nat} {c : Array Value} {T : TypeId} {v : Value} (hq : u.heap[q]? = some (.cells c T (0, 0))) (hn : isNd (.cells c T (0, 0)) k) (hj : j <= k) (hv : c[j]? = some v) : w.cell? ⟨q, j, none⟩ = some v := by
 obtain ⟨c1, T1, c', e, hw, e1, _⟩ := h.at_node hq hn
 simp at e
 obtain ⟨rfl, rfl⟩ := e
 rw [Lib.cell_of_heap hw]; exact (e1 j hj).trans hv
theorem Vs.last {vb : Nat} {L : Mks} {u w : World} (h : Vs vb L u w) : w.cell? ⟨vb, 0, none⟩ = some (np L) := by
 obtain ⟨T, r, x, _, _, hv⟩ := h.vis
 rw [Lib.cell_of_heap hv]; rfl
theorem Vs.drewN {vb : Nat} {L : Mks} {u w : World} (h : Vs vb L u w) (n : Nat) : Vs vb L u (w.drewN n) := ⟨h.os, h.tape, h.output, h.size, h.vis, h.blk, h.nds, h.nodup⟩
theorem Vs.drew {vb : Nat} {L : Mks} {u w : World} (h : Vs vb L u w) : Vs vb L u w.drew := ⟨h.os, h.tape, h.output, h.size, h.vis, h.blk, h.nds, h.nodup⟩
theorem Vs.alloc {vb : Nat} {L : Mks} {u w : World} (h : Vs vb L u w) (o : Obj) : Vs vb L (u.alloc o) (w.alloc o) := by
 obtain ⟨T0, r0, x0, hT0, hu, hv⟩ := h.vis
 have hlt : vb < w.heap.size := (Array.getElem?_eq_some_iff.1 hv).1
 have hlu : vb < u.heap.size := by rw [<- h.size]; exact hlt
 refine ⟨h.os, h.tape, h.output, by simp [h.size], ⟨T0, r0, x0, hT0, (Below.heap_alloc _ _ _ hlu).trans hu, (Below.heap_alloc _ _ _ hlt).trans hv⟩, ?_, ?_, h.nodup⟩
 · intro q hq
   by_cases e : q < u.heap.size
   · rw [Below.heap_alloc _ _ _ (by rw [h.size]; exact e), Below.heap_alloc _ _ _ e]; exact h.blk q hq
   · have hnot : q ∉ L.map (·.1) := by
      intro hm
      obtain ⟨m, hm', rfl⟩ := List.mem_map.1 hm
      obtain ⟨⟨o, ho, _⟩, _⟩ := h.nds m hm'
      exact e (Array.getElem?_eq_some_iff.1 ho).1
     rw [zck hnot]
     by_cases e2 : q = u.heap.size
     · subst e2
       have := heap_alloc_new w o
       rw [h.size] at this
       rw [this, heap_alloc_new u o]
     · rw [Array.getElem?_eq_none (by simp [h.size]; omega), Array.getElem?_eq_none (by simp; omega)]
 · intro m hm
   obtain ⟨⟨o', ho, hn⟩, hx⟩ := h.nds m hm
   exact ⟨⟨o', (Below.heap_alloc _ _ _ (Array.getElem?_eq_some_iff.1 ho).1).trans ho, hn⟩, hx⟩
theorem Vs.mark {vb : Nat} {L : Mks} {u w : World} (h : Vs vb L u w) {q k : Nat} {o : Obj} (hq : u.heap[q]? = some o) (hn : isNd o k) (hnot : q ∉ L.map (·.1)) (T : TypeId) (x : Value) :
 Vs vb ((q, k, .iface T x) :: L) u (((w.setCell ⟨q, k + 2, none⟩ (np L)).setCell ⟨vb, 0, none⟩ (.pointer (some ⟨q, k, none⟩))).setCell ⟨q, k + 1, none⟩ (.iface T x)) := by
 have hne := h.ne hq hn
 obtain ⟨c, T', rfl, _, _, e1, e2, _⟩ := hn.cells
 have hw : w.heap[q]? = some (.cells c T' (0, 0)) := by rw [h.blk q hne, hq, zck hnot]
 obtain ⟨T0, r0, x0, hT0, hu0, hv0⟩ := h.vis
 refine ⟨h.os, h.tape, h.output, by simp [World.setCell, h.size], ⟨T0, r0, x0, hT0, hu0, ?_⟩, ?_, ?_, ?_⟩
 · rw [Below.heap_setCell _ _ _ _ (by show ¬ _; simp; omega)]
   have hv : (w.setCell ⟨q, k + 2, none⟩ (np L)).heap[vb]? = some (.cells (List.toArray (np L :: r0)) T0 (0, 0)) := by
    rw [Below.heap_setCell _ _ _ _ (by show ¬ _; simp; omega)]; exact hv0
   generalize w.setCell ⟨q, k + 2, none⟩ (np L) = w2 at hv
   simp [World.setCell, Array.getElem?_modify, hv, np]
 · intro p hp
   by_cases e : p = q
   · subst e
     rw [zbe, if_pos rfl, hq]
     simp [World.setCell, Array.getElem?_modify, hw, mkd, hne, Ne.symm hne]
     rw [Array.setIfInBounds_comm _ _ (by omega)]
   · rw [zbe, if_neg e, Below.heap_setCell _ _ _ _ (by show ¬ _; simp; omega), Below.heap_setCell _ _ _ _ (by show ¬ _; simp; omega), Below.heap_setCell _ _ _ _ (by show ¬ _; simp; omega)]
     exact h.blk p hp
 · intro m hm
   rcases List.mem_cons.1 hm with rfl | hm
   · exact ⟨⟨_, hq, hn⟩, T, x, rfl⟩
   · exact h.nds m hm
 · simp only [List.map_cons, List.nodup_cons]
   exact ⟨hnot, h.nodup⟩
def upd (q : Nat) (f : Value) : Mks -> Mks
 | [] => []
 | (p, k, g) :: r => if q = p then (p, k, f) :: r else (p, k, g) :: upd q f r
theorem upd_np (q : Nat) (f : Value) (L : Mks) : np (upd q f L) = np L := by
 cases L with
 | nil => rfl
 | cons m r => obtain ⟨p, k, g⟩ := m; rw [upd]; split <;> rfl
theorem upd_map (q : Nat) (f : Value) (L : Mks) : (upd q f L).map (·.1) = L.map (·.1) := by
 induction L with
 | nil => rfl
 | cons m r ih => obtain ⟨p, k, g⟩ := m; rw [upd]; split <;> simp [ih]
theorem zlz {q : Nat} {f : Value} {L : Mks} {m : Nat × Nat × Value} (h : m ∈ upd q f L) : m ∈ L \/ (m.1 = q /\ m.2.2 = f /\ ∃ g, (m.1, m.2.1, g) ∈ L) := by
 induction L with
 | nil => cases h
 | cons m' r ih =>
  obtain ⟨p, k, g⟩ := m'
  rw [upd] at h
  split at h
  · rename_i e
    rcases List.mem_cons.1 h with rfl | h
    · exact .inr ⟨e.symm, rfl, g, List.mem_cons_self⟩
    · exact .inl (List.mem_cons_of_mem _ h)
  · rcases List.mem_cons.1 h with rfl | h
    · exact .inl List.mem_cons_self
    · rcases ih h with h | ⟨e1, e2, g', hg⟩
      · exact .inl (List.mem_cons_of_mem _ h)
      · exact .inr ⟨e1, e2, g', List.mem_cons_of_mem _ hg⟩
theorem marked_upd {q k : Nat} {f : Value} {L : Mks} (hk : ∀ m ∈ L, m.1 = q -> m.2.1 = k) (hin : q ∈ L.map (·.1)) (c : Array Value) (T : TypeId) (hs : k + 2 < c.size) :
 ∃ c', zbe L q (some (.cells c T (0, 0))) = some (.cells c' T (0, 0)) /\ zbe (upd q f L) q (some (.cells c T (0, 0))) = some (.cells (c'.setIfInBounds (k + 1) f) T (0, 0)) := by
 induction L with
 | nil => simp at hin
 | cons m r ih =>
  obtain ⟨p, k', g⟩ := m
  by_cases e : q = p
  · subst e
    obtain rfl : k' = k := hk (q, k', g) List.mem_cons_self rfl
    refine ⟨_, by rw [zbe, if_pos rfl]; rfl, ?_⟩
    rw [upd, if_pos rfl, zbe, if_pos rfl]
    simp only [Option.map_some, mkd, Option.some.injEq, Obj.cells.injEq, and_true]
    apply Array.ext_getElem?
    intro j
    simp only [Array.getElem?_setIfInBounds, Array.size_setIfInBounds]
    by_cases j1 : k' + 1 = j
    · have j2 : ¬ k' + 2 = j := by omega
      simp [j1, j2]
    · simp [j1]
  · simp only [List.map_cons, List.mem_cons, e, false_or] at hin
    rw [upd, if_neg e, zbe, if_neg e, zbe, if_neg e]
    exact ih (fun m hm => hk m (List.mem_cons_of_mem _ hm)) hin
theorem zmi {q p : Nat} {f : Value} {L : Mks} {o : Option Obj} (e : p ≠ q) : zbe (upd q f L) p o = zbe L p o := by
 induction L with
 | nil => rfl
 | cons m r ih =>
  obtain ⟨p', k', g⟩ := m
  rw [upd]
  split
  · rename_i e1
    subst e1
    rw [zbe, zbe, if_neg e, if_neg e]
  · rw [zbe, zbe]
    split
    · rw [upd_np]
    · exact ih
theorem Vs.remark {vb : Nat} {L : Mks} {u w : World} (h : Vs vb L u w) {q k : Nat} {o : Obj} (hq : u.heap[q]? = some o) (hn : isNd o k) (hin : q ∈ L.map (·.1)) (T : TypeId) (x : Value) :
 Vs vb (upd q (.iface T x) L) u (w.setCell ⟨q, k + 1, none⟩ (.iface T x)) := by
 have hne := h.ne hq hn
 have hk : ∀ m ∈ L, m.1 = q -> m.2.1 = k := fun m hm e => by
  obtain ⟨⟨o, ho, hno⟩, _⟩ := h.nds m hm
  rw [e, hq] at ho
  obtain rfl := Option.some.inj ho
  exact hno.one hn
 obtain ⟨c, T', rfl, _, _, e1, e2, _⟩ := hn.cells
 obtain ⟨c', m1, m2⟩ := marked_upd (f := .iface T x) hk hin c T' (Array.getElem?_eq_some_iff.1 e2).1
 have hw : w.heap[q]? = some (.cells c' T' (0, 0)) := by rw [h.blk q hne, hq, m1]
 obtain ⟨T0, r0, x0, hT0, hu0, hv0⟩ := h.vis
 refine ⟨h.os, h.tape, h.output, by simp [World.setCell, h.size], ⟨T0, r0, x0, hT0, hu0, ?_⟩, ?_, ?_, by rw [upd_map]; exact h.nodup⟩
 · rw [Below.heap_setCell _ _ _ _ (by show ¬ _; simp; omega), upd_np]; exact hv0
 · intro p hp
   by_cases e : p = q
   · subst e
     rw [hq, m2]
     simp [World.setCell, Array.getElem?_modify, hw]
   · rw [zmi e, Below.heap_setCell _ _ _ _ (by show ¬ _; simp; omega)]
     exact h.blk p hp
 · intro m hm
   rcases zlz hm with hm | ⟨e1, e2, g, hg⟩
   · exact h.nds m hm
   · exact ⟨(h.nds _ hg).1, T, x, e2⟩
theorem zdx {v : Value} {q k : Nat} (h : NdV v q k) (w : World) : Calls Tryz.prog 131 #[v] w fun e w' => e = .returned (.pointer (some ⟨q, k, none⟩)) /\ w' = w := by
 rcases h with ⟨rfl, rfl⟩ | ⟨rfl, rfl⟩ | ⟨rfl, rfl⟩
 · exact nodeOf_L q w
 · exact nodeOf_P q w
 · exact nodeOf_F q w
theorem NdV.iface {v : Value} {q k : Nat} (h : NdV v q k) : ∃ T x, v = .iface T x := by
 rcases h with ⟨rfl, rfl⟩ | ⟨rfl, rfl⟩ | ⟨rfl, rfl⟩ <;> exact ⟨_, _, rfl⟩
def Leaf (v : Value) : Prop := v = viI \/ v = viB \/ ∃ o, v = viV o
theorem Leaf.nodeOf {v : Value} (h : Leaf v) (w : World) : Calls Tryz.prog 131 #[v] w fun e w' => e = .returned (.pointer none) /\ w' = w := by
 rcases h with rfl | rfl | ⟨o, rfl⟩ <;> exact zjr _ _ w (by decide) (by decide) (by decide)
theorem Leaf.iface {v : Value} (h : Leaf v) : ∃ T x, v = .iface T x := by
 rcases h with rfl | rfl | ⟨o, rfl⟩ <;> exact ⟨_, _, rfl⟩
theorem at_leaf {v : Value} (vb : Nat) (w : World) (h : Leaf v) :
 Calls Tryz.prog 222 #[.pointer (some ⟨vb, 0, none⟩), v] w fun e w' => e = .returned .nilIface /\ w' = w := by
 have N := h.nodeOf w
 obtain ⟨T, x, rfl⟩ := h.iface
 clear h
 go_enter Tryz.func222, Tryz.ntmps222
 go_wp2_with fail
 refine N.mono ?_
 rintro e w' ⟨rfl, rfl⟩
 go_wp2_with fail
 go_ret
 exact ⟨rfl, rfl⟩
theorem at_nd {v : Value} {q k : Nat} (vb : Nat) (f : Value) (w : World) (h : NdV v q k) (hf : w.cell? ⟨q, k + 1, none⟩ = some f) :
 Calls Tryz.prog 222 #[.pointer (some ⟨vb, 0, none⟩), v] w fun e w' => e = .returned f /\ w' = w := by
 have N := zdx h w
 obtain ⟨T, x, rfl⟩ := h.iface
 clear h
 go_enter Tryz.func222, Tryz.ntmps222
 go_wp2_with fail
 refine N.mono ?_
 rintro e w' ⟨rfl, rfl⟩
 go_wp2_with fail
 go_ret
 exact ⟨rfl, rfl⟩
theorem zoh {v : Value} (vb : Nat) (f : Value) (w : World) (h : Leaf v) :
 Calls Tryz.prog 223 #[.pointer (some ⟨vb, 0, none⟩), v, f] w fun e w' => e = .returned (.tuple #[]) /\ w' = w := by
 have N := h.nodeOf w
 obtain ⟨T, x, rfl⟩ := h.iface
 clear h
 go_enter Tryz.func223, Tryz.ntmps223
 go_wp2_with fail
 refine N.mono ?_
 rintro e w' ⟨rfl, rfl⟩
 go_wp2_with fail
 first | go_end0 | refine bodyPost_ret (results_none rfl _ _ _) rfl ?_
 exact ⟨rfl, rfl⟩
theorem np_ptr (L : Mks) : ∃ p, np L = .pointer p := by
 cases L with
 | nil => exact ⟨_, rfl⟩
 | cons m r => obtain ⟨q, k, f⟩ := m; exact ⟨_, rfl⟩
theorem zmt {v : Value} {q k : Nat} {vb : Nat} {L : Mks} {u w : World} {o : Obj} (h : NdV v q k) (hV : Vs vb L u w) (hq : u.heap[q]? = some o) (hn : isNd o k) (hnot : q ∉ L.map (·.1)) (T : TypeId) (x : Value) :
 Calls Tryz.prog 223 #[.pointer (some ⟨vb, 0, none⟩), v, .iface T x] w fun e w' => e = .returned (.tuple #[]) /\ Vs vb ((q, k, .iface T x) :: L) u w' := by
 have N := zdx h w
 obtain ⟨T', x', rfl⟩ := h.iface
 have hne := hV.ne hq hn
 have M := hV.mark hq hn hnot T x
 have cl := hV.last
 have fl : w.frozen? ⟨vb, 0, none⟩ = false := by obtain ⟨T0, r0, x0, _, _, hv0⟩ := hV.vis; exact Lib.frozen_of_heap hv0 0
 have cf := hV.found hq hn
 rw [zmc hnot] at cf
 obtain ⟨c, T1, c', _, hw, _, _, n, e2⟩ := hV.at_node hq hn
 have cn : w.cell? ⟨q, k + 2, none⟩ = some n := by rw [Lib.cell_of_heap hw]; exact e2
 have ff : w.frozen? ⟨q, k + 1, none⟩ = false := Lib.frozen_of_heap hw _
 have fn : w.frozen? ⟨q, k + 2, none⟩ = false := Lib.frozen_of_heap hw _
 clear h hV hq hn hnot hw e2
 obtain ⟨pp, hpp⟩ := np_ptr L
 rw [hpp] at M cl
 clear hpp
 go_enter Tryz.func223, Tryz.ntmps223
 go_wp2_with fail
 refine N.mono ?_
 rintro e w' ⟨rfl, rfl⟩
 go_wp2_with fail
 go_end0
 exact ⟨rfl, M⟩
theorem zlw {v : Value} {q k : Nat} {vb : Nat} {L : Mks} {u w : World} {o : Obj} (h : NdV v q k) (hV : Vs vb L u w) (hq : u.heap[q]? = some o) (hn : isNd o k) (hin : q ∈ L.map (·.1)) (T : TypeId) (x : Value) :
 Calls Tryz.prog 223 #[.pointer (some ⟨vb, 0, none⟩), v, .iface T x] w fun e w' => e = .returned (.tuple #[]) /\ Vs vb (upd q (.iface T x) L) u w' := by
 have N := zdx h w
 obtain ⟨T', x', rfl⟩ := h.iface
 have M := hV.remark hq hn hin T x
 have cf := hV.found hq hn
 obtain ⟨k', hm⟩ := fnd_in hin
 obtain ⟨T2, x2, e3⟩ := (hV.nds _ hm).2
 have e3' : fnd L q = .iface T2 x2 := e3
 rw [e3'] at cf
 obtain ⟨c, T1, c', _, hw, _, _, n, e2⟩ := hV.at_node hq hn
 have ff : w.frozen? ⟨q, k + 1, none⟩ = false := Lib.frozen_of_heap hw _
 clear h hV hq hn hin hw e2 hm e3 e3'
 go_enter Tryz.func223, Tryz.ntmps223
 go_wp2_with fail
 refine N.mono ?_
 rintro e w' ⟨rfl, rfl⟩
 go_wp2_with fail
 go_end0
 exact ⟨rfl, M⟩
structure Ends (vb : Nat) (u w : World) : Prop where
 os : w.os = u.os
 tape : w.tape = u.tape
 output : w.output = u.output
 size : w.heap.size = u.heap.size
 blk : ∀ q, q ≠ vb -> w.heap[q]? = u.heap[q]?
 vis : ∃ T r x, VisT T /\ u.heap[vb]? = some (.cells (List.toArray (x :: r)) T (0, 0)) /\ w.heap[vb]? = some (.cells (List.toArray (.pointer none :: r)) T (0, 0))
theorem Vs.ends {vb : Nat} {u w : World} (h : Vs vb [] u w) : Ends vb u w := ⟨h.os, h.tape, h.output, h.size, h.blk, h.vis⟩
def chain (w : World) : Nat -> Value -> Nat
 | 0, _ => 0
 | n + 1, .pointer (some a) => 1 + chain w n ((w.cell? ⟨a.block, a.off + 2, none⟩).getD .nilIface)
 | _ + 1, _ => 0
theorem Vs.next {vb : Nat} {u w : World} : ∀ (L pre r : Mks) (q k : Nat) (f : Value), L = pre ++ (q, k, f) :: r -> Vs vb L u w -> w.cell? ⟨q, k + 2, none⟩ = some (np r) := by
 intro L pre r q k f e h
 subst e
 have hm : (q, k, f) ∈ pre ++ (q, k, f) :: r := by simp
 obtain ⟨⟨o, ho, hn⟩, _⟩ := h.nds _ hm
 have hne := h.ne ho hn
 obtain ⟨c, T, rfl, _, _, _, e2, _⟩ := hn.cells
 have hw := h.blk q hne
 simp only at ho
 rw [ho] at hw
 have hnp : q ∉ pre.map (·.1) := by
  have := h.nodup
  simp only [List.map_append, List.map_cons] at this
  intro hq
  exact (List.nodup_append.1 this).2.2 q hq q (by simp) rfl
 have hmk : ∀ p : Mks, q ∉ p.map (·.1) -> ∀ o, zbe (p ++ (q, k, f) :: r) q o = o.map (mkd k f (np r)) := by
  intro p
  induction p with
  | nil => intro _ o; rw [List.nil_append, zbe, if_pos rfl]
  | cons m p ih =>
   intro hp o
   obtain ⟨p1, k1, f1⟩ := m
   simp only [List.map_cons, List.mem_cons, not_or] at hp
   rw [List.cons_append, zbe, if_neg hp.1]
   exact ih hp.2 o
 rw [hmk pre hnp] at hw
 rw [Lib.cell_of_heap (show w.heap[q]? = some (.cells _ T (0, 0)) from hw)]
 simp [(Array.getElem?_eq_some_iff.1 e2).1]
theorem Vs.len {vb : Nat} {u w : World} {L : Mks} (h : Vs vb L u w) : ∀ (r pre : Mks) (n : Nat), L = pre ++ r -> r.length <= n -> chain w n (np r) = r.length := by
 intro r
 induction r with
 | nil => intro pre n _ _; cases n <;> rfl
 | cons m r ih =>
  intro pre n e hn
  obtain ⟨q, k, f⟩ := m
  cases n with
  | zero => simp at hn
  | succ n =>
   have c := h.next L pre r q k f e
   show 1 + chain w n ((w.cell? ⟨q, k + 2, none⟩).getD .nilIface) = _
   rw [c, Option.getD_some, ih (pre ++ [(q, k, f)]) n (by rw [e]; simp) (by simpa using hn)]
   simp; omega
theorem Vs.unmark {vb : Nat} {r : Mks} {u w : World} {q k : Nat} {f : Value} (h : Vs vb ((q, k, f) :: r) u w) :
 Vs vb r u (((w.setCell ⟨vb, 0, none⟩ (np r)).setCell ⟨q, k + 1, none⟩ .nilIface).setCell ⟨q, k + 2, none⟩ (.pointer none)) := by
 obtain ⟨⟨o, ho, hn⟩, _⟩ := h.nds _ List.mem_cons_self
 simp only at ho hn
 have hne := h.ne ho hn
 obtain ⟨c, T, rfl, _, _, e1, e2, _⟩ := hn.cells
 have hw : w.heap[q]? = some (.cells ((c.setIfInBounds (k + 1) f).setIfInBounds (k + 2) (np r)) T (0, 0)) := by rw [h.blk q hne, ho, zbe, if_pos rfl]; rfl
 have hnd := h.nodup
 simp only [List.map_cons, List.nodup_cons] at hnd
 obtain ⟨T0, r0, x0, hT0, hu0, hv0⟩ := h.vis
 refine ⟨h.os, h.tape, h.output, by simp [World.setCell, h.size], ⟨T0, r0, x0, hT0, hu0, ?_⟩, ?_, fun m hm => h.nds m (List.mem_cons_of_mem _ hm), hnd.2⟩
 · rw [Below.heap_setCell _ _ _ _ (by show ¬ _; simp; omega), Below.heap_setCell _ _ _ _ (by show ¬ _; simp; omega)]
   simp [World.setCell, Array.getElem?_modify, hv0]
 · intro p hp
   by_cases e : p = q
   · subst e
     rw [zck hnd.1, ho]
     have hw2 : (w.setCell ⟨vb, 0, none⟩ (np r)).heap[p]? = some (.cells ((c.setIfInBounds (k + 1) f).setIfInBounds (k + 2) (np r)) T (0, 0)) := by
      rw [Below.heap_setCell _ _ _ _ (by show ¬ _; simp; omega)]; exact hw
     generalize w.setCell ⟨vb, 0, none⟩ (np r) = w2 at hw2
     have hw3 : ((w2.setCell ⟨p, k + 1, none⟩ .nilIface).setCell ⟨p, k + 2, none⟩ (.pointer none)).heap[p]? = some (.cells ((((c.setIfInBounds (k + 1) f).setIfInBounds (k + 2) (np r)).setIfInBounds (k + 1) .nilIface).setIfInBounds (k + 2) (.pointer none)) T (0, 0)) := by
      simp [World.setCell, Array.getElem?_modify, hw2]
     rw [hw3]
     refine congrArg some (congrArg (fun c => Obj.cells c T (0, 0)) ?_)
     apply Array.ext_getElem?
     intro j
     have s1 := (Array.getElem?_eq_some_iff.1 e1).1
     have s2 := (Array.getElem?_eq_some_iff.1 e2).1
     simp only [Array.getElem?_setIfInBounds, Array.size_setIfInBounds]
     by_cases j1 : k + 1 = j
     · subst j1
       rw [e1]; simp [s1]
     · by_cases j2 : k + 2 = j
       · subst j2
         rw [e2]; simp [s2]
       · simp [j1, j2]
   · rw [Below.heap_setCell _ _ _ _ (by show ¬ _; simp; omega), Below.heap_setCell _ _ _ _ (by show ¬ _; simp; omega), Below.heap_setCell _ _ _ _ (by show ¬ _; simp; omega), h.blk p hp, zbe, if_neg e]
theorem zex (vb : Nat) (L : Mks) (u : World) (fm : FrameMode) (w : World) (h : Vs vb L u w) :
 CallsD Tryz.prog 198 #[.pointer (some ⟨vb, 0, none⟩)] fm w fun e fm' w' => fm' = fm /\ (e = .returned (.tuple #[]) /\ Ends vb u w') := by
 go_enter_d Tryz.func198, Tryz.ntmps198
 go_wp2_with fail
 go_loopw [] (fun wr => ∃ r, Vs vb r u wr /\ r.length <= L.length) (fun wr => chain wr L.length ((wr.cell? ⟨vb, 0, none⟩).getD .nilIface))
 case atStart => exact ⟨L, h, Nat.le_refl _⟩
 case round =>
  obtain ⟨r, hr, hl⟩ := hrel
  clear h
  cases r with
  | nil =>
   have cl := hr.last
   have E := hr.ends
   simp only [np] at cl
   clear hr
   go_wp2_with fail
   go_end0
   exact ⟨rfl, E⟩
  | cons m r =>
   obtain ⟨q, k, f⟩ := m
   have M := hr.unmark
   have cl := hr.last
   have ml := hr.len ((q, k, f) :: r) [] L.length rfl hl
   have mc : chain wr L.length ((wr.cell? ⟨vb, 0, none⟩).getD .nilIface) = r.length + 1 := by rw [cl]; exact ml
   have ml2 : chain (((wr.setCell ⟨vb, 0, none⟩ (np r)).setCell ⟨q, k + 1, none⟩ .nilIface).setCell ⟨q, k + 2, none⟩ (.pointer none)) L.length (((((wr.setCell ⟨vb, 0, none⟩ (np r)).setCell ⟨q, k + 1, none⟩ .nilIface).setCell ⟨q, k + 2, none⟩ (.pointer none)).cell? ⟨vb, 0, none⟩).getD .nilIface) = r.length := by
    rw [M.last]; exact M.len r [] L.length rfl (by simp at hl; omega)
   obtain ⟨⟨o, ho, hn⟩, _⟩ := hr.nds _ List.mem_cons_self
   simp only at ho hn
   have hne := hr.ne ho hn
   have cf := hr.found ho hn
   have cn := hr.next _ [] r q k f rfl
   obtain ⟨c, T1, c', _, hw, _⟩ := hr.at_node ho hn
   have ff : wr.frozen? ⟨q, k + 1, none⟩ = false := Lib.frozen_of_heap hw _
   have fn : wr.frozen? ⟨q, k + 2, none⟩ = false := Lib.frozen_of_heap hw _
   have fl : wr.frozen? ⟨vb, 0, none⟩ = false := by obtain ⟨T0, r0, x0, _, _, hv0⟩ := hr.vis; exact Lib.frozen_of_heap hv0 0
   have hl2 : r.length <= L.length := by simp at hl; omega
   simp only [np] at cl
   have HM : Hid (_ = _) := mc
   have HM2 : Hid (_ = _) := ml2
   obtain ⟨pp, hpp⟩ := np_ptr r
   rw [hpp] at cn M HM2
   clear hr ho hn hw ml mc ml2 hl
   generalize fnd ((q, k, f) :: r) q = ff0 at *
   go_wp2_with fail
   go_roundw
   case rel => exact ⟨r, M, hl2⟩
   case measure => rw [HM.out, HM2.out]; omega
theorem kv_held : Tryz.prog.stoodInHeld 263 = false := by kernel_rfl
theorem kv_eqIn (d : Nat) (a b c e : Int) (w : World) : (Op.equalIn (d + 3) 263 (.agg #[.int .u8 a, .int .u8 b]) (.agg #[.int .u8 c, .int .u8 e])).run Tryz.prog w = .ok (a == c && b == e) w := by
 rw [run_equalIn_struct w (d + 2) _ _ _ (by kernel_rfl) kv_held]
 simp only [Program.fieldsOf, Tryz.underlying263]
 simp [go_sem]
 by_cases h : a = c <;> by_cases h' : b = e <;> simp [h, h']
theorem infoV : (Tryz.prog.info? 263).map (·.comparable) = some true := by kernel_rfl
theorem eql_V (o o' : Nat) (w : World) : (binOp .eql 94 (viV o) (viV o')).run Tryz.prog w = .ok (.bool (decide (o = o'))) w := by
 obtain ⟨i, hi, hc⟩ := Option.map_eq_some_iff.1 infoV
 simp only [binOp]
 have e : (((o / 10 : Nat) : Int) == ((o' / 10 : Nat) : Int) && ((o % 10 : Nat) : Int) == ((o' % 10 : Nat) : Int)) = decide (o = o') := by
  rw [Bool.eq_iff_iff]; simp; omega
 have h : (Op.equalIn 10000 94 (viV o) (viV o')).run Tryz.prog w = .ok (decide (o = o')) w := by
  have := kv_eqIn 9996 ((o / 10 : Nat) : Int) ((o % 10 : Nat) : Int) ((o' / 10 : Nat) : Int) ((o' % 10 : Nat) : Int) w
  rw [e] at this
  rw [Op.equalIn]
  simp [run_underlying Tryz.underlying94, typeInfo, hi, hc]
  exact this
 simp [Op.equal, Op.maxDepth, h]
theorem eql_I (w : World) : (binOp .eql 94 viI viI).run Tryz.prog w = .ok (.bool true) w := by kernel_rfl
theorem eql_B (w : World) : (binOp .eql 94 viB viB).run Tryz.prog w = .ok (.bool true) w := by kernel_rfl
end Go.Proofs.YtceadeaodbadlaaGreatDoor
namespace Go.Proofs.YtceadeaodbadlaaGreatDoor
open Go.RowKit Go.Extern.Stop Go.Stop Go.Extern
theorem infoPL : (Tryz.prog.info? 256).map (·.comparable) = some true := by kernel_rfl
theorem infoPP : (Tryz.prog.info? 259).map (·.comparable) = some true := by kernel_rfl
theorem infoPF : (Tryz.prog.info? 243).map (·.comparable) = some true := by kernel_rfl
theorem sizeL : (Tryz.prog.info? 258).map (·.size) = some 4 := by kernel_rfl
theorem sizeP : (Tryz.prog.info? 261).map (·.size) = some 5 := by kernel_rfl
theorem sizeF : (Tryz.prog.info? 252).map (·.size) = some 5 := by kernel_rfl
theorem eql_ptr {tp te : TypeId} {n q q' : Nat} {ca cb : Array Value} {ta tb : TypeId} {w : World} (hp : Tryz.prog.underlying tp = some (.pointer te)) (h1 : (Tryz.prog.info? tp).map (·.comparable) = some true) (h2 : (Tryz.prog.info? te).map (·.size) = some (n + 1)) (ha : w.heap[q]? = some (.cells ca ta (0, 0))) (hb : w.heap[q']? = some (.cells cb tb (0, 0))) :
 ∃ c : Bool, (binOp .eql 94 (.iface tp (.pointer (some ⟨q, 0, none⟩))) (.iface tp (.pointer (some ⟨q', 0, none⟩)))).run Tryz.prog w = .ok (.bool c) w /\ (c = true -> q = q') := by
 obtain ⟨i, hi, hcmp⟩ := Option.map_eq_some_iff.1 h1
 obtain ⟨j, hj, hjs⟩ := Option.map_eq_some_iff.1 h2
 by_cases e : q = q'
 · subst e
   exact ⟨true, run_eql_iface_ptr_same (P := Tryz.prog) w ⟨q, 0, none⟩ Tryz.underlying94 hp hi hcmp hj, fun _ => rfl⟩
 · exact ⟨false, run_eql_iface_ptr_other (P := Tryz.prog) w Tryz.underlying94 hp hi hcmp hj (by rw [hjs]; omega) (a := ⟨q, 0, none⟩) (b := ⟨q', 0, none⟩) (by simp [e]) ha hb, fun h => by cases h⟩
theorem zah {T T' : TypeId} (x x' : Value) (w : World) (h : T ≠ T') : (binOp .eql 94 (.iface T x) (.iface T' x')).run Tryz.prog w = .ok (.bool false) w :=
 run_eql_iface_types (P := Tryz.prog) T T' x x' Tryz.underlying94 h w
theorem Vs.there {vb : Nat} {L : Mks} {u w : World} (h : Vs vb L u w) {q k : Nat} {o : Obj} (hq : u.heap[q]? = some o) (hn : isNd o k) : ∃ c T, w.heap[q]? = some (.cells c T (0, 0)) := by
 obtain ⟨c, T, c', _, hw, _⟩ := h.at_node hq hn
 exact ⟨_, _, hw⟩
theorem ndL (n : Nat) (x : Value) : isNd (obL n x) 1 := .inl ⟨n, x, rfl, rfl⟩
theorem ndP (n : Nat) (x y : Value) : isNd (obP n x y) 2 := .inr (.inl ⟨n, x, y, rfl, rfl⟩)
theorem ndF (n : Nat) (x y : Value) : isNd (obF n x y) 2 := .inr (.inr ⟨n, x, y, rfl, rfl⟩)
theorem eq_tv {vb : Nat} {L : Mks} {u w : World} (hV : Vs vb L u w) {x y : Ty} {v v' : Value} (hx : Ok x) (hy : Ok y) (h : Tv u x v) (h' : Tv u y v') :
 ∃ c : Bool, (binOp .eql 94 v v').run Tryz.prog w = .ok (.bool c) w /\ (c = true -> v = v') /\ (Leaf v -> c = eqT x y) := by
 rcases hx.cases with rfl | rfl | ⟨o, _, _, rfl⟩ | ⟨a, ha, rfl⟩ | ⟨a, b, ha, hb, rfl⟩ | ⟨a, b, ha, hb, rfl⟩ <;>
 rcases hy.cases with rfl | rfl | ⟨o', _, _, rfl⟩ | ⟨a', ha', rfl⟩ | ⟨a', b', ha', hb', rfl⟩ | ⟨a', b', ha', hb', rfl⟩
 · have e1 := h.isI; subst e1
   have e2 := h'.isI; subst e2
   exact ⟨true, eql_I w, fun _ => rfl, fun _ => by simp [eqT]⟩
 · have e1 := h.isI; subst e1
   have e2 := h'.isB; subst e2
   exact ⟨false, zah _ _ w (by decide), fun e => (by cases e), fun _ => by simp [eqT]⟩
 · have e1 := h.isI; subst e1
   have e2 := h'.isV; subst e2
   exact ⟨false, zah _ _ w (by decide), fun e => (by cases e), fun _ => by simp [eqT]⟩
 · have e1 := h.isI; subst e1
   obtain ⟨q2, x2, rfl, hq2, _⟩ := h'.isL
   exact ⟨false, zah _ _ w (by decide), fun e => (by cases e), fun _ => by simp [eqT]⟩
 · have e1 := h.isI; subst e1
   obtain ⟨q2, x2, y2, rfl, hq2, _⟩ := h'.isP
   exact ⟨false, zah _ _ w (by decide), fun e => (by cases e), fun _ => by simp [eqT]⟩
 · have e1 := h.isI; subst e1
   obtain ⟨q2, x2, y2, rfl, hq2, _⟩ := h'.isF
   exact ⟨false, zah _ _ w (by decide), fun e => (by cases e), fun _ => by simp [eqT]⟩
 · have e1 := h.isB; subst e1
   have e2 := h'.isI; subst e2
   exact ⟨false, zah _ _ w (by decide), fun e => (by cases e), fun _ => by simp [eqT]⟩
 · have e1 := h.isB; subst e1
   have e2 := h'.isB; subst e2
   exact ⟨true, eql_B w, fun _ => rfl, fun _ => by simp [eqT]⟩
 · have e1 := h.isB; subst e1
   have e2 := h'.isV; subst e2
   exact ⟨false, zah _ _ w (by decide), fun e => (by cases e), fun _ => by simp [eqT]⟩
 · have e1 := h.isB; subst e1
   obtain ⟨q2, x2, rfl, hq2, _⟩ := h'.isL
   exact ⟨false, zah _ _ w (by decide), fun e => (by cases e), fun _ => by simp [eqT]⟩
 · have e1 := h.isB; subst e1
   obtain ⟨q2, x2, y2, rfl, hq2, _⟩ := h'.isP
   exact ⟨false, zah _ _ w (by decide), fun e => (by cases e), fun _ => by simp [eqT]⟩
 · have e1 := h.isB; subst e1
   obtain ⟨q2, x2, y2, rfl, hq2, _⟩ := h'.isF
   exact ⟨false, zah _ _ w (by decide), fun e => (by cases e), fun _ => by simp [eqT]⟩
 · have e1 := h.isV; subst e1
   have e2 := h'.isI; subst e2
   exact ⟨false, zah _ _ w (by decide), fun e => (by cases e), fun _ => by simp [eqT]⟩
 · have e1 := h.isV; subst e1
   have e2 := h'.isB; subst e2
   exact ⟨false, zah _ _ w (by decide), fun e => (by cases e), fun _ => by simp [eqT]⟩
 · have e1 := h.isV; subst e1
   have e2 := h'.isV; subst e2
   exact ⟨decide (o = o'), eql_V o o' w, fun e => by have e := of_decide_eq_true e; subst e; rfl, fun _ => by simp [eqT]; rfl⟩
 · have e1 := h.isV; subst e1
   obtain ⟨q2, x2, rfl, hq2, _⟩ := h'.isL
   exact ⟨false, zah _ _ w (by decide), fun e => (by cases e), fun _ => by simp [eqT]⟩
 · have e1 := h.isV; subst e1
   obtain ⟨q2, x2, y2, rfl, hq2, _⟩ := h'.isP
   exact ⟨false, zah _ _ w (by decide), fun e => (by cases e), fun _ => by simp [eqT]⟩
 · have e1 := h.isV; subst e1
   obtain ⟨q2, x2, y2, rfl, hq2, _⟩ := h'.isF
   exact ⟨false, zah _ _ w (by decide), fun e => (by cases e), fun _ => by simp [eqT]⟩
 · obtain ⟨q1, x1, rfl, hq1, _⟩ := h.isL
   have e2 := h'.isI; subst e2
   exact ⟨false, zah _ _ w (by decide), fun e => (by cases e), fun _ => by simp [eqT]⟩
 · obtain ⟨q1, x1, rfl, hq1, _⟩ := h.isL
   have e2 := h'.isB; subst e2
   exact ⟨false, zah _ _ w (by decide), fun e => (by cases e), fun _ => by simp [eqT]⟩
 · obtain ⟨q1, x1, rfl, hq1, _⟩ := h.isL
   have e2 := h'.isV; subst e2
   exact ⟨false, zah _ _ w (by decide), fun e => (by cases e), fun _ => by simp [eqT]⟩
 · obtain ⟨q1, x1, rfl, hq1, _⟩ := h.isL
   obtain ⟨q2, x2, rfl, hq2, _⟩ := h'.isL
   obtain ⟨c1, T1, hw1⟩ := hV.there hq1 (ndL _ _)
   obtain ⟨c2, T2, hw2⟩ := hV.there hq2 (ndL _ _)
   obtain ⟨c, hc, hq⟩ := eql_ptr Tryz.underlying256 infoPL sizeL hw1 hw2
   exact ⟨c, hc, fun e => by rw [hq e], fun hl => by rcases hl with e | e | ⟨o, e⟩ <;> simp at e⟩
 · obtain ⟨q1, x1, rfl, hq1, _⟩ := h.isL
   obtain ⟨q2, x2, y2, rfl, hq2, _⟩ := h'.isP
   exact ⟨false, zah _ _ w (by decide), fun e => (by cases e), fun _ => by simp [eqT]⟩
 · obtain ⟨q1, x1, rfl, hq1, _⟩ := h.isL
   obtain ⟨q2, x2, y2, rfl, hq2, _⟩ := h'.isF
   exact ⟨false, zah _ _ w (by decide), fun e => (by cases e), fun _ => by simp [eqT]⟩
 · obtain ⟨q1, x1, y1, rfl, hq1, _⟩ := h.isP
   have e2 := h'.isI; subst e2
   exact ⟨false, zah _ _ w (by decide), fun e => (by cases e), fun _ => by simp [eqT]⟩
 · obtain ⟨q1, x1, y1, rfl, hq1, _⟩ := h.isP
   have e2 := h'.isB; subst e2
   exact ⟨false, zah _ _ w (by decide), fun e => (by cases e), fun _ => by simp [eqT]⟩
 · obtain ⟨q1, x1, y1, rfl, hq1, _⟩ := h.isP
   have e2 := h'.isV; subst e2
   exact ⟨false, zah _ _ w (by decide), fun e => (by cases e), fun _ => by simp [eqT]⟩
 · obtain ⟨q1, x1, y1, rfl, hq1, _⟩ := h.isP
   obtain ⟨q2, x2, rfl, hq2, _⟩ := h'.isL
   exact ⟨false, zah _ _ w (by decide), fun e => (by cases e), fun _ => by simp [eqT]⟩
 · obtain ⟨q1, x1, y1, rfl, hq1, _⟩ := h.isP
   obtain ⟨q2, x2, y2, rfl, hq2, _⟩ := h'.isP
   obtain ⟨c1, T1, hw1⟩ := hV.there hq1 (ndP _ _ _)
   obtain ⟨c2, T2, hw2⟩ := hV.there hq2 (ndP _ _ _)
   obtain ⟨c, hc, hq⟩ := eql_ptr Tryz.underlying259 infoPP sizeP hw1 hw2
   exact ⟨c, hc, fun e => by rw [hq e], fun hl => by rcases hl with e | e | ⟨o, e⟩ <;> simp at e⟩
 · obtain ⟨q1, x1, y1, rfl, hq1, _⟩ := h.isP
   obtain ⟨q2, x2, y2, rfl, hq2, _⟩ := h'.isF
   exact ⟨false, zah _ _ w (by decide), fun e => (by cases e), fun _ => by simp [eqT]⟩
 · obtain ⟨q1, x1, y1, rfl, hq1, _⟩ := h.isF
   have e2 := h'.isI; subst e2
   exact ⟨false, zah _ _ w (by decide), fun e => (by cases e), fun _ => by simp [eqT]⟩
 · obtain ⟨q1, x1, y1, rfl, hq1, _⟩ := h.isF
   have e2 := h'.isB; subst e2
   exact ⟨false, zah _ _ w (by decide), fun e => (by cases e), fun _ => by simp [eqT]⟩
 · obtain ⟨q1, x1, y1, rfl, hq1, _⟩ := h.isF
   have e2 := h'.isV; subst e2
   exact ⟨false, zah _ _ w (by decide), fun e => (by cases e), fun _ => by simp [eqT]⟩
 · obtain ⟨q1, x1, y1, rfl, hq1, _⟩ := h.isF
   obtain ⟨q2, x2, rfl, hq2, _⟩ := h'.isL
   exact ⟨false, zah _ _ w (by decide), fun e => (by cases e), fun _ => by simp [eqT]⟩
 · obtain ⟨q1, x1, y1, rfl, hq1, _⟩ := h.isF
   obtain ⟨q2, x2, y2, rfl, hq2, _⟩ := h'.isP
   exact ⟨false, zah _ _ w (by decide), fun e => (by cases e), fun _ => by simp [eqT]⟩
 · obtain ⟨q1, x1, y1, rfl, hq1, _⟩ := h.isF
   obtain ⟨q2, x2, y2, rfl, hq2, _⟩ := h'.isF
   obtain ⟨c1, T1, hw1⟩ := hV.there hq1 (ndF _ _ _)
   obtain ⟨c2, T2, hw2⟩ := hV.there hq2 (ndF _ _ _)
   obtain ⟨c, hc, hq⟩ := eql_ptr Tryz.underlying243 infoPF sizeF hw1 hw2
   exact ⟨c, hc, fun e => by rw [hq e], fun hl => by rcases hl with e | e | ⟨o, e⟩ <;> simp at e⟩
theorem zoc {T : TypeId} (x : Value) (w : World) : (binOp .eql 94 .nilIface (.iface T x)).run Tryz.prog w = .ok (.bool false) w :=
 run_eql_iface_nil_left (P := Tryz.prog) w T x Tryz.underlying94
def good (u : World) (L : Mks) : Prop := ∀ q k f, (q, k, f) ∈ L -> ∀ v t, NdV v q k -> Ok t -> Tv u t v -> Tv u t f
def zmq (x y : Ty) : Prop := ∀ (vb : Nat) (L : Mks) (u w : World) (v v' : Value), Tv u x v -> Tv u y v' -> Vs vb L u w -> good u L ->
 Calls Tryz.prog 199 #[.pointer (some ⟨vb, 0, none⟩), v, v'] w fun e w' => e = .returned (.bool (eqT x y)) /\ ∃ L', Vs vb L' u w' /\ good u L'
end Go.Proofs.YtceadeaodbadlaaGreatDoor
namespace Go.Proofs.YtceadeaodbadlaaGreatDoor
open Go.RowKit
theorem Vs.grow {vb : Nat} {L : Mks} {u w w' : World} (h : Vs vb L u w) (hb : Below w.heap.size w w') :
 ∃ u', Vs vb L u' w' /\ Below u.heap.size u u' /\ ∀ q, u.heap.size <= q -> u'.heap[q]? = w'.heap[q]? := by
 have hs := h.size
 have hs' := hb.size
 have hlo : ∀ q, q < u.heap.size -> (u.heap ++ w'.heap.extract u.heap.size w'.heap.size)[q]? = u.heap[q]? := fun q hq => by
  rw [Array.getElem?_append_left hq]
 have hhi : ∀ q, u.heap.size <= q -> (u.heap ++ w'.heap.extract u.heap.size w'.heap.size)[q]? = w'.heap[q]? := fun q hq => by
  rw [Array.getElem?_append_right hq, Array.getElem?_extract]
  by_cases e : q < w'.heap.size
  · rw [if_pos (by omega)]
    congr 1; omega
  · rw [if_neg (by omega), Array.getElem?_eq_none (by omega)]
 have hsz : (u.heap ++ w'.heap.extract u.heap.size w'.heap.size).size = w'.heap.size := by simp; omega
 refine ⟨{ w' with heap := u.heap ++ w'.heap.extract u.heap.size w'.heap.size }, ⟨rfl, rfl, rfl, hsz.symm, ?_, ?_, ?_, h.nodup⟩, ⟨?_, ?_, ?_, by show _ <= Array.size _; rw [hsz]; omega, fun k hk => hlo k hk⟩, hhi⟩
 · obtain ⟨T, r, x, hT, h1, h2⟩ := h.vis
   have hlt := (Array.getElem?_eq_some_iff.1 h1).1
   exact ⟨T, r, x, hT, (hlo vb hlt).trans h1, (hb.block vb (by omega)).trans h2⟩
 · intro q hq
   show w'.heap[q]? = zbe L q (u.heap ++ w'.heap.extract u.heap.size w'.heap.size)[q]?
   by_cases e : q < u.heap.size
   · rw [hlo q e, hb.block q (by omega)]; exact h.blk q hq
   · have hnot : q ∉ L.map (·.1) := by
      intro hm
      obtain ⟨m, hm', rfl⟩ := List.mem_map.1 hm
      obtain ⟨⟨o, ho, _⟩, _⟩ := h.nds m hm'
      exact e (Array.getElem?_eq_some_iff.1 ho).1
     rw [zck hnot, hhi q (by omega)]
 · intro m hm
   obtain ⟨⟨o, ho, hn⟩, hx⟩ := h.nds m hm
   exact ⟨⟨o, (hlo _ (Array.getElem?_eq_some_iff.1 ho).1).trans ho, hn⟩, hx⟩
 · exact hb.os.trans h.os
 · exact hb.tape.trans h.tape
 · exact hb.output.trans h.output
theorem zfv {v : Value} (lf : Leaf v) (w : World) : Calls Tryz.prog 193 #[v] w fun e w' => e = .returned (.int .i64 1) /\ w' = w := by
 have N := lf.nodeOf w
 obtain ⟨T, x, rfl⟩ := lf.iface
 go_enter Tryz.func193, Tryz.ntmps193
 go_wp2_with fail
 refine N.mono ?_
 rintro e w' ⟨rfl, rfl⟩
 go_wp2_with fail
 go_ret
 exact ⟨rfl, rfl⟩
theorem zjh {v : Value} {q k n : Nat} (nv : NdV v q k) (w : World) (hc : w.cell? ⟨q, k, none⟩ = some (.int .i64 (n : Int))) : Calls Tryz.prog 193 #[v] w fun e w' => e = .returned (.int .i64 (n : Int)) /\ w' = w := by
 have N := zdx nv w
 obtain ⟨T, x, rfl⟩ := nv.iface
 go_enter Tryz.func193, Tryz.ntmps193
 go_wp2_with fail
 refine N.mono ?_
 rintro e w' ⟨rfl, rfl⟩
 go_wp2_with fail
 go_ret
 exact ⟨rfl, rfl⟩
theorem nodes_vs {vb : Nat} {L : Mks} {u w : World} (h : Vs vb L u w) {t : Ty} (ht : Ok t) {v : Value} (hv : Tv u t v) : Calls Tryz.prog 193 #[v] w fun e w' => e = .returned (.int .i64 (sz t : Int)) /\ w' = w := by
 rcases ht.cases with rfl | rfl | ⟨o, _, _, rfl⟩ | ⟨a, _, rfl⟩ | ⟨a, b, _, _, rfl⟩ | ⟨a, b, _, _, rfl⟩
 · rw [hv.isI]; exact zfv (.inl rfl) w
 · rw [hv.isB]; exact zfv (.inr (.inl rfl)) w
 · rw [hv.isV]; exact zfv (.inr (.inr ⟨_, rfl⟩)) w
 · obtain ⟨q, x, rfl, hq, _⟩ := hv.isL
   exact zjh (.inl ⟨rfl, rfl⟩) w (h.part hq (ndL _ _) (Nat.le_refl _) rfl)
 · obtain ⟨q, x, y, rfl, hq, _⟩ := hv.isP
   exact zjh (.inr (.inl ⟨rfl, rfl⟩)) w (h.part hq (ndP _ _ _) (Nat.le_refl _) rfl)
 · obtain ⟨q, x, y, rfl, hq, _⟩ := hv.isF
   exact zjh (.inr (.inr ⟨rfl, rfl⟩)) w (h.part hq (ndF _ _ _) (Nat.le_refl _) rfl)
def Counts (x : Value) (n : Nat) (w : World) : Prop := ∀ w', Below w.heap.size w w' -> Calls Tryz.prog 193 #[x] w' fun e w'' => e = .returned (.int .i64 (n : Int)) /\ w'' = w'
theorem Vs.counts {vb : Nat} {L : Mks} {u w : World} (h : Vs vb L u w) {t : Ty} (ht : Ok t) {v : Value} (hv : Tv u t v) : Counts v (sz t) w := by
 intro w' hb
 obtain ⟨u', h', b', _⟩ := h.grow hb
 exact nodes_vs h' ht (hv.below b')
theorem Counts.below {x : Value} {n : Nat} {w w1 : World} (h : Counts x n w) (hb : Below w.heap.size w w1) : Counts x n w1 := fun w' hb' => h w' (hb.trans (hb'.mono hb.size))
theorem above_raw1 (T : TypeId) (x' : Value) (g n : Nat) (w : World) (hx : w.cell? ⟨g, 0, none⟩ = some (.iface T x')) (N0 : Counts (.iface T x') n w) (hs : n <= 4000000000000000000) :
 Calls Tryz.prog 194 #[.slice (some ⟨g, 0, none⟩) 1 1] w fun e w' => e = .returned (.agg #[.int .i64 ((n + 1 : Nat) : Int), .nilIface, .pointer none]) /\ Below w.heap.size w w' := by
 have hg := World.block_lt_of_cell? w _ hx
 have hn1 : ((n + 1 : Nat) : Int) = 1 + (n : Int) := by omega
 rw [hn1]
 have hx1 : (w.alloc (.cells #[.int .i64 0, .nilIface, .pointer none] 250)).cell? ⟨g, 0, none⟩ = some (.iface T x') := by rw [World.cell?_alloc_lt _ _ _ hg]; exact hx
 have N := N0 (w.alloc (.cells #[.int .i64 0, .nilIface, .pointer none] 250)) (bal w _)
 clear N0 hx
 go_enter Tryz.func194, Tryz.ntmps194
 go_wp2_with fail
 refine wp_loop_rounds 2 ?_
 rw [rounds_succ]
 go_wp2_with fail
 refine N.mono ?_
 rintro e w' ⟨rfl, rfl⟩
 go_wp2_with fail
 rw [rounds_succ]
 go_wp2_with fail
 refine zif rfl rfl (heap_alloc_new w _) ?_
 exact ⟨rfl, bal w _⟩
theorem zkx (T T' : TypeId) (x' y' : Value) (g n m : Nat) (w : World) (hx : w.cell? ⟨g, 0, none⟩ = some (.iface T x')) (hy : w.cell? ⟨g, 1, none⟩ = some (.iface T' y')) (N0 : Counts (.iface T x') n w) (M0 : Counts (.iface T' y') m w) (hs : n + m <= 4000000000000000000) :
 Calls Tryz.prog 194 #[.slice (some ⟨g, 0, none⟩) 2 2] w fun e w' => e = .returned (.agg #[.int .i64 ((n + m + 1 : Nat) : Int), .nilIface, .pointer none]) /\ Below w.heap.size w w' := by
 have hg := World.block_lt_of_cell? w _ hx
 have hn1 : ((n + m + 1 : Nat) : Int) = 1 + (n : Int) + (m : Int) := by omega
 rw [hn1]
 have hx1 : (w.alloc (.cells #[.int .i64 0, .nilIface, .pointer none] 250)).cell? ⟨g, 0, none⟩ = some (.iface T x') := by rw [World.cell?_alloc_lt _ _ _ hg]; exact hx
 have hy1 : (w.alloc (.cells #[.int .i64 0, .nilIface, .pointer none] 250)).cell? ⟨g, 1, none⟩ = some (.iface T' y') := by rw [World.cell?_alloc_lt _ _ ⟨g, 1, none⟩ hg]; exact hy
 have N := N0 (w.alloc (.cells #[.int .i64 0, .nilIface, .pointer none] 250)) (bal w _)
 have M := M0 (w.alloc (.cells #[.int .i64 0, .nilIface, .pointer none] 250)) (bal w _)
 clear N0 M0 hx hy
 go_enter Tryz.func194, Tryz.ntmps194
 go_wp2_with fail
 refine wp_loop_rounds 3 ?_
 rw [rounds_succ]
 go_wp2_with fail
 refine N.mono ?_
 rintro e w' ⟨rfl, rfl⟩
 go_wp2_with fail
 rw [rounds_succ]
 go_wp2_with fail
 refine M.mono ?_
 rintro e w' ⟨rfl, rfl⟩
 go_wp2_with fail
 rw [rounds_succ]
 go_wp2_with fail
 refine zif rfl rfl (heap_alloc_new w _) ?_
 exact ⟨rfl, bal w _⟩
theorem newList_raw (T : TypeId) (x' : Value) (n : Nat) (w : World) (N0 : Counts (.iface T x') n w) (hs : n <= 4000000000000000000) :
 Calls Tryz.prog 230 #[.iface T x'] w fun e w' => ∃ q, e = .returned (.pointer (some ⟨q, 0, none⟩)) /\ w.heap.size <= q /\ w'.heap[q]? = some (obL (n + 1) (.iface T x')) /\ Below w.heap.size w w' := by
 have b1 : Below w.heap.size w (w.alloc (.cells #[.iface T x'] 94)) := bal w _
 have A := above_raw1 T x' w.heap.size n _ (by simp) (N0.below b1) hs
 clear N0
 go_enter Tryz.func230, Tryz.ntmps230
 go_wp2_with fail
 refine A.mono ?_
 rintro e w1 ⟨rfl, hb⟩
 have b2 : Below w.heap.size w w1 := b1.trans (hb.mono (by simp))
 have N1 := heap_alloc_new w1 (obL (n + 1) (.iface T x'))
 go_wp2_with fail
 go_ret
 exact ⟨_, rfl, b2.size, N1, b2.alloc b2.size _⟩
theorem zph (T T' : TypeId) (x' y' : Value) (n m : Nat) (w : World) (N0 : Counts (.iface T x') n w) (M0 : Counts (.iface T' y') m w) (hs : n + m <= 4000000000000000000) :
 Calls Tryz.prog 209 #[.iface T x', .iface T' y'] w fun e w' => ∃ q, e = .returned (.pointer (some ⟨q, 0, none⟩)) /\ w.heap.size <= q /\ w'.heap[q]? = some (obP (n + m + 1) (.iface T x') (.iface T' y')) /\ Below w.heap.size w w' := by
 have b1 : Below w.heap.size w (w.alloc (.cells #[.iface T x', .iface T' y'] 94)) := bal w _
 have A := zkx T T' x' y' w.heap.size n m _ (by simp) (by simp) (N0.below b1) (M0.below b1) hs
 clear N0 M0
 go_enter Tryz.func209, Tryz.ntmps209
 go_wp2_with fail
 refine A.mono ?_
 rintro e w1 ⟨rfl, hb⟩
 have b2 : Below w.heap.size w w1 := b1.trans (hb.mono (by simp))
 have N1 := heap_alloc_new w1 (obP (n + m + 1) (.iface T x') (.iface T' y'))
 go_wp2_with fail
 go_ret
 exact ⟨_, rfl, b2.size, N1, b2.alloc b2.size _⟩
theorem zjf (T T' : TypeId) (x' y' : Value) (n m : Nat) (w : World) (N0 : Counts (.iface T x') n w) (M0 : Counts (.iface T' y') m w) (hs : n + m <= 4000000000000000000) :
 Calls Tryz.prog 160 #[.iface T x', .iface T' y'] w fun e w' => ∃ q, e = .returned (.pointer (some ⟨q, 0, none⟩)) /\ w.heap.size <= q /\ w'.heap[q]? = some (obF (n + m + 1) (.iface T x') (.iface T' y')) /\ Below w.heap.size w w' := by
 have b1 : Below w.heap.size w (w.alloc (.cells #[.iface T x', .iface T' y'] 94)) := bal w _
 have A := zkx T T' x' y' w.heap.size n m _ (by simp) (by simp) (N0.below b1) (M0.below b1) hs
 clear N0 M0
 go_enter Tryz.func160, Tryz.ntmps160
 go_wp2_with fail
 refine A.mono ?_
 rintro e w1 ⟨rfl, hb⟩
 have b2 : Below w.heap.size w w1 := b1.trans (hb.mono (by simp))
 have N1 := heap_alloc_new w1 (obF (n + m + 1) (.iface T x') (.iface T' y'))
 go_wp2_with fail
 go_ret
 exact ⟨_, rfl, b2.size, N1, b2.alloc b2.size _⟩
end Go.Proofs.YtceadeaodbadlaaGreatDoor
namespace Go.Proofs.YtceadeaodbadlaaGreatDoor
def putT (v : List Nat) (g : List Ty) (t : Ty) : Ty := sub (fun o => (look (v.zip g) o).getD (tV o)) t
def inT (o : Nat) : Ty -> Bool
 | .nil => false
 | .node g p _ a b => (g == 2 && p == o) || inT o a || inT o b
abbrev Sch : Type := Ty × List Nat
abbrev Env : Type := Nat -> Option Sch
def zbo (e : Env) (c : Nat) (s : Sch) : Env := fun d => if d = c then some s else e d
def zbm (e : Env) (o : Nat) : Bool := (List.range 26).any fun k => match e (97 + k) with
 | none => false
 | some (t, v) => inT o t && !v.contains o
def va : Ty := tV 970
def vb' : Ty := tV 980
def conS (c : Nat) : Sch :=
 if c = 78 then (tL va, [970])
 else if c = 67 then (tF va (tF (tL va) (tL va)), [970])
 else if c = 80 then (tF va (tF vb' (tP va vb')), [970, 980])
 else if c = 76 then (tF (tP va vb') va, [970, 980])
 else if c = 82 then (tF (tP va vb') vb', [970, 980])
 else if c = 74 then (tF tB (tF va (tF va va)), [970])
 else if c = 69 then (tF tI (tF tI tB), [])
 else if c = 65 then (tF tI (tF tI tI), [])
 else if c = 89 then (tF (tF va va) va, [970])
 else (tF (tF va (tF vb' vb')) (tF vb' (tF (tL va) vb')), [970, 980])
abbrev COut : Type := Except (Nat × Nat) Ty
def zap (s : Sch) (g : List Ty) (p : Nat) : COut :=
 if g.length ≠ s.2.length then .error (4, p)
 else if 50000 < sz (putT s.2 g s.1) then .error (8, p)
 else .ok (putT s.2 g s.1)
def zaz (e : Env) : List (Nat × Nat) -> List Nat -> Option Nat
 | [], _ => none
 | (o, p) :: r, l => if l.contains o || zbm e o then some p else zaz e r (l ++ [o])
def callT (f x : Ty) (p : Nat) : COut :=
 match f with
 | .node 5 _ _ a b => if eqT a x then .ok b else .error (5, p)
 | _ => .error (5, p)
def chk : Ex -> Env -> COut
 | .nil, _ => .ok tI
 | .node t _ x a b, e =>
  if t = 0 then
   match e x.c with
   | none => .error (3, x.p)
   | some s => zap s x.g x.p
  else if t = 1 then zap (conS x.c) x.g x.p
  else if t = 2 then .ok (if x.c = 84 \/ x.c = 70 then tB else tI)
  else if t = 3 then
   match chk a (zbo e x.c (x.g.headD tI, [])) with
   | .error r => .error r
   | .ok u => if 50000 < sz (tF (x.g.headD tI) u) then .error (8, x.p) else .ok (tF (x.g.headD tI) u)
  else if t = 4 then
   match zaz e x.v [] with
   | some p => .error (6, p)
   | none =>
    match chk a e with
    | .error r => .error r
    | .ok u => chk b (zbo e x.c (u, x.v.map (·.1)))
  else
   match chk a e with
   | .error r => .error r
   | .ok f =>
    match chk b e with
    | .error r => .error r
    | .ok y => callT f y x.p
def zaa : Ty -> List Nat -> List Nat
 | .nil, l => l
 | .node g o _ a b, l => if g = 2 then (if l.contains o then l else l ++ [o]) else zaa b (zaa a l)
def zaq (k : Nat) : Nat := 10 * (97 + k % 26) + k / 26
def zca (o : Nat) : List UInt8 := if o % 10 = 0 then [u8 (o / 10)] else [u8 (o / 10), u8 (48 + o % 10)]
def inBr (c : Bool) (f : List UInt8) : List UInt8 := if c then 40 :: (f ++ [41]) else f
def isFn : Ty -> Bool
 | .node g _ _ _ _ => g == 5
 | .nil => false
def isPr : Ty -> Bool
 | .node g _ _ _ _ => g == 4
 | .nil => false
def textT : Ty -> List UInt8
 | .nil => []
 | .node g o _ a b =>
  if g = 0 then [73] else if g = 1 then [66] else if g = 2 then zca o
  else if g = 3 then 91 :: (textT a ++ [93])
  else if g = 4 then inBr (isFn a) (textT a) ++ 42 :: inBr (isFn b || isPr b) (textT b)
  else inBr (isFn a) (textT a) ++ 62 :: textT b
def idxOf (o : Nat) : List Nat -> Nat
 | [] => 0
 | p :: l => if p = o then 0 else idxOf o l + 1
def formT (t : Ty) : List UInt8 := textT (sub (fun o => tV (zaq (idxOf o (zaa t [])))) t)
def zam (s : ByteArray) : ByteArray × Nat × Nat :=
 if 60000 < s.size then (⟨#[]⟩, 1, 0) else match zbn s true with
  | .error p => (⟨#[]⟩, 2, p)
  | .ok x => match chk x (fun _ => none) with
   | .error (c, p) => (⟨#[]⟩, c, p)
   | .ok t => (⟨(formT t).toArray⟩, 0, 0)
theorem sub_ok {θ : Nat -> Ty} : ∀ {t : Ty}, Ok t -> (∀ o, 970 <= o -> o < 1230 -> Ok (θ o)) -> Ok (sub θ t) := by
 intro t
 induction t with
 | nil => intro h; exact h.elim
 | node g o u a b iha ihb =>
  intro h hθ
  cases u
  rcases h with ⟨rfl, rfl, rfl, rfl⟩ | ⟨rfl, rfl, rfl, rfl⟩ | ⟨rfl, ho, rfl, rfl⟩ | ⟨rfl, rfl, ha, rfl⟩ | ⟨rfl, rfl, ha, hb⟩ | ⟨rfl, rfl, ha, hb⟩
  · exact okI
  · exact okB
  · exact hθ o ho.1 ho.2
  · exact okL (iha ha hθ)
  · exact okP (iha ha hθ) (ihb hb hθ)
  · exact okF (iha ha hθ) (ihb hb hθ)
theorem zlt {v : List Nat} {g : List Ty} {o : Nat} {t : Ty} (h : look (v.zip g) o = some t) : t ∈ g := by
 induction v generalizing g with
 | nil => simp [look] at h
 | cons p v ih =>
  cases g with
  | nil => simp [look] at h
  | cons u g =>
   simp only [List.zip_cons_cons, look] at h
   split at h
   · cases h; exact List.mem_cons_self
   · exact List.mem_cons_of_mem _ (ih h)
theorem zqc {v : List Nat} {g : List Ty} {t : Ty} {m : Nat} (ht : Ok t) (hg : GOk m g) : Ok (putT v g t) := by
 refine sub_ok ht fun o h1 h2 => ?_
 cases h : look (v.zip g) o with
 | none => exact okV h1 h2
 | some u => exact (hg u (zlt h)).1
theorem sub_size {θ : Nat -> Ty} {m : Nat} (hm : 1 <= m) : ∀ {t : Ty}, Ok t -> (∀ o, sz (θ o) <= m) -> sz (sub θ t) <= m * sz t := by
 intro t
 induction t with
 | nil => intro h; exact h.elim
 | node g o u a b iha ihb =>
  intro h hθ
  cases u
  rcases h with ⟨rfl, rfl, rfl, rfl⟩ | ⟨rfl, rfl, rfl, rfl⟩ | ⟨rfl, ho, rfl, rfl⟩ | ⟨rfl, rfl, ha, rfl⟩ | ⟨rfl, rfl, ha, hb⟩ | ⟨rfl, rfl, ha, hb⟩
  · simp [sub, sz]; omega
  · simp [sub, sz]; omega
  · have := hθ o; simp [sub, sz]; omega
  · have := iha ha hθ
    simp only [sub, sz] at *
    simp only [Nat.mul_add]
    have e : (if 3 = 2 then θ 0 else Go.Deep.BT.node 3 0 () (sub θ a) .nil) = tL (sub θ a) := rfl
    show sz (tL (sub θ a)) <= _
    simp only [sz]; omega
  · have h1 := iha ha hθ
    have h2 := ihb hb hθ
    show sz (tP (sub θ a) (sub θ b)) <= _
    simp only [sz, Nat.mul_add] at *
    omega
  · have h1 := iha ha hθ
    have h2 := ihb hb hθ
    show sz (tF (sub θ a) (sub θ b)) <= _
    simp only [sz, Nat.mul_add] at *
    omega
theorem putT_size {v : List Nat} {g : List Ty} {t : Ty} {m : Nat} (hm : 1 <= m) (ht : Ok t) (hg : GOk m g) : sz (putT v g t) <= m * sz t := by
 refine sub_size hm ht fun o => ?_
 cases h : look (v.zip g) o with
 | none => simpa [sz] using hm
 | some u => exact (hg u (zlt h)).2
theorem conS_ok (c : Nat) : Ok (conS c).1 /\ sz (conS c).1 <= 20 := by
 have a : Ok va := okV (by decide) (by decide)
 have b : Ok vb' := okV (by decide) (by decide)
 unfold conS
 repeat' split
 · exact ⟨okL a, by decide⟩
 · exact ⟨okF a (okF (okL a) (okL a)), by decide⟩
 · exact ⟨okF a (okF b (okP a b)), by decide⟩
 · exact ⟨okF (okP a b) a, by decide⟩
 · exact ⟨okF (okP a b) b, by decide⟩
 · exact ⟨okF okB (okF a (okF a a)), by decide⟩
 · exact ⟨okF okI (okF okI okB), by decide⟩
 · exact ⟨okF okI (okF okI okI), by decide⟩
 · exact ⟨okF (okF a a) a, by decide⟩
 · exact ⟨okF (okF a (okF b b)) (okF b (okF (okL a) b)), by decide⟩
def EnvOk (m : Nat) (e : Env) : Prop := ∀ c s, e c = some s -> Ok s.1 /\ sz s.1 <= m
theorem EnvOk.none (m : Nat) : EnvOk m (fun _ => none) := fun c s h => by cases h
theorem EnvOk.set {m : Nat} {e : Env} {c : Nat} {s : Sch} (h : EnvOk m e) (h1 : Ok s.1) (h2 : sz s.1 <= m) : EnvOk m (zbo e c s) := by
 intro d s' hd
 unfold zbo at hd
 split at hd
 · cases hd; exact ⟨h1, h2⟩
 · exact h d s' hd
theorem znt {s : Sch} {g : List Ty} {p m : Nat} {t : Ty} (h : zap s g p = .ok t) (hs : Ok s.1) (hg : GOk m g) : Ok t /\ sz t <= 50000 := by
 unfold zap at h
 split at h
 · cases h
 · split at h
   · cases h
   · rename_i h2
     cases h
     exact ⟨zqc hs hg, by omega⟩
theorem callT_ok {f x t : Ty} {p : Nat} (h : callT f x p = .ok t) (hf : Ok f) : Ok t /\ sz t <= sz f /\ ∃ a, Ok a /\ f = tF a t /\ a = x := by
 rcases hf.cases with rfl | rfl | ⟨o, _, _, rfl⟩ | ⟨a, ha, rfl⟩ | ⟨a, b, ha, hb, rfl⟩ | ⟨a, b, ha, hb, rfl⟩ <;> simp only [callT] at h
 · cases h
 · cases h
 · cases h
 · cases h
 · cases h
 · split at h
   · rename_i e
     cases h
     exact ⟨hb, by simp [sz]; omega, a, ha, rfl, (zcx _ _).1 e⟩
   · cases h
theorem zfl {m : Nat} (hm : m <= 60000) : ∀ (x : Ex) (e : Env) (t : Ty), EOk true m x -> EnvOk 60000 e -> chk x e = .ok t -> Ok t /\ sz t <= 50000 := by
 intro x
 induction x with
 | nil => intro e t h; exact h.elim
 | node k o x a b iha ihb =>
  intro e t ho he h
  rcases ho with ⟨rfl, hc, hg, _⟩ | ⟨rfl, hc, hg, _⟩ | ⟨rfl, hc, _⟩ | ⟨rfl, hc, hg, hu, ha, _⟩ | ⟨rfl, hc, hv, ha, hb⟩ | ⟨rfl, ha, hb⟩
  · simp only [chk, if_true] at h
    split at h
    · cases h
    · rename_i s hs
      exact znt h (he _ _ hs).1 hg
  · simp only [chk] at h
    exact znt (by simpa using h) (conS_ok _).1 hg
  · simp [chk] at h
    subst h
    split
    · exact ⟨okB, by decide⟩
    · exact ⟨okI, by decide⟩
  · obtain ⟨u, hu⟩ := hu rfl
    have hgu := hg u (by rw [hu]; exact List.mem_singleton.2 rfl)
    simp [chk, hu] at h
    split at h
    · cases h
    · rename_i u' hq
      have i1 := iha _ _ ha (he.set (s := (u, [])) hgu.1 (by have := hgu.2; show sz u <= 60000; omega)) hq
      split at h
      · cases h
      · cases h
        exact ⟨okF hgu.1 i1.1, by omega⟩
  · simp [chk] at h
    split at h
    · cases h
    · split at h
      · cases h
      · rename_i u hq
        have i1 := iha _ _ ha he hq
        exact ihb _ _ hb (he.set (s := (u, _)) i1.1 (by show sz u <= 60000; omega)) h
  · simp [chk] at h
    split at h
    · cases h
    · rename_i f hq
      split at h
      · cases h
      · have i1 := iha _ _ ha he hq
        have := callT_ok h i1.1
        exact ⟨this.1, by omega⟩
end Go.Proofs.YtceadeaodbadlaaGreatDoor
namespace Go.Proofs.YtceadeaodbadlaaGreatDoor
open Go.RowKit
theorem zot : ∀ (t : Ty) (l : List Nat) (o : Nat), o ∈ l -> o ∈ zaa t l := by
 intro t
 induction t with
 | nil => intro l o h; simpa [zaa] using h
 | node g p u a b iha ihb =>
  intro l o h
  simp only [zaa]
  split
  · split
    · exact h
    · exact List.mem_append_left _ h
  · exact ihb _ _ (iha _ _ h)
theorem zgc : ∀ {t : Ty}, Ok t -> ∀ l : List Nat, (∀ o ∈ l, 970 <= o /\ o < 970 + 260) -> ∀ o ∈ zaa t l, 970 <= o /\ o < 970 + 260 := by
 intro t
 induction t with
 | nil => intro h; exact h.elim
 | node g p u a b iha ihb =>
  intro h l hl
  cases u
  rcases h with ⟨rfl, rfl, rfl, rfl⟩ | ⟨rfl, rfl, rfl, rfl⟩ | ⟨rfl, hp, rfl, rfl⟩ | ⟨rfl, rfl, ha, rfl⟩ | ⟨rfl, rfl, ha, hb⟩ | ⟨rfl, rfl, ha, hb⟩
  · simpa [zaa] using hl
  · simpa [zaa] using hl
  · intro o ho
    simp only [zaa, if_pos] at ho
    split at ho
    · exact hl o ho
    · rcases List.mem_append.1 ho with ho | ho
      · exact hl o ho
      · simp at ho; omega
  · have := iha ha l hl
    simpa [zaa] using this
  · have := ihb hb _ (iha ha l hl)
    simpa [zaa] using this
  · have := ihb hb _ (iha ha l hl)
    simpa [zaa] using this
theorem zls : ∀ (t : Ty) (l : List Nat), l.Nodup -> (zaa t l).Nodup := by
 intro t
 induction t with
 | nil => intro l h; simpa [zaa] using h
 | node g p u a b iha ihb =>
  intro l h
  simp only [zaa]
  split
  · split
    · exact h
    · rename_i hc
      rw [List.contains_iff_mem] at hc
      rw [List.nodup_append]
      refine ⟨h, by simp, ?_⟩
      intro x hx y hy e
      simp at hy
      exact hc (by rw [<- hy, <- e]; exact hx)
  · exact ihb _ (iha _ h)
theorem zjd : ∀ (n : Nat) (l : List Nat), l.Nodup -> (∀ x ∈ l, 970 <= x /\ x < 970 + n) -> l.length <= n := by
 intro n
 induction n with
 | zero =>
  intro l _ h
  cases l with
  | nil => simp
  | cons x l => have := h x (by simp); omega
 | succ n ih =>
  intro l hd h
  by_cases hm : 970 + n ∈ l
  · have h1 := ih (l.erase (970 + n)) (hd.erase _) (fun x hx => by
     rw [hd.mem_erase_iff] at hx
     have := h x hx.2
     omega)
    rw [List.length_erase_of_mem hm] at h1
    omega
  · have := ih l hd (fun x hx => by
     have h2 := h x hx
     have h3 : x ≠ 970 + n := fun e => hm (e ▸ hx)
     omega)
    omega
theorem leaves_len {t : Ty} (h : Ok t) : (zaa t []).length <= 260 := zjd 260 _ (zls t [] (by simp)) (zgc h [] (by simp))
theorem leaves_low {t : Ty} (h : Ok t) : ∀ o ∈ zaa t [], 970 <= o := fun o ho => (zgc h [] (by simp) o ho).1
theorem nameNo_ok {k : Nat} (h : k < 260) : 970 <= zaq k /\ zaq k < 1230 := by unfold zaq; omega
theorem zmj : ∀ (v : List Nat) (o : Nat), o ∈ v -> v[idxOf o v]? = some o /\ ∀ (m p : Nat), m < idxOf o v -> v[m]? = some p -> o ≠ p := by
 intro v
 induction v with
 | nil => intro o h; simp at h
 | cons p v ih =>
  intro o h
  simp only [idxOf]
  by_cases hp : p = o
  · rw [if_pos hp]
    exact ⟨by simp [hp], fun m _ hm => by omega⟩
  · rw [if_neg hp]
    have h1 := ih o (by rcases List.mem_cons.1 h with h | h; exact absurd h.symm hp; exact h)
    refine ⟨by simpa using h1.1, ?_⟩
    intro m q hm hq
    cases m with
    | zero => simp at hq; intro e; exact hp (hq.trans e.symm)
    | succ m => exact h1.2 m q (by omega) (by simpa using hq)
theorem zkw {θ θ' : Nat -> Ty} {v : List Nat} (hv : ∀ o ∈ v, θ o = θ' o) : ∀ (t : Ty) (l : List Nat), (∀ o ∈ zaa t l, o ∈ v) -> sub θ t = sub θ' t := by
 intro t
 induction t with
 | nil => intro l _; rfl
 | node g p u a b iha ihb =>
  intro l h
  simp only [sub]
  simp only [zaa] at h
  split
  · rename_i hg
    rw [if_pos hg] at h
    refine hv p (h p ?_)
    split
    · rename_i hc; rwa [List.contains_iff_mem] at hc
    · simp
  · rename_i hg
    rw [if_neg hg] at h
    rw [iha l (fun o ho => h o (zot _ _ _ ho)), ihb _ h]
def VarRow (w : World) (V : Value) (vars : List Nat) : Prop := ∃ sa cap, V = .slice sa vars.length cap /\ (vars = [] \/ ∃ g c, sa = some ⟨g, 0, none⟩ /\ w.heap[g]? = some (.cells c 263 (0, 0)) /\
 ∀ j o, vars[j]? = some o -> c[j * 2]? = some (.int .u8 ((o / 10 : Nat) : Int)) /\ c[j * 2 + 1]? = some (.int .u8 ((o % 10 : Nat) : Int)))
def TypRow (w : World) (V : Value) (ts : List Ty) : Prop := ∃ sa cap, V = .slice sa ts.length cap /\ (ts = [] \/ ∃ g c, sa = some ⟨g, 0, none⟩ /\ w.heap[g]? = some (.cells c 94 (0, 0)) /\
 ∀ (j : Nat) (t : Ty), ts[j]? = some t -> ∃ x, c[j]? = some x /\ Ok t /\ Tv w t x)
theorem VarRow.of {w w' : World} {V : Value} {vars : List Nat} (h : VarRow w V vars) (hk : ∀ (g : Nat) (c : Array Value), w.heap[g]? = some (Obj.cells c 263 (0, 0)) -> w'.heap[g]? = some (Obj.cells c 263 (0, 0))) : VarRow w' V vars := by
 obtain ⟨sa, cap, rfl, h⟩ := h
 refine ⟨sa, cap, rfl, ?_⟩
 rcases h with h | ⟨g, c, rfl, hg, hc⟩
 · exact .inl h
 · exact .inr ⟨g, c, rfl, hk g c hg, hc⟩
theorem VarRow.below {w w' : World} {V : Value} {vars : List Nat} (h : VarRow w V vars) (hb : Below w.heap.size w w') : VarRow w' V vars :=
 h.of fun g c hg => (hb.block g (Array.getElem?_eq_some_iff.1 hg).1).trans hg
theorem TypRow.below {w w' : World} {V : Value} {ts : List Ty} (h : TypRow w V ts) (hb : Below w.heap.size w w') : TypRow w' V ts := by
 obtain ⟨sa, cap, rfl, h⟩ := h
 refine ⟨sa, cap, rfl, ?_⟩
 rcases h with h | ⟨g, c, rfl, hg, hc⟩
 · exact .inl h
 · refine .inr ⟨g, c, rfl, (hb.block g (Array.getElem?_eq_some_iff.1 hg).1).trans hg, fun j t ht => ?_⟩
   obtain ⟨x, h1, h2, h3⟩ := hc j t ht
   exact ⟨x, h1, h2, h3.below hb⟩
theorem Vs.other {vb : Nat} {L : Mks} {u w : World} (h : Vs vb L u w) {g : Nat} {c : Array Value} {T : TypeId} {fz : Nat × Nat} (hg : u.heap[g]? = some (.cells c T fz)) (hT : VisT T) (hne : g ≠ vb) : w.heap[g]? = some (.cells c T fz) := by
 rw [h.blk g hne, zck ?_]
 · exact hg
 · intro hm
   obtain ⟨m, hm', rfl⟩ := List.mem_map.1 hm
   obtain ⟨⟨o, ho, hn⟩, _⟩ := h.nds m hm'
   obtain ⟨c', T', rfl, hT', _⟩ := hn.cells
   rw [hg] at ho
   simp at ho
   exact hT' (ho.2.1 ▸ hT)
theorem eql_kv (o o' : Nat) (w : World) : (binOp .eql 263 (kv o) (kv o')).run Tryz.prog w = .ok (.bool (decide (o = o'))) w := by
 simp only [binOp]
 have e : (((o / 10 : Nat) : Int) == ((o' / 10 : Nat) : Int) && ((o % 10 : Nat) : Int) == ((o' % 10 : Nat) : Int)) = decide (o = o') := by
  rw [Bool.eq_iff_iff]; simp; omega
 have h := kv_eqIn 9997 ((o / 10 : Nat) : Int) ((o % 10 : Nat) : Int) ((o' / 10 : Nat) : Int) ((o' % 10 : Nat) : Int) w
 rw [e] at h
 have h' : (Op.equal 263 (kv o) (kv o')).run Tryz.prog w = .ok (decide (o = o')) w := h
 simp [h']
def idxI (o : Nat) (vars : List Nat) : Int := if o ∈ vars then (idxOf o vars : Int) else -1
theorem idx_first {o : Nat} : ∀ {vars : List Nat} {k : Nat}, vars[k]? = some o -> (∀ (j x : Nat), j < k -> vars[j]? = some x -> o ≠ x) -> idxOf o vars = k := by
 intro vars
 induction vars with
 | nil => intro k h; simp at h
 | cons p vars ih =>
  intro k h hn
  cases k with
  | zero => simp at h; simp [idxOf, h]
  | succ k =>
   have hp : p ≠ o := fun e => hn 0 p (by omega) (by simp) e.symm
   rw [idxOf, if_neg hp, ih (by simpa using h) (fun j x hj hx => hn (j + 1) x (by omega) (by simpa using hx))]
theorem znl (V : Value) (vars : List Nat) (o : Nat) (w : World) (h : VarRow w V vars) (hl : vars.length <= 1000000) :
 Calls Tryz.prog 244 #[V, kv o] w fun e w' => e = .returned (.int .i64 (idxI o vars)) /\ Below w.heap.size w w' := by
 obtain ⟨sa, cap, rfl, h⟩ := h
 have HV : Hid (∀ j p, vars[j]? = some p -> ∃ g, sa = some ⟨g, 0, none⟩ /\ w.cell? ⟨g, j * 2, none⟩ = some (.int .u8 ((p / 10 : Nat) : Int)) /\ w.cell? ⟨g, j * 2 + 1, none⟩ = some (.int .u8 ((p % 10 : Nat) : Int)) /\ g < w.heap.size) := by
  intro j p hp
  rcases h with rfl | ⟨g, c, rfl, hg, hc⟩
  · simp at hp
  · obtain ⟨h1, h2⟩ := hc j p hp
    exact ⟨g, rfl, by rw [Lib.cell_of_heap hg]; exact h1, by rw [Lib.cell_of_heap hg]; exact h2, (Array.getElem?_eq_some_iff.1 hg).1⟩
 clear h
 have HI : Hid (∀ k, vars[k]? = some o -> (∀ (j x : Nat), j < k -> vars[j]? = some x -> o ≠ x) -> idxI o vars = (k : Int)) := fun k h1 h2 => by
  unfold idxI
  rw [if_pos (List.mem_of_getElem? h1), idx_first h1 h2]
 have HZ : Hid ((∀ (j x : Nat), vars[j]? = some x -> o ≠ x) -> idxI o vars = -1) := fun h => by
  unfold idxI
  rw [if_neg]
  intro hm
  obtain ⟨j, hj⟩ := List.getElem?_of_mem hm
  exact h j o hj rfl
 have HE : Hid (∀ p wq, (binOp .eql 263 (kv o) (kv p)).run Tryz.prog wq = .ok (.bool (decide (o = p))) wq) := fun p wq => eql_kv o p wq
 generalize idxI o vars = r at *
 have HN : Hid (∃ n, vars.length = n) := ⟨_, rfl⟩
 obtain ⟨n, hn⟩ := HN.out
 have HL : Hid (vars.length = n) := hn
 rw [hn] at hl ⊢
 clear hn HN
 have d0 : (w.alloc (.cells #[.int .u8 ((o / 10 : Nat) : Int), .int .u8 ((o % 10 : Nat) : Int)] 263)).cell? ⟨w.heap.size, 0, none⟩ = some (.int .u8 ((o / 10 : Nat) : Int)) := by simp
 have d1 : (w.alloc (.cells #[.int .u8 ((o / 10 : Nat) : Int), .int .u8 ((o % 10 : Nat) : Int)] 263)).cell? ⟨w.heap.size, 1, none⟩ = some (.int .u8 ((o % 10 : Nat) : Int)) := by simp
 have B0 : Below w.heap.size w (w.alloc (.cells #[.int .u8 ((o / 10 : Nat) : Int), .int .u8 ((o % 10 : Nat) : Int)] 263)) := bal w _
 unfold kv at *
 generalize ((o / 10 : Nat) : Int) = x at *
 generalize ((o % 10 : Nat) : Int) = y at *
 have HC : Hid (∀ g i v, g < w.heap.size -> w.cell? ⟨g, i, none⟩ = some v -> (w.alloc (.cells #[.int .u8 x, .int .u8 y] 263)).cell? ⟨g, i, none⟩ = some v) := fun g i v hg hc => by
  rw [World.cell?_alloc_lt _ _ ⟨g, i, none⟩ hg]; exact hc
 go_enter Tryz.func244, Tryz.ntmps244
 go_wp2_with fail
 generalize hW : w.alloc (.cells #[.int .u8 x, .int .u8 y] 263) = W at *
 go_loopw [8] (fun i wr => ∃ k d : Nat, i = .int .i64 (k : Int) /\ k <= n /\ Hid (∀ (j p : Nat), j < k -> vars[j]? = some p -> o ≠ p) /\ wr = W.drewN d) (fun i _ => n - (intOf i).toNat)
 case atStart => exact ⟨0, 0, rfl, Nat.zero_le _, fun j p hj => by omega, rfl⟩
 case round =>
  obtain ⟨k, d, rfl, hkn, HU, hwr⟩ := hrel
  subst hwr
  by_cases hk : k = n
  · have HR : Hid (r = -1) := HZ.out fun j p hj => HU.out j p (by have := (List.getElem?_eq_some_iff.1 hj).1; have := HL.out; omega) hj
    subst hk
    go_wp2_with fail
    go_ret
    exact ⟨by rw [HR.out]; rfl, below_drewN B0 d⟩
  · have hk' : k < n := by omega
    clear hk
    obtain ⟨p, hp⟩ : ∃ p, vars[k]? = some p := ⟨_, List.getElem?_eq_getElem (by rw [HL.out]; omega)⟩
    obtain ⟨g, hsa, c0, c1, hg⟩ := HV.out k p hp
    subst hsa
    have e0 := HC.out g (k * 2) _ hg c0
    have e1 := HC.out g (k * 2 + 1) _ hg c1
    have EQ := HE.out p
    have HP : Hid (vars[k]? = some p) := hp
    clear c0 c1 hp
    by_cases hop : o = p
    · rw [decide_eq_true hop] at EQ
      have HR : Hid (r = (k : Int)) := HI.out k (by rw [HP.out, hop]) HU.out
      clear hop
      generalize ((p / 10 : Nat) : Int) = px at *
      generalize ((p % 10 : Nat) : Int) = py at *
      go_wp2_with fail
      go_quiet (fail)
      go_wp2_with fail
      go_ret
      exact ⟨by rw [HR.out]; rfl, below_drewN (below_drewN B0 d) _⟩
    · rw [decide_eq_false hop] at EQ
      have HM : Hid (∀ (j p : Nat), j < k + 1 -> vars[j]? = some p -> o ≠ p) := by
       intro j p' hj hp'
       rcases Nat.lt_or_ge j k with h | h
       · exact HU.out j p' h hp'
       · obtain rfl : j = k := by omega
         rw [HP.out] at hp'
         obtain rfl := Option.some.inj hp'
         exact hop
      clear hop
      generalize ((p / 10 : Nat) : Int) = px at *
      generalize ((p % 10 : Nat) : Int) = py at *
      go_wp2_with fail
      go_quiet (fail)
      go_wp2_with fail
      go_roundw
      case rel => exact ⟨k + 1, _, by simp, by omega, HM, rfl⟩
      case measure => simp [intOf]; omega
theorem zgv {d : Nat} (hd : d < 10) : 2 ^ d < 1024 := Nat.lt_of_lt_of_le (Nat.pow_lt_pow_right (by decide) hd) (by decide)
def Bits (g : Nat) (m : Nat -> Nat) (w : World) : Prop := (∃ c, w.heap[g]? = some (.cells c 304 (0, 0)) /\ c.size = 26 /\ ∀ k, k < 26 -> c[k]? = some (.int .u16 (m k : Int))) /\ ∀ k, m k < 1024
def hasB (m : Nat -> Nat) (o : Nat) : Bool := (m (o / 10 - 97)).testBit (o % 10)
def addB (m : Nat -> Nat) (o : Nat) : Nat -> Nat := fun k => if k = o / 10 - 97 then m k ||| 2 ^ (o % 10) else m k
def remB (m : Nat -> Nat) (o : Nat) : Nat -> Nat := fun k => if k = o / 10 - 97 then m k &&& (65535 - 2 ^ (o % 10)) else m k
theorem zme {m : Nat -> Nat} {o p : Nat} (ho : 970 <= o) (hp : 970 <= p) : hasB (addB m o) p = (hasB m p || decide (p = o)) := by
 unfold hasB addB
 by_cases h : p / 10 - 97 = o / 10 - 97
 · rw [if_pos h, Nat.testBit_or, h, Nat.testBit_two_pow]
   congr 1
   rw [Bool.eq_iff_iff]; simp; omega
 · rw [if_neg h]
   have : p ≠ o := by omega
   simp [this]
theorem addB_lt {m : Nat -> Nat} (h : ∀ k, m k < 1024) (o : Nat) : ∀ k, addB m o k < 1024 := by
 intro k
 unfold addB
 split
 · exact Nat.or_lt_two_pow (n := 10) (h k) (zgv (by omega))
 · exact h k
theorem remB_lt {m : Nat -> Nat} (h : ∀ k, m k < 1024) (o : Nat) : ∀ k, remB m o k < 1024 := by
 intro k
 unfold remB
 split
 · exact Nat.lt_of_le_of_lt Nat.and_le_left (h k)
 · exact h k
theorem hasB_rem {m : Nat -> Nat} {o p : Nat} (ho : 970 <= o) (hp : 970 <= p) : hasB (remB m o) p = (hasB m p && !decide (p = o)) := by
 unfold hasB remB
 by_cases h : p / 10 - 97 = o / 10 - 97
 · rw [if_pos h, Nat.testBit_and, h]
   congr 1
   have e : (65535 - 2 ^ (o % 10)).testBit (p % 10) = !decide (p % 10 = o % 10) := by
    have h1 : o % 10 < 10 := by omega
    have h2 : p % 10 < 10 := by omega
    generalize o % 10 = d at *
    generalize p % 10 = e at *
    have : ∀ d e : Fin 10, (65535 - 2 ^ d.val).testBit e.val = !decide (e.val = d.val) := by decide
    exact this ⟨d, h1⟩ ⟨e, h2⟩
   rw [e]
   congr 1
   rw [Bool.eq_iff_iff]; simp; omega
 · rw [if_neg h]
   have : p ≠ o := by omega
   simp [this]
theorem has_core (g : Nat) (m : Nat -> Nat) (k d : Nat) (w : World) (h : Bits g m w) (hk : k < 26) (hd : d < 10) :
 Calls Tryz.prog 195 #[.pointer (some ⟨g, 0, none⟩), .agg #[.int .u8 ((k : Int) + 97), .int .u8 (d : Int)]] w fun e w' => e = .returned (.bool (decide (m k / 2 ^ d % 2 = 1))) /\ Below w.heap.size w w' := by
 obtain ⟨⟨c, hg, hc, hm⟩, hm2⟩ := h
 have hlt := (Array.getElem?_eq_some_iff.1 hg).1
 have B0 : Below w.heap.size w (w.alloc (.cells #[.int .u8 ((k : Int) + 97), .int .u8 (d : Int)] 263)) := bal w _
 have d0 : (w.alloc (.cells #[.int .u8 ((k : Int) + 97), .int .u8 (d : Int)] 263)).cell? ⟨w.heap.size, 0, none⟩ = some (.int .u8 ((k : Int) + 97)) := by simp
 have d1 : (w.alloc (.cells #[.int .u8 ((k : Int) + 97), .int .u8 (d : Int)] 263)).cell? ⟨w.heap.size, 1, none⟩ = some (.int .u8 (d : Int)) := by simp
 have e1 : (w.alloc (.cells #[.int .u8 ((k : Int) + 97), .int .u8 (d : Int)] 263)).cell? ⟨g, k, none⟩ = some (.int .u16 (m k : Int)) := by rw [World.cell?_alloc_lt _ _ ⟨g, _, none⟩ hlt, Lib.cell_of_heap hg]; exact hm _ hk
 have hmm := hm2 k
 generalize m k = mk at *
 have hw : IntKind.u8.wrap (k : Int) = (k : Int) := by rw [IntKind.wrap_u8]; omega
 have hw2 : IntKind.u8.wrap ((k : Int) + 97 - 97) = (k : Int) := by rw [IntKind.wrap_u8]; omega
 have hk26i : (k : Int) < 26 := by omega
 have A1 : (mk : Int) / 2 ^ d = ((mk / 2 ^ d : Nat) : Int) := by simp
 have A2 : bits .and .u16 ((mk / 2 ^ d : Nat) : Int) 1 = ((mk / 2 ^ d % 2 : Nat) : Int) := by
  have h := u16_and_nat (mk / 2 ^ d) 1 (Nat.lt_of_le_of_lt (Nat.div_le_self _ _) (by omega)) (by decide)
  rw [Nat.and_one_is_mod] at h
  exact h
 generalize mk / 2 ^ d = q at *
 have hq2 : q % 2 < 2 := Nat.mod_lt _ (by decide)
 generalize q % 2 = q2 at *
 have hdec : decide (q2 = 1) = ((q2 : Int) == 1) := by rw [Bool.eq_iff_iff]; simp; omega
 rw [hdec]
 clear hg hc hm hm2 hdec
 go_enter Tryz.func195, Tryz.ntmps195
 go_wp2_with fail
 refine wp_region_held_drew (S := (fun wq => wq.cell? ⟨g, k, none⟩ = some (.int .u16 (mk : Int)) /\ wq.cell? ⟨w.heap.size, 0, none⟩ = some (.int .u8 ((k : Int) + 97)) /\ wq.cell? ⟨w.heap.size, 1, none⟩ = some (.int .u8 (d : Int)))) (by kernel_rfl) (⟨e1, d0, d1⟩) (fun hS => ?_)
 refine tkS 0 (.pointer (some ⟨g, 0, none⟩)) hS ?_
 refine tkS 1 (.pointer (some ⟨w.heap.size, 0, none⟩)) hS ?_
 refine tkL 2 (.int .u8 ((k : Int) + 97)) hS ?_
 refine tkS 3 (.int .u8 (k : Int)) hS ?_
 refine tkS 4 (.pointer (some ⟨g, 0, none⟩)) hS ?_
 refine tkS 5 (.pointer (some ⟨g, k, none⟩)) hS ?_
 refine tkL 6 (.int .u16 (mk : Int)) hS ?_
 refine tkS 7 (.pointer (some ⟨w.heap.size, 1, none⟩)) hS ?_
 refine tkL 8 (.int .u8 (d : Int)) hS ?_
 refine tkS 9 (.int .u16 (q : Int)) hS ?_
 refine tkS 10 (.int .u16 (q2 : Int)) hS ?_
 refine tkS 11 (.bool ((q2 : Int) == 1)) hS ?_
 refine tkS 12 (.bool ((q2 : Int) == 1)) hS ?_
 refine wpAnyH_done (by kernel_rfl) ?_ _
 go_wp2_with fail
 go_ret
 exact ⟨rfl, B0.drew⟩
theorem zms {o : Nat} (ho : 970 <= o /\ o < 1230) : ∃ k d, k < 26 /\ d < 10 /\ o / 10 - 97 = k /\ o % 10 = d /\ kv o = .agg #[.int .u8 ((k : Int) + 97), .int .u8 (d : Int)] := by
 refine ⟨o / 10 - 97, o % 10, by omega, by omega, rfl, rfl, ?_⟩
 unfold kv
 have : ((o / 10 : Nat) : Int) = ((o / 10 - 97 : Nat) : Int) + 97 := by omega
 rw [this]
theorem vhas_any (g : Nat) (m : Nat -> Nat) (o : Nat) (w : World) (h : Bits g m w) (ho : 970 <= o /\ o < 1230) :
 Calls Tryz.prog 195 #[.pointer (some ⟨g, 0, none⟩), kv o] w fun e w' => e = .returned (.bool (hasB m o)) /\ Below w.heap.size w w' := by
 obtain ⟨k, d, hk, hd, e1, e2, e3⟩ := zms ho
 have e4 : hasB m o = decide (m k / 2 ^ d % 2 = 1) := by unfold hasB; rw [e1, e2, Nat.testBit_eq_decide_div_mod_eq]
 rw [e3, e4]
 exact has_core g m k d w h hk hd
theorem add_core (g : Nat) (m : Nat -> Nat) (k d nv : Nat) (w : World) (h : Bits g m w) (hk : k < 26) (hd : d < 10) (hnv : nv = m k ||| 2 ^ d) :
 Calls Tryz.prog 197 #[.pointer (some ⟨g, 0, none⟩), .agg #[.int .u8 ((k : Int) + 97), .int .u8 (d : Int)]] w fun e w' => e = .returned (.tuple #[]) /\ w' = ((w.setCell ⟨g, k, none⟩ (.int .u16 (nv : Int))).alloc (.cells #[.int .u8 ((k : Int) + 97), .int .u8 (d : Int)] 263)).drew := by
 obtain ⟨⟨c, hg, hc, hm⟩, hm2⟩ := h
 have hlt := (Array.getElem?_eq_some_iff.1 hg).1
 have B0 : Below w.heap.size w (w.alloc (.cells #[.int .u8 ((k : Int) + 97), .int .u8 (d : Int)] 263)) := bal w _
 have d0 : (w.alloc (.cells #[.int .u8 ((k : Int) + 97), .int .u8 (d : Int)] 263)).cell? ⟨w.heap.size, 0, none⟩ = some (.int .u8 ((k : Int) + 97)) := by simp
 have d1 : (w.alloc (.cells #[.int .u8 ((k : Int) + 97), .int .u8 (d : Int)] 263)).cell? ⟨w.heap.size, 1, none⟩ = some (.int .u8 (d : Int)) := by simp
 have e1 : (w.alloc (.cells #[.int .u8 ((k : Int) + 97), .int .u8 (d : Int)] 263)).cell? ⟨g, k, none⟩ = some (.int .u16 (m k : Int)) := by rw [World.cell?_alloc_lt _ _ ⟨g, _, none⟩ hlt, Lib.cell_of_heap hg]; exact hm _ hk
 have hmm := hm2 k
 have f1 : (w.alloc (.cells #[.int .u8 ((k : Int) + 97), .int .u8 (d : Int)] 263)).frozen? ⟨g, k, none⟩ = false := Lib.frozen_of_heap ((Lib.alloc_old w _ g hlt).trans hg) k
 generalize m k = mk at *
 have hw : IntKind.u8.wrap (k : Int) = (k : Int) := by rw [IntKind.wrap_u8]; omega
 have hw2 : IntKind.u8.wrap ((k : Int) + 97 - 97) = (k : Int) := by rw [IntKind.wrap_u8]; omega
 have hk26i : (k : Int) < 26 := by omega
 have A1 : IntKind.u16.wrap (2 ^ d) = ((2 ^ d : Nat) : Int) := by
  have h := zgv hd
  have e : (2 : Int) ^ d = ((2 ^ d : Nat) : Int) := by simp
  rw [e, IntKind.wrap_u16]
  generalize 2 ^ d = z at *
  omega
 have A2 : bits .or .u16 (mk : Int) ((2 ^ d : Nat) : Int) = (nv : Int) := by rw [hnv]; exact u16_or_nat mk (2 ^ d) (by omega) (by have := zgv hd; omega)
 have hsz : (w.setCell ⟨g, k, none⟩ (.int .u16 (nv : Int))).heap.size = w.heap.size := by simp [World.setCell]
 have qp : ((w.setCell ⟨g, k, none⟩ (.int .u16 (nv : Int))).alloc (.cells #[.int .u8 ((k : Int) + 97), .int .u8 (d : Int)] 263)).heap[w.heap.size]? = some (.cells #[.int .u8 ((k : Int) + 97), .int .u8 (d : Int)] 263 (0, 0)) := by
  have := heap_alloc_new (w.setCell ⟨g, k, none⟩ (.int .u16 (nv : Int))) (.cells #[.int .u8 ((k : Int) + 97), .int .u8 (d : Int)] 263)
  rw [hsz] at this; exact this
 have p0 : ((w.setCell ⟨g, k, none⟩ (.int .u16 (nv : Int))).alloc (.cells #[.int .u8 ((k : Int) + 97), .int .u8 (d : Int)] 263)).cell? ⟨w.heap.size, 0, none⟩ = some (.int .u8 ((k : Int) + 97)) := cbl qp
 have p1 : ((w.setCell ⟨g, k, none⟩ (.int .u16 (nv : Int))).alloc (.cells #[.int .u8 ((k : Int) + 97), .int .u8 (d : Int)] 263)).cell? ⟨w.heap.size, 1, none⟩ = some (.int .u8 (d : Int)) := cbl qp
 clear hnv hg hc hm hm2 qp hsz
 generalize 2 ^ d = z at *
 go_enter Tryz.func197, Tryz.ntmps197
 go_wp2_with fail
 refine wp_region_held_drew (S := (fun wq => wq.cell? ⟨w.heap.size, 0, none⟩ = some (.int .u8 ((k : Int) + 97)) /\ wq.cell? ⟨w.heap.size, 1, none⟩ = some (.int .u8 (d : Int)))) (by kernel_rfl) (⟨d0, d1⟩) (fun hS => ?_)
 refine tkS 0 (.pointer (some ⟨g, 0, none⟩)) hS ?_
 refine tkS 1 (.pointer (some ⟨w.heap.size, 0, none⟩)) hS ?_
 refine tkL 2 (.int .u8 ((k : Int) + 97)) hS ?_
 refine tkS 3 (.int .u8 (k : Int)) hS ?_
 refine tkS 4 (.pointer (some ⟨g, 0, none⟩)) hS ?_
 refine tkS 5 (.pointer (some ⟨g, k, none⟩)) hS ?_
 refine tkS 7 (.pointer (some ⟨w.heap.size, 1, none⟩)) hS ?_
 refine tkL 8 (.int .u8 (d : Int)) hS ?_
 refine tkS 9 (.int .u16 (z : Int)) hS ?_
 refine tkS 11 (.pointer (some ⟨g, 0, none⟩)) hS ?_
 refine rd1 6 (fun KK hK => ?_)
 (try simp only [List.getElem_toArray, List.getElem_cons_succ, List.getElem_cons_zero])
 go_simp
 (try dsimp only)
 refine hK.out _ _ ⟨d0, d1⟩ (fun hS => nrm ?_)
 refine tkS 10 (.int .u16 (nv : Int)) hS ?_
 refine tkS 12 (.pointer (some ⟨g, k, none⟩)) hS ?_
 refine rd1 13 (fun KK hK => ?_)
 (try simp only [List.getElem_toArray, List.getElem_cons_succ, List.getElem_cons_zero])
 go_simp
 (try dsimp only)
 refine hK.out _ _ ⟨p0, p1⟩ (fun hS => nrm ?_)
 refine wpAnyH_done (by kernel_rfl) ?_ _
 go_wp2_with fail
 go_end0
 exact ⟨rfl, rfl⟩
theorem add_any (g : Nat) (m : Nat -> Nat) (o : Nat) (w : World) (h : Bits g m w) (ho : 970 <= o /\ o < 1230) :
 Calls Tryz.prog 197 #[.pointer (some ⟨g, 0, none⟩), kv o] w fun e w' => e = .returned (.tuple #[]) /\ Bits g (addB m o) w' /\ Gb g w w' := by
 obtain ⟨k, d, hk, hd, e1, e2, e3⟩ := zms ho
 rw [e3]
 refine (add_core g m k d _ w h hk hd rfl).mono ?_
 rintro e w' ⟨rfl, rfl⟩
 have h0 := h
 obtain ⟨⟨c, hg, hc, hm⟩, hm2⟩ := h
 have hlt := (Array.getElem?_eq_some_iff.1 hg).1
 refine ⟨rfl, ⟨⟨c.setIfInBounds k (.int .u16 ((m k ||| 2 ^ d : Nat) : Int)), ?_, by simp [hc], ?_⟩, addB_lt hm2 o⟩, ?_⟩
 · show ((w.setCell ⟨g, k, none⟩ _).alloc _).heap[g]? = _
   rw [Lib.alloc_old _ _ _ (by simp [World.setCell]; exact hlt)]
   simp [World.setCell, Array.getElem?_modify, hg]
 · intro j hj
   unfold addB
   rw [e1, e2, Array.getElem?_setIfInBounds]
   by_cases e : k = j
   · subst e; simp [hc, hk]
   · rw [if_neg e, if_neg (fun h => e h.symm)]; exact hm j hj
 · exact (((Gb.refl g w).setCell k _).alloc _).drewN 1
theorem rem_core (g : Nat) (m : Nat -> Nat) (k d nv : Nat) (w : World) (h : Bits g m w) (hk : k < 26) (hd : d < 10) (hnv : nv = m k &&& (65535 - 2 ^ d)) :
 Calls Tryz.prog 241 #[.pointer (some ⟨g, 0, none⟩), .agg #[.int .u8 ((k : Int) + 97), .int .u8 (d : Int)]] w fun e w' => e = .returned (.tuple #[]) /\ w' = ((w.setCell ⟨g, k, none⟩ (.int .u16 (nv : Int))).alloc (.cells #[.int .u8 ((k : Int) + 97), .int .u8 (d : Int)] 263)).drew := by
 obtain ⟨⟨c, hg, hc, hm⟩, hm2⟩ := h
 have hlt := (Array.getElem?_eq_some_iff.1 hg).1
 have B0 : Below w.heap.size w (w.alloc (.cells #[.int .u8 ((k : Int) + 97), .int .u8 (d : Int)] 263)) := bal w _
 have d0 : (w.alloc (.cells #[.int .u8 ((k : Int) + 97), .int .u8 (d : Int)] 263)).cell? ⟨w.heap.size, 0, none⟩ = some (.int .u8 ((k : Int) + 97)) := by simp
 have d1 : (w.alloc (.cells #[.int .u8 ((k : Int) + 97), .int .u8 (d : Int)] 263)).cell? ⟨w.heap.size, 1, none⟩ = some (.int .u8 (d : Int)) := by simp
 have e1 : (w.alloc (.cells #[.int .u8 ((k : Int) + 97), .int .u8 (d : Int)] 263)).cell? ⟨g, k, none⟩ = some (.int .u16 (m k : Int)) := by rw [World.cell?_alloc_lt _ _ ⟨g, _, none⟩ hlt, Lib.cell_of_heap hg]; exact hm _ hk
 have hmm := hm2 k
 have f1 : (w.alloc (.cells #[.int .u8 ((k : Int) + 97), .int .u8 (d : Int)] 263)).frozen? ⟨g, k, none⟩ = false := Lib.frozen_of_heap ((Lib.alloc_old w _ g hlt).trans hg) k
 generalize m k = mk at *
 have hw : IntKind.u8.wrap (k : Int) = (k : Int) := by rw [IntKind.wrap_u8]; omega
 have hw2 : IntKind.u8.wrap ((k : Int) + 97 - 97) = (k : Int) := by rw [IntKind.wrap_u8]; omega
 have hk26i : (k : Int) < 26 := by omega
 have A1 : IntKind.u16.wrap (2 ^ d) = ((2 ^ d : Nat) : Int) := by
  have h := zgv hd
  have e : (2 : Int) ^ d = ((2 ^ d : Nat) : Int) := by simp
  rw [e, IntKind.wrap_u16]
  generalize 2 ^ d = z at *
  omega
 have A2 : bits .andNot .u16 (mk : Int) ((2 ^ d : Nat) : Int) = (nv : Int) := by rw [hnv]; exact u16_andNot_nat mk (2 ^ d) (by omega) (by have := zgv hd; omega)
 have hsz : (w.setCell ⟨g, k, none⟩ (.int .u16 (nv : Int))).heap.size = w.heap.size := by simp [World.setCell]
 have qp : ((w.setCell ⟨g, k, none⟩ (.int .u16 (nv : Int))).alloc (.cells #[.int .u8 ((k : Int) + 97), .int .u8 (d : Int)] 263)).heap[w.heap.size]? = some (.cells #[.int .u8 ((k : Int) + 97), .int .u8 (d : Int)] 263 (0, 0)) := by
  have := heap_alloc_new (w.setCell ⟨g, k, none⟩ (.int .u16 (nv : Int))) (.cells #[.int .u8 ((k : Int) + 97), .int .u8 (d : Int)] 263)
  rw [hsz] at this; exact this
 have p0 : ((w.setCell ⟨g, k, none⟩ (.int .u16 (nv : Int))).alloc (.cells #[.int .u8 ((k : Int) + 97), .int .u8 (d : Int)] 263)).cell? ⟨w.heap.size, 0, none⟩ = some (.int .u8 ((k : Int) + 97)) := cbl qp
 have p1 : ((w.setCell ⟨g, k, none⟩ (.int .u16 (nv : Int))).alloc (.cells #[.int .u8 ((k : Int) + 97), .int .u8 (d : Int)] 263)).cell? ⟨w.heap.size, 1, none⟩ = some (.int .u8 (d : Int)) := cbl qp
 clear hnv hg hc hm hm2 qp hsz
 generalize 2 ^ d = z at *
 go_enter Tryz.func241, Tryz.ntmps241
 go_wp2_with fail
 refine wp_region_held_drew (S := (fun wq => wq.cell? ⟨w.heap.size, 0, none⟩ = some (.int .u8 ((k : Int) + 97)) /\ wq.cell? ⟨w.heap.size, 1, none⟩ = some (.int .u8 (d : Int)))) (by kernel_rfl) (⟨d0, d1⟩) (fun hS => ?_)
 refine tkS 0 (.pointer (some ⟨g, 0, none⟩)) hS ?_
 refine tkS 1 (.pointer (some ⟨w.heap.size, 0, none⟩)) hS ?_
 refine tkL 2 (.int .u8 ((k : Int) + 97)) hS ?_
 refine tkS 3 (.int .u8 (k : Int)) hS ?_
 refine tkS 4 (.pointer (some ⟨g, 0, none⟩)) hS ?_
 refine tkS 5 (.pointer (some ⟨g, k, none⟩)) hS ?_
 refine tkS 7 (.pointer (some ⟨w.heap.size, 1, none⟩)) hS ?_
 refine tkL 8 (.int .u8 (d : Int)) hS ?_
 refine tkS 9 (.int .u16 (z : Int)) hS ?_
 refine tkS 11 (.pointer (some ⟨g, 0, none⟩)) hS ?_
 refine rd1 6 (fun KK hK => ?_)
 (try simp only [List.getElem_toArray, List.getElem_cons_succ, List.getElem_cons_zero])
 go_simp
 (try dsimp only)
 refine hK.out _ _ ⟨d0, d1⟩ (fun hS => nrm ?_)
 refine tkS 10 (.int .u16 (nv : Int)) hS ?_
 refine tkS 12 (.pointer (some ⟨g, k, none⟩)) hS ?_
 refine rd1 13 (fun KK hK => ?_)
 (try simp only [List.getElem_toArray, List.getElem_cons_succ, List.getElem_cons_zero])
 go_simp
 (try dsimp only)
 refine hK.out _ _ ⟨p0, p1⟩ (fun hS => nrm ?_)
 refine wpAnyH_done (by kernel_rfl) ?_ _
 go_wp2_with fail
 go_end0
 exact ⟨rfl, rfl⟩
theorem rem_any (g : Nat) (m : Nat -> Nat) (o : Nat) (w : World) (h : Bits g m w) (ho : 970 <= o /\ o < 1230) :
 Calls Tryz.prog 241 #[.pointer (some ⟨g, 0, none⟩), kv o] w fun e w' => e = .returned (.tuple #[]) /\ Bits g (remB m o) w' /\ Gb g w w' := by
 obtain ⟨k, d, hk, hd, e1, e2, e3⟩ := zms ho
 rw [e3]
 refine (rem_core g m k d _ w h hk hd rfl).mono ?_
 rintro e w' ⟨rfl, rfl⟩
 have h0 := h
 obtain ⟨⟨c, hg, hc, hm⟩, hm2⟩ := h
 have hlt := (Array.getElem?_eq_some_iff.1 hg).1
 refine ⟨rfl, ⟨⟨c.setIfInBounds k (.int .u16 ((m k &&& (65535 - 2 ^ d) : Nat) : Int)), ?_, by simp [hc], ?_⟩, remB_lt hm2 o⟩, ?_⟩
 · show ((w.setCell ⟨g, k, none⟩ _).alloc _).heap[g]? = _
   rw [Lib.alloc_old _ _ _ (by simp [World.setCell]; exact hlt)]
   simp [World.setCell, Array.getElem?_modify, hg]
 · intro j hj
   unfold remB
   rw [e1, e2, Array.getElem?_setIfInBounds]
   by_cases e : k = j
   · subst e; simp [hc, hk]
   · rw [if_neg e, if_neg (fun h => e h.symm)]; exact hm j hj
 · exact (((Gb.refl g w).setCell k _).alloc _).drewN 1
end Go.Proofs.YtceadeaodbadlaaGreatDoor
namespace Go.Proofs.YtceadeaodbadlaaGreatDoor
open Go.RowKit Go.Extern.Stop Go.Stop Go.Extern
abbrev zcj (K : Nat) : Prop := ∀ args w, (callFunc K args).run Tryz.prog w = .ok (.enter K args) w
theorem alike_leaf {T : TypeId} (x v' hv : Value) (c : Bool) (w : World) (hv' : ∃ T' x', v' = .iface T' x') (h1 : T ≠ 256) (h2 : T ≠ 259) (h3 : T ≠ 243)
 (he : (binOp .eql 94 (.iface T x) v').run Tryz.prog w = .ok (.bool c) w) :
 Calls Tryz.prog 179 #[.iface T x, v', hv] w fun e w' => e = .returned (.bool c) /\ w' = w := by
 obtain ⟨T', x', rfl⟩ := hv'
 have a1 := fun w => zbg x h1 w
 have a2 := fun w => zcp x h2 w
 have a3 := fun w => zbx x h3 w
 go_enter Tryz.func179, Tryz.ntmps179
 go_wp2_with fail
 go_ret
 exact ⟨rfl, rfl⟩
theorem zpl {T : TypeId} (q : Nat) (x : Value) (hv : Value) (w : World) (h : T ≠ 256) :
 Calls Tryz.prog 179 #[viL q, .iface T x, hv] w fun e w' => e = .returned (.bool false) /\ ∃ n, w' = w.drewN n := by
 have z := fun w => zbg x h w
 have a3 := zhg
 go_enter Tryz.func179, Tryz.ntmps179
 go_wp2_with fail
 go_quiet (fail)
 go_wp2_with fail
 go_ret
 exact ⟨rfl, _, rfl⟩
theorem alikeP_miss {T : TypeId} (q : Nat) (x : Value) (hv : Value) (w : World) (h : T ≠ 259) :
 Calls Tryz.prog 179 #[viP q, .iface T x, hv] w fun e w' => e = .returned (.bool false) /\ ∃ n, w' = w.drewN n := by
 have z := fun w => zcp x h w
 have a1 := fun v => zbg (T := 259) v (by decide)
 have a3 := zee
 go_enter Tryz.func179, Tryz.ntmps179
 go_wp2_with fail
 go_quiet (fail)
 go_wp2_with fail
 go_ret
 exact ⟨rfl, _, rfl⟩
theorem zpz {T : TypeId} (q : Nat) (x : Value) (hv : Value) (w : World) (h : T ≠ 243) :
 Calls Tryz.prog 179 #[viF q, .iface T x, hv] w fun e w' => e = .returned (.bool false) /\ ∃ n, w' = w.drewN n := by
 have z := fun w => zbx x h w
 have a1 := fun v => zbg (T := 243) v (by decide)
 have a2 := fun v => zcp (T := 243) v (by decide)
 have a3 := zbk
 go_enter Tryz.func179, Tryz.ntmps179
 go_wp2_with fail
 go_quiet (fail)
 go_wp2_with fail
 go_ret
 exact ⟨rfl, _, rfl⟩
theorem alikeL_hit (K : Nat) (fs cs : Array Value) (eK : zcj K) (w : World) (q q' : Nat) (T T' : TypeId) (x' y' : Value) (Q : Bool -> World -> Prop)
 (c1 : w.cell? ⟨q, 0, none⟩ = some (.iface T x')) (c2 : w.cell? ⟨q', 0, none⟩ = some (.iface T' y'))
 (H : Calls Tryz.prog K (fs ++ (#[.iface T x', .iface T' y'] ++ cs)) w.drew fun e w1 => ∃ r, e = .returned (.bool r) /\ Q r w1)
 (HC : ∀ r w1, Q r w1 -> w1.cell? ⟨q, 0, none⟩ = some (.iface T x') /\ w1.cell? ⟨q', 0, none⟩ = some (.iface T' y')) :
 Calls Tryz.prog 179 #[viL q, viL q', .func (.func K) fs cs] w fun e w' => ∃ r, e = .returned (.bool r) /\ Q r w' := by
 have HH : Hid (Calls Tryz.prog K (fs ++ (#[.iface T x', .iface T' y'] ++ cs)) w.drew fun e w1 => ∃ r, e = .returned (.bool r) /\ Q r w1) := H
 have HHC : Hid (∀ r w1, Q r w1 -> w1.cell? ⟨q, 0, none⟩ = some (.iface T x') /\ w1.cell? ⟨q', 0, none⟩ = some (.iface T' y')) := HC
 clear H HC
 have a1 := zhg
 go_enter Tryz.func179, Tryz.ntmps179
 go_wp2_with fail
 go_region_held3 (fun wq => wq.cell? ⟨q, 0, none⟩ = some (.iface T x') /\ wq.cell? ⟨q', 0, none⟩ = some (.iface T' y'))
  (first | (go_keep; done) | (go_split_ands; exact ⟨q1, q2⟩))
  (first | (go_at_fn K; refine HH.out.mono ?_; rintro e w1 ⟨r, rfl, hQ⟩; obtain ⟨q1, q2⟩ := HHC.out r w1 hQ))
 go_wp2_with fail
 go_ret
 exact ⟨_, rfl, hQ⟩
theorem alikeP_no (K : Nat) (fs cs : Array Value) (eK : zcj K) (w : World) (q q' : Nat) (T T' S S' : TypeId) (x' y' x2' y2' : Value) (Q : World -> Prop) (c1 : w.cell? ⟨q, 0, none⟩ = some (.iface T x')) (c2 : w.cell? ⟨q', 0, none⟩ = some (.iface T' y')) (c3 : w.cell? ⟨q, 1, none⟩ = some (.iface S x2')) (c4 : w.cell? ⟨q', 1, none⟩ = some (.iface S' y2'))
 (H : Calls Tryz.prog K (fs ++ (#[.iface T x', .iface T' y'] ++ cs)) w.drew fun e w1 => e = .returned (.bool false) /\ Q w1)
 (HC : ∀ w1, Q w1 -> w1.cell? ⟨q, 0, none⟩ = some (.iface T x') /\ w1.cell? ⟨q', 0, none⟩ = some (.iface T' y') /\ w1.cell? ⟨q, 1, none⟩ = some (.iface S x2') /\ w1.cell? ⟨q', 1, none⟩ = some (.iface S' y2')) :
 Calls Tryz.prog 179 #[viP q, viP q', .func (.func K) fs cs] w fun e w' => e = .returned (.bool false) /\ Q w' := by
 have HH : Hid (Calls Tryz.prog K (fs ++ (#[.iface T x', .iface T' y'] ++ cs)) w.drew fun e w1 => e = .returned (.bool false) /\ Q w1) := H
 have HHC : Hid (∀ w1, Q w1 -> w1.cell? ⟨q, 0, none⟩ = some (.iface T x') /\ w1.cell? ⟨q', 0, none⟩ = some (.iface T' y') /\ w1.cell? ⟨q, 1, none⟩ = some (.iface S x2') /\ w1.cell? ⟨q', 1, none⟩ = some (.iface S' y2')) := HC
 clear H HC
 have a1 := fun v => zbg (T := 259) v (by decide)
 have a3 := zee
 go_enter Tryz.func179, Tryz.ntmps179
 go_wp2_with fail
 refine wp_region_held_drew (S := (fun wq => wq.cell? ⟨q, 0, none⟩ = some (.iface T x') /\ wq.cell? ⟨q', 0, none⟩ = some (.iface T' y') /\ wq.cell? ⟨q, 1, none⟩ = some (.iface S x2') /\ wq.cell? ⟨q', 1, none⟩ = some (.iface S' y2'))) (by kernel_rfl) (⟨c1, c2, c3, c4⟩) (fun hS => ?_)
 refine tkS 0 (.bool true) hS ?_
 refine tkS 1 (.bool true) hS ?_
 refine tkS 2 (.func (.func K) fs cs) hS ?_
 refine tkS 3 (.pointer (some ⟨q, 0, none⟩)) hS ?_
 refine tkS 4 (.pointer (some ⟨q, 0, none⟩)) hS ?_
 refine tkS 5 (.pointer (some ⟨q, 0, none⟩)) hS ?_
 refine tkL 6 (.iface T x') hS ?_
 refine tkS 7 (.pointer (some ⟨q', 0, none⟩)) hS ?_
 refine tkS 8 (.pointer (some ⟨q', 0, none⟩)) hS ?_
 refine tkS 9 (.pointer (some ⟨q', 0, none⟩)) hS ?_
 refine tkL 10 (.iface T' y') hS ?_
 refine rd1 11 (fun KK hK => ?_)
 (try simp only [List.getElem_toArray, List.getElem_cons_succ, List.getElem_cons_zero])
 go_simp
 go_at_fn K
 refine HH.out.mono ?_
 rintro e w1 ⟨rfl, hQ⟩
 obtain ⟨q1, q2, q3, q4⟩ := HHC.out w1 hQ
 dsimp only
 refine hK.out _ _ ⟨q1, q2, q3, q4⟩ (fun hS => nrm ?_)
 refine tkS 12 (.bool false) hS ?_
 refine tkS 13 (.bool false) hS ?_
 refine tkU 14 hS ?_
 refine tkU 15 hS ?_
 refine tkU 16 hS ?_
 refine tkU 17 hS ?_
 refine tkU 18 hS ?_
 refine tkU 19 hS ?_
 refine tkU 20 hS ?_
 refine tkU 21 hS ?_
 refine tkU 22 hS ?_
 refine tkU 23 hS ?_
 refine tkS 24 (.bool false) hS ?_
 refine tkS 25 (.bool false) hS ?_
 refine wpAnyH_done (by kernel_rfl) ?_ _
 go_wp2_with fail
 go_ret
 exact ⟨rfl, hQ⟩
theorem alikeP_yes (K : Nat) (fs cs : Array Value) (eK : zcj K) (w : World) (q q' : Nat) (T T' S S' : TypeId) (x' y' x2' y2' : Value) (Q : World -> Prop) (Q2 : Bool -> World -> Prop) (c1 : w.cell? ⟨q, 0, none⟩ = some (.iface T x')) (c2 : w.cell? ⟨q', 0, none⟩ = some (.iface T' y')) (c3 : w.cell? ⟨q, 1, none⟩ = some (.iface S x2')) (c4 : w.cell? ⟨q', 1, none⟩ = some (.iface S' y2'))
 (H : Calls Tryz.prog K (fs ++ (#[.iface T x', .iface T' y'] ++ cs)) w.drew fun e w1 => e = .returned (.bool true) /\ Q w1)
 (H2 : ∀ w1, Q w1 -> Calls Tryz.prog K (fs ++ (#[.iface S x2', .iface S' y2'] ++ cs)) w1 fun e w2 => ∃ r, e = .returned (.bool r) /\ Q2 r w2)
 (HC : ∀ w1, Q w1 -> w1.cell? ⟨q, 0, none⟩ = some (.iface T x') /\ w1.cell? ⟨q', 0, none⟩ = some (.iface T' y') /\ w1.cell? ⟨q, 1, none⟩ = some (.iface S x2') /\ w1.cell? ⟨q', 1, none⟩ = some (.iface S' y2'))
 (HC2 : ∀ r w1, Q2 r w1 -> w1.cell? ⟨q, 0, none⟩ = some (.iface T x') /\ w1.cell? ⟨q', 0, none⟩ = some (.iface T' y') /\ w1.cell? ⟨q, 1, none⟩ = some (.iface S x2') /\ w1.cell? ⟨q', 1, none⟩ = some (.iface S' y2')) :
 Calls Tryz.prog 179 #[viP q, viP q', .func (.func K) fs cs] w fun e w' => ∃ r, e = .returned (.bool r) /\ Q2 r w' := by
 have HH : Hid (Calls Tryz.prog K (fs ++ (#[.iface T x', .iface T' y'] ++ cs)) w.drew fun e w1 => e = .returned (.bool true) /\ Q w1) := H
 have HH2 : Hid (∀ w1, Q w1 -> Calls Tryz.prog K (fs ++ (#[.iface S x2', .iface S' y2'] ++ cs)) w1 fun e w2 => ∃ r, e = .returned (.bool r) /\ Q2 r w2) := H2
 have HHC : Hid (∀ w1, Q w1 -> w1.cell? ⟨q, 0, none⟩ = some (.iface T x') /\ w1.cell? ⟨q', 0, none⟩ = some (.iface T' y') /\ w1.cell? ⟨q, 1, none⟩ = some (.iface S x2') /\ w1.cell? ⟨q', 1, none⟩ = some (.iface S' y2')) := HC
 have HHC2 : Hid (∀ r w1, Q2 r w1 -> w1.cell? ⟨q, 0, none⟩ = some (.iface T x') /\ w1.cell? ⟨q', 0, none⟩ = some (.iface T' y') /\ w1.cell? ⟨q, 1, none⟩ = some (.iface S x2') /\ w1.cell? ⟨q', 1, none⟩ = some (.iface S' y2')) := HC2
 clear H H2 HC HC2
 have a1 := fun v => zbg (T := 259) v (by decide)
 have a3 := zee
 go_enter Tryz.func179, Tryz.ntmps179
 go_wp2_with fail
 first | go_region_held3 (fun wq => wq.cell? ⟨q, 0, none⟩ = some (.iface T x') /\ wq.cell? ⟨q', 0, none⟩ = some (.iface T' y') /\ wq.cell? ⟨q, 1, none⟩ = some (.iface S x2') /\ wq.cell? ⟨q', 1, none⟩ = some (.iface S' y2'))
  (first | (go_keep; done) | (go_split_ands; exact ⟨q1, q2, q3, q4⟩))
  (first
   | (go_at_fn K; (have hb3 := hQ1); refine (HH2.out _ hQ1).mono ?_; rintro e w2 ⟨r, rfl, hQ2⟩; obtain ⟨q1, q2, q3, q4⟩ := HHC2.out r w2 hQ2)
   | (go_at_fn K; refine HH.out.mono ?_; rintro e w1 ⟨rfl, hQ1⟩; obtain ⟨q1, q2, q3, q4⟩ := HHC.out w1 hQ1)) | fail
 go_wp2_with fail
 go_ret
 exact ⟨_, rfl, hQ2⟩
theorem alikeF_no (K : Nat) (fs cs : Array Value) (eK : zcj K) (w : World) (q q' : Nat) (T T' S S' : TypeId) (x' y' x2' y2' : Value) (Q : World -> Prop) (c1 : w.cell? ⟨q, 0, none⟩ = some (.iface T x')) (c2 : w.cell? ⟨q', 0, none⟩ = some (.iface T' y')) (c3 : w.cell? ⟨q, 1, none⟩ = some (.iface S x2')) (c4 : w.cell? ⟨q', 1, none⟩ = some (.iface S' y2'))
 (H : Calls Tryz.prog K (fs ++ (#[.iface T x', .iface T' y'] ++ cs)) w.drew fun e w1 => e = .returned (.bool false) /\ Q w1)
 (HC : ∀ w1, Q w1 -> w1.cell? ⟨q, 0, none⟩ = some (.iface T x') /\ w1.cell? ⟨q', 0, none⟩ = some (.iface T' y') /\ w1.cell? ⟨q, 1, none⟩ = some (.iface S x2') /\ w1.cell? ⟨q', 1, none⟩ = some (.iface S' y2')) :
 Calls Tryz.prog 179 #[viF q, viF q', .func (.func K) fs cs] w fun e w' => e = .returned (.bool false) /\ Q w' := by
 have HH : Hid (Calls Tryz.prog K (fs ++ (#[.iface T x', .iface T' y'] ++ cs)) w.drew fun e w1 => e = .returned (.bool false) /\ Q w1) := H
 have HHC : Hid (∀ w1, Q w1 -> w1.cell? ⟨q, 0, none⟩ = some (.iface T x') /\ w1.cell? ⟨q', 0, none⟩ = some (.iface T' y') /\ w1.cell? ⟨q, 1, none⟩ = some (.iface S x2') /\ w1.cell? ⟨q', 1, none⟩ = some (.iface S' y2')) := HC
 clear H HC
 have a1 := fun v => zbg (T := 243) v (by decide)
 have a2 := fun v => zcp (T := 243) v (by decide)
 have a3 := zbk
 go_enter Tryz.func179, Tryz.ntmps179
 go_wp2_with fail
 refine wp_region_held_drew (S := (fun wq => wq.cell? ⟨q, 0, none⟩ = some (.iface T x') /\ wq.cell? ⟨q', 0, none⟩ = some (.iface T' y') /\ wq.cell? ⟨q, 1, none⟩ = some (.iface S x2') /\ wq.cell? ⟨q', 1, none⟩ = some (.iface S' y2'))) (by kernel_rfl) (⟨c1, c2, c3, c4⟩) (fun hS => ?_)
 refine tkS 0 (.bool true) hS ?_
 refine tkS 1 (.bool true) hS ?_
 refine tkS 2 (.func (.func K) fs cs) hS ?_
 refine tkS 3 (.pointer (some ⟨q, 0, none⟩)) hS ?_
 refine tkS 4 (.pointer (some ⟨q, 0, none⟩)) hS ?_
 refine tkS 5 (.pointer (some ⟨q, 0, none⟩)) hS ?_
 refine tkL 6 (.iface T x') hS ?_
 refine tkS 7 (.pointer (some ⟨q', 0, none⟩)) hS ?_
 refine tkS 8 (.pointer (some ⟨q', 0, none⟩)) hS ?_
 refine tkS 9 (.pointer (some ⟨q', 0, none⟩)) hS ?_
 refine tkL 10 (.iface T' y') hS ?_
 refine rd1 11 (fun KK hK => ?_)
 (try simp only [List.getElem_toArray, List.getElem_cons_succ, List.getElem_cons_zero])
 go_simp
 go_at_fn K
 refine HH.out.mono ?_
 rintro e w1 ⟨rfl, hQ⟩
 obtain ⟨q1, q2, q3, q4⟩ := HHC.out w1 hQ
 dsimp only
 refine hK.out _ _ ⟨q1, q2, q3, q4⟩ (fun hS => nrm ?_)
 refine tkS 12 (.bool false) hS ?_
 refine tkS 13 (.bool false) hS ?_
 refine tkU 14 hS ?_
 refine tkU 15 hS ?_
 refine tkU 16 hS ?_
 refine tkU 17 hS ?_
 refine tkU 18 hS ?_
 refine tkU 19 hS ?_
 refine tkU 20 hS ?_
 refine tkU 21 hS ?_
 refine tkU 22 hS ?_
 refine tkU 23 hS ?_
 refine tkS 24 (.bool false) hS ?_
 refine tkS 25 (.bool false) hS ?_
 refine wpAnyH_done (by kernel_rfl) ?_ _
 go_wp2_with fail
 go_ret
 exact ⟨rfl, hQ⟩
theorem alikeF_yes (K : Nat) (fs cs : Array Value) (eK : zcj K) (w : World) (q q' : Nat) (T T' S S' : TypeId) (x' y' x2' y2' : Value) (Q : World -> Prop) (Q2 : Bool -> World -> Prop) (c1 : w.cell? ⟨q, 0, none⟩ = some (.iface T x')) (c2 : w.cell? ⟨q', 0, none⟩ = some (.iface T' y')) (c3 : w.cell? ⟨q, 1, none⟩ = some (.iface S x2')) (c4 : w.cell? ⟨q', 1, none⟩ = some (.iface S' y2'))
 (H : Calls Tryz.prog K (fs ++ (#[.iface T x', .iface T' y'] ++ cs)) w.drew fun e w1 => e = .returned (.bool true) /\ Q w1)
 (H2 : ∀ w1, Q w1 -> Calls Tryz.prog K (fs ++ (#[.iface S x2', .iface S' y2'] ++ cs)) w1 fun e w2 => ∃ r, e = .returned (.bool r) /\ Q2 r w2)
 (HC : ∀ w1, Q w1 -> w1.cell? ⟨q, 0, none⟩ = some (.iface T x') /\ w1.cell? ⟨q', 0, none⟩ = some (.iface T' y') /\ w1.cell? ⟨q, 1, none⟩ = some (.iface S x2') /\ w1.cell? ⟨q', 1, none⟩ = some (.iface S' y2'))
 (HC2 : ∀ r w1, Q2 r w1 -> w1.cell? ⟨q, 0, none⟩ = some (.iface T x') /\ w1.cell? ⟨q', 0, none⟩ = some (.iface T' y') /\ w1.cell? ⟨q, 1, none⟩ = some (.iface S x2') /\ w1.cell? ⟨q', 1, none⟩ = some (.iface S' y2')) :
 Calls Tryz.prog 179 #[viF q, viF q', .func (.func K) fs cs] w fun e w' => ∃ r, e = .returned (.bool r) /\ Q2 r w' := by
 have HH : Hid (Calls Tryz.prog K (fs ++ (#[.iface T x', .iface T' y'] ++ cs)) w.drew fun e w1 => e = .returned (.bool true) /\ Q w1) := H
 have HH2 : Hid (∀ w1, Q w1 -> Calls Tryz.prog K (fs ++ (#[.iface S x2', .iface S' y2'] ++ cs)) w1 fun e w2 => ∃ r, e = .returned (.bool r) /\ Q2 r w2) := H2
 have HHC : Hid (∀ w1, Q w1 -> w1.cell? ⟨q, 0, none⟩ = some (.iface T x') /\ w1.cell? ⟨q', 0, none⟩ = some (.iface T' y') /\ w1.cell? ⟨q, 1, none⟩ = some (.iface S x2') /\ w1.cell? ⟨q', 1, none⟩ = some (.iface S' y2')) := HC
 have HHC2 : Hid (∀ r w1, Q2 r w1 -> w1.cell? ⟨q, 0, none⟩ = some (.iface T x') /\ w1.cell? ⟨q', 0, none⟩ = some (.iface T' y') /\ w1.cell? ⟨q, 1, none⟩ = some (.iface S x2') /\ w1.cell? ⟨q', 1, none⟩ = some (.iface S' y2')) := HC2
 clear H H2 HC HC2
 have a1 := fun v => zbg (T := 243) v (by decide)
 have a2 := fun v => zcp (T := 243) v (by decide)
 have a3 := zbk
 go_enter Tryz.func179, Tryz.ntmps179
 go_wp2_with fail
 first | go_region_held3 (fun wq => wq.cell? ⟨q, 0, none⟩ = some (.iface T x') /\ wq.cell? ⟨q', 0, none⟩ = some (.iface T' y') /\ wq.cell? ⟨q, 1, none⟩ = some (.iface S x2') /\ wq.cell? ⟨q', 1, none⟩ = some (.iface S' y2'))
  (first | (go_keep; done) | (go_split_ands; exact ⟨q1, q2, q3, q4⟩))
  (first
   | (go_at_fn K; (have hb3 := hQ1); refine (HH2.out _ hQ1).mono ?_; rintro e w2 ⟨r, rfl, hQ2⟩; obtain ⟨q1, q2, q3, q4⟩ := HHC2.out r w2 hQ2)
   | (go_at_fn K; refine HH.out.mono ?_; rintro e w1 ⟨rfl, hQ1⟩; obtain ⟨q1, q2, q3, q4⟩ := HHC.out w1 hQ1)) | fail
 go_wp2_with fail
 go_ret
 exact ⟨_, rfl, hQ2⟩
end Go.Proofs.YtceadeaodbadlaaGreatDoor
namespace Go.Proofs.YtceadeaodbadlaaGreatDoor
open Go.RowKit
theorem Tv.atL {u : World} {t : Ty} {q : Nat} (h : Tv u t (viL q)) : ∃ n x, u.heap[q]? = some (obL n x) := by
 cases t with
 | nil => exact h.elim
 | node g o _ a b =>
  rcases h with ⟨_, e⟩ | ⟨_, e⟩ | ⟨_, e⟩ | ⟨_, q', x, e, hq, _⟩ | ⟨_, q', x, y, e, hq, _⟩ | ⟨_, q', x, y, e, hq, _⟩ <;> simp at e
  subst e; exact ⟨_, _, hq⟩
theorem Tv.atP {u : World} {t : Ty} {q : Nat} (h : Tv u t (viP q)) : ∃ n x y, u.heap[q]? = some (obP n x y) := by
 cases t with
 | nil => exact h.elim
 | node g o _ a b =>
  rcases h with ⟨_, e⟩ | ⟨_, e⟩ | ⟨_, e⟩ | ⟨_, q', x, e, hq, _⟩ | ⟨_, q', x, y, e, hq, _⟩ | ⟨_, q', x, y, e, hq, _⟩ <;> simp at e
  subst e; exact ⟨_, _, _, hq⟩
theorem Tv.atF {u : World} {t : Ty} {q : Nat} (h : Tv u t (viF q)) : ∃ n x y, u.heap[q]? = some (obF n x y) := by
 cases t with
 | nil => exact h.elim
 | node g o _ a b =>
  rcases h with ⟨_, e⟩ | ⟨_, e⟩ | ⟨_, e⟩ | ⟨_, q', x, e, hq, _⟩ | ⟨_, q', x, y, e, hq, _⟩ | ⟨_, q', x, y, e, hq, _⟩ <;> simp at e
  subst e; exact ⟨_, _, _, hq⟩
theorem zmg {u : World} {t t' : Ty} {v v' : Value} {q k : Nat} (h : Tv u t v) (h' : Tv u t' v') (n : NdV v q k) (n' : NdV v' q k) : v = v' := by
 rcases n with ⟨rfl, rfl⟩ | ⟨rfl, rfl⟩ | ⟨rfl, rfl⟩ <;> rcases n' with ⟨rfl, e⟩ | ⟨rfl, e⟩ | ⟨rfl, e⟩ <;> first | rfl | cases e | skip
 · obtain ⟨_, _, _, e1⟩ := h.atP
   obtain ⟨_, _, _, e2⟩ := h'.atF
   rw [e1] at e2; simp at e2
 · obtain ⟨_, _, _, e1⟩ := h.atF
   obtain ⟨_, _, _, e2⟩ := h'.atP
   rw [e1] at e2; simp at e2
theorem good.mark {u : World} {L : Mks} {x : Ty} {v v' : Value} {q k : Nat} (hg : good u L) (hx : Ok x) (h : Tv u x v) (h' : Tv u x v') (n : NdV v q k) : good u ((q, k, v') :: L) := by
 intro q1 k1 f1 hm v1 t1 n1 ho1 h1
 rcases List.mem_cons.1 hm with e | hm
 · simp at e
   obtain ⟨rfl, rfl, rfl⟩ := e
   have := zmg h h1 n n1
   subst this
   rw [Tv.one t1 x v ho1 hx h1 h]
   exact h'
 · exact hg q1 k1 f1 hm v1 t1 n1 ho1 h1
theorem good.remark {u w : World} {vb : Nat} {L : Mks} {x : Ty} {v v' : Value} {q k : Nat} {o : Obj} (hg : good u L) (hV : Vs vb L u w) (hq : u.heap[q]? = some o) (hn : isNd o k) (hx : Ok x) (h : Tv u x v) (h' : Tv u x v') (n : NdV v q k) : good u (upd q v' L) := by
 intro q1 k1 f1 hm v1 t1 n1 ho1 h1
 rcases zlz hm with hm | ⟨e1, e2, g, hm2⟩
 · exact hg q1 k1 f1 hm v1 t1 n1 ho1 h1
 · simp only at e1 e2 hm2
   clear hm
   subst e1
   subst e2
   obtain ⟨⟨o', ho', hn'⟩, _⟩ := hV.nds _ hm2
   simp only at ho' hn'
   rw [hq] at ho'
   obtain rfl := Option.some.inj ho'
   obtain rfl := hn.one hn'
   have := zmg h h1 n n1
   subst this
   rw [Tv.one t1 x v ho1 hx h1 h]
   exact h'
theorem Vs.partL {vb : Nat} {L : Mks} {u w : World} (h : Vs vb L u w) {q n : Nat} {x : Value} (hq : u.heap[q]? = some (obL n x)) : w.cell? ⟨q, 0, none⟩ = some x := h.part hq (ndL _ _) (Nat.zero_le _) rfl
theorem Vs.partP0 {vb : Nat} {L : Mks} {u w : World} (h : Vs vb L u w) {q n : Nat} {x y : Value} (hq : u.heap[q]? = some (obP n x y)) : w.cell? ⟨q, 0, none⟩ = some x := h.part hq (ndP _ _ _) (by decide) rfl
theorem Vs.partP1 {vb : Nat} {L : Mks} {u w : World} (h : Vs vb L u w) {q n : Nat} {x y : Value} (hq : u.heap[q]? = some (obP n x y)) : w.cell? ⟨q, 1, none⟩ = some y := h.part hq (ndP _ _ _) (by decide) rfl
theorem Vs.partF0 {vb : Nat} {L : Mks} {u w : World} (h : Vs vb L u w) {q n : Nat} {x y : Value} (hq : u.heap[q]? = some (obF n x y)) : w.cell? ⟨q, 0, none⟩ = some x := h.part hq (ndF _ _ _) (by decide) rfl
theorem Vs.partF1 {vb : Nat} {L : Mks} {u w : World} (h : Vs vb L u w) {q n : Nat} {x y : Value} (hq : u.heap[q]? = some (obF n x y)) : w.cell? ⟨q, 1, none⟩ = some y := h.part hq (ndF _ _ _) (by decide) rfl
theorem zcq (a b c : Value) : (#[a] : Array Value) ++ (#[b, c] ++ #[]) = #[a, b, c] := by simp
theorem zcv : zcj 199 := enters_of Tryz.func199 (by kernel_rfl) rfl
def PartsSaid (x y : Ty) : Prop := ∀ (vb : Nat) (L : Mks) (u w : World) (v v' : Value), Tv u x v -> Tv u y v' -> Vs vb L u w -> good u L ->
 Calls Tryz.prog 179 #[v, v', .func (.func 199) #[.pointer (some ⟨vb, 0, none⟩)] #[]] w fun e w' => ∃ L', e = .returned (.bool (eqT x y)) /\ Vs vb L' u w' /\ good u L'
theorem ziy {x y : Ty} (hx : Ok x) (hy : Ok y) (hl : ∀ u v, Tv u x v -> Leaf v) : zmq x y := by
 intro vb L u w v v' h h' hV hg
 have lf := hl u v h
 obtain ⟨c, he, hc1, hc2⟩ := eq_tv hV hx hy h h'
 have hc := hc2 lf
 rw [<- hc]
 have A := at_leaf vb w lf
 have P : Calls Tryz.prog 179 #[v, v', .func (.func 199) #[.pointer (some ⟨vb, 0, none⟩)] #[]] w fun e w' => e = .returned (.bool c) /\ w' = w := by
  rcases lf with rfl | rfl | ⟨o, rfl⟩ <;> exact alike_leaf _ v' _ c w h'.iface (by decide) (by decide) (by decide) he
 obtain ⟨T, z, rfl⟩ := h.iface
 obtain ⟨T', z', rfl⟩ := h'.iface
 have en := fun w => zoc (T := T') z' w
 clear hc1 hc2 hc lf h h' hl hx hy
 cases c
 · go_enter Tryz.func199, Tryz.ntmps199
   go_wp2_with fail
   refine A.mono ?_
   rintro e w' ⟨rfl, rfl⟩
   go_wp2_with fail
   refine P.mono ?_
   rintro e w' ⟨rfl, rfl⟩
   go_wp2_with fail
   go_ret
   exact ⟨rfl, L, hV, hg⟩
 · go_enter Tryz.func199, Tryz.ntmps199
   go_wp2_with fail
   go_ret
   exact ⟨rfl, L, hV, hg⟩
theorem zjj {x y : Ty} (hx : Ok x) (hy : Ok y) (hl : ∀ u v, Tv u x v -> ∃ q k o, NdV v q k /\ u.heap[q]? = some o /\ isNd o k) (P : PartsSaid x y) : zmq x y := by
 intro vb L u w v v' h h' hV hg
 obtain ⟨q, k, o, nv, hq, hn⟩ := hl u v h
 obtain ⟨c, he, hc1, _⟩ := eq_tv hV hx hy h h'
 cases c with
 | true =>
  have e1 : eqT x y = true := (zcx x y).2 (Tv.one x y v hx hy h (by rw [hc1 rfl]; exact h'))
  rw [e1]
  obtain ⟨T, z, rfl⟩ := h.iface
  obtain ⟨T', z', rfl⟩ := h'.iface
  clear hc1 h h' hl hx hy P
  go_enter Tryz.func199, Tryz.ntmps199
  go_wp2_with fail
  go_ret
  exact ⟨rfl, L, hV, hg⟩
 | false =>
  have A := at_nd vb (fnd L q) w nv (hV.found hq hn)
  have C : ∃ c2 : Bool, (binOp .eql 94 (fnd L q) v').run Tryz.prog w = .ok (.bool c2) w /\ (c2 = true -> eqT x y = true) /\ (fnd L q = .nilIface \/ ∃ T z, fnd L q = .iface T z) := by
   by_cases hin : q ∈ L.map (·.1)
   · obtain ⟨k', hm⟩ := fnd_in hin
     obtain ⟨⟨o', ho', hn'⟩, _⟩ := hV.nds _ hm
     simp only at ho' hn'
     rw [hq] at ho'
     obtain rfl := Option.some.inj ho'
     obtain rfl := hn.one hn'
     have hf := hg q k _ hm v x nv hx h
     obtain ⟨c2, he2, h2, _⟩ := eq_tv hV hx hy hf h'
     exact ⟨c2, he2, fun e => (zcx x y).2 (Tv.one x y _ hx hy hf (by rw [h2 e]; exact h')), .inr hf.iface⟩
   · rw [zmc hin]
     obtain ⟨T', z', rfl⟩ := h'.iface
     exact ⟨false, zoc z' w, fun e => (by cases e), .inl rfl⟩
  obtain ⟨c2, he2, h2, hff⟩ := C
  have PS := P vb L u w v v' h h' hV hg
  generalize fnd L q = ff at *
  cases c2 with
  | true =>
   have e1 := h2 rfl
   rw [e1]
   obtain ⟨T, z, rfl⟩ := h.iface
   obtain ⟨T', z', rfl⟩ := h'.iface
   clear hc1 h h' hl hx hy P PS h2
   rcases hff with rfl | ⟨Tf, xf, rfl⟩
   all_goals
    go_enter Tryz.func199, Tryz.ntmps199
    go_wp2_with fail
    refine A.mono ?_
    rintro e w' ⟨rfl, rfl⟩
    go_wp2_with fail
    go_ret
    exact ⟨rfl, L, hV, hg⟩
  | false =>
   cases hr : eqT x y with
   | false =>
    rw [hr] at PS
    obtain ⟨T, z, rfl⟩ := h.iface
    obtain ⟨T', z', rfl⟩ := h'.iface
    clear hc1 h h' hl hx hy P h2 hr
    rcases hff with rfl | ⟨Tf, xf, rfl⟩
    all_goals
     go_enter Tryz.func199, Tryz.ntmps199
     go_wp2_with fail
     refine A.mono ?_
     rintro e w' ⟨rfl, rfl⟩
     go_wp2_with fail
     refine PS.mono ?_
     rintro e w1 ⟨L1, rfl, hV1, hg1⟩
     go_wp2_with fail
     go_ret
     exact ⟨rfl, L1, hV1, hg1⟩
   | true =>
    rw [hr] at PS
    have exy := (zcx x y).1 hr
    subst exy
    have K : ∀ w1 L1, Vs vb L1 u w1 -> good u L1 -> Calls Tryz.prog 223 #[.pointer (some ⟨vb, 0, none⟩), v, v'] w1 fun e w' => e = .returned (.tuple #[]) /\ ∃ L', Vs vb L' u w' /\ good u L' := by
     intro w1 L1 hV1 hg1
     obtain ⟨T', z', rfl⟩ := h'.iface
     by_cases hin : q ∈ L1.map (·.1)
     · refine (zlw nv hV1 hq hn hin T' z').mono ?_
       rintro e w2 ⟨rfl, hV2⟩
       exact ⟨rfl, _, hV2, hg1.remark hV1 hq hn hx h h' nv⟩
     · refine (zmt nv hV1 hq hn hin T' z').mono ?_
       rintro e w2 ⟨rfl, hV2⟩
       exact ⟨rfl, _, hV2, hg1.mark hx h h' nv⟩
    obtain ⟨T, z, rfl⟩ := h.iface
    obtain ⟨T', z', rfl⟩ := h'.iface
    clear hc1 h h' hl hx hy P h2 hr
    rcases hff with rfl | ⟨Tf, xf, rfl⟩
    all_goals
     go_enter Tryz.func199, Tryz.ntmps199
     go_wp2_with fail
     refine A.mono ?_
     rintro e w' ⟨rfl, rfl⟩
     go_wp2_with fail
     refine PS.mono ?_
     rintro e w1 ⟨L1, rfl, hV1, hg1⟩
     go_wp2_with fail
     refine (K w1 L1 hV1 hg1).mono ?_
     rintro e w2 ⟨rfl, L2, hV2, hg2⟩
     go_wp2_with fail
     go_ret
     exact ⟨rfl, L2, hV2, hg2⟩
theorem visit_same : ∀ x y : Ty, Ok x -> Ok y -> zmq x y := by
 intro x
 induction x with
 | nil => intro y hx; exact hx.elim
 | node g o uu a b iha ihb =>
  intro y hx hy
  cases uu
  have hx0 := hx
  rcases hx with ⟨rfl, rfl, rfl, rfl⟩ | ⟨rfl, rfl, rfl, rfl⟩ | ⟨rfl, ho, rfl, rfl⟩ | ⟨rfl, rfl, ha, rfl⟩ | ⟨rfl, rfl, ha, hb⟩ | ⟨rfl, rfl, ha, hb⟩
  · exact ziy hx0 hy fun u v h => .inl (Tv.isI h)
  · exact ziy hx0 hy fun u v h => .inr (.inl (Tv.isB h))
  · exact ziy hx0 hy fun u v h => .inr (.inr ⟨o, Tv.isV h⟩)
  · refine zjj hx0 hy (fun u v h => ?_) ?_
    · obtain ⟨q, x, rfl, hq, _⟩ := Tv.isL h
      exact ⟨q, 1, _, .inl ⟨rfl, rfl⟩, hq, ndL _ _⟩
    · intro vb L u w v v' h h' hV hg
      obtain ⟨q, x, rfl, hq, hx⟩ := Tv.isL h
      have miss : ∀ T z, T ≠ 256 -> eqT (tL a) y = false -> Calls Tryz.prog 179 #[viL q, .iface T z, .func (.func 199) #[.pointer (some ⟨vb, 0, none⟩)] #[]] w fun e w' => ∃ L', e = .returned (.bool (eqT (tL a) y)) /\ Vs vb L' u w' /\ good u L' := by
       intro T z hT e0
       refine (zpl q z _ w hT).mono ?_
       rintro e w' ⟨rfl, n, rfl⟩
       exact ⟨L, by rw [e0], hV.drewN n, hg⟩
      rcases hy.cases with rfl | rfl | ⟨o', _, _, rfl⟩ | ⟨a', ha', rfl⟩ | ⟨a', b', ha', hb', rfl⟩ | ⟨a', b', ha', hb', rfl⟩
      · rw [h'.isI]; exact miss _ _ (by decide) (by simp [eqT])
      · rw [h'.isB]; exact miss _ _ (by decide) (by simp [eqT])
      · rw [h'.isV]; exact miss _ _ (by decide) (by simp [eqT])
      · obtain ⟨q', x', rfl, hq', hx'⟩ := h'.isL
        have e1 : eqT (tL a) (tL a') = eqT a a' := by simp [eqT]
        rw [e1]
        obtain ⟨T, xx, rfl⟩ := hx.iface
        obtain ⟨T', xx', rfl⟩ := hx'.iface
        refine (alikeL_hit 199 #[.pointer (some ⟨vb, 0, none⟩)] #[] zcv w q q' T T' xx xx' (fun r w1 => r = eqT a a' /\ ∃ L', Vs vb L' u w1 /\ good u L') (hV.partL hq) (hV.partL hq') (by rw [zcq]; exact (iha a' ha ha' vb L u w.drew _ _ hx hx' hV.drew hg).mono fun e w1 h1 => by obtain ⟨rfl, h1⟩ := h1; exact ⟨_, rfl, rfl, h1⟩) ?_).mono ?_
        · rintro r w1 ⟨_, L1, hV1, _⟩; exact ⟨hV1.partL hq, hV1.partL hq'⟩
        · rintro e w1 ⟨r, rfl, rfl, L1, h1, h2⟩; exact ⟨L1, rfl, h1, h2⟩
      · obtain ⟨q', x', y', rfl, _⟩ := h'.isP; exact miss _ _ (by decide) (by simp [eqT])
      · obtain ⟨q', x', y', rfl, _⟩ := h'.isF; exact miss _ _ (by decide) (by simp [eqT])
  · refine zjj hx0 hy (fun u v h => ?_) ?_
    · obtain ⟨q, x, y, rfl, hq, _⟩ := Tv.isP h
      exact ⟨q, 2, _, .inr (.inl ⟨rfl, rfl⟩), hq, ndP _ _ _⟩
    · intro vb L u w v v' h h' hV hg
      obtain ⟨q, x, x2, rfl, hq, hx, hx2⟩ := Tv.isP h
      have miss : ∀ T z, T ≠ 259 -> eqT (tP a b) y = false -> Calls Tryz.prog 179 #[viP q, .iface T z, .func (.func 199) #[.pointer (some ⟨vb, 0, none⟩)] #[]] w fun e w' => ∃ L', e = .returned (.bool (eqT (tP a b) y)) /\ Vs vb L' u w' /\ good u L' := by
       intro T z hT e0
       refine (alikeP_miss q z _ w hT).mono ?_
       rintro e w' ⟨rfl, n, rfl⟩
       exact ⟨L, by rw [e0], hV.drewN n, hg⟩
      rcases hy.cases with rfl | rfl | ⟨o', _, _, rfl⟩ | ⟨a', ha', rfl⟩ | ⟨a', b', ha', hb', rfl⟩ | ⟨a', b', ha', hb', rfl⟩
      · rw [h'.isI]; exact miss _ _ (by decide) (by simp [eqT])
      · rw [h'.isB]; exact miss _ _ (by decide) (by simp [eqT])
      · rw [h'.isV]; exact miss _ _ (by decide) (by simp [eqT])
      · obtain ⟨q', x', rfl, _⟩ := h'.isL; exact miss _ _ (by decide) (by simp [eqT])
      · obtain ⟨q', y, y2, rfl, hq', hy1, hy2⟩ := h'.isP
        cases hac : eqT a a' with
        | false =>
         have e1 : eqT (tP a b) (tP a' b') = false := by simp [eqT, hac]
         rw [e1]
         obtain ⟨Tx, xx, rfl⟩ := hx.iface
         obtain ⟨Ty, yy, rfl⟩ := hy1.iface
         obtain ⟨Sx, xx2, rfl⟩ := hx2.iface
         obtain ⟨Sy, yy2, rfl⟩ := hy2.iface
         have I1 := iha a' ha ha' vb L u w.drew _ _ hx hy1 hV.drew hg
         rw [hac] at I1
         refine (alikeP_no 199 #[.pointer (some ⟨vb, 0, none⟩)] #[] zcv w q q' Tx Ty Sx Sy xx yy xx2 yy2 (fun w1 => ∃ L', Vs vb L' u w1 /\ good u L') (hV.partP0 hq) (hV.partP0 hq') (hV.partP1 hq) (hV.partP1 hq') (by rw [zcq]; exact I1) ?_).mono ?_
         · rintro w1 ⟨L1, hV1, _⟩; exact ⟨hV1.partP0 hq, hV1.partP0 hq', hV1.partP1 hq, hV1.partP1 hq'⟩
         · rintro e w1 ⟨rfl, L1, h1, h2⟩; exact ⟨L1, rfl, h1, h2⟩
        | true =>
         have e1 : eqT (tP a b) (tP a' b') = eqT b b' := by simp [eqT, hac]
         rw [e1]
         obtain ⟨Tx, xx, rfl⟩ := hx.iface
         obtain ⟨Ty, yy, rfl⟩ := hy1.iface
         obtain ⟨Sx, xx2, rfl⟩ := hx2.iface
         obtain ⟨Sy, yy2, rfl⟩ := hy2.iface
         have I1 := iha a' ha ha' vb L u w.drew _ _ hx hy1 hV.drew hg
         rw [hac] at I1
         refine (alikeP_yes 199 #[.pointer (some ⟨vb, 0, none⟩)] #[] zcv w q q' Tx Ty Sx Sy xx yy xx2 yy2 (fun w1 => ∃ L', Vs vb L' u w1 /\ good u L') (fun r w1 => r = eqT b b' /\ ∃ L', Vs vb L' u w1 /\ good u L') (hV.partP0 hq) (hV.partP0 hq') (hV.partP1 hq) (hV.partP1 hq') (by rw [zcq]; exact I1) ?_ ?_ ?_).mono ?_
         · rintro w1 ⟨L1, hV1, hg1⟩
           rw [zcq]; refine (ihb b' hb hb' vb L1 u w1 _ _ hx2 hy2 hV1 hg1).mono ?_
           rintro e w2 ⟨rfl, h1⟩; exact ⟨_, rfl, rfl, h1⟩
         · rintro w1 ⟨L1, hV1, _⟩; exact ⟨hV1.partP0 hq, hV1.partP0 hq', hV1.partP1 hq, hV1.partP1 hq'⟩
         · rintro r w1 ⟨_, L1, hV1, _⟩; exact ⟨hV1.partP0 hq, hV1.partP0 hq', hV1.partP1 hq, hV1.partP1 hq'⟩
         · rintro e w1 ⟨r, rfl, rfl, L1, h1, h2⟩; exact ⟨L1, rfl, h1, h2⟩
      · obtain ⟨q', x', y', rfl, _⟩ := h'.isF; exact miss _ _ (by decide) (by simp [eqT])
  · refine zjj hx0 hy (fun u v h => ?_) ?_
    · obtain ⟨q, x, y, rfl, hq, _⟩ := Tv.isF h
      exact ⟨q, 2, _, .inr (.inr ⟨rfl, rfl⟩), hq, ndF _ _ _⟩
    · intro vb L u w v v' h h' hV hg
      obtain ⟨q, x, x2, rfl, hq, hx, hx2⟩ := Tv.isF h
      have miss : ∀ T z, T ≠ 243 -> eqT (tF a b) y = false -> Calls Tryz.prog 179 #[viF q, .iface T z, .func (.func 199) #[.pointer (some ⟨vb, 0, none⟩)] #[]] w fun e w' => ∃ L', e = .returned (.bool (eqT (tF a b) y)) /\ Vs vb L' u w' /\ good u L' := by
       intro T z hT e0
       refine (zpz q z _ w hT).mono ?_
       rintro e w' ⟨rfl, n, rfl⟩
       exact ⟨L, by rw [e0], hV.drewN n, hg⟩
      rcases hy.cases with rfl | rfl | ⟨o', _, _, rfl⟩ | ⟨a', ha', rfl⟩ | ⟨a', b', ha', hb', rfl⟩ | ⟨a', b', ha', hb', rfl⟩
      · rw [h'.isI]; exact miss _ _ (by decide) (by simp [eqT])
      · rw [h'.isB]; exact miss _ _ (by decide) (by simp [eqT])
      · rw [h'.isV]; exact miss _ _ (by decide) (by simp [eqT])
      · obtain ⟨q', x', rfl, _⟩ := h'.isL; exact miss _ _ (by decide) (by simp [eqT])
      · obtain ⟨q', x', y', rfl, _⟩ := h'.isP; exact miss _ _ (by decide) (by simp [eqT])
      · obtain ⟨q', y, y2, rfl, hq', hy1, hy2⟩ := h'.isF
        cases hac : eqT a a' with
        | false =>
         have e1 : eqT (tF a b) (tF a' b') = false := by simp [eqT, hac]
         rw [e1]
         obtain ⟨Tx, xx, rfl⟩ := hx.iface
         obtain ⟨Ty, yy, rfl⟩ := hy1.iface
         obtain ⟨Sx, xx2, rfl⟩ := hx2.iface
         obtain ⟨Sy, yy2, rfl⟩ := hy2.iface
         have I1 := iha a' ha ha' vb L u w.drew _ _ hx hy1 hV.drew hg
         rw [hac] at I1
         refine (alikeF_no 199 #[.pointer (some ⟨vb, 0, none⟩)] #[] zcv w q q' Tx Ty Sx Sy xx yy xx2 yy2 (fun w1 => ∃ L', Vs vb L' u w1 /\ good u L') (hV.partF0 hq) (hV.partF0 hq') (hV.partF1 hq) (hV.partF1 hq') (by rw [zcq]; exact I1) ?_).mono ?_
         · rintro w1 ⟨L1, hV1, _⟩; exact ⟨hV1.partF0 hq, hV1.partF0 hq', hV1.partF1 hq, hV1.partF1 hq'⟩
         · rintro e w1 ⟨rfl, L1, h1, h2⟩; exact ⟨L1, rfl, h1, h2⟩
        | true =>
         have e1 : eqT (tF a b) (tF a' b') = eqT b b' := by simp [eqT, hac]
         rw [e1]
         obtain ⟨Tx, xx, rfl⟩ := hx.iface
         obtain ⟨Ty, yy, rfl⟩ := hy1.iface
         obtain ⟨Sx, xx2, rfl⟩ := hx2.iface
         obtain ⟨Sy, yy2, rfl⟩ := hy2.iface
         have I1 := iha a' ha ha' vb L u w.drew _ _ hx hy1 hV.drew hg
         rw [hac] at I1
         refine (alikeF_yes 199 #[.pointer (some ⟨vb, 0, none⟩)] #[] zcv w q q' Tx Ty Sx Sy xx yy xx2 yy2 (fun w1 => ∃ L', Vs vb L' u w1 /\ good u L') (fun r w1 => r = eqT b b' /\ ∃ L', Vs vb L' u w1 /\ good u L') (hV.partF0 hq) (hV.partF0 hq') (hV.partF1 hq) (hV.partF1 hq') (by rw [zcq]; exact I1) ?_ ?_ ?_).mono ?_
         · rintro w1 ⟨L1, hV1, hg1⟩
           rw [zcq]; refine (ihb b' hb hb' vb L1 u w1 _ _ hx2 hy2 hV1 hg1).mono ?_
           rintro e w2 ⟨rfl, h1⟩; exact ⟨_, rfl, rfl, h1⟩
         · rintro w1 ⟨L1, hV1, _⟩; exact ⟨hV1.partF0 hq, hV1.partF0 hq', hV1.partF1 hq, hV1.partF1 hq'⟩
         · rintro r w1 ⟨_, L1, hV1, _⟩; exact ⟨hV1.partF0 hq, hV1.partF0 hq', hV1.partF1 hq, hV1.partF1 hq'⟩
         · rintro e w1 ⟨r, rfl, rfl, L1, h1, h2⟩; exact ⟨L1, rfl, h1, h2⟩
theorem Ends.below {vb : Nat} {w0 u w : World} (h : Ends vb u w) (hb : Below w0.heap.size w0 u) (hv : w0.heap.size <= vb) : Below w0.heap.size w0 w :=
 ⟨h.os.trans hb.os, h.tape.trans hb.tape, h.output.trans hb.output, by rw [h.size]; exact hb.size, fun k hk => (h.blk k (by omega)).trans (hb.block k hk)⟩
abbrev visO : Obj := .cells #[.pointer none] 307
theorem Vs.new (w : World) : Vs w.heap.size [] (w.alloc visO) (w.alloc visO) :=
 ⟨rfl, rfl, rfl, rfl, ⟨_, [], _, by simp [VisT], heap_alloc_new w _, heap_alloc_new w _⟩, fun _ _ => rfl, fun m h => (by cases h), List.nodup_nil⟩
theorem same_any (x y : Ty) (v v' : Value) (w : World) (hx : Ok x) (hy : Ok y) (h : Tv w x v) (h' : Tv w y v') :
 Calls Tryz.prog 162 #[v, v'] w fun e w' => e = .returned (.bool (eqT x y)) /\ Below w.heap.size w w' := by
 have b1 : Below w.heap.size w (w.alloc visO) := bal w _
 have S := visit_same x y hx hy w.heap.size [] (w.alloc visO) (w.alloc visO) v v' (h.below b1) (h'.below b1) (Vs.new w) (fun q k f hm => by cases hm)
 obtain ⟨T, z, rfl⟩ := h.iface
 obtain ⟨T', z', rfl⟩ := h'.iface
 clear h h'
 go_enter_defers Tryz.func162, Tryz.ntmps162
 go_wp2_with fail
 refine S.mono ?_
 rintro e w1 ⟨rfl, L, hV, _⟩
 go_wp2_with fail
 refine leaves_cons (f := 198) (args := #[.pointer (some ⟨w.heap.size, 0, none⟩)]) (by simp) (by simp [go_sem]) ?_
 refine (zex w.heap.size L _ .returning w1 hV).mono ?_
 rintro e u' w2 ⟨rfl, rfl, hE⟩
 exact ⟨_, results_tmp rfl _ _ _, rfl, hE.below b1 (Nat.le_refl _)⟩
end Go.Proofs.YtceadeaodbadlaaGreatDoor
