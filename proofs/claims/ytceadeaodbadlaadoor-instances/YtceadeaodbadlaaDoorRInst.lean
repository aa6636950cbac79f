import Derived.Test.YtceadeaodbadlaaDoorFirst
import Derived.Test.YtceadeaodbadlaaDoorRSame
set_option linter.unusedVariables false
set_option linter.unusedSimpArgs false
namespace Go.Proofs.YtceadeaodbadlaaDoor
open Go.RowKit

/-- What was met so far: variables and the types in their places, each with its block and its capacity. -/
abbrev Met : Type := Nat × Ty × Nat × Nat
abbrev mv (e : Met) : Value := .int .i64 ((e.1 + 30 : Nat) : Int)
abbrev ml (e : Met) : Value := .slice (some ⟨e.2.2.1, 0, none⟩) (sz e.2.1) e.2.2.2

structure ISr (B : Nat) (ls : List Met) (vv vl : Value) (w : World) : Prop where
  vars : w.ownsRow B 3 1 vv ls.length (ls.map mv)
  tys : w.ownsRow B 38 1 vl ls.length (ls.map ml)
  ok : ∀ e ∈ ls, Rg e.2.2.1 e.2.1 w ∧ sz e.2.1 ≤ 100000 ∧ vv.ownBlock ≠ some e.2.2.1 ∧ vl.ownBlock ≠ some e.2.2.1
  ne : vv.ownBlock = none ∨ vv.ownBlock ≠ vl.ownBlock
def IS (B : Nat) (l : List (Nat × Ty)) (vv vl : Value) (w : World) : Prop := ∃ ls : List Met, ls.map (fun e => (e.1, e.2.1)) = l ∧ ISr B ls vv vl w

/-- w' is w but for the two rows and for new blocks. -/
structure FI (vv vl : Value) (w w' : World) : Prop where
  os : w'.os = w.os
  tape : w'.tape = w.tape
  output : w'.output = w.output
  size : w.heap.size ≤ w'.heap.size
  block : ∀ k, k < w.heap.size → some k ≠ vv.ownBlock → some k ≠ vl.ownBlock → w'.heap[k]? = w.heap[k]?
def NewOr (w : World) (v v' : Value) : Prop := v'.ownBlock = v.ownBlock ∨ ∃ k, v'.ownBlock = some k ∧ w.heap.size ≤ k

theorem FI.ofBelow {vv vl : Value} {w w' : World} (h : Below w.heap.size w w') : FI vv vl w w' := ⟨h.os, h.tape, h.output, h.size, fun k hk _ _ => h.block k hk⟩
theorem NewOr.refl (w : World) (v : Value) : NewOr w v v := .inl rfl
theorem NewOr.trans {w w' : World} {a b c : Value} (h : NewOr w a b) (k : NewOr w' b c) (hs : w.heap.size ≤ w'.heap.size) : NewOr w a c := by
  rcases k with e | ⟨q, e, hq⟩
  · rcases h with e' | ⟨q, e', hq⟩
    · exact .inl (e.trans e')
    · exact .inr ⟨q, e.trans e', hq⟩
  · exact .inr ⟨q, e, Nat.le_trans hs hq⟩
theorem NewOr.ne {w : World} {a b : Value} (h : NewOr w a b) {k : Nat} (hk : k < w.heap.size) (hn : a.ownBlock ≠ some k) : b.ownBlock ≠ some k := by
  rcases h with e | ⟨q, e, hq⟩
  · rw [e]; exact hn
  · rw [e]; intro e'; cases e'; omega
theorem FI.trans {vv vl vv' vl' : Value} {w w1 w2 : World} (h : FI vv vl w w1) (hv : NewOr w vv vv') (hl : NewOr w vl vl') (k : FI vv' vl' w1 w2) : FI vv vl w w2 :=
  ⟨k.os.trans h.os, k.tape.trans h.tape, k.output.trans h.output, Nat.le_trans h.size k.size, fun i hi h1 h2 =>
    (k.block i (Nat.lt_of_lt_of_le hi h.size) (fun e => (hv.ne hi (fun e' => h1 e'.symm)) e.symm) (fun e => (hl.ne hi (fun e' => h2 e'.symm)) e.symm)).trans (h.block i hi h1 h2)⟩
theorem FI.rg {vv vl : Value} {w w' : World} (h : FI vv vl w w') {g : Nat} {t : Ty} (hR : Rg g t w) (h1 : vv.ownBlock ≠ some g) (h2 : vl.ownBlock ≠ some g) : Rg g t w' :=
  ⟨hR.ok, Nat.lt_of_lt_of_le hR.lt h.size, fun k n hk => by
    have hb := h.block g hR.lt (fun e => h1 e.symm) (fun e => h2 e.symm)
    have e : ∀ j, w'.cell? ⟨g, j, none⟩ = w.cell? ⟨g, j, none⟩ := fun j => World.cell?_of_block (w := w) (a := ⟨g, j, none⟩) hb
    rw [e, e, e]
    exact hR.cell k n hk⟩

theorem below_grown {w w' : World} (h : Below w.heap.size w w') (row : Option Nat) : w.grownBy w' row := ⟨h.os, h.tape, h.output, h.size, fun k hk _ => h.block k hk⟩
theorem own_kept {w w' : World} {B : Nat} {e : TypeId} {n m : Nat} {v : Value} {xs : List Value} (h : w.ownsRow B e n v m xs) (hb : Below w.heap.size w w') : w'.ownsRow B e n v m xs := by
  refine h.kept (below_grown hb none) ?_
  cases v.ownBlock with
  | none => exact .inl rfl
  | some k => exact .inr (by simp)
theorem ISr.below {B : Nat} {ls : List Met} {vv vl : Value} {w w' : World} (h : ISr B ls vv vl w) (hb : Below w.heap.size w w') : ISr B ls vv vl w' :=
  ⟨own_kept h.vars hb, own_kept h.tys hb, fun e he => ⟨(h.ok e he).1.below hb, (h.ok e he).2⟩, h.ne⟩
theorem IS.below {B : Nat} {l : List (Nat × Ty)} {vv vl : Value} {w w' : World} (h : IS B l vv vl w) (hb : Below w.heap.size w w') : IS B l vv vl w' := by
  obtain ⟨ls, h1, h2⟩ := h
  exact ⟨ls, h1, h2.below hb⟩
theorem ISr.vlt {B : Nat} {ls : List Met} {vv vl : Value} {w : World} (h : ISr B ls vv vl w) : ∀ k, vv.ownBlock = some k → k < w.heap.size := fun k hk => (h.vars.lt k hk).2
theorem ISr.llt {B : Nat} {ls : List Met} {vv vl : Value} {w : World} (h : ISr B ls vv vl w) : ∀ k, vl.ownBlock = some k → k < w.heap.size := fun k hk => (h.tys.lt k hk).2

/-- What instance leaves. -/
def IPost (B : Nat) (vv vl : Value) (r : Option (List (Nat × Ty))) (w : World) (e : Ending) (w' : World) : Prop :=
  ∃ vv' vl', e = .returned (.tuple #[vv', vl', .bool r.isSome]) ∧ FI vv vl w w' ∧ NewOr w vv vv' ∧ NewOr w vl vl' ∧ ∀ m, r = some m → IS B m vv' vl' w'

/-- A type's value at hand, apart from the two rows. -/
structure TV (g : Nat) (t : Ty) (vv vl : Value) (w : World) : Prop where
  rg : Rg g t w
  small : sz t ≤ 100000
  nv : vv.ownBlock ≠ some g
  nl : vl.ownBlock ≠ some g
theorem TV.below {g : Nat} {t : Ty} {vv vl : Value} {w w' : World} (h : TV g t vv vl w) (hb : Below w.heap.size w w') : TV g t vv vl w' := ⟨h.rg.below hb, h.small, h.nv, h.nl⟩
theorem TV.fi {g : Nat} {t : Ty} {vv vl vv' vl' : Value} {w w' : World} (h : TV g t vv vl w) (hf : FI vv vl w w') (hv : NewOr w vv vv') (hl : NewOr w vl vl') : TV g t vv' vl' w' :=
  ⟨hf.rg h.rg h.nv h.nl, h.small, hv.ne h.rg.lt h.nv, hl.ne h.rg.lt h.nl⟩

def InstAt (t s : Ty) : Prop := ∀ (B : Nat) (l : List (Nat × Ty)) (vv vl : Value) (g cap g' cap' : Nat) (w : World), IS B l vv vl w → B ≤ w.heap.size → TV g t vv vl w → TV g' s vv vl w → l.length + sz t ≤ 200000 →
  Calls Tryd.prog 19 #[.agg #[.slice (some ⟨g, 0, none⟩) (sz t) cap], .agg #[.slice (some ⟨g', 0, none⟩) (sz s) cap'], vv, vl] w (IPost B vv vl (fitsT t s l) w)
end Go.Proofs.YtceadeaodbadlaaDoor
