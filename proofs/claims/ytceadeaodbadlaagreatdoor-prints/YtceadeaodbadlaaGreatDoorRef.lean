import Derived.Test.YtceadeaodbadlaaGreatDoorScan2
set_option linter.unusedVariables false
set_option linter.unusedSimpArgs false
namespace Go.Proofs.YtceadeaodbadlaaGreatDoor
open Go.RowKit

/-- A term of the reference, as its reader of expressions without types lays it. -/
structure Tm where
  op : Nat
  c : Nat
  a : Nat
  b : Nat
  at' : Nat
  to : Nat

def Tm.cells (t : Tm) : List Value :=
  [.int .u8 (t.op : Int), .int .u8 (t.c : Int), .int .i64 (t.a : Int), .int .i64 (t.b : Int), .slice none 0 0, .slice none 0 0, .slice none 0 0, .int .i64 (t.at' : Int), .int .i64 (t.to : Int)]

def flat (ts : List Tm) : List Value := ts.flatMap Tm.cells
theorem flat_append (ts us : List Tm) : flat (ts ++ us) = flat ts ++ flat us := by simp [flat]
theorem flat_length (ts : List Tm) : (flat ts).length = ts.length * 9 := by
  induction ts with
  | nil => rfl
  | cons t ts ih => simp only [flat, List.flatMap_cons, List.length_append, List.length_cons] at *; rw [ih]; simp [Tm.cells]; omega

/-- The reference's Reader, of a text without types, in block b: the text s, the place i, the fault's place bad, the terms ts. -/
def StV (b : Nat) (s : ByteArray) (i : Nat) (bad : Int) (ts : List Tm) (v : Value) (w : World) : Prop :=
  w.heap[b]? = some (.cells #[.string s, .bool false, .int .i64 (i : Int), .int .i64 bad, v] 70 (0, 0)) ∧ w.ownsRow b 76 9 v ts.length (flat ts) ∧ v.ownBlock ≠ some b
def St (b : Nat) (s : ByteArray) (i : Nat) (bad : Int) (ts : List Tm) (w : World) : Prop := ∃ v, StV b s i bad ts v w

/-- The block of the terms' row. -/
def rowOf (b : Nat) (w : World) : Option Nat := ((w.cell? ⟨b, 4, none⟩).getD .nilIface).ownBlock

theorem StV.cell {b : Nat} {s : ByteArray} {i : Nat} {bad : Int} {ts : List Tm} {v : Value} {w : World} (h : StV b s i bad ts v w) (j : Nat) : w.cell? ⟨b, j, none⟩ = #[Value.string s, .bool false, .int .i64 (i : Int), .int .i64 bad, v][j]? := by
  simp [World.cell?, h.1]
theorem StV.row {b : Nat} {s : ByteArray} {i : Nat} {bad : Int} {ts : List Tm} {v : Value} {w : World} (h : StV b s i bad ts v w) : rowOf b w = v.ownBlock := by
  unfold rowOf; rw [h.cell 4]; rfl

theorem St.c0 {b : Nat} {s : ByteArray} {i : Nat} {bad : Int} {ts : List Tm} {w : World} (h : St b s i bad ts w) : w.cell? ⟨b, 0, none⟩ = some (.string s) := by obtain ⟨v, h⟩ := h; rw [h.cell 0]; rfl
theorem St.c1 {b : Nat} {s : ByteArray} {i : Nat} {bad : Int} {ts : List Tm} {w : World} (h : St b s i bad ts w) : w.cell? ⟨b, 1, none⟩ = some (.bool false) := by obtain ⟨v, h⟩ := h; rw [h.cell 1]; rfl
theorem St.c2 {b : Nat} {s : ByteArray} {i : Nat} {bad : Int} {ts : List Tm} {w : World} (h : St b s i bad ts w) : w.cell? ⟨b, 2, none⟩ = some (.int .i64 (i : Int)) := by obtain ⟨v, h⟩ := h; rw [h.cell 2]; rfl
theorem St.c3 {b : Nat} {s : ByteArray} {i : Nat} {bad : Int} {ts : List Tm} {w : World} (h : St b s i bad ts w) : w.cell? ⟨b, 3, none⟩ = some (.int .i64 bad) := by obtain ⟨v, h⟩ := h; rw [h.cell 3]; rfl
theorem St.fz {b : Nat} {s : ByteArray} {i : Nat} {bad : Int} {ts : List Tm} {w : World} (h : St b s i bad ts w) (j : Nat) : w.frozen? ⟨b, j, none⟩ = false := by
  obtain ⟨v, h⟩ := h; simp [World.frozen?, h.1]
theorem St.lt {b : Nat} {s : ByteArray} {i : Nat} {bad : Int} {ts : List Tm} {w : World} (h : St b s i bad ts w) : b < w.heap.size := by
  obtain ⟨v, h⟩ := h; exact (Array.getElem?_eq_some_iff.1 h.1).1
theorem St.drewN {b : Nat} {s : ByteArray} {i : Nat} {bad : Int} {ts : List Tm} {w : World} (h : St b s i bad ts w) (n : Nat) : St b s i bad ts (w.drewN n) := h
theorem St.rowLt {b : Nat} {s : ByteArray} {i : Nat} {bad : Int} {ts : List Tm} {w : World} (h : St b s i bad ts w) {k : Nat} (hk : rowOf b w = some k) : k < w.heap.size := by
  obtain ⟨v, h⟩ := h
  rw [h.row] at hk
  exact (h.2.1.lt k hk).2

theorem grown_set (w : World) (b j : Nat) (u : Value) : w.grownBy (w.setCell ⟨b, j, none⟩ u) (some b) := ⟨rfl, rfl, rfl, by simp [World.setCell], fun i _ hn => Below.heap_setCell _ _ _ _ (by simpa using hn)⟩

theorem StV.setI {b : Nat} {s : ByteArray} {i : Nat} {bad : Int} {ts : List Tm} {v : Value} {w : World} (h : StV b s i bad ts v w) (j : Nat) : StV b s j bad ts v (w.setCell ⟨b, 2, none⟩ (.int .i64 (j : Int))) := by
  refine ⟨?_, h.2.1.kept (grown_set w b 2 _) (.inr h.2.2), h.2.2⟩
  have := h.1
  simp [World.setCell, Array.getElem?_modify, this]
theorem StV.setBad {b : Nat} {s : ByteArray} {i : Nat} {bad : Int} {ts : List Tm} {v : Value} {w : World} (h : StV b s i bad ts v w) (p : Int) : StV b s i p ts v (w.setCell ⟨b, 3, none⟩ (.int .i64 p)) := by
  refine ⟨?_, h.2.1.kept (grown_set w b 3 _) (.inr h.2.2), h.2.2⟩
  have := h.1
  simp [World.setCell, Array.getElem?_modify, this]
theorem St.setI {b : Nat} {s : ByteArray} {i : Nat} {bad : Int} {ts : List Tm} {w : World} (h : St b s i bad ts w) (j : Nat) : St b s j bad ts (w.setCell ⟨b, 2, none⟩ (.int .i64 (j : Int))) := by obtain ⟨v, h⟩ := h; exact ⟨v, h.setI j⟩
theorem St.setBad {b : Nat} {s : ByteArray} {i : Nat} {bad : Int} {ts : List Tm} {w : World} (h : St b s i bad ts w) (p : Int) : St b s i p ts (w.setCell ⟨b, 3, none⟩ (.int .i64 p)) := by obtain ⟨v, h⟩ := h; exact ⟨v, h.setBad p⟩

/-- w' is w with new blocks, and with writes to block b and to the terms' row alone. -/
structure Fr (b : Nat) (w w' : World) : Prop where
  os : w'.os = w.os
  tape : w'.tape = w.tape
  output : w'.output = w.output
  size : w.heap.size ≤ w'.heap.size
  block : ∀ k, k < w.heap.size → k ≠ b → some k ≠ rowOf b w → w'.heap[k]? = w.heap[k]?
  row : rowOf b w' = rowOf b w ∨ ∃ k, rowOf b w' = some k ∧ w.heap.size ≤ k

theorem Fr.refl (b : Nat) (w : World) : Fr b w w := ⟨rfl, rfl, rfl, Nat.le_refl _, fun _ _ _ _ => rfl, .inl rfl⟩
theorem Fr.trans {b : Nat} {x y z : World} (h : Fr b x y) (k : Fr b y z) : Fr b x z := by
  refine ⟨k.os.trans h.os, k.tape.trans h.tape, k.output.trans h.output, Nat.le_trans h.size k.size, fun i hi hb hr => ?_, ?_⟩
  · refine (k.block i (Nat.lt_of_lt_of_le hi h.size) hb ?_).trans (h.block i hi hb hr)
    rcases h.row with e | ⟨q, e, hq⟩
    · rw [e]; exact hr
    · rw [e]; intro e'; simp at e'; omega
  · rcases k.row with e | ⟨q, e, hq⟩
    · rcases h.row with e' | ⟨q, e', hq⟩
      · exact .inl (e.trans e')
      · exact .inr ⟨q, e.trans e', hq⟩
    · exact .inr ⟨q, e, Nat.le_trans h.size hq⟩
theorem Fr.drewN {b : Nat} {x y : World} (h : Fr b x y) (n : Nat) : Fr b x (y.drewN n) := ⟨h.os, h.tape, h.output, h.size, h.block, h.row⟩
theorem Fr.undrew {b n : Nat} {x y : World} (h : Fr b (x.drewN n) y) : Fr b x y := ⟨h.os, h.tape, h.output, h.size, h.block, h.row⟩

theorem rowOf_set {b j : Nat} {w : World} {u : Value} (hj : j ≠ 4) : rowOf b (w.setCell ⟨b, j, none⟩ u) = rowOf b w := by
  unfold rowOf
  rw [World.cell?_setCell_other w _ _ _ (by intro e; injection e with _ e2; exact hj e2)]
theorem rowOf_far {b q : Nat} {w : World} {a : Addr} {u : Value} (hq : a.block = q) (hb : q ≠ b) : rowOf b (w.setCell a u) = rowOf b w := by
  unfold rowOf
  rw [World.cell?_setCell_other w _ _ _ (by intro e; subst e; exact hb hq.symm)]
theorem Fr.setR {b : Nat} {x y : World} (h : Fr b x y) (j : Nat) (hj : j ≠ 4) (u : Value) : Fr b x (y.setCell ⟨b, j, none⟩ u) :=
  h.trans ⟨rfl, rfl, rfl, by simp [World.setCell], fun i _ hb _ => Below.heap_setCell _ _ _ _ hb, .inl (rowOf_set hj)⟩

theorem rowOf_alloc {b : Nat} {w : World} (o : Obj) (hb : b < w.heap.size) : rowOf b (w.alloc o) = rowOf b w := by
  unfold rowOf; rw [World.cell?_alloc_lt _ _ _ hb]
theorem Fr.alloc {b : Nat} {x y : World} (h : Fr b x y) (hb : b < y.heap.size) (o : Obj) : Fr b x (y.alloc o) :=
  h.trans ⟨rfl, rfl, rfl, by simp, fun i hi _ _ => Below.heap_alloc _ _ _ hi, .inl (rowOf_alloc o hb)⟩

theorem St.alloc {b : Nat} {s : ByteArray} {i : Nat} {bad : Int} {ts : List Tm} {w : World} (h : St b s i bad ts w) (o : Obj) : St b s i bad ts (w.alloc o) := by
  obtain ⟨v, h⟩ := h
  exact ⟨v, (Below.heap_alloc _ _ _ (Array.getElem?_eq_some_iff.1 h.1).1).trans h.1, h.2.1.alloc o, h.2.2⟩

set_option maxHeartbeats 400000 in
theorem rfail_new (b : Nat) (s : ByteArray) (i : Nat) (ts : List Tm) (w : World) (h : St b s i (-1) ts w) :
    Calls Tryz.prog 44 #[.pointer (some ⟨b, 0, none⟩)] w fun e w' => e = .returned (.tuple #[]) ∧ St b s i i ts w' ∧ Fr b w w' := by
  have h2 := h.c2
  have h3 := h.c3
  have f3 := h.fz 3
  go_enter Tryz.func44, Tryz.ntmps44
  go_wp2
  go_end0
  exact ⟨rfl, h.setBad i, (Fr.refl b w).setR 3 (by decide) _⟩

set_option maxHeartbeats 400000 in
theorem rfail_old (b : Nat) (s : ByteArray) (i p : Nat) (ts : List Tm) (w : World) (h : St b s i p ts w) :
    Calls Tryz.prog 44 #[.pointer (some ⟨b, 0, none⟩)] w fun e w' => e = .returned (.tuple #[]) ∧ w' = w := by
  have h3 := h.c3
  go_enter Tryz.func44, Tryz.ntmps44
  go_wp2
  go_end0
  exact ⟨rfl, rfl⟩

def inR (c lo hi : Nat) : Bool := decide (lo ≤ c) && decide (c ≤ hi)

set_option maxHeartbeats 1000000 in
theorem ris_bad (b : Nat) (s : ByteArray) (i p lo hi : Nat) (ts : List Tm) (w : World) (h : St b s i p ts w) :
    Calls Tryz.prog 104 #[.pointer (some ⟨b, 0, none⟩), .int .u8 (lo : Int), .int .u8 (hi : Int)] w fun e w' => e = .returned (.bool false) ∧ ∃ n, w' = w.drewN n := by
  have h3 := h.c3
  have hd : decide ((p : Int) < 0) = false := by simp
  go_enter Tryz.func104, Tryz.ntmps104
  go_wp2
  go_quiet (fail)
  go_wp2
  go_ret
  exact ⟨rfl, _, rfl⟩

set_option maxHeartbeats 1000000 in
theorem ris_ok (b : Nat) (s : ByteArray) (i lo hi : Nat) (ts : List Tm) (w : World) (h : St b s i (-1) ts w) (hi' : i ≤ s.size) (hs : s.size ≤ 100000) (hlo : 1 ≤ lo) :
    Calls Tryz.prog 104 #[.pointer (some ⟨b, 0, none⟩), .int .u8 (lo : Int), .int .u8 (hi : Int)] w fun e w' => e = .returned (.bool (inR (chr s i) lo hi)) ∧ ∃ n, w' = w.drewN n := by
  have h0 := h.c0
  have h2 := h.c2
  have h3 := h.c3
  clear h
  by_cases hlt : i < s.size
  · have hc : chr s i = s[i].toNat := by simp [chr, hlt]
    rw [hc]
    clear hc
    have d1 : decide ((i : Int) < (s.size : Int)) = true := by simp; omega
    by_cases h4 : lo ≤ s[i].toNat
    · have d2 : decide ((lo : Int) ≤ (s[i].toNat : Int)) = true := by simp; omega
      by_cases h5 : s[i].toNat ≤ hi
      · have d3 : decide ((s[i].toNat : Int) ≤ (hi : Int)) = true := by simp; omega
        have hr : inR s[i].toNat lo hi = true := by simp [inR, h4, h5]
        rw [hr]
        clear hr
        go_enter Tryz.func104, Tryz.ntmps104
        go_wp2
        go_quiet (fail)
        go_wp2
        go_ret
        exact ⟨rfl, _, rfl⟩
      · have d3 : decide ((s[i].toNat : Int) ≤ (hi : Int)) = false := by simp; omega
        have d3' : decide (s[i].toNat ≤ hi) = false := by simp; omega
        have hr : inR s[i].toNat lo hi = false := by simp [inR, h5]
        rw [hr]
        clear hr
        go_enter Tryz.func104, Tryz.ntmps104
        go_wp2
        go_quiet (fail)
        go_wp2
        go_ret
        exact ⟨rfl, _, rfl⟩
    · have d2 : decide ((lo : Int) ≤ (s[i].toNat : Int)) = false := by simp; omega
      have d2' : decide (lo ≤ s[i].toNat) = false := by simp; omega
      have hr : inR s[i].toNat lo hi = false := by simp [inR, h4]
      rw [hr]
      clear hr
      go_enter Tryz.func104, Tryz.ntmps104
      go_wp2
      go_quiet (fail)
      go_wp2
      go_ret
      exact ⟨rfl, _, rfl⟩
  · have d1 : decide ((i : Int) < (s.size : Int)) = false := by simp; omega
    have d1' : decide (i < s.size) = false := by simp; omega
    have hr : inR (chr s i) lo hi = false := by simp [inR, chr, hlt]; omega
    rw [hr]
    clear hr hlo
    go_enter Tryz.func104, Tryz.ntmps104
    go_wp2
    go_quiet (fail)
    go_wp2
    go_ret
    exact ⟨rfl, _, rfl⟩
end Go.Proofs.YtceadeaodbadlaaGreatDoor
