import Derived.Test.YtceadeaodbadlaaGreatDoorBuilder
set_option linter.unusedVariables false
set_option linter.unusedSimpArgs false
namespace Go.Proofs.YtceadeaodbadlaaGreatDoor
open Go.RowKit

/-- The builder that a Writer writes to, or none: it learns how long the text is. -/
abbrev wtp (m : Option Nat) : Value := .pointer (m.map fun b => ⟨b, 0, none⟩)

/-- A kind.Writer in block wb, that has written l. -/
structure Wi (m : Option Nat) (B wb : Nat) (nm sp : Value) (l : List UInt8) (w : World) : Prop where
  le : B ≤ wb
  blk : w.heap[wb]? = some (.cells #[wtp m, .int .i64 (l.length : Int), nm, sp] 170 (0, 0))
  bu : ∀ b, m = some b → Bu B b l w ∧ b ≠ wb

/-- .. and no other memory has turned, but rows of bytes. -/
def Kw (m : Option Nat) (B wb : Nat) (w w' : World) : Prop :=
  Below B w w' ∧ ∀ k o, w.heap[k]? = some o → k ≠ wb → m ≠ some k → (∀ c fz, o ≠ .cells c 5 fz) → w'.heap[k]? = some o

theorem Kw.refl (m : Option Nat) (B wb : Nat) (w : World) : Kw m B wb w w := ⟨Below.refl B w, fun _ _ h _ _ _ => h⟩
theorem Kw.trans {m : Option Nat} {B wb : Nat} {x y z : World} (h : Kw m B wb x y) (k : Kw m B wb y z) : Kw m B wb x z :=
  ⟨h.1.trans k.1, fun q o h1 h2 h3 h4 => k.2 q o (h.2 q o h1 h2 h3 h4) h2 h3 h4⟩
theorem Kw.alloc {m : Option Nat} {B wb : Nat} {x y : World} (h : Kw m B wb x y) (hB : B ≤ y.heap.size) (o : Obj) : Kw m B wb x (y.alloc o) :=
  ⟨h.1.alloc hB o, fun q o' h1 h2 h3 h4 => by
    have := h.2 q o' h1 h2 h3 h4
    exact (Lib.alloc_old y o q (Array.getElem?_eq_some_iff.1 this).1).trans this⟩
theorem Kw.drewN {m : Option Nat} {B wb : Nat} {x y : World} (h : Kw m B wb x y) (n : Nat) : Kw m B wb x (y.drewN n) := ⟨below_drewN h.1 n, fun q o h1 h2 h3 h4 => h.2 q o h1 h2 h3 h4⟩
theorem Kw.undrew {m : Option Nat} {B wb n : Nat} {w w' : World} (h : Kw m B wb (w.drewN n) w') : Kw m B wb w w' := ⟨⟨h.1.os, h.1.tape, h.1.output, h.1.size, h.1.block⟩, h.2⟩
theorem Kw.size {m : Option Nat} {B wb : Nat} {x y : World} (h : Kw m B wb x y) : x.heap.size ≤ y.heap.size := h.1.size
theorem Kw.box {m : Option Nat} {B wb : Nat} {w w' : World} (h : Kw m B wb w w') {k : Nat} {cs : Array Value} {T : TypeId} {fz : Nat × Nat} (hk : w.heap[k]? = some (.cells cs T fz)) (hw : k ≠ wb) (hm : m ≠ some k) (hT : T ≠ 5) : w'.heap[k]? = some (.cells cs T fz) :=
  h.2 k _ hk hw hm (fun c fz' e => hT (by injection e))

theorem Bu.alloc {B b : Nat} {l : List UInt8} {w : World} (h : Bu B b l w) (o : Obj) : Bu B b l (w.alloc o) := by
  rcases h with h | h
  · exact .inl (h.alloc o)
  · exact .inr (h.alloc o)
theorem Bu.le {B b : Nat} {l : List UInt8} {w : World} (h : Bu B b l w) : B ≤ b ∧ b < w.heap.size := by
  rcases h with h | h
  · exact ⟨h.1, h.lt⟩
  · exact ⟨h.1, h.lt⟩
theorem Bu.far {B b : Nat} {l : List UInt8} {w : World} (h : Bu B b l w) {q o : Nat} {cs : Array Value} {T : TypeId} {fz : Nat × Nat} (hq : w.heap[q]? = some (.cells cs T fz)) (hT : T ≠ 5) (hb : b ≠ q) (v : Value) : Bu B b l (w.setCell ⟨q, o, none⟩ v) := by
  rcases h with ⟨hB, v0, hbk, hown, hne⟩ | ⟨hB, v0, hbk, hown, hne⟩
  · refine .inl ⟨hB, v0, ?_, ?_, hne⟩
    · rw [Below.heap_setCell _ _ _ _ (by show ¬ _; simp; omega)]; exact hbk
    · exact hown.kept (row := some q) ⟨rfl, rfl, rfl, by simp [World.setCell], fun k _ hk => Below.heap_setCell _ _ _ _ (fun e => hk (by simp [e]))⟩ (Or.inr (Lib.ownBlock_neF hown hq hT))
  · refine .inr ⟨hB, v0, ?_, ?_, hne⟩
    · rw [Below.heap_setCell _ _ _ _ (by show ¬ _; simp; omega)]; exact hbk
    · exact hown.kept (row := some q) ⟨rfl, rfl, rfl, by simp [World.setCell], fun k _ hk => Below.heap_setCell _ _ _ _ (fun e => hk (by simp [e]))⟩ (Or.inr (Lib.ownBlock_neF hown hq hT))

theorem Wi.alloc {m : Option Nat} {B wb : Nat} {nm sp : Value} {l : List UInt8} {w : World} (h : Wi m B wb nm sp l w) (o : Obj) : Wi m B wb nm sp l (w.alloc o) :=
  ⟨h.le, (Lib.alloc_old w o wb (Array.getElem?_eq_some_iff.1 h.blk).1).trans h.blk, fun b hb => ⟨(h.bu b hb).1.alloc o, (h.bu b hb).2⟩⟩
theorem Wi.drewN {m : Option Nat} {B wb : Nat} {nm sp : Value} {l : List UInt8} {w : World} (h : Wi m B wb nm sp l w) (n : Nat) : Wi m B wb nm sp l (w.drewN n) := ⟨h.le, h.blk, h.bu⟩
theorem Wi.drew {m : Option Nat} {B wb : Nat} {nm sp : Value} {l : List UInt8} {w : World} (h : Wi m B wb nm sp l w) : Wi m B wb nm sp l w.drew := ⟨h.le, h.blk, h.bu⟩
theorem Wi.lt {m : Option Nat} {B wb : Nat} {nm sp : Value} {l : List UInt8} {w : World} (h : Wi m B wb nm sp l w) : wb < w.heap.size := (Array.getElem?_eq_some_iff.1 h.blk).1
theorem Wi.mlt {m : Option Nat} {B wb : Nat} {nm sp : Value} {l : List UInt8} {w : World} (h : Wi m B wb nm sp l w) : m ≠ some w.heap.size := by
  intro e
  have := (h.bu _ e).1.le.2
  omega

theorem len_wrap {n : Nat} (h : n + 1 ≤ 140737488355328) : IntKind.i64.wrap ((n : Int) + 1) = (n : Int) + 1 := by
  rw [IntKind.wrap_i64]; omega

set_option maxHeartbeats 1000000 in
set_option maxRecDepth 100000 in
theorem byte_learn (B wb : Nat) (nm sp : Value) (l : List UInt8) (c : Nat) (w : World) (h : Wi none B wb nm sp l w) (hl : l.length + 1 ≤ 140737488355328) :
    Calls Tryz.prog 114 #[.pointer (some ⟨wb, 0, none⟩), .int .u8 (c : Int)] w fun e w' => e = .returned (.tuple #[]) ∧ w' = w.setCell ⟨wb, 1, none⟩ (.int .i64 ((l.length : Int) + 1)) := by
  have c0 : w.cell? ⟨wb, 0, none⟩ = some (.pointer none) := by rw [Lib.cell_of_heap h.blk]; rfl
  have c1 : w.cell? ⟨wb, 1, none⟩ = some (.int .i64 (l.length : Int)) := by rw [Lib.cell_of_heap h.blk]; rfl
  have f1 : w.frozen? ⟨wb, 1, none⟩ = false := Lib.frozen_of_heap h.blk 1
  have hw := len_wrap hl
  clear h hl
  generalize l.length = n at *
  go_enter Tryz.func114, Tryz.ntmps114
  go_wp2_with fail
  go_end0
  exact ⟨rfl, rfl⟩

set_option maxHeartbeats 1000000 in
set_option maxRecDepth 100000 in
theorem byte_write (B b wb : Nat) (nm sp : Value) (l : List UInt8) (c : Nat) (w : World) (h : Wi (some b) B wb nm sp l w) (hc : c < 256) (hl : l.length + 1 ≤ 140737488355328) (hB : B ≤ w.heap.size) :
    Calls Tryz.prog 114 #[.pointer (some ⟨wb, 0, none⟩), .int .u8 (c : Int)] w fun e w' => e = .returned (.tuple #[]) ∧ Bu B b (l ++ [u8 c]) w' ∧ Kb B b (w.setCell ⟨wb, 1, none⟩ (.int .i64 ((l.length : Int) + 1))) w' := by
  have c0 : w.cell? ⟨wb, 0, none⟩ = some (.pointer (some ⟨b, 0, none⟩)) := by rw [Lib.cell_of_heap h.blk]; rfl
  have c1 : w.cell? ⟨wb, 1, none⟩ = some (.int .i64 (l.length : Int)) := by rw [Lib.cell_of_heap h.blk]; rfl
  have f1 : w.frozen? ⟨wb, 1, none⟩ = false := Lib.frozen_of_heap h.blk 1
  have hw := len_wrap hl
  obtain ⟨hbu, hne⟩ := h.bu b rfl
  have hb1 := hbu.far h.blk (by decide) hne (o := 1) (.int .i64 ((l.length : Int) + 1))
  have W := writeByte_bu B b l c _ hb1 hc hl (by simpa [World.setCell] using hB)
  clear h hl hbu hb1 hB hc
  generalize l.length = n at *
  go_enter Tryz.func114, Tryz.ntmps114
  go_wp2_with fail
  refine W.mono ?_
  rintro e w1 ⟨rfl, h1, h2⟩
  go_wp2_with fail
  go_end0
  exact ⟨rfl, h1, h2⟩

theorem Wi.set {m : Option Nat} {B wb : Nat} {nm sp : Value} {l : List UInt8} {w : World} (h : Wi m B wb nm sp l w) (v : Value) : (w.setCell ⟨wb, 1, none⟩ v).heap[wb]? = some (.cells #[wtp m, v, nm, sp] 170 (0, 0)) := by
  have := h.blk
  simp [World.setCell, Array.getElem?_modify, this]
theorem Kw.set (m : Option Nat) (B wb : Nat) (hB : B ≤ wb) (o : Nat) (w : World) (v : Value) : Kw m B wb w (w.setCell ⟨wb, o, none⟩ v) :=
  ⟨(Below.refl B w).setCell (p := ⟨wb, o, none⟩) hB _, fun k o' h1 h2 _ _ => by rw [Below.heap_setCell _ _ _ _ (by show ¬ _; simp; omega)]; exact h1⟩
theorem Kb.kw {B b wb : Nat} {w w' : World} (h : Kb B b w w') : Kw (some b) B wb w w' :=
  ⟨h.1, fun k o h1 h2 h3 h4 => h.2 k o h1 (by intro e; exact h3 (by rw [e])) h4⟩

theorem byte_any (m : Option Nat) (B wb : Nat) (nm sp : Value) (l : List UInt8) (c : Nat) (w : World) (h : Wi m B wb nm sp l w) (hc : c < 256) (hl : l.length + 1 ≤ 140737488355328) (hB : B ≤ w.heap.size) :
    Calls Tryz.prog 114 #[.pointer (some ⟨wb, 0, none⟩), .int .u8 (c : Int)] w fun e w' => e = .returned (.tuple #[]) ∧ Wi m B wb nm sp (l ++ [u8 c]) w' ∧ Kw m B wb w w' := by
  cases m with
  | none =>
    refine (byte_learn B wb nm sp l c w h hl).mono ?_
    rintro e w' ⟨rfl, rfl⟩
    exact ⟨rfl, ⟨h.le, by rw [h.set]; simp, fun b hb => by cases hb⟩, Kw.set _ _ _ h.le _ _ _⟩
  | some b =>
    refine (byte_write B b wb nm sp l c w h hc hl hB).mono ?_
    rintro e w' ⟨rfl, h1, h2⟩
    have hk : Kw (some b) B wb (w.setCell ⟨wb, 1, none⟩ (.int .i64 ((l.length : Int) + 1))) w' := h2.kw
    refine ⟨rfl, ⟨h.le, ?_, fun b' hb => ?_⟩, (Kw.set _ _ _ h.le _ _ _).trans hk⟩
    · have := h2.2 wb _ (h.set (.int .i64 ((l.length : Int) + 1))) (by have := (h.bu b rfl).2; simp; omega) (fun c fz e => by injection e with _ e2; exact absurd e2 (by decide))
      rw [this]; simp
    · cases hb; exact ⟨h1, (h.bu b rfl).2⟩
end Go.Proofs.YtceadeaodbadlaaGreatDoor
