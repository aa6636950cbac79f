import Derived.Test.YtceadeaodbadlaaGreatDoorForm3
set_option linter.unusedVariables false
set_option linter.unusedSimpArgs false
namespace Go.Proofs.YtceadeaodbadlaaGreatDoor
open Go.RowKit

theorem Fo.formAt {ts : List Tm} {k kd : Nat} {f : List UInt8} (h : Fo ts k kd f) (B : Nat) (more : List Tm) (v : Value) (hl : (ts ++ more).length ≤ 2000) : FormAt B (ts ++ more) v k f :=
  fun w hw => h.2.2 B more v w hl hw
theorem Fo.more {ts : List Tm} {k kd : Nat} {f : List UInt8} (h : Fo ts k kd f) (more : List Tm) : Fo (ts ++ more) k kd f := by
  obtain ⟨⟨t, ht, hk⟩, hf, h3⟩ := h
  refine ⟨⟨t, by rw [List.getElem?_append_left (List.getElem?_eq_some_iff.1 ht).1]; exact ht, hk⟩, hf, fun B m v w hl hw => ?_⟩
  rw [List.append_assoc] at hl hw
  exact h3 B (more ++ m) v w hl hw
theorem Fo.lt {ts : List Tm} {k kd : Nat} {f : List UInt8} (h : Fo ts k kd f) : k < ts.length := by
  obtain ⟨⟨t, ht, _⟩, _⟩ := h; exact (List.getElem?_eq_some_iff.1 ht).1

theorem last_get (ts more : List Tm) (t : Tm) : (ts ++ [t] ++ more)[ts.length]? = some t := by simp

theorem Fo.atom (ts : List Tm) (op c ta tb tat tto : Nat) (hop : op = 120 ∨ op = 48) (hc : c < 256) : Fo (ts ++ [⟨op, c, ta, tb, tat, tto⟩]) ts.length 0 [u8 c] :=
  ⟨⟨⟨op, c, ta, tb, tat, tto⟩, by simp, .inl ⟨rfl, hop⟩⟩, by simp, fun B more v w hl hw => form_atom B _ ts.length op c ta tb tat tto v w hop hc hl (last_get ts more _) hw⟩

theorem Fo.fn (ts : List Tm) (c ta tb tat tto kd : Nat) (f : List UInt8) (hc : c < 256) (h : Fo ts ta kd f) (hf : f.length ≤ 90000) : Fo (ts ++ [⟨92, c, ta, tb, tat, tto⟩]) ts.length 2 (92 :: u8 c :: 46 :: f) := by
  refine ⟨⟨⟨92, c, ta, tb, tat, tto⟩, by simp, .inr (.inr ⟨rfl, .inl rfl⟩)⟩, by simp; omega, fun B more v w hl hw => ?_⟩
  have hlt := h.lt
  refine form_fn B _ ts.length c ta tb tat tto f v w hc hl (by simp; omega) (by omega) (last_get ts more _) hw ?_
  have := h.formAt B ([⟨92, c, ta, tb, tat, tto⟩] ++ more) v (by rw [← List.append_assoc]; exact hl)
  rwa [← List.append_assoc] at this

theorem Fo.lt' (ts : List Tm) (c ta tb tat tto kd kd' : Nat) (f f' : List UInt8) (hc : c < 256) (h : Fo ts ta kd f) (h' : Fo ts tb kd' f') (hf : f.length + f'.length ≤ 90000) : Fo (ts ++ [⟨64, c, ta, tb, tat, tto⟩]) ts.length 2 (64 :: u8 c :: 61 :: (f ++ 59 :: f')) := by
  refine ⟨⟨⟨64, c, ta, tb, tat, tto⟩, by simp, .inr (.inr ⟨rfl, .inr rfl⟩)⟩, by simp; omega, fun B more v w hl hw => ?_⟩
  have hlt := h.lt
  have hlt' := h'.lt
  refine form_let B _ ts.length c ta tb tat tto f f' v w hc hl (by simp; omega) (by simp; omega) (by omega) (by omega) (last_get ts more _) hw ?_ ?_
  · have := h.formAt B ([⟨64, c, ta, tb, tat, tto⟩] ++ more) v (by rw [← List.append_assoc]; exact hl)
    rwa [← List.append_assoc] at this
  · have := h'.formAt B ([⟨64, c, ta, tb, tat, tto⟩] ++ more) v (by rw [← List.append_assoc]; exact hl)
    rwa [← List.append_assoc] at this

theorem Fo.call (ts : List Tm) (c ta tb tat tto kd kd' : Nat) (f f' : List UInt8) (hc : c < 256) (h : Fo ts ta kd f) (h' : Fo ts tb kd' f') (hf : f.length + f'.length ≤ 90000) : Fo (ts ++ [⟨99, c, ta, tb, tat, tto⟩]) ts.length 1 (firstOf kd f ++ secondOf kd' f') := by
  have l1 : (firstOf kd f).length ≤ f.length + 2 := by unfold firstOf; split <;> simp
  have l2 : (secondOf kd' f').length ≤ f'.length + 2 := by unfold secondOf; split <;> simp
  refine ⟨⟨⟨99, c, ta, tb, tat, tto⟩, by simp, .inr (.inl ⟨rfl, rfl⟩)⟩, by simp; omega, fun B more v w hl hw => ?_⟩
  have hlt := h.lt
  have hlt' := h'.lt
  have e : ts ++ [⟨99, c, ta, tb, tat, tto⟩] ++ more = ts ++ ([⟨99, c, ta, tb, tat, tto⟩] ++ more) := by rw [List.append_assoc]
  refine form_call B _ ts.length c ta tb tat tto _ _ v w hc hl (by simp; omega) (by simp; omega) (by omega) (by omega) (last_get ts more _) hw ?_ ?_
  · obtain ⟨⟨t, ht, hk⟩, _, _⟩ := id h
    intro w2 hw2
    rw [e] at hw2 hl
    exact first_any B _ ta kd t.op t.c t.a t.b t.at' t.to f v w2 hl (by omega) (by rw [List.getElem?_append_left hlt]; exact ht) hk hw2 (h.formAt B _ v hl)
  · obtain ⟨⟨t, ht, hk⟩, _, _⟩ := id h'
    intro w2 hw2
    rw [e] at hw2 hl
    exact second_any B _ tb kd' t.op t.c t.a t.b t.at' t.to f' v w2 hl (by omega) (by rw [List.getElem?_append_left hlt']; exact ht) hk hw2 (h'.formAt B _ v hl)

/-- What the reference's readers leave. -/
def RPost (b : Nat) (s : ByteArray) (r : Out) (i : Nat) (ts : List Tm) (w : World) (e : Ending) (w' : World) : Prop :=
  Fr b w w' ∧ match r with
    | .error p => ∃ (k : Nat) (us : List Tm), e = .returned (.int .i64 (k : Int)) ∧ St b s p p (ts ++ us) w' ∧ us.length ≤ 2 * (s.size - i) + 2
    | .ok (kd, f, j) => ∃ (k : Nat) (us : List Tm), e = .returned (.int .i64 (k : Int)) ∧ k + 1 = (ts ++ us).length ∧ St b s j (-1) (ts ++ us) w' ∧ us.length + 1 ≤ 2 * (j - i) ∧ Fo (ts ++ us) k kd f

/-- 'expr' comes to what the grammar says. -/
def RExpr (b : Nat) (s : ByteArray) (n : Nat) : Prop :=
  ∀ (i : Nat) (ts : List Tm) (w : World), St b s i (-1) ts w → i ≤ s.size → 3 * (s.size - i) + 2 ≤ n → ts.length + 2 * (s.size - i) + 2 ≤ 900 →
    Calls Tryz.prog 46 #[.pointer (some ⟨b, 0, none⟩)] w (RPost b s (pr s n 0 i 0 []) i ts w)
def RAtom (b : Nat) (s : ByteArray) (n : Nat) : Prop :=
  ∀ (i : Nat) (ts : List Tm) (w : World), St b s i (-1) ts w → i ≤ s.size → 3 * (s.size - i) + 1 ≤ n → ts.length + 2 * (s.size - i) + 2 ≤ 900 →
    Calls Tryz.prog 76 #[.pointer (some ⟨b, 0, none⟩)] w (RPost b s (pr s n 2 i 0 []) i ts w)

/-- A term that is laid where nothing is read. -/
def dummy : Tm := ⟨48, 48, 0, 0, 0, 0⟩

set_option maxHeartbeats 1000000 in
theorem rexpr_bad (b : Nat) (s : ByteArray) (i p : Nat) (ts : List Tm) (w : World) (h : St b s i p ts w) (hl : ts.length ≤ 1000) :
    Calls Tryz.prog 46 #[.pointer (some ⟨b, 0, none⟩)] w fun e w' => e = .returned (.int .i64 (ts.length : Int)) ∧ St b s i p (ts ++ [dummy]) w' ∧ Fr b w w' := by
  have c2 := h.c2
  have c3 := h.c3
  go_enter Tryz.func46, Tryz.ntmps46
  go_wp2_with fail
  refine (radd_any b s i p ts w dummy h hl).mono ?_
  rintro e w' ⟨rfl, h1, k1⟩
  go_wp2_with fail
  go_ret
  exact ⟨rfl, h1, k1⟩

/-- A local term, in a block of its own. -/
def Bx (q : Nat) (t : Tm) (w : World) : Prop := w.heap[q]? = some (.cells #[.int .u8 (t.op : Int), .int .u8 (t.c : Int), .int .i64 (t.a : Int), .int .i64 (t.b : Int), .slice none 0 0, .slice none 0 0, .slice none 0 0, .int .i64 (t.at' : Int), .int .i64 (t.to : Int)] 76 (0, 0))

theorem Bx.fr {b q : Nat} {t : Tm} {w w' : World} (h : Bx q t w) (k : Fr b w w') (hb : q ≠ b) (hr : rowOf b w ≠ some q) : Bx q t w' := by
  unfold Bx at *
  rw [k.block q (Array.getElem?_eq_some_iff.1 h).1 hb (Ne.symm hr)]; exact h
theorem Fr.rowNe {b q : Nat} {w w' : World} (k : Fr b w w') (hr : rowOf b w ≠ some q) (hq : q < w.heap.size) : rowOf b w' ≠ some q := by
  rcases k.row with e | ⟨m, e, hm⟩
  · rw [e]; exact hr
  · rw [e]; simp; omega
theorem Bx.setC {q : Nat} {t : Tm} {w : World} (h : Bx q t w) (c : Nat) : Bx q ⟨t.op, c, t.a, t.b, t.at', t.to⟩ (w.setCell ⟨q, 1, none⟩ (.int .u8 (c : Int))) := by
  unfold Bx at *; simp [World.setCell, Array.getElem?_modify, h]
theorem Bx.setA {q : Nat} {t : Tm} {w : World} (h : Bx q t w) (a : Nat) : Bx q ⟨t.op, t.c, a, t.b, t.at', t.to⟩ (w.setCell ⟨q, 2, none⟩ (.int .i64 (a : Int))) := by
  unfold Bx at *; simp [World.setCell, Array.getElem?_modify, h]
theorem Bx.setB {q : Nat} {t : Tm} {w : World} (h : Bx q t w) (a : Nat) : Bx q ⟨t.op, t.c, t.a, a, t.at', t.to⟩ (w.setCell ⟨q, 3, none⟩ (.int .i64 (a : Int))) := by
  unfold Bx at *; simp [World.setCell, Array.getElem?_modify, h]
theorem St.setFar {b q j : Nat} {s : ByteArray} {i : Nat} {bad : Int} {ts : List Tm} {w : World} {u : Value} (h : St b s i bad ts w) (hb : q ≠ b) (hr : rowOf b w ≠ some q) : St b s i bad ts (w.setCell ⟨q, j, none⟩ u) := by
  obtain ⟨v, h⟩ := h
  refine ⟨v, ?_, h.2.1.kept (grown_set w q j u) (.inr (by rw [← h.row]; exact hr)), h.2.2⟩
  rw [Below.heap_setCell _ _ _ _ (Ne.symm hb)]; exact h.1
theorem Fr.setNew {b q j : Nat} {w w' : World} {u : Value} (h : Fr b w w') (hb : q ≠ b) (hq : w.heap.size ≤ q) : Fr b w (w'.setCell ⟨q, j, none⟩ u) := by
  refine ⟨h.os, h.tape, h.output, by simp only [World.setCell, Array.size_modify]; exact h.size, fun k hk hkb hkr => ?_, ?_⟩
  · rw [Below.heap_setCell _ _ _ _ (by show k ≠ q; omega)]; exact h.block k hk hkb hkr
  · rw [rowOf_far (a := ⟨q, j, none⟩) rfl hb]; exact h.row
theorem rowNe_new {b : Nat} {s : ByteArray} {i : Nat} {bad : Int} {ts : List Tm} {w : World} (h : St b s i bad ts w) (o : Obj) : rowOf b (w.alloc o) ≠ some w.heap.size := by
  rw [rowOf_alloc o h.lt]; intro e; have := h.rowLt e; omega
theorem rowNe_set {b q j : Nat} {w : World} {u : Value} (hb : q ≠ b) (hr : rowOf b w ≠ some q) : rowOf b (w.setCell ⟨q, j, none⟩ u) ≠ some q := by
  rw [rowOf_far (a := ⟨q, j, none⟩) rfl hb]; exact hr
theorem Bx.lt {q : Nat} {t : Tm} {w : World} (h : Bx q t w) : q < w.heap.size := (Array.getElem?_eq_some_iff.1 h).1
theorem Bx.c (j : Nat) {q : Nat} {t : Tm} {w : World} (h : Bx q t w) : w.cell? ⟨q, j, none⟩ = #[Value.int .u8 (t.op : Int), .int .u8 (t.c : Int), .int .i64 (t.a : Int), .int .i64 (t.b : Int), .slice none 0 0, .slice none 0 0, .slice none 0 0, .int .i64 (t.at' : Int), .int .i64 (t.to : Int)][j]? := by
  unfold Bx at h; simp [World.cell?, h]
theorem Bx.fz {q : Nat} {t : Tm} {w : World} (h : Bx q t w) (j : Nat) : w.frozen? ⟨q, j, none⟩ = false := by
  unfold Bx at h; simp [World.frozen?, h]
theorem Bx.new (t : Tm) (w : World) : Bx w.heap.size t (w.alloc (.cells #[.int .u8 (t.op : Int), .int .u8 (t.c : Int), .int .i64 (t.a : Int), .int .i64 (t.b : Int), .slice none 0 0, .slice none 0 0, .slice none 0 0, .int .i64 (t.at' : Int), .int .i64 (t.to : Int)] 76)) := heap_alloc_new w _
end Go.Proofs.YtceadeaodbadlaaGreatDoor
