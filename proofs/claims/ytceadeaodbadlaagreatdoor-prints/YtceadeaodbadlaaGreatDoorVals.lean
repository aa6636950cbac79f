import Derived.Test.YtceadeaodbadlaaGreatDoorKind2
import Derived.Test.YtceadeaodbadlaaGreatDoorAtoms
import Derived.Deep.AppendLies
set_option linter.unusedVariables false
set_option linter.unusedSimpArgs false
namespace Go.Proofs.YtceadeaodbadlaaGreatDoor
open Go.RowKit

/-- Values of types, one by one. -/
def Tvs (w : World) : List Ty → List Value → Prop
  | [], [] => True
  | t :: ts, v :: vs => Tv w t v ∧ Tvs w ts vs
  | _, _ => False
theorem Tvs.keptN {w w' : World} (hk : KeptN w w') : ∀ (ts : List Ty) (vs : List Value), Tvs w ts vs → Tvs w' ts vs := by
  intro ts
  induction ts with
  | nil => intro vs h; cases vs with | nil => exact h | cons => exact h.elim
  | cons t ts ih => intro vs h; cases vs with | nil => exact h.elim | cons v vs => exact ⟨Tv.keptN hk _ _ h.1, ih _ h.2⟩
theorem Tvs.kept {w w' : World} (hk : Kept w w') (ts : List Ty) (vs : List Value) (h : Tvs w ts vs) : Tvs w' ts vs := Tvs.keptN hk.n ts vs h
/-- The block of a row. -/
theorem row_kind {w : World} {B : Nat} {e : TypeId} {k n : Nat} {v : Value} {xs : List Value} (h : w.ownsRow B e k v n xs) : ∀ g, v.ownBlock = some g → B ≤ g ∧ ∃ c, w.heap[g]? = some (.cells c e (0, 0)) := by
  intro g hg
  rcases h.2 with ⟨rfl, _⟩ | ⟨g', cap, cur, rfl, hB, hgg, _⟩
  · simp [Value.ownBlock] at hg
  · simp [Value.ownBlock] at hg
    subst hg
    exact ⟨hB, _, hgg⟩
/-- A row grows: what is of another kind stays. -/
theorem grown_other {w w' : World} {B : Nat} {e : TypeId} {k n : Nat} {v : Value} {xs : List Value} (hrow : w.ownsRow B e k v n xs) (h : w.grownBy w' v.ownBlock) {q : Nat} {c : Array Value} {T : TypeId} {fz : Nat × Nat} (hT : T ≠ e) (hq : w.heap[q]? = some (.cells c T fz)) : w'.heap[q]? = some (.cells c T fz) := by
  rw [h.block q (Array.getElem?_eq_some_iff.1 hq).1 (fun he => ?_)]
  · exact hq
  · obtain ⟨_, c', hc⟩ := row_kind hrow q he.symm
    rw [hq] at hc
    simp at hc
    exact hT hc.2.1
theorem Tvs.snoc {w : World} {t : Ty} {v : Value} (hv : Tv w t v) : ∀ (ts : List Ty) (vs : List Value), Tvs w ts vs → Tvs w (ts ++ [t]) (vs ++ [v]) := by
  intro ts
  induction ts with
  | nil => intro vs h; cases vs with | nil => exact ⟨hv, trivial⟩ | cons => exact h.elim
  | cons t ts ih => intro vs h; cases vs with | nil => exact h.elim | cons v vs => exact ⟨h.1, ih _ h.2⟩

theorem ownsRow_kept {w w' : World} {B : Nat} {T : TypeId} {k n : Nat} {v : Value} {xs : List Value} (hk : Kept w w') (hT : T ≠ 207) (h : w.ownsRow B T k v n xs) : w'.ownsRow B T k v n xs := by
  obtain ⟨h1, h2 | ⟨g, cap, cur, e, hB, hg, h3⟩⟩ := h
  · exact ⟨h1, .inl h2⟩
  · exact ⟨h1, .inr ⟨g, cap, cur, e, hB, hk _ _ _ _ hT hg, h3⟩⟩
theorem ownsRow_mono {w : World} {B C : Nat} {T : TypeId} {k n : Nat} {v : Value} {xs : List Value} (hB : C ≤ B) (h : w.ownsRow B T k v n xs) : w.ownsRow C T k v n xs := by
  obtain ⟨h1, h2 | ⟨g, cap, cur, e, hb, hg, h3⟩⟩ := h
  · exact ⟨h1, .inl h2⟩
  · exact ⟨h1, .inr ⟨g, cap, cur, e, Nat.le_trans hB hb, hg, h3⟩⟩

/-- A slice of types; the type of a function, or none; a slice of variables. -/
def Gv (w : World) (G : Value) (ts : List Ty) : Prop := ∃ vs, w.ownsRow 0 94 1 G ts.length vs ∧ Tvs w ts vs
def Fv (w : World) (F : Value) (g : List Ty) : Prop := (g = [] ∧ F = .nilIface) ∨ ∃ u, g = [u] ∧ Tv w u F
def ownCells (l : List (Nat × Nat)) : List Value := l.flatMap fun x => [.int .u8 ((x.1 / 10 : Nat) : Int), .int .u8 ((x.1 % 10 : Nat) : Int), .int .i64 (x.2 : Int)]
def Ov (w : World) (V : Value) (l : List (Nat × Nat)) : Prop := w.ownsRow 0 286 3 V l.length (ownCells l)
theorem Gv.kept {w w' : World} {G : Value} {ts : List Ty} (hk : Kept w w') (h : Gv w G ts) : Gv w' G ts := by
  obtain ⟨vs, h1, h2⟩ := h
  exact ⟨vs, ownsRow_kept hk (by decide) h1, Tvs.kept hk _ _ h2⟩
theorem Fv.kept {w w' : World} {F : Value} {g : List Ty} (hk : Kept w w') (h : Fv w F g) : Fv w' F g := by
  rcases h with h | ⟨u, e, h⟩
  · exact .inl h
  · exact .inr ⟨u, e, Tv.kept hk _ _ h⟩
theorem Ov.kept {w w' : World} {V : Value} {l : List (Nat × Nat)} (hk : Kept w w') (h : Ov w V l) : Ov w' V l := ownsRow_kept hk (by decide) h
theorem Gv.nil (w : World) : Gv w (.slice none 0 0) [] := ⟨[], World.ownsRow_nil _ _ _ _, trivial⟩
theorem Ov.nil (w : World) : Ov w (.slice none 0 0) [] := World.ownsRow_nil _ _ _ _

/-- The value v is the expression. -/
def Ev (w : World) : Ex → Value → Prop
  | .nil, _ => False
  | .node t _ x a b, v =>
    (t = 0 ∧ ∃ G, v = .iface 173 (.agg #[.int .u8 (x.c : Int), G, .int .i64 (x.p : Int)]) ∧ Gv w G x.g) ∨
    (t = 1 ∧ ∃ G, v = .iface 175 (.agg #[.int .u8 (x.c : Int), G, .int .i64 (x.p : Int)]) ∧ Gv w G x.g) ∨
    (t = 2 ∧ v = .iface 177 (.agg #[.int .u8 (x.c : Int)])) ∨
    (t = 3 ∧ ∃ F T y, v = .iface 179 (.agg #[.int .u8 (x.c : Int), F, .iface T y, .int .i64 (x.p : Int)]) ∧ Fv w F x.g ∧ Ev w a (.iface T y)) ∨
    (t = 4 ∧ ∃ V T y T' z, v = .iface 183 (.agg #[.int .u8 (x.c : Int), V, .iface T y, .iface T' z]) ∧ Ov w V x.v ∧ Ev w a (.iface T y) ∧ Ev w b (.iface T' z)) ∨
    (t = 5 ∧ ∃ T y T' z, v = .iface 186 (.agg #[.iface T y, .iface T' z, .int .i64 (x.p : Int)]) ∧ Ev w a (.iface T y) ∧ Ev w b (.iface T' z))

theorem Ev.kept {w w' : World} (hk : Kept w w') : ∀ (e : Ex) (v : Value), Ev w e v → Ev w' e v := by
  intro e
  induction e with
  | nil => intro v h; exact h.elim
  | node t o x a b iha ihb =>
    intro v h
    rcases h with ⟨e, G, hv, hG⟩ | ⟨e, G, hv, hG⟩ | h | ⟨e, F, T, y, hv, hF, ha⟩ | ⟨e, V, T, y, T', z, hv, hV, ha, hb⟩ | ⟨e, T, y, T', z, hv, ha, hb⟩
    · exact .inl ⟨e, G, hv, hG.kept hk⟩
    · exact .inr (.inl ⟨e, G, hv, hG.kept hk⟩)
    · exact .inr (.inr (.inl h))
    · exact .inr (.inr (.inr (.inl ⟨e, F, T, y, hv, hF.kept hk, iha _ ha⟩)))
    · exact .inr (.inr (.inr (.inr (.inl ⟨e, V, T, y, T', z, hv, hV.kept hk, iha _ ha, ihb _ hb⟩))))
    · exact .inr (.inr (.inr (.inr (.inr ⟨e, T, y, T', z, hv, iha _ ha, ihb _ hb⟩))))
theorem Ev.iface {w : World} {e : Ex} {v : Value} (h : Ev w e v) : ∃ T x, v = .iface T x := by
  cases e with
  | nil => exact h.elim
  | node t o x a b =>
    rcases h with ⟨e, G, rfl, hG⟩ | ⟨e, G, rfl, hG⟩ | ⟨e, rfl⟩ | ⟨e, F, T, y, rfl, hF, ha⟩ | ⟨e, V, T, y, T', z, rfl, hV, ha, hb⟩ | ⟨e, T, y, T', z, rfl, ha, hb⟩ <;> exact ⟨_, _, rfl⟩

/-- A reader of expressions, by its value, and in its box. -/
abbrev rdv (b : Nat) (ty : Bool) : Value := .agg #[.pointer (some ⟨b, 0, none⟩), .bool ty]
abbrev rdo (b : Nat) (ty : Bool) : Obj := .cells #[.pointer (some ⟨b, 0, none⟩), .bool ty] 140
def Rbx (n b : Nat) (ty : Bool) (w : World) : Prop := w.heap[n]? = some (.cells #[.pointer (some ⟨b, 0, none⟩), .bool ty] 140 (0, 0)) ∧ n ≠ b
theorem Rbx.c0 {n b : Nat} {ty : Bool} {w : World} (h : Rbx n b ty w) : w.cell? ⟨n, 0, none⟩ = some (.pointer (some ⟨b, 0, none⟩)) := by rw [Lib.cell_of_heap h.1]; rfl
theorem Rbx.c1 {n b : Nat} {ty : Bool} {w : World} (h : Rbx n b ty w) : w.cell? ⟨n, 1, none⟩ = some (.bool ty) := by rw [Lib.cell_of_heap h.1]; rfl
theorem Rbx.gb {n b : Nat} {ty : Bool} {w w' : World} (h : Rbx n b ty w) (hg : Gb b w w') : Rbx n b ty w' := ⟨hg.old h.1 h.2, h.2⟩
theorem Rbx.new {b : Nat} {s : ByteArray} {i : Nat} (ty : Bool) {w : World} (h : Rd b s i w) : Rbx w.heap.size b ty (w.alloc (rdo b ty)) := ⟨heap_alloc_new w _, by have := h.lt; omega⟩

theorem place_of (b : Nat) (s : ByteArray) (i : Nat) (w : World) (h : Rd b s i w) :
    Calls Tryz.prog 148 #[.pointer (some ⟨b, 0, none⟩)] w fun e w' => e = .returned (.int .i64 (i : Int)) ∧ w' = w := by
  have h1 := h.place
  go_enter Tryz.func148, Tryz.ntmps148
  go_wp2
  go_ret
  exact ⟨rfl, rfl⟩

/-- What a reader of a function's type leaves. -/
def FPost (tx : Nat → Addr) (b : Nat) (s : ByteArray) (r : Except Nat (List Ty × Nat)) (w : World) (e : Ending) (w' : World) : Prop :=
  Gb b w w' ∧ match r with
    | .error p => ∃ q, e = .returned (.tuple #[.nilIface, atv q]) ∧ AtErr (tx 1) q p w'
    | .ok (g, j) => ∃ F, e = .returned (.tuple #[F, .nilIface]) ∧ Fv w' F g ∧ Rd b s j w'

theorem pT_said (tx : Nat → Addr) (b : Nat) (s : ByteArray) (hs : s.size ≤ 100000) (hb : 9 ≤ b) (i : Nat) (w : World) (h : Rd b s i w) (g : Gl tx w) (hi : i ≤ s.size) :
    Calls Tryz.prog 142 #[.pointer (some ⟨b, 0, none⟩)] w (KPost tx b s (pT s i) w) :=
  (kreaders_all tx b s hs hb (3 * s.size + 3) _ (Nat.le_refl _)).1 i w h g hi (by omega)

set_option maxHeartbeats 1000000 in
theorem from_any (tx : Nat → Addr) (b : Nat) (s : ByteArray) (ty : Bool) (i : Nat) (w : World) (h : Rd b s i w) (g : Gl tx w) (hi : i ≤ s.size) (hs : s.size ≤ 100000) (hb : 9 ≤ b) :
    Calls Tryz.prog 184 #[rdv b ty] w (FPost tx b s (fromO s ty i) w) := by
  have bx := Rbx.new ty h
  have h1 := h.alloc (rdo b ty)
  have G0 : Gb b w (w.alloc (rdo b ty)) := (Gb.refl b w).alloc _
  have g1 := g.gb G0 hb
  have c0 := bx.c0
  have c1 := bx.c1
  cases ty
  · have HR : Hid (fromO s false i = .ok ([], i)) := rfl
    go_enter Tryz.func184, Tryz.ntmps184
    go_wp2_with fail
    go_ret2
    refine ⟨G0, ?_⟩
    rw [HR.out]
    exact ⟨_, rfl, .inl ⟨rfl, rfl⟩, h1⟩
  · have HR : Hid (fromO s true i = if chr s i = 58 then (match pT s (i + 1) with | .error p => .error p | .ok (t, j) => .ok ([t], j)) else .error i) := by unfold Hid fromO; rw [if_pos rfl]; cases pT s (i + 1) <;> rfl
    by_cases h58 : chr s i = 58
    · have HQ := HR.out
      rw [if_pos h58] at HQ
      have H58 : Hid (chr s i = 58) := h58
      have hlt : i < s.size := chr_in (by rw [h58]; decide)
      clear HR h58
      have HR : Hid (_ = _) := HQ
      clear HQ
      go_enter Tryz.func184, Tryz.ntmps184
      go_wp2_with fail
      refine (want_yes b s i 58 _ h1 hs H58.out (by decide)).mono ?_
      rintro e w1 ⟨rfl, hr, hg⟩
      have G1 := G0.trans hg
      replace bx := bx.gb hg
      replace c0 := bx.c0
      replace c1 := bx.c1
      go_wp2_with fail
      refine (pT_said tx b s hs hb (i + 1) w1 hr (g.gb G1 hb) hlt).mono ?_
      rintro e w2 ⟨hg2, hp⟩
      cases hq : pT s (i + 1) with
      | error p =>
        rw [hq] at hp HR
        obtain ⟨q, rfl, ha⟩ := hp
        clear hq
        go_wp2_with fail
        go_ret2
        refine ⟨G1.trans hg2, ?_⟩
        rw [HR.out]
        exact ⟨q, rfl, ha⟩
      | ok r =>
        obtain ⟨t, j⟩ := r
        rw [hq] at hp HR
        obtain ⟨v, rfl, hv, hr2⟩ := hp
        clear hq
        obtain ⟨T, x, rfl⟩ := hv.iface
        go_wp2_with fail
        go_ret2
        refine ⟨G1.trans hg2, ?_⟩
        rw [HR.out]
        exact ⟨_, rfl, .inr ⟨t, rfl, hv⟩, hr2⟩
    · have HQ := HR.out
      rw [if_neg h58] at HQ
      have H58 : Hid (chr s i ≠ 58) := h58
      clear HR h58
      have HR : Hid (_ = _) := HQ
      clear HQ
      go_enter Tryz.func184, Tryz.ntmps184
      go_wp2_with fail
      refine (want_no tx b s i 58 _ h1 g1 hi hs H58.out hb).mono ?_
      rintro e w1 ⟨q, rfl, ha, hg⟩
      go_wp2_with fail
      go_ret2
      refine ⟨G0.trans hg, ?_⟩
      rw [HR.out]
      exact ⟨q, rfl, ha⟩

/-- What a reader of a list leaves (W: what such a list is). -/
def LPost (tx : Nat → Addr) (b : Nat) (s : ByteArray) {α : Type} (W : World → Value → List α → Prop) (r : Except Nat (List α × Nat)) (w : World) (e : Ending) (w' : World) : Prop :=
  Gb b w w' ∧ match r with
    | .error p => ∃ V q, e = .returned (.tuple #[V, atv q]) ∧ AtErr (tx 1) q p w'
    | .ok (g, j) => ∃ V, e = .returned (.tuple #[V, .nilIface]) ∧ W w' V g ∧ Rd b s j w'

theorem infoTy : (Tryz.prog.info? 94).map (fun i => (i.zero, i.size, i.bytes)) = some (some .nilIface, 1, 16) := by kernel_rfl
theorem infoOwn : (Tryz.prog.info? 286).map (fun i => (i.zero, i.size, i.bytes)) = some (some (.agg #[.int .u8 0, .int .u8 0, .int .i64 0]), 3, 16) := by kernel_rfl
theorem pg_step (s : ByteArray) (n i : Nat) (l : List Ty) : pg s (n + 1) i l = match pT s i with
    | .error p => .error p
    | .ok (t, j) => if chr s j = 44 then pg s n (j + 1) (l ++ [t]) else if chr s j = 125 then .ok (l ++ [t], j + 1) else .error j := by
  rw [pg]
  cases pT s i <;> rfl

theorem rdPlace {b : Nat} {s : ByteArray} {i : Nat} {w : World} (h : Rd b s i w) : plk b w = i := h.plk

/-- Growth of a row of one's own keeps what a reader sees. -/
theorem Gb.grown {b B : Nat} {w0 w w' : World} {v : Value} (hg : Gb b w0 w) (h : w.grownBy w' v.ownBlock) (hr : ∀ k, v.ownBlock = some k → B ≤ k) (hB : w0.heap.size ≤ B) : Gb b w0 w' :=
  ⟨h.os.trans hg.os, h.tape.trans hg.tape, h.output.trans hg.output, Nat.le_trans hg.size h.size, fun k hk hn => (h.block k (Nat.lt_of_lt_of_le hk hg.size) (fun e => by have := hr k e.symm; omega)).trans (hg.block k hk hn)⟩

set_option maxHeartbeats 2000000 in
set_option maxRecDepth 100000 in
theorem given_any (tx : Nat → Addr) (b : Nat) (s : ByteArray) (ty : Bool) (i : Nat) (w : World) (h : Rd b s i w) (g : Gl tx w) (hi : i ≤ s.size) (hs : s.size ≤ 100000) (hb : 9 ≤ b) :
    Calls Tryz.prog 215 #[rdv b ty] w (LPost tx b s Gv (givenO s ty i) w) := by
  have bx := Rbx.new ty h
  have h1 := h.alloc (rdo b ty)
  have G0 : Gb b w (w.alloc (rdo b ty)) := (Gb.refl b w).alloc _
  have g1 := g.gb G0 hb
  have c0 := bx.c0
  have c1 := bx.c1
  cases ty
  · have HR : Hid (givenO s false i = .ok ([], i)) := rfl
    go_enter Tryz.func215, Tryz.ntmps215
    go_wp2_with fail
    go_ret2
    refine ⟨G0, ?_⟩
    rw [HR.out]
    exact ⟨_, rfl, Gv.nil _, h1⟩
  · have HR : Hid (givenO s true i = if chr s i = 123 then pg s (s.size + 1) (i + 1) [] else .ok ([], i)) := by unfold Hid givenO; rw [if_pos rfl]
    by_cases h58 : chr s i = 123
    · have HQ := HR.out
      rw [if_pos h58] at HQ
      have H58 : Hid (chr s i = 123) := h58
      have hlt : i < s.size := chr_in (by rw [h58]; decide)
      clear HR h58
      have HR : Hid (_ = _) := HQ
      clear HQ
      obtain ⟨i0, hi0, hz0, hz1, hz2⟩ := info_parts infoTy
      go_enter Tryz.func215, Tryz.ntmps215
      go_wp2_with fail
      refine (take_yes b s i 123 _ h1 hlt hs ((chrAt hlt).trans H58.out)).mono ?_
      rintro e w1 ⟨rfl, hr, hg⟩
      have G1 := G0.trans hg
      replace bx := bx.gb hg
      clear c0 c1
      go_wp2_with fail
      go_loopw [4] (fun v wr => ∃ m j l vs, wr.ownsRow w.heap.size 94 1 v l.length vs ∧ Tvs wr l vs ∧ Rd b s j wr ∧ Rbx w.heap.size b true wr ∧ j ≤ s.size ∧ s.size - j < m ∧ l.length ≤ j ∧ Gb b w wr ∧ Hid (pg s m j l = givenO s true i)) (fun _ wr => s.size - plk b wr)
      case atStart => exact ⟨s.size + 1, i + 1, [], [], World.ownsRow_nil _ _ _ _, trivial, hr, bx, hlt, by omega, by simp, G1, HR.out.symm⟩
      case round =>
        clear HR hr hg bx G1
        obtain ⟨m, j, l, vs, hrow, hvs, hr, bx, hj, hm, hll, G1, HR⟩ := hrel
        obtain ⟨m, rfl⟩ : ∃ m', m = m' + 1 := ⟨m - 1, by omega⟩
        have c0 := bx.c0
        have hplr : Hid (plk b wr = j) := hr.plk
        have HQ := HR.out
        rw [pg_step] at HQ
        clear HR
        have HR : Hid (_ = _) := HQ
        clear HQ
        go_wp2_with fail
        refine (pT_said tx b s hs hb j wr hr (g.gb G1 hb) hj).mono ?_
        rintro e w2 ⟨hg2, hp⟩
        have G2 := G1.trans hg2
        cases hq : pT s j with
        | error p =>
          rw [hq] at hp HR
          obtain ⟨q, rfl, ha⟩ := hp
          clear hq
          go_wp2_with fail
          go_ret2
          refine ⟨G2, ?_⟩
          rw [← HR.out]
          exact ⟨_, q, rfl, ha⟩
        | ok r =>
          obtain ⟨t, k⟩ := r
          rw [hq] at hp HR
          obtain ⟨v, rfl, hv, hr2⟩ := hp
          have pl := pT_places hq hj
          have p1 := pl.1
          have p2 := pl.2.1
          clear hq pl
          obtain ⟨T, x, rfl⟩ := hv.iface
          have hk2 := hg2.kept hr
          have hrow2 := ownsRow_kept hk2 (by decide) hrow
          have hvs2 := Tvs.kept hk2 _ _ hvs
          have bx2 := bx.gb hg2
          have hsz := G2.size
          clear c0
          go_wp2_with (at_builtin; refine wpList_append_own _ rfl _ _ 171 rfl w.heap.size 94 i0 .nilIface 1 16 Tryz.underlying171 hi0 hz0 hz1 hz2 rfl (by decide) _ _ _ rfl (hrow2.alloc _) ⟨w2.heap.size, 0, none⟩ 1 1 [.iface T x] rfl rfl ?c1 ?c2 ?c3 ?c4 ?c5 ?_)
          case c1 =>
            intro j u hj
            match j, hj with
            | 0, hj => simp at hj; subst hj; simp [Addr.add]
          case c2 => intro u hu; simp at hu; subst hu; rfl
          case c3 => unfold maxLen; omega
          case c4 => omega
          case c5 => simp; omega
          intro v' w3 hown' hgrow _
          have hrowA := hrow2.alloc (.cells #[.iface T x] 94)
          have hkN : KeptN w2 w3 := fun q c T' hT hq => grown_other hrowA hgrow (by rcases hT with rfl | rfl | rfl <;> decide) ((Below.heap_alloc _ _ _ (Array.getElem?_eq_some_iff.1 hq).1).trans hq)
          have hvs3 : Tvs w3 (l ++ [t]) (vs ++ [.iface T x]) := Tvs.snoc (Tv.keptN hkN _ _ hv) _ _ (Tvs.keptN hkN _ _ hvs2)
          have hr3 : Rd b s k w3 := grown_other hrowA hgrow (by decide) ((Below.heap_alloc _ _ _ hr2.lt).trans hr2)
          have bx3 : Rbx w.heap.size b true w3 := ⟨grown_other hrowA hgrow (by decide) ((Below.heap_alloc _ _ _ (Array.getElem?_eq_some_iff.1 bx2.1).1).trans bx2.1), bx2.2⟩
          have G3 : Gb b w w3 := (G2.alloc (.cells #[.iface T x] 94)).grown hgrow (fun k hk => (row_kind hrowA k hk).1) (Nat.le_refl _)
          have hown3 : w3.ownsRow w.heap.size 94 1 v' (l ++ [t]).length (vs ++ [.iface T x]) := by simpa using hown'
          have hlen : (l ++ [t]).length ≤ k + 1 := by simp; omega
          have c0 := bx3.c0
          clear hrow hvs hr bx hrow2 hvs2 hr2 bx2 hown' hgrow hrowA hkN hv G1 G2 hg2 hk2
          obtain ⟨gg, cap, rfl⟩ : ∃ gg cap, v' = .slice (some ⟨gg, 0, none⟩) (l ++ [t]).length cap := by
            rcases hown3.2 with ⟨_, h0⟩ | ⟨g, cap, cur, hv, _⟩
            · simp at h0
            · exact ⟨g, cap, hv⟩
          generalize l ++ [t] = lt at *
          generalize vs ++ [.iface T x] = vt at *
          generalize hll2 : lt.length = ll at *
          have HLL : Hid (lt.length = ll) := hll2
          clear hll2 hll
          by_cases h44 : chr s k = 44
          · have hltk : k < s.size := chr_in (by rw [h44]; decide)
            have HQ := HR.out
            rw [if_pos h44] at HQ
            have H44 : Hid (chr s k = 44) := h44
            clear HR h44
            have HR : Hid (_ = _) := HQ
            clear HQ
            go_wp2_with fail
            refine (take_yes b s k 44 _ hr3 hltk hs ((chrAt hltk).trans H44.out)).mono ?_
            rintro e w4 ⟨rfl, hr4, hg4⟩
            have hk4 := hg4.kept hr3
            have bx4 := bx3.gb hg4
            have hown4 := ownsRow_kept hk4 (by decide) hown3
            have hvs4 := Tvs.kept hk4 _ _ hvs3
            clear c0 hvs3 hown3 bx3
            have G4 := G3.trans hg4
            go_wp2_with fail
            go_roundw
            case rel => exact ⟨m, k + 1, lt, vt, by rw [HLL.out]; exact hown4, hvs4, hr4, bx4, hltk, by omega, by rw [HLL.out]; exact hlen, G4, HR⟩
            case measure => rw [hr4.plk, hplr.out]; omega
          · have HQ := HR.out
            rw [if_neg h44] at HQ
            have H44 : Hid (chr s k ≠ 44) := h44
            clear HR h44
            have HR : Hid (_ = _) := HQ
            clear HQ
            go_wp2_with fail
            refine (take_no b s k 44 _ hr3 p2 hs (ne_at H44.out)).mono ?_
            rintro e w4 ⟨rfl, d, rfl⟩
            have hr4 := hr3.drewN d
            have G4 := G3.drewN d
            have c4 : (w3.drewN d).cell? ⟨w.heap.size, 0, none⟩ = some (.pointer (some ⟨b, 0, none⟩)) := c0
            have hown4 : (w3.drewN d).ownsRow w.heap.size 94 1 (.slice (some ⟨gg, 0, none⟩) ll cap) ll vt := hown3
            have hvs4 : Tvs (w3.drewN d) lt vt := Tvs.kept (w := w3) (w' := w3.drewN d) (fun _ _ _ _ _ h => h) _ _ hvs3
            clear c0 hvs3 hown3 bx3 hr3 G3
            generalize w3.drewN d = w5 at *
            by_cases h125 : chr s k = 125
            · have hltk : k < s.size := chr_in (by rw [h125]; decide)
              have HQ := HR.out
              rw [if_pos h125] at HQ
              have H125 : Hid (chr s k = 125) := h125
              clear HR h125
              have HR : Hid (_ = _) := HQ
              clear HQ
              go_wp2_with fail
              refine (want_yes b s k 125 _ hr4 hs H125.out (by decide)).mono ?_
              rintro e w6 ⟨rfl, hr6, hg6⟩
              have hk6 := hg6.kept hr4
              have hown6 := ownsRow_kept hk6 (by decide) hown4
              have hvs6 := Tvs.kept hk6 _ _ hvs4
              go_wp2_with fail
              go_ret2
              refine ⟨G4.trans hg6, ?_⟩
              rw [← HR.out]
              exact ⟨_, rfl, ⟨vt, by rw [HLL.out]; exact ownsRow_mono (Nat.zero_le _) hown6, hvs6⟩, hr6⟩
            · have HQ := HR.out
              rw [if_neg h125] at HQ
              have H125 : Hid (chr s k ≠ 125) := h125
              clear HR h125
              have HR : Hid (_ = _) := HQ
              clear HQ
              go_wp2_with fail
              refine (want_no tx b s k 125 _ hr4 (g.gb G4 hb) p2 hs H125.out hb).mono ?_
              rintro e w6 ⟨q, rfl, ha, hg6⟩
              go_wp2_with fail
              go_ret2
              refine ⟨G4.trans hg6, ?_⟩
              rw [← HR.out]
              exact ⟨_, q, rfl, ha⟩
    · have HQ := HR.out
      rw [if_neg h58] at HQ
      have H58 : Hid (chr s i ≠ 123) := h58
      clear HR h58
      have HR : Hid (_ = _) := HQ
      clear HQ
      go_enter Tryz.func215, Tryz.ntmps215
      go_wp2_with fail
      refine (take_no b s i 123 _ h1 hi hs (ne_at H58.out)).mono ?_
      rintro e w1 ⟨rfl, d, rfl⟩
      go_wp2_with fail
      go_ret2
      refine ⟨G0.drewN d, ?_⟩
      rw [HR.out]
      exact ⟨_, rfl, Gv.nil _, h1.drewN d⟩

theorem pw_end (s : ByteArray) (n i : Nat) (l : List (Nat × Nat)) (h : chr s i = 62) : pw s (n + 1) i l = .ok (l, i + 1) := by rw [pw, if_pos h]
theorem pw_more (s : ByteArray) (n i : Nat) (l : List (Nat × Nat)) (h : chr s i ≠ 62) (h' : isLet (chr s i) = true) : pw s (n + 1) i l = pw s n (vEnd s i) (l ++ [(vnum (chr s i) (chr s (i + 1)), i)]) := by rw [pw, if_neg h, if_pos h']
theorem pw_bad (s : ByteArray) (n i : Nat) (l : List (Nat × Nat)) (h : chr s i ≠ 62) (h' : isLet (chr s i) = false) : pw s (n + 1) i l = .error i := by rw [pw, if_neg h, if_neg (by rw [h']; decide)]
theorem ownCells_snoc (l : List (Nat × Nat)) (o p : Nat) : ownCells (l ++ [(o, p)]) = ownCells l ++ [.int .u8 ((o / 10 : Nat) : Int), .int .u8 ((o % 10 : Nat) : Int), .int .i64 (p : Int)] := by simp [ownCells]

set_option maxHeartbeats 2000000 in
set_option maxRecDepth 100000 in
theorem own_any (tx : Nat → Addr) (b : Nat) (s : ByteArray) (ty : Bool) (i : Nat) (w : World) (h : Rd b s i w) (g : Gl tx w) (hi : i ≤ s.size) (hs : s.size ≤ 100000) (hb : 9 ≤ b) :
    Calls Tryz.prog 186 #[rdv b ty] w (LPost tx b s Ov (ownO s ty i) w) := by
  have bx := Rbx.new ty h
  have h1 := h.alloc (rdo b ty)
  have G0 : Gb b w (w.alloc (rdo b ty)) := (Gb.refl b w).alloc _
  have g1 := g.gb G0 hb
  have c0 := bx.c0
  have c1 := bx.c1
  cases ty
  · have HR : Hid (ownO s false i = .ok ([], i)) := rfl
    go_enter Tryz.func186, Tryz.ntmps186
    go_wp2_with fail
    go_ret2
    refine ⟨G0, ?_⟩
    rw [HR.out]
    exact ⟨_, rfl, Ov.nil _, h1⟩
  · have HR : Hid (ownO s true i = if chr s i = 60 then pw s (s.size + 1) (i + 1) [] else .error i) := by unfold Hid ownO; rw [if_pos rfl]
    by_cases h58 : chr s i = 60
    · have HQ := HR.out
      rw [if_pos h58] at HQ
      have H58 : Hid (chr s i = 60) := h58
      have hlt : i < s.size := chr_in (by rw [h58]; decide)
      clear HR h58
      have HR : Hid (_ = _) := HQ
      clear HQ
      obtain ⟨i0, hi0, hz0, hz1, hz2⟩ := info_parts infoOwn
      go_enter Tryz.func186, Tryz.ntmps186
      go_wp2_with fail
      refine (want_yes b s i 60 _ h1 hs H58.out (by decide)).mono ?_
      rintro e w1 ⟨rfl, hr, hg⟩
      have G1 := G0.trans hg
      replace bx := bx.gb hg
      clear c0 c1
      go_wp2_with fail
      go_loopw [5] (fun v wr => ∃ m j l, wr.ownsRow w.heap.size 286 3 v l.length (ownCells l) ∧ Rd b s j wr ∧ Rbx w.heap.size b true wr ∧ j ≤ s.size ∧ s.size - j < m ∧ l.length ≤ j ∧ Gb b w wr ∧ Hid (pw s m j l = ownO s true i)) (fun _ wr => s.size - plk b wr)
      case atStart => exact ⟨s.size + 1, i + 1, [], World.ownsRow_nil _ _ _ _, hr, bx, hlt, by omega, by simp, G1, HR.out.symm⟩
      case round =>
        clear HR hr hg bx G1
        obtain ⟨m, j, l, hrow, hr, bx, hj, hm, hll, G1, HR⟩ := hrel
        obtain ⟨m, rfl⟩ : ∃ m', m = m' + 1 := ⟨m - 1, by omega⟩
        have c0 := bx.c0
        have hplr : Hid (plk b wr = j) := hr.plk
        by_cases h62 : chr s j = 62
        · have hltj : j < s.size := chr_in (by rw [h62]; decide)
          have HQ := HR.out
          rw [pw_end _ _ _ _ h62] at HQ
          have H62 : Hid (chr s j = 62) := h62
          clear HR h62
          have HR : Hid (_ = _) := HQ
          clear HQ
          go_wp2_with fail
          refine (take_yes b s j 62 _ hr hltj hs ((chrAt hltj).trans H62.out)).mono ?_
          rintro e w2 ⟨rfl, hr2, hg2⟩
          have hrow2 := ownsRow_kept (hg2.kept hr) (by decide) hrow
          go_wp2_with fail
          go_ret2
          refine ⟨G1.trans hg2, ?_⟩
          rw [← HR.out]
          exact ⟨_, rfl, ownsRow_mono (Nat.zero_le _) hrow2, hr2⟩
        · have H62 : Hid (chr s j ≠ 62) := h62
          go_wp2_with fail
          refine (take_no b s j 62 _ hr hj hs (ne_at H62.out)).mono ?_
          rintro e w2 ⟨rfl, d, rfl⟩
          have hr2 := hr.drewN d
          have G2 := G1.drewN d
          have bx2 : Rbx w.heap.size b true (wr.drewN d) := bx
          have hrow2 : (wr.drewN d).ownsRow w.heap.size 286 3 u5 l.length (ownCells l) := hrow
          replace c0 := bx2.c0
          clear hr bx hrow G1
          generalize wr.drewN d = w3 at *
          go_wp2_with fail
          refine (place_of b s j _ hr2).mono ?_
          rintro e w4 ⟨rfl, rfl⟩
          go_wp2_with fail
          cases hc : isLet (chr s j)
          · have HQ := HR.out
            rw [pw_bad _ _ _ _ h62 hc] at HQ
            have RV := rv_no tx b s j _ hr2 (g.gb G2 hb) hj hs hb hc
            clear HR hc h62
            have HR : Hid (_ = _) := HQ
            clear HQ
            refine RV.mono ?_
            rintro e w4 ⟨q, rfl, ha, hg⟩
            have ha4 : AtErr (tx 1) q j (w4.alloc (.cells #[.int .u8 0, .int .u8 0] 263)) := (Below.heap_alloc _ _ _ (Array.getElem?_eq_some_iff.1 ha).1).trans ha
            go_wp2_with fail
            go_ret2
            refine ⟨(G2.trans hg).alloc _, ?_⟩
            rw [← HR.out]
            exact ⟨_, q, rfl, ha4⟩
          · have HQ := HR.out
            rw [pw_more _ _ _ _ h62 hc] at HQ
            have RV := rv_yes b s j _ hr2 hj hs hc
            have pl := vEnd_places hc
            clear HR hc h62
            have HR : Hid (_ = _) := HQ
            clear HQ
            have p1 := pl.1
            have p2 := pl.2
            clear pl
            generalize vnum (chr s j) (chr s (j + 1)) = o at *
            generalize vEnd s j = k at *
            refine RV.mono ?_
            rintro e w4 ⟨rfl, hr4, hg4⟩
            have G4 := G2.trans hg4
            have hk4 := hg4.kept hr2
            have hrow4 := ownsRow_kept hk4 (by decide) hrow2
            have bx4 := bx2.gb hg4
            have hsz := G4.size
            clear c0 RV
            go_wp2_with (at_builtin; refine wpList_append_own _ rfl _ _ 181 rfl w.heap.size 286 i0 (.agg #[.int .u8 0, .int .u8 0, .int .i64 0]) 3 16 Tryz.underlying181 hi0 hz0 hz1 hz2 rfl (by decide) _ _ _ rfl ((hrow4.alloc _).alloc _) ⟨w4.heap.size + 1, 0, none⟩ 1 1 [.int .u8 ((o / 10 : Nat) : Int), .int .u8 ((o % 10 : Nat) : Int), .int .i64 (j : Int)] rfl rfl ?c1 ?c2 ?c3 ?c4 ?c5 ?_)
            case c1 =>
              exact World.news_of_block (heap_alloc2_new w4 _ _)
            case c2 => intro u hu; simp at hu; rcases hu with rfl | rfl | rfl <;> rfl
            case c3 => unfold maxLen; omega
            case c4 => omega
            case c5 => simp; omega
            intro v' w5 hown' hgrow _
            have hrowA := (hrow4.alloc (.cells #[.int .u8 ((o / 10 : Nat) : Int), .int .u8 ((o % 10 : Nat) : Int)] 263)).alloc (.cells #[.int .u8 ((o / 10 : Nat) : Int), .int .u8 ((o % 10 : Nat) : Int), .int .i64 (j : Int)] 286)
            have old : ∀ {q : Nat} {ob : Obj}, w4.heap[q]? = some ob → ((w4.alloc (.cells #[.int .u8 ((o / 10 : Nat) : Int), .int .u8 ((o % 10 : Nat) : Int)] 263)).alloc (.cells #[.int .u8 ((o / 10 : Nat) : Int), .int .u8 ((o % 10 : Nat) : Int), .int .i64 (j : Int)] 286)).heap[q]? = some ob := fun hq =>
              (Below.heap_alloc _ _ _ (by have := (Array.getElem?_eq_some_iff.1 hq).1; simp; omega)).trans ((Below.heap_alloc _ _ _ (Array.getElem?_eq_some_iff.1 hq).1).trans hq)
            have hr5 : Rd b s k w5 := grown_other hrowA hgrow (by decide) (old hr4)
            have bx5 : Rbx w.heap.size b true w5 := ⟨grown_other hrowA hgrow (by decide) (old bx4.1), bx4.2⟩
            have G5 : Gb b w w5 := ((G4.alloc (.cells #[.int .u8 ((o / 10 : Nat) : Int), .int .u8 ((o % 10 : Nat) : Int)] 263)).alloc (.cells #[.int .u8 ((o / 10 : Nat) : Int), .int .u8 ((o % 10 : Nat) : Int), .int .i64 (j : Int)] 286)).grown hgrow (fun k hk => (row_kind hrowA k hk).1) (Nat.le_refl _)
            have hown5 : w5.ownsRow w.heap.size 286 3 v' (l ++ [(o, j)]).length (ownCells (l ++ [(o, j)])) := by rw [ownCells_snoc]; simpa using hown'
            have hlen : (l ++ [(o, j)]).length ≤ k := by simp; omega
            clear hr2 bx2 hrow2 hr4 bx4 hown' hgrow hrowA G2 G4 hg4 hk4 old
            generalize l ++ [(o, j)] = lt at *
            go_wp2_with fail
            go_roundw
            case rel => exact ⟨m, k, lt, hown5, hr5, bx5, p2, by omega, hlen, G5, HR⟩
            case measure => rw [hr5.plk, hplr.out]; omega
    · have HQ := HR.out
      rw [if_neg h58] at HQ
      have H58 : Hid (chr s i ≠ 60) := h58
      clear HR h58
      have HR : Hid (_ = _) := HQ
      clear HQ
      go_enter Tryz.func186, Tryz.ntmps186
      go_wp2_with fail
      refine (want_no tx b s i 60 _ h1 g1 hi hs H58.out hb).mono ?_
      rintro e w1 ⟨q, rfl, ha, hg⟩
      go_wp2_with fail
      go_ret2
      refine ⟨G0.trans hg, ?_⟩
      rw [HR.out]
      exact ⟨_, q, rfl, ha⟩
end Go.Proofs.YtceadeaodbadlaaGreatDoor
