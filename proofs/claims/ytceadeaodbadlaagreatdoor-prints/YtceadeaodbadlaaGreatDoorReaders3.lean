import Derived.Test.YtceadeaodbadlaaGreatDoorReaders2
set_option linter.unusedVariables false
set_option linter.unusedSimpArgs false
namespace Go.Proofs.YtceadeaodbadlaaGreatDoor
open Go.RowKit

/-- What calls comes to. -/
def caO (s : ByteArray) (ty : Bool) (n i : Nat) : EOut :=
  match pe s ty n 2 i .nil with
  | .error p => .error p
  | .ok (a, j) => pe s ty n 1 j a

theorem emore_yes (s : ByteArray) (ty : Bool) (m j : Nat) (a : Ex) (h : begins (chr s j) = true) : pe s ty (m + 1) 1 j a =
    match pe s ty m 2 j .nil with
    | .error p => .error p
    | .ok (c, q) => pe s ty m 1 q (eC j a c) := by
  rw [pe, if_pos h]
  cases pe s ty m 2 j .nil <;> rfl
theorem emore_no (s : ByteArray) (ty : Bool) (m j : Nat) (a : Ex) (h : begins (chr s j) = false) : pe s ty (m + 1) 1 j a = .ok (a, j) := by
  rw [pe, if_neg (by rw [h]; decide)]

set_option maxHeartbeats 2000000 in
theorem calls_any (tx : Nat → Addr) (b : Nat) (s : ByteArray) (ty : Bool) (n i : Nat) (w : World) (IH : Hid (∀ m, m ≤ n → AtomSaid tx b s ty m)) (h : Rd b s i w) (g : Gl tx w) (hi : i ≤ s.size) (hs : s.size ≤ 100000) (hb : 9 ≤ b) (hn : 3 * (s.size - i) + 1 ≤ n) :
    Calls Tryz.prog 152 #[rdv b ty] w (EPost tx b s (caO s ty n i) w) := by
  have bx := Rbx.new ty h
  have h1 := h.alloc (rdo b ty)
  have G0 : Gb b w (w.alloc (rdo b ty)) := (Gb.refl b w).alloc _
  have g1 := g.gb G0 hb
  have c0 := bx.c0
  have c1 := bx.c1
  go_enter Tryz.func152, Tryz.ntmps152
  go_wp2_with fail
  refine (IH.out n (Nat.le_refl n) i _ h1 g1 hi hn).mono ?_
  rintro e w1 ⟨hg, hp⟩
  have G1 := G0.trans hg
  have bx1 := bx.gb hg
  clear c0 c1 bx
  cases hq : pe s ty n 2 i .nil with
  | error p =>
    rw [hq] at hp
    obtain ⟨q, rfl, ha⟩ := hp
    have HR : Hid (caO s ty n i = .error p) := by unfold Hid caO; rw [hq]
    clear hq
    go_wp2_with fail
    go_ret2
    rw [HR.out]
    exact ⟨G1, q, rfl, ha⟩
  | ok r =>
    obtain ⟨a, j⟩ := r
    rw [hq] at hp
    obtain ⟨v, rfl, hv, hr⟩ := hp
    have pl := pe_places s ty _ _ _ _ _ _ hq hi (by omega)
    have HR : Hid (pe s ty n 1 j a = caO s ty n i) := by unfold Hid caO; rw [hq]
    have p1 : i < j := by omega
    have p2 := pl.2.1
    clear hq pl
    obtain ⟨T, x, rfl⟩ := hv.iface
    go_wp2_with fail
    go_loopw [4] (fun v wr => ∃ m j a T x, v = .iface T x ∧ m ≤ n ∧ Ev wr a (.iface T x) ∧ Rd b s j wr ∧ Rbx w.heap.size b ty wr ∧ j ≤ s.size ∧ 3 * (s.size - j) + 2 ≤ m ∧ Gb b w wr ∧ Hid (pe s ty m 1 j a = caO s ty n i)) (fun _ wr => s.size - plk b wr)
    case atStart => exact ⟨n, j, a, T, x, rfl, Nat.le_refl n, hv, hr, bx1, p2, by omega, G1, HR⟩
    case round =>
      clear HR hv hr hg p1 p2 bx1 G1
      obtain ⟨m, j, a, T, x, rfl, hmn, hv, hr, bx, hj, hm, G1, HR⟩ := hrel
      obtain ⟨m, rfl⟩ : ∃ m', m = m' + 1 := ⟨m - 1, by omega⟩
      have hl := chr_lt s j
      have hplr : Hid (plk b wr = j) := hr.plk
      have c0 := bx.c0
      have c1 := bx.c1
      go_wp2_with fail
      refine (peek_any b s j _ hr hj hs).mono ?_
      rintro e w' ⟨rfl, d, rfl⟩
      go_wp2_with fail
      refine (beginsAtom_any (chr s j) _ hl).mono ?_
      rintro e w' ⟨rfl, rfl⟩
      replace hr := hr.drewN d
      replace G1 := G1.drewN d
      have bx2 : Rbx w.heap.size b ty (wr.drewN d) := bx
      have hv2 : Ev (wr.drewN d) a (.iface T x) := Ev.kept (w := wr) (w' := wr.drewN d) (fun _ _ _ _ _ h => h) _ _ hv
      replace c0 := bx2.c0
      replace c1 := bx2.c1
      clear bx hv
      generalize wr.drewN d = w2 at *
      cases hbg : begins (chr s j)
      · have HQ : Hid (caO s ty n i = .ok (a, j)) := by rw [← HR.out]; exact emore_no s ty m j a hbg
        clear hbg
        go_wp2_with fail
        go_ret2
        rw [HQ.out]
        exact ⟨G1, _, rfl, hv2, hr⟩
      · have HQ := HR.out
        rw [emore_yes s ty m j a hbg] at HQ
        clear HR hbg
        have HR : Hid (_ = caO s ty n i) := HQ
        clear HQ
        go_wp2_with fail
        refine (place_of b s j _ hr).mono ?_
        rintro e w' ⟨rfl, rfl⟩
        go_wp2_with fail
        refine (IH.out m (by omega) j _ hr (g.gb G1 hb) hj (by omega)).mono ?_
        rintro e w3 ⟨hg2, hp⟩
        have G3 := G1.trans hg2
        have bx3 := bx2.gb hg2
        have hv3 := Ev.kept (hg2.kept hr) _ _ hv2
        clear c0 c1 hv2 bx2
        cases hq : pe s ty m 2 j .nil with
        | error p =>
          rw [hq] at hp HR
          obtain ⟨q, rfl, ha⟩ := hp
          clear hq
          go_wp2_with fail
          go_ret2
          rw [← HR.out]
          exact ⟨G3, q, rfl, ha⟩
        | ok r =>
          obtain ⟨c, q⟩ := r
          rw [hq] at hp HR
          obtain ⟨v', rfl, hv', hr'⟩ := hp
          have pl := pe_places s ty _ _ _ _ _ _ hq hj (by omega)
          have p1 : j < q := by omega
          have p2 := pl.2.1
          clear hq pl
          obtain ⟨T', x', rfl⟩ := hv'.iface
          have hv4 : Ev w3 (eC j a c) (.iface 186 (.agg #[.iface T x, .iface T' x', .int .i64 (j : Int)])) := .inr (.inr (.inr (.inr (.inr ⟨rfl, T, x, T', x', rfl, hv3, hv'⟩))))
          go_wp2_with fail
          go_roundw
          case rel => exact ⟨m, q, eC j a c, _, _, rfl, by omega, hv4, hr', bx3, p2, by omega, G3, HR⟩
          case measure => rw [hr'.plk, hplr.out]; omega

theorem eexpr_fn (s : ByteArray) (ty : Bool) (n i : Nat) (h : chr s i = 92) : pe s ty (n + 1) 0 i .nil = fnO s ty n (i + 1) i := by
  rw [pe, if_pos h]; rfl
theorem eexpr_lt (s : ByteArray) (ty : Bool) (n i : Nat) (h : chr s i = 64) : pe s ty (n + 1) 0 i .nil = ltO s ty n (i + 1) i := by
  rw [pe, if_neg (by omega), if_pos h]; rfl
theorem eexpr_ca (s : ByteArray) (ty : Bool) (n i : Nat) (h : chr s i ≠ 92) (h' : chr s i ≠ 64) : pe s ty (n + 1) 0 i .nil = caO s ty n i := by
  rw [pe, if_neg h, if_neg h']; rfl

set_option maxHeartbeats 1000000 in
theorem expr_step (tx : Nat → Addr) (b : Nat) (s : ByteArray) (ty : Bool) (n : Nat) (ihE : ExprSaid tx b s ty n) (IH : Hid (∀ m, m ≤ n → AtomSaid tx b s ty m)) (hs : s.size ≤ 100000) (hb : 9 ≤ b) : ExprSaid tx b s ty (n + 1) := by
  intro i w h g hi hn
  have bx := Rbx.new ty h
  have h1 := h.alloc (rdo b ty)
  have G0 : Gb b w (w.alloc (rdo b ty)) := (Gb.refl b w).alloc _
  have c0 := bx.c0
  have c1 := bx.c1
  by_cases h92 : chr s i = 92
  · have HR : Hid (pe s ty (n + 1) 0 i .nil = fnO s ty n (i + 1) i) := eexpr_fn s ty n i h92
    have hlt : i < s.size := chr_in (by omega)
    have HC : Hid (s[i].toNat = 92) := by unfold Hid; rw [chrAt hlt]; exact h92
    clear h92
    go_enter Tryz.func123, Tryz.ntmps123
    go_wp2_with fail
    refine (place_of b s i _ h1).mono ?_
    rintro e w' ⟨rfl, rfl⟩
    go_wp2_with fail
    refine (take_yes b s i 92 _ h1 hlt hs HC.out).mono ?_
    rintro e w1 ⟨rfl, hr, hg⟩
    have G1 := G0.trans hg
    have bx1 := bx.gb hg
    replace c0 := bx1.c0
    replace c1 := bx1.c1
    go_wp2_with fail
    refine (function_any tx b s ty n (i + 1) i w1 ihE hr (g.gb G1 hb) hlt hs hb (by omega)).mono ?_
    rintro e w2 hp
    have HP : Hid (EPost tx b s (pe s ty (n + 1) 0 i .nil) w e w2) := by rw [HR.out]; exact hp.hand G1
    obtain ⟨u, v, rfl⟩ := hp.two
    clear HR hp
    go_wp2_with fail
    go_ret2
    exact HP.out
  · have HQ : Hid (∀ hlt : i < s.size, s[i].toNat ≠ 92) := ne_at h92
    by_cases h64 : chr s i = 64
    · have HR : Hid (pe s ty (n + 1) 0 i .nil = ltO s ty n (i + 1) i) := eexpr_lt s ty n i h64
      have hlt : i < s.size := chr_in (by omega)
      have HC : Hid (s[i].toNat = 64) := by unfold Hid; rw [chrAt hlt]; exact h64
      clear h64 h92
      go_enter Tryz.func123, Tryz.ntmps123
      go_wp2_with fail
      refine (place_of b s i _ h1).mono ?_
      rintro e w' ⟨rfl, rfl⟩
      go_wp2_with fail
      refine (take_no b s i 92 _ h1 hi hs HQ.out).mono ?_
      rintro e w0 ⟨rfl, d, rfl⟩
      replace h1 := h1.drewN d
      replace G0 := G0.drewN d
      have bx0 : Rbx w.heap.size b ty ((w.alloc (rdo b ty)).drewN d) := bx
      replace c0 := bx0.c0
      replace c1 := bx0.c1
      clear bx
      go_wp2_with fail
      refine (take_yes b s i 64 _ h1 hlt hs HC.out).mono ?_
      rintro e w1 ⟨rfl, hr, hg0⟩
      have G1 := G0.trans hg0
      have bx1 := bx0.gb hg0
      replace c0 := bx1.c0
      replace c1 := bx1.c1
      go_wp2_with fail
      refine (let_any tx b s ty n (i + 1) i w1 ihE hr (g.gb G1 hb) hlt hs hb (by omega)).mono ?_
      rintro e w2 hp
      have HP : Hid (EPost tx b s (pe s ty (n + 1) 0 i .nil) w e w2) := by rw [HR.out]; exact hp.hand G1
      obtain ⟨u, v, rfl⟩ := hp.two
      clear HR hp
      go_wp2_with fail
      go_ret2
      exact HP.out
    · have HR : Hid (pe s ty (n + 1) 0 i .nil = caO s ty n i) := eexpr_ca s ty n i h92 h64
      have HC : Hid (∀ hlt : i < s.size, s[i].toNat ≠ 64) := ne_at h64
      clear h92 h64
      go_enter Tryz.func123, Tryz.ntmps123
      go_wp2_with fail
      refine (place_of b s i _ h1).mono ?_
      rintro e w' ⟨rfl, rfl⟩
      go_wp2_with fail
      refine (take_no b s i 92 _ h1 hi hs HQ.out).mono ?_
      rintro e w0 ⟨rfl, d, rfl⟩
      replace h1 := h1.drewN d
      replace G0 := G0.drewN d
      have bx0 : Rbx w.heap.size b ty ((w.alloc (rdo b ty)).drewN d) := bx
      replace c0 := bx0.c0
      replace c1 := bx0.c1
      clear bx
      generalize (w.alloc (rdo b ty)).drewN d = w5 at *
      go_wp2_with fail
      refine (take_no b s i 64 _ h1 hi hs HC.out).mono ?_
      rintro e w1 ⟨rfl, d', rfl⟩
      replace h1 := h1.drewN d'
      replace G0 := G0.drewN d'
      have bx1 : Rbx w.heap.size b ty (w5.drewN d') := bx0
      replace c0 := bx1.c0
      replace c1 := bx1.c1
      clear bx0
      generalize w5.drewN d' = w6 at *
      go_wp2_with fail
      refine (calls_any tx b s ty n i _ IH h1 (g.gb G0 hb) hi hs hb (by omega)).mono ?_
      rintro e w2 hp
      have HP : Hid (EPost tx b s (pe s ty (n + 1) 0 i .nil) w e w2) := by rw [HR.out]; exact hp.hand G0
      obtain ⟨u, v, rfl⟩ := hp.two
      clear HR hp
      go_wp2_with fail
      go_ret2
      exact HP.out

theorem readers_all (tx : Nat → Addr) (b : Nat) (s : ByteArray) (ty : Bool) (hs : s.size ≤ 100000) (hb : 9 ≤ b) : ∀ n m, m ≤ n → ExprSaid tx b s ty m ∧ AtomSaid tx b s ty m := by
  have zero : ExprSaid tx b s ty 0 ∧ AtomSaid tx b s ty 0 := ⟨fun i w _ _ _ h0 => absurd h0 (by omega), fun i w _ _ _ h0 => absurd h0 (by omega)⟩
  intro n
  induction n with
  | zero => intro m hm; obtain rfl : m = 0 := by omega
            exact zero
  | succ n ih =>
    intro m hm
    rcases Nat.lt_or_ge m (n + 1) with h | h
    · exact ih m (by omega)
    · obtain rfl : m = n + 1 := by omega
      exact ⟨expr_step tx b s ty n (ih n (Nat.le_refl n)).1 (fun m hm => (ih m hm).2) hs hb, atom_any tx b s ty n (ih n (Nat.le_refl n)).1 hs hb⟩

/-- What a reader of a whole text leaves. -/
def ReadPost (tx : Nat → Addr) (s : ByteArray) (ty : Bool) (w : World) (e : Ending) (w' : World) : Prop :=
  Below w.heap.size w w' ∧ match wholeE s ty with
    | .error p => ∃ q, e = .returned (.tuple #[.nilIface, atv q]) ∧ AtErr (tx 1) q p w'
    | .ok x => ∃ v, e = .returned (.tuple #[v, .nilIface]) ∧ Ev w' x v

theorem ReadPost.two {tx : Nat → Addr} {s : ByteArray} {ty : Bool} {w w1 : World} {e : Ending} (h : ReadPost tx s ty w e w1) : ∃ u v, e = .returned (.tuple #[u, v]) := by
  obtain ⟨_, h⟩ := h
  cases hq : wholeE s ty with
  | error p => rw [hq] at h; obtain ⟨q, rfl, _⟩ := h; exact ⟨_, _, rfl⟩
  | ok x => rw [hq] at h; obtain ⟨v, h, _⟩ := h; exact ⟨_, _, h⟩

def WPost (tx : Nat → Addr) (b : Nat) (s : ByteArray) (ty : Bool) (w : World) (e : Ending) (w' : World) : Prop :=
  Gb b w w' ∧ match wholeE s ty with
    | .error p => ∃ q, e = .returned (.tuple #[.nilIface, atv q]) ∧ AtErr (tx 1) q p w'
    | .ok x => ∃ v, e = .returned (.tuple #[v, .nilIface]) ∧ Ev w' x v

set_option maxHeartbeats 1000000 in
theorem whole_any (tx : Nat → Addr) (b : Nat) (s : ByteArray) (ty : Bool) (w : World) (h : Rd b s 0 w) (g : Gl tx w) (hs : s.size ≤ 100000) (hb : 9 ≤ b) :
    Calls Tryz.prog 91 #[rdv b ty] w (WPost tx b s ty w) := by
  have hE := (readers_all tx b s ty hs hb (3 * s.size + 2) _ (Nat.le_refl _)).1
  have bx := Rbx.new ty h
  have h1 := h.alloc (rdo b ty)
  have G0 : Gb b w (w.alloc (rdo b ty)) := (Gb.refl b w).alloc _
  have c0 := bx.c0
  have c1 := bx.c1
  go_enter Tryz.func91, Tryz.ntmps91
  go_wp2_with fail
  refine (hE 0 _ h1 (g.gb G0 hb) (Nat.zero_le _) (by omega)).mono ?_
  rintro e w1 ⟨hg, hp⟩
  have G1 := G0.trans hg
  have bx1 := bx.gb hg
  replace c0 := bx1.c0
  replace c1 := bx1.c1
  cases hq : pe s ty (3 * s.size + 2) 0 0 .nil with
  | error p =>
    rw [hq] at hp
    obtain ⟨q, rfl, ha⟩ := hp
    have HR : Hid (wholeE s ty = .error p) := by unfold Hid wholeE; rw [hq]
    clear hq
    go_wp2_with fail
    go_ret2
    refine ⟨G1, ?_⟩
    rw [HR.out]
    exact ⟨q, rfl, ha⟩
  | ok r =>
    obtain ⟨x, j⟩ := r
    rw [hq] at hp
    obtain ⟨v, rfl, hv, hr⟩ := hp
    obtain ⟨T, y, rfl⟩ := hv.iface
    have pl := pe_places s ty _ _ _ _ _ _ hq (Nat.zero_le _) (by omega)
    by_cases hj : j < s.size
    · have HR : Hid (wholeE s ty = .error j) := by unfold Hid wholeE; rw [hq]; exact if_pos hj
      clear hq pl
      go_wp2_with fail
      refine (end_no tx _ s j w1 hr (g.gb G1 hb) hj hs hb).mono ?_
      rintro e w2 ⟨q, rfl, ha, hg2⟩
      go_wp2_with fail
      go_ret2
      refine ⟨G1.trans hg2, ?_⟩
      rw [HR.out]
      exact ⟨q, rfl, ha⟩
    · have HR : Hid (wholeE s ty = .ok x) := by unfold Hid wholeE; rw [hq]; exact if_neg hj
      obtain rfl : j = s.size := by omega
      clear hq pl hj
      go_wp2_with fail
      refine (end_yes _ s w1 hr hs).mono ?_
      rintro e w2 ⟨rfl, d, rfl⟩
      go_wp2_with fail
      go_ret2
      refine ⟨G1.drewN d, ?_⟩
      rw [HR.out]
      exact ⟨_, rfl, Ev.kept (w := w1) (w' := w1.drewN d) (fun _ _ _ _ _ h => h) _ _ hv⟩

theorem Gb.belowNew {w w' : World} {o : Obj} (h : Gb w.heap.size (w.alloc o) w') : Below w.heap.size w w' :=
  ⟨h.os, h.tape, h.output, Nat.le_trans (by simp) h.size, fun k hk => (h.block k (by simp; omega) (by simp; omega)).trans (Below.heap_alloc _ _ _ hk)⟩

set_option maxHeartbeats 1000000 in
theorem read_any (tx : Nat → Addr) (s : ByteArray) (w : World) (g : Gl tx w) (hs : s.size ≤ 100000) :
    Calls Tryz.prog 79 #[.string s] w (ReadPost tx s false w) := by
  have hsz := g.size
  have gA := g.below ((Below.refl w.heap.size w).alloc (Nat.le_refl _) (.cells #[.string s, .int .i64 0] 207)) hsz
  have hR := Rd.new s w
  go_enter Tryz.func79, Tryz.ntmps79
  go_wp2_with fail
  refine (new_any s w).mono ?_
  rintro e w' ⟨rfl, rfl⟩
  go_wp2_with fail
  refine (whole_any tx w.heap.size s false _ hR gA hs hsz).mono ?_
  rintro e w1 ⟨hg, hp⟩
  have HP : Hid (ReadPost tx s false w e w1) := ⟨hg.belowNew, hp⟩
  obtain ⟨u, v, rfl⟩ := HP.out.two
  clear hp
  go_wp2_with fail
  go_ret2
  exact HP.out

set_option maxHeartbeats 1000000 in
theorem readTyped_any (tx : Nat → Addr) (s : ByteArray) (w : World) (g : Gl tx w) (hs : s.size ≤ 100000) :
    Calls Tryz.prog 54 #[.string s] w (ReadPost tx s true w) := by
  have hsz := g.size
  have gA := g.below ((Below.refl w.heap.size w).alloc (Nat.le_refl _) (.cells #[.string s, .int .i64 0] 207)) hsz
  have hR := Rd.new s w
  go_enter Tryz.func54, Tryz.ntmps54
  go_wp2_with fail
  refine (new_any s w).mono ?_
  rintro e w' ⟨rfl, rfl⟩
  go_wp2_with fail
  refine (whole_any tx w.heap.size s true _ hR gA hs hsz).mono ?_
  rintro e w1 ⟨hg, hp⟩
  have HP : Hid (ReadPost tx s true w e w1) := ⟨hg.belowNew, hp⟩
  obtain ⟨u, v, rfl⟩ := HP.out.two
  clear hp
  go_wp2_with fail
  go_ret2
  exact HP.out
end Go.Proofs.YtceadeaodbadlaaGreatDoor
