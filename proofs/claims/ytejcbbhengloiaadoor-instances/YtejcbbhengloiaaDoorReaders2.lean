import Derived.Test.YtejcbbhengloiaaDoorReaders
set_option linter.unusedVariables false
set_option linter.unusedSimpArgs false
namespace Go.Proofs.YtejcbbhengloiaaDoor
open Go.RowKit

/-- What readCalls comes to. -/
def caOut (s : ByteArray) (n i : Nat) : Out :=
  match pr s n 2 i 0 [] with
  | .error p => .error p
  | .ok (k, f, j) => pr s n 1 j k f

theorem more_yes (s : ByteArray) (m j k : Nat) (f : List UInt8) (h : begins (chr s j) = true) : pr s (m + 1) 1 j k f =
    match pr s m 2 j 0 [] with
    | .error p => .error p
    | .ok (l, g, q) => pr s m 1 q 1 (firstOf k f ++ secondOf l g) := by
  rw [pr, if_pos h]
  cases pr s m 2 j 0 [] <;> rfl
theorem more_no (s : ByteArray) (m j k : Nat) (f : List UInt8) (h : begins (chr s j) = false) : pr s (m + 1) 1 j k f = .ok (k, f, j) := by
  rw [pr, if_neg (by rw [h]; decide)]

/-- The place that a Reader in block b stands at. -/
def plc (b : Nat) (w : World) : Nat := (intOf ((w.cell? ⟨b, 1, none⟩).getD .nilIface)).toNat
theorem Rd.plc {b : Nat} {s : ByteArray} {i : Nat} {w : World} (h : Rd b s i w) : plc b w = i := by
  unfold YtejcbbhengloiaaDoor.plc; rw [h.place]; simp [intOf]

set_option maxHeartbeats 1000000 in
theorem calls_any (tl tx : Addr) (b : Nat) (s : ByteArray) (n i : Nat) (w : World) (ih : ∀ m, m ≤ n → AtomSaid tl tx b s m) (h : Rd b s i w) (g : Gl tl tx w) (hi : i ≤ s.size) (hs : s.size ≤ 100000) (hb : 3 ≤ b) (hn : 3 * (s.size - i) + 1 ≤ n) :
    Calls Tryd.prog 61 #[.pointer (some ⟨b, 0, none⟩)] w (Post tx b s (caOut s n i) w) := by
  have IH : Hid (∀ m, m ≤ n → AtomSaid tl tx b s m) := ih
  clear ih
  go_enter Tryd.func61, Tryd.ntmps61
  go_wp2_with fail
  refine (IH.out n (Nat.le_refl n) i w h g hi hn).mono ?_
  rintro e w1 ⟨hg, hp⟩
  cases hq : pr s n 2 i 0 [] with
  | error p =>
    rw [hq] at hp
    obtain ⟨q, rfl, ha⟩ := hp
    have HR : Hid (caOut s n i = .error p) := by unfold Hid caOut; rw [hq]
    clear hq
    go_wp2_with fail
    go_ret2
    rw [HR.out]
    exact ⟨hg, q, rfl, ha⟩
  | ok r =>
    obtain ⟨k, f, j⟩ := r
    rw [hq] at hp
    obtain ⟨T, x, rfl, hv, hr⟩ := hp
    have pl := pr_places s _ _ _ _ _ _ _ _ hq hi
    have HR : Hid (pr s n 1 j k f = caOut s n i) := by unfold Hid caOut; rw [hq]
    clear hq
    go_wp2_with fail
    go_loopw [4] (fun v wr => ∃ m j k f T x, v = .iface T x ∧ m ≤ n ∧ Pv T x k f ∧ Rd b s j wr ∧ j ≤ s.size ∧ 3 * (s.size - j) + 2 ≤ m ∧ Gb b w wr ∧ Hid (pr s m 1 j k f = caOut s n i)) (fun _ wr => s.size - plc b wr)
    case atStart => exact ⟨n, j, k, f, T, x, rfl, Nat.le_refl n, hv, hr, by omega, by omega, hg, HR⟩
    case round =>
      clear HR hv hr hg pl
      obtain ⟨m, j, k, f, T, x, rfl, hmn, hv, hr, hj, hm, hg, HR⟩ := hrel
      obtain ⟨m, rfl⟩ : ∃ m', m = m' + 1 := ⟨m - 1, by omega⟩
      have hl := chr_lt s j
      go_wp2_with fail
      refine (peek_any b s j _ hr hj hs).mono ?_
      rintro e w' ⟨rfl, d, rfl⟩
      go_wp2_with fail
      refine (beginsAtom_any (chr s j) _ hl).mono ?_
      rintro e w' ⟨rfl, rfl⟩
      cases hbg : begins (chr s j)
      · have HQ : Hid (caOut s n i = .ok (k, f, j)) := by rw [← HR.out]; exact more_no s m j k f hbg
        clear hbg
        go_wp2_with fail
        go_ret2
        rw [HQ.out]
        exact ⟨hg.drewN d, T, x, rfl, hv, hr.drewN d⟩
      · have HQ := HR.out
        rw [more_yes s m j k f hbg] at HQ
        clear HR hbg
        have HR : Hid (_ = caOut s n i) := HQ
        clear HQ
        go_wp2_with fail
        refine (IH.out m (by omega) j _ (hr.drewN d) (g.gb (hg.drewN d) hb) hj (by omega)).mono ?_
        rintro e w2 ⟨hg2, hp⟩
        cases hq : pr s m 2 j 0 [] with
        | error p =>
          rw [hq] at hp HR
          obtain ⟨q, rfl, ha⟩ := hp
          clear hq
          go_wp2_with fail
          go_ret2
          rw [← HR.out]
          exact ⟨(hg.drewN d).trans hg2, q, rfl, ha⟩
        | ok r =>
          obtain ⟨l, f', q⟩ := r
          rw [hq] at hp HR
          obtain ⟨T', x', rfl, hv', hr'⟩ := hp
          have pl := pr_places s _ _ _ _ _ _ _ _ hq hj
          clear hq
          go_wp2_with fail
          go_roundw
          case rel => exact ⟨m, q, 1, firstOf k f ++ secondOf l f', _, _, rfl, by omega, Pv.closed.call T x k f T' x' l f' hv hv', hr', by omega, by omega, (hg.drewN d).trans hg2, HR⟩
          case measure => rw [hr'.plc, hr.plc]; omega

theorem expr_fn (s : ByteArray) (n i : Nat) (h : chr s i = 92) : pr s (n + 1) 0 i 0 [] = fnOut s n (i + 1) := by
  rw [pr, if_pos h]; rfl
theorem expr_lt (s : ByteArray) (n i : Nat) (h : chr s i = 64) : pr s (n + 1) 0 i 0 [] = ltOut s n (i + 1) := by
  rw [pr, if_neg (by omega), if_pos h]; rfl
theorem expr_ca (s : ByteArray) (n i : Nat) (h : chr s i ≠ 92) (h' : chr s i ≠ 64) : pr s (n + 1) 0 i 0 [] = caOut s n i := by
  rw [pr, if_neg h, if_neg h']; rfl

theorem chr_at {s : ByteArray} {i : Nat} (hlt : i < s.size) : s[i].toNat = chr s i := by simp [chr, hlt]

/-- What a callee's Post comes to, handed on. -/
theorem Post.hand {tx : Addr} {b : Nat} {s : ByteArray} {r : Out} {w w1 w2 : World} {e : Ending} (hg : Gb b w w1) (h : Post tx b s r w1 e w2) : Post tx b s r w e w2 := ⟨hg.trans h.1, h.2⟩

/-- It returned two values. -/
theorem Post.two {tx : Addr} {b : Nat} {s : ByteArray} {r : Out} {w w1 : World} {e : Ending} (h : Post tx b s r w e w1) : ∃ u v, e = .returned (.tuple #[u, v]) := by
  obtain ⟨_, h⟩ := h
  cases r with
  | error p => obtain ⟨q, rfl, _⟩ := h; exact ⟨_, _, rfl⟩
  | ok r => obtain ⟨k, f, j⟩ := r; obtain ⟨T, x, rfl, _⟩ := h; exact ⟨_, _, rfl⟩

set_option maxHeartbeats 1000000 in
theorem expr_step (tl tx : Addr) (b : Nat) (s : ByteArray) (n : Nat) (ihE : ExprSaid tl tx b s n) (ihA : ∀ m, m ≤ n → AtomSaid tl tx b s m) (hs : s.size ≤ 100000) (hb : 3 ≤ b) : ExprSaid tl tx b s (n + 1) := by
  intro i w h g hi hn
  have IH : Hid (∀ m, m ≤ n → AtomSaid tl tx b s m) := ihA
  clear ihA
  by_cases h92 : chr s i = 92
  · have HR : Hid (pr s (n + 1) 0 i 0 [] = fnOut s n (i + 1)) := expr_fn s n i h92
    have hlt : i < s.size := chr_in (by omega)
    have hc : s[i].toNat = 92 := by rw [chr_at hlt]; exact h92
    clear h92
    go_enter Tryd.func31, Tryd.ntmps31
    go_wp2_with fail
    refine (take_yes b s i 92 w h hlt hs hc).mono ?_
    rintro e w1 ⟨rfl, hr, hg⟩
    clear hc
    go_wp2_with fail
    refine (function_any tl tx b s n (i + 1) w1 ihE hr (g.gb hg hb) hlt hs hb (by omega)).mono ?_
    rintro e w2 hp
    have HP : Hid (Post tx b s (pr s (n + 1) 0 i 0 []) w e w2) := by rw [HR.out]; exact hp.hand hg
    obtain ⟨u, v, rfl⟩ := hp.two
    clear HR hp
    go_wp2_with fail
    go_ret2
    exact HP.out
  · have hq : ∀ hlt : i < s.size, s[i].toNat ≠ 92 := by intro hlt; rw [chr_at hlt]; exact h92
    by_cases h64 : chr s i = 64
    · have HR : Hid (pr s (n + 1) 0 i 0 [] = ltOut s n (i + 1)) := expr_lt s n i h64
      have hlt : i < s.size := chr_in (by omega)
      have hc : s[i].toNat = 64 := by rw [chr_at hlt]; exact h64
      clear h64 h92
      have HQ : Hid (∀ hlt : i < s.size, s[i].toNat ≠ 92) := hq
      have HC : Hid (s[i].toNat = 64) := hc
      clear hq hc
      go_enter Tryd.func31, Tryd.ntmps31
      go_wp2_with fail
      refine (take_no b s i 92 w h hi hs HQ.out).mono ?_
      rintro e w0 ⟨rfl, d, rfl⟩
      go_wp2_with fail
      refine (take_yes b s i 64 _ (h.drewN d) hlt hs HC.out).mono ?_
      rintro e w1 ⟨rfl, hr, hg0⟩
      have hg := ((Gb.refl b w).drewN d).trans hg0
      go_wp2_with fail
      refine (let_any tl tx b s n (i + 1) w1 ihE hr (g.gb hg hb) hlt hs hb (by omega)).mono ?_
      rintro e w2 hp
      have HP : Hid (Post tx b s (pr s (n + 1) 0 i 0 []) w e w2) := by rw [HR.out]; exact hp.hand hg
      obtain ⟨u, v, rfl⟩ := hp.two
      clear HR hp
      go_wp2_with fail
      go_ret2
      exact HP.out
    · have HR : Hid (pr s (n + 1) 0 i 0 [] = caOut s n i) := expr_ca s n i h92 h64
      have HC : Hid (∀ hlt : i < s.size, s[i].toNat ≠ 64) := by intro hlt; rw [chr_at hlt]; exact h64
      have HQ : Hid (∀ hlt : i < s.size, s[i].toNat ≠ 92) := hq
      clear hq h92 h64
      go_enter Tryd.func31, Tryd.ntmps31
      go_wp2_with fail
      refine (take_no b s i 92 w h hi hs HQ.out).mono ?_
      rintro e w0 ⟨rfl, d, rfl⟩
      go_wp2_with fail
      refine (take_no b s i 64 _ (h.drewN d) hi hs HC.out).mono ?_
      rintro e w1 ⟨rfl, d', rfl⟩
      have hg := (Gb.refl b w).drewN (d + d')
      go_wp2_with fail
      refine (calls_any tl tx b s n i _ IH.out (h.drewN _) (g.gb hg hb) hi hs hb (by omega)).mono ?_
      rintro e w2 hp
      have HP : Hid (Post tx b s (pr s (n + 1) 0 i 0 []) w e w2) := by rw [HR.out]; exact hp.hand ((Gb.refl b w).drewN _)
      obtain ⟨u, v, rfl⟩ := hp.two
      clear HR hp
      go_wp2_with fail
      go_ret2
      exact HP.out

theorem readers_all (tl tx : Addr) (b : Nat) (s : ByteArray) (hs : s.size ≤ 100000) (hb : 3 ≤ b) : ∀ n m, m ≤ n → ExprSaid tl tx b s m ∧ AtomSaid tl tx b s m := by
  have zero : ExprSaid tl tx b s 0 ∧ AtomSaid tl tx b s 0 := ⟨fun i w _ _ _ h0 => absurd h0 (by omega), fun i w _ _ _ h0 => absurd h0 (by omega)⟩
  intro n
  induction n with
  | zero => intro m hm; obtain rfl : m = 0 := by omega
            exact zero
  | succ n ih =>
    intro m hm
    rcases Nat.lt_or_ge m (n + 1) with h | h
    · exact ih m (by omega)
    · obtain rfl : m = n + 1 := by omega
      exact ⟨expr_step tl tx b s n (ih n (Nat.le_refl n)).1 (fun m hm => (ih m hm).2) hs hb, atom_any tl tx b s n (ih n (Nat.le_refl n)).1 hs hb⟩

/-- What Read leaves. -/
def ReadPost (tx : Addr) (s : ByteArray) (w : World) (e : Ending) (w' : World) : Prop :=
  Below w.heap.size w w' ∧ match whole s with
    | .error p => ∃ q, e = .returned (.tuple #[.nilIface, atv q]) ∧ AtErr tx q p w'
    | .ok f => ∃ T x k, e = .returned (.tuple #[.iface T x, .nilIface]) ∧ Pv T x k f

theorem Gb.belowNew {w w' : World} {o : Obj} (h : Gb w.heap.size (w.alloc o) w') : Below w.heap.size w w' :=
  ⟨h.os, h.tape, h.output, Nat.le_trans (by simp) h.size, fun k hk => (h.block k (by simp; omega) (by simp; omega)).trans (Below.heap_alloc _ _ _ hk)⟩

set_option maxHeartbeats 1000000 in
theorem read_any (tl tx : Addr) (s : ByteArray) (w : World) (g : Gl tl tx w) (hs : s.size ≤ 100000) :
    Calls Tryd.prog 19 #[.string s] w (ReadPost tx s w) := by
  have hsz := g.size
  have hE := (readers_all tl tx w.heap.size s hs hsz (3 * s.size + 2) _ (Nat.le_refl _)).1
  have gA := g.below ((Below.refl w.heap.size w).alloc (Nat.le_refl _) (.cells #[.string s, .int .i64 0] 115)) hsz
  have hR := Rd.new s w
  go_enter Tryd.func19, Tryd.ntmps19
  go_wp2_with fail
  refine (new_any s w).mono ?_
  rintro e w' ⟨rfl, rfl⟩
  go_wp2_with fail
  refine (hE 0 _ hR gA (Nat.zero_le _) (by omega)).mono ?_
  rintro e w1 ⟨hg, hp⟩
  cases hq : pr s (3 * s.size + 2) 0 0 0 [] with
  | error p =>
    rw [hq] at hp
    obtain ⟨q, rfl, ha⟩ := hp
    have HR : Hid (whole s = .error p) := by unfold Hid whole; rw [hq]
    clear hq
    go_wp2_with fail
    go_ret2
    refine ⟨hg.belowNew, ?_⟩
    rw [HR.out]
    exact ⟨q, rfl, ha⟩
  | ok r =>
    obtain ⟨k, f, j⟩ := r
    rw [hq] at hp
    obtain ⟨T, x, rfl, hv, hr⟩ := hp
    have pl := pr_places s _ _ _ _ _ _ _ _ hq (Nat.zero_le _)
    by_cases hj : j < s.size
    · have HR : Hid (whole s = .error j) := by unfold Hid whole; rw [hq]; exact if_pos hj
      clear hq pl
      go_wp2_with fail
      refine (end_no tl tx _ s j w1 hr (gA.gb hg hsz) hj hs hsz).mono ?_
      rintro e w2 ⟨q, rfl, ha, hg2⟩
      go_wp2_with fail
      go_ret2
      refine ⟨(hg.trans hg2).belowNew, ?_⟩
      rw [HR.out]
      exact ⟨q, rfl, ha⟩
    · have HR : Hid (whole s = .ok f) := by unfold Hid whole; rw [hq]; exact if_neg hj
      obtain rfl : j = s.size := by omega
      clear hq pl hj
      go_wp2_with fail
      refine (end_yes _ s w1 hr hs).mono ?_
      rintro e w2 ⟨rfl, d, rfl⟩
      go_wp2_with fail
      go_ret2
      refine ⟨(hg.drewN d).belowNew, ?_⟩
      rw [HR.out]
      exact ⟨T, x, k, rfl, hv⟩
end Go.Proofs.YtejcbbhengloiaaDoor
