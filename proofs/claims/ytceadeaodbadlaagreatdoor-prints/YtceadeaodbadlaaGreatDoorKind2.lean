import Derived.Test.YtceadeaodbadlaaGreatDoorKind
set_option linter.unusedVariables false
set_option linter.unusedSimpArgs false
namespace Go.Proofs.YtceadeaodbadlaaGreatDoor
open Go.RowKit

/-- What readUnit comes to. -/
def unOut (s : ByteArray) (n i : Nat) : TOut := pt s (n + 1) 2 i .nil

theorem un_I {s : ByteArray} {n i : Nat} (h : chr s i = 73) : unOut s n i = .ok (tI, i + 1) := by unfold unOut; rw [pt, if_pos h]
theorem un_B {s : ByteArray} {n i : Nat} (h : chr s i = 66) : unOut s n i = .ok (tB, i + 1) := by unfold unOut; rw [pt, if_neg (by omega), if_pos h]
theorem un_L {s : ByteArray} {n i : Nat} (h : chr s i = 91) : unOut s n i = match cbOut s n (i + 1) 93 with | .error p => .error p | .ok (a, j) => .ok (tL a, j) := by
  unfold unOut cbOut; rw [pt, if_neg (by omega), if_neg (by omega), if_pos h]
  cases pt s n 0 (i + 1) .nil with
  | error p => rfl
  | ok r => obtain ⟨a, j⟩ := r; by_cases h2 : chr s j = 93 <;> simp [h2]
theorem un_C {s : ByteArray} {n i : Nat} (h : chr s i = 40) : unOut s n i = cbOut s n (i + 1) 41 := by
  unfold unOut cbOut; rw [pt, if_neg (by omega), if_neg (by omega), if_neg (by omega), if_pos h]
  cases pt s n 0 (i + 1) .nil <;> rfl
theorem un_V {s : ByteArray} {n i : Nat} (h1 : chr s i ≠ 73) (h2 : chr s i ≠ 66) (h3 : chr s i ≠ 91) (h4 : chr s i ≠ 40) (h : isLet (chr s i) = true) : unOut s n i = vOut s i := by
  unfold unOut vOut vEnd; rw [pt, if_neg h1, if_neg h2, if_neg h3, if_neg h4, if_pos h]
theorem un_N {s : ByteArray} {n i : Nat} (h1 : chr s i ≠ 73) (h2 : chr s i ≠ 66) (h3 : chr s i ≠ 91) (h4 : chr s i ≠ 40) (h : isLet (chr s i) = false) : unOut s n i = .error i := by
  unfold unOut; rw [pt, if_neg h1, if_neg h2, if_neg h3, if_neg h4, if_neg (by rw [h]; decide)]

theorem cbOut_size {s : ByteArray} {n i c j : Nat} {t : Ty} (h : cbOut s n i c = .ok (t, j)) (hi : i ≤ s.size) : Ok t ∧ sz t ≤ s.size := by
  unfold cbOut at h
  split at h
  · cases h
  · rename_i h1
    have p := pt_places s _ _ _ _ _ _ h1 hi (by omega)
    have q := pt_size s _ _ _ _ _ _ h1 hi (by omega)
    simp at q
    split at h
    · cases h; exact ⟨p.2.2, by omega⟩
    · cases h

theorem Gb.of_below {b : Nat} {w w' : World} (h : Below w.heap.size w w') : Gb b w w' := ⟨h.os, h.tape, h.output, h.size, fun k hk _ => h.block k hk⟩
theorem Rd.below {b : Nat} {s : ByteArray} {i : Nat} {w w' : World} (h : Rd b s i w) (hb : Below w.heap.size w w') : Rd b s i w' := (hb.block b h.lt).trans h

theorem ne_at {s : ByteArray} {i c : Nat} (h : chr s i ≠ c) : ∀ hlt : i < s.size, s[i].toNat ≠ c := by intro hlt; rw [chrAt hlt]; exact h

set_option maxHeartbeats 1000000 in
theorem unit_tI (tx : Nat → Addr) (b : Nat) (s : ByteArray) (n i : Nat) (w : World) (ih : TypeSaid tx b s n) (h : Rd b s i w) (g : Gl tx w) (hi : i ≤ s.size) (hs : s.size ≤ 100000) (hb : 9 ≤ b) (hn : 3 * (s.size - i) + 1 ≤ n + 1) (H : Hid (chr s i = 73)) :
    Calls Tryz.prog 208 #[.pointer (some ⟨b, 0, none⟩)] w (KPost tx b s (unOut s n i) w) := by
  have HR : Hid (unOut s n i = .ok (tI, i + 1)) := un_I H.out
  have hlt : i < s.size := chr_in (by rw [H.out]; decide)
  go_enter Tryz.func208, Tryz.ntmps208
  go_wp2_with fail
  refine (take_yes b s i 73 w h hlt hs ((chrAt hlt).trans H.out)).mono ?_
  rintro e w1 ⟨rfl, hr, hg0⟩
  have hg : Gb b w w1 := hg0
  go_wp2_with fail
  go_ret2
  refine ⟨hg, ?_⟩
  rw [HR.out]
  exact ⟨_, rfl, Tv.I _, hr⟩

set_option maxHeartbeats 1000000 in
theorem unit_tB (tx : Nat → Addr) (b : Nat) (s : ByteArray) (n i : Nat) (w : World) (ih : TypeSaid tx b s n) (h : Rd b s i w) (g : Gl tx w) (hi : i ≤ s.size) (hs : s.size ≤ 100000) (hb : 9 ≤ b) (hn : 3 * (s.size - i) + 1 ≤ n + 1) (H : Hid (chr s i = 66)) (N73 : Hid (chr s i ≠ 73)) :
    Calls Tryz.prog 208 #[.pointer (some ⟨b, 0, none⟩)] w (KPost tx b s (unOut s n i) w) := by
  have HR : Hid (unOut s n i = .ok (tB, i + 1)) := un_B H.out
  have hlt : i < s.size := chr_in (by rw [H.out]; decide)
  go_enter Tryz.func208, Tryz.ntmps208
  go_wp2_with fail
  refine (take_no b s i 73 w h hi hs (ne_at N73.out)).mono ?_
  rintro e wt0 ⟨rfl, d0, rfl⟩
  go_wp2_with fail
  refine (take_yes b s i 66 _ (h.drewN _) hlt hs ((chrAt hlt).trans H.out)).mono ?_
  rintro e w1 ⟨rfl, hr, hg0⟩
  have hg : Gb b w w1 := ((Gb.refl b w).drewN _).trans hg0
  go_wp2_with fail
  go_ret2
  refine ⟨hg, ?_⟩
  rw [HR.out]
  exact ⟨_, rfl, Tv.B _, hr⟩

set_option maxHeartbeats 1000000 in
theorem unit_tL (tx : Nat → Addr) (b : Nat) (s : ByteArray) (n i : Nat) (w : World) (ih : TypeSaid tx b s n) (h : Rd b s i w) (g : Gl tx w) (hi : i ≤ s.size) (hs : s.size ≤ 100000) (hb : 9 ≤ b) (hn : 3 * (s.size - i) + 1 ≤ n + 1) (H : Hid (chr s i = 91)) (N73 : Hid (chr s i ≠ 73)) (N66 : Hid (chr s i ≠ 66)) :
    Calls Tryz.prog 208 #[.pointer (some ⟨b, 0, none⟩)] w (KPost tx b s (unOut s n i) w) := by
  have HR : Hid (_ = _) := @un_L s n i H.out
  have hlt : i < s.size := chr_in (by rw [H.out]; decide)
  go_enter Tryz.func208, Tryz.ntmps208
  go_wp2_with fail
  refine (take_no b s i 73 w h hi hs (ne_at N73.out)).mono ?_
  rintro e wt0 ⟨rfl, d0, rfl⟩
  go_wp2_with fail
  refine (take_no b s i 66 _ (h.drewN _) hi hs (ne_at N66.out)).mono ?_
  rintro e wt1 ⟨rfl, d1, rfl⟩
  go_wp2_with fail
  refine (take_yes b s i 91 _ (h.drewN _) hlt hs ((chrAt hlt).trans H.out)).mono ?_
  rintro e w1 ⟨rfl, hr, hg0⟩
  have hg : Gb b w w1 := ((Gb.refl b w).drewN _).trans hg0
  go_wp2_with fail
  refine (kclosed_any tx b s n (i + 1) 93 w1 ih hr (g.gb hg hb) hlt hs hb (by omega) (by decide)).mono ?_
  rintro e w2 ⟨hg2, hp⟩
  cases hq : cbOut s n (i + 1) 93 with
  | error p =>
    rw [hq] at hp HR
    obtain ⟨q, rfl, ha⟩ := hp
    clear hq
    go_wp2_with fail
    go_ret2
    refine ⟨hg.trans hg2, ?_⟩
    rw [HR.out]
    exact ⟨q, rfl, ha⟩
  | ok r =>
    obtain ⟨t, j⟩ := r
    rw [hq] at hp HR
    obtain ⟨v, rfl, hv, hr2⟩ := hp
    have HZ := cbOut_size hq hlt
    clear hq
    have NL := newList_any t v w2 HZ.1 hv (by have := HZ.2; omega)
    obtain ⟨T, x, rfl⟩ := hv.iface
    go_wp2_with fail
    refine NL.mono ?_
    rintro e w3 ⟨q, rfl, hv3, hb3⟩
    have hg3 : Gb b w2 w3 := ⟨hb3.os, hb3.tape, hb3.output, hb3.size, fun k hk _ => hb3.block k hk⟩
    have hr3 : Rd b s j w3 := (hb3.block b hr2.lt).trans hr2
    go_wp2_with fail
    go_ret2
    refine ⟨(hg.trans hg2).trans hg3, ?_⟩
    rw [HR.out]
    exact ⟨_, rfl, hv3, hr3⟩

set_option maxHeartbeats 1000000 in
theorem unit_tC (tx : Nat → Addr) (b : Nat) (s : ByteArray) (n i : Nat) (w : World) (ih : TypeSaid tx b s n) (h : Rd b s i w) (g : Gl tx w) (hi : i ≤ s.size) (hs : s.size ≤ 100000) (hb : 9 ≤ b) (hn : 3 * (s.size - i) + 1 ≤ n + 1) (H : Hid (chr s i = 40)) (N73 : Hid (chr s i ≠ 73)) (N66 : Hid (chr s i ≠ 66)) (N91 : Hid (chr s i ≠ 91)) :
    Calls Tryz.prog 208 #[.pointer (some ⟨b, 0, none⟩)] w (KPost tx b s (unOut s n i) w) := by
  have HR : Hid (unOut s n i = cbOut s n (i + 1) 41) := un_C H.out
  have hlt : i < s.size := chr_in (by rw [H.out]; decide)
  go_enter Tryz.func208, Tryz.ntmps208
  go_wp2_with fail
  refine (take_no b s i 73 w h hi hs (ne_at N73.out)).mono ?_
  rintro e wt0 ⟨rfl, d0, rfl⟩
  go_wp2_with fail
  refine (take_no b s i 66 _ (h.drewN _) hi hs (ne_at N66.out)).mono ?_
  rintro e wt1 ⟨rfl, d1, rfl⟩
  go_wp2_with fail
  refine (take_no b s i 91 _ (h.drewN _) hi hs (ne_at N91.out)).mono ?_
  rintro e wt2 ⟨rfl, d2, rfl⟩
  go_wp2_with fail
  refine (take_yes b s i 40 _ (h.drewN _) hlt hs ((chrAt hlt).trans H.out)).mono ?_
  rintro e w1 ⟨rfl, hr, hg0⟩
  have hg : Gb b w w1 := ((Gb.refl b w).drewN _).trans hg0
  go_wp2_with fail
  refine (kclosed_any tx b s n (i + 1) 41 w1 ih hr (g.gb hg hb) hlt hs hb (by omega) (by decide)).mono ?_
  rintro e w2 hp
  have HP : Hid (KPost tx b s (unOut s n i) w e w2) := by rw [HR.out]; exact hp.hand hg
  obtain ⟨u, v, rfl⟩ := hp.two
  clear HR hp
  go_wp2_with fail
  go_ret2
  exact HP.out

set_option maxHeartbeats 1000000 in
theorem unit_tV (tx : Nat → Addr) (b : Nat) (s : ByteArray) (n i : Nat) (w : World) (ih : TypeSaid tx b s n) (h : Rd b s i w) (g : Gl tx w) (hi : i ≤ s.size) (hs : s.size ≤ 100000) (hb : 9 ≤ b) (hn : 3 * (s.size - i) + 1 ≤ n + 1) (N73 : Hid (chr s i ≠ 73)) (N66 : Hid (chr s i ≠ 66)) (N91 : Hid (chr s i ≠ 91)) (N40 : Hid (chr s i ≠ 40)) :
    Calls Tryz.prog 208 #[.pointer (some ⟨b, 0, none⟩)] w (KPost tx b s (unOut s n i) w) := by
  go_enter Tryz.func208, Tryz.ntmps208
  go_wp2_with fail
  refine (take_no b s i 73 w h hi hs (ne_at N73.out)).mono ?_
  rintro e wt0 ⟨rfl, d0, rfl⟩
  go_wp2_with fail
  refine (take_no b s i 66 _ (h.drewN _) hi hs (ne_at N66.out)).mono ?_
  rintro e wt1 ⟨rfl, d1, rfl⟩
  go_wp2_with fail
  refine (take_no b s i 91 _ (h.drewN _) hi hs (ne_at N91.out)).mono ?_
  rintro e wt2 ⟨rfl, d2, rfl⟩
  go_wp2_with fail
  refine (take_no b s i 40 _ (h.drewN _) hi hs (ne_at N40.out)).mono ?_
  rintro e wt3 ⟨rfl, d3, rfl⟩
  go_wp2_with fail
  have hV : Calls Tryz.prog 231 #[.pointer (some ⟨b, 0, none⟩)] (w.drewN (d0 + d1 + d2 + d3)) (KPost tx b s (unOut s n i) (w.drewN (d0 + d1 + d2 + d3))) := by
    cases hc : isLet (chr s i)
    · rw [un_N N73.out N66.out N91.out N40.out hc]
      exact variable_no tx b s i _ (h.drewN _) (g.gb ((Gb.refl b w).drewN _) hb) hi hs hb hc
    · rw [un_V N73.out N66.out N91.out N40.out hc]
      exact variable_yes tx b s i _ (h.drewN _) (g.gb ((Gb.refl b w).drewN _) hb) hi hs hb hc
  refine hV.mono ?_
  rintro e w2 hp
  have HP : Hid (KPost tx b s (unOut s n i) w e w2) := hp.hand ((Gb.refl b w).drewN _)
  obtain ⟨u, v, rfl⟩ := hp.two
  clear hp hV
  go_wp2_with fail
  go_ret2
  exact HP.out

theorem unit_any (tx : Nat → Addr) (b : Nat) (s : ByteArray) (n : Nat) (ih : TypeSaid tx b s n) (hs : s.size ≤ 100000) (hb : 9 ≤ b) : UnitSaid tx b s (n + 1) := by
  intro i w h g hi hn
  show Calls _ _ _ _ (KPost tx b s (unOut s n i) w)
  by_cases h1 : chr s i = 73
  · exact unit_tI tx b s n i w ih h g hi hs hb hn h1
  by_cases h2 : chr s i = 66
  · exact unit_tB tx b s n i w ih h g hi hs hb hn h2 h1
  by_cases h3 : chr s i = 91
  · exact unit_tL tx b s n i w ih h g hi hs hb hn h3 h1 h2
  by_cases h4 : chr s i = 40
  · exact unit_tC tx b s n i w ih h g hi hs hb hn h4 h1 h2 h3
  exact unit_tV tx b s n i w ih h g hi hs hb hn h1 h2 h3 h4

/-- What readProduct comes to. -/
def prOut (s : ByteArray) (n i : Nat) : TOut :=
  match pt s n 2 i .nil with
  | .error p => .error p
  | .ok (u, j) => pt s n 1 j u

theorem star_yes (s : ByteArray) (m j : Nat) (a : Ty) (h : chr s j = 42) : pt s (m + 1) 1 j a =
    match pt s m 2 (j + 1) .nil with
    | .error p => .error p
    | .ok (b, q) => pt s m 1 q (tP a b) := by
  rw [pt, if_pos h]
  cases pt s m 2 (j + 1) .nil <;> rfl
theorem star_no (s : ByteArray) (m j : Nat) (a : Ty) (h : chr s j ≠ 42) : pt s (m + 1) 1 j a = .ok (a, j) := by
  rw [pt, if_neg h]

def plk (b : Nat) (w : World) : Nat := (intOf ((w.cell? ⟨b, 1, none⟩).getD .nilIface)).toNat
theorem Rd.plk {b : Nat} {s : ByteArray} {i : Nat} {w : World} (h : Rd b s i w) : plk b w = i := by
  unfold YtceadeaodbadlaaGreatDoor.plk; rw [h.place]; simp [intOf]

set_option maxHeartbeats 1000000 in
theorem product_any (tx : Nat → Addr) (b : Nat) (s : ByteArray) (n i : Nat) (w : World) (IH : Hid (∀ m, m ≤ n → UnitSaid tx b s m)) (h : Rd b s i w) (g : Gl tx w) (hi : i ≤ s.size) (hs : s.size ≤ 100000) (hb : 9 ≤ b) (hn : 3 * (s.size - i) + 1 ≤ n) :
    Calls Tryz.prog 178 #[.pointer (some ⟨b, 0, none⟩)] w (KPost tx b s (prOut s n i) w) := by
  go_enter Tryz.func178, Tryz.ntmps178
  go_wp2_with fail
  refine (IH.out n (Nat.le_refl n) i w h g hi hn).mono ?_
  rintro e w1 ⟨hg, hp⟩
  cases hq : pt s n 2 i .nil with
  | error p =>
    rw [hq] at hp
    obtain ⟨q, rfl, ha⟩ := hp
    have HR : Hid (prOut s n i = .error p) := by unfold Hid prOut; rw [hq]
    clear hq
    go_wp2_with fail
    go_ret2
    rw [HR.out]
    exact ⟨hg, q, rfl, ha⟩
  | ok r =>
    obtain ⟨t, j⟩ := r
    rw [hq] at hp
    obtain ⟨v, rfl, hv, hr⟩ := hp
    obtain ⟨T, x, rfl⟩ := hv.iface
    have pl := pt_places s _ _ _ _ _ _ hq hi (by omega)
    have ps := pt_size s _ _ _ _ _ _ hq hi (by omega)
    simp at ps
    have HR : Hid (pt s n 1 j t = prOut s n i) := by unfold Hid prOut; rw [hq]
    have p1 : i < j := by omega
    have p2 := pl.2.1
    have HO : Hid (Ok t ∧ sz t ≤ j) := ⟨pl.2.2, by omega⟩
    clear hq pl ps
    go_wp2_with fail
    go_loopw [4] (fun v wr => ∃ m j t T x, v = .iface T x ∧ Tv wr t (.iface T x) ∧ Hid (Ok t ∧ sz t ≤ j) ∧ m ≤ n ∧ Rd b s j wr ∧ j ≤ s.size ∧ 3 * (s.size - j) + 2 ≤ m ∧ Gb b w wr ∧ Hid (pt s m 1 j t = prOut s n i)) (fun _ wr => s.size - plk b wr)
    case atStart => exact ⟨n, j, t, T, x, rfl, hv, HO, Nat.le_refl n, hr, p2, by omega, hg, HR⟩
    case round =>
      clear HR hr hg p1 p2 hv HO
      obtain ⟨m, j, t, T, x, rfl, hv, HO, hmn, hr, hj, hm, hg, HR⟩ := hrel
      obtain ⟨m, rfl⟩ : ∃ m', m = m' + 1 := ⟨m - 1, by omega⟩
      by_cases hst : chr s j = 42
      · have HQ := HR.out
        rw [star_yes s m j t hst] at HQ
        have HS : Hid (chr s j = 42) := hst
        have hlt : j < s.size := chr_in (by rw [hst]; decide)
        clear HR hst
        have HR : Hid (_ = prOut s n i) := HQ
        clear HQ
        go_wp2_with fail
        refine (take_yes b s j 42 _ hr hlt hs ((chrAt hlt).trans HS.out)).mono ?_
        rintro e w2 ⟨rfl, hr2, hg2⟩
        have hg3 := hg.trans hg2
        go_wp2_with fail
        refine (IH.out m (by omega) (j + 1) _ hr2 (g.gb hg3 hb) hlt (by omega)).mono ?_
        rintro e w3 ⟨hg4, hp⟩
        cases hq : pt s m 2 (j + 1) .nil with
        | error p =>
          rw [hq] at hp HR
          obtain ⟨q, rfl, ha⟩ := hp
          clear hq
          go_wp2_with fail
          go_ret2
          rw [← HR.out]
          exact ⟨hg3.trans hg4, q, rfl, ha⟩
        | ok r =>
          obtain ⟨u, q⟩ := r
          rw [hq] at hp HR
          obtain ⟨y, rfl, hy, hr3⟩ := hp
          have pl := pt_places s _ _ _ _ _ _ hq hlt (by omega)
          have ps := pt_size s _ _ _ _ _ _ hq hlt (by omega)
          simp at ps
          have p1 : j + 1 < q := by omega
          have p2 := pl.2.1
          have hv3 : Tv w3 t (.iface T x) := Tv.kept ((hg2.kept hr).trans (hg4.kept hr2)) _ _ hv
          have HO2 : Hid (Ok (tP t u) ∧ sz (tP t u) ≤ q) := ⟨okP HO.out.1 pl.2.2, by have := HO.out.2; simp [sz]; omega⟩
          have NP := newPair_any t u _ y w3 HO.out.1 hv3 pl.2.2 hy (by have := HO.out.2; omega)
          clear hq pl ps
          obtain ⟨T', y', rfl⟩ := hy.iface
          go_wp2_with fail
          refine NP.mono ?_
          rintro e w4 ⟨q', rfl, hv4, hb4⟩
          have hr4 := hr3.below hb4
          have hg5 := (hg3.trans hg4).trans (Gb.of_below hb4)
          go_wp2_with fail
          go_roundw
          case rel => exact ⟨m, q, tP t u, _, _, rfl, hv4, HO2, by omega, hr4, p2, by omega, hg5, HR⟩
          case measure => rw [hr4.plk, hr.plk]; omega
      · have HQ : Hid (prOut s n i = .ok (t, j)) := by rw [← HR.out]; exact star_no s m j t hst
        have HS : Hid (chr s j ≠ 42) := hst
        clear hst
        go_wp2_with fail
        refine (take_no b s j 42 _ hr hj hs (ne_at HS.out)).mono ?_
        rintro e w2 ⟨rfl, d, rfl⟩
        go_wp2_with fail
        go_ret2
        rw [HQ.out]
        exact ⟨hg.drewN d, _, rfl, hv.drewN d, hr.drewN d⟩

theorem pt_type (s : ByteArray) (n i : Nat) : pt s (n + 1) 0 i .nil = match prOut s n i with
    | .error p => .error p
    | .ok (a, k) => if chr s k = 62 then (match pt s n 0 (k + 1) .nil with | .error p => .error p | .ok (b, l) => .ok (tF a b, l)) else .ok (a, k) := by
  rw [pt]; unfold prOut
  cases pt s n 2 i .nil with
  | error p => rfl
  | ok r => obtain ⟨u, j⟩ := r; simp only; cases pt s n 1 j u <;> rfl

theorem prOut_places {s : ByteArray} {n i : Nat} {t : Ty} {k : Nat} (h : prOut s n i = .ok (t, k)) (hi : i ≤ s.size) : i < k ∧ k ≤ s.size ∧ Ok t ∧ sz t ≤ s.size := by
  unfold prOut at h
  split at h
  · cases h
  · rename_i h1
    have p1 := pt_places s _ _ _ _ _ _ h1 hi (by omega)
    have p2 := pt_places s _ _ _ _ _ _ h (by omega) (fun _ => p1.2.2)
    have q1 := pt_size s _ _ _ _ _ _ h1 hi (by omega)
    have q2 := pt_size s _ _ _ _ _ _ h (by omega) (fun _ => p1.2.2)
    simp at q1 q2
    exact ⟨by omega, by omega, p2.2.2, by omega⟩

set_option maxHeartbeats 1000000 in
theorem type_step (tx : Nat → Addr) (b : Nat) (s : ByteArray) (n : Nat) (ihT : TypeSaid tx b s n) (IH : Hid (∀ m, m ≤ n → UnitSaid tx b s m)) (hs : s.size ≤ 100000) (hb : 9 ≤ b) : TypeSaid tx b s (n + 1) := by
  intro i w h g hi hn
  have HR : Hid (pt s (n + 1) 0 i .nil = _) := pt_type s n i
  go_enter Tryz.func142, Tryz.ntmps142
  go_wp2_with fail
  refine (product_any tx b s n i w IH h g hi hs hb (by omega)).mono ?_
  rintro e w1 ⟨hg, hp⟩
  cases hq : prOut s n i with
  | error p =>
    rw [hq] at hp HR
    obtain ⟨q, rfl, ha⟩ := hp
    clear hq
    go_wp2_with fail
    go_ret2
    rw [HR.out]
    exact ⟨hg, q, rfl, ha⟩
  | ok r =>
    obtain ⟨t, k⟩ := r
    rw [hq] at hp HR
    obtain ⟨v, rfl, hv, hr⟩ := hp
    obtain ⟨T, x, rfl⟩ := hv.iface
    have pl0 := prOut_places hq hi
    have pl : i < k ∧ k ≤ s.size := ⟨pl0.1, pl0.2.1⟩
    have HO : Hid (Ok t ∧ sz t ≤ s.size) := pl0.2.2
    clear hq pl0
    by_cases h62 : chr s k = 62
    · have hlt : k < s.size := chr_in (by rw [h62]; decide)
      have H62 : Hid (chr s k = 62) := h62
      have HQ := HR.out
      simp only [h62, if_true] at HQ
      clear HR h62
      have HR : Hid (_ = _) := HQ
      clear HQ
      go_wp2_with fail
      refine (take_yes b s k 62 _ hr hlt hs ((chrAt hlt).trans H62.out)).mono ?_
      rintro e w2 ⟨rfl, hr2, hg2⟩
      have hg3 := hg.trans hg2
      go_wp2_with fail
      refine (ihT (k + 1) _ hr2 (g.gb hg3 hb) hlt (by omega)).mono ?_
      rintro e w3 ⟨hg4, hp⟩
      cases hq : pt s n 0 (k + 1) .nil with
      | error p =>
        rw [hq] at hp HR
        obtain ⟨q, rfl, ha⟩ := hp
        clear hq
        go_wp2_with fail
        go_ret2
        rw [HR.out]
        exact ⟨hg3.trans hg4, q, rfl, ha⟩
      | ok r =>
        obtain ⟨u, q⟩ := r
        rw [hq] at hp HR
        obtain ⟨y, rfl, hy, hr3⟩ := hp
        have p1 := pt_places s _ _ _ _ _ _ hq hlt (by omega)
        have ps := pt_size s _ _ _ _ _ _ hq hlt (by omega)
        simp at ps
        have hv3 : Tv w3 t (.iface T x) := Tv.kept ((hg2.kept hr).trans (hg4.kept hr2)) _ _ hv
        have NP := newFunction_any t u _ y w3 HO.out.1 hv3 p1.2.2 hy (by have := HO.out.2; omega)
        clear hq p1 ps
        obtain ⟨T', y', rfl⟩ := hy.iface
        go_wp2_with fail
        refine NP.mono ?_
        rintro e w4 ⟨q', rfl, hv4, hb4⟩
        have hr4 := hr3.below hb4
        have hg5 := (hg3.trans hg4).trans (Gb.of_below hb4)
        go_wp2_with fail
        go_ret2
        rw [HR.out]
        exact ⟨hg5, _, rfl, hv4, hr4⟩
    · have HQ := HR.out
      simp only [h62, if_false] at HQ
      have H62 : Hid (chr s k ≠ 62) := h62
      clear HR h62
      have HR : Hid (_ = _) := HQ
      clear HQ
      go_wp2_with fail
      refine (take_no b s k 62 _ hr (by omega) hs (ne_at H62.out)).mono ?_
      rintro e w2 ⟨rfl, d, rfl⟩
      go_wp2_with fail
      go_ret2
      rw [HR.out]
      exact ⟨hg.drewN d, _, rfl, hv.drewN d, hr.drewN d⟩

theorem kreaders_all (tx : Nat → Addr) (b : Nat) (s : ByteArray) (hs : s.size ≤ 100000) (hb : 9 ≤ b) : ∀ n m, m ≤ n → TypeSaid tx b s m ∧ UnitSaid tx b s m := by
  have zero : TypeSaid tx b s 0 ∧ UnitSaid tx b s 0 := ⟨fun i w _ _ _ h0 => absurd h0 (by omega), fun i w _ _ _ h0 => absurd h0 (by omega)⟩
  intro n
  induction n with
  | zero => intro m hm; obtain rfl : m = 0 := by omega
            exact zero
  | succ n ih =>
    intro m hm
    rcases Nat.lt_or_ge m (n + 1) with h | h
    · exact ih m (by omega)
    · obtain rfl : m = n + 1 := by omega
      exact ⟨type_step tx b s n (ih n (Nat.le_refl n)).1 (fun m hm => (ih m hm).2) hs hb, unit_any tx b s n (ih n (Nat.le_refl n)).1 hs hb⟩

/-- What kind.Read leaves. -/
def KReadPost (tx : Nat → Addr) (s : ByteArray) (w : World) (e : Ending) (w' : World) : Prop :=
  Below w.heap.size w w' ∧ match wholeT s with
    | .error p => ∃ q, e = .returned (.tuple #[.nilIface, atv q]) ∧ AtErr (tx 1) q p w'
    | .ok t => ∃ v, e = .returned (.tuple #[v, .nilIface]) ∧ Tv w' t v

theorem Gb.belowK {w w' : World} {o : Obj} (h : Gb w.heap.size (w.alloc o) w') : Below w.heap.size w w' :=
  ⟨h.os, h.tape, h.output, Nat.le_trans (by simp) h.size, fun k hk => (h.block k (by simp; omega) (by simp; omega)).trans (Below.heap_alloc _ _ _ hk)⟩

set_option maxHeartbeats 1000000 in
theorem kread_any (tx : Nat → Addr) (s : ByteArray) (w : World) (g : Gl tx w) (hs : s.size ≤ 100000) :
    Calls Tryz.prog 109 #[.string s] w (KReadPost tx s w) := by
  have hsz := g.size
  have hE := (kreaders_all tx w.heap.size s hs hsz (3 * s.size + 3) _ (Nat.le_refl _)).1
  have gA := g.below ((Below.refl w.heap.size w).alloc (Nat.le_refl _) (.cells #[.string s, .int .i64 0] 207)) hsz
  have hR := Rd.new s w
  go_enter Tryz.func109, Tryz.ntmps109
  go_wp2_with fail
  refine (new_any s w).mono ?_
  rintro e w' ⟨rfl, rfl⟩
  go_wp2_with fail
  refine (hE 0 _ hR gA (Nat.zero_le _) (by omega)).mono ?_
  rintro e w1 ⟨hg, hp⟩
  cases hq : pt s (3 * s.size + 3) 0 0 .nil with
  | error p =>
    rw [hq] at hp
    obtain ⟨q, rfl, ha⟩ := hp
    have HR : Hid (wholeT s = .error p) := by unfold Hid wholeT; rw [hq]
    clear hq
    go_wp2_with fail
    go_ret2
    refine ⟨hg.belowK, ?_⟩
    rw [HR.out]
    exact ⟨q, rfl, ha⟩
  | ok r =>
    obtain ⟨t, j⟩ := r
    rw [hq] at hp
    obtain ⟨v, rfl, hv, hr⟩ := hp
    obtain ⟨T, x, rfl⟩ := hv.iface
    have pl := pt_places s _ _ _ _ _ _ hq (Nat.zero_le _) (by omega)
    by_cases hj : j < s.size
    · have HR : Hid (wholeT s = .error j) := by unfold Hid wholeT; rw [hq]; exact if_pos hj
      clear hq pl
      go_wp2_with fail
      refine (end_no tx _ s j w1 hr (gA.gb hg hsz) hj hs hsz).mono ?_
      rintro e w2 ⟨q, rfl, ha, hg2⟩
      go_wp2_with fail
      go_ret2
      refine ⟨(hg.trans hg2).belowK, ?_⟩
      rw [HR.out]
      exact ⟨q, rfl, ha⟩
    · have HR : Hid (wholeT s = .ok t) := by unfold Hid wholeT; rw [hq]; exact if_neg hj
      obtain rfl : j = s.size := by omega
      clear hq pl hj
      go_wp2_with fail
      refine (end_yes _ s w1 hr hs).mono ?_
      rintro e w2 ⟨rfl, d, rfl⟩
      go_wp2_with fail
      go_ret2
      refine ⟨(hg.drewN d).belowK, ?_⟩
      rw [HR.out]
      exact ⟨_, rfl, hv.drewN d⟩
end Go.Proofs.YtceadeaodbadlaaGreatDoor
