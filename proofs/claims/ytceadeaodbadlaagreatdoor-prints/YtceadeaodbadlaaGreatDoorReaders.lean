import Derived.Test.YtceadeaodbadlaaGreatDoorVals
set_option linter.unusedVariables false
set_option linter.unusedSimpArgs false
namespace Go.Proofs.YtceadeaodbadlaaGreatDoor
open Go.RowKit

/-- What a reader of an expression leaves. -/
def EPost (tx : Nat → Addr) (b : Nat) (s : ByteArray) (r : EOut) (w : World) (e : Ending) (w' : World) : Prop :=
  Gb b w w' ∧ match r with
    | .error p => ∃ q, e = .returned (.tuple #[.nilIface, atv q]) ∧ AtErr (tx 1) q p w'
    | .ok (x, j) => ∃ v, e = .returned (.tuple #[v, .nilIface]) ∧ Ev w' x v ∧ Rd b s j w'

def ExprSaid (tx : Nat → Addr) (b : Nat) (s : ByteArray) (ty : Bool) (n : Nat) : Prop :=
  ∀ (i : Nat) (w : World), Rd b s i w → Gl tx w → i ≤ s.size → 3 * (s.size - i) + 2 ≤ n →
    Calls Tryz.prog 123 #[rdv b ty] w (EPost tx b s (pe s ty n 0 i .nil) w)
def AtomSaid (tx : Nat → Addr) (b : Nat) (s : ByteArray) (ty : Bool) (n : Nat) : Prop :=
  ∀ (i : Nat) (w : World), Rd b s i w → Gl tx w → i ≤ s.size → 3 * (s.size - i) + 1 ≤ n →
    Calls Tryz.prog 187 #[rdv b ty] w (EPost tx b s (pe s ty n 2 i .nil) w)

theorem EPost.hand {tx : Nat → Addr} {b : Nat} {s : ByteArray} {r : EOut} {w w1 w2 : World} {e : Ending} (hg : Gb b w w1) (h : EPost tx b s r w1 e w2) : EPost tx b s r w e w2 := ⟨hg.trans h.1, h.2⟩
theorem EPost.two {tx : Nat → Addr} {b : Nat} {s : ByteArray} {r : EOut} {w w1 : World} {e : Ending} (h : EPost tx b s r w e w1) : ∃ u v, e = .returned (.tuple #[u, v]) := by
  obtain ⟨_, h⟩ := h
  cases r with
  | error p => obtain ⟨q, rfl, _⟩ := h; exact ⟨_, _, rfl⟩
  | ok r => obtain ⟨t, j⟩ := r; obtain ⟨v, h, _⟩ := h; exact ⟨_, _, h⟩

theorem Fv.shape {w : World} {F : Value} {g : List Ty} (h : Fv w F g) : F = .nilIface ∨ ∃ T x, F = .iface T x := by
  rcases h with ⟨_, rfl⟩ | ⟨u, _, h⟩
  · exact .inl rfl
  · exact .inr h.iface
theorem row_shape {w : World} {B : Nat} {e : TypeId} {k n : Nat} {v : Value} {xs : List Value} (h : w.ownsRow B e k v n xs) : ∃ a m c, v = .slice a m c := by
  rcases h.2 with ⟨rfl, _⟩ | ⟨g', cap, cur, rfl, _⟩ <;> exact ⟨_, _, _, rfl⟩
theorem Gv.shape {w : World} {G : Value} {g : List Ty} (h : Gv w G g) : ∃ a m c, G = .slice a m c := by
  obtain ⟨vs, h, _⟩ := h
  exact row_shape h

/-- What function comes to, at the name; its place is p. -/
def fnO (s : ByteArray) (ty : Bool) (n i p : Nat) : EOut :=
  if isLet (chr s i) then
    match fromO s ty (i + 1) with
    | .error p => .error p
    | .ok (g, j) =>
      if chr s j = 46 then
        match pe s ty n 0 (j + 1) .nil with
        | .error p => .error p
        | .ok (a, k) => .ok (eF (chr s i) p g a, k)
      else .error j
  else .error i

set_option maxHeartbeats 1000000 in
theorem function_any (tx : Nat → Addr) (b : Nat) (s : ByteArray) (ty : Bool) (n i p : Nat) (w : World) (ih : ExprSaid tx b s ty n) (h : Rd b s i w) (g : Gl tx w) (hi : i ≤ s.size) (hs : s.size ≤ 100000) (hb : 9 ≤ b) (hn : 3 * (s.size - i) ≤ n) :
    Calls Tryz.prog 150 #[rdv b ty, .int .i64 (p : Int)] w (EPost tx b s (fnO s ty n i p) w) := by
  have bx := Rbx.new ty h
  have h1 := h.alloc (rdo b ty)
  have G0 : Gb b w (w.alloc (rdo b ty)) := (Gb.refl b w).alloc _
  have g1 := g.gb G0 hb
  have c0 := bx.c0
  have c1 := bx.c1
  have hl := chr_lt s i
  cases hc : isLet (chr s i)
  · have HR : Hid (fnO s ty n i p = .error i) := by unfold Hid fnO; rw [if_neg (by rw [hc]; decide)]
    go_enter Tryz.func150, Tryz.ntmps150
    go_wp2_with fail
    refine (letter_no tx b s i _ h1 g1 hi hs hc hb).mono ?_
    rintro e w1 ⟨q, rfl, ha, hg⟩
    clear hc
    go_wp2_with fail
    go_ret2
    rw [HR.out]
    exact ⟨G0.trans hg, q, rfl, ha⟩
  · have hlt : i < s.size := chr_in (by intro e; rw [e] at hc; exact absurd hc (by decide))
    have HC : Hid (isLet (chr s i) = true) := hc
    clear hc
    go_enter Tryz.func150, Tryz.ntmps150
    go_wp2_with fail
    refine (letter_yes b s i _ h1 hs HC.out).mono ?_
    rintro e w1 ⟨rfl, hr, hg⟩
    have G1 := G0.trans hg
    have bx1 := bx.gb hg
    replace c0 := bx1.c0
    replace c1 := bx1.c1
    go_wp2_with fail
    refine (from_any tx b s ty (i + 1) _ hr (g.gb G1 hb) hlt hs hb).mono ?_
    rintro e w2 ⟨hg2, hp⟩
    have G2 := G1.trans hg2
    have bx2 := bx1.gb hg2
    replace c0 := bx2.c0
    replace c1 := bx2.c1
    clear bx1 bx
    cases hq : fromO s ty (i + 1) with
    | error q =>
      have HR : Hid (fnO s ty n i p = .error q) := by unfold Hid fnO; rw [if_pos HC.out, hq]
      rw [hq] at hp
      obtain ⟨q', rfl, ha⟩ := hp
      clear hq
      go_wp2_with fail
      go_ret2
      rw [HR.out]
      exact ⟨G2, q', rfl, ha⟩
    | ok r =>
      obtain ⟨gg, j⟩ := r
      have HR0 : Hid (fnO s ty n i p = if chr s j = 46 then (match pe s ty n 0 (j + 1) .nil with | .error p => .error p | .ok (a, k) => .ok (eF (chr s i) p gg a, k)) else .error j) := by unfold Hid fnO; rw [if_pos HC.out, hq]
      have pl := fromO_places hq (by omega)
      have p1 := pl.1
      have p2 := pl.2.1
      rw [hq] at hp
      obtain ⟨F, rfl, hF, hr2⟩ := hp
      clear hq pl
      by_cases h46 : chr s j = 46
      · have HQ := HR0.out
        rw [if_pos h46] at HQ
        have hlt2 : j < s.size := chr_in (by rw [h46]; decide)
        have H46 : Hid (chr s j = 46) := h46
        clear HR0 h46
        have HR : Hid (_ = _) := HQ
        clear HQ
        go_wp2_with fail
        refine (want_yes b s j 46 _ hr2 hs H46.out (by decide)).mono ?_
        rintro e w3 ⟨rfl, hr3, hg3⟩
        have G3 := G2.trans hg3
        have hF3 := hF.kept (hg3.kept hr2)
        have bx3 := bx2.gb hg3
        replace c0 := bx3.c0
        replace c1 := bx3.c1
        clear hF bx2
        go_wp2_with fail
        refine (ih (j + 1) _ hr3 (g.gb G3 hb) hlt2 (by omega)).mono ?_
        rintro e w4 ⟨hg4, hp⟩
        have G4 := G3.trans hg4
        have hF4 := hF3.kept (hg4.kept hr3)
        clear c0 c1 hF3
        cases hq : pe s ty n 0 (j + 1) .nil with
        | error q =>
          rw [hq] at hp HR
          obtain ⟨q', rfl, ha⟩ := hp
          clear hq
          go_wp2_with fail
          go_ret2
          rw [HR.out]
          exact ⟨G4, q', rfl, ha⟩
        | ok r =>
          obtain ⟨a, k⟩ := r
          rw [hq] at hp HR
          obtain ⟨v, rfl, hv, hr4⟩ := hp
          clear hq
          obtain ⟨T, x, rfl⟩ := hv.iface
          rcases hF4.shape with rfl | ⟨T', x', rfl⟩
          · go_wp2_with fail
            go_ret2
            rw [HR.out]
            exact ⟨G4, _, rfl, .inr (.inr (.inr (.inl ⟨rfl, _, T, x, rfl, hF4, hv⟩))), hr4⟩
          · go_wp2_with fail
            go_ret2
            rw [HR.out]
            exact ⟨G4, _, rfl, .inr (.inr (.inr (.inl ⟨rfl, _, T, x, rfl, hF4, hv⟩))), hr4⟩
      · have HQ := HR0.out
        rw [if_neg h46] at HQ
        have H46 : Hid (chr s j ≠ 46) := h46
        clear HR0 h46
        have HR : Hid (_ = _) := HQ
        clear HQ
        go_wp2_with fail
        refine (want_no tx b s j 46 _ hr2 (g.gb G2 hb) p2 hs H46.out hb).mono ?_
        rintro e w3 ⟨q', rfl, ha, hg3⟩
        go_wp2_with fail
        go_ret2
        rw [HR.out]
        exact ⟨G2.trans hg3, q', rfl, ha⟩

/-- What let comes to, at the name; the place of the whole is p. -/
def ltO (s : ByteArray) (ty : Bool) (n i p : Nat) : EOut :=
  if isLet (chr s i) then
    match ownO s ty (i + 1) with
    | .error p => .error p
    | .ok (v, j) =>
      if chr s j = 61 then
        match pe s ty n 0 (j + 1) .nil with
        | .error p => .error p
        | .ok (a, k) =>
          if chr s k = 59 then
            match pe s ty n 0 (k + 1) .nil with
            | .error p => .error p
            | .ok (b, l) => .ok (eL (chr s i) p v a b, l)
          else .error k
      else .error j
  else .error i

set_option maxHeartbeats 1000000 in
theorem let_any (tx : Nat → Addr) (b : Nat) (s : ByteArray) (ty : Bool) (n i p : Nat) (w : World) (ih : ExprSaid tx b s ty n) (h : Rd b s i w) (g : Gl tx w) (hi : i ≤ s.size) (hs : s.size ≤ 100000) (hb : 9 ≤ b) (hn : 3 * (s.size - i) ≤ n) :
    Calls Tryz.prog 151 #[rdv b ty] w (EPost tx b s (ltO s ty n i p) w) := by
  have bx := Rbx.new ty h
  have h1 := h.alloc (rdo b ty)
  have G0 : Gb b w (w.alloc (rdo b ty)) := (Gb.refl b w).alloc _
  have g1 := g.gb G0 hb
  have c0 := bx.c0
  have c1 := bx.c1
  have hl := chr_lt s i
  cases hc : isLet (chr s i)
  · have HR : Hid (ltO s ty n i p = .error i) := by unfold Hid ltO; rw [if_neg (by rw [hc]; decide)]
    go_enter Tryz.func151, Tryz.ntmps151
    go_wp2_with fail
    refine (letter_no tx b s i _ h1 g1 hi hs hc hb).mono ?_
    rintro e w1 ⟨q, rfl, ha, hg⟩
    clear hc
    go_wp2_with fail
    go_ret2
    rw [HR.out]
    exact ⟨G0.trans hg, q, rfl, ha⟩
  · have hlt : i < s.size := chr_in (by intro e; rw [e] at hc; exact absurd hc (by decide))
    have HC : Hid (isLet (chr s i) = true) := hc
    clear hc
    go_enter Tryz.func151, Tryz.ntmps151
    go_wp2_with fail
    refine (letter_yes b s i _ h1 hs HC.out).mono ?_
    rintro e w1 ⟨rfl, hr, hg⟩
    have G1 := G0.trans hg
    have bx1 := bx.gb hg
    replace c0 := bx1.c0
    replace c1 := bx1.c1
    go_wp2_with fail
    refine (own_any tx b s ty (i + 1) _ hr (g.gb G1 hb) hlt hs hb).mono ?_
    rintro e w2 ⟨hg2, hp⟩
    have G2 := G1.trans hg2
    have bx2 := bx1.gb hg2
    replace c0 := bx2.c0
    replace c1 := bx2.c1
    clear bx1 bx
    cases hq : ownO s ty (i + 1) with
    | error q =>
      have HR : Hid (ltO s ty n i p = .error q) := by unfold Hid ltO; rw [if_pos HC.out, hq]
      rw [hq] at hp
      obtain ⟨V, q', rfl, ha⟩ := hp
      clear hq
      go_wp2_with fail
      go_ret2
      rw [HR.out]
      exact ⟨G2, q', rfl, ha⟩
    | ok r =>
      obtain ⟨vv, j⟩ := r
      have HR0 : Hid (ltO s ty n i p = if chr s j = 61 then (match pe s ty n 0 (j + 1) .nil with | .error p => .error p | .ok (a, k) => if chr s k = 59 then (match pe s ty n 0 (k + 1) .nil with | .error p => .error p | .ok (b, l) => .ok (eL (chr s i) p vv a b, l)) else .error k) else .error j) := by unfold Hid ltO; rw [if_pos HC.out, hq]
      have pl := ownO_places hq (by omega)
      have p1 := pl.1
      have p2 := pl.2.1
      rw [hq] at hp
      obtain ⟨V, rfl, hV, hr2⟩ := hp
      clear hq pl
      by_cases h61 : chr s j = 61
      · have HQ := HR0.out
        rw [if_pos h61] at HQ
        have hlt2 : j < s.size := chr_in (by rw [h61]; decide)
        have H61 : Hid (chr s j = 61) := h61
        clear HR0 h61
        have HR : Hid (_ = _) := HQ
        clear HQ
        go_wp2_with fail
        refine (want_yes b s j 61 _ hr2 hs H61.out (by decide)).mono ?_
        rintro e w3 ⟨rfl, hr3, hg3⟩
        have G3 := G2.trans hg3
        have hV3 := hV.kept (hg3.kept hr2)
        have bx3 := bx2.gb hg3
        replace c0 := bx3.c0
        replace c1 := bx3.c1
        clear hV bx2
        go_wp2_with fail
        refine (ih (j + 1) _ hr3 (g.gb G3 hb) hlt2 (by omega)).mono ?_
        rintro e w4 ⟨hg4, hp⟩
        have G4 := G3.trans hg4
        have hV4 := hV3.kept (hg4.kept hr3)
        have bx4 := bx3.gb hg4
        replace c0 := bx4.c0
        replace c1 := bx4.c1
        clear hV3 bx3
        cases hq : pe s ty n 0 (j + 1) .nil with
        | error q =>
          rw [hq] at hp HR
          obtain ⟨q', rfl, ha⟩ := hp
          clear hq
          go_wp2_with fail
          go_ret2
          rw [HR.out]
          exact ⟨G4, q', rfl, ha⟩
        | ok r =>
          obtain ⟨a, k⟩ := r
          rw [hq] at hp HR
          obtain ⟨v, rfl, hv, hr4⟩ := hp
          have pl := pe_places s ty _ _ _ _ _ _ hq hlt2 (by omega)
          have p3 : j + 1 < k := by omega
          have p4 := pl.2.1
          clear hq pl
          obtain ⟨T, x, rfl⟩ := hv.iface
          by_cases h59 : chr s k = 59
          · have HQ := HR.out
            simp only [if_pos h59] at HQ
            have hlt3 : k < s.size := chr_in (by rw [h59]; decide)
            have H59 : Hid (chr s k = 59) := h59
            clear HR h59
            have HR : Hid (_ = _) := HQ
            clear HQ
            go_wp2_with fail
            refine (want_yes b s k 59 _ hr4 hs H59.out (by decide)).mono ?_
            rintro e w5 ⟨rfl, hr5, hg5⟩
            have G5 := G4.trans hg5
            have hk5 := hg5.kept hr4
            have hV5 := hV4.kept hk5
            have hv5 := Ev.kept hk5 _ _ hv
            have bx5 := bx4.gb hg5
            replace c0 := bx5.c0
            replace c1 := bx5.c1
            clear hV4 hv bx4
            go_wp2_with fail
            refine (ih (k + 1) _ hr5 (g.gb G5 hb) hlt3 (by omega)).mono ?_
            rintro e w6 ⟨hg6, hp⟩
            have G6 := G5.trans hg6
            have hk6 := hg6.kept hr5
            have hV6 := hV5.kept hk6
            have hv6 := Ev.kept hk6 _ _ hv5
            clear c0 c1 hV5 hv5
            cases hq : pe s ty n 0 (k + 1) .nil with
            | error q =>
              rw [hq] at hp HR
              obtain ⟨q', rfl, ha⟩ := hp
              clear hq
              go_wp2_with fail
              go_ret2
              rw [HR.out]
              exact ⟨G6, q', rfl, ha⟩
            | ok r =>
              obtain ⟨a', l⟩ := r
              rw [hq] at hp HR
              obtain ⟨v', rfl, hv', hr6⟩ := hp
              clear hq
              obtain ⟨T', x', rfl⟩ := hv'.iface
              obtain ⟨sa, sm, sc, rfl⟩ := row_shape hV6
              go_wp2_with fail
              go_ret2
              rw [HR.out]
              exact ⟨G6, _, rfl, .inr (.inr (.inr (.inr (.inl ⟨rfl, _, T, x, T', x', rfl, hV6, hv6, hv'⟩)))), hr6⟩
          · have HQ := HR.out
            simp only [if_neg h59] at HQ
            have H59 : Hid (chr s k ≠ 59) := h59
            clear HR h59
            have HR : Hid (_ = _) := HQ
            clear HQ
            go_wp2_with fail
            refine (want_no tx b s k 59 _ hr4 (g.gb G4 hb) p4 hs H59.out hb).mono ?_
            rintro e w5 ⟨q', rfl, ha, hg5⟩
            go_wp2_with fail
            go_ret2
            rw [HR.out]
            exact ⟨G4.trans hg5, q', rfl, ha⟩
      · have HQ := HR0.out
        rw [if_neg h61] at HQ
        have H61 : Hid (chr s j ≠ 61) := h61
        clear HR0 h61
        have HR : Hid (_ = _) := HQ
        clear HQ
        go_wp2_with fail
        refine (want_no tx b s j 61 _ hr2 (g.gb G2 hb) p2 hs H61.out hb).mono ?_
        rintro e w3 ⟨q', rfl, ha, hg3⟩
        go_wp2_with fail
        go_ret2
        rw [HR.out]
        exact ⟨G2.trans hg3, q', rfl, ha⟩

/-- What closed comes to, behind the bracket. -/
def clO (s : ByteArray) (ty : Bool) (n i : Nat) : EOut :=
  match pe s ty n 0 i .nil with
  | .error p => .error p
  | .ok (a, j) => if chr s j = 41 then .ok (a, j + 1) else .error j

set_option maxHeartbeats 1000000 in
theorem closed_any (tx : Nat → Addr) (b : Nat) (s : ByteArray) (ty : Bool) (n i : Nat) (w : World) (ih : ExprSaid tx b s ty n) (h : Rd b s i w) (g : Gl tx w) (hi : i ≤ s.size) (hs : s.size ≤ 100000) (hb : 9 ≤ b) (hn : 3 * (s.size - i) + 2 ≤ n) :
    Calls Tryz.prog 214 #[rdv b ty] w (EPost tx b s (clO s ty n i) w) := by
  have bx := Rbx.new ty h
  have h1 := h.alloc (rdo b ty)
  have G0 : Gb b w (w.alloc (rdo b ty)) := (Gb.refl b w).alloc _
  have g1 := g.gb G0 hb
  have c0 := bx.c0
  have c1 := bx.c1
  go_enter Tryz.func214, Tryz.ntmps214
  go_wp2_with fail
  refine (ih i _ h1 g1 hi hn).mono ?_
  rintro e w1 ⟨hg, hp⟩
  have G1 := G0.trans hg
  have bx1 := bx.gb hg
  replace c0 := bx1.c0
  replace c1 := bx1.c1
  cases hq : pe s ty n 0 i .nil with
  | error p =>
    rw [hq] at hp
    obtain ⟨q, rfl, ha⟩ := hp
    have HR : Hid (clO s ty n i = .error p) := by unfold Hid clO; rw [hq]
    clear hq
    go_wp2_with fail
    go_ret2
    rw [HR.out]
    exact ⟨G1, q, rfl, ha⟩
  | ok r =>
    obtain ⟨a, j⟩ := r
    rw [hq] at hp
    obtain ⟨v, rfl, hv, hr⟩ := hp
    have pl := pe_places s ty _ _ _ _ _ _ hq hi (by omega)
    have hj2 : j ≤ s.size := pl.2.1
    clear pl
    obtain ⟨T, x, rfl⟩ := hv.iface
    by_cases h41 : chr s j = 41
    · have HR : Hid (clO s ty n i = .ok (a, j + 1)) := by unfold Hid clO; simp only [hq]; rw [if_pos h41]
      clear hq
      go_wp2_with fail
      refine (want_yes b s j 41 w1 hr hs h41 (by decide)).mono ?_
      rintro e w2 ⟨rfl, hr2, hg2⟩
      clear h41
      go_wp2_with fail
      go_ret2
      rw [HR.out]
      exact ⟨G1.trans hg2, _, rfl, Ev.kept (hg2.kept hr) _ _ hv, hr2⟩
    · have HR : Hid (clO s ty n i = .error j) := by unfold Hid clO; simp only [hq]; rw [if_neg h41]
      clear hq
      go_wp2_with fail
      refine (want_no tx b s j 41 w1 hr (g.gb G1 hb) hj2 hs h41 hb).mono ?_
      rintro e w2 ⟨q, rfl, ha, hg2⟩
      clear h41
      go_wp2_with fail
      go_ret2
      rw [HR.out]
      exact ⟨G1.trans hg2, q, rfl, ha⟩
end Go.Proofs.YtceadeaodbadlaaGreatDoor
