import Derived.Test.YtceadeaodbadlaaGreatDoorChecksP3
import Derived.Deep.DeepCutAuto
import Derived.Deep.RegionWith
import Derived.Deep.RegionHeld3
import Derived.Deep.AppendLies
import Derived.OwnWalk
import Derived.IntWalk
import Derived.Deep.RegionLaw
import Derived.Laws.IdiomStrings
import Derived.Maps.AppendAt
import Derived.Maps.Range
set_option linter.unusedVariables false
set_option linter.unusedSimpArgs false
set_option maxRecDepth 100000
set_option maxHeartbeats 8000000
namespace Go.Proofs.YtceadeaodbadlaaGreatDoor
open Go.RowKit
def EPost (tx : Nat -> Addr) (b : Nat) (s : ByteArray) (r : EOut) (w : World) (e : Ending) (w' : World) : Prop :=
 Gb b w w' /\ match r with
  | .error p => ∃ q, e = .returned (.tuple #[.nilIface, atv q]) /\ AtErr (tx 1) q p w'
  | .ok (x, j) => ∃ v, e = .returned (.tuple #[v, .nilIface]) /\ Ev w' x v /\ Rd b s j w'
def zdn (tx : Nat -> Addr) (b : Nat) (s : ByteArray) (ty : Bool) (n : Nat) : Prop :=
 ∀ (i : Nat) (w : World), Rd b s i w -> Gl tx w -> i <= s.size -> 3 * (s.size - i) + 2 <= n ->
  Calls Tryz.prog 123 #[rdv b ty] w (EPost tx b s (pe s ty n 0 i .nil) w)
def zgi (tx : Nat -> Addr) (b : Nat) (s : ByteArray) (ty : Bool) (n : Nat) : Prop :=
 ∀ (i : Nat) (w : World), Rd b s i w -> Gl tx w -> i <= s.size -> 3 * (s.size - i) + 1 <= n ->
  Calls Tryz.prog 187 #[rdv b ty] w (EPost tx b s (pe s ty n 2 i .nil) w)
theorem EPost.hand {tx : Nat -> Addr} {b : Nat} {s : ByteArray} {r : EOut} {w w1 w2 : World} {e : Ending} (hg : Gb b w w1) (h : EPost tx b s r w1 e w2) : EPost tx b s r w e w2 := ⟨hg.trans h.1, h.2⟩
theorem EPost.two {tx : Nat -> Addr} {b : Nat} {s : ByteArray} {r : EOut} {w w1 : World} {e : Ending} (h : EPost tx b s r w e w1) : ∃ u v, e = .returned (.tuple #[u, v]) := by
 obtain ⟨_, h⟩ := h
 cases r with
 | error p => obtain ⟨q, rfl, _⟩ := h; exact ⟨_, _, rfl⟩
 | ok r => obtain ⟨t, j⟩ := r; obtain ⟨v, h, _⟩ := h; exact ⟨_, _, h⟩
theorem Fv.shape {w : World} {F : Value} {g : List Ty} (h : Fv w F g) : F = .nilIface \/ ∃ T x, F = .iface T x := by
 rcases h with ⟨_, rfl⟩ | ⟨u, _, h⟩
 · exact .inl rfl
 · exact .inr h.iface
theorem ziu {w : World} {B : Nat} {e : TypeId} {k n : Nat} {v : Value} {xs : List Value} (h : w.ownsRow B e k v n xs) : ∃ a m c, v = .slice a m c := by
 rcases h.2 with ⟨rfl, _⟩ | ⟨g', cap, cur, rfl, _⟩ <;> exact ⟨_, _, _, rfl⟩
theorem Gv.shape {w : World} {G : Value} {g : List Ty} (h : Gv w G g) : ∃ a m c, G = .slice a m c := by
 obtain ⟨vs, h, _⟩ := h
 exact ziu h
def fnO (s : ByteArray) (ty : Bool) (n i p : Nat) : EOut :=
 if isLet (chr s i) then
  match fromO s ty (i + 1) with
  | .error p => .error p
  | .ok (g, j) =>
   if chr s j = 46 then
    match pe s ty n 0 (j + 1) .nil with
    | .error p => .error p
    | .ok (a, k) => .ok (eF (chr s i) p g a, k)
   else .error j
 else .error i
theorem zoo (tx : Nat -> Addr) (b : Nat) (s : ByteArray) (ty : Bool) (n i p : Nat) (w : World) (ih : zdn tx b s ty n) (h : Rd b s i w) (g : Gl tx w) (hi : i <= s.size) (hs : s.size <= 100000) (hb : 9 <= b) (hn : 3 * (s.size - i) <= n) :
 Calls Tryz.prog 150 #[rdv b ty, .int .i64 (p : Int)] w (EPost tx b s (fnO s ty n i p) w) := by
 have bx := Rbx.new ty h
 have h1 := h.alloc (rdo b ty)
 have G0 : Gb b w (w.alloc (rdo b ty)) := (Gb.refl b w).alloc _
 have g1 := g.gb G0 hb
 have c0 := bx.c0
 have c1 := bx.c1
 have hl := zkf s i
 cases hc : isLet (chr s i)
 · have HR : Hid (fnO s ty n i p = .error i) := by unfold Hid fnO; rw [if_neg (by rw [hc]; decide)]
   go_enter Tryz.func150, Tryz.ntmps150
   go_wp2_with fail
   refine (zjm tx b s i _ h1 g1 hi hs hc hb).mono ?_
   rintro e w1 ⟨q, rfl, ha, hg⟩
   clear hc
   go_wp2_with fail
   go_ret2
   rw [HR.out]
   exact ⟨G0.trans hg, q, rfl, ha⟩
 · have hlt : i < s.size := zaf (by intro e; rw [e] at hc; exact absurd hc (by decide))
   have HC : Hid (isLet (chr s i) = true) := hc
   clear hc
   go_enter Tryz.func150, Tryz.ntmps150
   go_wp2_with fail
   refine (zdv b s i _ h1 hs HC.out).mono ?_
   rintro e w1 ⟨rfl, hr, hg⟩
   have G1 := G0.trans hg
   have bx1 := bx.gb hg
   replace c0 := bx1.c0
   replace c1 := bx1.c1
   go_wp2_with fail
   refine (from_any tx b s ty (i + 1) _ hr (g.gb G1 hb) hlt hs hb).mono ?_
   rintro e w2 ⟨hg2, hp⟩
   have G2 := G1.trans hg2
   have bx2 := bx1.gb hg2
   replace c0 := bx2.c0
   replace c1 := bx2.c1
   clear bx1 bx
   cases hq : fromO s ty (i + 1) with
   | error q =>
    have HR : Hid (fnO s ty n i p = .error q) := by unfold Hid fnO; rw [if_pos HC.out, hq]
    rw [hq] at hp
    obtain ⟨q', rfl, ha⟩ := hp
    clear hq
    go_wp2_with fail
    go_ret2
    rw [HR.out]
    exact ⟨G2, q', rfl, ha⟩
   | ok r =>
    obtain ⟨gg, j⟩ := r
    have HR0 : Hid (fnO s ty n i p = if chr s j = 46 then (match pe s ty n 0 (j + 1) .nil with | .error p => .error p | .ok (a, k) => .ok (eF (chr s i) p gg a, k)) else .error j) := by unfold Hid fnO; rw [if_pos HC.out, hq]
    have pl := zev hq (by omega)
    have p1 := pl.1
    have p2 := pl.2.1
    rw [hq] at hp
    obtain ⟨F, rfl, hF, hr2⟩ := hp
    clear hq pl
    by_cases h46 : chr s j = 46
    · have HQ := HR0.out
      rw [if_pos h46] at HQ
      have hlt2 : j < s.size := zaf (by rw [h46]; decide)
      have H46 : Hid (chr s j = 46) := h46
      clear HR0 h46
      have HR : Hid (_ = _) := HQ
      clear HQ
      go_wp2_with fail
      refine (zdl b s j 46 _ hr2 hs H46.out (by decide)).mono ?_
      rintro e w3 ⟨rfl, hr3, hg3⟩
      have G3 := G2.trans hg3
      have hF3 := hF.kept (hg3.kept hr2)
      have bx3 := bx2.gb hg3
      replace c0 := bx3.c0
      replace c1 := bx3.c1
      clear hF bx2
      go_wp2_with fail
      refine (ih (j + 1) _ hr3 (g.gb G3 hb) hlt2 (by omega)).mono ?_
      rintro e w4 ⟨hg4, hp⟩
      have G4 := G3.trans hg4
      have hF4 := hF3.kept (hg4.kept hr3)
      clear c0 c1 hF3
      cases hq : pe s ty n 0 (j + 1) .nil with
      | error q =>
       rw [hq] at hp HR
       obtain ⟨q', rfl, ha⟩ := hp
       clear hq
       go_wp2_with fail
       go_ret2
       rw [HR.out]
       exact ⟨G4, q', rfl, ha⟩
      | ok r =>
       obtain ⟨a, k⟩ := r
       rw [hq] at hp HR
       obtain ⟨v, rfl, hv, hr4⟩ := hp
       clear hq
       obtain ⟨T, x, rfl⟩ := hv.iface
       rcases hF4.shape with rfl | ⟨T', x', rfl⟩
       · go_wp2_with fail
         go_ret2
         rw [HR.out]
         exact ⟨G4, _, rfl, .inr (.inr (.inr (.inl ⟨rfl, _, T, x, rfl, hF4, hv⟩))), hr4⟩
       · go_wp2_with fail
         go_ret2
         rw [HR.out]
         exact ⟨G4, _, rfl, .inr (.inr (.inr (.inl ⟨rfl, _, T, x, rfl, hF4, hv⟩))), hr4⟩
    · have HQ := HR0.out
      rw [if_neg h46] at HQ
      have H46 : Hid (chr s j ≠ 46) := h46
      clear HR0 h46
      have HR : Hid (_ = _) := HQ
      clear HQ
      go_wp2_with fail
      refine (zey tx b s j 46 _ hr2 (g.gb G2 hb) p2 hs H46.out hb).mono ?_
      rintro e w3 ⟨q', rfl, ha, hg3⟩
      go_wp2_with fail
      go_ret2
      rw [HR.out]
      exact ⟨G2.trans hg3, q', rfl, ha⟩
def ltO (s : ByteArray) (ty : Bool) (n i p : Nat) : EOut :=
 if isLet (chr s i) then
  match ownO s ty (i + 1) with
  | .error p => .error p
  | .ok (v, j) =>
   if chr s j = 61 then
    match pe s ty n 0 (j + 1) .nil with
    | .error p => .error p
    | .ok (a, k) =>
     if chr s k = 59 then
      match pe s ty n 0 (k + 1) .nil with
      | .error p => .error p
      | .ok (b, l) => .ok (eL (chr s i) p v a b, l)
     else .error k
   else .error j
 else .error i
theorem let_any (tx : Nat -> Addr) (b : Nat) (s : ByteArray) (ty : Bool) (n i p : Nat) (w : World) (ih : zdn tx b s ty n) (h : Rd b s i w) (g : Gl tx w) (hi : i <= s.size) (hs : s.size <= 100000) (hb : 9 <= b) (hn : 3 * (s.size - i) <= n) :
 Calls Tryz.prog 151 #[rdv b ty] w (EPost tx b s (ltO s ty n i p) w) := by
 have bx := Rbx.new ty h
 have h1 := h.alloc (rdo b ty)
 have G0 : Gb b w (w.alloc (rdo b ty)) := (Gb.refl b w).alloc _
 have g1 := g.gb G0 hb
 have c0 := bx.c0
 have c1 := bx.c1
 have hl := zkf s i
 cases hc : isLet (chr s i)
 · have HR : Hid (ltO s ty n i p = .error i) := by unfold Hid ltO; rw [if_neg (by rw [hc]; decide)]
   go_enter Tryz.func151, Tryz.ntmps151
   go_wp2_with fail
   refine (zjm tx b s i _ h1 g1 hi hs hc hb).mono ?_
   rintro e w1 ⟨q, rfl, ha, hg⟩
   clear hc
   go_wp2_with fail
   go_ret2
   rw [HR.out]
   exact ⟨G0.trans hg, q, rfl, ha⟩
 · have hlt : i < s.size := zaf (by intro e; rw [e] at hc; exact absurd hc (by decide))
   have HC : Hid (isLet (chr s i) = true) := hc
   clear hc
   go_enter Tryz.func151, Tryz.ntmps151
   go_wp2_with fail
   refine (zdv b s i _ h1 hs HC.out).mono ?_
   rintro e w1 ⟨rfl, hr, hg⟩
   have G1 := G0.trans hg
   have bx1 := bx.gb hg
   replace c0 := bx1.c0
   replace c1 := bx1.c1
   go_wp2_with fail
   refine (own_any tx b s ty (i + 1) _ hr (g.gb G1 hb) hlt hs hb).mono ?_
   rintro e w2 ⟨hg2, hp⟩
   have G2 := G1.trans hg2
   have bx2 := bx1.gb hg2
   replace c0 := bx2.c0
   replace c1 := bx2.c1
   clear bx1 bx
   cases hq : ownO s ty (i + 1) with
   | error q =>
    have HR : Hid (ltO s ty n i p = .error q) := by unfold Hid ltO; rw [if_pos HC.out, hq]
    rw [hq] at hp
    obtain ⟨V, q', rfl, ha⟩ := hp
    clear hq
    go_wp2_with fail
    go_ret2
    rw [HR.out]
    exact ⟨G2, q', rfl, ha⟩
   | ok r =>
    obtain ⟨vv, j⟩ := r
    have HR0 : Hid (ltO s ty n i p = if chr s j = 61 then (match pe s ty n 0 (j + 1) .nil with | .error p => .error p | .ok (a, k) => if chr s k = 59 then (match pe s ty n 0 (k + 1) .nil with | .error p => .error p | .ok (b, l) => .ok (eL (chr s i) p vv a b, l)) else .error k) else .error j) := by unfold Hid ltO; rw [if_pos HC.out, hq]
    have pl := zel hq (by omega)
    have p1 := pl.1
    have p2 := pl.2.1
    rw [hq] at hp
    obtain ⟨V, rfl, hV, hr2⟩ := hp
    clear hq pl
    by_cases h61 : chr s j = 61
    · have HQ := HR0.out
      rw [if_pos h61] at HQ
      have hlt2 : j < s.size := zaf (by rw [h61]; decide)
      have H61 : Hid (chr s j = 61) := h61
      clear HR0 h61
      have HR : Hid (_ = _) := HQ
      clear HQ
      go_wp2_with fail
      refine (zdl b s j 61 _ hr2 hs H61.out (by decide)).mono ?_
      rintro e w3 ⟨rfl, hr3, hg3⟩
      have G3 := G2.trans hg3
      have hV3 := hV.kept (hg3.kept hr2)
      have bx3 := bx2.gb hg3
      replace c0 := bx3.c0
      replace c1 := bx3.c1
      clear hV bx2
      go_wp2_with fail
      refine (ih (j + 1) _ hr3 (g.gb G3 hb) hlt2 (by omega)).mono ?_
      rintro e w4 ⟨hg4, hp⟩
      have G4 := G3.trans hg4
      have hV4 := hV3.kept (hg4.kept hr3)
      have bx4 := bx3.gb hg4
      replace c0 := bx4.c0
      replace c1 := bx4.c1
      clear hV3 bx3
      cases hq : pe s ty n 0 (j + 1) .nil with
      | error q =>
       rw [hq] at hp HR
       obtain ⟨q', rfl, ha⟩ := hp
       clear hq
       go_wp2_with fail
       go_ret2
       rw [HR.out]
       exact ⟨G4, q', rfl, ha⟩
      | ok r =>
       obtain ⟨a, k⟩ := r
       rw [hq] at hp HR
       obtain ⟨v, rfl, hv, hr4⟩ := hp
       have pl := zao s ty _ _ _ _ _ _ hq hlt2 (by omega)
       have p3 : j + 1 < k := by omega
       have p4 := pl.2.1
       clear hq pl
       obtain ⟨T, x, rfl⟩ := hv.iface
       by_cases h59 : chr s k = 59
       · have HQ := HR.out
         simp only [if_pos h59] at HQ
         have hlt3 : k < s.size := zaf (by rw [h59]; decide)
         have H59 : Hid (chr s k = 59) := h59
         clear HR h59
         have HR : Hid (_ = _) := HQ
         clear HQ
         go_wp2_with fail
         refine (zdl b s k 59 _ hr4 hs H59.out (by decide)).mono ?_
         rintro e w5 ⟨rfl, hr5, hg5⟩
         have G5 := G4.trans hg5
         have hk5 := hg5.kept hr4
         have hV5 := hV4.kept hk5
         have hv5 := Ev.kept hk5 _ _ hv
         have bx5 := bx4.gb hg5
         replace c0 := bx5.c0
         replace c1 := bx5.c1
         clear hV4 hv bx4
         go_wp2_with fail
         refine (ih (k + 1) _ hr5 (g.gb G5 hb) hlt3 (by omega)).mono ?_
         rintro e w6 ⟨hg6, hp⟩
         have G6 := G5.trans hg6
         have hk6 := hg6.kept hr5
         have hV6 := hV5.kept hk6
         have hv6 := Ev.kept hk6 _ _ hv5
         clear c0 c1 hV5 hv5
         cases hq : pe s ty n 0 (k + 1) .nil with
         | error q =>
          rw [hq] at hp HR
          obtain ⟨q', rfl, ha⟩ := hp
          clear hq
          go_wp2_with fail
          go_ret2
          rw [HR.out]
          exact ⟨G6, q', rfl, ha⟩
         | ok r =>
          obtain ⟨a', l⟩ := r
          rw [hq] at hp HR
          obtain ⟨v', rfl, hv', hr6⟩ := hp
          clear hq
          obtain ⟨T', x', rfl⟩ := hv'.iface
          obtain ⟨sa, sm, sc, rfl⟩ := ziu hV6
          go_wp2_with fail
          go_ret2
          rw [HR.out]
          exact ⟨G6, _, rfl, .inr (.inr (.inr (.inr (.inl ⟨rfl, _, T, x, T', x', rfl, hV6, hv6, hv'⟩)))), hr6⟩
       · have HQ := HR.out
         simp only [if_neg h59] at HQ
         have H59 : Hid (chr s k ≠ 59) := h59
         clear HR h59
         have HR : Hid (_ = _) := HQ
         clear HQ
         go_wp2_with fail
         refine (zey tx b s k 59 _ hr4 (g.gb G4 hb) p4 hs H59.out hb).mono ?_
         rintro e w5 ⟨q', rfl, ha, hg5⟩
         go_wp2_with fail
         go_ret2
         rw [HR.out]
         exact ⟨G4.trans hg5, q', rfl, ha⟩
    · have HQ := HR0.out
      rw [if_neg h61] at HQ
      have H61 : Hid (chr s j ≠ 61) := h61
      clear HR0 h61
      have HR : Hid (_ = _) := HQ
      clear HQ
      go_wp2_with fail
      refine (zey tx b s j 61 _ hr2 (g.gb G2 hb) p2 hs H61.out hb).mono ?_
      rintro e w3 ⟨q', rfl, ha, hg3⟩
      go_wp2_with fail
      go_ret2
      rw [HR.out]
      exact ⟨G2.trans hg3, q', rfl, ha⟩
def clO (s : ByteArray) (ty : Bool) (n i : Nat) : EOut :=
 match pe s ty n 0 i .nil with
 | .error p => .error p
 | .ok (a, j) => if chr s j = 41 then .ok (a, j + 1) else .error j
theorem closed_any (tx : Nat -> Addr) (b : Nat) (s : ByteArray) (ty : Bool) (n i : Nat) (w : World) (ih : zdn tx b s ty n) (h : Rd b s i w) (g : Gl tx w) (hi : i <= s.size) (hs : s.size <= 100000) (hb : 9 <= b) (hn : 3 * (s.size - i) + 2 <= n) :
 Calls Tryz.prog 214 #[rdv b ty] w (EPost tx b s (clO s ty n i) w) := by
 have bx := Rbx.new ty h
 have h1 := h.alloc (rdo b ty)
 have G0 : Gb b w (w.alloc (rdo b ty)) := (Gb.refl b w).alloc _
 have g1 := g.gb G0 hb
 have c0 := bx.c0
 have c1 := bx.c1
 go_enter Tryz.func214, Tryz.ntmps214
 go_wp2_with fail
 refine (ih i _ h1 g1 hi hn).mono ?_
 rintro e w1 ⟨hg, hp⟩
 have G1 := G0.trans hg
 have bx1 := bx.gb hg
 replace c0 := bx1.c0
 replace c1 := bx1.c1
 cases hq : pe s ty n 0 i .nil with
 | error p =>
  rw [hq] at hp
  obtain ⟨q, rfl, ha⟩ := hp
  have HR : Hid (clO s ty n i = .error p) := by unfold Hid clO; rw [hq]
  clear hq
  go_wp2_with fail
  go_ret2
  rw [HR.out]
  exact ⟨G1, q, rfl, ha⟩
 | ok r =>
  obtain ⟨a, j⟩ := r
  rw [hq] at hp
  obtain ⟨v, rfl, hv, hr⟩ := hp
  have pl := zao s ty _ _ _ _ _ _ hq hi (by omega)
  have hj2 : j <= s.size := pl.2.1
  clear pl
  obtain ⟨T, x, rfl⟩ := hv.iface
  by_cases h41 : chr s j = 41
  · have HR : Hid (clO s ty n i = .ok (a, j + 1)) := by unfold Hid clO; simp only [hq]; rw [if_pos h41]
    clear hq
    go_wp2_with fail
    refine (zdl b s j 41 w1 hr hs h41 (by decide)).mono ?_
    rintro e w2 ⟨rfl, hr2, hg2⟩
    clear h41
    go_wp2_with fail
    go_ret2
    rw [HR.out]
    exact ⟨G1.trans hg2, _, rfl, Ev.kept (hg2.kept hr) _ _ hv, hr2⟩
  · have HR : Hid (clO s ty n i = .error j) := by unfold Hid clO; simp only [hq]; rw [if_neg h41]
    clear hq
    go_wp2_with fail
    refine (zey tx b s j 41 w1 hr (g.gb G1 hb) hj2 hs h41 hb).mono ?_
    rintro e w2 ⟨q, rfl, ha, hg2⟩
    clear h41
    go_wp2_with fail
    go_ret2
    rw [HR.out]
    exact ⟨G1.trans hg2, q, rfl, ha⟩
theorem atom_lit (s : ByteArray) (ty : Bool) (n i : Nat) (h : zal (chr s i) = true) (hl : isLit (chr s i) = true) : pe s ty (n + 1) 2 i .nil = .ok (eN (chr s i) i, i + 1) := by
 rw [pe, if_pos h, if_pos hl]
theorem atom_par (s : ByteArray) (ty : Bool) (n i : Nat) (h : zal (chr s i) = true) (hl : isLit (chr s i) = false) (h40 : chr s i = 40) : pe s ty (n + 1) 2 i .nil = clO s ty n (i + 1) := by
 rw [pe, if_pos h, if_neg (by rw [hl]; decide), if_pos h40]; unfold clO; cases pe s ty n 0 (i + 1) .nil <;> rfl
theorem atom_nam (s : ByteArray) (ty : Bool) (n i : Nat) (h : zal (chr s i) = true) (hl : isLit (chr s i) = false) (h40 : chr s i ≠ 40) : pe s ty (n + 1) 2 i .nil =
 match zdi s ty (i + 1) with
 | .error p => .error p
 | .ok (g, j) => .ok (if isCon (chr s i) then eK (chr s i) i g else eX (chr s i) i g, j) := by
 rw [pe, if_pos h, if_neg (by rw [hl]; decide), if_neg h40]; cases zdi s ty (i + 1) <;> rfl
theorem eatom_none (s : ByteArray) (ty : Bool) (n i : Nat) (h : zal (chr s i) = false) : pe s ty (n + 1) 2 i .nil = .error i := by
 rw [pe, if_neg (by rw [h]; decide)]
theorem atom_any (tx : Nat -> Addr) (b : Nat) (s : ByteArray) (ty : Bool) (n : Nat) (ih : zdn tx b s ty n) (hs : s.size <= 100000) (hb : 9 <= b) : zgi tx b s ty (n + 1) := by
 intro i w h g hi hn
 have bx := Rbx.new ty h
 have h1 := h.alloc (rdo b ty)
 have G0 : Gb b w (w.alloc (rdo b ty)) := (Gb.refl b w).alloc _
 have c0 := bx.c0
 have c1 := bx.c1
 have C0 : ∀ k, ((w.alloc (rdo b ty)).drewN k).cell? ⟨w.heap.size, 0, none⟩ = some (.pointer (some ⟨b, 0, none⟩)) := fun _ => c0
 have C1 : ∀ k, ((w.alloc (rdo b ty)).drewN k).cell? ⟨w.heap.size, 1, none⟩ = some (.bool ty) := fun _ => c1
 have hl := zkf s i
 have PK := fun w' (h' : Rd b s i w') => zej b s i w' h' hi hs
 have PL := fun w' (h' : Rd b s i w') => zff b s i w' h'
 go_enter Tryz.func187, Tryz.ntmps187
 go_wp2_with fail
 go_region_with (first
  | (go_at_call 189; refine (PK _ (by exact h1)).mono ?_; rintro e w' ⟨rfl, m, rfl⟩)
  | (go_at_call 148; refine (PL _ (by exact h1)).mono ?_; rintro e w' ⟨rfl, rfl⟩))
 all_goals
  cases hbg : zal (chr s i)
  · have HR : Hid (pe s ty (n + 1) 2 i .nil = .error i) := eatom_none s ty n i hbg
    go_wp2_with fail
    refine (zdt (chr s i) _ hl).mono ?_
    rintro e w' ⟨rfl, rfl⟩
    rw [hbg]
    clear hbg
    go_wp2_with fail
    refine (zgw tx b s i _ (by exact h1) (g.gb (G0.drewN _) hb)).mono ?_
    rintro e w' ⟨q, rfl, ha, hg⟩
    go_wp2_with fail
    go_ret2
    rw [HR.out]
    exact ⟨(G0.drewN _).trans hg, q, rfl, ha⟩
  · have hlt : i < s.size := zaf (zcd hbg)
    have HB : Hid (zal (chr s i) = true) := hbg
    go_wp2_with fail
    refine (zdt (chr s i) _ hl).mono ?_
    rintro e w' ⟨rfl, rfl⟩
    rw [hbg]
    clear hbg
    go_wp2_with fail
    refine (zma b s i _ (by exact h1) hlt hs).mono ?_
    rintro e w1 ⟨rfl, hr, hg⟩
    have G1 : Gb b w w1 := (G0.drewN _).trans hg
    have bx1 : Rbx w.heap.size b ty w1 := ⟨hg.old bx.1 bx.2, bx.2⟩
    replace c0 := bx1.c0
    replace c1 := bx1.c1
    clear C0 C1
    cases hc3 : isLit (chr s i)
    · by_cases h40 : chr s i = 40
      · have HR : Hid (pe s ty (n + 1) 2 i .nil = clO s ty n (i + 1)) := atom_par s ty n i HB.out hc3 h40
        have e40 : ((chr s i : Int) == 40) = true := by rw [h40]; rfl
        clear h40
        go_wp2_with fail
        refine (zdb (chr s i) _ hl).mono ?_
        rintro e w' ⟨rfl, rfl⟩
        rw [hc3]
        clear hc3
        go_wp2_with fail
        refine (closed_any tx b s ty n (i + 1) _ ih hr (g.gb G1 hb) hlt hs hb (by omega)).mono ?_
        rintro e w2 hp
        have HP : Hid (EPost tx b s (pe s ty (n + 1) 2 i .nil) w e w2) := by rw [HR.out]; exact hp.hand G1
        obtain ⟨u, v, rfl⟩ := hp.two
        clear HR hp
        go_wp2_with fail
        go_ret2
        exact HP.out
      · have HR0 : Hid (_ = _) := atom_nam s ty n i HB.out hc3 h40
        have e40 : ((chr s i : Int) == 40) = false := by rw [beq_eq_false_iff_ne]; omega
        clear h40
        go_wp2_with fail
        refine (zdb (chr s i) _ hl).mono ?_
        rintro e w' ⟨rfl, rfl⟩
        rw [hc3]
        clear hc3
        go_wp2_with fail
        refine (given_any tx b s ty (i + 1) _ hr (g.gb G1 hb) hlt hs hb).mono ?_
        rintro e w2 ⟨hg2, hp⟩
        have G2 := G1.trans hg2
        clear c0 c1 e40
        cases hq : zdi s ty (i + 1) with
        | error q =>
         rw [hq] at hp HR0
         obtain ⟨V, q', rfl, ha⟩ := hp
         clear hq
         go_wp2_with fail
         go_ret2
         rw [HR0.out]
         exact ⟨G2, q', rfl, ha⟩
        | ok r =>
         obtain ⟨gg, j⟩ := r
         rw [hq] at hp HR0
         obtain ⟨V, rfl, hV, hr2⟩ := hp
         clear hq
         obtain ⟨sa, sm, sc, rfl⟩ := hV.shape
         go_wp2_with fail
         refine (zdq (chr s i) _ hl).mono ?_
         rintro e w' ⟨rfl, rfl⟩
         cases hc2 : isCon (chr s i)
         · have HQ := HR0.out
           simp only [hc2, Bool.false_eq_true, if_false] at HQ
           have HR : Hid (_ = _) := HQ
           clear HQ HR0 hc2
           go_wp2_with fail
           go_ret2
           rw [HR.out]
           exact ⟨G2, _, rfl, .inl ⟨rfl, _, rfl, hV⟩, hr2⟩
         · have HQ := HR0.out
           simp only [hc2, if_true] at HQ
           have HR : Hid (_ = _) := HQ
           clear HQ HR0 hc2
           go_wp2_with fail
           go_ret2
           rw [HR.out]
           exact ⟨G2, _, rfl, .inr (.inl ⟨rfl, _, rfl, hV⟩), hr2⟩
    · have HR : Hid (pe s ty (n + 1) 2 i .nil = .ok (eN (chr s i) i, i + 1)) := atom_lit s ty n i HB.out hc3
      go_wp2_with fail
      refine (zdb (chr s i) _ hl).mono ?_
      rintro e w' ⟨rfl, rfl⟩
      rw [hc3]
      clear hc3
      go_wp2_with fail
      go_ret2
      rw [HR.out]
      exact ⟨G1, _, rfl, .inr (.inr (.inl ⟨rfl, rfl⟩)), hr⟩
def caO (s : ByteArray) (ty : Bool) (n i : Nat) : EOut :=
 match pe s ty n 2 i .nil with
 | .error p => .error p
 | .ok (a, j) => pe s ty n 1 j a
theorem emore_yes (s : ByteArray) (ty : Bool) (m j : Nat) (a : Ex) (h : zal (chr s j) = true) : pe s ty (m + 1) 1 j a =
 match pe s ty m 2 j .nil with
 | .error p => .error p
 | .ok (c, q) => pe s ty m 1 q (eC j a c) := by
 rw [pe, if_pos h]
 cases pe s ty m 2 j .nil <;> rfl
theorem emore_no (s : ByteArray) (ty : Bool) (m j : Nat) (a : Ex) (h : zal (chr s j) = false) : pe s ty (m + 1) 1 j a = .ok (a, j) := by
 rw [pe, if_neg (by rw [h]; decide)]
theorem calls_any (tx : Nat -> Addr) (b : Nat) (s : ByteArray) (ty : Bool) (n i : Nat) (w : World) (IH : Hid (∀ m, m <= n -> zgi tx b s ty m)) (h : Rd b s i w) (g : Gl tx w) (hi : i <= s.size) (hs : s.size <= 100000) (hb : 9 <= b) (hn : 3 * (s.size - i) + 1 <= n) :
 Calls Tryz.prog 152 #[rdv b ty] w (EPost tx b s (caO s ty n i) w) := by
 have bx := Rbx.new ty h
 have h1 := h.alloc (rdo b ty)
 have G0 : Gb b w (w.alloc (rdo b ty)) := (Gb.refl b w).alloc _
 have g1 := g.gb G0 hb
 have c0 := bx.c0
 have c1 := bx.c1
 go_enter Tryz.func152, Tryz.ntmps152
 go_wp2_with fail
 refine (IH.out n (Nat.le_refl n) i _ h1 g1 hi hn).mono ?_
 rintro e w1 ⟨hg, hp⟩
 have G1 := G0.trans hg
 have bx1 := bx.gb hg
 clear c0 c1 bx
 cases hq : pe s ty n 2 i .nil with
 | error p =>
  rw [hq] at hp
  obtain ⟨q, rfl, ha⟩ := hp
  have HR : Hid (caO s ty n i = .error p) := by unfold Hid caO; rw [hq]
  clear hq
  go_wp2_with fail
  go_ret2
  rw [HR.out]
  exact ⟨G1, q, rfl, ha⟩
 | ok r =>
  obtain ⟨a, j⟩ := r
  rw [hq] at hp
  obtain ⟨v, rfl, hv, hr⟩ := hp
  have pl := zao s ty _ _ _ _ _ _ hq hi (by omega)
  have HR : Hid (pe s ty n 1 j a = caO s ty n i) := by unfold Hid caO; rw [hq]
  have p1 : i < j := by omega
  have p2 := pl.2.1
  clear hq pl
  obtain ⟨T, x, rfl⟩ := hv.iface
  go_wp2_with fail
  go_loopw [4] (fun v wr => ∃ m j a T x, v = .iface T x /\ m <= n /\ Ev wr a (.iface T x) /\ Rd b s j wr /\ Rbx w.heap.size b ty wr /\ j <= s.size /\ 3 * (s.size - j) + 2 <= m /\ Gb b w wr /\ Hid (pe s ty m 1 j a = caO s ty n i)) (fun _ wr => s.size - plk b wr)
  case atStart => exact ⟨n, j, a, T, x, rfl, Nat.le_refl n, hv, hr, bx1, p2, by omega, G1, HR⟩
  case round =>
   clear HR hv hr hg p1 p2 bx1 G1
   obtain ⟨m, j, a, T, x, rfl, hmn, hv, hr, bx, hj, hm, G1, HR⟩ := hrel
   obtain ⟨m, rfl⟩ : ∃ m', m = m' + 1 := ⟨m - 1, by omega⟩
   have hl := zkf s j
   have hplr : Hid (plk b wr = j) := hr.plk
   have c0 := bx.c0
   have c1 := bx.c1
   go_wp2_with fail
   refine (zej b s j _ hr hj hs).mono ?_
   rintro e w' ⟨rfl, d, rfl⟩
   go_wp2_with fail
   refine (zdt (chr s j) _ hl).mono ?_
   rintro e w' ⟨rfl, rfl⟩
   replace hr := hr.drewN d
   replace G1 := G1.drewN d
   have bx2 : Rbx w.heap.size b ty (wr.drewN d) := bx
   have hv2 : Ev (wr.drewN d) a (.iface T x) := Ev.kept (w := wr) (w' := wr.drewN d) (fun _ _ _ _ _ h => h) _ _ hv
   replace c0 := bx2.c0
   replace c1 := bx2.c1
   clear bx hv
   generalize wr.drewN d = w2 at *
   cases hbg : zal (chr s j)
   · have HQ : Hid (caO s ty n i = .ok (a, j)) := by rw [<- HR.out]; exact emore_no s ty m j a hbg
     clear hbg
     go_wp2_with fail
     go_ret2
     rw [HQ.out]
     exact ⟨G1, _, rfl, hv2, hr⟩
   · have HQ := HR.out
     rw [emore_yes s ty m j a hbg] at HQ
     clear HR hbg
     have HR : Hid (_ = caO s ty n i) := HQ
     clear HQ
     go_wp2_with fail
     refine (zff b s j _ hr).mono ?_
     rintro e w' ⟨rfl, rfl⟩
     go_wp2_with fail
     refine (IH.out m (by omega) j _ hr (g.gb G1 hb) hj (by omega)).mono ?_
     rintro e w3 ⟨hg2, hp⟩
     have G3 := G1.trans hg2
     have bx3 := bx2.gb hg2
     have hv3 := Ev.kept (hg2.kept hr) _ _ hv2
     clear c0 c1 hv2 bx2
     cases hq : pe s ty m 2 j .nil with
     | error p =>
      rw [hq] at hp HR
      obtain ⟨q, rfl, ha⟩ := hp
      clear hq
      go_wp2_with fail
      go_ret2
      rw [<- HR.out]
      exact ⟨G3, q, rfl, ha⟩
     | ok r =>
      obtain ⟨c, q⟩ := r
      rw [hq] at hp HR
      obtain ⟨v', rfl, hv', hr'⟩ := hp
      have pl := zao s ty _ _ _ _ _ _ hq hj (by omega)
      have p1 : j < q := by omega
      have p2 := pl.2.1
      clear hq pl
      obtain ⟨T', x', rfl⟩ := hv'.iface
      have hv4 : Ev w3 (eC j a c) (.iface 186 (.agg #[.iface T x, .iface T' x', .int .i64 (j : Int)])) := .inr (.inr (.inr (.inr (.inr ⟨rfl, T, x, T', x', rfl, hv3, hv'⟩))))
      go_wp2_with fail
      go_roundw
      case rel => exact ⟨m, q, eC j a c, _, _, rfl, by omega, hv4, hr', bx3, p2, by omega, G3, HR⟩
      case measure => rw [hr'.plk, hplr.out]; omega
theorem eexpr_fn (s : ByteArray) (ty : Bool) (n i : Nat) (h : chr s i = 92) : pe s ty (n + 1) 0 i .nil = fnO s ty n (i + 1) i := by
 rw [pe, if_pos h]; rfl
theorem eexpr_lt (s : ByteArray) (ty : Bool) (n i : Nat) (h : chr s i = 64) : pe s ty (n + 1) 0 i .nil = ltO s ty n (i + 1) i := by
 rw [pe, if_neg (by omega), if_pos h]; rfl
theorem eexpr_ca (s : ByteArray) (ty : Bool) (n i : Nat) (h : chr s i ≠ 92) (h' : chr s i ≠ 64) : pe s ty (n + 1) 0 i .nil = caO s ty n i := by
 rw [pe, if_neg h, if_neg h']; rfl
theorem expr_step (tx : Nat -> Addr) (b : Nat) (s : ByteArray) (ty : Bool) (n : Nat) (ihE : zdn tx b s ty n) (IH : Hid (∀ m, m <= n -> zgi tx b s ty m)) (hs : s.size <= 100000) (hb : 9 <= b) : zdn tx b s ty (n + 1) := by
 intro i w h g hi hn
 have bx := Rbx.new ty h
 have h1 := h.alloc (rdo b ty)
 have G0 : Gb b w (w.alloc (rdo b ty)) := (Gb.refl b w).alloc _
 have c0 := bx.c0
 have c1 := bx.c1
 by_cases h92 : chr s i = 92
 · have HR : Hid (pe s ty (n + 1) 0 i .nil = fnO s ty n (i + 1) i) := eexpr_fn s ty n i h92
   have hlt : i < s.size := zaf (by omega)
   have HC : Hid (s[i].toNat = 92) := by unfold Hid; rw [chrAt hlt]; exact h92
   clear h92
   go_enter Tryz.func123, Tryz.ntmps123
   go_wp2_with fail
   refine (zff b s i _ h1).mono ?_
   rintro e w' ⟨rfl, rfl⟩
   go_wp2_with fail
   refine (zbu b s i 92 _ h1 hlt hs HC.out).mono ?_
   rintro e w1 ⟨rfl, hr, hg⟩
   have G1 := G0.trans hg
   have bx1 := bx.gb hg
   replace c0 := bx1.c0
   replace c1 := bx1.c1
   go_wp2_with fail
   refine (zoo tx b s ty n (i + 1) i w1 ihE hr (g.gb G1 hb) hlt hs hb (by omega)).mono ?_
   rintro e w2 hp
   have HP : Hid (EPost tx b s (pe s ty (n + 1) 0 i .nil) w e w2) := by rw [HR.out]; exact hp.hand G1
   obtain ⟨u, v, rfl⟩ := hp.two
   clear HR hp
   go_wp2_with fail
   go_ret2
   exact HP.out
 · have HQ : Hid (∀ hlt : i < s.size, s[i].toNat ≠ 92) := ne_at h92
   by_cases h64 : chr s i = 64
   · have HR : Hid (pe s ty (n + 1) 0 i .nil = ltO s ty n (i + 1) i) := eexpr_lt s ty n i h64
     have hlt : i < s.size := zaf (by omega)
     have HC : Hid (s[i].toNat = 64) := by unfold Hid; rw [chrAt hlt]; exact h64
     clear h64 h92
     go_enter Tryz.func123, Tryz.ntmps123
     go_wp2_with fail
     refine (zff b s i _ h1).mono ?_
     rintro e w' ⟨rfl, rfl⟩
     go_wp2_with fail
     refine (zbh b s i 92 _ h1 hi hs HQ.out).mono ?_
     rintro e w0 ⟨rfl, d, rfl⟩
     replace h1 := h1.drewN d
     replace G0 := G0.drewN d
     have bx0 : Rbx w.heap.size b ty ((w.alloc (rdo b ty)).drewN d) := bx
     replace c0 := bx0.c0
     replace c1 := bx0.c1
     clear bx
     go_wp2_with fail
     refine (zbu b s i 64 _ h1 hlt hs HC.out).mono ?_
     rintro e w1 ⟨rfl, hr, hg0⟩
     have G1 := G0.trans hg0
     have bx1 := bx0.gb hg0
     replace c0 := bx1.c0
     replace c1 := bx1.c1
     go_wp2_with fail
     refine (let_any tx b s ty n (i + 1) i w1 ihE hr (g.gb G1 hb) hlt hs hb (by omega)).mono ?_
     rintro e w2 hp
     have HP : Hid (EPost tx b s (pe s ty (n + 1) 0 i .nil) w e w2) := by rw [HR.out]; exact hp.hand G1
     obtain ⟨u, v, rfl⟩ := hp.two
     clear HR hp
     go_wp2_with fail
     go_ret2
     exact HP.out
   · have HR : Hid (pe s ty (n + 1) 0 i .nil = caO s ty n i) := eexpr_ca s ty n i h92 h64
     have HC : Hid (∀ hlt : i < s.size, s[i].toNat ≠ 64) := ne_at h64
     clear h92 h64
     go_enter Tryz.func123, Tryz.ntmps123
     go_wp2_with fail
     refine (zff b s i _ h1).mono ?_
     rintro e w' ⟨rfl, rfl⟩
     go_wp2_with fail
     refine (zbh b s i 92 _ h1 hi hs HQ.out).mono ?_
     rintro e w0 ⟨rfl, d, rfl⟩
     replace h1 := h1.drewN d
     replace G0 := G0.drewN d
     have bx0 : Rbx w.heap.size b ty ((w.alloc (rdo b ty)).drewN d) := bx
     replace c0 := bx0.c0
     replace c1 := bx0.c1
     clear bx
     generalize (w.alloc (rdo b ty)).drewN d = w5 at *
     go_wp2_with fail
     refine (zbh b s i 64 _ h1 hi hs HC.out).mono ?_
     rintro e w1 ⟨rfl, d', rfl⟩
     replace h1 := h1.drewN d'
     replace G0 := G0.drewN d'
     have bx1 : Rbx w.heap.size b ty (w5.drewN d') := bx0
     replace c0 := bx1.c0
     replace c1 := bx1.c1
     clear bx0
     generalize w5.drewN d' = w6 at *
     go_wp2_with fail
     refine (calls_any tx b s ty n i _ IH h1 (g.gb G0 hb) hi hs hb (by omega)).mono ?_
     rintro e w2 hp
     have HP : Hid (EPost tx b s (pe s ty (n + 1) 0 i .nil) w e w2) := by rw [HR.out]; exact hp.hand G0
     obtain ⟨u, v, rfl⟩ := hp.two
     clear HR hp
     go_wp2_with fail
     go_ret2
     exact HP.out
theorem readers_all (tx : Nat -> Addr) (b : Nat) (s : ByteArray) (ty : Bool) (hs : s.size <= 100000) (hb : 9 <= b) : ∀ n m, m <= n -> zdn tx b s ty m /\ zgi tx b s ty m := by
 have zero : zdn tx b s ty 0 /\ zgi tx b s ty 0 := ⟨fun i w _ _ _ h0 => absurd h0 (by omega), fun i w _ _ _ h0 => absurd h0 (by omega)⟩
 intro n
 induction n with
 | zero => intro m hm; obtain rfl : m = 0 := by omega
           exact zero
 | succ n ih =>
  intro m hm
  rcases Nat.lt_or_ge m (n + 1) with h | h
  · exact ih m (by omega)
  · obtain rfl : m = n + 1 := by omega
    exact ⟨expr_step tx b s ty n (ih n (Nat.le_refl n)).1 (fun m hm => (ih m hm).2) hs hb, atom_any tx b s ty n (ih n (Nat.le_refl n)).1 hs hb⟩
def ReadPost (tx : Nat -> Addr) (s : ByteArray) (ty : Bool) (w : World) (e : Ending) (w' : World) : Prop :=
 Below w.heap.size w w' /\ match zbn s ty with
  | .error p => ∃ q, e = .returned (.tuple #[.nilIface, atv q]) /\ AtErr (tx 1) q p w'
  | .ok x => ∃ v, e = .returned (.tuple #[v, .nilIface]) /\ Ev w' x v
theorem ReadPost.two {tx : Nat -> Addr} {s : ByteArray} {ty : Bool} {w w1 : World} {e : Ending} (h : ReadPost tx s ty w e w1) : ∃ u v, e = .returned (.tuple #[u, v]) := by
 obtain ⟨_, h⟩ := h
 cases hq : zbn s ty with
 | error p => rw [hq] at h; obtain ⟨q, rfl, _⟩ := h; exact ⟨_, _, rfl⟩
 | ok x => rw [hq] at h; obtain ⟨v, h, _⟩ := h; exact ⟨_, _, h⟩
def WPost (tx : Nat -> Addr) (b : Nat) (s : ByteArray) (ty : Bool) (w : World) (e : Ending) (w' : World) : Prop :=
 Gb b w w' /\ match zbn s ty with
  | .error p => ∃ q, e = .returned (.tuple #[.nilIface, atv q]) /\ AtErr (tx 1) q p w'
  | .ok x => ∃ v, e = .returned (.tuple #[v, .nilIface]) /\ Ev w' x v
theorem whole_any (tx : Nat -> Addr) (b : Nat) (s : ByteArray) (ty : Bool) (w : World) (h : Rd b s 0 w) (g : Gl tx w) (hs : s.size <= 100000) (hb : 9 <= b) :
 Calls Tryz.prog 91 #[rdv b ty] w (WPost tx b s ty w) := by
 have hE := (readers_all tx b s ty hs hb (3 * s.size + 2) _ (Nat.le_refl _)).1
 have bx := Rbx.new ty h
 have h1 := h.alloc (rdo b ty)
 have G0 : Gb b w (w.alloc (rdo b ty)) := (Gb.refl b w).alloc _
 have c0 := bx.c0
 have c1 := bx.c1
 go_enter Tryz.func91, Tryz.ntmps91
 go_wp2_with fail
 refine (hE 0 _ h1 (g.gb G0 hb) (Nat.zero_le _) (by omega)).mono ?_
 rintro e w1 ⟨hg, hp⟩
 have G1 := G0.trans hg
 have bx1 := bx.gb hg
 replace c0 := bx1.c0
 replace c1 := bx1.c1
 cases hq : pe s ty (3 * s.size + 2) 0 0 .nil with
 | error p =>
  rw [hq] at hp
  obtain ⟨q, rfl, ha⟩ := hp
  have HR : Hid (zbn s ty = .error p) := by unfold Hid zbn; rw [hq]
  clear hq
  go_wp2_with fail
  go_ret2
  refine ⟨G1, ?_⟩
  rw [HR.out]
  exact ⟨q, rfl, ha⟩
 | ok r =>
  obtain ⟨x, j⟩ := r
  rw [hq] at hp
  obtain ⟨v, rfl, hv, hr⟩ := hp
  obtain ⟨T, y, rfl⟩ := hv.iface
  have pl := zao s ty _ _ _ _ _ _ hq (Nat.zero_le _) (by omega)
  by_cases hj : j < s.size
  · have HR : Hid (zbn s ty = .error j) := by unfold Hid zbn; rw [hq]; exact if_pos hj
    clear hq pl
    go_wp2_with fail
    refine (end_no tx _ s j w1 hr (g.gb G1 hb) hj hs hb).mono ?_
    rintro e w2 ⟨q, rfl, ha, hg2⟩
    go_wp2_with fail
    go_ret2
    refine ⟨G1.trans hg2, ?_⟩
    rw [HR.out]
    exact ⟨q, rfl, ha⟩
  · have HR : Hid (zbn s ty = .ok x) := by unfold Hid zbn; rw [hq]; exact if_neg hj
    obtain rfl : j = s.size := by omega
    clear hq pl hj
    go_wp2_with fail
    refine (end_yes _ s w1 hr hs).mono ?_
    rintro e w2 ⟨rfl, d, rfl⟩
    go_wp2_with fail
    go_ret2
    refine ⟨G1.drewN d, ?_⟩
    rw [HR.out]
    exact ⟨_, rfl, Ev.kept (w := w1) (w' := w1.drewN d) (fun _ _ _ _ _ h => h) _ _ hv⟩
theorem Gb.belowNew {w w' : World} {o : Obj} (h : Gb w.heap.size (w.alloc o) w') : Below w.heap.size w w' :=
 ⟨h.os, h.tape, h.output, Nat.le_trans (by simp) h.size, fun k hk => (h.block k (by simp; omega) (by simp; omega)).trans (Below.heap_alloc _ _ _ hk)⟩
theorem zly (tx : Nat -> Addr) (s : ByteArray) (w : World) (g : Gl tx w) (hs : s.size <= 100000) :
 Calls Tryz.prog 54 #[.string s] w (ReadPost tx s true w) := by
 have hsz := g.size
 have gA := g.below ((Below.refl w.heap.size w).alloc (Nat.le_refl _) (.cells #[.string s, .int .i64 0] 207)) hsz
 have hR := Rd.new s w
 go_enter Tryz.func54, Tryz.ntmps54
 go_wp2_with fail
 refine (new_any s w).mono ?_
 rintro e w' ⟨rfl, rfl⟩
 go_wp2_with fail
 refine (whole_any tx w.heap.size s true _ hR gA hs hsz).mono ?_
 rintro e w1 ⟨hg, hp⟩
 have HP : Hid (ReadPost tx s true w e w1) := ⟨hg.belowNew, hp⟩
 obtain ⟨u, v, rfl⟩ := HP.out.two
 clear hp
 go_wp2_with fail
 go_ret2
 exact HP.out
end Go.Proofs.YtceadeaodbadlaaGreatDoor
namespace Go.Proofs.YtceadeaodbadlaaGreatDoor
open Go.RowKit
variable {lo : Nat}
theorem zkv {s : Sch} {g : List Ty} {p c q : Nat} (h : zap s g p = .error (c, q)) : 3 <= c /\ c <= 8 := by
 unfold zap at h
 split at h
 · cases h; omega
 · split at h
   · cases h; omega
   · cases h
theorem callT_err {f y : Ty} {p c q : Nat} (h : callT f y p = .error (c, q)) : 3 <= c /\ c <= 8 := by
 unfold callT at h
 split at h
 · split at h
   · cases h
   · cases h; omega
 · cases h; omega
theorem chk_err : ∀ (x : Ex) (e : Env) (c p : Nat), chk x e = .error (c, p) -> 3 <= c /\ c <= 8 := by
 intro x
 induction x with
 | nil => intro e c p h; simp [chk] at h
 | node k o x a b iha ihb =>
  intro e c p h
  simp only [chk] at h
  split at h
  · split at h
    · cases h; omega
    · exact zkv h
  · split at h
    · exact zkv h
    · split at h
      · cases h
      · split at h
        · split at h
          · cases h; exact iha _ _ _ (by assumption)
          · split at h
            · cases h; omega
            · cases h
        · split at h
          · split at h
            · cases h; omega
            · split at h
              · cases h; exact iha _ _ _ (by assumption)
              · exact ihb _ _ _ h
          · split at h
            · cases h; exact iha _ _ _ (by assumption)
            · split at h
              · cases h; exact ihb _ _ _ (by assumption)
              · exact callT_err h
theorem zoa (c : Bool) (f : List UInt8) : (inBr c f).length <= f.length + 2 := by unfold inBr; split <;> simp
theorem ctextT_len : ∀ t : Ty, (textT t).length <= 5 * sz t := by
 intro t
 induction t with
 | nil => simp [textT]
 | node g o u a b iha ihb =>
  simp only [textT, sz]
  have h1 := zoa (isFn a) (textT a)
  have h2 := zoa (isFn b || isPr b) (textT b)
  repeat' split
  all_goals first | (simp; omega) | (simp [zca]; split <;> simp <;> omega) | skip
theorem formT_len {t : Ty} (h : Ok t) : (formT t).length <= 5 * sz t := by
 unfold formT
 refine Nat.le_trans (ctextT_len _) ?_
 have := sub_size (θ := fun o => tV (zaq (idxOf o (zaa t [])))) (m := 1) (Nat.le_refl _) h (fun o => Nat.le_refl _)
 omega
def zox (lo : Nat) (tx : Nat -> Addr) (s : ByteArray) (w : World) (en : Ending) (w' : World) : Prop :=
 Sx lo w w' /\ ((zam s = (⟨#[]⟩, 1, 0) /\ en = .returned (.tuple #[.string ⟨#[]⟩, .iface 353 (.pointer (some (tx 0)))])) \/
  (∃ k p q, 1 <= k /\ k < 8 /\ zam s = (⟨#[]⟩, k + 1, p) /\ en = .returned (.tuple #[.string ⟨#[]⟩, atv q]) /\ AtErr (tx k) q p w') \/
  (∃ f, zam s = (f, 0, 0) /\ en = .returned (.tuple #[.string f, .nilIface])))
theorem checked_any (tx : Nat -> Addr) (s : ByteArray) (w : World) (h11 : 10 + lo <= w.heap.size) (g : Gs tx w) (tb : Tb w) (hs : s.size <= maxLen) :
 Calls Tryz.prog 34 #[.string s] w (zox lo tx s w) := by
 have h0 := g.errs 0 (by decide)
 unfold maxLen at hs
 by_cases hl : 60000 < s.size
 · have hl' : (60000 : Int) < (s.size : Int) := by omega
   have H : Hid (∀ n, zox lo tx s w (.returned (.tuple #[.string ⟨#[]⟩, .iface 353 (.pointer (some (tx 0)))])) (w.drewN n)) := fun n => ⟨(Sx.refl w).drewN n, .inl ⟨by unfold zam; rw [if_pos hl], rfl⟩⟩
   clear g tb hl
   go_enter Tryz.func34, Tryz.ntmps34
   go_wp2_with fail
   go_region
   all_goals
    go_wp2_with fail
    go_ret2
    exact H.out _
 · have hl' : ¬ (60000 : Int) < (s.size : Int) := by omega
   have R := zly tx s w g.toGl (by omega)
   have HP : Hid (∀ en w1, ReadPost tx s true w en w1 -> (∃ q, en = .returned (.tuple #[.nilIface, atv q]) /\ zox lo tx s w (.returned (.tuple #[.string ⟨#[]⟩, atv q])) w1) \/
    (∃ T z, en = .returned (.tuple #[.iface T z, .nilIface]) /\ Calls Tryz.prog 55 #[.iface T z] w1 fun en w2 => (∃ q, en = .returned (.tuple #[.nilIface, atv q]) /\ zox lo tx s w (.returned (.tuple #[.string ⟨#[]⟩, atv q])) w2) \/
     (∃ T' z', en = .returned (.tuple #[.iface T' z', .nilIface]) /\ Calls Tryz.prog 56 #[.iface T' z'] w2 fun en w3 => ∃ f, en = .returned (.string f) /\ zox lo tx s w (.returned (.tuple #[.string f, .nilIface])) w3))) := by
    intro en w1 hR
    obtain ⟨hb, hR⟩ := hR
    have X1 := Below.sx hb h11
    cases hw : zbn s true with
    | error p =>
     rw [hw] at hR
     obtain ⟨q, rfl, hq⟩ := hR
     exact .inl ⟨q, rfl, X1, .inr (.inl ⟨1, p, q, by decide, by decide, by unfold zam; rw [if_neg hl, hw], rfl, hq⟩)⟩
    | ok x =>
     rw [hw] at hR
     obtain ⟨v, rfl, hv⟩ := hR
     have eo := zoj hw
     obtain ⟨T, z, rfl⟩ := hv.iface
     refine .inr ⟨T, z, rfl, (type_said tx s.size (by omega) x _ w1 eo (Nat.le_trans h11 X1.size) (g.toGl.sx X1) (tb.sx X1) hv).mono ?_⟩
     rintro en w2 ⟨X2, hC⟩
     cases hc : chk x (fun _ => none) with
     | error r =>
      obtain ⟨c, p⟩ := r
      rw [hc] at hC
      obtain ⟨q, rfl, hq⟩ := hC
      have hce := chk_err x _ c p hc
      refine .inl ⟨q, rfl, X1.trans X2, .inr (.inl ⟨c - 1, p, q, by omega, by omega, ?_, rfl, hq⟩)⟩
      unfold zam
      rw [if_neg hl, hw]
      simp only [hc]
      rw [show c - 1 + 1 = c by omega]
     | ok t =>
      rw [hc] at hC
      obtain ⟨v2, rfl, hv2⟩ := hC
      have ot := zfl (m := s.size) (by omega) x _ t eo (EnvOk.none _) hc
      obtain ⟨T', z', rfl⟩ := hv2.iface
      refine .inr ⟨T', z', rfl, (kwrite_any ot.1 _ w2 hv2 (by have := formT_len ot.1; omega)).mono ?_⟩
      rintro en w3 ⟨rfl, hb3⟩
      have Z2 := X1.trans X2
      refine ⟨_, rfl, Z2.trans (Below.sx hb3 (Nat.le_trans h11 Z2.size)), .inr (.inr ⟨_, ?_, rfl⟩)⟩
      unfold zam
      rw [if_neg hl, hw]
      simp only [hc]
   clear g tb hl h11 h0
   go_enter Tryz.func34, Tryz.ntmps34
   go_wp2_with fail
   refine R.mono ?_
   intro en w1 hR
   rcases HP.out en w1 hR with ⟨q, rfl, hC⟩ | ⟨T, z, rfl, K⟩
   · have HC : Hid _ := hC
     clear hC HP R hR
     go_wp2_with fail
     go_ret2
     exact HC.out
   · clear HP R hR
     go_wp2_with fail
     refine K.mono ?_
     rintro en w2 (⟨q, rfl, hC⟩ | ⟨T', z', rfl, K2⟩)
     · have HC : Hid _ := hC
       clear hC K
       go_wp2_with fail
       go_ret2
       exact HC.out
     · clear K
       go_wp2_with fail
       refine K2.mono ?_
       rintro en w3 ⟨f, rfl, hC⟩
       have HC : Hid _ := hC
       clear hC K2
       go_wp2_with fail
       go_ret2
       exact HC.out
/-- Check answers what zam says. -/
theorem check_any (tx : Nat -> Addr) (s : ByteArray) (w : World) (h11 : 10 + lo <= w.heap.size) (g : Gs tx w) (tb : Tb w) (hs : s.size <= maxLen) :
 Calls Tryz.prog 15 #[.string s] w fun e w' => e = .returned (.tuple #[.string (zam s).1, .int .i64 ((zam s).2.1 : Int), .int .i64 ((zam s).2.2 : Int)]) /\ Sx lo w w' := by
 have C := checked_any tx s w h11 g tb hs
 go_enter Tryz.func15, Tryz.ntmps15
 go_wp2_with fail
 refine C.mono ?_
 rintro e w1 ⟨X, ⟨hq, rfl⟩ | ⟨k, p, q, hk1, hk8, hq, rfl, ha⟩ | ⟨f, hq, rfl⟩⟩
 · have HR : Hid (zam s = (⟨#[]⟩, 1, 0)) := hq
   clear hq C
   have g1 := g.sx X
   have s1 := Nat.le_trans h11 X.size
   go_wp2_with fail
   refine (number_long tx w1 g1).mono ?_
   rintro e w' ⟨rfl, rfl⟩
   go_wp2_with fail
   refine (place_long tx _ g1).mono ?_
   rintro e w2 ⟨rfl, hb2⟩
   go_wp2_with fail
   go_ret3
   rw [HR.out]
   exact ⟨rfl, X.trans (Below.sx hb2 s1)⟩
 · have HR : Hid (zam s = (⟨#[]⟩, k + 1, p)) := hq
   clear hq C
   have g1 := g.sx X
   have s1 := Nat.le_trans h11 X.size
   have N := number_at tx k q p w1 g1 hk1 hk8 ha
   unfold numOf at N
   go_wp2_with fail
   refine N.mono ?_
   rintro e w' ⟨rfl, rfl⟩
   go_wp2_with fail
   refine (place_at tx (tx k) q p _ g1 ha).mono ?_
   rintro e w2 ⟨rfl, hb2⟩
   go_wp2_with fail
   go_ret3
   rw [HR.out]
   exact ⟨rfl, X.trans (Below.sx hb2 s1)⟩
 · have HR : Hid (zam s = (f, 0, 0)) := hq
   clear hq C
   have g1 := g.sx X
   have s1 := Nat.le_trans h11 X.size
   go_wp2_with fail
   refine (number_nil tx w1 g1).mono ?_
   rintro e w' ⟨rfl, rfl⟩
   go_wp2_with fail
   refine (place_nil _).mono ?_
   rintro e w2 ⟨rfl, hb2⟩
   go_wp2_with fail
   go_ret3
   rw [HR.out]
   exact ⟨rfl, X.trans (Below.sx hb2 s1)⟩
end Go.Proofs.YtceadeaodbadlaaGreatDoor
namespace Go.Proofs.YtceadeaodbadlaaGreatDoor
open Go.RowKit
structure Nd where
 op : Nat
 a : Nat
 b : Nat
def Nd.cells (n : Nd) : List Value := [.int .i64 (n.op : Int), .int .i64 (n.a : Int), .int .i64 (n.b : Int)]
def nflat (l : List Nd) : List Value := l.flatMap Nd.cells
theorem zeo (l m : List Nd) : nflat (l ++ m) = nflat l ++ nflat m := by simp [nflat]
theorem zjt (l : List Nd) (k j : Nat) (n : Nd) (u : Value) (hk : l[k]? = some n) (hu : n.cells[j]? = some u) : (nflat l)[k * 3 + j]? = some u := by
 induction l generalizing k with
 | nil => simp at hk
 | cons x us ih =>
  cases k with
  | zero =>
   simp at hk; subst hk
   simp only [nflat, List.flatMap_cons]
   rw [List.getElem?_append_left (by simpa using (List.getElem?_eq_some_iff.1 hu).1)]
   simpa using hu
  | succ k =>
   simp only [nflat, List.flatMap_cons]
   have hl : x.cells.length = 3 := by simp [Nd.cells]
   rw [List.getElem?_append_right (by rw [hl]; omega), hl, show (k + 1) * 3 + j - 3 = k * 3 + j from by omega]
   exact ih k (by simpa using hk)
def sgn (g o : Nat) : Nat := if g = 0 then 73 else if g = 1 then 66 else if g = 2 then o + 30 else if g = 3 then 91 else if g = 4 then 42 else 62
def rtA (g : Nat) (a : Ty) (f : Nat) : Nat := if g <= 2 then f else f + sz a - 1
def rtB (g : Nat) (a b : Ty) (f : Nat) : Nat := if g <= 3 then f else f + sz a + sz b - 1
def rt : Ty -> Nat -> Nd
 | .nil, f => ⟨0, f, f⟩
 | .node g o _ a b, f => ⟨sgn g o, rtA g a f, rtB g a b f⟩
def nd : Ty -> Nat -> List Nd
 | .nil, _ => []
 | .node g o u a b, f => nd a f ++ nd b (f + sz a) ++ [rt (.node g o u a b) f]
def shift (d : Nat) (n : Nd) : Nd := ⟨n.op, n.a + d, n.b + d⟩
theorem zaj : ∀ (t : Ty) (f : Nat), (nd t f).length = sz t := by
 intro t
 induction t with
 | nil => intro f; rfl
 | node g o u a b iha ihb => intro f; simp [nd, sz, iha, ihb]; omega
theorem zau {t : Ty} (h : Ok t) : 1 <= sz t := by
 cases t with
 | nil => exact h.elim
 | node g o u a b => simp [sz]
theorem rt_shift {t : Ty} (h : Ok t) (f d : Nat) : rt t (f + d) = shift d (rt t f) := by
 cases t with
 | nil => exact h.elim
 | node g o u a b =>
  rcases h with ⟨rfl, rfl, rfl, rfl⟩ | ⟨rfl, rfl, rfl, rfl⟩ | ⟨rfl, ho, rfl, rfl⟩ | ⟨rfl, rfl, ha, rfl⟩ | ⟨rfl, rfl, ha, hb⟩ | ⟨rfl, rfl, ha, hb⟩
  · rfl
  · rfl
  · rfl
  · have := zau ha
    simp only [rt, shift, rtA, rtB, sz, Nd.mk.injEq, true_and]
    simp; omega
  · have := zau ha
    have := zau hb
    simp only [rt, shift, rtA, rtB, sz, Nd.mk.injEq, true_and]
    simp; omega
  · have := zau ha
    have := zau hb
    simp only [rt, shift, rtA, rtB, sz, Nd.mk.injEq, true_and]
    simp; omega
theorem nd_shift : ∀ (t : Ty) (f d : Nat), Ok t -> nd t (f + d) = (nd t f).map (shift d) := by
 intro t
 induction t with
 | nil => intro f d h; exact h.elim
 | node g o u a b iha ihb =>
  intro f d h
  have hr := rt_shift h f d
  have e : f + d + sz a = f + sz a + d := by omega
  rcases h with ⟨rfl, rfl, rfl, rfl⟩ | ⟨rfl, rfl, rfl, rfl⟩ | ⟨rfl, ho, rfl, rfl⟩ | ⟨rfl, rfl, ha, rfl⟩ | ⟨rfl, rfl, ha, hb⟩ | ⟨rfl, rfl, ha, hb⟩
  · simp [nd, hr]
  · simp [nd, hr]
  · simp [nd, hr]
  · simp [nd, hr, iha f d ha]
  · simp only [nd, hr, iha f d ha, e, ihb (f + sz a) d hb, List.map_append, List.map_cons, List.map_nil]
  · simp only [nd, hr, iha f d ha, e, ihb (f + sz a) d hb, List.map_append, List.map_cons, List.map_nil]
theorem nd_zero (t : Ty) (h : Ok t) (d : Nat) : nd t d = (nd t 0).map (shift d) := by
 have := nd_shift t 0 d h
 rwa [Nat.zero_add] at this
theorem nd_bound : ∀ (t : Ty) (f : Nat), Ok t -> ∀ n ∈ nd t f, f <= n.a /\ n.a < f + sz t /\ f <= n.b /\ n.b < f + sz t /\ n.op < 1300 := by
 intro t
 induction t with
 | nil => intro f h; exact h.elim
 | node g o u a b iha ihb =>
  intro f h n hn
  simp only [nd, List.mem_append, List.mem_singleton] at hn
  rcases h with ⟨rfl, rfl, rfl, rfl⟩ | ⟨rfl, rfl, rfl, rfl⟩ | ⟨rfl, ho, rfl, rfl⟩ | ⟨rfl, rfl, ha, rfl⟩ | ⟨rfl, rfl, ha, hb⟩ | ⟨rfl, rfl, ha, hb⟩
  · rcases hn with (hn | hn) | rfl
    · simp [nd] at hn
    · simp [nd] at hn
    · simp [rt, rtA, rtB, sz, sgn]
  · rcases hn with (hn | hn) | rfl
    · simp [nd] at hn
    · simp [nd] at hn
    · simp [rt, rtA, rtB, sz, sgn]
  · rcases hn with (hn | hn) | rfl
    · simp [nd] at hn
    · simp [nd] at hn
    · simp [rt, rtA, rtB, sz, sgn]; omega
  · rcases hn with (hn | hn) | rfl
    · have := iha f ha n hn
      simp only [sz]; omega
    · simp [nd] at hn
    · have := zau ha
      simp [rt, rtA, rtB, sz, sgn]; omega
  · rcases hn with (hn | hn) | rfl
    · have := iha f ha n hn
      simp only [sz]; omega
    · have := ihb (f + sz a) hb n hn
      simp only [sz]; omega
    · have := zau ha
      have := zau hb
      simp [rt, rtA, rtB, sz, sgn]; omega
  · rcases hn with (hn | hn) | rfl
    · have := iha f ha n hn
      simp only [sz]; omega
    · have := ihb (f + sz a) hb n hn
      simp only [sz]; omega
    · have := zau ha
      have := zau hb
      simp [rt, rtA, rtB, sz, sgn]; omega
theorem zew (t : Ty) (h : Ok t) (f : Nat) : (nd t f)[sz t - 1]? = some (rt t f) := by
 cases t with
 | nil => exact h.elim
 | node g o u a b =>
  have e : sz (Go.Deep.BT.node g o u a b) - 1 = (nd a f ++ nd b (f + sz a)).length := by simp [sz, zaj]
  rw [e]
  simp only [nd]
  rw [List.getElem?_append_right (Nat.le_refl _)]
  simp
def ops : Ty -> List Nat
 | .nil => []
 | .node g o _ a b => sgn g o :: (ops b ++ ops a)
theorem ops_nd : ∀ (t : Ty) (f : Nat), ((nd t f).map (·.op)).reverse = ops t := by
 intro t
 induction t with
 | nil => intro f; rfl
 | node g o u a b iha ihb => intro f; simp [nd, ops, iha, ihb, rt]
theorem ops_inj : ∀ (x y : Ty) (r r' : List Nat), Ok x -> Ok y -> ops x ++ r = ops y ++ r' -> x = y /\ r = r' := by
 intro x
 induction x with
 | nil => intro y r r' h; exact h.elim
 | node g o u a b iha ihb =>
  intro y r r' hx hy h
  cases u
  rcases hx with ⟨rfl, rfl, rfl, rfl⟩ | ⟨rfl, rfl, rfl, rfl⟩ | ⟨rfl, ho, rfl, rfl⟩ | ⟨rfl, rfl, ha, rfl⟩ | ⟨rfl, rfl, ha, hb⟩ | ⟨rfl, rfl, ha, hb⟩ <;>
  rcases hy.cases with rfl | rfl | ⟨o', h1', h2', rfl⟩ | ⟨c, hc, rfl⟩ | ⟨c, d, hc, hd, rfl⟩ | ⟨c, d, hc, hd, rfl⟩ <;>
  simp only [ops, sgn, List.nil_append, List.append_nil, List.cons_append, List.cons.injEq, List.append_assoc] at h
  all_goals first
   | (exfalso; obtain ⟨h, _⟩ := h; simp at h; done)
   | (exfalso; obtain ⟨h, _⟩ := h; simp at h; omega)
   | skip
  · exact ⟨rfl, h.2⟩
  · exact ⟨rfl, h.2⟩
  · obtain ⟨h1, h2⟩ := h
    simp at h1
    subst h1
    exact ⟨rfl, h2⟩
  · obtain ⟨rfl, h2⟩ := iha c r r' ha hc h.2
    exact ⟨rfl, h2⟩
  · obtain ⟨rfl, h2⟩ := ihb d _ _ hb hd h.2
    obtain ⟨rfl, h3⟩ := iha c _ _ ha hc h2
    exact ⟨rfl, h3⟩
  · obtain ⟨rfl, h2⟩ := ihb d _ _ hb hd h.2
    obtain ⟨rfl, h3⟩ := iha c _ _ ha hc h2
    exact ⟨rfl, h3⟩
theorem ops_eq {x y : Ty} (hx : Ok x) (hy : Ok y) (f f' : Nat) (h : (nd x f).map (·.op) = (nd y f').map (·.op)) : x = y := by
 have e : ops x ++ [] = ops y ++ [] := by rw [<- ops_nd x f, <- ops_nd y f', h]
 exact (ops_inj x y [] [] hx hy e).1
structure Rg (g : Nat) (t : Ty) (w : World) : Prop where
 ok : Ok t
 lt : g < w.heap.size
 cell : ∀ k n, (nd t 0)[k]? = some n -> w.cell? ⟨g, k * 3, none⟩ = some (.int .i64 (n.op : Int)) /\ w.cell? ⟨g, k * 3 + 1, none⟩ = some (.int .i64 (n.a : Int)) /\ w.cell? ⟨g, k * 3 + 2, none⟩ = some (.int .i64 (n.b : Int))
theorem Rg.kept {g : Nat} {t : Ty} {w w' : World} {row : Option Nat} (h : Rg g t w) (hg : w.grownBy w' row) (hne : row ≠ some g) : Rg g t w' := by
 refine ⟨h.ok, Nat.lt_of_lt_of_le h.lt hg.size, fun k n hk => ?_⟩
 have hb := hg.block g h.lt (Ne.symm hne)
 have e : ∀ j, w'.cell? ⟨g, j, none⟩ = w.cell? ⟨g, j, none⟩ := fun j => World.cell?_of_block (w := w) (a := ⟨g, j, none⟩) hb
 rw [e, e, e]
 exact h.cell k n hk
theorem Rg.below {g : Nat} {t : Ty} {w w' : World} (h : Rg g t w) (hb : Below w.heap.size w w') : Rg g t w' :=
 h.kept (row := none) ⟨hb.os, hb.tape, hb.output, hb.size, fun k hk _ => hb.block k hk⟩ (by simp)
theorem Rg.alloc {g : Nat} {t : Ty} {w : World} (h : Rg g t w) (o : Obj) : Rg g t (w.alloc o) := h.kept (World.grownBy_alloc w o none) (by simp)
theorem znr {a b c : World} {row row' : Option Nat} (h : a.grownBy b row) (k : b.grownBy c row') (hr : row' = row \/ ∃ q, row' = some q /\ a.heap.size <= q) : a.grownBy c row := by
 refine ⟨k.os.trans h.os, k.tape.trans h.tape, k.output.trans h.output, Nat.le_trans h.size k.size, fun i hi hn => ?_⟩
 refine (k.block i (Nat.lt_of_lt_of_le hi h.size) ?_).trans (h.block i hi hn)
 rcases hr with rfl | ⟨q, rfl, hq⟩
 · exact hn
 · intro e; simp at e; omega
theorem zig : (Tryz.prog.info? 107).map (fun i => (i.zero, i.size, i.bytes)) = some (some (.agg #[.int .i64 0, .int .i64 0, .int .i64 0]), 3, 24) := by kernel_rfl
theorem len_own {B : Nat} {vl : Value} {n : Nat} {xs : List Value} {w : World} {e : TypeId} {m : Nat} (h : w.ownsRow B e m vl n xs) (w' : World) : (Builtin.len_ #[31] 3 #[vl]).run Tryz.prog w' = .ok (.int .i64 (n : Int)) w' := by
 rcases h.2 with ⟨rfl, rfl⟩ | ⟨g, cap, cur, rfl, _⟩
 · kernel_rfl
 · kernel_rfl
def CoPost (B : Nat) (us : List Nd) (vl : Value) (t : Ty) (w : World) (e : Ending) (w' : World) : Prop :=
 ∃ v', e = .returned v' /\ w'.ownsRow B 107 3 v' (us.length + sz t) (nflat (us ++ nd t us.length)) /\ w.grownBy w' vl.ownBlock /\ (v'.ownBlock = vl.ownBlock \/ ∃ k, v'.ownBlock = some k /\ w.heap.size <= k)
theorem zom (us : List Nd) (t : Ty) (N k : Nat) (n : Nd) (h : Ok t) (hn : (nd t 0)[k]? = some n) : nflat (us ++ (nd t N).take (k + 1)) = nflat (us ++ (nd t N).take k) ++ Nd.cells (shift N n) := by
 have e : (nd t N)[k]? = some (shift N n) := by rw [nd_zero t h N, List.getElem?_map, hn]; rfl
 rw [List.take_add_one, e, <- List.append_assoc, zeo]
 simp [nflat]
theorem nd_news (wr : World) (o : Obj) (op x y : Nat) (a b : Int) (ha : a = (x : Int)) (hb : b = (y : Int)) : ∀ j u, (Nd.cells ⟨op, x, y⟩)[j]? = some u ->
 ((wr.alloc o).alloc (.cells #[.int .i64 (op : Int), .int .i64 a, .int .i64 b] 107)).cell? ((⟨wr.heap.size + 1, 0, none⟩ : Addr).add j) = some u := by
 subst ha
 subst hb
 have hnb : ((wr.alloc o).alloc (.cells #[.int .i64 (op : Int), .int .i64 (x : Int), .int .i64 (y : Int)] 107)).heap[wr.heap.size + 1]? = some (.cells #[.int .i64 (op : Int), .int .i64 (x : Int), .int .i64 (y : Int)] 107 (0, 0)) := by
  have := heap_alloc_new (wr.alloc o) (.cells #[.int .i64 (op : Int), .int .i64 (x : Int), .int .i64 (y : Int)] 107)
  simpa using this
 exact World.news_of_block hnb
theorem grow_two {wr w1 : World} {o o' : Obj} {row : Option Nat} (h : ((wr.alloc o).alloc o').grownBy w1 row) : wr.grownBy w1 row :=
 ((World.grownBy_alloc wr o row).trans (World.grownBy_alloc _ o' row)).trans h
theorem zhf (B : Nat) (us : List Nd) (vl : Value) (g cap : Nat) (t : Ty) (w : World) (hown : w.ownsRow B 107 3 vl us.length (nflat us)) (ht : Rg g t w) (hne : vl.ownBlock ≠ some g) (hB : B <= w.heap.size) (hl : us.length + sz t <= 1000000) :
 Calls Tryz.prog 103 #[vl, .agg #[.slice (some ⟨g, 0, none⟩) (sz t) cap]] w (CoPost B us vl t w) := by
 obtain ⟨i0, hi0, hz0, hz1, hz2⟩ := info_parts zig
 have hlen := zaj t us.length
 have hlen0 := zaj t 0
 have hpos := zau ht.ok
 have hrow := hown.lt
 have hbox : (w.alloc (.cells #[.slice (some ⟨g, 0, none⟩) (sz t) cap] 33)).heap[w.heap.size]? = some (.cells #[.slice (some ⟨g, 0, none⟩) (sz t) cap] 33 (0, 0)) := heap_alloc_new w _
 have hln := len_own hown
 have W0 : (w.alloc (.cells #[.slice (some ⟨g, 0, none⟩) (sz t) cap] 33)).grownBy (w.alloc (.cells #[.slice (some ⟨g, 0, none⟩) (sz t) cap] 33)) vl.ownBlock := World.grownBy.refl _ _
 go_enter Tryz.func103, Tryz.ntmps103
 go_wp2_with fail
 go_loopw [0, 6] (fun v i wr => ∃ k : Nat, i = .int .i64 (k : Int) /\ k <= sz t /\ wr.ownsRow B 107 3 v (us.length + k) (nflat (us ++ (nd t us.length).take k)) /\ (w.alloc (.cells #[.slice (some ⟨g, 0, none⟩) (sz t) cap] 33)).grownBy wr vl.ownBlock /\ (v.ownBlock = vl.ownBlock \/ ∃ q, v.ownBlock = some q /\ w.heap.size + 1 <= q)) (fun _ i _ => sz t - (intOf i).toNat)
 case atStart => exact ⟨0, rfl, Nat.zero_le _, by simpa using hown.alloc _, W0, .inl rfl⟩
 case round =>
  obtain ⟨k, rfl, hk, ho, hg, hv⟩ := hrel
  have c0 : wr.cell? ⟨w.heap.size, 0, none⟩ = some (.slice (some ⟨g, 0, none⟩) (sz t) cap) := by
   rw [Lib.cell_of_heap ((hg.block w.heap.size (by simp) (fun e => by have := hrow _ e.symm; omega)).trans hbox)]; rfl
  rcases Nat.lt_or_ge k (sz t) with hlt | hge
  · have hR : Rg g t wr := (ht.alloc _).kept hg hne
    obtain ⟨nn, hn⟩ : ∃ n, (nd t 0)[k]? = some n := ⟨_, List.getElem?_eq_getElem (by omega)⟩
    obtain ⟨k0, k1, k2⟩ := hR.cell k nn hn
    have d1 : decide ((k : Int) < (sz t : Int)) = true := by simp; omega
    obtain ⟨op, na, nb⟩ := nn
    have hbd := nd_bound t 0 ht.ok _ (List.mem_of_getElem? hn)
    have b1 : na < sz t := by have := hbd.2.1; simp at this; exact this
    have b2 : nb < sz t := by have := hbd.2.2.2.1; simp at this; exact this
    have b3 : op < 1300 := hbd.2.2.2.2
    clear hbd
    have HN := nd_news wr (.cells #[.int .i64 (op : Int), .int .i64 (na : Int), .int .i64 (nb : Int)] 107) op (na + us.length) (nb + us.length) ((na : Int) + (us.length : Int)) ((nb : Int) + (us.length : Int)) (by simp) (by simp)
    have hBr : B <= wr.heap.size := by have := hg.size; simp at this; omega
    have HT : Hid (nflat (us ++ (nd t us.length).take (k + 1)) = nflat (us ++ (nd t us.length).take k) ++ Nd.cells ⟨op, na + us.length, nb + us.length⟩) := zom us t us.length k _ ht.ok hn
    go_wp2_with (at_builtin; refine wpList_append_lies _ rfl _ _ 31 rfl B 107 i0 _ 3 24 Tryz.underlying31 hi0 hz0 hz1 hz2 rfl (by omega) u0 (us.length + k) _ rfl ((ho.alloc _).alloc _) ⟨wr.heap.size + 1, 0, none⟩ 1 1 (Nd.cells ⟨op, na + us.length, nb + us.length⟩) rfl rfl HN (by simp [Value.oneCell', Nd.cells]) (by omega) (by unfold maxLen; omega) (by omega) (by simp; omega) (wr.heap.size + 2) (by simp) ?_; intro gg cap1 w1 hown1 hgrow1 hat1 hlt1)
    refine ⟨⟨k + 1, by simp, by omega, ?_, znr hg (grow_two hgrow1) (hv.imp id (fun ⟨q, h1, h2⟩ => ⟨q, h1, by simpa using h2⟩)), ?_⟩, ?_⟩
    · rw [HT.out]; exact hown1
    · rcases hat1 with e | e
      · rw [e] at hv; exact hv
      · refine .inr ⟨gg, rfl, ?_⟩
        have := hg.size; simp at this; omega
    · simp [intOf]; omega
  · obtain rfl : k = sz t := by omega
    have d1 : decide ((sz t : Int) < (sz t : Int)) = false := by simp
    have HT : Hid ((nd t us.length).take (sz t) = nd t us.length) := by unfold Hid; rw [<- hlen]; exact List.take_length
    go_wp2_with fail
    go_ret
    rw [HT.out] at ho
    refine ⟨u0, rfl, ho, ?_, ?_⟩
    · exact (World.grownBy_alloc w _ vl.ownBlock).trans hg
    · exact hv.imp id (fun ⟨q, h1, h2⟩ => ⟨q, h1, by omega⟩)
def TPost (t : Ty) (w : World) (e : Ending) (w' : World) : Prop :=
 ∃ g cap, e = .returned (.agg #[.slice (some ⟨g, 0, none⟩) (sz t) cap]) /\ Rg g t w' /\ w.heap.size <= g /\ Below w.heap.size w w'
theorem add0 (g m : Nat) : (⟨g, 0, none⟩ : Addr).add m = ⟨g, m, none⟩ := by unfold Addr.add; split <;> simp_all
theorem Rg.ofOwn {B g n cap : Nat} {t : Ty} {w : World} (ok : Ok t) (h : w.ownsRow B 107 3 (.slice (some ⟨g, 0, none⟩) n cap) n (nflat (nd t 0))) : Rg g t w := by
 refine ⟨ok, (h.lt g rfl).2, fun k n hk => ?_⟩
 have c0 := h.cells (g := g) rfl (k * 3 + 0) _ (zjt _ k 0 n _ hk rfl)
 have c1 := h.cells (g := g) rfl (k * 3 + 1) _ (zjt _ k 1 n _ hk rfl)
 have c2 := h.cells (g := g) rfl (k * 3 + 2) _ (zjt _ k 2 n _ hk rfl)
 rw [add0] at c0 c1 c2
 exact ⟨c0, c1, c2⟩
theorem zky {w w' : World} {row : Option Nat} (h : w.grownBy w' row) (hr : ∀ k, row = some k -> w.heap.size <= k) : Below w.heap.size w w' :=
 ⟨h.os, h.tape, h.output, h.size, fun k hk => h.block k hk (fun e => by have := hr k e.symm; omega)⟩
theorem zai {w : World} (b : Nat) (u : Value) : w.grownBy (w.setCell ⟨b, 0, none⟩ u) (some b) :=
 ⟨rfl, rfl, rfl, by simp [World.setCell], fun i _ hn => Below.heap_setCell _ _ _ _ (by simpa using hn)⟩
theorem leaf_nd (g o : Nat) (hg : g <= 2) (u : Unit) : nd (.node g o u .nil .nil) 0 = [⟨sgn g o, 0, 0⟩] := by
 have h3 : g <= 3 := by omega
 simp [nd, rt, rtA, rtB, hg, h3]
theorem zen (g o : Nat) (u : Unit) : sz (.node g o u .nil .nil) = 1 := rfl
theorem zmu : (Tryz.prog.info? 33).map (·.size) = some (#[Value.slice none 0 0]).size := by kernel_rfl
theorem zag {fn : Func} {p : Tmp} (h : fn.results = #[.cell p 33]) {tmps : Array Value} {w : World} {g : Nat} {v : Value} {Q : Ending -> World -> Prop}
 (hp : tmps.getD p undef = .pointer (some ⟨g, 0, none⟩)) (hg : w.heap[g]? = some (.cells #[v] 33 (0, 0))) (hq : Q (.returned (.agg #[v])) w) : bodyPost Tryz.prog fn Q Exit.ret { tmps := tmps, defers := [] } w :=
 bodyPost_ret (results_cell_row h tmps w g 33 #[v] (0, 0) _ hp hg Tryz.underlying33 rfl zmu) rfl hq
theorem zac {w : World} {g : Nat} {u v : Value} (hg : w.heap[g]? = some (.cells #[u] 33 (0, 0))) : (w.setCell ⟨g, 0, none⟩ v).heap[g]? = some (.cells #[v] 33 (0, 0)) := by
 simp [World.setCell, Array.getElem?_modify, hg]
theorem nd_news1 (wr : World) (op x y : Nat) (z a b : Int) (hz : z = (op : Int)) (ha : a = (x : Int)) (hb : b = (y : Int)) : ∀ j u, (Nd.cells ⟨op, x, y⟩)[j]? = some u ->
 (wr.alloc (.cells #[.int .i64 z, .int .i64 a, .int .i64 b] 107)).cell? ((⟨wr.heap.size, 0, none⟩ : Addr).add j) = some u := by
 subst hz
 subst ha
 subst hb
 exact World.news_of_block (heap_alloc_new wr (.cells #[.int .i64 (op : Int), .int .i64 (x : Int), .int .i64 (y : Int)] 107))
theorem zab {w : World} {b : Nat} {v : Value} {T : TypeId} (h : w.heap[b]? = some (.cells #[v] T (0, 0))) : w.cell? ⟨b, 0, none⟩ = some v := by simp [World.cell?, h]
theorem zae {w : World} {b : Nat} {v : Value} {T : TypeId} (h : w.heap[b]? = some (.cells #[v] T (0, 0))) : w.frozen? ⟨b, 0, none⟩ = false := by simp [World.frozen?, h]
theorem zcc (g o : Nat) (hg : g <= 2) (hok : Ok (.node g o () .nil .nil)) (w : World) : Calls Tryz.prog 40 #[.int .i64 (sgn g o : Int)] w (TPost (.node g o () .nil .nil) w) := by
 have HN : Hid (nd (.node g o () .nil .nil) 0 = [⟨sgn g o, 0, 0⟩]) := leaf_nd g o hg ()
 have HK : Hid (Ok (.node g o () .nil .nil)) := hok
 clear hok hg
 generalize sgn g o = op at *
 go_enter Tryz.func40, Tryz.ntmps40
 go_wp2_with fail
 refine zag rfl rfl (by rw [Below.heap_alloc _ _ _ (by simp)]; exact heap_alloc_new w _) ?_
 refine ⟨w.heap.size + 1, 1, rfl, ⟨HK.out, by simp, fun k n hk => ?_⟩, by omega, (bal w _).alloc (by simp) _⟩
 rw [HN.out] at hk
 cases k with
 | zero =>
  simp at hk
  subst hk
  simp
 | succ k => simp at hk
theorem list_nd (t : Ty) (h : Ok t) : nd (tL t) 0 = nd t 0 ++ [⟨91, sz t - 1, 0⟩] := by
 simp [nd, rt, rtA, rtB, sgn]
theorem list_any (t : Ty) (g cap : Nat) (w : World) (ht : Rg g t w) (hl : sz t <= 100000) : Calls Tryz.prog 66 #[.agg #[.slice (some ⟨g, 0, none⟩) (sz t) cap]] w (TPost (tL t) w) := by
 obtain ⟨i0, hi0, hz0, hz1, hz2⟩ := info_parts zig
 have HC : Hid (∀ w' : World, Rg g t w' -> w.heap.size + 2 <= w'.heap.size -> Calls Tryz.prog 103 #[.slice none 0 0, .agg #[.slice (some ⟨g, 0, none⟩) (sz t) cap]] w' (CoPost (w.heap.size + 2) [] (.slice none 0 0) t w')) :=
  fun w' h' hs => zhf (w.heap.size + 2) [] (.slice none 0 0) g cap t w' (World.ownsRow_nil _ _ _ _) h' (by simp [Value.ownBlock]) hs (by simp; omega)
 have HD : Hid (nd (tL t) 0 = nd t 0 ++ [⟨91, sz t - 1, 0⟩]) := list_nd t ht.ok
 have hpos := zau ht.ok
 have hbox : ((w.alloc (.cells #[.slice (some ⟨g, 0, none⟩) (sz t) cap] 33)).alloc (.cells #[.slice none 0 0] 33)).heap[w.heap.size + 1]? = some (.cells #[.slice none 0 0] 33 (0, 0)) := heap_alloc2_new w _ _
 have hA := (ht.alloc (.cells #[.slice (some ⟨g, 0, none⟩) (sz t) cap] 33)).alloc (.cells #[.slice none 0 0] 33)
 go_enter Tryz.func66, Tryz.ntmps66
 go_wp2_with fail
 refine (HC.out _ hA (by simp)).mono ?_
 rintro e w1 ⟨v1, rfl, hown, hgr, hv1⟩
 simp only [List.length_nil, Nat.zero_add, List.nil_append] at hown
 obtain ⟨g1, cap1, rfl, hb1, hg1⟩ := hown.form hpos
 have hbox1 : w1.heap[w.heap.size + 1]? = some (.cells #[.slice none 0 0] 33 (0, 0)) := (hgr.block _ (by simp) (by simp [Value.ownBlock])).trans hbox
 have HN := nd_news1 w1 91 (sz t - 1) 0 91 ((sz t : Int) - 1) 0 rfl (by omega) rfl
 go_wp2_with (at_builtin; refine wpList_append_lies _ rfl _ _ 31 rfl (w.heap.size + 2) 107 i0 _ 3 24 Tryz.underlying31 hi0 hz0 hz1 hz2 rfl (by omega) (.slice (some ⟨g1, 0, none⟩) (sz t) cap1) (sz t) _ rfl (hown.alloc _) ⟨w1.heap.size, 0, none⟩ 1 1 (Nd.cells ⟨91, sz t - 1, 0⟩) rfl rfl HN (by simp [Value.oneCell', Nd.cells]) (by omega) (by unfold maxLen; omega) (by omega) (by simp; omega) (w1.heap.size + 1) (by simp) ?_; intro gg cap2 w2 hown2 hgrow2 hat2 hlt2; have hbox2 : w2.heap[w.heap.size + 1]? = some (.cells #[.slice none 0 0] 33 (0, 0)) := (hgrow2.block _ (by simp; omega) (by simp [Value.ownBlock]; omega)).trans ((Below.heap_alloc _ _ _ (by omega)).trans hbox1); have cb := zab hbox2; have fb := zae hbox2)
 refine zag rfl rfl (zac hbox2) ?_
 have hgb : w.heap.size + 2 <= gg := (hown2.lt gg rfl).1
 have e1 : nflat (nd (tL t) 0) = nflat (nd t 0) ++ Nd.cells ⟨91, sz t - 1, 0⟩ := by rw [HD.out, zeo]; simp [nflat]
 have B1 : Below w.heap.size w w1 := ((bal w _).alloc (by simp) _).trans ((zky hgr (by simp [Value.ownBlock])).mono (by simp; omega))
 have B2 : Below w.heap.size w w2 := B1.grown ((World.grownBy_alloc w1 _ _).trans hgrow2) B1.size (fun k hk => by simp [Value.ownBlock] at hk; omega)
 refine ⟨gg, cap2, rfl, ?_, by omega, B2.setCell (by simp) _⟩
 rw [<- e1] at hown2
 exact (Rg.ofOwn (okL ht.ok) hown2).kept (zai _ _) (by simp; omega)
theorem zpj (gt : Nat) (h : gt = 4 \/ gt = 5) (a b : Ty) (u : Unit) : nd (.node gt 0 u a b) 0 = nd a 0 ++ nd b (sz a) ++ [⟨sgn gt 0, sz a - 1, sz a + sz b - 1⟩] := by
 rcases h with rfl | rfl <;> simp [nd, rt, rtA, rtB, sgn]
theorem both_ok (gt : Nat) (h : gt = 4 \/ gt = 5) {a b : Ty} (ha : Ok a) (hb : Ok b) : Ok (.node gt 0 () a b) := by
 rcases h with rfl | rfl
 · exact okP ha hb
 · exact okF ha hb
theorem zgr (gt : Nat) (hgt : gt = 4 \/ gt = 5) (a b : Ty) (g cap g' cap' : Nat) (w : World) (ha : Rg g a w) (hb : Rg g' b w) (hl : sz a <= 100000) (hl' : sz b <= 100000) :
 Calls Tryz.prog 67 #[.int .i64 (sgn gt 0 : Int), .agg #[.slice (some ⟨g, 0, none⟩) (sz a) cap], .agg #[.slice (some ⟨g', 0, none⟩) (sz b) cap']] w (TPost (.node gt 0 () a b) w) := by
 obtain ⟨i0, hi0, hz0, hz1, hz2⟩ := info_parts zig
 have HO : Hid (Ok (.node gt 0 () a b)) := both_ok gt hgt ha.ok hb.ok
 have HD : Hid (nd (.node gt 0 () a b) 0 = nd a 0 ++ nd b (sz a) ++ [⟨sgn gt 0, sz a - 1, sz a + sz b - 1⟩]) := zpj gt hgt a b ()
 have hpos := zau ha.ok
 have hpos' := zau hb.ok
 have HZ : Hid (sz (.node gt 0 () a b) = sz a + sz b + 1) := rfl
 have hlt := ha.lt
 have hlt' := hb.lt
 clear hgt
 generalize sgn gt 0 = op at HD ⊢
 generalize Go.Deep.BT.node gt 0 () a b = T at HD HO HZ ⊢
 have hbx : (((w.alloc (.cells #[.slice (some ⟨g, 0, none⟩) (sz a) cap] 33)).alloc (.cells #[.slice (some ⟨g', 0, none⟩) (sz b) cap'] 33)).alloc (.cells #[.slice none 0 0] 33)).heap[w.heap.size + 1]? = some (.cells #[.slice (some ⟨g', 0, none⟩) (sz b) cap'] 33 (0, 0)) := by
  rw [Below.heap_alloc _ _ _ (by simp)]; exact heap_alloc2_new w _ _
 have hcx : (((w.alloc (.cells #[.slice (some ⟨g, 0, none⟩) (sz a) cap] 33)).alloc (.cells #[.slice (some ⟨g', 0, none⟩) (sz b) cap'] 33)).alloc (.cells #[.slice none 0 0] 33)).heap[w.heap.size + 1 + 1]? = some (.cells #[.slice none 0 0] 33 (0, 0)) := by
  have := heap_alloc2_new (w.alloc (.cells #[.slice (some ⟨g, 0, none⟩) (sz a) cap] 33)) (.cells #[.slice (some ⟨g', 0, none⟩) (sz b) cap'] 33) (.cells #[.slice none 0 0] 33)
  simpa using this
 have hA := ((ha.alloc (.cells #[.slice (some ⟨g, 0, none⟩) (sz a) cap] 33)).alloc (.cells #[.slice (some ⟨g', 0, none⟩) (sz b) cap'] 33)).alloc (.cells #[.slice none 0 0] 33)
 have hB := ((hb.alloc (.cells #[.slice (some ⟨g, 0, none⟩) (sz a) cap] 33)).alloc (.cells #[.slice (some ⟨g', 0, none⟩) (sz b) cap'] 33)).alloc (.cells #[.slice none 0 0] 33)
 have B0 : Below w.heap.size w (((w.alloc (.cells #[.slice (some ⟨g, 0, none⟩) (sz a) cap] 33)).alloc (.cells #[.slice (some ⟨g', 0, none⟩) (sz b) cap'] 33)).alloc (.cells #[.slice none 0 0] 33)) :=
  ((bal w _).alloc (by simp) _).alloc (by simp; omega) _
 have s0 : (((w.alloc (.cells #[.slice (some ⟨g, 0, none⟩) (sz a) cap] 33)).alloc (.cells #[.slice (some ⟨g', 0, none⟩) (sz b) cap'] 33)).alloc (.cells #[.slice none 0 0] 33)).heap.size = w.heap.size + 3 := by simp
 go_enter Tryz.func67, Tryz.ntmps67
 go_wp2_with fail
 refine (zhf (w.heap.size + 3) [] (.slice none 0 0) g cap a _ (World.ownsRow_nil _ _ _ _) hA (by simp [Value.ownBlock]) (by omega) (by simp; omega)).mono ?_
 rintro e w1 ⟨v1, rfl, hown, hgr, -⟩
 simp only [List.length_nil, Nat.zero_add, List.nil_append] at hown
 obtain ⟨g1, cap1, rfl, hb1, hg1⟩ := hown.form hpos
 have hbx1 : w1.heap[w.heap.size + 1]? = some (.cells #[.slice (some ⟨g', 0, none⟩) (sz b) cap'] 33 (0, 0)) := (hgr.block _ (by omega) (by simp [Value.ownBlock])).trans hbx
 have hcx1 : w1.heap[w.heap.size + 1 + 1]? = some (.cells #[.slice none 0 0] 33 (0, 0)) := (hgr.block _ (by omega) (by simp [Value.ownBlock])).trans hcx
 have B1 : Below w.heap.size w w1 := B0.grown hgr (by omega) (by simp [Value.ownBlock])
 have hR1 := hB.kept hgr (by simp [Value.ownBlock])
 have cb1 := zab hbx1
 have hle : (nd a 0).length = sz a := zaj a 0
 have HC := zhf (w.heap.size + 3) (nd a 0) (.slice (some ⟨g1, 0, none⟩) (sz a) cap1) g' cap' b w1 (by rw [hle]; exact hown) hR1 (by simp [Value.ownBlock]; omega) (by omega) (by omega)
 clear hA hB hbx hcx B0 s0 hbx1 hgr hR1 ha
 go_wp2_with fail
 refine HC.mono ?_
 rintro e w2 ⟨v2, rfl, hown2, hgr2, hat2⟩
 rw [hle] at hown2
 obtain ⟨g2, cap2, rfl, hb2, hg2⟩ := hown2.form (by omega)
 have hcx2 : w2.heap[w.heap.size + 1 + 1]? = some (.cells #[.slice none 0 0] 33 (0, 0)) := (hgr2.block _ (by omega) (by simp [Value.ownBlock]; omega)).trans hcx1
 have B2 : Below w.heap.size w w2 := B1.grown hgr2 B1.size (by simp [Value.ownBlock]; omega)
 have s2 : w.heap.size + 3 <= w2.heap.size := by omega
 clear HC hcx1 B1 hown hgr2 hat2
 have HN := nd_news1 w2 op (sz a - 1) (sz a + sz b - 1) op ((sz a : Int) - 1) ((sz a : Int) + (sz b : Int) - 1) rfl (by omega) (by omega)
 go_wp2_with (at_builtin; refine wpList_append_lies _ rfl _ _ 31 rfl (w.heap.size + 3) 107 i0 _ 3 24 Tryz.underlying31 hi0 hz0 hz1 hz2 rfl (by omega) (.slice (some ⟨g2, 0, none⟩) (sz a + sz b) cap2) (sz a + sz b) _ rfl (hown2.alloc _) ⟨w2.heap.size, 0, none⟩ 1 1 (Nd.cells ⟨op, sz a - 1, sz a + sz b - 1⟩) rfl rfl HN (by simp [Value.oneCell', Nd.cells]) (by omega) (by unfold maxLen; omega) (by omega) (by simp; omega) (w2.heap.size + 1) (by simp) ?_; intro gg cap3 w3 hown3 hgrow3 hat3 hlt3; have hbox3 : w3.heap[w.heap.size + 1 + 1]? = some (.cells #[.slice none 0 0] 33 (0, 0)) := (hgrow3.block _ (by simp; omega) (by simp [Value.ownBlock]; omega)).trans ((Below.heap_alloc _ _ _ (by omega)).trans hcx2); have cb := zab hbox3; have fb := zae hbox3)
 refine zag rfl rfl (zac hbox3) ?_
 have hgb : w.heap.size + 3 <= gg := (hown3.lt gg rfl).1
 have e1 : nflat (nd T 0) = nflat (nd a 0 ++ nd b (sz a)) ++ Nd.cells ⟨op, sz a - 1, sz a + sz b - 1⟩ := by rw [HD.out, zeo]; simp [nflat]
 have B3 : Below w.heap.size w w3 := B2.grown ((World.grownBy_alloc w2 _ _).trans hgrow3) B2.size (fun k hk => by simp [Value.ownBlock] at hk; omega)
 refine ⟨gg, cap3, by rw [HZ.out], ?_, by omega, B3.setCell (by simp; omega) _⟩
 rw [<- e1] at hown3
 exact (Rg.ofOwn HO.out hown3).kept (zai _ _) (by simp; omega)
theorem zat (t : Ty) (g cap : Nat) (w : World) (ht : Rg g t w) (hl : sz t <= 1000000) : Calls Tryz.prog 62 #[.agg #[.slice (some ⟨g, 0, none⟩) (sz t) cap]] w fun e w' => e = .returned (.int .i64 ((rt t 0).op : Int)) /\ Below w.heap.size w w' := by
 have hpos := zau ht.ok
 obtain ⟨k0, -, -⟩ := (ht.alloc (.cells #[.slice (some ⟨g, 0, none⟩) (sz t) cap] 33)).cell (sz t - 1) _ (zew t ht.ok 0)
 have e1 : ((sz t : Int) - 1) = ((sz t - 1 : Nat) : Int) := by omega
 go_enter Tryz.func62, Tryz.ntmps62
 go_wp2_with fail
 go_ret
 exact ⟨rfl, bal w _⟩
theorem zbz (n : Nat) (w : World) : Calls Tryz.prog 63 #[.int .i64 (n : Int)] w fun e w' => e = .returned (.bool (decide ((1000 : Int) <= (n : Int)))) /\ w' = w := by
 go_enter Tryz.func63, Tryz.ntmps63
 go_wp2_with fail
 go_ret
 exact ⟨rfl, rfl⟩
theorem rt_cases {y : Ty} (h : Ok y) (f : Nat) : (∃ op, rt y f = ⟨op, f, f⟩ /\ sz y = 1 /\ op ≠ 91 /\ op ≠ 42 /\ op ≠ 62) \/ (∃ a op c rest, Ok a /\ (op = 91 \/ op = 42 \/ op = 62) /\ rt y f = ⟨op, f + sz a - 1, c⟩ /\ nd y f = nd a f ++ rest /\ sz a < sz y) := by
 rcases h.cases with rfl | rfl | ⟨o, h1, h2, rfl⟩ | ⟨a, ha, rfl⟩ | ⟨a, b, ha, hb, rfl⟩ | ⟨a, b, ha, hb, rfl⟩
 · exact .inl ⟨73, rfl, rfl, by decide, by decide, by decide⟩
 · exact .inl ⟨66, rfl, rfl, by decide, by decide, by decide⟩
 · exact .inl ⟨o + 30, rfl, rfl, by omega, by omega, by omega⟩
 · exact .inr ⟨a, 91, _, _, ha, .inl rfl, rfl, by simp only [nd]; rw [List.append_assoc], by simp [sz]⟩
 · exact .inr ⟨a, 42, _, _, ha, .inr (.inl rfl), rfl, by simp only [nd]; rw [List.append_assoc], by simp [sz]; omega⟩
 · exact .inr ⟨a, 62, _, _, ha, .inr (.inr rfl), rfl, by simp only [nd]; rw [List.append_assoc], by simp [sz]; omega⟩
theorem mid_last {N pre post : List Nd} {y : Ty} {f : Nat} (h : Ok y) (hN : N = pre ++ (nd y f ++ post)) (hf : pre.length = f) : N[f + sz y - 1]? = some (rt y f) := by
 have hpos := zau h
 have hl := zaj y f
 rw [hN, List.getElem?_append_right (by omega), hf, List.getElem?_append_left (by omega), show f + sz y - 1 - f = sz y - 1 from by omega]
 exact zew y h f
theorem mid_at {N pre post : List Nd} {x : Ty} {f : Nat} (h : Ok x) (hN : N = pre ++ (nd x f ++ post)) (hf : pre.length = f) (j : Nat) (n : Nd) (hn : (nd x 0)[j]? = some n) : N[f + j]? = some (shift f n) := by
 have hj : j < (nd x 0).length := (List.getElem?_eq_some_iff.1 hn).1
 have hl := zaj x f
 have hl0 := zaj x 0
 rw [hN, List.getElem?_append_right (by omega), hf, List.getElem?_append_left (by omega), show f + j - f = j from by omega, nd_zero x h f, List.getElem?_map, hn]
 rfl
theorem part_any (t x : Ty) (pre post : List Nd) (f kk g cap : Nat) (w : World) (ht : Rg g t w) (hl : sz t <= 1000000) (hx : Ok x) (hN : nd t 0 = pre ++ (nd x f ++ post)) (hf : pre.length = f) (hkk : kk + 1 = f + sz x) :
 Calls Tryz.prog 102 #[.agg #[.slice (some ⟨g, 0, none⟩) (sz t) cap], .int .i64 (kk : Int)] w (TPost x w) := by
 obtain ⟨i0, hi0, hz0, hz1, hz2⟩ := info_parts zig
 have hA := (ht.alloc (.cells #[.slice (some ⟨g, 0, none⟩) (sz t) cap] 33)).alloc (.cells #[.slice none 0 0] 33)
 have hbx : ((w.alloc (.cells #[.slice (some ⟨g, 0, none⟩) (sz t) cap] 33)).alloc (.cells #[.slice none 0 0] 33)).heap[w.heap.size]? = some (.cells #[.slice (some ⟨g, 0, none⟩) (sz t) cap] 33 (0, 0)) := by
  rw [Below.heap_alloc _ _ _ (by simp)]; exact heap_alloc_new w _
 have hcx := heap_alloc2_new w (.cells #[.slice (some ⟨g, 0, none⟩) (sz t) cap] 33) (.cells #[.slice none 0 0] 33)
 have hlen : f + sz x + post.length = sz t := by
  have := zaj t 0
  rw [hN, List.length_append, List.length_append, zaj x f] at this
  omega
 have HN : Hid (nd t 0 = pre ++ (nd x f ++ post)) := hN
 have HX : Hid (Ok x) := hx
 have hpx := zau hx
 clear hN hx
 go_enter Tryz.func102, Tryz.ntmps102
 go_wp2_with fail
 go_loop [5] (fun v => ∃ (q : Nat) (y : Ty) (rest : List Nd), v = .int .i64 (q : Int) /\ q + 1 = f + sz y /\ Hid (Ok y /\ nd t 0 = pre ++ (nd y f ++ rest)) /\ sz y <= sz x) (fun v => (intOf v).toNat)
 case atStart => exact ⟨kk, x, post, rfl, hkk, ⟨HX.out, HN.out⟩, Nat.le_refl _⟩
 case round =>
  obtain ⟨q, y, rest, rfl, hq, HY, hyx⟩ := hrel
  have hlast := mid_last HY.out.1 HY.out.2 hf
  rw [show f + sz y - 1 = q from by omega] at hlast
  have hqt : q < sz t := by have := (List.getElem?_eq_some_iff.1 hlast).1; rw [zaj] at this; exact this
  obtain ⟨k0, k1, -⟩ := hA.cell q _ hlast
  rcases rt_cases HY.out.1 f with ⟨op, hr, hsz, n1, n2, n3⟩ | ⟨a, op, c, rest', ha, hop, hr, hnd, hsa⟩
  · rw [hr] at k0 k1
    simp only at k0 k1
    have e1 : ((op : Int) == 91) = false := by rw [beq_eq_false_iff_ne]; omega
    have e2 : ((op : Int) == 42) = false := by rw [beq_eq_false_iff_ne]; omega
    have e3 : ((op : Int) == 62) = false := by rw [beq_eq_false_iff_ne]; omega
    obtain rfl : q = f := by omega
    clear hr hlast HY hyx n1 n2 n3
    go_wp2_with fail
    clear k0 k1 e1 e2 e3 hq hsz hqt
    go_loopw [6, 7] (fun v i wr => ∃ m j : Nat, i = .int .i64 (m : Int) /\ m = q + j /\ j <= sz x /\ wr.ownsRow (w.heap.size + 2) 107 3 v j (nflat ((nd x 0).take j)) /\ ((w.alloc (.cells #[.slice (some ⟨g, 0, none⟩) (sz t) cap] 33)).alloc (.cells #[.slice none 0 0] 33)).grownBy wr none) (fun _ i _ => q + sz x - (intOf i).toNat)
    case atStart => exact ⟨q, 0, rfl, rfl, Nat.zero_le _, World.ownsRow_nil _ _ _ _, World.grownBy.refl _ _⟩
    case round =>
     obtain ⟨m, j, rfl, hm, hj, ho, hg⟩ := hrel
     have hs := hg.size
     simp only [World.size_alloc] at hs
     have c0 : wr.cell? ⟨w.heap.size, 0, none⟩ = some (.slice (some ⟨g, 0, none⟩) (sz t) cap) := zab ((hg.block _ (by simp; omega) (by simp)).trans hbx)
     rcases Nat.lt_or_ge j (sz x) with hlt | hge
     · have hR := hA.kept hg (by simp)
       obtain ⟨⟨op, na, nb⟩, hn⟩ : ∃ n, (nd x 0)[j]? = some n := ⟨_, List.getElem?_eq_getElem (by rw [zaj]; exact hlt)⟩
       have hat := mid_at HX.out HN.out hf j _ hn
       rw [<- hm] at hat
       have hmt : m < sz t := by omega
       have hbd := nd_bound x 0 HX.out _ (List.mem_of_getElem? hn)
       have b1 : na < sz x := by have := hbd.2.1; simp at this; exact this
       have b2 : nb < sz x := by have := hbd.2.2.2.1; simp at this; exact this
       have b3 : op < 1300 := hbd.2.2.2.2
       clear hbd
       obtain ⟨k0, k1, k2⟩ := hR.cell m _ hat
       simp only [shift] at k0 k1 k2
       obtain ⟨xa, hxa⟩ : ∃ xa, xa = na + q := ⟨_, rfl⟩
       obtain ⟨xb, hxb⟩ : ∃ xb, xb = nb + q := ⟨_, rfl⟩
       rw [<- hxa] at k1
       rw [<- hxb] at k2
       have d1 : decide ((m : Int) <= (kk : Int)) = true := by simp; omega
       have d1n : m <= kk := by omega
       have HW := nd_news wr (.cells #[.int .i64 (op : Int), .int .i64 (xa : Int), .int .i64 (xb : Int)] 107) op na nb ((xa : Int) - (q : Int)) ((xb : Int) - (q : Int)) (by omega) (by omega)
       have HT : Hid (nflat ((nd x 0).take (j + 1)) = nflat ((nd x 0).take j) ++ Nd.cells ⟨op, na, nb⟩) := by
        unfold Hid
        have := zom [] x 0 j _ HX.out hn
        simpa [shift] using this
       have HM : Hid (m = q + j) := hm
       have b4 : xa <= sz t := by omega
       have b5 : xb <= sz t := by omega
       have b6 : q <= xa := by omega
       have b7 : q <= xb := by omega
       clear hat hn hm hxa hxb
       go_wp2_with (at_builtin; refine wpList_append_lies _ rfl _ _ 31 rfl (w.heap.size + 2) 107 i0 _ 3 24 Tryz.underlying31 hi0 hz0 hz1 hz2 rfl (by omega) u6 j _ rfl ((ho.alloc _).alloc _) ⟨wr.heap.size + 1, 0, none⟩ 1 1 (Nd.cells ⟨op, na, nb⟩) rfl rfl HW (by simp [Value.oneCell', Nd.cells]) (by omega) (by unfold maxLen; omega) (by omega) (by simp; omega) (wr.heap.size + 2) (by simp) ?_; intro gg cap1 w1 hown1 hgrow1 hat1 hlt1)
       refine ⟨⟨m + 1, j + 1, by simp, by have := HM.out; omega, by omega, ?_, znr hg (grow_two hgrow1) ?_⟩, ?_⟩
       · rw [HT.out]; exact hown1
       · cases hb : u6.ownBlock with
         | none => exact .inl rfl
         | some k => exact .inr ⟨k, rfl, by have := (ho.lt k hb).1; simpa using this⟩
       · have := HM.out
         simp [intOf]; omega
     · obtain rfl : j = sz x := by omega
       have d1 : decide ((m : Int) <= (kk : Int)) = false := by simp; omega
       have d1n : ¬ m <= kk := by omega
       have HT : Hid ((nd x 0).take (sz x) = nd x 0) := by unfold Hid; rw [<- zaj x 0]; exact List.take_length
       have hcx1 := (hg.block _ (by simp) (by simp)).trans hcx
       have cb := zab hcx1
       have fb := zae hcx1
       rw [HT.out] at ho
       obtain ⟨g1, cap1, rfl, hb1, hg1⟩ := ho.form hpx
       clear hm
       go_wp2_with fail
       refine zag rfl rfl (zac hcx1) ?_
       have B1 : Below w.heap.size w wr := ((bal w _).alloc (by simp) _).grown hg (by simp; omega) (by simp)
       exact ⟨g1, cap1, rfl, (Rg.ofOwn HX.out ho).kept (zai _ _) (by simp; omega), by omega, B1.setCell (by simp) _⟩
  · rw [hr] at k0 k1
    simp only at k0 k1
    have hpa := zau ha
    have HR : Hid (Ok a /\ nd t 0 = pre ++ (nd a f ++ (rest' ++ rest))) := ⟨ha, by rw [HY.out.2, hnd, List.append_assoc]⟩
    clear hr hlast HY hnd ha
    rcases hop with rfl | rfl | rfl
    all_goals
     go_wp2_with fail
     go_round
     case rel => exact ⟨f + sz a - 1, a, _, rfl, by omega, HR, by omega⟩
     case measure => simp [intOf]; omega
theorem inT_iff {o : Nat} (ho : 970 <= o) : ∀ {t : Ty}, Ok t -> ∀ f, (inT o t = true ↔ ∃ n ∈ nd t f, n.op = o + 30) := by
 intro t
 induction t with
 | nil => intro h; exact h.elim
 | node g p u a b iha ihb =>
  intro h f
  cases u
  rcases h with ⟨rfl, rfl, rfl, rfl⟩ | ⟨rfl, rfl, rfl, rfl⟩ | ⟨rfl, hp, rfl, rfl⟩ | ⟨rfl, rfl, ha, rfl⟩ | ⟨rfl, rfl, ha, hb⟩ | ⟨rfl, rfl, ha, hb⟩
  · simp [inT, nd, rt, sgn]; omega
  · simp [inT, nd, rt, sgn]; omega
  · simp [inT, nd, rt, sgn]
  · have h1 := iha ha f
    have e : inT o (tL a) = inT o a := by simp [inT]
    rw [e, h1]
    simp only [nd, List.mem_append, List.mem_singleton, List.append_nil]
    constructor
    · rintro ⟨n, hn, e⟩; exact ⟨n, .inl hn, e⟩
    · rintro ⟨n, hn | rfl, e⟩
      · exact ⟨n, hn, e⟩
      · simp [rt, sgn] at e; omega
  · have h1 := iha ha f
    have h2 := ihb hb (f + sz a)
    have e : inT o (tP a b) = (inT o a || inT o b) := by simp [inT]
    rw [e, Bool.or_eq_true, h1, h2]
    simp only [nd, List.mem_append, List.mem_singleton]
    constructor
    · rintro (⟨n, hn, e⟩ | ⟨n, hn, e⟩)
      · exact ⟨n, .inl (.inl hn), e⟩
      · exact ⟨n, .inl (.inr hn), e⟩
    · rintro ⟨n, (hn | hn) | rfl, e⟩
      · exact .inl ⟨n, hn, e⟩
      · exact .inr ⟨n, hn, e⟩
      · simp [rt, sgn] at e; omega
  · have h1 := iha ha f
    have h2 := ihb hb (f + sz a)
    have e : inT o (tF a b) = (inT o a || inT o b) := by simp [inT]
    rw [e, Bool.or_eq_true, h1, h2]
    simp only [nd, List.mem_append, List.mem_singleton]
    constructor
    · rintro (⟨n, hn, e⟩ | ⟨n, hn, e⟩)
      · exact ⟨n, .inl (.inl hn), e⟩
      · exact ⟨n, .inl (.inr hn), e⟩
    · rintro ⟨n, (hn | hn) | rfl, e⟩
      · exact .inl ⟨n, hn, e⟩
      · exact .inr ⟨n, hn, e⟩
      · simp [rt, sgn] at e; omega
def noneTo (t : Ty) (c k : Nat) : Prop := ∀ m n, m < k -> (nd t 0)[m]? = some n -> n.op ≠ c
theorem has_any (t : Ty) (o g cap : Nat) (w : World) (ht : Rg g t w) (hl : sz t <= 1000000) (ho : 970 <= o /\ o < 1230) :
 Calls Tryz.prog 177 #[.agg #[.slice (some ⟨g, 0, none⟩) (sz t) cap], .int .i64 ((o + 30 : Nat) : Int)] w fun e w' => e = .returned (.bool (inT o t)) /\ Below w.heap.size w w' := by
 have HI : Hid (inT o t = true ↔ ∃ n ∈ nd t 0, n.op = o + 30) := inT_iff ho.1 ht.ok 0
 have hb1 : (w.alloc (.cells #[.slice (some ⟨g, 0, none⟩) (sz t) cap] 33)).heap[w.heap.size]? = some (.cells #[.slice (some ⟨g, 0, none⟩) (sz t) cap] 33 (0, 0)) := heap_alloc_new w _
 have hX := ht.alloc (.cells #[.slice (some ⟨g, 0, none⟩) (sz t) cap] 33)
 have B0 : Below w.heap.size w (w.alloc (.cells #[.slice (some ⟨g, 0, none⟩) (sz t) cap] 33)) := bal w _
 have c0 := zab hb1
 obtain ⟨c, hc⟩ : ∃ c, c = o + 30 := ⟨_, rfl⟩
 rw [<- hc]
 have HC : Hid (c = o + 30) := hc
 have hc1 : c < 2000 := by omega
 clear hc ho
 generalize hW : w.alloc (.cells #[.slice (some ⟨g, 0, none⟩) (sz t) cap] 33) = W at *
 have HW : Hid (W.heap.size = w.heap.size + 1) := by unfold Hid; rw [<- hW]; simp
 go_enter Tryz.func177, Tryz.ntmps177
 go_wp2_with fail
 go_loopw [5] (fun i wr => ∃ k : Nat, i = .int .i64 (k : Int) /\ k <= sz t /\ Hid (noneTo t c k) /\ wr = W) (fun i _ => sz t - (intOf i).toNat)
 case atStart => exact ⟨0, rfl, Nat.zero_le _, fun m n hm => absurd hm (by omega), rfl⟩
 case round =>
  obtain ⟨k, rfl, hk, HU, rfl⟩ := hrel
  rcases Nat.lt_or_ge k (sz t) with hlt | hge
  · obtain ⟨⟨p, a, b⟩, hn⟩ : ∃ n, (nd t 0)[k]? = some n := ⟨_, List.getElem?_eq_getElem (by rw [zaj]; exact hlt)⟩
    have k0 := (hX.cell k _ hn).1
    simp only at k0
    have HN : Hid ((nd t 0)[k]? = some ⟨p, a, b⟩) := hn
    clear hn
    by_cases hp : p = c
    · have e1 : ((p : Int) == (c : Int)) = true := by rw [hp]; simp
      have HR : Hid (inT o t = true) := HI.out.2 ⟨⟨p, a, b⟩, List.mem_of_getElem? HN.out, by rw [<- HC.out]; exact hp⟩
      clear hp
      go_wp2_with fail
      go_ret
      rw [HR.out]
      exact ⟨rfl, B0⟩
    · have e1 : ((p : Int) == (c : Int)) = false := by rw [beq_eq_false_iff_ne]; omega
      have HM : Hid (noneTo t c (k + 1)) := by
       intro m n hm hn
       rcases Nat.lt_or_ge m k with h1 | h1
       · exact HU.out m n h1 hn
       · obtain rfl : m = k := by omega
         have := HN.out
         rw [hn] at this
         obtain rfl := Option.some.inj this
         exact hp
      clear hp
      go_wp2_with fail
      go_roundw
      case rel => exact ⟨k + 1, by simp, by omega, HM, by trivial⟩
      case measure => simp [intOf]; omega
  · obtain rfl : k = sz t := by omega
    have HR : Hid (inT o t = false) := by
     unfold Hid
     cases hq : inT o t
     · rfl
     · obtain ⟨n, hm, e⟩ := HI.out.1 hq
       obtain ⟨m, hm, e2⟩ := List.getElem_of_mem hm
       have l := zaj t 0
       exact absurd (e.trans HC.out.symm) (HU.out m n (by omega) (by rw [List.getElem?_eq_getElem hm, e2]))
    go_wp2_with fail
    go_ret
    rw [HR.out]
    exact ⟨rfl, B0⟩
def Is (w : World) (v : Value) (l : List Nat) : Prop := ∃ a cap, v = .slice a l.length cap /\ (l = [] \/ ∃ g, a = some ⟨g, 0, none⟩ /\ g < w.heap.size /\ ∀ (k n : Nat), l[k]? = some n -> w.cell? ⟨g, k, none⟩ = some (.int .i64 (n : Int)))
def noneIn (l : List Nat) (c k : Nat) : Prop := ∀ m, m < k -> l[m]? ≠ some c
theorem zks (l : List Nat) (v : Value) (c : Nat) (w : World) (h : Is w v l) (hl : l.length <= 1000000) :
 Calls Tryz.prog 60 #[v, .int .i64 (c : Int)] w fun e w' => e = .returned (.bool (l.contains c)) /\ w' = w := by
 obtain ⟨a, cap, rfl, hv⟩ := h
 go_enter Tryz.func60, Tryz.ntmps60
 go_wp2_with fail
 go_loopw [5] (fun i wr => ∃ k : Nat, i = .int .i64 (k : Int) /\ k <= l.length /\ Hid (noneIn l c k) /\ wr = w) (fun i _ => l.length - (intOf i).toNat)
 case atStart => exact ⟨0, rfl, Nat.zero_le _, fun m hm => absurd hm (by omega), rfl⟩
 case round =>
  obtain ⟨k, rfl, hk, HU, rfl⟩ := hrel
  rcases Nat.lt_or_ge k l.length with hlt | hge
  · rcases hv with rfl | ⟨g, rfl, hg, hc⟩
    · simp at hlt
    obtain ⟨n, hn⟩ : ∃ n, l[k]? = some n := ⟨_, List.getElem?_eq_getElem hlt⟩
    have k0 := hc k n hn
    have HN : Hid (l[k]? = some n) := hn
    clear hn hc
    by_cases hp : n = c
    · have e1 : ((n : Int) == (c : Int)) = true := by rw [hp]; simp
      have HR : Hid (l.contains c = true) := by
       unfold Hid; rw [List.contains_iff_mem]; have := HN.out; rw [hp] at this; exact List.mem_of_getElem? this
      clear hp
      generalize l.length = ll at *
      go_wp2_with fail
      go_ret
      rw [HR.out]
      exact ⟨rfl, rfl⟩
    · have e1 : ((n : Int) == (c : Int)) = false := by rw [beq_eq_false_iff_ne]; omega
      have HM : Hid (noneIn l c (k + 1)) := by
       intro m hm
       rcases Nat.lt_or_ge m k with h1 | h1
       · exact HU.out m h1
       · obtain rfl : m = k := by omega
         rw [HN.out]; simpa using hp
      clear hp
      go_wp2_with fail
      go_roundw
      case rel => exact ⟨k + 1, by simp, by omega, HM, by trivial⟩
      case measure => simp [intOf]; omega
  · obtain rfl : k = l.length := by omega
    have HR : Hid (l.contains c = false) := by
     unfold Hid
     cases hq : l.contains c
     · rfl
     · rw [List.contains_iff_mem] at hq
       obtain ⟨m, hm, e2⟩ := List.getElem_of_mem hq
       exact absurd (by rw [List.getElem?_eq_getElem hm, e2]) (HU.out m hm)
    go_wp2_with fail
    go_ret
    rw [HR.out]
    exact ⟨rfl, rfl⟩
def Ls (w : World) (V : Value) (ts : List Ty) : Prop := ∃ a cap, V = .slice a ts.length cap /\ (ts = [] \/ ∃ g, a = some ⟨g, 0, none⟩ /\ g < w.heap.size /\ ∀ (k : Nat) (t : Ty), ts[k]? = some t -> ∃ h c, w.cell? ⟨g, k, none⟩ = some (.slice (some ⟨h, 0, none⟩) (sz t) c) /\ Rg h t w)
def opN : List Nat -> List Ty -> Nat -> Nat
 | o :: v, t :: g, c => if c = o + 30 then sz t else opN v g c
 | _, _, _ => 1
def sumN (v : List Nat) (g : List Ty) : List Nd -> Nat
 | [] => 0
 | n :: l => opN v g n.op + sumN v g l
theorem zco (v : List Nat) (g : List Ty) (l m : List Nd) : sumN v g (l ++ m) = sumN v g l + sumN v g m := by
 induction l with
 | nil => simp [sumN]
 | cons n l ih => simp [sumN, ih]; omega
theorem opN_var : ∀ (v : List Nat) (g : List Ty) (o : Nat), opN v g (o + 30) = sz ((look (v.zip g) o).getD (tV o)) := by
 intro v
 induction v with
 | nil => intro g o; simp [opN, look, sz]
 | cons p v ih =>
  intro g o
  cases g with
  | nil => simp [opN, look, sz]
  | cons t g =>
   simp only [opN, List.zip_cons_cons, look]
   by_cases e : p = o
   · subst e; simp
   · rw [if_neg (by omega), if_neg e]; exact ih g o
theorem zgx : ∀ (v : List Nat) (g : List Ty) (c : Nat), (∀ o ∈ v, 970 <= o) -> c < 1000 -> opN v g c = 1 := by
 intro v
 induction v with
 | nil => intro g c _ _; rfl
 | cons p v ih =>
  intro g c h hc
  cases g with
  | nil => rfl
  | cons t g =>
   have := h p List.mem_cons_self
   simp only [opN]
   rw [if_neg (by omega)]
   exact ih g c (fun o ho => h o (List.mem_cons_of_mem _ ho)) hc
theorem sumN_put {v : List Nat} {g : List Ty} (hv : ∀ o ∈ v, 970 <= o) : ∀ {t : Ty}, Ok t -> ∀ f, sumN v g (nd t f) = sz (putT v g t) := by
 intro t
 unfold putT
 induction t with
 | nil => intro h; exact h.elim
 | node k p u a b iha ihb =>
  intro h f
  cases u
  rcases h with ⟨rfl, rfl, rfl, rfl⟩ | ⟨rfl, rfl, rfl, rfl⟩ | ⟨rfl, hp, rfl, rfl⟩ | ⟨rfl, rfl, ha, rfl⟩ | ⟨rfl, rfl, ha, hb⟩ | ⟨rfl, rfl, ha, hb⟩
  · simp [nd, rt, sgn, sumN, sub, sz, zgx v g 73 hv (by decide)]
  · simp [nd, rt, sgn, sumN, sub, sz, zgx v g 66 hv (by decide)]
  · simp [nd, rt, sgn, sumN, sub, opN_var]
  · have h1 := iha ha f
    show sumN v g (nd a f ++ [] ++ [rt (tL a) f]) = sz (tL (sub _ a))
    rw [List.append_nil, zco, h1]
    simp [sumN, rt, sgn, sz, zgx v g 91 hv (by decide)]
  · have h1 := iha ha f
    have h2 := ihb hb (f + sz a)
    show sumN v g (nd a f ++ nd b (f + sz a) ++ [rt (tP a b) f]) = sz (tP (sub _ a) (sub _ b))
    rw [zco, zco, h1, h2]
    simp [sumN, rt, sgn, sz, zgx v g 42 hv (by decide)]
  · have h1 := iha ha f
    have h2 := ihb hb (f + sz a)
    show sumN v g (nd a f ++ nd b (f + sz a) ++ [rt (tF a b) f]) = sz (tF (sub _ a) (sub _ b))
    rw [zco, zco, h1, h2]
    simp [sumN, rt, sgn, sz, zgx v g 62 hv (by decide)]
theorem opN_at : ∀ (v : List Nat) (g : List Ty) (c k : Nat) (o : Nat) (t : Ty), (∀ (m p : Nat), m < k -> v[m]? = some p -> c ≠ p + 30) -> v[k]? = some o -> g[k]? = some t -> c = o + 30 -> opN v g c = sz t := by
 intro v
 induction v with
 | nil => intro g c k o t _ h; simp at h
 | cons p v ih =>
  intro g c k o t hn ho ht e
  cases g with
  | nil => simp at ht
  | cons u g =>
   cases k with
   | zero =>
    simp at ho ht
    subst ho
    subst ht
    simp [opN, e]
   | succ k =>
    simp only [opN]
    rw [if_neg (hn 0 p (by omega) rfl)]
    exact ih g c k o t (fun m q hm hq => hn (m + 1) q (by omega) (by simpa using hq)) (by simpa using ho) (by simpa using ht) e
theorem opN_none : ∀ (v : List Nat) (g : List Ty) (c : Nat), (∀ (m p : Nat), v[m]? = some p -> c ≠ p + 30) -> opN v g c = 1 := by
 intro v
 induction v with
 | nil => intro g c _; rfl
 | cons p v ih =>
  intro g c hn
  cases g with
  | nil => rfl
  | cons u g =>
   simp only [opN]
   rw [if_neg (hn 0 p rfl)]
   exact ih g c (fun m q hq => hn (m + 1) q (by simpa using hq))
theorem sumN_take {v : List Nat} {g : List Ty} {l : List Nd} {k : Nat} {n : Nd} (h : l[k]? = some n) : sumN v g (l.take (k + 1)) = sumN v g (l.take k) + opN v g n.op := by
 rw [List.take_add_one, h, zco]; simp [sumN]
theorem sumN_le {v : List Nat} {g : List Ty} {m : Nat} (hm : 1 <= m) (hg : ∀ t ∈ g, sz t <= m) (l : List Nd) : sumN v g l <= m * l.length := by
 have h1 : ∀ (v : List Nat) (g : List Ty) (c : Nat), (∀ t ∈ g, sz t <= m) -> opN v g c <= m := by
  intro v
  induction v with
  | nil => intro g c _; exact hm
  | cons p v ih =>
   intro g c hg
   cases g with
   | nil => exact hm
   | cons u g =>
    simp only [opN]
    split
    · exact hg u List.mem_cons_self
    · exact ih g c (fun t ht => hg t (List.mem_cons_of_mem _ ht))
 induction l with
 | nil => simp [sumN]
 | cons n l ih => have := h1 v g n.op hg; simp [sumN, Nat.mul_add]; omega
theorem zov (t : Ty) (v : List Nat) (ts : List Ty) (g cap : Nat) (V G : Value) (w : World) (ht : Rg g t w) (hl : sz t <= 60000) (hv : Is w V (v.map (· + 30))) (hG : Ls w G ts) (hlen : ts.length = v.length) (hlv : v.length <= 60000) (hts : ∀ u ∈ ts, sz u <= 60000) (hv9 : ∀ o ∈ v, 970 <= o) :
 Calls Tryz.prog 140 #[.agg #[.slice (some ⟨g, 0, none⟩) (sz t) cap], V, G] w fun e w' => e = .returned (.int .i64 (sz (putT v ts t) : Int)) /\ Below w.heap.size w w' := by
 have HS : Hid (sumN v ts (nd t 0) = sz (putT v ts t)) := sumN_put hv9 ht.ok 0
 have HB : Hid (∀ k, sumN v ts ((nd t 0).take k) <= 3600000000) := fun k => by
  have h1 := sumN_le (v := v) (g := ts) (by decide : 1 <= 60000) hts ((nd t 0).take k)
  have h2 : ((nd t 0).take k).length <= 60000 := by rw [List.length_take, zaj]; omega
  have : 60000 * ((nd t 0).take k).length <= 60000 * 60000 := Nat.mul_le_mul_left _ h2
  omega
 have hb1 : (w.alloc (.cells #[.slice (some ⟨g, 0, none⟩) (sz t) cap] 33)).heap[w.heap.size]? = some (.cells #[.slice (some ⟨g, 0, none⟩) (sz t) cap] 33 (0, 0)) := heap_alloc_new w _
 have hX := ht.alloc (.cells #[.slice (some ⟨g, 0, none⟩) (sz t) cap] 33)
 have B0 : Below w.heap.size w (w.alloc (.cells #[.slice (some ⟨g, 0, none⟩) (sz t) cap] 33)) := bal w _
 have c0 := zab hb1
 obtain ⟨va, vcap, rfl, hva⟩ := hv
 obtain ⟨ga, gcap, rfl, hga⟩ := hG
 rw [List.length_map] at *
 rw [hlen]
 have HV : Hid (v = [] \/ ∃ q, va = some ⟨q, 0, none⟩ /\ ∀ (k n : Nat), v[k]? = some n -> ∀ W', Below w.heap.size w W' -> W'.cell? ⟨q, k, none⟩ = some (.int .i64 ((n + 30 : Nat) : Int))) := by
  rcases hva with e | ⟨q, rfl, hq, hc⟩
  · exact .inl (by simpa using e)
  · exact .inr ⟨q, rfl, fun k n hk W' hW => (hW.cell (p := ⟨q, k, none⟩) hq).trans (hc k (n + 30) (by rw [List.getElem?_map, hk]; rfl))⟩
 have HG : Hid (ts = [] \/ ∃ q, ga = some ⟨q, 0, none⟩ /\ ∀ (k : Nat) (u : Ty), ts[k]? = some u -> ∃ h c, ∀ W', Below w.heap.size w W' -> W'.cell? ⟨q, k, none⟩ = some (.slice (some ⟨h, 0, none⟩) (sz u) c)) := by
  rcases hga with e | ⟨q, rfl, hq, hc⟩
  · exact .inl e
  · refine .inr ⟨q, rfl, fun k u hk => ?_⟩
    obtain ⟨h, c, h1, _⟩ := hc k u hk
    exact ⟨h, c, fun W' hW => (hW.cell (p := ⟨q, k, none⟩) hq).trans h1⟩
 clear hva hga
 generalize hW : w.alloc (.cells #[.slice (some ⟨g, 0, none⟩) (sz t) cap] 33) = W at *
 have HT : Hid (∀ u ∈ ts, sz u <= 60000) := hts
 clear hts hv9 hb1
 generalize hsz : sz t = st at *
 have HZ : Hid (sz t = st) := hsz
 clear hsz
 generalize hvl : v.length = vl at *
 have HVL : Hid (v.length = vl) := hvl
 clear hvl
 go_enter Tryz.func140, Tryz.ntmps140
 go_wp2_with fail
 have hXc : Hid (∀ k n, (nd t 0)[k]? = some n -> W.cell? ⟨g, k * 3, none⟩ = some (.int .i64 (n.op : Int))) := fun k n hn => (hX.cell k n hn).1
 clear hX ht
 go_loopw [7, 8] (fun n i wr => ∃ k m d : Nat, i = .int .i64 (k : Int) /\ n = .int .i64 (m : Int) /\ k <= st /\ Hid (m = sumN v ts ((nd t 0).take k)) /\ m <= 3600000000 /\ wr = W.drewN d) (fun _ i _ => st - (intOf i).toNat)
 case atStart => exact ⟨0, 0, 0, rfl, rfl, Nat.zero_le _, by simp [Hid, sumN], by omega, rfl⟩
 case round =>
  obtain ⟨k, m, d, rfl, rfl, hk, HM, hm, rfl⟩ := hrel
  have c0' : (W.drewN d).cell? ⟨w.heap.size, 0, none⟩ = some (.slice (some ⟨g, 0, none⟩) st cap) := c0
  rcases Nat.lt_or_ge k st with hlt | hge
  · obtain ⟨⟨p, pa, pb⟩, hn⟩ : ∃ n, (nd t 0)[k]? = some n := ⟨_, List.getElem?_eq_getElem (by rw [zaj, HZ.out]; exact hlt)⟩
    have HN : Hid ((nd t 0)[k]? = some ⟨p, pa, pb⟩) := hn
    have k0 := hXc.out k _ hn
    simp only at k0
    clear hn
    have hsum : Hid (sumN v ts ((nd t 0).take (k + 1)) = m + opN v ts p) := by unfold Hid; rw [sumN_take HN.out, HM.out]
    go_wp2_with fail
    go_loopw [7, 9] (fun n j wr => ∃ q d : Nat, j = .int .i64 (q : Int) /\ n = .int .i64 ((m : Int) + 1) /\ q <= vl /\ Hid (∀ (i x : Nat), i < q -> v[i]? = some x -> p ≠ x + 30) /\ wr = W.drewN d) (fun _ j _ => vl - (intOf j).toNat)
    case atStart => exact ⟨0, d, rfl, rfl, Nat.zero_le _, fun i x hi => absurd hi (by omega), rfl⟩
    case round =>
     clear c0'
     obtain ⟨q, d, rfl, rfl, hq, HU, rfl⟩ := hrel
     have c0' : (W.drewN d).cell? ⟨w.heap.size, 0, none⟩ = some (.slice (some ⟨g, 0, none⟩) st cap) := c0
     have k0' : (W.drewN d).cell? ⟨g, k * 3, none⟩ = some (.int .i64 (p : Int)) := k0
     rcases Nat.lt_or_ge q vl with hlt2 | hge2
     · obtain ⟨x, hx⟩ : ∃ x, v[q]? = some x := ⟨_, List.getElem?_eq_getElem (by rw [HVL.out]; exact hlt2)⟩
       obtain ⟨u, hu⟩ : ∃ u, ts[q]? = some u := ⟨_, List.getElem?_eq_getElem (by omega)⟩
       obtain ⟨qv, rfl, hqv⟩ : ∃ qv, va = some ⟨qv, 0, none⟩ /\ W.cell? ⟨qv, q, none⟩ = some (.int .i64 ((x + 30 : Nat) : Int)) := by
        rcases HV.out with e | ⟨qv, e, hc⟩
        · rw [e] at hx; simp at hx
        · exact ⟨qv, e, hc q x hx W B0⟩
       obtain ⟨qg, hh, cc, rfl, hqg⟩ : ∃ qg hh cc, ga = some ⟨qg, 0, none⟩ /\ W.cell? ⟨qg, q, none⟩ = some (.slice (some ⟨hh, 0, none⟩) (sz u) cc) := by
        rcases HG.out with e | ⟨qg, e, hc⟩
        · rw [e] at hu; simp at hu
        · obtain ⟨hh, cc, h1⟩ := hc q u hu
          exact ⟨qg, hh, cc, e, h1 W B0⟩
       have v0 : (W.drewN d).cell? ⟨qv, q, none⟩ = some (.int .i64 ((x + 30 : Nat) : Int)) := hqv
       have HX : Hid (v[q]? = some x) := hx
       have HU2 : Hid (ts[q]? = some u) := hu
       have hsu := HT.out u (List.mem_of_getElem? hu)
       obtain ⟨y, hy⟩ : ∃ y, y = x + 30 := ⟨_, rfl⟩
       rw [<- hy] at v0 hqv
       have HY : Hid (y = x + 30) := hy
       clear hx hu hy
       by_cases hp : p = y
       · have HO : Hid (opN v ts p = sz u) := opN_at v ts p q x u HU.out HX.out HU2.out (by rw [hp]; exact HY.out)
         have e1 : ((p : Int) == (y : Int)) = true := by rw [hp]; simp
         clear hp
         generalize sz u = su at *
         have hf : Hid (m + su <= 3600000000) := by unfold Hid; have := HB.out (k + 1); rw [hsum.out, HO.out] at this; exact this
         have hf' : m + su <= 3600000000 := hf.out
         have e2 : (m : Int) + 1 + (su : Int) - 1 = ((m + su : Nat) : Int) := by omega
         go_wp2_with fail
         go_quiet (fail)
         go_wp2_with fail
         go_roundw
         case rel => exact ⟨k + 1, m + su, _, by simp, by first | exact congrArg _ e2 | simp, by omega, by unfold Hid; rw [hsum.out, HO.out], hf', rfl⟩
         case measure => simp [intOf]; omega
       · have e1 : ((p : Int) == (y : Int)) = false := by rw [beq_eq_false_iff_ne]; omega
         have HM2 : Hid (∀ (i z : Nat), i < q + 1 -> v[i]? = some z -> p ≠ z + 30) := by
          intro i z hi hz
          rcases Nat.lt_or_ge i q with h1 | h1
          · exact HU.out i z h1 hz
          · obtain rfl : i = q := by omega
            rw [HX.out] at hz
            obtain rfl := Option.some.inj hz
            rw [<- HY.out]; exact hp
         clear hp
         go_wp2_with fail
         go_quiet (fail)
         go_wp2_with fail
         go_roundw
         case rel => exact ⟨q + 1, _, by simp, rfl, by omega, HM2, rfl⟩
         case measure => simp [intOf]; omega
     · obtain rfl : q = vl := by omega
       have HO : Hid (opN v ts p = 1) := opN_none v ts p (fun i x hx => HU.out i x (by have := (List.getElem?_eq_some_iff.1 hx).1; have := HVL.out; omega) hx)
       have hf : m + 1 <= 3600000000 := by have := HB.out (k + 1); rw [hsum.out, HO.out] at this; exact this
       go_wp2_with fail
       go_roundw
       case rel => exact ⟨k + 1, m + 1, _, by simp, by simp, by omega, by unfold Hid; rw [hsum.out, HO.out], hf, rfl⟩
       case measure => simp [intOf]; omega
  · obtain rfl : k = st := by omega
    have HR : Hid (m = sz (putT v ts t)) := by
     unfold Hid
     rw [HM.out, <- HS.out, List.take_of_length_le (by rw [zaj, HZ.out]; exact Nat.le_refl _)]
    go_wp2_with fail
    go_ret
    rw [<- HR.out]
    exact ⟨rfl, below_drewN B0 d⟩
theorem Rg.drew {g : Nat} {t : Ty} {w : World} (h : Rg g t w) : Rg g t w.drew := ⟨h.ok, h.lt, h.cell⟩
theorem zjp (w : World) (o o' : Obj) : ((w.alloc o).alloc o').drew.heap.size = w.heap.size + 2 := by show ((w.alloc o).alloc o').heap.size = _; simp
theorem zhq {w w1 : World} {o o' : Obj} (hb : Below ((w.alloc o).alloc o').drew.heap.size ((w.alloc o).alloc o').drew w1) : Below w.heap.size w w1 := by
 have B0 : Below w.heap.size w ((w.alloc o).alloc o').drew := ((bal w o).alloc (by simp) o').drew
 exact B0.trans (hb.mono B0.size)
theorem zlg (t x : Ty) (op c : Nat) (pre post : List Nd) (g cap : Nat) (w : World) (ht : Rg g t w) (hl : sz t <= 1000000) (hx : Ok x) (hN : nd t 0 = pre ++ (nd x pre.length ++ post)) (hr : rt t 0 = ⟨op, pre.length + sz x - 1, c⟩) :
 Calls Tryz.prog 64 #[.agg #[.slice (some ⟨g, 0, none⟩) (sz t) cap]] w (TPost x w) := by
 have hpos := zau ht.ok
 have hpx := zau hx
 have hA := (ht.alloc (.cells #[.slice (some ⟨g, 0, none⟩) (sz t) cap] 33)).alloc (.cells #[.slice none 0 0] 33)
 have KK := hA.cell (sz t - 1) _ (zew t ht.ok 0)
 rw [hr] at KK
 obtain ⟨m, hm⟩ : ∃ m, m = sz t - 1 := ⟨_, rfl⟩
 rw [<- hm] at KK
 have k1 := KK.2.1
 have k2 := KK.2.2
 simp only at k1 k2
 obtain ⟨kk, hkk⟩ : ∃ kk, kk = pre.length + sz x - 1 := ⟨_, rfl⟩
 rw [<- hkk] at k1
 have HP : Hid (∀ w' : World, Rg g t w' -> Calls Tryz.prog 102 #[.agg #[.slice (some ⟨g, 0, none⟩) (sz t) cap], .int .i64 (kk : Int)] w' (TPost x w')) :=
  fun w' h' => part_any t x pre post pre.length kk g cap w' h' hl hx hN rfl (by omega)
 have hcx := heap_alloc2_new w (.cells #[.slice (some ⟨g, 0, none⟩) (sz t) cap] 33) (.cells #[.slice none 0 0] 33)
 have e1 : ((sz t : Int) - 1) = (m : Int) := by omega
 have hklt : kk < sz t := by
  have := zaj t 0
  rw [hN, List.length_append, List.length_append, zaj] at this
  omega
 have b1 : m < sz t := by omega
 have hw : IntKind.i64.wrap (m : Int) = (m : Int) := IntWalk.i64_in _ ⟨by omega, by omega⟩
 clear hN hr hkk KK hm
 go_enter Tryz.func64, Tryz.ntmps64
 go_wp2_with fail
 go_region_with (go_at_call 102; refine (HP.out _ hA.drew).mono ?_; rintro e w1 ⟨g1, cap1, rfl, hR1, hg1, hb1⟩; have hc1 : w1.heap[w.heap.size + 1]? = some (.cells #[.slice none 0 0] 33 (0, 0)) := (hb1.block (w.heap.size + 1) (by show w.heap.size + 1 < ((w.alloc _).alloc _).heap.size; simp)).trans hcx; have cb := zab hc1; have fb := zae hc1)
 all_goals
  rw [zjp] at hg1
  go_wp2_with fail
  refine zag rfl rfl (zac hc1) ?_
  exact ⟨g1, cap1, rfl, hR1.kept (zai _ _) (by simp; omega), by omega, (zhq hb1).setCell (by simp) _⟩
theorem zpx (t x : Ty) (op c : Nat) (pre post : List Nd) (g cap : Nat) (w : World) (ht : Rg g t w) (hl : sz t <= 1000000) (hx : Ok x) (hN : nd t 0 = pre ++ (nd x pre.length ++ post)) (hr : rt t 0 = ⟨op, c, pre.length + sz x - 1⟩) :
 Calls Tryz.prog 65 #[.agg #[.slice (some ⟨g, 0, none⟩) (sz t) cap]] w (TPost x w) := by
 have hpos := zau ht.ok
 have hpx := zau hx
 have hA := (ht.alloc (.cells #[.slice (some ⟨g, 0, none⟩) (sz t) cap] 33)).alloc (.cells #[.slice none 0 0] 33)
 have KK := hA.cell (sz t - 1) _ (zew t ht.ok 0)
 rw [hr] at KK
 obtain ⟨m, hm⟩ : ∃ m, m = sz t - 1 := ⟨_, rfl⟩
 rw [<- hm] at KK
 have k1 := KK.2.1
 have k2 := KK.2.2
 simp only at k1 k2
 obtain ⟨kk, hkk⟩ : ∃ kk, kk = pre.length + sz x - 1 := ⟨_, rfl⟩
 rw [<- hkk] at k2
 have HP : Hid (∀ w' : World, Rg g t w' -> Calls Tryz.prog 102 #[.agg #[.slice (some ⟨g, 0, none⟩) (sz t) cap], .int .i64 (kk : Int)] w' (TPost x w')) :=
  fun w' h' => part_any t x pre post pre.length kk g cap w' h' hl hx hN rfl (by omega)
 have hcx := heap_alloc2_new w (.cells #[.slice (some ⟨g, 0, none⟩) (sz t) cap] 33) (.cells #[.slice none 0 0] 33)
 have e1 : ((sz t : Int) - 1) = (m : Int) := by omega
 have hklt : kk < sz t := by
  have := zaj t 0
  rw [hN, List.length_append, List.length_append, zaj] at this
  omega
 have b1 : m < sz t := by omega
 have hw : IntKind.i64.wrap (m : Int) = (m : Int) := IntWalk.i64_in _ ⟨by omega, by omega⟩
 clear hN hr hkk KK hm
 go_enter Tryz.func65, Tryz.ntmps65
 go_wp2_with fail
 go_region_with (go_at_call 102; refine (HP.out _ hA.drew).mono ?_; rintro e w1 ⟨g1, cap1, rfl, hR1, hg1, hb1⟩; have hc1 : w1.heap[w.heap.size + 1]? = some (.cells #[.slice none 0 0] 33 (0, 0)) := (hb1.block (w.heap.size + 1) (by show w.heap.size + 1 < ((w.alloc _).alloc _).heap.size; simp)).trans hcx; have cb := zab hc1; have fb := zae hc1)
 all_goals
  rw [zjp] at hg1
  go_wp2_with fail
  refine zag rfl rfl (zac hc1) ?_
  exact ⟨g1, cap1, rfl, hR1.kept (zai _ _) (by simp; omega), by omega, (zhq hb1).setCell (by simp) _⟩
theorem zhj (a : Ty) (ha : Ok a) (g cap : Nat) (w : World) (ht : Rg g (tL a) w) (hl : sz (tL a) <= 1000000) : Calls Tryz.prog 64 #[.agg #[.slice (some ⟨g, 0, none⟩) (sz (tL a)) cap]] w (TPost a w) :=
 zlg (tL a) a 91 0 [] _ g cap w ht hl ha (by rw [list_nd a ha]; rfl) (by simp [rt, rtA, rtB, sgn])
theorem zby (gt : Nat) (hgt : gt = 4 \/ gt = 5) (a b : Ty) (ha : Ok a) (g cap : Nat) (w : World) (ht : Rg g (.node gt 0 () a b) w) (hl : sz (.node gt 0 () a b) <= 1000000) : Calls Tryz.prog 64 #[.agg #[.slice (some ⟨g, 0, none⟩) (sz (.node gt 0 () a b)) cap]] w (TPost a w) :=
 zlg _ a (sgn gt 0) (sz a + sz b - 1) [] _ g cap w ht hl ha (by rw [zpj gt hgt, List.append_assoc]; rfl) (by rcases hgt with rfl | rfl <;> simp [rt, rtA, rtB, sgn])
theorem zbw (gt : Nat) (hgt : gt = 4 \/ gt = 5) (a b : Ty) (hb : Ok b) (g cap : Nat) (w : World) (ht : Rg g (.node gt 0 () a b) w) (hl : sz (.node gt 0 () a b) <= 1000000) : Calls Tryz.prog 65 #[.agg #[.slice (some ⟨g, 0, none⟩) (sz (.node gt 0 () a b)) cap]] w (TPost b w) :=
 zpx _ b (sgn gt 0) (sz a - 1) (nd a 0) _ g cap w ht hl hb (by rw [zpj gt hgt, zaj, List.append_assoc]) (by rw [zaj]; rcases hgt with rfl | rfl <;> simp [rt, rtA, rtB, sgn])
def UPost (t : Ty) (w : World) (e : Ending) (w' : World) : Prop := ∃ g cap, e = .returned (.agg #[.slice (some ⟨g, 0, none⟩) (sz t) cap]) /\ Rg g t w' /\ Below w.heap.size w w'
theorem look_at : ∀ (v : List Nat) (g : List Ty) (o k : Nat) (t : Ty), (∀ (m p : Nat), m < k -> v[m]? = some p -> o ≠ p) -> v[k]? = some o -> g[k]? = some t -> look (v.zip g) o = some t := by
 intro v
 induction v with
 | nil => intro g o k t _ h; simp at h
 | cons p v ih =>
  intro g o k t hn ho ht
  cases g with
  | nil => simp at ht
  | cons u g =>
   cases k with
   | zero =>
    simp at ho ht
    subst ho
    subst ht
    simp [look]
   | succ k =>
    simp only [List.zip_cons_cons, look]
    rw [if_neg (fun e => hn 0 p (by omega) rfl e.symm)]
    exact ih g o k t (fun m q hm hq => hn (m + 1) q (by omega) (by simpa using hq)) (by simpa using ho) (by simpa using ht)
theorem look_not : ∀ (v : List Nat) (g : List Ty) (o : Nat), (∀ (m p : Nat), v[m]? = some p -> o ≠ p) -> look (v.zip g) o = none := by
 intro v
 induction v with
 | nil => intro g o _; rfl
 | cons p v ih =>
  intro g o hn
  cases g with
  | nil => rfl
  | cons u g =>
   simp only [List.zip_cons_cons, look]
   rw [if_neg (fun e => hn 0 p rfl e.symm)]
   exact ih g o (fun m q hq => hn (m + 1) q (by simpa using hq))
theorem sign_var {t : Ty} (h : Ok t) {o : Nat} (ho : 970 <= o) (e : (rt t 0).op = o + 30) : t = tV o := by
 rcases h.cases with rfl | rfl | ⟨p, _, _, rfl⟩ | ⟨a, ha, rfl⟩ | ⟨a, b, ha, hb, rfl⟩ | ⟨a, b, ha, hb, rfl⟩ <;> simp [rt, sgn] at e
 · omega
 · omega
 · subst e; rfl
 · omega
 · omega
 · omega
def zdf (t : Ty) : Prop := ∀ (v : List Nat) (ts : List Ty) (g cap : Nat) (V G : Value) (w : World), Rg g t w -> sz t <= 60000 -> Is w V (v.map (· + 30)) -> Ls w G ts -> ts.length = v.length -> v.length <= 60000 -> (∀ o ∈ v, 970 <= o) -> sz (putT v ts t) <= 50000 ->
 Calls Tryz.prog 41 #[.agg #[.slice (some ⟨g, 0, none⟩) (sz t) cap], V, G] w (UPost (putT v ts t) w)
theorem Is.below {w w' : World} {V : Value} {l : List Nat} (h : Is w V l) (hb : Below w.heap.size w w') : Is w' V l := by
 obtain ⟨a, cap, rfl, h⟩ := h
 refine ⟨a, cap, rfl, ?_⟩
 rcases h with h | ⟨g, rfl, hg, hc⟩
 · exact .inl h
 · exact .inr ⟨g, rfl, Nat.lt_of_lt_of_le hg hb.size, fun k n hk => (hb.cell (p := ⟨g, k, none⟩) hg).trans (hc k n hk)⟩
theorem Ls.below {w w' : World} {V : Value} {l : List Ty} (h : Ls w V l) (hb : Below w.heap.size w w') : Ls w' V l := by
 obtain ⟨a, cap, rfl, h⟩ := h
 refine ⟨a, cap, rfl, ?_⟩
 rcases h with h | ⟨g, rfl, hg, hc⟩
 · exact .inl h
 · refine .inr ⟨g, rfl, Nat.lt_of_lt_of_le hg hb.size, fun k t hk => ?_⟩
   obtain ⟨q, c, h1, h2⟩ := hc k t hk
   exact ⟨q, c, (hb.cell (p := ⟨g, k, none⟩) hg).trans h1, h2.below hb⟩
abbrev tbO (g n cap : Nat) : Obj := .cells #[.slice (some ⟨g, 0, none⟩) n cap] 33
abbrev rbO : Obj := .cells #[.slice none 0 0] 33
abbrev nbO (p a b : Nat) : Obj := .cells #[.int .i64 (p : Int), .int .i64 (a : Int), .int .i64 (b : Int)] 107
theorem zlr (t : Ty) (hp1 : (rt t 0).op ≠ 91) (hp2 : (rt t 0).op ≠ 42) (hp3 : (rt t 0).op ≠ 62) (hleaf : ∀ v ts, (∀ (m x : Nat), v[m]? = some x -> (rt t 0).op ≠ x + 30) -> putT v ts t = t) : zdf t := by
 intro v ts g cap V G w ht hl hv hG hlen hlv hv9 hsm
 have HVB : Hid (Is w V (v.map (· + 30))) := hv
 have HGB : Hid (Ls w G ts) := hG
 have hpos := zau ht.ok
 obtain ⟨m, hm⟩ : ∃ m, m = sz t - 1 := ⟨_, rfl⟩
 have KK := ht.cell (sz t - 1) _ (zew t ht.ok 0)
 rw [<- hm] at KK
 obtain ⟨k0, k1, k2⟩ := KK
 have e1 : ((sz t : Int) - 1) = (m : Int) := by omega
 have hwr : IntKind.i64.wrap (m : Int) = (m : Int) := IntWalk.i64_in _ ⟨by omega, by omega⟩
 have b1 : m < sz t := by omega
 obtain ⟨va, vcap, rfl, hva⟩ := hv
 obtain ⟨ga, gcap, rfl, hga⟩ := hG
 rw [List.length_map] at *
 rw [hlen]
 have lg : g < w.heap.size := ht.lt
 have HM : Hid (m = sz t - 1) := hm
 clear hm
 have HRT : Hid (rt t 0 = ⟨(rt t 0).op, (rt t 0).a, (rt t 0).b⟩) := rfl
 generalize hp : (rt t 0).op = p at *
 have HP : Hid ((rt t 0).op = p) := hp
 clear hp
 generalize (rt t 0).a = pa at *
 generalize (rt t 0).b = pb at *
 have HT : Hid (Rg g t w) := ht
 have HL : Hid (∀ v ts, (∀ (m x : Nat), v[m]? = some x -> p ≠ x + 30) -> putT v ts t = t) := hleaf
 have HV : Hid (v = [] \/ ∃ q, va = some ⟨q, 0, none⟩ /\ ∀ (k n : Nat), v[k]? = some n -> ∀ W', Below w.heap.size w W' -> W'.cell? ⟨q, k, none⟩ = some (.int .i64 ((n + 30 : Nat) : Int))) := by
  rcases hva with e | ⟨q, rfl, hq, hc⟩
  · exact .inl (by simpa using e)
  · exact .inr ⟨q, rfl, fun k n hk W' hW => (hW.cell (p := ⟨q, k, none⟩) hq).trans (hc k (n + 30) (by rw [List.getElem?_map, hk]; rfl))⟩
 have HG : Hid (ts = [] \/ ∃ q, ga = some ⟨q, 0, none⟩ /\ ∀ (k : Nat) (u : Ty), ts[k]? = some u -> ∃ h c, (∀ W', Below w.heap.size w W' -> W'.cell? ⟨q, k, none⟩ = some (.slice (some ⟨h, 0, none⟩) (sz u) c)) /\ Rg h u w) := by
  rcases hga with e | ⟨q, rfl, hq, hc⟩
  · exact .inl e
  · refine .inr ⟨q, rfl, fun k u hk => ?_⟩
    obtain ⟨h, c, h1, h2⟩ := hc k u hk
    exact ⟨h, c, fun W' hW => (hW.cell (p := ⟨q, k, none⟩) hq).trans h1, h2⟩
 have H9 : Hid (∀ o ∈ v, 970 <= o) := hv9
 clear hva hga hleaf hv9 ht
 have ep1 : ((p : Int) == 91) = false := by rw [beq_eq_false_iff_ne]; omega
 have ep2 : ((p : Int) == 42) = false := by rw [beq_eq_false_iff_ne]; omega
 have ep3 : ((p : Int) == 62) = false := by rw [beq_eq_false_iff_ne]; omega
 generalize hst : sz t = st at *
 have HZ : Hid (sz t = st) := hst
 clear hst
 generalize hvl : v.length = vl at *
 have HVL : Hid (v.length = vl) := hvl
 clear hvl
 have B0 : Below w.heap.size w (((w.alloc (tbO g st cap)).alloc rbO).alloc (nbO p pa pb)) := ((bal w _).alloc (by simp) _).alloc (by simp; omega) _
 have rb : (((w.alloc (tbO g st cap)).alloc rbO).alloc (nbO p pa pb)).heap[w.heap.size + 1]? = some (.cells #[.slice none 0 0] 33 (0, 0)) := by
  rw [Below.heap_alloc _ _ _ (by simp)]; exact heap_alloc2_new w _ _
 have tb : (((w.alloc (tbO g st cap)).alloc rbO).alloc (nbO p pa pb)).heap[w.heap.size]? = some (.cells #[.slice (some ⟨g, 0, none⟩) st cap] 33 (0, 0)) := by
  rw [Below.heap_alloc _ _ _ (by simp; omega), Below.heap_alloc _ _ _ (by simp)]; exact heap_alloc_new w _
 have nb : (((w.alloc (tbO g st cap)).alloc rbO).alloc (nbO p pa pb)).heap[w.heap.size + 2]? = some (nbO p pa pb) := by
  have := heap_alloc_new ((w.alloc (tbO g st cap)).alloc rbO) (nbO p pa pb)
  simpa using this
 go_enter Tryz.func41, Tryz.ntmps41
 go_wp2_with fail
 generalize hW : ((w.alloc (tbO g st cap)).alloc rbO).alloc (nbO p pa pb) = W at *
 have c3 := zab tb
 have cr := zab rb
 have fr := zae rb
 have n0 : W.cell? ⟨w.heap.size + 2, 0, none⟩ = some (.int .i64 (p : Int)) := cbl nb
 clear tb nb hW k0 k1 k2
 go_loopw [8] (fun j wr => ∃ q d : Nat, j = .int .i64 (q : Int) /\ q <= vl /\ Hid (∀ (i x : Nat), i < q -> v[i]? = some x -> p ≠ x + 30) /\ wr = W.drewN d) (fun j _ => vl - (intOf j).toNat)
 case atStart => exact ⟨0, 0, rfl, Nat.zero_le _, fun i x hi => absurd hi (by omega), rfl⟩
 case round =>
  obtain ⟨q, d, rfl, hq, HU, rfl⟩ := hrel
  rcases Nat.lt_or_ge q vl with hlt2 | hge2
  · obtain ⟨x, hx⟩ : ∃ x, v[q]? = some x := ⟨_, List.getElem?_eq_getElem (by rw [HVL.out]; exact hlt2)⟩
    obtain ⟨u, hu⟩ : ∃ u, ts[q]? = some u := ⟨_, List.getElem?_eq_getElem (by omega)⟩
    obtain ⟨qv, rfl, hqv⟩ : ∃ qv, va = some ⟨qv, 0, none⟩ /\ W.cell? ⟨qv, q, none⟩ = some (.int .i64 ((x + 30 : Nat) : Int)) := by
     rcases HV.out with e | ⟨qv, e, hc⟩
     · rw [e] at hx; simp at hx
     · exact ⟨qv, e, hc q x hx W B0⟩
    obtain ⟨qg, hh, cc, rfl, hqg, hRu⟩ : ∃ qg hh cc, ga = some ⟨qg, 0, none⟩ /\ W.cell? ⟨qg, q, none⟩ = some (.slice (some ⟨hh, 0, none⟩) (sz u) cc) /\ Rg hh u w := by
     rcases HG.out with e | ⟨qg, e, hc⟩
     · rw [e] at hu; simp at hu
     · obtain ⟨hh, cc, h1, h2⟩ := hc q u hu
       exact ⟨qg, hh, cc, e, h1 W B0, h2⟩
    have HX : Hid (v[q]? = some x) := hx
    have HU2 : Hid (ts[q]? = some u) := hu
    obtain ⟨y, hy⟩ : ∃ y, y = x + 30 := ⟨_, rfl⟩
    rw [<- hy] at hqv
    have HY : Hid (y = x + 30) := hy
    clear hx hu hy
    by_cases hpy : p = y
    · have HO : Hid (putT v ts t = u) := by
       have e0 : t = tV x := sign_var HT.out.ok (H9.out x (List.mem_of_getElem? HX.out)) (by rw [HP.out, hpy]; exact HY.out)
       have e1 := look_at v ts x q u (fun m r hm hr e => HU.out m r hm hr (by rw [hpy, HY.out, e])) HX.out HU2.out
       show sub _ t = u
       rw [e0]
       show (look (v.zip ts) x).getD (tV x) = u
       rw [e1]; rfl
      have e1 : ((p : Int) == (y : Int)) = true := by rw [hpy]; simp
      have HRu : Hid (Rg hh u w) := hRu
      clear hpy hRu
      go_wp2_with fail
      go_quiet (fail)
      go_wp2_with fail
      refine zag rfl rfl (zac (w := W.drewN _) rb) ?_
      rw [HO.out]
      exact ⟨hh, cc, rfl, (HRu.out.below (below_drewN B0 _)).kept (zai _ _) (by have := HRu.out.lt; simp; omega), (below_drewN B0 _).setCell (by simp) _⟩
    · have e1 : ((p : Int) == (y : Int)) = false := by rw [beq_eq_false_iff_ne]; omega
      have HM2 : Hid (∀ (i z : Nat), i < q + 1 -> v[i]? = some z -> p ≠ z + 30) := by
       intro i z hi hz
       rcases Nat.lt_or_ge i q with h1 | h1
       · exact HU.out i z h1 hz
       · obtain rfl : i = q := by omega
         rw [HX.out] at hz
         obtain rfl := Option.some.inj hz
         rw [<- HY.out]; exact hpy
      clear hpy hRu
      go_wp2_with fail
      go_quiet (fail)
      go_wp2_with fail
      go_roundw
      case rel => exact ⟨q + 1, _, by simp, by omega, HM2, rfl⟩
      case measure => simp [intOf]; omega
  · obtain rfl : q = vl := by omega
    have HO : Hid (putT v ts t = t) := HL.out v ts (fun i x hx => HU.out i x (by have := (List.getElem?_eq_some_iff.1 hx).1; have := HVL.out; omega) hx)
    go_wp2_with fail
    refine zag rfl rfl (zac (w := W.drewN _) rb) ?_
    rw [HO.out]
    exact ⟨g, cap, by rw [HZ.out], (HT.out.below (below_drewN B0 _)).kept (zai _ _) (by have := HT.out.lt; simp; omega), (below_drewN B0 _).setCell (by simp) _⟩
theorem put_list (a : Ty) (ha0 : Ok a) (ih0 : zdf a) : zdf (tL a) := by
 intro v ts g cap V G w ht hl hv hG hlen hlv hv9 hsm
 have HVB : Hid (Is w V (v.map (· + 30))) := hv
 have HGB : Hid (Ls w G ts) := hG
 have hrt : (rt (tL a) 0).op = 91 := by rfl
 have s1 : sz (tL a) = sz a + 1 := by simp [sz]
 have s2 : sz (putT v ts (tL a)) = sz (putT v ts a) + 1 := by
  show sz (tL (sub _ a)) = _
  simp [sz, putT]
 have PA0 : Hid (∀ g1 cap1 w1, Below w.heap.size w w1 -> Rg g1 a w1 -> Calls Tryz.prog 41 #[.agg #[.slice (some ⟨g1, 0, none⟩) (sz a) cap1], V, G] w1 (UPost (putT v ts a) w1)) :=
  fun g1 cap1 w1 hb hr => ih0 v ts g1 cap1 V G w1 hr (by omega) (hv.below hb) (hG.below hb) hlen hlv hv9 (by omega)
 have F0 : Hid (∀ X, Rg g (tL a) X -> Calls Tryz.prog 64 #[.agg #[.slice (some ⟨g, 0, none⟩) (sz (tL a)) cap]] X (TPost a X)) := fun X hr => zhj a ha0 g cap X hr (by omega)
 have L0 : Hid (∀ g2 cap2 X, Rg g2 (putT v ts a) X -> Calls Tryz.prog 66 #[.agg #[.slice (some ⟨g2, 0, none⟩) (sz (putT v ts a)) cap2]] X (TPost (tL (putT v ts a)) X)) := fun g2 cap2 X hr => list_any _ g2 cap2 X hr (by omega)
 have HR0 : Hid (putT v ts (tL a) = tL (putT v ts a)) := rfl
 clear ih0 ha0 s1 s2
 generalize htt : (tL a : Ty) = t at *
 have hpos := zau ht.ok
 obtain ⟨m, hm⟩ : ∃ m, m = sz t - 1 := ⟨_, rfl⟩
 have KK := ht.cell (sz t - 1) _ (zew t ht.ok 0)
 rw [<- hm] at KK
 obtain ⟨k0, k1, k2⟩ := KK
 have e1 : ((sz t : Int) - 1) = (m : Int) := by omega
 have hwr : IntKind.i64.wrap (m : Int) = (m : Int) := IntWalk.i64_in _ ⟨by omega, by omega⟩
 have b1 : m < sz t := by omega
 obtain ⟨va, vcap, rfl, hva⟩ := hv
 obtain ⟨ga, gcap, rfl, hga⟩ := hG
 rw [List.length_map] at *
 rw [hlen] at PA0 ⊢
 have lg : g < w.heap.size := ht.lt
 have HM : Hid (m = sz t - 1) := hm
 clear hm
 rw [hrt] at k0
 generalize (rt t 0).a = pa at *
 generalize (rt t 0).b = pb at *
 have HT : Hid (Rg g t w) := ht
 have HV : Hid (v = [] \/ ∃ q, va = some ⟨q, 0, none⟩ /\ ∀ (k n : Nat), v[k]? = some n -> 970 <= n /\ ∀ W', Below w.heap.size w W' -> W'.cell? ⟨q, k, none⟩ = some (.int .i64 ((n + 30 : Nat) : Int))) := by
  rcases hva with e | ⟨q, rfl, hq, hc⟩
  · exact .inl (by simpa using e)
  · exact .inr ⟨q, rfl, fun k n hk => ⟨hv9 n (List.mem_of_getElem? hk), fun W' hW => (hW.cell (p := ⟨q, k, none⟩) hq).trans (hc k (n + 30) (by rw [List.getElem?_map, hk]; rfl))⟩⟩
 have HTT : Hid ((tL a : Ty) = t) := htt
 clear hva hga hv9 ht hsm htt hrt
 generalize hst : sz t = st at *
 have HZ : Hid (sz t = st) := hst
 clear hst
 generalize hvl : v.length = vl at *
 have HVL : Hid (v.length = vl) := hvl
 clear hvl
 have B0 : Below w.heap.size w (((w.alloc (tbO g st cap)).alloc rbO).alloc (nbO 91 pa pb)) := ((bal w _).alloc (by simp) _).alloc (by simp; omega) _
 have rb : (((w.alloc (tbO g st cap)).alloc rbO).alloc (nbO 91 pa pb)).heap[w.heap.size + 1]? = some (.cells #[.slice none 0 0] 33 (0, 0)) := by
  rw [Below.heap_alloc _ _ _ (by simp)]; exact heap_alloc2_new w _ _
 have tb : (((w.alloc (tbO g st cap)).alloc rbO).alloc (nbO 91 pa pb)).heap[w.heap.size]? = some (.cells #[.slice (some ⟨g, 0, none⟩) st cap] 33 (0, 0)) := by
  rw [Below.heap_alloc _ _ _ (by simp; omega), Below.heap_alloc _ _ _ (by simp)]; exact heap_alloc_new w _
 have nb : (((w.alloc (tbO g st cap)).alloc rbO).alloc (nbO 91 pa pb)).heap[w.heap.size + 2]? = some (nbO 91 pa pb) := by
  have := heap_alloc_new ((w.alloc (tbO g st cap)).alloc rbO) (nbO 91 pa pb)
  simpa using this
 go_enter Tryz.func41, Tryz.ntmps41
 go_wp2_with fail
 generalize hW : ((w.alloc (tbO g st cap)).alloc rbO).alloc (nbO 91 pa pb) = W at *
 have c3 := zab tb
 have n0 : W.cell? ⟨w.heap.size + 2, 0, none⟩ = some (.int .i64 (91 : Int)) := cbl nb
 have hws : W.heap.size = w.heap.size + 3 := by rw [<- hW]; simp
 clear tb nb hW k0 k1 k2
 go_loopw [8] (fun j wr => ∃ q d : Nat, j = .int .i64 (q : Int) /\ q <= vl /\ wr = W.drewN d) (fun j _ => vl - (intOf j).toNat)
 case atStart => exact ⟨0, 0, rfl, Nat.zero_le _, rfl⟩
 case round =>
  obtain ⟨q, d, rfl, hq, rfl⟩ := hrel
  rcases Nat.lt_or_ge q vl with hlt2 | hge2
  · obtain ⟨x, hx⟩ : ∃ x, v[q]? = some x := ⟨_, List.getElem?_eq_getElem (by rw [HVL.out]; exact hlt2)⟩
    obtain ⟨qv, rfl, h9, hqv⟩ : ∃ qv, va = some ⟨qv, 0, none⟩ /\ 970 <= x /\ W.cell? ⟨qv, q, none⟩ = some (.int .i64 ((x + 30 : Nat) : Int)) := by
     rcases HV.out with e | ⟨qv, e, hc⟩
     · rw [e] at hx; simp at hx
     · exact ⟨qv, e, (hc q x hx).1, (hc q x hx).2 W B0⟩
    obtain ⟨y, hy⟩ : ∃ y, y = x + 30 := ⟨_, rfl⟩
    rw [<- hy] at hqv
    have e1 : ((91 : Int) == (y : Int)) = false := by rw [beq_eq_false_iff_ne]; omega
    clear hx hy h9
    go_wp2_with fail
    go_quiet (fail)
    go_wp2_with fail
    go_roundw
    case rel => exact ⟨q + 1, _, by simp, by omega, rfl⟩
    case measure => simp [intOf]; omega
  · obtain rfl : q = vl := by omega
    have B1 : Below w.heap.size w (W.drewN d) := below_drewN B0 d
    have rb1 : (W.drewN d).heap[w.heap.size + 1]? = some (.cells #[.slice none 0 0] 33 (0, 0)) := rb
    have c31 : (W.drewN d).cell? ⟨w.heap.size, 0, none⟩ = some (.slice (some ⟨g, 0, none⟩) q cap) -> True := fun _ => trivial
    have n01 : (W.drewN d).cell? ⟨w.heap.size + 2, 0, none⟩ = some (.int .i64 (91 : Int)) := n0
    have c32 : (W.drewN d).cell? ⟨w.heap.size, 0, none⟩ = some (.slice (some ⟨g, 0, none⟩) st cap) := c3
    have hws1 : (W.drewN d).heap.size = w.heap.size + 3 := hws
    clear c3 n0 rb hws c31
    generalize W.drewN d = X at *
    have F := F0.out X (HT.out.below B1)
    go_wp2_with fail
    refine F.mono ?_
    rintro e w1 ⟨g1, cap1, rfl, R1, hg1, b1⟩
    have B2 := B1.trans (b1.mono B1.size)
    have rb2 : w1.heap[w.heap.size + 1]? = some (.cells #[.slice none 0 0] 33 (0, 0)) := (b1.block _ (by omega)).trans rb1
    have PA := PA0.out g1 cap1 w1 B2 R1
    clear F rb1 n01 c32
    go_wp2_with fail
    refine PA.mono ?_
    rintro e w2 ⟨g2, cap2, rfl, R2, b2⟩
    have B3 := B2.trans (b2.mono B2.size)
    have hs2 := b1.size
    have rb3 : w2.heap[w.heap.size + 1]? = some (.cells #[.slice none 0 0] 33 (0, 0)) := (b2.block _ (by omega)).trans rb2
    have LI := L0.out g2 cap2 w2 R2
    clear PA rb2
    go_wp2_with fail
    refine LI.mono ?_
    rintro e w3 ⟨g3, cap3, rfl, R3, hg3, b3⟩
    have B4 := B3.trans (b3.mono B3.size)
    have hs3 := b2.size
    have rb4 : w3.heap[w.heap.size + 1]? = some (.cells #[.slice none 0 0] 33 (0, 0)) := (b3.block _ (by omega)).trans rb3
    have cr := zab rb4
    have fr := zae rb4
    clear LI rb3
    go_wp2_with fail
    refine zag rfl rfl (zac rb4) ?_
    rw [HR0.out]
    exact ⟨g3, cap3, rfl, R3.kept (zai _ _) (by simp; omega), B4.setCell (by simp) _⟩
theorem zdo {X Y : World} (h : Below X.drew.heap.size X.drew Y) : Below X.heap.size X Y := ⟨h.os, h.tape, h.output, h.size, h.block⟩
theorem put_P (a b : Ty) (ha0 : Ok a) (hb0 : Ok b) (ih0 : zdf a) (ih1 : zdf b) : zdf (tP a b) := by
 intro v ts g cap V G w ht hl hv hG hlen hlv hv9 hsm
 have HVB : Hid (Is w V (v.map (· + 30))) := hv
 have HGB : Hid (Ls w G ts) := hG
 have hrt : (rt (tP a b) 0).op = 42 := by rfl
 have s1 : sz (tP a b) = sz a + sz b + 1 := rfl
 have s2 : sz (putT v ts (tP a b)) = sz (putT v ts a) + sz (putT v ts b) + 1 := rfl
 have PA0 : Hid (∀ g1 cap1 w1, Below w.heap.size w w1 -> Rg g1 a w1 -> Calls Tryz.prog 41 #[.agg #[.slice (some ⟨g1, 0, none⟩) (sz a) cap1], V, G] w1 (UPost (putT v ts a) w1)) :=
  fun g1 cap1 w1 hb hr => ih0 v ts g1 cap1 V G w1 hr (by omega) (hv.below hb) (hG.below hb) hlen hlv hv9 (by omega)
 have PB0 : Hid (∀ g1 cap1 w1, Below w.heap.size w w1 -> Rg g1 b w1 -> Calls Tryz.prog 41 #[.agg #[.slice (some ⟨g1, 0, none⟩) (sz b) cap1], V, G] w1 (UPost (putT v ts b) w1)) :=
  fun g1 cap1 w1 hb hr => ih1 v ts g1 cap1 V G w1 hr (by omega) (hv.below hb) (hG.below hb) hlen hlv hv9 (by omega)
 have F0 : Hid (∀ X, Rg g (tP a b) X -> Calls Tryz.prog 64 #[.agg #[.slice (some ⟨g, 0, none⟩) (sz (tP a b)) cap]] X (TPost a X)) := fun X hr => zby 4 (by decide) a b ha0 g cap X hr (Nat.le_trans hl (by decide))
 have S0 : Hid (∀ X, Rg g (tP a b) X -> Calls Tryz.prog 65 #[.agg #[.slice (some ⟨g, 0, none⟩) (sz (tP a b)) cap]] X (TPost b X)) := fun X hr => zbw 4 (by decide) a b hb0 g cap X hr (Nat.le_trans hl (by decide))
 have L0 : Hid (∀ g2 cap2 g4 cap4 X, Rg g2 (putT v ts a) X -> Rg g4 (putT v ts b) X -> Calls Tryz.prog 67 #[.int .i64 42, .agg #[.slice (some ⟨g2, 0, none⟩) (sz (putT v ts a)) cap2], .agg #[.slice (some ⟨g4, 0, none⟩) (sz (putT v ts b)) cap4]] X (TPost (tP (putT v ts a) (putT v ts b)) X)) := fun g2 cap2 g4 cap4 X hr hr' => zgr 4 (by decide) _ _ g2 cap2 g4 cap4 X hr hr' (by omega) (by omega)
 have HR0 : Hid (putT v ts (tP a b) = tP (putT v ts a) (putT v ts b)) := rfl
 clear ih0 ih1 ha0 hb0 s1 s2
 generalize htt : (tP a b : Ty) = t at *
 have hpos := zau ht.ok
 obtain ⟨m, hm⟩ : ∃ m, m = sz t - 1 := ⟨_, rfl⟩
 have KK := ht.cell (sz t - 1) _ (zew t ht.ok 0)
 rw [<- hm] at KK
 obtain ⟨k0, k1, k2⟩ := KK
 have e1 : ((sz t : Int) - 1) = (m : Int) := by omega
 have hwr : IntKind.i64.wrap (m : Int) = (m : Int) := IntWalk.i64_in _ ⟨by omega, by omega⟩
 have b1 : m < sz t := by omega
 obtain ⟨va, vcap, rfl, hva⟩ := hv
 obtain ⟨ga, gcap, rfl, hga⟩ := hG
 rw [List.length_map] at *
 rw [hlen] at PA0 PB0 ⊢
 have lg : g < w.heap.size := ht.lt
 have HM : Hid (m = sz t - 1) := hm
 clear hm
 rw [hrt] at k0
 generalize (rt t 0).a = pa at *
 generalize (rt t 0).b = pb at *
 have HT : Hid (Rg g t w) := ht
 have HV : Hid (v = [] \/ ∃ q, va = some ⟨q, 0, none⟩ /\ ∀ (k n : Nat), v[k]? = some n -> 970 <= n /\ ∀ W', Below w.heap.size w W' -> W'.cell? ⟨q, k, none⟩ = some (.int .i64 ((n + 30 : Nat) : Int))) := by
  rcases hva with e | ⟨q, rfl, hq, hc⟩
  · exact .inl (by simpa using e)
  · exact .inr ⟨q, rfl, fun k n hk => ⟨hv9 n (List.mem_of_getElem? hk), fun W' hW => (hW.cell (p := ⟨q, k, none⟩) hq).trans (hc k (n + 30) (by rw [List.getElem?_map, hk]; rfl))⟩⟩
 have HTT : Hid ((tP a b : Ty) = t) := htt
 clear hva hga hv9 ht hsm htt hrt
 generalize hst : sz t = st at *
 have HZ : Hid (sz t = st) := hst
 clear hst
 generalize hvl : v.length = vl at *
 have HVL : Hid (v.length = vl) := hvl
 clear hvl
 have B0 : Below w.heap.size w (((w.alloc (tbO g st cap)).alloc rbO).alloc (nbO 42 pa pb)) := ((bal w _).alloc (by simp) _).alloc (by simp; omega) _
 have rb : (((w.alloc (tbO g st cap)).alloc rbO).alloc (nbO 42 pa pb)).heap[w.heap.size + 1]? = some (.cells #[.slice none 0 0] 33 (0, 0)) := by
  rw [Below.heap_alloc _ _ _ (by simp)]; exact heap_alloc2_new w _ _
 have tb : (((w.alloc (tbO g st cap)).alloc rbO).alloc (nbO 42 pa pb)).heap[w.heap.size]? = some (.cells #[.slice (some ⟨g, 0, none⟩) st cap] 33 (0, 0)) := by
  rw [Below.heap_alloc _ _ _ (by simp; omega), Below.heap_alloc _ _ _ (by simp)]; exact heap_alloc_new w _
 have nb : (((w.alloc (tbO g st cap)).alloc rbO).alloc (nbO 42 pa pb)).heap[w.heap.size + 2]? = some (nbO 42 pa pb) := by
  have := heap_alloc_new ((w.alloc (tbO g st cap)).alloc rbO) (nbO 42 pa pb)
  simpa using this
 go_enter Tryz.func41, Tryz.ntmps41
 go_wp2_with fail
 generalize hW : ((w.alloc (tbO g st cap)).alloc rbO).alloc (nbO 42 pa pb) = W at *
 have c3 := zab tb
 have n0 : W.cell? ⟨w.heap.size + 2, 0, none⟩ = some (.int .i64 (42 : Int)) := cbl nb
 have hws : W.heap.size = w.heap.size + 3 := by rw [<- hW]; simp
 clear tb nb hW k0 k1 k2
 go_loopw [8] (fun j wr => ∃ q d : Nat, j = .int .i64 (q : Int) /\ q <= vl /\ wr = W.drewN d) (fun j _ => vl - (intOf j).toNat)
 case atStart => exact ⟨0, 0, rfl, Nat.zero_le _, rfl⟩
 case round =>
  obtain ⟨q, d, rfl, hq, rfl⟩ := hrel
  rcases Nat.lt_or_ge q vl with hlt2 | hge2
  · obtain ⟨x, hx⟩ : ∃ x, v[q]? = some x := ⟨_, List.getElem?_eq_getElem (by rw [HVL.out]; exact hlt2)⟩
    obtain ⟨qv, rfl, h9, hqv⟩ : ∃ qv, va = some ⟨qv, 0, none⟩ /\ 970 <= x /\ W.cell? ⟨qv, q, none⟩ = some (.int .i64 ((x + 30 : Nat) : Int)) := by
     rcases HV.out with e | ⟨qv, e, hc⟩
     · rw [e] at hx; simp at hx
     · exact ⟨qv, e, (hc q x hx).1, (hc q x hx).2 W B0⟩
    obtain ⟨y, hy⟩ : ∃ y, y = x + 30 := ⟨_, rfl⟩
    rw [<- hy] at hqv
    have e1 : ((42 : Int) == (y : Int)) = false := by rw [beq_eq_false_iff_ne]; omega
    clear hx hy h9
    go_wp2_with fail
    go_quiet (fail)
    go_wp2_with fail
    go_roundw
    case rel => exact ⟨q + 1, _, by simp, by omega, rfl⟩
    case measure => simp [intOf]; omega
  · obtain rfl : q = vl := by omega
    have B1 : Below w.heap.size w (W.drewN d) := below_drewN B0 d
    have rb1 : (W.drewN d).heap[w.heap.size + 1]? = some (.cells #[.slice none 0 0] 33 (0, 0)) := rb
    have c31 : (W.drewN d).cell? ⟨w.heap.size, 0, none⟩ = some (.slice (some ⟨g, 0, none⟩) q cap) -> True := fun _ => trivial
    have n01 : (W.drewN d).cell? ⟨w.heap.size + 2, 0, none⟩ = some (.int .i64 (42 : Int)) := n0
    have c32 : (W.drewN d).cell? ⟨w.heap.size, 0, none⟩ = some (.slice (some ⟨g, 0, none⟩) st cap) := c3
    have hws1 : (W.drewN d).heap.size = w.heap.size + 3 := hws
    clear c3 n0 rb hws c31
    generalize W.drewN d = X at *
    have RT : Rg g t X := HT.out.below B1
    have q1 := c32
    have q2 := n01
    have HB1 : Hid (Below w.heap.size w X) := B1
    have hrb := rb1
    go_wp2_with fail
    go_region_held3 (fun wq => wq.cell? ⟨w.heap.size, 0, none⟩ = some (.slice (some ⟨g, 0, none⟩) st cap) /\ wq.cell? ⟨w.heap.size + 2, 0, none⟩ = some (.int .i64 (42 : Int)))
     (first | (go_keep; done) | (go_split_ands; exact ⟨q1, q2⟩))
     (first
      | (go_at_call 65; refine (S0.out _ ((RT.below b1).below b2)).mono ?_; rintro e w3 ⟨g3, cap3, rfl, R3, hg3, b3⟩; (have s3 := b3.size); (have q1 := (b3.cell (p := ⟨w.heap.size, 0, none⟩) (by show w.heap.size < _; omega)).trans q1); (have q2 := (b3.cell (p := ⟨w.heap.size + 2, 0, none⟩) (by show w.heap.size + 2 < _; omega)).trans q2))
      | (go_at_call 64; refine (F0.out _ RT.drew).mono ?_; rintro e w1 ⟨g1, cap1, rfl, R1, hg1, b1'⟩; (have b1 := zdo b1'); (have s1 := b1.size); (have q1 := (b1.cell (p := ⟨w.heap.size, 0, none⟩) (by show w.heap.size < _; omega)).trans q1); (have q2 := (b1.cell (p := ⟨w.heap.size + 2, 0, none⟩) (by show w.heap.size + 2 < _; omega)).trans q2))
      | (go_at_call 41; (have hR3 := R3); refine (PB0.out g3 cap3 w3 (((HB1.out.trans (b1.mono HB1.out.size)).trans (b2.mono (by omega))).trans (b3.mono (by omega))) R3).mono ?_; rintro e w4 ⟨g4, cap4, rfl, R4, b4⟩; (have s4 := b4.size); (have q1 := (b4.cell (p := ⟨w.heap.size, 0, none⟩) (by show w.heap.size < _; omega)).trans q1); (have q2 := (b4.cell (p := ⟨w.heap.size + 2, 0, none⟩) (by show w.heap.size + 2 < _; omega)).trans q2))
      | (go_at_call 41; refine (PA0.out g1 cap1 w1 (HB1.out.trans (b1.mono HB1.out.size)) R1).mono ?_; rintro e w2 ⟨g2, cap2, rfl, R2, b2⟩; (have s2 := b2.size); (have q1 := (b2.cell (p := ⟨w.heap.size, 0, none⟩) (by show w.heap.size < _; omega)).trans q1); (have q2 := (b2.cell (p := ⟨w.heap.size + 2, 0, none⟩) (by show w.heap.size + 2 < _; omega)).trans q2))
      | (go_at_call 67; refine (L0.out g2 cap2 g4 cap4 w4 ((R2.below b3).below b4) R4).mono ?_; rintro e w5 ⟨g5, cap5, rfl, R5, hg5, b5⟩; (have s5 := b5.size); (have rb5 : w5.heap[w.heap.size + 1]? = some (.cells #[.slice none 0 0] 33 (0, 0)) := (b5.block _ (by omega)).trans ((b4.block _ (by omega)).trans ((b3.block _ (by omega)).trans ((b2.block _ (by omega)).trans ((b1.block _ (by omega)).trans hrb))))); (have cr := zab rb5); (have fr := zae rb5); (have q1 := (b5.cell (p := ⟨w.heap.size, 0, none⟩) (by show w.heap.size < _; omega)).trans q1); (have q2 := (b5.cell (p := ⟨w.heap.size + 2, 0, none⟩) (by show w.heap.size + 2 < _; omega)).trans q2)))
    go_wp2_with fail
    refine zag rfl rfl (zac rb5) ?_
    rw [HR0.out]
    exact ⟨g5, cap5, rfl, R5.kept (zai _ _) (by simp; omega), (((((HB1.out.trans (b1.mono HB1.out.size)).trans (b2.mono (by omega))).trans (b3.mono (by omega))).trans (b4.mono (by omega))).trans (b5.mono (by omega))).setCell (by simp) _⟩
theorem put_F (a b : Ty) (ha0 : Ok a) (hb0 : Ok b) (ih0 : zdf a) (ih1 : zdf b) : zdf (tF a b) := by
 intro v ts g cap V G w ht hl hv hG hlen hlv hv9 hsm
 have HVB : Hid (Is w V (v.map (· + 30))) := hv
 have HGB : Hid (Ls w G ts) := hG
 have hrt : (rt (tF a b) 0).op = 62 := by rfl
 have s1 : sz (tF a b) = sz a + sz b + 1 := rfl
 have s2 : sz (putT v ts (tF a b)) = sz (putT v ts a) + sz (putT v ts b) + 1 := rfl
 have PA0 : Hid (∀ g1 cap1 w1, Below w.heap.size w w1 -> Rg g1 a w1 -> Calls Tryz.prog 41 #[.agg #[.slice (some ⟨g1, 0, none⟩) (sz a) cap1], V, G] w1 (UPost (putT v ts a) w1)) :=
  fun g1 cap1 w1 hb hr => ih0 v ts g1 cap1 V G w1 hr (by omega) (hv.below hb) (hG.below hb) hlen hlv hv9 (by omega)
 have PB0 : Hid (∀ g1 cap1 w1, Below w.heap.size w w1 -> Rg g1 b w1 -> Calls Tryz.prog 41 #[.agg #[.slice (some ⟨g1, 0, none⟩) (sz b) cap1], V, G] w1 (UPost (putT v ts b) w1)) :=
  fun g1 cap1 w1 hb hr => ih1 v ts g1 cap1 V G w1 hr (by omega) (hv.below hb) (hG.below hb) hlen hlv hv9 (by omega)
 have F0 : Hid (∀ X, Rg g (tF a b) X -> Calls Tryz.prog 64 #[.agg #[.slice (some ⟨g, 0, none⟩) (sz (tF a b)) cap]] X (TPost a X)) := fun X hr => zby 5 (by decide) a b ha0 g cap X hr (Nat.le_trans hl (by decide))
 have S0 : Hid (∀ X, Rg g (tF a b) X -> Calls Tryz.prog 65 #[.agg #[.slice (some ⟨g, 0, none⟩) (sz (tF a b)) cap]] X (TPost b X)) := fun X hr => zbw 5 (by decide) a b hb0 g cap X hr (Nat.le_trans hl (by decide))
 have L0 : Hid (∀ g2 cap2 g4 cap4 X, Rg g2 (putT v ts a) X -> Rg g4 (putT v ts b) X -> Calls Tryz.prog 67 #[.int .i64 62, .agg #[.slice (some ⟨g2, 0, none⟩) (sz (putT v ts a)) cap2], .agg #[.slice (some ⟨g4, 0, none⟩) (sz (putT v ts b)) cap4]] X (TPost (tF (putT v ts a) (putT v ts b)) X)) := fun g2 cap2 g4 cap4 X hr hr' => zgr 5 (by decide) _ _ g2 cap2 g4 cap4 X hr hr' (by omega) (by omega)
 have HR0 : Hid (putT v ts (tF a b) = tF (putT v ts a) (putT v ts b)) := rfl
 clear ih0 ih1 ha0 hb0 s1 s2
 generalize htt : (tF a b : Ty) = t at *
 have hpos := zau ht.ok
 obtain ⟨m, hm⟩ : ∃ m, m = sz t - 1 := ⟨_, rfl⟩
 have KK := ht.cell (sz t - 1) _ (zew t ht.ok 0)
 rw [<- hm] at KK
 obtain ⟨k0, k1, k2⟩ := KK
 have e1 : ((sz t : Int) - 1) = (m : Int) := by omega
 have hwr : IntKind.i64.wrap (m : Int) = (m : Int) := IntWalk.i64_in _ ⟨by omega, by omega⟩
 have b1 : m < sz t := by omega
 obtain ⟨va, vcap, rfl, hva⟩ := hv
 obtain ⟨ga, gcap, rfl, hga⟩ := hG
 rw [List.length_map] at *
 rw [hlen] at PA0 PB0 ⊢
 have lg : g < w.heap.size := ht.lt
 have HM : Hid (m = sz t - 1) := hm
 clear hm
 rw [hrt] at k0
 generalize (rt t 0).a = pa at *
 generalize (rt t 0).b = pb at *
 have HT : Hid (Rg g t w) := ht
 have HV : Hid (v = [] \/ ∃ q, va = some ⟨q, 0, none⟩ /\ ∀ (k n : Nat), v[k]? = some n -> 970 <= n /\ ∀ W', Below w.heap.size w W' -> W'.cell? ⟨q, k, none⟩ = some (.int .i64 ((n + 30 : Nat) : Int))) := by
  rcases hva with e | ⟨q, rfl, hq, hc⟩
  · exact .inl (by simpa using e)
  · exact .inr ⟨q, rfl, fun k n hk => ⟨hv9 n (List.mem_of_getElem? hk), fun W' hW => (hW.cell (p := ⟨q, k, none⟩) hq).trans (hc k (n + 30) (by rw [List.getElem?_map, hk]; rfl))⟩⟩
 have HTT : Hid ((tF a b : Ty) = t) := htt
 clear hva hga hv9 ht hsm htt hrt
 generalize hst : sz t = st at *
 have HZ : Hid (sz t = st) := hst
 clear hst
 generalize hvl : v.length = vl at *
 have HVL : Hid (v.length = vl) := hvl
 clear hvl
 have B0 : Below w.heap.size w (((w.alloc (tbO g st cap)).alloc rbO).alloc (nbO 62 pa pb)) := ((bal w _).alloc (by simp) _).alloc (by simp; omega) _
 have rb : (((w.alloc (tbO g st cap)).alloc rbO).alloc (nbO 62 pa pb)).heap[w.heap.size + 1]? = some (.cells #[.slice none 0 0] 33 (0, 0)) := by
  rw [Below.heap_alloc _ _ _ (by simp)]; exact heap_alloc2_new w _ _
 have tb : (((w.alloc (tbO g st cap)).alloc rbO).alloc (nbO 62 pa pb)).heap[w.heap.size]? = some (.cells #[.slice (some ⟨g, 0, none⟩) st cap] 33 (0, 0)) := by
  rw [Below.heap_alloc _ _ _ (by simp; omega), Below.heap_alloc _ _ _ (by simp)]; exact heap_alloc_new w _
 have nb : (((w.alloc (tbO g st cap)).alloc rbO).alloc (nbO 62 pa pb)).heap[w.heap.size + 2]? = some (nbO 62 pa pb) := by
  have := heap_alloc_new ((w.alloc (tbO g st cap)).alloc rbO) (nbO 62 pa pb)
  simpa using this
 go_enter Tryz.func41, Tryz.ntmps41
 go_wp2_with fail
 generalize hW : ((w.alloc (tbO g st cap)).alloc rbO).alloc (nbO 62 pa pb) = W at *
 have c3 := zab tb
 have n0 : W.cell? ⟨w.heap.size + 2, 0, none⟩ = some (.int .i64 (62 : Int)) := cbl nb
 have hws : W.heap.size = w.heap.size + 3 := by rw [<- hW]; simp
 clear tb nb hW k0 k1 k2
 go_loopw [8] (fun j wr => ∃ q d : Nat, j = .int .i64 (q : Int) /\ q <= vl /\ wr = W.drewN d) (fun j _ => vl - (intOf j).toNat)
 case atStart => exact ⟨0, 0, rfl, Nat.zero_le _, rfl⟩
 case round =>
  obtain ⟨q, d, rfl, hq, rfl⟩ := hrel
  rcases Nat.lt_or_ge q vl with hlt2 | hge2
  · obtain ⟨x, hx⟩ : ∃ x, v[q]? = some x := ⟨_, List.getElem?_eq_getElem (by rw [HVL.out]; exact hlt2)⟩
    obtain ⟨qv, rfl, h9, hqv⟩ : ∃ qv, va = some ⟨qv, 0, none⟩ /\ 970 <= x /\ W.cell? ⟨qv, q, none⟩ = some (.int .i64 ((x + 30 : Nat) : Int)) := by
     rcases HV.out with e | ⟨qv, e, hc⟩
     · rw [e] at hx; simp at hx
     · exact ⟨qv, e, (hc q x hx).1, (hc q x hx).2 W B0⟩
    obtain ⟨y, hy⟩ : ∃ y, y = x + 30 := ⟨_, rfl⟩
    rw [<- hy] at hqv
    have e1 : ((62 : Int) == (y : Int)) = false := by rw [beq_eq_false_iff_ne]; omega
    clear hx hy h9
    go_wp2_with fail
    go_quiet (fail)
    go_wp2_with fail
    go_roundw
    case rel => exact ⟨q + 1, _, by simp, by omega, rfl⟩
    case measure => simp [intOf]; omega
  · obtain rfl : q = vl := by omega
    have B1 : Below w.heap.size w (W.drewN d) := below_drewN B0 d
    have rb1 : (W.drewN d).heap[w.heap.size + 1]? = some (.cells #[.slice none 0 0] 33 (0, 0)) := rb
    have c31 : (W.drewN d).cell? ⟨w.heap.size, 0, none⟩ = some (.slice (some ⟨g, 0, none⟩) q cap) -> True := fun _ => trivial
    have n01 : (W.drewN d).cell? ⟨w.heap.size + 2, 0, none⟩ = some (.int .i64 (62 : Int)) := n0
    have c32 : (W.drewN d).cell? ⟨w.heap.size, 0, none⟩ = some (.slice (some ⟨g, 0, none⟩) st cap) := c3
    have hws1 : (W.drewN d).heap.size = w.heap.size + 3 := hws
    clear c3 n0 rb hws c31
    generalize W.drewN d = X at *
    have RT : Rg g t X := HT.out.below B1
    have q1 := c32
    have q2 := n01
    have HB1 : Hid (Below w.heap.size w X) := B1
    have hrb := rb1
    go_wp2_with fail
    go_region_held3 (fun wq => wq.cell? ⟨w.heap.size, 0, none⟩ = some (.slice (some ⟨g, 0, none⟩) st cap) /\ wq.cell? ⟨w.heap.size + 2, 0, none⟩ = some (.int .i64 (62 : Int)))
     (first | (go_keep; done) | (go_split_ands; exact ⟨q1, q2⟩))
     (first
      | (go_at_call 65; refine (S0.out _ ((RT.below b1).below b2)).mono ?_; rintro e w3 ⟨g3, cap3, rfl, R3, hg3, b3⟩; (have s3 := b3.size); (have q1 := (b3.cell (p := ⟨w.heap.size, 0, none⟩) (by show w.heap.size < _; omega)).trans q1); (have q2 := (b3.cell (p := ⟨w.heap.size + 2, 0, none⟩) (by show w.heap.size + 2 < _; omega)).trans q2))
      | (go_at_call 64; refine (F0.out _ RT.drew).mono ?_; rintro e w1 ⟨g1, cap1, rfl, R1, hg1, b1'⟩; (have b1 := zdo b1'); (have s1 := b1.size); (have q1 := (b1.cell (p := ⟨w.heap.size, 0, none⟩) (by show w.heap.size < _; omega)).trans q1); (have q2 := (b1.cell (p := ⟨w.heap.size + 2, 0, none⟩) (by show w.heap.size + 2 < _; omega)).trans q2))
      | (go_at_call 41; (have hR3 := R3); refine (PB0.out g3 cap3 w3 (((HB1.out.trans (b1.mono HB1.out.size)).trans (b2.mono (by omega))).trans (b3.mono (by omega))) R3).mono ?_; rintro e w4 ⟨g4, cap4, rfl, R4, b4⟩; (have s4 := b4.size); (have q1 := (b4.cell (p := ⟨w.heap.size, 0, none⟩) (by show w.heap.size < _; omega)).trans q1); (have q2 := (b4.cell (p := ⟨w.heap.size + 2, 0, none⟩) (by show w.heap.size + 2 < _; omega)).trans q2))
      | (go_at_call 41; refine (PA0.out g1 cap1 w1 (HB1.out.trans (b1.mono HB1.out.size)) R1).mono ?_; rintro e w2 ⟨g2, cap2, rfl, R2, b2⟩; (have s2 := b2.size); (have q1 := (b2.cell (p := ⟨w.heap.size, 0, none⟩) (by show w.heap.size < _; omega)).trans q1); (have q2 := (b2.cell (p := ⟨w.heap.size + 2, 0, none⟩) (by show w.heap.size + 2 < _; omega)).trans q2))
      | (go_at_call 67; refine (L0.out g2 cap2 g4 cap4 w4 ((R2.below b3).below b4) R4).mono ?_; rintro e w5 ⟨g5, cap5, rfl, R5, hg5, b5⟩; (have s5 := b5.size); (have rb5 : w5.heap[w.heap.size + 1]? = some (.cells #[.slice none 0 0] 33 (0, 0)) := (b5.block _ (by omega)).trans ((b4.block _ (by omega)).trans ((b3.block _ (by omega)).trans ((b2.block _ (by omega)).trans ((b1.block _ (by omega)).trans hrb))))); (have cr := zab rb5); (have fr := zae rb5); (have q1 := (b5.cell (p := ⟨w.heap.size, 0, none⟩) (by show w.heap.size < _; omega)).trans q1); (have q2 := (b5.cell (p := ⟨w.heap.size + 2, 0, none⟩) (by show w.heap.size + 2 < _; omega)).trans q2)))
    go_wp2_with fail
    refine zag rfl rfl (zac rb5) ?_
    rw [HR0.out]
    exact ⟨g5, cap5, rfl, R5.kept (zai _ _) (by simp; omega), (((((HB1.out.trans (b1.mono HB1.out.size)).trans (b2.mono (by omega))).trans (b3.mono (by omega))).trans (b4.mono (by omega))).trans (b5.mono (by omega))).setCell (by simp) _⟩
theorem zqb : ∀ t : Ty, Ok t -> zdf t := by
 intro t
 induction t with
 | nil => intro h; exact h.elim
 | node g o u a b iha ihb =>
  intro h
  cases u
  rcases h with ⟨rfl, rfl, rfl, rfl⟩ | ⟨rfl, rfl, rfl, rfl⟩ | ⟨rfl, ho, rfl, rfl⟩ | ⟨rfl, rfl, ha, rfl⟩ | ⟨rfl, rfl, ha, hb⟩ | ⟨rfl, rfl, ha, hb⟩
  · exact zlr tI (by decide) (by decide) (by decide) (fun _ _ _ => rfl)
  · exact zlr tB (by decide) (by decide) (by decide) (fun _ _ _ => rfl)
  · have e : (rt (tV o) 0).op = o + 30 := rfl
    refine zlr (tV o) (by rw [e]; omega) (by rw [e]; omega) (by rw [e]; omega) (fun v ts hn => ?_)
    show (look (v.zip ts) o).getD (tV o) = tV o
    rw [look_not v ts o (fun m p hp e2 => hn m p hp (by rw [e, e2]))]
    rfl
  · exact put_list a ha (iha ha)
  · exact put_P a b ha hb (iha ha) (ihb hb)
  · exact put_F a b ha hb (iha ha) (ihb hb)
def rowOf (b : Nat) (w : World) : Option Nat := ((w.cell? ⟨b, 4, none⟩).getD .nilIface).ownBlock
theorem zdy (w : World) (b j : Nat) (u : Value) : w.grownBy (w.setCell ⟨b, j, none⟩ u) (some b) := ⟨rfl, rfl, rfl, by simp [World.setCell], fun i _ hn => Below.heap_setCell _ _ _ _ (by simpa using hn)⟩
structure Fr (b : Nat) (w w' : World) : Prop where
 os : w'.os = w.os
 tape : w'.tape = w.tape
 output : w'.output = w.output
 size : w.heap.size <= w'.heap.size
 block : ∀ k, k < w.heap.size -> k ≠ b -> some k ≠ rowOf b w -> w'.heap[k]? = w.heap[k]?
 row : rowOf b w' = rowOf b w \/ ∃ k, rowOf b w' = some k /\ w.heap.size <= k
theorem Fr.refl (b : Nat) (w : World) : Fr b w w := ⟨rfl, rfl, rfl, Nat.le_refl _, fun _ _ _ _ => rfl, .inl rfl⟩
theorem Fr.trans {b : Nat} {x y z : World} (h : Fr b x y) (k : Fr b y z) : Fr b x z := by
 refine ⟨k.os.trans h.os, k.tape.trans h.tape, k.output.trans h.output, Nat.le_trans h.size k.size, fun i hi hb hr => ?_, ?_⟩
 · refine (k.block i (Nat.lt_of_lt_of_le hi h.size) hb ?_).trans (h.block i hi hb hr)
   rcases h.row with e | ⟨q, e, hq⟩
   · rw [e]; exact hr
   · rw [e]; intro e'; simp at e'; omega
 · rcases k.row with e | ⟨q, e, hq⟩
   · rcases h.row with e' | ⟨q, e', hq⟩
     · exact .inl (e.trans e')
     · exact .inr ⟨q, e.trans e', hq⟩
   · exact .inr ⟨q, e, Nat.le_trans h.size hq⟩
theorem Fr.drewN {b : Nat} {x y : World} (h : Fr b x y) (n : Nat) : Fr b x (y.drewN n) := ⟨h.os, h.tape, h.output, h.size, h.block, h.row⟩
theorem Fr.undrew {b n : Nat} {x y : World} (h : Fr b (x.drewN n) y) : Fr b x y := ⟨h.os, h.tape, h.output, h.size, h.block, h.row⟩
theorem znx {b q : Nat} {w : World} {a : Addr} {u : Value} (hq : a.block = q) (hb : q ≠ b) : rowOf b (w.setCell a u) = rowOf b w := by
 unfold rowOf
 rw [World.cell?_setCell_other w _ _ _ (by intro e; subst e; exact hb hq.symm)]
theorem zjq {b : Nat} {w : World} (o : Obj) (hb : b < w.heap.size) : rowOf b (w.alloc o) = rowOf b w := by
 unfold rowOf; rw [World.cell?_alloc_lt _ _ _ hb]
theorem Fr.alloc {b : Nat} {x y : World} (h : Fr b x y) (hb : b < y.heap.size) (o : Obj) : Fr b x (y.alloc o) :=
 h.trans ⟨rfl, rfl, rfl, by simp, fun i hi _ _ => Below.heap_alloc _ _ _ hi, .inl (zjq o hb)⟩
def inR (c lo hi : Nat) : Bool := decide (lo <= c) && decide (c <= hi)
theorem zgn (w : World) (g c : Nat) (hc : c < 256) (h : w.cell? ⟨g, 0, none⟩ = some (.int .u8 (c : Int))) : (convert 46 9 (.slice (some ⟨g, 0, none⟩) 1 1)).run Tryz.prog w = .ok (.string ⟨#[u8 c]⟩) w := by
 refine run_convert_bytes_back w 46 9 5 ⟨g, 0, none⟩ 1 [u8 c] Tryz.underlying46 Tryz.underlying5 Tryz.underlying9 ?_
 intro j hj
 have hj0 : j = 0 := by simpa using hj
 subst hj0
 have hadd : (⟨g, 0, none⟩ : Addr).add 0 = ⟨g, 0, none⟩ := rfl
 have hu : ((u8 c).toNat : Int) = (c : Int) := by simp [u8]; omega
 rw [hadd, h]
 show some (Value.int .u8 (c : Int)) = some (.int .u8 ((u8 c).toNat : Int))
 rw [hu]
theorem zem (a b : List UInt8) : (⟨a.toArray⟩ : ByteArray) ++ ⟨b.toArray⟩ = ⟨(a ++ b).toArray⟩ := by
 apply ByteArray.ext
 simp
theorem zet (x : UInt8) : (⟨#[x]⟩ : ByteArray) = ⟨[x].toArray⟩ := rfl
theorem zkk (k : Nat) (w : World) (hk : k < 26) :
 Calls Tryz.prog 69 #[.int .i64 ((1000 + 10 * k : Nat) : Int)] w fun e w' => e = .returned (.string ⟨#[u8 (97 + k)]⟩) /\ Below w.heap.size w w' := by
 obtain ⟨n, hn⟩ : ∃ n, n = 1000 + 10 * k := ⟨_, rfl⟩
 rw [<- hn]
 have e1 : ((n : Int) - 1000) = ((10 * k : Nat) : Int) := by omega
 have w1 : IntKind.i64.wrap ((10 * k : Nat) : Int) = ((10 * k : Nat) : Int) := IntWalk.i64_in _ ⟨by omega, by omega⟩
 have e2 : Int.tdiv ((10 * k : Nat) : Int) 10 = (k : Int) := by rw [Int.tdiv_eq_ediv_of_nonneg (by omega)]; omega
 have e3 : Int.tmod ((10 * k : Nat) : Int) 10 = 0 := by rw [Int.tmod_eq_emod_of_nonneg (by omega)]; omega
 have hcv := zgn (w.alloc (.cells #[.int .u8 ((97 + k : Nat) : Int)] 5)) w.heap.size (97 + k) (by omega) (by simp)
 have e97 : ((97 + k : Nat) : Int) = 97 + (k : Int) := by omega
 rw [e97] at hcv
 generalize u8 (97 + k) = cc at *
 clear hn e97
 go_enter Tryz.func69, Tryz.ntmps69
 go_wp2_with fail
 go_ret
 exact ⟨rfl, bal w _⟩
theorem zkl (k d : Nat) (w : World) (hk : k < 26) (hd : 1 <= d /\ d < 10) :
 Calls Tryz.prog 69 #[.int .i64 ((1000 + 10 * k + d : Nat) : Int)] w fun e w' => e = .returned (.string (⟨#[u8 (97 + k)]⟩ ++ ⟨#[u8 (48 + d)]⟩)) /\ Below w.heap.size w w' := by
 obtain ⟨n, hn⟩ : ∃ n, n = 1000 + 10 * k + d := ⟨_, rfl⟩
 rw [<- hn]
 obtain ⟨m, hm⟩ : ∃ m, m = 10 * k + d := ⟨_, rfl⟩
 have e1 : ((n : Int) - 1000) = (m : Int) := by omega
 have w1 : IntKind.i64.wrap (m : Int) = (m : Int) := IntWalk.i64_in _ ⟨by omega, by omega⟩
 have e2 : Int.tdiv (m : Int) 10 = (k : Int) := by rw [Int.tdiv_eq_ediv_of_nonneg (by omega)]; omega
 have e3 : Int.tmod (m : Int) 10 = (d : Int) := by rw [Int.tmod_eq_emod_of_nonneg (by omega)]; omega
 have hcv := zgn (w.alloc (.cells #[.int .u8 ((97 + k : Nat) : Int)] 5)) w.heap.size (97 + k) (by omega) (by simp)
 have hcw := zgn ((w.alloc (.cells #[.int .u8 ((97 + k : Nat) : Int)] 5)).alloc (.cells #[.int .u8 ((48 + d : Nat) : Int)] 5)) (w.heap.size + 1) (48 + d) (by omega) (by simp)
 have e97 : ((97 + k : Nat) : Int) = 97 + (k : Int) := by omega
 have e48 : ((48 + d : Nat) : Int) = 48 + (d : Int) := by omega
 rw [e97] at hcv hcw
 rw [e48] at hcw
 generalize u8 (97 + k) = cc at *
 generalize u8 (48 + d) = dd at *
 have hd1 := hd.1
 clear hn e97 e48 hm
 go_enter Tryz.func69, Tryz.ntmps69
 go_wp2_with fail
 go_ret
 exact ⟨rfl, (bal w _).alloc (by simp) _⟩
theorem zmo (o : Nat) (w : World) (ho : 970 <= o /\ o < 1230) :
 Calls Tryz.prog 69 #[.int .i64 ((o + 30 : Nat) : Int)] w fun e w' => e = .returned (.string ⟨(zca o).toArray⟩) /\ Below w.heap.size w w' := by
 obtain ⟨k, d, hk, hd, e⟩ : ∃ k d, k < 26 /\ d < 10 /\ o = 970 + 10 * k + d := ⟨(o - 970) / 10, o % 10, by omega, by omega, by omega⟩
 have e1 : o / 10 = 97 + k := by omega
 have e2 : o % 10 = d := by omega
 by_cases h0 : d = 0
 · have := zkk k w hk
   rw [show 1000 + 10 * k = o + 30 by omega] at this
   unfold zca
   rw [e1, e2, if_pos h0]
   exact this
 · have := zkl k d w hk ⟨by omega, hd⟩
   rw [show 1000 + 10 * k + d = o + 30 by omega] at this
   unfold zca
   rw [e1, e2, if_neg h0]
   refine this.mono ?_
   rintro e w' ⟨rfl, h⟩
   refine ⟨?_, h⟩
   rw [zet, zet, zem]
   rfl
theorem zeh (c : Bool) (f : List UInt8) : (inBr c f).length <= f.length + 2 := by cases c <;> simp [inBr]
theorem zbb : ∀ {t : Ty}, Ok t -> (textT t).length <= 5 * sz t := by
 intro t
 induction t with
 | nil => intro h; exact h.elim
 | node g o u a b iha ihb =>
  intro h
  cases u
  rcases h with ⟨rfl, rfl, rfl, rfl⟩ | ⟨rfl, rfl, rfl, rfl⟩ | ⟨rfl, ho, rfl, rfl⟩ | ⟨rfl, rfl, ha, rfl⟩ | ⟨rfl, rfl, ha, hb⟩ | ⟨rfl, rfl, ha, hb⟩
  · simp [textT, sz]
  · simp [textT, sz]
  · simp [textT, sz, zca]; split <;> simp
  · have := iha ha
    simp [textT, sz]; omega
  · have h1 := iha ha
    have h2 := ihb hb
    have h3 := zeh (isFn a) (textT a)
    have h4 := zeh (isFn b || isPr b) (textT b)
    simp [textT, sz]; omega
  · have h1 := iha ha
    have h2 := ihb hb
    have h3 := zeh (isFn a) (textT a)
    simp [textT, sz]; omega
def zas (t : Ty) : Prop := ∀ (g cap : Nat) (w : World), Rg g t w -> sz t <= 60000 ->
 Calls Tryz.prog 42 #[.agg #[.slice (some ⟨g, 0, none⟩) (sz t) cap]] w fun e w' => e = .returned (.string ⟨(textT t).toArray⟩) /\ Below w.heap.size w w'
def zbv (t : Ty) (n : Int) (c : Bool) : Prop := ∀ (g cap : Nat) (w : World), Rg g t w -> sz t <= 60000 ->
 Calls Tryz.prog 68 #[.agg #[.slice (some ⟨g, 0, none⟩) (sz t) cap], .int .i64 n] w fun e w' => e = .returned (.string ⟨(inBr c (textT t)).toArray⟩) /\ Below w.heap.size w w'
theorem op_fn {t : Ty} (h : Ok t) : (((rt t 0).op : Int) == 62) = isFn t /\ (((rt t 0).op : Int) == 42) = isPr t := by
 rcases h.cases with rfl | rfl | ⟨p, _, _, rfl⟩ | ⟨a, ha, rfl⟩ | ⟨a, b, ha, hb, rfl⟩ | ⟨a, b, ha, hb, rfl⟩
 · exact ⟨rfl, rfl⟩
 · exact ⟨rfl, rfl⟩
 · refine ⟨?_, ?_⟩
   · show (((p + 30 : Nat) : Int) == 62) = false
     rw [beq_eq_false_iff_ne]; omega
   · show (((p + 30 : Nat) : Int) == 42) = false
     rw [beq_eq_false_iff_ne]; omega
 · exact ⟨rfl, rfl⟩
 · exact ⟨rfl, rfl⟩
 · exact ⟨rfl, rfl⟩
theorem br_str (f : List UInt8) : ((⟨#[40]⟩ : ByteArray) ++ ⟨f.toArray⟩) ++ ⟨#[41]⟩ = ⟨(inBr true f).toArray⟩ := by
 rw [zet, zet, zem, zem]; simp [inBr]
theorem within0f (t : Ty) (T : zas t) (hx : isFn t = true) (hy : isPr t = false) : zbv t 0 false := by
 intro g cap w ht hl
 have B0 : Below w.heap.size w (w.alloc (tbO g (sz t) cap)) := bal w _
 have c0 : (w.alloc (tbO g (sz t) cap)).cell? ⟨w.heap.size, 0, none⟩ = some (.slice (some ⟨g, 0, none⟩) (sz t) cap) := by simp
 have R0 := ht.below B0
 have hlen := zbb ht.ok
 have O := op_fn ht.ok
 rw [hx, hy] at O
 obtain ⟨o1, o2⟩ := O
 have RO : Hid (∀ X, Rg g t X -> _) := fun X (h : Rg g t X) => zat t g cap X h (Nat.le_trans hl (by decide))
 have TX : Hid (∀ X, Rg g t X -> _) := fun X (h : Rg g t X) => T g cap X h hl
 generalize (rt t 0).op = p at *
 generalize textT t = f at *
 generalize sz t = st at *
 have hlw : w.heap.size < (w.alloc (tbO g st cap)).heap.size := by simp
 have n1 : ¬ (9223372036854775807 < 1 + f.length) := by omega
 have n2 : ¬ (9223372036854775807 < 1 + f.length + 1) := by omega
 clear T hx hy ht
 go_enter Tryz.func68, Tryz.ntmps68
 go_wp2_with fail
 generalize w.alloc (tbO g st cap) = W at *
 refine (RO.out W R0).mono ?_
 rintro e w1 ⟨rfl, b1⟩
 have R1 := R0.below b1
 have B1 := B0.trans (b1.mono B0.size)
 replace c0 := (b1.cell (p := ⟨w.heap.size, 0, none⟩) hlw).trans c0
 have l1 : w.heap.size < w1.heap.size := Nat.lt_of_lt_of_le hlw b1.size
 clear R0 b1 B0 hlw
 go_wp2_with fail
 refine (RO.out w1 R1).mono ?_
 rintro e w2 ⟨rfl, b2⟩
 have R2 := R1.below b2
 have B2 := B1.trans (b2.mono B1.size)
 replace c0 := (b2.cell (p := ⟨w.heap.size, 0, none⟩) l1).trans c0
 clear R1 b2 B1 l1
 go_wp2_with fail
 refine (TX.out w2 R2).mono ?_
 rintro e w3 ⟨rfl, b3⟩
 have B3 := B2.trans (b3.mono B2.size)
 clear R2 b3 B2 c0
 go_wp2_with fail
 go_ret
 exact ⟨rfl, B3⟩
theorem within0p (t : Ty) (T : zas t) (hx : isFn t = false) (hy : isPr t = true) : zbv t 0 false := by
 intro g cap w ht hl
 have B0 : Below w.heap.size w (w.alloc (tbO g (sz t) cap)) := bal w _
 have c0 : (w.alloc (tbO g (sz t) cap)).cell? ⟨w.heap.size, 0, none⟩ = some (.slice (some ⟨g, 0, none⟩) (sz t) cap) := by simp
 have R0 := ht.below B0
 have hlen := zbb ht.ok
 have O := op_fn ht.ok
 rw [hx, hy] at O
 obtain ⟨o1, o2⟩ := O
 have RO : Hid (∀ X, Rg g t X -> _) := fun X (h : Rg g t X) => zat t g cap X h (Nat.le_trans hl (by decide))
 have TX : Hid (∀ X, Rg g t X -> _) := fun X (h : Rg g t X) => T g cap X h hl
 generalize (rt t 0).op = p at *
 generalize textT t = f at *
 generalize sz t = st at *
 have hlw : w.heap.size < (w.alloc (tbO g st cap)).heap.size := by simp
 have n1 : ¬ (9223372036854775807 < 1 + f.length) := by omega
 have n2 : ¬ (9223372036854775807 < 1 + f.length + 1) := by omega
 clear T hx hy ht
 go_enter Tryz.func68, Tryz.ntmps68
 go_wp2_with fail
 generalize w.alloc (tbO g st cap) = W at *
 refine (RO.out W R0).mono ?_
 rintro e w1 ⟨rfl, b1⟩
 have R1 := R0.below b1
 have B1 := B0.trans (b1.mono B0.size)
 replace c0 := (b1.cell (p := ⟨w.heap.size, 0, none⟩) hlw).trans c0
 have l1 : w.heap.size < w1.heap.size := Nat.lt_of_lt_of_le hlw b1.size
 clear R0 b1 B0 hlw
 go_wp2_with fail
 refine (RO.out w1 R1).mono ?_
 rintro e w2 ⟨rfl, b2⟩
 have R2 := R1.below b2
 have B2 := B1.trans (b2.mono B1.size)
 replace c0 := (b2.cell (p := ⟨w.heap.size, 0, none⟩) l1).trans c0
 clear R1 b2 B1 l1
 go_wp2_with fail
 refine (TX.out w2 R2).mono ?_
 rintro e w3 ⟨rfl, b3⟩
 have B3 := B2.trans (b3.mono B2.size)
 clear R2 b3 B2 c0
 go_wp2_with fail
 go_ret
 exact ⟨rfl, B3⟩
theorem zik (t : Ty) (T : zas t) (hx : isFn t = false) (hy : isPr t = false) : zbv t 0 false := by
 intro g cap w ht hl
 have B0 : Below w.heap.size w (w.alloc (tbO g (sz t) cap)) := bal w _
 have c0 : (w.alloc (tbO g (sz t) cap)).cell? ⟨w.heap.size, 0, none⟩ = some (.slice (some ⟨g, 0, none⟩) (sz t) cap) := by simp
 have R0 := ht.below B0
 have hlen := zbb ht.ok
 have O := op_fn ht.ok
 rw [hx, hy] at O
 obtain ⟨o1, o2⟩ := O
 have RO : Hid (∀ X, Rg g t X -> _) := fun X (h : Rg g t X) => zat t g cap X h (Nat.le_trans hl (by decide))
 have TX : Hid (∀ X, Rg g t X -> _) := fun X (h : Rg g t X) => T g cap X h hl
 generalize (rt t 0).op = p at *
 generalize textT t = f at *
 generalize sz t = st at *
 have hlw : w.heap.size < (w.alloc (tbO g st cap)).heap.size := by simp
 have n1 : ¬ (9223372036854775807 < 1 + f.length) := by omega
 have n2 : ¬ (9223372036854775807 < 1 + f.length + 1) := by omega
 clear T hx hy ht
 go_enter Tryz.func68, Tryz.ntmps68
 go_wp2_with fail
 generalize w.alloc (tbO g st cap) = W at *
 refine (RO.out W R0).mono ?_
 rintro e w1 ⟨rfl, b1⟩
 have R1 := R0.below b1
 have B1 := B0.trans (b1.mono B0.size)
 replace c0 := (b1.cell (p := ⟨w.heap.size, 0, none⟩) hlw).trans c0
 have l1 : w.heap.size < w1.heap.size := Nat.lt_of_lt_of_le hlw b1.size
 clear R0 b1 B0 hlw
 go_wp2_with fail
 refine (RO.out w1 R1).mono ?_
 rintro e w2 ⟨rfl, b2⟩
 have R2 := R1.below b2
 have B2 := B1.trans (b2.mono B1.size)
 replace c0 := (b2.cell (p := ⟨w.heap.size, 0, none⟩) l1).trans c0
 clear R1 b2 B1 l1
 go_wp2_with fail
 refine (TX.out w2 R2).mono ?_
 rintro e w3 ⟨rfl, b3⟩
 have B3 := B2.trans (b3.mono B2.size)
 clear R2 b3 B2 c0
 go_wp2_with fail
 go_ret
 exact ⟨rfl, B3⟩
theorem within1f (t : Ty) (T : zas t) (hx : isFn t = true) (hy : isPr t = false) : zbv t 1 true := by
 intro g cap w ht hl
 have B0 : Below w.heap.size w (w.alloc (tbO g (sz t) cap)) := bal w _
 have c0 : (w.alloc (tbO g (sz t) cap)).cell? ⟨w.heap.size, 0, none⟩ = some (.slice (some ⟨g, 0, none⟩) (sz t) cap) := by simp
 have R0 := ht.below B0
 have hlen := zbb ht.ok
 have O := op_fn ht.ok
 rw [hx, hy] at O
 obtain ⟨o1, o2⟩ := O
 have RO : Hid (∀ X, Rg g t X -> _) := fun X (h : Rg g t X) => zat t g cap X h (Nat.le_trans hl (by decide))
 have TX : Hid (∀ X, Rg g t X -> _) := fun X (h : Rg g t X) => T g cap X h hl
 generalize (rt t 0).op = p at *
 generalize textT t = f at *
 generalize sz t = st at *
 have hlw : w.heap.size < (w.alloc (tbO g st cap)).heap.size := by simp
 have n1 : ¬ (9223372036854775807 < 1 + f.length) := by omega
 have n2 : ¬ (9223372036854775807 < 1 + f.length + 1) := by omega
 clear T hx hy ht
 go_enter Tryz.func68, Tryz.ntmps68
 go_wp2_with fail
 generalize w.alloc (tbO g st cap) = W at *
 refine (RO.out W R0).mono ?_
 rintro e w1 ⟨rfl, b1⟩
 have R1 := R0.below b1
 have B1 := B0.trans (b1.mono B0.size)
 replace c0 := (b1.cell (p := ⟨w.heap.size, 0, none⟩) hlw).trans c0
 have l1 : w.heap.size < w1.heap.size := Nat.lt_of_lt_of_le hlw b1.size
 clear R0 b1 B0 hlw
 go_wp2_with fail
 refine (RO.out w1 R1).mono ?_
 rintro e w2 ⟨rfl, b2⟩
 have R2 := R1.below b2
 have B2 := B1.trans (b2.mono B1.size)
 replace c0 := (b2.cell (p := ⟨w.heap.size, 0, none⟩) l1).trans c0
 clear R1 b2 B1 l1
 go_wp2_with fail
 refine (TX.out w2 R2).mono ?_
 rintro e w3 ⟨rfl, b3⟩
 have B3 := B2.trans (b3.mono B2.size)
 clear R2 b3 B2 c0
 go_wp2_with fail
 go_ret
 refine ⟨?_, B3⟩
 show Ending.returned (.string _) = Ending.returned (.string _)
 rw [<- br_str]
theorem within1p (t : Ty) (T : zas t) (hx : isFn t = false) (hy : isPr t = true) : zbv t 1 false := by
 intro g cap w ht hl
 have B0 : Below w.heap.size w (w.alloc (tbO g (sz t) cap)) := bal w _
 have c0 : (w.alloc (tbO g (sz t) cap)).cell? ⟨w.heap.size, 0, none⟩ = some (.slice (some ⟨g, 0, none⟩) (sz t) cap) := by simp
 have R0 := ht.below B0
 have hlen := zbb ht.ok
 have O := op_fn ht.ok
 rw [hx, hy] at O
 obtain ⟨o1, o2⟩ := O
 have RO : Hid (∀ X, Rg g t X -> _) := fun X (h : Rg g t X) => zat t g cap X h (Nat.le_trans hl (by decide))
 have TX : Hid (∀ X, Rg g t X -> _) := fun X (h : Rg g t X) => T g cap X h hl
 generalize (rt t 0).op = p at *
 generalize textT t = f at *
 generalize sz t = st at *
 have hlw : w.heap.size < (w.alloc (tbO g st cap)).heap.size := by simp
 have n1 : ¬ (9223372036854775807 < 1 + f.length) := by omega
 have n2 : ¬ (9223372036854775807 < 1 + f.length + 1) := by omega
 clear T hx hy ht
 go_enter Tryz.func68, Tryz.ntmps68
 go_wp2_with fail
 generalize w.alloc (tbO g st cap) = W at *
 refine (RO.out W R0).mono ?_
 rintro e w1 ⟨rfl, b1⟩
 have R1 := R0.below b1
 have B1 := B0.trans (b1.mono B0.size)
 replace c0 := (b1.cell (p := ⟨w.heap.size, 0, none⟩) hlw).trans c0
 have l1 : w.heap.size < w1.heap.size := Nat.lt_of_lt_of_le hlw b1.size
 clear R0 b1 B0 hlw
 go_wp2_with fail
 refine (RO.out w1 R1).mono ?_
 rintro e w2 ⟨rfl, b2⟩
 have R2 := R1.below b2
 have B2 := B1.trans (b2.mono B1.size)
 replace c0 := (b2.cell (p := ⟨w.heap.size, 0, none⟩) l1).trans c0
 clear R1 b2 B1 l1
 go_wp2_with fail
 refine (TX.out w2 R2).mono ?_
 rintro e w3 ⟨rfl, b3⟩
 have B3 := B2.trans (b3.mono B2.size)
 clear R2 b3 B2 c0
 go_wp2_with fail
 go_ret
 exact ⟨rfl, B3⟩
theorem zid (t : Ty) (T : zas t) (hx : isFn t = false) (hy : isPr t = false) : zbv t 1 false := by
 intro g cap w ht hl
 have B0 : Below w.heap.size w (w.alloc (tbO g (sz t) cap)) := bal w _
 have c0 : (w.alloc (tbO g (sz t) cap)).cell? ⟨w.heap.size, 0, none⟩ = some (.slice (some ⟨g, 0, none⟩) (sz t) cap) := by simp
 have R0 := ht.below B0
 have hlen := zbb ht.ok
 have O := op_fn ht.ok
 rw [hx, hy] at O
 obtain ⟨o1, o2⟩ := O
 have RO : Hid (∀ X, Rg g t X -> _) := fun X (h : Rg g t X) => zat t g cap X h (Nat.le_trans hl (by decide))
 have TX : Hid (∀ X, Rg g t X -> _) := fun X (h : Rg g t X) => T g cap X h hl
 generalize (rt t 0).op = p at *
 generalize textT t = f at *
 generalize sz t = st at *
 have hlw : w.heap.size < (w.alloc (tbO g st cap)).heap.size := by simp
 have n1 : ¬ (9223372036854775807 < 1 + f.length) := by omega
 have n2 : ¬ (9223372036854775807 < 1 + f.length + 1) := by omega
 clear T hx hy ht
 go_enter Tryz.func68, Tryz.ntmps68
 go_wp2_with fail
 generalize w.alloc (tbO g st cap) = W at *
 refine (RO.out W R0).mono ?_
 rintro e w1 ⟨rfl, b1⟩
 have R1 := R0.below b1
 have B1 := B0.trans (b1.mono B0.size)
 replace c0 := (b1.cell (p := ⟨w.heap.size, 0, none⟩) hlw).trans c0
 have l1 : w.heap.size < w1.heap.size := Nat.lt_of_lt_of_le hlw b1.size
 clear R0 b1 B0 hlw
 go_wp2_with fail
 refine (RO.out w1 R1).mono ?_
 rintro e w2 ⟨rfl, b2⟩
 have R2 := R1.below b2
 have B2 := B1.trans (b2.mono B1.size)
 replace c0 := (b2.cell (p := ⟨w.heap.size, 0, none⟩) l1).trans c0
 clear R1 b2 B1 l1
 go_wp2_with fail
 refine (TX.out w2 R2).mono ?_
 rintro e w3 ⟨rfl, b3⟩
 have B3 := B2.trans (b3.mono B2.size)
 clear R2 b3 B2 c0
 go_wp2_with fail
 go_ret
 exact ⟨rfl, B3⟩
theorem within2f (t : Ty) (T : zas t) (hx : isFn t = true) (hy : isPr t = false) : zbv t 2 true := by
 intro g cap w ht hl
 have B0 : Below w.heap.size w (w.alloc (tbO g (sz t) cap)) := bal w _
 have c0 : (w.alloc (tbO g (sz t) cap)).cell? ⟨w.heap.size, 0, none⟩ = some (.slice (some ⟨g, 0, none⟩) (sz t) cap) := by simp
 have R0 := ht.below B0
 have hlen := zbb ht.ok
 have O := op_fn ht.ok
 rw [hx, hy] at O
 obtain ⟨o1, o2⟩ := O
 have RO : Hid (∀ X, Rg g t X -> _) := fun X (h : Rg g t X) => zat t g cap X h (Nat.le_trans hl (by decide))
 have TX : Hid (∀ X, Rg g t X -> _) := fun X (h : Rg g t X) => T g cap X h hl
 generalize (rt t 0).op = p at *
 generalize textT t = f at *
 generalize sz t = st at *
 have hlw : w.heap.size < (w.alloc (tbO g st cap)).heap.size := by simp
 have n1 : ¬ (9223372036854775807 < 1 + f.length) := by omega
 have n2 : ¬ (9223372036854775807 < 1 + f.length + 1) := by omega
 clear T hx hy ht
 go_enter Tryz.func68, Tryz.ntmps68
 go_wp2_with fail
 generalize w.alloc (tbO g st cap) = W at *
 refine (RO.out W R0).mono ?_
 rintro e w1 ⟨rfl, b1⟩
 have R1 := R0.below b1
 have B1 := B0.trans (b1.mono B0.size)
 replace c0 := (b1.cell (p := ⟨w.heap.size, 0, none⟩) hlw).trans c0
 have l1 : w.heap.size < w1.heap.size := Nat.lt_of_lt_of_le hlw b1.size
 clear R0 b1 B0 hlw
 go_wp2_with fail
 refine (RO.out w1 R1).mono ?_
 rintro e w2 ⟨rfl, b2⟩
 have R2 := R1.below b2
 have B2 := B1.trans (b2.mono B1.size)
 replace c0 := (b2.cell (p := ⟨w.heap.size, 0, none⟩) l1).trans c0
 clear R1 b2 B1 l1
 go_wp2_with fail
 refine (TX.out w2 R2).mono ?_
 rintro e w3 ⟨rfl, b3⟩
 have B3 := B2.trans (b3.mono B2.size)
 clear R2 b3 B2 c0
 go_wp2_with fail
 go_ret
 refine ⟨?_, B3⟩
 show Ending.returned (.string _) = Ending.returned (.string _)
 rw [<- br_str]
theorem within2p (t : Ty) (T : zas t) (hx : isFn t = false) (hy : isPr t = true) : zbv t 2 true := by
 intro g cap w ht hl
 have B0 : Below w.heap.size w (w.alloc (tbO g (sz t) cap)) := bal w _
 have c0 : (w.alloc (tbO g (sz t) cap)).cell? ⟨w.heap.size, 0, none⟩ = some (.slice (some ⟨g, 0, none⟩) (sz t) cap) := by simp
 have R0 := ht.below B0
 have hlen := zbb ht.ok
 have O := op_fn ht.ok
 rw [hx, hy] at O
 obtain ⟨o1, o2⟩ := O
 have RO : Hid (∀ X, Rg g t X -> _) := fun X (h : Rg g t X) => zat t g cap X h (Nat.le_trans hl (by decide))
 have TX : Hid (∀ X, Rg g t X -> _) := fun X (h : Rg g t X) => T g cap X h hl
 generalize (rt t 0).op = p at *
 generalize textT t = f at *
 generalize sz t = st at *
 have hlw : w.heap.size < (w.alloc (tbO g st cap)).heap.size := by simp
 have n1 : ¬ (9223372036854775807 < 1 + f.length) := by omega
 have n2 : ¬ (9223372036854775807 < 1 + f.length + 1) := by omega
 clear T hx hy ht
 go_enter Tryz.func68, Tryz.ntmps68
 go_wp2_with fail
 generalize w.alloc (tbO g st cap) = W at *
 refine (RO.out W R0).mono ?_
 rintro e w1 ⟨rfl, b1⟩
 have R1 := R0.below b1
 have B1 := B0.trans (b1.mono B0.size)
 replace c0 := (b1.cell (p := ⟨w.heap.size, 0, none⟩) hlw).trans c0
 have l1 : w.heap.size < w1.heap.size := Nat.lt_of_lt_of_le hlw b1.size
 clear R0 b1 B0 hlw
 go_wp2_with fail
 refine (RO.out w1 R1).mono ?_
 rintro e w2 ⟨rfl, b2⟩
 have R2 := R1.below b2
 have B2 := B1.trans (b2.mono B1.size)
 replace c0 := (b2.cell (p := ⟨w.heap.size, 0, none⟩) l1).trans c0
 clear R1 b2 B1 l1
 go_wp2_with fail
 refine (TX.out w2 R2).mono ?_
 rintro e w3 ⟨rfl, b3⟩
 have B3 := B2.trans (b3.mono B2.size)
 clear R2 b3 B2 c0
 go_wp2_with fail
 go_ret
 refine ⟨?_, B3⟩
 show Ending.returned (.string _) = Ending.returned (.string _)
 rw [<- br_str]
theorem zie (t : Ty) (T : zas t) (hx : isFn t = false) (hy : isPr t = false) : zbv t 2 false := by
 intro g cap w ht hl
 have B0 : Below w.heap.size w (w.alloc (tbO g (sz t) cap)) := bal w _
 have c0 : (w.alloc (tbO g (sz t) cap)).cell? ⟨w.heap.size, 0, none⟩ = some (.slice (some ⟨g, 0, none⟩) (sz t) cap) := by simp
 have R0 := ht.below B0
 have hlen := zbb ht.ok
 have O := op_fn ht.ok
 rw [hx, hy] at O
 obtain ⟨o1, o2⟩ := O
 have RO : Hid (∀ X, Rg g t X -> _) := fun X (h : Rg g t X) => zat t g cap X h (Nat.le_trans hl (by decide))
 have TX : Hid (∀ X, Rg g t X -> _) := fun X (h : Rg g t X) => T g cap X h hl
 generalize (rt t 0).op = p at *
 generalize textT t = f at *
 generalize sz t = st at *
 have hlw : w.heap.size < (w.alloc (tbO g st cap)).heap.size := by simp
 have n1 : ¬ (9223372036854775807 < 1 + f.length) := by omega
 have n2 : ¬ (9223372036854775807 < 1 + f.length + 1) := by omega
 clear T hx hy ht
 go_enter Tryz.func68, Tryz.ntmps68
 go_wp2_with fail
 generalize w.alloc (tbO g st cap) = W at *
 refine (RO.out W R0).mono ?_
 rintro e w1 ⟨rfl, b1⟩
 have R1 := R0.below b1
 have B1 := B0.trans (b1.mono B0.size)
 replace c0 := (b1.cell (p := ⟨w.heap.size, 0, none⟩) hlw).trans c0
 have l1 : w.heap.size < w1.heap.size := Nat.lt_of_lt_of_le hlw b1.size
 clear R0 b1 B0 hlw
 go_wp2_with fail
 refine (RO.out w1 R1).mono ?_
 rintro e w2 ⟨rfl, b2⟩
 have R2 := R1.below b2
 have B2 := B1.trans (b2.mono B1.size)
 replace c0 := (b2.cell (p := ⟨w.heap.size, 0, none⟩) l1).trans c0
 clear R1 b2 B1 l1
 go_wp2_with fail
 refine (TX.out w2 R2).mono ?_
 rintro e w3 ⟨rfl, b3⟩
 have B3 := B2.trans (b3.mono B2.size)
 clear R2 b3 B2 c0
 go_wp2_with fail
 go_ret
 exact ⟨rfl, B3⟩
theorem within0 {t : Ty} (h : Ok t) (T : zas t) : zbv t 0 false := by
 rcases h.cases with rfl | rfl | ⟨p, _, _, rfl⟩ | ⟨a, ha, rfl⟩ | ⟨a, b, ha, hb, rfl⟩ | ⟨a, b, ha, hb, rfl⟩
 · exact zik _ T rfl rfl
 · exact zik _ T rfl rfl
 · exact zik _ T rfl rfl
 · exact zik _ T rfl rfl
 · exact within0p _ T rfl rfl
 · exact within0f _ T rfl rfl
theorem within1 {t : Ty} (h : Ok t) (T : zas t) : zbv t 1 (isFn t) := by
 rcases h.cases with rfl | rfl | ⟨p, _, _, rfl⟩ | ⟨a, ha, rfl⟩ | ⟨a, b, ha, hb, rfl⟩ | ⟨a, b, ha, hb, rfl⟩
 · exact zid _ T rfl rfl
 · exact zid _ T rfl rfl
 · exact zid _ T rfl rfl
 · exact zid _ T rfl rfl
 · exact within1p _ T rfl rfl
 · exact within1f _ T rfl rfl
theorem within2 {t : Ty} (h : Ok t) (T : zas t) : zbv t 2 (isFn t || isPr t) := by
 rcases h.cases with rfl | rfl | ⟨p, _, _, rfl⟩ | ⟨a, ha, rfl⟩ | ⟨a, b, ha, hb, rfl⟩ | ⟨a, b, ha, hb, rfl⟩
 · exact zie _ T rfl rfl
 · exact zie _ T rfl rfl
 · exact zie _ T rfl rfl
 · exact zie _ T rfl rfl
 · exact within2p _ T rfl rfl
 · exact within2f _ T rfl rfl
theorem text_I  : zas (tI) := by
 intro g cap w ht hl
 have B0 : Below w.heap.size w (w.alloc (tbO g (sz (tI)) cap)) := bal w _
 have c0 : (w.alloc (tbO g (sz (tI)) cap)).cell? ⟨w.heap.size, 0, none⟩ = some (.slice (some ⟨g, 0, none⟩) (sz (tI)) cap) := by simp
 have R0 := ht.below B0
 have RO : Hid (∀ X, Rg g (tI) X -> Calls Tryz.prog 62 #[.agg #[.slice (some ⟨g, 0, none⟩) (sz (tI)) cap]] X fun e w' => e = .returned (.int .i64 73) /\ Below X.heap.size X w') := fun X (h : Rg g (tI) X) => zat (tI) g cap X h (Nat.le_trans hl (by decide))
 generalize htt : (tI : Ty) = t at *
 generalize sz t = st at *
 have hlw : w.heap.size < (w.alloc (tbO g st cap)).heap.size := by simp
 clear ht hl
 go_enter Tryz.func42, Tryz.ntmps42
 go_wp2_with fail
 generalize w.alloc (tbO g st cap) = W at *
 refine (RO.out W R0).mono ?_
 rintro e w1 ⟨rfl, b1⟩
 have R1 := R0.below b1
 have B1 := B0.trans (b1.mono B0.size)
 replace c0 := (b1.cell (p := ⟨w.heap.size, 0, none⟩) hlw).trans c0
 have l1 : w.heap.size < w1.heap.size := Nat.lt_of_lt_of_le hlw b1.size
 clear R0 b1 B0 hlw
 go_wp2_with fail
 refine (RO.out w1 R1).mono ?_
 rintro e w2 ⟨rfl, b2⟩
 have R2 := R1.below b2
 have B2 := B1.trans (b2.mono B1.size)
 replace c0 := (b2.cell (p := ⟨w.heap.size, 0, none⟩) l1).trans c0
 have l2 : w.heap.size < w2.heap.size := Nat.lt_of_lt_of_le l1 b2.size
 clear R1 b2 B1 l1
 go_wp2_with fail
 refine (zbz 73 w2).mono ?_
 rintro e w' ⟨rfl, rfl⟩
 go_wp2_with fail
 refine (RO.out _ R2).mono ?_
 rintro e w3 ⟨rfl, b3⟩
 have B3 := B2.trans (b3.mono B2.size)
 have hcv := zgn (w3.alloc (.cells #[.int .u8 73] 5)) w3.heap.size 73 (by decide) (by simp)
 clear R2 b3 B2 c0
 go_wp2_with fail
 go_ret
 subst htt
 exact ⟨rfl, B3.alloc B3.size _⟩
theorem text_B  : zas (tB) := by
 intro g cap w ht hl
 have B0 : Below w.heap.size w (w.alloc (tbO g (sz (tB)) cap)) := bal w _
 have c0 : (w.alloc (tbO g (sz (tB)) cap)).cell? ⟨w.heap.size, 0, none⟩ = some (.slice (some ⟨g, 0, none⟩) (sz (tB)) cap) := by simp
 have R0 := ht.below B0
 have RO : Hid (∀ X, Rg g (tB) X -> Calls Tryz.prog 62 #[.agg #[.slice (some ⟨g, 0, none⟩) (sz (tB)) cap]] X fun e w' => e = .returned (.int .i64 66) /\ Below X.heap.size X w') := fun X (h : Rg g (tB) X) => zat (tB) g cap X h (Nat.le_trans hl (by decide))
 generalize htt : (tB : Ty) = t at *
 generalize sz t = st at *
 have hlw : w.heap.size < (w.alloc (tbO g st cap)).heap.size := by simp
 clear ht hl
 go_enter Tryz.func42, Tryz.ntmps42
 go_wp2_with fail
 generalize w.alloc (tbO g st cap) = W at *
 refine (RO.out W R0).mono ?_
 rintro e w1 ⟨rfl, b1⟩
 have R1 := R0.below b1
 have B1 := B0.trans (b1.mono B0.size)
 replace c0 := (b1.cell (p := ⟨w.heap.size, 0, none⟩) hlw).trans c0
 have l1 : w.heap.size < w1.heap.size := Nat.lt_of_lt_of_le hlw b1.size
 clear R0 b1 B0 hlw
 go_wp2_with fail
 refine (RO.out w1 R1).mono ?_
 rintro e w2 ⟨rfl, b2⟩
 have R2 := R1.below b2
 have B2 := B1.trans (b2.mono B1.size)
 replace c0 := (b2.cell (p := ⟨w.heap.size, 0, none⟩) l1).trans c0
 have l2 : w.heap.size < w2.heap.size := Nat.lt_of_lt_of_le l1 b2.size
 clear R1 b2 B1 l1
 go_wp2_with fail
 refine (zbz 66 w2).mono ?_
 rintro e w' ⟨rfl, rfl⟩
 go_wp2_with fail
 refine (RO.out _ R2).mono ?_
 rintro e w3 ⟨rfl, b3⟩
 have B3 := B2.trans (b3.mono B2.size)
 have hcv := zgn (w3.alloc (.cells #[.int .u8 66] 5)) w3.heap.size 66 (by decide) (by simp)
 clear R2 b3 B2 c0
 go_wp2_with fail
 go_ret
 subst htt
 exact ⟨rfl, B3.alloc B3.size _⟩
theorem text_V (o : Nat) (ho : 970 <= o /\ o < 1230) : zas (tV o) := by
 intro g cap w ht hl
 have B0 : Below w.heap.size w (w.alloc (tbO g (sz (tV o)) cap)) := bal w _
 have c0 : (w.alloc (tbO g (sz (tV o)) cap)).cell? ⟨w.heap.size, 0, none⟩ = some (.slice (some ⟨g, 0, none⟩) (sz (tV o)) cap) := by simp
 have R0 := ht.below B0
 have RO : Hid (∀ X, Rg g (tV o) X -> Calls Tryz.prog 62 #[.agg #[.slice (some ⟨g, 0, none⟩) (sz (tV o)) cap]] X fun e w' => e = .returned (.int .i64 ((o + 30 : Nat) : Int)) /\ Below X.heap.size X w') := fun X (h : Rg g (tV o) X) => zat (tV o) g cap X h (Nat.le_trans hl (by decide))
 generalize htt : (tV o : Ty) = t at *
 generalize sz t = st at *
 have hlw : w.heap.size < (w.alloc (tbO g st cap)).heap.size := by simp
 have VT := fun X => zmo o X ho
 obtain ⟨p, hp⟩ : ∃ p, p = o + 30 := ⟨_, rfl⟩
 rw [<- hp] at RO VT
 have e1 : ((p : Int) == 91) = false := by rw [beq_eq_false_iff_ne]; omega
 have e2 : ((p : Int) == 42) = false := by rw [beq_eq_false_iff_ne]; omega
 have e3 : ((p : Int) == 62) = false := by rw [beq_eq_false_iff_ne]; omega
 have e4 : decide ((1000 : Int) <= (p : Int)) = true := by simp; omega
 clear ht hl hp ho
 go_enter Tryz.func42, Tryz.ntmps42
 go_wp2_with fail
 generalize w.alloc (tbO g st cap) = W at *
 refine (RO.out W R0).mono ?_
 rintro e w1 ⟨rfl, b1⟩
 have R1 := R0.below b1
 have B1 := B0.trans (b1.mono B0.size)
 replace c0 := (b1.cell (p := ⟨w.heap.size, 0, none⟩) hlw).trans c0
 have l1 : w.heap.size < w1.heap.size := Nat.lt_of_lt_of_le hlw b1.size
 clear R0 b1 B0 hlw
 go_wp2_with fail
 refine (RO.out w1 R1).mono ?_
 rintro e w2 ⟨rfl, b2⟩
 have R2 := R1.below b2
 have B2 := B1.trans (b2.mono B1.size)
 replace c0 := (b2.cell (p := ⟨w.heap.size, 0, none⟩) l1).trans c0
 clear R1 b2 B1 l1
 go_wp2_with fail
 refine (zbz p w2).mono ?_
 rintro e w' ⟨rfl, rfl⟩
 rw [e4]
 clear e4
 go_wp2_with fail
 refine (RO.out _ R2).mono ?_
 rintro e w3 ⟨rfl, b3⟩
 have B3 := B2.trans (b3.mono B2.size)
 clear R2 b3 B2 c0
 go_wp2_with fail
 refine (VT w3).mono ?_
 rintro e w4 ⟨rfl, b4⟩
 go_wp2_with fail
 go_ret
 subst htt
 exact ⟨rfl, B3.trans (b4.mono B3.size)⟩
theorem text_L (a : Ty) (ha : Ok a) (T : zas a) : zas (tL a) := by
 intro g cap w ht hl
 have s1 : sz (tL a) = sz a + 1 := by simp [sz]
 have F0 : Hid (∀ X, Rg g (tL a) X -> Calls Tryz.prog 64 #[.agg #[.slice (some ⟨g, 0, none⟩) (sz (tL a)) cap]] X (TPost a X)) := fun X hr => zhj a ha g cap X hr (Nat.le_trans hl (by decide))
 have T0 : Hid (∀ g1 cap1 X, Rg g1 a X -> Calls Tryz.prog 42 #[.agg #[.slice (some ⟨g1, 0, none⟩) (sz a) cap1]] X fun e w' => e = .returned (.string ⟨(textT a).toArray⟩) /\ Below X.heap.size X w') := fun g1 cap1 X hr => T g1 cap1 X hr (by omega)
 have hlen := zbb ha
 have n1 : ¬ (9223372036854775807 < 1 + (textT a).length) := by omega
 have n2 : ¬ (9223372036854775807 < 1 + (textT a).length + 1) := by omega
 have HR : Hid (textT (tL a) = 91 :: (textT a ++ [93])) := by unfold Hid; simp [textT]
 clear s1 T hlen
 have B0 : Below w.heap.size w (w.alloc (tbO g (sz (tL a)) cap)) := bal w _
 have c0 : (w.alloc (tbO g (sz (tL a)) cap)).cell? ⟨w.heap.size, 0, none⟩ = some (.slice (some ⟨g, 0, none⟩) (sz (tL a)) cap) := by simp
 have R0 := ht.below B0
 have RO : Hid (∀ X, Rg g (tL a) X -> Calls Tryz.prog 62 #[.agg #[.slice (some ⟨g, 0, none⟩) (sz (tL a)) cap]] X fun e w' => e = .returned (.int .i64 91) /\ Below X.heap.size X w') := fun X (h : Rg g (tL a) X) => zat (tL a) g cap X h (Nat.le_trans hl (by decide))
 generalize htt : (tL a : Ty) = t at *
 generalize sz t = st at *
 have hlw : w.heap.size < (w.alloc (tbO g st cap)).heap.size := by simp
 clear ht hl
 go_enter Tryz.func42, Tryz.ntmps42
 go_wp2_with fail
 generalize w.alloc (tbO g st cap) = W at *
 refine (RO.out W R0).mono ?_
 rintro e w1 ⟨rfl, b1⟩
 have R1 := R0.below b1
 have B1 := B0.trans (b1.mono B0.size)
 replace c0 := (b1.cell (p := ⟨w.heap.size, 0, none⟩) hlw).trans c0
 have l1 : w.heap.size < w1.heap.size := Nat.lt_of_lt_of_le hlw b1.size
 clear R0 b1 B0 hlw
 go_wp2_with fail
 refine (F0.out w1 R1).mono ?_
 rintro e w2 ⟨g2, cap2, rfl, R2, hg2, b2⟩
 have B2 := B1.trans (b2.mono B1.size)
 clear c0 R1 b2 B1 l1
 generalize textT a = f at *
 go_wp2_with fail
 refine (T0.out g2 cap2 w2 R2).mono ?_
 rintro e w3 ⟨rfl, b3⟩
 have B3 := B2.trans (b3.mono B2.size)
 clear R2 b3 B2
 go_wp2_with fail
 go_ret
 rw [HR.out]
 refine ⟨?_, B3⟩
 show Ending.returned (.string _) = Ending.returned (.string _)
 rw [zet, zet, zem, zem]
 simp
theorem text_P (a b : Ty) (ha : Ok a) (hb : Ok b) (T : zas a) (T' : zas b) : zas (tP a b) := by
 intro g cap w ht hl
 have s1 : sz (tP a b) = sz a + sz b + 1 := rfl
 have F0 : Hid (∀ X, Rg g (tP a b) X -> Calls Tryz.prog 64 #[.agg #[.slice (some ⟨g, 0, none⟩) (sz (tP a b)) cap]] X (TPost a X)) := fun X hr => zby 4 (by decide) a b ha g cap X hr (Nat.le_trans hl (by decide))
 have S0 : Hid (∀ X, Rg g (tP a b) X -> Calls Tryz.prog 65 #[.agg #[.slice (some ⟨g, 0, none⟩) (sz (tP a b)) cap]] X (TPost b X)) := fun X hr => zbw 4 (by decide) a b hb g cap X hr (Nat.le_trans hl (by decide))
 have TA : Hid (∀ g1 cap1 X, Rg g1 a X -> Calls Tryz.prog 68 #[.agg #[.slice (some ⟨g1, 0, none⟩) (sz a) cap1], .int .i64 1] X fun e w' => e = .returned (.string ⟨(inBr (isFn a) (textT a)).toArray⟩) /\ Below X.heap.size X w') := fun g1 cap1 X hr => within1 ha T g1 cap1 X hr (by omega)
 have TB : Hid (∀ g1 cap1 X, Rg g1 b X -> Calls Tryz.prog 68 #[.agg #[.slice (some ⟨g1, 0, none⟩) (sz b) cap1], .int .i64 2] X fun e w' => e = .returned (.string ⟨(inBr (isFn b || isPr b) (textT b)).toArray⟩) /\ Below X.heap.size X w') := fun g1 cap1 X hr => within2 hb T' g1 cap1 X hr (by omega)
 have hla := zeh (isFn a) (textT a)
 have hlb := zeh (isFn b || isPr b) (textT b)
 have hta := zbb ha
 have htb := zbb hb
 have n1 : ¬ (9223372036854775807 < (inBr (isFn a) (textT a)).length + 1) := by omega
 have n2 : ¬ (9223372036854775807 < (inBr (isFn a) (textT a)).length + 1 + (inBr (isFn b || isPr b) (textT b)).length) := by omega
 have HR : Hid (textT (tP a b) = inBr (isFn a) (textT a) ++ 42 :: inBr (isFn b || isPr b) (textT b)) := by unfold Hid; simp [textT]
 clear s1 T T' hla hlb hta htb
 have B0 : Below w.heap.size w (w.alloc (tbO g (sz (tP a b)) cap)) := bal w _
 have c0 : (w.alloc (tbO g (sz (tP a b)) cap)).cell? ⟨w.heap.size, 0, none⟩ = some (.slice (some ⟨g, 0, none⟩) (sz (tP a b)) cap) := by simp
 have R0 := ht.below B0
 have RO : Hid (∀ X, Rg g (tP a b) X -> Calls Tryz.prog 62 #[.agg #[.slice (some ⟨g, 0, none⟩) (sz (tP a b)) cap]] X fun e w' => e = .returned (.int .i64 42) /\ Below X.heap.size X w') := fun X (h : Rg g (tP a b) X) => zat (tP a b) g cap X h (Nat.le_trans hl (by decide))
 generalize htt : (tP a b : Ty) = t at *
 generalize sz t = st at *
 have hlw : w.heap.size < (w.alloc (tbO g st cap)).heap.size := by simp
 clear ht hl
 go_enter Tryz.func42, Tryz.ntmps42
 go_wp2_with fail
 generalize w.alloc (tbO g st cap) = W at *
 refine (RO.out W R0).mono ?_
 rintro e w1 ⟨rfl, b1⟩
 have R1 := R0.below b1
 have B1 := B0.trans (b1.mono B0.size)
 replace c0 := (b1.cell (p := ⟨w.heap.size, 0, none⟩) hlw).trans c0
 have l1 : w.heap.size < w1.heap.size := Nat.lt_of_lt_of_le hlw b1.size
 clear R0 b1 B0 hlw
 go_wp2_with fail
 generalize inBr (isFn a) (textT a) = fa at *
 generalize inBr (isFn b || isPr b) (textT b) = fb at *
 have q1 := c0
 have HB1 : Hid (Below w.heap.size w w1) := B1
 clear B1
 go_region_held3 (fun wq => wq.cell? ⟨w.heap.size, 0, none⟩ = some (.slice (some ⟨g, 0, none⟩) st cap))
  (first | (go_keep; done) | exact q1)
  (first
   | (go_at_call 65; refine (S0.out _ ((R1.below b2).below b3)).mono ?_; rintro e w4 ⟨g4, cap4, rfl, R4, hg4, b4⟩; (have s4 := b4.size); (have q1 := (b4.cell (p := ⟨w.heap.size, 0, none⟩) (by show w.heap.size < _; omega)).trans q1))
   | (go_at_call 64; refine (F0.out _ R1.drew).mono ?_; rintro e w2 ⟨g2, cap2, rfl, R2, hg2, b2'⟩; (have b2 := zdo b2'); (have s2 := b2.size); (have q1 := (b2.cell (p := ⟨w.heap.size, 0, none⟩) (by show w.heap.size < _; omega)).trans q1))
   | (go_at_call 68; (have hR4 := R4); refine (TB.out g4 cap4 w4 R4).mono ?_; rintro e w5 ⟨rfl, b5⟩; (have s5 := b5.size); (have q1 := (b5.cell (p := ⟨w.heap.size, 0, none⟩) (by show w.heap.size < _; omega)).trans q1))
   | (go_at_call 68; refine (TA.out g2 cap2 w2 R2).mono ?_; rintro e w3 ⟨rfl, b3⟩; (have s3 := b3.size); (have q1 := (b3.cell (p := ⟨w.heap.size, 0, none⟩) (by show w.heap.size < _; omega)).trans q1)))
 go_wp2_with fail
 go_ret
 rw [HR.out]
 refine ⟨?_, (((HB1.out.trans (b2.mono HB1.out.size)).trans (b3.mono (by have := HB1.out.size; omega))).trans (b4.mono (by have := HB1.out.size; omega))).trans (b5.mono (by have := HB1.out.size; omega))⟩
 show Ending.returned (.string _) = Ending.returned (.string _)
 rw [zet, zem, zem]
 simp
theorem text_F (a b : Ty) (ha : Ok a) (hb : Ok b) (T : zas a) (T' : zas b) : zas (tF a b) := by
 intro g cap w ht hl
 have s1 : sz (tF a b) = sz a + sz b + 1 := rfl
 have F0 : Hid (∀ X, Rg g (tF a b) X -> Calls Tryz.prog 64 #[.agg #[.slice (some ⟨g, 0, none⟩) (sz (tF a b)) cap]] X (TPost a X)) := fun X hr => zby 5 (by decide) a b ha g cap X hr (Nat.le_trans hl (by decide))
 have S0 : Hid (∀ X, Rg g (tF a b) X -> Calls Tryz.prog 65 #[.agg #[.slice (some ⟨g, 0, none⟩) (sz (tF a b)) cap]] X (TPost b X)) := fun X hr => zbw 5 (by decide) a b hb g cap X hr (Nat.le_trans hl (by decide))
 have TA : Hid (∀ g1 cap1 X, Rg g1 a X -> Calls Tryz.prog 68 #[.agg #[.slice (some ⟨g1, 0, none⟩) (sz a) cap1], .int .i64 1] X fun e w' => e = .returned (.string ⟨(inBr (isFn a) (textT a)).toArray⟩) /\ Below X.heap.size X w') := fun g1 cap1 X hr => within1 ha T g1 cap1 X hr (by omega)
 have TB : Hid (∀ g1 cap1 X, Rg g1 b X -> Calls Tryz.prog 68 #[.agg #[.slice (some ⟨g1, 0, none⟩) (sz b) cap1], .int .i64 0] X fun e w' => e = .returned (.string ⟨(inBr false (textT b)).toArray⟩) /\ Below X.heap.size X w') := fun g1 cap1 X hr => within0 hb T' g1 cap1 X hr (by omega)
 have hla := zeh (isFn a) (textT a)
 have hlb := zeh false (textT b)
 have hta := zbb ha
 have htb := zbb hb
 have n1 : ¬ (9223372036854775807 < (inBr (isFn a) (textT a)).length + 1) := by omega
 have n2 : ¬ (9223372036854775807 < (inBr (isFn a) (textT a)).length + 1 + (inBr false (textT b)).length) := by omega
 have HR : Hid (textT (tF a b) = inBr (isFn a) (textT a) ++ 62 :: inBr false (textT b)) := by unfold Hid; simp [textT, inBr]
 clear s1 T T' hla hlb hta htb
 have B0 : Below w.heap.size w (w.alloc (tbO g (sz (tF a b)) cap)) := bal w _
 have c0 : (w.alloc (tbO g (sz (tF a b)) cap)).cell? ⟨w.heap.size, 0, none⟩ = some (.slice (some ⟨g, 0, none⟩) (sz (tF a b)) cap) := by simp
 have R0 := ht.below B0
 have RO : Hid (∀ X, Rg g (tF a b) X -> Calls Tryz.prog 62 #[.agg #[.slice (some ⟨g, 0, none⟩) (sz (tF a b)) cap]] X fun e w' => e = .returned (.int .i64 62) /\ Below X.heap.size X w') := fun X (h : Rg g (tF a b) X) => zat (tF a b) g cap X h (Nat.le_trans hl (by decide))
 generalize htt : (tF a b : Ty) = t at *
 generalize sz t = st at *
 have hlw : w.heap.size < (w.alloc (tbO g st cap)).heap.size := by simp
 clear ht hl
 go_enter Tryz.func42, Tryz.ntmps42
 go_wp2_with fail
 generalize w.alloc (tbO g st cap) = W at *
 refine (RO.out W R0).mono ?_
 rintro e w1 ⟨rfl, b1⟩
 have R1 := R0.below b1
 have B1 := B0.trans (b1.mono B0.size)
 replace c0 := (b1.cell (p := ⟨w.heap.size, 0, none⟩) hlw).trans c0
 have l1 : w.heap.size < w1.heap.size := Nat.lt_of_lt_of_le hlw b1.size
 clear R0 b1 B0 hlw
 go_wp2_with fail
 generalize inBr (isFn a) (textT a) = fa at *
 generalize inBr false (textT b) = fb at *
 have q1 := c0
 have HB1 : Hid (Below w.heap.size w w1) := B1
 clear B1
 go_region_held3 (fun wq => wq.cell? ⟨w.heap.size, 0, none⟩ = some (.slice (some ⟨g, 0, none⟩) st cap))
  (first | (go_keep; done) | exact q1)
  (first
   | (go_at_call 65; refine (S0.out _ ((R1.below b2).below b3)).mono ?_; rintro e w4 ⟨g4, cap4, rfl, R4, hg4, b4⟩; (have s4 := b4.size); (have q1 := (b4.cell (p := ⟨w.heap.size, 0, none⟩) (by show w.heap.size < _; omega)).trans q1))
   | (go_at_call 64; refine (F0.out _ R1.drew).mono ?_; rintro e w2 ⟨g2, cap2, rfl, R2, hg2, b2'⟩; (have b2 := zdo b2'); (have s2 := b2.size); (have q1 := (b2.cell (p := ⟨w.heap.size, 0, none⟩) (by show w.heap.size < _; omega)).trans q1))
   | (go_at_call 68; (have hR4 := R4); refine (TB.out g4 cap4 w4 R4).mono ?_; rintro e w5 ⟨rfl, b5⟩; (have s5 := b5.size); (have q1 := (b5.cell (p := ⟨w.heap.size, 0, none⟩) (by show w.heap.size < _; omega)).trans q1))
   | (go_at_call 68; refine (TA.out g2 cap2 w2 R2).mono ?_; rintro e w3 ⟨rfl, b3⟩; (have s3 := b3.size); (have q1 := (b3.cell (p := ⟨w.heap.size, 0, none⟩) (by show w.heap.size < _; omega)).trans q1)))
 go_wp2_with fail
 go_ret
 rw [HR.out]
 refine ⟨?_, (((HB1.out.trans (b2.mono HB1.out.size)).trans (b3.mono (by have := HB1.out.size; omega))).trans (b4.mono (by have := HB1.out.size; omega))).trans (b5.mono (by have := HB1.out.size; omega))⟩
 show Ending.returned (.string _) = Ending.returned (.string _)
 rw [zet, zem, zem]
 simp
theorem text_any : ∀ t : Ty, Ok t -> zas t := by
 intro t
 induction t with
 | nil => intro h; exact h.elim
 | node g o u a b iha ihb =>
  intro h
  cases u
  rcases h with ⟨rfl, rfl, rfl, rfl⟩ | ⟨rfl, rfl, rfl, rfl⟩ | ⟨rfl, ho, rfl, rfl⟩ | ⟨rfl, rfl, ha, rfl⟩ | ⟨rfl, rfl, ha, hb⟩ | ⟨rfl, rfl, ha, hb⟩
  · exact text_I
  · exact text_B
  · exact text_V o ho
  · exact text_L a ha (iha ha)
  · exact text_P a b ha hb (iha ha) (ihb hb)
  · exact text_F a b ha hb (iha ha) (ihb hb)
def ints (l : List Nat) : List Value := l.map fun o => .int .i64 ((o + 30 : Nat) : Int)
theorem infoIntL : (Tryz.prog.info? 3).map (fun i => (i.zero, i.size, i.bytes)) = some (some (.int .i64 0), 1, 8) := by kernel_rfl
def zjb (B : Nat) (l : List Nat) (V : Value) (w : World) (e : Ending) (w' : World) : Prop :=
 ∃ V', e = .returned V' /\ w'.ownsRow B 3 1 V' l.length (ints l) /\ w.grownBy w' V.ownBlock /\ (V'.ownBlock = V.ownBlock \/ ∃ k, V'.ownBlock = some k /\ w.heap.size <= k)
def zar (t : Ty) : Prop := ∀ (B : Nat) (l : List Nat) (V : Value) (g cap : Nat) (w : World), w.ownsRow B 3 1 V l.length (ints l) -> B <= w.heap.size -> Rg g t w -> V.ownBlock ≠ some g -> sz t <= 60000 -> l.length + sz t <= 200000 ->
 Calls Tryz.prog 39 #[.agg #[.slice (some ⟨g, 0, none⟩) (sz t) cap], V] w (zjb B (zaa t l) V w)
theorem zak {w w' : World} (h : Below w.heap.size w w') (row : Option Nat) : w.grownBy w' row := ⟨h.os, h.tape, h.output, h.size, fun k hk _ => h.block k hk⟩
theorem zbp {w w' : World} {B : Nat} {e : TypeId} {n m : Nat} {v : Value} {xs : List Value} (h : w.ownsRow B e n v m xs) (hb : Below w.heap.size w w') : w'.ownsRow B e n v m xs := by
 obtain ⟨h1, h2 | ⟨g, cap, cur, e, hB, hg, h3⟩⟩ := h
 · exact ⟨h1, .inl h2⟩
 · exact ⟨h1, .inr ⟨g, cap, cur, e, hB, (hb.block g (Array.getElem?_eq_some_iff.1 hg).1).trans hg, h3⟩⟩
theorem zkh : ∀ (t : Ty) (l : List Nat), (zaa t l).length <= l.length + sz t := by
 intro t
 induction t with
 | nil => intro l; simp [zaa, sz]
 | node g o u a b iha ihb =>
  intro l
  simp only [zaa, sz]
  split
  · split
    · omega
    · simp
  · have h1 := iha l
    have h2 := ihb (zaa a l)
    omega
theorem znm {w : World} {B : Nat} {V : Value} {l : List Nat} {k o : Nat} (h : w.ownsRow B 3 1 V l.length (ints l)) (hk : l[k]? = some o) : ∃ gg cap, V = .slice (some ⟨gg, 0, none⟩) l.length cap /\ w.cell? ⟨gg, k, none⟩ = some (.int .i64 ((o + 30 : Nat) : Int)) := by
 have hlt := (List.getElem?_eq_some_iff.1 hk).1
 rcases h.2 with ⟨rfl, h0⟩ | ⟨gg, cap, cur, rfl, _, hg, _, _, _, hc⟩
 · omega
 · refine ⟨gg, cap, rfl, ?_⟩
   rw [Lib.cell_of_heap hg]
   have e1 : (ints l)[k]? = some (.int .i64 ((o + 30 : Nat) : Int)) := by simp [ints, hk]
   rw [<- hc, List.getElem?_take_of_lt (by omega)] at e1
   simpa using e1
theorem leaves_I  : zar (tI) := by
 intro B l V g cap w hown hB ht hne hl hll
 have B0 : Below w.heap.size w (w.alloc (tbO g (sz (tI)) cap)) := bal w _
 have c0 : (w.alloc (tbO g (sz (tI)) cap)).cell? ⟨w.heap.size, 0, none⟩ = some (.slice (some ⟨g, 0, none⟩) (sz (tI)) cap) := by simp
 have R0 := ht.below B0
 have RO : Hid (∀ X, Rg g (tI) X -> Calls Tryz.prog 62 #[.agg #[.slice (some ⟨g, 0, none⟩) (sz (tI)) cap]] X fun e w' => e = .returned (.int .i64 73) /\ Below X.heap.size X w') := fun X (h : Rg g (tI) X) => zat (tI) g cap X h (Nat.le_trans hl (by decide))
 obtain ⟨va, vm, vc, hV⟩ : ∃ a m c, V = .slice a m c := by
  rcases hown.2 with ⟨rfl, _⟩ | ⟨g', cap, cur, rfl, _⟩ <;> exact ⟨_, _, _, rfl⟩
 generalize htt : (tI : Ty) = t at *
 generalize sz t = st at *
 have hlw : w.heap.size < (w.alloc (tbO g st cap)).heap.size := by simp
 clear ht hl
 subst hV
 go_enter Tryz.func39, Tryz.ntmps39
 go_wp2_with fail
 generalize w.alloc (tbO g st cap) = W at *
 refine (RO.out W R0).mono ?_
 rintro e w1 ⟨rfl, b1⟩
 have R1 := R0.below b1
 have B1 := B0.trans (b1.mono B0.size)
 replace c0 := (b1.cell (p := ⟨w.heap.size, 0, none⟩) hlw).trans c0
 have l1 : w.heap.size < w1.heap.size := Nat.lt_of_lt_of_le hlw b1.size
 clear R0 b1 B0 hlw
 go_wp2_with fail
 refine (zbz 73 w1).mono ?_
 rintro e w' ⟨rfl, rfl⟩
 go_wp2_with fail
 go_ret
 subst htt
 exact ⟨_, rfl, zbp hown B1, zak B1 _, .inl rfl⟩
theorem leaves_B  : zar (tB) := by
 intro B l V g cap w hown hB ht hne hl hll
 have B0 : Below w.heap.size w (w.alloc (tbO g (sz (tB)) cap)) := bal w _
 have c0 : (w.alloc (tbO g (sz (tB)) cap)).cell? ⟨w.heap.size, 0, none⟩ = some (.slice (some ⟨g, 0, none⟩) (sz (tB)) cap) := by simp
 have R0 := ht.below B0
 have RO : Hid (∀ X, Rg g (tB) X -> Calls Tryz.prog 62 #[.agg #[.slice (some ⟨g, 0, none⟩) (sz (tB)) cap]] X fun e w' => e = .returned (.int .i64 66) /\ Below X.heap.size X w') := fun X (h : Rg g (tB) X) => zat (tB) g cap X h (Nat.le_trans hl (by decide))
 obtain ⟨va, vm, vc, hV⟩ : ∃ a m c, V = .slice a m c := by
  rcases hown.2 with ⟨rfl, _⟩ | ⟨g', cap, cur, rfl, _⟩ <;> exact ⟨_, _, _, rfl⟩
 generalize htt : (tB : Ty) = t at *
 generalize sz t = st at *
 have hlw : w.heap.size < (w.alloc (tbO g st cap)).heap.size := by simp
 clear ht hl
 subst hV
 go_enter Tryz.func39, Tryz.ntmps39
 go_wp2_with fail
 generalize w.alloc (tbO g st cap) = W at *
 refine (RO.out W R0).mono ?_
 rintro e w1 ⟨rfl, b1⟩
 have R1 := R0.below b1
 have B1 := B0.trans (b1.mono B0.size)
 replace c0 := (b1.cell (p := ⟨w.heap.size, 0, none⟩) hlw).trans c0
 have l1 : w.heap.size < w1.heap.size := Nat.lt_of_lt_of_le hlw b1.size
 clear R0 b1 B0 hlw
 go_wp2_with fail
 refine (zbz 66 w1).mono ?_
 rintro e w' ⟨rfl, rfl⟩
 go_wp2_with fail
 go_ret
 subst htt
 exact ⟨_, rfl, zbp hown B1, zak B1 _, .inl rfl⟩
theorem leaves_V (o : Nat) (ho : 970 <= o /\ o < 1230) : zar (tV o) := by
 intro B l V g cap w hown hB ht hne hl hll
 have B0 : Below w.heap.size w (w.alloc (tbO g (sz (tV o)) cap)) := bal w _
 have c0 : (w.alloc (tbO g (sz (tV o)) cap)).cell? ⟨w.heap.size, 0, none⟩ = some (.slice (some ⟨g, 0, none⟩) (sz (tV o)) cap) := by simp
 have R0 := ht.below B0
 have RO : Hid (∀ X, Rg g (tV o) X -> Calls Tryz.prog 62 #[.agg #[.slice (some ⟨g, 0, none⟩) (sz (tV o)) cap]] X fun e w' => e = .returned (.int .i64 ((o + 30 : Nat) : Int)) /\ Below X.heap.size X w') := fun X (h : Rg g (tV o) X) => zat (tV o) g cap X h (Nat.le_trans hl (by decide))
 obtain ⟨va, vm, vc, hV⟩ : ∃ a m c, V = .slice a m c := by
  rcases hown.2 with ⟨rfl, _⟩ | ⟨g', cap, cur, rfl, _⟩ <;> exact ⟨_, _, _, rfl⟩
 generalize htt : (tV o : Ty) = t at *
 generalize sz t = st at *
 have hlw : w.heap.size < (w.alloc (tbO g st cap)).heap.size := by simp
 clear ht hl
 obtain ⟨p, hp⟩ : ∃ p, p = o + 30 := ⟨_, rfl⟩
 rw [<- hp] at RO
 have HP : Hid (p = o + 30) := hp
 have e4 : decide ((1000 : Int) <= (p : Int)) = true := by simp; omega
 have HL : Hid (zaa t l = if l.contains o then l else l ++ [o]) := by unfold Hid; rw [<- htt]; simp [zaa]
 have hpb : p < 2000 := by omega
 obtain ⟨i0, hi0, hz0, hz1, hz2⟩ := info_parts infoIntL
 clear hp ho htt
 have HC : Hid (∀ k x, l[k]? = some x -> ∀ Y, Below w.heap.size w Y -> ∃ gg, va = some ⟨gg, 0, none⟩ /\ Y.cell? ⟨gg, k, none⟩ = some (.int .i64 ((x + 30 : Nat) : Int))) := by
  intro k x hk Y hY
  obtain ⟨gg, cap', e, hc⟩ := znm (zbp hown hY) hk
  rw [hV] at e
  simp at e
  exact ⟨gg, e.1, hc⟩
 have hvm : vm = l.length := by
  rcases hown.2 with ⟨e, h0⟩ | ⟨g', cap', cur, e, _⟩
  · rw [hV] at e; simp at e; omega
  · rw [hV] at e; simp at e; exact e.2.1
 subst hvm
 subst hV
 go_enter Tryz.func39, Tryz.ntmps39
 go_wp2_with fail
 generalize w.alloc (tbO g st cap) = W at *
 refine (RO.out W R0).mono ?_
 rintro e w1 ⟨rfl, b1⟩
 have R1 := R0.below b1
 have B1 := B0.trans (b1.mono B0.size)
 replace c0 := (b1.cell (p := ⟨w.heap.size, 0, none⟩) hlw).trans c0
 have l1 : w.heap.size < w1.heap.size := Nat.lt_of_lt_of_le hlw b1.size
 clear R0 b1 B0 hlw
 go_wp2_with fail
 refine (zbz p w1).mono ?_
 rintro e w' ⟨rfl, rfl⟩
 rw [e4]
 clear e4
 generalize hll2 : l.length = ll at *
 have HLL : Hid (l.length = ll) := hll2
 clear hll2
 go_wp2_with fail
 go_loopw [6] (fun i wr => ∃ k : Nat, i = .int .i64 (k : Int) /\ k <= ll /\ Hid (∀ (j x : Nat), j < k -> l[j]? = some x -> x ≠ o) /\ wr = w') (fun i _ => ll - (intOf i).toNat)
 case atStart => exact ⟨0, rfl, Nat.zero_le _, fun j x hj => absurd hj (by omega), rfl⟩
 case round =>
  obtain ⟨k, rfl, hk, HU, hwr⟩ := hrel
  subst hwr
  rcases Nat.lt_or_ge k ll with hlt | hge
  · obtain ⟨x, hx⟩ : ∃ x, l[k]? = some x := ⟨_, List.getElem?_eq_getElem (by rw [HLL.out]; exact hlt)⟩
    obtain ⟨gg, rfl, hc⟩ := HC.out k x hx _ B1
    have HX : Hid (l[k]? = some x) := hx
    obtain ⟨y, hy⟩ : ∃ y, y = x + 30 := ⟨_, rfl⟩
    rw [<- hy] at hc
    have HY : Hid (y = x + 30) := hy
    clear hx hy
    by_cases hp : y = p
    · have e1 : ((y : Int) == (p : Int)) = true := by rw [hp]; simp
      have exo : x = o := by have := HY.out; have := HP.out; omega
      have HR : Hid (zaa t l = l) := by
       unfold Hid
       rw [HL.out, if_pos (by rw [List.contains_iff_mem]; have := HX.out; rw [exo] at this; exact List.mem_of_getElem? this)]
      clear hp exo
      go_wp2_with fail
      go_ret
      unfold zjb
      rw [HR.out, HLL.out]
      exact ⟨_, rfl, zbp hown B1, zak B1 _, .inl rfl⟩
    · have e1 : ((y : Int) == (p : Int)) = false := by rw [beq_eq_false_iff_ne]; omega
      have HM : Hid (∀ (j x : Nat), j < k + 1 -> l[j]? = some x -> x ≠ o) := by
       intro j z hj hz
       rcases Nat.lt_or_ge j k with h1 | h1
       · exact HU.out j z h1 hz
       · obtain rfl : j = k := by omega
         rw [HX.out] at hz
         obtain rfl := Option.some.inj hz
         intro e
         exact hp (by have := HY.out; have := HP.out; omega)
      clear hp
      go_wp2_with fail
      go_roundw
      case rel => exact ⟨k + 1, by simp, by omega, HM, by trivial⟩
      case measure => simp [intOf]; omega
  · obtain rfl : k = ll := by omega
    have HR : Hid (zaa t l = l ++ [o]) := by
     unfold Hid
     rw [HL.out, if_neg (fun hq => ?_)]
     rw [List.contains_iff_mem] at hq
     obtain ⟨m, hm, e2⟩ := List.getElem_of_mem hq
     exact HU.out m o (by have := HLL.out; omega) (by rw [List.getElem?_eq_getElem hm, e2]) rfl
    have hown1 := zbp hown B1
    have hs1 := B1.size
    have HI : Hid (ints (l ++ [o]) = ints l ++ [.int .i64 (p : Int)]) := by unfold Hid; rw [HP.out]; simp [ints]
    go_wp2_with (at_builtin; refine wpList_append_own_at _ rfl _ _ 63 rfl B 3 i0 (.int .i64 0) 1 8 Tryz.underlying63 hi0 hz0 hz1 hz2 rfl (by decide) _ _ _ rfl (hown1.alloc _) ⟨_, 0, none⟩ 1 1 [.int .i64 (p : Int)] rfl rfl ?c1 ?c2 ?c3 ?c4 ?c5 ?_)
    case c1 =>
     intro j u hj
     match j, hj with
     | 0, hj => simp at hj; subst hj; simp [Addr.add]
    case c2 => intro u hu; simp at hu; subst hu; rfl
    case c3 => unfold maxLen; omega
    case c4 => omega
    case c5 => simp; omega
    intro v' w5 hown' hgrow hnil hat
    obtain ⟨xa, xm, xc, hv'⟩ : ∃ a m c, v' = .slice a m c := by
     rcases hown'.2 with ⟨rfl, _⟩ | ⟨g', cap', cur, rfl, _⟩ <;> exact ⟨_, _, _, rfl⟩
    have HO : Hid (w5.ownsRow B 3 1 v' (l ++ [o]).length (ints (l ++ [o]))) := by
     unfold Hid
     rw [HI.out, List.length_append, HLL.out]
     exact hown'
    have HG : Hid (w.grownBy w5 (Value.slice va k vc).ownBlock) := ((zak B1 _).trans (World.grownBy_alloc _ _ _)).trans hgrow
    have HA : Hid (v'.ownBlock = (Value.slice va k vc).ownBlock \/ ∃ j, v'.ownBlock = some j /\ w.heap.size <= j) := by
     rcases hat with h | h
     · exact .inl h
     · exact .inr ⟨_, h, by omega⟩
    clear hgrow hat hnil hown'
    subst hv'
    go_wp2_with fail
    go_ret
    unfold zjb
    rw [HR.out]
    exact ⟨_, rfl, HO.out, HG.out, HA.out⟩
theorem zhp {w : World} {B : Nat} {e : TypeId} {n m : Nat} {v : Value} {xs : List Value} (h : w.ownsRow B e n v m xs) {j : Nat} (hj : v.ownBlock = some j) : j < w.heap.size := by
 rcases h.2 with ⟨rfl, _⟩ | ⟨g, cap, cur, rfl, _, hg, _⟩
 · cases hj
 · cases hj
   exact (Array.getElem?_eq_some_iff.1 hg).1
theorem zcw {w : World} {B : Nat} {e : TypeId} {n m : Nat} {v : Value} {xs : List Value} (h : w.ownsRow B e n v m xs) : ∃ a m c, v = .slice a m c := by
 rcases h.2 with ⟨rfl, _⟩ | ⟨g', cap', cur, rfl, _⟩ <;> exact ⟨_, _, _, rfl⟩
theorem leaves_L (a : Ty) (ha : Ok a) (ih : zar a) : zar (tL a) := by
 intro B l V g cap w hown hB ht hne hl hll
 have FI : Hid (∀ X, Rg g (tL a) X -> Calls Tryz.prog 64 #[.agg #[.slice (some ⟨g, 0, none⟩) (sz (tL a)) cap]] X (TPost a X)) := fun X (h : Rg g (tL a) X) => zhj a ha g cap X h (Nat.le_trans hl (by decide))
 have HS : Hid (sz a <= 60000 /\ l.length + sz a <= 200000 /\ True) := by
  have e : sz (tL a) = sz a + 1 := by simp [sz]
  rw [e] at hl hll
  exact ⟨by omega, by omega, trivial⟩
 have HL : Hid (zaa (tL a) l = zaa a l) := by unfold Hid; simp [zaa]
 have IA : Hid (zar a) := ih
 clear ih
 have B0 : Below w.heap.size w (w.alloc (tbO g (sz (tL a)) cap)) := bal w _
 have c0 : (w.alloc (tbO g (sz (tL a)) cap)).cell? ⟨w.heap.size, 0, none⟩ = some (.slice (some ⟨g, 0, none⟩) (sz (tL a)) cap) := by simp
 have R0 := ht.below B0
 have RO : Hid (∀ X, Rg g (tL a) X -> Calls Tryz.prog 62 #[.agg #[.slice (some ⟨g, 0, none⟩) (sz (tL a)) cap]] X fun e w' => e = .returned (.int .i64 91) /\ Below X.heap.size X w') := fun X (h : Rg g (tL a) X) => zat (tL a) g cap X h (Nat.le_trans hl (by decide))
 obtain ⟨va, vm, vc, hV⟩ : ∃ a m c, V = .slice a m c := by
  rcases hown.2 with ⟨rfl, _⟩ | ⟨g', cap, cur, rfl, _⟩ <;> exact ⟨_, _, _, rfl⟩
 generalize htt : (tL a : Ty) = t at *
 generalize sz t = st at *
 have hlw : w.heap.size < (w.alloc (tbO g st cap)).heap.size := by simp
 clear ht hl
 subst hV
 go_enter Tryz.func39, Tryz.ntmps39
 go_wp2_with fail
 generalize w.alloc (tbO g st cap) = W at *
 refine (RO.out W R0).mono ?_
 rintro e w1 ⟨rfl, b1⟩
 have R1 := R0.below b1
 have B1 := B0.trans (b1.mono B0.size)
 replace c0 := (b1.cell (p := ⟨w.heap.size, 0, none⟩) hlw).trans c0
 have l1 : w.heap.size < w1.heap.size := Nat.lt_of_lt_of_le hlw b1.size
 clear R0 b1 B0 hlw
 go_wp2_with fail
 refine (zbz 91 w1).mono ?_
 rintro e w' ⟨rfl, rfl⟩
 go_wp2_with fail
 refine (FI.out w' R1).mono ?_
 rintro e w2 ⟨g2, cap2, rfl, R2, hg2, b2⟩
 have B2 := B1.trans (b2.mono B1.size)
 have hown2 : Hid (w2.ownsRow B 3 1 (.slice va vm vc) l.length (ints l)) := zbp hown B2
 have hne2 : Hid ((Value.slice va vm vc).ownBlock ≠ some g2) := fun h => by have := zhp hown h; have := B1.size; omega
 go_wp2_with fail
 refine (IA.out B l _ g2 cap2 w2 hown2.out (Nat.le_trans hB B2.size) R2 hne2.out HS.out.1 HS.out.2.1).mono ?_
 rintro e w3 ⟨V', rfl, hown3, hgr, hat⟩
 obtain ⟨xa, xm, xc, rfl⟩ := zcw hown3
 have HO : Hid (w3.ownsRow B 3 1 (.slice xa xm xc) (zaa a l).length (ints (zaa a l))) := hown3
 have HG : Hid (w.grownBy w3 (Value.slice va vm vc).ownBlock) := (zak B2 _).trans hgr
 have HA : Hid ((Value.slice xa xm xc).ownBlock = (Value.slice va vm vc).ownBlock \/ ∃ j, (Value.slice xa xm xc).ownBlock = some j /\ w.heap.size <= j) := by
  rcases hat with h | ⟨j, h, hj⟩
  · exact .inl h
  · exact .inr ⟨j, h, Nat.le_trans B2.size hj⟩
 clear hown3 hgr hat
 go_wp2_with fail
 go_ret
 unfold zjb
 rw [HL.out]
 exact ⟨_, rfl, HO.out, HG.out, HA.out⟩
theorem leaves_P (a b : Ty) (ha : Ok a) (hb : Ok b) (ih : zar a) (ih2 : zar b) : zar (tP a b) := by
 intro B l V g cap w hown hB ht hne hl hll
 have FI : Hid (∀ X, Rg g (tP a b) X -> Calls Tryz.prog 64 #[.agg #[.slice (some ⟨g, 0, none⟩) (sz (tP a b)) cap]] X (TPost a X)) := fun X (h : Rg g (tP a b) X) => zby 4 (Or.inl rfl) a b ha g cap X h (Nat.le_trans hl (by decide))
 have SE : Hid (∀ X, Rg g (tP a b) X -> Calls Tryz.prog 65 #[.agg #[.slice (some ⟨g, 0, none⟩) (sz (tP a b)) cap]] X (TPost b X)) := fun X (h : Rg g (tP a b) X) => zbw 4 (Or.inl rfl) a b hb g cap X h (Nat.le_trans hl (by decide))
 have HS : Hid (sz a <= 60000 /\ l.length + sz a <= 200000 /\ sz b <= 60000 /\ (zaa a l).length + sz b <= 200000) := by
  have e : sz (tP a b) = sz a + sz b + 1 := by simp [sz]
  rw [e] at hl hll
  have := zkh a l
  exact ⟨by omega, by omega, by omega, by omega⟩
 have HL : Hid (zaa (tP a b) l = zaa b (zaa a l)) := by unfold Hid; simp [zaa]
 have IA : Hid (zar a) := ih
 have IB : Hid (zar b) := ih2
 clear ih ih2
 have B0 : Below w.heap.size w (w.alloc (tbO g (sz (tP a b)) cap)) := bal w _
 have c0 : (w.alloc (tbO g (sz (tP a b)) cap)).cell? ⟨w.heap.size, 0, none⟩ = some (.slice (some ⟨g, 0, none⟩) (sz (tP a b)) cap) := by simp
 have R0 := ht.below B0
 have RO : Hid (∀ X, Rg g (tP a b) X -> Calls Tryz.prog 62 #[.agg #[.slice (some ⟨g, 0, none⟩) (sz (tP a b)) cap]] X fun e w' => e = .returned (.int .i64 42) /\ Below X.heap.size X w') := fun X (h : Rg g (tP a b) X) => zat (tP a b) g cap X h (Nat.le_trans hl (by decide))
 obtain ⟨va, vm, vc, hV⟩ : ∃ a m c, V = .slice a m c := by
  rcases hown.2 with ⟨rfl, _⟩ | ⟨g', cap, cur, rfl, _⟩ <;> exact ⟨_, _, _, rfl⟩
 generalize htt : (tP a b : Ty) = t at *
 generalize sz t = st at *
 have hlw : w.heap.size < (w.alloc (tbO g st cap)).heap.size := by simp
 clear ht hl
 subst hV
 go_enter Tryz.func39, Tryz.ntmps39
 go_wp2_with fail
 generalize w.alloc (tbO g st cap) = W at *
 refine (RO.out W R0).mono ?_
 rintro e w1 ⟨rfl, b1⟩
 have R1 := R0.below b1
 have B1 := B0.trans (b1.mono B0.size)
 replace c0 := (b1.cell (p := ⟨w.heap.size, 0, none⟩) hlw).trans c0
 have l1 : w.heap.size < w1.heap.size := Nat.lt_of_lt_of_le hlw b1.size
 clear R0 b1 B0 hlw
 go_wp2_with fail
 refine (zbz 42 w1).mono ?_
 rintro e w' ⟨rfl, rfl⟩
 go_wp2_with fail
 refine (FI.out w' R1).mono ?_
 rintro e w2 ⟨g2, cap2, rfl, R2, hg2, b2⟩
 have B2 := B1.trans (b2.mono B1.size)
 have hown2 : Hid (w2.ownsRow B 3 1 (.slice va vm vc) l.length (ints l)) := zbp hown B2
 have hne2 : Hid ((Value.slice va vm vc).ownBlock ≠ some g2) := fun h => by have := zhp hown h; have := B1.size; omega
 go_wp2_with fail
 refine (IA.out B l _ g2 cap2 w2 hown2.out (Nat.le_trans hB B2.size) R2 hne2.out HS.out.1 HS.out.2.1).mono ?_
 rintro e w3 ⟨V', rfl, hown3, hgr, hat⟩
 obtain ⟨xa, xm, xc, rfl⟩ := zcw hown3
 have HO : Hid (w3.ownsRow B 3 1 (.slice xa xm xc) (zaa a l).length (ints (zaa a l))) := hown3
 have HG : Hid (w.grownBy w3 (Value.slice va vm vc).ownBlock) := (zak B2 _).trans hgr
 have HA : Hid ((Value.slice xa xm xc).ownBlock = (Value.slice va vm vc).ownBlock \/ ∃ j, (Value.slice xa xm xc).ownBlock = some j /\ w.heap.size <= j) := by
  rcases hat with h | ⟨j, h, hj⟩
  · exact .inl h
  · exact .inr ⟨j, h, Nat.le_trans B2.size hj⟩
 have c2 := (b2.cell (p := ⟨w.heap.size, 0, none⟩) l1).trans c0
 have l2 : w.heap.size < w2.heap.size := Nat.lt_of_lt_of_le l1 b2.size
 have c3 := (hgr.cell_far ⟨w.heap.size, 0, none⟩ l2 (fun h => absurd (zhp hown h.symm) (Nat.lt_irrefl _))).trans c2
 have R3 := (R1.below b2).kept hgr hne
 clear hown3 hgr hat c2 c0 R2 R1
 go_wp2_with fail
 refine (SE.out w3 R3).mono ?_
 rintro e w4 ⟨g4, cap4, rfl, R4, hg4, b4⟩
 have hne4 : Hid ((Value.slice xa xm xc).ownBlock ≠ some g4) := fun h => by have := zhp HO.out h; omega
 have hB4 : Hid (B <= w4.heap.size) := Nat.le_trans hB (Nat.le_trans HG.out.size b4.size)
 go_wp2_with fail
 refine (IB.out B (zaa a l) _ g4 cap4 w4 (zbp HO.out b4) hB4.out R4 hne4.out HS.out.2.2.1 HS.out.2.2.2).mono ?_
 rintro e w5 ⟨V5, rfl, hown5, hgr5, hat5⟩
 obtain ⟨ya, ym, yc, rfl⟩ := zcw hown5
 have HO5 : Hid (w5.ownsRow B 3 1 (.slice ya ym yc) (zaa b (zaa a l)).length (ints (zaa b (zaa a l)))) := hown5
 have HG5 : Hid (w.grownBy w5 (Value.slice va vm vc).ownBlock) := (HG.out.trans (zak b4 _)).andThen hgr5 (fun j hj => by
  rcases HA.out with h | ⟨i, h, hi⟩
  · exact .inr (h.symm.trans hj)
  · rw [h] at hj
    exact .inl (by cases hj; exact hi))
 have HA5 : Hid ((Value.slice ya ym yc).ownBlock = (Value.slice va vm vc).ownBlock \/ ∃ j, (Value.slice ya ym yc).ownBlock = some j /\ w.heap.size <= j) := by
  rcases hat5 with h | ⟨j, h, hj⟩
  · rcases HA.out with h2 | ⟨j, h2, hj⟩
    · exact .inl (h.trans h2)
    · exact .inr ⟨j, h.trans h2, hj⟩
  · exact .inr ⟨j, h, Nat.le_trans (Nat.le_trans HG.out.size b4.size) hj⟩
 clear hown5 hgr5 hat5
 go_wp2_with fail
 go_ret
 unfold zjb
 rw [HL.out]
 exact ⟨_, rfl, HO5.out, HG5.out, HA5.out⟩
theorem leaves_F (a b : Ty) (ha : Ok a) (hb : Ok b) (ih : zar a) (ih2 : zar b) : zar (tF a b) := by
 intro B l V g cap w hown hB ht hne hl hll
 have FI : Hid (∀ X, Rg g (tF a b) X -> Calls Tryz.prog 64 #[.agg #[.slice (some ⟨g, 0, none⟩) (sz (tF a b)) cap]] X (TPost a X)) := fun X (h : Rg g (tF a b) X) => zby 5 (Or.inr rfl) a b ha g cap X h (Nat.le_trans hl (by decide))
 have SE : Hid (∀ X, Rg g (tF a b) X -> Calls Tryz.prog 65 #[.agg #[.slice (some ⟨g, 0, none⟩) (sz (tF a b)) cap]] X (TPost b X)) := fun X (h : Rg g (tF a b) X) => zbw 5 (Or.inr rfl) a b hb g cap X h (Nat.le_trans hl (by decide))
 have HS : Hid (sz a <= 60000 /\ l.length + sz a <= 200000 /\ sz b <= 60000 /\ (zaa a l).length + sz b <= 200000) := by
  have e : sz (tF a b) = sz a + sz b + 1 := by simp [sz]
  rw [e] at hl hll
  have := zkh a l
  exact ⟨by omega, by omega, by omega, by omega⟩
 have HL : Hid (zaa (tF a b) l = zaa b (zaa a l)) := by unfold Hid; simp [zaa]
 have IA : Hid (zar a) := ih
 have IB : Hid (zar b) := ih2
 clear ih ih2
 have B0 : Below w.heap.size w (w.alloc (tbO g (sz (tF a b)) cap)) := bal w _
 have c0 : (w.alloc (tbO g (sz (tF a b)) cap)).cell? ⟨w.heap.size, 0, none⟩ = some (.slice (some ⟨g, 0, none⟩) (sz (tF a b)) cap) := by simp
 have R0 := ht.below B0
 have RO : Hid (∀ X, Rg g (tF a b) X -> Calls Tryz.prog 62 #[.agg #[.slice (some ⟨g, 0, none⟩) (sz (tF a b)) cap]] X fun e w' => e = .returned (.int .i64 62) /\ Below X.heap.size X w') := fun X (h : Rg g (tF a b) X) => zat (tF a b) g cap X h (Nat.le_trans hl (by decide))
 obtain ⟨va, vm, vc, hV⟩ : ∃ a m c, V = .slice a m c := by
  rcases hown.2 with ⟨rfl, _⟩ | ⟨g', cap, cur, rfl, _⟩ <;> exact ⟨_, _, _, rfl⟩
 generalize htt : (tF a b : Ty) = t at *
 generalize sz t = st at *
 have hlw : w.heap.size < (w.alloc (tbO g st cap)).heap.size := by simp
 clear ht hl
 subst hV
 go_enter Tryz.func39, Tryz.ntmps39
 go_wp2_with fail
 generalize w.alloc (tbO g st cap) = W at *
 refine (RO.out W R0).mono ?_
 rintro e w1 ⟨rfl, b1⟩
 have R1 := R0.below b1
 have B1 := B0.trans (b1.mono B0.size)
 replace c0 := (b1.cell (p := ⟨w.heap.size, 0, none⟩) hlw).trans c0
 have l1 : w.heap.size < w1.heap.size := Nat.lt_of_lt_of_le hlw b1.size
 clear R0 b1 B0 hlw
 go_wp2_with fail
 refine (zbz 62 w1).mono ?_
 rintro e w' ⟨rfl, rfl⟩
 go_wp2_with fail
 refine (FI.out w' R1).mono ?_
 rintro e w2 ⟨g2, cap2, rfl, R2, hg2, b2⟩
 have B2 := B1.trans (b2.mono B1.size)
 have hown2 : Hid (w2.ownsRow B 3 1 (.slice va vm vc) l.length (ints l)) := zbp hown B2
 have hne2 : Hid ((Value.slice va vm vc).ownBlock ≠ some g2) := fun h => by have := zhp hown h; have := B1.size; omega
 go_wp2_with fail
 refine (IA.out B l _ g2 cap2 w2 hown2.out (Nat.le_trans hB B2.size) R2 hne2.out HS.out.1 HS.out.2.1).mono ?_
 rintro e w3 ⟨V', rfl, hown3, hgr, hat⟩
 obtain ⟨xa, xm, xc, rfl⟩ := zcw hown3
 have HO : Hid (w3.ownsRow B 3 1 (.slice xa xm xc) (zaa a l).length (ints (zaa a l))) := hown3
 have HG : Hid (w.grownBy w3 (Value.slice va vm vc).ownBlock) := (zak B2 _).trans hgr
 have HA : Hid ((Value.slice xa xm xc).ownBlock = (Value.slice va vm vc).ownBlock \/ ∃ j, (Value.slice xa xm xc).ownBlock = some j /\ w.heap.size <= j) := by
  rcases hat with h | ⟨j, h, hj⟩
  · exact .inl h
  · exact .inr ⟨j, h, Nat.le_trans B2.size hj⟩
 have c2 := (b2.cell (p := ⟨w.heap.size, 0, none⟩) l1).trans c0
 have l2 : w.heap.size < w2.heap.size := Nat.lt_of_lt_of_le l1 b2.size
 have c3 := (hgr.cell_far ⟨w.heap.size, 0, none⟩ l2 (fun h => absurd (zhp hown h.symm) (Nat.lt_irrefl _))).trans c2
 have R3 := (R1.below b2).kept hgr hne
 clear hown3 hgr hat c2 c0 R2 R1
 go_wp2_with fail
 refine (SE.out w3 R3).mono ?_
 rintro e w4 ⟨g4, cap4, rfl, R4, hg4, b4⟩
 have hne4 : Hid ((Value.slice xa xm xc).ownBlock ≠ some g4) := fun h => by have := zhp HO.out h; omega
 have hB4 : Hid (B <= w4.heap.size) := Nat.le_trans hB (Nat.le_trans HG.out.size b4.size)
 go_wp2_with fail
 refine (IB.out B (zaa a l) _ g4 cap4 w4 (zbp HO.out b4) hB4.out R4 hne4.out HS.out.2.2.1 HS.out.2.2.2).mono ?_
 rintro e w5 ⟨V5, rfl, hown5, hgr5, hat5⟩
 obtain ⟨ya, ym, yc, rfl⟩ := zcw hown5
 have HO5 : Hid (w5.ownsRow B 3 1 (.slice ya ym yc) (zaa b (zaa a l)).length (ints (zaa b (zaa a l)))) := hown5
 have HG5 : Hid (w.grownBy w5 (Value.slice va vm vc).ownBlock) := (HG.out.trans (zak b4 _)).andThen hgr5 (fun j hj => by
  rcases HA.out with h | ⟨i, h, hi⟩
  · exact .inr (h.symm.trans hj)
  · rw [h] at hj
    exact .inl (by cases hj; exact hi))
 have HA5 : Hid ((Value.slice ya ym yc).ownBlock = (Value.slice va vm vc).ownBlock \/ ∃ j, (Value.slice ya ym yc).ownBlock = some j /\ w.heap.size <= j) := by
  rcases hat5 with h | ⟨j, h, hj⟩
  · rcases HA.out with h2 | ⟨j, h2, hj⟩
    · exact .inl (h.trans h2)
    · exact .inr ⟨j, h.trans h2, hj⟩
  · exact .inr ⟨j, h, Nat.le_trans (Nat.le_trans HG.out.size b4.size) hj⟩
 clear hown5 hgr5 hat5
 go_wp2_with fail
 go_ret
 unfold zjb
 rw [HL.out]
 exact ⟨_, rfl, HO5.out, HG5.out, HA5.out⟩
theorem leaves_any : ∀ {t : Ty}, Ok t -> zar t := by
 intro t
 induction t with
 | nil => intro h; exact h.elim
 | node g p u a b iha ihb =>
  intro h
  cases u
  rcases h with ⟨rfl, rfl, rfl, rfl⟩ | ⟨rfl, rfl, rfl, rfl⟩ | ⟨rfl, hp, rfl, rfl⟩ | ⟨rfl, rfl, ha, rfl⟩ | ⟨rfl, rfl, ha, hb⟩ | ⟨rfl, rfl, ha, hb⟩
  · exact leaves_I
  · exact leaves_B
  · exact leaves_V p hp
  · exact leaves_L a ha (iha ha)
  · exact leaves_P a b ha hb (iha ha) (ihb hb)
  · exact leaves_F a b ha hb (iha ha) (ihb hb)
def zdc (n : Nat) : List Ty := (List.range n).map fun k => tV (zaq k)
theorem zcz (n : Nat) : (zdc n).length = n := by simp [zdc]
theorem zop {n k : Nat} (h : k < n) : (zdc n)[k]? = some (tV (zaq k)) := by simp [zdc, h]
theorem put_form (t : Ty) : textT (putT (zaa t []) (zdc (zaa t []).length) t) = formT t := by
 unfold formT putT
 rw [zkw (v := zaa t []) (θ' := fun o => tV (zaq (idxOf o (zaa t [])))) ?_ t [] (fun o h => h)]
 intro o ho
 obtain ⟨h1, h2⟩ := zmj _ o ho
 have hlt := (List.getElem?_eq_some_iff.1 h1).1
 rw [look_at _ _ o _ _ h2 h1 (zop hlt)]
 rfl
theorem sz_subV {f : Nat -> Ty} (hf : ∀ o, sz (f o) = 1) : ∀ {t : Ty}, Ok t -> sz (sub f t) = sz t := by
 intro t
 induction t with
 | nil => intro h; exact h.elim
 | node g p u a b iha ihb =>
  intro h
  cases u
  rcases h with ⟨rfl, rfl, rfl, rfl⟩ | ⟨rfl, rfl, rfl, rfl⟩ | ⟨rfl, hp, rfl, rfl⟩ | ⟨rfl, rfl, ha, rfl⟩ | ⟨rfl, rfl, ha, hb⟩ | ⟨rfl, rfl, ha, hb⟩
  · simp [sub, sz]
  · simp [sub, sz]
  · simp [sub, sz, hf]
  · have := iha ha
    simp [sub, sz, this]
  · have h1 := iha ha
    have h2 := ihb hb
    simp [sub, sz, h1, h2]
  · have h1 := iha ha
    have h2 := ihb hb
    simp [sub, sz, h1, h2]
theorem zok {t : Ty} (h : Ok t) (v : List Nat) (n : Nat) : sz (putT v (zdc n) t) = sz t := by
 unfold putT
 refine sz_subV (fun o => ?_) h
 cases hq : look (v.zip (zdc n)) o with
 | none => simp [sz]
 | some u =>
  have := zlt hq
  simp only [zdc, List.mem_map] at this
  obtain ⟨k, _, rfl⟩ := this
  simp [sz]
theorem infoTypeL : (Tryz.prog.info? 33).map (fun i => (i.zero, i.size, i.bytes)) = some (some (.agg #[.slice none 0 0]), 1, 24) := by kernel_rfl
def zny (hs : List (Nat × Nat)) : List Value := hs.map fun h => .slice (some ⟨h.1, 0, none⟩) 1 h.2
structure Nm (w : World) (k : Nat) (G : Value) (wr : World) : Prop where
 ex : ∃ hs : List (Nat × Nat), hs.length = k /\ wr.ownsRow w.heap.size 33 1 G k (zny hs) /\ ∀ (j : Nat) (h : Nat × Nat), hs[j]? = some h -> Rg h.1 (tV (zaq j)) wr /\ G.ownBlock ≠ some h.1
 below : Below w.heap.size w wr
theorem Nm.kept {w wr w' : World} {k : Nat} {G : Value} (h : Nm w k G wr) (hb : Below wr.heap.size wr w') : Nm w k G w' := by
 obtain ⟨⟨hs, h1, h2, h3⟩, h4⟩ := h
 exact ⟨⟨hs, h1, zbp h2 hb, fun j x hj => ⟨(h3 j x hj).1.below hb, (h3 j x hj).2⟩⟩, h4.trans (hb.mono h4.size)⟩
theorem Nm.row {w wr : World} {k : Nat} {G : Value} (h : Nm w k G wr) : ∃ xs, wr.ownsRow w.heap.size 33 1 G k xs /\ (∀ (w5 : World) (o : Obj) (v' : Value) (g' cap' : Nat), (wr.alloc o).grownBy w5 G.ownBlock -> Rg g' (tV (zaq k)) wr -> G.ownBlock ≠ some g' -> w5.ownsRow w.heap.size 33 1 v' (k + 1) (xs ++ [.slice (some ⟨g', 0, none⟩) 1 cap']) -> (v'.ownBlock = G.ownBlock \/ v'.ownBlock = some (wr.heap.size + 1)) -> Nm w (k + 1) v' w5) := by
 obtain ⟨⟨hs, h1, h2, h3⟩, h4⟩ := h
 refine ⟨zny hs, h2, ?_⟩
 intro w5 o v' g' cap' hg R hne ho hat
 have hgr : wr.grownBy w5 G.ownBlock := (World.grownBy_alloc _ _ _).trans hg
 have hrow : ∀ j, G.ownBlock = some j -> w.heap.size <= j := by
  intro j hj
  rcases h2.2 with ⟨rfl, _⟩ | ⟨g, cap, cur, rfl, hB, _⟩
  · cases hj
  · cases hj; exact hB
 have hv : ∀ j, j < wr.heap.size -> G.ownBlock ≠ some j -> v'.ownBlock ≠ some j := by
  intro j hj hn e
  rcases hat with h | h
  · exact hn (h.symm.trans e)
  · rw [h] at e; cases e; omega
 refine ⟨⟨hs ++ [(g', cap')], by simp [h1], by simpa [zny] using ho, ?_⟩, ?_⟩
 · intro j x hj
   rcases Nat.lt_or_ge j hs.length with hlt | hge
   · rw [List.getElem?_append_left hlt] at hj
     obtain ⟨r1, r2⟩ := h3 j x hj
     exact ⟨r1.kept hgr r2, hv _ r1.lt r2⟩
   · rw [List.getElem?_append_right hge] at hj
     have e0 : j - hs.length = 0 := by
      rcases Nat.eq_zero_or_pos (j - hs.length) with h | h
      · exact h
      · rw [List.getElem?_eq_none (by simp; omega)] at hj; cases hj
     rw [e0] at hj
     simp at hj
     subst hj
     obtain rfl : j = k := by omega
     exact ⟨R.kept hgr hne, hv _ R.lt hne⟩
 · exact ⟨hgr.os.trans h4.os, hgr.tape.trans h4.tape, hgr.output.trans h4.output, Nat.le_trans h4.size hgr.size, fun i hi => (hgr.block i (Nat.lt_of_lt_of_le hi h4.size) (fun e => by have := hrow i e.symm; omega)).trans (h4.block i hi)⟩
theorem Nm.ls {w wr : World} {k : Nat} {G : Value} (h : Nm w k G wr) : Ls wr G (zdc k) := by
 obtain ⟨⟨hs, h1, h2, h3⟩, h4⟩ := h
 rcases h2.2 with ⟨rfl, h0⟩ | ⟨g, cap, cur, rfl, hB, hg, _, _, _, hc⟩
 · refine ⟨none, 0, by rw [zcz, h0], .inl ?_⟩
   rw [h0]; rfl
 · refine ⟨_, cap, by rw [zcz], .inr ⟨g, rfl, (Array.getElem?_eq_some_iff.1 hg).1, ?_⟩⟩
   intro j t hj
   have hlt : j < k := by have := (List.getElem?_eq_some_iff.1 hj).1; rwa [zcz] at this
   rw [zop hlt] at hj
   obtain rfl := Option.some.inj hj
   obtain ⟨x, hx⟩ : ∃ x, hs[j]? = some x := ⟨_, List.getElem?_eq_getElem (by omega)⟩
   refine ⟨x.1, x.2, ?_, (h3 j x hx).1⟩
   rw [Lib.cell_of_heap hg]
   have e1 : (zny hs)[j]? = some (.slice (some ⟨x.1, 0, none⟩) 1 x.2) := by simp [zny, hx]
   rw [<- hc, List.getElem?_take_of_lt (by omega)] at e1
   have : sz (tV (zaq j)) = 1 := by simp [sz]
   rw [this]
   simpa using e1
theorem is_row {w : World} {B : Nat} {V : Value} {l : List Nat} (h : w.ownsRow B 3 1 V l.length (ints l)) : Is w V (l.map (· + 30)) := by
 rcases h.2 with ⟨rfl, h0⟩ | ⟨g, cap, cur, rfl, hB, hg, _, _, _, hc⟩
 · exact ⟨none, 0, by simp [h0], .inl (by rw [List.length_eq_zero_iff.1 h0]; rfl)⟩
 · refine ⟨_, cap, by simp, .inr ⟨g, rfl, (Array.getElem?_eq_some_iff.1 hg).1, ?_⟩⟩
   intro k n hk
   rw [List.getElem?_map] at hk
   cases hq : l[k]? with
   | none => rw [hq] at hk; cases hk
   | some o =>
    rw [hq] at hk
    simp at hk
    obtain ⟨gg, cap', e, hcc⟩ := znm h hq
    simp at e
    obtain ⟨rfl, _⟩ := e
    rw [hcc, hk]
theorem form_any (t : Ty) (g cap : Nat) (w : World) (ht : Rg g t w) (hl : sz t <= 50000) :
 Calls Tryz.prog 21 #[.agg #[.slice (some ⟨g, 0, none⟩) (sz t) cap]] w fun e w' => e = .returned (.string ⟨(formT t).toArray⟩) /\ Below w.heap.size w w' := by
 have B0 : Below w.heap.size w (w.alloc (tbO g (sz t) cap)) := bal w _
 have c0 : (w.alloc (tbO g (sz t) cap)).cell? ⟨w.heap.size, 0, none⟩ = some (.slice (some ⟨g, 0, none⟩) (sz t) cap) := by simp
 have R0 := ht.below B0
 have LV : Hid (∀ X, Rg g t X -> Calls Tryz.prog 39 #[.agg #[.slice (some ⟨g, 0, none⟩) (sz t) cap], .slice none 0 0] X (zjb X.heap.size (zaa t []) (.slice none 0 0) X)) := fun X (h : Rg g t X) => leaves_any ht.ok X.heap.size [] _ g cap X (World.ownsRow_nil _ _ _ _) (Nat.le_refl _) h (by simp [Value.ownBlock]) (by omega) (by simp; omega)
 have HLn : Hid ((zaa t []).length <= 260) := leaves_len ht.ok
 have HLo : Hid (∀ o ∈ zaa t [], 970 <= o) := leaves_low ht.ok
 have HF : Hid (textT (putT (zaa t []) (zdc (zaa t []).length) t) = formT t) := put_form t
 have HZ : Hid (sz (putT (zaa t []) (zdc (zaa t []).length) t) = sz t) := zok ht.ok _ _
 have PA : Hid (zdf t) := zqb t ht.ok
 have HSl : Hid (sz t <= 50000) := hl
 have HS : Hid (sz t <= 50000) := hl
 generalize hst : sz t = st at *
 have HST : Hid (sz t = st) := hst
 generalize zaa t [] = L at *
 have hlw : w.heap.size < (w.alloc (tbO g st cap)).heap.size := by simp
 clear ht hl hst
 obtain ⟨i0, hi0, hz0, hz1, hz2⟩ := info_parts infoTypeL
 go_enter Tryz.func21, Tryz.ntmps21
 go_wp2_with fail
 generalize w.alloc (tbO g st cap) = W at *
 refine (LV.out W R0).mono ?_
 rintro e w1 ⟨V, rfl, hown1, hgr1, -⟩
 have b1 : Below W.heap.size W w1 := zky hgr1 (fun k h => by cases h)
 have IV : Hid (Is w1 V (L.map (· + 30))) := is_row hown1
 obtain ⟨va, vm, vc, hV⟩ := zcw hown1
 have hvm : vm = L.length := by
  rcases hown1.2 with ⟨e, h0⟩ | ⟨g', cap', cur, e, _⟩
  · rw [hV] at e; simp at e; omega
  · rw [hV] at e; simp at e; exact e.2.1
 have R1 := R0.below b1
 have B1 := B0.trans (b1.mono B0.size)
 replace c0 := (b1.cell (p := ⟨w.heap.size, 0, none⟩) hlw).trans c0
 have l1 : w.heap.size < w1.heap.size := Nat.lt_of_lt_of_le hlw b1.size
 clear R0 b1 B0 hlw hgr1 hown1 LV
 subst hvm
 subst hV
 generalize hll : L.length = ll at *
 have HLL : Hid (L.length = ll) := hll
 have hb : ll <= 260 := HLn.out
 clear hll
 have N0 : Hid (Nm w1 0 (.slice none 0 0) w1) := ⟨⟨[], rfl, World.ownsRow_nil _ _ _ _, fun j h hj => by simp at hj⟩, Below.refl _ _⟩
 go_wp2_with fail
 go_loopw [4, 5] (fun G i wr => ∃ k : Nat, i = .int .i64 (k : Int) /\ k <= ll /\ Hid (Nm w1 k G wr)) (fun _ i _ => ll - (intOf i).toNat)
 case atStart => exact ⟨0, rfl, Nat.zero_le _, N0⟩
 case round =>
  obtain ⟨k, rfl, hk, NK⟩ := hrel
  obtain ⟨xs, hx, HX⟩ := NK.out.row
  obtain ⟨ga, gm, gc, rfl⟩ := zcw hx
  rcases Nat.lt_or_ge k ll with hlt | hge
  · have hnm : Hid (970 <= zaq k /\ zaq k < 1230) := nameNo_ok (by omega)
    have LC : Hid (Calls Tryz.prog 40 #[.int .i64 (1000 + 10 * ((k : Int) % 26) + (k : Int) / 26)] wr fun e w' => ∃ g cap, e = .returned (.agg #[.slice (some ⟨g, 0, none⟩) 1 cap]) /\ Rg g (tV (zaq k)) w' /\ wr.heap.size <= g /\ Below wr.heap.size wr w') := by
     have e1 : (1000 + 10 * ((k : Int) % 26) + (k : Int) / 26) = (sgn 2 (zaq k) : Int) := by simp [sgn, zaq]; omega
     rw [e1]
     exact zcc 2 (zaq k) (by decide) (by simp [Ok]; exact hnm.out) wr
    have hrl : Hid (∀ j, (Value.slice ga gm gc).ownBlock = some j -> j < wr.heap.size) := fun j hj => zhp hx hj
    clear HX hx
    go_wp2_with fail
    refine LC.out.mono ?_
    rintro e w2 ⟨g2, cap2, rfl, R2, hg2, b2⟩
    obtain ⟨ys, hy, HY⟩ := (NK.out.kept b2).row
    have HYH : Hid _ := HY
    have hne2 : Hid ((Value.slice ga gm gc).ownBlock ≠ some g2) := fun h => by have := hrl.out _ h; omega
    clear HY LC hnm hrl
    go_wp2_with (at_builtin; refine wpList_append_own_at _ rfl _ _ 65 rfl w1.heap.size 33 i0 (.agg #[.slice none 0 0]) 1 24 Tryz.underlying65 hi0 hz0 hz1 hz2 rfl (by decide) _ _ _ rfl (hy.alloc _) ⟨_, 0, none⟩ 1 1 [.slice (some ⟨g2, 0, none⟩) 1 cap2] rfl rfl ?c1 ?c2 ?c3 ?c4 ?c5 ?_)
    case c1 => exact cell_one_new _ _ _
    case c2 => intro u hu; simp at hu; subst hu; rfl
    case c3 => unfold maxLen; omega
    case c4 => omega
    case c5 =>
     have := NK.out.below.size
     have := b2.size
     simp; omega
    intro v' w5 hown' hgrow hnil hat
    have N5 : Hid (Nm w1 (k + 1) v' w5) := HYH.out w5 _ v' g2 cap2 hgrow R2 hne2.out hown' (by simpa using hat)
    obtain ⟨xa, xm, xc, rfl⟩ := zcw hown'
    clear hown' hgrow hnil hat HYH
    go_wp2_with fail
    go_roundw
    case rel => exact ⟨k + 1, by simp, by omega, N5⟩
    case measure => simp [intOf]; omega
  · obtain rfl : k = ll := by omega
    have ck := (NK.out.below.cell (p := ⟨w.heap.size, 0, none⟩) l1).trans c0
    have Bk := B1.trans (NK.out.below.mono B1.size)
    have PC : Hid (Calls Tryz.prog 41 #[.agg #[.slice (some ⟨g, 0, none⟩) st cap], .slice va k vc, .slice ga gm gc] wr (UPost (putT L (zdc k) t) wr)) := by
     unfold Hid
     have := HST.out
     have := HSl.out
     have := HZ.out
     rw [<- HST.out]
     exact PA.out L (zdc k) g cap _ _ wr (R1.below NK.out.below) (by omega) (IV.out.below NK.out.below) NK.out.ls (by rw [zcz, HLL.out]) (by rw [HLL.out]; omega) HLo.out (by omega)
    clear NK c0 R1 HX hx N0 IV
    go_wp2_with fail
    refine PC.out.mono ?_
    rintro e w2 ⟨g2, cap2, rfl, R2, b2⟩
    have TC : Hid (Calls Tryz.prog 42 #[.agg #[.slice (some ⟨g2, 0, none⟩) (sz (putT L (zdc k) t)) cap2]] w2 fun e w' => e = .returned (.string ⟨(formT t).toArray⟩) /\ Below w2.heap.size w2 w') := by
     unfold Hid
     have := HSl.out
     have := HZ.out
     rw [<- HF.out]
     exact text_any _ R2.ok g2 cap2 w2 R2 (by omega)
    clear PC
    generalize sz (putT L (zdc k) t) = sp at *
    go_wp2_with fail
    refine TC.out.mono ?_
    rintro e w3 ⟨rfl, b3⟩
    have B3 := (Bk.trans (b2.mono Bk.size)).trans (b3.mono (Bk.trans (b2.mono Bk.size)).size)
    go_wp2_with fail
    go_ret
    exact ⟨rfl, B3⟩
abbrev Sk : Type := Nat × Ty × List Nat
def Ss (w : World) (S : Value) (st : List Sk) : Prop := ∃ a cap, S = .slice a st.length cap /\ (st = [] \/ ∃ g, a = some ⟨g, 0, none⟩ /\ g < w.heap.size /\ ∀ (k : Nat) (x : Sk), st[k]? = some x ->
 ∃ h cp V, w.cell? ⟨g, k * 3, none⟩ = some (.int .u8 (x.1 : Int)) /\ w.cell? ⟨g, k * 3 + 1, none⟩ = some (.slice (some ⟨h, 0, none⟩) (sz x.2.1) cp) /\ Rg h x.2.1 w /\ w.cell? ⟨g, k * 3 + 2, none⟩ = some V /\ Is w V (x.2.2.map (· + 30)))
def Ck (b : Nat) (L S : Value) (err p m : Nat) (w : World) : Prop := w.heap[b]? = some (.cells #[L, S, .int .i64 (err : Int), .int .i64 (p : Int), .int .i64 (m : Int)] 104 (0, 0))
theorem Ck.below {b : Nat} {L S : Value} {err p m : Nat} {w w' : World} (h : Ck b L S err p m w) (hb : Below w.heap.size w w') : Ck b L S err p m w' := (hb.block b (Array.getElem?_eq_some_iff.1 h).1).trans h
theorem Ss.below {w w' : World} {S : Value} {st : List Sk} (h : Ss w S st) (hb : Below w.heap.size w w') : Ss w' S st := by
 obtain ⟨a, cap, rfl, h⟩ := h
 refine ⟨a, cap, rfl, ?_⟩
 rcases h with h | ⟨g, rfl, hg, hc⟩
 · exact .inl h
 · refine .inr ⟨g, rfl, Nat.lt_of_lt_of_le hg hb.size, fun k x hk => ?_⟩
   obtain ⟨h, cp, V, h1, h2, h3, h4, h5⟩ := hc k x hk
   exact ⟨h, cp, V, (hb.cell (p := ⟨g, _, none⟩) hg).trans h1, (hb.cell (p := ⟨g, _, none⟩) hg).trans h2, h3.below hb, (hb.cell (p := ⟨g, _, none⟩) hg).trans h4, h5.below hb⟩
def zcy (st : List Sk) (c : Nat) (z : Int) : Prop := (z = -1 /\ ∀ (j : Nat) (x : Sk), st[j]? = some x -> x.1 ≠ c) \/ ∃ (k : Nat) (x : Sk), z = (k : Int) /\ st[k]? = some x /\ x.1 = c /\ ∀ (j : Nat) (y : Sk), k < j -> st[j]? = some y -> y.1 ≠ c
theorem zij (b : Nat) (L S : Value) (err p m c : Nat) (st : List Sk) (w : World) (hk : Ck b L S err p m w) (hs : Ss w S st) (hl : st.length <= 100000) (hc : c < 256) (hst : ∀ x ∈ st, x.1 < 256) :
 Calls Tryz.prog 139 #[.pointer (some ⟨b, 0, none⟩), .int .u8 (c : Int)] w fun e w' => ∃ z, e = .returned (.int .i64 z) /\ zcy st c z /\ w' = w := by
 obtain ⟨a, cap, rfl, hv⟩ := hs
 have cb : w.cell? ⟨b, 1, none⟩ = some (.slice a st.length cap) := cbl hk
 have HV : Hid (∀ (k : Nat) (x : Sk), st[k]? = some x -> ∃ g, a = some ⟨g, 0, none⟩ /\ w.cell? ⟨g, k * 3, none⟩ = some (.int .u8 (x.1 : Int))) := by
  intro k x hx
  rcases hv with rfl | ⟨g, rfl, _, h⟩
  · simp at hx
  · obtain ⟨_, _, _, h1, _⟩ := h k x hx
    exact ⟨g, rfl, h1⟩
 have HT : Hid (∀ x ∈ st, x.1 < 256) := hst
 generalize hn : st.length = n at *
 have HN : Hid (st.length = n) := hn
 clear hn hv hk hst
 go_enter Tryz.func139, Tryz.ntmps139
 go_wp2_with fail
 go_loopw [5] (fun i wr => ∃ (k : Nat) (z : Int), i = .int .i64 z /\ z = (k : Int) - 1 /\ k <= n /\ Hid (∀ (j : Nat) (y : Sk), k <= j -> st[j]? = some y -> y.1 ≠ c) /\ wr = w) (fun i _ => (intOf i + 1).toNat)
 case atStart => exact ⟨n, _, rfl, rfl, Nat.le_refl _, fun j y hj hy => absurd (List.getElem?_eq_some_iff.1 hy).1 (by have := HN.out; omega), rfl⟩
 case round =>
  obtain ⟨k, z, rfl, hz, hkn, HU, hwr⟩ := hrel
  subst hwr
  cases k with
  | zero =>
   replace hz : z = -1 := by omega
   subst hz
   have HR : Hid (zcy st c (-1)) := .inl ⟨rfl, fun j x hx => HU.out j x (Nat.zero_le _) hx⟩
   go_wp2_with fail
   go_ret
   exact ⟨_, rfl, HR.out, rfl⟩
  | succ q =>
   replace hz : z = (q : Int) := by omega
   subst hz
   obtain ⟨x, hx⟩ : ∃ x, st[q]? = some x := ⟨_, List.getElem?_eq_getElem (by rw [HN.out]; omega)⟩
   obtain ⟨g, rfl, hcell⟩ := HV.out q x hx
   have hx1 : x.1 < 256 := HT.out x (List.mem_of_getElem? hx)
   have HX : Hid (st[q]? = some x) := hx
   generalize hd : x.1 = d at *
   have HD : Hid (x.1 = d) := hd
   clear hx hd
   by_cases hp : d = c
   · have e1 : ((d : Int) == (c : Int)) = true := by rw [hp]; simp
     have HR : Hid (zcy st c (q : Int)) := .inr ⟨q, x, rfl, HX.out, HD.out.trans hp, fun j y hj hy => HU.out j y hj hy⟩
     clear hp
     go_wp2_with fail
     go_ret
     exact ⟨_, rfl, HR.out, rfl⟩
   · have e1 : ((d : Int) == (c : Int)) = false := by rw [beq_eq_false_iff_ne]; omega
     have HM : Hid (∀ (j : Nat) (y : Sk), q <= j -> st[j]? = some y -> y.1 ≠ c) := by
      intro j y hj hy
      rcases Nat.lt_or_ge q j with h | h
      · exact HU.out j y h hy
      · obtain rfl : j = q := by omega
        rw [HX.out] at hy
        obtain rfl := Option.some.inj hy
        intro e
        exact hp (HD.out.symm.trans e)
     clear hp
     go_wp2_with fail
     go_roundw
     case rel => exact ⟨q, _, rfl, rfl, by omega, HM, by trivial⟩
     case measure => simp [intOf]
theorem zfp {st : List Sk} {c : Nat} {z z' : Int} (h : zcy st c z) (h' : zcy st c z') : z = z' := by
 rcases h with ⟨rfl, h⟩ | ⟨k, x, rfl, hx, hc, h⟩ <;> rcases h' with ⟨rfl, h'⟩ | ⟨k', x', rfl, hx', hc', h'⟩
 · rfl
 · exact absurd hc' (h _ _ hx')
 · exact absurd hc (h' _ _ hx)
 · rcases Nat.lt_trichotomy k k' with hlt | rfl | hlt
   · exact absurd hc' (h _ _ hlt hx')
   · rfl
   · exact absurd hc (h' _ _ hlt hx)
def zji (st : List Sk) (o j : Nat) (x : Sk) : Prop := zcy st x.1 (j : Int) /\ inT o x.2.1 = true /\ x.2.2.contains o = false
def fixedP (st : List Sk) (o : Nat) (r : Bool) : Prop := (r = true /\ ∃ (j : Nat) (x : Sk), st[j]? = some x /\ zji st o j x) \/ (r = false /\ ∀ (j : Nat) (x : Sk), st[j]? = some x -> ¬ zji st o j x)
theorem zla (v : List Nat) (o : Nat) : (v.map (· + 30)).contains (o + 30) = v.contains o := by
 rw [Bool.eq_iff_iff, List.contains_iff_mem, List.contains_iff_mem]
 simp
theorem fixed_any (b : Nat) (L S : Value) (err p m o : Nat) (st : List Sk) (w : World) (hk : Ck b L S err p m w) (hs : Ss w S st) (hl : st.length <= 100000) (hst : ∀ x ∈ st, x.1 < 256 /\ sz x.2.1 <= 1000000 /\ x.2.2.length <= 1000000) (ho : 970 <= o /\ o < 1230) :
 Calls Tryz.prog 141 #[.pointer (some ⟨b, 0, none⟩), .int .i64 ((o + 30 : Nat) : Int)] w fun e w' => ∃ r, e = .returned (.bool r) /\ fixedP st o r /\ Below w.heap.size w w' := by
 obtain ⟨a, cap, rfl, hv⟩ := hs
 have hblt : b < w.heap.size := (Array.getElem?_eq_some_iff.1 hk).1
 have cb : w.cell? ⟨b, 1, none⟩ = some (.slice a st.length cap) := cbl hk
 have HV : Hid (∀ (k : Nat) (x : Sk), st[k]? = some x -> ∀ X, Below w.heap.size w X -> ∃ g h cp va vc, a = some ⟨g, 0, none⟩ /\ X.cell? ⟨g, k * 3, none⟩ = some (.int .u8 (x.1 : Int)) /\ X.cell? ⟨g, k * 3 + 1, none⟩ = some (.slice (some ⟨h, 0, none⟩) (sz x.2.1) cp) /\ Rg h x.2.1 X /\ X.cell? ⟨g, k * 3 + 2, none⟩ = some (.slice va x.2.2.length vc) /\ Is X (.slice va x.2.2.length vc) (x.2.2.map (· + 30))) := by
  intro k x hx X hX
  rcases hv with rfl | ⟨g, rfl, hg, h⟩
  · simp at hx
  · obtain ⟨h', cp, V, h1, h2, h3, h4, h5⟩ := h k x hx
    obtain ⟨va, vc, rfl, h6⟩ := h5
    rw [List.length_map] at *
    exact ⟨g, h', cp, va, vc, rfl, (hX.cell (p := ⟨g, _, none⟩) hg).trans h1, (hX.cell (p := ⟨g, _, none⟩) hg).trans h2, h3.below hX, (hX.cell (p := ⟨g, _, none⟩) hg).trans h4, Is.below ⟨va, vc, by rw [List.length_map], h6⟩ hX⟩
 have FN : Hid (∀ (c : Nat), c < 256 -> ∀ X, Below w.heap.size w X -> Calls Tryz.prog 139 #[.pointer (some ⟨b, 0, none⟩), .int .u8 (c : Int)] X fun e w' => ∃ z, e = .returned (.int .i64 z) /\ zcy st c z /\ w' = X) := fun c hc X hX => zij b L _ err p m c st X (hk.below hX) (Ss.below ⟨a, cap, rfl, hv⟩ hX) hl hc (fun x hx => (hst x hx).1)
 have HT : Hid (∀ x ∈ st, x.1 < 256 /\ sz x.2.1 <= 1000000 /\ x.2.2.length <= 1000000) := hst
 have HO : Hid (970 <= o /\ o < 1230) := ho
 generalize hn : st.length = n at *
 have HN : Hid (st.length = n) := hn
 obtain ⟨q, hq⟩ : ∃ q, q = o + 30 := ⟨_, rfl⟩
 rw [<- hq]
 have HQ : Hid (q = o + 30) := hq
 have hq2 : q < 2000 := by omega
 clear hn hv hk hst ho hq
 have B0 : Hid (Below w.heap.size w w) := Below.refl _ _
 go_enter Tryz.func141, Tryz.ntmps141
 go_wp2_with fail
 go_loopw [5] (fun i wr => ∃ k : Nat, i = .int .i64 (k : Int) /\ k <= n /\ Hid (∀ (j : Nat) (y : Sk), j < k -> st[j]? = some y -> ¬ zji st o j y) /\ Hid (Below w.heap.size w wr)) (fun i _ => n - (intOf i).toNat)
 case atStart => exact ⟨0, rfl, Nat.zero_le _, fun j y hj => absurd hj (by omega), B0⟩
 case round =>
  obtain ⟨k, rfl, hkn, HU, HB⟩ := hrel
  have cbr := (HB.out.cell (p := ⟨b, 1, none⟩) hblt).trans cb
  rcases Nat.lt_or_ge k n with hlt | hge
  · obtain ⟨x, hx⟩ : ∃ x, st[k]? = some x := ⟨_, List.getElem?_eq_getElem (by rw [HN.out]; omega)⟩
    obtain ⟨g, h, cp, va, vc, rfl, k0, k1, R, k2, I⟩ := HV.out k x hx wr HB.out
    obtain ⟨hx1, hx2, hx3⟩ := HT.out x (List.mem_of_getElem? hx)
    have FCH : Hid (Calls Tryz.prog 139 #[.pointer (some ⟨b, 0, none⟩), .int .u8 (x.1 : Int)] wr fun e w' => ∃ z, e = .returned (.int .i64 z) /\ zcy st x.1 z /\ w' = wr) := FN.out x.1 hx1 wr HB.out
    have HX : Hid (st[k]? = some x) := hx
    have IC : Hid (Calls Tryz.prog 60 #[.slice va x.2.2.length vc, .int .i64 (q : Int)] wr fun e w' => e = .returned (.bool (x.2.2.contains o)) /\ w' = wr) := by
     unfold Hid
     rw [<- zla, HQ.out]
     exact zks _ _ (o + 30) wr I (by rw [List.length_map]; exact hx3)
    have HC : Hid (Calls Tryz.prog 177 #[.agg #[.slice (some ⟨h, 0, none⟩) (sz x.2.1) cp], .int .i64 (q : Int)] wr fun e w' => e = .returned (.bool (inT o x.2.1)) /\ Below wr.heap.size wr w') := by
     unfold Hid
     rw [HQ.out]
     exact has_any x.2.1 o h cp wr R hx2 HO.out
    clear hx I R
    obtain ⟨c, t, v⟩ := x
    simp only at *
    generalize hi : inT o t = r8 at *
    generalize hc : v.contains o = r7 at *
    have HI : Hid (inT o t = r8) := hi
    have HCo : Hid (v.contains o = r7) := hc
    clear hi hc
    generalize v.length = vl at *
    generalize sz t = sl at *
    go_wp2_with fail
    refine FCH.out.mono ?_
    rintro e w' ⟨z, rfl, hz, rfl⟩
    have HZ : Hid (zcy st c z) := hz
    clear hz
    by_cases hzk : z = (k : Int)
    · subst hzk
      have HG : Hid (zji st o k (c, t, v) ↔ r8 = true /\ r7 = false) := by
       unfold Hid zji
       rw [HI.out, HCo.out]
       exact ⟨fun h => h.2, fun h => ⟨HZ.out, h⟩⟩
      go_wp2_with fail
      refine IC.out.mono ?_
      rintro e w1 ⟨rfl, rfl⟩
      go_wp2_with fail
      refine HC.out.mono ?_
      rintro e w2 ⟨rfl, b2⟩
      have HB2 : Hid (Below w.heap.size w w2) := HB.out.trans (b2.mono HB.out.size)
      by_cases hr : r8 = true /\ r7 = false
      · have HR : Hid (fixedP st o true) := .inl ⟨rfl, k, _, HX.out, HG.out.2 hr⟩
        obtain ⟨rfl, rfl⟩ := hr
        go_wp2_with fail
        go_ret
        exact ⟨_, rfl, HR.out, HB2.out⟩
      · have HM : Hid (∀ (j : Nat) (y : Sk), j < k + 1 -> st[j]? = some y -> ¬ zji st o j y) := by
         intro j y hj hy
         rcases Nat.lt_or_ge j k with h | h
         · exact HU.out j y h hy
         · obtain rfl : j = k := by omega
           rw [HX.out] at hy
           obtain rfl := Option.some.inj hy
           exact fun e => hr (HG.out.1 e)
        cases r8 <;> cases r7
        case true.false => exact absurd ⟨rfl, rfl⟩ hr
        all_goals
         clear hr HG HI HCo HC IC
         go_wp2_with fail
         go_roundw
         case rel => exact ⟨k + 1, by simp, by omega, HM, HB2⟩
         case measure => simp [intOf]; omega
    · have e6 : (z == (k : Int)) = false := by rw [beq_eq_false_iff_ne]; exact hzk
      have HM : Hid (∀ (j : Nat) (y : Sk), j < k + 1 -> st[j]? = some y -> ¬ zji st o j y) := by
       intro j y hj hy
       rcases Nat.lt_or_ge j k with h | h
       · exact HU.out j y h hy
       · obtain rfl : j = k := by omega
         rw [HX.out] at hy
         obtain rfl := Option.some.inj hy
         exact fun e => hzk (zfp HZ.out e.1)
      clear hzk
      go_wp2_with fail
      refine IC.out.mono ?_
      rintro e w1 ⟨rfl, rfl⟩
      go_wp2_with fail
      refine HC.out.mono ?_
      rintro e w2 ⟨rfl, b2⟩
      have HB2 : Hid (Below w.heap.size w w2) := HB.out.trans (b2.mono HB.out.size)
      clear HI HCo HC IC
      cases r8 <;> cases r7 <;> (
       go_wp2_with fail
       go_roundw
       case rel => exact ⟨k + 1, by simp, by omega, HM, HB2⟩
       case measure => simp [intOf]; omega)
  · obtain rfl : k = n := by omega
    have HR : Hid (fixedP st o false) := .inr ⟨rfl, fun j x hx => HU.out j x (by have := (List.getElem?_eq_some_iff.1 hx).1; have := HN.out; omega) hx⟩
    go_wp2_with fail
    go_ret
    exact ⟨_, rfl, HR.out, HB.out⟩
end Go.Proofs.YtceadeaodbadlaaGreatDoor
