import Derived.Test.YtceadeaodbadlaaGreatDoorReaders
set_option linter.unusedVariables false
set_option linter.unusedSimpArgs false
namespace Go.Proofs.YtceadeaodbadlaaGreatDoor
open Go.RowKit

theorem atom_lit (s : ByteArray) (ty : Bool) (n i : Nat) (h : begins (chr s i) = true) (hl : isLit (chr s i) = true) : pe s ty (n + 1) 2 i .nil = .ok (eN (chr s i) i, i + 1) := by
  rw [pe, if_pos h, if_pos hl]
theorem atom_par (s : ByteArray) (ty : Bool) (n i : Nat) (h : begins (chr s i) = true) (hl : isLit (chr s i) = false) (h40 : chr s i = 40) : pe s ty (n + 1) 2 i .nil = clO s ty n (i + 1) := by
  rw [pe, if_pos h, if_neg (by rw [hl]; decide), if_pos h40]; unfold clO; cases pe s ty n 0 (i + 1) .nil <;> rfl
theorem atom_nam (s : ByteArray) (ty : Bool) (n i : Nat) (h : begins (chr s i) = true) (hl : isLit (chr s i) = false) (h40 : chr s i ≠ 40) : pe s ty (n + 1) 2 i .nil =
    match givenO s ty (i + 1) with
    | .error p => .error p
    | .ok (g, j) => .ok (if isCon (chr s i) then eK (chr s i) i g else eX (chr s i) i g, j) := by
  rw [pe, if_pos h, if_neg (by rw [hl]; decide), if_neg h40]; cases givenO s ty (i + 1) <;> rfl
theorem eatom_none (s : ByteArray) (ty : Bool) (n i : Nat) (h : begins (chr s i) = false) : pe s ty (n + 1) 2 i .nil = .error i := by
  rw [pe, if_neg (by rw [h]; decide)]

set_option maxHeartbeats 4000000 in
set_option maxRecDepth 100000 in
theorem atom_any (tx : Nat → Addr) (b : Nat) (s : ByteArray) (ty : Bool) (n : Nat) (ih : ExprSaid tx b s ty n) (hs : s.size ≤ 100000) (hb : 9 ≤ b) : AtomSaid tx b s ty (n + 1) := by
  intro i w h g hi hn
  have bx := Rbx.new ty h
  have h1 := h.alloc (rdo b ty)
  have G0 : Gb b w (w.alloc (rdo b ty)) := (Gb.refl b w).alloc _
  have c0 := bx.c0
  have c1 := bx.c1
  have C0 : ∀ k, ((w.alloc (rdo b ty)).drewN k).cell? ⟨w.heap.size, 0, none⟩ = some (.pointer (some ⟨b, 0, none⟩)) := fun _ => c0
  have C1 : ∀ k, ((w.alloc (rdo b ty)).drewN k).cell? ⟨w.heap.size, 1, none⟩ = some (.bool ty) := fun _ => c1
  have hl := chr_lt s i
  have PK := fun w' (h' : Rd b s i w') => peek_any b s i w' h' hi hs
  have PL := fun w' (h' : Rd b s i w') => place_of b s i w' h'
  go_enter Tryz.func187, Tryz.ntmps187
  go_wp2_with fail
  go_region_with (first
    | (go_at_call 189; refine (PK _ (by exact h1)).mono ?_; rintro e w' ⟨rfl, m, rfl⟩)
    | (go_at_call 148; refine (PL _ (by exact h1)).mono ?_; rintro e w' ⟨rfl, rfl⟩))
  all_goals
    cases hbg : begins (chr s i)
    · have HR : Hid (pe s ty (n + 1) 2 i .nil = .error i) := eatom_none s ty n i hbg
      go_wp2_with fail
      refine (beginsAtom_any (chr s i) _ hl).mono ?_
      rintro e w' ⟨rfl, rfl⟩
      rw [hbg]
      clear hbg
      go_wp2_with fail
      refine (wrong_any tx b s i _ (by exact h1) (g.gb (G0.drewN _) hb)).mono ?_
      rintro e w' ⟨q, rfl, ha, hg⟩
      go_wp2_with fail
      go_ret2
      rw [HR.out]
      exact ⟨(G0.drewN _).trans hg, q, rfl, ha⟩
    · have hlt : i < s.size := chr_in (begins_ne hbg)
      have HB : Hid (begins (chr s i) = true) := hbg
      go_wp2_with fail
      refine (beginsAtom_any (chr s i) _ hl).mono ?_
      rintro e w' ⟨rfl, rfl⟩
      rw [hbg]
      clear hbg
      go_wp2_with fail
      refine (skip_any b s i _ (by exact h1) hlt hs).mono ?_
      rintro e w1 ⟨rfl, hr, hg⟩
      have G1 : Gb b w w1 := (G0.drewN _).trans hg
      have bx1 : Rbx w.heap.size b ty w1 := ⟨hg.old bx.1 bx.2, bx.2⟩
      replace c0 := bx1.c0
      replace c1 := bx1.c1
      clear C0 C1
      cases hc3 : isLit (chr s i)
      · by_cases h40 : chr s i = 40
        · have HR : Hid (pe s ty (n + 1) 2 i .nil = clO s ty n (i + 1)) := atom_par s ty n i HB.out hc3 h40
          have e40 : ((chr s i : Int) == 40) = true := by rw [h40]; rfl
          clear h40
          go_wp2_with fail
          refine (isLiteral_any (chr s i) _ hl).mono ?_
          rintro e w' ⟨rfl, rfl⟩
          rw [hc3]
          clear hc3
          go_wp2_with fail
          refine (closed_any tx b s ty n (i + 1) _ ih hr (g.gb G1 hb) hlt hs hb (by omega)).mono ?_
          rintro e w2 hp
          have HP : Hid (EPost tx b s (pe s ty (n + 1) 2 i .nil) w e w2) := by rw [HR.out]; exact hp.hand G1
          obtain ⟨u, v, rfl⟩ := hp.two
          clear HR hp
          go_wp2_with fail
          go_ret2
          exact HP.out
        · have HR0 : Hid (_ = _) := atom_nam s ty n i HB.out hc3 h40
          have e40 : ((chr s i : Int) == 40) = false := by rw [beq_eq_false_iff_ne]; omega
          clear h40
          go_wp2_with fail
          refine (isLiteral_any (chr s i) _ hl).mono ?_
          rintro e w' ⟨rfl, rfl⟩
          rw [hc3]
          clear hc3
          go_wp2_with fail
          refine (given_any tx b s ty (i + 1) _ hr (g.gb G1 hb) hlt hs hb).mono ?_
          rintro e w2 ⟨hg2, hp⟩
          have G2 := G1.trans hg2
          clear c0 c1 e40
          cases hq : givenO s ty (i + 1) with
          | error q =>
            rw [hq] at hp HR0
            obtain ⟨V, q', rfl, ha⟩ := hp
            clear hq
            go_wp2_with fail
            go_ret2
            rw [HR0.out]
            exact ⟨G2, q', rfl, ha⟩
          | ok r =>
            obtain ⟨gg, j⟩ := r
            rw [hq] at hp HR0
            obtain ⟨V, rfl, hV, hr2⟩ := hp
            clear hq
            obtain ⟨sa, sm, sc, rfl⟩ := hV.shape
            go_wp2_with fail
            refine (isConstant_any (chr s i) _ hl).mono ?_
            rintro e w' ⟨rfl, rfl⟩
            cases hc2 : isCon (chr s i)
            · have HQ := HR0.out
              simp only [hc2, Bool.false_eq_true, if_false] at HQ
              have HR : Hid (_ = _) := HQ
              clear HQ HR0 hc2
              go_wp2_with fail
              go_ret2
              rw [HR.out]
              exact ⟨G2, _, rfl, .inl ⟨rfl, _, rfl, hV⟩, hr2⟩
            · have HQ := HR0.out
              simp only [hc2, if_true] at HQ
              have HR : Hid (_ = _) := HQ
              clear HQ HR0 hc2
              go_wp2_with fail
              go_ret2
              rw [HR.out]
              exact ⟨G2, _, rfl, .inr (.inl ⟨rfl, _, rfl, hV⟩), hr2⟩
      · have HR : Hid (pe s ty (n + 1) 2 i .nil = .ok (eN (chr s i) i, i + 1)) := atom_lit s ty n i HB.out hc3
        go_wp2_with fail
        refine (isLiteral_any (chr s i) _ hl).mono ?_
        rintro e w' ⟨rfl, rfl⟩
        rw [hc3]
        clear hc3
        go_wp2_with fail
        go_ret2
        rw [HR.out]
        exact ⟨G1, _, rfl, .inr (.inr (.inl ⟨rfl, rfl⟩)), hr⟩
end Go.Proofs.YtceadeaodbadlaaGreatDoor
