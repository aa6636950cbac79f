import Derived.Test.YtceadeaodbadlaaGreatDoorRefA
set_option linter.unusedVariables false
set_option linter.unusedSimpArgs false
namespace Go.Proofs.YtceadeaodbadlaaGreatDoor
open Go.RowKit

theorem RPost.shift {b : Nat} {s : ByteArray} {r : Out} {i : Nat} {ts : List Tm} {w w1 w2 : World} {e : Ending} (hF : Fr b w w1) (h : RPost b s r (i + 1) ts w1 e w2) : RPost b s r i ts w e w2 := by
  obtain ⟨k, h⟩ := h
  refine ⟨hF.trans k, ?_⟩
  cases r with
  | error p => obtain ⟨m, us, he, hs, hu⟩ := h; exact ⟨m, us, he, hs, by omega⟩
  | ok r => obtain ⟨kd, f, j⟩ := r; obtain ⟨m, us, he, hm, hs, hu, hf⟩ := h; exact ⟨m, us, he, hm, hs, by omega, hf⟩
theorem RPost.hand {b : Nat} {s : ByteArray} {r : Out} {i : Nat} {ts : List Tm} {w w1 w2 : World} {e : Ending} (hF : Fr b w w1) (h : RPost b s r i ts w1 e w2) : RPost b s r i ts w e w2 := ⟨hF.trans h.1, h.2⟩
theorem RPost.one {b : Nat} {s : ByteArray} {r : Out} {i : Nat} {ts : List Tm} {w w2 : World} {e : Ending} (h : RPost b s r i ts w e w2) : ∃ k : Nat, e = .returned (.int .i64 (k : Int)) := by
  obtain ⟨_, h⟩ := h
  cases r with
  | error p => obtain ⟨m, us, he, _⟩ := h; exact ⟨m, he⟩
  | ok r => obtain ⟨kd, f, j⟩ := r; obtain ⟨m, us, he, _⟩ := h; exact ⟨m, he⟩

/-- How much is left to be read; 0 where nothing is read any more. -/
def meas (b : Nat) (s : ByteArray) (w : World) : Nat :=
  if intOf ((w.cell? ⟨b, 3, none⟩).getD .nilIface) < 0 then 1 + (s.size - (intOf ((w.cell? ⟨b, 2, none⟩).getD .nilIface)).toNat) else 0
theorem meas_ok {b : Nat} {s : ByteArray} {i : Nat} {ts : List Tm} {w : World} (h : St b s i (-1) ts w) : meas b s w = 1 + (s.size - i) := by
  unfold meas; rw [h.c3, h.c2]; simp [intOf]
theorem meas_bad {b : Nat} {s : ByteArray} {i p : Nat} {ts : List Tm} {w : World} (h : St b s i p ts w) : meas b s w = 0 := by
  unfold meas; rw [h.c3]; exact if_neg (by show ¬ ((p : Int) < 0); omega)

/-- What holds at the loop's head: all is well so far. -/
def LGood (b : Nat) (s : ByteArray) (n i : Nat) (ts : List Tm) (w : World) (kN j : Nat) (wr : World) : Prop :=
  ∃ m kd f us, m ≤ n ∧ j ≤ s.size ∧ i < j ∧ 3 * (s.size - j) + 2 ≤ m ∧ St b s j (-1) (ts ++ us) wr ∧ Fr b w wr ∧ kN + 1 = (ts ++ us).length ∧ us.length + 1 ≤ 2 * (j - i) ∧ Fo (ts ++ us) kN kd f ∧ f.length + 4 ≤ 5 * (j - i) ∧ pr s m 1 j kd f = caOut s n i
/-- .. a fault has been met. -/
def LBad (b : Nat) (s : ByteArray) (n i : Nat) (ts : List Tm) (w : World) (p : Nat) (wr : World) : Prop :=
  ∃ us, St b s p p (ts ++ us) wr ∧ Fr b w wr ∧ us.length ≤ 2 * (s.size - i) + 2 ∧ caOut s n i = .error p

set_option maxRecDepth 100000 in
set_option maxHeartbeats 4000000 in
theorem rcalls_any (b : Nat) (s : ByteArray) (n i : Nat) (ts : List Tm) (w : World) (IH : Hid (∀ m, m ≤ n → RAtom b s m)) (h : St b s i (-1) ts w) (hi : i ≤ s.size) (hs : s.size ≤ 1000) (hn : 3 * (s.size - i) + 1 ≤ n) (hl : ts.length + 2 * (s.size - i) + 2 ≤ 900)
    (H92 : Hid (chr s i ≠ 92)) (H64 : Hid (chr s i ≠ 64)) :
    Calls Tryz.prog 46 #[.pointer (some ⟨b, 0, none⟩)] w (RPost b s (caOut s n i) i ts w) := by
  have c2 := h.c2
  have c3 := h.c3
  go_enter Tryz.func46, Tryz.ntmps46
  go_wp2_with fail
  refine (rgot_no b s i 92 ts w h hi (by omega) H92.out (by decide)).mono ?_
  rintro e w1 ⟨rfl, d1, rfl⟩
  go_wp2_with fail
  refine (rgot_no b s i 64 ts _ (h.drewN d1) hi (by omega) H64.out (by decide)).mono ?_
  rintro e w2 ⟨rfl, d2, rfl⟩
  go_wp2_with fail
  refine (IH.out n (Nat.le_refl n) i ts _ (h.drewN _) hi hn hl).mono ?_
  rintro e w3 ⟨k3, hp⟩
  have F3 : Fr b w w3 := k3.undrew
  clear k3
  have HI : ∃ kN : Nat, ∃ more : Bool, e = .returned (.int .i64 (kN : Int)) ∧ Hid ((∃ j, LGood b s n i ts w kN j w3 ∧ more = begins (chr s j)) ∨ ((∃ p, LBad b s n i ts w p w3) ∧ more = false)) := by
    cases hq : pr s n 2 i 0 [] with
    | error p =>
      rw [hq] at hp
      obtain ⟨k, us, he, hst, hu⟩ := hp
      exact ⟨k, false, he, .inr ⟨⟨p, us, hst, F3, hu, by unfold caOut; rw [hq]⟩, rfl⟩⟩
    | ok r =>
      obtain ⟨kd, f, j⟩ := r
      rw [hq] at hp
      obtain ⟨k, us, he, hkk, hst, hu, hfo⟩ := hp
      have pl := pr_places s _ _ _ _ _ _ _ _ hq hi
      have ln := pr_len s _ _ _ _ _ 0 _ _ _ hq hi (by omega) (by omega)
      exact ⟨k, begins (chr s j), he, .inl ⟨j, ⟨n, kd, f, us, Nat.le_refl n, pl.2, by omega, by omega, hst, F3, hkk, hu, hfo, by omega, by unfold caOut; rw [hq]⟩, rfl⟩⟩
  obtain ⟨kN, more, rfl, HI⟩ := HI
  clear hp F3
  go_wp2_with fail
  have HS : Calls Tryz.prog 77 #[.pointer (some ⟨b, 0, none⟩)] w3 fun e w' => e = .returned (.bool more) ∧ ∃ d, w' = w3.drewN d := by
    rcases HI.out with ⟨j, hg, rfl⟩ | ⟨⟨p, hb⟩, rfl⟩
    · obtain ⟨m, kd, f, us, _, hj, _, _, hst, _⟩ := hg
      exact rstarts_any b s j _ w3 hst hj (by omega)
    · obtain ⟨us, hst, _⟩ := hb
      exact rstarts_bad b s p p _ w3 hst
  refine HS.mono ?_
  rintro e w4 ⟨rfl, d4, rfl⟩
  clear HS
  have HJ : Hid ((∃ j, LGood b s n i ts w kN j (w3.drewN d4) ∧ more = begins (chr s j)) ∨ ((∃ p, LBad b s n i ts w p (w3.drewN d4)) ∧ more = false)) := by
    rcases HI.out with ⟨j, ⟨m, kd, f, us, a1, a2, a3, a4, a5, a6, a7⟩, e⟩ | ⟨⟨p, us, b1, b2, b3⟩, e⟩
    · exact .inl ⟨j, ⟨m, kd, f, us, a1, a2, a3, a4, a5.drewN d4, a6.drewN d4, a7⟩, e⟩
    · exact .inr ⟨⟨p, us, b1.drewN d4, b2.drewN d4, b3⟩, e⟩
  clear HI
  go_wp2_with fail
  go_loopw [4, 5] (fun kv mv wr => ∃ (kN : Nat) (more : Bool), kv = .int .i64 (kN : Int) ∧ mv = .bool more ∧ Hid ((∃ j, LGood b s n i ts w kN j wr ∧ more = begins (chr s j)) ∨ ((∃ p, LBad b s n i ts w p wr) ∧ more = false))) (fun _ _ wr => meas b s wr)
  case atStart => exact ⟨kN, more, rfl, rfl, HJ⟩
  case round =>
    clear HJ c2 c3
    obtain ⟨kN, more, rfl, rfl, HI⟩ := hrel
    cases more with
    | false =>
      have HP : Hid (RPost b s (caOut s n i) i ts w (.returned (.int .i64 (kN : Int))) wr) := by
        rcases HI.out with ⟨j, ⟨m, kd, f, us, a1, a2, a3, a4, a5, a6, a7, a8, a9, a10, a11⟩, e⟩ | ⟨⟨p, us, b1, b2, b3, b4⟩, e⟩
        · obtain ⟨m, rfl⟩ : ∃ m', m = m' + 1 := ⟨m - 1, by omega⟩
          rw [more_no s m j kd f e.symm] at a11
          refine ⟨a6, ?_⟩
          rw [← a11]
          exact ⟨kN, us, rfl, a7, a5, a8, a9⟩
        · refine ⟨b2, ?_⟩
          rw [b4]
          exact ⟨kN, us, rfl, b1, b3⟩
      clear HI
      go_wp2_with fail
      go_ret
      exact HP.out
    | true =>
      rcases HI.out with ⟨j, ⟨m, kd, f, us, a1, a2, a3, a4, a5, a6, a7, a8, a9, a10, a11⟩, e⟩ | ⟨_, e⟩
      · obtain ⟨m, rfl⟩ : ∃ m', m = m' + 1 := ⟨m - 1, by omega⟩
        rw [more_yes s m j kd f e.symm] at a11
        have HA : Hid (_ = caOut s n i) := a11
        have HE : Hid (true = begins (chr s j)) := e
        have HL : Hid (us.length + 1 ≤ 2 * (j - i)) := a8
        clear a11 e HI
        have hjs : j < s.size := chr_in (begins_ne HE.out.symm)
        have c2 := a5.c2
        have hlen : (ts ++ us).length + 2 * (s.size - j) + 2 ≤ 900 := by simp; have := HL.out; omega
        go_wp2_with fail
        refine (IH.out m (by omega) j (ts ++ us) _ a5 a2 (by omega) hlen).mono ?_
        rintro e w5 ⟨k5, hp⟩
        have F5 := a6.trans k5
        cases hq : pr s m 2 j 0 [] with
        | error p =>
          rw [hq] at hp HA
          obtain ⟨k', us', rfl, h5, hu'⟩ := hp
          clear hq c2
          go_wp2_with fail
          refine (radd_any b s p p (ts ++ us ++ us') _ ⟨99, 0, kN, k', i, j⟩ h5 (by simp at hlen ⊢; omega)).mono ?_
          rintro e w6 ⟨rfl, h6, k6⟩
          have F6 := F5.trans k6
          generalize hm : (ts ++ us ++ us').length = kM at *
          have HM : Hid ((ts ++ us ++ us').length = kM) := hm
          clear hm
          go_wp2_with fail
          refine (rstarts_bad b s p p _ w6 h6).mono ?_
          rintro e w7 ⟨rfl, d7, rfl⟩
          go_wp2_with fail
          go_roundw
          case rel =>
            refine ⟨kM, false, rfl, rfl, .inr ⟨⟨p, us ++ us' ++ [⟨99, 0, kN, k', i, j⟩], ?_, F6.drewN d7, ?_, HA.out.symm⟩, rfl⟩⟩
            · rw [app1]; exact h6.drewN d7
            · have := HL.out; simp; omega
          case measure => rw [meas_bad (h6.drewN d7), meas_ok a5]; omega
        | ok r =>
          obtain ⟨l, f', q⟩ := r
          rw [hq] at hp HA
          obtain ⟨k', us', rfl, hkk', h5, hu', hfo'⟩ := hp
          have pl := pr_places s _ _ _ _ _ _ _ _ hq a2
          have ln := pr_len s _ _ _ _ _ 0 _ _ _ hq a2 (by omega) (by omega)
          have hq1 : j < q := by omega
          have hq2 : q ≤ s.size := pl.2
          clear hq c2 pl
          go_wp2_with fail
          refine (radd_any b s q (-1) (ts ++ us ++ us') _ ⟨99, 0, kN, k', i, j⟩ h5 (by simp at hlen ⊢; omega)).mono ?_
          rintro e w6 ⟨rfl, h6, k6⟩
          have F6 := F5.trans k6
          generalize hm : (ts ++ us ++ us').length = kM at *
          have HM : Hid ((ts ++ us ++ us').length = kM) := hm
          clear hm
          go_wp2_with fail
          refine (rstarts_any b s q _ w6 h6 hq2 (by omega)).mono ?_
          rintro e w7 ⟨rfl, d7, rfl⟩
          generalize hbq : begins (chr s q) = bq at *
          have HBQ : Hid (begins (chr s q) = bq) := hbq
          clear hbq
          go_wp2_with fail
          go_roundw
          case rel =>
            have g1 := firstOf_len kd f
            have g2 := secondOf_len l f'
            refine ⟨kM, bq, rfl, rfl, .inl ⟨q, ⟨m, 1, firstOf kd f ++ secondOf l f', us ++ us' ++ [⟨99, 0, kN, k', i, j⟩], by omega, hq2, by omega, by omega, ?_, F6.drewN d7, ?_, ?_, ?_, ?_, HA.out⟩, HBQ.out.symm⟩⟩
            · rw [app1]; exact h6.drewN d7
            · have := HM.out; simp at this ⊢; omega
            · have := HL.out; simp; omega
            · rw [app1, ← HM.out]
              exact Fo.call (ts ++ us ++ us') 0 kN k' i j kd l f f' (by decide) (a9.more us') hfo' (by omega)
            · rw [List.length_append]; omega
          case measure => rw [meas_ok (h6.drewN d7), meas_ok a5]; omega
      · cases e
end Go.Proofs.YtceadeaodbadlaaGreatDoor
