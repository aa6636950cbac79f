import Derived.Test.YtceadeaodbadlaaDoorAlike
set_option linter.unusedVariables false
set_option linter.unusedSimpArgs false
namespace Go.Proofs.YtceadeaodbadlaaDoor
open Go.RowKit

theorem Tv.atL {u : World} {t : Ty} {q : Nat} (h : Tv u t (viL q)) : ∃ n x, u.heap[q]? = some (obL n x) := by
  cases t with
  | nil => exact h.elim
  | node g o _ a b =>
    rcases h with ⟨_, e⟩ | ⟨_, e⟩ | ⟨_, e⟩ | ⟨_, q', x, e, hq, _⟩ | ⟨_, q', x, y, e, hq, _⟩ | ⟨_, q', x, y, e, hq, _⟩ <;> simp at e
    subst e; exact ⟨_, _, hq⟩
theorem Tv.atP {u : World} {t : Ty} {q : Nat} (h : Tv u t (viP q)) : ∃ n x y, u.heap[q]? = some (obP n x y) := by
  cases t with
  | nil => exact h.elim
  | node g o _ a b =>
    rcases h with ⟨_, e⟩ | ⟨_, e⟩ | ⟨_, e⟩ | ⟨_, q', x, e, hq, _⟩ | ⟨_, q', x, y, e, hq, _⟩ | ⟨_, q', x, y, e, hq, _⟩ <;> simp at e
    subst e; exact ⟨_, _, _, hq⟩
theorem Tv.atF {u : World} {t : Ty} {q : Nat} (h : Tv u t (viF q)) : ∃ n x y, u.heap[q]? = some (obF n x y) := by
  cases t with
  | nil => exact h.elim
  | node g o _ a b =>
    rcases h with ⟨_, e⟩ | ⟨_, e⟩ | ⟨_, e⟩ | ⟨_, q', x, e, hq, _⟩ | ⟨_, q', x, y, e, hq, _⟩ | ⟨_, q', x, y, e, hq, _⟩ <;> simp at e
    subst e; exact ⟨_, _, _, hq⟩
/-- One node is one value. -/
theorem ndv_one {u : World} {t t' : Ty} {v v' : Value} {q k : Nat} (h : Tv u t v) (h' : Tv u t' v') (n : NdV v q k) (n' : NdV v' q k) : v = v' := by
  rcases n with ⟨rfl, rfl⟩ | ⟨rfl, rfl⟩ | ⟨rfl, rfl⟩ <;> rcases n' with ⟨rfl, e⟩ | ⟨rfl, e⟩ | ⟨rfl, e⟩ <;> first | rfl | cases e | skip
  · obtain ⟨_, _, _, e1⟩ := h.atP
    obtain ⟨_, _, _, e2⟩ := h'.atF
    rw [e1] at e2; simp at e2
  · obtain ⟨_, _, _, e1⟩ := h.atF
    obtain ⟨_, _, _, e2⟩ := h'.atP
    rw [e1] at e2; simp at e2

theorem good.mark {u : World} {L : Mks} {x : Ty} {v v' : Value} {q k : Nat} (hg : good u L) (hx : Ok x) (h : Tv u x v) (h' : Tv u x v') (n : NdV v q k) : good u ((q, k, v') :: L) := by
  intro q1 k1 f1 hm v1 t1 n1 ho1 h1
  rcases List.mem_cons.1 hm with e | hm
  · simp at e
    obtain ⟨rfl, rfl, rfl⟩ := e
    have := ndv_one h h1 n n1
    subst this
    rw [Tv.one t1 x v ho1 hx h1 h]
    exact h'
  · exact hg q1 k1 f1 hm v1 t1 n1 ho1 h1
theorem good.remark {u w : World} {vb : Nat} {L : Mks} {x : Ty} {v v' : Value} {q k : Nat} {o : Obj} (hg : good u L) (hV : Vs vb L u w) (hq : u.heap[q]? = some o) (hn : isNd o k) (hx : Ok x) (h : Tv u x v) (h' : Tv u x v') (n : NdV v q k) : good u (upd q v' L) := by
  intro q1 k1 f1 hm v1 t1 n1 ho1 h1
  rcases upd_mem hm with hm | ⟨e1, e2, g, hm2⟩
  · exact hg q1 k1 f1 hm v1 t1 n1 ho1 h1
  · simp only at e1 e2 hm2
    clear hm
    subst e1
    subst e2
    obtain ⟨⟨o', ho', hn'⟩, _⟩ := hV.nds _ hm2
    simp only at ho' hn'
    rw [hq] at ho'
    obtain rfl := Option.some.inj ho'
    obtain rfl := hn.one hn'
    have := ndv_one h h1 n n1
    subst this
    rw [Tv.one t1 x v ho1 hx h1 h]
    exact h'

theorem Vs.partL {vb : Nat} {L : Mks} {u w : World} (h : Vs vb L u w) {q n : Nat} {x : Value} (hq : u.heap[q]? = some (obL n x)) : w.cell? ⟨q, 0, none⟩ = some x := h.part hq (ndL _ _) (Nat.zero_le _) rfl
theorem Vs.partP0 {vb : Nat} {L : Mks} {u w : World} (h : Vs vb L u w) {q n : Nat} {x y : Value} (hq : u.heap[q]? = some (obP n x y)) : w.cell? ⟨q, 0, none⟩ = some x := h.part hq (ndP _ _ _) (by decide) rfl
theorem Vs.partP1 {vb : Nat} {L : Mks} {u w : World} (h : Vs vb L u w) {q n : Nat} {x y : Value} (hq : u.heap[q]? = some (obP n x y)) : w.cell? ⟨q, 1, none⟩ = some y := h.part hq (ndP _ _ _) (by decide) rfl
theorem Vs.partF0 {vb : Nat} {L : Mks} {u w : World} (h : Vs vb L u w) {q n : Nat} {x y : Value} (hq : u.heap[q]? = some (obF n x y)) : w.cell? ⟨q, 0, none⟩ = some x := h.part hq (ndF _ _ _) (by decide) rfl
theorem Vs.partF1 {vb : Nat} {L : Mks} {u w : World} (h : Vs vb L u w) {q n : Nat} {x y : Value} (hq : u.heap[q]? = some (obF n x y)) : w.cell? ⟨q, 1, none⟩ = some y := h.part hq (ndF _ _ _) (by decide) rfl
theorem args_first (a b c : Value) : (#[a] : Array Value) ++ (#[b, c] ++ #[]) = #[a, b, c] := by simp
theorem args_last (a b c : Value) : (#[] : Array Value) ++ (#[a, b] ++ #[c]) = #[a, b, c] := by simp
theorem same_entered : Entered 58 := enters_of Tryd.func58 (by kernel_rfl) rfl
def PartsSaid (x y : Ty) : Prop := ∀ (vb : Nat) (L : Mks) (u w : World) (v v' : Value), Tv u x v → Tv u y v' → Vs vb L u w → good u L →
  Calls Tryd.prog 42 #[v, v', .func (.func 58) #[.pointer (some ⟨vb, 0, none⟩)] #[]] w fun e w' => ∃ L', e = .returned (.bool (eqT x y)) ∧ Vs vb L' u w' ∧ good u L'

set_option maxHeartbeats 1000000 in
theorem same_leaf {x y : Ty} (hx : Ok x) (hy : Ok y) (hl : ∀ u v, Tv u x v → Leaf v) : SameSaid x y := by
  intro vb L u w v v' h h' hV hg
  have lf := hl u v h
  obtain ⟨c, he, hc1, hc2⟩ := eq_tv hV hx hy h h'
  have hc := hc2 lf
  rw [← hc]
  have A := at_leaf vb w lf
  have P : Calls Tryd.prog 42 #[v, v', .func (.func 58) #[.pointer (some ⟨vb, 0, none⟩)] #[]] w fun e w' => e = .returned (.bool c) ∧ w' = w := by
    rcases lf with rfl | rfl | ⟨o, rfl⟩ <;> exact alike_leaf _ v' _ c w h'.iface (by decide) (by decide) (by decide) he
  obtain ⟨T, z, rfl⟩ := h.iface
  obtain ⟨T', z', rfl⟩ := h'.iface
  have en := fun w => eql_nil_v (T := T') z' w
  clear hc1 hc2 hc lf h h' hl hx hy
  cases c
  · go_enter Tryd.func58, Tryd.ntmps58
    go_wp2_with fail
    refine A.mono ?_
    rintro e w' ⟨rfl, rfl⟩
    go_wp2_with fail
    refine P.mono ?_
    rintro e w' ⟨rfl, rfl⟩
    go_wp2_with fail
    go_ret
    exact ⟨rfl, L, hV, hg⟩
  · go_enter Tryd.func58, Tryd.ntmps58
    go_wp2_with fail
    go_ret
    exact ⟨rfl, L, hV, hg⟩

set_option maxHeartbeats 2000000 in
theorem same_node {x y : Ty} (hx : Ok x) (hy : Ok y) (hl : ∀ u v, Tv u x v → ∃ q k o, NdV v q k ∧ u.heap[q]? = some o ∧ isNd o k) (P : PartsSaid x y) : SameSaid x y := by
  intro vb L u w v v' h h' hV hg
  obtain ⟨q, k, o, nv, hq, hn⟩ := hl u v h
  obtain ⟨c, he, hc1, _⟩ := eq_tv hV hx hy h h'
  cases c with
  | true =>
    have e1 : eqT x y = true := (eqT_iff x y).2 (Tv.one x y v hx hy h (by rw [hc1 rfl]; exact h'))
    rw [e1]
    obtain ⟨T, z, rfl⟩ := h.iface
    obtain ⟨T', z', rfl⟩ := h'.iface
    clear hc1 h h' hl hx hy P
    go_enter Tryd.func58, Tryd.ntmps58
    go_wp2_with fail
    go_ret
    exact ⟨rfl, L, hV, hg⟩
  | false =>
    have A := at_nd vb (fnd L q) w nv (hV.found hq hn)
    have C : ∃ c2 : Bool, (binOp .eql 43 (fnd L q) v').run Tryd.prog w = .ok (.bool c2) w ∧ (c2 = true → eqT x y = true) ∧ (fnd L q = .nilIface ∨ ∃ T z, fnd L q = .iface T z) := by
      by_cases hin : q ∈ L.map (·.1)
      · obtain ⟨k', hm⟩ := fnd_in hin
        obtain ⟨⟨o', ho', hn'⟩, _⟩ := hV.nds _ hm
        simp only at ho' hn'
        rw [hq] at ho'
        obtain rfl := Option.some.inj ho'
        obtain rfl := hn.one hn'
        have hf := hg q k _ hm v x nv hx h
        obtain ⟨c2, he2, h2, _⟩ := eq_tv hV hx hy hf h'
        exact ⟨c2, he2, fun e => (eqT_iff x y).2 (Tv.one x y _ hx hy hf (by rw [h2 e]; exact h')), .inr hf.iface⟩
      · rw [fnd_not hin]
        obtain ⟨T', z', rfl⟩ := h'.iface
        exact ⟨false, eql_nil_v z' w, fun e => (by cases e), .inl rfl⟩
    obtain ⟨c2, he2, h2, hff⟩ := C
    have PS := P vb L u w v v' h h' hV hg
    generalize fnd L q = ff at *
    cases c2 with
    | true =>
      have e1 := h2 rfl
      rw [e1]
      obtain ⟨T, z, rfl⟩ := h.iface
      obtain ⟨T', z', rfl⟩ := h'.iface
      clear hc1 h h' hl hx hy P PS h2
      rcases hff with rfl | ⟨Tf, xf, rfl⟩
      all_goals
        go_enter Tryd.func58, Tryd.ntmps58
        go_wp2_with fail
        refine A.mono ?_
        rintro e w' ⟨rfl, rfl⟩
        go_wp2_with fail
        go_ret
        exact ⟨rfl, L, hV, hg⟩
    | false =>
      cases hr : eqT x y with
      | false =>
        rw [hr] at PS
        obtain ⟨T, z, rfl⟩ := h.iface
        obtain ⟨T', z', rfl⟩ := h'.iface
        clear hc1 h h' hl hx hy P h2 hr
        rcases hff with rfl | ⟨Tf, xf, rfl⟩
        all_goals
          go_enter Tryd.func58, Tryd.ntmps58
          go_wp2_with fail
          refine A.mono ?_
          rintro e w' ⟨rfl, rfl⟩
          go_wp2_with fail
          refine PS.mono ?_
          rintro e w1 ⟨L1, rfl, hV1, hg1⟩
          go_wp2_with fail
          go_ret
          exact ⟨rfl, L1, hV1, hg1⟩
      | true =>
        rw [hr] at PS
        have exy := (eqT_iff x y).1 hr
        subst exy
        have K : ∀ w1 L1, Vs vb L1 u w1 → good u L1 → Calls Tryd.prog 64 #[.pointer (some ⟨vb, 0, none⟩), v, v'] w1 fun e w' => e = .returned (.tuple #[]) ∧ ∃ L', Vs vb L' u w' ∧ good u L' := by
          intro w1 L1 hV1 hg1
          obtain ⟨T', z', rfl⟩ := h'.iface
          by_cases hin : q ∈ L1.map (·.1)
          · refine (keep_old nv hV1 hq hn hin T' z').mono ?_
            rintro e w2 ⟨rfl, hV2⟩
            exact ⟨rfl, _, hV2, hg1.remark hV1 hq hn hx h h' nv⟩
          · refine (keep_new nv hV1 hq hn hin T' z').mono ?_
            rintro e w2 ⟨rfl, hV2⟩
            exact ⟨rfl, _, hV2, hg1.mark hx h h' nv⟩
        obtain ⟨T, z, rfl⟩ := h.iface
        obtain ⟨T', z', rfl⟩ := h'.iface
        clear hc1 h h' hl hx hy P h2 hr
        rcases hff with rfl | ⟨Tf, xf, rfl⟩
        all_goals
          go_enter Tryd.func58, Tryd.ntmps58
          go_wp2_with fail
          refine A.mono ?_
          rintro e w' ⟨rfl, rfl⟩
          go_wp2_with fail
          refine PS.mono ?_
          rintro e w1 ⟨L1, rfl, hV1, hg1⟩
          go_wp2_with fail
          refine (K w1 L1 hV1 hg1).mono ?_
          rintro e w2 ⟨rfl, L2, hV2, hg2⟩
          go_wp2_with fail
          go_ret
          exact ⟨rfl, L2, hV2, hg2⟩

theorem visit_same : ∀ x y : Ty, Ok x → Ok y → SameSaid x y := by
  intro x
  induction x with
  | nil => intro y hx; exact hx.elim
  | node g o uu a b iha ihb =>
    intro y hx hy
    cases uu
    have hx0 := hx
    rcases hx with ⟨rfl, rfl, rfl, rfl⟩ | ⟨rfl, rfl, rfl, rfl⟩ | ⟨rfl, ho, rfl, rfl⟩ | ⟨rfl, rfl, ha, rfl⟩ | ⟨rfl, rfl, ha, hb⟩ | ⟨rfl, rfl, ha, hb⟩
    · exact same_leaf hx0 hy fun u v h => .inl (Tv.isI h)
    · exact same_leaf hx0 hy fun u v h => .inr (.inl (Tv.isB h))
    · exact same_leaf hx0 hy fun u v h => .inr (.inr ⟨o, Tv.isV h⟩)
    · refine same_node hx0 hy (fun u v h => ?_) ?_
      · obtain ⟨q, x, rfl, hq, _⟩ := Tv.isL h
        exact ⟨q, 1, _, .inl ⟨rfl, rfl⟩, hq, ndL _ _⟩
      · intro vb L u w v v' h h' hV hg
        obtain ⟨q, x, rfl, hq, hx⟩ := Tv.isL h
        have miss : ∀ T z, T ≠ 126 → eqT (tL a) y = false → Calls Tryd.prog 42 #[viL q, .iface T z, .func (.func 58) #[.pointer (some ⟨vb, 0, none⟩)] #[]] w fun e w' => ∃ L', e = .returned (.bool (eqT (tL a) y)) ∧ Vs vb L' u w' ∧ good u L' := by
          intro T z hT e0
          refine (alikeL_miss q z _ w hT).mono ?_
          rintro e w' ⟨rfl, n, rfl⟩
          exact ⟨L, by rw [e0], hV.drewN n, hg⟩
        rcases hy.cases with rfl | rfl | ⟨o', _, _, rfl⟩ | ⟨a', ha', rfl⟩ | ⟨a', b', ha', hb', rfl⟩ | ⟨a', b', ha', hb', rfl⟩
        · rw [h'.isI]; exact miss _ _ (by decide) (by simp [eqT])
        · rw [h'.isB]; exact miss _ _ (by decide) (by simp [eqT])
        · rw [h'.isV]; exact miss _ _ (by decide) (by simp [eqT])
        · obtain ⟨q', x', rfl, hq', hx'⟩ := h'.isL
          have e1 : eqT (tL a) (tL a') = eqT a a' := by simp [eqT]
          rw [e1]
          obtain ⟨T, xx, rfl⟩ := hx.iface
          obtain ⟨T', xx', rfl⟩ := hx'.iface
          refine (alikeL_hit 58 #[.pointer (some ⟨vb, 0, none⟩)] #[] same_entered w q q' T T' xx xx' (fun r w1 => r = eqT a a' ∧ ∃ L', Vs vb L' u w1 ∧ good u L') (hV.partL hq) (hV.partL hq') (by rw [args_first]; exact (iha a' ha ha' vb L u w.drew _ _ hx hx' hV.drew hg).mono fun e w1 h1 => by obtain ⟨rfl, h1⟩ := h1; exact ⟨_, rfl, rfl, h1⟩) ?_).mono ?_
          · rintro r w1 ⟨_, L1, hV1, _⟩; exact ⟨hV1.partL hq, hV1.partL hq'⟩
          · rintro e w1 ⟨r, rfl, rfl, L1, h1, h2⟩; exact ⟨L1, rfl, h1, h2⟩
        · obtain ⟨q', x', y', rfl, _⟩ := h'.isP; exact miss _ _ (by decide) (by simp [eqT])
        · obtain ⟨q', x', y', rfl, _⟩ := h'.isF; exact miss _ _ (by decide) (by simp [eqT])
    · refine same_node hx0 hy (fun u v h => ?_) ?_
      · obtain ⟨q, x, y, rfl, hq, _⟩ := Tv.isP h
        exact ⟨q, 2, _, .inr (.inl ⟨rfl, rfl⟩), hq, ndP _ _ _⟩
      · intro vb L u w v v' h h' hV hg
        obtain ⟨q, x, x2, rfl, hq, hx, hx2⟩ := Tv.isP h
        have miss : ∀ T z, T ≠ 118 → eqT (tP a b) y = false → Calls Tryd.prog 42 #[viP q, .iface T z, .func (.func 58) #[.pointer (some ⟨vb, 0, none⟩)] #[]] w fun e w' => ∃ L', e = .returned (.bool (eqT (tP a b) y)) ∧ Vs vb L' u w' ∧ good u L' := by
          intro T z hT e0
          refine (alikeP_miss q z _ w hT).mono ?_
          rintro e w' ⟨rfl, n, rfl⟩
          exact ⟨L, by rw [e0], hV.drewN n, hg⟩
        rcases hy.cases with rfl | rfl | ⟨o', _, _, rfl⟩ | ⟨a', ha', rfl⟩ | ⟨a', b', ha', hb', rfl⟩ | ⟨a', b', ha', hb', rfl⟩
        · rw [h'.isI]; exact miss _ _ (by decide) (by simp [eqT])
        · rw [h'.isB]; exact miss _ _ (by decide) (by simp [eqT])
        · rw [h'.isV]; exact miss _ _ (by decide) (by simp [eqT])
        · obtain ⟨q', x', rfl, _⟩ := h'.isL; exact miss _ _ (by decide) (by simp [eqT])
        · obtain ⟨q', y, y2, rfl, hq', hy1, hy2⟩ := h'.isP
          cases hac : eqT a a' with
          | false =>
            have e1 : eqT (tP a b) (tP a' b') = false := by simp [eqT, hac]
            rw [e1]
            obtain ⟨Tx, xx, rfl⟩ := hx.iface
            obtain ⟨Ty, yy, rfl⟩ := hy1.iface
            obtain ⟨Sx, xx2, rfl⟩ := hx2.iface
            obtain ⟨Sy, yy2, rfl⟩ := hy2.iface
            have I1 := iha a' ha ha' vb L u w.drew _ _ hx hy1 hV.drew hg
            rw [hac] at I1
            refine (alikeP_no 58 #[.pointer (some ⟨vb, 0, none⟩)] #[] same_entered w q q' Tx Ty Sx Sy xx yy xx2 yy2 (fun w1 => ∃ L', Vs vb L' u w1 ∧ good u L') (hV.partP0 hq) (hV.partP0 hq') (hV.partP1 hq) (hV.partP1 hq') (by rw [args_first]; exact I1) ?_).mono ?_
            · rintro w1 ⟨L1, hV1, _⟩; exact ⟨hV1.partP0 hq, hV1.partP0 hq', hV1.partP1 hq, hV1.partP1 hq'⟩
            · rintro e w1 ⟨rfl, L1, h1, h2⟩; exact ⟨L1, rfl, h1, h2⟩
          | true =>
            have e1 : eqT (tP a b) (tP a' b') = eqT b b' := by simp [eqT, hac]
            rw [e1]
            obtain ⟨Tx, xx, rfl⟩ := hx.iface
            obtain ⟨Ty, yy, rfl⟩ := hy1.iface
            obtain ⟨Sx, xx2, rfl⟩ := hx2.iface
            obtain ⟨Sy, yy2, rfl⟩ := hy2.iface
            have I1 := iha a' ha ha' vb L u w.drew _ _ hx hy1 hV.drew hg
            rw [hac] at I1
            refine (alikeP_yes 58 #[.pointer (some ⟨vb, 0, none⟩)] #[] same_entered w q q' Tx Ty Sx Sy xx yy xx2 yy2 (fun w1 => ∃ L', Vs vb L' u w1 ∧ good u L') (fun r w1 => r = eqT b b' ∧ ∃ L', Vs vb L' u w1 ∧ good u L') (hV.partP0 hq) (hV.partP0 hq') (hV.partP1 hq) (hV.partP1 hq') (by rw [args_first]; exact I1) ?_ ?_ ?_).mono ?_
            · rintro w1 ⟨L1, hV1, hg1⟩
              rw [args_first]; refine (ihb b' hb hb' vb L1 u w1 _ _ hx2 hy2 hV1 hg1).mono ?_
              rintro e w2 ⟨rfl, h1⟩; exact ⟨_, rfl, rfl, h1⟩
            · rintro w1 ⟨L1, hV1, _⟩; exact ⟨hV1.partP0 hq, hV1.partP0 hq', hV1.partP1 hq, hV1.partP1 hq'⟩
            · rintro r w1 ⟨_, L1, hV1, _⟩; exact ⟨hV1.partP0 hq, hV1.partP0 hq', hV1.partP1 hq, hV1.partP1 hq'⟩
            · rintro e w1 ⟨r, rfl, rfl, L1, h1, h2⟩; exact ⟨L1, rfl, h1, h2⟩
        · obtain ⟨q', x', y', rfl, _⟩ := h'.isF; exact miss _ _ (by decide) (by simp [eqT])
    · refine same_node hx0 hy (fun u v h => ?_) ?_
      · obtain ⟨q, x, y, rfl, hq, _⟩ := Tv.isF h
        exact ⟨q, 2, _, .inr (.inr ⟨rfl, rfl⟩), hq, ndF _ _ _⟩
      · intro vb L u w v v' h h' hV hg
        obtain ⟨q, x, x2, rfl, hq, hx, hx2⟩ := Tv.isF h
        have miss : ∀ T z, T ≠ 89 → eqT (tF a b) y = false → Calls Tryd.prog 42 #[viF q, .iface T z, .func (.func 58) #[.pointer (some ⟨vb, 0, none⟩)] #[]] w fun e w' => ∃ L', e = .returned (.bool (eqT (tF a b) y)) ∧ Vs vb L' u w' ∧ good u L' := by
          intro T z hT e0
          refine (alikeF_miss q z _ w hT).mono ?_
          rintro e w' ⟨rfl, n, rfl⟩
          exact ⟨L, by rw [e0], hV.drewN n, hg⟩
        rcases hy.cases with rfl | rfl | ⟨o', _, _, rfl⟩ | ⟨a', ha', rfl⟩ | ⟨a', b', ha', hb', rfl⟩ | ⟨a', b', ha', hb', rfl⟩
        · rw [h'.isI]; exact miss _ _ (by decide) (by simp [eqT])
        · rw [h'.isB]; exact miss _ _ (by decide) (by simp [eqT])
        · rw [h'.isV]; exact miss _ _ (by decide) (by simp [eqT])
        · obtain ⟨q', x', rfl, _⟩ := h'.isL; exact miss _ _ (by decide) (by simp [eqT])
        · obtain ⟨q', x', y', rfl, _⟩ := h'.isP; exact miss _ _ (by decide) (by simp [eqT])
        · obtain ⟨q', y, y2, rfl, hq', hy1, hy2⟩ := h'.isF
          cases hac : eqT a a' with
          | false =>
            have e1 : eqT (tF a b) (tF a' b') = false := by simp [eqT, hac]
            rw [e1]
            obtain ⟨Tx, xx, rfl⟩ := hx.iface
            obtain ⟨Ty, yy, rfl⟩ := hy1.iface
            obtain ⟨Sx, xx2, rfl⟩ := hx2.iface
            obtain ⟨Sy, yy2, rfl⟩ := hy2.iface
            have I1 := iha a' ha ha' vb L u w.drew _ _ hx hy1 hV.drew hg
            rw [hac] at I1
            refine (alikeF_no 58 #[.pointer (some ⟨vb, 0, none⟩)] #[] same_entered w q q' Tx Ty Sx Sy xx yy xx2 yy2 (fun w1 => ∃ L', Vs vb L' u w1 ∧ good u L') (hV.partF0 hq) (hV.partF0 hq') (hV.partF1 hq) (hV.partF1 hq') (by rw [args_first]; exact I1) ?_).mono ?_
            · rintro w1 ⟨L1, hV1, _⟩; exact ⟨hV1.partF0 hq, hV1.partF0 hq', hV1.partF1 hq, hV1.partF1 hq'⟩
            · rintro e w1 ⟨rfl, L1, h1, h2⟩; exact ⟨L1, rfl, h1, h2⟩
          | true =>
            have e1 : eqT (tF a b) (tF a' b') = eqT b b' := by simp [eqT, hac]
            rw [e1]
            obtain ⟨Tx, xx, rfl⟩ := hx.iface
            obtain ⟨Ty, yy, rfl⟩ := hy1.iface
            obtain ⟨Sx, xx2, rfl⟩ := hx2.iface
            obtain ⟨Sy, yy2, rfl⟩ := hy2.iface
            have I1 := iha a' ha ha' vb L u w.drew _ _ hx hy1 hV.drew hg
            rw [hac] at I1
            refine (alikeF_yes 58 #[.pointer (some ⟨vb, 0, none⟩)] #[] same_entered w q q' Tx Ty Sx Sy xx yy xx2 yy2 (fun w1 => ∃ L', Vs vb L' u w1 ∧ good u L') (fun r w1 => r = eqT b b' ∧ ∃ L', Vs vb L' u w1 ∧ good u L') (hV.partF0 hq) (hV.partF0 hq') (hV.partF1 hq) (hV.partF1 hq') (by rw [args_first]; exact I1) ?_ ?_ ?_).mono ?_
            · rintro w1 ⟨L1, hV1, hg1⟩
              rw [args_first]; refine (ihb b' hb hb' vb L1 u w1 _ _ hx2 hy2 hV1 hg1).mono ?_
              rintro e w2 ⟨rfl, h1⟩; exact ⟨_, rfl, rfl, h1⟩
            · rintro w1 ⟨L1, hV1, _⟩; exact ⟨hV1.partF0 hq, hV1.partF0 hq', hV1.partF1 hq, hV1.partF1 hq'⟩
            · rintro r w1 ⟨_, L1, hV1, _⟩; exact ⟨hV1.partF0 hq, hV1.partF0 hq', hV1.partF1 hq, hV1.partF1 hq'⟩
            · rintro e w1 ⟨r, rfl, rfl, L1, h1, h2⟩; exact ⟨L1, rfl, h1, h2⟩

theorem Ends.below {vb : Nat} {w0 u w : World} (h : Ends vb u w) (hb : Below w0.heap.size w0 u) (hv : w0.heap.size ≤ vb) : Below w0.heap.size w0 w :=
  ⟨h.os.trans hb.os, h.tape.trans hb.tape, h.output.trans hb.output, by rw [h.size]; exact hb.size, fun k hk => (h.blk k (by omega)).trans (hb.block k hk)⟩
abbrev visO : Obj := .cells #[.pointer none] 135
theorem Vs.new (w : World) : Vs w.heap.size [] (w.alloc visO) (w.alloc visO) :=
  ⟨rfl, rfl, rfl, rfl, heap_alloc_new w _, ⟨_, heap_alloc_new w _⟩, fun _ _ => rfl, fun m h => (by cases h), List.nodup_nil⟩

set_option maxHeartbeats 1000000 in
theorem same_any (x y : Ty) (v v' : Value) (w : World) (hx : Ok x) (hy : Ok y) (h : Tv w x v) (h' : Tv w y v') :
    Calls Tryd.prog 44 #[v, v'] w fun e w' => e = .returned (.bool (eqT x y)) ∧ Below w.heap.size w w' := by
  have b1 : Below w.heap.size w (w.alloc visO) := (Below.refl _ w).alloc (Nat.le_refl _) _
  have S := visit_same x y hx hy w.heap.size [] (w.alloc visO) (w.alloc visO) v v' (h.below b1) (h'.below b1) (Vs.new w) (fun q k f hm => by cases hm)
  obtain ⟨T, z, rfl⟩ := h.iface
  obtain ⟨T', z', rfl⟩ := h'.iface
  clear h h'
  go_enter_defers Tryd.func44, Tryd.ntmps44
  go_wp2_with fail
  refine S.mono ?_
  rintro e w1 ⟨rfl, L, hV, _⟩
  go_wp2_with fail
  refine leaves_cons (f := 57) (args := #[.pointer (some ⟨w.heap.size, 0, none⟩)]) (by simp) (by simp [go_sem]) ?_
  refine (end_deferred w.heap.size L _ .returning w1 hV).mono ?_
  rintro e u' w2 ⟨rfl, rfl, hE⟩
  exact ⟨_, results_tmp rfl _ _ _, rfl, hE.below b1 (Nat.le_refl _)⟩
end Go.Proofs.YtceadeaodbadlaaDoor
