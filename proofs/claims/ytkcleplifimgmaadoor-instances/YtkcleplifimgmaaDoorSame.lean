import Derived.Test.YtkcleplifimgmaaDoorVisit4P
import Derived.Test.YtkcleplifimgmaaDoorVisit4F
set_option linter.unusedVariables false
set_option linter.unusedSimpArgs false
namespace Go.Proofs.YtkcleplifimgmaaDoor
open Go.RowKit

theorem Tv.atL {u : World} {t : Ty} {q : Nat} (h : Tv u t (viL q)) : ∃ n x, u.heap[q]? = some (obL n x) := by
  cases t with
  | nil => exact h.elim
  | node g o _ a b =>
    rcases h with ⟨_, e⟩ | ⟨_, e⟩ | ⟨_, e⟩ | ⟨_, q', x, e, hq, _⟩ | ⟨_, q', x, y, e, hq, _⟩ | ⟨_, q', x, y, e, hq, _⟩ <;> simp at e
    subst e; exact ⟨_, _, hq⟩
theorem Tv.atP {u : World} {t : Ty} {q : Nat} (h : Tv u t (viP q)) : ∃ n x y, u.heap[q]? = some (obP n x y) := by
  cases t with
  | nil => exact h.elim
  | node g o _ a b =>
    rcases h with ⟨_, e⟩ | ⟨_, e⟩ | ⟨_, e⟩ | ⟨_, q', x, e, hq, _⟩ | ⟨_, q', x, y, e, hq, _⟩ | ⟨_, q', x, y, e, hq, _⟩ <;> simp at e
    subst e; exact ⟨_, _, _, hq⟩
theorem Tv.atF {u : World} {t : Ty} {q : Nat} (h : Tv u t (viF q)) : ∃ n x y, u.heap[q]? = some (obF n x y) := by
  cases t with
  | nil => exact h.elim
  | node g o _ a b =>
    rcases h with ⟨_, e⟩ | ⟨_, e⟩ | ⟨_, e⟩ | ⟨_, q', x, e, hq, _⟩ | ⟨_, q', x, y, e, hq, _⟩ | ⟨_, q', x, y, e, hq, _⟩ <;> simp at e
    subst e; exact ⟨_, _, _, hq⟩
/-- One node is one value. -/
theorem ndv_one {u : World} {t t' : Ty} {v v' : Value} {q k : Nat} (h : Tv u t v) (h' : Tv u t' v') (n : NdV v q k) (n' : NdV v' q k) : v = v' := by
  rcases n with ⟨rfl, rfl⟩ | ⟨rfl, rfl⟩ | ⟨rfl, rfl⟩ <;> rcases n' with ⟨rfl, e⟩ | ⟨rfl, e⟩ | ⟨rfl, e⟩ <;> first | rfl | cases e | skip
  · obtain ⟨_, _, _, e1⟩ := h.atP
    obtain ⟨_, _, _, e2⟩ := h'.atF
    rw [e1] at e2; simp at e2
  · obtain ⟨_, _, _, e1⟩ := h.atF
    obtain ⟨_, _, _, e2⟩ := h'.atP
    rw [e1] at e2; simp at e2

theorem good.mark {u : World} {L : Mks} {x : Ty} {v v' : Value} {q k : Nat} (hg : good u L) (hx : Ok x) (h : Tv u x v) (h' : Tv u x v') (n : NdV v q k) : good u ((q, k, v') :: L) := by
  intro q1 k1 f1 hm v1 t1 n1 ho1 h1
  rcases List.mem_cons.1 hm with e | hm
  · simp at e
    obtain ⟨rfl, rfl, rfl⟩ := e
    have := ndv_one h h1 n n1
    subst this
    rw [Tv.one t1 x v ho1 hx h1 h]
    exact h'
  · exact hg q1 k1 f1 hm v1 t1 n1 ho1 h1
theorem good.remark {u w : World} {vb : Nat} {L : Mks} {x : Ty} {v v' : Value} {q k : Nat} {o : Obj} (hg : good u L) (hV : Vs vb L u w) (hq : u.heap[q]? = some o) (hn : isNd o k) (hx : Ok x) (h : Tv u x v) (h' : Tv u x v') (n : NdV v q k) : good u (upd q v' L) := by
  intro q1 k1 f1 hm v1 t1 n1 ho1 h1
  rcases upd_mem hm with hm | ⟨e1, e2, g, hm2⟩
  · exact hg q1 k1 f1 hm v1 t1 n1 ho1 h1
  · simp only at e1 e2 hm2
    clear hm
    subst e1
    subst e2
    obtain ⟨⟨o', ho', hn'⟩, _⟩ := hV.nds _ hm2
    simp only at ho' hn'
    rw [hq] at ho'
    obtain rfl := Option.some.inj ho'
    obtain rfl := hn.one hn'
    have := ndv_one h h1 n n1
    subst this
    rw [Tv.one t1 x v ho1 hx h1 h]
    exact h'

set_option maxHeartbeats 1000000 in
theorem same_leaf {x y : Ty} (hx : Ok x) (hy : Ok y) (hl : ∀ u v, Tv u x v → Leaf v) : SameSaid x y := by
  intro vb L u w v v' h h' hV hg
  have lf := hl u v h
  obtain ⟨c, he, hc1, hc2⟩ := eq_tv hV hx hy h h'
  have hc := hc2 lf
  rw [← hc]
  have A := at_leaf vb w lf
  have P : Calls Tryd.prog 62 #[.pointer (some ⟨vb, 0, none⟩), v, v'] w fun e w' => e = .returned (.bool false) ∧ w' = w := by
    rcases lf with rfl | rfl | ⟨o, rfl⟩ <;> exact parts_leaf _ v' vb w h'.iface (by decide) (by decide) (by decide)
  obtain ⟨T, z, rfl⟩ := h.iface
  obtain ⟨T', z', rfl⟩ := h'.iface
  have en := fun w => eql_nil_v (T := T') z' w
  clear hc1 hc2 hc lf h h' hl hx hy
  cases c
  · go_enter Tryd.func56, Tryd.ntmps56
    go_wp2_with fail
    refine A.mono ?_
    rintro e w' ⟨rfl, rfl⟩
    go_wp2_with fail
    refine P.mono ?_
    rintro e w' ⟨rfl, rfl⟩
    go_wp2_with fail
    go_ret
    exact ⟨rfl, L, hV, hg⟩
  · go_enter Tryd.func56, Tryd.ntmps56
    go_wp2_with fail
    go_ret
    exact ⟨rfl, L, hV, hg⟩

set_option maxHeartbeats 2000000 in
theorem same_node {x y : Ty} (hx : Ok x) (hy : Ok y) (hl : ∀ u v, Tv u x v → ∃ q k o, NdV v q k ∧ u.heap[q]? = some o ∧ isNd o k) (P : PartsSaid x y) : SameSaid x y := by
  intro vb L u w v v' h h' hV hg
  obtain ⟨q, k, o, nv, hq, hn⟩ := hl u v h
  obtain ⟨c, he, hc1, _⟩ := eq_tv hV hx hy h h'
  cases c with
  | true =>
    have e1 : eqT x y = true := (eqT_iff x y).2 (Tv.one x y v hx hy h (by rw [hc1 rfl]; exact h'))
    rw [e1]
    obtain ⟨T, z, rfl⟩ := h.iface
    obtain ⟨T', z', rfl⟩ := h'.iface
    clear hc1 h h' hl hx hy P
    go_enter Tryd.func56, Tryd.ntmps56
    go_wp2_with fail
    go_ret
    exact ⟨rfl, L, hV, hg⟩
  | false =>
    have A := at_nd vb (fnd L q) w nv (hV.found hq hn)
    have C : ∃ c2 : Bool, (binOp .eql 43 (fnd L q) v').run Tryd.prog w = .ok (.bool c2) w ∧ (c2 = true → eqT x y = true) ∧ (fnd L q = .nilIface ∨ ∃ T z, fnd L q = .iface T z) := by
      by_cases hin : q ∈ L.map (·.1)
      · obtain ⟨k', hm⟩ := fnd_in hin
        obtain ⟨⟨o', ho', hn'⟩, _⟩ := hV.nds _ hm
        simp only at ho' hn'
        rw [hq] at ho'
        obtain rfl := Option.some.inj ho'
        obtain rfl := hn.one hn'
        have hf := hg q k _ hm v x nv hx h
        obtain ⟨c2, he2, h2, _⟩ := eq_tv hV hx hy hf h'
        exact ⟨c2, he2, fun e => (eqT_iff x y).2 (Tv.one x y _ hx hy hf (by rw [h2 e]; exact h')), .inr hf.iface⟩
      · rw [fnd_not hin]
        obtain ⟨T', z', rfl⟩ := h'.iface
        exact ⟨false, eql_nil_v z' w, fun e => (by cases e), .inl rfl⟩
    obtain ⟨c2, he2, h2, hff⟩ := C
    have PS := P vb L u w v v' h h' hV hg
    generalize fnd L q = ff at *
    cases c2 with
    | true =>
      have e1 := h2 rfl
      rw [e1]
      obtain ⟨T, z, rfl⟩ := h.iface
      obtain ⟨T', z', rfl⟩ := h'.iface
      clear hc1 h h' hl hx hy P PS h2
      rcases hff with rfl | ⟨Tf, xf, rfl⟩
      all_goals
        go_enter Tryd.func56, Tryd.ntmps56
        go_wp2_with fail
        refine A.mono ?_
        rintro e w' ⟨rfl, rfl⟩
        go_wp2_with fail
        go_ret
        exact ⟨rfl, L, hV, hg⟩
    | false =>
      cases hr : eqT x y with
      | false =>
        rw [hr] at PS
        obtain ⟨T, z, rfl⟩ := h.iface
        obtain ⟨T', z', rfl⟩ := h'.iface
        clear hc1 h h' hl hx hy P h2 hr
        rcases hff with rfl | ⟨Tf, xf, rfl⟩
        all_goals
          go_enter Tryd.func56, Tryd.ntmps56
          go_wp2_with fail
          refine A.mono ?_
          rintro e w' ⟨rfl, rfl⟩
          go_wp2_with fail
          refine PS.mono ?_
          rintro e w1 ⟨L1, rfl, hV1, hg1⟩
          go_wp2_with fail
          go_ret
          exact ⟨rfl, L1, hV1, hg1⟩
      | true =>
        rw [hr] at PS
        have exy := (eqT_iff x y).1 hr
        subst exy
        have K : ∀ w1 L1, Vs vb L1 u w1 → good u L1 → Calls Tryd.prog 63 #[.pointer (some ⟨vb, 0, none⟩), v, v'] w1 fun e w' => e = .returned (.tuple #[]) ∧ ∃ L', Vs vb L' u w' ∧ good u L' := by
          intro w1 L1 hV1 hg1
          obtain ⟨T', z', rfl⟩ := h'.iface
          by_cases hin : q ∈ L1.map (·.1)
          · refine (keep_old nv hV1 hq hn hin T' z').mono ?_
            rintro e w2 ⟨rfl, hV2⟩
            exact ⟨rfl, _, hV2, hg1.remark hV1 hq hn hx h h' nv⟩
          · refine (keep_new nv hV1 hq hn hin T' z').mono ?_
            rintro e w2 ⟨rfl, hV2⟩
            exact ⟨rfl, _, hV2, hg1.mark hx h h' nv⟩
        obtain ⟨T, z, rfl⟩ := h.iface
        obtain ⟨T', z', rfl⟩ := h'.iface
        clear hc1 h h' hl hx hy P h2 hr
        rcases hff with rfl | ⟨Tf, xf, rfl⟩
        all_goals
          go_enter Tryd.func56, Tryd.ntmps56
          go_wp2_with fail
          refine A.mono ?_
          rintro e w' ⟨rfl, rfl⟩
          go_wp2_with fail
          refine PS.mono ?_
          rintro e w1 ⟨L1, rfl, hV1, hg1⟩
          go_wp2_with fail
          refine (K w1 L1 hV1 hg1).mono ?_
          rintro e w2 ⟨rfl, L2, hV2, hg2⟩
          go_wp2_with fail
          go_ret
          exact ⟨rfl, L2, hV2, hg2⟩

theorem visit_same : ∀ x y : Ty, Ok x → Ok y → SameSaid x y := by
  intro x
  induction x with
  | nil => intro y hx; exact hx.elim
  | node g o uu a b iha ihb =>
    intro y hx hy
    cases uu
    have hx0 := hx
    rcases hx with ⟨rfl, rfl, rfl, rfl⟩ | ⟨rfl, rfl, rfl, rfl⟩ | ⟨rfl, ho, rfl, rfl⟩ | ⟨rfl, rfl, ha, rfl⟩ | ⟨rfl, rfl, ha, hb⟩ | ⟨rfl, rfl, ha, hb⟩
    · exact same_leaf hx0 hy fun u v h => .inl (Tv.isI h)
    · exact same_leaf hx0 hy fun u v h => .inr (.inl (Tv.isB h))
    · exact same_leaf hx0 hy fun u v h => .inr (.inr ⟨o, Tv.isV h⟩)
    · refine same_node hx0 hy (fun u v h => ?_) ?_
      · obtain ⟨q, x, rfl, hq, _⟩ := Tv.isL h
        exact ⟨q, 1, _, .inl ⟨rfl, rfl⟩, hq, ndL _ _⟩
      · intro vb L u w v v' h h' hV hg
        obtain ⟨q, x, rfl, hq, hx⟩ := Tv.isL h
        have miss : ∀ T z, T ≠ 97 → eqT (tL a) y = false → Calls Tryd.prog 62 #[.pointer (some ⟨vb, 0, none⟩), viL q, .iface T z] w fun e w' => ∃ L', e = .returned (.bool (eqT (tL a) y)) ∧ Vs vb L' u w' ∧ good u L' := by
          intro T z hT e0
          refine (partsL_miss q z vb w hT).mono ?_
          rintro e w' ⟨rfl, n, rfl⟩
          exact ⟨L, by rw [e0], hV.drewN n, hg⟩
        rcases hy.cases with rfl | rfl | ⟨o', _, _, rfl⟩ | ⟨a', ha', rfl⟩ | ⟨a', b', ha', hb', rfl⟩ | ⟨a', b', ha', hb', rfl⟩
        · rw [h'.isI]; exact miss _ _ (by decide) (by simp [eqT])
        · rw [h'.isB]; exact miss _ _ (by decide) (by simp [eqT])
        · rw [h'.isV]; exact miss _ _ (by decide) (by simp [eqT])
        · obtain ⟨q', x', rfl, hq', hx'⟩ := h'.isL
          have e1 : eqT (tL a) (tL a') = eqT a a' := by simp [eqT]
          rw [e1]
          exact partsL_hit a a' (iha a' ha ha') vb L u w q q' _ _ x x' hx hx' hq hq' hV hg
        · obtain ⟨q', x', y', rfl, _⟩ := h'.isP; exact miss _ _ (by decide) (by simp [eqT])
        · obtain ⟨q', x', y', rfl, _⟩ := h'.isF; exact miss _ _ (by decide) (by simp [eqT])
    · refine same_node hx0 hy (fun u v h => ?_) ?_
      · obtain ⟨q, x, y, rfl, hq, _⟩ := Tv.isP h
        exact ⟨q, 2, _, .inr (.inl ⟨rfl, rfl⟩), hq, ndP _ _ _⟩
      · intro vb L u w v v' h h' hV hg
        obtain ⟨q, x, x2, rfl, hq, hx, hx2⟩ := Tv.isP h
        have miss : ∀ T z, T ≠ 104 → eqT (tP a b) y = false → Calls Tryd.prog 62 #[.pointer (some ⟨vb, 0, none⟩), viP q, .iface T z] w fun e w' => ∃ L', e = .returned (.bool (eqT (tP a b) y)) ∧ Vs vb L' u w' ∧ good u L' := by
          intro T z hT e0
          refine (partsP_miss q z vb w hT).mono ?_
          rintro e w' ⟨rfl, n, rfl⟩
          exact ⟨L, by rw [e0], hV.drewN n, hg⟩
        rcases hy.cases with rfl | rfl | ⟨o', _, _, rfl⟩ | ⟨a', ha', rfl⟩ | ⟨a', b', ha', hb', rfl⟩ | ⟨a', b', ha', hb', rfl⟩
        · rw [h'.isI]; exact miss _ _ (by decide) (by simp [eqT])
        · rw [h'.isB]; exact miss _ _ (by decide) (by simp [eqT])
        · rw [h'.isV]; exact miss _ _ (by decide) (by simp [eqT])
        · obtain ⟨q', x', rfl, _⟩ := h'.isL; exact miss _ _ (by decide) (by simp [eqT])
        · obtain ⟨q', y, y2, rfl, hq', hy1, hy2⟩ := h'.isP
          cases hac : eqT a a' with
          | false =>
            have e1 : eqT (tP a b) (tP a' b') = false := by simp [eqT, hac]
            rw [e1]
            exact partsP_no a b a' b' (iha a' ha ha') (ihb b' hb hb') hac vb L u w q q' _ _ x x2 y y2 hx hx2 hy1 hy2 hq hq' hV hg
          | true =>
            have e1 : eqT (tP a b) (tP a' b') = eqT b b' := by simp [eqT, hac]
            rw [e1]
            exact partsP_yes a b a' b' (iha a' ha ha') (ihb b' hb hb') hac vb L u w q q' _ _ x x2 y y2 hx hx2 hy1 hy2 hq hq' hV hg
        · obtain ⟨q', x', y', rfl, _⟩ := h'.isF; exact miss _ _ (by decide) (by simp [eqT])
    · refine same_node hx0 hy (fun u v h => ?_) ?_
      · obtain ⟨q, x, y, rfl, hq, _⟩ := Tv.isF h
        exact ⟨q, 2, _, .inr (.inr ⟨rfl, rfl⟩), hq, ndF _ _ _⟩
      · intro vb L u w v v' h h' hV hg
        obtain ⟨q, x, x2, rfl, hq, hx, hx2⟩ := Tv.isF h
        have miss : ∀ T z, T ≠ 89 → eqT (tF a b) y = false → Calls Tryd.prog 62 #[.pointer (some ⟨vb, 0, none⟩), viF q, .iface T z] w fun e w' => ∃ L', e = .returned (.bool (eqT (tF a b) y)) ∧ Vs vb L' u w' ∧ good u L' := by
          intro T z hT e0
          refine (partsF_miss q z vb w hT).mono ?_
          rintro e w' ⟨rfl, n, rfl⟩
          exact ⟨L, by rw [e0], hV.drewN n, hg⟩
        rcases hy.cases with rfl | rfl | ⟨o', _, _, rfl⟩ | ⟨a', ha', rfl⟩ | ⟨a', b', ha', hb', rfl⟩ | ⟨a', b', ha', hb', rfl⟩
        · rw [h'.isI]; exact miss _ _ (by decide) (by simp [eqT])
        · rw [h'.isB]; exact miss _ _ (by decide) (by simp [eqT])
        · rw [h'.isV]; exact miss _ _ (by decide) (by simp [eqT])
        · obtain ⟨q', x', rfl, _⟩ := h'.isL; exact miss _ _ (by decide) (by simp [eqT])
        · obtain ⟨q', x', y', rfl, _⟩ := h'.isP; exact miss _ _ (by decide) (by simp [eqT])
        · obtain ⟨q', y, y2, rfl, hq', hy1, hy2⟩ := h'.isF
          cases hac : eqT a a' with
          | false =>
            have e1 : eqT (tF a b) (tF a' b') = false := by simp [eqT, hac]
            rw [e1]
            exact partsF_no a b a' b' (iha a' ha ha') (ihb b' hb hb') hac vb L u w q q' _ _ x x2 y y2 hx hx2 hy1 hy2 hq hq' hV hg
          | true =>
            have e1 : eqT (tF a b) (tF a' b') = eqT b b' := by simp [eqT, hac]
            rw [e1]
            exact partsF_yes a b a' b' (iha a' ha ha') (ihb b' hb hb') hac vb L u w q q' _ _ x x2 y y2 hx hx2 hy1 hy2 hq hq' hV hg

theorem Ends.below {vb : Nat} {w0 u w : World} (h : Ends vb u w) (hb : Below w0.heap.size w0 u) (hv : w0.heap.size ≤ vb) : Below w0.heap.size w0 w :=
  ⟨h.os.trans hb.os, h.tape.trans hb.tape, h.output.trans hb.output, by rw [h.size]; exact hb.size, fun k hk => (h.blk k (by omega)).trans (hb.block k hk)⟩
abbrev visO : Obj := .cells #[.pointer none] 136
theorem Vs.new (w : World) : Vs w.heap.size [] (w.alloc visO) (w.alloc visO) :=
  ⟨rfl, rfl, rfl, rfl, heap_alloc_new w _, ⟨_, heap_alloc_new w _⟩, fun _ _ => rfl, fun m h => (by cases h), List.nodup_nil⟩

set_option maxHeartbeats 1000000 in
theorem same_any (x y : Ty) (v v' : Value) (w : World) (hx : Ok x) (hy : Ok y) (h : Tv w x v) (h' : Tv w y v') :
    Calls Tryd.prog 42 #[v, v'] w fun e w' => e = .returned (.bool (eqT x y)) ∧ Below w.heap.size w w' := by
  have b1 : Below w.heap.size w (w.alloc visO) := (Below.refl _ w).alloc (Nat.le_refl _) _
  have S := visit_same x y hx hy w.heap.size [] (w.alloc visO) (w.alloc visO) v v' (h.below b1) (h'.below b1) (Vs.new w) (fun q k f hm => by cases hm)
  obtain ⟨T, z, rfl⟩ := h.iface
  obtain ⟨T', z', rfl⟩ := h'.iface
  clear h h'
  go_enter_defers Tryd.func42, Tryd.ntmps42
  go_wp2_with fail
  refine S.mono ?_
  rintro e w1 ⟨rfl, L, hV, _⟩
  go_wp2_with fail
  refine leaves_cons (f := 55) (args := #[.pointer (some ⟨w.heap.size, 0, none⟩)]) (by simp) (by simp [go_sem]) ?_
  refine (end_deferred w.heap.size L _ .returning w1 hV).mono ?_
  rintro e u' w2 ⟨rfl, rfl, hE⟩
  exact ⟨_, results_tmp rfl _ _ _, rfl, hE.below b1 (Nat.le_refl _)⟩
end Go.Proofs.YtkcleplifimgmaaDoor
