import Derived.Test.YtceadeaodbadlaaDoorVisit3
import Derived.Deep.RegionWith
import Derived.Deep.RegionHeld3
set_option linter.unusedVariables false
set_option linter.unusedSimpArgs false
namespace Go.Proofs.YtceadeaodbadlaaDoor
open Go.RowKit Go.Extern.Stop Go.Stop Go.Extern

theorem infoPL : (Tryd.prog.info? 126).map (·.comparable) = some true := by kernel_rfl
theorem infoPP : (Tryd.prog.info? 118).map (·.comparable) = some true := by kernel_rfl
theorem infoPF : (Tryd.prog.info? 89).map (·.comparable) = some true := by kernel_rfl
theorem sizeL : (Tryd.prog.info? 129).map (·.size) = some 4 := by kernel_rfl
theorem sizeP : (Tryd.prog.info? 132).map (·.size) = some 5 := by kernel_rfl
theorem sizeF : (Tryd.prog.info? 125).map (·.size) = some 5 := by kernel_rfl

/-- Two types with parts of one kind are one, or not. -/
theorem eql_ptr {tp te : TypeId} {n q q' : Nat} {ca cb : Array Value} {ta tb : TypeId} {w : World} (hp : Tryd.prog.underlying tp = some (.pointer te)) (h1 : (Tryd.prog.info? tp).map (·.comparable) = some true) (h2 : (Tryd.prog.info? te).map (·.size) = some (n + 1)) (ha : w.heap[q]? = some (.cells ca ta (0, 0))) (hb : w.heap[q']? = some (.cells cb tb (0, 0))) :
    ∃ c : Bool, (binOp .eql 43 (.iface tp (.pointer (some ⟨q, 0, none⟩))) (.iface tp (.pointer (some ⟨q', 0, none⟩)))).run Tryd.prog w = .ok (.bool c) w ∧ (c = true → q = q') := by
  obtain ⟨i, hi, hcmp⟩ := Option.map_eq_some_iff.1 h1
  obtain ⟨j, hj, hjs⟩ := Option.map_eq_some_iff.1 h2
  by_cases e : q = q'
  · subst e
    exact ⟨true, run_eql_iface_ptr_same (P := Tryd.prog) w ⟨q, 0, none⟩ Tryd.underlying43 hp hi hcmp hj, fun _ => rfl⟩
  · exact ⟨false, run_eql_iface_ptr_other (P := Tryd.prog) w Tryd.underlying43 hp hi hcmp hj (by rw [hjs]; omega) (a := ⟨q, 0, none⟩) (b := ⟨q', 0, none⟩) (by simp [e]) ha hb, fun h => by cases h⟩
theorem eql_types {T T' : TypeId} (x x' : Value) (w : World) (h : T ≠ T') : (binOp .eql 43 (.iface T x) (.iface T' x')).run Tryd.prog w = .ok (.bool false) w :=
  run_eql_iface_types (P := Tryd.prog) T T' x x' Tryd.underlying43 h w

theorem Vs.there {vb : Nat} {L : Mks} {u w : World} (h : Vs vb L u w) {q k : Nat} {o : Obj} (hq : u.heap[q]? = some o) (hn : isNd o k) : ∃ c T, w.heap[q]? = some (.cells c T (0, 0)) := by
  obtain ⟨c, T, c', _, hw, _⟩ := h.at_node hq hn
  exact ⟨_, _, hw⟩
theorem ndL (n : Nat) (x : Value) : isNd (obL n x) 1 := .inl ⟨n, x, rfl, rfl⟩
theorem ndP (n : Nat) (x y : Value) : isNd (obP n x y) 2 := .inr (.inl ⟨n, x, y, rfl, rfl⟩)
theorem ndF (n : Nat) (x y : Value) : isNd (obF n x y) 2 := .inr (.inr ⟨n, x, y, rfl, rfl⟩)

/-- What == answers of two types: whether they are one, and of types without parts whether they are the same. -/
theorem eq_tv {vb : Nat} {L : Mks} {u w : World} (hV : Vs vb L u w) {x y : Ty} {v v' : Value} (hx : Ok x) (hy : Ok y) (h : Tv u x v) (h' : Tv u y v') :
    ∃ c : Bool, (binOp .eql 43 v v').run Tryd.prog w = .ok (.bool c) w ∧ (c = true → v = v') ∧ (Leaf v → c = eqT x y) := by
  rcases hx.cases with rfl | rfl | ⟨o, _, _, rfl⟩ | ⟨a, ha, rfl⟩ | ⟨a, b, ha, hb, rfl⟩ | ⟨a, b, ha, hb, rfl⟩ <;>
  rcases hy.cases with rfl | rfl | ⟨o', _, _, rfl⟩ | ⟨a', ha', rfl⟩ | ⟨a', b', ha', hb', rfl⟩ | ⟨a', b', ha', hb', rfl⟩
  · have e1 := h.isI; subst e1
    have e2 := h'.isI; subst e2
    exact ⟨true, eql_I w, fun _ => rfl, fun _ => by simp [eqT]⟩
  · have e1 := h.isI; subst e1
    have e2 := h'.isB; subst e2
    exact ⟨false, eql_types _ _ w (by decide), fun e => (by cases e), fun _ => by simp [eqT]⟩
  · have e1 := h.isI; subst e1
    have e2 := h'.isV; subst e2
    exact ⟨false, eql_types _ _ w (by decide), fun e => (by cases e), fun _ => by simp [eqT]⟩
  · have e1 := h.isI; subst e1
    obtain ⟨q2, x2, rfl, hq2, _⟩ := h'.isL
    exact ⟨false, eql_types _ _ w (by decide), fun e => (by cases e), fun _ => by simp [eqT]⟩
  · have e1 := h.isI; subst e1
    obtain ⟨q2, x2, y2, rfl, hq2, _⟩ := h'.isP
    exact ⟨false, eql_types _ _ w (by decide), fun e => (by cases e), fun _ => by simp [eqT]⟩
  · have e1 := h.isI; subst e1
    obtain ⟨q2, x2, y2, rfl, hq2, _⟩ := h'.isF
    exact ⟨false, eql_types _ _ w (by decide), fun e => (by cases e), fun _ => by simp [eqT]⟩
  · have e1 := h.isB; subst e1
    have e2 := h'.isI; subst e2
    exact ⟨false, eql_types _ _ w (by decide), fun e => (by cases e), fun _ => by simp [eqT]⟩
  · have e1 := h.isB; subst e1
    have e2 := h'.isB; subst e2
    exact ⟨true, eql_B w, fun _ => rfl, fun _ => by simp [eqT]⟩
  · have e1 := h.isB; subst e1
    have e2 := h'.isV; subst e2
    exact ⟨false, eql_types _ _ w (by decide), fun e => (by cases e), fun _ => by simp [eqT]⟩
  · have e1 := h.isB; subst e1
    obtain ⟨q2, x2, rfl, hq2, _⟩ := h'.isL
    exact ⟨false, eql_types _ _ w (by decide), fun e => (by cases e), fun _ => by simp [eqT]⟩
  · have e1 := h.isB; subst e1
    obtain ⟨q2, x2, y2, rfl, hq2, _⟩ := h'.isP
    exact ⟨false, eql_types _ _ w (by decide), fun e => (by cases e), fun _ => by simp [eqT]⟩
  · have e1 := h.isB; subst e1
    obtain ⟨q2, x2, y2, rfl, hq2, _⟩ := h'.isF
    exact ⟨false, eql_types _ _ w (by decide), fun e => (by cases e), fun _ => by simp [eqT]⟩
  · have e1 := h.isV; subst e1
    have e2 := h'.isI; subst e2
    exact ⟨false, eql_types _ _ w (by decide), fun e => (by cases e), fun _ => by simp [eqT]⟩
  · have e1 := h.isV; subst e1
    have e2 := h'.isB; subst e2
    exact ⟨false, eql_types _ _ w (by decide), fun e => (by cases e), fun _ => by simp [eqT]⟩
  · have e1 := h.isV; subst e1
    have e2 := h'.isV; subst e2
    exact ⟨decide (o = o'), eql_V o o' w, fun e => by have e := of_decide_eq_true e; subst e; rfl, fun _ => by simp [eqT]; rfl⟩
  · have e1 := h.isV; subst e1
    obtain ⟨q2, x2, rfl, hq2, _⟩ := h'.isL
    exact ⟨false, eql_types _ _ w (by decide), fun e => (by cases e), fun _ => by simp [eqT]⟩
  · have e1 := h.isV; subst e1
    obtain ⟨q2, x2, y2, rfl, hq2, _⟩ := h'.isP
    exact ⟨false, eql_types _ _ w (by decide), fun e => (by cases e), fun _ => by simp [eqT]⟩
  · have e1 := h.isV; subst e1
    obtain ⟨q2, x2, y2, rfl, hq2, _⟩ := h'.isF
    exact ⟨false, eql_types _ _ w (by decide), fun e => (by cases e), fun _ => by simp [eqT]⟩
  · obtain ⟨q1, x1, rfl, hq1, _⟩ := h.isL
    have e2 := h'.isI; subst e2
    exact ⟨false, eql_types _ _ w (by decide), fun e => (by cases e), fun _ => by simp [eqT]⟩
  · obtain ⟨q1, x1, rfl, hq1, _⟩ := h.isL
    have e2 := h'.isB; subst e2
    exact ⟨false, eql_types _ _ w (by decide), fun e => (by cases e), fun _ => by simp [eqT]⟩
  · obtain ⟨q1, x1, rfl, hq1, _⟩ := h.isL
    have e2 := h'.isV; subst e2
    exact ⟨false, eql_types _ _ w (by decide), fun e => (by cases e), fun _ => by simp [eqT]⟩
  · obtain ⟨q1, x1, rfl, hq1, _⟩ := h.isL
    obtain ⟨q2, x2, rfl, hq2, _⟩ := h'.isL
    obtain ⟨c1, T1, hw1⟩ := hV.there hq1 (ndL _ _)
    obtain ⟨c2, T2, hw2⟩ := hV.there hq2 (ndL _ _)
    obtain ⟨c, hc, hq⟩ := eql_ptr Tryd.underlying126 infoPL sizeL hw1 hw2
    exact ⟨c, hc, fun e => by rw [hq e], fun hl => by rcases hl with e | e | ⟨o, e⟩ <;> simp at e⟩
  · obtain ⟨q1, x1, rfl, hq1, _⟩ := h.isL
    obtain ⟨q2, x2, y2, rfl, hq2, _⟩ := h'.isP
    exact ⟨false, eql_types _ _ w (by decide), fun e => (by cases e), fun _ => by simp [eqT]⟩
  · obtain ⟨q1, x1, rfl, hq1, _⟩ := h.isL
    obtain ⟨q2, x2, y2, rfl, hq2, _⟩ := h'.isF
    exact ⟨false, eql_types _ _ w (by decide), fun e => (by cases e), fun _ => by simp [eqT]⟩
  · obtain ⟨q1, x1, y1, rfl, hq1, _⟩ := h.isP
    have e2 := h'.isI; subst e2
    exact ⟨false, eql_types _ _ w (by decide), fun e => (by cases e), fun _ => by simp [eqT]⟩
  · obtain ⟨q1, x1, y1, rfl, hq1, _⟩ := h.isP
    have e2 := h'.isB; subst e2
    exact ⟨false, eql_types _ _ w (by decide), fun e => (by cases e), fun _ => by simp [eqT]⟩
  · obtain ⟨q1, x1, y1, rfl, hq1, _⟩ := h.isP
    have e2 := h'.isV; subst e2
    exact ⟨false, eql_types _ _ w (by decide), fun e => (by cases e), fun _ => by simp [eqT]⟩
  · obtain ⟨q1, x1, y1, rfl, hq1, _⟩ := h.isP
    obtain ⟨q2, x2, rfl, hq2, _⟩ := h'.isL
    exact ⟨false, eql_types _ _ w (by decide), fun e => (by cases e), fun _ => by simp [eqT]⟩
  · obtain ⟨q1, x1, y1, rfl, hq1, _⟩ := h.isP
    obtain ⟨q2, x2, y2, rfl, hq2, _⟩ := h'.isP
    obtain ⟨c1, T1, hw1⟩ := hV.there hq1 (ndP _ _ _)
    obtain ⟨c2, T2, hw2⟩ := hV.there hq2 (ndP _ _ _)
    obtain ⟨c, hc, hq⟩ := eql_ptr Tryd.underlying118 infoPP sizeP hw1 hw2
    exact ⟨c, hc, fun e => by rw [hq e], fun hl => by rcases hl with e | e | ⟨o, e⟩ <;> simp at e⟩
  · obtain ⟨q1, x1, y1, rfl, hq1, _⟩ := h.isP
    obtain ⟨q2, x2, y2, rfl, hq2, _⟩ := h'.isF
    exact ⟨false, eql_types _ _ w (by decide), fun e => (by cases e), fun _ => by simp [eqT]⟩
  · obtain ⟨q1, x1, y1, rfl, hq1, _⟩ := h.isF
    have e2 := h'.isI; subst e2
    exact ⟨false, eql_types _ _ w (by decide), fun e => (by cases e), fun _ => by simp [eqT]⟩
  · obtain ⟨q1, x1, y1, rfl, hq1, _⟩ := h.isF
    have e2 := h'.isB; subst e2
    exact ⟨false, eql_types _ _ w (by decide), fun e => (by cases e), fun _ => by simp [eqT]⟩
  · obtain ⟨q1, x1, y1, rfl, hq1, _⟩ := h.isF
    have e2 := h'.isV; subst e2
    exact ⟨false, eql_types _ _ w (by decide), fun e => (by cases e), fun _ => by simp [eqT]⟩
  · obtain ⟨q1, x1, y1, rfl, hq1, _⟩ := h.isF
    obtain ⟨q2, x2, rfl, hq2, _⟩ := h'.isL
    exact ⟨false, eql_types _ _ w (by decide), fun e => (by cases e), fun _ => by simp [eqT]⟩
  · obtain ⟨q1, x1, y1, rfl, hq1, _⟩ := h.isF
    obtain ⟨q2, x2, y2, rfl, hq2, _⟩ := h'.isP
    exact ⟨false, eql_types _ _ w (by decide), fun e => (by cases e), fun _ => by simp [eqT]⟩
  · obtain ⟨q1, x1, y1, rfl, hq1, _⟩ := h.isF
    obtain ⟨q2, x2, y2, rfl, hq2, _⟩ := h'.isF
    obtain ⟨c1, T1, hw1⟩ := hV.there hq1 (ndF _ _ _)
    obtain ⟨c2, T2, hw2⟩ := hV.there hq2 (ndF _ _ _)
    obtain ⟨c, hc, hq⟩ := eql_ptr Tryd.underlying89 infoPF sizeF hw1 hw2
    exact ⟨c, hc, fun e => by rw [hq e], fun hl => by rcases hl with e | e | ⟨o, e⟩ <;> simp at e⟩

theorem eql_nil_v {T : TypeId} (x : Value) (w : World) : (binOp .eql 43 .nilIface (.iface T x)).run Tryd.prog w = .ok (.bool false) w :=
  run_eql_iface_nil_left (P := Tryd.prog) w T x Tryd.underlying43

/-- What was found at each mark is the same type. -/
def good (u : World) (L : Mks) : Prop := ∀ q k f, (q, k, f) ∈ L → ∀ v t, NdV v q k → Ok t → Tv u t v → Tv u t f

def SameSaid (x y : Ty) : Prop := ∀ (vb : Nat) (L : Mks) (u w : World) (v v' : Value), Tv u x v → Tv u y v' → Vs vb L u w → good u L →
  Calls Tryd.prog 58 #[.pointer (some ⟨vb, 0, none⟩), v, v'] w fun e w' => e = .returned (.bool (eqT x y)) ∧ ∃ L', Vs vb L' u w' ∧ good u L'
end Go.Proofs.YtceadeaodbadlaaDoor
