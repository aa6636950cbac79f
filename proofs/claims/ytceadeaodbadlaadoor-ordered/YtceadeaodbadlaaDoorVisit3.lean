import Derived.Test.YtceadeaodbadlaaDoorVisit2
import Derived.Laws.StructEq
set_option linter.unusedVariables false
set_option linter.unusedSimpArgs false
namespace Go.Proofs.YtceadeaodbadlaaDoor
open Go.RowKit

set_option maxHeartbeats 1000000 in
theorem end_deferred (vb : Nat) (L : Mks) (u : World) (fm : FrameMode) (w : World) (h : Vs vb L u w) :
    CallsD Tryd.prog 57 #[.pointer (some ⟨vb, 0, none⟩)] fm w fun e fm' w' => fm' = fm ∧ (e = .returned (.tuple #[]) ∧ Ends vb u w') := by
  go_enter_d Tryd.func57, Tryd.ntmps57
  go_wp2_with fail
  go_loopw [] (fun wr => ∃ r, Vs vb r u wr ∧ r.length ≤ L.length) (fun wr => chain wr L.length ((wr.cell? ⟨vb, 0, none⟩).getD .nilIface))
  case atStart => exact ⟨L, h, Nat.le_refl _⟩
  case round =>
    obtain ⟨r, hr, hl⟩ := hrel
    clear h
    cases r with
    | nil =>
      have cl := hr.last
      have E := hr.ends
      simp only [np] at cl
      clear hr
      go_wp2_with fail
      go_end0
      exact ⟨rfl, E⟩
    | cons m r =>
      obtain ⟨q, k, f⟩ := m
      have M := hr.unmark
      have cl := hr.last
      have ml := hr.len ((q, k, f) :: r) [] L.length rfl hl
      have mc : chain wr L.length ((wr.cell? ⟨vb, 0, none⟩).getD .nilIface) = r.length + 1 := by rw [cl]; exact ml
      have ml2 : chain (((wr.setCell ⟨vb, 0, none⟩ (np r)).setCell ⟨q, k + 1, none⟩ .nilIface).setCell ⟨q, k + 2, none⟩ (.pointer none)) L.length (((((wr.setCell ⟨vb, 0, none⟩ (np r)).setCell ⟨q, k + 1, none⟩ .nilIface).setCell ⟨q, k + 2, none⟩ (.pointer none)).cell? ⟨vb, 0, none⟩).getD .nilIface) = r.length := by
        rw [M.last]; exact M.len r [] L.length rfl (by simp at hl; omega)
      obtain ⟨⟨o, ho, hn⟩, _⟩ := hr.nds _ List.mem_cons_self
      simp only at ho hn
      have hne := hr.ne ho hn
      have cf := hr.found ho hn
      have cn := hr.next _ [] r q k f rfl
      obtain ⟨c, T1, c', _, hw, _⟩ := hr.at_node ho hn
      have ff : wr.frozen? ⟨q, k + 1, none⟩ = false := Lib.frozen_of_heap hw _
      have fn : wr.frozen? ⟨q, k + 2, none⟩ = false := Lib.frozen_of_heap hw _
      have fl : wr.frozen? ⟨vb, 0, none⟩ = false := Lib.frozen_of_heap hr.vis 0
      have hl2 : r.length ≤ L.length := by simp at hl; omega
      simp only [np] at cl
      have HM : Hid (_ = _) := mc
      have HM2 : Hid (_ = _) := ml2
      obtain ⟨pp, hpp⟩ := np_ptr r
      rw [hpp] at cn M HM2
      clear hr ho hn hw ml mc ml2 hl
      generalize fnd ((q, k, f) :: r) q = ff0 at *
      go_wp2_with fail
      go_roundw
      case rel => exact ⟨r, M, hl2⟩
      case measure => rw [HM.out, HM2.out]; omega

theorem kv_held : Tryd.prog.stoodInHeld 92 = false := by kernel_rfl
theorem kv_eqIn (d : Nat) (a b c e : Int) (w : World) : (Op.equalIn (d + 3) 92 (.agg #[.int .u8 a, .int .u8 b]) (.agg #[.int .u8 c, .int .u8 e])).run Tryd.prog w = .ok (a == c && b == e) w := by
  rw [run_equalIn_struct w (d + 2) _ _ _ (by kernel_rfl) kv_held]
  simp only [Program.fieldsOf, Tryd.underlying92]
  simp [go_sem]
  by_cases h : a = c <;> by_cases h' : b = e <;> simp [h, h']
theorem infoV : (Tryd.prog.info? 92).map (·.comparable) = some true := by kernel_rfl
theorem infoW : (Tryd.prog.info? 137).map (·.comparable) = some true := by kernel_rfl
theorem infoT : (Tryd.prog.info? 138).map (·.comparable) = some true := by kernel_rfl
theorem eql_V (o o' : Nat) (w : World) : (binOp .eql 43 (viV o) (viV o')).run Tryd.prog w = .ok (.bool (decide (o = o'))) w := by
  obtain ⟨i, hi, hc⟩ := Option.map_eq_some_iff.1 infoV
  simp only [binOp]
  have e : (((o / 10 : Nat) : Int) == ((o' / 10 : Nat) : Int) && ((o % 10 : Nat) : Int) == ((o' % 10 : Nat) : Int)) = decide (o = o') := by
    rw [Bool.eq_iff_iff]; simp; omega
  have h : (Op.equalIn 10000 43 (viV o) (viV o')).run Tryd.prog w = .ok (decide (o = o')) w := by
    have := kv_eqIn 9996 ((o / 10 : Nat) : Int) ((o % 10 : Nat) : Int) ((o' / 10 : Nat) : Int) ((o' % 10 : Nat) : Int) w
    rw [e] at this
    rw [Op.equalIn]
    simp [run_underlying Tryd.underlying43, typeInfo, hi, hc]
    exact this
  simp [Op.equal, Op.maxDepth, h]
theorem eql_I (w : World) : (binOp .eql 43 viI viI).run Tryd.prog w = .ok (.bool true) w := by kernel_rfl
theorem eql_B (w : World) : (binOp .eql 43 viB viB).run Tryd.prog w = .ok (.bool true) w := by kernel_rfl
end Go.Proofs.YtceadeaodbadlaaDoor
