import Derived.Test.YtceadeaodbadlaaDoorBoth
set_option linter.unusedVariables false
set_option linter.unusedSimpArgs false
namespace Go.Proofs.YtceadeaodbadlaaDoor
open Go.RowKit

set_option maxHeartbeats 400000 in
theorem root_any (t : Ty) (g cap : Nat) (w : World) (ht : Rg g t w) (hl : sz t ≤ 1000000) : Calls Tryd.prog 33 #[.agg #[.slice (some ⟨g, 0, none⟩) (sz t) cap]] w fun e w' => e = .returned (.int .i64 ((rt t 0).op : Int)) ∧ Below w.heap.size w w' := by
  have hpos := sz_pos ht.ok
  obtain ⟨k0, -, -⟩ := (ht.alloc (.cells #[.slice (some ⟨g, 0, none⟩) (sz t) cap] 38)).cell (sz t - 1) _ (nd_last t ht.ok 0)
  have e1 : ((sz t : Int) - 1) = ((sz t - 1 : Nat) : Int) := by omega
  go_enter Tryd.func33, Tryd.ntmps33
  go_wp2_with fail
  go_ret
  exact ⟨rfl, (Below.refl w.heap.size w).alloc (Nat.le_refl _) _⟩

set_option maxHeartbeats 400000 in
theorem isVar_any (n : Nat) (w : World) : Calls Tryd.prog 34 #[.int .i64 (n : Int)] w fun e w' => e = .returned (.bool (decide ((1000 : Int) ≤ (n : Int)))) ∧ w' = w := by
  go_enter Tryd.func34, Tryd.ntmps34
  go_wp2_with fail
  go_ret
  exact ⟨rfl, rfl⟩

/-- A node's kind: it has no parts; or a first one, whose nodes stand ahead. -/
theorem rt_cases {y : Ty} (h : Ok y) (f : Nat) : (∃ op, rt y f = ⟨op, f, f⟩ ∧ sz y = 1 ∧ op ≠ 91 ∧ op ≠ 42 ∧ op ≠ 62) ∨ (∃ a op c rest, Ok a ∧ (op = 91 ∨ op = 42 ∨ op = 62) ∧ rt y f = ⟨op, f + sz a - 1, c⟩ ∧ nd y f = nd a f ++ rest ∧ sz a < sz y) := by
  rcases h.cases with rfl | rfl | ⟨o, h1, h2, rfl⟩ | ⟨a, ha, rfl⟩ | ⟨a, b, ha, hb, rfl⟩ | ⟨a, b, ha, hb, rfl⟩
  · exact .inl ⟨73, rfl, rfl, by decide, by decide, by decide⟩
  · exact .inl ⟨66, rfl, rfl, by decide, by decide, by decide⟩
  · exact .inl ⟨o + 30, rfl, rfl, by omega, by omega, by omega⟩
  · exact .inr ⟨a, 91, _, _, ha, .inl rfl, rfl, by simp only [nd]; rw [List.append_assoc], by simp [sz]⟩
  · exact .inr ⟨a, 42, _, _, ha, .inr (.inl rfl), rfl, by simp only [nd]; rw [List.append_assoc], by simp [sz]; omega⟩
  · exact .inr ⟨a, 62, _, _, ha, .inr (.inr rfl), rfl, by simp only [nd]; rw [List.append_assoc], by simp [sz]; omega⟩

theorem mid_last {N pre post : List Nd} {y : Ty} {f : Nat} (h : Ok y) (hN : N = pre ++ (nd y f ++ post)) (hf : pre.length = f) : N[f + sz y - 1]? = some (rt y f) := by
  have hpos := sz_pos h
  have hl := nd_length y f
  rw [hN, List.getElem?_append_right (by omega), hf, List.getElem?_append_left (by omega), show f + sz y - 1 - f = sz y - 1 from by omega]
  exact nd_last y h f
theorem mid_at {N pre post : List Nd} {x : Ty} {f : Nat} (h : Ok x) (hN : N = pre ++ (nd x f ++ post)) (hf : pre.length = f) (j : Nat) (n : Nd) (hn : (nd x 0)[j]? = some n) : N[f + j]? = some (shift f n) := by
  have hj : j < (nd x 0).length := (List.getElem?_eq_some_iff.1 hn).1
  have hl := nd_length x f
  have hl0 := nd_length x 0
  rw [hN, List.getElem?_append_right (by omega), hf, List.getElem?_append_left (by omega), show f + j - f = j from by omega, nd_zero x h f, List.getElem?_map, hn]
  rfl

set_option maxRecDepth 100000 in
set_option maxHeartbeats 4000000 in
theorem part_any (t x : Ty) (pre post : List Nd) (f kk g cap : Nat) (w : World) (ht : Rg g t w) (hl : sz t ≤ 1000000) (hx : Ok x) (hN : nd t 0 = pre ++ (nd x f ++ post)) (hf : pre.length = f) (hkk : kk + 1 = f + sz x) :
    Calls Tryd.prog 53 #[.agg #[.slice (some ⟨g, 0, none⟩) (sz t) cap], .int .i64 (kk : Int)] w (TPost x w) := by
  obtain ⟨i0, hi0, hz0, hz1, hz2⟩ := info_parts infoNode
  have hA := (ht.alloc (.cells #[.slice (some ⟨g, 0, none⟩) (sz t) cap] 38)).alloc (.cells #[.slice none 0 0] 38)
  have hbx : ((w.alloc (.cells #[.slice (some ⟨g, 0, none⟩) (sz t) cap] 38)).alloc (.cells #[.slice none 0 0] 38)).heap[w.heap.size]? = some (.cells #[.slice (some ⟨g, 0, none⟩) (sz t) cap] 38 (0, 0)) := by
    rw [Below.heap_alloc _ _ _ (by simp)]; exact heap_alloc_new w _
  have hcx := heap_alloc2_new w (.cells #[.slice (some ⟨g, 0, none⟩) (sz t) cap] 38) (.cells #[.slice none 0 0] 38)
  have hlen : f + sz x + post.length = sz t := by
    have := nd_length t 0
    rw [hN, List.length_append, List.length_append, nd_length x f] at this
    omega
  have HN : Hid (nd t 0 = pre ++ (nd x f ++ post)) := hN
  have HX : Hid (Ok x) := hx
  have hpx := sz_pos hx
  clear hN hx
  go_enter Tryd.func53, Tryd.ntmps53
  go_wp2_with fail
  go_loop [5] (fun v => ∃ (q : Nat) (y : Ty) (rest : List Nd), v = .int .i64 (q : Int) ∧ q + 1 = f + sz y ∧ Hid (Ok y ∧ nd t 0 = pre ++ (nd y f ++ rest)) ∧ sz y ≤ sz x) (fun v => (intOf v).toNat)
  case atStart => exact ⟨kk, x, post, rfl, hkk, ⟨HX.out, HN.out⟩, Nat.le_refl _⟩
  case round =>
    obtain ⟨q, y, rest, rfl, hq, HY, hyx⟩ := hrel
    have hlast := mid_last HY.out.1 HY.out.2 hf
    rw [show f + sz y - 1 = q from by omega] at hlast
    have hqt : q < sz t := by have := (List.getElem?_eq_some_iff.1 hlast).1; rw [nd_length] at this; exact this
    obtain ⟨k0, k1, -⟩ := hA.cell q _ hlast
    rcases rt_cases HY.out.1 f with ⟨op, hr, hsz, n1, n2, n3⟩ | ⟨a, op, c, rest', ha, hop, hr, hnd, hsa⟩
    · rw [hr] at k0 k1
      simp only at k0 k1
      have e1 : ((op : Int) == 91) = false := by rw [beq_eq_false_iff_ne]; omega
      have e2 : ((op : Int) == 42) = false := by rw [beq_eq_false_iff_ne]; omega
      have e3 : ((op : Int) == 62) = false := by rw [beq_eq_false_iff_ne]; omega
      obtain rfl : q = f := by omega
      clear hr hlast HY hyx n1 n2 n3
      go_wp2_with fail
      clear k0 k1 e1 e2 e3 hq hsz hqt
      go_loopw [6, 7] (fun v i wr => ∃ m j : Nat, i = .int .i64 (m : Int) ∧ m = q + j ∧ j ≤ sz x ∧ wr.ownsRow (w.heap.size + 2) 117 3 v j (nflat ((nd x 0).take j)) ∧ ((w.alloc (.cells #[.slice (some ⟨g, 0, none⟩) (sz t) cap] 38)).alloc (.cells #[.slice none 0 0] 38)).grownBy wr none) (fun _ i _ => q + sz x - (intOf i).toNat)
      case atStart => exact ⟨q, 0, rfl, rfl, Nat.zero_le _, World.ownsRow_nil _ _ _ _, World.grownBy.refl _ _⟩
      case round =>
        obtain ⟨m, j, rfl, hm, hj, ho, hg⟩ := hrel
        have hs := hg.size
        simp only [World.size_alloc] at hs
        have c0 : wr.cell? ⟨w.heap.size, 0, none⟩ = some (.slice (some ⟨g, 0, none⟩) (sz t) cap) := cell_box ((hg.block _ (by simp; omega) (by simp)).trans hbx)
        rcases Nat.lt_or_ge j (sz x) with hlt | hge
        · have hR := hA.kept hg (by simp)
          obtain ⟨⟨op, na, nb⟩, hn⟩ : ∃ n, (nd x 0)[j]? = some n := ⟨_, List.getElem?_eq_getElem (by rw [nd_length]; exact hlt)⟩
          have hat := mid_at HX.out HN.out hf j _ hn
          rw [← hm] at hat
          have hmt : m < sz t := by omega
          have hbd := nd_bound x 0 HX.out _ (List.mem_of_getElem? hn)
          have b1 : na < sz x := by have := hbd.2.1; simp at this; exact this
          have b2 : nb < sz x := by have := hbd.2.2.2.1; simp at this; exact this
          have b3 : op < 1300 := hbd.2.2.2.2
          clear hbd
          obtain ⟨k0, k1, k2⟩ := hR.cell m _ hat
          simp only [shift] at k0 k1 k2
          obtain ⟨xa, hxa⟩ : ∃ xa, xa = na + q := ⟨_, rfl⟩
          obtain ⟨xb, hxb⟩ : ∃ xb, xb = nb + q := ⟨_, rfl⟩
          rw [← hxa] at k1
          rw [← hxb] at k2
          have d1 : decide ((m : Int) ≤ (kk : Int)) = true := by simp; omega
          have d1n : m ≤ kk := by omega
          have HW := nd_news wr (.cells #[.int .i64 (op : Int), .int .i64 (xa : Int), .int .i64 (xb : Int)] 117) op na nb ((xa : Int) - (q : Int)) ((xb : Int) - (q : Int)) (by omega) (by omega)
          have HT : Hid (nflat ((nd x 0).take (j + 1)) = nflat ((nd x 0).take j) ++ Nd.cells ⟨op, na, nb⟩) := by
            unfold Hid
            have := take_more [] x 0 j _ HX.out hn
            simpa [shift] using this
          have HM : Hid (m = q + j) := hm
          have b4 : xa ≤ sz t := by omega
          have b5 : xb ≤ sz t := by omega
          have b6 : q ≤ xa := by omega
          have b7 : q ≤ xb := by omega
          clear hat hn hm hxa hxb
          go_wp2_with (at_builtin; refine wpList_append_lies _ rfl _ _ 36 rfl (w.heap.size + 2) 117 i0 _ 3 24 Tryd.underlying36 hi0 hz0 hz1 hz2 rfl (by omega) u6 j _ rfl ((ho.alloc _).alloc _) ⟨wr.heap.size + 1, 0, none⟩ 1 1 (Nd.cells ⟨op, na, nb⟩) rfl rfl HW (by simp [Value.oneCell', Nd.cells]) (by omega) (by unfold maxLen; omega) (by omega) (by simp; omega) (wr.heap.size + 2) (by simp) ?_; intro gg cap1 w1 hown1 hgrow1 hat1 hlt1)
          refine ⟨⟨m + 1, j + 1, by simp, by have := HM.out; omega, by omega, ?_, grow_then hg (grow_two hgrow1) ?_⟩, ?_⟩
          · rw [HT.out]; exact hown1
          · cases hb : u6.ownBlock with
            | none => exact .inl rfl
            | some k => exact .inr ⟨k, rfl, by have := (ho.lt k hb).1; simpa using this⟩
          · have := HM.out
            simp [intOf]; omega
        · obtain rfl : j = sz x := by omega
          have d1 : decide ((m : Int) ≤ (kk : Int)) = false := by simp; omega
          have d1n : ¬ m ≤ kk := by omega
          have HT : Hid ((nd x 0).take (sz x) = nd x 0) := by unfold Hid; rw [← nd_length x 0]; exact List.take_length
          have hcx1 := (hg.block _ (by simp) (by simp)).trans hcx
          have cb := cell_box hcx1
          have fb := free_box hcx1
          rw [HT.out] at ho
          obtain ⟨g1, cap1, rfl, hb1, hg1⟩ := ho.form hpx
          clear hm
          go_wp2_with fail
          refine ret_type rfl rfl (set_cell0 hcx1) ?_
          have B1 : Below w.heap.size w wr := (((Below.refl w.heap.size w).alloc (Nat.le_refl _) _).alloc (by simp) _).grown hg (by simp; omega) (by simp)
          exact ⟨g1, cap1, rfl, (Rg.ofOwn HX.out ho).kept (set_grown _ _) (by simp; omega), by omega, B1.setCell (by simp) _⟩
    · rw [hr] at k0 k1
      simp only at k0 k1
      have hpa := sz_pos ha
      have HR : Hid (Ok a ∧ nd t 0 = pre ++ (nd a f ++ (rest' ++ rest))) := ⟨ha, by rw [HY.out.2, hnd, List.append_assoc]⟩
      clear hr hlast HY hnd ha
      rcases hop with rfl | rfl | rfl
      all_goals
        go_wp2_with fail
        go_round
        case rel => exact ⟨f + sz a - 1, a, _, rfl, by omega, HR, by omega⟩
        case measure => simp [intOf]; omega
end Go.Proofs.YtceadeaodbadlaaDoor
