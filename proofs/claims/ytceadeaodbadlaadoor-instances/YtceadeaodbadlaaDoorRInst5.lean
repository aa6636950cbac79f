import Derived.Test.YtceadeaodbadlaaDoorRInst4
import Derived.Deep.RegionHeld3
set_option linter.unusedVariables false
set_option linter.unusedSimpArgs false
namespace Go.Proofs.YtceadeaodbadlaaDoor
open Go.RowKit

theorem len_ownV {B : Nat} {vl : Value} {n : Nat} {xs : List Value} {w : World} {e : TypeId} {m : Nat} (h : w.ownsRow B e m vl n xs) (w' : World) : (Builtin.len_ #[58] 3 #[vl]).run Tryd.prog w' = .ok (.int .i64 (n : Int)) w' := by
  rcases h.2 with ⟨rfl, rfl⟩ | ⟨g, cap, cur, rfl, _⟩
  · kernel_rfl
  · kernel_rfl

/-- The first k are other variables. -/
def noneTo (ls : List Met) (o k : Nat) : Prop := ∀ m e, m < k → ls[m]? = some e → e.1 ≠ o
theorem look_ls_none : ∀ (ls : List Met) (o : Nat), noneTo ls o ls.length → look (ls.map fun e => (e.1, e.2.1)) o = none := by
  intro ls
  induction ls with
  | nil => intro o h; rfl
  | cons e ls ih =>
    intro o h
    have h0 := h 0 e (by simp) rfl
    simp only [List.map_cons, look, if_neg h0]
    exact ih o (fun m e' hm he => h (m + 1) e' (by simp; omega) (by simpa using he))
theorem look_ls_some : ∀ (ls : List Met) (o k : Nat) (e : Met), noneTo ls o k → ls[k]? = some e → e.1 = o → look (ls.map fun e => (e.1, e.2.1)) o = some e.2.1 := by
  intro ls
  induction ls with
  | nil => intro o k e h hk; simp at hk
  | cons e0 ls ih =>
    intro o k e h hk he
    cases k with
    | zero =>
      simp at hk; subst hk
      simp only [List.map_cons, look, if_pos he]
    | succ k =>
      have h0 := h 0 e0 (by omega) rfl
      simp only [List.map_cons, look, if_neg h0]
      exact ih o k e (fun m e' hm hme => h (m + 1) e' (by omega) (by simpa using hme)) (by simpa using hk) he

theorem infoInt : (Tryd.prog.info? 3).map (fun i => (i.zero, i.size, i.bytes)) = some (some (.int .i64 0), 1, 8) := by kernel_rfl
theorem infoType : (Tryd.prog.info? 38).map (fun i => (i.zero, i.size, i.bytes)) = some (some (.agg #[.slice none 0 0]), 1, 24) := by kernel_rfl
theorem below_d1 (w : World) (o : Obj) : Below w.heap.size w (w.drew.alloc o) := (Below.refl w.heap.size w).drew.alloc (Nat.le_refl _) o
theorem below_d2 (w : World) (o o' : Obj) : Below w.heap.size w ((w.drew.alloc o).alloc o') := (below_d1 w o).alloc (below_d1 w o).size o'
theorem heap_alloc12 (w : World) (o o' : Obj) : ((w.alloc o).alloc o').heap[w.heap.size]? = some o := by rw [Below.heap_alloc _ _ _ (by simp)]; exact heap_alloc_new w o
theorem after_v {B : Nat} {ls : List Met} {vv vl : Value} {w W w3 : World} (I : ISr B ls vv vl w) (bW : Below w.heap.size w W) (hg : W.grownBy w3 vv.ownBlock) : w3.ownsRow B 38 1 vl ls.length (ls.map ml) := by
  refine (I.below bW).tys.kept hg ?_
  rcases I.ne with e | e
  · cases hv : vl.ownBlock with
    | none => exact .inl rfl
    | some k => exact .inr (by rw [e]; simp)
  · exact .inr (Ne.symm e)
theorem ISr.nev {B : Nat} {ls : List Met} {vv vl : Value} {w : World} (h : ISr B ls vv vl w) {k : Nat} (hk : w.heap.size ≤ k) : some k ≠ vv.ownBlock := fun e => by have := h.vlt k e.symm; omega
theorem ISr.nel {B : Nat} {ls : List Met} {vv vl : Value} {w : World} (h : ISr B ls vv vl w) {k : Nat} (hk : w.heap.size ≤ k) : some k ≠ vl.ownBlock := fun e => by have := h.llt k e.symm; omega

theorem cell_then {w W w3 : World} {row : Option Nat} (bW : Below w.heap.size w W) (hg : W.grownBy w3 row) (a : Addr) (ha : a.block < w.heap.size) (hn : some a.block ≠ row) : w3.cell? a = w.cell? a :=
  (hg.cell_far a (Nat.lt_of_lt_of_le ha bW.size) hn).trans (bW.cell ha)
theorem below_r (w : World) : Below w.heap.size w w := Below.refl _ _
theorem below_a (w : World) (o : Obj) : Below w.heap.size w (w.alloc o) := (Below.refl w.heap.size w).alloc (Nat.le_refl _) o
theorem heap_then {W w3 : World} {row : Option Nat} {k : Nat} {o : Obj} (hg : W.grownBy w3 row) (h : W.heap[k]? = some o) (hn : some k ≠ row) : w3.heap[k]? = some o :=
  (hg.block k (Array.getElem?_eq_some_iff.1 h).1 hn).trans h

theorem append_two {B : Nat} {ls : List Met} {l : List (Nat × Ty)} {vv vl : Value} {w w' W w3 X w4 : World} {o p g1 c1 g2 c2 g' cap' : Nat} {s : Ty} (I1 : ISr B ls vv vl w') (b01 : Below w.heap.size w w') (bW : Below w'.heap.size w' W)
    (hg3 : W.grownBy w3 vv.ownBlock) (ha3 : vv.ownBlock = some g1 ∨ g1 = W.heap.size) (hl3 : g1 < w3.heap.size) (ho3 : w3.ownsRow B 3 1 (.slice (some ⟨g1, 0, none⟩) (ls.length + 1) c1) (ls.length + 1) (ls.map mv ++ [.int .i64 (p : Int)]))
    (hX : Below w3.heap.size w3 X) (hg4 : X.grownBy w4 vl.ownBlock) (ha4 : vl.ownBlock = some g2 ∨ g2 = X.heap.size) (ho4 : w4.ownsRow B 38 1 (.slice (some ⟨g2, 0, none⟩) (ls.length + 1) c2) (ls.length + 1) (ls.map ml ++ [.slice (some ⟨g', 0, none⟩) (sz s) cap']))
    (hs : TV g' s vv vl w) (hp : p = o + 30) (hl : ls.map (fun e => (e.1, e.2.1)) = l) :
    FI vv vl w w4 ∧ NewOr w vv (.slice (some ⟨g1, 0, none⟩) (ls.length + 1) c1) ∧ NewOr w vl (.slice (some ⟨g2, 0, none⟩) (ls.length + 1) c2) ∧ IS B (l ++ [(o, s)]) (.slice (some ⟨g1, 0, none⟩) (ls.length + 1) c1) (.slice (some ⟨g2, 0, none⟩) (ls.length + 1) c2) w4 := by
  have z0 := b01.size
  have z1 := bW.size
  have z2 := hg3.size
  have z3 := hX.size
  have z4 := hg4.size
  have vlt := I1.vlt
  have llt := I1.llt
  have hs' := hs.below b01
  have nv : ∀ k, k < w'.heap.size → vv.ownBlock ≠ some k → g1 ≠ k := by
    intro k hk hn e
    rcases ha3 with h | h
    · exact hn (by rw [h, e])
    · omega
  have nl : ∀ k, k < w'.heap.size → vl.ownBlock ≠ some k → g2 ≠ k := by
    intro k hk hn e
    rcases ha4 with h | h
    · exact hn (by rw [h, e])
    · omega
  have hne : g1 ≠ g2 := by
    intro e
    rcases ha3 with h | h <;> rcases ha4 with h' | h'
    · rcases I1.ne with h0 | h0
      · rw [h] at h0; cases h0
      · exact h0 (by rw [h, h', e])
    · have := vlt g1 h; omega
    · have := llt g2 h'; omega
    · omega
  have keep : ∀ {g : Nat} {t : Ty}, Rg g t w' → vv.ownBlock ≠ some g → vl.ownBlock ≠ some g → Rg g t w4 := fun hR h1 h2 => (((hR.below bW).kept hg3 h1).below hX).kept hg4 h2
  refine ⟨⟨hg4.os.trans (hX.os.trans (hg3.os.trans (bW.os.trans b01.os))), hg4.tape.trans (hX.tape.trans (hg3.tape.trans (bW.tape.trans b01.tape))), hg4.output.trans (hX.output.trans (hg3.output.trans (bW.output.trans b01.output))), by omega, fun k hk h1 h2 => ?_⟩, ?_, ?_, ⟨ls ++ [(o, s, g', cap')], ?_, ?_, ?_, ?_, ?_⟩⟩
  · exact (hg4.block k (by omega) h2).trans ((hX.block k (by omega)).trans ((hg3.block k (by omega) h1).trans ((bW.block k (by omega)).trans (b01.block k hk))))
  · rcases ha3 with h | h
    · exact .inl h.symm
    · exact .inr ⟨g1, rfl, by omega⟩
  · rcases ha4 with h | h
    · exact .inl h.symm
    · exact .inr ⟨g2, rfl, by omega⟩
  · simp [hl]
  · have e1 : (ls ++ [(o, s, g', cap')]).map mv = ls.map mv ++ [.int .i64 (p : Int)] := by simp [hp]
    rw [e1, List.length_append]
    refine (own_kept ho3 hX).kept hg4 (.inr ?_)
    simp only [Value.ownBlock]
    rcases ha3 with h | h
    · rcases I1.ne with h0 | h0
      · rw [h] at h0; cases h0
      · rw [← h]; exact h0
    · intro e; have := llt g1 e.symm; omega
  · have e1 : (ls ++ [(o, s, g', cap')]).map ml = ls.map ml ++ [.slice (some ⟨g', 0, none⟩) (sz s) cap'] := by simp
    rw [e1, List.length_append]
    exact ho4
  · intro e he
    rcases List.mem_append.1 he with he | he
    · have h := I1.ok e he
      refine ⟨keep h.1 h.2.2.1 h.2.2.2, h.2.1, ?_, ?_⟩
      · intro e'; simp only [Value.ownBlock, Option.some.injEq] at e'; exact nv _ h.1.lt h.2.2.1 e'
      · intro e'; simp only [Value.ownBlock, Option.some.injEq] at e'; exact nl _ h.1.lt h.2.2.2 e'
    · obtain rfl : e = (o, s, g', cap') := by simpa using he
      refine ⟨keep hs'.rg hs'.nv hs'.nl, hs'.small, ?_, ?_⟩
      · intro e'; simp only [Value.ownBlock, Option.some.injEq] at e'; exact nv _ hs'.rg.lt hs'.nv e'
      · intro e'; simp only [Value.ownBlock, Option.some.injEq] at e'; exact nl _ hs'.rg.lt hs'.nl e'
  · exact .inr (by simp [Value.ownBlock, hne])

set_option maxRecDepth 100000 in
set_option maxHeartbeats 4000000 in
theorem rinst_var (o : Nat) (t s : Ty) (hvar : t = tV o) (ho : 970 ≤ o ∧ o < 1230) (B : Nat) (l : List (Nat × Ty)) (vv vl : Value) (g cap g' cap' : Nat) (w : World) (hI : IS B l vv vl w) (hB : B ≤ w.heap.size) (ht : TV g t vv vl w) (hs : TV g' s vv vl w) (hl : l.length ≤ 200000) :
    Calls Tryd.prog 19 #[.agg #[.slice (some ⟨g, 0, none⟩) (sz t) cap], .agg #[.slice (some ⟨g', 0, none⟩) (sz s) cap'], vv, vl] w (IPost B vv vl (fitsT t s l) w) := by
  obtain ⟨ls, hls, hR⟩ := hI
  have b0 := below2 w (.cells #[.slice (some ⟨g, 0, none⟩) (sz t) cap] 38) (.cells #[.slice (some ⟨g', 0, none⟩) (sz s) cap'] 38)
  have hop : (rt t 0).op = o + 30 := by rw [hvar]; rfl
  have R1 := root_any t g cap _ (ht.rg.below b0) (sz_small ht)
  rw [hop] at R1
  have hlen : ls.length = l.length := by rw [← hls]; simp
  have hlls : ls.length ≤ 200000 := by omega
  have HS : Hid (TV g' s vv vl w) := hs
  have HI : Hid (ISr B ls vv vl w) := hR
  have HL : Hid (ls.map (fun e => (e.1, e.2.1)) = l) := hls
  have HV : Hid (t = tV o) := hvar
  have hln := len_ownV hR.vars
  obtain ⟨p, hp⟩ : ∃ p, p = o + 30 := ⟨_, rfl⟩
  rw [← hp] at R1
  have d1 : decide ((1000 : Int) ≤ (p : Int)) = true := by simp; omega
  have hp1 : p < 1300 := by omega
  have HP : Hid (p = o + 30) := hp
  clear hs ht hR hls hop hvar hp hlen hl
  go_enter Tryd.func19, Tryd.ntmps19
  go_wp2_with fail
  refine R1.mono ?_
  rintro e w1 ⟨rfl, b1⟩
  have c2 := box2 b1
  have s1 := b1.size
  simp only [World.size_alloc] at s1
  have b01 := b0.trans (b1.mono b0.size)
  have I1 := HI.out.below b01
  clear R1 b0 b1
  go_wp2_with fail
  refine (isVar_any p w1).mono ?_
  rintro e w' ⟨rfl, rfl⟩
  rw [d1]
  go_wp2_with fail
  go_loop [12] (fun i => ∃ k : Nat, i = .int .i64 (k : Int) ∧ k ≤ ls.length ∧ Hid (noneTo ls o k)) (fun i => ls.length - (intOf i).toNat)
  case atStart => exact ⟨0, rfl, Nat.zero_le _, fun m e hm => absurd hm (by omega)⟩
  case round =>
    obtain ⟨k, rfl, hk, HN⟩ := hrel
    rcases Nat.lt_or_ge k ls.length with hlt | hge
    · obtain ⟨e, he⟩ : ∃ e, ls[k]? = some e := ⟨_, List.getElem?_eq_getElem hlt⟩
      obtain ⟨gv, cv, rfl, hbv, hgv⟩ := I1.vars.form (by omega)
      obtain ⟨gl, cl, rfl, hbl, hgl⟩ := I1.tys.form (by omega)
      have kv0 := I1.vars.cells (g := gv) rfl k _ (by rw [List.getElem?_map, he]; rfl)
      have kl0 := I1.tys.cells (g := gl) rfl k _ (by rw [List.getElem?_map, he]; rfl)
      rw [add0] at kv0 kl0
      have hok := I1.ok e (List.mem_of_getElem? he)
      obtain ⟨eo, et, eg, ec⟩ := e
      replace kv0 : w'.cell? ⟨gv, k, none⟩ = some (.int .i64 ((eo + 30 : Nat) : Int)) := kv0
      replace kl0 : w'.cell? ⟨gl, k, none⟩ = some (.slice (some ⟨eg, 0, none⟩) (sz et) ec) := kl0
      by_cases heo : eo = o
      · subst heo
        have HF : Hid (fitsT t s l = if eqT et s then some l else none) := by
          unfold Hid
          rw [HV.out, fitsT_node, if_pos rfl, ← HL.out, look_ls_some ls eo k _ HN.out he rfl]
        have e1 : ((((eo + 30 : Nat) : Int)) == (p : Int)) = true := by rw [HP.out]; simp
        have hx : eo + 30 = p := HP.out.symm
        rw [hx] at kv0
        have hsm : sz et ≤ 100000 := hok.2.1
        have hRe : Rg eg et w' := hok.1
        clear hx e1 he hok
        have HSm := rsame_any et s eg ec g' cap' w'.drew hRe.drew (HS.out.rg.below b01).drew (by omega)
        go_wp2_with fail
        go_region_with (go_at_call 35; refine HSm.mono ?_; rintro e w3 ⟨rfl, b3⟩)
        all_goals
          go_wp2_with fail
          go_ret3
          have b03 := b01.drew.trans (b3.mono b01.size)
          rw [HF.out]
          refine ⟨_, _, ?_, FI.ofBelow b03, NewOr.refl _ _, NewOr.refl _ _, ?_⟩
          · cases eqT et s <;> rfl
          · intro m hm
            split at hm
            · cases hm; exact IS.below ⟨ls, HL.out, HI.out⟩ b03
            · cases hm
      · have HM : Hid (noneTo ls o (k + 1)) := by
          intro m e' hm hme
          rcases Nat.lt_or_ge m k with h1 | h1
          · exact HN.out m e' h1 hme
          · obtain rfl : m = k := by omega
            rw [he] at hme; cases hme; exact heo
        obtain ⟨x, hx⟩ : ∃ x, x = eo + 30 := ⟨_, rfl⟩
        rw [← hx] at kv0
        have e1 : ((x : Int) == (p : Int)) = false := by rw [beq_eq_false_iff_ne]; have := HP.out; omega
        have hxp : ¬ x = p := by have := HP.out; omega
        clear hx kl0 hok he heo
        go_wp2_with fail

        go_round
        case rel => exact ⟨k + 1, by simp, by omega, HM⟩
        case measure => simp [intOf]; omega
    · obtain rfl : k = ls.length := by omega
      have d2 : decide ((ls.length : Int) < (ls.length : Int)) = false := by simp
      have HF : Hid (fitsT t s l = some (l ++ [(o, s)])) := by
        unfold Hid
        have := look_ls_none ls o HN.out
        rw [HL.out] at this
        rw [HV.out, fitsT_node, if_pos rfl, this]
      obtain ⟨i1, hi1, hy0, hy1, hy2⟩ := info_parts infoInt
      obtain ⟨i2, hi2, hx0, hx1, hx2⟩ := info_parts infoType
      have hBw : B ≤ w'.heap.size := by have := b01.size; omega
      have HB : Hid (Below w.heap.size w w') := b01
      have HI1 : Hid (ISr B ls vv vl w') := I1
      clear HN b01 I1
      go_wp2_with fail
      go_region_held3 (fun wq => wq.cell? ⟨w.heap.size + 1, 0, none⟩ = some (.slice (some ⟨g', 0, none⟩) (sz s) cap'))
        (first | go_keep | exact q3)
        (first
          | (refine step_append_lies _ (by rfl) _ _ 58 (by rfl) B 3 i1 _ 1 8 Tryd.underlying58 hi1 hy0 hy1 hy2 rfl (by omega) vv ls.length (ls.map mv) (by rfl) (HI1.out.below (by first | exact below_d1 _ _ | exact below_d2 _ _ _)).vars _ 1 1 [.int .i64 (p : Int)] (by rfl) (by rfl) (by first | exact World.news_of_block (heap_alloc_new _ _) | exact World.news_of_block (heap_alloc2_new _ _ _) | exact World.news_of_block (heap_alloc12 _ _ _)) (by simp [Value.oneCell']) (by omega) (by unfold maxLen; omega) (by omega) (Nat.le_trans hBw (Below.size (by first | exact below_d1 _ _ | exact below_d2 _ _ _))) _ rfl ?_; intro g1 c1 w3 ho3 hg3 ha3 hl3; (have q3 := (cell_then (w := w') (by first | exact below_d1 _ _ | exact below_d2 _ _ _) hg3 ⟨w.heap.size + 1, 0, none⟩ (show w.heap.size + 1 < w'.heap.size by omega) (HI.out.nev (k := w.heap.size + 1) (by omega))).trans c2); (have T3 := after_v HI1.out (by first | exact below_d1 _ _ | exact below_d2 _ _ _) hg3); (have S3 : B ≤ w3.heap.size := Nat.le_trans hBw (Nat.le_trans (Below.size (by first | exact below_d1 _ _ | exact below_d2 _ _ _)) hg3.size)); (have Z3 : w'.heap.size ≤ w3.heap.size := Nat.le_trans (Below.size (by first | exact below_d1 _ _ | exact below_d2 _ _ _)) hg3.size))
          | (refine step_append_lies _ (by rfl) _ _ 59 (by rfl) B 38 i2 _ 1 24 Tryd.underlying59 hi2 hx0 hx1 hx2 rfl (by omega) vl ls.length (ls.map ml) (by rfl) (by first | exact T3 | exact T3.alloc _) _ 1 1 [.slice (some ⟨g', 0, none⟩) (sz s) cap'] (by rfl) (by rfl) (by first | exact World.news_of_block (heap_alloc_new _ _) | exact World.news_of_block (heap_then hg3 (heap_alloc2_new _ _ _) (HI1.out.nev (Nat.le_succ _))) | exact World.news_of_block (heap_then hg3 (heap_alloc12 _ _ _) (HI1.out.nev (Nat.le_refl _)))) (by simp [Value.oneCell']) (by omega) (by unfold maxLen; omega) (by omega) (Nat.le_trans S3 (Below.size (by first | exact below_r _ | exact below_a _ _))) _ rfl ?_; intro g2 c2' w4 ho4 hg4 ha4 hl4; (have q3 := (cell_then (w := w3) (by first | exact below_r _ | exact below_a _ _) hg4 ⟨w.heap.size + 1, 0, none⟩ (show w.heap.size + 1 < w3.heap.size by omega) (HI.out.nel (k := w.heap.size + 1) (by omega))).trans q3)))
      all_goals
        go_wp2_with fail
        go_ret3
        have F := append_two HI1.out HB.out (by first | exact below_d1 _ _ | exact below_d2 _ _ _) hg3 ha3 hl3 ho3 (by first | exact below_r _ | exact below_a _ _) hg4 ha4 ho4 HS.out HP.out HL.out
        rw [HF.out]
        exact ⟨_, _, rfl, F.1, F.2.1, F.2.2.1, fun m hm => by cases hm; exact F.2.2.2⟩
end Go.Proofs.YtceadeaodbadlaaDoor
