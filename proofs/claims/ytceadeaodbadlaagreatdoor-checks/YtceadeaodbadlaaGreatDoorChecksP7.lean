import Derived.Test.YtceadeaodbadlaaGreatDoorChecksP6
set_option linter.unusedVariables false
set_option linter.unusedSimpArgs false
set_option maxRecDepth 100000
set_option maxHeartbeats 8000000
namespace Go.Proofs.YtceadeaodbadlaaGreatDoor
open Go.RowKit
abbrev rdT (s : ByteArray) : Obj := .cells #[.string s, .bool true, .int .i64 0, .int .i64 (-1), .slice none 0 0] 70
theorem Sr.new (s : ByteArray) (w : World) : Sr w.heap.size s (.ok 0) [] (w.alloc (rdT s)) :=
 ⟨Nat.zero_le _, .slice none 0 0, heap_alloc_new w _, World.ownsRow_nil _ _ _ _, by simp [Value.ownBlock], fun _ => rfl⟩
theorem Fr.belowNew' {s : ByteArray} {w w' : World} (h : Fr w.heap.size (w.alloc (rdT s)) w') : Below w.heap.size w w' := by
 have hr : rowOf w.heap.size (w.alloc (rdT s)) = none := by unfold rowOf; simp [Value.ownBlock]
 refine ⟨h.os, h.tape, h.output, Nat.le_trans (by simp) h.size, fun k hk => ?_⟩
 rw [h.block k (by simp; omega) (by omega) (by rw [hr]; simp)]
 exact Below.heap_alloc _ _ _ hk
theorem sfail_old (b : Nat) (s : ByteArray) (p : Nat) (ts : List Tt) (w : World) (h : Sr b s (.error p) ts w) :
 Calls Tryz.prog 44 #[.pointer (some ⟨b, 0, none⟩)] w fun e w' => e = .returned (.tuple #[]) /\ w' = w := by
 obtain ⟨lv, r0, mv⟩ := h.mv
 exact zea true lv b s p p w r0
def znb (s : ByteArray) (w : World) (e : Ending) (w' : World) : Prop :=
 Below w.heap.size w w' /\ match zbn s true with
  | .error p => e = .returned (.tuple #[.slice none 0 0, .int .i64 (p : Int)])
  | .ok x => ∃ L ts k, e = .returned (.tuple #[L, .int .i64 (-1)]) /\ k + 1 = ts.length /\ ts.length <= 300000 /\ Lr w' L ts /\ Sd w' ts x k
theorem Sr.lr {b : Nat} {s : ByteArray} {σ : Sg} {ts : List Tt} {w : World} (h : Sr b s σ ts w) (hn : ts ≠ []) : ∃ g cap, w.cell? ⟨b, 4, none⟩ = some (.slice (some ⟨g, 0, none⟩) ts.length cap) /\ ts.length <= cap /\ Lr w (.slice (some ⟨g, 0, none⟩) ts.length cap) ts := by
 obtain ⟨_, lv, h0, ho, _⟩ := h
 rcases id ho.2 with ⟨_, h1⟩ | ⟨g, cap, cur, rfl, hB, hg, hcap, _⟩
 · exact absurd (List.length_eq_zero_iff.1 h1) hn
 · refine ⟨g, cap, by rw [Lib.cell_of_heap h0]; rfl, hcap, g, cap, rfl, (Array.getElem?_eq_some_iff.1 hg).1, fun k t hk j v hv => ?_⟩
   have hj : j < 9 := (List.getElem?_eq_some_iff.1 hv).1
   have := ho.cells (g := g) rfl (k * 9 + j) v (by rw [tflat_at ts k t hk j hj]; exact hv)
   rw [zic g (k * 9 + j)] at this
   exact this
theorem tread_any (s : ByteArray) (w : World) (hs : s.size <= 60000) :
 Calls Tryz.prog 27 #[.string s, .bool true] w (znb s w) := by
 have hE := (znj w.heap.size s hs (3 * s.size + 2) _ (Nat.le_refl _)).1
 have h0 := Sr.new s w
 have CE : Hid (Calls Tryz.prog 46 #[.pointer (some ⟨w.heap.size, 0, none⟩)] (w.alloc (rdT s)) (XPost w.heap.size s (pe s true (3 * s.size + 2) 0 0 .nil) (.ok 0) [] (w.alloc (rdT s)))) := hE (.ok 0) [] _ h0 (fun i e => by cases e; omega) (by simp [xB]; omega)
 clear hE h0
 go_enter Tryz.func27, Tryz.ntmps27
 go_wp2_with fail
 refine CE.out.mono ?_
 rintro e w1 ⟨k1, k, us, rfl, h1, hu, hx⟩
 rw [List.nil_append] at h1 hx
 cases hq : pe s true (3 * s.size + 2) 0 0 .nil with
 | error p =>
  rw [hq] at h1
  have HR : Hid (zbn s true = .error p) := by unfold Hid zbn; rw [hq]
  clear hq hx CE
  have c2 : w1.cell? ⟨w.heap.size, 2, none⟩ = some (.int .i64 (p : Int)) := h1.c2
  have c3 : w1.cell? ⟨w.heap.size, 3, none⟩ = some (.int .i64 (p : Int)) := h1.c3
  by_cases hps : p < s.size
  · go_wp2_with fail
    refine (sfail_old _ s p _ w1 h1).mono ?_
    rintro e w2 ⟨rfl, rfl⟩
    go_wp2_with fail
    go_quiet (fail)
    go_wp2_with fail
    go_ret2
    refine ⟨(k1.drewN _).belowNew', ?_⟩
    rw [HR.out]
    exact rfl
  · go_wp2_with fail
    go_quiet (fail)
    go_wp2_with fail
    go_ret2
    refine ⟨(k1.drewN _).belowNew', ?_⟩
    rw [HR.out]
    exact rfl
 | ok r =>
  obtain ⟨x, j⟩ := r
  rw [hq] at h1
  obtain ⟨x1, x2, x3⟩ := hx x j hq
  have pl := zao s true _ _ _ _ _ _ hq (Nat.zero_le _) (by omega)
  have hj2 : j <= s.size := pl.2.1
  clear pl hx CE
  have c2 : w1.cell? ⟨w.heap.size, 2, none⟩ = some (.int .i64 (j : Int)) := h1.c2
  have c3 : w1.cell? ⟨w.heap.size, 3, none⟩ = some (.int .i64 (-1)) := h1.c3
  by_cases hj : j < s.size
  · have HR : Hid (zbn s true = .error j) := by unfold Hid zbn; rw [hq]; exact if_pos hj
    clear hq
    go_wp2_with fail
    refine (sfail _ s j _ w1 h1).mono ?_
    rintro e w2 ⟨rfl, h2, k2⟩
    have c3' : w2.cell? ⟨w.heap.size, 3, none⟩ = some (.int .i64 (j : Int)) := h2.c3
    clear c2 c3
    go_wp2_with fail
    go_quiet (fail)
    go_wp2_with fail
    go_ret2
    refine ⟨((k1.trans k2).drewN _).belowNew', ?_⟩
    rw [HR.out]
    exact rfl
  · have HR : Hid (zbn s true = .ok x) := by unfold Hid zbn; rw [hq]; exact if_neg hj
    clear hq
    obtain ⟨g, cap, c4, hcap, hL⟩ := h1.lr (by intro e; rw [e] at x1; simp at x1)
    have HK : Hid (k + 1 = us.length) := x1
    have HL : Hid (Lr w1 (.slice (some ⟨g, 0, none⟩) us.length cap) us) := hL
    have HSd : Hid (Sd w1 us x k) := x3
    have HU : Hid (us.length <= 300000) := by unfold Hid; simp only [xB] at hu; omega
    have hk1 : (k : Int) + 1 = (us.length : Int) := by omega
    have hk2 : k < us.length := by omega
    have hkc : us.length <= 300000 := HU.out
    clear h1 x1 x2 x3 hL hu
    go_wp2_with fail
    go_ret2
    refine ⟨k1.belowNew', ?_⟩
    rw [HR.out]
    exact ⟨_, us, k, rfl, HK.out, HU.out, HL.out, HSd.out⟩
theorem zes {fn : Func} {p u1 u2 u3 : Tmp} (h : fn.results = #[.cell p 33, .tmp u1, .tmp u2, .tmp u3]) {tmps : Array Value} {w : World} {g : Nat} {v x1 x2 x3 : Value} {Q : Ending -> World -> Prop}
 (hp : tmps.getD p undef = .pointer (some ⟨g, 0, none⟩)) (h1 : tmps.getD u1 undef = x1) (h2 : tmps.getD u2 undef = x2) (h3 : tmps.getD u3 undef = x3) (hg : w.heap[g]? = some (.cells #[v] 33 (0, 0))) (hq : Q (.returned (.tuple #[.agg #[v], x1, x2, x3])) w) : bodyPost Tryz.prog fn Q Exit.ret { tmps := tmps, defers := [] } w := by
 refine bodyPost_ret ?_ rfl hq
 have hl := run_loadVar_row w g 33 33 #[v] (0, 0) _ hg Tryz.underlying33 rfl zmu
 simp only [Array.getD_eq_getD_getElem?] at hp h1 h2 h3
 simp only [results, h]
 simp [Sem.run_bind, Result.andThen, hp, h1, h2, h3, asAddr, hl]
def zba (s : ByteArray) : COut := match zbn s true with
 | .error p => .error (2, p)
 | .ok x => chk x (fun _ => none)
def TyPostC (s : ByteArray) (w : World) (e : Ending) (w' : World) : Prop :=
 Below w.heap.size w w' /\ match zba s with
  | .error (c, p) => e = .returned (.tuple #[.agg #[.slice none 0 0], .string ⟨#[]⟩, .int .i64 (c : Int), .int .i64 (p : Int)])
  | .ok t => ∃ g cap F, e = .returned (.tuple #[.agg #[.slice (some ⟨g, 0, none⟩) (sz t) cap], .string F, .int .i64 0, .int .i64 0]) /\ Rg g t w' /\ sz t <= 50000
abbrev ckO (L : Value) : Obj := .cells #[L, .slice none 0 0, .int .i64 0, .int .i64 0, .int .i64 50000] 104
theorem Ct.new {w : World} {L : Value} {ts : List Tt} (h : Lr w L ts) (hl : ts.length <= 300000) : Ct w w.heap.size L ts none [] (w.alloc (ckO L)) := by
 obtain ⟨gL, capL, rfl, hg, hc⟩ := id h
 refine ⟨bal w _, ⟨Nat.le_refl _, ⟨_, _, _, rfl⟩, (fun r e => by cases e), .slice none 0 0, heap_alloc_new w _, World.ownsRow_nil _ _ _ _, by simp [Value.ownBlock], (fun g e => by simp [Value.ownBlock] at e), (fun x hx => by cases hx)⟩, h, hl⟩
theorem StOk.nil : StOk [] := fun x hx => by cases hx
theorem typed_any (s : ByteArray) (w : World) (hs : s.size <= 60000) :
 Calls Tryz.prog 38 #[.string s, .int .i64 50000] w (TyPostC s w) := by
 have B0 : Below w.heap.size w (w.alloc rbO) := bal w _
 have r0 : (w.alloc rbO).heap[w.heap.size]? = some (.cells #[.slice none 0 0] 33 (0, 0)) := heap_alloc_new w _
 have z0 : (w.alloc rbO).heap.size = w.heap.size + 1 := by simp
 have HRD : Hid (∀ X, Calls Tryz.prog 27 #[.string s, .bool true] X (znb s X)) := fun X => tread_any s X hs
 have HS : Hid (s.size <= 60000) := hs
 clear hs
 go_enter Tryz.func38, Tryz.ntmps38
 go_wp2_with fail
 generalize w.alloc rbO = W at *
 refine (HRD.out W).mono ?_
 rintro e w1 ⟨b1, hm⟩
 have r1 := (b1.block w.heap.size (by omega)).trans r0
 have HB1 : Hid (Below w.heap.size w w1) := B0.trans (b1.mono B0.size)
 have z1 := b1.size
 clear B0 b1 r0
 cases hq : zbn s true with
 | error p =>
  rw [hq] at hm
  subst hm
  have HR : Hid (zba s = .error (2, p)) := by unfold Hid zba; rw [hq]
  have c1 := zab r1
  have f1 := zae r1
  have e1 : decide ((0 : Int) <= (p : Int)) = true := by simp
  have e2 : (0 : Int) <= (p : Int) := by omega
  clear hq
  go_wp2_with fail
  refine zes rfl rfl rfl rfl rfl (zac r1) ?_
  refine ⟨HB1.out.setCell (p := ⟨w.heap.size, 0, none⟩) (Nat.le_refl _) _, ?_⟩
  rw [HR.out]
  exact rfl
 | ok x =>
  rw [hq] at hm
  obtain ⟨L, ts, k, rfl, hk, hl, hL, hSd⟩ := hm
  have HTO : Hid (zba s = chk x (fun _ => none)) := by unfold Hid zba; rw [hq]
  have hx := wholeE_xz hq
  have hok := zoj hq
  obtain ⟨gL, capL, rfl, hgL, _⟩ := id hL
  have CT : Ct w1 w1.heap.size (.slice (some ⟨gL, 0, none⟩) ts.length capL) ts none [] (w1.alloc (ckO (.slice (some ⟨gL, 0, none⟩) ts.length capL))) := Ct.new hL hl
  have HCT : Hid _ := CT
  have HCK : Hid (Calls Tryz.prog 61 #[.pointer (some ⟨w1.heap.size, 0, none⟩), .int .i64 (k : Int)] (w1.alloc (ckO (.slice (some ⟨gL, 0, none⟩) ts.length capL))) (CPost w1.heap.size w1.heap.size (.slice (some ⟨gL, 0, none⟩) ts.length capL) 50000 [] (xz x) (chk x (fun _ => none)) (w1.alloc (ckO (.slice (some ⟨gL, 0, none⟩) ts.length capL))))) :=
   rcheck_any w1 w1.heap.size _ ts s.size HS.out x k hSd hok hx.2 (Nat.le_trans hx.1 HS.out) [] _ CT StOk.nil (by simp; have := HS.out; omega)
  have HBAR : Hid (∀ X, Below w1.heap.size w1 X -> Calls Tryz.prog 33 #[.slice (some ⟨gL, 0, none⟩) ts.length capL] X fun e w' => ∃ F : ByteArray, e = .returned (.string F) /\ Below X.heap.size X w') := fun X hX => bare_sd ts _ s.size k x X (by omega) hk hSd hok (Nat.le_trans hx.1 HS.out) (hL.below hX)
  have HSZ : Hid (∀ t, chk x (fun _ => none) = .ok t -> sz t <= 50000) := fun t ht => (zfl HS.out x _ t hok (EnvOk.none _) ht).2
  have sC : (w1.alloc (ckO (.slice (some ⟨gL, 0, none⟩) ts.length capL))).heap.size = w1.heap.size + 1 := by simp
  have rC := (Below.heap_alloc w1 (ckO (.slice (some ⟨gL, 0, none⟩) ts.length capL)) w.heap.size (by omega)).trans r1
  have hkk : (ts.length : Int) - 1 = (k : Int) := by omega
  generalize chk x (fun _ => none) = R at *
  clear hq hSd hL CT hx hok hk
  generalize ts.length = tl at *
  go_wp2_with fail
  generalize hX : w1.alloc (ckO (.slice (some ⟨gL, 0, none⟩) tl capL)) = X at *
  clear hX
  refine HCK.out.mono ?_
  intro e w2 hP2
  obtain ⟨t2, g2, cap2, rfl, R2, C2, F2, y2, y2'⟩ := hP2
  have HY2 : Hid (∀ u, R = .ok u -> t2 = u) := y2
  have bB : Below w2.heap.size w2 (w2.alloc (tbO g2 (sz t2) cap2)) := bal w2 _
  have C3 := (C2.below bB).1
  have F3 := F2.trans (C2.below bB).2
  have HR3 : Hid (Rg g2 t2 (w2.alloc (tbO g2 (sz t2) cap2))) := R2.below bB
  have x3 : (w2.alloc (tbO g2 (sz t2) cap2)).heap[w2.heap.size]? = some (.cells #[.slice (some ⟨g2, 0, none⟩) (sz t2) cap2] 33 (0, 0)) := heap_alloc_new w2 _
  have s2 := F2.size
  have sB : (w2.alloc (tbO g2 (sz t2) cap2)).heap.size = w2.heap.size + 1 := by simp
  have HB3 : Hid (Below w1.heap.size w1 (w2.alloc (tbO g2 (sz t2) cap2))) := (F3.ct HCT.out C3).old
  have HBw : Hid (Below w.heap.size w (w2.alloc (tbO g2 (sz t2) cap2))) := HB1.out.trans (HB3.out.mono HB1.out.size)
  have r3 := (HB3.out.block w.heap.size (by omega)).trans r1
  obtain ⟨S3, hk3, -, -⟩ := C3.mv
  have j2 : (w2.alloc (tbO g2 (sz t2) cap2)).cell? ⟨w1.heap.size, 2, none⟩ = some (.int .i64 (cErr (errOf R) : Int)) := cbl hk3
  have j3 : (w2.alloc (tbO g2 (sz t2) cap2)).cell? ⟨w1.heap.size, 3, none⟩ = some (.int .i64 (cAt (errOf R) : Int)) := cbl hk3
  have HE : Hid (∀ r, errOf R = some r -> 1 <= r.1) := C3.2.2.1
  have jx := zab x3
  have c3r := zab r3
  have f3r := zae r3
  generalize hn2 : sz t2 = n2 at *
  have HN2 : Hid (sz t2 = n2) := hn2
  clear R2 C2 F2 y2 y2' bB C3 F3 hk3 hn2
  cases hR : R with
  | error r =>
   obtain ⟨e1, e2⟩ := r
   have HR : Hid (zba s = .error (e1, e2)) := HTO.out.trans hR
   rw [hR] at j2 j3
   have her : 1 <= e1 := HE.out (e1, e2) (by rw [hR]; rfl)
   have eb : ((e1 : Int) != 0) = true := by rw [bne_iff_ne]; omega
   replace j2 : (w2.alloc (tbO g2 n2 cap2)).cell? ⟨w1.heap.size, 2, none⟩ = some (.int .i64 (e1 : Int)) := j2
   replace j3 : (w2.alloc (tbO g2 n2 cap2)).cell? ⟨w1.heap.size, 3, none⟩ = some (.int .i64 (e2 : Int)) := j3
   clear hR
   go_wp2_with fail
   generalize w2.alloc (tbO g2 n2 cap2) = Z at *
   have d2 := (zaw Z ⟨w.heap.size, 0, none⟩ ⟨w1.heap.size, 2, none⟩ (.slice none 0 0) (by show w1.heap.size ≠ w.heap.size; omega)).trans j2
   have d3 := (zaw Z ⟨w.heap.size, 0, none⟩ ⟨w1.heap.size, 3, none⟩ (.slice none 0 0) (by show w1.heap.size ≠ w.heap.size; omega)).trans j3
   refine wp_region_held_drew (S := (fun wq => wq.cell? ⟨w1.heap.size, 2, none⟩ = some (.int .i64 (e1 : Int)) /\ wq.cell? ⟨w1.heap.size, 3, none⟩ = some (.int .i64 (e2 : Int)))) (by kernel_rfl) (⟨j2, j3⟩) (fun hS => ?_)
   refine tkS 0 (.agg #[.slice none 0 0]) hS ?_
   refine tkS 1 (.pointer (some ⟨w1.heap.size, 0, none⟩)) hS ?_
   refine tkS 2 (.pointer (some ⟨w1.heap.size, 0, none⟩)) hS ?_
   refine tkS 3 (.pointer (some ⟨w1.heap.size, 2, none⟩)) hS ?_
   refine tkL 4 (.int .i64 (e1 : Int)) hS ?_
   refine tkS 5 (.pointer (some ⟨w1.heap.size, 0, none⟩)) hS ?_
   refine tkS 6 (.pointer (some ⟨w1.heap.size, 0, none⟩)) hS ?_
   refine tkS 7 (.pointer (some ⟨w1.heap.size, 3, none⟩)) hS ?_
   refine tkL 8 (.int .i64 (e2 : Int)) hS ?_
   refine rd1 9 (fun KK hK => ?_)
   (try simp only [List.getElem_toArray, List.getElem_cons_succ, List.getElem_cons_zero])
   go_simp
   (try dsimp only)
   refine hK.out _ _ ⟨d2, d3⟩ (fun hS => nrm ?_)
   refine tkS 10 (.string ⟨#[]⟩) hS ?_
   refine tkS 11 (.int .i64 (e1 : Int)) hS ?_
   refine tkS 12 (.int .i64 (e2 : Int)) hS ?_
   refine wpAnyH_done (by kernel_rfl) ?_ _
   go_wp2_with fail
   refine zes rfl rfl rfl rfl rfl (zac r3) ?_
   refine ⟨(HBw.out.setCell (p := ⟨w.heap.size, 0, none⟩) (Nat.le_refl _) _).drew, ?_⟩
   rw [HR.out]
   exact rfl
  | ok v =>
   have hv := HY2.out v hR
   subst hv
   have HR : Hid (zba s = .ok t2) := HTO.out.trans hR
   have HZ2 : Hid (sz t2 <= 50000) := HSZ.out t2 hR
   rw [hR] at j2 j3
   replace j2 : (w2.alloc (tbO g2 n2 cap2)).cell? ⟨w1.heap.size, 2, none⟩ = some (.int .i64 0) := j2
   clear hR j3 HY2
   go_wp2_with fail
   generalize w2.alloc (tbO g2 n2 cap2) = Z at *
   have HBA : Hid (Calls Tryz.prog 33 #[.slice (some ⟨gL, 0, none⟩) tl capL] Z.drew fun e w' => ∃ F : ByteArray, e = .returned (.string F) /\ Below Z.drew.heap.size Z.drew w') := HBAR.out _ HB3.out.drew
   refine wp_region_held_drew (S := (fun wq => wq.cell? ⟨w2.heap.size, 0, none⟩ = some (.slice (some ⟨g2, 0, none⟩) n2 cap2))) (by kernel_rfl) (jx) (fun hS => ?_)
   refine tkL 0 (.agg #[.slice (some ⟨g2, 0, none⟩) n2 cap2]) hS ?_
   refine tkS 1 (.slice (some ⟨gL, 0, none⟩) tl capL) hS ?_
   refine rd1 2 (fun KK hK => ?_)
   (try simp only [List.getElem_toArray, List.getElem_cons_succ, List.getElem_cons_zero])
   go_simp
   go_at_call 33
   refine (HBA.out).mono ?_
   rintro e w4 ⟨F, rfl, b4'⟩
   have b4 : Below Z.heap.size Z w4 := ⟨b4'.os, b4'.tape, b4'.output, b4'.size, b4'.block⟩
   have k6 : w4.cell? ⟨w2.heap.size, 0, none⟩ = some (.slice (some ⟨g2, 0, none⟩) n2 cap2) := (b4.cell (p := ⟨w2.heap.size, 0, none⟩) (show w2.heap.size < Z.heap.size by omega)).trans jx
   have h4 := (b4.block w.heap.size (by omega)).trans r3
   have c4 := zab h4
   have f4 := zae h4
   (try dsimp only)
   refine hK.out _ _ k6 (fun hS => nrm ?_)
   refine rd1 3 (fun KK hK => ?_)
   (try simp only [List.getElem_toArray, List.getElem_cons_succ, List.getElem_cons_zero])
   go_simp
   (try dsimp only)
   refine hK.out _ _ ((cell_far w4 ⟨w.heap.size, 0, none⟩ ⟨w2.heap.size, 0, none⟩ (show w.heap.size ≠ w2.heap.size by omega)).trans k6) (fun hS => nrm ?_)
   refine tkS 4 (.string F) hS ?_
   refine tkS 5 (.int .i64 0) hS ?_
   refine tkS 6 (.int .i64 0) hS ?_
   refine wpAnyH_done (by kernel_rfl) ?_ _
   go_wp2_with fail
   refine zes rfl rfl rfl rfl rfl (zac h4) ?_
   refine ⟨(HBw.out.trans (b4.mono HBw.out.size)).setCell (p := ⟨w.heap.size, 0, none⟩) (Nat.le_refl _) _, ?_⟩
   rw [HR.out]
   have R4 := HR3.out.below b4
   refine ⟨g2, cap2, F, by rw [HN2.out]; rfl, R4.kept (zai _ _) (by simp; exact fun e => R4.notBox c4 e.symm), HZ2.out⟩
def TdPost (s : ByteArray) (w : World) (e : Ending) (w' : World) : Prop :=
 Below w.heap.size w w' /\ ((60000 < s.size /\ e = .returned (.tuple #[.agg #[.slice none 0 0], .string ⟨#[]⟩, .int .i64 1, .int .i64 0])) \/
  (s.size <= 60000 /\ match zba s with
   | .error (c, p) => e = .returned (.tuple #[.agg #[.slice none 0 0], .string ⟨#[]⟩, .int .i64 (c : Int), .int .i64 (p : Int)])
   | .ok t => ∃ g cap F, e = .returned (.tuple #[.agg #[.slice (some ⟨g, 0, none⟩) (sz t) cap], .string F, .int .i64 0, .int .i64 0]) /\ Rg g t w' /\ sz t <= 50000))
theorem TyPostC.form {s : ByteArray} {w : World} {e : Ending} {w' : World} (h : TyPostC s w e w') : ∃ a n c F x y, e = .returned (.tuple #[.agg #[.slice a n c], .string F, .int .i64 x, .int .i64 y]) := by
 obtain ⟨_, h⟩ := h
 cases hq : zba s with
 | error r => obtain ⟨c, p⟩ := r; rw [hq] at h; exact ⟨_, _, _, _, _, _, h⟩
 | ok t => rw [hq] at h; obtain ⟨g, cap, F, h, _⟩ := h; exact ⟨_, _, _, _, _, _, h⟩
theorem rTyped_any (s : ByteArray) (w : World) (hs : s.size <= maxLen) :
 Calls Tryz.prog 22 #[.string s] w (TdPost s w) := by
 have B0 : Below w.heap.size w (w.alloc rbO) := bal w _
 have r0 : (w.alloc rbO).heap[w.heap.size]? = some (.cells #[.slice none 0 0] 33 (0, 0)) := heap_alloc_new w _
 have z0 : (w.alloc rbO).heap.size = w.heap.size + 1 := by simp
 have HB0 : Hid (Below w.heap.size w (w.alloc rbO)) := B0
 clear B0
 unfold maxLen at hs
 rcases Nat.lt_or_ge 60000 s.size with hlt | hge
 · have d1 : decide ((60000 : Int) < (s.size : Int)) = true := by simp; omega
   have c0 := zab r0
   have f0 := zae r0
   have HL : Hid (60000 < s.size) := hlt
   go_enter Tryz.func22, Tryz.ntmps22
   go_wp2_with fail
   generalize w.alloc rbO = W at *
   refine zes rfl rfl rfl rfl rfl r0 ?_
   exact ⟨HB0.out, .inl ⟨HL.out, rfl⟩⟩
 · have d1 : decide ((60000 : Int) < (s.size : Int)) = false := by simp; omega
   have HT : Hid (∀ X, Calls Tryz.prog 38 #[.string s, .int .i64 50000] X (TyPostC s X)) := fun X => typed_any s X hge
   have HL : Hid (s.size <= 60000) := hge
   go_enter Tryz.func22, Tryz.ntmps22
   go_wp2_with fail
   generalize w.alloc rbO = W at *
   refine (HT.out W).mono ?_
   intro e w1 hP
   obtain ⟨a, n, c, F, x, y, rfl⟩ := hP.form
   have HP : Hid (TyPostC s W (.returned (.tuple #[.agg #[.slice a n c], .string F, .int .i64 x, .int .i64 y])) w1) := hP
   have b1 := hP.1
   have r1 := (b1.block w.heap.size (by omega)).trans r0
   have c1 := zab r1
   have f1 := zae r1
   have HB1 : Hid (Below w.heap.size w w1) := HB0.out.trans (b1.mono HB0.out.size)
   clear hP b1
   go_wp2_with fail
   refine zes rfl rfl rfl rfl rfl (zac r1) ?_
   refine ⟨HB1.out.setCell (p := ⟨w.heap.size, 0, none⟩) (Nat.le_refl _) _, .inr ⟨HL.out, ?_⟩⟩
   have h := HP.out.2
   cases hq : zba s with
   | error r =>
    obtain ⟨c', p⟩ := r
    rw [hq] at h
    exact h
   | ok t =>
    rw [hq] at h
    obtain ⟨g, cap, F', e, R, hz⟩ := h
    exact ⟨g, cap, F', e, R.kept (zai _ _) (by simp; exact fun e => R.notBox c1 e.symm), hz⟩
theorem zit {s : Sch} {g : List Ty} {p : Nat} {r : Nat × Nat} (h : zap s g p = .error r) : 1 <= r.1 := by
 unfold zap at h
 split at h
 · cases h; simp
 · split at h
   · cases h; simp
   · cases h
theorem callT_errR {f x : Ty} {p : Nat} {r : Nat × Nat} (h : callT f x p = .error r) : 1 <= r.1 := by
 unfold callT at h
 split at h
 · split at h
   · cases h
   · cases h; simp
 · cases h; simp
theorem chk_errR : ∀ (x : Ex) (e : Env) (r : Nat × Nat), chk x e = .error r -> 1 <= r.1 := by
 intro x
 induction x with
 | nil => intro e r h; simp [chk] at h
 | node t o x a b iha ihb =>
  intro e r h
  rw [chk] at h
  split at h
  · split at h
    · cases h; simp
    · exact zit h
  split at h
  · exact zit h
  split at h
  · cases h
  split at h
  · split at h
    · rename_i hq; cases h; exact iha _ _ hq
    · split at h
      · cases h; simp
      · cases h
  split at h
  · split at h
    · cases h; simp
    · split at h
      · rename_i hq; cases h; exact iha _ _ hq
      · exact ihb _ _ h
  · split at h
    · rename_i hq; cases h; exact iha _ _ hq
    · split at h
      · rename_i hq; cases h; exact ihb _ _ hq
      · exact callT_errR h
theorem typed_err {s : ByteArray} {c p : Nat} (h : zba s = .error (c, p)) : 1 <= c := by
 unfold zba at h
 split at h
 · cases h; simp
 · exact chk_errR _ _ _ h
theorem zml {s : ByteArray} (h : 60000 < s.size) : zam s = (⟨#[]⟩, 1, 0) := by unfold zam; rw [if_pos h]
theorem zns {s : ByteArray} {c p : Nat} (h : s.size <= 60000) (hq : zba s = .error (c, p)) : zam s = (⟨#[]⟩, c, p) := by
 unfold zam
 rw [if_neg (by omega)]
 unfold zba at hq
 split at hq
 · rename_i hw; cases hq; rw [hw]
 · rename_i hw; rw [hw]; simp only; rw [hq]
theorem zlq {s : ByteArray} {t : Ty} (h : s.size <= 60000) (hq : zba s = .ok t) : zam s = (⟨(formT t).toArray⟩, 0, 0) := by
 unfold zam
 rw [if_neg (by omega)]
 unfold zba at hq
 split at hq
 · cases hq
 · rename_i hw; rw [hw]; simp only; rw [hq]
theorem rCheck_any (s : ByteArray) (w : World) (hs : s.size <= maxLen) :
 Calls Tryz.prog 16 #[.string s] w fun e w' => e = .returned (.tuple #[.string (zam s).1, .int .i64 ((zam s).2.1 : Int), .int .i64 ((zam s).2.2 : Int)]) /\ Below w.heap.size w w' := by
 have HT : Hid (Calls Tryz.prog 22 #[.string s] w (TdPost s w)) := rTyped_any s w hs
 clear hs
 go_enter Tryz.func16, Tryz.ntmps16
 go_wp2_with fail
 refine HT.out.mono ?_
 rintro e w1 ⟨b1, ⟨hl, rfl⟩ | ⟨hl, hm⟩⟩
 · have HR : Hid (zam s = (⟨#[]⟩, 1, 0)) := zml hl
   have HB : Hid (Below w.heap.size w (w1.alloc (.cells #[.slice none 0 0] 33))) := b1.alloc b1.size _
   clear b1 hl
   go_wp2_with fail
   go_ret3
   rw [HR.out]
   exact ⟨rfl, HB.out⟩
 · cases hq : zba s with
   | error r =>
    obtain ⟨c, p⟩ := r
    rw [hq] at hm
    subst hm
    have HR : Hid (zam s = (⟨#[]⟩, c, p)) := zns hl hq
    have HB : Hid (Below w.heap.size w (w1.alloc (.cells #[.slice none 0 0] 33))) := b1.alloc b1.size _
    have hc : 1 <= c := typed_err hq
    have e1 : ((c : Int) != 0) = true := by rw [bne_iff_ne]; omega
    clear b1 hl hq
    go_wp2_with fail
    go_ret3
    rw [HR.out]
    exact ⟨rfl, HB.out⟩
   | ok t =>
    rw [hq] at hm
    obtain ⟨g, cap, F, rfl, R, hz⟩ := hm
    have HR : Hid (zam s = (⟨(formT t).toArray⟩, 0, 0)) := zlq hl hq
    have bA : Below w1.heap.size w1 (w1.alloc (tbO g (sz t) cap)) := bal w1 _
    have HB : Hid (Below w.heap.size w (w1.alloc (tbO g (sz t) cap))) := b1.trans (bA.mono b1.size)
    have HF : Hid (∀ X, Rg g t X -> Calls Tryz.prog 21 #[.agg #[.slice (some ⟨g, 0, none⟩) (sz t) cap]] X fun e w' => e = .returned (.string ⟨(formT t).toArray⟩) /\ Below X.heap.size X w') := fun X hX => form_any t g cap X hX hz
    have HRg : Hid (Rg g t (w1.alloc (tbO g (sz t) cap))) := R.below bA
    have c1 : (w1.alloc (tbO g (sz t) cap)).cell? ⟨w1.heap.size, 0, none⟩ = some (.slice (some ⟨g, 0, none⟩) (sz t) cap) := zab (heap_alloc_new w1 _)
    clear b1 hl hq R hz bA
    generalize sz t = n at *
    go_wp2_with fail
    generalize w1.alloc (tbO g n cap) = W at *
    refine (HF.out W HRg.out).mono ?_
    rintro e w2 ⟨rfl, b2⟩
    have HB2 : Hid (Below w.heap.size w w2) := HB.out.trans (b2.mono HB.out.size)
    clear b2 HF
    generalize (formT t).toArray = FT at *
    go_wp2_with fail
    go_ret3
    rw [HR.out]
    exact ⟨rfl, HB2.out⟩
end Go.Proofs.YtceadeaodbadlaaGreatDoor
namespace Go.Proofs.YtceadeaodbadlaaGreatDoor
open Go.ChangeShapes Go.WideShapes Go.ChangeAt Go.RowKit
open Go.ChangeMaps (open_string shut_string)
theorem numC_any (n : Nat) (w : World) : Calls Tryz.prog 14 #[.int .i64 (n : Int)] w fun e w' => e = .returned (.int .i64 (n : Int)) /\ w' = w := by
 go_enter Tryz.func14, Tryz.ntmps14
 go_wp2_with fail
 go_ret
 exact ⟨rfl, rfl⟩
theorem Sx.all {w w' : World} (h : Sx (w.heap.size - 10) w w') (h10 : 10 <= w.heap.size) : Below w.heap.size w w' :=
 ⟨h.os, h.tape, h.output, h.size, fun k hk => h.low k (by omega)⟩
theorem check_all (tx : Nat -> Addr) (s : ByteArray) (w : World) (g : Gs tx w) (tb : Tb w) (hs : s.size <= maxLen) :
 Calls Tryz.prog 15 #[.string s] w fun e w' => e = .returned (.tuple #[.string (zam s).1, .int .i64 ((zam s).2.1 : Int), .int .i64 ((zam s).2.2 : Int)]) /\ Below w.heap.size w w' := by
 have h10 := tb.size
 refine (check_any (lo := w.heap.size - 10) tx s w (by omega) g tb hs).mono ?_
 rintro e w' ⟨rfl, X⟩
 exact ⟨rfl, X.all h10⟩
theorem checks_any (tx : Nat -> Addr) (s : ByteArray) (w : World) (g : Gs tx w) (tb : Tb w) (hs : s.size <= maxLen) :
 Calls Tryz.prog 4 #[.string s] w fun e w' => e = .returned (.bool true) /\ Below w.heap.size w w' := by
 go_enter Tryz.func4, Tryz.ntmps4
 go_wp2_with fail
 refine (check_all tx s w g tb hs).mono ?_
 rintro e w1 ⟨rfl, hb⟩
 go_wp2_with fail
 refine (rCheck_any s w1 hs).mono ?_
 rintro e w2 ⟨rfl, hb2⟩
 generalize (zam s).1 = x
 generalize (zam s).2.1 = y
 generalize (zam s).2.2 = z
 go_wp2_with fail
 refine (numC_any y w2).mono ?_
 rintro e w3 ⟨rfl, rfl⟩
 go_wp2_with fail
 go_ret
 exact ⟨by simp, hb.trans (hb2.mono hb.size)⟩
theorem zmf (os : Os) (started : os.Started) (H : Type) (enc : TypeId × Value -> H) :
 ReturnsInHanded {} Tryz.checked os 4 .any (fun w args => (Rows.checksSpec.pre enc Tryz.prog Tryz.f4 [] false w args /\ laidMetH Tryz.prog laid9 w) /\ sizedMet enc Tryz.prog Tryz.f4 (OpenSpec.ofChange Rows.checksSpec) false w args)
  (Rows.checksSpec.post enc Tryz.prog Tryz.f4 false true false false) := by
 refine returnsInHanded_of_change_and (C := Tryz.checked) (X := fun w _ => laidMetH Tryz.prog laid9 w) (fun _ _ _ hh h => h.of_heap hh) ownK started (by kernel_rfl) Tryz.func4
  (ChangeSpec.witness_shaped (enc := enc) (C := Tryz.checked) (os := os) (X := fun w _ => laidMetH Tryz.prog laid9 w) false (World.doorLaid Tryz.prog 183 os) #[.string ⟨#[]⟩] 8 rfl (World.shaped_of_RefB (by kernel_rfl) (by kernel_rfl)) (by kernel_rfl) (by kernel_rfl) (by kernel_rfl) (door_met2 os _)) ?_
 intro W base args ds gs before hval0 hW _ _ hL _
 have hval : ∀ (j : Nat) t v, Tryz.f4.params[j]? = some t -> args[j]? = some v -> Value.okWide Tryz.prog W .any base t v := hval0
 have hW' := hW
 obtain ⟨p, q, hA0, hV, rfl, hfz, hnd⟩ := hW
 have hA : DataW.TrodAll enc Tryz.prog W 0 (fun _ => true) true Tryz.f4.params.toList args.toList ds p := hA0
 rw [Tryz.params4] at hA hval
 obtain ⟨v0, d0, rfl, rfl, h0⟩ := trodAll_one hA
 obtain ⟨rfl, rfl⟩ := trodVars_none hV
 obtain ⟨s, rfl, rfl, rfl, hs⟩ := open_string Tryz.underlying9 (hval 0 9 v0 rfl rfl) h0
 obtain ⟨⟨tx, g⟩, tb⟩ := of_laid9 hL
 clear hA0 hval0
 simp only [List.append_nil] at hW'
 have e1 : Rows.checksSpec.fn H ([.lit (.string s.data.toList)] ++ []) = { results := [.lit (.bool true)], args := [.lit (.string s.data.toList)] } := by simp [Rows.checksSpec]
 refine (checks_any tx s W g tb hs).mono fun e W' ⟨he, hb⟩ => ?_
 subst he
 refine ⟨_, rfl, _, _, _, [], [], [], hW', ?_, ?_, ?_, hb.frame _, fun h => by cases h⟩
 · rw [e1]; exact trodAll_mk1 (shut_bool Tryz.underlying4 true)
 · rw [e1]; exact trodAll_mk1 (shut_string Tryz.underlying9 hs)
 · rw [e1]; rfl
theorem checks_row : Rows.ChecksSaid :=
 OpenClaim.holds_of_wide 4 Tryz.f4 rfl rfl rfl rfl rfl rfl rfl ⟨rfl, rfl, rfl, rfl, rfl⟩ rfl rfl rfl rfl rfl (by kernel_rfl) Tryz.func4 (by kernel_rfl)
  (of_decide_eq_true (by kernel_rfl)) (by unfold Func.isWrapper; rw [if_neg (of_decide_eq_false (by kernel_rfl))]; exact ⟨rfl, rfl⟩)
  (fun os started H enc _ => zmf os started H enc)
theorem checks_holds : Rows.ChecksCardSaid :=
 Claim7.holds_tied_plain_at .later [] [.handle, .sentinel, .sentinel, .sentinel, .sentinel, .sentinel, .sentinel, .sentinel, .sentinel, .data] true Rows.checksCard.stood.harness true
  checks_row (fun _ h => by cases h) (by kernel_rfl) (fun _ h => by cases h) checks_row_tie rfl ⟨rfl, rfl⟩ (by kernel_rfl) rfl
  (fun f fn hf hfn => by
   obtain rfl : f = 4 := Option.some.inj ((show Tryz.prog.funcNamed Rows.checksRow.func = some 4 by kernel_rfl).symm.trans hf) |>.symm
   obtain rfl : fn = Tryz.f4 := (Option.some.inj (Tryz.func4.symm.trans hfn)).symm
   exact ⟨by kernel_rfl, fun j t ht => by
    rw [Tryz.params4] at ht
    have hm : t ∈ [9] := by simpa using Array.mem_of_getElem? ht
    have hall : ([9].all fun u => !Tryz.prog.wantsStandIn u) = true := by kernel_rfl
    exact (show Tryz.prog.wantsStandIn t = false by simpa using List.all_eq_true.1 hall t hm)⟩)
  (by kernel_rfl)
end Go.Proofs.YtceadeaodbadlaaGreatDoor
