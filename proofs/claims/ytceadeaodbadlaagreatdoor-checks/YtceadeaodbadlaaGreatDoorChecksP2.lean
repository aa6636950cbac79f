import Derived.Test.YtceadeaodbadlaaGreatDoorChecksP1
import Derived.Deep.RegionWith
import Derived.Deep.RegionHeld3
import Derived.Laws.ResultCell
import Derived.Lib.Bytealg
import Derived.Deep.AppendLies
set_option linter.unusedVariables false
set_option linter.unusedSimpArgs false
set_option maxRecDepth 100000
set_option maxHeartbeats 8000000
namespace Go.Proofs.YtceadeaodbadlaaGreatDoor
open Go.RowKit
def ChPost (vb : Nat) (G : World -> Mks -> Prop) (t : Ty) (u : World) (e : Ending) (w' : World) : Prop :=
 ∃ x' L' u', e = .returned x' /\ Vs vb L' u' w' /\ G u' L' /\ Below u.heap.size u u' /\ Tv u' t x'
def zdz (K : Nat) (fs cs : Array Value) (vb : Nat) (G : World -> Mks -> Prop) (t t' : Ty) : Prop :=
 ∀ (L : Mks) (u w : World) (x : Value), Tv u t x -> Vs vb L u w -> G u L -> Calls Tryz.prog K (fs.push x ++ cs) w (ChPost vb G t' u)
theorem znk {vb : Nat} {L : Mks} {u w : World} (hV : Vs vb L u w) {x y : Ty} {v v' : Value} (hx : Ok x) (hy : Ok y) (h : Tv u x v) (h' : Tv u y v') :
 ∃ c : Bool, (binOp .neq 94 v v').run Tryz.prog w = .ok (.bool (!c)) w /\ (c = true -> v = v') := by
 obtain ⟨c, hc, h1, _⟩ := eq_tv hV hx hy h h'
 refine ⟨c, ?_, h1⟩
 obtain ⟨T, z, rfl⟩ := h.iface
 obtain ⟨T', z', rfl⟩ := h'.iface
 simp only [binOp] at hc ⊢
 cases hh : (Op.equal 94 (.iface T z) (.iface T' z')).run Tryz.prog w with
 | ok b w' => simp [hh] at hc ⊢; exact ⟨by rw [hc.1], hc.2⟩
 | _ => simp [hh] at hc
theorem remade_L (K : Nat) (fs cs : Array Value) (eK : zcj K) (vb : Nat) (G : World -> Mks -> Prop) (GB : ∀ u u' L, G u L -> Below u.heap.size u u' -> G u' L) (a a' : Ty) (ha : Ok a) (ha' : Ok a') (hs : sz a' <= 4000000000000000000) (C : zdz K fs cs vb G a a')
 (L : Mks) (u w : World) (v : Value) (hv : Tv u (tL a) v) (hV : Vs vb L u w) (hG : G u L) : Calls Tryz.prog 237 #[v, .func (.func K) fs cs] w (ChPost vb G (tL a') u) := by
 have hv0 := hv
 obtain ⟨q, x, rfl, hq, hx⟩ := Tv.isL hv
 have H : Hid (Calls Tryz.prog K (fs.push x ++ cs) w (ChPost vb G a' u)) := C L u w x hx hV hG
 have c0 : w.cell? ⟨q, 0, none⟩ = some x := hV.partL hq
 have HE : Hid (∀ L' u' w' x', Vs vb L' u' w' -> G u' L' -> Below u.heap.size u u' -> Tv u' a' x' ->
  w'.cell? ⟨q, 0, none⟩ = some x /\ ∃ c : Bool, (binOp .neq 94 x' x).run Tryz.prog w' = .ok (.bool (!c)) w' /\
   (c = true -> ChPost vb G (tL a') u (.returned (viL q)) w') /\
   (∀ T z, x' = .iface T z -> Calls Tryz.prog 230 #[.iface T z] w' fun e w'' => ∃ q', e = .returned (.pointer (some ⟨q', 0, none⟩)) /\ ChPost vb G (tL a') u (.returned (viL q')) w'') /\ ∃ T z, x' = .iface T z) := by
  intro L' u' w' x' hV' hG' hb hx'
  have hq' := (hb.block q (Array.getElem?_eq_some_iff.1 hq).1).trans hq
  have hxu : Tv u' a x := hx.below hb
  obtain ⟨c, hc, hcc⟩ := znk hV' ha' ha hx' hxu
  refine ⟨hV'.partL hq', c, hc, ?_, ?_, hx'.iface⟩
  · intro e
    have e1 := hcc e
    subst e1
    have e2 := Tv.one a' a x' ha' ha hx' hxu
    subst e2
    exact ⟨_, L', u', rfl, hV', hG', hb, hv0.below hb⟩
  · rintro T z rfl
    refine (newList_raw T z (sz a') w' (hV'.counts ha' hx') hs).mono ?_
    rintro e w'' ⟨q', rfl, h1, h2, h3⟩
    obtain ⟨u'', g1, g2, g3⟩ := hV'.grow h3
    have h2' : u''.heap[q']? = some (obL (sz (tL a')) (.iface T z)) := by
     rw [g3 q' (by rw [<- hV'.size]; exact h1), h2]; simp [sz]
    exact ⟨q', rfl, _, L', u'', rfl, g1, GB _ _ _ hG' g2, hb.trans (g2.mono hb.size), Tv.L h2' (hx'.below g2)⟩
 obtain ⟨T, z, rfl⟩ := hx.iface
 have a1 := zhg
 clear C hV hG hq hx hv hv0 hs
 go_enter Tryz.func237, Tryz.ntmps237
 go_wp2_with fail
 refine H.out.mono ?_
 rintro e w1 ⟨x', L1, u1, rfl, hV1, hG1, hb1, hx1⟩
 obtain ⟨c1, c, hc, hy, hn, T', z', rfl⟩ := HE.out L1 u1 w1 x' hV1 hG1 hb1 hx1
 clear HE H hV1 hG1 hb1 hx1
 cases c with
 | true =>
  have HY : Hid (ChPost vb G (tL a') u (.returned (viL q)) w1) := hy rfl
  clear hy hn
  go_wp2_with fail
  go_ret
  exact HY.out
 | false =>
  have HN : Hid (Calls Tryz.prog 230 #[.iface T' z'] w1 fun e w'' => ∃ q', e = .returned (.pointer (some ⟨q', 0, none⟩)) /\ ChPost vb G (tL a') u (.returned (viL q')) w'') := hn T' z' rfl
  clear hy hn
  go_wp2_with fail
  refine HN.out.mono ?_
  rintro e w2 ⟨q', rfl, hp⟩
  have HP : Hid (ChPost vb G (tL a') u (.returned (viL q')) w2) := hp
  clear hp
  go_wp2_with fail
  go_ret
  exact HP.out
theorem remade_leaf {T : TypeId} (x hv : Value) (w : World) (h1 : T ≠ 256) (h2 : T ≠ 259) (h3 : T ≠ 243) :
 Calls Tryz.prog 237 #[.iface T x, hv] w fun e w' => e = .returned (.iface T x) /\ w' = w := by
 have a1 := fun w => zbg x h1 w
 have a2 := fun w => zcp x h2 w
 have a3 := fun w => zbx x h3 w
 go_enter Tryz.func237, Tryz.ntmps237
 go_wp2_with fail
 go_ret
 exact ⟨rfl, rfl⟩
theorem remade_P (K : Nat) (fs cs : Array Value) (eK : zcj K) (vb : Nat) (G : World -> Mks -> Prop) (GB : ∀ u u' L, G u L -> Below u.heap.size u u' -> G u' L) (a a' b b' : Ty) (ha : Ok a) (ha' : Ok a') (hb : Ok b) (hb' : Ok b') (hs : sz a' + sz b' <= 4000000000000000000) (C : zdz K fs cs vb G a a') (C2 : zdz K fs cs vb G b b')
 (L : Mks) (u w : World) (v : Value) (hv : Tv u (tP a b) v) (hV : Vs vb L u w) (hG : G u L) : Calls Tryz.prog 237 #[v, .func (.func K) fs cs] w (ChPost vb G (tP a' b') u) := by
 have hv0 := hv
 obtain ⟨q, x, y, rfl, hq, hx, hy⟩ := Tv.isP hv
 have H : Hid (Calls Tryz.prog K (fs.push x ++ cs) w.drew (ChPost vb G a' u)) := C L u w.drew x hx hV.drew hG
 have H2 : Hid (∀ L1 u1 w1, Vs vb L1 u1 w1 -> G u1 L1 -> Below u.heap.size u u1 -> Calls Tryz.prog K (fs.push y ++ cs) w1 (ChPost vb G b' u1)) := fun L1 u1 w1 h1 h2 h3 => C2 L1 u1 w1 y (hy.below h3) h1 h2
 have c0 : w.cell? ⟨q, 0, none⟩ = some x := hV.partP0 hq
 have c1 : w.cell? ⟨q, 1, none⟩ = some y := hV.partP1 hq
 have HC : Hid (∀ L' u' w', Vs vb L' u' w' -> Below u.heap.size u u' -> w'.cell? ⟨q, 0, none⟩ = some x /\ w'.cell? ⟨q, 1, none⟩ = some y) := fun L' u' w' h1 h2 => by
  have hq' := (h2.block q (Array.getElem?_eq_some_iff.1 hq).1).trans hq
  exact ⟨h1.partP0 hq', h1.partP1 hq'⟩
 have HE : Hid (∀ L' u' w' x' y', Vs vb L' u' w' -> G u' L' -> Below u.heap.size u u' -> Tv u' a' x' -> Tv u' b' y' ->
  ∃ c d : Bool, (binOp .neq 94 x' x).run Tryz.prog w' = .ok (.bool (!c)) w' /\ (binOp .neq 94 y' y).run Tryz.prog w' = .ok (.bool (!d)) w' /\
   (c = true -> d = true -> ChPost vb G (tP a' b') u (.returned (viP q)) w') /\
   (∀ T z S s, x' = .iface T z -> y' = .iface S s -> Calls Tryz.prog 209 #[.iface T z, .iface S s] w' fun e w'' => ∃ q', e = .returned (.pointer (some ⟨q', 0, none⟩)) /\ ChPost vb G (tP a' b') u (.returned (viP q')) w'')) := by
  intro L' u' w' x' y' hV' hG' hbb hx' hy'
  have hxu : Tv u' a x := hx.below hbb
  have hyu : Tv u' b y := hy.below hbb
  obtain ⟨c, hc, hcc⟩ := znk hV' ha' ha hx' hxu
  obtain ⟨d, hd, hdd⟩ := znk hV' hb' hb hy' hyu
  refine ⟨c, d, hc, hd, ?_, ?_⟩
  · intro e f
    have e1 := hcc e
    have f1 := hdd f
    subst e1
    subst f1
    have e2 := Tv.one a' a x' ha' ha hx' hxu
    have f2 := Tv.one b' b y' hb' hb hy' hyu
    subst e2
    subst f2
    exact ⟨_, L', u', rfl, hV', hG', hbb, hv0.below hbb⟩
  · rintro T z S s rfl rfl
    refine (zph T S z s (sz a') (sz b') w' (hV'.counts ha' hx') (hV'.counts hb' hy') hs).mono ?_
    rintro e w'' ⟨q', rfl, h1, h2, h3⟩
    obtain ⟨u'', g1, g2, g3⟩ := hV'.grow h3
    have h2' : u''.heap[q']? = some (obP (sz (tP a' b')) (.iface T z) (.iface S s)) := by
     rw [g3 q' (by rw [<- hV'.size]; exact h1), h2]; rfl
    exact ⟨q', rfl, _, L', u'', rfl, g1, GB _ _ _ hG' g2, hbb.trans (g2.mono hbb.size), Tv.P h2' (hx'.below g2) (hy'.below g2)⟩
 obtain ⟨T, z, rfl⟩ := hx.iface
 obtain ⟨S, y, rfl⟩ := hy.iface
 have a1 := fun v => zbg (T := 259) v (by decide)
 have a3 := zee
 clear C C2 hV hG hq hx hy hv hv0 hs ha ha' hb hb' GB
 go_enter Tryz.func237, Tryz.ntmps237
 go_wp2_with fail
 refine wp_region_held_drew (S := (fun wq => wq.cell? ⟨q, 0, none⟩ = some (.iface T z) /\ wq.cell? ⟨q, 1, none⟩ = some (.iface S y))) (by kernel_rfl) (⟨c0, c1⟩) (fun hS => ?_)
 refine tkS 0 (.func (.func K) fs cs) hS ?_
 refine tkS 1 (.pointer (some ⟨q, 0, none⟩)) hS ?_
 refine tkS 2 (.pointer (some ⟨q, 0, none⟩)) hS ?_
 refine tkS 3 (.pointer (some ⟨q, 0, none⟩)) hS ?_
 refine tkL 4 (.iface T z) hS ?_
 refine tkS 6 (.func (.func K) fs cs) hS ?_
 refine tkS 7 (.pointer (some ⟨q, 0, none⟩)) hS ?_
 refine tkS 8 (.pointer (some ⟨q, 0, none⟩)) hS ?_
 refine tkS 9 (.pointer (some ⟨q, 1, none⟩)) hS ?_
 refine tkL 10 (.iface S y) hS ?_
 refine rd1 5 (fun KK hK => ?_)
 (try simp only [List.getElem_toArray, List.getElem_cons_succ, List.getElem_cons_zero])
 go_simp
 go_at_fn K
 refine (H.out).mono ?_
 rintro e w1 ⟨x', L1, u1, rfl, hV1, hG1, hb1, hx1⟩
 obtain ⟨k0, k1⟩ := HC.out L1 u1 w1 hV1 hb1
 obtain ⟨Tx, zx, rfl⟩ := hx1.iface
 (try dsimp only)
 refine hK.out _ _ ⟨k0, k1⟩ (fun hS => nrm ?_)
 refine rd1 11 (fun KK hK => ?_)
 (try simp only [List.getElem_toArray, List.getElem_cons_succ, List.getElem_cons_zero])
 go_simp
 go_at_fn K
 refine (H2.out L1 u1 w1 hV1 hG1 hb1).mono ?_
 rintro e w2 ⟨y', L2, u2, rfl, hV2, hG2, hb12, hy2⟩
 have hb2 := hb1.trans (hb12.mono hb1.size)
 obtain ⟨j0, j1⟩ := HC.out L2 u2 w2 hV2 hb2
 obtain ⟨Ty, zy, rfl⟩ := hy2.iface
 have hx2 := hx1.below hb12
 (try dsimp only)
 refine hK.out _ _ ⟨j0, j1⟩ (fun hS => nrm ?_)
 refine tkS 12 (.iface Tx zx) hS ?_
 refine tkS 13 (.iface Ty zy) hS ?_
 refine wpAnyH_done (by kernel_rfl) ?_ _
 obtain ⟨c, d, hc, hd, hy, hn⟩ := HE.out L2 u2 w2 _ _ hV2 hG2 hb2 hx2 hy2
 have HN : Hid (Calls Tryz.prog 209 #[.iface Tx zx, .iface Ty zy] w2 fun e w'' => ∃ q', e = .returned (.pointer (some ⟨q', 0, none⟩)) /\ ChPost vb G (tP a' b') u (.returned (viP q')) w'') := hn Tx zx Ty zy rfl rfl
 clear HE H H2 HC hV1 hG1 hb1 hx1 hV2 hG2 hb2 hx2 hy2 hb12 hn hS c0 c1 k0 k1
 cases c with
 | true =>
  cases d with
  | true =>
   have HY : Hid (ChPost vb G (tP a' b') u (.returned (viP q)) w2) := hy rfl rfl
   clear hy HN
   go_wp2_with fail
   go_ret
   exact HY.out
  | false =>
   clear hy
   go_wp2_with fail
   refine HN.out.mono ?_
   rintro e w3 ⟨q', rfl, hp⟩
   have HP : Hid (ChPost vb G (tP a' b') u (.returned (viP q')) w3) := hp
   clear hp
   go_wp2_with fail
   go_ret
   exact HP.out
 | false =>
  clear hy
  go_wp2_with fail
  refine HN.out.mono ?_
  rintro e w3 ⟨q', rfl, hp⟩
  have HP : Hid (ChPost vb G (tP a' b') u (.returned (viP q')) w3) := hp
  clear hp
  go_wp2_with fail
  go_ret
  exact HP.out
theorem remade_F (K : Nat) (fs cs : Array Value) (eK : zcj K) (vb : Nat) (G : World -> Mks -> Prop) (GB : ∀ u u' L, G u L -> Below u.heap.size u u' -> G u' L) (a a' b b' : Ty) (ha : Ok a) (ha' : Ok a') (hb : Ok b) (hb' : Ok b') (hs : sz a' + sz b' <= 4000000000000000000) (C : zdz K fs cs vb G a a') (C2 : zdz K fs cs vb G b b')
 (L : Mks) (u w : World) (v : Value) (hv : Tv u (tF a b) v) (hV : Vs vb L u w) (hG : G u L) : Calls Tryz.prog 237 #[v, .func (.func K) fs cs] w (ChPost vb G (tF a' b') u) := by
 have hv0 := hv
 obtain ⟨q, x, y, rfl, hq, hx, hy⟩ := Tv.isF hv
 have H : Hid (Calls Tryz.prog K (fs.push x ++ cs) w.drew (ChPost vb G a' u)) := C L u w.drew x hx hV.drew hG
 have H2 : Hid (∀ L1 u1 w1, Vs vb L1 u1 w1 -> G u1 L1 -> Below u.heap.size u u1 -> Calls Tryz.prog K (fs.push y ++ cs) w1 (ChPost vb G b' u1)) := fun L1 u1 w1 h1 h2 h3 => C2 L1 u1 w1 y (hy.below h3) h1 h2
 have c0 : w.cell? ⟨q, 0, none⟩ = some x := hV.partF0 hq
 have c1 : w.cell? ⟨q, 1, none⟩ = some y := hV.partF1 hq
 have HC : Hid (∀ L' u' w', Vs vb L' u' w' -> Below u.heap.size u u' -> w'.cell? ⟨q, 0, none⟩ = some x /\ w'.cell? ⟨q, 1, none⟩ = some y) := fun L' u' w' h1 h2 => by
  have hq' := (h2.block q (Array.getElem?_eq_some_iff.1 hq).1).trans hq
  exact ⟨h1.partF0 hq', h1.partF1 hq'⟩
 have HE : Hid (∀ L' u' w' x' y', Vs vb L' u' w' -> G u' L' -> Below u.heap.size u u' -> Tv u' a' x' -> Tv u' b' y' ->
  ∃ c d : Bool, (binOp .neq 94 x' x).run Tryz.prog w' = .ok (.bool (!c)) w' /\ (binOp .neq 94 y' y).run Tryz.prog w' = .ok (.bool (!d)) w' /\
   (c = true -> d = true -> ChPost vb G (tF a' b') u (.returned (viF q)) w') /\
   (∀ T z S s, x' = .iface T z -> y' = .iface S s -> Calls Tryz.prog 160 #[.iface T z, .iface S s] w' fun e w'' => ∃ q', e = .returned (.pointer (some ⟨q', 0, none⟩)) /\ ChPost vb G (tF a' b') u (.returned (viF q')) w'')) := by
  intro L' u' w' x' y' hV' hG' hbb hx' hy'
  have hxu : Tv u' a x := hx.below hbb
  have hyu : Tv u' b y := hy.below hbb
  obtain ⟨c, hc, hcc⟩ := znk hV' ha' ha hx' hxu
  obtain ⟨d, hd, hdd⟩ := znk hV' hb' hb hy' hyu
  refine ⟨c, d, hc, hd, ?_, ?_⟩
  · intro e f
    have e1 := hcc e
    have f1 := hdd f
    subst e1
    subst f1
    have e2 := Tv.one a' a x' ha' ha hx' hxu
    have f2 := Tv.one b' b y' hb' hb hy' hyu
    subst e2
    subst f2
    exact ⟨_, L', u', rfl, hV', hG', hbb, hv0.below hbb⟩
  · rintro T z S s rfl rfl
    refine (zjf T S z s (sz a') (sz b') w' (hV'.counts ha' hx') (hV'.counts hb' hy') hs).mono ?_
    rintro e w'' ⟨q', rfl, h1, h2, h3⟩
    obtain ⟨u'', g1, g2, g3⟩ := hV'.grow h3
    have h2' : u''.heap[q']? = some (obF (sz (tF a' b')) (.iface T z) (.iface S s)) := by
     rw [g3 q' (by rw [<- hV'.size]; exact h1), h2]; rfl
    exact ⟨q', rfl, _, L', u'', rfl, g1, GB _ _ _ hG' g2, hbb.trans (g2.mono hbb.size), Tv.F h2' (hx'.below g2) (hy'.below g2)⟩
 obtain ⟨T, z, rfl⟩ := hx.iface
 obtain ⟨S, y, rfl⟩ := hy.iface
 have a1 := fun v => zbg (T := 243) v (by decide)
 have a2 := fun v => zcp (T := 243) v (by decide)
 have a3 := zbk
 clear C C2 hV hG hq hx hy hv hv0 hs ha ha' hb hb' GB
 go_enter Tryz.func237, Tryz.ntmps237
 go_wp2_with fail
 refine wp_region_held_drew (S := (fun wq => wq.cell? ⟨q, 0, none⟩ = some (.iface T z) /\ wq.cell? ⟨q, 1, none⟩ = some (.iface S y))) (by kernel_rfl) (⟨c0, c1⟩) (fun hS => ?_)
 refine tkS 0 (.func (.func K) fs cs) hS ?_
 refine tkS 1 (.pointer (some ⟨q, 0, none⟩)) hS ?_
 refine tkS 2 (.pointer (some ⟨q, 0, none⟩)) hS ?_
 refine tkS 3 (.pointer (some ⟨q, 0, none⟩)) hS ?_
 refine tkL 4 (.iface T z) hS ?_
 refine tkS 6 (.func (.func K) fs cs) hS ?_
 refine tkS 7 (.pointer (some ⟨q, 0, none⟩)) hS ?_
 refine tkS 8 (.pointer (some ⟨q, 0, none⟩)) hS ?_
 refine tkS 9 (.pointer (some ⟨q, 1, none⟩)) hS ?_
 refine tkL 10 (.iface S y) hS ?_
 refine rd1 5 (fun KK hK => ?_)
 (try simp only [List.getElem_toArray, List.getElem_cons_succ, List.getElem_cons_zero])
 go_simp
 go_at_fn K
 refine (H.out).mono ?_
 rintro e w1 ⟨x', L1, u1, rfl, hV1, hG1, hb1, hx1⟩
 obtain ⟨k0, k1⟩ := HC.out L1 u1 w1 hV1 hb1
 obtain ⟨Tx, zx, rfl⟩ := hx1.iface
 (try dsimp only)
 refine hK.out _ _ ⟨k0, k1⟩ (fun hS => nrm ?_)
 refine rd1 11 (fun KK hK => ?_)
 (try simp only [List.getElem_toArray, List.getElem_cons_succ, List.getElem_cons_zero])
 go_simp
 go_at_fn K
 refine (H2.out L1 u1 w1 hV1 hG1 hb1).mono ?_
 rintro e w2 ⟨y', L2, u2, rfl, hV2, hG2, hb12, hy2⟩
 have hb2 := hb1.trans (hb12.mono hb1.size)
 obtain ⟨j0, j1⟩ := HC.out L2 u2 w2 hV2 hb2
 obtain ⟨Ty, zy, rfl⟩ := hy2.iface
 have hx2 := hx1.below hb12
 (try dsimp only)
 refine hK.out _ _ ⟨j0, j1⟩ (fun hS => nrm ?_)
 refine tkS 12 (.iface Tx zx) hS ?_
 refine tkS 13 (.iface Ty zy) hS ?_
 refine wpAnyH_done (by kernel_rfl) ?_ _
 obtain ⟨c, d, hc, hd, hy, hn⟩ := HE.out L2 u2 w2 _ _ hV2 hG2 hb2 hx2 hy2
 have HN : Hid (Calls Tryz.prog 160 #[.iface Tx zx, .iface Ty zy] w2 fun e w'' => ∃ q', e = .returned (.pointer (some ⟨q', 0, none⟩)) /\ ChPost vb G (tF a' b') u (.returned (viF q')) w'') := hn Tx zx Ty zy rfl rfl
 clear HE H H2 HC hV1 hG1 hb1 hx1 hV2 hG2 hb2 hx2 hy2 hb12 hn hS c0 c1 k0 k1
 cases c with
 | true =>
  cases d with
  | true =>
   have HY : Hid (ChPost vb G (tF a' b') u (.returned (viF q)) w2) := hy rfl rfl
   clear hy HN
   go_wp2_with fail
   go_ret
   exact HY.out
  | false =>
   clear hy
   go_wp2_with fail
   refine HN.out.mono ?_
   rintro e w3 ⟨q', rfl, hp⟩
   have HP : Hid (ChPost vb G (tF a' b') u (.returned (viF q')) w3) := hp
   clear hp
   go_wp2_with fail
   go_ret
   exact HP.out
 | false =>
  clear hy
  go_wp2_with fail
  refine HN.out.mono ?_
  rintro e w3 ⟨q', rfl, hp⟩
  have HP : Hid (ChPost vb G (tF a' b') u (.returned (viF q')) w3) := hp
  clear hp
  go_wp2_with fail
  go_ret
  exact HP.out
structure GoodF (F : Ty -> Ty) (G : World -> Mks -> Prop) : Prop where
 bel : ∀ u u' L, G u L -> Below u.heap.size u u' -> G u' L
 mark : ∀ u L q k v t x, G u L -> Ok t -> Tv u t v -> NdV v q k -> Tv u (F t) x -> G u ((q, k, x) :: L)
 remark : ∀ u L q k v t x, G u L -> Ok t -> Tv u t v -> NdV v q k -> Tv u (F t) x -> G u (upd q x L)
 found : ∀ u L q k f v t, G u L -> (q, k, f) ∈ L -> Ok t -> Tv u t v -> NdV v q k -> Tv u (F t) f
theorem remake_leaf {v : Value} (lf : Leaf v) (vb : Nat) (hf : Value) (w : World) 
 (R : Calls Tryz.prog 237 #[v, hf] w fun e w' => e = .returned v /\ w' = w) :
 Calls Tryz.prog 228 #[.pointer (some ⟨vb, 0, none⟩), v, hf] w fun e w' => e = .returned v /\ w' = w := by
 have A := at_leaf vb w lf
 have K := zoh vb v w lf
 obtain ⟨T, x, rfl⟩ := lf.iface
 clear lf
 go_enter Tryz.func228, Tryz.ntmps228
 go_wp2_with fail
 refine A.mono ?_
 rintro e w' ⟨rfl, rfl⟩
 go_wp2_with fail
 refine R.mono ?_
 rintro e w' ⟨rfl, rfl⟩
 go_wp2_with fail
 refine K.mono ?_
 rintro e w' ⟨rfl, rfl⟩
 go_wp2_with fail
 go_ret
 exact ⟨rfl, rfl⟩
theorem zfy {F : Ty -> Ty} {G : World -> Mks -> Prop} (gf : GoodF F G) (vb : Nat) (hf : Value) {t : Ty} (ht : Ok t) (L : Mks) (u w : World) (v : Value) (q k : Nat) (o : Obj) (nv : NdV v q k) (hq : u.heap[q]? = some o) (hn : isNd o k) (hv : Tv u t v) (hV : Vs vb L u w) (hG : G u L)
 (R : Calls Tryz.prog 237 #[v, hf] w (ChPost vb G (F t) u)) :
 Calls Tryz.prog 228 #[.pointer (some ⟨vb, 0, none⟩), v, hf] w (ChPost vb G (F t) u) := by
 have A := at_nd vb (fnd L q) w nv (hV.found hq hn)
 by_cases hin : q ∈ L.map (·.1)
 · obtain ⟨k', hm⟩ := fnd_in hin
   obtain ⟨⟨o', ho', hn'⟩, T1, x1, e1⟩ := hV.nds _ hm
   simp only at ho' hn' e1
   rw [hq] at ho'
   obtain rfl := Option.some.inj ho'
   obtain rfl := hn.one hn'
   have HP : Hid (ChPost vb G (F t) u (.returned (fnd L q)) w) := ⟨_, L, u, rfl, hV, hG, Below.refl _ _, gf.found u L q k _ v t hG hm ht hv nv⟩
   rw [e1] at A HP
   obtain ⟨T, x, rfl⟩ := nv.iface
   clear R hV hG hv nv hq hn hm e1
   go_enter Tryz.func228, Tryz.ntmps228
   go_wp2_with fail
   refine A.mono ?_
   rintro e w' ⟨rfl, rfl⟩
   go_wp2_with fail
   go_ret
   exact HP.out
 · rw [zmc hin] at A
   have HK : Hid (∀ L1 u1 w1 T x, Vs vb L1 u1 w1 -> G u1 L1 -> Below u.heap.size u u1 -> Tv u1 (F t) (.iface T x) -> Calls Tryz.prog 223 #[.pointer (some ⟨vb, 0, none⟩), v, .iface T x] w1 fun e w2 => e = .returned (.tuple #[]) /\ ChPost vb G (F t) u (.returned (.iface T x)) w2) := by
    intro L1 u1 w1 T x hV1 hG1 hb hx
    have hq1 := (hb.block q (Array.getElem?_eq_some_iff.1 hq).1).trans hq
    have hv1 := hv.below hb
    by_cases hi : q ∈ L1.map (·.1)
    · refine (zlw nv hV1 hq1 hn hi T x).mono ?_
      rintro e w2 ⟨rfl, hV2⟩
      exact ⟨rfl, _, _, u1, rfl, hV2, gf.remark u1 L1 q k v t _ hG1 ht hv1 nv hx, hb, hx⟩
    · refine (zmt nv hV1 hq1 hn hi T x).mono ?_
      rintro e w2 ⟨rfl, hV2⟩
      exact ⟨rfl, _, _, u1, rfl, hV2, gf.mark u1 L1 q k v t _ hG1 ht hv1 nv hx, hb, hx⟩
   have HR : Hid (Calls Tryz.prog 237 #[v, hf] w (ChPost vb G (F t) u)) := R
   obtain ⟨T, x, rfl⟩ := nv.iface
   clear R hV hG hv nv hq hn
   go_enter Tryz.func228, Tryz.ntmps228
   go_wp2_with fail
   refine A.mono ?_
   rintro e w' ⟨rfl, rfl⟩
   go_wp2_with fail
   refine HR.out.mono ?_
   rintro e w1 ⟨x', L1, u1, rfl, hV1, hG1, hb1, hx1⟩
   obtain ⟨T', z', rfl⟩ := hx1.iface
   have K := HK.out L1 u1 w1 T' z' hV1 hG1 hb1 hx1
   clear HK HR hV1 hG1 hb1 hx1
   go_wp2_with fail
   refine K.mono ?_
   rintro e w2 ⟨rfl, hp⟩
   have HP : Hid (ChPost vb G (F t) u (.returned (.iface T' z')) w2) := hp
   clear hp
   go_wp2_with fail
   go_ret
   exact HP.out
theorem look_zip_at {o : Nat} {t : Ty} : ∀ {vars : List Nat} {gs : List Ty}, o ∈ vars -> gs[idxOf o vars]? = some t -> look (vars.zip gs) o = some t := by
 intro vars
 induction vars with
 | nil => intro gs h; simp at h
 | cons p vars ih =>
  intro gs h hg
  cases gs with
  | nil => simp at hg
  | cons g gs =>
   simp only [List.zip_cons_cons, look]
   by_cases hp : p = o
   · rw [if_pos hp]; rw [idxOf, if_pos hp] at hg; simpa using hg
   · rw [if_neg hp]
     rw [idxOf, if_neg hp] at hg
     exact ih (by rcases List.mem_cons.1 h with h | h; exact absurd h.symm hp; exact h) (by simpa using hg)
theorem zow {o : Nat} : ∀ {vars : List Nat} {gs : List Ty}, o ∉ vars -> look (vars.zip gs) o = none := by
 intro vars
 induction vars with
 | nil => intro gs _; rfl
 | cons p vars ih =>
  intro gs h
  simp only [List.mem_cons, not_or] at h
  cases gs with
  | nil => rfl
  | cons g gs =>
   simp only [List.zip_cons_cons, look]
   rw [if_neg (fun e => h.1 e.symm)]
   exact ih h.2
structure PG (pb : Nat) (vars : List Nat) (gs : List Ty) (V Gs : Value) (u : World) (L : Mks) : Prop where
 blk : ∃ x, u.heap[pb]? = some (.cells #[x, V, Gs] 341 (0, 0))
 vr : VarRow u V vars
 tr : TypRow u Gs gs
 gd : ∀ q k f, (q, k, f) ∈ L -> ∃ t v, Ok t /\ NdV v q k /\ Tv u t v /\ Tv u (putT vars gs t) f
theorem nd_obj {u : World} {t : Ty} {v : Value} {q k : Nat} (h : Tv u t v) (nv : NdV v q k) : ∃ o, u.heap[q]? = some o /\ isNd o k := by
 rcases nv with ⟨rfl, rfl⟩ | ⟨rfl, rfl⟩ | ⟨rfl, rfl⟩
 · obtain ⟨n, x, hq⟩ := h.atL; exact ⟨_, hq, ndL _ _⟩
 · obtain ⟨n, x, y, hq⟩ := h.atP; exact ⟨_, hq, ndP _ _ _⟩
 · obtain ⟨n, x, y, hq⟩ := h.atF; exact ⟨_, hq, ndF _ _ _⟩
theorem nd_same {u : World} {t t' : Ty} {v v' : Value} {q k k' : Nat} (h : Tv u t v) (h' : Tv u t' v') (nv : NdV v q k) (nv' : NdV v' q k') : k = k' := by
 obtain ⟨o, ho, hn⟩ := nd_obj h nv
 obtain ⟨o', ho', hn'⟩ := nd_obj h' nv'
 rw [ho] at ho'
 obtain rfl := Option.some.inj ho'
 exact hn.one hn'
theorem pg_good (pb : Nat) (vars : List Nat) (gs : List Ty) (V Gs : Value) : GoodF (putT vars gs) (PG pb vars gs V Gs) := by
 refine ⟨?_, ?_, ?_, ?_⟩
 · intro u u' L h hb
   obtain ⟨x, hx⟩ := h.blk
   refine ⟨⟨x, (hb.block pb (Array.getElem?_eq_some_iff.1 hx).1).trans hx⟩, h.vr.below hb, h.tr.below hb, fun q k f hm => ?_⟩
   obtain ⟨t, v, h1, h2, h3, h4⟩ := h.gd q k f hm
   exact ⟨t, v, h1, h2, h3.below hb, h4.below hb⟩
 · intro u L q k v t x h ht hv nv hx
   refine ⟨h.blk, h.vr, h.tr, fun q' k' f hm => ?_⟩
   rcases List.mem_cons.1 hm with e | hm
   · injection e with e1 e2
     injection e2 with e2 e3
     subst e1; subst e2; subst e3
     exact ⟨t, v, ht, nv, hv, hx⟩
   · exact h.gd q' k' f hm
 · intro u L q k v t x h ht hv nv hx
   refine ⟨h.blk, h.vr, h.tr, fun q' k' f hm => ?_⟩
   rcases zlz hm with hm' | ⟨e1, e2, g, hm'⟩
   · exact h.gd q' k' f hm'
   · simp only at e1 e2 hm'
     clear hm
     subst e1
     subst e2
     obtain ⟨t', v', h1, h2, h3, h4⟩ := h.gd _ _ _ hm'
     obtain rfl := nd_same hv h3 nv h2
     exact ⟨t, v, ht, nv, hv, hx⟩
 · intro u L q k f v t h hm ht hv nv
   obtain ⟨t', v', h1, h2, h3, h4⟩ := h.gd q k f hm
   have e := zmg hv h3 nv h2
   subst e
   rw [Tv.one t t' v ht h1 hv h3]
   exact h4
theorem PG.cells {pb : Nat} {vars : List Nat} {gs : List Ty} {V Gs : Value} {u w : World} {L : Mks} (h : PG pb vars gs V Gs u L) (hV : Vs pb L u w) : w.cell? ⟨pb, 1, none⟩ = some V /\ w.cell? ⟨pb, 2, none⟩ = some Gs := by
 obtain ⟨x, hx⟩ := h.blk
 obtain ⟨T, r, x0, _, h1, h2⟩ := hV.vis
 rw [hx] at h1
 simp at h1
 obtain ⟨⟨rfl, rfl⟩, rfl⟩ := h1
 exact ⟨by rw [Lib.cell_of_heap h2]; rfl, by rw [Lib.cell_of_heap h2]; rfl⟩
theorem PG.rows {pb : Nat} {vars : List Nat} {gs : List Ty} {V Gs : Value} {u w : World} {L : Mks} (h : PG pb vars gs V Gs u L) (hV : Vs pb L u w) : VarRow w V vars := by
 obtain ⟨x, hx⟩ := h.blk
 refine h.vr.of fun g c hg => hV.other hg (by simp [VisT]) ?_
 rintro rfl
 rw [hx] at hg
 simp at hg
theorem PG.given {pb : Nat} {vars : List Nat} {gs : List Ty} {V Gs : Value} {u w : World} {L : Mks} (h : PG pb vars gs V Gs u L) (hV : Vs pb L u w) {i : Nat} {t : Ty} (hi : gs[i]? = some t) :
 ∃ g cap x, Gs = .slice (some ⟨g, 0, none⟩) gs.length cap /\ w.cell? ⟨g, i, none⟩ = some x /\ Ok t /\ Tv u t x := by
 obtain ⟨x0, hx0⟩ := h.blk
 obtain ⟨sa, cap, rfl, hr⟩ := h.tr
 rcases hr with rfl | ⟨g, c, rfl, hg, hc⟩
 · simp at hi
 · obtain ⟨x, h1, h2, h3⟩ := hc i t hi
   have hw := hV.other hg (by simp [VisT]) (by rintro rfl; rw [hx0] at hg; simp at hg)
   exact ⟨g, cap, x, rfl, by rw [Lib.cell_of_heap hw]; exact h1, h2, h3⟩
theorem inPlace_in (pb : Nat) (vars : List Nat) (gs : List Ty) (V Gs : Value) (hlen : vars.length = gs.length) (hl : vars.length <= 1000000) (L : Mks) (u w : World) (o : Nat) (hV : Vs pb L u w) (hG : PG pb vars gs V Gs u L) (ho : o ∈ vars) :
 Calls Tryz.prog 239 #[.pointer (some ⟨pb, 0, none⟩), kv o] w (ChPost pb (PG pb vars gs V Gs) (putT vars gs (tV o)) u) := by
 have B0 : Below w.heap.size w (w.alloc (.cells #[.int .u8 ((o / 10 : Nat) : Int), .int .u8 ((o % 10 : Nat) : Int)] 263)) := bal w _
 have hlt : pb < w.heap.size := by obtain ⟨T, r, x0, _, _, h2⟩ := hV.vis; exact (Array.getElem?_eq_some_iff.1 h2).1
 obtain ⟨c1, _⟩ := hG.cells hV
 have IX : Hid (Calls Tryz.prog 244 #[V, kv o] (w.alloc (.cells #[.int .u8 ((o / 10 : Nat) : Int), .int .u8 ((o % 10 : Nat) : Int)] 263)).drew fun e w' => e = .returned (.int .i64 (idxI o vars)) /\ Below (w.alloc (.cells #[.int .u8 ((o / 10 : Nat) : Int), .int .u8 ((o % 10 : Nat) : Int)] 263)).drew.heap.size (w.alloc (.cells #[.int .u8 ((o / 10 : Nat) : Int), .int .u8 ((o % 10 : Nat) : Int)] 263)).drew w') := znl V vars o _ ((hG.rows hV).below B0.drew) hl
 have e1 : (w.alloc (.cells #[.int .u8 ((o / 10 : Nat) : Int), .int .u8 ((o % 10 : Nat) : Int)] 263)).cell? ⟨pb, 1, none⟩ = some V := by rw [World.cell?_alloc_lt _ _ ⟨pb, 1, none⟩ hlt]; exact c1
 have d0 : (w.alloc (.cells #[.int .u8 ((o / 10 : Nat) : Int), .int .u8 ((o % 10 : Nat) : Int)] 263)).cell? ⟨w.heap.size, 0, none⟩ = some (.int .u8 ((o / 10 : Nat) : Int)) := by simp
 have d1 : (w.alloc (.cells #[.int .u8 ((o / 10 : Nat) : Int), .int .u8 ((o % 10 : Nat) : Int)] 263)).cell? ⟨w.heap.size, 1, none⟩ = some (.int .u8 ((o % 10 : Nat) : Int)) := by simp
 have HB : Hid (∀ w1, Below (w.alloc (.cells #[.int .u8 ((o / 10 : Nat) : Int), .int .u8 ((o % 10 : Nat) : Int)] 263)).drew.heap.size (w.alloc (.cells #[.int .u8 ((o / 10 : Nat) : Int), .int .u8 ((o % 10 : Nat) : Int)] 263)).drew w1 -> w1.cell? ⟨pb, 1, none⟩ = some V /\ w1.cell? ⟨w.heap.size, 0, none⟩ = some (.int .u8 ((o / 10 : Nat) : Int)) /\ w1.cell? ⟨w.heap.size, 1, none⟩ = some (.int .u8 ((o % 10 : Nat) : Int))) := fun w1 hb =>
  ⟨(hb.cell (p := ⟨pb, 1, none⟩) (by show pb < _; simp; omega)).trans e1, (hb.cell (p := ⟨w.heap.size, 0, none⟩) (by show w.heap.size < _; simp)).trans d0, (hb.cell (p := ⟨w.heap.size, 1, none⟩) (by show w.heap.size < _; simp)).trans d1⟩
 have hlt2 : idxOf o vars < gs.length := by rw [<- hlen]; exact (List.getElem?_eq_some_iff.1 (zmj vars o ho).1).1
 obtain ⟨t, hgi⟩ : ∃ t, gs[idxOf o vars]? = some t := ⟨_, List.getElem?_eq_getElem hlt2⟩
 have hput : putT vars gs (tV o) = t := by simp [putT, sub, look_zip_at ho hgi]
 have hI : idxI o vars = (idxOf o vars : Int) := by unfold idxI; rw [if_pos ho]
 rw [hI] at IX
 rw [hput]
 have HF : Hid (∀ w1, Below (w.alloc (.cells #[.int .u8 ((o / 10 : Nat) : Int), .int .u8 ((o % 10 : Nat) : Int)] 263)).drew.heap.size (w.alloc (.cells #[.int .u8 ((o / 10 : Nat) : Int), .int .u8 ((o % 10 : Nat) : Int)] 263)).drew w1 -> ∃ g cap T z, Gs = .slice (some ⟨g, 0, none⟩) gs.length cap /\ w1.cell? ⟨pb, 2, none⟩ = some (.slice (some ⟨g, 0, none⟩) gs.length cap) /\ w1.cell? ⟨g, idxOf o vars, none⟩ = some (.iface T z) /\ ChPost pb (PG pb vars gs V Gs) t u (.returned (.iface T z)) w1) := by
  intro w1 hb
  have hb1 : Below w.heap.size w w1 := B0.trans (Below.mono (show Below (w.alloc (.cells #[.int .u8 ((o / 10 : Nat) : Int), .int .u8 ((o % 10 : Nat) : Int)] 263)).heap.size (w.alloc (.cells #[.int .u8 ((o / 10 : Nat) : Int), .int .u8 ((o % 10 : Nat) : Int)] 263)) w1 from ⟨hb.os, hb.tape, hb.output, hb.size, hb.block⟩) (by simp))
  obtain ⟨u1, hV1, bu, _⟩ := hV.grow hb1
  have hG1 := (pg_good pb vars gs V Gs).bel _ _ _ hG bu
  obtain ⟨g, cap, x, e, h1, h2, h3⟩ := hG1.given hV1 hgi
  obtain ⟨T, z, rfl⟩ := h3.iface
  refine ⟨g, cap, T, z, e, by rw [(hG1.cells hV1).2, e], h1, _, L, u1, rfl, hV1, hG1, bu, h3⟩
 generalize idxOf o vars = i at *
 have hig : i < gs.length := hlt2
 generalize gs.length = gl at *
 obtain ⟨sa, cap0, rfl, _⟩ : ∃ sa cap, V = .slice sa vars.length cap /\ True := by obtain ⟨sa, cap, h, _⟩ := hG.vr; exact ⟨sa, cap, h, trivial⟩
 clear hV hG hput hI ho hlen hl c1
 generalize vars.length = vl at *
 unfold kv at *
 generalize ((o / 10 : Nat) : Int) = x at *
 generalize ((o % 10 : Nat) : Int) = y at *
 go_enter Tryz.func239, Tryz.ntmps239
 go_wp2_with fail
 refine wp_region_held_drew (S := (fun wq => wq.cell? ⟨pb, 1, none⟩ = some (.slice sa vl cap0) /\ wq.cell? ⟨w.heap.size, 0, none⟩ = some (.int .u8 x) /\ wq.cell? ⟨w.heap.size, 1, none⟩ = some (.int .u8 y))) (by kernel_rfl) (⟨e1, d0, d1⟩) (fun hS => ?_)
 refine tkS 0 (.pointer (some ⟨pb, 0, none⟩)) hS ?_
 refine tkS 1 (.pointer (some ⟨pb, 0, none⟩)) hS ?_
 refine tkS 2 (.pointer (some ⟨pb, 1, none⟩)) hS ?_
 refine tkL 3 (.slice sa vl cap0) hS ?_
 refine tkL 4 (.agg #[.int .u8 x, .int .u8 y]) hS ?_
 refine rd1 5 (fun KK hK => ?_)
 (try simp only [List.getElem_toArray, List.getElem_cons_succ, List.getElem_cons_zero])
 go_simp
 go_at_call 244
 refine (IX.out).mono ?_
 rintro e w1 ⟨rfl, hb1⟩
 obtain ⟨k1, k2, k3⟩ := HB.out w1 hb1
 (try dsimp only)
 refine hK.out _ _ ⟨k1, k2, k3⟩ (fun hS => nrm ?_)
 refine tkS 6 (.int .i64 (i : Int)) hS ?_
 refine wpAnyH_done (by kernel_rfl) ?_ _
 obtain ⟨g, cap, T, z, _, p2, p3, hp⟩ := HF.out w1 hb1
 have HP : Hid _ := hp
 clear HF HB IX hp hS
 go_wp2_with fail
 go_ret
 exact HP.out
theorem inPlace_not (pb : Nat) (vars : List Nat) (gs : List Ty) (V Gs : Value) (hlen : vars.length = gs.length) (hl : vars.length <= 1000000) (L : Mks) (u w : World) (o : Nat) (hV : Vs pb L u w) (hG : PG pb vars gs V Gs u L) (ho : o ∉ vars) :
 Calls Tryz.prog 239 #[.pointer (some ⟨pb, 0, none⟩), kv o] w (ChPost pb (PG pb vars gs V Gs) (putT vars gs (tV o)) u) := by
 have B0 : Below w.heap.size w (w.alloc (.cells #[.int .u8 ((o / 10 : Nat) : Int), .int .u8 ((o % 10 : Nat) : Int)] 263)) := bal w _
 have hlt : pb < w.heap.size := by obtain ⟨T, r, x0, _, _, h2⟩ := hV.vis; exact (Array.getElem?_eq_some_iff.1 h2).1
 obtain ⟨c1, _⟩ := hG.cells hV
 have IX : Hid (Calls Tryz.prog 244 #[V, kv o] (w.alloc (.cells #[.int .u8 ((o / 10 : Nat) : Int), .int .u8 ((o % 10 : Nat) : Int)] 263)).drew fun e w' => e = .returned (.int .i64 (idxI o vars)) /\ Below (w.alloc (.cells #[.int .u8 ((o / 10 : Nat) : Int), .int .u8 ((o % 10 : Nat) : Int)] 263)).drew.heap.size (w.alloc (.cells #[.int .u8 ((o / 10 : Nat) : Int), .int .u8 ((o % 10 : Nat) : Int)] 263)).drew w') := znl V vars o _ ((hG.rows hV).below B0.drew) hl
 have e1 : (w.alloc (.cells #[.int .u8 ((o / 10 : Nat) : Int), .int .u8 ((o % 10 : Nat) : Int)] 263)).cell? ⟨pb, 1, none⟩ = some V := by rw [World.cell?_alloc_lt _ _ ⟨pb, 1, none⟩ hlt]; exact c1
 have d0 : (w.alloc (.cells #[.int .u8 ((o / 10 : Nat) : Int), .int .u8 ((o % 10 : Nat) : Int)] 263)).cell? ⟨w.heap.size, 0, none⟩ = some (.int .u8 ((o / 10 : Nat) : Int)) := by simp
 have d1 : (w.alloc (.cells #[.int .u8 ((o / 10 : Nat) : Int), .int .u8 ((o % 10 : Nat) : Int)] 263)).cell? ⟨w.heap.size, 1, none⟩ = some (.int .u8 ((o % 10 : Nat) : Int)) := by simp
 have HB : Hid (∀ w1, Below (w.alloc (.cells #[.int .u8 ((o / 10 : Nat) : Int), .int .u8 ((o % 10 : Nat) : Int)] 263)).drew.heap.size (w.alloc (.cells #[.int .u8 ((o / 10 : Nat) : Int), .int .u8 ((o % 10 : Nat) : Int)] 263)).drew w1 -> w1.cell? ⟨pb, 1, none⟩ = some V /\ w1.cell? ⟨w.heap.size, 0, none⟩ = some (.int .u8 ((o / 10 : Nat) : Int)) /\ w1.cell? ⟨w.heap.size, 1, none⟩ = some (.int .u8 ((o % 10 : Nat) : Int))) := fun w1 hb =>
  ⟨(hb.cell (p := ⟨pb, 1, none⟩) (by show pb < _; simp; omega)).trans e1, (hb.cell (p := ⟨w.heap.size, 0, none⟩) (by show w.heap.size < _; simp)).trans d0, (hb.cell (p := ⟨w.heap.size, 1, none⟩) (by show w.heap.size < _; simp)).trans d1⟩
 have hput : putT vars gs (tV o) = tV o := by simp [putT, sub, zow ho]
 have hI : idxI o vars = -1 := by unfold idxI; rw [if_neg ho]
 rw [hI] at IX
 rw [hput]
 have HF : Hid (∀ w1, Below (w.alloc (.cells #[.int .u8 ((o / 10 : Nat) : Int), .int .u8 ((o % 10 : Nat) : Int)] 263)).drew.heap.size (w.alloc (.cells #[.int .u8 ((o / 10 : Nat) : Int), .int .u8 ((o % 10 : Nat) : Int)] 263)).drew w1 -> ChPost pb (PG pb vars gs V Gs) (tV o) u (.returned (viV o)) w1) := by
  intro w1 hb
  have hb1 : Below w.heap.size w w1 := B0.trans (Below.mono (show Below (w.alloc (.cells #[.int .u8 ((o / 10 : Nat) : Int), .int .u8 ((o % 10 : Nat) : Int)] 263)).heap.size (w.alloc (.cells #[.int .u8 ((o / 10 : Nat) : Int), .int .u8 ((o % 10 : Nat) : Int)] 263)) w1 from ⟨hb.os, hb.tape, hb.output, hb.size, hb.block⟩) (by simp))
  obtain ⟨u1, hV1, bu, _⟩ := hV.grow hb1
  exact ⟨_, L, u1, rfl, hV1, (pg_good pb vars gs V Gs).bel _ _ _ hG bu, bu, Tv.V u1 o⟩
 unfold viV at HF
 obtain ⟨sa, cap0, rfl, _⟩ : ∃ sa cap, V = .slice sa vars.length cap /\ True := by obtain ⟨sa, cap, h, _⟩ := hG.vr; exact ⟨sa, cap, h, trivial⟩
 clear hV hG hput hI ho hlen hl c1
 generalize vars.length = vl at *
 unfold kv at *
 generalize ((o / 10 : Nat) : Int) = x at *
 generalize ((o % 10 : Nat) : Int) = y at *
 go_enter Tryz.func239, Tryz.ntmps239
 go_wp2_with fail
 refine wp_region_held_drew (S := (fun wq => wq.cell? ⟨pb, 1, none⟩ = some (.slice sa vl cap0) /\ wq.cell? ⟨w.heap.size, 0, none⟩ = some (.int .u8 x) /\ wq.cell? ⟨w.heap.size, 1, none⟩ = some (.int .u8 y))) (by kernel_rfl) (⟨e1, d0, d1⟩) (fun hS => ?_)
 refine tkS 0 (.pointer (some ⟨pb, 0, none⟩)) hS ?_
 refine tkS 1 (.pointer (some ⟨pb, 0, none⟩)) hS ?_
 refine tkS 2 (.pointer (some ⟨pb, 1, none⟩)) hS ?_
 refine tkL 3 (.slice sa vl cap0) hS ?_
 refine tkL 4 (.agg #[.int .u8 x, .int .u8 y]) hS ?_
 refine rd1 5 (fun KK hK => ?_)
 (try simp only [List.getElem_toArray, List.getElem_cons_succ, List.getElem_cons_zero])
 go_simp
 go_at_call 244
 refine (IX.out).mono ?_
 rintro e w1 ⟨rfl, hb1⟩
 obtain ⟨k1, k2, k3⟩ := HB.out w1 hb1
 (try dsimp only)
 refine hK.out _ _ ⟨k1, k2, k3⟩ (fun hS => nrm ?_)
 refine tkS 6 (.int .i64 (-1)) hS ?_
 refine wpAnyH_done (by kernel_rfl) ?_ _
 have HP := HF.out w1 hb1
 clear HF HB IX hS
 go_wp2_with fail
 go_ret
 exact HP
theorem ChPost.back {vb : Nat} {G : World -> Mks -> Prop} {t : Ty} {u u1 : World} {e : Ending} {w' : World} (hb : Below u.heap.size u u1) (h : ChPost vb G t u1 e w') : ChPost vb G t u e w' := by
 obtain ⟨x, L, u2, h1, h2, h3, h4, h5⟩ := h
 exact ⟨x, L, u2, h1, h2, h3, hb.trans (h4.mono hb.size), h5⟩
theorem zfz : zcj 233 := enters_of Tryz.func233 (by kernel_rfl) rfl
theorem zjz (a b : Value) : (#[a] : Array Value).push b ++ #[] = #[a, b] := by simp
abbrev pfn (pb : Nat) : Value := .func (.func 233) #[.pointer (some ⟨pb, 0, none⟩)] #[]
abbrev zvb : Obj := .cells #[.int .u8 0, .int .u8 0] 263
theorem put_var (pb : Nat) (o : Nat) (w : World) (Q : Ending -> World -> Prop) (x' : Value -> Prop)
 (H : Calls Tryz.prog 239 #[.pointer (some ⟨pb, 0, none⟩), kv o] (w.alloc (.cells #[.int .u8 ((o / 10 : Nat) : Int), .int .u8 ((o % 10 : Nat) : Int)] 263)) fun e w' => ∃ r, e = .returned r /\ Q (.returned r) w') :
 Calls Tryz.prog 233 #[.pointer (some ⟨pb, 0, none⟩), viV o] w fun e w' => ∃ r, e = .returned r /\ Q (.returned r) w' := by
 have HH : Hid (Calls Tryz.prog 239 #[.pointer (some ⟨pb, 0, none⟩), kv o] (w.alloc (.cells #[.int .u8 ((o / 10 : Nat) : Int), .int .u8 ((o % 10 : Nat) : Int)] 263)) fun e w' => ∃ r, e = .returned r /\ Q (.returned r) w') := H
 clear H
 have a1 := zfw
 unfold viV
 unfold kv at *
 generalize ((o / 10 : Nat) : Int) = x at *
 generalize ((o % 10 : Nat) : Int) = y at *
 go_enter Tryz.func233, Tryz.ntmps233
 go_wp2_with fail
 refine HH.out.mono ?_
 rintro e w1 ⟨r, rfl, hq⟩
 have HQ : Hid (Q (.returned r) w1) := hq
 clear hq
 go_wp2_with fail
 go_ret
 exact ⟨_, rfl, HQ.out⟩
theorem put_other (pb : Nat) (T : TypeId) (z : Value) (hT : T ≠ 263) (w : World) (Q : Ending -> World -> Prop)
 (H : Calls Tryz.prog 228 #[.pointer (some ⟨pb, 0, none⟩), .iface T z, pfn pb] (w.alloc zvb) fun e w' => ∃ r, e = .returned r /\ Q (.returned r) w') :
 Calls Tryz.prog 233 #[.pointer (some ⟨pb, 0, none⟩), .iface T z] w fun e w' => ∃ r, e = .returned r /\ Q (.returned r) w' := by
 have HH : Hid (Calls Tryz.prog 228 #[.pointer (some ⟨pb, 0, none⟩), .iface T z, pfn pb] (w.alloc zvb) fun e w' => ∃ r, e = .returned r /\ Q (.returned r) w') := H
 clear H
 have a1 := fun w => zjs z hT w
 go_enter Tryz.func233, Tryz.ntmps233
 go_wp2_with fail
 refine HH.out.mono ?_
 rintro e w1 ⟨r, rfl, hq⟩
 have HQ : Hid (Q (.returned r) w1) := hq
 clear hq
 go_wp2_with fail
 go_ret
 exact ⟨_, rfl, HQ.out⟩
theorem ChPost.ret {vb : Nat} {G : World -> Mks -> Prop} {t : Ty} {u : World} {e : Ending} {w' : World} (h : ChPost vb G t u e w') : ∃ r, e = .returned r /\ ChPost vb G t u (.returned r) w' := by
 have h0 := h
 obtain ⟨x, L, u2, h1, _⟩ := h
 subst h1
 exact ⟨x, rfl, h0⟩
theorem zoq (pb : Nat) (G : World -> Mks -> Prop) (GB : ∀ u u' L, G u L -> Below u.heap.size u u' -> G u' L) (t t' : Ty) (hT : ∀ u v, Tv u t v -> ∃ T z, v = .iface T z /\ T ≠ 263)
 (R : ∀ (L : Mks) (u w : World) (v : Value), Tv u t v -> Vs pb L u w -> G u L -> Calls Tryz.prog 228 #[.pointer (some ⟨pb, 0, none⟩), v, pfn pb] w (ChPost pb G t' u)) :
 zdz 233 #[.pointer (some ⟨pb, 0, none⟩)] #[] pb G t t' := by
 intro L u w x hx hV hG
 rw [zjz]
 obtain ⟨T, z, rfl, hT'⟩ := hT u x hx
 have bu : Below u.heap.size u (u.alloc zvb) := bal u _
 refine (put_other pb T z hT' w (ChPost pb G t' u) ((R L (u.alloc zvb) (w.alloc zvb) _ (hx.below bu) (hV.alloc zvb) (GB _ _ _ hG bu)).mono ?_)).mono ?_
 · intro e w' h
   exact (h.back bu).ret
 · rintro e w' ⟨r, rfl, h⟩
   exact h
theorem pput_any (pb : Nat) (vars : List Nat) (gs : List Ty) (V Gs : Value) (hlen : vars.length = gs.length) (hl : vars.length <= 1000000) (hok : ∀ t, Ok t -> Ok (putT vars gs t)) :
 ∀ t : Ty, Ok t -> sz (putT vars gs t) <= 4000000000000000000 -> zdz 233 #[.pointer (some ⟨pb, 0, none⟩)] #[] pb (PG pb vars gs V Gs) t (putT vars gs t) := by
 have gf := pg_good pb vars gs V Gs
 have leafs : ∀ (L : Mks) (u w : World) (v : Value) (t : Ty), Leaf v -> (∃ T z, v = .iface T z /\ T ≠ 256 /\ T ≠ 259 /\ T ≠ 243) -> Tv u t v -> Vs pb L u w -> PG pb vars gs V Gs u L -> Calls Tryz.prog 228 #[.pointer (some ⟨pb, 0, none⟩), v, pfn pb] w (ChPost pb (PG pb vars gs V Gs) t u) := by
  rintro L u w v t lf ⟨T, z, rfl, h1, h2, h3⟩ hv hV hG
  refine (remake_leaf lf pb (pfn pb) w (remade_leaf z (pfn pb) w h1 h2 h3)).mono ?_
  rintro e w' ⟨rfl, rfl⟩
  exact ⟨_, L, u, rfl, hV, hG, Below.refl _ _, hv⟩
 intro t
 induction t with
 | nil => intro h; exact h.elim
 | node g o uu a b iha ihb =>
  intro h hs
  cases uu
  have h0 := h
  rcases h with ⟨rfl, rfl, rfl, rfl⟩ | ⟨rfl, rfl, rfl, rfl⟩ | ⟨rfl, ho, rfl, rfl⟩ | ⟨rfl, rfl, ha, rfl⟩ | ⟨rfl, rfl, ha, hb⟩ | ⟨rfl, rfl, ha, hb⟩
  · have e : putT vars gs tI = tI := by simp [putT, sub]
    show zdz _ _ _ _ _ tI (putT vars gs tI)
    rw [e]
    refine zoq pb _ gf.bel tI tI (fun u v hv => ⟨_, _, hv.isI, by decide⟩) fun L u w v hv hV hG => ?_
    exact leafs L u w v tI (by rw [hv.isI]; exact .inl rfl) ⟨_, _, hv.isI, by decide, by decide, by decide⟩ hv hV hG
  · have e : putT vars gs tB = tB := by simp [putT, sub]
    show zdz _ _ _ _ _ tB (putT vars gs tB)
    rw [e]
    refine zoq pb _ gf.bel tB tB (fun u v hv => ⟨_, _, hv.isB, by decide⟩) fun L u w v hv hV hG => ?_
    exact leafs L u w v tB (by rw [hv.isB]; exact .inr (.inl rfl)) ⟨_, _, hv.isB, by decide, by decide, by decide⟩ hv hV hG
  · show zdz _ _ _ _ _ (tV o) (putT vars gs (tV o))
    intro L u w x hx hV hG
    rw [zjz, Tv.isV hx]
    have bu : Below u.heap.size u (u.alloc (.cells #[.int .u8 ((o / 10 : Nat) : Int), .int .u8 ((o % 10 : Nat) : Int)] 263)) := bal u _
    have H : Calls Tryz.prog 239 #[.pointer (some ⟨pb, 0, none⟩), kv o] (w.alloc (.cells #[.int .u8 ((o / 10 : Nat) : Int), .int .u8 ((o % 10 : Nat) : Int)] 263)) (ChPost pb (PG pb vars gs V Gs) (putT vars gs (tV o)) (u.alloc (.cells #[.int .u8 ((o / 10 : Nat) : Int), .int .u8 ((o % 10 : Nat) : Int)] 263))) := by
     by_cases hm : o ∈ vars
     · exact inPlace_in pb vars gs V Gs hlen hl L _ _ o (hV.alloc _) (gf.bel _ _ _ hG bu) hm
     · exact inPlace_not pb vars gs V Gs hlen hl L _ _ o (hV.alloc _) (gf.bel _ _ _ hG bu) hm
    refine (put_var pb o w (ChPost pb (PG pb vars gs V Gs) (putT vars gs (tV o)) u) (fun _ => True) (H.mono ?_)).mono ?_
    · intro e w' h
      exact (h.back bu).ret
    · rintro e w' ⟨r, rfl, h⟩
      exact h
  · have e : putT vars gs (tL a) = tL (putT vars gs a) := by simp [putT, sub]
    show zdz _ _ _ _ _ (tL a) (putT vars gs (tL a))
    have hs' : sz (tL (putT vars gs a)) <= 4000000000000000000 := by rw [<- e]; exact hs
    have hs1 : sz (putT vars gs a) <= 4000000000000000000 := by simp [sz] at hs'; omega
    refine zoq pb _ gf.bel _ _ (fun u v hv => by obtain ⟨q, x, rfl, _⟩ := hv.isL; exact ⟨_, _, rfl, by decide⟩) fun L u w v hv hV hG => ?_
    have hv0 := hv
    obtain ⟨q, x, rfl, hq, _⟩ := hv.isL
    refine zfy gf pb (pfn pb) h0 L u w _ q 1 _ (.inl ⟨rfl, rfl⟩) hq (ndL _ _) hv0 hV hG ?_
    rw [e]
    exact remade_L _ _ _ zfz pb _ gf.bel a _ ha (hok a ha) hs1 (iha ha hs1) L u w _ hv0 hV hG
  · have e : putT vars gs (tP a b) = tP (putT vars gs a) (putT vars gs b) := by simp [putT, sub]
    show zdz _ _ _ _ _ (tP a b) (putT vars gs (tP a b))
    have hs' : sz (tP (putT vars gs a) (putT vars gs b)) <= 4000000000000000000 := by rw [<- e]; exact hs
    have hs1 : sz (putT vars gs a) + sz (putT vars gs b) <= 4000000000000000000 := by simp [sz] at hs'; omega
    refine zoq pb _ gf.bel _ _ (fun u v hv => by obtain ⟨q, x, y, rfl, _⟩ := hv.isP; exact ⟨_, _, rfl, by decide⟩) fun L u w v hv hV hG => ?_
    have hv0 := hv
    obtain ⟨q, x, y, rfl, hq, _⟩ := hv.isP
    refine zfy gf pb (pfn pb) h0 L u w _ q 2 _ (.inr (.inl ⟨rfl, rfl⟩)) hq (ndP _ _ _) hv0 hV hG ?_
    rw [e]
    exact remade_P _ _ _ zfz pb _ gf.bel a _ b _ ha (hok a ha) hb (hok b hb) hs1 (iha ha (by omega)) (ihb hb (by omega)) L u w _ hv0 hV hG
  · have e : putT vars gs (tF a b) = tF (putT vars gs a) (putT vars gs b) := by simp [putT, sub]
    show zdz _ _ _ _ _ (tF a b) (putT vars gs (tF a b))
    have hs' : sz (tF (putT vars gs a) (putT vars gs b)) <= 4000000000000000000 := by rw [<- e]; exact hs
    have hs1 : sz (putT vars gs a) + sz (putT vars gs b) <= 4000000000000000000 := by simp [sz] at hs'; omega
    refine zoq pb _ gf.bel _ _ (fun u v hv => by obtain ⟨q, x, y, rfl, _⟩ := hv.isF; exact ⟨_, _, rfl, by decide⟩) fun L u w v hv hV hG => ?_
    have hv0 := hv
    obtain ⟨q, x, y, rfl, hq, _⟩ := hv.isF
    refine zfy gf pb (pfn pb) h0 L u w _ q 2 _ (.inr (.inr ⟨rfl, rfl⟩)) hq (ndF _ _ _) hv0 hV hG ?_
    rw [e]
    exact remade_F _ _ _ zfz pb _ gf.bel a _ b _ ha (hok a ha) hb (hok b hb) hs1 (iha ha (by omega)) (ihb hb (by omega)) L u w _ hv0 hV hG
abbrev putO (V Gs : Value) : Obj := .cells #[.pointer none, V, Gs] 341
theorem Vs.newP (V Gs : Value) (w : World) : Vs w.heap.size [] (w.alloc (putO V Gs)) (w.alloc (putO V Gs)) :=
 ⟨rfl, rfl, rfl, rfl, ⟨_, [V, Gs], _, by simp [VisT], heap_alloc_new w _, heap_alloc_new w _⟩, fun _ _ => rfl, fun m h => (by cases h), List.nodup_nil⟩
theorem Ends.kept {vb : Nat} {u w : World} (h : Ends vb u w) : KeptN u w := by
 intro q c T hT hq
 obtain ⟨T0, r, x, hT0, hu, _⟩ := h.vis
 rw [h.blk q ?_]
 · exact hq
 · rintro rfl
   rw [hu] at hq
   simp at hq
   obtain ⟨_, rfl⟩ := hq
   rcases hT with e | e | e
   · exact hT0.1 e
   · exact hT0.2.1 e
   · exact hT0.2.2 e
/-- kind.Put. -/
theorem kput_any (t : Ty) (v : Value) (vars : List Nat) (gs : List Ty) (V Gs : Value) (w : World) (ht : Ok t) (hv : Tv w t v) (hlen : vars.length = gs.length) (hl : vars.length <= 1000000) (hok : ∀ t, Ok t -> Ok (putT vars gs t)) (hs : sz (putT vars gs t) <= 4000000000000000000) (hvr : VarRow w V vars) (htr : TypRow w Gs gs) :
 Calls Tryz.prog 218 #[v, V, Gs] w fun e w' => ∃ x, e = .returned x /\ Tv w' (putT vars gs t) x /\ Below w.heap.size w w' := by
 have b1 : Below w.heap.size w (w.alloc (putO V Gs)) := bal w _
 have hG : PG w.heap.size vars gs V Gs (w.alloc (putO V Gs)) [] := ⟨⟨_, heap_alloc_new w _⟩, hvr.below b1, htr.below b1, fun q k f hm => by cases hm⟩
 have S := pput_any w.heap.size vars gs V Gs hlen hl hok t ht hs [] (w.alloc (putO V Gs)) (w.alloc (putO V Gs)) v (hv.below b1) (Vs.newP V Gs w) hG
 rw [zjz] at S
 obtain ⟨T, z, rfl⟩ := hv.iface
 obtain ⟨sa, cap, rfl, _⟩ : ∃ sa cap, V = .slice sa vars.length cap /\ True := by obtain ⟨sa, cap, h, _⟩ := hvr; exact ⟨sa, cap, h, trivial⟩
 obtain ⟨sa', cap', rfl, _⟩ : ∃ sa cap, Gs = .slice sa gs.length cap /\ True := by obtain ⟨sa, cap, h, _⟩ := htr; exact ⟨sa, cap, h, trivial⟩
 have HF : Hid (∀ (u : World) (x : Value) (w2 : World), Below (w.alloc (putO (.slice sa vars.length cap) (.slice sa' gs.length cap'))).heap.size (w.alloc (putO (.slice sa vars.length cap) (.slice sa' gs.length cap'))) u -> Tv u (putT vars gs t) x -> Ends w.heap.size u w2 -> Tv w2 (putT vars gs t) x /\ Below w.heap.size w w2) := by
  intro u x w2 hb hx hE
  have hb2 : Below w.heap.size w u := b1.trans (hb.mono (by simp))
  exact ⟨Tv.keptN hE.kept _ _ hx, hE.below hb2 (Nat.le_refl _)⟩
 clear hv hG hlen hl hok hs hvr htr ht b1
 generalize putT vars gs t = t' at *
 generalize vars.length = vl at *
 generalize gs.length = gl at *
 go_enter_defers Tryz.func218, Tryz.ntmps218
 go_wp2_with fail
 refine S.mono ?_
 rintro e w1 ⟨x, L, u, rfl, hV, _, hb, hx⟩
 obtain ⟨Tx, zx, rfl⟩ := hx.iface
 go_wp2_with fail
 refine leaves_cons (f := 198) (args := #[.pointer (some ⟨w.heap.size, 0, none⟩)]) (by simp) (by simp [go_sem]) ?_
 refine (zex w.heap.size L u .returning w1 hV).mono ?_
 rintro e u' w2 ⟨rfl, rfl, hE⟩
 obtain ⟨h1, h2⟩ := HF.out u _ w2 hb hx hE
 exact ⟨_, results_tmp rfl _ _ _, .iface Tx zx, rfl, h1, h2⟩
theorem Vs.beside {vb sb : Nat} {L : Mks} {u w w' : World} (h : Vs vb L u w) {c : Array Value} {T : TypeId} (hs : u.heap[sb]? = some (.cells c T (0, 0))) (hT : VisT T) (hne : sb ≠ vb) (hb : Gb sb w w') :
 ∃ u', Vs vb L u' w' /\ Gb sb u u' /\ u'.heap[sb]? = w'.heap[sb]? /\ ∀ q, u.heap.size <= q -> u'.heap[q]? = w'.heap[q]? := by
 have hsz := h.size
 have hsz' := hb.size
 have hsl := (Array.getElem?_eq_some_iff.1 hs).1
 have hsw : sb < w'.heap.size := by omega
 have hsL : sb ∉ L.map (·.1) := by
  intro hm
  obtain ⟨m, hm', rfl⟩ := List.mem_map.1 hm
  obtain ⟨⟨o, ho, hn⟩, _⟩ := h.nds m hm'
  obtain ⟨c', T', rfl, hT', _⟩ := hn.cells
  rw [hs] at ho
  simp at ho
  exact hT' (ho.2 ▸ hT)
 obtain ⟨ob, hob⟩ : ∃ ob, w'.heap[sb]? = some ob := ⟨_, Array.getElem?_eq_getElem hsw⟩
 have hlo : ∀ q, q < u.heap.size -> q ≠ sb -> ((u.heap.setIfInBounds sb ob) ++ w'.heap.extract u.heap.size w'.heap.size)[q]? = u.heap[q]? := fun q hq hqs => by
  rw [Array.getElem?_append_left (by simpa using hq), Array.getElem?_setIfInBounds, if_neg (fun e => hqs e.symm)]
 have hsb : ((u.heap.setIfInBounds sb ob) ++ w'.heap.extract u.heap.size w'.heap.size)[sb]? = some ob := by
  rw [Array.getElem?_append_left (by simpa using hsl), Array.getElem?_setIfInBounds, if_pos rfl, if_pos hsl]
 have hhi : ∀ q, u.heap.size <= q -> ((u.heap.setIfInBounds sb ob) ++ w'.heap.extract u.heap.size w'.heap.size)[q]? = w'.heap[q]? := fun q hq => by
  rw [Array.getElem?_append_right (by simpa using hq), Array.getElem?_extract]
  by_cases e : q < w'.heap.size
  · rw [if_pos (by simp; omega)]
    congr 1; simp; omega
  · rw [if_neg (by simp; omega), Array.getElem?_eq_none (by omega)]
 have hS : ((u.heap.setIfInBounds sb ob) ++ w'.heap.extract u.heap.size w'.heap.size).size = w'.heap.size := by simp; omega
 refine ⟨{ w' with heap := (u.heap.setIfInBounds sb ob) ++ w'.heap.extract u.heap.size w'.heap.size }, ⟨rfl, rfl, rfl, hS.symm, ?_, ?_, ?_, h.nodup⟩, ⟨?_, ?_, ?_, by show _ <= Array.size _; rw [hS]; omega, fun k hk hk' => hlo k hk (by simpa using hk')⟩, hsb.trans hob.symm, hhi⟩
 · obtain ⟨T0, r, x, hT0, h1, h2⟩ := h.vis
   have hlt := (Array.getElem?_eq_some_iff.1 h1).1
   exact ⟨T0, r, x, hT0, (hlo vb hlt (Ne.symm hne)).trans h1, (hb.block vb (by omega) (by simpa using Ne.symm hne)).trans h2⟩
 · intro q hq
   show w'.heap[q]? = zbe L q ((u.heap.setIfInBounds sb ob) ++ w'.heap.extract u.heap.size w'.heap.size)[q]?
   by_cases es : q = sb
   · subst es
     rw [zck hsL, hsb, hob]
   · by_cases e : q < u.heap.size
     · rw [hlo q e es, hb.block q (by omega) (by simpa using es)]; exact h.blk q hq
     · have hnot : q ∉ L.map (·.1) := by
        intro hm
        obtain ⟨m, hm', rfl⟩ := List.mem_map.1 hm
        obtain ⟨⟨o, ho, _⟩, _⟩ := h.nds m hm'
        exact e (Array.getElem?_eq_some_iff.1 ho).1
       rw [zck hnot, hhi q (by omega)]
 · intro m hm
   obtain ⟨⟨o, ho, hn⟩, hx⟩ := h.nds m hm
   have hms : m.1 ≠ sb := fun e => hsL (by rw [<- e]; exact List.mem_map.2 ⟨m, hm, rfl⟩)
   exact ⟨⟨o, (hlo _ (Array.getElem?_eq_some_iff.1 ho).1 hms).trans ho, hn⟩, hx⟩
 · exact hb.os.trans h.os
 · exact hb.tape.trans h.tape
 · exact hb.output.trans h.output
theorem Gb.keptN' {sb : Nat} {u u' : World} (hb : Gb sb u u') {c : Array Value} {T : TypeId} (hs : u.heap[sb]? = some (.cells c T (0, 0))) (hT : VisT T) : KeptN u u' := by
 intro q c' T' hT' hq
 rw [hb.block q (Array.getElem?_eq_some_iff.1 hq).1 ?_]
 · exact hq
 · intro e
   have e : q = sb := by simpa using e
   subst e
   rw [hs] at hq
   simp at hq
   rcases hT' with e | e | e
   · exact hT.1 (hq.2.trans e)
   · exact hT.2.1 (hq.2.trans e)
   · exact hT.2.2 (hq.2.trans e)
structure AG (vb sb : Nat) (m : Nat -> Nat) (u : World) (L : Mks) : Prop where
 bits : Bits sb m u
 ne : sb ≠ vb
 gd : ∀ q k f, (q, k, f) ∈ L -> ∃ t v, Ok t /\ NdV v q k /\ Tv u t v /\ ∀ p, 970 <= p /\ p < 1230 -> inT p t = true -> hasB m p = true
theorem Bits.blk {sb : Nat} {m : Nat -> Nat} {u : World} (h : Bits sb m u) : ∃ c, u.heap[sb]? = some (.cells c 304 (0, 0)) := by
 obtain ⟨⟨c, hc, _⟩, _⟩ := h
 exact ⟨c, hc⟩
theorem zed : VisT 304 := by simp [VisT]
theorem AG.here {vb sb : Nat} {m : Nat -> Nat} {u w : World} {L : Mks} (h : AG vb sb m u L) (hV : Vs vb L u w) : Bits sb m w := by
 obtain ⟨⟨c, hc, h1⟩, h2⟩ := h.bits
 exact ⟨⟨c, hV.other hc zed h.ne, h1⟩, h2⟩
theorem Bits.of {sb : Nat} {m : Nat -> Nat} {w w' : World} (h : Bits sb m w) (e : w'.heap[sb]? = w.heap[sb]?) : Bits sb m w' := by
 obtain ⟨⟨c, hc, h1⟩, h2⟩ := h
 exact ⟨⟨c, e.trans hc, h1⟩, h2⟩
theorem AG.more {vb sb : Nat} {m m' : Nat -> Nat} {u u' : World} {L : Mks} (h : AG vb sb m u L) (hb : Bits sb m' u') (g : Gb sb u u') (hm : ∀ p, 970 <= p /\ p < 1230 -> hasB m p = true -> hasB m' p = true) : AG vb sb m' u' L := by
 obtain ⟨c, hc⟩ := h.bits.blk
 refine ⟨hb, h.ne, fun q k f hq => ?_⟩
 obtain ⟨t, v, h1, h2, h3, h4⟩ := h.gd q k f hq
 exact ⟨t, v, h1, h2, Tv.keptN (g.keptN' hc zed) _ _ h3, fun p hp hi => hm p hp (h4 p hp hi)⟩
theorem zgs {T : TypeId} (x hv : Value) (w : World) (h1 : T ≠ 256) (h2 : T ≠ 259) (h3 : T ≠ 243) :
 Calls Tryz.prog 246 #[.iface T x, hv] w fun e w' => e = .returned (.tuple #[]) /\ w' = w := by
 have a1 := fun w => zbg x h1 w
 have a2 := fun w => zcp x h2 w
 have a3 := fun w => zbx x h3 w
 go_enter Tryz.func246, Tryz.ntmps246
 go_wp2_with fail
 first | go_end0 | refine bodyPost_ret (results_none rfl _ _ _) rfl ?_
 exact ⟨rfl, rfl⟩
theorem eachPart_L (K : Nat) (fs cs : Array Value) (eK : zcj K) (q : Nat) (T : TypeId) (z : Value) (w : World) (Q : World -> Prop) (c0 : w.cell? ⟨q, 0, none⟩ = some (.iface T z))
 (H : Calls Tryz.prog K (fs.push (.iface T z) ++ cs) w fun e w1 => e = .returned (.tuple #[]) /\ Q w1) :
 Calls Tryz.prog 246 #[viL q, .func (.func K) fs cs] w fun e w1 => e = .returned (.tuple #[]) /\ Q w1 := by
 have HH : Hid (Calls Tryz.prog K (fs.push (.iface T z) ++ cs) w fun e w1 => e = .returned (.tuple #[]) /\ Q w1) := H
 clear H
 have a1 := zhg
 go_enter Tryz.func246, Tryz.ntmps246
 go_wp2_with fail
 refine HH.out.mono ?_
 rintro e w1 ⟨rfl, hq⟩
 have HQ : Hid (Q w1) := hq
 clear hq
 go_wp2_with fail
 first | go_end0 | refine bodyPost_ret (results_none rfl _ _ _) rfl ?_
 exact ⟨rfl, HQ.out⟩
theorem eachPart_P (K : Nat) (fs cs : Array Value) (eK : zcj K) (q : Nat) (T S : TypeId) (z y : Value) (w : World) (Q Q2 : World -> Prop) (c0 : w.cell? ⟨q, 0, none⟩ = some (.iface T z))
 (H : Calls Tryz.prog K (fs.push (.iface T z) ++ cs) w fun e w1 => e = .returned (.tuple #[]) /\ Q w1)
 (H2 : ∀ w1, Q w1 -> w1.cell? ⟨q, 1, none⟩ = some (.iface S y) /\ Calls Tryz.prog K (fs.push (.iface S y) ++ cs) w1 fun e w2 => e = .returned (.tuple #[]) /\ Q2 w2) :
 Calls Tryz.prog 246 #[viP q, .func (.func K) fs cs] w fun e w1 => e = .returned (.tuple #[]) /\ Q2 w1 := by
 have HH : Hid (Calls Tryz.prog K (fs.push (.iface T z) ++ cs) w fun e w1 => e = .returned (.tuple #[]) /\ Q w1) := H
 have HH2 : Hid (∀ w1, Q w1 -> w1.cell? ⟨q, 1, none⟩ = some (.iface S y) /\ Calls Tryz.prog K (fs.push (.iface S y) ++ cs) w1 fun e w2 => e = .returned (.tuple #[]) /\ Q2 w2) := H2
 clear H H2
 have a1 := fun v => zbg (T := 259) v (by decide)
 have a3 := zee
 go_enter Tryz.func246, Tryz.ntmps246
 go_wp2_with fail
 refine HH.out.mono ?_
 rintro e w1 ⟨rfl, hq⟩
 obtain ⟨c1, C2⟩ := HH2.out w1 hq
 have HC : Hid (Calls Tryz.prog K (fs.push (.iface S y) ++ cs) w1 fun e w2 => e = .returned (.tuple #[]) /\ Q2 w2) := C2
 clear hq C2 HH HH2
 go_wp2_with fail
 refine HC.out.mono ?_
 rintro e w2 ⟨rfl, hq⟩
 have HQ : Hid (Q2 w2) := hq
 clear hq
 go_wp2_with fail
 first | go_end0 | refine bodyPost_ret (results_none rfl _ _ _) rfl ?_
 exact ⟨rfl, HQ.out⟩
theorem eachPart_F (K : Nat) (fs cs : Array Value) (eK : zcj K) (q : Nat) (T S : TypeId) (z y : Value) (w : World) (Q Q2 : World -> Prop) (c0 : w.cell? ⟨q, 0, none⟩ = some (.iface T z))
 (H : Calls Tryz.prog K (fs.push (.iface T z) ++ cs) w fun e w1 => e = .returned (.tuple #[]) /\ Q w1)
 (H2 : ∀ w1, Q w1 -> w1.cell? ⟨q, 1, none⟩ = some (.iface S y) /\ Calls Tryz.prog K (fs.push (.iface S y) ++ cs) w1 fun e w2 => e = .returned (.tuple #[]) /\ Q2 w2) :
 Calls Tryz.prog 246 #[viF q, .func (.func K) fs cs] w fun e w1 => e = .returned (.tuple #[]) /\ Q2 w1 := by
 have HH : Hid (Calls Tryz.prog K (fs.push (.iface T z) ++ cs) w fun e w1 => e = .returned (.tuple #[]) /\ Q w1) := H
 have HH2 : Hid (∀ w1, Q w1 -> w1.cell? ⟨q, 1, none⟩ = some (.iface S y) /\ Calls Tryz.prog K (fs.push (.iface S y) ++ cs) w1 fun e w2 => e = .returned (.tuple #[]) /\ Q2 w2) := H2
 clear H H2
 have a1 := fun v => zbg (T := 243) v (by decide)
 have a2 := fun v => zcp (T := 243) v (by decide)
 have a3 := zbk
 go_enter Tryz.func246, Tryz.ntmps246
 go_wp2_with fail
 refine HH.out.mono ?_
 rintro e w1 ⟨rfl, hq⟩
 obtain ⟨c1, C2⟩ := HH2.out w1 hq
 have HC : Hid (Calls Tryz.prog K (fs.push (.iface S y) ++ cs) w1 fun e w2 => e = .returned (.tuple #[]) /\ Q2 w2) := C2
 clear hq C2 HH HH2
 go_wp2_with fail
 refine HC.out.mono ?_
 rintro e w2 ⟨rfl, hq⟩
 have HQ : Hid (Q2 w2) := hq
 clear hq
 go_wp2_with fail
 first | go_end0 | refine bodyPost_ret (results_none rfl _ _ _) rfl ?_
 exact ⟨rfl, HQ.out⟩
theorem zou {v : Value} (lf : Leaf v) (vb : Nat) (hf : Value) (w : World) (E : Calls Tryz.prog 246 #[v, hf] w fun e w' => e = .returned (.tuple #[]) /\ w' = w) :
 Calls Tryz.prog 242 #[.pointer (some ⟨vb, 0, none⟩), v, hf] w fun e w' => e = .returned (.tuple #[]) /\ w' = w := by
 have A := at_leaf vb w lf
 have K := zoh vb v w lf
 obtain ⟨T, x, rfl⟩ := lf.iface
 clear lf
 go_enter Tryz.func242, Tryz.ntmps242
 go_wp2_with fail
 refine A.mono ?_
 rintro e w' ⟨rfl, rfl⟩
 go_wp2_with fail
 refine E.mono ?_
 rintro e w' ⟨rfl, rfl⟩
 go_wp2_with fail
 refine K.mono ?_
 rintro e w' ⟨rfl, rfl⟩
 go_wp2_with fail
 first | go_end0 | refine bodyPost_ret (results_none rfl _ _ _) rfl ?_
 exact ⟨rfl, rfl⟩
theorem once_old {v : Value} {q k : Nat} (nv : NdV v q k) (vb : Nat) (hf : Value) (T1 : TypeId) (x1 : Value) (w : World) (hc : w.cell? ⟨q, k + 1, none⟩ = some (.iface T1 x1)) :
 Calls Tryz.prog 242 #[.pointer (some ⟨vb, 0, none⟩), v, hf] w fun e w' => e = .returned (.tuple #[]) /\ w' = w := by
 have A := at_nd vb _ w nv hc
 obtain ⟨T, x, rfl⟩ := nv.iface
 clear nv hc
 go_enter Tryz.func242, Tryz.ntmps242
 go_wp2_with fail
 refine A.mono ?_
 rintro e w' ⟨rfl, rfl⟩
 go_wp2_with fail
 first | go_end0 | refine bodyPost_ret (results_none rfl _ _ _) rfl ?_
 exact ⟨rfl, rfl⟩
theorem once_new {v : Value} {q k : Nat} (nv : NdV v q k) (vb : Nat) (hf : Value) (w : World) (Q Q2 : World -> Prop) (hc : w.cell? ⟨q, k + 1, none⟩ = some .nilIface)
 (E : Calls Tryz.prog 246 #[v, hf] w fun e w' => e = .returned (.tuple #[]) /\ Q w')
 (KP : ∀ w1, Q w1 -> Calls Tryz.prog 223 #[.pointer (some ⟨vb, 0, none⟩), v, v] w1 fun e w2 => e = .returned (.tuple #[]) /\ Q2 w2) :
 Calls Tryz.prog 242 #[.pointer (some ⟨vb, 0, none⟩), v, hf] w fun e w' => e = .returned (.tuple #[]) /\ Q2 w' := by
 have A := at_nd vb _ w nv hc
 have HE : Hid (Calls Tryz.prog 246 #[v, hf] w fun e w' => e = .returned (.tuple #[]) /\ Q w') := E
 have HK : Hid (∀ w1, Q w1 -> Calls Tryz.prog 223 #[.pointer (some ⟨vb, 0, none⟩), v, v] w1 fun e w2 => e = .returned (.tuple #[]) /\ Q2 w2) := KP
 obtain ⟨T, x, rfl⟩ := nv.iface
 clear nv hc E KP
 go_enter Tryz.func242, Tryz.ntmps242
 go_wp2_with fail
 refine A.mono ?_
 rintro e w' ⟨rfl, rfl⟩
 go_wp2_with fail
 refine HE.out.mono ?_
 rintro e w1 ⟨rfl, hq⟩
 have HC := HK.out w1 hq
 clear HE HK hq
 go_wp2_with fail
 refine HC.mono ?_
 rintro e w2 ⟨rfl, hq⟩
 have HQ : Hid (Q2 w2) := hq
 clear hq
 go_wp2_with fail
 first | go_end0 | refine bodyPost_ret (results_none rfl _ _ _) rfl ?_
 exact ⟨rfl, HQ.out⟩
def BX (b1 b2 vb sb : Nat) (w : World) : Prop := w.heap[b1]? = some (.cells #[.pointer (some ⟨vb, 0, none⟩)] 328 (0, 0)) /\ w.heap[b2]? = some (.cells #[.pointer (some ⟨sb, 0, none⟩)] 297 (0, 0))
theorem addTo1_any (b1 b2 vb sb : Nat) (v : Value) (hv : ∃ T z, v = .iface T z) (w : World) (hx : BX b1 b2 vb sb w) (Q : World -> Prop)
 (H : Calls Tryz.prog 245 #[.pointer (some ⟨vb, 0, none⟩), .pointer (some ⟨sb, 0, none⟩), v] w fun e w1 => e = .returned (.tuple #[]) /\ Q w1) :
 Calls Tryz.prog 247 #[v, .pointer (some ⟨b1, 0, none⟩), .pointer (some ⟨b2, 0, none⟩)] w fun e w1 => e = .returned (.tuple #[]) /\ Q w1 := by
 have HH : Hid (Calls Tryz.prog 245 #[.pointer (some ⟨vb, 0, none⟩), .pointer (some ⟨sb, 0, none⟩), v] w fun e w1 => e = .returned (.tuple #[]) /\ Q w1) := H
 have c1 : w.cell? ⟨b1, 0, none⟩ = some (.pointer (some ⟨vb, 0, none⟩)) := by rw [Lib.cell_of_heap hx.1]; rfl
 have c2 : w.cell? ⟨b2, 0, none⟩ = some (.pointer (some ⟨sb, 0, none⟩)) := by rw [Lib.cell_of_heap hx.2]; rfl
 obtain ⟨T, z, rfl⟩ := hv
 clear H hx
 go_enter Tryz.func247, Tryz.ntmps247
 go_wp2_with fail
 refine HH.out.mono ?_
 rintro e w1 ⟨rfl, hq⟩
 have HQ : Hid (Q w1) := hq
 clear hq
 go_wp2_with fail
 first | go_end0 | refine bodyPost_ret (results_none rfl _ _ _) rfl ?_
 exact ⟨rfl, HQ.out⟩
theorem zdr : zcj 247 := enters_of Tryz.func247 (by kernel_rfl) rfl
abbrev afn (b1 b2 : Nat) : Value := .func (.func 247) #[] #[.pointer (some ⟨b1, 0, none⟩), .pointer (some ⟨b2, 0, none⟩)]
theorem zjw (vb sb : Nat) (T : TypeId) (z : Value) (hT : T ≠ 263) (w : World) (Q : World -> Prop)
 (H : Calls Tryz.prog 242 #[.pointer (some ⟨vb, 0, none⟩), .iface T z, afn w.heap.size (w.heap.size + 1)] (((w.alloc (.cells #[.pointer (some ⟨vb, 0, none⟩)] 328)).alloc (.cells #[.pointer (some ⟨sb, 0, none⟩)] 297)).alloc zvb) fun e w1 => e = .returned (.tuple #[]) /\ Q w1) :
 Calls Tryz.prog 245 #[.pointer (some ⟨vb, 0, none⟩), .pointer (some ⟨sb, 0, none⟩), .iface T z] w fun e w1 => e = .returned (.tuple #[]) /\ Q w1 := by
 have HH : Hid (Calls Tryz.prog 242 #[.pointer (some ⟨vb, 0, none⟩), .iface T z, afn w.heap.size (w.heap.size + 1)] (((w.alloc (.cells #[.pointer (some ⟨vb, 0, none⟩)] 328)).alloc (.cells #[.pointer (some ⟨sb, 0, none⟩)] 297)).alloc zvb) fun e w1 => e = .returned (.tuple #[]) /\ Q w1) := H
 clear H
 have a1 := fun w => zjs z hT w
 have c1 : (((w.alloc (.cells #[.pointer (some ⟨vb, 0, none⟩)] 328)).alloc (.cells #[.pointer (some ⟨sb, 0, none⟩)] 297)).alloc zvb).cell? ⟨w.heap.size, 0, none⟩ = some (.pointer (some ⟨vb, 0, none⟩)) := by
  rw [World.cell?_alloc_lt _ _ _ (by simp; omega), World.cell?_alloc_lt _ _ _ (by simp)]; simp
 go_enter Tryz.func245, Tryz.ntmps245
 go_wp2_with fail
 refine HH.out.mono ?_
 rintro e w1 ⟨rfl, hq⟩
 have HQ : Hid (Q w1) := hq
 clear hq
 go_wp2_with fail
 first | go_end0 | refine bodyPost_ret (results_none rfl _ _ _) rfl ?_
 exact ⟨rfl, HQ.out⟩
theorem addTo_var (vb sb : Nat) (o : Nat) (w : World) (Q Q2 : World -> Prop)
 (H : Calls Tryz.prog 197 #[.pointer (some ⟨sb, 0, none⟩), kv o] (((w.alloc (.cells #[.pointer (some ⟨vb, 0, none⟩)] 328)).alloc (.cells #[.pointer (some ⟨sb, 0, none⟩)] 297)).alloc (.cells #[.int .u8 ((o / 10 : Nat) : Int), .int .u8 ((o % 10 : Nat) : Int)] 263)) fun e w1 => e = .returned (.tuple #[]) /\ Q w1)
 (H2 : ∀ w1, Q w1 -> w1.cell? ⟨w.heap.size, 0, none⟩ = some (.pointer (some ⟨vb, 0, none⟩)) /\ Calls Tryz.prog 242 #[.pointer (some ⟨vb, 0, none⟩), viV o, afn w.heap.size (w.heap.size + 1)] w1 fun e w1 => e = .returned (.tuple #[]) /\ Q2 w1) :
 Calls Tryz.prog 245 #[.pointer (some ⟨vb, 0, none⟩), .pointer (some ⟨sb, 0, none⟩), viV o] w fun e w1 => e = .returned (.tuple #[]) /\ Q2 w1 := by
 have HH : Hid (Calls Tryz.prog 197 #[.pointer (some ⟨sb, 0, none⟩), kv o] (((w.alloc (.cells #[.pointer (some ⟨vb, 0, none⟩)] 328)).alloc (.cells #[.pointer (some ⟨sb, 0, none⟩)] 297)).alloc (.cells #[.int .u8 ((o / 10 : Nat) : Int), .int .u8 ((o % 10 : Nat) : Int)] 263)) fun e w1 => e = .returned (.tuple #[]) /\ Q w1) := H
 have HH2 : Hid (∀ w1, Q w1 -> w1.cell? ⟨w.heap.size, 0, none⟩ = some (.pointer (some ⟨vb, 0, none⟩)) /\ Calls Tryz.prog 242 #[.pointer (some ⟨vb, 0, none⟩), viV o, afn w.heap.size (w.heap.size + 1)] w1 fun e w1 => e = .returned (.tuple #[]) /\ Q2 w1) := H2
 clear H H2
 have a1 := zfw
 have c2 : (((w.alloc (.cells #[.pointer (some ⟨vb, 0, none⟩)] 328)).alloc (.cells #[.pointer (some ⟨sb, 0, none⟩)] 297)).alloc (.cells #[.int .u8 ((o / 10 : Nat) : Int), .int .u8 ((o % 10 : Nat) : Int)] 263)).cell? ⟨w.heap.size + 1, 0, none⟩ = some (.pointer (some ⟨sb, 0, none⟩)) := by
  rw [World.cell?_alloc_lt _ _ _ (by simp)]
  have := heap_alloc_new (w.alloc (.cells #[.pointer (some ⟨vb, 0, none⟩)] 328)) (.cells #[.pointer (some ⟨sb, 0, none⟩)] 297)
  simp at this
  rw [Lib.cell_of_heap (show ((w.alloc (.cells #[.pointer (some ⟨vb, 0, none⟩)] 328)).alloc (.cells #[.pointer (some ⟨sb, 0, none⟩)] 297)).heap[w.heap.size + 1]? = _ by simpa using heap_alloc_new (w.alloc (.cells #[.pointer (some ⟨vb, 0, none⟩)] 328)) (.cells #[.pointer (some ⟨sb, 0, none⟩)] 297))]; rfl
 unfold viV at *
 unfold kv at *
 generalize ((o / 10 : Nat) : Int) = x at *
 generalize ((o % 10 : Nat) : Int) = y at *
 go_enter Tryz.func245, Tryz.ntmps245
 go_wp2_with fail
 refine HH.out.mono ?_
 rintro e w1 ⟨rfl, hq⟩
 obtain ⟨c1, C2⟩ := HH2.out w1 hq
 have HC : Hid (Calls Tryz.prog 242 #[.pointer (some ⟨vb, 0, none⟩), .iface 263 (.agg #[.int .u8 x, .int .u8 y]), afn w.heap.size (w.heap.size + 1)] w1 fun e w1 => e = .returned (.tuple #[]) /\ Q2 w1) := C2
 clear hq C2 HH HH2
 go_wp2_with fail
 refine HC.out.mono ?_
 rintro e w2 ⟨rfl, hq⟩
 have HQ : Hid (Q2 w2) := hq
 clear hq
 go_wp2_with fail
 first | go_end0 | refine bodyPost_ret (results_none rfl _ _ _) rfl ?_
 exact ⟨rfl, HQ.out⟩
theorem BX.gb {b1 b2 vb sb : Nat} {u u' : World} (h : BX b1 b2 vb sb u) {m : Nat -> Nat} (hb : Bits sb m u) (g : Gb sb u u') : BX b1 b2 vb sb u' := by
 obtain ⟨c, hc⟩ := hb.blk
 have hne : ∀ (b : Nat) (c' : Array Value) (T : TypeId), u.heap[b]? = some (Obj.cells c' T (0, 0)) -> T ≠ 304 -> u'.heap[b]? = some (Obj.cells c' T (0, 0)) := by
  intro b c' T hb' hT
  rw [g.block b (Array.getElem?_eq_some_iff.1 hb').1 ?_]
  · exact hb'
  · intro e
    have e : b = sb := by simpa using e
    subst e
    rw [hc] at hb'
    simp at hb'
    exact hT hb'.2.symm
 exact ⟨hne _ _ _ h.1 (by decide), hne _ _ _ h.2 (by decide)⟩
theorem BX.here {b1 b2 vb sb : Nat} {u w : World} {L : Mks} (h : BX b1 b2 vb sb u) (hV : Vs vb L u w) (h1 : b1 ≠ vb) (h2 : b2 ≠ vb) : BX b1 b2 vb sb w :=
 ⟨hV.other h.1 (by simp [VisT]) h1, hV.other h.2 (by simp [VisT]) h2⟩
def AdQ (vb sb : Nat) (t : Ty) (u : World) (m : Nat -> Nat) (w' : World) : Prop :=
 ∃ L' u' m', Vs vb L' u' w' /\ AG vb sb m' u' L' /\ Gb sb u u' /\ ∀ p, 970 <= p /\ p < 1230 -> hasB m' p = (hasB m p || inT p t)
def znq (vb sb : Nat) (t : Ty) : Prop := ∀ (L : Mks) (u : World) (m : Nat -> Nat) (w : World) (v : Value), Tv u t v -> Vs vb L u w -> AG vb sb m u L ->
 Calls Tryz.prog 245 #[.pointer (some ⟨vb, 0, none⟩), .pointer (some ⟨sb, 0, none⟩), v] w fun e w' => e = .returned (.tuple #[]) /\ AdQ vb sb t u m w'
theorem args_cl (x a b : Value) : (#[] : Array Value).push x ++ #[a, b] = #[x, a, b] := by simp
theorem zde {vb sb : Nat} {t : Ty} (ih : znq vb sb t) {b1 b2 : Nat} (h1 : b1 ≠ vb) (h2 : b2 ≠ vb) (L : Mks) (u : World) (m : Nat -> Nat) (w : World) (v : Value) (hv : Tv u t v) (hV : Vs vb L u w) (hG : AG vb sb m u L) (hx : BX b1 b2 vb sb u) :
 Calls Tryz.prog 247 ((#[] : Array Value).push v ++ #[.pointer (some ⟨b1, 0, none⟩), .pointer (some ⟨b2, 0, none⟩)]) w fun e w' => e = .returned (.tuple #[]) /\ AdQ vb sb t u m w' := by
 rw [args_cl]
 exact addTo1_any b1 b2 vb sb v hv.iface w (hx.here hV h1 h2) _ (ih L u m w v hv hV hG)
theorem boxes {vb sb : Nat} {m : Nat -> Nat} {u w : World} {L : Mks} (hG : AG vb sb m u L) (hV : Vs vb L u w) (o : Obj) :
 ∃ u3, Vs vb L u3 (((w.alloc (.cells #[.pointer (some ⟨vb, 0, none⟩)] 328)).alloc (.cells #[.pointer (some ⟨sb, 0, none⟩)] 297)).alloc o) /\ AG vb sb m u3 L /\ Gb sb u u3 /\ KeptN u u3 /\ BX w.heap.size (w.heap.size + 1) vb sb u3 /\ w.heap.size ≠ vb /\ w.heap.size + 1 ≠ vb := by
 have hb : Below w.heap.size w (((w.alloc (.cells #[.pointer (some ⟨vb, 0, none⟩)] 328)).alloc (.cells #[.pointer (some ⟨sb, 0, none⟩)] 297)).alloc o) := ((bal w _).alloc (by simp) _).alloc (by simp; omega) _
 obtain ⟨u3, h1, h2, h3⟩ := hV.grow hb
 have g : Gb sb u u3 := ⟨h2.os, h2.tape, h2.output, h2.size, fun k hk _ => h2.block k hk⟩
 obtain ⟨c, hc⟩ := hG.bits.blk
 have hlt : vb < w.heap.size := by obtain ⟨T, r, x0, _, _, hv⟩ := hV.vis; exact (Array.getElem?_eq_some_iff.1 hv).1
 refine ⟨u3, h1, hG.more (hG.bits.of (h2.block sb (Array.getElem?_eq_some_iff.1 hc).1)) g (fun _ _ h => h), g, g.keptN' hc zed, ⟨?_, ?_⟩, by omega, by omega⟩
 · rw [h3 _ (by rw [<- hV.size]; omega), Lib.alloc_old _ _ _ (by simp; omega), Lib.alloc_old _ _ _ (by simp)]
   exact heap_alloc_new w _
 · rw [h3 _ (by rw [<- hV.size]; omega), Lib.alloc_old _ _ _ (by simp)]
   simpa using heap_alloc_new (w.alloc (.cells #[.pointer (some ⟨vb, 0, none⟩)] 328)) (.cells #[.pointer (some ⟨sb, 0, none⟩)] 297)
theorem zlv {vb sb : Nat} {t : Ty} (ht : Ok t) (hnd : ∀ u v, Tv u t v -> ∃ q k o, NdV v q k /\ u.heap[q]? = some o /\ isNd o k /\ ∃ T z, v = .iface T z /\ T ≠ 263)
 (E : ∀ (b1 b2 : Nat) (L : Mks) (u : World) (m : Nat -> Nat) (w : World) (v : Value), b1 ≠ vb -> b2 ≠ vb -> BX b1 b2 vb sb u -> Tv u t v -> Vs vb L u w -> AG vb sb m u L ->
  Calls Tryz.prog 246 #[v, afn b1 b2] w fun e w' => e = .returned (.tuple #[]) /\ AdQ vb sb t u m w') : znq vb sb t := by
 intro L u m w v hv hV hG
 obtain ⟨u3, hV3, hG3, g3, hk3, hx3, hn1, hn2⟩ := boxes hG hV zvb
 have hv3 := Tv.keptN hk3 _ _ hv
 obtain ⟨q, k, o, nv, hq, hn, T, z, rfl, hT⟩ := hnd u3 v hv3
 refine zjw vb sb T z hT w _ ?_
 by_cases hin : q ∈ L.map (·.1)
 · obtain ⟨k', hm⟩ := fnd_in hin
   obtain ⟨_, T1, x1, e1⟩ := hV3.nds _ hm
   have hc := hV3.found hq hn
   rw [show fnd L q = .iface T1 x1 from e1] at hc
   refine (once_old nv vb _ T1 x1 _ hc).mono ?_
   rintro e w' ⟨rfl, rfl⟩
   refine ⟨rfl, L, u3, m, hV3, hG3, g3, fun p hp => ?_⟩
   obtain ⟨t', v', h1, h2, h3, h4⟩ := hG3.gd _ _ _ hm
   obtain rfl := nd_same hv3 h3 nv h2
   have e := zmg hv3 h3 nv h2
   subst e
   have e2 := Tv.one t t' _ ht h1 hv3 h3
   subst e2
   cases hi : inT p t with
   | false => simp
   | true => rw [h4 p hp hi]; simp
 · have hc := hV3.found hq hn
   rw [zmc hin] at hc
   refine once_new nv vb _ _ (AdQ vb sb t u3 m) _ hc (E _ _ L u3 m _ _ hn1 hn2 hx3 hv3 hV3 hG3) ?_
   rintro w1 ⟨L1, u1, m1, hV1, hG1, g1, hm1⟩
   obtain ⟨cc, hcc⟩ := hG3.bits.blk
   have hk1 := g1.keptN' hcc zed
   have hv1 := Tv.keptN hk1 _ _ hv3
   obtain ⟨c', T', rfl, hT', _⟩ := hn.cells
   obtain ⟨o1, hq1, hn1'⟩ := nd_obj hv1 nv
   have gdn : ∀ p, 970 <= p /\ p < 1230 -> inT p t = true -> hasB m1 p = true := fun p hp hi => by rw [hm1 p hp, hi]; simp
   by_cases hi : q ∈ L1.map (·.1)
   · refine (zlw nv hV1 hq1 hn1' hi T z).mono ?_
     rintro e w2 ⟨rfl, hV2⟩
     refine ⟨rfl, _, u1, m1, hV2, ⟨hG1.bits, hG1.ne, fun q' k' f hm => ?_⟩, g3.trans g1, hm1⟩
     rcases zlz hm with hm' | ⟨e1, e2, gg, hm'⟩
     · exact hG1.gd q' k' f hm'
     · simp only at e1 e2 hm'
       clear hm
       subst e1
       subst e2
       obtain ⟨t', v', h1, h2, h3, h4⟩ := hG1.gd _ _ _ hm'
       obtain rfl := nd_same hv1 h3 nv h2
       exact ⟨t, _, ht, nv, hv1, gdn⟩
   · refine (zmt nv hV1 hq1 hn1' hi T z).mono ?_
     rintro e w2 ⟨rfl, hV2⟩
     refine ⟨rfl, _, u1, m1, hV2, ⟨hG1.bits, hG1.ne, fun q' k' f hm => ?_⟩, g3.trans g1, hm1⟩
     rcases List.mem_cons.1 hm with e | hm
     · injection e with e1 e2
       injection e2 with e2 e3
       subst e1; subst e2; subst e3
       exact ⟨t, _, ht, nv, hv1, gdn⟩
     · exact hG1.gd q' k' f hm
theorem add_leaf {vb sb : Nat} {t : Ty} (hi : ∀ p, inT p t = false) (hl : ∀ u v, Tv u t v -> Leaf v /\ ∃ T z, v = .iface T z /\ T ≠ 263 /\ T ≠ 256 /\ T ≠ 259 /\ T ≠ 243) : znq vb sb t := by
 intro L u m w v hv hV hG
 obtain ⟨u3, hV3, hG3, g3, hk3, hx3, hn1, hn2⟩ := boxes hG hV zvb
 obtain ⟨lf, T, z, rfl, hT, t1, t2, t3⟩ := hl u v hv
 refine zjw vb sb T z hT w _ ((zou lf vb _ _ (zgs z _ _ t1 t2 t3)).mono ?_)
 rintro e w' ⟨rfl, rfl⟩
 exact ⟨rfl, L, u3, m, hV3, hG3, g3, fun p hp => by rw [hi p]; simp⟩
theorem add_var {vb sb : Nat} {o : Nat} (ho : 970 <= o /\ o < 1230) : znq vb sb (tV o) := by
 intro L u m w v hv hV hG
 rw [Tv.isV hv]
 obtain ⟨u3, hV3, hG3, g3, hk3, hx3, hn1, hn2⟩ := boxes hG hV (.cells #[.int .u8 ((o / 10 : Nat) : Int), .int .u8 ((o % 10 : Nat) : Int)] 263)
 have HA := add_any sb m o _ (hG3.here hV3) ho
 refine addTo_var vb sb o w (fun w1 => Bits sb (addB m o) w1 /\ Gb sb (((w.alloc (.cells #[.pointer (some ⟨vb, 0, none⟩)] 328)).alloc (.cells #[.pointer (some ⟨sb, 0, none⟩)] 297)).alloc (.cells #[.int .u8 ((o / 10 : Nat) : Int), .int .u8 ((o % 10 : Nat) : Int)] 263)) w1) _ HA ?_
 rintro w1 ⟨hb1, g1⟩
 obtain ⟨c, hc⟩ := hG3.bits.blk
 obtain ⟨u4, hV4, g4, e4, _⟩ := hV3.beside hc zed hG3.ne g1
 have hb4 : Bits sb (addB m o) u4 := hb1.of e4
 have hG4 := hG3.more hb4 g4 (fun p hp h => by rw [zme ho.1 hp.1, h]; rfl)
 have hx4 := hx3.gb hG3.bits g4
 refine ⟨by rw [Lib.cell_of_heap (hx4.here hV4 hn1 hn2).1]; rfl, ?_⟩
 refine (zou (.inr (.inr ⟨o, rfl⟩)) vb _ _ (zgs _ _ _ (by decide) (by decide) (by decide))).mono ?_
 rintro e w' ⟨rfl, rfl⟩
 refine ⟨rfl, L, u4, addB m o, hV4, hG4, g3.trans g4, fun p hp => ?_⟩
 rw [zme ho.1 hp.1]
 have e5 : inT p (tV o) = decide (p = o) := by
  simp only [inT]
  rw [Bool.eq_iff_iff]; simp
  exact eq_comm
 rw [e5]
theorem addTo_any (vb sb : Nat) : ∀ t : Ty, Ok t -> znq vb sb t := by
 intro t
 induction t with
 | nil => intro h; exact h.elim
 | node g o uu a b iha ihb =>
  intro h
  cases uu
  have h0 := h
  rcases h with ⟨rfl, rfl, rfl, rfl⟩ | ⟨rfl, rfl, rfl, rfl⟩ | ⟨rfl, ho, rfl, rfl⟩ | ⟨rfl, rfl, ha, rfl⟩ | ⟨rfl, rfl, ha, hb⟩ | ⟨rfl, rfl, ha, hb⟩
  · exact add_leaf (t := tI) (fun p => by simp [inT]) fun u v hv => ⟨by rw [hv.isI]; exact .inl rfl, _, _, hv.isI, by decide, by decide, by decide, by decide⟩
  · exact add_leaf (t := tB) (fun p => by simp [inT]) fun u v hv => ⟨by rw [hv.isB]; exact .inr (.inl rfl), _, _, hv.isB, by decide, by decide, by decide, by decide⟩
  · exact add_var ho
  · refine zlv h0 (fun u v hv => ?_) ?_
    · obtain ⟨q, x, rfl, hq, _⟩ := Tv.isL hv
      exact ⟨q, 1, _, .inl ⟨rfl, rfl⟩, hq, ndL _ _, _, _, rfl, by decide⟩
    · intro b1 b2 L u m w v hn1 hn2 hx hv hV hG
      obtain ⟨q, x, rfl, hq, hxx⟩ := Tv.isL hv
      have C := zde (iha ha) hn1 hn2 L u m w x hxx hV hG hx
      obtain ⟨T, z, rfl⟩ := hxx.iface
      refine (eachPart_L _ _ _ zdr q T z w (AdQ vb sb a u m) (hV.partL hq) C).mono ?_
      rintro e w1 ⟨rfl, L1, u1, m1, h1, h2, h3, h4⟩
      exact ⟨rfl, L1, u1, m1, h1, h2, h3, fun p hp => by rw [h4 p hp]; simp [inT]⟩
  · refine zlv h0 (fun u v hv => ?_) ?_
    · obtain ⟨q, x, y, rfl, hq, _⟩ := Tv.isP hv
      exact ⟨q, 2, _, .inr (.inl ⟨rfl, rfl⟩), hq, ndP _ _ _, _, _, rfl, by decide⟩
    · intro b1 b2 L u m w v hn1 hn2 hx hv hV hG
      obtain ⟨q, x, y, rfl, hq, hxx, hyy⟩ := Tv.isP hv
      have C := zde (iha ha) hn1 hn2 L u m w x hxx hV hG hx
      obtain ⟨T, z, rfl⟩ := hxx.iface
      obtain ⟨S, y', rfl⟩ := hyy.iface
      obtain ⟨c, hc⟩ := hG.bits.blk
      refine (eachPart_P _ _ _ zdr q T S z y' w (AdQ vb sb a u m) (AdQ vb sb (tP a b) u m) (hV.partP0 hq) C ?_)
      rintro w1 ⟨L1, u1, m1, h1, h2, h3, h4⟩
      have hk := h3.keptN' hc zed
      refine ⟨h1.partP1 (hk _ _ _ (.inr (.inl rfl)) hq), ?_⟩
      refine (zde (ihb hb) hn1 hn2 L1 u1 m1 w1 _ (Tv.keptN hk _ _ hyy) h1 h2 (hx.gb hG.bits h3)).mono ?_
      rintro e w2 ⟨rfl, L2, u2, m2, k1, k2, k3, k4⟩
      exact ⟨rfl, L2, u2, m2, k1, k2, h3.trans k3, fun p hp => by rw [k4 p hp, h4 p hp]; simp [inT, Bool.or_assoc]⟩
  · refine zlv h0 (fun u v hv => ?_) ?_
    · obtain ⟨q, x, y, rfl, hq, _⟩ := Tv.isF hv
      exact ⟨q, 2, _, .inr (.inr ⟨rfl, rfl⟩), hq, ndF _ _ _, _, _, rfl, by decide⟩
    · intro b1 b2 L u m w v hn1 hn2 hx hv hV hG
      obtain ⟨q, x, y, rfl, hq, hxx, hyy⟩ := Tv.isF hv
      have C := zde (iha ha) hn1 hn2 L u m w x hxx hV hG hx
      obtain ⟨T, z, rfl⟩ := hxx.iface
      obtain ⟨S, y', rfl⟩ := hyy.iface
      obtain ⟨c, hc⟩ := hG.bits.blk
      refine (eachPart_F _ _ _ zdr q T S z y' w (AdQ vb sb a u m) (AdQ vb sb (tF a b) u m) (hV.partF0 hq) C ?_)
      rintro w1 ⟨L1, u1, m1, h1, h2, h3, h4⟩
      have hk := h3.keptN' hc zed
      refine ⟨h1.partF1 (hk _ _ _ (.inr (.inr rfl)) hq), ?_⟩
      refine (zde (ihb hb) hn1 hn2 L1 u1 m1 w1 _ (Tv.keptN hk _ _ hyy) h1 h2 (hx.gb hG.bits h3)).mono ?_
      rintro e w2 ⟨rfl, L2, u2, m2, k1, k2, k3, k4⟩
      exact ⟨rfl, L2, u2, m2, k1, k2, h3.trans k3, fun p hp => by rw [k4 p hp, h4 p hp]; simp [inT, Bool.or_assoc]⟩
end Go.Proofs.YtceadeaodbadlaaGreatDoor
namespace Go.Proofs.YtceadeaodbadlaaGreatDoor
open Go.RowKit
set_option maxRecDepth 100000
abbrev zset : Obj := (.cells #[.int .u16 0, .int .u16 0, .int .u16 0, .int .u16 0, .int .u16 0, .int .u16 0, .int .u16 0, .int .u16 0, .int .u16 0, .int .u16 0, .int .u16 0, .int .u16 0, .int .u16 0, .int .u16 0, .int .u16 0, .int .u16 0, .int .u16 0, .int .u16 0, .int .u16 0, .int .u16 0, .int .u16 0, .int .u16 0, .int .u16 0, .int .u16 0, .int .u16 0, .int .u16 0] 304)
theorem Bits.zero (w : World) : Bits w.heap.size (fun _ => 0) (w.alloc zset) := by
 refine ⟨⟨_, heap_alloc_new w _, rfl, fun k hk => ?_⟩, fun k => (by simp)⟩
 have e : (#[.int .u16 0, .int .u16 0, .int .u16 0, .int .u16 0, .int .u16 0, .int .u16 0, .int .u16 0, .int .u16 0, .int .u16 0, .int .u16 0, .int .u16 0, .int .u16 0, .int .u16 0, .int .u16 0, .int .u16 0, .int .u16 0, .int .u16 0, .int .u16 0, .int .u16 0, .int .u16 0, .int .u16 0, .int .u16 0, .int .u16 0, .int .u16 0, .int .u16 0, .int .u16 0] : Array Value) = Array.replicate 26 (.int .u16 0) := rfl
 show (#[.int .u16 0, .int .u16 0, .int .u16 0, .int .u16 0, .int .u16 0, .int .u16 0, .int .u16 0, .int .u16 0, .int .u16 0, .int .u16 0, .int .u16 0, .int .u16 0, .int .u16 0, .int .u16 0, .int .u16 0, .int .u16 0, .int .u16 0, .int .u16 0, .int .u16 0, .int .u16 0, .int .u16 0, .int .u16 0, .int .u16 0, .int .u16 0, .int .u16 0, .int .u16 0] : Array Value)[k]? = _
 rw [e, Array.getElem?_replicate, if_pos hk]
 rfl
theorem zno (p : Nat) : hasB (fun _ => 0) p = false := by simp [hasB]
theorem sizeVars : (Tryz.prog.info? 304).map (·.size) = some 26 := by kernel_rfl
def MV (m : Nat -> Nat) (c : Array Value) : Prop := c.size = 26 /\ (∀ k, k < 26 -> c[k]? = some (.int .u16 (m k : Int))) /\ ∀ k, m k < 1024
theorem MV.one {m : Nat -> Nat} {c : Array Value} (h : MV m c) : c.all (·.oneCell') = true := by
 rw [Array.all_eq_true]
 intro i hi
 have h1 := h.2.1 i (by rw [<- h.1]; exact hi)
 rw [Array.getElem?_eq_getElem hi, Option.some.injEq] at h1
 rw [h1]
 rfl
theorem MV.size {m : Nat -> Nat} {c : Array Value} (h : MV m c) : (Tryz.prog.info? 304).map (·.size) = some c.size := by rw [h.1]; exact sizeVars
theorem Bits.val {g : Nat} {m : Nat -> Nat} {w : World} (h : Bits g m w) : ∃ c, w.heap[g]? = some (.cells c 304 (0, 0)) /\ MV m c := by
 obtain ⟨⟨c, h1, h2, h3⟩, h4⟩ := h
 exact ⟨c, h1, h2, h3, h4⟩
theorem MV.bits {g : Nat} {m : Nat -> Nat} {w : World} {c : Array Value} (h : MV m c) (hg : w.heap[g]? = some (.cells c 304 (0, 0))) : Bits g m w := ⟨⟨c, hg, h.1, h.2.1⟩, h.2.2⟩
theorem zin (t : Ty) (ht : Ok t) (v : Value) (w : World) (hv : Tv w t v) :
 Calls Tryz.prog 240 #[v] w fun e w' => ∃ m c, e = .returned (.agg c) /\ MV m c /\ (∀ p, 970 <= p /\ p < 1230 -> hasB m p = inT p t) /\ Below w.heap.size w w' := by
 have b2 : Below w.heap.size w ((w.alloc zset).alloc zset) := (bal w _).alloc (by simp) _
 have b3 : Below w.heap.size w (((w.alloc zset).alloc zset).alloc visO) := b2.alloc b2.size _
 have hB : Bits (w.heap.size + 1) (fun _ => 0) (((w.alloc zset).alloc zset).alloc visO) := by
  have h := Bits.zero (w.alloc zset)
  have e1 : (w.alloc zset).heap.size = w.heap.size + 1 := by simp
  rw [e1] at h
  exact h.of (Lib.alloc_old _ _ _ (by simp))
 have hVn : Vs (w.heap.size + 2) [] (((w.alloc zset).alloc zset).alloc visO) (((w.alloc zset).alloc zset).alloc visO) := by
  have h := Vs.new ((w.alloc zset).alloc zset)
  have e1 : ((w.alloc zset).alloc zset).heap.size = w.heap.size + 2 := by simp
  rw [e1] at h
  exact h
 have A := addTo_any (w.heap.size + 2) (w.heap.size + 1) t ht [] _ (fun _ => 0) _ v (hv.below b3) hVn ⟨hB, by omega, fun q k f hm => by cases hm⟩
 obtain ⟨T, z, rfl⟩ := hv.iface
 clear hv hB hVn
 go_enter_defers Tryz.func240, Tryz.ntmps240
 go_wp2_with fail
 refine A.mono ?_
 rintro e w1 ⟨rfl, L, u, m, hV, hG, g, hm⟩
 have hb := hG.here hV
 obtain ⟨c, hc, hM⟩ := hb.val
 have hm2 : ∀ p, 970 <= p /\ p < 1230 -> hasB m p = inT p t := fun p hp => by rw [hm p hp, zno, Bool.false_or]
 have hB0 : Bits w.heap.size (fun _ => 0) (((w.alloc zset).alloc zset).alloc visO) := (Bits.zero w).of ((Lib.alloc_old _ _ _ (by simp; omega)).trans (Lib.alloc_old _ _ _ (by simp)))
 obtain ⟨c0, hc0, hM0⟩ := hB0.val
 have hc0' : w1.heap[w.heap.size]? = some (.cells c0 304 (0, 0)) := by
  refine hV.other ?_ zed (by omega)
  rw [g.block _ (by simp; omega) (by simp)]; exact hc0
 have hz : c0.size = c.size := by rw [hM0.1, hM.1]
 have gs : Gb w.heap.size w1 (w1.setRow w.heap.size c) := ⟨rfl, rfl, rfl, by simp, fun k _ hk => setRow_other _ _ _ _ (by simpa using hk)⟩
 have hcu : u.heap[w.heap.size]? = some (.cells c0 304 (0, 0)) := by
  rw [g.block _ (by simp; omega) (by simp)]; exact hc0
 obtain ⟨u2, hV2, g2, hu2, -⟩ := hV.beside hcu zed (by omega) gs
 have hr2 : (w1.setRow w.heap.size c).heap[w.heap.size]? = some (.cells c 304 (0, 0)) := setRow_heap _ _ _ _ _ _ hc0'
 clear A hB0 hM0 hc0
 go_wp2_with (first | refine wpList_load_row rfl _ _ rfl (w.heap.size + 1) rfl _ c (0, 0) _ hc Tryz.underlying304 rfl hM.size ?_ | refine wpList_store_row rfl _ _ _ rfl w.heap.size c rfl rfl _ c0 hc0' hM.size hz hM.one ?_ | fail)
 refine leaves_cons (f := 198) (args := #[.pointer (some ⟨w.heap.size + 2, 0, none⟩)]) (by simp) (by simp [go_sem]) ?_
 refine (zex (w.heap.size + 2) L u2 .returning _ hV2).mono ?_
 rintro e u' w2 ⟨rfl, rfl, hE⟩
 have hr3 : w2.heap[w.heap.size]? = some (.cells c 304 (0, 0)) := by
  rw [hE.blk _ (by omega)]
  exact hu2.trans hr2
 refine ⟨_, results_cell_row rfl _ w2 w.heap.size _ c (0, 0) _ rfl hr3 Tryz.underlying304 rfl hM.size, m, c, rfl, hM, hm2, ?_⟩
 refine ⟨?_, ?_, ?_, ?_, fun k hk => ?_⟩
 · rw [hE.os, g2.os, g.os]; rfl
 · rw [hE.tape, g2.tape, g.tape]; rfl
 · rw [hE.output, g2.output, g.output]; rfl
 · rw [hE.size]; exact Nat.le_trans (Nat.le_trans b3.size g.size) g2.size
 · rw [hE.blk _ (by omega), g2.block _ (Nat.lt_of_lt_of_le (Nat.lt_of_lt_of_le hk b3.size) g.size) (by simp; omega), g.block _ (Nat.lt_of_lt_of_le hk b3.size) (by simp; omega)]
   exact b3.block _ hk
end Go.Proofs.YtceadeaodbadlaaGreatDoor
namespace Go.Proofs.YtceadeaodbadlaaGreatDoor
open Go.RowKit
def KPost (tx : Nat -> Addr) (b : Nat) (s : ByteArray) (r : TOut) (w : World) (e : Ending) (w' : World) : Prop :=
 Gb b w w' /\ match r with
  | .error p => ∃ q, e = .returned (.tuple #[.nilIface, atv q]) /\ AtErr (tx 1) q p w'
  | .ok (t, j) => ∃ v, e = .returned (.tuple #[v, .nilIface]) /\ Tv w' t v /\ Rd b s j w'
def zci (tx : Nat -> Addr) (b : Nat) (s : ByteArray) (n : Nat) : Prop :=
 ∀ (i : Nat) (w : World), Rd b s i w -> Gl tx w -> i <= s.size -> 3 * (s.size - i) + 3 <= n ->
  Calls Tryz.prog 142 #[.pointer (some ⟨b, 0, none⟩)] w (KPost tx b s (pt s n 0 i .nil) w)
def zgl (tx : Nat -> Addr) (b : Nat) (s : ByteArray) (n : Nat) : Prop :=
 ∀ (i : Nat) (w : World), Rd b s i w -> Gl tx w -> i <= s.size -> 3 * (s.size - i) + 1 <= n ->
  Calls Tryz.prog 208 #[.pointer (some ⟨b, 0, none⟩)] w (KPost tx b s (pt s n 2 i .nil) w)
theorem KPost.hand {tx : Nat -> Addr} {b : Nat} {s : ByteArray} {r : TOut} {w w1 w2 : World} {e : Ending} (hg : Gb b w w1) (h : KPost tx b s r w1 e w2) : KPost tx b s r w e w2 := ⟨hg.trans h.1, h.2⟩
theorem KPost.two {tx : Nat -> Addr} {b : Nat} {s : ByteArray} {r : TOut} {w w1 : World} {e : Ending} (h : KPost tx b s r w e w1) : ∃ u v, e = .returned (.tuple #[u, v]) := by
 obtain ⟨_, h⟩ := h
 cases r with
 | error p => obtain ⟨q, rfl, _⟩ := h; exact ⟨_, _, rfl⟩
 | ok r => obtain ⟨t, j⟩ := r; obtain ⟨v, h, _⟩ := h; exact ⟨_, _, h⟩
theorem chrAt {s : ByteArray} {i : Nat} (hlt : i < s.size) : s[i].toNat = chr s i := by simp [chr, hlt]
theorem Gb.setNew {b c k : Nat} {x y : World} {u : Value} (h : Gb b x y) (hc : x.heap.size <= c) : Gb b x (y.setCell ⟨c, k, none⟩ u) :=
 ⟨h.os, h.tape, h.output, Nat.le_trans h.size (by simp [World.setCell]), fun i hi hn => (Below.heap_setCell _ _ _ _ (by show ¬ _; simp; omega)).trans (h.block i hi hn)⟩
theorem sizeVar (a b : Value) : (Tryz.prog.info? 263).map (·.size) = some (#[a, b]).size := by kernel_rfl
theorem zmr {fn : Func} {p u : Tmp} (h : fn.results = #[.cell p 263, .tmp u]) {tmps : Array Value} {w : World} {g : Nat} {a b x : Value} {Q : Ending -> World -> Prop}
 (hp : tmps.getD p undef = .pointer (some ⟨g, 0, none⟩)) (hx : tmps.getD u undef = x) (hg : w.heap[g]? = some (.cells #[a, b] 263 (0, 0))) (hq : Q (.returned (.tuple #[.agg #[a, b], x])) w) : bodyPost Tryz.prog fn Q Exit.ret { tmps := tmps, defers := [] } w := by
 refine bodyPost_ret ?_ rfl hq
 have hl := run_loadVar_row w g 263 263 #[a, b] (0, 0) _ hg Tryz.underlying263 rfl (sizeVar a b)
 rw [results_cell_tmp h, hp, hx]
 simp [asAddr, hl, Result.andThen]
theorem Gb.un {b : Nat} {w w' : World} {o : Obj} (h : Gb b (w.alloc o) w') : Gb b w w' := ((Gb.refl b w).alloc o).trans h
theorem ziv {w : World} {g : Nat} {a b u v : Value} {T : TypeId} (hg : w.heap[g]? = some (.cells #[a, b] T (0, 0))) : ((w.setCell ⟨g, 0, none⟩ u).setCell ⟨g, 1, none⟩ v).heap[g]? = some (.cells #[u, v] T (0, 0)) := by
 simp [World.setCell, Array.getElem?_modify, hg]
theorem zcg {w : World} {g c : Nat} {u v : Value} (h : c ≠ g) : ((w.setCell ⟨g, 0, none⟩ u).setCell ⟨g, 1, none⟩ v).heap[c]? = w.heap[c]? := by
 rw [Below.heap_setCell _ _ _ _ (by show ¬ _; simp; omega), Below.heap_setCell _ _ _ _ (by show ¬ _; simp; omega)]
theorem rv_no (tx : Nat -> Addr) (b : Nat) (s : ByteArray) (i : Nat) (w : World) (h : Rd b s i w) (g : Gl tx w) (hi : i <= s.size) (hs : s.size <= 100000) (hb : 9 <= b) (hc : isLet (chr s i) = false) :
 Calls Tryz.prog 212 #[.pointer (some ⟨b, 0, none⟩)] w fun e w' => ∃ q, e = .returned (.tuple #[.agg #[.int .u8 0, .int .u8 0], atv q]) /\ AtErr (tx 1) q i w' /\ Gb b w w' := by
 have h1 := h.alloc (.cells #[.int .u8 0, .int .u8 0] 263)
 have g1 := g.gb ((Gb.refl b w).alloc (.cells #[.int .u8 0, .int .u8 0] 263)) hb
 have hbw := h.lt
 go_enter Tryz.func212, Tryz.ntmps212
 go_wp2_with fail
 refine (zjm tx b s i _ h1 g1 hi hs hc hb).mono ?_
 rintro e w1 ⟨q, rfl, ha, hg⟩
 clear hc
 have hv : w1.heap[w.heap.size]? = some (.cells #[.int .u8 0, .int .u8 0] 263 (0, 0)) := hg.old (heap_alloc_new w _) (by omega)
 have c0 : w1.cell? ⟨w.heap.size, 0, none⟩ = some (.int .u8 0) := cbl hv
 have c1 : w1.cell? ⟨w.heap.size, 1, none⟩ = some (.int .u8 0) := cbl hv
 have f0 : w1.frozen? ⟨w.heap.size, 0, none⟩ = false := Lib.frozen_of_heap hv 0
 have f1 : w1.frozen? ⟨w.heap.size, 1, none⟩ = false := Lib.frozen_of_heap hv 1
 have hq : q ≠ w.heap.size := by
  rintro rfl
  unfold AtErr at ha
  rw [hv] at ha
  simp at ha
 go_wp2_with fail
 refine zmr rfl rfl rfl (ziv hv) ?_
 exact ⟨q, rfl, (zcg hq).trans ha, (hg.un.setNew (Nat.le_refl _)).setNew (Nat.le_refl _)⟩
theorem rv_yes (b : Nat) (s : ByteArray) (i : Nat) (w : World) (h : Rd b s i w) (hi : i <= s.size) (hs : s.size <= 100000) (hc : isLet (chr s i) = true) :
 Calls Tryz.prog 212 #[.pointer (some ⟨b, 0, none⟩)] w fun e w' => e = .returned (.tuple #[kv (vnum (chr s i) (chr s (i + 1))), .nilIface]) /\ Rd b s (vEnd s i) w' /\ Gb b w w' := by
 have hlt : i < s.size := zaf (by intro e; rw [e] at hc; exact absurd hc (by decide))
 have hl := zkf s (i + 1)
 have HC : Hid (isLet (chr s i) = true) := hc
 clear hc
 have h1 := h.alloc (.cells #[.int .u8 0, .int .u8 0] 263)
 have hbw := h.lt
 by_cases hd : 49 <= chr s (i + 1) /\ chr s (i + 1) <= 57
 · have hlt2 : i + 1 < s.size := zaf (by omega)
   have HV : Hid (kv (vnum (chr s i) (chr s (i + 1))) = .agg #[.int .u8 (chr s i : Int), .int .u8 ((chr s (i + 1) : Int) - 48)]) := by
    unfold Hid
    rw [vnum, if_pos hd]; unfold kv
    have e1 : (10 * chr s i + (chr s (i + 1) - 48)) / 10 = chr s i := by omega
    have e2 : (10 * chr s i + (chr s (i + 1) - 48)) % 10 = chr s (i + 1) - 48 := by omega
    have e3 : ((chr s (i + 1) - 48 : Nat) : Int) = (chr s (i + 1) : Int) - 48 := by omega
    rw [e1, e2, e3]
   have HJ : Hid (vEnd s i = i + 2) := by unfold Hid vEnd; rw [if_pos hd]
   have d1 : decide ((chr s (i + 1) : Int) < 49) = false := by simp; omega
   have d2 : decide ((57 : Int) < (chr s (i + 1) : Int)) = false := by simp; omega
   go_enter Tryz.func212, Tryz.ntmps212
   go_wp2_with fail
   refine (zdv b s i _ h1 hs HC.out).mono ?_
   rintro e w1 ⟨rfl, hr, hg⟩
   go_wp2_with fail
   refine (zej b s (i + 1) w1 hr (by omega) hs).mono ?_
   rintro e w2 ⟨rfl, d, rfl⟩
   go_wp2_with fail
   refine (zma b s (i + 1) _ (hr.drewN d) hlt2 hs).mono ?_
   rintro e w3 ⟨rfl, hr3, hg3⟩
   have hg4 := (hg.drewN d).trans hg3
   have hv : w3.heap[w.heap.size]? = some (.cells #[.int .u8 0, .int .u8 0] 263 (0, 0)) := hg4.old (heap_alloc_new w _) (by omega)
   have c0 : w3.cell? ⟨w.heap.size, 0, none⟩ = some (.int .u8 0) := cbl hv
   have c1 : w3.cell? ⟨w.heap.size, 1, none⟩ = some (.int .u8 0) := cbl hv
   have f0 : w3.frozen? ⟨w.heap.size, 0, none⟩ = false := Lib.frozen_of_heap hv 0
   have f1 : w3.frozen? ⟨w.heap.size, 1, none⟩ = false := Lib.frozen_of_heap hv 1
   go_wp2_with fail
   refine zmr rfl rfl rfl (ziv hv) ?_
   refine ⟨?_, ?_, (hg4.un.setNew (Nat.le_refl _)).setNew (Nat.le_refl _)⟩
   · rw [HV.out]; rfl
   · rw [HJ.out]; exact (zcg (by omega)).trans hr3
 · have HV : Hid (kv (vnum (chr s i) (chr s (i + 1))) = .agg #[.int .u8 (chr s i : Int), .int .u8 0]) := by
    unfold Hid
    rw [vnum, if_neg hd]; unfold kv
    have e1 : (10 * chr s i + 0) / 10 = chr s i := by omega
    have e2 : (10 * chr s i + 0) % 10 = 0 := by omega
    rw [e1, e2]; rfl
   have HJ : Hid (vEnd s i = i + 1) := by unfold Hid vEnd; rw [if_neg hd]
   by_cases h1' : chr s (i + 1) < 49
   · have d1 : decide ((chr s (i + 1) : Int) < 49) = true := by simp; omega
     go_enter Tryz.func212, Tryz.ntmps212
     go_wp2_with fail
     refine (zdv b s i _ h1 hs HC.out).mono ?_
     rintro e w1 ⟨rfl, hr, hg⟩
     go_wp2_with fail
     refine (zej b s (i + 1) w1 hr (by omega) hs).mono ?_
     rintro e w2 ⟨rfl, d, rfl⟩
     have hr3 := hr.drewN d
     have hg4 := hg.drewN d
     have hv : (w1.drewN d).heap[w.heap.size]? = some (.cells #[.int .u8 0, .int .u8 0] 263 (0, 0)) := hg4.old (heap_alloc_new w _) (by omega)
     have c0 : (w1.drewN d).cell? ⟨w.heap.size, 0, none⟩ = some (.int .u8 0) := cbl hv
     have c1 : (w1.drewN d).cell? ⟨w.heap.size, 1, none⟩ = some (.int .u8 0) := cbl hv
     have f0 : (w1.drewN d).frozen? ⟨w.heap.size, 0, none⟩ = false := Lib.frozen_of_heap hv 0
     have f1 : (w1.drewN d).frozen? ⟨w.heap.size, 1, none⟩ = false := Lib.frozen_of_heap hv 1
     generalize w1.drewN d = w3 at *
     go_wp2_with fail
     refine zmr rfl rfl rfl (ziv hv) ?_
     refine ⟨?_, ?_, (hg4.un.setNew (Nat.le_refl _)).setNew (Nat.le_refl _)⟩
     · rw [HV.out]; rfl
     · rw [HJ.out]; exact (zcg (by omega)).trans hr3
   · have d1 : decide ((chr s (i + 1) : Int) < 49) = false := by simp; omega
     have d2 : decide ((57 : Int) < (chr s (i + 1) : Int)) = true := by simp; omega
     go_enter Tryz.func212, Tryz.ntmps212
     go_wp2_with fail
     refine (zdv b s i _ h1 hs HC.out).mono ?_
     rintro e w1 ⟨rfl, hr, hg⟩
     go_wp2_with fail
     refine (zej b s (i + 1) w1 hr (by omega) hs).mono ?_
     rintro e w2 ⟨rfl, d, rfl⟩
     have hr3 := hr.drewN d
     have hg4 := hg.drewN d
     have hv : (w1.drewN d).heap[w.heap.size]? = some (.cells #[.int .u8 0, .int .u8 0] 263 (0, 0)) := hg4.old (heap_alloc_new w _) (by omega)
     have c0 : (w1.drewN d).cell? ⟨w.heap.size, 0, none⟩ = some (.int .u8 0) := cbl hv
     have c1 : (w1.drewN d).cell? ⟨w.heap.size, 1, none⟩ = some (.int .u8 0) := cbl hv
     have f0 : (w1.drewN d).frozen? ⟨w.heap.size, 0, none⟩ = false := Lib.frozen_of_heap hv 0
     have f1 : (w1.drewN d).frozen? ⟨w.heap.size, 1, none⟩ = false := Lib.frozen_of_heap hv 1
     generalize w1.drewN d = w3 at *
     go_wp2_with fail
     refine zmr rfl rfl rfl (ziv hv) ?_
     refine ⟨?_, ?_, (hg4.un.setNew (Nat.le_refl _)).setNew (Nat.le_refl _)⟩
     · rw [HV.out]; rfl
     · rw [HJ.out]; exact (zcg (by omega)).trans hr3
def vOut (s : ByteArray) (i : Nat) : TOut := .ok (tV (vnum (chr s i) (chr s (i + 1))), vEnd s i)
theorem zpk (tx : Nat -> Addr) (b : Nat) (s : ByteArray) (i : Nat) (w : World) (h : Rd b s i w) (g : Gl tx w) (hi : i <= s.size) (hs : s.size <= 100000) (hb : 9 <= b) (hc : isLet (chr s i) = false) :
 Calls Tryz.prog 231 #[.pointer (some ⟨b, 0, none⟩)] w (KPost tx b s (.error i) w) := by
 go_enter Tryz.func231, Tryz.ntmps231
 go_wp2_with fail
 refine (rv_no tx b s i w h g hi hs hb hc).mono ?_
 rintro e w1 ⟨q, rfl, ha, hg⟩
 clear hc
 have hq : AtErr (tx 1) q i (w1.alloc (.cells #[.int .u8 0, .int .u8 0] 263)) := (Below.heap_alloc _ _ _ (Array.getElem?_eq_some_iff.1 ha).1).trans ha
 go_wp2_with fail
 go_ret2
 exact ⟨hg.alloc _, q, rfl, hq⟩
theorem zoi (tx : Nat -> Addr) (b : Nat) (s : ByteArray) (i : Nat) (w : World) (h : Rd b s i w) (g : Gl tx w) (hi : i <= s.size) (hs : s.size <= 100000) (hb : 9 <= b) (hc : isLet (chr s i) = true) :
 Calls Tryz.prog 231 #[.pointer (some ⟨b, 0, none⟩)] w (KPost tx b s (vOut s i) w) := by
 have R := rv_yes b s i w h hi hs hc
 clear hc
 generalize hv : vnum (chr s i) (chr s (i + 1)) = o at R
 have HO : Hid (vOut s i = .ok (tV o, vEnd s i)) := by unfold Hid vOut; rw [hv]
 clear hv
 go_enter Tryz.func231, Tryz.ntmps231
 go_wp2_with fail
 refine R.mono ?_
 rintro e w1 ⟨rfl, hr, hg⟩
 go_wp2_with fail
 go_ret2
 refine ⟨hg.alloc _, ?_⟩
 rw [HO.out]
 exact ⟨_, rfl, Tv.V _ o, hr.alloc _⟩
def cbOut (s : ByteArray) (n i c : Nat) : TOut :=
 match pt s n 0 i .nil with
 | .error p => .error p
 | .ok (a, j) => if chr s j = c then .ok (a, j + 1) else .error j
theorem zjl (tx : Nat -> Addr) (b : Nat) (s : ByteArray) (n i c : Nat) (w : World) (ih : zci tx b s n) (h : Rd b s i w) (g : Gl tx w) (hi : i <= s.size) (hs : s.size <= 100000) (hb : 9 <= b) (hn : 3 * (s.size - i) + 3 <= n) (hc0 : c ≠ 0) :
 Calls Tryz.prog 229 #[.pointer (some ⟨b, 0, none⟩), .int .u8 (c : Int)] w (KPost tx b s (cbOut s n i c) w) := by
 go_enter Tryz.func229, Tryz.ntmps229
 go_wp2_with fail
 refine (ih i w h g hi hn).mono ?_
 rintro e w1 ⟨hg, hp⟩
 cases hq : pt s n 0 i .nil with
 | error p =>
  rw [hq] at hp
  obtain ⟨q, rfl, ha⟩ := hp
  have HR : Hid (cbOut s n i c = .error p) := by unfold Hid cbOut; rw [hq]
  clear hq
  go_wp2_with fail
  go_ret2
  rw [HR.out]
  exact ⟨hg, q, rfl, ha⟩
 | ok r =>
  obtain ⟨t, j⟩ := r
  rw [hq] at hp
  obtain ⟨v, rfl, hv, hr⟩ := hp
  obtain ⟨T, x, rfl⟩ := hv.iface
  have pl := zav s _ _ _ _ _ _ hq hi (by omega)
  have hj2 : j <= s.size := pl.2.1
  clear pl
  by_cases h41 : chr s j = c
  · have HR : Hid (cbOut s n i c = .ok (t, j + 1)) := by unfold Hid cbOut; simp only [hq]; rw [if_pos h41]
    have H41 : Hid (chr s j = c) := h41
    clear hq h41
    go_wp2_with fail
    refine (zdl b s j c w1 hr hs H41.out hc0).mono ?_
    rintro e w2 ⟨rfl, hr2, hg2⟩
    go_wp2_with fail
    go_ret2
    rw [HR.out]
    exact ⟨hg.trans hg2, _, rfl, Tv.kept (hg2.kept hr) _ _ hv, hr2⟩
  · have HR : Hid (cbOut s n i c = .error j) := by unfold Hid cbOut; simp only [hq]; rw [if_neg h41]
    have H41 : Hid (chr s j ≠ c) := h41
    clear hq h41
    go_wp2_with fail
    refine (zey tx b s j c w1 hr (g.gb hg hb) hj2 hs H41.out hb).mono ?_
    rintro e w2 ⟨q, rfl, ha, hg2⟩
    go_wp2_with fail
    go_ret2
    rw [HR.out]
    exact ⟨hg.trans hg2, q, rfl, ha⟩
def unOut (s : ByteArray) (n i : Nat) : TOut := pt s (n + 1) 2 i .nil
theorem un_I {s : ByteArray} {n i : Nat} (h : chr s i = 73) : unOut s n i = .ok (tI, i + 1) := by unfold unOut; rw [pt, if_pos h]
theorem un_B {s : ByteArray} {n i : Nat} (h : chr s i = 66) : unOut s n i = .ok (tB, i + 1) := by unfold unOut; rw [pt, if_neg (by omega), if_pos h]
theorem un_L {s : ByteArray} {n i : Nat} (h : chr s i = 91) : unOut s n i = match cbOut s n (i + 1) 93 with | .error p => .error p | .ok (a, j) => .ok (tL a, j) := by
 unfold unOut cbOut; rw [pt, if_neg (by omega), if_neg (by omega), if_pos h]
 cases pt s n 0 (i + 1) .nil with
 | error p => rfl
 | ok r => obtain ⟨a, j⟩ := r; by_cases h2 : chr s j = 93 <;> simp [h2]
theorem un_C {s : ByteArray} {n i : Nat} (h : chr s i = 40) : unOut s n i = cbOut s n (i + 1) 41 := by
 unfold unOut cbOut; rw [pt, if_neg (by omega), if_neg (by omega), if_neg (by omega), if_pos h]
 cases pt s n 0 (i + 1) .nil <;> rfl
theorem un_V {s : ByteArray} {n i : Nat} (h1 : chr s i ≠ 73) (h2 : chr s i ≠ 66) (h3 : chr s i ≠ 91) (h4 : chr s i ≠ 40) (h : isLet (chr s i) = true) : unOut s n i = vOut s i := by
 unfold unOut vOut vEnd; rw [pt, if_neg h1, if_neg h2, if_neg h3, if_neg h4, if_pos h]
theorem un_N {s : ByteArray} {n i : Nat} (h1 : chr s i ≠ 73) (h2 : chr s i ≠ 66) (h3 : chr s i ≠ 91) (h4 : chr s i ≠ 40) (h : isLet (chr s i) = false) : unOut s n i = .error i := by
 unfold unOut; rw [pt, if_neg h1, if_neg h2, if_neg h3, if_neg h4, if_neg (by rw [h]; decide)]
theorem cbOut_size {s : ByteArray} {n i c j : Nat} {t : Ty} (h : cbOut s n i c = .ok (t, j)) (hi : i <= s.size) : Ok t /\ sz t <= s.size := by
 unfold cbOut at h
 split at h
 · cases h
 · rename_i h1
   have p := zav s _ _ _ _ _ _ h1 hi (by omega)
   have q := zfd s _ _ _ _ _ _ h1 hi (by omega)
   simp at q
   split at h
   · cases h; exact ⟨p.2.2, by omega⟩
   · cases h
theorem Gb.of_below {b : Nat} {w w' : World} (h : Below w.heap.size w w') : Gb b w w' := ⟨h.os, h.tape, h.output, h.size, fun k hk _ => h.block k hk⟩
theorem Rd.below {b : Nat} {s : ByteArray} {i : Nat} {w w' : World} (h : Rd b s i w) (hb : Below w.heap.size w w') : Rd b s i w' := (hb.block b h.lt).trans h
theorem ne_at {s : ByteArray} {i c : Nat} (h : chr s i ≠ c) : ∀ hlt : i < s.size, s[i].toNat ≠ c := by intro hlt; rw [chrAt hlt]; exact h
theorem unit_tI (tx : Nat -> Addr) (b : Nat) (s : ByteArray) (n i : Nat) (w : World) (ih : zci tx b s n) (h : Rd b s i w) (g : Gl tx w) (hi : i <= s.size) (hs : s.size <= 100000) (hb : 9 <= b) (hn : 3 * (s.size - i) + 1 <= n + 1) (H : Hid (chr s i = 73)) :
 Calls Tryz.prog 208 #[.pointer (some ⟨b, 0, none⟩)] w (KPost tx b s (unOut s n i) w) := by
 have HR : Hid (unOut s n i = .ok (tI, i + 1)) := un_I H.out
 have hlt : i < s.size := zaf (by rw [H.out]; decide)
 go_enter Tryz.func208, Tryz.ntmps208
 go_wp2_with fail
 refine (zbu b s i 73 w h hlt hs ((chrAt hlt).trans H.out)).mono ?_
 rintro e w1 ⟨rfl, hr, hg0⟩
 have hg : Gb b w w1 := hg0
 go_wp2_with fail
 go_ret2
 refine ⟨hg, ?_⟩
 rw [HR.out]
 exact ⟨_, rfl, Tv.I _, hr⟩
theorem unit_tB (tx : Nat -> Addr) (b : Nat) (s : ByteArray) (n i : Nat) (w : World) (ih : zci tx b s n) (h : Rd b s i w) (g : Gl tx w) (hi : i <= s.size) (hs : s.size <= 100000) (hb : 9 <= b) (hn : 3 * (s.size - i) + 1 <= n + 1) (H : Hid (chr s i = 66)) (N73 : Hid (chr s i ≠ 73)) :
 Calls Tryz.prog 208 #[.pointer (some ⟨b, 0, none⟩)] w (KPost tx b s (unOut s n i) w) := by
 have HR : Hid (unOut s n i = .ok (tB, i + 1)) := un_B H.out
 have hlt : i < s.size := zaf (by rw [H.out]; decide)
 go_enter Tryz.func208, Tryz.ntmps208
 go_wp2_with fail
 refine (zbh b s i 73 w h hi hs (ne_at N73.out)).mono ?_
 rintro e wt0 ⟨rfl, d0, rfl⟩
 go_wp2_with fail
 refine (zbu b s i 66 _ (h.drewN _) hlt hs ((chrAt hlt).trans H.out)).mono ?_
 rintro e w1 ⟨rfl, hr, hg0⟩
 have hg : Gb b w w1 := ((Gb.refl b w).drewN _).trans hg0
 go_wp2_with fail
 go_ret2
 refine ⟨hg, ?_⟩
 rw [HR.out]
 exact ⟨_, rfl, Tv.B _, hr⟩
theorem unit_tL (tx : Nat -> Addr) (b : Nat) (s : ByteArray) (n i : Nat) (w : World) (ih : zci tx b s n) (h : Rd b s i w) (g : Gl tx w) (hi : i <= s.size) (hs : s.size <= 100000) (hb : 9 <= b) (hn : 3 * (s.size - i) + 1 <= n + 1) (H : Hid (chr s i = 91)) (N73 : Hid (chr s i ≠ 73)) (N66 : Hid (chr s i ≠ 66)) :
 Calls Tryz.prog 208 #[.pointer (some ⟨b, 0, none⟩)] w (KPost tx b s (unOut s n i) w) := by
 have HR : Hid (_ = _) := @un_L s n i H.out
 have hlt : i < s.size := zaf (by rw [H.out]; decide)
 go_enter Tryz.func208, Tryz.ntmps208
 go_wp2_with fail
 refine (zbh b s i 73 w h hi hs (ne_at N73.out)).mono ?_
 rintro e wt0 ⟨rfl, d0, rfl⟩
 go_wp2_with fail
 refine (zbh b s i 66 _ (h.drewN _) hi hs (ne_at N66.out)).mono ?_
 rintro e wt1 ⟨rfl, d1, rfl⟩
 go_wp2_with fail
 refine (zbu b s i 91 _ (h.drewN _) hlt hs ((chrAt hlt).trans H.out)).mono ?_
 rintro e w1 ⟨rfl, hr, hg0⟩
 have hg : Gb b w w1 := ((Gb.refl b w).drewN _).trans hg0
 go_wp2_with fail
 refine (zjl tx b s n (i + 1) 93 w1 ih hr (g.gb hg hb) hlt hs hb (by omega) (by decide)).mono ?_
 rintro e w2 ⟨hg2, hp⟩
 cases hq : cbOut s n (i + 1) 93 with
 | error p =>
  rw [hq] at hp HR
  obtain ⟨q, rfl, ha⟩ := hp
  clear hq
  go_wp2_with fail
  go_ret2
  refine ⟨hg.trans hg2, ?_⟩
  rw [HR.out]
  exact ⟨q, rfl, ha⟩
 | ok r =>
  obtain ⟨t, j⟩ := r
  rw [hq] at hp HR
  obtain ⟨v, rfl, hv, hr2⟩ := hp
  have HZ := cbOut_size hq hlt
  clear hq
  have NL := newList_any t v w2 HZ.1 hv (by have := HZ.2; omega)
  obtain ⟨T, x, rfl⟩ := hv.iface
  go_wp2_with fail
  refine NL.mono ?_
  rintro e w3 ⟨q, rfl, hv3, hb3⟩
  have hg3 : Gb b w2 w3 := ⟨hb3.os, hb3.tape, hb3.output, hb3.size, fun k hk _ => hb3.block k hk⟩
  have hr3 : Rd b s j w3 := (hb3.block b hr2.lt).trans hr2
  go_wp2_with fail
  go_ret2
  refine ⟨(hg.trans hg2).trans hg3, ?_⟩
  rw [HR.out]
  exact ⟨_, rfl, hv3, hr3⟩
theorem unit_tC (tx : Nat -> Addr) (b : Nat) (s : ByteArray) (n i : Nat) (w : World) (ih : zci tx b s n) (h : Rd b s i w) (g : Gl tx w) (hi : i <= s.size) (hs : s.size <= 100000) (hb : 9 <= b) (hn : 3 * (s.size - i) + 1 <= n + 1) (H : Hid (chr s i = 40)) (N73 : Hid (chr s i ≠ 73)) (N66 : Hid (chr s i ≠ 66)) (N91 : Hid (chr s i ≠ 91)) :
 Calls Tryz.prog 208 #[.pointer (some ⟨b, 0, none⟩)] w (KPost tx b s (unOut s n i) w) := by
 have HR : Hid (unOut s n i = cbOut s n (i + 1) 41) := un_C H.out
 have hlt : i < s.size := zaf (by rw [H.out]; decide)
 go_enter Tryz.func208, Tryz.ntmps208
 go_wp2_with fail
 refine (zbh b s i 73 w h hi hs (ne_at N73.out)).mono ?_
 rintro e wt0 ⟨rfl, d0, rfl⟩
 go_wp2_with fail
 refine (zbh b s i 66 _ (h.drewN _) hi hs (ne_at N66.out)).mono ?_
 rintro e wt1 ⟨rfl, d1, rfl⟩
 go_wp2_with fail
 refine (zbh b s i 91 _ (h.drewN _) hi hs (ne_at N91.out)).mono ?_
 rintro e wt2 ⟨rfl, d2, rfl⟩
 go_wp2_with fail
 refine (zbu b s i 40 _ (h.drewN _) hlt hs ((chrAt hlt).trans H.out)).mono ?_
 rintro e w1 ⟨rfl, hr, hg0⟩
 have hg : Gb b w w1 := ((Gb.refl b w).drewN _).trans hg0
 go_wp2_with fail
 refine (zjl tx b s n (i + 1) 41 w1 ih hr (g.gb hg hb) hlt hs hb (by omega) (by decide)).mono ?_
 rintro e w2 hp
 have HP : Hid (KPost tx b s (unOut s n i) w e w2) := by rw [HR.out]; exact hp.hand hg
 obtain ⟨u, v, rfl⟩ := hp.two
 clear HR hp
 go_wp2_with fail
 go_ret2
 exact HP.out
theorem unit_tV (tx : Nat -> Addr) (b : Nat) (s : ByteArray) (n i : Nat) (w : World) (ih : zci tx b s n) (h : Rd b s i w) (g : Gl tx w) (hi : i <= s.size) (hs : s.size <= 100000) (hb : 9 <= b) (hn : 3 * (s.size - i) + 1 <= n + 1) (N73 : Hid (chr s i ≠ 73)) (N66 : Hid (chr s i ≠ 66)) (N91 : Hid (chr s i ≠ 91)) (N40 : Hid (chr s i ≠ 40)) :
 Calls Tryz.prog 208 #[.pointer (some ⟨b, 0, none⟩)] w (KPost tx b s (unOut s n i) w) := by
 go_enter Tryz.func208, Tryz.ntmps208
 go_wp2_with fail
 refine (zbh b s i 73 w h hi hs (ne_at N73.out)).mono ?_
 rintro e wt0 ⟨rfl, d0, rfl⟩
 go_wp2_with fail
 refine (zbh b s i 66 _ (h.drewN _) hi hs (ne_at N66.out)).mono ?_
 rintro e wt1 ⟨rfl, d1, rfl⟩
 go_wp2_with fail
 refine (zbh b s i 91 _ (h.drewN _) hi hs (ne_at N91.out)).mono ?_
 rintro e wt2 ⟨rfl, d2, rfl⟩
 go_wp2_with fail
 refine (zbh b s i 40 _ (h.drewN _) hi hs (ne_at N40.out)).mono ?_
 rintro e wt3 ⟨rfl, d3, rfl⟩
 go_wp2_with fail
 have hV : Calls Tryz.prog 231 #[.pointer (some ⟨b, 0, none⟩)] (w.drewN (d0 + d1 + d2 + d3)) (KPost tx b s (unOut s n i) (w.drewN (d0 + d1 + d2 + d3))) := by
  cases hc : isLet (chr s i)
  · rw [un_N N73.out N66.out N91.out N40.out hc]
    exact zpk tx b s i _ (h.drewN _) (g.gb ((Gb.refl b w).drewN _) hb) hi hs hb hc
  · rw [un_V N73.out N66.out N91.out N40.out hc]
    exact zoi tx b s i _ (h.drewN _) (g.gb ((Gb.refl b w).drewN _) hb) hi hs hb hc
 refine hV.mono ?_
 rintro e w2 hp
 have HP : Hid (KPost tx b s (unOut s n i) w e w2) := hp.hand ((Gb.refl b w).drewN _)
 obtain ⟨u, v, rfl⟩ := hp.two
 clear hp hV
 go_wp2_with fail
 go_ret2
 exact HP.out
theorem unit_any (tx : Nat -> Addr) (b : Nat) (s : ByteArray) (n : Nat) (ih : zci tx b s n) (hs : s.size <= 100000) (hb : 9 <= b) : zgl tx b s (n + 1) := by
 intro i w h g hi hn
 show Calls _ _ _ _ (KPost tx b s (unOut s n i) w)
 by_cases h1 : chr s i = 73
 · exact unit_tI tx b s n i w ih h g hi hs hb hn h1
 by_cases h2 : chr s i = 66
 · exact unit_tB tx b s n i w ih h g hi hs hb hn h2 h1
 by_cases h3 : chr s i = 91
 · exact unit_tL tx b s n i w ih h g hi hs hb hn h3 h1 h2
 by_cases h4 : chr s i = 40
 · exact unit_tC tx b s n i w ih h g hi hs hb hn h4 h1 h2 h3
 exact unit_tV tx b s n i w ih h g hi hs hb hn h1 h2 h3 h4
def prOut (s : ByteArray) (n i : Nat) : TOut :=
 match pt s n 2 i .nil with
 | .error p => .error p
 | .ok (u, j) => pt s n 1 j u
theorem star_yes (s : ByteArray) (m j : Nat) (a : Ty) (h : chr s j = 42) : pt s (m + 1) 1 j a =
 match pt s m 2 (j + 1) .nil with
 | .error p => .error p
 | .ok (b, q) => pt s m 1 q (tP a b) := by
 rw [pt, if_pos h]
 cases pt s m 2 (j + 1) .nil <;> rfl
theorem star_no (s : ByteArray) (m j : Nat) (a : Ty) (h : chr s j ≠ 42) : pt s (m + 1) 1 j a = .ok (a, j) := by
 rw [pt, if_neg h]
def plk (b : Nat) (w : World) : Nat := (intOf ((w.cell? ⟨b, 1, none⟩).getD .nilIface)).toNat
theorem Rd.plk {b : Nat} {s : ByteArray} {i : Nat} {w : World} (h : Rd b s i w) : plk b w = i := by
 unfold YtceadeaodbadlaaGreatDoor.plk; rw [h.place]; simp [intOf]
theorem zpt (tx : Nat -> Addr) (b : Nat) (s : ByteArray) (n i : Nat) (w : World) (IH : Hid (∀ m, m <= n -> zgl tx b s m)) (h : Rd b s i w) (g : Gl tx w) (hi : i <= s.size) (hs : s.size <= 100000) (hb : 9 <= b) (hn : 3 * (s.size - i) + 1 <= n) :
 Calls Tryz.prog 178 #[.pointer (some ⟨b, 0, none⟩)] w (KPost tx b s (prOut s n i) w) := by
 go_enter Tryz.func178, Tryz.ntmps178
 go_wp2_with fail
 refine (IH.out n (Nat.le_refl n) i w h g hi hn).mono ?_
 rintro e w1 ⟨hg, hp⟩
 cases hq : pt s n 2 i .nil with
 | error p =>
  rw [hq] at hp
  obtain ⟨q, rfl, ha⟩ := hp
  have HR : Hid (prOut s n i = .error p) := by unfold Hid prOut; rw [hq]
  clear hq
  go_wp2_with fail
  go_ret2
  rw [HR.out]
  exact ⟨hg, q, rfl, ha⟩
 | ok r =>
  obtain ⟨t, j⟩ := r
  rw [hq] at hp
  obtain ⟨v, rfl, hv, hr⟩ := hp
  obtain ⟨T, x, rfl⟩ := hv.iface
  have pl := zav s _ _ _ _ _ _ hq hi (by omega)
  have ps := zfd s _ _ _ _ _ _ hq hi (by omega)
  simp at ps
  have HR : Hid (pt s n 1 j t = prOut s n i) := by unfold Hid prOut; rw [hq]
  have p1 : i < j := by omega
  have p2 := pl.2.1
  have HO : Hid (Ok t /\ sz t <= j) := ⟨pl.2.2, by omega⟩
  clear hq pl ps
  go_wp2_with fail
  go_loopw [4] (fun v wr => ∃ m j t T x, v = .iface T x /\ Tv wr t (.iface T x) /\ Hid (Ok t /\ sz t <= j) /\ m <= n /\ Rd b s j wr /\ j <= s.size /\ 3 * (s.size - j) + 2 <= m /\ Gb b w wr /\ Hid (pt s m 1 j t = prOut s n i)) (fun _ wr => s.size - plk b wr)
  case atStart => exact ⟨n, j, t, T, x, rfl, hv, HO, Nat.le_refl n, hr, p2, by omega, hg, HR⟩
  case round =>
   clear HR hr hg p1 p2 hv HO
   obtain ⟨m, j, t, T, x, rfl, hv, HO, hmn, hr, hj, hm, hg, HR⟩ := hrel
   obtain ⟨m, rfl⟩ : ∃ m', m = m' + 1 := ⟨m - 1, by omega⟩
   by_cases hst : chr s j = 42
   · have HQ := HR.out
     rw [star_yes s m j t hst] at HQ
     have HS : Hid (chr s j = 42) := hst
     have hlt : j < s.size := zaf (by rw [hst]; decide)
     clear HR hst
     have HR : Hid (_ = prOut s n i) := HQ
     clear HQ
     go_wp2_with fail
     refine (zbu b s j 42 _ hr hlt hs ((chrAt hlt).trans HS.out)).mono ?_
     rintro e w2 ⟨rfl, hr2, hg2⟩
     have hg3 := hg.trans hg2
     go_wp2_with fail
     refine (IH.out m (by omega) (j + 1) _ hr2 (g.gb hg3 hb) hlt (by omega)).mono ?_
     rintro e w3 ⟨hg4, hp⟩
     cases hq : pt s m 2 (j + 1) .nil with
     | error p =>
      rw [hq] at hp HR
      obtain ⟨q, rfl, ha⟩ := hp
      clear hq
      go_wp2_with fail
      go_ret2
      rw [<- HR.out]
      exact ⟨hg3.trans hg4, q, rfl, ha⟩
     | ok r =>
      obtain ⟨u, q⟩ := r
      rw [hq] at hp HR
      obtain ⟨y, rfl, hy, hr3⟩ := hp
      have pl := zav s _ _ _ _ _ _ hq hlt (by omega)
      have ps := zfd s _ _ _ _ _ _ hq hlt (by omega)
      simp at ps
      have p1 : j + 1 < q := by omega
      have p2 := pl.2.1
      have hv3 : Tv w3 t (.iface T x) := Tv.kept ((hg2.kept hr).trans (hg4.kept hr2)) _ _ hv
      have HO2 : Hid (Ok (tP t u) /\ sz (tP t u) <= q) := ⟨okP HO.out.1 pl.2.2, by have := HO.out.2; simp [sz]; omega⟩
      have NP := newPair_any t u _ y w3 HO.out.1 hv3 pl.2.2 hy (by have := HO.out.2; omega)
      clear hq pl ps
      obtain ⟨T', y', rfl⟩ := hy.iface
      go_wp2_with fail
      refine NP.mono ?_
      rintro e w4 ⟨q', rfl, hv4, hb4⟩
      have hr4 := hr3.below hb4
      have hg5 := (hg3.trans hg4).trans (Gb.of_below hb4)
      go_wp2_with fail
      go_roundw
      case rel => exact ⟨m, q, tP t u, _, _, rfl, hv4, HO2, by omega, hr4, p2, by omega, hg5, HR⟩
      case measure => rw [hr4.plk, hr.plk]; omega
   · have HQ : Hid (prOut s n i = .ok (t, j)) := by rw [<- HR.out]; exact star_no s m j t hst
     have HS : Hid (chr s j ≠ 42) := hst
     clear hst
     go_wp2_with fail
     refine (zbh b s j 42 _ hr hj hs (ne_at HS.out)).mono ?_
     rintro e w2 ⟨rfl, d, rfl⟩
     go_wp2_with fail
     go_ret2
     rw [HQ.out]
     exact ⟨hg.drewN d, _, rfl, hv.drewN d, hr.drewN d⟩
theorem zlk (s : ByteArray) (n i : Nat) : pt s (n + 1) 0 i .nil = match prOut s n i with
 | .error p => .error p
 | .ok (a, k) => if chr s k = 62 then (match pt s n 0 (k + 1) .nil with | .error p => .error p | .ok (b, l) => .ok (tF a b, l)) else .ok (a, k) := by
 rw [pt]; unfold prOut
 cases pt s n 2 i .nil with
 | error p => rfl
 | ok r => obtain ⟨u, j⟩ := r; simp only; cases pt s n 1 j u <;> rfl
theorem zob {s : ByteArray} {n i : Nat} {t : Ty} {k : Nat} (h : prOut s n i = .ok (t, k)) (hi : i <= s.size) : i < k /\ k <= s.size /\ Ok t /\ sz t <= s.size := by
 unfold prOut at h
 split at h
 · cases h
 · rename_i h1
   have p1 := zav s _ _ _ _ _ _ h1 hi (by omega)
   have p2 := zav s _ _ _ _ _ _ h (by omega) (fun _ => p1.2.2)
   have q1 := zfd s _ _ _ _ _ _ h1 hi (by omega)
   have q2 := zfd s _ _ _ _ _ _ h (by omega) (fun _ => p1.2.2)
   simp at q1 q2
   exact ⟨by omega, by omega, p2.2.2, by omega⟩
theorem type_step (tx : Nat -> Addr) (b : Nat) (s : ByteArray) (n : Nat) (ihT : zci tx b s n) (IH : Hid (∀ m, m <= n -> zgl tx b s m)) (hs : s.size <= 100000) (hb : 9 <= b) : zci tx b s (n + 1) := by
 intro i w h g hi hn
 have HR : Hid (pt s (n + 1) 0 i .nil = _) := zlk s n i
 go_enter Tryz.func142, Tryz.ntmps142
 go_wp2_with fail
 refine (zpt tx b s n i w IH h g hi hs hb (by omega)).mono ?_
 rintro e w1 ⟨hg, hp⟩
 cases hq : prOut s n i with
 | error p =>
  rw [hq] at hp HR
  obtain ⟨q, rfl, ha⟩ := hp
  clear hq
  go_wp2_with fail
  go_ret2
  rw [HR.out]
  exact ⟨hg, q, rfl, ha⟩
 | ok r =>
  obtain ⟨t, k⟩ := r
  rw [hq] at hp HR
  obtain ⟨v, rfl, hv, hr⟩ := hp
  obtain ⟨T, x, rfl⟩ := hv.iface
  have pl0 := zob hq hi
  have pl : i < k /\ k <= s.size := ⟨pl0.1, pl0.2.1⟩
  have HO : Hid (Ok t /\ sz t <= s.size) := pl0.2.2
  clear hq pl0
  by_cases h62 : chr s k = 62
  · have hlt : k < s.size := zaf (by rw [h62]; decide)
    have H62 : Hid (chr s k = 62) := h62
    have HQ := HR.out
    simp only [h62, if_true] at HQ
    clear HR h62
    have HR : Hid (_ = _) := HQ
    clear HQ
    go_wp2_with fail
    refine (zbu b s k 62 _ hr hlt hs ((chrAt hlt).trans H62.out)).mono ?_
    rintro e w2 ⟨rfl, hr2, hg2⟩
    have hg3 := hg.trans hg2
    go_wp2_with fail
    refine (ihT (k + 1) _ hr2 (g.gb hg3 hb) hlt (by omega)).mono ?_
    rintro e w3 ⟨hg4, hp⟩
    cases hq : pt s n 0 (k + 1) .nil with
    | error p =>
     rw [hq] at hp HR
     obtain ⟨q, rfl, ha⟩ := hp
     clear hq
     go_wp2_with fail
     go_ret2
     rw [HR.out]
     exact ⟨hg3.trans hg4, q, rfl, ha⟩
    | ok r =>
     obtain ⟨u, q⟩ := r
     rw [hq] at hp HR
     obtain ⟨y, rfl, hy, hr3⟩ := hp
     have p1 := zav s _ _ _ _ _ _ hq hlt (by omega)
     have ps := zfd s _ _ _ _ _ _ hq hlt (by omega)
     simp at ps
     have hv3 : Tv w3 t (.iface T x) := Tv.kept ((hg2.kept hr).trans (hg4.kept hr2)) _ _ hv
     have NP := zfa t u _ y w3 HO.out.1 hv3 p1.2.2 hy (by have := HO.out.2; omega)
     clear hq p1 ps
     obtain ⟨T', y', rfl⟩ := hy.iface
     go_wp2_with fail
     refine NP.mono ?_
     rintro e w4 ⟨q', rfl, hv4, hb4⟩
     have hr4 := hr3.below hb4
     have hg5 := (hg3.trans hg4).trans (Gb.of_below hb4)
     go_wp2_with fail
     go_ret2
     rw [HR.out]
     exact ⟨hg5, _, rfl, hv4, hr4⟩
  · have HQ := HR.out
    simp only [h62, if_false] at HQ
    have H62 : Hid (chr s k ≠ 62) := h62
    clear HR h62
    have HR : Hid (_ = _) := HQ
    clear HQ
    go_wp2_with fail
    refine (zbh b s k 62 _ hr (by omega) hs (ne_at H62.out)).mono ?_
    rintro e w2 ⟨rfl, d, rfl⟩
    go_wp2_with fail
    go_ret2
    rw [HR.out]
    exact ⟨hg.drewN d, _, rfl, hv.drewN d, hr.drewN d⟩
theorem zho (tx : Nat -> Addr) (b : Nat) (s : ByteArray) (hs : s.size <= 100000) (hb : 9 <= b) : ∀ n m, m <= n -> zci tx b s m /\ zgl tx b s m := by
 have zero : zci tx b s 0 /\ zgl tx b s 0 := ⟨fun i w _ _ _ h0 => absurd h0 (by omega), fun i w _ _ _ h0 => absurd h0 (by omega)⟩
 intro n
 induction n with
 | zero => intro m hm; obtain rfl : m = 0 := by omega
           exact zero
 | succ n ih =>
  intro m hm
  rcases Nat.lt_or_ge m (n + 1) with h | h
  · exact ih m (by omega)
  · obtain rfl : m = n + 1 := by omega
    exact ⟨type_step tx b s n (ih n (Nat.le_refl n)).1 (fun m hm => (ih m hm).2) hs hb, unit_any tx b s n (ih n (Nat.le_refl n)).1 hs hb⟩
def KReadPost (tx : Nat -> Addr) (s : ByteArray) (w : World) (e : Ending) (w' : World) : Prop :=
 Below w.heap.size w w' /\ match zbc s with
  | .error p => ∃ q, e = .returned (.tuple #[.nilIface, atv q]) /\ AtErr (tx 1) q p w'
  | .ok t => ∃ v, e = .returned (.tuple #[v, .nilIface]) /\ Tv w' t v
theorem Gb.belowK {w w' : World} {o : Obj} (h : Gb w.heap.size (w.alloc o) w') : Below w.heap.size w w' :=
 ⟨h.os, h.tape, h.output, Nat.le_trans (by simp) h.size, fun k hk => (h.block k (by simp; omega) (by simp; omega)).trans (Below.heap_alloc _ _ _ hk)⟩
theorem kread_any (tx : Nat -> Addr) (s : ByteArray) (w : World) (g : Gl tx w) (hs : s.size <= 100000) :
 Calls Tryz.prog 109 #[.string s] w (KReadPost tx s w) := by
 have hsz := g.size
 have hE := (zho tx w.heap.size s hs hsz (3 * s.size + 3) _ (Nat.le_refl _)).1
 have gA := g.below ((Below.refl w.heap.size w).alloc (Nat.le_refl _) (.cells #[.string s, .int .i64 0] 207)) hsz
 have hR := Rd.new s w
 go_enter Tryz.func109, Tryz.ntmps109
 go_wp2_with fail
 refine (new_any s w).mono ?_
 rintro e w' ⟨rfl, rfl⟩
 go_wp2_with fail
 refine (hE 0 _ hR gA (Nat.zero_le _) (by omega)).mono ?_
 rintro e w1 ⟨hg, hp⟩
 cases hq : pt s (3 * s.size + 3) 0 0 .nil with
 | error p =>
  rw [hq] at hp
  obtain ⟨q, rfl, ha⟩ := hp
  have HR : Hid (zbc s = .error p) := by unfold Hid zbc; rw [hq]
  clear hq
  go_wp2_with fail
  go_ret2
  refine ⟨hg.belowK, ?_⟩
  rw [HR.out]
  exact ⟨q, rfl, ha⟩
 | ok r =>
  obtain ⟨t, j⟩ := r
  rw [hq] at hp
  obtain ⟨v, rfl, hv, hr⟩ := hp
  obtain ⟨T, x, rfl⟩ := hv.iface
  have pl := zav s _ _ _ _ _ _ hq (Nat.zero_le _) (by omega)
  by_cases hj : j < s.size
  · have HR : Hid (zbc s = .error j) := by unfold Hid zbc; rw [hq]; exact if_pos hj
    clear hq pl
    go_wp2_with fail
    refine (end_no tx _ s j w1 hr (gA.gb hg hsz) hj hs hsz).mono ?_
    rintro e w2 ⟨q, rfl, ha, hg2⟩
    go_wp2_with fail
    go_ret2
    refine ⟨(hg.trans hg2).belowK, ?_⟩
    rw [HR.out]
    exact ⟨q, rfl, ha⟩
  · have HR : Hid (zbc s = .ok t) := by unfold Hid zbc; rw [hq]; exact if_neg hj
    obtain rfl : j = s.size := by omega
    clear hq pl hj
    go_wp2_with fail
    refine (end_yes _ s w1 hr hs).mono ?_
    rintro e w2 ⟨rfl, d, rfl⟩
    go_wp2_with fail
    go_ret2
    refine ⟨(hg.drewN d).belowK, ?_⟩
    rw [HR.out]
    exact ⟨_, rfl, hv.drewN d⟩
theorem zke (s : ByteArray) (c : Int) (w : World) :
 Calls Tryz.prog 238 #[.string s, .int .u8 c] w fun e w' => e = .returned (.int .i64 (Lib.indexByte s.data.toList c.toNat.toUInt8)) /\ w' = w := by
 have hx := @run_callFunc_extern Tryz.prog 243 _ Extern.BytealgIndexByte.indexByte Tryz.func243 (by kernel_rfl) (by kernel_rfl) (by kernel_rfl) (by kernel_rfl)
 have hr := @Lib.run_indexByteString Tryz.prog s c
 generalize Lib.indexByte s.data.toList c.toNat.toUInt8 = x at *
 go_enter Tryz.func238, Tryz.ntmps238
 go_wp2
 go_ret
 exact ⟨rfl, rfl⟩
theorem zeu (s : ByteArray) (c : Int) (w : World) :
 Calls Tryz.prog 232 #[.string s, .int .u8 c] w fun e w' => e = .returned (.int .i64 (Lib.indexByte s.data.toList c.toNat.toUInt8)) /\ w' = w := by
 go_enter Tryz.func232, Tryz.ntmps232
 go_wp2_with fail
 refine (zke s c _).mono ?_
 rintro e w' ⟨rfl, rfl⟩
 go_wp2_with fail
 go_ret
 exact ⟨rfl, rfl⟩
theorem con_all : (List.range 256).all (fun c => decide (0 <= Lib.indexByte [78, 67, 80, 76, 82, 74, 69, 65, 89, 68] (c : Int).toNat.toUInt8) == isCon c) = true := by decide +kernel
theorem lit_all : (List.range 256).all (fun c => decide (0 <= Lib.indexByte [48, 49, 50, 51, 52, 53, 54, 55, 56, 57, 84, 70] (c : Int).toNat.toUInt8) == isLit c) = true := by decide +kernel
theorem con_at (c : Nat) (h : c < 256) : decide (0 <= Lib.indexByte [78, 67, 80, 76, 82, 74, 69, 65, 89, 68] (c : Int).toNat.toUInt8) = isCon c := by
 have := List.all_eq_true.1 con_all c (List.mem_range.2 h)
 simpa only [beq_iff_eq] using this
theorem lit_at (c : Nat) (h : c < 256) : decide (0 <= Lib.indexByte [48, 49, 50, 51, 52, 53, 54, 55, 56, 57, 84, 70] (c : Int).toNat.toUInt8) = isLit c := by
 have := List.all_eq_true.1 lit_all c (List.mem_range.2 h)
 simpa only [beq_iff_eq] using this
theorem zdq (c : Nat) (w : World) (hc : c < 256) :
 Calls Tryz.prog 216 #[.int .u8 (c : Int)] w fun e w' => e = .returned (.bool (isCon c)) /\ w' = w := by
 rw [<- con_at c hc]
 generalize hx : Lib.indexByte [78, 67, 80, 76, 82, 74, 69, 65, 89, 68] (c : Int).toNat.toUInt8 = x
 have HX : Hid (Lib.indexByte [78, 67, 80, 76, 82, 74, 69, 65, 89, 68] (c : Int).toNat.toUInt8 = x) := hx
 clear hx
 go_enter Tryz.func216, Tryz.ntmps216
 go_wp2_with fail
 refine (zeu _ _ _).mono ?_
 rintro e w' ⟨rfl, rfl⟩
 rw [show Lib.indexByte (ByteArray.mk #[78, 67, 80, 76, 82, 74, 69, 65, 89, 68]).data.toList (c : Int).toNat.toUInt8 = x from HX.out]
 go_wp2_with fail
 go_ret
 exact ⟨rfl, rfl⟩
theorem zdb (c : Nat) (w : World) (hc : c < 256) :
 Calls Tryz.prog 213 #[.int .u8 (c : Int)] w fun e w' => e = .returned (.bool (isLit c)) /\ w' = w := by
 rw [<- lit_at c hc]
 generalize hx : Lib.indexByte [48, 49, 50, 51, 52, 53, 54, 55, 56, 57, 84, 70] (c : Int).toNat.toUInt8 = x
 have HX : Hid (Lib.indexByte [48, 49, 50, 51, 52, 53, 54, 55, 56, 57, 84, 70] (c : Int).toNat.toUInt8 = x) := hx
 clear hx
 go_enter Tryz.func213, Tryz.ntmps213
 go_wp2_with fail
 refine (zeu _ _ _).mono ?_
 rintro e w' ⟨rfl, rfl⟩
 rw [show Lib.indexByte (ByteArray.mk #[48, 49, 50, 51, 52, 53, 54, 55, 56, 57, 84, 70]).data.toList (c : Int).toNat.toUInt8 = x from HX.out]
 go_wp2_with fail
 go_ret
 exact ⟨rfl, rfl⟩
theorem zdt (c : Nat) (w : World) (hc : c < 256) :
 Calls Tryz.prog 188 #[.int .u8 (c : Int)] w fun e w' => e = .returned (.bool (zal c)) /\ w' = w := by
 unfold zal
 by_cases h0 : c = 40
 · subst h0
   go_enter Tryz.func188, Tryz.ntmps188
   go_wp2_with fail
   go_ret
   exact ⟨rfl, rfl⟩
 have h0' : ((c : Int) == 40) = false := by rw [beq_eq_false_iff_ne]; omega
 have e0 : (c == 40) = false := by simp [h0]
 rw [e0]
 clear e0 h0
 cases h1 : isLet c
 · cases h2 : isCon c
   · simp only [Bool.false_or]
     go_enter Tryz.func188, Tryz.ntmps188
     go_wp2_with fail
     refine (zct c _ hc).mono ?_
     rintro e w' ⟨rfl, rfl⟩
     rw [h1]
     go_wp2_with fail
     refine (zdq c _ hc).mono ?_
     rintro e w' ⟨rfl, rfl⟩
     rw [h2]
     go_wp2_with fail
     refine (zdb c _ hc).mono ?_
     rintro e w' ⟨rfl, rfl⟩
     go_wp2_with fail
     go_ret
     exact ⟨rfl, rfl⟩
   · go_enter Tryz.func188, Tryz.ntmps188
     go_wp2_with fail
     refine (zct c _ hc).mono ?_
     rintro e w' ⟨rfl, rfl⟩
     rw [h1]
     go_wp2_with fail
     refine (zdq c _ hc).mono ?_
     rintro e w' ⟨rfl, rfl⟩
     rw [h2]
     go_wp2_with fail
     go_ret
     exact ⟨rfl, rfl⟩
 · go_enter Tryz.func188, Tryz.ntmps188
   go_wp2_with fail
   refine (zct c _ hc).mono ?_
   rintro e w' ⟨rfl, rfl⟩
   rw [h1]
   go_wp2_with fail
   go_ret
   exact ⟨rfl, rfl⟩
def Tvs (w : World) : List Ty -> List Value -> Prop
 | [], [] => True
 | t :: ts, v :: vs => Tv w t v /\ Tvs w ts vs
 | _, _ => False
theorem Tvs.keptN {w w' : World} (hk : KeptN w w') : ∀ (ts : List Ty) (vs : List Value), Tvs w ts vs -> Tvs w' ts vs := by
 intro ts
 induction ts with
 | nil => intro vs h; cases vs with | nil => exact h | cons => exact h.elim
 | cons t ts ih => intro vs h; cases vs with | nil => exact h.elim | cons v vs => exact ⟨Tv.keptN hk _ _ h.1, ih _ h.2⟩
theorem Tvs.kept {w w' : World} (hk : Kept w w') (ts : List Ty) (vs : List Value) (h : Tvs w ts vs) : Tvs w' ts vs := Tvs.keptN hk.n ts vs h
theorem zgp {w : World} {B : Nat} {e : TypeId} {k n : Nat} {v : Value} {xs : List Value} (h : w.ownsRow B e k v n xs) : ∀ g, v.ownBlock = some g -> B <= g /\ ∃ c, w.heap[g]? = some (.cells c e (0, 0)) := by
 intro g hg
 rcases h.2 with ⟨rfl, _⟩ | ⟨g', cap, cur, rfl, hB, hgg, _⟩
 · simp [Value.ownBlock] at hg
 · simp [Value.ownBlock] at hg
   subst hg
   exact ⟨hB, _, hgg⟩
theorem zcn {w w' : World} {B : Nat} {e : TypeId} {k n : Nat} {v : Value} {xs : List Value} (hrow : w.ownsRow B e k v n xs) (h : w.grownBy w' v.ownBlock) {q : Nat} {c : Array Value} {T : TypeId} {fz : Nat × Nat} (hT : T ≠ e) (hq : w.heap[q]? = some (.cells c T fz)) : w'.heap[q]? = some (.cells c T fz) := by
 rw [h.block q (Array.getElem?_eq_some_iff.1 hq).1 (fun he => ?_)]
 · exact hq
 · obtain ⟨_, c', hc⟩ := zgp hrow q he.symm
   rw [hq] at hc
   simp at hc
   exact hT hc.2.1
theorem Tvs.snoc {w : World} {t : Ty} {v : Value} (hv : Tv w t v) : ∀ (ts : List Ty) (vs : List Value), Tvs w ts vs -> Tvs w (ts ++ [t]) (vs ++ [v]) := by
 intro ts
 induction ts with
 | nil => intro vs h; cases vs with | nil => exact ⟨hv, trivial⟩ | cons => exact h.elim
 | cons t ts ih => intro vs h; cases vs with | nil => exact h.elim | cons v vs => exact ⟨h.1, ih _ h.2⟩
theorem zbr {w w' : World} {B : Nat} {T : TypeId} {k n : Nat} {v : Value} {xs : List Value} (hk : Kept w w') (hT : T ≠ 207) (h : w.ownsRow B T k v n xs) : w'.ownsRow B T k v n xs := by
 obtain ⟨h1, h2 | ⟨g, cap, cur, e, hB, hg, h3⟩⟩ := h
 · exact ⟨h1, .inl h2⟩
 · exact ⟨h1, .inr ⟨g, cap, cur, e, hB, hk _ _ _ _ hT hg, h3⟩⟩
theorem zhr {w : World} {B C : Nat} {T : TypeId} {k n : Nat} {v : Value} {xs : List Value} (hB : C <= B) (h : w.ownsRow B T k v n xs) : w.ownsRow C T k v n xs := by
 obtain ⟨h1, h2 | ⟨g, cap, cur, e, hb, hg, h3⟩⟩ := h
 · exact ⟨h1, .inl h2⟩
 · exact ⟨h1, .inr ⟨g, cap, cur, e, Nat.le_trans hB hb, hg, h3⟩⟩
def Gv (w : World) (G : Value) (ts : List Ty) : Prop := ∃ vs, w.ownsRow 0 94 1 G ts.length vs /\ Tvs w ts vs
def Fv (w : World) (F : Value) (g : List Ty) : Prop := (g = [] /\ F = .nilIface) \/ ∃ u, g = [u] /\ Tv w u F
def zcr (l : List (Nat × Nat)) : List Value := l.flatMap fun x => [.int .u8 ((x.1 / 10 : Nat) : Int), .int .u8 ((x.1 % 10 : Nat) : Int), .int .i64 (x.2 : Int)]
def Ov (w : World) (V : Value) (l : List (Nat × Nat)) : Prop := w.ownsRow 0 286 3 V l.length (zcr l)
theorem Gv.kept {w w' : World} {G : Value} {ts : List Ty} (hk : Kept w w') (h : Gv w G ts) : Gv w' G ts := by
 obtain ⟨vs, h1, h2⟩ := h
 exact ⟨vs, zbr hk (by decide) h1, Tvs.kept hk _ _ h2⟩
theorem Fv.kept {w w' : World} {F : Value} {g : List Ty} (hk : Kept w w') (h : Fv w F g) : Fv w' F g := by
 rcases h with h | ⟨u, e, h⟩
 · exact .inl h
 · exact .inr ⟨u, e, Tv.kept hk _ _ h⟩
theorem Ov.kept {w w' : World} {V : Value} {l : List (Nat × Nat)} (hk : Kept w w') (h : Ov w V l) : Ov w' V l := zbr hk (by decide) h
theorem Gv.nil (w : World) : Gv w (.slice none 0 0) [] := ⟨[], World.ownsRow_nil _ _ _ _, trivial⟩
theorem Ov.nil (w : World) : Ov w (.slice none 0 0) [] := World.ownsRow_nil _ _ _ _
def Ev (w : World) : Ex -> Value -> Prop
 | .nil, _ => False
 | .node t _ x a b, v =>
  (t = 0 /\ ∃ G, v = .iface 173 (.agg #[.int .u8 (x.c : Int), G, .int .i64 (x.p : Int)]) /\ Gv w G x.g) \/
  (t = 1 /\ ∃ G, v = .iface 175 (.agg #[.int .u8 (x.c : Int), G, .int .i64 (x.p : Int)]) /\ Gv w G x.g) \/
  (t = 2 /\ v = .iface 177 (.agg #[.int .u8 (x.c : Int)])) \/
  (t = 3 /\ ∃ F T y, v = .iface 179 (.agg #[.int .u8 (x.c : Int), F, .iface T y, .int .i64 (x.p : Int)]) /\ Fv w F x.g /\ Ev w a (.iface T y)) \/
  (t = 4 /\ ∃ V T y T' z, v = .iface 183 (.agg #[.int .u8 (x.c : Int), V, .iface T y, .iface T' z]) /\ Ov w V x.v /\ Ev w a (.iface T y) /\ Ev w b (.iface T' z)) \/
  (t = 5 /\ ∃ T y T' z, v = .iface 186 (.agg #[.iface T y, .iface T' z, .int .i64 (x.p : Int)]) /\ Ev w a (.iface T y) /\ Ev w b (.iface T' z))
theorem Ev.kept {w w' : World} (hk : Kept w w') : ∀ (e : Ex) (v : Value), Ev w e v -> Ev w' e v := by
 intro e
 induction e with
 | nil => intro v h; exact h.elim
 | node t o x a b iha ihb =>
  intro v h
  rcases h with ⟨e, G, hv, hG⟩ | ⟨e, G, hv, hG⟩ | h | ⟨e, F, T, y, hv, hF, ha⟩ | ⟨e, V, T, y, T', z, hv, hV, ha, hb⟩ | ⟨e, T, y, T', z, hv, ha, hb⟩
  · exact .inl ⟨e, G, hv, hG.kept hk⟩
  · exact .inr (.inl ⟨e, G, hv, hG.kept hk⟩)
  · exact .inr (.inr (.inl h))
  · exact .inr (.inr (.inr (.inl ⟨e, F, T, y, hv, hF.kept hk, iha _ ha⟩)))
  · exact .inr (.inr (.inr (.inr (.inl ⟨e, V, T, y, T', z, hv, hV.kept hk, iha _ ha, ihb _ hb⟩))))
  · exact .inr (.inr (.inr (.inr (.inr ⟨e, T, y, T', z, hv, iha _ ha, ihb _ hb⟩))))
theorem Ev.iface {w : World} {e : Ex} {v : Value} (h : Ev w e v) : ∃ T x, v = .iface T x := by
 cases e with
 | nil => exact h.elim
 | node t o x a b =>
  rcases h with ⟨e, G, rfl, hG⟩ | ⟨e, G, rfl, hG⟩ | ⟨e, rfl⟩ | ⟨e, F, T, y, rfl, hF, ha⟩ | ⟨e, V, T, y, T', z, rfl, hV, ha, hb⟩ | ⟨e, T, y, T', z, rfl, ha, hb⟩ <;> exact ⟨_, _, rfl⟩
abbrev rdv (b : Nat) (ty : Bool) : Value := .agg #[.pointer (some ⟨b, 0, none⟩), .bool ty]
abbrev rdo (b : Nat) (ty : Bool) : Obj := .cells #[.pointer (some ⟨b, 0, none⟩), .bool ty] 140
def Rbx (n b : Nat) (ty : Bool) (w : World) : Prop := w.heap[n]? = some (.cells #[.pointer (some ⟨b, 0, none⟩), .bool ty] 140 (0, 0)) /\ n ≠ b
theorem Rbx.c0 {n b : Nat} {ty : Bool} {w : World} (h : Rbx n b ty w) : w.cell? ⟨n, 0, none⟩ = some (.pointer (some ⟨b, 0, none⟩)) := by rw [Lib.cell_of_heap h.1]; rfl
theorem Rbx.c1 {n b : Nat} {ty : Bool} {w : World} (h : Rbx n b ty w) : w.cell? ⟨n, 1, none⟩ = some (.bool ty) := by rw [Lib.cell_of_heap h.1]; rfl
theorem Rbx.gb {n b : Nat} {ty : Bool} {w w' : World} (h : Rbx n b ty w) (hg : Gb b w w') : Rbx n b ty w' := ⟨hg.old h.1 h.2, h.2⟩
theorem Rbx.new {b : Nat} {s : ByteArray} {i : Nat} (ty : Bool) {w : World} (h : Rd b s i w) : Rbx w.heap.size b ty (w.alloc (rdo b ty)) := ⟨heap_alloc_new w _, by have := h.lt; omega⟩
theorem zff (b : Nat) (s : ByteArray) (i : Nat) (w : World) (h : Rd b s i w) :
 Calls Tryz.prog 148 #[.pointer (some ⟨b, 0, none⟩)] w fun e w' => e = .returned (.int .i64 (i : Int)) /\ w' = w := by
 have h1 := h.place
 go_enter Tryz.func148, Tryz.ntmps148
 go_wp2
 go_ret
 exact ⟨rfl, rfl⟩
def VFPost (tx : Nat -> Addr) (b : Nat) (s : ByteArray) (r : Except Nat (List Ty × Nat)) (w : World) (e : Ending) (w' : World) : Prop :=
 Gb b w w' /\ match r with
  | .error p => ∃ q, e = .returned (.tuple #[.nilIface, atv q]) /\ AtErr (tx 1) q p w'
  | .ok (g, j) => ∃ F, e = .returned (.tuple #[F, .nilIface]) /\ Fv w' F g /\ Rd b s j w'
theorem pT_said (tx : Nat -> Addr) (b : Nat) (s : ByteArray) (hs : s.size <= 100000) (hb : 9 <= b) (i : Nat) (w : World) (h : Rd b s i w) (g : Gl tx w) (hi : i <= s.size) :
 Calls Tryz.prog 142 #[.pointer (some ⟨b, 0, none⟩)] w (KPost tx b s (pT s i) w) :=
 (zho tx b s hs hb (3 * s.size + 3) _ (Nat.le_refl _)).1 i w h g hi (by omega)
theorem from_any (tx : Nat -> Addr) (b : Nat) (s : ByteArray) (ty : Bool) (i : Nat) (w : World) (h : Rd b s i w) (g : Gl tx w) (hi : i <= s.size) (hs : s.size <= 100000) (hb : 9 <= b) :
 Calls Tryz.prog 184 #[rdv b ty] w (VFPost tx b s (fromO s ty i) w) := by
 have bx := Rbx.new ty h
 have h1 := h.alloc (rdo b ty)
 have G0 : Gb b w (w.alloc (rdo b ty)) := (Gb.refl b w).alloc _
 have g1 := g.gb G0 hb
 have c0 := bx.c0
 have c1 := bx.c1
 cases ty
 · have HR : Hid (fromO s false i = .ok ([], i)) := rfl
   go_enter Tryz.func184, Tryz.ntmps184
   go_wp2_with fail
   go_ret2
   refine ⟨G0, ?_⟩
   rw [HR.out]
   exact ⟨_, rfl, .inl ⟨rfl, rfl⟩, h1⟩
 · have HR : Hid (fromO s true i = if chr s i = 58 then (match pT s (i + 1) with | .error p => .error p | .ok (t, j) => .ok ([t], j)) else .error i) := by unfold Hid fromO; rw [if_pos rfl]; cases pT s (i + 1) <;> rfl
   by_cases h58 : chr s i = 58
   · have HQ := HR.out
     rw [if_pos h58] at HQ
     have H58 : Hid (chr s i = 58) := h58
     have hlt : i < s.size := zaf (by rw [h58]; decide)
     clear HR h58
     have HR : Hid (_ = _) := HQ
     clear HQ
     go_enter Tryz.func184, Tryz.ntmps184
     go_wp2_with fail
     refine (zdl b s i 58 _ h1 hs H58.out (by decide)).mono ?_
     rintro e w1 ⟨rfl, hr, hg⟩
     have G1 := G0.trans hg
     replace bx := bx.gb hg
     replace c0 := bx.c0
     replace c1 := bx.c1
     go_wp2_with fail
     refine (pT_said tx b s hs hb (i + 1) w1 hr (g.gb G1 hb) hlt).mono ?_
     rintro e w2 ⟨hg2, hp⟩
     cases hq : pT s (i + 1) with
     | error p =>
      rw [hq] at hp HR
      obtain ⟨q, rfl, ha⟩ := hp
      clear hq
      go_wp2_with fail
      go_ret2
      refine ⟨G1.trans hg2, ?_⟩
      rw [HR.out]
      exact ⟨q, rfl, ha⟩
     | ok r =>
      obtain ⟨t, j⟩ := r
      rw [hq] at hp HR
      obtain ⟨v, rfl, hv, hr2⟩ := hp
      clear hq
      obtain ⟨T, x, rfl⟩ := hv.iface
      go_wp2_with fail
      go_ret2
      refine ⟨G1.trans hg2, ?_⟩
      rw [HR.out]
      exact ⟨_, rfl, .inr ⟨t, rfl, hv⟩, hr2⟩
   · have HQ := HR.out
     rw [if_neg h58] at HQ
     have H58 : Hid (chr s i ≠ 58) := h58
     clear HR h58
     have HR : Hid (_ = _) := HQ
     clear HQ
     go_enter Tryz.func184, Tryz.ntmps184
     go_wp2_with fail
     refine (zey tx b s i 58 _ h1 g1 hi hs H58.out hb).mono ?_
     rintro e w1 ⟨q, rfl, ha, hg⟩
     go_wp2_with fail
     go_ret2
     refine ⟨G0.trans hg, ?_⟩
     rw [HR.out]
     exact ⟨q, rfl, ha⟩
def LPost (tx : Nat -> Addr) (b : Nat) (s : ByteArray) {α : Type} (W : World -> Value -> List α -> Prop) (r : Except Nat (List α × Nat)) (w : World) (e : Ending) (w' : World) : Prop :=
 Gb b w w' /\ match r with
  | .error p => ∃ V q, e = .returned (.tuple #[V, atv q]) /\ AtErr (tx 1) q p w'
  | .ok (g, j) => ∃ V, e = .returned (.tuple #[V, .nilIface]) /\ W w' V g /\ Rd b s j w'
theorem infoTy : (Tryz.prog.info? 94).map (fun i => (i.zero, i.size, i.bytes)) = some (some .nilIface, 1, 16) := by kernel_rfl
theorem infoOwn : (Tryz.prog.info? 286).map (fun i => (i.zero, i.size, i.bytes)) = some (some (.agg #[.int .u8 0, .int .u8 0, .int .i64 0]), 3, 16) := by kernel_rfl
theorem pg_step (s : ByteArray) (n i : Nat) (l : List Ty) : pg s (n + 1) i l = match pT s i with
 | .error p => .error p
 | .ok (t, j) => if chr s j = 44 then pg s n (j + 1) (l ++ [t]) else if chr s j = 125 then .ok (l ++ [t], j + 1) else .error j := by
 rw [pg]
 cases pT s i <;> rfl
theorem Gb.grown {b B : Nat} {w0 w w' : World} {v : Value} (hg : Gb b w0 w) (h : w.grownBy w' v.ownBlock) (hr : ∀ k, v.ownBlock = some k -> B <= k) (hB : w0.heap.size <= B) : Gb b w0 w' :=
 ⟨h.os.trans hg.os, h.tape.trans hg.tape, h.output.trans hg.output, Nat.le_trans hg.size h.size, fun k hk hn => (h.block k (Nat.lt_of_lt_of_le hk hg.size) (fun e => by have := hr k e.symm; omega)).trans (hg.block k hk hn)⟩
theorem given_any (tx : Nat -> Addr) (b : Nat) (s : ByteArray) (ty : Bool) (i : Nat) (w : World) (h : Rd b s i w) (g : Gl tx w) (hi : i <= s.size) (hs : s.size <= 100000) (hb : 9 <= b) :
 Calls Tryz.prog 215 #[rdv b ty] w (LPost tx b s Gv (zdi s ty i) w) := by
 have bx := Rbx.new ty h
 have h1 := h.alloc (rdo b ty)
 have G0 : Gb b w (w.alloc (rdo b ty)) := (Gb.refl b w).alloc _
 have g1 := g.gb G0 hb
 have c0 := bx.c0
 have c1 := bx.c1
 cases ty
 · have HR : Hid (zdi s false i = .ok ([], i)) := rfl
   go_enter Tryz.func215, Tryz.ntmps215
   go_wp2_with fail
   go_ret2
   refine ⟨G0, ?_⟩
   rw [HR.out]
   exact ⟨_, rfl, Gv.nil _, h1⟩
 · have HR : Hid (zdi s true i = if chr s i = 123 then pg s (s.size + 1) (i + 1) [] else .ok ([], i)) := by unfold Hid zdi; rw [if_pos rfl]
   by_cases h58 : chr s i = 123
   · have HQ := HR.out
     rw [if_pos h58] at HQ
     have H58 : Hid (chr s i = 123) := h58
     have hlt : i < s.size := zaf (by rw [h58]; decide)
     clear HR h58
     have HR : Hid (_ = _) := HQ
     clear HQ
     obtain ⟨i0, hi0, hz0, hz1, hz2⟩ := info_parts infoTy
     go_enter Tryz.func215, Tryz.ntmps215
     go_wp2_with fail
     refine (zbu b s i 123 _ h1 hlt hs ((chrAt hlt).trans H58.out)).mono ?_
     rintro e w1 ⟨rfl, hr, hg⟩
     have G1 := G0.trans hg
     replace bx := bx.gb hg
     clear c0 c1
     go_wp2_with fail
     go_loopw [4] (fun v wr => ∃ m j l vs, wr.ownsRow w.heap.size 94 1 v l.length vs /\ Tvs wr l vs /\ Rd b s j wr /\ Rbx w.heap.size b true wr /\ j <= s.size /\ s.size - j < m /\ l.length <= j /\ Gb b w wr /\ Hid (pg s m j l = zdi s true i)) (fun _ wr => s.size - plk b wr)
     case atStart => exact ⟨s.size + 1, i + 1, [], [], World.ownsRow_nil _ _ _ _, trivial, hr, bx, hlt, by omega, by simp, G1, HR.out.symm⟩
     case round =>
      clear HR hr hg bx G1
      obtain ⟨m, j, l, vs, hrow, hvs, hr, bx, hj, hm, hll, G1, HR⟩ := hrel
      obtain ⟨m, rfl⟩ : ∃ m', m = m' + 1 := ⟨m - 1, by omega⟩
      have c0 := bx.c0
      have hplr : Hid (plk b wr = j) := hr.plk
      have HQ := HR.out
      rw [pg_step] at HQ
      clear HR
      have HR : Hid (_ = _) := HQ
      clear HQ
      go_wp2_with fail
      refine (pT_said tx b s hs hb j wr hr (g.gb G1 hb) hj).mono ?_
      rintro e w2 ⟨hg2, hp⟩
      have G2 := G1.trans hg2
      cases hq : pT s j with
      | error p =>
       rw [hq] at hp HR
       obtain ⟨q, rfl, ha⟩ := hp
       clear hq
       go_wp2_with fail
       go_ret2
       refine ⟨G2, ?_⟩
       rw [<- HR.out]
       exact ⟨_, q, rfl, ha⟩
      | ok r =>
       obtain ⟨t, k⟩ := r
       rw [hq] at hp HR
       obtain ⟨v, rfl, hv, hr2⟩ := hp
       have pl := zcb hq hj
       have p1 := pl.1
       have p2 := pl.2.1
       clear hq pl
       obtain ⟨T, x, rfl⟩ := hv.iface
       have hk2 := hg2.kept hr
       have hrow2 := zbr hk2 (by decide) hrow
       have hvs2 := Tvs.kept hk2 _ _ hvs
       have bx2 := bx.gb hg2
       have hsz := G2.size
       clear c0
       go_wp2_with (at_builtin; refine wpList_append_own _ rfl _ _ 171 rfl w.heap.size 94 i0 .nilIface 1 16 Tryz.underlying171 hi0 hz0 hz1 hz2 rfl (by decide) _ _ _ rfl (hrow2.alloc _) ⟨w2.heap.size, 0, none⟩ 1 1 [.iface T x] rfl rfl ?c1 ?c2 ?c3 ?c4 ?c5 ?_)
       case c1 =>
        intro j u hj
        match j, hj with
        | 0, hj => simp at hj; subst hj; simp [Addr.add]
       case c2 => intro u hu; simp at hu; subst hu; rfl
       case c3 => unfold maxLen; omega
       case c4 => omega
       case c5 => simp; omega
       intro v' w3 hown' hgrow _
       have hrowA := hrow2.alloc (.cells #[.iface T x] 94)
       have hkN : KeptN w2 w3 := fun q c T' hT hq => zcn hrowA hgrow (by rcases hT with rfl | rfl | rfl <;> decide) ((Below.heap_alloc _ _ _ (Array.getElem?_eq_some_iff.1 hq).1).trans hq)
       have hvs3 : Tvs w3 (l ++ [t]) (vs ++ [.iface T x]) := Tvs.snoc (Tv.keptN hkN _ _ hv) _ _ (Tvs.keptN hkN _ _ hvs2)
       have hr3 : Rd b s k w3 := zcn hrowA hgrow (by decide) ((Below.heap_alloc _ _ _ hr2.lt).trans hr2)
       have bx3 : Rbx w.heap.size b true w3 := ⟨zcn hrowA hgrow (by decide) ((Below.heap_alloc _ _ _ (Array.getElem?_eq_some_iff.1 bx2.1).1).trans bx2.1), bx2.2⟩
       have G3 : Gb b w w3 := (G2.alloc (.cells #[.iface T x] 94)).grown hgrow (fun k hk => (zgp hrowA k hk).1) (Nat.le_refl _)
       have hown3 : w3.ownsRow w.heap.size 94 1 v' (l ++ [t]).length (vs ++ [.iface T x]) := by simpa using hown'
       have hlen : (l ++ [t]).length <= k + 1 := by simp; omega
       have c0 := bx3.c0
       clear hrow hvs hr bx hrow2 hvs2 hr2 bx2 hown' hgrow hrowA hkN hv G1 G2 hg2 hk2
       obtain ⟨gg, cap, rfl⟩ : ∃ gg cap, v' = .slice (some ⟨gg, 0, none⟩) (l ++ [t]).length cap := by
        rcases hown3.2 with ⟨_, h0⟩ | ⟨g, cap, cur, hv, _⟩
        · simp at h0
        · exact ⟨g, cap, hv⟩
       generalize l ++ [t] = lt at *
       generalize vs ++ [.iface T x] = vt at *
       generalize hll2 : lt.length = ll at *
       have HLL : Hid (lt.length = ll) := hll2
       clear hll2 hll
       by_cases h44 : chr s k = 44
       · have hltk : k < s.size := zaf (by rw [h44]; decide)
         have HQ := HR.out
         rw [if_pos h44] at HQ
         have H44 : Hid (chr s k = 44) := h44
         clear HR h44
         have HR : Hid (_ = _) := HQ
         clear HQ
         go_wp2_with fail
         refine (zbu b s k 44 _ hr3 hltk hs ((chrAt hltk).trans H44.out)).mono ?_
         rintro e w4 ⟨rfl, hr4, hg4⟩
         have hk4 := hg4.kept hr3
         have bx4 := bx3.gb hg4
         have hown4 := zbr hk4 (by decide) hown3
         have hvs4 := Tvs.kept hk4 _ _ hvs3
         clear c0 hvs3 hown3 bx3
         have G4 := G3.trans hg4
         go_wp2_with fail
         go_roundw
         case rel => exact ⟨m, k + 1, lt, vt, by rw [HLL.out]; exact hown4, hvs4, hr4, bx4, hltk, by omega, by rw [HLL.out]; exact hlen, G4, HR⟩
         case measure => rw [hr4.plk, hplr.out]; omega
       · have HQ := HR.out
         rw [if_neg h44] at HQ
         have H44 : Hid (chr s k ≠ 44) := h44
         clear HR h44
         have HR : Hid (_ = _) := HQ
         clear HQ
         go_wp2_with fail
         refine (zbh b s k 44 _ hr3 p2 hs (ne_at H44.out)).mono ?_
         rintro e w4 ⟨rfl, d, rfl⟩
         have hr4 := hr3.drewN d
         have G4 := G3.drewN d
         have c4 : (w3.drewN d).cell? ⟨w.heap.size, 0, none⟩ = some (.pointer (some ⟨b, 0, none⟩)) := c0
         have hown4 : (w3.drewN d).ownsRow w.heap.size 94 1 (.slice (some ⟨gg, 0, none⟩) ll cap) ll vt := hown3
         have hvs4 : Tvs (w3.drewN d) lt vt := Tvs.kept (w := w3) (w' := w3.drewN d) (fun _ _ _ _ _ h => h) _ _ hvs3
         clear c0 hvs3 hown3 bx3 hr3 G3
         generalize w3.drewN d = w5 at *
         by_cases h125 : chr s k = 125
         · have hltk : k < s.size := zaf (by rw [h125]; decide)
           have HQ := HR.out
           rw [if_pos h125] at HQ
           have H125 : Hid (chr s k = 125) := h125
           clear HR h125
           have HR : Hid (_ = _) := HQ
           clear HQ
           go_wp2_with fail
           refine (zdl b s k 125 _ hr4 hs H125.out (by decide)).mono ?_
           rintro e w6 ⟨rfl, hr6, hg6⟩
           have hk6 := hg6.kept hr4
           have hown6 := zbr hk6 (by decide) hown4
           have hvs6 := Tvs.kept hk6 _ _ hvs4
           go_wp2_with fail
           go_ret2
           refine ⟨G4.trans hg6, ?_⟩
           rw [<- HR.out]
           exact ⟨_, rfl, ⟨vt, by rw [HLL.out]; exact zhr (Nat.zero_le _) hown6, hvs6⟩, hr6⟩
         · have HQ := HR.out
           rw [if_neg h125] at HQ
           have H125 : Hid (chr s k ≠ 125) := h125
           clear HR h125
           have HR : Hid (_ = _) := HQ
           clear HQ
           go_wp2_with fail
           refine (zey tx b s k 125 _ hr4 (g.gb G4 hb) p2 hs H125.out hb).mono ?_
           rintro e w6 ⟨q, rfl, ha, hg6⟩
           go_wp2_with fail
           go_ret2
           refine ⟨G4.trans hg6, ?_⟩
           rw [<- HR.out]
           exact ⟨_, q, rfl, ha⟩
   · have HQ := HR.out
     rw [if_neg h58] at HQ
     have H58 : Hid (chr s i ≠ 123) := h58
     clear HR h58
     have HR : Hid (_ = _) := HQ
     clear HQ
     go_enter Tryz.func215, Tryz.ntmps215
     go_wp2_with fail
     refine (zbh b s i 123 _ h1 hi hs (ne_at H58.out)).mono ?_
     rintro e w1 ⟨rfl, d, rfl⟩
     go_wp2_with fail
     go_ret2
     refine ⟨G0.drewN d, ?_⟩
     rw [HR.out]
     exact ⟨_, rfl, Gv.nil _, h1.drewN d⟩
theorem pw_end (s : ByteArray) (n i : Nat) (l : List (Nat × Nat)) (h : chr s i = 62) : pw s (n + 1) i l = .ok (l, i + 1) := by rw [pw, if_pos h]
theorem pw_more (s : ByteArray) (n i : Nat) (l : List (Nat × Nat)) (h : chr s i ≠ 62) (h' : isLet (chr s i) = true) : pw s (n + 1) i l = pw s n (vEnd s i) (l ++ [(vnum (chr s i) (chr s (i + 1)), i)]) := by rw [pw, if_neg h, if_pos h']
theorem pw_bad (s : ByteArray) (n i : Nat) (l : List (Nat × Nat)) (h : chr s i ≠ 62) (h' : isLet (chr s i) = false) : pw s (n + 1) i l = .error i := by rw [pw, if_neg h, if_neg (by rw [h']; decide)]
theorem zlp (l : List (Nat × Nat)) (o p : Nat) : zcr (l ++ [(o, p)]) = zcr l ++ [.int .u8 ((o / 10 : Nat) : Int), .int .u8 ((o % 10 : Nat) : Int), .int .i64 (p : Int)] := by simp [zcr]
theorem own_any (tx : Nat -> Addr) (b : Nat) (s : ByteArray) (ty : Bool) (i : Nat) (w : World) (h : Rd b s i w) (g : Gl tx w) (hi : i <= s.size) (hs : s.size <= 100000) (hb : 9 <= b) :
 Calls Tryz.prog 186 #[rdv b ty] w (LPost tx b s Ov (ownO s ty i) w) := by
 have bx := Rbx.new ty h
 have h1 := h.alloc (rdo b ty)
 have G0 : Gb b w (w.alloc (rdo b ty)) := (Gb.refl b w).alloc _
 have g1 := g.gb G0 hb
 have c0 := bx.c0
 have c1 := bx.c1
 cases ty
 · have HR : Hid (ownO s false i = .ok ([], i)) := rfl
   go_enter Tryz.func186, Tryz.ntmps186
   go_wp2_with fail
   go_ret2
   refine ⟨G0, ?_⟩
   rw [HR.out]
   exact ⟨_, rfl, Ov.nil _, h1⟩
 · have HR : Hid (ownO s true i = if chr s i = 60 then pw s (s.size + 1) (i + 1) [] else .error i) := by unfold Hid ownO; rw [if_pos rfl]
   by_cases h58 : chr s i = 60
   · have HQ := HR.out
     rw [if_pos h58] at HQ
     have H58 : Hid (chr s i = 60) := h58
     have hlt : i < s.size := zaf (by rw [h58]; decide)
     clear HR h58
     have HR : Hid (_ = _) := HQ
     clear HQ
     obtain ⟨i0, hi0, hz0, hz1, hz2⟩ := info_parts infoOwn
     go_enter Tryz.func186, Tryz.ntmps186
     go_wp2_with fail
     refine (zdl b s i 60 _ h1 hs H58.out (by decide)).mono ?_
     rintro e w1 ⟨rfl, hr, hg⟩
     have G1 := G0.trans hg
     replace bx := bx.gb hg
     clear c0 c1
     go_wp2_with fail
     go_loopw [5] (fun v wr => ∃ m j l, wr.ownsRow w.heap.size 286 3 v l.length (zcr l) /\ Rd b s j wr /\ Rbx w.heap.size b true wr /\ j <= s.size /\ s.size - j < m /\ l.length <= j /\ Gb b w wr /\ Hid (pw s m j l = ownO s true i)) (fun _ wr => s.size - plk b wr)
     case atStart => exact ⟨s.size + 1, i + 1, [], World.ownsRow_nil _ _ _ _, hr, bx, hlt, by omega, by simp, G1, HR.out.symm⟩
     case round =>
      clear HR hr hg bx G1
      obtain ⟨m, j, l, hrow, hr, bx, hj, hm, hll, G1, HR⟩ := hrel
      obtain ⟨m, rfl⟩ : ∃ m', m = m' + 1 := ⟨m - 1, by omega⟩
      have c0 := bx.c0
      have hplr : Hid (plk b wr = j) := hr.plk
      by_cases h62 : chr s j = 62
      · have hltj : j < s.size := zaf (by rw [h62]; decide)
        have HQ := HR.out
        rw [pw_end _ _ _ _ h62] at HQ
        have H62 : Hid (chr s j = 62) := h62
        clear HR h62
        have HR : Hid (_ = _) := HQ
        clear HQ
        go_wp2_with fail
        refine (zbu b s j 62 _ hr hltj hs ((chrAt hltj).trans H62.out)).mono ?_
        rintro e w2 ⟨rfl, hr2, hg2⟩
        have hrow2 := zbr (hg2.kept hr) (by decide) hrow
        go_wp2_with fail
        go_ret2
        refine ⟨G1.trans hg2, ?_⟩
        rw [<- HR.out]
        exact ⟨_, rfl, zhr (Nat.zero_le _) hrow2, hr2⟩
      · have H62 : Hid (chr s j ≠ 62) := h62
        go_wp2_with fail
        refine (zbh b s j 62 _ hr hj hs (ne_at H62.out)).mono ?_
        rintro e w2 ⟨rfl, d, rfl⟩
        have hr2 := hr.drewN d
        have G2 := G1.drewN d
        have bx2 : Rbx w.heap.size b true (wr.drewN d) := bx
        have hrow2 : (wr.drewN d).ownsRow w.heap.size 286 3 u5 l.length (zcr l) := hrow
        replace c0 := bx2.c0
        clear hr bx hrow G1
        generalize wr.drewN d = w3 at *
        go_wp2_with fail
        refine (zff b s j _ hr2).mono ?_
        rintro e w4 ⟨rfl, rfl⟩
        go_wp2_with fail
        cases hc : isLet (chr s j)
        · have HQ := HR.out
          rw [pw_bad _ _ _ _ h62 hc] at HQ
          have RV := rv_no tx b s j _ hr2 (g.gb G2 hb) hj hs hb hc
          clear HR hc h62
          have HR : Hid (_ = _) := HQ
          clear HQ
          refine RV.mono ?_
          rintro e w4 ⟨q, rfl, ha, hg⟩
          have ha4 : AtErr (tx 1) q j (w4.alloc (.cells #[.int .u8 0, .int .u8 0] 263)) := (Below.heap_alloc _ _ _ (Array.getElem?_eq_some_iff.1 ha).1).trans ha
          go_wp2_with fail
          go_ret2
          refine ⟨(G2.trans hg).alloc _, ?_⟩
          rw [<- HR.out]
          exact ⟨_, q, rfl, ha4⟩
        · have HQ := HR.out
          rw [pw_more _ _ _ _ h62 hc] at HQ
          have RV := rv_yes b s j _ hr2 hj hs hc
          have pl := zcm hc
          clear HR hc h62
          have HR : Hid (_ = _) := HQ
          clear HQ
          have p1 := pl.1
          have p2 := pl.2
          clear pl
          generalize vnum (chr s j) (chr s (j + 1)) = o at *
          generalize vEnd s j = k at *
          refine RV.mono ?_
          rintro e w4 ⟨rfl, hr4, hg4⟩
          have G4 := G2.trans hg4
          have hk4 := hg4.kept hr2
          have hrow4 := zbr hk4 (by decide) hrow2
          have bx4 := bx2.gb hg4
          have hsz := G4.size
          clear c0 RV
          go_wp2_with (at_builtin; refine wpList_append_own _ rfl _ _ 181 rfl w.heap.size 286 i0 (.agg #[.int .u8 0, .int .u8 0, .int .i64 0]) 3 16 Tryz.underlying181 hi0 hz0 hz1 hz2 rfl (by decide) _ _ _ rfl ((hrow4.alloc _).alloc _) ⟨w4.heap.size + 1, 0, none⟩ 1 1 [.int .u8 ((o / 10 : Nat) : Int), .int .u8 ((o % 10 : Nat) : Int), .int .i64 (j : Int)] rfl rfl ?c1 ?c2 ?c3 ?c4 ?c5 ?_)
          case c1 =>
           exact World.news_of_block (heap_alloc2_new w4 _ _)
          case c2 => intro u hu; simp at hu; rcases hu with rfl | rfl | rfl <;> rfl
          case c3 => unfold maxLen; omega
          case c4 => omega
          case c5 => simp; omega
          intro v' w5 hown' hgrow _
          have hrowA := (hrow4.alloc (.cells #[.int .u8 ((o / 10 : Nat) : Int), .int .u8 ((o % 10 : Nat) : Int)] 263)).alloc (.cells #[.int .u8 ((o / 10 : Nat) : Int), .int .u8 ((o % 10 : Nat) : Int), .int .i64 (j : Int)] 286)
          have old : ∀ {q : Nat} {ob : Obj}, w4.heap[q]? = some ob -> ((w4.alloc (.cells #[.int .u8 ((o / 10 : Nat) : Int), .int .u8 ((o % 10 : Nat) : Int)] 263)).alloc (.cells #[.int .u8 ((o / 10 : Nat) : Int), .int .u8 ((o % 10 : Nat) : Int), .int .i64 (j : Int)] 286)).heap[q]? = some ob := fun hq =>
           (Below.heap_alloc _ _ _ (by have := (Array.getElem?_eq_some_iff.1 hq).1; simp; omega)).trans ((Below.heap_alloc _ _ _ (Array.getElem?_eq_some_iff.1 hq).1).trans hq)
          have hr5 : Rd b s k w5 := zcn hrowA hgrow (by decide) (old hr4)
          have bx5 : Rbx w.heap.size b true w5 := ⟨zcn hrowA hgrow (by decide) (old bx4.1), bx4.2⟩
          have G5 : Gb b w w5 := ((G4.alloc (.cells #[.int .u8 ((o / 10 : Nat) : Int), .int .u8 ((o % 10 : Nat) : Int)] 263)).alloc (.cells #[.int .u8 ((o / 10 : Nat) : Int), .int .u8 ((o % 10 : Nat) : Int), .int .i64 (j : Int)] 286)).grown hgrow (fun k hk => (zgp hrowA k hk).1) (Nat.le_refl _)
          have hown5 : w5.ownsRow w.heap.size 286 3 v' (l ++ [(o, j)]).length (zcr (l ++ [(o, j)])) := by rw [zlp]; simpa using hown'
          have hlen : (l ++ [(o, j)]).length <= k := by simp; omega
          clear hr2 bx2 hrow2 hr4 bx4 hown' hgrow hrowA G2 G4 hg4 hk4 old
          generalize l ++ [(o, j)] = lt at *
          go_wp2_with fail
          go_roundw
          case rel => exact ⟨m, k, lt, hown5, hr5, bx5, p2, by omega, hlen, G5, HR⟩
          case measure => rw [hr5.plk, hplr.out]; omega
   · have HQ := HR.out
     rw [if_neg h58] at HQ
     have H58 : Hid (chr s i ≠ 60) := h58
     clear HR h58
     have HR : Hid (_ = _) := HQ
     clear HQ
     go_enter Tryz.func186, Tryz.ntmps186
     go_wp2_with fail
     refine (zey tx b s i 60 _ h1 g1 hi hs H58.out hb).mono ?_
     rintro e w1 ⟨q, rfl, ha, hg⟩
     go_wp2_with fail
     go_ret2
     refine ⟨G0.trans hg, ?_⟩
     rw [HR.out]
     exact ⟨_, q, rfl, ha⟩
end Go.Proofs.YtceadeaodbadlaaGreatDoor
namespace Go.Proofs.YtceadeaodbadlaaGreatDoor
open Go.RowKit
variable {lo : Nat}
abbrev schO (ov V fx G tk : Value) : Obj := .cells #[ov, V, fx, G, tk] 299 (0, 0)
def FxOk (w : World) (s : Sch) (fx : Value) : Prop := fx = .pointer none \/ ∃ g m, fx = .pointer (some ⟨g, 0, none⟩) /\ Bits g m w /\ ∀ p, 970 <= p /\ p < 1230 -> hasB m p = (inT p s.1 && !s.2.contains p)
def TkOk (w : World) (s : Sch) (G tk : Value) : Prop := tk = .nilIface \/ ∃ gs, TypRow w G gs /\ gs.length = s.2.length /\ Tv w (putT s.2 gs s.1) tk
structure SOk (s : Sch) : Prop where
 ok : Ok s.1
 sz : sz s.1 <= 100000
 own : ∀ o ∈ s.2, 970 <= o /\ o < 1230
 len : s.2.length <= 100000
def Sv (lo : Nat) (w : World) (b : Nat) (s : Sch) : Prop := 10 + lo <= b /\ SOk s /\ ∃ ov V fx G tk, w.heap[b]? = some (schO ov V fx G tk) /\ Tv w s.1 ov /\ VarRow w V s.2 /\ FxOk w s fx /\ (∃ sa n cap, G = .slice sa n cap) /\ TkOk w s G tk
def KeptS (w w' : World) : Prop := ∀ (q : Nat) (c : Array Value) (T : TypeId) (fz : Nat × Nat), T ≠ 299 -> w.heap[q]? = some (.cells c T fz) -> w'.heap[q]? = some (.cells c T fz)
theorem KeptS.n {w w' : World} (h : KeptS w w') : KeptN w w' := by
 intro q c T hT hq
 refine h q c T _ ?_ hq
 rcases hT with rfl | rfl | rfl <;> decide
theorem Tv.keptS {w w' : World} (h : KeptS w w') {t : Ty} {v : Value} (hv : Tv w t v) : Tv w' t v := Tv.keptN h.n _ _ hv
theorem VarRow.keptS {w w' : World} (hk : KeptS w w') {V : Value} {l : List Nat} (h : VarRow w V l) : VarRow w' V l := h.of fun g c hg => hk g c _ _ (by decide) hg
theorem TypRow.keptS {w w' : World} (hk : KeptS w w') {V : Value} {l : List Ty} (h : TypRow w V l) : TypRow w' V l := by
 obtain ⟨sa, cap, rfl, h⟩ := h
 refine ⟨sa, cap, rfl, ?_⟩
 rcases h with h | ⟨g, c, rfl, hg, hc⟩
 · exact .inl h
 · refine .inr ⟨g, c, rfl, hk g c _ _ (by decide) hg, fun j t hj => ?_⟩
   obtain ⟨x, h1, h2, h3⟩ := hc j t hj
   exact ⟨x, h1, h2, h3.keptS hk⟩
theorem Bits.keptS {w w' : World} (hk : KeptS w w') {g : Nat} {m : Nat -> Nat} (h : Bits g m w) : Bits g m w' := by
 obtain ⟨⟨c, hc, h1⟩, h2⟩ := h
 exact ⟨⟨c, hk g c _ _ (by decide) hc, h1⟩, h2⟩
theorem FxOk.keptS {w w' : World} (hk : KeptS w w') {s : Sch} {fx : Value} (h : FxOk w s fx) : FxOk w' s fx := by
 rcases h with h | ⟨g, m, h1, h2, h3⟩
 · exact .inl h
 · exact .inr ⟨g, m, h1, h2.keptS hk, h3⟩
theorem TkOk.keptS {w w' : World} (hk : KeptS w w') {s : Sch} {G tk : Value} (h : TkOk w s G tk) : TkOk w' s G tk := by
 rcases h with h | ⟨gs, h1, h2, h3⟩
 · exact .inl h
 · exact .inr ⟨gs, h1.keptS hk, h2, h3.keptS hk⟩
theorem Sv.same {w w' : World} (hk : KeptS w w') {b : Nat} {s : Sch} (h : Sv lo w b s) (hb : w'.heap[b]? = w.heap[b]?) : Sv lo w' b s := by
 obtain ⟨h0, h1, ov, V, fx, G, tk, h2, h3, h4, h5, h6, h7⟩ := h
 exact ⟨h0, h1, ov, V, fx, G, tk, hb.trans h2, h3.keptS hk, h4.keptS hk, h5.keptS hk, h6, h7.keptS hk⟩
theorem Sv.lt {w : World} {b : Nat} {s : Sch} (h : Sv lo w b s) : b < w.heap.size := by
 obtain ⟨_, _, _, _, _, _, _, h2, _⟩ := h
 exact (Array.getElem?_eq_some_iff.1 h2).1
structure Sx (lo : Nat) (w w' : World) : Prop where
 os : w'.os = w.os
 tape : w'.tape = w.tape
 output : w'.output = w.output
 size : w.heap.size <= w'.heap.size
 low : ∀ q, q < 10 + lo -> w'.heap[q]? = w.heap[q]?
 kept : KeptS w w'
 any : ∀ (q : Nat) (c : Array Value) (T : TypeId), w.heap[q]? = some (.cells c T (0, 0)) -> ∃ c', w'.heap[q]? = some (.cells c' T (0, 0))
 sch : ∀ b s, Sv lo w b s -> Sv lo w' b s
 same : ∀ (b : Nat) (ov V fx G tk : Value), w.heap[b]? = some (schO ov V fx G tk) -> ∃ fx' G' tk', w'.heap[b]? = some (schO ov V fx' G' tk') /\ ∀ x, x < w.heap.size -> fx ≠ .pointer (some ⟨x, 0, none⟩) -> fx' ≠ .pointer (some ⟨x, 0, none⟩)
theorem Sx.refl (w : World) : Sx lo w w := ⟨rfl, rfl, rfl, Nat.le_refl _, fun _ _ => rfl, fun _ _ _ _ _ h => h, fun _ c _ h => ⟨c, h⟩, fun _ _ h => h, fun _ _ _ fx G tk h => ⟨fx, G, tk, h, fun _ _ h => h⟩⟩
theorem Sx.trans {x y z : World} (h : Sx lo x y) (k : Sx lo y z) : Sx lo x z :=
 ⟨k.os.trans h.os, k.tape.trans h.tape, k.output.trans h.output, Nat.le_trans h.size k.size, fun q hq => (k.low q hq).trans (h.low q hq), fun q c T fz hT hq => k.kept q c T fz hT (h.kept q c T fz hT hq),
  fun q c T hq => let ⟨c', h'⟩ := h.any q c T hq; k.any q c' T h', fun b s hs => k.sch b s (h.sch b s hs),
  fun b ov V fx G tk hq => let ⟨fx1, G1, tk1, h1, n1⟩ := h.same b ov V fx G tk hq; let ⟨fx2, G2, tk2, h2, n2⟩ := k.same b ov V fx1 G1 tk1 h1; ⟨fx2, G2, tk2, h2, fun x hx hn => n2 x (Nat.lt_of_lt_of_le hx h.size) (n1 x hx hn)⟩⟩
theorem Below.sx {w w' : World} (hb : Below w.heap.size w w') (h11 : 10 + lo <= w.heap.size) : Sx lo w w' := by
 have hk : KeptS w w' := fun q c T fz _ hq => (hb.block q (Array.getElem?_eq_some_iff.1 hq).1).trans hq
 exact ⟨hb.os, hb.tape, hb.output, hb.size, fun q hq => hb.block q (by omega), hk, fun q c T hq => ⟨c, (hb.block q (Array.getElem?_eq_some_iff.1 hq).1).trans hq⟩,
  fun b s hs => hs.same hk (hb.block b hs.lt), fun b ov V fx G tk hq => ⟨fx, G, tk, (hb.block b (Array.getElem?_eq_some_iff.1 hq).1).trans hq, fun _ _ h => h⟩⟩
theorem Sx.drewN {w w' : World} (h : Sx lo w w') (n : Nat) : Sx lo w (w'.drewN n) := ⟨h.os, h.tape, h.output, h.size, h.low, h.kept, h.any, fun b s hs => Sv.same (w := w') (w' := w'.drewN n) (fun _ _ _ _ _ h => h) (h.sch b s hs) rfl, h.same⟩
theorem Gl.sx {tx : Nat -> Addr} {w w' : World} (h : Gl tx w) (hx : Sx lo w w') : Gl tx w' := by
 refine ⟨fun k hk => ?_, ?_, Nat.le_trans h.size hx.size⟩
 · have e := h.errs k hk
   unfold World.cell? at e ⊢
   rw [hx.low k (by omega)]; exact e
 · have e := h.hand
   unfold World.cell? at e ⊢
   rw [hx.low 8 (by omega)]; exact e
theorem Gs.sx {tx : Nat -> Addr} {w w' : World} (h : Gs tx w) (hx : Sx lo w w') : Gs tx w' := by
 refine ⟨h.toGl.sx hx, h.ne, fun k hk => ?_⟩
 obtain ⟨c, t, hc⟩ := h.bl k hk
 obtain ⟨c', h'⟩ := hx.any _ _ _ hc
 exact ⟨c', t, h'⟩
theorem zda {w w' : World} {B : Nat} {T : TypeId} {k n : Nat} {v : Value} {xs : List Value} (hk : KeptS w w') (hT : T ≠ 299) (h : w.ownsRow B T k v n xs) : w'.ownsRow B T k v n xs := by
 obtain ⟨h1, h2 | ⟨g, cap, cur, e, hB, hg, h3⟩⟩ := h
 · exact ⟨h1, .inl h2⟩
 · exact ⟨h1, .inr ⟨g, cap, cur, e, hB, hk _ _ _ _ hT hg, h3⟩⟩
theorem Gv.keptS {w w' : World} {G : Value} {ts : List Ty} (hk : KeptS w w') (h : Gv w G ts) : Gv w' G ts := by
 obtain ⟨vs, h1, h2⟩ := h
 exact ⟨vs, zda hk (by decide) h1, Tvs.keptN hk.n _ _ h2⟩
theorem Fv.keptS {w w' : World} {F : Value} {g : List Ty} (hk : KeptS w w') (h : Fv w F g) : Fv w' F g := by
 rcases h with h | ⟨u, e, h⟩
 · exact .inl h
 · exact .inr ⟨u, e, h.keptS hk⟩
theorem Ov.keptS {w w' : World} {V : Value} {l : List (Nat × Nat)} (hk : KeptS w w') (h : Ov w V l) : Ov w' V l := zda hk (by decide) h
theorem Ev.keptS {w w' : World} (hk : KeptS w w') : ∀ (e : Ex) (v : Value), Ev w e v -> Ev w' e v := by
 intro e
 induction e with
 | nil => intro v h; exact h.elim
 | node t o x a b iha ihb =>
  intro v h
  rcases h with ⟨e, G, hv, hG⟩ | ⟨e, G, hv, hG⟩ | h | ⟨e, F, T, y, hv, hF, ha⟩ | ⟨e, V, T, y, T', z, hv, hV, ha, hb⟩ | ⟨e, T, y, T', z, hv, ha, hb⟩
  · exact .inl ⟨e, G, hv, hG.keptS hk⟩
  · exact .inr (.inl ⟨e, G, hv, hG.keptS hk⟩)
  · exact .inr (.inr (.inl h))
  · exact .inr (.inr (.inr (.inl ⟨e, F, T, y, hv, hF.keptS hk, iha _ ha⟩)))
  · exact .inr (.inr (.inr (.inr (.inl ⟨e, V, T, y, T', z, hv, hV.keptS hk, iha _ ha, ihb _ hb⟩))))
  · exact .inr (.inr (.inr (.inr (.inr ⟨e, T, y, T', z, hv, iha _ ha, ihb _ hb⟩))))
theorem Tvs.at {w : World} : ∀ (ts : List Ty) (vs : List Value), Tvs w ts vs -> ∀ (j : Nat) (t : Ty), ts[j]? = some t -> ∃ x, vs[j]? = some x /\ Tv w t x := by
 intro ts
 induction ts with
 | nil => intro vs _ j t h; simp at h
 | cons t ts ih =>
  intro vs h j u hj
  cases vs with
  | nil => exact h.elim
  | cons v vs =>
   cases j with
   | zero => simp at hj; subst hj; exact ⟨v, rfl, h.1⟩
   | succ j => simp at hj; simpa using ih vs h.2 j u hj
theorem zhi (v V : Value) (w : World) (T : TypeId) (x : Value) (sa : Option Addr) (n cap : Nat) (hv : v = .iface T x) (hV : V = .slice sa n cap) :
 Calls Tryz.prog 158 #[v, V] w fun e w' => e = .returned (.pointer (some ⟨w.heap.size, 0, none⟩)) /\ w' = w.alloc (schO v V (.pointer none) (.slice none 0 0) .nilIface) := by
 subst hv hV
 go_enter Tryz.func158, Tryz.ntmps158
 go_wp2_with fail
 go_ret
 exact ⟨rfl, rfl⟩
theorem Sv.new {v V : Value} {w : World} {s : Sch} (h11 : 10 + lo <= w.heap.size) (hs : SOk s) (hv : Tv w s.1 v) (hV : VarRow w V s.2) : Sv lo (w.alloc (schO v V (.pointer none) (.slice none 0 0) .nilIface)) w.heap.size s := by
 have b1 : Below w.heap.size w (w.alloc (schO v V (.pointer none) (.slice none 0 0) .nilIface)) := bal w _
 exact ⟨h11, hs, v, V, _, _, _, heap_alloc_new w _, hv.below b1, hV.below b1, .inl rfl, ⟨_, _, _, rfl⟩, .inl rfl⟩
theorem count_any (b : Nat) (s : Sch) (w : World) (h : Sv lo w b s) :
 Calls Tryz.prog 190 #[.pointer (some ⟨b, 0, none⟩)] w fun e w' => e = .returned (.int .i64 (s.2.length : Int)) /\ w' = w := by
 obtain ⟨h0, h1, ov, V, fx, G, tk, h2, h3, h4, h5, h6, h7⟩ := h
 obtain ⟨sa, cap, rfl, -⟩ := h4
 have c1 : w.cell? ⟨b, 1, none⟩ = some (.slice sa s.2.length cap) := cbl h2
 clear h2 h3 h5 h6 h7 h1
 generalize s.2.length = n at *
 go_enter Tryz.func190, Tryz.ntmps190
 go_wp2_with fail
 go_ret
 exact ⟨rfl, rfl⟩
theorem TypRow.at {w : World} {sa : Option Addr} {n cap : Nat} {ts : List Ty} (h : TypRow w (.slice sa n cap) ts) : ts.length = n /\ ∀ (j : Nat) (t : Ty), ts[j]? = some t -> ∃ g x, sa = some ⟨g, 0, none⟩ /\ w.cell? ⟨g, j, none⟩ = some x /\ Ok t /\ Tv w t x /\ g < w.heap.size := by
 obtain ⟨sa', cap', e, h⟩ := h
 simp only [Value.slice.injEq] at e
 obtain ⟨rfl, rfl, rfl⟩ := e
 refine ⟨rfl, fun j t hj => ?_⟩
 rcases h with rfl | ⟨g, c, rfl, hg, hc⟩
 · simp at hj
 · obtain ⟨x, h1, h2, h3⟩ := hc j t hj
   exact ⟨g, x, rfl, by rw [Lib.cell_of_heap hg]; exact h1, h2, h3, (Array.getElem?_eq_some_iff.1 hg).1⟩
theorem zof {α : Type} {a b : List α} (hl : a.length = b.length) (h : ∀ (j : Nat) (x y : α), j < a.length -> a[j]? = some x -> b[j]? = some y -> x = y) : a = b := by
 refine List.ext_getElem hl fun i h1 h2 => h i _ _ h1 (List.getElem?_eq_getElem h1) (List.getElem?_eq_getElem h2)
/-- slices.EqualFunc with kind.Same. -/
theorem zlx (V1 V2 : Value) (la lb : List Ty) (w : World) (h1 : TypRow w V1 la) (h2 : TypRow w V2 lb) (hl : la.length <= 1000000) (hl2 : lb.length <= 1000000) :
 Calls Tryz.prog 217 #[V1, V2, .func (.func 162) #[] #[]] w fun e w' => ∃ r : Bool, e = .returned (.bool r) /\ (r = true ↔ la = lb) /\ Below w.heap.size w w' := by
 obtain ⟨sa, cap, rfl, -⟩ := id h1
 obtain ⟨sb, capb, rfl, -⟩ := id h2
 obtain ⟨-, H1⟩ := h1.at
 obtain ⟨-, H2⟩ := h2.at
 have H1' : Hid (∀ (j : Nat) (t : Ty), la[j]? = some t -> ∃ g x, sa = some ⟨g, 0, none⟩ /\ w.cell? ⟨g, j, none⟩ = some x /\ Ok t /\ Tv w t x /\ g < w.heap.size) := H1
 have H2' : Hid (∀ (j : Nat) (t : Ty), lb[j]? = some t -> ∃ g x, sb = some ⟨g, 0, none⟩ /\ w.cell? ⟨g, j, none⟩ = some x /\ Ok t /\ Tv w t x /\ g < w.heap.size) := H2
 clear h1 h2 H1 H2
 have LA : Hid (la.length = la.length) := rfl
 have HE : Hid (la.length ≠ lb.length -> la ≠ lb) := fun h e => h (by rw [e])
 have HQ : Hid (∀ (k : Nat) (x y : Ty), la[k]? = some x -> lb[k]? = some y -> x ≠ y -> la ≠ lb) := fun k x y hx hy hne e => hne (by rw [e, hy] at hx; exact (Option.some.inj hx).symm)
 have HA : Hid (la.length = lb.length -> (∀ (j : Nat) (x y : Ty), j < la.length -> la[j]? = some x -> lb[j]? = some y -> x = y) -> la = lb) := zof
 have GA : Hid (∀ k, k < la.length -> ∃ t, la[k]? = some t) := fun k hk => ⟨_, List.getElem?_eq_getElem hk⟩
 have GB : Hid (∀ k, k < lb.length -> ∃ t, lb[k]? = some t) := fun k hk => ⟨_, List.getElem?_eq_getElem hk⟩
 clear LA
 generalize la.length = n at *
 generalize lb.length = m at *
 go_enter Tryz.func217, Tryz.ntmps217
 by_cases hnm : n = m
 case neg =>
  have hz : ((n : Int) = (m : Int)) = False := by simp; omega
  have hne := HE.out hnm
  go_wp2_with fail
  go_ret
  exact ⟨false, rfl, by simpa using hne, Below.refl _ _⟩
 case pos =>
 subst hnm
 go_wp2_with fail
 go_loopw [17] (fun i wr => ∃ k : Nat, i = .int .i64 (k : Int) /\ k <= n /\ Hid (∀ (j : Nat) (x y : Ty), j < k -> la[j]? = some x -> lb[j]? = some y -> x = y) /\ Below w.heap.size w wr) (fun i _ => n - (intOf i).toNat)
 case atStart => exact ⟨0, rfl, Nat.zero_le _, fun j x y hj => by omega, Below.refl _ _⟩
 case round =>
  obtain ⟨k, rfl, hkn, HU, hB⟩ := hrel
  by_cases hk : k = n
  · subst hk
    have hab := HA.out trivial HU.out
    go_wp2_with fail
    go_ret
    exact ⟨true, rfl, by simpa using hab, hB⟩
  · have hk' : k < n := by omega
    clear hk
    obtain ⟨x, hx⟩ := GA.out k hk'
    obtain ⟨y, hy⟩ := GB.out k hk'
    obtain ⟨ga, v, rfl, ca, hox, tx, hga⟩ := H1'.out k x hx
    obtain ⟨gb, v', rfl, cb, hoy, ty, hgb⟩ := H2'.out k y hy
    have S := same_any x y v v' wr hox hoy (tx.below hB) (ty.below hB)
    have ca' := (hB.cell (p := ⟨ga, k, none⟩) hga).trans ca
    have cb' := (hB.cell (p := ⟨gb, k, none⟩) hgb).trans cb
    obtain ⟨T, z, rfl⟩ := tx.iface
    obtain ⟨T', z', rfl⟩ := ty.iface
    have HX : Hid (la[k]? = some x) := hx
    have HY : Hid (lb[k]? = some y) := hy
    clear hx hy ca cb tx ty
    go_wp2_with fail
    refine S.mono ?_
    rintro e w1 ⟨rfl, hb⟩
    have hB1 : Below w.heap.size w w1 := hB.trans (hb.mono hB.size)
    cases hq : eqT x y
    · have hne := HQ.out k x y HX.out HY.out (fun h => by rw [(zcx x y).2 h] at hq; cases hq)
      go_wp2_with fail
      go_ret
      exact ⟨false, rfl, by simpa using hne, hB1⟩
    · have he := (zcx x y).1 hq
      have HM : Hid (∀ (j : Nat) (x y : Ty), j < k + 1 -> la[j]? = some x -> lb[j]? = some y -> x = y) := by
       intro j x' y' hj hx' hy'
       rcases Nat.lt_or_ge j k with h | h
       · exact HU.out j x' y' h hx' hy'
       · obtain rfl : j = k := by omega
         rw [HX.out] at hx'; rw [HY.out] at hy'
         rw [<- Option.some.inj hx', <- Option.some.inj hy']; exact he
      clear he
      go_wp2_with fail
      go_roundw
      case rel => exact ⟨k + 1, by simp, by omega, HM, hB1⟩
      case measure => simp [intOf]; omega
theorem VarRow.one {w : World} {V : Value} {l l' : List Nat} (h : VarRow w V l) (h' : VarRow w V l') : l = l' := by
 obtain ⟨sa, cap, rfl, h⟩ := h
 obtain ⟨sa', cap', e, h'⟩ := h'
 simp only [Value.slice.injEq] at e
 obtain ⟨rfl, hl, rfl⟩ := e
 refine zof hl fun j x y hj hx hy => ?_
 rcases h with rfl | ⟨g, c, rfl, hg, hc⟩
 · simp at hj
 · rcases h' with rfl | ⟨g', c', e, hg', hc'⟩
   · simp at hy
   · simp only [Option.some.injEq, Addr.mk.injEq, and_true] at e
     subst e
     rw [hg] at hg'
     simp only [Option.some.injEq, Obj.cells.injEq, and_true] at hg'
     subst hg'
     obtain ⟨h1, h2⟩ := hc j x hx
     obtain ⟨h3, h4⟩ := hc' j y hy
     rw [h1] at h3
     rw [h2] at h4
     simp only [Option.some.injEq, Value.int.injEq, true_and] at h3 h4
     omega
theorem Sv.one {w : World} {b : Nat} {s s' : Sch} (h : Sv lo w b s) (h' : Sv lo w b s') : s = s' := by
 obtain ⟨_, o, ov, V, fx, G, tk, h2, h3, h4, _⟩ := h
 obtain ⟨_, o', ov', V', fx', G', tk', h2', h3', h4', _⟩ := h'
 rw [h2] at h2'
 simp only [schO, Option.some.injEq, Obj.cells.injEq, and_true] at h2'
 have e := congrArg Array.toList h2'
 simp only [List.cons.injEq, and_true] at e
 obtain ⟨rfl, rfl, -⟩ := e
 exact Prod.ext (Tv.one _ _ _ o.ok o'.ok h3 h3') (h4.one h4')
theorem Sv.learn {w w1 w3 : World} {b : Nat} {s : Sch} (h : Sv lo w b s) (hb : Below w.heap.size w w1) (h11 : 10 + lo <= w.heap.size) (h1 : w3.os = w1.os) (h2 : w3.tape = w1.tape) (h3 : w3.output = w1.output) (h4 : w3.heap.size = w1.heap.size)
 (ho : ∀ q, q ≠ b -> w3.heap[q]? = w1.heap[q]?) (hn : KeptS w w3 -> Sv lo w3 b s) (hsame : ∀ (ov V fx G tk : Value), w.heap[b]? = some (schO ov V fx G tk) -> ∃ fx' G' tk', w3.heap[b]? = some (schO ov V fx' G' tk') /\ ∀ x, x < w.heap.size -> fx ≠ .pointer (some ⟨x, 0, none⟩) -> fx' ≠ .pointer (some ⟨x, 0, none⟩)) : Sx lo w w3 := by
 have h0 := h
 obtain ⟨hb11, _, ov, V, fx, G, tk, hg, _⟩ := h
 have hk : KeptS w w3 := fun q c T fz hT hq => by
  rw [ho q ?_]
  · exact (hb.block q (Array.getElem?_eq_some_iff.1 hq).1).trans hq
  · rintro rfl
    rw [hg] at hq
    simp only [schO, Option.some.injEq, Obj.cells.injEq] at hq
    exact hT hq.2.1.symm
 have hn := hn hk
 refine ⟨h1.trans hb.os, h2.trans hb.tape, h3.trans hb.output, by rw [h4]; exact hb.size, fun q hq => ?_, hk, fun q c T hq => ?_, fun b' s' hs => ?_, fun b' ov V fx G tk hq => ?_⟩
 · rw [ho q (by omega)]; exact hb.block q (by omega)
 · by_cases hqb : q = b
   · subst hqb
     rw [hg] at hq
     simp only [schO, Option.some.injEq, Obj.cells.injEq] at hq
     obtain ⟨_, _, ov', V', fx', G', tk', hg', _⟩ := hn
     exact ⟨_, by rw [hg', <- hq.2.1]⟩
   · rw [ho q hqb]; exact ⟨c, (hb.block q (Array.getElem?_eq_some_iff.1 hq).1).trans hq⟩
 · by_cases hqb : b' = b
   · subst hqb
     rw [hs.one h0]; exact hn
   · exact hs.same hk (by rw [ho b' hqb]; exact hb.block b' hs.lt)
 · by_cases hqb : b' = b
   · subst hqb; exact hsame ov V fx G tk hq
   · exact ⟨fx, G, tk, by rw [ho b' hqb]; exact (hb.block b' (Array.getElem?_eq_some_iff.1 hq).1).trans hq, fun _ _ h => h⟩
theorem zgu {a b c d e a' b' c' d' e' : Value} (h : some (schO a b c d e) = some (schO a' b' c' d' e')) : a = a' /\ b = b' /\ c = c' /\ d = d' /\ e = e' := by
 simp only [schO, Option.some.injEq, Obj.cells.injEq, and_true] at h
 have e := congrArg Array.toList h
 simp only [List.cons.injEq, and_true] at e
 exact e
structure AtNew (b : Nat) (T : TypeId) (z : Value) (sv sg : Option Addr) (vl cv gl cg : Nat) (t' : Ty) (g0 k0 : Value) (Q : Ending -> World -> Prop) (w : World) : Prop where
 c0 : w.cell? ⟨b, 0, none⟩ = some (.iface T z)
 c1 : w.cell? ⟨b, 1, none⟩ = some (.slice sv vl cv)
 pp : Calls Tryz.prog 218 #[.iface T z, .slice sv vl cv, .slice sg gl cg] w.drew fun e w' => ∃ x, e = .returned x /\ Tv w' t' x /\ Below w.heap.size w w'
 hf : ∀ w2 x, Below w.heap.size w w2 -> Tv w2 t' x -> w2.cell? ⟨b, 0, none⟩ = some (.iface T z) /\ w2.cell? ⟨b, 1, none⟩ = some (.slice sv vl cv) /\ w2.cell? ⟨b, 3, none⟩ = some g0 /\ w2.frozen? ⟨b, 3, none⟩ = false /\ (w2.setCell ⟨b, 3, none⟩ (.slice sg gl cg)).cell? ⟨b, 4, none⟩ = some k0 /\ (w2.setCell ⟨b, 3, none⟩ (.slice sg gl cg)).frozen? ⟨b, 4, none⟩ = false /\
  (w2.setCell ⟨b, 3, none⟩ (.slice sg gl cg)).cell? ⟨b, 0, none⟩ = some (.iface T z) /\ (w2.setCell ⟨b, 3, none⟩ (.slice sg gl cg)).cell? ⟨b, 1, none⟩ = some (.slice sv vl cv) /\
  ((w2.setCell ⟨b, 3, none⟩ (.slice sg gl cg)).setCell ⟨b, 4, none⟩ x).cell? ⟨b, 0, none⟩ = some (.iface T z) /\ ((w2.setCell ⟨b, 3, none⟩ (.slice sg gl cg)).setCell ⟨b, 4, none⟩ x).cell? ⟨b, 1, none⟩ = some (.slice sv vl cv) /\
  ((w2.setCell ⟨b, 3, none⟩ (.slice sg gl cg)).setCell ⟨b, 4, none⟩ x).cell? ⟨b, 4, none⟩ = some x /\
  Hid (Q (.returned x) ((w2.setCell ⟨b, 3, none⟩ (.slice sg gl cg)).setCell ⟨b, 4, none⟩ x))
theorem at_new (b : Nat) (T : TypeId) (z : Value) (sv sg : Option Addr) (vl cv gl cg : Nat) (t' : Ty) (g0 k0 : Value) (Q : Ending -> World -> Prop) (w : World) (H : AtNew b T z sv sg vl cv gl cg t' g0 k0 Q w) (c4 : w.cell? ⟨b, 4, none⟩ = some .nilIface) :
 Calls Tryz.prog 191 #[.pointer (some ⟨b, 0, none⟩), (.slice sg gl cg)] w Q := by
 have c0 := H.c0
 have c1 := H.c1
 have PP := H.pp
 have HF : Hid _ := H.hf
 clear H
 go_enter Tryz.func191, Tryz.ntmps191
 go_wp2_with fail
 refine wp_region_held_drew (S := (fun wq => wq.cell? ⟨b, 0, none⟩ = some (.iface T z) /\ wq.cell? ⟨b, 1, none⟩ = some (.slice sv vl cv))) (by kernel_rfl) (⟨c0, c1⟩) (fun hS => ?_)
 refine tkS 0 (.pointer (some ⟨b, 0, none⟩)) hS ?_
 refine tkS 1 (.pointer (some ⟨b, 0, none⟩)) hS ?_
 refine tkS 2 (.slice sg gl cg) hS ?_
 refine tkS 3 (.pointer (some ⟨b, 0, none⟩)) hS ?_
 refine tkS 4 (.pointer (some ⟨b, 0, none⟩)) hS ?_
 refine tkS 5 (.pointer (some ⟨b, 0, none⟩)) hS ?_
 refine tkL 6 (.iface T z) hS ?_
 refine tkS 7 (.pointer (some ⟨b, 0, none⟩)) hS ?_
 refine tkS 8 (.pointer (some ⟨b, 0, none⟩)) hS ?_
 refine tkS 9 (.pointer (some ⟨b, 1, none⟩)) hS ?_
 refine tkL 10 (.slice sv vl cv) hS ?_
 refine tkS 11 (.slice sg gl cg) hS ?_
 refine rd1 12 (fun KK hK => ?_)
 (try simp only [List.getElem_toArray, List.getElem_cons_succ, List.getElem_cons_zero])
 go_simp
 go_at_call 218
 refine (PP).mono ?_
 rintro e w2 ⟨x, rfl, hx, hb2⟩
 obtain ⟨c0, c1, HR⟩ := HF.out w2 x hb2 hx
 obtain ⟨Tx, zx, rfl⟩ := hx.iface
 clear hx
 obtain ⟨g3, z3, g4, z4, e0, e1, f0, f1, fl, HR⟩ := HR
 (try dsimp only)
 refine hK.out _ _ ⟨c0, c1⟩ (fun hS => nrm ?_)
 refine tkS 13 (.pointer (some ⟨b, 0, none⟩)) hS ?_
 refine tkS 14 (.pointer (some ⟨b, 3, none⟩)) hS ?_
 refine rd1 15 (fun KK hK => ?_)
 (try simp only [List.getElem_toArray, List.getElem_cons_succ, List.getElem_cons_zero])
 go_simp
 (try dsimp only)
 refine hK.out _ _ ⟨e0, e1⟩ (fun hS => nrm ?_)
 refine tkS 16 (.pointer (some ⟨b, 0, none⟩)) hS ?_
 refine tkS 17 (.pointer (some ⟨b, 4, none⟩)) hS ?_
 refine rd1 18 (fun KK hK => ?_)
 (try simp only [List.getElem_toArray, List.getElem_cons_succ, List.getElem_cons_zero])
 go_simp
 (try dsimp only)
 refine hK.out _ _ ⟨f0, f1⟩ (fun hS => nrm ?_)
 refine wpAnyH_done (by kernel_rfl) ?_ _
 go_wp2_with fail
 exact HR.out
theorem at_again (b : Nat) (T : TypeId) (z : Value) (sv sg : Option Addr) (vl cv gl cg : Nat) (t' : Ty) (g0 k0 : Value) (Q : Ending -> World -> Prop) (Tk : TypeId) (zk : Value) (s0 : Option Addr) (l0 c0' : Nat) (w : World) (c3 : w.cell? ⟨b, 3, none⟩ = some (.slice s0 l0 c0')) (c4 : w.cell? ⟨b, 4, none⟩ = some (.iface Tk zk))
 (EF : Calls Tryz.prog 217 #[.slice s0 l0 c0', (.slice sg gl cg), .func (.func 162) #[] #[]] w fun e w' => ∃ r : Bool, e = .returned (.bool r) /\
  Hid ((r = false -> AtNew b T z sv sg vl cv gl cg t' g0 k0 Q w') /\ (r = true -> w'.cell? ⟨b, 4, none⟩ = some (.iface Tk zk) /\ Q (.returned (.iface Tk zk)) w'))) :
 Calls Tryz.prog 191 #[.pointer (some ⟨b, 0, none⟩), (.slice sg gl cg)] w Q := by
 go_enter Tryz.func191, Tryz.ntmps191
 go_wp2_with fail
 refine EF.mono ?_
 rintro e w1 ⟨r, rfl, HH⟩
 cases r
 case true =>
  obtain ⟨d4, hQ⟩ := HH.out.2 rfl
  clear HH
  have HR : Hid _ := hQ
  clear hQ
  go_wp2_with fail
  exact HR.out
 case false =>
 have H := HH.out.1 rfl
 clear HH c3 c4
 have c0 := H.c0
 have c1 := H.c1
 have PP := H.pp
 have HF : Hid _ := H.hf
 clear H
 go_wp2_with fail
 refine wp_region_held_drew (S := (fun wq => wq.cell? ⟨b, 0, none⟩ = some (.iface T z) /\ wq.cell? ⟨b, 1, none⟩ = some (.slice sv vl cv))) (by kernel_rfl) (⟨c0, c1⟩) (fun hS => ?_)
 refine tkS 0 (.pointer (some ⟨b, 0, none⟩)) hS ?_
 refine tkS 1 (.pointer (some ⟨b, 0, none⟩)) hS ?_
 refine tkS 2 (.slice sg gl cg) hS ?_
 refine tkS 3 (.pointer (some ⟨b, 0, none⟩)) hS ?_
 refine tkS 4 (.pointer (some ⟨b, 0, none⟩)) hS ?_
 refine tkS 5 (.pointer (some ⟨b, 0, none⟩)) hS ?_
 refine tkL 6 (.iface T z) hS ?_
 refine tkS 7 (.pointer (some ⟨b, 0, none⟩)) hS ?_
 refine tkS 8 (.pointer (some ⟨b, 0, none⟩)) hS ?_
 refine tkS 9 (.pointer (some ⟨b, 1, none⟩)) hS ?_
 refine tkL 10 (.slice sv vl cv) hS ?_
 refine tkS 11 (.slice sg gl cg) hS ?_
 refine rd1 12 (fun KK hK => ?_)
 (try simp only [List.getElem_toArray, List.getElem_cons_succ, List.getElem_cons_zero])
 go_simp
 go_at_call 218
 refine (PP).mono ?_
 rintro e w2 ⟨x, rfl, hx, hb2⟩
 obtain ⟨c0, c1, HR⟩ := HF.out w2 x hb2 hx
 obtain ⟨Tx, zx, rfl⟩ := hx.iface
 clear hx
 obtain ⟨g3, z3, g4, z4, e0, e1, f0, f1, fl, HR⟩ := HR
 (try dsimp only)
 refine hK.out _ _ ⟨c0, c1⟩ (fun hS => nrm ?_)
 refine tkS 13 (.pointer (some ⟨b, 0, none⟩)) hS ?_
 refine tkS 14 (.pointer (some ⟨b, 3, none⟩)) hS ?_
 refine rd1 15 (fun KK hK => ?_)
 (try simp only [List.getElem_toArray, List.getElem_cons_succ, List.getElem_cons_zero])
 go_simp
 (try dsimp only)
 refine hK.out _ _ ⟨e0, e1⟩ (fun hS => nrm ?_)
 refine tkS 16 (.pointer (some ⟨b, 0, none⟩)) hS ?_
 refine tkS 17 (.pointer (some ⟨b, 4, none⟩)) hS ?_
 refine rd1 18 (fun KK hK => ?_)
 (try simp only [List.getElem_toArray, List.getElem_cons_succ, List.getElem_cons_zero])
 go_simp
 (try dsimp only)
 refine hK.out _ _ ⟨f0, f1⟩ (fun hS => nrm ?_)
 refine wpAnyH_done (by kernel_rfl) ?_ _
 go_wp2_with fail
 exact HR.out
theorem at_any (b : Nat) (s : Sch) (G : Value) (gs : List Ty) (w : World) (h11 : 10 + lo <= w.heap.size) (h : Sv lo w b s) (hg : TypRow w G gs) (hl : gs.length = s.2.length) (m : Nat) (hok : GOk m gs) (hs : sz (putT s.2 gs s.1) <= 4000000000000000000) :
 Calls Tryz.prog 191 #[.pointer (some ⟨b, 0, none⟩), G] w fun e w' => ∃ x, e = .returned x /\ Tv w' (putT s.2 gs s.1) x /\ Sx lo w w' := by
 have h' := h
 obtain ⟨hb, ho, ov, V, fx, G0, tk, h2, h3, h4, h5, ⟨s0, l0, c0', rfl⟩, h7⟩ := h'
 obtain ⟨T, z, rfl⟩ := h3.iface
 obtain ⟨sv, cv, rfl, -⟩ := id h4
 obtain ⟨sg, cg, rfl, -⟩ := id hg
 have N : ∀ w1, Below w.heap.size w w1 -> AtNew b T z sv sg s.2.length cv gs.length cg (putT s.2 gs s.1) (.slice s0 l0 c0') tk (fun e w' => ∃ x, e = .returned x /\ Tv w' (putT s.2 gs s.1) x /\ Sx lo w w') w1 := by
  intro w1 hb1
  have hb1' : w1.heap[b]? = some (schO (.iface T z) (.slice sv s.2.length cv) fx (.slice s0 l0 c0') tk) := (hb1.block b h.lt).trans h2
  refine ⟨by rw [Lib.cell_of_heap hb1']; rfl, by rw [Lib.cell_of_heap hb1']; rfl, ?_, ?_⟩
  · have P := kput_any s.1 (.iface T z) s.2 gs (.slice sv s.2.length cv) (.slice sg gs.length cg) w1.drew ho.ok ((h3.below hb1).drewN 1) hl.symm (by have := ho.len; omega) (fun t ht => zqc ht hok) hs (VarRow.keptS (w := w1) (w' := w1.drew) (fun _ _ _ _ _ h => h) (h4.below hb1)) (TypRow.keptS (w := w1) (w' := w1.drew) (fun _ _ _ _ _ h => h) (hg.below hb1))
    exact P.mono fun e w' ⟨x, h1, h2, h3⟩ => ⟨x, h1, h2, ⟨h3.os, h3.tape, h3.output, h3.size, h3.block⟩⟩
  · intro w2 x hb2 hx
    have hB2 : Below w.heap.size w w2 := hb1.trans (hb2.mono hb1.size)
    have k2 : w2.heap[b]? = some (schO (.iface T z) (.slice sv s.2.length cv) fx (.slice s0 l0 c0') tk) := (hB2.block b h.lt).trans h2
    have k3 := heap_setCell_same w2 b 3 _ _ (.slice sg gs.length cg) k2
    have k4 := heap_setCell_same _ b 4 _ _ x k3
    refine ⟨by rw [Lib.cell_of_heap k2]; rfl, by rw [Lib.cell_of_heap k2]; rfl, by rw [Lib.cell_of_heap k2]; rfl, frozen_of_row _ _ _ _ _ k2, by rw [Lib.cell_of_heap k3]; rfl, frozen_of_row _ _ _ _ _ k3, by rw [Lib.cell_of_heap k3]; rfl, by rw [Lib.cell_of_heap k3]; rfl, by rw [Lib.cell_of_heap k4]; rfl, by rw [Lib.cell_of_heap k4]; rfl, by rw [Lib.cell_of_heap k4]; rfl, ?_⟩
    have hO : ∀ (q : Nat), q ≠ b -> ((w2.setCell ⟨b, 3, none⟩ (.slice sg gs.length cg)).setCell ⟨b, 4, none⟩ x).heap[q]? = w2.heap[q]? := fun q hq => by
     rw [heap_setCell_other _ _ _ _ (by simpa using hq), heap_setCell_other _ _ _ _ (by simpa using hq)]
    have hN2 : KeptN w2 ((w2.setCell ⟨b, 3, none⟩ (.slice sg gs.length cg)).setCell ⟨b, 4, none⟩ x) := fun q c T' hT hq => by
     rw [hO q ?_]
     · exact hq
     · rintro rfl
       rw [k2] at hq
       simp only [schO, Option.some.injEq, Obj.cells.injEq] at hq
       rw [<- hq.2.1] at hT
       revert hT; decide
    have hx3 := Tv.keptN hN2 _ _ hx
    refine ⟨x, rfl, hx3, h.learn hB2 h11 rfl rfl rfl (by simp) hO (fun hk => ?_) fun ov' V' fx' G' tk' hq => ?_⟩
    rotate_left
    · rw [h2] at hq
      obtain ⟨rfl, rfl, rfl, rfl, rfl⟩ := zgu hq
      exact ⟨_, _, _, k4, fun _ _ h => h⟩
    exact ⟨hb, ho, _, _, fx, _, x, k4, h3.keptS hk, h4.keptS hk, h5.keptS hk, ⟨_, _, _, rfl⟩, .inr ⟨gs, hg.keptS hk, hl, hx3⟩⟩
 rcases h7 with rfl | ⟨gs', hg', hl', htk⟩
 · exact at_new _ _ _ _ _ _ _ _ _ _ _ _ _ w (N w (Below.refl _ _)) (cbl h2)
 · obtain ⟨Tk, zk, rfl⟩ := htk.iface
   refine at_again b T z sv sg s.2.length cv gs.length cg (putT s.2 gs s.1) (.slice s0 l0 c0') (.iface Tk zk) _ Tk zk s0 l0 c0' w (cbl h2) (cbl h2) ?_
   refine (zlx _ _ gs' gs w hg' hg (by have := ho.len; omega) (by have := ho.len; omega)).mono ?_
   rintro e w1 ⟨r, rfl, hr, hb1⟩
   refine ⟨r, rfl, fun _ => N w1 hb1, fun e => ?_⟩
   have e2 := hr.1 e
   subst e2
   have hb1' := (hb1.block b h.lt).trans h2
   exact ⟨by rw [Lib.cell_of_heap hb1']; rfl, _, rfl, htk.below hb1, Below.sx hb1 h11⟩
theorem VarRow.at {w : World} {sa : Option Addr} {n cap : Nat} {vars : List Nat} (h : VarRow w (.slice sa n cap) vars) : ∀ (j p : Nat), vars[j]? = some p -> ∃ g, sa = some ⟨g, 0, none⟩ /\ w.cell? ⟨g, j * 2, none⟩ = some (.int .u8 ((p / 10 : Nat) : Int)) /\ w.cell? ⟨g, j * 2 + 1, none⟩ = some (.int .u8 ((p % 10 : Nat) : Int)) /\ g < w.heap.size := by
 obtain ⟨sa', cap', e, h⟩ := h
 simp only [Value.slice.injEq] at e
 obtain ⟨rfl, -, rfl⟩ := e
 intro j p hp
 rcases h with rfl | ⟨g, c, rfl, hg, hc⟩
 · simp at hp
 · obtain ⟨h1, h2⟩ := hc j p hp
   exact ⟨g, rfl, by rw [Lib.cell_of_heap hg]; exact h1, by rw [Lib.cell_of_heap hg]; exact h2, (Array.getElem?_eq_some_iff.1 hg).1⟩
theorem Gb.below' {B g : Nat} {w w' : World} (h : Gb g w w') (hg : B <= g) (hs : B <= w.heap.size) : Below B w w' := ⟨h.os, h.tape, h.output, h.size, fun k hk => h.block k (by omega) (by simp; omega)⟩
theorem znp {B g : Nat} {w0 w : World} (hb : Below B w0 w) (hBg : B <= g) (cs : Array Value) : Below B w0 (w.setRow g cs) := ⟨hb.os, hb.tape, hb.output, by simpa using hb.size, fun q hq => by rw [setRow_other _ _ _ _ (by omega)]; exact hb.block q hq⟩
theorem zln (b : Nat) (s : Sch) (w : World) (h : Sv lo w b s) :
 Calls Tryz.prog 235 #[.pointer (some ⟨b, 0, none⟩)] w fun e w' => ∃ g m, e = .returned (.pointer (some ⟨g, 0, none⟩)) /\ Bits g m w' /\ (∀ p, 970 <= p /\ p < 1230 -> hasB m p = (inT p s.1 && !s.2.contains p)) /\ w.heap.size <= g /\ Below w.heap.size w w' := by
 have hlt := h.lt
 obtain ⟨hb, ho, ov, V, fx, G0, tk, h2, h3, h4, -⟩ := h
 have VO := zin s.1 ho.ok ov w h3
 obtain ⟨T, z, rfl⟩ := h3.iface
 obtain ⟨sv, cv, rfl, -⟩ := id h4
 have c0 : w.cell? ⟨b, 0, none⟩ = some (.iface T z) := cbl h2
 have c1 : w.cell? ⟨b, 1, none⟩ = some (.slice sv s.2.length cv) := cbl h2
 have HV : Hid (∀ (j p : Nat), s.2[j]? = some p -> ∃ g, sv = some ⟨g, 0, none⟩ /\ w.cell? ⟨g, j * 2, none⟩ = some (.int .u8 ((p / 10 : Nat) : Int)) /\ w.cell? ⟨g, j * 2 + 1, none⟩ = some (.int .u8 ((p % 10 : Nat) : Int)) /\ g < w.heap.size) := h4.at
 have HO : Hid (∀ (j p : Nat), s.2[j]? = some p -> 970 <= p /\ p < 1230) := fun j p hj => ho.own p (List.mem_of_getElem? hj)
 have hl := ho.len
 clear h2 h3 h4 ho
 obtain ⟨t, own⟩ := s
 simp only at *
 have GA : Hid (∀ k, k < own.length -> ∃ p, own[k]? = some p) := fun k hk => ⟨_, List.getElem?_eq_getElem hk⟩
 have HT : Hid (own.take own.length = own) := List.take_length
 have HS : Hid (∀ (k p : Nat), own[k]? = some p -> own.take (k + 1) = own.take k ++ [p]) := fun k p hk => by rw [List.take_add_one, hk]; rfl
 generalize own.length = n at *
 go_enter Tryz.func235, Tryz.ntmps235
 go_wp2_with fail
 refine VO.mono ?_
 rintro e w1 ⟨m, c, rfl, hM, hm, hb1⟩
 have hr : (w1.alloc zset).heap[w1.heap.size]? = some zset := heap_alloc_new w1 _
 have d1 : ((w1.alloc zset).setRow w1.heap.size c).cell? ⟨b, 1, none⟩ = some (.slice sv n cv) := by
  rw [cell_setRow_other _ _ _ _ (by have := hb1.size; simp; omega), World.cell?_alloc_lt _ _ _ (by have := hb1.size; simp; omega), hb1.cell (p := ⟨b, 1, none⟩) hlt]; exact c1
 have hrow : ((w1.alloc zset).setRow w1.heap.size c).heap[w1.heap.size]? = some (.cells c 304 (0, 0)) := setRow_heap _ _ _ _ _ _ hr
 have hB0 : Bits w1.heap.size m ((w1.alloc zset).setRow w1.heap.size c) := hM.bits hrow
 have bb : Below w.heap.size w ((w1.alloc zset).setRow w1.heap.size c) := znp (hb1.alloc hb1.size _) hb1.size _
 clear c0 c1 VO
 go_wp2_with (first | refine wpList_store_row rfl _ _ _ rfl w1.heap.size c rfl rfl _ _ hr hM.size hM.1.symm hM.one ?_ | fail)
 generalize hW : (w1.alloc zset).setRow w1.heap.size c = W at *
 have HG : Hid (w.heap.size <= w1.heap.size) := hb1.size
 generalize w1.heap.size = g at *
 clear hr hrow d1 hW hb1 hM
 go_loopw [16] (fun i wr => ∃ k : Nat, i = .int .i64 (k : Int) /\ k <= n /\ Hid (∃ m', Bits g m' wr /\ ∀ p, 970 <= p /\ p < 1230 -> hasB m' p = (inT p t && !(own.take k).contains p)) /\ Below w.heap.size w wr) (fun i _ => n - (intOf i).toNat)
 case atStart => exact ⟨0, rfl, Nat.zero_le _, ⟨m, hB0, fun p hp => by simp [hm p hp]⟩, bb⟩
 case round =>
  obtain ⟨k, rfl, hkn, HU, hB⟩ := hrel
  clear bb hB0
  by_cases hk : k = n
  · subst hk
    obtain ⟨m', h1, h2⟩ := HU.out
    rw [HT.out] at h2
    go_wp2_with fail
    go_ret
    exact ⟨g, m', rfl, h1, h2, HG.out, hB⟩
  · have hk' : k < n := by omega
    clear hk
    obtain ⟨p, hp⟩ := GA.out k hk'
    obtain ⟨ga, rfl, ca, cb, hga⟩ := HV.out k p hp
    have ho := HO.out k p hp
    have ca' := (hB.cell (p := ⟨ga, k * 2, none⟩) hga).trans ca
    have cb' := (hB.cell (p := ⟨ga, k * 2 + 1, none⟩) hga).trans cb
    have HX : Hid (own[k]? = some p) := hp
    clear hp ca cb
    obtain ⟨m', h1, h2⟩ := HU.out
    have hglt : g < wr.heap.size := by obtain ⟨⟨c', hc', _⟩, _⟩ := h1; exact (Array.getElem?_eq_some_iff.1 hc').1
    have R := rem_any g m' p (wr.alloc (.cells #[.int .u8 ((p / 10 : Nat) : Int), .int .u8 ((p % 10 : Nat) : Int)] 263)) (h1.of (Lib.alloc_old _ _ _ hglt)) ho
    have H2 : Hid (∀ q, 970 <= q /\ q < 1230 -> hasB (remB m' p) q = (inT q t && !(own.take (k + 1)).contains q)) := fun q hq => by
     rw [hasB_rem ho.1 hq.1, h2 q hq, HS.out k p HX.out]
     simp only [List.contains_eq_mem, List.mem_append, List.mem_singleton]
     by_cases e1 : q ∈ own.take k <;> by_cases e2 : q = p <;> simp [e1, e2]
    have HB : Hid (∀ w2, Gb g (wr.alloc (.cells #[.int .u8 ((p / 10 : Nat) : Int), .int .u8 ((p % 10 : Nat) : Int)] 263)) w2 -> Below w.heap.size w w2) := fun w2 hg => by
     have ba := hB.alloc hB.size (.cells #[.int .u8 ((p / 10 : Nat) : Int), .int .u8 ((p % 10 : Nat) : Int)] 263)
     exact ba.trans (hg.below' HG.out ba.size)
    unfold kv at R
    clear h1 h2 HU
    generalize ((p / 10 : Nat) : Int) = x at *
    generalize ((p % 10 : Nat) : Int) = y at *
    go_wp2_with fail
    refine R.mono ?_
    rintro e w2 ⟨rfl, hb2, hg2⟩
    have hB2 := HB.out w2 hg2
    go_wp2_with fail
    go_roundw
    case rel => exact ⟨k + 1, by simp, by omega, ⟨_, hb2, H2.out⟩, hB2⟩
    case measure => simp [intOf]; omega
structure FxEnd (b g n : Nat) (x y : Int) (Q : Ending -> World -> Prop) (w : World) : Prop where
 c2 : w.cell? ⟨b, 2, none⟩ = some (.pointer (some ⟨g, 0, none⟩))
 d0 : w.cell? ⟨n, 0, none⟩ = some (.int .u8 x)
 d1 : w.cell? ⟨n, 1, none⟩ = some (.int .u8 y)
 has : Calls Tryz.prog 195 #[.pointer (some ⟨g, 0, none⟩), .agg #[.int .u8 x, .int .u8 y]] w.drew fun e w' => ∃ r : Bool, e = .returned (.bool r) /\ w'.cell? ⟨b, 2, none⟩ = some (.pointer (some ⟨g, 0, none⟩)) /\ w'.cell? ⟨n, 0, none⟩ = some (.int .u8 x) /\ w'.cell? ⟨n, 1, none⟩ = some (.int .u8 y) /\ Hid (Q (.returned (.bool r)) w')
theorem fixes_old (b g : Nat) (x y : Int) (Q : Ending -> World -> Prop) (w : World) (H : FxEnd b g w.heap.size x y Q (w.alloc (.cells #[.int .u8 x, .int .u8 y] 263))) :
 Calls Tryz.prog 221 #[.pointer (some ⟨b, 0, none⟩), .agg #[.int .u8 x, .int .u8 y]] w Q := by
 have c2 := H.c2
 have d0 := H.d0
 have d1 := H.d1
 have HAS := H.has
 clear H
 go_enter Tryz.func221, Tryz.ntmps221
 go_wp2_with fail
 refine wp_region_held_drew (S := (fun wq => wq.cell? ⟨b, 2, none⟩ = some (.pointer (some ⟨g, 0, none⟩)) /\ wq.cell? ⟨w.heap.size, 0, none⟩ = some (.int .u8 x) /\ wq.cell? ⟨w.heap.size, 1, none⟩ = some (.int .u8 y))) (by kernel_rfl) (⟨c2, d0, d1⟩) (fun hS => ?_)
 refine tkS 0 (.pointer (some ⟨b, 0, none⟩)) hS ?_
 refine tkS 1 (.pointer (some ⟨b, 0, none⟩)) hS ?_
 refine tkS 2 (.pointer (some ⟨b, 2, none⟩)) hS ?_
 refine tkL 3 (.pointer (some ⟨g, 0, none⟩)) hS ?_
 refine tkL 4 (.agg #[.int .u8 x, .int .u8 y]) hS ?_
 refine rd1 5 (fun KK hK => ?_)
 (try simp only [List.getElem_toArray, List.getElem_cons_succ, List.getElem_cons_zero])
 go_simp
 go_at_call 195
 refine (HAS).mono ?_
 rintro e w4 ⟨r, rfl, q2, q0, q1, HR⟩
 (try dsimp only)
 refine hK.out _ _ ⟨q2, q0, q1⟩ (fun hS => nrm ?_)
 refine tkS 6 (.bool r) hS ?_
 refine wpAnyH_done (by kernel_rfl) ?_ _
 go_wp2_with fail
 exact HR.out
theorem fixes_new (b : Nat) (x y : Int) (Q : Ending -> World -> Prop) (w : World) (c2 : (w.alloc (.cells #[.int .u8 x, .int .u8 y] 263)).cell? ⟨b, 2, none⟩ = some (.pointer none)) (FF : Calls Tryz.prog 235 #[.pointer (some ⟨b, 0, none⟩)] (w.alloc (.cells #[.int .u8 x, .int .u8 y] 263)) fun e w' => ∃ g, e = .returned (.pointer (some ⟨g, 0, none⟩)) /\ w'.cell? ⟨b, 2, none⟩ = some (.pointer none) /\ w'.frozen? ⟨b, 2, none⟩ = false /\ FxEnd b g w.heap.size x y Q (w'.setCell ⟨b, 2, none⟩ (.pointer (some ⟨g, 0, none⟩)))) :
 Calls Tryz.prog 221 #[.pointer (some ⟨b, 0, none⟩), .agg #[.int .u8 x, .int .u8 y]] w Q := by
 go_enter Tryz.func221, Tryz.ntmps221
 go_wp2_with fail
 refine FF.mono ?_
 rintro e w1 ⟨g, rfl, k2, kf, H⟩
 go_wp2_with fail
 clear k2 kf c2
 generalize w1.setCell ⟨b, 2, none⟩ (.pointer (some ⟨g, 0, none⟩)) = w3 at *
 have c2 := H.c2
 have d0 := H.d0
 have d1 := H.d1
 have HAS := H.has
 clear H
 refine wp_region_held_drew (S := (fun wq => wq.cell? ⟨b, 2, none⟩ = some (.pointer (some ⟨g, 0, none⟩)) /\ wq.cell? ⟨w.heap.size, 0, none⟩ = some (.int .u8 x) /\ wq.cell? ⟨w.heap.size, 1, none⟩ = some (.int .u8 y))) (by kernel_rfl) (⟨c2, d0, d1⟩) (fun hS => ?_)
 refine tkS 0 (.pointer (some ⟨b, 0, none⟩)) hS ?_
 refine tkS 1 (.pointer (some ⟨b, 0, none⟩)) hS ?_
 refine tkS 2 (.pointer (some ⟨b, 2, none⟩)) hS ?_
 refine tkL 3 (.pointer (some ⟨g, 0, none⟩)) hS ?_
 refine tkL 4 (.agg #[.int .u8 x, .int .u8 y]) hS ?_
 refine rd1 5 (fun KK hK => ?_)
 (try simp only [List.getElem_toArray, List.getElem_cons_succ, List.getElem_cons_zero])
 go_simp
 go_at_call 195
 refine (HAS).mono ?_
 rintro e w4 ⟨r, rfl, q2, q0, q1, HR⟩
 (try dsimp only)
 refine hK.out _ _ ⟨q2, q0, q1⟩ (fun hS => nrm ?_)
 refine tkS 6 (.bool r) hS ?_
 refine wpAnyH_done (by kernel_rfl) ?_ _
 go_wp2_with fail
 exact HR.out
theorem zkq {w w' : World} (h : Below w.drew.heap.size w.drew w') : Below w.heap.size w w' := ⟨h.os, h.tape, h.output, h.size, h.block⟩
theorem Bits.lt {g : Nat} {m : Nat -> Nat} {w : World} (h : Bits g m w) : g < w.heap.size := by
 obtain ⟨⟨c, hc, _⟩, _⟩ := h
 exact (Array.getElem?_eq_some_iff.1 hc).1
abbrev kvO (p : Nat) : Obj := .cells #[.int .u8 ((p / 10 : Nat) : Int), .int .u8 ((p % 10 : Nat) : Int)] 263
theorem fx_end {b g n p : Nat} {m : Nat -> Nat} {w0 w : World} {s : Sch} (h11 : 10 + lo <= w.heap.size) (hx : Sx lo w0 w) (ov V G tk : Value) (hb : w.heap[b]? = some (schO ov V (.pointer (some ⟨g, 0, none⟩)) G tk))
 (hn : w.heap[n]? = some (kvO p)) (hB : Bits g m w) (hm : ∀ p, 970 <= p /\ p < 1230 -> hasB m p = (inT p s.1 && !s.2.contains p)) (hp : 970 <= p /\ p < 1230) :
 FxEnd b g n ((p / 10 : Nat) : Int) ((p % 10 : Nat) : Int) (fun e w' => e = .returned (.bool (inT p s.1 && !s.2.contains p)) /\ Sx lo w0 w') w := by
 refine ⟨by rw [Lib.cell_of_heap hb]; rfl, by rw [Lib.cell_of_heap hn]; rfl, by rw [Lib.cell_of_heap hn]; rfl, ?_⟩
 refine (vhas_any g m p w.drew hB hp).mono ?_
 rintro e w' ⟨rfl, hb2⟩
 have hb2 := zkq hb2
 have kb := (hb2.block b (Array.getElem?_eq_some_iff.1 hb).1).trans hb
 have kn := (hb2.block n (Array.getElem?_eq_some_iff.1 hn).1).trans hn
 refine ⟨hasB m p, rfl, by rw [Lib.cell_of_heap kb]; rfl, by rw [Lib.cell_of_heap kn]; rfl, by rw [Lib.cell_of_heap kn]; rfl, ?_⟩
 exact ⟨by rw [hm p hp], hx.trans (Below.sx hb2 h11)⟩
theorem fixes_any (b : Nat) (s : Sch) (p : Nat) (w : World) (h11 : 10 + lo <= w.heap.size) (h : Sv lo w b s) (hp : 970 <= p /\ p < 1230) :
 Calls Tryz.prog 221 #[.pointer (some ⟨b, 0, none⟩), kv p] w fun e w' => e = .returned (.bool (inT p s.1 && !s.2.contains p)) /\ Sx lo w w' := by
 have b1 : Below w.heap.size w (w.alloc (kvO p)) := bal w _
 have hv := (Below.sx b1 h11).sch b s h
 have h0 := h
 have hlt := h.lt
 obtain ⟨hb, ho, ov, V, fx, G0, tk, h2, h3, h4, h5, h6, h7⟩ := h
 have kb : (w.alloc (kvO p)).heap[b]? = some (schO ov V fx G0 tk) := (b1.block b hlt).trans h2
 have s1 : 10 + lo <= (w.alloc (kvO p)).heap.size := Nat.le_trans h11 b1.size
 rcases h5 with rfl | ⟨g, m, rfl, hB, hm⟩
 · refine fixes_new b _ _ _ w (cbl kb) ?_
   refine (zln b s _ hv).mono ?_
   rintro e w1 ⟨g, m, rfl, hB, hm, hgn, hb1⟩
   have kb1 := (hb1.block b (by simp; omega)).trans kb
   have kn1 := (hb1.block w.heap.size (by simp)).trans (heap_alloc_new w (kvO p))
   have bw : Below w.heap.size w w1 := b1.trans (hb1.mono b1.size)
   have k3 := heap_setCell_same w1 b 2 _ _ (.pointer (some ⟨g, 0, none⟩)) kb1
   have hO : ∀ (q : Nat), q ≠ b -> (w1.setCell ⟨b, 2, none⟩ (.pointer (some ⟨g, 0, none⟩))).heap[q]? = w1.heap[q]? := fun q hq => heap_setCell_other _ _ _ _ (by simpa using hq)
   have hgb : g ≠ b := by
    rintro rfl
    obtain ⟨⟨c, hc, _⟩, _⟩ := hB
    rw [kb1] at hc
    simp only [schO, Option.some.injEq, Obj.cells.injEq] at hc
    exact absurd hc.2.1 (by decide)
   have hB3 : Bits g m (w1.setCell ⟨b, 2, none⟩ (.pointer (some ⟨g, 0, none⟩))) := hB.of (hO g hgb)
   have X : Sx lo w (w1.setCell ⟨b, 2, none⟩ (.pointer (some ⟨g, 0, none⟩))) := h0.learn bw h11 rfl rfl rfl (by simp) hO (fun hk =>
    ⟨hb, ho, ov, V, _, G0, tk, k3, h3.keptS hk, h4.keptS hk, .inr ⟨g, m, rfl, hB3, hm⟩, h6, h7.keptS hk⟩) fun ov' V' fx' G' tk' hq => by
     rw [h2] at hq
     obtain ⟨rfl, rfl, rfl, rfl, rfl⟩ := zgu hq
     refine ⟨_, _, _, k3, fun x hx _ => ?_⟩
     intro he
     have hgn' : w.heap.size + 1 <= g := by simpa using hgn
     simp only [Value.pointer.injEq, Option.some.injEq, Addr.mk.injEq, and_true] at he
     omega
   exact ⟨g, rfl, by rw [Lib.cell_of_heap kb1]; rfl, frozen_of_row _ _ _ _ _ kb1, fx_end (Nat.le_trans h11 X.size) X ov V G0 tk k3 ((hO _ (by omega)).trans kn1) hB3 hm hp⟩
 · exact fixes_old b g _ _ _ w (fx_end s1 (Below.sx b1 h11) ov V G0 tk kb (heap_alloc_new w _) (hB.of (b1.block g hB.lt)) hm hp)
def ArC (lo : Nat) (w : World) (o : Option Sch) (v : Value) : Prop := (o = none /\ v = .pointer none) \/ ∃ s b, o = some s /\ v = .pointer (some ⟨b, 0, none⟩) /\ Sv lo w b s
def Ar (lo : Nat) (w : World) (a : Nat) (e : Env) : Prop := ∃ c, w.heap[a]? = some (.cells c 145 (0, 0)) /\ c.size = 26 /\ ∀ k, k < 26 -> ∃ v, c[k]? = some v /\ ArC lo w (e (97 + k)) v
theorem ArC.sx {w w' : World} (hx : Sx lo w w') {o : Option Sch} {v : Value} (h : ArC lo w o v) : ArC lo w' o v := by
 rcases h with h | ⟨s, b, h1, h2, h3⟩
 · exact .inl h
 · exact .inr ⟨s, b, h1, h2, hx.sch b s h3⟩
theorem Ar.sx {w w' : World} (hx : Sx lo w w') {a : Nat} {e : Env} (h : Ar lo w a e) : Ar lo w' a e := by
 obtain ⟨c, h1, h2, h3⟩ := h
 refine ⟨c, hx.kept a c _ _ (by decide) h1, h2, fun k hk => ?_⟩
 obtain ⟨v, hv, hc⟩ := h3 k hk
 exact ⟨v, hv, hc.sx hx⟩
theorem Ar.cell {w : World} {a : Nat} {e : Env} (h : Ar lo w a e) {k : Nat} (hk : k < 26) : ∃ v, w.cell? ⟨a, k, none⟩ = some v /\ ArC lo w (e (97 + k)) v := by
 obtain ⟨c, h1, h2, h3⟩ := h
 obtain ⟨v, hv, hc⟩ := h3 k hk
 exact ⟨v, by rw [Lib.cell_of_heap h1]; exact hv, hc⟩
theorem ArC.ptr {w : World} {o : Option Sch} {v : Value} (h : ArC lo w o v) : ∃ p, v = .pointer p := by
 rcases h with ⟨_, rfl⟩ | ⟨_, b, _, rfl, _⟩ <;> exact ⟨_, rfl⟩
theorem Ar.one {w : World} {a : Nat} {e : Env} {c : Array Value} (h2 : c.size = 26) (h3 : ∀ k, k < 26 -> ∃ v, c[k]? = some v /\ ArC lo w (e (97 + k)) v) : c.all (·.oneCell') = true := by
 rw [Array.all_eq_true]
 intro i hi
 obtain ⟨v, hv, hc⟩ := h3 i (by rw [<- h2]; exact hi)
 obtain ⟨p, rfl⟩ := hc.ptr
 rw [Array.getElem?_eq_getElem hi, Option.some.injEq] at hv
 rw [hv]; rfl
theorem sizeAround : (Tryz.prog.info? 145).map (·.size) = some 26 := by kernel_rfl
theorem of_any (a c : Nat) (e : Env) (w : World) (h : Ar lo w a e) (hc : 97 <= c /\ c < 123) :
 Calls Tryz.prog 154 #[.pointer (some ⟨a, 0, none⟩), .int .u8 (c : Int)] w fun en w' => ∃ v, en = .returned v /\ ArC lo w (e c) v /\ w' = w := by
 obtain ⟨k, rfl⟩ : ∃ k, c = 97 + k := ⟨c - 97, by omega⟩
 have hk : k < 26 := by omega
 obtain ⟨v, hv, hC⟩ := h.cell hk
 obtain ⟨p, rfl⟩ := hC.ptr
 have e1 : IntKind.u8.wrap (((97 + k : Nat) : Int) - 97) = (k : Int) := by
  rw [show ((97 + k : Nat) : Int) - 97 = (k : Int) by omega]; exact IntWalk.u8_in _ ⟨by omega, by omega⟩
 have HC : Hid (ArC lo w (e (97 + k)) (.pointer p)) := hC
 clear h hC hc
 generalize ((97 + k : Nat) : Int) = x at *
 go_enter Tryz.func154, Tryz.ntmps154
 go_wp2_with fail
 go_ret
 exact ⟨_, rfl, HC.out, rfl⟩
abbrev zAr : Obj := .cells #[.pointer none, .pointer none, .pointer none, .pointer none, .pointer none, .pointer none, .pointer none, .pointer none, .pointer none, .pointer none, .pointer none, .pointer none, .pointer none, .pointer none, .pointer none, .pointer none, .pointer none, .pointer none, .pointer none, .pointer none, .pointer none, .pointer none, .pointer none, .pointer none, .pointer none, .pointer none] 145
theorem Ar.new (w : World) : Ar lo (w.alloc zAr) w.heap.size (fun _ => none) := by
 refine ⟨_, heap_alloc_new w _, rfl, fun k hk => ⟨.pointer none, ?_, .inl ⟨rfl, rfl⟩⟩⟩
 have e : (#[.pointer none, .pointer none, .pointer none, .pointer none, .pointer none, .pointer none, .pointer none, .pointer none, .pointer none, .pointer none, .pointer none, .pointer none, .pointer none, .pointer none, .pointer none, .pointer none, .pointer none, .pointer none, .pointer none, .pointer none, .pointer none, .pointer none, .pointer none, .pointer none, .pointer none, .pointer none] : Array Value) = Array.replicate 26 (.pointer none) := rfl
 show (#[.pointer none, .pointer none, .pointer none, .pointer none, .pointer none, .pointer none, .pointer none, .pointer none, .pointer none, .pointer none, .pointer none, .pointer none, .pointer none, .pointer none, .pointer none, .pointer none, .pointer none, .pointer none, .pointer none, .pointer none, .pointer none, .pointer none, .pointer none, .pointer none, .pointer none, .pointer none] : Array Value)[k]? = _
 rw [e, Array.getElem?_replicate, if_pos hk]
theorem with_any (a c b : Nat) (e : Env) (s : Sch) (w : World) (h11 : 10 + lo <= w.heap.size) (h : Ar lo w a e) (hs : Sv lo w b s) (hc : 97 <= c /\ c < 123) :
 Calls Tryz.prog 157 #[.pointer (some ⟨a, 0, none⟩), .int .u8 (c : Int), .pointer (some ⟨b, 0, none⟩)] w fun en w' => ∃ a', en = .returned (.pointer (some ⟨a', 0, none⟩)) /\ Ar lo w' a' (zbo e c s) /\ Below w.heap.size w w' := by
 obtain ⟨k, rfl⟩ : ∃ k, c = 97 + k := ⟨c - 97, by omega⟩
 have hk : k < 26 := by omega
 have e1 : IntKind.u8.wrap (((97 + k : Nat) : Int) - 97) = (k : Int) := by
  rw [show ((97 + k : Nat) : Int) - 97 = (k : Int) by omega]; exact IntWalk.u8_in _ ⟨by omega, by omega⟩
 obtain ⟨cs, g1, g2, g3⟩ := h
 have hone := Ar.one (a := a) g2 g3
 have hr : (w.alloc zAr).heap[w.heap.size]? = some zAr := heap_alloc_new w _
 have hrow : ((w.alloc zAr).setRow w.heap.size cs).heap[w.heap.size]? = some (.cells cs 145 (0, 0)) := setRow_heap _ _ _ _ _ _ hr
 have hfr : ((w.alloc zAr).setRow w.heap.size cs).frozen? ⟨w.heap.size, k, none⟩ = false := frozen_of_row _ _ _ _ _ hrow
 obtain ⟨v, hv, -⟩ := g3 k hk
 have hce : ((w.alloc zAr).setRow w.heap.size cs).cell? ⟨w.heap.size, k, none⟩ = some v := by rw [Lib.cell_of_heap hrow]; exact hv
 have hfin := heap_setCell_same _ _ k _ _ (.pointer (some ⟨b, 0, none⟩)) hrow
 have bb : Below w.heap.size w (((w.alloc zAr).setRow w.heap.size cs).setCell ⟨w.heap.size, k, none⟩ (.pointer (some ⟨b, 0, none⟩))) :=
  (znp (bal w _) (Nat.le_refl _) _).trans ⟨rfl, rfl, rfl, by simp, fun q hq => heap_setCell_other _ _ _ _ (by show q ≠ w.heap.size; omega)⟩
 have HQ : Hid (∃ a', some (⟨w.heap.size, 0, none⟩ : Addr) = some ⟨a', 0, none⟩ /\ Ar lo (((w.alloc zAr).setRow w.heap.size cs).setCell ⟨w.heap.size, k, none⟩ (.pointer (some ⟨b, 0, none⟩))) a' (zbo e (97 + k) s) /\ Below w.heap.size w (((w.alloc zAr).setRow w.heap.size cs).setCell ⟨w.heap.size, k, none⟩ (.pointer (some ⟨b, 0, none⟩)))) := by
  refine ⟨_, rfl, ⟨_, hfin, by simpa using g2, fun j hj => ?_⟩, bb⟩
  have X := Below.sx bb h11
  by_cases hjk : j = k
  · subst hjk
    refine ⟨.pointer (some ⟨b, 0, none⟩), by simp [g2, hj], .inr ⟨s, b, by simp [zbo], rfl, X.sch b s hs⟩⟩
  · obtain ⟨v', h1, h2⟩ := g3 j hj
    refine ⟨v', by rw [Array.getElem?_setIfInBounds_ne (by omega)]; exact h1, ?_⟩
    have : zbo e (97 + k) s (97 + j) = e (97 + j) := by unfold zbo; rw [if_neg (by omega)]
    rw [this]; exact h2.sx X
 have hi : (Tryz.prog.info? 145).map (·.size) = some cs.size := by rw [g2]; exact sizeAround
 clear hs bb hfin g3 hv h11 hc
 generalize ((97 + k : Nat) : Int) = x at *
 go_enter Tryz.func157, Tryz.ntmps157
 go_wp2_with (first | refine wpList_load_row rfl _ _ rfl a rfl _ cs (0, 0) _ g1 Tryz.underlying145 rfl hi ?_ | refine wpList_store_row rfl 145 _ _ rfl w.heap.size cs rfl rfl _ _ hr hi g2.symm hone ?_ | fail)
 obtain ⟨a', h1, h2⟩ := HQ.out
 simp only [Option.some.injEq, Addr.mk.injEq, and_true] at h1
 subst h1
 go_ret
 exact ⟨_, rfl, h2⟩
def fixO (p : Nat) : Option Sch -> Bool
 | none => false
 | some s => inT p s.1 && !s.2.contains p
theorem zlf (e : Env) (p : Nat) : zbm e p = (List.range 26).any fun k => fixO p (e (97 + k)) := by
 unfold zbm
 congr 1
 funext k
 cases e (97 + k) <;> rfl
theorem fixedE_yes {e : Env} {p k : Nat} (hk : k < 26) (h : fixO p (e (97 + k)) = true) : zbm e p = true := by
 rw [zlf, List.any_eq_true]
 exact ⟨k, List.mem_range.2 hk, h⟩
theorem fixedE_no {e : Env} {p : Nat} (h : ∀ k, k < 26 -> fixO p (e (97 + k)) = false) : zbm e p = false := by
 rw [zlf, List.any_eq_false]
 intro k hk
 rw [h k (List.mem_range.1 hk)]; decide
theorem fixes1_any (o : Option Sch) (v : Value) (n p : Nat) (w : World) (h11 : 10 + lo <= w.heap.size) (h : ArC lo w o v) (hn : w.heap[n]? = some (kvO p)) (hp : 970 <= p /\ p < 1230) :
 Calls Tryz.prog 220 #[v, .pointer (some ⟨n, 0, none⟩)] w fun e w' => e = .returned (.bool (fixO p o)) /\ Sx lo w w' := by
 rcases h with ⟨rfl, rfl⟩ | ⟨s, b, rfl, rfl, hs⟩
 · have X := Sx.refl (lo := lo) w
   have HX : Hid (fixO p none = false) := rfl
   go_enter Tryz.func220, Tryz.ntmps220
   go_wp2_with fail
   go_ret
   exact ⟨rfl, X⟩
 · have F := fixes_any b s p w h11 hs hp
   have d0 : w.cell? ⟨n, 0, none⟩ = some (.int .u8 ((p / 10 : Nat) : Int)) := cbl hn
   have d1 : w.cell? ⟨n, 1, none⟩ = some (.int .u8 ((p % 10 : Nat) : Int)) := cbl hn
   have HR : Hid (fixO p (some s) = (inT p s.1 && !s.2.contains p)) := rfl
   generalize fixO p (some s) = r0 at *
   generalize (inT p s.1 && !s.2.contains p) = r at *
   unfold kv at F
   clear hs hn
   generalize ((p / 10 : Nat) : Int) = x at *
   generalize ((p % 10 : Nat) : Int) = y at *
   go_enter Tryz.func220, Tryz.ntmps220
   go_wp2_with fail
   refine F.mono ?_
   rintro e w1 ⟨rfl, X⟩
   go_wp2_with fail
   go_ret
   exact ⟨by rw [HR.out]; rfl, X⟩
theorem zmd (a n p : Nat) (e : Env) (w : World) (h11 : 10 + lo <= w.heap.size) (h : Ar lo w a e) (hn : w.heap[n]? = some (kvO p)) (hp : 970 <= p /\ p < 1230) :
 Calls Tryz.prog 234 #[.slice (some ⟨a, 0, none⟩) 26 26, .func (.func 220) #[] #[.pointer (some ⟨n, 0, none⟩)]] w fun en w' => ∃ r : Int, en = .returned (.int .i64 r) /\ decide (0 <= r) = zbm e p /\ Sx lo w w' := by
 have HC : Hid (∀ wr k, Sx lo w wr -> k < 26 -> ∃ v, wr.cell? ⟨a, k, none⟩ = some v /\ (∃ q, v = .pointer q) /\ Calls Tryz.prog 220 #[v, .pointer (some ⟨n, 0, none⟩)] wr fun en w' => en = .returned (.bool (fixO p (e (97 + k)))) /\ Sx lo w w') := by
  intro wr k X hk
  obtain ⟨v, hv, hc⟩ := (h.sx X).cell hk
  refine ⟨v, hv, hc.ptr, (fixes1_any _ v n p wr (Nat.le_trans h11 X.size) hc (X.kept _ _ _ _ (by decide) hn) hp).mono fun en w' hh => ⟨hh.1, X.trans hh.2⟩⟩
 have HY : Hid (∀ k, k < 26 -> fixO p (e (97 + k)) = true -> zbm e p = true) := fun k hk => fixedE_yes hk
 have HN : Hid ((∀ k, k < 26 -> fixO p (e (97 + k)) = false) -> zbm e p = false) := fixedE_no
 have X0 := Sx.refl (lo := lo) w
 clear h hn h11 hp
 generalize zbm e p = res at *
 go_enter Tryz.func234, Tryz.ntmps234
 go_wp2_with fail
 go_loopw [8] (fun i wr => ∃ k : Nat, i = .int .i64 (k : Int) /\ k <= 26 /\ Hid (∀ j, j < k -> fixO p (e (97 + j)) = false) /\ Sx lo w wr) (fun i _ => 26 - (intOf i).toNat)
 case atStart => exact ⟨0, rfl, Nat.zero_le _, fun j hj => by omega, X0⟩
 case round =>
  obtain ⟨k, rfl, hkn, HU, X⟩ := hrel
  clear X0
  by_cases hk : k = 26
  · subst hk
    have hr := HN.out HU.out
    go_wp2_with fail
    go_ret
    exact ⟨-1, rfl, by rw [hr]; rfl, X⟩
  · have hk' : k < 26 := by omega
    clear hk
    obtain ⟨v, hv, ⟨q, rfl⟩, C⟩ := HC.out wr k X hk'
    go_wp2_with fail
    refine C.mono ?_
    rintro en w1 ⟨rfl, X1⟩
    cases hq : fixO p (e (97 + k))
    · have HM : Hid (∀ j, j < k + 1 -> fixO p (e (97 + j)) = false) := by
       intro j hj
       rcases Nat.lt_or_ge j k with h | h
       · exact HU.out j h
       · obtain rfl : j = k := by omega
         exact hq
      clear hq
      go_wp2_with fail
      go_roundw
      case rel => exact ⟨k + 1, by simp, by omega, HM, X1⟩
      case measure => simp [intOf]; omega
    · have hr := HY.out k hk' hq
      clear hq
      go_wp2_with fail
      go_ret
      exact ⟨(k : Int), rfl, by rw [hr]; simp, X1⟩
theorem zhx (a n p : Nat) (e : Env) (w : World) (h11 : 10 + lo <= w.heap.size) (h : Ar lo w a e) (hn : w.heap[n]? = some (kvO p)) (hp : 970 <= p /\ p < 1230) :
 Calls Tryz.prog 219 #[.slice (some ⟨a, 0, none⟩) 26 26, .func (.func 220) #[] #[.pointer (some ⟨n, 0, none⟩)]] w fun en w' => en = .returned (.bool (zbm e p)) /\ Sx lo w w' := by
 have I := zmd a n p e w h11 h hn hp
 clear h hn h11 hp
 generalize zbm e p = res at *
 go_enter Tryz.func219, Tryz.ntmps219
 go_wp2_with fail
 refine I.mono ?_
 rintro en w1 ⟨r, rfl, hr, X⟩
 have HR : Hid (decide (0 <= r) = res) := hr
 clear hr
 go_wp2_with fail
 go_ret
 exact ⟨by rw [<- HR.out]; rfl, X⟩
/-- Fixes, of what is around. -/
theorem arFixes_any (a p : Nat) (e : Env) (w : World) (h11 : 10 + lo <= w.heap.size) (h : Ar lo w a e) (hp : 970 <= p /\ p < 1230) :
 Calls Tryz.prog 196 #[.pointer (some ⟨a, 0, none⟩), kv p] w fun en w' => en = .returned (.bool (zbm e p)) /\ Sx lo w w' := by
 have b1 : Below w.heap.size w (w.alloc (kvO p)) := bal w _
 have X1 := Below.sx b1 h11
 have C := zhx a w.heap.size p e (w.alloc (kvO p)) (Nat.le_trans h11 b1.size) (h.sx X1) (heap_alloc_new w _) hp
 have HX : Hid (∀ w', Sx lo (w.alloc (kvO p)) w' -> Sx lo w w') := fun w' h => X1.trans h
 obtain ⟨cs, hc, hcs, -⟩ := h
 have hlt := (Array.getElem?_eq_some_iff.1 hc).1
 unfold kvO at C HX
 unfold kv
 clear h11 b1 X1
 generalize zbm e p = res at *
 generalize ((p / 10 : Nat) : Int) = x at *
 generalize ((p % 10 : Nat) : Int) = y at *
 go_enter Tryz.func196, Tryz.ntmps196
 go_wp2_with fail
 refine C.mono ?_
 rintro en w1 ⟨rfl, X⟩
 have X2 := HX.out w1 X
 go_wp2_with fail
 go_ret
 exact ⟨rfl, X2⟩
def CkSaid (tx : Nat -> Addr) (r : COut) (en : Ending) (w' : World) : Prop := match r with
 | .error (c, p) => ∃ q, en = .returned (.tuple #[.nilIface, atv q]) /\ AtErr (tx (c - 1)) q p w'
 | .ok t => ∃ x, en = .returned (.tuple #[x, .nilIface]) /\ Tv w' t x
def CkPost (lo : Nat) (tx : Nat -> Addr) (w : World) (r : COut) (en : Ending) (w' : World) : Prop := Sx lo w w' /\ CkSaid tx r en w'
abbrev atO (tx : Nat -> Addr) (k p : Nat) : Obj := .cells #[.int .i64 (p : Int), .iface 353 (.pointer (some (tx k)))] 91
theorem zpc {tx : Nat -> Addr} {w0 w : World} {c p : Nat} (hx : Sx lo w0 w) (h11 : 10 + lo <= w.heap.size) (n : Nat) : CkPost lo tx w0 (.error (c, p)) (.returned (.tuple #[.nilIface, atv w.heap.size])) ((w.alloc (atO tx (c - 1) p)).drewN n) := by
 have b1 : Below w.heap.size w (w.alloc (atO tx (c - 1) p)) := bal w _
 exact ⟨(hx.trans (Below.sx b1 h11)).drewN n, _, rfl, (AtErr.new (tx (c - 1)) p w).drewN n⟩
theorem zha (tx : Nat -> Addr) (t : Ty) (v : Value) (p : Nat) (w : World) (h11 : 10 + lo <= w.heap.size) (g : Gl tx w) (ht : Ok t) (h : Tv w t v) (hs : sz t <= 4000000000000000000) :
 Calls Tryz.prog 159 #[v, .int .i64 (p : Int)] w (CkPost lo tx w (if 50000 < sz t then .error (8, p) else .ok t)) := by
 have N := zgo t v w ht h
 have c7 := g.errs 7 (by decide)
 obtain ⟨T, z, rfl⟩ := h.iface
 by_cases hb : 50000 < sz t
 · rw [if_pos hb]
   have H : Hid (∀ n, CkPost lo tx w (.error (8, p)) (.returned (.tuple #[.nilIface, atv w.heap.size])) ((w.alloc (atO tx 7 p)).drewN n)) := fun n => zpc (Sx.refl w) h11 n
   have hb' : ((50000 : Int) < (sz t : Int)) := by omega
   generalize sz t = m at *
   clear h ht g
   go_enter Tryz.func159, Tryz.ntmps159
   go_wp2_with fail
   refine N.mono ?_
   rintro e w1 ⟨rfl, rfl⟩
   go_wp2_with fail
   go_region
   all_goals
    go_wp2_with fail
    go_ret2
    exact H.out _
 · rw [if_neg hb]
   have H : Hid (CkPost lo tx w (.ok t) (.returned (.tuple #[.iface T z, .nilIface])) w) := ⟨Sx.refl w, _, rfl, h⟩
   have hb' : ¬ ((50000 : Int) < (sz t : Int)) := by omega
   generalize sz t = m at *
   clear h ht g c7
   go_enter Tryz.func159, Tryz.ntmps159
   go_wp2_with fail
   refine N.mono ?_
   rintro e w1 ⟨rfl, rfl⟩
   go_wp2_with fail
   go_ret2
   exact H.out
theorem CkPost.trans {tx : Nat -> Addr} {w0 w : World} (hx : Sx lo w0 w) {r : COut} {en : Ending} {w' : World} (h : CkPost lo tx w r en w') : CkPost lo tx w0 r en w' := ⟨hx.trans h.1, h.2⟩
theorem CkPost.pair {tx : Nat -> Addr} {w : World} {r : COut} {en : Ending} {w' : World} (h : CkPost lo tx w r en w') : ∃ x y, en = .returned (.tuple #[x, y]) /\ (x = .nilIface \/ ∃ T z, x = .iface T z) /\ (y = .nilIface \/ ∃ T z, y = .iface T z) := by
 obtain ⟨_, h⟩ := h
 cases r with
 | error r => obtain ⟨c, p⟩ := r; obtain ⟨q, rfl, _⟩ := h; exact ⟨_, _, rfl, .inl rfl, .inr ⟨_, _, rfl⟩⟩
 | ok t => obtain ⟨x, rfl, hx⟩ := h; obtain ⟨T, z, rfl⟩ := hx.iface; exact ⟨_, _, rfl, .inr ⟨_, _, rfl⟩, .inl rfl⟩
theorem zmz (tx : Nat -> Addr) (s : Sch) (b : Nat) (gs : List Ty) (G : Value) (p m : Nat) (w : World) (h11 : 10 + lo <= w.heap.size) (g : Gl tx w) (h : Sv lo w b s) (hg : TypRow w G gs) (hok : GOk m gs) (hm : 1 <= m /\ m <= 1000000) :
 Calls Tryz.prog 155 #[.pointer (some ⟨b, 0, none⟩), G, .int .i64 (p : Int)] w (CkPost lo tx w (zap s gs p)) := by
 have C := count_any b s w h
 have hso : SOk s := h.2.1
 have c3 := g.errs 3 (by decide)
 have hsl := hso.len
 by_cases hl : gs.length = s.2.length
 · have hsz : sz (putT s.2 gs s.1) <= 4000000000000000000 := Nat.le_trans (putT_size hm.1 hso.ok hok) (Nat.le_trans (Nat.mul_le_mul hm.2 hso.sz) (by decide))
   have A := at_any b s G gs w h11 h hg hl m hok hsz
   have ht : zap s gs p = if 50000 < sz (putT s.2 gs s.1) then .error (8, p) else .ok (putT s.2 gs s.1) := by unfold zap; rw [if_neg (by simpa using hl)]
   have HN : Hid (∀ w1 x, Sx lo w w1 -> Tv w1 (putT s.2 gs s.1) x -> Calls Tryz.prog 159 #[x, .int .i64 (p : Int)] w1 (CkPost lo tx w (zap s gs p))) := fun w1 x X hx => by
    rw [ht]
    exact (zha tx _ x p w1 (Nat.le_trans h11 X.size) (g.sx X) (zqc hso.ok hok) hx hsz).mono fun en w' hh => hh.trans X
   obtain ⟨sg, cg, rfl, -⟩ := id hg
   clear hg hok hsz ht h g c3 hso
   generalize zap s gs p = R at *
   generalize putT s.2 gs s.1 = t' at *
   rw [hl] at A ⊢
   clear hl
   generalize s.2.length = n at *
   go_enter Tryz.func155, Tryz.ntmps155
   go_wp2_with fail
   refine C.mono ?_
   rintro e w1 ⟨rfl, rfl⟩
   go_wp2_with fail
   refine A.mono ?_
   rintro e w2 ⟨x, rfl, hx, X⟩
   have N := HN.out w2 x X hx
   obtain ⟨T, z, rfl⟩ := hx.iface
   clear hx
   go_wp2_with fail
   refine N.mono ?_
   intro e w3 hP
   obtain ⟨x, y, rfl, hx, hy⟩ := hP.pair
   have HP : Hid (CkPost lo tx w1 R (.returned (.tuple #[x, y])) w3) := hP
   clear hP
   go_wp2_with fail
   go_ret2
   exact HP.out
 · have ht : zap s gs p = .error (4, p) := by unfold zap; rw [if_pos hl]
   rw [ht]
   have H : Hid (∀ n, CkPost lo tx w (.error (4, p)) (.returned (.tuple #[.nilIface, atv w.heap.size])) ((w.alloc (atO tx 3 p)).drewN n)) := fun n => zpc (Sx.refl w) h11 n
   obtain ⟨sg, cg, rfl, -⟩ := id hg
   have hl' : ((gs.length : Int) != (s.2.length : Int)) = true := by simp; omega
   clear hg hok h g hso hl ht
   generalize gs.length = n' at *
   generalize s.2.length = n at *
   go_enter Tryz.func155, Tryz.ntmps155
   go_wp2_with fail
   refine C.mono ?_
   rintro e w1 ⟨rfl, rfl⟩
   go_wp2_with fail
   go_region
   all_goals
    go_wp2_with fail
    go_ret2
    exact H.out _
theorem literal_any (c : Nat) (w : World) (hc : c < 256) :
 Calls Tryz.prog 130 #[.int .u8 (c : Int)] w fun e w' => ∃ v, e = .returned v /\ Tv w (if c = 84 \/ c = 70 then tB else tI) v /\ w' = w := by
 by_cases h1 : c = 84
 · subst h1
   have H : Hid (Tv w tB viB) := .inr (.inl ⟨rfl, rfl⟩)
   go_enter Tryz.func130, Tryz.ntmps130
   go_wp2_with fail
   go_ret
   exact ⟨_, rfl, by simpa using H.out, rfl⟩
 · by_cases h2 : c = 70
   · subst h2
     have H : Hid (Tv w tB viB) := .inr (.inl ⟨rfl, rfl⟩)
     go_enter Tryz.func130, Tryz.ntmps130
     go_wp2_with fail
     go_ret
     exact ⟨_, rfl, by simpa using H.out, rfl⟩
   · rw [if_neg (by omega)]
     have H : Hid (Tv w tI viI) := .inl ⟨rfl, rfl⟩
     have e1 : ((c : Int) == 84) = false := by simp; omega
     have e2 : ((c : Int) == 70) = false := by simp; omega
     generalize (c : Int) = x at *
     go_enter Tryz.func130, Tryz.ntmps130
     go_wp2_with fail
     go_ret
     exact ⟨_, rfl, H.out, rfl⟩
def zay (l : List Nat) : List Value := l.flatMap fun o => [.int .u8 ((o / 10 : Nat) : Int), .int .u8 ((o % 10 : Nat) : Int)]
theorem zgk (l : List Nat) (o : Nat) : zay (l ++ [o]) = zay l ++ [.int .u8 ((o / 10 : Nat) : Int), .int .u8 ((o % 10 : Nat) : Int)] := by simp [zay]
theorem zpy : ∀ (l : List Nat) (j o : Nat), l[j]? = some o -> (zay l)[j * 2]? = some (.int .u8 ((o / 10 : Nat) : Int)) /\ (zay l)[j * 2 + 1]? = some (.int .u8 ((o % 10 : Nat) : Int)) := by
 intro l
 induction l with
 | nil => intro j o h; simp at h
 | cons p l ih =>
  intro j o h
  cases j with
  | zero => simp at h; subst h; exact ⟨rfl, rfl⟩
  | succ j =>
   simp at h
   obtain ⟨h1, h2⟩ := ih j o h
   have e1 : (j + 1) * 2 = j * 2 + 1 + 1 := by omega
   rw [e1]
   exact ⟨h1, h2⟩
theorem zkr {cur : Array Value} {m i : Nat} {xs : List Value} {v : Value} (h : cur.toList.take m = xs) (hx : xs[i]? = some v) : cur[i]? = some v := by
 rw [<- h, List.getElem?_take] at hx
 split at hx
 · simpa using hx
 · cases hx
theorem VarRow.owns {w : World} {B : Nat} {V : Value} {l : List Nat} (h : w.ownsRow B 263 2 V l.length (zay l)) : VarRow w V l := by
 obtain ⟨h1, ⟨rfl, h2⟩ | ⟨g, cap, cur, rfl, hB, hg, h3⟩⟩ := h
 · have : l = [] := by
    cases l with
    | nil => rfl
    | cons a l => simp at h2
   subst this
   exact ⟨none, 0, rfl, .inl rfl⟩
 · refine ⟨_, cap, rfl, .inr ⟨g, _, rfl, hg, fun j o hj => ?_⟩⟩
   obtain ⟨a1, a2⟩ := zpy l j o hj
   exact ⟨zkr h3.2.2.2 a1, zkr h3.2.2.2 a2⟩
theorem TypRow.given {w : World} {V : Value} {l : List Ty} {m : Nat} (h : Gv w V l) (hok : GOk m l) : TypRow w V l := by
 obtain ⟨vs, ⟨h1, ⟨rfl, h2⟩ | ⟨g, cap, cur, rfl, hB, hg, h3⟩⟩, hv⟩ := h
 · have : l = [] := by
    cases l with
    | nil => rfl
    | cons a l => simp at h2
   subst this
   exact ⟨none, 0, rfl, .inl rfl⟩
 · refine ⟨_, cap, rfl, .inr ⟨g, _, rfl, hg, fun j t hj => ?_⟩⟩
   obtain ⟨x, hx, ht⟩ := Tvs.at l vs hv j t hj
   exact ⟨x, zkr h3.2.2.2 hx, (hok t (List.mem_of_getElem? hj)).1, ht⟩
theorem infoVar : (Tryz.prog.info? 263).map (fun i => (i.zero, i.size, i.bytes)) = some (some (.agg #[.int .u8 0, .int .u8 0]), 2, 2) := by kernel_rfl
abbrev rowO (c : Int) (a b : ByteArray) : Obj := .cells #[.int .u8 c, .string a, .string b] 294
theorem zli (tx : Nat -> Addr) (c : Int) (a b : ByteArray) (t : Ty) (w : World) (h11 : 10 + lo <= w.heap.size) (g : Gl tx w) (hr : zbc a = .ok t) (ha : a.size <= 100000) (hb : b.size <= 1000)
 (bl : List Nat) (hbl : (b.data.toList.map fun x => 10 * x.toNat) = bl) (hs : SOk (t, bl)) :
 Calls Tryz.prog 192 #[.agg #[.int .u8 c, .string a, .string b]] w fun e w' => ∃ q, e = .returned (.tuple #[.pointer (some ⟨q, 0, none⟩), .nilIface]) /\ Sv lo w' q (t, bl) /\ Below w.heap.size w w' := by
 have HS : Hid (∀ k (h : k < b.size), bl.take (k + 1) = bl.take k ++ [10 * b[k].toNat]) := fun k h => by
  have : bl[k]? = some (10 * b[k].toNat) := by
   rw [<- hbl, List.getElem?_map, Array.getElem?_toList, Array.getElem?_eq_getElem h]; rfl
  rw [List.take_add_one, this]; rfl
 have HT : Hid (bl.take b.size = bl) := List.take_of_length_le (by rw [<- hbl, List.length_map]; exact Nat.le_refl _)
 clear hbl
 have b1 : Below w.heap.size w (w.alloc (rowO c a b)) := bal w _
 have R := kread_any tx a (w.alloc (rowO c a b)) (g.below b1 (by omega)) ha
 have cb1 : (w.alloc (rowO c a b)).cell? ⟨w.heap.size, 1, none⟩ = some (.string a) := by rw [Lib.cell_of_heap (heap_alloc_new w _)]; rfl
 obtain ⟨i0, hi0, hz0, hz1, hz2⟩ := info_parts infoVar
 go_enter Tryz.func192, Tryz.ntmps192
 go_wp2_with fail
 refine R.mono ?_
 rintro e w1 ⟨hb1, hP⟩
 rw [hr] at hP
 obtain ⟨v, rfl, hv⟩ := hP
 have cb2 : w1.cell? ⟨w.heap.size, 2, none⟩ = some (.string b) := by
  rw [hb1.cell (p := ⟨w.heap.size, 2, none⟩) (by simp)]; rw [Lib.cell_of_heap (heap_alloc_new w _)]; rfl
 obtain ⟨T, z, rfl⟩ := hv.iface
 have bw : Below w.heap.size w w1 := b1.trans (hb1.mono b1.size)
 have HV : Hid (Tv w1 t (.iface T z)) := hv
 have hl1 : w.heap.size < w1.heap.size := Nat.lt_of_lt_of_le (by simp) hb1.size
 clear hv R cb1 b1 hb1 g hr
 go_wp2_with fail
 have W0 : Hid (∀ wr, Below w1.heap.size w1 wr -> Tv wr t (.iface T z)) := fun wr hb => HV.out.below hb
 go_loopw [6, 20] (fun v i wr => ∃ (k : Nat) (l : List Nat), i = .int .i64 (k : Int) /\ k <= b.size /\ wr.ownsRow w1.heap.size 263 2 v l.length (zay l) /\ l.length <= k /\ Hid (l = bl.take k) /\ Below w1.heap.size w1 wr) (fun v i _ => b.size - (intOf i).toNat)
 case atStart => exact ⟨0, [], rfl, Nat.zero_le _, World.ownsRow_nil _ _ _ _, Nat.le_refl _, (rfl : [] = bl.take 0), Below.refl _ _⟩
 case round =>
  obtain ⟨k, l, rfl, hkn, hrow, hlk, HL, hB⟩ := hrel
  have cb3 : wr.cell? ⟨w.heap.size, 2, none⟩ = some (.string b) := (hB.cell (p := ⟨w.heap.size, 2, none⟩) hl1).trans cb2
  clear cb2
  by_cases hk : k = b.size
  · have hv := W0.out wr hB
    have hV := VarRow.owns hrow
    have e1 := HL.out
    rw [hk, HT.out] at e1
    obtain ⟨sa, cap, rfl, -⟩ := id hV
    have N := zhi (.iface T z) (.slice sa l.length cap) wr T z sa l.length cap rfl rfl
    have HQ : Hid (Sv lo (wr.alloc (schO (.iface T z) (.slice sa l.length cap) (.pointer none) (.slice none 0 0) .nilIface)) wr.heap.size (t, bl) /\ Below w.heap.size w (wr.alloc (schO (.iface T z) (.slice sa l.length cap) (.pointer none) (.slice none 0 0) .nilIface))) := by
     have bb : Below w.heap.size w wr := bw.trans (hB.mono bw.size)
     refine ⟨Sv.new (Nat.le_trans h11 bb.size) hs hv (by rw [e1] at hV ⊢; exact hV), bb.alloc bb.size _⟩
    clear hv hV e1 HL hrow
    subst hk
    generalize l.length = ll at *
    go_wp2_with fail
    refine N.mono ?_
    rintro e w2 ⟨rfl, rfl⟩
    go_wp2_with fail
    go_ret2
    exact ⟨_, rfl, HQ.out⟩
  · have hk' : k < b.size := by omega
    clear hk
    have HN := HS.out k hk'
    have HM0 : l ++ [10 * b[k].toNat] = bl.take (k + 1) := by rw [HN, HL.out]
    have HM : Hid (l ++ [10 * b[k].toNat] = bl.take (k + 1)) := HM0
    clear HM0
    have hvc : zay (l ++ [10 * b[k].toNat]) = zay l ++ [.int .u8 (b[k].toNat : Int), .int .u8 0] := by
     rw [zgk, show 10 * b[k].toNat / 10 = b[k].toNat by omega, show 10 * b[k].toNat % 10 = 0 by omega]; rfl
    have HC : Hid (zay (l ++ [10 * b[k].toNat]) = zay l ++ [.int .u8 (b[k].toNat : Int), .int .u8 0]) := hvc
    have hsz := hB.size
    clear hvc HN HL
    go_wp2_with (at_builtin; refine wpList_append_own _ rfl _ _ 245 rfl w1.heap.size 263 i0 (.agg #[.int .u8 0, .int .u8 0]) 2 2 Tryz.underlying245 hi0 hz0 hz1 hz2 rfl (by decide) _ _ _ rfl (hrow.alloc _) ⟨wr.heap.size, 0, none⟩ 1 1 [.int .u8 (b[k].toNat : Int), .int .u8 0] rfl rfl ?c1 ?c2 ?c3 ?c4 ?c5 ?_)
    case c1 => exact World.news_of_block (heap_alloc_new wr _)
    case c2 => intro u hu; simp at hu; rcases hu with rfl | rfl <;> rfl
    case c3 => unfold maxLen; omega
    case c4 => omega
    case c5 => simp; omega
    intro v' w5 hown' hgrow _
    have hrowA := hrow.alloc (.cells #[.int .u8 (b[k].toNat : Int), .int .u8 0] 263)
    have B5 : Below w1.heap.size w1 w5 := (hB.alloc hB.size (.cells #[.int .u8 (b[k].toNat : Int), .int .u8 0] 263)).trans ⟨hgrow.os, hgrow.tape, hgrow.output, hgrow.size, fun q hq => hgrow.block q (by simp; omega) (fun he => by have := (zgp hrowA q he.symm).1; omega)⟩
    have hown5 : w5.ownsRow w1.heap.size 263 2 v' (l ++ [10 * b[k].toNat]).length (zay (l ++ [10 * b[k].toNat])) := by rw [HC.out]; simpa using hown'
    have hlen : (l ++ [10 * b[k].toNat]).length <= k + 1 := by simp; omega
    clear hown' hgrow hrowA hrow HC hB
    generalize l ++ [10 * b[k].toNat] = lt at *
    go_wp2_with fail
    go_roundw
    case rel => exact ⟨k + 1, lt, by simp, by omega, hown5, hlen, HM, B5⟩
    case measure => simp [intOf]; omega
abbrev tabC (ltr : Nat -> Nat) (a b : Nat -> ByteArray) : Array Value := #[.int .u8 (ltr 0 : Int), .string (a 0), .string (b 0), .int .u8 (ltr 1 : Int), .string (a 1), .string (b 1), .int .u8 (ltr 2 : Int), .string (a 2), .string (b 2), .int .u8 (ltr 3 : Int), .string (a 3), .string (b 3), .int .u8 (ltr 4 : Int), .string (a 4), .string (b 4), .int .u8 (ltr 5 : Int), .string (a 5), .string (b 5), .int .u8 (ltr 6 : Int), .string (a 6), .string (b 6), .int .u8 (ltr 7 : Int), .string (a 7), .string (b 7), .int .u8 (ltr 8 : Int), .string (a 8), .string (b 8), .int .u8 (ltr 9 : Int), .string (a 9), .string (b 9)]
theorem sizeTab (ltr : Nat -> Nat) (a b : Nat -> ByteArray) : (Tryz.prog.info? 295).map (·.size) = some (tabC ltr a b).size := by
 have : (Tryz.prog.info? 295).map (·.size) = some 30 := by kernel_rfl
 exact this
theorem ix0 (ltr : Nat -> Nat) (a b : Nat -> ByteArray) (w : World) : (Instr.index 295 (.agg (tabC ltr a b)) (.int .i64 0)).run Tryz.prog w = .ok (.agg #[.int .u8 (ltr 0 : Int), .string (a 0), .string (b 0)]) w := by kernel_rfl
theorem ix1 (ltr : Nat -> Nat) (a b : Nat -> ByteArray) (w : World) : (Instr.index 295 (.agg (tabC ltr a b)) (.int .i64 1)).run Tryz.prog w = .ok (.agg #[.int .u8 (ltr 1 : Int), .string (a 1), .string (b 1)]) w := by kernel_rfl
theorem ix2 (ltr : Nat -> Nat) (a b : Nat -> ByteArray) (w : World) : (Instr.index 295 (.agg (tabC ltr a b)) (.int .i64 2)).run Tryz.prog w = .ok (.agg #[.int .u8 (ltr 2 : Int), .string (a 2), .string (b 2)]) w := by kernel_rfl
theorem ix3 (ltr : Nat -> Nat) (a b : Nat -> ByteArray) (w : World) : (Instr.index 295 (.agg (tabC ltr a b)) (.int .i64 3)).run Tryz.prog w = .ok (.agg #[.int .u8 (ltr 3 : Int), .string (a 3), .string (b 3)]) w := by kernel_rfl
theorem ix4 (ltr : Nat -> Nat) (a b : Nat -> ByteArray) (w : World) : (Instr.index 295 (.agg (tabC ltr a b)) (.int .i64 4)).run Tryz.prog w = .ok (.agg #[.int .u8 (ltr 4 : Int), .string (a 4), .string (b 4)]) w := by kernel_rfl
theorem ix5 (ltr : Nat -> Nat) (a b : Nat -> ByteArray) (w : World) : (Instr.index 295 (.agg (tabC ltr a b)) (.int .i64 5)).run Tryz.prog w = .ok (.agg #[.int .u8 (ltr 5 : Int), .string (a 5), .string (b 5)]) w := by kernel_rfl
theorem ix6 (ltr : Nat -> Nat) (a b : Nat -> ByteArray) (w : World) : (Instr.index 295 (.agg (tabC ltr a b)) (.int .i64 6)).run Tryz.prog w = .ok (.agg #[.int .u8 (ltr 6 : Int), .string (a 6), .string (b 6)]) w := by kernel_rfl
theorem ix7 (ltr : Nat -> Nat) (a b : Nat -> ByteArray) (w : World) : (Instr.index 295 (.agg (tabC ltr a b)) (.int .i64 7)).run Tryz.prog w = .ok (.agg #[.int .u8 (ltr 7 : Int), .string (a 7), .string (b 7)]) w := by kernel_rfl
theorem ix8 (ltr : Nat -> Nat) (a b : Nat -> ByteArray) (w : World) : (Instr.index 295 (.agg (tabC ltr a b)) (.int .i64 8)).run Tryz.prog w = .ok (.agg #[.int .u8 (ltr 8 : Int), .string (a 8), .string (b 8)]) w := by kernel_rfl
theorem ix9 (ltr : Nat -> Nat) (a b : Nat -> ByteArray) (w : World) : (Instr.index 295 (.agg (tabC ltr a b)) (.int .i64 9)).run Tryz.prog w = .ok (.agg #[.int .u8 (ltr 9 : Int), .string (a 9), .string (b 9)]) w := by kernel_rfl
theorem zmx (ltr : Nat -> Nat) (a b : Nat -> ByteArray) (r : Nat) (hr : r < 10) (hne : ∀ j, j < r -> ltr j ≠ ltr r) (w : World) (Q : Ending -> World -> Prop) (t : TypeId) (fr : Nat × Nat) (hw : w.heap[9]? = some (.cells (tabC ltr a b) t fr))
 (RS : Hid (∀ w', Below w.heap.size w w' -> Calls Tryz.prog 192 #[.agg #[.int .u8 (ltr r : Int), .string (a r), .string (b r)]] w' fun e w'' => ∃ q, e = .returned (.tuple #[.pointer (some ⟨q, 0, none⟩), .nilIface]) /\ Hid (Q (.returned (.tuple #[.pointer (some ⟨q, 0, none⟩), .nilIface])) w''))) :
 Calls Tryz.prog 156 #[.int .u8 (ltr r : Int)] w Q := by
 have HNE : Hid (∀ j, j < r -> ((ltr j : Int) == (ltr r : Int)) = false) := fun j hj => by have := hne j hj; simp; omega
 have H0 := Below.refl w.heap.size w
 clear hne
 go_enter Tryz.func156, Tryz.ntmps156
 go_wp2_with (first | refine wpList_load_row rfl _ _ rfl 9 rfl _ (tabC ltr a b) fr _ hw Tryz.underlying295 rfl (sizeTab ltr a b) ?_ | fail)
 go_loopw [7] (fun i wr => ∃ k : Nat, i = .int .i64 (k : Int) /\ k <= r /\ Below w.heap.size w wr) (fun i _ => 10 - (intOf i).toNat)
 case atStart => exact ⟨0, rfl, Nat.zero_le _, H0⟩
 case round =>
  obtain ⟨k, rfl, hkr, hB⟩ := hrel
  clear hw H0
  have hk : k < 10 := by omega
  match k, hk with
  | 0, _ =>
   by_cases hq : 0 = r
   · subst hq
     have S := RS.out _ (hB.alloc hB.size (rowO (ltr 0 : Int) (a 0) (b 0)))
     have IX := ix0 ltr a b
     clear HNE RS
     generalize (ltr 0 : Int) = x at *
     go_wp2_with fail
     refine S.mono ?_
     rintro e w2 ⟨q, rfl, HR⟩
     go_wp2_with fail
     exact HR.out
   · have hlt : 0 < r := by omega
     have IX := ix0 ltr a b
     have HX := HNE.out 0 hlt
     have B2 := hB.alloc hB.size (rowO (ltr 0 : Int) (a 0) (b 0))
     clear RS HNE hq
     generalize (ltr 0 : Int) = x at *
     generalize (ltr r : Int) = y at *
     go_wp2_with fail
     go_roundw
     case rel => exact ⟨0 + 1, rfl, hlt, B2⟩
     case measure => decide
  | 1, _ =>
   by_cases hq : 1 = r
   · subst hq
     have S := RS.out _ (hB.alloc hB.size (rowO (ltr 1 : Int) (a 1) (b 1)))
     have IX := ix1 ltr a b
     clear HNE RS
     generalize (ltr 1 : Int) = x at *
     go_wp2_with fail
     refine S.mono ?_
     rintro e w2 ⟨q, rfl, HR⟩
     go_wp2_with fail
     exact HR.out
   · have hlt : 1 < r := by omega
     have IX := ix1 ltr a b
     have HX := HNE.out 1 hlt
     have B2 := hB.alloc hB.size (rowO (ltr 1 : Int) (a 1) (b 1))
     clear RS HNE hq
     generalize (ltr 1 : Int) = x at *
     generalize (ltr r : Int) = y at *
     go_wp2_with fail
     go_roundw
     case rel => exact ⟨1 + 1, rfl, hlt, B2⟩
     case measure => decide
  | 2, _ =>
   by_cases hq : 2 = r
   · subst hq
     have S := RS.out _ (hB.alloc hB.size (rowO (ltr 2 : Int) (a 2) (b 2)))
     have IX := ix2 ltr a b
     clear HNE RS
     generalize (ltr 2 : Int) = x at *
     go_wp2_with fail
     refine S.mono ?_
     rintro e w2 ⟨q, rfl, HR⟩
     go_wp2_with fail
     exact HR.out
   · have hlt : 2 < r := by omega
     have IX := ix2 ltr a b
     have HX := HNE.out 2 hlt
     have B2 := hB.alloc hB.size (rowO (ltr 2 : Int) (a 2) (b 2))
     clear RS HNE hq
     generalize (ltr 2 : Int) = x at *
     generalize (ltr r : Int) = y at *
     go_wp2_with fail
     go_roundw
     case rel => exact ⟨2 + 1, rfl, hlt, B2⟩
     case measure => decide
  | 3, _ =>
   by_cases hq : 3 = r
   · subst hq
     have S := RS.out _ (hB.alloc hB.size (rowO (ltr 3 : Int) (a 3) (b 3)))
     have IX := ix3 ltr a b
     clear HNE RS
     generalize (ltr 3 : Int) = x at *
     go_wp2_with fail
     refine S.mono ?_
     rintro e w2 ⟨q, rfl, HR⟩
     go_wp2_with fail
     exact HR.out
   · have hlt : 3 < r := by omega
     have IX := ix3 ltr a b
     have HX := HNE.out 3 hlt
     have B2 := hB.alloc hB.size (rowO (ltr 3 : Int) (a 3) (b 3))
     clear RS HNE hq
     generalize (ltr 3 : Int) = x at *
     generalize (ltr r : Int) = y at *
     go_wp2_with fail
     go_roundw
     case rel => exact ⟨3 + 1, rfl, hlt, B2⟩
     case measure => decide
  | 4, _ =>
   by_cases hq : 4 = r
   · subst hq
     have S := RS.out _ (hB.alloc hB.size (rowO (ltr 4 : Int) (a 4) (b 4)))
     have IX := ix4 ltr a b
     clear HNE RS
     generalize (ltr 4 : Int) = x at *
     go_wp2_with fail
     refine S.mono ?_
     rintro e w2 ⟨q, rfl, HR⟩
     go_wp2_with fail
     exact HR.out
   · have hlt : 4 < r := by omega
     have IX := ix4 ltr a b
     have HX := HNE.out 4 hlt
     have B2 := hB.alloc hB.size (rowO (ltr 4 : Int) (a 4) (b 4))
     clear RS HNE hq
     generalize (ltr 4 : Int) = x at *
     generalize (ltr r : Int) = y at *
     go_wp2_with fail
     go_roundw
     case rel => exact ⟨4 + 1, rfl, hlt, B2⟩
     case measure => decide
  | 5, _ =>
   by_cases hq : 5 = r
   · subst hq
     have S := RS.out _ (hB.alloc hB.size (rowO (ltr 5 : Int) (a 5) (b 5)))
     have IX := ix5 ltr a b
     clear HNE RS
     generalize (ltr 5 : Int) = x at *
     go_wp2_with fail
     refine S.mono ?_
     rintro e w2 ⟨q, rfl, HR⟩
     go_wp2_with fail
     exact HR.out
   · have hlt : 5 < r := by omega
     have IX := ix5 ltr a b
     have HX := HNE.out 5 hlt
     have B2 := hB.alloc hB.size (rowO (ltr 5 : Int) (a 5) (b 5))
     clear RS HNE hq
     generalize (ltr 5 : Int) = x at *
     generalize (ltr r : Int) = y at *
     go_wp2_with fail
     go_roundw
     case rel => exact ⟨5 + 1, rfl, hlt, B2⟩
     case measure => decide
  | 6, _ =>
   by_cases hq : 6 = r
   · subst hq
     have S := RS.out _ (hB.alloc hB.size (rowO (ltr 6 : Int) (a 6) (b 6)))
     have IX := ix6 ltr a b
     clear HNE RS
     generalize (ltr 6 : Int) = x at *
     go_wp2_with fail
     refine S.mono ?_
     rintro e w2 ⟨q, rfl, HR⟩
     go_wp2_with fail
     exact HR.out
   · have hlt : 6 < r := by omega
     have IX := ix6 ltr a b
     have HX := HNE.out 6 hlt
     have B2 := hB.alloc hB.size (rowO (ltr 6 : Int) (a 6) (b 6))
     clear RS HNE hq
     generalize (ltr 6 : Int) = x at *
     generalize (ltr r : Int) = y at *
     go_wp2_with fail
     go_roundw
     case rel => exact ⟨6 + 1, rfl, hlt, B2⟩
     case measure => decide
  | 7, _ =>
   by_cases hq : 7 = r
   · subst hq
     have S := RS.out _ (hB.alloc hB.size (rowO (ltr 7 : Int) (a 7) (b 7)))
     have IX := ix7 ltr a b
     clear HNE RS
     generalize (ltr 7 : Int) = x at *
     go_wp2_with fail
     refine S.mono ?_
     rintro e w2 ⟨q, rfl, HR⟩
     go_wp2_with fail
     exact HR.out
   · have hlt : 7 < r := by omega
     have IX := ix7 ltr a b
     have HX := HNE.out 7 hlt
     have B2 := hB.alloc hB.size (rowO (ltr 7 : Int) (a 7) (b 7))
     clear RS HNE hq
     generalize (ltr 7 : Int) = x at *
     generalize (ltr r : Int) = y at *
     go_wp2_with fail
     go_roundw
     case rel => exact ⟨7 + 1, rfl, hlt, B2⟩
     case measure => decide
  | 8, _ =>
   by_cases hq : 8 = r
   · subst hq
     have S := RS.out _ (hB.alloc hB.size (rowO (ltr 8 : Int) (a 8) (b 8)))
     have IX := ix8 ltr a b
     clear HNE RS
     generalize (ltr 8 : Int) = x at *
     go_wp2_with fail
     refine S.mono ?_
     rintro e w2 ⟨q, rfl, HR⟩
     go_wp2_with fail
     exact HR.out
   · have hlt : 8 < r := by omega
     have IX := ix8 ltr a b
     have HX := HNE.out 8 hlt
     have B2 := hB.alloc hB.size (rowO (ltr 8 : Int) (a 8) (b 8))
     clear RS HNE hq
     generalize (ltr 8 : Int) = x at *
     generalize (ltr r : Int) = y at *
     go_wp2_with fail
     go_roundw
     case rel => exact ⟨8 + 1, rfl, hlt, B2⟩
     case measure => decide
  | 9, _ =>
   by_cases hq : 9 = r
   · subst hq
     have S := RS.out _ (hB.alloc hB.size (rowO (ltr 9 : Int) (a 9) (b 9)))
     have IX := ix9 ltr a b
     clear HNE RS
     generalize (ltr 9 : Int) = x at *
     go_wp2_with fail
     refine S.mono ?_
     rintro e w2 ⟨q, rfl, HR⟩
     go_wp2_with fail
     exact HR.out
   · exact absurd hq (by omega)
  | n + 10, h => exact absurd h (by omega)
def ltrK (k : Nat) : Nat := [78, 67, 80, 76, 82, 74, 69, 65, 89, 68].getD k 0
def texK (k : Nat) : ByteArray := [⟨#[91, 97, 93]⟩, ⟨#[97, 62, 91, 97, 93, 62, 91, 97, 93]⟩, ⟨#[97, 62, 98, 62, 97, 42, 98]⟩, ⟨#[97, 42, 98, 62, 97]⟩, ⟨#[97, 42, 98, 62, 98]⟩, ⟨#[66, 62, 97, 62, 97, 62, 97]⟩, ⟨#[73, 62, 73, 62, 66]⟩, ⟨#[73, 62, 73, 62, 73]⟩, ⟨#[40, 97, 62, 97, 41, 62, 97]⟩, ⟨#[40, 97, 62, 98, 62, 98, 41, 62, 98, 62, 91, 97, 93, 62, 98]⟩].getD k ⟨#[]⟩
def ownB (k : Nat) : ByteArray := [⟨#[97]⟩, ⟨#[97]⟩, ⟨#[97, 98]⟩, ⟨#[97, 98]⟩, ⟨#[97, 98]⟩, ⟨#[97]⟩, ⟨#[]⟩, ⟨#[]⟩, ⟨#[97]⟩, ⟨#[97, 98]⟩].getD k ⟨#[]⟩
def Tb (w : World) : Prop := ∃ t fr, w.heap[9]? = some (.cells (tabC ltrK texK ownB) t fr)
theorem Tb.sx {w w' : World} (h : Tb w) (hx : Sx lo w w') : Tb w' := by
 obtain ⟨t, fr, h⟩ := h
 exact ⟨t, fr, (hx.low 9 (by omega)).trans h⟩
theorem ltr_all : ∀ r : Fin 10, ∀ j : Fin 10, j.val < r.val -> ltrK j.val ≠ ltrK r.val := by decide
theorem row_reads : ∀ r, r < 10 -> zbc (texK r) = .ok (conS (ltrK r)).1 := by
 intro r hr
 match r, hr with
 | 0, _ => exact (show zbc (texK 0) = .ok (conS (ltrK 0)).1 by kernel_rfl)
 | 1, _ => exact (show zbc (texK 1) = .ok (conS (ltrK 1)).1 by kernel_rfl)
 | 2, _ => exact (show zbc (texK 2) = .ok (conS (ltrK 2)).1 by kernel_rfl)
 | 3, _ => exact (show zbc (texK 3) = .ok (conS (ltrK 3)).1 by kernel_rfl)
 | 4, _ => exact (show zbc (texK 4) = .ok (conS (ltrK 4)).1 by kernel_rfl)
 | 5, _ => exact (show zbc (texK 5) = .ok (conS (ltrK 5)).1 by kernel_rfl)
 | 6, _ => exact (show zbc (texK 6) = .ok (conS (ltrK 6)).1 by kernel_rfl)
 | 7, _ => exact (show zbc (texK 7) = .ok (conS (ltrK 7)).1 by kernel_rfl)
 | 8, _ => exact (show zbc (texK 8) = .ok (conS (ltrK 8)).1 by kernel_rfl)
 | 9, _ => exact (show zbc (texK 9) = .ok (conS (ltrK 9)).1 by kernel_rfl)
 | n + 10, h => exact absurd h (by omega)
theorem row_own : ∀ r, r < 10 -> ((ownB r).data.toList.map fun x => 10 * x.toNat) = (conS (ltrK r)).2 /\ (texK r).size <= 100000 /\ (ownB r).size <= 1000 := by
 intro r hr
 match r, hr with
 | 0, _ => exact ⟨by kernel_rfl, by decide, by decide⟩
 | 1, _ => exact ⟨by kernel_rfl, by decide, by decide⟩
 | 2, _ => exact ⟨by kernel_rfl, by decide, by decide⟩
 | 3, _ => exact ⟨by kernel_rfl, by decide, by decide⟩
 | 4, _ => exact ⟨by kernel_rfl, by decide, by decide⟩
 | 5, _ => exact ⟨by kernel_rfl, by decide, by decide⟩
 | 6, _ => exact ⟨by kernel_rfl, by decide, by decide⟩
 | 7, _ => exact ⟨by kernel_rfl, by decide, by decide⟩
 | 8, _ => exact ⟨by kernel_rfl, by decide, by decide⟩
 | 9, _ => exact ⟨by kernel_rfl, by decide, by decide⟩
 | n + 10, h => exact absurd h (by omega)
theorem con_row (c : Nat) (hc : isCon c = true) : ∃ r, r < 10 /\ ltrK r = c := by
 simp only [isCon, Bool.or_eq_true, beq_iff_eq] at hc
 rcases hc with (((((((((rfl | rfl) | rfl) | rfl) | rfl) | rfl) | rfl) | rfl) | rfl) | rfl)
 · exact ⟨0, by decide, rfl⟩
 · exact ⟨1, by decide, rfl⟩
 · exact ⟨2, by decide, rfl⟩
 · exact ⟨3, by decide, rfl⟩
 · exact ⟨4, by decide, rfl⟩
 · exact ⟨5, by decide, rfl⟩
 · exact ⟨6, by decide, rfl⟩
 · exact ⟨7, by decide, rfl⟩
 · exact ⟨8, by decide, rfl⟩
 · exact ⟨9, by decide, rfl⟩
theorem conS_sok (c : Nat) : SOk (conS c) := by
 refine ⟨(conS_ok c).1, Nat.le_trans (conS_ok c).2 (by decide), ?_, ?_⟩
 · intro o ho
   unfold conS at ho
   repeat' split at ho
   all_goals simp at ho
   all_goals omega
 · unfold conS
   repeat' split
   all_goals simp
theorem zmp (tx : Nat -> Addr) (c : Nat) (w : World) (h11 : 10 + lo <= w.heap.size) (g : Gl tx w) (tb : Tb w) (hc : isCon c = true) :
 Calls Tryz.prog 156 #[.int .u8 (c : Int)] w fun e w' => ∃ q, e = .returned (.tuple #[.pointer (some ⟨q, 0, none⟩), .nilIface]) /\ Sv lo w' q (conS c) /\ Below w.heap.size w w' := by
 obtain ⟨r, hr, rfl⟩ := con_row c hc
 obtain ⟨t, fr, ht⟩ := tb
 obtain ⟨h1, h2, h3⟩ := row_own r hr
 refine zmx ltrK texK ownB r hr (fun j hj => ltr_all ⟨r, hr⟩ ⟨j, by omega⟩ hj) w _ t fr ht ?_
 intro w' hb
 refine (zli tx _ _ _ _ w' (Nat.le_trans h11 hb.size) (g.below hb (by omega)) (row_reads r hr) h2 h3 _ h1 (conS_sok _)).mono ?_
 rintro e w'' ⟨q, rfl, hs, hb2⟩
 exact ⟨q, rfl, q, rfl, hs, hb.trans (hb2.mono hb.size)⟩
end Go.Proofs.YtceadeaodbadlaaGreatDoor
