import Derived.Test.YtceadeaodbadlaaGreatDoorChecksP2
import Derived.OpenShut
import Derived.Deep.RegionWith
import Derived.Deep.RegionHeld3
import Derived.Test.YtceadeaodbadlaaGreatDoorProg
import Derived.WalkKit
import Derived.KernelRfl
import Derived.Shelf.Strings.Builder2
import Derived.Shelf.Strings.BuilderK
import Derived.Lib.OthersKept
import Derived.MapKept
import Derived.Shelf.Abstract
import Derived.Deep.DeepCutAuto
set_option linter.unusedVariables false
set_option linter.unusedSimpArgs false
set_option maxRecDepth 100000
set_option maxHeartbeats 8000000
namespace Go.Proofs.YtceadeaodbadlaaGreatDoor
open Go.ChangeShapes Go.WideShapes Go.ChangeAt Go.RowKit
def sents2 : List (String × DataW Unit) := sents ++ [("shape/scheme.constants", Rows.laid_shape_scheme_constants)]
def laid9 : List (String × DataW Unit) := ("errors.errorType", Rows.laid_errors_errorType) :: sents2
theorem door_met2 (os : Os) (args : Array Value) : laidMetH Tryz.prog laid9 ((World.doorLaid Tryz.prog 183 os).forCall (fun _ _ => 0) ⟨#[], args, []⟩).memory :=
 laidMetH_of_parts3 (fuel := 8) (laidMet_of_run' 8 (by kernel_rfl) (by kernel_rfl)) (by kernel_rfl) (by kernel_rfl)
theorem g9 : Tryz.prog.globalNamed "shape/scheme.constants" = some 9 := by kernel_rfl
theorem g9T : (Tryz.prog.globals[9]?).map (·.type) = some 295 := by kernel_rfl
theorem cellsT9 : Tryz.prog.cellsOf 295 = 30 := by kernel_rfl
theorem cellsRow : Tryz.prog.cellsOf 294 = 3 := by kernel_rfl
theorem cellsU8 : Tryz.prog.cellsOf 5 = 1 := by kernel_rfl
theorem bytes_of {s : ByteArray} {l : List UInt8} (h : s.data.toList = l) : s = ⟨l.toArray⟩ := by
 cases s; simp at h; subst h; simp
theorem len3 {α : Type} {l : List α} (h : l.length = 3) : ∃ a b c, l = [a, b, c] := by
 match l, h with
 | [a, b, c], _ => exact ⟨a, b, c, rfl⟩
/-- A row of the table. -/
theorem row_of {W : World} {fuel : Nat} {cs : List Value} {c : Int} {a b : List UInt8} {p : List MemPlace}
 (h : DataW.trod (fun _ => ()) Tryz.prog W 0 (fun _ => true) false fuel 294 cs = some (.agg [.lit (.int .u8 c), .lit (.string a), .lit (.string b)], p)) :
 cs = [.int .u8 c, .string ⟨a.toArray⟩, .string ⟨b.toArray⟩] := by
 obtain ⟨xs, n, rfl, hx, hl, hn, hf⟩ := DataW.trod_struct Tryz.underlying294 h
 rw [cellsRow] at hl
 obtain ⟨v0, v1, v2, rfl⟩ := len3 hl
 · have f0 : DataW.trod (fun _ => ()) Tryz.prog W 0 (fun _ => true) false n 5 (([v0, v1, v2].drop 0).take (Tryz.prog.cellsOf 5)) = xs[0]? := hf 0 _ rfl
   have f1 : DataW.trod (fun _ => ()) Tryz.prog W 0 (fun _ => true) false n 9 (([v0, v1, v2].drop 1).take (Tryz.prog.cellsOf 9)) = xs[1]? := hf 1 _ rfl
   have f2 : DataW.trod (fun _ => ()) Tryz.prog W 0 (fun _ => true) false n 9 (([v0, v1, v2].drop 2).take (Tryz.prog.cellsOf 9)) = xs[2]? := hf 2 _ rfl
   rw [cellsU8] at f0
   rw [cellsS] at f1 f2
   clear hf
   simp only [Prod.mk.injEq, DataW.agg.injEq] at hx
   have hx1 := hx.1
   have e : xs.map (·.1) = [.lit (.int .u8 c), .lit (.string a), .lit (.string b)] := hx1.symm
   have h3 : xs.length = 3 := by have := congrArg List.length e; simpa using this
   obtain ⟨x0, x1, x2, rfl⟩ := len3 h3
   · simp only [List.map_cons, List.map_nil, List.cons.injEq, and_true] at e
     obtain ⟨e0, e1, e2⟩ := e
     simp only [List.drop_zero, List.drop_succ_cons, List.take_succ_cons, List.take_zero, List.getElem?_cons_zero, List.getElem?_cons_succ] at f0 f1 f2
     obtain ⟨n0, c0, d0, _⟩ := DataW.trod_int Tryz.underlying5 f0
     obtain ⟨s1, c1, d1, _⟩ := DataW.trod_string Tryz.underlying9 f1
     obtain ⟨s2, c2, d2, _⟩ := DataW.trod_string Tryz.underlying9 f2
     rw [d0] at e0
     rw [d1] at e1
     rw [d2] at e2
     simp at e0 e1 e2 c0 c1 c2
     subst c0 c1 c2 e0
     rw [bytes_of e1, bytes_of e2]
theorem chop {α : Type} (l : List α) (n : Nat) : l.drop n = (l.drop n).take 3 ++ l.drop (n + 3) := by
 rw [<- List.drop_drop, List.take_append_drop]
/-- The table of constants lies at block 9. -/
theorem table_of {W : World} (h : laidMet Tryz.prog [("shape/scheme.constants", Rows.laid_shape_scheme_constants)] W) : Tb W := by
 obtain ⟨ps, ⟨g, t, cs, fuel, p, q, hg, ht, hv, hd, _, _⟩, _, _⟩ := h
 obtain rfl := Option.some.inj (g9.symm.trans hg)
 obtain rfl := Option.some.inj (g9T.symm.trans ht)
 obtain ⟨xs, n, rfl, hx, hl, hn, hf⟩ := DataW.trod_array Tryz.underlying295 hd
 rw [cellsT9] at hl
 have hx1 : xs.map (·.1) = _ := (DataW.agg.inj (congrArg Prod.fst hx)).symm
 have row : ∀ (i : Nat) (c : Int) (a b : List UInt8), i < 10 -> (xs.map (·.1))[i]? = some (.agg [.lit (.int .u8 c), .lit (.string a), .lit (.string b)]) -> (cs.toList.drop (i * 3)).take 3 = [.int .u8 c, .string ⟨a.toArray⟩, .string ⟨b.toArray⟩] := by
  intro i c a b hi hd
  have f := hf i hi
  rw [cellsRow] at f
  rw [List.getElem?_map] at hd
  obtain ⟨x, hx, e⟩ := Option.map_eq_some_iff.1 hd
  obtain ⟨x1, x2⟩ := x
  rw [hx] at f
  simp only at e
  subst e
  exact row_of f
 rw [hx1] at row
 have r0 := row 0 _ _ _ (by decide) rfl
 have r1 := row 1 _ _ _ (by decide) rfl
 have r2 := row 2 _ _ _ (by decide) rfl
 have r3 := row 3 _ _ _ (by decide) rfl
 have r4 := row 4 _ _ _ (by decide) rfl
 have r5 := row 5 _ _ _ (by decide) rfl
 have r6 := row 6 _ _ _ (by decide) rfl
 have r7 := row 7 _ _ _ (by decide) rfl
 have r8 := row 8 _ _ _ (by decide) rfl
 have r9 := row 9 _ _ _ (by decide) rfl
 have hz : cs.toList.drop 30 = [] := List.drop_eq_nil_of_le (by rw [hl]; exact Nat.le_refl _)
 have hc : cs.toList = (tabC ltrK texK ownB).toList := by
  have c0 : cs.toList = cs.toList.drop 0 := rfl
  rw [c0, chop cs.toList 0, chop cs.toList 3, chop cs.toList 6, chop cs.toList 9, chop cs.toList 12, chop cs.toList 15, chop cs.toList 18, chop cs.toList 21, chop cs.toList 24, chop cs.toList 27, hz]
  rw [r0, r1, r2, r3, r4, r5, r6, r7, r8, r9]
  rfl
 have hca : cs = tabC ltrK texK ownB := by
  cases cs; simp only at hc; rw [hc]
 subst hca
 unfold World.var? at hv
 rw [g9] at hv
 simp only [Option.bind_some] at hv
 split at hv
 · rename_i c t fr hh
   cases hv
   exact ⟨t, fr, hh⟩
 · cases hv
theorem of_laid9 {W : World} (h : laidMetH Tryz.prog laid9 W) : (∃ tx, Gs tx W) /\ Tb W := by
 have h' : laidMet Tryz.prog sents2 W /\ handlesMet Tryz.prog [("errors.errorType", Rows.laid_errors_errorType)] W := h
 have h1 : laidMet Tryz.prog sents W := h'.1.filter (fun x => x.1 != "shape/scheme.constants")
 have h2 : laidMet Tryz.prog [("shape/scheme.constants", Rows.laid_shape_scheme_constants)] W := h'.1.filter (fun x => x.1 == "shape/scheme.constants")
 exact ⟨of_sents h1 (hand_of h'.2), table_of h2⟩
theorem Tb.size {W : World} (h : Tb W) : 10 <= W.heap.size := by
 obtain ⟨t, fr, h⟩ := h
 have := (Array.getElem?_eq_some_iff.1 h).1
 omega
end Go.Proofs.YtceadeaodbadlaaGreatDoor
namespace Go.Proofs.YtceadeaodbadlaaGreatDoor
open Go.RowKit
variable {lo : Nat}
abbrev nameO (T : TypeId) (c : Nat) (G : Value) (p : Nat) : Obj := .cells #[.int .u8 (c : Int), G, .int .i64 (p : Int)] T
theorem zhk {c : Nat} (h : isLet c = true) : 97 <= c /\ c < 123 := by simp [isLet] at h; omega
theorem zkp (tx : Nat -> Addr) (c p a m : Nat) (gs : List Ty) (G : Value) (e : Env) (w : World) (h11 : 10 + lo <= w.heap.size) (g : Gl tx w) (h : Ar lo w a e) (hg : Gv w G gs) (hok : GOk m gs) (hm : 1 <= m /\ m <= 1000000) (hc : isLet c = true) :
 Calls Tryz.prog 125 #[.agg #[.int .u8 (c : Int), G, .int .i64 (p : Int)], .pointer (some ⟨a, 0, none⟩)] w
  (CkPost lo tx w (match e c with | none => .error (3, p) | some s => zap s gs p)) := by
 have b1 : Below w.heap.size w (w.alloc (nameO 173 c G p)) := bal w _
 have X1 := Below.sx b1 h11
 have O := of_any a c e (w.alloc (nameO 173 c G p)) (h.sx X1) (zhk hc)
 have g1 := g.sx X1
 have c2 := g1.errs 2 (by decide)
 have hn := heap_alloc_new w (nameO 173 c G p)
 have hgr := (TypRow.given (hg.keptS X1.kept) hok)
 obtain ⟨sg, cg, rfl, -⟩ := id hgr
 have d0 : (w.alloc (nameO 173 c (.slice sg gs.length cg) p)).cell? ⟨w.heap.size, 0, none⟩ = some (.int .u8 (c : Int)) := cbl hn
 have d1 : (w.alloc (nameO 173 c (.slice sg gs.length cg) p)).cell? ⟨w.heap.size, 1, none⟩ = some (.slice sg gs.length cg) := cbl hn
 have d2 : (w.alloc (nameO 173 c (.slice sg gs.length cg) p)).cell? ⟨w.heap.size, 2, none⟩ = some (.int .i64 (p : Int)) := cbl hn
 have hsz : 10 + lo <= (w.alloc (nameO 173 c (.slice sg gs.length cg) p)).heap.size := Nat.le_trans h11 b1.size
 have HE : Hid (e c = none -> ∀ n, CkPost lo tx w (match e c with | none => .error (3, p) | some s => zap s gs p) (.returned (.tuple #[.nilIface, atv (w.alloc (nameO 173 c (.slice sg gs.length cg) p)).heap.size])) (((w.alloc (nameO 173 c (.slice sg gs.length cg) p)).alloc (atO tx 2 p)).drewN n)) := fun he n => by
  rw [he]
  exact zpc (c := 3) (p := p) (tx := tx) X1 hsz n
 have HT : Hid (∀ s b, e c = some s -> Sv lo (w.alloc (nameO 173 c (.slice sg gs.length cg) p)) b s -> Calls Tryz.prog 155 #[.pointer (some ⟨b, 0, none⟩), .slice sg gs.length cg, .int .i64 (p : Int)] (w.alloc (nameO 173 c (.slice sg gs.length cg) p)) (CkPost lo tx w (match e c with | none => .error (3, p) | some s => zap s gs p))) := fun s b he hs => by
  rw [he]
  exact (zmz tx s b gs _ p m _ hsz g1 hs hgr hok hm).mono fun en w' hh => hh.trans X1
 clear hgr hg hok hsz g1 hn g h X1 b1
 generalize (match e c with | none => (.error (3, p) : COut) | some s => zap s gs p) = R at *
 generalize gs.length = n at *
 generalize hW : w.alloc (nameO 173 c (.slice sg n cg) p) = W at *
 go_enter Tryz.func125, Tryz.ntmps125
 go_wp2_with fail
 refine O.mono ?_
 rintro en w1 ⟨v, rfl, hC, hw⟩
 rcases hC with ⟨he, rfl⟩ | ⟨s, b, he, rfl, hs⟩
 · have H := HE.out he
   have HH : Hid _ := H
   clear H HE HT O he
   subst hw
   go_wp2_with fail
   go_region
   all_goals
    go_wp2_with fail
    go_ret2
    exact HH.out _
 · have T := HT.out s b he hs
   clear HE HT O he hs
   subst hw
   go_wp2_with fail
   refine T.mono ?_
   intro e w3 hP
   obtain ⟨x, y, rfl, hx, hy⟩ := hP.pair
   have HP : Hid (CkPost lo tx w R (.returned (.tuple #[x, y])) w3) := hP
   clear hP
   go_wp2_with fail
   go_ret2
   exact HP.out
theorem zgj (tx : Nat -> Addr) (c p m : Nat) (gs : List Ty) (G : Value) (w : World) (h11 : 10 + lo <= w.heap.size) (g : Gl tx w) (tb : Tb w) (hg : Gv w G gs) (hok : GOk m gs) (hm : 1 <= m /\ m <= 1000000) (hc : isCon c = true) :
 Calls Tryz.prog 126 #[.agg #[.int .u8 (c : Int), G, .int .i64 (p : Int)]] w (CkPost lo tx w (zap (conS c) gs p)) := by
 have b1 : Below w.heap.size w (w.alloc (nameO 175 c G p)) := bal w _
 have X1 := Below.sx b1 h11
 have hsz : 10 + lo <= (w.alloc (nameO 175 c G p)).heap.size := Nat.le_trans h11 b1.size
 have K := zmp tx c _ hsz (g.sx X1) (tb.sx X1) hc
 have hn := heap_alloc_new w (nameO 175 c G p)
 have hgr := (TypRow.given (hg.keptS X1.kept) hok)
 obtain ⟨sg, cg, rfl, -⟩ := id hgr
 have d0 : (w.alloc (nameO 175 c (.slice sg gs.length cg) p)).cell? ⟨w.heap.size, 0, none⟩ = some (.int .u8 (c : Int)) := cbl hn
 have HT : Hid (∀ w1 q, Sv lo w1 q (conS c) -> Below (w.alloc (nameO 175 c (.slice sg gs.length cg) p)).heap.size (w.alloc (nameO 175 c (.slice sg gs.length cg) p)) w1 -> w1.cell? ⟨w.heap.size, 1, none⟩ = some (.slice sg gs.length cg) /\ w1.cell? ⟨w.heap.size, 2, none⟩ = some (.int .i64 (p : Int)) /\ Calls Tryz.prog 155 #[.pointer (some ⟨q, 0, none⟩), .slice sg gs.length cg, .int .i64 (p : Int)] w1 (CkPost lo tx w (zap (conS c) gs p))) := fun w1 q hs hb => by
  have X2 := Below.sx hb hsz
  have hn2 := (hb.block w.heap.size (by simp)).trans hn
  refine ⟨by rw [Lib.cell_of_heap hn2]; rfl, by rw [Lib.cell_of_heap hn2]; rfl, ?_⟩
  exact (zmz tx (conS c) q gs _ p m w1 (Nat.le_trans hsz X2.size) ((g.sx X1).sx X2) hs (hgr.keptS X2.kept) hok hm).mono fun en w' hh => hh.trans (X1.trans X2)
 clear hgr hg hok hsz hn g X1 b1 tb
 generalize zap (conS c) gs p = R at *
 generalize conS c = sc at *
 generalize gs.length = n at *
 generalize hW : w.alloc (nameO 175 c (.slice sg n cg) p) = W at *
 go_enter Tryz.func126, Tryz.ntmps126
 go_wp2_with fail
 refine K.mono ?_
 rintro en w1 ⟨q, rfl, hs, hb⟩
 obtain ⟨d1, d2, T⟩ := HT.out w1 q hs hb
 clear hs hb HT K
 go_wp2_with fail
 refine T.mono ?_
 intro e w3 hP
 obtain ⟨x, y, rfl, hx, hy⟩ := hP.pair
 have HP : Hid (CkPost lo tx w R (.returned (.tuple #[x, y])) w3) := hP
 clear hP
 go_wp2_with fail
 go_ret2
 exact HP.out
def SaidE (lo : Nat) (tx : Nat -> Addr) (x : Ex) : Prop := ∀ (e : Env) (a : Nat) (v : Value) (w : World), 10 + lo <= w.heap.size -> Gl tx w -> Tb w -> Ar lo w a e -> Ev w x v -> EnvOk 60000 e ->
 Calls Tryz.prog 93 #[v, .pointer (some ⟨a, 0, none⟩)] w (CkPost lo tx w (chk x e))
abbrev callO (T : TypeId) (y : Value) (T' : TypeId) (z : Value) (p : Nat) : Obj := .cells #[.iface T y, .iface T' z, .int .i64 (p : Int)] 186
def callR (f y : COut) (p : Nat) : COut := match f with
 | .error r => .error r
 | .ok f => match y with
  | .error r => .error r
  | .ok y => callT f y p
theorem zhz (tx : Nat -> Addr) (p a : Nat) (T T' : TypeId) (y z : Value) (w : World) (c q : Nat) (r2 : COut)
 (h1 : Calls Tryz.prog 93 #[.iface T y, .pointer (some ⟨a, 0, none⟩)] (w.alloc (callO T y T' z p)) (CkPost lo tx w (.error (c, q)))) :
 Calls Tryz.prog 129 #[.agg #[.iface T y, .iface T' z, .int .i64 (p : Int)], .pointer (some ⟨a, 0, none⟩)] w (CkPost lo tx w (callR (.error (c, q)) r2 p)) := by
 have hn := heap_alloc_new w (callO T y T' z p)
 have d0 : (w.alloc (callO T y T' z p)).cell? ⟨w.heap.size, 0, none⟩ = some (.iface T y) := cbl hn
 have e1 : callR (.error (c, q)) r2 p = .error (c, q) := rfl
 rw [e1]
 clear e1 hn
 generalize hW : w.alloc (callO T y T' z p) = W at *
 go_enter Tryz.func129, Tryz.ntmps129
 go_wp2_with fail
 refine h1.mono ?_
 rintro en w1 ⟨X, q', rfl, hq⟩
 have HP : Hid (CkPost lo tx w (.error (c, q)) (.returned (.tuple #[.nilIface, atv q'])) w1) := ⟨X, q', rfl, hq⟩
 clear X hq h1
 go_wp2_with fail
 go_ret2
 exact HP.out
theorem zhh (tx : Nat -> Addr) (p a : Nat) (T T' : TypeId) (y z : Value) (w : World) (c q : Nat) (f : Ty)
 (h1 : Calls Tryz.prog 93 #[.iface T y, .pointer (some ⟨a, 0, none⟩)] (w.alloc (callO T y T' z p)) fun en w1 => ∃ Tf zf, en = .returned (.tuple #[.iface Tf zf, .nilIface]) /\ w1.cell? ⟨w.heap.size, 1, none⟩ = some (.iface T' z) /\
  Calls Tryz.prog 93 #[.iface T' z, .pointer (some ⟨a, 0, none⟩)] w1 (CkPost lo tx w (.error (c, q)))) :
 Calls Tryz.prog 129 #[.agg #[.iface T y, .iface T' z, .int .i64 (p : Int)], .pointer (some ⟨a, 0, none⟩)] w (CkPost lo tx w (callR (.ok f) (.error (c, q)) p)) := by
 have hn := heap_alloc_new w (callO T y T' z p)
 have d0 : (w.alloc (callO T y T' z p)).cell? ⟨w.heap.size, 0, none⟩ = some (.iface T y) := cbl hn
 have e1 : callR (.ok f) (.error (c, q)) p = .error (c, q) := rfl
 rw [e1]
 clear e1 hn
 generalize hW : w.alloc (callO T y T' z p) = W at *
 go_enter Tryz.func129, Tryz.ntmps129
 go_wp2_with fail
 refine h1.mono ?_
 rintro en w1 ⟨Tf, zf, rfl, d1, h2⟩
 clear h1
 go_wp2_with fail
 refine h2.mono ?_
 rintro en w2 ⟨X, q', rfl, hq⟩
 have HP : Hid (CkPost lo tx w (.error (c, q)) (.returned (.tuple #[.nilIface, atv q'])) w2) := ⟨X, q', rfl, hq⟩
 clear X hq h2
 go_wp2_with fail
 go_ret2
 exact HP.out
theorem call_not (tx : Nat -> Addr) (p a : Nat) (T T' : TypeId) (y z : Value) (w : World) (Q : Ending -> World -> Prop) (Tf : TypeId) (hTf : Tf ≠ 243)
 (h1 : Calls Tryz.prog 93 #[.iface T y, .pointer (some ⟨a, 0, none⟩)] (w.alloc (callO T y T' z p)) fun en w1 => ∃ zf, en = .returned (.tuple #[.iface Tf zf, .nilIface]) /\ w1.cell? ⟨w.heap.size, 1, none⟩ = some (.iface T' z) /\
  Calls Tryz.prog 93 #[.iface T' z, .pointer (some ⟨a, 0, none⟩)] w1 fun en w2 => ∃ Ts zs, en = .returned (.tuple #[.iface Ts zs, .nilIface]) /\ w2.cell? ⟨w.heap.size, 2, none⟩ = some (.int .i64 (p : Int)) /\ w2.cell? ⟨4, 0, none⟩ = some (.iface 353 (.pointer (some (tx 4)))) /\ Hid (∀ n, Q (.returned (.tuple #[.nilIface, atv w2.heap.size])) ((w2.alloc (atO tx 4 p)).drewN n))) :
 Calls Tryz.prog 129 #[.agg #[.iface T y, .iface T' z, .int .i64 (p : Int)], .pointer (some ⟨a, 0, none⟩)] w Q := by
 have hn := heap_alloc_new w (callO T y T' z p)
 have d0 : (w.alloc (callO T y T' z p)).cell? ⟨w.heap.size, 0, none⟩ = some (.iface T y) := cbl hn
 clear hn
 generalize hW : w.alloc (callO T y T' z p) = W at *
 go_enter Tryz.func129, Tryz.ntmps129
 go_wp2_with fail
 refine h1.mono ?_
 rintro en w1 ⟨zf, rfl, d1, h2⟩
 clear h1
 go_wp2_with fail
 refine h2.mono ?_
 rintro en w2 ⟨Ts, zs, rfl, PP⟩
 clear h2
 clear d0 d1 hW
 obtain ⟨d2, g4, HQ⟩ := PP
 have hT1 := zbx (T := Tf) zf hTf
 go_wp2_with fail
 go_region
 all_goals
  go_wp2_with fail
  exact HQ.out _
theorem call_fn (tx : Nat -> Addr) (p a : Nat) (T T' : TypeId) (y z : Value) (w : World) (Q : Ending -> World -> Prop)
 (h1 : Calls Tryz.prog 93 #[.iface T y, .pointer (some ⟨a, 0, none⟩)] (w.alloc (callO T y T' z p)) fun en w1 => ∃ q, en = .returned (.tuple #[viF q, .nilIface]) /\ w1.cell? ⟨w.heap.size, 1, none⟩ = some (.iface T' z) /\
  Calls Tryz.prog 93 #[.iface T' z, .pointer (some ⟨a, 0, none⟩)] w1 fun en w2 => ∃ Ts zs, en = .returned (.tuple #[.iface Ts zs, .nilIface]) /\ ∃ x x', w2.cell? ⟨q, 0, none⟩ = some x /\ (∃ Tx zx, x = .iface Tx zx) /\ Calls Tryz.prog 162 #[x, .iface Ts zs] w2 fun en w3 => ∃ r : Bool, en = .returned (.bool r) /\ (r = false -> w3.cell? ⟨w.heap.size, 2, none⟩ = some (.int .i64 (p : Int)) /\ w3.cell? ⟨4, 0, none⟩ = some (.iface 353 (.pointer (some (tx 4)))) /\ Hid (∀ n, Q (.returned (.tuple #[.nilIface, atv w3.heap.size])) ((w3.alloc (atO tx 4 p)).drewN n))) /\ (r = true -> w3.cell? ⟨q, 1, none⟩ = some x' /\ (∃ Tx zx, x' = .iface Tx zx) /\ Hid (Q (.returned (.tuple #[x', .nilIface])) w3))) :
 Calls Tryz.prog 129 #[.agg #[.iface T y, .iface T' z, .int .i64 (p : Int)], .pointer (some ⟨a, 0, none⟩)] w Q := by
 have hn := heap_alloc_new w (callO T y T' z p)
 have d0 : (w.alloc (callO T y T' z p)).cell? ⟨w.heap.size, 0, none⟩ = some (.iface T y) := cbl hn
 clear hn
 generalize hW : w.alloc (callO T y T' z p) = W at *
 go_enter Tryz.func129, Tryz.ntmps129
 go_wp2_with fail
 refine h1.mono ?_
 rintro en w1 ⟨q, rfl, d1, h2⟩
 clear h1
 go_wp2_with fail
 refine h2.mono ?_
 rintro en w2 ⟨Ts, zs, rfl, PP⟩
 clear h2
 clear d0 d1 hW
 obtain ⟨x, x', c0, ⟨Tx, zx, rfl⟩, S⟩ := PP
 have hT1 := zbk (.pointer (some ⟨q, 0, none⟩))
 go_wp2_with fail
 refine S.mono ?_
 rintro en w3 ⟨r, rfl, H1, H2⟩
 cases r
 · obtain ⟨d2, g4, HQ⟩ := H1 rfl
   clear H1 H2 S
   go_wp2_with fail
   go_region
   all_goals
    go_wp2_with fail
    exact HQ.out _
 · obtain ⟨c1, ⟨Tx', zx', rfl⟩, HQ⟩ := H2 rfl
   clear H1 H2 S
   go_wp2_with fail
   exact HQ.out
theorem callT_not {f y : Ty} {p : Nat} (h : ∀ a b, f ≠ tF a b) (hf : Ok f) : callT f y p = .error (5, p) := by
 rcases hf.cases with rfl | rfl | ⟨o, _, _, rfl⟩ | ⟨a, ha, rfl⟩ | ⟨a, b, ha, hb, rfl⟩ | ⟨a, b, ha, hb, rfl⟩
 · rfl
 · rfl
 · rfl
 · rfl
 · rfl
 · exact absurd rfl (h a b)
theorem ok_fn {a b : Ty} (h : Ok (tF a b)) : Ok a /\ Ok b := by
 rcases h with ⟨e, _⟩ | ⟨e, _⟩ | ⟨e, _⟩ | ⟨e, _⟩ | ⟨e, _⟩ | ⟨_, _, h1, h2⟩ <;> first | cases e | exact ⟨h1, h2⟩
def tyId : Ty -> TypeId
 | .nil => 0
 | .node g _ _ _ _ => if g = 0 then 255 else if g = 1 then 254 else if g = 2 then 263 else if g = 3 then 256 else 259
theorem tyId_not (f : Ty) : tyId f ≠ 243 := by
 cases f with
 | nil => decide
 | node g o u a b => unfold tyId; repeat' split
                     all_goals decide
theorem not_fn_type {w : World} {f : Ty} {v : Value} (h : ∀ a b, f ≠ tF a b) (hf : Ok f) (hv : Tv w f v) : ∃ z, v = .iface (tyId f) z := by
 rcases hf.cases with rfl | rfl | ⟨o, _, _, rfl⟩ | ⟨a, ha, rfl⟩ | ⟨a, b, ha, hb, rfl⟩ | ⟨a, b, ha, hb, rfl⟩
 · exact ⟨_, hv.isI⟩
 · exact ⟨_, hv.isB⟩
 · exact ⟨_, hv.isV⟩
 · obtain ⟨q, x, rfl, _⟩ := hv.isL; exact ⟨_, rfl⟩
 · obtain ⟨q, x, y, rfl, _⟩ := hv.isP; exact ⟨_, rfl⟩
 · exact absurd rfl (h a b)
theorem zkm (tx : Nat -> Addr) (m : Nat) (hm : m <= 60000) (xa xb : Ex) (p a : Nat) (T T' : TypeId) (y z : Value) (e : Env) (w : World) (ha : SaidE lo tx xa) (hb : SaidE lo tx xb) (oka : EOk true m xa) (okb : EOk true m xb)
 (h11 : 10 + lo <= w.heap.size) (g : Gl tx w) (tb : Tb w) (h : Ar lo w a e) (he : EnvOk 60000 e) (hva : Ev w xa (.iface T y)) (hvb : Ev w xb (.iface T' z)) :
 Calls Tryz.prog 129 #[.agg #[.iface T y, .iface T' z, .int .i64 (p : Int)], .pointer (some ⟨a, 0, none⟩)] w (CkPost lo tx w (callR (chk xa e) (chk xb e) p)) := by
 have b1 : Below w.heap.size w (w.alloc (callO T y T' z p)) := bal w _
 have X1 := Below.sx b1 h11
 have hsz : 10 + lo <= (w.alloc (callO T y T' z p)).heap.size := Nat.le_trans h11 b1.size
 have hn := heap_alloc_new w (callO T y T' z p)
 have A := ha e a (.iface T y) _ hsz (g.sx X1) (tb.sx X1) (h.sx X1) (Ev.keptS X1.kept _ _ hva) he
 have B : ∀ w1, Sx lo (w.alloc (callO T y T' z p)) w1 -> Calls Tryz.prog 93 #[.iface T' z, .pointer (some ⟨a, 0, none⟩)] w1 (CkPost lo tx w1 (chk xb e)) := fun w1 X =>
  hb e a (.iface T' z) w1 (Nat.le_trans hsz X.size) ((g.sx X1).sx X) ((tb.sx X1).sx X) ((h.sx X1).sx X) (Ev.keptS (X1.trans X).kept _ _ hvb) he
 cases hca : chk xa e with
 | error r =>
  obtain ⟨c, q⟩ := r
  rw [hca] at A
  exact zhz tx p a T T' y z w c q _ (A.mono fun en w' hh => hh.trans X1)
 | ok f =>
  rw [hca] at A
  have of := (zfl hm xa e f oka he hca).1
  cases hcb : chk xb e with
  | error r =>
   obtain ⟨c, q⟩ := r
   refine zhh tx p a T T' y z w c q f (A.mono ?_)
   rintro en w1 ⟨X, x, rfl, hx⟩
   obtain ⟨Tf, zf, rfl⟩ := hx.iface
   have hn1 := X.kept _ _ _ _ (by decide) hn
   refine ⟨Tf, zf, rfl, by rw [Lib.cell_of_heap hn1]; rfl, ?_⟩
   have := B w1 X
   rw [hcb] at this
   exact this.mono fun en w' hh => hh.trans (X1.trans X)
  | ok u =>
   have ou := (zfl hm xb e u okb he hcb).1
   have B' : ∀ w1, Sx lo (w.alloc (callO T y T' z p)) w1 -> Calls Tryz.prog 93 #[.iface T' z, .pointer (some ⟨a, 0, none⟩)] w1 (CkPost lo tx w1 (.ok u)) := fun w1 X => hcb ▸ B w1 X
   show Calls _ _ _ _ (CkPost lo tx w (callT f u p))
   by_cases hF : ∃ a' b', f = tF a' b'
   · obtain ⟨f1, f2, rfl⟩ := hF
     refine call_fn tx p a T T' y z w _ (A.mono ?_)
     rintro en w1 ⟨X, x, rfl, hx⟩
     obtain ⟨q, v1, v2, rfl, hq, hv1, hv2⟩ := hx.isF
     have hn1 := X.kept _ _ _ _ (by decide) hn
     refine ⟨q, rfl, by rw [Lib.cell_of_heap hn1]; rfl, (B' w1 X).mono ?_⟩
     rintro en w2 ⟨X2, xs, rfl, hxs⟩
     obtain ⟨Ts, zs, rfl⟩ := hxs.iface
     have hq2 := X2.kept _ _ _ _ (by decide) hq
     have hn2 := X2.kept _ _ _ _ (by decide) hn1
     obtain ⟨o1, o2⟩ := ok_fn of
     have i1 := hv1.iface
     have i2 := hv2.iface
     refine ⟨Ts, zs, rfl, v1, v2, by rw [Lib.cell_of_heap hq2]; rfl, i1, ?_⟩
     have Z2 := X1.trans (X.trans X2)
     refine (same_any f1 u v1 _ w2 o1 ou (hv1.keptS X2.kept) hxs).mono ?_
     rintro en w3 ⟨rfl, hb3⟩
     have s2 : 10 + lo <= w2.heap.size := Nat.le_trans h11 Z2.size
     have X3 := Below.sx hb3 s2
     have hq3 := X3.kept _ _ _ _ (by decide) hq2
     have hn3 := X3.kept _ _ _ _ (by decide) hn2
     have Z3 := Z2.trans X3
     refine ⟨eqT f1 u, rfl, fun hr => ?_, fun hr => ?_⟩
     · have hc : callT (tF f1 f2) u p = .error (5, p) := by simp [callT, tF, hr]
       refine ⟨by rw [Lib.cell_of_heap hn3]; rfl, (g.sx Z3).errs 4 (by decide), fun n => ?_⟩
       rw [hc]
       exact zpc (c := 5) Z3 (Nat.le_trans h11 Z3.size) n
     · have hc : callT (tF f1 f2) u p = .ok f2 := by simp [callT, tF, hr]
       refine ⟨by rw [Lib.cell_of_heap hq3]; rfl, i2, ?_⟩
       rw [hc]
       exact ⟨Z3, _, rfl, (hv2.keptS X2.kept).keptS X3.kept⟩
   · have hF' : ∀ a b, f ≠ tF a b := fun a b h => hF ⟨a, b, h⟩
     rw [callT_not hF' of]
     refine call_not tx p a T T' y z w _ (tyId f) (tyId_not f) (A.mono ?_)
     rintro en w1 ⟨X, x, rfl, hx⟩
     obtain ⟨zf, rfl⟩ := not_fn_type hF' of hx
     have hn1 := X.kept _ _ _ _ (by decide) hn
     refine ⟨zf, rfl, by rw [Lib.cell_of_heap hn1]; rfl, (B' w1 X).mono ?_⟩
     rintro en w2 ⟨X2, xs, rfl, hxs⟩
     obtain ⟨Ts, zs, rfl⟩ := hxs.iface
     have hn2 := X2.kept _ _ _ _ (by decide) hn1
     have Z2 := X1.trans (X.trans X2)
     exact ⟨Ts, zs, rfl, by rw [Lib.cell_of_heap hn2]; rfl, (g.sx Z2).errs 4 (by decide), fun n => zpc (c := 5) Z2 (Nat.le_trans h11 Z2.size) n⟩
abbrev funO (c : Int) (Tf : TypeId) (zf : Value) (T : TypeId) (y : Value) (p : Int) : Obj := .cells #[.int .u8 c, .iface Tf zf, .iface T y, .int .i64 p] 179
def FBox (n : Nat) (c : Int) (Tf : TypeId) (zf : Value) (T : TypeId) (y : Value) (p : Int) (wq : World) : Prop :=
 wq.cell? ⟨n, 0, none⟩ = some (.int .u8 c) /\ wq.cell? ⟨n, 1, none⟩ = some (.iface Tf zf) /\ wq.cell? ⟨n, 2, none⟩ = some (.iface T y) /\ wq.cell? ⟨n, 3, none⟩ = some (.int .i64 p)
theorem fun_err (a : Nat) (c p : Int) (Tf T : TypeId) (zf y : Value) (w : World) (Q : Ending -> World -> Prop)
 (NW : Calls Tryz.prog 158 #[.iface Tf zf, .slice none 0 0] (w.alloc (funO c Tf zf T y p)).drew fun en w1 => ∃ b, en = .returned (.pointer (some ⟨b, 0, none⟩)) /\ FBox w.heap.size c Tf zf T y p w1 /\
  Calls Tryz.prog 157 #[.pointer (some ⟨a, 0, none⟩), .int .u8 c, .pointer (some ⟨b, 0, none⟩)] w1 fun en w2 => ∃ a', en = .returned (.pointer (some ⟨a', 0, none⟩)) /\ FBox w.heap.size c Tf zf T y p w2 /\
  Calls Tryz.prog 93 #[.iface T y, .pointer (some ⟨a', 0, none⟩)] w2 fun en w3 => ∃ q, en = .returned (.tuple #[.nilIface, atv q]) /\ FBox w.heap.size c Tf zf T y p w3 /\ Hid (Q (.returned (.tuple #[.nilIface, atv q])) w3)) :
 Calls Tryz.prog 127 #[.agg #[.int .u8 c, .iface Tf zf, .iface T y, .int .i64 p], .pointer (some ⟨a, 0, none⟩)] w Q := by
 have hn := heap_alloc_new w (funO c Tf zf T y p)
 have s0 : FBox w.heap.size c Tf zf T y p (w.alloc (funO c Tf zf T y p)) := ⟨by rw [Lib.cell_of_heap hn]; rfl, by rw [Lib.cell_of_heap hn]; rfl, by rw [Lib.cell_of_heap hn]; rfl, by rw [Lib.cell_of_heap hn]; rfl⟩
 clear hn
 unfold FBox at *
 generalize hW : w.alloc (funO c Tf zf T y p) = W at *
 go_enter Tryz.func127, Tryz.ntmps127
 go_wp2_with fail
 refine wp_region_held_drew (S := (fun wq => wq.cell? ⟨w.heap.size, 0, none⟩ = some (.int .u8 c) /\ wq.cell? ⟨w.heap.size, 1, none⟩ = some (.iface Tf zf) /\ wq.cell? ⟨w.heap.size, 2, none⟩ = some (.iface T y) /\ wq.cell? ⟨w.heap.size, 3, none⟩ = some (.int .i64 p))) (by kernel_rfl) (s0) (fun hS => ?_)
 refine tkS 0 (.pointer (some ⟨w.heap.size, 2, none⟩)) hS ?_
 refine tkL 1 (.iface T y) hS ?_
 refine tkS 2 (.pointer (some ⟨a, 0, none⟩)) hS ?_
 refine tkS 3 (.pointer (some ⟨w.heap.size, 0, none⟩)) hS ?_
 refine tkL 4 (.int .u8 c) hS ?_
 refine tkS 5 (.pointer (some ⟨w.heap.size, 1, none⟩)) hS ?_
 refine tkL 6 (.iface Tf zf) hS ?_
 refine rd1 7 (fun KK hK => ?_)
 (try simp only [List.getElem_toArray, List.getElem_cons_succ, List.getElem_cons_zero])
 go_simp
 go_at_call 158
 refine (NW).mono ?_
 rintro en w1 ⟨b, rfl, s1, WT⟩
 (try dsimp only)
 refine hK.out _ _ s1 (fun hS => nrm ?_)
 refine rd1 8 (fun KK hK => ?_)
 (try simp only [List.getElem_toArray, List.getElem_cons_succ, List.getElem_cons_zero])
 go_simp
 go_at_call 157
 refine (WT).mono ?_
 rintro en w2 ⟨a', rfl, s2, TY⟩
 (try dsimp only)
 refine hK.out _ _ s2 (fun hS => nrm ?_)
 refine rd1 9 (fun KK hK => ?_)
 (try simp only [List.getElem_toArray, List.getElem_cons_succ, List.getElem_cons_zero])
 go_simp
 go_at_call 93
 refine (TY).mono ?_
 rintro en w3 ⟨q, rfl, s3, HQ⟩
 (try dsimp only)
 refine hK.out _ _ s3 (fun hS => nrm ?_)
 refine tkS 10 (.tuple #[.nilIface, atv q]) hS ?_
 refine tkS 11 (.nilIface) hS ?_
 refine tkS 12 (atv q) hS ?_
 refine tkS 13 (.nilIface) hS ?_
 refine tkS 14 (atv q) hS ?_
 refine wpAnyH_done (by kernel_rfl) ?_ _
 go_wp2_with fail
 exact HQ.out
theorem fun_ok (a : Nat) (c p : Int) (Tf T : TypeId) (zf y : Value) (w : World) (Q : Ending -> World -> Prop)
 (NW : Calls Tryz.prog 158 #[.iface Tf zf, .slice none 0 0] (w.alloc (funO c Tf zf T y p)).drew fun en w1 => ∃ b, en = .returned (.pointer (some ⟨b, 0, none⟩)) /\ FBox w.heap.size c Tf zf T y p w1 /\
  Calls Tryz.prog 157 #[.pointer (some ⟨a, 0, none⟩), .int .u8 c, .pointer (some ⟨b, 0, none⟩)] w1 fun en w2 => ∃ a', en = .returned (.pointer (some ⟨a', 0, none⟩)) /\ FBox w.heap.size c Tf zf T y p w2 /\
  Calls Tryz.prog 93 #[.iface T y, .pointer (some ⟨a', 0, none⟩)] w2 fun en w3 => ∃ Tx zx, en = .returned (.tuple #[.iface Tx zx, .nilIface]) /\ FBox w.heap.size c Tf zf T y p w3 /\
  Calls Tryz.prog 160 #[.iface Tf zf, .iface Tx zx] w3.drew fun en w4 => ∃ q, en = .returned (.pointer (some ⟨q, 0, none⟩)) /\ FBox w.heap.size c Tf zf T y p w4 /\
  Calls Tryz.prog 159 #[viF q, .int .i64 p] w4 fun en w5 => ∃ r1 r2, en = .returned (.tuple #[r1, r2]) /\ FBox w.heap.size c Tf zf T y p w5 /\ Hid (Q (.returned (.tuple #[r1, r2])) w5)) :
 Calls Tryz.prog 127 #[.agg #[.int .u8 c, .iface Tf zf, .iface T y, .int .i64 p], .pointer (some ⟨a, 0, none⟩)] w Q := by
 have hn := heap_alloc_new w (funO c Tf zf T y p)
 have s0 : FBox w.heap.size c Tf zf T y p (w.alloc (funO c Tf zf T y p)) := ⟨by rw [Lib.cell_of_heap hn]; rfl, by rw [Lib.cell_of_heap hn]; rfl, by rw [Lib.cell_of_heap hn]; rfl, by rw [Lib.cell_of_heap hn]; rfl⟩
 clear hn
 unfold FBox at *
 generalize hW : w.alloc (funO c Tf zf T y p) = W at *
 go_enter Tryz.func127, Tryz.ntmps127
 go_wp2_with fail
 refine wp_region_held_drew (S := (fun wq => wq.cell? ⟨w.heap.size, 0, none⟩ = some (.int .u8 c) /\ wq.cell? ⟨w.heap.size, 1, none⟩ = some (.iface Tf zf) /\ wq.cell? ⟨w.heap.size, 2, none⟩ = some (.iface T y) /\ wq.cell? ⟨w.heap.size, 3, none⟩ = some (.int .i64 p))) (by kernel_rfl) (s0) (fun hS => ?_)
 refine tkS 0 (.pointer (some ⟨w.heap.size, 2, none⟩)) hS ?_
 refine tkL 1 (.iface T y) hS ?_
 refine tkS 2 (.pointer (some ⟨a, 0, none⟩)) hS ?_
 refine tkS 3 (.pointer (some ⟨w.heap.size, 0, none⟩)) hS ?_
 refine tkL 4 (.int .u8 c) hS ?_
 refine tkS 5 (.pointer (some ⟨w.heap.size, 1, none⟩)) hS ?_
 refine tkL 6 (.iface Tf zf) hS ?_
 refine rd1 7 (fun KK hK => ?_)
 (try simp only [List.getElem_toArray, List.getElem_cons_succ, List.getElem_cons_zero])
 go_simp
 go_at_call 158
 refine (NW).mono ?_
 rintro en w1 ⟨b, rfl, s1, WT⟩
 (try dsimp only)
 refine hK.out _ _ s1 (fun hS => nrm ?_)
 refine rd1 8 (fun KK hK => ?_)
 (try simp only [List.getElem_toArray, List.getElem_cons_succ, List.getElem_cons_zero])
 go_simp
 go_at_call 157
 refine (WT).mono ?_
 rintro en w2 ⟨a', rfl, s2, TY⟩
 (try dsimp only)
 refine hK.out _ _ s2 (fun hS => nrm ?_)
 refine rd1 9 (fun KK hK => ?_)
 (try simp only [List.getElem_toArray, List.getElem_cons_succ, List.getElem_cons_zero])
 go_simp
 go_at_call 93
 refine (TY).mono ?_
 rintro en w3 ⟨Tx, zx, rfl, s3, NF⟩
 (try dsimp only)
 refine hK.out _ _ s3 (fun hS => nrm ?_)
 refine tkS 10 (.tuple #[.iface Tx zx, .nilIface]) hS ?_
 refine tkS 11 (.iface Tx zx) hS ?_
 refine tkS 12 (.nilIface) hS ?_
 refine tkS 13 (.iface Tx zx) hS ?_
 refine tkS 14 (.nilIface) hS ?_
 refine wpAnyH_done (by kernel_rfl) ?_ _
 go_wp2_with fail
 refine wp_region_held_drew (S := (fun wq => wq.cell? ⟨w.heap.size, 0, none⟩ = some (.int .u8 c) /\ wq.cell? ⟨w.heap.size, 1, none⟩ = some (.iface Tf zf) /\ wq.cell? ⟨w.heap.size, 2, none⟩ = some (.iface T y) /\ wq.cell? ⟨w.heap.size, 3, none⟩ = some (.int .i64 p))) (by kernel_rfl) (s3) (fun hS => ?_)
 refine tkS 0 (.pointer (some ⟨w.heap.size, 1, none⟩)) hS ?_
 refine tkL 1 (.iface Tf zf) hS ?_
 refine tkS 2 (.iface Tx zx) hS ?_
 refine tkS 5 (.pointer (some ⟨w.heap.size, 3, none⟩)) hS ?_
 refine tkL 6 (.int .i64 p) hS ?_
 refine rd1 3 (fun KK hK => ?_)
 (try simp only [List.getElem_toArray, List.getElem_cons_succ, List.getElem_cons_zero])
 go_simp
 go_at_call 160
 refine (NF).mono ?_
 rintro en w4 ⟨q, rfl, s4, NB⟩
 (try dsimp only)
 refine hK.out _ _ s4 (fun hS => nrm ?_)
 refine tkS 4 (viF q) hS ?_
 refine rd1 7 (fun KK hK => ?_)
 (try simp only [List.getElem_toArray, List.getElem_cons_succ, List.getElem_cons_zero])
 go_simp
 go_at_call 159
 refine (NB).mono ?_
 rintro en w5 ⟨r1, r2, rfl, s5, HQ⟩
 (try dsimp only)
 refine hK.out _ _ s5 (fun hS => nrm ?_)
 refine tkS 8 r1 hS ?_
 refine tkS 9 r2 hS ?_
 refine tkS 10 r1 hS ?_
 refine tkS 11 r2 hS ?_
 refine wpAnyH_done (by kernel_rfl) ?_ _
 go_wp2_with fail
 exact HQ.out
theorem fbox {n : Nat} {c p : Int} {Tf T : TypeId} {zf y : Value} {w : World} (hn : w.heap[n]? = some (funO c Tf zf T y p)) : FBox n c Tf zf T y p w :=
 ⟨by rw [Lib.cell_of_heap hn]; rfl, by rw [Lib.cell_of_heap hn]; rfl, by rw [Lib.cell_of_heap hn]; rfl, by rw [Lib.cell_of_heap hn]; rfl⟩
theorem VarRow.empty (w : World) : VarRow w (.slice none 0 0) [] := ⟨none, 0, rfl, .inl rfl⟩
theorem Sx.drew0 (w : World) : Sx lo w w.drew := (Sx.refl w).drewN 1
def funR (u : Ty) (r : COut) (p : Nat) : COut := match r with
 | .error r => .error r
 | .ok t => if 50000 < sz (tF u t) then .error (8, p) else .ok (tF u t)
theorem zgy (tx : Nat -> Addr) (m : Nat) (hm : m <= 60000) (xa : Ex) (c p a : Nat) (T : TypeId) (y F : Value) (u : Ty) (e : Env) (w : World) (ha : SaidE lo tx xa) (oka : EOk true m xa) (hc : isLet c = true)
 (h11 : 10 + lo <= w.heap.size) (g : Gl tx w) (tb : Tb w) (h : Ar lo w a e) (he : EnvOk 60000 e) (hva : Ev w xa (.iface T y)) (hF : Tv w u F) (hu : Ok u) (hus : sz u <= m) :
 Calls Tryz.prog 127 #[.agg #[.int .u8 (c : Int), F, .iface T y, .int .i64 (p : Int)], .pointer (some ⟨a, 0, none⟩)] w (CkPost lo tx w (funR u (chk xa (zbo e c (u, []))) p)) := by
 obtain ⟨Tf, zf, rfl⟩ := hF.iface
 have b1 : Below w.heap.size w (w.alloc (funO (c : Int) Tf zf T y (p : Int))) := bal w _
 have X1 := (Below.sx b1 h11).trans (Sx.drew0 _)
 have hn : (w.alloc (funO (c : Int) Tf zf T y (p : Int))).drew.heap[w.heap.size]? = some (funO (c : Int) Tf zf T y (p : Int)) := heap_alloc_new w _
 generalize hW : (w.alloc (funO (c : Int) Tf zf T y (p : Int))).drew = W at *
 have s1 : 10 + lo <= W.heap.size := Nat.le_trans h11 X1.size
 have so : SOk (u, []) := ⟨hu, Nat.le_trans hus (by omega), by simp, by simp⟩
 have hSv := Sv.new (V := .slice none 0 0) s1 so (hF.keptS X1.kept) (VarRow.empty W)
 have b2 : Below W.heap.size W (W.alloc (schO (.iface Tf zf) (.slice none 0 0) (.pointer none) (.slice none 0 0) .nilIface)) := bal W _
 have X2 := Below.sx b2 s1
 have N := zhi (.iface Tf zf) (.slice none 0 0) W Tf zf none 0 0 rfl rfl
 have he2 := he.set (c := c) (s := (u, [])) hu (Nat.le_trans hus hm)
 generalize hW1 : W.alloc (schO (.iface Tf zf) (.slice none 0 0) (.pointer none) (.slice none 0 0) .nilIface) = W1 at *
 have s2 : 10 + lo <= W1.heap.size := Nat.le_trans s1 X2.size
 have hn1 := X2.kept _ _ _ _ (by decide) hn
 have I := with_any a c W.heap.size e (u, []) W1 s2 ((h.sx X1).sx X2) hSv (zhk hc)
 have Y2 := X1.trans X2
 have Ty : ∀ w2 a', Ar lo w2 a' (zbo e c (u, [])) -> Sx lo W1 w2 -> Calls Tryz.prog 93 #[.iface T y, .pointer (some ⟨a', 0, none⟩)] w2 (CkPost lo tx w2 (chk xa (zbo e c (u, [])))) := fun w2 a' har X =>
  ha _ a' _ w2 (Nat.le_trans s2 X.size) ((g.sx Y2).sx X) ((tb.sx Y2).sx X) har (Ev.keptS (Y2.trans X).kept _ _ hva) he2
 cases hca : chk xa (zbo e c (u, [])) with
 | error r =>
  obtain ⟨k, q⟩ := r
  refine fun_err a c p Tf T zf y w _ ?_
  rw [hW]
  refine N.mono ?_
  rintro en w1 ⟨rfl, rfl⟩
  refine ⟨_, rfl, fbox hn1, I.mono ?_⟩
  rintro en w2 ⟨a', rfl, har, hb2⟩
  have X3 := Below.sx hb2 s2
  have hn2 := X3.kept _ _ _ _ (by decide) hn1
  have Z := Ty w2 a' har X3
  rw [hca] at Z
  refine ⟨a', rfl, fbox hn2, Z.mono ?_⟩
  rintro en w3 ⟨X4, q', rfl, hq⟩
  exact ⟨q', rfl, fbox (X4.kept _ _ _ _ (by decide) hn2), Y2.trans (X3.trans X4), q', rfl, hq⟩
 | ok t =>
  have ot := zfl hm xa _ t oka he2 hca
  refine fun_ok a c p Tf T zf y w _ ?_
  rw [hW]
  refine N.mono ?_
  rintro en w1 ⟨rfl, rfl⟩
  refine ⟨_, rfl, fbox hn1, I.mono ?_⟩
  rintro en w2 ⟨a', rfl, har, hb2⟩
  have X3 := Below.sx hb2 s2
  have hn2 := X3.kept _ _ _ _ (by decide) hn1
  have Z := Ty w2 a' har X3
  rw [hca] at Z
  refine ⟨a', rfl, fbox hn2, Z.mono ?_⟩
  rintro en w3 ⟨X4, x, rfl, hx⟩
  obtain ⟨Tx, zx, rfl⟩ := hx.iface
  have hn3 := X4.kept _ _ _ _ (by decide) hn2
  have Z3 := (Y2.trans (X3.trans X4)).trans (Sx.drew0 w3)
  refine ⟨Tx, zx, rfl, fbox hn3, ?_⟩
  have hn3' : w3.drew.heap[w.heap.size]? = some (funO (c : Int) Tf zf T y (p : Int)) := hn3
  have hx' : Tv w3.drew t (.iface Tx zx) := hx.drewN 1
  have s3 : 10 + lo <= w3.drew.heap.size := Nat.le_trans h11 Z3.size
  refine (zfa u t _ _ w3.drew hu (hF.keptS Z3.kept) ot.1 hx' (by omega)).mono ?_
  rintro en w4 ⟨q, rfl, hq, hb4⟩
  have X5 := Below.sx hb4 s3
  have hn4 := X5.kept _ _ _ _ (by decide) hn3'
  have Z4 := Z3.trans X5
  refine ⟨q, rfl, fbox hn4, ?_⟩
  refine (zha tx (tF u t) (viF q) p w4 (Nat.le_trans h11 Z4.size) (g.sx Z4) (okF hu ot.1) hq (by simp [sz, tF]; omega)).mono ?_
  intro en w5 hP
  obtain ⟨x, y', rfl, _, _⟩ := hP.pair
  refine ⟨x, y', rfl, fbox (hP.1.kept _ _ _ _ (by decide) hn4), ?_⟩
  exact hP.trans Z4
def Off (lo : Nat) (w wr : World) (x : Nat) : Prop := ∀ (b : Nat) (s : Sch) (ov V fx G tk : Value), Sv lo w b s -> wr.heap[b]? = some (schO ov V fx G tk) -> fx ≠ .pointer (some ⟨x, 0, none⟩)
theorem Off.new (w : World) (o : Obj) : Off lo w (w.alloc o) w.heap.size := by
 intro b s ov V fx G tk hs hq
 have hlt := hs.lt
 obtain ⟨_, _, ov', V', fx', G', tk', h2, _, _, h5, _⟩ := hs
 rw [Lib.alloc_old _ _ _ hlt, h2] at hq
 obtain ⟨rfl, rfl, rfl, rfl, rfl⟩ := zgu hq
 rcases h5 with rfl | ⟨g, m, rfl, hB, _⟩
 · simp
 · intro he
   have := hB.lt
   simp only [Value.pointer.injEq, Option.some.injEq, Addr.mk.injEq, and_true] at he
   omega
theorem Off.sx {w wr wr' : World} {x : Nat} (h : Off lo w wr x) (X : Sx lo w wr) (X' : Sx lo wr wr') (hx : x < wr.heap.size) : Off lo w wr' x := by
 intro b s ov V fx G tk hs hq
 obtain ⟨_, _, ov', V', fx', G', tk', h2, _⟩ := X.sch b s hs
 obtain ⟨fx2, G2, tk2, h3, h4⟩ := X'.same b ov' V' fx' G' tk' h2
 rw [h3] at hq
 obtain ⟨rfl, rfl, rfl, rfl, rfl⟩ := zgu hq
 exact h4 x hx (h b s _ _ _ _ _ hs h2)
theorem Sx.part {w wr wr' : World} {x : Nat} (X : Sx lo w wr) (hos : wr'.os = wr.os) (htp : wr'.tape = wr.tape) (hout : wr'.output = wr.output) (hsz : wr.heap.size <= wr'.heap.size)
 (hP : ∀ q, q < wr.heap.size -> q ≠ x -> wr'.heap[q]? = wr.heap[q]?) (hx : w.heap.size <= x) (h11 : 10 + lo <= w.heap.size)
 (hT : ∀ (c : Array Value) (T : TypeId) (fz : Nat × Nat), wr.heap[x]? = some (.cells c T fz) -> (T = 304 /\ Off lo w wr x) \/ T = 263) : Sx lo w wr' := by
 have hK : KeptS w wr' := fun q c T fz hTn hq => by
  have h1 := X.kept q c T fz hTn hq
  have := (Array.getElem?_eq_some_iff.1 hq).1
  rw [hP q (Array.getElem?_eq_some_iff.1 h1).1 (by omega)]; exact h1
 have hO : ∀ (q : Nat) (c : Array Value) (T : TypeId) (fz : Nat × Nat), T ≠ 304 -> T ≠ 263 -> wr.heap[q]? = some (.cells c T fz) -> wr'.heap[q]? = some (.cells c T fz) := fun q c T fz n1 n2 hq => by
  rw [hP q (Array.getElem?_eq_some_iff.1 hq).1 ?_]
  · exact hq
  · rintro rfl
    rcases hT c T fz hq with ⟨h, _⟩ | h
    · exact n1 h
    · exact n2 h
 have hN : KeptN wr wr' := fun q c T hTT hq => hO q c T _ (by rcases hTT with rfl | rfl | rfl <;> decide) (by rcases hTT with rfl | rfl | rfl <;> decide) hq
 refine ⟨hos.trans X.os, htp.trans X.tape, hout.trans X.output, Nat.le_trans X.size hsz, fun q hq => ?_, hK, fun q c T hq => ?_, fun b s hs => ?_, fun b ov V fx G tk hq => ?_⟩
 · have := X.size
   rw [hP q (by omega) (by omega)]; exact X.low q hq
 · obtain ⟨c', h'⟩ := X.any q c T hq
   have := (Array.getElem?_eq_some_iff.1 hq).1
   exact ⟨c', by rw [hP q (Array.getElem?_eq_some_iff.1 h').1 (by omega)]; exact h'⟩
 · have hlt := hs.lt
   obtain ⟨a0, a1, ov, V, fx0, G0, tk0, a2, a3, a4, _⟩ := id hs
   obtain ⟨fx', G', tk', k2, _⟩ := X.same b ov V fx0 G0 tk0 a2
   obtain ⟨_, _, ov2, V2, fx2, G2, tk2, h2, h3, h4, h5, h6, h7⟩ := X.sch b s hs
   have h2' := h2
   rw [k2] at h2
   obtain ⟨rfl, rfl, rfl, rfl, rfl⟩ := zgu h2
   refine ⟨a0, a1, ov, V, fx', G', tk', by rw [hP b (Nat.lt_of_lt_of_le hlt X.size) (by omega)]; exact k2, a3.keptS hK, a4.keptS hK, ?_, h6, ?_⟩
   · rcases h5 with h5 | ⟨g, m, rfl, hB, hm⟩
     · exact .inl h5
     · have hgx : g ≠ x := by
        rintro rfl
        obtain ⟨⟨c, hc, _⟩, _⟩ := hB
        rcases hT c _ _ hc with ⟨_, ho⟩ | h
        · exact ho b s _ _ _ _ _ hs h2' rfl
        · exact absurd h (by decide)
       exact .inr ⟨g, m, rfl, hB.of (hP g hB.lt hgx), hm⟩
   · rcases h7 with h7 | ⟨gs, t1, t2, t3⟩
     · exact .inl h7
     · refine .inr ⟨gs, ?_, t2, Tv.keptN hN _ _ t3⟩
       obtain ⟨sa, cap, rfl, t1⟩ := t1
       refine ⟨sa, cap, rfl, ?_⟩
       rcases t1 with t1 | ⟨g, c, rfl, hg, hc⟩
       · exact .inl t1
       · refine .inr ⟨g, c, rfl, hO g c _ _ (by decide) (by decide) hg, fun j t hj => ?_⟩
         obtain ⟨v, v1, v2, v3⟩ := hc j t hj
         exact ⟨v, v1, v2, Tv.keptN hN _ _ v3⟩
 · obtain ⟨fx', G', tk', k2, kn⟩ := X.same b ov V fx G tk hq
   have := (Array.getElem?_eq_some_iff.1 hq).1
   exact ⟨fx', G', tk', by rw [hP b (Array.getElem?_eq_some_iff.1 k2).1 (by omega)]; exact k2, kn⟩
theorem Off.part {w wr wr' : World} {x y : Nat} (h : Off lo w wr x) (X : Sx lo w wr) (hP : ∀ q, q < wr.heap.size -> q ≠ y -> wr'.heap[q]? = wr.heap[q]?) (hy : w.heap.size <= y) : Off lo w wr' x := by
 intro b s ov V fx G tk hs hq
 have hlt := hs.lt
 have := X.size
 rw [hP b (by omega) (by omega)] at hq
 exact h b s _ _ _ _ _ hs hq
theorem zqd : ∀ (l : List (Nat × Nat)) (j o p : Nat), l[j]? = some (o, p) -> (zcr l)[j * 3]? = some (.int .u8 ((o / 10 : Nat) : Int)) /\ (zcr l)[j * 3 + 1]? = some (.int .u8 ((o % 10 : Nat) : Int)) /\ (zcr l)[j * 3 + 2]? = some (.int .i64 (p : Int)) := by
 intro l
 induction l with
 | nil => intro j o p h; simp at h
 | cons x l ih =>
  intro j o p h
  cases j with
  | zero => simp at h; subst h; exact ⟨rfl, rfl, rfl⟩
  | succ j =>
   simp at h
   obtain ⟨h1, h2, h3⟩ := ih j o p h
   have e1 : (j + 1) * 3 = j * 3 + 1 + 1 + 1 := by omega
   rw [e1]
   exact ⟨h1, h2, h3⟩
theorem Ov.at {w : World} {V : Value} {l : List (Nat × Nat)} (h : Ov w V l) : ∃ sa cap, V = .slice sa l.length cap /\ ∀ (j o p : Nat), l[j]? = some (o, p) -> ∃ g, sa = some ⟨g, 0, none⟩ /\ w.cell? ⟨g, j * 3, none⟩ = some (.int .u8 ((o / 10 : Nat) : Int)) /\ w.cell? ⟨g, j * 3 + 1, none⟩ = some (.int .u8 ((o % 10 : Nat) : Int)) /\ w.cell? ⟨g, j * 3 + 2, none⟩ = some (.int .i64 (p : Int)) := by
 obtain ⟨h1, ⟨rfl, h2⟩ | ⟨g, cap, cur, rfl, hB, hg, h3⟩⟩ := h
 · rw [h2]
   refine ⟨none, 0, rfl, fun j o p hj => ?_⟩
   have := (List.getElem?_eq_some_iff.1 hj).1
   omega
 · refine ⟨_, cap, rfl, fun j o p hj => ?_⟩
   obtain ⟨a1, a2, a3⟩ := zqd l j o p hj
   exact ⟨g, rfl, by rw [Lib.cell_of_heap hg]; exact zkr h3.2.2.2 a1, by rw [Lib.cell_of_heap hg]; exact zkr h3.2.2.2 a2, by rw [Lib.cell_of_heap hg]; exact zkr h3.2.2.2 a3⟩
abbrev ovO (o p : Nat) : Obj := .cells #[.int .u8 ((o / 10 : Nat) : Int), .int .u8 ((o % 10 : Nat) : Int), .int .i64 (p : Int)] 286
theorem znv : ∀ (n : Nat) (l : List Nat), l.Nodup -> (∀ x ∈ l, 970 <= x /\ x < 970 + n) -> l.length <= n := by
 intro n
 induction n with
 | zero =>
  intro l _ h
  cases l with
  | nil => simp
  | cons x l => have := h x (by simp); omega
 | succ n ih =>
  intro l hn h
  by_cases hm : 970 + n ∈ l
  · have h1 := ih (l.erase (970 + n)) (hn.erase _) (fun x hx => by
     have h2 := (List.Nodup.mem_erase_iff hn).1 hx
     have := h x h2.2
     have := h2.1
     omega)
    rw [List.length_erase_of_mem hm] at h1
    omega
  · have := ih l hn (fun x hx => by
     have h1 := h x hx
     have : x ≠ 970 + n := fun e => hm (e ▸ hx)
     omega)
    omega
def OwPost (lo : Nat) (tx : Nat -> Addr) (w : World) (r : Option Nat) (vs : List Nat) (en : Ending) (w' : World) : Prop := Sx lo w w' /\ match r with
 | some p => ∃ q, en = .returned (.tuple #[.slice none 0 0, atv q]) /\ AtErr (tx 5) q p w'
 | none => ∃ V, en = .returned (.tuple #[V, .nilIface]) /\ VarRow w' V vs /\ vs.length <= 260
structure Rnd (lo : Nat) (w : World) (g n1 : Nat) (o p : Nat) (m : Nat -> Nat) (v : Value) (lv : List Nat) (wr : World) : Prop where
 sx : Sx lo w wr
 off : Off lo w wr g
 bits : Bits g m wr
 row : wr.ownsRow w.heap.size 263 2 v lv.length (zay lv)
 box : wr.heap[n1]? = some (ovO o p)
theorem Rnd.next {w : World} {g n1 o p : Nat} {m : Nat -> Nat} {v : Value} {lv : List Nat} {wr wr' : World} (h : Rnd lo w g n1 o p m v lv wr) (X : Sx lo wr wr') : Rnd lo w g n1 o p m v lv wr' :=
 ⟨h.sx.trans X, h.off.sx h.sx X h.bits.lt, h.bits.keptS X.kept, zda X.kept (by decide) h.row, X.kept _ _ _ _ (by decide) h.box⟩
theorem Rnd.c0 {w : World} {g n1 o p : Nat} {m : Nat -> Nat} {v : Value} {lv : List Nat} {wr : World} (h : Rnd lo w g n1 o p m v lv wr) : wr.cell? ⟨n1, 0, none⟩ = some (.int .u8 ((o / 10 : Nat) : Int)) /\ wr.cell? ⟨n1, 1, none⟩ = some (.int .u8 ((o % 10 : Nat) : Int)) /\ wr.cell? ⟨n1, 2, none⟩ = some (.int .i64 (p : Int)) :=
 ⟨by rw [Lib.cell_of_heap h.box]; rfl, by rw [Lib.cell_of_heap h.box]; rfl, by rw [Lib.cell_of_heap h.box]; rfl⟩
theorem Rnd.add {w : World} {g n1 o p : Nat} {m m' : Nat -> Nat} {v : Value} {lv : List Nat} {wr wr' : World} (h : Rnd lo w g n1 o p m v lv wr) (h11 : 10 + lo <= w.heap.size) (hg : w.heap.size <= g) (hb : Bits g m' wr') (G : Gb g wr wr') : Rnd lo w g n1 o p m' v lv wr' := by
 have hP : ∀ q, q < wr.heap.size -> q ≠ g -> wr'.heap[q]? = wr.heap[q]? := fun q hq hn => G.block q hq (by simpa using hn)
 have hk : ∀ (q : Nat) (c : Array Value) (T : TypeId) (fz : Nat × Nat), T ≠ 304 -> wr.heap[q]? = some (.cells c T fz) -> wr'.heap[q]? = some (.cells c T fz) := fun q c T fz hT hq => by
  rw [hP q (Array.getElem?_eq_some_iff.1 hq).1 ?_]
  · exact hq
  · rintro rfl
    obtain ⟨⟨c', hc', _⟩, _⟩ := h.bits
    rw [hc'] at hq
    simp only [Option.some.injEq, Obj.cells.injEq] at hq
    exact hT hq.2.1.symm
 refine ⟨h.sx.part G.os G.tape G.output G.size hP hg h11 (fun c T fz hq => ?_), h.off.part h.sx hP hg, hb, ?_, hk _ _ _ _ (by decide) h.box⟩
 · obtain ⟨⟨c', hc', _⟩, _⟩ := h.bits
   rw [hc'] at hq
   simp only [Option.some.injEq, Obj.cells.injEq] at hq
   exact .inl ⟨hq.2.1.symm, h.off⟩
 · obtain ⟨h1, h2 | ⟨g', cap, cur, e, hB, hg', h3⟩⟩ := h.row
   · exact ⟨h1, .inl h2⟩
   · exact ⟨h1, .inr ⟨g', cap, cur, e, hB, hk _ _ _ _ (by decide) hg', h3⟩⟩
theorem row_grow {w W w5 : World} {g : Nat} {m : Nat -> Nat} {v : Value} {n : Nat} {xs : List Value} (h11 : 10 + lo <= w.heap.size) (X : Sx lo w W) (off : Off lo w W g) (hb : Bits g m W)
 (hrow : W.ownsRow w.heap.size 263 2 v n xs) (hgrow : W.grownBy w5 v.ownBlock) : Sx lo w w5 /\ Off lo w w5 g /\ Bits g m w5 := by
 have hb5 : Bits g m w5 := by
  obtain ⟨⟨c, hc, h1⟩, h2⟩ := hb
  exact ⟨⟨c, zcn hrow hgrow (by decide) hc, h1⟩, h2⟩
 cases hv : v.ownBlock with
 | none =>
  have hP : ∀ q, q < W.heap.size -> q ≠ W.heap.size -> w5.heap[q]? = W.heap[q]? := fun q hq _ => hgrow.block q hq (by rw [hv]; simp)
  refine ⟨X.part hgrow.os hgrow.tape hgrow.output hgrow.size hP X.size h11 (fun c T fz hq => ?_), off.part X hP X.size, hb5⟩
  have := (Array.getElem?_eq_some_iff.1 hq).1
  omega
 | some r =>
  obtain ⟨hr, c0, hc0⟩ := zgp hrow r hv
  have hP : ∀ q, q < W.heap.size -> q ≠ r -> w5.heap[q]? = W.heap[q]? := fun q hq hn => hgrow.block q hq (by rw [hv]; simpa using hn)
  refine ⟨X.part hgrow.os hgrow.tape hgrow.output hgrow.size hP hr h11 (fun c T fz hq => ?_), off.part X hP hr, hb5⟩
  rw [hc0] at hq
  simp only [Option.some.injEq, Obj.cells.injEq] at hq
  exact .inr hq.2.1.symm
theorem ownBad_cons (e : Env) (o p : Nat) (r : List (Nat × Nat)) (l : List Nat) : zaz e ((o, p) :: r) l = if l.contains o || zbm e o then some p else zaz e r (l ++ [o]) := rfl
def OwInv (lo : Nat) (e : Env) (l : List (Nat × Nat)) (w : World) (g : Nat) (k : Nat) (lv : List Nat) (wr : World) : Prop :=
 (∃ m, Bits g m wr /\ ∀ p, 970 <= p /\ p < 1230 -> hasB m p = lv.contains p) /\ Sx lo w wr /\ Off lo w wr g /\ zaz e (l.drop k) lv = zaz e l [] /\ lv = (l.take k).map (·.1) /\ lv.Nodup /\ ∀ x ∈ lv, 970 <= x /\ x < 1230
theorem zhw (tx : Nat -> Addr) (a : Nat) (l : List (Nat × Nat)) (V : Value) (e : Env) (w : World) (h11 : 10 + lo <= w.heap.size) (g : Gl tx w) (h : Ar lo w a e) (hV : Ov w V l) (hok : VOk l) :
 Calls Tryz.prog 161 #[V, .pointer (some ⟨a, 0, none⟩)] w (OwPost lo tx w (zaz e l []) (l.map (·.1))) := by
 obtain ⟨sa, cap, rfl, HA0⟩ := hV.at
 have HA : Hid (∀ wr, Sx lo w wr -> ∀ (j o p : Nat), l[j]? = some (o, p) -> ∃ gv, sa = some ⟨gv, 0, none⟩ /\ wr.cell? ⟨gv, j * 3, none⟩ = some (.int .u8 ((o / 10 : Nat) : Int)) /\ wr.cell? ⟨gv, j * 3 + 1, none⟩ = some (.int .u8 ((o % 10 : Nat) : Int)) /\ wr.cell? ⟨gv, j * 3 + 2, none⟩ = some (.int .i64 (p : Int))) := fun wr X => by
  obtain ⟨sa', cap', e1, H⟩ := (hV.keptS X.kept).at
  simp only [Value.slice.injEq] at e1
  obtain ⟨rfl, -, rfl⟩ := e1
  exact H
 clear HA0 hV
 have b1 : Below w.heap.size w (w.alloc zset) := bal w _
 have I0 : Hid (OwInv lo e l w w.heap.size 0 [] (w.alloc zset)) := ⟨⟨_, Bits.zero w, fun p _ => by rw [zno]; rfl⟩, Below.sx b1 h11, Off.new w _, rfl, rfl, List.nodup_nil, fun x h => by cases h⟩
 have HL : Hid (∀ k, k < l.length -> ∃ o p, l[k]? = some (o, p) /\ (970 <= o /\ o < 1230) /\ l.drop k = (o, p) :: l.drop (k + 1) /\ (l.take (k + 1)).map (·.1) = (l.take k).map (·.1) ++ [o]) := fun k hk => by
  refine ⟨l[k].1, l[k].2, List.getElem?_eq_getElem hk, hok _ (List.getElem_mem hk), List.drop_eq_getElem_cons hk, ?_⟩
  rw [List.take_add_one, List.getElem?_eq_getElem hk, List.map_append]; rfl
 have HE : Hid (∀ lv wr, OwInv lo e l w w.heap.size l.length lv wr -> zaz e l [] = none /\ lv = l.map (·.1) /\ Sx lo w wr /\ lv.length <= 260) := fun lv wr hI => by
  obtain ⟨_, h2, _, h4, h5, h6, h7⟩ := hI
  rw [List.drop_length] at h4
  rw [List.take_length] at h5
  exact ⟨h4.symm, h5, h2, znv 260 lv h6 h7⟩
 have hll : l.length <= l.length := Nat.le_refl _
 obtain ⟨i0, hi0, hz0, hz1, hz2⟩ := info_parts infoVar
 generalize l.length = n at *
 clear hll b1
 go_enter Tryz.func161, Tryz.ntmps161
 go_wp2_with fail
 generalize hW0 : w.alloc zset = W0 at *
 go_loopw [6, 12] (fun v i wr => ∃ (k : Nat) (lv : List Nat), i = .int .i64 (k : Int) /\ k <= n /\ wr.ownsRow w.heap.size 263 2 v lv.length (zay lv) /\ lv.length <= k /\ Hid (OwInv lo e l w w.heap.size k lv wr)) (fun v i _ => n - (intOf i).toNat)
 case atStart => exact ⟨0, [], rfl, Nat.zero_le _, World.ownsRow_nil _ _ _ _, Nat.le_refl _, I0⟩
 case round =>
  obtain ⟨k, lv, rfl, hkn, hrow, hlk, HI⟩ := hrel
  clear I0
  by_cases hk : k = n
  · subst hk
    obtain ⟨e1, e2, X, hl260⟩ := HE.out lv wr HI.out
    have HQ : Hid (OwPost lo tx w (zaz e l []) (l.map (·.1)) (.returned (.tuple #[u6, .nilIface])) wr) := by
     rw [e1, <- e2]
     exact ⟨X, _, rfl, VarRow.owns hrow, hl260⟩
    obtain ⟨sr, cr, hu, -⟩ := id (VarRow.owns hrow)
    subst hu
    clear e1 e2 X HI HE HL HA hrow
    generalize lv.length = ll at *
    go_wp2_with fail
    go_ret2
    exact HQ.out
  · have hk' : k < n := by omega
    clear hk
    obtain ⟨o, p, hp, ho, hd, ht⟩ := HL.out k hk'
    obtain ⟨⟨m, hB, hm⟩, X, off, hbad, hlv, hnd, hrg⟩ := HI.out
    have h260 : lv.length <= 260 := znv 260 lv hnd hrg
    have hkl : k <= 260 := by
     have e1 : lv.length = k := by rw [hlv, List.length_map, List.length_take]; have := (List.getElem?_eq_some_iff.1 hp).1; omega
     omega
    obtain ⟨gv, rfl, ca, cb, cc⟩ := HA.out wr X k o p hp
    have b2 : Below wr.heap.size wr (wr.alloc (ovO o p)) := bal wr _
    have s2 : 10 + lo <= wr.heap.size := Nat.le_trans h11 X.size
    have X2 := Below.sx b2 s2
    have R1 : Rnd lo w w.heap.size wr.heap.size o p m u6 lv (wr.alloc (ovO o p)) := ⟨X.trans X2, off.sx X X2 hB.lt, hB.keptS X2.kept, zda X2.kept (by decide) hrow, heap_alloc_new wr _⟩
    rw [hd, ownBad_cons] at hbad
    have CH := vhas_any w.heap.size m o (wr.alloc (ovO o p)) R1.bits ho
    rw [hm o ho] at CH
    have HF : Hid (∀ w2, Below (wr.alloc (ovO o p)).heap.size (wr.alloc (ovO o p)) w2 -> Rnd lo w w.heap.size wr.heap.size o p m u6 lv w2 /\ Calls Tryz.prog 196 #[.pointer (some ⟨a, 0, none⟩), kv o] w2 fun en w3 => en = .returned (.bool (zbm e o)) /\ Rnd lo w w.heap.size wr.heap.size o p m u6 lv w3) := fun w2 hb => by
     have X3 := Below.sx hb (Nat.le_trans s2 X2.size)
     have R2 := R1.next X3
     refine ⟨R2, (arFixes_any a o e w2 (Nat.le_trans h11 R2.sx.size) (h.sx R2.sx) ho).mono fun en w3 hh => ⟨hh.1, R2.next hh.2⟩⟩
    have HQ : Hid ((lv.contains o || zbm e o) = true -> ∀ w2, Rnd lo w w.heap.size wr.heap.size o p m u6 lv w2 -> w2.cell? ⟨5, 0, none⟩ = some (.iface 353 (.pointer (some (tx 5)))) /\ ∀ d, OwPost lo tx w (zaz e l []) (l.map (·.1)) (.returned (.tuple #[.slice none 0 0, atv w2.heap.size])) ((w2.alloc (atO tx 5 p)).drewN d)) := fun hc w2 R => by
     rw [if_pos hc] at hbad
     refine ⟨(g.sx R.sx).errs 5 (by decide), fun d => ?_⟩
     rw [<- hbad]
     have b3 : Below w2.heap.size w2 (w2.alloc (atO tx 5 p)) := bal w2 _
     exact ⟨(R.sx.trans (Below.sx b3 (Nat.le_trans h11 R.sx.size))).drewN d, _, rfl, (AtErr.new (tx 5) p w2).drewN d⟩
    have HM : Hid ((lv.contains o || zbm e o) = false -> ∀ w5, Bits w.heap.size (addB m o) w5 -> Sx lo w w5 -> Off lo w w5 w.heap.size -> OwInv lo e l w w.heap.size (k + 1) (lv ++ [o]) w5) := fun hc w5 h1 h2 h3 => by
     rw [if_neg (by rw [hc]; decide)] at hbad
     refine ⟨⟨_, h1, fun p hp => ?_⟩, h2, h3, hbad, by rw [ht, hlv], ?_, ?_⟩
     rotate_left
     · refine List.nodup_append.2 ⟨hnd, by simp, fun x hx y hy he => ?_⟩
       simp only [List.mem_singleton] at hy
       subst hy; subst he
       have : lv.contains x = true := by simpa using hx
       rw [this] at hc; cases hc
     · intro x hx
       rcases List.mem_append.1 hx with hx | hx
       · exact hrg x hx
       · simp only [List.mem_singleton] at hx; subst hx; exact ho
     rw [zme ho.1 hp.1, hm p hp]
     simp only [List.contains_eq_mem, List.mem_append, List.mem_singleton]
     by_cases e1 : p ∈ lv <;> by_cases e2 : p = o <;> simp [e1, e2]
    obtain ⟨k0, k1, k2⟩ := R1.c0
    clear hbad hm hp hd ht hlv hnd hrg HI HL HE HA hB off X X2 b2 s2 R1
    generalize hW1 : wr.alloc (ovO o p) = W1 at *
    unfold kv at CH
    have hW2 : wr.alloc (.cells #[.int .u8 ((o / 10 : Nat) : Int), .int .u8 ((o % 10 : Nat) : Int), .int .i64 (p : Int)] 286) = W1 := hW1
    clear hW1
    obtain ⟨x, hx⟩ : ∃ x, ((o / 10 : Nat) : Int) = x := ⟨_, rfl⟩
    obtain ⟨y, hy⟩ : ∃ y, ((o % 10 : Nat) : Int) = y := ⟨_, rfl⟩
    rw [hx] at ca CH hW2 k0
    rw [hy] at cb CH hW2 k1
    have HX : Hid (((o / 10 : Nat) : Int) = x) := hx
    have HY : Hid (((o % 10 : Nat) : Int) = y) := hy
    have HO : Hid (970 <= o /\ o < 1230) := ho
    clear hx hy ho
    cases hc1 : lv.contains o
    · rw [hc1] at CH HQ HM
      go_wp2_with fail
      refine CH.mono ?_
      rintro en w2 ⟨rfl, hb⟩
      obtain ⟨R2, CF⟩ := HF.out w2 hb
      obtain ⟨c0, c1, c2⟩ := R2.c0
      unfold kv at CF
      rw [HX.out, HY.out] at CF
      rw [HX.out] at c0
      rw [HY.out] at c1
      clear hb CH HF ca cb cc hW2 k0 k1 k2
      go_wp2_with fail
      refine CF.mono ?_
      rintro en w3 ⟨rfl, R3⟩
      obtain ⟨d0, d1, d2⟩ := R3.c0
      rw [HX.out] at d0
      rw [HY.out] at d1
      clear CF c0 c1 c2 R2
      cases hc2 : zbm e o
      · rw [hc2] at HQ HM
        have CA := add_any w.heap.size m o w3 R3.bits HO.out
        unfold kv at CA
        rw [HX.out, HY.out] at CA
        have HR : Hid (∀ w4, Bits w.heap.size (addB m o) w4 -> Gb w.heap.size w3 w4 -> Rnd lo w w.heap.size wr.heap.size o p (addB m o) u6 lv w4) := fun w4 hb hg => R3.add h11 (Nat.le_refl _) hb hg
        clear R3 HQ
        go_wp2_with fail
        refine CA.mono ?_
        rintro en w4 ⟨rfl, hb4, hg4⟩
        have R4 := HR.out w4 hb4 hg4
        obtain ⟨f0, f1, f2⟩ := R4.c0
        rw [HX.out] at f0
        rw [HY.out] at f1
        have hrow4 := R4.row
        have sz4 := R4.sx.size
        have HR4 : Hid (Rnd lo w w.heap.size wr.heap.size o p (addB m o) u6 lv w4) := R4
        clear R4 hb4 hg4 HR CA d0 d1 d2
        have hvc : zay (lv ++ [o]) = zay lv ++ [.int .u8 x, .int .u8 y] := by rw [zgk, HX.out, HY.out]
        have HVC : Hid (zay (lv ++ [o]) = zay lv ++ [.int .u8 x, .int .u8 y]) := hvc
        clear hvc
        go_wp2_with (at_builtin; refine wpList_append_own _ rfl _ _ 245 rfl w.heap.size 263 i0 (.agg #[.int .u8 0, .int .u8 0]) 2 2 Tryz.underlying245 hi0 hz0 hz1 hz2 rfl (by decide) _ _ _ rfl (hrow4.alloc _) ⟨w4.heap.size, 0, none⟩ 1 1 [.int .u8 x, .int .u8 y] rfl rfl ?c1 ?c2 ?c3 ?c4 ?c5 ?_)
        case c1 => exact World.news_of_block (heap_alloc_new w4 _)
        case c2 => intro u hu; simp at hu; rcases hu with rfl | rfl <;> rfl
        case c3 => unfold maxLen; omega
        case c4 => omega
        case c5 => simp; omega
        intro v' w5 hown' hgrow _
        have R4 := HR4.out
        have bA : Below w4.heap.size w4 (w4.alloc (.cells #[.int .u8 x, .int .u8 y] 263)) := bal w4 _
        have XA := Below.sx bA (Nat.le_trans h11 R4.sx.size)
        obtain ⟨Y1, Y2, Y3⟩ := row_grow h11 (R4.sx.trans XA) (R4.off.sx R4.sx XA R4.bits.lt) (R4.bits.keptS XA.kept) (hrow4.alloc _) hgrow
        have HI5 := HM.out rfl w5 Y3 Y1 Y2
        have hown5 : w5.ownsRow w.heap.size 263 2 v' (lv ++ [o]).length (zay (lv ++ [o])) := by rw [HVC.out]; simpa using hown'
        have hlen : (lv ++ [o]).length <= k + 1 := by simp; omega
        have HI6 : Hid (OwInv lo e l w w.heap.size (k + 1) (lv ++ [o]) w5) := HI5
        clear HI5 Y1 Y2 Y3 XA bA R4 HR4 HM hown' hgrow hrow4 HVC
        generalize lv ++ [o] = lt at *
        go_wp2_with fail
        go_roundw
        case rel => exact ⟨k + 1, lt, by simp, by omega, hown5, hlen, HI6⟩
        case measure => simp [intOf]; omega
      · rw [hc2] at HQ
        obtain ⟨g5, HE5⟩ := HQ.out rfl w3 R3
        have HE6 : Hid _ := HE5
        clear HE5 HQ HM R3
        go_wp2_with fail
        go_region
        all_goals
         go_wp2_with fail
         go_ret2
         exact HE6.out _
    · rw [hc1] at CH HQ
      go_wp2_with fail
      refine CH.mono ?_
      rintro en w2 ⟨rfl, hb⟩
      obtain ⟨R2, -⟩ := HF.out w2 hb
      obtain ⟨c0, c1, c2⟩ := R2.c0
      obtain ⟨g5, HE5⟩ := HQ.out rfl w2 R2
      have HE6 : Hid _ := HE5
      clear hb CH HF ca cb cc hW2 k0 k1 k2 HE5 HQ HM R2 c0 c1
      go_wp2_with fail
      go_region
      all_goals
       go_wp2_with fail
       go_ret2
       exact HE6.out _
abbrev letO (c : Int) (sv : Option Addr) (nv cv : Nat) (T : TypeId) (y : Value) (T' : TypeId) (z : Value) : Obj := .cells #[.int .u8 c, .slice sv nv cv, .iface T y, .iface T' z] 183
def LBox (n : Nat) (c : Int) (sv : Option Addr) (nv cv : Nat) (T : TypeId) (y : Value) (T' : TypeId) (z : Value) (wq : World) : Prop :=
 wq.cell? ⟨n, 0, none⟩ = some (.int .u8 c) /\ wq.cell? ⟨n, 1, none⟩ = some (.slice sv nv cv) /\ wq.cell? ⟨n, 2, none⟩ = some (.iface T y) /\ wq.cell? ⟨n, 3, none⟩ = some (.iface T' z)
theorem lbox {n : Nat} {c : Int} {sv : Option Addr} {nv cv : Nat} {T T' : TypeId} {z y : Value} {w : World} (hn : w.heap[n]? = some (letO c sv nv cv T y T' z)) : LBox n c sv nv cv T y T' z w :=
 ⟨by rw [Lib.cell_of_heap hn]; rfl, by rw [Lib.cell_of_heap hn]; rfl, by rw [Lib.cell_of_heap hn]; rfl, by rw [Lib.cell_of_heap hn]; rfl⟩
theorem let_own (a : Nat) (c : Int) (sv : Option Addr) (nv cv : Nat) (T T' : TypeId) (y z : Value) (w : World) (Q : Ending -> World -> Prop)
 (OV : Calls Tryz.prog 161 #[.slice sv nv cv, .pointer (some ⟨a, 0, none⟩)] (w.alloc (letO c sv nv cv T y T' z)) fun en w1 => ∃ q, en = .returned (.tuple #[.slice none 0 0, atv q]) /\ Hid (Q (.returned (.tuple #[.nilIface, atv q])) w1)) :
 Calls Tryz.prog 128 #[.agg #[.int .u8 c, .slice sv nv cv, .iface T y, .iface T' z], .pointer (some ⟨a, 0, none⟩)] w Q := by
 have s0 : LBox w.heap.size c sv nv cv T y T' z (w.alloc (letO c sv nv cv T y T' z)) := lbox (heap_alloc_new w _)
 unfold LBox at *
 obtain ⟨k0, k1, k2, k3⟩ := s0
 generalize hW : w.alloc (letO c sv nv cv T y T' z) = W at *
 go_enter Tryz.func128, Tryz.ntmps128
 go_wp2_with fail
 refine OV.mono ?_
 rintro en w1 ⟨q, rfl, HQ⟩
 clear OV
 go_wp2_with fail
 exact HQ.out
theorem let_value (a : Nat) (c : Int) (sv : Option Addr) (nv cv : Nat) (T T' : TypeId) (y z : Value) (w : World) (Q : Ending -> World -> Prop)
 (OV : Calls Tryz.prog 161 #[.slice sv nv cv, .pointer (some ⟨a, 0, none⟩)] (w.alloc (letO c sv nv cv T y T' z)) fun en w1 => ∃ so no co, en = .returned (.tuple #[.slice so no co, .nilIface]) /\ LBox w.heap.size c sv nv cv T y T' z w1 /\ Calls Tryz.prog 93 #[.iface T y, .pointer (some ⟨a, 0, none⟩)] w1 fun en w2 => ∃ q, en = .returned (.tuple #[.nilIface, atv q]) /\ Hid (Q (.returned (.tuple #[.nilIface, atv q])) w2)) :
 Calls Tryz.prog 128 #[.agg #[.int .u8 c, .slice sv nv cv, .iface T y, .iface T' z], .pointer (some ⟨a, 0, none⟩)] w Q := by
 have s0 : LBox w.heap.size c sv nv cv T y T' z (w.alloc (letO c sv nv cv T y T' z)) := lbox (heap_alloc_new w _)
 unfold LBox at *
 obtain ⟨k0, k1, k2, k3⟩ := s0
 generalize hW : w.alloc (letO c sv nv cv T y T' z) = W at *
 go_enter Tryz.func128, Tryz.ntmps128
 go_wp2_with fail
 refine OV.mono ?_
 rintro en w1 ⟨so, no, co, rfl, ⟨m0, m1, m2, m3⟩, VA⟩
 clear OV k0 k1 k2 k3 hW
 go_wp2_with fail
 refine VA.mono ?_
 rintro en w2 ⟨q, rfl, HQ⟩
 clear VA
 go_wp2_with fail
 exact HQ.out
theorem let_rest (a : Nat) (c : Int) (sv : Option Addr) (nv cv : Nat) (T T' : TypeId) (y z : Value) (w : World) (Q : Ending -> World -> Prop)
 (OV : Calls Tryz.prog 161 #[.slice sv nv cv, .pointer (some ⟨a, 0, none⟩)] (w.alloc (letO c sv nv cv T y T' z)) fun en w1 => ∃ so no co, en = .returned (.tuple #[.slice so no co, .nilIface]) /\ LBox w.heap.size c sv nv cv T y T' z w1 /\ Calls Tryz.prog 93 #[.iface T y, .pointer (some ⟨a, 0, none⟩)] w1 fun en w2 => ∃ Tx zx, en = .returned (.tuple #[.iface Tx zx, .nilIface]) /\ LBox w.heap.size c sv nv cv T y T' z w2 /\
  Calls Tryz.prog 158 #[.iface Tx zx, .slice so no co] w2.drew fun en w3 => ∃ b, en = .returned (.pointer (some ⟨b, 0, none⟩)) /\ LBox w.heap.size c sv nv cv T y T' z w3 /\
  Calls Tryz.prog 157 #[.pointer (some ⟨a, 0, none⟩), .int .u8 c, .pointer (some ⟨b, 0, none⟩)] w3 fun en w4 => ∃ a', en = .returned (.pointer (some ⟨a', 0, none⟩)) /\ LBox w.heap.size c sv nv cv T y T' z w4 /\
  Calls Tryz.prog 93 #[.iface T' z, .pointer (some ⟨a', 0, none⟩)] w4 fun en w5 => ∃ r1 r2, en = .returned (.tuple #[r1, r2]) /\ LBox w.heap.size c sv nv cv T y T' z w5 /\ Hid (Q (.returned (.tuple #[r1, r2])) w5)) :
 Calls Tryz.prog 128 #[.agg #[.int .u8 c, .slice sv nv cv, .iface T y, .iface T' z], .pointer (some ⟨a, 0, none⟩)] w Q := by
 have s0 : LBox w.heap.size c sv nv cv T y T' z (w.alloc (letO c sv nv cv T y T' z)) := lbox (heap_alloc_new w _)
 unfold LBox at *
 obtain ⟨k0, k1, k2, k3⟩ := s0
 generalize hW : w.alloc (letO c sv nv cv T y T' z) = W at *
 go_enter Tryz.func128, Tryz.ntmps128
 go_wp2_with fail
 refine OV.mono ?_
 rintro en w1 ⟨so, no, co, rfl, ⟨m0, m1, m2, m3⟩, VA⟩
 clear OV k0 k1 k2 k3 hW
 go_wp2_with fail
 refine VA.mono ?_
 rintro en w2 ⟨Tx, zx, rfl, s2, NW⟩
 clear VA m0 m1 m2 m3
 go_wp2_with fail
 refine wp_region_held_drew (S := (fun wq => wq.cell? ⟨w.heap.size, 0, none⟩ = some (.int .u8 c) /\ wq.cell? ⟨w.heap.size, 1, none⟩ = some (.slice sv nv cv) /\ wq.cell? ⟨w.heap.size, 2, none⟩ = some (.iface T y) /\ wq.cell? ⟨w.heap.size, 3, none⟩ = some (.iface T' z))) (by kernel_rfl) (s2) (fun hS => ?_)
 refine tkS 0 (.pointer (some ⟨w.heap.size, 3, none⟩)) hS ?_
 refine tkL 1 (.iface T' z) hS ?_
 refine tkS 2 (.pointer (some ⟨a, 0, none⟩)) hS ?_
 refine tkS 3 (.pointer (some ⟨w.heap.size, 0, none⟩)) hS ?_
 refine tkL 4 (.int .u8 c) hS ?_
 refine tkS 5 (.iface Tx zx) hS ?_
 refine tkS 6 (.slice so no co) hS ?_
 refine rd1 7 (fun KK hK => ?_)
 (try simp only [List.getElem_toArray, List.getElem_cons_succ, List.getElem_cons_zero])
 go_simp
 go_at_call 158
 refine (NW).mono ?_
 rintro en w3 ⟨b, rfl, s3, WT⟩
 (try dsimp only)
 refine hK.out _ _ s3 (fun hS => nrm ?_)
 refine rd1 8 (fun KK hK => ?_)
 (try simp only [List.getElem_toArray, List.getElem_cons_succ, List.getElem_cons_zero])
 go_simp
 go_at_call 157
 refine (WT).mono ?_
 rintro en w4 ⟨a', rfl, s4, TY⟩
 (try dsimp only)
 refine hK.out _ _ s4 (fun hS => nrm ?_)
 refine rd1 9 (fun KK hK => ?_)
 (try simp only [List.getElem_toArray, List.getElem_cons_succ, List.getElem_cons_zero])
 go_simp
 go_at_call 93
 refine (TY).mono ?_
 rintro en w5 ⟨r1, r2, rfl, s5, HQ⟩
 (try dsimp only)
 refine hK.out _ _ s5 (fun hS => nrm ?_)
 refine tkS 10 r1 hS ?_
 refine tkS 11 r2 hS ?_
 refine tkS 12 r1 hS ?_
 refine tkS 13 r2 hS ?_
 refine wpAnyH_done (by kernel_rfl) ?_ _
 go_wp2_with fail
 exact HQ.out
def letR (xa xb : Ex) (c : Nat) (v : List (Nat × Nat)) (e : Env) : COut := match zaz e v [] with
 | some p => .error (6, p)
 | none => match chk xa e with
  | .error r => .error r
  | .ok u => chk xb (zbo e c (u, v.map (·.1)))
theorem zmk (tx : Nat -> Addr) (m : Nat) (hm : m <= 60000) (xa xb : Ex) (c a : Nat) (v : List (Nat × Nat)) (V : Value) (T T' : TypeId) (y z : Value) (e : Env) (w : World) (ha : SaidE lo tx xa) (hb : SaidE lo tx xb) (oka : EOk true m xa) (hc : isLet c = true)
 (hv : VOk v) (h11 : 10 + lo <= w.heap.size) (g : Gl tx w) (tb : Tb w) (h : Ar lo w a e) (he : EnvOk 60000 e) (hV : Ov w V v) (hva : Ev w xa (.iface T y)) (hvb : Ev w xb (.iface T' z)) :
 Calls Tryz.prog 128 #[.agg #[.int .u8 (c : Int), V, .iface T y, .iface T' z], .pointer (some ⟨a, 0, none⟩)] w (CkPost lo tx w (letR xa xb c v e)) := by
 obtain ⟨sv, cv, rfl, -⟩ := hV.at
 have b1 : Below w.heap.size w (w.alloc (letO (c : Int) sv v.length cv T y T' z)) := bal w _
 have X1 := Below.sx b1 h11
 have hn := heap_alloc_new w (letO (c : Int) sv v.length cv T y T' z)
 generalize hW : w.alloc (letO (c : Int) sv v.length cv T y T' z) = W at *
 have s1 : 10 + lo <= W.heap.size := Nat.le_trans h11 X1.size
 have O := zhw tx a v _ e W s1 (g.sx X1) (h.sx X1) (hV.keptS X1.kept) hv
 have A : ∀ w1, Sx lo W w1 -> Calls Tryz.prog 93 #[.iface T y, .pointer (some ⟨a, 0, none⟩)] w1 (CkPost lo tx w1 (chk xa e)) := fun w1 X =>
  ha e a _ w1 (Nat.le_trans s1 X.size) ((g.sx X1).sx X) ((tb.sx X1).sx X) ((h.sx X1).sx X) (Ev.keptS (X1.trans X).kept _ _ hva) he
 unfold letR
 cases ho : zaz e v [] with
 | some p =>
  refine let_own a c sv v.length cv T T' y z w _ ?_
  rw [hW]
  rw [ho] at O
  refine O.mono ?_
  rintro en w1 ⟨X, q, rfl, hq⟩
  exact ⟨q, rfl, X1.trans X, q, rfl, hq⟩
 | none =>
  rw [ho] at O
  cases hca : chk xa e with
  | error r =>
   obtain ⟨k, p⟩ := r
   refine let_value a c sv v.length cv T T' y z w _ ?_
   rw [hW]
   refine O.mono ?_
   rintro en w1 ⟨X, V', rfl, hV', _⟩
   obtain ⟨so, co, rfl, -⟩ := id hV'
   have hn1 := X.kept _ _ _ _ (by decide) hn
   have Z := A w1 X
   rw [hca] at Z
   refine ⟨so, _, co, rfl, lbox hn1, Z.mono ?_⟩
   rintro en w2 ⟨X2, q, rfl, hq⟩
   exact ⟨q, rfl, X1.trans (X.trans X2), q, rfl, hq⟩
  | ok u =>
   have ou := zfl hm xa e u oka he hca
   refine let_rest a c sv v.length cv T T' y z w _ ?_
   rw [hW]
   refine O.mono ?_
   rintro en w1 ⟨X, V', rfl, hV', hlen⟩
   obtain ⟨so, co, rfl, -⟩ := id hV'
   have hn1 := X.kept _ _ _ _ (by decide) hn
   have Z := A w1 X
   rw [hca] at Z
   refine ⟨so, _, co, rfl, lbox hn1, Z.mono ?_⟩
   rintro en w2 ⟨X2, x, rfl, hx⟩
   obtain ⟨Tx, zx, rfl⟩ := hx.iface
   have hn2 := X2.kept _ _ _ _ (by decide) hn1
   have Z2 := (X1.trans (X.trans X2)).trans (Sx.drew0 w2)
   have s2 : 10 + lo <= w2.drew.heap.size := Nat.le_trans h11 Z2.size
   have so' : SOk (u, v.map (·.1)) := ⟨ou.1, Nat.le_trans ou.2 (by omega), fun o ho => by
    obtain ⟨x, hx, rfl⟩ := List.mem_map.1 ho
    exact hv x hx, Nat.le_trans hlen (by omega)⟩
   have hV2 := (hV'.keptS X2.kept).keptS (Sx.drew0 (lo := lo) w2).kept
   have hx2 := hx.keptS (Sx.drew0 (lo := lo) w2).kept
   have hSv := Sv.new s2 so' hx2 hV2
   have b3 : Below w2.drew.heap.size w2.drew (w2.drew.alloc (schO (.iface Tx zx) (.slice so (v.map (·.1)).length co) (.pointer none) (.slice none 0 0) .nilIface)) := bal _ _
   have X3 := Below.sx b3 s2
   have hn2' : w2.drew.heap[w.heap.size]? = some (letO (c : Int) sv v.length cv T y T' z) := hn2
   have hn3 := X3.kept _ _ _ _ (by decide) hn2'
   have N := zhi (.iface Tx zx) (.slice so (v.map (·.1)).length co) w2.drew Tx zx so (v.map (·.1)).length co rfl rfl
   generalize hD : w2.drew = D at *
   refine ⟨Tx, zx, rfl, lbox hn2, ?_⟩
   refine N.mono ?_
   rintro en w3 ⟨rfl, rfl⟩
   have Z3 := Z2.trans X3
   have s3 := Nat.le_trans h11 Z3.size
   refine ⟨_, rfl, lbox hn3, (with_any a c D.heap.size e (u, v.map (·.1)) _ s3 (h.sx Z3) hSv (zhk hc)).mono ?_⟩
   rintro en w4 ⟨a', rfl, har, hb4⟩
   have X4 := Below.sx hb4 s3
   have hn4 := X4.kept _ _ _ _ (by decide) hn3
   have Z4 := Z3.trans X4
   have he2 := he.set (c := c) (s := (u, v.map (·.1))) ou.1 (Nat.le_trans ou.2 (by omega))
   refine ⟨a', rfl, lbox hn4, (hb _ a' _ w4 (Nat.le_trans h11 Z4.size) (g.sx Z4) (tb.sx Z4) har (Ev.keptS Z4.kept _ _ hvb) he2).mono ?_⟩
   intro en w5 hP
   obtain ⟨r1, r2, rfl, _, _⟩ := hP.pair
   exact ⟨r1, r2, rfl, lbox (hP.1.kept _ _ _ _ (by decide) hn4), hP.trans Z4⟩
end Go.Proofs.YtceadeaodbadlaaGreatDoor
namespace Go.Proofs.YtceadeaodbadlaaGreatDoor
theorem zpa (v : Value) (w : World) : (Instr.typeAssert (.iface 173 v) 82 173 true).run Tryz.prog w = .ok (.tuple #[v, .bool true]) w := by kernel_rfl
theorem zhy (v : Value) (w : World) : (Instr.typeAssert (.iface 175 v) 82 173 true).run Tryz.prog w = .ok (.tuple #[.agg #[.int .u8 0, .slice none 0 0, .int .i64 0], .bool false]) w := by kernel_rfl
theorem zju (v : Value) (w : World) : (Instr.typeAssert (.iface 177 v) 82 173 true).run Tryz.prog w = .ok (.tuple #[.agg #[.int .u8 0, .slice none 0 0, .int .i64 0], .bool false]) w := by kernel_rfl
theorem zhu (v : Value) (w : World) : (Instr.typeAssert (.iface 179 v) 82 173 true).run Tryz.prog w = .ok (.tuple #[.agg #[.int .u8 0, .slice none 0 0, .int .i64 0], .bool false]) w := by kernel_rfl
theorem ta_Let_Name (v : Value) (w : World) : (Instr.typeAssert (.iface 183 v) 82 173 true).run Tryz.prog w = .ok (.tuple #[.agg #[.int .u8 0, .slice none 0 0, .int .i64 0], .bool false]) w := by kernel_rfl
theorem zor (v : Value) (w : World) : (Instr.typeAssert (.iface 186 v) 82 173 true).run Tryz.prog w = .ok (.tuple #[.agg #[.int .u8 0, .slice none 0 0, .int .i64 0], .bool false]) w := by kernel_rfl
theorem zfj (v : Value) (w : World) : (Instr.typeAssert (.iface 175 v) 82 175 true).run Tryz.prog w = .ok (.tuple #[v, .bool true]) w := by kernel_rfl
theorem zfx (v : Value) (w : World) : (Instr.typeAssert (.iface 177 v) 82 175 true).run Tryz.prog w = .ok (.tuple #[.agg #[.int .u8 0, .slice none 0 0, .int .i64 0], .bool false]) w := by kernel_rfl
theorem zfk (v : Value) (w : World) : (Instr.typeAssert (.iface 179 v) 82 175 true).run Tryz.prog w = .ok (.tuple #[.agg #[.int .u8 0, .slice none 0 0, .int .i64 0], .bool false]) w := by kernel_rfl
theorem zka (v : Value) (w : World) : (Instr.typeAssert (.iface 183 v) 82 175 true).run Tryz.prog w = .ok (.tuple #[.agg #[.int .u8 0, .slice none 0 0, .int .i64 0], .bool false]) w := by kernel_rfl
theorem zia (v : Value) (w : World) : (Instr.typeAssert (.iface 186 v) 82 175 true).run Tryz.prog w = .ok (.tuple #[.agg #[.int .u8 0, .slice none 0 0, .int .i64 0], .bool false]) w := by kernel_rfl
theorem zge (v : Value) (w : World) : (Instr.typeAssert (.iface 177 v) 82 177 true).run Tryz.prog w = .ok (.tuple #[v, .bool true]) w := by kernel_rfl
theorem zfr (v : Value) (w : World) : (Instr.typeAssert (.iface 177 v) 82 179 true).run Tryz.prog w = .ok (.tuple #[.agg #[.int .u8 0, .nilIface, .nilIface, .int .i64 0], .bool false]) w := by kernel_rfl
theorem zfi (v : Value) (w : World) : (Instr.typeAssert (.iface 179 v) 82 179 true).run Tryz.prog w = .ok (.tuple #[v, .bool true]) w := by kernel_rfl
theorem zjg (v : Value) (w : World) : (Instr.typeAssert (.iface 183 v) 82 179 true).run Tryz.prog w = .ok (.tuple #[.agg #[.int .u8 0, .nilIface, .nilIface, .int .i64 0], .bool false]) w := by kernel_rfl
theorem zhv (v : Value) (w : World) : (Instr.typeAssert (.iface 186 v) 82 179 true).run Tryz.prog w = .ok (.tuple #[.agg #[.int .u8 0, .nilIface, .nilIface, .int .i64 0], .bool false]) w := by kernel_rfl
theorem zkj (v : Value) (w : World) : (Instr.typeAssert (.iface 177 v) 82 183 true).run Tryz.prog w = .ok (.tuple #[.agg #[.int .u8 0, .slice none 0 0, .nilIface, .nilIface], .bool false]) w := by kernel_rfl
theorem ta_Let_Let (v : Value) (w : World) : (Instr.typeAssert (.iface 183 v) 82 183 true).run Tryz.prog w = .ok (.tuple #[v, .bool true]) w := by kernel_rfl
theorem zpg (v : Value) (w : World) : (Instr.typeAssert (.iface 186 v) 82 183 true).run Tryz.prog w = .ok (.tuple #[.agg #[.int .u8 0, .slice none 0 0, .nilIface, .nilIface], .bool false]) w := by kernel_rfl
theorem ziq (v : Value) (w : World) : (Instr.typeAssert (.iface 177 v) 82 186 true).run Tryz.prog w = .ok (.tuple #[.agg #[.nilIface, .nilIface, .int .i64 0], .bool false]) w := by kernel_rfl
theorem zpb (v : Value) (w : World) : (Instr.typeAssert (.iface 186 v) 82 186 true).run Tryz.prog w = .ok (.tuple #[v, .bool true]) w := by kernel_rfl
end Go.Proofs.YtceadeaodbadlaaGreatDoor
namespace Go.Proofs.YtceadeaodbadlaaGreatDoor
open Go.RowKit
variable {lo : Nat}
theorem zpn (a : Nat) (c p : Int) (sg : Option Addr) (ng cg : Nat) (w : World) (Q : Ending -> World -> Prop)
 (H : Calls Tryz.prog 125 #[.agg #[.int .u8 c, .slice sg ng cg, .int .i64 p], .pointer (some ⟨a, 0, none⟩)] (w.alloc (.cells #[.int .u8 c, .slice sg ng cg, .int .i64 p] 173)) fun en w' => ∃ r1 r2, en = .returned (.tuple #[r1, r2]) /\ Hid (Q (.returned (.tuple #[r1, r2])) w')) :
 Calls Tryz.prog 93 #[.iface 173 (.agg #[.int .u8 c, .slice sg ng cg, .int .i64 p]), .pointer (some ⟨a, 0, none⟩)] w Q := by
 have t0 := zpa (.agg #[.int .u8 c, .slice sg ng cg, .int .i64 p])
 go_enter Tryz.func93, Tryz.ntmps93
 go_wp2_with fail
 refine H.mono ?_
 rintro en w1 ⟨r1, r2, rfl, HQ⟩
 clear H
 go_wp2_with fail
 exact HQ.out
theorem zja (a : Nat) (c p : Int) (sg : Option Addr) (ng cg : Nat) (w : World) (Q : Ending -> World -> Prop)
 (H : Calls Tryz.prog 126 #[.agg #[.int .u8 c, .slice sg ng cg, .int .i64 p]] (w.alloc (.cells #[.int .u8 c, .slice sg ng cg, .int .i64 p] 175)) fun en w' => ∃ r1 r2, en = .returned (.tuple #[r1, r2]) /\ Hid (Q (.returned (.tuple #[r1, r2])) w')) :
 Calls Tryz.prog 93 #[.iface 175 (.agg #[.int .u8 c, .slice sg ng cg, .int .i64 p]), .pointer (some ⟨a, 0, none⟩)] w Q := by
 have t0 := zhy (.agg #[.int .u8 c, .slice sg ng cg, .int .i64 p])
 have t1 := zfj (.agg #[.int .u8 c, .slice sg ng cg, .int .i64 p])
 go_enter Tryz.func93, Tryz.ntmps93
 go_wp2_with fail
 refine H.mono ?_
 rintro en w1 ⟨r1, r2, rfl, HQ⟩
 clear H
 go_wp2_with fail
 exact HQ.out
theorem zjo (a : Nat) (c p : Int) (Tf T : TypeId) (zf y : Value) (w : World) (Q : Ending -> World -> Prop)
 (H : Calls Tryz.prog 127 #[.agg #[.int .u8 c, .iface Tf zf, .iface T y, .int .i64 p], .pointer (some ⟨a, 0, none⟩)] (w.alloc (.cells #[.int .u8 c, .iface Tf zf, .iface T y, .int .i64 p] 179)) fun en w' => ∃ r1 r2, en = .returned (.tuple #[r1, r2]) /\ Hid (Q (.returned (.tuple #[r1, r2])) w')) :
 Calls Tryz.prog 93 #[.iface 179 (.agg #[.int .u8 c, .iface Tf zf, .iface T y, .int .i64 p]), .pointer (some ⟨a, 0, none⟩)] w Q := by
 have t0 := zhu (.agg #[.int .u8 c, .iface Tf zf, .iface T y, .int .i64 p])
 have t1 := zfk (.agg #[.int .u8 c, .iface Tf zf, .iface T y, .int .i64 p])
 have t2 := zfi (.agg #[.int .u8 c, .iface Tf zf, .iface T y, .int .i64 p])
 go_enter Tryz.func93, Tryz.ntmps93
 go_wp2_with fail
 refine H.mono ?_
 rintro en w1 ⟨r1, r2, rfl, HQ⟩
 clear H
 go_wp2_with fail
 exact HQ.out
theorem typeOf_Let (a : Nat) (c : Int) (sv : Option Addr) (nv cv : Nat) (T T' : TypeId) (y z : Value) (w : World) (Q : Ending -> World -> Prop)
 (H : Calls Tryz.prog 128 #[.agg #[.int .u8 c, .slice sv nv cv, .iface T y, .iface T' z], .pointer (some ⟨a, 0, none⟩)] (w.alloc (.cells #[.int .u8 c, .slice sv nv cv, .iface T y, .iface T' z] 183)) fun en w' => ∃ r1 r2, en = .returned (.tuple #[r1, r2]) /\ Hid (Q (.returned (.tuple #[r1, r2])) w')) :
 Calls Tryz.prog 93 #[.iface 183 (.agg #[.int .u8 c, .slice sv nv cv, .iface T y, .iface T' z]), .pointer (some ⟨a, 0, none⟩)] w Q := by
 have t0 := ta_Let_Name (.agg #[.int .u8 c, .slice sv nv cv, .iface T y, .iface T' z])
 have t1 := zka (.agg #[.int .u8 c, .slice sv nv cv, .iface T y, .iface T' z])
 have t2 := zjg (.agg #[.int .u8 c, .slice sv nv cv, .iface T y, .iface T' z])
 have t3 := ta_Let_Let (.agg #[.int .u8 c, .slice sv nv cv, .iface T y, .iface T' z])
 go_enter Tryz.func93, Tryz.ntmps93
 go_wp2_with fail
 refine H.mono ?_
 rintro en w1 ⟨r1, r2, rfl, HQ⟩
 clear H
 go_wp2_with fail
 exact HQ.out
theorem typeOf_Call (a : Nat) (p : Int) (T T' : TypeId) (y z : Value) (w : World) (Q : Ending -> World -> Prop)
 (H : Calls Tryz.prog 129 #[.agg #[.iface T y, .iface T' z, .int .i64 p], .pointer (some ⟨a, 0, none⟩)] (w.alloc (.cells #[.iface T y, .iface T' z, .int .i64 p] 186)) fun en w' => ∃ r1 r2, en = .returned (.tuple #[r1, r2]) /\ Hid (Q (.returned (.tuple #[r1, r2])) w')) :
 Calls Tryz.prog 93 #[.iface 186 (.agg #[.iface T y, .iface T' z, .int .i64 p]), .pointer (some ⟨a, 0, none⟩)] w Q := by
 have t0 := zor (.agg #[.iface T y, .iface T' z, .int .i64 p])
 have t1 := zia (.agg #[.iface T y, .iface T' z, .int .i64 p])
 have t2 := zhv (.agg #[.iface T y, .iface T' z, .int .i64 p])
 have t3 := zpg (.agg #[.iface T y, .iface T' z, .int .i64 p])
 have t4 := zpb (.agg #[.iface T y, .iface T' z, .int .i64 p])
 go_enter Tryz.func93, Tryz.ntmps93
 go_wp2_with fail
 refine H.mono ?_
 rintro en w1 ⟨r1, r2, rfl, HQ⟩
 clear H
 go_wp2_with fail
 exact HQ.out
theorem zko (a : Nat) (c : Int) (w : World) (Q : Ending -> World -> Prop)
 (H : Calls Tryz.prog 130 #[.int .u8 c] (w.alloc (.cells #[.int .u8 c] 177)) fun en w' => ∃ T z, en = .returned (.iface T z) /\ Hid (Q (.returned (.tuple #[.iface T z, .nilIface])) w')) :
 Calls Tryz.prog 93 #[.iface 177 (.agg #[.int .u8 c]), .pointer (some ⟨a, 0, none⟩)] w Q := by
 have t0 := zju (.agg #[.int .u8 c])
 have t1 := zfx (.agg #[.int .u8 c])
 have t2 := zfr (.agg #[.int .u8 c])
 have t3 := zkj (.agg #[.int .u8 c])
 have t4 := ziq (.agg #[.int .u8 c])
 have t5 := zge (.agg #[.int .u8 c])
 go_enter Tryz.func93, Tryz.ntmps93
 go_wp2_with fail
 refine H.mono ?_
 rintro en w1 ⟨T, z, rfl, HQ⟩
 clear H
 go_wp2_with fail
 exact HQ.out
theorem zhl {tx : Nat -> Addr} {w w1 : World} (X : Sx lo w w1) {r : COut} {f : FuncId} {args : Array Value} (H : Calls Tryz.prog f args w1 (CkPost lo tx w1 r)) :
 Calls Tryz.prog f args w1 fun en w' => ∃ r1 r2, en = .returned (.tuple #[r1, r2]) /\ Hid (CkPost lo tx w r (.returned (.tuple #[r1, r2])) w') :=
 H.mono fun en w' hP => by
  obtain ⟨r1, r2, rfl, _, _⟩ := hP.pair
  exact ⟨r1, r2, rfl, hP.trans X⟩
theorem typeOf_any (tx : Nat -> Addr) (m : Nat) (hm : m <= 60000) : ∀ x : Ex, EOk true m x -> SaidE lo tx x := by
 intro x
 induction x with
 | nil => intro h; exact h.elim
 | node k o x a b iha ihb =>
  intro ho e ar v w h11 g tb h hv he
  have hm1 : 1 <= m + 1 /\ m + 1 <= 1000000 := by omega
  have gok : ∀ l, GOk m l -> GOk (m + 1) l := fun l hl t ht => ⟨(hl t ht).1, by have := (hl t ht).2; omega⟩
  have AL : ∀ ob : Obj, Sx lo w (w.alloc ob) /\ 10 + lo <= (w.alloc ob).heap.size := fun ob =>
   ⟨Below.sx (bal w _) h11, by simp; omega⟩
  rcases ho with ⟨rfl, hc, hg, _⟩ | ⟨rfl, hc, hg, _⟩ | ⟨rfl, hc, _⟩ | ⟨rfl, hc, hg, hu, ha, _⟩ | ⟨rfl, hc, hvv, ha, hb⟩ | ⟨rfl, ha, hb⟩
  · rcases hv with ⟨_, G, rfl, hG⟩ | ⟨e0, _⟩ | ⟨e0, _⟩ | ⟨e0, _⟩ | ⟨e0, _⟩ | ⟨e0, _⟩ <;> try (exact absurd e0 (by decide))
    obtain ⟨sg, cg, rfl, -⟩ := TypRow.given hG hg
    obtain ⟨X, s1⟩ := AL (.cells #[.int .u8 (x.c : Int), .slice sg x.g.length cg, .int .i64 (x.p : Int)] 173)
    refine zpn ar _ _ sg _ cg w _ (zhl X ?_)
    have := zkp tx x.c x.p ar (m + 1) x.g _ e _ s1 (g.sx X) (h.sx X) (hG.keptS X.kept) (gok _ hg) hm1 hc
    cases hE : e x.c with
    | none =>
     rw [hE] at this
     have e1 : chk (.node 0 o x a b) e = .error (3, x.p) := by simp [chk, hE]
     rw [e1]; exact this
    | some s =>
     rw [hE] at this
     have e1 : chk (.node 0 o x a b) e = zap s x.g x.p := by simp [chk, hE]
     rw [e1]; exact this
  · rcases hv with ⟨e0, _⟩ | ⟨_, G, rfl, hG⟩ | ⟨e0, _⟩ | ⟨e0, _⟩ | ⟨e0, _⟩ | ⟨e0, _⟩ <;> try (exact absurd e0 (by decide))
    obtain ⟨sg, cg, rfl, -⟩ := TypRow.given hG hg
    obtain ⟨X, s1⟩ := AL (.cells #[.int .u8 (x.c : Int), .slice sg x.g.length cg, .int .i64 (x.p : Int)] 175)
    refine zja ar _ _ sg _ cg w _ (zhl X ?_)
    have := zgj tx x.c x.p (m + 1) x.g _ _ s1 (g.sx X) (tb.sx X) (hG.keptS X.kept) (gok _ hg) hm1 hc
    simpa [chk] using this
  · rcases hv with ⟨e0, _⟩ | ⟨e0, _⟩ | ⟨_, rfl⟩ | ⟨e0, _⟩ | ⟨e0, _⟩ | ⟨e0, _⟩ <;> try (exact absurd e0 (by decide))
    obtain ⟨X, s1⟩ := AL (.cells #[.int .u8 (x.c : Int)] 177)
    have hcl : x.c < 256 := by simp [isLit] at hc; omega
    refine zko ar _ w _ ((literal_any x.c _ hcl).mono ?_)
    rintro en w' ⟨v', rfl, hT, rfl⟩
    obtain ⟨T, z, rfl⟩ := hT.iface
    refine ⟨T, z, rfl, X, ?_⟩
    have e1 : chk (.node 2 o x a b) e = .ok (if x.c = 84 \/ x.c = 70 then tB else tI) := by simp [chk]
    rw [e1]
    exact ⟨_, rfl, hT⟩
  · rcases hv with ⟨e0, _⟩ | ⟨e0, _⟩ | ⟨e0, _⟩ | ⟨_, F, T, y, rfl, hF, hva⟩ | ⟨e0, _⟩ | ⟨e0, _⟩ <;> try (exact absurd e0 (by decide))
    obtain ⟨u, hu⟩ := hu rfl
    have hgu := hg u (by rw [hu]; exact List.mem_singleton.2 rfl)
    rcases hF with ⟨e1, _⟩ | ⟨u', e1, hT⟩
    · rw [e1] at hu; cases hu
    · rw [hu] at e1
      simp only [List.cons.injEq, and_true] at e1
      subst e1
      obtain ⟨Tf, zf, rfl⟩ := hT.iface
      obtain ⟨X, s1⟩ := AL (.cells #[.int .u8 (x.c : Int), .iface Tf zf, .iface T y, .int .i64 (x.p : Int)] 179)
      refine zjo ar _ _ Tf T zf y w _ (zhl X ?_)
      have := zgy tx m hm a x.c x.p ar T y _ u e _ (iha ha) ha hc s1 (g.sx X) (tb.sx X) (h.sx X) he (Ev.keptS X.kept _ _ hva) (hT.keptS X.kept) hgu.1 hgu.2
      have e1 : chk (.node 3 o x a b) e = funR u (chk a (zbo e x.c (u, []))) x.p := by simp [chk, hu, funR]; rfl
      rw [e1]
      exact this
  · rcases hv with ⟨e0, _⟩ | ⟨e0, _⟩ | ⟨e0, _⟩ | ⟨e0, _⟩ | ⟨_, V, T, y, T', z, rfl, hV, hva, hvb⟩ | ⟨e0, _⟩ <;> try (exact absurd e0 (by decide))
    obtain ⟨sv, cv, rfl, -⟩ := hV.at
    obtain ⟨X, s1⟩ := AL (.cells #[.int .u8 (x.c : Int), .slice sv x.v.length cv, .iface T y, .iface T' z] 183)
    refine typeOf_Let ar _ sv _ cv T T' y z w _ (zhl X ?_)
    have := zmk tx m hm a b x.c ar x.v _ T T' y z e _ (iha ha) (ihb hb) ha hc hvv s1 (g.sx X) (tb.sx X) (h.sx X) he (hV.keptS X.kept) (Ev.keptS X.kept _ _ hva) (Ev.keptS X.kept _ _ hvb)
    have e1 : chk (.node 4 o x a b) e = letR a b x.c x.v e := by simp [chk, letR]; rfl
    rw [e1]
    exact this
  · rcases hv with ⟨e0, _⟩ | ⟨e0, _⟩ | ⟨e0, _⟩ | ⟨e0, _⟩ | ⟨e0, _⟩ | ⟨_, T, y, T', z, rfl, hva, hvb⟩ <;> try (exact absurd e0 (by decide))
    obtain ⟨X, s1⟩ := AL (.cells #[.iface T y, .iface T' z, .int .i64 (x.p : Int)] 186)
    refine typeOf_Call ar _ T T' y z w _ (zhl X ?_)
    have := zkm tx m hm a b x.p ar T T' y z e _ (iha ha) (ihb hb) ha hb s1 (g.sx X) (tb.sx X) (h.sx X) he (Ev.keptS X.kept _ _ hva) (Ev.keptS X.kept _ _ hvb)
    have e1 : chk (.node 5 o x a b) e = callR (chk a e) (chk b e) x.p := by simp [chk, callR]; rfl
    rw [e1]
    exact this
/-- check.Type. -/
theorem type_said (tx : Nat -> Addr) (m : Nat) (hm : m <= 60000) (x : Ex) (v : Value) (w : World) (ho : EOk true m x) (h11 : 10 + lo <= w.heap.size) (g : Gl tx w) (tb : Tb w) (hv : Ev w x v) :
 Calls Tryz.prog 55 #[v] w (CkPost lo tx w (chk x (fun _ => none))) := by
 have b1 : Below w.heap.size w (w.alloc zAr) := bal w _
 have X := Below.sx b1 h11
 have T := zhl X (typeOf_any tx m hm x ho (fun _ => none) w.heap.size v _ (Nat.le_trans h11 X.size) (g.sx X) (tb.sx X) (Ar.new w) (Ev.keptS X.kept _ _ hv) (EnvOk.none _))
 obtain ⟨Tx, zx, rfl⟩ := hv.iface
 clear hv g tb X b1
 generalize chk x (fun _ => none) = R at *
 go_enter Tryz.func55, Tryz.ntmps55
 go_wp2_with fail
 refine T.mono ?_
 rintro en w1 ⟨r1, r2, rfl, HQ⟩
 go_wp2_with fail
 go_ret2
 exact HQ.out
end Go.Proofs.YtceadeaodbadlaaGreatDoor
namespace Go.Proofs.YtceadeaodbadlaaGreatDoor
open Go.Shelf Go.RowKit
def strRen : Go.Shelf.Ren := ⟨fun | 169 => 113 | 241 => 145 | 277 => 182 | n => n, fun | 70 => 163 | 9 => 9 | 0 => 0 | 72 => 165 | 37 => 46 | 127 => 231 | 3 => 3 | 5 => 5 | n => n, fun | n => n⟩
theorem strLays : Go.Proofs.Lays.n169 Tryz.prog strRen := {
 mixed := by kernel_rfl
 f169 := Tryz.func113.trans (congrArg some (by kernel_rfl))
 t0 := Tryz.underlying0
 a0 := Tryz.isAgg0
 z0 := Tryz.sizeOf0
 v0 := Tryz.zeroValue0
 t3 := Tryz.underlying3
 a3 := Tryz.isAgg3
 z3 := Tryz.sizeOf3
 v3 := Tryz.zeroValue3
 t9 := Tryz.underlying9
 a9 := Tryz.isAgg9
 z9 := Tryz.sizeOf9
 v9 := Tryz.zeroValue9
 t37 := Tryz.underlying46
 a37 := Tryz.isAgg46
 z37 := Tryz.sizeOf46
 v37 := Tryz.zeroValue46
 t70 := Tryz.underlying163
 a70 := Tryz.isAgg163
 z70 := Tryz.sizeOf163
 v70 := Tryz.zeroValue163
 t72 := Tryz.underlying165
 a72 := Tryz.isAgg165
 z72 := Tryz.sizeOf165
 v72 := Tryz.zeroValue165
 t127 := Tryz.underlying231
 a127 := Tryz.isAgg231
 z127 := Tryz.sizeOf231
 v127 := Tryz.zeroValue231 }
theorem strExtra : Builder.Extra Tryz.prog strRen := {
 sizeBuilder := by kernel_rfl
 liesBuilder := by kernel_rfl
 t5 := Tryz.underlying5
 a5 := Tryz.isAgg5
 z5 := Tryz.sizeOf5
 v5 := Tryz.zeroValue5
 infoByte := by kernel_rfl
 cellsByte := by kernel_rfl
 sizeByte := by kernel_rfl
 neB5 := by decide }
theorem growLays : Go.Proofs.Lays.n241 Tryz.prog strRen := {
 mixed := by kernel_rfl
 f241 := Tryz.func145.trans (congrArg some (by kernel_rfl))
 f277 := Tryz.func182.trans (congrArg some (by kernel_rfl))
 t0 := Tryz.underlying0
 a0 := Tryz.isAgg0
 z0 := Tryz.sizeOf0
 v0 := Tryz.zeroValue0
 t3 := Tryz.underlying3
 a3 := Tryz.isAgg3
 z3 := Tryz.sizeOf3
 v3 := Tryz.zeroValue3
 t37 := Tryz.underlying46
 a37 := Tryz.isAgg46
 z37 := Tryz.sizeOf46
 v37 := Tryz.zeroValue46
 t70 := Tryz.underlying163
 a70 := Tryz.isAgg163
 z70 := Tryz.sizeOf163
 v70 := Tryz.zeroValue163
 t72 := Tryz.underlying165
 a72 := Tryz.isAgg165
 z72 := Tryz.sizeOf165
 v72 := Tryz.zeroValue165 }
def Bu (B b : Nat) (l : List UInt8) (w : World) : Prop := Lib.IsBuilderF 165 5 B b (Lib.byteCells l) w
def Kb (B b : Nat) (w w' : World) : Prop := Below B w w' /\ Lib.OthersKept 5 (some b) w w'
theorem Kb.refl (B b : Nat) (w : World) : Kb B b w w := ⟨Below.refl B w, Lib.OthersKept.refl _ _ w⟩
theorem Kb.trans {B b : Nat} {x y z : World} (h : Kb B b x y) (k : Kb B b y z) : Kb B b x z := ⟨h.1.trans k.1, h.2.trans k.2⟩
theorem zgz (B b : Nat) (l : List UInt8) (w : World) (h : Bu B b l w) (hBw : B <= w.heap.size) :
 Calls Tryz.prog 113 #[.pointer (some ⟨b, 0, none⟩)] w fun e w' => e = .returned (.string ⟨l.toArray⟩) /\ Bu B b l w' /\ Kb B b w w' :=
 Any.Builder_String_any_k strLays strExtra B b l w h hBw
theorem zni (B b n : Nat) (w : World) (hB : B <= b) (hbk : w.heap[b]? = some (.cells #[.pointer (some ⟨b, 0, none⟩), .slice none 0 0] 165 (0, 0))) (hBw : B <= w.heap.size) (hn : n <= 281474976710656) :
 Calls Tryz.prog 145 #[.pointer (some ⟨b, 0, none⟩), .int .i64 n] w fun e w' => e = .returned (.tuple #[]) /\ (Lib.BuilderAt 165 5 B b (.pointer (some ⟨b, 0, none⟩)) [] w' /\ Below B w w') :=
 Any.Builder_grow_fresh growLays strExtra B b n w hB hbk hBw hn
theorem sizeBuilder : (Tryz.prog.info? 165).map (·.size) = some 2 := by kernel_rfl
theorem liesBuilder : liesAt Tryz.prog Tryz.prog.depth 165 (2 / Tryz.prog.cellsOf 165) 0 165 1 = true := by kernel_rfl
theorem infoByte : (Tryz.prog.info? 5).map (fun i => (i.zero, i.size, i.bytes)) = some (some (.int .u8 0), 1, 1) := by kernel_rfl
theorem zki (b : Nat) (w : World) (h0 : w.cell? ⟨b, 0, none⟩ = some (.pointer (some ⟨b, 0, none⟩))) :
 Calls Tryz.prog 144 #[.pointer (some ⟨b, 0, none⟩)] w fun e w' => e = .returned (.tuple #[]) /\ w' = w := by
 obtain ⟨j, hj, _⟩ := Option.map_eq_some_iff.1 sizeBuilder
 go_enter Tryz.func144, Tryz.ntmps144
 go_wp2
 rw [Lib.run_neq_ptr_same w _ Tryz.underlying163 hj]
 go_wp2
 go_end0
 exact ⟨rfl, rfl⟩
theorem zez (b : Nat) (w : World) (h0 : w.cell? ⟨b, 0, none⟩ = some (.pointer none)) (hsh : w.shape? b = some (165, 2)) (hfz : w.frozen? ⟨b, 0, none⟩ = false) :
 Calls Tryz.prog 144 #[.pointer (some ⟨b, 0, none⟩)] w fun e w' => e = .returned (.tuple #[]) /\ w' = w.setCell ⟨b, 0, none⟩ (.pointer (some ⟨b, 0, none⟩)) := by
 obtain ⟨j, hj, hjs⟩ := Option.map_eq_some_iff.1 sizeBuilder
 go_enter Tryz.func144, Tryz.ntmps144
 go_wp2
 rw [Lib.run_to_unsafe w ⟨b, 0, none⟩ Tryz.underlying163 Tryz.underlying126 hj (by rw [hjs]; decide) hsh (Nat.zero_lt_succ 1)]
 simp only [Result.andThen]
 rw [Oper.upon_value]
 go_wp2
 rw [run_callFunc_extern Tryz.func181 (by kernel_rfl) (by kernel_rfl) (by kernel_rfl) (e := Extern.AbiNoEscape.same) (by kernel_rfl)]
 rw [Lib.run_noEscape]
 simp only [Result.andThen]
 rw [Oper.upon_value]
 go_wp2
 rw [Lib.run_from_unsafe w ⟨b, 0, none⟩ Tryz.underlying126 Tryz.underlying163 hj hsh liesBuilder]
 simp only [Result.andThen]
 rw [Oper.upon_value]
 go_wp2
 go_end0
 exact ⟨rfl, rfl⟩
theorem zgm (B b : Nat) (bs : List Value) (w : World) (h : Lib.IsBuilderF 165 5 B b bs w) :
 Calls Tryz.prog 144 #[.pointer (some ⟨b, 0, none⟩)] w fun e w' => e = .returned (.tuple #[]) /\ Lib.BuilderAtF 165 5 B b (.pointer (some ⟨b, 0, none⟩)) bs w' /\ Kb B b w w' := by
 rcases h with h | h
 · refine (zez b w h.cell0 h.shape h.frozen0).mono ?_
   rintro e w' ⟨rfl, rfl⟩
   exact ⟨rfl, h.used _, (Below.refl B w).setCell (p := ⟨b, 0, none⟩) h.1 _, (Lib.OthersKept.refl _ _ w).setCell ⟨b, 0, none⟩ rfl _⟩
 · refine (zki b w h.cell0).mono ?_
   rintro e w' ⟨rfl, rfl⟩
   exact ⟨rfl, h, Kb.refl B b _⟩
theorem zlm (B b : Nat) (bs : List Value) (c : Int) (w : World) (h : Lib.IsBuilderF 165 5 B b bs w) (hlen : bs.length + 1 <= 140737488355328) (hBw : B <= w.heap.size) :
 Calls Tryz.prog 146 #[.pointer (some ⟨b, 0, none⟩), .int .u8 c] w fun e w' => e = .returned .nilIface /\ Lib.IsBuilderF 165 5 B b (bs ++ [.int .u8 c]) w' /\ Kb B b w w' := by
 obtain ⟨i0, hi, hz0, hz1, hz2⟩ := info_parts infoByte
 go_enter Tryz.func146, Tryz.ntmps146
 go_wp2_with fail
 refine (zgm B b bs _ h).mono ?_
 rintro e w1 ⟨rfl, h1, hb1, hk1⟩
 obtain ⟨hB, v, hbk, hown, hne⟩ := h1
 have c0 : w1.cell? ⟨b, 0, none⟩ = some (.pointer (some ⟨b, 0, none⟩)) := cbl hbk
 have c1 : w1.cell? ⟨b, 1, none⟩ = some v := cbl hbk
 go_wp2_with (at_builtin; refine wpList_append_ownF _ rfl _ _ 46 rfl B 5 i0 (.int .u8 0) 1 1 Tryz.underlying46 hi hz0 hz1 hz2 rfl (by decide) _ _ _ rfl (hown.alloc _) ⟨w1.heap.size, 0, none⟩ 1 1 [.int .u8 c] rfl rfl ?c1 ?c2 ?c3 ?c4 ?c5 ?_)
 case c1 =>
  intro j u hj
  match j, hj with
  | 0, hj => simp at hj; subst hj; simp [Addr.add]
 case c2 => intro u hu; simp at hu; subst hu; rfl
 case c3 => unfold maxLen; omega
 case c4 => omega
 case c5 => have := hb1.size; simp; omega
 intro v' w2 hown' hgrow _
 have hlt : b < w1.heap.size := by
  rcases Nat.lt_or_ge b w1.heap.size with h' | h'
  · exact h'
  · simp [Array.getElem?_eq_none h'] at hbk
 have hb2 : w2.heap[b]? = some (.cells #[.pointer (some ⟨b, 0, none⟩), v] 165 (0, 0)) := by
  rw [hgrow.block b (by simp; omega) (fun e => hne e.symm), Lib.alloc_old w1 _ b hlt]
  exact hbk
 have d0 : w2.cell? ⟨b, 0, none⟩ = some (.pointer (some ⟨b, 0, none⟩)) := cbl hb2
 have d1 : w2.cell? ⟨b, 1, none⟩ = some v := cbl hb2
 have f1 : w2.frozen? ⟨b, 1, none⟩ = false := Lib.frozen_of_heap hb2 1
 obtain ⟨g, cap, rfl⟩ : ∃ g cap, v' = .slice (some ⟨g, 0, none⟩) (bs.length + 1) cap := by
  rcases hown'.2 with ⟨_, h0⟩ | ⟨g, cap, cur, fz, hv, _⟩
  · omega
  · exact ⟨g, cap, hv⟩
 go_wp2
 go_ret
 refine ⟨rfl, .inr ?_, ?_, ((hk1.alloc _).grown hgrow (Lib.ownsRowF_kind (hown.alloc _))).setCell ⟨b, 1, none⟩ rfl _⟩
 · exact Lib.BuilderAtF.put (T := 165) (e := 5) hB hb2 (bs' := bs ++ [.int .u8 c]) (by simpa using hown') (by decide)
 · exact ((hb1.alloc (by have := hb1.size; omega) _).grown hgrow (by have := hb1.size; simp; omega) (fun k hk => (hown.lt k hk).1)).setCell (p := ⟨b, 1, none⟩) hB _
theorem zon (B b : Nat) (l : List UInt8) (c : Nat) (w : World) (h : Bu B b l w) (hc : c < 256) (hlen : l.length + 1 <= 140737488355328) (hBw : B <= w.heap.size) :
 Calls Tryz.prog 146 #[.pointer (some ⟨b, 0, none⟩), .int .u8 (c : Int)] w fun e w' => e = .returned .nilIface /\ Bu B b (l ++ [u8 c]) w' /\ Kb B b w w' := by
 refine (zlm B b _ c w h (by simpa [Lib.byteCells] using hlen) hBw).mono ?_
 rintro e w' ⟨rfl, h1, h2⟩
 refine ⟨rfl, ?_, h2⟩
 unfold Bu
 have : Lib.byteCells (l ++ [u8 c]) = Lib.byteCells l ++ [.int .u8 (c : Int)] := by
  simp [Lib.byteCells, u8]
  omega
 rw [this]
 exact h1
/-- Grow of a builder that was not written. -/
theorem zpo (B b n : Nat) (w : World) (hB : B <= b) (hbk : w.heap[b]? = some (.cells #[.pointer none, .slice none 0 0] 165 (0, 0))) (hBw : B <= w.heap.size) (hn : n <= 281474976710656) :
 Calls Tryz.prog 112 #[.pointer (some ⟨b, 0, none⟩), .int .i64 n] w fun e w' => e = .returned (.tuple #[]) /\ Bu B b [] w' /\ Below B w w' := by
 have hbk1 : (w.setCell ⟨b, 0, none⟩ (.pointer (some ⟨b, 0, none⟩))).heap[b]? = some (.cells #[.pointer (some ⟨b, 0, none⟩), .slice none 0 0] 165 (0, 0)) := by
  simp [World.setCell, Array.getElem?_modify, hbk]
 have c1 : (w.setCell ⟨b, 0, none⟩ (.pointer (some ⟨b, 0, none⟩))).cell? ⟨b, 1, none⟩ = some (.slice none 0 0) := cbl hbk1
 have hb1 : Below B w (w.setCell ⟨b, 0, none⟩ (.pointer (some ⟨b, 0, none⟩))) := (Below.refl B w).setCell (p := ⟨b, 0, none⟩) hB _
 have hU : Lib.BuilderAt 165 5 B b (.pointer (some ⟨b, 0, none⟩)) [] (w.setCell ⟨b, 0, none⟩ (.pointer (some ⟨b, 0, none⟩))) := ⟨hB, .slice none 0 0, hbk1, World.ownsRow_nil _ _ _ _, by simp [Value.ownBlock]⟩
 have mixed : Tryz.prog.follows .mixedOrders = true := strLays.mixed
 have c1' : (w.setCell ⟨b, 0, none⟩ (.pointer (some ⟨b, 0, none⟩))).drew.cell? ⟨b, 1, none⟩ = some (.slice none 0 0) := c1
 go_enter Tryz.func112, Tryz.ntmps112
 go_wp2_with (go_at_call 144; refine (zez b w (cbl hbk) (by simp [World.shape?, hbk]) (Lib.frozen_of_heap hbk 0)).mono ?_; rintro e w' ⟨rfl, rfl⟩)
 go_region_o
 all_goals go_wp2_with (go_at_call 145; refine (zni B b n (w.setCell ⟨b, 0, none⟩ (.pointer (some ⟨b, 0, none⟩))).drew hB hbk1 (by simpa [World.setCell, World.drew, -World.drew_eq] using hBw) hn).mono ?_; rintro e w' ⟨rfl, h1, h2⟩)
 all_goals first
  | (go_end0; exact ⟨rfl, .inr (Lib.BuilderAtF.of h1), hb1.drew.trans h2⟩)
  | (go_end0; exact ⟨rfl, .inr (Lib.BuilderAtF.of hU.drew), hb1.drew⟩)
end Go.Proofs.YtceadeaodbadlaaGreatDoor
namespace Go.Proofs.YtceadeaodbadlaaGreatDoor
open Go.RowKit
abbrev wtp (m : Option Nat) : Value := .pointer (m.map fun b => ⟨b, 0, none⟩)
structure Wi (m : Option Nat) (B wb : Nat) (nm sp : Value) (l : List UInt8) (w : World) : Prop where
 le : B <= wb
 blk : w.heap[wb]? = some (.cells #[wtp m, .int .i64 (l.length : Int), nm, sp] 170 (0, 0))
 bu : ∀ b, m = some b -> Bu B b l w /\ b ≠ wb
def Kw (m : Option Nat) (B wb : Nat) (w w' : World) : Prop :=
 Below B w w' /\ ∀ k o, w.heap[k]? = some o -> k ≠ wb -> m ≠ some k -> (∀ c fz, o ≠ .cells c 5 fz) -> w'.heap[k]? = some o
theorem Kw.refl (m : Option Nat) (B wb : Nat) (w : World) : Kw m B wb w w := ⟨Below.refl B w, fun _ _ h _ _ _ => h⟩
theorem Kw.trans {m : Option Nat} {B wb : Nat} {x y z : World} (h : Kw m B wb x y) (k : Kw m B wb y z) : Kw m B wb x z :=
 ⟨h.1.trans k.1, fun q o h1 h2 h3 h4 => k.2 q o (h.2 q o h1 h2 h3 h4) h2 h3 h4⟩
theorem Kw.alloc {m : Option Nat} {B wb : Nat} {x y : World} (h : Kw m B wb x y) (hB : B <= y.heap.size) (o : Obj) : Kw m B wb x (y.alloc o) :=
 ⟨h.1.alloc hB o, fun q o' h1 h2 h3 h4 => by
  have := h.2 q o' h1 h2 h3 h4
  exact (Lib.alloc_old y o q (Array.getElem?_eq_some_iff.1 this).1).trans this⟩
theorem Kw.drewN {m : Option Nat} {B wb : Nat} {x y : World} (h : Kw m B wb x y) (n : Nat) : Kw m B wb x (y.drewN n) := ⟨below_drewN h.1 n, fun q o h1 h2 h3 h4 => h.2 q o h1 h2 h3 h4⟩
theorem Kw.size {m : Option Nat} {B wb : Nat} {x y : World} (h : Kw m B wb x y) : x.heap.size <= y.heap.size := h.1.size
theorem Kw.box {m : Option Nat} {B wb : Nat} {w w' : World} (h : Kw m B wb w w') {k : Nat} {cs : Array Value} {T : TypeId} {fz : Nat × Nat} (hk : w.heap[k]? = some (.cells cs T fz)) (hw : k ≠ wb) (hm : m ≠ some k) (hT : T ≠ 5) : w'.heap[k]? = some (.cells cs T fz) :=
 h.2 k _ hk hw hm (fun c fz' e => hT (by injection e))
theorem Bu.alloc {B b : Nat} {l : List UInt8} {w : World} (h : Bu B b l w) (o : Obj) : Bu B b l (w.alloc o) := by
 rcases h with h | h
 · exact .inl (h.alloc o)
 · exact .inr (h.alloc o)
theorem Bu.le {B b : Nat} {l : List UInt8} {w : World} (h : Bu B b l w) : B <= b /\ b < w.heap.size := by
 rcases h with h | h
 · exact ⟨h.1, h.lt⟩
 · exact ⟨h.1, h.lt⟩
theorem Bu.far {B b : Nat} {l : List UInt8} {w : World} (h : Bu B b l w) {q o : Nat} {cs : Array Value} {T : TypeId} {fz : Nat × Nat} (hq : w.heap[q]? = some (.cells cs T fz)) (hT : T ≠ 5) (hb : b ≠ q) (v : Value) : Bu B b l (w.setCell ⟨q, o, none⟩ v) := by
 rcases h with ⟨hB, v0, hbk, hown, hne⟩ | ⟨hB, v0, hbk, hown, hne⟩
 · refine .inl ⟨hB, v0, ?_, ?_, hne⟩
   · rw [Below.heap_setCell _ _ _ _ (by show ¬ _; simp; omega)]; exact hbk
   · exact hown.kept (row := some q) ⟨rfl, rfl, rfl, by simp [World.setCell], fun k _ hk => Below.heap_setCell _ _ _ _ (fun e => hk (by simp [e]))⟩ (Or.inr (Lib.ownBlock_neF hown hq hT))
 · refine .inr ⟨hB, v0, ?_, ?_, hne⟩
   · rw [Below.heap_setCell _ _ _ _ (by show ¬ _; simp; omega)]; exact hbk
   · exact hown.kept (row := some q) ⟨rfl, rfl, rfl, by simp [World.setCell], fun k _ hk => Below.heap_setCell _ _ _ _ (fun e => hk (by simp [e]))⟩ (Or.inr (Lib.ownBlock_neF hown hq hT))
theorem Wi.alloc {m : Option Nat} {B wb : Nat} {nm sp : Value} {l : List UInt8} {w : World} (h : Wi m B wb nm sp l w) (o : Obj) : Wi m B wb nm sp l (w.alloc o) :=
 ⟨h.le, (Lib.alloc_old w o wb (Array.getElem?_eq_some_iff.1 h.blk).1).trans h.blk, fun b hb => ⟨(h.bu b hb).1.alloc o, (h.bu b hb).2⟩⟩
theorem Wi.drewN {m : Option Nat} {B wb : Nat} {nm sp : Value} {l : List UInt8} {w : World} (h : Wi m B wb nm sp l w) (n : Nat) : Wi m B wb nm sp l (w.drewN n) := ⟨h.le, h.blk, h.bu⟩
theorem Wi.drew {m : Option Nat} {B wb : Nat} {nm sp : Value} {l : List UInt8} {w : World} (h : Wi m B wb nm sp l w) : Wi m B wb nm sp l w.drew := ⟨h.le, h.blk, h.bu⟩
theorem Wi.lt {m : Option Nat} {B wb : Nat} {nm sp : Value} {l : List UInt8} {w : World} (h : Wi m B wb nm sp l w) : wb < w.heap.size := (Array.getElem?_eq_some_iff.1 h.blk).1
theorem len_wrap {n : Nat} (h : n + 1 <= 140737488355328) : IntKind.i64.wrap ((n : Int) + 1) = (n : Int) + 1 := by
 rw [IntKind.wrap_i64]; omega
theorem byte_learn (B wb : Nat) (nm sp : Value) (l : List UInt8) (c : Nat) (w : World) (h : Wi none B wb nm sp l w) (hl : l.length + 1 <= 140737488355328) :
 Calls Tryz.prog 114 #[.pointer (some ⟨wb, 0, none⟩), .int .u8 (c : Int)] w fun e w' => e = .returned (.tuple #[]) /\ w' = w.setCell ⟨wb, 1, none⟩ (.int .i64 ((l.length : Int) + 1)) := by
 have c0 : w.cell? ⟨wb, 0, none⟩ = some (.pointer none) := by rw [Lib.cell_of_heap h.blk]; rfl
 have c1 : w.cell? ⟨wb, 1, none⟩ = some (.int .i64 (l.length : Int)) := by rw [Lib.cell_of_heap h.blk]; rfl
 have f1 : w.frozen? ⟨wb, 1, none⟩ = false := Lib.frozen_of_heap h.blk 1
 have hw := len_wrap hl
 clear h hl
 generalize l.length = n at *
 go_enter Tryz.func114, Tryz.ntmps114
 go_wp2_with fail
 go_end0
 exact ⟨rfl, rfl⟩
theorem byte_write (B b wb : Nat) (nm sp : Value) (l : List UInt8) (c : Nat) (w : World) (h : Wi (some b) B wb nm sp l w) (hc : c < 256) (hl : l.length + 1 <= 140737488355328) (hB : B <= w.heap.size) :
 Calls Tryz.prog 114 #[.pointer (some ⟨wb, 0, none⟩), .int .u8 (c : Int)] w fun e w' => e = .returned (.tuple #[]) /\ Bu B b (l ++ [u8 c]) w' /\ Kb B b (w.setCell ⟨wb, 1, none⟩ (.int .i64 ((l.length : Int) + 1))) w' := by
 have c0 : w.cell? ⟨wb, 0, none⟩ = some (.pointer (some ⟨b, 0, none⟩)) := by rw [Lib.cell_of_heap h.blk]; rfl
 have c1 : w.cell? ⟨wb, 1, none⟩ = some (.int .i64 (l.length : Int)) := by rw [Lib.cell_of_heap h.blk]; rfl
 have f1 : w.frozen? ⟨wb, 1, none⟩ = false := Lib.frozen_of_heap h.blk 1
 have hw := len_wrap hl
 obtain ⟨hbu, hne⟩ := h.bu b rfl
 have hb1 := hbu.far h.blk (by decide) hne (o := 1) (.int .i64 ((l.length : Int) + 1))
 have W := zon B b l c _ hb1 hc hl (by simpa [World.setCell] using hB)
 clear h hl hbu hb1 hB hc
 generalize l.length = n at *
 go_enter Tryz.func114, Tryz.ntmps114
 go_wp2_with fail
 refine W.mono ?_
 rintro e w1 ⟨rfl, h1, h2⟩
 go_wp2_with fail
 go_end0
 exact ⟨rfl, h1, h2⟩
theorem Wi.set {m : Option Nat} {B wb : Nat} {nm sp : Value} {l : List UInt8} {w : World} (h : Wi m B wb nm sp l w) (v : Value) : (w.setCell ⟨wb, 1, none⟩ v).heap[wb]? = some (.cells #[wtp m, v, nm, sp] 170 (0, 0)) := by
 have := h.blk
 simp [World.setCell, Array.getElem?_modify, this]
theorem Kw.set (m : Option Nat) (B wb : Nat) (hB : B <= wb) (o : Nat) (w : World) (v : Value) : Kw m B wb w (w.setCell ⟨wb, o, none⟩ v) :=
 ⟨(Below.refl B w).setCell (p := ⟨wb, o, none⟩) hB _, fun k o' h1 h2 _ _ => by rw [Below.heap_setCell _ _ _ _ (by show ¬ _; simp; omega)]; exact h1⟩
theorem Kb.kw {B b wb : Nat} {w w' : World} (h : Kb B b w w') : Kw (some b) B wb w w' :=
 ⟨h.1, fun k o h1 h2 h3 h4 => h.2 k o h1 (by intro e; exact h3 (by rw [e])) h4⟩
theorem zbs (m : Option Nat) (B wb : Nat) (nm sp : Value) (l : List UInt8) (c : Nat) (w : World) (h : Wi m B wb nm sp l w) (hc : c < 256) (hl : l.length + 1 <= 140737488355328) (hB : B <= w.heap.size) :
 Calls Tryz.prog 114 #[.pointer (some ⟨wb, 0, none⟩), .int .u8 (c : Int)] w fun e w' => e = .returned (.tuple #[]) /\ Wi m B wb nm sp (l ++ [u8 c]) w' /\ Kw m B wb w w' := by
 cases m with
 | none =>
  refine (byte_learn B wb nm sp l c w h hl).mono ?_
  rintro e w' ⟨rfl, rfl⟩
  exact ⟨rfl, ⟨h.le, by rw [h.set]; simp, fun b hb => by cases hb⟩, Kw.set _ _ _ h.le _ _ _⟩
 | some b =>
  refine (byte_write B b wb nm sp l c w h hc hl hB).mono ?_
  rintro e w' ⟨rfl, h1, h2⟩
  have hk : Kw (some b) B wb (w.setCell ⟨wb, 1, none⟩ (.int .i64 ((l.length : Int) + 1))) w' := h2.kw
  refine ⟨rfl, ⟨h.le, ?_, fun b' hb => ?_⟩, (Kw.set _ _ _ h.le _ _ _).trans hk⟩
  · have := h2.2 wb _ (h.set (.int .i64 ((l.length : Int) + 1))) (by have := (h.bu b rfl).2; simp; omega) (fun c fz e => by injection e with _ e2; exact absurd e2 (by decide))
    rw [this]; simp
  · cases hb; exact ⟨h1, (h.bu b rfl).2⟩
abbrev EnteredW (K : Nat) : Prop := ∀ args w, (callFunc K args).run Tryz.prog w = .ok (.enter K args) w
structure Wn (m : Option Nat) (B wb k1 k2 : Nat) (w : World) : Prop where
 wi : Wi m B wb (.map (some k1)) (.map (some k2)) [] w
 n1 : w.heap[k1]? = some (.map #[] 0)
 n2 : w.heap[k2]? = some (.map #[] 0)
 b1 : B <= k1
 b2 : B <= k2
 ne : k1 ≠ k2
abbrev wobj (m : Option Nat) (k1 k2 : Nat) : Obj := .cells #[wtp m, .int .i64 0, .map (some k1), .map (some k2)] 170
abbrev wnew (m : Option Nat) (w : World) : World := ((w.alloc (.map #[] 0)).alloc (.map #[] 0)).alloc (wobj m w.heap.size (w.heap.size + 1))
theorem Wn.new (m : Option Nat) (B : Nat) (w : World) (hB : B <= w.heap.size) (hb : ∀ b, m = some b -> Bu B b [] w) : Wn m B (w.heap.size + 2) w.heap.size (w.heap.size + 1) (wnew m w) := by
 have h0 : ((w.alloc (.map #[] 0)).alloc (.map #[] 0)).heap.size = w.heap.size + 2 := by simp
 refine ⟨⟨by omega, ?_, fun b e => ⟨((((hb b e).alloc _).alloc _).alloc _), ?_⟩⟩, ?_, ?_, hB, by omega, by omega⟩
 · have := heap_alloc_new ((w.alloc (.map #[] 0)).alloc (.map #[] 0)) (wobj m w.heap.size (w.heap.size + 1))
   rw [h0] at this
   simpa using this
 · have := (hb b e).le.2
   omega
 · rw [Lib.alloc_old _ _ _ (by simp; omega), Lib.alloc_old _ _ _ (by simp)]
   exact heap_alloc_new w _
 · rw [Lib.alloc_old _ _ _ (by simp)]
   have := heap_alloc_new (w.alloc (.map #[] 0)) (.map #[] 0)
   simpa using this
theorem zgd (m : Option Nat) (w : World) :
 Calls Tryz.prog 111 #[wtp m] w fun e w' => e = .returned (.pointer (some ⟨w.heap.size + 2, 0, none⟩)) /\ w' = wnew m w := by
 have hmm := @run_makeMap Tryz.prog
 go_enter Tryz.func111, Tryz.ntmps111
 go_wp2_with fail
 go_ret
 exact ⟨rfl, rfl⟩
/-- Text answers what the function writes. -/
theorem text_any' (K : Nat) (fs cs : Array Value) (eK : EnteredW K) (f : List UInt8) (w : World) (hf : f.length <= 140737488355328)
 (hW : ∀ (m : Option Nat) (B wb k1 k2 : Nat) (w1 : World), Below w.heap.size w w1 -> w.heap.size <= B -> B <= w1.heap.size -> Wn m B wb k1 k2 w1 ->
  Calls Tryz.prog K (fs.push (.pointer (some ⟨wb, 0, none⟩)) ++ cs) w1 fun e w2 => e = .returned (.tuple #[]) /\ (∃ nm sp, Wi m B wb nm sp f w2) /\ Below B w1 w2) :
 Calls Tryz.prog 80 #[.func (.func K) fs cs] w fun e w' => e = .returned (.string ⟨f.toArray⟩) /\ Below w.heap.size w w' := by
 have HW : Hid (∀ (m : Option Nat) (B wb k1 k2 : Nat) (w1 : World), Below w.heap.size w w1 -> w.heap.size <= B -> B <= w1.heap.size -> Wn m B wb k1 k2 w1 ->
  Calls Tryz.prog K (fs.push (.pointer (some ⟨wb, 0, none⟩)) ++ cs) w1 fun e w2 => e = .returned (.tuple #[]) /\ (∃ nm sp, Wi m B wb nm sp f w2) /\ Below B w1 w2) := hW
 clear hW
 go_enter Tryz.func80, Tryz.ntmps80
 go_wp2_with fail
 refine (zgd none w).mono ?_
 rintro e w0 ⟨rfl, hw0⟩
 have W0 : Wn none w.heap.size (w.heap.size + 2) w.heap.size (w.heap.size + 1) w0 := by rw [hw0]; exact Wn.new none w.heap.size w (Nat.le_refl _) (fun b e => by cases e)
 have B0 : Below w.heap.size w w0 := by rw [hw0]; exact ((bal w _).alloc (by simp) _).alloc (by simp; omega) _
 clear hw0
 go_wp2_with fail
 refine (HW.out none w.heap.size (w.heap.size + 2) _ _ w0 B0 (Nat.le_refl _) B0.size W0).mono ?_
 rintro e w2 ⟨rfl, ⟨nm, sp, W2⟩, B2⟩
 have c1 : w2.cell? ⟨w.heap.size + 2, 1, none⟩ = some (.int .i64 (f.length : Int)) := by rw [Lib.cell_of_heap W2.blk]; rfl
 have c2 : ∀ o, (w2.alloc o).cell? ⟨w.heap.size + 2, 1, none⟩ = some (.int .i64 (f.length : Int)) := fun o => by rw [World.cell?_alloc_lt _ _ _ W2.lt]; exact c1
 have K2 := B0.trans B2
 clear B0 B2 W0 c1
 go_wp2_with fail
 refine (zpo w2.heap.size w2.heap.size f.length _ (Nat.le_refl _) (heap_alloc_new w2 _) (by simp) (by omega)).mono ?_
 rintro e w4 ⟨rfl, U4, B4⟩
 have K4 : Below w.heap.size w w4 := (K2.alloc K2.size _).trans (B4.mono K2.size)
 have s4 : w2.heap.size <= w4.heap.size := Nat.le_trans (by simp) B4.size
 clear c2 W2
 go_wp2_with fail
 refine (zgd (some w2.heap.size) w4).mono ?_
 rintro e w5 ⟨rfl, hw5⟩
 have W5 : Wn (some w2.heap.size) w2.heap.size (w4.heap.size + 2) w4.heap.size (w4.heap.size + 1) w5 := by
  rw [hw5]; exact Wn.new _ _ w4 s4 (fun b e => by cases e; exact U4)
 have B5 : Below w4.heap.size w4 w5 := by rw [hw5]; exact ((bal w4 _).alloc (by simp) _).alloc (by simp; omega) _
 have K5 : Below w.heap.size w w5 := K4.trans (B5.mono K4.size)
 have s5 : w2.heap.size <= w5.heap.size := Nat.le_trans s4 B5.size
 clear hw5 U4 B4 B5
 go_wp2_with fail
 refine (HW.out (some w2.heap.size) w2.heap.size (w4.heap.size + 2) _ _ w5 K5 K2.size s5 W5).mono ?_
 rintro e w6 ⟨rfl, ⟨nm', sp', W6⟩, B6⟩
 have K6 : Below w.heap.size w w6 := K5.trans (B6.mono K2.size)
 have s6 : w2.heap.size <= w6.heap.size := Nat.le_trans s5 B6.size
 go_wp2_with fail
 refine (zgz w2.heap.size w2.heap.size f w6 (W6.bu _ rfl).1 s6).mono ?_
 rintro e w7 ⟨rfl, _, k7⟩
 go_wp2_with fail
 go_ret
 exact ⟨rfl, K6.trans (k7.1.mono K2.size)⟩
def nmT (n : List Nat) (o : Nat) : Ty := tV (zaq (idxOf o n))
def wtx (n : List Nat) (t : Ty) : List UInt8 := textT (sub (nmT n) t)
theorem form_wtx (t : Ty) : formT t = wtx (zaa t []) t := rfl
theorem zog {o : Nat} : ∀ (n r : List Nat), o ∈ n -> idxOf o (n ++ r) = idxOf o n := by
 intro n
 induction n with
 | nil => intro r h; simp at h
 | cons p n ih =>
  intro r h
  simp only [List.cons_append, idxOf]
  by_cases hp : p = o
  · rw [if_pos hp, if_pos hp]
  · rw [if_neg hp, if_neg hp, ih r (by rcases List.mem_cons.1 h with h | h; exact absurd h.symm hp; exact h)]
theorem idxOf_new {o : Nat} : ∀ (n : List Nat), o ∉ n -> idxOf o (n ++ [o]) = n.length := by
 intro n
 induction n with
 | nil => intro _; simp [idxOf]
 | cons p n ih =>
  intro h
  simp only [List.mem_cons, not_or] at h
  simp only [List.cons_append, idxOf, List.length_cons]
  rw [if_neg (fun e => h.1 e.symm), ih h.2]
theorem zef : ∀ (t : Ty) (n : List Nat), ∃ r, zaa t n = n ++ r := by
 intro t
 induction t with
 | nil => intro n; exact ⟨[], by simp [zaa]⟩
 | node g p u a b iha ihb =>
  intro n
  simp only [zaa]
  split
  · split
    · exact ⟨[], by simp⟩
    · exact ⟨_, rfl⟩
  · obtain ⟨r, hr⟩ := iha n
    obtain ⟨r', hr'⟩ := ihb (zaa a n)
    exact ⟨r ++ r', by rw [hr', hr]; simp⟩
def Cl (t : Ty) (n : List Nat) : Prop := zaa t n = n
theorem cl_node {g o : Nat} {u : Unit} {a b : Ty} {n : List Nat} (hg : g ≠ 2) (h : Cl (.node g o u a b) n) : Cl a n /\ Cl b n := by
 unfold Cl at *
 simp only [zaa, if_neg hg] at h
 obtain ⟨r, hr⟩ := zef a n
 obtain ⟨r', hr'⟩ := zef b (zaa a n)
 rw [hr', hr] at h
 have : r = [] /\ r' = [] := by
  have := congrArg List.length h
  simp only [List.length_append] at this
  exact ⟨List.eq_nil_of_length_eq_zero (by omega), List.eq_nil_of_length_eq_zero (by omega)⟩
 obtain ⟨rfl, rfl⟩ := this
 rw [List.append_nil] at hr
 rw [hr, List.append_nil] at hr'
 exact ⟨hr, hr'⟩
theorem Cl.ext : ∀ {t : Ty} {n : List Nat}, Cl t n -> ∀ r, Cl t (n ++ r) := by
 intro t
 induction t with
 | nil => intro n _ r; rfl
 | node g p u a b iha ihb =>
  intro n h r
  by_cases hg : g = 2
  · unfold Cl at *
    simp only [zaa, if_pos hg] at *
    split at h
    · rename_i hc
      rw [if_pos]
      rw [List.contains_iff_mem] at *
      exact List.mem_append_left _ hc
    · have := congrArg List.length h
      simp at this
  · have := cl_node hg h
    unfold Cl at *
    simp only [zaa, if_neg hg]
    rw [iha this.1 r, ihb this.2 r]
theorem znz : ∀ (t : Ty) (n : List Nat), Cl t (zaa t n) := by
 intro t
 induction t with
 | nil => intro n; rfl
 | node g p u a b iha ihb =>
  intro n
  by_cases hg : g = 2
  · unfold Cl
    simp only [zaa, if_pos hg]
    by_cases hc : n.contains p = true
    · rw [if_pos hc, if_pos hc]
    · rw [if_neg hc, if_pos (by simp)]
  · have h1 := iha n
    have h2 := ihb (zaa a n)
    unfold Cl at *
    simp only [zaa, if_neg hg]
    obtain ⟨r, hr⟩ := zef b (zaa a n)
    have h3 : Cl a (zaa b (zaa a n)) := by rw [hr]; exact Cl.ext (iha n) r
    rw [h3, h2]
theorem wtx_ext {t : Ty} {n : List Nat} (h : Cl t n) (r : List Nat) : wtx (n ++ r) t = wtx n t := by
 unfold wtx
 rw [zkw (v := n) (θ := nmT (n ++ r)) (θ' := nmT n) (fun o ho => by unfold nmT; rw [zog n r ho]) t n (fun o ho => by rw [h] at ho; exact ho)]
theorem zpi (n : List Nat) {t : Ty} (h : Ok t) : isFn (sub (nmT n) t) = isFn t := by
 rcases h.cases with rfl | rfl | ⟨o, _, _, rfl⟩ | ⟨a, _, rfl⟩ | ⟨a, b, _, _, rfl⟩ | ⟨a, b, _, _, rfl⟩ <;> simp [sub, isFn, nmT]
theorem isPr_nm (n : List Nat) {t : Ty} (h : Ok t) : isPr (sub (nmT n) t) = isPr t := by
 rcases h.cases with rfl | rfl | ⟨o, _, _, rfl⟩ | ⟨a, _, rfl⟩ | ⟨a, b, _, _, rfl⟩ | ⟨a, b, _, _, rfl⟩ <;> simp [sub, isPr, nmT]
theorem wtx_I (n : List Nat) : wtx n tI = [73] := by simp [wtx, sub, textT]
theorem wtx_B (n : List Nat) : wtx n tB = [66] := by simp [wtx, sub, textT]
theorem wtx_V (n : List Nat) (o : Nat) : wtx n (tV o) = zca (zaq (idxOf o n)) := by simp [wtx, sub, nmT, textT]
theorem wtx_L (n : List Nat) (a : Ty) : wtx n (tL a) = 91 :: (wtx n a ++ [93]) := by simp [wtx, sub, textT]
theorem wtx_P (n : List Nat) {a b : Ty} (ha : Ok a) (hb : Ok b) : wtx n (tP a b) = inBr (isFn a) (wtx n a) ++ 42 :: inBr (isFn b || isPr b) (wtx n b) := by
 show textT (.node 4 0 () (sub (nmT n) a) (sub (nmT n) b)) = _
 rw [textT]
 simp [zpi n ha, zpi n hb, isPr_nm n hb, wtx]
theorem wtx_F (n : List Nat) {a b : Ty} (ha : Ok a) (hb : Ok b) : wtx n (tF a b) = inBr (isFn a) (wtx n a) ++ 62 :: wtx n b := by
 show textT (.node 5 0 () (sub (nmT n) a) (sub (nmT n) b)) = _
 rw [textT]
 simp [zpi n ha, wtx]
theorem leaves_tL (a : Ty) (n : List Nat) : zaa (tL a) n = zaa a n := by simp [zaa]
theorem zod (a b : Ty) (n : List Nat) : zaa (tP a b) n = zaa b (zaa a n) := by simp [zaa]
theorem leaves_tF (a b : Ty) (n : List Nat) : zaa (tF a b) n = zaa b (zaa a n) := by simp [zaa]
theorem ziw (a b : Ty) (n : List Nat) : wtx (zaa b (zaa a n)) a = wtx (zaa a n) a := by
 obtain ⟨r, hr⟩ := zef b (zaa a n)
 rw [hr]
 exact wtx_ext (znz a n) r
theorem zlj (a b : Int) (em : Bool) (w : World) : (Instr.checkKey em 10000 263 (.agg #[.int .u8 a, .int .u8 b])).run Tryz.prog w = .ok () w := by kernel_rfl
theorem kv_now (a b : Int) (e : MapEntry) (es : List MapEntry) (fs) : Instr.findNow (.struct fs) (.agg #[.int .u8 a, .int .u8 b]) (e :: es) 0 = none := by kernel_rfl
theorem kv_eq (a b c d : Int) (w : World) : (Op.equal 263 (.agg #[.int .u8 a, .int .u8 b]) (.agg #[.int .u8 c, .int .u8 d])).run Tryz.prog w = .ok (a == c && b == d) w := kv_eqIn 9997 a b c d w
def lookV : List (Nat × Value) -> Nat -> Option Value
 | [], _ => none
 | (p, t) :: r, o => if p = o then some t else lookV r o
abbrev ent (p : Nat × Value) : Value × Value := (kv p.1, p.2)
theorem kask_any (o : Nat) (w : World) : ∀ (l : List (Nat × Value)) (es : List MapEntry) (i : Nat), es.map (fun e => (e.key, e.val)) = l.map ent ->
 ∃ j, (Instr.findAsking 263 (kv o) es i).run Tryz.prog w = .ok (match lookV l o with | none => none | some t => some (j, t)) w := by
 intro l
 induction l with
 | nil =>
  intro es i h
  obtain rfl : es = [] := by simpa using h
  exact ⟨0, by simp [Instr.findAsking, lookV]⟩
 | cons p l ih =>
  intro es i h
  obtain ⟨q, t⟩ := p
  cases es with
  | nil => simp at h
  | cons e es =>
   simp only [List.map_cons, List.cons.injEq, Prod.mk.injEq] at h
   obtain ⟨⟨hk, hv⟩, hr⟩ := h
   by_cases hq : q = o
   · subst hq
     refine ⟨i, ?_⟩
     simp only [Instr.findAsking, Sem.run_bind, hk, kv_eq, lookV, if_true, Result.andThen_ok, beq_self_eq_true, Bool.and_self, hv, Sem.run_pure]
   · have hne : (((o / 10 : Nat) : Int) == ((q / 10 : Nat) : Int) && ((o % 10 : Nat) : Int) == ((q % 10 : Nat) : Int)) = false := by
      rw [Bool.eq_false_iff]; simp; omega
     obtain ⟨j, hj⟩ := ih es (i + 1) hr
     refine ⟨j, ?_⟩
     simp only [Instr.findAsking, Sem.run_bind, hk, kv_eq, hne, lookV, if_neg hq, Result.andThen_ok, Bool.false_eq_true, if_false, hj]
theorem ziz (o : Nat) (w : World) (l : List (Nat × Value)) (es : List MapEntry) (h : es.map (fun e => (e.key, e.val)) = l.map ent) :
 ∃ j, (Instr.findKey 263 (kv o) es).run Tryz.prog w = .ok (match lookV l o with | none => none | some t => some (j, t)) w := by
 cases es with
 | nil =>
  obtain rfl : l = [] := by simpa using h.symm
  exact ⟨0, by simp [Instr.findKey, run_underlying Tryz.underlying263, Instr.findNow, lookV]⟩
 | cons e es =>
  obtain ⟨j, hj⟩ := kask_any o w l (e :: es) 0 h
  refine ⟨j, ?_⟩
  simp only [Instr.findKey, Sem.run_bind, run_underlying Tryz.underlying263, Result.andThen_ok, kv_now, hj]
def vnF : Nat -> List Nat -> List (Nat × Value)
 | _, [] => []
 | k, o :: r => (o, kv (zaq k)) :: vnF (k + 1) r
theorem zlo (o : Nat) : ∀ (n : List Nat) (k : Nat), lookV (vnF k n) o = if o ∈ n then some (kv (zaq (k + idxOf o n))) else none := by
 intro n
 induction n with
 | nil => intro k; simp [vnF, lookV]
 | cons p n ih =>
  intro k
  simp only [vnF, lookV, idxOf]
  by_cases hp : p = o
  · simp [hp]
  · rw [if_neg hp, ih (k + 1)]
    have : (o ∈ p :: n) ↔ o ∈ n := ⟨fun h => by rcases List.mem_cons.1 h with h | h; exact absurd h.symm hp; exact h, List.mem_cons_of_mem _⟩
    simp only [this, if_neg hp]
    have e : k + 1 + idxOf o n = k + (idxOf o n + 1) := by omega
    rw [e]
theorem vnF_snoc (o : Nat) : ∀ (n : List Nat) (k : Nat), vnF k (n ++ [o]) = vnF k n ++ [(o, kv (zaq (k + n.length)))] := by
 intro n
 induction n with
 | nil => intro k; simp [vnF]
 | cons p n ih =>
  intro k
  have e : k + 1 + n.length = k + (n.length + 1) := by omega
  simp [vnF, ih (k + 1), e]
theorem vnF_len : ∀ (n : List Nat) (k : Nat), (vnF k n).length = n.length := by
 intro n
 induction n with
 | nil => intro k; rfl
 | cons p n ih => intro k; simp [vnF, ih (k + 1)]
def WNm (k1 : Nat) (n : List Nat) (w : World) : Prop := ∃ es clock, w.heap[k1]? = some (.map es clock) /\ es.toList.map (fun e => (e.key, e.val)) = (vnF 0 n).map ent
theorem WNm.lt {k1 : Nat} {n : List Nat} {w : World} (h : WNm k1 n w) : k1 < w.heap.size := by
 obtain ⟨es, clock, hb, _⟩ := h
 exact (Array.getElem?_eq_some_iff.1 hb).1
theorem WNm.size {k1 : Nat} {n : List Nat} {w : World} (h : WNm k1 n w) : ∃ es clock, w.heap[k1]? = some (.map es clock) /\ es.size = n.length := by
 obtain ⟨es, clock, hb, he⟩ := h
 refine ⟨es, clock, hb, ?_⟩
 have := congrArg List.length he
 simpa [vnF_len] using this
theorem kvv_zero (w : World) : (zeroValue 263).run Tryz.prog w = .ok (.agg #[.int .u8 0, .int .u8 0]) w := by kernel_rfl
theorem name_none {k1 : Nat} {n : List Nat} {w : World} (h : WNm k1 n w) {o : Nat} (ho : o ∉ n) :
 (Instr.lookup 167 (.map (some k1)) (kv o) true).run Tryz.prog w = .ok (.tuple #[.agg #[.int .u8 0, .int .u8 0], .bool false]) w := by
 obtain ⟨es, clock, hb, he⟩ := h
 obtain ⟨j, hj⟩ := ziz o w (vnF 0 n) es.toList he
 rw [zlo, if_neg ho] at hj
 simp [Instr.lookup, run_underlying Tryz.underlying167, MapKept.run_getObj_map hb, zlj, hj, kvv_zero]
theorem name_some {k1 : Nat} {n : List Nat} {w : World} (h : WNm k1 n w) {o : Nat} (ho : o ∈ n) :
 (Instr.lookup 167 (.map (some k1)) (kv o) true).run Tryz.prog w = .ok (.tuple #[kv (zaq (idxOf o n)), .bool true]) w := by
 obtain ⟨es, clock, hb, he⟩ := h
 obtain ⟨j, hj⟩ := ziz o w (vnF 0 n) es.toList he
 rw [zlo, if_pos ho, Nat.zero_add] at hj
 simp [Instr.lookup, run_underlying Tryz.underlying167, MapKept.run_getObj_map hb, zlj, hj]
theorem name_put {k1 : Nat} {n : List Nat} {w : World} (h : WNm k1 n w) {o : Nat} (ho : o ∉ n) :
 ∃ w', (Instr.mapUpdate 167 (.map (some k1)) (kv o) (kv (zaq n.length))).run Tryz.prog w = .ok () w' /\ WNm k1 (n ++ [o]) w' /\ Gb k1 w w' := by
 have hlt := h.lt
 obtain ⟨es, clock, hb, he⟩ := h
 obtain ⟨j, hj⟩ := ziz o w (vnF 0 n) es.toList he
 rw [zlo, if_neg ho] at hj
 have G : Gb k1 w { w with heap := w.heap.setIfInBounds k1 (.map (es.push ⟨kv o, kv (zaq n.length), clock⟩) (clock + 1)) } := by
  refine ⟨rfl, rfl, rfl, by simp, fun k hk hne => ?_⟩
  have hne' : ¬ k1 = k := fun e => hne (by rw [e])
  simp [Array.getElem?_setIfInBounds, hne']
 refine ⟨{ w with heap := w.heap.setIfInBounds k1 (.map (es.push ⟨kv o, kv (zaq n.length), clock⟩) (clock + 1)) }, ?_, ⟨es.push ⟨kv o, kv (zaq n.length), clock⟩, clock + 1, ?_, ?_⟩, G⟩
 · simp [Instr.mapUpdate, run_underlying Tryz.underlying167, MapKept.run_getObj_map hb, zlj, hj, MapKept.run_setObj_map _ hb, Result.andThen]
 · simp [hlt]
 · simp [he, vnF_snoc]
def NdO (w : World) (v : Value) (q : Nat) : Prop :=
 (v = viL q /\ ∃ n x, w.heap[q]? = some (obL n x)) \/ (v = viP q /\ ∃ n x y, w.heap[q]? = some (obP n x y)) \/ (v = viF q /\ ∃ n x y, w.heap[q]? = some (obF n x y))
theorem zbd {T T' : TypeId} {x x' : Value} {c : Bool} {w : World} (h : (binOp .eql 94 (.iface T x) (.iface T' x')).run Tryz.prog w = .ok (.bool c) w) : (Op.equal 94 (.iface T x) (.iface T' x')).run Tryz.prog w = .ok c w := by
 simp only [binOp] at h
 cases hh : (Op.equal 94 (.iface T x) (.iface T' x')).run Tryz.prog w with
 | ok x w' => simp [hh] at h; rw [h.1, h.2]
 | _ => simp [hh] at h
theorem zfs {tp te : TypeId} {n q q' : Nat} {ca cb : Array Value} {ta tb : TypeId} {w : World} (hp : Tryz.prog.underlying tp = some (.pointer te)) (h1 : (Tryz.prog.info? tp).map (·.comparable) = some true) (h2 : (Tryz.prog.info? te).map (·.size) = some (n + 1)) (ha : w.heap[q]? = some (.cells ca ta (0, 0))) (hb : w.heap[q']? = some (.cells cb tb (0, 0))) :
 (binOp .eql 94 (.iface tp (.pointer (some ⟨q, 0, none⟩))) (.iface tp (.pointer (some ⟨q', 0, none⟩)))).run Tryz.prog w = .ok (.bool (decide (q = q'))) w := by
 obtain ⟨i, hi, hcmp⟩ := Option.map_eq_some_iff.1 h1
 obtain ⟨j, hj, hjs⟩ := Option.map_eq_some_iff.1 h2
 by_cases e : q = q'
 · subst e
   simpa using run_eql_iface_ptr_same (P := Tryz.prog) w ⟨q, 0, none⟩ Tryz.underlying94 hp hi hcmp hj
 · have := run_eql_iface_ptr_other (P := Tryz.prog) w Tryz.underlying94 hp hi hcmp hj (by rw [hjs]; omega) (a := ⟨q, 0, none⟩) (b := ⟨q', 0, none⟩) (by simp [e]) ha hb
   simpa [e] using this
theorem nd_eq {w : World} {v v' : Value} {q q' : Nat} (h : NdO w v q) (h' : NdO w v' q') : (Op.equal 94 v v').run Tryz.prog w = .ok (decide (q = q')) w := by
 rcases h with ⟨rfl, n, x, hq⟩ | ⟨rfl, n, x, y, hq⟩ | ⟨rfl, n, x, y, hq⟩ <;> rcases h' with ⟨rfl, n', x', hq'⟩ | ⟨rfl, n', x', y', hq'⟩ | ⟨rfl, n', x', y', hq'⟩
 · apply zbd; exact zfs Tryz.underlying256 infoPL sizeL hq hq'
 · have e : q ≠ q' := by rintro rfl; rw [hq] at hq'; simp at hq'
   rw [decide_eq_false e]; apply zbd; exact zah _ _ w (by decide)
 · have e : q ≠ q' := by rintro rfl; rw [hq] at hq'; simp at hq'
   rw [decide_eq_false e]; apply zbd; exact zah _ _ w (by decide)
 · have e : q ≠ q' := by rintro rfl; rw [hq] at hq'; simp at hq'
   rw [decide_eq_false e]; apply zbd; exact zah _ _ w (by decide)
 · apply zbd; exact zfs Tryz.underlying259 infoPP sizeP hq hq'
 · have e : q ≠ q' := by rintro rfl; rw [hq] at hq'; simp at hq'
   rw [decide_eq_false e]; apply zbd; exact zah _ _ w (by decide)
 · have e : q ≠ q' := by rintro rfl; rw [hq] at hq'; simp at hq'
   rw [decide_eq_false e]; apply zbd; exact zah _ _ w (by decide)
 · have e : q ≠ q' := by rintro rfl; rw [hq] at hq'; simp at hq'
   rw [decide_eq_false e]; apply zbd; exact zah _ _ w (by decide)
 · apply zbd; exact zfs Tryz.underlying243 infoPF sizeF hq hq'
theorem zlu {w : World} {v : Value} {q : Nat} (h : NdO w v q) (em : Bool) (w' : World) : (Instr.checkKey em 10000 94 v).run Tryz.prog w' = .ok () w' := by
 rcases h with ⟨rfl, _⟩ | ⟨rfl, _⟩ | ⟨rfl, _⟩ <;> kernel_rfl
theorem nd_now {w : World} {v : Value} {q : Nat} (h : NdO w v q) (e : MapEntry) (es : List MapEntry) (m) : Instr.findNow (.interface m) v (e :: es) 0 = none := by
 rcases h with ⟨rfl, _⟩ | ⟨rfl, _⟩ | ⟨rfl, _⟩ <;> rfl
abbrev Spn : Type := Nat × Value × Nat × Nat
abbrev spv (p : Spn) : Value × Value := (p.2.1, .agg #[.int .i64 (p.2.2.1 : Int), .int .i64 (p.2.2.2 : Int)])
def lookS : List Spn -> Nat -> Option (Nat × Nat)
 | [], _ => none
 | p :: r, q => if p.1 = q then some p.2.2 else lookS r q
theorem ask_spans {w : World} {v : Value} {q : Nat} (hv : NdO w v q) : ∀ (l : List Spn) (es : List MapEntry) (i : Nat), (∀ p ∈ l, NdO w p.2.1 p.1) -> es.map (fun e => (e.key, e.val)) = l.map spv ->
 ∃ j, (Instr.findAsking 94 v es i).run Tryz.prog w = .ok (match lookS l q with | none => none | some t => some (j, .agg #[.int .i64 (t.1 : Int), .int .i64 (t.2 : Int)])) w := by
 intro l
 induction l with
 | nil =>
  intro es i _ h
  obtain rfl : es = [] := by simpa using h
  exact ⟨0, by simp [Instr.findAsking, lookS]⟩
 | cons p l ih =>
  intro es i hn h
  cases es with
  | nil => simp at h
  | cons e es =>
   simp only [List.map_cons, List.cons.injEq, Prod.mk.injEq] at h
   obtain ⟨⟨hk, hval⟩, hr⟩ := h
   have he := nd_eq hv (hn p List.mem_cons_self)
   by_cases hq : p.1 = q
   · refine ⟨i, ?_⟩
     rw [decide_eq_true hq.symm] at he
     simp only [Instr.findAsking, Sem.run_bind, hk, he, lookS, if_pos hq, Result.andThen_ok, if_true, hval, Sem.run_pure]
   · obtain ⟨j, hj⟩ := ih es (i + 1) (fun p hp => hn p (List.mem_cons_of_mem _ hp)) hr
     refine ⟨j, ?_⟩
     rw [decide_eq_false (fun e => hq e.symm)] at he
     simp only [Instr.findAsking, Sem.run_bind, hk, he, lookS, if_neg hq, Result.andThen_ok, Bool.false_eq_true, if_false, hj]
theorem zhb {w : World} {v : Value} {q : Nat} (hv : NdO w v q) (l : List Spn) (es : List MapEntry) (hn : ∀ p ∈ l, NdO w p.2.1 p.1) (h : es.map (fun e => (e.key, e.val)) = l.map spv) :
 ∃ j, (Instr.findKey 94 v es).run Tryz.prog w = .ok (match lookS l q with | none => none | some t => some (j, .agg #[.int .i64 (t.1 : Int), .int .i64 (t.2 : Int)])) w := by
 cases es with
 | nil =>
  obtain rfl : l = [] := by simpa using h.symm
  exact ⟨0, by simp [Instr.findKey, run_underlying Tryz.underlying94, Instr.findNow, lookS]⟩
 | cons e es =>
  obtain ⟨j, hj⟩ := ask_spans hv l (e :: es) 0 hn h
  refine ⟨j, ?_⟩
  simp only [Instr.findKey, Sem.run_bind, run_underlying Tryz.underlying94, Result.andThen_ok, nd_now hv, hj]
def Sp (k2 : Nat) (l : List Spn) (w : World) : Prop := ∃ es clock, w.heap[k2]? = some (.map es clock) /\ es.toList.map (fun e => (e.key, e.val)) = l.map spv /\ ∀ p ∈ l, NdO w p.2.1 p.1
theorem Sp.lt {k2 : Nat} {l : List Spn} {w : World} (h : Sp k2 l w) : k2 < w.heap.size := by
 obtain ⟨es, clock, hb, _⟩ := h
 exact (Array.getElem?_eq_some_iff.1 hb).1
theorem span_zero (w : World) : (zeroValue 217).run Tryz.prog w = .ok (.agg #[.int .i64 0, .int .i64 0]) w := by kernel_rfl
theorem span_none {k2 : Nat} {l : List Spn} {w : World} (h : Sp k2 l w) {v : Value} {q : Nat} (hv : NdO w v q) (ho : lookS l q = none) :
 (Instr.lookup 168 (.map (some k2)) v true).run Tryz.prog w = .ok (.tuple #[.agg #[.int .i64 0, .int .i64 0], .bool false]) w := by
 obtain ⟨es, clock, hb, he, hn⟩ := h
 obtain ⟨j, hj⟩ := zhb hv l es.toList hn he
 rw [ho] at hj
 simp [Instr.lookup, run_underlying Tryz.underlying168, MapKept.run_getObj_map hb, zlu hv, hj, span_zero]
theorem span_some {k2 : Nat} {l : List Spn} {w : World} (h : Sp k2 l w) {v : Value} {q b e : Nat} (hv : NdO w v q) (ho : lookS l q = some (b, e)) :
 (Instr.lookup 168 (.map (some k2)) v true).run Tryz.prog w = .ok (.tuple #[.agg #[.int .i64 (b : Int), .int .i64 (e : Int)], .bool true]) w := by
 obtain ⟨es, clock, hb, he, hn⟩ := h
 obtain ⟨j, hj⟩ := zhb hv l es.toList hn he
 rw [ho] at hj
 simp [Instr.lookup, run_underlying Tryz.underlying168, MapKept.run_getObj_map hb, zlu hv, hj]
theorem span_put {k2 : Nat} {l : List Spn} {w : World} (h : Sp k2 l w) {v : Value} {q b e : Nat} (hv : NdO w v q) (ho : lookS l q = none) :
 ∃ w', (Instr.mapUpdate 168 (.map (some k2)) v (.agg #[.int .i64 (b : Int), .int .i64 (e : Int)])).run Tryz.prog w = .ok () w' /\ Gb k2 w w' /\ Sp k2 (l ++ [(q, v, b, e)]) w' := by
 have hlt := h.lt
 obtain ⟨es, clock, hb, he, hn⟩ := h
 obtain ⟨j, hj⟩ := zhb hv l es.toList hn he
 rw [ho] at hj
 have G : Gb k2 w { w with heap := w.heap.setIfInBounds k2 (.map (es.push ⟨v, .agg #[.int .i64 (b : Int), .int .i64 (e : Int)], clock⟩) (clock + 1)) } := by
  refine ⟨rfl, rfl, rfl, by simp, fun k hk hne => ?_⟩
  have hne' : ¬ k2 = k := fun e => hne (by rw [e])
  simp [Array.getElem?_setIfInBounds, hne']
 have KN : ∀ v q, NdO w v q -> NdO { w with heap := w.heap.setIfInBounds k2 (.map (es.push ⟨v, .agg #[.int .i64 (b : Int), .int .i64 (e : Int)], clock⟩) (clock + 1)) } v q := by
  intro v q h
  have hne : ∀ c T, w.heap[q]? = some (.cells c T (0, 0)) -> ¬ k2 = q := by rintro c T hq rfl; rw [hb] at hq; cases hq
  rcases h with ⟨rfl, n, x, hq⟩ | ⟨rfl, n, x, y, hq⟩ | ⟨rfl, n, x, y, hq⟩
  · exact .inl ⟨rfl, n, x, by simp [Array.getElem?_setIfInBounds, hne _ _ hq, hq]⟩
  · exact .inr (.inl ⟨rfl, n, x, y, by simp [Array.getElem?_setIfInBounds, hne _ _ hq, hq]⟩)
  · exact .inr (.inr ⟨rfl, n, x, y, by simp [Array.getElem?_setIfInBounds, hne _ _ hq, hq]⟩)
 have KN' : ∀ x q, NdO w x q -> NdO { w with heap := w.heap.setIfInBounds k2 (.map (es.push ⟨v, .agg #[.int .i64 (b : Int), .int .i64 (e : Int)], clock⟩) (clock + 1)) } x q := by
  intro x q h
  have hne : ∀ c T, w.heap[q]? = some (.cells c T (0, 0)) -> ¬ k2 = q := by rintro c T hq rfl; rw [hb] at hq; cases hq
  rcases h with ⟨rfl, n, x, hq⟩ | ⟨rfl, n, x, y, hq⟩ | ⟨rfl, n, x, y, hq⟩
  · exact .inl ⟨rfl, n, x, by simp [Array.getElem?_setIfInBounds, hne _ _ hq, hq]⟩
  · exact .inr (.inl ⟨rfl, n, x, y, by simp [Array.getElem?_setIfInBounds, hne _ _ hq, hq]⟩)
  · exact .inr (.inr ⟨rfl, n, x, y, by simp [Array.getElem?_setIfInBounds, hne _ _ hq, hq]⟩)
 refine ⟨_, ?_, G, ⟨es.push ⟨v, .agg #[.int .i64 (b : Int), .int .i64 (e : Int)], clock⟩, clock + 1, ?_, ?_, ?_⟩⟩
 · simp [Instr.mapUpdate, run_underlying Tryz.underlying168, MapKept.run_getObj_map hb, zlu hv, hj, MapKept.run_setObj_map _ hb, Result.andThen]
 · simp [hlt]
 · simp [he]
 · intro p hp
   rcases List.mem_append.1 hp with hp | hp
   · exact KN' _ _ (hn p hp)
   · simp at hp; subst hp; exact KN' _ _ hv
def SpOk (n : List Nat) (l : List UInt8) (w : World) (sp : List Spn) : Prop :=
 ∀ p ∈ sp, ∃ t, Ok t /\ Tv w t p.2.1 /\ Cl t n /\ p.2.2.1 <= p.2.2.2 /\ p.2.2.2 <= l.length /\ (l.drop p.2.2.1).take (p.2.2.2 - p.2.2.1) = wtx n t
structure Wt (m : Option Nat) (B wb k1 k2 : Nat) (n : List Nat) (l : List UInt8) (sp : List Spn) (w : World) : Prop where
 wi : Wi m B wb (.map (some k1)) (.map (some k2)) l w
 nm : WNm k1 n w
 spm : Sp k2 sp w
 so : SpOk n l w sp
 b1 : B <= k1
 b2 : B <= k2
 ne : k1 ≠ k2
 nd : n.Nodup
 rg : ∀ o ∈ n, 970 <= o /\ o < 1230
def KW (m : Option Nat) (B wb k1 k2 : Nat) (w w' : World) : Prop :=
 Below B w w' /\ ∀ k o, w.heap[k]? = some o -> k ≠ wb -> k ≠ k1 -> k ≠ k2 -> m ≠ some k -> (∀ c fz, o ≠ .cells c 5 fz) -> w'.heap[k]? = some o
theorem KW.refl (m : Option Nat) (B wb k1 k2 : Nat) (w : World) : KW m B wb k1 k2 w w := ⟨Below.refl B w, fun _ _ h _ _ _ _ _ => h⟩
theorem KW.trans {m : Option Nat} {B wb k1 k2 : Nat} {x y z : World} (h : KW m B wb k1 k2 x y) (k : KW m B wb k1 k2 y z) : KW m B wb k1 k2 x z :=
 ⟨h.1.trans k.1, fun q o h1 h2 h3 h4 h5 h6 => k.2 q o (h.2 q o h1 h2 h3 h4 h5 h6) h2 h3 h4 h5 h6⟩
theorem KW.alloc {m : Option Nat} {B wb k1 k2 : Nat} {x y : World} (h : KW m B wb k1 k2 x y) (hB : B <= y.heap.size) (o : Obj) : KW m B wb k1 k2 x (y.alloc o) :=
 ⟨h.1.alloc hB o, fun q o' h1 h2 h3 h4 h5 h6 => by
  have := h.2 q o' h1 h2 h3 h4 h5 h6
  exact (Lib.alloc_old y o q (Array.getElem?_eq_some_iff.1 this).1).trans this⟩
theorem KW.drewN {m : Option Nat} {B wb k1 k2 : Nat} {x y : World} (h : KW m B wb k1 k2 x y) (n : Nat) : KW m B wb k1 k2 x (y.drewN n) := ⟨below_drewN h.1 n, fun q o h1 h2 h3 h4 h5 h6 => h.2 q o h1 h2 h3 h4 h5 h6⟩
theorem KW.size {m : Option Nat} {B wb k1 k2 : Nat} {x y : World} (h : KW m B wb k1 k2 x y) : x.heap.size <= y.heap.size := h.1.size
theorem Kw.kw {m : Option Nat} {B wb k1 k2 : Nat} {w w' : World} (h : Kw m B wb w w') : KW m B wb k1 k2 w w' := ⟨h.1, fun q o h1 h2 _ _ h5 h6 => h.2 q o h1 h2 h5 h6⟩
theorem Gb.kw1 {m : Option Nat} {B wb k1 k2 : Nat} {w w' : World} (hB : B <= k1) (hs : B <= w.heap.size) (h : Gb k1 w w') : KW m B wb k1 k2 w w' :=
 ⟨⟨h.os, h.tape, h.output, h.size, fun k hk => h.block k (by omega) (by simp; omega)⟩, fun q o h1 _ h3 _ _ _ => by
  rw [h.block q (Array.getElem?_eq_some_iff.1 h1).1 (by simpa using h3)]; exact h1⟩
theorem Gb.kw2 {m : Option Nat} {B wb k1 k2 : Nat} {w w' : World} (hB : B <= k2) (hs : B <= w.heap.size) (h : Gb k2 w w') : KW m B wb k1 k2 w w' :=
 ⟨⟨h.os, h.tape, h.output, h.size, fun k hk => h.block k (by omega) (by simp; omega)⟩, fun q o h1 _ _ h4 _ _ => by
  rw [h.block q (Array.getElem?_eq_some_iff.1 h1).1 (by simpa using h4)]; exact h1⟩
theorem Wt.kept {m : Option Nat} {B wb k1 k2 : Nat} {n : List Nat} {l : List UInt8} {sp : List Spn} {w w' : World} (h : Wt m B wb k1 k2 n l sp w) (k : KW m B wb k1 k2 w w') : KeptN w w' := by
 intro q c T hT hq
 refine k.2 q _ hq ?_ ?_ ?_ ?_ ?_
 · rintro rfl
   rw [h.wi.blk] at hq
   simp only [Option.some.injEq, Obj.cells.injEq] at hq
   rcases hT with e | e | e <;> rw [<- hq.2.1] at e <;> exact absurd e (by decide)
 · rintro rfl
   obtain ⟨es, cl, hb, _⟩ := h.nm
   rw [hb] at hq; cases hq
 · rintro rfl
   obtain ⟨es, cl, hb, _⟩ := h.spm
   rw [hb] at hq; cases hq
 · intro e
   have hb := (h.wi.bu q e).1
   rcases hb with ⟨_, v, hb, _⟩ | ⟨_, v, hb, _⟩ <;>
   · rw [hb] at hq
     simp only [Option.some.injEq, Obj.cells.injEq] at hq
     rcases hT with e | e | e <;> rw [<- hq.2.1] at e <;> exact absurd e (by decide)
 · intro c' fz e
   injection e with _ e2
   rcases hT with e | e | e <;> rw [e] at e2 <;> exact absurd e2 (by decide)
theorem NdO.kept {w w' : World} (hk : KeptN w w') {v : Value} {q : Nat} (h : NdO w v q) : NdO w' v q := by
 rcases h with ⟨rfl, n, x, hq⟩ | ⟨rfl, n, x, y, hq⟩ | ⟨rfl, n, x, y, hq⟩
 · exact .inl ⟨rfl, n, x, hk _ _ _ (.inl rfl) hq⟩
 · exact .inr (.inl ⟨rfl, n, x, y, hk _ _ _ (.inr (.inl rfl)) hq⟩)
 · exact .inr (.inr ⟨rfl, n, x, y, hk _ _ _ (.inr (.inr rfl)) hq⟩)
theorem SpOk.ext {n : List Nat} {l : List UInt8} {w w' : World} {sp : List Spn} (h : SpOk n l w sp) (hk : KeptN w w') (r : List Nat) (f : List UInt8) : SpOk (n ++ r) (l ++ f) w' sp := by
 intro p hp
 obtain ⟨t, h1, h2, h3, h4, h5, h6⟩ := h p hp
 refine ⟨t, h1, Tv.keptN hk _ _ h2, h3.ext r, h4, by simp; omega, ?_⟩
 rw [wtx_ext h3, <- h6, List.drop_append_of_le_length (by omega), List.take_append_of_le_length (by simp; omega)]
theorem Wt.text {m : Option Nat} {B wb k1 k2 : Nat} {n : List Nat} {l f : List UInt8} {sp : List Spn} {w w' : World} (h : Wt m B wb k1 k2 n l sp w) (h' : Wi m B wb (.map (some k1)) (.map (some k2)) (l ++ f) w') (k : Kw m B wb w w') : Wt m B wb k1 k2 n (l ++ f) sp w' := by
 have hk := h.kept k.kw
 have hm : ∀ (q : Nat) (es : Array MapEntry) (cl : Nat), w.heap[q]? = some (Obj.map es cl) -> w'.heap[q]? = some (Obj.map es cl) := by
  intro q es cl hq
  refine k.2 q _ hq ?_ ?_ (fun c fz e => by cases e)
  · rintro rfl; rw [h.wi.blk] at hq; cases hq
  · intro e
    rcases (h.wi.bu q e).1 with ⟨_, v, hb, _⟩ | ⟨_, v, hb, _⟩ <;> rw [hb] at hq <;> cases hq
 obtain ⟨es, cl, hb, he⟩ := h.nm
 obtain ⟨es2, cl2, hb2, he2, hn2⟩ := h.spm
 exact ⟨h', ⟨es, cl, hm _ _ _ hb, he⟩, ⟨es2, cl2, hm _ _ _ hb2, he2, fun p hp => (hn2 p hp).kept hk⟩, by simpa using h.so.ext hk [] f, h.b1, h.b2, h.ne, h.nd, h.rg⟩
theorem Wt.alloc {m : Option Nat} {B wb k1 k2 : Nat} {n : List Nat} {l : List UInt8} {sp : List Spn} {w : World} (h : Wt m B wb k1 k2 n l sp w) (hB : B <= w.heap.size) (o : Obj) : Wt m B wb k1 k2 n l sp (w.alloc o) := by
 have := h.text (f := []) (by simpa using h.wi.alloc o) ((Kw.refl m B wb w).alloc hB o)
 simpa using this
theorem Wt.drewN {m : Option Nat} {B wb k1 k2 : Nat} {n : List Nat} {l : List UInt8} {sp : List Spn} {w : World} (h : Wt m B wb k1 k2 n l sp w) (j : Nat) : Wt m B wb k1 k2 n l sp (w.drewN j) := by
 have := h.text (f := []) (by simpa using h.wi.drewN j) ((Kw.refl m B wb w).drewN j)
 simpa using this
theorem ret_one {fn : Func} {p : Tmp} (h : fn.results = #[.cell p 263]) {tmps : Array Value} {w : World} {g : Nat} {a b : Value} {Q : Ending -> World -> Prop}
 (hp : tmps.getD p undef = .pointer (some ⟨g, 0, none⟩)) (hg : w.heap[g]? = some (.cells #[a, b] 263 (0, 0))) (hq : Q (.returned (.agg #[a, b])) w) : bodyPost Tryz.prog fn Q Exit.ret { tmps := tmps, defers := [] } w :=
 bodyPost_ret (results_cell_row h tmps w g 263 #[a, b] (0, 0) _ hp hg Tryz.underlying263 rfl (sizeVar a b)) rfl hq
theorem Wi.far {m : Option Nat} {B wb : Nat} {nm sp : Value} {l : List UInt8} {w : World} (h : Wi m B wb nm sp l w) {q o : Nat} {cs : Array Value} {T : TypeId} {fz : Nat × Nat} (hq : w.heap[q]? = some (.cells cs T fz)) (h1 : T ≠ 5) (h2 : T ≠ 170) (h3 : T ≠ 165) (v : Value) : Wi m B wb nm sp l (w.setCell ⟨q, o, none⟩ v) := by
 have hne : wb ≠ q := by
  rintro rfl
  rw [h.blk] at hq
  simp only [Option.some.injEq, Obj.cells.injEq] at hq
  exact h2 hq.2.1.symm
 refine ⟨h.le, ?_, fun b hb => ⟨(h.bu b hb).1.far hq h1 ?_ v, (h.bu b hb).2⟩⟩
 · rw [Below.heap_setCell _ _ _ _ (by show ¬ _; simp; omega)]; exact h.blk
 · rintro rfl
   rcases (h.bu b hb).1 with ⟨_, x, hx, _⟩ | ⟨_, x, hx, _⟩ <;>
   · rw [hx] at hq
     simp only [Option.some.injEq, Obj.cells.injEq] at hq
     exact h3 hq.2.1.symm
theorem Wt.of {m : Option Nat} {B wb k1 k2 : Nat} {n : List Nat} {l : List UInt8} {sp : List Spn} {w w' : World} (h : Wt m B wb k1 k2 n l sp w) (h' : Wi m B wb (.map (some k1)) (.map (some k2)) l w') (hk : KeptN w w') (hm : ∀ (q : Nat) (es : Array MapEntry) (cl : Nat), w.heap[q]? = some (Obj.map es cl) -> w'.heap[q]? = some (Obj.map es cl)) : Wt m B wb k1 k2 n l sp w' := by
 obtain ⟨es, cl, hb, he⟩ := h.nm
 obtain ⟨es2, cl2, hb2, he2, hn2⟩ := h.spm
 exact ⟨h', ⟨es, cl, hm _ _ _ hb, he⟩, ⟨es2, cl2, hm _ _ _ hb2, he2, fun p hp => (hn2 p hp).kept hk⟩, by simpa using h.so.ext hk [] [], h.b1, h.b2, h.ne, h.nd, h.rg⟩
theorem Wt.far {m : Option Nat} {B wb k1 k2 : Nat} {n : List Nat} {l : List UInt8} {sp : List Spn} {w : World} (h : Wt m B wb k1 k2 n l sp w) {q o : Nat} {cs : Array Value} {fz : Nat × Nat} (hq : w.heap[q]? = some (.cells cs 263 fz)) (v : Value) : Wt m B wb k1 k2 n l sp (w.setCell ⟨q, o, none⟩ v) := by
 refine h.of (h.wi.far hq (by decide) (by decide) (by decide) v) ?_ ?_
 · intro q' c T hT hq'
   rw [Below.heap_setCell _ _ _ _ ?_]
   · exact hq'
   · show ¬ _
     intro e
     simp at e
     subst e
     rw [hq] at hq'
     simp only [Option.some.injEq, Obj.cells.injEq] at hq'
     rcases hT with e | e | e <;> rw [<- hq'.2.1] at e <;> exact absurd e (by decide)
 · intro q' es cl hq'
   rw [Below.heap_setCell _ _ _ _ ?_]
   · exact hq'
   · show ¬ _
     intro e
     simp at e
     subst e
     rw [hq] at hq'
     cases hq'
theorem KW.far {m : Option Nat} {B wb k1 k2 : Nat} {w w' : World} (h : KW m B wb k1 k2 w w') {q o : Nat} (hq : w.heap.size <= q) (hB : B <= q) (v : Value) : KW m B wb k1 k2 w (w'.setCell ⟨q, o, none⟩ v) :=
 ⟨h.1.setCell (p := ⟨q, o, none⟩) hB _, fun k ob h1 h2 h3 h4 h5 h6 => by
  have hlt := (Array.getElem?_eq_some_iff.1 h1).1
  rw [Below.heap_setCell _ _ _ _ (by show ¬ _; simp; omega)]; exact h.2 k ob h1 h2 h3 h4 h5 h6⟩
theorem Wt.named {m : Option Nat} {B wb k1 k2 : Nat} {n : List Nat} {l : List UInt8} {sp : List Spn} {w w' : World} (h : Wt m B wb k1 k2 n l sp w) {o : Nat} (ho : o ∉ n) (hr : 970 <= o /\ o < 1230) (hn : WNm k1 (n ++ [o]) w') (g : Gb k1 w w') : Wt m B wb k1 k2 (n ++ [o]) l sp w' := by
 obtain ⟨es, cl, hb, he⟩ := h.nm
 obtain ⟨es2, cl2, hb2, he2, hn2⟩ := h.spm
 have hne : ∀ q, (∀ es cl, w.heap[q]? ≠ some (Obj.map es cl)) \/ q = k2 -> ∀ ob, w.heap[q]? = some ob -> w'.heap[q]? = some ob := by
  intro q hq ob hob
  rw [g.block q (Array.getElem?_eq_some_iff.1 hob).1 ?_]
  · exact hob
  · rintro e
    have e : q = k1 := by simpa using e
    subst e
    rcases hq with hq | hq
    · exact hq es cl hb
    · exact h.ne hq
 have hk : KeptN w w' := fun q c T hT hq => hne q (.inl (fun es cl e => by rw [hq] at e; cases e)) _ hq
 refine ⟨⟨h.wi.le, hne _ (.inl (fun es cl e => by rw [h.wi.blk] at e; cases e)) _ h.wi.blk, fun b hb' => ⟨?_, (h.wi.bu b hb').2⟩⟩, hn, ⟨es2, cl2, hne _ (.inr rfl) _ hb2, he2, fun p hp => (hn2 p hp).kept hk⟩, by simpa using h.so.ext hk [o] [], h.b1, h.b2, h.ne, ?_, ?_⟩
 · have K : ∀ {x : Value} {bs : List Value}, w.ownsRowF B 5 1 x bs.length bs -> w'.ownsRowF B 5 1 x bs.length bs := by
    intro x bs hown
    refine hown.kept (row := some k1) ⟨g.os, g.tape, g.output, g.size, fun k hk hne' => g.block k hk hne'⟩ (Or.inr ?_)
    rcases hown.2 with ⟨rfl, _⟩ | ⟨gg, cap, cur, fz, rfl, _, hgg, _⟩
    · simp [Value.ownBlock]
    · intro e
      simp only [Value.ownBlock, Option.some.injEq] at e
      subst e
      rw [hb] at hgg
      cases hgg
   rcases (h.wi.bu b hb').1 with ⟨hB, x, hx, hown, hxne⟩ | ⟨hB, x, hx, hown, hxne⟩
   · exact .inl ⟨hB, x, hne _ (.inl (fun es cl e => by rw [hx] at e; cases e)) _ hx, K hown, hxne⟩
   · exact .inr ⟨hB, x, hne _ (.inl (fun es cl e => by rw [hx] at e; cases e)) _ hx, K hown, hxne⟩
 · rw [List.nodup_append]
   exact ⟨h.nd, by simp, fun a ha b hb e => by simp at hb; subst hb; subst e; exact ho ha⟩
 · intro x hx
   rcases List.mem_append.1 hx with hx | hx
   · exact h.rg x hx
   · simp at hx; subst hx; exact hr
theorem nm_byte {k : Nat} (h : k < 260) : zaq k / 10 = 97 + k % 26 /\ zaq k % 10 = k / 26 := by unfold zaq; omega
theorem zoz (k : Nat) (hk : k < 260) (w : World) :
 Calls Tryz.prog 200 #[.int .i64 (k : Int)] w fun e w' => e = .returned (kv (zaq k)) /\ ∃ o, w' = w.alloc o := by
 have e1 : ((zaq k / 10 : Nat) : Int) = 97 + (k : Int) % 26 := by
  rw [(nm_byte hk).1]; omega
 have e2 : ((zaq k % 10 : Nat) : Int) = (k : Int) / 26 := by
  rw [(nm_byte hk).2]; omega
 unfold kv
 rw [e1, e2]
 go_enter Tryz.func200, Tryz.ntmps200
 go_wp2_with fail
 refine ret_one rfl rfl (heap_alloc_new w _) ?_
 exact ⟨rfl, _, rfl⟩
theorem Wt.names {m : Option Nat} {B wb k1 k2 : Nat} {n : List Nat} {l : List UInt8} {sp : List Spn} {w : World} (h : Wt m B wb k1 k2 n l sp w) : n.length <= 260 := zjd 260 n h.nd h.rg
theorem idxOf_lt {o : Nat} {n : List Nat} (h : o ∈ n) : idxOf o n < n.length := (List.getElem?_eq_some_iff.1 (zmj n o h).1).1
theorem zng {k : Nat} (h : k < 260) : ∃ c1 c2, zaq k / 10 = c1 /\ zaq k % 10 = c2 /\ zca (zaq k) = (if c2 = 0 then [u8 c1] else [u8 c1, u8 (48 + c2)]) /\ c1 < 256 /\ c2 < 10 :=
 ⟨_, _, rfl, rfl, rfl, by unfold zaq; omega, by omega⟩
theorem var_old (m : Option Nat) (B wb k1 k2 : Nat) (n : List Nat) (l : List UInt8) (sp : List Spn) (w : World) (h : Wt m B wb k1 k2 n l sp w) (o : Nat) (ho : o ∈ n) (hl : l.length + 2 <= 140737488355328) (hB : B <= w.heap.size) :
 Calls Tryz.prog 163 #[.pointer (some ⟨wb, 0, none⟩), kv o] w fun e w' => e = .returned (.tuple #[]) /\ Wt m B wb k1 k2 n (l ++ zca (zaq (idxOf o n))) sp w' /\ KW m B wb k1 k2 w w' := by
 have hmg : ∀ k, w.heap.size <= k -> m ≠ some k := fun k hk e => by have := (h.wi.bu _ e).1.le.2; omega
 have hkk : idxOf o n < 260 := Nat.lt_of_lt_of_le (idxOf_lt ho) h.names
 have hlt := h.wi.lt
 have h1 := h.alloc hB (.cells #[.int .u8 ((o / 10 : Nat) : Int), .int .u8 ((o % 10 : Nat) : Int)] 263)
 have hs1 : B <= (w.alloc (.cells #[.int .u8 ((o / 10 : Nat) : Int), .int .u8 ((o % 10 : Nat) : Int)] 263)).heap.size := by simp; omega
 have LF := fun (wq : World) (hq : WNm k1 n wq) => name_some hq ho
 generalize idxOf o n = kk at *
 obtain ⟨c1, c2, e1, e2, hv, b1, b2⟩ := zng hkk
 have HV : Hid (zca (zaq kk) = (if c2 = 0 then [u8 c1] else [u8 c1, u8 (48 + c2)])) := hv
 clear hv
 unfold kv at LF
 rw [e1, e2] at LF
 clear e1 e2
 have L1 := LF (w.alloc (.cells #[.int .u8 ((o / 10 : Nat) : Int), .int .u8 ((o % 10 : Nat) : Int)] 263)).drew h1.nm
 have f4 := fun ob => LF ((w.alloc (.cells #[.int .u8 ((o / 10 : Nat) : Int), .int .u8 ((o % 10 : Nat) : Int)] 263)).drew.alloc ob) (h1.alloc hs1 ob).nm
 have d0 : (w.alloc (.cells #[.int .u8 ((o / 10 : Nat) : Int), .int .u8 ((o % 10 : Nat) : Int)] 263)).cell? ⟨w.heap.size, 0, none⟩ = some (.int .u8 ((o / 10 : Nat) : Int)) := by simp
 have d1 : (w.alloc (.cells #[.int .u8 ((o / 10 : Nat) : Int), .int .u8 ((o % 10 : Nat) : Int)] 263)).cell? ⟨w.heap.size, 1, none⟩ = some (.int .u8 ((o % 10 : Nat) : Int)) := by simp
 have c2' : (w.alloc (.cells #[.int .u8 ((o / 10 : Nat) : Int), .int .u8 ((o % 10 : Nat) : Int)] 263)).cell? ⟨wb, 2, none⟩ = some (.map (some k1)) := by rw [Lib.cell_of_heap h1.wi.blk]; rfl
 have f1 : ∀ ob, ((w.alloc (.cells #[.int .u8 ((o / 10 : Nat) : Int), .int .u8 ((o % 10 : Nat) : Int)] 263)).drew.alloc ob).cell? ⟨wb, 2, none⟩ = some (.map (some k1)) := fun ob => by rw [World.cell?_alloc_lt _ _ _ (by show wb < _; exact h1.wi.lt)]; exact c2'
 have f2 : ∀ ob, ((w.alloc (.cells #[.int .u8 ((o / 10 : Nat) : Int), .int .u8 ((o % 10 : Nat) : Int)] 263)).drew.alloc ob).cell? ⟨w.heap.size, 0, none⟩ = some (.int .u8 ((o / 10 : Nat) : Int)) := fun ob => by rw [World.cell?_alloc_lt _ _ _ (by show w.heap.size < _; simp)]; exact d0
 have f3 : ∀ ob, ((w.alloc (.cells #[.int .u8 ((o / 10 : Nat) : Int), .int .u8 ((o % 10 : Nat) : Int)] 263)).drew.alloc ob).cell? ⟨w.heap.size, 1, none⟩ = some (.int .u8 ((o % 10 : Nat) : Int)) := fun ob => by rw [World.cell?_alloc_lt _ _ _ (by show w.heap.size < _; simp)]; exact d1
 unfold kv at *
 generalize ((o / 10 : Nat) : Int) = x at *
 generalize ((o % 10 : Nat) : Int) = y at *
 go_enter Tryz.func163, Tryz.ntmps163
 go_wp2_with fail
 refine wp_region_held_drew (S := (fun wq => wq.cell? ⟨wb, 2, none⟩ = some (.map (some k1)) /\ wq.cell? ⟨w.heap.size, 0, none⟩ = some (.int .u8 x) /\ wq.cell? ⟨w.heap.size, 1, none⟩ = some (.int .u8 y) /\ (Instr.lookup 167 (.map (some k1)) (.agg #[.int .u8 x, .int .u8 y]) true).run Tryz.prog wq = .ok (.tuple #[.agg #[.int .u8 ((c1 : Nat) : Int), .int .u8 ((c2 : Nat) : Int)], .bool true]) wq)) (by kernel_rfl) (⟨c2', d0, d1, L1⟩) (fun hS => ?_)
 refine tkS 0 (.pointer (some ⟨wb, 0, none⟩)) hS ?_
 refine tkS 1 (.pointer (some ⟨wb, 0, none⟩)) hS ?_
 refine tkS 2 (.pointer (some ⟨wb, 2, none⟩)) hS ?_
 refine tkL 3 (.map (some k1)) hS ?_
 refine tkL 4 (.agg #[.int .u8 x, .int .u8 y]) hS ?_
 refine tkL 5 (.tuple #[.agg #[.int .u8 ((c1 : Nat) : Int), .int .u8 ((c2 : Nat) : Int)], .bool true]) hS ?_
 refine tkS 6 (.tuple #[.agg #[.int .u8 ((c1 : Nat) : Int), .int .u8 ((c2 : Nat) : Int)], .bool true]) hS ?_
 refine tkS 7 (.agg #[.int .u8 ((c1 : Nat) : Int), .int .u8 ((c2 : Nat) : Int)]) hS ?_
 refine tkS 8 (.bool true) hS ?_
 refine rd1 9 (fun KK hK => ?_)
 (try simp only [List.getElem_toArray, List.getElem_cons_succ, List.getElem_cons_zero])
 go_simp
 (try dsimp only)
 refine hK.out _ _ ⟨f1 _, f2 _, f3 _, f4 _⟩ (fun hS => nrm ?_)
 refine rd1 10 (fun KK hK => ?_)
 (try simp only [List.getElem_toArray, List.getElem_cons_succ, List.getElem_cons_zero])
 go_simp
 (try dsimp only)
 refine hK.out _ _ ⟨f1 _, f2 _, f3 _, f4 _⟩ (fun hS => nrm ?_)
 refine tkS 11 (.bool true) hS ?_
 refine wpAnyH_done (by kernel_rfl) ?_ _
 clear hS
 have HX : Wt m B wb k1 k2 n l sp ((w.alloc (.cells #[.int .u8 x, .int .u8 y] 263)).alloc (.cells #[.int .u8 ((c1 : Nat) : Int), .int .u8 ((c2 : Nat) : Int)] 263)).drew := ((h.alloc hB _).alloc (by simp; omega) _).drewN 1
 have KX : KW m B wb k1 k2 w ((w.alloc (.cells #[.int .u8 x, .int .u8 y] 263)).alloc (.cells #[.int .u8 ((c1 : Nat) : Int), .int .u8 ((c2 : Nat) : Int)] 263)).drew := (((KW.refl m B wb k1 k2 w).alloc hB _).alloc (by simp; omega) _).drewN 1
 have qx : ((w.alloc (.cells #[.int .u8 x, .int .u8 y] 263)).alloc (.cells #[.int .u8 ((c1 : Nat) : Int), .int .u8 ((c2 : Nat) : Int)] 263)).drew.heap[w.heap.size + 1]? = some (.cells #[.int .u8 ((c1 : Nat) : Int), .int .u8 ((c2 : Nat) : Int)] 263 (0, 0)) := by
  have qq : ((w.alloc (.cells #[.int .u8 x, .int .u8 y] 263)).alloc (.cells #[.int .u8 ((c1 : Nat) : Int), .int .u8 ((c2 : Nat) : Int)] 263)).heap[w.heap.size + 1]? = some (.cells #[.int .u8 ((c1 : Nat) : Int), .int .u8 ((c2 : Nat) : Int)] 263 (0, 0)) := by simpa using heap_alloc_new (w.alloc (.cells #[.int .u8 x, .int .u8 y] 263)) (.cells #[.int .u8 ((c1 : Nat) : Int), .int .u8 ((c2 : Nat) : Int)] 263)
  exact qq
 have sX : B <= ((w.alloc (.cells #[.int .u8 x, .int .u8 y] 263)).alloc (.cells #[.int .u8 ((c1 : Nat) : Int), .int .u8 ((c2 : Nat) : Int)] 263)).drew.heap.size := Nat.le_trans hB KX.size
 clear f1 f2 f3 f4 d0 d1 c2' L1 h1 hs1 LF h
 generalize ((w.alloc (.cells #[.int .u8 x, .int .u8 y] 263)).alloc (.cells #[.int .u8 ((c1 : Nat) : Int), .int .u8 ((c2 : Nat) : Int)] 263)).drew = X at *
 have e0 : X.cell? ⟨w.heap.size + 1, 0, none⟩ = some (.int .u8 (c1 : Int)) := cbl qx
 have nb : m ≠ some (w.heap.size + 1) := hmg _ (by omega)
 go_wp2_with fail
 refine (zbs m B wb _ _ l c1 _ HX.wi b1 (by omega) sX).mono ?_
 rintro e w1 ⟨rfl, h1, k1'⟩
 have q1 := k1'.box qx (by omega) nb (by decide)
 have e1 : w1.cell? ⟨w.heap.size + 1, 1, none⟩ = some (.int .u8 (c2 : Int)) := cbl q1
 have H1 := HX.text h1 k1'
 have K1 := KX.trans k1'.kw
 have s1 : B <= w1.heap.size := Nat.le_trans sX k1'.size
 clear e0 qx HX KX h1 k1' q1
 by_cases hd : c2 = 0
 · subst hd
   go_wp2_with fail
   go_end0
   rw [HV.out]
   exact ⟨rfl, H1, K1⟩
 · have hd' : (0 : Int) < (c2 : Int) := by omega
   have hd3 : IntKind.u8.wrap (48 + (c2 : Int)) = ((48 + c2 : Nat) : Int) := by rw [IntKind.wrap_u8]; omega
   have HV2 : Hid (zca (zaq kk) = [u8 c1, u8 (48 + c2)]) := by unfold Hid; rw [HV.out, if_neg hd]
   have B2 := zbs m B wb _ _ (l ++ [u8 c1]) (48 + c2) w1 H1.wi (by omega) (by simp; omega) s1
   have c2lt : (c2 : Int) < 10 := by omega
   clear HV hd
   go_wp2_with fail
   refine B2.mono ?_
   rintro e w2 ⟨rfl, h2, k2'⟩
   go_wp2_with fail
   go_end0
   rw [HV2.out]
   exact ⟨rfl, by simpa using H1.text h2 k2', K1.trans k2'.kw⟩
theorem var_new (m : Option Nat) (B wb k1 k2 : Nat) (n : List Nat) (l : List UInt8) (sp : List Spn) (w : World) (h : Wt m B wb k1 k2 n l sp w) (o : Nat) (ho : o ∉ n) (hr : 970 <= o /\ o < 1230) (hl : l.length + 2 <= 140737488355328) (hB : B <= w.heap.size) :
 Calls Tryz.prog 163 #[.pointer (some ⟨wb, 0, none⟩), kv o] w fun e w' => e = .returned (.tuple #[]) /\ Wt m B wb k1 k2 (n ++ [o]) (l ++ zca (zaq n.length)) sp w' /\ KW m B wb k1 k2 w w' := by
 have hmg : ∀ k, w.heap.size <= k -> m ≠ some k := fun k hk e => by have := (h.wi.bu _ e).1.le.2; omega
 have hkk : n.length < 260 := by
  have := zjd 260 (n ++ [o]) (by rw [List.nodup_append]; exact ⟨h.nd, by simp, fun a ha b hb e => by simp at hb; subst hb; subst e; exact ho ha⟩) (by intro z hz; rcases List.mem_append.1 hz with hz | hz; exact h.rg z hz; simp at hz; subst hz; exact hr)
  simp at this; omega
 have hk1 := h.nm.lt
 have hk2 := h.spm.lt
 have hlt := h.wi.lt
 have h1 := h.alloc hB (.cells #[.int .u8 ((o / 10 : Nat) : Int), .int .u8 ((o % 10 : Nat) : Int)] 263)
 have hs1 : B <= (w.alloc (.cells #[.int .u8 ((o / 10 : Nat) : Int), .int .u8 ((o % 10 : Nat) : Int)] 263)).heap.size := by simp; omega
 have LF := fun (wq : World) (hq : WNm k1 n wq) => name_none hq ho
 have L1 := LF (w.alloc (.cells #[.int .u8 ((o / 10 : Nat) : Int), .int .u8 ((o % 10 : Nat) : Int)] 263)).drew h1.nm
 have f4 := fun ob => LF ((w.alloc (.cells #[.int .u8 ((o / 10 : Nat) : Int), .int .u8 ((o % 10 : Nat) : Int)] 263)).drew.alloc ob) (h1.alloc hs1 ob).nm
 have d0 : (w.alloc (.cells #[.int .u8 ((o / 10 : Nat) : Int), .int .u8 ((o % 10 : Nat) : Int)] 263)).cell? ⟨w.heap.size, 0, none⟩ = some (.int .u8 ((o / 10 : Nat) : Int)) := by simp
 have d1 : (w.alloc (.cells #[.int .u8 ((o / 10 : Nat) : Int), .int .u8 ((o % 10 : Nat) : Int)] 263)).cell? ⟨w.heap.size, 1, none⟩ = some (.int .u8 ((o % 10 : Nat) : Int)) := by simp
 have c2' : (w.alloc (.cells #[.int .u8 ((o / 10 : Nat) : Int), .int .u8 ((o % 10 : Nat) : Int)] 263)).cell? ⟨wb, 2, none⟩ = some (.map (some k1)) := by rw [Lib.cell_of_heap h1.wi.blk]; rfl
 have f1 : ∀ ob, ((w.alloc (.cells #[.int .u8 ((o / 10 : Nat) : Int), .int .u8 ((o % 10 : Nat) : Int)] 263)).drew.alloc ob).cell? ⟨wb, 2, none⟩ = some (.map (some k1)) := fun ob => by rw [World.cell?_alloc_lt _ _ _ (by show wb < _; exact h1.wi.lt)]; exact c2'
 have f2 : ∀ ob, ((w.alloc (.cells #[.int .u8 ((o / 10 : Nat) : Int), .int .u8 ((o % 10 : Nat) : Int)] 263)).drew.alloc ob).cell? ⟨w.heap.size, 0, none⟩ = some (.int .u8 ((o / 10 : Nat) : Int)) := fun ob => by rw [World.cell?_alloc_lt _ _ _ (by show w.heap.size < _; simp)]; exact d0
 have f3 : ∀ ob, ((w.alloc (.cells #[.int .u8 ((o / 10 : Nat) : Int), .int .u8 ((o % 10 : Nat) : Int)] 263)).drew.alloc ob).cell? ⟨w.heap.size, 1, none⟩ = some (.int .u8 ((o % 10 : Nat) : Int)) := fun ob => by rw [World.cell?_alloc_lt _ _ _ (by show w.heap.size < _; simp)]; exact d1
 have PF := fun (wq : World) (hq : WNm k1 n wq) => name_put hq ho
 have SF := fun (wq : World) (hq : WNm k1 n wq) => hq.size
 have HNM := fun (wq : World) => zoz n.length hkk wq
 obtain ⟨c1, c2, e1, e2, hv, b1, b2⟩ := zng hkk
 have HV : Hid (zca (zaq n.length) = (if c2 = 0 then [u8 c1] else [u8 c1, u8 (48 + c2)])) := hv
 clear hv
 unfold kv at PF HNM LF L1 f4 ⊢
 rw [e1, e2] at PF HNM
 clear e1 e2
 have NW : Hid (∀ w1 w2 l sp, Wt m B wb k1 k2 n l sp w1 -> WNm k1 (n ++ [o]) w2 -> Gb k1 w1 w2 -> Wt m B wb k1 k2 (n ++ [o]) l sp w2) := fun w1 w2 l sp h h' g => h.named ho hr h' g
 generalize ((o / 10 : Nat) : Int) = x at *
 generalize ((o % 10 : Nat) : Int) = y at *
 go_enter Tryz.func163, Tryz.ntmps163
 go_wp2_with fail
 refine wp_region_held_drew (S := (fun wq => wq.cell? ⟨wb, 2, none⟩ = some (.map (some k1)) /\ wq.cell? ⟨w.heap.size, 0, none⟩ = some (.int .u8 x) /\ wq.cell? ⟨w.heap.size, 1, none⟩ = some (.int .u8 y) /\ (Instr.lookup 167 (.map (some k1)) (.agg #[.int .u8 x, .int .u8 y]) true).run Tryz.prog wq = .ok (.tuple #[.agg #[.int .u8 0, .int .u8 0], .bool false]) wq)) (by kernel_rfl) (⟨c2', d0, d1, L1⟩) (fun hS => ?_)
 refine tkS 0 (.pointer (some ⟨wb, 0, none⟩)) hS ?_
 refine tkS 1 (.pointer (some ⟨wb, 0, none⟩)) hS ?_
 refine tkS 2 (.pointer (some ⟨wb, 2, none⟩)) hS ?_
 refine tkL 3 (.map (some k1)) hS ?_
 refine tkL 4 (.agg #[.int .u8 x, .int .u8 y]) hS ?_
 refine tkL 5 (.tuple #[.agg #[.int .u8 0, .int .u8 0], .bool false]) hS ?_
 refine tkS 6 (.tuple #[.agg #[.int .u8 0, .int .u8 0], .bool false]) hS ?_
 refine tkS 7 (.agg #[.int .u8 0, .int .u8 0]) hS ?_
 refine tkS 8 (.bool false) hS ?_
 refine rd1 9 (fun KK hK => ?_)
 (try simp only [List.getElem_toArray, List.getElem_cons_succ, List.getElem_cons_zero])
 go_simp
 (try dsimp only)
 refine hK.out _ _ ⟨f1 _, f2 _, f3 _, f4 _⟩ (fun hS => nrm ?_)
 refine rd1 10 (fun KK hK => ?_)
 (try simp only [List.getElem_toArray, List.getElem_cons_succ, List.getElem_cons_zero])
 go_simp
 (try dsimp only)
 refine hK.out _ _ ⟨f1 _, f2 _, f3 _, f4 _⟩ (fun hS => nrm ?_)
 refine tkS 11 (.bool false) hS ?_
 refine wpAnyH_done (by kernel_rfl) ?_ _
 clear hS
 have HX1 : Wt m B wb k1 k2 n l sp ((w.alloc (.cells #[.int .u8 x, .int .u8 y] 263)).alloc (.cells #[.int .u8 0, .int .u8 0] 263)).drew := ((h.alloc hB _).alloc (by simp; omega) _).drewN 1
 have KX1 : KW m B wb k1 k2 w ((w.alloc (.cells #[.int .u8 x, .int .u8 y] 263)).alloc (.cells #[.int .u8 0, .int .u8 0] 263)).drew := (((KW.refl m B wb k1 k2 w).alloc hB _).alloc (by simp; omega) _).drewN 1
 have qn : ((w.alloc (.cells #[.int .u8 x, .int .u8 y] 263)).alloc (.cells #[.int .u8 0, .int .u8 0] 263)).drew.heap[w.heap.size + 1]? = some (.cells #[.int .u8 0, .int .u8 0] 263 (0, 0)) := by
  have qq : ((w.alloc (.cells #[.int .u8 x, .int .u8 y] 263)).alloc (.cells #[.int .u8 0, .int .u8 0] 263)).heap[w.heap.size + 1]? = some (.cells #[.int .u8 0, .int .u8 0] 263 (0, 0)) := by simpa using heap_alloc_new (w.alloc (.cells #[.int .u8 x, .int .u8 y] 263)) (.cells #[.int .u8 0, .int .u8 0] 263)
  exact qq
 have qv : ((w.alloc (.cells #[.int .u8 x, .int .u8 y] 263)).alloc (.cells #[.int .u8 0, .int .u8 0] 263)).drew.heap[w.heap.size]? = some (.cells #[.int .u8 x, .int .u8 y] 263 (0, 0)) := by
  have qq : ((w.alloc (.cells #[.int .u8 x, .int .u8 y] 263)).alloc (.cells #[.int .u8 0, .int .u8 0] 263)).heap[w.heap.size]? = some (.cells #[.int .u8 x, .int .u8 y] 263 (0, 0)) := by
   rw [Lib.alloc_old _ _ _ (by simp)]; exact heap_alloc_new w _
  exact qq
 have sX1 : B <= ((w.alloc (.cells #[.int .u8 x, .int .u8 y] 263)).alloc (.cells #[.int .u8 0, .int .u8 0] 263)).drew.heap.size := Nat.le_trans hB KX1.size
 clear f1 f2 f3 f4 d0 d1 c2' L1 h1 hs1 LF h
 generalize ((w.alloc (.cells #[.int .u8 x, .int .u8 y] 263)).alloc (.cells #[.int .u8 0, .int .u8 0] 263)).drew = X1 at *
 have c2' : X1.cell? ⟨wb, 2, none⟩ = some (.map (some k1)) := by rw [Lib.cell_of_heap HX1.wi.blk]; rfl
 obtain ⟨es, cl, hes, hsz⟩ := SF X1 HX1.nm
 have hlen : (Builtin.len_ #[167] 3 #[.map (some k1)]).run Tryz.prog X1 = .ok (.int .i64 (n.length : Int)) X1 := by
  have := run_len_map (P := Tryz.prog) (w := X1) 167 3 k1 es cl (by kernel_rfl) hes
  rw [hsz] at this
  exact this
 clear hes hsz
 go_wp2_with fail
 refine (HNM X1).mono ?_
 rintro e w2 ⟨rfl, ob, rfl⟩
 clear hlen HNM
 have HY : Wt m B wb k1 k2 n l sp (X1.alloc ob) := HX1.alloc sX1 ob
 have KY : KW m B wb k1 k2 w (X1.alloc ob) := KX1.alloc sX1 ob
 replace qn := (Lib.alloc_old _ ob _ (Array.getElem?_eq_some_iff.1 qn).1).trans qn
 replace qv := (Lib.alloc_old _ ob _ (Array.getElem?_eq_some_iff.1 qv).1).trans qv
 clear HX1 KX1 sX1 c2'
 generalize X1.alloc ob = Y1 at *
 have g0 : Y1.cell? ⟨w.heap.size + 1, 0, none⟩ = some (.int .u8 0) := cbl qn
 have g1 : Y1.cell? ⟨w.heap.size + 1, 1, none⟩ = some (.int .u8 0) := cbl qn
 have z0 : Y1.frozen? ⟨w.heap.size + 1, 0, none⟩ = false := Lib.frozen_of_heap qn 0
 have z1 : Y1.frozen? ⟨w.heap.size + 1, 1, none⟩ = false := Lib.frozen_of_heap qn 1
 have qx3 : ((Y1.setCell ⟨w.heap.size + 1, 0, none⟩ (.int .u8 (c1 : Int))).setCell ⟨w.heap.size + 1, 1, none⟩ (.int .u8 (c2 : Int))).heap[w.heap.size + 1]? = some (.cells #[.int .u8 (c1 : Int), .int .u8 (c2 : Int)] 263 (0, 0)) := ziv qn
 have qv3 : ((Y1.setCell ⟨w.heap.size + 1, 0, none⟩ (.int .u8 (c1 : Int))).setCell ⟨w.heap.size + 1, 1, none⟩ (.int .u8 (c2 : Int))).heap[w.heap.size]? = some (.cells #[.int .u8 x, .int .u8 y] 263 (0, 0)) := (zcg (by omega)).trans qv
 have HX3 : Wt m B wb k1 k2 n l sp ((Y1.setCell ⟨w.heap.size + 1, 0, none⟩ (.int .u8 (c1 : Int))).setCell ⟨w.heap.size + 1, 1, none⟩ (.int .u8 (c2 : Int))) := (HY.far qn _).far (by simp [World.setCell, Array.getElem?_modify, qn]; exact ⟨rfl, rfl⟩) _
 have KX3 : KW m B wb k1 k2 w ((Y1.setCell ⟨w.heap.size + 1, 0, none⟩ (.int .u8 (c1 : Int))).setCell ⟨w.heap.size + 1, 1, none⟩ (.int .u8 (c2 : Int))) := (KY.far (by omega) (by omega) _).far (by omega) (by omega) _
 go_wp2_with fail
 clear g0 g1 z0 z1 qn qv HY KY
 generalize ((Y1.setCell ⟨w.heap.size + 1, 0, none⟩ (.int .u8 (c1 : Int))).setCell ⟨w.heap.size + 1, 1, none⟩ (.int .u8 (c2 : Int))) = X3 at *
 have c2' : X3.cell? ⟨wb, 2, none⟩ = some (.map (some k1)) := by rw [Lib.cell_of_heap HX3.wi.blk]; rfl
 have a0 : X3.cell? ⟨w.heap.size, 0, none⟩ = some (.int .u8 x) := cbl qv3
 have a1 : X3.cell? ⟨w.heap.size, 1, none⟩ = some (.int .u8 y) := cbl qv3
 have a2 : X3.cell? ⟨w.heap.size + 1, 0, none⟩ = some (.int .u8 (c1 : Int)) := cbl qx3
 have a3 : X3.cell? ⟨w.heap.size + 1, 1, none⟩ = some (.int .u8 (c2 : Int)) := cbl qx3
 obtain ⟨X, hput, hnm, hgb⟩ := PF X3.drew HX3.nm
 have sX3 : B <= X3.heap.size := Nat.le_trans hB KX3.size
 have HX : Wt m B wb k1 k2 (n ++ [o]) l sp X := NW.out X3.drew X l sp (HX3.drewN 1) hnm hgb
 have KX : KW m B wb k1 k2 w X := (KX3.drewN 1).trans (Gb.kw1 HX3.b1 sX3 hgb)
 have bl : ∀ (q : Nat) (c : Array Value), X3.heap[q]? = some (Obj.cells c 263 (0, 0)) -> X.heap[q]? = some (Obj.cells c 263 (0, 0)) := by
  intro q c hq
  rw [hgb.block q (Array.getElem?_eq_some_iff.1 hq).1 ?_]
  · exact hq
  · intro e
    have e : q = k1 := by simpa using e
    obtain ⟨es, cl, hb, _⟩ := HX3.nm
    rw [e, hb] at hq
    cases hq
 have qx := bl _ _ qx3
 have qv := bl _ _ qv3
 have p1 : X.cell? ⟨wb, 2, none⟩ = some (.map (some k1)) := by rw [Lib.cell_of_heap HX.wi.blk]; rfl
 have p2 : X.cell? ⟨w.heap.size, 0, none⟩ = some (.int .u8 x) := cbl qv
 have p3 : X.cell? ⟨w.heap.size, 1, none⟩ = some (.int .u8 y) := cbl qv
 have p4 : X.cell? ⟨w.heap.size + 1, 0, none⟩ = some (.int .u8 (c1 : Int)) := cbl qx
 have p5 : X.cell? ⟨w.heap.size + 1, 1, none⟩ = some (.int .u8 (c2 : Int)) := cbl qx
 have sX : B <= X.heap.size := Nat.le_trans hB KX.size
 clear HX3 KX3 hnm hgb bl qx3 qv3 qv sX3
 refine wp_region_held_drew (S := (fun wq => wq.cell? ⟨wb, 2, none⟩ = some (.map (some k1)) /\ wq.cell? ⟨w.heap.size, 0, none⟩ = some (.int .u8 x) /\ wq.cell? ⟨w.heap.size, 1, none⟩ = some (.int .u8 y) /\ wq.cell? ⟨w.heap.size + 1, 0, none⟩ = some (.int .u8 (c1 : Int)) /\ wq.cell? ⟨w.heap.size + 1, 1, none⟩ = some (.int .u8 (c2 : Int)))) (by kernel_rfl) (⟨c2', a0, a1, a2, a3⟩) (fun hS => ?_)
 refine tkS 0 (.pointer (some ⟨wb, 0, none⟩)) hS ?_
 refine tkS 1 (.pointer (some ⟨wb, 0, none⟩)) hS ?_
 refine tkS 2 (.pointer (some ⟨wb, 2, none⟩)) hS ?_
 refine tkL 3 (.map (some k1)) hS ?_
 refine tkL 4 (.agg #[.int .u8 x, .int .u8 y]) hS ?_
 refine tkL 5 (.agg #[.int .u8 (c1 : Int), .int .u8 (c2 : Int)]) hS ?_
 refine rd1 6 (fun KK hK => ?_)
 (try simp only [List.getElem_toArray, List.getElem_cons_succ, List.getElem_cons_zero])
 go_simp
 (try dsimp only)
 refine hK.out _ _ ⟨p1, p2, p3, p4, p5⟩ (fun hS => nrm ?_)
 refine wpAnyH_done (by kernel_rfl) ?_ _
 clear hS c2' a0 a1 a2 a3 hput p1 p2 p3 p4 p5
 have e0 : X.cell? ⟨w.heap.size + 1, 0, none⟩ = some (.int .u8 (c1 : Int)) := cbl qx
 have nb : m ≠ some (w.heap.size + 1) := hmg _ (by omega)
 go_wp2_with fail
 refine (zbs m B wb _ _ l c1 _ HX.wi b1 (by omega) sX).mono ?_
 rintro e w1 ⟨rfl, h1, k1'⟩
 have q1 := k1'.box qx (by omega) nb (by decide)
 have e1 : w1.cell? ⟨w.heap.size + 1, 1, none⟩ = some (.int .u8 (c2 : Int)) := cbl q1
 have H1 := HX.text h1 k1'
 have K1 := KX.trans k1'.kw
 have s1 : B <= w1.heap.size := Nat.le_trans sX k1'.size
 clear e0 qx HX KX h1 k1' q1
 by_cases hd : c2 = 0
 · subst hd
   go_wp2_with fail
   go_end0
   rw [HV.out]
   exact ⟨rfl, H1, K1⟩
 · have hd' : (0 : Int) < (c2 : Int) := by omega
   have hd3 : IntKind.u8.wrap (48 + (c2 : Int)) = ((48 + c2 : Nat) : Int) := by rw [IntKind.wrap_u8]; omega
   have HV2 : Hid (zca (zaq n.length) = [u8 c1, u8 (48 + c2)]) := by unfold Hid; rw [HV.out, if_neg hd]
   have B2 := zbs m B wb _ _ (l ++ [u8 c1]) (48 + c2) w1 H1.wi (by omega) (by simp; omega) s1
   have c2lt : (c2 : Int) < 10 := by omega
   clear HV hd
   go_wp2_with fail
   refine B2.mono ?_
   rintro e w2 ⟨rfl, h2, k2'⟩
   go_wp2_with fail
   go_end0
   rw [HV2.out]
   exact ⟨rfl, by simpa using H1.text h2 k2', K1.trans k2'.kw⟩
theorem zkn (B b : Nat) (l : List UInt8) (s : ByteArray) (w : World) (h : Bu B b l w) (hlen : l.length + s.size <= 140737488355328) (hBw : B <= w.heap.size) :
 Calls Tryz.prog 164 #[.pointer (some ⟨b, 0, none⟩), .string s] w fun e w' => e = .returned (.tuple #[.int .i64 s.size, .nilIface]) /\ Bu B b (l ++ s.data.toList) w' /\ Kb B b w w' := by
 have hlen' : (Lib.byteCells l).length + s.size <= 140737488355328 := by rw [Lib.byteCells_length]; exact hlen
 have heq : Lib.byteCells (l ++ s.data.toList) = Lib.byteCells l ++ Lib.strCells s := by rw [Lib.strCells_eq]; simp [Lib.byteCells]
 unfold Bu at *
 rw [heq]
 clear heq hlen
 generalize Lib.byteCells l = bs at *
 obtain ⟨i0, hi, hz0, hz1, hz2⟩ := info_parts infoByte
 go_enter Tryz.func164, Tryz.ntmps164
 go_wp2_with fail
 refine (zgm B b bs _ h).mono ?_
 rintro e w1 ⟨rfl, h1, hb1, hk1⟩
 obtain ⟨hB, v, hbk, hown, hne⟩ := h1
 have c0 : w1.cell? ⟨b, 0, none⟩ = some (.pointer (some ⟨b, 0, none⟩)) := cbl hbk
 have c1 : w1.cell? ⟨b, 1, none⟩ = some v := cbl hbk
 go_wp2_with (at_builtin; refine Lib.wpList_append_own_stringF _ rfl _ _ 46 9 rfl B 5 i0 Tryz.underlying46 Tryz.underlying9 hi hz0 hz1 hz2 _ _ _ rfl hown s rfl ?c3 ?c4 ?c5 ?_)
 case c3 => unfold maxLen; omega
 case c4 => omega
 case c5 => have := hb1.size; omega
 intro v' w2 hown' hgrow _
 have hlt : b < w1.heap.size := (Array.getElem?_eq_some_iff.1 hbk).1
 have hb2 : w2.heap[b]? = some (.cells #[.pointer (some ⟨b, 0, none⟩), v] 165 (0, 0)) := by
  rw [hgrow.block b hlt (fun e => hne e.symm)]
  exact hbk
 have d0 : w2.cell? ⟨b, 0, none⟩ = some (.pointer (some ⟨b, 0, none⟩)) := cbl hb2
 have d1 : w2.cell? ⟨b, 1, none⟩ = some v := cbl hb2
 have f1 : w2.frozen? ⟨b, 1, none⟩ = false := Lib.frozen_of_heap hb2 1
 obtain ⟨ao, n', cap, rfl⟩ : ∃ ao n' cap, v' = .slice ao n' cap := by
  rcases hown'.2 with ⟨hv, _⟩ | ⟨g, cap, cur, fz, hv, _⟩
  · exact ⟨_, _, _, hv⟩
  · exact ⟨_, _, _, hv⟩
 go_wp2
 go_ret2
 refine ⟨rfl, .inr ?_, ?_, (hk1.grown hgrow (Lib.ownsRowF_kind hown)).setCell ⟨b, 1, none⟩ rfl _⟩
 · exact Lib.BuilderAtF.put (T := 165) (e := 5) hB hb2 (bs' := bs ++ Lib.strCells s) (by simpa [Lib.strCells_length] using hown') (by decide)
 · exact (hb1.grown hgrow (by have := hb1.size; omega) (fun k hk => (hown.lt k hk).1)).setCell (p := ⟨b, 1, none⟩) hB _
theorem again_learn (B wb k1 k2 : Nat) (n : List Nat) (l : List UInt8) (sp : List Spn) (w : World) (h : Wt none B wb k1 k2 n l sp w) (b e : Nat) (hbe : b <= e) (he : e <= l.length) (hl : l.length + (e - b) <= 140737488355328) (hB : B <= w.heap.size) :
 Calls Tryz.prog 133 #[.pointer (some ⟨wb, 0, none⟩), .agg #[.int .i64 (b : Int), .int .i64 (e : Int)]] w fun r w' => r = .returned (.tuple #[]) /\ w' = ((w.setCell ⟨wb, 1, none⟩ (.int .i64 ((l.length : Int) + ((e : Int) - (b : Int))))).alloc (.cells #[.int .i64 (b : Int), .int .i64 (e : Int)] 217)).drew := by
 have hlt := h.wi.lt
 have hmg : ∀ k, w.heap.size <= k -> none ≠ some k := fun k hk ee => by have := (h.wi.bu _ ee).1.le.2; omega
 have HW := h.wi.alloc (.cells #[.int .i64 (b : Int), .int .i64 (e : Int)] 217)
 have d0 : (w.alloc (.cells #[.int .i64 (b : Int), .int .i64 (e : Int)] 217)).cell? ⟨w.heap.size, 0, none⟩ = some (.int .i64 (b : Int)) := by simp
 have d1 : (w.alloc (.cells #[.int .i64 (b : Int), .int .i64 (e : Int)] 217)).cell? ⟨w.heap.size, 1, none⟩ = some (.int .i64 (e : Int)) := by simp
 have q0 : (w.alloc (.cells #[.int .i64 (b : Int), .int .i64 (e : Int)] 217)).heap[w.heap.size]? = some (.cells #[.int .i64 (b : Int), .int .i64 (e : Int)] 217 (0, 0)) := heap_alloc_new w _
 have c1 : (w.alloc (.cells #[.int .i64 (b : Int), .int .i64 (e : Int)] 217)).cell? ⟨wb, 1, none⟩ = some (.int .i64 (l.length : Int)) := by rw [Lib.cell_of_heap HW.blk]; rfl
 have f1 : (w.alloc (.cells #[.int .i64 (b : Int), .int .i64 (e : Int)] 217)).frozen? ⟨wb, 1, none⟩ = false := Lib.frozen_of_heap HW.blk 1
 have hw1 : IntKind.i64.wrap ((e : Int) - (b : Int)) = (e : Int) - (b : Int) := by rw [IntKind.wrap_i64]; omega
 have hw2 : IntKind.i64.wrap ((l.length : Int) + ((e : Int) - (b : Int))) = (l.length : Int) + ((e : Int) - (b : Int)) := by rw [IntKind.wrap_i64]; omega
 have hsz : (w.setCell ⟨wb, 1, none⟩ (.int .i64 ((l.length : Int) + ((e : Int) - (b : Int))))).heap.size = w.heap.size := by simp [World.setCell]
 have qp : ((w.setCell ⟨wb, 1, none⟩ (.int .i64 ((l.length : Int) + ((e : Int) - (b : Int))))).alloc (.cells #[.int .i64 (b : Int), .int .i64 (e : Int)] 217)).heap[w.heap.size]? = some (.cells #[.int .i64 (b : Int), .int .i64 (e : Int)] 217 (0, 0)) := by
  have := heap_alloc_new (w.setCell ⟨wb, 1, none⟩ (.int .i64 ((l.length : Int) + ((e : Int) - (b : Int))))) (.cells #[.int .i64 (b : Int), .int .i64 (e : Int)] 217)
  rw [hsz] at this; exact this
 have p0 : ((w.setCell ⟨wb, 1, none⟩ (.int .i64 ((l.length : Int) + ((e : Int) - (b : Int))))).alloc (.cells #[.int .i64 (b : Int), .int .i64 (e : Int)] 217)).cell? ⟨w.heap.size, 0, none⟩ = some (.int .i64 (b : Int)) := cbl qp
 have p1 : ((w.setCell ⟨wb, 1, none⟩ (.int .i64 ((l.length : Int) + ((e : Int) - (b : Int))))).alloc (.cells #[.int .i64 (b : Int), .int .i64 (e : Int)] 217)).cell? ⟨w.heap.size, 1, none⟩ = some (.int .i64 (e : Int)) := cbl qp
 have c0 : (w.alloc (.cells #[.int .i64 (b : Int), .int .i64 (e : Int)] 217)).cell? ⟨wb, 0, none⟩ = some (.pointer none) := by rw [Lib.cell_of_heap HW.blk]; rfl
 have c0' : ((w.setCell ⟨wb, 1, none⟩ (.int .i64 ((l.length : Int) + ((e : Int) - (b : Int))))).alloc (.cells #[.int .i64 (b : Int), .int .i64 (e : Int)] 217)).cell? ⟨wb, 0, none⟩ = some (.pointer none) := by
  rw [World.cell?_alloc_lt _ _ _ (by rw [hsz]; exact hlt), Lib.cell_of_heap (h.wi.set _)]; rfl
 clear h HW q0 hl he hbe hmg qp hsz
 go_enter Tryz.func133, Tryz.ntmps133
 go_wp2_with fail
 refine wp_region_held_drew (S := (fun wq => wq.cell? ⟨w.heap.size, 0, none⟩ = some (.int .i64 (b : Int)) /\ wq.cell? ⟨w.heap.size, 1, none⟩ = some (.int .i64 (e : Int)))) (by kernel_rfl) (⟨d0, d1⟩) (fun hS => ?_)
 refine tkS 0 (.pointer (some ⟨wb, 0, none⟩)) hS ?_
 refine tkS 1 (.pointer (some ⟨wb, 0, none⟩)) hS ?_
 refine tkS 2 (.pointer (some ⟨wb, 1, none⟩)) hS ?_
 refine tkS 4 (.pointer (some ⟨w.heap.size, 1, none⟩)) hS ?_
 refine tkL 5 (.int .i64 (e : Int)) hS ?_
 refine tkS 6 (.pointer (some ⟨w.heap.size, 0, none⟩)) hS ?_
 refine tkL 7 (.int .i64 (b : Int)) hS ?_
 refine tkS 8 (.int .i64 ((e : Int) - (b : Int))) hS ?_
 refine rd1 3 (fun KK hK => ?_)
 (try simp only [List.getElem_toArray, List.getElem_cons_succ, List.getElem_cons_zero])
 go_simp
 (try dsimp only)
 refine hK.out _ _ ⟨d0, d1⟩ (fun hS => nrm ?_)
 refine tkS 9 (.int .i64 ((l.length : Int) + ((e : Int) - (b : Int)))) hS ?_
 refine tkS 10 (.pointer (some ⟨wb, 0, none⟩)) hS ?_
 refine tkS 11 (.pointer (some ⟨wb, 1, none⟩)) hS ?_
 refine rd1 12 (fun KK hK => ?_)
 (try simp only [List.getElem_toArray, List.getElem_cons_succ, List.getElem_cons_zero])
 go_simp
 (try dsimp only)
 refine hK.out _ _ ⟨p0, p1⟩ (fun hS => nrm ?_)
 refine wpAnyH_done (by kernel_rfl) ?_ _
 go_wp2_with fail
 go_end0
 exact ⟨rfl, rfl⟩
theorem again_write (B tb wb k1 k2 : Nat) (n : List Nat) (l : List UInt8) (sp : List Spn) (w : World) (h : Wt (some tb) B wb k1 k2 n l sp w) (b e : Nat) (hbe : b <= e) (he : e <= l.length) (hl : l.length + (e - b) <= 140737488355328) (hB : B <= w.heap.size) :
 Calls Tryz.prog 133 #[.pointer (some ⟨wb, 0, none⟩), .agg #[.int .i64 (b : Int), .int .i64 (e : Int)]] w fun r w' => r = .returned (.tuple #[]) /\ Bu B tb (l ++ ((⟨l.toArray⟩ : ByteArray).extract b e).data.toList) w' /\ Kb B tb ((w.setCell ⟨wb, 1, none⟩ (.int .i64 ((l.length : Int) + ((e : Int) - (b : Int))))).alloc (.cells #[.int .i64 (b : Int), .int .i64 (e : Int)] 217)) w' := by
 have hlt := h.wi.lt
 have hmg : ∀ k, w.heap.size <= k -> (some tb) ≠ some k := fun k hk ee => by have := (h.wi.bu _ ee).1.le.2; omega
 have HW := h.wi.alloc (.cells #[.int .i64 (b : Int), .int .i64 (e : Int)] 217)
 have d0 : (w.alloc (.cells #[.int .i64 (b : Int), .int .i64 (e : Int)] 217)).cell? ⟨w.heap.size, 0, none⟩ = some (.int .i64 (b : Int)) := by simp
 have d1 : (w.alloc (.cells #[.int .i64 (b : Int), .int .i64 (e : Int)] 217)).cell? ⟨w.heap.size, 1, none⟩ = some (.int .i64 (e : Int)) := by simp
 have q0 : (w.alloc (.cells #[.int .i64 (b : Int), .int .i64 (e : Int)] 217)).heap[w.heap.size]? = some (.cells #[.int .i64 (b : Int), .int .i64 (e : Int)] 217 (0, 0)) := heap_alloc_new w _
 have c1 : (w.alloc (.cells #[.int .i64 (b : Int), .int .i64 (e : Int)] 217)).cell? ⟨wb, 1, none⟩ = some (.int .i64 (l.length : Int)) := by rw [Lib.cell_of_heap HW.blk]; rfl
 have f1 : (w.alloc (.cells #[.int .i64 (b : Int), .int .i64 (e : Int)] 217)).frozen? ⟨wb, 1, none⟩ = false := Lib.frozen_of_heap HW.blk 1
 have hw1 : IntKind.i64.wrap ((e : Int) - (b : Int)) = (e : Int) - (b : Int) := by rw [IntKind.wrap_i64]; omega
 have hw2 : IntKind.i64.wrap ((l.length : Int) + ((e : Int) - (b : Int))) = (l.length : Int) + ((e : Int) - (b : Int)) := by rw [IntKind.wrap_i64]; omega
 have hsz : (w.setCell ⟨wb, 1, none⟩ (.int .i64 ((l.length : Int) + ((e : Int) - (b : Int))))).heap.size = w.heap.size := by simp [World.setCell]
 have qp : ((w.setCell ⟨wb, 1, none⟩ (.int .i64 ((l.length : Int) + ((e : Int) - (b : Int))))).alloc (.cells #[.int .i64 (b : Int), .int .i64 (e : Int)] 217)).heap[w.heap.size]? = some (.cells #[.int .i64 (b : Int), .int .i64 (e : Int)] 217 (0, 0)) := by
  have := heap_alloc_new (w.setCell ⟨wb, 1, none⟩ (.int .i64 ((l.length : Int) + ((e : Int) - (b : Int))))) (.cells #[.int .i64 (b : Int), .int .i64 (e : Int)] 217)
  rw [hsz] at this; exact this
 have p0 : ((w.setCell ⟨wb, 1, none⟩ (.int .i64 ((l.length : Int) + ((e : Int) - (b : Int))))).alloc (.cells #[.int .i64 (b : Int), .int .i64 (e : Int)] 217)).cell? ⟨w.heap.size, 0, none⟩ = some (.int .i64 (b : Int)) := cbl qp
 have p1 : ((w.setCell ⟨wb, 1, none⟩ (.int .i64 ((l.length : Int) + ((e : Int) - (b : Int))))).alloc (.cells #[.int .i64 (b : Int), .int .i64 (e : Int)] 217)).cell? ⟨w.heap.size, 1, none⟩ = some (.int .i64 (e : Int)) := cbl qp
 have c0 : (w.alloc (.cells #[.int .i64 (b : Int), .int .i64 (e : Int)] 217)).cell? ⟨wb, 0, none⟩ = some (.pointer (some ⟨tb, 0, none⟩)) := by rw [Lib.cell_of_heap HW.blk]; rfl
 have c0' : ((w.setCell ⟨wb, 1, none⟩ (.int .i64 ((l.length : Int) + ((e : Int) - (b : Int))))).alloc (.cells #[.int .i64 (b : Int), .int .i64 (e : Int)] 217)).cell? ⟨wb, 0, none⟩ = some (.pointer (some ⟨tb, 0, none⟩)) := by
  rw [World.cell?_alloc_lt _ _ _ (by rw [hsz]; exact hlt), Lib.cell_of_heap (h.wi.set _)]; rfl
 obtain ⟨U0, hne0⟩ := h.wi.bu tb rfl
 have U2 : Bu B tb l ((w.setCell ⟨wb, 1, none⟩ (.int .i64 ((l.length : Int) + ((e : Int) - (b : Int))))).alloc (.cells #[.int .i64 (b : Int), .int .i64 (e : Int)] 217)) := (U0.far h.wi.blk (by decide) hne0 _).alloc _
 have s2 : B <= ((w.setCell ⟨wb, 1, none⟩ (.int .i64 ((l.length : Int) + ((e : Int) - (b : Int))))).alloc (.cells #[.int .i64 (b : Int), .int .i64 (e : Int)] 217)).heap.size := by simp [hsz]; omega
 have z1 : ((w.setCell ⟨wb, 1, none⟩ (.int .i64 ((l.length : Int) + ((e : Int) - (b : Int))))).alloc (.cells #[.int .i64 (b : Int), .int .i64 (e : Int)] 217)).heap[wb]? = some (.cells #[wtp (some tb), (.int .i64 ((l.length : Int) + ((e : Int) - (b : Int)))), .map (some k1), .map (some k2)] 170 (0, 0)) := by
  rw [Lib.alloc_old _ _ _ (by rw [hsz]; exact hlt)]; exact h.wi.set _
 have z2 := qp
 have hsize : (⟨l.toArray⟩ : ByteArray).size = l.length := by simp [ByteArray.size]
 have hts : ((⟨l.toArray⟩ : ByteArray).extract b e).size = e - b := by rw [ByteArray.size_extract, hsize]; omega
 have hl3 : l.length + ((⟨l.toArray⟩ : ByteArray).extract b e).size <= 140737488355328 := by rw [hts]; exact hl
 have hbe1 : (0 : Int) <= (b : Int) := by omega
 have hbe2 : (b : Int) <= (e : Int) := by omega
 have hbe3 : (e : Int) <= ((⟨l.toArray⟩ : ByteArray).size : Int) := by rw [hsize]; omega
 have hsl : ∀ wx : World, (Instr.slice 9 (.string ⟨l.toArray⟩) (some (.int .i64 (b : Int))) (some (.int .i64 (e : Int))) none).run Tryz.prog wx = .ok (.string ((⟨l.toArray⟩ : ByteArray).extract b e)) wx := fun wx => by
  have := run_slice_string (P := Tryz.prog) wx 9 ⟨l.toArray⟩ .i64 .i64 (b : Int) (e : Int) Tryz.underlying9 hbe1 hbe2 hbe3
  simpa using this
 have KF : Hid (∀ u u' : World, u.heap[wb]? = some (.cells #[wtp (some tb), (.int .i64 ((l.length : Int) + ((e : Int) - (b : Int)))), .map (some k1), .map (some k2)] 170 (0, 0)) -> u.heap[w.heap.size]? = some (.cells #[.int .i64 (b : Int), .int .i64 (e : Int)] 217 (0, 0)) -> Kw (some tb) B (wb + w.heap.size + 1 + tb) u u' ->
  u'.cell? ⟨wb, 0, none⟩ = some (.pointer (some ⟨tb, 0, none⟩)) /\ u'.cell? ⟨w.heap.size, 0, none⟩ = some (.int .i64 (b : Int)) /\ u'.cell? ⟨w.heap.size, 1, none⟩ = some (.int .i64 (e : Int)) /\ u'.heap[wb]? = some (.cells #[wtp (some tb), (.int .i64 ((l.length : Int) + ((e : Int) - (b : Int)))), .map (some k1), .map (some k2)] 170 (0, 0)) /\ u'.heap[w.heap.size]? = some (.cells #[.int .i64 (b : Int), .int .i64 (e : Int)] 217 (0, 0))) := by
  intro u u' y1 y2 k
  have x1 := k.box y1 (by omega) (by simpa using hne0) (by decide)
  have x2 := k.box y2 (by omega) (hmg _ (Nat.le_refl _)) (by decide)
  exact ⟨by rw [Lib.cell_of_heap x1]; rfl, by rw [Lib.cell_of_heap x2]; rfl, by rw [Lib.cell_of_heap x2]; rfl, x1, x2⟩
 clear h HW q0 hl he hbe hmg qp hsz U0 hsize hts
 go_enter Tryz.func133, Tryz.ntmps133
 go_wp2_with fail
 refine wp_region_held_drew (S := (fun wq => wq.cell? ⟨w.heap.size, 0, none⟩ = some (.int .i64 (b : Int)) /\ wq.cell? ⟨w.heap.size, 1, none⟩ = some (.int .i64 (e : Int)))) (by kernel_rfl) (⟨d0, d1⟩) (fun hS => ?_)
 refine tkS 0 (.pointer (some ⟨wb, 0, none⟩)) hS ?_
 refine tkS 1 (.pointer (some ⟨wb, 0, none⟩)) hS ?_
 refine tkS 2 (.pointer (some ⟨wb, 1, none⟩)) hS ?_
 refine tkS 4 (.pointer (some ⟨w.heap.size, 1, none⟩)) hS ?_
 refine tkL 5 (.int .i64 (e : Int)) hS ?_
 refine tkS 6 (.pointer (some ⟨w.heap.size, 0, none⟩)) hS ?_
 refine tkL 7 (.int .i64 (b : Int)) hS ?_
 refine tkS 8 (.int .i64 ((e : Int) - (b : Int))) hS ?_
 refine rd1 3 (fun KK hK => ?_)
 (try simp only [List.getElem_toArray, List.getElem_cons_succ, List.getElem_cons_zero])
 go_simp
 (try dsimp only)
 refine hK.out _ _ ⟨d0, d1⟩ (fun hS => nrm ?_)
 refine tkS 9 (.int .i64 ((l.length : Int) + ((e : Int) - (b : Int)))) hS ?_
 refine tkS 10 (.pointer (some ⟨wb, 0, none⟩)) hS ?_
 refine tkS 11 (.pointer (some ⟨wb, 1, none⟩)) hS ?_
 refine rd1 12 (fun KK hK => ?_)
 (try simp only [List.getElem_toArray, List.getElem_cons_succ, List.getElem_cons_zero])
 go_simp
 (try dsimp only)
 refine hK.out _ _ ⟨p0, p1⟩ (fun hS => nrm ?_)
 refine wpAnyH_done (by kernel_rfl) ?_ _
 clear d0 d1 c1 f1 c0 hw1 hw2 hS
 generalize hZ : ((w.setCell ⟨wb, 1, none⟩ (.int .i64 ((l.length : Int) + ((e : Int) - (b : Int))))).alloc (.cells #[.int .i64 (b : Int), .int .i64 (e : Int)] 217)) = Z at *
 go_wp2_with fail
 refine wp_region_held_drew (S := (fun wq => wq.cell? ⟨wb, 0, none⟩ = some (.pointer (some ⟨tb, 0, none⟩)) /\ wq.cell? ⟨w.heap.size, 0, none⟩ = some (.int .i64 (b : Int)) /\ wq.cell? ⟨w.heap.size, 1, none⟩ = some (.int .i64 (e : Int)))) (by kernel_rfl) (⟨c0', p0, p1⟩) (fun hS => ?_)
 refine tkS 0 (.pointer (some ⟨wb, 0, none⟩)) hS ?_
 refine tkS 1 (.pointer (some ⟨wb, 0, none⟩)) hS ?_
 refine tkS 2 (.pointer (some ⟨wb, 0, none⟩)) hS ?_
 refine tkL 3 (.pointer (some ⟨tb, 0, none⟩)) hS ?_
 refine tkS 4 (.pointer (some ⟨wb, 0, none⟩)) hS ?_
 refine tkS 5 (.pointer (some ⟨wb, 0, none⟩)) hS ?_
 refine tkS 6 (.pointer (some ⟨wb, 0, none⟩)) hS ?_
 refine tkL 7 (.pointer (some ⟨tb, 0, none⟩)) hS ?_
 refine tkS 9 (.pointer (some ⟨w.heap.size, 0, none⟩)) hS ?_
 refine tkL 10 (.int .i64 (b : Int)) hS ?_
 refine tkS 11 (.pointer (some ⟨w.heap.size, 1, none⟩)) hS ?_
 refine tkL 12 (.int .i64 (e : Int)) hS ?_
 refine rd1 8 (fun KK hK => ?_)
 (try simp only [List.getElem_toArray, List.getElem_cons_succ, List.getElem_cons_zero])
 go_simp
 go_at_call 113
 refine (zgz B tb l _ (by exact U2) (by exact s2)).mono ?_
 rintro r w3 ⟨rfl, U3, k3⟩
 have k3 : Kb B tb Z w3 := ⟨⟨k3.1.os, k3.1.tape, k3.1.output, k3.1.size, k3.1.block⟩, k3.2⟩
 obtain ⟨y1, y2, y3, x1, x2⟩ := KF.out _ w3 z1 z2 k3.kw
 have s3 : B <= w3.heap.size := Nat.le_trans s2 k3.1.size
 (try dsimp only)
 refine hK.out _ _ ⟨y1, y2, y3⟩ (fun hS => nrm ?_)
 refine tkS 13 (.string ((⟨l.toArray⟩ : ByteArray).extract b e)) hS ?_
 refine rd1 14 (fun KK hK => ?_)
 (try simp only [List.getElem_toArray, List.getElem_cons_succ, List.getElem_cons_zero])
 go_simp
 go_at_call 164
 refine (zkn B tb l ((⟨l.toArray⟩ : ByteArray).extract b e) w3 U3 hl3 s3).mono ?_
 rintro r w4 ⟨rfl, U4, k4⟩
 obtain ⟨y1', y2', y3', x1', x2'⟩ := KF.out _ w4 x1 x2 k4.kw
 (try dsimp only)
 refine hK.out _ _ ⟨y1', y2', y3'⟩ (fun hS => nrm ?_)
 refine wpAnyH_done (by kernel_rfl) ?_ _
 go_wp2_with fail
 go_end0
 subst hZ
 exact ⟨rfl, U4, k3.trans k4⟩
theorem ext_take (l : List UInt8) (b e : Nat) : ((⟨l.toArray⟩ : ByteArray).extract b e).data.toList = (l.drop b).take (e - b) := by
 simp [ByteArray.data_extract, Array.toList_extract, List.extract_eq_take_drop]
theorem again_any (m : Option Nat) (B wb k1 k2 : Nat) (n : List Nat) (l : List UInt8) (sp : List Spn) (w : World) (h : Wt m B wb k1 k2 n l sp w) (b e : Nat) (hbe : b <= e) (he : e <= l.length) (hl : l.length + (e - b) <= 140737488355328) (hB : B <= w.heap.size) :
 Calls Tryz.prog 133 #[.pointer (some ⟨wb, 0, none⟩), .agg #[.int .i64 (b : Int), .int .i64 (e : Int)]] w fun r w' => r = .returned (.tuple #[]) /\ Wt m B wb k1 k2 n (l ++ (l.drop b).take (e - b)) sp w' /\ KW m B wb k1 k2 w w' := by
 have hlen : ((l ++ (l.drop b).take (e - b)).length : Int) = (l.length : Int) + ((e : Int) - (b : Int)) := by
  rw [List.length_append, List.length_take, List.length_drop]; omega
 have hsz : (w.setCell ⟨wb, 1, none⟩ (.int .i64 ((l.length : Int) + ((e : Int) - (b : Int))))).heap.size = w.heap.size := by simp [World.setCell]
 have KZ : Kw m B wb w ((w.setCell ⟨wb, 1, none⟩ (.int .i64 ((l.length : Int) + ((e : Int) - (b : Int))))).alloc (.cells #[.int .i64 (b : Int), .int .i64 (e : Int)] 217)) := (Kw.set m B wb h.wi.le 1 w _).alloc (by rw [hsz]; exact hB) _
 have zb : ((w.setCell ⟨wb, 1, none⟩ (.int .i64 ((l.length : Int) + ((e : Int) - (b : Int))))).alloc (.cells #[.int .i64 (b : Int), .int .i64 (e : Int)] 217)).heap[wb]? = some (.cells #[wtp m, (.int .i64 ((l.length : Int) + ((e : Int) - (b : Int)))), .map (some k1), .map (some k2)] 170 (0, 0)) := by
  rw [Lib.alloc_old _ _ _ (by rw [hsz]; exact h.wi.lt)]; exact h.wi.set _
 cases m with
 | none =>
  refine (again_learn B wb k1 k2 n l sp w h b e hbe he hl hB).mono ?_
  rintro r w' ⟨rfl, rfl⟩
  have K := KZ.drewN 1
  exact ⟨rfl, h.text ⟨h.wi.le, by rw [hlen]; exact zb, fun b hb => by cases hb⟩ K, K.kw⟩
 | some tb =>
  refine (again_write B tb wb k1 k2 n l sp w h b e hbe he hl hB).mono ?_
  rintro r w' ⟨rfl, U, K⟩
  have K2 := KZ.trans K.kw
  rw [ext_take] at U
  refine ⟨rfl, h.text ⟨h.wi.le, ?_, fun b hb => by cases hb; exact ⟨U, (h.wi.bu tb rfl).2⟩⟩ K2, K2.kw⟩
  rw [hlen]
  exact K.2 wb _ zb (by have := (h.wi.bu tb rfl).2; simp; omega) (fun c fz e => by injection e with _ e2; exact absurd e2 (by decide))
theorem var_any (m : Option Nat) (B wb k1 k2 : Nat) (n : List Nat) (l : List UInt8) (sp : List Spn) (w : World) (h : Wt m B wb k1 k2 n l sp w) (o : Nat) (hr : 970 <= o /\ o < 1230) (hl : l.length + 2 <= 140737488355328) (hB : B <= w.heap.size) :
 Calls Tryz.prog 163 #[.pointer (some ⟨wb, 0, none⟩), kv o] w fun e w' => e = .returned (.tuple #[]) /\ Wt m B wb k1 k2 (zaa (tV o) n) (l ++ wtx (zaa (tV o) n) (tV o)) sp w' /\ KW m B wb k1 k2 w w' := by
 by_cases ho : o ∈ n
 · have e1 : zaa (tV o) n = n := by simp [zaa, ho]
   rw [e1, wtx_V]
   exact var_old m B wb k1 k2 n l sp w h o ho hl hB
 · have e1 : zaa (tV o) n = n ++ [o] := by simp [zaa, ho]
   rw [e1, wtx_V, idxOf_new n ho]
   exact var_new m B wb k1 k2 n l sp w h o ho hr hl hB
def NoNew (bd : Nat) (sp sp' : List Spn) (w : World) : Prop := ∀ u v q, Ok u -> bd <= sz u -> Tv w u v -> NdO w v q -> lookS sp q = none -> lookS sp' q = none
theorem NoNew.refl (bd : Nat) (sp : List Spn) (w : World) : NoNew bd sp sp w := fun _ _ _ _ _ _ _ h => h
theorem NoNew.back {bd : Nat} {sp sp' : List Spn} {w w1 : World} (h : NoNew bd sp sp' w1) (hk : KeptN w w1) : NoNew bd sp sp' w := fun u v q h1 h2 h3 h4 h5 => h u v q h1 h2 (Tv.keptN hk _ _ h3) (h4.kept hk) h5
theorem NoNew.trans {bd : Nat} {sp sp' sp'' : List Spn} {w : World} (h : NoNew bd sp sp' w) (h' : NoNew bd sp' sp'' w) : NoNew bd sp sp'' w := fun u v q h1 h2 h3 h4 h5 => h' u v q h1 h2 h3 h4 (h u v q h1 h2 h3 h4 h5)
def zcf (m : Option Nat) (B wb k1 k2 bd : Nat) (sp : List Spn) (n' : List Nat) (l' : List UInt8) (w : World) (e : Ending) (w' : World) : Prop :=
 e = .returned (.tuple #[]) /\ (∃ sp', Wt m B wb k1 k2 n' l' sp' w' /\ NoNew bd sp sp' w) /\ KW m B wb k1 k2 w w'
def zdg (t : Ty) : Prop := ∀ (bd : Nat) (m : Option Nat) (B wb k1 k2 : Nat) (n : List Nat) (l : List UInt8) (sp : List Spn) (w : World) (v : Value), sz t < bd -> Tv w t v -> Wt m B wb k1 k2 n l sp w -> B <= w.heap.size -> l.length + (wtx (zaa t n) t).length + 2 <= 140737488355328 ->
 Calls Tryz.prog 95 #[.pointer (some ⟨wb, 0, none⟩), v] w (zcf m B wb k1 k2 bd sp (zaa t n) (l ++ wtx (zaa t n) t) w)
def zjv (t : Ty) : Prop := ∀ (bd : Nat) (m : Option Nat) (B wb k1 k2 : Nat) (n : List Nat) (l : List UInt8) (sp : List Spn) (w : World) (v : Value), sz t <= bd -> Tv w t v -> Wt m B wb k1 k2 n l sp w -> B <= w.heap.size -> l.length + (wtx (zaa t n) t).length + 2 <= 140737488355328 ->
 Calls Tryz.prog 134 #[.pointer (some ⟨wb, 0, none⟩), v] w (zcf m B wb k1 k2 bd sp (zaa t n) (l ++ wtx (zaa t n) t) w)
theorem leaf_I (bd : Nat) (m : Option Nat) (B wb k1 k2 : Nat) (n : List Nat) (l : List UInt8) (sp : List Spn) (w : World) (h : Wt m B wb k1 k2 n l sp w) (hB : B <= w.heap.size) (hl : l.length + 1 <= 140737488355328) :
 Calls Tryz.prog 132 #[.pointer (some ⟨wb, 0, none⟩), viI] w (zcf m B wb k1 k2 bd sp n (l ++ [73]) w) := by
 have a1 := th_Whole
 have h1 := h.alloc hB (.cells #[] 255)
 have K1 : KW m B wb k1 k2 w (w.alloc (.cells #[] 255)) := (KW.refl m B wb k1 k2 w).alloc hB _
 go_enter Tryz.func132, Tryz.ntmps132
 go_wp2_with fail
 refine (zbs m B wb _ _ l 73 _ h1.wi (by decide) hl (by simp; omega)).mono ?_
 rintro e w1 ⟨rfl, h2, k2'⟩
 go_wp2_with fail
 go_end0
 exact ⟨rfl, ⟨sp, h1.text h2 k2', NoNew.refl _ _ _⟩, K1.trans k2'.kw⟩
theorem leaf_B (bd : Nat) (m : Option Nat) (B wb k1 k2 : Nat) (n : List Nat) (l : List UInt8) (sp : List Spn) (w : World) (h : Wt m B wb k1 k2 n l sp w) (hB : B <= w.heap.size) (hl : l.length + 1 <= 140737488355328) :
 Calls Tryz.prog 132 #[.pointer (some ⟨wb, 0, none⟩), viB] w (zcf m B wb k1 k2 bd sp n (l ++ [66]) w) := by
 have a1 := fun v => tm_Whole (T := 254) v (by decide)
 have a2 := th_Truth
 have h1 := h.alloc hB (.cells #[] 254)
 have K1 : KW m B wb k1 k2 w (w.alloc (.cells #[] 254)) := (KW.refl m B wb k1 k2 w).alloc hB _
 go_enter Tryz.func132, Tryz.ntmps132
 go_wp2_with fail
 refine (zbs m B wb _ _ l 66 _ h1.wi (by decide) hl (by simp; omega)).mono ?_
 rintro e w1 ⟨rfl, h2, k2'⟩
 go_wp2_with fail
 go_end0
 exact ⟨rfl, ⟨sp, h1.text h2 k2', NoNew.refl _ _ _⟩, K1.trans k2'.kw⟩
theorem leaf_V (bd : Nat) (m : Option Nat) (B wb k1 k2 : Nat) (n : List Nat) (l : List UInt8) (sp : List Spn) (w : World) (h : Wt m B wb k1 k2 n l sp w) (o : Nat) (hr : 970 <= o /\ o < 1230) (hB : B <= w.heap.size) (hl : l.length + 2 <= 140737488355328) :
 Calls Tryz.prog 132 #[.pointer (some ⟨wb, 0, none⟩), viV o] w (zcf m B wb k1 k2 bd sp (zaa (tV o) n) (l ++ wtx (zaa (tV o) n) (tV o)) w) := by
 have a1 := fun v => tm_Whole (T := 263) v (by decide)
 have a2 := fun v => tm_Truth (T := 263) v (by decide)
 have a3 := zfw
 have h1 := h.alloc hB (.cells #[.int .u8 ((o / 10 : Nat) : Int), .int .u8 ((o % 10 : Nat) : Int)] 263)
 have K1 : KW m B wb k1 k2 w (w.alloc (.cells #[.int .u8 ((o / 10 : Nat) : Int), .int .u8 ((o % 10 : Nat) : Int)] 263)) := (KW.refl m B wb k1 k2 w).alloc hB _
 have V1 := var_any m B wb k1 k2 n l sp _ h1 o hr hl (by simp; omega)
 clear h h1 hr hl
 generalize l ++ wtx (zaa (tV o) n) (tV o) = l' at *
 generalize zaa (tV o) n = n' at *
 unfold viV
 unfold kv at *
 generalize ((o / 10 : Nat) : Int) = x at *
 generalize ((o % 10 : Nat) : Int) = y at *
 go_enter Tryz.func132, Tryz.ntmps132
 go_wp2_with fail
 refine V1.mono ?_
 rintro e w1 ⟨rfl, h2, k2'⟩
 go_wp2_with fail
 go_end0
 exact ⟨rfl, ⟨sp, h2, NoNew.refl _ _ _⟩, K1.trans k2'⟩
theorem zio {v : Value} (lf : Leaf v) (m : Option Nat) (B wb k1 k2 bd : Nat) (sp : List Spn) (n' : List Nat) (l' : List UInt8) (w : World)
 (H : Calls Tryz.prog 132 #[.pointer (some ⟨wb, 0, none⟩), v] w (zcf m B wb k1 k2 bd sp n' l' w)) :
 Calls Tryz.prog 95 #[.pointer (some ⟨wb, 0, none⟩), v] w (zcf m B wb k1 k2 bd sp n' l' w) := by
 have N := lf.nodeOf w
 obtain ⟨T, x, rfl⟩ := lf.iface
 clear lf
 go_enter Tryz.func95, Tryz.ntmps95
 go_wp2_with fail
 refine N.mono ?_
 rintro e w1 ⟨rfl, rfl⟩
 go_wp2_with fail
 refine H.mono ?_
 rintro e w1 ⟨rfl, h1, k1'⟩
 go_wp2_with fail
 first | go_end0 | refine bodyPost_ret (results_none rfl _ _ _) rfl ?_
 exact ⟨rfl, h1, k1'⟩
theorem type_I : zdg tI := by
 intro bd m B wb k1 k2 n l sp w v hbd hv h hB hl
 rw [Tv.isI hv]
 have e1 : zaa tI n = n := by simp [zaa]
 rw [e1, wtx_I] at *
 exact zio (.inl rfl) m B wb k1 k2 bd sp n _ w (leaf_I bd m B wb k1 k2 n l sp w h hB (by simp at hl; omega))
theorem type_B : zdg tB := by
 intro bd m B wb k1 k2 n l sp w v hbd hv h hB hl
 rw [Tv.isB hv]
 have e1 : zaa tB n = n := by simp [zaa]
 rw [e1, wtx_B] at *
 exact zio (.inr (.inl rfl)) m B wb k1 k2 bd sp n _ w (leaf_B bd m B wb k1 k2 n l sp w h hB (by simp at hl; omega))
theorem type_V {o : Nat} (hr : 970 <= o /\ o < 1230) : zdg (tV o) := by
 intro bd m B wb k1 k2 n l sp w v hbd hv h hB hl
 rw [Tv.isV hv]
 exact zio (.inr (.inr ⟨o, rfl⟩)) m B wb k1 k2 bd sp _ _ w (leaf_V bd m B wb k1 k2 n l sp w h o hr hB (by omega))
theorem zep {T : TypeId} (x : Value) (h : T ≠ 243) (w : World) : Calls Tryz.prog 166 #[.iface T x] w fun e w' => e = .returned (.bool false) /\ w' = w := by
 have a1 := fun w => zbx x h w
 go_enter Tryz.func166, Tryz.ntmps166
 go_wp2_with fail
 go_ret
 exact ⟨rfl, rfl⟩
theorem is_fun_yes (q : Nat) (w : World) : Calls Tryz.prog 166 #[viF q] w fun e w' => e = .returned (.bool true) /\ w' = w := by
 have a1 := zbk
 go_enter Tryz.func166, Tryz.ntmps166
 go_wp2_with fail
 go_ret
 exact ⟨rfl, rfl⟩
theorem zdu {t : Ty} (ht : Ok t) {w : World} {v : Value} (hv : Tv w t v) (w' : World) : Calls Tryz.prog 166 #[v] w' fun e w'' => e = .returned (.bool (isFn t)) /\ w'' = w' := by
 rcases ht.cases with rfl | rfl | ⟨o, _, _, rfl⟩ | ⟨a, _, rfl⟩ | ⟨a, b, _, _, rfl⟩ | ⟨a, b, _, _, rfl⟩
 · rw [hv.isI]; exact zep _ (by decide) w'
 · rw [hv.isB]; exact zep _ (by decide) w'
 · rw [hv.isV]; exact zep _ (by decide) w'
 · obtain ⟨q, x, rfl, _⟩ := hv.isL; exact zep _ (by decide) w'
 · obtain ⟨q, x, y, rfl, _⟩ := hv.isP; exact zep _ (by decide) w'
 · obtain ⟨q, x, y, rfl, _⟩ := hv.isF; exact is_fun_yes q w'
theorem zeb {T : TypeId} (x : Value) (h : T ≠ 259) (w : World) : Calls Tryz.prog 167 #[.iface T x] w fun e w' => e = .returned (.bool false) /\ w' = w := by
 have a1 := fun w => zcp x h w
 go_enter Tryz.func167, Tryz.ntmps167
 go_wp2_with fail
 go_ret
 exact ⟨rfl, rfl⟩
theorem zpe (q : Nat) (w : World) : Calls Tryz.prog 167 #[viP q] w fun e w' => e = .returned (.bool true) /\ w' = w := by
 have a1 := zee
 go_enter Tryz.func167, Tryz.ntmps167
 go_wp2_with fail
 go_ret
 exact ⟨rfl, rfl⟩
theorem zkd {t : Ty} (ht : Ok t) {w : World} {v : Value} (hv : Tv w t v) (w' : World) : Calls Tryz.prog 167 #[v] w' fun e w'' => e = .returned (.bool (isPr t)) /\ w'' = w' := by
 rcases ht.cases with rfl | rfl | ⟨o, _, _, rfl⟩ | ⟨a, _, rfl⟩ | ⟨a, b, _, _, rfl⟩ | ⟨a, b, _, _, rfl⟩
 · rw [hv.isI]; exact zeb _ (by decide) w'
 · rw [hv.isB]; exact zeb _ (by decide) w'
 · rw [hv.isV]; exact zeb _ (by decide) w'
 · obtain ⟨q, x, rfl, _⟩ := hv.isL; exact zeb _ (by decide) w'
 · obtain ⟨q, x, y, rfl, _⟩ := hv.isP; exact zpe q w'
 · obtain ⟨q, x, y, rfl, _⟩ := hv.isF; exact zeb _ (by decide) w'
theorem zfe {t : Ty} (ih : zdg t) (cl : Bool) (bd : Nat) (m : Option Nat) (B wb k1 k2 : Nat) (n : List Nat) (l : List UInt8) (sp : List Spn) (w : World) (v : Value) (hbd : sz t < bd) (hv : Tv w t v) (h : Wt m B wb k1 k2 n l sp w) (hB : B <= w.heap.size) (hl : l.length + (inBr cl (wtx (zaa t n) t)).length + 2 <= 140737488355328) :
 Calls Tryz.prog 165 #[.pointer (some ⟨wb, 0, none⟩), v, .bool cl] w (zcf m B wb k1 k2 bd sp (zaa t n) (l ++ inBr cl (wtx (zaa t n) t)) w) := by
 cases cl
 · have hl' : l.length + (wtx (zaa t n) t).length + 2 <= 140737488355328 := hl
   have IH := ih bd m B wb k1 k2 n l sp w v hbd hv h hB hl'
   obtain ⟨T, x, rfl⟩ := hv.iface
   clear ih hv hl hl' hbd
   show Calls _ _ _ _ (zcf m B wb k1 k2 bd sp (zaa t n) (l ++ wtx (zaa t n) t) w)
   generalize l ++ wtx (zaa t n) t = l' at *
   generalize zaa t n = n' at *
   go_enter Tryz.func165, Tryz.ntmps165
   go_wp2_with fail
   refine IH.mono ?_
   rintro e w1 ⟨rfl, h1, k1'⟩
   go_wp2_with fail
   first | go_end0 | refine bodyPost_ret (results_none rfl _ _ _) rfl ?_
   exact ⟨rfl, h1, k1'⟩
 · have hl' : l.length + 1 + (wtx (zaa t n) t).length + 1 + 2 <= 140737488355328 := by simp [inBr] at hl; omega
   have IH : ∀ w1, Wt m B wb k1 k2 n (l ++ [40]) sp w1 -> Tv w1 t v -> B <= w1.heap.size -> Calls Tryz.prog 95 #[.pointer (some ⟨wb, 0, none⟩), v] w1 (zcf m B wb k1 k2 bd sp (zaa t n) (l ++ [40] ++ wtx (zaa t n) t) w1) := fun w1 h1 hv1 hB1 => ih bd m B wb k1 k2 n (l ++ [40]) sp w1 v hbd hv1 h1 hB1 (by simp; omega)
   have HK : Hid (∀ w1, KW m B wb k1 k2 w w1 -> Tv w1 t v) := fun w1 k => Tv.keptN (h.kept k) _ _ hv
   have hL : (l ++ [40] ++ wtx (zaa t n) t).length + 1 <= 140737488355328 := by simp; omega
   have eL : l ++ inBr true (wtx (zaa t n) t) = l ++ [40] ++ wtx (zaa t n) t ++ [41] := by simp [inBr]
   rw [eL]
   obtain ⟨T, x, rfl⟩ := hv.iface
   clear ih hv hl eL hbd
   generalize l ++ [40] ++ wtx (zaa t n) t = l' at *
   generalize zaa t n = n' at *
   go_enter Tryz.func165, Tryz.ntmps165
   go_wp2_with fail
   refine (zbs m B wb _ _ l 40 _ h.wi (by decide) (by omega) hB).mono ?_
   rintro e w1 ⟨rfl, h1, k1'⟩
   have H1 := h.text h1 k1'
   have s1 : B <= w1.heap.size := Nat.le_trans hB k1'.size
   have T1 := HK.out w1 k1'.kw
   go_wp2_with fail
   refine (IH w1 H1 T1 s1).mono ?_
   rintro e w2 ⟨rfl, ⟨sp2, h2, nn⟩, k2'⟩
   have s2 : B <= w2.heap.size := Nat.le_trans s1 k2'.size
   go_wp2_with fail
   refine (zbs m B wb _ _ l' 41 _ h2.wi (by decide) hL s2).mono ?_
   rintro e w3 ⟨rfl, h3, k3'⟩
   go_wp2_with fail
   go_end0
   exact ⟨rfl, ⟨sp2, h2.text h3 k3', nn.back (h.kept k1'.kw)⟩, (k1'.kw.trans k2').trans k3'.kw⟩
theorem parts_L {a : Ty} (ih : zdg a) : zjv (tL a) := by
 intro bd m B wb k1 k2 n l sp w v hbd hv h hB hl
 obtain ⟨q, x, rfl, hq, hx⟩ := Tv.isL hv
 rw [leaves_tL, wtx_L] at *
 have hl' : l.length + 1 + (wtx (zaa a n) a).length + 1 + 2 <= 140737488355328 := by simp at hl; omega
 have IH : ∀ w1, Wt m B wb k1 k2 n (l ++ [91]) sp w1 -> Tv w1 a x -> B <= w1.heap.size -> Calls Tryz.prog 95 #[.pointer (some ⟨wb, 0, none⟩), x] w1 (zcf m B wb k1 k2 bd sp (zaa a n) (l ++ [91] ++ wtx (zaa a n) a) w1) := fun w1 h1 hv1 hB1 => ih bd m B wb k1 k2 n (l ++ [91]) sp w1 x (by simp [sz] at hbd; omega) hv1 h1 hB1 (by simp; omega)
 have hL : (l ++ [91] ++ wtx (zaa a n) a).length + 1 <= 140737488355328 := by simp; omega
 have eL : l ++ 91 :: (wtx (zaa a n) a ++ [93]) = l ++ [91] ++ wtx (zaa a n) a ++ [93] := by simp
 rw [eL]
 have HK : Hid (∀ w1, KW m B wb k1 k2 w w1 -> Tv w1 a x /\ w1.cell? ⟨q, 0, none⟩ = some x) := fun w1 k => ⟨Tv.keptN (h.kept k) _ _ hx, by rw [Lib.cell_of_heap (h.kept k _ _ _ (.inl rfl) hq)]; rfl⟩
 obtain ⟨T, x', rfl⟩ := hx.iface
 have a1 := zhg
 clear ih hv hl eL hq hx hbd
 generalize l ++ [91] ++ wtx (zaa a n) a = l' at *
 generalize zaa a n = n' at *
 go_enter Tryz.func134, Tryz.ntmps134
 go_wp2_with fail
 refine (zbs m B wb _ _ l 91 _ h.wi (by decide) (by omega) hB).mono ?_
 rintro e w1 ⟨rfl, h1, k1'⟩
 have H1 := h.text h1 k1'
 have s1 : B <= w1.heap.size := Nat.le_trans hB k1'.size
 obtain ⟨T1, c1⟩ := HK.out w1 k1'.kw
 go_wp2_with fail
 refine (IH w1 H1 T1 s1).mono ?_
 rintro e w2 ⟨rfl, ⟨sp2, h2, nn⟩, k2'⟩
 have s2 : B <= w2.heap.size := Nat.le_trans s1 k2'.size
 go_wp2_with fail
 refine (zbs m B wb _ _ l' 93 _ h2.wi (by decide) hL s2).mono ?_
 rintro e w3 ⟨rfl, h3, k3'⟩
 go_wp2_with fail
 go_end0
 exact ⟨rfl, ⟨sp2, h2.text h3 k3', nn.back (h.kept k1'.kw)⟩, (k1'.kw.trans k2').trans k3'.kw⟩
theorem Wt.drew {m : Option Nat} {B wb k1 k2 : Nat} {n : List Nat} {l : List UInt8} {sp : List Spn} {w : World} (h : Wt m B wb k1 k2 n l sp w) : Wt m B wb k1 k2 n l sp w.drew :=
 h.of h.wi.drew (fun _ _ _ _ h => h) (fun _ _ _ h => h)
theorem KW.undrew1 {m : Option Nat} {B wb k1 k2 : Nat} {w w' : World} (h : KW m B wb k1 k2 w.drew w') : KW m B wb k1 k2 w w' := ⟨⟨h.1.os, h.1.tape, h.1.output, h.1.size, h.1.block⟩, h.2⟩
theorem Tv.drew' {w : World} {t : Ty} {v : Value} (h : Tv w t v) : Tv w.drew t v := Tv.keptN (w := w) (w' := w.drew) (fun _ _ _ _ h => h) t v h
theorem parts_F {a b : Ty} (ha : Ok a) (hb : Ok b) (iha : zdg a) (ihb : zdg b) : zjv (tF a b) := by
 intro bd m B wb k1 k2 n l sp w v hbd hv h hB hl
 have hba : sz a < bd := by simp [sz] at hbd; omega
 have hbb : sz b < bd := by simp [sz] at hbd; omega
 obtain ⟨q, x, y, rfl, hq, hx, hy⟩ := Tv.isF hv
 rw [leaves_tF, wtx_F _ ha hb, ziw a b n] at *
 have hl1 : l.length + (inBr (isFn a) (wtx (zaa a n) a)).length + 1 + (wtx (zaa b (zaa a n)) b).length + 2 <= 140737488355328 := by simp at hl ⊢; omega
 have PA : Hid (Calls Tryz.prog 165 #[.pointer (some ⟨wb, 0, none⟩), x, .bool (isFn a)] w.drew (zcf m B wb k1 k2 bd sp (zaa a n) (l ++ inBr (isFn a) (wtx (zaa a n) a)) w.drew)) := zfe iha (isFn a) bd m B wb k1 k2 n l sp w.drew x hba hx.drew' h.drew hB (by omega)
 have FA : Hid (∀ w', Calls Tryz.prog 166 #[x] w' fun e w'' => e = .returned (.bool (isFn a)) /\ w'' = w') := fun w' => zdu ha hx w'
 have eL : l ++ (inBr (isFn a) (wtx (zaa a n) a) ++ 62 :: wtx (zaa b (zaa a n)) b) = l ++ inBr (isFn a) (wtx (zaa a n) a) ++ [62] ++ wtx (zaa b (zaa a n)) b := by simp
 rw [eL]
 have hL1 : (l ++ inBr (isFn a) (wtx (zaa a n) a)).length + 1 <= 140737488355328 := by rw [List.length_append]; omega
 have HK : Hid (∀ w1, KW m B wb k1 k2 w w1 -> Tv w1 b y /\ w1.cell? ⟨q, 0, none⟩ = some x /\ w1.cell? ⟨q, 1, none⟩ = some y) := fun w1 k => ⟨Tv.keptN (h.kept k) _ _ hy, by rw [Lib.cell_of_heap (h.kept k _ _ _ (.inr (.inr rfl)) hq)]; rfl, by rw [Lib.cell_of_heap (h.kept k _ _ _ (.inr (.inr rfl)) hq)]; rfl⟩
 have HW : Hid (∀ w1, KW m B wb k1 k2 w w1 -> KeptN w w1) := fun w1 k => h.kept k
 have IB : Hid (∀ w2 sp2, Wt m B wb k1 k2 (zaa a n) (l ++ inBr (isFn a) (wtx (zaa a n) a) ++ [62]) sp2 w2 -> Tv w2 b y -> B <= w2.heap.size -> Calls Tryz.prog 95 #[.pointer (some ⟨wb, 0, none⟩), y] w2 (zcf m B wb k1 k2 bd sp2 (zaa b (zaa a n)) (l ++ inBr (isFn a) (wtx (zaa a n) a) ++ [62] ++ wtx (zaa b (zaa a n)) b) w2)) := fun w2 sp2 h2 hv2 hB2 => ihb bd m B wb k1 k2 _ _ sp2 w2 y hbb hv2 h2 hB2 (by simp only [List.length_append, List.length_singleton]; omega)
 have c0 : w.cell? ⟨q, 0, none⟩ = some x := cbl hq
 obtain ⟨T, x', rfl⟩ := hx.iface
 obtain ⟨S, y', rfl⟩ := hy.iface
 have a1 := fun v => zbg (T := 243) v (by decide)
 have a2 := fun v => zcp (T := 243) v (by decide)
 have a3 := zbk
 clear iha ihb hv hl eL hq hx hy hl1 hbd hba hbb
 generalize isFn a = fa at *
 generalize l ++ inBr fa (wtx (zaa a n) a) = l1 at *
 generalize wtx (zaa b (zaa a n)) b = f2 at *
 generalize zaa b (zaa a n) = n2 at *
 generalize zaa a n = n1 at *
 go_enter Tryz.func134, Tryz.ntmps134
 go_wp2_with fail
 refine wp_region_held_drew (S := (fun wq => wq.cell? ⟨q, 0, none⟩ = some (.iface T x'))) (by kernel_rfl) (c0) (fun hS => ?_)
 refine tkS 0 (.pointer (some ⟨wb, 0, none⟩)) hS ?_
 refine tkS 1 (.pointer (some ⟨q, 0, none⟩)) hS ?_
 refine tkS 2 (.pointer (some ⟨q, 0, none⟩)) hS ?_
 refine tkS 3 (.pointer (some ⟨q, 0, none⟩)) hS ?_
 refine tkL 4 (.iface T x') hS ?_
 refine tkS 5 (.pointer (some ⟨q, 0, none⟩)) hS ?_
 refine tkS 6 (.pointer (some ⟨q, 0, none⟩)) hS ?_
 refine tkS 7 (.pointer (some ⟨q, 0, none⟩)) hS ?_
 refine tkL 8 (.iface T x') hS ?_
 refine rd1 9 (fun KK hK => ?_)
 (try simp only [List.getElem_toArray, List.getElem_cons_succ, List.getElem_cons_zero])
 go_simp
 go_at_call 166
 refine (FA.out _).mono ?_
 rintro e w' ⟨rfl, rfl⟩
 (try dsimp only)
 refine hK.out _ _ c0 (fun hS => nrm ?_)
 refine rd1 10 (fun KK hK => ?_)
 (try simp only [List.getElem_toArray, List.getElem_cons_succ, List.getElem_cons_zero])
 go_simp
 go_at_call 165
 refine (PA.out).mono ?_
 rintro e w1 ⟨rfl, ⟨sp1, h1, nn1⟩, k1'⟩
 replace k1' := k1'.undrew1
 replace nn1 : NoNew bd sp sp1 w := nn1.back (fun _ _ _ _ h => h)
 obtain ⟨T1, c1, c2⟩ := HK.out w1 k1'
 (try dsimp only)
 refine hK.out _ _ c1 (fun hS => nrm ?_)
 refine wpAnyH_done (by kernel_rfl) ?_ _
 clear PA FA hS c0
 have s1 : B <= w1.heap.size := Nat.le_trans hB k1'.size
 go_wp2_with fail
 refine (zbs m B wb _ _ l1 62 _ h1.wi (by decide) hL1 s1).mono ?_
 rintro e w2 ⟨rfl, h2, k2'⟩
 have H2 := h1.text h2 k2'
 have s2 : B <= w2.heap.size := Nat.le_trans s1 k2'.size
 have K2 := k1'.trans k2'.kw
 obtain ⟨T2, d1, d2⟩ := HK.out w2 K2
 clear h1 h2 k1' k2' T1 c1 c2
 go_wp2_with fail
 refine (IB.out w2 _ H2 T2 s2).mono ?_
 rintro e w3 ⟨rfl, ⟨sp3, h3, nn3⟩, k3'⟩
 go_wp2_with fail
 first | go_end0 | refine bodyPost_ret (results_none rfl _ _ _) rfl ?_
 exact ⟨rfl, ⟨sp3, h3, nn1.trans (nn3.back (HW.out w2 K2))⟩, K2.trans k3'⟩
theorem parts_P_on {a b : Ty} (ha : Ok a) (hb : Ok b) (iha : zdg a) (ihb : zdg b) (hfb : isFn b = true) : zjv (tP a b) := by
 intro bd m B wb k1 k2 n l sp w v hbd hv h hB hl
 have hba : sz a < bd := by simp [sz] at hbd; omega
 have hbb : sz b < bd := by simp [sz] at hbd; omega
 obtain ⟨q, x, y, rfl, hq, hx, hy⟩ := Tv.isP hv
 rw [zod, wtx_P _ ha hb, ziw a b n] at *
 have hl1 : l.length + (inBr (isFn a) (wtx (zaa a n) a)).length + 1 + (inBr (isFn b || isPr b) (wtx (zaa b (zaa a n)) b)).length + 2 <= 140737488355328 := by simp at hl ⊢; omega
 have PA : Hid (Calls Tryz.prog 165 #[.pointer (some ⟨wb, 0, none⟩), x, .bool (isFn a)] w.drew (zcf m B wb k1 k2 bd sp (zaa a n) (l ++ inBr (isFn a) (wtx (zaa a n) a)) w.drew)) := zfe iha (isFn a) bd m B wb k1 k2 n l sp w.drew x hba hx.drew' h.drew hB (by omega)
 have FA : Hid (∀ w', Calls Tryz.prog 166 #[x] w' fun e w'' => e = .returned (.bool (isFn a)) /\ w'' = w') := fun w' => zdu ha hx w'
 have eL : l ++ (inBr (isFn a) (wtx (zaa a n) a) ++ 42 :: inBr (isFn b || isPr b) (wtx (zaa b (zaa a n)) b)) = l ++ inBr (isFn a) (wtx (zaa a n) a) ++ [42] ++ inBr (isFn b || isPr b) (wtx (zaa b (zaa a n)) b) := by simp
 rw [eL]
 have hL1 : (l ++ inBr (isFn a) (wtx (zaa a n) a)).length + 1 <= 140737488355328 := by rw [List.length_append]; omega
 have HK : Hid (∀ w1, KW m B wb k1 k2 w w1 -> Tv w1 b y /\ w1.cell? ⟨q, 0, none⟩ = some x /\ w1.cell? ⟨q, 1, none⟩ = some y) := fun w1 k => ⟨Tv.keptN (h.kept k) _ _ hy, by rw [Lib.cell_of_heap (h.kept k _ _ _ (.inr (.inl rfl)) hq)]; rfl, by rw [Lib.cell_of_heap (h.kept k _ _ _ (.inr (.inl rfl)) hq)]; rfl⟩
 have HW : Hid (∀ w1, KW m B wb k1 k2 w w1 -> KeptN w w1) := fun w1 k => h.kept k
 have eB : (isFn b || isPr b) = true := by rw [hfb]; rfl
 rw [eB] at hl1 ⊢
 have IB : Hid (∀ w2 sp2, Wt m B wb k1 k2 (zaa a n) (l ++ inBr (isFn a) (wtx (zaa a n) a) ++ [42]) sp2 w2 -> Tv w2 b y -> B <= w2.heap.size -> Calls Tryz.prog 165 #[.pointer (some ⟨wb, 0, none⟩), y, .bool true] w2 (zcf m B wb k1 k2 bd sp2 (zaa b (zaa a n)) (l ++ inBr (isFn a) (wtx (zaa a n) a) ++ [42] ++ inBr true (wtx (zaa b (zaa a n)) b)) w2)) := fun w2 sp2 h2 hv2 hB2 => zfe ihb true bd m B wb k1 k2 _ _ sp2 w2 y hbb hv2 h2 hB2 (by simp only [List.length_append, List.length_singleton]; omega)
 have FB : Hid (∀ w', Calls Tryz.prog 166 #[y] w' fun e w'' => e = .returned (.bool true) /\ w'' = w') := fun w' => by rw [<- hfb]; exact zdu hb hy w'
 have PB : Hid (∀ w', Calls Tryz.prog 167 #[y] w' fun e w'' => e = .returned (.bool (isPr b)) /\ w'' = w') := fun w' => zkd hb hy w'
 have c0 : w.cell? ⟨q, 0, none⟩ = some x := cbl hq
 obtain ⟨T, x', rfl⟩ := hx.iface
 obtain ⟨S, y', rfl⟩ := hy.iface
 have a1 := fun v => zbg (T := 259) v (by decide)
 have a3 := zee
 clear iha ihb hv hl eL hq hx hy hl1 hbd hba hbb
 generalize isFn a = fa at *
 generalize l ++ inBr fa (wtx (zaa a n) a) = l1 at *
 clear PB
 clear hfb eB
 generalize inBr true (wtx (zaa b (zaa a n)) b) = f2 at *
 generalize zaa b (zaa a n) = n2 at *
 generalize zaa a n = n1 at *
 go_enter Tryz.func134, Tryz.ntmps134
 go_wp2_with fail
 refine wp_region_held_drew (S := (fun wq => wq.cell? ⟨q, 0, none⟩ = some (.iface T x'))) (by kernel_rfl) (c0) (fun hS => ?_)
 refine tkS 0 (.pointer (some ⟨wb, 0, none⟩)) hS ?_
 refine tkS 1 (.pointer (some ⟨q, 0, none⟩)) hS ?_
 refine tkS 2 (.pointer (some ⟨q, 0, none⟩)) hS ?_
 refine tkS 3 (.pointer (some ⟨q, 0, none⟩)) hS ?_
 refine tkL 4 (.iface T x') hS ?_
 refine tkS 5 (.pointer (some ⟨q, 0, none⟩)) hS ?_
 refine tkS 6 (.pointer (some ⟨q, 0, none⟩)) hS ?_
 refine tkS 7 (.pointer (some ⟨q, 0, none⟩)) hS ?_
 refine tkL 8 (.iface T x') hS ?_
 refine rd1 9 (fun KK hK => ?_)
 (try simp only [List.getElem_toArray, List.getElem_cons_succ, List.getElem_cons_zero])
 go_simp
 go_at_call 166
 refine (FA.out _).mono ?_
 rintro e w' ⟨rfl, rfl⟩
 (try dsimp only)
 refine hK.out _ _ c0 (fun hS => nrm ?_)
 refine rd1 10 (fun KK hK => ?_)
 (try simp only [List.getElem_toArray, List.getElem_cons_succ, List.getElem_cons_zero])
 go_simp
 go_at_call 165
 refine (PA.out).mono ?_
 rintro e w1 ⟨rfl, ⟨sp1, h1, nn1⟩, k1'⟩
 replace k1' := k1'.undrew1
 replace nn1 : NoNew bd sp sp1 w := nn1.back (fun _ _ _ _ h => h)
 obtain ⟨T1, c1, c2⟩ := HK.out w1 k1'
 (try dsimp only)
 refine hK.out _ _ c1 (fun hS => nrm ?_)
 refine wpAnyH_done (by kernel_rfl) ?_ _
 clear PA FA hS c0
 have s1 : B <= w1.heap.size := Nat.le_trans hB k1'.size
 go_wp2_with fail
 refine (zbs m B wb _ _ l1 42 _ h1.wi (by decide) hL1 s1).mono ?_
 rintro e w2 ⟨rfl, h2, k2'⟩
 have H2 := h1.text h2 k2'
 have s2 : B <= w2.heap.size := Nat.le_trans s1 k2'.size
 have K2 := k1'.trans k2'.kw
 obtain ⟨T2, d1, d2⟩ := HK.out w2 K2
 clear h1 h2 k1' k2' T1 c1 c2
 go_wp2_with fail
 refine wp_region_held_drew (S := (fun wq => wq.cell? ⟨q, 1, none⟩ = some (.iface S y'))) (by kernel_rfl) (d2) (fun hS => ?_)
 refine tkS 0 (.pointer (some ⟨wb, 0, none⟩)) hS ?_
 refine tkS 1 (.pointer (some ⟨q, 0, none⟩)) hS ?_
 refine tkS 2 (.pointer (some ⟨q, 0, none⟩)) hS ?_
 refine tkS 3 (.pointer (some ⟨q, 1, none⟩)) hS ?_
 refine tkL 4 (.iface S y') hS ?_
 refine tkS 5 (.pointer (some ⟨q, 0, none⟩)) hS ?_
 refine tkS 6 (.pointer (some ⟨q, 0, none⟩)) hS ?_
 refine tkS 7 (.pointer (some ⟨q, 1, none⟩)) hS ?_
 refine tkL 8 (.iface S y') hS ?_
 refine rd1 9 (fun KK hK => ?_)
 (try simp only [List.getElem_toArray, List.getElem_cons_succ, List.getElem_cons_zero])
 go_simp
 go_at_call 166
 refine (FB.out _).mono ?_
 rintro e w' ⟨rfl, rfl⟩
 (try dsimp only)
 refine hK.out _ _ d2 (fun hS => nrm ?_)
 refine tkS 10 (.bool true) hS ?_
 refine tkU 11 hS ?_
 refine tkU 12 hS ?_
 refine tkU 13 hS ?_
 refine tkU 14 hS ?_
 refine tkU 15 hS ?_
 refine tkS 16 (.bool true) hS ?_
 refine rd1 17 (fun KK hK => ?_)
 (try simp only [List.getElem_toArray, List.getElem_cons_succ, List.getElem_cons_zero])
 go_simp
 go_at_call 165
 refine (IB.out w2.drew _ H2.drew T2.drew' s2).mono ?_
 rintro e w3 ⟨rfl, ⟨sp3, h3, nn3⟩, k3'⟩
 replace k3' := k3'.undrew1
 replace nn3 := nn3.back (w := w2) (fun _ _ _ _ h => h)
 obtain ⟨T3, e1, e2⟩ := HK.out w3 (K2.trans k3')
 (try dsimp only)
 refine hK.out _ _ e2 (fun hS => nrm ?_)
 refine wpAnyH_done (by kernel_rfl) ?_ _
 go_wp2_with fail
 first | go_end0 | refine bodyPost_ret (results_none rfl _ _ _) rfl ?_
 exact ⟨rfl, ⟨sp3, h3, nn1.trans (nn3.back (HW.out w2 K2))⟩, K2.trans k3'⟩
theorem parts_P_off {a b : Ty} (ha : Ok a) (hb : Ok b) (iha : zdg a) (ihb : zdg b) (hfb : isFn b = false) : zjv (tP a b) := by
 intro bd m B wb k1 k2 n l sp w v hbd hv h hB hl
 have hba : sz a < bd := by simp [sz] at hbd; omega
 have hbb : sz b < bd := by simp [sz] at hbd; omega
 obtain ⟨q, x, y, rfl, hq, hx, hy⟩ := Tv.isP hv
 rw [zod, wtx_P _ ha hb, ziw a b n] at *
 have hl1 : l.length + (inBr (isFn a) (wtx (zaa a n) a)).length + 1 + (inBr (isFn b || isPr b) (wtx (zaa b (zaa a n)) b)).length + 2 <= 140737488355328 := by simp at hl ⊢; omega
 have PA : Hid (Calls Tryz.prog 165 #[.pointer (some ⟨wb, 0, none⟩), x, .bool (isFn a)] w.drew (zcf m B wb k1 k2 bd sp (zaa a n) (l ++ inBr (isFn a) (wtx (zaa a n) a)) w.drew)) := zfe iha (isFn a) bd m B wb k1 k2 n l sp w.drew x hba hx.drew' h.drew hB (by omega)
 have FA : Hid (∀ w', Calls Tryz.prog 166 #[x] w' fun e w'' => e = .returned (.bool (isFn a)) /\ w'' = w') := fun w' => zdu ha hx w'
 have eL : l ++ (inBr (isFn a) (wtx (zaa a n) a) ++ 42 :: inBr (isFn b || isPr b) (wtx (zaa b (zaa a n)) b)) = l ++ inBr (isFn a) (wtx (zaa a n) a) ++ [42] ++ inBr (isFn b || isPr b) (wtx (zaa b (zaa a n)) b) := by simp
 rw [eL]
 have hL1 : (l ++ inBr (isFn a) (wtx (zaa a n) a)).length + 1 <= 140737488355328 := by rw [List.length_append]; omega
 have HK : Hid (∀ w1, KW m B wb k1 k2 w w1 -> Tv w1 b y /\ w1.cell? ⟨q, 0, none⟩ = some x /\ w1.cell? ⟨q, 1, none⟩ = some y) := fun w1 k => ⟨Tv.keptN (h.kept k) _ _ hy, by rw [Lib.cell_of_heap (h.kept k _ _ _ (.inr (.inl rfl)) hq)]; rfl, by rw [Lib.cell_of_heap (h.kept k _ _ _ (.inr (.inl rfl)) hq)]; rfl⟩
 have HW : Hid (∀ w1, KW m B wb k1 k2 w w1 -> KeptN w w1) := fun w1 k => h.kept k
 have eB : (isFn b || isPr b) = (isPr b) := by rw [hfb]; simp
 rw [eB] at hl1 ⊢
 have IB : Hid (∀ w2 sp2, Wt m B wb k1 k2 (zaa a n) (l ++ inBr (isFn a) (wtx (zaa a n) a) ++ [42]) sp2 w2 -> Tv w2 b y -> B <= w2.heap.size -> Calls Tryz.prog 165 #[.pointer (some ⟨wb, 0, none⟩), y, .bool (isPr b)] w2 (zcf m B wb k1 k2 bd sp2 (zaa b (zaa a n)) (l ++ inBr (isFn a) (wtx (zaa a n) a) ++ [42] ++ inBr (isPr b) (wtx (zaa b (zaa a n)) b)) w2)) := fun w2 sp2 h2 hv2 hB2 => zfe ihb (isPr b) bd m B wb k1 k2 _ _ sp2 w2 y hbb hv2 h2 hB2 (by simp only [List.length_append, List.length_singleton]; omega)
 have FB : Hid (∀ w', Calls Tryz.prog 166 #[y] w' fun e w'' => e = .returned (.bool false) /\ w'' = w') := fun w' => by rw [<- hfb]; exact zdu hb hy w'
 have PB : Hid (∀ w', Calls Tryz.prog 167 #[y] w' fun e w'' => e = .returned (.bool (isPr b)) /\ w'' = w') := fun w' => zkd hb hy w'
 have c0 : w.cell? ⟨q, 0, none⟩ = some x := cbl hq
 obtain ⟨T, x', rfl⟩ := hx.iface
 obtain ⟨S, y', rfl⟩ := hy.iface
 have a1 := fun v => zbg (T := 259) v (by decide)
 have a3 := zee
 clear iha ihb hv hl eL hq hx hy hl1 hbd hba hbb
 generalize isFn a = fa at *
 generalize l ++ inBr fa (wtx (zaa a n) a) = l1 at *
 generalize isPr b = pb at *
 clear hfb eB
 generalize inBr pb (wtx (zaa b (zaa a n)) b) = f2 at *
 generalize zaa b (zaa a n) = n2 at *
 generalize zaa a n = n1 at *
 go_enter Tryz.func134, Tryz.ntmps134
 go_wp2_with fail
 refine wp_region_held_drew (S := (fun wq => wq.cell? ⟨q, 0, none⟩ = some (.iface T x'))) (by kernel_rfl) (c0) (fun hS => ?_)
 refine tkS 0 (.pointer (some ⟨wb, 0, none⟩)) hS ?_
 refine tkS 1 (.pointer (some ⟨q, 0, none⟩)) hS ?_
 refine tkS 2 (.pointer (some ⟨q, 0, none⟩)) hS ?_
 refine tkS 3 (.pointer (some ⟨q, 0, none⟩)) hS ?_
 refine tkL 4 (.iface T x') hS ?_
 refine tkS 5 (.pointer (some ⟨q, 0, none⟩)) hS ?_
 refine tkS 6 (.pointer (some ⟨q, 0, none⟩)) hS ?_
 refine tkS 7 (.pointer (some ⟨q, 0, none⟩)) hS ?_
 refine tkL 8 (.iface T x') hS ?_
 refine rd1 9 (fun KK hK => ?_)
 (try simp only [List.getElem_toArray, List.getElem_cons_succ, List.getElem_cons_zero])
 go_simp
 go_at_call 166
 refine (FA.out _).mono ?_
 rintro e w' ⟨rfl, rfl⟩
 (try dsimp only)
 refine hK.out _ _ c0 (fun hS => nrm ?_)
 refine rd1 10 (fun KK hK => ?_)
 (try simp only [List.getElem_toArray, List.getElem_cons_succ, List.getElem_cons_zero])
 go_simp
 go_at_call 165
 refine (PA.out).mono ?_
 rintro e w1 ⟨rfl, ⟨sp1, h1, nn1⟩, k1'⟩
 replace k1' := k1'.undrew1
 replace nn1 : NoNew bd sp sp1 w := nn1.back (fun _ _ _ _ h => h)
 obtain ⟨T1, c1, c2⟩ := HK.out w1 k1'
 (try dsimp only)
 refine hK.out _ _ c1 (fun hS => nrm ?_)
 refine wpAnyH_done (by kernel_rfl) ?_ _
 clear PA FA hS c0
 have s1 : B <= w1.heap.size := Nat.le_trans hB k1'.size
 go_wp2_with fail
 refine (zbs m B wb _ _ l1 42 _ h1.wi (by decide) hL1 s1).mono ?_
 rintro e w2 ⟨rfl, h2, k2'⟩
 have H2 := h1.text h2 k2'
 have s2 : B <= w2.heap.size := Nat.le_trans s1 k2'.size
 have K2 := k1'.trans k2'.kw
 obtain ⟨T2, d1, d2⟩ := HK.out w2 K2
 clear h1 h2 k1' k2' T1 c1 c2
 go_wp2_with fail
 refine wp_region_held_drew (S := (fun wq => wq.cell? ⟨q, 1, none⟩ = some (.iface S y'))) (by kernel_rfl) (d2) (fun hS => ?_)
 refine tkS 0 (.pointer (some ⟨wb, 0, none⟩)) hS ?_
 refine tkS 1 (.pointer (some ⟨q, 0, none⟩)) hS ?_
 refine tkS 2 (.pointer (some ⟨q, 0, none⟩)) hS ?_
 refine tkS 3 (.pointer (some ⟨q, 1, none⟩)) hS ?_
 refine tkL 4 (.iface S y') hS ?_
 refine tkS 5 (.pointer (some ⟨q, 0, none⟩)) hS ?_
 refine tkS 6 (.pointer (some ⟨q, 0, none⟩)) hS ?_
 refine tkS 7 (.pointer (some ⟨q, 1, none⟩)) hS ?_
 refine tkL 8 (.iface S y') hS ?_
 refine rd1 9 (fun KK hK => ?_)
 (try simp only [List.getElem_toArray, List.getElem_cons_succ, List.getElem_cons_zero])
 go_simp
 go_at_call 166
 refine (FB.out _).mono ?_
 rintro e w' ⟨rfl, rfl⟩
 (try dsimp only)
 refine hK.out _ _ d2 (fun hS => nrm ?_)
 refine tkS 10 (.bool false) hS ?_
 refine tkS 11 (.pointer (some ⟨q, 0, none⟩)) hS ?_
 refine tkS 12 (.pointer (some ⟨q, 0, none⟩)) hS ?_
 refine tkS 13 (.pointer (some ⟨q, 1, none⟩)) hS ?_
 refine tkL 14 (.iface S y') hS ?_
 refine rd1 15 (fun KK hK => ?_)
 (try simp only [List.getElem_toArray, List.getElem_cons_succ, List.getElem_cons_zero])
 go_simp
 go_at_call 167
 refine (PB.out _).mono ?_
 rintro e w' ⟨rfl, rfl⟩
 (try dsimp only)
 refine hK.out _ _ d2 (fun hS => nrm ?_)
 refine tkS 16 (.bool pb) hS ?_
 refine rd1 17 (fun KK hK => ?_)
 (try simp only [List.getElem_toArray, List.getElem_cons_succ, List.getElem_cons_zero])
 go_simp
 go_at_call 165
 refine (IB.out w2.drew _ H2.drew T2.drew' s2).mono ?_
 rintro e w3 ⟨rfl, ⟨sp3, h3, nn3⟩, k3'⟩
 replace k3' := k3'.undrew1
 replace nn3 := nn3.back (w := w2) (fun _ _ _ _ h => h)
 obtain ⟨T3, e1, e2⟩ := HK.out w3 (K2.trans k3')
 (try dsimp only)
 refine hK.out _ _ e2 (fun hS => nrm ?_)
 refine wpAnyH_done (by kernel_rfl) ?_ _
 go_wp2_with fail
 first | go_end0 | refine bodyPost_ret (results_none rfl _ _ _) rfl ?_
 exact ⟨rfl, ⟨sp3, h3, nn1.trans (nn3.back (HW.out w2 K2))⟩, K2.trans k3'⟩
theorem parts_P {a b : Ty} (ha : Ok a) (hb : Ok b) (iha : zdg a) (ihb : zdg b) : zjv (tP a b) := by
 cases h : isFn b with
 | true => exact parts_P_on ha hb iha ihb h
 | false => exact parts_P_off ha hb iha ihb h
theorem lookS_mem {q : Nat} {r : Nat × Nat} : ∀ {sp : List Spn}, lookS sp q = some r -> ∃ p ∈ sp, p.1 = q /\ p.2.2 = r := by
 intro sp
 induction sp with
 | nil => intro h; simp [lookS] at h
 | cons p sp ih =>
  intro h
  simp only [lookS] at h
  by_cases hp : p.1 = q
  · rw [if_pos hp] at h
    exact ⟨p, List.mem_cons_self, hp, Option.some.inj h⟩
  · rw [if_neg hp] at h
    obtain ⟨p', h1, h2⟩ := ih h
    exact ⟨p', List.mem_cons_of_mem _ h1, h2⟩
theorem lookS_snoc {q q' : Nat} {v : Value} {r : Nat × Nat} (hq : q ≠ q') : ∀ {sp : List Spn}, lookS sp q = none -> lookS (sp ++ [(q', v, r)]) q = none := by
 intro sp
 induction sp with
 | nil => intro _; simp [lookS]; exact fun e => hq e.symm
 | cons p sp ih =>
  intro h
  simp only [lookS, List.cons_append] at *
  by_cases hp : p.1 = q
  · rw [if_pos hp] at h; cases h
  · rw [if_neg hp] at h ⊢; exact ih h
theorem nd_val {w : World} {v v' : Value} {q : Nat} (h : NdO w v q) (h' : NdO w v' q) : v = v' := by
 rcases h with ⟨rfl, n, x, hq⟩ | ⟨rfl, n, x, y, hq⟩ | ⟨rfl, n, x, y, hq⟩ <;> rcases h' with ⟨rfl, n', x', hq'⟩ | ⟨rfl, n', x', y', hq'⟩ | ⟨rfl, n', x', y', hq'⟩ <;> first | rfl | (rw [hq] at hq'; simp at hq')
theorem Wt.found {m : Option Nat} {B wb k1 k2 : Nat} {n : List Nat} {l : List UInt8} {sp : List Spn} {w : World} (h : Wt m B wb k1 k2 n l sp w) {t : Ty} (ht : Ok t) {v : Value} (hv : Tv w t v) {q b e : Nat} (hn : NdO w v q) (hs : lookS sp q = some (b, e)) : Cl t n /\ b <= e /\ e <= l.length /\ (l.drop b).take (e - b) = wtx n t := by
 obtain ⟨p, hp, h1, h2⟩ := lookS_mem hs
 obtain ⟨t', o1, o2, o3, o4, o5, o6⟩ := h.so p hp
 obtain ⟨es, cl, hb, he, hnn⟩ := h.spm
 have e1 := nd_val hn (by have := hnn p hp; rw [h1] at this; exact this)
 rw [<- e1] at o2
 have e2 := Tv.one t t' v ht o1 hv o2
 subst e2
 rw [h2] at o4 o5 o6
 exact ⟨o3, o4, o5, o6⟩
theorem Wt.spanned {m : Option Nat} {B wb k1 k2 : Nat} {n : List Nat} {l : List UInt8} {sp : List Spn} {w w' : World} (h : Wt m B wb k1 k2 n l sp w) {t : Ty} (ht : Ok t) {v : Value} (hv : Tv w t v) {q b e : Nat} (hn : Sp k2 (sp ++ [(q, v, b, e)]) w') (g : Gb k2 w w') (h1 : Cl t n) (h2 : b <= e) (h3 : e <= l.length) (h4 : (l.drop b).take (e - b) = wtx n t) : Wt m B wb k1 k2 n l (sp ++ [(q, v, b, e)]) w' := by
 obtain ⟨es, cl, hb, he⟩ := h.nm
 obtain ⟨es2, cl2, hb2, he2, hn2⟩ := h.spm
 have hne : ∀ q, (∀ es cl, w.heap[q]? ≠ some (Obj.map es cl)) \/ q = k1 -> ∀ ob, w.heap[q]? = some ob -> w'.heap[q]? = some ob := by
  intro q hq ob hob
  rw [g.block q (Array.getElem?_eq_some_iff.1 hob).1 ?_]
  · exact hob
  · rintro e
    have e : q = k2 := by simpa using e
    subst e
    rcases hq with hq | hq
    · exact hq es2 cl2 hb2
    · exact h.ne hq.symm
 have hk : KeptN w w' := fun q c T hT hq => hne q (.inl (fun es cl e => by rw [hq] at e; cases e)) _ hq
 refine ⟨⟨h.wi.le, hne _ (.inl (fun es cl e => by rw [h.wi.blk] at e; cases e)) _ h.wi.blk, fun b hb' => ⟨?_, (h.wi.bu b hb').2⟩⟩, ⟨es, cl, hne _ (.inr rfl) _ hb, he⟩, hn, ?_, h.b1, h.b2, h.ne, h.nd, h.rg⟩
 · have K : ∀ {x : Value} {bs : List Value}, w.ownsRowF B 5 1 x bs.length bs -> w'.ownsRowF B 5 1 x bs.length bs := by
    intro x bs hown
    refine hown.kept (row := some k2) ⟨g.os, g.tape, g.output, g.size, fun k hk hne' => g.block k hk hne'⟩ (Or.inr ?_)
    rcases hown.2 with ⟨rfl, _⟩ | ⟨gg, cap, cur, fz, rfl, _, hgg, _⟩
    · simp [Value.ownBlock]
    · intro e
      simp only [Value.ownBlock, Option.some.injEq] at e
      subst e
      rw [hb2] at hgg
      cases hgg
   rcases (h.wi.bu b hb').1 with ⟨hB, x, hx, hown, hxne⟩ | ⟨hB, x, hx, hown, hxne⟩
   · exact .inl ⟨hB, x, hne _ (.inl (fun es cl e => by rw [hx] at e; cases e)) _ hx, K hown, hxne⟩
   · exact .inr ⟨hB, x, hne _ (.inl (fun es cl e => by rw [hx] at e; cases e)) _ hx, K hown, hxne⟩
 · intro p hp
   rcases List.mem_append.1 hp with hp | hp
   · have := h.so.ext hk [] []
     simp only [List.append_nil] at this
     exact this p hp
   · simp at hp
     subst hp
     exact ⟨t, ht, Tv.keptN hk _ _ hv, h1, h2, h3, h4⟩
theorem type_again {t : Ty} (ht : Ok t) (bd : Nat) (m : Option Nat) (B wb k1 k2 : Nat) (n : List Nat) (l : List UInt8) (sp : List Spn) (w : World) (v : Value) (q k b e : Nat) (nv : NdV v q k) (hn : NdO w v q) (hv : Tv w t v) (h : Wt m B wb k1 k2 n l sp w) (hB : B <= w.heap.size) (hl : l.length + (wtx (zaa t n) t).length + 2 <= 140737488355328) (hs : lookS sp q = some (b, e)) :
 Calls Tryz.prog 95 #[.pointer (some ⟨wb, 0, none⟩), v] w (zcf m B wb k1 k2 bd sp (zaa t n) (l ++ wtx (zaa t n) t) w) := by
 obtain ⟨o1, o2, o3, o4⟩ := h.found ht hv hn hs
 have e1 : zaa t n = n := o1
 rw [e1] at hl ⊢
 have hlen : (wtx n t).length = e - b := by rw [<- o4, List.length_take, List.length_drop]; omega
 have N := zdx nv w
 have L := span_some h.spm hn hs
 have c3 : w.cell? ⟨wb, 3, none⟩ = some (.map (some k2)) := by rw [Lib.cell_of_heap h.wi.blk]; rfl
 have K1 : KW m B wb k1 k2 w (w.alloc (.cells #[.int .i64 (b : Int), .int .i64 (e : Int)] 217)) := (KW.refl m B wb k1 k2 w).alloc hB _
 have A := again_any m B wb k1 k2 n l sp _ (h.alloc hB (.cells #[.int .i64 (b : Int), .int .i64 (e : Int)] 217)) b e o2 o3 (by omega) (by simp; omega)
 rw [o4] at A
 obtain ⟨T, x, rfl⟩ := nv.iface
 clear nv hn hv h hl hs o1 o2 o3 o4 e1 hlen ht
 generalize l ++ wtx n t = l' at *
 go_enter Tryz.func95, Tryz.ntmps95
 go_wp2_with fail
 refine N.mono ?_
 rintro r w1 ⟨rfl, rfl⟩
 go_wp2_with fail
 refine A.mono ?_
 rintro r w2 ⟨rfl, h2, k2'⟩
 go_wp2_with fail
 first | go_end0 | refine bodyPost_ret (results_none rfl _ _ _) rfl ?_
 exact ⟨rfl, ⟨sp, h2, NoNew.refl _ _ _⟩, K1.trans k2'⟩
theorem type_new {t : Ty} (ht : Ok t) (P : zjv t) (bd : Nat) (hbd : sz t < bd) (m : Option Nat) (B wb k1 k2 : Nat) (n : List Nat) (l : List UInt8) (sp : List Spn) (w : World) (v : Value) (q k : Nat) (nv : NdV v q k) (hn : NdO w v q) (hv : Tv w t v) (h : Wt m B wb k1 k2 n l sp w) (hB : B <= w.heap.size) (hl : l.length + (wtx (zaa t n) t).length + 2 <= 140737488355328) (hs : lookS sp q = none) :
 Calls Tryz.prog 95 #[.pointer (some ⟨wb, 0, none⟩), v] w (zcf m B wb k1 k2 bd sp (zaa t n) (l ++ wtx (zaa t n) t) w) := by
 have N := zdx nv w
 have L := span_none h.spm hn hs
 have c3 : w.cell? ⟨wb, 3, none⟩ = some (.map (some k2)) := by rw [Lib.cell_of_heap h.wi.blk]; rfl
 have hlt := h.wi.lt
 have K1 : KW m B wb k1 k2 w (w.alloc (.cells #[.int .i64 0, .int .i64 0] 217)) := (KW.refl m B wb k1 k2 w).alloc hB _
 have h1 := h.alloc hB (.cells #[.int .i64 0, .int .i64 0] 217)
 have c1 : (w.alloc (.cells #[.int .i64 0, .int .i64 0] 217)).cell? ⟨wb, 1, none⟩ = some (.int .i64 (l.length : Int)) := by rw [Lib.cell_of_heap h1.wi.blk]; rfl
 have P1 := P (sz t) m B wb k1 k2 n l sp _ v (Nat.le_refl _) (Tv.keptN (h.kept K1) _ _ hv) h1 (by simp; omega) hl
 have HP : Hid (∀ sp1 w1, Wt m B wb k1 k2 (zaa t n) (l ++ wtx (zaa t n) t) sp1 w1 -> NoNew (sz t) sp sp1 (w.alloc (.cells #[.int .i64 0, .int .i64 0] 217)) -> KW m B wb k1 k2 (w.alloc (.cells #[.int .i64 0, .int .i64 0] 217)) w1 ->
  ∃ w2, (Instr.mapUpdate 168 (.map (some k2)) v (.agg #[.int .i64 (l.length : Int), .int .i64 ((l ++ wtx (zaa t n) t).length : Int)])).run Tryz.prog w1.drew = .ok () w2 /\ (∃ sp2, Wt m B wb k1 k2 (zaa t n) (l ++ wtx (zaa t n) t) sp2 w2 /\ NoNew bd sp sp2 w) /\ KW m B wb k1 k2 w w2) := by
  intro sp1 w1 H1 nn kk
  have KK := K1.trans kk
  have hk := h.kept KK
  have hn1 := hn.kept hk
  have hv1 := Tv.keptN hk _ _ hv
  have hnone : lookS sp1 q = none := nn t v q ht (Nat.le_refl _) (Tv.keptN (h.kept K1) _ _ hv) (hn.kept (h.kept K1)) hs
  obtain ⟨w2, r1, g, s1⟩ := span_put (w := w1.drew) (b := l.length) (e := (l ++ wtx (zaa t n) t).length) (H1.drew.spm) (hn1.kept (w' := w1.drew) (fun _ _ _ _ h => h)) hnone
  have s1B : B <= w1.heap.size := Nat.le_trans hB KK.size
  refine ⟨w2, r1, ⟨_, H1.drew.spanned ht hv1.drew' s1 g (znz t n) (by simp) (Nat.le_refl _) (by simp), ?_⟩, (KK.trans (KW.undrew1 (Gb.kw2 H1.b2 s1B g)))⟩
  intro u v' q' ou hu tu nu ls
  have l1 : lookS sp1 q' = none := nn u v' q' ou (by omega) (Tv.keptN (h.kept K1) _ _ tu) (nu.kept (h.kept K1)) ls
  refine lookS_snoc ?_ l1
  rintro rfl
  have e1 := nd_val hn nu
  subst e1
  have e2 := Tv.one t u v ht ou hv tu
  subst e2
  omega
 obtain ⟨T, x, rfl⟩ := nv.iface
 clear nv hn hv h h1 hl hs ht P
 generalize sz t = zt at *
 generalize l ++ wtx (zaa t n) t = l' at *
 generalize zaa t n = n' at *
 go_enter Tryz.func95, Tryz.ntmps95
 go_wp2_with fail
 refine N.mono ?_
 rintro r w1 ⟨rfl, rfl⟩
 go_wp2_with fail
 refine P1.mono ?_
 rintro r w1 ⟨rfl, ⟨sp1, h2, nn⟩, k2'⟩
 obtain ⟨w2, hput, ⟨sp2, H2, nn2⟩, KZ⟩ := HP.out sp1 w1 h2 nn k2'
 have d3 : w1.cell? ⟨wb, 3, none⟩ = some (.map (some k2)) := by rw [Lib.cell_of_heap h2.wi.blk]; rfl
 have d1 : w1.cell? ⟨wb, 1, none⟩ = some (.int .i64 (l'.length : Int)) := by rw [Lib.cell_of_heap h2.wi.blk]; rfl
 have p3 : w2.cell? ⟨wb, 3, none⟩ = some (.map (some k2)) := by rw [Lib.cell_of_heap H2.wi.blk]; rfl
 have p1 : w2.cell? ⟨wb, 1, none⟩ = some (.int .i64 (l'.length : Int)) := by rw [Lib.cell_of_heap H2.wi.blk]; rfl
 clear h2 nn k2' HP K1 c3 c1 L
 go_wp2_with fail
 refine wp_region_held_drew (S := (fun wq => wq.cell? ⟨wb, 3, none⟩ = some (.map (some k2)) /\ wq.cell? ⟨wb, 1, none⟩ = some (.int .i64 (l'.length : Int)))) (by kernel_rfl) (⟨d3, d1⟩) (fun hS => ?_)
 refine tkS 0 (.pointer (some ⟨wb, 0, none⟩)) hS ?_
 refine tkS 1 (.pointer (some ⟨wb, 0, none⟩)) hS ?_
 refine tkS 2 (.pointer (some ⟨wb, 3, none⟩)) hS ?_
 refine tkL 3 (.map (some k2)) hS ?_
 refine tkS 4 (.iface T x) hS ?_
 refine tkS 5 (.int .i64 (l.length : Int)) hS ?_
 refine tkS 6 (.pointer (some ⟨wb, 0, none⟩)) hS ?_
 refine tkS 7 (.pointer (some ⟨wb, 0, none⟩)) hS ?_
 refine tkS 8 (.pointer (some ⟨wb, 1, none⟩)) hS ?_
 refine tkL 9 (.int .i64 (l'.length : Int)) hS ?_
 refine tkS 10 (.agg #[.int .i64 (l.length : Int), .int .i64 (l'.length : Int)]) hS ?_
 refine rd1 11 (fun KK hK => ?_)
 (try simp only [List.getElem_toArray, List.getElem_cons_succ, List.getElem_cons_zero])
 go_simp
 (try dsimp only)
 refine hK.out _ _ ⟨p3, p1⟩ (fun hS => nrm ?_)
 refine wpAnyH_done (by kernel_rfl) ?_ _
 go_wp2_with fail
 first | go_end0 | refine bodyPost_ret (results_none rfl _ _ _) rfl ?_
 exact ⟨rfl, ⟨sp2, H2, nn2⟩, KZ⟩
theorem zjc {t : Ty} (ht : Ok t) (P : zjv t) (hnd : ∀ w v, Tv w t v -> ∃ q k, NdV v q k /\ NdO w v q) : zdg t := by
 intro bd m B wb k1 k2 n l sp w v hbd hv h hB hl
 obtain ⟨q, k, nv, hn⟩ := hnd w v hv
 cases hs : lookS sp q with
 | none => exact type_new ht P bd hbd m B wb k1 k2 n l sp w v q k nv hn hv h hB hl hs
 | some r =>
  obtain ⟨b, e⟩ := r
  exact type_again ht bd m B wb k1 k2 n l sp w v q k b e nv hn hv h hB hl hs
theorem type_any : ∀ t : Ty, Ok t -> zdg t := by
 intro t
 induction t with
 | nil => intro h; exact h.elim
 | node g o u a b iha ihb =>
  intro h
  cases u
  have h0 := h
  rcases h with ⟨rfl, rfl, rfl, rfl⟩ | ⟨rfl, rfl, rfl, rfl⟩ | ⟨rfl, ho, rfl, rfl⟩ | ⟨rfl, rfl, ha, rfl⟩ | ⟨rfl, rfl, ha, hb⟩ | ⟨rfl, rfl, ha, hb⟩
  · exact type_I
  · exact type_B
  · exact type_V ho
  · refine zjc h0 (parts_L (iha ha)) fun w v hv => ?_
    obtain ⟨q, x, rfl, hq, _⟩ := Tv.isL hv
    exact ⟨q, 1, .inl ⟨rfl, rfl⟩, .inl ⟨rfl, _, _, hq⟩⟩
  · refine zjc h0 (parts_P ha hb (iha ha) (ihb hb)) fun w v hv => ?_
    obtain ⟨q, x, y, rfl, hq, _⟩ := Tv.isP hv
    exact ⟨q, 2, .inr (.inl ⟨rfl, rfl⟩), .inr (.inl ⟨rfl, _, _, _, hq⟩)⟩
  · refine zjc h0 (parts_F ha hb (iha ha) (ihb hb)) fun w v hv => ?_
    obtain ⟨q, x, y, rfl, hq, _⟩ := Tv.isF hv
    exact ⟨q, 2, .inr (.inr ⟨rfl, rfl⟩), .inr (.inr ⟨rfl, _, _, _, hq⟩)⟩
theorem Wn.wt {m : Option Nat} {B wb k1 k2 : Nat} {w : World} (h : Wn m B wb k1 k2 w) : Wt m B wb k1 k2 [] [] [] w :=
 ⟨h.wi, ⟨#[], 0, h.n1, rfl⟩, ⟨#[], 0, h.n2, rfl, fun p hp => (by cases hp)⟩, fun p hp => (by cases hp), h.b1, h.b2, h.ne, List.nodup_nil, fun o ho => (by cases ho)⟩
theorem kwrite1_any {t : Ty} (ht : Ok t) (T : TypeId) (x : Value) (hf : (formT t).length + 2 <= 140737488355328) (m : Option Nat) (B wb k1 k2 eb : Nat) (w : World) (hB : B <= w.heap.size) (hW : Wn m B wb k1 k2 w) (hv : Tv w t (.iface T x)) (c0 : w.cell? ⟨eb, 0, none⟩ = some (.iface T x)) :
 Calls Tryz.prog 94 #[.pointer (some ⟨wb, 0, none⟩), .pointer (some ⟨eb, 0, none⟩)] w fun e w2 => e = .returned (.tuple #[]) /\ (∃ nm sp, Wi m B wb nm sp (formT t) w2) /\ Below B w w2 := by
 have H := type_any t ht (sz t + 1) m B wb k1 k2 [] [] [] w _ (Nat.lt_succ_self _) hv hW.wt hB (by rw [form_wtx] at hf; simpa using hf)
 rw [<- form_wtx, List.nil_append] at H
 clear hW hv hf ht
 generalize formT t = f at *
 generalize zaa t [] = n' at *
 generalize sz t + 1 = bd at *
 go_enter Tryz.func94, Tryz.ntmps94
 go_wp2_with fail
 refine H.mono ?_
 rintro e w1 ⟨rfl, ⟨sp', h1, _⟩, k1'⟩
 go_wp2_with fail
 first | go_end0 | refine bodyPost_ret (results_none rfl _ _ _) rfl ?_
 exact ⟨rfl, ⟨_, _, h1.wi⟩, k1'.1⟩
theorem zjk : EnteredW 94 := enters_of Tryz.func94 (by kernel_rfl) rfl
/-- kind.Write: the one form. -/
theorem kwrite_any {t : Ty} (ht : Ok t) (v : Value) (w : World) (hv : Tv w t v) (hf : (formT t).length + 2 <= 140737488355328) :
 Calls Tryz.prog 56 #[v] w fun e w' => e = .returned (.string ⟨(formT t).toArray⟩) /\ Below w.heap.size w w' := by
 obtain ⟨T, x, rfl⟩ := hv.iface
 have B0 : Below w.heap.size w (w.alloc (.cells #[.iface T x] 94)) := bal w _
 have c0 : (w.alloc (.cells #[.iface T x] 94)).cell? ⟨w.heap.size, 0, none⟩ = some (.iface T x) := by simp
 have H := text_any' 94 #[] #[.pointer (some ⟨w.heap.size, 0, none⟩)] zjk (formT t) (w.alloc (.cells #[.iface T x] 94)) (by omega)
  (fun m B wb k1 k2 w1 b1 b2 b3 hW => kwrite1_any ht T x hf m B wb k1 k2 w.heap.size w1 b3 hW ((hv.below B0).below b1) ((b1.cell (p := ⟨w.heap.size, 0, none⟩) (by show w.heap.size < _; simp)).trans c0))
 clear c0 hv hf ht
 generalize formT t = f at *
 go_enter Tryz.func56, Tryz.ntmps56
 go_wp2_with fail
 refine H.mono ?_
 rintro e w1 ⟨rfl, h1⟩
 go_wp2_with fail
 go_ret
 exact ⟨rfl, B0.trans (h1.mono B0.size)⟩
end Go.Proofs.YtceadeaodbadlaaGreatDoor
