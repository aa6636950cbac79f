import Derived.Test.YtceadeaodbadlaaGreatDoorChecksP4
import Derived.IntWalk
import Derived.Deep.RegionHeld3
import Derived.Deep.RegionLaw
import Derived.Deep.AppendLies
import Derived.WalkSmall
import Derived.Laws.ResultCell
import Derived.Deep.OwnRows
import Derived.Deep.RegionWith
import Derived.Laws.IdiomStrings
set_option linter.unusedVariables false
set_option linter.unusedSimpArgs false
set_option maxRecDepth 100000
set_option maxHeartbeats 8000000
namespace Go.Proofs.YtceadeaodbadlaaGreatDoor
open Go.RowKit
def envOf (st : List Sk) : Env := st.foldl (fun e x => zbo e x.1 x.2) (fun _ => none)
theorem zhm (st : List Sk) (x : Sk) : envOf (st ++ [x]) = zbo (envOf st) x.1 x.2 := by simp [envOf]
theorem lastAt_here (st : List Sk) (x : Sk) : zcy (st ++ [x]) x.1 (st.length : Int) := by
 refine .inr ⟨st.length, x, rfl, by simp, rfl, fun j y hj hy => ?_⟩
 rw [List.getElem?_eq_none (by simp; omega)] at hy
 cases hy
theorem lastAt_push {st : List Sk} {c : Nat} {z : Int} {x : Sk} (hx : x.1 ≠ c) (h : zcy st c z) : zcy (st ++ [x]) c z := by
 have key : ∀ (j : Nat) (y : Sk), (st ++ [x])[j]? = some y -> st[j]? = some y \/ y = x := by
  intro j y hy
  rcases Nat.lt_or_ge j st.length with hlt | hge
  · rw [List.getElem?_append_left hlt] at hy; exact .inl hy
  · rw [List.getElem?_append_right hge] at hy
    have := List.mem_of_getElem? hy
    simp at this
    exact .inr this
 rcases h with ⟨rfl, h⟩ | ⟨k, y, rfl, hy, hc, h⟩
 · refine .inl ⟨rfl, fun j y hy => ?_⟩
   rcases key j y hy with h1 | rfl
   · exact h j y h1
   · exact hx
 · refine .inr ⟨k, y, rfl, ?_, hc, fun j y hj hy => ?_⟩
   · rw [List.getElem?_append_left (List.getElem?_eq_some_iff.1 hy).1]; exact hy
   · rcases key j y hy with h1 | rfl
     · exact h j y hj h1
     · exact hx
theorem zle : ∀ (n : Nat) (st : List Sk), st.length = n -> ∀ c, ∃ z, zcy st c z /\ envOf st c = if z = -1 then none else (st[z.toNat]?).map (·.2) := by
 intro n
 induction n with
 | zero =>
  intro st h c
  obtain rfl := List.length_eq_zero_iff.1 h
  exact ⟨-1, .inl ⟨rfl, fun j x hx => by simp at hx⟩, by simp [envOf]⟩
 | succ n ih =>
  intro st h c
  rcases List.eq_nil_or_concat st with rfl | ⟨L, x, rfl⟩
  · simp at h
  · simp only [List.concat_eq_append] at h ⊢
    have hL : L.length = n := by simpa using h
    by_cases hx : x.1 = c
    · refine ⟨(L.length : Int), ?_, ?_⟩
      · rw [<- hx]; exact lastAt_here L x
      · rw [zhm, if_neg (by omega)]
        simp [zbo, hx]
    · obtain ⟨z, hz, he⟩ := ih L hL c
      refine ⟨z, lastAt_push hx hz, ?_⟩
      rw [zhm]
      simp only [zbo]
      rw [if_neg (fun e => hx e.symm), he]
      split
      · rfl
      · rename_i hz1
        rcases hz with ⟨rfl, _⟩ | ⟨k, y, rfl, hy, _⟩
        · exact absurd rfl hz1
        · have := (List.getElem?_eq_some_iff.1 hy).1
          rw [List.getElem?_append_left (by simpa using this)]
theorem env_of_last {st : List Sk} {c : Nat} {z : Int} (h : zcy st c z) : envOf st c = if z = -1 then none else (st[z.toNat]?).map (·.2) := by
 obtain ⟨z', h', e⟩ := zle _ st rfl c
 rw [zfp h h']
 exact e
theorem env_some {st : List Sk} {c k : Nat} {x : Sk} (h : zcy st c (k : Int)) (hx : st[k]? = some x) : envOf st c = some x.2 := by
 rw [env_of_last h, if_neg (by omega)]
 simp [hx]
theorem env_at {st : List Sk} {c : Nat} {s : Sch} (h : envOf st c = some s) : ∃ (k : Nat) (x : Sk), zcy st c (k : Int) /\ st[k]? = some x /\ x.1 = c /\ x.2 = s := by
 obtain ⟨z, hz, e⟩ := zle _ st rfl c
 rcases hz with ⟨rfl, hn⟩ | ⟨k, x, rfl, hx, hc, hl⟩
 · rw [h, if_pos rfl] at e; cases e
 · refine ⟨k, x, .inr ⟨k, x, rfl, hx, hc, hl⟩, hx, hc, ?_⟩
   rw [h, if_neg (by omega)] at e
   simp [hx] at e
   exact e.symm
theorem fixed_env {st : List Sk} {o : Nat} {r : Bool} (hst : ∀ x ∈ st, 97 <= x.1 /\ x.1 < 123) (h : fixedP st o r) : r = zbm (envOf st) o := by
 rcases h with ⟨rfl, j, x, hx, h1, h2, h3⟩ | ⟨rfl, h⟩
 · symm
   unfold zbm
   rw [List.any_eq_true]
   obtain ⟨ha, hb⟩ := hst x (List.mem_of_getElem? hx)
   refine ⟨x.1 - 97, by simp; omega, ?_⟩
   have e : 97 + (x.1 - 97) = x.1 := by omega
   rw [e, env_some h1 hx]
   obtain ⟨c, t, v⟩ := x
   simp only at *
   rw [h2, h3]
   rfl
 · symm
   unfold zbm
   rw [List.any_eq_false]
   intro k hk
   cases hq : envOf st (97 + k) with
   | none => simp
   | some s =>
    obtain ⟨j, x, hl, hx, hc, rfl⟩ := env_at hq
    have := h j x hx
    intro hh
    obtain ⟨c, t, v⟩ := x
    simp only at *
    rw [Bool.and_eq_true, Bool.not_eq_true'] at hh
    exact this ⟨by rw [hc]; exact hl, hh.1, hh.2⟩
def conText (c : Nat) : ByteArray × ByteArray × Bool :=
 if c = 78 then (⟨#[91, 97, 93]⟩, ⟨#[97]⟩, true)
 else if c = 67 then (⟨#[97, 62, 91, 97, 93, 62, 91, 97, 93]⟩, ⟨#[97]⟩, true)
 else if c = 80 then (⟨#[97, 62, 98, 62, 97, 42, 98]⟩, ⟨#[97, 98]⟩, true)
 else if c = 76 then (⟨#[97, 42, 98, 62, 97]⟩, ⟨#[97, 98]⟩, true)
 else if c = 82 then (⟨#[97, 42, 98, 62, 98]⟩, ⟨#[97, 98]⟩, true)
 else if c = 74 then (⟨#[66, 62, 97, 62, 97, 62, 97]⟩, ⟨#[97]⟩, true)
 else if c = 69 then (⟨#[73, 62, 73, 62, 66]⟩, ⟨#[]⟩, true)
 else if c = 65 then (⟨#[73, 62, 73, 62, 73]⟩, ⟨#[]⟩, true)
 else if c = 89 then (⟨#[40, 97, 62, 97, 41, 62, 97]⟩, ⟨#[97]⟩, true)
 else if c = 68 then (⟨#[40, 97, 62, 98, 62, 98, 41, 62, 98, 62, 91, 97, 93, 62, 98]⟩, ⟨#[97, 98]⟩, true)
 else (⟨#[]⟩, ⟨#[]⟩, false)
theorem constant_78 (w : World) : Calls Tryz.prog 108 #[.int .u8 78] w fun e w' => e = .returned (.tuple #[.string ⟨#[91, 97, 93]⟩, .string ⟨#[97]⟩, .bool true]) /\ w' = w := by
 go_enter Tryz.func108, Tryz.ntmps108
 go_wp2_with fail
 go_ret3
 exact ⟨rfl, rfl⟩
theorem zqa (w : World) : Calls Tryz.prog 108 #[.int .u8 67] w fun e w' => e = .returned (.tuple #[.string ⟨#[97, 62, 91, 97, 93, 62, 91, 97, 93]⟩, .string ⟨#[97]⟩, .bool true]) /\ w' = w := by
 go_enter Tryz.func108, Tryz.ntmps108
 go_wp2_with fail
 go_ret3
 exact ⟨rfl, rfl⟩
theorem constant_80 (w : World) : Calls Tryz.prog 108 #[.int .u8 80] w fun e w' => e = .returned (.tuple #[.string ⟨#[97, 62, 98, 62, 97, 42, 98]⟩, .string ⟨#[97, 98]⟩, .bool true]) /\ w' = w := by
 go_enter Tryz.func108, Tryz.ntmps108
 go_wp2_with fail
 go_ret3
 exact ⟨rfl, rfl⟩
theorem constant_76 (w : World) : Calls Tryz.prog 108 #[.int .u8 76] w fun e w' => e = .returned (.tuple #[.string ⟨#[97, 42, 98, 62, 97]⟩, .string ⟨#[97, 98]⟩, .bool true]) /\ w' = w := by
 go_enter Tryz.func108, Tryz.ntmps108
 go_wp2_with fail
 go_ret3
 exact ⟨rfl, rfl⟩
theorem constant_82 (w : World) : Calls Tryz.prog 108 #[.int .u8 82] w fun e w' => e = .returned (.tuple #[.string ⟨#[97, 42, 98, 62, 98]⟩, .string ⟨#[97, 98]⟩, .bool true]) /\ w' = w := by
 go_enter Tryz.func108, Tryz.ntmps108
 go_wp2_with fail
 go_ret3
 exact ⟨rfl, rfl⟩
theorem constant_74 (w : World) : Calls Tryz.prog 108 #[.int .u8 74] w fun e w' => e = .returned (.tuple #[.string ⟨#[66, 62, 97, 62, 97, 62, 97]⟩, .string ⟨#[97]⟩, .bool true]) /\ w' = w := by
 go_enter Tryz.func108, Tryz.ntmps108
 go_wp2_with fail
 go_ret3
 exact ⟨rfl, rfl⟩
theorem zpq (w : World) : Calls Tryz.prog 108 #[.int .u8 69] w fun e w' => e = .returned (.tuple #[.string ⟨#[73, 62, 73, 62, 66]⟩, .string ⟨#[]⟩, .bool true]) /\ w' = w := by
 go_enter Tryz.func108, Tryz.ntmps108
 go_wp2_with fail
 go_ret3
 exact ⟨rfl, rfl⟩
theorem zpw (w : World) : Calls Tryz.prog 108 #[.int .u8 65] w fun e w' => e = .returned (.tuple #[.string ⟨#[73, 62, 73, 62, 73]⟩, .string ⟨#[]⟩, .bool true]) /\ w' = w := by
 go_enter Tryz.func108, Tryz.ntmps108
 go_wp2_with fail
 go_ret3
 exact ⟨rfl, rfl⟩
theorem zpf (w : World) : Calls Tryz.prog 108 #[.int .u8 89] w fun e w' => e = .returned (.tuple #[.string ⟨#[40, 97, 62, 97, 41, 62, 97]⟩, .string ⟨#[97]⟩, .bool true]) /\ w' = w := by
 go_enter Tryz.func108, Tryz.ntmps108
 go_wp2_with fail
 go_ret3
 exact ⟨rfl, rfl⟩
theorem zps (w : World) : Calls Tryz.prog 108 #[.int .u8 68] w fun e w' => e = .returned (.tuple #[.string ⟨#[40, 97, 62, 98, 62, 98, 41, 62, 98, 62, 91, 97, 93, 62, 98]⟩, .string ⟨#[97, 98]⟩, .bool true]) /\ w' = w := by
 go_enter Tryz.func108, Tryz.ntmps108
 go_wp2_with fail
 go_ret3
 exact ⟨rfl, rfl⟩
theorem zgg (c : Nat) (hc : 97 <= c /\ c < 123) (w : World) : Calls Tryz.prog 108 #[.int .u8 (c : Int)] w fun e w' => e = .returned (.tuple #[.string ⟨#[]⟩, .string ⟨#[]⟩, .bool false]) /\ w' = w := by
 have n78 : ((c : Int) == 78) = false := by rw [beq_eq_false_iff_ne]; omega
 have n67 : ((c : Int) == 67) = false := by rw [beq_eq_false_iff_ne]; omega
 have n80 : ((c : Int) == 80) = false := by rw [beq_eq_false_iff_ne]; omega
 have n76 : ((c : Int) == 76) = false := by rw [beq_eq_false_iff_ne]; omega
 have n82 : ((c : Int) == 82) = false := by rw [beq_eq_false_iff_ne]; omega
 have n74 : ((c : Int) == 74) = false := by rw [beq_eq_false_iff_ne]; omega
 have n69 : ((c : Int) == 69) = false := by rw [beq_eq_false_iff_ne]; omega
 have n65 : ((c : Int) == 65) = false := by rw [beq_eq_false_iff_ne]; omega
 have n89 : ((c : Int) == 89) = false := by rw [beq_eq_false_iff_ne]; omega
 have n68 : ((c : Int) == 68) = false := by rw [beq_eq_false_iff_ne]; omega
 clear hc
 go_enter Tryz.func108, Tryz.ntmps108
 go_wp2_with fail
 go_ret3
 exact ⟨rfl, rfl⟩
def conP (c : Nat) : Prop := c = 78 \/ c = 67 \/ c = 80 \/ c = 76 \/ c = 82 \/ c = 74 \/ c = 69 \/ c = 65 \/ c = 89 \/ c = 68
theorem conP_of {c : Nat} (h : isCon c = true) : conP c := by
 simp only [isCon, Bool.or_eq_true, beq_iff_eq] at h
 unfold conP
 omega
theorem con_reads (c : Nat) (hc : conP c) : zbc (conText c).1 = .ok (conS c).1 := by
 rcases hc with rfl | rfl | rfl | rfl | rfl | rfl | rfl | rfl | rfl | rfl <;> kernel_rfl
theorem Ck.cellAt {b : Nat} {L S : Value} {err p m : Nat} {w : World} (h : Ck b L S err p m w) : w.cell? ⟨b, 2, none⟩ = some (.int .i64 (err : Int)) /\ w.cell? ⟨b, 3, none⟩ = some (.int .i64 (p : Int)) /\ w.frozen? ⟨b, 2, none⟩ = false /\ w.frozen? ⟨b, 3, none⟩ = false :=
 ⟨by rw [Lib.cell_of_heap h]; rfl, by rw [Lib.cell_of_heap h]; rfl, by simp [World.frozen?, show w.heap[b]? = _ from h], by simp [World.frozen?, show w.heap[b]? = _ from h]⟩
theorem Ck.set {b : Nat} {L S : Value} {m : Nat} {err p : Nat} {w : World} (h : Ck b L S err p m w) (c q : Nat) : Ck b L S c q m ((w.setCell ⟨b, 2, none⟩ (.int .i64 (c : Int))).setCell ⟨b, 3, none⟩ (.int .i64 (q : Int))) := by
 unfold Ck at *
 simp [World.setCell, Array.getElem?_modify, h]
theorem Ck.set1 {b : Nat} {L S : Value} {m : Nat} {err p : Nat} {w : World} (h : Ck b L S err p m w) (c : Nat) : Ck b L S c p m (w.setCell ⟨b, 2, none⟩ (.int .i64 (c : Int))) := by
 unfold Ck at *
 simp [World.setCell, Array.getElem?_modify, h]
theorem Ck.kept {b : Nat} {L S : Value} {m : Nat} {err p : Nat} {w w' : World} {row : Option Nat} (h : Ck b L S err p m w) (hg : w.grownBy w' row) (hn : row ≠ some b) : Ck b L S err p m w' := (hg.block b (Array.getElem?_eq_some_iff.1 h).1 (fun e => hn e.symm)).trans h
def FPost (b : Nat) (L S : Value) (err p m : Nat) (w : World) (e : Ending) (w' : World) : Prop :=
 ∃ g cap, e = .returned (.agg #[.slice (some ⟨g, 0, none⟩) 1 cap]) /\ Rg g tI w' /\ w.heap.size <= g /\ Ck b L S err p m w' /\ w.grownBy w' (some b)
theorem zch (b : Nat) (L S : Value) (p m c q : Nat) (w : World) (h : Ck b L S 0 p m w) :
 Calls Tryz.prog 99 #[.pointer (some ⟨b, 0, none⟩), .int .i64 (c : Int), .int .i64 (q : Int)] w (FPost b L S c q m w) := by
 have hblt : b < w.heap.size := (Array.getElem?_eq_some_iff.1 h).1
 have bA : ∀ X : World, Below X.heap.size X (X.alloc (.cells #[.slice none 0 0] 33)) := fun X => bal X _
 obtain ⟨k2, k3, f2, f3⟩ := (h.below (bA w)).cellAt
 obtain ⟨-, m3, -, y3⟩ := ((h.set1 c).below (bA _)).cellAt
 have HS : Hid (Ck b L S c q m (((w.setCell ⟨b, 2, none⟩ (.int .i64 (c : Int))).setCell ⟨b, 3, none⟩ (.int .i64 (q : Int))).alloc (.cells #[.slice none 0 0] 33))) := (h.set c q).below (bA _)
 have G2 : Hid (w.grownBy (((w.setCell ⟨b, 2, none⟩ (.int .i64 (c : Int))).setCell ⟨b, 3, none⟩ (.int .i64 (q : Int))).alloc (.cells #[.slice none 0 0] 33)) (some b)) := ((zdy _ _ _ _).trans (zdy _ _ _ _)).trans (World.grownBy_alloc _ _ _)
 have hz : ((w.setCell ⟨b, 2, none⟩ (.int .i64 (c : Int))).setCell ⟨b, 3, none⟩ (.int .i64 (q : Int))).heap.size = w.heap.size := by simp [World.setCell]
 have hb1 := heap_alloc_new ((w.setCell ⟨b, 2, none⟩ (.int .i64 (c : Int))).setCell ⟨b, 3, none⟩ (.int .i64 (q : Int))) (.cells #[.slice none 0 0] 33)
 rw [hz] at hb1
 have hW : Hid ((((w.setCell ⟨b, 2, none⟩ (.int .i64 (c : Int))).setCell ⟨b, 3, none⟩ (.int .i64 (q : Int))).alloc (.cells #[.slice none 0 0] 33)).heap.size = w.heap.size + 1) := by unfold Hid; simp [World.setCell]
 have HB1 : Hid _ := hb1
 clear hb1 hz
 go_enter Tryz.func99, Tryz.ntmps99
 go_wp2_with fail
 generalize (((w.setCell ⟨b, 2, none⟩ (.int .i64 (c : Int))).setCell ⟨b, 3, none⟩ (.int .i64 (q : Int))).alloc (.cells #[.slice none 0 0] 33)) = X at *
 have hX := hW.out
 refine (zcc 0 0 (by decide) (.inl ⟨rfl, rfl, rfl, rfl⟩) X).mono ?_
 rintro e w2 ⟨g2, cap2, rfl, R2, hg2, b2⟩
 have hb2 := (b2.block w.heap.size (by omega)).trans HB1.out
 have c2 := zab hb2
 have z2 := zae hb2
 rw [zen]
 have HC2 : Hid (Ck b L S c q m w2) := HS.out.below b2
 have B2 : Hid (w.grownBy w2 (some b)) := G2.out.trans (zak b2 _)
 clear k2 k3 f2 f3 h m3 y3
 go_wp2_with fail
 refine zag rfl rfl (zac hb2) ?_
 refine ⟨g2, cap2, rfl, R2.kept (zai _ _) (by simp; omega), by omega, HC2.out.kept (zai _ _) (by simp; omega), ?_⟩
 exact B2.out.andThen (zai _ _) (fun j hj => by cases hj; exact .inl (Nat.le_refl _))
theorem zku {x y : Ty} (h : x ≠ y) : eqT x y = false := by
 cases hq : eqT x y
 · rfl
 · exact absurd ((zcx x y).1 hq) h
theorem eqT_yes (x : Ty) : eqT x x = true := (zcx x x).2 rfl
def upTo (x y : Ty) (k : Nat) : Prop := ∀ m, m < k -> ((nd x 0)[m]?).map (·.op) = ((nd y 0)[m]?).map (·.op)
theorem zjx {x y : Ty} {k : Nat} {n n' : Nd} (h : upTo x y k) (hn : (nd x 0)[k]? = some n) (hn' : (nd y 0)[k]? = some n') (he : n.op = n'.op) : upTo x y (k + 1) := by
 intro m hm
 rcases Nat.lt_or_ge m k with h1 | h1
 · exact h m h1
 · obtain rfl : m = k := by omega
   rw [hn, hn']; simp [he]
theorem upTo_all {x y : Ty} (hx : Ok x) (hy : Ok y) (hs : sz x = sz y) (h : upTo x y (sz x)) : x = y := by
 refine ops_eq hx hy 0 0 ?_
 refine List.ext_getElem? fun m => ?_
 rw [List.getElem?_map, List.getElem?_map]
 rcases Nat.lt_or_ge m (sz x) with h1 | h1
 · exact h m h1
 · have l1 := zaj x 0
   have l2 := zaj y 0
   rw [List.getElem?_eq_none (by omega), List.getElem?_eq_none (by omega)]
theorem zix {x y : Ty} {k : Nat} {n n' : Nd} (hn : (nd x 0)[k]? = some n) (hn' : (nd y 0)[k]? = some n') (he : n ≠ n') : x ≠ y := by
 rintro rfl
 rw [hn] at hn'
 exact he (Option.some.inj hn')
theorem rsame_len (x y : Ty) (g cap g' cap' : Nat) (w : World) (hx : Rg g x w) (hy : Rg g' y w) (hl : sz x <= 1000000) (hne : sz x ≠ sz y) :
 Calls Tryz.prog 72 #[.agg #[.slice (some ⟨g, 0, none⟩) (sz x) cap], .agg #[.slice (some ⟨g', 0, none⟩) (sz y) cap']] w fun e w' => e = .returned (.bool (eqT x y)) /\ Below w.heap.size w w' := by
 have HE : Hid (eqT x y = false) := zku (by rintro rfl; exact hne rfl)
 have e1 : ((sz x : Int) == (sz y : Int)) = false := by rw [beq_eq_false_iff_ne]; omega
 have e2 : ((sz x : Int) != (sz y : Int)) = true := by rw [bne, e1]; rfl
 go_enter Tryz.func72, Tryz.ntmps72
 go_wp2_with fail
 go_ret
 rw [HE.out]
 exact ⟨rfl, (bal w _).alloc (by simp) _⟩
theorem zmy (x y : Ty) (g cap g' cap' : Nat) (w : World) (hx : Rg g x w) (hy : Rg g' y w) (hl : sz x <= 1000000) :
 Calls Tryz.prog 72 #[.agg #[.slice (some ⟨g, 0, none⟩) (sz x) cap], .agg #[.slice (some ⟨g', 0, none⟩) (sz y) cap']] w fun e w' => e = .returned (.bool (eqT x y)) /\ Below w.heap.size w w' := by
 by_cases hs : sz x ≠ sz y
 · exact rsame_len x y g cap g' cap' w hx hy hl hs
 have hs : sz y = sz x := by omega
 have HS : Hid (sz y = sz x) := hs
 rw [hs]
 have hb1 : ((w.alloc (.cells #[.slice (some ⟨g, 0, none⟩) (sz x) cap] 33)).alloc (.cells #[.slice (some ⟨g', 0, none⟩) (sz x) cap'] 33)).heap[w.heap.size]? = some (.cells #[.slice (some ⟨g, 0, none⟩) (sz x) cap] 33 (0, 0)) := by
  rw [Below.heap_alloc _ _ _ (by simp)]; exact heap_alloc_new w _
 have hb2 := heap_alloc2_new w (.cells #[.slice (some ⟨g, 0, none⟩) (sz x) cap] 33) (.cells #[.slice (some ⟨g', 0, none⟩) (sz x) cap'] 33)
 have hX := (hx.alloc (.cells #[.slice (some ⟨g, 0, none⟩) (sz x) cap] 33)).alloc (.cells #[.slice (some ⟨g', 0, none⟩) (sz x) cap'] 33)
 have hY := (hy.alloc (.cells #[.slice (some ⟨g, 0, none⟩) (sz x) cap] 33)).alloc (.cells #[.slice (some ⟨g', 0, none⟩) (sz x) cap'] 33)
 have B0 : Below w.heap.size w ((w.alloc (.cells #[.slice (some ⟨g, 0, none⟩) (sz x) cap] 33)).alloc (.cells #[.slice (some ⟨g', 0, none⟩) (sz x) cap'] 33)) := (bal w _).alloc (by simp) _
 clear hs
 go_enter Tryz.func72, Tryz.ntmps72
 go_wp2_with fail
 go_loopw [5] (fun i wr => ∃ k : Nat, i = .int .i64 (k : Int) /\ k <= sz x /\ Hid (upTo x y k) /\ ((w.alloc (.cells #[.slice (some ⟨g, 0, none⟩) (sz x) cap] 33)).alloc (.cells #[.slice (some ⟨g', 0, none⟩) (sz x) cap'] 33)).grownBy wr none) (fun i _ => sz x - (intOf i).toNat)
 case atStart => exact ⟨0, rfl, Nat.zero_le _, fun m hm => absurd hm (by omega), World.grownBy.refl _ _⟩
 case round =>
  obtain ⟨k, rfl, hk, HU, hg⟩ := hrel
  have c0 := zab ((hg.block _ (by simp; omega) (by simp)).trans hb1)
  have c1 := zab ((hg.block _ (by simp) (by simp)).trans hb2)
  have BW : Below w.heap.size w wr := B0.grown hg B0.size (by simp)
  have hsz := hg.size
  simp only [World.size_alloc] at hsz
  rcases Nat.lt_or_ge k (sz x) with hlt | hge
  · have hRx := hX.kept hg (by simp)
    have hRy := hY.kept hg (by simp)
    have hlt' : k < sz y := by have := HS.out; omega
    obtain ⟨⟨p, a, b⟩, hn⟩ : ∃ n, (nd x 0)[k]? = some n := ⟨_, List.getElem?_eq_getElem (by rw [zaj]; exact hlt)⟩
    obtain ⟨⟨q, c, d⟩, hn'⟩ : ∃ n, (nd y 0)[k]? = some n := ⟨_, List.getElem?_eq_getElem (by rw [zaj]; exact hlt')⟩
    obtain ⟨k0, k1, k2⟩ := hRx.cell k _ hn
    obtain ⟨j0, j1, j2⟩ := hRy.cell k _ hn'
    have j0' := World.cell?_alloc_lt wr (.cells #[.int .i64 (p : Int), .int .i64 (a : Int), .int .i64 (b : Int)] 107) ⟨g', k * 3, none⟩ hRy.lt
    simp only at k0 k1 k2 j0 j1 j2
    have HN : Hid ((nd x 0)[k]? = some ⟨p, a, b⟩) := hn
    have HN' : Hid ((nd y 0)[k]? = some ⟨q, c, d⟩) := hn'
    have lg := hRx.lt
    have lg' := hRy.lt
    have lw : w.heap.size < wr.heap.size := by omega
    have lw' : w.heap.size + 1 < wr.heap.size := by omega
    clear hn hn' hRx hRy j0' hlt'
    by_cases hq : p = q
    · subst hq
      rcases (show p = 42 \/ p = 62 \/ (p ≠ 42 /\ p ≠ 62) from by omega) with hp | hp | ⟨hp, hp2⟩
      · subst hp
        by_cases ha : a = c
        · subst ha
          by_cases hb : b = d
          · subst hb
            have HM : Hid (upTo x y (k + 1)) := zjx HU.out HN.out HN'.out rfl
            go_wp2_with fail
            go_roundw
            case rel => exact ⟨k + 1, by simp, by omega, HM, (hg.trans (World.grownBy_alloc wr _ none)).trans (World.grownBy_alloc _ _ none)⟩
            case measure => simp [intOf]; omega
          · have e1 : ((b : Int) == (d : Int)) = false := by rw [beq_eq_false_iff_ne]; omega
            have e2 : ((b : Int) != (d : Int)) = true := by rw [bne, e1]; rfl
            have HE : Hid (eqT x y = false) := zku (zix HN.out HN'.out (by intro e; injection e with _ _ e; exact hb e))
            go_wp2_with fail
            go_ret
            rw [HE.out]
            exact ⟨rfl, (BW.alloc BW.size _).alloc (by simp; omega) _⟩
        · have e1 : ((a : Int) == (c : Int)) = false := by rw [beq_eq_false_iff_ne]; omega
          have e2 : ((a : Int) != (c : Int)) = true := by rw [bne, e1]; rfl
          have HE : Hid (eqT x y = false) := zku (zix HN.out HN'.out (by intro e; injection e with _ e _; exact ha e))
          go_wp2_with fail
          go_ret
          rw [HE.out]
          exact ⟨rfl, (BW.alloc BW.size _).alloc (by simp; omega) _⟩
      · subst hp
        by_cases ha : a = c
        · subst ha
          by_cases hb : b = d
          · subst hb
            have HM : Hid (upTo x y (k + 1)) := zjx HU.out HN.out HN'.out rfl
            go_wp2_with fail
            go_roundw
            case rel => exact ⟨k + 1, by simp, by omega, HM, (hg.trans (World.grownBy_alloc wr _ none)).trans (World.grownBy_alloc _ _ none)⟩
            case measure => simp [intOf]; omega
          · have e1 : ((b : Int) == (d : Int)) = false := by rw [beq_eq_false_iff_ne]; omega
            have e2 : ((b : Int) != (d : Int)) = true := by rw [bne, e1]; rfl
            have HE : Hid (eqT x y = false) := zku (zix HN.out HN'.out (by intro e; injection e with _ _ e; exact hb e))
            go_wp2_with fail
            go_ret
            rw [HE.out]
            exact ⟨rfl, (BW.alloc BW.size _).alloc (by simp; omega) _⟩
        · have e1 : ((a : Int) == (c : Int)) = false := by rw [beq_eq_false_iff_ne]; omega
          have e2 : ((a : Int) != (c : Int)) = true := by rw [bne, e1]; rfl
          have HE : Hid (eqT x y = false) := zku (zix HN.out HN'.out (by intro e; injection e with _ e _; exact ha e))
          go_wp2_with fail
          go_ret
          rw [HE.out]
          exact ⟨rfl, (BW.alloc BW.size _).alloc (by simp; omega) _⟩
      · have e1 : ((p : Int) == 42) = false := by rw [beq_eq_false_iff_ne]; omega
        have e2 : ((p : Int) == 62) = false := by rw [beq_eq_false_iff_ne]; omega
        have HM : Hid (upTo x y (k + 1)) := zjx HU.out HN.out HN'.out rfl
        go_wp2_with fail
        go_roundw
        case rel => exact ⟨k + 1, by simp, by omega, HM, (hg.trans (World.grownBy_alloc wr _ none)).trans (World.grownBy_alloc _ _ none)⟩
        case measure => simp [intOf]; omega
    · have e1 : ((p : Int) == (q : Int)) = false := by rw [beq_eq_false_iff_ne]; omega
      have e2 : ((p : Int) != (q : Int)) = true := by rw [bne, e1]; rfl
      have HE : Hid (eqT x y = false) := zku (zix HN.out HN'.out (by intro e; injection e with e _ _; exact hq e))
      rcases (show p = 42 \/ p = 62 \/ (p ≠ 42 /\ p ≠ 62) from by omega) with hp | hp | ⟨hp, hp2⟩
      · have e3 : ((p : Int) == 42) = true := by rw [hp]; rfl
        clear hp hq
        go_wp2_with fail
        go_ret
        rw [HE.out]
        exact ⟨rfl, (BW.alloc BW.size _).alloc (by simp; omega) _⟩
      · have e3 : ((p : Int) == 42) = false := by rw [hp]; rfl
        have e4 : ((p : Int) == 62) = true := by rw [hp]; rfl
        clear hp hq
        go_wp2_with fail
        go_ret
        rw [HE.out]
        exact ⟨rfl, (BW.alloc BW.size _).alloc (by simp; omega) _⟩
      · have e3 : ((p : Int) == 42) = false := by rw [beq_eq_false_iff_ne]; omega
        have e4 : ((p : Int) == 62) = false := by rw [beq_eq_false_iff_ne]; omega
        clear hp hp2 hq
        go_wp2_with fail
        go_ret
        rw [HE.out]
        exact ⟨rfl, (BW.alloc BW.size _).alloc (by simp; omega) _⟩
  · obtain rfl : k = sz x := by omega
    have d1 : decide ((sz x : Int) < (sz x : Int)) = false := by simp
    have HE : Hid (eqT x y = true) := by
     unfold Hid
     have := upTo_all hx.ok hy.ok HS.out.symm HU.out
     rw [this]; exact eqT_yes _
    go_wp2_with fail
    go_ret
    rw [HE.out]
    exact ⟨rfl, BW⟩
abbrev tmA (op c a b : Nat) (ga va pa : Option Addr) (gn gc vn vc pn pc at' tu : Nat) : Array Value := #[.int .u8 (op : Int), .int .u8 (c : Int), .int .i64 (a : Int), .int .i64 (b : Int), .slice ga gn gc, .slice va vn vc, .slice pa pn pc, .int .i64 (at' : Int), .int .i64 (tu : Int)]
abbrev callW (T : Array Value) (gf nf cf gx nx cx : Nat) (w : World) : World := (((w.alloc (.cells T 76)).alloc (tbO gf nf cf)).alloc (tbO gx nx cx)).alloc (.cells #[.slice none 0 0] 33)
theorem zfu (T : Array Value) (gf nf cf gx nx cx : Nat) (w : World) : Below w.heap.size w (callW T gf nf cf gx nx cx w) := (((bal w _).alloc (by simp) _).alloc (by simp; omega) _).alloc (by simp; omega) _
theorem zhd (T : Array Value) (gf nf cf gx nx cx : Nat) (w : World) : (callW T gf nf cf gx nx cx w).heap.size = w.heap.size + 4 := by simp [callW]
theorem zkc (T : Array Value) (gf nf cf gx nx cx : Nat) (w : World) : (callW T gf nf cf gx nx cx w).heap[w.heap.size + 3]? = some (.cells #[.slice none 0 0] 33 (0, 0)) := by
 have := heap_alloc_new (((w.alloc (.cells T 76)).alloc (tbO gf nf cf)).alloc (tbO gx nx cx)) (.cells #[.slice none 0 0] 33)
 simpa using this
theorem zpr (T : Array Value) (gf nf cf gx nx cx : Nat) (w : World) : (callW T gf nf cf gx nx cx w).heap[w.heap.size + 1]? = some (.cells #[.slice (some ⟨gf, 0, none⟩) nf cf] 33 (0, 0)) := by
 have := heap_alloc_new (w.alloc (.cells T 76)) (tbO gf nf cf)
 unfold callW
 rw [Below.heap_alloc _ _ _ (by simp), Below.heap_alloc _ _ _ (by simp)]
 simpa using this
theorem callW_x (T : Array Value) (gf nf cf gx nx cx : Nat) (w : World) : (callW T gf nf cf gx nx cx w).heap[w.heap.size + 2]? = some (.cells #[.slice (some ⟨gx, 0, none⟩) nx cx] 33 (0, 0)) := by
 have := heap_alloc_new ((w.alloc (.cells T 76)).alloc (tbO gf nf cf)) (tbO gx nx cx)
 unfold callW
 rw [Below.heap_alloc _ _ _ (by simp)]
 simpa using this
theorem call_ok (b op c ta tb : Nat) (ga va pa : Option Addr) (gn gc vn vc pn pc at' tu : Nat) (x y : Ty) (gf cf gx cx : Nat) (w : World) (hf : Rg gf (tF x y) w) (hx : Rg gx x w) (hl : sz (tF x y) <= 60000) (okx : Ok x) (oky : Ok y) :
 Calls Tryz.prog 101 #[.pointer (some ⟨b, 0, none⟩), .agg (tmA op c ta tb ga va pa gn gc vn vc pn pc at' tu), .agg #[.slice (some ⟨gf, 0, none⟩) (sz (tF x y)) cf], .agg #[.slice (some ⟨gx, 0, none⟩) (sz x) cx]] w (TPost y w) := by
 have hxl : sz x <= 60000 := by
  have e : sz (tF x y) = sz x + sz y + 1 := by simp [sz]
  omega
 have RO : Hid (∀ X, Rg gf (tF x y) X -> Calls Tryz.prog 62 #[.agg #[.slice (some ⟨gf, 0, none⟩) (sz (tF x y)) cf]] X fun e w' => e = .returned (.int .i64 62) /\ Below X.heap.size X w') := fun X (h : Rg gf (tF x y) X) => zat (tF x y) gf cf X h (Nat.le_trans hl (by decide))
 have FI : Hid (∀ X, Rg gf (tF x y) X -> Calls Tryz.prog 64 #[.agg #[.slice (some ⟨gf, 0, none⟩) (sz (tF x y)) cf]] X (TPost x X)) := fun X (h : Rg gf (tF x y) X) => zby 5 (Or.inr rfl) x y okx gf cf X h (Nat.le_trans hl (by decide))
 have SE : Hid (∀ X, Rg gf (tF x y) X -> Calls Tryz.prog 65 #[.agg #[.slice (some ⟨gf, 0, none⟩) (sz (tF x y)) cf]] X (TPost y X)) := fun X (h : Rg gf (tF x y) X) => zbw 5 (Or.inr rfl) x y oky gf cf X h (Nat.le_trans hl (by decide))
 have SA : Hid (∀ (h c : Nat) X, Rg h x X -> Rg gx x X -> Calls Tryz.prog 72 #[.agg #[.slice (some ⟨h, 0, none⟩) (sz x) c], .agg #[.slice (some ⟨gx, 0, none⟩) (sz x) cx]] X fun e w' => e = .returned (.bool true) /\ Below X.heap.size X w') := by
  intro h c X h1 h2
  have := zmy x x h c gx cx X h1 h2 (Nat.le_trans hxl (by decide))
  rwa [(zcx x x).2 rfl] at this
 generalize htt : (tF x y : Ty) = t at *
 generalize sz t = st at *
 have B0 := zfu (tmA op c ta tb ga va pa gn gc vn vc pn pc at' tu) gf st cf gx (sz x) cx w
 have hW := zhd (tmA op c ta tb ga va pa gn gc vn vc pn pc at' tu) gf st cf gx (sz x) cx w
 have h8 := zkc (tmA op c ta tb ga va pa gn gc vn vc pn pc at' tu) gf st cf gx (sz x) cx w
 have c6 : (callW (tmA op c ta tb ga va pa gn gc vn vc pn pc at' tu) gf st cf gx (sz x) cx w).cell? ⟨w.heap.size + 1, 0, none⟩ = some (.slice (some ⟨gf, 0, none⟩) st cf) := zab (zpr _ _ _ _ _ _ _ w)
 have c7 : (callW (tmA op c ta tb ga va pa gn gc vn vc pn pc at' tu) gf st cf gx (sz x) cx w).cell? ⟨w.heap.size + 2, 0, none⟩ = some (.slice (some ⟨gx, 0, none⟩) (sz x) cx) := zab (callW_x _ _ _ _ _ _ _ w)
 generalize hsx : sz x = sx at *
 have HSX : Hid (sz x = sx) := hsx
 clear hsx
 have Rf := hf.below B0
 have Rx := hx.below B0
 clear hf hx hl hxl htt
 go_enter Tryz.func101, Tryz.ntmps101
 go_wp2_with fail
 unfold callW at *
 generalize ((((w.alloc (.cells (tmA op c ta tb ga va pa gn gc vn vc pn pc at' tu) 76)).alloc (tbO gf st cf)).alloc (tbO gx sx cx)).alloc (.cells #[.slice none 0 0] 33)) = W at *
 refine (RO.out W Rf).mono ?_
 rintro e w1 ⟨rfl, b1⟩
 replace c6 := (b1.cell (p := ⟨w.heap.size + 1, 0, none⟩) (show w.heap.size + 1 < W.heap.size by omega)).trans c6
 replace c7 := (b1.cell (p := ⟨w.heap.size + 2, 0, none⟩) (show w.heap.size + 2 < W.heap.size by omega)).trans c7
 replace h8 := (b1.block (w.heap.size + 3) (by omega)).trans h8
 replace Rf := Rf.below b1
 replace Rx := Rx.below b1
 replace B0 := B0.trans (b1.mono B0.size)
 have s1 := b1.size
 clear b1
 go_wp2_with fail
 refine (FI.out w1 Rf).mono ?_
 rintro e w2 ⟨g2, cap2, rfl, R2, hg2, b2⟩
 rw [HSX.out]
 have bA : Below w2.heap.size w2 (w2.alloc (tbO g2 sx cap2)) := bal w2 _
 have b2A := b2.trans (bA.mono b2.size)
 have c9 : (w2.alloc (tbO g2 sx cap2)).cell? ⟨w2.heap.size, 0, none⟩ = some (.slice (some ⟨g2, 0, none⟩) sx cap2) := zab (heap_alloc_new w2 _)
 have sA : (w2.alloc (tbO g2 sx cap2)).heap.size = w2.heap.size + 1 := by simp
 replace c6 := (b2A.cell (p := ⟨w.heap.size + 1, 0, none⟩) (show w.heap.size + 1 < w1.heap.size by omega)).trans c6
 replace c7 := (b2A.cell (p := ⟨w.heap.size + 2, 0, none⟩) (show w.heap.size + 2 < w1.heap.size by omega)).trans c7
 replace h8 := (b2A.block (w.heap.size + 3) (by omega)).trans h8
 replace Rf := Rf.below b2A
 replace Rx := Rx.below b2A
 replace B0 := B0.trans (b2A.mono B0.size)
 have R2A := R2.below bA
 have s2 := b2.size
 clear b2 b2A bA
 go_wp2_with fail
 generalize w2.alloc (tbO g2 sx cap2) = Z at *
 refine (SA.out g2 cap2 Z R2A Rx).mono ?_
 rintro e w3 ⟨rfl, b3⟩
 replace c6 := (b3.cell (p := ⟨w.heap.size + 1, 0, none⟩) (show w.heap.size + 1 < Z.heap.size by omega)).trans c6
 replace h8 := (b3.block (w.heap.size + 3) (by omega)).trans h8
 replace Rf := Rf.below b3
 replace B0 := B0.trans (b3.mono B0.size)
 have s3 := b3.size
 clear c7 c9 Rx R2A b3 R2
 go_wp2_with fail
 refine (SE.out w3 Rf).mono ?_
 rintro e w4 ⟨g4, cap4, rfl, R4, hg4, b4⟩
 replace h8 := (b4.block (w.heap.size + 3) (by omega)).trans h8
 have c8 := zab h8
 have z8 := zae h8
 have HB : Hid (Below w.heap.size w w4) := B0.trans (b4.mono B0.size)
 generalize hsy : sz y = sy at *
 have HSY : Hid (sz y = sy) := hsy
 clear hsy B0 b4 Rf c6
 go_wp2_with fail
 refine zag rfl rfl (zac h8) ?_
 refine ⟨g4, cap4, by rw [HSY.out], R4.kept (zai _ _) (by simp; omega), by omega, ?_⟩
 exact HB.out.setCell (p := ⟨w.heap.size + 3, 0, none⟩) (by simp) _
theorem callW_to (op c a b : Nat) (ga va pa : Option Addr) (gn gc vn vc pn pc at' tu : Nat) (gf nf cf gx nx cx : Nat) (w : World) : (callW (tmA op c a b ga va pa gn gc vn vc pn pc at' tu) gf nf cf gx nx cx w).cell? ⟨w.heap.size, 8, none⟩ = some (.int .i64 (tu : Int)) := by
 have h0 := heap_alloc_new w (.cells (tmA op c a b ga va pa gn gc vn vc pn pc at' tu) 76)
 have : (callW (tmA op c a b ga va pa gn gc vn vc pn pc at' tu) gf nf cf gx nx cx w).heap[w.heap.size]? = some (.cells (tmA op c a b ga va pa gn gc vn vc pn pc at' tu) 76 (0, 0)) := by
  unfold callW
  rw [Below.heap_alloc _ _ _ (by simp; omega), Below.heap_alloc _ _ _ (by simp; omega), Below.heap_alloc _ _ _ (by simp)]
  exact h0
 rw [Lib.cell_of_heap this]; rfl
theorem call_root (b op c ta tb : Nat) (ga va pa : Option Addr) (gn gc vn vc pn pc at' tu : Nat) (f : Ty) (nx gf cf gx cx : Nat) (L S : Value) (p m : Nat) (w : World) (hC : Ck b L S 0 p m w) (hf : Rg gf f w) (hl : sz f <= 60000) (hn : (rt f 0).op ≠ 62) :
 Calls Tryz.prog 101 #[.pointer (some ⟨b, 0, none⟩), .agg (tmA op c ta tb ga va pa gn gc vn vc pn pc at' tu), .agg #[.slice (some ⟨gf, 0, none⟩) (sz f) cf], .agg #[.slice (some ⟨gx, 0, none⟩) nx cx]] w (FPost b L S 5 tu m w) := by
 have hblt : b < w.heap.size := (Array.getElem?_eq_some_iff.1 hC).1
 have RO : Hid (∀ X, Rg gf f X -> Calls Tryz.prog 62 #[.agg #[.slice (some ⟨gf, 0, none⟩) (sz f) cf]] X fun e w' => e = .returned (.int .i64 ((rt f 0).op : Int)) /\ Below X.heap.size X w') := fun X (h : Rg gf f X) => zat f gf cf X h (Nat.le_trans hl (by decide))
 have B0 := zfu (tmA op c ta tb ga va pa gn gc vn vc pn pc at' tu) gf (sz f) cf gx nx cx w
 have hW := zhd (tmA op c ta tb ga va pa gn gc vn vc pn pc at' tu) gf (sz f) cf gx nx cx w
 have h8 := zkc (tmA op c ta tb ga va pa gn gc vn vc pn pc at' tu) gf (sz f) cf gx nx cx w
 have c6 : (callW (tmA op c ta tb ga va pa gn gc vn vc pn pc at' tu) gf (sz f) cf gx nx cx w).cell? ⟨w.heap.size + 1, 0, none⟩ = some (.slice (some ⟨gf, 0, none⟩) (sz f) cf) := zab (zpr _ _ _ _ _ _ _ w)
 have c5 := callW_to op c ta tb ga va pa gn gc vn vc pn pc at' tu gf (sz f) cf gx nx cx w
 have Rf := hf.below B0
 have C1 := hC.below B0
 have hz : (((rt f 0).op : Int) != 62) = true := by rw [bne_iff_ne]; omega
 generalize ((rt f 0).op : Int) = z at *
 generalize sz f = st at *
 clear hf hl hC hn
 go_enter Tryz.func101, Tryz.ntmps101
 go_wp2_with fail
 unfold callW at *
 generalize ((((w.alloc (.cells (tmA op c ta tb ga va pa gn gc vn vc pn pc at' tu) 76)).alloc (tbO gf st cf)).alloc (tbO gx nx cx)).alloc (.cells #[.slice none 0 0] 33)) = W at *
 refine (RO.out W Rf).mono ?_
 rintro e w1 ⟨rfl, b1⟩
 replace c5 := (b1.cell (p := ⟨w.heap.size, 8, none⟩) (show w.heap.size < W.heap.size by omega)).trans c5
 replace h8 := (b1.block (w.heap.size + 3) (by omega)).trans h8
 replace C1 := C1.below b1
 replace B0 := B0.trans (b1.mono B0.size)
 have s1 := b1.size
 clear b1 c6 Rf RO
 go_wp2_with fail
 refine (zch b L S p m 5 tu w1 C1).mono ?_
 rintro e w2 ⟨g2, cap2, rfl, R2, hg2, C2, G2⟩
 have hb2 := (G2.block (w.heap.size + 3) (by omega) (by simp; omega)).trans h8
 have c8 := zab hb2
 have z8 := zae hb2
 have HR2 : Hid (Rg g2 tI w2) := R2
 have HC2 : Hid (Ck b L S 5 tu m w2) := C2
 have HG2 : Hid (w.grownBy w2 (some b)) := (zak B0 _).trans G2
 have HG : Hid (w1.heap.size <= g2) := hg2
 clear C2 G2 R2 B0 C1 c5 h8
 go_wp2_with fail
 refine zag rfl rfl (zac hb2) ?_
 have := HG.out
 refine ⟨g2, cap2, rfl, HR2.out.kept (zai _ _) (by simp; omega), by omega, HC2.out.kept (zai _ _) (by simp; omega), ?_⟩
 exact HG2.out.andThen (zai _ _) (fun j hj => by cases hj; exact .inl (by omega))
theorem call_diff (b op c ta tb : Nat) (ga va pa : Option Addr) (gn gc vn vc pn pc at' tu : Nat) (x y z : Ty) (gf cf gx cx : Nat) (L S : Value) (p m : Nat) (w : World) (hC : Ck b L S 0 p m w) (hf : Rg gf (tF x y) w) (hx : Rg gx z w) (hl : sz (tF x y) <= 60000) (hlz : sz z <= 60000) (okx : Ok x) (hne : x ≠ z) :
 Calls Tryz.prog 101 #[.pointer (some ⟨b, 0, none⟩), .agg (tmA op c ta tb ga va pa gn gc vn vc pn pc at' tu), .agg #[.slice (some ⟨gf, 0, none⟩) (sz (tF x y)) cf], .agg #[.slice (some ⟨gx, 0, none⟩) (sz z) cx]] w (FPost b L S 5 tu m w) := by
 have hxl : sz x <= 60000 := by
  have e : sz (tF x y) = sz x + sz y + 1 := by simp [sz]
  omega
 have hblt : b < w.heap.size := (Array.getElem?_eq_some_iff.1 hC).1
 have RO : Hid (∀ X, Rg gf (tF x y) X -> Calls Tryz.prog 62 #[.agg #[.slice (some ⟨gf, 0, none⟩) (sz (tF x y)) cf]] X fun e w' => e = .returned (.int .i64 62) /\ Below X.heap.size X w') := fun X (h : Rg gf (tF x y) X) => zat (tF x y) gf cf X h (Nat.le_trans hl (by decide))
 have FI : Hid (∀ X, Rg gf (tF x y) X -> Calls Tryz.prog 64 #[.agg #[.slice (some ⟨gf, 0, none⟩) (sz (tF x y)) cf]] X (TPost x X)) := fun X (h : Rg gf (tF x y) X) => zby 5 (Or.inr rfl) x y okx gf cf X h (Nat.le_trans hl (by decide))
 have SA : Hid (∀ (h c : Nat) X, Rg h x X -> Rg gx z X -> Calls Tryz.prog 72 #[.agg #[.slice (some ⟨h, 0, none⟩) (sz x) c], .agg #[.slice (some ⟨gx, 0, none⟩) (sz z) cx]] X fun e w' => e = .returned (.bool false) /\ Below X.heap.size X w') := by
  intro h c X h1 h2
  have := zmy x z h c gx cx X h1 h2 (Nat.le_trans hxl (by decide))
  have hf : eqT x z = false := by
   rw [Bool.eq_false_iff]
   exact fun e => hne ((zcx x z).1 e)
  rwa [hf] at this
 generalize htt : (tF x y : Ty) = t at *
 generalize sz t = st at *
 have B0 := zfu (tmA op c ta tb ga va pa gn gc vn vc pn pc at' tu) gf st cf gx (sz z) cx w
 have hW := zhd (tmA op c ta tb ga va pa gn gc vn vc pn pc at' tu) gf st cf gx (sz z) cx w
 have h8 := zkc (tmA op c ta tb ga va pa gn gc vn vc pn pc at' tu) gf st cf gx (sz z) cx w
 have c6 : (callW (tmA op c ta tb ga va pa gn gc vn vc pn pc at' tu) gf st cf gx (sz z) cx w).cell? ⟨w.heap.size + 1, 0, none⟩ = some (.slice (some ⟨gf, 0, none⟩) st cf) := zab (zpr _ _ _ _ _ _ _ w)
 have c7 : (callW (tmA op c ta tb ga va pa gn gc vn vc pn pc at' tu) gf st cf gx (sz z) cx w).cell? ⟨w.heap.size + 2, 0, none⟩ = some (.slice (some ⟨gx, 0, none⟩) (sz z) cx) := zab (callW_x _ _ _ _ _ _ _ w)
 have c5 := callW_to op c ta tb ga va pa gn gc vn vc pn pc at' tu gf st cf gx (sz z) cx w
 generalize hsx : sz x = sx at *
 have HSX : Hid (sz x = sx) := hsx
 generalize hsz : sz z = szz at *
 clear hsx hsz hne
 have Rf := hf.below B0
 have Rx := hx.below B0
 have C1 := hC.below B0
 clear hf hx hl hxl htt hC
 go_enter Tryz.func101, Tryz.ntmps101
 go_wp2_with fail
 unfold callW at *
 generalize ((((w.alloc (.cells (tmA op c ta tb ga va pa gn gc vn vc pn pc at' tu) 76)).alloc (tbO gf st cf)).alloc (tbO gx szz cx)).alloc (.cells #[.slice none 0 0] 33)) = W at *
 refine (RO.out W Rf).mono ?_
 rintro e w1 ⟨rfl, b1⟩
 replace c5 := (b1.cell (p := ⟨w.heap.size, 8, none⟩) (show w.heap.size < W.heap.size by omega)).trans c5
 replace c6 := (b1.cell (p := ⟨w.heap.size + 1, 0, none⟩) (show w.heap.size + 1 < W.heap.size by omega)).trans c6
 replace c7 := (b1.cell (p := ⟨w.heap.size + 2, 0, none⟩) (show w.heap.size + 2 < W.heap.size by omega)).trans c7
 replace h8 := (b1.block (w.heap.size + 3) (by omega)).trans h8
 replace Rf := Rf.below b1
 replace Rx := Rx.below b1
 replace C1 := C1.below b1
 replace B0 := B0.trans (b1.mono B0.size)
 have s1 := b1.size
 clear b1
 go_wp2_with fail
 refine (FI.out w1 Rf).mono ?_
 rintro e w2 ⟨g2, cap2, rfl, R2, hg2, b2⟩
 rw [HSX.out]
 have bA : Below w2.heap.size w2 (w2.alloc (tbO g2 sx cap2)) := bal w2 _
 have b2A := b2.trans (bA.mono b2.size)
 have c9 : (w2.alloc (tbO g2 sx cap2)).cell? ⟨w2.heap.size, 0, none⟩ = some (.slice (some ⟨g2, 0, none⟩) sx cap2) := zab (heap_alloc_new w2 _)
 have sA : (w2.alloc (tbO g2 sx cap2)).heap.size = w2.heap.size + 1 := by simp
 replace c5 := (b2A.cell (p := ⟨w.heap.size, 8, none⟩) (show w.heap.size < w1.heap.size by omega)).trans c5
 replace c7 := (b2A.cell (p := ⟨w.heap.size + 2, 0, none⟩) (show w.heap.size + 2 < w1.heap.size by omega)).trans c7
 replace h8 := (b2A.block (w.heap.size + 3) (by omega)).trans h8
 replace Rx := Rx.below b2A
 replace C1 := C1.below b2A
 replace B0 := B0.trans (b2A.mono B0.size)
 have R2A := R2.below bA
 have s2 := b2.size
 clear b2 b2A bA Rf
 go_wp2_with fail
 generalize w2.alloc (tbO g2 sx cap2) = Z at *
 refine (SA.out g2 cap2 Z R2A Rx).mono ?_
 rintro e w3 ⟨rfl, b3⟩
 replace c5 := (b3.cell (p := ⟨w.heap.size, 8, none⟩) (show w.heap.size < Z.heap.size by omega)).trans c5
 replace h8 := (b3.block (w.heap.size + 3) (by omega)).trans h8
 replace C1 := C1.below b3
 replace B0 := B0.trans (b3.mono B0.size)
 have s3 := b3.size
 clear c7 c9 Rx R2A b3 R2 c6 RO FI SA
 go_wp2_with fail
 refine (zch b L S p m 5 tu w3 C1).mono ?_
 rintro e w4 ⟨g4, cap4, rfl, R4, hg4, C4, G4⟩
 have hb4 := (G4.block (w.heap.size + 3) (by omega) (by simp; omega)).trans h8
 have c8 := zab hb4
 have z8 := zae hb4
 have HR4 : Hid (Rg g4 tI w4) := R4
 have HC4 : Hid (Ck b L S 5 tu m w4) := C4
 have HG4 : Hid (w.grownBy w4 (some b)) := (zak B0 _).trans G4
 have HG : Hid (w3.heap.size <= g4) := hg4
 clear C4 G4 R4 B0 C1 c5 h8
 go_wp2_with fail
 refine zag rfl rfl (zac hb4) ?_
 have := HG.out
 refine ⟨g4, cap4, rfl, HR4.out.kept (zai _ _) (by simp; omega), by omega, HC4.out.kept (zai _ _) (by simp; omega), ?_⟩
 exact HG4.out.andThen (zai _ _) (fun j hj => by cases hj; exact .inl (by omega))
end Go.Proofs.YtceadeaodbadlaaGreatDoor
namespace Go.Proofs.YtceadeaodbadlaaGreatDoor
open Go.RowKit
variable {ty : Bool} {lv : Value}
def R0 (ty : Bool) (lv : Value) (b : Nat) (s : ByteArray) (i : Nat) (bad : Int) (w : World) : Prop := w.heap[b]? = some (.cells #[.string s, .bool ty, .int .i64 (i : Int), .int .i64 bad, lv] 70 (0, 0))
theorem R0.lt {b : Nat} {s : ByteArray} {i : Nat} {bad : Int} {w : World} (h : R0 ty lv b s i bad w) : b < w.heap.size := (Array.getElem?_eq_some_iff.1 h).1
theorem R0.drewN {b : Nat} {s : ByteArray} {i : Nat} {bad : Int} {w : World} (h : R0 ty lv b s i bad w) (n : Nat) : R0 ty lv b s i bad (w.drewN n) := h
theorem R0.drew {b : Nat} {s : ByteArray} {i : Nat} {bad : Int} {w : World} (h : R0 ty lv b s i bad w) : R0 ty lv b s i bad w.drew := h
theorem R0.below {b : Nat} {s : ByteArray} {i : Nat} {bad : Int} {w w' : World} (h : R0 ty lv b s i bad w) (hb : Below w.heap.size w w') : R0 ty lv b s i bad w' := (hb.block b h.lt).trans h
theorem R0.alloc {b : Nat} {s : ByteArray} {i : Nat} {bad : Int} {w : World} (h : R0 ty lv b s i bad w) (o : Obj) : R0 ty lv b s i bad (w.alloc o) := (Below.heap_alloc w o b h.lt).trans h
theorem R0.setFar {b : Nat} {s : ByteArray} {i : Nat} {bad : Int} {w : World} (h : R0 ty lv b s i bad w) {q : Nat} (hq : q ≠ b) (u : Value) : R0 ty lv b s i bad (w.setCell ⟨q, 0, none⟩ u) := (Below.heap_setCell w ⟨q, 0, none⟩ u b (fun e => hq e.symm)).trans h
theorem R0.setI {b : Nat} {s : ByteArray} {i : Nat} {bad : Int} {w : World} (h : R0 ty lv b s i bad w) (j : Nat) : R0 ty lv b s j bad (w.setCell ⟨b, 2, none⟩ (.int .i64 (j : Int))) := by
 unfold R0 at h ⊢
 simp [World.setCell, Array.getElem?_modify, h]
theorem R0.setBad {b : Nat} {s : ByteArray} {i : Nat} {bad : Int} {w : World} (h : R0 ty lv b s i bad w) (p : Int) : R0 ty lv b s i p (w.setCell ⟨b, 3, none⟩ (.int .i64 p)) := by
 unfold R0 at h ⊢
 simp [World.setCell, Array.getElem?_modify, h]
theorem R0.next {b : Nat} {s : ByteArray} {i : Nat} {bad : Int} {w : World} (h : R0 ty lv b s i bad w) (n : Nat) : R0 ty lv b s (i + 1) bad ((w.drewN n).setCell ⟨b, 2, none⟩ (.int .i64 ((i : Int) + 1))) := by
 have := (h.drewN n).setI (i + 1)
 rwa [Int.natCast_add] at this
theorem R0.c0 {b : Nat} {s : ByteArray} {i : Nat} {bad : Int} {w : World} (h : R0 ty lv b s i bad w) : w.cell? ⟨b, 0, none⟩ = some (.string s) := cbl h
theorem R0.c2 {b : Nat} {s : ByteArray} {i : Nat} {bad : Int} {w : World} (h : R0 ty lv b s i bad w) : w.cell? ⟨b, 2, none⟩ = some (.int .i64 (i : Int)) := cbl h
theorem R0.c3 {b : Nat} {s : ByteArray} {i : Nat} {bad : Int} {w : World} (h : R0 ty lv b s i bad w) : w.cell? ⟨b, 3, none⟩ = some (.int .i64 bad) := cbl h
theorem R0.fz {b : Nat} {s : ByteArray} {i : Nat} {bad : Int} {w : World} (h : R0 ty lv b s i bad w) (j : Nat) : w.frozen? ⟨b, j, none⟩ = false := frozen_of_row _ _ _ _ _ h
theorem Rg.ne {g b : Nat} {t : Ty} {s : ByteArray} {i : Nat} {bad : Int} {w : World} (h : Rg g t w) (k : R0 ty lv b s i bad w) : g ≠ b := by
 rintro rfl
 have hp := zau h.ok
 obtain ⟨n, hn⟩ : ∃ n, (nd t 0)[0]? = some n := ⟨_, List.getElem?_eq_getElem (by rw [zaj]; omega)⟩
 have := (h.cell 0 n hn).1
 rw [Nat.zero_mul, k.c0] at this
 cases this
theorem Rg.gb {g b : Nat} {t : Ty} {w w' : World} (h : Rg g t w) (hg : Gb b w w') (hn : g ≠ b) : Rg g t w' := h.kept hg (by simp; exact fun e => hn e.symm)
theorem zfg (ty : Bool) (lv : Value) (b : Nat) (s : ByteArray) (i p lo hi : Nat) (w : World) (h : R0 ty lv b s i p w) :
 Calls Tryz.prog 104 #[.pointer (some ⟨b, 0, none⟩), .int .u8 (lo : Int), .int .u8 (hi : Int)] w fun e w' => e = .returned (.bool false) /\ ∃ n, w' = w.drewN n := by
 have h3 := h.c3
 have hd : decide ((p : Int) < 0) = false := by simp
 go_enter Tryz.func104, Tryz.ntmps104
 go_wp2
 go_quiet (fail)
 go_wp2
 go_ret
 exact ⟨rfl, _, rfl⟩
theorem zbj (ty : Bool) (lv : Value) (b : Nat) (s : ByteArray) (i lo hi : Nat) (w : World) (h : R0 ty lv b s i (-1) w) (hi' : i <= s.size) (hs : s.size <= 100000) (hlo : 1 <= lo) :
 Calls Tryz.prog 104 #[.pointer (some ⟨b, 0, none⟩), .int .u8 (lo : Int), .int .u8 (hi : Int)] w fun e w' => e = .returned (.bool (inR (chr s i) lo hi)) /\ ∃ n, w' = w.drewN n := by
 have h0 := h.c0
 have h2 := h.c2
 have h3 := h.c3
 clear h
 by_cases hlt : i < s.size
 · have hc : chr s i = s[i].toNat := by simp [chr, hlt]
   rw [hc]
   clear hc
   have d1 : decide ((i : Int) < (s.size : Int)) = true := by simp; omega
   by_cases h4 : lo <= s[i].toNat
   · have d2 : decide ((lo : Int) <= (s[i].toNat : Int)) = true := by simp; omega
     by_cases h5 : s[i].toNat <= hi
     · have d3 : decide ((s[i].toNat : Int) <= (hi : Int)) = true := by simp; omega
       have hr : inR s[i].toNat lo hi = true := by simp [inR, h4, h5]
       rw [hr]
       clear hr
       go_enter Tryz.func104, Tryz.ntmps104
       go_wp2
       go_quiet (fail)
       go_wp2
       go_ret
       exact ⟨rfl, _, rfl⟩
     · have d3 : decide ((s[i].toNat : Int) <= (hi : Int)) = false := by simp; omega
       have d3' : decide (s[i].toNat <= hi) = false := by simp; omega
       have hr : inR s[i].toNat lo hi = false := by simp [inR, h5]
       rw [hr]
       clear hr
       go_enter Tryz.func104, Tryz.ntmps104
       go_wp2
       go_quiet (fail)
       go_wp2
       go_ret
       exact ⟨rfl, _, rfl⟩
   · have d2 : decide ((lo : Int) <= (s[i].toNat : Int)) = false := by simp; omega
     have d2' : decide (lo <= s[i].toNat) = false := by simp; omega
     have hr : inR s[i].toNat lo hi = false := by simp [inR, h4]
     rw [hr]
     clear hr
     go_enter Tryz.func104, Tryz.ntmps104
     go_wp2
     go_quiet (fail)
     go_wp2
     go_ret
     exact ⟨rfl, _, rfl⟩
 · have d1 : decide ((i : Int) < (s.size : Int)) = false := by simp; omega
   have d1' : decide (i < s.size) = false := by simp; omega
   have hr : inR (chr s i) lo hi = false := by simp [inR, chr, hlt]; omega
   rw [hr]
   clear hr hlo
   go_enter Tryz.func104, Tryz.ntmps104
   go_wp2
   go_quiet (fail)
   go_wp2
   go_ret
   exact ⟨rfl, _, rfl⟩
theorem zea (ty : Bool) (lv : Value) (b : Nat) (s : ByteArray) (i p : Nat) (w : World) (h : R0 ty lv b s i p w) :
 Calls Tryz.prog 44 #[.pointer (some ⟨b, 0, none⟩)] w fun e w' => e = .returned (.tuple #[]) /\ w' = w := by
 have h3 := h.c3
 have hd : decide ((p : Int) < 0) = false := by simp
 go_enter Tryz.func44, Tryz.ntmps44
 go_wp2
 go_end0
 exact ⟨rfl, rfl⟩
theorem zfb (b : Nat) (s : ByteArray) (i : Nat) (w : World) (h : R0 ty lv b s i (-1) w) :
 Calls Tryz.prog 44 #[.pointer (some ⟨b, 0, none⟩)] w fun e w' => e = .returned (.tuple #[]) /\ R0 ty lv b s i i w' /\ Gb b w w' := by
 have h2 := h.c2
 have h3 := h.c3
 have f3 := h.fz 3
 go_enter Tryz.func44, Tryz.ntmps44
 go_wp2
 go_end0
 exact ⟨rfl, h.setBad i, (Gb.refl b w).setCell 3 _⟩
theorem inS {c d : Nat} : inR c d d = true ↔ c = d := by simp [inR]; omega
theorem zcs {c d : Nat} (h : c ≠ d) : inR c d d = false := by simp [inR]; omega
theorem zfh (b : Nat) (s : ByteArray) (i c : Nat) (w : World) (h : R0 ty lv b s i (-1) w) (hs : s.size <= 100000) (hc : chr s i = c) (h0 : 1 <= c) :
 Calls Tryz.prog 71 #[.pointer (some ⟨b, 0, none⟩), .int .u8 (c : Int)] w fun e w' => e = .returned (.bool true) /\ R0 ty lv b s (i + 1) (-1) w' /\ Gb b w w' := by
 have hlt : i < s.size := zaf (by omega)
 have c2 := h.c2
 have f2 := h.fz 2
 have hn := h.next
 have HR : Hid (inR (chr s i) c c = true) := inS.2 hc
 clear hc
 go_enter Tryz.func71, Tryz.ntmps71
 go_wp2_with fail
 refine (zbj ty lv b s i c c w h (by omega) hs h0).mono ?_
 rintro e w' ⟨rfl, n, rfl⟩
 rw [HR.out]
 go_wp2_with fail
 go_ret
 exact ⟨rfl, hn n, ((Gb.refl b w).drewN n).setCell 2 _⟩
theorem zfc (b : Nat) (s : ByteArray) (i c : Nat) (w : World) (h : R0 ty lv b s i (-1) w) (hi : i <= s.size) (hs : s.size <= 100000) (hc : chr s i ≠ c) (h0 : 1 <= c) :
 Calls Tryz.prog 71 #[.pointer (some ⟨b, 0, none⟩), .int .u8 (c : Int)] w fun e w' => e = .returned (.bool false) /\ ∃ n, w' = w.drewN n := by
 have HR : Hid (inR (chr s i) c c = false) := zcs hc
 clear hc
 go_enter Tryz.func71, Tryz.ntmps71
 go_wp2_with fail
 refine (zbj ty lv b s i c c w h hi hs h0).mono ?_
 rintro e w' ⟨rfl, n, rfl⟩
 rw [HR.out]
 go_wp2_with fail
 go_ret
 exact ⟨rfl, n, rfl⟩
theorem zdp (b : Nat) (s : ByteArray) (i p c : Nat) (w : World) (h : R0 ty lv b s i p w) :
 Calls Tryz.prog 71 #[.pointer (some ⟨b, 0, none⟩), .int .u8 (c : Int)] w fun e w' => e = .returned (.bool false) /\ ∃ n, w' = w.drewN n := by
 go_enter Tryz.func71, Tryz.ntmps71
 go_wp2_with fail
 refine (zfg ty lv b s i p c c w h).mono ?_
 rintro e w' ⟨rfl, n, rfl⟩
 go_wp2_with fail
 go_ret
 exact ⟨rfl, n, rfl⟩
theorem zpd (b : Nat) (s : ByteArray) (i c : Nat) (w : World) (h : R0 ty lv b s i (-1) w) (hs : s.size <= 100000) (hc : chr s i = c) (h0 : 1 <= c) :
 Calls Tryz.prog 106 #[.pointer (some ⟨b, 0, none⟩), .int .u8 (c : Int)] w fun e w' => e = .returned (.tuple #[]) /\ R0 ty lv b s (i + 1) (-1) w' /\ Gb b w w' := by
 go_enter Tryz.func106, Tryz.ntmps106
 go_wp2_with fail
 refine (zfh b s i c w h hs hc h0).mono ?_
 rintro e w' ⟨rfl, h1, k1⟩
 clear hc
 go_wp2_with fail
 go_end0
 exact ⟨rfl, h1, k1⟩
theorem gmust_no (b : Nat) (s : ByteArray) (i c : Nat) (w : World) (h : R0 ty lv b s i (-1) w) (hi : i <= s.size) (hs : s.size <= 100000) (hc : chr s i ≠ c) (h0 : 1 <= c) :
 Calls Tryz.prog 106 #[.pointer (some ⟨b, 0, none⟩), .int .u8 (c : Int)] w fun e w' => e = .returned (.tuple #[]) /\ R0 ty lv b s i i w' /\ Gb b w w' := by
 go_enter Tryz.func106, Tryz.ntmps106
 go_wp2_with fail
 refine (zfc b s i c w h hi hs hc h0).mono ?_
 rintro e w' ⟨rfl, n, rfl⟩
 clear hc
 go_wp2_with fail
 refine (zfb b s i _ (h.drewN n)).mono ?_
 rintro e w' ⟨rfl, h1, k1⟩
 go_wp2_with fail
 go_end0
 exact ⟨rfl, h1, ((Gb.refl b w).drewN n).trans k1⟩
theorem znh (b : Nat) (s : ByteArray) (i p c : Nat) (w : World) (h : R0 ty lv b s i p w) :
 Calls Tryz.prog 106 #[.pointer (some ⟨b, 0, none⟩), .int .u8 (c : Int)] w fun e w' => e = .returned (.tuple #[]) /\ ∃ n, w' = w.drewN n := by
 go_enter Tryz.func106, Tryz.ntmps106
 go_wp2_with fail
 refine (zdp b s i p c w h).mono ?_
 rintro e w' ⟨rfl, n, rfl⟩
 go_wp2_with fail
 refine (zea ty lv b s i p _ (h.drewN n)).mono ?_
 rintro e w' ⟨rfl, rfl⟩
 go_wp2_with fail
 go_end0
 exact ⟨rfl, n, rfl⟩
theorem zgh (b : Nat) (s : ByteArray) (i r j : Nat) (w : World) (h : R0 ty lv b s i (-1) w) (hs : s.size <= 100000) (hc : isLet (chr s i) = true) (HE : Hid (r = vnum (chr s i) (chr s (i + 1)) + 30)) (HJ : Hid (j = if 49 <= chr s (i + 1) /\ chr s (i + 1) <= 57 then i + 2 else i + 1)) :
 Calls Tryz.prog 105 #[.pointer (some ⟨b, 0, none⟩)] w fun e w' => e = .returned (.int .i64 (r : Int)) /\ R0 ty lv b s j (-1) w' /\ Gb b w w' := by
 have hlt : i < s.size := zaf (by intro e; rw [e] at hc; exact absurd hc (by decide))
 have c0 := h.c0
 have c2 := h.c2
 have f2 := h.fz 2
 have hci : s[i].toNat = chr s i := by simp [chr, hlt]
 have hl : 97 <= chr s i /\ chr s i <= 122 := by simpa [isLet] using hc
 have hu : IntKind.u8.wrap ((chr s i : Int) - 97) = (chr s i : Int) - 97 := IntWalk.u8_in _ ⟨by omega, by omega⟩
 have HN : Hid (∀ n, R0 ty lv b s (i + 1) (-1) ((w.drewN n).setCell ⟨b, 2, none⟩ (.int .i64 ((i : Int) + 1)))) := h.next
 clear hc
 go_enter Tryz.func105, Tryz.ntmps105
 go_wp2_with fail
 go_quiet (fail)
 go_wp2_with fail
 have h1 := HN.out nq
 have g1 : Gb b w ((w.drewN nq).setCell ⟨b, 2, none⟩ (.int .i64 ((i : Int) + 1))) := ((Gb.refl b w).drewN nq).setCell 2 _
 generalize (w.drewN nq).setCell ⟨b, 2, none⟩ (.int .i64 ((i : Int) + 1)) = w1 at h1 g1 ⊢
 clear c0 c2 f2 HN
 refine (zbj ty lv b s (i + 1) 49 57 w1 h1 (by omega) hs (by decide)).mono ?_
 rintro e w' ⟨rfl, n, rfl⟩
 by_cases hd : 49 <= chr s (i + 1) /\ chr s (i + 1) <= 57
 · have hr : inR (chr s (i + 1)) 49 57 = true := by simp [inR, hd.1, hd.2]
   rw [hr]
   have hlt2 : i + 1 < s.size := zaf (by omega)
   have hcj : s[i + 1].toNat = chr s (i + 1) := by simp [chr, hlt2]
   have hv : IntKind.u8.wrap ((chr s (i + 1) : Int) - 48) = (chr s (i + 1) : Int) - 48 := IntWalk.u8_in _ ⟨by omega, by omega⟩
   have HF : Hid ((r : Int) = 1000 + 10 * ((chr s i : Int) - 97) + ((chr s (i + 1) : Int) - 48)) := by
    unfold Hid; rw [HE.out, vnum, if_pos hd]; omega
   have HK : Hid (j = i + 1 + 1) := HJ.out.trans (if_pos hd)
   have h2 := h1.drewN n
   have g2 := g1.drewN n
   generalize w1.drewN n = w2 at h2 g2 ⊢
   clear h1 g1
   obtain ⟨i1, hi1⟩ : ∃ i1, i1 = i + 1 := ⟨_, rfl⟩
   have HI1 : Hid (i1 = i + 1) := hi1
   have hcj' : s[i1]'(by omega) = s[i + 1] := by subst hi1; rfl
   have hlt3 : i1 < s.size := by omega
   rw [<- hi1] at h2
   have c0 := h2.c0
   have c2 := h2.c2
   have f2 := h2.fz 2
   have hcn : s[i1].toNat = chr s (i + 1) := by rw [hcj']; exact hcj
   have HN2 : Hid (∀ m, R0 ty lv b s (i1 + 1) (-1) ((w2.drewN m).setCell ⟨b, 2, none⟩ (.int .i64 ((i1 : Int) + 1)))) := h2.next
   clear hr hi1 hcj hcj' hlt2
   go_wp2_with fail
   go_quiet (fail)
   go_wp2_with fail
   go_ret
   rw [HF.out, HK.out, <- HI1.out]
   exact ⟨rfl, HN2.out _, (g2.drewN _).setCell 2 _⟩
 · have hr : inR (chr s (i + 1)) 49 57 = false := by simp only [inR, Bool.and_eq_false_iff, decide_eq_false_iff_not]; omega
   rw [hr]
   have HF : Hid ((r : Int) = 1000 + 10 * ((chr s i : Int) - 97)) := by
    unfold Hid; rw [HE.out, vnum, if_neg hd]; omega
   have HK : Hid (j = i + 1) := HJ.out.trans (if_neg hd)
   clear hd
   go_wp2_with fail
   go_ret
   rw [HF.out, HK.out]
   exact ⟨rfl, h1.drewN n, g1.drewN n⟩
def RKPost (ty : Bool) (lv : Value) (b : Nat) (s : ByteArray) (r : TOut) (i : Nat) (w : World) (e : Ending) (w' : World) : Prop :=
 Gb b w w' /\ match r with
  | .error p => ∃ g cap u, e = .returned (.agg #[.slice (some ⟨g, 0, none⟩) (sz u) cap]) /\ Rg g u w' /\ sz u <= p - i + 1 /\ i <= p /\ p <= s.size /\ R0 ty lv b s p p w'
  | .ok (t, j) => ∃ g cap, e = .returned (.agg #[.slice (some ⟨g, 0, none⟩) (sz t) cap]) /\ Rg g t w' /\ sz t <= j - i /\ R0 ty lv b s j (-1) w'
def zce (ty : Bool) (lv : Value) (b : Nat) (s : ByteArray) (n : Nat) : Prop :=
 ∀ (i : Nat) (w : World), R0 ty lv b s i (-1) w -> i <= s.size -> 3 * (s.size - i) + 3 <= n ->
  Calls Tryz.prog 43 #[.pointer (some ⟨b, 0, none⟩)] w (RKPost ty lv b s (pt s n 0 i .nil) i w)
def zgt (ty : Bool) (lv : Value) (b : Nat) (s : ByteArray) (n : Nat) : Prop :=
 ∀ (i : Nat) (w : World), R0 ty lv b s i (-1) w -> i <= s.size -> 3 * (s.size - i) + 1 <= n ->
  Calls Tryz.prog 70 #[.pointer (some ⟨b, 0, none⟩)] w (RKPost ty lv b s (pt s n 2 i .nil) i w)
abbrev zan : Obj := .cells #[.slice none 0 0] 33
theorem Rg.neBox {g q : Nat} {t : Ty} {w : World} {v : Option Addr} {m c : Nat} {T : TypeId} (h : Rg g t w) (k : w.heap[q]? = some (.cells #[.slice v m c] T (0, 0))) : g ≠ q := by
 rintro rfl
 have hp := zau h.ok
 obtain ⟨n, hn⟩ : ∃ n, (nd t 0)[0]? = some n := ⟨_, List.getElem?_eq_getElem (by rw [zaj]; omega)⟩
 have := (h.cell 0 n hn).1
 rw [Nat.zero_mul, zab k] at this
 cases this
theorem zer {b : Nat} {w wX : World} {o : Obj} (hg : Gb b (w.alloc o) wX) (hb : b < w.heap.size) : wX.heap[w.heap.size]? = some o := hg.old (heap_alloc_new w o) (by omega)
theorem zfm {b : Nat} {w wX : World} {o : Obj} (hg : Gb b (w.alloc o) wX) (v : Value) : Gb b w (wX.setCell ⟨w.heap.size, 0, none⟩ v) := by
 have h1 : Gb b w wX := ((Gb.refl b w).alloc o).trans hg
 refine ⟨h1.os, h1.tape, h1.output, by simpa [World.setCell] using Gb.size h1, fun k hk hn => ?_⟩
 exact (Below.heap_setCell wX ⟨w.heap.size, 0, none⟩ v k (by simp; omega)).trans (h1.block k hk hn)
theorem Rg.setBox {g q : Nat} {t : Ty} {w : World} (h : Rg g t w) (hn : g ≠ q) (v : Value) : Rg g t (w.setCell ⟨q, 0, none⟩ v) := h.kept (zai q v) (by simp; exact fun e => hn e.symm)
theorem runit_let (b : Nat) (s : ByteArray) (n i : Nat) (w : World) (h : R0 ty lv b s i (-1) w) (hi : i <= s.size) (hs : s.size <= 100000) (hc : isLet (chr s i) = true) :
 Calls Tryz.prog 70 #[.pointer (some ⟨b, 0, none⟩)] w (RKPost ty lv b s (unOut s n i) i w) := by
 have hlt := h.lt
 have hb : isLet (chr s i) = inR (chr s i) 97 122 := rfl
 have HR : Hid (unOut s n i = vOut s i) := by
  have : 97 <= chr s i /\ chr s i <= 122 := by simpa [isLet] using hc
  exact un_V (by omega) (by omega) (by omega) (by omega) hc
 have hv := zpp (d := chr s (i + 1)) hc
 have HC : Hid (isLet (chr s i) = true) := hc
 obtain ⟨o, ho⟩ : ∃ o, o = vnum (chr s i) (chr s (i + 1)) := ⟨_, rfl⟩
 obtain ⟨j, hj⟩ : ∃ j, j = if 49 <= chr s (i + 1) /\ chr s (i + 1) <= 57 then i + 2 else i + 1 := ⟨_, rfl⟩
 have HV : Hid (unOut s n i = .ok (tV o, j)) := by unfold Hid; rw [HR.out, ho, hj]; rfl
 rw [<- ho] at hv
 have hjlt : i + 1 <= j := by rw [hj]; split <;> omega
 have HO : Hid (o + 30 = vnum (chr s i) (chr s (i + 1)) + 30) := by unfold Hid; rw [ho]
 have HJ : Hid (j = if 49 <= chr s (i + 1) /\ chr s (i + 1) <= 57 then i + 2 else i + 1) := hj
 clear hc hb ho hj HR
 go_enter Tryz.func70, Tryz.ntmps70
 go_wp2_with fail
 refine (zbj ty lv b s i 97 122 _ (h.alloc zan) hi hs (by decide)).mono ?_
 rintro e w' ⟨rfl, d, rfl⟩
 rw [show inR (chr s i) 97 122 = true from HC.out]
 go_wp2_with fail
 refine (zgh b s i (o + 30) j _ ((h.alloc zan).drewN d) hs HC.out HO HJ).mono ?_
 rintro e w1 ⟨rfl, h1, g1⟩
 go_wp2_with fail
 refine (zcc 2 o (by omega) (okV hv.1 hv.2) w1).mono ?_
 rintro e w2 ⟨g2, cap2, rfl, R2, hg2, b2⟩
 have G1 : Gb b (w.alloc zan) w2 := ((Gb.refl b (w.alloc zan)).drewN d).trans (g1.trans ⟨b2.os, b2.tape, b2.output, b2.size, fun k hk _ => b2.block k hk⟩)
 have hbx := zer G1 hlt
 have cb := zab hbx
 have fb := zae hbx
 have R02 := h1.below b2
 go_wp2_with fail
 refine zag rfl rfl (zac hbx) ?_
 refine ⟨zfm G1 _, ?_⟩
 rw [HV.out]
 exact ⟨g2, cap2, rfl, R2.setBox (R2.neBox hbx) _, by rw [zen]; omega, R02.setFar (by omega) _⟩
theorem zlh (gt c : Nat) (hgt : (gt = 0 /\ c = 73) \/ (gt = 1 /\ c = 66)) (b : Nat) (s : ByteArray) (n i : Nat) (w : World) (h : R0 ty lv b s i (-1) w) (hi : i <= s.size) (hs : s.size <= 100000) (hc : chr s i = c) :
 Calls Tryz.prog 70 #[.pointer (some ⟨b, 0, none⟩)] w (RKPost ty lv b s (unOut s n i) i w) := by
 have hlt := h.lt
 have hlt0 : i < s.size := zaf (by rw [hc]; omega)
 have hcc : c = 73 \/ c = 66 := by omega
 have HV : Hid (unOut s n i = .ok (.node gt 0 () .nil .nil, i + 1)) := by
  unfold Hid
  rcases hgt with ⟨rfl, rfl⟩ | ⟨rfl, rfl⟩
  · exact un_I hc
  · exact un_B hc
 have HO : Hid (Ok (.node gt 0 () .nil .nil)) := by
  unfold Hid
  rcases hgt with ⟨rfl, rfl⟩ | ⟨rfl, rfl⟩
  · exact okI
  · exact okB
 have HG : Hid (sgn gt 0 = c /\ gt <= 2) := by
  unfold Hid
  rcases hgt with ⟨rfl, rfl⟩ | ⟨rfl, rfl⟩ <;> exact ⟨rfl, by decide⟩
 have HL : Hid (inR (chr s i) 97 122 = false) := by
  unfold Hid; rw [hc]; rcases hcc with rfl | rfl <;> decide
 have HI : Hid ((inR (chr s i) 73 73 || inR (chr s i) 66 66) = true) := by
  unfold Hid; rw [hc]; rcases hcc with rfl | rfl <;> decide
 have hci : s[i].toNat = c := by rw [<- hc]; simp [chr, hlt0]
 clear hgt hc
 have hr1 : Hid (∃ x, x = inR (chr s i) 73 73) := ⟨_, rfl⟩
 obtain ⟨x, hx⟩ := hr1.out
 obtain ⟨y, hy⟩ : ∃ y, y = inR (chr s i) 66 66 := ⟨_, rfl⟩
 have HXY : Hid ((x || y) = true) := by unfold Hid; rw [hx, hy]; exact HI.out
 have HX : Hid (inR (chr s i) 73 73 = x) := hx.symm
 have HY : Hid (inR (chr s i) 66 66 = y) := hy.symm
 clear hr1 hx hy HI
 go_enter Tryz.func70, Tryz.ntmps70
 go_wp2_with fail
 refine (zbj ty lv b s i 97 122 _ (h.alloc zan) hi hs (by decide)).mono ?_
 rintro e w' ⟨rfl, d, rfl⟩
 rw [HL.out]
 go_wp2_with fail
 refine (zbj ty lv b s i 73 73 _ ((h.alloc zan).drewN d) hi hs (by decide)).mono ?_
 rintro e w' ⟨rfl, d1, rfl⟩
 rw [HX.out]
 go_wp2_with fail
 refine (zbj ty lv b s i 66 66 _ ((h.alloc zan).drewN _) hi hs (by decide)).mono ?_
 rintro e w' ⟨rfl, d2, rfl⟩
 rw [HY.out]
 have h3 := ((h.alloc zan).drewN (d + d1)).drewN d2
 have g3 : Gb b (w.alloc zan) (((w.alloc zan).drewN (d + d1)).drewN d2) := ((Gb.refl b (w.alloc zan)).drewN _).drewN _
 generalize ((w.alloc zan).drewN (d + d1)).drewN d2 = w3 at h3 g3 ⊢
 have c2 := h3.c2
 have f2 := h3.fz 2
 have HN : Hid (R0 ty lv b s (i + 1) (-1) (w3.setCell ⟨b, 2, none⟩ (.int .i64 ((i : Int) + 1)))) := h3.next 0
 have G4 : Gb b (w.alloc zan) (w3.setCell ⟨b, 2, none⟩ (.int .i64 ((i : Int) + 1))) := g3.setCell 2 _
 have hxy : (x = true) \/ (x = false /\ y = true) := by have := HXY.out; cases x <;> simp_all
 have hc9 : c <= 73 := by omega
 clear HL HX HY HXY hcc
 rcases hxy with rfl | ⟨rfl, rfl⟩
 all_goals
  go_wp2_with fail
  have h4 := HN.out
  generalize w3.setCell ⟨b, 2, none⟩ (.int .i64 ((i : Int) + 1)) = w4 at h4 G4 ⊢
  clear HN c2 f2
  obtain ⟨i1, hi1⟩ : ∃ i1, i1 = i + 1 := ⟨_, rfl⟩
  rw [<- hi1] at h4
  have he : ((i1 : Int) - 1) = (i : Int) := by omega
  have HI1 : Hid (i1 = i + 1) := hi1
  have c0 := h4.c0
  have c2 := h4.c2
  have hw : IntKind.i64.wrap (i : Int) = (i : Int) := IntWalk.i64_in _ ⟨by omega, by omega⟩
  have hwc : IntKind.i64.wrap (c : Int) = (c : Int) := IntWalk.i64_in _ ⟨by omega, by omega⟩
  have hqb : w.heap.size ≠ b := by omega
  have LF := zcc gt 0 HG.out.2 HO.out w4.drew
  rw [HG.out.1] at LF
  clear hi1
  go_region_held3 (fun wq => wq.cell? ⟨b, 0, none⟩ = some (.string s) /\ wq.cell? ⟨b, 2, none⟩ = some (.int .i64 (i1 : Int)))
   (first | go_keep | (go_split_ands; exact ⟨q0, q2⟩) | exact ⟨(h5.setFar hqb _).c0, (h5.setFar hqb _).c2⟩)
   (first | (go_at_call 40; refine LF.mono ?_; rintro e w5 ⟨g5, cap5, rfl, R5, hg5, b5⟩; (have h5 := h4.drew.below b5); (have q0 := h5.c0); (have q2 := h5.c2); (have G5 : Gb b (w.alloc zan) w5 := (G4.drewN 1).trans ⟨b5.os, b5.tape, b5.output, b5.size, fun k hk _ => b5.block k hk⟩); (have hbx := zer G5 hlt); (have cb := zab hbx); (have fb := zae hbx)))
  go_wp2_with fail
  refine zag rfl rfl (zac hbx) ?_
  refine ⟨zfm G5 _, ?_⟩
  rw [HV.out]
  exact ⟨g5, cap5, rfl, R5.setBox (R5.neBox hbx) _, by rw [zen]; omega, by rw [<- HI1.out]; exact h5.setFar (by omega) _⟩
def KS (ty : Bool) (lv : Value) (b : Nat) (s : ByteArray) (r : TOut) (i : Nat) (u : Ty) (w' : World) : Prop :=
 match r with
 | .error p => sz u <= p - i + 1 /\ i <= p /\ p <= s.size /\ R0 ty lv b s p p w'
 | .ok (t, j) => u = t /\ sz t <= j - i /\ j <= s.size /\ R0 ty lv b s j (-1) w'
theorem RKPost.parts {b : Nat} {s : ByteArray} {r : TOut} {i : Nat} {w w' : World} {e : Ending} (h : RKPost ty lv b s r i w e w') (hj : ∀ t j, r = .ok (t, j) -> j <= s.size) :
 Gb b w w' /\ ∃ g cap u, e = .returned (.agg #[.slice (some ⟨g, 0, none⟩) (sz u) cap]) /\ Rg g u w' /\ KS ty lv b s r i u w' := by
 obtain ⟨hg, h⟩ := h
 refine ⟨hg, ?_⟩
 cases r with
 | error p =>
  obtain ⟨g, cap, u, he, hR, h1, h2, h3, h4⟩ := h
  exact ⟨g, cap, u, he, hR, h1, h2, h3, h4⟩
 | ok r =>
  obtain ⟨t, j⟩ := r
  obtain ⟨g, cap, he, hR, h1, h2⟩ := h
  exact ⟨g, cap, t, he, hR, rfl, h1, hj t j rfl, h2⟩
theorem RKPost.of {b : Nat} {s : ByteArray} {r : TOut} {i g cap : Nat} {u : Ty} {w w' : World} (hg : Gb b w w') (hR : Rg g u w') (k : KS ty lv b s r i u w') :
 RKPost ty lv b s r i w (.returned (.agg #[.slice (some ⟨g, 0, none⟩) (sz u) cap])) w' := by
 refine ⟨hg, ?_⟩
 cases r with
 | error p =>
  obtain ⟨h1, h2, h3, h4⟩ := k
  exact ⟨g, cap, u, rfl, hR, h1, h2, h3, h4⟩
 | ok r =>
  obtain ⟨t, j⟩ := r
  obtain ⟨rfl, h1, _, h2⟩ := k
  exact ⟨g, cap, rfl, hR, h1, h2⟩
theorem KS.moved {b : Nat} {s : ByteArray} {r : TOut} {i : Nat} {u : Ty} {w w' : World} (k : KS ty lv b s r i u w) (hm : ∀ j bad, R0 ty lv b s j bad w -> R0 ty lv b s j bad w') : KS ty lv b s r i u w' := by
 cases r with
 | error p => exact ⟨k.1, k.2.1, k.2.2.1, hm _ _ k.2.2.2⟩
 | ok r => obtain ⟨t, j⟩ := r; exact ⟨k.1, k.2.1, k.2.2.1, hm _ _ k.2.2.2⟩
theorem KS.lt {b : Nat} {s : ByteArray} {r : TOut} {i : Nat} {u : Ty} {w : World} (k : KS ty lv b s r i u w) : b < w.heap.size := by
 cases r with
 | error p => exact k.2.2.2.lt
 | ok r => obtain ⟨t, j⟩ := r; exact k.2.2.2.lt
theorem KS.small {b : Nat} {s : ByteArray} {r : TOut} {i : Nat} {u : Ty} {w : World} (k : KS ty lv b s r i u w) : sz u <= s.size + 1 := by
 cases r with
 | error p => obtain ⟨h1, h2, h3, _⟩ := k; omega
 | ok r => obtain ⟨t, j⟩ := r; obtain ⟨rfl, h1, h3, _⟩ := k; omega
theorem KS.back {b : Nat} {s : ByteArray} {r : TOut} {i : Nat} {u : Ty} {w : World} (k : KS ty lv b s r (i + 1) u w) : KS ty lv b s r i u w := by
 cases r with
 | error p => obtain ⟨h1, h2, h3, h4⟩ := k; exact ⟨by omega, by omega, h3, h4⟩
 | ok r => obtain ⟨t, j⟩ := r; obtain ⟨h0, h1, h3, h4⟩ := k; exact ⟨h0, by omega, h3, h4⟩
theorem KS.ne {b g : Nat} {s : ByteArray} {r : TOut} {i : Nat} {u v : Ty} {w : World} (k : KS ty lv b s r i u w) (h : Rg g v w) : g ≠ b := by
 cases r with
 | error p => exact h.ne k.2.2.2
 | ok r => obtain ⟨t, j⟩ := r; exact h.ne k.2.2.2
def mapL : TOut -> TOut
 | .error p => .error p
 | .ok (a, j) => .ok (tL a, j)
theorem un_L2 {s : ByteArray} {n i : Nat} (h : chr s i = 91) : unOut s n i = mapL (cbOut s n (i + 1) 93) := by
 rw [un_L h]; cases cbOut s n (i + 1) 93 <;> rfl
theorem KS.list {b : Nat} {s : ByteArray} {r : TOut} {i : Nat} {u : Ty} {w : World} (ok : Ok u) (k : KS ty lv b s r (i + 1) u w) : KS ty lv b s (mapL r) i (tL u) w := by
 have hp := zau ok
 cases r with
 | error p => obtain ⟨h1, h2, h3, h4⟩ := k; exact ⟨by show sz u + 0 + 1 <= _; omega, by omega, h3, h4⟩
 | ok r => obtain ⟨t, j⟩ := r; obtain ⟨rfl, h1, h3, h4⟩ := k; exact ⟨rfl, by show sz u + 0 + 1 <= _; omega, h3, h4⟩
theorem pt_end {s : ByteArray} {n i : Nat} (hi : i <= s.size) : ∀ t j, pt s n 0 i .nil = .ok (t, j) -> j <= s.size := fun t j h => (zav s _ _ _ _ _ _ h hi (by omega)).2.1
theorem pt_end2 {s : ByteArray} {n i : Nat} (hi : i <= s.size) : ∀ t j, pt s n 2 i .nil = .ok (t, j) -> j <= s.size := fun t j h => (zav s _ _ _ _ _ _ h hi (by omega)).2.1
theorem zfq {b : Nat} {w : World} (n : Nat) : Gb b w (w.drewN n) := (Gb.refl b w).drewN n
theorem must_any (b : Nat) (s : ByteArray) (n i c : Nat) (u : Ty) (w : World) (ok : Ok u) (k : KS ty lv b s (pt s n 0 i .nil) i u w) (hs : s.size <= 100000) (h0 : 1 <= c) :
 Calls Tryz.prog 106 #[.pointer (some ⟨b, 0, none⟩), .int .u8 (c : Int)] w fun e w' => e = .returned (.tuple #[]) /\ Gb b w w' /\ KS ty lv b s (cbOut s n i c) i u w' := by
 have hp := zau ok
 unfold cbOut
 cases hq : pt s n 0 i .nil with
 | error p =>
  rw [hq] at k
  refine (znh b s p p c w k.2.2.2).mono ?_
  rintro e w' ⟨rfl, d, rfl⟩
  exact ⟨rfl, zfq d, k.1, k.2.1, k.2.2.1, k.2.2.2.drewN d⟩
 | ok r =>
  obtain ⟨t, j⟩ := r
  rw [hq] at k
  obtain ⟨rfl, h1, h2, h3⟩ := k
  by_cases hc : chr s j = c
  · refine (zpd b s j c w h3 hs hc h0).mono ?_
    rintro e w' ⟨rfl, h4, h5⟩
    have hlt : j < s.size := zaf (by omega)
    refine ⟨rfl, h5, ?_⟩
    simp only [hc, if_true]
    exact ⟨rfl, by omega, hlt, h4⟩
  · refine (gmust_no b s j c w h3 h2 hs hc h0).mono ?_
    rintro e w' ⟨rfl, h4, h5⟩
    refine ⟨rfl, h5, ?_⟩
    simp only [hc, if_false]
    exact ⟨by omega, by omega, h2, h4⟩
theorem runit_none (b : Nat) (s : ByteArray) (n i : Nat) (w : World) (h : R0 ty lv b s i (-1) w) (hi : i <= s.size) (hs : s.size <= 100000) (N73 : Hid (chr s i ≠ 73)) (N66 : Hid (chr s i ≠ 66)) (N91 : Hid (chr s i ≠ 91)) (N40 : Hid (chr s i ≠ 40)) (HL : Hid (isLet (chr s i) = false)) :
 Calls Tryz.prog 70 #[.pointer (some ⟨b, 0, none⟩)] w (RKPost ty lv b s (unOut s n i) i w) := by
 have hlt := h.lt
 have HV : Hid (unOut s n i = .error i) := un_N N73.out N66.out N91.out N40.out HL.out
 have LF : ∀ w1, Calls Tryz.prog 40 #[.int .i64 73] w1 (TPost tI w1) := fun w1 => zcc 0 0 (by decide) okI w1
 go_enter Tryz.func70, Tryz.ntmps70
 go_wp2_with fail
 refine (zbj ty lv b s i 97 122 _ (h.alloc zan) hi hs (by decide)).mono ?_
 rintro e w' ⟨rfl, d, rfl⟩
 rw [show inR (chr s i) 97 122 = false from HL.out]
 go_wp2_with fail
 refine (zbj ty lv b s i 73 73 _ ((h.alloc zan).drewN d) hi hs (by decide)).mono ?_
 rintro e w' ⟨rfl, d1, rfl⟩
 rw [zcs N73.out]
 go_wp2_with fail
 refine (zbj ty lv b s i 66 66 _ ((h.alloc zan).drewN _) hi hs (by decide)).mono ?_
 rintro e w' ⟨rfl, d2, rfl⟩
 rw [zcs N66.out]
 go_wp2_with fail
 refine (zfc b s i 91 _ ((h.alloc zan).drewN _) hi hs N91.out (by decide)).mono ?_
 rintro e w' ⟨rfl, d3, rfl⟩
 go_wp2_with fail
 refine (zfc b s i 40 _ ((h.alloc zan).drewN _) hi hs N40.out (by decide)).mono ?_
 rintro e w' ⟨rfl, d4, rfl⟩
 go_wp2_with fail
 refine (zfb b s i _ ((h.alloc zan).drewN _)).mono ?_
 rintro e w1 ⟨rfl, h1, g1⟩
 go_wp2_with fail
 refine (LF w1).mono ?_
 rintro e w2 ⟨g2, cap2, rfl, R2, hg2, b2⟩
 have G1 : Gb b (w.alloc zan) w2 := ((Gb.refl b (w.alloc zan)).drewN _).trans (g1.trans ⟨b2.os, b2.tape, b2.output, b2.size, fun k hk _ => b2.block k hk⟩)
 have hbx := zer G1 hlt
 have cb := zab hbx
 have fb := zae hbx
 have R02 := h1.below b2
 go_wp2_with fail
 refine zag rfl rfl (zac hbx) ?_
 rw [HV.out]
 exact RKPost.of (zfm G1 _) (R2.setBox (R2.neBox hbx) _) ⟨by show 1 <= _; omega, Nat.le_refl i, hi, R02.setFar (by omega) _⟩
theorem zib {b : Nat} {w w' : World} (h : Below w.heap.size w w') : Gb b w w' := ⟨h.os, h.tape, h.output, h.size, fun k hk _ => h.block k hk⟩
theorem runit_list (b : Nat) (s : ByteArray) (n i : Nat) (w : World) (ih : Hid (zce ty lv b s n)) (h : R0 ty lv b s i (-1) w) (hi : i <= s.size) (hs : s.size <= 60000) (hn : 3 * (s.size - i) + 1 <= n + 1) (H : Hid (chr s i = 91)) :
 Calls Tryz.prog 70 #[.pointer (some ⟨b, 0, none⟩)] w (RKPost ty lv b s (unOut s n i) i w) := by
 have hlt := h.lt
 have hlt0 : i < s.size := zaf (by rw [H.out]; decide)
 have HV : Hid (unOut s n i = mapL (cbOut s n (i + 1) 93)) := un_L2 H.out
 go_enter Tryz.func70, Tryz.ntmps70
 go_wp2_with fail
 refine (zbj ty lv b s i 97 122 _ (h.alloc zan) hi (by omega) (by decide)).mono ?_
 rintro e w' ⟨rfl, d, rfl⟩
 rw [show inR (chr s i) 97 122 = false from by rw [H.out]; decide]
 go_wp2_with fail
 refine (zbj ty lv b s i 73 73 _ ((h.alloc zan).drewN d) hi (by omega) (by decide)).mono ?_
 rintro e w' ⟨rfl, d1, rfl⟩
 rw [zcs (c := chr s i) (d := 73) (by rw [H.out]; decide)]
 go_wp2_with fail
 refine (zbj ty lv b s i 66 66 _ ((h.alloc zan).drewN _) hi (by omega) (by decide)).mono ?_
 rintro e w' ⟨rfl, d2, rfl⟩
 rw [zcs (c := chr s i) (d := 66) (by rw [H.out]; decide)]
 go_wp2_with fail
 refine (zfh b s i 91 _ ((h.alloc zan).drewN _) (by omega) H.out (by decide)).mono ?_
 rintro e w1 ⟨rfl, h1, g1⟩
 have G1 : Gb b (w.alloc zan) w1 := (zfq _).trans g1
 clear g1
 go_wp2_with fail
 refine (ih.out (i + 1) _ h1 hlt0 (by omega)).mono ?_
 intro e w2 hp
 obtain ⟨g2, g, cap, u, rfl, R2, k2⟩ := hp.parts (pt_end hlt0)
 have G2 := G1.trans g2
 have hsm := k2.small
 have K2 : Hid (KS ty lv b s (pt s n 0 (i + 1) .nil) (i + 1) u w2) := k2
 clear hp k2 g2 h1
 go_wp2_with fail
 refine (must_any b s n (i + 1) 93 u _ R2.ok (K2.out.moved fun j bad r => r.alloc _) (by omega) (by decide)).mono ?_
 rintro e w4 ⟨rfl, g4, k4⟩
 have cb4 := zab (zer g4 K2.out.lt)
 have R4 : Rg g u w4 := (R2.alloc _).gb g4 (K2.out.ne R2)
 have G4 : Gb b (w.alloc zan) w4 := (G2.alloc _).trans g4
 have K4 : Hid (KS ty lv b s (mapL (cbOut s n (i + 1) 93)) i (tL u) w4) := k4.list R2.ok
 have LA := list_any u g cap w4 R4 (by omega)
 clear k4 g4 G2 R2 R4
 generalize tL u = T at K4 LA
 go_wp2_with fail
 refine LA.mono ?_
 rintro e w5 ⟨g5, cap5, rfl, R5, hg5, b5⟩
 have G5 : Gb b (w.alloc zan) w5 := G4.trans (zib b5)
 have hbx := zer G5 hlt
 have cb := zab hbx
 have fb := zae hbx
 go_wp2_with fail
 refine zag rfl rfl (zac hbx) ?_
 rw [HV.out]
 exact RKPost.of (zfm G5 _) (R5.setBox (R5.neBox hbx) _) (K4.out.moved fun j bad r => (r.below b5).setFar (by omega) _)
theorem runit_paren (b : Nat) (s : ByteArray) (n i : Nat) (w : World) (ih : Hid (zce ty lv b s n)) (h : R0 ty lv b s i (-1) w) (hi : i <= s.size) (hs : s.size <= 60000) (hn : 3 * (s.size - i) + 1 <= n + 1) (H : Hid (chr s i = 40)) :
 Calls Tryz.prog 70 #[.pointer (some ⟨b, 0, none⟩)] w (RKPost ty lv b s (unOut s n i) i w) := by
 have hlt := h.lt
 have hlt0 : i < s.size := zaf (by rw [H.out]; decide)
 have HV : Hid (unOut s n i = cbOut s n (i + 1) 41) := un_C H.out
 go_enter Tryz.func70, Tryz.ntmps70
 go_wp2_with fail
 refine (zbj ty lv b s i 97 122 _ (h.alloc zan) hi (by omega) (by decide)).mono ?_
 rintro e w' ⟨rfl, d, rfl⟩
 rw [show inR (chr s i) 97 122 = false from by rw [H.out]; decide]
 go_wp2_with fail
 refine (zbj ty lv b s i 73 73 _ ((h.alloc zan).drewN d) hi (by omega) (by decide)).mono ?_
 rintro e w' ⟨rfl, d1, rfl⟩
 rw [zcs (c := chr s i) (d := 73) (by rw [H.out]; decide)]
 go_wp2_with fail
 refine (zbj ty lv b s i 66 66 _ ((h.alloc zan).drewN _) hi (by omega) (by decide)).mono ?_
 rintro e w' ⟨rfl, d2, rfl⟩
 rw [zcs (c := chr s i) (d := 66) (by rw [H.out]; decide)]
 go_wp2_with fail
 refine (zfc b s i 91 _ ((h.alloc zan).drewN _) hi (by omega) (by rw [H.out]; decide) (by decide)).mono ?_
 rintro e w' ⟨rfl, d3, rfl⟩
 go_wp2_with fail
 refine (zfh b s i 40 _ ((h.alloc zan).drewN _) (by omega) H.out (by decide)).mono ?_
 rintro e w1 ⟨rfl, h1, g1⟩
 have G1 : Gb b (w.alloc zan) w1 := (zfq _).trans g1
 clear g1
 go_wp2_with fail
 refine (ih.out (i + 1) _ h1 hlt0 (by omega)).mono ?_
 intro e w2 hp
 obtain ⟨g2, g, cap, u, rfl, R2, k2⟩ := hp.parts (pt_end hlt0)
 have G2 := G1.trans g2
 have hsm := k2.small
 have K2 : Hid (KS ty lv b s (pt s n 0 (i + 1) .nil) (i + 1) u w2) := k2
 clear hp k2 g2 h1
 go_wp2_with fail
 refine (must_any b s n (i + 1) 41 u _ R2.ok (K2.out.moved fun j bad r => r.alloc _) (by omega) (by decide)).mono ?_
 rintro e w4 ⟨rfl, g4, k4⟩
 have cb4 := zab (zer g4 K2.out.lt)
 have R4 : Rg g u w4 := (R2.alloc _).gb g4 (K2.out.ne R2)
 have G4 : Gb b (w.alloc zan) w4 := (G2.alloc _).trans g4
 have K4 : Hid (KS ty lv b s (cbOut s n (i + 1) 41) i u w4) := k4.back
 have hbx := zer G4 hlt
 have cb := zab hbx
 have fb := zae hbx
 clear k4 g4 G2 R2
 go_wp2_with fail
 refine zag rfl rfl (zac hbx) ?_
 rw [HV.out]
 exact RKPost.of (zfm G4 _) (R4.setBox (R4.neBox hbx) _) (K4.out.moved fun j bad r => r.setFar (by omega) _)
theorem runit_any (b : Nat) (s : ByteArray) (n : Nat) (ih : zce ty lv b s n) (hs : s.size <= 60000) : zgt ty lv b s (n + 1) := by
 intro i w h hi hn
 show Calls _ _ _ _ (RKPost ty lv b s (unOut s n i) i w)
 by_cases h1 : chr s i = 73
 · exact zlh 0 73 (.inl ⟨rfl, rfl⟩) b s n i w h hi (by omega) h1
 by_cases h2 : chr s i = 66
 · exact zlh 1 66 (.inr ⟨rfl, rfl⟩) b s n i w h hi (by omega) h2
 by_cases h3 : chr s i = 91
 · exact runit_list b s n i w ih h hi hs hn h3
 by_cases h4 : chr s i = 40
 · exact runit_paren b s n i w ih h hi hs hn h4
 cases hc : isLet (chr s i)
 · exact runit_none b s n i w h hi (by omega) h1 h2 h3 h4 hc
 · exact runit_let b s n i w h hi (by omega) hc
def plr (b : Nat) (w : World) : Nat := (intOf ((w.cell? ⟨b, 2, none⟩).getD .nilIface)).toNat
theorem R0.plr {b : Nat} {s : ByteArray} {i : Nat} {bad : Int} {w : World} (h : R0 ty lv b s i bad w) : plr b w = i := by
 unfold YtceadeaodbadlaaGreatDoor.plr; rw [h.c2]; simp [intOf]
theorem KS.place {b : Nat} {s : ByteArray} {r : TOut} {i : Nat} {u : Ty} {w : World} (ok : Ok u) (k : KS ty lv b s r i u w) : ∃ q bad, i <= q /\ q <= s.size /\ R0 ty lv b s q bad w := by
 have hp := zau ok
 cases r with
 | error p => exact ⟨p, p, k.2.1, k.2.2.1, k.2.2.2⟩
 | ok r => obtain ⟨t, j⟩ := r; obtain ⟨rfl, h1, h2, h3⟩ := k; exact ⟨j, -1, by omega, h2, h3⟩
def LG (ty : Bool) (lv : Value) (b : Nat) (s : ByteArray) (n i m j : Nat) (t : Ty) (wr : World) : Prop := m <= n /\ j <= s.size /\ 3 * (s.size - j) + 2 <= m /\ pt s m 1 j t = prOut s n i /\ sz t <= j - i /\ i <= j /\ R0 ty lv b s j (-1) wr
def LB (ty : Bool) (lv : Value) (b : Nat) (s : ByteArray) (n i p : Nat) (t : Ty) (wr : World) : Prop := prOut s n i = .error p /\ sz t <= p - i + 1 /\ i <= p /\ p <= s.size /\ R0 ty lv b s p p wr
def LS (ty : Bool) (lv : Value) (b : Nat) (s : ByteArray) (n i : Nat) (t : Ty) (wr : World) : Prop := (∃ m j, LG ty lv b s n i m j t wr) \/ (∃ p, LB ty lv b s n i p t wr)
theorem LS.start {b : Nat} {s : ByteArray} {n i : Nat} {u : Ty} {w w' : World} (ok : Ok u) (hi : i <= s.size) (hn : 3 * (s.size - i) + 3 <= n + 1) (k : KS ty lv b s (pt s n 2 i .nil) i u w) (mv : ∀ j bad, R0 ty lv b s j bad w -> R0 ty lv b s j bad w') : LS ty lv b s n i u w' := by
 have hp := zau ok
 cases hq : pt s n 2 i .nil with
 | error p =>
  rw [hq] at k
  exact .inr ⟨p, by unfold prOut; rw [hq], k.1, k.2.1, k.2.2.1, mv _ _ k.2.2.2⟩
 | ok r =>
  obtain ⟨t, j⟩ := r
  rw [hq] at k
  obtain ⟨rfl, h1, h2, h3⟩ := k
  exact .inl ⟨n, j, Nat.le_refl n, h2, by omega, by unfold prOut; rw [hq], h1, by omega, mv _ _ h3⟩
theorem LS.star {b : Nat} {s : ByteArray} {n i m j : Nat} {t v : Ty} {w w3 w' : World} (ok : Ok v) (hst : chr s j = 42) (g : LG ty lv b s n i (m + 1) j t w) (k : KS ty lv b s (pt s m 2 (j + 1) .nil) (j + 1) v w3) (mv : ∀ j bad, R0 ty lv b s j bad w3 -> R0 ty lv b s j bad w') : LS ty lv b s n i (tP t v) w' := by
 have hp := zau ok
 have hz : sz (tP t v) = sz t + sz v + 1 := rfl
 obtain ⟨g1, g2, g3, g4, g5, g6, -⟩ := g
 rw [star_yes s m j t hst] at g4
 cases hq : pt s m 2 (j + 1) .nil with
 | error p =>
  rw [hq] at k g4
  obtain ⟨h1, h2, h3, h4⟩ := k
  exact .inr ⟨p, g4.symm, by omega, by omega, h3, mv _ _ h4⟩
 | ok r =>
  obtain ⟨x, q⟩ := r
  rw [hq] at k g4
  obtain ⟨rfl, h1, h2, h3⟩ := k
  exact .inl ⟨m, q, by omega, h2, by omega, g4, by omega, by omega, mv _ _ h3⟩
def mapF (t : Ty) : TOut -> TOut
 | .error p => .error p
 | .ok (b, l) => .ok (tF t b, l)
theorem pt_fn {s : ByteArray} {n i k : Nat} {t : Ty} (hp : prOut s n i = .ok (t, k)) (hc : chr s k = 62) : pt s (n + 1) 0 i .nil = mapF t (pt s n 0 (k + 1) .nil) := by
 rw [zlk, hp]
 simp only [hc, if_true]
 cases pt s n 0 (k + 1) .nil <;> rfl
theorem pt_one {s : ByteArray} {n i k : Nat} {t : Ty} (hp : prOut s n i = .ok (t, k)) (hc : chr s k ≠ 62) : pt s (n + 1) 0 i .nil = .ok (t, k) := by
 rw [zlk, hp]
 simp only [hc, if_false]
theorem pt_bad {s : ByteArray} {n i p : Nat} (hp : prOut s n i = .error p) : pt s (n + 1) 0 i .nil = .error p := by
 rw [zlk, hp]
theorem KS.fn {b : Nat} {s : ByteArray} {r : TOut} {i k : Nat} {t u : Ty} {w : World} (ok : Ok u) (hz : sz t <= k - i) (hik : i <= k) (h : KS ty lv b s r (k + 1) u w) : KS ty lv b s (mapF t r) i (tF t u) w := by
 have hp := zau ok
 have hzz : sz (tF t u) = sz t + sz u + 1 := rfl
 cases r with
 | error p => obtain ⟨h1, h2, h3, h4⟩ := h; exact ⟨by omega, by omega, h3, h4⟩
 | ok r => obtain ⟨x, j⟩ := r; obtain ⟨rfl, h1, h3, h4⟩ := h; exact ⟨rfl, by omega, h3, h4⟩
theorem gb_set {b : Nat} {w0 wX : World} (h : Gb b w0 wX) {q : Nat} (hq : w0.heap.size <= q) (v : Value) : Gb b w0 (wX.setCell ⟨q, 0, none⟩ v) := by
 refine ⟨h.os, h.tape, h.output, by simpa [World.setCell] using h.size, fun k hk hn => ?_⟩
 exact (Below.heap_setCell wX ⟨q, 0, none⟩ v k (by simp; omega)).trans (h.block k hk hn)
abbrev tyBox (g n cap : Nat) : Obj := .cells #[.slice (some ⟨g, 0, none⟩) n cap] 33
theorem rkind_step (b : Nat) (s : ByteArray) (n : Nat) (ihT : Hid (zce ty lv b s n)) (IH : Hid (∀ m, m <= n -> zgt ty lv b s m)) (hs : s.size <= 60000) : zce ty lv b s (n + 1) := by
 intro i w h hi hn
 have hlt := h.lt
 go_enter Tryz.func43, Tryz.ntmps43
 go_wp2_with fail
 refine (IH.out n (Nat.le_refl n) i _ (h.alloc zan) hi (by omega)).mono ?_
 intro e w1 hp
 obtain ⟨G1, gu, cap, u, rfl, R1, k1⟩ := hp.parts (pt_end2 hi)
 have HS : Hid (LS ty lv b s n i u (w1.alloc (tyBox gu (sz u) cap))) := LS.start R1.ok hi hn k1 (fun j bad r => r.alloc _)
 have hq1 : w.heap.size + 1 <= w1.heap.size := by have := G1.size; simpa using this
 have hb1 : b < w1.heap.size := k1.lt
 clear hp k1
 go_wp2_with fail
 go_loopw [8] (fun _ wr => ∃ g cap t, wr.heap[w1.heap.size]? = some (.cells #[.slice (some ⟨g, 0, none⟩) (sz t) cap] 33 (0, 0)) /\ Rg g t wr /\ Gb b (w.alloc zan) wr /\ Hid (LS ty lv b s n i t wr)) (fun _ wr => s.size - plr b wr)
 case atStart => exact ⟨gu, cap, u, heap_alloc_new w1 _, R1.alloc _, G1.alloc _, HS⟩
 case round =>
  clear HS G1 R1
  obtain ⟨g, cap, t, bx, R, G, HS⟩ := hrel
  have rbx := zer G hlt
  rcases HS.out with ⟨m, j, LGh⟩ | ⟨p, LBh⟩
  · obtain ⟨m, rfl⟩ : ∃ m', m = m' + 1 := ⟨m - 1, by have := LGh.2.2.1; omega⟩
    have hr : R0 ty lv b s j (-1) wr := LGh.2.2.2.2.2.2
    have hj : j <= s.size := LGh.2.1
    have hij : i <= j := LGh.2.2.2.2.2.1
    have hz : sz t <= j - i := LGh.2.2.2.2.1
    have hm1 : m + 1 <= n := LGh.1
    have hm2 : 3 * (s.size - j) + 2 <= m + 1 := LGh.2.2.1
    have HG : Hid (LG ty lv b s n i (m + 1) j t wr) := LGh
    clear LGh HS
    by_cases hst : chr s j = 42
    · have HST : Hid (chr s j = 42) := hst
      have hltj : j < s.size := zaf (by rw [hst]; decide)
      clear hst
      go_wp2_with fail
      refine (zfh b s j 42 _ hr (by omega) HST.out (by decide)).mono ?_
      rintro e w2 ⟨rfl, h2, g2⟩
      have bx2 := g2.old bx (by omega)
      have cb2 := zab bx2
      have UC := IH.out m (by omega) (j + 1) w2.drew h2.drew hltj (by omega)
      have R2 : Rg g t w2 := R.gb g2 (R.ne hr)
      have G2 := G.trans g2
      go_wp2_with fail
      go_region_with (first
       | (go_at_call 70; refine UC.mono ?_; intro e w3 hp; obtain ⟨g3, gv, cv, v, rfl, R3, k3⟩ := hp.parts (pt_end2 hltj); (have bx3 := g3.old (c := w1.heap.size) (x := w2.drew) bx2 (by omega)); (have cb3 := zab bx3); (have K3 : Hid (KS ty lv b s (pt s m 2 (j + 1) .nil) (j + 1) v w3) := k3); (have hz3 := k3.small); (have G3 := (G2.drewN 1).trans g3); (have R23 : Rg g t w3 := (Rg.drew R2).gb g3 (R.ne hr)); clear hp k3 UC)
       | (go_at_call 67; (have BA : Calls Tryz.prog 67 _ w3 (TPost (tP t v) w3) := zgr 4 (.inl rfl) t v g cap gv cv w3 R23 R3 (by omega) (by omega)); refine BA.mono ?_; rintro e w5 ⟨g5, cap5, rfl, R5, hg5, b5⟩; (obtain ⟨T, hT⟩ : ∃ T, T = tP t v := ⟨_, rfl⟩); (rw [<- hT] at R5 ⊢); (have HT : Hid (T = tP t v) := hT); (clear hT BA); (have bx5 := (zib (b := b) b5).old bx3 (by omega)); (have cb5 := zab bx5); (have fb5 := zae bx5)))
      all_goals
       have hg5b : g5 ≠ w1.heap.size := R5.neBox bx5
       have hq3 : w1.heap.size < w3.heap.size := (Array.getElem?_eq_some_iff.1 bx3).1
       have HS5 : Hid (LS ty lv b s n i T (w5.setCell ⟨w1.heap.size, 0, none⟩ (.slice (some ⟨g5, 0, none⟩) (sz T) cap5))) := by
        rw [HT.out]
        exact LS.star R3.ok HST.out HG.out K3.out (fun j bad r => (r.below b5).setFar (by omega) _)
       have HM : Hid (s.size - plr b (w5.setCell ⟨w1.heap.size, 0, none⟩ (.slice (some ⟨g5, 0, none⟩) (sz T) cap5)) < s.size - plr b wr) := by
        obtain ⟨q, bad, h1, h2, h3⟩ := K3.out.place R3.ok
        unfold Hid
        rw [((h3.below b5).setFar (by omega) _).plr, hr.plr]
        omega
       have G5 : Gb b (w.alloc zan) (w5.setCell ⟨w1.heap.size, 0, none⟩ (.slice (some ⟨g5, 0, none⟩) (sz T) cap5)) := gb_set (G3.trans (zib b5)) (by simp; omega) _
       have R6 := R5.setBox hg5b (.slice (some ⟨g5, 0, none⟩) (sz T) cap5)
       have bx6 := zac (v := .slice (some ⟨g5, 0, none⟩) (sz T) cap5) bx5
       go_wp2_with fail
       go_roundw
       case rel => exact ⟨g5, cap5, T, bx6, R6, G5, HS5⟩
       case measure => exact HM.out
    · have HP : Hid (prOut s n i = .ok (t, j)) := by rw [<- HG.out.2.2.2.1]; exact star_no s m j t hst
      have HST : Hid (chr s j ≠ 42) := hst
      clear hst
      by_cases hft : chr s j = 62
      · have HF : Hid (pt s (n + 1) 0 i .nil = mapF t (pt s n 0 (j + 1) .nil)) := pt_fn HP.out hft
        have HFT : Hid (chr s j = 62) := hft
        have hltj : j < s.size := zaf (by rw [hft]; decide)
        clear hft
        go_wp2_with fail
        refine (zfc b s j 42 _ hr hj (by omega) HST.out (by decide)).mono ?_
        rintro e w2 ⟨rfl, d, rfl⟩
        go_wp2_with fail
        refine (zfh b s j 62 _ (hr.drewN d) (by omega) HFT.out (by decide)).mono ?_
        rintro e w2 ⟨rfl, h2, g2⟩
        have bx2 := g2.old (x := wr.drewN d) bx (by omega)
        have cb2 := zab bx2
        have UC := ihT.out (j + 1) w2.drew h2.drew hltj (by omega)
        have R2 : Rg g t w2 := R.gb ((zfq d).trans g2) (R.ne hr)
        have G2 := (G.drewN d).trans g2
        go_wp2_with fail
        go_region_with (first
         | (go_at_call 43; refine UC.mono ?_; intro e w3 hp; obtain ⟨g3, gv, cv, v, rfl, R3, k3⟩ := hp.parts (pt_end hltj); (have bx3 := g3.old (c := w1.heap.size) (x := w2.drew) bx2 (by omega)); (have cb3 := zab bx3); (have K3 : Hid (KS ty lv b s (pt s n 0 (j + 1) .nil) (j + 1) v w3) := k3); (have hz3 := k3.small); (have G3 := (G2.drewN 1).trans g3); (have R23 : Rg g t w3 := (Rg.drew R2).gb g3 (R.ne hr)); clear hp k3 UC)
         | (go_at_call 67; (have BA : Calls Tryz.prog 67 _ w3 (TPost (tF t v) w3) := zgr 5 (.inr rfl) t v g cap gv cv w3 R23 R3 (by omega) (by omega)); refine BA.mono ?_; rintro e w5 ⟨g5, cap5, rfl, R5, hg5, b5⟩; (obtain ⟨T, hT⟩ : ∃ T, T = tF t v := ⟨_, rfl⟩); (rw [<- hT] at R5 ⊢); (have HT : Hid (T = tF t v) := hT); (clear hT BA); (have G5 := G3.trans (zib (b := b) b5)); (have bx5 := zer G5 hlt); (have cb5 := zab bx5); (have fb5 := zae bx5)))
        all_goals
         go_wp2_with fail
         refine zag rfl rfl (zac bx5) ?_
         rw [HF.out]
         refine RKPost.of (zfm G5 _) (R5.setBox (R5.neBox bx5) _) ?_
         rw [HT.out]
         exact (KS.fn R3.ok hz hij K3.out).moved (fun j bad r => (r.below b5).setFar (by omega) _)
      · have HF : Hid (pt s (n + 1) 0 i .nil = .ok (t, j)) := pt_one HP.out hft
        have HFT : Hid (chr s j ≠ 62) := hft
        clear hft
        go_wp2_with fail
        refine (zfc b s j 42 _ hr hj (by omega) HST.out (by decide)).mono ?_
        rintro e w2 ⟨rfl, d, rfl⟩
        go_wp2_with fail
        refine (zfc b s j 62 _ (hr.drewN d) hj (by omega) HFT.out (by decide)).mono ?_
        rintro e w2 ⟨rfl, d2, rfl⟩
        have cb := zab bx
        have rcb := zab rbx
        have rfb := zae rbx
        go_wp2_with fail
        refine zag rfl rfl (zac rbx) ?_
        rw [HF.out]
        exact RKPost.of (zfm (G.drewN _) _) ((R.gb (zfq (b := b) _) (R.ne hr)).setBox (R.neBox rbx) _) ⟨rfl, hz, hj, (hr.drewN _).setFar (by omega) _⟩
  · have hr : R0 ty lv b s p p wr := LBh.2.2.2.2
    have HB : Hid (LB ty lv b s n i p t wr) := LBh
    have HF : Hid (pt s (n + 1) 0 i .nil = .error p) := pt_bad LBh.1
    have cb := zab bx
    have rcb := zab rbx
    have rfb := zae rbx
    clear LBh HS
    go_wp2_with fail
    refine (zdp b s p p 42 _ hr).mono ?_
    rintro e w2 ⟨rfl, d, rfl⟩
    go_wp2_with fail
    refine (zdp b s p p 62 _ (hr.drewN d)).mono ?_
    rintro e w2 ⟨rfl, d2, rfl⟩
    go_wp2_with fail
    refine zag rfl rfl (zac rbx) ?_
    rw [HF.out]
    exact RKPost.of (zfm (G.drewN _) _) ((R.gb (zfq (b := b) _) (R.ne hr)).setBox (R.neBox rbx) _) ⟨HB.out.2.1, HB.out.2.2.1, HB.out.2.2.2.1, (hr.drewN _).setFar (by omega) _⟩
theorem zkz (b : Nat) (s : ByteArray) (hs : s.size <= 60000) : ∀ n m, m <= n -> zce ty lv b s m /\ zgt ty lv b s m := by
 have zero : zce ty lv b s 0 /\ zgt ty lv b s 0 := ⟨fun i w _ _ h0 => absurd h0 (by omega), fun i w _ _ h0 => absurd h0 (by omega)⟩
 intro n
 induction n with
 | zero => intro m hm; obtain rfl : m = 0 := by omega
           exact zero
 | succ n ih =>
  intro m hm
  rcases Nat.lt_or_ge m (n + 1) with h | h
  · exact ih m (by omega)
  · obtain rfl : m = n + 1 := by omega
    exact ⟨rkind_step b s n (ih n (Nat.le_refl n)).1 (fun m hm => (ih m hm).2) hs, runit_any b s n (ih n (Nat.le_refl n)).1 hs⟩
end Go.Proofs.YtceadeaodbadlaaGreatDoor
namespace Go.Proofs.YtceadeaodbadlaaGreatDoor
open Go.RowKit
structure Tt where
 op : Nat
 c : Nat
 a : Nat
 b : Nat
 g : Option Addr × Nat × Nat
 v : Option Addr × Nat × Nat
 p : Option Addr × Nat × Nat
 at' : Nat
 tu : Nat
abbrev slV (x : Option Addr × Nat × Nat) : Value := .slice x.1 x.2.1 x.2.2
def Tt.cells (t : Tt) : List Value := [.int .u8 (t.op : Int), .int .u8 (t.c : Int), .int .i64 (t.a : Int), .int .i64 (t.b : Int), slV t.g, slV t.v, slV t.p, .int .i64 (t.at' : Int), .int .i64 (t.tu : Int)]
def tflat (ts : List Tt) : List Value := ts.flatMap Tt.cells
theorem zol (ts us : List Tt) : tflat (ts ++ us) = tflat ts ++ tflat us := by simp [tflat]
theorem tflat_at (ts : List Tt) (k : Nat) (t : Tt) (h : ts[k]? = some t) (j : Nat) (hj : j < 9) : (tflat ts)[k * 9 + j]? = t.cells[j]? := by
 induction ts generalizing k with
 | nil => simp at h
 | cons u ts ih =>
  have hl : u.cells.length = 9 := rfl
  simp only [tflat, List.flatMap_cons]
  cases k with
  | zero => simp at h; subst h; rw [List.getElem?_append_left (by omega)]; simp
  | succ k =>
   rw [List.getElem?_append_right (by omega), show (k + 1) * 9 + j - u.cells.length = k * 9 + j by omega]
   exact ih k (by simpa using h)
abbrev Sg : Type := Except Nat Nat
def gPos : Sg -> Nat
 | .error p => p
 | .ok i => i
def gBad : Sg -> Int
 | .error p => (p : Int)
 | .ok _ => -1
def Sr (b : Nat) (s : ByteArray) (σ : Sg) (ts : List Tt) (w : World) : Prop :=
 gPos σ <= s.size /\ ∃ lv, R0 true lv b s (gPos σ) (gBad σ) w /\ w.ownsRow b 76 9 lv ts.length (tflat ts) /\ lv.ownBlock ≠ some b /\ (ts = [] -> lv.ownBlock = none)
theorem R0.row {ty : Bool} {lv : Value} {b : Nat} {s : ByteArray} {i : Nat} {bad : Int} {w : World} (h : R0 ty lv b s i bad w) : rowOf b w = lv.ownBlock := by
 unfold rowOf; rw [Lib.cell_of_heap h]; rfl
theorem Gb.fr {ty ty' : Bool} {lv : Value} {b : Nat} {s s' : ByteArray} {i i' : Nat} {bad bad' : Int} {w w' : World} (h : R0 ty lv b s i bad w) (h' : R0 ty' lv b s' i' bad' w') (g : Gb b w w') : Fr b w w' :=
 ⟨g.os, g.tape, g.output, g.size, fun k hk hb _ => g.block k hk (by simpa using hb), .inl (h'.row.trans h.row.symm)⟩
theorem Sr.lt {b : Nat} {s : ByteArray} {σ : Sg} {ts : List Tt} {w : World} (h : Sr b s σ ts w) : b < w.heap.size := by obtain ⟨_, lv, h, _⟩ := h; exact h.lt
theorem Sr.drewN {b : Nat} {s : ByteArray} {σ : Sg} {ts : List Tt} {w : World} (h : Sr b s σ ts w) (n : Nat) : Sr b s σ ts (w.drewN n) := h
theorem Sr.drew {b : Nat} {s : ByteArray} {σ : Sg} {ts : List Tt} {w : World} (h : Sr b s σ ts w) : Sr b s σ ts w.drew := h
theorem Sr.rowLt {b : Nat} {s : ByteArray} {σ : Sg} {ts : List Tt} {w : World} (h : Sr b s σ ts w) {k : Nat} (hk : rowOf b w = some k) : k < w.heap.size := by
 obtain ⟨_, lv, h, ho, _⟩ := h
 rw [h.row] at hk
 exact (ho.lt k hk).2
theorem Sr.mv {b : Nat} {s : ByteArray} {σ : Sg} {ts : List Tt} {w : World} (h : Sr b s σ ts w) : ∃ lv, R0 true lv b s (gPos σ) (gBad σ) w /\
 ∀ (σ' : Sg) (w' : World), R0 true lv b s (gPos σ') (gBad σ') w' -> Gb b w w' -> gPos σ' <= s.size -> Sr b s σ' ts w' /\ Fr b w w' := by
 obtain ⟨hp, lv, h0, ho, hn, he⟩ := h
 exact ⟨lv, h0, fun σ' w' h' g hp' => ⟨⟨hp', lv, h', ho.kept g (.inr hn), hn, he⟩, Gb.fr h0 h' g⟩⟩
theorem Sr.alloc {b : Nat} {s : ByteArray} {σ : Sg} {ts : List Tt} {w : World} (h : Sr b s σ ts w) (o : Obj) : Sr b s σ ts (w.alloc o) := by
 obtain ⟨hp, lv, h0, ho, hn, he⟩ := h
 exact ⟨hp, lv, h0.alloc o, ho.alloc o, hn, he⟩
theorem Sr.setFar {b q j : Nat} {s : ByteArray} {σ : Sg} {ts : List Tt} {w : World} {u : Value} (h : Sr b s σ ts w) (hb : q ≠ b) (hr : rowOf b w ≠ some q) : Sr b s σ ts (w.setCell ⟨q, j, none⟩ u) := by
 obtain ⟨hp, lv, h0, ho, hn, he⟩ := h
 refine ⟨hp, lv, ?_, ho.kept (zdy w q j u) (.inr (by rw [<- h0.row]; exact hr)), hn, he⟩
 unfold R0 at *
 rw [Below.heap_setCell _ _ _ _ (Ne.symm hb)]; exact h0
def mustS (s : ByteArray) (c : Nat) : Sg -> Sg
 | .error p => .error p
 | .ok i => if chr s i = c then .ok (i + 1) else .error i
def isS (s : ByteArray) (lo hi : Nat) : Sg -> Bool
 | .error _ => false
 | .ok i => inR (chr s i) lo hi
def gotS (s : ByteArray) (c : Nat) : Sg -> Sg
 | .error p => .error p
 | .ok i => if chr s i = c then .ok (i + 1) else .ok i
def letC (s : ByteArray) : Sg -> Nat
 | .error _ => 0
 | .ok i => if isLet (chr s i) then chr s i else 0
def letS (s : ByteArray) : Sg -> Sg
 | .error p => .error p
 | .ok i => if isLet (chr s i) then .ok (i + 1) else .error i
def kindS (s : ByteArray) : Sg -> Sg
 | .error p => .error p
 | .ok i => match pT s i with
  | .error p => .error p
  | .ok (_, j) => .ok j
def kindT (s : ByteArray) (σ : Sg) (u : Ty) : Prop := ∀ i t j, σ = .ok i -> pT s i = .ok (t, j) -> u = t
def zfn (s : ByteArray) : Sg -> Bool
 | .error _ => false
 | .ok i => zal (chr s i)
theorem smust (b : Nat) (s : ByteArray) (c : Nat) (σ : Sg) (ts : List Tt) (w : World) (h : Sr b s σ ts w) (hs : s.size <= 100000) (h0 : 1 <= c) :
 Calls Tryz.prog 106 #[.pointer (some ⟨b, 0, none⟩), .int .u8 (c : Int)] w fun e w' => e = .returned (.tuple #[]) /\ Sr b s (mustS s c σ) ts w' /\ Fr b w w' := by
 obtain ⟨lv, r0, mv⟩ := h.mv
 have hp := h.1
 cases σ with
 | error p =>
  refine (znh b s p p c w r0).mono ?_
  rintro e w' ⟨rfl, n, rfl⟩
  exact ⟨rfl, mv (.error p) _ (r0.drewN n) ((Gb.refl b w).drewN n) hp⟩
 | ok i =>
  simp only [mustS]
  by_cases hc : chr s i = c
  · rw [if_pos hc]
    refine (zpd b s i c w r0 hs hc h0).mono ?_
    rintro e w' ⟨rfl, h1, k1⟩
    exact ⟨rfl, mv (.ok (i + 1)) _ h1 k1 (zaf (by omega))⟩
  · rw [if_neg hc]
    refine (gmust_no b s i c w r0 hp hs hc h0).mono ?_
    rintro e w' ⟨rfl, h1, k1⟩
    exact ⟨rfl, mv (.error i) _ h1 k1 hp⟩
theorem sis (b : Nat) (s : ByteArray) (lo hi : Nat) (σ : Sg) (ts : List Tt) (w : World) (h : Sr b s σ ts w) (hs : s.size <= 100000) (h0 : 1 <= lo) :
 Calls Tryz.prog 104 #[.pointer (some ⟨b, 0, none⟩), .int .u8 (lo : Int), .int .u8 (hi : Int)] w fun e w' => e = .returned (.bool (isS s lo hi σ)) /\ ∃ n, w' = w.drewN n := by
 obtain ⟨lv, r0, mv⟩ := h.mv
 have hp := h.1
 cases σ with
 | error p => exact zfg true lv b s p p lo hi w r0
 | ok i => exact zbj true lv b s i lo hi w r0 hp hs h0
theorem sgot (b : Nat) (s : ByteArray) (c : Nat) (σ : Sg) (ts : List Tt) (w : World) (h : Sr b s σ ts w) (hs : s.size <= 100000) (h0 : 1 <= c) :
 Calls Tryz.prog 71 #[.pointer (some ⟨b, 0, none⟩), .int .u8 (c : Int)] w fun e w' => e = .returned (.bool (isS s c c σ)) /\ Sr b s (gotS s c σ) ts w' /\ Fr b w w' := by
 obtain ⟨lv, r0, mv⟩ := h.mv
 have hp := h.1
 cases σ with
 | error p =>
  refine (zdp b s p p c w r0).mono ?_
  rintro e w' ⟨rfl, n, rfl⟩
  exact ⟨rfl, mv (.error p) _ (r0.drewN n) ((Gb.refl b w).drewN n) hp⟩
 | ok i =>
  simp only [gotS, isS]
  by_cases hc : chr s i = c
  · rw [if_pos hc, inS.2 hc]
    refine (zfh b s i c w r0 hs hc h0).mono ?_
    rintro e w' ⟨rfl, h1, k1⟩
    exact ⟨rfl, mv (.ok (i + 1)) _ h1 k1 (zaf (by omega))⟩
  · rw [if_neg hc, zcs hc]
    refine (zfc b s i c w r0 hp hs hc h0).mono ?_
    rintro e w' ⟨rfl, n, rfl⟩
    exact ⟨rfl, mv (.ok i) _ (r0.drewN n) ((Gb.refl b w).drewN n) hp⟩
theorem sfail (b : Nat) (s : ByteArray) (i : Nat) (ts : List Tt) (w : World) (h : Sr b s (.ok i) ts w) :
 Calls Tryz.prog 44 #[.pointer (some ⟨b, 0, none⟩)] w fun e w' => e = .returned (.tuple #[]) /\ Sr b s (.error i) ts w' /\ Fr b w w' := by
 obtain ⟨lv, r0, mv⟩ := h.mv
 have hp := h.1
 refine (zfb b s i w r0).mono ?_
 rintro e w' ⟨rfl, h1, k1⟩
 exact ⟨rfl, mv (.error i) _ h1 k1 hp⟩
theorem gletter_yes (lv : Value) (b : Nat) (s : ByteArray) (i : Nat) (w : World) (h : R0 true lv b s i (-1) w) (hs : s.size <= 100000) (hc : isLet (chr s i) = true) :
 Calls Tryz.prog 107 #[.pointer (some ⟨b, 0, none⟩)] w fun e w' => e = .returned (.int .u8 (chr s i)) /\ R0 true lv b s (i + 1) (-1) w' /\ Gb b w w' := by
 have hlt : i < s.size := zaf (by intro e; rw [e] at hc; exact absurd hc (by decide))
 have HR : Hid (inR (chr s i) 97 122 = true) := hc
 have c2 := h.c2
 have f2 := h.fz 2
 have HN : Hid (∀ n, R0 true lv b s (i + 1) (-1) ((w.drewN n).setCell ⟨b, 2, none⟩ (.int .i64 ((i : Int) + 1)))) := h.next
 have hcs : chr s i = s[i].toNat := by simp [chr, hlt]
 have HC : Hid (chr s i = s[i].toNat) := hcs
 clear hc hcs
 go_enter Tryz.func107, Tryz.ntmps107
 go_wp2_with fail
 refine (zbj true lv b s i 97 122 w h (by omega) hs (by decide)).mono ?_
 rintro e w' ⟨rfl, n, rfl⟩
 rw [HR.out]
 have h1 := HN.out n
 have c0' := h1.c0
 have c2' := h1.c2
 go_wp2_with fail
 go_quiet (fail)
 go_wp2_with fail
 go_ret
 rw [HC.out]
 exact ⟨rfl, h1, (((Gb.refl b w).drewN n).setCell 2 _).drewN _⟩
theorem gletter_no (lv : Value) (b : Nat) (s : ByteArray) (i : Nat) (w : World) (h : R0 true lv b s i (-1) w) (hi : i <= s.size) (hs : s.size <= 100000) (hc : isLet (chr s i) = false) :
 Calls Tryz.prog 107 #[.pointer (some ⟨b, 0, none⟩)] w fun e w' => e = .returned (.int .u8 0) /\ R0 true lv b s i i w' /\ Gb b w w' := by
 have HR : Hid (inR (chr s i) 97 122 = false) := hc
 clear hc
 go_enter Tryz.func107, Tryz.ntmps107
 go_wp2_with fail
 refine (zbj true lv b s i 97 122 w h hi hs (by decide)).mono ?_
 rintro e w' ⟨rfl, n, rfl⟩
 rw [HR.out]
 go_wp2_with fail
 refine (zfb b s i _ (h.drewN n)).mono ?_
 rintro e w' ⟨rfl, h1, k1⟩
 go_wp2_with fail
 go_ret
 exact ⟨rfl, h1, ((Gb.refl b w).drewN n).trans k1⟩
theorem zqe (lv : Value) (b : Nat) (s : ByteArray) (i p : Nat) (w : World) (h : R0 true lv b s i p w) :
 Calls Tryz.prog 107 #[.pointer (some ⟨b, 0, none⟩)] w fun e w' => e = .returned (.int .u8 0) /\ ∃ n, w' = w.drewN n := by
 go_enter Tryz.func107, Tryz.ntmps107
 go_wp2_with fail
 refine (zfg true lv b s i p 97 122 w h).mono ?_
 rintro e w' ⟨rfl, n, rfl⟩
 go_wp2_with fail
 refine (zea true lv b s i p _ (h.drewN n)).mono ?_
 rintro e w' ⟨rfl, rfl⟩
 go_wp2_with fail
 go_ret
 exact ⟨rfl, n, rfl⟩
theorem sletter (b : Nat) (s : ByteArray) (σ : Sg) (ts : List Tt) (w : World) (h : Sr b s σ ts w) (hs : s.size <= 100000) :
 Calls Tryz.prog 107 #[.pointer (some ⟨b, 0, none⟩)] w fun e w' => e = .returned (.int .u8 (letC s σ : Int)) /\ Sr b s (letS s σ) ts w' /\ Fr b w w' := by
 obtain ⟨lv, r0, mv⟩ := h.mv
 have hp := h.1
 cases σ with
 | error p =>
  refine (zqe lv b s p p w r0).mono ?_
  rintro e w' ⟨rfl, n, rfl⟩
  exact ⟨rfl, mv (.error p) _ (r0.drewN n) ((Gb.refl b w).drewN n) hp⟩
 | ok i =>
  simp only [letS, letC]
  by_cases hc : isLet (chr s i) = true
  · rw [if_pos hc, if_pos hc]
    refine (gletter_yes lv b s i w r0 hs hc).mono ?_
    rintro e w' ⟨rfl, h1, k1⟩
    exact ⟨rfl, mv (.ok (i + 1)) _ h1 k1 (zaf (by intro e; rw [e] at hc; exact absurd hc (by decide)))⟩
  · rw [if_neg hc, if_neg hc]
    refine (gletter_no lv b s i w r0 hp hs (by simpa using hc)).mono ?_
    rintro e w' ⟨rfl, h1, k1⟩
    exact ⟨rfl, mv (.error i) _ h1 k1 hp⟩
theorem svariable (b : Nat) (s : ByteArray) (i : Nat) (ts : List Tt) (w : World) (h : Sr b s (.ok i) ts w) (hs : s.size <= 100000) (hc : isLet (chr s i) = true) :
 Calls Tryz.prog 105 #[.pointer (some ⟨b, 0, none⟩)] w fun e w' => e = .returned (.int .i64 ((vnum (chr s i) (chr s (i + 1)) + 30 : Nat) : Int)) /\ Sr b s (.ok (vEnd s i)) ts w' /\ Fr b w w' := by
 obtain ⟨lv, r0, mv⟩ := h.mv
 refine (zgh b s i _ _ w r0 hs hc rfl rfl).mono ?_
 rintro e w' ⟨rfl, h1, k1⟩
 exact ⟨rfl, mv (.ok (vEnd s i)) _ h1 k1 (zcm hc).2⟩
end Go.Proofs.YtceadeaodbadlaaGreatDoor
namespace Go.Proofs.YtceadeaodbadlaaGreatDoor
open Go.RowKit
variable {ty : Bool} {lv : Value}
def BKPost (ty : Bool) (lv : Value) (b : Nat) (s : ByteArray) (p : Nat) (w : World) (e : Ending) (w' : World) : Prop :=
 Gb b w w' /\ ∃ g cap, e = .returned (.agg #[.slice (some ⟨g, 0, none⟩) (sz tI) cap]) /\ Rg g tI w' /\ R0 ty lv b s p p w'
theorem runit_bad (b : Nat) (s : ByteArray) (p : Nat) (w : World) (h : R0 ty lv b s p p w) :
 Calls Tryz.prog 70 #[.pointer (some ⟨b, 0, none⟩)] w (BKPost ty lv b s p w) := by
 have hlt := h.lt
 have LF : ∀ w1, Calls Tryz.prog 40 #[.int .i64 73] w1 (TPost tI w1) := fun w1 => zcc 0 0 (by decide) okI w1
 go_enter Tryz.func70, Tryz.ntmps70
 go_wp2_with fail
 refine (zfg ty lv b s p p 97 122 _ (h.alloc zan)).mono ?_
 rintro e w' ⟨rfl, d, rfl⟩
 go_wp2_with fail
 refine (zfg ty lv b s p p 73 73 _ ((h.alloc zan).drewN d)).mono ?_
 rintro e w' ⟨rfl, d1, rfl⟩
 go_wp2_with fail
 refine (zfg ty lv b s p p 66 66 _ ((h.alloc zan).drewN _)).mono ?_
 rintro e w' ⟨rfl, d2, rfl⟩
 go_wp2_with fail
 refine (zdp b s p p 91 _ ((h.alloc zan).drewN _)).mono ?_
 rintro e w' ⟨rfl, d3, rfl⟩
 go_wp2_with fail
 refine (zdp b s p p 40 _ ((h.alloc zan).drewN _)).mono ?_
 rintro e w' ⟨rfl, d4, rfl⟩
 go_wp2_with fail
 refine (zea ty lv b s p p _ ((h.alloc zan).drewN _)).mono ?_
 rintro e w1 ⟨rfl, rfl⟩
 go_wp2_with fail
 refine (LF _).mono ?_
 rintro e w2 ⟨g2, cap2, rfl, R2, hg2, b2⟩
 have G1 : Gb b (w.alloc zan) w2 := ((Gb.refl b (w.alloc zan)).drewN _).trans ⟨b2.os, b2.tape, b2.output, b2.size, fun k hk _ => b2.block k hk⟩
 have hbx := zer G1 hlt
 have cb := zab hbx
 have fb := zae hbx
 have R02 := ((h.alloc zan).drewN _).below b2
 go_wp2_with fail
 refine zag rfl rfl (zac hbx) ?_
 exact ⟨zfm G1 _, g2, cap2, rfl, R2.setBox (R2.neBox hbx) _, R02.setFar (by omega) _⟩
theorem rkind_bad (b : Nat) (s : ByteArray) (p : Nat) (w : World) (h : R0 ty lv b s p p w) :
 Calls Tryz.prog 43 #[.pointer (some ⟨b, 0, none⟩)] w (BKPost ty lv b s p w) := by
 have hlt := h.lt
 go_enter Tryz.func43, Tryz.ntmps43
 go_wp2_with fail
 refine (runit_bad b s p _ (h.alloc zan)).mono ?_
 rintro e w1 ⟨G1, gu, cap, rfl, R1, k1⟩
 have hq1 : w.heap.size + 1 <= w1.heap.size := by have := G1.size; simpa using this
 have hb1 : b < w1.heap.size := k1.lt
 go_wp2_with fail
 go_loopw [8] (fun _ wr => wr.heap[w1.heap.size]? = some (.cells #[.slice (some ⟨gu, 0, none⟩) (sz tI) cap] 33 (0, 0)) /\ Rg gu tI wr /\ Gb b (w.alloc zan) wr /\ R0 ty lv b s p p wr) (fun _ wr => 0)
 case atStart => exact ⟨heap_alloc_new w1 _, R1.alloc _, G1.alloc _, k1.alloc _⟩
 case round =>
  obtain ⟨bx, R, G, hr⟩ := hrel
  have rbx := zer G hlt
  have cb := zab bx
  have rcb := zab rbx
  have rfb := zae rbx
  go_wp2_with fail
  refine (zdp b s p p 42 _ hr).mono ?_
  rintro e w2 ⟨rfl, d, rfl⟩
  go_wp2_with fail
  refine (zdp b s p p 62 _ (hr.drewN d)).mono ?_
  rintro e w2 ⟨rfl, d2, rfl⟩
  go_wp2_with fail
  refine zag rfl rfl (zac rbx) ?_
  exact ⟨zfm (G.drewN _) _, gu, cap, rfl, (R.gb (zfq (b := b) _) (R.ne hr)).setBox (R.neBox rbx) _, (hr.drewN _).setFar (by omega) _⟩
theorem skind (b : Nat) (s : ByteArray) (σ : Sg) (ts : List Tt) (w : World) (h : Sr b s σ ts w) (hs : s.size <= 60000) :
 Calls Tryz.prog 43 #[.pointer (some ⟨b, 0, none⟩)] w fun e w' => ∃ g cap u, e = .returned (.agg #[.slice (some ⟨g, 0, none⟩) (sz u) cap]) /\ Rg g u w' /\ sz u <= s.size + 1 /\ kindT s σ u /\ Sr b s (kindS s σ) ts w' /\ Fr b w w' := by
 obtain ⟨lv, r0, mv⟩ := h.mv
 have hp := h.1
 cases σ with
 | error p =>
  refine (rkind_bad b s p w r0).mono ?_
  rintro e w' ⟨G, g, cap, rfl, R, k⟩
  exact ⟨g, cap, tI, rfl, R, by show 1 <= _; omega, (fun i t j hi => by cases hi), mv (.error p) _ k G hp⟩
 | ok i =>
  have hE : zce true lv b s (3 * s.size + 3) := (zkz b s hs (3 * s.size + 3) _ (Nat.le_refl _)).1
  refine (hE i w r0 hp (by omega)).mono ?_
  intro e w' hq
  have hpl : ∀ t j, pT s i = .ok (t, j) -> j <= s.size := fun t j e => (zcb e hp).2.1
  obtain ⟨G, hq⟩ := hq
  simp only [kindS]
  unfold pT at *
  cases hr : pt s (3 * s.size + 3) 0 i .nil with
  | error p =>
   rw [hr] at hq
   obtain ⟨g, cap, u, rfl, R, z1, z2, z3, k⟩ := hq
   exact ⟨g, cap, u, rfl, R, by omega, (fun i' t j hi hq' => by cases hi; unfold pT at hq'; rw [hr] at hq'; cases hq'), mv (.error p) _ k G z3⟩
  | ok r =>
   obtain ⟨t, j⟩ := r
   rw [hr] at hq
   obtain ⟨g, cap, rfl, R, z1, k⟩ := hq
   have hj := hpl t j hr
   exact ⟨g, cap, t, rfl, R, by omega, (fun i' t' j' hi hq' => by cases hi; unfold pT at hq'; rw [hr] at hq'; cases hq'; rfl), mv (.ok j) _ k G hj⟩
end Go.Proofs.YtceadeaodbadlaaGreatDoor
namespace Go.Proofs.YtceadeaodbadlaaGreatDoor
open Go.RowKit
variable {lv : Value}
theorem zbt (c : Nat) (w : World) :
 Calls Tryz.prog 108 #[.int .u8 (c : Int)] w fun e w' => ∃ x y, e = .returned (.tuple #[.string x, .string y, .bool (isCon c)]) /\ w' = w := by
 by_cases h78 : c = 78
 · subst h78
   go_enter Tryz.func108, Tryz.ntmps108
   go_wp2
   go_ret3
   exact ⟨_, _, rfl, rfl⟩
 have e78 : ((c : Int) == 78) = false := by rw [beq_eq_false_iff_ne]; omega
 by_cases h67 : c = 67
 · subst h67
   go_enter Tryz.func108, Tryz.ntmps108
   go_wp2
   go_ret3
   exact ⟨_, _, rfl, rfl⟩
 have e67 : ((c : Int) == 67) = false := by rw [beq_eq_false_iff_ne]; omega
 by_cases h80 : c = 80
 · subst h80
   go_enter Tryz.func108, Tryz.ntmps108
   go_wp2
   go_ret3
   exact ⟨_, _, rfl, rfl⟩
 have e80 : ((c : Int) == 80) = false := by rw [beq_eq_false_iff_ne]; omega
 by_cases h76 : c = 76
 · subst h76
   go_enter Tryz.func108, Tryz.ntmps108
   go_wp2
   go_ret3
   exact ⟨_, _, rfl, rfl⟩
 have e76 : ((c : Int) == 76) = false := by rw [beq_eq_false_iff_ne]; omega
 by_cases h82 : c = 82
 · subst h82
   go_enter Tryz.func108, Tryz.ntmps108
   go_wp2
   go_ret3
   exact ⟨_, _, rfl, rfl⟩
 have e82 : ((c : Int) == 82) = false := by rw [beq_eq_false_iff_ne]; omega
 by_cases h74 : c = 74
 · subst h74
   go_enter Tryz.func108, Tryz.ntmps108
   go_wp2
   go_ret3
   exact ⟨_, _, rfl, rfl⟩
 have e74 : ((c : Int) == 74) = false := by rw [beq_eq_false_iff_ne]; omega
 by_cases h69 : c = 69
 · subst h69
   go_enter Tryz.func108, Tryz.ntmps108
   go_wp2
   go_ret3
   exact ⟨_, _, rfl, rfl⟩
 have e69 : ((c : Int) == 69) = false := by rw [beq_eq_false_iff_ne]; omega
 by_cases h65 : c = 65
 · subst h65
   go_enter Tryz.func108, Tryz.ntmps108
   go_wp2
   go_ret3
   exact ⟨_, _, rfl, rfl⟩
 have e65 : ((c : Int) == 65) = false := by rw [beq_eq_false_iff_ne]; omega
 by_cases h89 : c = 89
 · subst h89
   go_enter Tryz.func108, Tryz.ntmps108
   go_wp2
   go_ret3
   exact ⟨_, _, rfl, rfl⟩
 have e89 : ((c : Int) == 89) = false := by rw [beq_eq_false_iff_ne]; omega
 by_cases h68 : c = 68
 · subst h68
   go_enter Tryz.func108, Tryz.ntmps108
   go_wp2
   go_ret3
   exact ⟨_, _, rfl, rfl⟩
 have e68 : ((c : Int) == 68) = false := by rw [beq_eq_false_iff_ne]; omega
 have hr : isCon c = false := by simp [isCon]; omega
 rw [hr]
 clear hr h78 h67 h80 h76 h82 h74 h69 h65 h89 h68
 go_enter Tryz.func108, Tryz.ntmps108
 go_wp2
 go_ret3
 exact ⟨_, _, rfl, rfl⟩
theorem tstarts_bad (b : Nat) (s : ByteArray) (i p : Nat) (w : World) (h : R0 true lv b s i p w) :
 Calls Tryz.prog 77 #[.pointer (some ⟨b, 0, none⟩)] w fun e w' => e = .returned (.bool false) /\ ∃ n, w' = w.drewN n := by
 have h3 := h.c3
 have hd : decide ((0 : Int) <= (p : Int)) = true := by simp
 go_enter Tryz.func77, Tryz.ntmps77
 go_wp2
 go_quiet (fail)
 go_wp2
 go_ret
 exact ⟨rfl, _, rfl⟩
theorem tstarts_end (b : Nat) (s : ByteArray) (w : World) (h : R0 true lv b s s.size (-1) w) :
 Calls Tryz.prog 77 #[.pointer (some ⟨b, 0, none⟩)] w fun e w' => e = .returned (.bool false) /\ ∃ n, w' = w.drewN n := by
 have h0 := h.c0
 have h2 := h.c2
 have h3 := h.c3
 go_enter Tryz.func77, Tryz.ntmps77
 go_wp2
 go_quiet (fail)
 go_wp2
 go_ret
 exact ⟨rfl, _, rfl⟩
theorem tstarts_in (b : Nat) (s : ByteArray) (i : Nat) (w : World) (h : R0 true lv b s i (-1) w) (hlt : i < s.size) (hs : s.size <= 100000) :
 Calls Tryz.prog 77 #[.pointer (some ⟨b, 0, none⟩)] w fun e w' => e = .returned (.bool (zal (chr s i))) /\ ∃ n, w' = w.drewN n := by
 have h0 := h.c0
 have h2 := h.c2
 have h3 := h.c3
 have hd : decide ((s.size : Int) <= (i : Int)) = false := by simp; omega
 have hd' : decide (s.size <= i) = false := by simp; omega
 have hcs : chr s i = s[i].toNat := by simp [chr, hlt]
 rw [hcs]
 clear hcs h
 have hl : s[i].toNat < 256 := s[i].toNat_lt
 generalize hg : s[i].toNat = c at *
 cases hcon : isCon c
 · have HC : Hid (isCon c = false) := hcon
   by_cases h1 : 97 <= c /\ c <= 122
   · have HB : Hid (zal c = true) := by unfold Hid; simp [zal, isLet, h1.1, h1.2]
     have d1 : decide ((97 : Int) <= (c : Int)) = true := by simp; omega
     have d2 : decide ((c : Int) <= 122) = true := by simp; omega
     clear hcon h1
     go_enter Tryz.func77, Tryz.ntmps77
     go_wp2_with fail
     go_quiet (fail)
     go_wp2_with fail
     go_quiet (fail)
     go_wp2_with fail
     refine (zbt c _).mono ?_
     rintro e w' ⟨x, y, rfl, rfl⟩
     rw [HC.out]
     go_wp2_with fail
     go_ret
     exact ⟨by rw [HB.out]; first | rfl | simp, _, rfl⟩
   by_cases h2 : 48 <= c /\ c <= 57
   · have HB : Hid (zal c = true) := by unfold Hid; simp [zal, isLit, h2.1, h2.2]
     have d1 : decide ((97 : Int) <= (c : Int)) = false := by simp; omega
     have d3 : decide ((48 : Int) <= (c : Int)) = true := by simp; omega
     have d4 : decide ((c : Int) <= 57) = true := by simp; omega
     clear hcon h1 h2
     go_enter Tryz.func77, Tryz.ntmps77
     go_wp2_with fail
     go_quiet (fail)
     go_wp2_with fail
     go_quiet (fail)
     go_wp2_with fail
     refine (zbt c _).mono ?_
     rintro e w' ⟨x, y, rfl, rfl⟩
     rw [HC.out]
     go_wp2_with fail
     go_ret
     exact ⟨by rw [HB.out]; first | rfl | simp, _, rfl⟩
   by_cases h84 : c = 84
   · have HB : Hid (zal c = true) := by unfold Hid; simp [zal, isLit, h84]
     have HC' : Hid (isCon c = false) := HC
     clear hcon h1 h2
     subst h84
     go_enter Tryz.func77, Tryz.ntmps77
     go_wp2_with fail
     go_quiet (fail)
     go_wp2_with fail
     go_quiet (fail)
     go_wp2_with fail
     refine (zbt 84 _).mono ?_
     rintro e w' ⟨x, y, rfl, rfl⟩
     rw [HC.out]
     go_wp2_with fail
     go_ret
     exact ⟨by rw [HB.out]; first | rfl | simp, _, rfl⟩
   by_cases h70 : c = 70
   · have HB : Hid (zal c = true) := by unfold Hid; simp [zal, isLit, h70]
     have HC' : Hid (isCon c = false) := HC
     clear hcon h1 h2
     subst h70
     go_enter Tryz.func77, Tryz.ntmps77
     go_wp2_with fail
     go_quiet (fail)
     go_wp2_with fail
     go_quiet (fail)
     go_wp2_with fail
     refine (zbt 70 _).mono ?_
     rintro e w' ⟨x, y, rfl, rfl⟩
     rw [HC.out]
     go_wp2_with fail
     go_ret
     exact ⟨by rw [HB.out]; first | rfl | simp, _, rfl⟩
   by_cases h40 : c = 40
   · have HB : Hid (zal c = true) := by unfold Hid; simp [zal, isLit, h40]
     have HC' : Hid (isCon c = false) := HC
     clear hcon h1 h2
     subst h40
     go_enter Tryz.func77, Tryz.ntmps77
     go_wp2_with fail
     go_quiet (fail)
     go_wp2_with fail
     go_quiet (fail)
     go_wp2_with fail
     refine (zbt 40 _).mono ?_
     rintro e w' ⟨x, y, rfl, rfl⟩
     rw [HC.out]
     go_wp2_with fail
     go_ret
     exact ⟨by rw [HB.out]; first | rfl | simp, _, rfl⟩
   have HB : Hid (zal c = false) := by unfold Hid; simp [zal, isLet, isLit, hcon]; omega
   have d5 : ((c : Int) == 84) = false := by rw [beq_eq_false_iff_ne]; omega
   have d6 : ((c : Int) == 70) = false := by rw [beq_eq_false_iff_ne]; omega
   have d7 : ((c : Int) == 40) = false := by rw [beq_eq_false_iff_ne]; omega
   by_cases h3 : 97 <= c
   · have d1 : decide ((97 : Int) <= (c : Int)) = true := by simp; omega
     have d2 : decide ((c : Int) <= 122) = false := by simp; omega
     have d3 : decide ((48 : Int) <= (c : Int)) = true := by simp; omega
     have d4 : decide ((c : Int) <= 57) = false := by simp; omega
     clear hcon h1 h2 h84 h70 h40
     go_enter Tryz.func77, Tryz.ntmps77
     go_wp2_with fail
     go_quiet (fail)
     go_wp2_with fail
     go_quiet (fail)
     go_wp2_with fail
     refine (zbt c _).mono ?_
     rintro e w' ⟨x, y, rfl, rfl⟩
     rw [HC.out]
     go_wp2_with fail
     go_ret
     exact ⟨by rw [HB.out]; first | rfl | simp, _, rfl⟩
   · have d1 : decide ((97 : Int) <= (c : Int)) = false := by simp; omega
     by_cases h4 : 48 <= c
     · have d3 : decide ((48 : Int) <= (c : Int)) = true := by simp; omega
       have d4 : decide ((c : Int) <= 57) = false := by simp; omega
       clear hcon h1 h2 h84 h70 h40
       go_enter Tryz.func77, Tryz.ntmps77
       go_wp2_with fail
       go_quiet (fail)
       go_wp2_with fail
       go_quiet (fail)
       go_wp2_with fail
       refine (zbt c _).mono ?_
       rintro e w' ⟨x, y, rfl, rfl⟩
       rw [HC.out]
       go_wp2_with fail
       go_ret
       exact ⟨by rw [HB.out]; first | rfl | simp, _, rfl⟩
     · have d3 : decide ((48 : Int) <= (c : Int)) = false := by simp; omega
       clear hcon h1 h2 h84 h70 h40
       go_enter Tryz.func77, Tryz.ntmps77
       go_wp2_with fail
       go_quiet (fail)
       go_wp2_with fail
       go_quiet (fail)
       go_wp2_with fail
       refine (zbt c _).mono ?_
       rintro e w' ⟨x, y, rfl, rfl⟩
       rw [HC.out]
       go_wp2_with fail
       go_ret
       exact ⟨by rw [HB.out]; first | rfl | simp, _, rfl⟩
 · have HC : Hid (isCon c = true) := hcon
   have HB : Hid (zal c = true) := by unfold Hid; simp [zal, hcon]
   clear hcon
   go_enter Tryz.func77, Tryz.ntmps77
   go_wp2_with fail
   go_quiet (fail)
   go_wp2_with fail
   go_quiet (fail)
   go_wp2_with fail
   refine (zbt c _).mono ?_
   rintro e w' ⟨x, y, rfl, rfl⟩
   rw [HC.out]
   go_wp2_with fail
   go_ret
   exact ⟨by rw [HB.out]; first | rfl | simp, _, rfl⟩
theorem zds (b : Nat) (s : ByteArray) (σ : Sg) (ts : List Tt) (w : World) (h : Sr b s σ ts w) (hs : s.size <= 100000) :
 Calls Tryz.prog 77 #[.pointer (some ⟨b, 0, none⟩)] w fun e w' => e = .returned (.bool (zfn s σ)) /\ ∃ n, w' = w.drewN n := by
 obtain ⟨lv, r0, mv⟩ := h.mv
 have hp := h.1
 cases σ with
 | error p => exact tstarts_bad b s p p w r0
 | ok i =>
  show Calls _ _ _ _ fun e w' => e = .returned (.bool (zal (chr s i))) /\ ∃ n, w' = w.drewN n
  by_cases hlt : i < s.size
  · exact tstarts_in b s i w r0 hlt hs
  · obtain rfl : i = s.size := Nat.le_antisymm hp (by omega)
    have : zal (chr s s.size) = false := by simp [chr]; decide
    rw [this]
    exact tstarts_end b s w r0
end Go.Proofs.YtceadeaodbadlaaGreatDoor
namespace Go.Proofs.YtceadeaodbadlaaGreatDoor
open Go.RowKit
theorem tinfoTerm : (Tryz.prog.info? 76).map (fun i => (i.zero, i.size, i.bytes)) = some (some (.agg #[.int .u8 0, .int .u8 0, .int .i64 0, .int .i64 0, .slice none 0 0, .slice none 0 0, .slice none 0 0, .int .i64 0, .int .i64 0]), 9, 112) := by kernel_rfl
theorem zir {w w1 : World} {A A' : Obj} {row : Option Nat} (hg : ((w.alloc A).alloc A').drew.grownBy w1 row) {b : Nat} {o : Obj} (hb : w.heap[b]? = some o) (hne : row ≠ some b) : w1.heap[b]? = some o := by
 have hlt : b < w.heap.size := (Array.getElem?_eq_some_iff.1 hb).1
 rw [hg.block b (by show b < ((w.alloc A).alloc A').heap.size; simp; omega) (Ne.symm hne)]
 show ((w.alloc A).alloc A').heap[b]? = some o
 rw [Below.heap_alloc _ _ _ (by simp; omega), Below.heap_alloc _ _ _ hlt]; exact hb
theorem zei {w : World} {b j : Nat} {cs : Array Value} {T : TypeId} {fz : Nat × Nat} (hb : w.heap[b]? = some (.cells cs T fz)) : w.cell? ⟨b, j, none⟩ = cs[j]? := by simp [World.cell?, hb]
theorem zek {w : World} {b j : Nat} {cs : Array Value} {T : TypeId} (hb : w.heap[b]? = some (.cells cs T (0, 0))) : w.frozen? ⟨b, j, none⟩ = false := by simp [World.frozen?, hb]
theorem tadd_state {b : Nat} {s : ByteArray} {σ : Sg} {ts : List Tt} {v : Value} {w w1 : World} {t : Tt} {A A' : Obj} {gg cap : Nat} (hp : gPos σ <= s.size) (h : R0 true v b s (gPos σ) (gBad σ) w) (hne : v.ownBlock ≠ some b)
 (hown1 : w1.ownsRow b 76 9 (.slice (some ⟨gg, 0, none⟩) (ts.length + 1) cap) (ts.length + 1) (tflat ts ++ t.cells)) (hgrow : ((w.alloc A).alloc A').drew.grownBy w1 v.ownBlock) (hat : v.ownBlock = some gg \/ gg = w.heap.size + 2) :
 Sr b s σ (ts ++ [t]) (w1.setCell ⟨b, 4, none⟩ (.slice (some ⟨gg, 0, none⟩) (ts.length + 1) cap)) /\ Fr b w (w1.setCell ⟨b, 4, none⟩ (.slice (some ⟨gg, 0, none⟩) (ts.length + 1) cap)) := by
 have hlt : b < w.heap.size := h.lt
 have hb1 := zir hgrow h hne
 have hgb : gg ≠ b := by
  rcases hat with e | e
  · intro e'; exact hne (by rw [e, e'])
  · omega
 have hst : R0 true (.slice (some ⟨gg, 0, none⟩) (ts.length + 1) cap) b s (gPos σ) (gBad σ) (w1.setCell ⟨b, 4, none⟩ (.slice (some ⟨gg, 0, none⟩) (ts.length + 1) cap)) := by
  unfold R0
  simp [World.setCell, Array.getElem?_modify, hb1]
 refine ⟨⟨hp, _, hst, ?_, by simp [Value.ownBlock, hgb], fun e => by simp at e⟩, hgrow.os, hgrow.tape, hgrow.output, ?_, fun k hk hkb hkr => ?_, ?_⟩
 · have e1 : tflat (ts ++ [t]) = tflat ts ++ t.cells := by rw [zol]; simp [tflat]
   rw [e1, List.length_append]
   exact hown1.kept (zdy w1 b 4 _) (.inr (by simp [Value.ownBlock, hgb]))
 · have := hgrow.size
   have e : ((w.alloc A).alloc A').drew.heap.size = w.heap.size + 2 := by show ((w.alloc A).alloc A').heap.size = _; simp
   simp only [World.setCell, Array.size_modify]
   omega
 · rw [Below.heap_setCell _ _ _ _ hkb]
   rw [h.row] at hkr
   rw [hgrow.block k (by show k < ((w.alloc A).alloc A').heap.size; simp; omega) hkr]
   show ((w.alloc A).alloc A').heap[k]? = _
   rw [Below.heap_alloc _ _ _ (by simp; omega), Below.heap_alloc _ _ _ hk]
 · rw [hst.row, h.row]
   rcases hat with e | e
   · exact .inl e.symm
   · exact .inr ⟨gg, rfl, by omega⟩
abbrev ttA (op c a b : Nat) (ga va pa : Option Addr) (gn gc vn vc pn pc at' tu : Nat) : Array Value := #[.int .u8 (op : Int), .int .u8 (c : Int), .int .i64 (a : Int), .int .i64 (b : Int), .slice ga gn gc, .slice va vn vc, .slice pa pn pc, .int .i64 (at' : Int), .int .i64 (tu : Int)]
abbrev ttO (op c a b : Nat) (ga va pa : Option Addr) (gn gc vn vc pn pc at' tu : Nat) : Obj := .cells (ttA op c a b ga va pa gn gc vn vc pn pc at' tu) 76
theorem tadd_raw (b : Nat) (s : ByteArray) (σ : Sg) (ts : List Tt) (v : Value) (w : World) (op c ta tb : Nat) (ga va pa : Option Addr) (gn gc vn vc pn pc tat tto : Nat) (hp : gPos σ <= s.size) (h : R0 true v b s (gPos σ) (gBad σ) w) (hown : w.ownsRow b 76 9 v ts.length (tflat ts)) (hne : v.ownBlock ≠ some b) (hn : ts.length <= 1000000) :
 Calls Tryz.prog 73 #[.pointer (some ⟨b, 0, none⟩), .agg (ttA op c ta tb ga va pa gn gc vn vc pn pc tat tto)] w
  fun e w' => e = .returned (.int .i64 (ts.length : Int)) /\ Sr b s σ (ts ++ [⟨op, c, ta, tb, (ga, gn, gc), (va, vn, vc), (pa, pn, pc), tat, tto⟩]) w' /\ Fr b w w' := by
 obtain ⟨i0, hi0, hz0, hz1, hz2⟩ := info_parts tinfoTerm
 have c4 : w.cell? ⟨b, 4, none⟩ = some v := cbl h
 have lg := World.block_lt_of_cell? w _ c4
 have hnb : ((w.alloc (ttO op c ta tb ga va pa gn gc vn vc pn pc tat tto)).alloc (ttO op c ta tb ga va pa gn gc vn vc pn pc tat tto)).drew.heap[w.heap.size + 1]? = some (.cells (ttA op c ta tb ga va pa gn gc vn vc pn pc tat tto) 76 (0, 0)) := by
  have e1 : (w.alloc (ttO op c ta tb ga va pa gn gc vn vc pn pc tat tto)).heap.size = w.heap.size + 1 := by simp
  rw [<- e1]
  exact heap_alloc_new (w.alloc (ttO op c ta tb ga va pa gn gc vn vc pn pc tat tto)) (ttO op c ta tb ga va pa gn gc vn vc pn pc tat tto)
 have hnews := World.news_of_block hnb
 have HN : Hid (∀ j u, (Tt.cells ⟨op, c, ta, tb, (ga, gn, gc), (va, vn, vc), (pa, pn, pc), tat, tto⟩)[j]? = some u -> ((w.alloc (ttO op c ta tb ga va pa gn gc vn vc pn pc tat tto)).alloc (ttO op c ta tb ga va pa gn gc vn vc pn pc tat tto)).drew.cell? ((⟨w.heap.size + 1, 0, none⟩ : Addr).add j) = some u) := hnews
 clear hnb hnews
 go_enter Tryz.func73, Tryz.ntmps73
 go_wp2_with fail
 go_region_law ((refine step_append_lies _ (by rfl) _ _ _ (by rfl) b 76 i0 _ 9 112 Tryz.underlying43 hi0 hz0 hz1 hz2 rfl (by omega) v ts.length (tflat ts) (by rfl) (((hown.alloc _).alloc _).drew) ⟨w.heap.size + 1, 0, none⟩ 1 1 (Tt.cells ⟨op, c, ta, tb, (ga, gn, gc), (va, vn, vc), (pa, pn, pc), tat, tto⟩) (by rfl) (by rfl) HN.out (by simp [Value.oneCell', Tt.cells]) (by omega) (by unfold maxLen; omega) (by omega) (by simp; omega) (w.heap.size + 2) (by simp) ?_; intro gg cap w1 hown1 hgrow hat hlt; have k4 : w1.cell? ⟨b, 4, none⟩ = some v := (zei (zir hgrow h hne)); have kf : w1.frozen? ⟨b, 4, none⟩ = false := zek (zir hgrow h hne)))
 all_goals
  go_wp2
  go_ret
  exact ⟨by simp, tadd_state hp h hne hown1 hgrow hat⟩
theorem tadd (b : Nat) (s : ByteArray) (σ : Sg) (ts : List Tt) (w : World) (op c ta tb : Nat) (ga va pa : Option Addr) (gn gc vn vc pn pc tat tto : Nat) (h : Sr b s σ ts w) (hn : ts.length <= 1000000) :
 Calls Tryz.prog 73 #[.pointer (some ⟨b, 0, none⟩), .agg (ttA op c ta tb ga va pa gn gc vn vc pn pc tat tto)] w
  fun e w' => e = .returned (.int .i64 (ts.length : Int)) /\ Sr b s σ (ts ++ [⟨op, c, ta, tb, (ga, gn, gc), (va, vn, vc), (pa, pn, pc), tat, tto⟩]) w' /\ Fr b w w' := by
 obtain ⟨hp, v, h0, ho, hne, he⟩ := h
 exact tadd_raw b s σ ts v w op c ta tb ga va pa gn gc vn vc pn pc tat tto hp h0 ho hne hn
theorem zic (g j : Nat) : (⟨g, 0, none⟩ : Addr).add j = ⟨g, j, none⟩ := by unfold Addr.add; split <;> simp_all
def Sd (w : World) (ts : List Tt) : Ex -> Nat -> Prop
 | .nil, _ => False
 | .node t _ x a b, k => ∃ u, ts[k]? = some u /\
  ((t <= 1 /\ u.op = 120 /\ u.c = x.c /\ u.at' = x.p /\ Ls w (slV u.g) x.g) \/
   (t = 2 /\ u.op = 48 /\ u.c = x.c) \/
   (t = 3 /\ u.op = 92 /\ u.c = x.c /\ u.at' = x.p /\ Ls w (slV u.g) x.g /\ u.a < k /\ Sd w ts a u.a) \/
   (t = 4 /\ u.op = 64 /\ (u.c = x.c /\ u.v.2.1 <= u.v.2.2) /\ Is w (slV u.v) (x.v.map (·.1 + 30)) /\ Is w (slV u.p) (x.v.map (·.2)) /\ u.a < k /\ u.b < k /\ Sd w ts a u.a /\ Sd w ts b u.b) \/
   (t = 5 /\ u.op = 99 /\ (u.c = 0 /\ u.tu = x.p) /\ u.a < k /\ u.b < k /\ Sd w ts a u.a /\ Sd w ts b u.b))
theorem Sd.more {w : World} {ts : List Tt} (us : List Tt) : ∀ {x : Ex} {k : Nat}, Sd w ts x k -> Sd w (ts ++ us) x k := by
 intro x
 induction x with
 | nil => intro k h; exact h
 | node t o x a b iha ihb =>
  rintro k ⟨u, hu, h⟩
  refine ⟨u, by rw [List.getElem?_append_left (List.getElem?_eq_some_iff.1 hu).1]; exact hu, ?_⟩
  rcases h with h | h | ⟨h1, h2, h3, h4, h5, h6, h7⟩ | ⟨h1, h2, h3, h4, h5, h6, h7, h8, h9⟩ | ⟨h1, h2, h3, h4, h5, h6, h7⟩
  · exact .inl h
  · exact .inr (.inl h)
  · exact .inr (.inr (.inl ⟨h1, h2, h3, h4, h5, h6, iha h7⟩))
  · exact .inr (.inr (.inr (.inl ⟨h1, h2, h3, h4, h5, h6, h7, iha h8, ihb h9⟩)))
  · exact .inr (.inr (.inr (.inr ⟨h1, h2, h3, h4, h5, iha h6, ihb h7⟩)))
theorem Sd.kept {w w' : World} {ts : List Tt} (hi : ∀ V l, Is w V l -> Is w' V l) (hl : ∀ V l, Ls w V l -> Ls w' V l) : ∀ {x : Ex} {k : Nat}, Sd w ts x k -> Sd w' ts x k := by
 intro x
 induction x with
 | nil => intro k h; exact h
 | node t o x a b iha ihb =>
  rintro k ⟨u, hu, h⟩
  refine ⟨u, hu, ?_⟩
  rcases h with ⟨h1, h2, h3, h4, h5⟩ | h | ⟨h1, h2, h3, h4, h5, h6, h7⟩ | ⟨h1, h2, h3, h4, h5, h6, h7, h8, h9⟩ | ⟨h1, h2, h3, h4, h5, h6, h7⟩
  · exact .inl ⟨h1, h2, h3, h4, hl _ _ h5⟩
  · exact .inr (.inl h)
  · exact .inr (.inr (.inl ⟨h1, h2, h3, h4, hl _ _ h5, h6, iha h7⟩))
  · exact .inr (.inr (.inr (.inl ⟨h1, h2, h3, hi _ _ h4, hi _ _ h5, h6, h7, iha h8, ihb h9⟩)))
  · exact .inr (.inr (.inr (.inr ⟨h1, h2, h3, h4, h5, iha h6, ihb h7⟩)))
theorem Sd.lt {w : World} {ts : List Tt} {x : Ex} {k : Nat} (h : Sd w ts x k) : k < ts.length := by
 cases x with
 | nil => exact h.elim
 | node t o x a b => obtain ⟨u, hu, _⟩ := h; exact (List.getElem?_eq_some_iff.1 hu).1
theorem Sr.apart {b : Nat} {s : ByteArray} {σ : Sg} {ts : List Tt} {w : World} (h : Sr b s σ ts w) {g : Nat} {v : Value} (hc : w.cell? ⟨g, 0, none⟩ = some v) (h1 : ∀ x, v ≠ .string x) (h2 : ∀ z, v ≠ .int .u8 z) : g ≠ b /\ some g ≠ rowOf b w := by
 obtain ⟨_, lv, h0, ho, hn, he⟩ := h
 refine ⟨?_, ?_⟩
 · rintro rfl
   rw [h0.c0] at hc
   exact h1 _ (Option.some.inj hc).symm
 · intro e
   rw [h0.row] at e
   cases ts with
   | nil => rw [he rfl] at e; cases e
   | cons t ts =>
    have := ho.cells e.symm 0 (.int .u8 (t.op : Int)) rfl
    rw [show (⟨g, 0, none⟩ : Addr).add 0 = ⟨g, 0, none⟩ from rfl, hc] at this
    exact h2 _ (Option.some.inj this)
theorem Fr.at {b g : Nat} {w w' : World} (F : Fr b w w') (hl : g < w.heap.size) (h : g ≠ b /\ some g ≠ rowOf b w) (j : Nat) : w'.cell? ⟨g, j, none⟩ = w.cell? ⟨g, j, none⟩ := World.cell?_of_block (w := w) (a := ⟨g, j, none⟩) (F.block g hl h.1 h.2)
theorem Rg.fr {b : Nat} {s : ByteArray} {σ : Sg} {ts : List Tt} {w w' : World} {g : Nat} {t : Ty} (h : Rg g t w) (hS : Sr b s σ ts w) (F : Fr b w w') : Rg g t w' := by
 have hp := zau h.ok
 obtain ⟨n, hn⟩ : ∃ n, (nd t 0)[0]? = some n := ⟨_, List.getElem?_eq_getElem (by rw [zaj]; omega)⟩
 have hc := (h.cell 0 n hn).1
 rw [Nat.zero_mul] at hc
 have ha := hS.apart hc (by simp) (by simp)
 exact ⟨h.ok, Nat.lt_of_lt_of_le h.lt F.size, fun k n hk => by rw [F.at h.lt ha, F.at h.lt ha, F.at h.lt ha]; exact h.cell k n hk⟩
theorem Is.fr {b : Nat} {s : ByteArray} {σ : Sg} {ts : List Tt} {w w' : World} {V : Value} {l : List Nat} (h : Is w V l) (hS : Sr b s σ ts w) (F : Fr b w w') : Is w' V l := by
 obtain ⟨a, cap, rfl, h⟩ := h
 refine ⟨a, cap, rfl, ?_⟩
 rcases h with h | ⟨g, rfl, hg, hc⟩
 · exact .inl h
 · cases l with
   | nil => exact .inl rfl
   | cons n l =>
    have ha := hS.apart (hc 0 n rfl) (by simp) (by simp)
    exact .inr ⟨g, rfl, Nat.lt_of_lt_of_le hg F.size, fun k m hk => (F.at hg ha k).trans (hc k m hk)⟩
theorem Ls.fr {b : Nat} {s : ByteArray} {σ : Sg} {ts : List Tt} {w w' : World} {V : Value} {l : List Ty} (h : Ls w V l) (hS : Sr b s σ ts w) (F : Fr b w w') : Ls w' V l := by
 obtain ⟨a, cap, rfl, h⟩ := h
 refine ⟨a, cap, rfl, ?_⟩
 rcases h with h | ⟨g, rfl, hg, hc⟩
 · exact .inl h
 · cases l with
   | nil => exact .inl rfl
   | cons n l =>
    obtain ⟨h', c', hc', _⟩ := hc 0 n rfl
    have ha := hS.apart hc' (by simp) (by simp)
    refine .inr ⟨g, rfl, Nat.lt_of_lt_of_le hg F.size, fun k m hk => ?_⟩
    obtain ⟨h', c', e1, e2⟩ := hc k m hk
    exact ⟨h', c', (F.at hg ha k).trans e1, e2.fr hS F⟩
theorem Sd.fr {b : Nat} {s : ByteArray} {σ : Sg} {ts us : List Tt} {w w' : World} {x : Ex} {k : Nat} (h : Sd w us x k) (hS : Sr b s σ ts w) (F : Fr b w w') : Sd w' us x k := h.kept (fun _ _ h => h.fr hS F) (fun _ _ h => h.fr hS F)
def Bt (q : Nat) (t : Tt) (w : World) : Prop := w.heap[q]? = some (.cells #[.int .u8 (t.op : Int), .int .u8 (t.c : Int), .int .i64 (t.a : Int), .int .i64 (t.b : Int), slV t.g, slV t.v, slV t.p, .int .i64 (t.at' : Int), .int .i64 (t.tu : Int)] 76 (0, 0))
theorem Bt.lt {q : Nat} {t : Tt} {w : World} (h : Bt q t w) : q < w.heap.size := (Array.getElem?_eq_some_iff.1 h).1
theorem Bt.fr {b q : Nat} {t : Tt} {w w' : World} (h : Bt q t w) (k : Fr b w w') (hb : q ≠ b) (hr : rowOf b w ≠ some q) : Bt q t w' := by
 unfold Bt at *
 rw [k.block q (Array.getElem?_eq_some_iff.1 h).1 hb (Ne.symm hr)]; exact h
theorem Fr.rowNe' {b q : Nat} {w w' : World} (k : Fr b w w') (hr : rowOf b w ≠ some q) (hq : q < w.heap.size) : rowOf b w' ≠ some q := by
 rcases k.row with e | ⟨m, e, hm⟩
 · rw [e]; exact hr
 · rw [e]; simp; omega
theorem Bt.c (j : Nat) {q : Nat} {t : Tt} {w : World} (h : Bt q t w) : w.cell? ⟨q, j, none⟩ = #[Value.int .u8 (t.op : Int), .int .u8 (t.c : Int), .int .i64 (t.a : Int), .int .i64 (t.b : Int), slV t.g, slV t.v, slV t.p, .int .i64 (t.at' : Int), .int .i64 (t.tu : Int)][j]? := by
 unfold Bt at h; simp [World.cell?, h]
theorem Bt.fz {q : Nat} {t : Tt} {w : World} (h : Bt q t w) (j : Nat) : w.frozen? ⟨q, j, none⟩ = false := by
 unfold Bt at h; simp [World.frozen?, h]
theorem Bt.setC {q : Nat} {t : Tt} {w : World} (h : Bt q t w) (c : Nat) : Bt q { t with c := c } (w.setCell ⟨q, 1, none⟩ (.int .u8 (c : Int))) := by
 unfold Bt at *; simp [World.setCell, Array.getElem?_modify, h]
theorem Bt.setA {q : Nat} {t : Tt} {w : World} (h : Bt q t w) (a : Nat) : Bt q { t with a := a } (w.setCell ⟨q, 2, none⟩ (.int .i64 (a : Int))) := by
 unfold Bt at *; simp [World.setCell, Array.getElem?_modify, h]
theorem Bt.setB {q : Nat} {t : Tt} {w : World} (h : Bt q t w) (a : Nat) : Bt q { t with b := a } (w.setCell ⟨q, 3, none⟩ (.int .i64 (a : Int))) := by
 unfold Bt at *; simp [World.setCell, Array.getElem?_modify, h]
theorem Bt.setG {q : Nat} {t : Tt} {w : World} (h : Bt q t w) (a : Option Addr) (n c : Nat) : Bt q { t with g := (a, n, c) } (w.setCell ⟨q, 4, none⟩ (.slice a n c)) := by
 unfold Bt at *; simp [World.setCell, Array.getElem?_modify, h]
theorem Bt.setV {q : Nat} {t : Tt} {w : World} (h : Bt q t w) (a : Option Addr) (n c : Nat) : Bt q { t with v := (a, n, c) } (w.setCell ⟨q, 5, none⟩ (.slice a n c)) := by
 unfold Bt at *; simp [World.setCell, Array.getElem?_modify, h]
theorem Bt.setP {q : Nat} {t : Tt} {w : World} (h : Bt q t w) (a : Option Addr) (n c : Nat) : Bt q { t with p := (a, n, c) } (w.setCell ⟨q, 6, none⟩ (.slice a n c)) := by
 unfold Bt at *; simp [World.setCell, Array.getElem?_modify, h]
theorem Fr.setNew' {b q j : Nat} {w w' : World} {u : Value} (h : Fr b w w') (hb : q ≠ b) (hq : w.heap.size <= q) : Fr b w (w'.setCell ⟨q, j, none⟩ u) := by
 refine ⟨h.os, h.tape, h.output, by simp only [World.setCell, Array.size_modify]; exact h.size, fun k hk hkb hkr => ?_, ?_⟩
 · rw [Below.heap_setCell _ _ _ _ (by show k ≠ q; omega)]; exact h.block k hk hkb hkr
 · rw [znx (a := ⟨q, j, none⟩) rfl hb]; exact h.row
theorem Sr.rowNew {b : Nat} {s : ByteArray} {σ : Sg} {ts : List Tt} {w : World} (h : Sr b s σ ts w) (o : Obj) : rowOf b (w.alloc o) ≠ some w.heap.size := by
 rw [zjq o h.lt]; intro e; have := h.rowLt e; omega
theorem zcl {b q j : Nat} {w : World} {u : Value} (hb : q ≠ b) (hr : rowOf b w ≠ some q) : rowOf b (w.setCell ⟨q, j, none⟩ u) ≠ some q := by
 rw [znx (a := ⟨q, j, none⟩) rfl hb]; exact hr
theorem Bt.all {q : Nat} {t : Tt} {w : World} (h : Bt q t w) :
 w.cell? ⟨q, 0, none⟩ = some (.int .u8 (t.op : Int)) /\ w.cell? ⟨q, 1, none⟩ = some (.int .u8 (t.c : Int)) /\ w.cell? ⟨q, 2, none⟩ = some (.int .i64 (t.a : Int)) /\ w.cell? ⟨q, 3, none⟩ = some (.int .i64 (t.b : Int)) /\
 w.cell? ⟨q, 4, none⟩ = some (slV t.g) /\ w.cell? ⟨q, 5, none⟩ = some (slV t.v) /\ w.cell? ⟨q, 6, none⟩ = some (slV t.p) /\ w.cell? ⟨q, 7, none⟩ = some (.int .i64 (t.at' : Int)) /\ w.cell? ⟨q, 8, none⟩ = some (.int .i64 (t.tu : Int)) :=
 ⟨h.c 0, h.c 1, h.c 2, h.c 3, h.c 4, h.c 5, h.c 6, h.c 7, h.c 8⟩
structure Se where
 c : Nat
 t : Ty
 o : List Nat
 h : Nat
 cp : Nat
 v : Option Addr × Nat × Nat
def Se.cells (x : Se) : List Value := [.int .u8 (x.c : Int), .slice (some ⟨x.h, 0, none⟩) (sz x.t) x.cp, slV x.v]
def zbl (st : List Se) : List Value := st.flatMap Se.cells
theorem zgb (ts us : List Se) : zbl (ts ++ us) = zbl ts ++ zbl us := by simp [zbl]
theorem zmn (ts : List Se) : (zbl ts).length = ts.length * 3 := by
 induction ts with
 | nil => rfl
 | cons t ts ih => simp only [zbl, List.flatMap_cons, List.length_append, List.length_cons] at *; rw [ih]; simp [Se.cells]; omega
theorem seflat_at (ts : List Se) (k : Nat) (t : Se) (h : ts[k]? = some t) (j : Nat) (hj : j < 3) : (zbl ts)[k * 3 + j]? = t.cells[j]? := by
 induction ts generalizing k with
 | nil => simp at h
 | cons u ts ih =>
  have hl : u.cells.length = 3 := rfl
  simp only [zbl, List.flatMap_cons]
  cases k with
  | zero => simp at h; subst h; rw [List.getElem?_append_left (by omega)]; simp
  | succ k =>
   rw [List.getElem?_append_right (by omega), show (k + 1) * 3 + j - u.cells.length = k * 3 + j by omega]
   exact ih k (by simpa using h)
def skl (st : List Se) : List Sk := st.map fun x => (x.c, x.t, x.o)
abbrev Ce : Type := Option (Nat × Nat)
def cErr : Ce -> Nat
 | none => 0
 | some r => r.1
def cAt : Ce -> Nat
 | none => 0
 | some r => r.2
def Cs (B b : Nat) (L : Value) (ε : Ce) (m : Nat) (st : List Se) (w : World) : Prop :=
 B <= b /\ (∃ a n c, L = .slice a n c) /\ (∀ r, ε = some r -> 1 <= r.1) /\ ∃ S, Ck b L S (cErr ε) (cAt ε) m w /\ w.ownsRow B 150 3 S st.length (zbl st) /\ S.ownBlock ≠ some b /\
  (∀ g, S.ownBlock = some g -> ∃ z, w.cell? ⟨g, 0, none⟩ = some (.int .u8 z)) /\ ∀ x ∈ st, Rg x.h x.t w /\ Is w (slV x.v) (x.o.map (· + 30))
def srow (b : Nat) (w : World) : Option Nat := ((w.cell? ⟨b, 1, none⟩).getD .nilIface).ownBlock
theorem Ck.row {b : Nat} {L S : Value} {err p m : Nat} {w : World} (h : Ck b L S err p m w) : srow b w = S.ownBlock := by
 unfold srow; rw [Lib.cell_of_heap h]; rfl
structure CFr (b : Nat) (w w' : World) : Prop where
 os : w'.os = w.os
 tape : w'.tape = w.tape
 output : w'.output = w.output
 size : w.heap.size <= w'.heap.size
 block : ∀ k, k < w.heap.size -> k ≠ b -> some k ≠ srow b w -> w'.heap[k]? = w.heap[k]?
 row : srow b w' = srow b w \/ ∃ k, srow b w' = some k /\ w.heap.size <= k
theorem CFr.refl (b : Nat) (w : World) : CFr b w w := ⟨rfl, rfl, rfl, Nat.le_refl _, fun _ _ _ _ => rfl, .inl rfl⟩
theorem CFr.trans {b : Nat} {x y z : World} (h : CFr b x y) (k : CFr b y z) : CFr b x z := by
 refine ⟨k.os.trans h.os, k.tape.trans h.tape, k.output.trans h.output, Nat.le_trans h.size k.size, fun i hi hb hr => ?_, ?_⟩
 · refine (k.block i (Nat.lt_of_lt_of_le hi h.size) hb ?_).trans (h.block i hi hb hr)
   rcases h.row with e | ⟨q, e, hq⟩
   · rw [e]; exact hr
   · rw [e]; intro e'; simp at e'; omega
 · rcases k.row with e | ⟨q, e, hq⟩
   · rcases h.row with e' | ⟨q, e', hq⟩
     · exact .inl (e.trans e')
     · exact .inr ⟨q, e.trans e', hq⟩
   · exact .inr ⟨q, e, Nat.le_trans h.size hq⟩
theorem CFr.below {b B : Nat} {w w' : World} (h : CFr b w w') (hb : B <= b) (hB : B <= w.heap.size) (hr : ∀ k, srow b w = some k -> B <= k) : Below B w w' :=
 ⟨h.os, h.tape, h.output, h.size, fun k hk => h.block k (by omega) (by omega) (fun e => by have := hr k e.symm; omega)⟩
theorem Cs.rowB {B b : Nat} {L : Value} {ε : Ce} {m : Nat} {st : List Se} {w : World} (h : Cs B b L ε m st w) : ∀ k, srow b w = some k -> B <= k /\ k < w.heap.size := by
 obtain ⟨_, _, _, S, hk, ho, _⟩ := h
 intro k e
 rw [hk.row] at e
 exact ho.lt k e
theorem Cs.lt {B b : Nat} {L : Value} {ε : Ce} {m : Nat} {st : List Se} {w : World} (h : Cs B b L ε m st w) : b < w.heap.size := by
 obtain ⟨_, _, _, S, hk, _⟩ := h
 exact (Array.getElem?_eq_some_iff.1 hk).1
theorem Cs.tu {B b : Nat} {L : Value} {ε : Ce} {m : Nat} {st : List Se} {w w' : World} (h : Cs B b L ε m st w) (F : CFr b w w') (hB : B <= w.heap.size) : Below B w w' := F.below h.1 hB (fun k e => (h.rowB k e).1)
theorem Cs.apart {B b : Nat} {L : Value} {ε : Ce} {m : Nat} {st : List Se} {w : World} (h : Cs B b L ε m st w) {g : Nat} {z : Int} (hc : w.cell? ⟨g, 0, none⟩ = some (.int .i64 z)) : g ≠ b /\ some g ≠ srow b w := by
 obtain ⟨_, ⟨a, n, c, rfl⟩, _, S, hk, ho, hn, hu, _⟩ := h
 refine ⟨?_, ?_⟩
 · rintro rfl
   rw [Lib.cell_of_heap hk] at hc
   cases hc
 · intro e
   rw [hk.row] at e
   obtain ⟨z', hz⟩ := hu g e.symm
   rw [hc] at hz
   cases hz
theorem Rg.zero {w : World} {g : Nat} {t : Ty} (h : Rg g t w) : ∃ z, w.cell? ⟨g, 0, none⟩ = some (.int .i64 z) := by
 have hp := zau h.ok
 obtain ⟨n, hn⟩ : ∃ n, (nd t 0)[0]? = some n := ⟨_, List.getElem?_eq_getElem (by rw [zaj]; omega)⟩
 have hc := (h.cell 0 n hn).1
 rw [Nat.zero_mul] at hc
 exact ⟨_, hc⟩
theorem Rg.at' {w w' : World} {g : Nat} {t : Ty} (h : Rg g t w) (hs : w.heap.size <= w'.heap.size) (hb : w'.heap[g]? = w.heap[g]?) : Rg g t w' :=
 ⟨h.ok, Nat.lt_of_lt_of_le h.lt hs, fun k n hk => by rw [World.cell?_of_block (w := w) (w' := w') (a := ⟨g, _, none⟩) hb, World.cell?_of_block (w := w) (w' := w') (a := ⟨g, _, none⟩) hb, World.cell?_of_block (w := w) (w' := w') (a := ⟨g, _, none⟩) hb]; exact h.cell k n hk⟩
theorem Is.at' {w w' : World} {V : Value} {l : List Nat} (h : Is w V l) (hs : w.heap.size <= w'.heap.size) (hb : ∀ g z, w.cell? ⟨g, 0, none⟩ = some (.int .i64 z) -> w'.heap[g]? = w.heap[g]?) : Is w' V l := by
 obtain ⟨a, cap, rfl, h⟩ := h
 refine ⟨a, cap, rfl, ?_⟩
 rcases h with h | ⟨g, rfl, hg, hc⟩
 · exact .inl h
 · cases l with
   | nil => exact .inl rfl
   | cons n l =>
    have := hb g _ (hc 0 n rfl)
    exact .inr ⟨g, rfl, Nat.lt_of_lt_of_le hg hs, fun k m hk => (World.cell?_of_block (w := w) (a := ⟨g, k, none⟩) this).trans (hc k m hk)⟩
theorem Cs.ents {B b : Nat} {L : Value} {ε : Ce} {m : Nat} {st : List Se} {w w' : World} (h : Cs B b L ε m st w) (F : CFr b w w') {l : List Se} (hl : ∀ x ∈ l, Rg x.h x.t w /\ Is w (slV x.v) (x.o.map (· + 30))) : ∀ x ∈ l, Rg x.h x.t w' /\ Is w' (slV x.v) (x.o.map (· + 30)) := by
 intro x hx
 obtain ⟨h1, h2⟩ := hl x hx
 obtain ⟨z, hz⟩ := h1.zero
 have ha := h.apart hz
 exact ⟨h1.at' F.size (F.block _ h1.lt ha.1 ha.2), h2.at' F.size (fun g z hz => by have := h.apart hz; exact F.block g (World.block_lt_of_cell? w _ hz) this.1 this.2)⟩
theorem Rg.cfr {B b : Nat} {L : Value} {ε : Ce} {m : Nat} {st : List Se} {w w' : World} {g : Nat} {t : Ty} (R : Rg g t w) (h : Cs B b L ε m st w) (F : CFr b w w') : Rg g t w' := by
 obtain ⟨z, hz⟩ := R.zero
 have ha := h.apart hz
 exact R.at' F.size (F.block _ R.lt ha.1 ha.2)
theorem Cs.mv {B b : Nat} {L : Value} {ε : Ce} {m : Nat} {st : List Se} {w : World} (h : Cs B b L ε m st w) : ∃ S, Ck b L S (cErr ε) (cAt ε) m w /\ Ss w S (skl st) /\
 ∀ (ε' : Ce) (w' : World), (∀ r, ε' = some r -> 1 <= r.1) -> Ck b L S (cErr ε') (cAt ε') m w' -> w.grownBy w' (some b) -> Cs B b L ε' m st w' /\ CFr b w w' := by
 have h' := h
 obtain ⟨hB, hL, he, S, hk, ho, hn, hu, hx⟩ := h
 have hgl : ∀ g, S.ownBlock = some g -> g < w.heap.size := fun g e => (ho.lt g e).2
 refine ⟨S, hk, ?_, ?_⟩
 · rcases ho.2 with ⟨rfl, h0⟩ | ⟨g, cap, cur, rfl, hg, hgg, _⟩
   · have e0 : st = [] := List.length_eq_zero_iff.1 h0
     subst e0
     exact ⟨none, 0, rfl, .inl rfl⟩
   · refine ⟨some ⟨g, 0, none⟩, cap, by simp [skl], .inr ⟨g, rfl, (Array.getElem?_eq_some_iff.1 hgg).1, fun k x hk' => ?_⟩⟩
     simp only [skl, List.getElem?_map] at hk'
     obtain ⟨y, hy, rfl⟩ := Option.map_eq_some_iff.1 hk'
     have key : ∀ j v, y.cells[j]? = some v -> j < 3 -> w.cell? ⟨g, k * 3 + j, none⟩ = some v := by
      intro j v hv hj
      have := ho.cells (g := g) rfl (k * 3 + j) v (by rw [seflat_at st k y hy j hj]; exact hv)
      rw [zic g (k * 3 + j)] at this
      exact this
     obtain ⟨r1, r2⟩ := hx y (List.mem_of_getElem? hy)
     exact ⟨y.h, y.cp, slV y.v, key 0 _ rfl (by decide), key 1 _ rfl (by decide), r1, key 2 _ rfl (by decide), r2⟩
 · intro ε' w' he' hk' hg
   have F : CFr b w w' := ⟨hg.os, hg.tape, hg.output, hg.size, fun k hk hb _ => hg.block k hk (by simpa using hb), .inl (hk'.row.trans hk.row.symm)⟩
   refine ⟨⟨hB, hL, he', S, hk', ho.kept hg (.inr hn), hn, fun g e => ?_, h'.ents F hx⟩, F⟩
   obtain ⟨z, hz⟩ := hu g e
   exact ⟨z, hg.cell hz (by intro e'; injection e' with e'; exact hn (by rw [e]; exact congrArg some e'))⟩
theorem Cs.below {B b : Nat} {L : Value} {ε : Ce} {m : Nat} {st : List Se} {w w' : World} (h : Cs B b L ε m st w) (hb : Below w.heap.size w w') : Cs B b L ε m st w' /\ CFr b w w' := by
 obtain ⟨S, hk, _, mv⟩ := h.mv
 exact mv ε w' h.2.2.1 (hk.below hb) (zak hb _)
theorem Cs.push {B b : Nat} {L S : Value} {ε : Ce} {m : Nat} {st : List Se} {w w1 : World} {x : Se} {gg cap : Nat} (h : Cs B b L ε m st w) (hk : Ck b L S (cErr ε) (cAt ε) m w)
 (hown1 : w1.ownsRow B 150 3 (.slice (some ⟨gg, 0, none⟩) (st.length + 1) cap) (st.length + 1) (zbl st ++ x.cells)) (hgrow : w.grownBy w1 S.ownBlock) (hat : S.ownBlock = some gg \/ w.heap.size <= gg)
 (hx : Rg x.h x.t w /\ Is w (slV x.v) (x.o.map (· + 30))) :
 Cs B b L ε m (st ++ [x]) (w1.setCell ⟨b, 1, none⟩ (.slice (some ⟨gg, 0, none⟩) (st.length + 1) cap)) /\ CFr b w (w1.setCell ⟨b, 1, none⟩ (.slice (some ⟨gg, 0, none⟩) (st.length + 1) cap)) := by
 have h' := h
 obtain ⟨hB, hL, he, S', hk', ho, hn, hu, hxs⟩ := h
 obtain rfl : S' = S := by
  have e : some (Obj.cells _ _ _) = some (Obj.cells _ _ _) := hk'.symm.trans hk
  simp at e
  exact e
 have hlt : b < w.heap.size := (Array.getElem?_eq_some_iff.1 hk).1
 have hgb : gg ≠ b := by
  rcases hat with e | e
  · intro e'; exact hn (by rw [e, e'])
  · omega
 have hk1 : Ck b L S' (cErr ε) (cAt ε) m w1 := (hgrow.block b hlt (Ne.symm hn)).trans hk
 have hk2 : Ck b L (.slice (some ⟨gg, 0, none⟩) (st.length + 1) cap) (cErr ε) (cAt ε) m (w1.setCell ⟨b, 1, none⟩ (.slice (some ⟨gg, 0, none⟩) (st.length + 1) cap)) := by
  unfold Ck at *
  simp [World.setCell, Array.getElem?_modify, hk1]
 have F : CFr b w (w1.setCell ⟨b, 1, none⟩ (.slice (some ⟨gg, 0, none⟩) (st.length + 1) cap)) := by
  refine ⟨hgrow.os, hgrow.tape, hgrow.output, by simp only [World.setCell, Array.size_modify]; exact hgrow.size, fun k hk3 hkb hkr => ?_, ?_⟩
  · rw [Below.heap_setCell _ _ _ _ hkb]
    rw [hk.row] at hkr
    exact hgrow.block k hk3 hkr
  · rw [hk2.row, hk.row]
    rcases hat with e | e
    · exact .inl e.symm
    · exact .inr ⟨gg, rfl, e⟩
 have ho2 := hown1.kept (zdy w1 b 1 (.slice (some ⟨gg, 0, none⟩) (st.length + 1) cap)) (.inr (by simp [Value.ownBlock, hgb]))
 refine ⟨⟨hB, hL, he, _, hk2, ?_, by simp [Value.ownBlock, hgb], fun g e => ?_, ?_⟩, F⟩
 · have e1 : zbl (st ++ [x]) = zbl st ++ x.cells := by rw [zgb]; simp [zbl]
   rw [e1, List.length_append]
   exact ho2
 · simp [Value.ownBlock] at e
   subst e
   have h0 : ∃ z, (zbl st ++ x.cells)[0]? = some (.int .u8 z) := by
    cases st with
    | nil => exact ⟨_, rfl⟩
    | cons y st => exact ⟨_, rfl⟩
   obtain ⟨z, hz⟩ := h0
   exact ⟨z, ho2.cells (g := gg) rfl 0 _ hz⟩
 · refine h'.ents F fun y hy => ?_
   rcases List.mem_append.1 hy with hy | hy
   · exact hxs y hy
   · obtain rfl : y = x := by simpa using hy
     exact hx
theorem Cs.pop {B b : Nat} {L S : Value} {ε : Ce} {m : Nat} {st : List Se} {w : World} {x : Se} (h : Cs B b L ε m (st ++ [x]) w) (hk : Ck b L S (cErr ε) (cAt ε) m w) :
 ∃ g cap, S = .slice (some ⟨g, 0, none⟩) (st.length + 1) cap /\ st.length + 1 <= cap /\ Cs B b L ε m st (w.setCell ⟨b, 1, none⟩ (.slice (some ⟨g, 0, none⟩) st.length cap)) /\ CFr b w (w.setCell ⟨b, 1, none⟩ (.slice (some ⟨g, 0, none⟩) st.length cap)) := by
 have h' := h
 obtain ⟨hB, hL, he, S', hk', ho, hn, hu, hxs⟩ := h
 obtain rfl : S' = S := by
  have e : some (Obj.cells _ _ _) = some (Obj.cells _ _ _) := hk'.symm.trans hk
  simp at e
  exact e
 have e1 : zbl (st ++ [x]) = zbl st ++ x.cells := by rw [zgb]; simp [zbl]
 rw [e1, List.length_append] at ho
 rcases id ho.2 with ⟨_, h0⟩ | ⟨g, cap, cur, rfl, hg, hgg, hcap, _⟩
 · simp at h0
 · have hgb : g ≠ b := fun e => hn (by rw [e]; rfl)
   have ho1 := ownsRow_pop (zmn st) ho
   have hk2 : Ck b L (.slice (some ⟨g, 0, none⟩) st.length cap) (cErr ε) (cAt ε) m (w.setCell ⟨b, 1, none⟩ (.slice (some ⟨g, 0, none⟩) st.length cap)) := by
    unfold Ck at *
    simp [World.setCell, Array.getElem?_modify, hk]
   have F : CFr b w (w.setCell ⟨b, 1, none⟩ (.slice (some ⟨g, 0, none⟩) st.length cap)) :=
    ⟨rfl, rfl, rfl, by simp [World.setCell], fun k _ hkb _ => Below.heap_setCell _ _ _ _ hkb, .inl (by rw [hk2.row, hk.row]; rfl)⟩
   refine ⟨g, cap, rfl, hcap, ⟨hB, hL, he, _, hk2, ho1.kept (zdy w b 1 _) (.inr (by simp [Value.ownBlock, hgb])), by simp [Value.ownBlock, hgb], fun g' e => ?_, h'.ents F fun y hy => hxs y (List.mem_append_left _ hy)⟩, F⟩
   obtain ⟨z, hz⟩ := hu g' e
   simp [Value.ownBlock] at e
   subst e
   exact ⟨z, by rw [World.cell?_setCell_other w _ _ _ (by intro e; injection e with e1 e2; exact hgb e1.symm)]; exact hz⟩
end Go.Proofs.YtceadeaodbadlaaGreatDoor
namespace Go.Proofs.YtceadeaodbadlaaGreatDoor
def xz : Ex -> Nat
 | .nil => 0
 | .node t _ x a b => if t = 3 then sz (x.g.headD tI) + 1 + xz a else if t = 4 \/ t = 5 then xz a + xz b else 1
def EB (m : Nat) : Ex -> Prop
 | .nil => True
 | .node t _ x a b => x.g.length <= m /\ x.v.length <= m /\ EB m a /\ EB m b
theorem xz_pos {ty : Bool} {m : Nat} : ∀ {x : Ex}, EOk ty m x -> 1 <= xz x := by
 intro x
 induction x with
 | nil => intro h; exact h.elim
 | node t o x a b iha ihb =>
  intro h
  rcases h with ⟨rfl, _⟩ | ⟨rfl, _⟩ | ⟨rfl, _⟩ | ⟨rfl, _⟩ | ⟨rfl, _, _, ha, _⟩ | ⟨rfl, ha, _⟩
  · simp [xz]
  · simp [xz]
  · simp [xz]
  · simp only [xz, if_true]; omega
  · have := iha ha; simp only [xz]; simp; omega
  · have := iha ha; simp only [xz]; simp; omega
theorem pg_len (s : ByteArray) : ∀ (n i : Nat) (l m : List Ty) (j : Nat), pg s n i l = .ok (m, j) -> i <= s.size -> m.length + i <= l.length + j := by
 intro n
 induction n with
 | zero => intro i l m j h; simp [pg] at h
 | succ n ih =>
  intro i l m j h hi
  rw [pg] at h
  split at h
  · cases h
  · rename_i h1
    have p1 := zcb h1 hi
    split at h
    · rename_i h2
      have i2 := zaf (fun e => absurd (h2.symm.trans e) (by decide))
      have p2 := ih _ _ _ _ h (by omega)
      simp at p2
      omega
    · split at h
      · cases h; simp; omega
      · cases h
theorem pw_len (s : ByteArray) : ∀ (n i : Nat) (l m : List (Nat × Nat)) (j : Nat), pw s n i l = .ok (m, j) -> i <= s.size -> m.length + i <= l.length + j := by
 intro n
 induction n with
 | zero => intro i l m j h; simp [pw] at h
 | succ n ih =>
  intro i l m j h hi
  rw [pw] at h
  split at h
  · cases h; omega
  · split at h
    · rename_i h2
      have p1 := zcm h2
      have p2 := ih _ _ _ _ h p1.2
      simp at p2
      omega
    · cases h
theorem givenO_len {s : ByteArray} {ty : Bool} {i j : Nat} {g : List Ty} (h : zdi s ty i = .ok (g, j)) (hi : i <= s.size) : g.length <= s.size := by
 have hp := zeg h hi
 unfold zdi at h
 split at h
 · split at h
   · rename_i h2
     have i2 := zaf (fun e => absurd (h2.symm.trans e) (by decide))
     have := pg_len s _ _ _ _ _ h (by omega)
     simp at this
     omega
   · cases h; simp
 · cases h; simp
theorem ownO_len {s : ByteArray} {ty : Bool} {i j : Nat} {g : List (Nat × Nat)} (h : ownO s ty i = .ok (g, j)) (hi : i <= s.size) : g.length <= s.size := by
 have hp := zel h hi
 unfold ownO at h
 split at h
 · split at h
   · rename_i h2
     have i2 := zaf (fun e => absurd (h2.symm.trans e) (by decide))
     have := pw_len s _ _ _ _ _ h (by omega)
     simp at this
     omega
   · cases h
 · cases h; simp
theorem fromO_size {s : ByteArray} {i j : Nat} {g : List Ty} (h : fromO s true i = .ok (g, j)) (hi : i <= s.size) : sz (g.headD tI) + i + 1 <= j /\ g.length <= 1 /\ i < s.size := by
 unfold fromO at h
 rw [if_pos rfl] at h
 split at h
 · rename_i h2
   have i2 := zaf (fun e => absurd (h2.symm.trans e) (by decide))
   split at h
   · cases h
   · rename_i h1
     have q := zfd s _ _ _ _ _ _ h1 (by omega) (by omega)
     have p1 := zcb h1 (by omega)
     simp at q
     cases h
     exact ⟨by simp; omega, by simp, i2⟩
 · cases h
theorem pe_xz (s : ByteArray) : ∀ (n t i : Nat) (a u : Ex) (j : Nat), pe s true n t i a = .ok (u, j) -> i <= s.size -> (t = 1 -> EOk true s.size a /\ EB s.size a) ->
 xz u <= (if t = 1 then xz a else 0) + (j - i) /\ EB s.size u := by
 intro n
 induction n with
 | zero => intro t i a u j h; simp [pe] at h
 | succ n ih =>
  intro t i a u j h hi ha
  match t with
  | 0 =>
   rw [pe] at h
   split at h
   · split at h
     · rename_i h2
       have i2 := zaf (s := s) (i := i + 1) (by rintro e; rw [e] at h2; exact absurd h2 (by decide))
       split at h
       · cases h
       · rename_i h3
         have p3 := zev h3 (by omega)
         have q3 := fromO_size h3 (by omega)
         split at h
         · rename_i h4
           have i4 := zaf (fun e => absurd (h4.symm.trans e) (by decide))
           split at h
           · cases h
           · rename_i h5
             have p5 := zao s _ _ _ _ _ _ _ h5 (by omega) (by omega)
             have q5 := ih _ _ _ _ _ h5 (by omega) (by omega)
             cases h
             simp only [Nat.zero_ne_one, if_false, Nat.zero_add] at q5 ⊢
             refine ⟨?_, by simp; omega, by simp, q5.2, trivial⟩
             simp only [xz, if_true]
             omega
         · cases h
     · cases h
   · split at h
     · split at h
       · rename_i h2
         have i2 := zaf (s := s) (i := i + 1) (by rintro e; rw [e] at h2; exact absurd h2 (by decide))
         split at h
         · cases h
         · rename_i h3
           have p3 := zel h3 (by omega)
           have q3 := ownO_len h3 (by omega)
           split at h
           · rename_i h4
             have i4 := zaf (fun e => absurd (h4.symm.trans e) (by decide))
             split at h
             · cases h
             · rename_i h5
               have p5 := zao s _ _ _ _ _ _ _ h5 (by omega) (by omega)
               have q5 := ih _ _ _ _ _ h5 (by omega) (by omega)
               split at h
               · rename_i h6
                 have i6 := zaf (fun e => absurd (h6.symm.trans e) (by decide))
                 split at h
                 · cases h
                 · rename_i h7
                   have p7 := zao s _ _ _ _ _ _ _ h7 (by omega) (by omega)
                   have q7 := ih _ _ _ _ _ h7 (by omega) (by omega)
                   cases h
                   simp only [Nat.zero_ne_one, if_false, Nat.zero_add] at q5 q7 ⊢
                   refine ⟨?_, by simp, q3, q5.2, q7.2⟩
                   simp only [xz]
                   simp
                   omega
               · cases h
           · cases h
       · cases h
     · split at h
       · cases h
       · rename_i h4
         have p4 := zao s _ _ _ _ _ _ _ h4 (by omega) (by omega)
         have q4 := ih _ _ _ _ _ h4 (by omega) (by omega)
         have p5 := zao s _ _ _ _ _ _ _ h (by omega) (fun _ => p4.2.2)
         have q5 := ih _ _ _ _ _ h (by omega) (fun _ => ⟨p4.2.2, q4.2⟩)
         simp at q4 q5 ⊢
         exact ⟨by omega, q5.2⟩
  | 1 =>
   rw [pe] at h
   split at h
   · split at h
     · cases h
     · rename_i h4
       have p4 := zao s _ _ _ _ _ _ _ h4 (by omega) (by omega)
       have q4 := ih _ _ _ _ _ h4 (by omega) (by omega)
       have eo : EOk true s.size (eC i a _) := .inr (.inr (.inr (.inr (.inr ⟨rfl, (ha rfl).1, p4.2.2⟩))))
       have p5 := zao s _ _ _ _ _ _ _ h (by omega) (fun _ => eo)
       have q5 := ih _ _ _ _ _ h (by omega) (fun _ => ⟨eo, by simp, by simp, (ha rfl).2, q4.2⟩)
       simp [xz] at q4 q5 ⊢
       exact ⟨by omega, q5.2⟩
   · cases h; exact ⟨by simp, (ha rfl).2⟩
  | t + 2 =>
   rw [pe] at h
   split at h
   · rename_i h1
     have i1 := zaf (s := s) (i := i) (zcd h1)
     split at h
     · cases h
       exact ⟨by simp [xz], by simp, by simp, trivial, trivial⟩
     split at h
     · split at h
       · cases h
       · rename_i h4
         have p4 := zao s _ _ _ _ _ _ _ h4 (by omega) (by omega)
         have q4 := ih _ _ _ _ _ h4 (by omega) (by omega)
         split at h
         · cases h
           simp at q4 ⊢
           exact ⟨by omega, q4.2⟩
         · cases h
     split at h
     · cases h
     · rename_i h4
       have p4 := zeg h4 (by omega)
       have q4 := givenO_len h4 (by omega)
       cases h
       split
       · exact ⟨by simp [xz]; omega, q4, by simp, trivial, trivial⟩
       · exact ⟨by simp [xz]; omega, q4, by simp, trivial, trivial⟩
   · cases h
theorem wholeE_xz {s : ByteArray} {e : Ex} (h : zbn s true = .ok e) : xz e <= s.size /\ EB s.size e := by
 unfold zbn at h
 split at h
 · cases h
 · rename_i h1
   have p := zao s true _ _ _ _ _ _ h1 (Nat.zero_le _) (by omega)
   have q := pe_xz s _ _ _ _ _ _ h1 (Nat.zero_le _) (by omega)
   split at h
   · cases h
   · cases h
     simp at q
     exact ⟨by omega, q.2⟩
end Go.Proofs.YtceadeaodbadlaaGreatDoor
namespace Go.Proofs.YtceadeaodbadlaaGreatDoor
open Go.RowKit
def StOk (st : List Se) : Prop := ∀ x ∈ st, (97 <= x.c /\ x.c < 123) /\ Ok x.t /\ sz x.t <= 60000 /\ x.o.length <= 60000 /\ (∀ o ∈ x.o, 970 <= o)
abbrev envSt (st : List Se) : Env := envOf (skl st)
theorem StOk.skl {st : List Se} (h : StOk st) : ∀ x ∈ skl st, 97 <= x.1 /\ x.1 < 123 := by
 intro x hx
 obtain ⟨y, hy, rfl⟩ := List.mem_map.1 hx
 exact (h y hy).1
theorem StOk.skl2 {st : List Se} (h : StOk st) : ∀ x ∈ Go.Proofs.YtceadeaodbadlaaGreatDoor.skl st, x.1 < 256 /\ sz x.2.1 <= 1000000 /\ x.2.2.length <= 1000000 := by
 intro x hx
 obtain ⟨y, hy, rfl⟩ := List.mem_map.1 hx
 have := h y hy
 exact ⟨by show y.c < 256; omega, by show sz y.t <= _; omega, by show y.o.length <= _; omega⟩
theorem own_step {e : Env} {vs : List (Nat × Nat)} {k : Nat} {x : Nat × Nat} (h : vs[k]? = some x) :
 zaz e (vs.drop k) ((vs.take k).map (·.1)) = if ((vs.take k).map (·.1)).contains x.1 || zbm e x.1 then some x.2 else zaz e (vs.drop (k + 1)) ((vs.take (k + 1)).map (·.1)) := by
 have hlt := (List.getElem?_eq_some_iff.1 h).1
 have hx : vs[k] = x := (List.getElem?_eq_some_iff.1 h).2
 rw [List.drop_eq_getElem_cons hlt, hx]
 obtain ⟨o, p⟩ := x
 simp only [zaz]
 rw [List.take_add_one, h]
 simp
theorem Is.take {w : World} {g n c : Nat} {l : List Nat} (h : Is w (.slice (some ⟨g, 0, none⟩) n c) l) (k : Nat) (hk : k <= l.length) : Is w (.slice (some ⟨g, 0, none⟩) k c) (l.take k) := by
 obtain ⟨a, cap, e, h⟩ := h
 cases e
 refine ⟨some ⟨g, 0, none⟩, c, by rw [List.length_take, Nat.min_eq_left hk], ?_⟩
 rcases h with h | ⟨g', e, hg, hc⟩
 · subst h; exact .inl (by simp)
 · cases e
   refine .inr ⟨g, rfl, hg, fun j n hj => hc j n ?_⟩
   rw [List.getElem?_take] at hj
   split at hj
   · exact hj
   · cases hj
theorem Is.form {w : World} {V : Value} {l : List Nat} (h : Is w V l) {k n : Nat} (hk : l[k]? = some n) : ∃ g cap, V = .slice (some ⟨g, 0, none⟩) l.length cap /\ g < w.heap.size /\ w.cell? ⟨g, k, none⟩ = some (.int .i64 (n : Int)) := by
 obtain ⟨a, cap, rfl, h⟩ := h
 rcases h with h | ⟨g, rfl, hg, hc⟩
 · subst h; simp at hk
 · exact ⟨g, cap, rfl, hg, hc k n hk⟩
theorem bound_any (B b : Nat) (L : Value) (m : Nat) (st : List Se) (vs : List (Nat × Nat)) (op c ta tb : Nat) (ga va pa : Option Addr) (gn gc vn vc pn pc tat tto : Nat) (w : World) (h : Cs B b L none m st w) (hst : StOk st) (hl : st.length <= 100000) (hv : VOk vs) (hvl : vs.length <= 60000)
 (hcap : vn <= vc) (hV : Is w (.slice va vn vc) (vs.map (·.1 + 30))) (hP : Is w (.slice pa pn pc) (vs.map (·.2))) :
 Calls Tryz.prog 100 #[.pointer (some ⟨b, 0, none⟩), .agg (tmA op c ta tb ga va pa gn gc vn vc pn pc tat tto)] w fun e w' => e = .returned (.tuple #[]) /\ Cs B b L ((zaz (envSt st) vs []).map (fun p => (6, p))) m st w' /\ CFr b w w' := by
 obtain ⟨S, hk, hs, mv⟩ := h.mv
 have hblt : b < w.heap.size := h.lt
 have hvn : vn = vs.length := by obtain ⟨a, cap, e, _⟩ := hV; simp at e; exact e.2.1
 have hpn : pn = vs.length := by obtain ⟨a, cap, e, _⟩ := hP; simp at e; exact e.2.1
 subst hvn hpn
 have B0 : Below w.heap.size w (w.alloc (.cells (tmA op c ta tb ga va pa gn gc vs.length vc vs.length pc tat tto) 76)) := bal w _
 have hbx : (w.alloc (.cells (tmA op c ta tb ga va pa gn gc vs.length vc vs.length pc tat tto) 76)).heap[w.heap.size]? = some (.cells (tmA op c ta tb ga va pa gn gc vs.length vc vs.length pc tat tto) 76 (0, 0)) := heap_alloc_new w _
 have hW : (w.alloc (.cells (tmA op c ta tb ga va pa gn gc vs.length vc vs.length pc tat tto) 76)).heap.size = w.heap.size + 1 := by simp
 have HK : Hid (∀ X, Below w.heap.size w X -> Ck b L S 0 0 m X) := fun X hX => hk.below hX
 have FX : Hid (∀ (o : Nat), 970 <= o /\ o < 1230 -> ∀ X, Below w.heap.size w X -> Calls Tryz.prog 141 #[.pointer (some ⟨b, 0, none⟩), .int .i64 ((o + 30 : Nat) : Int)] X fun e w' => e = .returned (.bool (zbm (envSt st) o)) /\ Below X.heap.size X w') := by
  intro o ho X hX
  refine (fixed_any b L S 0 0 m o (skl st) X (hk.below hX) (hs.below hX) (by simp [skl]; exact hl) hst.skl2 ho).mono ?_
  rintro e w' ⟨r, rfl, hr, hb⟩
  rw [fixed_env hst.skl hr]
  exact ⟨rfl, hb⟩
 have HV : Hid (∀ X, Below w.heap.size w X -> Is X (.slice va vs.length vc) (vs.map (·.1 + 30))) := fun X hX => hV.below hX
 have HP : Hid (∀ X, Below w.heap.size w X -> Is X (.slice pa vs.length pc) (vs.map (·.2))) := fun X hX => hP.below hX
 have HM : Hid _ := mv
 have HVO : Hid (VOk vs) := hv
 generalize hn : vs.length = n at *
 have HN : Hid (vs.length = n) := hn
 clear h hk hs mv hV hP hn hv
 go_enter Tryz.func100, Tryz.ntmps100
 go_wp2_with fail
 generalize w.alloc (.cells (tmA op c ta tb ga va pa gn gc n vc n pc tat tto) 76) = W at *
 have HB0 : Hid (Below w.heap.size w W) := B0
 have BW : Hid (Below W.heap.size W W) := Below.refl _ _
 clear B0
 go_loopw [4] (fun i wr => ∃ k : Nat, i = .int .i64 (k : Int) /\ k <= n /\ Hid (zaz (envSt st) vs [] = zaz (envSt st) (vs.drop k) ((vs.take k).map (·.1))) /\ Hid (Below W.heap.size W wr)) (fun i _ => n - (intOf i).toNat)
 case atStart => exact ⟨0, rfl, Nat.zero_le _, by simp [Hid], BW⟩
 case round =>
  clear BW
  obtain ⟨k, rfl, hkn, HO, HB⟩ := hrel
  have hbr : wr.heap[w.heap.size]? = some (.cells (tmA op c ta tb ga va pa gn gc n vc n pc tat tto) 76 (0, 0)) := (HB.out.block w.heap.size (by omega)).trans hbx
  have c5 : wr.cell? ⟨w.heap.size, 5, none⟩ = some (.slice va n vc) := cbl hbr
  have c6 : wr.cell? ⟨w.heap.size, 6, none⟩ = some (.slice pa n pc) := cbl hbr
  have HX : Hid (Below w.heap.size w wr) := HB0.out.trans (HB.out.mono HB0.out.size)
  have sr := HB.out.size
  rcases Nat.lt_or_ge k n with hlt | hge
  · obtain ⟨x, hx⟩ : ∃ x, vs[k]? = some x := ⟨_, List.getElem?_eq_getElem (by rw [HN.out]; omega)⟩
    have HS : Hid _ := own_step (e := envSt st) hx
    obtain ⟨o, p⟩ := x
    have ho : 970 <= o /\ o < 1230 := HVO.out _ (List.mem_of_getElem? hx)
    obtain ⟨g, cap, e, hg, ce⟩ := (HV.out wr HX.out).form (k := k) (n := o + 30) (by rw [List.getElem?_map, hx]; rfl)
    obtain ⟨g', cap', e', hg', ce'⟩ := (HP.out wr HX.out).form (k := k) (n := p) (by rw [List.getElem?_map, hx]; rfl)
    rw [List.length_map] at e e'
    rw [HN.out] at e e'
    cases e
    cases e'
    have IC : Hid (Calls Tryz.prog 60 #[.slice (some ⟨g, 0, none⟩) k vc, .int .i64 ((o + 30 : Nat) : Int)] wr.drew fun e w' => e = .returned (.bool (((vs.take k).map (·.1)).contains o)) /\ w' = wr.drew) := by
     have hI : Is wr (.slice (some ⟨g, 0, none⟩) k vc) ((vs.map (·.1 + 30)).take k) := (HV.out wr HX.out).take k (by rw [List.length_map, HN.out]; omega)
     have := zks ((vs.map (·.1 + 30)).take k) (.slice (some ⟨g, 0, none⟩) k vc) (o + 30) wr.drew hI (by have := HN.out; simp; omega)
     have e : ((vs.map (·.1 + 30)).take k).contains (o + 30) = ((vs.take k).map (·.1)).contains o := by
      rw [<- zla ((vs.take k).map (·.1)), List.map_map, <- List.map_take]; rfl
     rw [e] at this
     exact this
    have FC := FX.out o ho wr.drew HX.out.drew
    have HFC : Hid _ := FC
    have b1 : (0 : Int) <= (k : Int) := by omega
    have b2 : (k : Int) <= (n : Int) := by omega
    have b3 : (k : Int) < (n : Int) := by omega
    have b4 : (k : Int) <= (vc : Int) := by omega
    clear FC hx
    generalize hq : o + 30 = q at *
    generalize hin : ((vs.take k).map (·.1)).contains o = r1 at *
    generalize hfx : zbm (envSt st) o = r2 at *
    have HIN : Hid (((vs.take k).map (·.1)).contains o = r1) := hin
    have HFX : Hid (zbm (envSt st) o = r2) := hfx
    clear hin hfx hq
    go_wp2_with fail
    go_region_held3 (fun wq => wq.cell? ⟨w.heap.size, 5, none⟩ = some (.slice (some ⟨g, 0, none⟩) n vc) /\ wq.cell? ⟨g, k, none⟩ = some (.int .i64 (q : Int)))
     (first | (go_keep; done) | (go_split_ands; exact ⟨c5, ce⟩))
     ((go_at_call 60; refine IC.out.mono ?_; rintro e wz ⟨rfl, rfl⟩))
    go_wp2_with fail
    refine Calls.mono HFC.out ?_
    rintro e w2 ⟨rfl, b2'⟩
    have b2 : Below wr.heap.size wr w2 := ⟨b2'.os, b2'.tape, b2'.output, b2'.size, b2'.block⟩
    have HB2 : Hid (Below W.heap.size W w2) := HB.out.trans (b2.mono HB.out.size)
    have HX2 : Hid (Below w.heap.size w w2) := HX.out.trans (b2.mono HX.out.size)
    have c6' := (b2.cell (p := ⟨w.heap.size, 6, none⟩) (show w.heap.size < wr.heap.size by omega)).trans c6
    have ce2 := (b2.cell (p := ⟨g', k, none⟩) hg').trans ce'
    clear b2 b2' c5 c6 ce ce' HFC IC
    by_cases hr : (r1 || r2) = true
    · have HR : Hid (zaz (envSt st) vs [] = some p) := by
       unfold Hid
       rw [HO.out, HS.out, if_pos hr]
      have CF : Hid (Calls Tryz.prog 99 #[.pointer (some ⟨b, 0, none⟩), .int .i64 6, .int .i64 (p : Int)] w2 (FPost b L S 6 p m w2)) := zch b L S 0 m 6 p w2 (HK.out w2 HX2.out)
      clear HO HS
      have tail : ∀ (e : Ending) (w3 : World), FPost b L S 6 p m w2 e w3 -> (∃ g cap, e = .returned (.agg #[.slice (some ⟨g, 0, none⟩) 1 cap])) /\ Hid (Cs B b L ((zaz (envSt st) vs []).map (fun p => (6, p))) m st w3 /\ CFr b w w3) := by
       rintro e w3 ⟨g3, cap3, rfl, R3, hg3, C3, G3⟩
       refine ⟨⟨g3, cap3, rfl⟩, ?_⟩
       rw [HR.out]
       exact HM.out (some (6, p)) w3 (fun r e => by cases e; show 1 <= 6; decide) C3 ((zak HX2.out _).trans G3)
      have HT : Hid _ := tail
      clear tail
      cases r1
      · obtain rfl : r2 = true := by simpa using hr
        clear hr
        go_wp2_with fail
        refine CF.out.mono ?_
        intro e w3 hp
        obtain ⟨⟨g3, cap3, rfl⟩, HC3⟩ := HT.out e w3 hp
        clear hp
        go_wp2_with fail
        (try simp only [Exit.inBlock, Exit.then])
        refine bodyPost_ret (results_none rfl _ _ _) rfl ?_
        exact ⟨rfl, HC3.out⟩
      · clear hr
        go_wp2_with fail
        refine CF.out.mono ?_
        intro e w3 hp
        obtain ⟨⟨g3, cap3, rfl⟩, HC3⟩ := HT.out e w3 hp
        clear hp
        go_wp2_with fail
        (try simp only [Exit.inBlock, Exit.then])
        refine bodyPost_ret (results_none rfl _ _ _) rfl ?_
        exact ⟨rfl, HC3.out⟩
    · have HR : Hid (zaz (envSt st) vs [] = zaz (envSt st) (vs.drop (k + 1)) ((vs.take (k + 1)).map (·.1))) := by
       unfold Hid
       rw [HO.out, HS.out, if_neg hr]
      obtain ⟨rfl, rfl⟩ : r1 = false /\ r2 = false := by simpa using hr
      clear hr HO HS
      go_wp2_with fail
      go_roundw
      case rel => exact ⟨k + 1, by simp, by omega, HR, HB2⟩
      case measure => simp [intOf]; omega
  · obtain rfl : k = n := by omega
    have HR : Hid (zaz (envSt st) vs [] = none) := by
     unfold Hid
     rw [HO.out, List.drop_eq_nil_of_le (by rw [HN.out]; exact Nat.le_refl _)]
     rfl
    have HC : Hid (Cs B b L ((zaz (envSt st) vs []).map (fun p => (6, p))) m st wr /\ CFr b w wr) := by
     unfold Hid
     rw [HR.out]
     exact HM.out none wr (fun r e => by cases e) (HK.out wr HX.out) (zak HX.out _)
    clear HO HR
    go_wp2_with fail
    go_end0
    exact ⟨rfl, HC.out⟩
end Go.Proofs.YtceadeaodbadlaaGreatDoor
namespace Go.Proofs.YtceadeaodbadlaaGreatDoor
open Go.RowKit
variable {ty : Bool} {lv : Value}
def RTPost (s : ByteArray) (w : World) (e : Ending) (w' : World) : Prop :=
 Below w.heap.size w w' /\ match zbc s with
  | .error p => ∃ g n cap, e = .returned (.tuple #[.agg #[.slice (some ⟨g, 0, none⟩) n cap], .int .i64 (p : Int)])
  | .ok t => ∃ g cap, e = .returned (.tuple #[.agg #[.slice (some ⟨g, 0, none⟩) (sz t) cap], .int .i64 (-1)]) /\ Rg g t w' /\ sz t <= s.size
theorem zdk {fn : Func} {p u : Tmp} (h : fn.results = #[.cell p 33, .tmp u]) {tmps : Array Value} {w : World} {g : Nat} {v x : Value} {Q : Ending -> World -> Prop}
 (hp : tmps.getD p undef = .pointer (some ⟨g, 0, none⟩)) (hx : tmps.getD u undef = x) (hg : w.heap[g]? = some (.cells #[v] 33 (0, 0))) (hq : Q (.returned (.tuple #[.agg #[v], x])) w) : bodyPost Tryz.prog fn Q Exit.ret { tmps := tmps, defers := [] } w := by
 refine bodyPost_ret ?_ rfl hq
 have hl := run_loadVar_row w g 33 33 #[v] (0, 0) _ hg Tryz.underlying33 rfl zmu
 rw [results_cell_tmp h, hp, hx]
 simp [asAddr, hl, Result.andThen]
theorem cell_far (w : World) (a c : Addr) {v : Value} (h : a.block ≠ c.block) : (w.setCell a v).cell? c = w.cell? c :=
 World.cell?_of_block (w := w) (a := c) (Below.heap_setCell w a v c.block (fun e => h e.symm))
theorem zaw (w : World) (a c : Addr) (v : Value) (h : c.block ≠ a.block) : (w.setCell a v).drew.cell? c = w.cell? c := cell_far w a c (fun e => h e.symm)
abbrev rdObj (s : ByteArray) : Obj := .cells #[.string s, .bool false, .int .i64 0, .int .i64 (-1), .slice none 0 0] 70
theorem zih {w w' : World} {o o' : Obj} (h : Gb (w.heap.size + 1) ((w.alloc o).alloc o') w') : Below w.heap.size w w' :=
 ⟨h.os, h.tape, h.output, Nat.le_trans (by simp; omega) h.size, fun k hk => (h.block k (by simp; omega) (by simp; omega)).trans ((Below.heap_alloc _ _ _ (by simp; omega)).trans (Below.heap_alloc _ _ _ hk))⟩
theorem zna (s : ByteArray) (w : World) (hs : s.size <= 60000) :
 Calls Tryz.prog 23 #[.string s] w (RTPost s w) := by
 have hE : Hid (zce false (.slice none 0 0) (w.heap.size + 1) s (3 * s.size + 3)) := (zkz (w.heap.size + 1) s hs (3 * s.size + 3) _ (Nat.le_refl _)).1
 have h0 : R0 false (.slice none 0 0) (w.heap.size + 1) s 0 (-1) ((w.alloc zan).alloc (rdObj s)) := heap_alloc2_new w _ _
 go_enter Tryz.func23, Tryz.ntmps23
 go_wp2_with fail
 refine (hE.out 0 _ h0 (Nat.zero_le _) (by omega)).mono ?_
 intro e w1 hp
 obtain ⟨G1, g, cap, u, rfl, R1, k1⟩ := hp.parts (pt_end (Nat.zero_le _))
 have hb : w.heap.size + 1 < w1.heap.size := k1.lt
 have rbx : w1.heap[w.heap.size]? = some (.cells #[.slice none 0 0] 33 (0, 0)) := G1.old ((Below.heap_alloc _ _ _ (by simp)).trans (heap_alloc_new w _)) (by omega)
 have G2 := G1.alloc (tyBox g (sz u) cap)
 have bx2 : (w1.alloc (tyBox g (sz u) cap)).heap[w1.heap.size]? = some (.cells #[.slice (some ⟨g, 0, none⟩) (sz u) cap] 33 (0, 0)) := heap_alloc_new w1 _
 have rbx2 : (w1.alloc (tyBox g (sz u) cap)).heap[w.heap.size]? = some (.cells #[.slice none 0 0] 33 (0, 0)) := (Below.heap_alloc _ _ _ (by omega)).trans rbx
 have R2 : Rg g u (w1.alloc (tyBox g (sz u) cap)) := R1.alloc _
 have hgb := k1.ne R1
 clear hp h0
 cases hq : pt s (3 * s.size + 3) 0 0 .nil with
 | error p =>
  rw [hq] at k1
  obtain ⟨z1, z2, z3, h1⟩ := k1
  have HW : Hid (zbc s = .error p) := by unfold Hid zbc; rw [hq]
  have hW : R0 false (.slice none 0 0) (w.heap.size + 1) s p p (w1.alloc (tyBox g (sz u) cap)) := h1.alloc _
  have c2 := hW.c2
  clear hq h1 hE
  rcases Nat.lt_or_ge p s.size with hlt | hge
  · have d1 : decide ((p : Int) < (s.size : Int)) = true := by simp; omega
    have hne1 : w1.heap.size ≠ w.heap.size := by omega
    have hne2 : w.heap.size + 1 ≠ w.heap.size := by omega
    go_wp2_with fail
    refine (zea false (.slice none 0 0) (w.heap.size + 1) s p p _ hW).mono ?_
    rintro e w' ⟨rfl, rfl⟩
    go_wp2_with fail
    have bxW := bx2
    have rbxW := rbx2
    have cx := zab bxW
    have c3 := hW.c3
    have rcb := zab rbxW
    have rfb := zae rbxW
    go_region_held3 (fun wq => wq.cell? ⟨w1.heap.size, 0, none⟩ = some (.slice (some ⟨g, 0, none⟩) (sz u) cap) /\ wq.cell? ⟨w.heap.size + 1, 3, none⟩ = some (.int .i64 (p : Int)))
     (first | (go_keep; done) | (go_split_ands; exact ⟨cx, c3⟩) | exact ⟨Eq.trans (zaw _ ⟨w.heap.size, 0, none⟩ ⟨w1.heap.size, 0, none⟩ _ hne1) cx, Eq.trans (zaw _ ⟨w.heap.size, 0, none⟩ ⟨w.heap.size + 1, 3, none⟩ _ hne2) c3⟩)
     (fail)
    go_wp2_with fail
    refine zdk rfl rfl rfl (zac (w := (w1.alloc (tyBox g (sz u) cap)).drew) rbxW) ?_
    exact ⟨(zih (G2.drewN 1)).setCell (Nat.le_refl _) _, by rw [HW.out]; exact ⟨g, sz u, cap, rfl⟩⟩
  · have d1 : decide ((p : Int) < (s.size : Int)) = false := by simp; omega
    have hne1 : w1.heap.size ≠ w.heap.size := by omega
    have hne2 : w.heap.size + 1 ≠ w.heap.size := by omega
    go_wp2_with fail
    have bxW := bx2
    have rbxW := rbx2
    have cx := zab bxW
    have c3 := hW.c3
    have rcb := zab rbxW
    have rfb := zae rbxW
    go_region_held3 (fun wq => wq.cell? ⟨w1.heap.size, 0, none⟩ = some (.slice (some ⟨g, 0, none⟩) (sz u) cap) /\ wq.cell? ⟨w.heap.size + 1, 3, none⟩ = some (.int .i64 (p : Int)))
     (first | (go_keep; done) | (go_split_ands; exact ⟨cx, c3⟩) | exact ⟨Eq.trans (zaw _ ⟨w.heap.size, 0, none⟩ ⟨w1.heap.size, 0, none⟩ _ hne1) cx, Eq.trans (zaw _ ⟨w.heap.size, 0, none⟩ ⟨w.heap.size + 1, 3, none⟩ _ hne2) c3⟩)
     (fail)
    go_wp2_with fail
    refine zdk rfl rfl rfl (zac (w := (w1.alloc (tyBox g (sz u) cap)).drew) rbxW) ?_
    exact ⟨(zih (G2.drewN 1)).setCell (Nat.le_refl _) _, by rw [HW.out]; exact ⟨g, sz u, cap, rfl⟩⟩
 | ok r =>
  obtain ⟨t, j⟩ := r
  rw [hq] at k1
  obtain ⟨rfl, z1, z2, h1⟩ := k1
  have h2 : R0 false (.slice none 0 0) (w.heap.size + 1) s j (-1) (w1.alloc (tyBox g (sz u) cap)) := h1.alloc _
  have c2 := h2.c2
  rcases Nat.lt_or_ge j s.size with hlt | hge
  · have HW : Hid (zbc s = .error j) := by unfold Hid zbc; rw [hq]; exact if_pos hlt
    have d1 : decide ((j : Int) < (s.size : Int)) = true := by simp; omega
    clear hq h1 hE
    have hne1 : w1.heap.size ≠ w.heap.size := by omega
    have hne2 : w.heap.size + 1 ≠ w.heap.size := by omega
    go_wp2_with fail
    refine (zfb (w.heap.size + 1) s j _ h2).mono ?_
    rintro e w3 ⟨rfl, hW, g3⟩
    have bxW := g3.old bx2 (by omega)
    have rbxW := g3.old rbx2 (by omega)
    clear c2 d1
    go_wp2_with fail
    have cx := zab bxW
    have c3 := hW.c3
    have rcb := zab rbxW
    have rfb := zae rbxW
    go_region_held3 (fun wq => wq.cell? ⟨w1.heap.size, 0, none⟩ = some (.slice (some ⟨g, 0, none⟩) (sz u) cap) /\ wq.cell? ⟨w.heap.size + 1, 3, none⟩ = some (.int .i64 (j : Int)))
     (first | (go_keep; done) | (go_split_ands; exact ⟨cx, c3⟩) | exact ⟨Eq.trans (zaw _ ⟨w.heap.size, 0, none⟩ ⟨w1.heap.size, 0, none⟩ _ hne1) cx, Eq.trans (zaw _ ⟨w.heap.size, 0, none⟩ ⟨w.heap.size + 1, 3, none⟩ _ hne2) c3⟩)
     (fail)
    go_wp2_with fail
    refine zdk rfl rfl rfl (zac (w := w3.drew) rbxW) ?_
    exact ⟨(zih ((G2.trans g3).drewN 1)).setCell (Nat.le_refl _) _, by rw [HW.out]; exact ⟨g, sz u, cap, rfl⟩⟩
  · have HW : Hid (zbc s = .ok u) := by unfold Hid zbc; rw [hq]; exact if_neg (by omega)
    have d1 : decide ((j : Int) < (s.size : Int)) = false := by simp; omega
    have hW := h2
    clear hq h1 hE
    have hne1 : w1.heap.size ≠ w.heap.size := by omega
    have hne2 : w.heap.size + 1 ≠ w.heap.size := by omega
    go_wp2_with fail
    have bxW := bx2
    have rbxW := rbx2
    have cx := zab bxW
    have c3 := hW.c3
    have rcb := zab rbxW
    have rfb := zae rbxW
    go_region_held3 (fun wq => wq.cell? ⟨w1.heap.size, 0, none⟩ = some (.slice (some ⟨g, 0, none⟩) (sz u) cap) /\ wq.cell? ⟨w.heap.size + 1, 3, none⟩ = some (.int .i64 (-1)))
     (first | (go_keep; done) | (go_split_ands; exact ⟨cx, c3⟩) | exact ⟨Eq.trans (zaw _ ⟨w.heap.size, 0, none⟩ ⟨w1.heap.size, 0, none⟩ _ hne1) cx, Eq.trans (zaw _ ⟨w.heap.size, 0, none⟩ ⟨w.heap.size + 1, 3, none⟩ _ hne2) c3⟩)
     (fail)
    go_wp2_with fail
    refine zdk rfl rfl rfl (zac (w := (w1.alloc (tyBox g (sz u) cap)).drew) rbxW) ?_
    exact ⟨(zih (G2.drewN 1)).setCell (Nat.le_refl _) _, by rw [HW.out]; exact ⟨g, cap, rfl, (Rg.drew R2).setBox (R1.neBox rbx) _, by omega⟩⟩
end Go.Proofs.YtceadeaodbadlaaGreatDoor
namespace Go.Proofs.YtceadeaodbadlaaGreatDoor
open Go.RowKit
theorem infoIntN : (Tryz.prog.info? 3).map (fun i => (i.zero, i.size, i.bytes)) = some (some (.int .i64 0), 1, 8) := by kernel_rfl
def errOf : COut -> Ce
 | .ok _ => none
 | .error r => some r
def CPost (B b : Nat) (L : Value) (m : Nat) (st : List Se) (N : Nat) (r : COut) (w : World) (e : Ending) (w' : World) : Prop :=
 ∃ (t : Ty) (g cap : Nat), e = .returned (.agg #[.slice (some ⟨g, 0, none⟩) (sz t) cap]) /\ Rg g t w' /\ Cs B b L (errOf r) m st w' /\ CFr b w w' /\ (∀ u, r = .ok u -> t = u) /\ (∀ f, r = .error f -> sz t <= N)
theorem CPost.form {B b : Nat} {L : Value} {m : Nat} {st : List Se} {N : Nat} {r : COut} {w : World} {e : Ending} {w' : World} (h : CPost B b L m st N r w e w') : ∃ n g cap, e = .returned (.agg #[.slice (some ⟨g, 0, none⟩) n cap]) := by
 obtain ⟨t, g, cap, rfl, _⟩ := h
 exact ⟨_, g, cap, rfl⟩
theorem zdw {B b N : Nat} {L S : Value} {m : Nat} {st : List Se} {w w1 w2 : World} {c q g r : Nat} {u : Value}
 (mv : ∀ (ε' : Ce) (w' : World), (∀ r, ε' = some r -> 1 <= r.1) -> Ck b L S (cErr ε') (cAt ε') m w' -> w.grownBy w' (some b) -> Cs B b L ε' m st w' /\ CFr b w w')
 (hc : 1 <= c) (hN : 1 <= N) (B1 : Below w.heap.size w w1) (hR : Rg g tI w2) (hg : w1.heap.size <= g) (C2 : Ck b L S c q m w2) (G2 : w1.grownBy w2 (some b)) (hr : w.heap.size <= r) (hr1 : r < w1.heap.size) (hb : b < w.heap.size) (cap : Nat) :
 CPost B b L m st N (.error (c, q)) w (.returned (.agg #[.slice (some ⟨g, 0, none⟩) 1 cap])) (w2.setCell ⟨r, 0, none⟩ u) := by
 have G : w.grownBy (w2.setCell ⟨r, 0, none⟩ u) (some b) := ((zak B1 _).trans G2).andThen (zai _ _) (fun j hj => by cases hj; exact .inl (by omega))
 have C : Ck b L S c q m (w2.setCell ⟨r, 0, none⟩ u) := C2.kept (zai _ _) (by simp; omega)
 obtain ⟨h1, h2⟩ := mv (some (c, q)) _ (fun r e => by cases e; exact hc) C G
 exact ⟨tI, g, cap, rfl, hR.kept (zai _ _) (by simp; omega), h1, h2, (fun u e => by cases e), fun f _ => hN⟩
theorem znn {B b N : Nat} {L S : Value} {m : Nat} {st : List Se} {w w2 : World} {g r : Nat} {u : Value} {t : Ty}
 (mv : ∀ (ε' : Ce) (w' : World), (∀ r, ε' = some r -> 1 <= r.1) -> Ck b L S (cErr ε') (cAt ε') m w' -> w.grownBy w' (some b) -> Cs B b L ε' m st w' /\ CFr b w w')
 (B2 : Below w.heap.size w w2) (hR : Rg g t w2) (hg : g ≠ r) (C2 : Ck b L S 0 0 m w2) (hr : w.heap.size <= r) (hb : b < w.heap.size) (cap : Nat) :
 CPost B b L m st N (.ok t) w (.returned (.agg #[.slice (some ⟨g, 0, none⟩) (sz t) cap])) (w2.setCell ⟨r, 0, none⟩ u) := by
 have G : w.grownBy (w2.setCell ⟨r, 0, none⟩ u) (some b) := (zak B2 _).andThen (zai _ _) (fun j hj => by cases hj; exact .inl (by omega))
 have C : Ck b L S 0 0 m (w2.setCell ⟨r, 0, none⟩ u) := C2.kept (zai _ _) (by simp; omega)
 obtain ⟨h1, h2⟩ := mv none _ (fun r e => by cases e) C G
 exact ⟨t, g, cap, rfl, hR.kept (zai _ _) (by simp; exact fun e => hg e.symm), h1, h2, (fun u e => Except.ok.inj e), (fun f e => by cases e)⟩
theorem Rg.notBox {w : World} {g r : Nat} {t : Ty} {a : Option Addr} {n c : Nat} (h : Rg g t w) (hr : w.cell? ⟨r, 0, none⟩ = some (.slice a n c)) : g ≠ r := by
 rintro rfl
 obtain ⟨z, hz⟩ := h.zero
 rw [hr] at hz
 cases hz
theorem named_free (B b : Nat) (L : Value) (m N : Nat) (st : List Se) (c ta tb : Nat) (ga va pa : Option Addr) (gn gc vn vc pn pc tat tto : Nat) (ts : List Ty) (w : World) (h : Cs B b L none m st w) (hst : StOk st) (hl : st.length <= 100000) (hm : m = 50000) (hN : 1 <= N)
 (hG : Ls w (.slice ga gn gc) ts) (hgl : ts.length <= 60000) (hgs : ∀ u ∈ ts, sz u <= 60000) (hc : 97 <= c /\ c < 123) (hz : envSt st c = none) :
 Calls Tryz.prog 98 #[.pointer (some ⟨b, 0, none⟩), .agg (tmA 120 c ta tb ga va pa gn gc vn vc pn pc tat tto)] w (CPost B b L m st N (.error (3, tat)) w) := by
 obtain ⟨S, hk, hs, mv⟩ := h.mv
 have hblt : b < w.heap.size := h.lt
 have HM : Hid (∀ (ε' : Ce) (w' : World), (∀ r, ε' = some r -> 1 <= r.1) -> Ck b L S (cErr ε') (cAt ε') m w' -> w.grownBy w' (some b) -> Cs B b L ε' m st w' /\ CFr b w w') := mv
 have HMM : Hid (m = 50000) := hm
 clear hm
 have HGN : Hid (gn = ts.length) := by obtain ⟨a, cap, e, _⟩ := hG; simp at e; exact e.2.1
 have HGS : Hid (∀ u ∈ ts, sz u <= 60000) := hgs
 have B0 : Below w.heap.size w ((w.alloc (.cells (tmA 120 c ta tb ga va pa gn gc vn vc pn pc tat tto) 76)).alloc rbO) := (bal w _).alloc (by simp) _
 have hbx : ((w.alloc (.cells (tmA 120 c ta tb ga va pa gn gc vn vc pn pc tat tto) 76)).alloc rbO).heap[w.heap.size]? = some (.cells (tmA 120 c ta tb ga va pa gn gc vn vc pn pc tat tto) 76 (0, 0)) := (Below.heap_alloc _ _ _ (by simp)).trans (heap_alloc_new w _)
 have hrx : ((w.alloc (.cells (tmA 120 c ta tb ga va pa gn gc vn vc pn pc tat tto) 76)).alloc rbO).heap[w.heap.size + 1]? = some (.cells #[.slice none 0 0] 33 (0, 0)) := by
  have := heap_alloc_new (w.alloc (.cells (tmA 120 c ta tb ga va pa gn gc vn vc pn pc tat tto) 76)) rbO
  simpa using this
 have hW : ((w.alloc (.cells (tmA 120 c ta tb ga va pa gn gc vn vc pn pc tat tto) 76)).alloc rbO).heap.size = w.heap.size + 2 := by simp
 have HB0 : Hid _ := B0
 have HHK : Hid (∀ X, Below w.heap.size w X -> Ck b L S 0 0 m X) := fun X hX => hk.below hX
 have HLL : Hid (∀ X, Below w.heap.size w X -> Ls X (.slice ga gn gc) ts) := fun X hX => hG.below hX
 have FN : Hid (∀ X, Below w.heap.size w X -> Calls Tryz.prog 139 #[.pointer (some ⟨b, 0, none⟩), .int .u8 (c : Int)] X fun e w' => e = .returned (.int .i64 (-1)) /\ w' = X) := by
  intro X hX
  refine (zij b L S 0 0 m c (skl st) X (hk.below hX) (hs.below hX) (by simp [skl]; exact hl) (by omega) (fun x hx => (hst.skl2 x hx).1)).mono ?_
  rintro e w' ⟨z, rfl, hl', rfl⟩
  refine ⟨?_, rfl⟩
  rcases id hl' with ⟨rfl, _⟩ | ⟨k, x, rfl, hx, _⟩
  · rfl
  · exact absurd ((env_some hl' hx).symm.trans hz) (by simp)
 have CN : Hid _ := zgg c hc
 clear h mv hk hs hG B0 hz
 go_enter Tryz.func98, Tryz.ntmps98
 go_wp2_with fail
 generalize (w.alloc (.cells (tmA 120 c ta tb ga va pa gn gc vn vc pn pc tat tto) 76)).alloc rbO = X at *
 have xc1 : X.cell? ⟨w.heap.size, 1, none⟩ = some (.int .u8 (c : Int)) := cbl hbx
 have xc7 : X.cell? ⟨w.heap.size, 7, none⟩ = some (.int .i64 (tat : Int)) := cbl hbx
 refine (CN.out _).mono ?_
 rintro e w' ⟨rfl, rfl⟩
 go_wp2_with fail
 refine (FN.out _ HB0.out).mono ?_
 rintro e w'' ⟨rfl, rfl⟩
 go_wp2_with fail
 refine (zch b L S 0 m 3 tat _ (HHK.out _ HB0.out)).mono ?_
 rintro e w2 ⟨g2, cap2, rfl, R2, hg2, C2, G2⟩
 have hb2 := (G2.block (w.heap.size + 1) (by omega) (by simp; omega)).trans hrx
 have c2 := zab hb2
 have z2 := zae hb2
 have HP : Hid (∀ u cap, CPost B b L m st N (.error (3, tat)) w (.returned (.agg #[.slice (some ⟨g2, 0, none⟩) 1 cap])) (w2.setCell ⟨w.heap.size + 1, 0, none⟩ u)) := by
  intro u cap
  exact zdw HM.out (by decide) hN HB0.out R2 hg2 C2 G2 (by omega) (by omega) hblt cap
 clear R2 C2 G2 hg2
 go_wp2_with fail
 refine zag rfl rfl (zac hb2) ?_
 exact HP.out _ _
theorem named_found (B b : Nat) (L : Value) (m N : Nat) (st : List Se) (c ta tb : Nat) (ga va pa : Option Addr) (gn gc vn vc pn pc tat tto : Nat) (ts : List Ty) (w : World) (h : Cs B b L none m st w) (hst : StOk st) (hl : st.length <= 100000) (hm : m = 50000) (hN : 1 <= N)
 (hG : Ls w (.slice ga gn gc) ts) (hgl : ts.length <= 60000) (hgs : ∀ u ∈ ts, sz u <= 60000) (hc : 97 <= c /\ c < 123) (s : Sch) (hz : envSt st c = some s) :
 Calls Tryz.prog 98 #[.pointer (some ⟨b, 0, none⟩), .agg (tmA 120 c ta tb ga va pa gn gc vn vc pn pc tat tto)] w (CPost B b L m st N (zap s ts tat) w) := by
 obtain ⟨S, hk, hs, mv⟩ := h.mv
 have hblt : b < w.heap.size := h.lt
 have HM : Hid (∀ (ε' : Ce) (w' : World), (∀ r, ε' = some r -> 1 <= r.1) -> Ck b L S (cErr ε') (cAt ε') m w' -> w.grownBy w' (some b) -> Cs B b L ε' m st w' /\ CFr b w w') := mv
 have HMM : Hid (m = 50000) := hm
 clear hm
 have HGN : Hid (gn = ts.length) := by obtain ⟨a, cap, e, _⟩ := hG; simp at e; exact e.2.1
 have HGS : Hid (∀ u ∈ ts, sz u <= 60000) := hgs
 have B0 : Below w.heap.size w ((w.alloc (.cells (tmA 120 c ta tb ga va pa gn gc vn vc pn pc tat tto) 76)).alloc rbO) := (bal w _).alloc (by simp) _
 have hbx : ((w.alloc (.cells (tmA 120 c ta tb ga va pa gn gc vn vc pn pc tat tto) 76)).alloc rbO).heap[w.heap.size]? = some (.cells (tmA 120 c ta tb ga va pa gn gc vn vc pn pc tat tto) 76 (0, 0)) := (Below.heap_alloc _ _ _ (by simp)).trans (heap_alloc_new w _)
 have hrx : ((w.alloc (.cells (tmA 120 c ta tb ga va pa gn gc vn vc pn pc tat tto) 76)).alloc rbO).heap[w.heap.size + 1]? = some (.cells #[.slice none 0 0] 33 (0, 0)) := by
  have := heap_alloc_new (w.alloc (.cells (tmA 120 c ta tb ga va pa gn gc vn vc pn pc tat tto) 76)) rbO
  simpa using this
 have hW : ((w.alloc (.cells (tmA 120 c ta tb ga va pa gn gc vn vc pn pc tat tto) 76)).alloc rbO).heap.size = w.heap.size + 2 := by simp
 have HB0 : Hid _ := B0
 have HHK : Hid (∀ X, Below w.heap.size w X -> Ck b L S 0 0 m X) := fun X hX => hk.below hX
 have HLL : Hid (∀ X, Below w.heap.size w X -> Ls X (.slice ga gn gc) ts) := fun X hX => hG.below hX
 obtain ⟨k, x, hlast, hx, hxc, hxs⟩ := env_at hz
 have FN : Hid (∀ X, Below w.heap.size w X -> Calls Tryz.prog 139 #[.pointer (some ⟨b, 0, none⟩), .int .u8 (c : Int)] X fun e w' => e = .returned (.int .i64 (k : Int)) /\ w' = X) := by
  intro X hX
  refine (zij b L S 0 0 m c (skl st) X (hk.below hX) (hs.below hX) (by simp [skl]; exact hl) (by omega) (fun x hx => (hst.skl2 x hx).1)).mono ?_
  rintro e w' ⟨z, rfl, hl', rfl⟩
  rw [zfp hl' hlast]
  exact ⟨rfl, rfl⟩
 have CN : Hid _ := zgg c hc
 have HWT : zbc ⟨#[]⟩ = .error 0 := by kernel_rfl
 have RT : Hid (∀ X, Calls Tryz.prog 23 #[.string ⟨#[]⟩] X fun e w' => Below X.heap.size X w' /\ ∃ g n cap, e = .returned (.tuple #[.agg #[.slice (some ⟨g, 0, none⟩) n cap], .int .i64 0])) := by
  intro X
  refine (zna ⟨#[]⟩ X (by decide)).mono ?_
  rintro e w' ⟨hb, hp⟩
  rw [HWT] at hp
  exact ⟨hb, hp⟩
 obtain ⟨t, v⟩ := s
 have hmem : ∃ y ∈ st, x = (y.c, y.t, y.o) := by
  have := List.mem_of_getElem? hx
  obtain ⟨y, hy, e⟩ := List.mem_map.1 this
  exact ⟨y, hy, e.symm⟩
 obtain ⟨y, hy, rfl⟩ := hmem
 simp only [Prod.mk.injEq] at hxs
 obtain ⟨rfl, rfl⟩ := hxs
 obtain ⟨hy1, hyok, hysz, hyl, hy9⟩ := hst y hy
 have hkl : k < st.length := by have := (List.getElem?_eq_some_iff.1 hx).1; simpa [skl] using this
 obtain ⟨a, cap, hSe, hv⟩ := hs
 rw [show (skl st).length = st.length by simp [skl]] at hSe
 subst hSe
 have HV : Hid (∀ X, Below w.heap.size w X -> ∃ g h cp va vc, a = some ⟨g, 0, none⟩ /\ g < w.heap.size /\ X.cell? ⟨g, k * 3 + 1, none⟩ = some (.slice (some ⟨h, 0, none⟩) (sz y.t) cp) /\ Rg h y.t X /\ X.cell? ⟨g, k * 3 + 2, none⟩ = some (.slice va y.o.length vc) /\ Is X (.slice va y.o.length vc) (y.o.map (· + 30))) := by
  intro X hX
  rcases hv with e | ⟨g, rfl, hg, h⟩
  · rw [e] at hx; simp at hx
  · obtain ⟨h', cp, V, h1, h2, h3, h4, h5⟩ := h k _ hx
    obtain ⟨va, vc, rfl, h6⟩ := h5
    rw [List.length_map] at *
    exact ⟨g, h', cp, va, vc, rfl, hg, (hX.cell (p := ⟨g, _, none⟩) hg).trans h2, h3.below hX, (hX.cell (p := ⟨g, _, none⟩) hg).trans h4, Is.below ⟨va, vc, by rw [List.length_map], h6⟩ hX⟩
 have HOT : Hid (Ok y.t) := hyok
 have HTS : Hid (sz y.t <= 60000) := hysz
 have HVM : Hid (y.o.length <= 60000) := hyl
 have HV9 : Hid (∀ o ∈ y.o, 970 <= o) := hy9
 clear h mv hk hG B0 hz hv hx hlast hy hyok hysz hyl hy9 hxc hy1 HWT hst
 generalize y.t = t at *
 generalize y.o = v at *
 generalize hnn : st.length = sl at *
 clear hnn
 go_enter Tryz.func98, Tryz.ntmps98
 go_wp2_with fail
 generalize (w.alloc (.cells (tmA 120 c ta tb ga va pa gn gc vn vc pn pc tat tto) 76)).alloc rbO = W at *
 have xc1 : W.cell? ⟨w.heap.size, 1, none⟩ = some (.int .u8 (c : Int)) := cbl hbx
 refine (CN.out _).mono ?_
 rintro e w' ⟨rfl, rfl⟩
 go_wp2_with fail
 refine (FN.out _ HB0.out).mono ?_
 rintro e w'' ⟨rfl, rfl⟩
 go_wp2_with fail
 refine (RT.out _).mono ?_
 rintro e w1 ⟨b1, g1, n1, cap1, rfl⟩
 have hmk : ∀ X, (Instr.makeSlice 63 (.int .i64 0) (.int .i64 0)).run Tryz.prog X = .ok (.slice (some ⟨X.heap.size, 0, none⟩) 0 0) (X.alloc (.cells #[] 3)) := fun X => by kernel_rfl
 have bA : Below w1.heap.size w1 ((w1.alloc (tbO g1 n1 cap1)).alloc (.cells #[] 3)) := (bal w1 _).alloc (by simp) _
 have bY : Below w''.heap.size w'' ((w1.alloc (tbO g1 n1 cap1)).alloc (.cells #[] 3)) := b1.trans (bA.mono b1.size)
 have sY : ((w1.alloc (tbO g1 n1 cap1)).alloc (.cells #[] 3)).heap.size = w1.heap.size + 2 := by simp
 have kY : ((w1.alloc (tbO g1 n1 cap1)).alloc (.cells #[] 3)).heap[w1.heap.size]? = some (.cells #[.slice (some ⟨g1, 0, none⟩) n1 cap1] 33 (0, 0)) := (Below.heap_alloc _ _ _ (by simp)).trans (heap_alloc_new w1 _)
 have s1 := b1.size
 clear bA RT CN FN
 go_wp2_with fail
 generalize (w1.alloc (tbO g1 n1 cap1)).alloc (.cells #[] 3) = Y at *
 have HBY : Hid (Below w.heap.size w Y) := HB0.out.trans (bY.mono HB0.out.size)
 go_loopw [12] (fun i wr => i = .int .i64 0 /\ wr = Y) (fun _ _ => 0)
 case atStart => exact ⟨rfl, rfl⟩
 case round =>
  obtain ⟨rfl, rfl⟩ := hrel
  obtain ⟨g, h, cp, va', vc', rfl, hg, y1, R, y2, I⟩ := HV.out _ HBY.out
  have HRt0 : Hid (Rg h t wr) := R
  have HIs0 : Hid (Is wr (.slice va' v.length vc') (v.map (· + 30))) := I
  have cb := HHK.out _ HBY.out
  have yb : wr.cell? ⟨b, 1, none⟩ = some (.slice (some ⟨g, 0, none⟩) sl cap) := cbl cb
  have ykc := zab kY
  have ykf := zae kY
  have hne : h ≠ w1.heap.size := R.notBox ykc
  have bx4 := (bY.block w.heap.size (by omega)).trans hbx
  have rx4 := (bY.block (w.heap.size + 1) (by omega)).trans hrx
  clear R I cb HV
  have e1 : (0 : Int) <= (k : Int) := by omega
  have e2 : (k : Int) < (sl : Int) := by omega
  generalize hnt : sz t = nt at *
  have HNT : Hid (sz t = nt) := hnt
  generalize hvl : v.length = vl at *
  have HVL : Hid (vl = v.length) := hvl.symm
  clear hnt hvl
  have kf : ∀ x j, x ≠ w1.heap.size -> (wr.setCell ⟨w1.heap.size, 0, none⟩ (.slice (some ⟨h, 0, none⟩) nt cp)).cell? ⟨x, j, none⟩ = wr.cell? ⟨x, j, none⟩ := fun x j hx => cell_far wr _ _ (fun e => hx e.symm)
  have yb' := (kf b 1 (by omega)).trans yb
  have y2' := (kf g (k * 3 + 2) (by omega)).trans y2
  have BX : Below w.heap.size w (wr.setCell ⟨w1.heap.size, 0, none⟩ (.slice (some ⟨h, 0, none⟩) nt cp)) := HBY.out.setCell (p := ⟨w1.heap.size, 0, none⟩) (by show w.heap.size <= w1.heap.size; omega) _
  have HBX : Hid _ := BX
  have HGr : wr.grownBy (wr.setCell ⟨w1.heap.size, 0, none⟩ (.slice (some ⟨h, 0, none⟩) nt cp)) (some w1.heap.size) := zai _ _
  have HRt : Hid _ := HRt0.out.kept HGr (by simp; exact fun e => hne e.symm)
  have kbx := zac (v := .slice (some ⟨h, 0, none⟩) nt cp) kY
  have rbx : (wr.setCell ⟨w1.heap.size, 0, none⟩ (.slice (some ⟨h, 0, none⟩) nt cp)).heap[w.heap.size + 1]? = _ := (Below.heap_setCell wr _ _ _ (by show w.heap.size + 1 ≠ w1.heap.size; omega)).trans rx4
  have bx5 : (wr.setCell ⟨w1.heap.size, 0, none⟩ (.slice (some ⟨h, 0, none⟩) nt cp)).heap[w.heap.size]? = _ := (Below.heap_setCell wr _ _ _ (by show w.heap.size ≠ w1.heap.size; omega)).trans bx4
  have sX : (wr.setCell ⟨w1.heap.size, 0, none⟩ (.slice (some ⟨h, 0, none⟩) nt cp)).heap.size = w1.heap.size + 2 := by simp only [World.setCell, Array.size_modify]; exact sY
  have HIs : Hid (Is (wr.setCell ⟨w1.heap.size, 0, none⟩ (.slice (some ⟨h, 0, none⟩) nt cp)) (.slice va' vl vc') (v.map (· + 30))) := HIs0.out.at' (by rw [sX, sY]; exact Nat.le_refl _) (fun g' z hz => Below.heap_setCell wr _ _ _ (by rintro rfl; rw [ykc] at hz; cases hz))
  have HLs : Hid _ := HLL.out _ HBX.out
  have HCk : Hid _ := HHK.out _ HBX.out
  have xc4 : (wr.setCell ⟨w1.heap.size, 0, none⟩ (.slice (some ⟨h, 0, none⟩) nt cp)).cell? ⟨w.heap.size, 4, none⟩ = some (.slice ga gn gc) := cbl bx5
  have xc7 : (wr.setCell ⟨w1.heap.size, 0, none⟩ (.slice (some ⟨h, 0, none⟩) nt cp)).cell? ⟨w.heap.size, 7, none⟩ = some (.int .i64 (tat : Int)) := cbl bx5
  have xc4' := xc4
  replace HTS : Hid (sz t <= 60000) := by unfold Hid; rw [HNT.out]; exact HTS.out
  replace HVM : Hid (v.length <= 60000) := by unfold Hid; rw [<- HVL.out]; exact HVM.out
  clear kf bx4 rx4 HRt0 HIs0 HHK HLL bY b1 BX HGr hbx hrx kY HB0 HBY
  have HT : Hid (zap (t, v) ts tat = if ts.length ≠ v.length then .error (4, tat) else if 50000 < sz (putT v ts t) then .error (8, tat) else .ok (putT v ts t)) := rfl
  by_cases hcnt : gn = vl
  · have hc1 : ((gn : Int) != (vl : Int)) = false := by rw [hcnt]; simp
    have HCN : Hid (ts.length = v.length) := by unfold Hid; rw [<- HGN.out, hcnt]; exact HVL.out
    clear hcnt
    go_wp2_with fail
    generalize wr.setCell ⟨w1.heap.size, 0, none⟩ (.slice (some ⟨h, 0, none⟩) nt cp) = X at *
    have sXl : w1.heap.size + 2 = X.heap.size := sX.symm
    have SZ : Hid (∀ Y, Below X.heap.size X Y -> Calls Tryz.prog 140 #[.agg #[.slice (some ⟨h, 0, none⟩) nt cp], .slice va' vl vc', .slice ga gn gc] Y fun e w' => e = .returned (.int .i64 (sz (putT v ts t) : Int)) /\ Below Y.heap.size Y w') := by
     intro Y hY
     have := zov t v ts h cp (.slice va' vl vc') (.slice ga gn gc) Y (HRt.out.below hY) HTS.out (HIs.out.below hY) (Ls.below HLs.out hY) HCN.out HVM.out HGS.out HV9.out
     rw [HNT.out] at this
     exact this
    have cm : X.cell? ⟨b, 4, none⟩ = some (.int .i64 50000) := by rw [Lib.cell_of_heap HCk.out, HMM.out]; rfl
    have ck : X.cell? ⟨w1.heap.size, 0, none⟩ = some (.slice (some ⟨h, 0, none⟩) nt cp) := zab kbx
    have bX1 : Below X.heap.size X X.drew := (Below.refl _ X).drew
    have HX1 : Hid (Calls Tryz.prog 140 #[.agg #[.slice (some ⟨h, 0, none⟩) nt cp], .slice va' vl vc', .slice ga gn gc] X.drew fun e w' => e = .returned (.int .i64 (sz (putT v ts t) : Int)) /\ Below X.drew.heap.size X.drew w') := SZ.out X.drew bX1
    generalize hS : sz (putT v ts t) = S1 at *
    have HS1 : Hid (sz (putT v ts t) = S1) := hS
    clear hS bX1
    refine wp_region_held_drew (S := (fun wq => wq.cell? ⟨b, 4, none⟩ = some (.int .i64 50000) /\ wq.cell? ⟨w1.heap.size, 0, none⟩ = some (.slice (some ⟨h, 0, none⟩) nt cp) /\ wq.cell? ⟨w.heap.size, 4, none⟩ = some (.slice ga gn gc))) (by kernel_rfl) (⟨cm, ck, xc4⟩) (fun hS => ?_)
    refine tkS 0 (.pointer (some ⟨b, 0, none⟩)) hS ?_
    refine tkS 1 (.pointer (some ⟨b, 0, none⟩)) hS ?_
    refine tkS 2 (.pointer (some ⟨b, 4, none⟩)) hS ?_
    refine tkL 3 (.int .i64 50000) hS ?_
    refine tkS 4 (.bool true) hS ?_
    refine tkS 5 (.bool true) hS ?_
    refine tkL 6 (.agg #[.slice (some ⟨h, 0, none⟩) nt cp]) hS ?_
    refine tkS 7 (.slice va' vl vc') hS ?_
    refine tkS 8 (.pointer (some ⟨w.heap.size, 4, none⟩)) hS ?_
    refine tkL 9 (.slice ga gn gc) hS ?_
    refine tkS 11 (.pointer (some ⟨b, 0, none⟩)) hS ?_
    refine tkS 12 (.pointer (some ⟨b, 0, none⟩)) hS ?_
    refine tkS 13 (.pointer (some ⟨b, 4, none⟩)) hS ?_
    refine tkL 14 (.int .i64 50000) hS ?_
    refine rd1 10 (fun KK hK => ?_)
    (try simp only [List.getElem_toArray, List.getElem_cons_succ, List.getElem_cons_zero])
    go_simp
    go_at_call 140
    refine (HX1.out).mono ?_
    rintro e wz ⟨rfl, bz⟩
    have ym : wz.cell? ⟨b, 4, none⟩ = some (.int .i64 50000) := (bz.cell (p := ⟨b, 4, none⟩) (show b < X.heap.size by omega)).trans cm
    have yk : wz.cell? ⟨w1.heap.size, 0, none⟩ = some (.slice (some ⟨h, 0, none⟩) nt cp) := (bz.cell (p := ⟨w1.heap.size, 0, none⟩) (show w1.heap.size < X.heap.size by omega)).trans ck
    have y4 : wz.cell? ⟨w.heap.size, 4, none⟩ = some (.slice ga gn gc) := (bz.cell (p := ⟨w.heap.size, 4, none⟩) (show w.heap.size < X.heap.size by omega)).trans xc4
    (try dsimp only)
    refine hK.out _ _ ⟨ym, yk, y4⟩ (fun hS => nrm ?_)
    refine tkS 15 (.bool (decide ((50000 : Int) < (S1 : Int)))) hS ?_
    refine tkS 16 (.bool (decide ((50000 : Int) < (S1 : Int)))) hS ?_
    refine wpAnyH_done (by kernel_rfl) ?_ _
    have BZ : Below X.heap.size X wz := ⟨bz.os, bz.tape, bz.output, bz.size, bz.block⟩
    have HBZ : Hid (Below w.heap.size w wz) := HBX.out.trans (BZ.mono HBX.out.size)
    have HCz : Hid (Ck b L (.slice (some ⟨g, 0, none⟩) sl cap) 0 0 m wz) := Ck.below HCk.out BZ
    have z7 := (BZ.cell (p := ⟨w.heap.size, 7, none⟩) (show w.heap.size < X.heap.size by omega)).trans xc7
    have zr := (BZ.block (w.heap.size + 1) (by omega)).trans rbx
    have zsz := BZ.size
    generalize hbg : decide ((50000 : Int) < (S1 : Int)) = bg at *
    have HBG : Hid (decide ((50000 : Int) < (S1 : Int)) = bg) := hbg
    clear hbg
    cases bg
    · have hbig : ¬ (50000 : Int) < (S1 : Int) := of_decide_eq_false HBG.out
      have HR : Hid (zap (t, v) ts tat = .ok (putT v ts t)) := by
       unfold Hid
       rw [HT.out, if_neg (fun e => e HCN.out), if_neg (by omega)]
      have PU : Hid (Calls Tryz.prog 41 #[.agg #[.slice (some ⟨h, 0, none⟩) nt cp], .slice va' vl vc', .slice ga gn gc] wz (UPost (putT v ts t) wz)) := by
       have := zqb t HOT.out v ts h cp (.slice va' vl vc') (.slice ga gn gc) wz (HRt.out.below BZ) HTS.out (HIs.out.below BZ) (Ls.below HLs.out BZ) HCN.out HVM.out HV9.out (by rw [HS1.out]; omega)
       rw [HNT.out] at this
       exact this
      clear hbig HX1 SZ
      go_wp2_with fail
      refine PU.out.mono ?_
      rintro e w2 ⟨g2, cap2, rfl, R2, b2⟩
      have hb2 := (b2.block (w.heap.size + 1) (by omega)).trans zr
      have c2 := zab hb2
      have z2 := zae hb2
      have HP : Hid (∀ u cap, CPost B b L m st N (zap (t, v) ts tat) w (.returned (.agg #[.slice (some ⟨g2, 0, none⟩) (sz (putT v ts t)) cap])) (w2.setCell ⟨w.heap.size + 1, 0, none⟩ u)) := by
       intro u cap
       rw [HR.out]
       exact znn HM.out (HBZ.out.trans (b2.mono HBZ.out.size)) R2 (R2.notBox c2) (HCz.out.below b2) (by omega) hblt cap
      clear R2 HR HT PU HS1
      generalize sz (putT v ts t) = S2 at *
      go_wp2_with fail
      refine zag rfl rfl (zac hb2) ?_
      exact HP.out _ _
    · have hbig : (50000 : Int) < (S1 : Int) := of_decide_eq_true HBG.out
      have HR : Hid (zap (t, v) ts tat = .error (8, tat)) := by
       unfold Hid
       rw [HT.out, if_neg (fun e => e HCN.out), if_pos (by omega)]
      clear hbig HX1 SZ
      go_wp2_with fail
      refine (zch b L (.slice (some ⟨g, 0, none⟩) sl cap) 0 m 8 tat wz HCz.out).mono ?_
      rintro e w2 ⟨g2, cap2, rfl, R2, hg2, C2, G2⟩
      have hb2 := (G2.block (w.heap.size + 1) (by omega) (by simp; omega)).trans zr
      have c2 := zab hb2
      have z2 := zae hb2
      have HP : Hid (∀ u cap, CPost B b L m st N (zap (t, v) ts tat) w (.returned (.agg #[.slice (some ⟨g2, 0, none⟩) 1 cap])) (w2.setCell ⟨w.heap.size + 1, 0, none⟩ u)) := by
       intro u cap
       rw [HR.out]
       exact zdw HM.out (by decide) hN HBZ.out R2 hg2 C2 G2 (by omega) (by omega) hblt cap
      clear R2 C2 G2 hg2 HR HT
      go_wp2_with fail
      refine zag rfl rfl (zac hb2) ?_
      exact HP.out _ _
  · have hc1 : ((gn : Int) != (vl : Int)) = true := by rw [bne_iff_ne]; omega
    have HR : Hid (zap (t, v) ts tat = .error (4, tat)) := by
     unfold Hid
     rw [HT.out, if_pos (by rw [<- HGN.out, <- HVL.out]; exact hcnt)]
    clear hcnt
    go_wp2_with fail
    generalize wr.setCell ⟨w1.heap.size, 0, none⟩ (.slice (some ⟨h, 0, none⟩) nt cp) = X at *
    have sXl : w1.heap.size + 2 = X.heap.size := sX.symm
    refine (zch b L (.slice (some ⟨g, 0, none⟩) sl cap) 0 m 4 tat X HCk.out).mono ?_
    rintro e w2 ⟨g2, cap2, rfl, R2, hg2, C2, G2⟩
    have hb2 := (G2.block (w.heap.size + 1) (by omega) (by simp; omega)).trans rbx
    have c2 := zab hb2
    have z2 := zae hb2
    have HP : Hid (∀ u cap, CPost B b L m st N (zap (t, v) ts tat) w (.returned (.agg #[.slice (some ⟨g2, 0, none⟩) 1 cap])) (w2.setCell ⟨w.heap.size + 1, 0, none⟩ u)) := by
     intro u cap
     rw [HR.out]
     exact zdw HM.out (by decide) hN HBX.out R2 hg2 C2 G2 (by omega) (by omega) hblt cap
    clear R2 C2 G2 hg2 HR HT
    go_wp2_with fail
    refine zag rfl rfl (zac hb2) ?_
    exact HP.out _ _
theorem set_at {w : World} {g k : Nat} {u : Value} {A : Array Value} {T : TypeId} (h : w.heap[g]? = some (.cells A T (0, 0))) : (w.setCell ⟨g, k, none⟩ u).heap[g]? = some (.cells (A.setIfInBounds k u) T (0, 0)) := by
 simp [World.setCell, Array.getElem?_modify, h]
structure Lt (Y : World) (gv : Nat) (v : List Nat) (n k : Nat) (wr : World) : Prop where
 grown : Y.grownBy wr (some gv)
 size : wr.heap.size = Y.heap.size
 row : ∃ A, wr.heap[gv]? = some (.cells A 3 (0, 0)) /\ A.size = n /\ ∀ j o, j < k -> v[j]? = some o -> A[j]? = some (.int .i64 ((o + 30 : Nat) : Int))
theorem Lt.step {Y : World} {gv : Nat} {v : List Nat} {n k o : Nat} {wr : World} (h : Lt Y gv v n k wr) (hk : k < n) (hv : v[k]? = some o) : Lt Y gv v n (k + 1) (wr.setCell ⟨gv, k, none⟩ (.int .i64 ((o + 30 : Nat) : Int))) := by
 obtain ⟨A, hA, hs, hr⟩ := h.row
 refine ⟨h.grown.trans ⟨rfl, rfl, rfl, by simp [World.setCell], fun q _ hn => Below.heap_setCell _ _ _ _ (by simpa using hn)⟩, by simp only [World.setCell, Array.size_modify]; exact h.size, _, set_at hA, by simpa using hs, fun j p hj hp => ?_⟩
 rcases Nat.lt_or_ge j k with h1 | h1
 · rw [Array.getElem?_setIfInBounds_ne (by omega)]; exact hr j p h1 hp
 · obtain rfl : j = k := by omega
   rw [hv] at hp
   obtain rfl := Option.some.inj hp
   rw [Array.getElem?_setIfInBounds_self_of_lt (by omega)]
theorem named_cons (B b : Nat) (L : Value) (m N : Nat) (st : List Se) (c ta tb : Nat) (ga va pa : Option Addr) (gn gc vn vc pn pc tat tto : Nat) (ts : List Ty) (w : World) (h : Cs B b L none m st w) (hst : StOk st) (hl : st.length <= 100000) (hm : m = 50000) (hN : 1 <= N)
 (hG : Ls w (.slice ga gn gc) ts) (hgl : ts.length <= 60000) (hgs : ∀ u ∈ ts, sz u <= 60000) (hc : c < 256) (cs nb : ByteArray) (v : List Nat) (t : Ty) (hcs : cs.size <= 60000) (hct : zbc cs = .ok t) (hvn : nb.size = v.length) (hn2 : nb.size <= 2) (hv9 : ∀ o ∈ v, 970 <= o)
 (hnv : ∀ k (h : k < nb.size), 97 <= nb[k].toNat /\ nb[k].toNat < 123 /\ v[k]? = some (970 + 10 * (nb[k].toNat - 97)))
 (CN : Hid (∀ X, Calls Tryz.prog 108 #[.int .u8 (c : Int)] X fun e w' => e = .returned (.tuple #[.string cs, .string nb, .bool true]) /\ w' = X)) :
 Calls Tryz.prog 98 #[.pointer (some ⟨b, 0, none⟩), .agg (tmA 120 c ta tb ga va pa gn gc vn vc pn pc tat tto)] w (CPost B b L m st N (zap (t, v) ts tat) w) := by
 obtain ⟨S, hk, hs, mv⟩ := h.mv
 have hblt : b < w.heap.size := h.lt
 have HM : Hid (∀ (ε' : Ce) (w' : World), (∀ r, ε' = some r -> 1 <= r.1) -> Ck b L S (cErr ε') (cAt ε') m w' -> w.grownBy w' (some b) -> Cs B b L ε' m st w' /\ CFr b w w') := mv
 have HMM : Hid (m = 50000) := hm
 clear hm
 have HGN : Hid (gn = ts.length) := by obtain ⟨a, cap, e, _⟩ := hG; simp at e; exact e.2.1
 have HGS : Hid (∀ u ∈ ts, sz u <= 60000) := hgs
 have B0 : Below w.heap.size w ((w.alloc (.cells (tmA 120 c ta tb ga va pa gn gc vn vc pn pc tat tto) 76)).alloc rbO) := (bal w _).alloc (by simp) _
 have hbx : ((w.alloc (.cells (tmA 120 c ta tb ga va pa gn gc vn vc pn pc tat tto) 76)).alloc rbO).heap[w.heap.size]? = some (.cells (tmA 120 c ta tb ga va pa gn gc vn vc pn pc tat tto) 76 (0, 0)) := (Below.heap_alloc _ _ _ (by simp)).trans (heap_alloc_new w _)
 have hrx : ((w.alloc (.cells (tmA 120 c ta tb ga va pa gn gc vn vc pn pc tat tto) 76)).alloc rbO).heap[w.heap.size + 1]? = some (.cells #[.slice none 0 0] 33 (0, 0)) := by
  have := heap_alloc_new (w.alloc (.cells (tmA 120 c ta tb ga va pa gn gc vn vc pn pc tat tto) 76)) rbO
  simpa using this
 have hW : ((w.alloc (.cells (tmA 120 c ta tb ga va pa gn gc vn vc pn pc tat tto) 76)).alloc rbO).heap.size = w.heap.size + 2 := by simp
 have HB0 : Hid _ := B0
 have HHK : Hid (∀ X, Below w.heap.size w X -> Ck b L S 0 0 m X) := fun X hX => hk.below hX
 have HLL : Hid (∀ X, Below w.heap.size w X -> Ls X (.slice ga gn gc) ts) := fun X hX => hG.below hX
 have FN : Hid (∀ X, Below w.heap.size w X -> Calls Tryz.prog 139 #[.pointer (some ⟨b, 0, none⟩), .int .u8 (c : Int)] X fun e w' => (∃ z, e = .returned (.int .i64 z)) /\ w' = X) := by
  intro X hX
  refine (zij b L S 0 0 m c (skl st) X (hk.below hX) (hs.below hX) (by simp [skl]; exact hl) (by omega) (fun x hx => (hst.skl2 x hx).1)).mono ?_
  rintro e w' ⟨z, rfl, hl', rfl⟩
  exact ⟨⟨z, rfl⟩, rfl⟩
 have RT : Hid (∀ X, Calls Tryz.prog 23 #[.string cs] X fun e w' => Below X.heap.size X w' /\ ∃ g cap, e = .returned (.tuple #[.agg #[.slice (some ⟨g, 0, none⟩) (sz t) cap], .int .i64 (-1)]) /\ Rg g t w' /\ sz t <= cs.size) := by
  intro X
  refine (zna cs X hcs).mono ?_
  rintro e w' ⟨hb, hp⟩
  rw [hct] at hp
  exact ⟨hb, hp⟩
 have HCS : Hid (cs.size <= 60000) := hcs
 have HVM : Hid (v.length <= 60000) := by unfold Hid; omega
 have HV9 : Hid (∀ o ∈ v, 970 <= o) := hv9
 have HVL : Hid (nb.size = v.length) := hvn
 have HNV : Hid (∀ k (h : k < nb.size), 97 <= nb[k].toNat /\ nb[k].toNat < 123 /\ v[k]? = some (970 + 10 * (nb[k].toNat - 97))) := hnv
 clear h mv hk hs hG B0 hcs hct hst hl hvn hv9 hnv
 go_enter Tryz.func98, Tryz.ntmps98
 go_wp2_with fail
 generalize (w.alloc (.cells (tmA 120 c ta tb ga va pa gn gc vn vc pn pc tat tto) 76)).alloc rbO = W at *
 have xc1 : W.cell? ⟨w.heap.size, 1, none⟩ = some (.int .u8 (c : Int)) := cbl hbx
 refine (CN.out _).mono ?_
 rintro e w' ⟨rfl, rfl⟩
 go_wp2_with fail
 refine (FN.out _ HB0.out).mono ?_
 rintro e w'' ⟨⟨z, rfl⟩, rfl⟩
 go_wp2_with fail
 refine (RT.out _).mono ?_
 rintro e w1 ⟨b1, h, cp, rfl, R1, hts⟩
 have HTS : Hid (sz t <= 60000) := Nat.le_trans hts HCS.out
 have HOT : Hid (Ok t) := R1.ok
 have hmk := run_make_row' (P := Tryz.prog) 63 3 (.int .i64 0) 8 Tryz.underlying63 infoIntN rfl .i64 .i64 nb.size (by omega) (by omega)
 generalize hnt : sz t = nt at *
 have HNT : Hid (sz t = nt) := hnt
 clear hnt hts
 replace HTS : Hid (sz t <= 60000) := by unfold Hid; rw [HNT.out]; exact HTS.out
 have hA0 : (madeCells #[.int .i64 0] nb.size).size = nb.size := size_madeCells _ _
 generalize madeCells #[.int .i64 0] nb.size = A0 at *
 have bA : Below w1.heap.size w1 ((w1.alloc (tbO h nt cp)).alloc (.cells A0 3)) := (bal w1 _).alloc (by simp) _
 have bY : Below w''.heap.size w'' ((w1.alloc (tbO h nt cp)).alloc (.cells A0 3)) := b1.trans (bA.mono b1.size)
 have sY : ((w1.alloc (tbO h nt cp)).alloc (.cells A0 3)).heap.size = w1.heap.size + 2 := by simp
 have kY : ((w1.alloc (tbO h nt cp)).alloc (.cells A0 3)).heap[w1.heap.size]? = some (.cells #[.slice (some ⟨h, 0, none⟩) nt cp] 33 (0, 0)) := (Below.heap_alloc _ _ _ (by simp)).trans (heap_alloc_new w1 _)
 have vY : ((w1.alloc (tbO h nt cp)).alloc (.cells A0 3)).heap[w1.heap.size + 1]? = some (.cells A0 3 (0, 0)) := by
  have := heap_alloc_new (w1.alloc (tbO h nt cp)) (.cells A0 3)
  simpa using this
 have HR1 : Hid (Rg h t ((w1.alloc (tbO h nt cp)).alloc (.cells A0 3))) := R1.below bA
 have hhl : h < w1.heap.size := R1.lt
 have s1 := b1.size
 clear bA RT CN FN R1
 go_wp2_with fail
 generalize (w1.alloc (tbO h nt cp)).alloc (.cells A0 3) = Y at *
 generalize hgv : w1.heap.size + 1 = gv at *
 have HGV : Hid (w1.heap.size + 1 = gv) := hgv
 have sgv : w1.heap.size < gv := by omega
 have sgv2 : Y.heap.size = gv + 1 := by omega
 clear hgv
 have HBY : Hid (Below w.heap.size w Y) := HB0.out.trans (bY.mono HB0.out.size)
 have HL0 : Hid (Lt Y gv v nb.size 0 Y) := ⟨⟨rfl, rfl, rfl, Nat.le_refl _, fun _ _ _ => rfl⟩, rfl, A0, vY, hA0, fun j o hj => by omega⟩
 have HKY : Hid (Y.heap[w1.heap.size]? = some (.cells #[.slice (some ⟨h, 0, none⟩) nt cp] 33 (0, 0)) /\ Y.heap[w.heap.size + 1]? = some (.cells #[.slice none 0 0] 33 (0, 0)) /\ Y.heap[w.heap.size]? = some (.cells (tmA 120 c ta tb ga va pa gn gc vn vc pn pc tat tto) 76 (0, 0))) := ⟨kY, (bY.block (w.heap.size + 1) (by omega)).trans hrx, (bY.block w.heap.size (by omega)).trans hbx⟩
 clear bY b1 hbx hrx kY vY hA0 hmk HB0
 go_loopw [12] (fun i wr => ∃ k : Nat, i = .int .i64 (k : Int) /\ k <= nb.size /\ Hid (Lt Y gv v nb.size k wr)) (fun i _ => nb.size - (intOf i).toNat)
 case atStart => exact ⟨0, rfl, Nat.zero_le _, HL0⟩
 case round =>
  clear HL0
  obtain ⟨k, rfl, hkn, HLt⟩ := hrel
  rcases Nat.lt_or_ge k nb.size with hlt | hge
  · obtain ⟨hx1, hx2, hx3⟩ := HNV.out k hlt
    obtain ⟨A, hA, hAs, -⟩ := HLt.out.row
    have HST : Hid (Lt Y gv v nb.size (k + 1) (wr.setCell ⟨gv, k, none⟩ (.int .i64 ((970 + 10 * (nb[k].toNat - 97) + 30 : Nat) : Int)))) := HLt.out.step hlt hx3
    obtain ⟨u0, hu0⟩ : ∃ u0, A[k]? = some u0 := ⟨_, Array.getElem?_eq_getElem (by omega)⟩
    have cA : wr.cell? ⟨gv, k, none⟩ = some u0 := by rw [Lib.cell_of_heap hA]; exact hu0
    have fA : wr.frozen? ⟨gv, k, none⟩ = false := by simp [World.frozen?, hA]
    have ex : ((970 + 10 * (nb[k].toNat - 97) + 30 : Nat) : Int) = 1000 + 10 * ((nb[k].toNat : Int) - 97) := by omega
    rw [ex] at HST
    have u1 : IntKind.u8.wrap ((nb[k].toNat : Int) - 97) = (nb[k].toNat : Int) - 97 := IntWalk.u8_in _ ⟨by omega, by omega⟩
    have u2 : IntKind.i64.wrap ((nb[k].toNat : Int) - 97) = (nb[k].toNat : Int) - 97 := IntWalk.i64_in _ ⟨by omega, by omega⟩
    have u3 : IntKind.i64.wrap (10 * ((nb[k].toNat : Int) - 97)) = 10 * ((nb[k].toNat : Int) - 97) := IntWalk.i64_in _ ⟨by omega, by omega⟩
    have u4 : IntKind.i64.wrap (1000 + 10 * ((nb[k].toNat : Int) - 97)) = 1000 + 10 * ((nb[k].toNat : Int) - 97) := IntWalk.i64_in _ ⟨by omega, by omega⟩
    have e1 : (0 : Int) <= (k : Int) := by omega
    have e2 : (k : Int) < (nb.size : Int) := by omega
    clear hx3 ex hA hAs hu0
    go_wp2_with fail
    go_roundw
    case rel => exact ⟨k + 1, by simp, by omega, HST⟩
    case measure => simp [intOf]; omega
  · obtain rfl : k = nb.size := by omega
    have HL := HLt.out
    have far : ∀ x, x ≠ gv -> x < Y.heap.size -> wr.heap[x]? = Y.heap[x]? := fun x hx hl => HL.grown.block x hl (by simpa using hx)
    have sX : wr.heap.size = gv + 1 := HL.size.trans sgv2
    have HBX : Hid (Below w.heap.size w wr) := ⟨HL.grown.os.trans HBY.out.os, HL.grown.tape.trans HBY.out.tape, HL.grown.output.trans HBY.out.output, by have := HBY.out.size; omega, fun x hx => (far x (by omega) (by omega)).trans (HBY.out.block x hx)⟩
    have HRt : Hid (Rg h t wr) := HR1.out.at' (by omega) (far h (by omega) (by omega))
    have HIs : Hid (Is wr (.slice (some ⟨gv, 0, none⟩) nb.size nb.size) (v.map (· + 30))) := by
     obtain ⟨A, hA, hAs, hr⟩ := HL.row
     refine ⟨some ⟨gv, 0, none⟩, nb.size, by rw [List.length_map, HVL.out], .inr ⟨gv, rfl, by omega, fun j o hj => ?_⟩⟩
     rw [List.getElem?_map] at hj
     obtain ⟨p, hp, rfl⟩ := Option.map_eq_some_iff.1 hj
     rw [Lib.cell_of_heap hA]
     have hjl := (List.getElem?_eq_some_iff.1 hp).1
     exact hr j p (by rw [HVL.out]; exact hjl) hp
    have HLs : Hid (Ls wr (.slice ga gn gc) ts) := HLL.out _ HBX.out
    have HCk : Hid (Ck b L S 0 0 m wr) := HHK.out _ HBX.out
    have kbx := (far w1.heap.size (by omega) (by omega)).trans HKY.out.1
    have rbx := (far (w.heap.size + 1) (by omega) (by omega)).trans HKY.out.2.1
    have bx5 := (far w.heap.size (by omega) (by omega)).trans HKY.out.2.2
    have xc4 : wr.cell? ⟨w.heap.size, 4, none⟩ = some (.slice ga gn gc) := cbl bx5
    have xc7 : wr.cell? ⟨w.heap.size, 7, none⟩ = some (.int .i64 (tat : Int)) := cbl bx5
    clear far HHK HLL HBY HR1 HL HLt HKY bx5
    have HT : Hid (zap (t, v) ts tat = if ts.length ≠ v.length then .error (4, tat) else if 50000 < sz (putT v ts t) then .error (8, tat) else .ok (putT v ts t)) := rfl
    by_cases hcnt : gn = nb.size
    · have hc1 : ((gn : Int) != (nb.size : Int)) = false := by rw [hcnt]; simp
      have HCN : Hid (ts.length = v.length) := by unfold Hid; rw [<- HGN.out, hcnt]; exact HVL.out
      clear hcnt
      go_wp2_with fail
      generalize wr = X at *
      have SZ : Hid (∀ Y, Below X.heap.size X Y -> Calls Tryz.prog 140 #[.agg #[.slice (some ⟨h, 0, none⟩) nt cp], .slice (some ⟨gv, 0, none⟩) nb.size nb.size, .slice ga gn gc] Y fun e w' => e = .returned (.int .i64 (sz (putT v ts t) : Int)) /\ Below Y.heap.size Y w') := by
       intro Y hY
       have := zov t v ts h cp (.slice (some ⟨gv, 0, none⟩) nb.size nb.size) (.slice ga gn gc) Y (HRt.out.below hY) HTS.out (HIs.out.below hY) (Ls.below HLs.out hY) HCN.out HVM.out HGS.out HV9.out
       rw [HNT.out] at this
       exact this
      have cm : X.cell? ⟨b, 4, none⟩ = some (.int .i64 50000) := by rw [Lib.cell_of_heap HCk.out, HMM.out]; rfl
      have ck : X.cell? ⟨w1.heap.size, 0, none⟩ = some (.slice (some ⟨h, 0, none⟩) nt cp) := zab kbx
      have bX1 : Below X.heap.size X X.drew := (Below.refl _ X).drew
      have HX1 : Hid (Calls Tryz.prog 140 #[.agg #[.slice (some ⟨h, 0, none⟩) nt cp], .slice (some ⟨gv, 0, none⟩) nb.size nb.size, .slice ga gn gc] X.drew fun e w' => e = .returned (.int .i64 (sz (putT v ts t) : Int)) /\ Below X.drew.heap.size X.drew w') := SZ.out X.drew bX1
      generalize hS : sz (putT v ts t) = S1 at *
      have HS1 : Hid (sz (putT v ts t) = S1) := hS
      clear hS bX1
      refine wp_region_held_drew (S := (fun wq => wq.cell? ⟨b, 4, none⟩ = some (.int .i64 50000) /\ wq.cell? ⟨w1.heap.size, 0, none⟩ = some (.slice (some ⟨h, 0, none⟩) nt cp) /\ wq.cell? ⟨w.heap.size, 4, none⟩ = some (.slice ga gn gc))) (by kernel_rfl) (⟨cm, ck, xc4⟩) (fun hS => ?_)
      refine tkS 0 (.pointer (some ⟨b, 0, none⟩)) hS ?_
      refine tkS 1 (.pointer (some ⟨b, 0, none⟩)) hS ?_
      refine tkS 2 (.pointer (some ⟨b, 4, none⟩)) hS ?_
      refine tkL 3 (.int .i64 50000) hS ?_
      refine tkS 4 (.bool true) hS ?_
      refine tkS 5 (.bool true) hS ?_
      refine tkL 6 (.agg #[.slice (some ⟨h, 0, none⟩) nt cp]) hS ?_
      refine tkS 7 (.slice (some ⟨gv, 0, none⟩) nb.size nb.size) hS ?_
      refine tkS 8 (.pointer (some ⟨w.heap.size, 4, none⟩)) hS ?_
      refine tkL 9 (.slice ga gn gc) hS ?_
      refine tkS 11 (.pointer (some ⟨b, 0, none⟩)) hS ?_
      refine tkS 12 (.pointer (some ⟨b, 0, none⟩)) hS ?_
      refine tkS 13 (.pointer (some ⟨b, 4, none⟩)) hS ?_
      refine tkL 14 (.int .i64 50000) hS ?_
      refine rd1 10 (fun KK hK => ?_)
      (try simp only [List.getElem_toArray, List.getElem_cons_succ, List.getElem_cons_zero])
      go_simp
      go_at_call 140
      refine (HX1.out).mono ?_
      rintro e wz ⟨rfl, bz⟩
      have ym : wz.cell? ⟨b, 4, none⟩ = some (.int .i64 50000) := (bz.cell (p := ⟨b, 4, none⟩) (show b < X.heap.size by omega)).trans cm
      have yk : wz.cell? ⟨w1.heap.size, 0, none⟩ = some (.slice (some ⟨h, 0, none⟩) nt cp) := (bz.cell (p := ⟨w1.heap.size, 0, none⟩) (show w1.heap.size < X.heap.size by omega)).trans ck
      have y4 : wz.cell? ⟨w.heap.size, 4, none⟩ = some (.slice ga gn gc) := (bz.cell (p := ⟨w.heap.size, 4, none⟩) (show w.heap.size < X.heap.size by omega)).trans xc4
      (try dsimp only)
      refine hK.out _ _ ⟨ym, yk, y4⟩ (fun hS => nrm ?_)
      refine tkS 15 (.bool (decide ((50000 : Int) < (S1 : Int)))) hS ?_
      refine tkS 16 (.bool (decide ((50000 : Int) < (S1 : Int)))) hS ?_
      refine wpAnyH_done (by kernel_rfl) ?_ _
      have BZ : Below X.heap.size X wz := ⟨bz.os, bz.tape, bz.output, bz.size, bz.block⟩
      have HBZ : Hid (Below w.heap.size w wz) := HBX.out.trans (BZ.mono HBX.out.size)
      have HCz : Hid (Ck b L S 0 0 m wz) := Ck.below HCk.out BZ
      have z7 := (BZ.cell (p := ⟨w.heap.size, 7, none⟩) (show w.heap.size < X.heap.size by omega)).trans xc7
      have zr := (BZ.block (w.heap.size + 1) (by omega)).trans rbx
      have zsz := BZ.size
      generalize hbg : decide ((50000 : Int) < (S1 : Int)) = bg at *
      have HBG : Hid (decide ((50000 : Int) < (S1 : Int)) = bg) := hbg
      clear hbg
      cases bg
      · have hbig : ¬ (50000 : Int) < (S1 : Int) := of_decide_eq_false HBG.out
        have HR : Hid (zap (t, v) ts tat = .ok (putT v ts t)) := by
         unfold Hid
         rw [HT.out, if_neg (fun e => e HCN.out), if_neg (by omega)]
        have PU : Hid (Calls Tryz.prog 41 #[.agg #[.slice (some ⟨h, 0, none⟩) nt cp], .slice (some ⟨gv, 0, none⟩) nb.size nb.size, .slice ga gn gc] wz (UPost (putT v ts t) wz)) := by
         have := zqb t HOT.out v ts h cp (.slice (some ⟨gv, 0, none⟩) nb.size nb.size) (.slice ga gn gc) wz (HRt.out.below BZ) HTS.out (HIs.out.below BZ) (Ls.below HLs.out BZ) HCN.out HVM.out HV9.out (by rw [HS1.out]; omega)
         rw [HNT.out] at this
         exact this
        clear hbig HX1 SZ
        go_wp2_with fail
        refine PU.out.mono ?_
        rintro e w2 ⟨g2, cap2, rfl, R2, b2⟩
        have hb2 := (b2.block (w.heap.size + 1) (by omega)).trans zr
        have c2 := zab hb2
        have z2 := zae hb2
        have HP : Hid (∀ u cap, CPost B b L m st N (zap (t, v) ts tat) w (.returned (.agg #[.slice (some ⟨g2, 0, none⟩) (sz (putT v ts t)) cap])) (w2.setCell ⟨w.heap.size + 1, 0, none⟩ u)) := by
         intro u cap
         rw [HR.out]
         exact znn HM.out (HBZ.out.trans (b2.mono HBZ.out.size)) R2 (R2.notBox c2) (HCz.out.below b2) (by omega) hblt cap
        clear R2 HR HT PU HS1
        generalize sz (putT v ts t) = S2 at *
        go_wp2_with fail
        refine zag rfl rfl (zac hb2) ?_
        exact HP.out _ _
      · have hbig : (50000 : Int) < (S1 : Int) := of_decide_eq_true HBG.out
        have HR : Hid (zap (t, v) ts tat = .error (8, tat)) := by
         unfold Hid
         rw [HT.out, if_neg (fun e => e HCN.out), if_pos (by omega)]
        clear hbig HX1 SZ
        go_wp2_with fail
        refine (zch b L S 0 m 8 tat wz HCz.out).mono ?_
        rintro e w2 ⟨g2, cap2, rfl, R2, hg2, C2, G2⟩
        have hb2 := (G2.block (w.heap.size + 1) (by omega) (by simp; omega)).trans zr
        have c2 := zab hb2
        have z2 := zae hb2
        have HP : Hid (∀ u cap, CPost B b L m st N (zap (t, v) ts tat) w (.returned (.agg #[.slice (some ⟨g2, 0, none⟩) 1 cap])) (w2.setCell ⟨w.heap.size + 1, 0, none⟩ u)) := by
         intro u cap
         rw [HR.out]
         exact zdw HM.out (by decide) hN HBZ.out R2 hg2 C2 G2 (by omega) (by omega) hblt cap
        clear R2 C2 G2 hg2 HR HT
        go_wp2_with fail
        refine zag rfl rfl (zac hb2) ?_
        exact HP.out _ _
    · have hc1 : ((gn : Int) != (nb.size : Int)) = true := by rw [bne_iff_ne]; omega
      have HR : Hid (zap (t, v) ts tat = .error (4, tat)) := by
       unfold Hid
       rw [HT.out, if_pos (by rw [<- HGN.out, <- HVL.out]; exact hcnt)]
      clear hcnt
      go_wp2_with fail
      generalize wr = X at *
      refine (zch b L S 0 m 4 tat X HCk.out).mono ?_
      rintro e w2 ⟨g2, cap2, rfl, R2, hg2, C2, G2⟩
      have hb2 := (G2.block (w.heap.size + 1) (by omega) (by simp; omega)).trans rbx
      have c2 := zab hb2
      have z2 := zae hb2
      have HP : Hid (∀ u cap, CPost B b L m st N (zap (t, v) ts tat) w (.returned (.agg #[.slice (some ⟨g2, 0, none⟩) 1 cap])) (w2.setCell ⟨w.heap.size + 1, 0, none⟩ u)) := by
       intro u cap
       rw [HR.out]
       exact zdw HM.out (by decide) hN HBX.out R2 hg2 C2 G2 (by omega) (by omega) hblt cap
      clear R2 C2 G2 hg2 HR HT
      go_wp2_with fail
      refine zag rfl rfl (zac hb2) ?_
      exact HP.out _ _
def Lr (w : World) (L : Value) (ts : List Tt) : Prop := ∃ g cap, L = .slice (some ⟨g, 0, none⟩) ts.length cap /\ g < w.heap.size /\ ∀ (k : Nat) (t : Tt), ts[k]? = some t -> ∀ (j : Nat) (v : Value), t.cells[j]? = some v -> w.cell? ⟨g, k * 9 + j, none⟩ = some v
theorem Lr.below {w w' : World} {L : Value} {ts : List Tt} (h : Lr w L ts) (hb : Below w.heap.size w w') : Lr w' L ts := by
 obtain ⟨g, cap, rfl, hg, h⟩ := h
 exact ⟨g, cap, rfl, Nat.lt_of_lt_of_le hg hb.size, fun k t hk j v hj => (hb.cell (p := ⟨g, _, none⟩) hg).trans (h k t hk j v hj)⟩
theorem Lr.at {w : World} {g cap n : Nat} {ts : List Tt} (h : Lr w (.slice (some ⟨g, 0, none⟩) n cap) ts) {k : Nat} {t : Tt} (hk : ts[k]? = some t) :
 w.cell? ⟨g, k * 9, none⟩ = some (.int .u8 (t.op : Int)) /\ w.cell? ⟨g, k * 9 + 1, none⟩ = some (.int .u8 (t.c : Int)) /\ w.cell? ⟨g, k * 9 + 2, none⟩ = some (.int .i64 (t.a : Int)) /\ w.cell? ⟨g, k * 9 + 3, none⟩ = some (.int .i64 (t.b : Int)) /\
 w.cell? ⟨g, k * 9 + 4, none⟩ = some (.slice t.g.1 t.g.2.1 t.g.2.2) /\ w.cell? ⟨g, k * 9 + 5, none⟩ = some (.slice t.v.1 t.v.2.1 t.v.2.2) /\ w.cell? ⟨g, k * 9 + 6, none⟩ = some (.slice t.p.1 t.p.2.1 t.p.2.2) /\ w.cell? ⟨g, k * 9 + 7, none⟩ = some (.int .i64 (t.at' : Int)) /\ w.cell? ⟨g, k * 9 + 8, none⟩ = some (.int .i64 (t.tu : Int)) := by
 obtain ⟨g', cap', e, hg, h⟩ := h
 cases e
 exact ⟨h k t hk 0 _ rfl, h k t hk 1 _ rfl, h k t hk 2 _ rfl, h k t hk 3 _ rfl, h k t hk 4 _ rfl, h k t hk 5 _ rfl, h k t hk 6 _ rfl, h k t hk 7 _ rfl, h k t hk 8 _ rfl⟩
abbrev ttI (op : Int) (c a b : Nat) (ga va pa : Option Addr) (gn gc vn vc pn pc at' tu : Nat) : Obj := .cells #[.int .u8 op, .int .u8 (c : Int), .int .i64 (a : Int), .int .i64 (b : Int), .slice ga gn gc, .slice va vn vc, .slice pa pn pc, .int .i64 (at' : Int), .int .i64 (tu : Int)] 76
def BPost (n : Nat) (w : World) (e : Ending) (w' : World) : Prop := ∃ F : ByteArray, e = .returned (.string F) /\ F.size <= n /\ Below w.heap.size w w'
def FormB (ts : List Tt) (L : Value) (k n : Nat) : Prop := ∀ w : World, Lr w L ts -> Calls Tryz.prog 53 #[L, .int .i64 (k : Int)] w (BPost n w)
theorem bconv (w : World) (g c : Nat) (hc : c < 256) (h : w.cell? ⟨g, 0, none⟩ = some (.int .u8 (c : Int))) : (convert 46 9 (.slice (some ⟨g, 0, none⟩) 1 1)).run Tryz.prog w = .ok (.string ⟨#[u8 c]⟩) w := by
 refine run_convert_bytes_back w 46 9 5 ⟨g, 0, none⟩ 1 [u8 c] Tryz.underlying46 Tryz.underlying5 Tryz.underlying9 ?_
 intro j hj
 have hj0 : j = 0 := by simpa using hj
 subst hj0
 have hadd : (⟨g, 0, none⟩ : Addr).add 0 = ⟨g, 0, none⟩ := rfl
 have hu : ((u8 c).toNat : Int) = (c : Int) := by simp [u8]; omega
 rw [hadd, h]
 show some (Value.int .u8 (c : Int)) = some (.int .u8 ((u8 c).toNat : Int))
 rw [hu]
theorem bdrew (w : World) : w.drew.heap.size = w.heap.size := rfl
theorem bbox {w w1 : World} {A A' : Obj} {j : Nat} {u : Value} (hb : Below ((w.alloc A).alloc A').drew.heap.size ((w.alloc A).alloc A').drew w1) (hA : (w.alloc A).cell? ⟨w.heap.size, j, none⟩ = some u) : w1.cell? ⟨w.heap.size, j, none⟩ = some u := by
 rw [hb.cell (p := ⟨w.heap.size, j, none⟩) (by rw [bdrew]; simp; omega)]
 show ((w.alloc A).alloc A').cell? ⟨w.heap.size, j, none⟩ = some u
 rw [World.cell?_alloc_lt _ _ ⟨w.heap.size, j, none⟩ (by simp)]; exact hA
theorem bsize {w w1 : World} {A A' : Obj} (hb : Below ((w.alloc A).alloc A').drew.heap.size ((w.alloc A).alloc A').drew w1) : w.heap.size + 2 <= w1.heap.size := by
 have := hb.size; rw [bdrew] at this; simp at this; omega
theorem Lr.two {w : World} {L : Value} {ts : List Tt} (h : Lr w L ts) (A A' : Obj) : Lr ((w.alloc A).alloc A') L ts := h.below ((bal w _).alloc (by simp) _)
theorem zhe (ts : List Tt) (L : Value) (k op c ta tb : Nat) (ga va pa : Option Addr) (gn gc vn vc pn pc tat tto : Nat) (hop : op = 120 \/ op = 48) (hc : c < 256) (hl : ts.length <= 1000000) (ht : ts[k]? = some ⟨op, c, ta, tb, (ga, gn, gc), (va, vn, vc), (pa, pn, pc), tat, tto⟩) : FormB ts L k 1 := by
 intro w h
 obtain ⟨g, cap, rfl, hg, _⟩ := id h
 have hk : k < ts.length := (List.getElem?_eq_some_iff.1 ht).1
 obtain ⟨k0, k1, k2, k3, k4, k5, k6, k7, k8⟩ := h.at ht
 clear h ht
 have e1 : ((op : Int) == 92) = false := by rw [beq_eq_false_iff_ne]; omega
 have e2 : ((op : Int) == 64) = false := by rw [beq_eq_false_iff_ne]; omega
 have e3 : ((op : Int) == 99) = false := by rw [beq_eq_false_iff_ne]; omega
 clear hop
 have hcv := bconv ((w.alloc (ttO op c ta tb ga va pa gn gc vn vc pn pc tat tto)).alloc (.cells #[.int .u8 (c : Int)] 5)) (w.heap.size + 1) c hc (by simp)
 go_enter Tryz.func53, Tryz.ntmps53
 go_wp2_with fail
 go_ret
 exact ⟨_, rfl, Nat.le_refl _, (bal w _).alloc (by simp) _⟩
theorem bform_fn (ts : List Tt) (L : Value) (k c ta tb n : Nat) (ga va pa : Option Addr) (gn gc vn vc pn pc tat tto : Nat) (hc : c < 256) (hl : ts.length <= 1000000) (ha : ta < ts.length) (hn : n <= 1000000) (ht : ts[k]? = some ⟨92, c, ta, tb, (ga, gn, gc), (va, vn, vc), (pa, pn, pc), tat, tto⟩) (hF : FormB ts L ta n) : FormB ts L k (3 + n) := by
 intro w h
 obtain ⟨g, cap, rfl, hg, _⟩ := id h
 have hk : k < ts.length := (List.getElem?_eq_some_iff.1 ht).1
 obtain ⟨k0, k1, k2, k3, k4, k5, k6, k7, k8⟩ := h.at ht
 clear ht
 have hcv := bconv ((w.alloc (ttI 92 c ta tb ga va pa gn gc vn vc pn pc tat tto)).alloc (.cells #[.int .u8 (c : Int)] 5)) (w.heap.size + 1) c hc (by simp)
 have HF : Hid (FormB ts (.slice (some ⟨g, 0, none⟩) ts.length cap) ta n) := hF
 have HL : Hid (Lr w (.slice (some ⟨g, 0, none⟩) ts.length cap) ts) := h
 generalize ts.length = tl at *
 clear hF h
 go_enter Tryz.func53, Tryz.ntmps53
 go_wp2_with fail
 refine (HF.out _ (HL.out.two _ _)).mono ?_
 rintro e w' ⟨F, rfl, hF, hb⟩
 have n1 : ¬ (9223372036854775807 < 3 + F.size) := by omega
 clear k0 k1 k2 k3 k4 k5 k6 k7 k8 hcv
 go_wp2_with fail
 go_ret
 exact ⟨_, rfl, by simp [ByteArray.size_append]; first | omega | (show 3 + F.size <= _; omega), ((bal w _).alloc (by simp) _).trans (hb.mono (by simp; omega))⟩
theorem bform_let (ts : List Tt) (L : Value) (k c ta tb n n' : Nat) (ga va pa : Option Addr) (gn gc vn vc pn pc tat tto : Nat) (hc : c < 256) (hl : ts.length <= 1000000) (ha : ta < ts.length) (hb : tb < ts.length) (hn : n <= 1000000) (hn' : n' <= 1000000) (ht : ts[k]? = some ⟨64, c, ta, tb, (ga, gn, gc), (va, vn, vc), (pa, pn, pc), tat, tto⟩) (hF : FormB ts L ta n) (hG : FormB ts L tb n') : FormB ts L k (4 + n + n') := by
 intro w h
 obtain ⟨g, cap, rfl, hg, _⟩ := id h
 have hk : k < ts.length := (List.getElem?_eq_some_iff.1 ht).1
 obtain ⟨k0, k1, k2, k3, k4, k5, k6, k7, k8⟩ := h.at ht
 clear ht
 have hcv := bconv ((w.alloc (ttI 64 c ta tb ga va pa gn gc vn vc pn pc tat tto)).alloc (.cells #[.int .u8 (c : Int)] 5)) (w.heap.size + 1) c hc (by simp)
 have HF : Hid (FormB ts (.slice (some ⟨g, 0, none⟩) ts.length cap) ta n) := hF
 have HG : Hid (FormB ts (.slice (some ⟨g, 0, none⟩) ts.length cap) tb n') := hG
 have HL : Hid (∀ A A', Lr ((w.alloc A).alloc A').drew (.slice (some ⟨g, 0, none⟩) ts.length cap) ts) := fun A A' => h.two A A'
 generalize ts.length = tl at *
 clear hF hG h
 go_enter Tryz.func53, Tryz.ntmps53
 go_wp2_with fail
 clear k0 k1 k2 k3 k4 k5 k6 k7 k8 hcv
 go_region_held3 (fun w' => w'.cell? ⟨w.heap.size, 2, none⟩ = some (.int .i64 (ta : Int)) /\ w'.cell? ⟨w.heap.size, 3, none⟩ = some (.int .i64 (tb : Int)))
  (first | go_keep | (go_split_ands; exact ⟨q2, q3⟩))
  (first
   | (go_at_call_of 53 (Value.int IntKind.i64 (ta : Int)); refine (HF.out _ ?_).mono ?_; (exact HL.out _ _); rintro e w1 ⟨F, rfl, hF, hb1⟩; (have n1 : ¬ (9223372036854775807 < 3 + F.size) := by omega); (have n2 : ¬ (9223372036854775807 < 3 + F.size + 1) := by omega); (have q2 : w1.cell? ⟨w.heap.size, 2, none⟩ = some (.int .i64 (ta : Int)) := bbox hb1 (by simp)); (have q3 : w1.cell? ⟨w.heap.size, 3, none⟩ = some (.int .i64 (tb : Int)) := bbox hb1 (by simp)); (have z1 : w.heap.size + 2 <= w1.heap.size := bsize hb1))
   | (go_at_call_of 53 (Value.int IntKind.i64 (tb : Int)); refine (HG.out _ ?_).mono ?_; (exact (HL.out _ _).below hb1); rintro e w2 ⟨G, rfl, hG, hb2⟩; (have n3 : ¬ (9223372036854775807 < 3 + F.size + 1 + G.size) := by omega); (have q2 : w2.cell? ⟨w.heap.size, 2, none⟩ = some (.int .i64 (ta : Int)) := (hb2.cell (p := ⟨w.heap.size, 2, none⟩) (by show w.heap.size < _; omega)).trans q2); (have q3 : w2.cell? ⟨w.heap.size, 3, none⟩ = some (.int .i64 (tb : Int)) := (hb2.cell (p := ⟨w.heap.size, 3, none⟩) (by show w.heap.size < _; omega)).trans q3)))
 go_wp2_with fail
 go_ret
 exact ⟨_, rfl, by simp [ByteArray.size_append]; first | omega | (show 3 + F.size + 1 + G.size <= _; omega), (((bal w _).alloc (by simp) _).drew.trans (hb1.mono (by rw [bdrew]; simp; omega))).trans (hb2.mono (by omega))⟩
theorem bfirst (ts : List Tt) (L : Value) (k n : Nat) (t : Tt) (w : World) (hl : ts.length <= 1000000) (hn : n <= 1000000) (ht : ts[k]? = some t) (h : Lr w L ts) (hF : FormB ts L k n) :
 Calls Tryz.prog 89 #[L, .int .i64 (k : Int)] w (BPost (n + 2) w) := by
 obtain ⟨g, cap, rfl, hg, _⟩ := id h
 have hk : k < ts.length := (List.getElem?_eq_some_iff.1 ht).1
 have k0 := (h.at ht).1
 have HF : Hid (Calls Tryz.prog 53 #[.slice (some ⟨g, 0, none⟩) ts.length cap, .int .i64 (k : Int)] w (BPost n w)) := hF w h
 clear ht h hF
 generalize ts.length = tl at *
 generalize t.op = op at *
 by_cases h92 : op = 92
 · subst h92
   go_enter Tryz.func89, Tryz.ntmps89
   go_wp2_with fail
   refine HF.out.mono ?_
   rintro e w' ⟨F, rfl, hF, hb⟩
   have n1 : ¬ (9223372036854775807 < 1 + F.size) := by omega
   have n2 : ¬ (9223372036854775807 < 1 + F.size + 1) := by omega
   go_wp2_with fail
   go_ret
   exact ⟨_, rfl, by simp [ByteArray.size_append]; first | omega | (show 1 + F.size + 1 <= _; omega), hb⟩
 · have e1 : ((op : Int) == 92) = false := by rw [beq_eq_false_iff_ne]; omega
   by_cases h64 : op = 64
   · subst h64
     go_enter Tryz.func89, Tryz.ntmps89
     go_wp2_with fail
     refine HF.out.mono ?_
     rintro e w' ⟨F, rfl, hF, hb⟩
     have n1 : ¬ (9223372036854775807 < 1 + F.size) := by omega
     have n2 : ¬ (9223372036854775807 < 1 + F.size + 1) := by omega
     go_wp2_with fail
     go_ret
     exact ⟨_, rfl, by simp [ByteArray.size_append]; first | omega | (show 1 + F.size + 1 <= _; omega), hb⟩
   · have e2 : ((op : Int) == 64) = false := by rw [beq_eq_false_iff_ne]; omega
     clear h92 h64
     go_enter Tryz.func89, Tryz.ntmps89
     go_wp2_with fail
     refine HF.out.mono ?_
     rintro e w' ⟨F, rfl, hF, hb⟩
     go_wp2_with fail
     go_ret
     exact ⟨_, rfl, by omega, hb⟩
theorem bsecond (ts : List Tt) (L : Value) (k n : Nat) (t : Tt) (w : World) (hl : ts.length <= 1000000) (hn : n <= 1000000) (ht : ts[k]? = some t) (h : Lr w L ts) (hF : FormB ts L k n) :
 Calls Tryz.prog 90 #[L, .int .i64 (k : Int)] w (BPost (n + 2) w) := by
 obtain ⟨g, cap, rfl, hg, _⟩ := id h
 have hk : k < ts.length := (List.getElem?_eq_some_iff.1 ht).1
 have k0 := (h.at ht).1
 have HF : Hid (Calls Tryz.prog 53 #[.slice (some ⟨g, 0, none⟩) ts.length cap, .int .i64 (k : Int)] w (BPost n w)) := hF w h
 clear ht h hF
 generalize ts.length = tl at *
 generalize t.op = op at *
 by_cases h92 : op = 120
 · subst h92
   go_enter Tryz.func90, Tryz.ntmps90
   go_wp2_with fail
   refine HF.out.mono ?_
   rintro e w' ⟨F, rfl, hF, hb⟩
   go_wp2_with fail
   go_ret
   exact ⟨_, rfl, by omega, hb⟩
 · have e1 : ((op : Int) == 120) = false := by rw [beq_eq_false_iff_ne]; omega
   by_cases h64 : op = 48
   · subst h64
     go_enter Tryz.func90, Tryz.ntmps90
     go_wp2_with fail
     refine HF.out.mono ?_
     rintro e w' ⟨F, rfl, hF, hb⟩
     go_wp2_with fail
     go_ret
     exact ⟨_, rfl, by omega, hb⟩
   · have e2 : ((op : Int) == 48) = false := by rw [beq_eq_false_iff_ne]; omega
     clear h92 h64
     go_enter Tryz.func90, Tryz.ntmps90
     go_wp2_with fail
     refine HF.out.mono ?_
     rintro e w' ⟨F, rfl, hF, hb⟩
     have n1 : ¬ (9223372036854775807 < 1 + F.size) := by omega
     have n2 : ¬ (9223372036854775807 < 1 + F.size + 1) := by omega
     go_wp2_with fail
     go_ret
     exact ⟨_, rfl, by simp [ByteArray.size_append]; first | omega | (show 1 + F.size + 1 <= _; omega), hb⟩
theorem bform_call (ts : List Tt) (L : Value) (k c ta tb n n' : Nat) (ga va pa : Option Addr) (gn gc vn vc pn pc tat tto : Nat) (u u' : Tt) (hc : c < 256) (hl : ts.length <= 1000000) (ha : ts[ta]? = some u) (hb : ts[tb]? = some u') (hn : n <= 1000000) (hn' : n' <= 1000000) (ht : ts[k]? = some ⟨99, c, ta, tb, (ga, gn, gc), (va, vn, vc), (pa, pn, pc), tat, tto⟩) (hF : FormB ts L ta n) (hG : FormB ts L tb n') : FormB ts L k (4 + n + n') := by
 intro w h
 obtain ⟨g, cap, rfl, hg, _⟩ := id h
 have hk : k < ts.length := (List.getElem?_eq_some_iff.1 ht).1
 have ha' : ta < ts.length := (List.getElem?_eq_some_iff.1 ha).1
 have hb' : tb < ts.length := (List.getElem?_eq_some_iff.1 hb).1
 obtain ⟨k0, k1, k2, k3, k4, k5, k6, k7, k8⟩ := h.at ht
 clear ht
 have hcv := bconv ((w.alloc (ttI 99 c ta tb ga va pa gn gc vn vc pn pc tat tto)).alloc (.cells #[.int .u8 (c : Int)] 5)) (w.heap.size + 1) c hc (by simp)
 have HF : Hid (∀ X, Lr X (.slice (some ⟨g, 0, none⟩) ts.length cap) ts -> Calls Tryz.prog 89 #[.slice (some ⟨g, 0, none⟩) ts.length cap, .int .i64 (ta : Int)] X (BPost (n + 2) X)) := fun X hX => bfirst ts _ ta n u X hl hn ha hX hF
 have HG : Hid (∀ X, Lr X (.slice (some ⟨g, 0, none⟩) ts.length cap) ts -> Calls Tryz.prog 90 #[.slice (some ⟨g, 0, none⟩) ts.length cap, .int .i64 (tb : Int)] X (BPost (n' + 2) X)) := fun X hX => bsecond ts _ tb n' u' X hl hn' hb hX hG
 have HL : Hid (∀ A A', Lr ((w.alloc A).alloc A').drew (.slice (some ⟨g, 0, none⟩) ts.length cap) ts) := fun A A' => h.two A A'
 generalize ts.length = tl at *
 clear hF hG h ha hb
 go_enter Tryz.func53, Tryz.ntmps53
 go_wp2_with fail
 clear k0 k1 k2 k3 k4 k5 k6 k7 k8 hcv
 go_region_held3 (fun w' => w'.cell? ⟨w.heap.size, 2, none⟩ = some (.int .i64 (ta : Int)) /\ w'.cell? ⟨w.heap.size, 3, none⟩ = some (.int .i64 (tb : Int)))
  (first | go_keep | (go_split_ands; exact ⟨q2, q3⟩))
  (first
   | (go_at_call 89; refine (HF.out _ ?_).mono ?_; (exact HL.out _ _); rintro e w1 ⟨F, rfl, hF, hb1⟩; (have q2 : w1.cell? ⟨w.heap.size, 2, none⟩ = some (.int .i64 (ta : Int)) := bbox hb1 (by simp)); (have q3 : w1.cell? ⟨w.heap.size, 3, none⟩ = some (.int .i64 (tb : Int)) := bbox hb1 (by simp)); (have z1 : w.heap.size + 2 <= w1.heap.size := bsize hb1))
   | (go_at_call 90; refine (HG.out _ ?_).mono ?_; (exact (HL.out _ _).below hb1); rintro e w2 ⟨G, rfl, hG, hb2⟩; (have n3 : ¬ (9223372036854775807 < F.size + G.size) := by omega); (have q2 : w2.cell? ⟨w.heap.size, 2, none⟩ = some (.int .i64 (ta : Int)) := (hb2.cell (p := ⟨w.heap.size, 2, none⟩) (by show w.heap.size < _; omega)).trans q2); (have q3 : w2.cell? ⟨w.heap.size, 3, none⟩ = some (.int .i64 (tb : Int)) := (hb2.cell (p := ⟨w.heap.size, 3, none⟩) (by show w.heap.size < _; omega)).trans q3)))
 go_wp2_with fail
 go_ret
 exact ⟨_, rfl, by simp [ByteArray.size_append]; omega, (((bal w _).alloc (by simp) _).drew.trans (hb1.mono (by rw [bdrew]; simp; omega))).trans (hb2.mono (by omega))⟩
theorem bform_any {W : World} (ts : List Tt) (L : Value) (m : Nat) (hl : ts.length <= 1000000) : ∀ (x : Ex) (k : Nat), Sd W ts x k -> EOk true m x -> xz x <= 60000 -> ∃ n, n + 4 <= 8 * xz x /\ FormB ts L k n := by
 intro x
 induction x with
 | nil => intro k h; exact h.elim
 | node t o x a b iha ihb =>
  rintro k ⟨u, hu, h⟩ ho hz
  obtain ⟨op, c, ta, tb, ⟨ga, gn, gc⟩, ⟨va, vn, vc⟩, ⟨pa, pn, pc⟩, tat, tto⟩ := u
  simp only at h
  have hl256 : ∀ {c : Nat}, isLet c = true -> c < 256 := fun h => by simp [isLet] at h; omega
  have hc256 : ∀ {c : Nat}, isCon c = true -> c < 256 := fun h => by simp [isCon] at h; omega
  have hi256 : ∀ {c : Nat}, isLit c = true -> c < 256 := fun h => by simp [isLit] at h; omega
  rcases ho with ⟨rfl, hc, _⟩ | ⟨rfl, hc, _⟩ | ⟨rfl, hc, _⟩ | ⟨rfl, hc, hg, hg1, ha, rfl⟩ | ⟨rfl, hc, hv, ha, hb⟩ | ⟨rfl, ha, hb⟩
  · rcases h with ⟨_, rfl, rfl, _⟩ | ⟨h, _⟩ | ⟨h, _⟩ | ⟨h, _⟩ | ⟨h, _⟩
    · exact ⟨1, by simp [xz], zhe ts L k 120 x.c ta tb ga va pa gn gc vn vc pn pc tat tto (.inl rfl) (hl256 hc) hl hu⟩
    all_goals omega
  · rcases h with ⟨_, rfl, rfl, _⟩ | ⟨h, _⟩ | ⟨h, _⟩ | ⟨h, _⟩ | ⟨h, _⟩
    · exact ⟨1, by simp [xz], zhe ts L k 120 x.c ta tb ga va pa gn gc vn vc pn pc tat tto (.inl rfl) (hc256 hc) hl hu⟩
    all_goals omega
  · rcases h with ⟨h, _⟩ | ⟨_, rfl, rfl⟩ | ⟨h, _⟩ | ⟨h, _⟩ | ⟨h, _⟩
    · omega
    · exact ⟨1, by simp [xz], zhe ts L k 48 x.c ta tb ga va pa gn gc vn vc pn pc tat tto (.inr rfl) (hi256 hc) hl hu⟩
    all_goals omega
  · rcases h with ⟨h, _⟩ | ⟨h, _⟩ | ⟨_, rfl, rfl, _, _, hk, hs⟩ | ⟨h, _⟩ | ⟨h, _⟩
    · omega
    · omega
    · simp only [xz, if_true] at hz ⊢
      obtain ⟨n, hn, hf⟩ := iha ta hs ha (by omega)
      exact ⟨3 + n, by omega, bform_fn ts L k x.c ta tb n ga va pa gn gc vn vc pn pc tat tto (hl256 hc) hl hs.lt (by omega) hu hf⟩
    all_goals omega
  · rcases h with ⟨h, _⟩ | ⟨h, _⟩ | ⟨h, _⟩ | ⟨_, rfl, ⟨rfl, _⟩, _, _, hk, hk', hs, hs'⟩ | ⟨h, _⟩
    · omega
    · omega
    · omega
    · simp [xz] at hz ⊢
      obtain ⟨n, hn, hf⟩ := iha ta hs ha (by omega)
      obtain ⟨n', hn', hf'⟩ := ihb tb hs' hb (by omega)
      exact ⟨4 + n + n', by omega, bform_let ts L k x.c ta tb n n' ga va pa gn gc vn vc pn pc tat tto (hl256 hc) hl hs.lt hs'.lt (by omega) (by omega) hu hf hf'⟩
    · omega
  · rcases h with ⟨h, _⟩ | ⟨h, _⟩ | ⟨h, _⟩ | ⟨h, _⟩ | ⟨_, rfl, ⟨rfl, _⟩, hk, hk', hs, hs'⟩
    · omega
    · omega
    · omega
    · omega
    · simp [xz] at hz ⊢
      obtain ⟨n, hn, hf⟩ := iha ta hs ha (by omega)
      obtain ⟨n', hn', hf'⟩ := ihb tb hs' hb (by omega)
      exact ⟨4 + n + n', by omega, bform_call ts L k 0 ta tb n n' ga va pa gn gc vn vc pn pc tat tto _ _ (by decide) hl (List.getElem?_eq_getElem hs.lt) (List.getElem?_eq_getElem hs'.lt) (by omega) (by omega) hu hf hf'⟩
theorem bare_sd {W : World} (ts : List Tt) (L : Value) (m k : Nat) (x : Ex) (w : World) (hl : ts.length <= 1000000) (hk : k + 1 = ts.length) (hS : Sd W ts x k) (ho : EOk true m x) (hz : xz x <= 60000) (h : Lr w L ts) :
 Calls Tryz.prog 33 #[L] w fun e w' => ∃ F : ByteArray, e = .returned (.string F) /\ Below w.heap.size w w' := by
 obtain ⟨n, _, hF⟩ := bform_any ts L m hl x k hS ho hz
 have HF : Hid (Calls Tryz.prog 53 #[L, .int .i64 (k : Int)] w (BPost n w)) := hF w h
 obtain ⟨g, cap, rfl, hg, _⟩ := h
 have hk' : (ts.length : Int) - 1 = (k : Int) := by omega
 clear hk hS hF
 go_enter Tryz.func33, Tryz.ntmps33
 go_wp2_with fail
 refine HF.out.mono ?_
 rintro e w' ⟨F, rfl, _, hb⟩
 go_wp2_with fail
 go_ret
 exact ⟨F, rfl, hb⟩
end Go.Proofs.YtceadeaodbadlaaGreatDoor
