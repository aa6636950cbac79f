import Derived.Test.YtceadeaodbadlaaGreatDoorProg
import Derived.WalkKit
import Derived.KernelRfl
import Derived.Deep.RegionHeld3
import Derived.Lib.OthersKept
import Derived.WalkSmall
import Derived.Deep.QuietTactic
import Derived.Deep.RegionWith
import Derived.BigQuiet
import Derived.LaidEql
import Derived.Stop.Asserts
import Derived.RowKitTokens
import Derived.Test.YtceadeaodbadlaaGreatDoorTie
import Derived.Test.YtceadeaodbadlaaGreatDoorCards
import Derived.ProofKit
import Derived.LaidMore
import Derived.LaidSub
import Derived.LaidHandle
import Derived.Stop.Joined
import Derived.Stop.LaidTwo
import Derived.SevenTiedAt
import Derived.Deep.Trees
import Derived.Laws.Rows
import Derived.Defers
import Derived.Laws.StructEq
import Derived.Laws.BitsAllLaws
import Derived.Laws.BitsAll
import Derived.Laws.ShiftsVar
import Derived.Shelf.Abstract
import Derived.Laws.ResultCell
import Derived.Lib.Bytealg
import Derived.Deep.AppendLies
import Derived.OpenShut
import Derived.OwnWalk
set_option linter.unusedVariables false
set_option linter.unusedSimpArgs false
set_option maxRecDepth 100000
set_option maxHeartbeats 16000000
namespace Go.Proofs.YtceadeaodbadlaaGreatDoor
abbrev z1a:=@Array.getElem?_eq_some_iff
abbrev z1b:=@List.getElem?_eq_some_iff
abbrev z1c:=@Nat.le_trans
abbrev z1d:=@Nat.le_refl
abbrev z1e:=@Nat.lt_of_lt_of_le
abbrev z1f:=@Go.Lib.cell_of_heap
abbrev z1g:=@Go.Lib.frozen_of_heap
abbrev z1h:=@List.getElem?_eq_getElem
abbrev z1i:=@Array.getElem?_modify
abbrev z1j:=@List.mem_cons_of_mem
abbrev z1k:=@List.mem_cons_self
abbrev z1l:=@List.length_append
abbrev z1m:=@List.mem_of_getElem?
abbrev z1n:=@List.getElem?_map
abbrev z1o:=@Go.World.cell?_alloc_lt
abbrev z1p:=@Go.World.grownBy_alloc
abbrev z1q:=@Option.some.inj
abbrev z1r:=@Nat.lt_or_ge
abbrev z1s:=@Go.World.cell?_of_block
abbrev z1t:=@List.getElem?_append_left
abbrev z1u:=@List.append_assoc
abbrev z1v:=@Go.heap_alloc_new
abbrev z1w:=@Go.World.ownsRow_nil
abbrev z1x:=@Go.World.news_of_block
abbrev z1y:=@List.mem_append
abbrev z1z:=@List.mem_map
abbrev z2b:=@List.contains_iff_mem
section
variable {P : Program} {ops : Array Oper} {Q : Exit → Act → World → Prop} {md : Region.Mode} {S : World → Prop}
theorem tkS (i:Nat) (v:Value) {oi:Oper} {fuel:Nat} {listed:Array Bool} {a a':Act} {w:World} (hS:S w)
 (h:wpAnyH P md ops Q S fuel (listed.setIfInBounds i true) a' w) (hi:ops[i]? =some oi:=by rfl)
 (hs:Region.noSelect ops=true:=by kernel_rfl) (hf:Region.free md ops listed i=true:=by kernel_rfl) (hr:(Region.ready md ops listed).contains i=true:=by kernel_rfl)
 (hQ:∀c a w,Q (.panic c) (a.put oi.dst v) w->Q (.panic c) a w:=by exact λ_ _ _ h=>h)
 (hy:YieldsIf P ops S oi v a:=by exact Or.inl ⟨by rfl,λw hSw=>by go_simp⟩)
 (ha:a.put oi.dst v=a':=by (try simp only[List.getElem_toArray,List.getElem_cons_succ,List.getElem_cons_zero,Act.put,List.setIfInBounds_toArray,List.set_cons_zero,List.set_cons_succ]);exact rfl):
 wpAnyH P md ops Q S (fuel+1) listed a w:=wpAnyH_take hi hs hf hr hQ hy hS (ha ▸ h)
theorem tkL (i:Nat) (v:Value) {oi:Oper} {fuel:Nat} {listed:Array Bool} {a a':Act} {w:World} (hS:S w)
 (h:wpAnyH P md ops Q S fuel (listed.setIfInBounds i true) a' w) (hi:ops[i]? =some oi:=by rfl)
 (hs:Region.noSelect ops=true:=by kernel_rfl) (hf:Region.free md ops listed i=true:=by kernel_rfl) (hr:(Region.ready md ops listed).contains i=true:=by kernel_rfl)
 (hQ:∀c a w,Q (.panic c) (a.put oi.dst v) w->Q (.panic c) a w:=by exact λ_ _ _ h=>h)
 (hy:YieldsIf P ops S oi v a:=by exact Or.inl ⟨by rfl,λw hSw=>by (try dsimp only at hSw);go_split_ands;go_simp⟩)
 (ha:a.put oi.dst v=a':=by (try simp only[List.getElem_toArray,List.getElem_cons_succ,List.getElem_cons_zero,Act.put,List.setIfInBounds_toArray,List.set_cons_zero,List.set_cons_succ]);exact rfl):
 wpAnyH P md ops Q S (fuel+1) listed a w:=wpAnyH_take hi hs hf hr hQ hy hS (ha ▸ h)
theorem tkU (i:Nat) {oi:Oper} {fuel:Nat} {listed:Array Bool} {a a':Act} {w:World} (hS:S w)
 (h:wpAnyH P md ops Q S fuel (listed.setIfInBounds i true) a' w) (hi:ops[i]? =some oi:=by rfl)
 (hs:Region.noSelect ops=true:=by kernel_rfl) (hf:Region.free md ops listed i=true:=by kernel_rfl) (hr:(Region.ready md ops listed).contains i=true:=by kernel_rfl)
 (hQ:∀c a w,Q (.panic c) (a.put oi.dst undef) w->Q (.panic c) a w:=by exact λ_ _ _ h=>h)
 (hy:YieldsIf P ops S oi undef a:=by exact Or.inr ⟨by rfl,rfl⟩)
 (ha:a.put oi.dst undef=a':=by (try simp only[List.getElem_toArray,List.getElem_cons_succ,List.getElem_cons_zero,Act.put,List.setIfInBounds_toArray,List.set_cons_zero,List.set_cons_succ]);exact rfl):
 wpAnyH P md ops Q S (fuel+1) listed a w:=wpAnyH_take hi hs hf hr hQ hy hS (ha ▸ h)
theorem nrm {fuel:Nat} {listed:Array Bool} {a a':Act} {w:World} (h:wpAnyH P md ops Q S fuel listed a' w)
 (ha:a=a':=by (try simp only[List.getElem_toArray,List.getElem_cons_succ,List.getElem_cons_zero,Act.put,List.setIfInBounds_toArray,List.set_cons_zero,List.set_cons_succ]);exact rfl):
 wpAnyH P md ops Q S fuel listed a w:=ha ▸ h
theorem rd1 (i:Nat) {o:Oper} {fuel:Nat} {listed:Array Bool} {a:Act} {w:World}
 (h:∀K':Act->World->Prop,Shut (∀a w,S w->(S w->wpAnyH P md ops Q S fuel (listed.setIfInBounds i true) a w)->K' a w)->if Region.wanted o (yielded ops a.tmps)=true then Oper.wp P o a w K' Q else K' (a.put o.dst undef) w)
 (hr:Region.ready md ops listed=[i]:=by kernel_rfl) (ho:ops[i]? =some o:=by rfl):wpAnyH P md ops Q S (fuel+1) listed a w:=
 wpAnyH_ready hr (by simp) (AllReadyH.cons ho h AllReadyH.nil)
end
end Go.Proofs.YtceadeaodbadlaaGreatDoor
namespace Go.Proofs.YtceadeaodbadlaaGreatDoor
open Go.RowKit
theorem hid {p:Prop} (h:p):Hid p:=h
theorem bal (w:World) (o:Obj):Below w.heap.size w (w.alloc o):=(Below.refl _ w).alloc (z1d _) o
theorem cbl {w:World} {b j:Nat} {A:Array Value} {T:TypeId} {fz:Nat×Nat} {v:Value} (h:w.heap[b]? =some (.cells A T fz)) (hv:A[j]? =some v:=by rfl):w.cell? ⟨b,j,none⟩=some v:=by
 rw[z1f h];exact hv
abbrev pZ(b:Nat):Value:=.pointer (some ⟨b,0,none⟩)
abbrev sZ(g n c:Nat):Value:=.slice (some ⟨g,0,none⟩) n c
abbrev iZ(k:Nat):Value:=.int .i64 (k:Int)
abbrev uZ(k:Nat):Value:=.int .u8 (k:Int)
abbrev CZ:=Calls Tryz.prog
abbrev cZ(w:World)(g j:Nat)(v:Value):Prop:=w.cell? ⟨g,j,none⟩=some v
end Go.Proofs.YtceadeaodbadlaaGreatDoor
namespace Go.Proofs.YtceadeaodbadlaaGreatDoor
def chr (s:ByteArray) (i:Nat):Nat:=if h:i<s.size then s[i].toNat else 0
theorem zmh (s:ByteArray) (i:Nat):chr s i<256:=by
 unfold chr;split
 ·exact s[i].toNat_lt
 ·omega
theorem zag {s:ByteArray} {i:Nat} (h:chr s i≠0):i<s.size:=by
 unfold chr at h;split at h
 ·assumption
 ·simp at h
def zaq (c:Nat):Bool:=decide (97<=c) && decide (c<=122)
def zdi (c:Nat):Bool:=c==78||c==67||c==80||c==76||c==82||c==74||c==69||c==65||c==89||c==68
def zcs (c:Nat):Bool:=(decide (48<=c) && decide (c<=57))||c==84||c==70
def zal (c:Nat):Bool:=c==40||zaq c||zdi c||zcs c
theorem zdg {c:Nat} (h:zal c=true):c≠0:=by
 rintro rfl;revert h;decide
def zcb (k:Nat) (f:List UInt8):List UInt8:=if k=2 then 40::(f++[41]) else f
def zbk (k:Nat) (f:List UInt8):List UInt8:=if k=0 then f else 40::(f++[41])
def u8 (c:Nat):UInt8:=UInt8.ofNat c
end Go.Proofs.YtceadeaodbadlaaGreatDoor
namespace Go.Proofs.YtceadeaodbadlaaGreatDoor
open Go.RowKit
def Gb (b:Nat) (w w':World):Prop:=w.grownBy w' (some b)
section
variable {s:ByteArray} {b i:Nat} {w x y:World}
theorem Gb.refl (b:Nat) (w:World):Gb b w w:=⟨rfl,rfl,rfl,z1d _,λ_ _ _=>rfl⟩
theorem Gb.trans {z:World} (h:Gb b x y) (k:Gb b y z):Gb b x z:=
 ⟨k.os.trans h.os,k.tape.trans h.tape,k.output.trans h.output,z1c h.size k.size,λi hi hn=>(k.block i (z1e hi h.size) hn).trans (h.block i hi hn)⟩
theorem Gb.drewN (h:Gb b x y) (n:Nat):Gb b x (y.drewN n):=⟨h.os,h.tape,h.output,h.size,h.block⟩
theorem Gb.alloc (h:Gb b x y) (o:Obj):Gb b x (y.alloc o):=h.trans (z1p y o (some b))
theorem Gb.setCell (h:Gb b x y) (k:Nat) (u:Value):Gb b x (y.setCell ⟨b,k,none⟩ u):=
 h.trans ⟨rfl,rfl,rfl,by simp[World.setCell],λi _ hn=>Below.heap_setCell _ _ _ _ (by simpa using hn)⟩
theorem Gb.size (h:Gb b x y):x.heap.size<=y.heap.size:=World.grownBy.size h
theorem Gb.old {c:Nat} {o:Obj} (h:Gb b x y) (hc:x.heap[c]? =some o) (hn:c≠b):y.heap[c]? =some o:=by
 rw[h.block c (z1a.1 hc).1 (by simpa using hn)];exact hc
def Rd (b:Nat) (s:ByteArray) (i:Nat) (w:World):Prop:=w.heap[b]? =some (.cells #[.string s,iZ i] 207 (0,0))
theorem Rd.text (h:Rd b s i w):w.cell? ⟨b,0,none⟩=some (.string s):=by
 unfold Rd at h;simp[World.cell?,h]
theorem Rd.place (h:Rd b s i w):w.cell? ⟨b,1,none⟩=some (iZ i):=by
 unfold Rd at h;simp[World.cell?,h]
theorem Rd.free (h:Rd b s i w):w.frozen? ⟨b,1,none⟩=false:=by
 unfold Rd at h;simp[World.frozen?,h]
theorem Rd.lt (h:Rd b s i w):b<w.heap.size:=(z1a.1 h).1
theorem Rd.drewN (h:Rd b s i w) (n:Nat):Rd b s i (w.drewN n):=h
theorem Rd.alloc (h:Rd b s i w) (o:Obj):Rd b s i (w.alloc o):=by
 unfold Rd at *;rw[Below.heap_alloc _ _ _ (z1a.1 h).1];exact h
theorem Rd.set (h:Rd b s i w) (j:Nat):Rd b s j (w.setCell ⟨b,1,none⟩ (.int .i64 (j:Int))):=by
 unfold Rd at *
 simp[World.setCell,z1i,h]
theorem Rd.new (s:ByteArray) (w:World):Rd w.heap.size s 0 (w.alloc (.cells #[.string s,.int .i64 0] 207)):=by
 unfold Rd;exact z1v w _
theorem zgl (b:Nat) (s:ByteArray) (i:Nat) (w:World) (h:Rd b s i w) (hi:i<=s.size) (hs:s.size<=100000):
 CZ 189 #[pZ b] w λe w'=>e=.returned (.int .u8 (chr s i))/\∃n,w'=w.drewN n:=by
 have h0:=h.text;have h1:=h.place;by_cases hlt:i<s.size
 ·have hc:chr s i=s[i].toNat:=by simp[chr,hlt]
  rw[hc];have he:((i:Int)==(s.size:Int))=false:=by rw[beq_eq_false_iff_ne];omega
  go_enter Tryz.func189,Tryz.ntmps189;go_wp2
  go_quiet (fail)
  go_wp2
  go_quiet (fail)
  go_wp2;go_ret;exact⟨rfl,_,World.drewN_drewN ..⟩
 ·have hc:chr s i=0:=by simp[chr,hlt]
  rw[hc];have he:((i:Int)==(s.size:Int))=true:=by rw[beq_iff_eq];omega
  go_enter Tryz.func189,Tryz.ntmps189;go_wp2
  go_quiet (fail)
  go_wp2;go_ret;exact⟨rfl,_,rfl⟩
theorem Rd.next (h:Rd b s i w) (n:Nat):Rd b s (i+1) ((w.drewN n).setCell ⟨b,1,none⟩ (.int .i64 ((i:Int)+1))):=by
 have:=(h.drewN n).set (i+1);rwa [Int.natCast_add] at this
theorem zqx (b:Nat) (s:ByteArray) (i:Nat) (w:World) (h:Rd b s i w) (hlt:i<s.size) (hs:s.size<=100000):
 CZ 211 #[pZ b] w λe w'=>e=.returned (.tuple #[])/\Rd b s (i+1) w'/\Gb b w w':=by
 have h0:=h.text;have h1:=h.place;have h2:=h.free;have hr:=h.next;go_enter Tryz.func211,Tryz.ntmps211;go_wp2
 go_quiet (fail)
 go_wp2;go_end0;exact⟨rfl,hr _,((Gb.refl b w).drewN _).setCell 1 _⟩
theorem zep (b:Nat) (s:ByteArray) (i c:Nat) (w:World) (h:Rd b s i w) (hlt:i<s.size) (hs:s.size<=100000) (hc:s[i].toNat=c):
 CZ 149 #[pZ b,uZ c] w λe w'=>e=.returned (.bool true)/\Rd b s (i+1) w'/\Gb b w w':=by
 have h0:=h.text;have h1:=h.place;have h2:=h.free;have hr:=h.next;have he:((i:Int)==(s.size:Int))=false:=by rw[beq_eq_false_iff_ne];omega
 have hq:((s[i].toNat:Int) !=(c:Int))=false:=by rw[hc];simp
 go_enter Tryz.func149,Tryz.ntmps149;go_wp2
 go_quiet (fail)
 go_wp2;go_ret;exact⟨rfl,hr _,((Gb.refl b w).drewN _).setCell 1 _⟩
theorem zcm (b:Nat) (s:ByteArray) (i c:Nat) (w:World) (h:Rd b s i w) (hi:i<=s.size) (hs:s.size<=100000) (hc:∀hlt:i<s.size,s[i].toNat≠c):
 CZ 149 #[pZ b,uZ c] w λe w'=>e=.returned (.bool false)/\∃n,w'=w.drewN n:=by
 have h0:=h.text;have h1:=h.place;by_cases hlt:i<s.size
 ·have he:((i:Int)==(s.size:Int))=false:=by rw[beq_eq_false_iff_ne];omega
  have hq:((s[i].toNat:Int) !=(c:Int))=true:=by have:=hc hlt;rw[bne_iff_ne];omega
  go_enter Tryz.func149,Tryz.ntmps149;go_wp2
  go_quiet (fail)
  go_wp2;go_ret;exact⟨rfl,_,rfl⟩
 ·have he:((i:Int)==(s.size:Int))=true:=by rw[beq_iff_eq];omega
  go_enter Tryz.func149,Tryz.ntmps149;go_wp2
  go_quiet (fail)
  go_wp2;go_ret;exact⟨rfl,_,rfl⟩
end
structure Gl (tx:Nat->Addr) (w:World):Prop where
 errs:∀k,k<8->w.cell? ⟨k,0,none⟩=some (.iface 353 (.pointer (some (tx k))))
 hand:w.cell? ⟨8,0,none⟩=some (.iface 190 (.agg #[.pointer (some ⟨11,55,none⟩)]))
 size:9<=w.heap.size
section
variable {tx:Nat->Addr} {w':World} (b:Nat) (s:ByteArray) (i c:Nat) (w:World)
theorem Gl.below {w:World} {B:Nat} (h:Gl tx w) (hb:Below B w w') (hB:9<=B):Gl tx w':=
 ⟨λk hk=>(hb.cell (p:=⟨k,0,none⟩) (by show k<B;omega)).trans (h.errs k hk),(hb.cell (p:=⟨8,0,none⟩) (by show 8<B;omega)).trans h.hand,z1c h.size hb.size⟩
theorem Gl.gb {w:World} {b:Nat} (h:Gl tx w) (hb:Gb b w w') (hB:9<=b):Gl tx w':=by
 have hs:=h.size;refine⟨λk hk=>?_,?_,z1c h.size hb.size⟩
 ·rw[z1s (w:=w) (a:=⟨k,0,none⟩) (hb.block k (by omega) (by simp;omega))];exact h.errs k hk
 ·rw[z1s (w:=w) (a:=⟨8,0,none⟩) (hb.block 8 (by omega) (by simp;omega))];exact h.hand
theorem Gl.text {w:World} (h:Gl tx w):w.cell? ⟨1,0,none⟩=some (.iface 353 (.pointer (some (tx 1)))):=h.errs 1 (by decide)
theorem Gl.long {w:World} (h:Gl tx w):w.cell? ⟨0,0,none⟩=some (.iface 353 (.pointer (some (tx 0)))):=h.errs 0 (by decide)
def AtErr (a:Addr) (q i:Nat) (w:World):Prop:=w.heap[q]? =some (.cells #[iZ i,.iface 353 (.pointer (some a))] 91 (0,0))
abbrev atv (q:Nat):Value:=.iface 87 (pZ q)
theorem AtErr.new (a:Addr) (i:Nat) (w:World):AtErr a w.heap.size i (w.alloc (.cells #[iZ i,.iface 353 (.pointer (some a))] 91)):=by
 unfold AtErr;exact z1v w _
theorem AtErr.drewN {a:Addr} {q i:Nat} {w:World} (h:AtErr a q i w) (n:Nat):AtErr a q i (w.drewN n):=h
theorem zjt (tx:Nat->Addr) (b:Nat) (s:ByteArray) (i:Nat) (w:World) (h:Rd b s i w) (g:Gl tx w):
 CZ 153 #[pZ b] w λe w'=>∃q,e=.returned (atv q)/\AtErr (tx 1) q i w'/\Gb b w w':=by
 have h1:=h.place;have h2:=g.text;go_enter Tryz.func153,Tryz.ntmps153;go_wp2
 go_region
 all_goals
  go_wp2;go_ret;exact⟨_,rfl,(AtErr.new (tx 1) i w).drewN 1,((Gb.refl b w).alloc _).drewN 1⟩
theorem zjp (h:Rd b s i w) (hs:s.size<=100000) (hc:chr s i=c) (h0:c≠0):
 CZ 185 #[pZ b,uZ c] w λe w'=>e=.returned .nilIface/\Rd b s (i+1) w'/\Gb b w w':=by
 have hlt:i<s.size:=zag (by omega);have hq:s[i].toNat=c:=by rw[<-hc];simp[chr,hlt]
 clear hc;go_enter Tryz.func185,Tryz.ntmps185;go_wp21;refine(zep b s i c w h hlt hs hq).mono ?_;rintro e w' ⟨rfl,hr,hg⟩;go_wp21;go_ret;exact⟨rfl,hr,hg⟩
theorem zng (tx:Nat->Addr) (b:Nat) (s:ByteArray) (i c:Nat) (w:World) (h:Rd b s i w) (g:Gl tx w) (hi:i<=s.size) (hs:s.size<=100000) (hc:chr s i≠c) (hb:9<=b):
 CZ 185 #[pZ b,uZ c] w λe w'=>∃q,e=.returned (atv q)/\AtErr (tx 1) q i w'/\Gb b w w':=by
 have hq:∀hlt:i<s.size,s[i].toNat≠c:=by intro hlt e;apply hc;simp[chr,hlt,e]
 go_enter Tryz.func185,Tryz.ntmps185;go_wp21;refine(zcm b s i c w h hi hs hq).mono ?_;rintro e w' ⟨rfl,n,rfl⟩;go_wp21;refine(zjt tx b s i _ (h.drewN n) (g.gb ((Gb.refl b w).drewN n) hb)).mono ?_;rintro e w' ⟨q,rfl,ha,hg⟩;go_wp21;go_ret;exact⟨q,rfl,ha,((Gb.refl b w).drewN n).trans hg⟩
theorem zdv (hc:c<256):
 CZ 210 #[uZ c] w λe w'=>e=.returned (.bool (zaq c))/\w'=w:=by
 by_cases h1:97<=c
 ·by_cases h2:c<=122
  ·have hq:zaq c=true:=by simp[zaq,h1,h2]
   rw[hq];go_enter Tryz.func210,Tryz.ntmps210;go_wp2;go_ret;exact⟨by first|rfl|(simp;omega),rfl⟩
  ·have hq:zaq c=false:=by simp[zaq,h2]
   rw[hq];go_enter Tryz.func210,Tryz.ntmps210;go_wp2;go_ret;exact⟨by first|rfl|(simp;omega),rfl⟩
 ·have hq:zaq c=false:=by simp[zaq,h1]
  rw[hq];go_enter Tryz.func210,Tryz.ntmps210;go_wp2;go_ret;exact⟨by first|rfl|(simp;omega),rfl⟩
theorem zfs (h:Rd b s i w) (hs:s.size<=100000) (hc:zaq (chr s i)=true):
 CZ 183 #[pZ b] w λe w'=>e=.returned (.tuple #[.int .u8 (chr s i),.nilIface])/\Rd b s (i+1) w'/\Gb b w w':=by
 have hlt:=zag (by intro e;rw[e] at hc;exact absurd hc (by decide));have hl:=zmh s i;go_enter Tryz.func183,Tryz.ntmps183;go_wp21;refine(zgl b s i w h (by omega) hs).mono ?_;rintro e w' ⟨rfl,n,rfl⟩;go_wp21;refine(zdv (chr s i) _ hl).mono ?_;rintro e w' ⟨rfl,rfl⟩;rw[hc];go_wp21;refine(zqx b s i _ (h.drewN n) hlt hs).mono ?_;rintro e w' ⟨rfl,hr,hg⟩;go_wp21;go_ret2;exact⟨rfl,hr,((Gb.refl b w).drewN n).trans hg⟩
theorem zmd (tx:Nat->Addr) (b:Nat) (s:ByteArray) (i:Nat) (w:World) (h:Rd b s i w) (g:Gl tx w) (hi:i<=s.size) (hs:s.size<=100000) (hc:zaq (chr s i)=false) (hb:9<=b):
 CZ 183 #[pZ b] w λe w'=>∃q,e=.returned (.tuple #[.int .u8 0,atv q])/\AtErr (tx 1) q i w'/\Gb b w w':=by
 have hl:=zmh s i;go_enter Tryz.func183,Tryz.ntmps183;go_wp21;refine(zgl b s i w h (by omega) hs).mono ?_;rintro e w' ⟨rfl,n,rfl⟩;go_wp21;refine(zdv (chr s i) _ hl).mono ?_;rintro e w' ⟨rfl,rfl⟩;rw[hc];go_wp21;refine(zjt tx b s i _ (h.drewN n) (g.gb ((Gb.refl b w).drewN n) hb)).mono ?_;rintro e w' ⟨q,rfl,ha,hg⟩;go_wp21;go_ret2;exact⟨q,rfl,ha,((Gb.refl b w).drewN n).trans hg⟩
theorem end_yes (h:Rd b s s.size w) (hs:s.size<=100000):
 CZ 124 #[pZ b] w λe w'=>e=.returned .nilIface/\∃n,w'=w.drewN n:=by
 have h0:=h.text;have h1:=h.place;go_enter Tryz.func124,Tryz.ntmps124;go_wp2
 go_quiet (fail)
 go_wp2;go_ret;exact⟨rfl,_,rfl⟩
theorem end_no (tx:Nat->Addr) (b:Nat) (s:ByteArray) (i:Nat) (w:World) (h:Rd b s i w) (g:Gl tx w) (hlt:i<s.size) (hs:s.size<=100000) (hb:9<=b):
 CZ 124 #[pZ b] w λe w'=>∃q,e=.returned (atv q)/\AtErr (tx 1) q i w'/\Gb b w w':=by
 have h0:=h.text;have h1:=h.place;go_enter Tryz.func124,Tryz.ntmps124;go_wp21
 go_quiet (fail)
 go_wp21;refine(zjt tx b s i _ (h.drewN _) (g.gb ((Gb.refl b w).drewN _) hb)).mono ?_;rintro e w' ⟨q,rfl,ha,hg⟩;go_wp21;go_ret;exact⟨q,rfl,ha,((Gb.refl b w).drewN _).trans hg⟩
theorem new_any:
 CZ 92 #[.string s] w λe w'=>e=.returned (pZ w.heap.size)/\w'=w.alloc (.cells #[.string s,.int .i64 0] 207):=by
 go_enter Tryz.func92,Tryz.ntmps92;go_wp2;go_ret;exact⟨rfl,rfl⟩
end
end Go.Proofs.YtceadeaodbadlaaGreatDoor
namespace Go.Proofs.YtceadeaodbadlaaGreatDoor
open Go.RowKit Go.Extern.Stop Go.Stop Go.Extern
theorem zkp (b:Addr) (w:World):
 CZ 51 #[.nilIface,.iface 353 (.pointer (some b))] w λe w'=>e=.returned (.bool false)/\w'=w:=by
 have hn:=run_eql_iface_nil_left (P:=Tryz.prog) w 353 (.pointer (some b)) Tryz.underlying55;go_enter Tryz.func51,Tryz.ntmps51;go_wp2;go_ret;exact⟨rfl,rfl⟩
theorem as_nil (t:Value) (w:World):
 CZ 52 #[.nilIface,t] w λe w'=>e=.returned (.bool false)/\w'=w:=by
 go_enter Tryz.func52,Tryz.ntmps52;go_wp2;go_ret;exact⟨rfl,rfl⟩
end Go.Proofs.YtceadeaodbadlaaGreatDoor
namespace Go.Proofs.YtceadeaodbadlaaGreatDoor
open Go.RowKit
structure Gs (tx:Nat->Addr) (w:World):Prop extends Gl tx w where
 ne:∀j k,j<8->k<8->j≠k->tx j≠tx k
 bl:∀k,k<8->∃c t,w.heap[(tx k).block]? =some (.cells c t (0,0))
theorem Gs.below {tx:Nat->Addr} {w w':World} (h:Gs tx w) (hb:Below w.heap.size w w'):Gs tx w':=by
 refine⟨h.toGl.below hb h.size,h.ne,λk hk=>?_⟩;obtain⟨c,t,hc⟩:=h.bl k hk;exact⟨c,t,(hb.block _ (z1a.1 hc).1).trans hc⟩
theorem zyw (tx:Nat->Addr) (w:World) (g:Gs tx w):
 CZ 31 #[.nilIface] w λe w'=>e=.returned (.int .i64 0)/\w'=w:=by
 have h0:=g.errs 0 (by decide);have h1:=g.errs 1 (by decide);have h2:=g.errs 2 (by decide);have h3:=g.errs 3 (by decide);have h4:=g.errs 4 (by decide);have h5:=g.errs 5 (by decide);have h6:=g.errs 6 (by decide);have h7:=g.errs 7 (by decide);go_enter Tryz.func31,Tryz.ntmps31;go_wp21;refine(zkp (tx 0) _).mono ?_;rintro e w' ⟨rfl,rfl⟩;go_wp21;refine(zkp (tx 1) _).mono ?_;rintro e w' ⟨rfl,rfl⟩;go_wp21;refine(zkp (tx 2) _).mono ?_;rintro e w' ⟨rfl,rfl⟩;go_wp21;refine(zkp (tx 3) _).mono ?_;rintro e w' ⟨rfl,rfl⟩;go_wp21;refine(zkp (tx 4) _).mono ?_;rintro e w' ⟨rfl,rfl⟩;go_wp21;refine(zkp (tx 5) _).mono ?_;rintro e w' ⟨rfl,rfl⟩;go_wp21;refine(zkp (tx 6) _).mono ?_;rintro e w' ⟨rfl,rfl⟩;go_wp21;refine(zkp (tx 7) _).mono ?_;rintro e w' ⟨rfl,rfl⟩;go_wp21;go_ret;exact⟨rfl,rfl⟩
theorem place_nil (w:World):
 CZ 32 #[.nilIface] w λe w'=>e=.returned (.int .i64 0)/\Below w.heap.size w w':=by
 go_enter Tryz.func32,Tryz.ntmps32;go_wp21;refine(as_nil _ _).mono ?_;rintro e w' ⟨rfl,rfl⟩;go_wp21;go_ret;exact⟨rfl,bal w _⟩
end Go.Proofs.YtceadeaodbadlaaGreatDoor
namespace Go.Proofs.YtceadeaodbadlaaGreatDoor
open Go.ChangeShapes Go.WideShapes Go.ChangeAt Go.RowKit
section
variable {W:World}
theorem ownK:ownKnob Tryz.prog.godebug=none:=by kernel_rfl
theorem g0:Tryz.prog.globalNamed "shape/fault.Long" =some 0:=by kernel_rfl
theorem g0T:(Tryz.prog.globals[0]?).map (·.type)=some 55:=by kernel_rfl
theorem g1:Tryz.prog.globalNamed "shape/fault.Text" =some 1:=by kernel_rfl
theorem g1T:(Tryz.prog.globals[1]?).map (·.type)=some 55:=by kernel_rfl
theorem g2:Tryz.prog.globalNamed "shape/fault.Free" =some 2:=by kernel_rfl
theorem g2T:(Tryz.prog.globals[2]?).map (·.type)=some 55:=by kernel_rfl
theorem g3:Tryz.prog.globalNamed "shape/fault.Count" =some 3:=by kernel_rfl
theorem g3T:(Tryz.prog.globals[3]?).map (·.type)=some 55:=by kernel_rfl
theorem g4:Tryz.prog.globalNamed "shape/fault.Mixed" =some 4:=by kernel_rfl
theorem g4T:(Tryz.prog.globals[4]?).map (·.type)=some 55:=by kernel_rfl
theorem g5:Tryz.prog.globalNamed "shape/fault.Fixed" =some 5:=by kernel_rfl
theorem g5T:(Tryz.prog.globals[5]?).map (·.type)=some 55:=by kernel_rfl
theorem g6:Tryz.prog.globalNamed "shape/fault.Type" =some 6:=by kernel_rfl
theorem g6T:(Tryz.prog.globals[6]?).map (·.type)=some 55:=by kernel_rfl
theorem g7:Tryz.prog.globalNamed "shape/fault.Big" =some 7:=by kernel_rfl
theorem g7T:(Tryz.prog.globals[7]?).map (·.type)=some 55:=by kernel_rfl
theorem gType:Tryz.prog.globalNamed "errors.errorType" =some 8:=by kernel_rfl
theorem cellsES:Tryz.prog.cellsOf 371=1:=by kernel_rfl
theorem cellsS:Tryz.prog.cellsOf 9=1:=by kernel_rfl
theorem rtRow:(Tryz.prog.cutTypes.find? (·.1== "internal/reflectlite.rtype")).map (·.2)=some 190:=by kernel_rfl
theorem typesSize:Tryz.prog.types.size=382:=by kernel_rfl
theorem oneRow:((List.range 382).filter λt=>Tryz.prog.rowNamed t [101,114,114,111,114])=[55]:=by kernel_rfl
theorem starE: "*" ++ "errors.errorString" = "*errors.errorString" :=by decide
theorem rowE (u:TypeId) (h:Tryz.prog.typeName? 3 u=some "*errors.errorString"):u=353:=
 typeName_ptr_named (nm:= "errors.errorString") (by rw[starE];kernel_rfl) (by kernel_rfl) (by decide) u (by rw[starE];exact h)
def zcq:List (String×DataW Unit):=[("shape/fault.Long",Rows.laid_shape_fault_Long),("shape/fault.Text",Rows.laid_shape_fault_Text),("shape/fault.Free",Rows.laid_shape_fault_Free),("shape/fault.Count",Rows.laid_shape_fault_Count),("shape/fault.Mixed",Rows.laid_shape_fault_Mixed),("shape/fault.Fixed",Rows.laid_shape_fault_Fixed),("shape/fault.Type",Rows.laid_shape_fault_Type),("shape/fault.Big",Rows.laid_shape_fault_Big)]
theorem zbs {g:Nat} {v:Value} {x:String} (hg:Tryz.prog.globalNamed x=some g) (h:W.var? Tryz.prog x=some #[v]):W.cell? ⟨g,0,none⟩=some v:=by
 simpa using World.var?_cell hg h 0
def Apart (x y:String) (W:World):Prop:=∃(a b:Addr) (c d:Array Value) (t u:TypeId),W.var? Tryz.prog x=some #[.iface 353 (.pointer (some a))]/\W.var? Tryz.prog y=some #[.iface 353 (.pointer (some b))]/\a≠b/\
 W.heap[a.block]? =some (.cells c t (0,0))/\W.heap[b.block]? =some (.cells d u (0,0))
theorem Apart.ne {a b:Addr} {x y:String} (h:Apart x y W) (ha:W.var? Tryz.prog x=some #[.iface 353 (.pointer (some a))]) (hb:W.var? Tryz.prog y=some #[.iface 353 (.pointer (some b))]):a≠b:=by
 obtain⟨a',b',_,_,_,_,h1,h2,h3,_⟩:=h;rw[ha] at h1;rw[hb] at h2;simp at h1 h2;subst h1;subst h2;exact h3
theorem zbm {a b:Nat} {tx ty:List UInt8} {x y:String} (h:laidMet Tryz.prog zcq W) (hf:zcq.filter (λz=>z.1==x||z.1==y)=[(x,.iface "*errors.errorString" (.ptr (.agg [.lit (.string tx)]))),(y,.iface "*errors.errorString" (.ptr (.agg [.lit (.string ty)])))]) (gx:Tryz.prog.globalNamed x=some a) (gxT:(Tryz.prog.globals[a]?).map (·.type)=some 55) (gy:Tryz.prog.globalNamed y=some b) (gyT:(Tryz.prog.globals[b]?).map (·.type)=some 55):Apart x y W:=by
 have h2:=h.filter (λz=>z.1==x||z.1==y);rw[hf] at h2;obtain⟨a0,a1,s0,s1,c0,c1,t0,t1,hv0,hv1,_,_,_,_,_,_,hne,hb0,hb1⟩:=laid_sentinels2 h2 gx gxT gy gyT Tryz.underlying55 rowE Tryz.underlying353 Tryz.underlying371 rfl rfl Tryz.underlying9 cellsES cellsS;exact⟨a0,a1,c0,c1,t0,t1,hv0,hv1,hne,hb0,hb1⟩
theorem pair01 (h:laidMet Tryz.prog zcq W):Apart "shape/fault.Long" "shape/fault.Text" W:=zbm h rfl g0 g0T g1 g1T
theorem pair02 (h:laidMet Tryz.prog zcq W):Apart "shape/fault.Long" "shape/fault.Free" W:=zbm h rfl g0 g0T g2 g2T
theorem pair03 (h:laidMet Tryz.prog zcq W):Apart "shape/fault.Long" "shape/fault.Count" W:=zbm h rfl g0 g0T g3 g3T
theorem pair04 (h:laidMet Tryz.prog zcq W):Apart "shape/fault.Long" "shape/fault.Mixed" W:=zbm h rfl g0 g0T g4 g4T
theorem pair05 (h:laidMet Tryz.prog zcq W):Apart "shape/fault.Long" "shape/fault.Fixed" W:=zbm h rfl g0 g0T g5 g5T
theorem pair06 (h:laidMet Tryz.prog zcq W):Apart "shape/fault.Long" "shape/fault.Type" W:=zbm h rfl g0 g0T g6 g6T
theorem pair07 (h:laidMet Tryz.prog zcq W):Apart "shape/fault.Long" "shape/fault.Big" W:=zbm h rfl g0 g0T g7 g7T
theorem pair12 (h:laidMet Tryz.prog zcq W):Apart "shape/fault.Text" "shape/fault.Free" W:=zbm h rfl g1 g1T g2 g2T
theorem pair13 (h:laidMet Tryz.prog zcq W):Apart "shape/fault.Text" "shape/fault.Count" W:=zbm h rfl g1 g1T g3 g3T
theorem pair14 (h:laidMet Tryz.prog zcq W):Apart "shape/fault.Text" "shape/fault.Mixed" W:=zbm h rfl g1 g1T g4 g4T
theorem pair15 (h:laidMet Tryz.prog zcq W):Apart "shape/fault.Text" "shape/fault.Fixed" W:=zbm h rfl g1 g1T g5 g5T
theorem pair16 (h:laidMet Tryz.prog zcq W):Apart "shape/fault.Text" "shape/fault.Type" W:=zbm h rfl g1 g1T g6 g6T
theorem pair17 (h:laidMet Tryz.prog zcq W):Apart "shape/fault.Text" "shape/fault.Big" W:=zbm h rfl g1 g1T g7 g7T
theorem pair23 (h:laidMet Tryz.prog zcq W):Apart "shape/fault.Free" "shape/fault.Count" W:=zbm h rfl g2 g2T g3 g3T
theorem pair24 (h:laidMet Tryz.prog zcq W):Apart "shape/fault.Free" "shape/fault.Mixed" W:=zbm h rfl g2 g2T g4 g4T
theorem pair25 (h:laidMet Tryz.prog zcq W):Apart "shape/fault.Free" "shape/fault.Fixed" W:=zbm h rfl g2 g2T g5 g5T
theorem pair26 (h:laidMet Tryz.prog zcq W):Apart "shape/fault.Free" "shape/fault.Type" W:=zbm h rfl g2 g2T g6 g6T
theorem pair27 (h:laidMet Tryz.prog zcq W):Apart "shape/fault.Free" "shape/fault.Big" W:=zbm h rfl g2 g2T g7 g7T
theorem pair34 (h:laidMet Tryz.prog zcq W):Apart "shape/fault.Count" "shape/fault.Mixed" W:=zbm h rfl g3 g3T g4 g4T
theorem pair35 (h:laidMet Tryz.prog zcq W):Apart "shape/fault.Count" "shape/fault.Fixed" W:=zbm h rfl g3 g3T g5 g5T
theorem pair36 (h:laidMet Tryz.prog zcq W):Apart "shape/fault.Count" "shape/fault.Type" W:=zbm h rfl g3 g3T g6 g6T
theorem pair37 (h:laidMet Tryz.prog zcq W):Apart "shape/fault.Count" "shape/fault.Big" W:=zbm h rfl g3 g3T g7 g7T
theorem pair45 (h:laidMet Tryz.prog zcq W):Apart "shape/fault.Mixed" "shape/fault.Fixed" W:=zbm h rfl g4 g4T g5 g5T
theorem pair46 (h:laidMet Tryz.prog zcq W):Apart "shape/fault.Mixed" "shape/fault.Type" W:=zbm h rfl g4 g4T g6 g6T
theorem pair47 (h:laidMet Tryz.prog zcq W):Apart "shape/fault.Mixed" "shape/fault.Big" W:=zbm h rfl g4 g4T g7 g7T
theorem pair56 (h:laidMet Tryz.prog zcq W):Apart "shape/fault.Fixed" "shape/fault.Type" W:=zbm h rfl g5 g5T g6 g6T
theorem pair57 (h:laidMet Tryz.prog zcq W):Apart "shape/fault.Fixed" "shape/fault.Big" W:=zbm h rfl g5 g5T g7 g7T
theorem pair67 (h:laidMet Tryz.prog zcq W):Apart "shape/fault.Type" "shape/fault.Big" W:=zbm h rfl g6 g6T g7 g7T
theorem of_sents (h:laidMet Tryz.prog zcq W) (hh:W.cell? ⟨8,0,none⟩=some (.iface 190 (.agg #[.pointer (some ⟨11,55,none⟩)]))):∃tx,Gs tx W:=by
 obtain⟨b1,a1,d1,c1,u1,t1,w1,v1,_,y1,z1⟩:=pair01 h;obtain⟨b2,a2,d2,c2,u2,t2,w2,v2,_,y2,z2⟩:=pair02 h;obtain⟨b3,a3,d3,c3,u3,t3,w3,v3,_,y3,z3⟩:=pair03 h;obtain⟨b4,a4,d4,c4,u4,t4,w4,v4,_,y4,z4⟩:=pair04 h;obtain⟨b5,a5,d5,c5,u5,t5,w5,v5,_,y5,z5⟩:=pair05 h;obtain⟨b6,a6,d6,c6,u6,t6,w6,v6,_,y6,z6⟩:=pair06 h;obtain⟨b7,a7,d7,c7,u7,t7,w7,v7,_,y7,z7⟩:=pair07 h;refine⟨λk=>if k=0 then b1 else if k=1 then a1 else if k=2 then a2 else if k=3 then a3 else if k=4 then a4 else if k=5 then a5 else if k=6 then a6 else a7,⟨⟨λk hk=>?_,hh,World.block_lt_of_cell? W ⟨8,0,none⟩ hh⟩,λj k hj hk hjk=>?_,λk hk=>?_⟩⟩
 ·rcases(by omega:k=0\/k=1\/k=2\/k=3\/k=4\/k=5\/k=6\/k=7) with rfl|rfl|rfl|rfl|rfl|rfl|rfl|rfl
  ·exact zbs g0 w1
  ·exact zbs g1 v1
  ·exact zbs g2 v2
  ·exact zbs g3 v3
  ·exact zbs g4 v4
  ·exact zbs g5 v5
  ·exact zbs g6 v6
  ·exact zbs g7 v7
 ·have N:∀j k,j<k->k<8->(if j=0 then b1 else if j=1 then a1 else if j=2 then a2 else if j=3 then a3 else if j=4 then a4 else if j=5 then a5 else if j=6 then a6 else a7)≠(if k=0 then b1 else if k=1 then a1 else if k=2 then a2 else if k=3 then a3 else if k=4 then a4 else if k=5 then a5 else if k=6 then a6 else a7):=by
   intro j k hjk hk;rcases(by omega:k=0\/k=1\/k=2\/k=3\/k=4\/k=5\/k=6\/k=7) with rfl|rfl|rfl|rfl|rfl|rfl|rfl|rfl
   ·omega
   ·rcases(by omega:j=0) with rfl
    ·exact(pair01 h).ne w1 v1
   ·rcases(by omega:j=0\/j=1) with rfl|rfl
    ·exact(pair02 h).ne w1 v2
    ·exact(pair12 h).ne v1 v2
   ·rcases(by omega:j=0\/j=1\/j=2) with rfl|rfl|rfl
    ·exact(pair03 h).ne w1 v3
    ·exact(pair13 h).ne v1 v3
    ·exact(pair23 h).ne v2 v3
   ·rcases(by omega:j=0\/j=1\/j=2\/j=3) with rfl|rfl|rfl|rfl
    ·exact(pair04 h).ne w1 v4
    ·exact(pair14 h).ne v1 v4
    ·exact(pair24 h).ne v2 v4
    ·exact(pair34 h).ne v3 v4
   ·rcases(by omega:j=0\/j=1\/j=2\/j=3\/j=4) with rfl|rfl|rfl|rfl|rfl
    ·exact(pair05 h).ne w1 v5
    ·exact(pair15 h).ne v1 v5
    ·exact(pair25 h).ne v2 v5
    ·exact(pair35 h).ne v3 v5
    ·exact(pair45 h).ne v4 v5
   ·rcases(by omega:j=0\/j=1\/j=2\/j=3\/j=4\/j=5) with rfl|rfl|rfl|rfl|rfl|rfl
    ·exact(pair06 h).ne w1 v6
    ·exact(pair16 h).ne v1 v6
    ·exact(pair26 h).ne v2 v6
    ·exact(pair36 h).ne v3 v6
    ·exact(pair46 h).ne v4 v6
    ·exact(pair56 h).ne v5 v6
   ·rcases(by omega:j=0\/j=1\/j=2\/j=3\/j=4\/j=5\/j=6) with rfl|rfl|rfl|rfl|rfl|rfl|rfl
    ·exact(pair07 h).ne w1 v7
    ·exact(pair17 h).ne v1 v7
    ·exact(pair27 h).ne v2 v7
    ·exact(pair37 h).ne v3 v7
    ·exact(pair47 h).ne v4 v7
    ·exact(pair57 h).ne v5 v7
    ·exact(pair67 h).ne v6 v7
  rcases Nat.lt_or_gt_of_ne hjk with h1|h1
  ·exact N j k h1 hk
  ·exact(N k j h1 hj).symm
 ·rcases(by omega:k=0\/k=1\/k=2\/k=3\/k=4\/k=5\/k=6\/k=7) with rfl|rfl|rfl|rfl|rfl|rfl|rfl|rfl
  ·exact⟨_,_,y1⟩
  ·exact⟨_,_,z1⟩
  ·exact⟨_,_,z2⟩
  ·exact⟨_,_,z3⟩
  ·exact⟨_,_,z4⟩
  ·exact⟨_,_,z5⟩
  ·exact⟨_,_,z6⟩
  ·exact⟨_,_,z7⟩
theorem hand_of (h:handlesMet Tryz.prog [("errors.errorType",Rows.laid_errors_errorType)] W):W.cell? ⟨8,0,none⟩=some (.iface 190 (.agg #[.pointer (some ⟨11,55,none⟩)])):=by
 obtain⟨name,u,ty,e1,e2,e3,e4,e5⟩:=h _ (List.mem_singleton.2 rfl);have en:name=[101,114,114,111,114]:=(z1q e1).symm;subst en;obtain rfl:=z1q (rtRow.symm.trans e2);have hm:ty∈(List.range 382).filter λt=>Tryz.prog.rowNamed t [101,114,114,111,114]:=List.mem_filter.2 ⟨List.mem_range.2 (by rw[<-typesSize];exact e3),e4⟩
 rw[oneRow] at hm;obtain rfl:=List.mem_singleton.1 hm;have hh:typeHandle Tryz.prog 55=.pointer (some ⟨11,55,none⟩):=by kernel_rfl
 rw[hh] at e5;exact zbs gType e5
end
end Go.Proofs.YtceadeaodbadlaaGreatDoor
namespace Go.Proofs.YtceadeaodbadlaaGreatDoor
abbrev Ty:Type:=Go.Deep.BT Unit
abbrev tI:Ty:=.node 0 0 () .nil .nil
abbrev tB:Ty:=.node 1 0 () .nil .nil
abbrev tV (o:Nat):Ty:=.node 2 o () .nil .nil
abbrev tL (a:Ty):Ty:=.node 3 0 () a .nil
abbrev tP (a b:Ty):Ty:=.node 4 0 () a b
abbrev tF (a b:Ty):Ty:=.node 5 0 () a b
def sz:Ty->Nat
 | .nil=>0
 | .node _ _ _ a b=>sz a+sz b+1
def Ok:Ty->Prop
 | .nil=>False
 | .node g o _ a b=>
  (g=0/\o=0/\a=.nil/\b=.nil)\/(g=1/\o=0/\a=.nil/\b=.nil)\/(g=2/\(970<=o/\o<1230)/\a=.nil/\b=.nil)\/
  (g=3/\o=0/\Ok a/\b=.nil)\/(g=4/\o=0/\Ok a/\Ok b)\/(g=5/\o=0/\Ok a/\Ok b)
theorem Ok.cases {t:Ty} (h:Ok t):t=tI\/t=tB\/(∃o,970<=o/\o<1230/\t=tV o)\/(∃a,Ok a/\t=tL a)\/(∃a b,Ok a/\Ok b/\t=tP a b)\/(∃a b,Ok a/\Ok b/\t=tF a b):=by
 cases t with
 |nil=>exact h.elim
 |node g o u a b=>
  cases u
  rcases h with ⟨rfl,rfl,rfl,rfl⟩|⟨rfl,rfl,rfl,rfl⟩|⟨rfl,ho,rfl,rfl⟩|⟨rfl,rfl,ha,rfl⟩|⟨rfl,rfl,ha,hb⟩|⟨rfl,rfl,ha,hb⟩
  ·exact .inl rfl
  ·exact .inr (.inl rfl)
  ·exact .inr (.inr (.inl ⟨o,ho.1,ho.2,rfl⟩))
  ·exact .inr (.inr (.inr (.inl ⟨a,ha,rfl⟩)))
  ·exact .inr (.inr (.inr (.inr (.inl ⟨a,b,ha,hb,rfl⟩))))
  ·exact .inr (.inr (.inr (.inr (.inr ⟨a,b,ha,hb,rfl⟩))))
theorem okI:Ok tI:=.inl ⟨rfl,rfl,rfl,rfl⟩
theorem okB:Ok tB:=.inr (.inl ⟨rfl,rfl,rfl,rfl⟩)
theorem okV {o:Nat} (h:970<=o) (h':o<1230):Ok (tV o):=.inr (.inr (.inl ⟨rfl,⟨h,h'⟩,rfl,rfl⟩))
theorem okL {a:Ty} (h:Ok a):Ok (tL a):=.inr (.inr (.inr (.inl ⟨rfl,rfl,h,rfl⟩)))
theorem okP {a b:Ty} (h:Ok a) (h':Ok b):Ok (tP a b):=.inr (.inr (.inr (.inr (.inl ⟨rfl,rfl,h,h'⟩))))
theorem okF {a b:Ty} (h:Ok a) (h':Ok b):Ok (tF a b):=.inr (.inr (.inr (.inr (.inr ⟨rfl,rfl,h,h'⟩))))
def eqT:Ty->Ty->Bool
 | .nil,.nil=>true
 | .node g o _ a b,.node h p _ c d=>g==h && o==p && eqT a c && eqT b d
 |_,_=>false
theorem zgp:∀x y:Ty,eqT x y=true ↔ x=y:=by
 intro x
 induction x with
 |nil=>intro y;cases y<;>simp[eqT]
 |node g o u a b iha ihb=>
  intro y
  cases u
  cases y with
  |nil=>simp[eqT]
  |node h p u' c d=>
   cases u'
   simp only[eqT,Bool.and_eq_true,beq_iff_eq,iha,ihb,Go.Deep.BT.node.injEq,true_and];constructor
   ·rintro⟨⟨⟨rfl,rfl⟩,rfl⟩,rfl⟩;simp
   ·rintro⟨rfl,rfl,rfl,rfl⟩;simp
def look:List (Nat×Ty)->Nat->Option Ty
 |[],_=>none
 |(p,t)::r,o=>if p=o then some t else look r o
def zdh:Ty->Ty->List (Nat×Ty)->Option (List (Nat×Ty))
 | .nil,_,_=>none
 | .node g o _ a a',s,l=>
  if g=2 then
   match look l o with
   |none=>some (l++[(o,s)])
   |some t=>if eqT t s then some l else none
  else match s with
   | .nil=>none
   | .node h _ _ b b'=>
    if g=h then
     if g=0\/g=1 then some l
     else if g=3 then zdh a b l
     else match zdh a b l with
      |none=>none
      |some m=>zdh a' b' m
    else none
theorem zcj (g o:Nat) (u:Unit) (a a' s:Ty) (l:List (Nat×Ty)):zdh (.node g o u a a') s l=
 if g=2 then
  match look l o with
  |none=>some (l++[(o,s)])
  |some t=>if eqT t s then some l else none
 else match s with
  | .nil=>none
  | .node h _ _ b b'=>
   if g=h then
    if g=0\/g=1 then some l
    else if g=3 then zdh a b l
    else match zdh a b l with
     |none=>none
     |some m=>zdh a' b' m
   else none:=by
 cases s<;>rfl
def sub (θ:Nat->Ty):Ty->Ty
 | .nil=> .nil
 | .node g o u a b=>if g=2 then θ o else .node g o u (sub θ a) (sub θ b)
def zsy (θ:Nat->Ty) (l:List (Nat×Ty)):Prop:=∀o t,look l o=some t->θ o=t
theorem zie (l m:List (Nat×Ty)) (o:Nat):look (l++m) o=match look l o with|some t=>some t|none=>look m o:=by
 induction l with
 |nil=>rfl
 |cons x l ih=>
  obtain⟨p,t⟩:=x;simp only[List.cons_append,look];split
  ·rfl
  ·exact ih
theorem zse:∀(g s:Ty) (l m:List (Nat×Ty)),zdh g s l=some m->∃r,m=l++r:=by
 intro g
 induction g with
 |nil=>intro s l m h;simp[zdh] at h
 |node g o u a b iha ihb=>
  intro s l m h;rw[zcj] at h;split at h
  ·split at h
   ·cases h;exact⟨_,rfl⟩
   ·split at h
    ·cases h;exact⟨[],by simp⟩
    ·cases h
  ·split at h
   ·cases h
   ·split at h
    ·split at h
     ·cases h;exact⟨[],by simp⟩
     ·split at h
      ·exact iha _ _ _ h
      ·split at h
       ·cases h
       ·rename_i h1
        obtain⟨r,rfl⟩:=iha _ _ _ h1;obtain⟨r',rfl⟩:=ihb _ _ _ h;exact⟨r++r',by simp⟩
    ·cases h
theorem znu {θ:Nat->Ty} {l r:List (Nat×Ty)} (h:zsy θ (l++r)):zsy θ l:=by
 intro o t ht;exact h o t (by rw[zie,ht])
theorem fits_sound:∀(g s:Ty) (l m:List (Nat×Ty)),Ok g->Ok s->zdh g s l=some m->∀θ,zsy θ m->sub θ g=s:=by
 intro g
 induction g with
 |nil=>intro s l m hg;exact hg.elim
 |node g o u a b iha ihb=>
  intro s l m hg hs h θ hθ
  cases u
  rw[zcj] at h;split at h
  ·rename_i e
   subst e;show (if 2=2 then θ o else _)=s;rw[if_pos rfl];split at h
   ·rename_i hl
    cases h
    exact hθ o s (by rw[zie,hl];simp[look])
   ·rename_i t hl
    split at h
    ·rename_i he
     cases h
     rw[hθ o t hl];exact(zgp t s).1 he
    ·cases h
  ·rename_i e2
   split at h
   ·cases h
   ·rename_i h' p u' c d
    cases u'
    split at h
    ·rename_i e
     subst e;show (if g=2 then θ o else _)=_;rw[if_neg e2];rcases hg with ⟨rfl,rfl,rfl,rfl⟩|⟨rfl,rfl,rfl,rfl⟩|⟨rfl,_⟩|⟨rfl,rfl,ha,rfl⟩|⟨rfl,rfl,ha,hb⟩|⟨rfl,rfl,ha,hb⟩
     ·rcases hs with ⟨_,rfl,rfl,rfl⟩|⟨e,_⟩|⟨e,_⟩|⟨e,_⟩|⟨e,_⟩|⟨e,_⟩<;>first|rfl|cases e
     ·rcases hs with ⟨e,_⟩|⟨_,rfl,rfl,rfl⟩|⟨e,_⟩|⟨e,_⟩|⟨e,_⟩|⟨e,_⟩<;>first|rfl|cases e
     ·exact absurd rfl e2
     ·rcases hs with ⟨e,_⟩|⟨e,_⟩|⟨e,_⟩|⟨_,rfl,hc,rfl⟩|⟨e,_⟩|⟨e,_⟩<;>first|cases e|skip
      simp at h;rw[iha _ _ _ ha hc h θ hθ];rfl
     ·rcases hs with ⟨e,_⟩|⟨e,_⟩|⟨e,_⟩|⟨e,_⟩|⟨_,rfl,hc,hd⟩|⟨e,_⟩<;>first|cases e|skip
      simp at h;split at h
      ·cases h
      ·rename_i m1 h1
       obtain⟨r,rfl⟩:=zse _ _ _ _ h;rw[iha _ _ _ ha hc h1 θ (znu hθ),ihb _ _ _ hb hd h θ hθ]
     ·rcases hs with ⟨e,_⟩|⟨e,_⟩|⟨e,_⟩|⟨e,_⟩|⟨e,_⟩|⟨_,rfl,hc,hd⟩<;>first|cases e|skip
      simp at h;split at h
      ·cases h
      ·rename_i m1 h1
       obtain⟨r,rfl⟩:=zse _ _ _ _ h;rw[iha _ _ _ ha hc h1 θ (znu hθ),ihb _ _ _ hb hd h θ hθ]
    ·cases h
theorem zqg:∀(g:Ty) (l:List (Nat×Ty)) (θ:Nat->Ty),Ok g->zsy θ l->∃m,zdh g (sub θ g) l=some m/\zsy θ m:=by
 intro g
 induction g with
 |nil=>intro l θ hg;exact hg.elim
 |node g o u a b iha ihb=>
  intro l θ hg hθ
  cases u
  rcases hg with ⟨rfl,rfl,rfl,rfl⟩|⟨rfl,rfl,rfl,rfl⟩|⟨rfl,ho,rfl,rfl⟩|⟨rfl,rfl,ha,rfl⟩|⟨rfl,rfl,ha,hb⟩|⟨rfl,rfl,ha,hb⟩
  ·exact⟨l,by simp[zdh,sub],hθ⟩
  ·exact⟨l,by simp[zdh,sub],hθ⟩
  ·rw[zcj,if_pos rfl]
   have e:sub θ (tV o)=θ o:=rfl;rw[e]
   cases hl:look l o with
   |none=>
    refine⟨_,rfl,λp t hp=>?_⟩;rw[zie] at hp;split at hp
    ·rename_i hq;cases hp;exact hθ p t hq
    ·simp only[look] at hp
     split at hp
     ·rename_i e;subst e;cases hp;rfl
     ·cases hp
   |some t=>
    have:eqT t (θ o)=true:=(zgp _ _).2 (hθ o t hl).symm;exact⟨l,by simp[this],hθ⟩
  ·obtain⟨m,h1,h2⟩:=iha l θ ha hθ
   refine⟨m,?_,h2⟩;have e:sub θ (tL a)=tL (sub θ a):=rfl;rw[e,zcj];simpa using h1
  ·obtain⟨m,h1,h2⟩:=iha l θ ha hθ
   obtain⟨m',h3,h4⟩:=ihb m θ hb h2;refine⟨m',?_,h4⟩;have e:sub θ (tP a b)=tP (sub θ a) (sub θ b):=rfl;rw[e,zcj];simp[h1,h3]
  ·obtain⟨m,h1,h2⟩:=iha l θ ha hθ
   obtain⟨m',h3,h4⟩:=ihb m θ hb h2;refine⟨m',?_,h4⟩;have e:sub θ (tF a b)=tF (sub θ a) (sub θ b):=rfl;rw[e,zcj];simp[h1,h3]
def inst (g s:Ty):Bool:=(zdh g s []).isSome
theorem inst_iff {g s:Ty} (hg:Ok g) (hs:Ok s):inst g s=true ↔ ∃θ,sub θ g=s:=by
 unfold inst;constructor
 ·intro h
  obtain⟨m,hm⟩:=Option.isSome_iff_exists.1 h;refine⟨λo=>(look m o).getD tI,fits_sound g s [] m hg hs hm _ λo t ht=>by simp[ht]⟩
 ·rintro⟨θ,rfl⟩
  obtain⟨m,hm,_⟩:=zqg g [] θ hg (λo t h=>by simp[look] at h);rw[hm];rfl
theorem sub_id:∀g,Ok g->sub tV g=g:=by
 intro g
 induction g with
 |nil=>intro h;exact h.elim
 |node g o u a b iha ihb=>
  intro hg
  cases u
  rcases hg with ⟨rfl,rfl,rfl,rfl⟩|⟨rfl,rfl,rfl,rfl⟩|⟨rfl,ho,rfl,rfl⟩|⟨rfl,rfl,ha,rfl⟩|⟨rfl,rfl,ha,hb⟩|⟨rfl,rfl,ha,hb⟩
  ·rfl
  ·rfl
  ·rfl
  ·show tL (sub tV a)=tL a;rw[iha ha]
  ·show tP (sub tV a) (sub tV b)=tP a b;rw[iha ha,ihb hb]
  ·show tF (sub tV a) (sub tV b)=tF a b;rw[iha ha,ihb hb]
theorem zua (θ θ':Nat->Ty):∀g,sub θ' (sub θ g)=sub (λo=>sub θ' (θ o)) g:=by
 intro g
 induction g with
 |nil=>rfl
 |node g o u a b iha ihb=>
  by_cases h:g=2
  ·simp[sub,h]
  ·simp[sub,h,iha,ihb]
abbrev TOut:Type:=Except Nat (Ty×Nat)
def vnum (c d:Nat):Nat:=10*c+(if 49<=d/\d<=57 then d-48 else 0)
def pt (s:ByteArray):Nat->Nat->Nat->Ty->TOut
 |0,_,i,_=> .error i
 |n+1,0,i,_=>
  match pt s n 2 i .nil with
  | .error p=> .error p
  | .ok (u,j)=>
   match pt s n 1 j u with
   | .error p=> .error p
   | .ok (a,k)=>
    if chr s k=62 then
     match pt s n 0 (k+1) .nil with
     | .error p=> .error p
     | .ok (b,l)=> .ok (tF a b,l)
    else .ok (a,k)
 |n+1,1,i,a=>
  if chr s i=42 then
   match pt s n 2 (i+1) .nil with
   | .error p=> .error p
   | .ok (b,j)=>pt s n 1 j (tP a b)
  else .ok (a,i)
 |n+1,_+2,i,_=>
  if chr s i=73 then .ok (tI,i+1)
  else if chr s i=66 then .ok (tB,i+1)
  else if chr s i=91 then
   match pt s n 0 (i+1) .nil with
   | .error p=> .error p
   | .ok (a,j)=>if chr s j=93 then .ok (tL a,j+1) else .error j
  else if chr s i=40 then
   match pt s n 0 (i+1) .nil with
   | .error p=> .error p
   | .ok (a,j)=>if chr s j=41 then .ok (a,j+1) else .error j
  else if zaq (chr s i) then .ok (tV (vnum (chr s i) (chr s (i+1))),if 49<=chr s (i+1)/\chr s (i+1)<=57 then i+2 else i+1)
  else .error i
def zbe (s:ByteArray):Except Nat Ty:=
 match pt s (3*s.size+3) 0 0 .nil with
 | .error p=> .error p
 | .ok (t,j)=>if j<s.size then .error j else .ok t
theorem zwl {c d:Nat} (h:zaq c=true):970<=vnum c d/\vnum c d<1230:=by
 simp[zaq] at h;unfold vnum;split<;>omega
theorem zax (s:ByteArray):∀(n t i:Nat) (a u:Ty) (j:Nat),pt s n t i a=.ok (u,j)->i<=s.size->(t=1->Ok a)->
 (i<j\/(t=1/\i<=j))/\j<=s.size/\Ok u:=by
 intro n
 induction n with
 |zero=>intro t i a u j h;simp[pt] at h
 |succ n ih=>
  intro t i a u j h hi ha
  match t with
  |0=>
   rw[pt] at h;split at h
   ·cases h
   ·rename_i h1
    have p1:=ih _ _ _ _ _ h1 hi (by omega);split at h
    ·cases h
    ·rename_i h2
     have p2:=ih _ _ _ _ _ h2 (by omega) (λ_=>p1.2.2);split at h
     ·rename_i h3
      have i3:=zag (λe=>absurd (h3.symm.trans e) (by decide));split at h
      ·cases h
      ·rename_i h4
       have p4:=ih _ _ _ _ _ h4 (by omega) (by omega)
       cases h
       exact⟨by omega,p4.2.1,okF p2.2.2 p4.2.2⟩
     ·cases h
      exact⟨by omega,p2.2.1,p2.2.2⟩
  |1=>
   rw[pt] at h;split at h
   ·rename_i h3
    have i3:=zag (λe=>absurd (h3.symm.trans e) (by decide));split at h
    ·cases h
    ·rename_i h1
     have p1:=ih _ _ _ _ _ h1 (by omega) (by omega);have p2:=ih _ _ _ _ _ h (by omega) (λ_=>okP (ha rfl) p1.2.2);exact⟨by omega,p2.2.1,p2.2.2⟩
   ·cases h
    exact⟨by omega,hi,ha rfl⟩
  |t+2=>
   rw[pt] at h;split at h
   ·rename_i h3
    have i3:=zag (λe=>absurd (h3.symm.trans e) (by decide))
    cases h;exact⟨by omega,by omega,okI⟩
   split at h
   ·rename_i h3
    have i3:=zag (λe=>absurd (h3.symm.trans e) (by decide))
    cases h;exact⟨by omega,by omega,okB⟩
   split at h
   ·rename_i h3
    have i3:=zag (λe=>absurd (h3.symm.trans e) (by decide));split at h
    ·cases h
    ·rename_i h1
     have p1:=ih _ _ _ _ _ h1 (by omega) (by omega);split at h
     ·rename_i h4
      have i4:=zag (λe=>absurd (h4.symm.trans e) (by decide))
      cases h;exact⟨by omega,by omega,okL p1.2.2⟩
     ·cases h
   split at h
   ·rename_i h3
    have i3:=zag (λe=>absurd (h3.symm.trans e) (by decide));split at h
    ·cases h
    ·rename_i h1
     have p1:=ih _ _ _ _ _ h1 (by omega) (by omega);split at h
     ·rename_i h4
      have i4:=zag (λe=>absurd (h4.symm.trans e) (by decide))
      cases h;exact⟨by omega,by omega,p1.2.2⟩
     ·cases h
   split at h
   ·rename_i h3
    have i3:=zag (by intro e;rw[e] at h3;exact absurd h3 (by decide));have hv:=zwl (d:=chr s (i+1)) h3
    cases h
    refine⟨by split<;>omega,?_,okV hv.1 hv.2⟩
    split
    ·rename_i h4
     have i4:=zag (s:=s) (i:=i+1) (by omega);omega
    ·omega
   ·cases h
structure Pt where
 c:Nat
 p:Nat
 g:List Ty
 v:List (Nat×Nat)
abbrev Ex:Type:=Go.Deep.BT Pt
abbrev eX (c p:Nat) (g:List Ty):Ex:=.node 0 0 ⟨c,p,g,[]⟩ .nil .nil
abbrev eK (c p:Nat) (g:List Ty):Ex:=.node 1 0 ⟨c,p,g,[]⟩ .nil .nil
abbrev eN (c p:Nat):Ex:=.node 2 0 ⟨c,p,[],[]⟩ .nil .nil
abbrev eF (c p:Nat) (g:List Ty) (a:Ex):Ex:=.node 3 0 ⟨c,p,g,[]⟩ a .nil
abbrev eL (c p:Nat) (v:List (Nat×Nat)) (a b:Ex):Ex:=.node 4 0 ⟨c,p,[],v⟩ a b
abbrev eC (p:Nat) (a b:Ex):Ex:=.node 5 0 ⟨0,p,[],[]⟩ a b
def pT (s:ByteArray) (i:Nat):TOut:=pt s (3*s.size+3) 0 i .nil
def pg (s:ByteArray):Nat->Nat->List Ty->Except Nat (List Ty×Nat)
 |0,i,_=> .error i
 |n+1,i,l=>
  match pT s i with
  | .error p=> .error p
  | .ok (t,j)=>if chr s j=44 then pg s n (j+1) (l++[t]) else if chr s j=125 then .ok (l++[t],j+1) else .error j
def vEnd (s:ByteArray) (i:Nat):Nat:=if 49<=chr s (i+1)/\chr s (i+1)<=57 then i+2 else i+1
def pw (s:ByteArray):Nat->Nat->List (Nat×Nat)->Except Nat (List (Nat×Nat)×Nat)
 |0,i,_=> .error i
 |n+1,i,l=>
  if chr s i=62 then .ok (l,i+1)
  else if zaq (chr s i) then pw s n (vEnd s i) (l++[(vnum (chr s i) (chr s (i+1)),i)])
  else .error i
def zku (s:ByteArray) (ty:Bool) (i:Nat):Except Nat (List Ty×Nat):=
 if ty then
  if chr s i=58 then
   match pT s (i+1) with
   | .error p=> .error p
   | .ok (t,j)=> .ok ([t],j)
  else .error i
 else .ok ([],i)
def ownO (s:ByteArray) (ty:Bool) (i:Nat):Except Nat (List (Nat×Nat)×Nat):=
 if ty then if chr s i=60 then pw s (s.size+1) (i+1) [] else .error i else .ok ([],i)
def zfg (s:ByteArray) (ty:Bool) (i:Nat):Except Nat (List Ty×Nat):=
 if ty then if chr s i=123 then pg s (s.size+1) (i+1) [] else .ok ([],i) else .ok ([],i)
abbrev EOut:Type:=Except Nat (Ex×Nat)
def pe (s:ByteArray) (ty:Bool):Nat->Nat->Nat->Ex->EOut
 |0,_,i,_=> .error i
 |n+1,0,i,_=>
  if chr s i=92 then
   if zaq (chr s (i+1)) then
    match zku s ty (i+2) with
    | .error p=> .error p
    | .ok (g,j)=>
     if chr s j=46 then
      match pe s ty n 0 (j+1) .nil with
      | .error p=> .error p
      | .ok (a,k)=> .ok (eF (chr s (i+1)) i g a,k)
     else .error j
   else .error (i+1)
  else if chr s i=64 then
   if zaq (chr s (i+1)) then
    match ownO s ty (i+2) with
    | .error p=> .error p
    | .ok (v,j)=>
     if chr s j=61 then
      match pe s ty n 0 (j+1) .nil with
      | .error p=> .error p
      | .ok (a,k)=>
       if chr s k=59 then
        match pe s ty n 0 (k+1) .nil with
        | .error p=> .error p
        | .ok (b,l)=> .ok (eL (chr s (i+1)) i v a b,l)
       else .error k
     else .error j
   else .error (i+1)
  else
   match pe s ty n 2 i .nil with
   | .error p=> .error p
   | .ok (a,j)=>pe s ty n 1 j a
 |n+1,1,i,a=>
  if zal (chr s i) then
   match pe s ty n 2 i .nil with
   | .error p=> .error p
   | .ok (b,j)=>pe s ty n 1 j (eC i a b)
  else .ok (a,i)
 |n+1,_+2,i,_=>
  if zal (chr s i) then
   if zcs (chr s i) then .ok (eN (chr s i) i,i+1)
   else if chr s i=40 then
    match pe s ty n 0 (i+1) .nil with
    | .error p=> .error p
    | .ok (a,j)=>if chr s j=41 then .ok (a,j+1) else .error j
   else
    match zfg s ty (i+1) with
    | .error p=> .error p
    | .ok (g,j)=> .ok (if zdi (chr s i) then eK (chr s i) i g else eX (chr s i) i g,j)
  else .error i
def zaz (s:ByteArray) (ty:Bool):Except Nat Ex:=
 match pe s ty (3*s.size+2) 0 0 .nil with
 | .error p=> .error p
 | .ok (e,j)=>if j<s.size then .error j else .ok e
def knd:Ex->Nat
 | .nil=>0
 | .node t _ _ _ _=>if t<=2 then 0 else if t=5 then 1 else 2
def frm:Ex->List UInt8
 | .nil=>[]
 | .node t _ x a b=>
  if t=3 then 92::u8 x.c::46::frm a
  else if t=4 then 64::u8 x.c::61::(frm a++59::frm b)
  else if t=5 then zcb (knd a) (frm a)++zbk (knd b) (frm b)
  else [u8 x.c]
section
variable {ty:Bool} {s:ByteArray} {g:List Ty} {i j:Nat} {t:Ty}
theorem zhb (s:ByteArray):∀(n t i:Nat) (a u:Ty) (j:Nat),pt s n t i a=.ok (u,j)->i<=s.size->(t=1->Ok a)->
 sz u<=(if t=1 then sz a else 0)+(j-i):=by
 intro n
 induction n with
 |zero=>intro t i a u j h;simp[pt] at h
 |succ n ih=>
  intro t i a u j h hi ha
  match t with
  |0=>
   rw[pt] at h;split at h
   ·cases h
   ·rename_i h1
    have p1:=zax s _ _ _ _ _ _ h1 hi (by omega);have q1:=ih _ _ _ _ _ h1 hi (by omega);split at h
    ·cases h
    ·rename_i h2
     have p2:=zax s _ _ _ _ _ _ h2 (by omega) (λ_=>p1.2.2);have q2:=ih _ _ _ _ _ h2 (by omega) (λ_=>p1.2.2);split at h
     ·rename_i h3
      split at h
      ·cases h
      ·rename_i h4
       have i3:=zag (λe=>absurd (h3.symm.trans e) (by decide));have p4:=zax s _ _ _ _ _ _ h4 (by omega) (by omega);have q4:=ih _ _ _ _ _ h4 (by omega) (by omega)
       cases h
       simp[sz] at *
       omega
     ·cases h
      simp at *
      omega
  |1=>
   rw[pt] at h;split at h
   ·rename_i h3
    have i3:=zag (λe=>absurd (h3.symm.trans e) (by decide));split at h
    ·cases h
    ·rename_i h1
     have p1:=zax s _ _ _ _ _ _ h1 (by omega) (by omega);have q1:=ih _ _ _ _ _ h1 (by omega) (by omega);have p2:=zax s _ _ _ _ _ _ h (by omega) (λ_=>okP (ha rfl) p1.2.2);have q2:=ih _ _ _ _ _ h (by omega) (λ_=>okP (ha rfl) p1.2.2);simp[sz] at *
     omega
   ·cases h
    simp
  |t+2=>
   rw[pt] at h;split at h
   ·cases h;simp[sz]
   split at h
   ·cases h;simp[sz]
   split at h
   ·rename_i h3
    have i3:=zag (λe=>absurd (h3.symm.trans e) (by decide));split at h
    ·cases h
    ·rename_i h1
     have p1:=zax s _ _ _ _ _ _ h1 (by omega) (by omega);have q1:=ih _ _ _ _ _ h1 (by omega) (by omega);split at h
     ·cases h;simp[sz] at *;omega
     ·cases h
   split at h
   ·rename_i h3
    have i3:=zag (λe=>absurd (h3.symm.trans e) (by decide));split at h
    ·cases h
    ·rename_i h1
     have p1:=zax s _ _ _ _ _ _ h1 (by omega) (by omega);have q1:=ih _ _ _ _ _ h1 (by omega) (by omega);split at h
     ·cases h;simp at *;omega
     ·cases h
   split at h
   ·cases h
    simp[sz];split<;>omega
   ·cases h
def GOk (m:Nat) (l:List Ty):Prop:=∀t∈l,Ok t/\sz t<=m
theorem GOk.nil (m:Nat):GOk m []:=by intro t h;cases h
theorem GOk.snoc {m:Nat} {l:List Ty} (h:GOk m l) (ht:Ok t) (hs:sz t<=m):GOk m (l++[t]):=by
 intro u hu;rcases z1y.1 hu with hu|hu
 ·exact h u hu
 ·obtain rfl:u=t:=by simpa using hu
  exact⟨ht,hs⟩
def VOk (l:List (Nat×Nat)):Prop:=∀x∈l,970<=x.1/\x.1<1230
theorem VOk.nil:VOk []:=by intro t h;cases h
theorem VOk.snoc {l:List (Nat×Nat)} {o p:Nat} (h:VOk l) (ho:970<=o/\o<1230):VOk (l++[(o,p)]):=by
 intro u hu;rcases z1y.1 hu with hu|hu
 ·exact h u hu
 ·obtain rfl:u=(o,p):=by simpa using hu
  exact ho
theorem zdw (h:pT s i=.ok (t,j)) (hi:i<=s.size):i<j/\j<=s.size/\Ok t/\sz t<=s.size:=by
 have p:=zax s _ _ _ _ _ _ h hi (by omega);have q:=zhb s _ _ _ _ _ _ h hi (by omega);simp at q;exact⟨by omega,p.2.1,p.2.2,by omega⟩
theorem zrp (s:ByteArray):∀(n i:Nat) (l m:List Ty) (j:Nat),pg s n i l=.ok (m,j)->i<=s.size->GOk s.size l->i<j/\j<=s.size/\GOk s.size m:=by
 intro n
 induction n with
 |zero=>intro i l m j h;simp[pg] at h
 |succ n ih=>
  intro i l m j h hi hl;rw[pg] at h;split at h
  ·cases h
  ·rename_i h1
   have p1:=zdw h1 hi;split at h
   ·rename_i h2
    have i2:=zag (λe=>absurd (h2.symm.trans e) (by decide));have p2:=ih _ _ _ _ h (by omega) (hl.snoc p1.2.2.1 p1.2.2.2);exact⟨by omega,p2.2⟩
   ·split at h
    ·rename_i h2
     have i2:=zag (λe=>absurd (h2.symm.trans e) (by decide))
     cases h
     exact⟨by omega,by omega,hl.snoc p1.2.2.1 p1.2.2.2⟩
    ·cases h
theorem zew (h:zaq (chr s i)=true):i<vEnd s i/\vEnd s i<=s.size:=by
 have i1:=zag (by intro e;rw[e] at h;exact absurd h (by decide));unfold vEnd;split
 ·rename_i h4
  have i4:=zag (s:=s) (i:=i+1) (by omega);omega
 ·omega
theorem zsj (s:ByteArray):∀(n i:Nat) (l m:List (Nat×Nat)) (j:Nat),pw s n i l=.ok (m,j)->i<=s.size->VOk l->i<j/\j<=s.size/\VOk m:=by
 intro n
 induction n with
 |zero=>intro i l m j h;simp[pw] at h
 |succ n ih=>
  intro i l m j h hi hl;rw[pw] at h;split at h
  ·rename_i h2
   have i2:=zag (λe=>absurd (h2.symm.trans e) (by decide))
   cases h
   exact⟨by omega,by omega,hl⟩
  ·split at h
   ·rename_i h2
    have p1:=zew h2;have p2:=ih _ _ _ _ h p1.2 (hl.snoc (zwl h2));exact⟨by omega,p2.2⟩
   ·cases h
theorem zhd (h:zku s ty i=.ok (g,j)) (hi:i<=s.size):i<=j/\j<=s.size/\GOk s.size g/\(ty=true->∃t,g=[t])/\(ty=false->g=[]):=by
 unfold zku at h;split at h
 ·split at h
  ·rename_i h2
   have i2:=zag (λe=>absurd (h2.symm.trans e) (by decide));split at h
   ·cases h
   ·rename_i h1
    have p1:=zdw h1 (by omega)
    cases h
    exact⟨by omega,p1.2.1,(GOk.nil _).snoc p1.2.2.1 p1.2.2.2,λ_=>⟨_,rfl⟩,λe=>by simp_all⟩
  ·cases h
 ·cases h
  exact⟨z1d _,hi,GOk.nil _,λe=>by simp_all,λ_=>rfl⟩
theorem zgh {v:List (Nat×Nat)} (h:ownO s ty i=.ok (v,j)) (hi:i<=s.size):i<=j/\j<=s.size/\VOk v:=by
 unfold ownO at h;split at h
 ·split at h
  ·rename_i h2
   have i2:=zag (λe=>absurd (h2.symm.trans e) (by decide));have p1:=zsj s _ _ _ _ _ h (by omega) VOk.nil;exact⟨by omega,p1.2⟩
  ·cases h
 ·cases h
  exact⟨z1d _,hi,VOk.nil⟩
theorem zgi (h:zfg s ty i=.ok (g,j)) (hi:i<=s.size):i<=j/\j<=s.size/\GOk s.size g:=by
 unfold zfg at h;split at h
 ·split at h
  ·rename_i h2
   have i2:=zag (λe=>absurd (h2.symm.trans e) (by decide));have p1:=zrp s _ _ _ _ _ h (by omega) (GOk.nil _);exact⟨by omega,p1.2⟩
  ·cases h;exact⟨z1d _,hi,GOk.nil _⟩
 ·cases h
  exact⟨z1d _,hi,GOk.nil _⟩
def EOk (ty:Bool) (m:Nat):Ex->Prop
 | .nil=>False
 | .node t _ x a b=>
  (t=0/\zaq x.c=true/\GOk m x.g/\a=.nil/\b=.nil)\/
  (t=1/\zdi x.c=true/\GOk m x.g/\a=.nil/\b=.nil)\/
  (t=2/\zcs x.c=true/\a=.nil/\b=.nil)\/
  (t=3/\zaq x.c=true/\GOk m x.g/\(ty=true->∃u,x.g=[u])/\EOk ty m a/\b=.nil)\/
  (t=4/\zaq x.c=true/\VOk x.v/\EOk ty m a/\EOk ty m b)\/
  (t=5/\EOk ty m a/\EOk ty m b)
theorem zas (s:ByteArray) (ty:Bool):∀(n t i:Nat) (a u:Ex) (j:Nat),pe s ty n t i a=.ok (u,j)->i<=s.size->(t=1->EOk ty s.size a)->
 (i<j\/(t=1/\i<=j))/\j<=s.size/\EOk ty s.size u:=by
 intro n
 induction n with
 |zero=>intro t i a u j h;simp[pe] at h
 |succ n ih=>
  intro t i a u j h hi ha
  match t with
  |0=>
   rw[pe] at h;split at h
   ·split at h
    ·rename_i h2
     have i2:=zag (s:=s) (i:=i+1) (by rintro e;rw[e] at h2;exact absurd h2 (by decide));split at h
     ·cases h
     ·rename_i h3
      have p3:=zhd h3 (by omega);split at h
      ·rename_i h4
       have i4:=zag (λe=>absurd (h4.symm.trans e) (by decide));split at h
       ·cases h
       ·rename_i h5
        have p5:=ih _ _ _ _ _ h5 (by omega) (by omega)
        cases h
        exact⟨by omega,p5.2.1,.inr (.inr (.inr (.inl ⟨rfl,h2,p3.2.2.1,p3.2.2.2.1,p5.2.2,rfl⟩)))⟩
      ·cases h
    ·cases h
   ·split at h
    ·split at h
     ·rename_i h2
      have i2:=zag (s:=s) (i:=i+1) (by rintro e;rw[e] at h2;exact absurd h2 (by decide));split at h
      ·cases h
      ·rename_i h3
       have p3:=zgh h3 (by omega);split at h
       ·rename_i h4
        have i4:=zag (λe=>absurd (h4.symm.trans e) (by decide));split at h
        ·cases h
        ·rename_i h5
         have p5:=ih _ _ _ _ _ h5 (by omega) (by omega);split at h
         ·rename_i h6
          have i6:=zag (λe=>absurd (h6.symm.trans e) (by decide));split at h
          ·cases h
          ·rename_i h7
           have p7:=ih _ _ _ _ _ h7 (by omega) (by omega)
           cases h
           exact⟨by omega,p7.2.1,.inr (.inr (.inr (.inr (.inl ⟨rfl,h2,p3.2.2,p5.2.2,p7.2.2⟩))))⟩
         ·cases h
       ·cases h
     ·cases h
    ·split at h
     ·cases h
     ·rename_i h4
      have p4:=ih _ _ _ _ _ h4 (by omega) (by omega);have p5:=ih _ _ _ _ _ h (by omega) (λ_=>p4.2.2);exact⟨by omega,p5.2⟩
  |1=>
   rw[pe] at h;split at h
   ·split at h
    ·cases h
    ·rename_i h4
     have p4:=ih _ _ _ _ _ h4 (by omega) (by omega);have p5:=ih _ _ _ _ _ h (by omega) (λ_=> .inr (.inr (.inr (.inr (.inr ⟨rfl,ha rfl,p4.2.2⟩)))));exact⟨by omega,p5.2⟩
   ·cases h;exact⟨by omega,hi,ha rfl⟩
  |t+2=>
   rw[pe] at h;split at h
   ·rename_i h1
    have i1:=zag (s:=s) (i:=i) (zdg h1);split at h
    ·rename_i h2
     cases h;exact⟨by omega,by omega,.inr (.inr (.inl ⟨rfl,h2,rfl,rfl⟩))⟩
    rename_i h2;split at h
    ·split at h
     ·cases h
     ·rename_i h4
      have p4:=ih _ _ _ _ _ h4 (by omega) (by omega);split at h
      ·rename_i h5
       have i5:=zag (λe=>absurd (h5.symm.trans e) (by decide))
       cases h;exact⟨by omega,by omega,p4.2.2⟩
      ·cases h
    rename_i h3;split at h
    ·cases h
    ·rename_i h4
     have p4:=zgi h4 (by omega)
     cases h
     refine⟨by omega,p4.2.1,?_⟩;by_cases hc:zdi (chr s i)=true
     ·rw[if_pos hc];exact .inr (.inl ⟨rfl,hc,p4.2.2,rfl,rfl⟩)
     ·rw[if_neg hc]
      have hl:zaq (chr s i)=true:=by
       rw[zal] at h1;simp[h2,h3,hc] at h1;exact h1
      exact .inl ⟨rfl,hl,p4.2.2,rfl,rfl⟩
   ·cases h
theorem zfz {e:Ex} (h:zaz s ty=.ok e):EOk ty s.size e:=by
 unfold zaz at h;split at h
 ·cases h
 ·rename_i h1
  have:=zas s ty _ _ _ _ _ _ h1 (Nat.zero_le _) (by omega);split at h
  ·cases h
  ·cases h;exact this.2.2
end
end Go.Proofs.YtceadeaodbadlaaGreatDoor
namespace Go.Proofs.YtceadeaodbadlaaGreatDoor
open Go.RowKit
abbrev kv (o:Nat):Value:=.agg #[.int .u8 ((o/10:Nat):Int),.int .u8 ((o % 10:Nat):Int)]
abbrev obL (n:Nat) (x:Value):Obj:=.cells #[x,iZ n,.nilIface,.pointer none] 258 (0,0)
abbrev obP (n:Nat) (x y:Value):Obj:=.cells #[x,y,iZ n,.nilIface,.pointer none] 261 (0,0)
abbrev obF (n:Nat) (x y:Value):Obj:=.cells #[x,y,iZ n,.nilIface,.pointer none] 252 (0,0)
abbrev viL (q:Nat):Value:=.iface 256 (pZ q)
abbrev viP (q:Nat):Value:=.iface 259 (pZ q)
abbrev viF (q:Nat):Value:=.iface 243 (pZ q)
abbrev viI:Value:=.iface 255 (.agg #[])
abbrev viB:Value:=.iface 254 (.agg #[])
abbrev viV (o:Nat):Value:=.iface 263 (kv o)
def Tv (w:World):Ty->Value->Prop
 | .nil,_=>False
 | .node g o _ a b,v=>
  (g=0/\v=viI)\/(g=1/\v=viB)\/(g=2/\v=viV o)\/
  (g=3/\∃q x,v=viL q/\w.heap[q]? =some (obL (sz a+sz b+1) x)/\Tv w a x)\/
  (g=4/\∃q x y,v=viP q/\w.heap[q]? =some (obP (sz a+sz b+1) x y)/\Tv w a x/\Tv w b y)\/
  (g=5/\∃q x y,v=viF q/\w.heap[q]? =some (obF (sz a+sz b+1) x y)/\Tv w a x/\Tv w b y)
section
variable {q:Nat} {a b t:Ty} {x y v:Value} {w z w':World}
theorem Tv.I (w:World):Tv w tI viI:=.inl ⟨rfl,rfl⟩
theorem Tv.B (w:World):Tv w tB viB:=.inr (.inl ⟨rfl,rfl⟩)
theorem Tv.V (w:World) (o:Nat):Tv w (tV o) (viV o):=.inr (.inr (.inl ⟨rfl,rfl⟩))
theorem Tv.L (h:w.heap[q]? =some (obL (sz (tL a)) x)) (ha:Tv w a x):Tv w (tL a) (viL q):=.inr (.inr (.inr (.inl ⟨rfl,q,x,rfl,h,ha⟩)))
theorem Tv.P (h:w.heap[q]? =some (obP (sz (tP a b)) x y)) (ha:Tv w a x) (hb:Tv w b y):Tv w (tP a b) (viP q):=.inr (.inr (.inr (.inr (.inl ⟨rfl,q,x,y,rfl,h,ha,hb⟩))))
theorem Tv.F (h:w.heap[q]? =some (obF (sz (tF a b)) x y)) (ha:Tv w a x) (hb:Tv w b y):Tv w (tF a b) (viF q):=.inr (.inr (.inr (.inr (.inr ⟨rfl,q,x,y,rfl,h,ha,hb⟩))))
theorem Tv.isI (h:Tv w tI v):v=viI:=by
 rcases h with ⟨_,h⟩|⟨e,_⟩|⟨e,_⟩|⟨e,_⟩|⟨e,_⟩|⟨e,_⟩<;>first|exact h|cases e
theorem Tv.isB (h:Tv w tB v):v=viB:=by
 rcases h with ⟨e,_⟩|⟨_,h⟩|⟨e,_⟩|⟨e,_⟩|⟨e,_⟩|⟨e,_⟩<;>first|exact h|cases e
theorem Tv.isV {o:Nat} (h:Tv w (tV o) v):v=viV o:=by
 rcases h with ⟨e,_⟩|⟨e,_⟩|⟨_,h⟩|⟨e,_⟩|⟨e,_⟩|⟨e,_⟩<;>first|exact h|cases e
theorem Tv.isL (h:Tv w (tL a) v):∃q x,v=viL q/\w.heap[q]? =some (obL (sz (tL a)) x)/\Tv w a x:=by
 rcases h with ⟨e,_⟩|⟨e,_⟩|⟨e,_⟩|⟨_,h⟩|⟨e,_⟩|⟨e,_⟩<;>first|exact h|cases e
theorem Tv.isP (h:Tv w (tP a b) v):∃q x y,v=viP q/\w.heap[q]? =some (obP (sz (tP a b)) x y)/\Tv w a x/\Tv w b y:=by
 rcases h with ⟨e,_⟩|⟨e,_⟩|⟨e,_⟩|⟨e,_⟩|⟨_,h⟩|⟨e,_⟩<;>first|exact h|cases e
theorem Tv.isF (h:Tv w (tF a b) v):∃q x y,v=viF q/\w.heap[q]? =some (obF (sz (tF a b)) x y)/\Tv w a x/\Tv w b y:=by
 rcases h with ⟨e,_⟩|⟨e,_⟩|⟨e,_⟩|⟨e,_⟩|⟨e,_⟩|⟨_,h⟩<;>first|exact h|cases e
def Kept (w w':World):Prop:=∀(q:Nat) (c:Array Value) (T:TypeId) (fz:Nat×Nat),T≠207->w.heap[q]? =some (.cells c T fz)->w'.heap[q]? =some (.cells c T fz)
theorem Kept.trans {x y:World} (h:Kept x y) (k:Kept y z):Kept x z:=λq c T fz hT hq=>k q c T fz hT (h q c T fz hT hq)
theorem Below.kept (h:Below w.heap.size w w'):Kept w w':=λq c T fz _ hq=>(h.block q (z1a.1 hq).1).trans hq
theorem Gb.kept {b:Nat} {s:ByteArray} {i:Nat} (h:Gb b w w') (hr:Rd b s i w):Kept w w':=by
 intro q c T fz hT hq;refine h.old hq ?_;rintro rfl;unfold Rd at hr;rw[hr] at hq;simp only[Option.some.injEq,Obj.cells.injEq] at hq;exact hT hq.2.1.symm
def KeptN (w w':World):Prop:=∀(q:Nat) (c:Array Value) (T:TypeId),T=258\/T=261\/T=252->w.heap[q]? =some (.cells c T (0,0))->w'.heap[q]? =some (.cells c T (0,0))
theorem Kept.n (h:Kept w w'):KeptN w w':=by
 intro q c T hT hq;refine h q c T _ ?_ hq;rcases hT with rfl|rfl|rfl<;>decide
theorem KeptN.trans {x y:World} (h:KeptN x y) (k:KeptN y z):KeptN x z:=λq c T hT hq=>k q c T hT (h q c T hT hq)
theorem Tv.keptN (hk:KeptN w w'):∀(t:Ty) (v:Value),Tv w t v->Tv w' t v:=by
 intro t
 induction t with
 |nil=>intro v h;exact h.elim
 |node g o u a b iha ihb=>
  intro v h;rcases h with h|h|h|⟨e,q,x,hv,hq,ha⟩|⟨e,q,x,y,hv,hq,ha,hb⟩|⟨e,q,x,y,hv,hq,ha,hb⟩
  ·exact .inl h
  ·exact .inr (.inl h)
  ·exact .inr (.inr (.inl h))
  ·exact .inr (.inr (.inr (.inl ⟨e,q,x,hv,hk _ _ _ (.inl rfl) hq,iha _ ha⟩)))
  ·exact .inr (.inr (.inr (.inr (.inl ⟨e,q,x,y,hv,hk _ _ _ (.inr (.inl rfl)) hq,iha _ ha,ihb _ hb⟩))))
  ·exact .inr (.inr (.inr (.inr (.inr ⟨e,q,x,y,hv,hk _ _ _ (.inr (.inr rfl)) hq,iha _ ha,ihb _ hb⟩))))
theorem Tv.kept (hk:Kept w w') (t:Ty) (v:Value) (h:Tv w t v):Tv w' t v:=Tv.keptN hk.n t v h
theorem Tv.below (h:Tv w t v) (hb:Below w.heap.size w w'):Tv w' t v:=Tv.kept (Below.kept hb) t v h
theorem Tv.drewN (h:Tv w t v) (n:Nat):Tv (w.drewN n) t v:=Tv.kept (w:=w) (w':=w.drewN n) (λ_ _ _ _ _ h=>h) t v h
theorem Tv.iface (h:Tv w t v):∃T x,v=.iface T x:=by
 cases t with
 |nil=>exact h.elim
 |node g o u a b=>
  rcases h with ⟨_,rfl⟩|⟨_,rfl⟩|⟨_,rfl⟩|⟨_,q,x,rfl,_⟩|⟨_,q,x,y,rfl,_⟩|⟨_,q,x,y,rfl,_⟩<;>exact⟨_,_,rfl⟩
theorem Tv.one:∀(t u:Ty) (v:Value),Ok t->Ok u->Tv w t v->Tv w u v->t=u:=by
 intro t
 induction t with
 |nil=>intro u v h;exact h.elim
 |node g o x a b iha ihb=>
  intro u v ht hu h k
  cases x
  rcases ht with ⟨rfl,rfl,rfl,rfl⟩|⟨rfl,rfl,rfl,rfl⟩|⟨rfl,ho,rfl,rfl⟩|⟨rfl,rfl,ha,rfl⟩|⟨rfl,rfl,ha,hb⟩|⟨rfl,rfl,ha,hb⟩
  ·have e:=Tv.isI h;subst e
   rcases hu.cases with rfl|rfl|⟨o',_,_,rfl⟩|⟨a',ha',rfl⟩|⟨a',b',ha',hb',rfl⟩|⟨a',b',ha',hb',rfl⟩
   ·rfl
   ·exact absurd k.isB (by simp)
   ·exact absurd k.isV (by simp)
   ·obtain⟨q,x,e,_⟩:=k.isL;exact absurd e (by simp)
   ·obtain⟨q,x,y,e,_⟩:=k.isP;exact absurd e (by simp)
   ·obtain⟨q,x,y,e,_⟩:=k.isF;exact absurd e (by simp)
  ·have e:=Tv.isB h;subst e
   rcases hu.cases with rfl|rfl|⟨o',_,_,rfl⟩|⟨a',ha',rfl⟩|⟨a',b',ha',hb',rfl⟩|⟨a',b',ha',hb',rfl⟩
   ·exact absurd k.isI (by simp)
   ·rfl
   ·exact absurd k.isV (by simp)
   ·obtain⟨q,x,e,_⟩:=k.isL;exact absurd e (by simp)
   ·obtain⟨q,x,y,e,_⟩:=k.isP;exact absurd e (by simp)
   ·obtain⟨q,x,y,e,_⟩:=k.isF;exact absurd e (by simp)
  ·have e:=Tv.isV h;subst e
   rcases hu.cases with rfl|rfl|⟨o',_,_,rfl⟩|⟨a',ha',rfl⟩|⟨a',b',ha',hb',rfl⟩|⟨a',b',ha',hb',rfl⟩
   ·exact absurd k.isI (by simp)
   ·exact absurd k.isB (by simp)
   ·have e:=k.isV
    simp at e;obtain rfl:o=o':=by omega
    rfl
   ·obtain⟨q,x,e,_⟩:=k.isL;exact absurd e (by simp)
   ·obtain⟨q,x,y,e,_⟩:=k.isP;exact absurd e (by simp)
   ·obtain⟨q,x,y,e,_⟩:=k.isF;exact absurd e (by simp)
  ·obtain⟨q,x,rfl,hq,hx⟩:=Tv.isL h
   rcases hu.cases with rfl|rfl|⟨o',_,_,rfl⟩|⟨a',ha',rfl⟩|⟨a',b',ha',hb',rfl⟩|⟨a',b',ha',hb',rfl⟩
   ·exact absurd k.isI (by simp)
   ·exact absurd k.isB (by simp)
   ·exact absurd k.isV (by simp)
   ·obtain⟨q',x',e,hq',hx'⟩:=k.isL
    simp at e;subst e;rw[hq] at hq';simp at hq';obtain⟨rfl,_⟩:=hq';rw[iha _ _ ha ha' hx hx']
   ·obtain⟨q,x,y,e,_⟩:=k.isP;exact absurd e (by simp)
   ·obtain⟨q,x,y,e,_⟩:=k.isF;exact absurd e (by simp)
  ·obtain⟨q,x,y,rfl,hq,hx,hy⟩:=Tv.isP h
   rcases hu.cases with rfl|rfl|⟨o',_,_,rfl⟩|⟨a',ha',rfl⟩|⟨a',b',ha',hb',rfl⟩|⟨a',b',ha',hb',rfl⟩
   ·exact absurd k.isI (by simp)
   ·exact absurd k.isB (by simp)
   ·exact absurd k.isV (by simp)
   ·obtain⟨q,x,e,_⟩:=k.isL;exact absurd e (by simp)
   ·obtain⟨q',x',y',e,hq',hx',hy'⟩:=k.isP
    simp at e;subst e;rw[hq] at hq';simp at hq';obtain⟨rfl,rfl,_⟩:=hq';rw[iha _ _ ha ha' hx hx',ihb _ _ hb hb' hy hy']
   ·obtain⟨q,x,y,e,_⟩:=k.isF;exact absurd e (by simp)
  ·obtain⟨q,x,y,rfl,hq,hx,hy⟩:=Tv.isF h
   rcases hu.cases with rfl|rfl|⟨o',_,_,rfl⟩|⟨a',ha',rfl⟩|⟨a',b',ha',hb',rfl⟩|⟨a',b',ha',hb',rfl⟩
   ·exact absurd k.isI (by simp)
   ·exact absurd k.isB (by simp)
   ·exact absurd k.isV (by simp)
   ·obtain⟨q,x,e,_⟩:=k.isL;exact absurd e (by simp)
   ·obtain⟨q,x,y,e,_⟩:=k.isP;exact absurd e (by simp)
   ·obtain⟨q',x',y',e,hq',hx',hy'⟩:=k.isF
    simp at e;subst e;rw[hq] at hq';simp at hq';obtain⟨rfl,rfl,_⟩:=hq';rw[iha _ _ ha ha' hx hx',ihb _ _ hb hb' hy hy']
end
section
variable {T:TypeId} (v:Value) (w:World)
theorem th_Whole:(Instr.typeAssert (.iface 255 v) 94 255 true).run Tryz.prog w=.ok (.tuple #[v,.bool true]) w:=by kernel_rfl
theorem tz_Whole:(zeroValue 255).run Tryz.prog w=.ok (.agg #[]) w:=by kernel_rfl
theorem zyg (h:T≠255) (w:World):(Instr.typeAssert (.iface T v) 94 255 true).run Tryz.prog w=.ok (.tuple #[.agg #[],.bool false]) w:=by
 simp[Instr.typeAssert,run_underlying Tryz.underlying255,h,tz_Whole w]
theorem th_Truth:(Instr.typeAssert (.iface 254 v) 94 254 true).run Tryz.prog w=.ok (.tuple #[v,.bool true]) w:=by kernel_rfl
theorem tz_Truth:(zeroValue 254).run Tryz.prog w=.ok (.agg #[]) w:=by kernel_rfl
theorem tm_Truth (h:T≠254) (w:World):(Instr.typeAssert (.iface T v) 94 254 true).run Tryz.prog w=.ok (.tuple #[.agg #[],.bool false]) w:=by
 simp[Instr.typeAssert,run_underlying Tryz.underlying254,h,tz_Truth w]
theorem znw:(Instr.typeAssert (.iface 263 v) 94 263 true).run Tryz.prog w=.ok (.tuple #[v,.bool true]) w:=by kernel_rfl
theorem zva:(zeroValue 263).run Tryz.prog w=.ok (.agg #[.int .u8 0,.int .u8 0]) w:=by kernel_rfl
theorem zvl (h:T≠263) (w:World):(Instr.typeAssert (.iface T v) 94 263 true).run Tryz.prog w=.ok (.tuple #[.agg #[.int .u8 0,.int .u8 0],.bool false]) w:=by
 simp[Instr.typeAssert,run_underlying Tryz.underlying263,h,zva w]
theorem zjx:(Instr.typeAssert (.iface 256 v) 94 256 true).run Tryz.prog w=.ok (.tuple #[v,.bool true]) w:=by kernel_rfl
theorem tz_List:(zeroValue 256).run Tryz.prog w=.ok (.pointer none) w:=by kernel_rfl
theorem zbv (h:T≠256) (w:World):(Instr.typeAssert (.iface T v) 94 256 true).run Tryz.prog w=.ok (.tuple #[.pointer none,.bool false]) w:=by
 simp[Instr.typeAssert,run_underlying Tryz.underlying256,h,tz_List w]
theorem zhj:(Instr.typeAssert (.iface 259 v) 94 259 true).run Tryz.prog w=.ok (.tuple #[v,.bool true]) w:=by kernel_rfl
theorem tz_Pair:(zeroValue 259).run Tryz.prog w=.ok (.pointer none) w:=by kernel_rfl
theorem zdo (h:T≠259) (w:World):(Instr.typeAssert (.iface T v) 94 259 true).run Tryz.prog w=.ok (.tuple #[.pointer none,.bool false]) w:=by
 simp[Instr.typeAssert,run_underlying Tryz.underlying259,h,tz_Pair w]
theorem zca:(Instr.typeAssert (.iface 243 v) 94 243 true).run Tryz.prog w=.ok (.tuple #[v,.bool true]) w:=by kernel_rfl
theorem zwm:(zeroValue 243).run Tryz.prog w=.ok (.pointer none) w:=by kernel_rfl
theorem zdl (h:T≠243) (w:World):(Instr.typeAssert (.iface T v) 94 243 true).run Tryz.prog w=.ok (.tuple #[.pointer none,.bool false]) w:=by
 simp[Instr.typeAssert,run_underlying Tryz.underlying243,h,zwm w]
end
section
variable (T:TypeId) (x:Value) (q:Nat) (w:World)
theorem zgj (h1:T≠256) (h2:T≠259) (h3:T≠243):
 CZ 131 #[.iface T x] w λe w'=>e=.returned (.pointer none)/\w'=w:=by
 have a1:=λw=>zbv x h1 w
 have a2:=λw=>zdo x h2 w
 have a3:=λw=>zdl x h3 w
 go_enter Tryz.func131,Tryz.ntmps131;go_wp2;go_ret;exact⟨rfl,rfl⟩
theorem zxy:
 CZ 131 #[viL q] w λe w'=>e=.returned (.pointer (some ⟨q,1,none⟩))/\w'=w:=by
 have a1:=zjx;go_enter Tryz.func131,Tryz.ntmps131;go_wp2;go_ret;exact⟨rfl,rfl⟩
theorem zxx:
 CZ 131 #[viP q] w λe w'=>e=.returned (.pointer (some ⟨q,2,none⟩))/\w'=w:=by
 have a1:=λv=>zbv (T:=259) v (by decide)
 have a2:=zhj;go_enter Tryz.func131,Tryz.ntmps131;go_wp2;go_ret;exact⟨rfl,rfl⟩
theorem zyt:
 CZ 131 #[viF q] w λe w'=>e=.returned (.pointer (some ⟨q,2,none⟩))/\w'=w:=by
 have a1:=λv=>zbv (T:=243) v (by decide)
 have a2:=λv=>zdo (T:=243) v (by decide)
 have a3:=zca;go_enter Tryz.func131,Tryz.ntmps131;go_wp2;go_ret;exact⟨rfl,rfl⟩
theorem zdk (h1:T≠256) (h2:T≠259) (h3:T≠243):
 CZ 193 #[.iface T x] w λe w'=>e=.returned (.int .i64 1)/\w'=w:=by
 have n:=zgj T x w h1 h2 h3;go_enter Tryz.func193,Tryz.ntmps193;go_wp21;refine n.mono ?_;rintro e w' ⟨rfl,rfl⟩;go_wp21;go_ret;exact⟨rfl,rfl⟩
theorem znp (t:Ty) (v:Value) (w:World) (ht:Ok t) (h:Tv w t v):
 CZ 193 #[v] w λe w'=>e=.returned (.int .i64 (sz t:Int))/\w'=w:=by
 rcases ht.cases with rfl|rfl|⟨o,_,_,rfl⟩|⟨a,ha,rfl⟩|⟨a,b,ha,hb,rfl⟩|⟨a,b,ha,hb,rfl⟩
 ·rw[h.isI];exact zdk _ _ w (by decide) (by decide) (by decide)
 ·rw[h.isB];exact zdk _ _ w (by decide) (by decide) (by decide)
 ·rw[h.isV];exact zdk _ _ w (by decide) (by decide) (by decide)
 ·obtain⟨q,x,rfl,hq,_⟩:=h.isL
  generalize sz (tL a)=n at *
  have c1:cZ w q 1 (iZ n):=cbl hq;go_enter Tryz.func193,Tryz.ntmps193;go_wp21;refine(zxy q w).mono ?_;rintro e w' ⟨rfl,rfl⟩;go_wp21;go_ret;exact⟨rfl,rfl⟩
 ·obtain⟨q,x,y,rfl,hq,_⟩:=h.isP
  generalize sz (tP a b)=n at *
  have c1:cZ w q 2 (iZ n):=cbl hq;go_enter Tryz.func193,Tryz.ntmps193;go_wp21;refine(zxx q w).mono ?_;rintro e w' ⟨rfl,rfl⟩;go_wp21;go_ret;exact⟨rfl,rfl⟩
 ·obtain⟨q,x,y,rfl,hq,_⟩:=h.isF
  generalize sz (tF a b)=n at *
  have c1:cZ w q 2 (iZ n):=cbl hq;go_enter Tryz.func193,Tryz.ntmps193;go_wp21;refine(zyt q w).mono ?_;rintro e w' ⟨rfl,rfl⟩;go_wp21;go_ret;exact⟨rfl,rfl⟩
end
section
variable (a b:Ty) (x y:Value) (g n:Nat) (w:World)
theorem sizeNode (a b c:Value):(Tryz.prog.info? 250).map (·.size)=some (#[a,b,c]).size:=by kernel_rfl
theorem zlc {tmps:Array Value} {w:World} {g:Nat} {a b c:Value} {fn:Func} {p:Tmp} (h:fn.results=#[.cell p 250]) {Q:Ending->World->Prop} (hp:tmps.getD p undef=(pZ g)) (hg:w.heap[g]? =some (.cells #[a,b,c] 250 (0,0))) (hq:Q (.returned (.agg #[a,b,c])) w):bodyPost Tryz.prog fn Q Exit.ret {tmps:=tmps,defers:=[]} w:=
 bodyPost_ret (results_cell_row h tmps w g 250 #[a,b,c] (0,0) _ hp hg Tryz.underlying250 rfl (sizeNode a b c)) rfl hq
theorem above_one (hx:w.cell? ⟨g,0,none⟩=some x) (ha:Ok a) (h:Tv w a x) (hn:sz a=n) (hs:n<=4000000000000000000):
 CZ 194 #[sZ g 1 1] w λe w'=>e=.returned (.agg #[.int .i64 ((n+1:Nat):Int),.nilIface,.pointer none])/\Below w.heap.size w w':=by
 have hg:=World.block_lt_of_cell? w _ hx;have hn1:((n+1:Nat):Int)=1+(n:Int):=by omega
 rw[hn1];have h1:Tv (w.alloc (.cells #[.int .i64 0,.nilIface,.pointer none] 250)) a x:=h.below (bal w _);have hx1:(w.alloc (.cells #[.int .i64 0,.nilIface,.pointer none] 250)).cell? ⟨g,0,none⟩=some x:=by rw[z1o _ _ _ hg];exact hx
 have N:=znp a x _ ha h1;rw[hn] at N;obtain⟨T,x',rfl⟩:=h.iface;go_enter Tryz.func194,Tryz.ntmps194;go_wp21;refine wp_loop_rounds 2 ?_;rw[rounds_succ];go_wp21;refine N.mono ?_;rintro e w' ⟨rfl,rfl⟩;go_wp21;rw[rounds_succ];go_wp21;refine zlc rfl rfl (z1v w _) ?_;exact⟨rfl,bal w _⟩
theorem zrr (a b:Ty) (x y:Value) (g n m:Nat) (w:World) (hx:w.cell? ⟨g,0,none⟩=some x) (hy:w.cell? ⟨g,1,none⟩=some y) (ha:Ok a) (h:Tv w a x) (hb:Ok b) (h':Tv w b y) (hn:sz a=n) (hm:sz b=m) (hs:n+m<=4000000000000000000):
 CZ 194 #[sZ g 2 2] w λe w'=>e=.returned (.agg #[.int .i64 ((n+m+1:Nat):Int),.nilIface,.pointer none])/\Below w.heap.size w w':=by
 have hg:=World.block_lt_of_cell? w _ hx;have hn1:((n+m+1:Nat):Int)=1+(n:Int)+(m:Int):=by omega
 rw[hn1];have h1:Tv (w.alloc (.cells #[.int .i64 0,.nilIface,.pointer none] 250)) a x:=h.below (bal w _);have h2:Tv (w.alloc (.cells #[.int .i64 0,.nilIface,.pointer none] 250)) b y:=h'.below (bal w _);have hx1:(w.alloc (.cells #[.int .i64 0,.nilIface,.pointer none] 250)).cell? ⟨g,0,none⟩=some x:=by rw[z1o _ _ _ hg];exact hx
 have hy1:(w.alloc (.cells #[.int .i64 0,.nilIface,.pointer none] 250)).cell? ⟨g,1,none⟩=some y:=by rw[z1o _ _ ⟨g,1,none⟩ hg];exact hy
 have N:=znp a x _ ha h1;have M:=znp b y _ hb h2;rw[hn] at N;rw[hm] at M;obtain⟨T,x',rfl⟩:=h.iface;obtain⟨T',y',rfl⟩:=h'.iface;go_enter Tryz.func194,Tryz.ntmps194;go_wp21;refine wp_loop_rounds 3 ?_;rw[rounds_succ];go_wp21;refine N.mono ?_;rintro e w' ⟨rfl,rfl⟩;go_wp21;rw[rounds_succ];go_wp21;refine M.mono ?_;rintro e w' ⟨rfl,rfl⟩;go_wp21;rw[rounds_succ];go_wp21;refine zlc rfl rfl (z1v w _) ?_;exact⟨rfl,bal w _⟩
theorem Tv.newL {w w':World} {a:Ty} {x:Value} (h:Tv w a x) (hb:Below w.heap.size w w'):Tv (w'.alloc (obL (sz (tL a)) x)) (tL a) (viL w'.heap.size):=
 Tv.L (z1v w' _) ((h.below hb).below (bal w' _))
theorem Tv.newP {w w':World} {a b:Ty} {x y:Value} (h:Tv w a x) (h':Tv w b y) (hb:Below w.heap.size w w'):Tv (w'.alloc (obP (sz (tP a b)) x y)) (tP a b) (viP w'.heap.size):=
 Tv.P (z1v w' _) ((h.below hb).below (bal w' _)) ((h'.below hb).below (bal w' _))
theorem Tv.newF {w w':World} {a b:Ty} {x y:Value} (h:Tv w a x) (h':Tv w b y) (hb:Below w.heap.size w w'):Tv (w'.alloc (obF (sz (tF a b)) x y)) (tF a b) (viF w'.heap.size):=
 Tv.F (z1v w' _) ((h.below hb).below (bal w' _)) ((h'.below hb).below (bal w' _))
theorem ztw (ha:Ok a) (h:Tv w a x) (hs:sz a<=4000000000000000000):
 CZ 230 #[x] w λe w'=>∃q,e=.returned (pZ q)/\Tv w' (tL a) (viL q)/\Below w.heap.size w w':=by
 have b1:Below w.heap.size w (w.alloc (.cells #[x] 94)):=bal w _;have A:=above_one a x w.heap.size (sz a) _ (by simp) ha (h.below b1) rfl hs;have e1:sz (tL a)=sz a+1:=by simp[sz]
 have N:=λw'=>@Tv.newL w w' a x h
 rw[e1] at N;obtain⟨T,x',rfl⟩:=h.iface;generalize sz a=n at *
 go_enter Tryz.func230,Tryz.ntmps230;go_wp21;refine A.mono ?_;rintro e w1 ⟨rfl,hb⟩;have b2:=b1.trans (hb.mono (by simp));have N1:=N w1 b2;go_wp21;go_ret;exact⟨_,rfl,N1,b2.alloc b2.size _⟩
theorem zuc (ha:Ok a) (h:Tv w a x) (hb:Ok b) (h':Tv w b y) (hs:sz a+sz b<=4000000000000000000):
 CZ 209 #[x,y] w λe w'=>∃q,e=.returned (pZ q)/\Tv w' (tP a b) (viP q)/\Below w.heap.size w w':=by
 have b1:Below w.heap.size w (w.alloc (.cells #[x,y] 94)):=bal w _;have A:=zrr a b x y w.heap.size (sz a) (sz b) _ (by simp) (by simp) ha (h.below b1) hb (h'.below b1) rfl rfl hs;have e1:sz (tP a b)=sz a+sz b+1:=rfl;have N:=λw'=>@Tv.newP w w' a b x y h h'
 rw[e1] at N;obtain⟨T,x',rfl⟩:=h.iface;obtain⟨T',y',rfl⟩:=h'.iface;generalize sz a=n at *
 generalize sz b=m at *
 go_enter Tryz.func209,Tryz.ntmps209;go_wp21;refine A.mono ?_;rintro e w1 ⟨rfl,hb⟩;have b2:=b1.trans (hb.mono (by simp));have N1:=N w1 b2;go_wp21;go_ret;exact⟨_,rfl,N1,b2.alloc b2.size _⟩
theorem zmo (ha:Ok a) (h:Tv w a x) (hb:Ok b) (h':Tv w b y) (hs:sz a+sz b<=4000000000000000000):
 CZ 160 #[x,y] w λe w'=>∃q,e=.returned (pZ q)/\Tv w' (tF a b) (viF q)/\Below w.heap.size w w':=by
 have b1:Below w.heap.size w (w.alloc (.cells #[x,y] 94)):=bal w _;have A:=zrr a b x y w.heap.size (sz a) (sz b) _ (by simp) (by simp) ha (h.below b1) hb (h'.below b1) rfl rfl hs;have e1:sz (tF a b)=sz a+sz b+1:=rfl;have N:=λw'=>@Tv.newF w w' a b x y h h'
 rw[e1] at N;obtain⟨T,x',rfl⟩:=h.iface;obtain⟨T',y',rfl⟩:=h'.iface;generalize sz a=n at *
 generalize sz b=m at *
 go_enter Tryz.func160,Tryz.ntmps160;go_wp21;refine A.mono ?_;rintro e w1 ⟨rfl,hb⟩;have b2:=b1.trans (hb.mono (by simp));have N1:=N w1 b2;go_wp21;go_ret;exact⟨_,rfl,N1,b2.alloc b2.size _⟩
end
abbrev Mks:Type:=List (Nat×Nat×Value)
def np:Mks->Value
 |[]=> .pointer none
 |(q,k,_)::_=> .pointer (some ⟨q,k,none⟩)
def mkd (k:Nat) (f n:Value):Obj->Obj
 | .cells c T fz=> .cells ((c.setIfInBounds (k+1) f).setIfInBounds (k+2) n) T fz
 |o=>o
def zbi:Mks->Nat->Option Obj->Option Obj
 |[],_,o=>o
 |(q,k,f)::r,p,o=>if p=q then o.map (mkd k f (np r)) else zbi r p o
def fnd:Mks->Nat->Value
 |[],_=> .nilIface
 |(q,_,f)::r,p=>if p=q then f else fnd r p
def isNd (o:Obj) (k:Nat):Prop:=(∃n x,o=obL n x/\k=1)\/(∃n x y,o=obP n x y/\k=2)\/(∃n x y,o=obF n x y/\k=2)
def NdV (v:Value) (q k:Nat):Prop:=(v=viL q/\k=1)\/(v=viP q/\k=2)\/(v=viF q/\k=2)
def VisT (T:TypeId):Prop:=T≠258/\T≠261/\T≠252
structure Vs (vb:Nat) (L:Mks) (u w:World):Prop where
 os:w.os=u.os
 tape:w.tape=u.tape
 output:w.output=u.output
 size:w.heap.size=u.heap.size
 vis:∃T r x,VisT T/\u.heap[vb]? =some (.cells (List.toArray (x::r)) T (0,0))/\w.heap[vb]? =some (.cells (List.toArray (np L::r)) T (0,0))
 blk:∀q,q≠vb->w.heap[q]? =zbi L q u.heap[q]?
 nds:∀m∈L,(∃o,u.heap[m.1]? =some o/\isNd o m.2.1)/\∃T x,m.2.2=.iface T x
 nodup:(L.map (·.1)).Nodup
theorem isNd.cells {o:Obj} {k:Nat} (h:isNd o k):∃c T,o=.cells c T (0,0)/\¬VisT T/\T≠207/\c[k+1]? =some .nilIface/\c[k+2]? =some (.pointer none)/\1<=k:=by
 rcases h with ⟨n,x,rfl,rfl⟩|⟨n,x,y,rfl,rfl⟩|⟨n,x,y,rfl,rfl⟩<;>exact⟨_,_,rfl,by simp[VisT],by decide,rfl,rfl,by decide⟩
theorem Vs.ne {vb:Nat} {L:Mks} {u w:World} (h:Vs vb L u w) {q k:Nat} {o:Obj} (hq:u.heap[q]? =some o) (hn:isNd o k):q≠vb:=by
 rintro rfl;obtain⟨T0,r,x,hT0,hc,_⟩:=h.vis;obtain⟨c',T,rfl,hT,_⟩:=hn.cells;rw[hc] at hq;simp at hq;exact hT (hq.2 ▸ hT0)
theorem zbx {L:Mks} {q:Nat} {o:Option Obj}:q∉L.map (·.1)->zbi L q o=o:=by
 induction L with
 |nil=>intro _;rfl
 |cons m r ih=>
  intro h;obtain⟨p,k,f⟩:=m;simp only[List.map_cons,List.mem_cons,not_or] at h;rw[zbi,if_neg h.1];exact ih h.2
theorem zqv {L:Mks} {q:Nat}:q∉L.map (·.1)->fnd L q=.nilIface:=by
 induction L with
 |nil=>intro _;rfl
 |cons m r ih=>
  intro h;obtain⟨p,k,f⟩:=m;simp only[List.map_cons,List.mem_cons,not_or] at h;rw[fnd,if_neg h.1];exact ih h.2
theorem zym {L:Mks} {q:Nat}:q∈L.map (·.1)->∃k,(q,k,fnd L q)∈L:=by
 induction L with
 |nil=>intro h;simp at h
 |cons m r ih=>
  intro h;obtain⟨p,k,f⟩:=m;by_cases e:q=p
  ·subst e;exact⟨k,by simp[fnd]⟩
  ·simp only[List.map_cons,List.mem_cons,e,false_or] at h
   obtain⟨k',hk⟩:=ih h;refine⟨k',?_⟩;rw[fnd,if_neg e];exact z1j _ hk
theorem zsr {L:Mks} {q k:Nat} {c:Array Value} {T:TypeId} (hk:∀m∈L,m.1=q->m.2.1=k) (h1:c[k+1]? =some .nilIface) (h2:c[k+2]? =some (.pointer none)):
 ∃c',zbi L q (some (.cells c T (0,0)))=some (.cells c' T (0,0))/\(∀j,j<=k->c'[j]? =c[j]?)/\c'[k+1]? =some (fnd L q)/\∃n,c'[k+2]? =some n:=by
 induction L with
 |nil=>exact⟨c,rfl,λ_ _=>rfl,h1,_,h2⟩
 |cons m r ih=>
  obtain⟨p,k',f⟩:=m;by_cases e:q=p
  ·subst e
   obtain rfl:k'=k:=hk (q,k',f) z1k rfl;have s1:=(z1a.1 h1).1;have s2:=(z1a.1 h2).1;refine⟨_,by rw[zbi,if_pos rfl];rfl,?_,?_,np r,?_⟩
   ·intro j hj
    rw[Array.getElem?_setIfInBounds_ne (by omega),Array.getElem?_setIfInBounds_ne (by omega)]
   ·rw[Array.getElem?_setIfInBounds_ne (by omega),fnd,if_pos rfl]
    simp[s1]
   ·simp[s2]
  ·rw[zbi,if_neg e,fnd,if_neg e]
   exact ih (λm hm=>hk m (z1j _ hm))
theorem isNd.one {o:Obj} {k k':Nat} (h:isNd o k) (h':isNd o k'):k=k':=by
 rcases h with ⟨n,x,rfl,rfl⟩|⟨n,x,y,rfl,rfl⟩|⟨n,x,y,rfl,rfl⟩<;>rcases h' with ⟨n,x,e,rfl⟩|⟨n,x,y,e,rfl⟩|⟨n,x,y,e,rfl⟩<;>simp at e ⊢
theorem Vs.at_node {vb:Nat} {L:Mks} {u w:World} (h:Vs vb L u w) {q k:Nat} {o:Obj} (hq:u.heap[q]? =some o) (hn:isNd o k):
 ∃c T c',o=.cells c T (0,0)/\w.heap[q]? =some (.cells c' T (0,0))/\(∀j,j<=k->c'[j]? =c[j]?)/\c'[k+1]? =some (fnd L q)/\∃n,c'[k+2]? =some n:=by
 obtain⟨c,T,rfl,_,_,h1,h2,_⟩:=hn.cells
 obtain⟨c',e1,e2,e3,e4⟩:=zsr (L:=L) (q:=q) (k:=k) (T:=T) (c:=c) (λm hm e=>by
  obtain⟨⟨o,ho,hno⟩,_⟩:=h.nds m hm;rw[e,hq] at ho;obtain rfl:=z1q ho;exact hno.one hn) h1 h2
 exact⟨c,T,c',rfl,by rw[h.blk q (h.ne hq hn),hq];exact e1,e2,e3,e4⟩
theorem Vs.found {vb:Nat} {L:Mks} {u w:World} (h:Vs vb L u w) {q k:Nat} {o:Obj} (hq:u.heap[q]? =some o) (hn:isNd o k):w.cell? ⟨q,k+1,none⟩=some (fnd L q):=by
 obtain⟨c,T,c',rfl,hw,_,e,_⟩:=h.at_node hq hn;rw[z1f hw];exact e
theorem Vs.part {vb:Nat} {L:Mks} {u w:World} (h:Vs vb L u w) {q k j:Nat} {c:Array Value} {T:TypeId} {v:Value} (hq:u.heap[q]? =some (.cells c T (0,0))) (hn:isNd (.cells c T (0,0)) k) (hj:j<=k) (hv:c[j]? =some v):w.cell? ⟨q,j,none⟩=some v:=by
 obtain⟨c1,T1,c',e,hw,e1,_⟩:=h.at_node hq hn;simp at e;obtain⟨rfl,rfl⟩:=e;rw[z1f hw];exact(e1 j hj).trans hv
theorem Vs.last {vb:Nat} {L:Mks} {u w:World} (h:Vs vb L u w):w.cell? ⟨vb,0,none⟩=some (np L):=by
 obtain⟨T,r,x,_,_,hv⟩:=h.vis;rw[z1f hv];rfl
theorem Vs.drew {vb:Nat} {L:Mks} {u w:World} (h:Vs vb L u w):Vs vb L u w.drew:=⟨h.os,h.tape,h.output,h.size,h.vis,h.blk,h.nds,h.nodup⟩
theorem Vs.alloc {vb:Nat} {L:Mks} {u w:World} (h:Vs vb L u w) (o:Obj):Vs vb L (u.alloc o) (w.alloc o):=by
 obtain⟨T0,r0,x0,hT0,hu,hv⟩:=h.vis;have hlt:=(z1a.1 hv).1;have hlu:vb<u.heap.size:=by rw[<-h.size];exact hlt
 refine⟨h.os,h.tape,h.output,by simp[h.size],⟨T0,r0,x0,hT0,(Below.heap_alloc _ _ _ hlu).trans hu,(Below.heap_alloc _ _ _ hlt).trans hv⟩,?_,?_,h.nodup⟩
 ·intro q hq
  by_cases e:q<u.heap.size
  ·rw[Below.heap_alloc _ _ _ (by rw[h.size];exact e),Below.heap_alloc _ _ _ e];exact h.blk q hq
  ·have hnot:q∉L.map (·.1):=by
    intro hm;obtain⟨m,hm',rfl⟩:=z1z.1 hm;obtain⟨⟨o,ho,_⟩,_⟩:=h.nds m hm';exact e (z1a.1 ho).1
   rw[zbx hnot];by_cases e2:q=u.heap.size
   ·subst e2
    have:=z1v w o;rw[h.size] at this;rw[this,z1v u o]
   ·rw[Array.getElem?_eq_none (by simp[h.size];omega),Array.getElem?_eq_none (by simp;omega)]
 ·intro m hm
  obtain⟨⟨o',ho,hn⟩,hx⟩:=h.nds m hm;exact⟨⟨o',(Below.heap_alloc _ _ _ (z1a.1 ho).1).trans ho,hn⟩,hx⟩
theorem Vs.mark {vb:Nat} {L:Mks} {u w:World} (h:Vs vb L u w) {q k:Nat} {o:Obj} (hq:u.heap[q]? =some o) (hn:isNd o k) (hnot:q∉L.map (·.1)) (T:TypeId) (x:Value):
 Vs vb ((q,k,.iface T x)::L) u (((w.setCell ⟨q,k+2,none⟩ (np L)).setCell ⟨vb,0,none⟩ (.pointer (some ⟨q,k,none⟩))).setCell ⟨q,k+1,none⟩ (.iface T x)):=by
 have hne:=h.ne hq hn;obtain⟨c,T',rfl,_,_,e1,e2,_⟩:=hn.cells;have hw:w.heap[q]? =some (.cells c T' (0,0)):=by rw[h.blk q hne,hq,zbx hnot]
 obtain⟨T0,r0,x0,hT0,hu0,hv0⟩:=h.vis;refine⟨h.os,h.tape,h.output,by simp[World.setCell,h.size],⟨T0,r0,x0,hT0,hu0,?_⟩,?_,?_,?_⟩
 ·rw[Below.heap_setCell _ _ _ _ (by show ¬_;simp;omega)]
  have hv:(w.setCell ⟨q,k+2,none⟩ (np L)).heap[vb]? =some (.cells (List.toArray (np L::r0)) T0 (0,0)):=by
   rw[Below.heap_setCell _ _ _ _ (by show ¬_;simp;omega)];exact hv0
  generalize w.setCell ⟨q,k+2,none⟩ (np L)=w2 at hv;simp[World.setCell,z1i,hv,np]
 ·intro p hp
  by_cases e:p=q
  ·subst e
   rw[zbi,if_pos rfl,hq];simp[World.setCell,z1i,hw,mkd,hne,Ne.symm hne];rw[Array.setIfInBounds_comm _ _ (by omega)]
  ·rw[zbi,if_neg e,Below.heap_setCell _ _ _ _ (by show ¬_;simp;omega),Below.heap_setCell _ _ _ _ (by show ¬_;simp;omega),Below.heap_setCell _ _ _ _ (by show ¬_;simp;omega)]
   exact h.blk p hp
 ·intro m hm
  rcases List.mem_cons.1 hm with rfl|hm
  ·exact⟨⟨_,hq,hn⟩,T,x,rfl⟩
  ·exact h.nds m hm
 ·simp only[List.map_cons,List.nodup_cons]
  exact⟨hnot,h.nodup⟩
def upd (q:Nat) (f:Value):Mks->Mks
 |[]=>[]
 |(p,k,g)::r=>if q=p then (p,k,f)::r else (p,k,g)::upd q f r
theorem upd_np (q:Nat) (f:Value) (L:Mks):np (upd q f L)=np L:=by
 cases L with
 |nil=>rfl
 |cons m r=>obtain⟨p,k,g⟩:=m;rw[upd];split<;>rfl
theorem upd_map (q:Nat) (f:Value) (L:Mks):(upd q f L).map (·.1)=L.map (·.1):=by
 induction L with
 |nil=>rfl
 |cons m r ih=>obtain⟨p,k,g⟩:=m;rw[upd];split<;>simp[ih]
theorem zql {q:Nat} {f:Value} {L:Mks} {m:Nat×Nat×Value} (h:m∈upd q f L):m∈L\/(m.1=q/\m.2.2=f/\∃g,(m.1,m.2.1,g)∈L):=by
 induction L with
 |nil=>cases h
 |cons m' r ih=>
  obtain⟨p,k,g⟩:=m';rw[upd] at h;split at h
  ·rename_i e
   rcases List.mem_cons.1 h with rfl|h
   ·exact .inr ⟨e.symm,rfl,g,z1k⟩
   ·exact .inl (z1j _ h)
  ·rcases List.mem_cons.1 h with rfl|h
   ·exact .inl z1k
   ·rcases ih h with h|⟨e1,e2,g',hg⟩
    ·exact .inl (z1j _ h)
    ·exact .inr ⟨e1,e2,g',z1j _ hg⟩
theorem marked_upd {q k:Nat} {f:Value} {L:Mks} (hk:∀m∈L,m.1=q->m.2.1=k) (hin:q∈L.map (·.1)) (c:Array Value) (T:TypeId) (hs:k+2<c.size):
 ∃c',zbi L q (some (.cells c T (0,0)))=some (.cells c' T (0,0))/\zbi (upd q f L) q (some (.cells c T (0,0)))=some (.cells (c'.setIfInBounds (k+1) f) T (0,0)):=by
 induction L with
 |nil=>simp at hin
 |cons m r ih=>
  obtain⟨p,k',g⟩:=m;by_cases e:q=p
  ·subst e
   obtain rfl:k'=k:=hk (q,k',g) z1k rfl;refine⟨_,by rw[zbi,if_pos rfl];rfl,?_⟩;rw[upd,if_pos rfl,zbi,if_pos rfl];simp only[Option.map_some,mkd,Option.some.injEq,Obj.cells.injEq,and_true];apply Array.ext_getElem?;intro j;simp only[Array.getElem?_setIfInBounds,Array.size_setIfInBounds];by_cases j1:k'+1=j
   ·have j2:¬k'+2=j:=by omega
    simp[j1,j2]
   ·simp[j1]
  ·simp only[List.map_cons,List.mem_cons,e,false_or] at hin
   rw[upd,if_neg e,zbi,if_neg e,zbi,if_neg e];exact ih (λm hm=>hk m (z1j _ hm)) hin
theorem zpv {q p:Nat} {f:Value} {L:Mks} {o:Option Obj} (e:p≠q):zbi (upd q f L) p o=zbi L p o:=by
 induction L with
 |nil=>rfl
 |cons m r ih=>
  obtain⟨p',k',g⟩:=m;rw[upd];split
  ·rename_i e1
   subst e1;rw[zbi,zbi,if_neg e,if_neg e]
  ·rw[zbi,zbi]
   split
   ·rw[upd_np]
   ·exact ih
theorem Vs.remark {vb:Nat} {L:Mks} {u w:World} (h:Vs vb L u w) {q k:Nat} {o:Obj} (hq:u.heap[q]? =some o) (hn:isNd o k) (hin:q∈L.map (·.1)) (T:TypeId) (x:Value):
 Vs vb (upd q (.iface T x) L) u (w.setCell ⟨q,k+1,none⟩ (.iface T x)):=by
 have hne:=h.ne hq hn
 have hk:∀m∈L,m.1=q->m.2.1=k:=λm hm e=>by
  obtain⟨⟨o,ho,hno⟩,_⟩:=h.nds m hm;rw[e,hq] at ho;obtain rfl:=z1q ho;exact hno.one hn
 obtain⟨c,T',rfl,_,_,e1,e2,_⟩:=hn.cells;obtain⟨c',m1,m2⟩:=marked_upd (f:=.iface T x) hk hin c T' (z1a.1 e2).1;have hw:w.heap[q]? =some (.cells c' T' (0,0)):=by rw[h.blk q hne,hq,m1]
 obtain⟨T0,r0,x0,hT0,hu0,hv0⟩:=h.vis;refine⟨h.os,h.tape,h.output,by simp[World.setCell,h.size],⟨T0,r0,x0,hT0,hu0,?_⟩,?_,?_,by rw[upd_map];exact h.nodup⟩
 ·rw[Below.heap_setCell _ _ _ _ (by show ¬_;simp;omega),upd_np];exact hv0
 ·intro p hp
  by_cases e:p=q
  ·subst e
   rw[hq,m2];simp[World.setCell,z1i,hw]
  ·rw[zpv e,Below.heap_setCell _ _ _ _ (by show ¬_;simp;omega)]
   exact h.blk p hp
 ·intro m hm
  rcases zql hm with hm|⟨e1,e2,g,hg⟩
  ·exact h.nds m hm
  ·exact⟨(h.nds _ hg).1,T,x,e2⟩
section
variable {L:Mks} {q k vb:Nat} {o:Obj} {v:Value} {w u:World}
theorem zga (h:NdV v q k) (w:World):CZ 131 #[v] w λe w'=>e=.returned (.pointer (some ⟨q,k,none⟩))/\w'=w:=by
 rcases h with ⟨rfl,rfl⟩|⟨rfl,rfl⟩|⟨rfl,rfl⟩
 ·exact zxy q w
 ·exact zxx q w
 ·exact zyt q w
theorem NdV.iface (h:NdV v q k):∃T x,v=.iface T x:=by
 rcases h with ⟨rfl,rfl⟩|⟨rfl,rfl⟩|⟨rfl,rfl⟩<;>exact⟨_,_,rfl⟩
def Leaf (v:Value):Prop:=v=viI\/v=viB\/∃o,v=viV o
theorem Leaf.nodeOf (h:Leaf v) (w:World):CZ 131 #[v] w λe w'=>e=.returned (.pointer none)/\w'=w:=by
 rcases h with rfl|rfl|⟨o,rfl⟩<;>exact zgj _ _ w (by decide) (by decide) (by decide)
theorem Leaf.iface (h:Leaf v):∃T x,v=.iface T x:=by
 rcases h with rfl|rfl|⟨o,rfl⟩<;>exact⟨_,_,rfl⟩
theorem at_leaf (vb:Nat) (w:World) (h:Leaf v):
 CZ 222 #[pZ vb,v] w λe w'=>e=.returned .nilIface/\w'=w:=by
 have N:=h.nodeOf w;obtain⟨T,x,rfl⟩:=h.iface;go_enter Tryz.func222,Tryz.ntmps222;go_wp21;refine N.mono ?_;rintro e w' ⟨rfl,rfl⟩;go_wp21;go_ret;exact⟨rfl,rfl⟩
theorem at_nd (vb:Nat) (f:Value) (w:World) (h:NdV v q k) (hf:w.cell? ⟨q,k+1,none⟩=some f):
 CZ 222 #[pZ vb,v] w λe w'=>e=.returned f/\w'=w:=by
 have N:=zga h w;obtain⟨T,x,rfl⟩:=h.iface;go_enter Tryz.func222,Tryz.ntmps222;go_wp21;refine N.mono ?_;rintro e w' ⟨rfl,rfl⟩;go_wp21;go_ret;exact⟨rfl,rfl⟩
theorem zra (vb:Nat) (f:Value) (w:World) (h:Leaf v):
 CZ 223 #[pZ vb,v,f] w λe w'=>e=.returned (.tuple #[])/\w'=w:=by
 have N:=h.nodeOf w;obtain⟨T,x,rfl⟩:=h.iface;go_enter Tryz.func223,Tryz.ntmps223;go_wp21;refine N.mono ?_;rintro e w' ⟨rfl,rfl⟩;go_wp21
 first|go_end0|refine bodyPost_ret (results_none rfl _ _ _) rfl ?_
 exact⟨rfl,rfl⟩
theorem np_ptr (L:Mks):∃p,np L=.pointer p:=by
 cases L with
 |nil=>exact⟨_,rfl⟩
 |cons m r=>obtain⟨q,k,f⟩:=m;exact⟨_,rfl⟩
theorem zpo (h:NdV v q k) (hV:Vs vb L u w) (hq:u.heap[q]? =some o) (hn:isNd o k) (hnot:q∉L.map (·.1)) (T:TypeId) (x:Value):
 CZ 223 #[pZ vb,v,.iface T x] w λe w'=>e=.returned (.tuple #[])/\Vs vb ((q,k,.iface T x)::L) u w':=by
 have N:=zga h w;obtain⟨T',x',rfl⟩:=h.iface;have hne:=hV.ne hq hn;have M:=hV.mark hq hn hnot T x;have cl:=hV.last;have fl:w.frozen? ⟨vb,0,none⟩=false:=by obtain⟨T0,r0,x0,_,_,hv0⟩:=hV.vis;exact z1g hv0 0
 have cf:=hV.found hq hn;rw[zqv hnot] at cf;obtain⟨c,T1,c',_,hw,_,_,n,e2⟩:=hV.at_node hq hn;have cn:w.cell? ⟨q,k+2,none⟩=some n:=by rw[z1f hw];exact e2
 have ff:w.frozen? ⟨q,k+1,none⟩=false:=z1g hw _;have fn:w.frozen? ⟨q,k+2,none⟩=false:=z1g hw _;clear h hV hq hn hnot hw e2;obtain⟨pp,hpp⟩:=np_ptr L;rw[hpp] at M cl;clear hpp;go_enter Tryz.func223,Tryz.ntmps223
 go_wp2_with fail
 refine N.mono ?_;rintro e w' ⟨rfl,rfl⟩
 go_wp2_with fail
 go_end0;exact⟨rfl,M⟩
theorem zqd (h:NdV v q k) (hV:Vs vb L u w) (hq:u.heap[q]? =some o) (hn:isNd o k) (hin:q∈L.map (·.1)) (T:TypeId) (x:Value):
 CZ 223 #[pZ vb,v,.iface T x] w λe w'=>e=.returned (.tuple #[])/\Vs vb (upd q (.iface T x) L) u w':=by
 have N:=zga h w;obtain⟨T',x',rfl⟩:=h.iface;have M:=hV.remark hq hn hin T x;have cf:=hV.found hq hn;obtain⟨k',hm⟩:=zym hin;obtain⟨T2,x2,e3⟩:=(hV.nds _ hm).2;have e3':fnd L q=.iface T2 x2:=e3;rw[e3'] at cf;obtain⟨c,T1,c',_,hw,_,_,n,e2⟩:=hV.at_node hq hn;have ff:w.frozen? ⟨q,k+1,none⟩=false:=z1g hw _;clear h hV hq hn hin hw e2 hm e3 e3';go_enter Tryz.func223,Tryz.ntmps223;go_wp21;refine N.mono ?_;rintro e w' ⟨rfl,rfl⟩;go_wp21;go_end0;exact⟨rfl,M⟩
structure Ends (vb:Nat) (u w:World):Prop where
 os:w.os=u.os
 tape:w.tape=u.tape
 output:w.output=u.output
 size:w.heap.size=u.heap.size
 blk:∀q,q≠vb->w.heap[q]? =u.heap[q]?
 vis:∃T r x,VisT T/\u.heap[vb]? =some (.cells (List.toArray (x::r)) T (0,0))/\w.heap[vb]? =some (.cells (List.toArray (.pointer none::r)) T (0,0))
theorem Vs.ends (h:Vs vb [] u w):Ends vb u w:=⟨h.os,h.tape,h.output,h.size,h.blk,h.vis⟩
def zyy (w:World):Nat->Value->Nat
 |0,_=>0
 |n+1,.pointer (some a)=>1+zyy w n ((w.cell? ⟨a.block,a.off+2,none⟩).getD .nilIface)
 |_+1,_=>0
theorem Vs.next:∀(L pre r:Mks) (q k:Nat) (f:Value),L=pre++(q,k,f)::r->Vs vb L u w->w.cell? ⟨q,k+2,none⟩=some (np r):=by
 intro L pre r q k f e h;subst e;have hm:(q,k,f)∈pre++(q,k,f)::r:=by simp
 obtain⟨⟨o,ho,hn⟩,_⟩:=h.nds _ hm;have hne:=h.ne ho hn;obtain⟨c,T,rfl,_,_,_,e2,_⟩:=hn.cells;have hw:=h.blk q hne;simp only at ho;rw[ho] at hw
 have hnp:q∉pre.map (·.1):=by
  have:=h.nodup;simp only[List.map_append,List.map_cons] at this;intro hq;exact(List.nodup_append.1 this).2.2 q hq q (by simp) rfl
 have hmk:∀p:Mks,q∉p.map (·.1)->∀o,zbi (p++(q,k,f)::r) q o=o.map (mkd k f (np r)):=by
  intro p
  induction p with
  |nil=>intro _ o;rw[List.nil_append,zbi,if_pos rfl]
  |cons m p ih=>
   intro hp o;obtain⟨p1,k1,f1⟩:=m;simp only[List.map_cons,List.mem_cons,not_or] at hp;rw[List.cons_append,zbi,if_neg hp.1];exact ih hp.2 o
 rw[hmk pre hnp] at hw;rw[z1f (show w.heap[q]? =some (.cells _ T (0,0)) from hw)];simp[(z1a.1 e2).1]
theorem Vs.len (h:Vs vb L u w):∀(r pre:Mks) (n:Nat),L=pre++r->r.length<=n->zyy w n (np r)=r.length:=by
 intro r
 induction r with
 |nil=>intro pre n _ _;cases n<;>rfl
 |cons m r ih=>
  intro pre n e hn;obtain⟨q,k,f⟩:=m
  cases n with
  |zero=>simp at hn
  |succ n=>
   have c:=h.next L pre r q k f e;show 1+zyy w n ((w.cell? ⟨q,k+2,none⟩).getD .nilIface)=_;rw[c,Option.getD_some,ih (pre++[(q,k,f)]) n (by rw[e];simp) (by simpa using hn)];simp;omega
theorem Vs.unmark {r:Mks} {f:Value} (h:Vs vb ((q,k,f)::r) u w):
 Vs vb r u (((w.setCell ⟨vb,0,none⟩ (np r)).setCell ⟨q,k+1,none⟩ .nilIface).setCell ⟨q,k+2,none⟩ (.pointer none)):=by
 obtain⟨⟨o,ho,hn⟩,_⟩:=h.nds _ z1k;simp only at ho hn;have hne:=h.ne ho hn;obtain⟨c,T,rfl,_,_,e1,e2,_⟩:=hn.cells;have hw:w.heap[q]? =some (.cells ((c.setIfInBounds (k+1) f).setIfInBounds (k+2) (np r)) T (0,0)):=by rw[h.blk q hne,ho,zbi,if_pos rfl];rfl
 have hnd:=h.nodup;simp only[List.map_cons,List.nodup_cons] at hnd;obtain⟨T0,r0,x0,hT0,hu0,hv0⟩:=h.vis;refine⟨h.os,h.tape,h.output,by simp[World.setCell,h.size],⟨T0,r0,x0,hT0,hu0,?_⟩,?_,λm hm=>h.nds m (z1j _ hm),hnd.2⟩
 ·rw[Below.heap_setCell _ _ _ _ (by show ¬_;simp;omega),Below.heap_setCell _ _ _ _ (by show ¬_;simp;omega)]
  simp[World.setCell,z1i,hv0]
 ·intro p hp
  by_cases e:p=q
  ·subst e
   rw[zbx hnd.1,ho]
   have hw2:(w.setCell ⟨vb,0,none⟩ (np r)).heap[p]? =some (.cells ((c.setIfInBounds (k+1) f).setIfInBounds (k+2) (np r)) T (0,0)):=by
    rw[Below.heap_setCell _ _ _ _ (by show ¬_;simp;omega)];exact hw
   generalize w.setCell ⟨vb,0,none⟩ (np r)=w2 at hw2
   have hw3:((w2.setCell ⟨p,k+1,none⟩ .nilIface).setCell ⟨p,k+2,none⟩ (.pointer none)).heap[p]? =some (.cells ((((c.setIfInBounds (k+1) f).setIfInBounds (k+2) (np r)).setIfInBounds (k+1) .nilIface).setIfInBounds (k+2) (.pointer none)) T (0,0)):=by
    simp[World.setCell,z1i,hw2]
   rw[hw3];refine congrArg some (congrArg (λc=>Obj.cells c T (0,0)) ?_);apply Array.ext_getElem?;intro j;have s1:=(z1a.1 e1).1;have s2:=(z1a.1 e2).1;simp only[Array.getElem?_setIfInBounds,Array.size_setIfInBounds];by_cases j1:k+1=j
   ·subst j1
    rw[e1];simp[s1]
   ·by_cases j2:k+2=j
    ·subst j2
     rw[e2];simp[s2]
    ·simp[j1,j2]
  ·rw[Below.heap_setCell _ _ _ _ (by show ¬_;simp;omega),Below.heap_setCell _ _ _ _ (by show ¬_;simp;omega),Below.heap_setCell _ _ _ _ (by show ¬_;simp;omega),h.blk p hp,zbi,if_neg e]
end
section
variable (w:World)
theorem zdx (vb:Nat) (L:Mks) (u:World) (fm:FrameMode) (w:World) (h:Vs vb L u w):
 CallsD Tryz.prog 198 #[pZ vb] fm w λe fm' w'=>fm'=fm/\(e=.returned (.tuple #[])/\Ends vb u w'):=by
 go_enter_d Tryz.func198,Tryz.ntmps198
 go_wp2_with fail
 go_loopw [] (λwr=>∃r,Vs vb r u wr/\r.length<=L.length) (λwr=>zyy wr L.length ((wr.cell? ⟨vb,0,none⟩).getD .nilIface))
 case atStart=>exact⟨L,h,z1d _⟩
 case round=>
  obtain⟨r,hr,hl⟩:=hrel;clear h
  cases r with
  |nil=>
   have cl:=hr.last;have E:=hr.ends;simp only[np] at cl;clear hr
   go_wp2_with fail
   go_end0;exact⟨rfl,E⟩
  |cons m r=>
   obtain⟨q,k,f⟩:=m;have M:=hr.unmark;have cl:=hr.last;have ml:=hr.len ((q,k,f)::r) [] L.length rfl hl;have mc:zyy wr L.length ((wr.cell? ⟨vb,0,none⟩).getD .nilIface)=r.length+1:=by rw[cl];exact ml
   have ml2:zyy (((wr.setCell ⟨vb,0,none⟩ (np r)).setCell ⟨q,k+1,none⟩ .nilIface).setCell ⟨q,k+2,none⟩ (.pointer none)) L.length (((((wr.setCell ⟨vb,0,none⟩ (np r)).setCell ⟨q,k+1,none⟩ .nilIface).setCell ⟨q,k+2,none⟩ (.pointer none)).cell? ⟨vb,0,none⟩).getD .nilIface)=r.length:=by
    rw[M.last];exact M.len r [] L.length rfl (by simp at hl;omega)
   obtain⟨⟨o,ho,hn⟩,_⟩:=hr.nds _ z1k;simp only at ho hn;have hne:=hr.ne ho hn;have cf:=hr.found ho hn;have cn:=hr.next _ [] r q k f rfl;obtain⟨c,T1,c',_,hw,_⟩:=hr.at_node ho hn;have ff:wr.frozen? ⟨q,k+1,none⟩=false:=z1g hw _;have fn:wr.frozen? ⟨q,k+2,none⟩=false:=z1g hw _;have fl:wr.frozen? ⟨vb,0,none⟩=false:=by obtain⟨T0,r0,x0,_,_,hv0⟩:=hr.vis;exact z1g hv0 0
   have hl2:r.length<=L.length:=by simp at hl;omega
   simp only[np] at cl;have HM:Hid (_=_):=mc;have HM2:Hid (_=_):=ml2;obtain⟨pp,hpp⟩:=np_ptr r;rw[hpp] at cn M HM2;clear hr ho hn hw ml mc ml2 hl;generalize fnd ((q,k,f)::r) q=ff0 at *
   go_wp2_with fail
   go_roundw
   case rel=>exact⟨r,M,hl2⟩
   case measure=>rw[HM.out,HM2.out];omega
theorem kv_held:Tryz.prog.stoodInHeld 263=false:=by kernel_rfl
theorem zuy (d:Nat) (a b c e:Int) (w:World):(Op.equalIn (d+3) 263 (.agg #[.int .u8 a,.int .u8 b]) (.agg #[.int .u8 c,.int .u8 e])).run Tryz.prog w=.ok (a==c && b==e) w:=by
 rw[run_equalIn_struct w (d+2) _ _ _ (by kernel_rfl) kv_held];simp only[Program.fieldsOf,Tryz.underlying263];simp[go_sem];by_cases h:a=c<;>by_cases h':b=e<;>simp[h,h']
theorem infoV:(Tryz.prog.info? 263).map (·.comparable)=some true:=by kernel_rfl
theorem eql_V (o o':Nat) (w:World):(binOp .eql 94 (viV o) (viV o')).run Tryz.prog w=.ok (.bool (decide (o=o'))) w:=by
 obtain⟨i,hi,hc⟩:=Option.map_eq_some_iff.1 infoV;simp only[binOp]
 have e:(((o/10:Nat):Int)==((o'/10:Nat):Int) && ((o % 10:Nat):Int)==((o' % 10:Nat):Int))=decide (o=o'):=by
  rw[Bool.eq_iff_iff];simp;omega
 have h:(Op.equalIn 10000 94 (viV o) (viV o')).run Tryz.prog w=.ok (decide (o=o')) w:=by
  have:=zuy 9996 ((o/10:Nat):Int) ((o % 10:Nat):Int) ((o'/10:Nat):Int) ((o' % 10:Nat):Int) w;rw[e] at this;rw[Op.equalIn];simp[run_underlying Tryz.underlying94,typeInfo,hi,hc];exact this
 simp[Op.equal,Op.maxDepth,h]
theorem eql_I:(binOp .eql 94 viI viI).run Tryz.prog w=.ok (.bool true) w:=by kernel_rfl
theorem eql_B:(binOp .eql 94 viB viB).run Tryz.prog w=.ok (.bool true) w:=by kernel_rfl
end
end Go.Proofs.YtceadeaodbadlaaGreatDoor
namespace Go.Proofs.YtceadeaodbadlaaGreatDoor
open Go.RowKit Go.Extern.Stop Go.Stop Go.Extern
theorem infoPL:(Tryz.prog.info? 256).map (·.comparable)=some true:=by kernel_rfl
theorem infoPP:(Tryz.prog.info? 259).map (·.comparable)=some true:=by kernel_rfl
theorem infoPF:(Tryz.prog.info? 243).map (·.comparable)=some true:=by kernel_rfl
theorem sizeL:(Tryz.prog.info? 258).map (·.size)=some 4:=by kernel_rfl
theorem sizeP:(Tryz.prog.info? 261).map (·.size)=some 5:=by kernel_rfl
theorem sizeF:(Tryz.prog.info? 252).map (·.size)=some 5:=by kernel_rfl
theorem zdz {T T':TypeId} (x x':Value) (w:World) (h:T≠T'):(binOp .eql 94 (.iface T x) (.iface T' x')).run Tryz.prog w=.ok (.bool false) w:=
 run_eql_iface_types (P:=Tryz.prog) T T' x x' Tryz.underlying94 h w
theorem ndL (n:Nat) (x:Value):isNd (obL n x) 1:=.inl ⟨n,x,rfl,rfl⟩
theorem ndP (n:Nat) (x y:Value):isNd (obP n x y) 2:=.inr (.inl ⟨n,x,y,rfl,rfl⟩)
theorem ndF (n:Nat) (x y:Value):isNd (obF n x y) 2:=.inr (.inr ⟨n,x,y,rfl,rfl⟩)
theorem eql_nil_v {T:TypeId} (x:Value) (w:World):(binOp .eql 94 .nilIface (.iface T x)).run Tryz.prog w=.ok (.bool false) w:=
 run_eql_iface_nil_left (P:=Tryz.prog) w T x Tryz.underlying94
end Go.Proofs.YtceadeaodbadlaaGreatDoor
namespace Go.Proofs.YtceadeaodbadlaaGreatDoor
open Go.RowKit
section
variable {v:Value} (T T':TypeId) (x' y':Value) (g n m:Nat) (w:World)
theorem Vs.grow {vb:Nat} {L:Mks} {u w w':World} (h:Vs vb L u w) (hb:Below w.heap.size w w'):
 ∃u',Vs vb L u' w'/\Below u.heap.size u u'/\∀q,u.heap.size<=q->u'.heap[q]? =w'.heap[q]?:=by
 have hs:=h.size;have hs':=hb.size
 have hlo:∀q,q<u.heap.size->(u.heap++w'.heap.extract u.heap.size w'.heap.size)[q]? =u.heap[q]?:=λq hq=>by
  rw[Array.getElem?_append_left hq]
 have hhi:∀q,u.heap.size<=q->(u.heap++w'.heap.extract u.heap.size w'.heap.size)[q]? =w'.heap[q]?:=λq hq=>by
  rw[Array.getElem?_append_right hq,Array.getElem?_extract];by_cases e:q<w'.heap.size
  ·rw[if_pos (by omega)]
   congr 1;omega
  ·rw[if_neg (by omega),Array.getElem?_eq_none (by omega)]
 have hsz:(u.heap++w'.heap.extract u.heap.size w'.heap.size).size=w'.heap.size:=by simp;omega
 refine⟨{w' with heap:=u.heap++w'.heap.extract u.heap.size w'.heap.size},⟨rfl,rfl,rfl,hsz.symm,?_,?_,?_,h.nodup⟩,⟨?_,?_,?_,by show _<=Array.size _;rw[hsz];omega,λk hk=>hlo k hk⟩,hhi⟩
 ·obtain⟨T,r,x,hT,h1,h2⟩:=h.vis
  have hlt:=(z1a.1 h1).1;exact⟨T,r,x,hT,(hlo vb hlt).trans h1,(hb.block vb (by omega)).trans h2⟩
 ·intro q hq
  show w'.heap[q]? =zbi L q (u.heap++w'.heap.extract u.heap.size w'.heap.size)[q]?;by_cases e:q<u.heap.size
  ·rw[hlo q e,hb.block q (by omega)];exact h.blk q hq
  ·have hnot:q∉L.map (·.1):=by
    intro hm;obtain⟨m,hm',rfl⟩:=z1z.1 hm;obtain⟨⟨o,ho,_⟩,_⟩:=h.nds m hm';exact e (z1a.1 ho).1
   rw[zbx hnot,hhi q (by omega)]
 ·intro m hm
  obtain⟨⟨o,ho,hn⟩,hx⟩:=h.nds m hm;exact⟨⟨o,(hlo _ (z1a.1 ho).1).trans ho,hn⟩,hx⟩
 ·exact hb.os.trans h.os
 ·exact hb.tape.trans h.tape
 ·exact hb.output.trans h.output
theorem zdp (lf:Leaf v) (w:World):CZ 193 #[v] w λe w'=>e=.returned (.int .i64 1)/\w'=w:=by
 have N:=lf.nodeOf w;obtain⟨T,x,rfl⟩:=lf.iface;go_enter Tryz.func193,Tryz.ntmps193;go_wp21;refine N.mono ?_;rintro e w' ⟨rfl,rfl⟩;go_wp21;go_ret;exact⟨rfl,rfl⟩
theorem zgb {q k n:Nat} (nv:NdV v q k) (w:World) (hc:w.cell? ⟨q,k,none⟩=some (iZ n)):CZ 193 #[v] w λe w'=>e=.returned (iZ n)/\w'=w:=by
 have N:=zga nv w;obtain⟨T,x,rfl⟩:=nv.iface;go_enter Tryz.func193,Tryz.ntmps193;go_wp21;refine N.mono ?_;rintro e w' ⟨rfl,rfl⟩;go_wp21;go_ret;exact⟨rfl,rfl⟩
def Counts (x:Value) (n:Nat) (w:World):Prop:=∀w',Below w.heap.size w w'->CZ 193 #[x] w' λe w''=>e=.returned (iZ n)/\w''=w'
theorem Counts.below {x:Value} {n:Nat} {w w1:World} (h:Counts x n w) (hb:Below w.heap.size w w1):Counts x n w1:=λw' hb'=>h w' (hb.trans (hb'.mono hb.size))
theorem above_raw1 (hx:w.cell? ⟨g,0,none⟩=some (.iface T x')) (N0:Counts (.iface T x') n w) (hs:n<=4000000000000000000):
 CZ 194 #[sZ g 1 1] w λe w'=>e=.returned (.agg #[.int .i64 ((n+1:Nat):Int),.nilIface,.pointer none])/\Below w.heap.size w w':=by
 have hg:=World.block_lt_of_cell? w _ hx;have hn1:((n+1:Nat):Int)=1+(n:Int):=by omega
 rw[hn1];have hx1:(w.alloc (.cells #[.int .i64 0,.nilIface,.pointer none] 250)).cell? ⟨g,0,none⟩=some (.iface T x'):=by rw[z1o _ _ _ hg];exact hx
 have N:=N0 (w.alloc (.cells #[.int .i64 0,.nilIface,.pointer none] 250)) (bal w _);go_enter Tryz.func194,Tryz.ntmps194;go_wp21;refine wp_loop_rounds 2 ?_;rw[rounds_succ];go_wp21;refine N.mono ?_;rintro e w' ⟨rfl,rfl⟩;go_wp21;rw[rounds_succ];go_wp21;refine zlc rfl rfl (z1v w _) ?_;exact⟨rfl,bal w _⟩
theorem zow (hx:w.cell? ⟨g,0,none⟩=some (.iface T x')) (hy:w.cell? ⟨g,1,none⟩=some (.iface T' y')) (N0:Counts (.iface T x') n w) (M0:Counts (.iface T' y') m w) (hs:n+m<=4000000000000000000):
 CZ 194 #[sZ g 2 2] w λe w'=>e=.returned (.agg #[.int .i64 ((n+m+1:Nat):Int),.nilIface,.pointer none])/\Below w.heap.size w w':=by
 have hg:=World.block_lt_of_cell? w _ hx;have hn1:((n+m+1:Nat):Int)=1+(n:Int)+(m:Int):=by omega
 rw[hn1];have hx1:(w.alloc (.cells #[.int .i64 0,.nilIface,.pointer none] 250)).cell? ⟨g,0,none⟩=some (.iface T x'):=by rw[z1o _ _ _ hg];exact hx
 have hy1:(w.alloc (.cells #[.int .i64 0,.nilIface,.pointer none] 250)).cell? ⟨g,1,none⟩=some (.iface T' y'):=by rw[z1o _ _ ⟨g,1,none⟩ hg];exact hy
 have N:=N0 (w.alloc (.cells #[.int .i64 0,.nilIface,.pointer none] 250)) (bal w _);have M:=M0 (w.alloc (.cells #[.int .i64 0,.nilIface,.pointer none] 250)) (bal w _);go_enter Tryz.func194,Tryz.ntmps194;go_wp21;refine wp_loop_rounds 3 ?_;rw[rounds_succ];go_wp21;refine N.mono ?_;rintro e w' ⟨rfl,rfl⟩;go_wp21;rw[rounds_succ];go_wp21;refine M.mono ?_;rintro e w' ⟨rfl,rfl⟩;go_wp21;rw[rounds_succ];go_wp21;refine zlc rfl rfl (z1v w _) ?_;exact⟨rfl,bal w _⟩
theorem znl (N0:Counts (.iface T x') n w) (hs:n<=4000000000000000000):
 CZ 230 #[.iface T x'] w λe w'=>∃q,e=.returned (pZ q)/\w.heap.size<=q/\w'.heap[q]? =some (obL (n+1) (.iface T x'))/\Below w.heap.size w w':=by
 have b1:Below w.heap.size w (w.alloc (.cells #[.iface T x'] 94)):=bal w _;have A:=above_raw1 T x' w.heap.size n _ (by simp) (N0.below b1) hs;go_enter Tryz.func230,Tryz.ntmps230;go_wp21;refine A.mono ?_;rintro e w1 ⟨rfl,hb⟩;have b2:=b1.trans (hb.mono (by simp));have N1:=z1v w1 (obL (n+1) (.iface T x'));go_wp21;go_ret;exact⟨_,rfl,b2.size,N1,b2.alloc b2.size _⟩
theorem zmu (N0:Counts (.iface T x') n w) (M0:Counts (.iface T' y') m w) (hs:n+m<=4000000000000000000):
 CZ 209 #[.iface T x',.iface T' y'] w λe w'=>∃q,e=.returned (pZ q)/\w.heap.size<=q/\w'.heap[q]? =some (obP (n+m+1) (.iface T x') (.iface T' y'))/\Below w.heap.size w w':=by
 have b1:Below w.heap.size w (w.alloc (.cells #[.iface T x',.iface T' y'] 94)):=bal w _;have A:=zow T T' x' y' w.heap.size n m _ (by simp) (by simp) (N0.below b1) (M0.below b1) hs;go_enter Tryz.func209,Tryz.ntmps209;go_wp21;refine A.mono ?_;rintro e w1 ⟨rfl,hb⟩;have b2:=b1.trans (hb.mono (by simp));have N1:=z1v w1 (obP (n+m+1) (.iface T x') (.iface T' y'));go_wp21;go_ret;exact⟨_,rfl,b2.size,N1,b2.alloc b2.size _⟩
theorem zdd (N0:Counts (.iface T x') n w) (M0:Counts (.iface T' y') m w) (hs:n+m<=4000000000000000000):
 CZ 160 #[.iface T x',.iface T' y'] w λe w'=>∃q,e=.returned (pZ q)/\w.heap.size<=q/\w'.heap[q]? =some (obF (n+m+1) (.iface T x') (.iface T' y'))/\Below w.heap.size w w':=by
 have b1:Below w.heap.size w (w.alloc (.cells #[.iface T x',.iface T' y'] 94)):=bal w _;have A:=zow T T' x' y' w.heap.size n m _ (by simp) (by simp) (N0.below b1) (M0.below b1) hs;go_enter Tryz.func160,Tryz.ntmps160;go_wp21;refine A.mono ?_;rintro e w1 ⟨rfl,hb⟩;have b2:=b1.trans (hb.mono (by simp));have N1:=z1v w1 (obF (n+m+1) (.iface T x') (.iface T' y'));go_wp21;go_ret;exact⟨_,rfl,b2.size,N1,b2.alloc b2.size _⟩
end
end Go.Proofs.YtceadeaodbadlaaGreatDoor
namespace Go.Proofs.YtceadeaodbadlaaGreatDoor
def putT (v:List Nat) (g:List Ty) (t:Ty):Ty:=sub (λo=>(look (v.zip g) o).getD (tV o)) t
def inT (o:Nat):Ty->Bool
 | .nil=>false
 | .node g p _ a b=>(g==2 && p==o)||inT o a||inT o b
abbrev Sch:Type:=Ty×List Nat
abbrev Env:Type:=Nat->Option Sch
def zap (e:Env) (c:Nat) (s:Sch):Env:=λd=>if d=c then some s else e d
def zgr (e:Env) (o:Nat):Bool:=(List.range 26).any λk=>match e (97+k) with
 |none=>false
 |some (t,v)=>inT o t && !v.contains o
def va:Ty:=tV 970
def vb':Ty:=tV 980
def conS (c:Nat):Sch:=
 if c=78 then (tL va,[970])
 else if c=67 then (tF va (tF (tL va) (tL va)),[970])
 else if c=80 then (tF va (tF vb' (tP va vb')),[970,980])
 else if c=76 then (tF (tP va vb') va,[970,980])
 else if c=82 then (tF (tP va vb') vb',[970,980])
 else if c=74 then (tF tB (tF va (tF va va)),[970])
 else if c=69 then (tF tI (tF tI tB),[])
 else if c=65 then (tF tI (tF tI tI),[])
 else if c=89 then (tF (tF va va) va,[970])
 else (tF (tF va (tF vb' vb')) (tF vb' (tF (tL va) vb')),[970,980])
abbrev COut:Type:=Except (Nat×Nat) Ty
def zbn (s:Sch) (g:List Ty) (p:Nat):COut:=
 if g.length≠s.2.length then .error (4,p)
 else if 50000<sz (putT s.2 g s.1) then .error (8,p)
 else .ok (putT s.2 g s.1)
def zce (e:Env):List (Nat×Nat)->List Nat->Option Nat
 |[],_=>none
 |(o,p)::r,l=>if l.contains o||zgr e o then some p else zce e r (l++[o])
def zjc (f x:Ty) (p:Nat):COut:=
 match f with
 | .node 5 _ _ a b=>if eqT a x then .ok b else .error (5,p)
 |_=> .error (5,p)
def chk:Ex->Env->COut
 | .nil,_=> .ok tI
 | .node t _ x a b,e=>
  if t=0 then
   match e x.c with
   |none=> .error (3,x.p)
   |some s=>zbn s x.g x.p
  else if t=1 then zbn (conS x.c) x.g x.p
  else if t=2 then .ok (if x.c=84\/x.c=70 then tB else tI)
  else if t=3 then
   match chk a (zap e x.c (x.g.headD tI,[])) with
   | .error r=> .error r
   | .ok u=>if 50000<sz (tF (x.g.headD tI) u) then .error (8,x.p) else .ok (tF (x.g.headD tI) u)
  else if t=4 then
   match zce e x.v [] with
   |some p=> .error (6,p)
   |none=>
    match chk a e with
    | .error r=> .error r
    | .ok u=>chk b (zap e x.c (u,x.v.map (·.1)))
  else
   match chk a e with
   | .error r=> .error r
   | .ok f=>
    match chk b e with
    | .error r=> .error r
    | .ok y=>zjc f y x.p
def zaa:Ty->List Nat->List Nat
 | .nil,l=>l
 | .node g o _ a b,l=>if g=2 then (if l.contains o then l else l++[o]) else zaa b (zaa a l)
def zac (k:Nat):Nat:=10*(97+k % 26)+k/26
def zbq (o:Nat):List UInt8:=if o % 10=0 then [u8 (o/10)] else [u8 (o/10),u8 (48+o % 10)]
def inBr (c:Bool) (f:List UInt8):List UInt8:=if c then 40::(f++[41]) else f
def isFn:Ty->Bool
 | .node g _ _ _ _=>g==5
 | .nil=>false
def isPr:Ty->Bool
 | .node g _ _ _ _=>g==4
 | .nil=>false
def zae:Ty->List UInt8
 | .nil=>[]
 | .node g o _ a b=>
  if g=0 then [73] else if g=1 then [66] else if g=2 then zbq o
  else if g=3 then 91::(zae a++[93])
  else if g=4 then inBr (isFn a) (zae a)++42::inBr (isFn b||isPr b) (zae b)
  else inBr (isFn a) (zae a)++62::zae b
def zbb (o:Nat):List Nat->Nat
 |[]=>0
 |p::l=>if p=o then 0 else zbb o l+1
def zeh (t:Ty):List UInt8:=zae (sub (λo=>tV (zac (zbb o (zaa t [])))) t)
theorem sub_ok {θ:Nat->Ty}:∀{t:Ty},Ok t->(∀o,970<=o->o<1230->Ok (θ o))->Ok (sub θ t):=by
 intro t
 induction t with
 |nil=>intro h;exact h.elim
 |node g o u a b iha ihb=>
  intro h hθ
  cases u
  rcases h with ⟨rfl,rfl,rfl,rfl⟩|⟨rfl,rfl,rfl,rfl⟩|⟨rfl,ho,rfl,rfl⟩|⟨rfl,rfl,ha,rfl⟩|⟨rfl,rfl,ha,hb⟩|⟨rfl,rfl,ha,hb⟩
  ·exact okI
  ·exact okB
  ·exact hθ o ho.1 ho.2
  ·exact okL (iha ha hθ)
  ·exact okP (iha ha hθ) (ihb hb hθ)
  ·exact okF (iha ha hθ) (ihb hb hθ)
theorem zpy {v:List Nat} {g:List Ty} {o:Nat} {t:Ty} (h:look (v.zip g) o=some t):t∈g:=by
 induction v generalizing g with
 |nil=>simp[look] at h
 |cons p v ih=>
  cases g with
  |nil=>simp[look] at h
  |cons u g=>
   simp only[List.zip_cons_cons,look] at h;split at h
   ·cases h;exact z1k
   ·exact z1j _ (ih h)
theorem putT_ok {v:List Nat} {g:List Ty} {t:Ty} {m:Nat} (ht:Ok t) (hg:GOk m g):Ok (putT v g t):=by
 refine sub_ok ht λo h1 h2=>?_
 cases h:look (v.zip g) o with
 |none=>exact okV h1 h2
 |some u=>exact(hg u (zpy h)).1
theorem zfm (c:Nat):Ok (conS c).1/\sz (conS c).1<=20:=by
 have a:Ok va:=okV (by decide) (by decide);have b:Ok vb':=okV (by decide) (by decide);unfold conS
 repeat' split
 ·exact⟨okL a,by decide⟩
 ·exact⟨okF a (okF (okL a) (okL a)),by decide⟩
 ·exact⟨okF a (okF b (okP a b)),by decide⟩
 ·exact⟨okF (okP a b) a,by decide⟩
 ·exact⟨okF (okP a b) b,by decide⟩
 ·exact⟨okF okB (okF a (okF a a)),by decide⟩
 ·exact⟨okF okI (okF okI okB),by decide⟩
 ·exact⟨okF okI (okF okI okI),by decide⟩
 ·exact⟨okF (okF a a) a,by decide⟩
 ·exact⟨okF (okF a (okF b b)) (okF b (okF (okL a) b)),by decide⟩
def EnvOk (m:Nat) (e:Env):Prop:=∀c s,e c=some s->Ok s.1/\sz s.1<=m
theorem EnvOk.none (m:Nat):EnvOk m (λ_=>none):=λc s h=>by cases h
theorem EnvOk.set {m:Nat} {e:Env} {c:Nat} {s:Sch} (h:EnvOk m e) (h1:Ok s.1) (h2:sz s.1<=m):EnvOk m (zap e c s):=by
 intro d s' hd;unfold zap at hd;split at hd
 ·cases hd;exact⟨h1,h2⟩
 ·exact h d s' hd
theorem zsn {s:Sch} {g:List Ty} {p m:Nat} {t:Ty} (h:zbn s g p=.ok t) (hs:Ok s.1) (hg:GOk m g):Ok t/\sz t<=50000:=by
 unfold zbn at h;split at h
 ·cases h
 ·split at h
  ·cases h
  ·rename_i h2
   cases h
   exact⟨putT_ok hs hg,by omega⟩
theorem zyf {f x t:Ty} {p:Nat} (h:zjc f x p=.ok t) (hf:Ok f):Ok t/\sz t<=sz f/\∃a,Ok a/\f=tF a t/\a=x:=by
 rcases hf.cases with rfl|rfl|⟨o,_,_,rfl⟩|⟨a,ha,rfl⟩|⟨a,b,ha,hb,rfl⟩|⟨a,b,ha,hb,rfl⟩<;>simp only[zjc] at h
 ·cases h
 ·cases h
 ·cases h
 ·cases h
 ·cases h
 ·split at h
  ·rename_i e
   cases h
   exact⟨hb,by simp[sz];omega,a,ha,rfl,(zgp _ _).1 e⟩
  ·cases h
theorem zhu {m:Nat} (hm:m<=60000):∀(x:Ex) (e:Env) (t:Ty),EOk true m x->EnvOk 60000 e->chk x e=.ok t->Ok t/\sz t<=50000:=by
 intro x
 induction x with
 |nil=>intro e t h;exact h.elim
 |node k o x a b iha ihb=>
  intro e t ho he h;rcases ho with ⟨rfl,hc,hg,_⟩|⟨rfl,hc,hg,_⟩|⟨rfl,hc,_⟩|⟨rfl,hc,hg,hu,ha,_⟩|⟨rfl,hc,hv,ha,hb⟩|⟨rfl,ha,hb⟩
  ·simp only[chk,if_true] at h
   split at h
   ·cases h
   ·rename_i s hs
    exact zsn h (he _ _ hs).1 hg
  ·simp only[chk] at h
   exact zsn (by simpa using h) (zfm _).1 hg
  ·simp[chk] at h
   subst h;split
   ·exact⟨okB,by decide⟩
   ·exact⟨okI,by decide⟩
  ·obtain⟨u,hu⟩:=hu rfl
   have hgu:=hg u (by rw[hu];exact List.mem_singleton.2 rfl);simp[chk,hu] at h;split at h
   ·cases h
   ·rename_i u' hq
    have i1:=iha _ _ ha (he.set (s:=(u,[])) hgu.1 (by have:=hgu.2;show sz u<=60000;omega)) hq;split at h
    ·cases h
    ·cases h
     exact⟨okF hgu.1 i1.1,by omega⟩
  ·simp[chk] at h
   split at h
   ·cases h
   ·split at h
    ·cases h
    ·rename_i u hq
     have i1:=iha _ _ ha he hq;exact ihb _ _ hb (he.set (s:=(u,_)) i1.1 (by show sz u<=60000;omega)) h
  ·simp[chk] at h
   split at h
   ·cases h
   ·rename_i f hq
    split at h
    ·cases h
    ·have i1:=iha _ _ ha he hq
     have:=zyf h i1.1;exact⟨this.1,by omega⟩
end Go.Proofs.YtceadeaodbadlaaGreatDoor
namespace Go.Proofs.YtceadeaodbadlaaGreatDoor
open Go.RowKit
theorem zhn:∀(t:Ty) (l:List Nat) (o:Nat),o∈l->o∈zaa t l:=by
 intro t
 induction t with
 |nil=>intro l o h;simpa [zaa] using h
 |node g p u a b iha ihb=>
  intro l o h;simp only[zaa];split
  ·split
   ·exact h
   ·exact List.mem_append_left _ h
  ·exact ihb _ _ (iha _ _ h)
theorem zis:∀{t:Ty},Ok t->∀l:List Nat,(∀o∈l,970<=o/\o<970+260)->∀o∈zaa t l,970<=o/\o<970+260:=by
 intro t
 induction t with
 |nil=>intro h;exact h.elim
 |node g p u a b iha ihb=>
  intro h l hl
  cases u
  rcases h with ⟨rfl,rfl,rfl,rfl⟩|⟨rfl,rfl,rfl,rfl⟩|⟨rfl,hp,rfl,rfl⟩|⟨rfl,rfl,ha,rfl⟩|⟨rfl,rfl,ha,hb⟩|⟨rfl,rfl,ha,hb⟩
  ·simpa [zaa] using hl
  ·simpa [zaa] using hl
  ·intro o ho
   simp only[zaa,if_pos] at ho;split at ho
   ·exact hl o ho
   ·rcases z1y.1 ho with ho|ho
    ·exact hl o ho
    ·simp at ho;omega
  ·have:=iha ha l hl
   simpa [zaa] using this
  ·have:=ihb hb _ (iha ha l hl)
   simpa [zaa] using this
  ·have:=ihb hb _ (iha ha l hl)
   simpa [zaa] using this
theorem zqn:∀(t:Ty) (l:List Nat),l.Nodup->(zaa t l).Nodup:=by
 intro t
 induction t with
 |nil=>intro l h;simpa [zaa] using h
 |node g p u a b iha ihb=>
  intro l h;simp only[zaa];split
  ·split
   ·exact h
   ·rename_i hc
    rw[z2b] at hc;rw[List.nodup_append];refine⟨h,by simp,?_⟩;intro x hx y hy e;simp at hy;exact hc (by rw[<-hy,<-e];exact hx)
  ·exact ihb _ (iha _ h)
theorem zno:∀(n:Nat) (l:List Nat),l.Nodup->(∀x∈l,970<=x/\x<970+n)->l.length<=n:=by
 intro n
 induction n with
 |zero=>
  intro l _ h
  cases l with
  |nil=>simp
  |cons x l=>have:=h x (by simp);omega
 |succ n ih=>
  intro l hd h;by_cases hm:970+n∈l
  ·have h1:=ih (l.erase (970+n)) (hd.erase _) (λx hx=>by
    rw[hd.mem_erase_iff] at hx;have:=h x hx.2;omega)
   rw[List.length_erase_of_mem hm] at h1;omega
  ·have:=ih l hd (λx hx=>by
    have h2:=h x hx;have h3:x≠970+n:=λe=>hm (e ▸ hx)
    omega)
   omega
theorem zpf {t:Ty} (h:Ok t):(zaa t []).length<=260:=zno 260 _ (zqn t [] (by simp)) (zis h [] (by simp))
theorem zzc {t:Ty} (h:Ok t):∀o∈zaa t [],970<=o:=λo ho=>(zis h [] (by simp) o ho).1
theorem zsu {k:Nat} (h:k<260):970<=zac k/\zac k<1230:=by unfold zac;omega
theorem zhp:∀(v:List Nat) (o:Nat),o∈v->v[zbb o v]? =some o/\∀(m p:Nat),m<zbb o v->v[m]? =some p->o≠p:=by
 intro v
 induction v with
 |nil=>intro o h;simp at h
 |cons p v ih=>
  intro o h;simp only[zbb];by_cases hp:p=o
  ·rw[if_pos hp]
   exact⟨by simp[hp],λm _ hm=>by omega⟩
  ·rw[if_neg hp]
   have h1:=ih o (by rcases List.mem_cons.1 h with h|h;exact absurd h.symm hp;exact h);refine⟨by simpa using h1.1,?_⟩;intro m q hm hq
   cases m with
   |zero=>simp at hq;intro e;exact hp (hq.trans e.symm)
   |succ m=>exact h1.2 m q (by omega) (by simpa using hq)
theorem zhq {θ θ':Nat->Ty} {v:List Nat} (hv:∀o∈v,θ o=θ' o):∀(t:Ty) (l:List Nat),(∀o∈zaa t l,o∈v)->sub θ t=sub θ' t:=by
 intro t
 induction t with
 |nil=>intro l _;rfl
 |node g p u a b iha ihb=>
  intro l h;simp only[sub];simp only[zaa] at h;split
  ·rename_i hg
   rw[if_pos hg] at h;refine hv p (h p ?_);split
   ·rename_i hc;rwa [z2b] at hc
   ·simp
  ·rename_i hg
   rw[if_neg hg] at h;rw[iha l (λo ho=>h o (zhn _ _ _ ho)),ihb _ h]
def VarRow (w:World) (V:Value) (vars:List Nat):Prop:=∃sa cap,V=.slice sa vars.length cap/\(vars=[]\/∃g c,sa=some ⟨g,0,none⟩/\w.heap[g]? =some (.cells c 263 (0,0))/\
 ∀j o,vars[j]? =some o->c[j*2]? =some (.int .u8 ((o/10:Nat):Int))/\c[j*2+1]? =some (.int .u8 ((o % 10:Nat):Int)))
section
variable {vars:List Nat} {V:Value} {w w':World}
theorem VarRow.of (h:VarRow w V vars) (hk:∀(g:Nat) (c:Array Value),w.heap[g]? =some (Obj.cells c 263 (0,0))->w'.heap[g]? =some (Obj.cells c 263 (0,0))):VarRow w' V vars:=by
 obtain⟨sa,cap,rfl,h⟩:=h;refine⟨sa,cap,rfl,?_⟩;rcases h with h|⟨g,c,rfl,hg,hc⟩
 ·exact .inl h
 ·exact .inr ⟨g,c,rfl,hk g c hg,hc⟩
theorem VarRow.below (h:VarRow w V vars) (hb:Below w.heap.size w w'):VarRow w' V vars:=
 h.of λg c hg=>(hb.block g (z1a.1 hg).1).trans hg
theorem Vs.other {vb:Nat} {L:Mks} {u:World} {g:Nat} {c:Array Value} {T:TypeId} (h:Vs vb L u w) {fz:Nat×Nat} (hg:u.heap[g]? =some (.cells c T fz)) (hT:VisT T) (hne:g≠vb):w.heap[g]? =some (.cells c T fz):=by
 rw[h.blk g hne,zbx ?_]
 ·exact hg
 ·intro hm
  obtain⟨m,hm',rfl⟩:=z1z.1 hm;obtain⟨⟨o,ho,hn⟩,_⟩:=h.nds m hm';obtain⟨c',T',rfl,hT',_⟩:=hn.cells;rw[hg] at ho;simp at ho;exact hT' (ho.2.1 ▸ hT)
theorem eql_kv (o o':Nat) (w:World):(binOp .eql 263 (kv o) (kv o')).run Tryz.prog w=.ok (.bool (decide (o=o'))) w:=by
 simp only[binOp]
 have e:(((o/10:Nat):Int)==((o'/10:Nat):Int) && ((o % 10:Nat):Int)==((o' % 10:Nat):Int))=decide (o=o'):=by
  rw[Bool.eq_iff_iff];simp;omega
 have h:=zuy 9997 ((o/10:Nat):Int) ((o % 10:Nat):Int) ((o'/10:Nat):Int) ((o' % 10:Nat):Int) w;rw[e] at h;have h':(Op.equal 263 (kv o) (kv o')).run Tryz.prog w=.ok (decide (o=o')) w:=h;simp[h']
def idxI (o:Nat) (vars:List Nat):Int:=if o∈vars then (zbb o vars:Int) else-1
theorem idx_first {o:Nat}:∀{vars:List Nat} {k:Nat},vars[k]? =some o->(∀(j x:Nat),j<k->vars[j]? =some x->o≠x)->zbb o vars=k:=by
 intro vars
 induction vars with
 |nil=>intro k h;simp at h
 |cons p vars ih=>
  intro k h hn
  cases k with
  |zero=>simp at h;simp[zbb,h]
  |succ k=>
   have hp:p≠o:=λe=>hn 0 p (by omega) (by simp) e.symm
   rw[zbb,if_neg hp,ih (by simpa using h) (λj x hj hx=>hn (j+1) x (by omega) (by simpa using hx))]
theorem index_any (V:Value) (vars:List Nat) (o:Nat) (w:World) (h:VarRow w V vars) (hl:vars.length<=1000000):
 CZ 244 #[V,kv o] w λe w'=>e=.returned (.int .i64 (idxI o vars))/\Below w.heap.size w w':=by
 obtain⟨sa,cap,rfl,h⟩:=h
 have HV:Hid (∀j p,vars[j]? =some p->∃g,sa=some ⟨g,0,none⟩/\w.cell? ⟨g,j*2,none⟩=some (.int .u8 ((p/10:Nat):Int))/\w.cell? ⟨g,j*2+1,none⟩=some (.int .u8 ((p % 10:Nat):Int))/\g<w.heap.size):=by
  intro j p hp;rcases h with rfl|⟨g,c,rfl,hg,hc⟩
  ·simp at hp
  ·obtain⟨h1,h2⟩:=hc j p hp
   exact⟨g,rfl,by rw[z1f hg];exact h1,by rw[z1f hg];exact h2,(z1a.1 hg).1⟩
 clear h
 have HI:Hid (∀k,vars[k]? =some o->(∀(j x:Nat),j<k->vars[j]? =some x->o≠x)->idxI o vars=(k:Int)):=λk h1 h2=>by
  unfold idxI;rw[if_pos (z1m h1),idx_first h1 h2]
 have HZ:Hid ((∀(j x:Nat),vars[j]? =some x->o≠x)->idxI o vars=-1):=λh=>by
  unfold idxI;rw[if_neg];intro hm;obtain⟨j,hj⟩:=List.getElem?_of_mem hm;exact h j o hj rfl
 have HE:Hid (∀p wq,(binOp .eql 263 (kv o) (kv p)).run Tryz.prog wq=.ok (.bool (decide (o=p))) wq):=λp wq=>eql_kv o p wq
 generalize idxI o vars=r at *
 have HN:Hid (∃n,vars.length=n):=⟨_,rfl⟩
 obtain⟨n,hn⟩:=HN.out;have HL:Hid (vars.length=n):=hn;rw[hn] at hl ⊢;clear hn HN;have d0:(w.alloc (.cells #[.int .u8 ((o/10:Nat):Int),.int .u8 ((o % 10:Nat):Int)] 263)).cell? ⟨w.heap.size,0,none⟩=some (.int .u8 ((o/10:Nat):Int)):=by simp
 have d1:(w.alloc (.cells #[.int .u8 ((o/10:Nat):Int),.int .u8 ((o % 10:Nat):Int)] 263)).cell? ⟨w.heap.size,1,none⟩=some (.int .u8 ((o % 10:Nat):Int)):=by simp
 have B0:Below w.heap.size w (w.alloc (.cells #[.int .u8 ((o/10:Nat):Int),.int .u8 ((o % 10:Nat):Int)] 263)):=bal w _;unfold kv at *
 generalize ((o/10:Nat):Int)=x at *
 generalize ((o % 10:Nat):Int)=y at *
 have HC:Hid (∀g i v,g<w.heap.size->w.cell? ⟨g,i,none⟩=some v->(w.alloc (.cells #[.int .u8 x,.int .u8 y] 263)).cell? ⟨g,i,none⟩=some v):=λg i v hg hc=>by
  rw[z1o _ _ ⟨g,i,none⟩ hg];exact hc
 go_enter Tryz.func244,Tryz.ntmps244
 go_wp2_with fail
 generalize hW:w.alloc (.cells #[.int .u8 x,.int .u8 y] 263)=W at *
 go_loopw [8] (λi wr=>∃k d:Nat,i=.int .i64 (k:Int)/\k<=n/\Hid (∀(j p:Nat),j<k->vars[j]? =some p->o≠p)/\wr=W.drewN d) (λi _=>n-(intOf i).toNat)
 case atStart=>exact⟨0,0,rfl,Nat.zero_le _,λj p hj=>by omega,rfl⟩
 case round=>
  obtain⟨k,d,rfl,hkn,HU,hwr⟩:=hrel;subst hwr;by_cases hk:k=n
  ·have HR:Hid (r=-1):=HZ.out λj p hj=>HU.out j p (by have:=(z1b.1 hj).1;have:=HL.out;omega) hj
   subst hk
   go_wp2_with fail
   go_ret;exact⟨by rw[HR.out];rfl,below_drewN B0 d⟩
  ·have hk':k<n:=by omega
   clear hk;obtain⟨p,hp⟩:∃p,vars[k]? =some p:=⟨_,z1h (by rw[HL.out];omega)⟩
   obtain⟨g,hsa,c0,c1,hg⟩:=HV.out k p hp;subst hsa;have e0:=HC.out g (k*2) _ hg c0;have e1:=HC.out g (k*2+1) _ hg c1;have EQ:=HE.out p;have HP:Hid (vars[k]? =some p):=hp;clear c0 c1 hp;by_cases hop:o=p
   ·rw[decide_eq_true hop] at EQ
    have HR:Hid (r=(k:Int)):=HI.out k (by rw[HP.out,hop]) HU.out;clear hop;generalize ((p/10:Nat):Int)=px at *
    generalize ((p % 10:Nat):Int)=py at *
    go_wp2_with fail
    go_quiet (fail)
    go_wp2_with fail
    go_ret;exact⟨by rw[HR.out];rfl,below_drewN (below_drewN B0 d) _⟩
   ·rw[decide_eq_false hop] at EQ
    have HM:Hid (∀(j p:Nat),j<k+1->vars[j]? =some p->o≠p):=by
     intro j p' hj hp';rcases z1r j k with h|h
     ·exact HU.out j p' h hp'
     ·obtain rfl:j=k:=by omega
      rw[HP.out] at hp';obtain rfl:=z1q hp';exact hop
    clear hop;generalize ((p/10:Nat):Int)=px at *
    generalize ((p % 10:Nat):Int)=py at *
    go_wp2_with fail
    go_quiet (fail)
    go_wp2_with fail
    go_roundw
    case rel=>exact⟨k+1,_,by simp,by omega,HM,rfl⟩
    case measure=>simp[intOf];omega
end
end Go.Proofs.YtceadeaodbadlaaGreatDoor
namespace Go.Proofs.YtceadeaodbadlaaGreatDoor
open Go.RowKit Go.Extern.Stop Go.Stop Go.Extern
abbrev zcn (K:Nat):Prop:=∀args w,(callFunc K args).run Tryz.prog w=.ok (.enter K args) w
section
variable {T:TypeId} (q:Nat) (x hv:Value) (w:World) (f:Bool) (K:Nat) (fs cs:Array Value)
theorem zpi (x v' hv:Value) (c:Bool) (w:World) (hv':∃T' x',v'=.iface T' x') (h1:T≠256) (h2:T≠259) (h3:T≠243) (he:(binOp .eql 94 (.iface T x) v').run Tryz.prog w=.ok (.bool c) w):
 CZ 179 #[.iface T x,v',hv] w λe w'=>e=.returned (.bool c)/\w'=w:=by
 obtain⟨T',x',rfl⟩:=hv';have a1:=λw=>zbv x h1 w
 have a2:=λw=>zdo x h2 w
 have a3:=λw=>zdl x h3 w
 go_enter Tryz.func179,Tryz.ntmps179
 go_wp2_with fail
 go_ret;exact⟨rfl,rfl⟩
theorem zvj (h:T≠256):
 CZ 179 #[viL q,.iface T x,hv] w λe w'=>e=.returned (.bool false)/\∃n,w'=w.drewN n:=by
 have z:=λw=>zbv x h w
 have a3:=zjx;go_enter Tryz.func179,Tryz.ntmps179
 go_wp2_with fail
 go_quiet (fail)
 go_wp2_with fail
 go_ret;exact⟨rfl,_,rfl⟩
theorem zvi (h:T≠259):
 CZ 179 #[viP q,.iface T x,hv] w λe w'=>e=.returned (.bool false)/\∃n,w'=w.drewN n:=by
 have z:=λw=>zdo x h w
 have a1:=λv=>zbv (T:=259) v (by decide)
 have a3:=zhj;go_enter Tryz.func179,Tryz.ntmps179
 go_wp2_with fail
 go_quiet (fail)
 go_wp2_with fail
 go_ret;exact⟨rfl,_,rfl⟩
theorem zvh (h:T≠243):
 CZ 179 #[viF q,.iface T x,hv] w λe w'=>e=.returned (.bool false)/\∃n,w'=w.drewN n:=by
 have z:=λw=>zdl x h w
 have a1:=λv=>zbv (T:=243) v (by decide)
 have a2:=λv=>zdo (T:=243) v (by decide)
 have a3:=zca;go_enter Tryz.func179,Tryz.ntmps179
 go_wp2_with fail
 go_quiet (fail)
 go_wp2_with fail
 go_ret;exact⟨rfl,_,rfl⟩
theorem alikeL_hit (eK:zcn K) (w:World) (q q':Nat) (T T':TypeId) (x' y':Value) (Q:Bool->World->Prop) (c1:w.cell? ⟨q,0,none⟩=some (.iface T x')) (c2:w.cell? ⟨q',0,none⟩=some (.iface T' y')) (H:Calls Tryz.prog K (fs++(#[.iface T x',.iface T' y']++cs)) w.drew λe w1=>∃r,e=.returned (.bool r)/\Q r w1) (HC:∀r w1,Q r w1->w1.cell? ⟨q,0,none⟩=some (.iface T x')/\w1.cell? ⟨q',0,none⟩=some (.iface T' y')):
 Calls Tryz.prog 179 #[viL q,viL q',.func (.func K) fs cs] w λe w'=>∃r,e=.returned (.bool r)/\Q r w':=by
 have HH:Hid (Calls Tryz.prog K (fs++(#[.iface T x',.iface T' y']++cs)) w.drew λe w1=>∃r,e=.returned (.bool r)/\Q r w1):=H;have HHC:Hid (∀r w1,Q r w1->w1.cell? ⟨q,0,none⟩=some (.iface T x')/\w1.cell? ⟨q',0,none⟩=some (.iface T' y')):=HC;clear H HC;have a1:=zjx;go_enter Tryz.func179,Tryz.ntmps179
 go_wp2_with fail
 go_region_held3 (λwq=>wq.cell? ⟨q,0,none⟩=some (.iface T x')/\wq.cell? ⟨q',0,none⟩=some (.iface T' y'))
  (first|(go_keep;done)|(go_split_ands;exact⟨q1,q2⟩))
  (first|(go_at_fn K;refine HH.out.mono ?_;rintro e w1 ⟨r,rfl,hQ⟩;obtain⟨q1,q2⟩:=HHC.out r w1 hQ))
 go_wp2_with fail
 go_ret;exact⟨_,rfl,hQ⟩
abbrev viQ (f:Bool) (q:Nat):Value:=cond f (viF q) (viP q)
theorem zwv (eK:zcn K) (w:World) (q q':Nat) (T T' S S':TypeId) (x' y' x2' y2':Value) (Q:World->Prop) (c1:w.cell? ⟨q,0,none⟩=some (.iface T x')) (c2:w.cell? ⟨q',0,none⟩=some (.iface T' y')) (c3:w.cell? ⟨q,1,none⟩=some (.iface S x2')) (c4:w.cell? ⟨q',1,none⟩=some (.iface S' y2')) (H:CZ K (fs++(#[.iface T x',.iface T' y']++cs)) w.drew λe w1=>e=.returned (.bool false)/\Q w1) (HC:∀w1,Q w1->w1.cell? ⟨q,0,none⟩=some (.iface T x')/\w1.cell? ⟨q',0,none⟩=some (.iface T' y')/\w1.cell? ⟨q,1,none⟩=some (.iface S x2')/\w1.cell? ⟨q',1,none⟩=some (.iface S' y2')):
 CZ 179 #[viQ f q,viQ f q',.func (.func K) fs cs] w λe w'=>e=.returned (.bool false)/\Q w':=by
 have HH:Hid (CZ K (fs++(#[.iface T x',.iface T' y']++cs)) w.drew λe w1=>e=.returned (.bool false)/\Q w1):=H;have HHC:Hid (∀w1,Q w1->cZ w1 q 0 (.iface T x')/\cZ w1 q' 0 (.iface T' y')/\cZ w1 q 1 (.iface S x2')/\cZ w1 q' 1 (.iface S' y2')):=HC;clear H HC
 cases f
 case' false=>
  have a1:=λv=>zbv (T:=259) v (by decide)
  have a3:=zhj
 case' true=>
  have a1:=λv=>zbv (T:=243) v (by decide)
  have a2:=λv=>zdo (T:=243) v (by decide)
  have a3:=zca
 all_goals
  dsimp only[viQ,cond];go_enter Tryz.func179,Tryz.ntmps179
  go_wp2_with fail
  refine wp_region_held_drew (S:=(λwq=>cZ wq q 0 (.iface T x')/\cZ wq q' 0 (.iface T' y')/\cZ wq q 1 (.iface S x2')/\cZ wq q' 1 (.iface S' y2'))) (by kernel_rfl) (⟨c1,c2,c3,c4⟩) (λhS=>?_);refine tkS 0 (.bool true) hS ?_;refine tkS 1 (.bool true) hS ?_;refine tkS 2 (.func (.func K) fs cs) hS ?_;refine tkS 3 (pZ q) hS ?_;refine tkS 4 (pZ q) hS ?_;refine tkS 5 (pZ q) hS ?_;refine tkL 6 (.iface T x') hS ?_;refine tkS 7 (pZ q') hS ?_;refine tkS 8 (pZ q') hS ?_;refine tkS 9 (pZ q') hS ?_;refine tkL 10 (.iface T' y') hS ?_;refine rd1 11 (λKK hK=>?_)
  (try simp only[List.getElem_toArray,List.getElem_cons_succ,List.getElem_cons_zero])
  go_simp;go_at_fn K;refine HH.out.mono ?_;rintro e w1 ⟨rfl,hQ⟩;obtain⟨q1,q2,q3,q4⟩:=HHC.out w1 hQ;dsimp only;refine hK.out _ _ ⟨q1,q2,q3,q4⟩ (λhS=>nrm ?_);refine tkS 12 (.bool false) hS ?_;refine tkS 13 (.bool false) hS ?_;refine tkU 14 hS ?_;refine tkU 15 hS ?_;refine tkU 16 hS ?_;refine tkU 17 hS ?_;refine tkU 18 hS ?_;refine tkU 19 hS ?_;refine tkU 20 hS ?_;refine tkU 21 hS ?_;refine tkU 22 hS ?_;refine tkU 23 hS ?_;refine tkS 24 (.bool false) hS ?_;refine tkS 25 (.bool false) hS ?_;refine wpAnyH_done (by kernel_rfl) ?_ _
  go_wp2_with fail
  go_ret;exact⟨rfl,hQ⟩
theorem zta (eK:zcn K) (w:World) (q q':Nat) (T T' S S':TypeId) (x' y' x2' y2':Value) (Q:World->Prop) (Q2:Bool->World->Prop) (c1:w.cell? ⟨q,0,none⟩=some (.iface T x')) (c2:w.cell? ⟨q',0,none⟩=some (.iface T' y')) (c3:w.cell? ⟨q,1,none⟩=some (.iface S x2')) (c4:w.cell? ⟨q',1,none⟩=some (.iface S' y2')) (H:Calls Tryz.prog K (fs++(#[.iface T x',.iface T' y']++cs)) w.drew λe w1=>e=.returned (.bool true)/\Q w1) (H2:∀w1,Q w1->Calls Tryz.prog K (fs++(#[.iface S x2',.iface S' y2']++cs)) w1 λe w2=>∃r,e=.returned (.bool r)/\Q2 r w2) (HC:∀w1,Q w1->w1.cell? ⟨q,0,none⟩=some (.iface T x')/\w1.cell? ⟨q',0,none⟩=some (.iface T' y')/\w1.cell? ⟨q,1,none⟩=some (.iface S x2')/\w1.cell? ⟨q',1,none⟩=some (.iface S' y2')) (HC2:∀r w1,Q2 r w1->w1.cell? ⟨q,0,none⟩=some (.iface T x')/\w1.cell? ⟨q',0,none⟩=some (.iface T' y')/\w1.cell? ⟨q,1,none⟩=some (.iface S x2')/\w1.cell? ⟨q',1,none⟩=some (.iface S' y2')):
 Calls Tryz.prog 179 #[viQ f q,viQ f q',.func (.func K) fs cs] w λe w'=>∃r,e=.returned (.bool r)/\Q2 r w':=by
 have HH:Hid (Calls Tryz.prog K (fs++(#[.iface T x',.iface T' y']++cs)) w.drew λe w1=>e=.returned (.bool true)/\Q w1):=H;have HH2:Hid (∀w1,Q w1->Calls Tryz.prog K (fs++(#[.iface S x2',.iface S' y2']++cs)) w1 λe w2=>∃r,e=.returned (.bool r)/\Q2 r w2):=H2;have HHC:Hid (∀w1,Q w1->w1.cell? ⟨q,0,none⟩=some (.iface T x')/\w1.cell? ⟨q',0,none⟩=some (.iface T' y')/\w1.cell? ⟨q,1,none⟩=some (.iface S x2')/\w1.cell? ⟨q',1,none⟩=some (.iface S' y2')):=HC;have HHC2:Hid (∀r w1,Q2 r w1->w1.cell? ⟨q,0,none⟩=some (.iface T x')/\w1.cell? ⟨q',0,none⟩=some (.iface T' y')/\w1.cell? ⟨q,1,none⟩=some (.iface S x2')/\w1.cell? ⟨q',1,none⟩=some (.iface S' y2')):=HC2;clear H H2 HC HC2
 cases f
 case' false=>
  have a1:=λv=>zbv (T:=259) v (by decide)
  have a3:=zhj
 case' true=>
  have a1:=λv=>zbv (T:=243) v (by decide)
  have a2:=λv=>zdo (T:=243) v (by decide)
  have a3:=zca
 all_goals
  dsimp only[viQ,cond];go_enter Tryz.func179,Tryz.ntmps179
  go_wp2_with fail
  first|go_region_held3 (λwq=>wq.cell? ⟨q,0,none⟩=some (.iface T x')/\wq.cell? ⟨q',0,none⟩=some (.iface T' y')/\wq.cell? ⟨q,1,none⟩=some (.iface S x2')/\wq.cell? ⟨q',1,none⟩=some (.iface S' y2'))
   (first|(go_keep;done)|(go_split_ands;exact⟨q1,q2,q3,q4⟩))
   (first
    |(go_at_fn K;(have hb3:=hQ1);refine(HH2.out _ hQ1).mono ?_;rintro e w2 ⟨r,rfl,hQ2⟩;obtain⟨q1,q2,q3,q4⟩:=HHC2.out r w2 hQ2)
    |(go_at_fn K;refine HH.out.mono ?_;rintro e w1 ⟨rfl,hQ1⟩;obtain⟨q1,q2,q3,q4⟩:=HHC.out w1 hQ1))|fail
  go_wp2_with fail
  go_ret;exact⟨_,rfl,hQ2⟩
end
end Go.Proofs.YtceadeaodbadlaaGreatDoor
namespace Go.Proofs.YtceadeaodbadlaaGreatDoor
open Go.RowKit
section
variable {L:Mks} {vb q n:Nat} {x y:Value} {u w:World}
theorem Vs.partL (h:Vs vb L u w) (hq:u.heap[q]? =some (obL n x)):w.cell? ⟨q,0,none⟩=some x:=h.part hq (ndL _ _) (Nat.zero_le _) rfl
theorem Vs.partP0 (h:Vs vb L u w) (hq:u.heap[q]? =some (obP n x y)):w.cell? ⟨q,0,none⟩=some x:=h.part hq (ndP _ _ _) (by decide) rfl
theorem Vs.partP1 (h:Vs vb L u w) (hq:u.heap[q]? =some (obP n x y)):w.cell? ⟨q,1,none⟩=some y:=h.part hq (ndP _ _ _) (by decide) rfl
theorem Vs.partF0 (h:Vs vb L u w) (hq:u.heap[q]? =some (obF n x y)):w.cell? ⟨q,0,none⟩=some x:=h.part hq (ndF _ _ _) (by decide) rfl
theorem Vs.partF1 (h:Vs vb L u w) (hq:u.heap[q]? =some (obF n x y)):w.cell? ⟨q,1,none⟩=some y:=h.part hq (ndF _ _ _) (by decide) rfl
theorem Ends.below {w0:World} (h:Ends vb u w) (hb:Below w0.heap.size w0 u) (hv:w0.heap.size<=vb):Below w0.heap.size w0 w:=
 ⟨h.os.trans hb.os,h.tape.trans hb.tape,h.output.trans hb.output,by rw[h.size];exact hb.size,λk hk=>(h.blk k (by omega)).trans (hb.block k hk)⟩
end
theorem zhv {T:TypeId} (x hv:Value) (w:World) (h1:T≠256) (h2:T≠259) (h3:T≠243):
 CZ 237 #[.iface T x,hv] w λe w'=>e=.returned (.iface T x)/\w'=w:=by
 have a1:=λw=>zbv x h1 w
 have a2:=λw=>zdo x h2 w
 have a3:=λw=>zdl x h3 w
 go_enter Tryz.func237,Tryz.ntmps237;go_wp21;go_ret;exact⟨rfl,rfl⟩
theorem zns {v:Value} (lf:Leaf v) (vb:Nat) (hf:Value) (w:World)
 (R:CZ 237 #[v,hf] w λe w'=>e=.returned v/\w'=w):
 CZ 228 #[pZ vb,v,hf] w λe w'=>e=.returned v/\w'=w:=by
 have A:=at_leaf vb w lf;have K:=zra vb v w lf;obtain⟨T,x,rfl⟩:=lf.iface;go_enter Tryz.func228,Tryz.ntmps228;go_wp21;refine A.mono ?_;rintro e w' ⟨rfl,rfl⟩;go_wp21;refine R.mono ?_;rintro e w' ⟨rfl,rfl⟩;go_wp21;refine K.mono ?_;rintro e w' ⟨rfl,rfl⟩;go_wp21;go_ret;exact⟨rfl,rfl⟩
theorem zud {o:Nat} {t:Ty}:∀{vars:List Nat} {gs:List Ty},o∈vars->gs[zbb o vars]? =some t->look (vars.zip gs) o=some t:=by
 intro vars
 induction vars with
 |nil=>intro gs h;simp at h
 |cons p vars ih=>
  intro gs h hg
  cases gs with
  |nil=>simp at hg
  |cons g gs=>
   simp only[List.zip_cons_cons,look];by_cases hp:p=o
   ·rw[if_pos hp];rw[zbb,if_pos hp] at hg;simpa using hg
   ·rw[if_neg hp]
    rw[zbb,if_neg hp] at hg;exact ih (by rcases List.mem_cons.1 h with h|h;exact absurd h.symm hp;exact h) (by simpa using hg)
theorem zhx:zcn 233:=enters_of Tryz.func233 (by kernel_rfl) rfl
theorem zbh (a b:Value):(#[a]:Array Value).push b++#[]=#[a,b]:=by simp
abbrev pfn (pb:Nat):Value:=.func (.func 233) #[pZ pb] #[]
abbrev zvb:Obj:=.cells #[.int .u8 0,.int .u8 0] 263
theorem put_var (pb:Nat) (o:Nat) (w:World) (Q:Ending->World->Prop) (x':Value->Prop)
 (H:CZ 239 #[pZ pb,kv o] (w.alloc (.cells #[.int .u8 ((o/10:Nat):Int),.int .u8 ((o % 10:Nat):Int)] 263)) λe w'=>∃r,e=.returned r/\Q (.returned r) w'):
 CZ 233 #[pZ pb,viV o] w λe w'=>∃r,e=.returned r/\Q (.returned r) w':=by
 have HH:=hid H;have a1:=znw;unfold viV;unfold kv at *
 generalize ((o/10:Nat):Int)=x at *
 generalize ((o % 10:Nat):Int)=y at *
 go_enter Tryz.func233,Tryz.ntmps233;go_wp21;refine HH.mono ?_;rintro e w1 ⟨r,rfl,hq⟩;have HQ:=hid hq;go_wp21;go_ret;exact⟨_,rfl,HQ⟩
theorem put_other (pb:Nat) (T:TypeId) (z:Value) (hT:T≠263) (w:World) (Q:Ending->World->Prop)
 (H:CZ 228 #[pZ pb,.iface T z,pfn pb] (w.alloc zvb) λe w'=>∃r,e=.returned r/\Q (.returned r) w'):
 CZ 233 #[pZ pb,.iface T z] w λe w'=>∃r,e=.returned r/\Q (.returned r) w':=by
 have HH:=hid H;have a1:=λw=>zvl z hT w
 go_enter Tryz.func233,Tryz.ntmps233;go_wp21;refine HH.mono ?_;rintro e w1 ⟨r,rfl,hq⟩;have HQ:=hid hq;go_wp21;go_ret;exact⟨_,rfl,HQ⟩
abbrev putO (V Gs:Value):Obj:=.cells #[.pointer none,V,Gs] 341
theorem Vs.newP (V Gs:Value) (w:World):Vs w.heap.size [] (w.alloc (putO V Gs)) (w.alloc (putO V Gs)):=
 ⟨rfl,rfl,rfl,rfl,⟨_,[V,Gs],_,by simp[VisT],z1v w _,z1v w _⟩,λ_ _=>rfl,λm h=>(by cases h),List.nodup_nil⟩
section
variable {q k:Nat} {v:Value} (K:Nat) (fs cs:Array Value)
theorem zjl {T:TypeId} (x hv:Value) (w:World) (h1:T≠256) (h2:T≠259) (h3:T≠243):
 CZ 246 #[.iface T x,hv] w λe w'=>e=.returned (.tuple #[])/\w'=w:=by
 have a1:=λw=>zbv x h1 w
 have a2:=λw=>zdo x h2 w
 have a3:=λw=>zdl x h3 w
 go_enter Tryz.func246,Tryz.ntmps246;go_wp21
 first|go_end0|refine bodyPost_ret (results_none rfl _ _ _) rfl ?_
 exact⟨rfl,rfl⟩
theorem eachPart_L (eK:zcn K) (q:Nat) (T:TypeId) (z:Value) (w:World) (Q:World->Prop) (c0:w.cell? ⟨q,0,none⟩=some (.iface T z)) (H:CZ K (fs.push (.iface T z)++cs) w λe w1=>e=.returned (.tuple #[])/\Q w1):
 CZ 246 #[viL q,.func (.func K) fs cs] w λe w1=>e=.returned (.tuple #[])/\Q w1:=by
 have HH:=hid H;have a1:=zjx;go_enter Tryz.func246,Tryz.ntmps246;go_wp21;refine HH.mono ?_;rintro e w1 ⟨rfl,hq⟩;have HQ:=hid hq;go_wp21
 first|go_end0|refine bodyPost_ret (results_none rfl _ _ _) rfl ?_
 exact⟨rfl,HQ⟩
theorem eachPart_P (eK:zcn K) (q:Nat) (T S:TypeId) (z y:Value) (w:World) (Q Q2:World->Prop) (c0:w.cell? ⟨q,0,none⟩=some (.iface T z)) (H:CZ K (fs.push (.iface T z)++cs) w λe w1=>e=.returned (.tuple #[])/\Q w1) (H2:∀w1,Q w1->w1.cell? ⟨q,1,none⟩=some (.iface S y)/\CZ K (fs.push (.iface S y)++cs) w1 λe w2=>e=.returned (.tuple #[])/\Q2 w2):
 CZ 246 #[viP q,.func (.func K) fs cs] w λe w1=>e=.returned (.tuple #[])/\Q2 w1:=by
 have HH:=hid H;have HH2:=hid H2;have a1:=λv=>zbv (T:=259) v (by decide)
 have a3:=zhj;go_enter Tryz.func246,Tryz.ntmps246;go_wp21;refine HH.mono ?_;rintro e w1 ⟨rfl,hq⟩;obtain⟨c1,C2⟩:=HH2 w1 hq;have HC:=hid C2;go_wp21;refine HC.mono ?_;rintro e w2 ⟨rfl,hq⟩;have HQ:=hid hq;go_wp21
 first|go_end0|refine bodyPost_ret (results_none rfl _ _ _) rfl ?_
 exact⟨rfl,HQ⟩
theorem eachPart_F (eK:zcn K) (q:Nat) (T S:TypeId) (z y:Value) (w:World) (Q Q2:World->Prop) (c0:w.cell? ⟨q,0,none⟩=some (.iface T z)) (H:CZ K (fs.push (.iface T z)++cs) w λe w1=>e=.returned (.tuple #[])/\Q w1) (H2:∀w1,Q w1->w1.cell? ⟨q,1,none⟩=some (.iface S y)/\CZ K (fs.push (.iface S y)++cs) w1 λe w2=>e=.returned (.tuple #[])/\Q2 w2):
 CZ 246 #[viF q,.func (.func K) fs cs] w λe w1=>e=.returned (.tuple #[])/\Q2 w1:=by
 have HH:=hid H;have HH2:=hid H2;have a1:=λv=>zbv (T:=243) v (by decide)
 have a2:=λv=>zdo (T:=243) v (by decide)
 have a3:=zca;go_enter Tryz.func246,Tryz.ntmps246;go_wp21;refine HH.mono ?_;rintro e w1 ⟨rfl,hq⟩;obtain⟨c1,C2⟩:=HH2 w1 hq;have HC:=hid C2;go_wp21;refine HC.mono ?_;rintro e w2 ⟨rfl,hq⟩;have HQ:=hid hq;go_wp21
 first|go_end0|refine bodyPost_ret (results_none rfl _ _ _) rfl ?_
 exact⟨rfl,HQ⟩
theorem once_leaf (lf:Leaf v) (vb:Nat) (hf:Value) (w:World) (E:CZ 246 #[v,hf] w λe w'=>e=.returned (.tuple #[])/\w'=w):
 CZ 242 #[pZ vb,v,hf] w λe w'=>e=.returned (.tuple #[])/\w'=w:=by
 have A:=at_leaf vb w lf;have K:=zra vb v w lf;obtain⟨T,x,rfl⟩:=lf.iface;go_enter Tryz.func242,Tryz.ntmps242;go_wp21;refine A.mono ?_;rintro e w' ⟨rfl,rfl⟩;go_wp21;refine E.mono ?_;rintro e w' ⟨rfl,rfl⟩;go_wp21;refine K.mono ?_;rintro e w' ⟨rfl,rfl⟩;go_wp21
 first|go_end0|refine bodyPost_ret (results_none rfl _ _ _) rfl ?_
 exact⟨rfl,rfl⟩
theorem once_old (nv:NdV v q k) (vb:Nat) (hf:Value) (T1:TypeId) (x1:Value) (w:World) (hc:w.cell? ⟨q,k+1,none⟩=some (.iface T1 x1)):
 CZ 242 #[pZ vb,v,hf] w λe w'=>e=.returned (.tuple #[])/\w'=w:=by
 have A:=at_nd vb _ w nv hc;obtain⟨T,x,rfl⟩:=nv.iface;go_enter Tryz.func242,Tryz.ntmps242;go_wp21;refine A.mono ?_;rintro e w' ⟨rfl,rfl⟩;go_wp21
 first|go_end0|refine bodyPost_ret (results_none rfl _ _ _) rfl ?_
 exact⟨rfl,rfl⟩
theorem once_new (nv:NdV v q k) (vb:Nat) (hf:Value) (w:World) (Q Q2:World->Prop) (hc:w.cell? ⟨q,k+1,none⟩=some .nilIface) (E:CZ 246 #[v,hf] w λe w'=>e=.returned (.tuple #[])/\Q w') (KP:∀w1,Q w1->CZ 223 #[pZ vb,v,v] w1 λe w2=>e=.returned (.tuple #[])/\Q2 w2):
 CZ 242 #[pZ vb,v,hf] w λe w'=>e=.returned (.tuple #[])/\Q2 w':=by
 have A:=at_nd vb _ w nv hc;have HE:=hid E;have HK:=hid KP;obtain⟨T,x,rfl⟩:=nv.iface;go_enter Tryz.func242,Tryz.ntmps242;go_wp21;refine A.mono ?_;rintro e w' ⟨rfl,rfl⟩;go_wp21;refine HE.mono ?_;rintro e w1 ⟨rfl,hq⟩;have HC:=HK.out w1 hq;go_wp21;refine HC.mono ?_;rintro e w2 ⟨rfl,hq⟩;have HQ:=hid hq;go_wp21
 first|go_end0|refine bodyPost_ret (results_none rfl _ _ _) rfl ?_
 exact⟨rfl,HQ⟩
end
def KPost (tx:Nat->Addr) (b:Nat) (s:ByteArray) (r:TOut) (w:World) (e:Ending) (w':World):Prop:=
 Gb b w w'/\match r with
  | .error p=>∃q,e=.returned (.tuple #[.nilIface,atv q])/\AtErr (tx 1) q p w'
  | .ok (t,j)=>∃v,e=.returned (.tuple #[v,.nilIface])/\Tv w' t v/\Rd b s j w'
def zdc (tx:Nat->Addr) (b:Nat) (s:ByteArray) (n:Nat):Prop:=
 ∀(i:Nat) (w:World),Rd b s i w->Gl tx w->i<=s.size->3*(s.size-i)+3<=n->
  CZ 142 #[pZ b] w (KPost tx b s (pt s n 0 i .nil) w)
def zja (tx:Nat->Addr) (b:Nat) (s:ByteArray) (n:Nat):Prop:=
 ∀(i:Nat) (w:World),Rd b s i w->Gl tx w->i<=s.size->3*(s.size-i)+1<=n->
  CZ 208 #[pZ b] w (KPost tx b s (pt s n 2 i .nil) w)
section
variable {e:Ending} {c g:Nat} {u a v:Value} {w w1:World}
theorem KPost.hand {tx:Nat->Addr} {b:Nat} {s:ByteArray} {w2:World} {r:TOut} (hg:Gb b w w1) (h:KPost tx b s r w1 e w2):KPost tx b s r w e w2:=⟨hg.trans h.1,h.2⟩
theorem KPost.two {tx:Nat->Addr} {b:Nat} {s:ByteArray} {r:TOut} (h:KPost tx b s r w e w1):∃u v,e=.returned (.tuple #[u,v]):=by
 obtain⟨_,h⟩:=h
 cases r with
 |error p=>obtain⟨q,rfl,_⟩:=h;exact⟨_,_,rfl⟩
 |ok r=>obtain⟨t,j⟩:=r;obtain⟨v,h,_⟩:=h;exact⟨_,_,h⟩
theorem zpn {s:ByteArray} {i:Nat} (hlt:i<s.size):s[i].toNat=chr s i:=by simp[chr,hlt]
theorem Gb.setNew {b k:Nat} {x y:World} (h:Gb b x y) (hc:x.heap.size<=c):Gb b x (y.setCell ⟨c,k,none⟩ u):=
 ⟨h.os,h.tape,h.output,z1c h.size (by simp[World.setCell]),λi hi hn=>(Below.heap_setCell _ _ _ _ (by show ¬_;simp;omega)).trans (h.block i hi hn)⟩
theorem sizeVar (a b:Value):(Tryz.prog.info? 263).map (·.size)=some (#[a,b]).size:=by kernel_rfl
theorem zqr {tmps:Array Value} {b x:Value} {fn:Func} {p u:Tmp} (h:fn.results=#[.cell p 263,.tmp u]) {Q:Ending->World->Prop} (hp:tmps.getD p undef=(pZ g)) (hx:tmps.getD u undef=x) (hg:w.heap[g]? =some (.cells #[a,b] 263 (0,0))) (hq:Q (.returned (.tuple #[.agg #[a,b],x])) w):bodyPost Tryz.prog fn Q Exit.ret {tmps:=tmps,defers:=[]} w:=by
 refine bodyPost_ret ?_ rfl hq;have hl:=run_loadVar_row w g 263 263 #[a,b] (0,0) _ hg Tryz.underlying263 rfl (sizeVar a b);rw[results_cell_tmp h,hp,hx];simp[asAddr,hl,Result.andThen]
theorem Gb.un {b:Nat} {w':World} {o:Obj} (h:Gb b (w.alloc o) w'):Gb b w w':=((Gb.refl b w).alloc o).trans h
theorem zma {b:Value} {T:TypeId} (hg:w.heap[g]? =some (.cells #[a,b] T (0,0))):((w.setCell ⟨g,0,none⟩ u).setCell ⟨g,1,none⟩ v).heap[g]? =some (.cells #[u,v] T (0,0)):=by
 simp[World.setCell,z1i,hg]
theorem zcy (h:c≠g):((w.setCell ⟨g,0,none⟩ u).setCell ⟨g,1,none⟩ v).heap[c]? =w.heap[c]?:=by
 rw[Below.heap_setCell _ _ _ _ (by show ¬_;simp;omega),Below.heap_setCell _ _ _ _ (by show ¬_;simp;omega)]
theorem rv_no (tx:Nat->Addr) (b:Nat) (s:ByteArray) (i:Nat) (w:World) (h:Rd b s i w) (g:Gl tx w) (hi:i<=s.size) (hs:s.size<=100000) (hb:9<=b) (hc:zaq (chr s i)=false):
 CZ 212 #[pZ b] w λe w'=>∃q,e=.returned (.tuple #[.agg #[.int .u8 0,.int .u8 0],atv q])/\AtErr (tx 1) q i w'/\Gb b w w':=by
 have h1:=h.alloc (.cells #[.int .u8 0,.int .u8 0] 263);have g1:=g.gb ((Gb.refl b w).alloc (.cells #[.int .u8 0,.int .u8 0] 263)) hb;have hbw:=h.lt;go_enter Tryz.func212,Tryz.ntmps212;go_wp21;refine(zmd tx b s i _ h1 g1 hi hs hc hb).mono ?_;rintro e w1 ⟨q,rfl,ha,hg⟩;have hv:w1.heap[w.heap.size]? =some (.cells #[.int .u8 0,.int .u8 0] 263 (0,0)):=hg.old (z1v w _) (by omega);have c0:cZ w1 w.heap.size 0 (.int .u8 0):=cbl hv;have c1:cZ w1 w.heap.size 1 (.int .u8 0):=cbl hv;have f0:=z1g hv 0;have f1:=z1g hv 1
 have hq:q≠w.heap.size:=by
  rintro rfl;unfold AtErr at ha;rw[hv] at ha;simp at ha
 go_wp21;refine zqr rfl rfl rfl (zma hv) ?_;exact⟨q,rfl,(zcy hq).trans ha,(hg.un.setNew (z1d _)).setNew (z1d _)⟩
theorem rv_yes (b:Nat) (s:ByteArray) (i:Nat) (w:World) (h:Rd b s i w) (hi:i<=s.size) (hs:s.size<=100000) (hc:zaq (chr s i)=true):
 CZ 212 #[pZ b] w λe w'=>e=.returned (.tuple #[kv (vnum (chr s i) (chr s (i+1))),.nilIface])/\Rd b s (vEnd s i) w'/\Gb b w w':=by
 have hlt:i<s.size:=zag (by intro e;rw[e] at hc;exact absurd hc (by decide));have hl:=zmh s (i+1);have HC:=hid hc;clear hc;have h1:=h.alloc (.cells #[.int .u8 0,.int .u8 0] 263);have hbw:=h.lt;by_cases hd:49<=chr s (i+1)/\chr s (i+1)<=57
 ·have hlt2:i+1<s.size:=zag (by omega)
  have HV:Hid (kv (vnum (chr s i) (chr s (i+1)))=.agg #[.int .u8 (chr s i:Int),.int .u8 ((chr s (i+1):Int)-48)]):=by
   unfold Hid;rw[vnum,if_pos hd];unfold kv;have e1:(10*chr s i+(chr s (i+1)-48))/10=chr s i:=by omega
   have e2:(10*chr s i+(chr s (i+1)-48)) % 10=chr s (i+1)-48:=by omega
   have e3:((chr s (i+1)-48:Nat):Int)=(chr s (i+1):Int)-48:=by omega
   rw[e1,e2,e3]
  have HJ:Hid (vEnd s i=i+2):=by unfold Hid vEnd;rw[if_pos hd]
  have d1:decide ((chr s (i+1):Int)<49)=false:=by simp;omega
  have d2:decide ((57:Int)<(chr s (i+1):Int))=false:=by simp;omega
  go_enter Tryz.func212,Tryz.ntmps212;go_wp21;refine(zfs b s i _ h1 hs HC).mono ?_;rintro e w1 ⟨rfl,hr,hg⟩;go_wp21;refine(zgl b s (i+1) w1 hr (by omega) hs).mono ?_;rintro e w2 ⟨rfl,d,rfl⟩;go_wp21;refine(zqx b s (i+1) _ (hr.drewN d) hlt2 hs).mono ?_;rintro e w3 ⟨rfl,hr3,hg3⟩;have hg4:=(hg.drewN d).trans hg3;have hv:w3.heap[w.heap.size]? =some (.cells #[.int .u8 0,.int .u8 0] 263 (0,0)):=hg4.old (z1v w _) (by omega);have c0:cZ w3 w.heap.size 0 (.int .u8 0):=cbl hv;have c1:cZ w3 w.heap.size 1 (.int .u8 0):=cbl hv;have f0:w3.frozen? ⟨w.heap.size,0,none⟩=false:=z1g hv 0;have f1:w3.frozen? ⟨w.heap.size,1,none⟩=false:=z1g hv 1;go_wp21;refine zqr rfl rfl rfl (zma hv) ?_;refine⟨?_,?_,(hg4.un.setNew (z1d _)).setNew (z1d _)⟩
  ·rw[HV.out];rfl
  ·rw[HJ.out];exact(zcy (by omega)).trans hr3
 ·have HV:Hid (kv (vnum (chr s i) (chr s (i+1)))=.agg #[.int .u8 (chr s i:Int),.int .u8 0]):=by
   unfold Hid;rw[vnum,if_neg hd];unfold kv;have e1:(10*chr s i+0)/10=chr s i:=by omega
   have e2:(10*chr s i+0) % 10=0:=by omega
   rw[e1,e2];rfl
  have HJ:Hid (vEnd s i=i+1):=by unfold Hid vEnd;rw[if_neg hd]
  by_cases h1':chr s (i+1)<49
  ·have d1:decide ((chr s (i+1):Int)<49)=true:=by simp;omega
   go_enter Tryz.func212,Tryz.ntmps212;go_wp21;refine(zfs b s i _ h1 hs HC).mono ?_;rintro e w1 ⟨rfl,hr,hg⟩;go_wp21;refine(zgl b s (i+1) w1 hr (by omega) hs).mono ?_;rintro e w2 ⟨rfl,d,rfl⟩;have hr3:=hr.drewN d;have hg4:=hg.drewN d;have hv:(w1.drewN d).heap[w.heap.size]? =some (.cells #[.int .u8 0,.int .u8 0] 263 (0,0)):=hg4.old (z1v w _) (by omega);have c0:(w1.drewN d).cell? ⟨w.heap.size,0,none⟩=some (.int .u8 0):=cbl hv;have c1:(w1.drewN d).cell? ⟨w.heap.size,1,none⟩=some (.int .u8 0):=cbl hv;have f0:(w1.drewN d).frozen? ⟨w.heap.size,0,none⟩=false:=z1g hv 0;have f1:(w1.drewN d).frozen? ⟨w.heap.size,1,none⟩=false:=z1g hv 1;generalize w1.drewN d=w3 at *
   go_wp21;refine zqr rfl rfl rfl (zma hv) ?_;refine⟨?_,?_,(hg4.un.setNew (z1d _)).setNew (z1d _)⟩
   ·rw[HV.out];rfl
   ·rw[HJ.out];exact(zcy (by omega)).trans hr3
  ·have d1:decide ((chr s (i+1):Int)<49)=false:=by simp;omega
   have d2:decide ((57:Int)<(chr s (i+1):Int))=true:=by simp;omega
   go_enter Tryz.func212,Tryz.ntmps212;go_wp21;refine(zfs b s i _ h1 hs HC).mono ?_;rintro e w1 ⟨rfl,hr,hg⟩;go_wp21;refine(zgl b s (i+1) w1 hr (by omega) hs).mono ?_;rintro e w2 ⟨rfl,d,rfl⟩;have hr3:=hr.drewN d;have hg4:=hg.drewN d;have hv:(w1.drewN d).heap[w.heap.size]? =some (.cells #[.int .u8 0,.int .u8 0] 263 (0,0)):=hg4.old (z1v w _) (by omega);have c0:(w1.drewN d).cell? ⟨w.heap.size,0,none⟩=some (.int .u8 0):=cbl hv;have c1:(w1.drewN d).cell? ⟨w.heap.size,1,none⟩=some (.int .u8 0):=cbl hv;have f0:(w1.drewN d).frozen? ⟨w.heap.size,0,none⟩=false:=z1g hv 0;have f1:(w1.drewN d).frozen? ⟨w.heap.size,1,none⟩=false:=z1g hv 1;generalize w1.drewN d=w3 at *
   go_wp21;refine zqr rfl rfl rfl (zma hv) ?_;refine⟨?_,?_,(hg4.un.setNew (z1d _)).setNew (z1d _)⟩
   ·rw[HV.out];rfl
   ·rw[HJ.out];exact(zcy (by omega)).trans hr3
def vOut (s:ByteArray) (i:Nat):TOut:=.ok (tV (vnum (chr s i) (chr s (i+1))),vEnd s i)
theorem zut (tx:Nat->Addr) (b:Nat) (s:ByteArray) (i:Nat) (w:World) (h:Rd b s i w) (g:Gl tx w) (hi:i<=s.size) (hs:s.size<=100000) (hb:9<=b) (hc:zaq (chr s i)=false):
 CZ 231 #[pZ b] w (KPost tx b s (.error i) w):=by
 go_enter Tryz.func231,Tryz.ntmps231;go_wp21;refine(rv_no tx b s i w h g hi hs hb hc).mono ?_;rintro e w1 ⟨q,rfl,ha,hg⟩;have hq:AtErr (tx 1) q i (w1.alloc (.cells #[.int .u8 0,.int .u8 0] 263)):=(Below.heap_alloc _ _ _ (z1a.1 ha).1).trans ha;go_wp21;go_ret2;exact⟨hg.alloc _,q,rfl,hq⟩
theorem zrn (tx:Nat->Addr) (b:Nat) (s:ByteArray) (i:Nat) (w:World) (h:Rd b s i w) (g:Gl tx w) (hi:i<=s.size) (hs:s.size<=100000) (hb:9<=b) (hc:zaq (chr s i)=true):
 CZ 231 #[pZ b] w (KPost tx b s (vOut s i) w):=by
 have R:=rv_yes b s i w h hi hs hc;generalize hv:vnum (chr s i) (chr s (i+1))=o at R;have HO:Hid (vOut s i=.ok (tV o,vEnd s i)):=by unfold Hid vOut;rw[hv]
 go_enter Tryz.func231,Tryz.ntmps231;go_wp21;refine R.mono ?_;rintro e w1 ⟨rfl,hr,hg⟩;go_wp21;go_ret2;refine⟨hg.alloc _,?_⟩;rw[HO.out];exact⟨_,rfl,Tv.V _ o,hr.alloc _⟩
def zfd (s:ByteArray) (n i c:Nat):TOut:=
 match pt s n 0 i .nil with
 | .error p=> .error p
 | .ok (a,j)=>if chr s j=c then .ok (a,j+1) else .error j
theorem zmq (tx:Nat->Addr) (b:Nat) (s:ByteArray) (n i c:Nat) (w:World) (ih:zdc tx b s n) (h:Rd b s i w) (g:Gl tx w) (hi:i<=s.size) (hs:s.size<=100000) (hb:9<=b) (hn:3*(s.size-i)+3<=n) (hc0:c≠0):
 CZ 229 #[pZ b,uZ c] w (KPost tx b s (zfd s n i c) w):=by
 go_enter Tryz.func229,Tryz.ntmps229;go_wp21;refine(ih i w h g hi hn).mono ?_;rintro e w1 ⟨hg,hp⟩
 cases hq:pt s n 0 i .nil with
 |error p=>
  rw[hq] at hp;obtain⟨q,rfl,ha⟩:=hp;have HR:Hid (zfd s n i c=.error p):=by unfold Hid zfd;rw[hq]
  go_wp21;go_ret2;rw[HR.out];exact⟨hg,q,rfl,ha⟩
 |ok r=>
  obtain⟨t,j⟩:=r;rw[hq] at hp;obtain⟨v,rfl,hv,hr⟩:=hp;obtain⟨T,x,rfl⟩:=hv.iface;have pl:=zax s _ _ _ _ _ _ hq hi (by omega);have hj2:=pl.2.1;by_cases h41:chr s j=c
  ·have HR:Hid (zfd s n i c=.ok (t,j+1)):=by unfold Hid zfd;simp only[hq];rw[if_pos h41]
   have H41:=hid h41;go_wp21;refine(zjp b s j c w1 hr hs H41 hc0).mono ?_;rintro e w2 ⟨rfl,hr2,hg2⟩;go_wp21;go_ret2;rw[HR.out];exact⟨hg.trans hg2,_,rfl,Tv.kept (hg2.kept hr) _ _ hv,hr2⟩
  ·have HR:Hid (zfd s n i c=.error j):=by unfold Hid zfd;simp only[hq];rw[if_neg h41]
   have H41:=hid h41;go_wp21;refine(zng tx b s j c w1 hr (g.gb hg hb) hj2 hs H41 hb).mono ?_;rintro e w2 ⟨q,rfl,ha,hg2⟩;go_wp21;go_ret2;rw[HR.out];exact⟨hg.trans hg2,q,rfl,ha⟩
end
def zby (s:ByteArray) (n i:Nat):TOut:=pt s (n+1) 2 i .nil
section
variable {i c:Nat} {t:Ty} {w':World} (tx:Nat->Addr) (b:Nat) (s:ByteArray) (n:Nat) (w:World) (m j:Nat) (a:Ty)
theorem un_I {s:ByteArray} {n:Nat} (h:chr s i=73):zby s n i=.ok (tI,i+1):=by unfold zby;rw[pt,if_pos h]
theorem un_B {s:ByteArray} {n:Nat} (h:chr s i=66):zby s n i=.ok (tB,i+1):=by unfold zby;rw[pt,if_neg (by omega),if_pos h]
theorem un_L {s:ByteArray} {n i:Nat} (h:chr s i=91):zby s n i=match zfd s n (i+1) 93 with| .error p=> .error p| .ok (a,j)=> .ok (tL a,j):=by
 unfold zby zfd;rw[pt,if_neg (by omega),if_neg (by omega),if_pos h]
 cases pt s n 0 (i+1) .nil with
 |error p=>rfl
 |ok r=>obtain⟨a,j⟩:=r;by_cases h2:chr s j=93<;>simp[h2]
theorem un_C {s:ByteArray} {n:Nat} (h:chr s i=40):zby s n i=zfd s n (i+1) 41:=by
 unfold zby zfd;rw[pt,if_neg (by omega),if_neg (by omega),if_neg (by omega),if_pos h]
 try (cases pt s n 0 (i+1) .nil<;>rfl)
theorem un_V {s:ByteArray} {n:Nat} (h1:chr s i≠73) (h2:chr s i≠66) (h3:chr s i≠91) (h4:chr s i≠40) (h:zaq (chr s i)=true):zby s n i=vOut s i:=by
 unfold zby vOut vEnd;rw[pt,if_neg h1,if_neg h2,if_neg h3,if_neg h4,if_pos h]
theorem un_N {s:ByteArray} {n:Nat} (h1:chr s i≠73) (h2:chr s i≠66) (h3:chr s i≠91) (h4:chr s i≠40) (h:zaq (chr s i)=false):zby s n i=.error i:=by
 unfold zby;rw[pt,if_neg h1,if_neg h2,if_neg h3,if_neg h4,if_neg (by rw[h];decide)]
theorem cbOut_size {s:ByteArray} {n j:Nat} (h:zfd s n i c=.ok (t,j)) (hi:i<=s.size):Ok t/\sz t<=s.size:=by
 unfold zfd at h;split at h
 ·cases h
 ·rename_i h1
  have p:=zax s _ _ _ _ _ _ h1 hi (by omega);have q:=zhb s _ _ _ _ _ _ h1 hi (by omega);simp at q;split at h
  ·cases h;exact⟨p.2.2,by omega⟩
  ·cases h
theorem Gb.of_below {b:Nat} {w:World} (h:Below w.heap.size w w'):Gb b w w':=⟨h.os,h.tape,h.output,h.size,λk hk _=>h.block k hk⟩
theorem Rd.below {b:Nat} {s:ByteArray} {w:World} (h:Rd b s i w) (hb:Below w.heap.size w w'):Rd b s i w':=(hb.block b h.lt).trans h
theorem zjf {s:ByteArray} (h:chr s i≠c):∀hlt:i<s.size,s[i].toNat≠c:=by intro hlt;rw[zpn hlt];exact h
theorem unit_tI (tx:Nat->Addr) (b:Nat) (s:ByteArray) (n i:Nat) (w:World) (ih:zdc tx b s n) (h:Rd b s i w) (g:Gl tx w) (hi:i<=s.size) (hs:s.size<=100000) (hb:9<=b) (hn:3*(s.size-i)+1<=n+1) (H:Hid (chr s i=73)):
 CZ 208 #[pZ b] w (KPost tx b s (zby s n i) w):=by
 have HR:Hid (zby s n i=.ok (tI,i+1)):=un_I H.out;have hlt:i<s.size:=zag (by rw[H.out];decide);go_enter Tryz.func208,Tryz.ntmps208;go_wp21;refine(zep b s i 73 w h hlt hs ((zpn hlt).trans H)).mono ?_;rintro e w1 ⟨rfl,hr,hg0⟩;have hg:=hg0;go_wp21;go_ret2;refine⟨hg,?_⟩;rw[HR.out];exact⟨_,rfl,Tv.I _,hr⟩
theorem unit_tB (tx:Nat->Addr) (b:Nat) (s:ByteArray) (n i:Nat) (w:World) (ih:zdc tx b s n) (h:Rd b s i w) (g:Gl tx w) (hi:i<=s.size) (hs:s.size<=100000) (hb:9<=b) (hn:3*(s.size-i)+1<=n+1) (H:Hid (chr s i=66)) (N73:Hid (chr s i≠73)):
 CZ 208 #[pZ b] w (KPost tx b s (zby s n i) w):=by
 have HR:Hid (zby s n i=.ok (tB,i+1)):=un_B H.out;have hlt:i<s.size:=zag (by rw[H.out];decide);go_enter Tryz.func208,Tryz.ntmps208;go_wp21;refine(zcm b s i 73 w h hi hs (zjf N73)).mono ?_;rintro e wt0 ⟨rfl,d0,rfl⟩;go_wp21;refine(zep b s i 66 _ (h.drewN _) hlt hs ((zpn hlt).trans H)).mono ?_;rintro e w1 ⟨rfl,hr,hg0⟩;have hg:Gb b w w1:=((Gb.refl b w).drewN _).trans hg0;go_wp21;go_ret2;refine⟨hg,?_⟩;rw[HR.out];exact⟨_,rfl,Tv.B _,hr⟩
theorem unit_tL (tx:Nat->Addr) (b:Nat) (s:ByteArray) (n i:Nat) (w:World) (ih:zdc tx b s n) (h:Rd b s i w) (g:Gl tx w) (hi:i<=s.size) (hs:s.size<=100000) (hb:9<=b) (hn:3*(s.size-i)+1<=n+1) (H:Hid (chr s i=91)) (N73:Hid (chr s i≠73)) (N66:Hid (chr s i≠66)):
 CZ 208 #[pZ b] w (KPost tx b s (zby s n i) w):=by
 have HR:=hid (@un_L s n i H.out);have hlt:=zag (by rw[H.out];decide);go_enter Tryz.func208,Tryz.ntmps208;go_wp21;refine(zcm b s i 73 w h hi hs (zjf N73)).mono ?_;rintro e wt0 ⟨rfl,d0,rfl⟩;go_wp21;refine(zcm b s i 66 _ (h.drewN _) hi hs (zjf N66)).mono ?_;rintro e wt1 ⟨rfl,d1,rfl⟩;go_wp21;refine(zep b s i 91 _ (h.drewN _) hlt hs ((zpn hlt).trans H)).mono ?_;rintro e w1 ⟨rfl,hr,hg0⟩;have hg:Gb b w w1:=((Gb.refl b w).drewN _).trans hg0;go_wp21;refine(zmq tx b s n (i+1) 93 w1 ih hr (g.gb hg hb) hlt hs hb (by omega) (by decide)).mono ?_;rintro e w2 ⟨hg2,hp⟩
 cases hq:zfd s n (i+1) 93 with
 |error p=>
  rw[hq] at hp HR;obtain⟨q,rfl,ha⟩:=hp;go_wp21;go_ret2;refine⟨hg.trans hg2,?_⟩;rw[HR.out];exact⟨q,rfl,ha⟩
 |ok r=>
  obtain⟨t,j⟩:=r;rw[hq] at hp HR;obtain⟨v,rfl,hv,hr2⟩:=hp;have HZ:=cbOut_size hq hlt;have NL:=ztw t v w2 HZ.1 hv (by have:=HZ.2;omega);obtain⟨T,x,rfl⟩:=hv.iface;go_wp21;refine NL.mono ?_;rintro e w3 ⟨q,rfl,hv3,hb3⟩;have hg3:Gb b w2 w3:=⟨hb3.os,hb3.tape,hb3.output,hb3.size,λk hk _=>hb3.block k hk⟩
  have hr3:=(hb3.block b hr2.lt).trans hr2;go_wp21;go_ret2;refine⟨(hg.trans hg2).trans hg3,?_⟩;rw[HR.out];exact⟨_,rfl,hv3,hr3⟩
theorem unit_tC (tx:Nat->Addr) (b:Nat) (s:ByteArray) (n i:Nat) (w:World) (ih:zdc tx b s n) (h:Rd b s i w) (g:Gl tx w) (hi:i<=s.size) (hs:s.size<=100000) (hb:9<=b) (hn:3*(s.size-i)+1<=n+1) (H:Hid (chr s i=40)) (N73:Hid (chr s i≠73)) (N66:Hid (chr s i≠66)) (N91:Hid (chr s i≠91)):
 CZ 208 #[pZ b] w (KPost tx b s (zby s n i) w):=by
 have HR:Hid (zby s n i=zfd s n (i+1) 41):=un_C H.out;have hlt:i<s.size:=zag (by rw[H.out];decide);go_enter Tryz.func208,Tryz.ntmps208;go_wp21;refine(zcm b s i 73 w h hi hs (zjf N73)).mono ?_;rintro e wt0 ⟨rfl,d0,rfl⟩;go_wp21;refine(zcm b s i 66 _ (h.drewN _) hi hs (zjf N66)).mono ?_;rintro e wt1 ⟨rfl,d1,rfl⟩;go_wp21;refine(zcm b s i 91 _ (h.drewN _) hi hs (zjf N91)).mono ?_;rintro e wt2 ⟨rfl,d2,rfl⟩;go_wp21;refine(zep b s i 40 _ (h.drewN _) hlt hs ((zpn hlt).trans H)).mono ?_;rintro e w1 ⟨rfl,hr,hg0⟩;have hg:Gb b w w1:=((Gb.refl b w).drewN _).trans hg0;go_wp21;refine(zmq tx b s n (i+1) 41 w1 ih hr (g.gb hg hb) hlt hs hb (by omega) (by decide)).mono ?_;rintro e w2 hp;have HP:Hid (KPost tx b s (zby s n i) w e w2):=by rw[HR.out];exact hp.hand hg
 obtain⟨u,v,rfl⟩:=hp.two;clear HR hp;go_wp21;go_ret2;exact HP
theorem unit_tV (tx:Nat->Addr) (b:Nat) (s:ByteArray) (n i:Nat) (w:World) (ih:zdc tx b s n) (h:Rd b s i w) (g:Gl tx w) (hi:i<=s.size) (hs:s.size<=100000) (hb:9<=b) (hn:3*(s.size-i)+1<=n+1) (N73:Hid (chr s i≠73)) (N66:Hid (chr s i≠66)) (N91:Hid (chr s i≠91)) (N40:Hid (chr s i≠40)):
 CZ 208 #[pZ b] w (KPost tx b s (zby s n i) w):=by
 go_enter Tryz.func208,Tryz.ntmps208;go_wp21;refine(zcm b s i 73 w h hi hs (zjf N73)).mono ?_;rintro e wt0 ⟨rfl,d0,rfl⟩;go_wp21;refine(zcm b s i 66 _ (h.drewN _) hi hs (zjf N66)).mono ?_;rintro e wt1 ⟨rfl,d1,rfl⟩;go_wp21;refine(zcm b s i 91 _ (h.drewN _) hi hs (zjf N91)).mono ?_;rintro e wt2 ⟨rfl,d2,rfl⟩;go_wp21;refine(zcm b s i 40 _ (h.drewN _) hi hs (zjf N40)).mono ?_;rintro e wt3 ⟨rfl,d3,rfl⟩;go_wp21
 have hV:CZ 231 #[pZ b] (w.drewN (d0+d1+d2+d3)) (KPost tx b s (zby s n i) (w.drewN (d0+d1+d2+d3))):=by
  cases hc:zaq (chr s i)
  ·rw[un_N N73.out N66.out N91.out N40.out hc]
   exact zut tx b s i _ (h.drewN _) (g.gb ((Gb.refl b w).drewN _) hb) hi hs hb hc
  ·rw[un_V N73.out N66.out N91.out N40.out hc]
   exact zrn tx b s i _ (h.drewN _) (g.gb ((Gb.refl b w).drewN _) hb) hi hs hb hc
 refine hV.mono ?_;rintro e w2 hp;have HP:Hid (KPost tx b s (zby s n i) w e w2):=hp.hand ((Gb.refl b w).drewN _);obtain⟨u,v,rfl⟩:=hp.two;go_wp21;go_ret2;exact HP
theorem unit_any (ih:zdc tx b s n) (hs:s.size<=100000) (hb:9<=b):zja tx b s (n+1):=by
 intro i w h g hi hn;show Calls _ _ _ _ (KPost tx b s (zby s n i) w);by_cases h1:chr s i=73
 ·exact unit_tI tx b s n i w ih h g hi hs hb hn h1
 by_cases h2:chr s i=66
 ·exact unit_tB tx b s n i w ih h g hi hs hb hn h2 h1
 by_cases h3:chr s i=91
 ·exact unit_tL tx b s n i w ih h g hi hs hb hn h3 h1 h2
 by_cases h4:chr s i=40
 ·exact unit_tC tx b s n i w ih h g hi hs hb hn h4 h1 h2 h3
 exact unit_tV tx b s n i w ih h g hi hs hb hn h1 h2 h3 h4
def zfy (s:ByteArray) (n i:Nat):TOut:=
 match pt s n 2 i .nil with
 | .error p=> .error p
 | .ok (u,j)=>pt s n 1 j u
theorem zxp (h:chr s j=42):pt s (m+1) 1 j a=
 match pt s m 2 (j+1) .nil with
 | .error p=> .error p
 | .ok (b,q)=>pt s m 1 q (tP a b):=by
 rw[pt,if_pos h]
 try (cases pt s m 2 (j+1) .nil<;>rfl)
theorem star_no (h:chr s j≠42):pt s (m+1) 1 j a=.ok (a,j):=by
 rw[pt,if_neg h]
def plk (b:Nat) (w:World):Nat:=(intOf ((w.cell? ⟨b,1,none⟩).getD .nilIface)).toNat
theorem Rd.plk {b:Nat} {s:ByteArray} {w:World} (h:Rd b s i w):plk b w=i:=by
 unfold YtceadeaodbadlaaGreatDoor.plk;rw[h.place];simp[intOf]
theorem zwe (tx:Nat->Addr) (b:Nat) (s:ByteArray) (n i:Nat) (w:World) (IH:Hid (∀m,m<=n->zja tx b s m)) (h:Rd b s i w) (g:Gl tx w) (hi:i<=s.size) (hs:s.size<=100000) (hb:9<=b) (hn:3*(s.size-i)+1<=n):
 CZ 178 #[pZ b] w (KPost tx b s (zfy s n i) w):=by
 go_enter Tryz.func178,Tryz.ntmps178;go_wp21;refine(IH n (z1d n) i w h g hi hn).mono ?_;rintro e w1 ⟨hg,hp⟩
 cases hq:pt s n 2 i .nil with
 |error p=>
  rw[hq] at hp;obtain⟨q,rfl,ha⟩:=hp;have HR:Hid (zfy s n i=.error p):=by unfold Hid zfy;rw[hq]
  go_wp21;go_ret2;rw[HR.out];exact⟨hg,q,rfl,ha⟩
 |ok r=>
  obtain⟨t,j⟩:=r;rw[hq] at hp;obtain⟨v,rfl,hv,hr⟩:=hp;obtain⟨T,x,rfl⟩:=hv.iface;have pl:=zax s _ _ _ _ _ _ hq hi (by omega);have ps:=zhb s _ _ _ _ _ _ hq hi (by omega);simp at ps;have HR:Hid (pt s n 1 j t=zfy s n i):=by unfold Hid zfy;rw[hq]
  have p1:i<j:=by omega
  have p2:=pl.2.1;have HO:Hid (Ok t/\sz t<=j):=⟨pl.2.2,by omega⟩
  go_wp21
  go_loopw [4] (λv wr=>∃m j t T x,v=.iface T x/\Tv wr t (.iface T x)/\Hid (Ok t/\sz t<=j)/\m<=n/\Rd b s j wr/\j<=s.size/\3*(s.size-j)+2<=m/\Gb b w wr/\Hid (pt s m 1 j t=zfy s n i)) (λ_ wr=>s.size-plk b wr)
  case atStart=>exact⟨n,j,t,T,x,rfl,hv,HO,z1d n,hr,p2,by omega,hg,HR⟩
  case round=>
   obtain⟨m,j,t,T,x,rfl,hv,HO,hmn,hr,hj,hm,hg,HR⟩:=hrel;obtain⟨m,rfl⟩:∃m',m=m'+1:=⟨m-1,by omega⟩
   by_cases hst:chr s j=42
   ·have HQ:=HR.out
    rw[zxp s m j t hst] at HQ;have HS:=hid hst;have hlt:=zag (by rw[hst];decide);have HR:=hid HQ;go_wp21;refine(zep b s j 42 _ hr hlt hs ((zpn hlt).trans HS)).mono ?_;rintro e w2 ⟨rfl,hr2,hg2⟩;have hg3:=hg.trans hg2;go_wp21;refine(IH.out m (by omega) (j+1) _ hr2 (g.gb hg3 hb) hlt (by omega)).mono ?_;rintro e w3 ⟨hg4,hp⟩
    cases hq:pt s m 2 (j+1) .nil with
    |error p=>
     rw[hq] at hp HR;obtain⟨q,rfl,ha⟩:=hp;go_wp21;go_ret2;rw[<-HR.out];exact⟨hg3.trans hg4,q,rfl,ha⟩
    |ok r=>
     obtain⟨u,q⟩:=r;rw[hq] at hp HR;obtain⟨y,rfl,hy,hr3⟩:=hp;have pl:=zax s _ _ _ _ _ _ hq hlt (by omega);have ps:=zhb s _ _ _ _ _ _ hq hlt (by omega);simp at ps;have p1:j+1<q:=by omega
     have p2:=pl.2.1;have hv3:Tv w3 t (.iface T x):=Tv.kept ((hg2.kept hr).trans (hg4.kept hr2)) _ _ hv;have HO2:Hid (Ok (tP t u)/\sz (tP t u)<=q):=⟨okP HO.out.1 pl.2.2,by have:=HO.out.2;simp[sz];omega⟩
     have NP:=zuc t u _ y w3 HO.out.1 hv3 pl.2.2 hy (by have:=HO.out.2;omega);obtain⟨T',y',rfl⟩:=hy.iface;go_wp21;refine NP.mono ?_;rintro e w4 ⟨q',rfl,hv4,hb4⟩;have hr4:=hr3.below hb4;have hg5:=(hg3.trans hg4).trans (Gb.of_below hb4);go_wp21;go_roundw
     case rel=>exact⟨m,q,tP t u,_,_,rfl,hv4,HO2,by omega,hr4,p2,by omega,hg5,HR⟩
     case measure=>rw[hr4.plk,hr.plk];omega
   ·have HQ:Hid (zfy s n i=.ok (t,j)):=by rw[<-HR.out];exact star_no s m j t hst
    have HS:=hid hst;go_wp21;refine(zcm b s j 42 _ hr hj hs (zjf HS)).mono ?_;rintro e w2 ⟨rfl,d,rfl⟩;go_wp21;go_ret2;rw[HQ.out];exact⟨hg.drewN d,_,rfl,hv.drewN d,hr.drewN d⟩
theorem zpm (s:ByteArray) (n i:Nat):pt s (n+1) 0 i .nil=match zfy s n i with
 | .error p=> .error p
 | .ok (a,k)=>if chr s k=62 then (match pt s n 0 (k+1) .nil with| .error p=> .error p| .ok (b,l)=> .ok (tF a b,l)) else .ok (a,k):=by
 rw[pt];unfold zfy
 cases pt s n 2 i .nil with
 |error p=>rfl
 |ok r=>obtain⟨u,j⟩:=r;simp only;try (cases pt s n 1 j u<;>rfl)
theorem zry {s:ByteArray} {n:Nat} {k:Nat} (h:zfy s n i=.ok (t,k)) (hi:i<=s.size):i<k/\k<=s.size/\Ok t/\sz t<=s.size:=by
 unfold zfy at h;split at h
 ·cases h
 ·rename_i h1
  have p1:=zax s _ _ _ _ _ _ h1 hi (by omega);have p2:=zax s _ _ _ _ _ _ h (by omega) (λ_=>p1.2.2);have q1:=zhb s _ _ _ _ _ _ h1 hi (by omega);have q2:=zhb s _ _ _ _ _ _ h (by omega) (λ_=>p1.2.2);simp at q1 q2;exact⟨by omega,by omega,p2.2.2,by omega⟩
theorem type_step (ihT:zdc tx b s n) (IH:Hid (∀m,m<=n->zja tx b s m)) (hs:s.size<=100000) (hb:9<=b):zdc tx b s (n+1):=by
 intro i w h g hi hn;have HR:=hid (zpm s n i);go_enter Tryz.func142,Tryz.ntmps142;go_wp21;refine(zwe tx b s n i w IH h g hi hs hb (by omega)).mono ?_;rintro e w1 ⟨hg,hp⟩
 cases hq:zfy s n i with
 |error p=>
  rw[hq] at hp HR;obtain⟨q,rfl,ha⟩:=hp;clear hq;go_wp21;go_ret2;rw[HR.out];exact⟨hg,q,rfl,ha⟩
 |ok r=>
  obtain⟨t,k⟩:=r;rw[hq] at hp HR;obtain⟨v,rfl,hv,hr⟩:=hp;obtain⟨T,x,rfl⟩:=hv.iface;have pl0:=zry hq hi;have pl:i<k/\k<=s.size:=⟨pl0.1,pl0.2.1⟩
  have HO:=hid pl0.2.2;clear hq pl0;by_cases h62:chr s k=62
  ·have hlt:=zag (by rw[h62];decide)
   have H62:=hid h62;have HQ:=HR.out;simp only[h62,if_true] at HQ;clear HR h62;have HR:=hid HQ;clear HQ;go_wp21;refine(zep b s k 62 _ hr hlt hs ((zpn hlt).trans H62)).mono ?_;rintro e w2 ⟨rfl,hr2,hg2⟩;have hg3:=hg.trans hg2;go_wp21;refine(ihT (k+1) _ hr2 (g.gb hg3 hb) hlt (by omega)).mono ?_;rintro e w3 ⟨hg4,hp⟩
   cases hq:pt s n 0 (k+1) .nil with
   |error p=>
    rw[hq] at hp HR;obtain⟨q,rfl,ha⟩:=hp;clear hq;go_wp21;go_ret2;rw[HR.out];exact⟨hg3.trans hg4,q,rfl,ha⟩
   |ok r=>
    obtain⟨u,q⟩:=r;rw[hq] at hp HR;obtain⟨y,rfl,hy,hr3⟩:=hp;have p1:=zax s _ _ _ _ _ _ hq hlt (by omega);have ps:=zhb s _ _ _ _ _ _ hq hlt (by omega);simp at ps;have hv3:Tv w3 t (.iface T x):=Tv.kept ((hg2.kept hr).trans (hg4.kept hr2)) _ _ hv;have NP:=zmo t u _ y w3 HO.out.1 hv3 p1.2.2 hy (by have:=HO.out.2;omega);clear hq p1 ps;obtain⟨T',y',rfl⟩:=hy.iface;go_wp21;refine NP.mono ?_;rintro e w4 ⟨q',rfl,hv4,hb4⟩;have hr4:=hr3.below hb4;have hg5:=(hg3.trans hg4).trans (Gb.of_below hb4);go_wp21;go_ret2;rw[HR.out];exact⟨hg5,_,rfl,hv4,hr4⟩
  ·have HQ:=HR.out
   simp only[h62,if_false] at HQ;have H62:=hid h62;clear HR h62;have HR:=hid HQ;clear HQ;go_wp21;refine(zcm b s k 62 _ hr (by omega) hs (zjf H62.out)).mono ?_;rintro e w2 ⟨rfl,d,rfl⟩;go_wp21;go_ret2;rw[HR.out];exact⟨hg.drewN d,_,rfl,hv.drewN d,hr.drewN d⟩
theorem zre (hs:s.size<=100000) (hb:9<=b):∀n m,m<=n->zdc tx b s m/\zja tx b s m:=by
 have zero:zdc tx b s 0/\zja tx b s 0:=⟨λi w _ _ _ h0=>absurd h0 (by omega),λi w _ _ _ h0=>absurd h0 (by omega)⟩
 intro n
 induction n with
 |zero=>intro m hm;obtain rfl:m=0:=by omega
        exact zero
 |succ n ih=>
  intro m hm;rcases z1r m (n+1) with h|h
  ·exact ih m (by omega)
  ·obtain rfl:m=n+1:=by omega
   exact⟨type_step tx b s n (ih n (z1d n)).1 (λm hm=>(ih m hm).2) hs hb,unit_any tx b s n (ih n (z1d n)).1 hs hb⟩
def KReadPost (tx:Nat->Addr) (s:ByteArray) (w:World) (e:Ending) (w':World):Prop:=
 Below w.heap.size w w'/\match zbe s with
  | .error p=>∃q,e=.returned (.tuple #[.nilIface,atv q])/\AtErr (tx 1) q p w'
  | .ok t=>∃v,e=.returned (.tuple #[v,.nilIface])/\Tv w' t v
theorem Gb.belowK {w:World} {o:Obj} (h:Gb w.heap.size (w.alloc o) w'):Below w.heap.size w w':=
 ⟨h.os,h.tape,h.output,z1c (by simp) h.size,λk hk=>(h.block k (by simp;omega) (by simp;omega)).trans (Below.heap_alloc _ _ _ hk)⟩
theorem kread_any (g:Gl tx w) (hs:s.size<=100000):
 CZ 109 #[.string s] w (KReadPost tx s w):=by
 have hsz:=g.size;have hE:=(zre tx w.heap.size s hs hsz (3*s.size+3) _ (z1d _)).1;have gA:=g.below ((Below.refl w.heap.size w).alloc (z1d _) (.cells #[.string s,.int .i64 0] 207)) hsz;have hR:=Rd.new s w;go_enter Tryz.func109,Tryz.ntmps109;go_wp21;refine(new_any s w).mono ?_;rintro e w' ⟨rfl,rfl⟩;go_wp21;refine(hE 0 _ hR gA (Nat.zero_le _) (by omega)).mono ?_;rintro e w1 ⟨hg,hp⟩
 cases hq:pt s (3*s.size+3) 0 0 .nil with
 |error p=>
  rw[hq] at hp;obtain⟨q,rfl,ha⟩:=hp;have HR:Hid (zbe s=.error p):=by unfold Hid zbe;rw[hq]
  go_wp21;go_ret2;refine⟨hg.belowK,?_⟩;rw[HR.out];exact⟨q,rfl,ha⟩
 |ok r=>
  obtain⟨t,j⟩:=r;rw[hq] at hp;obtain⟨v,rfl,hv,hr⟩:=hp;obtain⟨T,x,rfl⟩:=hv.iface;have pl:=zax s _ _ _ _ _ _ hq (Nat.zero_le _) (by omega);by_cases hj:j<s.size
  ·have HR:Hid (zbe s=.error j):=by unfold Hid zbe;rw[hq];exact if_pos hj
   go_wp21;refine(end_no tx _ s j w1 hr (gA.gb hg hsz) hj hs hsz).mono ?_;rintro e w2 ⟨q,rfl,ha,hg2⟩;go_wp21;go_ret2;refine⟨(hg.trans hg2).belowK,?_⟩;rw[HR.out];exact⟨q,rfl,ha⟩
  ·have HR:Hid (zbe s=.ok t):=by unfold Hid zbe;rw[hq];exact if_neg hj
   obtain rfl:j=s.size:=by omega
   go_wp21;refine(end_yes _ s w1 hr hs).mono ?_;rintro e w2 ⟨rfl,d,rfl⟩;go_wp21;go_ret2;refine⟨(hg.drewN d).belowK,?_⟩;rw[HR.out];exact⟨_,rfl,hv.drewN d⟩
end
section
variable (c:Nat) (w:World)
theorem znv (s:ByteArray) (c:Int) (w:World):
 CZ 238 #[.string s,.int .u8 c] w λe w'=>e=.returned (.int .i64 (Lib.indexByte s.data.toList c.toNat.toUInt8))/\w'=w:=by
 have hx:=@run_callFunc_extern Tryz.prog 243 _ Extern.BytealgIndexByte.indexByte Tryz.func243 (by kernel_rfl) (by kernel_rfl) (by kernel_rfl) (by kernel_rfl);have hr:=@Lib.run_indexByteString Tryz.prog s c;generalize Lib.indexByte s.data.toList c.toNat.toUInt8=x at *
 go_enter Tryz.func238,Tryz.ntmps238;go_wp2;go_ret;exact⟨rfl,rfl⟩
theorem zgu (s:ByteArray) (c:Int) (w:World):
 CZ 232 #[.string s,.int .u8 c] w λe w'=>e=.returned (.int .i64 (Lib.indexByte s.data.toList c.toNat.toUInt8))/\w'=w:=by
 go_enter Tryz.func232,Tryz.ntmps232;go_wp21;refine(znv s c _).mono ?_;rintro e w' ⟨rfl,rfl⟩;go_wp21;go_ret;exact⟨rfl,rfl⟩
theorem con_all:(List.range 256).all (λc=>decide (0<=Lib.indexByte [78,67,80,76,82,74,69,65,89,68] (c:Int).toNat.toUInt8)==zdi c)=true:=by decide+kernel
theorem lit_all:(List.range 256).all (λc=>decide (0<=Lib.indexByte [48,49,50,51,52,53,54,55,56,57,84,70] (c:Int).toNat.toUInt8)==zcs c)=true:=by decide+kernel
theorem con_at (h:c<256):decide (0<=Lib.indexByte [78,67,80,76,82,74,69,65,89,68] (c:Int).toNat.toUInt8)=zdi c:=by
 have:=List.all_eq_true.1 con_all c (List.mem_range.2 h);simpa only[beq_iff_eq] using this
theorem lit_at (h:c<256):decide (0<=Lib.indexByte [48,49,50,51,52,53,54,55,56,57,84,70] (c:Int).toNat.toUInt8)=zcs c:=by
 have:=List.all_eq_true.1 lit_all c (List.mem_range.2 h);simpa only[beq_iff_eq] using this
theorem zfo (hc:c<256):
 CZ 216 #[uZ c] w λe w'=>e=.returned (.bool (zdi c))/\w'=w:=by
 rw[<-con_at c hc];generalize hx:Lib.indexByte [78,67,80,76,82,74,69,65,89,68] (c:Int).toNat.toUInt8=x;have HX:=hid hx;go_enter Tryz.func216,Tryz.ntmps216;go_wp21;refine(zgu _ _ _).mono ?_;rintro e w' ⟨rfl,rfl⟩;rw[show Lib.indexByte (ByteArray.mk #[78,67,80,76,82,74,69,65,89,68]).data.toList (c:Int).toNat.toUInt8=x from HX.out];go_wp21;go_ret;exact⟨rfl,rfl⟩
theorem zeo (hc:c<256):
 CZ 213 #[uZ c] w λe w'=>e=.returned (.bool (zcs c))/\w'=w:=by
 rw[<-lit_at c hc];generalize hx:Lib.indexByte [48,49,50,51,52,53,54,55,56,57,84,70] (c:Int).toNat.toUInt8=x;have HX:=hid hx;go_enter Tryz.func213,Tryz.ntmps213;go_wp21;refine(zgu _ _ _).mono ?_;rintro e w' ⟨rfl,rfl⟩;rw[show Lib.indexByte (ByteArray.mk #[48,49,50,51,52,53,54,55,56,57,84,70]).data.toList (c:Int).toNat.toUInt8=x from HX.out];go_wp21;go_ret;exact⟨rfl,rfl⟩
theorem zfq (hc:c<256):
 CZ 188 #[uZ c] w λe w'=>e=.returned (.bool (zal c))/\w'=w:=by
 unfold zal;by_cases h0:c=40
 ·subst h0
  go_enter Tryz.func188,Tryz.ntmps188;go_wp21;go_ret;exact⟨rfl,rfl⟩
 have h0':((c:Int)==40)=false:=by rw[beq_eq_false_iff_ne];omega
 have e0:(c==40)=false:=by simp[h0]
 rw[e0]
 cases h1:zaq c
 ·cases h2:zdi c
  ·simp only[Bool.false_or]
   go_enter Tryz.func188,Tryz.ntmps188;go_wp21;refine(zdv c _ hc).mono ?_;rintro e w' ⟨rfl,rfl⟩;rw[h1];go_wp21;refine(zfo c _ hc).mono ?_;rintro e w' ⟨rfl,rfl⟩;rw[h2];go_wp21;refine(zeo c _ hc).mono ?_;rintro e w' ⟨rfl,rfl⟩;go_wp21;go_ret;exact⟨rfl,rfl⟩
  ·go_enter Tryz.func188,Tryz.ntmps188
   go_wp21;refine(zdv c _ hc).mono ?_;rintro e w' ⟨rfl,rfl⟩;rw[h1];go_wp21;refine(zfo c _ hc).mono ?_;rintro e w' ⟨rfl,rfl⟩;rw[h2];go_wp21;go_ret;exact⟨rfl,rfl⟩
 ·go_enter Tryz.func188,Tryz.ntmps188
  go_wp21;refine(zdv c _ hc).mono ?_;rintro e w' ⟨rfl,rfl⟩;rw[h1];go_wp21;go_ret;exact⟨rfl,rfl⟩
end
def Tvs (w:World):List Ty->List Value->Prop
 |[],[]=>True
 |t::ts,v::vs=>Tv w t v/\Tvs w ts vs
 |_,_=>False
section
variable {xs:List Value} {B k n b:Nat} {e T:TypeId} {v:Value} {w w':World} (ty:Bool)
theorem Tvs.keptN (hk:KeptN w w'):∀(ts:List Ty) (vs:List Value),Tvs w ts vs->Tvs w' ts vs:=by
 intro ts
 induction ts with
 |nil=>intro vs h;cases vs with|nil=>exact h|cons=>exact h.elim
 |cons t ts ih=>intro vs h;cases vs with|nil=>exact h.elim|cons v vs=>exact⟨Tv.keptN hk _ _ h.1,ih _ h.2⟩
theorem Tvs.kept (hk:Kept w w') (ts:List Ty) (vs:List Value) (h:Tvs w ts vs):Tvs w' ts vs:=Tvs.keptN hk.n ts vs h
theorem zgo (h:w.ownsRow B e k v n xs):∀g,v.ownBlock=some g->B<=g/\∃c,w.heap[g]? =some (.cells c e (0,0)):=by
 intro g hg;rcases h.2 with ⟨rfl,_⟩|⟨g',cap,cur,rfl,hB,hgg,_⟩
 ·simp[Value.ownBlock] at hg
 ·simp[Value.ownBlock] at hg
  subst hg;exact⟨hB,_,hgg⟩
theorem zif {q:Nat} {c:Array Value} (hrow:w.ownsRow B e k v n xs) (h:w.grownBy w' v.ownBlock) {fz:Nat×Nat} (hT:T≠e) (hq:w.heap[q]? =some (.cells c T fz)):w'.heap[q]? =some (.cells c T fz):=by
 rw[h.block q (z1a.1 hq).1 (λhe=>?_)]
 ·exact hq
 ·obtain⟨_,c',hc⟩:=zgo hrow q he.symm
  rw[hq] at hc;simp at hc;exact hT hc.2.1
theorem zkk (hk:Kept w w') (hT:T≠207) (h:w.ownsRow B T k v n xs):w'.ownsRow B T k v n xs:=by
 obtain⟨h1,h2|⟨g,cap,cur,e,hB,hg,h3⟩⟩:=h
 ·exact⟨h1,.inl h2⟩
 ·exact⟨h1,.inr ⟨g,cap,cur,e,hB,hk _ _ _ _ hT hg,h3⟩⟩
def Gv (w:World) (G:Value) (ts:List Ty):Prop:=∃vs,w.ownsRow 0 94 1 G ts.length vs/\Tvs w ts vs
def Fv (w:World) (F:Value) (g:List Ty):Prop:=(g=[]/\F=.nilIface)\/∃u,g=[u]/\Tv w u F
def zfe (l:List (Nat×Nat)):List Value:=l.flatMap λx=>[.int .u8 ((x.1/10:Nat):Int),.int .u8 ((x.1 % 10:Nat):Int),iZ x.2]
def Ov (w:World) (V:Value) (l:List (Nat×Nat)):Prop:=w.ownsRow 0 286 3 V l.length (zfe l)
theorem Gv.kept {G:Value} {ts:List Ty} (hk:Kept w w') (h:Gv w G ts):Gv w' G ts:=by
 obtain⟨vs,h1,h2⟩:=h;exact⟨vs,zkk hk (by decide) h1,Tvs.kept hk _ _ h2⟩
theorem Fv.kept {F:Value} {g:List Ty} (hk:Kept w w') (h:Fv w F g):Fv w' F g:=by
 rcases h with h|⟨u,e,h⟩
 ·exact .inl h
 ·exact .inr ⟨u,e,Tv.kept hk _ _ h⟩
theorem Ov.kept {V:Value} {l:List (Nat×Nat)} (hk:Kept w w') (h:Ov w V l):Ov w' V l:=zkk hk (by decide) h
theorem Gv.nil (w:World):Gv w (.slice none 0 0) []:=⟨[],z1w _ _ _ _,trivial⟩
theorem Ov.nil (w:World):Ov w (.slice none 0 0) []:=z1w _ _ _ _
def Ev (w:World):Ex->Value->Prop
 | .nil,_=>False
 | .node t _ x a b,v=>
  (t=0/\∃G,v=.iface 173 (.agg #[uZ x.c,G,iZ x.p])/\Gv w G x.g)\/
  (t=1/\∃G,v=.iface 175 (.agg #[uZ x.c,G,iZ x.p])/\Gv w G x.g)\/
  (t=2/\v=.iface 177 (.agg #[uZ x.c]))\/
  (t=3/\∃F T y,v=.iface 179 (.agg #[uZ x.c,F,.iface T y,iZ x.p])/\Fv w F x.g/\Ev w a (.iface T y))\/
  (t=4/\∃V T y T' z,v=.iface 183 (.agg #[uZ x.c,V,.iface T y,.iface T' z])/\Ov w V x.v/\Ev w a (.iface T y)/\Ev w b (.iface T' z))\/
  (t=5/\∃T y T' z,v=.iface 186 (.agg #[.iface T y,.iface T' z,iZ x.p])/\Ev w a (.iface T y)/\Ev w b (.iface T' z))
theorem Ev.kept (hk:Kept w w'):∀(e:Ex) (v:Value),Ev w e v->Ev w' e v:=by
 intro e
 induction e with
 |nil=>intro v h;exact h.elim
 |node t o x a b iha ihb=>
  intro v h;rcases h with ⟨e,G,hv,hG⟩|⟨e,G,hv,hG⟩|h|⟨e,F,T,y,hv,hF,ha⟩|⟨e,V,T,y,T',z,hv,hV,ha,hb⟩|⟨e,T,y,T',z,hv,ha,hb⟩
  ·exact .inl ⟨e,G,hv,hG.kept hk⟩
  ·exact .inr (.inl ⟨e,G,hv,hG.kept hk⟩)
  ·exact .inr (.inr (.inl h))
  ·exact .inr (.inr (.inr (.inl ⟨e,F,T,y,hv,hF.kept hk,iha _ ha⟩)))
  ·exact .inr (.inr (.inr (.inr (.inl ⟨e,V,T,y,T',z,hv,hV.kept hk,iha _ ha,ihb _ hb⟩))))
  ·exact .inr (.inr (.inr (.inr (.inr ⟨e,T,y,T',z,hv,iha _ ha,ihb _ hb⟩))))
theorem Ev.iface {e:Ex} (h:Ev w e v):∃T x,v=.iface T x:=by
 cases e with
 |nil=>exact h.elim
 |node t o x a b=>
  rcases h with ⟨e,G,rfl,hG⟩|⟨e,G,rfl,hG⟩|⟨e,rfl⟩|⟨e,F,T,y,rfl,hF,ha⟩|⟨e,V,T,y,T',z,rfl,hV,ha,hb⟩|⟨e,T,y,T',z,rfl,ha,hb⟩<;>exact⟨_,_,rfl⟩
abbrev rdv (b:Nat) (ty:Bool):Value:=.agg #[pZ b,.bool ty]
abbrev rdo (b:Nat) (ty:Bool):Obj:=.cells #[pZ b,.bool ty] 140
def Rbx (n b:Nat) (ty:Bool) (w:World):Prop:=w.heap[n]? =some (.cells #[pZ b,.bool ty] 140 (0,0))/\n≠b
theorem Rbx.c0 {ty:Bool} (h:Rbx n b ty w):w.cell? ⟨n,0,none⟩=some (pZ b):=by rw[z1f h.1];rfl
theorem Rbx.c1 {ty:Bool} (h:Rbx n b ty w):w.cell? ⟨n,1,none⟩=some (.bool ty):=by rw[z1f h.1];rfl
theorem Rbx.gb {ty:Bool} (h:Rbx n b ty w) (hg:Gb b w w'):Rbx n b ty w':=⟨hg.old h.1 h.2,h.2⟩
theorem Rbx.new {s:ByteArray} {i:Nat} (h:Rd b s i w):Rbx w.heap.size b ty (w.alloc (rdo b ty)):=⟨z1v w _,by have:=h.lt;omega⟩
theorem zjg (b:Nat) (s:ByteArray) (i:Nat) (w:World) (h:Rd b s i w):
 CZ 148 #[pZ b] w λe w'=>e=.returned (iZ i)/\w'=w:=by
 have h1:=h.place;go_enter Tryz.func148,Tryz.ntmps148;go_wp2;go_ret;exact⟨rfl,rfl⟩
def VFPost (tx:Nat->Addr) (b:Nat) (s:ByteArray) (r:Except Nat (List Ty×Nat)) (w:World) (e:Ending) (w':World):Prop:=
 Gb b w w'/\match r with
  | .error p=>∃q,e=.returned (.tuple #[.nilIface,atv q])/\AtErr (tx 1) q p w'
  | .ok (g,j)=>∃F,e=.returned (.tuple #[F,.nilIface])/\Fv w' F g/\Rd b s j w'
theorem from_any (tx:Nat->Addr) (b:Nat) (s:ByteArray) (ty:Bool) (hty:Hid (ty=false)) (i:Nat) (w:World) (h:Rd b s i w) (g:Gl tx w) (hi:i<=s.size) (hs:s.size<=100000) (hb:9<=b):
 CZ 184 #[rdv b ty] w (VFPost tx b s (zku s ty i) w):=by
 have bx:=Rbx.new ty h;have h1:=h.alloc (rdo b ty);have G0:Gb b w (w.alloc (rdo b ty)):=(Gb.refl b w).alloc _;have g1:=g.gb G0 hb;have c0:=bx.c0;have c1:=bx.c1;obtain rfl:=hty.out;have HR:Hid (zku s false i=.ok ([],i)):=rfl;go_enter Tryz.func184,Tryz.ntmps184;go_wp21;go_ret2;refine⟨G0,?_⟩;rw[HR.out];exact⟨_,rfl,.inl ⟨rfl,rfl⟩,h1⟩
def LPost (tx:Nat->Addr) (b:Nat) (s:ByteArray) {α:Type} (W:World->Value->List α->Prop) (r:Except Nat (List α×Nat)) (w:World) (e:Ending) (w':World):Prop:=
 Gb b w w'/\match r with
  | .error p=>∃V q,e=.returned (.tuple #[V,atv q])/\AtErr (tx 1) q p w'
  | .ok (g,j)=>∃V,e=.returned (.tuple #[V,.nilIface])/\W w' V g/\Rd b s j w'
theorem infoTy:(Tryz.prog.info? 94).map (λi=>(i.zero,i.size,i.bytes))=some (some .nilIface,1,16):=by kernel_rfl
theorem infoOwn:(Tryz.prog.info? 286).map (λi=>(i.zero,i.size,i.bytes))=some (some (.agg #[.int .u8 0,.int .u8 0,.int .i64 0]),3,16):=by kernel_rfl
theorem given_any (tx:Nat->Addr) (b:Nat) (s:ByteArray) (ty:Bool) (hty:Hid (ty=false)) (i:Nat) (w:World) (h:Rd b s i w) (g:Gl tx w) (hi:i<=s.size) (hs:s.size<=100000) (hb:9<=b):
 CZ 215 #[rdv b ty] w (LPost tx b s Gv (zfg s ty i) w):=by
 have bx:=Rbx.new ty h;have h1:=h.alloc (rdo b ty);have G0:Gb b w (w.alloc (rdo b ty)):=(Gb.refl b w).alloc _;have g1:=g.gb G0 hb;have c0:=bx.c0;have c1:=bx.c1;obtain rfl:=hty.out;have HR:Hid (zfg s false i=.ok ([],i)):=rfl;go_enter Tryz.func215,Tryz.ntmps215;go_wp21;go_ret2;refine⟨G0,?_⟩;rw[HR.out];exact⟨_,rfl,Gv.nil _,h1⟩
theorem zpz (l:List (Nat×Nat)) (o p:Nat):zfe (l++[(o,p)])=zfe l++[.int .u8 ((o/10:Nat):Int),.int .u8 ((o % 10:Nat):Int),iZ p]:=by simp[zfe]
theorem own_any (tx:Nat->Addr) (b:Nat) (s:ByteArray) (ty:Bool) (hty:Hid (ty=false)) (i:Nat) (w:World) (h:Rd b s i w) (g:Gl tx w) (hi:i<=s.size) (hs:s.size<=100000) (hb:9<=b):
 CZ 186 #[rdv b ty] w (LPost tx b s Ov (ownO s ty i) w):=by
 have bx:=Rbx.new ty h;have h1:=h.alloc (rdo b ty);have G0:Gb b w (w.alloc (rdo b ty)):=(Gb.refl b w).alloc _;have g1:=g.gb G0 hb;have c0:=bx.c0;have c1:=bx.c1;obtain rfl:=hty.out;have HR:Hid (ownO s false i=.ok ([],i)):=rfl;go_enter Tryz.func186,Tryz.ntmps186;go_wp21;go_ret2;refine⟨G0,?_⟩;rw[HR.out];exact⟨_,rfl,Ov.nil _,h1⟩
end
end Go.Proofs.YtceadeaodbadlaaGreatDoor
namespace Go.Proofs.YtceadeaodbadlaaGreatDoor
open Go.RowKit
variable {lo : Nat}
abbrev schO (ov V fx G tk:Value):Obj:=.cells #[ov,V,fx,G,tk] 299 (0,0)
structure SOk (s:Sch):Prop where
 ok:Ok s.1
 sz:sz s.1<=100000
 own:∀o∈s.2,970<=o/\o<1230
 len:s.2.length<=100000
theorem zki (v V:Value) (w:World) (T:TypeId) (x:Value) (sa:Option Addr) (n cap:Nat) (hv:v=.iface T x) (hV:V=.slice sa n cap):
 CZ 158 #[v,V] w λe w'=>e=.returned (pZ w.heap.size)/\w'=w.alloc (schO v V (.pointer none) (.slice none 0 0) .nilIface):=by
 subst hv hV;go_enter Tryz.func158,Tryz.ntmps158;go_wp21;go_ret;exact⟨rfl,rfl⟩
theorem list_upto {α:Type} {a b:List α} (hl:a.length=b.length) (h:∀(j:Nat) (x y:α),j<a.length->a[j]? =some x->b[j]? =some y->x=y):a=b:=by
 refine List.ext_getElem hl λi h1 h2=>h i _ _ h1 (z1h h1) (z1h h2)
theorem VarRow.one {w:World} {V:Value} {l l':List Nat} (h:VarRow w V l) (h':VarRow w V l'):l=l':=by
 obtain⟨sa,cap,rfl,h⟩:=h;obtain⟨sa',cap',e,h'⟩:=h';simp only[Value.slice.injEq] at e;obtain⟨rfl,hl,rfl⟩:=e;refine list_upto hl λj x y hj hx hy=>?_
 rcases h with rfl|⟨g,c,rfl,hg,hc⟩
 ·simp at hj
 ·rcases h' with rfl|⟨g',c',e,hg',hc'⟩
  ·simp at hy
  ·simp only[Option.some.injEq,Addr.mk.injEq,and_true] at e
   subst e;rw[hg] at hg';simp only[Option.some.injEq,Obj.cells.injEq,and_true] at hg';subst hg';obtain⟨h1,h2⟩:=hc j x hx;obtain⟨h3,h4⟩:=hc' j y hy;rw[h1] at h3;rw[h2] at h4;simp only[Option.some.injEq,Value.int.injEq,true_and] at h3 h4;omega
theorem fieldS (ov V fx G tk v v':Value) (w:World) (b:Nat) (h:w.heap[b]? =some (schO ov V fx G tk)):((w.setCell ⟨b,3,none⟩ v).setCell ⟨b,4,none⟩ v').heap[b]? =some (schO ov V fx v v'):=by
 have h1:=heap_setCell_same w b 3 _ _ v h;have h2:=heap_setCell_same _ b 4 _ _ v' h1;exact h2
theorem below_row {B g:Nat} {w0 w:World} (hb:Below B w0 w) (hBg:B<=g) (cs:Array Value):Below B w0 (w.setRow g cs):=⟨hb.os,hb.tape,hb.output,by simpa using hb.size,λq hq=>by rw[setRow_other _ _ _ _ (by omega)];exact hb.block q hq⟩
theorem zza:(Tryz.prog.info? 145).map (·.size)=some 26:=by kernel_rfl
abbrev zAr:Obj:=.cells #[.pointer none,.pointer none,.pointer none,.pointer none,.pointer none,.pointer none,.pointer none,.pointer none,.pointer none,.pointer none,.pointer none,.pointer none,.pointer none,.pointer none,.pointer none,.pointer none,.pointer none,.pointer none,.pointer none,.pointer none,.pointer none,.pointer none,.pointer none,.pointer none,.pointer none,.pointer none] 145
theorem zvq (c:Nat) (w:World) (hc:c<256):
 CZ 130 #[.int .u8 (c:Int)] w λe w'=>∃v,e=.returned v/\Tv w (if c=84\/c=70 then tB else tI) v/\w'=w:=by
 by_cases h1:c=84
 ·subst h1
  have H:Hid (Tv w tB viB):=.inr (.inl ⟨rfl,rfl⟩);go_enter Tryz.func130,Tryz.ntmps130
  go_wp2_with fail
  go_ret;exact⟨_,rfl,by simpa using H.out,rfl⟩
 ·by_cases h2:c=70
  ·subst h2
   have H:Hid (Tv w tB viB):=.inr (.inl ⟨rfl,rfl⟩);go_enter Tryz.func130,Tryz.ntmps130
   go_wp2_with fail
   go_ret;exact⟨_,rfl,by simpa using H.out,rfl⟩
  ·rw[if_neg (by omega)]
   have H:Hid (Tv w tI viI):=.inl ⟨rfl,rfl⟩;have e1:((c:Int)==84)=false:=by simp;omega
   have e2:((c:Int)==70)=false:=by simp;omega
   generalize (c:Int)=x at *
   go_enter Tryz.func130,Tryz.ntmps130
   go_wp2_with fail
   go_ret;exact⟨_,rfl,H.out,rfl⟩
def zbo (l:List Nat):List Value:=l.flatMap λo=>[.int .u8 ((o/10:Nat):Int),.int .u8 ((o % 10:Nat):Int)]
theorem zin (l:List Nat) (o:Nat):zbo (l++[o])=zbo l++[.int .u8 ((o/10:Nat):Int),.int .u8 ((o % 10:Nat):Int)]:=by simp[zbo]
theorem zwc:∀(l:List Nat) (j o:Nat),l[j]? =some o->(zbo l)[j*2]? =some (.int .u8 ((o/10:Nat):Int))/\(zbo l)[j*2+1]? =some (.int .u8 ((o % 10:Nat):Int)):=by
 intro l
 induction l with
 |nil=>intro j o h;simp at h
 |cons p l ih=>
  intro j o h
  cases j with
  |zero=>simp at h;subst h;exact⟨rfl,rfl⟩
  |succ j=>
   simp at h;obtain⟨h1,h2⟩:=ih j o h;have e1:(j+1)*2=j*2+1+1:=by omega
   rw[e1];exact⟨h1,h2⟩
theorem cur_at {cur:Array Value} {m i:Nat} {xs:List Value} {v:Value} (h:cur.toList.take m=xs) (hx:xs[i]? =some v):cur[i]? =some v:=by
 rw[<-h,List.getElem?_take] at hx;split at hx
 ·simpa using hx
 ·cases hx
theorem VarRow.owns {w:World} {B:Nat} {V:Value} {l:List Nat} (h:w.ownsRow B 263 2 V l.length (zbo l)):VarRow w V l:=by
 obtain⟨h1,⟨rfl,h2⟩|⟨g,cap,cur,rfl,hB,hg,h3⟩⟩:=h
 ·have:l=[]:=by
   cases l with
   |nil=>rfl
   |cons a l=>simp at h2
  subst this;exact⟨none,0,rfl,.inl rfl⟩
 ·refine⟨_,cap,rfl,.inr ⟨g,_,rfl,hg,λj o hj=>?_⟩⟩
  obtain⟨a1,a2⟩:=zwc l j o hj;exact⟨cur_at h3.2.2.2 a1,cur_at h3.2.2.2 a2⟩
theorem infoVar:(Tryz.prog.info? 263).map (λi=>(i.zero,i.size,i.bytes))=some (some (.agg #[.int .u8 0,.int .u8 0]),2,2):=by kernel_rfl
abbrev rowO (c:Int) (a b:ByteArray):Obj:=.cells #[.int .u8 c,.string a,.string b] 294
abbrev tabC (ltr:Nat->Nat) (a b:Nat->ByteArray):Array Value:=#[.int .u8 (ltr 0:Int),.string (a 0),.string (b 0),.int .u8 (ltr 1:Int),.string (a 1),.string (b 1),.int .u8 (ltr 2:Int),.string (a 2),.string (b 2),.int .u8 (ltr 3:Int),.string (a 3),.string (b 3),.int .u8 (ltr 4:Int),.string (a 4),.string (b 4),.int .u8 (ltr 5:Int),.string (a 5),.string (b 5),.int .u8 (ltr 6:Int),.string (a 6),.string (b 6),.int .u8 (ltr 7:Int),.string (a 7),.string (b 7),.int .u8 (ltr 8:Int),.string (a 8),.string (b 8),.int .u8 (ltr 9:Int),.string (a 9),.string (b 9)]
theorem sizeTab (ltr:Nat->Nat) (a b:Nat->ByteArray):(Tryz.prog.info? 295).map (·.size)=some (tabC ltr a b).size:=by
 have:(Tryz.prog.info? 295).map (·.size)=some 30:=by kernel_rfl
 exact this
theorem ix0 (ltr:Nat->Nat) (a b:Nat->ByteArray) (w:World):(Instr.index 295 (.agg (tabC ltr a b)) (.int .i64 0)).run Tryz.prog w=.ok (.agg #[.int .u8 (ltr 0:Int),.string (a 0),.string (b 0)]) w:=by kernel_rfl
theorem ix1 (ltr:Nat->Nat) (a b:Nat->ByteArray) (w:World):(Instr.index 295 (.agg (tabC ltr a b)) (.int .i64 1)).run Tryz.prog w=.ok (.agg #[.int .u8 (ltr 1:Int),.string (a 1),.string (b 1)]) w:=by kernel_rfl
theorem ix2 (ltr:Nat->Nat) (a b:Nat->ByteArray) (w:World):(Instr.index 295 (.agg (tabC ltr a b)) (.int .i64 2)).run Tryz.prog w=.ok (.agg #[.int .u8 (ltr 2:Int),.string (a 2),.string (b 2)]) w:=by kernel_rfl
theorem ix3 (ltr:Nat->Nat) (a b:Nat->ByteArray) (w:World):(Instr.index 295 (.agg (tabC ltr a b)) (.int .i64 3)).run Tryz.prog w=.ok (.agg #[.int .u8 (ltr 3:Int),.string (a 3),.string (b 3)]) w:=by kernel_rfl
theorem ix4 (ltr:Nat->Nat) (a b:Nat->ByteArray) (w:World):(Instr.index 295 (.agg (tabC ltr a b)) (.int .i64 4)).run Tryz.prog w=.ok (.agg #[.int .u8 (ltr 4:Int),.string (a 4),.string (b 4)]) w:=by kernel_rfl
theorem ix5 (ltr:Nat->Nat) (a b:Nat->ByteArray) (w:World):(Instr.index 295 (.agg (tabC ltr a b)) (.int .i64 5)).run Tryz.prog w=.ok (.agg #[.int .u8 (ltr 5:Int),.string (a 5),.string (b 5)]) w:=by kernel_rfl
theorem ix6 (ltr:Nat->Nat) (a b:Nat->ByteArray) (w:World):(Instr.index 295 (.agg (tabC ltr a b)) (.int .i64 6)).run Tryz.prog w=.ok (.agg #[.int .u8 (ltr 6:Int),.string (a 6),.string (b 6)]) w:=by kernel_rfl
theorem ix7 (ltr:Nat->Nat) (a b:Nat->ByteArray) (w:World):(Instr.index 295 (.agg (tabC ltr a b)) (.int .i64 7)).run Tryz.prog w=.ok (.agg #[.int .u8 (ltr 7:Int),.string (a 7),.string (b 7)]) w:=by kernel_rfl
theorem ix8 (ltr:Nat->Nat) (a b:Nat->ByteArray) (w:World):(Instr.index 295 (.agg (tabC ltr a b)) (.int .i64 8)).run Tryz.prog w=.ok (.agg #[.int .u8 (ltr 8:Int),.string (a 8),.string (b 8)]) w:=by kernel_rfl
theorem ix9 (ltr:Nat->Nat) (a b:Nat->ByteArray) (w:World):(Instr.index 295 (.agg (tabC ltr a b)) (.int .i64 9)).run Tryz.prog w=.ok (.agg #[.int .u8 (ltr 9:Int),.string (a 9),.string (b 9)]) w:=by kernel_rfl
theorem zpt (ltr:Nat->Nat) (a b:Nat->ByteArray) (r:Nat) (hr:r<10) (hne:∀j,j<r->ltr j≠ltr r) (w:World) (Q:Ending->World->Prop) (t:TypeId) (fr:Nat×Nat) (hw:w.heap[9]? =some (.cells (tabC ltr a b) t fr))
 (RS:Hid (∀w',Below w.heap.size w w'->CZ 192 #[.agg #[.int .u8 (ltr r:Int),.string (a r),.string (b r)]] w' λe w''=>∃q,e=.returned (.tuple #[pZ q,.nilIface])/\Hid (Q (.returned (.tuple #[pZ q,.nilIface])) w''))):
 CZ 156 #[.int .u8 (ltr r:Int)] w Q:=by
 have HNE:Hid (∀j,j<r->((ltr j:Int)==(ltr r:Int))=false):=λj hj=>by have:=hne j hj;simp;omega
 have H0:=Below.refl w.heap.size w;clear hne;go_enter Tryz.func156,Tryz.ntmps156
 go_wp2_with (first|refine wpList_load_row rfl _ _ rfl 9 rfl _ (tabC ltr a b) fr _ hw Tryz.underlying295 rfl (sizeTab ltr a b) ?_|fail)
 go_loopw [7] (λi wr=>∃k:Nat,i=.int .i64 (k:Int)/\k<=r/\Below w.heap.size w wr) (λi _=>10-(intOf i).toNat)
 case atStart=>exact⟨0,rfl,Nat.zero_le _,H0⟩
 case round=>
  obtain⟨k,rfl,hkr,hB⟩:=hrel;clear hw H0;have hk:k<10:=by omega
  match k,hk with
  |0,_=>
   by_cases hq:0=r
   ·subst hq
    have S:=RS.out _ (hB.alloc hB.size (rowO (ltr 0:Int) (a 0) (b 0)));have IX:=ix0 ltr a b;clear HNE RS;generalize (ltr 0:Int)=x at *
    go_wp2_with fail
    refine S.mono ?_;rintro e w2 ⟨q,rfl,HR⟩
    go_wp2_with fail
    exact HR.out
   ·have hlt:0<r:=by omega
    have IX:=ix0 ltr a b;have HX:=HNE.out 0 hlt;have B2:=hB.alloc hB.size (rowO (ltr 0:Int) (a 0) (b 0));clear RS HNE hq;generalize (ltr 0:Int)=x at *
    generalize (ltr r:Int)=y at *
    go_wp2_with fail
    go_roundw
    case rel=>exact⟨0+1,rfl,hlt,B2⟩
    case measure=>decide
  |1,_=>
   by_cases hq:1=r
   ·subst hq
    have S:=RS.out _ (hB.alloc hB.size (rowO (ltr 1:Int) (a 1) (b 1)));have IX:=ix1 ltr a b;clear HNE RS;generalize (ltr 1:Int)=x at *
    go_wp2_with fail
    refine S.mono ?_;rintro e w2 ⟨q,rfl,HR⟩
    go_wp2_with fail
    exact HR.out
   ·have hlt:1<r:=by omega
    have IX:=ix1 ltr a b;have HX:=HNE.out 1 hlt;have B2:=hB.alloc hB.size (rowO (ltr 1:Int) (a 1) (b 1));clear RS HNE hq;generalize (ltr 1:Int)=x at *
    generalize (ltr r:Int)=y at *
    go_wp2_with fail
    go_roundw
    case rel=>exact⟨1+1,rfl,hlt,B2⟩
    case measure=>decide
  |2,_=>
   by_cases hq:2=r
   ·subst hq
    have S:=RS.out _ (hB.alloc hB.size (rowO (ltr 2:Int) (a 2) (b 2)));have IX:=ix2 ltr a b;clear HNE RS;generalize (ltr 2:Int)=x at *
    go_wp2_with fail
    refine S.mono ?_;rintro e w2 ⟨q,rfl,HR⟩
    go_wp2_with fail
    exact HR.out
   ·have hlt:2<r:=by omega
    have IX:=ix2 ltr a b;have HX:=HNE.out 2 hlt;have B2:=hB.alloc hB.size (rowO (ltr 2:Int) (a 2) (b 2));clear RS HNE hq;generalize (ltr 2:Int)=x at *
    generalize (ltr r:Int)=y at *
    go_wp2_with fail
    go_roundw
    case rel=>exact⟨2+1,rfl,hlt,B2⟩
    case measure=>decide
  |3,_=>
   by_cases hq:3=r
   ·subst hq
    have S:=RS.out _ (hB.alloc hB.size (rowO (ltr 3:Int) (a 3) (b 3)));have IX:=ix3 ltr a b;clear HNE RS;generalize (ltr 3:Int)=x at *
    go_wp2_with fail
    refine S.mono ?_;rintro e w2 ⟨q,rfl,HR⟩
    go_wp2_with fail
    exact HR.out
   ·have hlt:3<r:=by omega
    have IX:=ix3 ltr a b;have HX:=HNE.out 3 hlt;have B2:=hB.alloc hB.size (rowO (ltr 3:Int) (a 3) (b 3));clear RS HNE hq;generalize (ltr 3:Int)=x at *
    generalize (ltr r:Int)=y at *
    go_wp2_with fail
    go_roundw
    case rel=>exact⟨3+1,rfl,hlt,B2⟩
    case measure=>decide
  |4,_=>
   by_cases hq:4=r
   ·subst hq
    have S:=RS.out _ (hB.alloc hB.size (rowO (ltr 4:Int) (a 4) (b 4)));have IX:=ix4 ltr a b;clear HNE RS;generalize (ltr 4:Int)=x at *
    go_wp2_with fail
    refine S.mono ?_;rintro e w2 ⟨q,rfl,HR⟩
    go_wp2_with fail
    exact HR.out
   ·have hlt:4<r:=by omega
    have IX:=ix4 ltr a b;have HX:=HNE.out 4 hlt;have B2:=hB.alloc hB.size (rowO (ltr 4:Int) (a 4) (b 4));clear RS HNE hq;generalize (ltr 4:Int)=x at *
    generalize (ltr r:Int)=y at *
    go_wp2_with fail
    go_roundw
    case rel=>exact⟨4+1,rfl,hlt,B2⟩
    case measure=>decide
  |5,_=>
   by_cases hq:5=r
   ·subst hq
    have S:=RS.out _ (hB.alloc hB.size (rowO (ltr 5:Int) (a 5) (b 5)));have IX:=ix5 ltr a b;clear HNE RS;generalize (ltr 5:Int)=x at *
    go_wp2_with fail
    refine S.mono ?_;rintro e w2 ⟨q,rfl,HR⟩
    go_wp2_with fail
    exact HR.out
   ·have hlt:5<r:=by omega
    have IX:=ix5 ltr a b;have HX:=HNE.out 5 hlt;have B2:=hB.alloc hB.size (rowO (ltr 5:Int) (a 5) (b 5));clear RS HNE hq;generalize (ltr 5:Int)=x at *
    generalize (ltr r:Int)=y at *
    go_wp2_with fail
    go_roundw
    case rel=>exact⟨5+1,rfl,hlt,B2⟩
    case measure=>decide
  |6,_=>
   by_cases hq:6=r
   ·subst hq
    have S:=RS.out _ (hB.alloc hB.size (rowO (ltr 6:Int) (a 6) (b 6)));have IX:=ix6 ltr a b;clear HNE RS;generalize (ltr 6:Int)=x at *
    go_wp2_with fail
    refine S.mono ?_;rintro e w2 ⟨q,rfl,HR⟩
    go_wp2_with fail
    exact HR.out
   ·have hlt:6<r:=by omega
    have IX:=ix6 ltr a b;have HX:=HNE.out 6 hlt;have B2:=hB.alloc hB.size (rowO (ltr 6:Int) (a 6) (b 6));clear RS HNE hq;generalize (ltr 6:Int)=x at *
    generalize (ltr r:Int)=y at *
    go_wp2_with fail
    go_roundw
    case rel=>exact⟨6+1,rfl,hlt,B2⟩
    case measure=>decide
  |7,_=>
   by_cases hq:7=r
   ·subst hq
    have S:=RS.out _ (hB.alloc hB.size (rowO (ltr 7:Int) (a 7) (b 7)));have IX:=ix7 ltr a b;clear HNE RS;generalize (ltr 7:Int)=x at *
    go_wp2_with fail
    refine S.mono ?_;rintro e w2 ⟨q,rfl,HR⟩
    go_wp2_with fail
    exact HR.out
   ·have hlt:7<r:=by omega
    have IX:=ix7 ltr a b;have HX:=HNE.out 7 hlt;have B2:=hB.alloc hB.size (rowO (ltr 7:Int) (a 7) (b 7));clear RS HNE hq;generalize (ltr 7:Int)=x at *
    generalize (ltr r:Int)=y at *
    go_wp2_with fail
    go_roundw
    case rel=>exact⟨7+1,rfl,hlt,B2⟩
    case measure=>decide
  |8,_=>
   by_cases hq:8=r
   ·subst hq
    have S:=RS.out _ (hB.alloc hB.size (rowO (ltr 8:Int) (a 8) (b 8)));have IX:=ix8 ltr a b;clear HNE RS;generalize (ltr 8:Int)=x at *
    go_wp2_with fail
    refine S.mono ?_;rintro e w2 ⟨q,rfl,HR⟩
    go_wp2_with fail
    exact HR.out
   ·have hlt:8<r:=by omega
    have IX:=ix8 ltr a b;have HX:=HNE.out 8 hlt;have B2:=hB.alloc hB.size (rowO (ltr 8:Int) (a 8) (b 8));clear RS HNE hq;generalize (ltr 8:Int)=x at *
    generalize (ltr r:Int)=y at *
    go_wp2_with fail
    go_roundw
    case rel=>exact⟨8+1,rfl,hlt,B2⟩
    case measure=>decide
  |9,_=>
   by_cases hq:9=r
   ·subst hq
    have S:=RS.out _ (hB.alloc hB.size (rowO (ltr 9:Int) (a 9) (b 9)));have IX:=ix9 ltr a b;clear HNE RS;generalize (ltr 9:Int)=x at *
    go_wp2_with fail
    refine S.mono ?_;rintro e w2 ⟨q,rfl,HR⟩
    go_wp2_with fail
    exact HR.out
   ·exact absurd hq (by omega)
  |n+10,h=>exact absurd h (by omega)
def ltrK (k:Nat):Nat:=[78,67,80,76,82,74,69,65,89,68].getD k 0
def texK (k:Nat):ByteArray:=[⟨#[91,97,93]⟩,⟨#[97,62,91,97,93,62,91,97,93]⟩,⟨#[97,62,98,62,97,42,98]⟩,⟨#[97,42,98,62,97]⟩,⟨#[97,42,98,62,98]⟩,⟨#[66,62,97,62,97,62,97]⟩,⟨#[73,62,73,62,66]⟩,⟨#[73,62,73,62,73]⟩,⟨#[40,97,62,97,41,62,97]⟩,⟨#[40,97,62,98,62,98,41,62,98,62,91,97,93,62,98]⟩].getD k ⟨#[]⟩
def ownB (k:Nat):ByteArray:=[⟨#[97]⟩,⟨#[97]⟩,⟨#[97,98]⟩,⟨#[97,98]⟩,⟨#[97,98]⟩,⟨#[97]⟩,⟨#[]⟩,⟨#[]⟩,⟨#[97]⟩,⟨#[97,98]⟩].getD k ⟨#[]⟩
def Tb (w:World):Prop:=∃t fr,w.heap[9]? =some (.cells (tabC ltrK texK ownB) t fr)
theorem ltr_all:∀r:Fin 10,∀j:Fin 10,j.val<r.val->ltrK j.val≠ltrK r.val:=by decide
theorem row_reads:∀r,r<10->zbe (texK r)=.ok (conS (ltrK r)).1:=by
 intro r hr
 match r,hr with
 |0,_=>exact(show zbe (texK 0)=.ok (conS (ltrK 0)).1 by kernel_rfl)
 |1,_=>exact(show zbe (texK 1)=.ok (conS (ltrK 1)).1 by kernel_rfl)
 |2,_=>exact(show zbe (texK 2)=.ok (conS (ltrK 2)).1 by kernel_rfl)
 |3,_=>exact(show zbe (texK 3)=.ok (conS (ltrK 3)).1 by kernel_rfl)
 |4,_=>exact(show zbe (texK 4)=.ok (conS (ltrK 4)).1 by kernel_rfl)
 |5,_=>exact(show zbe (texK 5)=.ok (conS (ltrK 5)).1 by kernel_rfl)
 |6,_=>exact(show zbe (texK 6)=.ok (conS (ltrK 6)).1 by kernel_rfl)
 |7,_=>exact(show zbe (texK 7)=.ok (conS (ltrK 7)).1 by kernel_rfl)
 |8,_=>exact(show zbe (texK 8)=.ok (conS (ltrK 8)).1 by kernel_rfl)
 |9,_=>exact(show zbe (texK 9)=.ok (conS (ltrK 9)).1 by kernel_rfl)
 |n+10,h=>exact absurd h (by omega)
theorem row_own:∀r,r<10->((ownB r).data.toList.map λx=>10*x.toNat)=(conS (ltrK r)).2/\(texK r).size<=100000/\(ownB r).size<=1000:=by
 intro r hr
 match r,hr with
 |0,_=>exact⟨by kernel_rfl,by decide,by decide⟩
 |1,_=>exact⟨by kernel_rfl,by decide,by decide⟩
 |2,_=>exact⟨by kernel_rfl,by decide,by decide⟩
 |3,_=>exact⟨by kernel_rfl,by decide,by decide⟩
 |4,_=>exact⟨by kernel_rfl,by decide,by decide⟩
 |5,_=>exact⟨by kernel_rfl,by decide,by decide⟩
 |6,_=>exact⟨by kernel_rfl,by decide,by decide⟩
 |7,_=>exact⟨by kernel_rfl,by decide,by decide⟩
 |8,_=>exact⟨by kernel_rfl,by decide,by decide⟩
 |9,_=>exact⟨by kernel_rfl,by decide,by decide⟩
 |n+10,h=>exact absurd h (by omega)
theorem con_row (c:Nat) (hc:zdi c=true):∃r,r<10/\ltrK r=c:=by
 simp only[zdi,Bool.or_eq_true,beq_iff_eq] at hc;rcases hc with (((((((((rfl|rfl)|rfl)|rfl)|rfl)|rfl)|rfl)|rfl)|rfl)|rfl)
 ·exact⟨0,by decide,rfl⟩
 ·exact⟨1,by decide,rfl⟩
 ·exact⟨2,by decide,rfl⟩
 ·exact⟨3,by decide,rfl⟩
 ·exact⟨4,by decide,rfl⟩
 ·exact⟨5,by decide,rfl⟩
 ·exact⟨6,by decide,rfl⟩
 ·exact⟨7,by decide,rfl⟩
 ·exact⟨8,by decide,rfl⟩
 ·exact⟨9,by decide,rfl⟩
theorem conS_sok (c:Nat):SOk (conS c):=by
 refine⟨(zfm c).1,z1c (zfm c).2 (by decide),?_,?_⟩
 ·intro o ho
  unfold conS at ho
  repeat' split at ho
  all_goals simp at ho
  all_goals omega
 ·unfold conS
  repeat' split
  all_goals simp
end Go.Proofs.YtceadeaodbadlaaGreatDoor
namespace Go.Proofs.YtceadeaodbadlaaGreatDoor
open Go.ChangeShapes Go.WideShapes Go.ChangeAt Go.RowKit
def sents2:List (String×DataW Unit):=zcq++[("shape/scheme.constants",Rows.laid_shape_scheme_constants)]
def laid9:List (String×DataW Unit):=("errors.errorType",Rows.laid_errors_errorType)::sents2
section
variable {W:World}
theorem door_met2 (os:Os) (args:Array Value):laidMetH Tryz.prog laid9 ((World.doorLaid Tryz.prog 183 os).forCall (λ_ _=>0) ⟨#[],args,[]⟩).memory:=
 laidMetH_of_parts3 (fuel:=8) (laidMet_of_run' 8 (by kernel_rfl) (by kernel_rfl)) (by kernel_rfl) (by kernel_rfl)
theorem g9:Tryz.prog.globalNamed "shape/scheme.constants" =some 9:=by kernel_rfl
theorem g9T:(Tryz.prog.globals[9]?).map (·.type)=some 295:=by kernel_rfl
theorem cellsT9:Tryz.prog.cellsOf 295=30:=by kernel_rfl
theorem zyc:Tryz.prog.cellsOf 294=3:=by kernel_rfl
theorem cellsU8:Tryz.prog.cellsOf 5=1:=by kernel_rfl
theorem zxl {s:ByteArray} {l:List UInt8} (h:s.data.toList=l):s=⟨l.toArray⟩:=by
 cases s;simp at h;subst h;simp
theorem len3 {α:Type} {l:List α} (h:l.length=3):∃a b c,l=[a,b,c]:=by
 match l,h with
 |[a,b,c],_=>exact⟨a,b,c,rfl⟩
theorem row_of {fuel:Nat} {cs:List Value} {c:Int} {a b:List UInt8} {p:List MemPlace} (h:DataW.trod (λ_=>()) Tryz.prog W 0 (λ_=>true) false fuel 294 cs=some (.agg [.lit (.int .u8 c),.lit (.string a),.lit (.string b)],p)):
 cs=[.int .u8 c,.string ⟨a.toArray⟩,.string ⟨b.toArray⟩]:=by
 obtain⟨xs,n,rfl,hx,hl,hn,hf⟩:=DataW.trod_struct Tryz.underlying294 h;rw[zyc] at hl;obtain⟨v0,v1,v2,rfl⟩:=len3 hl
 ·have f0:DataW.trod (λ_=>()) Tryz.prog W 0 (λ_=>true) false n 5 (([v0,v1,v2].drop 0).take (Tryz.prog.cellsOf 5))=xs[0]?:=hf 0 _ rfl
  have f1:DataW.trod (λ_=>()) Tryz.prog W 0 (λ_=>true) false n 9 (([v0,v1,v2].drop 1).take (Tryz.prog.cellsOf 9))=xs[1]?:=hf 1 _ rfl;have f2:DataW.trod (λ_=>()) Tryz.prog W 0 (λ_=>true) false n 9 (([v0,v1,v2].drop 2).take (Tryz.prog.cellsOf 9))=xs[2]?:=hf 2 _ rfl;rw[cellsU8] at f0;rw[cellsS] at f1 f2;simp only[Prod.mk.injEq,DataW.agg.injEq] at hx;have hx1:=hx.1;have e:=hx1.symm;have h3:xs.length=3:=by have:=congrArg List.length e;simpa using this
  obtain⟨x0,x1,x2,rfl⟩:=len3 h3
  ·simp only[List.map_cons,List.map_nil,List.cons.injEq,and_true] at e
   obtain⟨e0,e1,e2⟩:=e;simp only[List.drop_zero,List.drop_succ_cons,List.take_succ_cons,List.take_zero,List.getElem?_cons_zero,List.getElem?_cons_succ] at f0 f1 f2;obtain⟨n0,c0,d0,_⟩:=DataW.trod_int Tryz.underlying5 f0;obtain⟨s1,c1,d1,_⟩:=DataW.trod_string Tryz.underlying9 f1;obtain⟨s2,c2,d2,_⟩:=DataW.trod_string Tryz.underlying9 f2;rw[d0] at e0;rw[d1] at e1;rw[d2] at e2;simp at e0 e1 e2 c0 c1 c2;subst c0 c1 c2 e0;rw[zxl e1,zxl e2]
theorem chop {α:Type} (l:List α) (n:Nat):l.drop n=(l.drop n).take 3++l.drop (n+3):=by
 rw[<-List.drop_drop,List.take_append_drop]
theorem table_of (h:laidMet Tryz.prog [("shape/scheme.constants",Rows.laid_shape_scheme_constants)] W):Tb W:=by
 obtain⟨ps,⟨g,t,cs,fuel,p,q,hg,ht,hv,hd,_,_⟩,_,_⟩:=h;obtain rfl:=z1q (g9.symm.trans hg);obtain rfl:=z1q (g9T.symm.trans ht);obtain⟨xs,n,rfl,hx,hl,hn,hf⟩:=DataW.trod_array Tryz.underlying295 hd;rw[cellsT9] at hl;have hx1:=(DataW.agg.inj (congrArg Prod.fst hx)).symm
 have row:∀(i:Nat) (c:Int) (a b:List UInt8),i<10->(xs.map (·.1))[i]? =some (.agg [.lit (.int .u8 c),.lit (.string a),.lit (.string b)])->(cs.toList.drop (i*3)).take 3=[.int .u8 c,.string ⟨a.toArray⟩,.string ⟨b.toArray⟩]:=by
  intro i c a b hi hd;have f:=hf i hi;rw[zyc] at f;rw[z1n] at hd;obtain⟨x,hx,e⟩:=Option.map_eq_some_iff.1 hd;obtain⟨x1,x2⟩:=x;rw[hx] at f;simp only at e;subst e;exact row_of f
 rw[hx1] at row;have r0:=row 0 _ _ _ (by decide) rfl;have r1:=row 1 _ _ _ (by decide) rfl;have r2:=row 2 _ _ _ (by decide) rfl;have r3:=row 3 _ _ _ (by decide) rfl;have r4:=row 4 _ _ _ (by decide) rfl;have r5:=row 5 _ _ _ (by decide) rfl;have r6:=row 6 _ _ _ (by decide) rfl;have r7:=row 7 _ _ _ (by decide) rfl;have r8:=row 8 _ _ _ (by decide) rfl;have r9:=row 9 _ _ _ (by decide) rfl;have hz:cs.toList.drop 30=[]:=List.drop_eq_nil_of_le (by rw[hl];exact z1d _)
 have hc:cs.toList=(tabC ltrK texK ownB).toList:=by
  have c0:cs.toList=cs.toList.drop 0:=rfl;rw[c0,chop cs.toList 0,chop cs.toList 3,chop cs.toList 6,chop cs.toList 9,chop cs.toList 12,chop cs.toList 15,chop cs.toList 18,chop cs.toList 21,chop cs.toList 24,chop cs.toList 27,hz];rw[r0,r1,r2,r3,r4,r5,r6,r7,r8,r9];rfl
 have hca:cs=tabC ltrK texK ownB:=by
  cases cs;simp only at hc;rw[hc]
 subst hca;unfold World.var? at hv;rw[g9] at hv;simp only[Option.bind_some] at hv;split at hv
 ·rename_i c t fr hh
  cases hv
  exact⟨t,fr,hh⟩
 ·cases hv
theorem of_laid9 (h:laidMetH Tryz.prog laid9 W):(∃tx,Gs tx W)/\Tb W:=by
 have h':=h;have h1:=h'.1.filter (λx=>x.1 != "shape/scheme.constants");have h2:=h'.1.filter (λx=>x.1== "shape/scheme.constants");exact⟨of_sents h1 (hand_of h'.2),table_of h2⟩
theorem Tb.size (h:Tb W):10<=W.heap.size:=by
 obtain⟨t,fr,h⟩:=h;have:=(z1a.1 h).1;omega
end
end Go.Proofs.YtceadeaodbadlaaGreatDoor
namespace Go.Proofs.YtceadeaodbadlaaGreatDoor
abbrev tU (q:Nat):Ty:=.node 6 q () .nil .nil
def usub (θ:Nat->Ty):Ty->Ty
 | .nil=> .nil
 | .node g o u a b=>if g=6 then θ o else .node g o u (usub θ a) (usub θ b)
def msub (θ φ:Nat->Ty):Ty->Ty
 | .nil=> .nil
 | .node g o u a b=>if g=6 then θ o else if g=2 then φ o else .node g o u (msub θ φ a) (msub θ φ b)
def inU (q:Nat):Ty->Prop
 | .nil=>False
 | .node g o _ a b=>(g=6/\o=q)\/(g≠6/\(inU q a\/inU q b))
def zbc:Ty->Prop
 | .nil=>True
 | .node g _ _ a b=>g≠2/\zbc a/\zbc b
def shut (t:Ty):Prop:=∀q,¬inU q t
@[simp] theorem usub_I (θ:Nat->Ty):usub θ tI=tI:=rfl
@[simp] theorem usub_B (θ:Nat->Ty):usub θ tB=tB:=rfl
@[simp] theorem usub_V (θ:Nat->Ty) (o:Nat):usub θ (tV o)=tV o:=rfl
@[simp] theorem usub_L (θ:Nat->Ty) (a:Ty):usub θ (tL a)=tL (usub θ a):=rfl
@[simp] theorem usub_P (θ:Nat->Ty) (a b:Ty):usub θ (tP a b)=tP (usub θ a) (usub θ b):=rfl
@[simp] theorem usub_F (θ:Nat->Ty) (a b:Ty):usub θ (tF a b)=tF (usub θ a) (usub θ b):=rfl
@[simp] theorem usub_U (θ:Nat->Ty) (q:Nat):usub θ (tU q)=θ q:=rfl
@[simp] theorem inU_I (q:Nat):inU q tI ↔ False:=by simp [inU]
@[simp] theorem inU_B (q:Nat):inU q tB ↔ False:=by simp [inU]
@[simp] theorem inU_V (q o:Nat):inU q (tV o) ↔ False:=by simp [inU]
@[simp] theorem inU_L (q:Nat) (a:Ty):inU q (tL a) ↔ inU q a:=by simp [inU]
@[simp] theorem inU_P (q:Nat) (a b:Ty):inU q (tP a b) ↔ inU q a\/inU q b:=by simp [inU]
@[simp] theorem inU_F (q:Nat) (a b:Ty):inU q (tF a b) ↔ inU q a\/inU q b:=by simp [inU]
@[simp] theorem inU_U (q p:Nat):inU q (tU p) ↔ p=q:=by simp [inU]
section
variable {q:Nat} {θ δ θ':Nat->Ty} {t:Ty}
theorem zam (θ δ:Nat->Ty):∀t,usub θ (usub δ t)=usub (λq=>usub θ (δ q)) t:=by
 intro t
 induction t with
 |nil=>rfl
 |node g o u a b iha ihb=>
  by_cases h:g=6
  ·simp[usub,h]
  ·simp[usub,h,iha,ihb]
theorem zao:∀{t:Ty},(∀q,inU q t->θ q=θ' q)->usub θ t=usub θ' t:=by
 intro t
 induction t with
 |nil=>intro _;rfl
 |node g o u a b iha ihb=>
  intro h;by_cases hg:g=6
  ·simp only[usub,if_pos hg];exact h o (.inl ⟨hg,rfl⟩)
  ·simp only[usub,if_neg hg]
   rw[iha λq hq=>h q (.inr ⟨hg,.inl hq⟩),ihb λq hq=>h q (.inr ⟨hg,.inr hq⟩)]
theorem zxe:∀{t:Ty},usub θ t=usub θ' t->∀q,inU q t->θ q=θ' q:=by
 intro t
 induction t with
 |nil=>intro _ q hq;exact hq.elim
 |node g o u a b iha ihb=>
  intro h q hq;rcases hq with ⟨hg,rfl⟩|⟨hg,hq⟩
  ·simpa only[usub,if_pos hg] using h
  ·simp only[usub,if_neg hg,Go.Deep.BT.node.injEq,true_and] at h
   rcases hq with hq|hq
   ·exact iha h.1 q hq
   ·exact ihb h.2 q hq
def Trim:Ty->Prop
 | .nil=>False
 | .node g _ _ a b=>((g=0\/g=1\/g=2\/g=6)/\a=.nil/\b=.nil)\/(g=3/\Trim a/\b=.nil)\/((g=4\/g=5)/\Trim a/\Trim b)
theorem zeb:∀{t:Ty},Trim t->usub tU t=t:=by
 intro t
 induction t with
 |nil=>intro h;exact h.elim
 |node g o u a b iha ihb=>
  intro h
  cases u
  rcases h with ⟨hg,rfl,rfl⟩|⟨rfl,ha,rfl⟩|⟨hg,ha,hb⟩
  ·rcases hg with rfl|rfl|rfl|rfl<;>rfl
  ·simp only[usub];rw[iha ha];rfl
  ·rcases hg with rfl|rfl<;>(simp only[usub];rw[iha ha,ihb hb];rfl)
theorem zdu (ht:Trim t) (h:∀q,inU q t->δ q=tU q):usub δ t=t:=(zao h).trans (zeb ht)
theorem zak:∀{t:Ty} {q:Nat},inU q (usub δ t) ↔ ∃p,inU p t/\inU q (δ p):=by
 intro t
 induction t with
 |nil=>intro q;simp[usub,inU]
 |node g o u a b iha ihb=>
  intro q;by_cases hg:g=6
  ·simp only[usub,if_pos hg]
   constructor
   ·intro h;exact⟨o,.inl ⟨hg,rfl⟩,h⟩
   ·rintro⟨p,⟨_,rfl⟩|⟨h,_⟩,hq⟩
    ·exact hq
    ·exact absurd hg h
  ·simp only[usub,if_neg hg]
   constructor
   ·rintro(⟨h,_⟩|⟨_,h|h⟩)
    ·exact absurd h hg
    ·obtain⟨p,h1,h2⟩:=iha.1 h;exact⟨p,.inr ⟨hg,.inl h1⟩,h2⟩
    ·obtain⟨p,h1,h2⟩:=ihb.1 h;exact⟨p,.inr ⟨hg,.inr h1⟩,h2⟩
   ·rintro⟨p,⟨h,_⟩|⟨_,h|h⟩,hq⟩
    ·exact absurd h hg
    ·exact .inr ⟨hg,.inl (iha.2 ⟨p,h,hq⟩)⟩
    ·exact .inr ⟨hg,.inr (ihb.2 ⟨p,h,hq⟩)⟩
theorem zet:∀{t:Ty},zbc t->(∀q,inU q t->zbc (δ q))->zbc (usub δ t):=by
 intro t
 induction t with
 |nil=>intro _ _;trivial
 |node g o u a b iha ihb=>
  intro h hq;by_cases hg:g=6
  ·simp only[usub,if_pos hg];exact hq o (.inl ⟨hg,rfl⟩)
  ·simp only[usub,if_neg hg]
   exact⟨h.1,iha h.2.1 λq h'=>hq q (.inr ⟨hg,.inl h'⟩),ihb h.2.2 λq h'=>hq q (.inr ⟨hg,.inr h'⟩)⟩
theorem Trim.usub:∀{t:Ty},Trim t->(∀q,inU q t->Trim (δ q))->Trim (Go.Proofs.YtceadeaodbadlaaGreatDoor.usub δ t):=by
 intro t
 induction t with
 |nil=>intro h _;exact h.elim
 |node g o u a b iha ihb=>
  intro h hq;by_cases hg:g=6
  ·simp only[Go.Proofs.YtceadeaodbadlaaGreatDoor.usub,if_pos hg];exact hq o (.inl ⟨hg,rfl⟩)
  ·simp only[Go.Proofs.YtceadeaodbadlaaGreatDoor.usub,if_neg hg]
   rcases h with ⟨h1,rfl,rfl⟩|⟨h1,ha,rfl⟩|⟨h1,ha,hb⟩
   ·exact .inl ⟨h1,rfl,rfl⟩
   ·exact .inr (.inl ⟨h1,iha ha λq h'=>hq q (.inr ⟨hg,.inl h'⟩),rfl⟩)
   ·exact .inr (.inr ⟨h1,iha ha λq h'=>hq q (.inr ⟨hg,.inl h'⟩),ihb hb λq h'=>hq q (.inr ⟨hg,.inr h'⟩)⟩)
theorem usub_part:∀{t:Ty},inU q t->sz (θ q)<=sz (usub θ t)/\((∀o u a b,t≠ .node 6 o u a b)->sz (θ q)<sz (usub θ t)):=by
 intro t
 induction t with
 |nil=>intro h;exact h.elim
 |node g o u a b iha ihb=>
  intro h;rcases h with ⟨hg,rfl⟩|⟨hg,h⟩
  ·simp only[usub,if_pos hg]
   exact⟨z1d _,λh=>by subst hg;exact absurd rfl (h _ _ _ _)⟩
  ·simp only[usub,if_neg hg,sz]
   rcases h with h|h
   ·have:=(iha h).1
    exact⟨by omega,λ_=>by omega⟩
   ·have:=(ihb h).1
    exact⟨by omega,λ_=>by omega⟩
theorem occurs (h:inU q t) (hn:∀o u a b,t≠ .node 6 o u a b):θ q≠usub θ t:=by
 intro e;have:=(usub_part (θ:=θ) h).2 hn;rw[<-e] at this;omega
def oneU (q:Nat) (t:Ty):Nat->Ty:=λp=>if p=q then t else tU p
theorem zeg (q:Nat) (t:Ty):oneU q t q=t:=if_pos rfl
theorem zfl {p:Nat} (t:Ty) (h:p≠q):oneU q t p=tU p:=if_neg h
theorem oneU_out {s:Ty} (ht:Trim t) (h:¬inU q t):usub (oneU q s) t=t:=zdu ht λp hp=>zfl s (by rintro rfl;exact h hp)
theorem oneU_sol (h:θ q=usub θ t) (p:Nat):usub θ (oneU q t p)=θ p:=by
 by_cases e:p=q
 ·subst e;rw[zeg];exact h.symm
 ·rw[zfl t e];rfl
theorem ztd (θ φ:Nat->Ty):∀t,zbc t->msub θ φ t=usub θ t:=by
 intro t
 induction t with
 |nil=>intro _;rfl
 |node g o u a b iha ihb=>
  intro h;by_cases hg:g=6
  ·simp[msub,usub,hg]
  ·simp only[msub,usub,if_neg hg,if_neg h.1]
   rw[iha h.2.1,ihb h.2.2]
theorem zdr {φ φ':Nat->Ty}:∀{t:Ty},(∀q,inU q t->θ q=θ' q)->(∀o,inT o t=true->φ o=φ' o)->msub θ φ t=msub θ' φ' t:=by
 intro t
 induction t with
 |nil=>intro _ _;rfl
 |node g o u a b iha ihb=>
  intro h h';by_cases hg:g=6
  ·simp only[msub,if_pos hg];exact h o (.inl ⟨hg,rfl⟩)
  ·by_cases h2:g=2
   ·simp only[msub,if_neg hg,if_pos h2];exact h' o (by simp[inT,h2])
   ·simp only[msub,if_neg hg,if_neg h2]
    rw[iha (λq hq=>h q (.inr ⟨hg,.inl hq⟩)) (λo ho=>h' o (by simp[inT,ho])),ihb (λq hq=>h q (.inr ⟨hg,.inr hq⟩)) (λo ho=>h' o (by simp[inT,ho]))]
theorem zsi (θ δ φ:Nat->Ty):∀t,usub θ (msub δ φ t)=msub (λq=>usub θ (δ q)) (λo=>usub θ (φ o)) t:=by
 intro t
 induction t with
 |nil=>rfl
 |node g o u a b iha ihb=>
  by_cases h:g=6
  ·simp[usub,msub,h]
  ·by_cases h2:g=2
   ·simp[usub,msub,h,h2]
   ·simp[usub,msub,h,h2,iha,ihb]
theorem zri (θ δ φ:Nat->Ty):∀t,(∀q,inU q t->zbc (δ q))->msub θ φ (usub δ t)=msub (λq=>usub θ (δ q)) φ t:=by
 intro t
 induction t with
 |nil=>intro _;rfl
 |node g o u a b iha ihb=>
  intro h;by_cases hg:g=6
  ·simp only[usub,msub,if_pos hg];exact ztd θ φ _ (h o (.inl ⟨hg,rfl⟩))
  ·by_cases h2:g=2
   ·simp[usub,msub,hg,h2]
   ·simp only[usub,msub,if_neg hg,if_neg h2]
    rw[iha λq hq=>h q (.inr ⟨hg,.inl hq⟩),ihb λq hq=>h q (.inr ⟨hg,.inr hq⟩)]
theorem zcd (v:List Nat) (g:List Ty):∀t,Trim t->putT v g t=msub tU (λo=>(look (v.zip g) o).getD (tV o)) t:=by
 intro t;unfold putT;generalize (λo=>(look (v.zip g) o).getD (tV o))=φ
 induction t with
 |nil=>intro _;rfl
 |node k o u a b iha ihb=>
  intro h
  cases u
  rcases h with ⟨h1,rfl,rfl⟩|⟨rfl,ha,rfl⟩|⟨h1,ha,hb⟩
  ·rcases h1 with rfl|rfl|rfl|rfl<;>rfl
  ·simp only[sub,msub];rw[iha ha];rfl
  ·rcases h1 with rfl|rfl<;>(simp only[sub,msub];rw[iha ha,ihb hb];rfl)
theorem Ok.shut (h:Ok t):Go.Proofs.YtceadeaodbadlaaGreatDoor.shut t/\Trim t:=by
 induction t with
 |nil=>exact h.elim
 |node g o u a b iha ihb=>
  cases u
  rcases h with ⟨rfl,rfl,rfl,rfl⟩|⟨rfl,rfl,rfl,rfl⟩|⟨rfl,ho,rfl,rfl⟩|⟨rfl,rfl,ha,rfl⟩|⟨rfl,rfl,ha,hb⟩|⟨rfl,rfl,ha,hb⟩
  ·exact⟨λq h=>by simp at h,.inl ⟨by simp,rfl,rfl⟩⟩
  ·exact⟨λq h=>by simp at h,.inl ⟨by simp,rfl,rfl⟩⟩
  ·exact⟨λq h=>by simp at h,.inl ⟨by simp,rfl,rfl⟩⟩
  ·exact⟨λq h=>(iha ha).1 q (by simpa using h),.inr (.inl ⟨rfl,(iha ha).2,rfl⟩)⟩
  ·exact⟨λq h=>by rcases(inU_P q a b).1 h with h|h;exact(iha ha).1 q h;exact(ihb hb).1 q h,.inr (.inr ⟨.inl rfl,(iha ha).2,(ihb hb).2⟩)⟩
  ·exact⟨λq h=>by rcases(inU_F q a b).1 h with h|h;exact(iha ha).1 q h;exact(ihb hb).1 q h,.inr (.inr ⟨.inr rfl,(iha ha).2,(ihb hb).2⟩)⟩
theorem zqo {φ:Nat->Ty}:∀{t:Ty},Trim t->Ok (msub θ φ t)->(∀q,inU q t->Ok (θ q))/\(∀o,inT o t=true->Ok (φ o))/\sz t<=sz (msub θ φ t):=by
 have pos:∀r:Ty,Ok r->1<=sz r:=by intro r h;cases r with|nil=>exact h.elim|node=>simp[sz]
 intro t
 induction t with
 |nil=>intro h;exact h.elim
 |node g o u a b iha ihb=>
  intro h hk
  cases u
  rcases h with ⟨h1,rfl,rfl⟩|⟨rfl,ha,rfl⟩|⟨h1,ha,hb⟩
  ·rcases h1 with rfl|rfl|rfl|rfl
   ·exact⟨λq h=>by simp[inU] at h,λo h=>by simp[inT] at h,z1d _⟩
   ·exact⟨λq h=>by simp[inU] at h,λo h=>by simp[inT] at h,z1d _⟩
   ·have hk':=hk
    exact⟨λq h=>by simp at h,λp h=>by simp[inT] at h;subst h;exact hk',by show 1<=sz (φ o);exact pos _ hk'⟩
   ·have hk':=hk
    exact⟨λq h=>by simp at h;subst h;exact hk',λo h=>by simp[inT] at h,by show 1<=sz (θ o);exact pos _ hk'⟩
  ·have e:msub θ φ (tL a)=tL (msub θ φ a):=rfl
   rw[show (Go.Deep.BT.node 3 o () a .nil:Ty)=.node 3 o () a .nil from rfl] at hk;have hk':=hk;rcases hk' with ⟨e,_⟩|⟨e,_⟩|⟨e,_⟩|⟨_,_,h2,_⟩|⟨e,_⟩|⟨e,_⟩<;>first|(exact absurd e (by decide))|skip
   obtain⟨i1,i2,i3⟩:=iha ha h2;refine⟨λq hq=>?_,λp hp=>?_,?_⟩
   ·rcases hq with ⟨e,_⟩|⟨_,h|h⟩
    ·exact absurd e (by decide)
    ·exact i1 q h
    ·exact h.elim
   ·simp[inT] at hp;exact i2 p hp
   ·show sz a+0+1<=sz (msub θ φ a)+0+1;omega
  ·have hk':Ok (.node g o () (msub θ φ a) (msub θ φ b)):=by rcases h1 with rfl|rfl<;>exact hk
   have h2:Ok (msub θ φ a)/\Ok (msub θ φ b):=by
    rcases h1 with rfl|rfl
    ·rcases hk' with ⟨e,_⟩|⟨e,_⟩|⟨e,_⟩|⟨e,_⟩|⟨_,_,h2,h3⟩|⟨e,_⟩<;>first|(exact absurd e (by decide))|exact⟨h2,h3⟩
    ·rcases hk' with ⟨e,_⟩|⟨e,_⟩|⟨e,_⟩|⟨e,_⟩|⟨e,_⟩|⟨_,_,h2,h3⟩<;>first|(exact absurd e (by decide))|exact⟨h2,h3⟩
   obtain⟨i1,i2,i3⟩:=iha ha h2.1;obtain⟨j1,j2,j3⟩:=ihb hb h2.2;refine⟨λq hq=>?_,λp hp=>?_,?_⟩
   ·rcases hq with ⟨e,_⟩|⟨_,h|h⟩
    ·rcases h1 with rfl|rfl<;>exact absurd e (by decide)
    ·exact i1 q h
    ·exact j1 q h
   ·simp only[inT,Bool.or_eq_true,Bool.and_eq_true,beq_iff_eq] at hp
    rcases hp with (⟨e,_⟩|h)|h
    ·rcases h1 with rfl|rfl<;>exact absurd e (by decide)
    ·exact i2 p h
    ·exact j2 p h
   ·rcases h1 with rfl|rfl
    ·show sz a+sz b+1<=sz (msub θ φ a)+sz (msub θ φ b)+1;omega
    ·show sz a+sz b+1<=sz (msub θ φ a)+sz (msub θ φ b)+1;omega
theorem znf (h:Trim t) (hp:zbc t) (hk:Ok (usub θ t)):(∀q,inU q t->Ok (θ q))/\sz t<=sz (usub θ t):=by
 rw[<-ztd θ tV t hp] at hk ⊢;exact⟨(zqo h hk).1,(zqo h hk).2.2⟩
end
abbrev SEnv:Type:=Nat->Option (Ty->Prop)
def sset (E:SEnv) (c:Nat) (S:Ty->Prop):SEnv:=λd=>if d=c then some S else E d
def HTy:Ex->SEnv->Ty->Prop
 | .nil,_,_=>False
 | .node t _ x a b,E,ty=>
  (t=0/\∃S,E x.c=some S/\S ty)\/
  (t=1/\∃gs,gs.length=(conS x.c).2.length/\ty=putT (conS x.c).2 gs (conS x.c).1)\/
  (t=2/\ty=if x.c=84\/x.c=70 then tB else tI)\/
  (t=3/\∃u r,ty=tF u r/\HTy a (sset E x.c (·=u)) r)\/
  (t=4/\∃S s0,S s0/\(∀s,S s->HTy a E s)/\HTy b (sset E x.c S) ty)\/
  (t=5/\∃u,HTy a E (tF u ty)/\HTy b E u)
def Bd (M:Nat) (t:Ty):Prop:=Ok t/\sz t<=M
def HTyB (M:Nat):Ex->SEnv->Ty->Prop
 | .nil,_,_=>False
 | .node t _ x a b,E,ty=>
  (t=0/\(∃S,E x.c=some S/\S ty)/\Bd M ty)\/
  (t=1/\(∃gs,gs.length=(conS x.c).2.length/\ty=putT (conS x.c).2 gs (conS x.c).1)/\Bd M ty)\/
  (t=2/\ty=if x.c=84\/x.c=70 then tB else tI)\/
  (t=3/\∃u r,ty=tF u r/\Bd M (tF u r)/\HTyB M a (sset E x.c (·=u)) r)\/
  (t=4/\∃S s0,S s0/\HTyB M a E s0/\(∀s,S s->HTy a E s)/\HTyB M b (sset E x.c S) ty)\/
  (t=5/\∃u,HTyB M a E (tF u ty)/\HTyB M b E u)
section
variable {e:Env} {v:List Nat} {M p m:Nat} {s:Sch} (c:Nat)
theorem HTyB.hty:∀{e:Ex} {E:SEnv} {t:Ty},HTyB M e E t->HTy e E t:=by
 intro e
 induction e with
 |nil=>intro E t h;exact h.elim
 |node k o x a b iha ihb=>
  intro E t h;rcases h with ⟨e,h,_⟩|⟨e,h,_⟩|h|⟨e,u,r,h1,_,h2⟩|⟨e,S,s0,h1,h2,h3,h4⟩|⟨e,u,h1,h2⟩
  ·exact .inl ⟨e,h⟩
  ·exact .inr (.inl ⟨e,h⟩)
  ·exact .inr (.inr (.inl h))
  ·exact .inr (.inr (.inr (.inl ⟨e,u,r,h1,iha h2⟩)))
  ·exact .inr (.inr (.inr (.inr (.inl ⟨e,S,s0,h1,h3,ihb h4⟩))))
  ·exact .inr (.inr (.inr (.inr (.inr ⟨e,u,iha h1,ihb h2⟩))))
theorem HTyB.bd (hM:1<=M):∀{e:Ex} {E:SEnv} {t:Ty},HTyB M e E t->Bd M t:=by
 intro e
 induction e with
 |nil=>intro E t h;exact h.elim
 |node k o x a b iha ihb=>
  intro E t h;rcases h with ⟨e,_,h⟩|⟨e,_,h⟩|⟨e,rfl⟩|⟨e,u,r,rfl,h1,h2⟩|⟨e,S,s0,h1,h2,h3,h4⟩|⟨e,u,h1,h2⟩
  ·exact h
  ·exact h
  ·split
   ·exact⟨okB,by simpa [sz] using hM⟩
   ·exact⟨okI,by simpa [sz] using hM⟩
  ·exact h1
  ·exact ihb h4
  ·have:=iha h1
   rcases this.1.cases with h|h|⟨_,_,_,h⟩|⟨_,_,h⟩|⟨_,_,_,_,h⟩|⟨a',b',ha,hb,h⟩<;>simp at h
   obtain⟨rfl,rfl⟩:=h;have hz:=this.2;simp[sz] at hz;exact⟨hb,by omega⟩
def Er:Ex->Ex->Prop
 | .nil,.nil=>True
 | .node t _ x a b,.node t' _ y a' b'=>t=t'/\(t≠5->x.c=y.c)/\Er a a'/\Er b b'
 |_,_=>False
theorem HTy.er:∀{e e':Ex} {E:SEnv} {t:Ty},Er e e'->HTy e E t->HTy e' E t:=by
 intro e
 induction e with
 |nil=>intro e' E t _ h;exact h.elim
 |node k o x a b iha ihb=>
  intro e' E t he h
  cases e' with
  |nil=>exact he.elim
  |node k' o' y a' b'=>
   obtain⟨rfl,hc,ea,eb⟩:=he;rcases h with ⟨e,h⟩|⟨e,h⟩|⟨e,h⟩|⟨e,u,r,h1,h2⟩|⟨e,S,s0,h1,h2,h3⟩|⟨e,u,h1,h2⟩
   ·rw[hc (by omega)] at h;exact .inl ⟨e,h⟩
   ·rw[hc (by omega)] at h;exact .inr (.inl ⟨e,h⟩)
   ·rw[hc (by omega)] at h;exact .inr (.inr (.inl ⟨e,h⟩))
   ·rw[hc (by omega)] at h2;exact .inr (.inr (.inr (.inl ⟨e,u,r,h1,iha ea h2⟩)))
   ·rw[hc (by omega)] at h3;exact .inr (.inr (.inr (.inr (.inl ⟨e,S,s0,h1,λs hs=>iha ea (h2 s hs),ihb eb h3⟩))))
   ·exact .inr (.inr (.inr (.inr (.inr ⟨e,u,iha ea h1,ihb eb h2⟩))))
theorem HTyB.er:∀{e e':Ex} {E:SEnv} {t:Ty},Er e e'->HTyB M e E t->HTyB M e' E t:=by
 intro e
 induction e with
 |nil=>intro e' E t _ h;exact h.elim
 |node k o x a b iha ihb=>
  intro e' E t he h
  cases e' with
  |nil=>exact he.elim
  |node k' o' y a' b'=>
   obtain⟨rfl,hc,ea,eb⟩:=he;rcases h with ⟨e,h⟩|⟨e,h⟩|⟨e,h⟩|⟨e,u,r,h1,h0,h2⟩|⟨e,S,s0,h1,h0,h2,h3⟩|⟨e,u,h1,h2⟩
   ·rw[hc (by omega)] at h;exact .inl ⟨e,h⟩
   ·rw[hc (by omega)] at h;exact .inr (.inl ⟨e,h⟩)
   ·rw[hc (by omega)] at h;exact .inr (.inr (.inl ⟨e,h⟩))
   ·rw[hc (by omega)] at h2;exact .inr (.inr (.inr (.inl ⟨e,u,r,h1,h0,iha ea h2⟩)))
   ·rw[hc (by omega)] at h3;exact .inr (.inr (.inr (.inr (.inl ⟨e,S,s0,h1,iha ea h0,λs hs=>HTy.er ea (h2 s hs),ihb eb h3⟩))))
   ·exact .inr (.inr (.inr (.inr (.inr ⟨e,u,iha ea h1,ihb eb h2⟩))))
theorem ztq {θ θ':Nat->Ty}:∀{t:Ty},(∀o,inT o t=true->θ o=θ' o)->sub θ t=sub θ' t:=by
 intro t
 induction t with
 |nil=>intro _;rfl
 |node g o u a b iha ihb=>
  intro h;by_cases h2:g=2
  ·simp only[sub,if_pos h2];exact h o (by simp[inT,h2])
  ·simp only[sub,if_neg h2]
   rw[iha (λo ho=>h o (by simp[inT,ho])),ihb (λo ho=>h o (by simp[inT,ho]))]
def zhk (φ:Nat->Ty) (v:List Nat) (gs:List Ty):Nat->Ty:=λo=>(look (v.zip gs) o).getD (φ o)
theorem look_map (f:Ty->Ty):∀(v:List Nat) (gs:List Ty) (o:Nat),look (v.zip (gs.map f)) o=(look (v.zip gs) o).map f:=by
 intro v
 induction v with
 |nil=>intro gs o;simp[look]
 |cons p v ih=>
  intro gs o
  cases gs with
  |nil=>simp[look]
  |cons g gs=>
   simp only[List.map_cons,List.zip_cons_cons,look];split
   ·rfl
   ·exact ih gs o
theorem zcr:∀{gs:List Ty} {o:Nat},gs.length=v.length->o∈v->∃t,look (v.zip gs) o=some t:=by
 induction v with
 |nil=>intro gs o _ h;simp at h
 |cons p v ih=>
  intro gs o hl ho
  cases gs with
  |nil=>simp at hl
  |cons g gs=>
   simp only[List.zip_cons_cons,look];split
   ·exact⟨g,rfl⟩
   ·rename_i hp
    exact ih (by simpa using hl) (by rcases List.mem_cons.1 ho with h|h;exact absurd h.symm hp;exact h)
theorem ziv:∀{gs:List Ty} {o:Nat},o∉v->look (v.zip gs) o=none:=by
 induction v with
 |nil=>intro gs o _;simp[look]
 |cons p v ih=>
  intro gs o ho;simp only[List.mem_cons,not_or] at ho
  cases gs with
  |nil=>simp[look]
  |cons g gs=>
   simp only[List.zip_cons_cons,look];rw[if_neg λe=>ho.1 e.symm];exact ih ho.2
theorem zxv (φ:Nat->Ty) (v:List Nat) (g:List Ty) (t:Ty):sub φ (putT v g t)=sub (zhk φ v (g.map (sub φ))) t:=by
 unfold putT;rw[zua];congr 1;funext o;unfold zhk;rw[look_map]
 cases look (v.zip g) o<;>rfl
def senv (φ:Nat->Ty) (e:Env):SEnv:=λc=>(e c).map λs ty=>∃gs,gs.length=s.2.length/\ty=sub (zhk φ s.2 gs) s.1
theorem ztj {φ:Nat->Ty} {c:Nat} (h:e c=some s):senv φ e c=some λty=>∃gs,gs.length=s.2.length/\ty=sub (zhk φ s.2 gs) s.1:=by unfold senv;rw[h];rfl
def EnvLet (e:Env):Prop:=∀c s,e c=some s->97<=c/\c<123
theorem EnvLet.set {c:Nat} (h:EnvLet e) (hc:zaq c=true):EnvLet (zap e c s):=by
 intro d s' hd;unfold zap at hd;split at hd
 ·rename_i e;subst e;simp[zaq] at hc;omega
 ·exact h d s' hd
theorem zps (φ:Nat->Ty) (e:Env) (c:Nat) (s:Sch):senv φ (zap e c s)=sset (senv φ e) c (λty=>∃gs,gs.length=s.2.length/\ty=sub (zhk φ s.2 gs) s.1):=by
 funext d;unfold senv zap sset;split<;>rfl
theorem zxd (φ:Nat->Ty) (e:Env) (c:Nat) (u:Ty):senv φ (zap e c (u,[]))=sset (senv φ e) c (·=sub φ u):=by
 rw[zps];congr 1;funext ty;apply propext;constructor
 ·rintro⟨gs,h,rfl⟩;rfl
 ·rintro rfl;exact⟨[],rfl,rfl⟩
theorem fixedE_not {o c:Nat} (he:EnvLet e) (h:zgr e o=false) (hc:e c=some s) (ho:inT o s.1=true):o∈s.2:=by
 have hl:=he c s hc;unfold zgr at h;rw[List.any_eq_false] at h;have:=h (c-97) (List.mem_range.2 (by omega));rw[show 97+(c-97)=c by omega,hc] at this;obtain⟨t,v⟩:=s;simpa [ho] using this
theorem zsd {φ:Nat->Ty} {gs:List Ty} (he:EnvLet e) (h:∀o∈v,zgr e o=false):senv (zhk φ v gs) e=senv φ e:=by
 funext c;unfold senv
 cases hc:e c with
 |none=>rfl
 |some s=>
  simp only[Option.map_some,Option.some.injEq];funext ty
  have key:∀gs',gs'.length=s.2.length->sub (zhk (zhk φ v gs) s.2 gs') s.1=sub (zhk φ s.2 gs') s.1:=by
   intro gs' hl;refine ztq λo ho=>?_
   unfold zhk;by_cases hm:o∈s.2
   ·obtain⟨t,ht⟩:=zcr hl hm
    rw[ht];rfl
   ·rw[ziv hm]
    have:o∉v:=λhv=>hm (fixedE_not he (h o hv) hc ho)
    rw[ziv this];rfl
  apply propext;constructor
  ·rintro⟨gs',hl,rfl⟩;exact⟨gs',hl,key gs' hl⟩
  ·rintro⟨gs',hl,rfl⟩;exact⟨gs',hl,(key gs' hl).symm⟩
theorem zlv:∀{l:List (Nat×Nat)} {m:List Nat},zce e l m=none->∀o∈l.map (·.1),zgr e o=false:=by
 intro l
 induction l with
 |nil=>intro m _ o h;simp at h
 |cons x l ih=>
  intro m h o ho;obtain⟨p,n⟩:=x;simp only[zce] at h;split at h
  ·cases h
  ·rename_i hn
   simp only[List.map_cons,List.mem_cons] at ho;rcases ho with rfl|ho
   ·cases hf:zgr e o with
    |false=>rfl
    |true=>simp[hf] at hn
   ·exact ih h o ho
theorem zjd {g:List Ty} {t:Ty} (h:zbn s g p=.ok t):g.length=s.2.length/\t=putT s.2 g s.1/\sz t<=50000:=by
 unfold zbn at h;split at h
 ·cases h
 ·split at h
  ·cases h
  ·cases h
   exact⟨by omega,rfl,by omega⟩
theorem zwy:∀o,inT o (conS c).1=true->o∈(conS c).2:=by
 intro o;unfold conS va vb'
 repeat' split
 all_goals simp[inT]
 all_goals omega
theorem zya {f x t:Ty} (h:zjc f x p=.ok t) (hf:Ok f):f=tF x t:=by
 obtain⟨_,_,a,_,h1,rfl⟩:=zyf h hf;exact h1
theorem chk_hty (hm:m<=60000):∀(x:Ex) (e:Env) (t:Ty),EOk true m x->EnvOk 60000 e->EnvLet e->chk x e=.ok t->∀φ,HTy x (senv φ e) (sub φ t):=by
 intro x
 induction x with
 |nil=>intro e t h;exact h.elim
 |node k o x a b iha ihb=>
  intro e t ho he hl h φ;rcases ho with ⟨rfl,hc,hg,_⟩|⟨rfl,hc,hg,_⟩|⟨rfl,hc,_⟩|⟨rfl,hc,hg,hu,ha,_⟩|⟨rfl,hc,hv,ha,hb⟩|⟨rfl,ha,hb⟩
  ·simp only[chk,if_true] at h
   split at h
   ·cases h
   ·rename_i s hs
    obtain⟨h1,rfl,_⟩:=zjd h;exact .inl ⟨rfl,_,ztj hs,x.g.map (sub φ),by simpa using h1,zxv φ _ _ _⟩
  ·simp only[chk] at h
   obtain⟨h1,rfl,_⟩:=zjd (s:=conS x.c) (g:=x.g) (p:=x.p) (t:=t) (by simpa using h);refine .inr (.inl ⟨rfl,x.g.map (sub φ),by simpa using h1,?_⟩);rw[zxv];unfold putT;refine ztq λo ho=>?_
   have:=zwy x.c o ho;unfold zhk;obtain⟨y,hy⟩:=zcr (gs:=x.g.map (sub φ)) (by simpa using h1) this;rw[hy];rfl
  ·simp[chk] at h
   subst h;refine .inr (.inr (.inl ⟨rfl,?_⟩));split<;>rfl
  ·obtain⟨u,hu⟩:=hu rfl
   have hgu:=hg u (by rw[hu];exact List.mem_singleton.2 rfl);simp[chk,hu] at h;split at h
   ·cases h
   ·rename_i u' hq
    split at h
    ·cases h
    ·cases h
     have i1:=iha _ _ ha (he.set (s:=(u,[])) hgu.1 (by have:=hgu.2;show sz u<=60000;omega)) (hl.set hc) hq φ;rw[zxd] at i1;exact .inr (.inr (.inr (.inl ⟨rfl,_,_,rfl,i1⟩)))
  ·simp[chk] at h
   split at h
   ·cases h
   ·rename_i hob
    split at h
    ·cases h
    ·rename_i u hq
     have i0:=zhu hm _ _ _ ha he hq;have i1:=λφ=>iha _ _ ha he hl hq φ
     have i2:=ihb _ _ hb (he.set (s:=(u,_)) i0.1 (by show sz u<=60000;omega)) (hl.set hc) h φ;rw[zps] at i2;refine .inr (.inr (.inr (.inr (.inl ⟨rfl,_,sub (zhk φ (x.v.map (·.1)) ((x.v.map (·.1)).map φ)) u,⟨_,by simp,rfl⟩,?_,i2⟩))));rintro s ⟨gs,hgs,rfl⟩;have:=i1 (zhk φ (x.v.map (·.1)) gs);rw[zsd hl (λo ho=>zlv hob o ho)] at this;exact this
  ·simp[chk] at h
   split at h
   ·cases h
   ·rename_i f hq
    split at h
    ·cases h
    ·rename_i y hy
     have i0:=zhu hm _ _ _ ha he hq;have e:=zya h i0.1;subst e;have i1:=iha _ _ ha he hl hq φ;have i2:=ihb _ _ hb he hl hy φ;exact .inr (.inr (.inr (.inr (.inr ⟨rfl,_,i1,i2⟩))))
theorem senv_tV (e:Env) (c:Nat) (s:Sch) (t:Ty) (g:List Ty) (h:e c=some s) (hg:g.length=s.2.length):∃S,senv tV e c=some S/\S (putT s.2 g s.1):=by
 exact⟨_,ztj h,g,hg,rfl⟩
theorem chk_htyb (hm:m<=60000):∀(x:Ex) (e:Env) (t:Ty),EOk true m x->EnvOk 60000 e->EnvLet e->chk x e=.ok t->HTyB 60000 x (senv tV e) t:=by
 intro x
 induction x with
 |nil=>intro e t h;exact h.elim
 |node k o x a b iha ihb=>
  intro e t ho he hl h;have hall:=zhu hm _ _ _ ho he h;have hbd:Bd 60000 t:=⟨hall.1,by omega⟩
  rcases ho with ⟨rfl,hc,hg,_⟩|⟨rfl,hc,hg,_⟩|⟨rfl,hc,_⟩|⟨rfl,hc,hg,hu,ha,_⟩|⟨rfl,hc,hv,ha,hb⟩|⟨rfl,ha,hb⟩
  ·simp only[chk,if_true] at h
   split at h
   ·cases h
   ·rename_i s hs
    obtain⟨h1,rfl,_⟩:=zjd h;exact .inl ⟨rfl,senv_tV e x.c s (putT s.2 x.g s.1) x.g hs h1,hbd⟩
  ·simp only[chk] at h
   obtain⟨h1,rfl,_⟩:=zjd (s:=conS x.c) (g:=x.g) (p:=x.p) (t:=t) (by simpa using h);exact .inr (.inl ⟨rfl,⟨x.g,h1,rfl⟩,hbd⟩)
  ·simp[chk] at h
   subst h;exact .inr (.inr (.inl ⟨rfl,rfl⟩))
  ·obtain⟨u,hu⟩:=hu rfl
   have hgu:=hg u (by rw[hu];exact List.mem_singleton.2 rfl);simp[chk,hu] at h;split at h
   ·cases h
   ·rename_i u' hq
    split at h
    ·cases h
    ·cases h
     have i1:=iha _ _ ha (he.set (s:=(u,[])) hgu.1 (by have:=hgu.2;show sz u<=60000;omega)) (hl.set hc) hq;rw[zxd,sub_id u hgu.1] at i1;exact .inr (.inr (.inr (.inl ⟨rfl,_,_,rfl,hbd,i1⟩)))
  ·simp[chk] at h
   split at h
   ·cases h
   ·rename_i hob
    split at h
    ·cases h
    ·rename_i u hq
     have i0:=zhu hm _ _ _ ha he hq;have i1:=λφ=>chk_hty hm _ _ _ ha he hl hq φ
     have i3:=iha _ _ ha he hl hq;have i2:=ihb _ _ hb (he.set (s:=(u,_)) i0.1 (by show sz u<=60000;omega)) (hl.set hc) h;rw[zps] at i2;refine .inr (.inr (.inr (.inr (.inl ⟨rfl,_,u,?_,i3,?_,i2⟩))))
     ·refine⟨(x.v.map (·.1)).map tV,by simp,?_⟩
      have:zhk tV (x.v.map (·.1)) ((x.v.map (·.1)).map tV)=tV:=by
       funext o;unfold zhk;by_cases hm':o∈x.v.map (·.1)
       ·have hz:∀v:List Nat,o∈v->look (v.zip (v.map tV)) o=some (tV o):=by
         intro v
         induction v with
         |nil=>intro h;simp at h
         |cons p v ih=>
          intro h;simp only[List.map_cons,List.zip_cons_cons,look];split
          ·rename_i e;rw[e]
          ·rename_i e
           exact ih (by rcases List.mem_cons.1 h with h|h;exact absurd h.symm e;exact h)
        rw[hz _ hm'];rfl
       ·rw[ziv hm'];rfl
      show u=sub (zhk tV (x.v.map (·.1)) ((x.v.map (·.1)).map tV)) u;rw[this,sub_id u i0.1]
     ·rintro s ⟨gs,hgs,rfl⟩
      have:=i1 (zhk tV (x.v.map (·.1)) gs);rw[zsd hl (λo ho=>zlv hob o ho)] at this;exact this
  ·simp[chk] at h
   split at h
   ·cases h
   ·rename_i f hq
    split at h
    ·cases h
    ·rename_i y hy
     have i0:=zhu hm _ _ _ ha he hq;have e:=zya h i0.1;subst e;exact .inr (.inr (.inr (.inr (.inr ⟨rfl,_,iha _ _ ha he hl hq,ihb _ _ hb he hl hy⟩))))
end
def Bg:Ex->Prop
 | .nil=>True
 | .node t _ x a b=>(t=3->x.g=[])/\Bg a/\Bg b
def Tx (s:ByteArray) (i:Nat) (l:List UInt8):Prop:=∀j,j<l.length->∃b,l[j]? =some b/\chr s (i+j)=b.toNat
section
variable {ty:Bool} {s:ByteArray} {e:Ex} {l a b:List UInt8} {i c m:Nat}
theorem Tx.head {b:UInt8} (h:Tx s i (b::l)):chr s i=b.toNat:=by
 obtain⟨b',h1,h2⟩:=h 0 (by simp);simp at h1;subst h1;simpa using h2
theorem Tx.tail {b:UInt8} (h:Tx s i (b::l)):Tx s (i+1) l:=λj hj=>by
 obtain⟨b',h1,h2⟩:=h (j+1) (by simp;omega);refine⟨b',by simpa using h1,?_⟩;rw[show i+1+j=i+(j+1) by omega];exact h2
theorem Tx.left (h:Tx s i (a++b)):Tx s i a:=λj hj=>by
 obtain⟨b',h1,h2⟩:=h j (by simp;omega);exact⟨b',by rwa [z1t hj] at h1,h2⟩
theorem Tx.right (h:Tx s i (a++b)):Tx s (i+a.length) b:=λj hj=>by
 obtain⟨b',h1,h2⟩:=h (a.length+j) (by simp;omega);refine⟨b',?_,by rw[Nat.add_assoc];exact h2⟩;rw[List.getElem?_append_right (by omega)] at h1;simpa using h1
theorem zkq (h:c<256):(u8 c).toNat=c:=by
 show (UInt8.ofNat c).toNat=c;rw[UInt8.toNat_ofNat'];exact Nat.mod_eq_of_lt h
theorem zlx (h:zaq c=true):c<256/\zal c=true/\zcs c=false/\c≠40/\zdi c=false/\c≠92/\c≠64:=by
 have hb:97<=c/\c<=122:=by simpa [zaq] using h
 refine⟨by omega,by simp[zal,h],?_,by omega,?_,by omega,by omega⟩
 ·simp only[zcs,Bool.or_eq_false_iff,Bool.and_eq_false_iff,decide_eq_false_iff_not,beq_eq_false_iff_ne];omega
 ·simp only[zdi,Bool.or_eq_false_iff,beq_eq_false_iff_ne];omega
theorem con_is (h:zdi c=true):c<256/\zal c=true/\zcs c=false/\c≠40/\c≠92/\c≠64:=by
 have hb:c=78\/c=67\/c=80\/c=76\/c=82\/c=74\/c=69\/c=65\/c=89\/c=68:=by
  simp only[zdi,Bool.or_eq_true,beq_iff_eq] at h;omega
 rcases hb with rfl|rfl|rfl|rfl|rfl|rfl|rfl|rfl|rfl|rfl<;>decide
theorem lit_is (h:zcs c=true):c<256/\zal c=true/\c≠92/\c≠64:=by
 have hb:(48<=c/\c<=57)\/c=84\/c=70:=by
  simp only[zcs,Bool.or_eq_true,Bool.and_eq_true,decide_eq_true_eq,beq_iff_eq] at h;omega
 exact⟨by omega,by simp[zal,h],by omega,by omega⟩
def Rd1 (s:ByteArray) (e:Ex):Prop:=∀(i:Nat),Tx s i (frm e)->
 (knd e<=1->∀n,3*(frm e).length+1<=n->∃e' n',Er e e'/\Bg e'/\n<=n'+(frm e).length/\pe s false n 0 i .nil=pe s false n' 1 (i+(frm e).length) e')/\
 (zal (chr s (i+(frm e).length))=false->∀n,3*(frm e).length+2<=n->∃e',Er e e'/\Bg e'/\pe s false n 0 i .nil=.ok (e',i+(frm e).length))
theorem Rd1.stop {e':Ex} {n':Nat} (hb:zal (chr s i)=false) (hn:1<=n'):pe s false n' 1 i e'=.ok (e',i):=by
 obtain⟨m,rfl⟩:∃m,n'=m+1:=⟨n'-1,by omega⟩
 rw[pe,hb];rfl
theorem atom_rd {t o:Nat} {x:Pt} {a b:Ex} (ht:t<=2) (ho:EOk ty m (.node t o x a b)) (i:Nat) (h:Tx s i [u8 x.c]):
 chr s i=x.c/\zal x.c=true/\x.c≠92/\x.c≠64/\∀n,1<=n->∃e',Er (.node t o x a b) e'/\Bg e'/\pe s false n 2 i .nil=.ok (e',i+1):=by
 have hh:=h.head;rcases ho with ⟨rfl,hc,_,rfl,rfl⟩|⟨rfl,hc,_,rfl,rfl⟩|⟨rfl,hc,rfl,rfl⟩|⟨rfl,_⟩|⟨rfl,_⟩|⟨rfl,_⟩
 ·obtain⟨h1,h2,h3,h4,h5,h6,h7⟩:=zlx hc
  rw[zkq h1] at hh;refine⟨hh,h2,h6,h7,λn hn=>⟨eX x.c i [],⟨rfl,λ_=>rfl,trivial,trivial⟩,⟨λe=>absurd e (by decide),trivial,trivial⟩,?_⟩⟩;obtain⟨k,rfl⟩:∃k,n=k+1:=⟨n-1,by omega⟩
  simp[pe,hh,h2,h3,h4,h5,zfg]
 ·obtain⟨h1,h2,h3,h4,h6,h7⟩:=con_is hc
  rw[zkq h1] at hh;refine⟨hh,h2,h6,h7,λn hn=>⟨eK x.c i [],⟨rfl,λ_=>rfl,trivial,trivial⟩,⟨λe=>absurd e (by decide),trivial,trivial⟩,?_⟩⟩;obtain⟨k,rfl⟩:∃k,n=k+1:=⟨n-1,by omega⟩
  simp[pe,hh,h2,h3,h4,hc,zfg]
 ·obtain⟨h1,h2,h6,h7⟩:=lit_is hc
  rw[zkq h1] at hh;refine⟨hh,h2,h6,h7,λn hn=>⟨eN x.c i,⟨rfl,λ_=>rfl,trivial,trivial⟩,⟨λe=>absurd e (by decide),trivial,trivial⟩,?_⟩⟩;obtain⟨k,rfl⟩:∃k,n=k+1:=⟨n-1,by omega⟩
  simp[pe,hh,h2,hc]
 ·omega
 ·omega
 ·omega
theorem br_rd (h:Rd1 s e) (i:Nat) (hx:Tx s i (40::(frm e++[41]))):chr s i=40/\∀n,3*(frm e).length+3<=n->∃e',Er e e'/\Bg e'/\pe s false n 2 i .nil=.ok (e',i+(frm e).length+2):=by
 have h0:chr s i=40:=hx.head;have h1:=hx.tail.left;have h2:chr s (i+1+(frm e).length)=41:=hx.tail.right.head;refine⟨h0,λn hn=>?_⟩;obtain⟨k,rfl⟩:∃k,n=k+1:=⟨n-1,by omega⟩
 obtain⟨e',r1,r2,r3⟩:=(h (i+1) h1).2 (by rw[h2];decide) k (by omega);refine⟨e',r1,r2,?_⟩;rw[pe,h0,if_pos (by decide),if_neg (by decide),if_pos rfl,r3];simp only[h2,if_true];congr 2;omega
theorem second_rd (ho:EOk ty m e) (h:Rd1 s e) (i:Nat) (hx:Tx s i (zbk (knd e) (frm e))):
 zal (chr s i)=true/\1<=(zbk (knd e) (frm e)).length/\∀n,3*(zbk (knd e) (frm e)).length<=n->∃e',Er e e'/\Bg e'/\pe s false n 2 i .nil=.ok (e',i+(zbk (knd e) (frm e)).length):=by
 by_cases hk:knd e=0
 ·cases e with
  |nil=>exact ho.elim
  |node t o x a b=>
   have ht:t<=2:=by
    simp only[knd] at hk;by_cases ht:t<=2
    ·exact ht
    ·rw[if_neg ht] at hk
     by_cases h5:t=5
     ·rw[if_pos h5] at hk;cases hk
     ·rw[if_neg h5] at hk;cases hk
   have hf:frm (.node t o x a b)=[u8 x.c]:=by
    rw[frm,if_neg (by omega),if_neg (by omega),if_neg (by omega)]
   have hs:zbk (knd (.node t o x a b)) (frm (.node t o x a b))=[u8 x.c]:=by rw[hk,hf];rfl
   rw[hs] at hx ⊢;obtain⟨h1,h2,_,_,h5⟩:=atom_rd ht ho i hx;exact⟨by rw[h1];exact h2,by simp,λn hn=>h5 n (by simp at hn;omega)⟩
 ·have hs:zbk (knd e) (frm e)=40::(frm e++[41]):=by unfold zbk;rw[if_neg hk]
  rw[hs] at hx ⊢;obtain⟨h0,h1⟩:=br_rd h i hx;refine⟨by rw[h0];decide,by simp,λn hn=>?_⟩;obtain⟨e',r1,r2,r3⟩:=h1 n (by simp at hn;omega);refine⟨e',r1,r2,?_⟩;rw[r3];congr 2;simp;omega
theorem knd_lt (e:Ex):knd e<=2:=by
 cases e with
 |nil=>simp[knd]
 |node t o x a b=>
  simp only[knd];by_cases ht:t<=2
  ·rw[if_pos ht];omega
  ·rw[if_neg ht]
   by_cases h5:t=5
   ·rw[if_pos h5];omega
   ·rw[if_neg h5];omega
theorem frm_rd (s:ByteArray):∀e:Ex,EOk ty m e->Rd1 s e:=by
 intro e
 induction e with
 |nil=>intro h;exact h.elim
 |node t o x a b iha ihb=>
  intro ho
  --from the first half to the second
  have two:(∀i,Tx s i (frm (.node t o x a b))->∀n,3*(frm (.node t o x a b)).length+1<=n->∃e' n',Er (.node t o x a b) e'/\Bg e'/\n<=n'+(frm (.node t o x a b)).length/\pe s false n 0 i .nil=pe s false n' 1 (i+(frm (.node t o x a b)).length) e')->Rd1 s (.node t o x a b):=by
   intro H i hx;refine⟨λ_ n hn=>H i hx n hn,λhb n hn=>?_⟩;obtain⟨e',n',h1,h2,h3,h4⟩:=H i hx n (by omega);exact⟨e',h1,h2,h4.trans (Rd1.stop hb (by omega))⟩
  by_cases ht:t<=2
  ·refine two λi hx n hn=>?_
   have hf:frm (.node t o x a b)=[u8 x.c]:=by rw[frm,if_neg (by omega),if_neg (by omega),if_neg (by omega)]
   rw[hf] at hx hn ⊢;obtain⟨h1,h2,h3,h4,h5⟩:=atom_rd ht ho i hx;obtain⟨k,rfl⟩:∃k,n=k+1:=⟨n-1,by simp at hn;omega⟩
   obtain⟨e',r1,r2,r3⟩:=h5 k (by simp at hn;omega);refine⟨e',k,r1,r2,by simp,?_⟩;rw[pe,h1,if_neg h3,if_neg h4,r3];rfl
  ·rcases ho with ⟨rfl,_⟩|⟨rfl,_⟩|⟨rfl,_⟩|⟨rfl,hc,_,_,ha,rfl⟩|⟨rfl,hc,_,ha,hb⟩|⟨rfl,ha,hb⟩
   ·exact absurd (by decide) ht
   ·exact absurd (by decide) ht
   ·exact absurd (by decide) ht
   ·--a function
    intro i hx;refine⟨λhk=>absurd hk (by simp[knd]),λhbg n hn=>?_⟩;have hf:frm (.node 3 o x a .nil)=92::u8 x.c::46::frm a:=by rw[frm,if_pos rfl]
    rw[hf] at hx hbg hn ⊢;obtain⟨k,rfl⟩:∃k,n=k+1:=⟨n-1,by simp at hn;omega⟩
    have h0:chr s i=92:=hx.head;have h1:chr s (i+1)=x.c:=by rw[hx.tail.head,zkq (zlx hc).1]
    have h2:chr s (i+2)=46:=hx.tail.tail.head;have h3:Tx s (i+3) (frm a):=hx.tail.tail.tail;have el:i+(92::u8 x.c::46::frm a).length=i+3+(frm a).length:=by simp;omega
    rw[el] at hbg ⊢;obtain⟨a',r1,r2,r3⟩:=(iha ha (i+3) h3).2 hbg k (by simp at hn;omega);refine⟨eF x.c i [] a',⟨rfl,λ_=>rfl,r1,trivial⟩,⟨λ_=>rfl,r2,trivial⟩,?_⟩;rw[pe,if_pos h0,h1,if_pos hc];simp only[zku,if_false,Bool.false_eq_true,h2,if_true];rw[show i+2+1=i+3 from rfl,r3]
   ·--a let
    intro i hx;refine⟨λhk=>absurd hk (by simp[knd]),λhbg n hn=>?_⟩;have hf:frm (.node 4 o x a b)=64::u8 x.c::61::(frm a++59::frm b):=by rw[frm,if_neg (by decide),if_pos rfl]
    rw[hf] at hx hbg hn ⊢;obtain⟨k,rfl⟩:∃k,n=k+1:=⟨n-1,by simp at hn;omega⟩
    have h0:chr s i=64:=hx.head;have h1:chr s (i+1)=x.c:=by rw[hx.tail.head,zkq (zlx hc).1]
    have h2:chr s (i+2)=61:=hx.tail.tail.head;have h3:Tx s (i+3) (frm a++59::frm b):=hx.tail.tail.tail;have h4:chr s (i+3+(frm a).length)=59:=h3.right.head;have h5:=h3.right.tail;have el:i+(64::u8 x.c::61::(frm a++59::frm b)).length=i+3+(frm a).length+1+(frm b).length:=by simp;omega
    rw[el] at hbg ⊢;obtain⟨a',r1,r2,r3⟩:=(iha ha (i+3) h3.left).2 (by rw[h4];decide) k (by simp at hn;omega);obtain⟨b',q1,q2,q3⟩:=(ihb hb (i+3+(frm a).length+1) h5).2 hbg k (by simp at hn;omega);refine⟨eL x.c i [] a' b',⟨rfl,λ_=>rfl,r1,q1⟩,⟨λe=>absurd e (by decide),r2,q2⟩,?_⟩;rw[pe,if_neg (by rw[h0];decide),if_pos h0,h1,if_pos hc];simp only[ownO,if_false,Bool.false_eq_true,h2,if_true];rw[show i+2+1=i+3 from rfl,r3];simp only[h4,if_true,q3]
   ·--a call
    refine two λi hx n hn=>?_
    have hf:frm (.node 5 o x a b)=zcb (knd a) (frm a)++zbk (knd b) (frm b):=by rw[frm,if_neg (by decide),if_neg (by decide),if_pos rfl]
    rw[hf] at hx hn ⊢;obtain⟨s1,s2,s3⟩:=second_rd hb (ihb hb) _ hx.right
    --behind the first part
    have fst:∃a' n1,Er a a'/\Bg a'/\n<=n1+(zcb (knd a) (frm a)).length/\pe s false n 0 i .nil=pe s false n1 1 (i+(zcb (knd a) (frm a)).length) a':=by
     simp only[z1l] at hn;by_cases hk:knd a=2
     ·have e1:zcb (knd a) (frm a)=40::(frm a++[41]):=by unfold zcb;rw[if_pos hk]
      rw[e1] at hn hx ⊢;obtain⟨h0,h1⟩:=br_rd (iha ha) i hx.left;obtain⟨k,rfl⟩:∃k,n=k+1:=⟨n-1,by omega⟩
      obtain⟨a',r1,r2,r3⟩:=h1 k (by simp at hn;omega);refine⟨a',k,r1,r2,by simp,?_⟩;rw[pe,h0,if_neg (by decide),if_neg (by decide),r3];simp only;congr 1;simp;omega
     ·have e1:zcb (knd a) (frm a)=frm a:=by unfold zcb;rw[if_neg hk]
      rw[e1] at hn hx ⊢;have:=knd_lt a;exact(iha ha i hx.left).1 (by omega) n (by omega)
    obtain⟨a',n1,r1,r2,r3,r4⟩:=fst;simp only[z1l] at hn ⊢;obtain⟨k,rfl⟩:∃k,n1=k+1:=⟨n1-1,by omega⟩
    obtain⟨b',q1,q2,q3⟩:=s3 k (by omega);refine⟨eC (i+(zcb (knd a) (frm a)).length) a' b',k,⟨rfl,λh=>absurd rfl h,r1,q1⟩,⟨λe=>absurd e (by decide),r2,q2⟩,by omega,?_⟩;rw[r4,pe,s1,if_pos rfl,q3];simp only;rw[Nat.add_assoc]
theorem frm_whole (ho:EOk ty m e):∃e',zaz ⟨(frm e).toArray⟩ false=.ok e'/\Er e e'/\Bg e':=by
 have hsz:(⟨(frm e).toArray⟩:ByteArray).size=(frm e).length:=by simp[ByteArray.size]
 have hT:Tx ⟨(frm e).toArray⟩ 0 (frm e):=λj hj=>by
  refine⟨(frm e)[j],z1h hj,?_⟩;unfold chr;rw[dif_pos (by rw[hsz];omega)];simp[ByteArray.getElem_eq_getElem_data]
 obtain⟨e',h1,h2,h3⟩:=(frm_rd ⟨(frm e).toArray⟩ e ho 0 hT).2 (by
  have:chr ⟨(frm e).toArray⟩ (0+(frm e).length)=0:=by unfold chr;rw[dif_neg (by rw[hsz];omega)]
  rw[this];decide) (3*(frm e).length+2) (z1d _)
 refine⟨e',?_,h1,h2⟩;unfold zaz;rw[hsz,h3];simp only[hsz];rw[if_neg (by omega)]
end
section
variable {s:ByteArray} {o:Nat} {t:Ty}
theorem zlz (o:Nat):1<=(zbq o).length:=by unfold zbq;split<;>simp
theorem text_pos:∀{t:Ty},Ok t->1<=(zae t).length:=by
 intro t h;rcases h.cases with rfl|rfl|⟨o,_,_,rfl⟩|⟨a,ha,rfl⟩|⟨a,b,ha,hb,rfl⟩|⟨a,b,ha,hb,rfl⟩
 ·simp[zae]
 ·simp[zae]
 ·simpa [zae] using zlz o
 ·simp[zae]
 ·simp[zae];omega
 ·simp[zae];omega
def pu (s:ByteArray) (n i:Nat):TOut:=match pt s n 2 i .nil with
 | .error p=> .error p
 | .ok (u,j)=>pt s n 1 j u
def ndg (c:Nat):Prop:=¬(49<=c/\c<=57)
def Rt (s:ByteArray) (t:Ty):Prop:=∀(i:Nat),Tx s i (zae t)->
 (isFn t=false->isPr t=false->ndg (chr s (i+(zae t).length))->∀n,3*(zae t).length<=n->pt s n 2 i .nil=.ok (t,i+(zae t).length))/\
 (isFn t=false->ndg (chr s (i+(zae t).length))->∀n,3*(zae t).length+1<=n->∃n',n<=n'+(zae t).length/\pu s n i=pt s n' 1 (i+(zae t).length) t)/\
 (ndg (chr s (i+(zae t).length))->chr s (i+(zae t).length)≠42->chr s (i+(zae t).length)≠62->∀n,3*(zae t).length+2<=n->pt s n 0 i .nil=.ok (t,i+(zae t).length))
theorem brT (h:Rt s t) (i:Nat) (hx:Tx s i (40::(zae t++[41]))) (n:Nat) (hn:3*(zae t).length+3<=n):pt s n 2 i .nil=.ok (t,i+(zae t).length+2):=by
 have h0:chr s i=40:=hx.head;have h1:=hx.tail.left;have h2:chr s (i+1+(zae t).length)=41:=hx.tail.right.head;obtain⟨k,rfl⟩:∃k,n=k+1:=⟨n-1,by omega⟩
 have r:=(h (i+1) h1).2.2 (by rw[h2];unfold ndg;omega) (by rw[h2];decide) (by rw[h2];decide) k (by omega);rw[pt,h0,if_neg (by decide),if_neg (by decide),if_neg (by decide),if_pos rfl,r];simp only[h2,if_true];congr 2;omega
theorem firstT (h:Rt s t) (i:Nat) (hx:Tx s i (inBr (isFn t) (zae t))) (hd:ndg (chr s (i+(inBr (isFn t) (zae t)).length))) (n:Nat) (hn:3*(inBr (isFn t) (zae t)).length+1<=n):
 ∃n',n<=n'+(inBr (isFn t) (zae t)).length/\pu s n i=pt s n' 1 (i+(inBr (isFn t) (zae t)).length) t:=by
 cases hf:isFn t with
 |true=>
  rw[hf] at hx hd hn;simp only[inBr,if_true] at hx hd hn ⊢;refine⟨n,by omega,?_⟩;unfold pu;rw[brT h i hx n (by simp at hn;omega)];simp only;congr 1;simp;omega
 |false=>
  rw[hf] at hx hd hn;simp only[inBr,if_false,Bool.false_eq_true] at hx hd hn ⊢;exact(h i hx).2.1 hf hd n hn
theorem secT (h:Rt s t) (i:Nat) (hx:Tx s i (inBr (isFn t||isPr t) (zae t))) (hd:ndg (chr s (i+(inBr (isFn t||isPr t) (zae t)).length))) (n:Nat) (hn:3*(inBr (isFn t||isPr t) (zae t)).length<=n):
 pt s n 2 i .nil=.ok (t,i+(inBr (isFn t||isPr t) (zae t)).length):=by
 cases hf:(isFn t||isPr t) with
 |true=>
  rw[hf] at hx hd hn;simp only[inBr,if_true] at hx hd hn ⊢;rw[brT h i hx n (by simp at hn;omega)];congr 2;simp;omega
 |false=>
  rw[hf] at hx hd hn;simp only[inBr,if_false,Bool.false_eq_true] at hx hd hn ⊢;simp only[Bool.or_eq_false_iff] at hf;exact(h i hx).1 hf.1 hf.2 hd n hn
theorem Rt.of_unit (hf:isFn t=false) (hp:isPr t=false) (H:∀i,Tx s i (zae t)->ndg (chr s (i+(zae t).length))->∀n,3*(zae t).length<=n->pt s n 2 i .nil=.ok (t,i+(zae t).length)):Rt s t:=by
 intro i hx
 have two:ndg (chr s (i+(zae t).length))->∀n,3*(zae t).length+1<=n->pu s n i=pt s n 1 (i+(zae t).length) t:=by
  intro hd n hn;unfold pu;rw[H i hx hd n (by omega)]
 refine⟨λ_ _ hd n hn=>H i hx hd n hn,λ_ hd n hn=>⟨n,by omega,two hd n hn⟩,λhd h4 h6 n hn=>?_⟩;obtain⟨k,rfl⟩:∃k,n=k+2:=⟨n-2,by omega⟩
 rw[pt,H i hx hd (k+1) (by omega)];simp only;rw[pt,if_neg h4];simp only;rw[if_neg h6]
theorem var_is (h1:970<=o) (h2:o<1230):zaq (o/10)=true/\o/10<256/\48+o % 10<256:=by
 refine⟨?_,by omega,by omega⟩;simp only[zaq,Bool.and_eq_true,decide_eq_true_eq];omega
theorem text_rd (s:ByteArray):∀t:Ty,Ok t->Rt s t:=by
 intro t
 induction t with
 |nil=>intro h;exact h.elim
 |node g o u a b iha ihb=>
  intro h
  cases u
  rcases h with ⟨rfl,rfl,rfl,rfl⟩|⟨rfl,rfl,rfl,rfl⟩|⟨rfl,ho,rfl,rfl⟩|⟨rfl,rfl,ha,rfl⟩|⟨rfl,rfl,ha,hb⟩|⟨rfl,rfl,ha,hb⟩
  ·refine Rt.of_unit rfl rfl λi hx _ n hn=>?_
   have h0:chr s i=73:=hx.head;obtain⟨k,rfl⟩:∃k,n=k+1:=⟨n-1,by simp[zae] at hn;omega⟩
   rw[pt,if_pos h0];rfl
  ·refine Rt.of_unit rfl rfl λi hx _ n hn=>?_
   have h0:chr s i=66:=hx.head;obtain⟨k,rfl⟩:∃k,n=k+1:=⟨n-1,by simp[zae] at hn;omega⟩
   rw[pt,h0,if_neg (by decide),if_pos rfl];rfl
  ·refine Rt.of_unit rfl rfl λi hx hd n hn=>?_
   obtain⟨hl,c1,c2⟩:=var_is ho.1 ho.2;obtain⟨k1,_,_,k4,_,_,_⟩:=zlx hl;have ht:zae (tV o)=zbq o:=rfl;have:=zlz o;obtain⟨k,rfl⟩:∃k,n=k+1:=⟨n-1,by rw[ht] at hn;omega⟩
   have hb:97<=o/10/\o/10<=122:=by simpa [zaq] using hl
   rw[ht] at hx hd ⊢;by_cases hz:o % 10=0
   ·have e:zbq o=[u8 (o/10)]:=by unfold zbq;rw[if_pos hz]
    rw[e] at hx hd ⊢;have h0:chr s i=o/10:=by rw[hx.head,zkq c1]
    rw[pt,h0,if_neg (by omega),if_neg (by omega),if_neg (by omega),if_neg k4,if_pos hl];have hd':¬(49<=chr s (i+1)/\chr s (i+1)<=57):=hd;rw[if_neg hd'];unfold vnum;rw[if_neg hd',show 10*(o/10)+0=o by omega];rfl
   ·have e:zbq o=[u8 (o/10),u8 (48+o % 10)]:=by unfold zbq;rw[if_neg hz]
    rw[e] at hx hd ⊢;have h0:chr s i=o/10:=by rw[hx.head,zkq c1]
    have h1:chr s (i+1)=48+o % 10:=by rw[hx.tail.head,zkq c2]
    rw[pt,h0,if_neg (by omega),if_neg (by omega),if_neg (by omega),if_neg k4,if_pos hl,h1];rw[if_pos (by omega)];unfold vnum;rw[if_pos (by omega),show 10*(o/10)+(48+o % 10-48)=o by omega];rfl
  ·refine Rt.of_unit rfl rfl λi hx _ n hn=>?_
   have ht:zae (tL a)=91::(zae a++[93]):=rfl;rw[ht] at hx hn ⊢;have h0:chr s i=91:=hx.head;have h1:=hx.tail.left;have h2:chr s (i+1+(zae a).length)=93:=hx.tail.right.head;simp only[List.length_cons,z1l,List.length_nil] at hn ⊢;obtain⟨k,rfl⟩:∃k,n=k+1:=⟨n-1,by omega⟩
   have r:=(iha ha (i+1) h1).2.2 (by rw[h2];unfold ndg;omega) (by rw[h2];decide) (by rw[h2];decide) k (by omega);rw[pt,h0,if_neg (by decide),if_neg (by decide),if_pos rfl,r];simp only[h2,if_true];congr 2;omega
  ·have ht:zae (tP a b)=inBr (isFn a) (zae a)++42::inBr (isFn b||isPr b) (zae b):=rfl
   have two:∀i,Tx s i (zae (tP a b))->ndg (chr s (i+(zae (tP a b)).length))->∀n,3*(zae (tP a b)).length+1<=n->∃n',n<=n'+(zae (tP a b)).length/\pu s n i=pt s n' 1 (i+(zae (tP a b)).length) (tP a b):=by
    intro i hx hd n hn;rw[ht] at hx hd hn ⊢;simp only[z1l,List.length_cons] at hd hn ⊢;have h2:chr s (i+(inBr (isFn a) (zae a)).length)=42:=hx.right.head;obtain⟨n1,r1,r2⟩:=firstT (iha ha) i hx.left (by rw[h2];unfold ndg;omega) n (by omega);obtain⟨k,rfl⟩:∃k,n1=k+1:=⟨n1-1,by omega⟩
    have r3:=secT (ihb hb) _ hx.right.tail (by
     rw[show i+(inBr (isFn a) (zae a)).length+1+(inBr (isFn b||isPr b) (zae b)).length=i+((inBr (isFn a) (zae a)).length+((inBr (isFn b||isPr b) (zae b)).length+1)) by omega];exact hd) k (by omega)
    refine⟨k,by omega,?_⟩;rw[r2,pt,if_pos h2,r3];simp only;congr 1;omega
   show Rt s (tP a b);intro i hx;refine⟨λ_ hp=>absurd hp (by simp[isPr]),λ_ hd n hn=>two i hx hd n hn,λhd h4 h6 n hn=>?_⟩;obtain⟨k,rfl⟩:∃k,n=k+1:=⟨n-1,by omega⟩
   obtain⟨n',r1,r2⟩:=two i hx hd k (by omega);obtain⟨j,rfl⟩:∃j,n'=j+1:=⟨n'-1,by have:=text_pos (okP ha hb);omega⟩
   rw[pt,if_neg h4] at r2;unfold pu at r2;rw[pt];split at r2
   ·cases r2
   ·rename_i q hq
    try rw[hq]
    try simp only
    rw[r2];simp only;rw[if_neg h6]
  ·have ht:zae (tF a b)=inBr (isFn a) (zae a)++62::zae b:=rfl
   intro i hx;refine⟨λhp=>absurd hp (by simp[isFn]),λhp=>absurd hp (by simp[isFn]),λhd h4 h6 n hn=>?_⟩;obtain⟨k,rfl⟩:∃k,n=k+1:=⟨n-1,by omega⟩
   rw[ht] at hx hd h4 h6 hn ⊢;simp only[z1l,List.length_cons] at hd h4 h6 hn ⊢;have h2:chr s (i+(inBr (isFn a) (zae a)).length)=62:=hx.right.head;obtain⟨n',r1,r2⟩:=firstT (iha ha) i hx.left (by rw[h2];unfold ndg;omega) k (by omega);obtain⟨j,rfl⟩:∃j,n'=j+1:=⟨n'-1,by omega⟩
   have el:i+(inBr (isFn a) (zae a)).length+1+(zae b).length=i+((inBr (isFn a) (zae a)).length+((zae b).length+1)):=by omega
   have r3:=(ihb hb _ hx.right.tail).2.2 (by rw[el];exact hd) (by rw[el];exact h4) (by rw[el];exact h6) k (by omega);rw[pt,h2,if_neg (by decide)] at r2;unfold pu at r2;rw[pt];split at r2
   ·cases r2
   ·rename_i q hq
    try rw[hq]
    try simp only
    rw[r2];simp only;rw[if_pos h2,r3];simp only;rw[el]
theorem text_whole (h:Ok t):zbe ⟨(zae t).toArray⟩=.ok t:=by
 have hsz:(⟨(zae t).toArray⟩:ByteArray).size=(zae t).length:=by simp[ByteArray.size]
 have hT:Tx ⟨(zae t).toArray⟩ 0 (zae t):=λj hj=>by
  refine⟨(zae t)[j],z1h hj,?_⟩;unfold chr;rw[dif_pos (by rw[hsz];omega)];simp[ByteArray.getElem_eq_getElem_data]
 have h0:chr ⟨(zae t).toArray⟩ (0+(zae t).length)=0:=by unfold chr;rw[dif_neg (by rw[hsz];omega)]
 have r:=(text_rd ⟨(zae t).toArray⟩ t h 0 hT).2.2 (by rw[h0];unfold ndg;omega) (by rw[h0];decide) (by rw[h0];decide) (3*(zae t).length+3) (by omega);unfold zbe;rw[hsz,r];simp only[hsz];rw[if_neg (by omega)]
def rnT (t:Ty):Ty:=sub (λo=>tV (zac (zbb o (zaa t [])))) t
theorem zqw:∀{t:Ty},Ok t->∀(l:List Nat) (o:Nat),o∈zaa t l->o∈l\/inT o t=true:=by
 intro t
 induction t with
 |nil=>intro h;exact h.elim
 |node g p u a b iha ihb=>
  intro h l o ho
  cases u
  rcases h with ⟨rfl,rfl,rfl,rfl⟩|⟨rfl,rfl,rfl,rfl⟩|⟨rfl,hp,rfl,rfl⟩|⟨rfl,rfl,ha,rfl⟩|⟨rfl,rfl,ha,hb⟩|⟨rfl,rfl,ha,hb⟩
  ·exact .inl (by simpa [zaa] using ho)
  ·exact .inl (by simpa [zaa] using ho)
  ·simp only[zaa,if_true] at ho
   split at ho
   ·exact .inl ho
   ·rcases z1y.1 ho with ho|ho
    ·exact .inl ho
    ·simp at ho;subst ho;exact .inr (by simp[inT])
  ·rcases iha ha l o (by simpa [zaa] using ho) with h|h
   ·exact .inl h
   ·exact .inr (by simp[inT,h])
  ·rcases ihb hb _ o (by simpa [zaa] using ho) with h|h
   ·rcases iha ha l o h with h|h
    ·exact .inl h
    ·exact .inr (by simp[inT,h])
   ·exact .inr (by simp[inT,h])
  ·rcases ihb hb _ o (by simpa [zaa] using ho) with h|h
   ·rcases iha ha l o h with h|h
    ·exact .inl h
    ·exact .inr (by simp[inT,h])
   ·exact .inr (by simp[inT,h])
theorem zvf:∀{t:Ty} (l:List Nat) (o:Nat),inT o t=true->Ok t->o∈zaa t l:=by
 intro t
 induction t with
 |nil=>intro l o h;simp[inT] at h
 |node g p u a b iha ihb=>
  intro l o h hk
  cases u
  rcases hk with ⟨rfl,rfl,rfl,rfl⟩|⟨rfl,rfl,rfl,rfl⟩|⟨rfl,hp,rfl,rfl⟩|⟨rfl,rfl,ha,rfl⟩|⟨rfl,rfl,ha,hb⟩|⟨rfl,rfl,ha,hb⟩
  ·simp[inT] at h
  ·simp[inT] at h
  ·simp[inT] at h
   subst h;simp only[zaa,if_true];split
   ·rename_i hc;rwa [z2b] at hc
   ·simp
  ·simp[inT] at h
   simpa [zaa] using iha l o h ha
  ·simp[inT] at h
   simp[zaa];rcases h with h|h
   ·exact zhn _ _ _ (iha l o h ha)
   ·exact ihb _ o h hb
  ·simp[inT] at h
   simp[zaa];rcases h with h|h
   ·exact zhn _ _ _ (iha l o h ha)
   ·exact ihb _ o h hb
theorem idx_lt (h:Ok t) (ho:o∈zaa t []):zbb o (zaa t [])<260:=by
 have h1:=(zhp _ o ho).1;have h2:=(z1b.1 h1).1;have:=zpf h;omega
theorem sub_ok' {θ:Nat->Ty}:∀{t:Ty},Ok t->(∀o,inT o t=true->Ok (θ o))->Ok (sub θ t):=by
 intro t
 induction t with
 |nil=>intro h;exact h.elim
 |node g o u a b iha ihb=>
  intro h hθ
  cases u
  rcases h with ⟨rfl,rfl,rfl,rfl⟩|⟨rfl,rfl,rfl,rfl⟩|⟨rfl,ho,rfl,rfl⟩|⟨rfl,rfl,ha,rfl⟩|⟨rfl,rfl,ha,hb⟩|⟨rfl,rfl,ha,hb⟩
  ·exact okI
  ·exact okB
  ·exact hθ o (by simp[inT])
  ·exact okL (iha ha λo h=>hθ o (by simp[inT,h]))
  ·exact okP (iha ha λo h=>hθ o (by simp[inT,h])) (ihb hb λo h=>hθ o (by simp[inT,h]))
  ·exact okF (iha ha λo h=>hθ o (by simp[inT,h])) (ihb hb λo h=>hθ o (by simp[inT,h]))
theorem rnT_ok (h:Ok t):Ok (rnT t):=by
 refine sub_ok' h λo ho=>?_
 have:=zsu (idx_lt h (zvf [] o ho h));exact okV this.1 this.2
theorem form_whole (h:Ok t):zbe ⟨(zeh t).toArray⟩=.ok (rnT t):=text_whole (rnT_ok h)
theorem zvz {j k:Nat} (hj:j<260) (hk:k<260) (h:zac j=zac k):j=k:=by unfold zac at h;omega
theorem zyx {f:Nat->Nat}:∀{t:Ty} (l:List Nat),Ok t->(∀o p,(o∈l\/inT o t=true)->(p∈l\/inT p t=true)->f o=f p->o=p)->
 zaa (sub (λo=>tV (f o)) t) (l.map f)=(zaa t l).map f:=by
 intro t
 induction t with
 |nil=>intro l h;exact h.elim
 |node g o u a b iha ihb=>
  intro l h hf
  cases u
  rcases h with ⟨rfl,rfl,rfl,rfl⟩|⟨rfl,rfl,rfl,rfl⟩|⟨rfl,ho,rfl,rfl⟩|⟨rfl,rfl,ha,rfl⟩|⟨rfl,rfl,ha,hb⟩|⟨rfl,rfl,ha,hb⟩
  ·simp[sub,zaa]
  ·simp[sub,zaa]
  ·have hc:(l.map f).contains (f o)=l.contains o:=by
    by_cases hm:o∈l
    ·have h1:f o∈l.map f:=z1z.2 ⟨o,hm,rfl⟩
     rw[z2b.2 hm,z2b.2 h1]
    ·have h1:¬f o∈l.map f:=by
      intro hq;obtain⟨p,hp,e⟩:=z1z.1 hq;exact hm (hf p o (.inl hp) (.inr (by simp[inT])) e ▸ hp)
     have e1:l.contains o=false:=by rw[Bool.eq_false_iff];exact λe=>hm (z2b.1 e)
     have e2:(l.map f).contains (f o)=false:=by rw[Bool.eq_false_iff];exact λe=>h1 (z2b.1 e)
     rw[e1,e2]
   show (if (l.map f).contains (f o) then l.map f else l.map f++[f o])=(if l.contains o then l else l++[o]).map f;rw[hc];split<;>simp
  ·have:=iha l ha (λo p h1 h2=>hf o p (h1.imp id λh=>by simp[inT,h]) (h2.imp id λh=>by simp[inT,h]))
   simpa [sub,zaa] using this
  ·have h1:=iha l ha (λo p h1 h2=>hf o p (h1.imp id λh=>by simp[inT,h]) (h2.imp id λh=>by simp[inT,h]))
   have in':∀o,(o∈zaa a l\/inT o b=true)->(o∈l\/inT o (tP a b)=true):=by
    rintro o (h|h)
    ·rcases zqw ha l o h with h|h
     ·exact .inl h
     ·exact .inr (by simp[inT,h])
    ·exact .inr (by simp[inT,h])
   have h2:=ihb (zaa a l) hb (λo p h1 h2=>hf o p (in' o h1) (in' p h2));show zaa (sub _ b) (zaa (sub _ a) (l.map f))=(zaa b (zaa a l)).map f;rw[h1,h2]
  ·have h1:=iha l ha (λo p h1 h2=>hf o p (h1.imp id λh=>by simp[inT,h]) (h2.imp id λh=>by simp[inT,h]))
   have in':∀o,(o∈zaa a l\/inT o b=true)->(o∈l\/inT o (tF a b)=true):=by
    rintro o (h|h)
    ·rcases zqw ha l o h with h|h
     ·exact .inl h
     ·exact .inr (by simp[inT,h])
    ·exact .inr (by simp[inT,h])
   have h2:=ihb (zaa a l) hb (λo p h1 h2=>hf o p (in' o h1) (in' p h2));show zaa (sub _ b) (zaa (sub _ a) (l.map f))=(zaa b (zaa a l)).map f;rw[h1,h2]
theorem idx_map {f:Nat->Nat}:∀(l:List Nat) (o:Nat),o∈l->(∀p,p∈l->f o=f p->o=p)->zbb (f o) (l.map f)=zbb o l:=by
 intro l
 induction l with
 |nil=>intro o h;simp at h
 |cons p l ih=>
  intro o h hf;simp only[List.map_cons,zbb];by_cases hp:p=o
  ·rw[if_pos hp,if_pos (by rw[hp])]
  ·rw[if_neg hp,if_neg (λe=>hp (hf p (by simp) e.symm).symm)]
   rw[ih o (by rcases List.mem_cons.1 h with h|h;exact absurd h.symm hp;exact h) (λq hq=>hf q (by simp[hq]))]
theorem form_ren {f:Nat->Nat} (h:Ok t) (hf:∀o p,inT o t=true->inT p t=true->f o=f p->o=p):zeh (sub (λo=>tV (f o)) t)=zeh t:=by
 unfold zeh;have e:=zyx (f:=f) (t:=t) [] h (λo p h1 h2=>hf o p (by simpa using h1) (by simpa using h2));simp only[List.map_nil] at e;rw[e,zua];congr 1;refine zhq (v:=zaa t []) (λo ho=>?_) t [] (λo h=>h);show tV (zac (zbb (f o) ((zaa t []).map f)))=_
 have hi:∀o,o∈zaa t []->inT o t=true:=λo ho=>by
  rcases zqw h [] o ho with h|h
  ·simp at h
  ·exact h
 rw[idx_map _ _ ho (λp hp=>hf o p (hi o ho) (hi p hp))]
theorem rn_inj (h:Ok t):∀o p,inT o t=true->inT p t=true->zac (zbb o (zaa t []))=zac (zbb p (zaa t []))->o=p:=by
 intro o p ho hp e;have o1:=zvf [] o ho h;have p1:=zvf [] p hp h;have e':=zvz (idx_lt h o1) (idx_lt h p1) e;have h1:=(zhp _ o o1).1;have h2:=(zhp _ p p1).1;rw[e'] at h1;exact z1q (h1.symm.trans h2)
theorem form_again (h:Ok t):zeh (rnT t)=zeh t:=form_ren (f:=λo=>zac (zbb o (zaa t []))) h (rn_inj h)
theorem sz_rnT (h:Ok t):sz (rnT t)=sz t:=by
 suffices H:∀(f:Nat->Nat) {t:Ty},Ok t->sz (sub (λo=>tV (f o)) t)=sz t from H _ h;intro f t
 induction t with
 |nil=>intro h;exact h.elim
 |node g p u a b iha ihb=>
  intro h
  cases u
  rcases h with ⟨rfl,rfl,rfl,rfl⟩|⟨rfl,rfl,rfl,rfl⟩|⟨rfl,hp,rfl,rfl⟩|⟨rfl,rfl,ha,rfl⟩|⟨rfl,rfl,ha,hb⟩|⟨rfl,rfl,ha,hb⟩
  ·simp[sub,sz]
  ·simp[sub,sz]
  ·simp[sub,sz]
  ·have:=iha ha
   simp[sub,sz,this]
  ·have h1:=iha ha
   have h2:=ihb hb;simp[sub,sz,h1,h2]
  ·have h1:=iha ha
   have h2:=ihb hb;simp[sub,sz,h1,h2]
theorem inst_rn {k:Ty} (h:Ok t) (hk:Ok k) (θ:Nat->Ty) (e:sub θ t=k):inst (rnT t) k=true:=by
 refine(inst_iff (rnT_ok h) hk).2 ?_;let back:Nat->Ty:=λc=>θ (((zaa t []).find? λo=>zac (zbb o (zaa t []))==c).getD 0)
 refine⟨back,?_⟩;unfold rnT;rw[zua,<-e];refine zhq (v:=zaa t []) (λo ho=>?_) t [] (λo h=>h);show back (zac (zbb o (zaa t [])))=θ o
 have hi:∀o,o∈zaa t []->inT o t=true:=λo ho=>by
  rcases zqw h [] o ho with h|h
  ·simp at h
  ·exact h
 cases hq:(zaa t []).find? (λp=>zac (zbb p (zaa t []))==zac (zbb o (zaa t []))) with
 |none=>
  have:=List.find?_eq_none.1 hq o ho;simp at this
 |some p=>
  have hp:=List.mem_of_find?_eq_some hq;have he:=List.find?_some hq;simp only[beq_iff_eq] at he;have:=rn_inj h p o (hi p hp) (hi o ho) he;show θ (((zaa t []).find? λp=>zac (zbb p (zaa t []))==zac (zbb o (zaa t []))).getD 0)=θ o;rw[hq,this];rfl
theorem zxi:∀{t:Ty},Ok t->(zae t).length+3<=5*sz t:=by
 intro t
 induction t with
 |nil=>intro h;exact h.elim
 |node g p u a b iha ihb=>
  intro h
  cases u
  have br:∀(c:Bool) (l:List UInt8),(inBr c l).length<=l.length+2:=by intro c l;cases c<;>simp[inBr]
  rcases h with ⟨rfl,rfl,rfl,rfl⟩|⟨rfl,rfl,rfl,rfl⟩|⟨rfl,hp,rfl,rfl⟩|⟨rfl,rfl,ha,rfl⟩|⟨rfl,rfl,ha,hb⟩|⟨rfl,rfl,ha,hb⟩
  ·simp[zae,sz]
  ·simp[zae,sz]
  ·simp only[zae,sz]
   show (zbq p).length+3<=_;unfold zbq;split<;>simp
  ·have:=iha ha
   simp[zae,sz];omega
  ·have h1:=iha ha
   have h2:=ihb hb;have b1:=br (isFn a) (zae a);have b2:=br (isFn b||isPr b) (zae b);simp only[zae,sz];show (inBr (isFn a) (zae a)++42::inBr (isFn b||isPr b) (zae b)).length+3<=_;simp only[z1l,List.length_cons];omega
  ·have h1:=iha ha
   have h2:=ihb hb;have b1:=br (isFn a) (zae a);simp only[zae,sz];show (inBr (isFn a) (zae a)++62::zae b).length+3<=_;simp only[z1l,List.length_cons];omega
theorem zxm (h:Ok t):(zeh t).length+3<=5*sz t:=by
 have:=zxi (rnT_ok h);rw[sz_rnT h] at this;exact this
end
end Go.Proofs.YtceadeaodbadlaaGreatDoor
namespace Go.Proofs.YtceadeaodbadlaaGreatDoor
open Go.RowKit
structure Nd where
 op:Nat
 a:Nat
 b:Nat
def Nd.cells (n:Nd):List Value:=[iZ n.op,iZ n.a,iZ n.b]
def zea (l:List Nd):List Value:=l.flatMap Nd.cells
theorem zhf (l m:List Nd):zea (l++m)=zea l++zea m:=by simp[zea]
theorem zmc (l:List Nd) (k j:Nat) (n:Nd) (u:Value) (hk:l[k]? =some n) (hu:n.cells[j]? =some u):(zea l)[k*3+j]? =some u:=by
 induction l generalizing k with
 |nil=>simp at hk
 |cons x us ih=>
  cases k with
  |zero=>
   simp at hk;subst hk;simp only[zea,List.flatMap_cons];rw[z1t (by simpa using (z1b.1 hu).1)];simpa using hu
  |succ k=>
   simp only[zea,List.flatMap_cons];have hl:x.cells.length=3:=by simp[Nd.cells]
   rw[List.getElem?_append_right (by rw[hl];omega),hl,show (k+1)*3+j-3=k*3+j from by omega];exact ih k (by simpa using hk)
def sgn (g o:Nat):Nat:=if g=0 then 73 else if g=1 then 66 else if g=2 then o+30 else if g=3 then 91 else if g=4 then 42 else 62
def rtA (g:Nat) (a:Ty) (f:Nat):Nat:=if g<=2 then f else f+sz a-1
def rtB (g:Nat) (a b:Ty) (f:Nat):Nat:=if g<=3 then f else f+sz a+sz b-1
def rt:Ty->Nat->Nd
 | .nil,f=>⟨0,f,f⟩
 | .node g o _ a b,f=>⟨sgn g o,rtA g a f,rtB g a b f⟩
def nd:Ty->Nat->List Nd
 | .nil,_=>[]
 | .node g o u a b,f=>nd a f++nd b (f+sz a)++[rt (.node g o u a b) f]
def zmb (d:Nat) (n:Nd):Nd:=⟨n.op,n.a+d,n.b+d⟩
theorem zaj:∀(t:Ty) (f:Nat),(nd t f).length=sz t:=by
 intro t
 induction t with
 |nil=>intro f;rfl
 |node g o u a b iha ihb=>intro f;simp[nd,sz,iha,ihb];omega
theorem zaw {t:Ty} (h:Ok t):1<=sz t:=by
 cases t with
 |nil=>exact h.elim
 |node g o u a b=>simp[sz]
theorem rt_shift {t:Ty} (h:Ok t) (f d:Nat):rt t (f+d)=zmb d (rt t f):=by
 cases t with
 |nil=>exact h.elim
 |node g o u a b=>
  rcases h with ⟨rfl,rfl,rfl,rfl⟩|⟨rfl,rfl,rfl,rfl⟩|⟨rfl,ho,rfl,rfl⟩|⟨rfl,rfl,ha,rfl⟩|⟨rfl,rfl,ha,hb⟩|⟨rfl,rfl,ha,hb⟩
  ·rfl
  ·rfl
  ·rfl
  ·have:=zaw ha
   simp only[rt,zmb,rtA,rtB,sz,Nd.mk.injEq,true_and];simp;omega
  ·have:=zaw ha
   have:=zaw hb;simp only[rt,zmb,rtA,rtB,sz,Nd.mk.injEq,true_and];simp;omega
  ·have:=zaw ha
   have:=zaw hb;simp only[rt,zmb,rtA,rtB,sz,Nd.mk.injEq,true_and];simp;omega
theorem nd_shift:∀(t:Ty) (f d:Nat),Ok t->nd t (f+d)=(nd t f).map (zmb d):=by
 intro t
 induction t with
 |nil=>intro f d h;exact h.elim
 |node g o u a b iha ihb=>
  intro f d h;have hr:=rt_shift h f d;have e:f+d+sz a=f+sz a+d:=by omega
  rcases h with ⟨rfl,rfl,rfl,rfl⟩|⟨rfl,rfl,rfl,rfl⟩|⟨rfl,ho,rfl,rfl⟩|⟨rfl,rfl,ha,rfl⟩|⟨rfl,rfl,ha,hb⟩|⟨rfl,rfl,ha,hb⟩
  ·simp[nd,hr]
  ·simp[nd,hr]
  ·simp[nd,hr]
  ·simp[nd,hr,iha f d ha]
  ·simp only[nd,hr,iha f d ha,e,ihb (f+sz a) d hb,List.map_append,List.map_cons,List.map_nil]
  ·simp only[nd,hr,iha f d ha,e,ihb (f+sz a) d hb,List.map_append,List.map_cons,List.map_nil]
theorem nd_zero (t:Ty) (h:Ok t) (d:Nat):nd t d=(nd t 0).map (zmb d):=by
 have:=nd_shift t 0 d h;rwa [Nat.zero_add] at this
theorem zxz:∀(t:Ty) (f:Nat),Ok t->∀n∈nd t f,f<=n.a/\n.a<f+sz t/\f<=n.b/\n.b<f+sz t/\n.op<1300:=by
 intro t
 induction t with
 |nil=>intro f h;exact h.elim
 |node g o u a b iha ihb=>
  intro f h n hn;simp only[nd,z1y,List.mem_singleton] at hn;rcases h with ⟨rfl,rfl,rfl,rfl⟩|⟨rfl,rfl,rfl,rfl⟩|⟨rfl,ho,rfl,rfl⟩|⟨rfl,rfl,ha,rfl⟩|⟨rfl,rfl,ha,hb⟩|⟨rfl,rfl,ha,hb⟩
  ·rcases hn with (hn|hn)|rfl
   ·simp[nd] at hn
   ·simp[nd] at hn
   ·simp[rt,rtA,rtB,sz,sgn]
  ·rcases hn with (hn|hn)|rfl
   ·simp[nd] at hn
   ·simp[nd] at hn
   ·simp[rt,rtA,rtB,sz,sgn]
  ·rcases hn with (hn|hn)|rfl
   ·simp[nd] at hn
   ·simp[nd] at hn
   ·simp[rt,rtA,rtB,sz,sgn];omega
  ·rcases hn with (hn|hn)|rfl
   ·have:=iha f ha n hn
    simp only[sz];omega
   ·simp[nd] at hn
   ·have:=zaw ha
    simp[rt,rtA,rtB,sz,sgn];omega
  ·rcases hn with (hn|hn)|rfl
   ·have:=iha f ha n hn
    simp only[sz];omega
   ·have:=ihb (f+sz a) hb n hn
    simp only[sz];omega
   ·have:=zaw ha
    have:=zaw hb;simp[rt,rtA,rtB,sz,sgn];omega
  ·rcases hn with (hn|hn)|rfl
   ·have:=iha f ha n hn
    simp only[sz];omega
   ·have:=ihb (f+sz a) hb n hn
    simp only[sz];omega
   ·have:=zaw ha
    have:=zaw hb;simp[rt,rtA,rtB,sz,sgn];omega
theorem zib (t:Ty) (h:Ok t) (f:Nat):(nd t f)[sz t-1]? =some (rt t f):=by
 cases t with
 |nil=>exact h.elim
 |node g o u a b=>
  have e:sz (Go.Deep.BT.node g o u a b)-1=(nd a f++nd b (f+sz a)).length:=by simp[sz,zaj]
  rw[e];simp only[nd];rw[List.getElem?_append_right (z1d _)];simp
def ops:Ty->List Nat
 | .nil=>[]
 | .node g o _ a b=>sgn g o::(ops b++ops a)
theorem ops_nd:∀(t:Ty) (f:Nat),((nd t f).map (·.op)).reverse=ops t:=by
 intro t
 induction t with
 |nil=>intro f;rfl
 |node g o u a b iha ihb=>intro f;simp[nd,ops,iha,ihb,rt]
theorem ops_inj:∀(x y:Ty) (r r':List Nat),Ok x->Ok y->ops x++r=ops y++r'->x=y/\r=r':=by
 intro x
 induction x with
 |nil=>intro y r r' h;exact h.elim
 |node g o u a b iha ihb=>
  intro y r r' hx hy h
  cases u
  rcases hx with ⟨rfl,rfl,rfl,rfl⟩|⟨rfl,rfl,rfl,rfl⟩|⟨rfl,ho,rfl,rfl⟩|⟨rfl,rfl,ha,rfl⟩|⟨rfl,rfl,ha,hb⟩|⟨rfl,rfl,ha,hb⟩<;>
  rcases hy.cases with rfl|rfl|⟨o',h1',h2',rfl⟩|⟨c,hc,rfl⟩|⟨c,d,hc,hd,rfl⟩|⟨c,d,hc,hd,rfl⟩<;>
  simp only[ops,sgn,List.nil_append,List.append_nil,List.cons_append,List.cons.injEq,z1u] at h
  all_goals first
   |(exfalso;obtain⟨h,_⟩:=h;simp at h;done)
   |(exfalso;obtain⟨h,_⟩:=h;simp at h;omega)
   |skip
  ·exact⟨rfl,h.2⟩
  ·exact⟨rfl,h.2⟩
  ·obtain⟨h1,h2⟩:=h
   simp at h1;subst h1;exact⟨rfl,h2⟩
  ·obtain⟨rfl,h2⟩:=iha c r r' ha hc h.2
   exact⟨rfl,h2⟩
  ·obtain⟨rfl,h2⟩:=ihb d _ _ hb hd h.2
   obtain⟨rfl,h3⟩:=iha c _ _ ha hc h2;exact⟨rfl,h3⟩
  ·obtain⟨rfl,h2⟩:=ihb d _ _ hb hd h.2
   obtain⟨rfl,h3⟩:=iha c _ _ ha hc h2;exact⟨rfl,h3⟩
theorem ops_eq {x y:Ty} (hx:Ok x) (hy:Ok y) (f f':Nat) (h:(nd x f).map (·.op)=(nd y f').map (·.op)):x=y:=by
 have e:ops x++[]=ops y++[]:=by rw[<-ops_nd x f,<-ops_nd y f',h]
 exact(ops_inj x y [] [] hx hy e).1
structure Rg (g:Nat) (t:Ty) (w:World):Prop where
 ok:Ok t
 lt:g<w.heap.size
 cell:∀k n,(nd t 0)[k]? =some n->w.cell? ⟨g,k*3,none⟩=some (iZ n.op)/\w.cell? ⟨g,k*3+1,none⟩=some (iZ n.a)/\w.cell? ⟨g,k*3+2,none⟩=some (iZ n.b)
section
variable {g:Nat} {row:Option Nat} {t:Ty} {w w':World}
theorem Rg.kept (h:Rg g t w) (hg:w.grownBy w' row) (hne:row≠some g):Rg g t w':=by
 refine⟨h.ok,z1e h.lt hg.size,λk n hk=>?_⟩;have hb:=hg.block g h.lt (Ne.symm hne);have e:∀j,w'.cell? ⟨g,j,none⟩=w.cell? ⟨g,j,none⟩:=λj=>z1s (w:=w) (a:=⟨g,j,none⟩) hb
 rw[e,e,e];exact h.cell k n hk
theorem Rg.below (h:Rg g t w) (hb:Below w.heap.size w w'):Rg g t w':=
 h.kept (row:=none) ⟨hb.os,hb.tape,hb.output,hb.size,λk hk _=>hb.block k hk⟩ (by simp)
theorem Rg.alloc (h:Rg g t w) (o:Obj):Rg g t (w.alloc o):=h.kept (z1p w o none) (by simp)
theorem ztg {a b c:World} {row':Option Nat} (h:a.grownBy b row) (k:b.grownBy c row') (hr:row'=row\/∃q,row'=some q/\a.heap.size<=q):a.grownBy c row:=by
 refine⟨k.os.trans h.os,k.tape.trans h.tape,k.output.trans h.output,z1c h.size k.size,λi hi hn=>?_⟩;refine(k.block i (z1e hi h.size) ?_).trans (h.block i hi hn);rcases hr with rfl|⟨q,rfl,hq⟩
 ·exact hn
 ·intro e;simp at e;omega
theorem zle:(Tryz.prog.info? 107).map (λi=>(i.zero,i.size,i.bytes))=some (some (.agg #[.int .i64 0,.int .i64 0,.int .i64 0]),3,24):=by kernel_rfl
theorem len_own {B:Nat} {vl:Value} {n:Nat} {xs:List Value} {e:TypeId} {m:Nat} (h:w.ownsRow B e m vl n xs) (w':World):(Builtin.len_ #[31] 3 #[vl]).run Tryz.prog w'=.ok (iZ n) w':=by
 rcases h.2 with ⟨rfl,rfl⟩|⟨g,cap,cur,rfl,_⟩
 ·kernel_rfl
 ·kernel_rfl
def CoPost (B:Nat) (us:List Nd) (vl:Value) (t:Ty) (w:World) (e:Ending) (w':World):Prop:=
 ∃v',e=.returned v'/\w'.ownsRow B 107 3 v' (us.length+sz t) (zea (us++nd t us.length))/\w.grownBy w' vl.ownBlock/\(v'.ownBlock=vl.ownBlock\/∃k,v'.ownBlock=some k/\w.heap.size<=k)
theorem zst (us:List Nd) (t:Ty) (N k:Nat) (n:Nd) (h:Ok t) (hn:(nd t 0)[k]? =some n):zea (us++(nd t N).take (k+1))=zea (us++(nd t N).take k)++Nd.cells (zmb N n):=by
 have e:(nd t N)[k]? =some (zmb N n):=by rw[nd_zero t h N,z1n,hn];rfl
 rw[List.take_add_one,e,<-z1u,zhf];simp[zea]
theorem nd_news (wr:World) (o:Obj) (op x y:Nat) (a b:Int) (ha:a=(x:Int)) (hb:b=(y:Int)):∀j u,(Nd.cells ⟨op,x,y⟩)[j]? =some u->
 ((wr.alloc o).alloc (.cells #[iZ op,.int .i64 a,.int .i64 b] 107)).cell? ((⟨wr.heap.size+1,0,none⟩:Addr).add j)=some u:=by
 subst ha;subst hb
 have hnb:((wr.alloc o).alloc (.cells #[iZ op,iZ x,iZ y] 107)).heap[wr.heap.size+1]? =some (.cells #[iZ op,iZ x,iZ y] 107 (0,0)):=by
  have:=z1v (wr.alloc o) (.cells #[iZ op,iZ x,iZ y] 107);simpa using this
 exact z1x hnb
theorem zww {wr w1:World} {o o':Obj} (h:((wr.alloc o).alloc o').grownBy w1 row):wr.grownBy w1 row:=
 ((z1p wr o row).trans (z1p _ o' row)).trans h
theorem zkh (B:Nat) (us:List Nd) (vl:Value) (g cap:Nat) (t:Ty) (w:World) (hown:w.ownsRow B 107 3 vl us.length (zea us)) (ht:Rg g t w) (hne:vl.ownBlock≠some g) (hB:B<=w.heap.size) (hl:us.length+sz t<=1000000):
 CZ 103 #[vl,.agg #[sZ g (sz t) cap]] w (CoPost B us vl t w):=by
 obtain⟨i0,hi0,hz0,hz1,hz2⟩:=info_parts zle;have hlen:=zaj t us.length;have hlen0:=zaj t 0;have hpos:=zaw ht.ok;have hrow:=hown.lt;have hbox:(w.alloc (.cells #[sZ g (sz t) cap] 33)).heap[w.heap.size]? =some (.cells #[sZ g (sz t) cap] 33 (0,0)):=z1v w _;have hln:=len_own hown;have W0:(w.alloc (.cells #[sZ g (sz t) cap] 33)).grownBy (w.alloc (.cells #[sZ g (sz t) cap] 33)) vl.ownBlock:=World.grownBy.refl _ _;go_enter Tryz.func103,Tryz.ntmps103
 go_wp2_with fail
 go_loopw [0,6] (λv i wr=>∃k:Nat,i=.int .i64 (k:Int)/\k<=sz t/\wr.ownsRow B 107 3 v (us.length+k) (zea (us++(nd t us.length).take k))/\(w.alloc (.cells #[sZ g (sz t) cap] 33)).grownBy wr vl.ownBlock/\(v.ownBlock=vl.ownBlock\/∃q,v.ownBlock=some q/\w.heap.size+1<=q)) (λ_ i _=>sz t-(intOf i).toNat)
 case atStart=>exact⟨0,rfl,Nat.zero_le _,by simpa using hown.alloc _,W0,.inl rfl⟩
 case round=>
  obtain⟨k,rfl,hk,ho,hg,hv⟩:=hrel
  have c0:wr.cell? ⟨w.heap.size,0,none⟩=some (sZ g (sz t) cap):=by
   rw[z1f ((hg.block w.heap.size (by simp) (λe=>by have:=hrow _ e.symm;omega)).trans hbox)];rfl
  rcases z1r k (sz t) with hlt|hge
  ·have hR:Rg g t wr:=(ht.alloc _).kept hg hne
   obtain⟨nn,hn⟩:∃n,(nd t 0)[k]? =some n:=⟨_,z1h (by omega)⟩
   obtain⟨k0,k1,k2⟩:=hR.cell k nn hn;have d1:decide ((k:Int)<(sz t:Int))=true:=by simp;omega
   obtain⟨op,na,nb⟩:=nn;have hbd:=zxz t 0 ht.ok _ (z1m hn);have b1:na<sz t:=by have:=hbd.2.1;simp at this;exact this
   have b2:nb<sz t:=by have:=hbd.2.2.2.1;simp at this;exact this
   have b3:op<1300:=hbd.2.2.2.2;clear hbd;have HN:=nd_news wr (.cells #[.int .i64 (op:Int),.int .i64 (na:Int),.int .i64 (nb:Int)] 107) op (na+us.length) (nb+us.length) ((na:Int)+(us.length:Int)) ((nb:Int)+(us.length:Int)) (by simp) (by simp);have hBr:B<=wr.heap.size:=by have:=hg.size;simp at this;omega
   have HT:Hid (zea (us++(nd t us.length).take (k+1))=zea (us++(nd t us.length).take k)++Nd.cells ⟨op,na+us.length,nb+us.length⟩):=zst us t us.length k _ ht.ok hn
   go_wp2_with (at_builtin;refine wpList_append_lies _ rfl _ _ 31 rfl B 107 i0 _ 3 24 Tryz.underlying31 hi0 hz0 hz1 hz2 rfl (by omega) u0 (us.length+k) _ rfl ((ho.alloc _).alloc _) ⟨wr.heap.size+1,0,none⟩ 1 1 (Nd.cells ⟨op,na+us.length,nb+us.length⟩) rfl rfl HN (by simp[Value.oneCell',Nd.cells]) (by omega) (by unfold maxLen;omega) (by omega) (by simp;omega) (wr.heap.size+2) (by simp) ?_;intro gg cap1 w1 hown1 hgrow1 hat1 hlt1)
   refine⟨⟨k+1,by simp,by omega,?_,ztg hg (zww hgrow1) (hv.imp id (λ⟨q,h1,h2⟩=>⟨q,h1,by simpa using h2⟩)),?_⟩,?_⟩
   ·rw[HT.out];exact hown1
   ·rcases hat1 with e|e
    ·rw[e] at hv;exact hv
    ·refine .inr ⟨gg,rfl,?_⟩
     have:=hg.size;simp at this;omega
   ·simp[intOf];omega
  ·obtain rfl:k=sz t:=by omega
   have d1:decide ((sz t:Int)<(sz t:Int))=false:=by simp
   have HT:Hid ((nd t us.length).take (sz t)=nd t us.length):=by unfold Hid;rw[<-hlen];exact List.take_length
   go_wp2_with fail
   go_ret;rw[HT.out] at ho;refine⟨u0,rfl,ho,?_,?_⟩
   ·exact(z1p w _ vl.ownBlock).trans hg
   ·exact hv.imp id (λ⟨q,h1,h2⟩=>⟨q,h1,by omega⟩)
end
end Go.Proofs.YtceadeaodbadlaaGreatDoor
