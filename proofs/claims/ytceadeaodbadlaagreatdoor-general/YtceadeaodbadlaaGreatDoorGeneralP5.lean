import Derived.Test.YtceadeaodbadlaaGreatDoorGeneralP4
import Derived.Laws.EntriesVeiled
import Derived.Deep.AppendLies
import Derived.Laws.MakeOwn
import Derived.Deep.OwnRows
import Derived.Deep.RegionWith
import Derived.Deep.RegionHeld3
import Derived.Test.YtceadeaodbadlaaGreatDoorProg
import Derived.WalkKit
import Derived.KernelRfl
set_option linter.unusedVariables false
set_option linter.unusedSimpArgs false
set_option maxRecDepth 100000
set_option maxHeartbeats 16000000
namespace Go.Proofs.YtceadeaodbadlaaGreatDoor
open Go.RowKit
variable {lo : Nat}
abbrev setO (lv:Int) (nx:Value):Obj:=.cells #[.pointer none,.int .i64 lv,nx] 316
theorem Vs.newS (lv:Int) (nx:Value) (w:World):Vs w.heap.size [] (w.alloc (setO lv nx)) (w.alloc (setO lv nx)):=
 ⟨rfl,rfl,rfl,rfl,⟨_,[.int .i64 lv,nx],_,by simp[VisT],z1v w _,z1v w _⟩,λ_ _=>rfl,λm h=>(by cases h),List.nodup_nil⟩
def StQ (lo B:Nat) (lv:Int) (NX:World->Nat->Prop) (s:Sta) (t:Ty) (w:World) (x:Value) (w':World):Prop:=
 ∃s' δ qs,NX w' s'.tk/\SeI lv s t s' δ qs/\SeW lo B lv s s' δ w w'/\Kc w' (usub δ t) x
theorem zol (B:Nat) (lv:Int) (K:Nat) (fs cs:Array Value) (NX:World->Nat->Prop) (gen:Gen lo B K fs cs NX) (s:Sta) (t:Ty) (v:Value) (c:Nat) (w:World) (hB:B<=w.heap.size) (hv:Ku w c t v) (hA:∀q,inU q t->q∈s.A) (hs:SW w s) (ht:tot s<=260) (hsz:sz t<=4000000000000000000) (hN:NX w s.tk):
 CZ 175 #[v,.int .i64 lv,.func (.func K) fs cs] w λe w'=>∃x,e=.returned x/\StQ lo B lv NX s t w x w':=by
 have b1:Below w.heap.size w (w.alloc (setO lv (.func (.func K) fs cs))):=bal w _;have k1:Kx [] w (w.alloc (setO lv (.func (.func K) fs cs))):=⟨b1.os,b1.tape,b1.output,b1.size,λq c T fz _ hq=>(b1.block q (z1a.1 hq).1).trans hq,λq l x hq=>⟨l,x,(b1.block q (z1a.1 hq).1).trans hq,λ_=>rfl⟩,λq hq _=>b1.block q hq⟩
 have hs1:SW (w.alloc (setO lv (.func (.func K) fs cs))) s:=λq hq=>(b1.block q (z1a.1 (hs q hq)).1).trans (hs q hq)
 have S:=settle_any w.heap.size B lv K fs cs NX gen hB (sz t) t (z1d _) hsz s [] (w.alloc (setO lv (.func (.func K) fs cs))) (w.alloc (setO lv (.func (.func K) fs cs))) v c (hv.blw b1) hA hs1 ht (Vs.newS lv _ w) ⟨⟨_,z1v w _⟩,λq k f hm=>by cases hm⟩ (gen.keep _ _ _ hN k1.z)
 have HF:Hid (∀(u w2:World) (x:Value) (s':Sta) (δ:Nat->Ty) (qs:List Nat),NX u s'.tk->SeI lv s t s' δ qs->SeW lo B lv s s' δ (w.alloc (setO lv (.func (.func K) fs cs))) u->Kc u (usub δ t) x->Ends w.heap.size u w2->StQ lo B lv NX s t w x w2):=by
  intro u w2 x s' δ qs hn hI hW hc hE;have hblk:∀(q:Nat) (o:Obj),q≠w.heap.size->u.heap[q]? =some o->w2.heap[q]? =some o:=λq o hq hh=>by rw[hE.blk q hq];exact hh
  have hsb:∃c,u.heap[w.heap.size]? =some (.cells c 316 (0,0)):=⟨_,hW.stl _ _ (z1v w _)⟩
  obtain⟨cs0,hsb⟩:=hsb
  have hneq:∀{q:Nat} {c:Array Value} {T:TypeId} {fz:Nat×Nat},T≠316->u.heap[q]? =some (.cells c T fz)->q≠w.heap.size:=by
   rintro q c T fz hT hq rfl;rw[hsb] at hq;simp at hq;exact hT hq.2.1.symm
  have hk2:Kz u w2:=⟨Nat.le_of_eq hE.size.symm,λq c T fz _ hT hq=>hblk q _ (hneq hT hq) hq⟩
  have hku:KeptU u w2:=λq c T hT hq=>hblk q _ (hneq (by rcases hT with rfl|rfl|rfl|rfl<;>decide) hq) hq
  have hW2:SeW lo B lv s s' δ w w2:=by
   refine⟨hE.os.trans hW.os,hE.tape.trans hW.tape,hE.output.trans hW.output,by have:=hE.size;have:=hW.size;have:=b1.size;omega,λq l x hq=>?_,λq c T hT hq=>hku q c T (by rcases hT with h|h|h;exact .inl h;exact .inr (.inl h);exact .inr (.inr (.inl h))) (hW.nod q c T hT ((b1.block q (z1a.1 hq).1).trans hq)),λq c hq=>?_,λq c T fz h1 h2 h3 hq=>?_,λq hq=>hku _ _ _ (.inr (.inr (.inr rfl))) (hW.sw q hq),λc t' v' hv' hA'=>(hW.ku c t' v' (hv'.blw b1) hA').kept hku,λq h1 h2 h3=>by rw[hE.blk q (by omega),hW.low q h1 (z1e h2 b1.size) h3];exact b1.block q h2,hW.sub⟩
   ·rcases hW.unk q l x ((b1.block q (z1a.1 hq).1).trans hq) with h|⟨h1,h2,x',h3,h4⟩
    ·exact .inl (hku _ _ _ (.inr (.inr (.inr rfl))) h)
    ·exact .inr ⟨h1,h2,x',h3,hku _ _ _ (.inr (.inr (.inr rfl))) h4⟩
   ·have hlt:=(z1a.1 hq).1
    exact hblk q _ (by omega) (hW.stl q c ((b1.block q hlt).trans hq))
   ·have hlt:=(z1a.1 hq).1
    exact hblk q _ (by omega) (hW.old q c T fz h1 h2 h3 ((b1.block q hlt).trans hq))
  exact⟨s',δ,qs,gen.keep _ _ _ hn hk2,hI,hW2,hc.kept hku⟩
 obtain⟨T,z,rfl⟩:=hv.iface;go_enter_defers Tryz.func175,Tryz.ntmps175;go_wp21;refine S.mono ?_;rintro e w1 ⟨x,rfl,L,u,s',δ,qs,hV,_,hn,hI,hW,hc⟩;obtain⟨Tx,zx,rfl⟩:=hc.iface;have HV:=hid hV;have HP:=hid (λw2 hE=>HF.out u w2 _ s' δ qs hn hI hW hc hE);go_wp21;refine leaves_cons (f:=198) (args:=#[pZ w.heap.size]) (by simp) (by simp[go_sem]) ?_;refine(zdx w.heap.size L u .returning w1 HV).mono ?_;rintro e u' w2 ⟨rfl,rfl,hE⟩;exact⟨_,results_tmp rfl _ _ _,.iface Tx zx,rfl,HP w2 hE⟩
abbrev finO (l k:Nat):Obj:=.cells #[.int .i64 (l:Int),.int .i64 (k:Int)] 222 (0,0)
theorem zko (fb l k:Nat) (w:World) (hf:w.heap[fb]? =some (finO l k)) (hk:k<260):
 CZ 176 #[pZ fb] w λe w'=>e=.returned (kv (zac k))/\Gb fb w w'/\w'.heap[fb]? =some (finO l (k+1)):=by
 have hlt:=(z1a.1 hf).1;have c0:(w.alloc (.cells #[.int .u8 0,.int .u8 0] 263)).cell? ⟨fb,1,none⟩=some (iZ k):=by rw[z1o _ _ ⟨fb,1,none⟩ hlt,z1f hf];rfl
 have N:=zks k hk (w.alloc (.cells #[.int .u8 0,.int .u8 0] 263));go_enter Tryz.func176,Tryz.ntmps176;go_wp21;refine N.mono ?_;rintro e w1 ⟨rfl,o1,e1⟩;have hf1:w1.heap[fb]? =some (finO l k):=by rw[e1,Lib.alloc_old _ _ _ (by simp;omega),Lib.alloc_old _ _ _ hlt];exact hf
 have hg1:Gb fb w w1:=by rw[e1];exact((Gb.refl fb w).alloc _).alloc _
 have hlt1:=(z1a.1 hf1).1;have hr1:w1.heap[w.heap.size]? =some (.cells #[.int .u8 0,.int .u8 0] 263 (0,0)):=by rw[e1,Lib.alloc_old _ _ _ (by simp)];exact z1v w _
 have hne:w.heap.size≠fb:=by omega
 obtain⟨r,hr⟩:∃r,r=w.heap.size:=⟨_,rfl⟩
 clear e1 N c0 hf;rw[<-hr] at hr1 hne;rw[<-hr];have hle:w.heap.size<=r:=by omega
 clear hr;have HKV:Hid (kv (zac k)=.agg #[.int .u8 ((zac k/10:Nat):Int),.int .u8 ((zac k % 10:Nat):Int)]):=rfl;unfold kv;have hkk:((k+1:Nat):Int)=(k:Int)+1:=by omega
 generalize ((zac k/10:Nat):Int)=x at *
 generalize ((zac k % 10:Nat):Int)=y at *
 have hf2:(w1.alloc (.cells #[.int .u8 x,.int .u8 y] 263)).heap[fb]? =some (finO l k):=by rw[Lib.alloc_old _ _ _ hlt1];exact hf1
 have d1:(w1.alloc (.cells #[.int .u8 x,.int .u8 y] 263)).cell? ⟨fb,1,none⟩=some (iZ k):=cbl hf2;have f1:=z1g hf2 1;have hrl:=(z1a.1 hr1).1;have hsz:(w1.setCell ⟨fb,1,none⟩ (.int .i64 ((k:Int)+1))).heap.size=w1.heap.size:=by simp[World.setCell]
 have hr3:(w1.setCell ⟨fb,1,none⟩ (.int .i64 ((k:Int)+1))).heap[r]? =some (.cells #[.int .u8 0,.int .u8 0] 263 (0,0)):=by
  rw[Below.heap_setCell _ _ _ _ (by show ¬_;simp;omega)];exact hr1
 have hr3a:((w1.setCell ⟨fb,1,none⟩ (.int .i64 ((k:Int)+1))).alloc (.cells #[.int .u8 x,.int .u8 y] 263)).heap[r]? =some (.cells #[.int .u8 0,.int .u8 0] 263 (0,0)):=by rw[Lib.alloc_old _ _ _ (by rw[hsz];exact hrl)];exact hr3
 have g0:((w1.setCell ⟨fb,1,none⟩ (.int .i64 ((k:Int)+1))).alloc (.cells #[.int .u8 x,.int .u8 y] 263)).cell? ⟨r,0,none⟩=some (.int .u8 0):=cbl hr3a;have g0f:=z1g hr3a 0
 have hr4:((w1.setCell ⟨fb,1,none⟩ (.int .i64 ((k:Int)+1))).setCell ⟨r,0,none⟩ (.int .u8 x)).heap[r]? =some (.cells #[.int .u8 x,.int .u8 0] 263 (0,0)):=by
  generalize (w1.setCell ⟨fb,1,none⟩ (.int .i64 ((k:Int)+1)))=wa at hr3;simp[World.setCell,z1i,hr3]
 have hsz2:((w1.setCell ⟨fb,1,none⟩ (.int .i64 ((k:Int)+1))).setCell ⟨r,0,none⟩ (.int .u8 x)).heap.size=w1.heap.size:=by simp[World.setCell]
 have hr4a:(((w1.setCell ⟨fb,1,none⟩ (.int .i64 ((k:Int)+1))).setCell ⟨r,0,none⟩ (.int .u8 x)).alloc (.cells #[.int .u8 x,.int .u8 y] 263)).heap[r]? =some (.cells #[.int .u8 x,.int .u8 0] 263 (0,0)):=by rw[Lib.alloc_old _ _ _ (by rw[hsz2];exact hrl)];exact hr4
 have g1:(((w1.setCell ⟨fb,1,none⟩ (.int .i64 ((k:Int)+1))).setCell ⟨r,0,none⟩ (.int .u8 x)).alloc (.cells #[.int .u8 x,.int .u8 y] 263)).cell? ⟨r,1,none⟩=some (.int .u8 0):=cbl hr4a;have g1f:=z1g hr4a 1
 have hr5:(((w1.setCell ⟨fb,1,none⟩ (.int .i64 ((k:Int)+1))).setCell ⟨r,0,none⟩ (.int .u8 x)).setCell ⟨r,1,none⟩ (.int .u8 y)).heap[r]? =some (.cells #[.int .u8 x,.int .u8 y] 263 (0,0)):=by
  generalize ((w1.setCell ⟨fb,1,none⟩ (.int .i64 ((k:Int)+1))).setCell ⟨r,0,none⟩ (.int .u8 x))=wa at hr4;simp[World.setCell,z1i,hr4]
 have hf5:(((w1.setCell ⟨fb,1,none⟩ (.int .i64 ((k:Int)+1))).setCell ⟨r,0,none⟩ (.int .u8 x)).setCell ⟨r,1,none⟩ (.int .u8 y)).heap[fb]? =some (finO l (k+1)):=by
  rw[Below.heap_setCell _ _ _ _ (by show ¬_;simp;omega),Below.heap_setCell _ _ _ _ (by show ¬_;simp;omega)];unfold finO;rw[hkk];simp[World.setCell,z1i,hf1]
 have hsz5:(((w1.setCell ⟨fb,1,none⟩ (.int .i64 ((k:Int)+1))).setCell ⟨r,0,none⟩ (.int .u8 x)).setCell ⟨r,1,none⟩ (.int .u8 y)).heap.size=w1.heap.size:=by simp[World.setCell]
 have hr6:((((w1.setCell ⟨fb,1,none⟩ (.int .i64 ((k:Int)+1))).setCell ⟨r,0,none⟩ (.int .u8 x)).setCell ⟨r,1,none⟩ (.int .u8 y)).alloc (.cells #[.int .u8 x,.int .u8 y] 263)).heap[r]? =some (.cells #[.int .u8 x,.int .u8 y] 263 (0,0)):=by rw[Lib.alloc_old _ _ _ (by rw[hsz5];exact hrl)];exact hr5
 have hf6:((((w1.setCell ⟨fb,1,none⟩ (.int .i64 ((k:Int)+1))).setCell ⟨r,0,none⟩ (.int .u8 x)).setCell ⟨r,1,none⟩ (.int .u8 y)).alloc (.cells #[.int .u8 x,.int .u8 y] 263)).heap[fb]? =some (finO l (k+1)):=by rw[Lib.alloc_old _ _ _ (by rw[hsz5];exact hlt1)];exact hf5
 have HG:Hid (Gb fb w ((((w1.setCell ⟨fb,1,none⟩ (.int .i64 ((k:Int)+1))).setCell ⟨r,0,none⟩ (.int .u8 x)).setCell ⟨r,1,none⟩ (.int .u8 y)).alloc (.cells #[.int .u8 x,.int .u8 y] 263))):=by
  have hh:=hg1.setCell 1 (.int .i64 ((k:Int)+1));refine⟨hg1.os,hg1.tape,hg1.output,by have:=hg1.size;simp[World.setCell];omega,λp hp hn=>?_⟩;rw[Lib.alloc_old _ _ _ (by rw[hsz5];have:=hg1.size;omega),Below.heap_setCell _ _ _ _ (by show ¬_;simp;omega),Below.heap_setCell _ _ _ _ (by show ¬_;simp;omega)];exact hh.block p hp hn
 go_wp21;refine zwg (g:=r) rfl rfl hr6 ?_;exact⟨by rw[HKV.out],HG.out,hf6⟩
end Go.Proofs.YtceadeaodbadlaaGreatDoor
namespace Go.Proofs.YtceadeaodbadlaaGreatDoor
open Go.RowKit
def nms (k0 n:Nat):List Nat:=(List.range n).map λi=>zac (k0+i)
section
variable (k0 n:Nat)
theorem zxc:nms k0 (n+1)=nms k0 n++[zac (k0+n)]:=by simp[nms,List.range_succ]
theorem nms_len:(nms k0 n).length=n:=by simp[nms]
def GT (T:TypeId):Prop:=T=222\/T=245\/T=181\/T=263\/T=286
structure Kq (B fb:Nat) (w w':World):Prop where
 os:w'.os=w.os
 tape:w'.tape=w.tape
 output:w'.output=w.output
 size:w.heap.size<=w'.heap.size
 low:∀q,q<B->q≠fb->w'.heap[q]? =w.heap[q]?
 rest:∀(q:Nat) (c:Array Value) (T:TypeId) (fz:Nat×Nat),¬GT T->w.heap[q]? =some (.cells c T fz)->w'.heap[q]? =some (.cells c T fz)
structure GX (B fb b0 b1 b2 l k0:Nat) (w:World) (k:Nat):Prop where
 le:k0<=k
 fin:w.heap[fb]? =some (finO l k)
 x0:w.heap[b0]? =some (.cells #[pZ fb] 271 (0,0))
 rows:∃V O,w.heap[b1]? =some (.cells #[V] 245 (0,0))/\w.heap[b2]? =some (.cells #[O] 181 (0,0))/\
  w.ownsRow B 263 2 V (k-k0) (zbo (nms k0 (k-k0)))/\w.ownsRow B 286 3 O (k-k0) (zfe ((nms k0 (k-k0)).map λo=>(o,0)))
 ge:B<=b1/\B<=b2/\fb<B/\B<=w.heap.size
theorem ziq {w:World} {B:Nat} {e:TypeId} {k n:Nat} {v:Value} {xs:List Value} (h:w.ownsRow B e k v n xs):∃sa m c,v=.slice sa m c:=by
 rcases h.2 with ⟨rfl,_⟩|⟨g,cap,cur,rfl,_⟩<;>exact⟨_,_,_,rfl⟩
theorem zru (B fb b0 b1 b2 l k0 k:Nat) (w:World) (h:GX B fb b0 b1 b2 l k0 w k) (hk:k<260):
 CZ 225 #[pZ b0,pZ b1,pZ b2] w λe w'=>e=.returned (kv (zac k))/\GX B fb b0 b1 b2 l k0 w' (k+1)/\Kq B fb w w':=by
 obtain⟨hle,hfin,hx0,⟨V,O,h1,h2,rV,rO⟩,g1,g2,g3,g4⟩:=h;obtain⟨iv,hiv0,hiv1,hiv2,hiv3⟩:=info_parts infoVar;obtain⟨io,hio0,hio1,hio2,hio3⟩:=info_parts infoOwn;have hb0:=(z1a.1 hx0).1;have hbf:=(z1a.1 hfin).1;have a0:(w.alloc (.cells #[.int .u8 0,.int .u8 0] 263)).cell? ⟨b0,0,none⟩=some (pZ fb):=by rw[z1o _ _ ⟨b0,0,none⟩ hb0,z1f hx0];rfl
 have VA:=zko fb l k (w.alloc (.cells #[.int .u8 0,.int .u8 0] 263)) (by rw[Lib.alloc_old _ _ _ hbf];exact hfin) hk;go_enter Tryz.func225,Tryz.ntmps225;go_wp21;refine VA.mono ?_;rintro e w1 ⟨rfl,gb1,hf1⟩;have sz1:=gb1.size;have sz1':w.heap.size<w1.heap.size:=by simp at sz1;omega
 have old1:∀q,q<w.heap.size->q≠fb->w1.heap[q]? =w.heap[q]?:=λq hq hn=>by rw[gb1.block q (by simp;omega) (by simpa using hn)];exact Lib.alloc_old _ _ _ hq
 have ob:∀{q:Nat} {c:Array Value} {T:TypeId} {fz:Nat×Nat},T≠222->w.heap[q]? =some (.cells c T fz)->w1.heap[q]? =some (.cells c T fz):=by
  intro q c T fz hT hq;rw[old1 q (z1a.1 hq).1 (by rintro rfl;rw[hfin] at hq;simp at hq;exact hT hq.2.1.symm)];exact hq
 have ownOf:∀{T:TypeId} {k n:Nat} {v:Value} {xs:List Value},T≠222->w.ownsRow B T k v n xs->w1.ownsRow B T k v n xs:=by
  rintro T k n v xs hT ⟨j1,j2|⟨g,cap,cur,e,hB,hg,h3⟩⟩
  ·exact⟨j1,.inl j2⟩
  ·exact⟨j1,.inr ⟨g,cap,cur,e,hB,ob hT hg,h3⟩⟩
 have hVg:∀g,V.ownBlock=some g->g<w.heap.size:=λg e=>by obtain⟨_,c,hc⟩:=zgo rV g e;exact(z1a.1 hc).1
 have hOg:∀g,O.ownBlock=some g->g<w.heap.size:=λg e=>by obtain⟨_,c,hc⟩:=zgo rO g e;exact(z1a.1 hc).1
 have hVB:∀g,V.ownBlock=some g->B<=g:=λg e=>(zgo rV g e).1
 have hOB:∀g,O.ownBlock=some g->B<=g:=λg e=>(zgo rO g e).1
 have h1':=ob (by decide) h1;have h2':=ob (by decide) h2;have hx0':=ob (by decide) hx0;have rV':=ownOf (by decide) rV;have rO':=ownOf (by decide) rO;have hr1:w1.heap[w.heap.size]? =some (.cells #[.int .u8 0,.int .u8 0] 263 (0,0)):=by rw[gb1.block _ (by simp) (by simp;omega)];exact z1v w _
 have hos:=gb1.os;have htp:=gb1.tape;have hout:=gb1.output;have HKV:Hid (kv (zac k)=.agg #[.int .u8 ((zac k/10:Nat):Int),.int .u8 ((zac k % 10:Nat):Int)]):=rfl
 have HVC:Hid (zbo (nms k0 (k+1-k0))=zbo (nms k0 (k-k0))++[.int .u8 ((zac k/10:Nat):Int),.int .u8 ((zac k % 10:Nat):Int)]):=by
  rw[show k+1-k0=(k-k0)+1 by omega,zxc,zin,show k0+(k-k0)=k by omega];rfl
 have HOC:Hid (zfe ((nms k0 (k+1-k0)).map λo=>(o,0))=zfe ((nms k0 (k-k0)).map λo=>(o,0))++[.int .u8 ((zac k/10:Nat):Int),.int .u8 ((zac k % 10:Nat):Int),.int .i64 ((0:Nat):Int)]):=by
  rw[show k+1-k0=(k-k0)+1 by omega,zxc,List.map_append,List.map_singleton,zpz,show k0+(k-k0)=k by omega];rfl
 have hln:k-k0<=260:=by omega
 unfold kv;generalize ((zac k/10:Nat):Int)=x at *
 generalize ((zac k % 10:Nat):Int)=y at *
 generalize hxs:zbo (nms k0 (k-k0))=xs at *
 generalize hys:zfe ((nms k0 (k-k0)).map λo=>(o,0))=ys at *
 have hk0:k+1-k0=(k-k0)+1:=by omega
 obtain⟨n,hn⟩:∃n,k-k0=n:=⟨_,rfl⟩
 rw[hn] at rV' rO' hln;have lb1:=(z1a.1 h1').1;have lb2:=(z1a.1 h2').1;have d1:(w1.alloc (.cells #[.int .u8 x,.int .u8 y] 263)).cell? ⟨b1,0,none⟩=some V:=by rw[z1o _ _ ⟨b1,0,none⟩ lb1,z1f h1'];rfl
 clear VA a0 hxs hys rV rO;have N1:∀(j:Nat) (u:Value),([.int .u8 x,.int .u8 y]:List Value)[j]? =some u->((w1.alloc (.cells #[.int .u8 x,.int .u8 y] 263)).alloc (.cells #[.int .u8 x,.int .u8 y] 263)).cell? ((⟨w1.heap.size+1,0,none⟩:Addr).add j)=some u:=z1x (heap_alloc2_new w1 _ _);have rVA:=(rV'.alloc (.cells #[.int .u8 x,.int .u8 y] 263)).alloc (.cells #[.int .u8 x,.int .u8 y] 263)
 have old2:∀{q:Nat} {ob:Obj},w1.heap[q]? =some ob->((w1.alloc (.cells #[.int .u8 x,.int .u8 y] 263)).alloc (.cells #[.int .u8 x,.int .u8 y] 263)).heap[q]? =some ob:=λhq=>
  (Below.heap_alloc _ _ _ (by have:=(z1a.1 hq).1;simp;omega)).trans ((Below.heap_alloc _ _ _ (z1a.1 hq).1).trans hq)
 have HOB:Hid ((∀g,V.ownBlock=some g->g<w.heap.size)/\(∀g,O.ownBlock=some g->g<w.heap.size)/\(∀g,V.ownBlock=some g->B<=g)/\∀g,O.ownBlock=some g->B<=g):=⟨hVg,hOg,hVB,hOB⟩
 clear hVg hOg hVB hOB
 go_wp2_with (at_builtin;refine wpList_append_lies _ rfl _ _ 245 rfl B 263 iv (.agg #[.int .u8 0,.int .u8 0]) 2 2 Tryz.underlying245 hiv0 hiv1 hiv2 hiv3 rfl (by decide) _ _ _ rfl rVA ⟨w1.heap.size+1,0,none⟩ 1 1 [.int .u8 x,.int .u8 y] rfl rfl N1 ?c2 (by decide) ?c3 ?c4 ?c5 (w1.heap.size+2) (by simp) ?_)
 case c2=>intro u hu;simp at hu;rcases hu with rfl|rfl<;>rfl
 case c3=>unfold maxLen;omega
 case c4=>omega
 case c5=>simp;omega
 intro gV capV w5 hownV hgV hatV hltV;obtain⟨hVg,hOg,hVB,hOB⟩:=HOB.out;have sz5:w1.heap.size+2<=w5.heap.size:=by have:=hgV.size;simpa using this
 have k5:∀q,q<w1.heap.size+2->V.ownBlock≠some q->w5.heap[q]? =((w1.alloc (.cells #[.int .u8 x,.int .u8 y] 263)).alloc (.cells #[.int .u8 x,.int .u8 y] 263)).heap[q]?:=λq hq hn=>hgV.block q (by simpa using hq) (λe=>hn e.symm)
 have of5:∀{q:Nat} {c:Array Value} {T:TypeId} {fz:Nat×Nat},T≠263->w1.heap[q]? =some (.cells c T fz)->w5.heap[q]? =some (.cells c T fz):=λhT hq=>zif rVA hgV hT (old2 hq)
 have b1_5:=of5 (by decide) h1';have b2_5:=of5 (by decide) h2';have x0_5:=of5 (by decide) hx0';have f_5:=of5 (by decide) hf1;have r_5:w5.heap[w.heap.size]? =some (.cells #[.int .u8 0,.int .u8 0] 263 (0,0)):=by rw[k5 _ (by omega) (λe=>by have:=hVg _ e;omega)];exact old2 hr1
 have v_5:w5.heap[w1.heap.size]? =some (.cells #[.int .u8 x,.int .u8 y] 263 (0,0)):=by
  rw[k5 _ (by omega) (λe=>by have:=hVg _ e;omega),Below.heap_alloc _ _ _ (by simp)];exact z1v w1 _
 have rO5:w5.ownsRow B 286 3 O n ys:=by
  obtain⟨j1,j2|⟨g,cap,cur,e,hB,hg,h3⟩⟩:=rO'
  ·exact⟨j1,.inl j2⟩
  ·exact⟨j1,.inr ⟨g,cap,cur,e,hB,of5 (by decide) hg,h3⟩⟩
 have gVr:gV≠w.heap.size/\gV≠w1.heap.size/\B<=gV:=by
  rcases hatV with e|e
  ·have:=hVg _ e;have:=hVB _ e;omega
  ·omega
 have low5:∀q,q<B->q≠fb->w5.heap[q]? =w.heap[q]?:=λq hq hne=>by
  have h2:q<w.heap.size:=by omega
  rw[k5 q (by omega) (λe=>by have:=hVB _ e;omega),Below.heap_alloc _ _ _ (by simp;omega),Below.heap_alloc _ _ _ (by omega)];exact old1 q h2 hne
 have rest5:∀(q:Nat) (c:Array Value) (T:TypeId) (fz:Nat×Nat),¬GT T->w.heap[q]? =some (.cells c T fz)->w5.heap[q]? =some (.cells c T fz):=λq c T fz hT hq=>of5 (λe=>hT (.inr (.inr (.inr (.inl e))))) (ob (λe=>hT (.inl e)) hq)
 have os5:w5.os=w.os:=hgV.os.trans hos;have tp5:w5.tape=w.tape:=hgV.tape.trans htp;have out5:w5.output=w.output:=hgV.output.trans hout;have lb2_5:=(z1a.1 b2_5).1;have hb12:b1≠b2:=by rintro rfl;rw[h1] at h2;simp at h2
 have c1a:cZ w5 b1 0 V:=cbl b1_5;have c1f:w5.frozen? ⟨b1,0,none⟩=false:=z1g b1_5 0
 --behind the first store
 have s6:(w5.setCell ⟨b1,0,none⟩ (sZ gV (n+1) capV)).heap.size=w5.heap.size:=by simp[World.setCell]
 have k6:∀q,q≠b1->(w5.setCell ⟨b1,0,none⟩ (sZ gV (n+1) capV)).heap[q]? =w5.heap[q]?:=λq hq=>Below.heap_setCell _ _ _ _ (by show ¬_;simp;omega)
 have b1_6:(w5.setCell ⟨b1,0,none⟩ (sZ gV (n+1) capV)).heap[b1]? =some (.cells #[sZ gV (n+1) capV] 245 (0,0)):=by simp[World.setCell,z1i,b1_5]
 have nb1:∀{q:Nat} {c:Array Value} {T:TypeId} {fz:Nat×Nat},T≠245->w5.heap[q]? =some (.cells c T fz)->q≠b1:=by
  rintro q c T fz hT hq rfl;rw[b1_5] at hq;simp at hq;exact hT hq.2.1.symm
 have of6:∀{q:Nat} {c:Array Value} {T:TypeId} {fz:Nat×Nat},T≠245->w5.heap[q]? =some (.cells c T fz)->(w5.setCell ⟨b1,0,none⟩ (sZ gV (n+1) capV)).heap[q]? =some (.cells c T fz):=λhT hq=>by rw[k6 _ (nb1 hT hq)];exact hq
 have rO6:(w5.setCell ⟨b1,0,none⟩ (sZ gV (n+1) capV)).ownsRow B 286 3 O n ys:=by
  obtain⟨j1,j2|⟨g,cap,cur,e,hB,hg,h3⟩⟩:=rO5
  ·exact⟨j1,.inl j2⟩
  ·exact⟨j1,.inr ⟨g,cap,cur,e,hB,of6 (by decide) hg,h3⟩⟩
 have rV6:(w5.setCell ⟨b1,0,none⟩ (sZ gV (n+1) capV)).ownsRow B 263 2 (sZ gV (n+1) capV) (n+1) (xs++[.int .u8 x,.int .u8 y]):=by
  obtain⟨j1,j2|⟨g,cap,cur,e,hB,hg,h3⟩⟩:=hownV
  ·exact⟨j1,.inl j2⟩
  ·exact⟨j1,.inr ⟨g,cap,cur,e,hB,of6 (by decide) hg,h3⟩⟩
 have b2_6:=of6 (by decide) b2_5;have x0_6:=of6 (by decide) x0_5;have f_6:=of6 (by decide) f_5;have r_6:=of6 (by decide) r_5;have v_6:=of6 (by decide) v_5;have low6:∀q,q<B->q≠fb->(w5.setCell ⟨b1,0,none⟩ (sZ gV (n+1) capV)).heap[q]? =w.heap[q]?:=λq hq hne=>by rw[k6 q (by omega)];exact low5 q hq hne
 have rest6:∀(q:Nat) (c:Array Value) (T:TypeId) (fz:Nat×Nat),¬GT T->w.heap[q]? =some (.cells c T fz)->(w5.setCell ⟨b1,0,none⟩ (sZ gV (n+1) capV)).heap[q]? =some (.cells c T fz):=λq c T fz hT hq=>of6 (λe=>hT (.inr (.inl e))) (rest5 q c T fz hT hq)
 have e2a:(w5.setCell ⟨b1,0,none⟩ (sZ gV (n+1) capV)).cell? ⟨b2,0,none⟩=some O:=cbl b2_6;have e3a:(w5.setCell ⟨b1,0,none⟩ (sZ gV (n+1) capV)).cell? ⟨w1.heap.size,0,none⟩=some (.int .u8 x):=cbl v_6;have e3b:(w5.setCell ⟨b1,0,none⟩ (sZ gV (n+1) capV)).cell? ⟨w1.heap.size,1,none⟩=some (.int .u8 y):=cbl v_6;clear rVA old2 k5 of5 hgV hownV hatV d1 N1 low5 rest5 b1_5 b2_5 x0_5 f_5 r_5 v_5 rO5 h1' h2' hx0' rV' rO' gb1 hf1 hr1 old1 ob ownOf h1 h2 hx0 hfin
 have N2:∀(j:Nat) (u:Value),([.int .u8 x,.int .u8 y,.int .i64 0]:List Value)[j]? =some u->((w5.setCell ⟨b1,0,none⟩ (sZ gV (n+1) capV)).alloc (.cells #[.int .u8 x,.int .u8 y,.int .i64 0] 286)).cell? ((⟨w5.heap.size,0,none⟩:Addr).add j)=some u:=by
  have:=z1x (z1v (w5.setCell ⟨b1,0,none⟩ (sZ gV (n+1) capV)) (.cells #[.int .u8 x,.int .u8 y,.int .i64 0] 286));rw[s6] at this;exact this
 have rOA:=rO6.alloc (.cells #[.int .u8 x,.int .u8 y,.int .i64 0] 286);have HX:Hid ((∀g,O.ownBlock=some g->g<w.heap.size)/\(∀g,O.ownBlock=some g->B<=g)):=⟨hOg,hOB⟩
 clear hVg hOg hVB hOB HOB
 go_wp2_with (at_builtin;refine wpList_append_lies _ rfl _ _ 181 rfl B 286 io (.agg #[.int .u8 0,.int .u8 0,.int .i64 0]) 3 16 Tryz.underlying181 hio0 hio1 hio2 hio3 rfl (by decide) _ _ _ rfl rOA ⟨w5.heap.size,0,none⟩ 1 1 [.int .u8 x,.int .u8 y,.int .i64 0] rfl rfl N2 ?c2 (by decide) ?c3 ?c4 ?c5 (w5.heap.size+1) (by simp[s6]) ?_)
 case c2=>intro u hu;simp at hu;rcases hu with rfl|rfl|rfl<;>rfl
 case c3=>unfold maxLen;omega
 case c4=>omega
 case c5=>simp[s6];omega
 intro gO capO w7 hownO hgO hatO hltO;obtain⟨hOg,hOB⟩:=HX.out;have sz7:w5.heap.size+1<=w7.heap.size:=by have:=hgO.size;simpa [s6] using this
 have old6:∀{q:Nat} {ob:Obj},(w5.setCell ⟨b1,0,none⟩ (sZ gV (n+1) capV)).heap[q]? =some ob->((w5.setCell ⟨b1,0,none⟩ (sZ gV (n+1) capV)).alloc (.cells #[.int .u8 x,.int .u8 y,.int .i64 0] 286)).heap[q]? =some ob:=λhq=>(Below.heap_alloc _ _ _ (z1a.1 hq).1).trans hq
 have of7:∀{q:Nat} {c:Array Value} {T:TypeId} {fz:Nat×Nat},T≠286->(w5.setCell ⟨b1,0,none⟩ (sZ gV (n+1) capV)).heap[q]? =some (.cells c T fz)->w7.heap[q]? =some (.cells c T fz):=λhT hq=>zif rOA hgO hT (old6 hq)
 have b1_7:=of7 (by decide) b1_6;have b2_7:=of7 (by decide) b2_6;have x0_7:=of7 (by decide) x0_6;have f_7:=of7 (by decide) f_6;have r_7:=of7 (by decide) r_6;have v_7:=of7 (by decide) v_6
 have rV7:w7.ownsRow B 263 2 (sZ gV (n+1) capV) (n+1) (xs++[.int .u8 x,.int .u8 y]):=by
  obtain⟨j1,j2|⟨g,cap,cur,e,hB,hg,h3⟩⟩:=rV6
  ·exact⟨j1,.inl j2⟩
  ·exact⟨j1,.inr ⟨g,cap,cur,e,hB,of7 (by decide) hg,h3⟩⟩
 have low7:∀q,q<B->q≠fb->w7.heap[q]? =w.heap[q]?:=λq hq hne=>by
  rw[hgO.block q (by simp[s6];omega) (λe=>by have:=hOB _ e.symm;omega),Below.heap_alloc _ _ _ (by rw[s6];omega)];exact low6 q hq hne
 have rest7:∀(q:Nat) (c:Array Value) (T:TypeId) (fz:Nat×Nat),¬GT T->w.heap[q]? =some (.cells c T fz)->w7.heap[q]? =some (.cells c T fz):=λq c T fz hT hq=>of7 (λe=>hT (.inr (.inr (.inr (.inr e))))) (rest6 q c T fz hT hq)
 have os7:w7.os=w.os:=hgO.os.trans os5;have tp7:w7.tape=w.tape:=hgO.tape.trans tp5;have out7:w7.output=w.output:=hgO.output.trans out5;obtain⟨r,hr⟩:∃r,r=w.heap.size:=⟨_,rfl⟩
 rw[<-hr] at r_7 gVr;rw[<-hr];have hle':w.heap.size<=r:=by omega
 have hrl:r<w1.heap.size:=by omega
 obtain⟨v,hv⟩:∃v,v=w1.heap.size:=⟨_,rfl⟩
 rw[<-hv] at v_7 hrl;rw[<-hv];have hszw:w.heap.size<=w7.heap.size:=by omega
 have rb2:r≠b2:=by rintro rfl;rw[r_7] at b2_7;simp at b2_7
 have c2a:cZ w7 b2 0 O:=cbl b2_7;have c2f:w7.frozen? ⟨b2,0,none⟩=false:=z1g b2_7 0;have k8:∀q,q≠b2->(w7.setCell ⟨b2,0,none⟩ (sZ gO (n+1) capO)).heap[q]? =w7.heap[q]?:=λq hq=>Below.heap_setCell _ _ _ _ (by show ¬_;simp;omega)
 have nb2:∀{q:Nat} {c:Array Value} {T:TypeId} {fz:Nat×Nat},T≠181->w7.heap[q]? =some (.cells c T fz)->q≠b2:=by
  rintro q c T fz hT hq rfl;rw[b2_7] at hq;simp at hq;exact hT hq.2.1.symm
 have of8:∀{q:Nat} {c:Array Value} {T:TypeId} {fz:Nat×Nat},T≠181->w7.heap[q]? =some (.cells c T fz)->(w7.setCell ⟨b2,0,none⟩ (sZ gO (n+1) capO)).heap[q]? =some (.cells c T fz):=λhT hq=>by rw[k8 _ (nb2 hT hq)];exact hq
 have v_8:=of8 (by decide) v_7;have r_8:=of8 (by decide) r_7;have b2_8:(w7.setCell ⟨b2,0,none⟩ (sZ gO (n+1) capO)).heap[b2]? =some (.cells #[sZ gO (n+1) capO] 181 (0,0)):=by simp[World.setCell,z1i,b2_7]
 have d8a:(w7.setCell ⟨b2,0,none⟩ (sZ gO (n+1) capO)).cell? ⟨v,0,none⟩=some (.int .u8 x):=cbl v_8;have d8b:(w7.setCell ⟨b2,0,none⟩ (sZ gO (n+1) capO)).cell? ⟨v,1,none⟩=some (.int .u8 y):=cbl v_8;have d8c:(w7.setCell ⟨b2,0,none⟩ (sZ gO (n+1) capO)).cell? ⟨r,0,none⟩=some (.int .u8 0):=cbl r_8;have d8f:(w7.setCell ⟨b2,0,none⟩ (sZ gO (n+1) capO)).frozen? ⟨r,0,none⟩=false:=z1g r_8 0
 have r_9:((w7.setCell ⟨b2,0,none⟩ (sZ gO (n+1) capO)).setCell ⟨r,0,none⟩ (.int .u8 x)).heap[r]? =some (.cells #[.int .u8 x,.int .u8 0] 263 (0,0)):=by
  generalize (w7.setCell ⟨b2,0,none⟩ (sZ gO (n+1) capO))=wa at r_8;simp[World.setCell,z1i,r_8]
 have d9c:((w7.setCell ⟨b2,0,none⟩ (sZ gO (n+1) capO)).setCell ⟨r,0,none⟩ (.int .u8 x)).cell? ⟨r,1,none⟩=some (.int .u8 0):=cbl r_9;have d9f:((w7.setCell ⟨b2,0,none⟩ (sZ gO (n+1) capO)).setCell ⟨r,0,none⟩ (.int .u8 x)).frozen? ⟨r,1,none⟩=false:=z1g r_9 1
 have r_10:(((w7.setCell ⟨b2,0,none⟩ (sZ gO (n+1) capO)).setCell ⟨r,0,none⟩ (.int .u8 x)).setCell ⟨r,1,none⟩ (.int .u8 y)).heap[r]? =some (.cells #[.int .u8 x,.int .u8 y] 263 (0,0)):=by
  generalize ((w7.setCell ⟨b2,0,none⟩ (sZ gO (n+1) capO)).setCell ⟨r,0,none⟩ (.int .u8 x))=wa at r_9;simp[World.setCell,z1i,r_9]
 have k10:∀q,q≠r->(((w7.setCell ⟨b2,0,none⟩ (sZ gO (n+1) capO)).setCell ⟨r,0,none⟩ (.int .u8 x)).setCell ⟨r,1,none⟩ (.int .u8 y)).heap[q]? =(w7.setCell ⟨b2,0,none⟩ (sZ gO (n+1) capO)).heap[q]?:=λq hq=>by
  rw[Below.heap_setCell _ _ _ _ (by show ¬_;simp;omega),Below.heap_setCell _ _ _ _ (by show ¬_;simp;omega)]
 have nr:∀{q:Nat} {c:Array Value} {T:TypeId} {fz:Nat×Nat},T≠263->(w7.setCell ⟨b2,0,none⟩ (sZ gO (n+1) capO)).heap[q]? =some (.cells c T fz)->q≠r:=by
  rintro q c T fz hT hq rfl;rw[r_8] at hq;simp at hq;exact hT hq.2.1.symm
 have HP:Hid (GX B fb b0 b1 b2 l k0 (((w7.setCell ⟨b2,0,none⟩ (sZ gO (n+1) capO)).setCell ⟨r,0,none⟩ (.int .u8 x)).setCell ⟨r,1,none⟩ (.int .u8 y)) (k+1)/\Kq B fb w (((w7.setCell ⟨b2,0,none⟩ (sZ gO (n+1) capO)).setCell ⟨r,0,none⟩ (.int .u8 x)).setCell ⟨r,1,none⟩ (.int .u8 y))):=by
  have g8:=λ{q:Nat} {c:Array Value} {T:TypeId} {fz:Nat×Nat} (hT:T≠263) (hT':T≠181) (hq:w7.heap[q]? =some (.cells c T fz))=>(show (((w7.setCell ⟨b2,0,none⟩ (sZ gO (n+1) capO)).setCell ⟨r,0,none⟩ (.int .u8 x)).setCell ⟨r,1,none⟩ (.int .u8 y)).heap[q]? =some (.cells c T fz) by rw[k10 q (nr hT (of8 hT' hq))];exact of8 hT' hq)
  refine⟨⟨by omega,g8 (by decide) (by decide) f_7,g8 (by decide) (by decide) x0_7,⟨_,_,g8 (by decide) (by decide) b1_7,by rw[k10 b2 (Ne.symm rb2)];exact b2_8,?_,?_⟩,g1,g2,g3,?_⟩,⟨os7,tp7,out7,?_,λq hq hne=>?_,λq c T fz hT hq=>?_⟩⟩
  ·rw[HVC.out,hk0,hn]
   obtain⟨j1,⟨j2,j3⟩|⟨g,cap,cur,e,hB,hg,h3⟩⟩:=rV7
   ·exact absurd j3 (by omega)
   ·have eg:g=gV:=by simp at e;exact e.1.symm
    subst eg;exact⟨j1,.inr ⟨g,cap,cur,e,hB,by rw[k10 g gVr.1];exact of8 (by decide) hg,h3⟩⟩
  ·rw[HOC.out,hk0,hn]
   obtain⟨j1,⟨j2,j3⟩|⟨g,cap,cur,e,hB,hg,h3⟩⟩:=hownO
   ·exact absurd j3 (by omega)
   ·exact⟨j1,.inr ⟨g,cap,cur,e,hB,g8 (by decide) (by decide) hg,h3⟩⟩
  ·simp[World.setCell];omega
  ·simp[World.setCell];omega
  ·rw[k10 q (by omega),k8 q (by omega)];exact low7 q hq hne
  ·exact g8 (λe=>hT (.inr (.inr (.inr (.inl e))))) (λe=>hT (.inr (.inr (.inl e)))) (rest7 q c T fz hT hq)
 clear hr hv rOA old6 of7 hgO hownO hatO N2 low7 rest7 k8 nb2 of8 k10 nr rV7 b1_7 b2_7 x0_7 f_7 r_7 v_7 v_8 b2_8 r_8 r_9 low6 rest6 k6 nb1 of6 rO6 rV6 b1_6 b2_6 x0_6 f_6 r_6 v_6 e2a e3a e3b c1a c1f HVC HOC hn hk0;go_wp21;refine zwg (g:=r) rfl rfl r_10 ?_;exact⟨by rw[HKV.out],HP.out.1,HP.out.2⟩
end
end Go.Proofs.YtceadeaodbadlaaGreatDoor
namespace Go.Proofs.YtceadeaodbadlaaGreatDoor
open Go.RowKit
variable {lo : Nat}
section
variable {L:Mks} {vb B:Nat} {u w w':World}
theorem Vs.over (h:Vs vb L u w) (hs:w.heap.size<=w'.heap.size) (hk:∀q,q=vb\/q∈L.map (·.1)->w'.heap[q]? =w.heap[q]?):
 ∃u',Vs vb L u' w'/\u'.os=w'.os/\u'.tape=w'.tape/\u'.output=w'.output/\u'.heap.size=w'.heap.size/\(∀q,q=vb\/q∈L.map (·.1)->u'.heap[q]? =u.heap[q]?)/\(∀q,q≠vb->q∉L.map (·.1)->u'.heap[q]? =w'.heap[q]?):=by
 have hd:∀q,Decidable (q=vb\/q∈L.map (·.1)):=λq=>Classical.propDecidable _
 let H:Array Obj:=Array.ofFn (n:=w'.heap.size) λi=>if (i.val=vb\/i.val∈L.map (·.1)) then (u.heap[i.val]?).getD w'.heap[i] else w'.heap[i]
 have hH:H.size=w'.heap.size:=by simp[H]
 have lt:∀q,q=vb\/q∈L.map (·.1)->q<u.heap.size:=by
  rintro q (rfl|hq)
  ·obtain⟨T0,r,x,_,hu,_⟩:=h.vis;exact(z1a.1 hu).1
  ·obtain⟨m,hm,rfl⟩:=z1z.1 hq
   obtain⟨⟨o,ho,_⟩,_⟩:=h.nds m hm;exact(z1a.1 ho).1
 have sz:=h.size
 have k1:∀q,q=vb\/q∈L.map (·.1)->H[q]? =u.heap[q]?:=by
  intro q hq;have l:=lt q hq;have l2:q<w'.heap.size:=by omega
  rw[Array.getElem?_eq_getElem (by rw[hH];exact l2),Array.getElem?_eq_getElem l];simp only[H,Array.getElem_ofFn];rw[if_pos hq,Array.getElem?_eq_getElem l];rfl
 have k2:∀q,q≠vb->q∉L.map (·.1)->H[q]? =w'.heap[q]?:=by
  intro q h1 h2;by_cases l:q<w'.heap.size
  ·rw[Array.getElem?_eq_getElem (by rw[hH];exact l),Array.getElem?_eq_getElem l]
   simp only[H,Array.getElem_ofFn];rw[if_neg (λh=>h.elim h1 h2)];rfl
  ·rw[Array.getElem?_eq_none (by omega),Array.getElem?_eq_none (by omega)]
 refine⟨{w' with heap:=H},⟨rfl,rfl,rfl,hH.symm,?_,λq hq=>?_,λm hm=>?_,h.nodup⟩,rfl,rfl,rfl,hH,k1,k2⟩
 ·obtain⟨T0,r,x,hT0,hu,hv⟩:=h.vis
  exact⟨T0,r,x,hT0,(k1 vb (.inl rfl)).trans hu,(hk vb (.inl rfl)).trans hv⟩
 ·show w'.heap[q]? =zbi L q H[q]?
  by_cases hm:q∈L.map (·.1)
  ·rw[hk q (.inr hm),k1 q (.inr hm)];exact h.blk q hq
  ·rw[zbx hm,k2 q hq hm]
 ·obtain⟨⟨o,ho,hn⟩,hx⟩:=h.nds m hm
  exact⟨⟨o,(k1 m.1 (.inr (z1z.2 ⟨m,hm,rfl⟩))).trans ho,hn⟩,hx⟩
theorem Vs.inL {q:Nat} (h:Vs vb L u w) (hq:q∈L.map (·.1)):∃c c' T,u.heap[q]? =some (.cells c T (0,0))/\w.heap[q]? =some (.cells c' T (0,0))/\¬VisT T:=by
 obtain⟨m,hm,rfl⟩:=z1z.1 hq;obtain⟨⟨o,ho,hn⟩,_⟩:=h.nds m hm;obtain⟨c,T,c',e,hw,_⟩:=h.at_node ho hn;obtain⟨c2,T2,e2,hT,_⟩:=hn.cells;rw[e] at e2;simp at e2;obtain⟨rfl,rfl⟩:=e2;exact⟨c,c',T,by rw[<-e];exact ho,hw,hT⟩
theorem zkw:zcn 176:=enters_of Tryz.func176 (by kernel_rfl) rfl
theorem zkv:zcn 225:=enters_of Tryz.func225 (by kernel_rfl) rfl
theorem Kq.kg {fb sb:Nat} (k:Kq B fb w w') (hV:Vs sb L u w) (hsb:∃c,u.heap[sb]? =some (.cells c 316 (0,0))) (hfT:∃c,w.heap[fb]? =some (.cells c 222 (0,0))) (hlB:lo<=B) (hlo:lo<=fb):
 ∃u',Vs sb L u' w'/\Kg lo B u u'/\(∀q,q≠sb->q∉L.map (·.1)->u'.heap[q]? =w'.heap[q]?):=by
 obtain⟨cs,hsb⟩:=hsb;obtain⟨T0,r0,x0,hT0,hu0,hv0⟩:=hV.vis;have eT:T0=316:=by rw[hsb] at hu0;simp at hu0;exact hu0.2.symm
 have hsz:=hV.size
 have kk:∀q,q=sb\/q∈L.map (·.1)->w'.heap[q]? =w.heap[q]?:=by
  rintro q (rfl|hq)
  ·rw[hv0];exact k.rest _ _ _ _ (by rw[eT];simp[GT]) hv0
  ·obtain⟨c,c',T,_,h2,h3⟩:=hV.inL hq
   rw[h2];refine k.rest _ _ _ _ ?_ h2;rintro(rfl|rfl|rfl|rfl|rfl)<;>exact h3 (by simp[VisT])
 obtain⟨u',g1,g2,g3,g4,g5,g6,g7⟩:=hV.over k.size kk
 have oth:∀{q:Nat} {c:Array Value} {T:TypeId} {fz:Nat×Nat},¬GT T->u.heap[q]? =some (.cells c T fz)->u'.heap[q]? =some (.cells c T fz):=by
  intro q c T fz hT hq;by_cases h1:q=sb\/q∈L.map (·.1)
  ·rw[g6 q h1];exact hq
  ·rw[not_or] at h1
   rw[g7 q h1.1 h1.2];refine k.rest _ _ _ _ hT ?_;rw[hV.blk q h1.1,zbx h1.2];exact hq
 refine⟨u',g1,⟨g2.trans (k.os.trans hV.os),g3.trans (k.tape.trans hV.tape),g4.trans (k.output.trans hV.output),by have:=k.size;omega,λq l x hq=>oth (by simp[GT]) hq,λq c T hT hq=>oth ?_ hq,λq c hq=>oth (by simp[GT]) hq,λq c T fz h1 h2 hq=>?_,λq h1 h2=>?_⟩,g7⟩
 ·rcases hT with rfl|rfl|rfl<;>simp[GT]
 ·by_cases h3:q=sb\/q∈L.map (·.1)
  ·rw[g6 q h3];exact hq
  ·rw[not_or] at h3
   have hw:w.heap[q]? =some (.cells c T fz):=by rw[hV.blk q h3.1,zbx h3.2];exact hq
   rw[g7 q h3.1 h3.2,k.low q h1 ?_]
   ·exact hw
   ·rintro rfl
    obtain⟨cf,hf⟩:=hfT;rw[hf] at hw;simp at hw;exact h2 hw.2.1.symm
 ·by_cases h3:q=sb\/q∈L.map (·.1)
  ·exact g6 q h3
  ·rw[not_or] at h3
   rw[g7 q h3.1 h3.2,k.low q (by omega) (by omega),hV.blk q h3.1,zbx h3.2]
theorem gen_var (B fb l:Nat) (hB:fb<B) (hlo:lo<=fb):Gen lo B 176 #[pZ fb] #[] (λu k=>u.heap[fb]? =some (finO l k)):=by
 refine⟨zkw,λu u' k h hz=>hz.2 _ _ _ _ (by decide) (by decide) h,λsb L u w k hV hsb hBs hN hk=>?_⟩;obtain⟨cs,hsb'⟩:=hsb;have hne:fb≠sb:=by rintro rfl;rw[hsb'] at hN;simp at hN
 have hw:=hV.other hN (by simp[VisT]) hne;show Calls _ _ #[pZ fb] _ _;refine(zko fb l k w hw hk).mono ?_;rintro e w' ⟨rfl,gb,hf⟩;refine⟨rfl,?_⟩
 have kq:Kq B fb w w':=by
  refine⟨gb.os,gb.tape,gb.output,gb.size,λq hq hn=>?_,λq c T fz hT hq=>gb.old hq ?_⟩
  ·have l':sb<w.heap.size:=by obtain⟨T0,r0,x0,_,_,hv0⟩:=hV.vis;exact(z1a.1 hv0).1
   exact gb.block q (by omega) (by simpa using hn)
  ·rintro rfl;rw[hw] at hq;simp at hq;exact hT (.inl hq.2.1.symm)
 obtain⟨u',g1,g2,g3⟩:=kq.kg (lo:=lo) hV ⟨cs,hsb'⟩ ⟨_,hw⟩ (by omega) hlo;refine⟨u',g1,?_,g2⟩;rw[g3 fb hne (λhm=>by obtain⟨c,c',T,h1,_,h3⟩:=hV.inL hm;rw[hN] at h1;simp at h1;exact h3 (by rw[<-h1.2];simp[VisT]))];exact hf
theorem zci {T:TypeId} {k n:Nat} {v:Value} {xs:List Value} (hk:∀(g:Nat) (c:Array Value),w.heap[g]? =some (.cells c T (0,0))->w'.heap[g]? =some (.cells c T (0,0))) (h:w.ownsRow B T k v n xs):w'.ownsRow B T k v n xs:=by
 obtain⟨h1,h2|⟨g,cap,cur,e,hB,hg,h3⟩⟩:=h
 ·exact⟨h1,.inl h2⟩
 ·exact⟨h1,.inr ⟨g,cap,cur,e,hB,hk _ _ hg,h3⟩⟩
theorem zul (B fb b0 b1 b2 l k0:Nat) (hlo:lo<=fb):Gen lo B 225 #[] #[pZ b0,pZ b1,pZ b2] (GX B fb b0 b1 b2 l k0):=by
 refine⟨zkv,λu u' k h hz=>?_,λsb L u w k hV hsb hBs hN hk=>?_⟩
 ·obtain⟨h1,h2,h3,⟨V,O,h4,h5,h6,h7⟩,g1,g2,g3,g4⟩:=h
  exact⟨h1,hz.2 _ _ _ _ (by decide) (by decide) h2,hz.2 _ _ _ _ (by decide) (by decide) h3,⟨V,O,hz.2 _ _ _ _ (by decide) (by decide) h4,hz.2 _ _ _ _ (by decide) (by decide) h5,zci (λg c hg=>hz.2 _ _ _ _ (by decide) (by decide) hg) h6,zci (λg c hg=>hz.2 _ _ _ _ (by decide) (by decide) hg) h7⟩,g1,g2,g3,z1c g4 hz.1⟩
 ·obtain⟨cs,hsb'⟩:=hsb
  have tow:∀{q:Nat} {c:Array Value} {T:TypeId},T≠316->VisT T->u.heap[q]? =some (.cells c T (0,0))->w.heap[q]? =some (.cells c T (0,0)):=λhT hv hq=>hV.other hq hv (by rintro rfl;rw[hsb'] at hq;simp at hq;exact hT hq.2.symm)
  have hW:GX B fb b0 b1 b2 l k0 w k:=by
   obtain⟨h1,h2,h3,⟨V,O,h4,h5,h6,h7⟩,g1,g2,g3,g4⟩:=hN;exact⟨h1,tow (by decide) (by simp[VisT]) h2,tow (by decide) (by simp[VisT]) h3,⟨V,O,tow (by decide) (by simp[VisT]) h4,tow (by decide) (by simp[VisT]) h5,zci (λg c hg=>tow (by decide) (by simp[VisT]) hg) h6,zci (λg c hg=>tow (by decide) (by simp[VisT]) hg) h7⟩,g1,g2,g3,by rw[hV.size];exact g4⟩
  have ea:(#[]:Array Value)++#[pZ b0,pZ b1,pZ b2]=#[pZ b0,pZ b1,pZ b2]:=by simp
  rw[ea];refine(zru B fb b0 b1 b2 l k0 k w hW hk).mono ?_;rintro e w' ⟨rfl,hX,kq⟩;obtain⟨u',e1,e2,e3⟩:=kq.kg (lo:=lo) hV ⟨cs,hsb'⟩ ⟨_,hW.fin⟩ (by have:=hW.ge.2.2.1;omega) hlo;refine⟨rfl,u',e1,?_,e2⟩;obtain⟨T0,r0,x0,hT0,hu0,hv0⟩:=hV.vis;have eT:T0=316:=by rw[hsb'] at hu0;simp at hu0;exact hu0.2.symm
  have hv1:=kq.rest _ _ _ _ (show ¬GT T0 by rw[eT];simp[GT]) hv0
  have tou:∀{q:Nat} {c:Array Value} {T:TypeId},GT T\/T=271->w'.heap[q]? =some (.cells c T (0,0))->u'.heap[q]? =some (.cells c T (0,0)):=by
   intro q c T hT hq;rw[e3 q ?_ ?_]
   ·exact hq
   ·rintro rfl
    rw[hv1] at hq;simp at hq;have:=hq.2;rw[eT] at this;subst this;revert hT;simp[GT]
   ·intro hm
    obtain⟨c1,c2,T1,h1,h2,h3⟩:=hV.inL hm;have h4:=kq.rest _ _ _ _ (show ¬GT T1 by rintro(rfl|rfl|rfl|rfl|rfl)<;>exact h3 (by simp[VisT])) h2
    rw[h4] at hq;simp at hq;obtain⟨_,rfl⟩:=hq;rcases hT with (rfl|rfl|rfl|rfl|rfl)|rfl<;>exact h3 (by simp[VisT])
  obtain⟨h1,h2,h3,⟨V,O,h4,h5,h6,h7⟩,g1,g2,g3,g4⟩:=hX;exact⟨h1,tou (.inl (.inl rfl)) h2,tou (.inr rfl) h3,⟨V,O,tou (.inl (.inr (.inl rfl))) h4,tou (.inl (.inr (.inr (.inl rfl)))) h5,zci (λg c hg=>tou (.inl (.inr (.inr (.inr (.inl rfl))))) hg) h6,zci (λg c hg=>tou (.inl (.inr (.inr (.inr (.inr rfl))))) hg) h7⟩,g1,g2,g3,by have:=e1.size;omega⟩
end
end Go.Proofs.YtceadeaodbadlaaGreatDoor
namespace Go.Proofs.YtceadeaodbadlaaGreatDoor
open Go.RowKit
structure AtNewU (b:Nat) (T:TypeId) (z:Value) (sv sg:Option Addr) (vl cv gl cg:Nat) (R:World->Value->Prop) (g0 k0:Value) (Q:Ending->World->Prop) (w:World):Prop where
 rif:∀w x,R w x->∃T z,x=.iface T z
 c0:w.cell? ⟨b,0,none⟩=some (.iface T z)
 c1:w.cell? ⟨b,1,none⟩=some (.slice sv vl cv)
 pp:CZ 218 #[.iface T z,.slice sv vl cv,.slice sg gl cg] w.drew λe w'=>∃x,e=.returned x/\R w' x/\Below w.heap.size w w'
 hf:∀w2 x,Below w.heap.size w w2->R w2 x->w2.cell? ⟨b,0,none⟩=some (.iface T z)/\w2.cell? ⟨b,1,none⟩=some (.slice sv vl cv)/\w2.cell? ⟨b,3,none⟩=some g0/\w2.frozen? ⟨b,3,none⟩=false/\(w2.setCell ⟨b,3,none⟩ (.slice sg gl cg)).cell? ⟨b,4,none⟩=some k0/\(w2.setCell ⟨b,3,none⟩ (.slice sg gl cg)).frozen? ⟨b,4,none⟩=false/\
  (w2.setCell ⟨b,3,none⟩ (.slice sg gl cg)).cell? ⟨b,0,none⟩=some (.iface T z)/\(w2.setCell ⟨b,3,none⟩ (.slice sg gl cg)).cell? ⟨b,1,none⟩=some (.slice sv vl cv)/\
  ((w2.setCell ⟨b,3,none⟩ (.slice sg gl cg)).setCell ⟨b,4,none⟩ x).cell? ⟨b,0,none⟩=some (.iface T z)/\((w2.setCell ⟨b,3,none⟩ (.slice sg gl cg)).setCell ⟨b,4,none⟩ x).cell? ⟨b,1,none⟩=some (.slice sv vl cv)/\
  ((w2.setCell ⟨b,3,none⟩ (.slice sg gl cg)).setCell ⟨b,4,none⟩ x).cell? ⟨b,4,none⟩=some x/\
  Hid (Q (.returned x) ((w2.setCell ⟨b,3,none⟩ (.slice sg gl cg)).setCell ⟨b,4,none⟩ x))
section
variable (b:Nat) (T:TypeId) (z:Value) (sv sg:Option Addr) (vl cv gl cg:Nat)
theorem at_newU (R:World->Value->Prop) (g0 k0:Value) (Q:Ending->World->Prop) (w:World) (H:AtNewU b T z sv sg vl cv gl cg R g0 k0 Q w) (c4:w.cell? ⟨b,4,none⟩=some .nilIface):
 CZ 191 #[pZ b,(.slice sg gl cg)] w Q:=by
 have HRI:=hid H.rif;have c0:=H.c0;have c1:=H.c1;have PP:=H.pp;have HF:=hid H.hf;clear H;go_enter Tryz.func191,Tryz.ntmps191
 go_wp2_with fail
 refine wp_region_held_drew (S:=(λwq=>cZ wq b 0 (.iface T z)/\cZ wq b 1 (.slice sv vl cv))) (by kernel_rfl) (⟨c0,c1⟩) (λhS=>?_);refine tkS 0 (pZ b) hS ?_;refine tkS 1 (pZ b) hS ?_;refine tkS 2 (.slice sg gl cg) hS ?_;refine tkS 3 (pZ b) hS ?_;refine tkS 4 (pZ b) hS ?_;refine tkS 5 (pZ b) hS ?_;refine tkL 6 (.iface T z) hS ?_;refine tkS 7 (pZ b) hS ?_;refine tkS 8 (pZ b) hS ?_;refine tkS 9 (.pointer (some ⟨b,1,none⟩)) hS ?_;refine tkL 10 (.slice sv vl cv) hS ?_;refine tkS 11 (.slice sg gl cg) hS ?_;refine rd1 12 (λKK hK=>?_)
 (try simp only[List.getElem_toArray,List.getElem_cons_succ,List.getElem_cons_zero])
 go_simp;go_at_call 218;refine(PP).mono ?_;rintro e w2 ⟨x,rfl,hx,hb2⟩;obtain⟨c0,c1,HR⟩:=HF.out w2 x hb2 hx;obtain⟨Tx,zx,rfl⟩:=HRI.out _ _ hx;clear hx;obtain⟨g3,z3,g4,z4,e0,e1,f0,f1,fl,HR⟩:=HR
 (try dsimp only)
 refine hK.out _ _ ⟨c0,c1⟩ (λhS=>nrm ?_);refine tkS 13 (pZ b) hS ?_;refine tkS 14 (.pointer (some ⟨b,3,none⟩)) hS ?_;refine rd1 15 (λKK hK=>?_)
 (try simp only[List.getElem_toArray,List.getElem_cons_succ,List.getElem_cons_zero])
 go_simp
 (try dsimp only)
 refine hK.out _ _ ⟨e0,e1⟩ (λhS=>nrm ?_);refine tkS 16 (pZ b) hS ?_;refine tkS 17 (.pointer (some ⟨b,4,none⟩)) hS ?_;refine rd1 18 (λKK hK=>?_)
 (try simp only[List.getElem_toArray,List.getElem_cons_succ,List.getElem_cons_zero])
 go_simp
 (try dsimp only)
 refine hK.out _ _ ⟨f0,f1⟩ (λhS=>nrm ?_);refine wpAnyH_done (by kernel_rfl) ?_ _
 go_wp2_with fail
 exact HR.out
theorem ztr (R:World->Value->Prop) (g0 k0:Value) (Q:Ending->World->Prop) (Tk:TypeId) (zk:Value) (s0:Option Addr) (l0 c0':Nat) (w:World) (c3:w.cell? ⟨b,3,none⟩=some (.slice s0 l0 c0')) (c4:w.cell? ⟨b,4,none⟩=some (.iface Tk zk)) (EF:CZ 217 #[.slice s0 l0 c0',(.slice sg gl cg),.func (.func 162) #[] #[]] w λe w'=>∃r:Bool,e=.returned (.bool r)/\
  Hid ((r=false->AtNewU b T z sv sg vl cv gl cg R g0 k0 Q w')/\(r=true->w'.cell? ⟨b,4,none⟩=some (.iface Tk zk)/\Q (.returned (.iface Tk zk)) w'))):
 CZ 191 #[pZ b,(.slice sg gl cg)] w Q:=by
 go_enter Tryz.func191,Tryz.ntmps191
 go_wp2_with fail
 refine EF.mono ?_;rintro e w1 ⟨r,rfl,HH⟩
 cases r
 case true=>
  obtain⟨d4,hQ⟩:=HH.out.2 rfl;clear HH;have HR:Hid _:=hQ;clear hQ
  go_wp2_with fail
  exact HR.out
 case false=>
 have H:=HH.out.1 rfl;clear HH c3 c4;have HRI:=hid H.rif;have c0:=H.c0;have c1:=H.c1;have PP:=H.pp;have HF:=hid H.hf;clear H
 go_wp2_with fail
 refine wp_region_held_drew (S:=(λwq=>cZ wq b 0 (.iface T z)/\cZ wq b 1 (.slice sv vl cv))) (by kernel_rfl) (⟨c0,c1⟩) (λhS=>?_);refine tkS 0 (pZ b) hS ?_;refine tkS 1 (pZ b) hS ?_;refine tkS 2 (.slice sg gl cg) hS ?_;refine tkS 3 (pZ b) hS ?_;refine tkS 4 (pZ b) hS ?_;refine tkS 5 (pZ b) hS ?_;refine tkL 6 (.iface T z) hS ?_;refine tkS 7 (pZ b) hS ?_;refine tkS 8 (pZ b) hS ?_;refine tkS 9 (.pointer (some ⟨b,1,none⟩)) hS ?_;refine tkL 10 (.slice sv vl cv) hS ?_;refine tkS 11 (.slice sg gl cg) hS ?_;refine rd1 12 (λKK hK=>?_)
 (try simp only[List.getElem_toArray,List.getElem_cons_succ,List.getElem_cons_zero])
 go_simp;go_at_call 218;refine(PP).mono ?_;rintro e w2 ⟨x,rfl,hx,hb2⟩;obtain⟨c0,c1,HR⟩:=HF.out w2 x hb2 hx;obtain⟨Tx,zx,rfl⟩:=HRI.out _ _ hx;clear hx;obtain⟨g3,z3,g4,z4,e0,e1,f0,f1,fl,HR⟩:=HR
 (try dsimp only)
 refine hK.out _ _ ⟨c0,c1⟩ (λhS=>nrm ?_);refine tkS 13 (pZ b) hS ?_;refine tkS 14 (.pointer (some ⟨b,3,none⟩)) hS ?_;refine rd1 15 (λKK hK=>?_)
 (try simp only[List.getElem_toArray,List.getElem_cons_succ,List.getElem_cons_zero])
 go_simp
 (try dsimp only)
 refine hK.out _ _ ⟨e0,e1⟩ (λhS=>nrm ?_);refine tkS 16 (pZ b) hS ?_;refine tkS 17 (.pointer (some ⟨b,4,none⟩)) hS ?_;refine rd1 18 (λKK hK=>?_)
 (try simp only[List.getElem_toArray,List.getElem_cons_succ,List.getElem_cons_zero])
 go_simp
 (try dsimp only)
 refine hK.out _ _ ⟨f0,f1⟩ (λhS=>nrm ?_);refine wpAnyH_done (by kernel_rfl) ?_ _
 go_wp2_with fail
 exact HR.out
end
def Kp (w:World) (c:Nat) (t:Ty) (v:Value):Prop:=∀R:Nat->Ty->Value->Prop,KC w (λq t=>Ku w 1 t (viU q)/\zbc t) R->R c t v
section
variable {gs:List Ty} {q c d:Nat} {a b t:Ty} {x y v Gs:Value} {w w':World} (o:Nat)
theorem Kp.I:Kp w 1 tI viI:=λ_ k=>k.I
theorem Kp.B:Kp w 1 tB viB:=λ_ k=>k.B
theorem Kp.V:Kp w 1 (tV o) (viV o):=λ_ k=>k.V o
theorem Kp.L (h:w.heap[q]? =some (obL (c+1) x)) (h1:Kp w c a x):Kp w (c+1) (tL a) (viL q):=λ_ k=>k.L h (h1 _ k)
theorem Kp.P (h:w.heap[q]? =some (obP (c+d+1) x y)) (h1:Kp w c a x) (h2:Kp w d b y):Kp w (c+d+1) (tP a b) (viP q):=λ_ k=>k.P h (h1 _ k) (h2 _ k)
theorem Kp.F (h:w.heap[q]? =some (obF (c+d+1) x y)) (h1:Kp w c a x) (h2:Kp w d b y):Kp w (c+d+1) (tF a b) (viF q):=λ_ k=>k.F h (h1 _ k) (h2 _ k)
theorem Kp.U (h:Ku w 1 t (viU q)) (hp:zbc t):Kp w 1 t (viU q):=λ_ k=>k.U ⟨h,hp⟩
theorem Kp.cs {M:∀c t v,Kp w c t v->Prop} (I:∀h,M 1 tI viI h) (B:∀h,M 1 tB viB h) (V:∀o h,M 1 (tV o) (viV o) h) (L:∀{q c:Nat} {x:Value} {a:Ty},w.heap[q]? =some (obL (c+1) x)->Kp w c a x->∀h,M (c+1) (tL a) (viL q) h) (P:∀{q c d:Nat} {x y:Value} {a b:Ty},w.heap[q]? =some (obP (c+d+1) x y)->Kp w c a x->Kp w d b y->∀h,M (c+d+1) (tP a b) (viP q) h) (F:∀{q c d:Nat} {x y:Value} {a b:Ty},w.heap[q]? =some (obF (c+d+1) x y)->Kp w c a x->Kp w d b y->∀h,M (c+d+1) (tF a b) (viF q) h) (U:∀{q:Nat} {t:Ty},Ku w 1 t (viU q)->zbc t->∀h,M 1 t (viU q) h) (h:Kp w c t v):M c t v h:=
 (h (λc t v=>Kp w c t v/\∀h,M c t v h) ⟨⟨.I,I⟩,⟨.B,B⟩,λo=>⟨.V o,V o⟩,λh h1=>⟨.L h h1.1,L h h1.1⟩,λh h1 h2=>⟨.P h h1.1 h2.1,P h h1.1 h2.1⟩,λh h1 h2=>⟨.F h h1.1 h2.1,F h h1.1 h2.1⟩,λh=>⟨.U h.1 h.2,U h.1 h.2⟩⟩).2 h
theorem Kp.ku (h:Kp w c t v):Ku w c t v:=λR k=>h R ⟨k.I,k.B,k.V,k.L,k.P,k.F,λh=>h.1 R k⟩
theorem Kp.kept (hk:KeptU w w') (h:Kp w c t v):Kp w' c t v:=λR k=>h R ⟨k.I,k.B,k.V,λh=>k.L (hk _ _ _ (.inl rfl) h),λh=>k.P (hk _ _ _ (.inr (.inl rfl)) h),λh=>k.F (hk _ _ _ (.inr (.inr (.inl rfl))) h),λh=>k.U ⟨h.1.kept hk,h.2⟩⟩
theorem Kp.step {A:List Nat} {δ:Nat->Ty} (hn:KeptN w w') (hk:KuStep A δ w w') (h:Kp w c t v):(∀q,inU q t->q∈A)->(∀q,inU q t->zbc (δ q))->Kp w' c (usub δ t) v:=
 h (λc t v=>(∀q,inU q t->q∈A)->(∀q,inU q t->zbc (δ q))->Kp w' c (usub δ t) v) ⟨λ_ _=> .I,λ_ _=> .B,λo _ _=> .V o,
  λh ih hA hp=> .L (hn _ _ _ (.inl rfl) h) (ih (λq h=>hA q (by simpa using h)) (λq h=>hp q (by simpa using h))),
  λh i1 i2 hA hp=> .P (hn _ _ _ (.inr (.inl rfl)) h) (i1 (λq h=>hA q (by rw[inU_P];exact .inl h)) (λq h=>hp q (by rw[inU_P];exact .inl h))) (i2 (λq h=>hA q (by rw[inU_P];exact .inr h)) (λq h=>hp q (by rw[inU_P];exact .inr h))),
  λh i1 i2 hA hp=> .F (hn _ _ _ (.inr (.inr rfl)) h) (i1 (λq h=>hA q (by rw[inU_F];exact .inl h)) (λq h=>hp q (by rw[inU_F];exact .inl h))) (i2 (λq h=>hA q (by rw[inU_F];exact .inr h)) (λq h=>hp q (by rw[inU_F];exact .inr h))),
  λh hA hp=> .U (hk _ _ _ h.1 hA) (zet h.2 hp)⟩
theorem Kc.kp (h:Kc w t v):Kp w (sz t) t v:=λR k=>h R ⟨k.I,k.B,k.V,k.L,k.P,k.F,λ⟨e,_,h⟩=>e ▸ k.U ⟨.U h,zel _⟩⟩
theorem zpg (v:List Nat) (g:List Ty):∀{t:Ty},zbc t->putT v g t=t:=by
 intro t;unfold putT
 induction t with
 |nil=>intro _;rfl
 |node k o u a b iha ihb=>
  intro h;simp only[sub,if_neg h.1];rw[iha h.2.1,ihb h.2.2]
theorem putT_L (v:List Nat) (g:List Ty) (a:Ty):putT v g (tL a)=tL (putT v g a):=by simp[putT,sub]
theorem putT_P (v:List Nat) (g:List Ty) (a b:Ty):putT v g (tP a b)=tP (putT v g a) (putT v g b):=by simp[putT,sub]
theorem putT_F (v:List Nat) (g:List Ty) (a b:Ty):putT v g (tF a b)=tF (putT v g a) (putT v g b):=by simp[putT,sub]
def Grow' (w:World) (Gs:Value) (gs:List Ty):Prop:=∃sa cap,Gs=.slice sa gs.length cap/\(gs=[]\/∃g c,sa=some ⟨g,0,none⟩/\w.heap[g]? =some (.cells c 94 (0,0))/\∀(j:Nat) (t:Ty),gs[j]? =some t->∃x d,c[j]? =some x/\Ku w d t x)
theorem Grow'.below (h:Grow' w Gs gs) (hb:Below w.heap.size w w'):Grow' w' Gs gs:=by
 obtain⟨sa,cap,e,h⟩:=h;refine⟨sa,cap,e,?_⟩;rcases h with h|⟨g,c,e2,hg,hc⟩
 ·exact .inl h
 ·refine .inr ⟨g,c,e2,(hb.block g (z1a.1 hg).1).trans hg,λj t hj=>?_⟩
  obtain⟨x,d,h1,h2⟩:=hc j t hj;exact⟨x,d,h1,h2.blw hb⟩
structure PU (pb:Nat) (vars:List Nat) (gs:List Ty) (V Gs:Value) (u:World) (L:Mks):Prop where
 blk:∃x,u.heap[pb]? =some (.cells #[x,V,Gs] 341 (0,0))
 vr:VarRow u V vars
 tr:Grow' u Gs gs
 gd:∀q k f,(q,k,f)∈L->∃c t v d,Ku u c t v/\NdV v q k/\Kp u c t v/\Ku u d (putT vars gs t) f
theorem PU.bel {pb:Nat} {vars:List Nat} {V:Value} {u u':World} {L:Mks} (h:PU pb vars gs V Gs u L) (hb:Below u.heap.size u u'):PU pb vars gs V Gs u' L:=by
 obtain⟨x,hx⟩:=h.blk;refine⟨⟨x,(hb.block pb (z1a.1 hx).1).trans hx⟩,h.vr.below hb,h.tr.below hb,λq k f hm=>?_⟩;obtain⟨c,t,v,d,h1,h2,h3,h4⟩:=h.gd q k f hm;exact⟨c,t,v,d,h1.blw hb,h2,h3.kept (Below.keptU hb),h4.blw hb⟩
def PuQ (pb:Nat) (vars:List Nat) (gs:List Ty) (V Gs:Value) (t:Ty) (u:World) (x':Value) (w':World):Prop:=
 ∃L' u' d,Vs pb L' u' w'/\PU pb vars gs V Gs u' L'/\Below u.heap.size u u'/\Ku u' d (putT vars gs t) x'
theorem inPlaceU (pb:Nat) (vars:List Nat) (V:Value) (sg:Option Addr) (gl cap gb:Nat) (T:TypeId) (z:Value) (w:World) (o:Nat) (hl:vars.length<=1000000) (ho:o∈vars) (hvr:VarRow w V vars) (n:Value) (hb:w.heap[pb]? =some (.cells #[n,V,sZ gb gl cap] 341 (0,0))) (hig:zbb o vars<gl) (hx:w.cell? ⟨gb,zbb o vars,none⟩=some (.iface T z)):
 CZ 239 #[pZ pb,kv o] w λe w'=>e=.returned (.iface T z)/\Below w.heap.size w w':=by
 have B0:Below w.heap.size w (w.alloc (.cells #[.int .u8 ((o/10:Nat):Int),.int .u8 ((o % 10:Nat):Int)] 263)):=bal w _;have hlt:=(z1a.1 hb).1;have hgl:=World.block_lt_of_cell? w _ hx;have c1:cZ w pb 1 V:=cbl hb;have c2:cZ w pb 2 (sZ gb gl cap):=cbl hb;have IX:Hid (CZ 244 #[V,kv o] (w.alloc (.cells #[.int .u8 ((o/10:Nat):Int),.int .u8 ((o % 10:Nat):Int)] 263)).drew λe w'=>e=.returned (.int .i64 (idxI o vars))/\Below (w.alloc (.cells #[.int .u8 ((o/10:Nat):Int),.int .u8 ((o % 10:Nat):Int)] 263)).drew.heap.size (w.alloc (.cells #[.int .u8 ((o/10:Nat):Int),.int .u8 ((o % 10:Nat):Int)] 263)).drew w'):=index_any V vars o _ (hvr.below B0.drew) hl;have e1:(w.alloc (.cells #[.int .u8 ((o/10:Nat):Int),.int .u8 ((o % 10:Nat):Int)] 263)).cell? ⟨pb,1,none⟩=some V:=by rw[z1o _ _ ⟨pb,1,none⟩ hlt];exact c1
 have d0:(w.alloc (.cells #[.int .u8 ((o/10:Nat):Int),.int .u8 ((o % 10:Nat):Int)] 263)).cell? ⟨w.heap.size,0,none⟩=some (.int .u8 ((o/10:Nat):Int)):=by simp
 have d1:(w.alloc (.cells #[.int .u8 ((o/10:Nat):Int),.int .u8 ((o % 10:Nat):Int)] 263)).cell? ⟨w.heap.size,1,none⟩=some (.int .u8 ((o % 10:Nat):Int)):=by simp
 have HB:Hid (∀w1,Below (w.alloc (.cells #[.int .u8 ((o/10:Nat):Int),.int .u8 ((o % 10:Nat):Int)] 263)).drew.heap.size (w.alloc (.cells #[.int .u8 ((o/10:Nat):Int),.int .u8 ((o % 10:Nat):Int)] 263)).drew w1->cZ w1 pb 1 V/\cZ w1 w.heap.size 0 (.int .u8 ((o/10:Nat):Int))/\cZ w1 w.heap.size 1 (.int .u8 ((o % 10:Nat):Int))):=λw1 hb=>
  ⟨(hb.cell (p:=⟨pb,1,none⟩) (by show pb<_;simp;omega)).trans e1,(hb.cell (p:=⟨w.heap.size,0,none⟩) (by show w.heap.size<_;simp)).trans d0,(hb.cell (p:=⟨w.heap.size,1,none⟩) (by show w.heap.size<_;simp)).trans d1⟩
 have hI:idxI o vars=(zbb o vars:Int):=by unfold idxI;rw[if_pos ho]
 rw[hI] at IX
 have HF:Hid (∀w1,Below (w.alloc (.cells #[.int .u8 ((o/10:Nat):Int),.int .u8 ((o % 10:Nat):Int)] 263)).drew.heap.size (w.alloc (.cells #[.int .u8 ((o/10:Nat):Int),.int .u8 ((o % 10:Nat):Int)] 263)).drew w1->cZ w1 pb 2 (sZ gb gl cap)/\cZ w1 gb (zbb o vars) (.iface T z)/\Below w.heap.size w w1):=by
  intro w1 hb;have hb1:=B0.trans (Below.mono (show Below (w.alloc (.cells #[.int .u8 ((o/10:Nat):Int),.int .u8 ((o % 10:Nat):Int)] 263)).heap.size (w.alloc (.cells #[.int .u8 ((o/10:Nat):Int),.int .u8 ((o % 10:Nat):Int)] 263)) w1 from ⟨hb.os,hb.tape,hb.output,hb.size,hb.block⟩) (by simp));exact⟨(hb1.cell (p:=⟨pb,2,none⟩) hlt).trans c2,(hb1.cell (p:=⟨gb,zbb o vars,none⟩) hgl).trans hx,hb1⟩
 generalize zbb o vars=i at *
 obtain⟨sa,cap0,rfl,_⟩:∃sa cap,V=.slice sa vars.length cap/\True:=by obtain⟨sa,cap,h,_⟩:=hvr;exact⟨sa,cap,h,trivial⟩
 generalize vars.length=vl at *
 unfold kv at *
 generalize ((o/10:Nat):Int)=x at *
 generalize ((o % 10:Nat):Int)=y at *
 go_enter Tryz.func239,Tryz.ntmps239;go_wp21;refine wp_region_held_drew (S:=(λwq=>cZ wq pb 1 (.slice sa vl cap0)/\cZ wq w.heap.size 0 (.int .u8 x)/\cZ wq w.heap.size 1 (.int .u8 y))) (by kernel_rfl) (⟨e1,d0,d1⟩) (λhS=>?_);refine tkS 0 (pZ pb) hS ?_;refine tkS 1 (pZ pb) hS ?_;refine tkS 2 (.pointer (some ⟨pb,1,none⟩)) hS ?_;refine tkL 3 (.slice sa vl cap0) hS ?_;refine tkL 4 (.agg #[.int .u8 x,.int .u8 y]) hS ?_;refine rd1 5 (λKK hK=>?_);go_simp;go_at_call 244;refine(IX).mono ?_;rintro e w1 ⟨rfl,hb1⟩;obtain⟨k1,k2,k3⟩:=HB w1 hb1;refine hK.out _ _ ⟨k1,k2,k3⟩ (λhS=>nrm ?_);refine tkS 6 (iZ i) hS ?_;refine wpAnyH_done (by kernel_rfl) ?_ _;obtain⟨p2,p3,hp⟩:=HF w1 hb1;have HP:=hid hp;go_wp21;go_ret;exact⟨rfl,HP⟩
end
section
variable {vars:List Nat} {gs:List Ty} {L:Mks} {pb c q k:Nat} {o:Obj} {t:Ty} {V Gs v:Value} {u w:World}
theorem PuQ.back {u1:World} {x:Value} {w':World} (hb:Below u.heap.size u u1) (h:PuQ pb vars gs V Gs t u1 x w'):PuQ pb vars gs V Gs t u x w':=by
 obtain⟨L,u2,d,h1,h2,h3,h4⟩:=h;exact⟨L,u2,d,h1,h2,hb.trans (h3.mono hb.size),h4⟩
theorem keep_put {r:Value} {w1:World} (hv:Kp u c t v) (nv:NdV v q k) (hq:u.heap[q]? =some o) (hn:isNd o k) (h:PuQ pb vars gs V Gs t u r w1):
 (∃T z,r=.iface T z)/\CZ 223 #[pZ pb,v,r] w1 λe w2=>e=.returned (.tuple #[])/\PuQ pb vars gs V Gs t u r w2:=by
 obtain⟨L1,u1,d,hV1,hG1,hb,hc⟩:=h;obtain⟨T,z,rfl⟩:=hc.iface;refine⟨⟨T,z,rfl⟩,?_⟩;have hv1:=hv.kept (Below.keptU hb);have hq1:=(hb.block q (z1a.1 hq).1).trans hq;have gdn:∃c t v d,Ku u1 c t v/\NdV v q k/\Kp u1 c t v/\Ku u1 d (putT vars gs t) (.iface T z):=⟨c,t,v,d,hv1.ku,nv,hv1,hc⟩
 by_cases hi:q∈L1.map (·.1)
 ·refine(zqd nv hV1 hq1 hn hi T z).mono ?_
  rintro e w2 ⟨rfl,hV2⟩;refine⟨rfl,_,u1,d,hV2,⟨hG1.blk,hG1.vr,hG1.tr,λq' k' f hm=>?_⟩,hb,hc⟩;rcases zql hm with hm'|⟨e1,e2,gg,hm'⟩
  ·exact hG1.gd q' k' f hm'
  ·simp only at e1 e2 hm'
   subst e1;subst e2;obtain⟨⟨o',ho',hn'⟩,_⟩:=hV1.nds _ hm';simp only at ho' hn';rw[hq1] at ho';obtain rfl:=z1q ho';obtain rfl:=hn.one hn';exact gdn
 ·refine(zpo nv hV1 hq1 hn hi T z).mono ?_
  rintro e w2 ⟨rfl,hV2⟩;refine⟨rfl,_,u1,d,hV2,⟨hG1.blk,hG1.vr,hG1.tr,λq' k' f hm=>?_⟩,hb,hc⟩;rcases List.mem_cons.1 hm with e|hm
  ·injection e with e1 e2
   injection e2 with e2 e3;subst e1;subst e2;subst e3;exact gdn
  ·exact hG1.gd q' k' f hm
theorem zpl (hv:Kp u c t v) (nv:NdV v q k) (hq:u.heap[q]? =some o) (hn:isNd o k) (hV:Vs pb L u w) (hG:PU pb vars gs V Gs u L) (R:CZ 237 #[v,pfn pb] w λe w'=>∃r,e=.returned r/\PuQ pb vars gs V Gs t u r w'):
 CZ 228 #[pZ pb,v,pfn pb] w λe w'=>∃r,e=.returned r/\PuQ pb vars gs V Gs t u r w':=by
 by_cases hin:q∈L.map (·.1)
 ·obtain⟨k',hm⟩:=zym hin
  obtain⟨_,T1,x1,e1⟩:=hV.nds _ hm;have hc:=hV.found hq hn;rw[show fnd L q=.iface T1 x1 from e1] at hc;refine(zoy nv pb _ T1 x1 _ hc).mono ?_;rintro e w' ⟨rfl,rfl⟩;obtain⟨c',t',v',d,h1,h2,h3,h4⟩:=hG.gd _ _ _ hm;have ev:=zwi h1 hv.ku h2 nv;subst ev;obtain⟨_,rfl⟩:=hv.ku.one h1;rw[show fnd L q=.iface T1 x1 from e1] at h4;exact⟨_,rfl,L,u,d,hV,hG,Below.refl _ _,h4⟩
 ·have hc:=hV.found hq hn
  rw[zqv hin] at hc;exact zos nv pb _ _ (PuQ pb vars gs V Gs t u) (PuQ pb vars gs V Gs t u) hc R λr w1 h=>keep_put hv nv hq hn h
theorem remake_u (pb q:Nat) (hf:Value) (w:World):CZ 228 #[pZ pb,viU q,hf] w λe w'=>e=.returned (viU q)/\w'=w:=by
 have A:=at_u pb q w;have K:=keep_u pb q (viU q) w;have E:=zhv (T:=330) (pZ q) hf w (by decide) (by decide) (by decide);go_enter Tryz.func228,Tryz.ntmps228;go_wp21;refine A.mono ?_;rintro e w' ⟨rfl,rfl⟩;go_wp21;refine E.mono ?_;rintro e w' ⟨rfl,rfl⟩;go_wp21;refine K.mono ?_;rintro e w' ⟨rfl,rfl⟩;go_wp21;go_ret;exact⟨rfl,rfl⟩
def PuSaid (pb:Nat) (vars:List Nat) (gs:List Ty) (V Gs:Value) (t:Ty):Prop:=∀(L:Mks) (u w:World) (v:Value) (c:Nat),Kp u c t v->Vs pb L u w->PU pb vars gs V Gs u L->
 CZ 233 #[pZ pb,v] w λe w'=>∃r,e=.returned r/\PuQ pb vars gs V Gs t u r w'
theorem zmv {T:TypeId} {z:Value} (hT:T≠263) (hV:Vs pb L u w) (hG:PU pb vars gs V Gs u L) (R:Vs pb L (u.alloc zvb) (w.alloc zvb)->PU pb vars gs V Gs (u.alloc zvb) L->Below u.heap.size u (u.alloc zvb)->CZ 228 #[pZ pb,.iface T z,pfn pb] (w.alloc zvb) λe w'=>∃r,e=.returned r/\PuQ pb vars gs V Gs t (u.alloc zvb) r w'):
 CZ 233 #[pZ pb,.iface T z] w λe w'=>∃r,e=.returned r/\PuQ pb vars gs V Gs t u r w':=by
 have bu:Below u.heap.size u (u.alloc zvb):=bal u _;refine(put_other pb T z hT w (λe w'=>∃r,e=.returned r/\PuQ pb vars gs V Gs t u r w') ((R (hV.alloc zvb) (hG.bel bu) bu).mono ?_)).mono ?_
 ·rintro e w' ⟨r,rfl,h⟩
  exact⟨r,rfl,r,rfl,h.back bu⟩
 ·rintro e w' ⟨r,rfl,r',e,h⟩
  exact⟨r',e,h⟩
theorem putU_any (pb:Nat) (vars:List Nat) (gs:List Ty) (V Gs:Value) (hlen:vars.length=gs.length) (hl:vars.length<=1000000):∀(t:Ty),(∀o,inT o t=true->o∈vars)->sz (putT vars gs t)<=4000000000000000000->PuSaid pb vars gs V Gs t:=by
 intro t
 induction t with
 |nil=>intro _ _ L u w v c h;exact absurd h.ku.trim (by simp[Trim])
 |node g o uu a b iha ihb=>
  intro hown hsz L u w v c hv hV hG
  have leaf:∀(T:TypeId) (z:Value),Leaf (.iface T z)->T≠263->T≠256->T≠259->T≠243->zbc (.node g o uu a b:Ty)->v=.iface T z->
   CZ 233 #[pZ pb,v] w λe w'=>∃r,e=.returned r/\PuQ pb vars gs V Gs (.node g o uu a b) u r w':=by
   rintro T z lf h0 h2 h3 h4 hp rfl;refine zmv h0 hV hG λhV1 hG1 bu=>(zns lf pb _ _ (zhv z _ _ h2 h3 h4)).mono ?_
   rintro e w' ⟨rfl,rfl⟩;exact⟨_,rfl,L,_,c,hV1,hG1,Below.refl _ _,by rw[zpg vars gs hp];exact hv.ku.blw bu⟩
  generalize ht:(Go.Deep.BT.node g o uu a b:Ty)=t at *
  cases hv using Kp.cs with
  |I=>exact leaf _ _ (.inl rfl) (by decide) (by decide) (by decide) (by decide) (by simp[zbc]) rfl
  |B=>exact leaf _ _ (.inr (.inl rfl)) (by decide) (by decide) (by decide) (by decide) (by simp[zbc]) rfl
  |V p=>
   have hp:=hown p (by simp[inT]);obtain⟨sa,cap,rfl,hgr⟩:=id hG.tr;have hlt:zbb p vars<gs.length:=by rw[<-hlen];exact(z1b.1 (zhp vars p hp).1).1
   obtain⟨tp,hgi⟩:∃t,gs[zbb p vars]? =some t:=⟨_,z1h hlt⟩
   have hput:putT vars gs (tV p)=tp:=by simp[putT,sub,zud hp hgi]
   rcases hgr with rfl|⟨gb,cc,rfl,hgb,hcc⟩
   ·simp at hlt
   ·obtain⟨x,d,hx1,hx2⟩:=hcc _ _ hgi
    obtain⟨Tx,zx,rfl⟩:=hx2.iface;have bu:Below u.heap.size u (u.alloc (.cells #[.int .u8 ((p/10:Nat):Int),.int .u8 ((p % 10:Nat):Int)] 263)):=bal u _;have hV1:=hV.alloc (.cells #[.int .u8 ((p/10:Nat):Int),.int .u8 ((p % 10:Nat):Int)] 263);have hG1:=hG.bel bu;obtain⟨x0,hblk⟩:=hG1.blk;obtain⟨T0,r0,x00,hT0,hu0,hv0⟩:=hV1.vis
    have hr:r0=[V,sZ gb gs.length cap]/\T0=341:=by
     rw[hblk] at hu0;simp at hu0;exact⟨hu0.1.2.symm,hu0.2.symm⟩
    obtain⟨rfl,rfl⟩:=hr
    have hne:gb≠pb:=by
     rintro rfl;obtain⟨xx,hb2⟩:=hG.blk;rw[hb2] at hgb;simp at hgb
    have hgw:=hV.other hgb (by simp[VisT]) hne;have hgw1:=(Lib.alloc_old w (.cells #[.int .u8 ((p/10:Nat):Int),.int .u8 ((p % 10:Nat):Int)] 263) gb (z1a.1 hgw).1).trans hgw
    have hvw:VarRow (w.alloc (.cells #[.int .u8 ((p/10:Nat):Int),.int .u8 ((p % 10:Nat):Int)] 263)) V vars:=by
     refine hG1.vr.of λg c hg=>hV1.other hg (by simp[VisT]) ?_
     rintro rfl;rw[hblk] at hg;simp at hg
    have H:=inPlaceU pb vars V none gs.length cap gb Tx zx _ p hl hp hvw _ hv0 hlt (by rw[z1f hgw1];exact hx1);refine(put_var pb p w (λe w'=>∃r,e=.returned r/\PuQ pb vars gs V (sZ gb gs.length cap) (tV p) u r w') (λ_=>True) (H.mono ?_)).mono ?_
    ·rintro e w' ⟨rfl,hb⟩
     obtain⟨u1,g1,g2,_⟩:=hV1.grow hb;refine⟨_,rfl,_,rfl,L,u1,d,g1,hG1.bel g2,bu.trans (g2.mono bu.size),?_⟩;rw[hput];exact(hx2.blw bu).blw g2
    ·rintro e w' ⟨r,rfl,r',e,h⟩
     exact⟨r',e,h⟩
  |@U q t' hq hp=>
   refine zmv (by decide) hV hG λhV1 hG1 bu=>(remake_u pb q _ _).mono ?_
   rintro e w' ⟨rfl,rfl⟩;exact⟨_,rfl,L,_,1,hV1,hG1,Below.refl _ _,by rw[zpg vars gs hp];exact hq.blw bu⟩
  |@L q c0 x a' hq hx=>
   injection ht with e1 e2 e3 e4 e5;subst e4;have hs':sz (tL (putT vars gs a))<=4000000000000000000:=by rw[<-putT_L];exact hsz
   have hsa:sz (putT vars gs a)<=4000000000000000000:=by simp only[sz] at hs';omega
   have C:=iha (λo h=>hown o (by simp[inT,h])) hsa;refine zmv (by decide) hV hG λhV1 hG1 bu=>?_
   have hq1:=(bu.block q (z1a.1 hq).1).trans hq;have hx1:=hx.kept (Below.keptU bu);refine zpl (Kp.L hq1 hx1) (.inl ⟨rfl,rfl⟩) hq1 (ndL _ _) hV1 hG1 ?_;have C1:=C L _ _ x c0 hx1 hV1 hG1;obtain⟨T,z,rfl⟩:=hx.ku.iface;refine zxb _ #[pZ pb] #[] zhx q T z _ (hV1.partL hq1) (PuQ pb vars gs V Gs a (u.alloc zvb)) _ (by rw[zbh];exact C1) ?_;rintro x' w1 ⟨L1,u1,d,hV2,hG2,hb,hc⟩;have hq2:=(hb.block q (z1a.1 hq1).1).trans hq1;have hx2:=hx1.ku.blw hb;obtain⟨bb,hbb,he⟩:=zcp (hc.shape.vs hV2) (hx2.shape.vs hV2);refine⟨hV2.partL hq2,bb,hbb,λe=>?_,λT' z' e=>?_,hc.iface⟩
   ·have e1:=he e
    subst e1;obtain⟨rfl,e2⟩:=hx2.one hc;exact⟨L1,u1,_,hV2,hG2,hb,by rw[putT_L];exact .L hq2 hc⟩
   ·subst e
    refine(znl T' z' d w1 (Ku.counts hV2 hc) (z1c hc.cnt.2 hsa)).mono ?_;rintro e w2 ⟨q',rfl,h1,h2,h3⟩;obtain⟨u2,g1,g2,g3⟩:=hV2.grow h3;refine⟨q',rfl,L1,u2,d+1,g1,hG2.bel g2,hb.trans (g2.mono hb.size),?_⟩;rw[putT_L];exact .L (by rw[g3 q' (by rw[<-hV2.size];exact h1),h2]) (hc.blw g2)
  |@P q c0 d0 x y a' b' hq hx hy=>
   injection ht with e1 e2 e3 e4 e5;subst e4;subst e5;have hs':sz (tP (putT vars gs a) (putT vars gs b))<=4000000000000000000:=by rw[<-putT_P];exact hsz
   have hsa:sz (putT vars gs a)+sz (putT vars gs b)<=4000000000000000000:=by simp only[sz] at hs';omega
   have C:=iha (λo h=>hown o (by simp[inT,h])) (by omega);have C2:=ihb (λo h=>hown o (by simp[inT,h])) (by omega);refine zmv (by decide) hV hG λhV1 hG1 bu=>?_
   have hq1:=(bu.block q (z1a.1 hq).1).trans hq;have hx1:=hx.kept (Below.keptU bu);have hy1:=hy.kept (Below.keptU bu);refine zpl (Kp.P hq1 hx1 hy1) (.inr (.inl ⟨rfl,rfl⟩)) hq1 (ndP _ _ _) hV1 hG1 ?_;have C1:=C L _ _ x c0 hx1 hV1.drew hG1;obtain⟨T,z,rfl⟩:=hx.ku.iface;obtain⟨S,y',rfl⟩:=hy.ku.iface
   refine zld false _ #[pZ pb] #[] zhx q T S z y' _ (hV1.partP0 hq1) (hV1.partP1 hq1) (PuQ pb vars gs V Gs a (u.alloc zvb))
    (λx' y'' w2=>∃L2 u2 d e,Vs pb L2 u2 w2/\PU pb vars gs V Gs u2 L2/\Below (u.alloc zvb).heap.size (u.alloc zvb) u2/\Ku u2 d (putT vars gs a) x'/\Ku u2 e (putT vars gs b) y'') _ (by rw[zbh];exact C1) ?_ ?_
   ·rintro x' w1 ⟨L1,u1,d,hV2,hG2,hb,hc⟩
    have hq2:=(hb.block q (z1a.1 hq1).1).trans hq1;refine⟨⟨hV2.partP0 hq2,hV2.partP1 hq2⟩,hc.iface,?_⟩;rw[zbh];refine(C2 L1 u1 w1 _ d0 (hy1.kept (Below.keptU hb)) hV2 hG2).mono ?_;rintro e w2 ⟨r,rfl,L2,u2,d2,hV3,hG3,hb3,hc3⟩;exact⟨r,rfl,L2,u2,d,d2,hV3,hG3,hb.trans (hb3.mono hb.size),hc.blw hb3,hc3⟩
   ·rintro x' y'' w2 ⟨L2,u2,d,e,hV3,hG3,hb,hcx,hcy⟩
    have hq2:=(hb.block q (z1a.1 hq1).1).trans hq1;have hx2:=hx1.ku.blw hb;have hy2:=hy1.ku.blw hb;obtain⟨b1,hb1,he1⟩:=zcp (hcx.shape.vs hV3) (hx2.shape.vs hV3);obtain⟨b2,hb2,he2⟩:=zcp (hcy.shape.vs hV3) (hy2.shape.vs hV3);refine⟨⟨hV3.partP0 hq2,hV3.partP1 hq2⟩,hcy.iface,b1,b2,hb1,hb2,λe1 e2=>?_,λT1 z1 S1 s1 ex ey=>?_⟩
    ·have f1:=he1 e1
     have f2:=he2 e2;subst f1;subst f2;obtain⟨rfl,_⟩:=hx2.one hcx;obtain⟨rfl,_⟩:=hy2.one hcy;exact⟨L2,u2,_,hV3,hG3,hb,by rw[putT_P];exact .P hq2 hcx hcy⟩
    ·subst ex
     subst ey;have k1:=hcx.cnt;have k2:=hcy.cnt;refine(zmu T1 S1 z1 s1 d e w2 (Ku.counts hV3 hcx) (Ku.counts hV3 hcy) (by omega)).mono ?_;rintro _ w3 ⟨q',rfl,h1,h2,h3⟩;obtain⟨u3,g1,g2,g3⟩:=hV3.grow h3;refine⟨q',rfl,L2,u3,d+e+1,g1,hG3.bel g2,hb.trans (g2.mono hb.size),?_⟩;rw[putT_P];exact .P (by rw[g3 q' (by rw[<-hV3.size];exact h1),h2]) (hcx.blw g2) (hcy.blw g2)
  |@F q c0 d0 x y a' b' hq hx hy=>
   injection ht with e1 e2 e3 e4 e5;subst e4;subst e5;have hs':sz (tF (putT vars gs a) (putT vars gs b))<=4000000000000000000:=by rw[<-putT_F];exact hsz
   have hsa:sz (putT vars gs a)+sz (putT vars gs b)<=4000000000000000000:=by simp only[sz] at hs';omega
   have C:=iha (λo h=>hown o (by simp[inT,h])) (by omega);have C2:=ihb (λo h=>hown o (by simp[inT,h])) (by omega);refine zmv (by decide) hV hG λhV1 hG1 bu=>?_
   have hq1:=(bu.block q (z1a.1 hq).1).trans hq;have hx1:=hx.kept (Below.keptU bu);have hy1:=hy.kept (Below.keptU bu);refine zpl (Kp.F hq1 hx1 hy1) (.inr (.inr ⟨rfl,rfl⟩)) hq1 (ndF _ _ _) hV1 hG1 ?_;have C1:=C L _ _ x c0 hx1 hV1.drew hG1;obtain⟨T,z,rfl⟩:=hx.ku.iface;obtain⟨S,y',rfl⟩:=hy.ku.iface
   refine zld true _ #[pZ pb] #[] zhx q T S z y' _ (hV1.partF0 hq1) (hV1.partF1 hq1) (PuQ pb vars gs V Gs a (u.alloc zvb))
    (λx' y'' w2=>∃L2 u2 d e,Vs pb L2 u2 w2/\PU pb vars gs V Gs u2 L2/\Below (u.alloc zvb).heap.size (u.alloc zvb) u2/\Ku u2 d (putT vars gs a) x'/\Ku u2 e (putT vars gs b) y'') _ (by rw[zbh];exact C1) ?_ ?_
   ·rintro x' w1 ⟨L1,u1,d,hV2,hG2,hb,hc⟩
    have hq2:=(hb.block q (z1a.1 hq1).1).trans hq1;refine⟨⟨hV2.partF0 hq2,hV2.partF1 hq2⟩,hc.iface,?_⟩;rw[zbh];refine(C2 L1 u1 w1 _ d0 (hy1.kept (Below.keptU hb)) hV2 hG2).mono ?_;rintro e w2 ⟨r,rfl,L2,u2,d2,hV3,hG3,hb3,hc3⟩;exact⟨r,rfl,L2,u2,d,d2,hV3,hG3,hb.trans (hb3.mono hb.size),hc.blw hb3,hc3⟩
   ·rintro x' y'' w2 ⟨L2,u2,d,e,hV3,hG3,hb,hcx,hcy⟩
    have hq2:=(hb.block q (z1a.1 hq1).1).trans hq1;have hx2:=hx1.ku.blw hb;have hy2:=hy1.ku.blw hb;obtain⟨b1,hb1,he1⟩:=zcp (hcx.shape.vs hV3) (hx2.shape.vs hV3);obtain⟨b2,hb2,he2⟩:=zcp (hcy.shape.vs hV3) (hy2.shape.vs hV3);refine⟨⟨hV3.partF0 hq2,hV3.partF1 hq2⟩,hcy.iface,b1,b2,hb1,hb2,λe1 e2=>?_,λT1 z1 S1 s1 ex ey=>?_⟩
    ·have f1:=he1 e1
     have f2:=he2 e2;subst f1;subst f2;obtain⟨rfl,_⟩:=hx2.one hcx;obtain⟨rfl,_⟩:=hy2.one hcy;exact⟨L2,u2,_,hV3,hG3,hb,by rw[putT_F];exact .F hq2 hcx hcy⟩
    ·subst ex
     subst ey;have k1:=hcx.cnt;have k2:=hcy.cnt;refine(zdd T1 S1 z1 s1 d e w2 (Ku.counts hV3 hcx) (Ku.counts hV3 hcy) (by omega)).mono ?_;rintro _ w3 ⟨q',rfl,h1,h2,h3⟩;obtain⟨u3,g1,g2,g3⟩:=hV3.grow h3;refine⟨q',rfl,L2,u3,d+e+1,g1,hG3.bel g2,hb.trans (g2.mono hb.size),?_⟩;rw[putT_F];exact .F (by rw[g3 q' (by rw[<-hV3.size];exact h1),h2]) (hcx.blw g2) (hcy.blw g2)
theorem kputU_any (t:Ty) (c:Nat) (v:Value) (vars:List Nat) (gs:List Ty) (V Gs:Value) (w:World) (hv:Kp w c t v) (hlen:vars.length=gs.length) (hl:vars.length<=1000000) (hown:∀o,inT o t=true->o∈vars) (hs:sz (putT vars gs t)<=4000000000000000000) (hvr:VarRow w V vars) (htr:Grow' w Gs gs):
 CZ 218 #[v,V,Gs] w λe w'=>∃x,e=.returned x/\(∃d,Ku w' d (putT vars gs t) x)/\Below w.heap.size w w':=by
 have b1:Below w.heap.size w (w.alloc (putO V Gs)):=bal w _;have hG:PU w.heap.size vars gs V Gs (w.alloc (putO V Gs)) []:=⟨⟨_,z1v w _⟩,hvr.below b1,htr.below b1,λq k f hm=>by cases hm⟩
 have S:=putU_any w.heap.size vars gs V Gs hlen hl t hown hs [] (w.alloc (putO V Gs)) (w.alloc (putO V Gs)) v c (hv.kept (Below.keptU b1)) (Vs.newP V Gs w) hG;obtain⟨T,z,rfl⟩:=hv.ku.iface;obtain⟨sa,cap,rfl,_⟩:∃sa cap,V=.slice sa vars.length cap/\True:=by obtain⟨sa,cap,h,_⟩:=hvr;exact⟨sa,cap,h,trivial⟩
 obtain⟨sa',cap',rfl,_⟩:∃sa cap,Gs=.slice sa gs.length cap/\True:=by obtain⟨sa,cap,h,_⟩:=htr;exact⟨sa,cap,h,trivial⟩
 have HF:Hid (∀(u:World) (x:Value) (d:Nat) (w2:World) (L:Mks),Below (w.alloc (putO (.slice sa vars.length cap) (.slice sa' gs.length cap'))).heap.size (w.alloc (putO (.slice sa vars.length cap) (.slice sa' gs.length cap'))) u->PU w.heap.size vars gs (.slice sa vars.length cap) (.slice sa' gs.length cap') u L->Ku u d (putT vars gs t) x->Ends w.heap.size u w2->(∃d,Ku w2 d (putT vars gs t) x)/\Below w.heap.size w w2):=by
  intro u x d w2 L hb hG hx hE;have hb2:=b1.trans (hb.mono (by simp));obtain⟨x0,hb0⟩:=hG.blk;refine⟨⟨d,hx.kept λq c T hT hq=>?_⟩,hE.below hb2 (z1d _)⟩;rw[hE.blk q ?_]
  ·exact hq
  ·rintro rfl
   rw[hb0] at hq;simp at hq;obtain⟨_,rfl⟩:=hq;rcases hT with h|h|h|h<;>exact absurd h (by decide)
 clear hv hG hlen hl hown hs hvr htr b1;go_enter_defers Tryz.func218,Tryz.ntmps218;go_wp21;refine S.mono ?_;rintro e w1 ⟨x,rfl,L,u,d,hV,hG,hb,hx⟩;obtain⟨Tx,zx,rfl⟩:=hx.iface;go_wp21;refine leaves_cons (f:=198) (args:=#[pZ w.heap.size]) (by simp) (by simp[go_sem]) ?_;refine(zdx w.heap.size L u .returning w1 hV).mono ?_;rintro e u' w2 ⟨rfl,rfl,hE⟩;obtain⟨h1,h2⟩:=HF u _ d w2 L hb hG hx hE;exact⟨_,results_tmp rfl _ _ _,.iface Tx zx,rfl,h1,h2⟩
end
theorem vsameU (vb q q':Nat) (w:World) (ca cb:Array Value) (ta tb:TypeId) (ha:w.heap[q]? =some (.cells ca ta (0,0))) (hb:w.heap[q']? =some (.cells cb tb (0,0))) (hne:q≠q'):
 CZ 199 #[pZ vb,viU q,viU q'] w λe w'=>e=.returned (.bool false)/\w'=w:=by
 have E:(binOp .eql 94 (viU q) (viU q')).run Tryz.prog w=.ok (.bool false) w:=by
  have:=zer Tryz.underlying330 infoPU sizeU ha hb;rw[decide_eq_false hne] at this;exact this
 have A:=at_u vb q w;have N:=eql_nil_v (T:=330) (pZ q') w;have L:=zpi (T:=330) (pZ q) (viU q') (.func (.func 199) #[pZ vb] #[]) false w ⟨_,_,rfl⟩ (by decide) (by decide) (by decide) E;go_enter Tryz.func199,Tryz.ntmps199;go_wp21;refine A.mono ?_;rintro e w1 ⟨rfl,e1⟩;subst e1;go_wp21;refine L.mono ?_;rintro e w1 ⟨rfl,e1⟩;subst e1;go_wp21;go_ret;exact⟨rfl,rfl⟩
theorem sameU (q q':Nat) (w:World) (ca cb:Array Value) (ta tb:TypeId) (ha:w.heap[q]? =some (.cells ca ta (0,0))) (hb:w.heap[q']? =some (.cells cb tb (0,0))) (hne:q≠q'):
 CZ 162 #[viU q,viU q'] w λe w'=>e=.returned (.bool false)/\Below w.heap.size w w':=by
 have b1:Below w.heap.size w (w.alloc (.cells #[.pointer none] 307)):=bal w _;have S:=vsameU w.heap.size q q' (w.alloc (.cells #[.pointer none] 307)) ca cb ta tb ((b1.block q (z1a.1 ha).1).trans ha) ((b1.block q' (z1a.1 hb).1).trans hb) hne
 have V0:Vs w.heap.size [] (w.alloc (.cells #[.pointer none] 307)) (w.alloc (.cells #[.pointer none] 307)):=
  ⟨rfl,rfl,rfl,rfl,⟨_,[],_,by simp[VisT],z1v w _,z1v w _⟩,λ_ _=>rfl,λm h=>(by cases h),List.nodup_nil⟩
 have HF:Hid (∀w2,Ends w.heap.size (w.alloc (.cells #[.pointer none] 307)) w2->Below w.heap.size w w2):=λw2 hE=>hE.below b1 (z1d _)
 clear ha hb hne b1;go_enter_defers Tryz.func162,Tryz.ntmps162;go_wp21;refine S.mono ?_;rintro e w1 ⟨rfl,e1⟩;subst e1;go_wp21;refine leaves_cons (f:=198) (args:=#[pZ w.heap.size]) (by simp) (by simp[go_sem]) ?_;refine(zdx w.heap.size [] _ .returning _ V0).mono ?_;rintro e u' w2 ⟨rfl,rfl,hE⟩;exact⟨_,results_tmp rfl _ _ _,rfl,HF w2 hE⟩
theorem equalU0 (sa sb:Option Addr) (ca cb:Nat) (w:World):
 CZ 217 #[.slice sa 0 ca,.slice sb 0 cb,.func (.func 162) #[] #[]] w λe w'=>e=.returned (.bool true)/\w'=w:=by
 go_enter Tryz.func217,Tryz.ntmps217;go_wp21
 go_loopw [17] (λi wr=>i=.int .i64 0/\wr=w) (λi _=>0)
 case atStart=>exact⟨rfl,rfl⟩
 case round=>
  obtain⟨rfl,rfl⟩:=hrel;go_wp21;go_ret;exact⟨rfl,by trivial⟩
theorem equalU1 (g g' n ca cb q q':Nat) (w:World) (hn:0<n) (hn2:n<=1000000) (c1:w.cell? ⟨g,0,none⟩=some (viU q)) (c2:w.cell? ⟨g',0,none⟩=some (viU q')) (x y:Array Value) (ta tb:TypeId) (ha:w.heap[q]? =some (.cells x ta (0,0))) (hb:w.heap[q']? =some (.cells y tb (0,0))) (hne:q≠q'):
 CZ 217 #[sZ g n ca,sZ g' n cb,.func (.func 162) #[] #[]] w λe w'=>e=.returned (.bool false)/\Below w.heap.size w w':=by
 have S:=sameU q q' w x y ta tb ha hb hne;have hni:(0:Int)<(n:Int):=by omega
 go_enter Tryz.func217,Tryz.ntmps217;go_wp21
 go_loopw [17] (λi wr=>i=.int .i64 0/\wr=w) (λi _=>0)
 case atStart=>exact⟨rfl,rfl⟩
 case round=>
  obtain⟨rfl,rfl⟩:=hrel;go_wp21;refine S.mono ?_;rintro e w1 ⟨rfl,hb⟩;have HB:=hid hb;go_wp21;go_ret;exact⟨rfl,HB⟩
end Go.Proofs.YtceadeaodbadlaaGreatDoor
namespace Go.Proofs.YtceadeaodbadlaaGreatDoor
open Go.RowKit
variable {lo : Nat}
def Fsh (w:World) (b:Nat) (s:Sch):Prop:=SOk s/\∃ov V,w.heap[b]? =some (schO ov V (.pointer none) (.slice none 0 0) .nilIface)/\Tv w s.1 ov/\VarRow w V s.2
section
variable {B b c:Nat} {sc:Sch} {v V:Value} {w w':World}
theorem Fsh.new {s:Sch} (hs:SOk s) (hv:Tv w s.1 v) (hV:VarRow w V s.2):Fsh (w.alloc (schO v V (.pointer none) (.slice none 0 0) .nilIface)) w.heap.size s:=by
 have b1:Below w.heap.size w (w.alloc (schO v V (.pointer none) (.slice none 0 0) .nilIface)):=bal w _;exact⟨hs,v,V,z1v w _,hv.below b1,hV.below b1⟩
theorem zod (tx:Nat->Addr) (c:Int) (a b:ByteArray) (t:Ty) (w:World) (h11:10+lo<=w.heap.size) (g:Gl tx w) (hr:zbe a=.ok t) (ha:a.size<=100000) (hb:b.size<=1000) (bl:List Nat) (hbl:(b.data.toList.map λx=>10*x.toNat)=bl) (hs:SOk (t,bl)):
 CZ 192 #[.agg #[.int .u8 c,.string a,.string b]] w λe w'=>∃q,e=.returned (.tuple #[pZ q,.nilIface])/\Fsh w' q (t,bl)/\Below w.heap.size w w'/\w.heap.size<=q:=by
 have HS:Hid (∀k (h:k<b.size),bl.take (k+1)=bl.take k++[10*b[k].toNat]):=λk h=>by
  have:bl[k]? =some (10*b[k].toNat):=by
   rw[<-hbl,z1n,Array.getElem?_toList,Array.getElem?_eq_getElem h];rfl
  rw[List.take_add_one,this];rfl
 have HT:Hid (bl.take b.size=bl):=List.take_of_length_le (by rw[<-hbl,z2a];exact z1d _);clear hbl;have b1:Below w.heap.size w (w.alloc (rowO c a b)):=bal w _;have R:=kread_any tx a (w.alloc (rowO c a b)) (g.below b1 (by omega)) ha;have cb1:(w.alloc (rowO c a b)).cell? ⟨w.heap.size,1,none⟩=some (.string a):=by rw[z1f (z1v w _)];rfl
 obtain⟨i0,hi0,hz0,hz1,hz2⟩:=info_parts infoVar;go_enter Tryz.func192,Tryz.ntmps192;go_wp21;refine R.mono ?_;rintro e w1 ⟨hb1,hP⟩;rw[hr] at hP;obtain⟨v,rfl,hv⟩:=hP
 have cb2:w1.cell? ⟨w.heap.size,2,none⟩=some (.string b):=by
  rw[hb1.cell (p:=⟨w.heap.size,2,none⟩) (by simp)];rw[z1f (z1v w _)];rfl
 obtain⟨T,z,rfl⟩:=hv.iface;have bw:Below w.heap.size w w1:=b1.trans (hb1.mono b1.size);have HV:=hid hv;have hl1:w.heap.size<w1.heap.size:=z1e (by simp) hb1.size;clear hv R cb1 b1 hb1 g hr;go_wp21;have W0:Hid (∀wr,Below w1.heap.size w1 wr->Tv wr t (.iface T z)):=λwr hb=>HV.out.below hb
 go_loopw [6,20] (λv i wr=>∃(k:Nat) (l:List Nat),i=.int .i64 (k:Int)/\k<=b.size/\wr.ownsRow w1.heap.size 263 2 v l.length (zbo l)/\l.length<=k/\Hid (l=bl.take k)/\Below w1.heap.size w1 wr) (λv i _=>b.size-(intOf i).toNat)
 case atStart=>exact⟨0,[],rfl,Nat.zero_le _,z1w _ _ _ _,z1d _,(rfl:[]=bl.take 0),Below.refl _ _⟩
 case round=>
  obtain⟨k,l,rfl,hkn,hrow,hlk,HL,hB⟩:=hrel;have cb3:wr.cell? ⟨w.heap.size,2,none⟩=some (.string b):=(hB.cell (p:=⟨w.heap.size,2,none⟩) hl1).trans cb2;clear cb2;by_cases hk:k=b.size
  ·have hv:=W0.out wr hB
   have hV:=VarRow.owns hrow;have e1:=HL.out;rw[hk,HT.out] at e1;obtain⟨sa,cap,rfl,-⟩:=id hV;have N:=zki (.iface T z) (.slice sa l.length cap) wr T z sa l.length cap rfl rfl
   have HQ:Hid (Fsh (wr.alloc (schO (.iface T z) (.slice sa l.length cap) (.pointer none) (.slice none 0 0) .nilIface)) wr.heap.size (t,bl)/\Below w.heap.size w (wr.alloc (schO (.iface T z) (.slice sa l.length cap) (.pointer none) (.slice none 0 0) .nilIface))/\w.heap.size<=wr.heap.size):=by
    have bb:Below w.heap.size w wr:=bw.trans (hB.mono bw.size);refine⟨Fsh.new hs hv (by rw[e1] at hV ⊢;exact hV),bb.alloc bb.size _,bb.size⟩
   clear hv hV e1 HL hrow;subst hk;generalize l.length=ll at *
   go_wp21;refine N.mono ?_;rintro e w2 ⟨rfl,rfl⟩;go_wp21;go_ret2;exact⟨_,rfl,HQ⟩
  ·have hk':k<b.size:=by omega
   clear hk;have HN:=HS.out k hk';have HM0:l++[10*b[k].toNat]=bl.take (k+1):=by rw[HN,HL.out]
   have HM:=hid HM0;clear HM0
   have hvc:zbo (l++[10*b[k].toNat])=zbo l++[.int .u8 (b[k].toNat:Int),.int .u8 0]:=by
    rw[zin,show 10*b[k].toNat/10=b[k].toNat by omega,show 10*b[k].toNat % 10=0 by omega];rfl
   have HC:=hid hvc;have hsz:=hB.size;clear hvc HN HL
   go_wp2_with (at_builtin;refine wpList_append_own _ rfl _ _ 245 rfl w1.heap.size 263 i0 (.agg #[.int .u8 0,.int .u8 0]) 2 2 Tryz.underlying245 hi0 hz0 hz1 hz2 rfl (by decide) _ _ _ rfl (hrow.alloc _) ⟨wr.heap.size,0,none⟩ 1 1 [.int .u8 (b[k].toNat:Int),.int .u8 0] rfl rfl ?c1 ?c2 ?c3 ?c4 ?c5 ?_)
   case c1=>exact z1x (z1v wr _)
   case c2=>intro u hu;simp at hu;rcases hu with rfl|rfl<;>rfl
   case c3=>unfold maxLen;omega
   case c4=>omega
   case c5=>simp;omega
   intro v' w5 hown' hgrow _;have hrowA:=hrow.alloc (.cells #[.int .u8 (b[k].toNat:Int),.int .u8 0] 263);have B5:Below w1.heap.size w1 w5:=(hB.alloc hB.size (.cells #[.int .u8 (b[k].toNat:Int),.int .u8 0] 263)).trans ⟨hgrow.os,hgrow.tape,hgrow.output,hgrow.size,λq hq=>hgrow.block q (by simp;omega) (λhe=>by have:=(zgo hrowA q he.symm).1;omega)⟩;have hown5:w5.ownsRow w1.heap.size 263 2 v' (l++[10*b[k].toNat]).length (zbo (l++[10*b[k].toNat])):=by rw[HC.out];simpa using hown'
   have hlen:(l++[10*b[k].toNat]).length<=k+1:=by simp;omega
   clear hown' hgrow hrowA hrow HC hB;generalize l++[10*b[k].toNat]=lt at *
   go_wp21;go_roundw
   case rel=>exact⟨k+1,lt,by simp,by omega,hown5,hlen,HM,B5⟩
   case measure=>simp[intOf];omega
theorem zob (tx:Nat->Addr) (c:Nat) (w:World) (h11:10+lo<=w.heap.size) (g:Gl tx w) (tb:Tb w) (hc:zdi c=true):
 CZ 156 #[uZ c] w λe w'=>∃q,e=.returned (.tuple #[pZ q,.nilIface])/\Fsh w' q (conS c)/\Below w.heap.size w w'/\w.heap.size<=q:=by
 obtain⟨r,hr,rfl⟩:=con_row c hc;obtain⟨t,fr,ht⟩:=tb;obtain⟨h1,h2,h3⟩:=row_own r hr;refine zpt ltrK texK ownB r hr (λj hj=>ltr_all ⟨r,hr⟩ ⟨j,by omega⟩ hj) w _ t fr ht ?_;intro w' hb;refine(zod (lo:=lo) tx _ _ _ _ w' (z1c h11 hb.size) (g.below hb (by omega)) (row_reads r hr) h2 h3 _ h1 (conS_sok _)).mono ?_;rintro e w'' ⟨q,rfl,hs,hb2,hq⟩;exact⟨q,rfl,q,rfl,hs,hb.trans (hb2.mono hb.size),z1c hb.size hq⟩
def SuC (B:Nat) (w:World) (sc:Sch) (G tk:Value):Prop:=
 (∃sa n cap,G=.slice sa n cap)/\(tk=.nilIface\/(sc.2=[]/\(∃sa cap,G=.slice sa 0 cap)/\∃d,Ku w d sc.1 tk)\/
  (sc.2≠[]/\(∃T z,tk=.iface T z)/\∃(g cap q0:Nat) (cs:Array Value),G=(sZ g sc.2.length cap)/\w.heap[g]? =some (.cells cs 94 (0,0))/\cs[0]? =some (viU q0)/\q0<B/\∃l x,w.heap[q0]? =some (obU l x)))
def Su (B:Nat) (w:World) (b:Nat) (sc:Sch):Prop:=∃c ov V G tk,w.heap[b]? =some (schO ov V (.pointer none) G tk)/\Kp w c sc.1 ov/\VarRow w V sc.2/\sc.2.length<=1000/\SuC B w sc G tk
theorem Su.lt (h:Su B w b sc):b<w.heap.size:=by
 obtain⟨_,_,_,_,_,h,_⟩:=h;exact(z1a.1 h).1
theorem Su.mono {B':Nat} (h:Su B w b sc) (hB:B<=B'):Su B' w b sc:=by
 obtain⟨c,ov,V,G,tk,h1,h2,h3,h4,h5,h6⟩:=h;refine⟨c,ov,V,G,tk,h1,h2,h3,h4,h5,?_⟩;rcases h6 with h|h|⟨k1,k2,g,cap,q0,cs,k3,k4,k5,k6,k7⟩
 ·exact .inl h
 ·exact .inr (.inl h)
 ·exact .inr (.inr ⟨k1,k2,g,cap,q0,cs,k3,k4,k5,by omega,k7⟩)
theorem Su.step {A:List Nat} {δ:Nat->Ty} (h:Su B w b sc) (hb:w'.heap[b]? =w.heap[b]?) (hk:∀(q:Nat) (c:Array Value) (T:TypeId),T=258\/T=261\/T=252\/T=263\/T=94->w.heap[q]? =some (.cells c T (0,0))->w'.heap[q]? =some (.cells c T (0,0))) (hu:∀(q l:Nat) (x:Value),w.heap[q]? =some (obU l x)->∃l' x',w'.heap[q]? =some (obU l' x')) (hs:KuStep A δ w w') (hA:∀q,inU q sc.1->q∈A) (hp:∀q,inU q sc.1->zbc (δ q)):Su B w' b (usub δ sc.1,sc.2):=by
 obtain⟨c,ov,V,G,tk,h1,h2,h3,h4,h5,h6⟩:=h;refine⟨c,ov,V,G,tk,hb.trans h1,h2.step (λq c T hT hq=>hk q c T (by rcases hT with h|h|h;exact .inl h;exact .inr (.inl h);exact .inr (.inr (.inl h))) hq) hs hA hp,h3.of λg c hg=>hk g c _ (.inr (.inr (.inr (.inl rfl)))) hg,h4,h5,?_⟩;rcases h6 with h|⟨k1,k2,d,k3⟩|⟨k1,k2,g,cap,q0,cs,k3,k4,k5,k6,l,x,k7⟩
 ·exact .inl h
 ·exact .inr (.inl ⟨k1,k2,d,hs _ _ _ k3 hA⟩)
 ·obtain⟨l',x',k8⟩:=hu _ _ _ k7
  exact .inr (.inr ⟨k1,k2,g,cap,q0,cs,k3,hk _ _ _ (.inr (.inr (.inr (.inr rfl)))) k4,k5,k6,l',x',k8⟩)
theorem Su.blw (h:Su B w b sc) (hb:Below w.heap.size w w'):Su B w' b sc:=by
 have hk:∀(q:Nat) (o:Obj),w.heap[q]? =some o->w'.heap[q]? =some o:=λq o hq=>(hb.block q (z1a.1 hq).1).trans hq
 obtain⟨c,ov,V,G,tk,h1,h2,h3,h4,h5,h6⟩:=h;refine⟨c,ov,V,G,tk,hk _ _ h1,h2.kept (Below.keptU hb),h3.below hb,h4,h5,?_⟩;rcases h6 with h|⟨k1,k2,d,k3⟩|⟨k1,k2,g,cap,q0,cs,k3,k4,k5,k6,l,x,k7⟩
 ·exact .inl h
 ·exact .inr (.inl ⟨k1,k2,d,k3.blw hb⟩)
 ·exact .inr (.inr ⟨k1,k2,g,cap,q0,cs,k3,hk _ _ k4,k5,k6,l,x,hk _ _ k7⟩)
theorem Fsh.su (h:Fsh w b sc) (hl:sc.2.length<=1000) (B:Nat):Su B w b sc:=by
 obtain⟨hs,ov,V,h1,h2,h3⟩:=h
 have kp:∀{t:Ty} {v:Value},Ok t->Tv w t v->Kp w (sz t) t v:=by
  intro t
  induction t with
  |nil=>intro v h;exact h.elim
  |node g o u a b iha ihb=>
   intro v hk h
   cases u
   rcases hk with ⟨rfl,rfl,rfl,rfl⟩|⟨rfl,rfl,rfl,rfl⟩|⟨rfl,ho,rfl,rfl⟩|⟨rfl,rfl,ha,rfl⟩|⟨rfl,rfl,ha,hb⟩|⟨rfl,rfl,ha,hb⟩
   ·rw[Tv.isI h];exact .I
   ·rw[Tv.isB h];exact .B
   ·rw[Tv.isV h];exact .V o
   ·obtain⟨q,x,rfl,hq,hx⟩:=Tv.isL h
    exact .L hq (iha ha hx)
   ·obtain⟨q,x,y,rfl,hq,hx,hy⟩:=Tv.isP h
    exact .P hq (iha ha hx) (ihb hb hy)
   ·obtain⟨q,x,y,rfl,hq,hx,hy⟩:=Tv.isF h
    exact .F hq (iha ha hx) (ihb hb hy)
 exact⟨_,ov,V,_,_,h1,kp hs.ok h2,h3,hl,⟨_,_,_,rfl⟩,.inl rfl⟩
theorem Su.new (hv:Kp w c sc.1 v) (hV:VarRow w V sc.2) (hl:sc.2.length<=1000) (B:Nat):Su B (w.alloc (schO v V (.pointer none) (.slice none 0 0) .nilIface)) w.heap.size sc:=by
 have b1:Below w.heap.size w (w.alloc (schO v V (.pointer none) (.slice none 0 0) .nilIface)):=bal w _;exact⟨c,v,V,_,_,z1v w _,hv.kept (Below.keptU b1),hV.below b1,hl,⟨_,_,_,rfl⟩,.inl rfl⟩
theorem countU_any (B b:Nat) (s:Sch) (w:World) (h:Su B w b s):
 CZ 190 #[pZ b] w λe w'=>e=.returned (iZ s.2.length)/\w'=w:=by
 obtain⟨c,ov,V,G,tk,h2,h3,h4,h5,h6⟩:=h;obtain⟨sa,cap,rfl,-⟩:=h4;have c1:cZ w b 1 (.slice sa s.2.length cap):=cbl h2;generalize s.2.length=n at *
 go_enter Tryz.func190,Tryz.ntmps190;go_wp21;go_ret;exact⟨rfl,rfl⟩
def AtQ (b:Nat) (sc:Sch) (gs:List Ty) (w:World) (e:Ending) (w':World):Prop:=
 ∃x d,e=.returned x/\Ku w' d (putT sc.2 gs sc.1) x/\Su w'.heap.size w' b sc/\w'.os=w.os/\w'.tape=w.tape/\w'.output=w.output/\w.heap.size<=w'.heap.size/\∀q,q<w.heap.size->q≠b->w'.heap[q]? =w.heap[q]?
theorem Kp.drew {t:Ty} (h:Kp w c t v):Kp w.drew c t v:=Kp.kept (w:=w) (w':=w.drew) (λ_ _ _ _ h=>h) h
theorem atU_any (B b:Nat) (sc:Sch) (gs:List Ty) (Gs:Value) (w:World) (h:Su B w b sc) (hB:B<=w.heap.size) (hlen:gs.length=sc.2.length) (hown:∀o,inT o sc.1=true->o∈sc.2) (hs:sz (putT sc.2 gs sc.1)<=4000000000000000000) (htr:Grow' w Gs gs) (hfr:sc.2≠[]->∃(g cap q1:Nat) (cs:Array Value),Gs=(sZ g gs.length cap)/\w.heap[g]? =some (.cells cs 94 (0,0))/\cs[0]? =some (viU q1)/\B<=q1/\∃l x,w.heap[q1]? =some (obU l x)):
 CZ 191 #[pZ b,Gs] w (AtQ b sc gs w):=by
 have h0:=h;obtain⟨c,ov,V,G,tk,h1,h2,h3,h4,⟨s0,l0,c0',rfl⟩,h6⟩:=h;obtain⟨T,z,rfl⟩:=h2.ku.iface;obtain⟨sv,cv,rfl,hVr⟩:=id h3;obtain⟨sg,cg,rfl,hGr⟩:=id htr;have blt:=h0.lt
 --where it is made anew
 have mk:∀w1,Below w.heap.size w w1->AtNewU b T z sv sg sc.2.length cv gs.length cg (λw' x=>∃d,Ku w' d (putT sc.2 gs sc.1) x) (.slice s0 l0 c0') tk (AtQ b sc gs w) w1:=by
  intro w1 hb1;have g1:=(hb1.block b blt).trans h1;have P:=kputU_any sc.1 c (.iface T z) sc.2 gs (.slice sv sc.2.length cv) (.slice sg gs.length cg) w1.drew (h2.kept (Below.keptU hb1)).drew hlen.symm (by omega) hown hs ((h3.below hb1).below ((Below.refl _ w1).drew)) ((htr.below hb1).below ((Below.refl _ w1).drew));refine⟨λw x ⟨d,h⟩=>h.iface,by rw[z1f g1];rfl,by rw[z1f g1];rfl,P.mono ?_,?_⟩
  ·rintro e w' ⟨x,rfl,hx,hb⟩
   exact⟨x,rfl,hx,⟨hb.os,hb.tape,hb.output,hb.size,hb.block⟩⟩
  ·rintro w2 x hb2 ⟨d,hx⟩
   have hb12:=hb1.trans (hb2.mono hb1.size);have g2:=(hb2.block b (z1e blt hb1.size)).trans g1;have g3:(w2.setCell ⟨b,3,none⟩ (.slice sg gs.length cg)).heap[b]? =some (schO (.iface T z) (.slice sv sc.2.length cv) (.pointer none) (.slice sg gs.length cg) tk):=heap_setCell_same w2 b 3 _ _ _ g2;have g4:=fieldS _ _ _ _ _ (.slice sg gs.length cg) x w2 b g2
   have kk:∀q,q≠b->((w2.setCell ⟨b,3,none⟩ (.slice sg gs.length cg)).setCell ⟨b,4,none⟩ x).heap[q]? =w2.heap[q]?:=λq hq=>by
    rw[Below.heap_setCell _ _ _ _ (by show ¬_;simp;omega),Below.heap_setCell _ _ _ _ (by show ¬_;simp;omega)]
   have kT:∀(q:Nat) (c:Array Value) (T:TypeId),T≠299->w2.heap[q]? =some (.cells c T (0,0))->((w2.setCell ⟨b,3,none⟩ (.slice sg gs.length cg)).setCell ⟨b,4,none⟩ x).heap[q]? =some (.cells c T (0,0)):=λq c T hT hq=>by
    rw[kk q (by rintro rfl;rw[g2] at hq;simp at hq;exact hT hq.2.symm)];exact hq
   have ku:KeptU w2 ((w2.setCell ⟨b,3,none⟩ (.slice sg gs.length cg)).setCell ⟨b,4,none⟩ x):=λq c T hT hq=>kT q c T (by rcases hT with rfl|rfl|rfl|rfl<;>decide) hq
   have ssz:((w2.setCell ⟨b,3,none⟩ (.slice sg gs.length cg)).setCell ⟨b,4,none⟩ x).heap.size=w2.heap.size:=by simp[World.setCell]
   have hx':=hx.kept ku;refine⟨by rw[z1f g2];rfl,by rw[z1f g2];rfl,by rw[z1f g2];rfl,z1g g2 3,by rw[z1f g3];rfl,z1g g3 4,by rw[z1f g3];rfl,by rw[z1f g3];rfl,by rw[z1f g4];rfl,by rw[z1f g4];rfl,by rw[z1f g4];rfl,?_⟩;refine(show AtQ b sc gs w (.returned x) _ from ⟨x,d,rfl,hx',⟨c,_,_,_,_,g4,(h2.kept (Below.keptU hb12)).kept ku,(h3.below hb12).of (λg c hg=>kT g c _ (by decide) hg),h4,⟨_,_,_,rfl⟩,?_⟩,hb12.os,hb12.tape,hb12.output,by rw[ssz];exact hb12.size,λq hq hne=>by rw[kk q hne];exact hb12.block q hq⟩);by_cases hn:sc.2=[]
   ·refine .inr (.inl ⟨hn,⟨sg,cg,by rw[hlen,hn];rfl⟩,d,?_⟩)
    have:putT sc.2 gs sc.1=sc.1:=by
     rw[hn]
     have hid:∀t:Ty,Trim t->putT [] gs t=t:=by
      intro t ht;rw[zcd _ _ _ ht];have e:(λo=>(look (List.zip [] gs) o).getD (tV o))=tV:=by funext o;simp[look]
      rw[e]
      induction t with
      |nil=>exact ht.elim
      |node g o u a b iha ihb=>
       cases u
       rcases ht with ⟨k1,rfl,rfl⟩|⟨rfl,ha,rfl⟩|⟨k1,ha,hb⟩
       ·rcases k1 with rfl|rfl|rfl|rfl<;>rfl
       ·show Go.Deep.BT.node 3 o () (msub tU tV a) .nil=_;rw[iha ha]
       ·rcases k1 with rfl|rfl
        ·show Go.Deep.BT.node 4 o () (msub tU tV a) (msub tU tV b)=_;rw[iha ha,ihb hb]
        ·show Go.Deep.BT.node 5 o () (msub tU tV a) (msub tU tV b)=_;rw[iha ha,ihb hb]
     exact hid _ h2.ku.trim
    rw[<-this];exact hx'
   ·obtain⟨g,cap,q1,cs,e,k1,k2,k3,l,xx,k4⟩:=hfr hn
    refine .inr (.inr ⟨hn,hx'.iface,g,cap,q1,cs,by rw[<-hlen];exact e,kT _ _ _ (by decide) ((hb12.block g (z1a.1 k1).1).trans k1),k2,?_,l,xx,ku _ _ _ (.inr (.inr (.inr rfl))) ((hb12.block q1 (z1a.1 k4).1).trans k4)⟩);rw[ssz];exact z1e (z1a.1 k4).1 hb12.size
 rcases h6 with rfl|⟨k1,⟨sa0,cap0,e0⟩,d,k3⟩|⟨k1,⟨Tk,zk,rfl⟩,g,cap,q0,cs,e,k4,k5,k6,l,xx,k7⟩
 ·exact at_newU b T z sv sg sc.2.length cv gs.length cg _ _ _ _ w (mk w (Below.refl _ _)) (cbl h1)
 ·obtain⟨Tk,zk,rfl⟩:=k3.iface
  simp only[Value.slice.injEq] at e0;obtain⟨rfl,rfl,rfl⟩:=e0;have hg0:gs.length=0:=by rw[hlen,k1];rfl
  refine ztr b T z sv sg sc.2.length cv gs.length cg (λw' x=>∃d,Ku w' d (putT sc.2 gs sc.1) x) (.slice s0 0 c0') (.iface Tk zk) _ Tk zk s0 0 c0' w (cbl h1) (cbl h1) ?_;rw[hg0];refine(equalU0 s0 sg c0' cg w).mono ?_;rintro e w' ⟨rfl,rfl⟩;refine⟨true,rfl,⟨λh=>absurd h (by simp),λ_=>⟨by rw[z1f h1];rfl,?_⟩⟩⟩;have hgs:=List.length_eq_zero_iff.1 hg0;refine⟨_,d,rfl,?_,h0.mono ?_,rfl,rfl,rfl,z1d _,λ_ _ _=>rfl⟩
  ·have:putT sc.2 gs sc.1=sc.1:=by
    rw[k1,hgs];unfold putT
    have hid:∀t:Ty,Trim t->sub (λo=>(look (List.zip [] []) o).getD (tV o)) t=t:=by
     intro t;have e:(λo=>(look (List.zip ([]:List Nat) ([]:List Ty)) o).getD (tV o))=tV:=by funext o;simp[look]
     rw[e]
     induction t with
     |nil=>intro h;exact h.elim
     |node g o u a b iha ihb=>
      intro ht
      cases u
      rcases ht with ⟨k1,rfl,rfl⟩|⟨rfl,ha,rfl⟩|⟨k1,ha,hb⟩
      ·rcases k1 with rfl|rfl|rfl|rfl<;>rfl
      ·show Go.Deep.BT.node 3 o () (sub tV a) .nil=_;rw[iha ha]
      ·rcases k1 with rfl|rfl
       ·show Go.Deep.BT.node 4 o () (sub tV a) (sub tV b)=_;rw[iha ha,ihb hb]
       ·show Go.Deep.BT.node 5 o () (sub tV a) (sub tV b)=_;rw[iha ha,ihb hb]
    exact hid _ h2.ku.trim
   rw[this];exact k3
  ·exact hB
 ·simp only[Value.slice.injEq] at e
  obtain⟨rfl,rfl,rfl⟩:=e;obtain⟨g',cap',q1,cs',e',j1,j2,j3,l',x',j4⟩:=hfr k1;simp only[Value.slice.injEq,true_and] at e';obtain⟨rfl,rfl⟩:=e';have hpos:0<sc.2.length:=by cases hh:sc.2 with|nil=>exact absurd hh k1|cons=>simp
  refine ztr b T z sv _ sc.2.length cv gs.length cg (λw' x=>∃d,Ku w' d (putT sc.2 gs sc.1) x) (sZ g sc.2.length c0') (.iface Tk zk) _ Tk zk (some ⟨g,0,none⟩) sc.2.length c0' w (cbl h1) (cbl h1) ?_;have EQ:=equalU1 g g' sc.2.length c0' cg q0 q1 w hpos (by omega) (by rw[z1f k4];exact k5) (by rw[z1f j1];exact j2) _ _ _ _ k7 j4 (by omega);rw[hlen];refine EQ.mono ?_;rintro e w' ⟨rfl,hb⟩;refine⟨false,rfl,⟨λ_=>?_,λh=>absurd h (by simp)⟩⟩;have:=mk w' hb;rw[hlen] at this;exact this
end
def AuC (lo:Nat) (w:World) (o:Option Sch) (v:Value):Prop:=(o=none/\v=.pointer none)\/∃s b,o=some s/\v=(pZ b)/\Su w.heap.size w b s/\lo<=b
def Au (lo:Nat) (w:World) (a:Nat) (e:Env):Prop:=∃c,w.heap[a]? =some (.cells c 145 (0,0))/\c.size=26/\∀k,k<26->∃v,c[k]? =some v/\AuC lo w (e (97+k)) v
section
variable {e:Env} {a:Nat} {v:Value} {w w':World}
theorem AuC.blw (hb:Below w.heap.size w w') {o:Option Sch} (h:AuC lo w o v):AuC lo w' o v:=by
 rcases h with h|⟨s,b,h1,h2,h3⟩
 ·exact .inl h
 ·exact .inr ⟨s,b,h1,h2,(h3.1.blw hb).mono hb.size,h3.2⟩
theorem Au.blw (hb:Below w.heap.size w w') (h:Au lo w a e):Au lo w' a e:=by
 obtain⟨c,h1,h2,h3⟩:=h;refine⟨c,(hb.block a (z1a.1 h1).1).trans h1,h2,λk hk=>?_⟩;obtain⟨v,hv,hc⟩:=h3 k hk;exact⟨v,hv,hc.blw hb⟩
theorem Au.cell {k:Nat} (h:Au lo w a e) (hk:k<26):∃v,w.cell? ⟨a,k,none⟩=some v/\AuC lo w (e (97+k)) v:=by
 obtain⟨c,h1,h2,h3⟩:=h;obtain⟨v,hv,hc⟩:=h3 k hk;exact⟨v,by rw[z1f h1];exact hv,hc⟩
theorem AuC.ptr {o:Option Sch} (h:AuC lo w o v):∃p,v=.pointer p:=by
 rcases h with ⟨_,rfl⟩|⟨_,b,_,rfl,_⟩<;>exact⟨_,rfl⟩
theorem Au.one {c:Array Value} (h2:c.size=26) (h3:∀k,k<26->∃v,c[k]? =some v/\AuC lo w (e (97+k)) v):c.all (·.oneCell')=true:=by
 rw[Array.all_eq_true];intro i hi;obtain⟨v,hv,hc⟩:=h3 i (by rw[<-h2];exact hi);obtain⟨p,rfl⟩:=hc.ptr;rw[Array.getElem?_eq_getElem hi,Option.some.injEq] at hv;rw[hv];rfl
theorem ofU_any (a c:Nat) (e:Env) (w:World) (h:Au lo w a e) (hc:97<=c/\c<123):
 CZ 154 #[pZ a,uZ c] w λen w'=>∃v,en=.returned v/\AuC lo w (e c) v/\w'=w:=by
 obtain⟨k,rfl⟩:∃k,c=97+k:=⟨c-97,by omega⟩
 have hk:k<26:=by omega
 obtain⟨v,hv,hC⟩:=h.cell hk;obtain⟨p,rfl⟩:=hC.ptr
 have e1:IntKind.u8.wrap (((97+k:Nat):Int)-97)=(k:Int):=by
  rw[show ((97+k:Nat):Int)-97=(k:Int) by omega];exact IntWalk.u8_in _ ⟨by omega,by omega⟩
 have HC:=hid hC;generalize ((97+k:Nat):Int)=x at *
 go_enter Tryz.func154,Tryz.ntmps154;go_wp21;go_ret;exact⟨_,rfl,HC,rfl⟩
theorem Au.new (w:World):Au lo (w.alloc zAr) w.heap.size (λ_=>none):=by
 refine⟨_,z1v w _,rfl,λk hk=>⟨.pointer none,?_,.inl ⟨rfl,rfl⟩⟩⟩;have e:(#[.pointer none,.pointer none,.pointer none,.pointer none,.pointer none,.pointer none,.pointer none,.pointer none,.pointer none,.pointer none,.pointer none,.pointer none,.pointer none,.pointer none,.pointer none,.pointer none,.pointer none,.pointer none,.pointer none,.pointer none,.pointer none,.pointer none,.pointer none,.pointer none,.pointer none,.pointer none]:Array Value)=Array.replicate 26 (.pointer none):=rfl;show (#[.pointer none,.pointer none,.pointer none,.pointer none,.pointer none,.pointer none,.pointer none,.pointer none,.pointer none,.pointer none,.pointer none,.pointer none,.pointer none,.pointer none,.pointer none,.pointer none,.pointer none,.pointer none,.pointer none,.pointer none,.pointer none,.pointer none,.pointer none,.pointer none,.pointer none,.pointer none]:Array Value)[k]? =_;rw[e,Array.getElem?_replicate,if_pos hk]
theorem zrz (a c b:Nat) (e:Env) (s:Sch) (w:World) (h:Au lo w a e) (hs:Su w.heap.size w b s) (hlo:lo<=b) (hc:97<=c/\c<123):
 CZ 157 #[pZ a,uZ c,pZ b] w λen w'=>∃a',en=.returned (pZ a')/\Au lo w' a' (zap e c s)/\Below w.heap.size w w':=by
 obtain⟨k,rfl⟩:∃k,c=97+k:=⟨c-97,by omega⟩
 have hk:k<26:=by omega
 have e1:IntKind.u8.wrap (((97+k:Nat):Int)-97)=(k:Int):=by
  rw[show ((97+k:Nat):Int)-97=(k:Int) by omega];exact IntWalk.u8_in _ ⟨by omega,by omega⟩
 obtain⟨cs,g1,g2,g3⟩:=h;have hone:=Au.one g2 g3;have hr:(w.alloc zAr).heap[w.heap.size]? =some zAr:=z1v w _;have hrow:((w.alloc zAr).setRow w.heap.size cs).heap[w.heap.size]? =some (.cells cs 145 (0,0)):=setRow_heap _ _ _ _ _ _ hr;have hfr:((w.alloc zAr).setRow w.heap.size cs).frozen? ⟨w.heap.size,k,none⟩=false:=frozen_of_row _ _ _ _ _ hrow;obtain⟨v,hv,-⟩:=g3 k hk;have hce:((w.alloc zAr).setRow w.heap.size cs).cell? ⟨w.heap.size,k,none⟩=some v:=by rw[z1f hrow];exact hv
 have hfin:=heap_setCell_same _ _ k _ _ (pZ b) hrow
 have bb:Below w.heap.size w (((w.alloc zAr).setRow w.heap.size cs).setCell ⟨w.heap.size,k,none⟩ (pZ b)):=
  (below_row (bal w _) (z1d _) _).trans ⟨rfl,rfl,rfl,by simp,λq hq=>heap_setCell_other _ _ _ _ (by show q≠w.heap.size;omega)⟩
 have HQ:Hid (∃a',some (⟨w.heap.size,0,none⟩:Addr)=some ⟨a',0,none⟩/\Au lo (((w.alloc zAr).setRow w.heap.size cs).setCell ⟨w.heap.size,k,none⟩ (pZ b)) a' (zap e (97+k) s)/\Below w.heap.size w (((w.alloc zAr).setRow w.heap.size cs).setCell ⟨w.heap.size,k,none⟩ (pZ b))):=by
  refine⟨_,rfl,⟨_,hfin,by simpa using g2,λj hj=>?_⟩,bb⟩;by_cases hjk:j=k
  ·subst hjk
   refine⟨pZ b,by simp[g2,hj],.inr ⟨s,b,by simp[zap],rfl,(hs.blw bb).mono bb.size,hlo⟩⟩
  ·obtain⟨v',h1,h2⟩:=g3 j hj
   refine⟨v',by rw[Array.getElem?_setIfInBounds_ne (by omega)];exact h1,?_⟩;have:zap e (97+k) s (97+j)=e (97+j):=by unfold zap;rw[if_neg (by omega)]
   rw[this];exact h2.blw bb
 have hi:(Tryz.prog.info? 145).map (·.size)=some cs.size:=by rw[g2];exact zza
 generalize ((97+k:Nat):Int)=x at *
 go_enter Tryz.func157,Tryz.ntmps157
 go_wp2_with (first|refine wpList_load_row rfl _ _ rfl a rfl _ cs (0,0) _ g1 Tryz.underlying145 rfl hi ?_|refine wpList_store_row rfl 145 _ _ rfl w.heap.size cs rfl rfl _ _ hr hi g2.symm hone ?_|fail)
 obtain⟨a',h1,h2⟩:=HQ;simp only[Option.some.injEq,Addr.mk.injEq,and_true] at h1;subst h1;go_ret;exact⟨_,rfl,h2⟩
end
end Go.Proofs.YtceadeaodbadlaaGreatDoor
namespace Go.Proofs.YtceadeaodbadlaaGreatDoor
open Go.RowKit
abbrev unkO (l:Nat):Obj:=.cells #[iZ l,.nilIface] 336
section
variable (fb l k:Nat) (w:World)
theorem zok:
 CZ 224 #[iZ l] w λe w'=>e=.returned (pZ w.heap.size)/\w'=w.alloc (unkO l):=by
 go_enter Tryz.func224,Tryz.ntmps224;go_wp21;go_ret;exact⟨rfl,rfl⟩
theorem zhw (hf:w.heap[fb]? =some (finO l k)):
 CZ 204 #[pZ fb] w λe w'=>e=.returned (viU w.heap.size)/\w'=w.alloc (unkO l):=by
 have c0:cZ w fb 0 (iZ l):=cbl hf;have N:=zok l w;go_enter Tryz.func204,Tryz.ntmps204;go_wp21;refine N.mono ?_;rintro e w1 ⟨rfl,rfl⟩;go_wp21;go_ret;exact⟨rfl,rfl⟩
theorem ztf (fb l k n:Nat) (w:World) (hf:w.heap[fb]? =some (finO l k)) (hn:n<=1000):
 CZ 203 #[pZ fb,iZ n] w λe w'=>∃c,e=.returned (sZ w.heap.size n n)/\w'.heap[w.heap.size]? =some (.cells c 94 (0,0))/\(∀j,j<n->c[j]? =some (viU (w.heap.size+1+j))/\w'.heap[w.heap.size+1+j]? =some (obU l .nilIface))/\w'.heap.size=w.heap.size+1+n/\Below w.heap.size w w':=by
 obtain⟨i0,hi0,hz0,hz1,hz2⟩:=info_parts infoTy
 have hmk:(Instr.makeSlice 171 (iZ n) (iZ n)).run Tryz.prog w=.ok (sZ w.heap.size n n) (w.alloc (.cells (madeCells #[.nilIface] n) 94)):=by
  have:=run_makeSlice (P:=Tryz.prog) w 171 94 i0 .nilIface Tryz.underlying171 hi0 hz0 .i64 .i64 (n:Int) (n:Int) (by omega) (Int.le_refl _) (by rw[hz1];simp;omega) (by rw[hz2];omega) (by omega);have e:Value.nilIface.cells=#[.nilIface]:=rfl;rw[e,hz1] at this;simpa using this
 have hrow:=World.rowIs_made w .nilIface n 94;have b1:Below w.heap.size w (w.alloc (.cells (madeCells #[.nilIface] n) 94)):=bal w _;have hlt:=(z1a.1 hf).1;have hf1:(w.alloc (.cells (madeCells #[.nilIface] n) 94)).heap[fb]? =some (finO l k):=by rw[Lib.alloc_old _ _ _ hlt];exact hf
 have hs1:(w.alloc (.cells (madeCells #[.nilIface] n) 94)).heap.size=w.heap.size+1:=by simp
 go_enter Tryz.func203,Tryz.ntmps203;go_wp21;have HW:Hid (w.heap.size=w.heap.size):=rfl;obtain⟨g,hg⟩:∃g,g=w.heap.size:=⟨_,rfl⟩
 have hfg:fb≠g:=by omega
 go_loopw [11] (λv wr=>∃i:Nat,v=(iZ i)/\i<=n/\wr.rowIs w.heap.size 94 n (λj=>if j<i then viU (w.heap.size+1+j) else .nilIface)/\wr.heap.size=w.heap.size+1+i/\(∀j,j<i->wr.heap[w.heap.size+1+j]? =some (obU l .nilIface))/\Below w.heap.size w wr/\wr.heap[fb]? =some (finO l k)) (λv _=>n-(intOf v).toNat)
 case atStart=>exact⟨0,rfl,Nat.zero_le _,by simpa using hrow,by simp,λj hj=>by omega,b1,hf1⟩
 case round=>
  obtain⟨i,rfl,hin,hr,hsz,hun,hb,hff⟩:=hrel;by_cases hi:i=n
  ·subst hi
   obtain⟨c,c1,c2,c3⟩:=hr;have HP:Hid (∃c,wr.heap[w.heap.size]? =some (.cells c 94 (0,0))/\(∀j,j<i->c[j]? =some (viU (w.heap.size+1+j))/\wr.heap[w.heap.size+1+j]? =some (obU l .nilIface))/\wr.heap.size=w.heap.size+1+i/\Below w.heap.size w wr):=⟨c,c1,λj hj=>⟨by rw[c3 j hj];simp[hj],hun j hj⟩,hsz,hb⟩
   go_wp21;go_ret;obtain⟨c,h1,h2,h3,h4⟩:=HP;exact⟨rfl,c,h1,h2,h3,h4⟩
  ·have hlt:i<n:=by omega
   have U:=zhw fb l k wr hff;have hii:(i:Int)<(n:Int):=by omega
   have hcell:(wr.alloc (unkO l)).cell? ⟨w.heap.size,i,none⟩=some .nilIface:=by
    rw[z1o _ _ ⟨w.heap.size,i,none⟩ (by show w.heap.size<_;omega),hr.cell hlt];simp
   have hfro:(wr.alloc (unkO l)).frozen? ⟨w.heap.size,i,none⟩=false:=by
    obtain⟨c,c1,_⟩:=hr;exact z1g ((Lib.alloc_old _ _ _ (z1a.1 c1).1).trans c1) i
   go_wp21;refine U.mono ?_;rintro e w1 ⟨rfl,rfl⟩;go_wp21;go_roundw
   case rel=>
    obtain⟨c,c1,c2,c3⟩:=hr;have cl:=(z1a.1 c1).1;have c1':(wr.alloc (unkO l)).heap[w.heap.size]? =some (.cells c 94 (0,0)):=(Lib.alloc_old _ _ _ cl).trans c1;have ko:∀q,q≠w.heap.size->((wr.alloc (unkO l)).setCell ⟨w.heap.size,i,none⟩ (viU (w.heap.size+1+i))).heap[q]? =(wr.alloc (unkO l)).heap[q]?:=λq hq=>Below.heap_setCell _ _ _ _ (by show ¬_;simp;omega)
    refine⟨i+1,by simp,by omega,⟨c.setIfInBounds i (viU (w.heap.size+1+i)),?_,by simp[c2],λj hj=>?_⟩,by simp[World.setCell,hsz];omega,λj hj=>?_,?_,?_⟩
    ·simp[World.setCell,z1i,c1']
    ·rw[Array.getElem?_setIfInBounds]
     by_cases e:i=j
     ·subst e;simp[c2,hlt]
     ·rw[if_neg e,c3 j hj]
      by_cases e2:j<i
      ·simp[e2,show j<i+1 by omega]
      ·simp[e2,show ¬j<i+1 by omega]
    ·rw[ko _ (by omega)]
     by_cases e:j=i
     ·subst e
      have:=z1v wr (unkO l);rw[hsz] at this;exact this
     ·rw[Lib.alloc_old _ _ _ (by omega)];exact hun j (by omega)
    ·refine⟨hb.os,hb.tape,hb.output,by simp[World.setCell];omega,λq hq=>?_⟩
     rw[ko q (by omega),Lib.alloc_old _ _ _ (by omega)];exact hb.block q hq
    ·rw[ko fb (by omega),Lib.alloc_old _ _ _ (by omega)];exact hff
   case measure=>simp[intOf];omega
end
end Go.Proofs.YtceadeaodbadlaaGreatDoor
namespace Go.Proofs.YtceadeaodbadlaaGreatDoor
open Go.RowKit
variable {lo : Nat}
structure Wf (lo L:Nat) (s:Sta) (δ:Nat->Ty) (w w':World):Prop where
 os:w'.os=w.os
 tape:w'.tape=w.tape
 output:w'.output=w.output
 size:w.heap.size<=w'.heap.size
 rest:∀(q:Nat) (c:Array Value) (T:TypeId) (fz:Nat×Nat),T≠336->T≠299->T≠222->w.heap[q]? =some (.cells c T fz)->w'.heap[q]? =some (.cells c T fz)
 unk:∀(q l:Nat) (x:Value),w.heap[q]? =some (obU l x)->∃l' x',w'.heap[q]? =some (obU l' x')
 ku:KuStep s.A δ w w'
 sch:∀(b:Nat) (sc:Sch),Su w.heap.size w b sc->SchU L s sc->Su w'.heap.size w' b (usub δ sc.1,sc.2)
 low:∀q,q<lo->q<w.heap.size->w'.heap[q]? =w.heap[q]?
section
variable {Γ:Env} {e:Ex} {A:List Nat} {L b a:Nat} {δ:Nat->Ty} {sc:Sch} {s s1:Sta} {v:Value} {w w' w1 w2:World}
theorem Wf.of (os:w'.os=w.os) (tape:w'.tape=w.tape) (output:w'.output=w.output) (size:w.heap.size<=w'.heap.size) (rest:∀(q:Nat) (c:Array Value) (T:TypeId) (fz:Nat×Nat),T≠336->T≠222->w.heap[q]? =some (.cells c T fz)->w'.heap[q]? =some (.cells c T fz)) (unk:∀(q l:Nat) (x:Value),w.heap[q]? =some (obU l x)->∃l' x',w'.heap[q]? =some (obU l' x')) (ku:KuStep s.A δ w w') (pl:∀q∈s.A,s.lev q<=L->zbc (δ q)) (low:∀q,q<lo->q<w.heap.size->w'.heap[q]? =w.heap[q]?):Wf lo L s δ w w':=by
 refine⟨os,tape,output,size,λq c T fz h1 _ h3 hq=>rest q c T fz h1 h3 hq,unk,ku,λb sc hs hu=>?_,low⟩
 have hb:w'.heap[b]? =w.heap[b]?:=by
  obtain⟨c,ov,V,G,tk,h1,_⟩:=id hs;rw[h1];exact rest _ _ _ _ (by decide) (by decide) h1
 refine(hs.step hb (λq c T hT hq=>rest q c T _ ?_ ?_ hq) unk ku (λq hq=>(hu.un q hq).1) λq hq=>pl q (hu.un q hq).1 (hu.un q hq).2).mono size
 ·rcases hT with rfl|rfl|rfl|rfl|rfl<;>decide
 ·rcases hT with rfl|rfl|rfl|rfl|rfl<;>decide
theorem KuStep.keptU (h:KeptU w w'):KuStep A tU w w':=λc t v hv _=>by rw[zeb hv.trim];exact hv.kept h
theorem Wf.blw (h:Below w.heap.size w w'):Wf lo L s tU w w':=
 have hk:∀(q:Nat) (o:Obj),w.heap[q]? =some o->w'.heap[q]? =some o:=λq o hq=>(h.block q (z1a.1 hq).1).trans hq
 Wf.of h.os h.tape h.output h.size (λq c T fz _ _ hq=>hk _ _ hq) (λq l x hq=>⟨l,x,hk _ _ hq⟩) (KuStep.keptU (Below.keptU h)) (λq _ _=>zel q) λq _ hq=>h.block q hq
theorem Wf.kx (h:Kx s.A w w') (hi:∀q∈s.A,lo<=q) (k:KuStep s.A δ w w') (pl:∀q∈s.A,s.lev q<=L->zbc (δ q)):Wf lo L s δ w w':=
 Wf.of h.os h.tape h.output h.size (λq c T fz h1 _ hq=>h.rest q c T fz h1 hq) (λq l x hq=>by obtain⟨l',x',h',_⟩:=h.unk q l x hq;exact⟨l',x',h'⟩) k pl λq h1 h2=>h.oth q h2 λhm=>by have:=hi q hm;omega
theorem Wf.trans {δ1 δ2:Nat->Ty} (h:Wf lo L s δ1 w w1) (k:Wf lo L s1 δ2 w1 w2) (sp:Stp L s s1 δ1):Wf lo L s (λq=>usub δ2 (δ1 q)) w w2:=by
 refine⟨k.os.trans h.os,k.tape.trans h.tape,k.output.trans h.output,z1c h.size k.size,λq c T fz a b d hq=>k.rest q c T fz a b d (h.rest q c T fz a b d hq),λq l x hq=>?_,h.ku.trans k.ku λq hq p hp=>(sp.D q hq p hp).1,λb sc hs hu=>?_,λq h1 h2=>(k.low q h1 (z1e h2 h.size)).trans (h.low q h1 h2)⟩
 ·obtain⟨l1,x1,h1⟩:=h.unk q l x hq
  exact k.unk q l1 x1 h1
 ·have:=k.sch b _ (h.sch b sc hs hu) (hu.step sp)
  rw[zam] at this;exact this
theorem Wf.congr {δ':Nat->Ty} (h:Wf lo L s δ w w') (e:∀q∈s.A,δ' q=δ q):Wf lo L s δ' w w':=by
 refine⟨h.os,h.tape,h.output,h.size,h.rest,h.unk,λc t v hv hA=>?_,λb sc hs hu=>?_,h.low⟩
 ·rw[zao λq hq=>e q (hA q hq)];exact h.ku c t v hv hA
 ·rw[zao λq hq=>e q (hu.un q hq).1];exact h.sch b sc hs hu
theorem Wf.after (h:Wf lo L s δ w w1) (k:Wf lo L s1 tU w1 w2) (sp:Stp L s s1 δ):Wf lo L s δ w w2:=
 (h.trans k sp).congr λq hq=>(zeb (sp.tr q hq)).symm
theorem Wf.before (k:Wf lo L s tU w w1) (sp:Stp L s s1 tU) (h:Wf lo L s1 δ w1 w2):Wf lo L s δ w w2:=
 (k.trans h sp).congr λq hq=>by simp
theorem Wf.down (h:Wf lo (L+1) s δ w w'):Wf lo L s δ w w':=
 ⟨h.os,h.tape,h.output,h.size,h.rest,h.unk,h.ku,λb sc hs hu=>h.sch b sc hs ⟨λq hq=>⟨(hu.un q hq).1,by have:=(hu.un q hq).2;omega⟩,hu.own,hu.tr⟩,h.low⟩
theorem Su.one {B B':Nat} {sc':Sch} (h:Su B w b sc) (h':Su B' w b sc'):sc=sc':=by
 obtain⟨c,ov,V,G,tk,h1,h2,h3,_⟩:=h;obtain⟨c',ov',V',G',tk',h1',h2',h3',_⟩:=h';rw[h1] at h1';simp at h1';obtain⟨rfl,rfl,rfl,rfl⟩:=h1';exact Prod.ext (h2.ku.one h2'.ku).2 (h3.one h3')
theorem Wf.at (hs:Su w.heap.size w b sc) (hs':Su w'.heap.size w' b sc) (hlo:lo<=b) (os:w'.os=w.os) (tape:w'.tape=w.tape) (output:w'.output=w.output) (size:w.heap.size<=w'.heap.size) (k:∀q,q<w.heap.size->q≠b->w'.heap[q]? =w.heap[q]?):Wf lo L s tU w w':=by
 have hk:∀(q:Nat) (c:Array Value) (T:TypeId) (fz:Nat×Nat),T≠299->w.heap[q]? =some (.cells c T fz)->w'.heap[q]? =some (.cells c T fz):=by
  intro q c T fz hT hq;rw[k q (z1a.1 hq).1]
  ·exact hq
  ·rintro rfl
   obtain⟨c',ov,V,G,tk,h1,_⟩:=hs;rw[h1] at hq;simp at hq;exact hT hq.2.1.symm
 have ku:KeptU w w':=λq c T hT hq=>hk q c T _ (by rcases hT with rfl|rfl|rfl|rfl<;>decide) hq
 refine⟨os,tape,output,size,λq c T fz _ h _ hq=>hk q c T fz h hq,λq l x hq=>⟨l,x,hk _ _ _ _ (by decide) hq⟩,KuStep.keptU ku,λb' sc' h' hu=>?_,λq h1 h2=>k q h2 (by omega)⟩;by_cases e:b'=b
 ·subst e
  have:=hs.one h';subst this;rw[zeb hu.tr];exact hs'
 ·have:=(h'.step (A:=s.A) (δ:=tU) (k b' h'.lt e) (λq c T hT hq=>hk q c T _ (by rcases hT with rfl|rfl|rfl|rfl|rfl<;>decide) hq) (λq l x hq=>⟨l,x,hk _ _ _ _ (by decide) hq⟩) (KuStep.keptU ku) (λq hq=>(hu.un q hq).1) λq _=>zel q).mono size
  exact this
def Lw (lo:Nat) (w:World):Prop:=10<=lo/\lo<=w.heap.size
theorem Lw.size (h:Lw lo w):10<=w.heap.size:=z1c h.1 h.2
theorem Wf.g10 {q:Nat} (h:Wf lo L s δ w w') (l:Lw lo w) (hq:q<10):w'.heap[q]? =w.heap[q]?:=h.low q (by have:=l.1;omega) (by have:=l.size;omega)
theorem Wf.lw (h:Wf lo L s δ w w') (l:Lw lo w):Lw lo w':=⟨l.1,z1c l.2 h.size⟩
theorem Wf.gl {tx:Nat->Addr} (h:Wf lo L s δ w w') (l:Lw lo w) (g:Gl tx w):Gl tx w':=by
 refine⟨λk hk=>?_,?_,z1c g.size h.size⟩
 ·have e:=g.errs k hk
  unfold World.cell? at e ⊢;rw[h.g10 l (show k<10 by omega)];exact e
 ·have e:=g.hand
  unfold World.cell? at e ⊢;rw[h.g10 l (show 8<10 by omega)];exact e
theorem Wf.tb (h:Wf lo L s δ w w') (l:Lw lo w) (t:Tb w):Tb w':=by
 obtain⟨t,fr,e⟩:=t;exact⟨t,fr,(h.g10 l (show 9<10 by omega)).trans e⟩
theorem Wf.au (h:Wf lo L s δ w w') (ha:Au lo w a Γ) (hΓ:EnvU L s Γ):Au lo w' a (gmap δ Γ):=by
 obtain⟨c,h1,h2,h3⟩:=ha;refine⟨c,h.rest _ _ _ _ (by decide) (by decide) (by decide) h1,h2,λk hk=>?_⟩;obtain⟨v,hv,hc⟩:=h3 k hk;refine⟨v,hv,?_⟩;rcases hc with ⟨e,hv⟩|⟨sc,b,e,hv,hs⟩
 ·exact .inl ⟨by unfold gmap;rw[e];rfl,hv⟩
 ·exact .inr ⟨(usub δ sc.1,sc.2),b,by unfold gmap;rw[e];rfl,hv,h.sch b sc hs.1 (hΓ _ _ e),hs.2⟩
theorem gmap_id (hΓ:EnvU L s Γ):gmap tU Γ=Γ:=by
 funext c;unfold gmap
 cases h:Γ c with
 |none=>rfl
 |some sc=>show some (usub tU sc.1,sc.2)=some sc;rw[zeb (hΓ c sc h).tr]
theorem Wf.au0 (h:Wf lo L s tU w w') (ha:Au lo w a Γ) (hΓ:EnvU L s Γ):Au lo w' a Γ:=by
 have:=h.au ha hΓ;rw[gmap_id hΓ] at this;exact this
def KeptE (w w':World):Prop:=∀(q:Nat) (c:Array Value) (T:TypeId),T=258\/T=261\/T=252\/T=94\/T=286->w.heap[q]? =some (.cells c T (0,0))->w'.heap[q]? =some (.cells c T (0,0))
theorem KeptE.n (h:KeptE w w'):KeptN w w':=λq c T hT hq=>h q c T (by rcases hT with h|h|h;exact .inl h;exact .inr (.inl h);exact .inr (.inr (.inl h))) hq
theorem Ev.keptE (hk:KeptE w w'):∀(e:Ex) (v:Value),Ev w e v->Ev w' e v:=by
 have hG:∀{G:Value} {ts:List Ty},Gv w G ts->Gv w' G ts:=by
  rintro G ts ⟨vs,h1,h2⟩;exact⟨vs,zci (λg c hg=>hk _ _ _ (.inr (.inr (.inr (.inl rfl)))) hg) h1,Tvs.keptN hk.n _ _ h2⟩
 have hF:∀{F:Value} {g:List Ty},Fv w F g->Fv w' F g:=by
  rintro F g (h|⟨u,e,h⟩)
  ·exact .inl h
  ·exact .inr ⟨u,e,Tv.keptN hk.n _ _ h⟩
 have hV:∀{V:Value} {l:List (Nat×Nat)},Ov w V l->Ov w' V l:=λh=>zci (λg c hg=>hk _ _ _ (.inr (.inr (.inr (.inr rfl)))) hg) h
 intro e
 induction e with
 |nil=>intro v h;exact h.elim
 |node t o x a b iha ihb=>
  intro v h;rcases h with ⟨e,G,hv,h⟩|⟨e,G,hv,h⟩|h|⟨e,F,T,y,hv,h,ha⟩|⟨e,V,T,y,T',z,hv,h,ha,hb⟩|⟨e,T,y,T',z,hv,ha,hb⟩
  ·exact .inl ⟨e,G,hv,hG h⟩
  ·exact .inr (.inl ⟨e,G,hv,hG h⟩)
  ·exact .inr (.inr (.inl h))
  ·exact .inr (.inr (.inr (.inl ⟨e,F,T,y,hv,hF h,iha _ ha⟩)))
  ·exact .inr (.inr (.inr (.inr (.inl ⟨e,V,T,y,T',z,hv,hV h,iha _ ha,ihb _ hb⟩))))
  ·exact .inr (.inr (.inr (.inr (.inr ⟨e,T,y,T',z,hv,iha _ ha,ihb _ hb⟩))))
theorem Wf.keptE (h:Wf lo L s δ w w'):KeptE w w':=λq c T hT hq=>by
 refine h.rest q c T _ ?_ ?_ ?_ hq<;>rcases hT with rfl|rfl|rfl|rfl|rfl<;>decide
theorem Wf.ev (h:Wf lo L s δ w w') (hv:Ev w e v):Ev w' e v:=Ev.keptE h.keptE e v hv
def Eu (w:World):Ex->Value->List Ty->Prop
 | .nil,_,_=>False
 | .node t _ x a b,v,Ts=>
  (t=0/\∃G,v=.iface 173 (.agg #[uZ x.c,G,iZ x.p])/\Grow' w G Ts)\/
  (t=1/\∃G,v=.iface 175 (.agg #[uZ x.c,G,iZ x.p])/\Grow' w G Ts)\/
  (t=2/\v=.iface 177 (.agg #[uZ x.c])/\Ts=[])\/
  (t=3/\∃F T y d u T1,v=.iface 179 (.agg #[uZ x.c,F,.iface T y,iZ x.p])/\Ku w d u F/\Eu w a (.iface T y) T1/\Ts=u::T1)\/
  (t=4/\∃sv n cv T y T' z T1 T2,v=.iface 183 (.agg #[uZ x.c,.slice sv n cv,.iface T y,.iface T' z])/\Eu w a (.iface T y) T1/\Eu w b (.iface T' z) T2/\Ts=T1++T2)\/
  (t=5/\∃T y T' z T1 T2,v=.iface 186 (.agg #[.iface T y,.iface T' z,iZ x.p])/\Eu w a (.iface T y) T1/\Eu w b (.iface T' z) T2/\Ts=T1++T2)
theorem Grow'.step {G:Value} {gs:List Ty} (hr:∀(q:Nat) (c:Array Value),w.heap[q]? =some (.cells c 94 (0,0))->w'.heap[q]? =some (.cells c 94 (0,0))) (hk:KuStep A δ w w') (h:Grow' w G gs) (hA:∀u∈gs,∀q,inU q u->q∈A):Grow' w' G (gs.map (usub δ)):=by
 obtain⟨sa,cap,rfl,h⟩:=h;refine⟨sa,cap,by rw[z2a],?_⟩;rcases h with rfl|⟨g,c,rfl,hg,hc⟩
 ·exact .inl rfl
 ·refine .inr ⟨g,c,rfl,hr _ _ hg,λj t hj=>?_⟩
  rw[z1n] at hj
  cases hgs:gs[j]? with
  |none=>rw[hgs] at hj;cases hj
  |some u=>
   rw[hgs] at hj
   cases hj
   obtain⟨x,d,h1,h2⟩:=hc j u hgs;exact⟨x,d,h1,hk _ _ _ h2 (hA u (z1m hgs))⟩
theorem Eu.step (hr:∀(q:Nat) (c:Array Value),w.heap[q]? =some (.cells c 94 (0,0))->w'.heap[q]? =some (.cells c 94 (0,0))) (hk:KuStep A δ w w'):
 ∀{e:Ex} {v:Value} {Ts:List Ty},Eu w e v Ts->(∀u∈Ts,∀q,inU q u->q∈A)->Eu w' e v (Ts.map (usub δ)):=by
 intro e
 induction e with
 |nil=>intro v Ts h;exact h.elim
 |node t o x a b iha ihb=>
  intro v Ts h hA;rcases h with ⟨e,G,hv,h⟩|⟨e,G,hv,h⟩|⟨e,hv,rfl⟩|⟨e,F,T,y,d,u,T1,hv,h,ha,rfl⟩|⟨e,sv,n,cv,T,y,T',z,T1,T2,hv,ha,hb,rfl⟩|⟨e,T,y,T',z,T1,T2,hv,ha,hb,rfl⟩
  ·exact .inl ⟨e,G,hv,h.step hr hk hA⟩
  ·exact .inr (.inl ⟨e,G,hv,h.step hr hk hA⟩)
  ·exact .inr (.inr (.inl ⟨e,hv,rfl⟩))
  ·exact .inr (.inr (.inr (.inl ⟨e,F,T,y,d,_,_,hv,hk _ _ _ h (hA u z1k),iha ha λr hr=>hA r (z1j _ hr),rfl⟩)))
  ·exact .inr (.inr (.inr (.inr (.inl ⟨e,sv,n,cv,T,y,T',z,_,_,hv,iha ha λr hr=>hA r (List.mem_append_left _ hr),ihb hb λr hr=>hA r (List.mem_append_right _ hr),by rw[List.map_append]⟩))))
  ·exact .inr (.inr (.inr (.inr (.inr ⟨e,T,y,T',z,_,_,hv,iha ha λr hr=>hA r (List.mem_append_left _ hr),ihb hb λr hr=>hA r (List.mem_append_right _ hr),by rw[List.map_append]⟩))))
theorem Eu.trim:∀{e:Ex} {v:Value} {Ts:List Ty},Eu w e v Ts->∀u∈Ts,Trim u:=by
 have hG:∀{G:Value} {Ts:List Ty},Grow' w G Ts->∀u∈Ts,Trim u:=by
  rintro G Ts ⟨sa,cap,rfl,rfl|⟨g,c,rfl,hg,hc⟩⟩ u hu
  ·cases hu
  ·obtain⟨j,hj,e⟩:=List.mem_iff_getElem.1 hu
   obtain⟨x,d,_,h2⟩:=hc j u (by rw[z1h hj,e]);exact h2.trim
 intro e
 induction e with
 |nil=>intro v Ts h;exact h.elim
 |node t o x a b iha ihb=>
  intro v Ts h r hr;rcases h with ⟨e,G,hv,h⟩|⟨e,G,hv,h⟩|⟨e,hv,rfl⟩|⟨e,F,T,y,d,u,T1,hv,h,ha,rfl⟩|⟨e,sv,n,cv,T,y,T',z,T1,T2,hv,ha,hb,rfl⟩|⟨e,T,y,T',z,T1,T2,hv,ha,hb,rfl⟩
  ·exact hG h r hr
  ·exact hG h r hr
  ·cases hr
  ·rcases List.mem_cons.1 hr with rfl|hr
   ·exact h.trim
   ·exact iha ha r hr
  ·rcases z1y.1 hr with hr|hr
   ·exact iha ha r hr
   ·exact ihb hb r hr
  ·rcases z1y.1 hr with hr|hr
   ·exact iha ha r hr
   ·exact ihb hb r hr
theorem Wf.eu {Ts:List Ty} (h:Wf lo L s δ w w') (hv:Eu w e v Ts) (hA:∀u∈Ts,∀q,inU q u->q∈s.A):Eu w' e v (Ts.map (usub δ)):=
 hv.step (λq c hq=>h.rest _ _ _ _ (by decide) (by decide) (by decide) hq) h.ku hA
def exn:Ex->Nat
 | .nil=>0
 | .node _ _ _ a b=>exn a+exn b+1
def FdQ (lo fb L:Nat) (s:Sta) (Γ:Env) (e:Ex) (w:World) (en:Ending) (w':World):Prop:=
 ∃Te ze T z c s' δ τ Ts,en=.returned (.tuple #[.iface Te ze,.iface T z,.nilIface])/\FndT e L s Γ s' δ τ Ts/\Wf lo L s δ w w'/\SW w' s'/\w'.heap[fb]? =some (finO L s'.tk)/\Ku w' c τ (.iface T z)/\Eu w' e (.iface Te ze) Ts/\∀q∈s'.A,lo<=q
structure Fp (lo:Nat) (tx:Nat->Addr) (M fb L:Nat) (s:Sta) (Γ:Env) (e:Ex) (a:Nat) (w:World):Prop where
 lw:Lw lo w
 gl:Gl tx w
 tb:Tb w
 au:Au lo w a Γ
 sw:SW w s
 fin:w.heap[fb]? =some (finO L s.tk)
 env:EnvU L s Γ
 bnd:Bnd M e L s Γ
 cb:Cb e L s Γ
 nfl:¬Fl e L s Γ
 lev:L+exn e<=1000000
 hi:∀q∈s.A,lo<=q
 lof:lo<=fb
 los:lo<=w.heap.size
def SaidF (lo:Nat) (tx:Nat->Addr) (M fb:Nat) (e:Ex):Prop:=∀(L:Nat) (s:Sta) (Γ:Env) (a:Nat) (v:Value) (w:World),Fp lo tx M fb L s Γ e a w->Ev w e v->
 CZ 136 #[pZ fb,v,pZ a] w (FdQ lo fb L s Γ e w)
end
end Go.Proofs.YtceadeaodbadlaaGreatDoor
namespace Go.Proofs.YtceadeaodbadlaaGreatDoor
open Go.RowKit
abbrev nmO (T:TypeId) (c:Int) (sg:Option Addr) (ng cg:Nat) (p:Int):Obj:=.cells #[.int .u8 c,.slice sg ng cg,.int .i64 p] T
def NBox (n:Nat) (c:Int) (sg:Option Addr) (ng cg:Nat) (p:Int) (wq:World):Prop:=
 wq.cell? ⟨n,0,none⟩=some (.int .u8 c)/\wq.cell? ⟨n,1,none⟩=some (.slice sg ng cg)/\wq.cell? ⟨n,2,none⟩=some (.int .i64 p)
section
variable {c p:Int} {n ng cg:Nat} {sg:Option Addr} {T:TypeId} {w:World}
theorem nbox (h:w.heap[n]? =some (nmO T c sg ng cg p)):NBox n c sg ng cg p w:=
 ⟨by rw[z1f h];rfl,by rw[z1f h];rfl,by rw[z1f h];rfl⟩
theorem zpx {sa:Option Addr} {na ca:Nat} (h:w.heap[n]? =some (nmO T c sg ng cg p)):(w.setCell ⟨n,1,none⟩ (.slice sa na ca)).heap[n]? =some (nmO T c sa na ca p):=heap_setCell_same w n 1 _ _ _ h
theorem zpp (a fb:Nat) (c p:Int) (sg:Option Addr) (ng cg:Nat) (w:World) (Q:Ending->World->Prop) (OF:CZ 154 #[pZ a,.int .u8 c] (w.alloc (nmO 173 c sg ng cg p)) λen w1=>∃b,en=.returned (pZ b)/\
  CZ 190 #[pZ b] w1 λen w2=>∃k:Int,en=.returned (.int .i64 k)/\
  CZ 203 #[pZ fb,.int .i64 k] w2 λen w3=>∃sa na ca,en=.returned (.slice sa na ca)/\w3.heap[w.heap.size]? =some (nmO 173 c sg ng cg p)/\
  CZ 191 #[pZ b,.slice sa na ca] (w3.setCell ⟨w.heap.size,1,none⟩ (.slice sa na ca)).drew λen w4=>∃T z,en=.returned (.iface T z)/\NBox w.heap.size c sa na ca p w4/\
   Hid (Q (.returned (.tuple #[.iface 173 (.agg #[.int .u8 c,.slice sa na ca,.int .i64 p]),.iface T z,.nilIface])) w4)):
 CZ 169 #[pZ fb,.agg #[.int .u8 c,.slice sg ng cg,.int .i64 p],pZ a] w Q:=by
 have hn:=z1v w (nmO 173 c sg ng cg p);have d0:(w.alloc (nmO 173 c sg ng cg p)).cell? ⟨w.heap.size,0,none⟩=some (.int .u8 c):=cbl hn;generalize hW:w.alloc (nmO 173 c sg ng cg p)=W at *
 go_enter Tryz.func169,Tryz.ntmps169;go_wp21;refine OF.mono ?_;rintro en w1 ⟨b,rfl,CN⟩;go_wp21;refine CN.mono ?_;rintro en w2 ⟨k,rfl,AN⟩;go_wp21;refine AN.mono ?_;rintro en w3 ⟨sa,na,ca,rfl,hn,AT⟩;have c1:cZ w3 w.heap.size 1 (.slice sg ng cg):=cbl hn;have f1:=z1g hn 1;have s0:=nbox (zpx (sa:=sa) (na:=na) (ca:=ca) hn);unfold NBox at *
 go_wp21;generalize hW3:w3.setCell ⟨w.heap.size,1,none⟩ (.slice sa na ca)=W3 at *
 refine wp_region_held_drew (S:=(λwq=>cZ wq w.heap.size 0 (.int .u8 c)/\cZ wq w.heap.size 1 (.slice sa na ca)/\cZ wq w.heap.size 2 (.int .i64 p))) (by kernel_rfl) (s0) (λhS=>?_);refine tkL 0 (.agg #[.int .u8 c,.slice sa na ca,.int .i64 p]) hS ?_;refine tkS 1 (.iface 173 (.agg #[.int .u8 c,.slice sa na ca,.int .i64 p])) hS ?_;refine tkS 2 (pZ b) hS ?_;refine tkS 3 (.pointer (some ⟨w.heap.size,1,none⟩)) hS ?_;refine tkL 4 (.slice sa na ca) hS ?_;refine rd1 5 (λKK hK=>?_);go_simp;go_at_call 191;refine(AT).mono ?_;rintro en w4 ⟨T,z,rfl,s4,HQ⟩;refine hK.out _ _ s4 (λhS=>nrm ?_);refine tkS 6 (.iface 173 (.agg #[.int .u8 c,.slice sa na ca,.int .i64 p])) hS ?_;refine tkS 7 (.iface T z) hS ?_;refine tkS 8 (.nilIface) hS ?_;refine wpAnyH_done (by kernel_rfl) ?_ _;go_wp21;go_ret3;exact HQ
theorem zkg (a fb:Nat) (c p:Int) (sg:Option Addr) (ng cg:Nat) (w:World) (Q:Ending->World->Prop) (OF:CZ 156 #[.int .u8 c] (w.alloc (nmO 175 c sg ng cg p)) λen w1=>∃b,en=.returned (.tuple #[pZ b,.nilIface])/\
  CZ 190 #[pZ b] w1 λen w2=>∃k:Int,en=.returned (.int .i64 k)/\
  CZ 203 #[pZ fb,.int .i64 k] w2 λen w3=>∃sa na ca,en=.returned (.slice sa na ca)/\w3.heap[w.heap.size]? =some (nmO 175 c sg ng cg p)/\
  CZ 191 #[pZ b,.slice sa na ca] (w3.setCell ⟨w.heap.size,1,none⟩ (.slice sa na ca)).drew λen w4=>∃T z,en=.returned (.iface T z)/\NBox w.heap.size c sa na ca p w4/\
   Hid (Q (.returned (.tuple #[.iface 175 (.agg #[.int .u8 c,.slice sa na ca,.int .i64 p]),.iface T z,.nilIface])) w4)):
 CZ 170 #[pZ fb,.agg #[.int .u8 c,.slice sg ng cg,.int .i64 p]] w Q:=by
 have hn:=z1v w (nmO 175 c sg ng cg p);have d0:(w.alloc (nmO 175 c sg ng cg p)).cell? ⟨w.heap.size,0,none⟩=some (.int .u8 c):=cbl hn;generalize hW:w.alloc (nmO 175 c sg ng cg p)=W at *
 go_enter Tryz.func170,Tryz.ntmps170;go_wp21;refine OF.mono ?_;rintro en w1 ⟨b,rfl,CN⟩;go_wp21;refine CN.mono ?_;rintro en w2 ⟨k,rfl,AN⟩;go_wp21;refine AN.mono ?_;rintro en w3 ⟨sa,na,ca,rfl,hn,AT⟩;have c1:cZ w3 w.heap.size 1 (.slice sg ng cg):=cbl hn;have f1:=z1g hn 1;have s0:=nbox (zpx (sa:=sa) (na:=na) (ca:=ca) hn);unfold NBox at *
 go_wp21;generalize hW3:w3.setCell ⟨w.heap.size,1,none⟩ (.slice sa na ca)=W3 at *
 refine wp_region_held_drew (S:=(λwq=>cZ wq w.heap.size 0 (.int .u8 c)/\cZ wq w.heap.size 1 (.slice sa na ca)/\cZ wq w.heap.size 2 (.int .i64 p))) (by kernel_rfl) (s0) (λhS=>?_);refine tkL 0 (.agg #[.int .u8 c,.slice sa na ca,.int .i64 p]) hS ?_;refine tkS 1 (.iface 175 (.agg #[.int .u8 c,.slice sa na ca,.int .i64 p])) hS ?_;refine tkS 2 (pZ b) hS ?_;refine tkS 3 (.pointer (some ⟨w.heap.size,1,none⟩)) hS ?_;refine tkL 4 (.slice sa na ca) hS ?_;refine rd1 5 (λKK hK=>?_);go_simp;go_at_call 191;refine(AT).mono ?_;rintro en w4 ⟨T,z,rfl,s4,HQ⟩;refine hK.out _ _ s4 (λhS=>nrm ?_);refine tkS 6 (.iface 175 (.agg #[.int .u8 c,.slice sa na ca,.int .i64 p])) hS ?_;refine tkS 7 (.iface T z) hS ?_;refine tkS 8 (.nilIface) hS ?_;refine wpAnyH_done (by kernel_rfl) ?_ _;go_wp21;go_ret3;exact HQ
end
end Go.Proofs.YtceadeaodbadlaaGreatDoor
namespace Go.Proofs.YtceadeaodbadlaaGreatDoor
open Go.RowKit
variable {lo : Nat}
section
variable {w w':World} (tx:Nat->Addr) (M fb L:Nat)
theorem sz_msub1 {θ φ:Nat->Ty} (h1:∀q,sz (θ q)=1) (h2:∀o,sz (φ o)=1):∀t,Trim t->sz (msub θ φ t)=sz t:=by
 intro t
 induction t with
 |nil=>intro _;rfl
 |node g o u a b iha ihb=>
  intro ht;rcases ht with ⟨k1,rfl,rfl⟩|⟨rfl,ha,rfl⟩|⟨k1,ha,hb⟩
  ·rcases k1 with rfl|rfl|rfl|rfl<;>simp[msub,sz,h1,h2]
  ·simp only[msub,sz,if_neg (show ¬(3:Nat)=6 by decide),if_neg (show ¬(3:Nat)=2 by decide),iha ha]
  ·rcases k1 with rfl|rfl
   ·simp only[msub,sz,if_neg (show ¬(4:Nat)=6 by decide),if_neg (show ¬(4:Nat)=2 by decide),iha ha,ihb hb]
   ·simp only[msub,sz,if_neg (show ¬(5:Nat)=6 by decide),if_neg (show ¬(5:Nat)=2 by decide),iha ha,ihb hb]
theorem look_one {qs:List Nat}:∀{vs:List Nat} {o:Nat} {x:Ty},look (vs.zip (qs.map tU)) o=some x->sz x=1:=by
 induction qs with
 |nil=>intro vs o x h;cases vs<;>simp[look] at h
 |cons q qs ih=>
  intro vs o x h
  cases vs with
  |nil=>simp[look] at h
  |cons v vs=>
   simp only[List.map_cons,List.zip_cons_cons,look] at h;by_cases e:v=o
   ·rw[if_pos e] at h;cases h;rfl
   ·rw[if_neg e] at h;exact ih h
theorem sz_taken (vs qs:List Nat) (t:Ty) (ht:Trim t):sz (putT vs (qs.map tU) t)=sz t:=by
 rw[zcd _ _ _ ht];refine sz_msub1 (λ_=>rfl) (λo=>?_) t ht
 cases h:look (vs.zip (qs.map tU)) o with
 |none=>rfl
 |some x=>exact look_one h
theorem newS_is:∀(qs:List Nat) (s:Sta),qs.Nodup->(∀q∈qs,q∉s.A)->∃s',NewS L s qs s':=by
 intro qs
 induction qs with
 |nil=>intro s _ _;exact⟨s,rfl⟩
 |cons q qs ih=>
  intro s hn hq;obtain⟨h1,h2⟩:=List.nodup_cons.1 hn
  obtain⟨s',h'⟩:=ih ⟨q::s.A,λp=>if p=q then L else s.lev p,s.tk⟩ h2 (λp hp hm=>by
   rcases List.mem_cons.1 hm with rfl|hm
   ·exact h1 hp
   ·exact hq p (z1j _ hp) hm)
  exact⟨s',⟨q::s.A,λp=>if p=q then L else s.lev p,s.tk⟩,⟨hq q z1k,rfl,λ_=>rfl,rfl⟩,h'⟩
def SuT (T:TypeId):Prop:=T=258\/T=261\/T=252\/T=263\/T=94\/T=336\/T=299
def KeptC (w w':World):Prop:=∀(q:Nat) (c:Array Value) (T:TypeId),SuT T->w.heap[q]? =some (.cells c T (0,0))->w'.heap[q]? =some (.cells c T (0,0))
theorem KeptC.u (h:KeptC w w'):KeptU w w':=λq c T hT hq=>h q c T (by rcases hT with rfl|rfl|rfl|rfl<;>simp[SuT]) hq
theorem Su.blk {B:Nat} {b:Nat} {sc:Sch} (h:Su B w b sc) (hk:KeptC w w'):Su B w' b sc:=by
 have ht:Trim sc.1:=by obtain⟨c,ov,V,G,tk,_,h2,_⟩:=h;exact h2.ku.trim
 have hA:∀q,inU q sc.1->∃l,w.heap[q]? =some (obU l .nilIface):=by obtain⟨c,ov,V,G,tk,_,h2,_⟩:=h;exact h2.ku.live
 have hb:w'.heap[b]? =w.heap[b]?:=by obtain⟨c,ov,V,G,tk,h1,_⟩:=h;rw[h1];exact hk _ _ _ (by simp[SuT]) h1
 have:=h.step (A:=List.range w.heap.size) (δ:=tU) hb (λq c T hT hq=>hk q c T (by rcases hT with rfl|rfl|rfl|rfl|rfl<;>simp[SuT]) hq) (λq l x hq=>⟨l,x,hk _ _ _ (by simp[SuT]) hq⟩) (KuStep.keptU hk.u) (λq hq=>List.mem_range.2 (by obtain⟨l,h⟩:=hA q hq;exact(z1a.1 h).1)) λq _=>zel q
 rw[zeb ht] at this;exact this
theorem zou (T:TypeId) (hT:T=173\/T=175) (fb L:Nat) (s:Sta) (sc:Sch) (w W:World) (b:Nat) (c p:Int) (sg:Option Addr) (ng cg:Nat) (Q:Ending->World->Prop) (hb:Below w.heap.size w W) (hn:W.heap[w.heap.size]? =some (nmO T c sg ng cg p)) (hs:Su W.heap.size W b sc) (hlb:lo<=b) (hls:lo<=w.heap.size) (hi:∀q∈s.A,lo<=q) (hu:SchU L s sc) (hz:sz sc.1<=1000000) (sw:SW w s) (fin:w.heap[fb]? =some (finO L s.tk)) (HQ:∀sa ca qs s' Tx z w5 d,NewS L s qs s'->qs.length=sc.2.length->Wf lo L s tU w w5->SW w5 s'->w5.heap[fb]? =some (finO L s'.tk)->Ku w5 d (putT sc.2 (qs.map tU) sc.1) (.iface Tx z)->Grow' w5 (.slice sa qs.length ca) (qs.map tU)->(∀q∈s'.A,lo<=q)->Q (.returned (.tuple #[.iface T (.agg #[.int .u8 c,.slice sa qs.length ca,.int .i64 p]),.iface Tx z,.nilIface])) w5):
 CZ 190 #[pZ b] W λen w2=>∃k:Int,en=.returned (.int .i64 k)/\
  CZ 203 #[pZ fb,.int .i64 k] w2 λen w3=>∃sa na ca,en=.returned (.slice sa na ca)/\w3.heap[w.heap.size]? =some (nmO T c sg ng cg p)/\
  CZ 191 #[pZ b,.slice sa na ca] (w3.setCell ⟨w.heap.size,1,none⟩ (.slice sa na ca)).drew λen w4=>∃Tx z,en=.returned (.iface Tx z)/\NBox w.heap.size c sa na ca p w4/\
   Hid (Q (.returned (.tuple #[.iface T (.agg #[.int .u8 c,.slice sa na ca,.int .i64 p]),.iface Tx z,.nilIface])) w4):=by
 have nlt:=(z1a.1 hn).1;have flt:=(z1a.1 fin).1;have hlen:sc.2.length<=1000:=by obtain⟨_,_,_,_,_,_,_,_,h,_⟩:=hs;exact h
 refine(countU_any _ b sc W hs).mono ?_;rintro en w2 ⟨rfl,rfl⟩;refine⟨_,rfl,?_⟩;refine(ztf fb L s.tk sc.2.length w2 ((hb.block fb flt).trans fin) hlen).mono ?_;rintro en w3 ⟨cs,rfl,hcs,hun,hsz,hb3⟩;have hn3:=(hb3.block _ nlt).trans hn;refine⟨_,_,_,rfl,hn3,?_⟩;have hset:=zpx (sa:=some ⟨w2.heap.size,0,none⟩) (na:=sc.2.length) (ca:=sc.2.length) hn3;have ko:∀q,q≠w.heap.size->(w3.setCell ⟨w.heap.size,1,none⟩ (sZ w2.heap.size sc.2.length sc.2.length)).heap[q]? =w3.heap[q]?:=λq hq=>Below.heap_setCell _ _ _ _ (by show ¬_;simp;omega)
 have hb4:Below w.heap.size w (w3.setCell ⟨w.heap.size,1,none⟩ (sZ w2.heap.size sc.2.length sc.2.length)).drew:=by
  refine⟨hb3.os.trans hb.os,hb3.tape.trans hb.tape,hb3.output.trans hb.output,?_,λq hq=>?_⟩
  ·show w.heap.size<=(w3.setCell _ _).heap.size
   simp[World.setCell];have:=hb.size;omega
  ·show (w3.setCell _ _).heap[q]? =_
   rw[ko q (by omega),hb3.block q (by have:=hb.size;omega)];exact hb.block q hq
 have hs4:(w3.setCell ⟨w.heap.size,1,none⟩ (sZ w2.heap.size sc.2.length sc.2.length)).heap.size=w3.heap.size:=by simp[World.setCell]
 generalize hW4:(w3.setCell ⟨w.heap.size,1,none⟩ (sZ w2.heap.size sc.2.length sc.2.length)).drew=W4 at *
 have hh4:W4.heap=(w3.setCell ⟨w.heap.size,1,none⟩ (sZ w2.heap.size sc.2.length sc.2.length)).heap:=by rw[<-hW4];rfl
 rw[<-hh4] at ko hset hs4
 have k24:∀(q:Nat) (c:Array Value) (T':TypeId),T'≠173->T'≠175->w2.heap[q]? =some (.cells c T' (0,0))->W4.heap[q]? =some (.cells c T' (0,0)):=λq c' T' h1 h2 hq=>by
  rw[ko q (by rintro rfl;rw[hn] at hq;simp at hq;rcases hT with rfl|rfl;exact h1 hq.2.symm;exact h2 hq.2.symm),hb3.block q (z1a.1 hq).1];exact hq
 have hs':=hs.blk λq c T hT hq=>k24 q c T (by rcases hT with rfl|rfl|rfl|rfl|rfl|rfl|rfl<;>decide) (by rcases hT with rfl|rfl|rfl|rfl|rfl|rfl|rfl<;>decide) hq
 --the unknowns
 obtain⟨qs,hqs⟩:∃qs,qs=(List.range sc.2.length).map λj=>w2.heap.size+1+j:=⟨_,rfl⟩
 have ql:qs.length=sc.2.length:=by rw[hqs];simp
 have qat:∀j,j<sc.2.length->qs[j]? =some (w2.heap.size+1+j):=λj hj=>by rw[hqs,z1n,List.getElem?_range hj];rfl
 have qin:∀q∈qs,∃j,j<sc.2.length/\q=w2.heap.size+1+j:=λq hq=>by
  rw[hqs] at hq;obtain⟨j,hj,rfl⟩:=z1z.1 hq;exact⟨j,List.mem_range.1 hj,rfl⟩
 have qnd:qs.Nodup:=by
  rw[hqs,List.nodup_iff_pairwise_ne,List.pairwise_map];exact(List.nodup_iff_pairwise_ne.1 List.nodup_range).imp λh=>by omega
 have swlt:∀q∈s.A,q<w.heap.size:=λq hq=>(z1a.1 (sw q hq)).1
 obtain⟨s',hS⟩:=newS_is L qs s qnd λq hq hm=>by
  obtain⟨j,_,rfl⟩:=qin q hq;have:=swlt _ hm;have:=hb.size;omega
 obtain⟨i1,i2,i3,i4,i5,i6⟩:=hS.is;have un4:∀j,j<sc.2.length->W4.heap[w2.heap.size+1+j]? =some (obU L .nilIface):=λj hj=>by rw[ko _ (by omega)];exact(hun j hj).2
 have hrow:W4.heap[w2.heap.size]? =some (.cells cs 94 (0,0)):=by rw[ko _ (by omega)];exact hcs
 have hG:Grow' W4 (sZ w2.heap.size sc.2.length sc.2.length) (qs.map tU):=by
  refine⟨_,_,by rw[z2a,ql],.inr ⟨_,cs,rfl,hrow,λj t hj=>?_⟩⟩;rw[z1n] at hj
  have hjl:j<sc.2.length:=by
   by_cases h:j<sc.2.length
   ·exact h
   ·rw[List.getElem?_eq_none (by omega)] at hj;cases hj
  rw[qat j hjl] at hj
  cases hj
  exact⟨_,1,(hun j hjl).1,.U (un4 j hjl)⟩
 have hsw4:SW W4 s':=λq hq=>by
  rcases i6 q hq with h|h
  ·rw[(i3 q h).2,hb4.block q (swlt q h)];exact sw q h
  ·obtain⟨j,hj,e⟩:=qin q h
   rw[(i2 q h).2.2,e];exact un4 j hj
 have hf4:W4.heap[fb]? =some (finO L s'.tk):=by rw[i4];exact(hb4.block fb flt).trans fin
 have hsz4:w2.heap.size<=W4.heap.size:=by rw[hs4];omega
 refine(atU_any w2.heap.size b sc (qs.map tU) _ W4 hs' hsz4 (by rw[z2a,ql]) hu.own (by rw[sz_taken _ _ _ hu.tr];omega) hG λhne=>?_).mono ?_
 ·have hp:0<sc.2.length:=by cases hh:sc.2 with|nil=>exact absurd hh hne|cons=>simp
  exact⟨_,_,_,cs,by rw[z2a,ql],hrow,(hun 0 hp).1,by omega,_,_,un4 0 hp⟩
 ·rintro en w5 ⟨x,d,rfl,hx,hs5,o5,t5,u5,z5,k5⟩
  obtain⟨Tx,zx,rfl⟩:=hx.iface;have sb:∃c',W4.heap[b]? =some (.cells c' 299 (0,0)):=by obtain⟨_,_,_,_,_,h1,_⟩:=hs';exact⟨_,h1⟩
  obtain⟨cb,sb⟩:=sb
  have k45:∀(q:Nat) (c:Array Value) (T':TypeId),T'≠299->W4.heap[q]? =some (.cells c T' (0,0))->w5.heap[q]? =some (.cells c T' (0,0)):=λq c' T' h1 hq=>by
   rw[k5 q (z1a.1 hq).1 (by rintro rfl;rw[sb] at hq;simp at hq;exact h1 hq.2.symm)];exact hq
  have ku:KeptU W4 w5:=λq c T hT hq=>k45 q c T (by rcases hT with rfl|rfl|rfl|rfl<;>decide) hq
  refine⟨Tx,zx,rfl,nbox (T:=T) (k45 _ _ _ (by rcases hT with rfl|rfl<;>decide) hset),?_⟩
  have:=HQ (some ⟨w2.heap.size,0,none⟩) sc.2.length qs s' Tx zx w5 d hS ql ((Wf.blw hb4).after (s1:=s) (Wf.at (hs'.mono hsz4) hs5 hlb o5 t5 u5 z5 k5) (Stp.refl L s)) (λq hq=>k45 _ _ _ (by decide) (hsw4 q hq)) (k45 _ _ _ (by decide) hf4) hx (by rw[ql];have:=hG.step (A:=s'.A) (δ:=tU) (λq c hq=>k45 q c _ (by decide) hq) (KuStep.keptU ku) (λu hu q hq=>by obtain⟨r,hr,rfl⟩:=z1z.1 hu;simp at hq;subst hq;exact(i2 _ hr).2.1);rw[List.map_map,show usub tU ∘ tU=tU from funext λq=>by simp] at this;exact this) (λq hq=>by
   rcases i6 q hq with h|h
   ·exact hi q h
   ·obtain⟨j,_,rfl⟩:=qin q h
    have:=hb.size;omega)
  rw[ql] at this;exact this
theorem zrd (hM:M<=1000000) (s:Sta) (Γ:Env) (o:Nat) (x:Pt) (xa xb:Ex) (a:Nat) (sg:Option Addr) (ng cg:Nat) (w:World) (h:Fp lo tx M fb L s Γ (.node 0 o x xa xb) a w) (hc:zaq x.c=true):
 CZ 169 #[pZ fb,.agg #[uZ x.c,.slice sg ng cg,iZ x.p],pZ a] w (FdQ lo fb L s Γ (.node 0 o x xa xb) w):=by
 obtain⟨sc,hΓ,hz⟩:=h.bnd.1 rfl;have b1:Below w.heap.size w (w.alloc (nmO 173 (x.c:Int) sg ng cg (x.p:Int))):=bal w _;refine zpp a fb _ _ sg ng cg w _ ?_;refine(ofU_any a x.c Γ _ (h.au.blw b1) (by simp[zaq] at hc;omega)).mono ?_;rintro en w1 ⟨v,rfl,hC,rfl⟩;rcases hC with ⟨e,_⟩|⟨sc',b,e,rfl,hs,hlb⟩
 ·rw[hΓ] at e;cases e
 ·rw[hΓ] at e;cases e
  refine⟨b,rfl,zou _ (.inl rfl) fb L s sc w _ b _ _ sg ng cg _ b1 (z1v w _) hs hlb h.los h.hi (h.env _ _ hΓ) (by omega) h.sw h.fin ?_⟩;intro sa ca qs s' Tx z w5 d hS ql hW hsw hf hx hG hhi;exact⟨_,_,_,_,_,_,_,_,_,rfl,.inl ⟨rfl,sc,qs,hΓ,hS,ql,rfl,rfl,rfl⟩,hW,hsw,hf,hx,.inl ⟨rfl,_,rfl,hG⟩,hhi⟩
theorem zkx (tx:Nat->Addr) (M fb L:Nat) (s:Sta) (Γ:Env) (o:Nat) (x:Pt) (xa xb:Ex) (a:Nat) (sg:Option Addr) (ng cg:Nat) (w:World) (h:Fp lo tx M fb L s Γ (.node 1 o x xa xb) a w) (hc:zdi x.c=true):
 CZ 170 #[pZ fb,.agg #[uZ x.c,.slice sg ng cg,iZ x.p]] w (FdQ lo fb L s Γ (.node 1 o x xa xb) w):=by
 have b1:Below w.heap.size w (w.alloc (nmO 175 (x.c:Int) sg ng cg (x.p:Int))):=bal w _;have s10:=h.lw.size;refine zkg a fb _ _ sg ng cg w _ ?_;have l1:10+0<=(w.alloc (nmO 175 (x.c:Int) sg ng cg (x.p:Int))).heap.size:=by simp;omega
 have tb1:=(Wf.blw (L:=L) (s:=s) b1).tb h.lw h.tb;refine(zob (lo:=0) tx x.c _ l1 (h.gl.below b1 (by omega)) tb1 hc).mono ?_;rintro en w1 ⟨b,rfl,hs,hb2,hlb⟩;have hn:w1.heap[w.heap.size]? =some (nmO 175 (x.c:Int) sg ng cg (x.p:Int)):=(hb2.block _ (by simp)).trans (z1v w _);refine⟨b,rfl,zou _ (.inr rfl) fb L s (conS x.c) w w1 b _ _ sg ng cg _ (b1.trans (hb2.mono b1.size)) hn (hs.su ?_ _) ?_ h.los h.hi (zop L s x.c) ?_ h.sw h.fin ?_⟩
 ·exact z1c (zlg x.c) (by decide)
 ·exact z1c h.los (z1c b1.size hlb)
 ·exact z1c (zfm x.c).2 (by decide)
 intro sa ca qs s' Tx z w5 d hS ql hW hsw hf hx hG hhi;exact⟨_,_,_,_,_,_,_,_,_,rfl,.inr (.inl ⟨rfl,qs,hS,ql,rfl,rfl,rfl⟩),hW,hsw,hf,hx,.inr (.inl ⟨rfl,_,rfl,hG⟩),hhi⟩
end
end Go.Proofs.YtceadeaodbadlaaGreatDoor
namespace Go.Proofs.YtceadeaodbadlaaGreatDoor
open Go.RowKit
abbrev fuO (c:Int) (F:Value) (T:TypeId) (y:Value) (p:Int):Obj:=.cells #[.int .u8 c,F,.iface T y,.int .i64 p] 179
def UBox (n:Nat) (c:Int) (F:Value) (T:TypeId) (y:Value) (p:Int) (wq:World):Prop:=
 wq.cell? ⟨n,0,none⟩=some (.int .u8 c)/\wq.cell? ⟨n,1,none⟩=some F/\wq.cell? ⟨n,2,none⟩=some (.iface T y)/\wq.cell? ⟨n,3,none⟩=some (.int .i64 p)
section
variable {c p:Int} {n:Nat} {T:TypeId} {F y:Value} {w:World}
theorem ubox (h:w.heap[n]? =some (fuO c F T y p)):UBox n c F T y p w:=
 ⟨by rw[z1f h];rfl,by rw[z1f h];rfl,by rw[z1f h];rfl,by rw[z1f h];rfl⟩
theorem ubox1 {F':Value} (h:w.heap[n]? =some (fuO c F T y p)):(w.setCell ⟨n,1,none⟩ F').heap[n]? =some (fuO c F' T y p):=heap_setCell_same w n 1 _ _ _ h
theorem ubox2 {T':TypeId} {y':Value} (h:w.heap[n]? =some (fuO c F T y p)):(w.setCell ⟨n,2,none⟩ (.iface T' y')).heap[n]? =some (fuO c F T' y' p):=heap_setCell_same w n 2 _ _ _ h
theorem zju (a fb:Nat) (c p:Int) (T:TypeId) (y:Value) (w:World) (Q:Ending->World->Prop) (UN:CZ 204 #[pZ fb] (w.alloc (fuO c .nilIface T y p)) λen w1=>∃q,en=.returned (viU q)/\w1.heap[w.heap.size]? =some (fuO c .nilIface T y p)/\
  CZ 158 #[viU q,.slice none 0 0] (w1.setCell ⟨w.heap.size,1,none⟩ (viU q)).drew λen w2=>∃b,en=.returned (pZ b)/\UBox w.heap.size c (viU q) T y p w2/\
  CZ 157 #[pZ a,.int .u8 c,pZ b] w2 λen w3=>∃a',en=.returned (pZ a')/\UBox w.heap.size c (viU q) T y p w3/\
  CZ 136 #[pZ fb,.iface T y,pZ a'] w3 λen w4=>∃Te ze Tx zx,en=.returned (.tuple #[.iface Te ze,.iface Tx zx,.nilIface])/\w4.heap[w.heap.size]? =some (fuO c (viU q) T y p)/\
  CZ 160 #[viU q,.iface Tx zx] (w4.setCell ⟨w.heap.size,2,none⟩ (.iface Te ze)).drew λen w5=>∃r,en=.returned (pZ r)/\UBox w.heap.size c (viU q) Te ze p w5/\
   Hid (Q (.returned (.tuple #[.iface 179 (.agg #[.int .u8 c,viU q,.iface Te ze,.int .i64 p]),viF r,.nilIface])) w5)):
 CZ 171 #[pZ fb,.agg #[.int .u8 c,.nilIface,.iface T y,.int .i64 p],pZ a] w Q:=by
 generalize hW:w.alloc (fuO c .nilIface T y p)=W at *
 go_enter Tryz.func171,Tryz.ntmps171;go_wp21;refine UN.mono ?_;rintro en w1 ⟨q,rfl,hn,NW⟩;have c1:w1.cell? ⟨w.heap.size,1,none⟩=some .nilIface:=cbl hn;have f1:=z1g hn 1;have s0:=ubox (ubox1 (F':=viU q) hn);unfold UBox at *
 go_wp21;generalize hW1:w1.setCell ⟨w.heap.size,1,none⟩ (viU q)=W1 at *
 refine wp_region_held_drew (S:=(λwq=>cZ wq w.heap.size 0 (.int .u8 c)/\cZ wq w.heap.size 1 (viU q)/\cZ wq w.heap.size 2 (.iface T y)/\cZ wq w.heap.size 3 (.int .i64 p))) (by kernel_rfl) (s0) (λhS=>?_);refine tkS 0 (pZ fb) hS ?_;refine tkS 1 (.pointer (some ⟨w.heap.size,2,none⟩)) hS ?_;refine tkL 2 (.iface T y) hS ?_;refine tkS 3 (pZ a) hS ?_;refine tkS 4 (pZ w.heap.size) hS ?_;refine tkL 5 (.int .u8 c) hS ?_;refine tkS 6 (.pointer (some ⟨w.heap.size,1,none⟩)) hS ?_;refine tkL 7 (viU q) hS ?_;refine rd1 8 (λKK hK=>?_);go_simp;go_at_call 158;refine(NW).mono ?_;rintro en w2 ⟨b,rfl,s2,WT⟩;refine hK.out _ _ s2 (λhS=>nrm ?_);refine rd1 9 (λKK hK=>?_);go_simp;go_at_call 157;refine(WT).mono ?_;rintro en w3 ⟨a',rfl,s3,FD⟩;refine hK.out _ _ s3 (λhS=>nrm ?_);refine rd1 10 (λKK hK=>?_);go_simp;go_at_call 136;refine(FD).mono ?_;rintro en w4 ⟨Te,ze,Tx,zx,rfl,hn4,NF⟩;have s4:=ubox hn4;unfold UBox at s4;refine hK.out _ _ s4 (λhS=>nrm ?_);refine tkS 11 (.tuple #[.iface Te ze,.iface Tx zx,.nilIface]) hS ?_;refine tkS 12 (.iface Te ze) hS ?_;refine tkS 13 (.iface Tx zx) hS ?_;refine tkS 14 (.nilIface) hS ?_;refine tkS 15 (.iface Te ze) hS ?_;refine tkS 16 (.iface Tx zx) hS ?_;refine tkS 17 (.nilIface) hS ?_;refine wpAnyH_done (by kernel_rfl) ?_ _;have c2:cZ w4 w.heap.size 2 (.iface T y):=cbl hn4;have f2:=z1g hn4 2;have s5:=ubox (ubox2 (T':=Te) (y':=ze) hn4);unfold UBox at s5;go_wp21;generalize hW4:w4.setCell ⟨w.heap.size,2,none⟩ (.iface Te ze)=W4 at *
 refine wp_region_held_drew (S:=(λwq=>cZ wq w.heap.size 0 (.int .u8 c)/\cZ wq w.heap.size 1 (viU q)/\cZ wq w.heap.size 2 (.iface Te ze)/\cZ wq w.heap.size 3 (.int .i64 p))) (by kernel_rfl) (s5) (λhS=>?_);refine tkL 0 (.agg #[.int .u8 c,viU q,.iface Te ze,.int .i64 p]) hS ?_;refine tkS 1 (.iface 179 (.agg #[.int .u8 c,viU q,.iface Te ze,.int .i64 p])) hS ?_;refine tkS 2 (.pointer (some ⟨w.heap.size,1,none⟩)) hS ?_;refine tkL 3 (viU q) hS ?_;refine tkS 4 (.iface Tx zx) hS ?_;refine rd1 5 (λKK hK=>?_);go_simp;go_at_call 160;refine(NF).mono ?_;rintro en w5 ⟨r,rfl,s5,HQ⟩;refine hK.out _ _ s5 (λhS=>nrm ?_);refine tkS 6 (viF r) hS ?_;refine tkS 7 (.iface 179 (.agg #[.int .u8 c,viU q,.iface Te ze,.int .i64 p])) hS ?_;refine tkS 8 (viF r) hS ?_;refine tkS 9 (.nilIface) hS ?_;refine wpAnyH_done (by kernel_rfl) ?_ _;go_wp21;go_ret3;exact HQ
end
abbrev cllO (T:TypeId) (y:Value) (T':TypeId) (z:Value) (p:Int):Obj:=.cells #[.iface T y,.iface T' z,.int .i64 p] 186
section
variable (a fb L k:Nat) (T:TypeId) (z:Value) (w:World)
theorem zpu (a fb:Nat) (p:Int) (T T':TypeId) (y z:Value) (w:World) (Q:Ending->World->Prop) (F1:CZ 136 #[pZ fb,.iface T y,pZ a] (w.alloc (cllO T y T' z p)) λen w1=>∃Te ze Tx zx,en=.returned (.tuple #[.iface Te ze,.iface Tx zx,.nilIface])/\w1.heap[w.heap.size]? =some (cllO T y T' z p)/\
  CZ 136 #[pZ fb,.iface T' z,pZ a] w1 λen w2=>∃Te' ze' Tx' zx',en=.returned (.tuple #[.iface Te' ze',.iface Tx' zx',.nilIface])/\
  CZ 204 #[pZ fb] w2 λen w3=>∃q,en=.returned (viU q)/\
  CZ 160 #[.iface Tx' zx',viU q] w3 λen w4=>∃r,en=.returned (pZ r)/\
  CZ 206 #[.iface Tx zx,viF r] w4 λen w5=>en=.returned (.bool true)/\w5.heap[w.heap.size]? =some (cllO T y T' z p)/\
   Hid (Q (.returned (.tuple #[.iface 186 (.agg #[.iface Te ze,.iface Te' ze',.int .i64 p]),viU q,.nilIface])) ((w5.setCell ⟨w.heap.size,0,none⟩ (.iface Te ze)).setCell ⟨w.heap.size,1,none⟩ (.iface Te' ze')))):
 CZ 173 #[pZ fb,.agg #[.iface T y,.iface T' z,.int .i64 p],pZ a] w Q:=by
 have hn:=z1v w (cllO T y T' z p);have d0:(w.alloc (cllO T y T' z p)).cell? ⟨w.heap.size,0,none⟩=some (.iface T y):=cbl hn;generalize hW:w.alloc (cllO T y T' z p)=W at *
 go_enter Tryz.func173,Tryz.ntmps173;go_wp21;refine F1.mono ?_;rintro en w1 ⟨Te,ze,Tx,zx,rfl,hn1,F2⟩;have d1:cZ w1 w.heap.size 1 (.iface T' z):=cbl hn1;go_wp21;refine F2.mono ?_;rintro en w2 ⟨Te',ze',Tx',zx',rfl,UN⟩;go_wp21;refine UN.mono ?_;rintro en w3 ⟨q,rfl,NF⟩;go_wp21;refine NF.mono ?_;rintro en w4 ⟨r,rfl,UF⟩;go_wp21;refine UF.mono ?_;rintro en w5 ⟨rfl,hn5,HQ⟩;have hn6:(w5.setCell ⟨w.heap.size,0,none⟩ (.iface Te ze)).heap[w.heap.size]? =some (cllO Te ze T' z p):=heap_setCell_same w5 _ 0 _ _ _ hn5;have hn7:((w5.setCell ⟨w.heap.size,0,none⟩ (.iface Te ze)).setCell ⟨w.heap.size,1,none⟩ (.iface Te' ze')).heap[w.heap.size]? =some (cllO Te ze Te' ze' p):=heap_setCell_same _ _ 1 _ _ _ hn6;have e0:cZ w5 w.heap.size 0 (.iface T y):=cbl hn5;have e0f:=z1g hn5 0;have e1:(w5.setCell ⟨w.heap.size,0,none⟩ (.iface Te ze)).cell? ⟨w.heap.size,1,none⟩=some (.iface T' z):=cbl hn6;have e1f:=z1g hn6 1;have g0:((w5.setCell ⟨w.heap.size,0,none⟩ (.iface Te ze)).setCell ⟨w.heap.size,1,none⟩ (.iface Te' ze')).cell? ⟨w.heap.size,0,none⟩=some (.iface Te ze):=cbl hn7;have g1:((w5.setCell ⟨w.heap.size,0,none⟩ (.iface Te ze)).setCell ⟨w.heap.size,1,none⟩ (.iface Te' ze')).cell? ⟨w.heap.size,1,none⟩=some (.iface Te' ze'):=cbl hn7;have g2:((w5.setCell ⟨w.heap.size,0,none⟩ (.iface Te ze)).setCell ⟨w.heap.size,1,none⟩ (.iface Te' ze')).cell? ⟨w.heap.size,2,none⟩=some (.int .i64 p):=cbl hn7;go_wp21;go_ret3;exact HQ
abbrev leO (c:Int) (V:Value) (T:TypeId) (y:Value) (T':TypeId) (z:Value):Obj:=.cells #[.int .u8 c,V,.iface T y,.iface T' z] 183
abbrev let3 (w5:World) (n:Nat) (O v1 v2:Value):World:=((w5.setCell ⟨n,1,none⟩ O).setCell ⟨n,2,none⟩ v1).setCell ⟨n,3,none⟩ v2
theorem zrk (hL:L<1000000) (c:Int) (sv:Option Addr) (nv cv:Nat) (T T':TypeId) (y z:Value) (w:World) (Q:Ending->World->Prop) (hf:w.heap[fb]? =some (finO L k)) (F1:CZ 136 #[pZ fb,.iface T y,pZ a] ((w.alloc (leO c (.slice sv nv cv) T y T' z)).setCell ⟨fb,0,none⟩ (.int .i64 ((L:Int)+1))) λen w1=>∃Te ze Tx zx k1,en=.returned (.tuple #[.iface Te ze,.iface Tx zx,.nilIface])/\w1.heap[fb]? =some (finO (L+1) k1)/\
  CZ 205 #[pZ fb,.iface Tx zx] (w1.setCell ⟨fb,0,none⟩ (.int .i64 (L:Int))) λen w3=>∃sb so no co,en=.returned (.tuple #[pZ sb,.slice so no co])/\w3.heap[w.heap.size]? =some (leO c (.slice sv nv cv) T y T' z)/\
  CZ 157 #[pZ a,.int .u8 c,pZ sb] w3.drew λen w4=>∃a',en=.returned (pZ a')/\(w4.cell? ⟨w.heap.size,0,none⟩=some (.int .u8 c)/\w4.cell? ⟨w.heap.size,3,none⟩=some (.iface T' z))/\
  CZ 136 #[pZ fb,.iface T' z,pZ a'] w4 λen w5=>∃Te' ze' Tx' zx',en=.returned (.tuple #[.iface Te' ze',.iface Tx' zx',.nilIface])/\w5.heap[w.heap.size]? =some (leO c (.slice sv nv cv) T y T' z)/\
   Hid (Q (.returned (.tuple #[.iface 183 (.agg #[.int .u8 c,.slice so no co,.iface Te ze,.iface Te' ze']),.iface Tx' zx',.nilIface])) (let3 w5 w.heap.size (.slice so no co) (.iface Te ze) (.iface Te' ze')))):
 CZ 172 #[pZ fb,.agg #[.int .u8 c,.slice sv nv cv,.iface T y,.iface T' z],pZ a] w Q:=by
 have hn:=z1v w (leO c (.slice sv nv cv) T y T' z);have flt:=(z1a.1 hf).1;have hne:fb≠w.heap.size:=by omega
 have hf1:(w.alloc (leO c (.slice sv nv cv) T y T' z)).heap[fb]? =some (finO L k):=by rw[Lib.alloc_old _ _ _ flt];exact hf
 have d0:(w.alloc (leO c (.slice sv nv cv) T y T' z)).cell? ⟨fb,0,none⟩=some (.int .i64 (L:Int)):=cbl hf1;have d0f:=z1g hf1 0;have hn1:((w.alloc (leO c (.slice sv nv cv) T y T' z)).setCell ⟨fb,0,none⟩ (.int .i64 ((L:Int)+1))).heap[w.heap.size]? =some (leO c (.slice sv nv cv) T y T' z):=by rw[Below.heap_setCell _ _ _ _ (by show ¬_;simp;omega)];exact hn
 have d2:((w.alloc (leO c (.slice sv nv cv) T y T' z)).setCell ⟨fb,0,none⟩ (.int .i64 ((L:Int)+1))).cell? ⟨w.heap.size,2,none⟩=some (.iface T y):=cbl hn1;clear hn hf hf1 hn1;generalize hW:w.alloc (leO c (.slice sv nv cv) T y T' z)=W at *
 go_enter Tryz.func172,Tryz.ntmps172;go_wp21;refine F1.mono ?_;rintro en w1 ⟨Te,ze,Tx,zx,k1,rfl,hf1,GN⟩;clear F1 d0 d0f d2 hW;have e0:w1.cell? ⟨fb,0,none⟩=some (.int .i64 ((L+1:Nat):Int)):=cbl hf1;have e0f:=z1g hf1 0;have e1:((L+1:Nat):Int)-1=(L:Int):=by omega
 clear hf1;go_wp21;refine GN.mono ?_;rintro en w3 ⟨sb,so,no,co,rfl,hn3,WT⟩;clear GN e0 e0f e1;have s3:w3.cell? ⟨w.heap.size,0,none⟩=some (.int .u8 c)/\w3.cell? ⟨w.heap.size,3,none⟩=some (.iface T' z):=⟨by rw[z1f hn3];rfl,by rw[z1f hn3];rfl⟩
 clear hn3;go_wp21;refine wp_region_held_drew (S:=(λwq=>wq.cell? ⟨w.heap.size,0,none⟩=some (.int .u8 c)/\wq.cell? ⟨w.heap.size,3,none⟩=some (.iface T' z))) (by kernel_rfl) (s3) (λhS=>?_);refine tkS 0 (pZ fb) hS ?_;refine tkS 1 (.pointer (some ⟨w.heap.size,3,none⟩)) hS ?_;refine tkL 2 (.iface T' z) hS ?_;refine tkS 3 (pZ a) hS ?_;refine tkS 4 (pZ w.heap.size) hS ?_;refine tkL 5 (.int .u8 c) hS ?_;refine tkS 6 (pZ sb) hS ?_;refine rd1 7 (λKK hK=>?_);go_simp;go_at_call 157;refine(WT).mono ?_;rintro en w4 ⟨a',rfl,s4,F2⟩;refine hK.out _ _ s4 (λhS=>nrm ?_);refine rd1 8 (λKK hK=>?_);go_simp;go_at_call 136;refine(F2).mono ?_;rintro en w5 ⟨Te',ze',Tx',zx',rfl,hn5,HQ⟩;have s5:w5.cell? ⟨w.heap.size,0,none⟩=some (.int .u8 c)/\w5.cell? ⟨w.heap.size,3,none⟩=some (.iface T' z):=⟨by rw[z1f hn5];rfl,by rw[z1f hn5];rfl⟩
 refine hK.out _ _ s5 (λhS=>nrm ?_);refine tkS 9 (.tuple #[.iface Te' ze',.iface Tx' zx',.nilIface]) hS ?_;refine tkS 10 (.iface Te' ze') hS ?_;refine tkS 11 (.iface Tx' zx') hS ?_;refine tkS 12 (.nilIface) hS ?_;refine tkS 13 (.iface Te' ze') hS ?_;refine tkS 14 (.iface Tx' zx') hS ?_;refine tkS 15 (.nilIface) hS ?_;refine wpAnyH_done (by kernel_rfl) ?_ _;clear WT F2 s3 s4 s5;have k5:(w5.setCell ⟨w.heap.size,1,none⟩ (.slice so no co)).heap[w.heap.size]? =some (leO c (.slice so no co) T y T' z):=heap_setCell_same w5 _ 1 _ _ _ hn5;have k6:((w5.setCell ⟨w.heap.size,1,none⟩ (.slice so no co)).setCell ⟨w.heap.size,2,none⟩ (.iface Te ze)).heap[w.heap.size]? =some (leO c (.slice so no co) Te ze T' z):=heap_setCell_same _ _ 2 _ _ _ k5;have k7:(let3 w5 w.heap.size (.slice so no co) (.iface Te ze) (.iface Te' ze')).heap[w.heap.size]? =some (leO c (.slice so no co) Te ze Te' ze'):=heap_setCell_same _ _ 3 _ _ _ k6;have a1:w5.cell? ⟨w.heap.size,1,none⟩=some (.slice sv nv cv):=cbl hn5;have a1f:=z1g hn5 1;have a2:(w5.setCell ⟨w.heap.size,1,none⟩ (.slice so no co)).cell? ⟨w.heap.size,2,none⟩=some (.iface T y):=cbl k5;have a2f:=z1g k5 2;have a3:((w5.setCell ⟨w.heap.size,1,none⟩ (.slice so no co)).setCell ⟨w.heap.size,2,none⟩ (.iface Te ze)).cell? ⟨w.heap.size,3,none⟩=some (.iface T' z):=cbl k6;have a3f:=z1g k6 3;have b0:(((w5.setCell ⟨w.heap.size,1,none⟩ (.slice so no co)).setCell ⟨w.heap.size,2,none⟩ (.iface Te ze)).setCell ⟨w.heap.size,3,none⟩ (.iface Te' ze')).cell? ⟨w.heap.size,0,none⟩=some (.int .u8 c):=cbl k7;have b1:(((w5.setCell ⟨w.heap.size,1,none⟩ (.slice so no co)).setCell ⟨w.heap.size,2,none⟩ (.iface Te ze)).setCell ⟨w.heap.size,3,none⟩ (.iface Te' ze')).cell? ⟨w.heap.size,1,none⟩=some (.slice so no co):=cbl k7;have b2:(((w5.setCell ⟨w.heap.size,1,none⟩ (.slice so no co)).setCell ⟨w.heap.size,2,none⟩ (.iface Te ze)).setCell ⟨w.heap.size,3,none⟩ (.iface Te' ze')).cell? ⟨w.heap.size,2,none⟩=some (.iface Te ze):=cbl k7;have b3:(((w5.setCell ⟨w.heap.size,1,none⟩ (.slice so no co)).setCell ⟨w.heap.size,2,none⟩ (.iface Te ze)).setCell ⟨w.heap.size,3,none⟩ (.iface Te' ze')).cell? ⟨w.heap.size,3,none⟩=some (.iface Te' ze'):=cbl k7;clear hn5 k5 k6 k7;go_wp21;go_ret3;exact HQ
abbrev gen3 (w:World) (fb:Nat):World:=((w.alloc (.cells #[pZ fb] 271)).alloc (.cells #[.slice none 0 0] 245)).alloc (.cells #[.slice none 0 0] 181)
theorem zrv (Q:Ending->World->Prop) (hf:w.heap[fb]? =some (finO L k)) (ST:CZ 175 #[.iface T z,iZ L,.func (.func 225) #[] #[pZ w.heap.size,pZ (w.heap.size+1),pZ (w.heap.size+2)]] (gen3 w fb) λen w1=>∃Tx zx sV nV cV sO nO cO,en=.returned (.iface Tx zx)/\
  (w1.cell? ⟨w.heap.size+1,0,none⟩=some (.slice sV nV cV)/\w1.cell? ⟨w.heap.size+2,0,none⟩=some (.slice sO nO cO))/\
  CZ 158 #[.iface Tx zx,.slice sV nV cV] w1.drew λen w2=>∃b,en=.returned (pZ b)/\(w2.cell? ⟨w.heap.size+1,0,none⟩=some (.slice sV nV cV)/\w2.cell? ⟨w.heap.size+2,0,none⟩=some (.slice sO nO cO))/\
   Hid (Q (.returned (.tuple #[pZ b,.slice sO nO cO])) w2)):
 CZ 205 #[pZ fb,.iface T z] w Q:=by
 have flt:=(z1a.1 hf).1
 have h0:(gen3 w fb).heap[w.heap.size]? =some (.cells #[pZ fb] 271 (0,0)):=by
  rw[Lib.alloc_old _ _ _ (by simp;omega),Lib.alloc_old _ _ _ (by simp)];exact z1v w _
 have hf0:(gen3 w fb).heap[fb]? =some (finO L k):=by rw[Lib.alloc_old _ _ _ (by simp;omega),Lib.alloc_old _ _ _ (by simp;omega),Lib.alloc_old _ _ _ flt];exact hf
 have d0:(gen3 w fb).cell? ⟨w.heap.size,0,none⟩=some (pZ fb):=cbl h0;have d1:(gen3 w fb).cell? ⟨fb,0,none⟩=some (iZ L):=cbl hf0;have z1:(w.alloc (.cells #[pZ fb] 271)).heap.size=w.heap.size+1:=by simp
 have z2:((w.alloc (.cells #[pZ fb] 271)).alloc (.cells #[.slice none 0 0] 245)).heap.size=w.heap.size+2:=by simp
 clear h0 hf0 hf flt;go_enter Tryz.func205,Tryz.ntmps205
 go_wp2_with fail
 try rw[z1]
 try rw[z2]
 refine ST.mono ?_;rintro en w1 ⟨Tx,zx,sV,nV,cV,sO,nO,cO,rfl,s1,NW⟩;clear ST d0 d1
 go_wp2_with fail
 refine wp_region_held_drew (S:=(λwq=>cZ wq (w.heap.size+1) 0 (.slice sV nV cV)/\cZ wq (w.heap.size+2) 0 (.slice sO nO cO))) (by kernel_rfl) (s1) (λhS=>?_);refine tkS 0 (.iface Tx zx) hS ?_;refine tkL 1 (.slice sV nV cV) hS ?_;refine tkL 3 (.slice sO nO cO) hS ?_;refine rd1 2 (λKK hK=>?_)
 (try simp only[List.getElem_toArray,List.getElem_cons_succ,List.getElem_cons_zero])
 go_simp;go_at_call 158;refine(NW).mono ?_;rintro en w2 ⟨b,rfl,s2,HQ⟩
 (try dsimp only)
 refine hK.out _ _ s2 (λhS=>nrm ?_);refine tkS 4 (pZ b) hS ?_;refine tkS 5 (.slice sO nO cO) hS ?_;refine wpAnyH_done (by kernel_rfl) ?_ _
 go_wp2_with fail
 exact HQ.out
end
end Go.Proofs.YtceadeaodbadlaaGreatDoor
namespace Go.Proofs.YtceadeaodbadlaaGreatDoor
open Go.RowKit
variable {lo : Nat}
def BxT (T:TypeId):Prop:=T=179\/T=183\/T=186\/T=173\/T=175
section
variable {n q L:Nat} {δ:Nat->Ty} {s:Sta} {T:TypeId} {w w' w1 w2:World}
theorem BxT.su (h:BxT T):¬SuT T:=by rcases h with rfl|rfl|rfl|rfl|rfl<;>simp[SuT]
structure Bxg (n:Nat) (w w':World):Prop where
 os:w'.os=w.os
 tape:w'.tape=w.tape
 output:w'.output=w.output
 size:w'.heap.size=w.heap.size
 oth:∀q,q≠n->w'.heap[q]? =w.heap[q]?
 box:∃c T,w.heap[n]? =some (.cells c T (0,0))/\BxT T
theorem Bxg.old {c:Array Value} (h:Bxg n w w') {fz:Nat×Nat} (hT:¬BxT T) (hq:w.heap[q]? =some (.cells c T fz)):w'.heap[q]? =some (.cells c T fz):=by
 rw[h.oth q]
 ·exact hq
 ·rintro rfl
  obtain⟨c',T',h1,h2⟩:=h.box;rw[h1] at hq;simp at hq;rw[hq.2.1] at h2;exact hT h2
theorem Bxg.c (h:Bxg n w w'):KeptC w w':=λq c T hT hq=>h.old (λhb=>hb.su hT) hq
theorem Bxg.set (n k:Nat) (v:Value) {c:Array Value} (hn:w.heap[n]? =some (.cells c T (0,0))) (hT:BxT T):Bxg n w (w.setCell ⟨n,k,none⟩ v):=
 ⟨rfl,rfl,rfl,by simp[World.setCell],λq hq=>Below.heap_setCell _ _ _ _ (by show ¬_;simp;omega),⟨c,T,hn,hT⟩⟩
theorem Bxg.drew (h:Bxg n w w'):Bxg n w w'.drew:=⟨h.os,h.tape,h.output,h.size,h.oth,h.box⟩
theorem Bxg.trans (h:Bxg n w w1) (k:Bxg n w1 w2):Bxg n w w2:=⟨k.os.trans h.os,k.tape.trans h.tape,k.output.trans h.output,k.size.trans h.size,λq hq=>(k.oth q hq).trans (h.oth q hq),h.box⟩
theorem Wf.box (h:Wf lo L s δ w w1) (k:Bxg n w1 w2) (hn:w.heap.size<=n):Wf lo L s δ w w2:=by
 refine⟨k.os.trans h.os,k.tape.trans h.tape,k.output.trans h.output,by rw[k.size];exact h.size,λq c T fz h1 h2 h3 hq=>?_,λq l x hq=>?_,λc t v hv hA=>(h.ku c t v hv hA).kept k.c.u,λb sc hs hu=>?_,λq h1 h2=>(k.oth q (by omega)).trans (h.low q h1 h2)⟩
 ·rw[k.oth q (by have:=(z1a.1 hq).1;omega)];exact h.rest q c T fz h1 h2 h3 hq
 ·obtain⟨l',x',h'⟩:=h.unk q l x hq
  exact⟨l',x',k.c _ _ _ (by simp[SuT]) h'⟩
 ·have:=(h.sch b sc hs hu).blk k.c
  rw[k.size];exact this
theorem Wf.blwR (h:Wf lo L s δ w w1) (k:Below w1.heap.size w1 w2):Wf lo L s δ w w2:=by
 have hk:∀(q:Nat) (o:Obj),w1.heap[q]? =some o->w2.heap[q]? =some o:=λq o hq=>(k.block q (z1a.1 hq).1).trans hq
 exact⟨k.os.trans h.os,k.tape.trans h.tape,k.output.trans h.output,z1c h.size k.size,λq c T fz h1 h2 h3 hq=>hk _ _ (h.rest q c T fz h1 h2 h3 hq),λq l x hq=>by obtain⟨l',x',h'⟩:=h.unk q l x hq;exact⟨l',x',hk _ _ h'⟩,λc t v hv hA=>(h.ku c t v hv hA).blw k,λb sc hs hu=>((h.sch b sc hs hu).blw k).mono k.size,λq h1 h2=>(k.block q (z1e h2 h.size)).trans (h.low q h1 h2)⟩
theorem Grow'.kept {G:Value} {gs:List Ty} (hk:KeptC w w') (h:Grow' w G gs):Grow' w' G gs:=by
 obtain⟨sa,cap,rfl,h⟩:=h;refine⟨sa,cap,rfl,?_⟩;rcases h with rfl|⟨g,c,rfl,hg,hc⟩
 ·exact .inl rfl
 ·refine .inr ⟨g,c,rfl,hk _ _ _ (by simp[SuT]) hg,λj t hj=>?_⟩
  obtain⟨x,d,h1,h2⟩:=hc j t hj;exact⟨x,d,h1,h2.kept hk.u⟩
theorem Eu.kept (hk:KeptC w w'):∀{e:Ex} {v:Value} {Ts:List Ty},Eu w e v Ts->Eu w' e v Ts:=by
 intro e
 induction e with
 |nil=>intro v Ts h;exact h.elim
 |node t o x a b iha ihb=>
  intro v Ts h;rcases h with ⟨e,G,hv,h⟩|⟨e,G,hv,h⟩|h|⟨e,F,T,y,d,u,T1,hv,h,ha,rfl⟩|⟨e,sv,n,cv,T,y,T',z,T1,T2,hv,ha,hb,rfl⟩|⟨e,T,y,T',z,T1,T2,hv,ha,hb,rfl⟩
  ·exact .inl ⟨e,G,hv,h.kept hk⟩
  ·exact .inr (.inl ⟨e,G,hv,h.kept hk⟩)
  ·exact .inr (.inr (.inl h))
  ·exact .inr (.inr (.inr (.inl ⟨e,F,T,y,d,u,T1,hv,h.kept hk.u,iha ha,rfl⟩)))
  ·exact .inr (.inr (.inr (.inr (.inl ⟨e,sv,n,cv,T,y,T',z,T1,T2,hv,iha ha,ihb hb,rfl⟩))))
  ·exact .inr (.inr (.inr (.inr (.inr ⟨e,T,y,T',z,T1,T2,hv,iha ha,ihb hb,rfl⟩))))
theorem zbj (h:Below w.heap.size w w'):KeptC w w':=λq c T _ hq=>(h.block q (z1a.1 hq).1).trans hq
theorem KeptC.trans {x y z:World} (h:KeptC x y) (k:KeptC y z):KeptC x z:=λq c T hT hq=>k q c T hT (h q c T hT hq)
theorem SW.kept (hk:KeptC w w') (h:SW w s):SW w' s:=λq hq=>hk _ _ _ (by simp[SuT]) (h q hq)
def one1 (L:Nat) (s:Sta) (q:Nat):Sta:=⟨q::s.A,λp=>if p=q then L else s.lev p,s.tk⟩
theorem zxh (h:q∉s.A):New L s q (one1 L s q):=⟨h,rfl,λ_=>rfl,rfl⟩
theorem SW.lt (h:SW w s) (hq:q∈s.A):q<w.heap.size:=(z1a.1 (h q hq)).1
theorem SW.one1 (h:SW w s) (hb:∀p,p<w.heap.size->w'.heap[p]? =w.heap[p]?) (hq:w'.heap[q]? =some (obU L .nilIface)) (hl:w.heap.size<=q):SW w' (one1 L s q):=λp hp=>by
 rcases List.mem_cons.1 hp with rfl|hp
 ·show _=some (obU (if p=p then L else s.lev p) .nilIface);rw[if_pos rfl];exact hq
 ·have:=h.lt hp
  show _=some (obU (if p=q then L else s.lev p) .nilIface);rw[if_neg (by omega),hb p this];exact h p hp
theorem zkz (tx:Nat->Addr) (M fb L:Nat) (hM:M<=1000000) (s:Sta) (Γ:Env) (o:Nat) (x:Pt) (xa xb:Ex) (a:Nat) (T:TypeId) (y:Value) (w:World) (h:Fp lo tx M fb L s Γ (.node 3 o x xa xb) a w) (hc:zaq x.c=true) (ha:SaidF lo tx M fb xa) (hv:Ev w xa (.iface T y)):
 CZ 171 #[pZ fb,.agg #[uZ x.c,.nilIface,.iface T y,iZ x.p],pZ a] w (FdQ lo fb L s Γ (.node 3 o x xa xb) w):=by
 have flt:=(z1a.1 h.fin).1;have hn0:=z1v w (fuO (x.c:Int) .nilIface T y (x.p:Int));have b1:Below w.heap.size w (w.alloc (fuO (x.c:Int) .nilIface T y (x.p:Int))):=bal w _;have z1:(w.alloc (fuO (x.c:Int) .nilIface T y (x.p:Int))).heap.size=w.heap.size+1:=by simp
 refine zju a fb _ _ T y w _ ?_;generalize w.alloc (fuO (x.c:Int) .nilIface T y (x.p:Int))=W at *
 refine(zhw fb L s.tk W ((b1.block fb flt).trans h.fin)).mono ?_;rintro en w1 ⟨rfl,rfl⟩;have hn1:(W.alloc (unkO L)).heap[w.heap.size]? =some (fuO (x.c:Int) .nilIface T y (x.p:Int)):=(Lib.alloc_old _ _ _ (by omega)).trans hn0;refine⟨_,rfl,hn1,?_⟩;have hq1:(W.alloc (unkO L)).heap[W.heap.size]? =some (obU L .nilIface):=z1v W _;have hn2:((W.alloc (unkO L)).setCell ⟨w.heap.size,1,none⟩ (viU W.heap.size)).drew.heap[w.heap.size]? =some (fuO (x.c:Int) (viU W.heap.size) T y (x.p:Int)):=ubox1 hn1;have X2:Bxg w.heap.size (W.alloc (unkO L)) ((W.alloc (unkO L)).setCell ⟨w.heap.size,1,none⟩ (viU W.heap.size)).drew:=(Bxg.set _ 1 _ hn1 (.inl rfl)).drew;have b2:Below w.heap.size w (W.alloc (unkO L)):=b1.alloc b1.size _;generalize ((W.alloc (unkO L)).setCell ⟨w.heap.size,1,none⟩ (viU W.heap.size)).drew=W2 at *
 have hq2:=X2.c _ _ _ (by simp[SuT]) hq1;have b02:Below w.heap.size w W2:=⟨X2.os.trans b2.os,X2.tape.trans b2.tape,X2.output.trans b2.output,by rw[X2.size];exact b2.size,λq hq=>(X2.oth q (by omega)).trans (b2.block q hq)⟩
 have hfr:W.heap.size∉s.A:=λhm=>by have:=h.sw.lt hm;omega
 have hN:=zxh (L:=L) hfr;have sw2:SW W2 (one1 L s W.heap.size):=h.sw.one1 b02.block hq2 (by omega);refine(zki (viU W.heap.size) (.slice none 0 0) W2 _ _ none 0 0 rfl rfl).mono ?_;rintro en w2 ⟨rfl,rfl⟩;have hsu:=Su.new (sc:=(tU W.heap.size,[])) (V:=.slice none 0 0) (Kp.U (.U hq2) (zel _)) ⟨none,0,rfl,.inl rfl⟩ (by simp) (W2.alloc (schO (viU W.heap.size) (.slice none 0 0) (.pointer none) (.slice none 0 0) .nilIface)).heap.size;have b3:Below W2.heap.size W2 (W2.alloc (schO (viU W.heap.size) (.slice none 0 0) (.pointer none) (.slice none 0 0) .nilIface)):=bal W2 _;generalize W2.alloc (schO (viU W.heap.size) (.slice none 0 0) (.pointer none) (.slice none 0 0) .nilIface)=W3 at *
 have hn3:=(b3.block _ (z1a.1 hn2).1).trans hn2;have b03:=b02.trans (b3.mono b02.size);refine⟨_,rfl,ubox hn3,?_⟩;refine(zrz a x.c W2.heap.size Γ (tU W.heap.size,[]) W3 (h.au.blw b03) hsu (z1c h.los b02.size) (by simp[zaq] at hc;omega)).mono ?_;rintro en w4 ⟨a',rfl,hau,hb4⟩;have hn4:=(hb4.block _ (z1a.1 hn3).1).trans hn3;have b04:=b03.trans (hb4.mono b03.size);have k24:Below W2.heap.size W2 w4:=b3.trans (hb4.mono b3.size);have W04:Wf lo L s tU w w4:=Wf.blw b04;refine⟨a',rfl,ubox hn4,?_⟩
 have F:Fp lo tx M fb L (one1 L s W.heap.size) (zap Γ x.c (tU W.heap.size,[])) xa a' w4:=
  ⟨W04.lw h.lw,W04.gl h.lw h.gl,W04.tb h.lw h.tb,hau,sw2.kept (zbj k24),(b04.block fb flt).trans h.fin,zef hN h.env,((h.bnd.2.1 rfl) _ _ hN).1,(h.cb.1 rfl) _ _ hN,λhf=>h.nfl (.inl ⟨rfl,_,_,hN,hf⟩),by have:=h.lev;simp only[exn] at this;omega,λq hq=>by
   rcases List.mem_cons.1 hq with rfl|hq
   ·have:=h.los;omega
   ·exact h.hi q hq,h.lof,z1c h.los b04.size⟩
 refine(ha L _ _ a' _ w4 F (W04.ev hv)).mono ?_;rintro en w5 ⟨Te,ze,Tx,zx,d,s',δ,τ,T1,rfl,hF,hW,hsw,hfi,hx,he,hhi⟩;have hn5:=hW.rest _ _ _ _ (by decide) (by decide) (by decide) hn4
 have hku:Ku w5 1 (δ W.heap.size) (viU W.heap.size):=by
  have:=hW.ku 1 (tU W.heap.size) (viU W.heap.size) (.U ((zbj k24) _ _ _ (by simp[SuT]) hq2)) (λq hq=>by simp at hq;subst hq;exact z1k);simpa using this
 refine⟨Te,ze,Tx,zx,rfl,hn5,?_⟩;have X6:Bxg w.heap.size w5 (w5.setCell ⟨w.heap.size,2,none⟩ (.iface Te ze)).drew:=(Bxg.set _ 2 _ hn5 (.inl rfl)).drew;have hn6:(w5.setCell ⟨w.heap.size,2,none⟩ (.iface Te ze)).drew.heap[w.heap.size]? =some (fuO (x.c:Int) (viU W.heap.size) Te ze (x.p:Int)):=ubox2 hn5;generalize (w5.setCell ⟨w.heap.size,2,none⟩ (.iface Te ze)).drew=W6 at *
 have hsz:=((h.bnd.2.1 rfl) _ _ hN).2 s' δ τ hF.fnd;have hd:=hx.cnt;have hq6:=hku.kept X6.c.u;have hx6:=hx.kept X6.c.u;have z5:1+d<=4000000000000000000:=by simp only[sz] at hsz;omega
 refine(zdd _ _ _ _ 1 d W6 hq6.counts0 hx6.counts0 z5).mono ?_;rintro en w7 ⟨r,rfl,hr,hrb,hb7⟩;have X7:KeptC w5 w7:=X6.c.trans (zbj hb7);refine⟨r,rfl,ubox ((hb7.block _ (z1a.1 hn6).1).trans hn6),?_⟩;have WF:Wf lo L s δ w w7:=((W04.before hN.sp hW).box X6 (z1d _)).blwR hb7;refine⟨_,_,_,_,_,s',δ,_,_,rfl,.inr (.inr (.inr (.inl ⟨rfl,_,_,τ,T1,hN,hF,rfl,rfl⟩))),WF,hsw.kept X7,?_,.F hrb (hku.kept X7.u) (hx.kept X7.u),.inr (.inr (.inr (.inl ⟨rfl,_,Te,ze,1,_,T1,rfl,hku.kept X7.u,he.kept X7,rfl⟩))),hhi⟩;exact(hb7.block fb (z1a.1 (X6.old (by simp[BxT]) hfi)).1).trans (X6.old (by simp[BxT]) hfi)
theorem zro (tx:Nat->Addr) (M fb L:Nat) (hM:M<=1000000) (s:Sta) (Γ:Env) (o:Nat) (x:Pt) (xa xb:Ex) (a:Nat) (T T':TypeId) (y z:Value) (w:World) (h:Fp lo tx M fb L s Γ (.node 5 o x xa xb) a w) (ha:SaidF lo tx M fb xa) (hb:SaidF lo tx M fb xb) (hva:Ev w xa (.iface T y)) (hvb:Ev w xb (.iface T' z)):
 CZ 173 #[pZ fb,.agg #[.iface T y,.iface T' z,iZ x.p],pZ a] w (FdQ lo fb L s Γ (.node 5 o x xa xb) w):=by
 have flt:=(z1a.1 h.fin).1;have hn0:=z1v w (cllO T y T' z (x.p:Int));have b1:Below w.heap.size w (w.alloc (cllO T y T' z (x.p:Int))):=bal w _;refine zpu a fb _ T T' y z w _ ?_;generalize w.alloc (cllO T y T' z (x.p:Int))=W at *
 have W0:Wf lo L s tU w W:=Wf.blw b1;obtain⟨bn1,bn2⟩:=h.bnd.2.2.2 rfl;obtain⟨cb1,cb2⟩:=h.cb.2.2 rfl;have hlv:=h.lev;simp only[exn] at hlv;have F1:Fp lo tx M fb L s Γ xa a W:=⟨W0.lw h.lw,W0.gl h.lw h.gl,W0.tb h.lw h.tb,h.au.blw b1,h.sw.kept (zbj b1),(b1.block fb flt).trans h.fin,h.env,bn1,cb1,λhf=>h.nfl (.inr (.inr ⟨rfl,.inl hf⟩)),by omega,h.hi,h.lof,z1c h.los b1.size⟩
 refine(ha L s Γ a _ W F1 (W0.ev hva)).mono ?_;rintro en w1 ⟨Te,ze,Tx,zx,d1,s1,δ1,τ1,T1,rfl,hF1,hW1,hsw1,hfi1,hx1,he1,hhi1⟩;obtain⟨i1,i2⟩:=zat _ _ _ _ _ _ _ hF1.fnd h.env;have hn1:=hW1.rest _ _ _ _ (by decide) (by decide) (by decide) hn0;refine⟨Te,ze,Tx,zx,rfl,hn1,?_⟩;have W1:Wf lo L s δ1 w w1:=W0.before (Stp.refl L s) hW1;obtain⟨bn3,bn4⟩:=bn2 _ _ _ hF1.fnd;have F2:Fp lo tx M fb L s1 (gmap δ1 Γ) xb a w1:=⟨W1.lw h.lw,W1.gl h.lw h.gl,W1.tb h.lw h.tb,W1.au h.au h.env,hsw1,hfi1,h.env.step i1,bn3,cb2 _ _ _ hF1.fnd,λhf=>h.nfl (.inr (.inr ⟨rfl,.inr (.inl ⟨_,_,_,hF1.fnd,hf⟩)⟩)),by omega,hhi1,h.lof,z1c h.los W1.size⟩
 refine(hb L s1 _ a _ w1 F2 (W1.ev hvb)).mono ?_;rintro en w2 ⟨Te',ze',Tx',zx',d2,s2,δ2,τ2,T2,rfl,hF2,hW2,hsw2,hfi2,hx2,he2,hhi2⟩;obtain⟨j1,j2⟩:=zat _ _ _ _ _ _ _ hF2.fnd (h.env.step i1);have hn2:=hW2.rest _ _ _ _ (by decide) (by decide) (by decide) hn1;refine⟨Te',ze',Tx',zx',rfl,?_⟩;have W2:Wf lo L s (λq=>usub δ2 (δ1 q)) w w2:=W1.trans hW2 i1;have hx1':Ku w2 d1 (usub δ2 τ1) (.iface Tx zx):=hW2.ku _ _ _ hx1 λq hq=>(i2.un q hq).1
 have he1':=hW2.eu he1 (hF1.un h.env);refine(zhw fb L s2.tk w2 hfi2).mono ?_;rintro en w3 ⟨rfl,rfl⟩;have b3:Below w2.heap.size w2 (w2.alloc (unkO L)):=bal w2 _;have hq3:(w2.alloc (unkO L)).heap[w2.heap.size]? =some (obU L .nilIface):=z1v w2 _;refine⟨_,rfl,?_⟩;have hN:=zxh (L:=L) (λhm=>absurd (hsw2.lt hm) (Nat.lt_irrefl _));have sw3:SW (w2.alloc (unkO L)) (one1 L s2 w2.heap.size):=hsw2.one1 b3.block hq3 (z1d _);generalize w2.alloc (unkO L)=w3 at *
 have z5:=bn4 _ _ _ hF2.fnd;have hd2:=hx2.cnt;have hx3:=hx2.blw b3;refine(zdd _ _ _ _ d2 1 w3 hx3.counts0 (Ku.U hq3).counts0 (by omega)).mono ?_;rintro en w4 ⟨r,rfl,hr,hrb,hb4⟩;have b24:=b3.trans (hb4.mono b3.size);have hF4:Ku w4 (d2+1+1) (tF τ2 (tU w2.heap.size)) (viF r):=.F hrb (hx3.blw hb4) (.U ((zbj hb4) _ _ _ (by simp[SuT]) hq3));refine⟨r,rfl,?_⟩;have sw4:=sw3.kept (zbj hb4);have hA1:∀q,inU q (usub δ2 τ1)->q∈(one1 L s2 w2.heap.size).A:=λq hq=>z1j _ ((i2.step j1).un q hq).1
 have hA2:∀q,inU q (tF τ2 (tU w2.heap.size))->q∈(one1 L s2 w2.heap.size).A:=λq hq=>by
  rw[inU_F] at hq;rcases hq with hq|hq
  ·exact z1j _ (j2.un q hq).1
  ·simp at hq;subst hq;exact z1k
 refine(unify_any _ _ (one1 L s2 w2.heap.size) (usub δ2 τ1) (tF τ2 (tU w2.heap.size)) (z1d _) (z1d _) w4 _ _ _ _ sw4 (hx1'.blw b24) hF4 hA1 hA2).mono ?_;rintro en w5 ⟨rr,rfl,hU⟩;rcases Or.symm hU with ⟨rfl,hno,_⟩|⟨rfl,s5,δ3,S,hUn,sw5,kx,ks⟩
 ·exact absurd (.inr (.inr ⟨rfl,.inr (.inr ⟨_,_,_,_,_,_,_,_,hF1.fnd,hF2.fnd,hN,hno⟩)⟩)) h.nfl
 have hn4:=(b24.block _ (z1a.1 hn2).1).trans hn2;have hn5:=kx.rest _ _ _ _ (by decide) hn4;refine⟨rfl,hn5,?_⟩;have hn6:(w5.setCell ⟨w.heap.size,0,none⟩ (.iface Te ze)).heap[w.heap.size]? =some (cllO Te ze T' z (x.p:Int)):=heap_setCell_same w5 _ 0 _ _ _ hn5;have X:=(Bxg.set _ 0 (.iface Te ze) hn5 (.inr (.inr (.inl rfl)))).trans (Bxg.set _ 1 (.iface Te' ze') hn6 (.inr (.inr (.inl rfl))));generalize (w5.setCell ⟨w.heap.size,0,none⟩ (.iface Te ze)).setCell ⟨w.heap.size,1,none⟩ (.iface Te' ze')=W5 at *
 have pl:=hUn.pl (i2.step j1).pl (zxn j2.pl (zel _));have W3:Wf lo L s (λq=>usub δ2 (δ1 q)) w w4:=W2.blwR b24
 have W45:Wf lo L (one1 L s2 w2.heap.size) δ3 w4 w5:=Wf.kx kx (λq hq=>by
  rcases List.mem_cons.1 hq with rfl|hq
  ·exact z1c h.los W2.size
  ·exact hhi2 q hq) ks λq _ _=>pl q
 have sp12:=(i1.trans j1).trans hN.sp
 have W5':Wf lo L s (λq=>usub δ3 (usub δ2 (δ1 q))) w w5:=by
  refine(W3.trans W45 (s1:=one1 L s2 w2.heap.size) ?_);refine⟨λq hq p hp=>?_,λp hp hl=>?_,(i1.trans j1).pl,(i1.trans j1).tr⟩
  ·have:=(i1.trans j1).D q hq p hp
   have hne:=hN.ne this.1;exact⟨z1j _ this.1,by rw[hN.lev,if_neg hne];exact this.2⟩
  ·obtain⟨q1,m1,l1,u1⟩:=hN.sp.R p hp hl
   simp at u1;subst u1;obtain⟨q,m2,l2,u2⟩:=(i1.trans j1).R _ m1 (by omega);exact⟨q,m2,by omega,u2⟩
 have up:∀q,q∈s2.A->q∈(one1 L s2 w2.heap.size).A:=λq hq=>z1j _ hq
 have hT1:∀u∈T1.map (usub δ2),∀q,inU q u->q∈(one1 L s2 w2.heap.size).A:=λu hu q hq=>by
  obtain⟨r,hr,rfl⟩:=z1z.1 hu;obtain⟨p,k1,k2⟩:=zak.1 hq;exact up _ (j1.D p (hF1.un h.env r hr p k1) q k2).1
 have hT2:∀u∈T2,∀q,inU q u->q∈(one1 L s2 w2.heap.size).A:=λu hu q hq=>up _ (hF2.un (h.env.step i1) u hu q hq)
 have e1:=W45.eu (he1'.kept (zbj b24)) hT1;have e2:=W45.eu (he2.kept (zbj b24)) hT2;have ec:(T1.map (usub δ2)).map (usub δ3)=T1.map (λu=>usub δ3 (usub δ2 u)):=by rw[List.map_map];rfl
 rw[ec] at e1
 have hto:Ku w5 1 (δ3 w2.heap.size) (viU w2.heap.size):=by
  have:=ks 1 (tU w2.heap.size) (viU w2.heap.size) (.U ((zbj hb4) _ _ _ (by simp[SuT]) hq3)) (λq hq=>by simp at hq;subst hq;exact z1k);simpa using this
 have hfi5:w5.heap[fb]? =some (finO L s5.tk):=by
  rw[hUn.tk];exact kx.rest _ _ _ _ (by decide) ((b24.block fb (z1a.1 hfi2).1).trans hfi2)
 exact⟨_,_,_,_,_,s5,_,_,_,rfl,.inr (.inr (.inr (.inr (.inr ⟨rfl,s1,δ1,τ1,T1,s2,δ2,τ2,T2,_,_,δ3,S,hF1,hF2,hN,hUn,rfl,rfl,rfl⟩)))),W5'.box X (z1d _),sw5.kept X.c,X.old (by simp[BxT]) hfi5,hto.kept X.c.u,.inr (.inr (.inr (.inr (.inr ⟨rfl,Te,ze,Te',ze',_,_,rfl,e1.kept X.c,e2.kept X.c,rfl⟩)))),λq hq=>by
  rcases List.mem_cons.1 ((hUn.mem q).1 hq).1 with rfl|hq
  ·exact z1c h.los W2.size
  ·exact hhi2 q hq⟩
end
structure Fb (fb:Nat) (w w':World):Prop where
 os:w'.os=w.os
 tape:w'.tape=w.tape
 output:w'.output=w.output
 size:w'.heap.size=w.heap.size
 oth:∀q,q≠fb->w'.heap[q]? =w.heap[q]?
 fin:∃c,w.heap[fb]? =some (.cells c 222 (0,0))
section
variable {fb:Nat} {w w':World}
theorem Fb.old {q:Nat} {c:Array Value} {T:TypeId} (h:Fb fb w w') {fz:Nat×Nat} (hT:T≠222) (hq:w.heap[q]? =some (.cells c T fz)):w'.heap[q]? =some (.cells c T fz):=by
 rw[h.oth q]
 ·exact hq
 ·rintro rfl
  obtain⟨c',h1⟩:=h.fin;rw[h1] at hq;simp at hq;exact hT hq.2.1.symm
theorem Fb.c (h:Fb fb w w'):KeptC w w':=λq c T hT hq=>h.old (by rcases hT with rfl|rfl|rfl|rfl|rfl|rfl|rfl<;>decide) hq
theorem Fb.wf {L:Nat} {s:Sta} (h:Fb fb w w') (hlo:lo<=fb):Wf lo L s tU w w':=
 Wf.of h.os h.tape h.output (Nat.le_of_eq h.size.symm) (λq c T fz _ h2 hq=>h.old h2 hq) (λq l x hq=>⟨l,x,h.old (by decide) hq⟩) (KuStep.keptU h.c.u) (λq _ _=>zel q) λq h1 _=>h.oth q (by omega)
theorem Fb.set {l k:Nat} (l':Nat) (h:w.heap[fb]? =some (finO l k)):Fb fb w (w.setCell ⟨fb,0,none⟩ (iZ l'))/\(w.setCell ⟨fb,0,none⟩ (iZ l')).heap[fb]? =some (finO l' k):=
 ⟨⟨rfl,rfl,rfl,by simp[World.setCell],λq hq=>Below.heap_setCell _ _ _ _ (by show ¬_;simp;omega),⟨_,h⟩⟩,heap_setCell_same w fb 0 _ _ _ h⟩
def GnQ (lo fb L:Nat) (s:Sta) (τ:Ty) (w:World) (en:Ending) (w':World):Prop:=
 ∃sb so no co s' δ vs qs,en=.returned (.tuple #[pZ sb,.slice so no co])/\Stl L s τ s' δ vs qs/\Wf lo L s δ w w'/\SW w' s'/\w'.heap[fb]? =some (finO L s'.tk)/\Su w'.heap.size w' sb (usub δ τ,vs)/\lo<=sb
theorem zvd (fb L:Nat) (s:Sta) (τ:Ty) (T:TypeId) (z:Value) (c:Nat) (w:World) (hf:w.heap[fb]? =some (finO L s.tk)) (hv:Ku w c τ (.iface T z)) (hA:∀q,inU q τ->q∈s.A) (hs:SW w s) (ht:tot s<=260) (hsz:sz τ<=1000000) (hlo:lo<=fb) (hi:∀q∈s.A,lo<=q) (hls:lo<=w.heap.size):
 CZ 205 #[pZ fb,.iface T z] w (GnQ lo fb L s τ w):=by
 have flt:=(z1a.1 hf).1;refine zrv fb L s.tk T z w _ hf ?_;have b1:Below w.heap.size w (gen3 w fb):=((bal w _).alloc (by simp) _).alloc (by simp;omega) _;have z3:(gen3 w fb).heap.size=w.heap.size+3:=by simp
 have h0:(gen3 w fb).heap[w.heap.size]? =some (.cells #[pZ fb] 271 (0,0)):=by
  rw[Lib.alloc_old _ _ _ (by simp;omega),Lib.alloc_old _ _ _ (by simp)];exact z1v w _
 have h1:(gen3 w fb).heap[w.heap.size+1]? =some (.cells #[.slice none 0 0] 245 (0,0)):=by
  rw[Lib.alloc_old _ _ _ (by simp)];have:=z1v (w.alloc (.cells #[pZ fb] 271)) (.cells #[.slice none 0 0] 245);simpa using this
 have h2:(gen3 w fb).heap[w.heap.size+2]? =some (.cells #[.slice none 0 0] 181 (0,0)):=by
  have:=z1v ((w.alloc (.cells #[pZ fb] 271)).alloc (.cells #[.slice none 0 0] 245)) (.cells #[.slice none 0 0] 181);simpa using this
 generalize gen3 w fb=W at *
 have gx:GX w.heap.size fb w.heap.size (w.heap.size+1) (w.heap.size+2) L s.tk W s.tk:=by
  refine⟨z1d _,(b1.block fb flt).trans hf,h0,⟨_,_,h1,h2,?_,?_⟩,by omega,by omega,flt,by omega⟩
  ·rw[Nat.sub_self];exact z1w _ _ _ _
  ·rw[Nat.sub_self];exact z1w _ _ _ _
 refine(zol w.heap.size (L:Int) _ #[] _ _ (zul (lo:=lo) w.heap.size fb w.heap.size (w.heap.size+1) (w.heap.size+2) L s.tk hlo) s τ (.iface T z) c W b1.size (hv.blw b1) hA (hs.kept (zbj b1)) ht (by omega) gx).mono ?_;rintro en w1 ⟨x,rfl,s',δ,qs,hX,hI,hS,hK⟩;obtain⟨Tx,zx,rfl⟩:=hK.iface;obtain⟨hle,hfin,hx0,⟨V,O,k1,k2,rV,rO⟩,g1,g2,g3,g4⟩:=hX;have hst:=hI.stl ht;have htk:s'.tk-s.tk=qs.length:=by have:=hI.tk;omega
 rw[htk] at rV rO;obtain⟨sV,nV,cV,rfl⟩:=ziq rV;obtain⟨sO,nO,cO,rfl⟩:=ziq rO;have rV':=VarRow.owns (B:=w.heap.size) (by rw[nms_len];exact rV);refine⟨Tx,zx,sV,nV,cV,sO,nO,cO,rfl,⟨by rw[z1f k1];rfl,by rw[z1f k2];rfl⟩,?_⟩;refine(zki _ _ w1.drew _ _ _ _ _ rfl rfl).mono ?_;rintro en w2 ⟨rfl,rfl⟩;have bd:Below w1.heap.size w1 w1.drew:=(Below.refl _ w1).drew
 have hql:qs.length<=1000:=by
  have:qs.length<=s.A.length:=zhc hI.nd λq hq=>((hI.all q).1 hq).1
  unfold tot at ht;omega
 have hsu:=Su.new (sc:=(usub δ τ,nms s.tk qs.length)) (w:=w1.drew) (hK.kept (zbj bd).u).kp (rV'.below bd) (by rw[nms_len];exact hql) (w1.drew.alloc (schO (.iface Tx zx) (.slice sV nV cV) (.pointer none) (.slice none 0 0) .nilIface)).heap.size;have b2:Below w1.heap.size w1 (w1.drew.alloc (schO (.iface Tx zx) (.slice sV nV cV) (.pointer none) (.slice none 0 0) .nilIface)):=bd.alloc (z1d _) _;generalize w1.drew.alloc (schO (.iface Tx zx) (.slice sV nV cV) (.pointer none) (.slice none 0 0) .nilIface)=W2 at *
 have l1:=(z1a.1 k1).1;have l2:=(z1a.1 k2).1
 have hW:Wf lo L s δ w w1:=by
  have tW:∀(q:Nat) (ob:Obj),w.heap[q]? =some ob->W.heap[q]? =some ob:=λq ob hq=>(b1.block q (z1a.1 hq).1).trans hq
  refine Wf.of (hS.os.trans b1.os) (hS.tape.trans b1.tape) (hS.output.trans b1.output) (z1c b1.size hS.size) (λq c T fz e1 e2 hq=>hS.old q c T fz (z1a.1 hq).1 e2 e1 (tW _ _ hq)) (λq l x hq=>?_) (λc t v hv hA=>hS.ku c t v (hv.blw b1) hA) hst.sp.pl λq h1 h2=>(hS.low q h1 (z1e h2 b1.size) λhm=>by have:=hi q hm;omega).trans (b1.block q h2)
  rcases hS.unk q l x (tW _ _ hq) with h|⟨_,_,x',_,h⟩
  ·exact⟨l,x,h⟩
  ·exact⟨l,x',h⟩
 refine⟨_,rfl,⟨by rw[z1f ((b2.block _ l1).trans k1)];rfl,by rw[z1f ((b2.block _ l2).trans k2)];rfl⟩,?_⟩;exact⟨_,_,_,_,s',δ,_,qs,rfl,hst,hW.blwR b2,hS.sw.kept (zbj b2),(b2.block fb (z1a.1 hfin).1).trans hfin,hsu,z1c hls (z1c b1.size hS.size)⟩
theorem zui (tx:Nat->Addr) (M fb L:Nat) (hM:M<=1000000) (s:Sta) (Γ:Env) (o:Nat) (x:Pt) (xa xb:Ex) (a:Nat) (sv:Option Addr) (nv cv:Nat) (T T':TypeId) (y z:Value) (w:World) (h:Fp lo tx M fb L s Γ (.node 4 o x xa xb) a w) (hc:zaq x.c=true) (ha:SaidF lo tx M fb xa) (hb:SaidF lo tx M fb xb) (hva:Ev w xa (.iface T y)) (hvb:Ev w xb (.iface T' z)):
 CZ 172 #[pZ fb,.agg #[uZ x.c,.slice sv nv cv,.iface T y,.iface T' z],pZ a] w (FdQ lo fb L s Γ (.node 4 o x xa xb) w):=by
 have flt:=(z1a.1 h.fin).1;have hlv:=h.lev;simp only[exn] at hlv;refine zrk a fb L s.tk (by omega) _ sv nv cv T T' y z w _ h.fin ?_;have hn0:=z1v w (leO (x.c:Int) (.slice sv nv cv) T y T' z);have b0:Below w.heap.size w (w.alloc (leO (x.c:Int) (.slice sv nv cv) T y T' z)):=bal w _;rw[show (L:Int)+1=((L+1:Nat):Int) by omega];generalize w.alloc (leO (x.c:Int) (.slice sv nv cv) T y T' z)=W at *
 obtain⟨f1,f2⟩:=Fb.set (L+1) ((b0.block fb flt).trans h.fin);generalize W.setCell ⟨fb,0,none⟩ (.int .i64 ((L+1:Nat):Int))=W1 at *
 have hn1:=f1.old (by decide) hn0;have V1:∀l,Wf lo l s tU w W1:=λl=>(Wf.blw b0).after (s1:=s) (f1.wf h.lof) (Stp.refl l s)
 obtain⟨bn1,bn2⟩:=h.bnd.2.2.1 rfl;obtain⟨cb1,cb2⟩:=h.cb.2.1 rfl;have F1:Fp lo tx M fb (L+1) s Γ xa a W1:=⟨(V1 L).lw h.lw,(V1 L).gl h.lw h.gl,(V1 L).tb h.lw h.tb,(V1 L).au0 h.au h.env,(h.sw.kept (zbj b0)).kept f1.c,f2,h.env.up,bn1,cb1,λhf=>h.nfl (.inr (.inl ⟨rfl,.inl hf⟩)),by omega,h.hi,h.lof,z1c h.los (V1 L).size⟩
 refine(ha (L+1) s Γ a _ W1 F1 ((V1 L).ev hva)).mono ?_;rintro en w1 ⟨Te,ze,Tx,zx,d1,s1,δ1,τ1,T1,rfl,hF1,hW1,hsw1,hfi1,hx1,he1,hhi1⟩;obtain⟨i1,i2⟩:=zat _ _ _ _ _ _ _ hF1.fnd h.env.up;have hn2:=hW1.rest _ _ _ _ (by decide) (by decide) (by decide) hn1;refine⟨Te,ze,Tx,zx,s1.tk,rfl,hfi1,?_⟩;obtain⟨f3,f4⟩:=Fb.set L hfi1;generalize w1.setCell ⟨fb,0,none⟩ (iZ L)=W2 at *
 have V2:=((V1 L).before (Stp.refl L s) hW1.down).after (s1:=s1) (f3.wf h.lof) i1.down;obtain⟨hz1,bn3⟩:=bn2 _ _ _ hF1.fnd;obtain⟨ht1,hnd1,cb3⟩:=cb2 _ _ _ hF1.fnd;refine(zvd fb L s1 τ1 Tx zx d1 W2 f4 (hx1.kept f3.c.u) (λq hq=>(i2.un q hq).1) (hsw1.kept f3.c) ht1 (by omega) h.lof hhi1 (z1c h.los V2.size)).mono ?_;rintro en w3 ⟨sb,so,no,co,s2,δ2,vs,qs,rfl,hSt,hW3,hsw3,hfi3,hsu3,hlb⟩;have hn3:=hW3.rest _ _ _ _ (by decide) (by decide) (by decide) (f3.old (by decide) hn2);refine⟨sb,so,no,co,rfl,hn3,?_⟩;have V3:=V2.trans hW3 i1.down;have bd:Below w3.heap.size w3 w3.drew:=(Below.refl _ w3).drew;have au3:=hW3.au (V2.au h.au h.env) (h.env.step i1.down);refine(zrz a x.c sb _ (usub δ2 τ1,vs) w3.drew (au3.blw bd) (hsu3.blw bd) hlb (by simp[zaq] at hc;omega)).mono ?_;rintro en w4 ⟨a',rfl,hau,hb4⟩;have b34:=bd.trans hb4;have hn4:=(b34.block _ (z1a.1 hn3).1).trans hn3;have V4:=V3.blwR b34;refine⟨a',rfl,⟨by rw[z1f hn4];rfl,by rw[z1f hn4];rfl⟩,?_⟩;have F2:Fp lo tx M fb L s2 (zap (gmap δ2 (gmap δ1 Γ)) x.c (usub δ2 τ1,vs)) xb a' w4:=⟨V4.lw h.lw,V4.gl h.lw h.gl,V4.tb h.lw h.tb,hau,hsw3.kept (zbj b34),(b34.block fb (z1a.1 hfi3).1).trans hfi3,zcx hF1.fnd hSt h.env,bn3 _ _ _ _ hSt,cb3 _ _ _ _ hSt,λhf=>h.nfl (.inr (.inl ⟨rfl,.inr ⟨_,_,_,_,_,_,_,hF1.fnd,hSt,hf⟩⟩)),by omega,λq hq=>hhi1 q ((hSt.mem q).1 hq).1,h.lof,z1c h.los V4.size⟩
 refine(hb L s2 _ a' _ w4 F2 (V4.ev hvb)).mono ?_;rintro en w5 ⟨Te',ze',Tx',zx',d2,s5,δ3,τ2,T2,rfl,hF2,hW5,hsw5,hfi5,hx5,he5,hhi5⟩;have hn5:=hW5.rest _ _ _ _ (by decide) (by decide) (by decide) hn4;refine⟨Te',ze',Tx',zx',rfl,hn5,?_⟩;have V5:=V4.trans hW5 (i1.down.trans hSt.sp);have k5:(w5.setCell ⟨w.heap.size,1,none⟩ (.slice so no co)).heap[w.heap.size]? =some (leO (x.c:Int) (.slice so no co) T y T' z):=heap_setCell_same w5 _ 1 _ _ _ hn5;have k6:((w5.setCell ⟨w.heap.size,1,none⟩ (.slice so no co)).setCell ⟨w.heap.size,2,none⟩ (.iface Te ze)).heap[w.heap.size]? =some (leO (x.c:Int) (.slice so no co) Te ze T' z):=heap_setCell_same _ _ 2 _ _ _ k5;have X:Bxg w.heap.size w5 (let3 w5 w.heap.size (.slice so no co) (.iface Te ze) (.iface Te' ze')):=((Bxg.set _ 1 (.slice so no co) hn5 (.inr (.inl rfl))).trans (Bxg.set _ 2 (.iface Te ze) k5 (.inr (.inl rfl)))).trans (Bxg.set _ 3 (.iface Te' ze') k6 (.inr (.inl rfl)));generalize let3 w5 w.heap.size (.slice so no co) (.iface Te ze) (.iface Te' ze')=W5 at *
 have e1:=hW3.eu (he1.kept f3.c) (hF1.un h.env.up)
 have e2:=hW5.eu (e1.kept (zbj b34)) (λu hu q hq=>by
  obtain⟨r,hr,rfl⟩:=z1z.1 hu;obtain⟨p,k1,k2⟩:=zak.1 hq;exact(hSt.sp.D p (hF1.un h.env.up r hr p k1) q k2).1)
 have ec:(T1.map (usub δ2)).map (usub δ3)=T1.map (λu=>usub δ3 (usub δ2 u)):=by rw[List.map_map];rfl
 rw[ec] at e2;exact⟨_,_,_,_,_,s5,_,_,_,rfl,.inr (.inr (.inr (.inr (.inl ⟨rfl,s1,δ1,τ1,T1,s2,δ2,vs,qs,δ3,T2,hF1,hSt,hF2,rfl,rfl⟩)))),V5.box X (z1d _),hsw5.kept X.c,X.old (by simp[BxT]) hfi5,hx5.kept X.c.u,.inr (.inr (.inr (.inr (.inl ⟨rfl,so,no,co,Te,ze,Te',ze',_,_,rfl,e2.kept X.c,he5.kept X.c,rfl⟩)))),hhi5⟩
end
end Go.Proofs.YtceadeaodbadlaaGreatDoor
namespace Go.Proofs.YtceadeaodbadlaaGreatDoor
section
variable (v:Value) (w:World)
theorem zgt:(Instr.typeAssert (.iface 173 v) 82 173 true).run Tryz.prog w=.ok (.tuple #[v,.bool true]) w:=by kernel_rfl
theorem zed:(Instr.typeAssert (.iface 175 v) 82 173 true).run Tryz.prog w=.ok (.tuple #[.agg #[.int .u8 0,.slice none 0 0,.int .i64 0],.bool false]) w:=by kernel_rfl
theorem zfa:(Instr.typeAssert (.iface 177 v) 82 173 true).run Tryz.prog w=.ok (.tuple #[.agg #[.int .u8 0,.slice none 0 0,.int .i64 0],.bool false]) w:=by kernel_rfl
theorem zej:(Instr.typeAssert (.iface 179 v) 82 173 true).run Tryz.prog w=.ok (.tuple #[.agg #[.int .u8 0,.slice none 0 0,.int .i64 0],.bool false]) w:=by kernel_rfl
theorem zig:(Instr.typeAssert (.iface 183 v) 82 173 true).run Tryz.prog w=.ok (.tuple #[.agg #[.int .u8 0,.slice none 0 0,.int .i64 0],.bool false]) w:=by kernel_rfl
theorem zgy:(Instr.typeAssert (.iface 186 v) 82 173 true).run Tryz.prog w=.ok (.tuple #[.agg #[.int .u8 0,.slice none 0 0,.int .i64 0],.bool false]) w:=by kernel_rfl
theorem zek:(Instr.typeAssert (.iface 175 v) 82 175 true).run Tryz.prog w=.ok (.tuple #[v,.bool true]) w:=by kernel_rfl
theorem zfb:(Instr.typeAssert (.iface 177 v) 82 175 true).run Tryz.prog w=.ok (.tuple #[.agg #[.int .u8 0,.slice none 0 0,.int .i64 0],.bool false]) w:=by kernel_rfl
theorem zen:(Instr.typeAssert (.iface 179 v) 82 175 true).run Tryz.prog w=.ok (.tuple #[.agg #[.int .u8 0,.slice none 0 0,.int .i64 0],.bool false]) w:=by kernel_rfl
theorem zhl:(Instr.typeAssert (.iface 183 v) 82 175 true).run Tryz.prog w=.ok (.tuple #[.agg #[.int .u8 0,.slice none 0 0,.int .i64 0],.bool false]) w:=by kernel_rfl
theorem zgq:(Instr.typeAssert (.iface 186 v) 82 175 true).run Tryz.prog w=.ok (.tuple #[.agg #[.int .u8 0,.slice none 0 0,.int .i64 0],.bool false]) w:=by kernel_rfl
theorem zjs:(Instr.typeAssert (.iface 177 v) 82 177 true).run Tryz.prog w=.ok (.tuple #[v,.bool true]) w:=by kernel_rfl
theorem zhs:(Instr.typeAssert (.iface 175 v) 82 179 true).run Tryz.prog w=.ok (.tuple #[.agg #[.int .u8 0,.nilIface,.nilIface,.int .i64 0],.bool false]) w:=by kernel_rfl
theorem zcw:(Instr.typeAssert (.iface 177 v) 82 179 true).run Tryz.prog w=.ok (.tuple #[.agg #[.int .u8 0,.nilIface,.nilIface,.int .i64 0],.bool false]) w:=by kernel_rfl
theorem zco:(Instr.typeAssert (.iface 179 v) 82 179 true).run Tryz.prog w=.ok (.tuple #[v,.bool true]) w:=by kernel_rfl
theorem zex:(Instr.typeAssert (.iface 183 v) 82 179 true).run Tryz.prog w=.ok (.tuple #[.agg #[.int .u8 0,.nilIface,.nilIface,.int .i64 0],.bool false]) w:=by kernel_rfl
theorem zee:(Instr.typeAssert (.iface 186 v) 82 179 true).run Tryz.prog w=.ok (.tuple #[.agg #[.int .u8 0,.nilIface,.nilIface,.int .i64 0],.bool false]) w:=by kernel_rfl
theorem zlt:(Instr.typeAssert (.iface 175 v) 82 183 true).run Tryz.prog w=.ok (.tuple #[.agg #[.int .u8 0,.slice none 0 0,.nilIface,.nilIface],.bool false]) w:=by kernel_rfl
theorem zfn:(Instr.typeAssert (.iface 177 v) 82 183 true).run Tryz.prog w=.ok (.tuple #[.agg #[.int .u8 0,.slice none 0 0,.nilIface,.nilIface],.bool false]) w:=by kernel_rfl
theorem zjz:(Instr.typeAssert (.iface 183 v) 82 183 true).run Tryz.prog w=.ok (.tuple #[v,.bool true]) w:=by kernel_rfl
theorem zim:(Instr.typeAssert (.iface 186 v) 82 183 true).run Tryz.prog w=.ok (.tuple #[.agg #[.int .u8 0,.slice none 0 0,.nilIface,.nilIface],.bool false]) w:=by kernel_rfl
theorem zkt:(Instr.typeAssert (.iface 175 v) 82 186 true).run Tryz.prog w=.ok (.tuple #[.agg #[.nilIface,.nilIface,.int .i64 0],.bool false]) w:=by kernel_rfl
theorem zev:(Instr.typeAssert (.iface 177 v) 82 186 true).run Tryz.prog w=.ok (.tuple #[.agg #[.nilIface,.nilIface,.int .i64 0],.bool false]) w:=by kernel_rfl
theorem zhm:(Instr.typeAssert (.iface 186 v) 82 186 true).run Tryz.prog w=.ok (.tuple #[v,.bool true]) w:=by kernel_rfl
end
end Go.Proofs.YtceadeaodbadlaaGreatDoor
namespace Go.Proofs.YtceadeaodbadlaaGreatDoor
open Go.RowKit
variable {lo : Nat}
section
variable {Γ:Env} {e:Ex} {L:Nat} {s:Sta} {w1:World} (a fb:Nat) (c p:Int) (sg:Option Addr) (ng cg:Nat) (T T':TypeId) (y z:Value) (w:World)
theorem find_Name (Q:Ending->World->Prop) (H:CZ 169 #[pZ fb,.agg #[.int .u8 c,.slice sg ng cg,.int .i64 p],pZ a] (w.alloc (.cells #[.int .u8 c,.slice sg ng cg,.int .i64 p] 173)) λen w'=>∃r1 r2 r3,en=.returned (.tuple #[r1,r2,r3])/\Hid (Q (.returned (.tuple #[r1,r2,r3])) w')):
 CZ 136 #[pZ fb,.iface 173 (.agg #[.int .u8 c,.slice sg ng cg,.int .i64 p]),pZ a] w Q:=by
 have t0:=zgt (.agg #[.int .u8 c,.slice sg ng cg,.int .i64 p]);go_enter Tryz.func136,Tryz.ntmps136;go_wp21;refine H.mono ?_;rintro en w1 ⟨r1,r2,r3,rfl,HQ⟩;go_wp21;go_ret3;exact HQ
theorem zqp (Q:Ending->World->Prop) (H:CZ 170 #[pZ fb,.agg #[.int .u8 c,.slice sg ng cg,.int .i64 p]] (w.alloc (.cells #[.int .u8 c,.slice sg ng cg,.int .i64 p] 175)) λen w'=>∃r1 r2 r3,en=.returned (.tuple #[r1,r2,r3])/\Hid (Q (.returned (.tuple #[r1,r2,r3])) w')):
 CZ 136 #[pZ fb,.iface 175 (.agg #[.int .u8 c,.slice sg ng cg,.int .i64 p]),pZ a] w Q:=by
 have t0:=zed (.agg #[.int .u8 c,.slice sg ng cg,.int .i64 p]);have t1:=zek (.agg #[.int .u8 c,.slice sg ng cg,.int .i64 p]);go_enter Tryz.func136,Tryz.ntmps136;go_wp21;refine H.mono ?_;rintro en w1 ⟨r1,r2,r3,rfl,HQ⟩;go_wp21;go_ret3;exact HQ
theorem zpj (Q:Ending->World->Prop) (H:CZ 171 #[pZ fb,.agg #[.int .u8 c,.nilIface,.iface T y,.int .i64 p],pZ a] (w.alloc (.cells #[.int .u8 c,.nilIface,.iface T y,.int .i64 p] 179)) λen w'=>∃r1 r2 r3,en=.returned (.tuple #[r1,r2,r3])/\Hid (Q (.returned (.tuple #[r1,r2,r3])) w')):
 CZ 136 #[pZ fb,.iface 179 (.agg #[.int .u8 c,.nilIface,.iface T y,.int .i64 p]),pZ a] w Q:=by
 have t0:=zej (.agg #[.int .u8 c,.nilIface,.iface T y,.int .i64 p]);have t1:=zen (.agg #[.int .u8 c,.nilIface,.iface T y,.int .i64 p]);have t2:=zco (.agg #[.int .u8 c,.nilIface,.iface T y,.int .i64 p]);go_enter Tryz.func136,Tryz.ntmps136;go_wp21;refine H.mono ?_;rintro en w1 ⟨r1,r2,r3,rfl,HQ⟩;go_wp21;go_ret3;exact HQ
theorem find_Let (a fb:Nat) (c:Int) (sv:Option Addr) (nv cv:Nat) (T T':TypeId) (y z:Value) (w:World) (Q:Ending->World->Prop) (H:CZ 172 #[pZ fb,.agg #[.int .u8 c,.slice sv nv cv,.iface T y,.iface T' z],pZ a] (w.alloc (.cells #[.int .u8 c,.slice sv nv cv,.iface T y,.iface T' z] 183)) λen w'=>∃r1 r2 r3,en=.returned (.tuple #[r1,r2,r3])/\Hid (Q (.returned (.tuple #[r1,r2,r3])) w')):
 CZ 136 #[pZ fb,.iface 183 (.agg #[.int .u8 c,.slice sv nv cv,.iface T y,.iface T' z]),pZ a] w Q:=by
 have t0:=zig (.agg #[.int .u8 c,.slice sv nv cv,.iface T y,.iface T' z]);have t1:=zhl (.agg #[.int .u8 c,.slice sv nv cv,.iface T y,.iface T' z]);have t2:=zex (.agg #[.int .u8 c,.slice sv nv cv,.iface T y,.iface T' z]);have t3:=zjz (.agg #[.int .u8 c,.slice sv nv cv,.iface T y,.iface T' z]);go_enter Tryz.func136,Tryz.ntmps136;go_wp21;refine H.mono ?_;rintro en w1 ⟨r1,r2,r3,rfl,HQ⟩;go_wp21;go_ret3;exact HQ
theorem find_Call (Q:Ending->World->Prop) (H:CZ 173 #[pZ fb,.agg #[.iface T y,.iface T' z,.int .i64 p],pZ a] (w.alloc (.cells #[.iface T y,.iface T' z,.int .i64 p] 186)) λen w'=>∃r1 r2 r3,en=.returned (.tuple #[r1,r2,r3])/\Hid (Q (.returned (.tuple #[r1,r2,r3])) w')):
 CZ 136 #[pZ fb,.iface 186 (.agg #[.iface T y,.iface T' z,.int .i64 p]),pZ a] w Q:=by
 have t0:=zgy (.agg #[.iface T y,.iface T' z,.int .i64 p]);have t1:=zgq (.agg #[.iface T y,.iface T' z,.int .i64 p]);have t2:=zee (.agg #[.iface T y,.iface T' z,.int .i64 p]);have t3:=zim (.agg #[.iface T y,.iface T' z,.int .i64 p]);have t4:=zhm (.agg #[.iface T y,.iface T' z,.int .i64 p]);go_enter Tryz.func136,Tryz.ntmps136;go_wp21;refine H.mono ?_;rintro en w1 ⟨r1,r2,r3,rfl,HQ⟩;go_wp21;go_ret3;exact HQ
theorem zto (Q:Ending->World->Prop) (H:CZ 130 #[.int .u8 c] (w.alloc (.cells #[.int .u8 c] 177)).drew λen w'=>∃T z,en=.returned (.iface T z)/\w'.cell? ⟨w.heap.size,0,none⟩=some (.int .u8 c)/\Hid (Q (.returned (.tuple #[.iface 177 (.agg #[.int .u8 c]),.iface T z,.nilIface])) w')):
 CZ 136 #[pZ fb,.iface 177 (.agg #[.int .u8 c]),pZ a] w Q:=by
 have t0:=zfa (.agg #[.int .u8 c]);have t1:=zfb (.agg #[.int .u8 c]);have t2:=zcw (.agg #[.int .u8 c]);have t3:=zfn (.agg #[.int .u8 c]);have t4:=zev (.agg #[.int .u8 c]);have t5:=zjs (.agg #[.int .u8 c]);have hn:=z1v w (.cells #[.int .u8 c] 177);have s0:(w.alloc (.cells #[.int .u8 c] 177)).cell? ⟨w.heap.size,0,none⟩=some (.int .u8 c):=cbl hn;generalize hW:w.alloc (.cells #[.int .u8 c] 177)=W at *
 go_enter Tryz.func136,Tryz.ntmps136;go_wp21;refine wp_region_held_drew (S:=(λwq=>cZ wq w.heap.size 0 (.int .u8 c))) (by kernel_rfl) (s0) (λhS=>?_);refine tkL 0 (.agg #[.int .u8 c]) hS ?_;refine tkS 1 (.iface 177 (.agg #[.int .u8 c])) hS ?_;refine tkS 2 (pZ w.heap.size) hS ?_;refine tkL 3 (.int .u8 c) hS ?_;refine rd1 4 (λKK hK=>?_);go_simp;go_at_call 130;refine(H).mono ?_;rintro en w1 ⟨T,z,rfl,s1,HQ⟩;refine hK.out _ _ s1 (λhS=>nrm ?_);refine tkS 5 (.iface 177 (.agg #[.int .u8 c])) hS ?_;refine tkS 6 (.iface T z) hS ?_;refine tkS 7 (.nilIface) hS ?_;refine wpAnyH_done (by kernel_rfl) ?_ _;go_wp21;go_ret3;exact HQ
theorem zni {fb:Nat} {w:World} {args:Array Value} (b:Below w.heap.size w w1) {f:FuncId} (H:CZ f args w1 (FdQ lo fb L s Γ e w1)):
 CZ f args w1 λen w'=>∃r1 r2 r3,en=.returned (.tuple #[r1,r2,r3])/\Hid (FdQ lo fb L s Γ e w (.returned (.tuple #[r1,r2,r3])) w'):=
 H.mono λen w' hP=>by
  obtain⟨Te,ze,T,z,c,s',δ,τ,Ts,rfl,h1,h2,h3⟩:=hP;exact⟨_,_,_,rfl,Te,ze,T,z,c,s',δ,τ,Ts,rfl,h1,(Wf.blw b).before (Stp.refl L s) h2,h3⟩
theorem Fp.blw {tx:Nat->Addr} {M fb:Nat} {a:Nat} {w:World} (h:Fp lo tx M fb L s Γ e a w) (b:Below w.heap.size w w1):Fp lo tx M fb L s Γ e a w1:=
 have W:Wf lo L s tU w w1:=Wf.blw b
 ⟨W.lw h.lw,W.gl h.lw h.gl,W.tb h.lw h.tb,h.au.blw b,h.sw.kept (zbj b),(b.block fb (z1a.1 h.fin).1).trans h.fin,h.env,h.bnd,h.cb,h.nfl,h.lev,h.hi,h.lof,z1c h.los b.size⟩
theorem Ov.slice {w:World} {V:Value} {l:List (Nat×Nat)} (h:Ov w V l):∃sa n c,V=.slice sa n c:=ziq h
theorem Gv.slice {w:World} {G:Value} {l:List Ty} (h:Gv w G l):∃sa n c,G=.slice sa n c:=by obtain⟨vs,h,_⟩:=h;exact ziq h
theorem ifind_any (tx:Nat->Addr) (M fb m:Nat) (ty:Bool) (hM:M<=1000000):∀x:Ex,EOk ty m x->Bg x->SaidF lo tx M fb x:=by
 intro x
 induction x with
 |nil=>intro h;exact h.elim
 |node k o x a b iha ihb=>
  intro ho hg L s Γ ar v w h hv;have AL:∀ob:Obj,Below w.heap.size w (w.alloc ob):=λob=>bal w _
  rcases ho with ⟨rfl,hc,_,_⟩|⟨rfl,hc,_,_⟩|⟨rfl,hc,_⟩|⟨rfl,hc,_,_,ha,_⟩|⟨rfl,hc,_,ha,hb⟩|⟨rfl,ha,hb⟩
  ·rcases hv with ⟨_,G,rfl,hG⟩|⟨e0,_⟩|⟨e0,_⟩|⟨e0,_⟩|⟨e0,_⟩|⟨e0,_⟩<;>try (exact absurd e0 (by decide))
   obtain⟨sg,ng,cg,rfl⟩:=hG.slice;exact find_Name ar fb _ _ sg ng cg w _ (zni (AL _) (zrd tx M fb L hM s Γ o x a b ar sg ng cg _ (h.blw (AL _)) hc))
  ·rcases hv with ⟨e0,_⟩|⟨_,G,rfl,hG⟩|⟨e0,_⟩|⟨e0,_⟩|⟨e0,_⟩|⟨e0,_⟩<;>try (exact absurd e0 (by decide))
   obtain⟨sg,ng,cg,rfl⟩:=hG.slice;exact zqp ar fb _ _ sg ng cg w _ (zni (AL _) (zkx tx M fb L s Γ o x a b ar sg ng cg _ (h.blw (AL _)) hc))
  ·rcases hv with ⟨e0,_⟩|⟨e0,_⟩|⟨_,rfl⟩|⟨e0,_⟩|⟨e0,_⟩|⟨e0,_⟩<;>try (exact absurd e0 (by decide))
   have hcl:x.c<256:=by simp[zcs] at hc;omega
   have hn:=z1v w (.cells #[uZ x.c] 177);refine zto ar fb _ w _ ((zvq x.c _ hcl).mono ?_);rintro en w' ⟨v',rfl,hT,rfl⟩;obtain⟨T,z,rfl⟩:=hT.iface;have bd:Below w.heap.size w (w.alloc (.cells #[uZ x.c] 177)).drew:=(AL _).drew;have okT:Ok (if x.c=84\/x.c=70 then tB else tI):=by split;exact .inr (.inl ⟨rfl,rfl,rfl,rfl⟩);exact .inl ⟨rfl,rfl,rfl,rfl⟩
   refine⟨T,z,rfl,by rw[z1f (w:=(w.alloc (.cells #[uZ x.c] 177)).drew) hn];rfl,?_⟩;exact⟨_,_,T,z,_,s,tU,_,[],rfl,.inr (.inr (.inl ⟨rfl,rfl,rfl,rfl,rfl⟩)),Wf.blw bd,h.sw.kept (zbj bd),(bd.block fb (z1a.1 h.fin).1).trans h.fin,Ku.of okT hT,.inr (.inr (.inl ⟨rfl,rfl,rfl⟩)),h.hi⟩
  ·rcases hv with ⟨e0,_⟩|⟨e0,_⟩|⟨e0,_⟩|⟨_,F,T,y,rfl,hF,hva⟩|⟨e0,_⟩|⟨e0,_⟩<;>try (exact absurd e0 (by decide))
   rcases hF with ⟨_,rfl⟩|⟨u,e1,_⟩
   ·exact zpj ar fb _ _ T y w _ (zni (AL _) (zkz tx M fb L hM s Γ o x a b ar T y _ (h.blw (AL _)) hc (iha ha hg.2.1) ((Wf.blw (lo:=lo) (L:=L) (s:=s) (AL _)).ev hva)))
   ·rw[hg.1 rfl] at e1;cases e1
  ·rcases hv with ⟨e0,_⟩|⟨e0,_⟩|⟨e0,_⟩|⟨e0,_⟩|⟨_,V,T,y,T',z,rfl,hV,hva,hvb⟩|⟨e0,_⟩<;>try (exact absurd e0 (by decide))
   obtain⟨sv,nv,cv,rfl⟩:=hV.slice;exact find_Let ar fb _ sv nv cv T T' y z w _ (zni (AL _) (zui tx M fb L hM s Γ o x a b ar sv nv cv T T' y z _ (h.blw (AL _)) hc (iha ha hg.2.1) (ihb hb hg.2.2) ((Wf.blw (lo:=lo) (L:=L) (s:=s) (AL _)).ev hva) ((Wf.blw (lo:=lo) (L:=L) (s:=s) (AL _)).ev hvb)))
  ·rcases hv with ⟨e0,_⟩|⟨e0,_⟩|⟨e0,_⟩|⟨e0,_⟩|⟨e0,_⟩|⟨_,T,y,T',z,rfl,hva,hvb⟩<;>try (exact absurd e0 (by decide))
   exact find_Call ar fb _ T T' y z w _ (zni (AL _) (zro tx M fb L hM s Γ o x a b ar T T' y z _ (h.blw (AL _)) (iha ha hg.2.1) (ihb hb hg.2.2) ((Wf.blw (lo:=lo) (L:=L) (s:=s) (AL _)).ev hva) ((Wf.blw (lo:=lo) (L:=L) (s:=s) (AL _)).ev hvb)))
end
end Go.Proofs.YtceadeaodbadlaaGreatDoor
namespace Go.Proofs.YtceadeaodbadlaaGreatDoor
open Go.RowKit
section
variable (fb:Nat) (c p:Int) (sg:Option Addr) (ng cg:Nat) (T T':TypeId) (y z:Value) (w:World)
theorem zsl (Q:Ending->World->Prop) (H:CZ 174 #[pZ fb,.slice sg ng cg] (w.alloc (.cells #[.int .u8 c,.slice sg ng cg,.int .i64 p] 173)) λen w1=>∃sa na ca,en=.returned (.slice sa na ca)/\w1.heap[w.heap.size]? =some (.cells #[.int .u8 c,.slice sg ng cg,.int .i64 p] 173 (0,0))/\
  Hid (Q (.returned (.iface 173 (.agg #[.int .u8 c,.slice sa na ca,.int .i64 p]))) (w1.setCell ⟨w.heap.size,1,none⟩ (.slice sa na ca)))):
 CZ 137 #[pZ fb,.iface 173 (.agg #[.int .u8 c,.slice sg ng cg,.int .i64 p])] w Q:=by
 have t0:=zgt (.agg #[.int .u8 c,.slice sg ng cg,.int .i64 p]);have hn:=z1v w (.cells #[.int .u8 c,.slice sg ng cg,.int .i64 p] 173);have d0:(w.alloc (.cells #[.int .u8 c,.slice sg ng cg,.int .i64 p] 173)).cell? ⟨w.heap.size,1,none⟩=some (.slice sg ng cg):=cbl hn;clear hn;generalize hW:w.alloc (.cells #[.int .u8 c,.slice sg ng cg,.int .i64 p] 173)=W at *
 go_enter Tryz.func137,Tryz.ntmps137
 go_wp2_with fail
 refine H.mono ?_;clear H;rintro en w1 ⟨sa,na,ca,rfl,hn1,H⟩;clear hW d0;have k1:(w1.setCell ⟨w.heap.size,1,none⟩ (.slice sa na ca)).heap[w.heap.size]? =some (.cells #[.int .u8 c,.slice sa na ca,.int .i64 p] 173 (0,0)):=heap_setCell_same w1 _ 1 _ _ _ hn1;have a1:cZ w1 w.heap.size 1 (.slice sg ng cg):=cbl hn1;have f1:w1.frozen? ⟨w.heap.size,1,none⟩=false:=z1g hn1 1;have b0:(w1.setCell ⟨w.heap.size,1,none⟩ (.slice sa na ca)).cell? ⟨w.heap.size,0,none⟩=some (.int .u8 c):=cbl k1;have b1:(w1.setCell ⟨w.heap.size,1,none⟩ (.slice sa na ca)).cell? ⟨w.heap.size,1,none⟩=some (.slice sa na ca):=cbl k1;have b2:(w1.setCell ⟨w.heap.size,1,none⟩ (.slice sa na ca)).cell? ⟨w.heap.size,2,none⟩=some (.int .i64 p):=cbl k1;clear hn1 k1
 go_wp2_with fail
 exact H.out
theorem zky (Q:Ending->World->Prop) (H:CZ 174 #[pZ fb,.slice sg ng cg] (w.alloc (.cells #[.int .u8 c,.slice sg ng cg,.int .i64 p] 175)) λen w1=>∃sa na ca,en=.returned (.slice sa na ca)/\w1.heap[w.heap.size]? =some (.cells #[.int .u8 c,.slice sg ng cg,.int .i64 p] 175 (0,0))/\
  Hid (Q (.returned (.iface 175 (.agg #[.int .u8 c,.slice sa na ca,.int .i64 p]))) (w1.setCell ⟨w.heap.size,1,none⟩ (.slice sa na ca)))):
 CZ 137 #[pZ fb,.iface 175 (.agg #[.int .u8 c,.slice sg ng cg,.int .i64 p])] w Q:=by
 have t0:=zed (.agg #[.int .u8 c,.slice sg ng cg,.int .i64 p]);have t1:=zek (.agg #[.int .u8 c,.slice sg ng cg,.int .i64 p]);have hn:=z1v w (.cells #[.int .u8 c,.slice sg ng cg,.int .i64 p] 175);have d0:(w.alloc (.cells #[.int .u8 c,.slice sg ng cg,.int .i64 p] 175)).cell? ⟨w.heap.size,1,none⟩=some (.slice sg ng cg):=cbl hn;clear hn;generalize hW:w.alloc (.cells #[.int .u8 c,.slice sg ng cg,.int .i64 p] 175)=W at *
 go_enter Tryz.func137,Tryz.ntmps137
 go_wp2_with fail
 refine H.mono ?_;clear H;rintro en w1 ⟨sa,na,ca,rfl,hn1,H⟩;clear hW d0;have k1:(w1.setCell ⟨w.heap.size,1,none⟩ (.slice sa na ca)).heap[w.heap.size]? =some (.cells #[.int .u8 c,.slice sa na ca,.int .i64 p] 175 (0,0)):=heap_setCell_same w1 _ 1 _ _ _ hn1;have a1:cZ w1 w.heap.size 1 (.slice sg ng cg):=cbl hn1;have f1:w1.frozen? ⟨w.heap.size,1,none⟩=false:=z1g hn1 1;have b0:(w1.setCell ⟨w.heap.size,1,none⟩ (.slice sa na ca)).cell? ⟨w.heap.size,0,none⟩=some (.int .u8 c):=cbl k1;have b1:(w1.setCell ⟨w.heap.size,1,none⟩ (.slice sa na ca)).cell? ⟨w.heap.size,1,none⟩=some (.slice sa na ca):=cbl k1;have b2:(w1.setCell ⟨w.heap.size,1,none⟩ (.slice sa na ca)).cell? ⟨w.heap.size,2,none⟩=some (.int .i64 p):=cbl k1;clear hn1 k1
 go_wp2_with fail
 exact H.out
theorem zlb (fb:Nat) (c p:Int) (Tf T:TypeId) (zf y:Value) (w:World) (Q:Ending->World->Prop) (H:CZ 138 #[pZ fb,.iface Tf zf] (w.alloc (.cells #[.int .u8 c,.iface Tf zf,.iface T y,.int .i64 p] 179)) λen w1=>∃Tg zg,en=.returned (.iface Tg zg)/\w1.heap[w.heap.size]? =some (.cells #[.int .u8 c,.iface Tf zf,.iface T y,.int .i64 p] 179 (0,0))/\
  CZ 137 #[pZ fb,.iface T y] (w1.setCell ⟨w.heap.size,1,none⟩ (.iface Tg zg)) λen w2=>∃T2 z2,en=.returned (.iface T2 z2)/\w2.heap[w.heap.size]? =some (.cells #[.int .u8 c,.iface Tg zg,.iface T y,.int .i64 p] 179 (0,0))/\
  Hid (Q (.returned (.iface 179 (.agg #[.int .u8 c,.iface Tg zg,.iface T2 z2,.int .i64 p]))) (w2.setCell ⟨w.heap.size,2,none⟩ (.iface T2 z2)))):
 CZ 137 #[pZ fb,.iface 179 (.agg #[.int .u8 c,.iface Tf zf,.iface T y,.int .i64 p])] w Q:=by
 have t0:=zej (.agg #[.int .u8 c,.iface Tf zf,.iface T y,.int .i64 p]);have t1:=zen (.agg #[.int .u8 c,.iface Tf zf,.iface T y,.int .i64 p]);have t2:=zco (.agg #[.int .u8 c,.iface Tf zf,.iface T y,.int .i64 p]);have hn:=z1v w (.cells #[.int .u8 c,.iface Tf zf,.iface T y,.int .i64 p] 179);have d0:(w.alloc (.cells #[.int .u8 c,.iface Tf zf,.iface T y,.int .i64 p] 179)).cell? ⟨w.heap.size,1,none⟩=some (.iface Tf zf):=cbl hn;clear hn;generalize hW:w.alloc (.cells #[.int .u8 c,.iface Tf zf,.iface T y,.int .i64 p] 179)=W at *
 go_enter Tryz.func137,Tryz.ntmps137
 go_wp2_with fail
 refine H.mono ?_;clear H;rintro en w1 ⟨Tg,zg,rfl,hn1,H⟩;clear hW d0;have k1:(w1.setCell ⟨w.heap.size,1,none⟩ (.iface Tg zg)).heap[w.heap.size]? =some (.cells #[.int .u8 c,.iface Tg zg,.iface T y,.int .i64 p] 179 (0,0)):=heap_setCell_same w1 _ 1 _ _ _ hn1;have a1:cZ w1 w.heap.size 1 (.iface Tf zf):=cbl hn1;have f1:w1.frozen? ⟨w.heap.size,1,none⟩=false:=z1g hn1 1;have e1:(w1.setCell ⟨w.heap.size,1,none⟩ (.iface Tg zg)).cell? ⟨w.heap.size,2,none⟩=some (.iface T y):=cbl k1;clear hn1 k1
 go_wp2_with fail
 refine H.mono ?_;clear H;rintro en w2 ⟨T2,z2,rfl,hn2,H⟩;have k2:(w2.setCell ⟨w.heap.size,2,none⟩ (.iface T2 z2)).heap[w.heap.size]? =some (.cells #[.int .u8 c,.iface Tg zg,.iface T2 z2,.int .i64 p] 179 (0,0)):=heap_setCell_same w2 _ 2 _ _ _ hn2;have a2:cZ w2 w.heap.size 2 (.iface T y):=cbl hn2;have f2:w2.frozen? ⟨w.heap.size,2,none⟩=false:=z1g hn2 2;have b0:(w2.setCell ⟨w.heap.size,2,none⟩ (.iface T2 z2)).cell? ⟨w.heap.size,0,none⟩=some (.int .u8 c):=cbl k2;have b1:(w2.setCell ⟨w.heap.size,2,none⟩ (.iface T2 z2)).cell? ⟨w.heap.size,1,none⟩=some (.iface Tg zg):=cbl k2;have b2:(w2.setCell ⟨w.heap.size,2,none⟩ (.iface T2 z2)).cell? ⟨w.heap.size,2,none⟩=some (.iface T2 z2):=cbl k2;have b3:(w2.setCell ⟨w.heap.size,2,none⟩ (.iface T2 z2)).cell? ⟨w.heap.size,3,none⟩=some (.int .i64 p):=cbl k2;clear hn2 k2
 go_wp2_with fail
 exact H.out
theorem zub (fb:Nat) (c:Int) (sv:Option Addr) (nv cv:Nat) (T T':TypeId) (y z:Value) (w:World) (Q:Ending->World->Prop) (H:CZ 137 #[pZ fb,.iface T y] (w.alloc (.cells #[.int .u8 c,.slice sv nv cv,.iface T y,.iface T' z] 183)) λen w1=>∃Tg zg,en=.returned (.iface Tg zg)/\w1.heap[w.heap.size]? =some (.cells #[.int .u8 c,.slice sv nv cv,.iface T y,.iface T' z] 183 (0,0))/\
  CZ 137 #[pZ fb,.iface T' z] (w1.setCell ⟨w.heap.size,2,none⟩ (.iface Tg zg)) λen w2=>∃T2 z2,en=.returned (.iface T2 z2)/\w2.heap[w.heap.size]? =some (.cells #[.int .u8 c,.slice sv nv cv,.iface Tg zg,.iface T' z] 183 (0,0))/\
  Hid (Q (.returned (.iface 183 (.agg #[.int .u8 c,.slice sv nv cv,.iface Tg zg,.iface T2 z2]))) (w2.setCell ⟨w.heap.size,3,none⟩ (.iface T2 z2)))):
 CZ 137 #[pZ fb,.iface 183 (.agg #[.int .u8 c,.slice sv nv cv,.iface T y,.iface T' z])] w Q:=by
 have t0:=zig (.agg #[.int .u8 c,.slice sv nv cv,.iface T y,.iface T' z]);have t1:=zhl (.agg #[.int .u8 c,.slice sv nv cv,.iface T y,.iface T' z]);have t2:=zex (.agg #[.int .u8 c,.slice sv nv cv,.iface T y,.iface T' z]);have t3:=zjz (.agg #[.int .u8 c,.slice sv nv cv,.iface T y,.iface T' z]);have hn:=z1v w (.cells #[.int .u8 c,.slice sv nv cv,.iface T y,.iface T' z] 183);have d0:(w.alloc (.cells #[.int .u8 c,.slice sv nv cv,.iface T y,.iface T' z] 183)).cell? ⟨w.heap.size,2,none⟩=some (.iface T y):=cbl hn;clear hn;generalize hW:w.alloc (.cells #[.int .u8 c,.slice sv nv cv,.iface T y,.iface T' z] 183)=W at *
 go_enter Tryz.func137,Tryz.ntmps137
 go_wp2_with fail
 refine H.mono ?_;clear H;rintro en w1 ⟨Tg,zg,rfl,hn1,H⟩;clear hW d0;have k1:(w1.setCell ⟨w.heap.size,2,none⟩ (.iface Tg zg)).heap[w.heap.size]? =some (.cells #[.int .u8 c,.slice sv nv cv,.iface Tg zg,.iface T' z] 183 (0,0)):=heap_setCell_same w1 _ 2 _ _ _ hn1;have a1:cZ w1 w.heap.size 2 (.iface T y):=cbl hn1;have f1:w1.frozen? ⟨w.heap.size,2,none⟩=false:=z1g hn1 2;have e1:(w1.setCell ⟨w.heap.size,2,none⟩ (.iface Tg zg)).cell? ⟨w.heap.size,3,none⟩=some (.iface T' z):=cbl k1;clear hn1 k1
 go_wp2_with fail
 refine H.mono ?_;clear H;rintro en w2 ⟨T2,z2,rfl,hn2,H⟩;have k2:(w2.setCell ⟨w.heap.size,3,none⟩ (.iface T2 z2)).heap[w.heap.size]? =some (.cells #[.int .u8 c,.slice sv nv cv,.iface Tg zg,.iface T2 z2] 183 (0,0)):=heap_setCell_same w2 _ 3 _ _ _ hn2;have a2:cZ w2 w.heap.size 3 (.iface T' z):=cbl hn2;have f2:w2.frozen? ⟨w.heap.size,3,none⟩=false:=z1g hn2 3;have b0:(w2.setCell ⟨w.heap.size,3,none⟩ (.iface T2 z2)).cell? ⟨w.heap.size,0,none⟩=some (.int .u8 c):=cbl k2;have b1:(w2.setCell ⟨w.heap.size,3,none⟩ (.iface T2 z2)).cell? ⟨w.heap.size,1,none⟩=some (.slice sv nv cv):=cbl k2;have b2:(w2.setCell ⟨w.heap.size,3,none⟩ (.iface T2 z2)).cell? ⟨w.heap.size,2,none⟩=some (.iface Tg zg):=cbl k2;have b3:(w2.setCell ⟨w.heap.size,3,none⟩ (.iface T2 z2)).cell? ⟨w.heap.size,3,none⟩=some (.iface T2 z2):=cbl k2;clear hn2 k2
 go_wp2_with fail
 exact H.out
theorem zsb (Q:Ending->World->Prop) (H:CZ 137 #[pZ fb,.iface T y] (w.alloc (.cells #[.iface T y,.iface T' z,.int .i64 p] 186)) λen w1=>∃Tg zg,en=.returned (.iface Tg zg)/\w1.heap[w.heap.size]? =some (.cells #[.iface T y,.iface T' z,.int .i64 p] 186 (0,0))/\
  CZ 137 #[pZ fb,.iface T' z] (w1.setCell ⟨w.heap.size,0,none⟩ (.iface Tg zg)) λen w2=>∃T2 z2,en=.returned (.iface T2 z2)/\w2.heap[w.heap.size]? =some (.cells #[.iface Tg zg,.iface T' z,.int .i64 p] 186 (0,0))/\
  Hid (Q (.returned (.iface 186 (.agg #[.iface Tg zg,.iface T2 z2,.int .i64 p]))) (w2.setCell ⟨w.heap.size,1,none⟩ (.iface T2 z2)))):
 CZ 137 #[pZ fb,.iface 186 (.agg #[.iface T y,.iface T' z,.int .i64 p])] w Q:=by
 have t0:=zgy (.agg #[.iface T y,.iface T' z,.int .i64 p]);have t1:=zgq (.agg #[.iface T y,.iface T' z,.int .i64 p]);have t2:=zee (.agg #[.iface T y,.iface T' z,.int .i64 p]);have t3:=zim (.agg #[.iface T y,.iface T' z,.int .i64 p]);have t4:=zhm (.agg #[.iface T y,.iface T' z,.int .i64 p]);have hn:=z1v w (.cells #[.iface T y,.iface T' z,.int .i64 p] 186);have d0:(w.alloc (.cells #[.iface T y,.iface T' z,.int .i64 p] 186)).cell? ⟨w.heap.size,0,none⟩=some (.iface T y):=cbl hn;clear hn;generalize hW:w.alloc (.cells #[.iface T y,.iface T' z,.int .i64 p] 186)=W at *
 go_enter Tryz.func137,Tryz.ntmps137
 go_wp2_with fail
 refine H.mono ?_;clear H;rintro en w1 ⟨Tg,zg,rfl,hn1,H⟩;clear hW d0;have k1:(w1.setCell ⟨w.heap.size,0,none⟩ (.iface Tg zg)).heap[w.heap.size]? =some (.cells #[.iface Tg zg,.iface T' z,.int .i64 p] 186 (0,0)):=heap_setCell_same w1 _ 0 _ _ _ hn1;have a1:cZ w1 w.heap.size 0 (.iface T y):=cbl hn1;have f1:w1.frozen? ⟨w.heap.size,0,none⟩=false:=z1g hn1 0;have e1:(w1.setCell ⟨w.heap.size,0,none⟩ (.iface Tg zg)).cell? ⟨w.heap.size,1,none⟩=some (.iface T' z):=cbl k1;clear hn1 k1
 go_wp2_with fail
 refine H.mono ?_;clear H;rintro en w2 ⟨T2,z2,rfl,hn2,H⟩;have k2:(w2.setCell ⟨w.heap.size,1,none⟩ (.iface T2 z2)).heap[w.heap.size]? =some (.cells #[.iface Tg zg,.iface T2 z2,.int .i64 p] 186 (0,0)):=heap_setCell_same w2 _ 1 _ _ _ hn2;have a2:cZ w2 w.heap.size 1 (.iface T' z):=cbl hn2;have f2:w2.frozen? ⟨w.heap.size,1,none⟩=false:=z1g hn2 1;have b0:(w2.setCell ⟨w.heap.size,1,none⟩ (.iface T2 z2)).cell? ⟨w.heap.size,0,none⟩=some (.iface Tg zg):=cbl k2;have b1:(w2.setCell ⟨w.heap.size,1,none⟩ (.iface T2 z2)).cell? ⟨w.heap.size,1,none⟩=some (.iface T2 z2):=cbl k2;have b2:(w2.setCell ⟨w.heap.size,1,none⟩ (.iface T2 z2)).cell? ⟨w.heap.size,2,none⟩=some (.int .i64 p):=cbl k2;clear hn2 k2
 go_wp2_with fail
 exact H.out
theorem znt:CZ 137 #[pZ fb,.iface 177 (.agg #[.int .u8 c])] w λen w'=>en=.returned (.iface 177 (.agg #[.int .u8 c]))/\w'=w:=by
 have t0:=zfa (.agg #[.int .u8 c]);have t1:=zfb (.agg #[.int .u8 c]);have t2:=zcw (.agg #[.int .u8 c]);have t3:=zfn (.agg #[.int .u8 c]);have t4:=zev (.agg #[.int .u8 c]);go_enter Tryz.func137,Tryz.ntmps137;go_wp21;go_ret;exact⟨rfl,rfl⟩
end
end Go.Proofs.YtceadeaodbadlaaGreatDoor
namespace Go.Proofs.YtceadeaodbadlaaGreatDoor
open Go.RowKit
variable {lo : Nat}
structure Sq (s s':Sta) (δ:Nat->Ty):Prop where
 mem:∀q∈s.A,(δ q=tU q/\q∈s'.A)\/∃i,s.tk<=i/\i<s'.tk/\δ q=tV (zac i)
 inj:∀q∈s.A,∀r∈s.A,δ q=δ r->q=r
 tk:s.tk<=s'.tk
 tt:tot s'<=tot s
 one:∀q,sz (δ q)=1/\Trim (δ q)
section
variable {fb l:Nat} {δ1 δ2 δ:Nat->Ty} {s s1 s2 s':Sta} {w w1 w2:World}
theorem Sq.refl (s:Sta):Sq s s tU:=⟨λq hq=> .inl ⟨rfl,hq⟩,λq _ r _ h=>by simpa using h,z1d _,z1d _,λq=>⟨rfl,zil q⟩⟩
theorem Sq.trans (h:Sq s s1 δ1) (k:Sq s1 s2 δ2) (ht:tot s<=260):Sq s s2 (λq=>usub δ2 (δ1 q)):=by
 have t2:s2.tk<=260:=by have:=h.tt;have:=k.tt;unfold tot at *;omega
 have cross:∀q∈s1.A,∀j,j<s1.tk->δ2 q≠tV (zac j):=by
  intro q hq j hj e;rcases k.mem q hq with ⟨e',_⟩|⟨i,i1,i2,e'⟩
  ·rw[e'] at e;simp at e
  ·rw[e'] at e
   simp at e;have:=zkj (by omega) (by have:=k.tk;omega) e;omega
 refine⟨λq hq=>?_,λq hq r hr e=>?_,z1c h.tk k.tk,z1c k.tt h.tt,λq=>⟨?_,?_⟩⟩
 ·rcases h.mem q hq with ⟨e,hm⟩|⟨i,i1,i2,e⟩
  ·simp only[e,usub_U]
   rcases k.mem q hm with h'|⟨i,i1,i2,e'⟩
   ·exact .inl h'
   ·exact .inr ⟨i,z1c h.tk i1,i2,e'⟩
  ·have:=k.tk
   exact .inr ⟨i,i1,by omega,by simp[e]⟩
 ·rcases h.mem q hq with ⟨eq,mq⟩|⟨i,i1,i2,eq⟩
  ·rcases h.mem r hr with ⟨er,mr⟩|⟨j,j1,j2,er⟩
   ·simp only[eq,er,usub_U] at e;exact k.inj q mq r mr e
   ·simp only[eq,er,usub_U] at e
    exact absurd (by simpa using e) (cross q mq j j2)
  ·rcases h.mem r hr with ⟨er,mr⟩|⟨j,j1,j2,er⟩
   ·simp only[eq,er,usub_U] at e
    exact absurd (by simpa using e.symm) (cross r mr i i2)
   ·simp only[eq,er] at e
    exact h.inj q hq r hr (by rw[eq,er];simpa using e)
 ·show sz (usub δ2 (δ1 q))=1
  rw[zez (λq=>(k.one q).1) _ (h.one q).2];exact(h.one q).1
 ·exact(h.one q).2.usub λp _=>(k.one p).2
theorem SeI.sq {lv:Int} {t:Ty} {qs:List Nat} (h:SeI lv s t s' δ qs) (ht:Go.Proofs.YtceadeaodbadlaaGreatDoor.tot s<=260):Sq s s' δ:=by
 have hl:=zhc h.nd λq hq=>((h.all q).1 hq).1
 unfold Go.Proofs.YtceadeaodbadlaaGreatDoor.tot at ht;refine⟨λq hq=>?_,λq hq r hr e=>?_,by rw[h.tk];omega,h.tot,h.one1⟩
 ·by_cases hm:q∈qs
  ·obtain⟨i,hi,e⟩:=h.var hm
   have:=(z1b.1 hi).1;exact .inr ⟨s.tk+i,by omega,by rw[h.tk];omega,e⟩
  ·exact .inl ⟨h.out q hm,(h.mem q).2 ⟨hq,hm⟩⟩
 ·by_cases hm:q∈qs
  ·obtain⟨i,hi,e1⟩:=h.var hm
   by_cases hm':r∈qs
   ·obtain⟨j,hj,e2⟩:=h.var hm'
    have l1:=(z1b.1 hi).1;have l2:=(z1b.1 hj).1;rw[e1,e2] at e;simp at e;have:=zkj (by omega) (by omega) e;have:i=j:=by omega
    subst this;rw[hi] at hj;exact z1q hj
   ·rw[e1,h.out r hm'] at e;simp at e
  ·by_cases hm':r∈qs
   ·obtain⟨j,hj,e2⟩:=h.var hm'
    rw[h.out q hm,e2] at e;simp at e
   ·rw[h.out q hm,h.out r hm'] at e;simpa using e
structure Srd (lo fb l:Nat) (s s':Sta) (δ:Nat->Ty) (w w':World):Prop where
 os:w'.os=w.os
 tape:w'.tape=w.tape
 output:w'.output=w.output
 size:w.heap.size<=w'.heap.size
 rest:∀(q:Nat) (c:Array Value) (T:TypeId) (fz:Nat×Nat),T≠336->T≠222->w.heap[q]? =some (.cells c T fz)->w'.heap[q]? =some (.cells c T fz)
 ku:KuStep s.A δ w w'
 sw:SW w' s'
 fin:w'.heap[fb]? =some (finO l s'.tk)
 sq:Sq s s' δ
 low:∀q,q<lo->q<w.heap.size->w'.heap[q]? =w.heap[q]?
 sub:∀q∈s'.A,q∈s.A
theorem Srd.refl (hs:SW w s) (hf:w.heap[fb]? =some (finO l s.tk)):Srd lo fb l s s tU w w:=⟨rfl,rfl,rfl,z1d _,λ_ _ _ _ _ _ h=>h,KuStep.refl _ _,hs,hf,Sq.refl s,λ_ _ _=>rfl,λ_ h=>h⟩
theorem Sq.D (h:Sq s s' δ):∀q∈s.A,∀p,inU p (δ q)->p∈s'.A:=λq hq p hp=>by
 rcases h.mem q hq with ⟨e,hm⟩|⟨i,_,_,e⟩
 ·rw[e] at hp;simp at hp;subst hp;exact hm
 ·rw[e] at hp;simp at hp
theorem Srd.trans (h:Srd lo fb l s s1 δ1 w w1) (k:Srd lo fb l s1 s2 δ2 w1 w2) (ht:tot s<=260):Srd lo fb l s s2 (λq=>usub δ2 (δ1 q)) w w2:=
 ⟨k.os.trans h.os,k.tape.trans h.tape,k.output.trans h.output,z1c h.size k.size,λq c T fz a b hq=>k.rest q c T fz a b (h.rest q c T fz a b hq),h.ku.trans k.ku h.sq.D,k.sw,k.fin,h.sq.trans k.sq ht,λq h1 h2=>(k.low q h1 (z1e h2 h.size)).trans (h.low q h1 h2),λq hq=>h.sub q (k.sub q hq)⟩
theorem Srd.pre (b:Below w.heap.size w w1) (h:Srd lo fb l s s' δ w1 w2):Srd lo fb l s s' δ w w2:=
 ⟨h.os.trans b.os,h.tape.trans b.tape,h.output.trans b.output,z1c b.size h.size,λq c T fz x y hq=>h.rest q c T fz x y ((b.block q (z1a.1 hq).1).trans hq),λc t v hv hA=>h.ku c t v (hv.blw b) hA,h.sw,h.fin,h.sq,λq h1 h2=>(h.low q h1 (z1e h2 b.size)).trans (b.block q h2),h.sub⟩
theorem Srd.own (h:Srd lo fb l s s' δ w w1) (os:w2.os=w1.os) (tape:w2.tape=w1.tape) (output:w2.output=w1.output) (size:w1.heap.size<=w2.heap.size) (hb:∀q,q<w.heap.size->w2.heap[q]? =w1.heap[q]?) (hk:KeptU w1 w2) (hf:fb<w.heap.size):Srd lo fb l s s' δ w w2:=
 ⟨os.trans h.os,tape.trans h.tape,output.trans h.output,z1c h.size size,λq c T fz x y hq=>(hb q (z1a.1 hq).1).trans (h.rest q c T fz x y hq),λc t v hv hA=>(h.ku c t v hv hA).kept hk,λq hq=>hk _ _ _ (.inr (.inr (.inr rfl))) (h.sw q hq),(hb fb hf).trans h.fin,h.sq,λq h1 h2=>(hb q h2).trans (h.low q h1 h2),h.sub⟩
theorem Srd.box {n:Nat} (h:Srd lo fb l s s' δ w w1) (k:Bxg n w1 w2) (hn:w.heap.size<=n) (hf:fb<w.heap.size):Srd lo fb l s s' δ w w2:=
 h.own k.os k.tape k.output (Nat.le_of_eq k.size.symm) (λq hq=>k.oth q (by omega)) k.c.u hf
def Tz (s:Sta) (Ts:List Ty):Prop:=∀u∈Ts,sz u<=1000000/\Trim u/\∀q,inU q u->q∈s.A
theorem Tz.step {Ts:List Ty} (h:Tz s Ts) (k:Sq s s' δ):Tz s' (Ts.map (usub δ)):=λu hu=>by
 obtain⟨r,hr,rfl⟩:=z1z.1 hu;obtain⟨h1,h2,h3⟩:=h r hr;refine⟨by rw[zez (λq=>(k.one q).1) _ h2];exact h1,h2.usub λp _=>(k.one p).2,λq hq=>?_⟩;obtain⟨p,p1,p2⟩:=zak.1 hq;exact k.D p (h3 p p1) q p2
def SpQ (lo fb l:Nat) (s:Sta) (t:Ty) (w:World) (x:Value) (w':World):Prop:=
 ∃s' δ,Srd lo fb l s s' δ w w'/\Kc w' (usub δ t) x/\∀q,inU q t->∃i,i<260/\δ q=tV (zac i)
theorem zey (fb l:Nat) (s:Sta) (t:Ty) (v:Value) (c:Nat) (w:World) (hf:w.heap[fb]? =some (finO l s.tk)) (hv:Ku w c t v) (hA:∀q,inU q t->q∈s.A) (hs:SW w s) (ht:tot s<=260) (hsz:sz t<=1000000) (hlo:lo<=fb) (hi:∀q∈s.A,lo<=q):
 CZ 138 #[pZ fb,v] w λe w'=>∃T z,e=.returned (.iface T z)/\SpQ lo fb l s t w (.iface T z) w':=by
 have flt:=(z1a.1 hf).1;have S:=zol w.heap.size (-1) 176 #[pZ fb] #[] _ (gen_var (lo:=lo) w.heap.size fb l flt hlo) s t v c w (z1d _) hv hA hs ht (by omega) hf
 have HF:Hid (∀x w',StQ lo w.heap.size (-1) (λu k=>u.heap[fb]? =some (finO l k)) s t w x w'->∃T z,x=.iface T z/\SpQ lo fb l s t w x w'):=by
  rintro x w' ⟨s',δ,qs,hn,hI,hW,hK⟩;obtain⟨T,z,rfl⟩:=hK.iface;refine⟨T,z,rfl,s',δ,⟨hW.os,hW.tape,hW.output,hW.size,λq c T fz h1 h2 hq=>hW.old q c T fz (z1a.1 hq).1 h2 h1 hq,hW.ku,hW.sw,hn,hI.sq ht,λq h1 h2=>hW.low q h1 h2 λhm=>by have:=hi q hm;omega,hW.sub⟩,hK,λq hq=>?_⟩;have hm:=(hI.all q).2 ⟨hA q hq,hq,by omega⟩;obtain⟨i,hi,e⟩:=hI.var hm;have hl:=zhc hI.nd λq hq=>((hI.all q).1 hq).1
  have:=(z1b.1 hi).1;unfold tot at ht;exact⟨s.tk+i,by omega,e⟩
 obtain⟨T,z,rfl⟩:=hv.iface;go_enter Tryz.func138,Tryz.ntmps138;go_wp21;refine S.mono ?_;rintro e w1 ⟨x,rfl,hQ⟩;obtain⟨Tx,zx,rfl,HP⟩:=HF x w1 hQ;have HP':=hid HP;go_wp21;go_ret;exact⟨Tx,zx,rfl,HP'⟩
def SsQ (lo fb l:Nat) (s:Sta) (w:World) (w':World):Prop:=∃s' δ,Srd lo fb l s s' δ w w'
def Grt (w:World) (g:Nat) (gs:List Ty):Prop:=∃c,w.heap[g]? =some (.cells c 94 (0,0))/\∀(j:Nat) (t:Ty),gs[j]? =some t->∃x d,c[j]? =some x/\Ku w d t x
theorem Grt.step {w':World} {g:Nat} {gs:List Ty} (h:Grt w g gs) (k:Srd lo fb l s s' δ w w') (hz:Tz s gs):Grt w' g (gs.map (usub δ)):=by
 obtain⟨c,h1,h2⟩:=h;refine⟨c,k.rest _ _ _ _ (by decide) (by decide) h1,λj t hj=>?_⟩;rw[z1n] at hj
 cases hg:gs[j]? with
 |none=>rw[hg] at hj;cases hj
 |some u=>
  rw[hg] at hj
  cases hj
  obtain⟨x,d,h3,h4⟩:=h2 j u hg;exact⟨x,d,h3,k.ku _ _ _ h4 (hz u (z1m hg)).2.2⟩
theorem zgs (fb l:Nat) (s:Sta) (gs:List Ty) (G:Value) (w:World) (hf:w.heap[fb]? =some (finO l s.tk)) (hG:Grow' w G gs) (hz:Tz s gs) (hs:SW w s) (ht:tot s<=260) (hl:gs.length<=1000000) (hlo:lo<=fb) (hi:∀q∈s.A,lo<=q):
 CZ 174 #[pZ fb,G] w λe w'=>∃sa na ca,e=.returned (.slice sa na ca)/\SsQ lo fb l s w w':=by
 obtain⟨sg,cg,rfl,hG⟩:=hG;obtain⟨i0,hi0,hz0,hz1,hz2⟩:=info_parts infoTy;have flt:=(z1a.1 hf).1
 have HG:Hid (∀j,j<gs.length->∃g,sg=some ⟨g,0,none⟩/\Grt w g gs):=λj hj=>by
  rcases hG with rfl|⟨g,c,rfl,h1,h2⟩
  ·simp at hj
  ·exact⟨g,rfl,c,h1,h2⟩
 have HZ:=hid hz;have HR:Hid (Srd lo fb l s s tU w w):=Srd.refl hs hf;have HL:=hid hl;have HH:=hid hi;clear hG hz hs hf hi;generalize hn:gs.length=n at *
 have Hn:=hid hn;clear hn;go_enter Tryz.func174,Tryz.ntmps174
 go_wp2_with fail
 go_loopw [5,10] (λv i wr=>∃(k:Nat) (xs:List Value),i=.int .i64 (k:Int)/\k<=n/\wr.ownsRow w.heap.size 94 1 v k xs/\Hid (∃s' δ,Srd lo fb l s s' δ w wr)) (λv i _=>n-(intOf i).toNat)
 case atStart=>exact⟨0,[],rfl,Nat.zero_le _,z1w _ _ _ _,s,tU,HR.out⟩
 case round=>
  obtain⟨k,xs,rfl,hkn,hrow,HI⟩:=hrel;by_cases hk:k=n
  ·subst hk
   obtain⟨sa,na,ca,rfl⟩:=ziq hrow;clear hrow
   go_wp2_with fail
   go_ret;exact⟨_,_,_,rfl,HI.out⟩
  ·have hk':k<n:=by omega
   clear hk;obtain⟨s1,δ1,R1⟩:=HI.out;obtain⟨g,hg,hGr⟩:=HG.out k hk';obtain⟨c1,hc1,hc2⟩:=hGr.step R1 HZ.out;have hgk:(gs.map (usub δ1))[k]? =some (usub δ1 (gs[k]'(by rw[Hn.out];exact hk'))):=by rw[z1n,z1h (by rw[Hn.out];exact hk')];rfl
   obtain⟨x,d,hx1,hx2⟩:=hc2 k _ hgk;have hzz:=HZ.out.step R1.sq _ (z1m hgk);have t1:tot s1<=260:=z1c R1.sq.tt ht;have S:=zey fb l s1 _ x d wr R1.fin hx2 hzz.2.2 R1.sw t1 hzz.1 hlo (λq hq=>HH.out q (R1.sub q hq));have cx:wr.cell? ⟨g,k,none⟩=some x:=by rw[z1f hc1];exact hx1
   obtain⟨Tx,zx,rfl⟩:=hx2.iface
   have HN:Hid (∀w2 w3 s2 δ2,Srd lo fb l s1 s2 δ2 wr w2->w2.heap.size<=w3.heap.size->w3.os=w2.os->w3.tape=w2.tape->w3.output=w2.output->(∀q,q<w.heap.size->w3.heap[q]? =w2.heap[q]?)->KeptU w2 w3->∃s' δ,Srd lo fb l s s' δ w w3):=λw2 w3 s2 δ2 R2 z1 z2 z3 z4 z5 z6=>
    ⟨s2,_,(R1.trans R2 ht).own z2 z3 z4 z1 z5 z6 flt⟩
   have Hrw:=hid R1.size;clear hc1 hc2 hx1 hx2 hgk hzz t1 R1 HI hGr;subst hg;have hii:(k:Int)<(n:Int):=by omega
   go_wp2_with fail
   refine S.mono ?_;rintro e w2 ⟨Ty,zy,rfl,s2,δ2,R2,_,_⟩;have hrow2:w2.ownsRow w.heap.size 94 1 _ k xs:=zci (λg c hg=>R2.rest _ _ _ _ (by decide) (by decide) hg) hrow;have Hs2:=hid R2.size;have HN2:=λw3=>HN.out w2 w3 s2 δ2 R2
   have HN3:Hid _:=HN2;clear S HN HN2 R2 hrow cx
   go_wp2_with (at_builtin;refine wpList_append_own _ rfl _ _ 171 rfl w.heap.size 94 i0 .nilIface 1 16 Tryz.underlying171 hi0 hz0 hz1 hz2 rfl (by decide) _ _ _ rfl (hrow2.alloc _) ⟨w2.heap.size,0,none⟩ 1 1 [.iface Ty zy] rfl rfl ?c1 ?c2 ?c3 ?c4 ?c5 ?_)
   case c1=>exact z1x (z1v w2 _)
   case c2=>intro u hu;simp at hu;subst hu;rfl
   case c3=>have:=HL.out;unfold maxLen;omega
   case c4=>have:=HL.out;omega
   case c5=>have:=Hrw.out;have:=Hs2.out;simp;omega
   intro v' w5 hown' hgrow _;have hrowA:=hrow2.alloc (.cells #[.iface Ty zy] 94)
   have HP:Hid (∃s' δ,Srd lo fb l s s' δ w w5):=by
    have a1:=Hrw.out;have a2:=Hs2.out;have hlt:∀q,q<w2.heap.size->(w2.alloc (.cells #[.iface Ty zy] 94)).heap[q]? =w2.heap[q]?:=λq hq=>Lib.alloc_old _ _ _ hq
    refine HN3.out w5 (z1c (by simp) hgrow.size) hgrow.os hgrow.tape hgrow.output (λq hq=>?_) (λq c T hT hq=>?_)
    ·rw[hgrow.block q (by simp;omega) (λhe=>by have:=(zgo hrowA q he.symm).1;omega)]
     exact hlt q (by omega)
    ·have ql:=(z1a.1 hq).1
     refine zif hrowA hgrow (by rcases hT with rfl|rfl|rfl|rfl<;>decide) ?_
     rw[hlt q ql];exact hq
   have hown5:w5.ownsRow w.heap.size 94 1 v' (k+1) (xs++[.iface Ty zy]):=by simpa using hown'
   clear hown' hgrow hrowA hrow2 HN3
   go_wp2_with fail
   go_roundw
   case rel=>exact⟨k+1,_,by simp,by omega,hown5,HP⟩
   case measure=>simp[intOf];omega
end
section
variable {a b:List Ty} {fb l:Nat} {s:Sta} {w:World}
theorem Srd.eu {s':Sta} {δ:Nat->Ty} {w':World} {e:Ex} {v:Value} {Ts:List Ty} (h:Srd lo fb l s s' δ w w') (hv:Eu w e v Ts) (hz:Tz s Ts):Eu w' e v (Ts.map (usub δ)):=
 hv.step (λq c hq=>h.rest _ _ _ _ (by decide) (by decide) hq) h.ku λu hu=>(hz u hu).2.2
theorem Tz.left (h:Tz s (a++b)):Tz s a:=λu hu=>h u (List.mem_append_left _ hu)
theorem Tz.right (h:Tz s (a++b)):Tz s b:=λu hu=>h u (List.mem_append_right _ hu)
def SlQ (lo fb l:Nat) (s:Sta) (w:World) (e:Ending) (w':World):Prop:=∃T z,e=.returned (.iface T z)/\SsQ lo fb l s w w'
def SaidS (lo fb l:Nat) (e:Ex):Prop:=∀(s:Sta) (v:Value) (Ts:List Ty) (w:World),Eu w e v Ts->Tz s Ts->SW w s->w.heap[fb]? =some (finO l s.tk)->tot s<=260->Ts.length<=1000000->lo<=fb->(∀q∈s.A,lo<=q)->
 CZ 137 #[pZ fb,v] w (SlQ lo fb l s w)
theorem znn {xa xb:Ex} {W:World} {T T':TypeId} {y z:Value} {T1 T2:List Ty} {TT:TypeId} (ha:SaidS lo fb l xa) (hb:SaidS lo fb l xb) (k1 k2:Nat) (hT:BxT TT) (cs:Array Value) (b1:Below w.heap.size w W) (hn0:W.heap[w.heap.size]? =some (.cells cs TT (0,0))) (hea:Eu W xa (.iface T y) T1) (heb:Eu W xb (.iface T' z) T2) (hz:Tz s (T1++T2)) (hs:SW W s) (hf:w.heap[fb]? =some (finO l s.tk)) (ht:tot s<=260) (hl:(T1++T2).length<=1000000) (hlo:lo<=fb) (hi:∀q∈s.A,lo<=q) (Q:Ending->World->Prop) (R:TypeId->Value->TypeId->Value->Value) (HQ:∀Tg zg T2 z2 w2,SsQ lo fb l s w w2->Q (.returned (R Tg zg T2 z2)) w2):
 CZ 137 #[pZ fb,.iface T y] W λen w1=>∃Tg zg,en=.returned (.iface Tg zg)/\w1.heap[w.heap.size]? =some (.cells cs TT (0,0))/\
  CZ 137 #[pZ fb,.iface T' z] (w1.setCell ⟨w.heap.size,k1,none⟩ (.iface Tg zg)) λen w2=>∃T2 z2,en=.returned (.iface T2 z2)/\w2.heap[w.heap.size]? =some (.cells (cs.setIfInBounds k1 (.iface Tg zg)) TT (0,0))/\
   Hid (Q (.returned (R Tg zg T2 z2)) (w2.setCell ⟨w.heap.size,k2,none⟩ (.iface T2 z2))):=by
 have flt:=(z1a.1 hf).1;have hTU:TT≠336/\TT≠222:=by rcases hT with rfl|rfl|rfl|rfl|rfl<;>decide
 simp only[z1l] at hl;refine(ha s _ T1 W hea hz.left hs ((b1.block fb flt).trans hf) ht (by omega) hlo hi).mono ?_;rintro en w1 ⟨Tg,zg,rfl,s1,δ1,R1⟩;have hn1:=R1.rest _ _ _ _ hTU.1 hTU.2 hn0;have X1:=Bxg.set w.heap.size k1 (.iface Tg zg) hn1 hT;have hn2:=heap_setCell_same w1 w.heap.size k1 _ _ (.iface Tg zg) hn1;have P1:=(R1.pre b1).box X1 (z1d _) flt;have e2:=(R1.eu heb hz.right).kept X1.c;refine⟨Tg,zg,rfl,hn1,?_⟩;refine(hb s1 _ _ _ e2 (hz.right.step R1.sq) P1.sw P1.fin (z1c R1.sq.tt ht) (by rw[z2a];omega) hlo λq hq=>hi q (R1.sub q hq)).mono ?_;rintro en w2 ⟨T2',z2,rfl,s2,δ2,R2⟩;have hn3:=R2.rest _ _ _ _ hTU.1 hTU.2 hn2;have X2:=Bxg.set w.heap.size k2 (.iface T2' z2) hn3 hT;exact⟨T2',z2,rfl,hn3,HQ _ _ _ _ _ ⟨s2,_,((P1.trans R2 ht).box X2 (z1d _) flt)⟩⟩
theorem zue (fb l:Nat):∀e:Ex,SaidS lo fb l e:=by
 intro e
 induction e with
 |nil=>intro s v Ts w h;exact h.elim
 |node k o x a b iha ihb=>
  intro s v Ts w h hz hs hf ht hl hlo hi;have flt:=(z1a.1 hf).1;have AL:∀ob:Obj,Below w.heap.size w (w.alloc ob):=λob=>bal w _
  rcases h with ⟨_,G,rfl,hG⟩|⟨_,G,rfl,hG⟩|⟨_,rfl,rfl⟩|⟨_,F,T,y,d,u,T1,rfl,hu,ha,rfl⟩|⟨_,sv,n,cv,T,y,T',z,T1,T2,rfl,ha,hb,rfl⟩|⟨_,T,y,T',z,T1,T2,rfl,ha,hb,rfl⟩
  ·obtain⟨sg,cg,rfl,-⟩:=id hG
   refine zsl fb _ _ sg _ cg w _ ?_;have b1:=AL (.cells #[uZ x.c,.slice sg Ts.length cg,iZ x.p] 173);have hn0:=z1v w (.cells #[uZ x.c,.slice sg Ts.length cg,iZ x.p] 173);refine(zgs fb l s Ts _ _ ((b1.block fb flt).trans hf) (hG.kept (zbj b1)) hz (hs.kept (zbj b1)) ht hl hlo hi).mono ?_;rintro en w1 ⟨sa,na,ca,rfl,s1,δ1,R1⟩;have hn1:=R1.rest _ _ _ _ (by decide) (by decide) hn0;exact⟨sa,na,ca,rfl,hn1,_,_,rfl,s1,δ1,(R1.pre b1).box (Bxg.set w.heap.size 1 _ hn1 (.inr (.inr (.inr (.inl rfl))))) (z1d _) flt⟩
  ·obtain⟨sg,cg,rfl,-⟩:=id hG
   refine zky fb _ _ sg _ cg w _ ?_;have b1:=AL (.cells #[uZ x.c,.slice sg Ts.length cg,iZ x.p] 175);have hn0:=z1v w (.cells #[uZ x.c,.slice sg Ts.length cg,iZ x.p] 175);refine(zgs fb l s Ts _ _ ((b1.block fb flt).trans hf) (hG.kept (zbj b1)) hz (hs.kept (zbj b1)) ht hl hlo hi).mono ?_;rintro en w1 ⟨sa,na,ca,rfl,s1,δ1,R1⟩;have hn1:=R1.rest _ _ _ _ (by decide) (by decide) hn0;exact⟨sa,na,ca,rfl,hn1,_,_,rfl,s1,δ1,(R1.pre b1).box (Bxg.set w.heap.size 1 _ hn1 (.inr (.inr (.inr (.inr rfl))))) (z1d _) flt⟩
  ·refine(znt fb _ w).mono ?_
   rintro en w1 ⟨rfl,rfl⟩;exact⟨_,_,rfl,s,tU,Srd.refl hs hf⟩
  ·obtain⟨Tf,zf,rfl⟩:=hu.iface
   refine zlb fb _ _ Tf T zf y w _ ?_;have b1:=AL (.cells #[uZ x.c,.iface Tf zf,.iface T y,iZ x.p] 179);have hn0:=z1v w (.cells #[uZ x.c,.iface Tf zf,.iface T y,iZ x.p] 179);have hzu:=hz u z1k;have hz1:Tz s T1:=λr hr=>hz r (z1j _ hr)
   simp only[List.length_cons] at hl;refine(zey fb l s u _ d _ ((b1.block fb flt).trans hf) (hu.blw b1) hzu.2.2 (hs.kept (zbj b1)) ht hzu.1 hlo hi).mono ?_;rintro en w1 ⟨Tg,zg,rfl,s1,δ1,R1,_,_⟩;have hn1:=R1.rest _ _ _ _ (by decide) (by decide) hn0;have X1:=Bxg.set w.heap.size 1 (.iface Tg zg) hn1 (.inl rfl);have hn2:=heap_setCell_same w1 w.heap.size 1 _ _ (.iface Tg zg) hn1;have P1:=(R1.pre b1).box X1 (z1d _) flt;have e2:=(R1.eu (ha.kept (zbj b1)) hz1).kept X1.c;refine⟨Tg,zg,rfl,hn1,?_⟩;refine(iha s1 _ _ _ e2 (hz1.step R1.sq) P1.sw P1.fin (z1c R1.sq.tt ht) (by rw[z2a];omega) hlo λq hq=>hi q (R1.sub q hq)).mono ?_;rintro en w2 ⟨T2',z2,rfl,s2,δ2,R2⟩;have hn3:=R2.rest _ _ _ _ (by decide) (by decide) hn2;exact⟨T2',z2,rfl,hn3,_,_,rfl,s2,_,((P1.trans R2 ht).box (Bxg.set w.heap.size 2 (.iface T2' z2) hn3 (.inl rfl)) (z1d _) flt)⟩
  ·refine zub fb _ sv n cv T T' y z w _ ?_
   have b1:=AL (.cells #[uZ x.c,.slice sv n cv,.iface T y,.iface T' z] 183);exact znn iha ihb 2 3 (.inr (.inl rfl)) _ b1 (z1v w _) (ha.kept (zbj b1)) (hb.kept (zbj b1)) hz (hs.kept (zbj b1)) hf ht hl hlo hi _ (λTg zg T2 z2=> .iface 183 (.agg #[uZ x.c,.slice sv n cv,.iface Tg zg,.iface T2 z2])) λTg zg T2 z2 w2 h=>⟨_,_,rfl,h⟩
  ·refine zsb fb _ T T' y z w _ ?_
   have b1:=AL (.cells #[.iface T y,.iface T' z,iZ x.p] 186);exact znn iha ihb 0 1 (.inr (.inr (.inl rfl))) _ b1 (z1v w _) (ha.kept (zbj b1)) (hb.kept (zbj b1)) hz (hs.kept (zbj b1)) hf ht hl hlo hi _ (λTg zg T2 z2=> .iface 186 (.agg #[.iface Tg zg,.iface T2 z2,iZ x.p])) λTg zg T2 z2 w2 h=>⟨_,_,rfl,h⟩
end
end Go.Proofs.YtceadeaodbadlaaGreatDoor
namespace Go.Proofs.YtceadeaodbadlaaGreatDoor
open Go.RowKit
def Clo:Ex->(Nat->Prop)->Prop
 | .nil,_=>True
 | .node t _ x a b,N=>(t=0->N x.c)/\(t=3->Clo a (λc=>c=x.c\/N c))/\(t=4->Clo a N/\Clo b (λc=>c=x.c\/N c))/\(t=5->Clo a N/\Clo b N)
section
variable (m c p:Int) (sg:Option Addr) (ng cg:Nat) (T T':TypeId) (y z:Value) (w:World)
theorem Clo.mono:∀{e:Ex} {N N':Nat->Prop},(∀c,N c->N' c)->Clo e N->Clo e N':=by
 intro e
 induction e with
 |nil=>intro N N' _ _;trivial
 |node t o x a b iha ihb=>
  intro N N' h k;have up:∀c,(c=x.c\/N c)->(c=x.c\/N' c):=λc hc=>hc.imp id (h c)
  exact⟨λe=>h _ (k.1 e),λe=>iha up (k.2.1 e),λe=>⟨iha h (k.2.2.1 e).1,ihb up (k.2.2.1 e).2⟩,λe=>⟨iha h (k.2.2.2 e).1,ihb h (k.2.2.2 e).2⟩⟩
theorem HTy.clo:∀{e:Ex} {E:SEnv} {t:Ty},HTy e E t->Clo e (λc=>E c≠none):=by
 intro e
 induction e with
 |nil=>intro E t h;exact h.elim
 |node k o x a b iha ihb=>
  intro E t h
  have up:∀(S:Ty->Prop) (c:Nat),sset E x.c S c≠none->c=x.c\/E c≠none:=λS c hc=>by
   by_cases e:c=x.c
   ·exact .inl e
   ·right;unfold sset at hc;rwa [if_neg e] at hc
  rcases h with ⟨rfl,S,h1,_⟩|⟨rfl,_⟩|⟨rfl,_⟩|⟨rfl,u,r,_,h1⟩|⟨rfl,S,s0,hs,h1,h2⟩|⟨rfl,u,h1,h2⟩
  ·exact⟨λ_=>by show E x.c≠none;rw[h1];simp,λe=>absurd e (by decide),λe=>absurd e (by decide),λe=>absurd e (by decide)⟩
  ·exact⟨λe=>absurd e (by decide),λe=>absurd e (by decide),λe=>absurd e (by decide),λe=>absurd e (by decide)⟩
  ·exact⟨λe=>absurd e (by decide),λe=>absurd e (by decide),λe=>absurd e (by decide),λe=>absurd e (by decide)⟩
  ·exact⟨λe=>absurd e (by decide),λ_=>(iha h1).mono (up _),λe=>absurd e (by decide),λe=>absurd e (by decide)⟩
  ·exact⟨λe=>absurd e (by decide),λe=>absurd e (by decide),λ_=>⟨iha (h1 s0 hs),(ihb h2).mono (up _)⟩,λe=>absurd e (by decide)⟩
  ·exact⟨λe=>absurd e (by decide),λe=>absurd e (by decide),λe=>absurd e (by decide),λ_=>⟨iha h1,ihb h2⟩⟩
def Nb (m:Nat) (N:Nat->Prop):Prop:=m<67108864/\∀c,97<=c->c<123->N c->m.testBit (c-97)=true
theorem Nb.set {m c:Nat} {N:Nat->Prop} (h:Nb m N) (hc:97<=c/\c<123):Nb (m|||2 ^ (c-97)) (λd=>d=c\/N d):=by
 refine⟨Nat.or_lt_two_pow (n:=26) h.1 (Nat.pow_lt_pow_right (by decide) (by omega)),λd h1 h2 hd=>?_⟩;rw[Nat.testBit_or];rcases hd with rfl|hd
 ·rw[Nat.testBit_two_pow_self];simp
 ·rw[h.2 d h1 h2 hd];rfl
theorem nhas_any (m k:Nat) (w:World) (hm:m<67108864) (hk:k<26) (hb:m.testBit k=true):
 CZ 201 #[.int .u32 (m:Int),.int .u8 ((k:Int)+97)] w λe w'=>e=.returned (.bool true)/\w'=w:=by
 have hw2:IntKind.u8.wrap ((k:Int)+97-97)=(k:Int):=by rw[IntKind.wrap_u8];omega
 have hw:IntKind.u8.wrap (k:Int)=(k:Int):=by rw[IntKind.wrap_u8];omega
 have A1:(m:Int)/2 ^ k=((m/2 ^ k:Nat):Int):=by simp
 have hb2:m/2 ^ k % 2=1:=by rw[Nat.testBit_eq_decide_div_mod_eq] at hb;simpa using hb
 have A2:bits .and .u32 ((m/2 ^ k:Nat):Int) 1=1:=by
  have h:=u32_and_nat (m/2 ^ k) 1 (Nat.lt_of_le_of_lt (Nat.div_le_self _ _) (by omega)) (by decide);rw[Nat.and_one_is_mod,hb2] at h;exact h
 generalize m/2 ^ k=q at *
 go_enter Tryz.func201,Tryz.ntmps201;go_wp21;go_ret;exact⟨rfl,rfl⟩
theorem zrt (m k:Nat) (w:World) (hm:m<67108864) (hk:k<26):
 CZ 202 #[.int .u32 (m:Int),.int .u8 ((k:Int)+97)] w λe w'=>e=.returned (.int .u32 ((m|||2 ^ k:Nat):Int))/\w'=w:=by
 have hw2:IntKind.u8.wrap ((k:Int)+97-97)=(k:Int):=by rw[IntKind.wrap_u8];omega
 have hw:IntKind.u8.wrap (k:Int)=(k:Int):=by rw[IntKind.wrap_u8];omega
 have hp:2 ^ k<67108864:=z1e (Nat.pow_lt_pow_right (by decide) hk) (by decide)
 have A1:IntKind.u32.wrap (2 ^ k)=((2 ^ k:Nat):Int):=by
  have e:(2:Int) ^ k=((2 ^ k:Nat):Int):=by simp
  rw[e,IntKind.wrap_u32];generalize 2 ^ k=z at *
  omega
 have A2:bits .or .u32 (m:Int) ((2 ^ k:Nat):Int)=((m|||2 ^ k:Nat):Int):=u32_or_nat m (2 ^ k) (by omega) (by omega);generalize m|||2 ^ k=nv at *
 generalize 2 ^ k=z at *
 go_enter Tryz.func202,Tryz.ntmps202;go_wp21;go_ret;exact⟨rfl,rfl⟩
theorem nf_Name (Q:Ending->World->Prop) (H:CZ 201 #[.int .u32 m,.int .u8 c] (w.alloc (.cells #[.int .u8 c,.slice sg ng cg,.int .i64 p] 173)) λen w1=>en=.returned (.bool true)/\Hid (Q (.returned .nilIface) w1)):
 CZ 168 #[.int .u32 m,.iface 173 (.agg #[.int .u8 c,.slice sg ng cg,.int .i64 p])] w Q:=by
 have t0:=zgt (.agg #[.int .u8 c,.slice sg ng cg,.int .i64 p]);have hn:=z1v w (.cells #[.int .u8 c,.slice sg ng cg,.int .i64 p] 173);have d0:(w.alloc (.cells #[.int .u8 c,.slice sg ng cg,.int .i64 p] 173)).cell? ⟨w.heap.size,0,none⟩=some (.int .u8 c):=cbl hn;clear hn;generalize hW:(w.alloc (.cells #[.int .u8 c,.slice sg ng cg,.int .i64 p] 173))=W at *
 go_enter Tryz.func168,Tryz.ntmps168
 go_wp2_with fail
 refine H.mono ?_;rintro en w1 ⟨rfl,HQ⟩;clear H d0 hW
 go_wp2_with fail
 exact HQ.out
theorem zus (Q:Ending->World->Prop) (H:CZ 202 #[.int .u32 m,.int .u8 c] (w.alloc (.cells #[.int .u8 c,.nilIface,.iface T y,.int .i64 p] 179)).drew λen w1=>∃m',en=.returned (.int .u32 m')/\(w1.cell? ⟨w.heap.size,0,none⟩=some (.int .u8 c)/\w1.cell? ⟨w.heap.size,2,none⟩=some (.iface T y))/\
  CZ 168 #[.int .u32 m',.iface T y] w1 λen w2=>en=.returned .nilIface/\(w2.cell? ⟨w.heap.size,0,none⟩=some (.int .u8 c)/\w2.cell? ⟨w.heap.size,2,none⟩=some (.iface T y))/\Hid (Q (.returned .nilIface) w2)):
 CZ 168 #[.int .u32 m,.iface 179 (.agg #[.int .u8 c,.nilIface,.iface T y,.int .i64 p])] w Q:=by
 have t0:=zej (.agg #[.int .u8 c,.nilIface,.iface T y,.int .i64 p]);have t1:=zco (.agg #[.int .u8 c,.nilIface,.iface T y,.int .i64 p]);have hn:=z1v w (.cells #[.int .u8 c,.nilIface,.iface T y,.int .i64 p] 179);have d0:(w.alloc (.cells #[.int .u8 c,.nilIface,.iface T y,.int .i64 p] 179)).cell? ⟨w.heap.size,0,none⟩=some (.int .u8 c):=cbl hn;have d2:(w.alloc (.cells #[.int .u8 c,.nilIface,.iface T y,.int .i64 p] 179)).cell? ⟨w.heap.size,2,none⟩=some (.iface T y):=cbl hn;clear hn;generalize hW:(w.alloc (.cells #[.int .u8 c,.nilIface,.iface T y,.int .i64 p] 179))=W at *
 go_enter Tryz.func168,Tryz.ntmps168
 go_wp2_with fail
 refine wp_region_held_drew (S:=(λwq=>cZ wq w.heap.size 0 (.int .u8 c)/\cZ wq w.heap.size 2 (.iface T y))) (by kernel_rfl) (⟨d0,d2⟩) (λhS=>?_);refine tkS 0 (.int .u32 m) hS ?_;refine tkS 1 (pZ w.heap.size) hS ?_;refine tkL 2 (.int .u8 c) hS ?_;refine tkS 4 (.pointer (some ⟨w.heap.size,2,none⟩)) hS ?_;refine tkL 5 (.iface T y) hS ?_;refine rd1 3 (λKK hK=>?_)
 (try simp only[List.getElem_toArray,List.getElem_cons_succ,List.getElem_cons_zero])
 go_simp;go_at_call 202;refine(H).mono ?_;rintro en w1 ⟨m',rfl,s1,H2⟩
 (try dsimp only)
 refine hK.out _ _ s1 (λhS=>nrm ?_);refine rd1 6 (λKK hK=>?_)
 (try simp only[List.getElem_toArray,List.getElem_cons_succ,List.getElem_cons_zero])
 go_simp;go_at_call 168;refine(H2).mono ?_;rintro en w2 ⟨rfl,s2,HQ⟩
 (try dsimp only)
 refine hK.out _ _ s2 (λhS=>nrm ?_);refine tkS 7 (.nilIface) hS ?_;refine wpAnyH_done (by kernel_rfl) ?_ _
 go_wp2_with fail
 exact HQ.out
theorem nf_Let (m:Int) (c:Int) (sv:Option Addr) (nv cv:Nat) (T T':TypeId) (y z:Value) (w:World) (Q:Ending->World->Prop) (H:CZ 168 #[.int .u32 m,.iface T y] (w.alloc (.cells #[.int .u8 c,.slice sv nv cv,.iface T y,.iface T' z] 183)) λen w1=>en=.returned .nilIface/\(w1.cell? ⟨w.heap.size,0,none⟩=some (.int .u8 c)/\w1.cell? ⟨w.heap.size,3,none⟩=some (.iface T' z))/\
  CZ 202 #[.int .u32 m,.int .u8 c] w1.drew λen w2=>∃m',en=.returned (.int .u32 m')/\(w2.cell? ⟨w.heap.size,0,none⟩=some (.int .u8 c)/\w2.cell? ⟨w.heap.size,3,none⟩=some (.iface T' z))/\
  CZ 168 #[.int .u32 m',.iface T' z] w2 λen w3=>en=.returned .nilIface/\(w3.cell? ⟨w.heap.size,0,none⟩=some (.int .u8 c)/\w3.cell? ⟨w.heap.size,3,none⟩=some (.iface T' z))/\Hid (Q (.returned .nilIface) w3)):
 CZ 168 #[.int .u32 m,.iface 183 (.agg #[.int .u8 c,.slice sv nv cv,.iface T y,.iface T' z])] w Q:=by
 have t0:=zig (.agg #[.int .u8 c,.slice sv nv cv,.iface T y,.iface T' z]);have t1:=zex (.agg #[.int .u8 c,.slice sv nv cv,.iface T y,.iface T' z]);have t2:=zjz (.agg #[.int .u8 c,.slice sv nv cv,.iface T y,.iface T' z]);have hn:=z1v w (.cells #[.int .u8 c,.slice sv nv cv,.iface T y,.iface T' z] 183);have d0:(w.alloc (.cells #[.int .u8 c,.slice sv nv cv,.iface T y,.iface T' z] 183)).cell? ⟨w.heap.size,0,none⟩=some (.int .u8 c):=cbl hn;have d2:(w.alloc (.cells #[.int .u8 c,.slice sv nv cv,.iface T y,.iface T' z] 183)).cell? ⟨w.heap.size,2,none⟩=some (.iface T y):=cbl hn;have d3:(w.alloc (.cells #[.int .u8 c,.slice sv nv cv,.iface T y,.iface T' z] 183)).cell? ⟨w.heap.size,3,none⟩=some (.iface T' z):=cbl hn;clear hn;generalize hW:(w.alloc (.cells #[.int .u8 c,.slice sv nv cv,.iface T y,.iface T' z] 183))=W at *
 go_enter Tryz.func168,Tryz.ntmps168
 go_wp2_with fail
 refine H.mono ?_;rintro en w1 ⟨rfl,s1,H1⟩;clear H d0 d2 d3 hW
 go_wp2_with fail
 refine wp_region_held_drew (S:=(λwq=>cZ wq w.heap.size 0 (.int .u8 c)/\cZ wq w.heap.size 3 (.iface T' z))) (by kernel_rfl) (s1) (λhS=>?_);refine tkS 0 (.int .u32 m) hS ?_;refine tkS 1 (pZ w.heap.size) hS ?_;refine tkL 2 (.int .u8 c) hS ?_;refine tkS 4 (.pointer (some ⟨w.heap.size,3,none⟩)) hS ?_;refine tkL 5 (.iface T' z) hS ?_;refine rd1 3 (λKK hK=>?_)
 (try simp only[List.getElem_toArray,List.getElem_cons_succ,List.getElem_cons_zero])
 go_simp;go_at_call 202;refine(H1).mono ?_;rintro en w2 ⟨m',rfl,s2,H2⟩
 (try dsimp only)
 refine hK.out _ _ s2 (λhS=>nrm ?_);refine rd1 6 (λKK hK=>?_)
 (try simp only[List.getElem_toArray,List.getElem_cons_succ,List.getElem_cons_zero])
 go_simp;go_at_call 168;refine(H2).mono ?_;rintro en w3 ⟨rfl,s3,HQ⟩
 (try dsimp only)
 refine hK.out _ _ s3 (λhS=>nrm ?_);refine tkS 7 (.nilIface) hS ?_;refine wpAnyH_done (by kernel_rfl) ?_ _
 go_wp2_with fail
 exact HQ.out
theorem nf_Call (Q:Ending->World->Prop) (H:CZ 168 #[.int .u32 m,.iface T y] (w.alloc (.cells #[.iface T y,.iface T' z,.int .i64 p] 186)) λen w1=>en=.returned .nilIface/\w1.cell? ⟨w.heap.size,1,none⟩=some (.iface T' z)/\
  CZ 168 #[.int .u32 m,.iface T' z] w1 λen w2=>en=.returned .nilIface/\Hid (Q (.returned .nilIface) w2)):
 CZ 168 #[.int .u32 m,.iface 186 (.agg #[.iface T y,.iface T' z,.int .i64 p])] w Q:=by
 have t0:=zgy (.agg #[.iface T y,.iface T' z,.int .i64 p]);have t1:=zee (.agg #[.iface T y,.iface T' z,.int .i64 p]);have t2:=zim (.agg #[.iface T y,.iface T' z,.int .i64 p]);have t3:=zhm (.agg #[.iface T y,.iface T' z,.int .i64 p]);have hn:=z1v w (.cells #[.iface T y,.iface T' z,.int .i64 p] 186);have d0:(w.alloc (.cells #[.iface T y,.iface T' z,.int .i64 p] 186)).cell? ⟨w.heap.size,0,none⟩=some (.iface T y):=cbl hn;have d1:(w.alloc (.cells #[.iface T y,.iface T' z,.int .i64 p] 186)).cell? ⟨w.heap.size,1,none⟩=some (.iface T' z):=cbl hn;clear hn;generalize hW:(w.alloc (.cells #[.iface T y,.iface T' z,.int .i64 p] 186))=W at *
 go_enter Tryz.func168,Tryz.ntmps168
 go_wp2_with fail
 refine H.mono ?_;rintro en w1 ⟨rfl,s1,H1⟩;clear H d0 d1 hW
 go_wp2_with fail
 refine H1.mono ?_;rintro en w2 ⟨rfl,HQ⟩;clear H1 s1
 go_wp2_with fail
 exact HQ.out
theorem zwn (Q:Ending->World->Prop) (H:Hid (Q (.returned .nilIface) w)):
 CZ 168 #[.int .u32 m,.iface 175 (.agg #[.int .u8 c,.slice sg ng cg,.int .i64 p])] w Q:=by
 have t0:=zed (.agg #[.int .u8 c,.slice sg ng cg,.int .i64 p]);have t1:=zhs (.agg #[.int .u8 c,.slice sg ng cg,.int .i64 p]);have t2:=zlt (.agg #[.int .u8 c,.slice sg ng cg,.int .i64 p]);have t3:=zkt (.agg #[.int .u8 c,.slice sg ng cg,.int .i64 p]);go_enter Tryz.func168,Tryz.ntmps168
 go_wp2_with fail
 exact H.out
theorem nf_Literal (Q:Ending->World->Prop) (H:Hid (Q (.returned .nilIface) w)):
 CZ 168 #[.int .u32 m,.iface 177 (.agg #[.int .u8 c])] w Q:=by
 have t0:=zfa (.agg #[.int .u8 c]);have t1:=zcw (.agg #[.int .u8 c]);have t2:=zfn (.agg #[.int .u8 c]);have t3:=zev (.agg #[.int .u8 c]);go_enter Tryz.func168,Tryz.ntmps168
 go_wp2_with fail
 exact H.out
theorem u8_of {c:Nat} (hc:97<=c/\c<123):∃k,k<26/\c-97=k/\(c:Int)=(k:Int)+97:=⟨c-97,by omega,rfl,by omega⟩
theorem zsg:∀(x:Ex) {ty:Bool} {m0:Nat},EOk ty m0 x->Bg x->∀(N:Nat->Prop) (m:Nat) (v:Value) (w:World),Clo x N->Nb m N->Ev w x v->
 CZ 168 #[.int .u32 (m:Int),v] w λe w'=>e=.returned .nilIface/\Below w.heap.size w w':=by
 intro x
 induction x with
 |nil=>intro ty m0 h;exact h.elim
 |node k o x a b iha ihb=>
  intro ty m0 ho hg N m v w hC hN hv;have AL:∀ob:Obj,Below w.heap.size w (w.alloc ob):=λob=>bal w _
  have EV:∀{w':World} {e:Ex} {v:Value},Below w.heap.size w w'->Ev w e v->Ev w' e v:=λhb he=>(Wf.blw (lo:=0) (L:=0) (s:=⟨[],λ_=>0,0⟩) hb).ev he
  have lb:zaq x.c=true->97<=x.c/\x.c<123:=λhc=>by simp[zaq] at hc;omega
  rcases ho with ⟨rfl,hc,_,_⟩|⟨rfl,hc,_,_⟩|⟨rfl,hc,_⟩|⟨rfl,hc,_,_,ha,_⟩|⟨rfl,hc,_,ha,hb⟩|⟨rfl,ha,hb⟩
  ·rcases hv with ⟨_,G,rfl,hG⟩|⟨e0,_⟩|⟨e0,_⟩|⟨e0,_⟩|⟨e0,_⟩|⟨e0,_⟩<;>try (exact absurd e0 (by decide))
   obtain⟨sg,ng,cg,rfl⟩:=hG.slice;have hb:=hN.2 x.c (lb hc).1 (lb hc).2 (hC.1 rfl);obtain⟨k,hk,e1,e2⟩:=u8_of (lb hc);rw[e1] at hb;refine nf_Name _ _ _ sg ng cg w _ ?_;rw[e2];refine(nhas_any m k _ hN.1 hk hb).mono ?_;rintro en w1 ⟨rfl,rfl⟩;exact⟨rfl,rfl,AL _⟩
  ·rcases hv with ⟨e0,_⟩|⟨_,G,rfl,hG⟩|⟨e0,_⟩|⟨e0,_⟩|⟨e0,_⟩|⟨e0,_⟩<;>try (exact absurd e0 (by decide))
   obtain⟨sg,ng,cg,rfl⟩:=hG.slice;exact zwn _ _ _ sg ng cg w _ ⟨rfl,Below.refl _ _⟩
  ·rcases hv with ⟨e0,_⟩|⟨e0,_⟩|⟨_,rfl⟩|⟨e0,_⟩|⟨e0,_⟩|⟨e0,_⟩<;>try (exact absurd e0 (by decide))
   exact nf_Literal _ _ w _ ⟨rfl,Below.refl _ _⟩
  ·rcases hv with ⟨e0,_⟩|⟨e0,_⟩|⟨e0,_⟩|⟨_,F,T,y,rfl,hF,hva⟩|⟨e0,_⟩|⟨e0,_⟩<;>try (exact absurd e0 (by decide))
   rcases hF with ⟨_,rfl⟩|⟨u,e1,_⟩
   ·have hn:=z1v w (.cells #[.int .u8 (x.c:Int),.nilIface,.iface T y,.int .i64 (x.p:Int)] 179)
    have hb1:=AL (.cells #[.int .u8 (x.c:Int),.nilIface,.iface T y,.int .i64 (x.p:Int)] 179);have hs:=hN.set (lb hc);obtain⟨k,hk,e1,e2⟩:=u8_of (lb hc);rw[e1] at hs;refine zus _ _ _ T y w _ ?_;generalize w.alloc (.cells #[.int .u8 (x.c:Int),.nilIface,.iface T y,.int .i64 (x.p:Int)] 179)=W at *
    have cb:∀W',Below W.heap.size W W'->W'.cell? ⟨w.heap.size,0,none⟩=some (.int .u8 (x.c:Int))/\W'.cell? ⟨w.heap.size,2,none⟩=some (.iface T y):=λW' h=>by
     have:=(h.block _ (z1a.1 hn).1).trans hn;exact⟨by rw[z1f this];rfl,by rw[z1f this];rfl⟩
    have bd:Below W.heap.size W W.drew:=(Below.refl _ W).drew;have hcd:=cb _ bd;rw[e2] at hcd cb ⊢;refine(zrt m k _ hN.1 hk).mono ?_;rintro en w1 ⟨rfl,rfl⟩;refine⟨_,rfl,hcd,?_⟩;refine(iha ha hg.2.1 _ _ _ _ (hC.2.1 rfl) hs (EV (hb1.trans (bd.mono hb1.size)) hva)).mono ?_;rintro en w2 ⟨rfl,hb2⟩;have h2:=bd.trans hb2;exact⟨rfl,cb _ h2,rfl,hb1.trans (h2.mono hb1.size)⟩
   ·rw[hg.1 rfl] at e1;cases e1
  ·rcases hv with ⟨e0,_⟩|⟨e0,_⟩|⟨e0,_⟩|⟨e0,_⟩|⟨_,V,T,y,T',z,rfl,hV,hva,hvb⟩|⟨e0,_⟩<;>try (exact absurd e0 (by decide))
   obtain⟨sv,nv,cv,rfl⟩:=hV.slice;have hn:=z1v w (.cells #[.int .u8 (x.c:Int),.slice sv nv cv,.iface T y,.iface T' z] 183);have hb1:=AL (.cells #[.int .u8 (x.c:Int),.slice sv nv cv,.iface T y,.iface T' z] 183);have hs:=hN.set (lb hc);obtain⟨k,hk,e1,e2⟩:=u8_of (lb hc);rw[e1] at hs;refine nf_Let _ _ sv nv cv T T' y z w _ ?_;generalize w.alloc (.cells #[.int .u8 (x.c:Int),.slice sv nv cv,.iface T y,.iface T' z] 183)=W at *
   have cb:∀W',Below W.heap.size W W'->W'.cell? ⟨w.heap.size,0,none⟩=some (.int .u8 (x.c:Int))/\W'.cell? ⟨w.heap.size,3,none⟩=some (.iface T' z):=λW' h=>by
    have:=(h.block _ (z1a.1 hn).1).trans hn;exact⟨by rw[z1f this];rfl,by rw[z1f this];rfl⟩
   rw[e2] at cb ⊢;refine(iha ha hg.2.1 _ _ _ _ (hC.2.2.1 rfl).1 hN (EV hb1 hva)).mono ?_;rintro en w1 ⟨rfl,hb2⟩;have bd:=hb2.drew;refine⟨rfl,cb _ hb2,?_⟩;refine(zrt m k _ hN.1 hk).mono ?_;rintro en w2 ⟨rfl,rfl⟩;refine⟨_,rfl,cb _ bd,?_⟩;refine(ihb hb hg.2.2 _ _ _ _ (hC.2.2.1 rfl).2 hs (EV (hb1.trans (bd.mono hb1.size)) hvb)).mono ?_;rintro en w3 ⟨rfl,hb3⟩;have h3:=bd.trans (hb3.mono bd.size);exact⟨rfl,cb _ h3,rfl,hb1.trans (h3.mono hb1.size)⟩
  ·rcases hv with ⟨e0,_⟩|⟨e0,_⟩|⟨e0,_⟩|⟨e0,_⟩|⟨e0,_⟩|⟨_,T,y,T',z,rfl,hva,hvb⟩<;>try (exact absurd e0 (by decide))
   have hn:=z1v w (.cells #[.iface T y,.iface T' z,.int .i64 (x.p:Int)] 186);have hb1:=AL (.cells #[.iface T y,.iface T' z,.int .i64 (x.p:Int)] 186);refine nf_Call _ _ T T' y z w _ ?_;generalize w.alloc (.cells #[.iface T y,.iface T' z,.int .i64 (x.p:Int)] 186)=W at *
   refine(iha ha hg.2.1 _ _ _ _ (hC.2.2.2 rfl).1 hN (EV hb1 hva)).mono ?_;rintro en w1 ⟨rfl,hb2⟩;have hn1:=(hb2.block _ (z1a.1 hn).1).trans hn;refine⟨rfl,by rw[z1f hn1];rfl,?_⟩;refine(ihb hb hg.2.2 _ _ _ _ (hC.2.2.2 rfl).2 hN (EV (hb1.trans (hb2.mono hb1.size)) hvb)).mono ?_;rintro en w2 ⟨rfl,hb3⟩;exact⟨rfl,rfl,hb1.trans ((hb2.trans (hb3.mono hb2.size)).mono hb1.size)⟩
theorem zrb (x:Ex) {ty:Bool} {m0:Nat} (ho:EOk ty m0 x) (hg:Bg x) (v:Value) (w:World) (hC:Clo x (λ_=>False)) (hv:Ev w x v):
 CZ 135 #[v] w λe w'=>e=.returned .nilIface/\Below w.heap.size w w':=by
 have N:=zsg x ho hg (λ_=>False) 0 v w hC ⟨by decide,λc _ _ h=>h.elim⟩ hv;obtain⟨T,z,rfl⟩:=hv.iface;rw[show ((0:Nat):Int)=0 from rfl] at N;go_enter Tryz.func135,Tryz.ntmps135;go_wp21;refine N.mono ?_;rintro e w1 ⟨rfl,hb⟩;have HB:=hid hb;go_wp21;go_ret;exact⟨rfl,HB⟩
end
end Go.Proofs.YtceadeaodbadlaaGreatDoor
namespace Go.Proofs.YtceadeaodbadlaaGreatDoor
open Go.RowKit
variable {lo : Nat}
def Vr (ρ:Nat->Ty) (τ:Ty):Prop:=(∀q,inU q τ->∃i,i<260/\ρ q=tV (zac i))/\∀q r,inU q τ->inU r τ->ρ q=ρ r->q=r
abbrev s00:Sta:=⟨[],λ_=>0,0⟩
abbrev noE:Env:=λ_=>none
def TyQ (e:Ex) (w:World) (en:Ending) (w':World):Prop:=
 ∃Te ze T z s' δ τ ρ,en=.returned (.tuple #[.iface Te ze,.iface T z,.nilIface])/\Fnd e 0 s00 noE s' δ τ/\Kc w' (usub ρ τ) (.iface T z)/\Vr ρ τ/\Below w.heap.size w w'
theorem typed_walk (v:Value) (T0:TypeId) (z0:Value) (hv:v=.iface T0 z0) (w:World) (Q:Ending->World->Prop)
 (NF:CZ 135 #[v] w λen w1=>en=.returned .nilIface/\
  CZ 136 #[pZ w1.heap.size,v,pZ (w1.heap.size+1)] ((w1.alloc (finO 0 0)).alloc zAr) λen w2=>∃Te ze T z,en=.returned (.tuple #[.iface Te ze,.iface T z,.nilIface])/\
  CZ 137 #[pZ w1.heap.size,.iface Te ze] w2 λen w3=>∃Te2 ze2,en=.returned (.iface Te2 ze2)/\
  CZ 138 #[pZ w1.heap.size,.iface T z] w3 λen w4=>∃T2 z2,en=.returned (.iface T2 z2)/\Hid (Q (.returned (.tuple #[.iface Te2 ze2,.iface T2 z2,.nilIface])) w4)):
 CZ 96 #[v] w Q:=by
 subst hv;go_enter Tryz.func96,Tryz.ntmps96;go_wp21;refine NF.mono ?_;rintro en w1 ⟨rfl,FD⟩;have z1:(w1.alloc (finO 0 0)).heap.size=w1.heap.size+1:=by simp
 go_wp21;refine FD.mono ?_;rintro en w2 ⟨Te,ze,T,z,rfl,ST⟩;go_wp21;refine ST.mono ?_;rintro en w3 ⟨Te2,ze2,rfl,SY⟩;go_wp21;refine SY.mono ?_;rintro en w4 ⟨T2,z2,rfl,HQ⟩;go_wp21;go_ret3;exact HQ
theorem Typed_any (tx:Nat->Addr) (M m:Nat) (hM:M<=1000000) (e:Ex) (v:Value) (w:World) (h10:10<=w.heap.size) (gl:Gl tx w) (tb:Tb w) (hv:Ev w e v) {ty:Bool} (ho:EOk ty m e) (hg:Bg e) (hC:Clo e (λ_=>False))
 (hB:Bnd M e 0 s00 noE) (hcb:Cb e 0 s00 noE) (hnf:¬Fl e 0 s00 noE) (hx:exn e<=1000000) (hend:∀s' δ τ Ts,FndT e 0 s00 noE s' δ τ Ts->tot s'<=260/\sz τ<=1000000/\Ts.length<=1000000/\∀u∈Ts,sz u<=1000000):
 CZ 96 #[v] w (TyQ e w):=by
 obtain⟨T0,z0,e0⟩:=hv.iface;have lw:Lw w.heap.size w:=⟨h10,z1d _⟩
 refine typed_walk v T0 z0 e0 w _ ?_;refine(zrb e ho hg v w hC hv).mono ?_;rintro en w1 ⟨rfl,hb1⟩;refine⟨rfl,?_⟩;have b2:Below w1.heap.size w1 (w1.alloc (finO 0 0)):=bal w1 _;have hf2:=z1v w1 (finO 0 0);have z1:(w1.alloc (finO 0 0)).heap.size=w1.heap.size+1:=by simp
 have hau:=Au.new (lo:=w.heap.size) (w1.alloc (finO 0 0));rw[z1] at hau;have b3:Below w1.heap.size w1 ((w1.alloc (finO 0 0)).alloc zAr):=b2.alloc b2.size _;have hf3:((w1.alloc (finO 0 0)).alloc zAr).heap[w1.heap.size]? =some (finO 0 0):=(Lib.alloc_old _ _ _ (by omega)).trans hf2;generalize (w1.alloc (finO 0 0)).alloc zAr=W3 at *
 have b03:Below w.heap.size w W3:=hb1.trans (b3.mono hb1.size);have W03:Wf w.heap.size 0 s00 tU w W3:=Wf.blw b03;have F:Fp w.heap.size tx M w1.heap.size 0 s00 noE e (w1.heap.size+1) W3:=⟨W03.lw lw,W03.gl lw gl,W03.tb lw tb,hau,λq hq=>absurd hq (by simp),hf3,λc sc h=>absurd h (by simp),hB,hcb,hnf,by omega,λq hq=>absurd hq (by simp),hb1.size,b03.size⟩
 refine(ifind_any (lo:=w.heap.size) tx M w1.heap.size m ty hM e ho hg 0 s00 noE _ v W3 F (W03.ev hv)).mono ?_;rintro en w4 ⟨Te,ze,T,z,c,s',δ,τ,Ts,rfl,hF,hW,hsw,hfi,hk,he,hhi⟩;obtain⟨t1,t2,t3,t4⟩:=hend _ _ _ _ hF;obtain⟨i1,i2⟩:=zat _ _ _ _ _ _ _ hF.fnd (λc sc h=>by cases h);have hz:Tz s' Ts:=λu hu=>⟨t4 u hu,he.trim u hu,λq hq=>hF.un (λc sc h=>by cases h) u hu q hq⟩
 refine⟨Te,ze,T,z,rfl,?_⟩;refine(zue (lo:=w.heap.size) w1.heap.size 0 e s' _ Ts w4 he hz hsw hfi t1 t3 hb1.size hhi).mono ?_;rintro en w5 ⟨Te2,ze2,rfl,s2,δ2,R2⟩;refine⟨Te2,ze2,rfl,?_⟩;have hA:∀q,inU q τ->q∈s'.A:=λq hq=>(i2.un q hq).1
 have hk2:=R2.ku _ _ _ hk hA;have hA2:∀q,inU q (usub δ2 τ)->q∈s2.A:=λq hq=>by obtain⟨p,p1,p2⟩:=zak.1 hq;exact R2.sq.D p (hA p p1) q p2
 refine(zey (lo:=w.heap.size) w1.heap.size 0 s2 (usub δ2 τ) _ c w5 R2.fin hk2 hA2 R2.sw (z1c R2.sq.tt t1) (by rw[zez (λq=>(R2.sq.one q).1) _ i2.tr];exact t2) hb1.size λq hq=>hhi q (R2.sub q hq)).mono ?_;rintro en w6 ⟨T2,z2,rfl,s3,δ3,R3,hK,hvar⟩;rw[zam] at hK;refine⟨T2,z2,rfl,_,_,_,_,s',δ,τ,λq=>usub δ3 (δ2 q),rfl,hF.fnd,hK,⟨λq hq=>?_,λq r hq hr e=>(R2.sq.trans R3.sq t1).inj q (hA q hq) r (hA r hr) e⟩,⟨R3.os.trans (R2.os.trans (hW.os.trans b03.os)),R3.tape.trans (R2.tape.trans (hW.tape.trans b03.tape)),R3.output.trans (R2.output.trans (hW.output.trans b03.output)),z1c b03.size (z1c hW.size (z1c R2.size R3.size)),λq hq=>?_⟩⟩
 rotate_left
 ·have q3:=z1e hq b03.size
  have q4:=z1e q3 hW.size;have q5:=z1e q4 R2.size;exact(R3.low q hq q5).trans ((R2.low q hq q4).trans ((hW.low q hq q3).trans (b03.block q hq)))
 rcases R2.sq.mem q (hA q hq) with ⟨e,hm⟩|⟨i,j1,j2,e⟩
 ·obtain⟨i,hi,e'⟩:=hvar q (zak.2 ⟨q,hq,by rw[e];simp⟩)
  exact⟨i,hi,by show usub δ3 (δ2 q)=_;rw[e,usub_U];exact e'⟩
 ·have:s2.tk<=260:=by have:=R2.sq.tt;unfold tot at *;omega
  exact⟨i,by omega,by show usub δ3 (δ2 q)=_;rw[e];simp⟩
end Go.Proofs.YtceadeaodbadlaaGreatDoor
namespace Go.Proofs.YtceadeaodbadlaaGreatDoor
open Go.RowKit
section
variable {n:List Nat}
theorem Wt.names {m:Option Nat} {B wb k1 k2:Nat} {l:List UInt8} {w:World} {sp:List Spn} (h:Wt m B wb k1 k2 n l sp w):n.length<=260:=zno 260 n h.nd h.rg
theorem idxOf_lt {o:Nat} (h:o∈n):zbb o n<n.length:=(z1b.1 (zhp n o h).1).1
theorem zso {k:Nat} (h:k<260):∃c1 c2,zac k/10=c1/\zac k % 10=c2/\zbq (zac k)=(if c2=0 then [u8 c1] else [u8 c1,u8 (48+c2)])/\c1<256/\c2<10:=
 ⟨_,_,rfl,rfl,rfl,by unfold zac;omega,by omega⟩
theorem var_old (m:Option Nat) (B wb k1 k2:Nat) (n:List Nat) (l:List UInt8) (sp:List Spn) (w:World) (h:Wt m B wb k1 k2 n l sp w) (o:Nat) (ho:o∈n) (hl:l.length+2<=140737488355328) (hB:B<=w.heap.size):
 CZ 163 #[pZ wb,kv o] w λe w'=>e=.returned (.tuple #[])/\Wt m B wb k1 k2 n (l++zbq (zac (zbb o n))) sp w'/\KW m B wb k1 k2 w w':=by
 have hmg:∀k,w.heap.size<=k->m≠some k:=λk hk e=>by have:=(h.wi.bu _ e).1.le.2;omega
 have hkk:=z1e (idxOf_lt ho) h.names;have hlt:=h.wi.lt;have h1:=h.alloc hB (.cells #[.int .u8 ((o/10:Nat):Int),.int .u8 ((o % 10:Nat):Int)] 263);have hs1:B<=(w.alloc (.cells #[.int .u8 ((o/10:Nat):Int),.int .u8 ((o % 10:Nat):Int)] 263)).heap.size:=by simp;omega
 have LF:=λ(wq:World) (hq:WNm k1 n wq)=>name_some hq ho
 generalize zbb o n=kk at *
 obtain⟨c1,c2,e1,e2,hv,b1,b2⟩:=zso hkk;have HV:=hid hv;unfold kv at LF;rw[e1,e2] at LF;have L1:=LF (w.alloc (.cells #[.int .u8 ((o/10:Nat):Int),.int .u8 ((o % 10:Nat):Int)] 263)).drew h1.nm;have f4:=λob=>LF ((w.alloc (.cells #[.int .u8 ((o/10:Nat):Int),.int .u8 ((o % 10:Nat):Int)] 263)).drew.alloc ob) (h1.alloc hs1 ob).nm
 have d0:(w.alloc (.cells #[.int .u8 ((o/10:Nat):Int),.int .u8 ((o % 10:Nat):Int)] 263)).cell? ⟨w.heap.size,0,none⟩=some (.int .u8 ((o/10:Nat):Int)):=by simp
 have d1:(w.alloc (.cells #[.int .u8 ((o/10:Nat):Int),.int .u8 ((o % 10:Nat):Int)] 263)).cell? ⟨w.heap.size,1,none⟩=some (.int .u8 ((o % 10:Nat):Int)):=by simp
 have c2':(w.alloc (.cells #[.int .u8 ((o/10:Nat):Int),.int .u8 ((o % 10:Nat):Int)] 263)).cell? ⟨wb,2,none⟩=some (.map (some k1)):=by rw[z1f h1.wi.blk];rfl
 have f1:∀ob,((w.alloc (.cells #[.int .u8 ((o/10:Nat):Int),.int .u8 ((o % 10:Nat):Int)] 263)).drew.alloc ob).cell? ⟨wb,2,none⟩=some (.map (some k1)):=λob=>by rw[z1o _ _ _ (by show wb<_;exact h1.wi.lt)];exact c2'
 have f2:∀ob,((w.alloc (.cells #[.int .u8 ((o/10:Nat):Int),.int .u8 ((o % 10:Nat):Int)] 263)).drew.alloc ob).cell? ⟨w.heap.size,0,none⟩=some (.int .u8 ((o/10:Nat):Int)):=λob=>by rw[z1o _ _ _ (by show w.heap.size<_;simp)];exact d0
 have f3:∀ob,((w.alloc (.cells #[.int .u8 ((o/10:Nat):Int),.int .u8 ((o % 10:Nat):Int)] 263)).drew.alloc ob).cell? ⟨w.heap.size,1,none⟩=some (.int .u8 ((o % 10:Nat):Int)):=λob=>by rw[z1o _ _ _ (by show w.heap.size<_;simp)];exact d1
 unfold kv at *
 generalize ((o/10:Nat):Int)=x at *
 generalize ((o % 10:Nat):Int)=y at *
 go_enter Tryz.func163,Tryz.ntmps163;go_wp21;refine wp_region_held_drew (S:=(λwq=>cZ wq wb 2 (.map (some k1))/\cZ wq w.heap.size 0 (.int .u8 x)/\cZ wq w.heap.size 1 (.int .u8 y)/\(Instr.lookup 167 (.map (some k1)) (.agg #[.int .u8 x,.int .u8 y]) true).run Tryz.prog wq=.ok (.tuple #[.agg #[.int .u8 ((c1:Nat):Int),.int .u8 ((c2:Nat):Int)],.bool true]) wq)) (by kernel_rfl) (⟨c2',d0,d1,L1⟩) (λhS=>?_);refine tkS 0 (pZ wb) hS ?_;refine tkS 1 (pZ wb) hS ?_;refine tkS 2 (.pointer (some ⟨wb,2,none⟩)) hS ?_;refine tkL 3 (.map (some k1)) hS ?_;refine tkL 4 (.agg #[.int .u8 x,.int .u8 y]) hS ?_;refine tkL 5 (.tuple #[.agg #[.int .u8 ((c1:Nat):Int),.int .u8 ((c2:Nat):Int)],.bool true]) hS ?_;refine tkS 6 (.tuple #[.agg #[.int .u8 ((c1:Nat):Int),.int .u8 ((c2:Nat):Int)],.bool true]) hS ?_;refine tkS 7 (.agg #[.int .u8 ((c1:Nat):Int),.int .u8 ((c2:Nat):Int)]) hS ?_;refine tkS 8 (.bool true) hS ?_;refine rd1 9 (λKK hK=>?_);go_simp;refine hK.out _ _ ⟨f1 _,f2 _,f3 _,f4 _⟩ (λhS=>nrm ?_);refine rd1 10 (λKK hK=>?_);go_simp;refine hK.out _ _ ⟨f1 _,f2 _,f3 _,f4 _⟩ (λhS=>nrm ?_);refine tkS 11 (.bool true) hS ?_;refine wpAnyH_done (by kernel_rfl) ?_ _;have HX:Wt m B wb k1 k2 n l sp ((w.alloc (.cells #[.int .u8 x,.int .u8 y] 263)).alloc (.cells #[.int .u8 ((c1:Nat):Int),.int .u8 ((c2:Nat):Int)] 263)).drew:=((h.alloc hB _).alloc (by simp;omega) _).drewN 1;have KX:KW m B wb k1 k2 w ((w.alloc (.cells #[.int .u8 x,.int .u8 y] 263)).alloc (.cells #[.int .u8 ((c1:Nat):Int),.int .u8 ((c2:Nat):Int)] 263)).drew:=(((KW.refl m B wb k1 k2 w).alloc hB _).alloc (by simp;omega) _).drewN 1
 have qx:((w.alloc (.cells #[.int .u8 x,.int .u8 y] 263)).alloc (.cells #[.int .u8 ((c1:Nat):Int),.int .u8 ((c2:Nat):Int)] 263)).drew.heap[w.heap.size+1]? =some (.cells #[.int .u8 ((c1:Nat):Int),.int .u8 ((c2:Nat):Int)] 263 (0,0)):=by
  have qq:((w.alloc (.cells #[.int .u8 x,.int .u8 y] 263)).alloc (.cells #[.int .u8 ((c1:Nat):Int),.int .u8 ((c2:Nat):Int)] 263)).heap[w.heap.size+1]? =some (.cells #[.int .u8 ((c1:Nat):Int),.int .u8 ((c2:Nat):Int)] 263 (0,0)):=by simpa using z1v (w.alloc (.cells #[.int .u8 x,.int .u8 y] 263)) (.cells #[.int .u8 ((c1:Nat):Int),.int .u8 ((c2:Nat):Int)] 263)
  exact qq
 have sX:=z1c hB KX.size;generalize ((w.alloc (.cells #[.int .u8 x,.int .u8 y] 263)).alloc (.cells #[.int .u8 ((c1:Nat):Int),.int .u8 ((c2:Nat):Int)] 263)).drew=X at *
 have e0:cZ X (w.heap.size+1) 0 (uZ c1):=cbl qx;have nb:m≠some (w.heap.size+1):=hmg _ (by omega);go_wp21;refine(zcu m B wb _ _ l c1 _ HX.wi b1 (by omega) sX).mono ?_;rintro e w1 ⟨rfl,h1,k1'⟩;have q1:=k1'.box qx (by omega) nb (by decide);have e1:cZ w1 (w.heap.size+1) 1 (uZ c2):=cbl q1;have H1:=HX.text h1 k1';have K1:=KX.trans k1'.kw;have s1:=z1c sX k1'.size;by_cases hd:c2=0
 ·subst hd
  go_wp21;go_end0;rw[HV.out];exact⟨rfl,H1,K1⟩
 ·have hd':(0:Int)<(c2:Int):=by omega
  have hd3:IntKind.u8.wrap (48+(c2:Int))=((48+c2:Nat):Int):=by rw[IntKind.wrap_u8];omega
  have HV2:Hid (zbq (zac kk)=[u8 c1,u8 (48+c2)]):=by unfold Hid;rw[HV.out,if_neg hd]
  have B2:=zcu m B wb _ _ (l++[u8 c1]) (48+c2) w1 H1.wi (by omega) (by simp;omega) s1;have c2lt:(c2:Int)<10:=by omega
  go_wp21;refine B2.mono ?_;rintro e w2 ⟨rfl,h2,k2'⟩;go_wp21;go_end0;rw[HV2.out];exact⟨rfl,by simpa using H1.text h2 k2',K1.trans k2'.kw⟩
theorem var_new (m:Option Nat) (B wb k1 k2:Nat) (n:List Nat) (l:List UInt8) (sp:List Spn) (w:World) (h:Wt m B wb k1 k2 n l sp w) (o:Nat) (ho:o∉n) (hr:970<=o/\o<1230) (hl:l.length+2<=140737488355328) (hB:B<=w.heap.size):
 CZ 163 #[pZ wb,kv o] w λe w'=>e=.returned (.tuple #[])/\Wt m B wb k1 k2 (n++[o]) (l++zbq (zac n.length)) sp w'/\KW m B wb k1 k2 w w':=by
 have hmg:∀k,w.heap.size<=k->m≠some k:=λk hk e=>by have:=(h.wi.bu _ e).1.le.2;omega
 have hkk:n.length<260:=by
  have:=zno 260 (n++[o]) (by rw[List.nodup_append];exact⟨h.nd,by simp,λa ha b hb e=>by simp at hb;subst hb;subst e;exact ho ha⟩) (by intro z hz;rcases z1y.1 hz with hz|hz;exact h.rg z hz;simp at hz;subst hz;exact hr);simp at this;omega
 have hk1:=h.nm.lt;have hk2:=h.spm.lt;have hlt:=h.wi.lt;have h1:=h.alloc hB (.cells #[.int .u8 ((o/10:Nat):Int),.int .u8 ((o % 10:Nat):Int)] 263);have hs1:B<=(w.alloc (.cells #[.int .u8 ((o/10:Nat):Int),.int .u8 ((o % 10:Nat):Int)] 263)).heap.size:=by simp;omega
 have LF:=λ(wq:World) (hq:WNm k1 n wq)=>name_none hq ho
 have L1:=LF (w.alloc (.cells #[.int .u8 ((o/10:Nat):Int),.int .u8 ((o % 10:Nat):Int)] 263)).drew h1.nm;have f4:=λob=>LF ((w.alloc (.cells #[.int .u8 ((o/10:Nat):Int),.int .u8 ((o % 10:Nat):Int)] 263)).drew.alloc ob) (h1.alloc hs1 ob).nm
 have d0:(w.alloc (.cells #[.int .u8 ((o/10:Nat):Int),.int .u8 ((o % 10:Nat):Int)] 263)).cell? ⟨w.heap.size,0,none⟩=some (.int .u8 ((o/10:Nat):Int)):=by simp
 have d1:(w.alloc (.cells #[.int .u8 ((o/10:Nat):Int),.int .u8 ((o % 10:Nat):Int)] 263)).cell? ⟨w.heap.size,1,none⟩=some (.int .u8 ((o % 10:Nat):Int)):=by simp
 have c2':(w.alloc (.cells #[.int .u8 ((o/10:Nat):Int),.int .u8 ((o % 10:Nat):Int)] 263)).cell? ⟨wb,2,none⟩=some (.map (some k1)):=by rw[z1f h1.wi.blk];rfl
 have f1:∀ob,((w.alloc (.cells #[.int .u8 ((o/10:Nat):Int),.int .u8 ((o % 10:Nat):Int)] 263)).drew.alloc ob).cell? ⟨wb,2,none⟩=some (.map (some k1)):=λob=>by rw[z1o _ _ _ (by show wb<_;exact h1.wi.lt)];exact c2'
 have f2:∀ob,((w.alloc (.cells #[.int .u8 ((o/10:Nat):Int),.int .u8 ((o % 10:Nat):Int)] 263)).drew.alloc ob).cell? ⟨w.heap.size,0,none⟩=some (.int .u8 ((o/10:Nat):Int)):=λob=>by rw[z1o _ _ _ (by show w.heap.size<_;simp)];exact d0
 have f3:∀ob,((w.alloc (.cells #[.int .u8 ((o/10:Nat):Int),.int .u8 ((o % 10:Nat):Int)] 263)).drew.alloc ob).cell? ⟨w.heap.size,1,none⟩=some (.int .u8 ((o % 10:Nat):Int)):=λob=>by rw[z1o _ _ _ (by show w.heap.size<_;simp)];exact d1
 have PF:=λ(wq:World) (hq:WNm k1 n wq)=>name_put hq ho
 have SF:=λ(wq:World) (hq:WNm k1 n wq)=>hq.size
 have HNM:=λ(wq:World)=>zks n.length hkk wq
 obtain⟨c1,c2,e1,e2,hv,b1,b2⟩:=zso hkk;have HV:=hid hv;clear hv;unfold kv at PF HNM LF L1 f4 ⊢;rw[e1,e2] at PF HNM;clear e1 e2;have NW:Hid (∀w1 w2 l sp,Wt m B wb k1 k2 n l sp w1->WNm k1 (n++[o]) w2->Gb k1 w1 w2->Wt m B wb k1 k2 (n++[o]) l sp w2):=λw1 w2 l sp h h' g=>h.named ho hr h' g
 generalize ((o/10:Nat):Int)=x at *
 generalize ((o % 10:Nat):Int)=y at *
 go_enter Tryz.func163,Tryz.ntmps163;go_wp21;refine wp_region_held_drew (S:=(λwq=>wq.cell? ⟨wb,2,none⟩=some (.map (some k1))/\wq.cell? ⟨w.heap.size,0,none⟩=some (.int .u8 x)/\wq.cell? ⟨w.heap.size,1,none⟩=some (.int .u8 y)/\(Instr.lookup 167 (.map (some k1)) (.agg #[.int .u8 x,.int .u8 y]) true).run Tryz.prog wq=.ok (.tuple #[.agg #[.int .u8 0,.int .u8 0],.bool false]) wq)) (by kernel_rfl) (⟨c2',d0,d1,L1⟩) (λhS=>?_);refine tkS 0 (pZ wb) hS ?_;refine tkS 1 (pZ wb) hS ?_;refine tkS 2 (.pointer (some ⟨wb,2,none⟩)) hS ?_;refine tkL 3 (.map (some k1)) hS ?_;refine tkL 4 (.agg #[.int .u8 x,.int .u8 y]) hS ?_;refine tkL 5 (.tuple #[.agg #[.int .u8 0,.int .u8 0],.bool false]) hS ?_;refine tkS 6 (.tuple #[.agg #[.int .u8 0,.int .u8 0],.bool false]) hS ?_;refine tkS 7 (.agg #[.int .u8 0,.int .u8 0]) hS ?_;refine tkS 8 (.bool false) hS ?_;refine rd1 9 (λKK hK=>?_);go_simp;refine hK.out _ _ ⟨f1 _,f2 _,f3 _,f4 _⟩ (λhS=>nrm ?_);refine rd1 10 (λKK hK=>?_);go_simp;refine hK.out _ _ ⟨f1 _,f2 _,f3 _,f4 _⟩ (λhS=>nrm ?_);refine tkS 11 (.bool false) hS ?_;refine wpAnyH_done (by kernel_rfl) ?_ _;clear hS;have HX1:Wt m B wb k1 k2 n l sp ((w.alloc (.cells #[.int .u8 x,.int .u8 y] 263)).alloc (.cells #[.int .u8 0,.int .u8 0] 263)).drew:=((h.alloc hB _).alloc (by simp;omega) _).drewN 1;have KX1:KW m B wb k1 k2 w ((w.alloc (.cells #[.int .u8 x,.int .u8 y] 263)).alloc (.cells #[.int .u8 0,.int .u8 0] 263)).drew:=(((KW.refl m B wb k1 k2 w).alloc hB _).alloc (by simp;omega) _).drewN 1
 have qn:((w.alloc (.cells #[.int .u8 x,.int .u8 y] 263)).alloc (.cells #[.int .u8 0,.int .u8 0] 263)).drew.heap[w.heap.size+1]? =some (.cells #[.int .u8 0,.int .u8 0] 263 (0,0)):=by
  have qq:((w.alloc (.cells #[.int .u8 x,.int .u8 y] 263)).alloc (.cells #[.int .u8 0,.int .u8 0] 263)).heap[w.heap.size+1]? =some (.cells #[.int .u8 0,.int .u8 0] 263 (0,0)):=by simpa using z1v (w.alloc (.cells #[.int .u8 x,.int .u8 y] 263)) (.cells #[.int .u8 0,.int .u8 0] 263)
  exact qq
 have qv:((w.alloc (.cells #[.int .u8 x,.int .u8 y] 263)).alloc (.cells #[.int .u8 0,.int .u8 0] 263)).drew.heap[w.heap.size]? =some (.cells #[.int .u8 x,.int .u8 y] 263 (0,0)):=by
  have qq:((w.alloc (.cells #[.int .u8 x,.int .u8 y] 263)).alloc (.cells #[.int .u8 0,.int .u8 0] 263)).heap[w.heap.size]? =some (.cells #[.int .u8 x,.int .u8 y] 263 (0,0)):=by
   rw[Lib.alloc_old _ _ _ (by simp)];exact z1v w _
  exact qq
 have sX1:B<=((w.alloc (.cells #[.int .u8 x,.int .u8 y] 263)).alloc (.cells #[.int .u8 0,.int .u8 0] 263)).drew.heap.size:=z1c hB KX1.size;clear f1 f2 f3 f4 d0 d1 c2' L1 h1 hs1 LF h;generalize ((w.alloc (.cells #[.int .u8 x,.int .u8 y] 263)).alloc (.cells #[.int .u8 0,.int .u8 0] 263)).drew=X1 at *
 have c2':X1.cell? ⟨wb,2,none⟩=some (.map (some k1)):=by rw[z1f HX1.wi.blk];rfl
 obtain⟨es,cl,hes,hsz⟩:=SF X1 HX1.nm
 have hlen:(Builtin.len_ #[167] 3 #[.map (some k1)]).run Tryz.prog X1=.ok (.int .i64 (n.length:Int)) X1:=by
  have:=run_len_map (P:=Tryz.prog) (w:=X1) 167 3 k1 es cl (by kernel_rfl) hes;rw[hsz] at this;exact this
 clear hes hsz;go_wp21;refine(HNM X1).mono ?_;rintro e w2 ⟨rfl,ob,rfl⟩;clear hlen HNM;have HY:Wt m B wb k1 k2 n l sp (X1.alloc ob):=HX1.alloc sX1 ob;have KY:KW m B wb k1 k2 w (X1.alloc ob):=KX1.alloc sX1 ob;replace qn:=(Lib.alloc_old _ ob _ (z1a.1 qn).1).trans qn;replace qv:=(Lib.alloc_old _ ob _ (z1a.1 qv).1).trans qv;clear HX1 KX1 sX1 c2';generalize X1.alloc ob=Y1 at *
 have g0:Y1.cell? ⟨w.heap.size+1,0,none⟩=some (.int .u8 0):=cbl qn;have g1:Y1.cell? ⟨w.heap.size+1,1,none⟩=some (.int .u8 0):=cbl qn;have z0:Y1.frozen? ⟨w.heap.size+1,0,none⟩=false:=z1g qn 0;have z1:Y1.frozen? ⟨w.heap.size+1,1,none⟩=false:=z1g qn 1;have qx3:((Y1.setCell ⟨w.heap.size+1,0,none⟩ (.int .u8 (c1:Int))).setCell ⟨w.heap.size+1,1,none⟩ (.int .u8 (c2:Int))).heap[w.heap.size+1]? =some (.cells #[.int .u8 (c1:Int),.int .u8 (c2:Int)] 263 (0,0)):=zma qn;have qv3:((Y1.setCell ⟨w.heap.size+1,0,none⟩ (.int .u8 (c1:Int))).setCell ⟨w.heap.size+1,1,none⟩ (.int .u8 (c2:Int))).heap[w.heap.size]? =some (.cells #[.int .u8 x,.int .u8 y] 263 (0,0)):=(zcy (by omega)).trans qv;have HX3:Wt m B wb k1 k2 n l sp ((Y1.setCell ⟨w.heap.size+1,0,none⟩ (.int .u8 (c1:Int))).setCell ⟨w.heap.size+1,1,none⟩ (.int .u8 (c2:Int))):=(HY.far qn _).far (by simp[World.setCell,z1i,qn];exact⟨rfl,rfl⟩) _;have KX3:KW m B wb k1 k2 w ((Y1.setCell ⟨w.heap.size+1,0,none⟩ (.int .u8 (c1:Int))).setCell ⟨w.heap.size+1,1,none⟩ (.int .u8 (c2:Int))):=(KY.far (by omega) (by omega) _).far (by omega) (by omega) _;go_wp21;clear g0 g1 z0 z1 qn qv HY KY;generalize ((Y1.setCell ⟨w.heap.size+1,0,none⟩ (.int .u8 (c1:Int))).setCell ⟨w.heap.size+1,1,none⟩ (.int .u8 (c2:Int)))=X3 at *
 have c2':X3.cell? ⟨wb,2,none⟩=some (.map (some k1)):=by rw[z1f HX3.wi.blk];rfl
 have a0:X3.cell? ⟨w.heap.size,0,none⟩=some (.int .u8 x):=cbl qv3;have a1:X3.cell? ⟨w.heap.size,1,none⟩=some (.int .u8 y):=cbl qv3;have a2:X3.cell? ⟨w.heap.size+1,0,none⟩=some (.int .u8 (c1:Int)):=cbl qx3;have a3:X3.cell? ⟨w.heap.size+1,1,none⟩=some (.int .u8 (c2:Int)):=cbl qx3;obtain⟨X,hput,hnm,hgb⟩:=PF X3.drew HX3.nm;have sX3:B<=X3.heap.size:=z1c hB KX3.size;have HX:Wt m B wb k1 k2 (n++[o]) l sp X:=NW.out X3.drew X l sp (HX3.drewN 1) hnm hgb;have KX:KW m B wb k1 k2 w X:=(KX3.drewN 1).trans (Gb.kw1 HX3.b1 sX3 hgb)
 have bl:∀(q:Nat) (c:Array Value),X3.heap[q]? =some (Obj.cells c 263 (0,0))->X.heap[q]? =some (Obj.cells c 263 (0,0)):=by
  intro q c hq;rw[hgb.block q (z1a.1 hq).1 ?_]
  ·exact hq
  ·intro e
   have e:q=k1:=by simpa using e
   obtain⟨es,cl,hb,_⟩:=HX3.nm;rw[e,hb] at hq
   cases hq
 have qx:=bl _ _ qx3;have qv:=bl _ _ qv3;have p1:X.cell? ⟨wb,2,none⟩=some (.map (some k1)):=by rw[z1f HX.wi.blk];rfl
 have p2:X.cell? ⟨w.heap.size,0,none⟩=some (.int .u8 x):=cbl qv;have p3:X.cell? ⟨w.heap.size,1,none⟩=some (.int .u8 y):=cbl qv;have p4:X.cell? ⟨w.heap.size+1,0,none⟩=some (.int .u8 (c1:Int)):=cbl qx;have p5:X.cell? ⟨w.heap.size+1,1,none⟩=some (.int .u8 (c2:Int)):=cbl qx;have sX:B<=X.heap.size:=z1c hB KX.size;clear HX3 KX3 hnm hgb bl qx3 qv3 qv sX3;refine wp_region_held_drew (S:=(λwq=>wq.cell? ⟨wb,2,none⟩=some (.map (some k1))/\wq.cell? ⟨w.heap.size,0,none⟩=some (.int .u8 x)/\wq.cell? ⟨w.heap.size,1,none⟩=some (.int .u8 y)/\wq.cell? ⟨w.heap.size+1,0,none⟩=some (.int .u8 (c1:Int))/\wq.cell? ⟨w.heap.size+1,1,none⟩=some (.int .u8 (c2:Int)))) (by kernel_rfl) (⟨c2',a0,a1,a2,a3⟩) (λhS=>?_);refine tkS 0 (pZ wb) hS ?_;refine tkS 1 (pZ wb) hS ?_;refine tkS 2 (.pointer (some ⟨wb,2,none⟩)) hS ?_;refine tkL 3 (.map (some k1)) hS ?_;refine tkL 4 (.agg #[.int .u8 x,.int .u8 y]) hS ?_;refine tkL 5 (.agg #[.int .u8 (c1:Int),.int .u8 (c2:Int)]) hS ?_;refine rd1 6 (λKK hK=>?_);go_simp;refine hK.out _ _ ⟨p1,p2,p3,p4,p5⟩ (λhS=>nrm ?_);refine wpAnyH_done (by kernel_rfl) ?_ _;clear hS c2' a0 a1 a2 a3 hput p1 p2 p3 p4 p5;have e0:X.cell? ⟨w.heap.size+1,0,none⟩=some (.int .u8 (c1:Int)):=cbl qx;have nb:m≠some (w.heap.size+1):=hmg _ (by omega);go_wp21;refine(zcu m B wb _ _ l c1 _ HX.wi b1 (by omega) sX).mono ?_;rintro e w1 ⟨rfl,h1,k1'⟩;have q1:=k1'.box qx (by omega) nb (by decide);have e1:w1.cell? ⟨w.heap.size+1,1,none⟩=some (.int .u8 (c2:Int)):=cbl q1;have H1:=HX.text h1 k1';have K1:=KX.trans k1'.kw;have s1:B<=w1.heap.size:=z1c sX k1'.size;clear e0 qx HX KX h1 k1' q1;by_cases hd:c2=0
 ·subst hd
  go_wp21;go_end0;rw[HV.out];exact⟨rfl,H1,K1⟩
 ·have hd':(0:Int)<(c2:Int):=by omega
  have hd3:IntKind.u8.wrap (48+(c2:Int))=((48+c2:Nat):Int):=by rw[IntKind.wrap_u8];omega
  have HV2:Hid (zbq (zac n.length)=[u8 c1,u8 (48+c2)]):=by unfold Hid;rw[HV.out,if_neg hd]
  have B2:=zcu m B wb _ _ (l++[u8 c1]) (48+c2) w1 H1.wi (by omega) (by simp;omega) s1;have c2lt:(c2:Int)<10:=by omega
  clear HV hd;go_wp21;refine B2.mono ?_;rintro e w2 ⟨rfl,h2,k2'⟩;go_wp21;go_end0;rw[HV2.out];exact⟨rfl,by simpa using H1.text h2 k2',K1.trans k2'.kw⟩
end
end Go.Proofs.YtceadeaodbadlaaGreatDoor
