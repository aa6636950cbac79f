import Derived.Test.YtceadeaodbadlaaGreatDoorGeneralP1
import Derived.Deep.RegionWith
import Derived.IntWalk
import Derived.Deep.RegionHeld3
import Derived.Deep.RegionLaw
import Derived.Deep.AppendLies
import Derived.Laws.IdiomStrings
import Derived.Maps.AppendAt
import Derived.Maps.Range
import Derived.WalkSmall
import Derived.Laws.ResultCell
import Derived.Deep.OwnRows
set_option linter.unusedVariables false
set_option linter.unusedSimpArgs false
set_option maxRecDepth 100000
set_option maxHeartbeats 16000000
namespace Go.Proofs.YtceadeaodbadlaaGreatDoor
open Go.RowKit
abbrev z2a:=@List.length_map
def zcl (t:Ty) (w:World) (e:Ending) (w':World):Prop:=
 ∃g cap,e=.returned (.agg #[sZ g (sz t) cap])/\Rg g t w'/\w.heap.size<=g/\Below w.heap.size w w'
section
variable {b:Nat} {T:TypeId} {v:Value} {w:World} (g o:Nat) (t:Ty) (gt:Nat)
theorem add0 (g m:Nat):(⟨g,0,none⟩:Addr).add m=⟨g,m,none⟩:=by unfold Addr.add;split<;>simp_all
theorem Rg.ofOwn {B g n cap:Nat} {t:Ty} (ok:Ok t) (h:w.ownsRow B 107 3 (sZ g n cap) n (zea (nd t 0))):Rg g t w:=by
 refine⟨ok,(h.lt g rfl).2,λk n hk=>?_⟩;have c0:=h.cells (g:=g) rfl (k*3+0) _ (zmc _ k 0 n _ hk rfl);have c1:=h.cells (g:=g) rfl (k*3+1) _ (zmc _ k 1 n _ hk rfl);have c2:=h.cells (g:=g) rfl (k*3+2) _ (zmc _ k 2 n _ hk rfl);rw[add0] at c0 c1 c2;exact⟨c0,c1,c2⟩
theorem zpa {w':World} {row:Option Nat} (h:w.grownBy w' row) (hr:∀k,row=some k->w.heap.size<=k):Below w.heap.size w w':=
 ⟨h.os,h.tape,h.output,h.size,λk hk=>h.block k hk (λe=>by have:=hr k e.symm;omega)⟩
theorem zai (b:Nat) (u:Value):w.grownBy (w.setCell ⟨b,0,none⟩ u) (some b):=
 ⟨rfl,rfl,rfl,by simp[World.setCell],λi _ hn=>Below.heap_setCell _ _ _ _ (by simpa using hn)⟩
theorem leaf_nd (hg:g<=2) (u:Unit):nd (.node g o u .nil .nil) 0=[⟨sgn g o,0,0⟩]:=by
 have h3:g<=3:=by omega
 simp[nd,rt,rtA,rtB,hg,h3]
theorem zkb (u:Unit):sz (.node g o u .nil .nil)=1:=rfl
theorem zqm:(Tryz.prog.info? 33).map (·.size)=some (#[Value.slice none 0 0]).size:=by kernel_rfl
theorem zah {tmps:Array Value} {g:Nat} {fn:Func} {p:Tmp} (h:fn.results=#[.cell p 33]) {Q:Ending->World->Prop} (hp:tmps.getD p undef=(pZ g)) (hg:w.heap[g]? =some (.cells #[v] 33 (0,0))) (hq:Q (.returned (.agg #[v])) w):bodyPost Tryz.prog fn Q Exit.ret {tmps:=tmps,defers:=[]} w:=
 bodyPost_ret (results_cell_row h tmps w g 33 #[v] (0,0) _ hp hg Tryz.underlying33 rfl zqm) rfl hq
theorem zad {g:Nat} {u:Value} (hg:w.heap[g]? =some (.cells #[u] 33 (0,0))):(w.setCell ⟨g,0,none⟩ v).heap[g]? =some (.cells #[v] 33 (0,0)):=by
 simp[World.setCell,z1i,hg]
theorem zxk (wr:World) (op x y:Nat) (z a b:Int) (hz:z=(op:Int)) (ha:a=(x:Int)) (hb:b=(y:Int)):∀j u,(Nd.cells ⟨op,x,y⟩)[j]? =some u->
 (wr.alloc (.cells #[.int .i64 z,.int .i64 a,.int .i64 b] 107)).cell? ((⟨wr.heap.size,0,none⟩:Addr).add j)=some u:=by
 subst hz;subst ha;subst hb;exact z1x (z1v wr (.cells #[iZ op,iZ x,iZ y] 107))
theorem zab (h:w.heap[b]? =some (.cells #[v] T (0,0))):w.cell? ⟨b,0,none⟩=some v:=by simp[World.cell?,h]
theorem zaf (h:w.heap[b]? =some (.cells #[v] T (0,0))):w.frozen? ⟨b,0,none⟩=false:=by simp[World.frozen?,h]
theorem zds (hg:g<=2) (hok:Ok (.node g o () .nil .nil)) (w:World):CZ 40 #[.int .i64 (sgn g o:Int)] w (zcl (.node g o () .nil .nil) w):=by
 have HN:=hid (leaf_nd g o hg ());have HK:=hid hok;generalize sgn g o=op at *
 go_enter Tryz.func40,Tryz.ntmps40;go_wp21;refine zah rfl rfl (by rw[Below.heap_alloc _ _ _ (by simp)];exact z1v w _) ?_;refine⟨w.heap.size+1,1,rfl,⟨HK.out,by simp,λk n hk=>?_⟩,by omega,(bal w _).alloc (by simp) _⟩;rw[HN.out] at hk
 cases k with
 |zero=>
  simp at hk;subst hk;simp
 |succ k=>simp at hk
theorem list_nd (h:Ok t):nd (tL t) 0=nd t 0++[⟨91,sz t-1,0⟩]:=by
 simp[nd,rt,rtA,rtB,sgn]
theorem zxg (t:Ty) (g cap:Nat) (w:World) (ht:Rg g t w) (hl:sz t<=450000):CZ 66 #[.agg #[sZ g (sz t) cap]] w (zcl (tL t) w):=by
 obtain⟨i0,hi0,hz0,hz1,hz2⟩:=info_parts zle
 have HC:Hid (∀w':World,Rg g t w'->w.heap.size+2<=w'.heap.size->CZ 103 #[.slice none 0 0,.agg #[sZ g (sz t) cap]] w' (CoPost (w.heap.size+2) [] (.slice none 0 0) t w')):=
  λw' h' hs=>zkh (w.heap.size+2) [] (.slice none 0 0) g cap t w' (z1w _ _ _ _) h' (by simp[Value.ownBlock]) hs (by simp;omega)
 have HD:=hid (list_nd t ht.ok);have hpos:=zaw ht.ok;have hbox:((w.alloc (.cells #[sZ g (sz t) cap] 33)).alloc (.cells #[.slice none 0 0] 33)).heap[w.heap.size+1]? =some (.cells #[.slice none 0 0] 33 (0,0)):=heap_alloc2_new w _ _;have hA:=(ht.alloc (.cells #[sZ g (sz t) cap] 33)).alloc (.cells #[.slice none 0 0] 33);go_enter Tryz.func66,Tryz.ntmps66;go_wp21;refine(HC.out _ hA (by simp)).mono ?_;rintro e w1 ⟨v1,rfl,hown,hgr,hv1⟩;simp only[List.length_nil,Nat.zero_add,List.nil_append] at hown;obtain⟨g1,cap1,rfl,hb1,hg1⟩:=hown.form hpos;have hbox1:w1.heap[w.heap.size+1]? =some (.cells #[.slice none 0 0] 33 (0,0)):=(hgr.block _ (by simp) (by simp[Value.ownBlock])).trans hbox;have HN:=zxk w1 91 (sz t-1) 0 91 ((sz t:Int)-1) 0 rfl (by omega) rfl
 go_wp2_with (at_builtin;refine wpList_append_lies _ rfl _ _ 31 rfl (w.heap.size+2) 107 i0 _ 3 24 Tryz.underlying31 hi0 hz0 hz1 hz2 rfl (by omega) (sZ g1 (sz t) cap1) (sz t) _ rfl (hown.alloc _) ⟨w1.heap.size,0,none⟩ 1 1 (Nd.cells ⟨91,sz t-1,0⟩) rfl rfl HN (by simp[Value.oneCell',Nd.cells]) (by omega) (by unfold maxLen;omega) (by omega) (by simp;omega) (w1.heap.size+1) (by simp) ?_;intro gg cap2 w2 hown2 hgrow2 hat2 hlt2;have hbox2:w2.heap[w.heap.size+1]? =some (.cells #[.slice none 0 0] 33 (0,0)):=(hgrow2.block _ (by simp;omega) (by simp[Value.ownBlock];omega)).trans ((Below.heap_alloc _ _ _ (by omega)).trans hbox1);have cb:=zab hbox2;have fb:=zaf hbox2)
 refine zah rfl rfl (zad hbox2) ?_;have hgb:=(hown2.lt gg rfl).1;have e1:zea (nd (tL t) 0)=zea (nd t 0)++Nd.cells ⟨91,sz t-1,0⟩:=by rw[HD.out,zhf];simp[zea]
 have B1:Below w.heap.size w w1:=((bal w _).alloc (by simp) _).trans ((zpa hgr (by simp[Value.ownBlock])).mono (by simp;omega));have B2:Below w.heap.size w w2:=B1.grown ((z1p w1 _ _).trans hgrow2) B1.size (λk hk=>by simp[Value.ownBlock] at hk;omega);refine⟨gg,cap2,rfl,?_,by omega,B2.setCell (by simp) _⟩;rw[<-e1] at hown2;exact(Rg.ofOwn (okL ht.ok) hown2).kept (zai _ _) (by simp;omega)
theorem zuw (h:gt=4\/gt=5) (a b:Ty) (u:Unit):nd (.node gt 0 u a b) 0=nd a 0++nd b (sz a)++[⟨sgn gt 0,sz a-1,sz a+sz b-1⟩]:=by
 rcases h with rfl|rfl<;>simp[nd,rt,rtA,rtB,sgn]
theorem both_ok {a b:Ty} (h:gt=4\/gt=5) (ha:Ok a) (hb:Ok b):Ok (.node gt 0 () a b):=by
 rcases h with rfl|rfl
 ·exact okP ha hb
 ·exact okF ha hb
theorem zlm (hgt:gt=4\/gt=5) (a b:Ty) (g cap g' cap':Nat) (w:World) (ha:Rg g a w) (hb:Rg g' b w) (hl:sz a<=450000) (hl':sz b<=450000):
 CZ 67 #[.int .i64 (sgn gt 0:Int),.agg #[sZ g (sz a) cap],.agg #[sZ g' (sz b) cap']] w (zcl (.node gt 0 () a b) w):=by
 obtain⟨i0,hi0,hz0,hz1,hz2⟩:=info_parts zle;have HO:=hid (both_ok gt hgt ha.ok hb.ok);have HD:=hid (zuw gt hgt a b ());have hpos:=zaw ha.ok;have hpos':=zaw hb.ok;have HZ:Hid (sz (.node gt 0 () a b)=sz a+sz b+1):=rfl;have hlt:=ha.lt;have hlt':=hb.lt;generalize sgn gt 0=op at HD ⊢;generalize Go.Deep.BT.node gt 0 () a b=T at HD HO HZ ⊢
 have hbx:(((w.alloc (.cells #[sZ g (sz a) cap] 33)).alloc (.cells #[sZ g' (sz b) cap'] 33)).alloc (.cells #[.slice none 0 0] 33)).heap[w.heap.size+1]? =some (.cells #[sZ g' (sz b) cap'] 33 (0,0)):=by
  rw[Below.heap_alloc _ _ _ (by simp)];exact heap_alloc2_new w _ _
 have hcx:(((w.alloc (.cells #[sZ g (sz a) cap] 33)).alloc (.cells #[sZ g' (sz b) cap'] 33)).alloc (.cells #[.slice none 0 0] 33)).heap[w.heap.size+1+1]? =some (.cells #[.slice none 0 0] 33 (0,0)):=by
  have:=heap_alloc2_new (w.alloc (.cells #[sZ g (sz a) cap] 33)) (.cells #[sZ g' (sz b) cap'] 33) (.cells #[.slice none 0 0] 33);simpa using this
 have hA:=((ha.alloc (.cells #[sZ g (sz a) cap] 33)).alloc (.cells #[sZ g' (sz b) cap'] 33)).alloc (.cells #[.slice none 0 0] 33);have hB:=((hb.alloc (.cells #[sZ g (sz a) cap] 33)).alloc (.cells #[sZ g' (sz b) cap'] 33)).alloc (.cells #[.slice none 0 0] 33)
 have B0:Below w.heap.size w (((w.alloc (.cells #[sZ g (sz a) cap] 33)).alloc (.cells #[sZ g' (sz b) cap'] 33)).alloc (.cells #[.slice none 0 0] 33)):=
  ((bal w _).alloc (by simp) _).alloc (by simp;omega) _
 have s0:(((w.alloc (.cells #[sZ g (sz a) cap] 33)).alloc (.cells #[sZ g' (sz b) cap'] 33)).alloc (.cells #[.slice none 0 0] 33)).heap.size=w.heap.size+3:=by simp
 go_enter Tryz.func67,Tryz.ntmps67;go_wp21;refine(zkh (w.heap.size+3) [] (.slice none 0 0) g cap a _ (z1w _ _ _ _) hA (by simp[Value.ownBlock]) (by omega) (by simp;omega)).mono ?_;rintro e w1 ⟨v1,rfl,hown,hgr,-⟩;simp only[List.length_nil,Nat.zero_add,List.nil_append] at hown;obtain⟨g1,cap1,rfl,hb1,hg1⟩:=hown.form hpos;have hbx1:w1.heap[w.heap.size+1]? =some (.cells #[sZ g' (sz b) cap'] 33 (0,0)):=(hgr.block _ (by omega) (by simp[Value.ownBlock])).trans hbx;have hcx1:w1.heap[w.heap.size+1+1]? =some (.cells #[.slice none 0 0] 33 (0,0)):=(hgr.block _ (by omega) (by simp[Value.ownBlock])).trans hcx;have B1:=B0.grown hgr (by omega) (by simp[Value.ownBlock]);have hR1:=hB.kept hgr (by simp[Value.ownBlock]);have cb1:=zab hbx1;have hle:=zaj a 0;have HC:=zkh (w.heap.size+3) (nd a 0) (sZ g1 (sz a) cap1) g' cap' b w1 (by rw[hle];exact hown) hR1 (by simp[Value.ownBlock];omega) (by omega) (by omega);go_wp21;refine HC.mono ?_;rintro e w2 ⟨v2,rfl,hown2,hgr2,hat2⟩;rw[hle] at hown2;obtain⟨g2,cap2,rfl,hb2,hg2⟩:=hown2.form (by omega);have hcx2:w2.heap[w.heap.size+1+1]? =some (.cells #[.slice none 0 0] 33 (0,0)):=(hgr2.block _ (by omega) (by simp[Value.ownBlock];omega)).trans hcx1;have B2:=B1.grown hgr2 B1.size (by simp[Value.ownBlock];omega);have s2:w.heap.size+3<=w2.heap.size:=by omega
 have HN:=zxk w2 op (sz a-1) (sz a+sz b-1) op ((sz a:Int)-1) ((sz a:Int)+(sz b:Int)-1) rfl (by omega) (by omega)
 go_wp2_with (at_builtin;refine wpList_append_lies _ rfl _ _ 31 rfl (w.heap.size+3) 107 i0 _ 3 24 Tryz.underlying31 hi0 hz0 hz1 hz2 rfl (by omega) (sZ g2 (sz a+sz b) cap2) (sz a+sz b) _ rfl (hown2.alloc _) ⟨w2.heap.size,0,none⟩ 1 1 (Nd.cells ⟨op,sz a-1,sz a+sz b-1⟩) rfl rfl HN (by simp[Value.oneCell',Nd.cells]) (by omega) (by unfold maxLen;omega) (by omega) (by simp;omega) (w2.heap.size+1) (by simp) ?_;intro gg cap3 w3 hown3 hgrow3 hat3 hlt3;have hbox3:w3.heap[w.heap.size+1+1]? =some (.cells #[.slice none 0 0] 33 (0,0)):=(hgrow3.block _ (by simp;omega) (by simp[Value.ownBlock];omega)).trans ((Below.heap_alloc _ _ _ (by omega)).trans hcx2);have cb:=zab hbox3;have fb:=zaf hbox3)
 refine zah rfl rfl (zad hbox3) ?_;have hgb:=(hown3.lt gg rfl).1;have e1:zea (nd T 0)=zea (nd a 0++nd b (sz a))++Nd.cells ⟨op,sz a-1,sz a+sz b-1⟩:=by rw[HD.out,zhf];simp[zea]
 have B3:Below w.heap.size w w3:=B2.grown ((z1p w2 _ _).trans hgrow3) B2.size (λk hk=>by simp[Value.ownBlock] at hk;omega);refine⟨gg,cap3,by rw[HZ.out],?_,by omega,B3.setCell (by simp;omega) _⟩;rw[<-e1] at hown3;exact(Rg.ofOwn HO.out hown3).kept (zai _ _) (by simp;omega)
end
section
variable {N pre post:List Nd} {f:Nat} {y:Ty} (t:Ty) (g cap:Nat) (w:World)
theorem zav (ht:Rg g t w) (hl:sz t<=1000000):CZ 62 #[.agg #[sZ g (sz t) cap]] w λe w'=>e=.returned (.int .i64 ((rt t 0).op:Int))/\Below w.heap.size w w':=by
 have hpos:=zaw ht.ok;obtain⟨k0,-,-⟩:=(ht.alloc (.cells #[sZ g (sz t) cap] 33)).cell (sz t-1) _ (zib t ht.ok 0);have e1:((sz t:Int)-1)=((sz t-1:Nat):Int):=by omega
 go_enter Tryz.func62,Tryz.ntmps62;go_wp21;go_ret;exact⟨rfl,bal w _⟩
theorem zbp (n:Nat) (w:World):CZ 63 #[iZ n] w λe w'=>e=.returned (.bool (decide ((1000:Int)<=(n:Int))))/\w'=w:=by
 go_enter Tryz.func63,Tryz.ntmps63;go_wp21;go_ret;exact⟨rfl,rfl⟩
theorem rt_cases (h:Ok y) (f:Nat):(∃op,rt y f=⟨op,f,f⟩/\sz y=1/\op≠91/\op≠42/\op≠62)\/(∃a op c rest,Ok a/\(op=91\/op=42\/op=62)/\rt y f=⟨op,f+sz a-1,c⟩/\nd y f=nd a f++rest/\sz a<sz y):=by
 rcases h.cases with rfl|rfl|⟨o,h1,h2,rfl⟩|⟨a,ha,rfl⟩|⟨a,b,ha,hb,rfl⟩|⟨a,b,ha,hb,rfl⟩
 ·exact .inl ⟨73,rfl,rfl,by decide,by decide,by decide⟩
 ·exact .inl ⟨66,rfl,rfl,by decide,by decide,by decide⟩
 ·exact .inl ⟨o+30,rfl,rfl,by omega,by omega,by omega⟩
 ·exact .inr ⟨a,91,_,_,ha,.inl rfl,rfl,by simp only[nd];rw[z1u],by simp[sz]⟩
 ·exact .inr ⟨a,42,_,_,ha,.inr (.inl rfl),rfl,by simp only[nd];rw[z1u],by simp[sz];omega⟩
 ·exact .inr ⟨a,62,_,_,ha,.inr (.inr rfl),rfl,by simp only[nd];rw[z1u],by simp[sz];omega⟩
theorem mid_last (h:Ok y) (hN:N=pre++(nd y f++post)) (hf:pre.length=f):N[f+sz y-1]? =some (rt y f):=by
 have hpos:=zaw h;have hl:=zaj y f;rw[hN,List.getElem?_append_right (by omega),hf,z1t (by omega),show f+sz y-1-f=sz y-1 from by omega];exact zib y h f
theorem mid_at {x:Ty} (h:Ok x) (hN:N=pre++(nd x f++post)) (hf:pre.length=f) (j:Nat) (n:Nd) (hn:(nd x 0)[j]? =some n):N[f+j]? =some (zmb f n):=by
 have hj:=(z1b.1 hn).1;have hl:=zaj x f;have hl0:=zaj x 0;rw[hN,List.getElem?_append_right (by omega),hf,z1t (by omega),show f+j-f=j from by omega,nd_zero x h f,z1n,hn];rfl
theorem zyi (t x:Ty) (pre post:List Nd) (f kk g cap:Nat) (w:World) (ht:Rg g t w) (hl:sz t<=1000000) (hx:Ok x) (hN:nd t 0=pre++(nd x f++post)) (hf:pre.length=f) (hkk:kk+1=f+sz x):
 CZ 102 #[.agg #[sZ g (sz t) cap],iZ kk] w (zcl x w):=by
 obtain⟨i0,hi0,hz0,hz1,hz2⟩:=info_parts zle;have hA:=(ht.alloc (.cells #[sZ g (sz t) cap] 33)).alloc (.cells #[.slice none 0 0] 33)
 have hbx:((w.alloc (.cells #[sZ g (sz t) cap] 33)).alloc (.cells #[.slice none 0 0] 33)).heap[w.heap.size]? =some (.cells #[sZ g (sz t) cap] 33 (0,0)):=by
  rw[Below.heap_alloc _ _ _ (by simp)];exact z1v w _
 have hcx:=heap_alloc2_new w (.cells #[sZ g (sz t) cap] 33) (.cells #[.slice none 0 0] 33)
 have hlen:f+sz x+post.length=sz t:=by
  have:=zaj t 0;rw[hN,z1l,z1l,zaj x f] at this;omega
 have HN:=hid hN;have HX:=hid hx;have hpx:=zaw hx;clear hN hx;go_enter Tryz.func102,Tryz.ntmps102
 go_wp2_with fail
 go_loop [5] (λv=>∃(q:Nat) (y:Ty) (rest:List Nd),v=(iZ q)/\q+1=f+sz y/\Hid (Ok y/\nd t 0=pre++(nd y f++rest))/\sz y<=sz x) (λv=>(intOf v).toNat)
 case atStart=>exact⟨kk,x,post,rfl,hkk,⟨HX.out,HN.out⟩,z1d _⟩
 case round=>
  obtain⟨q,y,rest,rfl,hq,HY,hyx⟩:=hrel;have hlast:=mid_last HY.out.1 HY.out.2 hf;rw[show f+sz y-1=q from by omega] at hlast;have hqt:q<sz t:=by have:=(z1b.1 hlast).1;rw[zaj] at this;exact this
  obtain⟨k0,k1,-⟩:=hA.cell q _ hlast;rcases rt_cases HY.out.1 f with ⟨op,hr,hsz,n1,n2,n3⟩|⟨a,op,c,rest',ha,hop,hr,hnd,hsa⟩
  ·rw[hr] at k0 k1
   simp only at k0 k1;have e1:((op:Int)==91)=false:=by rw[beq_eq_false_iff_ne];omega
   have e2:((op:Int)==42)=false:=by rw[beq_eq_false_iff_ne];omega
   have e3:((op:Int)==62)=false:=by rw[beq_eq_false_iff_ne];omega
   obtain rfl:q=f:=by omega
   clear hr hlast HY hyx n1 n2 n3
   go_wp2_with fail
   clear k0 k1 e1 e2 e3 hq hsz hqt
   go_loopw [6,7] (λv i wr=>∃m j:Nat,i=(iZ m)/\m=q+j/\j<=sz x/\wr.ownsRow (w.heap.size+2) 107 3 v j (zea ((nd x 0).take j))/\((w.alloc (.cells #[sZ g (sz t) cap] 33)).alloc (.cells #[.slice none 0 0] 33)).grownBy wr none) (λ_ i _=>q+sz x-(intOf i).toNat)
   case atStart=>exact⟨q,0,rfl,rfl,Nat.zero_le _,z1w _ _ _ _,World.grownBy.refl _ _⟩
   case round=>
    obtain⟨m,j,rfl,hm,hj,ho,hg⟩:=hrel;have hs:=hg.size;simp only[World.size_alloc] at hs;have c0:cZ wr w.heap.size 0 (sZ g (sz t) cap):=zab ((hg.block _ (by simp;omega) (by simp)).trans hbx);rcases z1r j (sz x) with hlt|hge
    ·have hR:=hA.kept hg (by simp)
     obtain⟨⟨op,na,nb⟩,hn⟩:∃n,(nd x 0)[j]? =some n:=⟨_,z1h (by rw[zaj];exact hlt)⟩
     have hat:=mid_at HX.out HN.out hf j _ hn;rw[<-hm] at hat;have hmt:m<sz t:=by omega
     have hbd:=zxz x 0 HX.out _ (z1m hn);have b1:na<sz x:=by have:=hbd.2.1;simp at this;exact this
     have b2:nb<sz x:=by have:=hbd.2.2.2.1;simp at this;exact this
     have b3:=hbd.2.2.2.2;clear hbd;obtain⟨k0,k1,k2⟩:=hR.cell m _ hat;simp only[zmb] at k0 k1 k2;obtain⟨xa,hxa⟩:∃xa,xa=na+q:=⟨_,rfl⟩
     obtain⟨xb,hxb⟩:∃xb,xb=nb+q:=⟨_,rfl⟩
     rw[<-hxa] at k1;rw[<-hxb] at k2;have d1:decide ((m:Int)<=(kk:Int))=true:=by simp;omega
     have d1n:m<=kk:=by omega
     have HW:=nd_news wr (.cells #[iZ op,iZ xa,iZ xb] 107) op na nb ((xa:Int)-(q:Int)) ((xb:Int)-(q:Int)) (by omega) (by omega)
     have HT:Hid (zea ((nd x 0).take (j+1))=zea ((nd x 0).take j)++Nd.cells ⟨op,na,nb⟩):=by
      unfold Hid;have:=zst [] x 0 j _ HX.out hn;simpa [zmb] using this
     have HM:=hid hm;have b4:xa<=sz t:=by omega
     have b5:xb<=sz t:=by omega
     have b6:q<=xa:=by omega
     have b7:q<=xb:=by omega
     clear hat hn hm hxa hxb
     go_wp2_with (at_builtin;refine wpList_append_lies _ rfl _ _ 31 rfl (w.heap.size+2) 107 i0 _ 3 24 Tryz.underlying31 hi0 hz0 hz1 hz2 rfl (by omega) u6 j _ rfl ((ho.alloc _).alloc _) ⟨wr.heap.size+1,0,none⟩ 1 1 (Nd.cells ⟨op,na,nb⟩) rfl rfl HW (by simp[Value.oneCell',Nd.cells]) (by omega) (by unfold maxLen;omega) (by omega) (by simp;omega) (wr.heap.size+2) (by simp) ?_;intro gg cap1 w1 hown1 hgrow1 hat1 hlt1)
     refine⟨⟨m+1,j+1,by simp,by have:=HM.out;omega,by omega,?_,ztg hg (zww hgrow1) ?_⟩,?_⟩
     ·rw[HT.out];exact hown1
     ·cases hb:u6.ownBlock with
      |none=>exact .inl rfl
      |some k=>exact .inr ⟨k,rfl,by have:=(ho.lt k hb).1;simpa using this⟩
     ·have:=HM.out
      simp[intOf];omega
    ·obtain rfl:j=sz x:=by omega
     have d1:decide ((m:Int)<=(kk:Int))=false:=by simp;omega
     have d1n:¬m<=kk:=by omega
     have HT:Hid ((nd x 0).take (sz x)=nd x 0):=by unfold Hid;rw[<-zaj x 0];exact List.take_length
     have hcx1:=(hg.block _ (by simp) (by simp)).trans hcx;have cb:=zab hcx1;have fb:=zaf hcx1;rw[HT.out] at ho;obtain⟨g1,cap1,rfl,hb1,hg1⟩:=ho.form hpx;clear hm
     go_wp2_with fail
     refine zah rfl rfl (zad hcx1) ?_;have B1:Below w.heap.size w wr:=((bal w _).alloc (by simp) _).grown hg (by simp;omega) (by simp);exact⟨g1,cap1,rfl,(Rg.ofOwn HX.out ho).kept (zai _ _) (by simp;omega),by omega,B1.setCell (by simp) _⟩
  ·rw[hr] at k0 k1
   simp only at k0 k1;have hpa:=zaw ha;have HR:Hid (Ok a/\nd t 0=pre++(nd a f++(rest'++rest))):=⟨ha,by rw[HY.out.2,hnd,z1u]⟩
   clear hr hlast HY hnd ha;rcases hop with rfl|rfl|rfl
   all_goals
    go_wp2_with fail
    go_round
    case rel=>exact⟨f+sz a-1,a,_,rfl,by omega,HR,by omega⟩
    case measure=>simp[intOf];omega
end
theorem inT_iff {o:Nat} (ho:970<=o):∀{t:Ty},Ok t->∀f,(inT o t=true ↔ ∃n∈nd t f,n.op=o+30):=by
 intro t
 induction t with
 |nil=>intro h;exact h.elim
 |node g p u a b iha ihb=>
  intro h f
  cases u
  rcases h with ⟨rfl,rfl,rfl,rfl⟩|⟨rfl,rfl,rfl,rfl⟩|⟨rfl,hp,rfl,rfl⟩|⟨rfl,rfl,ha,rfl⟩|⟨rfl,rfl,ha,hb⟩|⟨rfl,rfl,ha,hb⟩
  ·simp[inT,nd,rt,sgn];omega
  ·simp[inT,nd,rt,sgn];omega
  ·simp[inT,nd,rt,sgn]
  ·have h1:=iha ha f
   have e:inT o (tL a)=inT o a:=by simp[inT]
   rw[e,h1];simp only[nd,z1y,List.mem_singleton,List.append_nil];constructor
   ·rintro⟨n,hn,e⟩;exact⟨n,.inl hn,e⟩
   ·rintro⟨n,hn|rfl,e⟩
    ·exact⟨n,hn,e⟩
    ·simp[rt,sgn] at e;omega
  ·have h1:=iha ha f
   have h2:=ihb hb (f+sz a);have e:inT o (tP a b)=(inT o a||inT o b):=by simp[inT]
   rw[e,Bool.or_eq_true,h1,h2];simp only[nd,z1y,List.mem_singleton];constructor
   ·rintro(⟨n,hn,e⟩|⟨n,hn,e⟩)
    ·exact⟨n,.inl (.inl hn),e⟩
    ·exact⟨n,.inl (.inr hn),e⟩
   ·rintro⟨n,(hn|hn)|rfl,e⟩
    ·exact .inl ⟨n,hn,e⟩
    ·exact .inr ⟨n,hn,e⟩
    ·simp[rt,sgn] at e;omega
  ·have h1:=iha ha f
   have h2:=ihb hb (f+sz a);have e:inT o (tF a b)=(inT o a||inT o b):=by simp[inT]
   rw[e,Bool.or_eq_true,h1,h2];simp only[nd,z1y,List.mem_singleton];constructor
   ·rintro(⟨n,hn,e⟩|⟨n,hn,e⟩)
    ·exact⟨n,.inl (.inl hn),e⟩
    ·exact⟨n,.inl (.inr hn),e⟩
   ·rintro⟨n,(hn|hn)|rfl,e⟩
    ·exact .inl ⟨n,hn,e⟩
    ·exact .inr ⟨n,hn,e⟩
    ·simp[rt,sgn] at e;omega
def noneTo (t:Ty) (c k:Nat):Prop:=∀m n,m<k->(nd t 0)[m]? =some n->n.op≠c
theorem has_any (t:Ty) (o g cap:Nat) (w:World) (ht:Rg g t w) (hl:sz t<=1000000) (ho:970<=o/\o<1230):
 CZ 177 #[.agg #[sZ g (sz t) cap],.int .i64 ((o+30:Nat):Int)] w λe w'=>e=.returned (.bool (inT o t))/\Below w.heap.size w w':=by
 have HI:=hid (inT_iff ho.1 ht.ok 0);have hb1:(w.alloc (.cells #[sZ g (sz t) cap] 33)).heap[w.heap.size]? =some (.cells #[sZ g (sz t) cap] 33 (0,0)):=z1v w _;have hX:=ht.alloc (.cells #[sZ g (sz t) cap] 33);have B0:Below w.heap.size w (w.alloc (.cells #[sZ g (sz t) cap] 33)):=bal w _;have c0:=zab hb1;obtain⟨c,hc⟩:∃c,c=o+30:=⟨_,rfl⟩
 rw[<-hc];have HC:=hid hc;have hc1:c<2000:=by omega
 clear hc ho;generalize hW:w.alloc (.cells #[sZ g (sz t) cap] 33)=W at *
 have HW:Hid (W.heap.size=w.heap.size+1):=by unfold Hid;rw[<-hW];simp
 go_enter Tryz.func177,Tryz.ntmps177;go_wp21
 go_loopw [5] (λi wr=>∃k:Nat,i=(iZ k)/\k<=sz t/\Hid (noneTo t c k)/\wr=W) (λi _=>sz t-(intOf i).toNat)
 case atStart=>exact⟨0,rfl,Nat.zero_le _,λm n hm=>absurd hm (by omega),rfl⟩
 case round=>
  obtain⟨k,rfl,hk,HU,rfl⟩:=hrel;rcases z1r k (sz t) with hlt|hge
  ·obtain⟨⟨p,a,b⟩,hn⟩:∃n,(nd t 0)[k]? =some n:=⟨_,z1h (by rw[zaj];exact hlt)⟩
   have k0:=(hX.cell k _ hn).1;simp only at k0;have HN:=hid hn;clear hn;by_cases hp:p=c
   ·have e1:((p:Int)==(c:Int))=true:=by rw[hp];simp
    have HR:=hid (HI.out.2 ⟨⟨p,a,b⟩,z1m HN.out,by rw[<-HC.out];exact hp⟩);clear hp;go_wp21;go_ret;rw[HR.out];exact⟨rfl,B0⟩
   ·have e1:((p:Int)==(c:Int))=false:=by rw[beq_eq_false_iff_ne];omega
    have HM:Hid (noneTo t c (k+1)):=by
     intro m n hm hn;rcases z1r m k with h1|h1
     ·exact HU m n h1 hn
     ·obtain rfl:m=k:=by omega
      have:=HN.out;rw[hn] at this;obtain rfl:=z1q this;exact hp
    clear hp;go_wp21;go_roundw
    case rel=>exact⟨k+1,by simp,by omega,HM,by trivial⟩
    case measure=>simp[intOf];omega
  ·obtain rfl:k=sz t:=by omega
   have HR:Hid (inT o t=false):=by
    unfold Hid
    cases hq:inT o t
    ·rfl
    ·obtain⟨n,hm,e⟩:=HI.1 hq
     obtain⟨m,hm,e2⟩:=List.getElem_of_mem hm;have l:=zaj t 0;exact absurd (e.trans HC.out.symm) (HU.out m n (by omega) (by rw[z1h hm,e2]))
   go_wp21;go_ret;rw[HR.out];exact⟨rfl,B0⟩
def Is (w:World) (v:Value) (l:List Nat):Prop:=∃a cap,v=.slice a l.length cap/\(l=[]\/∃g,a=some ⟨g,0,none⟩/\g<w.heap.size/\∀(k n:Nat),l[k]? =some n->w.cell? ⟨g,k,none⟩=some (iZ n))
def noneIn (l:List Nat) (c k:Nat):Prop:=∀m,m<k->l[m]? ≠some c
theorem zjy (l:List Nat) (v:Value) (c:Nat) (w:World) (h:Is w v l) (hl:l.length<=1000000):
 CZ 60 #[v,iZ c] w λe w'=>e=.returned (.bool (l.contains c))/\w'=w:=by
 obtain⟨a,cap,rfl,hv⟩:=h;go_enter Tryz.func60,Tryz.ntmps60;go_wp21
 go_loopw [5] (λi wr=>∃k:Nat,i=(iZ k)/\k<=l.length/\Hid (noneIn l c k)/\wr=w) (λi _=>l.length-(intOf i).toNat)
 case atStart=>exact⟨0,rfl,Nat.zero_le _,λm hm=>absurd hm (by omega),rfl⟩
 case round=>
  obtain⟨k,rfl,hk,HU,rfl⟩:=hrel;rcases z1r k l.length with hlt|hge
  ·rcases hv with rfl|⟨g,rfl,hg,hc⟩
   ·simp at hlt
   obtain⟨n,hn⟩:∃n,l[k]? =some n:=⟨_,z1h hlt⟩
   have k0:=hc k n hn;have HN:=hid hn;clear hn hc;by_cases hp:n=c
   ·have e1:((n:Int)==(c:Int))=true:=by rw[hp];simp
    have HR:Hid (l.contains c=true):=by
     unfold Hid;rw[z2b];have:=HN.out;rw[hp] at this;exact z1m this
    clear hp;generalize l.length=ll at *
    go_wp21;go_ret;rw[HR.out];exact⟨rfl,rfl⟩
   ·have e1:((n:Int)==(c:Int))=false:=by rw[beq_eq_false_iff_ne];omega
    have HM:Hid (noneIn l c (k+1)):=by
     intro m hm;rcases z1r m k with h1|h1
     ·exact HU m h1
     ·obtain rfl:m=k:=by omega
      rw[HN.out];simpa using hp
    clear hp;go_wp21;go_roundw
    case rel=>exact⟨k+1,by simp,by omega,HM,by trivial⟩
    case measure=>simp[intOf];omega
  ·obtain rfl:k=l.length:=by omega
   have HR:Hid (l.contains c=false):=by
    unfold Hid
    cases hq:l.contains c
    ·rfl
    ·rw[z2b] at hq
     obtain⟨m,hm,e2⟩:=List.getElem_of_mem hq;exact absurd (by rw[z1h hm,e2]) (HU.out m hm)
   go_wp21;go_ret;rw[HR.out];exact⟨rfl,rfl⟩
def Ls (w:World) (V:Value) (ts:List Ty):Prop:=∃a cap,V=.slice a ts.length cap/\(ts=[]\/∃g,a=some ⟨g,0,none⟩/\g<w.heap.size/\∀(k:Nat) (t:Ty),ts[k]? =some t->∃h c,w.cell? ⟨g,k,none⟩=some (sZ h (sz t) c)/\Rg h t w)
def opN:List Nat->List Ty->Nat->Nat
 |o::v,t::g,c=>if c=o+30 then sz t else opN v g c
 |_,_,_=>1
def sumN (v:List Nat) (g:List Ty):List Nd->Nat
 |[]=>0
 |n::l=>opN v g n.op+sumN v g l
section
variable {v:List Nat} {g:List Ty}
theorem zdm (v:List Nat) (g:List Ty) (l m:List Nd):sumN v g (l++m)=sumN v g l+sumN v g m:=by
 induction l with
 |nil=>simp[sumN]
 |cons n l ih=>simp[sumN,ih];omega
theorem opN_var:∀(v:List Nat) (g:List Ty) (o:Nat),opN v g (o+30)=sz ((look (v.zip g) o).getD (tV o)):=by
 intro v
 induction v with
 |nil=>intro g o;simp[opN,look,sz]
 |cons p v ih=>
  intro g o
  cases g with
  |nil=>simp[opN,look,sz]
  |cons t g=>
   simp only[opN,List.zip_cons_cons,look];by_cases e:p=o
   ·subst e;simp
   ·rw[if_neg (by omega),if_neg e];exact ih g o
theorem zjj:∀(v:List Nat) (g:List Ty) (c:Nat),(∀o∈v,970<=o)->c<1000->opN v g c=1:=by
 intro v
 induction v with
 |nil=>intro g c _ _;rfl
 |cons p v ih=>
  intro g c h hc
  cases g with
  |nil=>rfl
  |cons t g=>
   have:=h p z1k;simp only[opN];rw[if_neg (by omega)];exact ih g c (λo ho=>h o (z1j _ ho)) hc
theorem sumN_put (hv:∀o∈v,970<=o):∀{t:Ty},Ok t->∀f,sumN v g (nd t f)=sz (putT v g t):=by
 intro t;unfold putT
 induction t with
 |nil=>intro h;exact h.elim
 |node k p u a b iha ihb=>
  intro h f
  cases u
  rcases h with ⟨rfl,rfl,rfl,rfl⟩|⟨rfl,rfl,rfl,rfl⟩|⟨rfl,hp,rfl,rfl⟩|⟨rfl,rfl,ha,rfl⟩|⟨rfl,rfl,ha,hb⟩|⟨rfl,rfl,ha,hb⟩
  ·simp[nd,rt,sgn,sumN,sub,sz,zjj v g 73 hv (by decide)]
  ·simp[nd,rt,sgn,sumN,sub,sz,zjj v g 66 hv (by decide)]
  ·simp[nd,rt,sgn,sumN,sub,opN_var]
  ·have h1:=iha ha f
   show sumN v g (nd a f++[]++[rt (tL a) f])=sz (tL (sub _ a));rw[List.append_nil,zdm,h1];simp[sumN,rt,sgn,sz,zjj v g 91 hv (by decide)]
  ·have h1:=iha ha f
   have h2:=ihb hb (f+sz a);show sumN v g (nd a f++nd b (f+sz a)++[rt (tP a b) f])=sz (tP (sub _ a) (sub _ b));rw[zdm,zdm,h1,h2];simp[sumN,rt,sgn,sz,zjj v g 42 hv (by decide)]
  ·have h1:=iha ha f
   have h2:=ihb hb (f+sz a);show sumN v g (nd a f++nd b (f+sz a)++[rt (tF a b) f])=sz (tF (sub _ a) (sub _ b));rw[zdm,zdm,h1,h2];simp[sumN,rt,sgn,sz,zjj v g 62 hv (by decide)]
theorem opN_at:∀(v:List Nat) (g:List Ty) (c k:Nat) (o:Nat) (t:Ty),(∀(m p:Nat),m<k->v[m]? =some p->c≠p+30)->v[k]? =some o->g[k]? =some t->c=o+30->opN v g c=sz t:=by
 intro v
 induction v with
 |nil=>intro g c k o t _ h;simp at h
 |cons p v ih=>
  intro g c k o t hn ho ht e
  cases g with
  |nil=>simp at ht
  |cons u g=>
   cases k with
   |zero=>
    simp at ho ht;subst ho;subst ht;simp[opN,e]
   |succ k=>
    simp only[opN];rw[if_neg (hn 0 p (by omega) rfl)];exact ih g c k o t (λm q hm hq=>hn (m+1) q (by omega) (by simpa using hq)) (by simpa using ho) (by simpa using ht) e
theorem opN_none:∀(v:List Nat) (g:List Ty) (c:Nat),(∀(m p:Nat),v[m]? =some p->c≠p+30)->opN v g c=1:=by
 intro v
 induction v with
 |nil=>intro g c _;rfl
 |cons p v ih=>
  intro g c hn
  cases g with
  |nil=>rfl
  |cons u g=>
   simp only[opN];rw[if_neg (hn 0 p rfl)];exact ih g c (λm q hq=>hn (m+1) q (by simpa using hq))
theorem sumN_take {l:List Nd} {k:Nat} {n:Nd} (h:l[k]? =some n):sumN v g (l.take (k+1))=sumN v g (l.take k)+opN v g n.op:=by
 rw[List.take_add_one,h,zdm];simp[sumN]
theorem sumN_le {m:Nat} (hm:1<=m) (hg:∀t∈g,sz t<=m) (l:List Nd):sumN v g l<=m*l.length:=by
 have h1:∀(v:List Nat) (g:List Ty) (c:Nat),(∀t∈g,sz t<=m)->opN v g c<=m:=by
  intro v
  induction v with
  |nil=>intro g c _;exact hm
  |cons p v ih=>
   intro g c hg
   cases g with
   |nil=>exact hm
   |cons u g=>
    simp only[opN];split
    ·exact hg u z1k
    ·exact ih g c (λt ht=>hg t (z1j _ ht))
 induction l with
 |nil=>simp[sumN]
 |cons n l ih=>have:=h1 v g n.op hg;simp[sumN,Nat.mul_add];omega
theorem ztm (t:Ty) (v:List Nat) (ts:List Ty) (g cap:Nat) (V G:Value) (w:World) (ht:Rg g t w) (hl:sz t<=60000) (hv:Is w V (v.map (·+30))) (hG:Ls w G ts) (hlen:ts.length=v.length) (hlv:v.length<=60000) (hts:∀u∈ts,sz u<=60000) (hv9:∀o∈v,970<=o):
 CZ 140 #[.agg #[sZ g (sz t) cap],V,G] w λe w'=>e=.returned (.int .i64 (sz (putT v ts t):Int))/\Below w.heap.size w w':=by
 have HS:Hid (sumN v ts (nd t 0)=sz (putT v ts t)):=sumN_put hv9 ht.ok 0
 have HB:Hid (∀k,sumN v ts ((nd t 0).take k)<=3600000000):=λk=>by
  have h1:=sumN_le (v:=v) (g:=ts) (by decide:1<=60000) hts ((nd t 0).take k);have h2:((nd t 0).take k).length<=60000:=by rw[List.length_take,zaj];omega
  have:60000*((nd t 0).take k).length<=60000*60000:=Nat.mul_le_mul_left _ h2;omega
 have hb1:(w.alloc (.cells #[sZ g (sz t) cap] 33)).heap[w.heap.size]? =some (.cells #[sZ g (sz t) cap] 33 (0,0)):=z1v w _;have hX:=ht.alloc (.cells #[sZ g (sz t) cap] 33);have B0:Below w.heap.size w (w.alloc (.cells #[sZ g (sz t) cap] 33)):=bal w _;have c0:=zab hb1;obtain⟨va,vcap,rfl,hva⟩:=hv;obtain⟨ga,gcap,rfl,hga⟩:=hG;rw[z2a] at *
 rw[hlen]
 have HV:Hid (v=[]\/∃q,va=some ⟨q,0,none⟩/\∀(k n:Nat),v[k]? =some n->∀W',Below w.heap.size w W'->cZ W' q k (.int .i64 ((n+30:Nat):Int))):=by
  rcases hva with e|⟨q,rfl,hq,hc⟩
  ·exact .inl (by simpa using e)
  ·exact .inr ⟨q,rfl,λk n hk W' hW=>(hW.cell (p:=⟨q,k,none⟩) hq).trans (hc k (n+30) (by rw[z1n,hk];rfl))⟩
 have HG:Hid (ts=[]\/∃q,ga=some ⟨q,0,none⟩/\∀(k:Nat) (u:Ty),ts[k]? =some u->∃h c,∀W',Below w.heap.size w W'->cZ W' q k (sZ h (sz u) c)):=by
  rcases hga with e|⟨q,rfl,hq,hc⟩
  ·exact .inl e
  ·refine .inr ⟨q,rfl,λk u hk=>?_⟩
   obtain⟨h,c,h1,_⟩:=hc k u hk;exact⟨h,c,λW' hW=>(hW.cell (p:=⟨q,k,none⟩) hq).trans h1⟩
 clear hva hga;generalize hW:w.alloc (.cells #[sZ g (sz t) cap] 33)=W at *
 have HT:=hid hts;clear hts hv9 hb1;generalize hsz:sz t=st at *
 have HZ:=hid hsz;clear hsz;generalize hvl:v.length=vl at *
 have HVL:=hid hvl;clear hvl;go_enter Tryz.func140,Tryz.ntmps140
 go_wp2_with fail
 have hXc:Hid (∀k n,(nd t 0)[k]? =some n->cZ W g (k*3) (iZ n.op)):=λk n hn=>(hX.cell k n hn).1
 clear hX ht
 go_loopw [7,8] (λn i wr=>∃k m d:Nat,i=(iZ k)/\n=(iZ m)/\k<=st/\Hid (m=sumN v ts ((nd t 0).take k))/\m<=3600000000/\wr=W.drewN d) (λ_ i _=>st-(intOf i).toNat)
 case atStart=>exact⟨0,0,0,rfl,rfl,Nat.zero_le _,by simp[Hid,sumN],by omega,rfl⟩
 case round=>
  obtain⟨k,m,d,rfl,rfl,hk,HM,hm,rfl⟩:=hrel;have c0':(W.drewN d).cell? ⟨w.heap.size,0,none⟩=some (sZ g st cap):=c0;rcases z1r k st with hlt|hge
  ·obtain⟨⟨p,pa,pb⟩,hn⟩:∃n,(nd t 0)[k]? =some n:=⟨_,z1h (by rw[zaj,HZ.out];exact hlt)⟩
   have HN:=hid hn;have k0:=hXc.out k _ hn;simp only at k0;clear hn;have hsum:Hid (sumN v ts ((nd t 0).take (k+1))=m+opN v ts p):=by unfold Hid;rw[sumN_take HN.out,HM.out]
   go_wp2_with fail
   go_loopw [7,9] (λn j wr=>∃q d:Nat,j=(iZ q)/\n=.int .i64 ((m:Int)+1)/\q<=vl/\Hid (∀(i x:Nat),i<q->v[i]? =some x->p≠x+30)/\wr=W.drewN d) (λ_ j _=>vl-(intOf j).toNat)
   case atStart=>exact⟨0,d,rfl,rfl,Nat.zero_le _,λi x hi=>absurd hi (by omega),rfl⟩
   case round=>
    clear c0';obtain⟨q,d,rfl,rfl,hq,HU,rfl⟩:=hrel;have c0':(W.drewN d).cell? ⟨w.heap.size,0,none⟩=some (sZ g st cap):=c0;have k0':(W.drewN d).cell? ⟨g,k*3,none⟩=some (iZ p):=k0;rcases z1r q vl with hlt2|hge2
    ·obtain⟨x,hx⟩:∃x,v[q]? =some x:=⟨_,z1h (by rw[HVL.out];exact hlt2)⟩
     obtain⟨u,hu⟩:∃u,ts[q]? =some u:=⟨_,z1h (by omega)⟩
     obtain⟨qv,rfl,hqv⟩:∃qv,va=some ⟨qv,0,none⟩/\cZ W qv q (.int .i64 ((x+30:Nat):Int)):=by
      rcases HV.out with e|⟨qv,e,hc⟩
      ·rw[e] at hx;simp at hx
      ·exact⟨qv,e,hc q x hx W B0⟩
     obtain⟨qg,hh,cc,rfl,hqg⟩:∃qg hh cc,ga=some ⟨qg,0,none⟩/\cZ W qg q (sZ hh (sz u) cc):=by
      rcases HG.out with e|⟨qg,e,hc⟩
      ·rw[e] at hu;simp at hu
      ·obtain⟨hh,cc,h1⟩:=hc q u hu
       exact⟨qg,hh,cc,e,h1 W B0⟩
     have v0:(W.drewN d).cell? ⟨qv,q,none⟩=some (.int .i64 ((x+30:Nat):Int)):=hqv;have HX:=hid hx;have HU2:=hid hu;have hsu:=HT.out u (z1m hu);obtain⟨y,hy⟩:∃y,y=x+30:=⟨_,rfl⟩
     rw[<-hy] at v0 hqv;have HY:=hid hy;clear hx hu hy;by_cases hp:p=y
     ·have HO:Hid (opN v ts p=sz u):=opN_at v ts p q x u HU.out HX.out HU2.out (by rw[hp];exact HY.out)
      have e1:((p:Int)==(y:Int))=true:=by rw[hp];simp
      clear hp;generalize sz u=su at *
      have hf:Hid (m+su<=3600000000):=by unfold Hid;have:=HB.out (k+1);rw[hsum.out,HO.out] at this;exact this
      have hf':=hf.out;have e2:(m:Int)+1+(su:Int)-1=((m+su:Nat):Int):=by omega
      go_wp2_with fail
      go_quiet (fail)
      go_wp2_with fail
      go_roundw
      case rel=>exact⟨k+1,m+su,_,by simp,by first|exact congrArg _ e2|simp,by omega,by unfold Hid;rw[hsum.out,HO.out],hf',rfl⟩
      case measure=>simp[intOf];omega
     ·have e1:((p:Int)==(y:Int))=false:=by rw[beq_eq_false_iff_ne];omega
      have HM2:Hid (∀(i z:Nat),i<q+1->v[i]? =some z->p≠z+30):=by
       intro i z hi hz;rcases z1r i q with h1|h1
       ·exact HU.out i z h1 hz
       ·obtain rfl:i=q:=by omega
        rw[HX.out] at hz;obtain rfl:=z1q hz;rw[<-HY.out];exact hp
      clear hp
      go_wp2_with fail
      go_quiet (fail)
      go_wp2_with fail
      go_roundw
      case rel=>exact⟨q+1,_,by simp,rfl,by omega,HM2,rfl⟩
      case measure=>simp[intOf];omega
    ·obtain rfl:q=vl:=by omega
     have HO:Hid (opN v ts p=1):=opN_none v ts p (λi x hx=>HU.out i x (by have:=(z1b.1 hx).1;have:=HVL.out;omega) hx);have hf:m+1<=3600000000:=by have:=HB.out (k+1);rw[hsum.out,HO.out] at this;exact this
     go_wp2_with fail
     go_roundw
     case rel=>exact⟨k+1,m+1,_,by simp,by simp,by omega,by unfold Hid;rw[hsum.out,HO.out],hf,rfl⟩
     case measure=>simp[intOf];omega
  ·obtain rfl:k=st:=by omega
   have HR:Hid (m=sz (putT v ts t)):=by
    unfold Hid;rw[HM.out,<-HS.out,List.take_of_length_le (by rw[zaj,HZ.out];exact z1d _)]
   go_wp2_with fail
   go_ret;rw[<-HR.out];exact⟨rfl,below_drewN B0 d⟩
end
section
variable (t x:Ty) (op c:Nat) (pre post:List Nd) (g cap:Nat) (w:World) (gt:Nat)
theorem Rg.drew {g:Nat} {t:Ty} {w:World} (h:Rg g t w):Rg g t w.drew:=⟨h.ok,h.lt,h.cell⟩
theorem zmr (w:World) (o o':Obj):((w.alloc o).alloc o').drew.heap.size=w.heap.size+2:=by show ((w.alloc o).alloc o').heap.size=_;simp
theorem zkm {w w1:World} {o o':Obj} (hb:Below ((w.alloc o).alloc o').drew.heap.size ((w.alloc o).alloc o').drew w1):Below w.heap.size w w1:=by
 have B0:Below w.heap.size w ((w.alloc o).alloc o').drew:=((bal w o).alloc (by simp) o').drew;exact B0.trans (hb.mono B0.size)
theorem zpe (ht:Rg g t w) (hl:sz t<=1000000) (hx:Ok x) (hN:nd t 0=pre++(nd x pre.length++post)) (hr:rt t 0=⟨op,pre.length+sz x-1,c⟩):
 CZ 64 #[.agg #[sZ g (sz t) cap]] w (zcl x w):=by
 have hpos:=zaw ht.ok;have hpx:=zaw hx;have hA:=(ht.alloc (.cells #[sZ g (sz t) cap] 33)).alloc (.cells #[.slice none 0 0] 33);have KK:=hA.cell (sz t-1) _ (zib t ht.ok 0);rw[hr] at KK;obtain⟨m,hm⟩:∃m,m=sz t-1:=⟨_,rfl⟩
 rw[<-hm] at KK;have k1:=KK.2.1;have k2:=KK.2.2;simp only at k1 k2;obtain⟨kk,hkk⟩:∃kk,kk=pre.length+sz x-1:=⟨_,rfl⟩
 rw[<-hkk] at k1
 have HP:Hid (∀w':World,Rg g t w'->CZ 102 #[.agg #[sZ g (sz t) cap],iZ kk] w' (zcl x w')):=
  λw' h'=>zyi t x pre post pre.length kk g cap w' h' hl hx hN rfl (by omega)
 have hcx:=heap_alloc2_new w (.cells #[sZ g (sz t) cap] 33) (.cells #[.slice none 0 0] 33);have e1:((sz t:Int)-1)=(m:Int):=by omega
 have hklt:kk<sz t:=by
  have:=zaj t 0;rw[hN,z1l,z1l,zaj] at this;omega
 have b1:m<sz t:=by omega
 have hw:IntKind.i64.wrap (m:Int)=(m:Int):=IntWalk.i64_in _ ⟨by omega,by omega⟩;clear hN hr hkk KK hm;go_enter Tryz.func64,Tryz.ntmps64
 go_wp2_with fail
 go_region_with (go_at_call 102;refine(HP.out _ hA.drew).mono ?_;rintro e w1 ⟨g1,cap1,rfl,hR1,hg1,hb1⟩;have hc1:w1.heap[w.heap.size+1]? =some (.cells #[.slice none 0 0] 33 (0,0)):=(hb1.block (w.heap.size+1) (by show w.heap.size+1<((w.alloc _).alloc _).heap.size;simp)).trans hcx;have cb:=zab hc1;have fb:=zaf hc1)
 all_goals
  rw[zmr] at hg1
  go_wp2_with fail
  refine zah rfl rfl (zad hc1) ?_;exact⟨g1,cap1,rfl,hR1.kept (zai _ _) (by simp;omega),by omega,(zkm hb1).setCell (by simp) _⟩
theorem zvp (ht:Rg g t w) (hl:sz t<=1000000) (hx:Ok x) (hN:nd t 0=pre++(nd x pre.length++post)) (hr:rt t 0=⟨op,c,pre.length+sz x-1⟩):
 CZ 65 #[.agg #[sZ g (sz t) cap]] w (zcl x w):=by
 have hpos:=zaw ht.ok;have hpx:=zaw hx;have hA:=(ht.alloc (.cells #[sZ g (sz t) cap] 33)).alloc (.cells #[.slice none 0 0] 33);have KK:=hA.cell (sz t-1) _ (zib t ht.ok 0);rw[hr] at KK;obtain⟨m,hm⟩:∃m,m=sz t-1:=⟨_,rfl⟩
 rw[<-hm] at KK;have k1:=KK.2.1;have k2:=KK.2.2;simp only at k1 k2;obtain⟨kk,hkk⟩:∃kk,kk=pre.length+sz x-1:=⟨_,rfl⟩
 rw[<-hkk] at k2
 have HP:Hid (∀w':World,Rg g t w'->CZ 102 #[.agg #[sZ g (sz t) cap],iZ kk] w' (zcl x w')):=
  λw' h'=>zyi t x pre post pre.length kk g cap w' h' hl hx hN rfl (by omega)
 have hcx:=heap_alloc2_new w (.cells #[sZ g (sz t) cap] 33) (.cells #[.slice none 0 0] 33);have e1:((sz t:Int)-1)=(m:Int):=by omega
 have hklt:kk<sz t:=by
  have:=zaj t 0;rw[hN,z1l,z1l,zaj] at this;omega
 have b1:m<sz t:=by omega
 have hw:IntKind.i64.wrap (m:Int)=(m:Int):=IntWalk.i64_in _ ⟨by omega,by omega⟩;clear hN hr hkk KK hm;go_enter Tryz.func65,Tryz.ntmps65
 go_wp2_with fail
 go_region_with (go_at_call 102;refine(HP.out _ hA.drew).mono ?_;rintro e w1 ⟨g1,cap1,rfl,hR1,hg1,hb1⟩;have hc1:w1.heap[w.heap.size+1]? =some (.cells #[.slice none 0 0] 33 (0,0)):=(hb1.block (w.heap.size+1) (by show w.heap.size+1<((w.alloc _).alloc _).heap.size;simp)).trans hcx;have cb:=zab hc1;have fb:=zaf hc1)
 all_goals
  rw[zmr] at hg1
  go_wp2_with fail
  refine zah rfl rfl (zad hc1) ?_;exact⟨g1,cap1,rfl,hR1.kept (zai _ _) (by simp;omega),by omega,(zkm hb1).setCell (by simp) _⟩
theorem zgd (a:Ty) (ha:Ok a) (g cap:Nat) (w:World) (ht:Rg g (tL a) w) (hl:sz (tL a)<=1000000):CZ 64 #[.agg #[sZ g (sz (tL a)) cap]] w (zcl a w):=
 zpe (tL a) a 91 0 [] _ g cap w ht hl ha (by rw[list_nd a ha];rfl) (by simp[rt,rtA,rtB,sgn])
theorem zch (hgt:gt=4\/gt=5) (a b:Ty) (ha:Ok a) (g cap:Nat) (w:World) (ht:Rg g (.node gt 0 () a b) w) (hl:sz (.node gt 0 () a b)<=1000000):CZ 64 #[.agg #[sZ g (sz (.node gt 0 () a b)) cap]] w (zcl a w):=
 zpe _ a (sgn gt 0) (sz a+sz b-1) [] _ g cap w ht hl ha (by rw[zuw gt hgt,z1u];rfl) (by rcases hgt with rfl|rfl<;>simp[rt,rtA,rtB,sgn])
theorem zbz (hgt:gt=4\/gt=5) (a b:Ty) (hb:Ok b) (g cap:Nat) (w:World) (ht:Rg g (.node gt 0 () a b) w) (hl:sz (.node gt 0 () a b)<=1000000):CZ 65 #[.agg #[sZ g (sz (.node gt 0 () a b)) cap]] w (zcl b w):=
 zvp _ b (sgn gt 0) (sz a-1) (nd a 0) _ g cap w ht hl hb (by rw[zuw gt hgt,zaj,z1u]) (by rw[zaj];rcases hgt with rfl|rfl<;>simp[rt,rtA,rtB,sgn])
end
def ztz (t:Ty) (w:World) (e:Ending) (w':World):Prop:=∃g cap,e=.returned (.agg #[sZ g (sz t) cap])/\Rg g t w'/\Below w.heap.size w w'
section
variable {V:Value} {w w':World}
theorem look_at:∀(v:List Nat) (g:List Ty) (o k:Nat) (t:Ty),(∀(m p:Nat),m<k->v[m]? =some p->o≠p)->v[k]? =some o->g[k]? =some t->look (v.zip g) o=some t:=by
 intro v
 induction v with
 |nil=>intro g o k t _ h;simp at h
 |cons p v ih=>
  intro g o k t hn ho ht
  cases g with
  |nil=>simp at ht
  |cons u g=>
   cases k with
   |zero=>
    simp at ho ht;subst ho;subst ht;simp[look]
   |succ k=>
    simp only[List.zip_cons_cons,look];rw[if_neg (λe=>hn 0 p (by omega) rfl e.symm)];exact ih g o k t (λm q hm hq=>hn (m+1) q (by omega) (by simpa using hq)) (by simpa using ho) (by simpa using ht)
theorem look_not:∀(v:List Nat) (g:List Ty) (o:Nat),(∀(m p:Nat),v[m]? =some p->o≠p)->look (v.zip g) o=none:=by
 intro v
 induction v with
 |nil=>intro g o _;rfl
 |cons p v ih=>
  intro g o hn
  cases g with
  |nil=>rfl
  |cons u g=>
   simp only[List.zip_cons_cons,look];rw[if_neg (λe=>hn 0 p rfl e.symm)];exact ih g o (λm q hq=>hn (m+1) q (by simpa using hq))
theorem sign_var {t:Ty} (h:Ok t) {o:Nat} (ho:970<=o) (e:(rt t 0).op=o+30):t=tV o:=by
 rcases h.cases with rfl|rfl|⟨p,_,_,rfl⟩|⟨a,ha,rfl⟩|⟨a,b,ha,hb,rfl⟩|⟨a,b,ha,hb,rfl⟩<;>simp[rt,sgn] at e
 ·omega
 ·omega
 ·subst e;rfl
 ·omega
 ·omega
 ·omega
def zhe (t:Ty):Prop:=∀(v:List Nat) (ts:List Ty) (g cap:Nat) (V G:Value) (w:World),Rg g t w->sz t<=60000->Is w V (v.map (·+30))->Ls w G ts->ts.length=v.length->v.length<=60000->(∀o∈v,970<=o)->sz (putT v ts t)<=50000->
 CZ 41 #[.agg #[sZ g (sz t) cap],V,G] w (ztz (putT v ts t) w)
theorem Is.below {l:List Nat} (h:Is w V l) (hb:Below w.heap.size w w'):Is w' V l:=by
 obtain⟨a,cap,rfl,h⟩:=h;refine⟨a,cap,rfl,?_⟩;rcases h with h|⟨g,rfl,hg,hc⟩
 ·exact .inl h
 ·exact .inr ⟨g,rfl,z1e hg hb.size,λk n hk=>(hb.cell (p:=⟨g,k,none⟩) hg).trans (hc k n hk)⟩
theorem Ls.below {l:List Ty} (h:Ls w V l) (hb:Below w.heap.size w w'):Ls w' V l:=by
 obtain⟨a,cap,rfl,h⟩:=h;refine⟨a,cap,rfl,?_⟩;rcases h with h|⟨g,rfl,hg,hc⟩
 ·exact .inl h
 ·refine .inr ⟨g,rfl,z1e hg hb.size,λk t hk=>?_⟩
  obtain⟨q,c,h1,h2⟩:=hc k t hk;exact⟨q,c,(hb.cell (p:=⟨g,k,none⟩) hg).trans h1,h2.below hb⟩
abbrev tbO (g n cap:Nat):Obj:=.cells #[sZ g n cap] 33
abbrev rbO:Obj:=.cells #[.slice none 0 0] 33
abbrev nbO (p a b:Nat):Obj:=.cells #[iZ p,iZ a,iZ b] 107
theorem zqc (t:Ty) (hp1:(rt t 0).op≠91) (hp2:(rt t 0).op≠42) (hp3:(rt t 0).op≠62) (hleaf:∀v ts,(∀(m x:Nat),v[m]? =some x->(rt t 0).op≠x+30)->putT v ts t=t):zhe t:=by
 intro v ts g cap V G w ht hl hv hG hlen hlv hv9 hsm;have HVB:=hid hv;have HGB:=hid hG;have hpos:=zaw ht.ok;obtain⟨m,hm⟩:∃m,m=sz t-1:=⟨_,rfl⟩
 have KK:=ht.cell (sz t-1) _ (zib t ht.ok 0);rw[<-hm] at KK;obtain⟨k0,k1,k2⟩:=KK;have e1:((sz t:Int)-1)=(m:Int):=by omega
 have hwr:IntKind.i64.wrap (m:Int)=(m:Int):=IntWalk.i64_in _ ⟨by omega,by omega⟩;have b1:m<sz t:=by omega
 obtain⟨va,vcap,rfl,hva⟩:=hv;obtain⟨ga,gcap,rfl,hga⟩:=hG;rw[z2a] at *
 rw[hlen];have lg:=ht.lt;have HM:=hid hm;clear hm;have HRT:Hid (rt t 0=⟨(rt t 0).op,(rt t 0).a,(rt t 0).b⟩):=rfl;generalize hp:(rt t 0).op=p at *
 have HP:=hid hp;clear hp;generalize (rt t 0).a=pa at *
 generalize (rt t 0).b=pb at *
 have HT:=hid ht;have HL:=hid hleaf
 have HV:Hid (v=[]\/∃q,va=some ⟨q,0,none⟩/\∀(k n:Nat),v[k]? =some n->∀W',Below w.heap.size w W'->cZ W' q k (.int .i64 ((n+30:Nat):Int))):=by
  rcases hva with e|⟨q,rfl,hq,hc⟩
  ·exact .inl (by simpa using e)
  ·exact .inr ⟨q,rfl,λk n hk W' hW=>(hW.cell (p:=⟨q,k,none⟩) hq).trans (hc k (n+30) (by rw[z1n,hk];rfl))⟩
 have HG:Hid (ts=[]\/∃q,ga=some ⟨q,0,none⟩/\∀(k:Nat) (u:Ty),ts[k]? =some u->∃h c,(∀W',Below w.heap.size w W'->cZ W' q k (sZ h (sz u) c))/\Rg h u w):=by
  rcases hga with e|⟨q,rfl,hq,hc⟩
  ·exact .inl e
  ·refine .inr ⟨q,rfl,λk u hk=>?_⟩
   obtain⟨h,c,h1,h2⟩:=hc k u hk;exact⟨h,c,λW' hW=>(hW.cell (p:=⟨q,k,none⟩) hq).trans h1,h2⟩
 have H9:=hid hv9;clear hva hga hleaf hv9 ht;have ep1:((p:Int)==91)=false:=by rw[beq_eq_false_iff_ne];omega
 have ep2:((p:Int)==42)=false:=by rw[beq_eq_false_iff_ne];omega
 have ep3:((p:Int)==62)=false:=by rw[beq_eq_false_iff_ne];omega
 generalize hst:sz t=st at *
 have HZ:=hid hst;clear hst;generalize hvl:v.length=vl at *
 have HVL:=hid hvl;clear hvl;have B0:Below w.heap.size w (((w.alloc (tbO g st cap)).alloc rbO).alloc (nbO p pa pb)):=((bal w _).alloc (by simp) _).alloc (by simp;omega) _
 have rb:(((w.alloc (tbO g st cap)).alloc rbO).alloc (nbO p pa pb)).heap[w.heap.size+1]? =some (.cells #[.slice none 0 0] 33 (0,0)):=by
  rw[Below.heap_alloc _ _ _ (by simp)];exact heap_alloc2_new w _ _
 have tb:(((w.alloc (tbO g st cap)).alloc rbO).alloc (nbO p pa pb)).heap[w.heap.size]? =some (.cells #[sZ g st cap] 33 (0,0)):=by
  rw[Below.heap_alloc _ _ _ (by simp;omega),Below.heap_alloc _ _ _ (by simp)];exact z1v w _
 have nb:(((w.alloc (tbO g st cap)).alloc rbO).alloc (nbO p pa pb)).heap[w.heap.size+2]? =some (nbO p pa pb):=by
  have:=z1v ((w.alloc (tbO g st cap)).alloc rbO) (nbO p pa pb);simpa using this
 go_enter Tryz.func41,Tryz.ntmps41;go_wp21;generalize hW:((w.alloc (tbO g st cap)).alloc rbO).alloc (nbO p pa pb)=W at *
 have c3:=zab tb;have cr:=zab rb;have fr:=zaf rb;have n0:cZ W (w.heap.size+2) 0 (iZ p):=cbl nb;clear tb nb hW k0 k1 k2
 go_loopw [8] (λj wr=>∃q d:Nat,j=(iZ q)/\q<=vl/\Hid (∀(i x:Nat),i<q->v[i]? =some x->p≠x+30)/\wr=W.drewN d) (λj _=>vl-(intOf j).toNat)
 case atStart=>exact⟨0,0,rfl,Nat.zero_le _,λi x hi=>absurd hi (by omega),rfl⟩
 case round=>
  obtain⟨q,d,rfl,hq,HU,rfl⟩:=hrel;rcases z1r q vl with hlt2|hge2
  ·obtain⟨x,hx⟩:∃x,v[q]? =some x:=⟨_,z1h (by rw[HVL.out];exact hlt2)⟩
   obtain⟨u,hu⟩:∃u,ts[q]? =some u:=⟨_,z1h (by omega)⟩
   obtain⟨qv,rfl,hqv⟩:∃qv,va=some ⟨qv,0,none⟩/\cZ W qv q (.int .i64 ((x+30:Nat):Int)):=by
    rcases HV.out with e|⟨qv,e,hc⟩
    ·rw[e] at hx;simp at hx
    ·exact⟨qv,e,hc q x hx W B0⟩
   obtain⟨qg,hh,cc,rfl,hqg,hRu⟩:∃qg hh cc,ga=some ⟨qg,0,none⟩/\cZ W qg q (sZ hh (sz u) cc)/\Rg hh u w:=by
    rcases HG.out with e|⟨qg,e,hc⟩
    ·rw[e] at hu;simp at hu
    ·obtain⟨hh,cc,h1,h2⟩:=hc q u hu
     exact⟨qg,hh,cc,e,h1 W B0,h2⟩
   have HX:=hid hx;have HU2:=hid hu;obtain⟨y,hy⟩:∃y,y=x+30:=⟨_,rfl⟩
   rw[<-hy] at hqv;have HY:=hid hy;clear hx hu hy;by_cases hpy:p=y
   ·have HO:Hid (putT v ts t=u):=by
     have e0:=sign_var HT.out.ok (H9.out x (z1m HX.out)) (by rw[HP.out,hpy];exact HY.out);have e1:=look_at v ts x q u (λm r hm hr e=>HU.out m r hm hr (by rw[hpy,HY.out,e])) HX.out HU2.out;show sub _ t=u;rw[e0];show (look (v.zip ts) x).getD (tV x)=u;rw[e1];rfl
    have e1:((p:Int)==(y:Int))=true:=by rw[hpy];simp
    have HRu:=hid hRu;clear hpy hRu;go_wp21
    go_quiet (fail)
    go_wp21;refine zah rfl rfl (zad (w:=W.drewN _) rb) ?_;rw[HO.out];exact⟨hh,cc,rfl,(HRu.out.below (below_drewN B0 _)).kept (zai _ _) (by have:=HRu.out.lt;simp;omega),(below_drewN B0 _).setCell (by simp) _⟩
   ·have e1:((p:Int)==(y:Int))=false:=by rw[beq_eq_false_iff_ne];omega
    have HM2:Hid (∀(i z:Nat),i<q+1->v[i]? =some z->p≠z+30):=by
     intro i z hi hz;rcases z1r i q with h1|h1
     ·exact HU i z h1 hz
     ·obtain rfl:i=q:=by omega
      rw[HX.out] at hz;obtain rfl:=z1q hz;rw[<-HY.out];exact hpy
    clear hpy hRu;go_wp21
    go_quiet (fail)
    go_wp21;go_roundw
    case rel=>exact⟨q+1,_,by simp,by omega,HM2,rfl⟩
    case measure=>simp[intOf];omega
  ·obtain rfl:q=vl:=by omega
   have HO:=hid (HL.out v ts (λi x hx=>HU.out i x (by have:=(z1b.1 hx).1;have:=HVL.out;omega) hx));go_wp21;refine zah rfl rfl (zad (w:=W.drewN _) rb) ?_;rw[HO.out];exact⟨g,cap,by rw[HZ.out],(HT.out.below (below_drewN B0 _)).kept (zai _ _) (by have:=HT.out.lt;simp;omega),(below_drewN B0 _).setCell (by simp) _⟩
end
theorem put_list (a:Ty) (ha0:Ok a) (ih0:zhe a):zhe (tL a):=by
 intro v ts g cap V G w ht hl hv hG hlen hlv hv9 hsm;have HVB:=hid hv;have HGB:=hid hG;have hrt:(rt (tL a) 0).op=91:=by rfl
 have s1:sz (tL a)=sz a+1:=by simp[sz]
 have s2:sz (putT v ts (tL a))=sz (putT v ts a)+1:=by
  show sz (tL (sub _ a))=_;simp[sz,putT]
 have PA0:Hid (∀g1 cap1 w1,Below w.heap.size w w1->Rg g1 a w1->CZ 41 #[.agg #[sZ g1 (sz a) cap1],V,G] w1 (ztz (putT v ts a) w1)):=
  λg1 cap1 w1 hb hr=>ih0 v ts g1 cap1 V G w1 hr (by omega) (hv.below hb) (hG.below hb) hlen hlv hv9 (by omega)
 have F0:Hid (∀X,Rg g (tL a) X->CZ 64 #[.agg #[sZ g (sz (tL a)) cap]] X (zcl a X)):=λX hr=>zgd a ha0 g cap X hr (by omega)
 have L0:Hid (∀g2 cap2 X,Rg g2 (putT v ts a) X->CZ 66 #[.agg #[sZ g2 (sz (putT v ts a)) cap2]] X (zcl (tL (putT v ts a)) X)):=λg2 cap2 X hr=>zxg _ g2 cap2 X hr (by omega)
 have HR0:Hid (putT v ts (tL a)=tL (putT v ts a)):=rfl;clear ih0 ha0 s1 s2;generalize htt:(tL a:Ty)=t at *
 have hpos:=zaw ht.ok;obtain⟨m,hm⟩:∃m,m=sz t-1:=⟨_,rfl⟩
 have KK:=ht.cell (sz t-1) _ (zib t ht.ok 0);rw[<-hm] at KK;obtain⟨k0,k1,k2⟩:=KK;have e1:((sz t:Int)-1)=(m:Int):=by omega
 have hwr:IntKind.i64.wrap (m:Int)=(m:Int):=IntWalk.i64_in _ ⟨by omega,by omega⟩;have b1:m<sz t:=by omega
 obtain⟨va,vcap,rfl,hva⟩:=hv;obtain⟨ga,gcap,rfl,hga⟩:=hG;rw[z2a] at *
 rw[hlen] at PA0 ⊢;have lg:=ht.lt;have HM:=hid hm;clear hm;rw[hrt] at k0;generalize (rt t 0).a=pa at *
 generalize (rt t 0).b=pb at *
 have HT:=hid ht
 have HV:Hid (v=[]\/∃q,va=some ⟨q,0,none⟩/\∀(k n:Nat),v[k]? =some n->970<=n/\∀W',Below w.heap.size w W'->cZ W' q k (.int .i64 ((n+30:Nat):Int))):=by
  rcases hva with e|⟨q,rfl,hq,hc⟩
  ·exact .inl (by simpa using e)
  ·exact .inr ⟨q,rfl,λk n hk=>⟨hv9 n (z1m hk),λW' hW=>(hW.cell (p:=⟨q,k,none⟩) hq).trans (hc k (n+30) (by rw[z1n,hk];rfl))⟩⟩
 have HTT:=hid htt;clear hva hga hv9 ht hsm htt hrt;generalize hst:sz t=st at *
 have HZ:=hid hst;clear hst;generalize hvl:v.length=vl at *
 have HVL:=hid hvl;clear hvl;have B0:Below w.heap.size w (((w.alloc (tbO g st cap)).alloc rbO).alloc (nbO 91 pa pb)):=((bal w _).alloc (by simp) _).alloc (by simp;omega) _
 have rb:(((w.alloc (tbO g st cap)).alloc rbO).alloc (nbO 91 pa pb)).heap[w.heap.size+1]? =some (.cells #[.slice none 0 0] 33 (0,0)):=by
  rw[Below.heap_alloc _ _ _ (by simp)];exact heap_alloc2_new w _ _
 have tb:(((w.alloc (tbO g st cap)).alloc rbO).alloc (nbO 91 pa pb)).heap[w.heap.size]? =some (.cells #[sZ g st cap] 33 (0,0)):=by
  rw[Below.heap_alloc _ _ _ (by simp;omega),Below.heap_alloc _ _ _ (by simp)];exact z1v w _
 have nb:(((w.alloc (tbO g st cap)).alloc rbO).alloc (nbO 91 pa pb)).heap[w.heap.size+2]? =some (nbO 91 pa pb):=by
  have:=z1v ((w.alloc (tbO g st cap)).alloc rbO) (nbO 91 pa pb);simpa using this
 go_enter Tryz.func41,Tryz.ntmps41;go_wp21;generalize hW:((w.alloc (tbO g st cap)).alloc rbO).alloc (nbO 91 pa pb)=W at *
 have c3:=zab tb;have n0:cZ W (w.heap.size+2) 0 (.int .i64 (91:Int)):=cbl nb;have hws:W.heap.size=w.heap.size+3:=by rw[<-hW];simp
 clear tb nb hW k0 k1 k2
 go_loopw [8] (λj wr=>∃q d:Nat,j=(iZ q)/\q<=vl/\wr=W.drewN d) (λj _=>vl-(intOf j).toNat)
 case atStart=>exact⟨0,0,rfl,Nat.zero_le _,rfl⟩
 case round=>
  obtain⟨q,d,rfl,hq,rfl⟩:=hrel;rcases z1r q vl with hlt2|hge2
  ·obtain⟨x,hx⟩:∃x,v[q]? =some x:=⟨_,z1h (by rw[HVL.out];exact hlt2)⟩
   obtain⟨qv,rfl,h9,hqv⟩:∃qv,va=some ⟨qv,0,none⟩/\970<=x/\cZ W qv q (.int .i64 ((x+30:Nat):Int)):=by
    rcases HV.out with e|⟨qv,e,hc⟩
    ·rw[e] at hx;simp at hx
    ·exact⟨qv,e,(hc q x hx).1,(hc q x hx).2 W B0⟩
   obtain⟨y,hy⟩:∃y,y=x+30:=⟨_,rfl⟩
   rw[<-hy] at hqv;have e1:((91:Int)==(y:Int))=false:=by rw[beq_eq_false_iff_ne];omega
   clear hx hy h9;go_wp21
   go_quiet (fail)
   go_wp21;go_roundw
   case rel=>exact⟨q+1,_,by simp,by omega,rfl⟩
   case measure=>simp[intOf];omega
  ·obtain rfl:q=vl:=by omega
   have B1:Below w.heap.size w (W.drewN d):=below_drewN B0 d;have rb1:(W.drewN d).heap[w.heap.size+1]? =some (.cells #[.slice none 0 0] 33 (0,0)):=rb;have c31:(W.drewN d).cell? ⟨w.heap.size,0,none⟩=some (sZ g q cap)->True:=λ_=>trivial
   have n01:(W.drewN d).cell? ⟨w.heap.size+2,0,none⟩=some (.int .i64 (91:Int)):=n0;have c32:(W.drewN d).cell? ⟨w.heap.size,0,none⟩=some (sZ g st cap):=c3;have hws1:(W.drewN d).heap.size=w.heap.size+3:=hws;clear c3 n0 rb hws c31;generalize W.drewN d=X at *
   have F:=F0.out X (HT.out.below B1);go_wp21;refine F.mono ?_;rintro e w1 ⟨g1,cap1,rfl,R1,hg1,b1⟩;have B2:=B1.trans (b1.mono B1.size);have rb2:w1.heap[w.heap.size+1]? =some (.cells #[.slice none 0 0] 33 (0,0)):=(b1.block _ (by omega)).trans rb1;have PA:=PA0.out g1 cap1 w1 B2 R1;clear F rb1 n01 c32;go_wp21;refine PA.mono ?_;rintro e w2 ⟨g2,cap2,rfl,R2,b2⟩;have B3:=B2.trans (b2.mono B2.size);have hs2:=b1.size;have rb3:w2.heap[w.heap.size+1]? =some (.cells #[.slice none 0 0] 33 (0,0)):=(b2.block _ (by omega)).trans rb2;have LI:=L0.out g2 cap2 w2 R2;clear PA rb2;go_wp21;refine LI.mono ?_;rintro e w3 ⟨g3,cap3,rfl,R3,hg3,b3⟩;have B4:=B3.trans (b3.mono B3.size);have hs3:=b2.size;have rb4:w3.heap[w.heap.size+1]? =some (.cells #[.slice none 0 0] 33 (0,0)):=(b3.block _ (by omega)).trans rb3;have cr:=zab rb4;have fr:=zaf rb4;clear LI rb3;go_wp21;refine zah rfl rfl (zad rb4) ?_;rw[HR0.out];exact⟨g3,cap3,rfl,R3.kept (zai _ _) (by simp;omega),B4.setCell (by simp) _⟩
theorem zkn {X Y:World} (h:Below X.drew.heap.size X.drew Y):Below X.heap.size X Y:=⟨h.os,h.tape,h.output,h.size,h.block⟩
theorem put_two (gt cc:Nat) (hg:gt=4/\cc=42\/gt=5/\cc=62) (a b:Ty) (ha0:Ok a) (hb0:Ok b) (ih0:zhe a) (ih1:zhe b):zhe (.node gt 0 () a b:Ty):=by
 intro v ts g cap V G w ht hl hv hG hlen hlv hv9 hsm;have HVB:Hid (Is w V (v.map (·+30))):=hv;have HGB:Hid (Ls w G ts):=hG;have hrt:(rt (.node gt 0 () a b:Ty) 0).op=cc:=by rcases hg with ⟨rfl,rfl⟩|⟨rfl,rfl⟩<;>rfl
 have s1:sz (.node gt 0 () a b:Ty)=sz a+sz b+1:=rfl;have s2:sz (putT v ts (.node gt 0 () a b:Ty))=sz (putT v ts a)+sz (putT v ts b)+1:=by rcases hg with ⟨rfl,rfl⟩|⟨rfl,rfl⟩<;>rfl
 have PA0:Hid (∀g1 cap1 w1,Below w.heap.size w w1->Rg g1 a w1->CZ 41 #[.agg #[sZ g1 (sz a) cap1],V,G] w1 (ztz (putT v ts a) w1)):=
  λg1 cap1 w1 hb hr=>ih0 v ts g1 cap1 V G w1 hr (by omega) (hv.below hb) (hG.below hb) hlen hlv hv9 (by omega)
 have PB0:Hid (∀g1 cap1 w1,Below w.heap.size w w1->Rg g1 b w1->CZ 41 #[.agg #[sZ g1 (sz b) cap1],V,G] w1 (ztz (putT v ts b) w1)):=
  λg1 cap1 w1 hb hr=>ih1 v ts g1 cap1 V G w1 hr (by omega) (hv.below hb) (hG.below hb) hlen hlv hv9 (by omega)
 have F0:Hid (∀X,Rg g (.node gt 0 () a b:Ty) X->CZ 64 #[.agg #[sZ g (sz (.node gt 0 () a b:Ty)) cap]] X (zcl a X)):=λX hr=>zch gt (by omega) a b ha0 g cap X hr (z1c hl (by decide))
 have S0:Hid (∀X,Rg g (.node gt 0 () a b:Ty) X->CZ 65 #[.agg #[sZ g (sz (.node gt 0 () a b:Ty)) cap]] X (zcl b X)):=λX hr=>zbz gt (by omega) a b hb0 g cap X hr (z1c hl (by decide))
 have L0:Hid (∀g2 cap2 g4 cap4 X,Rg g2 (putT v ts a) X->Rg g4 (putT v ts b) X->CZ 67 #[.int .i64 (cc:Int),.agg #[sZ g2 (sz (putT v ts a)) cap2],.agg #[sZ g4 (sz (putT v ts b)) cap4]] X (zcl (.node gt 0 () (putT v ts a) (putT v ts b)) X)):=λg2 cap2 g4 cap4 X hr hr'=>by
  have:=zlm gt (by omega) _ _ g2 cap2 g4 cap4 X hr hr' (by omega) (by omega);rwa [show sgn gt 0=cc by rcases hg with ⟨rfl,rfl⟩|⟨rfl,rfl⟩<;>rfl] at this
 have HR0:Hid (putT v ts (.node gt 0 () a b:Ty)=(.node gt 0 () (putT v ts a) (putT v ts b):Ty)):=by rcases hg with ⟨rfl,rfl⟩|⟨rfl,rfl⟩<;>rfl
 have hcs:sgn gt 0=cc:=by rcases hg with ⟨rfl,rfl⟩|⟨rfl,rfl⟩<;>rfl
 have hcc:cc=42\/cc=62:=by omega
 clear ih0 ih1 ha0 hb0 s1 s2;generalize htt:(.node gt 0 () a b:Ty)=t at *
 have hpos:=zaw ht.ok;obtain⟨m,hm⟩:∃m,m=sz t-1:=⟨_,rfl⟩
 have KK:=ht.cell (sz t-1) _ (zib t ht.ok 0);rw[<-hm] at KK;obtain⟨k0,k1,k2⟩:=KK;have e1:((sz t:Int)-1)=(m:Int):=by omega
 have hwr:IntKind.i64.wrap (m:Int)=(m:Int):=IntWalk.i64_in _ ⟨by omega,by omega⟩;have b1:m<sz t:=by omega
 obtain⟨va,vcap,rfl,hva⟩:=hv;obtain⟨ga,gcap,rfl,hga⟩:=hG;rw[z2a] at *
 rw[hlen] at PA0 PB0 ⊢;have lg:g<w.heap.size:=ht.lt;have HM:Hid (m=sz t-1):=hm;clear hm;rw[hrt] at k0;generalize (rt t 0).a=pa at *
 generalize (rt t 0).b=pb at *
 have HT:Hid (Rg g t w):=ht
 have HV:Hid (v=[]\/∃q,va=some ⟨q,0,none⟩/\∀(k n:Nat),v[k]? =some n->970<=n/\∀W',Below w.heap.size w W'->W'.cell? ⟨q,k,none⟩=some (.int .i64 ((n+30:Nat):Int))):=by
  rcases hva with e|⟨q,rfl,hq,hc⟩
  ·exact .inl (by simpa using e)
  ·exact .inr ⟨q,rfl,λk n hk=>⟨hv9 n (z1m hk),λW' hW=>(hW.cell (p:=⟨q,k,none⟩) hq).trans (hc k (n+30) (by rw[z1n,hk];rfl))⟩⟩
 have HTT:Hid ((.node gt 0 () a b:Ty)=t):=htt;clear hva hga hv9 ht hsm htt hrt;generalize hst:sz t=st at *
 have HZ:Hid (sz t=st):=hst;clear hst;generalize hvl:v.length=vl at *
 have HVL:Hid (v.length=vl):=hvl;clear hvl;have B0:Below w.heap.size w (((w.alloc (tbO g st cap)).alloc rbO).alloc (nbO cc pa pb)):=((bal w _).alloc (by simp) _).alloc (by simp;omega) _
 have rb:(((w.alloc (tbO g st cap)).alloc rbO).alloc (nbO cc pa pb)).heap[w.heap.size+1]? =some (.cells #[.slice none 0 0] 33 (0,0)):=by
  rw[Below.heap_alloc _ _ _ (by simp)];exact heap_alloc2_new w _ _
 have tb:(((w.alloc (tbO g st cap)).alloc rbO).alloc (nbO cc pa pb)).heap[w.heap.size]? =some (.cells #[sZ g st cap] 33 (0,0)):=by
  rw[Below.heap_alloc _ _ _ (by simp;omega),Below.heap_alloc _ _ _ (by simp)];exact z1v w _
 have nb:(((w.alloc (tbO g st cap)).alloc rbO).alloc (nbO cc pa pb)).heap[w.heap.size+2]? =some (nbO cc pa pb):=by
  have:=z1v ((w.alloc (tbO g st cap)).alloc rbO) (nbO cc pa pb);simpa using this
 go_enter Tryz.func41,Tryz.ntmps41
 go_wp2_with fail
 generalize hW:((w.alloc (tbO g st cap)).alloc rbO).alloc (nbO cc pa pb)=W at *
 have c3:=zab tb;have n0:W.cell? ⟨w.heap.size+2,0,none⟩=some (.int .i64 (cc:Int)):=cbl nb;have hws:W.heap.size=w.heap.size+3:=by rw[<-hW];simp
 clear tb nb hW k0 k1 k2
 go_loopw [8] (λj wr=>∃q d:Nat,j=.int .i64 (q:Int)/\q<=vl/\wr=W.drewN d) (λj _=>vl-(intOf j).toNat)
 case atStart=>exact⟨0,0,rfl,Nat.zero_le _,rfl⟩
 case round=>
  obtain⟨q,d,rfl,hq,rfl⟩:=hrel;rcases z1r q vl with hlt2|hge2
  ·obtain⟨x,hx⟩:∃x,v[q]? =some x:=⟨_,z1h (by rw[HVL.out];exact hlt2)⟩
   obtain⟨qv,rfl,h9,hqv⟩:∃qv,va=some ⟨qv,0,none⟩/\970<=x/\W.cell? ⟨qv,q,none⟩=some (.int .i64 ((x+30:Nat):Int)):=by
    rcases HV.out with e|⟨qv,e,hc⟩
    ·rw[e] at hx;simp at hx
    ·exact⟨qv,e,(hc q x hx).1,(hc q x hx).2 W B0⟩
   obtain⟨y,hy⟩:∃y,y=x+30:=⟨_,rfl⟩
   rw[<-hy] at hqv;have e1:((cc:Int)==(y:Int))=false:=by rw[beq_eq_false_iff_ne];omega
   clear hx hy h9
   go_wp2_with fail
   go_quiet (fail)
   go_wp2_with fail
   go_roundw
   case rel=>exact⟨q+1,_,by simp,by omega,rfl⟩
   case measure=>simp[intOf];omega
  ·obtain rfl:q=vl:=by omega
   have B1:Below w.heap.size w (W.drewN d):=below_drewN B0 d;have rb1:(W.drewN d).heap[w.heap.size+1]? =some (.cells #[.slice none 0 0] 33 (0,0)):=rb;have c31:(W.drewN d).cell? ⟨w.heap.size,0,none⟩=some (sZ g q cap)->True:=λ_=>trivial
   have n01:(W.drewN d).cell? ⟨w.heap.size+2,0,none⟩=some (.int .i64 (cc:Int)):=n0;have c32:(W.drewN d).cell? ⟨w.heap.size,0,none⟩=some (sZ g st cap):=c3;have hws1:(W.drewN d).heap.size=w.heap.size+3:=hws;clear c3 n0 rb hws c31;generalize W.drewN d=X at *
   have RT:Rg g t X:=HT.out.below B1;have q1:=c32;have q2:=n01;have HB1:Hid (Below w.heap.size w X):=B1;have hrb:=rb1;have e91:((cc:Int)==91)=false:=by rw[beq_eq_false_iff_ne];omega
   have hsp:((cc:Int)==42)=true\/((cc:Int)==42)=false/\((cc:Int)==62)=true:=by rcases hcc with rfl|rfl<;>simp
   clear hcc hg hcs;rcases hsp with f42|⟨f42,f62⟩
   all_goals
    go_wp2_with fail
    go_region_held3 (λwq=>wq.cell? ⟨w.heap.size,0,none⟩=some (sZ g st cap)/\wq.cell? ⟨w.heap.size+2,0,none⟩=some (.int .i64 (cc:Int)))
     (first|(go_keep;done)|(go_split_ands;exact⟨q1,q2⟩))
     (first
      |(go_at_call 65;refine(S0.out _ ((RT.below b1).below b2)).mono ?_;rintro e w3 ⟨g3,cap3,rfl,R3,hg3,b3⟩;(have s3:=b3.size);(have q1:=(b3.cell (p:=⟨w.heap.size,0,none⟩) (by show w.heap.size<_;omega)).trans q1);(have q2:=(b3.cell (p:=⟨w.heap.size+2,0,none⟩) (by show w.heap.size+2<_;omega)).trans q2))
      |(go_at_call 64;refine(F0.out _ RT.drew).mono ?_;rintro e w1 ⟨g1,cap1,rfl,R1,hg1,b1'⟩;(have b1:=zkn b1');(have s1:=b1.size);(have q1:=(b1.cell (p:=⟨w.heap.size,0,none⟩) (by show w.heap.size<_;omega)).trans q1);(have q2:=(b1.cell (p:=⟨w.heap.size+2,0,none⟩) (by show w.heap.size+2<_;omega)).trans q2))
      |(go_at_call 41;(have hR3:=R3);refine(PB0.out g3 cap3 w3 (((HB1.out.trans (b1.mono HB1.out.size)).trans (b2.mono (by omega))).trans (b3.mono (by omega))) R3).mono ?_;rintro e w4 ⟨g4,cap4,rfl,R4,b4⟩;(have s4:=b4.size);(have q1:=(b4.cell (p:=⟨w.heap.size,0,none⟩) (by show w.heap.size<_;omega)).trans q1);(have q2:=(b4.cell (p:=⟨w.heap.size+2,0,none⟩) (by show w.heap.size+2<_;omega)).trans q2))
      |(go_at_call 41;refine(PA0.out g1 cap1 w1 (HB1.out.trans (b1.mono HB1.out.size)) R1).mono ?_;rintro e w2 ⟨g2,cap2,rfl,R2,b2⟩;(have s2:=b2.size);(have q1:=(b2.cell (p:=⟨w.heap.size,0,none⟩) (by show w.heap.size<_;omega)).trans q1);(have q2:=(b2.cell (p:=⟨w.heap.size+2,0,none⟩) (by show w.heap.size+2<_;omega)).trans q2))
      |(go_at_call 67;refine(L0.out g2 cap2 g4 cap4 w4 ((R2.below b3).below b4) R4).mono ?_;rintro e w5 ⟨g5,cap5,rfl,R5,hg5,b5⟩;(have s5:=b5.size);(have rb5:w5.heap[w.heap.size+1]? =some (.cells #[.slice none 0 0] 33 (0,0)):=(b5.block _ (by omega)).trans ((b4.block _ (by omega)).trans ((b3.block _ (by omega)).trans ((b2.block _ (by omega)).trans ((b1.block _ (by omega)).trans hrb)))));(have cr:=zab rb5);(have fr:=zaf rb5);(have q1:=(b5.cell (p:=⟨w.heap.size,0,none⟩) (by show w.heap.size<_;omega)).trans q1);(have q2:=(b5.cell (p:=⟨w.heap.size+2,0,none⟩) (by show w.heap.size+2<_;omega)).trans q2)))
    go_wp2_with fail
    refine zah rfl rfl (zad rb5) ?_;rw[HR0.out];exact⟨g5,cap5,rfl,R5.kept (zai _ _) (by simp;omega),(((((HB1.out.trans (b1.mono HB1.out.size)).trans (b2.mono (by omega))).trans (b3.mono (by omega))).trans (b4.mono (by omega))).trans (b5.mono (by omega))).setCell (by simp) _⟩
theorem zws:∀t:Ty,Ok t->zhe t:=by
 intro t
 induction t with
 |nil=>intro h;exact h.elim
 |node g o u a b iha ihb=>
  intro h
  cases u
  rcases h with ⟨rfl,rfl,rfl,rfl⟩|⟨rfl,rfl,rfl,rfl⟩|⟨rfl,ho,rfl,rfl⟩|⟨rfl,rfl,ha,rfl⟩|⟨rfl,rfl,ha,hb⟩|⟨rfl,rfl,ha,hb⟩
  ·exact zqc tI (by decide) (by decide) (by decide) (λ_ _ _=>rfl)
  ·exact zqc tB (by decide) (by decide) (by decide) (λ_ _ _=>rfl)
  ·have e:(rt (tV o) 0).op=o+30:=rfl
   refine zqc (tV o) (by rw[e];omega) (by rw[e];omega) (by rw[e];omega) (λv ts hn=>?_);show (look (v.zip ts) o).getD (tV o)=tV o;rw[look_not v ts o (λm p hp e2=>hn m p hp (by rw[e,e2]))];rfl
  ·exact put_list a ha (iha ha)
  ·exact put_two 4 42 (.inl ⟨rfl,rfl⟩) a b ha hb (iha ha) (ihb hb)
  ·exact put_two 5 62 (.inr ⟨rfl,rfl⟩) a b ha hb (iha ha) (ihb hb)
def zay (b:Nat) (w:World):Option Nat:=((w.cell? ⟨b,4,none⟩).getD .nilIface).ownBlock
section
variable {b:Nat} {x y:World}
theorem zfv (w:World) (b j:Nat) (u:Value):w.grownBy (w.setCell ⟨b,j,none⟩ u) (some b):=⟨rfl,rfl,rfl,by simp[World.setCell],λi _ hn=>Below.heap_setCell _ _ _ _ (by simpa using hn)⟩
structure Fr (b:Nat) (w w':World):Prop where
 os:w'.os=w.os
 tape:w'.tape=w.tape
 output:w'.output=w.output
 size:w.heap.size<=w'.heap.size
 block:∀k,k<w.heap.size->k≠b->some k≠zay b w->w'.heap[k]? =w.heap[k]?
 row:zay b w'=zay b w\/∃k,zay b w'=some k/\w.heap.size<=k
theorem Fr.refl (b:Nat) (w:World):Fr b w w:=⟨rfl,rfl,rfl,z1d _,λ_ _ _ _=>rfl,.inl rfl⟩
theorem Fr.trans {z:World} (h:Fr b x y) (k:Fr b y z):Fr b x z:=by
 refine⟨k.os.trans h.os,k.tape.trans h.tape,k.output.trans h.output,z1c h.size k.size,λi hi hb hr=>?_,?_⟩
 ·refine(k.block i (z1e hi h.size) hb ?_).trans (h.block i hi hb hr)
  rcases h.row with e|⟨q,e,hq⟩
  ·rw[e];exact hr
  ·rw[e];intro e';simp at e';omega
 ·rcases k.row with e|⟨q,e,hq⟩
  ·rcases h.row with e'|⟨q,e',hq⟩
   ·exact .inl (e.trans e')
   ·exact .inr ⟨q,e.trans e',hq⟩
  ·exact .inr ⟨q,e,z1c h.size hq⟩
theorem Fr.drewN (h:Fr b x y) (n:Nat):Fr b x (y.drewN n):=⟨h.os,h.tape,h.output,h.size,h.block,h.row⟩
theorem Fr.undrew {n:Nat} (h:Fr b (x.drewN n) y):Fr b x y:=⟨h.os,h.tape,h.output,h.size,h.block,h.row⟩
theorem zrx {q:Nat} {w:World} {a:Addr} {u:Value} (hq:a.block=q) (hb:q≠b):zay b (w.setCell a u)=zay b w:=by
 unfold zay;rw[World.cell?_setCell_other w _ _ _ (by intro e;subst e;exact hb hq.symm)]
theorem zmy {w:World} (o:Obj) (hb:b<w.heap.size):zay b (w.alloc o)=zay b w:=by
 unfold zay;rw[z1o _ _ _ hb]
theorem Fr.alloc (h:Fr b x y) (hb:b<y.heap.size) (o:Obj):Fr b x (y.alloc o):=
 h.trans ⟨rfl,rfl,rfl,by simp,λi hi _ _=>Below.heap_alloc _ _ _ hi,.inl (zmy o hb)⟩
def inR (c lo hi:Nat):Bool:=decide (lo<=c) && decide (c<=hi)
end
theorem zir (w:World) (g c:Nat) (hc:c<256) (h:w.cell? ⟨g,0,none⟩=some (uZ c)):(convert 46 9 (sZ g 1 1)).run Tryz.prog w=.ok (.string ⟨#[u8 c]⟩) w:=by
 refine run_convert_bytes_back w 46 9 5 ⟨g,0,none⟩ 1 [u8 c] Tryz.underlying46 Tryz.underlying5 Tryz.underlying9 ?_;intro j hj;have hj0:j=0:=by simpa using hj
 subst hj0;have hadd:(⟨g,0,none⟩:Addr).add 0=⟨g,0,none⟩:=rfl;have hu:((u8 c).toNat:Int)=(c:Int):=by simp[u8];omega
 rw[hadd,h];show some (Value.int .u8 (c:Int))=some (.int .u8 ((u8 c).toNat:Int));rw[hu]
theorem zik (a b:List UInt8):(⟨a.toArray⟩:ByteArray)++⟨b.toArray⟩=⟨(a++b).toArray⟩:=by
 apply ByteArray.ext;simp
theorem zid (x:UInt8):(⟨#[x]⟩:ByteArray)=⟨[x].toArray⟩:=rfl
theorem znj (w:World):w.drew.heap.size=w.heap.size:=rfl
theorem zoi (k:Nat) (w:World) (hk:k<26):
 CZ 69 #[.int .i64 ((1000+10*k:Nat):Int)] w λe w'=>e=.returned (.string ⟨#[u8 (97+k)]⟩)/\Below w.heap.size w w':=by
 obtain⟨n,hn⟩:∃n,n=1000+10*k:=⟨_,rfl⟩
 rw[<-hn];have e1:((n:Int)-1000)=((10*k:Nat):Int):=by omega
 have w1:IntKind.i64.wrap ((10*k:Nat):Int)=((10*k:Nat):Int):=IntWalk.i64_in _ ⟨by omega,by omega⟩;have e2:Int.tdiv ((10*k:Nat):Int) 10=(k:Int):=by rw[Int.tdiv_eq_ediv_of_nonneg (by omega)];omega
 have e3:Int.tmod ((10*k:Nat):Int) 10=0:=by rw[Int.tmod_eq_emod_of_nonneg (by omega)];omega
 have hcv:=zir (w.alloc (.cells #[.int .u8 ((97+k:Nat):Int)] 5)) w.heap.size (97+k) (by omega) (by simp);have e97:((97+k:Nat):Int)=97+(k:Int):=by omega
 rw[e97] at hcv;generalize u8 (97+k)=cc at *
 clear hn e97;go_enter Tryz.func69,Tryz.ntmps69;go_wp21;go_ret;exact⟨rfl,bal w _⟩
theorem zoj (k d:Nat) (w:World) (hk:k<26) (hd:1<=d/\d<10):
 CZ 69 #[.int .i64 ((1000+10*k+d:Nat):Int)] w λe w'=>e=.returned (.string (⟨#[u8 (97+k)]⟩++⟨#[u8 (48+d)]⟩))/\Below w.heap.size w w':=by
 obtain⟨n,hn⟩:∃n,n=1000+10*k+d:=⟨_,rfl⟩
 rw[<-hn];obtain⟨m,hm⟩:∃m,m=10*k+d:=⟨_,rfl⟩
 have e1:((n:Int)-1000)=(m:Int):=by omega
 have w1:IntKind.i64.wrap (m:Int)=(m:Int):=IntWalk.i64_in _ ⟨by omega,by omega⟩;have e2:Int.tdiv (m:Int) 10=(k:Int):=by rw[Int.tdiv_eq_ediv_of_nonneg (by omega)];omega
 have e3:Int.tmod (m:Int) 10=(d:Int):=by rw[Int.tmod_eq_emod_of_nonneg (by omega)];omega
 have hcv:=zir (w.alloc (.cells #[.int .u8 ((97+k:Nat):Int)] 5)) w.heap.size (97+k) (by omega) (by simp);have hcw:=zir ((w.alloc (.cells #[.int .u8 ((97+k:Nat):Int)] 5)).alloc (.cells #[.int .u8 ((48+d:Nat):Int)] 5)) (w.heap.size+1) (48+d) (by omega) (by simp);have e97:((97+k:Nat):Int)=97+(k:Int):=by omega
 have e48:((48+d:Nat):Int)=48+(d:Int):=by omega
 rw[e97] at hcv hcw;rw[e48] at hcw;generalize u8 (97+k)=cc at *
 generalize u8 (48+d)=dd at *
 have hd1:=hd.1;clear hn e97 e48 hm;go_enter Tryz.func69,Tryz.ntmps69;go_wp21;go_ret;exact⟨rfl,(bal w _).alloc (by simp) _⟩
theorem zqy (o:Nat) (w:World) (ho:970<=o/\o<1230):
 CZ 69 #[.int .i64 ((o+30:Nat):Int)] w λe w'=>e=.returned (.string ⟨(zbq o).toArray⟩)/\Below w.heap.size w w':=by
 obtain⟨k,d,hk,hd,e⟩:∃k d,k<26/\d<10/\o=970+10*k+d:=⟨(o-970)/10,o % 10,by omega,by omega,by omega⟩
 have e1:o/10=97+k:=by omega
 have e2:o % 10=d:=by omega
 by_cases h0:d=0
 ·have:=zoi k w hk
  rw[show 1000+10*k=o+30 by omega] at this;unfold zbq;rw[e1,e2,if_pos h0];exact this
 ·have:=zoj k d w hk ⟨by omega,hd⟩
  rw[show 1000+10*k+d=o+30 by omega] at this;unfold zbq;rw[e1,e2,if_neg h0];refine this.mono ?_;rintro e w' ⟨rfl,h⟩;refine⟨?_,h⟩;rw[zid,zid,zik];rfl
section
variable {t:Ty} (c:Bool) (f:List UInt8)
theorem zxs:(inBr c f).length<=f.length+2:=by cases c<;>simp[inBr]
theorem zjb (h:Ok t):(zae t).length<=5*sz t:=by have:=zxi h;omega
def zct (t:Ty):Prop:=∀(g cap:Nat) (w:World),Rg g t w->sz t<=60000->
 CZ 42 #[.agg #[sZ g (sz t) cap]] w λe w'=>e=.returned (.string ⟨(zae t).toArray⟩)/\Below w.heap.size w w'
def zlh (t:Ty) (n:Int) (c:Bool):Prop:=∀(g cap:Nat) (w:World),Rg g t w->sz t<=60000->
 CZ 68 #[.agg #[sZ g (sz t) cap],.int .i64 n] w λe w'=>e=.returned (.string ⟨(inBr c (zae t)).toArray⟩)/\Below w.heap.size w w'
theorem op_fn (h:Ok t):(((rt t 0).op:Int)==62)=isFn t/\(((rt t 0).op:Int)==42)=isPr t:=by
 rcases h.cases with rfl|rfl|⟨p,_,_,rfl⟩|⟨a,ha,rfl⟩|⟨a,b,ha,hb,rfl⟩|⟨a,b,ha,hb,rfl⟩
 ·exact⟨rfl,rfl⟩
 ·exact⟨rfl,rfl⟩
 ·refine⟨?_,?_⟩
  ·show (((p+30:Nat):Int)==62)=false
   rw[beq_eq_false_iff_ne];omega
  ·show (((p+30:Nat):Int)==42)=false
   rw[beq_eq_false_iff_ne];omega
 ·exact⟨rfl,rfl⟩
 ·exact⟨rfl,rfl⟩
 ·exact⟨rfl,rfl⟩
theorem br_str:((⟨#[40]⟩:ByteArray)++⟨f.toArray⟩)++⟨#[41]⟩=⟨(inBr true f).toArray⟩:=by
 rw[zid,zid,zik,zik];simp[inBr]
theorem fn_pr (t:Ty):¬(isFn t=true/\isPr t=true):=by
 cases t with
 |nil=>simp[isFn]
 |node g=>simp only[isFn,isPr,beq_iff_eq];omega
theorem zjw (x y c:Bool) (k:Nat) (T:zct t) (hx:isFn t=x) (hy:isPr t=y) (H:k=0/\c=false\/k=1/\c=x\/k=2/\c=(x||y)):zlh t k c:=by
 cases x<;>cases y<;>simp only[Bool.true_or,Bool.or_false,Bool.false_or,Bool.or_self,Bool.or_true] at H<;>(try exact absurd (And.intro hx hy) (fn_pr t))
 all_goals rcases H with ⟨rfl,rfl⟩|⟨rfl,rfl⟩|⟨rfl,rfl⟩
 all_goals
  intro g cap w ht hl;have B0:Below w.heap.size w (w.alloc (tbO g (sz t) cap)):=bal w _;have c0:(w.alloc (tbO g (sz t) cap)).cell? ⟨w.heap.size,0,none⟩=some (sZ g (sz t) cap):=by simp
  have R0:=ht.below B0;have hlen:=zjb ht.ok;have O:=op_fn ht.ok;rw[hx,hy] at O;obtain⟨o1,o2⟩:=O;have RO:=hid (λX (h:Rg g t X)=>zav t g cap X h (z1c hl (by decide)));have TX:=hid (λX (h:Rg g t X)=>T g cap X h hl);generalize (rt t 0).op=p at *
  generalize zae t=f at *
  generalize sz t=st at *
  have hlw:w.heap.size<(w.alloc (tbO g st cap)).heap.size:=by simp
  have n1:¬(9223372036854775807<1+f.length):=by omega
  have n2:¬(9223372036854775807<1+f.length+1):=by omega
  go_enter Tryz.func68,Tryz.ntmps68;go_wp21;generalize w.alloc (tbO g st cap)=W at *
  refine(RO W R0).mono ?_;rintro e w1 ⟨rfl,b1⟩;have R1:=R0.below b1;have B1:=B0.trans (b1.mono B0.size);replace c0:=(b1.cell (p:=⟨w.heap.size,0,none⟩) hlw).trans c0;have l1:=z1e hlw b1.size;go_wp21;refine(RO w1 R1).mono ?_;rintro e w2 ⟨rfl,b2⟩;have R2:=R1.below b2;have B2:=B1.trans (b2.mono B1.size);replace c0:=(b2.cell (p:=⟨w.heap.size,0,none⟩) l1).trans c0;go_wp21;refine(TX w2 R2).mono ?_;rintro e w3 ⟨rfl,b3⟩;have B3:=B2.trans (b3.mono B2.size);go_wp21;go_ret
  first
   |exact⟨rfl,B3⟩
   |(refine⟨?_,B3⟩;show Ending.returned (.string _)=Ending.returned (.string _);rw[<-br_str])
theorem within0 (h:Ok t) (T:zct t):zlh t 0 false:=zjw _ _ _ _ T rfl rfl (.inl ⟨rfl,rfl⟩)
theorem within1 (h:Ok t) (T:zct t):zlh t 1 (isFn t):=zjw _ _ _ _ T rfl rfl (.inr (.inl ⟨rfl,rfl⟩))
theorem within2 (h:Ok t) (T:zct t):zlh t 2 (isFn t||isPr t):=zjw _ _ _ _ T rfl rfl (.inr (.inr ⟨rfl,rfl⟩))
end
theorem text_I:zct (tI):=by
 intro g cap w ht hl;have B0:Below w.heap.size w (w.alloc (tbO g (sz (tI)) cap)):=bal w _;have c0:(w.alloc (tbO g (sz (tI)) cap)).cell? ⟨w.heap.size,0,none⟩=some (sZ g (sz (tI)) cap):=by simp
 have R0:=ht.below B0;have RO:Hid (∀X,Rg g (tI) X->CZ 62 #[.agg #[sZ g (sz (tI)) cap]] X λe w'=>e=.returned (.int .i64 73)/\Below X.heap.size X w'):=λX (h:Rg g (tI) X)=>zav (tI) g cap X h (z1c hl (by decide))
 generalize htt:(tI:Ty)=t at *
 generalize sz t=st at *
 have hlw:w.heap.size<(w.alloc (tbO g st cap)).heap.size:=by simp
 clear ht hl;go_enter Tryz.func42,Tryz.ntmps42;go_wp21;generalize w.alloc (tbO g st cap)=W at *
 refine(RO W R0).mono ?_;rintro e w1 ⟨rfl,b1⟩;have R1:=R0.below b1;have B1:=B0.trans (b1.mono B0.size);replace c0:=(b1.cell (p:=⟨w.heap.size,0,none⟩) hlw).trans c0;have l1:w.heap.size<w1.heap.size:=z1e hlw b1.size;clear R0 b1 B0 hlw;go_wp21;refine(RO w1 R1).mono ?_;rintro e w2 ⟨rfl,b2⟩;have R2:=R1.below b2;have B2:=B1.trans (b2.mono B1.size);replace c0:=(b2.cell (p:=⟨w.heap.size,0,none⟩) l1).trans c0;have l2:w.heap.size<w2.heap.size:=z1e l1 b2.size;clear R1 b2 B1 l1;go_wp21;refine(zbp 73 w2).mono ?_;rintro e w' ⟨rfl,rfl⟩;go_wp21;refine(RO _ R2).mono ?_;rintro e w3 ⟨rfl,b3⟩;have B3:=B2.trans (b3.mono B2.size);have hcv:=zir (w3.alloc (.cells #[.int .u8 73] 5)) w3.heap.size 73 (by decide) (by simp);clear R2 b3 B2 c0;go_wp21;go_ret;subst htt;exact⟨rfl,B3.alloc B3.size _⟩
theorem text_B:zct (tB):=by
 intro g cap w ht hl;have B0:Below w.heap.size w (w.alloc (tbO g (sz (tB)) cap)):=bal w _;have c0:(w.alloc (tbO g (sz (tB)) cap)).cell? ⟨w.heap.size,0,none⟩=some (sZ g (sz (tB)) cap):=by simp
 have R0:=ht.below B0;have RO:Hid (∀X,Rg g (tB) X->CZ 62 #[.agg #[sZ g (sz (tB)) cap]] X λe w'=>e=.returned (.int .i64 66)/\Below X.heap.size X w'):=λX (h:Rg g (tB) X)=>zav (tB) g cap X h (z1c hl (by decide))
 generalize htt:(tB:Ty)=t at *
 generalize sz t=st at *
 have hlw:w.heap.size<(w.alloc (tbO g st cap)).heap.size:=by simp
 clear ht hl;go_enter Tryz.func42,Tryz.ntmps42;go_wp21;generalize w.alloc (tbO g st cap)=W at *
 refine(RO W R0).mono ?_;rintro e w1 ⟨rfl,b1⟩;have R1:=R0.below b1;have B1:=B0.trans (b1.mono B0.size);replace c0:=(b1.cell (p:=⟨w.heap.size,0,none⟩) hlw).trans c0;have l1:w.heap.size<w1.heap.size:=z1e hlw b1.size;clear R0 b1 B0 hlw;go_wp21;refine(RO w1 R1).mono ?_;rintro e w2 ⟨rfl,b2⟩;have R2:=R1.below b2;have B2:=B1.trans (b2.mono B1.size);replace c0:=(b2.cell (p:=⟨w.heap.size,0,none⟩) l1).trans c0;have l2:w.heap.size<w2.heap.size:=z1e l1 b2.size;clear R1 b2 B1 l1;go_wp21;refine(zbp 66 w2).mono ?_;rintro e w' ⟨rfl,rfl⟩;go_wp21;refine(RO _ R2).mono ?_;rintro e w3 ⟨rfl,b3⟩;have B3:=B2.trans (b3.mono B2.size);have hcv:=zir (w3.alloc (.cells #[.int .u8 66] 5)) w3.heap.size 66 (by decide) (by simp);clear R2 b3 B2 c0;go_wp21;go_ret;subst htt;exact⟨rfl,B3.alloc B3.size _⟩
theorem text_V (o:Nat) (ho:970<=o/\o<1230):zct (tV o):=by
 intro g cap w ht hl;have B0:Below w.heap.size w (w.alloc (tbO g (sz (tV o)) cap)):=bal w _;have c0:(w.alloc (tbO g (sz (tV o)) cap)).cell? ⟨w.heap.size,0,none⟩=some (sZ g (sz (tV o)) cap):=by simp
 have R0:=ht.below B0;have RO:Hid (∀X,Rg g (tV o) X->CZ 62 #[.agg #[sZ g (sz (tV o)) cap]] X λe w'=>e=.returned (.int .i64 ((o+30:Nat):Int))/\Below X.heap.size X w'):=λX (h:Rg g (tV o) X)=>zav (tV o) g cap X h (z1c hl (by decide))
 generalize htt:(tV o:Ty)=t at *
 generalize sz t=st at *
 have hlw:w.heap.size<(w.alloc (tbO g st cap)).heap.size:=by simp
 have VT:=λX=>zqy o X ho
 obtain⟨p,hp⟩:∃p,p=o+30:=⟨_,rfl⟩
 rw[<-hp] at RO VT;have e1:((p:Int)==91)=false:=by rw[beq_eq_false_iff_ne];omega
 have e2:((p:Int)==42)=false:=by rw[beq_eq_false_iff_ne];omega
 have e3:((p:Int)==62)=false:=by rw[beq_eq_false_iff_ne];omega
 have e4:decide ((1000:Int)<=(p:Int))=true:=by simp;omega
 clear ht hl hp ho;go_enter Tryz.func42,Tryz.ntmps42;go_wp21;generalize w.alloc (tbO g st cap)=W at *
 refine(RO W R0).mono ?_;rintro e w1 ⟨rfl,b1⟩;have R1:=R0.below b1;have B1:=B0.trans (b1.mono B0.size);replace c0:=(b1.cell (p:=⟨w.heap.size,0,none⟩) hlw).trans c0;have l1:w.heap.size<w1.heap.size:=z1e hlw b1.size;clear R0 b1 B0 hlw;go_wp21;refine(RO w1 R1).mono ?_;rintro e w2 ⟨rfl,b2⟩;have R2:=R1.below b2;have B2:=B1.trans (b2.mono B1.size);replace c0:=(b2.cell (p:=⟨w.heap.size,0,none⟩) l1).trans c0;clear R1 b2 B1 l1;go_wp21;refine(zbp p w2).mono ?_;rintro e w' ⟨rfl,rfl⟩;rw[e4];clear e4;go_wp21;refine(RO _ R2).mono ?_;rintro e w3 ⟨rfl,b3⟩;have B3:=B2.trans (b3.mono B2.size);clear R2 b3 B2 c0;go_wp21;refine(VT w3).mono ?_;rintro e w4 ⟨rfl,b4⟩;go_wp21;go_ret;subst htt;exact⟨rfl,B3.trans (b4.mono B3.size)⟩
theorem text_L (a:Ty) (ha:Ok a) (T:zct a):zct (tL a):=by
 intro g cap w ht hl;have s1:sz (tL a)=sz a+1:=by simp[sz]
 have F0:Hid (∀X,Rg g (tL a) X->CZ 64 #[.agg #[sZ g (sz (tL a)) cap]] X (zcl a X)):=λX hr=>zgd a ha g cap X hr (z1c hl (by decide))
 have T0:Hid (∀g1 cap1 X,Rg g1 a X->CZ 42 #[.agg #[sZ g1 (sz a) cap1]] X λe w'=>e=.returned (.string ⟨(zae a).toArray⟩)/\Below X.heap.size X w'):=λg1 cap1 X hr=>T g1 cap1 X hr (by omega)
 have hlen:=zjb ha;have n1:¬(9223372036854775807<1+(zae a).length):=by omega
 have n2:¬(9223372036854775807<1+(zae a).length+1):=by omega
 have HR:Hid (zae (tL a)=91::(zae a++[93])):=by unfold Hid;simp[zae]
 clear s1 T hlen;have B0:Below w.heap.size w (w.alloc (tbO g (sz (tL a)) cap)):=bal w _;have c0:(w.alloc (tbO g (sz (tL a)) cap)).cell? ⟨w.heap.size,0,none⟩=some (sZ g (sz (tL a)) cap):=by simp
 have R0:=ht.below B0;have RO:Hid (∀X,Rg g (tL a) X->CZ 62 #[.agg #[sZ g (sz (tL a)) cap]] X λe w'=>e=.returned (.int .i64 91)/\Below X.heap.size X w'):=λX (h:Rg g (tL a) X)=>zav (tL a) g cap X h (z1c hl (by decide))
 generalize htt:(tL a:Ty)=t at *
 generalize sz t=st at *
 have hlw:w.heap.size<(w.alloc (tbO g st cap)).heap.size:=by simp
 clear ht hl;go_enter Tryz.func42,Tryz.ntmps42;go_wp21;generalize w.alloc (tbO g st cap)=W at *
 refine(RO W R0).mono ?_;rintro e w1 ⟨rfl,b1⟩;have R1:=R0.below b1;have B1:=B0.trans (b1.mono B0.size);replace c0:=(b1.cell (p:=⟨w.heap.size,0,none⟩) hlw).trans c0;have l1:w.heap.size<w1.heap.size:=z1e hlw b1.size;clear R0 b1 B0 hlw;go_wp21;refine(F0 w1 R1).mono ?_;rintro e w2 ⟨g2,cap2,rfl,R2,hg2,b2⟩;have B2:=B1.trans (b2.mono B1.size);clear c0 R1 b2 B1 l1;generalize zae a=f at *
 go_wp21;refine(T0 g2 cap2 w2 R2).mono ?_;rintro e w3 ⟨rfl,b3⟩;have B3:=B2.trans (b3.mono B2.size);clear R2 b3 B2;go_wp21;go_ret;rw[HR.out];refine⟨?_,B3⟩;show Ending.returned (.string _)=Ending.returned (.string _);rw[zid,zid,zik,zik];simp
theorem zxo (gt:Nat) (cc lv:Int) (cb:UInt8) (br:Bool) (a b:Ty) (ha:Ok a) (hb:Ok b) (T:zct a) (T':∀g1 cap1 X,Rg g1 b X->sz b<=60000->CZ 68 #[.agg #[sZ g1 (sz b) cap1],.int .i64 lv] X λe w'=>e=.returned (.string ⟨(inBr br (zae b)).toArray⟩)/\Below X.heap.size X w')
 (hg:gt=4/\cc=42/\lv=2/\cb=42/\br=(isFn b||isPr b)\/gt=5/\cc=62/\lv=0/\cb=62/\br=false):zct (.node gt 0 () a b):=by
 intro g cap w ht hl;have s1:sz (.node gt 0 () a b:Ty)=sz a+sz b+1:=rfl;have F0:Hid (∀X,Rg g (.node gt 0 () a b:Ty) X->CZ 64 #[.agg #[sZ g (sz (.node gt 0 () a b:Ty)) cap]] X (zcl a X)):=λX hr=>zch gt (by omega) a b ha g cap X hr (z1c hl (by decide))
 have S0:Hid (∀X,Rg g (.node gt 0 () a b:Ty) X->CZ 65 #[.agg #[sZ g (sz (.node gt 0 () a b:Ty)) cap]] X (zcl b X)):=λX hr=>zbz gt (by omega) a b hb g cap X hr (z1c hl (by decide))
 have TA:Hid (∀g1 cap1 X,Rg g1 a X->CZ 68 #[.agg #[sZ g1 (sz a) cap1],.int .i64 1] X λe w'=>e=.returned (.string ⟨(inBr (isFn a) (zae a)).toArray⟩)/\Below X.heap.size X w'):=λg1 cap1 X hr=>within1 ha T g1 cap1 X hr (by omega)
 have TB:Hid (∀g1 cap1 X,Rg g1 b X->CZ 68 #[.agg #[sZ g1 (sz b) cap1],.int .i64 lv] X λe w'=>e=.returned (.string ⟨(inBr br (zae b)).toArray⟩)/\Below X.heap.size X w'):=λg1 cap1 X hr=>T' g1 cap1 X hr (by omega)
 have hla:=zxs (isFn a) (zae a);have hlb:=zxs br (zae b);have hta:=zjb ha;have htb:=zjb hb;have n1:¬(9223372036854775807<(inBr (isFn a) (zae a)).length+1):=by omega
 have n2:¬(9223372036854775807<(inBr (isFn a) (zae a)).length+1+(inBr br (zae b)).length):=by omega
 have HR:Hid (zae (.node gt 0 () a b:Ty)=inBr (isFn a) (zae a)++cb::inBr br (zae b)):=by unfold Hid;rcases hg with ⟨rfl,_,_,rfl,rfl⟩|⟨rfl,_,_,rfl,rfl⟩<;>simp[zae,inBr]
 clear s1 T T' hla hlb hta htb;have B0:Below w.heap.size w (w.alloc (tbO g (sz (.node gt 0 () a b:Ty)) cap)):=bal w _;have c0:(w.alloc (tbO g (sz (.node gt 0 () a b:Ty)) cap)).cell? ⟨w.heap.size,0,none⟩=some (sZ g (sz (.node gt 0 () a b:Ty)) cap):=by simp
 have R0:=ht.below B0
 have RO:Hid (∀X,Rg g (.node gt 0 () a b:Ty) X->CZ 62 #[.agg #[sZ g (sz (.node gt 0 () a b:Ty)) cap]] X λe w'=>e=.returned (.int .i64 cc)/\Below X.heap.size X w'):=λX (h:Rg g (.node gt 0 () a b:Ty) X)=>by
  have:=zav (.node gt 0 () a b:Ty) g cap X h (z1c hl (by decide));rwa [show (((rt (.node gt 0 () a b:Ty) 0).op:Nat):Int)=cc by rcases hg with ⟨rfl,rfl,_⟩|⟨rfl,rfl,_⟩<;>rfl] at this
 generalize htt:(.node gt 0 () a b:Ty)=t at *
 generalize sz t=st at *
 have hlw:w.heap.size<(w.alloc (tbO g st cap)).heap.size:=by simp
 clear ht hl;generalize inBr (isFn a) (zae a)=fa at *
 generalize inBr br (zae b)=fb at *
 rcases hg with ⟨_,rfl,rfl,rfl,_⟩|⟨_,rfl,rfl,rfl,_⟩
 all_goals
  go_enter Tryz.func42,Tryz.ntmps42
  go_wp2_with fail
  generalize w.alloc (tbO g st cap)=W at *
  refine(RO.out W R0).mono ?_;rintro e w1 ⟨rfl,b1⟩;have R1:=R0.below b1;have B1:=B0.trans (b1.mono B0.size);replace c0:=(b1.cell (p:=⟨w.heap.size,0,none⟩) hlw).trans c0;have l1:w.heap.size<w1.heap.size:=z1e hlw b1.size;clear R0 b1 B0 hlw
  go_wp2_with fail
  have q1:=c0;have HB1:Hid (Below w.heap.size w w1):=B1;clear B1
  go_region_held3 (λwq=>cZ wq w.heap.size 0 (sZ g st cap))
   (first|(go_keep;done)|exact q1)
   (first
    |(go_at_call 65;refine(S0.out _ ((R1.below b2).below b3)).mono ?_;rintro e w4 ⟨g4,cap4,rfl,R4,hg4,b4⟩;(have s4:=b4.size);(have q1:=(b4.cell (p:=⟨w.heap.size,0,none⟩) (by show w.heap.size<_;omega)).trans q1))
    |(go_at_call 64;refine(F0.out _ R1.drew).mono ?_;rintro e w2 ⟨g2,cap2,rfl,R2,hg2,b2'⟩;(have b2:=zkn b2');(have s2:=b2.size);(have q1:=(b2.cell (p:=⟨w.heap.size,0,none⟩) (by show w.heap.size<_;omega)).trans q1))
    |(go_at_call 68;(have hR4:=R4);refine(TB.out g4 cap4 w4 R4).mono ?_;rintro e w5 ⟨rfl,b5⟩;(have s5:=b5.size);(have q1:=(b5.cell (p:=⟨w.heap.size,0,none⟩) (by show w.heap.size<_;omega)).trans q1))
    |(go_at_call 68;refine(TA.out g2 cap2 w2 R2).mono ?_;rintro e w3 ⟨rfl,b3⟩;(have s3:=b3.size);(have q1:=(b3.cell (p:=⟨w.heap.size,0,none⟩) (by show w.heap.size<_;omega)).trans q1)))
  go_wp2_with fail
  go_ret;rw[HR.out];refine⟨?_,(((HB1.out.trans (b2.mono HB1.out.size)).trans (b3.mono (by have:=HB1.out.size;omega))).trans (b4.mono (by have:=HB1.out.size;omega))).trans (b5.mono (by have:=HB1.out.size;omega))⟩;show Ending.returned (.string _)=Ending.returned (.string _);rw[zid,zik,zik];simp
theorem text_any:∀t:Ty,Ok t->zct t:=by
 intro t
 induction t with
 |nil=>intro h;exact h.elim
 |node g o u a b iha ihb=>
  intro h
  cases u
  rcases h with ⟨rfl,rfl,rfl,rfl⟩|⟨rfl,rfl,rfl,rfl⟩|⟨rfl,ho,rfl,rfl⟩|⟨rfl,rfl,ha,rfl⟩|⟨rfl,rfl,ha,hb⟩|⟨rfl,rfl,ha,hb⟩
  ·exact text_I
  ·exact text_B
  ·exact text_V o ho
  ·exact text_L a ha (iha ha)
  ·exact zxo 4 42 2 42 _ a b ha hb (iha ha) (λg1 cap1 X hr h=>within2 hb (ihb hb) g1 cap1 X hr h) (.inl ⟨rfl,rfl,rfl,rfl,rfl⟩)
  ·exact zxo 5 62 0 62 _ a b ha hb (iha ha) (λg1 cap1 X hr h=>within0 hb (ihb hb) g1 cap1 X hr h) (.inr ⟨rfl,rfl,rfl,rfl,rfl⟩)
def ints (l:List Nat):List Value:=l.map λo=> .int .i64 ((o+30:Nat):Int)
section
variable {xs:List Value} {B n m:Nat} {e:TypeId} {v:Value} {w w':World}
theorem infoIntL:(Tryz.prog.info? 3).map (λi=>(i.zero,i.size,i.bytes))=some (some (.int .i64 0),1,8):=by kernel_rfl
def zoz (B:Nat) (l:List Nat) (V:Value) (w:World) (e:Ending) (w':World):Prop:=
 ∃V',e=.returned V'/\w'.ownsRow B 3 1 V' l.length (ints l)/\w.grownBy w' V.ownBlock/\(V'.ownBlock=V.ownBlock\/∃k,V'.ownBlock=some k/\w.heap.size<=k)
def zcf (t:Ty):Prop:=∀(B:Nat) (l:List Nat) (V:Value) (g cap:Nat) (w:World),w.ownsRow B 3 1 V l.length (ints l)->B<=w.heap.size->Rg g t w->V.ownBlock≠some g->sz t<=60000->l.length+sz t<=200000->
 CZ 39 #[.agg #[sZ g (sz t) cap],V] w (zoz B (zaa t l) V w)
theorem zan (h:Below w.heap.size w w') (row:Option Nat):w.grownBy w' row:=⟨h.os,h.tape,h.output,h.size,λk hk _=>h.block k hk⟩
theorem zcz (h:w.ownsRow B e n v m xs) (hb:Below w.heap.size w w'):w'.ownsRow B e n v m xs:=by
 obtain⟨h1,h2|⟨g,cap,cur,e,hB,hg,h3⟩⟩:=h
 ·exact⟨h1,.inl h2⟩
 ·exact⟨h1,.inr ⟨g,cap,cur,e,hB,(hb.block g (z1a.1 hg).1).trans hg,h3⟩⟩
theorem zty:∀(t:Ty) (l:List Nat),(zaa t l).length<=l.length+sz t:=by
 intro t
 induction t with
 |nil=>intro l;simp[zaa,sz]
 |node g o u a b iha ihb=>
  intro l;simp only[zaa,sz];split
  ·split
   ·omega
   ·simp
  ·have h1:=iha l
   have h2:=ihb (zaa a l);omega
theorem zsk {V:Value} {l:List Nat} {k o:Nat} (h:w.ownsRow B 3 1 V l.length (ints l)) (hk:l[k]? =some o):∃gg cap,V=(sZ gg l.length cap)/\w.cell? ⟨gg,k,none⟩=some (.int .i64 ((o+30:Nat):Int)):=by
 have hlt:=(z1b.1 hk).1;rcases h.2 with ⟨rfl,h0⟩|⟨gg,cap,cur,rfl,_,hg,_,_,_,hc⟩
 ·omega
 ·refine⟨gg,cap,rfl,?_⟩
  rw[z1f hg];have e1:(ints l)[k]? =some (.int .i64 ((o+30:Nat):Int)):=by simp[ints,hk]
  rw[<-hc,List.getElem?_take_of_lt (by omega)] at e1;simpa using e1
theorem leaves_I:zcf (tI):=by
 intro B l V g cap w hown hB ht hne hl hll;have B0:Below w.heap.size w (w.alloc (tbO g (sz (tI)) cap)):=bal w _;have c0:(w.alloc (tbO g (sz (tI)) cap)).cell? ⟨w.heap.size,0,none⟩=some (sZ g (sz (tI)) cap):=by simp
 have R0:=ht.below B0;have RO:Hid (∀X,Rg g (tI) X->CZ 62 #[.agg #[sZ g (sz (tI)) cap]] X λe w'=>e=.returned (.int .i64 73)/\Below X.heap.size X w'):=λX (h:Rg g (tI) X)=>zav (tI) g cap X h (z1c hl (by decide))
 obtain⟨va,vm,vc,hV⟩:∃a m c,V=.slice a m c:=by
  rcases hown.2 with ⟨rfl,_⟩|⟨g',cap,cur,rfl,_⟩<;>exact⟨_,_,_,rfl⟩
 generalize htt:(tI:Ty)=t at *
 generalize sz t=st at *
 have hlw:w.heap.size<(w.alloc (tbO g st cap)).heap.size:=by simp
 clear ht hl;subst hV;go_enter Tryz.func39,Tryz.ntmps39;go_wp21;generalize w.alloc (tbO g st cap)=W at *
 refine(RO W R0).mono ?_;rintro e w1 ⟨rfl,b1⟩;have R1:=R0.below b1;have B1:=B0.trans (b1.mono B0.size);replace c0:=(b1.cell (p:=⟨w.heap.size,0,none⟩) hlw).trans c0;have l1:w.heap.size<w1.heap.size:=z1e hlw b1.size;clear R0 b1 B0 hlw;go_wp21;refine(zbp 73 w1).mono ?_;rintro e w' ⟨rfl,rfl⟩;go_wp21;go_ret;subst htt;exact⟨_,rfl,zcz hown B1,zan B1 _,.inl rfl⟩
theorem leaves_B:zcf (tB):=by
 intro B l V g cap w hown hB ht hne hl hll;have B0:Below w.heap.size w (w.alloc (tbO g (sz (tB)) cap)):=bal w _;have c0:(w.alloc (tbO g (sz (tB)) cap)).cell? ⟨w.heap.size,0,none⟩=some (sZ g (sz (tB)) cap):=by simp
 have R0:=ht.below B0;have RO:Hid (∀X,Rg g (tB) X->CZ 62 #[.agg #[sZ g (sz (tB)) cap]] X λe w'=>e=.returned (.int .i64 66)/\Below X.heap.size X w'):=λX (h:Rg g (tB) X)=>zav (tB) g cap X h (z1c hl (by decide))
 obtain⟨va,vm,vc,hV⟩:∃a m c,V=.slice a m c:=by
  rcases hown.2 with ⟨rfl,_⟩|⟨g',cap,cur,rfl,_⟩<;>exact⟨_,_,_,rfl⟩
 generalize htt:(tB:Ty)=t at *
 generalize sz t=st at *
 have hlw:w.heap.size<(w.alloc (tbO g st cap)).heap.size:=by simp
 clear ht hl;subst hV;go_enter Tryz.func39,Tryz.ntmps39;go_wp21;generalize w.alloc (tbO g st cap)=W at *
 refine(RO W R0).mono ?_;rintro e w1 ⟨rfl,b1⟩;have R1:=R0.below b1;have B1:=B0.trans (b1.mono B0.size);replace c0:=(b1.cell (p:=⟨w.heap.size,0,none⟩) hlw).trans c0;have l1:w.heap.size<w1.heap.size:=z1e hlw b1.size;clear R0 b1 B0 hlw;go_wp21;refine(zbp 66 w1).mono ?_;rintro e w' ⟨rfl,rfl⟩;go_wp21;go_ret;subst htt;exact⟨_,rfl,zcz hown B1,zan B1 _,.inl rfl⟩
theorem leaves_V (o:Nat) (ho:970<=o/\o<1230):zcf (tV o):=by
 intro B l V g cap w hown hB ht hne hl hll;have B0:Below w.heap.size w (w.alloc (tbO g (sz (tV o)) cap)):=bal w _;have c0:(w.alloc (tbO g (sz (tV o)) cap)).cell? ⟨w.heap.size,0,none⟩=some (sZ g (sz (tV o)) cap):=by simp
 have R0:=ht.below B0;have RO:Hid (∀X,Rg g (tV o) X->CZ 62 #[.agg #[sZ g (sz (tV o)) cap]] X λe w'=>e=.returned (.int .i64 ((o+30:Nat):Int))/\Below X.heap.size X w'):=λX (h:Rg g (tV o) X)=>zav (tV o) g cap X h (z1c hl (by decide))
 obtain⟨va,vm,vc,hV⟩:∃a m c,V=.slice a m c:=by
  rcases hown.2 with ⟨rfl,_⟩|⟨g',cap,cur,rfl,_⟩<;>exact⟨_,_,_,rfl⟩
 generalize htt:(tV o:Ty)=t at *
 generalize sz t=st at *
 have hlw:w.heap.size<(w.alloc (tbO g st cap)).heap.size:=by simp
 clear ht hl;obtain⟨p,hp⟩:∃p,p=o+30:=⟨_,rfl⟩
 rw[<-hp] at RO;have HP:=hid hp;have e4:decide ((1000:Int)<=(p:Int))=true:=by simp;omega
 have HL:Hid (zaa t l=if l.contains o then l else l++[o]):=by unfold Hid;rw[<-htt];simp[zaa]
 have hpb:p<2000:=by omega
 obtain⟨i0,hi0,hz0,hz1,hz2⟩:=info_parts infoIntL;clear hp ho htt
 have HC:Hid (∀k x,l[k]? =some x->∀Y,Below w.heap.size w Y->∃gg,va=some ⟨gg,0,none⟩/\cZ Y gg k (.int .i64 ((x+30:Nat):Int))):=by
  intro k x hk Y hY;obtain⟨gg,cap',e,hc⟩:=zsk (zcz hown hY) hk;rw[hV] at e;simp at e;exact⟨gg,e.1,hc⟩
 have hvm:vm=l.length:=by
  rcases hown.2 with ⟨e,h0⟩|⟨g',cap',cur,e,_⟩
  ·rw[hV] at e;simp at e;omega
  ·rw[hV] at e;simp at e;exact e.2.1
 subst hvm;subst hV;go_enter Tryz.func39,Tryz.ntmps39;go_wp21;generalize w.alloc (tbO g st cap)=W at *
 refine(RO W R0).mono ?_;rintro e w1 ⟨rfl,b1⟩;have R1:=R0.below b1;have B1:=B0.trans (b1.mono B0.size);replace c0:=(b1.cell (p:=⟨w.heap.size,0,none⟩) hlw).trans c0;have l1:w.heap.size<w1.heap.size:=z1e hlw b1.size;clear R0 b1 B0 hlw;go_wp21;refine(zbp p w1).mono ?_;rintro e w' ⟨rfl,rfl⟩;rw[e4];clear e4;generalize hll2:l.length=ll at *
 have HLL:=hid hll2;clear hll2;go_wp21
 go_loopw [6] (λi wr=>∃k:Nat,i=(iZ k)/\k<=ll/\Hid (∀(j x:Nat),j<k->l[j]? =some x->x≠o)/\wr=w') (λi _=>ll-(intOf i).toNat)
 case atStart=>exact⟨0,rfl,Nat.zero_le _,λj x hj=>absurd hj (by omega),rfl⟩
 case round=>
  obtain⟨k,rfl,hk,HU,hwr⟩:=hrel;subst hwr;rcases z1r k ll with hlt|hge
  ·obtain⟨x,hx⟩:∃x,l[k]? =some x:=⟨_,z1h (by rw[HLL.out];exact hlt)⟩
   obtain⟨gg,rfl,hc⟩:=HC k x hx _ B1;have HX:=hid hx;obtain⟨y,hy⟩:∃y,y=x+30:=⟨_,rfl⟩
   rw[<-hy] at hc;have HY:=hid hy;clear hx hy;by_cases hp:y=p
   ·have e1:((y:Int)==(p:Int))=true:=by rw[hp];simp
    have exo:x=o:=by have:=HY.out;have:=HP.out;omega
    have HR:Hid (zaa t l=l):=by
     unfold Hid;rw[HL.out,if_pos (by rw[z2b];have:=HX.out;rw[exo] at this;exact z1m this)]
    clear hp exo;go_wp21;go_ret;unfold zoz;rw[HR.out,HLL.out];exact⟨_,rfl,zcz hown B1,zan B1 _,.inl rfl⟩
   ·have e1:((y:Int)==(p:Int))=false:=by rw[beq_eq_false_iff_ne];omega
    have HM:Hid (∀(j x:Nat),j<k+1->l[j]? =some x->x≠o):=by
     intro j z hj hz;rcases z1r j k with h1|h1
     ·exact HU j z h1 hz
     ·obtain rfl:j=k:=by omega
      rw[HX.out] at hz;obtain rfl:=z1q hz;intro e;exact hp (by have:=HY.out;have:=HP.out;omega)
    clear hp;go_wp21;go_roundw
    case rel=>exact⟨k+1,by simp,by omega,HM,by trivial⟩
    case measure=>simp[intOf];omega
  ·obtain rfl:k=ll:=by omega
   have HR:Hid (zaa t l=l++[o]):=by
    unfold Hid;rw[HL.out,if_neg (λhq=>?_)];rw[z2b] at hq;obtain⟨m,hm,e2⟩:=List.getElem_of_mem hq;exact HU.out m o (by have:=HLL.out;omega) (by rw[z1h hm,e2]) rfl
   have hown1:=zcz hown B1;have hs1:=B1.size;have HI:Hid (ints (l++[o])=ints l++[iZ p]):=by unfold Hid;rw[HP.out];simp[ints]
   go_wp2_with (at_builtin;refine wpList_append_own_at _ rfl _ _ 63 rfl B 3 i0 (.int .i64 0) 1 8 Tryz.underlying63 hi0 hz0 hz1 hz2 rfl (by decide) _ _ _ rfl (hown1.alloc _) ⟨_,0,none⟩ 1 1 [iZ p] rfl rfl ?c1 ?c2 ?c3 ?c4 ?c5 ?_)
   case c1=>
    intro j u hj
    match j,hj with
    |0,hj=>simp at hj;subst hj;simp[Addr.add]
   case c2=>intro u hu;simp at hu;subst hu;rfl
   case c3=>unfold maxLen;omega
   case c4=>omega
   case c5=>simp;omega
   intro v' w5 hown' hgrow hnil hat
   obtain⟨xa,xm,xc,hv'⟩:∃a m c,v'=.slice a m c:=by
    rcases hown'.2 with ⟨rfl,_⟩|⟨g',cap',cur,rfl,_⟩<;>exact⟨_,_,_,rfl⟩
   have HO:Hid (w5.ownsRow B 3 1 v' (l++[o]).length (ints (l++[o]))):=by
    unfold Hid;rw[HI.out,z1l,HLL.out];exact hown'
   have HG:Hid (w.grownBy w5 (Value.slice va k vc).ownBlock):=((zan B1 _).trans (z1p _ _ _)).trans hgrow
   have HA:Hid (v'.ownBlock=(Value.slice va k vc).ownBlock\/∃j,v'.ownBlock=some j/\w.heap.size<=j):=by
    rcases hat with h|h
    ·exact .inl h
    ·exact .inr ⟨_,h,by omega⟩
   clear hgrow hat hnil hown';subst hv';go_wp21;go_ret;unfold zoz;rw[HR.out];exact⟨_,rfl,HO,HG,HA⟩
theorem zsx {j:Nat} (h:w.ownsRow B e n v m xs) (hj:v.ownBlock=some j):j<w.heap.size:=by
 rcases h.2 with ⟨rfl,_⟩|⟨g,cap,cur,rfl,_,hg,_⟩
 ·cases hj
 ·cases hj
  exact(z1a.1 hg).1
theorem zft (h:w.ownsRow B e n v m xs):∃a m c,v=.slice a m c:=by
 rcases h.2 with ⟨rfl,_⟩|⟨g',cap',cur,rfl,_⟩<;>exact⟨_,_,_,rfl⟩
theorem leaves_L (a:Ty) (ha:Ok a) (ih:zcf a):zcf (tL a):=by
 intro B l V g cap w hown hB ht hne hl hll;have FI:Hid (∀X,Rg g (tL a) X->CZ 64 #[.agg #[sZ g (sz (tL a)) cap]] X (zcl a X)):=λX (h:Rg g (tL a) X)=>zgd a ha g cap X h (z1c hl (by decide))
 have HS:Hid (sz a<=60000/\l.length+sz a<=200000/\True):=by
  have e:sz (tL a)=sz a+1:=by simp[sz]
  rw[e] at hl hll;exact⟨by omega,by omega,trivial⟩
 have HL:Hid (zaa (tL a) l=zaa a l):=by unfold Hid;simp[zaa]
 have IA:=hid ih;clear ih;have B0:Below w.heap.size w (w.alloc (tbO g (sz (tL a)) cap)):=bal w _;have c0:(w.alloc (tbO g (sz (tL a)) cap)).cell? ⟨w.heap.size,0,none⟩=some (sZ g (sz (tL a)) cap):=by simp
 have R0:=ht.below B0;have RO:Hid (∀X,Rg g (tL a) X->CZ 62 #[.agg #[sZ g (sz (tL a)) cap]] X λe w'=>e=.returned (.int .i64 91)/\Below X.heap.size X w'):=λX (h:Rg g (tL a) X)=>zav (tL a) g cap X h (z1c hl (by decide))
 obtain⟨va,vm,vc,hV⟩:∃a m c,V=.slice a m c:=by
  rcases hown.2 with ⟨rfl,_⟩|⟨g',cap,cur,rfl,_⟩<;>exact⟨_,_,_,rfl⟩
 generalize htt:(tL a:Ty)=t at *
 generalize sz t=st at *
 have hlw:w.heap.size<(w.alloc (tbO g st cap)).heap.size:=by simp
 clear ht hl;subst hV;go_enter Tryz.func39,Tryz.ntmps39;go_wp21;generalize w.alloc (tbO g st cap)=W at *
 refine(RO W R0).mono ?_;rintro e w1 ⟨rfl,b1⟩;have R1:=R0.below b1;have B1:=B0.trans (b1.mono B0.size);replace c0:=(b1.cell (p:=⟨w.heap.size,0,none⟩) hlw).trans c0;have l1:w.heap.size<w1.heap.size:=z1e hlw b1.size;clear R0 b1 B0 hlw;go_wp21;refine(zbp 91 w1).mono ?_;rintro e w' ⟨rfl,rfl⟩;go_wp21;refine(FI w' R1).mono ?_;rintro e w2 ⟨g2,cap2,rfl,R2,hg2,b2⟩;have B2:=B1.trans (b2.mono B1.size);have hown2:Hid (w2.ownsRow B 3 1 (.slice va vm vc) l.length (ints l)):=zcz hown B2;have hne2:Hid ((Value.slice va vm vc).ownBlock≠some g2):=λh=>by have:=zsx hown h;have:=B1.size;omega
 go_wp21;refine(IA B l _ g2 cap2 w2 hown2.out (z1c hB B2.size) R2 hne2.out HS.1 HS.2.1).mono ?_;rintro e w3 ⟨V',rfl,hown3,hgr,hat⟩;obtain⟨xa,xm,xc,rfl⟩:=zft hown3;have HO:=hid hown3;have HG:Hid (w.grownBy w3 (Value.slice va vm vc).ownBlock):=(zan B2 _).trans hgr
 have HA:Hid ((Value.slice xa xm xc).ownBlock=(Value.slice va vm vc).ownBlock\/∃j,(Value.slice xa xm xc).ownBlock=some j/\w.heap.size<=j):=by
  rcases hat with h|⟨j,h,hj⟩
  ·exact .inl h
  ·exact .inr ⟨j,h,z1c B2.size hj⟩
 clear hown3 hgr hat;go_wp21;go_ret;unfold zoz;rw[HL.out];exact⟨_,rfl,HO,HG,HA⟩
theorem zoq (gt cc:Nat) (hg:gt=4/\cc=42\/gt=5/\cc=62) (a b:Ty) (ha:Ok a) (hb:Ok b) (ih:zcf a) (ih2:zcf b):zcf (.node gt 0 () a b):=by
 intro B l V g cap w hown hB ht hne hl hll;have FI:Hid (∀X,Rg g (.node gt 0 () a b:Ty) X->CZ 64 #[.agg #[sZ g (sz (.node gt 0 () a b:Ty)) cap]] X (zcl a X)):=λX (h:Rg g (.node gt 0 () a b:Ty) X)=>zch gt (by omega) a b ha g cap X h (z1c hl (by decide))
 have SE:Hid (∀X,Rg g (.node gt 0 () a b:Ty) X->CZ 65 #[.agg #[sZ g (sz (.node gt 0 () a b:Ty)) cap]] X (zcl b X)):=λX (h:Rg g (.node gt 0 () a b:Ty) X)=>zbz gt (by omega) a b hb g cap X h (z1c hl (by decide))
 have HS:Hid (sz a<=60000/\l.length+sz a<=200000/\sz b<=60000/\(zaa a l).length+sz b<=200000):=by
  have e:sz (.node gt 0 () a b:Ty)=sz a+sz b+1:=rfl;rw[e] at hl hll;have:=zty a l;exact⟨by omega,by omega,by omega,by omega⟩
 have HL:Hid (zaa (.node gt 0 () a b:Ty) l=zaa b (zaa a l)):=by unfold Hid;rcases hg with ⟨rfl,_⟩|⟨rfl,_⟩<;>simp[zaa]
 have IA:=hid ih;have IB:=hid ih2;clear ih ih2;have B0:Below w.heap.size w (w.alloc (tbO g (sz (.node gt 0 () a b:Ty)) cap)):=bal w _;have c0:(w.alloc (tbO g (sz (.node gt 0 () a b:Ty)) cap)).cell? ⟨w.heap.size,0,none⟩=some (sZ g (sz (.node gt 0 () a b:Ty)) cap):=by simp
 have R0:=ht.below B0
 have RO:Hid (∀X,Rg g (.node gt 0 () a b:Ty) X->CZ 62 #[.agg #[sZ g (sz (.node gt 0 () a b:Ty)) cap]] X λe w'=>e=.returned (iZ cc)/\Below X.heap.size X w'):=λX (h:Rg g (.node gt 0 () a b:Ty) X)=>by
  have:=zav (.node gt 0 () a b:Ty) g cap X h (z1c hl (by decide));rwa [show (rt (.node gt 0 () a b:Ty) 0).op=cc by rcases hg with ⟨rfl,rfl⟩|⟨rfl,rfl⟩<;>rfl] at this
 obtain⟨va,vm,vc,hV⟩:∃a m c,V=.slice a m c:=by
  rcases hown.2 with ⟨rfl,_⟩|⟨g',cap,cur,rfl,_⟩<;>exact⟨_,_,_,rfl⟩
 generalize htt:(.node gt 0 () a b:Ty)=t at *
 generalize sz t=st at *
 have hlw:w.heap.size<(w.alloc (tbO g st cap)).heap.size:=by simp
 clear ht hl;subst hV;go_enter Tryz.func39,Tryz.ntmps39;go_wp21;generalize w.alloc (tbO g st cap)=W at *
 refine(RO W R0).mono ?_;rintro e w1 ⟨rfl,b1⟩;have R1:=R0.below b1;have B1:=B0.trans (b1.mono B0.size);replace c0:=(b1.cell (p:=⟨w.heap.size,0,none⟩) hlw).trans c0;have l1:w.heap.size<w1.heap.size:=z1e hlw b1.size;clear R0 b1 B0 hlw;go_wp21;refine(zbp cc w1).mono ?_;rintro e w' ⟨rfl,rfl⟩;have d1:decide ((1000:Int)<=(cc:Int))=false:=by simp;omega
 rw[d1];have e91:((cc:Int)==91)=false:=by rw[beq_eq_false_iff_ne];omega
 have hsp:((cc:Int)==42)=true\/((cc:Int)==42)=false/\((cc:Int)==62)=true:=by rcases hg with ⟨_,rfl⟩|⟨_,rfl⟩<;>simp
 clear hg;rcases hsp with f42|⟨f42,f62⟩
 all_goals
  go_wp21;refine(FI w' R1).mono ?_;rintro e w2 ⟨g2,cap2,rfl,R2,hg2,b2⟩;have B2:=B1.trans (b2.mono B1.size);have hown2:Hid (w2.ownsRow B 3 1 (.slice va vm vc) l.length (ints l)):=zcz hown B2;have hne2:Hid ((Value.slice va vm vc).ownBlock≠some g2):=λh=>by have:=zsx hown h;have:=B1.size;omega
  go_wp21;refine(IA B l _ g2 cap2 w2 hown2.out (z1c hB B2.size) R2 hne2.out HS.1 HS.2.1).mono ?_;rintro e w3 ⟨V',rfl,hown3,hgr,hat⟩;obtain⟨xa,xm,xc,rfl⟩:=zft hown3;have HO:=hid hown3;have HG:Hid (w.grownBy w3 (Value.slice va vm vc).ownBlock):=(zan B2 _).trans hgr
  have HA:Hid ((Value.slice xa xm xc).ownBlock=(Value.slice va vm vc).ownBlock\/∃j,(Value.slice xa xm xc).ownBlock=some j/\w.heap.size<=j):=by
   rcases hat with h|⟨j,h,hj⟩
   ·exact .inl h
   ·exact .inr ⟨j,h,z1c B2.size hj⟩
  have c2:=(b2.cell (p:=⟨w.heap.size,0,none⟩) l1).trans c0;have l2:w.heap.size<w2.heap.size:=z1e l1 b2.size;have c3:=(hgr.cell_far ⟨w.heap.size,0,none⟩ l2 (λh=>absurd (zsx hown h.symm) (Nat.lt_irrefl _))).trans c2;have R3:=(R1.below b2).kept hgr hne;clear hown3 hgr hat c2 c0 R2 R1;go_wp21;refine(SE w3 R3).mono ?_;rintro e w4 ⟨g4,cap4,rfl,R4,hg4,b4⟩;have hne4:Hid ((Value.slice xa xm xc).ownBlock≠some g4):=λh=>by have:=zsx HO.out h;omega
  have hB4:Hid (B<=w4.heap.size):=z1c hB (z1c HG.out.size b4.size);go_wp21;refine(IB B (zaa a l) _ g4 cap4 w4 (zcz HO b4) hB4.out R4 hne4.out HS.2.2.1 HS.2.2.2).mono ?_;rintro e w5 ⟨V5,rfl,hown5,hgr5,hat5⟩;obtain⟨ya,ym,yc,rfl⟩:=zft hown5;have HO5:=hid hown5
  have HG5:Hid (w.grownBy w5 (Value.slice va vm vc).ownBlock):=(HG.out.trans (zan b4 _)).andThen hgr5 (λj hj=>by
   rcases HA.out with h|⟨i,h,hi⟩
   ·exact .inr (h.symm.trans hj)
   ·rw[h] at hj
    exact .inl (by cases hj;exact hi))
  have HA5:Hid ((Value.slice ya ym yc).ownBlock=(Value.slice va vm vc).ownBlock\/∃j,(Value.slice ya ym yc).ownBlock=some j/\w.heap.size<=j):=by
   rcases hat5 with h|⟨j,h,hj⟩
   ·rcases HA.out with h2|⟨j,h2,hj⟩
    ·exact .inl (h.trans h2)
    ·exact .inr ⟨j,h.trans h2,hj⟩
   ·exact .inr ⟨j,h,z1c (z1c HG.size b4.size) hj⟩
  clear hown5 hgr5 hat5;go_wp21;go_ret;unfold zoz;rw[HL.out];exact⟨_,rfl,HO5,HG5,HA5⟩
theorem leaves_any:∀{t:Ty},Ok t->zcf t:=by
 intro t
 induction t with
 |nil=>intro h;exact h.elim
 |node g p u a b iha ihb=>
  intro h
  cases u
  rcases h with ⟨rfl,rfl,rfl,rfl⟩|⟨rfl,rfl,rfl,rfl⟩|⟨rfl,hp,rfl,rfl⟩|⟨rfl,rfl,ha,rfl⟩|⟨rfl,rfl,ha,hb⟩|⟨rfl,rfl,ha,hb⟩
  ·exact leaves_I
  ·exact leaves_B
  ·exact leaves_V p hp
  ·exact leaves_L a ha (iha ha)
  ·exact zoq 4 42 (.inl ⟨rfl,rfl⟩) a b ha hb (iha ha) (ihb hb)
  ·exact zoq 5 62 (.inr ⟨rfl,rfl⟩) a b ha hb (iha ha) (ihb hb)
end
def zfc (n:Nat):List Ty:=(List.range n).map λk=>tV (zac k)
theorem zes (n:Nat):(zfc n).length=n:=by simp[zfc]
theorem zsv {n k:Nat} (h:k<n):(zfc n)[k]? =some (tV (zac k)):=by simp[zfc,h]
theorem put_form (t:Ty):zae (putT (zaa t []) (zfc (zaa t []).length) t)=zeh t:=by
 unfold zeh putT;rw[zhq (v:=zaa t []) (θ':=λo=>tV (zac (zbb o (zaa t [])))) ?_ t [] (λo h=>h)];intro o ho;obtain⟨h1,h2⟩:=zhp _ o ho;have hlt:=(z1b.1 h1).1;rw[look_at _ _ o _ _ h2 h1 (zsv hlt)];rfl
theorem sz_subV {f:Nat->Ty} (hf:∀o,sz (f o)=1):∀{t:Ty},Ok t->sz (sub f t)=sz t:=by
 intro t
 induction t with
 |nil=>intro h;exact h.elim
 |node g p u a b iha ihb=>
  intro h
  cases u
  rcases h with ⟨rfl,rfl,rfl,rfl⟩|⟨rfl,rfl,rfl,rfl⟩|⟨rfl,hp,rfl,rfl⟩|⟨rfl,rfl,ha,rfl⟩|⟨rfl,rfl,ha,hb⟩|⟨rfl,rfl,ha,hb⟩
  ·simp[sub,sz]
  ·simp[sub,sz]
  ·simp[sub,sz,hf]
  ·have:=iha ha
   simp[sub,sz,this]
  ·have h1:=iha ha
   have h2:=ihb hb;simp[sub,sz,h1,h2]
  ·have h1:=iha ha
   have h2:=ihb hb;simp[sub,sz,h1,h2]
theorem ztc {t:Ty} (h:Ok t) (v:List Nat) (n:Nat):sz (putT v (zfc n) t)=sz t:=by
 unfold putT;refine sz_subV (λo=>?_) h
 cases hq:look (v.zip (zfc n)) o with
 |none=>simp[sz]
 |some u=>
  have:=zpy hq;simp only[zfc,z1z] at this;obtain⟨k,_,rfl⟩:=this;simp[sz]
section
variable {k:Nat} {G:Value} {w wr:World}
theorem infoTypeL:(Tryz.prog.info? 33).map (λi=>(i.zero,i.size,i.bytes))=some (some (.agg #[.slice none 0 0]),1,24):=by kernel_rfl
def zts (hs:List (Nat×Nat)):List Value:=hs.map λh=> (sZ h.1 1 h.2)
structure Nm (w:World) (k:Nat) (G:Value) (wr:World):Prop where
 ex:∃hs:List (Nat×Nat),hs.length=k/\wr.ownsRow w.heap.size 33 1 G k (zts hs)/\∀(j:Nat) (h:Nat×Nat),hs[j]? =some h->Rg h.1 (tV (zac j)) wr/\G.ownBlock≠some h.1
 below:Below w.heap.size w wr
theorem Nm.kept {w':World} (h:Nm w k G wr) (hb:Below wr.heap.size wr w'):Nm w k G w':=by
 obtain⟨⟨hs,h1,h2,h3⟩,h4⟩:=h;exact⟨⟨hs,h1,zcz h2 hb,λj x hj=>⟨(h3 j x hj).1.below hb,(h3 j x hj).2⟩⟩,h4.trans (hb.mono h4.size)⟩
theorem Nm.row (h:Nm w k G wr):∃xs,wr.ownsRow w.heap.size 33 1 G k xs/\(∀(w5:World) (o:Obj) (v':Value) (g' cap':Nat),(wr.alloc o).grownBy w5 G.ownBlock->Rg g' (tV (zac k)) wr->G.ownBlock≠some g'->w5.ownsRow w.heap.size 33 1 v' (k+1) (xs++[sZ g' 1 cap'])->(v'.ownBlock=G.ownBlock\/v'.ownBlock=some (wr.heap.size+1))->Nm w (k+1) v' w5):=by
 obtain⟨⟨hs,h1,h2,h3⟩,h4⟩:=h;refine⟨zts hs,h2,?_⟩;intro w5 o v' g' cap' hg R hne ho hat;have hgr:wr.grownBy w5 G.ownBlock:=(z1p _ _ _).trans hg
 have hrow:∀j,G.ownBlock=some j->w.heap.size<=j:=by
  intro j hj;rcases h2.2 with ⟨rfl,_⟩|⟨g,cap,cur,rfl,hB,_⟩
  ·cases hj
  ·cases hj;exact hB
 have hv:∀j,j<wr.heap.size->G.ownBlock≠some j->v'.ownBlock≠some j:=by
  intro j hj hn e;rcases hat with h|h
  ·exact hn (h.symm.trans e)
  ·rw[h] at e;cases e;omega
 refine⟨⟨hs++[(g',cap')],by simp[h1],by simpa [zts] using ho,?_⟩,?_⟩
 ·intro j x hj
  rcases z1r j hs.length with hlt|hge
  ·rw[z1t hlt] at hj
   obtain⟨r1,r2⟩:=h3 j x hj;exact⟨r1.kept hgr r2,hv _ r1.lt r2⟩
  ·rw[List.getElem?_append_right hge] at hj
   have e0:j-hs.length=0:=by
    rcases Nat.eq_zero_or_pos (j-hs.length) with h|h
    ·exact h
    ·rw[List.getElem?_eq_none (by simp;omega)] at hj;cases hj
   rw[e0] at hj;simp at hj;subst hj;obtain rfl:j=k:=by omega
   exact⟨R.kept hgr hne,hv _ R.lt hne⟩
 ·exact⟨hgr.os.trans h4.os,hgr.tape.trans h4.tape,hgr.output.trans h4.output,z1c h4.size hgr.size,λi hi=>(hgr.block i (z1e hi h4.size) (λe=>by have:=hrow i e.symm;omega)).trans (h4.block i hi)⟩
theorem Nm.ls (h:Nm w k G wr):Ls wr G (zfc k):=by
 obtain⟨⟨hs,h1,h2,h3⟩,h4⟩:=h;rcases h2.2 with ⟨rfl,h0⟩|⟨g,cap,cur,rfl,hB,hg,_,_,_,hc⟩
 ·refine⟨none,0,by rw[zes,h0],.inl ?_⟩
  rw[h0];rfl
 ·refine⟨_,cap,by rw[zes],.inr ⟨g,rfl,(z1a.1 hg).1,?_⟩⟩
  intro j t hj;have hlt:j<k:=by have:=(z1b.1 hj).1;rwa [zes] at this
  rw[zsv hlt] at hj;obtain rfl:=z1q hj;obtain⟨x,hx⟩:∃x,hs[j]? =some x:=⟨_,z1h (by omega)⟩
  refine⟨x.1,x.2,?_,(h3 j x hx).1⟩;rw[z1f hg];have e1:(zts hs)[j]? =some (sZ x.1 1 x.2):=by simp[zts,hx]
  rw[<-hc,List.getElem?_take_of_lt (by omega)] at e1;have:sz (tV (zac j))=1:=by simp[sz]
  rw[this];simpa using e1
theorem is_row {B:Nat} {V:Value} {l:List Nat} (h:w.ownsRow B 3 1 V l.length (ints l)):Is w V (l.map (·+30)):=by
 rcases h.2 with ⟨rfl,h0⟩|⟨g,cap,cur,rfl,hB,hg,_,_,_,hc⟩
 ·exact⟨none,0,by simp[h0],.inl (by rw[List.length_eq_zero_iff.1 h0];rfl)⟩
 ·refine⟨_,cap,by simp,.inr ⟨g,rfl,(z1a.1 hg).1,?_⟩⟩
  intro k n hk;rw[z1n] at hk
  cases hq:l[k]? with
  |none=>rw[hq] at hk;cases hk
  |some o=>
   rw[hq] at hk;simp at hk;obtain⟨gg,cap',e,hcc⟩:=zsk h hq;simp at e;obtain⟨rfl,_⟩:=e;rw[hcc,hk]
theorem form_any (t:Ty) (g cap:Nat) (w:World) (ht:Rg g t w) (hl:sz t<=50000):
 CZ 21 #[.agg #[sZ g (sz t) cap]] w λe w'=>e=.returned (.string ⟨(zeh t).toArray⟩)/\Below w.heap.size w w':=by
 have B0:Below w.heap.size w (w.alloc (tbO g (sz t) cap)):=bal w _;have c0:(w.alloc (tbO g (sz t) cap)).cell? ⟨w.heap.size,0,none⟩=some (sZ g (sz t) cap):=by simp
 have R0:=ht.below B0;have LV:Hid (∀X,Rg g t X->CZ 39 #[.agg #[sZ g (sz t) cap],.slice none 0 0] X (zoz X.heap.size (zaa t []) (.slice none 0 0) X)):=λX (h:Rg g t X)=>leaves_any ht.ok X.heap.size [] _ g cap X (z1w _ _ _ _) (z1d _) h (by simp[Value.ownBlock]) (by omega) (by simp;omega)
 have HLn:Hid ((zaa t []).length<=260):=zpf ht.ok;have HLo:Hid (∀o∈zaa t [],970<=o):=zzc ht.ok;have HF:Hid (zae (putT (zaa t []) (zfc (zaa t []).length) t)=zeh t):=put_form t;have HZ:Hid (sz (putT (zaa t []) (zfc (zaa t []).length) t)=sz t):=ztc ht.ok _ _;have PA:Hid (zhe t):=zws t ht.ok;have HSl:=hid hl;have HS:=hid hl;generalize hst:sz t=st at *
 have HST:=hid hst;generalize zaa t []=L at *
 have hlw:w.heap.size<(w.alloc (tbO g st cap)).heap.size:=by simp
 clear ht hl hst;obtain⟨i0,hi0,hz0,hz1,hz2⟩:=info_parts infoTypeL;go_enter Tryz.func21,Tryz.ntmps21;go_wp21;generalize w.alloc (tbO g st cap)=W at *
 refine(LV W R0).mono ?_;rintro e w1 ⟨V,rfl,hown1,hgr1,-⟩;have b1:Below W.heap.size W w1:=zpa hgr1 (λk h=>by cases h);have IV:Hid (Is w1 V (L.map (·+30))):=is_row hown1;obtain⟨va,vm,vc,hV⟩:=zft hown1
 have hvm:vm=L.length:=by
  rcases hown1.2 with ⟨e,h0⟩|⟨g',cap',cur,e,_⟩
  ·rw[hV] at e;simp at e;omega
  ·rw[hV] at e;simp at e;exact e.2.1
 have R1:=R0.below b1;have B1:=B0.trans (b1.mono B0.size);replace c0:=(b1.cell (p:=⟨w.heap.size,0,none⟩) hlw).trans c0;have l1:w.heap.size<w1.heap.size:=z1e hlw b1.size;clear R0 b1 B0 hlw hgr1 hown1 LV;subst hvm;subst hV;generalize hll:L.length=ll at *
 have HLL:=hid hll;have hb:=HLn.out;clear hll;have N0:Hid (Nm w1 0 (.slice none 0 0) w1):=⟨⟨[],rfl,z1w _ _ _ _,λj h hj=>by simp at hj⟩,Below.refl _ _⟩
 go_wp21
 go_loopw [4,5] (λG i wr=>∃k:Nat,i=(iZ k)/\k<=ll/\Hid (Nm w1 k G wr)) (λ_ i _=>ll-(intOf i).toNat)
 case atStart=>exact⟨0,rfl,Nat.zero_le _,N0⟩
 case round=>
  obtain⟨k,rfl,hk,NK⟩:=hrel;obtain⟨xs,hx,HX⟩:=NK.row;obtain⟨ga,gm,gc,rfl⟩:=zft hx;rcases z1r k ll with hlt|hge
  ·have hnm:Hid (970<=zac k/\zac k<1230):=zsu (by omega)
   have LC:Hid (CZ 40 #[.int .i64 (1000+10*((k:Int) % 26)+(k:Int)/26)] wr λe w'=>∃g cap,e=.returned (.agg #[sZ g 1 cap])/\Rg g (tV (zac k)) w'/\wr.heap.size<=g/\Below wr.heap.size wr w'):=by
    have e1:(1000+10*((k:Int) % 26)+(k:Int)/26)=(sgn 2 (zac k):Int):=by simp[sgn,zac];omega
    rw[e1];exact zds 2 (zac k) (by decide) (by simp[Ok];exact hnm.out) wr
   have hrl:Hid (∀j,(Value.slice ga gm gc).ownBlock=some j->j<wr.heap.size):=λj hj=>zsx hx hj
   clear HX hx;go_wp21;refine LC.mono ?_;rintro e w2 ⟨g2,cap2,rfl,R2,hg2,b2⟩;obtain⟨ys,hy,HY⟩:=(NK.kept b2).row;have HYH:=hid HY;have hne2:Hid ((Value.slice ga gm gc).ownBlock≠some g2):=λh=>by have:=hrl.out _ h;omega
   clear HY LC hnm hrl
   go_wp2_with (at_builtin;refine wpList_append_own_at _ rfl _ _ 65 rfl w1.heap.size 33 i0 (.agg #[.slice none 0 0]) 1 24 Tryz.underlying65 hi0 hz0 hz1 hz2 rfl (by decide) _ _ _ rfl (hy.alloc _) ⟨_,0,none⟩ 1 1 [sZ g2 1 cap2] rfl rfl ?c1 ?c2 ?c3 ?c4 ?c5 ?_)
   case c1=>exact cell_one_new _ _ _
   case c2=>intro u hu;simp at hu;subst hu;rfl
   case c3=>unfold maxLen;omega
   case c4=>omega
   case c5=>
    have:=NK.out.below.size;have:=b2.size;simp;omega
   intro v' w5 hown' hgrow hnil hat;have N5:Hid (Nm w1 (k+1) v' w5):=HYH.out w5 _ v' g2 cap2 hgrow R2 hne2.out hown' (by simpa using hat);obtain⟨xa,xm,xc,rfl⟩:=zft hown';clear hown' hgrow hnil hat HYH;go_wp21;go_roundw
   case rel=>exact⟨k+1,by simp,by omega,N5⟩
   case measure=>simp[intOf];omega
  ·obtain rfl:k=ll:=by omega
   have ck:=(NK.out.below.cell (p:=⟨w.heap.size,0,none⟩) l1).trans c0;have Bk:=B1.trans (NK.out.below.mono B1.size)
   have PC:Hid (CZ 41 #[.agg #[sZ g st cap],.slice va k vc,.slice ga gm gc] wr (ztz (putT L (zfc k) t) wr)):=by
    unfold Hid;have:=HST.out;have:=HSl.out;have:=HZ.out;rw[<-HST.out];exact PA.out L (zfc k) g cap _ _ wr (R1.below NK.out.below) (by omega) (IV.out.below NK.out.below) NK.out.ls (by rw[zes,HLL.out]) (by rw[HLL.out];omega) HLo.out (by omega)
   clear NK c0 R1 HX hx N0 IV;go_wp21;refine PC.mono ?_;rintro e w2 ⟨g2,cap2,rfl,R2,b2⟩
   have TC:Hid (CZ 42 #[.agg #[sZ g2 (sz (putT L (zfc k) t)) cap2]] w2 λe w'=>e=.returned (.string ⟨(zeh t).toArray⟩)/\Below w2.heap.size w2 w'):=by
    unfold Hid;have:=HSl.out;have:=HZ.out;rw[<-HF.out];exact text_any _ R2.ok g2 cap2 w2 R2 (by omega)
   clear PC;generalize sz (putT L (zfc k) t)=sp at *
   go_wp21;refine TC.mono ?_;rintro e w3 ⟨rfl,b3⟩;have B3:=(Bk.trans (b2.mono Bk.size)).trans (b3.mono (Bk.trans (b2.mono Bk.size)).size);go_wp21;go_ret;exact⟨rfl,B3⟩
end
abbrev Sk:Type:=Nat×Ty×List Nat
def Ss (w:World) (S:Value) (st:List Sk):Prop:=∃a cap,S=.slice a st.length cap/\(st=[]\/∃g,a=some ⟨g,0,none⟩/\g<w.heap.size/\∀(k:Nat) (x:Sk),st[k]? =some x->
 ∃h cp V,w.cell? ⟨g,k*3,none⟩=some (uZ x.1)/\w.cell? ⟨g,k*3+1,none⟩=some (sZ h (sz x.2.1) cp)/\Rg h x.2.1 w/\w.cell? ⟨g,k*3+2,none⟩=some V/\Is w V (x.2.2.map (·+30)))
def Ck (b:Nat) (L S:Value) (err p m:Nat) (w:World):Prop:=w.heap[b]? =some (.cells #[L,S,iZ err,iZ p,iZ m] 104 (0,0))
section
variable {S:Value} {w w':World}
theorem Ck.below {b:Nat} {L:Value} {err p m:Nat} (h:Ck b L S err p m w) (hb:Below w.heap.size w w'):Ck b L S err p m w':=(hb.block b (z1a.1 h).1).trans h
theorem Ss.below {st:List Sk} (h:Ss w S st) (hb:Below w.heap.size w w'):Ss w' S st:=by
 obtain⟨a,cap,rfl,h⟩:=h;refine⟨a,cap,rfl,?_⟩;rcases h with h|⟨g,rfl,hg,hc⟩
 ·exact .inl h
 ·refine .inr ⟨g,rfl,z1e hg hb.size,λk x hk=>?_⟩
  obtain⟨h,cp,V,h1,h2,h3,h4,h5⟩:=hc k x hk;exact⟨h,cp,V,(hb.cell (p:=⟨g,_,none⟩) hg).trans h1,(hb.cell (p:=⟨g,_,none⟩) hg).trans h2,h3.below hb,(hb.cell (p:=⟨g,_,none⟩) hg).trans h4,h5.below hb⟩
def zem (st:List Sk) (c:Nat) (z:Int):Prop:=(z=-1/\∀(j:Nat) (x:Sk),st[j]? =some x->x.1≠c)\/∃(k:Nat) (x:Sk),z=(k:Int)/\st[k]? =some x/\x.1=c/\∀(j:Nat) (y:Sk),k<j->st[j]? =some y->y.1≠c
theorem zlj (b:Nat) (L S:Value) (err p m c:Nat) (st:List Sk) (w:World) (hk:Ck b L S err p m w) (hs:Ss w S st) (hl:st.length<=100000) (hc:c<256) (hst:∀x∈st,x.1<256):
 CZ 139 #[pZ b,uZ c] w λe w'=>∃z,e=.returned (.int .i64 z)/\zem st c z/\w'=w:=by
 obtain⟨a,cap,rfl,hv⟩:=hs;have cb:cZ w b 1 (.slice a st.length cap):=cbl hk
 have HV:Hid (∀(k:Nat) (x:Sk),st[k]? =some x->∃g,a=some ⟨g,0,none⟩/\cZ w g (k*3) (uZ x.1)):=by
  intro k x hx;rcases hv with rfl|⟨g,rfl,_,h⟩
  ·simp at hx
  ·obtain⟨_,_,_,h1,_⟩:=h k x hx
   exact⟨g,rfl,h1⟩
 have HT:=hid hst;generalize hn:st.length=n at *
 have HN:=hid hn;go_enter Tryz.func139,Tryz.ntmps139;go_wp21
 go_loopw [5] (λi wr=>∃(k:Nat) (z:Int),i=.int .i64 z/\z=(k:Int)-1/\k<=n/\Hid (∀(j:Nat) (y:Sk),k<=j->st[j]? =some y->y.1≠c)/\wr=w) (λi _=>(intOf i+1).toNat)
 case atStart=>exact⟨n,_,rfl,rfl,z1d _,λj y hj hy=>absurd (z1b.1 hy).1 (by have:=HN.out;omega),rfl⟩
 case round=>
  obtain⟨k,z,rfl,hz,hkn,HU,hwr⟩:=hrel;subst hwr
  cases k with
  |zero=>
   replace hz:z=-1:=by omega
   subst hz;have HR:Hid (zem st c (-1)):=.inl ⟨rfl,λj x hx=>HU.out j x (Nat.zero_le _) hx⟩;go_wp21;go_ret;exact⟨_,rfl,HR,rfl⟩
  |succ q=>
   replace hz:z=(q:Int):=by omega
   subst hz;obtain⟨x,hx⟩:∃x,st[q]? =some x:=⟨_,z1h (by rw[HN.out];omega)⟩
   obtain⟨g,rfl,hcell⟩:=HV q x hx;have hx1:=HT.out x (z1m hx);have HX:=hid hx;generalize hd:x.1=d at *
   have HD:=hid hd;by_cases hp:d=c
   ·have e1:((d:Int)==(c:Int))=true:=by rw[hp];simp
    have HR:Hid (zem st c (q:Int)):=.inr ⟨q,x,rfl,HX.out,HD.out.trans hp,λj y hj hy=>HU.out j y hj hy⟩;go_wp21;go_ret;exact⟨_,rfl,HR,rfl⟩
   ·have e1:((d:Int)==(c:Int))=false:=by rw[beq_eq_false_iff_ne];omega
    have HM:Hid (∀(j:Nat) (y:Sk),q<=j->st[j]? =some y->y.1≠c):=by
     intro j y hj hy;rcases z1r q j with h|h
     ·exact HU j y h hy
     ·obtain rfl:j=q:=by omega
      rw[HX.out] at hy;obtain rfl:=z1q hy;intro e;exact hp (HD.symm.trans e)
    go_wp21;go_roundw
    case rel=>exact⟨q,_,rfl,rfl,by omega,HM,by trivial⟩
    case measure=>simp[intOf]
end
theorem zih {st:List Sk} {c:Nat} {z z':Int} (h:zem st c z) (h':zem st c z'):z=z':=by
 rcases h with ⟨rfl,h⟩|⟨k,x,rfl,hx,hc,h⟩<;>rcases h' with ⟨rfl,h'⟩|⟨k',x',rfl,hx',hc',h'⟩
 ·rfl
 ·exact absurd hc' (h _ _ hx')
 ·exact absurd hc (h' _ _ hx)
 ·rcases Nat.lt_trichotomy k k' with hlt|rfl|hlt
  ·exact absurd hc' (h _ _ hlt hx')
  ·rfl
  ·exact absurd hc (h' _ _ hlt hx)
def znd (st:List Sk) (o j:Nat) (x:Sk):Prop:=zem st x.1 (j:Int)/\inT o x.2.1=true/\x.2.2.contains o=false
def zyl (st:List Sk) (o:Nat) (r:Bool):Prop:=(r=true/\∃(j:Nat) (x:Sk),st[j]? =some x/\znd st o j x)\/(r=false/\∀(j:Nat) (x:Sk),st[j]? =some x->¬znd st o j x)
theorem zon (v:List Nat) (o:Nat):(v.map (·+30)).contains (o+30)=v.contains o:=by
 rw[Bool.eq_iff_iff,z2b,z2b];simp
theorem fixed_any (b:Nat) (L S:Value) (err p m o:Nat) (st:List Sk) (w:World) (hk:Ck b L S err p m w) (hs:Ss w S st) (hl:st.length<=100000) (hst:∀x∈st,x.1<256/\sz x.2.1<=1000000/\x.2.2.length<=1000000) (ho:970<=o/\o<1230):
 CZ 141 #[pZ b,.int .i64 ((o+30:Nat):Int)] w λe w'=>∃r,e=.returned (.bool r)/\zyl st o r/\Below w.heap.size w w':=by
 obtain⟨a,cap,rfl,hv⟩:=hs;have hblt:b<w.heap.size:=(z1a.1 hk).1;have cb:cZ w b 1 (.slice a st.length cap):=cbl hk
 have HV:Hid (∀(k:Nat) (x:Sk),st[k]? =some x->∀X,Below w.heap.size w X->∃g h cp va vc,a=some ⟨g,0,none⟩/\cZ X g (k*3) (uZ x.1)/\cZ X g (k*3+1) (sZ h (sz x.2.1) cp)/\Rg h x.2.1 X/\cZ X g (k*3+2) (.slice va x.2.2.length vc)/\Is X (.slice va x.2.2.length vc) (x.2.2.map (·+30))):=by
  intro k x hx X hX;rcases hv with rfl|⟨g,rfl,hg,h⟩
  ·simp at hx
  ·obtain⟨h',cp,V,h1,h2,h3,h4,h5⟩:=h k x hx
   obtain⟨va,vc,rfl,h6⟩:=h5;rw[z2a] at *
   exact⟨g,h',cp,va,vc,rfl,(hX.cell (p:=⟨g,_,none⟩) hg).trans h1,(hX.cell (p:=⟨g,_,none⟩) hg).trans h2,h3.below hX,(hX.cell (p:=⟨g,_,none⟩) hg).trans h4,Is.below ⟨va,vc,by rw[z2a],h6⟩ hX⟩
 have FN:Hid (∀(c:Nat),c<256->∀X,Below w.heap.size w X->CZ 139 #[pZ b,uZ c] X λe w'=>∃z,e=.returned (.int .i64 z)/\zem st c z/\w'=X):=λc hc X hX=>zlj b L _ err p m c st X (hk.below hX) (Ss.below ⟨a,cap,rfl,hv⟩ hX) hl hc (λx hx=>(hst x hx).1)
 have HT:Hid (∀x∈st,x.1<256/\sz x.2.1<=1000000/\x.2.2.length<=1000000):=hst;have HO:Hid (970<=o/\o<1230):=ho;generalize hn:st.length=n at *
 have HN:Hid (st.length=n):=hn;obtain⟨q,hq⟩:∃q,q=o+30:=⟨_,rfl⟩
 rw[<-hq];have HQ:Hid (q=o+30):=hq;have hq2:q<2000:=by omega
 clear hn hv hk hst ho hq;have B0:Hid (Below w.heap.size w w):=Below.refl _ _;go_enter Tryz.func141,Tryz.ntmps141
 go_wp2_with fail
 go_loopw [5] (λi wr=>∃k:Nat,i=(iZ k)/\k<=n/\Hid (∀(j:Nat) (y:Sk),j<k->st[j]? =some y->¬znd st o j y)/\Hid (Below w.heap.size w wr)) (λi _=>n-(intOf i).toNat)
 case atStart=>exact⟨0,rfl,Nat.zero_le _,λj y hj=>absurd hj (by omega),B0⟩
 case round=>
  obtain⟨k,rfl,hkn,HU,HB⟩:=hrel;have cbr:=(HB.out.cell (p:=⟨b,1,none⟩) hblt).trans cb;rcases z1r k n with hlt|hge
  ·obtain⟨x,hx⟩:∃x,st[k]? =some x:=⟨_,z1h (by rw[HN.out];omega)⟩
   obtain⟨g,h,cp,va,vc,rfl,k0,k1,R,k2,I⟩:=HV.out k x hx wr HB.out;obtain⟨hx1,hx2,hx3⟩:=HT.out x (z1m hx);have FCH:Hid (CZ 139 #[pZ b,uZ x.1] wr λe w'=>∃z,e=.returned (.int .i64 z)/\zem st x.1 z/\w'=wr):=FN.out x.1 hx1 wr HB.out;have HX:Hid (st[k]? =some x):=hx
   have IC:Hid (CZ 60 #[.slice va x.2.2.length vc,iZ q] wr λe w'=>e=.returned (.bool (x.2.2.contains o))/\w'=wr):=by
    unfold Hid;rw[<-zon,HQ.out];exact zjy _ _ (o+30) wr I (by rw[z2a];exact hx3)
   have HC:Hid (CZ 177 #[.agg #[sZ h (sz x.2.1) cp],iZ q] wr λe w'=>e=.returned (.bool (inT o x.2.1))/\Below wr.heap.size wr w'):=by
    unfold Hid;rw[HQ.out];exact has_any x.2.1 o h cp wr R hx2 HO.out
   clear hx I R;obtain⟨c,t,v⟩:=x;simp only at *
   generalize hi:inT o t=r8 at *
   generalize hc:v.contains o=r7 at *
   have HI:Hid (inT o t=r8):=hi;have HCo:Hid (v.contains o=r7):=hc;clear hi hc;generalize v.length=vl at *
   generalize sz t=sl at *
   go_wp2_with fail
   refine FCH.out.mono ?_;rintro e w' ⟨z,rfl,hz,rfl⟩;have HZ:Hid (zem st c z):=hz;clear hz;by_cases hzk:z=(k:Int)
   ·subst hzk
    have HG:Hid (znd st o k (c,t,v) ↔ r8=true/\r7=false):=by
     unfold Hid znd;rw[HI.out,HCo.out];exact⟨λh=>h.2,λh=>⟨HZ.out,h⟩⟩
    go_wp2_with fail
    refine IC.out.mono ?_;rintro e w1 ⟨rfl,rfl⟩
    go_wp2_with fail
    refine HC.out.mono ?_;rintro e w2 ⟨rfl,b2⟩;have HB2:Hid (Below w.heap.size w w2):=HB.out.trans (b2.mono HB.out.size);by_cases hr:r8=true/\r7=false
    ·have HR:Hid (zyl st o true):=.inl ⟨rfl,k,_,HX.out,HG.out.2 hr⟩
     obtain⟨rfl,rfl⟩:=hr
     go_wp2_with fail
     go_ret;exact⟨_,rfl,HR.out,HB2.out⟩
    ·have HM:Hid (∀(j:Nat) (y:Sk),j<k+1->st[j]? =some y->¬znd st o j y):=by
      intro j y hj hy;rcases z1r j k with h|h
      ·exact HU.out j y h hy
      ·obtain rfl:j=k:=by omega
       rw[HX.out] at hy;obtain rfl:=z1q hy;exact λe=>hr (HG.out.1 e)
     cases r8<;>cases r7
     case true.false=>exact absurd ⟨rfl,rfl⟩ hr
     all_goals
      clear hr HG HI HCo HC IC
      go_wp2_with fail
      go_roundw
      case rel=>exact⟨k+1,by simp,by omega,HM,HB2⟩
      case measure=>simp[intOf];omega
   ·have e6:(z==(k:Int))=false:=by rw[beq_eq_false_iff_ne];exact hzk
    have HM:Hid (∀(j:Nat) (y:Sk),j<k+1->st[j]? =some y->¬znd st o j y):=by
     intro j y hj hy;rcases z1r j k with h|h
     ·exact HU.out j y h hy
     ·obtain rfl:j=k:=by omega
      rw[HX.out] at hy;obtain rfl:=z1q hy;exact λe=>hzk (zih HZ.out e.1)
    clear hzk
    go_wp2_with fail
    refine IC.out.mono ?_;rintro e w1 ⟨rfl,rfl⟩
    go_wp2_with fail
    refine HC.out.mono ?_;rintro e w2 ⟨rfl,b2⟩;have HB2:Hid (Below w.heap.size w w2):=HB.out.trans (b2.mono HB.out.size);clear HI HCo HC IC
    cases r8<;>cases r7<;>(
     go_wp2_with fail
     go_roundw
     case rel=>exact⟨k+1,by simp,by omega,HM,HB2⟩
     case measure=>simp[intOf];omega)
  ·obtain rfl:k=n:=by omega
   have HR:Hid (zyl st o false):=.inr ⟨rfl,λj x hx=>HU.out j x (by have:=(z1b.1 hx).1;have:=HN.out;omega) hx⟩
   go_wp2_with fail
   go_ret;exact⟨_,rfl,HR.out,HB.out⟩
def zla (st:List Sk):Env:=st.foldl (λe x=>zap e x.1 x.2) (λ_=>none)
section
variable {z:Int} {c:Nat}
theorem zjv (st:List Sk) (x:Sk):zla (st++[x])=zap (zla st) x.1 x.2:=by simp[zla]
theorem zvu (st:List Sk) (x:Sk):zem (st++[x]) x.1 (st.length:Int):=by
 refine .inr ⟨st.length,x,rfl,by simp,rfl,λj y hj hy=>?_⟩;rw[List.getElem?_eq_none (by simp;omega)] at hy
 cases hy
theorem zwa {st:List Sk} {x:Sk} (hx:x.1≠c) (h:zem st c z):zem (st++[x]) c z:=by
 have key:∀(j:Nat) (y:Sk),(st++[x])[j]? =some y->st[j]? =some y\/y=x:=by
  intro j y hy;rcases z1r j st.length with hlt|hge
  ·rw[z1t hlt] at hy;exact .inl hy
  ·rw[List.getElem?_append_right hge] at hy
   have:=z1m hy;simp at this;exact .inr this
 rcases h with ⟨rfl,h⟩|⟨k,y,rfl,hy,hc,h⟩
 ·refine .inl ⟨rfl,λj y hy=>?_⟩
  rcases key j y hy with h1|rfl
  ·exact h j y h1
  ·exact hx
 ·refine .inr ⟨k,y,rfl,?_,hc,λj y hj hy=>?_⟩
  ·rw[z1t (z1b.1 hy).1];exact hy
  ·rcases key j y hy with h1|rfl
   ·exact h j y hj h1
   ·exact hx
theorem zoo:∀(n:Nat) (st:List Sk),st.length=n->∀c,∃z,zem st c z/\zla st c=if z=-1 then none else (st[z.toNat]?).map (·.2):=by
 intro n
 induction n with
 |zero=>
  intro st h c;obtain rfl:=List.length_eq_zero_iff.1 h;exact⟨-1,.inl ⟨rfl,λj x hx=>by simp at hx⟩,by simp[zla]⟩
 |succ n ih=>
  intro st h c;rcases List.eq_nil_or_concat st with rfl|⟨L,x,rfl⟩
  ·simp at h
  ·simp only[List.concat_eq_append] at h ⊢
   have hL:L.length=n:=by simpa using h
   by_cases hx:x.1=c
   ·refine⟨(L.length:Int),?_,?_⟩
    ·rw[<-hx];exact zvu L x
    ·rw[zjv,if_neg (by omega)]
     simp[zap,hx]
   ·obtain⟨z,hz,he⟩:=ih L hL c
    refine⟨z,zwa hx hz,?_⟩;rw[zjv];simp only[zap];rw[if_neg (λe=>hx e.symm),he];split
    ·rfl
    ·rename_i hz1
     rcases hz with ⟨rfl,_⟩|⟨k,y,rfl,hy,_⟩
     ·exact absurd rfl hz1
     ·have:=(z1b.1 hy).1
      rw[z1t (by simpa using this)]
theorem zug {st:List Sk} (h:zem st c z):zla st c=if z=-1 then none else (st[z.toNat]?).map (·.2):=by
 obtain⟨z',h',e⟩:=zoo _ st rfl c;rw[zih h h'];exact e
theorem zxt {k:Nat} {st:List Sk} {x:Sk} (h:zem st c (k:Int)) (hx:st[k]? =some x):zla st c=some x.2:=by
 rw[zug h,if_neg (by omega)];simp[hx]
theorem env_at {s:Sch} {st:List Sk} (h:zla st c=some s):∃(k:Nat) (x:Sk),zem st c (k:Int)/\st[k]? =some x/\x.1=c/\x.2=s:=by
 obtain⟨z,hz,e⟩:=zoo _ st rfl c;rcases hz with ⟨rfl,hn⟩|⟨k,x,rfl,hx,hc,hl⟩
 ·rw[h,if_pos rfl] at e;cases e
 ·refine⟨k,x,.inr ⟨k,x,rfl,hx,hc,hl⟩,hx,hc,?_⟩
  rw[h,if_neg (by omega)] at e;simp[hx] at e;exact e.symm
theorem fixed_env {st:List Sk} {o:Nat} {r:Bool} (hst:∀x∈st,97<=x.1/\x.1<123) (h:zyl st o r):r=zgr (zla st) o:=by
 rcases h with ⟨rfl,j,x,hx,h1,h2,h3⟩|⟨rfl,h⟩
 ·symm
  unfold zgr;rw[List.any_eq_true];obtain⟨ha,hb⟩:=hst x (z1m hx);refine⟨x.1-97,by simp;omega,?_⟩;have e:97+(x.1-97)=x.1:=by omega
  rw[e,zxt h1 hx];obtain⟨c,t,v⟩:=x;simp only at *
  rw[h2,h3];rfl
 ·symm
  unfold zgr;rw[List.any_eq_false];intro k hk
  cases hq:zla st (97+k) with
  |none=>simp
  |some s=>
   obtain⟨j,x,hl,hx,hc,rfl⟩:=env_at hq;have:=h j x hx;intro hh;obtain⟨c,t,v⟩:=x;simp only at *
   rw[Bool.and_eq_true,Bool.not_eq_true'] at hh;exact this ⟨by rw[hc];exact hl,hh.1,hh.2⟩
end
def conText (c:Nat):ByteArray×ByteArray×Bool:=
 if c=78 then (⟨#[91,97,93]⟩,⟨#[97]⟩,true)
 else if c=67 then (⟨#[97,62,91,97,93,62,91,97,93]⟩,⟨#[97]⟩,true)
 else if c=80 then (⟨#[97,62,98,62,97,42,98]⟩,⟨#[97,98]⟩,true)
 else if c=76 then (⟨#[97,42,98,62,97]⟩,⟨#[97,98]⟩,true)
 else if c=82 then (⟨#[97,42,98,62,98]⟩,⟨#[97,98]⟩,true)
 else if c=74 then (⟨#[66,62,97,62,97,62,97]⟩,⟨#[97]⟩,true)
 else if c=69 then (⟨#[73,62,73,62,66]⟩,⟨#[]⟩,true)
 else if c=65 then (⟨#[73,62,73,62,73]⟩,⟨#[]⟩,true)
 else if c=89 then (⟨#[40,97,62,97,41,62,97]⟩,⟨#[97]⟩,true)
 else if c=68 then (⟨#[40,97,62,98,62,98,41,62,98,62,91,97,93,62,98]⟩,⟨#[97,98]⟩,true)
 else (⟨#[]⟩,⟨#[]⟩,false)
section
variable (w:World) (c:Nat)
theorem zvm:CZ 108 #[.int .u8 78] w λe w'=>e=.returned (.tuple #[.string ⟨#[91,97,93]⟩,.string ⟨#[97]⟩,.bool true])/\w'=w:=by
 go_enter Tryz.func108,Tryz.ntmps108;go_wp21;go_ret3;exact⟨rfl,rfl⟩
theorem ztu:CZ 108 #[.int .u8 67] w λe w'=>e=.returned (.tuple #[.string ⟨#[97,62,91,97,93,62,91,97,93]⟩,.string ⟨#[97]⟩,.bool true])/\w'=w:=by
 go_enter Tryz.func108,Tryz.ntmps108;go_wp21;go_ret3;exact⟨rfl,rfl⟩
theorem zvo:CZ 108 #[.int .u8 80] w λe w'=>e=.returned (.tuple #[.string ⟨#[97,62,98,62,97,42,98]⟩,.string ⟨#[97,98]⟩,.bool true])/\w'=w:=by
 go_enter Tryz.func108,Tryz.ntmps108;go_wp21;go_ret3;exact⟨rfl,rfl⟩
theorem zvs:CZ 108 #[.int .u8 76] w λe w'=>e=.returned (.tuple #[.string ⟨#[97,42,98,62,97]⟩,.string ⟨#[97,98]⟩,.bool true])/\w'=w:=by
 go_enter Tryz.func108,Tryz.ntmps108;go_wp21;go_ret3;exact⟨rfl,rfl⟩
theorem zuu:CZ 108 #[.int .u8 82] w λe w'=>e=.returned (.tuple #[.string ⟨#[97,42,98,62,98]⟩,.string ⟨#[97,98]⟩,.bool true])/\w'=w:=by
 go_enter Tryz.func108,Tryz.ntmps108;go_wp21;go_ret3;exact⟨rfl,rfl⟩
theorem zun:CZ 108 #[.int .u8 74] w λe w'=>e=.returned (.tuple #[.string ⟨#[66,62,97,62,97,62,97]⟩,.string ⟨#[97]⟩,.bool true])/\w'=w:=by
 go_enter Tryz.func108,Tryz.ntmps108;go_wp21;go_ret3;exact⟨rfl,rfl⟩
theorem zwf:CZ 108 #[.int .u8 69] w λe w'=>e=.returned (.tuple #[.string ⟨#[73,62,73,62,66]⟩,.string ⟨#[]⟩,.bool true])/\w'=w:=by
 go_enter Tryz.func108,Tryz.ntmps108;go_wp21;go_ret3;exact⟨rfl,rfl⟩
theorem ztv:CZ 108 #[.int .u8 65] w λe w'=>e=.returned (.tuple #[.string ⟨#[73,62,73,62,73]⟩,.string ⟨#[]⟩,.bool true])/\w'=w:=by
 go_enter Tryz.func108,Tryz.ntmps108;go_wp21;go_ret3;exact⟨rfl,rfl⟩
theorem zuh:CZ 108 #[.int .u8 89] w λe w'=>e=.returned (.tuple #[.string ⟨#[40,97,62,97,41,62,97]⟩,.string ⟨#[97]⟩,.bool true])/\w'=w:=by
 go_enter Tryz.func108,Tryz.ntmps108;go_wp21;go_ret3;exact⟨rfl,rfl⟩
theorem zum:CZ 108 #[.int .u8 68] w λe w'=>e=.returned (.tuple #[.string ⟨#[40,97,62,98,62,98,41,62,98,62,91,97,93,62,98]⟩,.string ⟨#[97,98]⟩,.bool true])/\w'=w:=by
 go_enter Tryz.func108,Tryz.ntmps108;go_wp21;go_ret3;exact⟨rfl,rfl⟩
theorem zjm (hc:97<=c/\c<123) (w:World):CZ 108 #[uZ c] w λe w'=>e=.returned (.tuple #[.string ⟨#[]⟩,.string ⟨#[]⟩,.bool false])/\w'=w:=by
 have n78:((c:Int)==78)=false:=by rw[beq_eq_false_iff_ne];omega
 have n67:((c:Int)==67)=false:=by rw[beq_eq_false_iff_ne];omega
 have n80:((c:Int)==80)=false:=by rw[beq_eq_false_iff_ne];omega
 have n76:((c:Int)==76)=false:=by rw[beq_eq_false_iff_ne];omega
 have n82:((c:Int)==82)=false:=by rw[beq_eq_false_iff_ne];omega
 have n74:((c:Int)==74)=false:=by rw[beq_eq_false_iff_ne];omega
 have n69:((c:Int)==69)=false:=by rw[beq_eq_false_iff_ne];omega
 have n65:((c:Int)==65)=false:=by rw[beq_eq_false_iff_ne];omega
 have n89:((c:Int)==89)=false:=by rw[beq_eq_false_iff_ne];omega
 have n68:((c:Int)==68)=false:=by rw[beq_eq_false_iff_ne];omega
 go_enter Tryz.func108,Tryz.ntmps108;go_wp21;go_ret3;exact⟨rfl,rfl⟩
def conP (c:Nat):Prop:=c=78\/c=67\/c=80\/c=76\/c=82\/c=74\/c=69\/c=65\/c=89\/c=68
theorem conP_of {c:Nat} (h:zdi c=true):conP c:=by
 simp only[zdi,Bool.or_eq_true,beq_iff_eq] at h;unfold conP;omega
theorem con_reads (hc:conP c):zbe (conText c).1=.ok (conS c).1:=by
 rcases hc with rfl|rfl|rfl|rfl|rfl|rfl|rfl|rfl|rfl|rfl<;>kernel_rfl
end
section
variable {b err p m:Nat} {L S:Value} {w:World}
theorem Ck.cellAt (h:Ck b L S err p m w):w.cell? ⟨b,2,none⟩=some (iZ err)/\w.cell? ⟨b,3,none⟩=some (iZ p)/\w.frozen? ⟨b,2,none⟩=false/\w.frozen? ⟨b,3,none⟩=false:=
 ⟨by rw[z1f h];rfl,by rw[z1f h];rfl,by simp[World.frozen?,show w.heap[b]? =_ from h],by simp[World.frozen?,show w.heap[b]? =_ from h]⟩
theorem Ck.set (h:Ck b L S err p m w) (c q:Nat):Ck b L S c q m ((w.setCell ⟨b,2,none⟩ (iZ c)).setCell ⟨b,3,none⟩ (iZ q)):=by
 unfold Ck at *
 simp[World.setCell,z1i,h]
theorem Ck.set1 (h:Ck b L S err p m w) (c:Nat):Ck b L S c p m (w.setCell ⟨b,2,none⟩ (iZ c)):=by
 unfold Ck at *
 simp[World.setCell,z1i,h]
theorem Ck.kept {w':World} {row:Option Nat} (h:Ck b L S err p m w) (hg:w.grownBy w' row) (hn:row≠some b):Ck b L S err p m w':=(hg.block b (z1a.1 h).1 (λe=>hn e.symm)).trans h
def FPost (b:Nat) (L S:Value) (err p m:Nat) (w:World) (e:Ending) (w':World):Prop:=
 ∃g cap,e=.returned (.agg #[sZ g 1 cap])/\Rg g tI w'/\w.heap.size<=g/\Ck b L S err p m w'/\w.grownBy w' (some b)
theorem zda (b:Nat) (L S:Value) (p m c q:Nat) (w:World) (h:Ck b L S 0 p m w):
 CZ 99 #[pZ b,iZ c,iZ q] w (FPost b L S c q m w):=by
 have hblt:=(z1a.1 h).1;have bA:∀X:World,Below X.heap.size X (X.alloc (.cells #[.slice none 0 0] 33)):=λX=>bal X _
 obtain⟨k2,k3,f2,f3⟩:=(h.below (bA w)).cellAt;obtain⟨-,m3,-,y3⟩:=((h.set1 c).below (bA _)).cellAt;have HS:Hid (Ck b L S c q m (((w.setCell ⟨b,2,none⟩ (iZ c)).setCell ⟨b,3,none⟩ (iZ q)).alloc (.cells #[.slice none 0 0] 33))):=(h.set c q).below (bA _);have G2:Hid (w.grownBy (((w.setCell ⟨b,2,none⟩ (iZ c)).setCell ⟨b,3,none⟩ (iZ q)).alloc (.cells #[.slice none 0 0] 33)) (some b)):=((zfv _ _ _ _).trans (zfv _ _ _ _)).trans (z1p _ _ _);have hz:((w.setCell ⟨b,2,none⟩ (iZ c)).setCell ⟨b,3,none⟩ (iZ q)).heap.size=w.heap.size:=by simp[World.setCell]
 have hb1:=z1v ((w.setCell ⟨b,2,none⟩ (iZ c)).setCell ⟨b,3,none⟩ (iZ q)) (.cells #[.slice none 0 0] 33);rw[hz] at hb1;have hW:Hid ((((w.setCell ⟨b,2,none⟩ (iZ c)).setCell ⟨b,3,none⟩ (iZ q)).alloc (.cells #[.slice none 0 0] 33)).heap.size=w.heap.size+1):=by unfold Hid;simp[World.setCell]
 have HB1:=hid hb1;go_enter Tryz.func99,Tryz.ntmps99;go_wp21;generalize (((w.setCell ⟨b,2,none⟩ (iZ c)).setCell ⟨b,3,none⟩ (iZ q)).alloc (.cells #[.slice none 0 0] 33))=X at *
 have hX:=hW.out;refine(zds 0 0 (by decide) (.inl ⟨rfl,rfl,rfl,rfl⟩) X).mono ?_;rintro e w2 ⟨g2,cap2,rfl,R2,hg2,b2⟩;have hb2:=(b2.block w.heap.size (by omega)).trans HB1.out;have c2:=zab hb2;have z2:=zaf hb2;rw[zkb];have HC2:=hid (HS.out.below b2);have B2:Hid (w.grownBy w2 (some b)):=G2.out.trans (zan b2 _);go_wp21;refine zah rfl rfl (zad hb2) ?_;refine⟨g2,cap2,rfl,R2.kept (zai _ _) (by simp;omega),by omega,HC2.out.kept (zai _ _) (by simp;omega),?_⟩;exact B2.out.andThen (zai _ _) (λj hj=>by cases hj;exact .inl (z1d _))
end
section
variable {k:Nat} {n n':Nd} {x y:Ty}
theorem zph (h:x≠y):eqT x y=false:=by
 cases hq:eqT x y
 ·rfl
 ·exact absurd ((zgp x y).1 hq) h
theorem eqT_yes (x:Ty):eqT x x=true:=(zgp x x).2 rfl
def upTo (x y:Ty) (k:Nat):Prop:=∀m,m<k->((nd x 0)[m]?).map (·.op)=((nd y 0)[m]?).map (·.op)
theorem zmx (h:upTo x y k) (hn:(nd x 0)[k]? =some n) (hn':(nd y 0)[k]? =some n') (he:n.op=n'.op):upTo x y (k+1):=by
 intro m hm;rcases z1r m k with h1|h1
 ·exact h m h1
 ·obtain rfl:m=k:=by omega
  rw[hn,hn'];simp[he]
theorem upTo_all (hx:Ok x) (hy:Ok y) (hs:sz x=sz y) (h:upTo x y (sz x)):x=y:=by
 refine ops_eq hx hy 0 0 ?_;refine List.ext_getElem? λm=>?_
 rw[z1n,z1n];rcases z1r m (sz x) with h1|h1
 ·exact h m h1
 ·have l1:=zaj x 0
  have l2:=zaj y 0;rw[List.getElem?_eq_none (by omega),List.getElem?_eq_none (by omega)]
theorem znc (hn:(nd x 0)[k]? =some n) (hn':(nd y 0)[k]? =some n') (he:n≠n'):x≠y:=by
 rintro rfl;rw[hn] at hn';exact he (z1q hn')
theorem rsame_len (x y:Ty) (g cap g' cap':Nat) (w:World) (hx:Rg g x w) (hy:Rg g' y w) (hl:sz x<=1000000) (hne:sz x≠sz y):
 CZ 72 #[.agg #[sZ g (sz x) cap],.agg #[sZ g' (sz y) cap']] w λe w'=>e=.returned (.bool (eqT x y))/\Below w.heap.size w w':=by
 have HE:Hid (eqT x y=false):=zph (by rintro rfl;exact hne rfl);have e1:((sz x:Int)==(sz y:Int))=false:=by rw[beq_eq_false_iff_ne];omega
 have e2:((sz x:Int) !=(sz y:Int))=true:=by rw[bne,e1];rfl
 go_enter Tryz.func72,Tryz.ntmps72;go_wp21;go_ret;rw[HE.out];exact⟨rfl,(bal w _).alloc (by simp) _⟩
theorem zmi (x y:Ty) (g cap g' cap':Nat) (w:World) (hx:Rg g x w) (hy:Rg g' y w) (hl:sz x<=1000000):
 CZ 72 #[.agg #[sZ g (sz x) cap],.agg #[sZ g' (sz y) cap']] w λe w'=>e=.returned (.bool (eqT x y))/\Below w.heap.size w w':=by
 by_cases hs:sz x≠sz y
 ·exact rsame_len x y g cap g' cap' w hx hy hl hs
 have hs:sz y=sz x:=by omega
 have HS:=hid hs;rw[hs]
 have hb1:((w.alloc (.cells #[sZ g (sz x) cap] 33)).alloc (.cells #[sZ g' (sz x) cap'] 33)).heap[w.heap.size]? =some (.cells #[sZ g (sz x) cap] 33 (0,0)):=by
  rw[Below.heap_alloc _ _ _ (by simp)];exact z1v w _
 have hb2:=heap_alloc2_new w (.cells #[sZ g (sz x) cap] 33) (.cells #[sZ g' (sz x) cap'] 33);have hX:=(hx.alloc (.cells #[sZ g (sz x) cap] 33)).alloc (.cells #[sZ g' (sz x) cap'] 33);have hY:=(hy.alloc (.cells #[sZ g (sz x) cap] 33)).alloc (.cells #[sZ g' (sz x) cap'] 33);have B0:Below w.heap.size w ((w.alloc (.cells #[sZ g (sz x) cap] 33)).alloc (.cells #[sZ g' (sz x) cap'] 33)):=(bal w _).alloc (by simp) _;go_enter Tryz.func72,Tryz.ntmps72;go_wp21
 go_loopw [5] (λi wr=>∃k:Nat,i=(iZ k)/\k<=sz x/\Hid (upTo x y k)/\((w.alloc (.cells #[sZ g (sz x) cap] 33)).alloc (.cells #[sZ g' (sz x) cap'] 33)).grownBy wr none) (λi _=>sz x-(intOf i).toNat)
 case atStart=>exact⟨0,rfl,Nat.zero_le _,λm hm=>absurd hm (by omega),World.grownBy.refl _ _⟩
 case round=>
  obtain⟨k,rfl,hk,HU,hg⟩:=hrel;have c0:=zab ((hg.block _ (by simp;omega) (by simp)).trans hb1);have c1:=zab ((hg.block _ (by simp) (by simp)).trans hb2);have BW:=B0.grown hg B0.size (by simp);have hsz:=hg.size;simp only[World.size_alloc] at hsz;rcases z1r k (sz x) with hlt|hge
  ·have hRx:=hX.kept hg (by simp)
   have hRy:=hY.kept hg (by simp);have hlt':k<sz y:=by have:=HS.out;omega
   obtain⟨⟨p,a,b⟩,hn⟩:∃n,(nd x 0)[k]? =some n:=⟨_,z1h (by rw[zaj];exact hlt)⟩
   obtain⟨⟨q,c,d⟩,hn'⟩:∃n,(nd y 0)[k]? =some n:=⟨_,z1h (by rw[zaj];exact hlt')⟩
   obtain⟨k0,k1,k2⟩:=hRx.cell k _ hn;obtain⟨j0,j1,j2⟩:=hRy.cell k _ hn';have j0':=z1o wr (.cells #[iZ p,iZ a,iZ b] 107) ⟨g',k*3,none⟩ hRy.lt;simp only at k0 k1 k2 j0 j1 j2;have HN:=hid hn;have HN':=hid hn';have lg:=hRx.lt;have lg':=hRy.lt;have lw:w.heap.size<wr.heap.size:=by omega
   have lw':w.heap.size+1<wr.heap.size:=by omega
   by_cases hq:p=q
   ·subst hq
    rcases(show p=42\/p=62\/(p≠42/\p≠62) from by omega) with hp|hp|⟨hp,hp2⟩
    ·subst hp
     by_cases ha:a=c
     ·subst ha
      by_cases hb:b=d
      ·subst hb
       have HM:=hid (zmx HU.out HN.out HN'.out rfl);go_wp21;go_roundw
       case rel=>exact⟨k+1,by simp,by omega,HM,(hg.trans (z1p wr _ none)).trans (z1p _ _ none)⟩
       case measure=>simp[intOf];omega
      ·have e1:((b:Int)==(d:Int))=false:=by rw[beq_eq_false_iff_ne];omega
       have e2:((b:Int) !=(d:Int))=true:=by rw[bne,e1];rfl
       have HE:Hid (eqT x y=false):=zph (znc HN.out HN'.out (by intro e;injection e with _ _ e;exact hb e));go_wp21;go_ret;rw[HE.out];exact⟨rfl,(BW.alloc BW.size _).alloc (by simp;omega) _⟩
     ·have e1:((a:Int)==(c:Int))=false:=by rw[beq_eq_false_iff_ne];omega
      have e2:((a:Int) !=(c:Int))=true:=by rw[bne,e1];rfl
      have HE:Hid (eqT x y=false):=zph (znc HN.out HN'.out (by intro e;injection e with _ e _;exact ha e));go_wp21;go_ret;rw[HE.out];exact⟨rfl,(BW.alloc BW.size _).alloc (by simp;omega) _⟩
    ·subst hp
     by_cases ha:a=c
     ·subst ha
      by_cases hb:b=d
      ·subst hb
       have HM:=hid (zmx HU.out HN.out HN'.out rfl);go_wp21;go_roundw
       case rel=>exact⟨k+1,by simp,by omega,HM,(hg.trans (z1p wr _ none)).trans (z1p _ _ none)⟩
       case measure=>simp[intOf];omega
      ·have e1:((b:Int)==(d:Int))=false:=by rw[beq_eq_false_iff_ne];omega
       have e2:((b:Int) !=(d:Int))=true:=by rw[bne,e1];rfl
       have HE:Hid (eqT x y=false):=zph (znc HN.out HN'.out (by intro e;injection e with _ _ e;exact hb e));go_wp21;go_ret;rw[HE.out];exact⟨rfl,(BW.alloc BW.size _).alloc (by simp;omega) _⟩
     ·have e1:((a:Int)==(c:Int))=false:=by rw[beq_eq_false_iff_ne];omega
      have e2:((a:Int) !=(c:Int))=true:=by rw[bne,e1];rfl
      have HE:Hid (eqT x y=false):=zph (znc HN.out HN'.out (by intro e;injection e with _ e _;exact ha e));go_wp21;go_ret;rw[HE.out];exact⟨rfl,(BW.alloc BW.size _).alloc (by simp;omega) _⟩
    ·have e1:((p:Int)==42)=false:=by rw[beq_eq_false_iff_ne];omega
     have e2:((p:Int)==62)=false:=by rw[beq_eq_false_iff_ne];omega
     have HM:=hid (zmx HU.out HN.out HN'.out rfl);go_wp21;go_roundw
     case rel=>exact⟨k+1,by simp,by omega,HM,(hg.trans (z1p wr _ none)).trans (z1p _ _ none)⟩
     case measure=>simp[intOf];omega
   ·have e1:((p:Int)==(q:Int))=false:=by rw[beq_eq_false_iff_ne];omega
    have e2:((p:Int) !=(q:Int))=true:=by rw[bne,e1];rfl
    have HE:Hid (eqT x y=false):=zph (znc HN.out HN'.out (by intro e;injection e with e _ _;exact hq e));rcases(show p=42\/p=62\/(p≠42/\p≠62) from by omega) with hp|hp|⟨hp,hp2⟩
    ·have e3:((p:Int)==42)=true:=by rw[hp];rfl
     go_wp21;go_ret;rw[HE.out];exact⟨rfl,(BW.alloc BW.size _).alloc (by simp;omega) _⟩
    ·have e3:((p:Int)==42)=false:=by rw[hp];rfl
     have e4:((p:Int)==62)=true:=by rw[hp];rfl
     go_wp21;go_ret;rw[HE.out];exact⟨rfl,(BW.alloc BW.size _).alloc (by simp;omega) _⟩
    ·have e3:((p:Int)==42)=false:=by rw[beq_eq_false_iff_ne];omega
     have e4:((p:Int)==62)=false:=by rw[beq_eq_false_iff_ne];omega
     go_wp21;go_ret;rw[HE.out];exact⟨rfl,(BW.alloc BW.size _).alloc (by simp;omega) _⟩
  ·obtain rfl:k=sz x:=by omega
   have d1:decide ((sz x:Int)<(sz x:Int))=false:=by simp
   have HE:Hid (eqT x y=true):=by
    unfold Hid;have:=upTo_all hx.ok hy.ok HS.out.symm HU.out;rw[this];exact eqT_yes _
   go_wp21;go_ret;rw[HE.out];exact⟨rfl,BW⟩
end
abbrev tmA (op c a b:Nat) (ga va pa:Option Addr) (gn gc vn vc pn pc at' tu:Nat):Array Value:=#[uZ op,uZ c,iZ a,iZ b,.slice ga gn gc,.slice va vn vc,.slice pa pn pc,iZ at',iZ tu]
abbrev zgf (T:Array Value) (gf nf cf gx nx cx:Nat) (w:World):World:=(((w.alloc (.cells T 76)).alloc (tbO gf nf cf)).alloc (tbO gx nx cx)).alloc (.cells #[.slice none 0 0] 33)
section
variable (T:Array Value) (gf nf cf gx nx cx:Nat) (w:World)
theorem zii:Below w.heap.size w (zgf T gf nf cf gx nx cx w):=(((bal w _).alloc (by simp) _).alloc (by simp;omega) _).alloc (by simp;omega) _
theorem zkc:(zgf T gf nf cf gx nx cx w).heap.size=w.heap.size+4:=by simp[zgf]
theorem zny:(zgf T gf nf cf gx nx cx w).heap[w.heap.size+3]? =some (.cells #[.slice none 0 0] 33 (0,0)):=by
 have:=z1v (((w.alloc (.cells T 76)).alloc (tbO gf nf cf)).alloc (tbO gx nx cx)) (.cells #[.slice none 0 0] 33);simpa using this
theorem zwk:(zgf T gf nf cf gx nx cx w).heap[w.heap.size+1]? =some (.cells #[sZ gf nf cf] 33 (0,0)):=by
 have:=z1v (w.alloc (.cells T 76)) (tbO gf nf cf);unfold zgf;rw[Below.heap_alloc _ _ _ (by simp),Below.heap_alloc _ _ _ (by simp)];simpa using this
theorem callW_x:(zgf T gf nf cf gx nx cx w).heap[w.heap.size+2]? =some (.cells #[sZ gx nx cx] 33 (0,0)):=by
 have:=z1v ((w.alloc (.cells T 76)).alloc (tbO gf nf cf)) (tbO gx nx cx);unfold zgf;rw[Below.heap_alloc _ _ _ (by simp)];simpa using this
theorem call_ok (b op c ta tb:Nat) (ga va pa:Option Addr) (gn gc vn vc pn pc at' tu:Nat) (x y:Ty) (gf cf gx cx:Nat) (w:World) (hf:Rg gf (tF x y) w) (hx:Rg gx x w) (hl:sz (tF x y)<=60000) (okx:Ok x) (oky:Ok y):
 CZ 101 #[pZ b,.agg (tmA op c ta tb ga va pa gn gc vn vc pn pc at' tu),.agg #[sZ gf (sz (tF x y)) cf],.agg #[sZ gx (sz x) cx]] w (zcl y w):=by
 have hxl:sz x<=60000:=by
  have e:sz (tF x y)=sz x+sz y+1:=by simp[sz]
  omega
 have RO:Hid (∀X,Rg gf (tF x y) X->CZ 62 #[.agg #[sZ gf (sz (tF x y)) cf]] X λe w'=>e=.returned (.int .i64 62)/\Below X.heap.size X w'):=λX (h:Rg gf (tF x y) X)=>zav (tF x y) gf cf X h (z1c hl (by decide))
 have FI:Hid (∀X,Rg gf (tF x y) X->CZ 64 #[.agg #[sZ gf (sz (tF x y)) cf]] X (zcl x X)):=λX (h:Rg gf (tF x y) X)=>zch 5 (Or.inr rfl) x y okx gf cf X h (z1c hl (by decide))
 have SE:Hid (∀X,Rg gf (tF x y) X->CZ 65 #[.agg #[sZ gf (sz (tF x y)) cf]] X (zcl y X)):=λX (h:Rg gf (tF x y) X)=>zbz 5 (Or.inr rfl) x y oky gf cf X h (z1c hl (by decide))
 have SA:Hid (∀(h c:Nat) X,Rg h x X->Rg gx x X->CZ 72 #[.agg #[sZ h (sz x) c],.agg #[sZ gx (sz x) cx]] X λe w'=>e=.returned (.bool true)/\Below X.heap.size X w'):=by
  intro h c X h1 h2;have:=zmi x x h c gx cx X h1 h2 (z1c hxl (by decide));rwa [(zgp x x).2 rfl] at this
 generalize htt:(tF x y:Ty)=t at *
 generalize sz t=st at *
 have B0:=zii (tmA op c ta tb ga va pa gn gc vn vc pn pc at' tu) gf st cf gx (sz x) cx w;have hW:=zkc (tmA op c ta tb ga va pa gn gc vn vc pn pc at' tu) gf st cf gx (sz x) cx w;have h8:=zny (tmA op c ta tb ga va pa gn gc vn vc pn pc at' tu) gf st cf gx (sz x) cx w;have c6:(zgf (tmA op c ta tb ga va pa gn gc vn vc pn pc at' tu) gf st cf gx (sz x) cx w).cell? ⟨w.heap.size+1,0,none⟩=some (sZ gf st cf):=zab (zwk _ _ _ _ _ _ _ w);have c7:(zgf (tmA op c ta tb ga va pa gn gc vn vc pn pc at' tu) gf st cf gx (sz x) cx w).cell? ⟨w.heap.size+2,0,none⟩=some (sZ gx (sz x) cx):=zab (callW_x _ _ _ _ _ _ _ w);generalize hsx:sz x=sx at *
 have HSX:=hid hsx;clear hsx;have Rf:=hf.below B0;have Rx:=hx.below B0;clear hf hx hl hxl htt;go_enter Tryz.func101,Tryz.ntmps101;go_wp21;unfold zgf at *
 generalize ((((w.alloc (.cells (tmA op c ta tb ga va pa gn gc vn vc pn pc at' tu) 76)).alloc (tbO gf st cf)).alloc (tbO gx sx cx)).alloc (.cells #[.slice none 0 0] 33))=W at *
 refine(RO W Rf).mono ?_;rintro e w1 ⟨rfl,b1⟩;replace c6:=(b1.cell (p:=⟨w.heap.size+1,0,none⟩) (show w.heap.size+1<W.heap.size by omega)).trans c6;replace c7:=(b1.cell (p:=⟨w.heap.size+2,0,none⟩) (show w.heap.size+2<W.heap.size by omega)).trans c7;replace h8:=(b1.block (w.heap.size+3) (by omega)).trans h8;replace Rf:=Rf.below b1;replace Rx:=Rx.below b1;replace B0:=B0.trans (b1.mono B0.size);have s1:=b1.size;clear b1;go_wp21;refine(FI w1 Rf).mono ?_;rintro e w2 ⟨g2,cap2,rfl,R2,hg2,b2⟩;rw[HSX.out];have bA:Below w2.heap.size w2 (w2.alloc (tbO g2 sx cap2)):=bal w2 _;have b2A:=b2.trans (bA.mono b2.size);have c9:(w2.alloc (tbO g2 sx cap2)).cell? ⟨w2.heap.size,0,none⟩=some (sZ g2 sx cap2):=zab (z1v w2 _);have sA:(w2.alloc (tbO g2 sx cap2)).heap.size=w2.heap.size+1:=by simp
 replace c6:=(b2A.cell (p:=⟨w.heap.size+1,0,none⟩) (show w.heap.size+1<w1.heap.size by omega)).trans c6;replace c7:=(b2A.cell (p:=⟨w.heap.size+2,0,none⟩) (show w.heap.size+2<w1.heap.size by omega)).trans c7;replace h8:=(b2A.block (w.heap.size+3) (by omega)).trans h8;replace Rf:=Rf.below b2A;replace Rx:=Rx.below b2A;replace B0:=B0.trans (b2A.mono B0.size);have R2A:=R2.below bA;have s2:=b2.size;clear b2 b2A bA;go_wp21;generalize w2.alloc (tbO g2 sx cap2)=Z at *
 refine(SA g2 cap2 Z R2A Rx).mono ?_;rintro e w3 ⟨rfl,b3⟩;replace c6:=(b3.cell (p:=⟨w.heap.size+1,0,none⟩) (show w.heap.size+1<Z.heap.size by omega)).trans c6;replace h8:=(b3.block (w.heap.size+3) (by omega)).trans h8;replace Rf:=Rf.below b3;replace B0:=B0.trans (b3.mono B0.size);have s3:=b3.size;clear c7 c9 Rx R2A b3 R2;go_wp21;refine(SE w3 Rf).mono ?_;rintro e w4 ⟨g4,cap4,rfl,R4,hg4,b4⟩;replace h8:=(b4.block (w.heap.size+3) (by omega)).trans h8;have c8:=zab h8;have z8:=zaf h8;have HB:Hid (Below w.heap.size w w4):=B0.trans (b4.mono B0.size);generalize hsy:sz y=sy at *
 have HSY:=hid hsy;clear hsy B0 b4 Rf c6;go_wp21;refine zah rfl rfl (zad h8) ?_;refine⟨g4,cap4,by rw[HSY.out],R4.kept (zai _ _) (by simp;omega),by omega,?_⟩;exact HB.out.setCell (p:=⟨w.heap.size+3,0,none⟩) (by simp) _
end
theorem zwu (op c a b:Nat) (ga va pa:Option Addr) (gn gc vn vc pn pc at' tu:Nat) (gf nf cf gx nx cx:Nat) (w:World):(zgf (tmA op c a b ga va pa gn gc vn vc pn pc at' tu) gf nf cf gx nx cx w).cell? ⟨w.heap.size,8,none⟩=some (iZ tu):=by
 have h0:=z1v w (.cells (tmA op c a b ga va pa gn gc vn vc pn pc at' tu) 76)
 have:(zgf (tmA op c a b ga va pa gn gc vn vc pn pc at' tu) gf nf cf gx nx cx w).heap[w.heap.size]? =some (.cells (tmA op c a b ga va pa gn gc vn vc pn pc at' tu) 76 (0,0)):=by
  unfold zgf;rw[Below.heap_alloc _ _ _ (by simp;omega),Below.heap_alloc _ _ _ (by simp;omega),Below.heap_alloc _ _ _ (by simp)];exact h0
 rw[z1f this];rfl
theorem call_root (b op c ta tb:Nat) (ga va pa:Option Addr) (gn gc vn vc pn pc at' tu:Nat) (f:Ty) (nx gf cf gx cx:Nat) (L S:Value) (p m:Nat) (w:World) (hC:Ck b L S 0 p m w) (hf:Rg gf f w) (hl:sz f<=60000) (hn:(rt f 0).op≠62):
 CZ 101 #[pZ b,.agg (tmA op c ta tb ga va pa gn gc vn vc pn pc at' tu),.agg #[sZ gf (sz f) cf],.agg #[sZ gx nx cx]] w (FPost b L S 5 tu m w):=by
 have hblt:=(z1a.1 hC).1;have RO:=hid (λX (h:Rg gf f X)=>zav f gf cf X h (z1c hl (by decide)));have B0:=zii (tmA op c ta tb ga va pa gn gc vn vc pn pc at' tu) gf (sz f) cf gx nx cx w;have hW:=zkc (tmA op c ta tb ga va pa gn gc vn vc pn pc at' tu) gf (sz f) cf gx nx cx w;have h8:=zny (tmA op c ta tb ga va pa gn gc vn vc pn pc at' tu) gf (sz f) cf gx nx cx w;have c6:(zgf (tmA op c ta tb ga va pa gn gc vn vc pn pc at' tu) gf (sz f) cf gx nx cx w).cell? ⟨w.heap.size+1,0,none⟩=some (sZ gf (sz f) cf):=zab (zwk _ _ _ _ _ _ _ w);have c5:=zwu op c ta tb ga va pa gn gc vn vc pn pc at' tu gf (sz f) cf gx nx cx w;have Rf:=hf.below B0;have C1:=hC.below B0;have hz:(((rt f 0).op:Int) !=62)=true:=by rw[bne_iff_ne];omega
 generalize ((rt f 0).op:Int)=z at *
 generalize sz f=st at *
 go_enter Tryz.func101,Tryz.ntmps101;go_wp21;unfold zgf at *
 generalize ((((w.alloc (.cells (tmA op c ta tb ga va pa gn gc vn vc pn pc at' tu) 76)).alloc (tbO gf st cf)).alloc (tbO gx nx cx)).alloc (.cells #[.slice none 0 0] 33))=W at *
 refine(RO W Rf).mono ?_;rintro e w1 ⟨rfl,b1⟩;replace c5:=(b1.cell (p:=⟨w.heap.size,8,none⟩) (show w.heap.size<W.heap.size by omega)).trans c5;replace h8:=(b1.block (w.heap.size+3) (by omega)).trans h8;replace C1:=C1.below b1;replace B0:=B0.trans (b1.mono B0.size);have s1:=b1.size;go_wp21;refine(zda b L S p m 5 tu w1 C1).mono ?_;rintro e w2 ⟨g2,cap2,rfl,R2,hg2,C2,G2⟩;have hb2:=(G2.block (w.heap.size+3) (by omega) (by simp;omega)).trans h8;have c8:=zab hb2;have z8:=zaf hb2;have HR2:=hid R2;have HC2:=hid C2;have HG2:Hid (w.grownBy w2 (some b)):=(zan B0 _).trans G2;have HG:=hid hg2;go_wp21;refine zah rfl rfl (zad hb2) ?_;have:=HG.out;refine⟨g2,cap2,rfl,HR2.out.kept (zai _ _) (by simp;omega),by omega,HC2.out.kept (zai _ _) (by simp;omega),?_⟩;exact HG2.out.andThen (zai _ _) (λj hj=>by cases hj;exact .inl (by omega))
theorem call_diff (b op c ta tb:Nat) (ga va pa:Option Addr) (gn gc vn vc pn pc at' tu:Nat) (x y z:Ty) (gf cf gx cx:Nat) (L S:Value) (p m:Nat) (w:World) (hC:Ck b L S 0 p m w) (hf:Rg gf (tF x y) w) (hx:Rg gx z w) (hl:sz (tF x y)<=60000) (hlz:sz z<=60000) (okx:Ok x) (hne:x≠z):
 CZ 101 #[pZ b,.agg (tmA op c ta tb ga va pa gn gc vn vc pn pc at' tu),.agg #[sZ gf (sz (tF x y)) cf],.agg #[sZ gx (sz z) cx]] w (FPost b L S 5 tu m w):=by
 have hxl:sz x<=60000:=by
  have e:sz (tF x y)=sz x+sz y+1:=by simp[sz]
  omega
 have hblt:b<w.heap.size:=(z1a.1 hC).1;have RO:Hid (∀X,Rg gf (tF x y) X->CZ 62 #[.agg #[sZ gf (sz (tF x y)) cf]] X λe w'=>e=.returned (.int .i64 62)/\Below X.heap.size X w'):=λX (h:Rg gf (tF x y) X)=>zav (tF x y) gf cf X h (z1c hl (by decide))
 have FI:Hid (∀X,Rg gf (tF x y) X->CZ 64 #[.agg #[sZ gf (sz (tF x y)) cf]] X (zcl x X)):=λX (h:Rg gf (tF x y) X)=>zch 5 (Or.inr rfl) x y okx gf cf X h (z1c hl (by decide))
 have SA:Hid (∀(h c:Nat) X,Rg h x X->Rg gx z X->CZ 72 #[.agg #[sZ h (sz x) c],.agg #[sZ gx (sz z) cx]] X λe w'=>e=.returned (.bool false)/\Below X.heap.size X w'):=by
  intro h c X h1 h2;have:=zmi x z h c gx cx X h1 h2 (z1c hxl (by decide))
  have hf:eqT x z=false:=by
   rw[Bool.eq_false_iff];exact λe=>hne ((zgp x z).1 e)
  rwa [hf] at this
 generalize htt:(tF x y:Ty)=t at *
 generalize sz t=st at *
 have B0:=zii (tmA op c ta tb ga va pa gn gc vn vc pn pc at' tu) gf st cf gx (sz z) cx w;have hW:=zkc (tmA op c ta tb ga va pa gn gc vn vc pn pc at' tu) gf st cf gx (sz z) cx w;have h8:=zny (tmA op c ta tb ga va pa gn gc vn vc pn pc at' tu) gf st cf gx (sz z) cx w;have c6:(zgf (tmA op c ta tb ga va pa gn gc vn vc pn pc at' tu) gf st cf gx (sz z) cx w).cell? ⟨w.heap.size+1,0,none⟩=some (sZ gf st cf):=zab (zwk _ _ _ _ _ _ _ w);have c7:(zgf (tmA op c ta tb ga va pa gn gc vn vc pn pc at' tu) gf st cf gx (sz z) cx w).cell? ⟨w.heap.size+2,0,none⟩=some (sZ gx (sz z) cx):=zab (callW_x _ _ _ _ _ _ _ w);have c5:=zwu op c ta tb ga va pa gn gc vn vc pn pc at' tu gf st cf gx (sz z) cx w;generalize hsx:sz x=sx at *
 have HSX:=hid hsx;generalize hsz:sz z=szz at *
 clear hsx hsz hne;have Rf:=hf.below B0;have Rx:=hx.below B0;have C1:=hC.below B0;clear hf hx hl hxl htt hC;go_enter Tryz.func101,Tryz.ntmps101;go_wp21;unfold zgf at *
 generalize ((((w.alloc (.cells (tmA op c ta tb ga va pa gn gc vn vc pn pc at' tu) 76)).alloc (tbO gf st cf)).alloc (tbO gx szz cx)).alloc (.cells #[.slice none 0 0] 33))=W at *
 refine(RO W Rf).mono ?_;rintro e w1 ⟨rfl,b1⟩;replace c5:=(b1.cell (p:=⟨w.heap.size,8,none⟩) (show w.heap.size<W.heap.size by omega)).trans c5;replace c6:=(b1.cell (p:=⟨w.heap.size+1,0,none⟩) (show w.heap.size+1<W.heap.size by omega)).trans c6;replace c7:=(b1.cell (p:=⟨w.heap.size+2,0,none⟩) (show w.heap.size+2<W.heap.size by omega)).trans c7;replace h8:=(b1.block (w.heap.size+3) (by omega)).trans h8;replace Rf:=Rf.below b1;replace Rx:=Rx.below b1;replace C1:=C1.below b1;replace B0:=B0.trans (b1.mono B0.size);have s1:=b1.size;clear b1;go_wp21;refine(FI w1 Rf).mono ?_;rintro e w2 ⟨g2,cap2,rfl,R2,hg2,b2⟩;rw[HSX.out];have bA:Below w2.heap.size w2 (w2.alloc (tbO g2 sx cap2)):=bal w2 _;have b2A:=b2.trans (bA.mono b2.size);have c9:(w2.alloc (tbO g2 sx cap2)).cell? ⟨w2.heap.size,0,none⟩=some (sZ g2 sx cap2):=zab (z1v w2 _);have sA:(w2.alloc (tbO g2 sx cap2)).heap.size=w2.heap.size+1:=by simp
 replace c5:=(b2A.cell (p:=⟨w.heap.size,8,none⟩) (show w.heap.size<w1.heap.size by omega)).trans c5;replace c7:=(b2A.cell (p:=⟨w.heap.size+2,0,none⟩) (show w.heap.size+2<w1.heap.size by omega)).trans c7;replace h8:=(b2A.block (w.heap.size+3) (by omega)).trans h8;replace Rx:=Rx.below b2A;replace C1:=C1.below b2A;replace B0:=B0.trans (b2A.mono B0.size);have R2A:=R2.below bA;have s2:=b2.size;clear b2 b2A bA Rf;go_wp21;generalize w2.alloc (tbO g2 sx cap2)=Z at *
 refine(SA g2 cap2 Z R2A Rx).mono ?_;rintro e w3 ⟨rfl,b3⟩;replace c5:=(b3.cell (p:=⟨w.heap.size,8,none⟩) (show w.heap.size<Z.heap.size by omega)).trans c5;replace h8:=(b3.block (w.heap.size+3) (by omega)).trans h8;replace C1:=C1.below b3;replace B0:=B0.trans (b3.mono B0.size);have s3:=b3.size;clear c7 c9 Rx R2A b3 R2 c6 RO FI SA;go_wp21;refine(zda b L S p m 5 tu w3 C1).mono ?_;rintro e w4 ⟨g4,cap4,rfl,R4,hg4,C4,G4⟩;have hb4:=(G4.block (w.heap.size+3) (by omega) (by simp;omega)).trans h8;have c8:=zab hb4;have z8:=zaf hb4;have HR4:=hid R4;have HC4:=hid C4;have HG4:Hid (w.grownBy w4 (some b)):=(zan B0 _).trans G4;have HG:=hid hg4;clear C4 G4 R4 B0 C1 c5 h8;go_wp21;refine zah rfl rfl (zad hb4) ?_;have:=HG.out;refine⟨g4,cap4,rfl,HR4.out.kept (zai _ _) (by simp;omega),by omega,HC4.out.kept (zai _ _) (by simp;omega),?_⟩;exact HG4.out.andThen (zai _ _) (λj hj=>by cases hj;exact .inl (by omega))
end Go.Proofs.YtceadeaodbadlaaGreatDoor
namespace Go.Proofs.YtceadeaodbadlaaGreatDoor
open Go.RowKit
variable {ty : Bool} {lv : Value}
def R0 (ty:Bool) (lv:Value) (b:Nat) (s:ByteArray) (i:Nat) (bad:Int) (w:World):Prop:=w.heap[b]? =some (.cells #[.string s,.bool ty,.int .i64 (i:Int),.int .i64 bad,lv] 70 (0,0))
section
variable {s:ByteArray} {bad:Int} {b i g d:Nat} {t:Ty} {w w':World}
theorem R0.lt (h:R0 ty lv b s i bad w):b<w.heap.size:=(z1a.1 h).1
theorem R0.drewN (h:R0 ty lv b s i bad w) (n:Nat):R0 ty lv b s i bad (w.drewN n):=h
theorem R0.drew (h:R0 ty lv b s i bad w):R0 ty lv b s i bad w.drew:=h
theorem R0.below (h:R0 ty lv b s i bad w) (hb:Below w.heap.size w w'):R0 ty lv b s i bad w':=(hb.block b h.lt).trans h
theorem R0.alloc (h:R0 ty lv b s i bad w) (o:Obj):R0 ty lv b s i bad (w.alloc o):=(Below.heap_alloc w o b h.lt).trans h
theorem R0.setFar {q:Nat} (h:R0 ty lv b s i bad w) (hq:q≠b) (u:Value):R0 ty lv b s i bad (w.setCell ⟨q,0,none⟩ u):=(Below.heap_setCell w ⟨q,0,none⟩ u b (λe=>hq e.symm)).trans h
theorem R0.setI (h:R0 ty lv b s i bad w) (j:Nat):R0 ty lv b s j bad (w.setCell ⟨b,2,none⟩ (.int .i64 (j:Int))):=by
 unfold R0 at h ⊢;simp[World.setCell,z1i,h]
theorem R0.setBad (h:R0 ty lv b s i bad w) (p:Int):R0 ty lv b s i p (w.setCell ⟨b,3,none⟩ (.int .i64 p)):=by
 unfold R0 at h ⊢;simp[World.setCell,z1i,h]
theorem R0.next (h:R0 ty lv b s i bad w) (n:Nat):R0 ty lv b s (i+1) bad ((w.drewN n).setCell ⟨b,2,none⟩ (.int .i64 ((i:Int)+1))):=by
 have:=(h.drewN n).setI (i+1);rwa [Int.natCast_add] at this
theorem R0.c0 (h:R0 ty lv b s i bad w):w.cell? ⟨b,0,none⟩=some (.string s):=cbl h
theorem R0.c2 (h:R0 ty lv b s i bad w):w.cell? ⟨b,2,none⟩=some (.int .i64 (i:Int)):=cbl h
theorem R0.c3 (h:R0 ty lv b s i bad w):w.cell? ⟨b,3,none⟩=some (.int .i64 bad):=cbl h
theorem R0.fz (h:R0 ty lv b s i bad w) (j:Nat):w.frozen? ⟨b,j,none⟩=false:=frozen_of_row _ _ _ _ _ h
theorem Rg.ne (h:Rg g t w) (k:R0 ty lv b s i bad w):g≠b:=by
 rintro rfl;have hp:=zaw h.ok;obtain⟨n,hn⟩:∃n,(nd t 0)[0]? =some n:=⟨_,z1h (by rw[zaj];omega)⟩
 have:=(h.cell 0 n hn).1;rw[Nat.zero_mul,k.c0] at this
 cases this
theorem Rg.gb (h:Rg g t w) (hg:Gb b w w') (hn:g≠b):Rg g t w':=h.kept hg (by simp;exact λe=>hn e.symm)
theorem zhr (ty:Bool) (lv:Value) (b:Nat) (s:ByteArray) (i p lo hi:Nat) (w:World) (h:R0 ty lv b s i p w):
 CZ 104 #[pZ b,.int .u8 (lo:Int),.int .u8 (hi:Int)] w λe w'=>e=.returned (.bool false)/\∃n,w'=w.drewN n:=by
 have h3:=h.c3;have hd:decide ((p:Int)<0)=false:=by simp
 go_enter Tryz.func104,Tryz.ntmps104;go_wp2
 go_quiet (fail)
 go_wp2;go_ret;exact⟨rfl,_,rfl⟩
theorem zbr (ty:Bool) (lv:Value) (b:Nat) (s:ByteArray) (i lo hi:Nat) (w:World) (h:R0 ty lv b s i (-1) w) (hi':i<=s.size) (hs:s.size<=400000) (hlo:1<=lo):
 CZ 104 #[pZ b,.int .u8 (lo:Int),.int .u8 (hi:Int)] w λe w'=>e=.returned (.bool (inR (chr s i) lo hi))/\∃n,w'=w.drewN n:=by
 have h0:=h.c0;have h2:=h.c2;have h3:=h.c3;clear h;by_cases hlt:i<s.size
 ·have hc:chr s i=s[i].toNat:=by simp[chr,hlt]
  rw[hc];clear hc;have d1:decide ((i:Int)<(s.size:Int))=true:=by simp;omega
  by_cases h4:lo<=s[i].toNat
  ·have d2:decide ((lo:Int)<=(s[i].toNat:Int))=true:=by simp;omega
   by_cases h5:s[i].toNat<=hi
   ·have d3:decide ((s[i].toNat:Int)<=(hi:Int))=true:=by simp;omega
    have hr:inR s[i].toNat lo hi=true:=by simp[inR,h4,h5]
    rw[hr];clear hr;go_enter Tryz.func104,Tryz.ntmps104;go_wp2
    go_quiet (fail)
    go_wp2;go_ret;exact⟨rfl,_,rfl⟩
   ·have d3:decide ((s[i].toNat:Int)<=(hi:Int))=false:=by simp;omega
    have d3':decide (s[i].toNat<=hi)=false:=by simp;omega
    have hr:inR s[i].toNat lo hi=false:=by simp[inR,h5]
    rw[hr];clear hr;go_enter Tryz.func104,Tryz.ntmps104;go_wp2
    go_quiet (fail)
    go_wp2;go_ret;exact⟨rfl,_,rfl⟩
  ·have d2:decide ((lo:Int)<=(s[i].toNat:Int))=false:=by simp;omega
   have d2':decide (lo<=s[i].toNat)=false:=by simp;omega
   have hr:inR s[i].toNat lo hi=false:=by simp[inR,h4]
   rw[hr];clear hr;go_enter Tryz.func104,Tryz.ntmps104;go_wp2
   go_quiet (fail)
   go_wp2;go_ret;exact⟨rfl,_,rfl⟩
 ·have d1:decide ((i:Int)<(s.size:Int))=false:=by simp;omega
  have d1':decide (i<s.size)=false:=by simp;omega
  have hr:inR (chr s i) lo hi=false:=by simp[inR,chr,hlt];omega
  rw[hr];clear hr hlo;go_enter Tryz.func104,Tryz.ntmps104;go_wp2
  go_quiet (fail)
  go_wp2;go_ret;exact⟨rfl,_,rfl⟩
theorem zfu (ty:Bool) (lv:Value) (b:Nat) (s:ByteArray) (i p:Nat) (w:World) (h:R0 ty lv b s i p w):
 CZ 44 #[pZ b] w λe w'=>e=.returned (.tuple #[])/\w'=w:=by
 have h3:=h.c3;have hd:decide ((p:Int)<0)=false:=by simp
 go_enter Tryz.func44,Tryz.ntmps44;go_wp2;go_end0;exact⟨rfl,rfl⟩
theorem zhg (b:Nat) (s:ByteArray) (i:Nat) (w:World) (h:R0 ty lv b s i (-1) w):
 CZ 44 #[pZ b] w λe w'=>e=.returned (.tuple #[])/\R0 ty lv b s i i w'/\Gb b w w':=by
 have h2:=h.c2;have h3:=h.c3;have f3:=h.fz 3;go_enter Tryz.func44,Tryz.ntmps44;go_wp2;go_end0;exact⟨rfl,h.setBad i,(Gb.refl b w).setCell 3 _⟩
theorem inS {c:Nat}:inR c d d=true ↔ c=d:=by simp[inR];omega
theorem zdy {c:Nat} (h:c≠d):inR c d d=false:=by simp[inR];omega
theorem zho (b:Nat) (s:ByteArray) (i c:Nat) (w:World) (h:R0 ty lv b s i (-1) w) (hs:s.size<=400000) (hc:chr s i=c) (h0:1<=c):
 CZ 71 #[pZ b,.int .u8 (c:Int)] w λe w'=>e=.returned (.bool true)/\R0 ty lv b s (i+1) (-1) w'/\Gb b w w':=by
 have hlt:i<s.size:=zag (by omega);have c2:=h.c2;have f2:=h.fz 2;have hn:=h.next;have HR:Hid (inR (chr s i) c c=true):=inS.2 hc;clear hc;go_enter Tryz.func71,Tryz.ntmps71
 go_wp2_with fail
 refine(zbr ty lv b s i c c w h (by omega) hs h0).mono ?_;rintro e w' ⟨rfl,n,rfl⟩;rw[HR.out]
 go_wp2_with fail
 go_ret;exact⟨rfl,hn n,((Gb.refl b w).drewN n).setCell 2 _⟩
theorem zgv (b:Nat) (s:ByteArray) (i c:Nat) (w:World) (h:R0 ty lv b s i (-1) w) (hi:i<=s.size) (hs:s.size<=400000) (hc:chr s i≠c) (h0:1<=c):
 CZ 71 #[pZ b,.int .u8 (c:Int)] w λe w'=>e=.returned (.bool false)/\∃n,w'=w.drewN n:=by
 have HR:Hid (inR (chr s i) c c=false):=zdy hc;clear hc;go_enter Tryz.func71,Tryz.ntmps71
 go_wp2_with fail
 refine(zbr ty lv b s i c c w h hi hs h0).mono ?_;rintro e w' ⟨rfl,n,rfl⟩;rw[HR.out]
 go_wp2_with fail
 go_ret;exact⟨rfl,n,rfl⟩
theorem zff (b:Nat) (s:ByteArray) (i p c:Nat) (w:World) (h:R0 ty lv b s i p w):
 CZ 71 #[pZ b,.int .u8 (c:Int)] w λe w'=>e=.returned (.bool false)/\∃n,w'=w.drewN n:=by
 go_enter Tryz.func71,Tryz.ntmps71
 go_wp2_with fail
 refine(zhr ty lv b s i p c c w h).mono ?_;rintro e w' ⟨rfl,n,rfl⟩
 go_wp2_with fail
 go_ret;exact⟨rfl,n,rfl⟩
theorem zsw (b:Nat) (s:ByteArray) (i c:Nat) (w:World) (h:R0 ty lv b s i (-1) w) (hs:s.size<=400000) (hc:chr s i=c) (h0:1<=c):
 CZ 106 #[pZ b,.int .u8 (c:Int)] w λe w'=>e=.returned (.tuple #[])/\R0 ty lv b s (i+1) (-1) w'/\Gb b w w':=by
 go_enter Tryz.func106,Tryz.ntmps106
 go_wp2_with fail
 refine(zho b s i c w h hs hc h0).mono ?_;rintro e w' ⟨rfl,h1,k1⟩;clear hc
 go_wp2_with fail
 go_end0;exact⟨rfl,h1,k1⟩
theorem zyk (b:Nat) (s:ByteArray) (i c:Nat) (w:World) (h:R0 ty lv b s i (-1) w) (hi:i<=s.size) (hs:s.size<=400000) (hc:chr s i≠c) (h0:1<=c):
 CZ 106 #[pZ b,.int .u8 (c:Int)] w λe w'=>e=.returned (.tuple #[])/\R0 ty lv b s i i w'/\Gb b w w':=by
 go_enter Tryz.func106,Tryz.ntmps106
 go_wp2_with fail
 refine(zgv b s i c w h hi hs hc h0).mono ?_;rintro e w' ⟨rfl,n,rfl⟩;clear hc
 go_wp2_with fail
 refine(zhg b s i _ (h.drewN n)).mono ?_;rintro e w' ⟨rfl,h1,k1⟩
 go_wp2_with fail
 go_end0;exact⟨rfl,h1,((Gb.refl b w).drewN n).trans k1⟩
theorem zrq (b:Nat) (s:ByteArray) (i p c:Nat) (w:World) (h:R0 ty lv b s i p w):
 CZ 106 #[pZ b,.int .u8 (c:Int)] w λe w'=>e=.returned (.tuple #[])/\∃n,w'=w.drewN n:=by
 go_enter Tryz.func106,Tryz.ntmps106
 go_wp2_with fail
 refine(zff b s i p c w h).mono ?_;rintro e w' ⟨rfl,n,rfl⟩
 go_wp2_with fail
 refine(zfu ty lv b s i p _ (h.drewN n)).mono ?_;rintro e w' ⟨rfl,rfl⟩
 go_wp2_with fail
 go_end0;exact⟨rfl,n,rfl⟩
theorem zix (b:Nat) (s:ByteArray) (i r j:Nat) (w:World) (h:R0 ty lv b s i (-1) w) (hs:s.size<=400000) (hc:zaq (chr s i)=true) (HE:Hid (r=vnum (chr s i) (chr s (i+1))+30)) (HJ:Hid (j=if 49<=chr s (i+1)/\chr s (i+1)<=57 then i+2 else i+1)):
 CZ 105 #[pZ b] w λe w'=>e=.returned (.int .i64 (r:Int))/\R0 ty lv b s j (-1) w'/\Gb b w w':=by
 have hlt:i<s.size:=zag (by intro e;rw[e] at hc;exact absurd hc (by decide));have c0:=h.c0;have c2:=h.c2;have f2:=h.fz 2;have hci:s[i].toNat=chr s i:=by simp[chr,hlt]
 have hl:97<=chr s i/\chr s i<=122:=by simpa [zaq] using hc
 have hu:IntKind.u8.wrap ((chr s i:Int)-97)=(chr s i:Int)-97:=IntWalk.u8_in _ ⟨by omega,by omega⟩;have HN:Hid (∀n,R0 ty lv b s (i+1) (-1) ((w.drewN n).setCell ⟨b,2,none⟩ (.int .i64 ((i:Int)+1)))):=h.next;clear hc;go_enter Tryz.func105,Tryz.ntmps105
 go_wp2_with fail
 go_quiet (fail)
 go_wp2_with fail
 have h1:=HN.out nq;have g1:Gb b w ((w.drewN nq).setCell ⟨b,2,none⟩ (.int .i64 ((i:Int)+1))):=((Gb.refl b w).drewN nq).setCell 2 _;generalize (w.drewN nq).setCell ⟨b,2,none⟩ (.int .i64 ((i:Int)+1))=w1 at h1 g1 ⊢;clear c0 c2 f2 HN;refine(zbr ty lv b s (i+1) 49 57 w1 h1 (by omega) hs (by decide)).mono ?_;rintro e w' ⟨rfl,n,rfl⟩;by_cases hd:49<=chr s (i+1)/\chr s (i+1)<=57
 ·have hr:inR (chr s (i+1)) 49 57=true:=by simp[inR,hd.1,hd.2]
  rw[hr];have hlt2:i+1<s.size:=zag (by omega);have hcj:s[i+1].toNat=chr s (i+1):=by simp[chr,hlt2]
  have hv:IntKind.u8.wrap ((chr s (i+1):Int)-48)=(chr s (i+1):Int)-48:=IntWalk.u8_in _ ⟨by omega,by omega⟩
  have HF:Hid ((r:Int)=1000+10*((chr s i:Int)-97)+((chr s (i+1):Int)-48)):=by
   unfold Hid;rw[HE.out,vnum,if_pos hd];omega
  have HK:Hid (j=i+1+1):=HJ.out.trans (if_pos hd);have h2:=h1.drewN n;have g2:=g1.drewN n;generalize w1.drewN n=w2 at h2 g2 ⊢;clear h1 g1;obtain⟨i1,hi1⟩:∃i1,i1=i+1:=⟨_,rfl⟩
  have HI1:Hid (i1=i+1):=hi1;have hcj':s[i1]'(by omega)=s[i+1]:=by subst hi1;rfl
  have hlt3:i1<s.size:=by omega
  rw[<-hi1] at h2;have c0:=h2.c0;have c2:=h2.c2;have f2:=h2.fz 2;have hcn:s[i1].toNat=chr s (i+1):=by rw[hcj'];exact hcj
  have HN2:Hid (∀m,R0 ty lv b s (i1+1) (-1) ((w2.drewN m).setCell ⟨b,2,none⟩ (.int .i64 ((i1:Int)+1)))):=h2.next;clear hr hi1 hcj hcj' hlt2
  go_wp2_with fail
  go_quiet (fail)
  go_wp2_with fail
  go_ret;rw[HF.out,HK.out,<-HI1.out];exact⟨rfl,HN2.out _,(g2.drewN _).setCell 2 _⟩
 ·have hr:inR (chr s (i+1)) 49 57=false:=by simp only[inR,Bool.and_eq_false_iff,decide_eq_false_iff_not];omega
  rw[hr]
  have HF:Hid ((r:Int)=1000+10*((chr s i:Int)-97)):=by
   unfold Hid;rw[HE.out,vnum,if_neg hd];omega
  have HK:Hid (j=i+1):=HJ.out.trans (if_neg hd);clear hd
  go_wp2_with fail
  go_ret;rw[HF.out,HK.out];exact⟨rfl,h1.drewN n,g1.drewN n⟩
end
def RKPost (ty:Bool) (lv:Value) (b:Nat) (s:ByteArray) (r:TOut) (i:Nat) (w:World) (e:Ending) (w':World):Prop:=
 Gb b w w'/\match r with
  | .error p=>∃g cap u,e=.returned (.agg #[sZ g (sz u) cap])/\Rg g u w'/\sz u<=p-i+1/\i<=p/\p<=s.size/\R0 ty lv b s p p w'
  | .ok (t,j)=>∃g cap,e=.returned (.agg #[sZ g (sz t) cap])/\Rg g t w'/\sz t<=j-i/\R0 ty lv b s j (-1) w'
def zdf (ty:Bool) (lv:Value) (b:Nat) (s:ByteArray) (n:Nat):Prop:=
 ∀(i:Nat) (w:World),R0 ty lv b s i (-1) w->i<=s.size->3*(s.size-i)+3<=n->
  CZ 43 #[pZ b] w (RKPost ty lv b s (pt s n 0 i .nil) i w)
def zjk (ty:Bool) (lv:Value) (b:Nat) (s:ByteArray) (n:Nat):Prop:=
 ∀(i:Nat) (w:World),R0 ty lv b s i (-1) w->i<=s.size->3*(s.size-i)+1<=n->
  CZ 70 #[pZ b] w (RKPost ty lv b s (pt s n 2 i .nil) i w)
abbrev zar:Obj:=.cells #[.slice none 0 0] 33
section
variable {g q b:Nat} {o:Obj} {t:Ty} {w wX:World}
theorem Rg.neBox {v:Option Addr} {m c:Nat} {T:TypeId} (h:Rg g t w) (k:w.heap[q]? =some (.cells #[.slice v m c] T (0,0))):g≠q:=by
 rintro rfl;have hp:=zaw h.ok;obtain⟨n,hn⟩:∃n,(nd t 0)[0]? =some n:=⟨_,z1h (by rw[zaj];omega)⟩
 have:=(h.cell 0 n hn).1;rw[Nat.zero_mul,zab k] at this
 cases this
theorem zhh (hg:Gb b (w.alloc o) wX) (hb:b<w.heap.size):wX.heap[w.heap.size]? =some o:=hg.old (z1v w o) (by omega)
theorem zht (hg:Gb b (w.alloc o) wX) (v:Value):Gb b w (wX.setCell ⟨w.heap.size,0,none⟩ v):=by
 have h1:=((Gb.refl b w).alloc o).trans hg;refine⟨h1.os,h1.tape,h1.output,by simpa [World.setCell] using Gb.size h1,λk hk hn=>?_⟩;exact(Below.heap_setCell wX ⟨w.heap.size,0,none⟩ v k (by simp;omega)).trans (h1.block k hk hn)
theorem Rg.setBox (h:Rg g t w) (hn:g≠q) (v:Value):Rg g t (w.setCell ⟨q,0,none⟩ v):=h.kept (zai q v) (by simp;exact λe=>hn e.symm)
theorem runit_let (b:Nat) (s:ByteArray) (n i:Nat) (w:World) (h:R0 ty lv b s i (-1) w) (hi:i<=s.size) (hs:s.size<=400000) (hc:zaq (chr s i)=true):
 CZ 70 #[pZ b] w (RKPost ty lv b s (zby s n i) i w):=by
 have hlt:=h.lt;have hb:zaq (chr s i)=inR (chr s i) 97 122:=rfl
 have HR:Hid (zby s n i=vOut s i):=by
  have:97<=chr s i/\chr s i<=122:=by simpa [zaq] using hc
  exact un_V (by omega) (by omega) (by omega) (by omega) hc
 have hv:=zwl (d:=chr s (i+1)) hc;have HC:=hid hc;obtain⟨o,ho⟩:∃o,o=vnum (chr s i) (chr s (i+1)):=⟨_,rfl⟩
 obtain⟨j,hj⟩:∃j,j=if 49<=chr s (i+1)/\chr s (i+1)<=57 then i+2 else i+1:=⟨_,rfl⟩
 have HV:Hid (zby s n i=.ok (tV o,j)):=by unfold Hid;rw[HR.out,ho,hj];rfl
 rw[<-ho] at hv;have hjlt:i+1<=j:=by rw[hj];split<;>omega
 have HO:Hid (o+30=vnum (chr s i) (chr s (i+1))+30):=by unfold Hid;rw[ho]
 have HJ:=hid hj;clear hc hb ho hj HR;go_enter Tryz.func70,Tryz.ntmps70;go_wp21;refine(zbr ty lv b s i 97 122 _ (h.alloc zar) hi hs (by decide)).mono ?_;rintro e w' ⟨rfl,d,rfl⟩;rw[show inR (chr s i) 97 122=true from HC.out];go_wp21;refine(zix b s i (o+30) j _ ((h.alloc zar).drewN d) hs HC HO HJ).mono ?_;rintro e w1 ⟨rfl,h1,g1⟩;go_wp21;refine(zds 2 o (by omega) (okV hv.1 hv.2) w1).mono ?_;rintro e w2 ⟨g2,cap2,rfl,R2,hg2,b2⟩;have G1:Gb b (w.alloc zar) w2:=((Gb.refl b (w.alloc zar)).drewN d).trans (g1.trans ⟨b2.os,b2.tape,b2.output,b2.size,λk hk _=>b2.block k hk⟩);have hbx:=zhh G1 hlt;have cb:=zab hbx;have fb:=zaf hbx;have R02:=h1.below b2;go_wp21;refine zah rfl rfl (zad hbx) ?_;refine⟨zht G1 _,?_⟩;rw[HV.out];exact⟨g2,cap2,rfl,R2.setBox (R2.neBox hbx) _,by rw[zkb];omega,R02.setFar (by omega) _⟩
theorem zot (gt c:Nat) (hgt:(gt=0/\c=73)\/(gt=1/\c=66)) (b:Nat) (s:ByteArray) (n i:Nat) (w:World) (h:R0 ty lv b s i (-1) w) (hi:i<=s.size) (hs:s.size<=400000) (hc:chr s i=c):
 CZ 70 #[pZ b] w (RKPost ty lv b s (zby s n i) i w):=by
 have hlt:=h.lt;have hlt0:i<s.size:=zag (by rw[hc];omega);have hcc:c=73\/c=66:=by omega
 have HV:Hid (zby s n i=.ok (.node gt 0 () .nil .nil,i+1)):=by
  unfold Hid;rcases hgt with ⟨rfl,rfl⟩|⟨rfl,rfl⟩
  ·exact un_I hc
  ·exact un_B hc
 have HO:Hid (Ok (.node gt 0 () .nil .nil)):=by
  unfold Hid;rcases hgt with ⟨rfl,rfl⟩|⟨rfl,rfl⟩
  ·exact okI
  ·exact okB
 have HG:Hid (sgn gt 0=c/\gt<=2):=by
  unfold Hid;rcases hgt with ⟨rfl,rfl⟩|⟨rfl,rfl⟩<;>exact⟨rfl,by decide⟩
 have HL:Hid (inR (chr s i) 97 122=false):=by
  unfold Hid;rw[hc];rcases hcc with rfl|rfl<;>decide
 have HI:Hid ((inR (chr s i) 73 73||inR (chr s i) 66 66)=true):=by
  unfold Hid;rw[hc];rcases hcc with rfl|rfl<;>decide
 have hci:s[i].toNat=c:=by rw[<-hc];simp[chr,hlt0]
 clear hgt hc;have hr1:Hid (∃x,x=inR (chr s i) 73 73):=⟨_,rfl⟩
 obtain⟨x,hx⟩:=hr1.out;obtain⟨y,hy⟩:∃y,y=inR (chr s i) 66 66:=⟨_,rfl⟩
 have HXY:Hid ((x||y)=true):=by unfold Hid;rw[hx,hy];exact HI.out
 have HX:Hid (inR (chr s i) 73 73=x):=hx.symm;have HY:Hid (inR (chr s i) 66 66=y):=hy.symm;clear hr1 hx hy HI;go_enter Tryz.func70,Tryz.ntmps70
 go_wp2_with fail
 refine(zbr ty lv b s i 97 122 _ (h.alloc zar) hi hs (by decide)).mono ?_;rintro e w' ⟨rfl,d,rfl⟩;rw[HL.out]
 go_wp2_with fail
 refine(zbr ty lv b s i 73 73 _ ((h.alloc zar).drewN d) hi hs (by decide)).mono ?_;rintro e w' ⟨rfl,d1,rfl⟩;rw[HX.out]
 go_wp2_with fail
 refine(zbr ty lv b s i 66 66 _ ((h.alloc zar).drewN _) hi hs (by decide)).mono ?_;rintro e w' ⟨rfl,d2,rfl⟩;rw[HY.out];have h3:=((h.alloc zar).drewN (d+d1)).drewN d2;have g3:Gb b (w.alloc zar) (((w.alloc zar).drewN (d+d1)).drewN d2):=((Gb.refl b (w.alloc zar)).drewN _).drewN _;generalize ((w.alloc zar).drewN (d+d1)).drewN d2=w3 at h3 g3 ⊢;have c2:=h3.c2;have f2:=h3.fz 2;have HN:Hid (R0 ty lv b s (i+1) (-1) (w3.setCell ⟨b,2,none⟩ (.int .i64 ((i:Int)+1)))):=h3.next 0;have G4:Gb b (w.alloc zar) (w3.setCell ⟨b,2,none⟩ (.int .i64 ((i:Int)+1))):=g3.setCell 2 _;have hxy:(x=true)\/(x=false/\y=true):=by have:=HXY.out;cases x<;>simp_all
 have hc9:c<=73:=by omega
 clear HL HX HY HXY hcc;rcases hxy with rfl|⟨rfl,rfl⟩
 all_goals
  go_wp2_with fail
  have h4:=HN.out;generalize w3.setCell ⟨b,2,none⟩ (.int .i64 ((i:Int)+1))=w4 at h4 G4 ⊢;clear HN c2 f2;obtain⟨i1,hi1⟩:∃i1,i1=i+1:=⟨_,rfl⟩
  rw[<-hi1] at h4;have he:((i1:Int)-1)=(i:Int):=by omega
  have HI1:Hid (i1=i+1):=hi1;have c0:=h4.c0;have c2:=h4.c2;have hw:IntKind.i64.wrap (i:Int)=(i:Int):=IntWalk.i64_in _ ⟨by omega,by omega⟩;have hwc:IntKind.i64.wrap (c:Int)=(c:Int):=IntWalk.i64_in _ ⟨by omega,by omega⟩;have hqb:w.heap.size≠b:=by omega
  have LF:=zds gt 0 HG.out.2 HO.out w4.drew;rw[HG.out.1] at LF;clear hi1
  go_region_held3 (λwq=>wq.cell? ⟨b,0,none⟩=some (.string s)/\wq.cell? ⟨b,2,none⟩=some (.int .i64 (i1:Int)))
   (first|go_keep|(go_split_ands;exact⟨q0,q2⟩)|exact⟨(h5.setFar hqb _).c0,(h5.setFar hqb _).c2⟩)
   (first|(go_at_call 40;refine LF.mono ?_;rintro e w5 ⟨g5,cap5,rfl,R5,hg5,b5⟩;(have h5:=h4.drew.below b5);(have q0:=h5.c0);(have q2:=h5.c2);(have G5:Gb b (w.alloc zar) w5:=(G4.drewN 1).trans ⟨b5.os,b5.tape,b5.output,b5.size,λk hk _=>b5.block k hk⟩);(have hbx:=zhh G5 hlt);(have cb:=zab hbx);(have fb:=zaf hbx)))
  go_wp2_with fail
  refine zah rfl rfl (zad hbx) ?_;refine⟨zht G5 _,?_⟩;rw[HV.out];exact⟨g5,cap5,rfl,R5.setBox (R5.neBox hbx) _,by rw[zkb];omega,by rw[<-HI1.out];exact h5.setFar (by omega) _⟩
end
def KS (ty:Bool) (lv:Value) (b:Nat) (s:ByteArray) (r:TOut) (i:Nat) (u:Ty) (w':World):Prop:=
 match r with
 | .error p=>sz u<=p-i+1/\i<=p/\p<=s.size/\R0 ty lv b s p p w'
 | .ok (t,j)=>u=t/\sz t<=j-i/\j<=s.size/\R0 ty lv b s j (-1) w'
section
variable {s:ByteArray} {b i g:Nat} {u:Ty} {w w':World} (n:Nat)
theorem RKPost.parts {e:Ending} {r:TOut} (h:RKPost ty lv b s r i w e w') (hj:∀t j,r=.ok (t,j)->j<=s.size):
 Gb b w w'/\∃g cap u,e=.returned (.agg #[sZ g (sz u) cap])/\Rg g u w'/\KS ty lv b s r i u w':=by
 obtain⟨hg,h⟩:=h;refine⟨hg,?_⟩
 cases r with
 |error p=>
  obtain⟨g,cap,u,he,hR,h1,h2,h3,h4⟩:=h;exact⟨g,cap,u,he,hR,h1,h2,h3,h4⟩
 |ok r=>
  obtain⟨t,j⟩:=r;obtain⟨g,cap,he,hR,h1,h2⟩:=h;exact⟨g,cap,t,he,hR,rfl,h1,hj t j rfl,h2⟩
theorem RKPost.of {cap:Nat} {r:TOut} (hg:Gb b w w') (hR:Rg g u w') (k:KS ty lv b s r i u w'):
 RKPost ty lv b s r i w (.returned (.agg #[sZ g (sz u) cap])) w':=by
 refine⟨hg,?_⟩
 cases r with
 |error p=>
  obtain⟨h1,h2,h3,h4⟩:=k;exact⟨g,cap,u,rfl,hR,h1,h2,h3,h4⟩
 |ok r=>
  obtain⟨t,j⟩:=r;obtain⟨rfl,h1,_,h2⟩:=k;exact⟨g,cap,rfl,hR,h1,h2⟩
theorem KS.moved {r:TOut} (k:KS ty lv b s r i u w) (hm:∀j bad,R0 ty lv b s j bad w->R0 ty lv b s j bad w'):KS ty lv b s r i u w':=by
 cases r with
 |error p=>exact⟨k.1,k.2.1,k.2.2.1,hm _ _ k.2.2.2⟩
 |ok r=>obtain⟨t,j⟩:=r;exact⟨k.1,k.2.1,k.2.2.1,hm _ _ k.2.2.2⟩
theorem KS.lt {r:TOut} (k:KS ty lv b s r i u w):b<w.heap.size:=by
 cases r with
 |error p=>exact k.2.2.2.lt
 |ok r=>obtain⟨t,j⟩:=r;exact k.2.2.2.lt
theorem KS.small {r:TOut} (k:KS ty lv b s r i u w):sz u<=s.size+1:=by
 cases r with
 |error p=>obtain⟨h1,h2,h3,_⟩:=k;omega
 |ok r=>obtain⟨t,j⟩:=r;obtain⟨rfl,h1,h3,_⟩:=k;omega
theorem KS.back {r:TOut} (k:KS ty lv b s r (i+1) u w):KS ty lv b s r i u w:=by
 cases r with
 |error p=>obtain⟨h1,h2,h3,h4⟩:=k;exact⟨by omega,by omega,h3,h4⟩
 |ok r=>obtain⟨t,j⟩:=r;obtain⟨h0,h1,h3,h4⟩:=k;exact⟨h0,by omega,h3,h4⟩
theorem KS.ne {v:Ty} {r:TOut} (k:KS ty lv b s r i u w) (h:Rg g v w):g≠b:=by
 cases r with
 |error p=>exact h.ne k.2.2.2
 |ok r=>obtain⟨t,j⟩:=r;exact h.ne k.2.2.2
def mapL:TOut->TOut
 | .error p=> .error p
 | .ok (a,j)=> .ok (tL a,j)
theorem un_L2 {n:Nat} (h:chr s i=91):zby s n i=mapL (zfd s n (i+1) 93):=by
 rw[un_L h];cases zfd s n (i+1) 93<;>rfl
theorem KS.list {r:TOut} (ok:Ok u) (k:KS ty lv b s r (i+1) u w):KS ty lv b s (mapL r) i (tL u) w:=by
 have hp:=zaw ok
 cases r with
 |error p=>obtain⟨h1,h2,h3,h4⟩:=k;exact⟨by show sz u+0+1<=_;omega,by omega,h3,h4⟩
 |ok r=>obtain⟨t,j⟩:=r;obtain⟨rfl,h1,h3,h4⟩:=k;exact⟨rfl,by show sz u+0+1<=_;omega,h3,h4⟩
theorem zys {n:Nat} (hi:i<=s.size):∀t j,pt s n 0 i .nil=.ok (t,j)->j<=s.size:=λt j h=>(zax s _ _ _ _ _ _ h hi (by omega)).2.1
theorem pt_end2 {n:Nat} (hi:i<=s.size):∀t j,pt s n 2 i .nil=.ok (t,j)->j<=s.size:=λt j h=>(zax s _ _ _ _ _ _ h hi (by omega)).2.1
theorem zhz:Gb b w (w.drewN n):=(Gb.refl b w).drewN n
theorem zxw (b:Nat) (s:ByteArray) (n i c:Nat) (u:Ty) (w:World) (ok:Ok u) (k:KS ty lv b s (pt s n 0 i .nil) i u w) (hs:s.size<=400000) (h0:1<=c):
 CZ 106 #[pZ b,uZ c] w λe w'=>e=.returned (.tuple #[])/\Gb b w w'/\KS ty lv b s (zfd s n i c) i u w':=by
 have hp:=zaw ok;unfold zfd
 cases hq:pt s n 0 i .nil with
 |error p=>
  rw[hq] at k;refine(zrq b s p p c w k.2.2.2).mono ?_;rintro e w' ⟨rfl,d,rfl⟩;exact⟨rfl,zhz d,k.1,k.2.1,k.2.2.1,k.2.2.2.drewN d⟩
 |ok r=>
  obtain⟨t,j⟩:=r;rw[hq] at k;obtain⟨rfl,h1,h2,h3⟩:=k;by_cases hc:chr s j=c
  ·refine(zsw b s j c w h3 hs hc h0).mono ?_
   rintro e w' ⟨rfl,h4,h5⟩;have hlt:j<s.size:=zag (by omega);refine⟨rfl,h5,?_⟩;simp only[hc,if_true];exact⟨rfl,by omega,hlt,h4⟩
  ·refine(zyk b s j c w h3 h2 hs hc h0).mono ?_
   rintro e w' ⟨rfl,h4,h5⟩;refine⟨rfl,h5,?_⟩;simp only[hc,if_false];exact⟨by omega,by omega,h2,h4⟩
theorem runit_none (b:Nat) (s:ByteArray) (n i:Nat) (w:World) (h:R0 ty lv b s i (-1) w) (hi:i<=s.size) (hs:s.size<=400000) (N73:Hid (chr s i≠73)) (N66:Hid (chr s i≠66)) (N91:Hid (chr s i≠91)) (N40:Hid (chr s i≠40)) (HL:Hid (zaq (chr s i)=false)):
 CZ 70 #[pZ b] w (RKPost ty lv b s (zby s n i) i w):=by
 have hlt:=h.lt;have HV:Hid (zby s n i=.error i):=un_N N73.out N66.out N91.out N40.out HL.out;have LF:∀w1,CZ 40 #[.int .i64 73] w1 (zcl tI w1):=λw1=>zds 0 0 (by decide) okI w1
 go_enter Tryz.func70,Tryz.ntmps70;go_wp21;refine(zbr ty lv b s i 97 122 _ (h.alloc zar) hi hs (by decide)).mono ?_;rintro e w' ⟨rfl,d,rfl⟩;rw[show inR (chr s i) 97 122=false from HL.out];go_wp21;refine(zbr ty lv b s i 73 73 _ ((h.alloc zar).drewN d) hi hs (by decide)).mono ?_;rintro e w' ⟨rfl,d1,rfl⟩;rw[zdy N73.out];go_wp21;refine(zbr ty lv b s i 66 66 _ ((h.alloc zar).drewN _) hi hs (by decide)).mono ?_;rintro e w' ⟨rfl,d2,rfl⟩;rw[zdy N66.out];go_wp21;refine(zgv b s i 91 _ ((h.alloc zar).drewN _) hi hs N91.out (by decide)).mono ?_;rintro e w' ⟨rfl,d3,rfl⟩;go_wp21;refine(zgv b s i 40 _ ((h.alloc zar).drewN _) hi hs N40.out (by decide)).mono ?_;rintro e w' ⟨rfl,d4,rfl⟩;go_wp21;refine(zhg b s i _ ((h.alloc zar).drewN _)).mono ?_;rintro e w1 ⟨rfl,h1,g1⟩;go_wp21;refine(LF w1).mono ?_;rintro e w2 ⟨g2,cap2,rfl,R2,hg2,b2⟩;have G1:Gb b (w.alloc zar) w2:=((Gb.refl b (w.alloc zar)).drewN _).trans (g1.trans ⟨b2.os,b2.tape,b2.output,b2.size,λk hk _=>b2.block k hk⟩);have hbx:=zhh G1 hlt;have cb:=zab hbx;have fb:=zaf hbx;have R02:=h1.below b2;go_wp21;refine zah rfl rfl (zad hbx) ?_;rw[HV.out];exact RKPost.of (zht G1 _) (R2.setBox (R2.neBox hbx) _) ⟨by show 1<=_;omega,z1d i,hi,R02.setFar (by omega) _⟩
theorem zlo (h:Below w.heap.size w w'):Gb b w w':=⟨h.os,h.tape,h.output,h.size,λk hk _=>h.block k hk⟩
theorem runit_list (b:Nat) (s:ByteArray) (n i:Nat) (w:World) (ih:Hid (zdf ty lv b s n)) (h:R0 ty lv b s i (-1) w) (hi:i<=s.size) (hs:s.size<=300000) (hn:3*(s.size-i)+1<=n+1) (H:Hid (chr s i=91)):
 CZ 70 #[pZ b] w (RKPost ty lv b s (zby s n i) i w):=by
 have hlt:=h.lt;have hlt0:i<s.size:=zag (by rw[H.out];decide);have HV:Hid (zby s n i=mapL (zfd s n (i+1) 93)):=un_L2 H.out;go_enter Tryz.func70,Tryz.ntmps70;go_wp21;refine(zbr ty lv b s i 97 122 _ (h.alloc zar) hi (by omega) (by decide)).mono ?_;rintro e w' ⟨rfl,d,rfl⟩;rw[show inR (chr s i) 97 122=false from by rw[H.out];decide];go_wp21;refine(zbr ty lv b s i 73 73 _ ((h.alloc zar).drewN d) hi (by omega) (by decide)).mono ?_;rintro e w' ⟨rfl,d1,rfl⟩;rw[zdy (c:=chr s i) (d:=73) (by rw[H.out];decide)];go_wp21;refine(zbr ty lv b s i 66 66 _ ((h.alloc zar).drewN _) hi (by omega) (by decide)).mono ?_;rintro e w' ⟨rfl,d2,rfl⟩;rw[zdy (c:=chr s i) (d:=66) (by rw[H.out];decide)];go_wp21;refine(zho b s i 91 _ ((h.alloc zar).drewN _) (by omega) H.out (by decide)).mono ?_;rintro e w1 ⟨rfl,h1,g1⟩;have G1:Gb b (w.alloc zar) w1:=(zhz _).trans g1;clear g1;go_wp21;refine(ih.out (i+1) _ h1 hlt0 (by omega)).mono ?_;intro e w2 hp;obtain⟨g2,g,cap,u,rfl,R2,k2⟩:=hp.parts (zys hlt0);have G2:=G1.trans g2;have hsm:=k2.small;have K2:=hid k2;clear hp k2 g2 h1;go_wp21;refine(zxw b s n (i+1) 93 u _ R2.ok (K2.out.moved λj bad r=>r.alloc _) (by omega) (by decide)).mono ?_;rintro e w4 ⟨rfl,g4,k4⟩;have cb4:=zab (zhh g4 K2.out.lt);have R4:Rg g u w4:=(R2.alloc _).gb g4 (K2.out.ne R2);have G4:Gb b (w.alloc zar) w4:=(G2.alloc _).trans g4;have K4:Hid (KS ty lv b s (mapL (zfd s n (i+1) 93)) i (tL u) w4):=k4.list R2.ok;have LA:=zxg u g cap w4 R4 (by omega);clear k4 g4 G2 R2 R4;generalize tL u=T at K4 LA;go_wp21;refine LA.mono ?_;rintro e w5 ⟨g5,cap5,rfl,R5,hg5,b5⟩;have G5:Gb b (w.alloc zar) w5:=G4.trans (zlo b5);have hbx:=zhh G5 hlt;have cb:=zab hbx;have fb:=zaf hbx;go_wp21;refine zah rfl rfl (zad hbx) ?_;rw[HV.out];exact RKPost.of (zht G5 _) (R5.setBox (R5.neBox hbx) _) (K4.out.moved λj bad r=>(r.below b5).setFar (by omega) _)
theorem zvn (b:Nat) (s:ByteArray) (n i:Nat) (w:World) (ih:Hid (zdf ty lv b s n)) (h:R0 ty lv b s i (-1) w) (hi:i<=s.size) (hs:s.size<=300000) (hn:3*(s.size-i)+1<=n+1) (H:Hid (chr s i=40)):
 CZ 70 #[pZ b] w (RKPost ty lv b s (zby s n i) i w):=by
 have hlt:=h.lt;have hlt0:i<s.size:=zag (by rw[H.out];decide);have HV:Hid (zby s n i=zfd s n (i+1) 41):=un_C H.out;go_enter Tryz.func70,Tryz.ntmps70;go_wp21;refine(zbr ty lv b s i 97 122 _ (h.alloc zar) hi (by omega) (by decide)).mono ?_;rintro e w' ⟨rfl,d,rfl⟩;rw[show inR (chr s i) 97 122=false from by rw[H.out];decide];go_wp21;refine(zbr ty lv b s i 73 73 _ ((h.alloc zar).drewN d) hi (by omega) (by decide)).mono ?_;rintro e w' ⟨rfl,d1,rfl⟩;rw[zdy (c:=chr s i) (d:=73) (by rw[H.out];decide)];go_wp21;refine(zbr ty lv b s i 66 66 _ ((h.alloc zar).drewN _) hi (by omega) (by decide)).mono ?_;rintro e w' ⟨rfl,d2,rfl⟩;rw[zdy (c:=chr s i) (d:=66) (by rw[H.out];decide)];go_wp21;refine(zgv b s i 91 _ ((h.alloc zar).drewN _) hi (by omega) (by rw[H.out];decide) (by decide)).mono ?_;rintro e w' ⟨rfl,d3,rfl⟩;go_wp21;refine(zho b s i 40 _ ((h.alloc zar).drewN _) (by omega) H.out (by decide)).mono ?_;rintro e w1 ⟨rfl,h1,g1⟩;have G1:Gb b (w.alloc zar) w1:=(zhz _).trans g1;clear g1;go_wp21;refine(ih.out (i+1) _ h1 hlt0 (by omega)).mono ?_;intro e w2 hp;obtain⟨g2,g,cap,u,rfl,R2,k2⟩:=hp.parts (zys hlt0);have G2:=G1.trans g2;have hsm:=k2.small;have K2:=hid k2;clear hp k2 g2 h1;go_wp21;refine(zxw b s n (i+1) 41 u _ R2.ok (K2.out.moved λj bad r=>r.alloc _) (by omega) (by decide)).mono ?_;rintro e w4 ⟨rfl,g4,k4⟩;have cb4:=zab (zhh g4 K2.out.lt);have R4:Rg g u w4:=(R2.alloc _).gb g4 (K2.out.ne R2);have G4:Gb b (w.alloc zar) w4:=(G2.alloc _).trans g4;have K4:=hid k4.back;have hbx:=zhh G4 hlt;have cb:=zab hbx;have fb:=zaf hbx;clear k4 g4 G2 R2;go_wp21;refine zah rfl rfl (zad hbx) ?_;rw[HV.out];exact RKPost.of (zht G4 _) (R4.setBox (R4.neBox hbx) _) (K4.out.moved λj bad r=>r.setFar (by omega) _)
theorem runit_any (b:Nat) (s:ByteArray) (n:Nat) (ih:zdf ty lv b s n) (hs:s.size<=300000):zjk ty lv b s (n+1):=by
 intro i w h hi hn;show Calls _ _ _ _ (RKPost ty lv b s (zby s n i) i w);by_cases h1:chr s i=73
 ·exact zot 0 73 (.inl ⟨rfl,rfl⟩) b s n i w h hi (by omega) h1
 by_cases h2:chr s i=66
 ·exact zot 1 66 (.inr ⟨rfl,rfl⟩) b s n i w h hi (by omega) h2
 by_cases h3:chr s i=91
 ·exact runit_list b s n i w ih h hi hs hn h3
 by_cases h4:chr s i=40
 ·exact zvn b s n i w ih h hi hs hn h4
 cases hc:zaq (chr s i)
 ·exact runit_none b s n i w h hi (by omega) h1 h2 h3 h4 hc
 ·exact runit_let b s n i w h hi (by omega) hc
end
def plr (b:Nat) (w:World):Nat:=(intOf ((w.cell? ⟨b,2,none⟩).getD .nilIface)).toNat
section
variable {s:ByteArray} {b i n k:Nat} {u t:Ty} {w w':World}
theorem R0.plr {bad:Int} (h:R0 ty lv b s i bad w):plr b w=i:=by
 unfold YtceadeaodbadlaaGreatDoor.plr;rw[h.c2];simp[intOf]
theorem KS.place {r:TOut} (ok:Ok u) (k:KS ty lv b s r i u w):∃q bad,i<=q/\q<=s.size/\R0 ty lv b s q bad w:=by
 have hp:=zaw ok
 cases r with
 |error p=>exact⟨p,p,k.2.1,k.2.2.1,k.2.2.2⟩
 |ok r=>obtain⟨t,j⟩:=r;obtain⟨rfl,h1,h2,h3⟩:=k;exact⟨j,-1,by omega,h2,h3⟩
def LG (ty:Bool) (lv:Value) (b:Nat) (s:ByteArray) (n i m j:Nat) (t:Ty) (wr:World):Prop:=m<=n/\j<=s.size/\3*(s.size-j)+2<=m/\pt s m 1 j t=zfy s n i/\sz t<=j-i/\i<=j/\R0 ty lv b s j (-1) wr
def LB (ty:Bool) (lv:Value) (b:Nat) (s:ByteArray) (n i p:Nat) (t:Ty) (wr:World):Prop:=zfy s n i=.error p/\sz t<=p-i+1/\i<=p/\p<=s.size/\R0 ty lv b s p p wr
def LS (ty:Bool) (lv:Value) (b:Nat) (s:ByteArray) (n i:Nat) (t:Ty) (wr:World):Prop:=(∃m j,LG ty lv b s n i m j t wr)\/(∃p,LB ty lv b s n i p t wr)
theorem LS.start (ok:Ok u) (hi:i<=s.size) (hn:3*(s.size-i)+3<=n+1) (k:KS ty lv b s (pt s n 2 i .nil) i u w) (mv:∀j bad,R0 ty lv b s j bad w->R0 ty lv b s j bad w'):LS ty lv b s n i u w':=by
 have hp:=zaw ok
 cases hq:pt s n 2 i .nil with
 |error p=>
  rw[hq] at k;exact .inr ⟨p,by unfold zfy;rw[hq],k.1,k.2.1,k.2.2.1,mv _ _ k.2.2.2⟩
 |ok r=>
  obtain⟨t,j⟩:=r;rw[hq] at k;obtain⟨rfl,h1,h2,h3⟩:=k;exact .inl ⟨n,j,z1d n,h2,by omega,by unfold zfy;rw[hq],h1,by omega,mv _ _ h3⟩
theorem LS.star {m j:Nat} {v:Ty} {w3:World} (ok:Ok v) (hst:chr s j=42) (g:LG ty lv b s n i (m+1) j t w) (k:KS ty lv b s (pt s m 2 (j+1) .nil) (j+1) v w3) (mv:∀j bad,R0 ty lv b s j bad w3->R0 ty lv b s j bad w'):LS ty lv b s n i (tP t v) w':=by
 have hp:=zaw ok;have hz:sz (tP t v)=sz t+sz v+1:=rfl;obtain⟨g1,g2,g3,g4,g5,g6,-⟩:=g;rw[zxp s m j t hst] at g4
 cases hq:pt s m 2 (j+1) .nil with
 |error p=>
  rw[hq] at k g4;obtain⟨h1,h2,h3,h4⟩:=k;exact .inr ⟨p,g4.symm,by omega,by omega,h3,mv _ _ h4⟩
 |ok r=>
  obtain⟨x,q⟩:=r;rw[hq] at k g4;obtain⟨rfl,h1,h2,h3⟩:=k;exact .inl ⟨m,q,by omega,h2,by omega,g4,by omega,by omega,mv _ _ h3⟩
def mapF (t:Ty):TOut->TOut
 | .error p=> .error p
 | .ok (b,l)=> .ok (tF t b,l)
theorem pt_fn (hp:zfy s n i=.ok (t,k)) (hc:chr s k=62):pt s (n+1) 0 i .nil=mapF t (pt s n 0 (k+1) .nil):=by
 rw[zpm,hp];simp only[hc,if_true]
 cases pt s n 0 (k+1) .nil<;>rfl
theorem pt_one (hp:zfy s n i=.ok (t,k)) (hc:chr s k≠62):pt s (n+1) 0 i .nil=.ok (t,k):=by
 rw[zpm,hp];simp only[hc,if_false]
theorem pt_bad {p:Nat} (hp:zfy s n i=.error p):pt s (n+1) 0 i .nil=.error p:=by
 rw[zpm,hp]
theorem KS.fn {r:TOut} (ok:Ok u) (hz:sz t<=k-i) (hik:i<=k) (h:KS ty lv b s r (k+1) u w):KS ty lv b s (mapF t r) i (tF t u) w:=by
 have hp:=zaw ok;have hzz:sz (tF t u)=sz t+sz u+1:=rfl
 cases r with
 |error p=>obtain⟨h1,h2,h3,h4⟩:=h;exact⟨by omega,by omega,h3,h4⟩
 |ok r=>obtain⟨x,j⟩:=r;obtain⟨rfl,h1,h3,h4⟩:=h;exact⟨rfl,by omega,h3,h4⟩
theorem gb_set {w0 wX:World} {q:Nat} (h:Gb b w0 wX) (hq:w0.heap.size<=q) (v:Value):Gb b w0 (wX.setCell ⟨q,0,none⟩ v):=by
 refine⟨h.os,h.tape,h.output,by simpa [World.setCell] using h.size,λk hk hn=>?_⟩;exact(Below.heap_setCell wX ⟨q,0,none⟩ v k (by simp;omega)).trans (h.block k hk hn)
abbrev zoa (g n cap:Nat):Obj:=.cells #[sZ g n cap] 33
theorem rkind_step (b:Nat) (s:ByteArray) (n:Nat) (ihT:Hid (zdf ty lv b s n)) (IH:Hid (∀m,m<=n->zjk ty lv b s m)) (hs:s.size<=300000):zdf ty lv b s (n+1):=by
 intro i w h hi hn;have hlt:=h.lt;go_enter Tryz.func43,Tryz.ntmps43;go_wp21;refine(IH.out n (z1d n) i _ (h.alloc zar) hi (by omega)).mono ?_;intro e w1 hp;obtain⟨G1,gu,cap,u,rfl,R1,k1⟩:=hp.parts (pt_end2 hi);have HS:Hid (LS ty lv b s n i u (w1.alloc (zoa gu (sz u) cap))):=LS.start R1.ok hi hn k1 (λj bad r=>r.alloc _);have hq1:w.heap.size+1<=w1.heap.size:=by have:=G1.size;simpa using this
 have hb1:=k1.lt;go_wp21
 go_loopw [8] (λ_ wr=>∃g cap t,wr.heap[w1.heap.size]? =some (.cells #[sZ g (sz t) cap] 33 (0,0))/\Rg g t wr/\Gb b (w.alloc zar) wr/\Hid (LS ty lv b s n i t wr)) (λ_ wr=>s.size-plr b wr)
 case atStart=>exact⟨gu,cap,u,z1v w1 _,R1.alloc _,G1.alloc _,HS⟩
 case round=>
  obtain⟨g,cap,t,bx,R,G,HS⟩:=hrel;have rbx:=zhh G hlt;rcases HS.out with ⟨m,j,LGh⟩|⟨p,LBh⟩
  ·obtain⟨m,rfl⟩:∃m',m=m'+1:=⟨m-1,by have:=LGh.2.2.1;omega⟩
   have hr:=LGh.2.2.2.2.2.2;have hj:=LGh.2.1;have hij:=LGh.2.2.2.2.2.1;have hz:=LGh.2.2.2.2.1;have hm1:=LGh.1;have hm2:=LGh.2.2.1;have HG:=hid LGh;by_cases hst:chr s j=42
   ·have HST:=hid hst
    have hltj:=zag (by rw[hst];decide);go_wp21;refine(zho b s j 42 _ hr (by omega) HST.out (by decide)).mono ?_;rintro e w2 ⟨rfl,h2,g2⟩;have bx2:=g2.old bx (by omega);have cb2:=zab bx2;have UC:=IH.out m (by omega) (j+1) w2.drew h2.drew hltj (by omega);have R2:=R.gb g2 (R.ne hr);have G2:=G.trans g2;go_wp21
    go_region_with (first
     |(go_at_call 70;refine UC.mono ?_;intro e w3 hp;obtain⟨g3,gv,cv,v,rfl,R3,k3⟩:=hp.parts (pt_end2 hltj);(have bx3:=g3.old (c:=w1.heap.size) (x:=w2.drew) bx2 (by omega));(have cb3:=zab bx3);(have K3:Hid (KS ty lv b s (pt s m 2 (j+1) .nil) (j+1) v w3):=k3);(have hz3:=k3.small);(have G3:=(G2.drewN 1).trans g3);(have R23:Rg g t w3:=(Rg.drew R2).gb g3 (R.ne hr));clear hp k3 UC)
     |(go_at_call 67;(have BA:CZ 67 _ w3 (zcl (tP t v) w3):=zlm 4 (.inl rfl) t v g cap gv cv w3 R23 R3 (by omega) (by omega));refine BA.mono ?_;rintro e w5 ⟨g5,cap5,rfl,R5,hg5,b5⟩;(obtain⟨T,hT⟩:∃T,T=tP t v:=⟨_,rfl⟩);(rw[<-hT] at R5 ⊢);(have HT:Hid (T=tP t v):=hT);(clear hT BA);(have bx5:=(zlo (b:=b) b5).old bx3 (by omega));(have cb5:=zab bx5);(have fb5:=zaf bx5)))
    all_goals
     have hg5b:=R5.neBox bx5;have hq3:=(z1a.1 bx3).1
     have HS5:Hid (LS ty lv b s n i T (w5.setCell ⟨w1.heap.size,0,none⟩ (sZ g5 (sz T) cap5))):=by
      rw[HT.out];exact LS.star R3.ok HST.out HG.out K3.out (λj bad r=>(r.below b5).setFar (by omega) _)
     have HM:Hid (s.size-plr b (w5.setCell ⟨w1.heap.size,0,none⟩ (sZ g5 (sz T) cap5))<s.size-plr b wr):=by
      obtain⟨q,bad,h1,h2,h3⟩:=K3.place R3.ok;unfold Hid;rw[((h3.below b5).setFar (by omega) _).plr,hr.plr];omega
     have G5:Gb b (w.alloc zar) (w5.setCell ⟨w1.heap.size,0,none⟩ (sZ g5 (sz T) cap5)):=gb_set (G3.trans (zlo b5)) (by simp;omega) _;have R6:=R5.setBox hg5b (sZ g5 (sz T) cap5);have bx6:=zad (v:=(sZ g5 (sz T) cap5)) bx5;go_wp21;go_roundw
     case rel=>exact⟨g5,cap5,T,bx6,R6,G5,HS5⟩
     case measure=>exact HM
   ·have HP:Hid (zfy s n i=.ok (t,j)):=by rw[<-HG.out.2.2.2.1];exact star_no s m j t hst
    have HST:=hid hst;by_cases hft:chr s j=62
    ·have HF:=hid (pt_fn HP.out hft)
     have HFT:=hid hft;have hltj:=zag (by rw[hft];decide);go_wp21;refine(zgv b s j 42 _ hr hj (by omega) HST.out (by decide)).mono ?_;rintro e w2 ⟨rfl,d,rfl⟩;go_wp21;refine(zho b s j 62 _ (hr.drewN d) (by omega) HFT.out (by decide)).mono ?_;rintro e w2 ⟨rfl,h2,g2⟩;have bx2:=g2.old (x:=wr.drewN d) bx (by omega);have cb2:=zab bx2;have UC:=ihT.out (j+1) w2.drew h2.drew hltj (by omega);have R2:=R.gb ((zhz d).trans g2) (R.ne hr);have G2:=(G.drewN d).trans g2;go_wp21
     go_region_with (first
      |(go_at_call 43;refine UC.mono ?_;intro e w3 hp;obtain⟨g3,gv,cv,v,rfl,R3,k3⟩:=hp.parts (zys hltj);(have bx3:=g3.old (c:=w1.heap.size) (x:=w2.drew) bx2 (by omega));(have cb3:=zab bx3);(have K3:Hid (KS ty lv b s (pt s n 0 (j+1) .nil) (j+1) v w3):=k3);(have hz3:=k3.small);(have G3:=(G2.drewN 1).trans g3);(have R23:Rg g t w3:=(Rg.drew R2).gb g3 (R.ne hr));clear hp k3 UC)
      |(go_at_call 67;(have BA:CZ 67 _ w3 (zcl (tF t v) w3):=zlm 5 (.inr rfl) t v g cap gv cv w3 R23 R3 (by omega) (by omega));refine BA.mono ?_;rintro e w5 ⟨g5,cap5,rfl,R5,hg5,b5⟩;(obtain⟨T,hT⟩:∃T,T=tF t v:=⟨_,rfl⟩);(rw[<-hT] at R5 ⊢);(have HT:Hid (T=tF t v):=hT);(clear hT BA);(have G5:=G3.trans (zlo (b:=b) b5));(have bx5:=zhh G5 hlt);(have cb5:=zab bx5);(have fb5:=zaf bx5)))
     all_goals
      go_wp21;refine zah rfl rfl (zad bx5) ?_;rw[HF.out];refine RKPost.of (zht G5 _) (R5.setBox (R5.neBox bx5) _) ?_;rw[HT.out];exact(KS.fn R3.ok hz hij K3.out).moved (λj bad r=>(r.below b5).setFar (by omega) _)
    ·have HF:=hid (pt_one HP.out hft)
     have HFT:=hid hft;go_wp21;refine(zgv b s j 42 _ hr hj (by omega) HST.out (by decide)).mono ?_;rintro e w2 ⟨rfl,d,rfl⟩;go_wp21;refine(zgv b s j 62 _ (hr.drewN d) hj (by omega) HFT.out (by decide)).mono ?_;rintro e w2 ⟨rfl,d2,rfl⟩;have cb:=zab bx;have rcb:=zab rbx;have rfb:=zaf rbx;go_wp21;refine zah rfl rfl (zad rbx) ?_;rw[HF.out];exact RKPost.of (zht (G.drewN _) _) ((R.gb (zhz (b:=b) _) (R.ne hr)).setBox (R.neBox rbx) _) ⟨rfl,hz,hj,(hr.drewN _).setFar (by omega) _⟩
  ·have hr:=LBh.2.2.2.2
   have HB:=hid LBh;have HF:=hid (pt_bad LBh.1);have cb:=zab bx;have rcb:=zab rbx;have rfb:=zaf rbx;go_wp21;refine(zff b s p p 42 _ hr).mono ?_;rintro e w2 ⟨rfl,d,rfl⟩;go_wp21;refine(zff b s p p 62 _ (hr.drewN d)).mono ?_;rintro e w2 ⟨rfl,d2,rfl⟩;go_wp21;refine zah rfl rfl (zad rbx) ?_;rw[HF.out];exact RKPost.of (zht (G.drewN _) _) ((R.gb (zhz (b:=b) _) (R.ne hr)).setBox (R.neBox rbx) _) ⟨HB.out.2.1,HB.out.2.2.1,HB.out.2.2.2.1,(hr.drewN _).setFar (by omega) _⟩
theorem zox (b:Nat) (s:ByteArray) (hs:s.size<=300000):∀n m,m<=n->zdf ty lv b s m/\zjk ty lv b s m:=by
 have zero:zdf ty lv b s 0/\zjk ty lv b s 0:=⟨λi w _ _ h0=>absurd h0 (by omega),λi w _ _ h0=>absurd h0 (by omega)⟩
 intro n
 induction n with
 |zero=>intro m hm;obtain rfl:m=0:=by omega
        exact zero
 |succ n ih=>
  intro m hm;rcases z1r m (n+1) with h|h
  ·exact ih m (by omega)
  ·obtain rfl:m=n+1:=by omega
   exact⟨rkind_step b s n (ih n (z1d n)).1 (λm hm=>(ih m hm).2) hs,runit_any b s n (ih n (z1d n)).1 hs⟩
end
end Go.Proofs.YtceadeaodbadlaaGreatDoor
namespace Go.Proofs.YtceadeaodbadlaaGreatDoor
open Go.RowKit
variable {ty : Bool}
structure Tt where
 op:Nat
 c:Nat
 a:Nat
 b:Nat
 g:Option Addr×Nat×Nat
 v:Option Addr×Nat×Nat
 p:Option Addr×Nat×Nat
 at':Nat
 tu:Nat
abbrev slV (x:Option Addr×Nat×Nat):Value:=.slice x.1 x.2.1 x.2.2
def Tt.cells (t:Tt):List Value:=[uZ t.op,uZ t.c,iZ t.a,iZ t.b,slV t.g,slV t.v,slV t.p,iZ t.at',iZ t.tu]
def zkd (ts:List Tt):List Value:=ts.flatMap Tt.cells
theorem zrf (ts us:List Tt):zkd (ts++us)=zkd ts++zkd us:=by simp[zkd]
theorem tflat_at (ts:List Tt) (k:Nat) (t:Tt) (h:ts[k]? =some t) (j:Nat) (hj:j<9):(zkd ts)[k*9+j]? =t.cells[j]?:=by
 induction ts generalizing k with
 |nil=>simp at h
 |cons u ts ih=>
  have hl:u.cells.length=9:=rfl;simp only[zkd,List.flatMap_cons]
  cases k with
  |zero=>simp at h;subst h;rw[z1t (by omega)];simp
  |succ k=>
   rw[List.getElem?_append_right (by omega),show (k+1)*9+j-u.cells.length=k*9+j by omega];exact ih k (by simpa using h)
abbrev Sg:Type:=Except Nat Nat
def gPos:Sg->Nat
 | .error p=>p
 | .ok i=>i
def gBad:Sg->Int
 | .error p=>(p:Int)
 | .ok _=>-1
def Sr (ty:Bool) (b:Nat) (s:ByteArray) (σ:Sg) (ts:List Tt) (w:World):Prop:=
 gPos σ<=s.size/\∃lv,R0 ty lv b s (gPos σ) (gBad σ) w/\w.ownsRow b 76 9 lv ts.length (zkd ts)/\lv.ownBlock≠some b/\(ts=[]->lv.ownBlock=none)
theorem R0.row {ty:Bool} {lv:Value} {b:Nat} {s:ByteArray} {i:Nat} {bad:Int} {w:World} (h:R0 ty lv b s i bad w):zay b w=lv.ownBlock:=by
 unfold zay;rw[z1f h];rfl
theorem Gb.fr {ty ty':Bool} {lv:Value} {b:Nat} {s s':ByteArray} {i i':Nat} {bad bad':Int} {w w':World} (h:R0 ty lv b s i bad w) (h':R0 ty' lv b s' i' bad' w') (g:Gb b w w'):Fr b w w':=
 ⟨g.os,g.tape,g.output,g.size,λk hk hb _=>g.block k hk (by simpa using hb),.inl (h'.row.trans h.row.symm)⟩
theorem Sr.lt {b:Nat} {s:ByteArray} {σ:Sg} {ts:List Tt} {w:World} (h:Sr ty b s σ ts w):b<w.heap.size:=by obtain⟨_,lv,h,_⟩:=h;exact h.lt
theorem Sr.drewN {b:Nat} {s:ByteArray} {σ:Sg} {ts:List Tt} {w:World} (h:Sr ty b s σ ts w) (n:Nat):Sr ty b s σ ts (w.drewN n):=h
theorem Sr.drew {b:Nat} {s:ByteArray} {σ:Sg} {ts:List Tt} {w:World} (h:Sr ty b s σ ts w):Sr ty b s σ ts w.drew:=h
theorem Sr.rowLt {b:Nat} {s:ByteArray} {σ:Sg} {ts:List Tt} {w:World} (h:Sr ty b s σ ts w) {k:Nat} (hk:zay b w=some k):k<w.heap.size:=by
 obtain⟨_,lv,h,ho,_⟩:=h;rw[h.row] at hk;exact(ho.lt k hk).2
theorem Sr.mv {b:Nat} {s:ByteArray} {σ:Sg} {ts:List Tt} {w:World} (h:Sr ty b s σ ts w):∃lv,R0 ty lv b s (gPos σ) (gBad σ) w/\
 ∀(σ':Sg) (w':World),R0 ty lv b s (gPos σ') (gBad σ') w'->Gb b w w'->gPos σ'<=s.size->Sr ty b s σ' ts w'/\Fr b w w':=by
 obtain⟨hp,lv,h0,ho,hn,he⟩:=h;exact⟨lv,h0,λσ' w' h' g hp'=>⟨⟨hp',lv,h',ho.kept g (.inr hn),hn,he⟩,Gb.fr h0 h' g⟩⟩
theorem Sr.alloc {b:Nat} {s:ByteArray} {σ:Sg} {ts:List Tt} {w:World} (h:Sr ty b s σ ts w) (o:Obj):Sr ty b s σ ts (w.alloc o):=by
 obtain⟨hp,lv,h0,ho,hn,he⟩:=h;exact⟨hp,lv,h0.alloc o,ho.alloc o,hn,he⟩
theorem Sr.setFar {b q j:Nat} {s:ByteArray} {σ:Sg} {ts:List Tt} {w:World} {u:Value} (h:Sr ty b s σ ts w) (hb:q≠b) (hr:zay b w≠some q):Sr ty b s σ ts (w.setCell ⟨q,j,none⟩ u):=by
 obtain⟨hp,lv,h0,ho,hn,he⟩:=h;refine⟨hp,lv,?_,ho.kept (zfv w q j u) (.inr (by rw[<-h0.row];exact hr)),hn,he⟩;unfold R0 at *
 rw[Below.heap_setCell _ _ _ _ (Ne.symm hb)];exact h0
def zbg (s:ByteArray) (c:Nat):Sg->Sg
 | .error p=> .error p
 | .ok i=>if chr s i=c then .ok (i+1) else .error i
def isS (s:ByteArray) (lo hi:Nat):Sg->Bool
 | .error _=>false
 | .ok i=>inR (chr s i) lo hi
def gotS (s:ByteArray) (c:Nat):Sg->Sg
 | .error p=> .error p
 | .ok i=>if chr s i=c then .ok (i+1) else .ok i
def letC (s:ByteArray):Sg->Nat
 | .error _=>0
 | .ok i=>if zaq (chr s i) then chr s i else 0
def letS (s:ByteArray):Sg->Sg
 | .error p=> .error p
 | .ok i=>if zaq (chr s i) then .ok (i+1) else .error i
def zec (s:ByteArray):Sg->Sg
 | .error p=> .error p
 | .ok i=>match pT s i with
  | .error p=> .error p
  | .ok (_,j)=> .ok j
def zuq (s:ByteArray) (σ:Sg) (u:Ty):Prop:=∀i t j,σ=.ok i->pT s i=.ok (t,j)->u=t
def ziz (s:ByteArray):Sg->Bool
 | .error _=>false
 | .ok i=>zal (chr s i)
theorem zne (b:Nat) (s:ByteArray) (c:Nat) (σ:Sg) (ts:List Tt) (w:World) (h:Sr ty b s σ ts w) (hs:s.size<=100000) (h0:1<=c):
 CZ 106 #[pZ b,uZ c] w λe w'=>e=.returned (.tuple #[])/\Sr ty b s (zbg s c σ) ts w'/\Fr b w w':=by
 obtain⟨lv,r0,mv⟩:=h.mv;have hp:=h.1
 cases σ with
 |error p=>
  refine(zrq b s p p c w r0).mono ?_;rintro e w' ⟨rfl,n,rfl⟩;exact⟨rfl,mv (.error p) _ (r0.drewN n) ((Gb.refl b w).drewN n) hp⟩
 |ok i=>
  simp only[zbg];by_cases hc:chr s i=c
  ·rw[if_pos hc]
   refine(zsw b s i c w r0 (by omega) hc h0).mono ?_;rintro e w' ⟨rfl,h1,k1⟩;exact⟨rfl,mv (.ok (i+1)) _ h1 k1 (zag (by omega))⟩
  ·rw[if_neg hc]
   refine(zyk b s i c w r0 hp (by omega) hc h0).mono ?_;rintro e w' ⟨rfl,h1,k1⟩;exact⟨rfl,mv (.error i) _ h1 k1 hp⟩
theorem sis (b:Nat) (s:ByteArray) (lo hi:Nat) (σ:Sg) (ts:List Tt) (w:World) (h:Sr ty b s σ ts w) (hs:s.size<=100000) (h0:1<=lo):
 CZ 104 #[pZ b,uZ lo,uZ hi] w λe w'=>e=.returned (.bool (isS s lo hi σ))/\∃n,w'=w.drewN n:=by
 obtain⟨lv,r0,mv⟩:=h.mv;have hp:=h.1
 cases σ with
 |error p=>exact zhr ty lv b s p p lo hi w r0
 |ok i=>exact zbr ty lv b s i lo hi w r0 hp (by omega) h0
theorem sgot (b:Nat) (s:ByteArray) (c:Nat) (σ:Sg) (ts:List Tt) (w:World) (h:Sr ty b s σ ts w) (hs:s.size<=100000) (h0:1<=c):
 CZ 71 #[pZ b,uZ c] w λe w'=>e=.returned (.bool (isS s c c σ))/\Sr ty b s (gotS s c σ) ts w'/\Fr b w w':=by
 obtain⟨lv,r0,mv⟩:=h.mv;have hp:=h.1
 cases σ with
 |error p=>
  refine(zff b s p p c w r0).mono ?_;rintro e w' ⟨rfl,n,rfl⟩;exact⟨rfl,mv (.error p) _ (r0.drewN n) ((Gb.refl b w).drewN n) hp⟩
 |ok i=>
  simp only[gotS,isS];by_cases hc:chr s i=c
  ·rw[if_pos hc,inS.2 hc]
   refine(zho b s i c w r0 (by omega) hc h0).mono ?_;rintro e w' ⟨rfl,h1,k1⟩;exact⟨rfl,mv (.ok (i+1)) _ h1 k1 (zag (by omega))⟩
  ·rw[if_neg hc,zdy hc]
   refine(zgv b s i c w r0 hp (by omega) hc h0).mono ?_;rintro e w' ⟨rfl,n,rfl⟩;exact⟨rfl,mv (.ok i) _ (r0.drewN n) ((Gb.refl b w).drewN n) hp⟩
theorem sfail (b:Nat) (s:ByteArray) (i:Nat) (ts:List Tt) (w:World) (h:Sr ty b s (.ok i) ts w):
 CZ 44 #[pZ b] w λe w'=>e=.returned (.tuple #[])/\Sr ty b s (.error i) ts w'/\Fr b w w':=by
 obtain⟨lv,r0,mv⟩:=h.mv;have hp:=h.1;refine(zhg b s i w r0).mono ?_;rintro e w' ⟨rfl,h1,k1⟩;exact⟨rfl,mv (.error i) _ h1 k1 hp⟩
theorem ztx (lv:Value) (b:Nat) (s:ByteArray) (i:Nat) (w:World) (h:R0 ty lv b s i (-1) w) (hs:s.size<=100000) (hc:zaq (chr s i)=true):
 CZ 107 #[pZ b] w λe w'=>e=.returned (.int .u8 (chr s i))/\R0 ty lv b s (i+1) (-1) w'/\Gb b w w':=by
 have hlt:i<s.size:=zag (by intro e;rw[e] at hc;exact absurd hc (by decide));have HR:Hid (inR (chr s i) 97 122=true):=hc;have c2:=h.c2;have f2:=h.fz 2;have HN:Hid (∀n,R0 ty lv b s (i+1) (-1) ((w.drewN n).setCell ⟨b,2,none⟩ (.int .i64 ((i:Int)+1)))):=h.next;have hcs:chr s i=s[i].toNat:=by simp[chr,hlt]
 have HC:Hid (chr s i=s[i].toNat):=hcs;clear hc hcs;go_enter Tryz.func107,Tryz.ntmps107;go_wp21;refine(zbr ty lv b s i 97 122 w h (by omega) (by omega) (by decide)).mono ?_;rintro e w' ⟨rfl,n,rfl⟩;rw[HR.out];have h1:=HN.out n;have c0':=h1.c0;have c2':=h1.c2;go_wp21
 go_quiet (fail)
 go_wp21;go_ret;rw[HC.out];exact⟨rfl,h1,(((Gb.refl b w).drewN n).setCell 2 _).drewN _⟩
theorem gletter_no (lv:Value) (b:Nat) (s:ByteArray) (i:Nat) (w:World) (h:R0 ty lv b s i (-1) w) (hi:i<=s.size) (hs:s.size<=100000) (hc:zaq (chr s i)=false):
 CZ 107 #[pZ b] w λe w'=>e=.returned (.int .u8 0)/\R0 ty lv b s i i w'/\Gb b w w':=by
 have HR:Hid (inR (chr s i) 97 122=false):=hc;clear hc;go_enter Tryz.func107,Tryz.ntmps107;go_wp21;refine(zbr ty lv b s i 97 122 w h hi (by omega) (by decide)).mono ?_;rintro e w' ⟨rfl,n,rfl⟩;rw[HR.out];go_wp21;refine(zhg b s i _ (h.drewN n)).mono ?_;rintro e w' ⟨rfl,h1,k1⟩;go_wp21;go_ret;exact⟨rfl,h1,((Gb.refl b w).drewN n).trans k1⟩
theorem zvx (lv:Value) (b:Nat) (s:ByteArray) (i p:Nat) (w:World) (h:R0 ty lv b s i p w):
 CZ 107 #[pZ b] w λe w'=>e=.returned (.int .u8 0)/\∃n,w'=w.drewN n:=by
 go_enter Tryz.func107,Tryz.ntmps107;go_wp21;refine(zhr ty lv b s i p 97 122 w h).mono ?_;rintro e w' ⟨rfl,n,rfl⟩;go_wp21;refine(zfu ty lv b s i p _ (h.drewN n)).mono ?_;rintro e w' ⟨rfl,rfl⟩;go_wp21;go_ret;exact⟨rfl,n,rfl⟩
theorem zqa (b:Nat) (s:ByteArray) (σ:Sg) (ts:List Tt) (w:World) (h:Sr ty b s σ ts w) (hs:s.size<=100000):
 CZ 107 #[pZ b] w λe w'=>e=.returned (.int .u8 (letC s σ:Int))/\Sr ty b s (letS s σ) ts w'/\Fr b w w':=by
 obtain⟨lv,r0,mv⟩:=h.mv;have hp:=h.1
 cases σ with
 |error p=>
  refine(zvx lv b s p p w r0).mono ?_;rintro e w' ⟨rfl,n,rfl⟩;exact⟨rfl,mv (.error p) _ (r0.drewN n) ((Gb.refl b w).drewN n) hp⟩
 |ok i=>
  simp only[letS,letC];by_cases hc:zaq (chr s i)=true
  ·rw[if_pos hc,if_pos hc]
   refine(ztx lv b s i w r0 hs hc).mono ?_;rintro e w' ⟨rfl,h1,k1⟩;exact⟨rfl,mv (.ok (i+1)) _ h1 k1 (zag (by intro e;rw[e] at hc;exact absurd hc (by decide)))⟩
  ·rw[if_neg hc,if_neg hc]
   refine(gletter_no lv b s i w r0 hp hs (by simpa using hc)).mono ?_;rintro e w' ⟨rfl,h1,k1⟩;exact⟨rfl,mv (.error i) _ h1 k1 hp⟩
theorem svariable (b:Nat) (s:ByteArray) (i:Nat) (ts:List Tt) (w:World) (h:Sr ty b s (.ok i) ts w) (hs:s.size<=100000) (hc:zaq (chr s i)=true):
 CZ 105 #[pZ b] w λe w'=>e=.returned (.int .i64 ((vnum (chr s i) (chr s (i+1))+30:Nat):Int))/\Sr ty b s (.ok (vEnd s i)) ts w'/\Fr b w w':=by
 obtain⟨lv,r0,mv⟩:=h.mv;refine(zix b s i _ _ w r0 (by omega) hc rfl rfl).mono ?_;rintro e w' ⟨rfl,h1,k1⟩;exact⟨rfl,mv (.ok (vEnd s i)) _ h1 k1 (zew hc).2⟩
end Go.Proofs.YtceadeaodbadlaaGreatDoor
namespace Go.Proofs.YtceadeaodbadlaaGreatDoor
open Go.RowKit
variable {ty : Bool} {lv : Value}
def BKPost (ty:Bool) (lv:Value) (b:Nat) (s:ByteArray) (p:Nat) (w:World) (e:Ending) (w':World):Prop:=
 Gb b w w'/\∃g cap,e=.returned (.agg #[sZ g (sz tI) cap])/\Rg g tI w'/\R0 ty lv b s p p w'
section
variable (b:Nat) (s:ByteArray) (p:Nat) (w:World)
theorem runit_bad (h:R0 ty lv b s p p w):
 CZ 70 #[pZ b] w (BKPost ty lv b s p w):=by
 have hlt:=h.lt;have LF:∀w1,CZ 40 #[.int .i64 73] w1 (zcl tI w1):=λw1=>zds 0 0 (by decide) okI w1
 go_enter Tryz.func70,Tryz.ntmps70;go_wp21;refine(zhr ty lv b s p p 97 122 _ (h.alloc zar)).mono ?_;rintro e w' ⟨rfl,d,rfl⟩;go_wp21;refine(zhr ty lv b s p p 73 73 _ ((h.alloc zar).drewN d)).mono ?_;rintro e w' ⟨rfl,d1,rfl⟩;go_wp21;refine(zhr ty lv b s p p 66 66 _ ((h.alloc zar).drewN _)).mono ?_;rintro e w' ⟨rfl,d2,rfl⟩;go_wp21;refine(zff b s p p 91 _ ((h.alloc zar).drewN _)).mono ?_;rintro e w' ⟨rfl,d3,rfl⟩;go_wp21;refine(zff b s p p 40 _ ((h.alloc zar).drewN _)).mono ?_;rintro e w' ⟨rfl,d4,rfl⟩;go_wp21;refine(zfu ty lv b s p p _ ((h.alloc zar).drewN _)).mono ?_;rintro e w1 ⟨rfl,rfl⟩;go_wp21;refine(LF _).mono ?_;rintro e w2 ⟨g2,cap2,rfl,R2,hg2,b2⟩;have G1:Gb b (w.alloc zar) w2:=((Gb.refl b (w.alloc zar)).drewN _).trans ⟨b2.os,b2.tape,b2.output,b2.size,λk hk _=>b2.block k hk⟩;have hbx:=zhh G1 hlt;have cb:=zab hbx;have fb:=zaf hbx;have R02:=((h.alloc zar).drewN _).below b2;go_wp21;refine zah rfl rfl (zad hbx) ?_;exact⟨zht G1 _,g2,cap2,rfl,R2.setBox (R2.neBox hbx) _,R02.setFar (by omega) _⟩
theorem rkind_bad (h:R0 ty lv b s p p w):
 CZ 43 #[pZ b] w (BKPost ty lv b s p w):=by
 have hlt:=h.lt;go_enter Tryz.func43,Tryz.ntmps43;go_wp21;refine(runit_bad b s p _ (h.alloc zar)).mono ?_;rintro e w1 ⟨G1,gu,cap,rfl,R1,k1⟩;have hq1:w.heap.size+1<=w1.heap.size:=by have:=G1.size;simpa using this
 have hb1:=k1.lt;go_wp21
 go_loopw [8] (λ_ wr=>wr.heap[w1.heap.size]? =some (.cells #[sZ gu (sz tI) cap] 33 (0,0))/\Rg gu tI wr/\Gb b (w.alloc zar) wr/\R0 ty lv b s p p wr) (λ_ wr=>0)
 case atStart=>exact⟨z1v w1 _,R1.alloc _,G1.alloc _,k1.alloc _⟩
 case round=>
  obtain⟨bx,R,G,hr⟩:=hrel;have rbx:=zhh G hlt;have cb:=zab bx;have rcb:=zab rbx;have rfb:=zaf rbx;go_wp21;refine(zff b s p p 42 _ hr).mono ?_;rintro e w2 ⟨rfl,d,rfl⟩;go_wp21;refine(zff b s p p 62 _ (hr.drewN d)).mono ?_;rintro e w2 ⟨rfl,d2,rfl⟩;go_wp21;refine zah rfl rfl (zad rbx) ?_;exact⟨zht (G.drewN _) _,gu,cap,rfl,(R.gb (zhz (b:=b) _) (R.ne hr)).setBox (R.neBox rbx) _,(hr.drewN _).setFar (by omega) _⟩
theorem skind (b:Nat) (s:ByteArray) (σ:Sg) (ts:List Tt) (w:World) (h:Sr true b s σ ts w) (hs:s.size<=60000):
 CZ 43 #[pZ b] w λe w'=>∃g cap u,e=.returned (.agg #[sZ g (sz u) cap])/\Rg g u w'/\sz u<=s.size+1/\zuq s σ u/\Sr true b s (zec s σ) ts w'/\Fr b w w':=by
 obtain⟨lv,r0,mv⟩:=h.mv;have hp:=h.1
 cases σ with
 |error p=>
  refine(rkind_bad b s p w r0).mono ?_;rintro e w' ⟨G,g,cap,rfl,R,k⟩;exact⟨g,cap,tI,rfl,R,by show 1<=_;omega,(λi t j hi=>by cases hi),mv (.error p) _ k G hp⟩
 |ok i=>
  have hE:zdf true lv b s (3*s.size+3):=(zox b s (by omega) (3*s.size+3) _ (z1d _)).1;refine(hE i w r0 hp (by omega)).mono ?_;intro e w' hq;have hpl:∀t j,pT s i=.ok (t,j)->j<=s.size:=λt j e=>(zdw e hp).2.1
  obtain⟨G,hq⟩:=hq;simp only[zec];unfold pT at *
  cases hr:pt s (3*s.size+3) 0 i .nil with
  |error p=>
   rw[hr] at hq;obtain⟨g,cap,u,rfl,R,z1,z2,z3,k⟩:=hq;exact⟨g,cap,u,rfl,R,by omega,(λi' t j hi hq'=>by cases hi;unfold pT at hq';rw[hr] at hq';cases hq'),mv (.error p) _ k G z3⟩
  |ok r=>
   obtain⟨t,j⟩:=r;rw[hr] at hq;obtain⟨g,cap,rfl,R,z1,k⟩:=hq;have hj:=hpl t j hr;exact⟨g,cap,t,rfl,R,by omega,(λi' t' j' hi hq'=>by cases hi;unfold pT at hq';rw[hr] at hq';cases hq';rfl),mv (.ok j) _ k G hj⟩
end
end Go.Proofs.YtceadeaodbadlaaGreatDoor
namespace Go.Proofs.YtceadeaodbadlaaGreatDoor
open Go.RowKit
variable {ty : Bool}
variable {lv : Value}
section
variable (b:Nat) (s:ByteArray) (i:Nat) (w:World)
theorem zcg (c:Nat) (w:World):
 CZ 108 #[uZ c] w λe w'=>∃x y,e=.returned (.tuple #[.string x,.string y,.bool (zdi c)])/\w'=w:=by
 by_cases h78:c=78
 ·subst h78
  go_enter Tryz.func108,Tryz.ntmps108;go_wp2;go_ret3;exact⟨_,_,rfl,rfl⟩
 have e78:((c:Int)==78)=false:=by rw[beq_eq_false_iff_ne];omega
 by_cases h67:c=67
 ·subst h67
  go_enter Tryz.func108,Tryz.ntmps108;go_wp2;go_ret3;exact⟨_,_,rfl,rfl⟩
 have e67:((c:Int)==67)=false:=by rw[beq_eq_false_iff_ne];omega
 by_cases h80:c=80
 ·subst h80
  go_enter Tryz.func108,Tryz.ntmps108;go_wp2;go_ret3;exact⟨_,_,rfl,rfl⟩
 have e80:((c:Int)==80)=false:=by rw[beq_eq_false_iff_ne];omega
 by_cases h76:c=76
 ·subst h76
  go_enter Tryz.func108,Tryz.ntmps108;go_wp2;go_ret3;exact⟨_,_,rfl,rfl⟩
 have e76:((c:Int)==76)=false:=by rw[beq_eq_false_iff_ne];omega
 by_cases h82:c=82
 ·subst h82
  go_enter Tryz.func108,Tryz.ntmps108;go_wp2;go_ret3;exact⟨_,_,rfl,rfl⟩
 have e82:((c:Int)==82)=false:=by rw[beq_eq_false_iff_ne];omega
 by_cases h74:c=74
 ·subst h74
  go_enter Tryz.func108,Tryz.ntmps108;go_wp2;go_ret3;exact⟨_,_,rfl,rfl⟩
 have e74:((c:Int)==74)=false:=by rw[beq_eq_false_iff_ne];omega
 by_cases h69:c=69
 ·subst h69
  go_enter Tryz.func108,Tryz.ntmps108;go_wp2;go_ret3;exact⟨_,_,rfl,rfl⟩
 have e69:((c:Int)==69)=false:=by rw[beq_eq_false_iff_ne];omega
 by_cases h65:c=65
 ·subst h65
  go_enter Tryz.func108,Tryz.ntmps108;go_wp2;go_ret3;exact⟨_,_,rfl,rfl⟩
 have e65:((c:Int)==65)=false:=by rw[beq_eq_false_iff_ne];omega
 by_cases h89:c=89
 ·subst h89
  go_enter Tryz.func108,Tryz.ntmps108;go_wp2;go_ret3;exact⟨_,_,rfl,rfl⟩
 have e89:((c:Int)==89)=false:=by rw[beq_eq_false_iff_ne];omega
 by_cases h68:c=68
 ·subst h68
  go_enter Tryz.func108,Tryz.ntmps108;go_wp2;go_ret3;exact⟨_,_,rfl,rfl⟩
 have e68:((c:Int)==68)=false:=by rw[beq_eq_false_iff_ne];omega
 have hr:zdi c=false:=by simp[zdi];omega
 rw[hr];go_enter Tryz.func108,Tryz.ntmps108;go_wp2;go_ret3;exact⟨_,_,rfl,rfl⟩
theorem zvv (b:Nat) (s:ByteArray) (i p:Nat) (w:World) (h:R0 ty lv b s i p w):
 CZ 77 #[pZ b] w λe w'=>e=.returned (.bool false)/\∃n,w'=w.drewN n:=by
 have h3:=h.c3;have hd:decide ((0:Int)<=(p:Int))=true:=by simp
 go_enter Tryz.func77,Tryz.ntmps77;go_wp2
 go_quiet (fail)
 go_wp2;go_ret;exact⟨rfl,_,rfl⟩
theorem zvk (h:R0 ty lv b s s.size (-1) w):
 CZ 77 #[pZ b] w λe w'=>e=.returned (.bool false)/\∃n,w'=w.drewN n:=by
 have h0:=h.c0;have h2:=h.c2;have h3:=h.c3;go_enter Tryz.func77,Tryz.ntmps77;go_wp2
 go_quiet (fail)
 go_wp2;go_ret;exact⟨rfl,_,rfl⟩
theorem tstarts_in (h:R0 ty lv b s i (-1) w) (hlt:i<s.size) (hs:s.size<=100000):
 CZ 77 #[pZ b] w λe w'=>e=.returned (.bool (zal (chr s i)))/\∃n,w'=w.drewN n:=by
 have h0:=h.c0;have h2:=h.c2;have h3:=h.c3;have hd:decide ((s.size:Int)<=(i:Int))=false:=by simp;omega
 have hd':decide (s.size<=i)=false:=by simp;omega
 have hcs:chr s i=s[i].toNat:=by simp[chr,hlt]
 rw[hcs];have hl:=s[i].toNat_lt;generalize hg:s[i].toNat=c at *
 cases hcon:zdi c
 ·have HC:=hid hcon
  by_cases h1:97<=c/\c<=122
  ·have HB:Hid (zal c=true):=by unfold Hid;simp[zal,zaq,h1.1,h1.2]
   have d1:decide ((97:Int)<=(c:Int))=true:=by simp;omega
   have d2:decide ((c:Int)<=122)=true:=by simp;omega
   go_enter Tryz.func77,Tryz.ntmps77;go_wp21
   go_quiet (fail)
   go_wp21
   go_quiet (fail)
   go_wp21;refine(zcg c _).mono ?_;rintro e w' ⟨x,y,rfl,rfl⟩;rw[HC.out];go_wp21;go_ret;exact⟨by rw[HB.out];first|rfl|simp,_,rfl⟩
  by_cases h2:48<=c/\c<=57
  ·have HB:Hid (zal c=true):=by unfold Hid;simp[zal,zcs,h2.1,h2.2]
   have d1:decide ((97:Int)<=(c:Int))=false:=by simp;omega
   have d3:decide ((48:Int)<=(c:Int))=true:=by simp;omega
   have d4:decide ((c:Int)<=57)=true:=by simp;omega
   go_enter Tryz.func77,Tryz.ntmps77;go_wp21
   go_quiet (fail)
   go_wp21
   go_quiet (fail)
   go_wp21;refine(zcg c _).mono ?_;rintro e w' ⟨x,y,rfl,rfl⟩;rw[HC.out];go_wp21;go_ret;exact⟨by rw[HB.out];first|rfl|simp,_,rfl⟩
  by_cases h84:c=84
  ·have HB:Hid (zal c=true):=by unfold Hid;simp[zal,zcs,h84]
   have HC':=hid HC;subst h84;go_enter Tryz.func77,Tryz.ntmps77;go_wp21
   go_quiet (fail)
   go_wp21
   go_quiet (fail)
   go_wp21;refine(zcg 84 _).mono ?_;rintro e w' ⟨x,y,rfl,rfl⟩;rw[HC.out];go_wp21;go_ret;exact⟨by rw[HB.out];first|rfl|simp,_,rfl⟩
  by_cases h70:c=70
  ·have HB:Hid (zal c=true):=by unfold Hid;simp[zal,zcs,h70]
   have HC':=hid HC;subst h70;go_enter Tryz.func77,Tryz.ntmps77;go_wp21
   go_quiet (fail)
   go_wp21
   go_quiet (fail)
   go_wp21;refine(zcg 70 _).mono ?_;rintro e w' ⟨x,y,rfl,rfl⟩;rw[HC.out];go_wp21;go_ret;exact⟨by rw[HB.out];first|rfl|simp,_,rfl⟩
  by_cases h40:c=40
  ·have HB:Hid (zal c=true):=by unfold Hid;simp[zal,zcs,h40]
   have HC':=hid HC;subst h40;go_enter Tryz.func77,Tryz.ntmps77;go_wp21
   go_quiet (fail)
   go_wp21
   go_quiet (fail)
   go_wp21;refine(zcg 40 _).mono ?_;rintro e w' ⟨x,y,rfl,rfl⟩;rw[HC.out];go_wp21;go_ret;exact⟨by rw[HB.out];first|rfl|simp,_,rfl⟩
  have HB:Hid (zal c=false):=by unfold Hid;simp[zal,zaq,zcs,hcon];omega
  have d5:((c:Int)==84)=false:=by rw[beq_eq_false_iff_ne];omega
  have d6:((c:Int)==70)=false:=by rw[beq_eq_false_iff_ne];omega
  have d7:((c:Int)==40)=false:=by rw[beq_eq_false_iff_ne];omega
  by_cases h3:97<=c
  ·have d1:decide ((97:Int)<=(c:Int))=true:=by simp;omega
   have d2:decide ((c:Int)<=122)=false:=by simp;omega
   have d3:decide ((48:Int)<=(c:Int))=true:=by simp;omega
   have d4:decide ((c:Int)<=57)=false:=by simp;omega
   go_enter Tryz.func77,Tryz.ntmps77;go_wp21
   go_quiet (fail)
   go_wp21
   go_quiet (fail)
   go_wp21;refine(zcg c _).mono ?_;rintro e w' ⟨x,y,rfl,rfl⟩;rw[HC.out];go_wp21;go_ret;exact⟨by rw[HB.out];first|rfl|simp,_,rfl⟩
  ·have d1:decide ((97:Int)<=(c:Int))=false:=by simp;omega
   by_cases h4:48<=c
   ·have d3:decide ((48:Int)<=(c:Int))=true:=by simp;omega
    have d4:decide ((c:Int)<=57)=false:=by simp;omega
    go_enter Tryz.func77,Tryz.ntmps77;go_wp21
    go_quiet (fail)
    go_wp21
    go_quiet (fail)
    go_wp21;refine(zcg c _).mono ?_;rintro e w' ⟨x,y,rfl,rfl⟩;rw[HC.out];go_wp21;go_ret;exact⟨by rw[HB.out];first|rfl|simp,_,rfl⟩
   ·have d3:decide ((48:Int)<=(c:Int))=false:=by simp;omega
    go_enter Tryz.func77,Tryz.ntmps77;go_wp21
    go_quiet (fail)
    go_wp21
    go_quiet (fail)
    go_wp21;refine(zcg c _).mono ?_;rintro e w' ⟨x,y,rfl,rfl⟩;rw[HC.out];go_wp21;go_ret;exact⟨by rw[HB.out];first|rfl|simp,_,rfl⟩
 ·have HC:=hid hcon
  have HB:Hid (zal c=true):=by unfold Hid;simp[zal,hcon]
  go_enter Tryz.func77,Tryz.ntmps77;go_wp21
  go_quiet (fail)
  go_wp21
  go_quiet (fail)
  go_wp21;refine(zcg c _).mono ?_;rintro e w' ⟨x,y,rfl,rfl⟩;rw[HC.out];go_wp21;go_ret;exact⟨by rw[HB.out];first|rfl|simp,_,rfl⟩
theorem zfk (b:Nat) (s:ByteArray) (σ:Sg) (ts:List Tt) (w:World) (h:Sr ty b s σ ts w) (hs:s.size<=100000):
 CZ 77 #[pZ b] w λe w'=>e=.returned (.bool (ziz s σ))/\∃n,w'=w.drewN n:=by
 obtain⟨lv,r0,mv⟩:=h.mv;have hp:=h.1
 cases σ with
 |error p=>exact zvv b s p p w r0
 |ok i=>
  show Calls _ _ _ _ λe w'=>e=.returned (.bool (zal (chr s i)))/\∃n,w'=w.drewN n
  by_cases hlt:i<s.size
  ·exact tstarts_in b s i w r0 hlt hs
  ·obtain rfl:i=s.size:=Nat.le_antisymm hp (by omega)
   have:zal (chr s s.size)=false:=by simp[chr];decide
   rw[this];exact zvk b s w r0
end
end Go.Proofs.YtceadeaodbadlaaGreatDoor
namespace Go.Proofs.YtceadeaodbadlaaGreatDoor
open Go.RowKit
variable {ty : Bool}
section
variable {cs:Array Value} {b j:Nat} {A A':Obj} {T:TypeId} {w w1:World}
theorem tinfoTerm:(Tryz.prog.info? 76).map (λi=>(i.zero,i.size,i.bytes))=some (some (.agg #[.int .u8 0,.int .u8 0,.int .i64 0,.int .i64 0,.slice none 0 0,.slice none 0 0,.slice none 0 0,.int .i64 0,.int .i64 0]),9,112):=by kernel_rfl
theorem zmz {row:Option Nat} {o:Obj} (hg:((w.alloc A).alloc A').drew.grownBy w1 row) (hb:w.heap[b]? =some o) (hne:row≠some b):w1.heap[b]? =some o:=by
 have hlt:=(z1a.1 hb).1;rw[hg.block b (by show b<((w.alloc A).alloc A').heap.size;simp;omega) (Ne.symm hne)];show ((w.alloc A).alloc A').heap[b]? =some o;rw[Below.heap_alloc _ _ _ (by simp;omega),Below.heap_alloc _ _ _ hlt];exact hb
theorem zjh {fz:Nat×Nat} (hb:w.heap[b]? =some (.cells cs T fz)):w.cell? ⟨b,j,none⟩=cs[j]?:=by simp[World.cell?,hb]
theorem zit (hb:w.heap[b]? =some (.cells cs T (0,0))):w.frozen? ⟨b,j,none⟩=false:=by simp[World.frozen?,hb]
theorem tadd_state {s:ByteArray} {σ:Sg} {ts:List Tt} {v:Value} {gg cap:Nat} {t:Tt} (hp:gPos σ<=s.size) (h:R0 ty v b s (gPos σ) (gBad σ) w) (hne:v.ownBlock≠some b) (hown1:w1.ownsRow b 76 9 (sZ gg (ts.length+1) cap) (ts.length+1) (zkd ts++t.cells)) (hgrow:((w.alloc A).alloc A').drew.grownBy w1 v.ownBlock) (hat:v.ownBlock=some gg\/gg=w.heap.size+2):
 Sr ty b s σ (ts++[t]) (w1.setCell ⟨b,4,none⟩ (sZ gg (ts.length+1) cap))/\Fr b w (w1.setCell ⟨b,4,none⟩ (sZ gg (ts.length+1) cap)):=by
 have hlt:=h.lt;have hb1:=zmz hgrow h hne
 have hgb:gg≠b:=by
  rcases hat with e|e
  ·intro e';exact hne (by rw[e,e'])
  ·omega
 have hst:R0 ty (sZ gg (ts.length+1) cap) b s (gPos σ) (gBad σ) (w1.setCell ⟨b,4,none⟩ (sZ gg (ts.length+1) cap)):=by
  unfold R0;simp[World.setCell,z1i,hb1]
 refine⟨⟨hp,_,hst,?_,by simp[Value.ownBlock,hgb],λe=>by simp at e⟩,hgrow.os,hgrow.tape,hgrow.output,?_,λk hk hkb hkr=>?_,?_⟩
 ·have e1:zkd (ts++[t])=zkd ts++t.cells:=by rw[zrf];simp[zkd]
  rw[e1,z1l];exact hown1.kept (zfv w1 b 4 _) (.inr (by simp[Value.ownBlock,hgb]))
 ·have:=hgrow.size
  have e:((w.alloc A).alloc A').drew.heap.size=w.heap.size+2:=by show ((w.alloc A).alloc A').heap.size=_;simp
  simp only[World.setCell,Array.size_modify];omega
 ·rw[Below.heap_setCell _ _ _ _ hkb]
  rw[h.row] at hkr;rw[hgrow.block k (by show k<((w.alloc A).alloc A').heap.size;simp;omega) hkr];show ((w.alloc A).alloc A').heap[k]? =_;rw[Below.heap_alloc _ _ _ (by simp;omega),Below.heap_alloc _ _ _ hk]
 ·rw[hst.row,h.row]
  rcases hat with e|e
  ·exact .inl e.symm
  ·exact .inr ⟨gg,rfl,by omega⟩
abbrev ttA (op c a b:Nat) (ga va pa:Option Addr) (gn gc vn vc pn pc at' tu:Nat):Array Value:=#[uZ op,uZ c,iZ a,iZ b,.slice ga gn gc,.slice va vn vc,.slice pa pn pc,iZ at',iZ tu]
abbrev ttO (op c a b:Nat) (ga va pa:Option Addr) (gn gc vn vc pn pc at' tu:Nat):Obj:=.cells (ttA op c a b ga va pa gn gc vn vc pn pc at' tu) 76
theorem tadd_raw (b:Nat) (s:ByteArray) (σ:Sg) (ts:List Tt) (v:Value) (w:World) (op c ta tb:Nat) (ga va pa:Option Addr) (gn gc vn vc pn pc tat tto:Nat) (hp:gPos σ<=s.size) (h:R0 ty v b s (gPos σ) (gBad σ) w) (hown:w.ownsRow b 76 9 v ts.length (zkd ts)) (hne:v.ownBlock≠some b) (hn:ts.length<=1000000):
 CZ 73 #[pZ b,.agg (ttA op c ta tb ga va pa gn gc vn vc pn pc tat tto)] w
  λe w'=>e=.returned (iZ ts.length)/\Sr ty b s σ (ts++[⟨op,c,ta,tb,(ga,gn,gc),(va,vn,vc),(pa,pn,pc),tat,tto⟩]) w'/\Fr b w w':=by
 obtain⟨i0,hi0,hz0,hz1,hz2⟩:=info_parts tinfoTerm;have c4:cZ w b 4 v:=cbl h;have lg:=World.block_lt_of_cell? w _ c4
 have hnb:((w.alloc (ttO op c ta tb ga va pa gn gc vn vc pn pc tat tto)).alloc (ttO op c ta tb ga va pa gn gc vn vc pn pc tat tto)).drew.heap[w.heap.size+1]? =some (.cells (ttA op c ta tb ga va pa gn gc vn vc pn pc tat tto) 76 (0,0)):=by
  have e1:(w.alloc (ttO op c ta tb ga va pa gn gc vn vc pn pc tat tto)).heap.size=w.heap.size+1:=by simp
  rw[<-e1];exact z1v (w.alloc (ttO op c ta tb ga va pa gn gc vn vc pn pc tat tto)) (ttO op c ta tb ga va pa gn gc vn vc pn pc tat tto)
 have hnews:=z1x hnb;have HN:=hid hnews;go_enter Tryz.func73,Tryz.ntmps73;go_wp21
 go_region_law ((refine step_append_lies _ (by rfl) _ _ _ (by rfl) b 76 i0 _ 9 112 Tryz.underlying43 hi0 hz0 hz1 hz2 rfl (by omega) v ts.length (zkd ts) (by rfl) (((hown.alloc _).alloc _).drew) ⟨w.heap.size+1,0,none⟩ 1 1 (Tt.cells ⟨op,c,ta,tb,(ga,gn,gc),(va,vn,vc),(pa,pn,pc),tat,tto⟩) (by rfl) (by rfl) HN.out (by simp[Value.oneCell',Tt.cells]) (by omega) (by unfold maxLen;omega) (by omega) (by simp;omega) (w.heap.size+2) (by simp) ?_;intro gg cap w1 hown1 hgrow hat hlt;have k4:cZ w1 b 4 v:=(zjh (zmz hgrow h hne));have kf:w1.frozen? ⟨b,4,none⟩=false:=zit (zmz hgrow h hne)))
 all_goals
  go_wp2;go_ret;exact⟨by simp,tadd_state hp h hne hown1 hgrow hat⟩
theorem tadd (b:Nat) (s:ByteArray) (σ:Sg) (ts:List Tt) (w:World) (op c ta tb:Nat) (ga va pa:Option Addr) (gn gc vn vc pn pc tat tto:Nat) (h:Sr ty b s σ ts w) (hn:ts.length<=1000000):
 CZ 73 #[pZ b,.agg (ttA op c ta tb ga va pa gn gc vn vc pn pc tat tto)] w
  λe w'=>e=.returned (iZ ts.length)/\Sr ty b s σ (ts++[⟨op,c,ta,tb,(ga,gn,gc),(va,vn,vc),(pa,pn,pc),tat,tto⟩]) w'/\Fr b w w':=by
 obtain⟨hp,v,h0,ho,hne,he⟩:=h;exact tadd_raw b s σ ts v w op c ta tb ga va pa gn gc vn vc pn pc tat tto hp h0 ho hne hn
end
section
variable {s:ByteArray} {x:Ex} {ts:List Tt} {k b g q:Nat} {σ:Sg} {V u:Value} {w w':World} (j:Nat)
theorem zli (g j:Nat):(⟨g,0,none⟩:Addr).add j=⟨g,j,none⟩:=by unfold Addr.add;split<;>simp_all
def Sd (w:World) (ts:List Tt):Ex->Nat->Prop
 | .nil,_=>False
 | .node t _ x a b,k=>∃u,ts[k]? =some u/\
  ((t<=1/\u.op=120/\u.c=x.c/\u.at'=x.p/\Ls w (slV u.g) x.g)\/
   (t=2/\u.op=48/\u.c=x.c)\/
   (t=3/\u.op=92/\u.c=x.c/\u.at'=x.p/\Ls w (slV u.g) x.g/\u.a<k/\Sd w ts a u.a)\/
   (t=4/\u.op=64/\(u.c=x.c/\u.v.2.1<=u.v.2.2)/\Is w (slV u.v) (x.v.map (·.1+30))/\Is w (slV u.p) (x.v.map (·.2))/\u.a<k/\u.b<k/\Sd w ts a u.a/\Sd w ts b u.b)\/
   (t=5/\u.op=99/\(u.c=0/\u.tu=x.p)/\u.a<k/\u.b<k/\Sd w ts a u.a/\Sd w ts b u.b))
theorem Sd.more (us:List Tt):∀{x:Ex} {k:Nat},Sd w ts x k->Sd w (ts++us) x k:=by
 intro x
 induction x with
 |nil=>intro k h;exact h
 |node t o x a b iha ihb=>
  rintro k ⟨u,hu,h⟩;refine⟨u,by rw[z1t (z1b.1 hu).1];exact hu,?_⟩;rcases h with h|h|⟨h1,h2,h3,h4,h5,h6,h7⟩|⟨h1,h2,h3,h4,h5,h6,h7,h8,h9⟩|⟨h1,h2,h3,h4,h5,h6,h7⟩
  ·exact .inl h
  ·exact .inr (.inl h)
  ·exact .inr (.inr (.inl ⟨h1,h2,h3,h4,h5,h6,iha h7⟩))
  ·exact .inr (.inr (.inr (.inl ⟨h1,h2,h3,h4,h5,h6,h7,iha h8,ihb h9⟩)))
  ·exact .inr (.inr (.inr (.inr ⟨h1,h2,h3,h4,h5,iha h6,ihb h7⟩)))
theorem Sd.kept (hi:∀V l,Is w V l->Is w' V l) (hl:∀V l,Ls w V l->Ls w' V l):∀{x:Ex} {k:Nat},Sd w ts x k->Sd w' ts x k:=by
 intro x
 induction x with
 |nil=>intro k h;exact h
 |node t o x a b iha ihb=>
  rintro k ⟨u,hu,h⟩;refine⟨u,hu,?_⟩;rcases h with ⟨h1,h2,h3,h4,h5⟩|h|⟨h1,h2,h3,h4,h5,h6,h7⟩|⟨h1,h2,h3,h4,h5,h6,h7,h8,h9⟩|⟨h1,h2,h3,h4,h5,h6,h7⟩
  ·exact .inl ⟨h1,h2,h3,h4,hl _ _ h5⟩
  ·exact .inr (.inl h)
  ·exact .inr (.inr (.inl ⟨h1,h2,h3,h4,hl _ _ h5,h6,iha h7⟩))
  ·exact .inr (.inr (.inr (.inl ⟨h1,h2,h3,hi _ _ h4,hi _ _ h5,h6,h7,iha h8,ihb h9⟩)))
  ·exact .inr (.inr (.inr (.inr ⟨h1,h2,h3,h4,h5,iha h6,ihb h7⟩)))
theorem Sd.lt (h:Sd w ts x k):k<ts.length:=by
 cases x with
 |nil=>exact h.elim
 |node t o x a b=>obtain⟨u,hu,_⟩:=h;exact(z1b.1 hu).1
theorem Sr.apart {v:Value} (h:Sr ty b s σ ts w) (hc:w.cell? ⟨g,0,none⟩=some v) (h1:∀x,v≠ .string x) (h2:∀z,v≠ .int .u8 z):g≠b/\some g≠zay b w:=by
 obtain⟨_,lv,h0,ho,hn,he⟩:=h;refine⟨?_,?_⟩
 ·rintro rfl
  rw[h0.c0] at hc;exact h1 _ (z1q hc).symm
 ·intro e
  rw[h0.row] at e
  cases ts with
  |nil=>rw[he rfl] at e;cases e
  |cons t ts=>
   have:=ho.cells e.symm 0 (uZ t.op) rfl;rw[show (⟨g,0,none⟩:Addr).add 0=⟨g,0,none⟩ from rfl,hc] at this;exact h2 _ (z1q this)
theorem Fr.at (F:Fr b w w') (hl:g<w.heap.size) (h:g≠b/\some g≠zay b w) (j:Nat):w'.cell? ⟨g,j,none⟩=w.cell? ⟨g,j,none⟩:=z1s (w:=w) (a:=⟨g,j,none⟩) (F.block g hl h.1 h.2)
theorem Rg.fr {t:Ty} (h:Rg g t w) (hS:Sr ty b s σ ts w) (F:Fr b w w'):Rg g t w':=by
 have hp:=zaw h.ok;obtain⟨n,hn⟩:∃n,(nd t 0)[0]? =some n:=⟨_,z1h (by rw[zaj];omega)⟩
 have hc:=(h.cell 0 n hn).1;rw[Nat.zero_mul] at hc;have ha:=hS.apart hc (by simp) (by simp);exact⟨h.ok,z1e h.lt F.size,λk n hk=>by rw[F.at h.lt ha,F.at h.lt ha,F.at h.lt ha];exact h.cell k n hk⟩
theorem Is.fr {l:List Nat} (h:Is w V l) (hS:Sr ty b s σ ts w) (F:Fr b w w'):Is w' V l:=by
 obtain⟨a,cap,rfl,h⟩:=h;refine⟨a,cap,rfl,?_⟩;rcases h with h|⟨g,rfl,hg,hc⟩
 ·exact .inl h
 ·cases l with
  |nil=>exact .inl rfl
  |cons n l=>
   have ha:=hS.apart (hc 0 n rfl) (by simp) (by simp);exact .inr ⟨g,rfl,z1e hg F.size,λk m hk=>(F.at hg ha k).trans (hc k m hk)⟩
theorem Ls.fr {l:List Ty} (h:Ls w V l) (hS:Sr ty b s σ ts w) (F:Fr b w w'):Ls w' V l:=by
 obtain⟨a,cap,rfl,h⟩:=h;refine⟨a,cap,rfl,?_⟩;rcases h with h|⟨g,rfl,hg,hc⟩
 ·exact .inl h
 ·cases l with
  |nil=>exact .inl rfl
  |cons n l=>
   obtain⟨h',c',hc',_⟩:=hc 0 n rfl;have ha:=hS.apart hc' (by simp) (by simp);refine .inr ⟨g,rfl,z1e hg F.size,λk m hk=>?_⟩;obtain⟨h',c',e1,e2⟩:=hc k m hk;exact⟨h',c',(F.at hg ha k).trans e1,e2.fr hS F⟩
theorem Sd.fr {us:List Tt} (h:Sd w us x k) (hS:Sr ty b s σ ts w) (F:Fr b w w'):Sd w' us x k:=h.kept (λ_ _ h=>h.fr hS F) (λ_ _ h=>h.fr hS F)
def Bt (q:Nat) (t:Tt) (w:World):Prop:=w.heap[q]? =some (.cells #[uZ t.op,uZ t.c,iZ t.a,iZ t.b,slV t.g,slV t.v,slV t.p,iZ t.at',iZ t.tu] 76 (0,0))
theorem Bt.lt {t:Tt} (h:Bt q t w):q<w.heap.size:=(z1a.1 h).1
theorem Bt.fr {t:Tt} (h:Bt q t w) (k:Fr b w w') (hb:q≠b) (hr:zay b w≠some q):Bt q t w':=by
 unfold Bt at *
 rw[k.block q (z1a.1 h).1 hb (Ne.symm hr)];exact h
theorem Fr.rowNe' (k:Fr b w w') (hr:zay b w≠some q) (hq:q<w.heap.size):zay b w'≠some q:=by
 rcases k.row with e|⟨m,e,hm⟩
 ·rw[e];exact hr
 ·rw[e];simp;omega
theorem Bt.c {t:Tt} (h:Bt q t w):w.cell? ⟨q,j,none⟩=#[Value.int .u8 (t.op:Int),uZ t.c,iZ t.a,iZ t.b,slV t.g,slV t.v,slV t.p,iZ t.at',iZ t.tu][j]?:=by
 unfold Bt at h;simp[World.cell?,h]
theorem Bt.fz {t:Tt} (h:Bt q t w) (j:Nat):w.frozen? ⟨q,j,none⟩=false:=by
 unfold Bt at h;simp[World.frozen?,h]
theorem Bt.setC {t:Tt} (h:Bt q t w) (c:Nat):Bt q {t with c:=c} (w.setCell ⟨q,1,none⟩ (uZ c)):=by
 unfold Bt at *;simp[World.setCell,z1i,h]
theorem Bt.setA {t:Tt} (h:Bt q t w) (a:Nat):Bt q {t with a:=a} (w.setCell ⟨q,2,none⟩ (iZ a)):=by
 unfold Bt at *;simp[World.setCell,z1i,h]
theorem Bt.setB {t:Tt} (h:Bt q t w) (a:Nat):Bt q {t with b:=a} (w.setCell ⟨q,3,none⟩ (iZ a)):=by
 unfold Bt at *;simp[World.setCell,z1i,h]
theorem Bt.setG {t:Tt} (h:Bt q t w) (a:Option Addr) (n c:Nat):Bt q {t with g:=(a,n,c)} (w.setCell ⟨q,4,none⟩ (.slice a n c)):=by
 unfold Bt at *;simp[World.setCell,z1i,h]
theorem Bt.setV {t:Tt} (h:Bt q t w) (a:Option Addr) (n c:Nat):Bt q {t with v:=(a,n,c)} (w.setCell ⟨q,5,none⟩ (.slice a n c)):=by
 unfold Bt at *;simp[World.setCell,z1i,h]
theorem Bt.setP {t:Tt} (h:Bt q t w) (a:Option Addr) (n c:Nat):Bt q {t with p:=(a,n,c)} (w.setCell ⟨q,6,none⟩ (.slice a n c)):=by
 unfold Bt at *;simp[World.setCell,z1i,h]
theorem Fr.setNew' {j:Nat} (h:Fr b w w') (hb:q≠b) (hq:w.heap.size<=q):Fr b w (w'.setCell ⟨q,j,none⟩ u):=by
 refine⟨h.os,h.tape,h.output,by simp only[World.setCell,Array.size_modify];exact h.size,λk hk hkb hkr=>?_,?_⟩
 ·rw[Below.heap_setCell _ _ _ _ (by show k≠q;omega)];exact h.block k hk hkb hkr
 ·rw[zrx (a:=⟨q,j,none⟩) rfl hb];exact h.row
theorem Sr.rowNew (h:Sr ty b s σ ts w) (o:Obj):zay b (w.alloc o)≠some w.heap.size:=by
 rw[zmy o h.lt];intro e;have:=h.rowLt e;omega
theorem zbw {j:Nat} (hb:q≠b) (hr:zay b w≠some q):zay b (w.setCell ⟨q,j,none⟩ u)≠some q:=by
 rw[zrx (a:=⟨q,j,none⟩) rfl hb];exact hr
theorem Bt.all {t : Tt} (h : Bt q t w):
    w.cell? ⟨q, 0, none⟩ = some (.int .u8 (t.op : Int)) ∧ w.cell? ⟨q, 1, none⟩ = some (.int .u8 (t.c : Int)) ∧ w.cell? ⟨q, 2, none⟩ = some (.int .i64 (t.a : Int)) ∧ w.cell? ⟨q, 3, none⟩ = some (.int .i64 (t.b : Int)) ∧
    w.cell? ⟨q, 4, none⟩ = some (slV t.g) ∧ w.cell? ⟨q, 5, none⟩ = some (slV t.v) ∧ w.cell? ⟨q, 6, none⟩ = some (slV t.p) ∧ w.cell? ⟨q, 7, none⟩ = some (.int .i64 (t.at' : Int)) ∧ w.cell? ⟨q, 8, none⟩ = some (.int .i64 (t.tu : Int)) :=
  ⟨h.c 0, h.c 1, h.c 2, h.c 3, h.c 4, h.c 5, h.c 6, h.c 7, h.c 8⟩
end
end Go.Proofs.YtceadeaodbadlaaGreatDoor
namespace Go.Proofs.YtceadeaodbadlaaGreatDoor
open Go.RowKit
structure Se where
 c:Nat
 t:Ty
 o:List Nat
 h:Nat
 cp:Nat
 v:Option Addr×Nat×Nat
def Se.cells (x:Se):List Value:=[uZ x.c,sZ x.h (sz x.t) x.cp,slV x.v]
def zcc (st:List Se):List Value:=st.flatMap Se.cells
theorem zjr (ts us:List Se):zcc (ts++us)=zcc ts++zcc us:=by simp[zcc]
theorem zqe (ts:List Se):(zcc ts).length=ts.length*3:=by
 induction ts with
 |nil=>rfl
 |cons t ts ih=>simp only[zcc,List.flatMap_cons,z1l,List.length_cons] at *;rw[ih];simp[Se.cells];omega
theorem seflat_at (ts:List Se) (k:Nat) (t:Se) (h:ts[k]? =some t) (j:Nat) (hj:j<3):(zcc ts)[k*3+j]? =t.cells[j]?:=by
 induction ts generalizing k with
 |nil=>simp at h
 |cons u ts ih=>
  have hl:u.cells.length=3:=rfl;simp only[zcc,List.flatMap_cons]
  cases k with
  |zero=>simp at h;subst h;rw[z1t (by omega)];simp
  |succ k=>
   rw[List.getElem?_append_right (by omega),show (k+1)*3+j-u.cells.length=k*3+j by omega];exact ih k (by simpa using h)
def skl (st:List Se):List Sk:=st.map λx=>(x.c,x.t,x.o)
abbrev Ce:Type:=Option (Nat×Nat)
def cErr:Ce->Nat
 |none=>0
 |some r=>r.1
def cAt:Ce->Nat
 |none=>0
 |some r=>r.2
def Cs (B b:Nat) (L:Value) (ε:Ce) (m:Nat) (st:List Se) (w:World):Prop:=
 B<=b/\(∃a n c,L=.slice a n c)/\(∀r,ε=some r->1<=r.1)/\∃S,Ck b L S (cErr ε) (cAt ε) m w/\w.ownsRow B 150 3 S st.length (zcc st)/\S.ownBlock≠some b/\
  (∀g,S.ownBlock=some g->∃z,w.cell? ⟨g,0,none⟩=some (.int .u8 z))/\∀x∈st,Rg x.h x.t w/\Is w (slV x.v) (x.o.map (·+30))
def srow (b:Nat) (w:World):Option Nat:=((w.cell? ⟨b,1,none⟩).getD .nilIface).ownBlock
theorem Ck.row {b:Nat} {L S:Value} {err p m:Nat} {w:World} (h:Ck b L S err p m w):srow b w=S.ownBlock:=by
 unfold srow;rw[z1f h];rfl
structure CFr (b:Nat) (w w':World):Prop where
 os:w'.os=w.os
 tape:w'.tape=w.tape
 output:w'.output=w.output
 size:w.heap.size<=w'.heap.size
 block:∀k,k<w.heap.size->k≠b->some k≠srow b w->w'.heap[k]? =w.heap[k]?
 row:srow b w'=srow b w\/∃k,srow b w'=some k/\w.heap.size<=k
theorem CFr.refl (b:Nat) (w:World):CFr b w w:=⟨rfl,rfl,rfl,z1d _,λ_ _ _ _=>rfl,.inl rfl⟩
theorem CFr.trans {b:Nat} {x y z:World} (h:CFr b x y) (k:CFr b y z):CFr b x z:=by
 refine⟨k.os.trans h.os,k.tape.trans h.tape,k.output.trans h.output,z1c h.size k.size,λi hi hb hr=>?_,?_⟩
 ·refine(k.block i (z1e hi h.size) hb ?_).trans (h.block i hi hb hr)
  rcases h.row with e|⟨q,e,hq⟩
  ·rw[e];exact hr
  ·rw[e];intro e';simp at e';omega
 ·rcases k.row with e|⟨q,e,hq⟩
  ·rcases h.row with e'|⟨q,e',hq⟩
   ·exact .inl (e.trans e')
   ·exact .inr ⟨q,e.trans e',hq⟩
  ·exact .inr ⟨q,e,z1c h.size hq⟩
theorem CFr.below {b B:Nat} {w w':World} (h:CFr b w w') (hb:B<=b) (hB:B<=w.heap.size) (hr:∀k,srow b w=some k->B<=k):Below B w w':=
 ⟨h.os,h.tape,h.output,h.size,λk hk=>h.block k (by omega) (by omega) (λe=>by have:=hr k e.symm;omega)⟩
theorem Cs.rowB {B b:Nat} {L:Value} {ε:Ce} {m:Nat} {st:List Se} {w:World} (h:Cs B b L ε m st w):∀k,srow b w=some k->B<=k/\k<w.heap.size:=by
 obtain⟨_,_,_,S,hk,ho,_⟩:=h;intro k e;rw[hk.row] at e;exact ho.lt k e
theorem Cs.lt {B b:Nat} {L:Value} {ε:Ce} {m:Nat} {st:List Se} {w:World} (h:Cs B b L ε m st w):b<w.heap.size:=by
 obtain⟨_,_,_,S,hk,_⟩:=h;exact(z1a.1 hk).1
theorem Cs.tu {B b:Nat} {L:Value} {ε:Ce} {m:Nat} {st:List Se} {w w':World} (h:Cs B b L ε m st w) (F:CFr b w w') (hB:B<=w.heap.size):Below B w w':=F.below h.1 hB (λk e=>(h.rowB k e).1)
theorem Cs.apart {B b:Nat} {L:Value} {ε:Ce} {m:Nat} {st:List Se} {w:World} (h:Cs B b L ε m st w) {g:Nat} {z:Int} (hc:w.cell? ⟨g,0,none⟩=some (.int .i64 z)):g≠b/\some g≠srow b w:=by
 obtain⟨_,⟨a,n,c,rfl⟩,_,S,hk,ho,hn,hu,_⟩:=h;refine⟨?_,?_⟩
 ·rintro rfl
  rw[z1f hk] at hc
  cases hc
 ·intro e
  rw[hk.row] at e;obtain⟨z',hz⟩:=hu g e.symm;rw[hc] at hz
  cases hz
theorem Rg.zero {w:World} {g:Nat} {t:Ty} (h:Rg g t w):∃z,w.cell? ⟨g,0,none⟩=some (.int .i64 z):=by
 have hp:=zaw h.ok;obtain⟨n,hn⟩:∃n,(nd t 0)[0]? =some n:=⟨_,z1h (by rw[zaj];omega)⟩
 have hc:=(h.cell 0 n hn).1;rw[Nat.zero_mul] at hc;exact⟨_,hc⟩
theorem Rg.at' {w w':World} {g:Nat} {t:Ty} (h:Rg g t w) (hs:w.heap.size<=w'.heap.size) (hb:w'.heap[g]? =w.heap[g]?):Rg g t w':=
 ⟨h.ok,z1e h.lt hs,λk n hk=>by rw[z1s (w:=w) (w':=w') (a:=⟨g,_,none⟩) hb,z1s (w:=w) (w':=w') (a:=⟨g,_,none⟩) hb,z1s (w:=w) (w':=w') (a:=⟨g,_,none⟩) hb];exact h.cell k n hk⟩
theorem Is.at' {w w':World} {V:Value} {l:List Nat} (h:Is w V l) (hs:w.heap.size<=w'.heap.size) (hb:∀g z,w.cell? ⟨g,0,none⟩=some (.int .i64 z)->w'.heap[g]? =w.heap[g]?):Is w' V l:=by
 obtain⟨a,cap,rfl,h⟩:=h;refine⟨a,cap,rfl,?_⟩;rcases h with h|⟨g,rfl,hg,hc⟩
 ·exact .inl h
 ·cases l with
  |nil=>exact .inl rfl
  |cons n l=>
   have:=hb g _ (hc 0 n rfl);exact .inr ⟨g,rfl,z1e hg hs,λk m hk=>(z1s (w:=w) (a:=⟨g,k,none⟩) this).trans (hc k m hk)⟩
theorem Cs.ents {B b:Nat} {L:Value} {ε:Ce} {m:Nat} {st:List Se} {w w':World} (h:Cs B b L ε m st w) (F:CFr b w w') {l:List Se} (hl:∀x∈l,Rg x.h x.t w/\Is w (slV x.v) (x.o.map (·+30))):∀x∈l,Rg x.h x.t w'/\Is w' (slV x.v) (x.o.map (·+30)):=by
 intro x hx;obtain⟨h1,h2⟩:=hl x hx;obtain⟨z,hz⟩:=h1.zero;have ha:=h.apart hz;exact⟨h1.at' F.size (F.block _ h1.lt ha.1 ha.2),h2.at' F.size (λg z hz=>by have:=h.apart hz;exact F.block g (World.block_lt_of_cell? w _ hz) this.1 this.2)⟩
theorem Rg.cfr {B b:Nat} {L:Value} {ε:Ce} {m:Nat} {st:List Se} {w w':World} {g:Nat} {t:Ty} (R:Rg g t w) (h:Cs B b L ε m st w) (F:CFr b w w'):Rg g t w':=by
 obtain⟨z,hz⟩:=R.zero;have ha:=h.apart hz;exact R.at' F.size (F.block _ R.lt ha.1 ha.2)
theorem Cs.mv {B b:Nat} {L:Value} {ε:Ce} {m:Nat} {st:List Se} {w:World} (h:Cs B b L ε m st w):∃S,Ck b L S (cErr ε) (cAt ε) m w/\Ss w S (skl st)/\
 ∀(ε':Ce) (w':World),(∀r,ε'=some r->1<=r.1)->Ck b L S (cErr ε') (cAt ε') m w'->w.grownBy w' (some b)->Cs B b L ε' m st w'/\CFr b w w':=by
 have h':=h;obtain⟨hB,hL,he,S,hk,ho,hn,hu,hx⟩:=h;have hgl:∀g,S.ownBlock=some g->g<w.heap.size:=λg e=>(ho.lt g e).2
 refine⟨S,hk,?_,?_⟩
 ·rcases ho.2 with ⟨rfl,h0⟩|⟨g,cap,cur,rfl,hg,hgg,_⟩
  ·have e0:=List.length_eq_zero_iff.1 h0
   subst e0;exact⟨none,0,rfl,.inl rfl⟩
  ·refine⟨some ⟨g,0,none⟩,cap,by simp[skl],.inr ⟨g,rfl,(z1a.1 hgg).1,λk x hk'=>?_⟩⟩
   simp only[skl,z1n] at hk';obtain⟨y,hy,rfl⟩:=Option.map_eq_some_iff.1 hk'
   have key:∀j v,y.cells[j]? =some v->j<3->cZ w g (k*3+j) v:=by
    intro j v hv hj;have:=ho.cells (g:=g) rfl (k*3+j) v (by rw[seflat_at st k y hy j hj];exact hv);rw[zli g (k*3+j)] at this;exact this
   obtain⟨r1,r2⟩:=hx y (z1m hy);exact⟨y.h,y.cp,slV y.v,key 0 _ rfl (by decide),key 1 _ rfl (by decide),r1,key 2 _ rfl (by decide),r2⟩
 ·intro ε' w' he' hk' hg
  have F:CFr b w w':=⟨hg.os,hg.tape,hg.output,hg.size,λk hk hb _=>hg.block k hk (by simpa using hb),.inl (hk'.row.trans hk.row.symm)⟩
  refine⟨⟨hB,hL,he',S,hk',ho.kept hg (.inr hn),hn,λg e=>?_,h'.ents F hx⟩,F⟩;obtain⟨z,hz⟩:=hu g e;exact⟨z,hg.cell hz (by intro e';injection e' with e';exact hn (by rw[e];exact congrArg some e'))⟩
theorem Cs.below {B b:Nat} {L:Value} {ε:Ce} {m:Nat} {st:List Se} {w w':World} (h:Cs B b L ε m st w) (hb:Below w.heap.size w w'):Cs B b L ε m st w'/\CFr b w w':=by
 obtain⟨S,hk,_,mv⟩:=h.mv;exact mv ε w' h.2.2.1 (hk.below hb) (zan hb _)
theorem Cs.push {B b:Nat} {L S:Value} {ε:Ce} {m:Nat} {st:List Se} {w w1:World} {x:Se} {gg cap:Nat} (h:Cs B b L ε m st w) (hk:Ck b L S (cErr ε) (cAt ε) m w)
 (hown1:w1.ownsRow B 150 3 (sZ gg (st.length+1) cap) (st.length+1) (zcc st++x.cells)) (hgrow:w.grownBy w1 S.ownBlock) (hat:S.ownBlock=some gg\/w.heap.size<=gg)
 (hx:Rg x.h x.t w/\Is w (slV x.v) (x.o.map (·+30))):
 Cs B b L ε m (st++[x]) (w1.setCell ⟨b,1,none⟩ (sZ gg (st.length+1) cap))/\CFr b w (w1.setCell ⟨b,1,none⟩ (sZ gg (st.length+1) cap)):=by
 have h':=h;obtain⟨hB,hL,he,S',hk',ho,hn,hu,hxs⟩:=h
 obtain rfl:S'=S:=by
  have e:=hk'.symm.trans hk;simp at e;exact e
 have hlt:=(z1a.1 hk).1
 have hgb:gg≠b:=by
  rcases hat with e|e
  ·intro e';exact hn (by rw[e,e'])
  ·omega
 have hk1:=(hgrow.block b hlt (Ne.symm hn)).trans hk
 have hk2:Ck b L (sZ gg (st.length+1) cap) (cErr ε) (cAt ε) m (w1.setCell ⟨b,1,none⟩ (sZ gg (st.length+1) cap)):=by
  unfold Ck at *
  simp[World.setCell,z1i,hk1]
 have F:CFr b w (w1.setCell ⟨b,1,none⟩ (sZ gg (st.length+1) cap)):=by
  refine⟨hgrow.os,hgrow.tape,hgrow.output,by simp only[World.setCell,Array.size_modify];exact hgrow.size,λk hk3 hkb hkr=>?_,?_⟩
  ·rw[Below.heap_setCell _ _ _ _ hkb]
   rw[hk.row] at hkr;exact hgrow.block k hk3 hkr
  ·rw[hk2.row,hk.row]
   rcases hat with e|e
   ·exact .inl e.symm
   ·exact .inr ⟨gg,rfl,e⟩
 have ho2:=hown1.kept (zfv w1 b 1 (sZ gg (st.length+1) cap)) (.inr (by simp[Value.ownBlock,hgb]));refine⟨⟨hB,hL,he,_,hk2,?_,by simp[Value.ownBlock,hgb],λg e=>?_,?_⟩,F⟩
 ·have e1:zcc (st++[x])=zcc st++x.cells:=by rw[zjr];simp[zcc]
  rw[e1,z1l];exact ho2
 ·simp[Value.ownBlock] at e
  subst e
  have h0:∃z,(zcc st++x.cells)[0]? =some (.int .u8 z):=by
   cases st with
   |nil=>exact⟨_,rfl⟩
   |cons y st=>exact⟨_,rfl⟩
  obtain⟨z,hz⟩:=h0;exact⟨z,ho2.cells (g:=gg) rfl 0 _ hz⟩
 ·refine h'.ents F λy hy=>?_
  rcases z1y.1 hy with hy|hy
  ·exact hxs y hy
  ·obtain rfl:y=x:=by simpa using hy
   exact hx
theorem Cs.pop {B b:Nat} {L S:Value} {ε:Ce} {m:Nat} {st:List Se} {w:World} {x:Se} (h:Cs B b L ε m (st++[x]) w) (hk:Ck b L S (cErr ε) (cAt ε) m w):
 ∃g cap,S=(sZ g (st.length+1) cap)/\st.length+1<=cap/\Cs B b L ε m st (w.setCell ⟨b,1,none⟩ (sZ g st.length cap))/\CFr b w (w.setCell ⟨b,1,none⟩ (sZ g st.length cap)):=by
 have h':=h;obtain⟨hB,hL,he,S',hk',ho,hn,hu,hxs⟩:=h
 obtain rfl:S'=S:=by
  have e:=hk'.symm.trans hk;simp at e;exact e
 have e1:zcc (st++[x])=zcc st++x.cells:=by rw[zjr];simp[zcc]
 rw[e1,z1l] at ho;rcases id ho.2 with ⟨_,h0⟩|⟨g,cap,cur,rfl,hg,hgg,hcap,_⟩
 ·simp at h0
 ·have hgb:g≠b:=λe=>hn (by rw[e];rfl)
  have ho1:=ownsRow_pop (zqe st) ho
  have hk2:Ck b L (sZ g st.length cap) (cErr ε) (cAt ε) m (w.setCell ⟨b,1,none⟩ (sZ g st.length cap)):=by
   unfold Ck at *
   simp[World.setCell,z1i,hk]
  have F:CFr b w (w.setCell ⟨b,1,none⟩ (sZ g st.length cap)):=
   ⟨rfl,rfl,rfl,by simp[World.setCell],λk _ hkb _=>Below.heap_setCell _ _ _ _ hkb,.inl (by rw[hk2.row,hk.row];rfl)⟩
  refine⟨g,cap,rfl,hcap,⟨hB,hL,he,_,hk2,ho1.kept (zfv w b 1 _) (.inr (by simp[Value.ownBlock,hgb])),by simp[Value.ownBlock,hgb],λg' e=>?_,h'.ents F λy hy=>hxs y (List.mem_append_left _ hy)⟩,F⟩;obtain⟨z,hz⟩:=hu g' e;simp[Value.ownBlock] at e;subst e;exact⟨z,by rw[World.cell?_setCell_other w _ _ _ (by intro e;injection e with e1 e2;exact hgb e1.symm)];exact hz⟩
end Go.Proofs.YtceadeaodbadlaaGreatDoor
namespace Go.Proofs.YtceadeaodbadlaaGreatDoor
def xz:Ex->Nat
 | .nil=>0
 | .node t _ x a b=>if t=3 then sz (x.g.headD tI)+1+xz a else if t=4\/t=5 then xz a+xz b else 1
def EB (m:Nat):Ex->Prop
 | .nil=>True
 | .node t _ x a b=>x.g.length<=m/\x.v.length<=m/\EB m a/\EB m b
section
variable {ty:Bool} {s:ByteArray} {g:List Ty} {i j:Nat}
theorem xz_pos {m:Nat}:∀{x:Ex},EOk ty m x->1<=xz x:=by
 intro x
 induction x with
 |nil=>intro h;exact h.elim
 |node t o x a b iha ihb=>
  intro h;rcases h with ⟨rfl,_⟩|⟨rfl,_⟩|⟨rfl,_⟩|⟨rfl,_⟩|⟨rfl,_,_,ha,_⟩|⟨rfl,ha,_⟩
  ·simp[xz]
  ·simp[xz]
  ·simp[xz]
  ·simp only[xz,if_true];omega
  ·have:=iha ha;simp only[xz];simp;omega
  ·have:=iha ha;simp only[xz];simp;omega
theorem pg_len (s:ByteArray):∀(n i:Nat) (l m:List Ty) (j:Nat),pg s n i l=.ok (m,j)->i<=s.size->m.length+i<=l.length+j:=by
 intro n
 induction n with
 |zero=>intro i l m j h;simp[pg] at h
 |succ n ih=>
  intro i l m j h hi;rw[pg] at h;split at h
  ·cases h
  ·rename_i h1
   have p1:=zdw h1 hi;split at h
   ·rename_i h2
    have i2:=zag (λe=>absurd (h2.symm.trans e) (by decide));have p2:=ih _ _ _ _ h (by omega);simp at p2;omega
   ·split at h
    ·cases h;simp;omega
    ·cases h
theorem pw_len (s:ByteArray):∀(n i:Nat) (l m:List (Nat×Nat)) (j:Nat),pw s n i l=.ok (m,j)->i<=s.size->m.length+i<=l.length+j:=by
 intro n
 induction n with
 |zero=>intro i l m j h;simp[pw] at h
 |succ n ih=>
  intro i l m j h hi;rw[pw] at h;split at h
  ·cases h;omega
  ·split at h
   ·rename_i h2
    have p1:=zew h2;have p2:=ih _ _ _ _ h p1.2;simp at p2;omega
   ·cases h
theorem givenO_len (h:zfg s ty i=.ok (g,j)) (hi:i<=s.size):g.length<=s.size:=by
 have hp:=zgi h hi;unfold zfg at h;split at h
 ·split at h
  ·rename_i h2
   have i2:=zag (λe=>absurd (h2.symm.trans e) (by decide));have:=pg_len s _ _ _ _ _ h (by omega);simp at this;omega
  ·cases h;simp
 ·cases h;simp
theorem ownO_len {g:List (Nat×Nat)} (h:ownO s ty i=.ok (g,j)) (hi:i<=s.size):g.length<=s.size:=by
 have hp:=zgh h hi;unfold ownO at h;split at h
 ·split at h
  ·rename_i h2
   have i2:=zag (λe=>absurd (h2.symm.trans e) (by decide));have:=pw_len s _ _ _ _ _ h (by omega);simp at this;omega
  ·cases h
 ·cases h;simp
theorem fromO_size (h:zku s true i=.ok (g,j)) (hi:i<=s.size):sz (g.headD tI)+i+1<=j/\g.length<=1/\i<s.size:=by
 unfold zku at h;rw[if_pos rfl] at h;split at h
 ·rename_i h2
  have i2:=zag (λe=>absurd (h2.symm.trans e) (by decide));split at h
  ·cases h
  ·rename_i h1
   have q:=zhb s _ _ _ _ _ _ h1 (by omega) (by omega);have p1:=zdw h1 (by omega);simp at q
   cases h
   exact⟨by simp;omega,by simp,i2⟩
 ·cases h
theorem pe_xz (s:ByteArray):∀(n t i:Nat) (a u:Ex) (j:Nat),pe s true n t i a=.ok (u,j)->i<=s.size->(t=1->EOk true s.size a/\EB s.size a)->
 xz u<=(if t=1 then xz a else 0)+(j-i)/\EB s.size u:=by
 intro n
 induction n with
 |zero=>intro t i a u j h;simp[pe] at h
 |succ n ih=>
  intro t i a u j h hi ha
  match t with
  |0=>
   rw[pe] at h;split at h
   ·split at h
    ·rename_i h2
     have i2:=zag (s:=s) (i:=i+1) (by rintro e;rw[e] at h2;exact absurd h2 (by decide));split at h
     ·cases h
     ·rename_i h3
      have p3:=zhd h3 (by omega);have q3:=fromO_size h3 (by omega);split at h
      ·rename_i h4
       have i4:=zag (λe=>absurd (h4.symm.trans e) (by decide));split at h
       ·cases h
       ·rename_i h5
        have p5:=zas s _ _ _ _ _ _ _ h5 (by omega) (by omega);have q5:=ih _ _ _ _ _ h5 (by omega) (by omega)
        cases h
        simp only[Nat.zero_ne_one,if_false,Nat.zero_add] at q5 ⊢;refine⟨?_,by simp;omega,by simp,q5.2,trivial⟩;simp only[xz,if_true];omega
      ·cases h
    ·cases h
   ·split at h
    ·split at h
     ·rename_i h2
      have i2:=zag (s:=s) (i:=i+1) (by rintro e;rw[e] at h2;exact absurd h2 (by decide));split at h
      ·cases h
      ·rename_i h3
       have p3:=zgh h3 (by omega);have q3:=ownO_len h3 (by omega);split at h
       ·rename_i h4
        have i4:=zag (λe=>absurd (h4.symm.trans e) (by decide));split at h
        ·cases h
        ·rename_i h5
         have p5:=zas s _ _ _ _ _ _ _ h5 (by omega) (by omega);have q5:=ih _ _ _ _ _ h5 (by omega) (by omega);split at h
         ·rename_i h6
          have i6:=zag (λe=>absurd (h6.symm.trans e) (by decide));split at h
          ·cases h
          ·rename_i h7
           have p7:=zas s _ _ _ _ _ _ _ h7 (by omega) (by omega);have q7:=ih _ _ _ _ _ h7 (by omega) (by omega)
           cases h
           simp only[Nat.zero_ne_one,if_false,Nat.zero_add] at q5 q7 ⊢;refine⟨?_,by simp,q3,q5.2,q7.2⟩;simp only[xz];simp;omega
         ·cases h
       ·cases h
     ·cases h
    ·split at h
     ·cases h
     ·rename_i h4
      have p4:=zas s _ _ _ _ _ _ _ h4 (by omega) (by omega);have q4:=ih _ _ _ _ _ h4 (by omega) (by omega);have p5:=zas s _ _ _ _ _ _ _ h (by omega) (λ_=>p4.2.2);have q5:=ih _ _ _ _ _ h (by omega) (λ_=>⟨p4.2.2,q4.2⟩);simp at q4 q5 ⊢;exact⟨by omega,q5.2⟩
  |1=>
   rw[pe] at h;split at h
   ·split at h
    ·cases h
    ·rename_i h4
     have p4:=zas s _ _ _ _ _ _ _ h4 (by omega) (by omega);have q4:=ih _ _ _ _ _ h4 (by omega) (by omega);have eo:EOk true s.size (eC i a _):=.inr (.inr (.inr (.inr (.inr ⟨rfl,(ha rfl).1,p4.2.2⟩))));have p5:=zas s _ _ _ _ _ _ _ h (by omega) (λ_=>eo);have q5:=ih _ _ _ _ _ h (by omega) (λ_=>⟨eo,by simp,by simp,(ha rfl).2,q4.2⟩);simp[xz] at q4 q5 ⊢;exact⟨by omega,q5.2⟩
   ·cases h;exact⟨by simp,(ha rfl).2⟩
  |t+2=>
   rw[pe] at h;split at h
   ·rename_i h1
    have i1:=zag (s:=s) (i:=i) (zdg h1);split at h
    ·cases h
     exact⟨by simp[xz],by simp,by simp,trivial,trivial⟩
    split at h
    ·split at h
     ·cases h
     ·rename_i h4
      have p4:=zas s _ _ _ _ _ _ _ h4 (by omega) (by omega);have q4:=ih _ _ _ _ _ h4 (by omega) (by omega);split at h
      ·cases h
       simp at q4 ⊢;exact⟨by omega,q4.2⟩
      ·cases h
    split at h
    ·cases h
    ·rename_i h4
     have p4:=zgi h4 (by omega);have q4:=givenO_len h4 (by omega)
     cases h
     split
     ·exact⟨by simp[xz];omega,q4,by simp,trivial,trivial⟩
     ·exact⟨by simp[xz];omega,q4,by simp,trivial,trivial⟩
   ·cases h
theorem wholeE_xz {e:Ex} (h:zaz s true=.ok e):xz e<=s.size/\EB s.size e:=by
 unfold zaz at h;split at h
 ·cases h
 ·rename_i h1
  have p:=zas s true _ _ _ _ _ _ h1 (Nat.zero_le _) (by omega);have q:=pe_xz s _ _ _ _ _ _ h1 (Nat.zero_le _) (by omega);split at h
  ·cases h
  ·cases h
   simp at q;exact⟨by omega,q.2⟩
end
end Go.Proofs.YtceadeaodbadlaaGreatDoor
namespace Go.Proofs.YtceadeaodbadlaaGreatDoor
open Go.RowKit
def StOk (st:List Se):Prop:=∀x∈st,(97<=x.c/\x.c<123)/\Ok x.t/\sz x.t<=60000/\x.o.length<=60000/\(∀o∈x.o,970<=o)
abbrev zbf (st:List Se):Env:=zla (skl st)
section
variable {l:List Nat} {st:List Se} {k n:Nat} {w:World}
theorem StOk.skl (h:StOk st):∀x∈skl st,97<=x.1/\x.1<123:=by
 intro x hx;obtain⟨y,hy,rfl⟩:=z1z.1 hx;exact(h y hy).1
theorem StOk.skl2 (h:StOk st):∀x∈Go.Proofs.YtceadeaodbadlaaGreatDoor.skl st,x.1<256/\sz x.2.1<=1000000/\x.2.2.length<=1000000:=by
 intro x hx;obtain⟨y,hy,rfl⟩:=z1z.1 hx;have:=h y hy;exact⟨by show y.c<256;omega,by show sz y.t<=_;omega,by show y.o.length<=_;omega⟩
theorem own_step {e:Env} {vs:List (Nat×Nat)} {x:Nat×Nat} (h:vs[k]? =some x):
 zce e (vs.drop k) ((vs.take k).map (·.1))=if ((vs.take k).map (·.1)).contains x.1||zgr e x.1 then some x.2 else zce e (vs.drop (k+1)) ((vs.take (k+1)).map (·.1)):=by
 have hlt:=(z1b.1 h).1;have hx:=(z1b.1 h).2;rw[List.drop_eq_getElem_cons hlt,hx];obtain⟨o,p⟩:=x;simp only[zce];rw[List.take_add_one,h];simp
theorem Is.take {g c:Nat} (h:Is w (sZ g n c) l) (k:Nat) (hk:k<=l.length):Is w (sZ g k c) (l.take k):=by
 obtain⟨a,cap,e,h⟩:=h
 cases e
 refine⟨some ⟨g,0,none⟩,c,by rw[List.length_take,Nat.min_eq_left hk],?_⟩;rcases h with h|⟨g',e,hg,hc⟩
 ·subst h;exact .inl (by simp)
 ·cases e
  refine .inr ⟨g,rfl,hg,λj n hj=>hc j n ?_⟩;rw[List.getElem?_take] at hj;split at hj
  ·exact hj
  ·cases hj
theorem Is.form {V:Value} (h:Is w V l) (hk:l[k]? =some n):∃g cap,V=(sZ g l.length cap)/\g<w.heap.size/\w.cell? ⟨g,k,none⟩=some (iZ n):=by
 obtain⟨a,cap,rfl,h⟩:=h;rcases h with h|⟨g,rfl,hg,hc⟩
 ·subst h;simp at hk
 ·exact⟨g,cap,rfl,hg,hc k n hk⟩
theorem bound_any (B b:Nat) (L:Value) (m:Nat) (st:List Se) (vs:List (Nat×Nat)) (op c ta tb:Nat) (ga va pa:Option Addr) (gn gc vn vc pn pc tat tto:Nat) (w:World) (h:Cs B b L none m st w) (hst:StOk st) (hl:st.length<=100000) (hv:VOk vs) (hvl:vs.length<=60000) (hcap:vn<=vc) (hV:Is w (.slice va vn vc) (vs.map (·.1+30))) (hP:Is w (.slice pa pn pc) (vs.map (·.2))):
 CZ 100 #[pZ b,.agg (tmA op c ta tb ga va pa gn gc vn vc pn pc tat tto)] w λe w'=>e=.returned (.tuple #[])/\Cs B b L ((zce (zbf st) vs []).map (λp=>(6,p))) m st w'/\CFr b w w':=by
 obtain⟨S,hk,hs,mv⟩:=h.mv;have hblt:=h.lt;have hvn:vn=vs.length:=by obtain⟨a,cap,e,_⟩:=hV;simp at e;exact e.2.1
 have hpn:pn=vs.length:=by obtain⟨a,cap,e,_⟩:=hP;simp at e;exact e.2.1
 subst hvn hpn;have B0:Below w.heap.size w (w.alloc (.cells (tmA op c ta tb ga va pa gn gc vs.length vc vs.length pc tat tto) 76)):=bal w _;have hbx:(w.alloc (.cells (tmA op c ta tb ga va pa gn gc vs.length vc vs.length pc tat tto) 76)).heap[w.heap.size]? =some (.cells (tmA op c ta tb ga va pa gn gc vs.length vc vs.length pc tat tto) 76 (0,0)):=z1v w _;have hW:(w.alloc (.cells (tmA op c ta tb ga va pa gn gc vs.length vc vs.length pc tat tto) 76)).heap.size=w.heap.size+1:=by simp
 have HK:Hid (∀X,Below w.heap.size w X->Ck b L S 0 0 m X):=λX hX=>hk.below hX
 have FX:Hid (∀(o:Nat),970<=o/\o<1230->∀X,Below w.heap.size w X->CZ 141 #[pZ b,.int .i64 ((o+30:Nat):Int)] X λe w'=>e=.returned (.bool (zgr (zbf st) o))/\Below X.heap.size X w'):=by
  intro o ho X hX;refine(fixed_any b L S 0 0 m o (skl st) X (hk.below hX) (hs.below hX) (by simp[skl];exact hl) hst.skl2 ho).mono ?_;rintro e w' ⟨r,rfl,hr,hb⟩;rw[fixed_env hst.skl hr];exact⟨rfl,hb⟩
 have HV:Hid (∀X,Below w.heap.size w X->Is X (.slice va vs.length vc) (vs.map (·.1+30))):=λX hX=>hV.below hX
 have HP:Hid (∀X,Below w.heap.size w X->Is X (.slice pa vs.length pc) (vs.map (·.2))):=λX hX=>hP.below hX
 have HM:=hid mv;have HVO:=hid hv;generalize hn:vs.length=n at *
 have HN:=hid hn;clear h hk hs mv hV hP hn hv;go_enter Tryz.func100,Tryz.ntmps100;go_wp21;generalize w.alloc (.cells (tmA op c ta tb ga va pa gn gc n vc n pc tat tto) 76)=W at *
 have HB0:=hid B0;have BW:Hid (Below W.heap.size W W):=Below.refl _ _;clear B0
 go_loopw [4] (λi wr=>∃k:Nat,i=(iZ k)/\k<=n/\Hid (zce (zbf st) vs []=zce (zbf st) (vs.drop k) ((vs.take k).map (·.1)))/\Hid (Below W.heap.size W wr)) (λi _=>n-(intOf i).toNat)
 case atStart=>exact⟨0,rfl,Nat.zero_le _,by simp[Hid],BW⟩
 case round=>
  clear BW;obtain⟨k,rfl,hkn,HO,HB⟩:=hrel;have hbr:wr.heap[w.heap.size]? =some (.cells (tmA op c ta tb ga va pa gn gc n vc n pc tat tto) 76 (0,0)):=(HB.out.block w.heap.size (by omega)).trans hbx;have c5:cZ wr w.heap.size 5 (.slice va n vc):=cbl hbr;have c6:cZ wr w.heap.size 6 (.slice pa n pc):=cbl hbr;have HX:Hid (Below w.heap.size w wr):=HB0.out.trans (HB.out.mono HB0.out.size);have sr:=HB.out.size;rcases z1r k n with hlt|hge
  ·obtain⟨x,hx⟩:∃x,vs[k]? =some x:=⟨_,z1h (by rw[HN.out];omega)⟩
   have HS:Hid _:=own_step (e:=zbf st) hx;obtain⟨o,p⟩:=x;have ho:970<=o/\o<1230:=HVO.out _ (z1m hx);obtain⟨g,cap,e,hg,ce⟩:=(HV.out wr HX.out).form (k:=k) (n:=o+30) (by rw[z1n,hx];rfl);obtain⟨g',cap',e',hg',ce'⟩:=(HP.out wr HX.out).form (k:=k) (n:=p) (by rw[z1n,hx];rfl);rw[z2a] at e e';rw[HN.out] at e e'
   cases e
   cases e'
   have IC:Hid (CZ 60 #[sZ g k vc,.int .i64 ((o+30:Nat):Int)] wr.drew λe w'=>e=.returned (.bool (((vs.take k).map (·.1)).contains o))/\w'=wr.drew):=by
    have hI:Is wr (sZ g k vc) ((vs.map (·.1+30)).take k):=(HV.out wr HX.out).take k (by rw[z2a,HN.out];omega);have:=zjy ((vs.map (·.1+30)).take k) (sZ g k vc) (o+30) wr.drew hI (by have:=HN.out;simp;omega)
    have e:((vs.map (·.1+30)).take k).contains (o+30)=((vs.take k).map (·.1)).contains o:=by
     rw[<-zon ((vs.take k).map (·.1)),List.map_map,<-List.map_take];rfl
    rw[e] at this;exact this
   have FC:=FX.out o ho wr.drew HX.out.drew;have HFC:=hid FC;have b1:(0:Int)<=(k:Int):=by omega
   have b2:(k:Int)<=(n:Int):=by omega
   have b3:(k:Int)<(n:Int):=by omega
   have b4:(k:Int)<=(vc:Int):=by omega
   clear FC hx;generalize hq:o+30=q at *
   generalize hin:((vs.take k).map (·.1)).contains o=r1 at *
   generalize hfx:zgr (zbf st) o=r2 at *
   have HIN:=hid hin;have HFX:=hid hfx;clear hin hfx hq;go_wp21
   go_region_held3 (λwq=>cZ wq w.heap.size 5 (sZ g n vc)/\cZ wq g k (iZ q))
    (first|(go_keep;done)|(go_split_ands;exact⟨c5,ce⟩))
    ((go_at_call 60;refine IC.out.mono ?_;rintro e wz ⟨rfl,rfl⟩))
   go_wp21;refine Calls.mono HFC ?_;rintro e w2 ⟨rfl,b2'⟩;have b2:Below wr.heap.size wr w2:=⟨b2'.os,b2'.tape,b2'.output,b2'.size,b2'.block⟩
   have HB2:Hid (Below W.heap.size W w2):=HB.out.trans (b2.mono HB.out.size);have HX2:Hid (Below w.heap.size w w2):=HX.out.trans (b2.mono HX.out.size);have c6':=(b2.cell (p:=⟨w.heap.size,6,none⟩) (show w.heap.size<wr.heap.size by omega)).trans c6;have ce2:=(b2.cell (p:=⟨g',k,none⟩) hg').trans ce';clear b2 b2' c5 c6 ce ce' HFC IC;by_cases hr:(r1||r2)=true
   ·have HR:Hid (zce (zbf st) vs []=some p):=by
     unfold Hid;rw[HO.out,HS.out,if_pos hr]
    have CF:Hid (CZ 99 #[pZ b,.int .i64 6,iZ p] w2 (FPost b L S 6 p m w2)):=zda b L S 0 m 6 p w2 (HK.out w2 HX2.out);clear HO HS
    have tail:∀(e:Ending) (w3:World),FPost b L S 6 p m w2 e w3->(∃g cap,e=.returned (.agg #[sZ g 1 cap]))/\Hid (Cs B b L ((zce (zbf st) vs []).map (λp=>(6,p))) m st w3/\CFr b w w3):=by
     rintro e w3 ⟨g3,cap3,rfl,R3,hg3,C3,G3⟩;refine⟨⟨g3,cap3,rfl⟩,?_⟩;rw[HR.out];exact HM.out (some (6,p)) w3 (λr e=>by cases e;show 1<=6;decide) C3 ((zan HX2.out _).trans G3)
    have HT:=hid tail;clear tail
    cases r1
    ·obtain rfl:r2=true:=by simpa using hr
     clear hr;go_wp21;refine CF.mono ?_;intro e w3 hp;obtain⟨⟨g3,cap3,rfl⟩,HC3⟩:=HT e w3 hp;clear hp;go_wp21
     (try simp only[Exit.inBlock,Exit.then])
     refine bodyPost_ret (results_none rfl _ _ _) rfl ?_;exact⟨rfl,HC3⟩
    ·clear hr
     go_wp21;refine CF.mono ?_;intro e w3 hp;obtain⟨⟨g3,cap3,rfl⟩,HC3⟩:=HT e w3 hp;clear hp;go_wp21
     (try simp only[Exit.inBlock,Exit.then])
     refine bodyPost_ret (results_none rfl _ _ _) rfl ?_;exact⟨rfl,HC3⟩
   ·have HR:Hid (zce (zbf st) vs []=zce (zbf st) (vs.drop (k+1)) ((vs.take (k+1)).map (·.1))):=by
     unfold Hid;rw[HO.out,HS.out,if_neg hr]
    obtain⟨rfl,rfl⟩:r1=false/\r2=false:=by simpa using hr
    clear hr HO HS;go_wp21;go_roundw
    case rel=>exact⟨k+1,by simp,by omega,HR,HB2⟩
    case measure=>simp[intOf];omega
  ·obtain rfl:k=n:=by omega
   have HR:Hid (zce (zbf st) vs []=none):=by
    unfold Hid;rw[HO.out,List.drop_eq_nil_of_le (by rw[HN.out];exact z1d _)];rfl
   have HC:Hid (Cs B b L ((zce (zbf st) vs []).map (λp=>(6,p))) m st wr/\CFr b w wr):=by
    unfold Hid;rw[HR.out];exact HM.out none wr (λr e=>by cases e) (HK.out wr HX.out) (zan HX.out _)
   clear HO HR;go_wp21;go_end0;exact⟨rfl,HC⟩
end
end Go.Proofs.YtceadeaodbadlaaGreatDoor
namespace Go.Proofs.YtceadeaodbadlaaGreatDoor
open Go.RowKit
variable {ty : Bool} {lv : Value}
def RTPost (s:ByteArray) (w:World) (e:Ending) (w':World):Prop:=
 Below w.heap.size w w'/\match zbe s with
  | .error p=>∃g n cap,e=.returned (.tuple #[.agg #[sZ g n cap],iZ p])
  | .ok t=>∃g cap,e=.returned (.tuple #[.agg #[sZ g (sz t) cap],.int .i64 (-1)])/\Rg g t w'/\sz t<=s.size
theorem zfh {fn:Func} {p u:Tmp} (h:fn.results=#[.cell p 33,.tmp u]) {tmps:Array Value} {w:World} {g:Nat} {v x:Value} {Q:Ending->World->Prop}
 (hp:tmps.getD p undef=(pZ g)) (hx:tmps.getD u undef=x) (hg:w.heap[g]? =some (.cells #[v] 33 (0,0))) (hq:Q (.returned (.tuple #[.agg #[v],x])) w):bodyPost Tryz.prog fn Q Exit.ret {tmps:=tmps,defers:=[]} w:=by
 refine bodyPost_ret ?_ rfl hq;have hl:=run_loadVar_row w g 33 33 #[v] (0,0) _ hg Tryz.underlying33 rfl zqm;rw[results_cell_tmp h,hp,hx];simp[asAddr,hl,Result.andThen]
theorem cell_far (w:World) (a c:Addr) {v:Value} (h:a.block≠c.block):(w.setCell a v).cell? c=w.cell? c:=
 z1s (w:=w) (a:=c) (Below.heap_setCell w a v c.block (λe=>h e.symm))
theorem zba (w:World) (a c:Addr) (v:Value) (h:c.block≠a.block):(w.setCell a v).drew.cell? c=w.cell? c:=cell_far w a c (λe=>h e.symm)
abbrev rdObj (s:ByteArray):Obj:=.cells #[.string s,.bool false,.int .i64 0,.int .i64 (-1),.slice none 0 0] 70
theorem zlq {w w':World} {o o':Obj} (h:Gb (w.heap.size+1) ((w.alloc o).alloc o') w'):Below w.heap.size w w':=
 ⟨h.os,h.tape,h.output,z1c (by simp;omega) h.size,λk hk=>(h.block k (by simp;omega) (by simp;omega)).trans ((Below.heap_alloc _ _ _ (by simp;omega)).trans (Below.heap_alloc _ _ _ hk))⟩
theorem zmw (s:ByteArray) (w:World) (hs:s.size<=300000):
 CZ 23 #[.string s] w (RTPost s w):=by
 have hE:Hid (zdf false (.slice none 0 0) (w.heap.size+1) s (3*s.size+3)):=(zox (w.heap.size+1) s hs (3*s.size+3) _ (z1d _)).1;have h0:R0 false (.slice none 0 0) (w.heap.size+1) s 0 (-1) ((w.alloc zar).alloc (rdObj s)):=heap_alloc2_new w _ _;go_enter Tryz.func23,Tryz.ntmps23;go_wp21;refine(hE.out 0 _ h0 (Nat.zero_le _) (by omega)).mono ?_;intro e w1 hp;obtain⟨G1,g,cap,u,rfl,R1,k1⟩:=hp.parts (zys (Nat.zero_le _));have hb:=k1.lt;have rbx:w1.heap[w.heap.size]? =some (.cells #[.slice none 0 0] 33 (0,0)):=G1.old ((Below.heap_alloc _ _ _ (by simp)).trans (z1v w _)) (by omega);have G2:=G1.alloc (zoa g (sz u) cap);have bx2:(w1.alloc (zoa g (sz u) cap)).heap[w1.heap.size]? =some (.cells #[sZ g (sz u) cap] 33 (0,0)):=z1v w1 _;have rbx2:(w1.alloc (zoa g (sz u) cap)).heap[w.heap.size]? =some (.cells #[.slice none 0 0] 33 (0,0)):=(Below.heap_alloc _ _ _ (by omega)).trans rbx;have R2:Rg g u (w1.alloc (zoa g (sz u) cap)):=R1.alloc _;have hgb:=k1.ne R1
 cases hq:pt s (3*s.size+3) 0 0 .nil with
 |error p=>
  rw[hq] at k1;obtain⟨z1,z2,z3,h1⟩:=k1;have HW:Hid (zbe s=.error p):=by unfold Hid zbe;rw[hq]
  have hW:R0 false (.slice none 0 0) (w.heap.size+1) s p p (w1.alloc (zoa g (sz u) cap)):=h1.alloc _;have c2:=hW.c2;rcases z1r p s.size with hlt|hge
  ·have d1:decide ((p:Int)<(s.size:Int))=true:=by simp;omega
   have hne1:w1.heap.size≠w.heap.size:=by omega
   have hne2:w.heap.size+1≠w.heap.size:=by omega
   go_wp21;refine(zfu false (.slice none 0 0) (w.heap.size+1) s p p _ hW).mono ?_;rintro e w' ⟨rfl,rfl⟩;go_wp21;have bxW:=bx2;have rbxW:=rbx2;have cx:=zab bxW;have c3:=hW.c3;have rcb:=zab rbxW;have rfb:=zaf rbxW
   go_region_held3 (λwq=>cZ wq w1.heap.size 0 (sZ g (sz u) cap)/\cZ wq (w.heap.size+1) 3 (iZ p))
    (first|(go_keep;done)|(go_split_ands;exact⟨cx,c3⟩)|exact⟨Eq.trans (zba _ ⟨w.heap.size,0,none⟩ ⟨w1.heap.size,0,none⟩ _ hne1) cx,Eq.trans (zba _ ⟨w.heap.size,0,none⟩ ⟨w.heap.size+1,3,none⟩ _ hne2) c3⟩)
    (fail)
   go_wp21;refine zfh rfl rfl rfl (zad (w:=(w1.alloc (zoa g (sz u) cap)).drew) rbxW) ?_;exact⟨(zlq (G2.drewN 1)).setCell (z1d _) _,by rw[HW.out];exact⟨g,sz u,cap,rfl⟩⟩
  ·have d1:decide ((p:Int)<(s.size:Int))=false:=by simp;omega
   have hne1:w1.heap.size≠w.heap.size:=by omega
   have hne2:w.heap.size+1≠w.heap.size:=by omega
   go_wp21;have bxW:=bx2;have rbxW:=rbx2;have cx:=zab bxW;have c3:=hW.c3;have rcb:=zab rbxW;have rfb:=zaf rbxW
   go_region_held3 (λwq=>cZ wq w1.heap.size 0 (sZ g (sz u) cap)/\cZ wq (w.heap.size+1) 3 (iZ p))
    (first|(go_keep;done)|(go_split_ands;exact⟨cx,c3⟩)|exact⟨Eq.trans (zba _ ⟨w.heap.size,0,none⟩ ⟨w1.heap.size,0,none⟩ _ hne1) cx,Eq.trans (zba _ ⟨w.heap.size,0,none⟩ ⟨w.heap.size+1,3,none⟩ _ hne2) c3⟩)
    (fail)
   go_wp21;refine zfh rfl rfl rfl (zad (w:=(w1.alloc (zoa g (sz u) cap)).drew) rbxW) ?_;exact⟨(zlq (G2.drewN 1)).setCell (z1d _) _,by rw[HW.out];exact⟨g,sz u,cap,rfl⟩⟩
 |ok r=>
  obtain⟨t,j⟩:=r;rw[hq] at k1;obtain⟨rfl,z1,z2,h1⟩:=k1;have h2:R0 false (.slice none 0 0) (w.heap.size+1) s j (-1) (w1.alloc (zoa g (sz u) cap)):=h1.alloc _;have c2:=h2.c2;rcases z1r j s.size with hlt|hge
  ·have HW:Hid (zbe s=.error j):=by unfold Hid zbe;rw[hq];exact if_pos hlt
   have d1:decide ((j:Int)<(s.size:Int))=true:=by simp;omega
   have hne1:w1.heap.size≠w.heap.size:=by omega
   have hne2:w.heap.size+1≠w.heap.size:=by omega
   go_wp21;refine(zhg (w.heap.size+1) s j _ h2).mono ?_;rintro e w3 ⟨rfl,hW,g3⟩;have bxW:=g3.old bx2 (by omega);have rbxW:=g3.old rbx2 (by omega);go_wp21;have cx:=zab bxW;have c3:=hW.c3;have rcb:=zab rbxW;have rfb:=zaf rbxW
   go_region_held3 (λwq=>cZ wq w1.heap.size 0 (sZ g (sz u) cap)/\cZ wq (w.heap.size+1) 3 (iZ j))
    (first|(go_keep;done)|(go_split_ands;exact⟨cx,c3⟩)|exact⟨Eq.trans (zba _ ⟨w.heap.size,0,none⟩ ⟨w1.heap.size,0,none⟩ _ hne1) cx,Eq.trans (zba _ ⟨w.heap.size,0,none⟩ ⟨w.heap.size+1,3,none⟩ _ hne2) c3⟩)
    (fail)
   go_wp21;refine zfh rfl rfl rfl (zad (w:=w3.drew) rbxW) ?_;exact⟨(zlq ((G2.trans g3).drewN 1)).setCell (z1d _) _,by rw[HW.out];exact⟨g,sz u,cap,rfl⟩⟩
  ·have HW:Hid (zbe s=.ok u):=by unfold Hid zbe;rw[hq];exact if_neg (by omega)
   have d1:decide ((j:Int)<(s.size:Int))=false:=by simp;omega
   have hW:=h2;have hne1:w1.heap.size≠w.heap.size:=by omega
   have hne2:w.heap.size+1≠w.heap.size:=by omega
   go_wp21;have bxW:=bx2;have rbxW:=rbx2;have cx:=zab bxW;have c3:=hW.c3;have rcb:=zab rbxW;have rfb:=zaf rbxW
   go_region_held3 (λwq=>cZ wq w1.heap.size 0 (sZ g (sz u) cap)/\cZ wq (w.heap.size+1) 3 (.int .i64 (-1)))
    (first|(go_keep;done)|(go_split_ands;exact⟨cx,c3⟩)|exact⟨Eq.trans (zba _ ⟨w.heap.size,0,none⟩ ⟨w1.heap.size,0,none⟩ _ hne1) cx,Eq.trans (zba _ ⟨w.heap.size,0,none⟩ ⟨w.heap.size+1,3,none⟩ _ hne2) c3⟩)
    (fail)
   go_wp21;refine zfh rfl rfl rfl (zad (w:=(w1.alloc (zoa g (sz u) cap)).drew) rbxW) ?_;exact⟨(zlq (G2.drewN 1)).setCell (z1d _) _,by rw[HW.out];exact⟨g,cap,rfl,(Rg.drew R2).setBox (R1.neBox rbx) _,by omega⟩⟩
end Go.Proofs.YtceadeaodbadlaaGreatDoor
namespace Go.Proofs.YtceadeaodbadlaaGreatDoor
open Go.RowKit
section
variable {st:List Se} {B b m N c g r:Nat} {t:Ty} {L S u:Value} {w w2:World}
theorem zye:(Tryz.prog.info? 3).map (λi=>(i.zero,i.size,i.bytes))=some (some (.int .i64 0),1,8):=by kernel_rfl
def zfx:COut->Ce
 | .ok _=>none
 | .error r=>some r
def CPost (B b:Nat) (L:Value) (m:Nat) (st:List Se) (N:Nat) (r:COut) (w:World) (e:Ending) (w':World):Prop:=
 ∃(t:Ty) (g cap:Nat),e=.returned (.agg #[sZ g (sz t) cap])/\Rg g t w'/\Cs B b L (zfx r) m st w'/\CFr b w w'/\(∀u,r=.ok u->t=u)/\(∀f,r=.error f->sz t<=N)
theorem CPost.form {e:Ending} {w':World} {r:COut} (h:CPost B b L m st N r w e w'):∃n g cap,e=.returned (.agg #[sZ g n cap]):=by
 obtain⟨t,g,cap,rfl,_⟩:=h;exact⟨_,g,cap,rfl⟩
theorem zgc {w1:World} {q:Nat} (mv:∀(ε':Ce) (w':World),(∀r,ε'=some r->1<=r.1)->Ck b L S (cErr ε') (cAt ε') m w'->w.grownBy w' (some b)->Cs B b L ε' m st w'/\CFr b w w') (hc:1<=c) (hN:1<=N) (B1:Below w.heap.size w w1) (hR:Rg g tI w2) (hg:w1.heap.size<=g) (C2:Ck b L S c q m w2) (G2:w1.grownBy w2 (some b)) (hr:w.heap.size<=r) (hr1:r<w1.heap.size) (hb:b<w.heap.size) (cap:Nat):
 CPost B b L m st N (.error (c,q)) w (.returned (.agg #[sZ g 1 cap])) (w2.setCell ⟨r,0,none⟩ u):=by
 have G:w.grownBy (w2.setCell ⟨r,0,none⟩ u) (some b):=((zan B1 _).trans G2).andThen (zai _ _) (λj hj=>by cases hj;exact .inl (by omega));have C:Ck b L S c q m (w2.setCell ⟨r,0,none⟩ u):=C2.kept (zai _ _) (by simp;omega);obtain⟨h1,h2⟩:=mv (some (c,q)) _ (λr e=>by cases e;exact hc) C G;exact⟨tI,g,cap,rfl,hR.kept (zai _ _) (by simp;omega),h1,h2,(λu e=>by cases e),λf _=>hN⟩
theorem zsh (mv:∀(ε':Ce) (w':World),(∀r,ε'=some r->1<=r.1)->Ck b L S (cErr ε') (cAt ε') m w'->w.grownBy w' (some b)->Cs B b L ε' m st w'/\CFr b w w') (B2:Below w.heap.size w w2) (hR:Rg g t w2) (hg:g≠r) (C2:Ck b L S 0 0 m w2) (hr:w.heap.size<=r) (hb:b<w.heap.size) (cap:Nat):
 CPost B b L m st N (.ok t) w (.returned (.agg #[sZ g (sz t) cap])) (w2.setCell ⟨r,0,none⟩ u):=by
 have G:w.grownBy (w2.setCell ⟨r,0,none⟩ u) (some b):=(zan B2 _).andThen (zai _ _) (λj hj=>by cases hj;exact .inl (by omega));have C:Ck b L S 0 0 m (w2.setCell ⟨r,0,none⟩ u):=C2.kept (zai _ _) (by simp;omega);obtain⟨h1,h2⟩:=mv none _ (λr e=>by cases e) C G;exact⟨t,g,cap,rfl,hR.kept (zai _ _) (by simp;exact λe=>hg e.symm),h1,h2,(λu e=>Except.ok.inj e),(λf e=>by cases e)⟩
theorem Rg.notBox {a:Option Addr} {n:Nat} (h:Rg g t w) (hr:w.cell? ⟨r,0,none⟩=some (.slice a n c)):g≠r:=by
 rintro rfl;obtain⟨z,hz⟩:=h.zero;rw[hr] at hz
 cases hz
theorem named_free (B b:Nat) (L:Value) (m N:Nat) (st:List Se) (c ta tb:Nat) (ga va pa:Option Addr) (gn gc vn vc pn pc tat tto:Nat) (ts:List Ty) (w:World) (h:Cs B b L none m st w) (hst:StOk st) (hl:st.length<=100000) (hm:m=50000) (hN:1<=N) (hG:Ls w (.slice ga gn gc) ts) (hgl:ts.length<=60000) (hgs:∀u∈ts,sz u<=60000) (hc:97<=c/\c<123) (hz:zbf st c=none):
 CZ 98 #[pZ b,.agg (tmA 120 c ta tb ga va pa gn gc vn vc pn pc tat tto)] w (CPost B b L m st N (.error (3,tat)) w):=by
 obtain⟨S,hk,hs,mv⟩:=h.mv;have hblt:=h.lt;have HM:=hid mv;have HMM:=hid hm;clear hm;have HGN:Hid (gn=ts.length):=by obtain⟨a,cap,e,_⟩:=hG;simp at e;exact e.2.1
 have HGS:=hid hgs;have B0:Below w.heap.size w ((w.alloc (.cells (tmA 120 c ta tb ga va pa gn gc vn vc pn pc tat tto) 76)).alloc rbO):=(bal w _).alloc (by simp) _;have hbx:((w.alloc (.cells (tmA 120 c ta tb ga va pa gn gc vn vc pn pc tat tto) 76)).alloc rbO).heap[w.heap.size]? =some (.cells (tmA 120 c ta tb ga va pa gn gc vn vc pn pc tat tto) 76 (0,0)):=(Below.heap_alloc _ _ _ (by simp)).trans (z1v w _)
 have hrx:((w.alloc (.cells (tmA 120 c ta tb ga va pa gn gc vn vc pn pc tat tto) 76)).alloc rbO).heap[w.heap.size+1]? =some (.cells #[.slice none 0 0] 33 (0,0)):=by
  have:=z1v (w.alloc (.cells (tmA 120 c ta tb ga va pa gn gc vn vc pn pc tat tto) 76)) rbO;simpa using this
 have hW:((w.alloc (.cells (tmA 120 c ta tb ga va pa gn gc vn vc pn pc tat tto) 76)).alloc rbO).heap.size=w.heap.size+2:=by simp
 have HB0:=hid B0;have HHK:Hid (∀X,Below w.heap.size w X->Ck b L S 0 0 m X):=λX hX=>hk.below hX
 have HLL:Hid (∀X,Below w.heap.size w X->Ls X (.slice ga gn gc) ts):=λX hX=>hG.below hX
 have FN:Hid (∀X,Below w.heap.size w X->CZ 139 #[pZ b,uZ c] X λe w'=>e=.returned (.int .i64 (-1))/\w'=X):=by
  intro X hX;refine(zlj b L S 0 0 m c (skl st) X (hk.below hX) (hs.below hX) (by simp[skl];exact hl) (by omega) (λx hx=>(hst.skl2 x hx).1)).mono ?_;rintro e w' ⟨z,rfl,hl',rfl⟩;refine⟨?_,rfl⟩;rcases id hl' with ⟨rfl,_⟩|⟨k,x,rfl,hx,_⟩
  ·rfl
  ·exact absurd ((zxt hl' hx).symm.trans hz) (by simp)
 have CN:Hid _:=zjm c hc;clear h mv hk hs hG B0 hz;go_enter Tryz.func98,Tryz.ntmps98;go_wp21;generalize (w.alloc (.cells (tmA 120 c ta tb ga va pa gn gc vn vc pn pc tat tto) 76)).alloc rbO=X at *
 have xc1:cZ X w.heap.size 1 (uZ c):=cbl hbx;have xc7:cZ X w.heap.size 7 (iZ tat):=cbl hbx;refine(CN _).mono ?_;rintro e w' ⟨rfl,rfl⟩;go_wp21;refine(FN _ HB0).mono ?_;rintro e w'' ⟨rfl,rfl⟩;go_wp21;refine(zda b L S 0 m 3 tat _ (HHK _ HB0)).mono ?_;rintro e w2 ⟨g2,cap2,rfl,R2,hg2,C2,G2⟩;have hb2:=(G2.block (w.heap.size+1) (by omega) (by simp;omega)).trans hrx;have c2:=zab hb2;have z2:=zaf hb2
 have HP:Hid (∀u cap,CPost B b L m st N (.error (3,tat)) w (.returned (.agg #[sZ g2 1 cap])) (w2.setCell ⟨w.heap.size+1,0,none⟩ u)):=by
  intro u cap;exact zgc HM.out (by decide) hN HB0.out R2 hg2 C2 G2 (by omega) (by omega) hblt cap
 clear R2 C2 G2 hg2;go_wp21;refine zah rfl rfl (zad hb2) ?_;exact HP _ _
end
end Go.Proofs.YtceadeaodbadlaaGreatDoor
