import Derived.Test.YtceadeaodbadlaaGreatDoorGeneralP2
import Derived.Deep.RegionWith
import Derived.Deep.RegionHeld3
import Derived.Laws.IdiomStrings
import Derived.Deep.RegionLaw
import Derived.Deep.AppendLies
import Derived.Deep.DeepCutAuto
set_option linter.unusedVariables false
set_option linter.unusedSimpArgs false
set_option maxRecDepth 100000
set_option maxHeartbeats 16000000
namespace Go.Proofs.YtceadeaodbadlaaGreatDoor
open Go.RowKit
theorem zuz (B b:Nat) (L:Value) (m N:Nat) (st:List Se) (c ta tb:Nat) (ga va pa:Option Addr) (gn gc vn vc pn pc tat tto:Nat) (ts:List Ty) (w:World) (h:Cs B b L none m st w) (hst:StOk st) (hl:st.length<=100000) (hm:m=50000) (hN:1<=N)
 (hG:Ls w (.slice ga gn gc) ts) (hgl:ts.length<=60000) (hgs:∀u∈ts,sz u<=60000) (hc:97<=c/\c<123) (s:Sch) (hz:zbf st c=some s):
 CZ 98 #[pZ b,.agg (tmA 120 c ta tb ga va pa gn gc vn vc pn pc tat tto)] w (CPost B b L m st N (zbn s ts tat) w):=by
 obtain⟨S,hk,hs,mv⟩:=h.mv;have hblt:=h.lt;have HM:=hid mv;have HMM:=hid hm;clear hm;have HGN:Hid (gn=ts.length):=by obtain⟨a,cap,e,_⟩:=hG;simp at e;exact e.2.1
 have HGS:=hid hgs;have B0:Below w.heap.size w ((w.alloc (.cells (tmA 120 c ta tb ga va pa gn gc vn vc pn pc tat tto) 76)).alloc rbO):=(bal w _).alloc (by simp) _;have hbx:((w.alloc (.cells (tmA 120 c ta tb ga va pa gn gc vn vc pn pc tat tto) 76)).alloc rbO).heap[w.heap.size]? =some (.cells (tmA 120 c ta tb ga va pa gn gc vn vc pn pc tat tto) 76 (0,0)):=(Below.heap_alloc _ _ _ (by simp)).trans (z1v w _)
 have hrx:((w.alloc (.cells (tmA 120 c ta tb ga va pa gn gc vn vc pn pc tat tto) 76)).alloc rbO).heap[w.heap.size+1]? =some (.cells #[.slice none 0 0] 33 (0,0)):=by
  have:=z1v (w.alloc (.cells (tmA 120 c ta tb ga va pa gn gc vn vc pn pc tat tto) 76)) rbO;simpa using this
 have hW:((w.alloc (.cells (tmA 120 c ta tb ga va pa gn gc vn vc pn pc tat tto) 76)).alloc rbO).heap.size=w.heap.size+2:=by simp
 have HB0:=hid B0;have HHK:Hid (∀X,Below w.heap.size w X->Ck b L S 0 0 m X):=λX hX=>hk.below hX
 have HLL:Hid (∀X,Below w.heap.size w X->Ls X (.slice ga gn gc) ts):=λX hX=>hG.below hX
 obtain⟨k,x,hlast,hx,hxc,hxs⟩:=env_at hz
 have FN:Hid (∀X,Below w.heap.size w X->CZ 139 #[pZ b,.int .u8 (c:Int)] X λe w'=>e=.returned (.int .i64 (k:Int))/\w'=X):=by
  intro X hX;refine(zlj b L S 0 0 m c (skl st) X (hk.below hX) (hs.below hX) (by simp[skl];exact hl) (by omega) (λx hx=>(hst.skl2 x hx).1)).mono ?_;rintro e w' ⟨z,rfl,hl',rfl⟩;rw[zih hl' hlast];exact⟨rfl,rfl⟩
 have CN:Hid _:=zjm c hc;have HWT:zbe ⟨#[]⟩=.error 0:=by kernel_rfl
 have RT:Hid (∀X,CZ 23 #[.string ⟨#[]⟩] X λe w'=>Below X.heap.size X w'/\∃g n cap,e=.returned (.tuple #[.agg #[sZ g n cap],.int .i64 0])):=by
  intro X;refine(zmw ⟨#[]⟩ X (by decide)).mono ?_;rintro e w' ⟨hb,hp⟩;rw[HWT] at hp;exact⟨hb,hp⟩
 obtain⟨t,v⟩:=s
 have hmem:∃y∈st,x=(y.c,y.t,y.o):=by
  have:=z1m hx;obtain⟨y,hy,e⟩:=z1z.1 this;exact⟨y,hy,e.symm⟩
 obtain⟨y,hy,rfl⟩:=hmem;simp only[Prod.mk.injEq] at hxs;obtain⟨rfl,rfl⟩:=hxs;obtain⟨hy1,hyok,hysz,hyl,hy9⟩:=hst y hy;have hkl:k<st.length:=by have:=(z1b.1 hx).1;simpa [skl] using this
 obtain⟨a,cap,hSe,hv⟩:=hs;rw[show (skl st).length=st.length by simp[skl]] at hSe;subst hSe
 have HV:Hid (∀X,Below w.heap.size w X->∃g h cp va vc,a=some ⟨g,0,none⟩/\g<w.heap.size/\X.cell? ⟨g,k*3+1,none⟩=some (sZ h (sz y.t) cp)/\Rg h y.t X/\X.cell? ⟨g,k*3+2,none⟩=some (.slice va y.o.length vc)/\Is X (.slice va y.o.length vc) (y.o.map (·+30))):=by
  intro X hX;rcases hv with e|⟨g,rfl,hg,h⟩
  ·rw[e] at hx;simp at hx
  ·obtain⟨h',cp,V,h1,h2,h3,h4,h5⟩:=h k _ hx
   obtain⟨va,vc,rfl,h6⟩:=h5;rw[z2a] at *
   exact⟨g,h',cp,va,vc,rfl,hg,(hX.cell (p:=⟨g,_,none⟩) hg).trans h2,h3.below hX,(hX.cell (p:=⟨g,_,none⟩) hg).trans h4,Is.below ⟨va,vc,by rw[z2a],h6⟩ hX⟩
 have HOT:=hid hyok;have HTS:=hid hysz;have HVM:=hid hyl;have HV9:=hid hy9;clear h mv hk hG B0 hz hv hx hlast hy hyok hysz hyl hy9 hxc hy1 HWT hst;generalize y.t=t at *
 generalize y.o=v at *
 generalize hnn:st.length=sl at *
 clear hnn;go_enter Tryz.func98,Tryz.ntmps98;go_wp21;generalize (w.alloc (.cells (tmA 120 c ta tb ga va pa gn gc vn vc pn pc tat tto) 76)).alloc rbO=W at *
 have xc1:W.cell? ⟨w.heap.size,1,none⟩=some (.int .u8 (c:Int)):=cbl hbx;refine(CN _).mono ?_;rintro e w' ⟨rfl,rfl⟩;go_wp21;refine(FN _ HB0).mono ?_;rintro e w'' ⟨rfl,rfl⟩;go_wp21;refine(RT _).mono ?_;rintro e w1 ⟨b1,g1,n1,cap1,rfl⟩;have hmk:∀X,(Instr.makeSlice 63 (.int .i64 0) (.int .i64 0)).run Tryz.prog X=.ok (sZ X.heap.size 0 0) (X.alloc (.cells #[] 3)):=λX=>by kernel_rfl
 have bA:Below w1.heap.size w1 ((w1.alloc (tbO g1 n1 cap1)).alloc (.cells #[] 3)):=(bal w1 _).alloc (by simp) _;have bY:Below w''.heap.size w'' ((w1.alloc (tbO g1 n1 cap1)).alloc (.cells #[] 3)):=b1.trans (bA.mono b1.size);have sY:((w1.alloc (tbO g1 n1 cap1)).alloc (.cells #[] 3)).heap.size=w1.heap.size+2:=by simp
 have kY:((w1.alloc (tbO g1 n1 cap1)).alloc (.cells #[] 3)).heap[w1.heap.size]? =some (.cells #[sZ g1 n1 cap1] 33 (0,0)):=(Below.heap_alloc _ _ _ (by simp)).trans (z1v w1 _);have s1:=b1.size;clear bA RT CN FN;go_wp21;generalize (w1.alloc (tbO g1 n1 cap1)).alloc (.cells #[] 3)=Y at *
 have HBY:Hid (Below w.heap.size w Y):=HB0.out.trans (bY.mono HB0.out.size)
 go_loopw [12] (λi wr=>i=.int .i64 0/\wr=Y) (λ_ _=>0)
 case atStart=>exact⟨rfl,rfl⟩
 case round=>
  obtain⟨rfl,rfl⟩:=hrel;obtain⟨g,h,cp,va',vc',rfl,hg,y1,R,y2,I⟩:=HV _ HBY;have HRt0:=hid R;have HIs0:=hid I;have cb:=HHK.out _ HBY.out;have yb:wr.cell? ⟨b,1,none⟩=some (sZ g sl cap):=cbl cb;have ykc:=zab kY;have ykf:=zaf kY;have hne:h≠w1.heap.size:=R.notBox ykc;have bx4:=(bY.block w.heap.size (by omega)).trans hbx;have rx4:=(bY.block (w.heap.size+1) (by omega)).trans hrx;clear R I cb HV;have e1:(0:Int)<=(k:Int):=by omega
  have e2:(k:Int)<(sl:Int):=by omega
  generalize hnt:sz t=nt at *
  have HNT:=hid hnt;generalize hvl:v.length=vl at *
  have HVL:=hid hvl.symm;clear hnt hvl;have kf:∀x j,x≠w1.heap.size->(wr.setCell ⟨w1.heap.size,0,none⟩ (sZ h nt cp)).cell? ⟨x,j,none⟩=wr.cell? ⟨x,j,none⟩:=λx j hx=>cell_far wr _ _ (λe=>hx e.symm)
  have yb':=(kf b 1 (by omega)).trans yb;have y2':=(kf g (k*3+2) (by omega)).trans y2;have BX:Below w.heap.size w (wr.setCell ⟨w1.heap.size,0,none⟩ (sZ h nt cp)):=HBY.out.setCell (p:=⟨w1.heap.size,0,none⟩) (by show w.heap.size<=w1.heap.size;omega) _;have HBX:=hid BX;have HGr:wr.grownBy (wr.setCell ⟨w1.heap.size,0,none⟩ (sZ h nt cp)) (some w1.heap.size):=zai _ _;have HRt:Hid _:=HRt0.out.kept HGr (by simp;exact λe=>hne e.symm);have kbx:=zad (v:=(sZ h nt cp)) kY;have rbx:(wr.setCell ⟨w1.heap.size,0,none⟩ (sZ h nt cp)).heap[w.heap.size+1]? =_:=(Below.heap_setCell wr _ _ _ (by show w.heap.size+1≠w1.heap.size;omega)).trans rx4;have bx5:(wr.setCell ⟨w1.heap.size,0,none⟩ (sZ h nt cp)).heap[w.heap.size]? =_:=(Below.heap_setCell wr _ _ _ (by show w.heap.size≠w1.heap.size;omega)).trans bx4;have sX:(wr.setCell ⟨w1.heap.size,0,none⟩ (sZ h nt cp)).heap.size=w1.heap.size+2:=by simp only[World.setCell,Array.size_modify];exact sY
  have HIs:Hid (Is (wr.setCell ⟨w1.heap.size,0,none⟩ (sZ h nt cp)) (.slice va' vl vc') (v.map (·+30))):=HIs0.out.at' (by rw[sX,sY];exact z1d _) (λg' z hz=>Below.heap_setCell wr _ _ _ (by rintro rfl;rw[ykc] at hz;cases hz));have HLs:Hid _:=HLL.out _ HBX.out;have HCk:Hid _:=HHK.out _ HBX.out;have xc4:(wr.setCell ⟨w1.heap.size,0,none⟩ (sZ h nt cp)).cell? ⟨w.heap.size,4,none⟩=some (.slice ga gn gc):=cbl bx5;have xc7:(wr.setCell ⟨w1.heap.size,0,none⟩ (sZ h nt cp)).cell? ⟨w.heap.size,7,none⟩=some (.int .i64 (tat:Int)):=cbl bx5;have xc4':=xc4;replace HTS:Hid (sz t<=60000):=by unfold Hid;rw[HNT.out];exact HTS
  replace HVM:Hid (v.length<=60000):=by unfold Hid;rw[<-HVL.out];exact HVM
  clear kf bx4 rx4 HRt0 HIs0 HHK HLL bY b1 BX HGr hbx hrx kY HB0 HBY;have HT:Hid (zbn (t,v) ts tat=if ts.length≠v.length then .error (4,tat) else if 50000<sz (putT v ts t) then .error (8,tat) else .ok (putT v ts t)):=rfl;by_cases hcnt:gn=vl
  ·have hc1:((gn:Int) !=(vl:Int))=false:=by rw[hcnt];simp
   have HCN:Hid (ts.length=v.length):=by unfold Hid;rw[<-HGN.out,hcnt];exact HVL
   clear hcnt;go_wp21;generalize wr.setCell ⟨w1.heap.size,0,none⟩ (sZ h nt cp)=X at *
   have sXl:=sX.symm
   have SZ:Hid (∀Y,Below X.heap.size X Y->CZ 140 #[.agg #[sZ h nt cp],.slice va' vl vc',.slice ga gn gc] Y λe w'=>e=.returned (.int .i64 (sz (putT v ts t):Int))/\Below Y.heap.size Y w'):=by
    intro Y hY;have:=ztm t v ts h cp (.slice va' vl vc') (.slice ga gn gc) Y (HRt.out.below hY) HTS.out (HIs.out.below hY) (Ls.below HLs.out hY) HCN.out HVM.out HGS.out HV9.out;rw[HNT.out] at this;exact this
   have cm:X.cell? ⟨b,4,none⟩=some (.int .i64 50000):=by rw[z1f HCk.out,HMM.out];rfl
   have ck:X.cell? ⟨w1.heap.size,0,none⟩=some (sZ h nt cp):=zab kbx;have bX1:Below X.heap.size X X.drew:=(Below.refl _ X).drew;have HX1:Hid (CZ 140 #[.agg #[sZ h nt cp],.slice va' vl vc',.slice ga gn gc] X.drew λe w'=>e=.returned (.int .i64 (sz (putT v ts t):Int))/\Below X.drew.heap.size X.drew w'):=SZ.out X.drew bX1;generalize hS:sz (putT v ts t)=S1 at *
   have HS1:=hid hS;clear hS bX1;refine wp_region_held_drew (S:=(λwq=>wq.cell? ⟨b,4,none⟩=some (.int .i64 50000)/\wq.cell? ⟨w1.heap.size,0,none⟩=some (sZ h nt cp)/\wq.cell? ⟨w.heap.size,4,none⟩=some (.slice ga gn gc))) (by kernel_rfl) (⟨cm,ck,xc4⟩) (λhS=>?_);refine tkS 0 (pZ b) hS ?_;refine tkS 1 (pZ b) hS ?_;refine tkS 2 (.pointer (some ⟨b,4,none⟩)) hS ?_;refine tkL 3 (.int .i64 50000) hS ?_;refine tkS 4 (.bool true) hS ?_;refine tkS 5 (.bool true) hS ?_;refine tkL 6 (.agg #[sZ h nt cp]) hS ?_;refine tkS 7 (.slice va' vl vc') hS ?_;refine tkS 8 (.pointer (some ⟨w.heap.size,4,none⟩)) hS ?_;refine tkL 9 (.slice ga gn gc) hS ?_;refine tkS 11 (pZ b) hS ?_;refine tkS 12 (pZ b) hS ?_;refine tkS 13 (.pointer (some ⟨b,4,none⟩)) hS ?_;refine tkL 14 (.int .i64 50000) hS ?_;refine rd1 10 (λKK hK=>?_);go_simp;go_at_call 140;refine(HX1).mono ?_;rintro e wz ⟨rfl,bz⟩;have ym:wz.cell? ⟨b,4,none⟩=some (.int .i64 50000):=(bz.cell (p:=⟨b,4,none⟩) (show b<X.heap.size by omega)).trans cm;have yk:wz.cell? ⟨w1.heap.size,0,none⟩=some (sZ h nt cp):=(bz.cell (p:=⟨w1.heap.size,0,none⟩) (show w1.heap.size<X.heap.size by omega)).trans ck;have y4:wz.cell? ⟨w.heap.size,4,none⟩=some (.slice ga gn gc):=(bz.cell (p:=⟨w.heap.size,4,none⟩) (show w.heap.size<X.heap.size by omega)).trans xc4;refine hK.out _ _ ⟨ym,yk,y4⟩ (λhS=>nrm ?_);refine tkS 15 (.bool (decide ((50000:Int)<(S1:Int)))) hS ?_;refine tkS 16 (.bool (decide ((50000:Int)<(S1:Int)))) hS ?_;refine wpAnyH_done (by kernel_rfl) ?_ _;have BZ:Below X.heap.size X wz:=⟨bz.os,bz.tape,bz.output,bz.size,bz.block⟩
   have HBZ:Hid (Below w.heap.size w wz):=HBX.out.trans (BZ.mono HBX.out.size);have HCz:Hid (Ck b L (sZ g sl cap) 0 0 m wz):=Ck.below HCk.out BZ;have z7:=(BZ.cell (p:=⟨w.heap.size,7,none⟩) (show w.heap.size<X.heap.size by omega)).trans xc7;have zr:=(BZ.block (w.heap.size+1) (by omega)).trans rbx;have zsz:=BZ.size;generalize hbg:decide ((50000:Int)<(S1:Int))=bg at *
   have HBG:=hid hbg;clear hbg
   cases bg
   ·have hbig:¬(50000:Int)<(S1:Int):=of_decide_eq_false HBG.out
    have HR:Hid (zbn (t,v) ts tat=.ok (putT v ts t)):=by
     unfold Hid;rw[HT.out,if_neg (λe=>e HCN.out),if_neg (by omega)]
    have PU:Hid (CZ 41 #[.agg #[sZ h nt cp],.slice va' vl vc',.slice ga gn gc] wz (ztz (putT v ts t) wz)):=by
     have:=zws t HOT.out v ts h cp (.slice va' vl vc') (.slice ga gn gc) wz (HRt.out.below BZ) HTS.out (HIs.out.below BZ) (Ls.below HLs.out BZ) HCN.out HVM.out HV9.out (by rw[HS1.out];omega);rw[HNT.out] at this;exact this
    clear hbig HX1 SZ;go_wp21;refine PU.mono ?_;rintro e w2 ⟨g2,cap2,rfl,R2,b2⟩;have hb2:=(b2.block (w.heap.size+1) (by omega)).trans zr;have c2:=zab hb2;have z2:=zaf hb2
    have HP:Hid (∀u cap,CPost B b L m st N (zbn (t,v) ts tat) w (.returned (.agg #[sZ g2 (sz (putT v ts t)) cap])) (w2.setCell ⟨w.heap.size+1,0,none⟩ u)):=by
     intro u cap;rw[HR.out];exact zsh HM.out (HBZ.out.trans (b2.mono HBZ.out.size)) R2 (R2.notBox c2) (HCz.out.below b2) (by omega) hblt cap
    clear R2 HR HT PU HS1;generalize sz (putT v ts t)=S2 at *
    go_wp21;refine zah rfl rfl (zad hb2) ?_;exact HP _ _
   ·have hbig:(50000:Int)<(S1:Int):=of_decide_eq_true HBG.out
    have HR:Hid (zbn (t,v) ts tat=.error (8,tat)):=by
     unfold Hid;rw[HT.out,if_neg (λe=>e HCN.out),if_pos (by omega)]
    clear hbig HX1 SZ;go_wp21;refine(zda b L (sZ g sl cap) 0 m 8 tat wz HCz).mono ?_;rintro e w2 ⟨g2,cap2,rfl,R2,hg2,C2,G2⟩;have hb2:=(G2.block (w.heap.size+1) (by omega) (by simp;omega)).trans zr;have c2:=zab hb2;have z2:=zaf hb2
    have HP:Hid (∀u cap,CPost B b L m st N (zbn (t,v) ts tat) w (.returned (.agg #[sZ g2 1 cap])) (w2.setCell ⟨w.heap.size+1,0,none⟩ u)):=by
     intro u cap;rw[HR.out];exact zgc HM.out (by decide) hN HBZ.out R2 hg2 C2 G2 (by omega) (by omega) hblt cap
    clear R2 C2 G2 hg2 HR HT;go_wp21;refine zah rfl rfl (zad hb2) ?_;exact HP _ _
  ·have hc1:((gn:Int) !=(vl:Int))=true:=by rw[bne_iff_ne];omega
   have HR:Hid (zbn (t,v) ts tat=.error (4,tat)):=by
    unfold Hid;rw[HT.out,if_pos (by rw[<-HGN.out,<-HVL.out];exact hcnt)]
   clear hcnt;go_wp21;generalize wr.setCell ⟨w1.heap.size,0,none⟩ (sZ h nt cp)=X at *
   have sXl:=sX.symm;refine(zda b L (sZ g sl cap) 0 m 4 tat X HCk).mono ?_;rintro e w2 ⟨g2,cap2,rfl,R2,hg2,C2,G2⟩;have hb2:=(G2.block (w.heap.size+1) (by omega) (by simp;omega)).trans rbx;have c2:=zab hb2;have z2:=zaf hb2
   have HP:Hid (∀u cap,CPost B b L m st N (zbn (t,v) ts tat) w (.returned (.agg #[sZ g2 1 cap])) (w2.setCell ⟨w.heap.size+1,0,none⟩ u)):=by
    intro u cap;rw[HR.out];exact zgc HM.out (by decide) hN HBX.out R2 hg2 C2 G2 (by omega) (by omega) hblt cap
   clear R2 C2 G2 hg2 HR HT;go_wp21;refine zah rfl rfl (zad hb2) ?_;exact HP _ _
theorem set_at {w:World} {g k:Nat} {u:Value} {A:Array Value} {T:TypeId} (h:w.heap[g]? =some (.cells A T (0,0))):(w.setCell ⟨g,k,none⟩ u).heap[g]? =some (.cells (A.setIfInBounds k u) T (0,0)):=by
 simp[World.setCell,z1i,h]
structure Lt (Y:World) (gv:Nat) (v:List Nat) (n k:Nat) (wr:World):Prop where
 grown:Y.grownBy wr (some gv)
 size:wr.heap.size=Y.heap.size
 row:∃A,wr.heap[gv]? =some (.cells A 3 (0,0))/\A.size=n/\∀j o,j<k->v[j]? =some o->A[j]? =some (.int .i64 ((o+30:Nat):Int))
theorem Lt.step {Y:World} {gv:Nat} {v:List Nat} {n k o:Nat} {wr:World} (h:Lt Y gv v n k wr) (hk:k<n) (hv:v[k]? =some o):Lt Y gv v n (k+1) (wr.setCell ⟨gv,k,none⟩ (.int .i64 ((o+30:Nat):Int))):=by
 obtain⟨A,hA,hs,hr⟩:=h.row;refine⟨h.grown.trans ⟨rfl,rfl,rfl,by simp[World.setCell],λq _ hn=>Below.heap_setCell _ _ _ _ (by simpa using hn)⟩,by simp only[World.setCell,Array.size_modify];exact h.size,_,set_at hA,by simpa using hs,λj p hj hp=>?_⟩;rcases z1r j k with h1|h1
 ·rw[Array.getElem?_setIfInBounds_ne (by omega)];exact hr j p h1 hp
 ·obtain rfl:j=k:=by omega
  rw[hv] at hp;obtain rfl:=z1q hp;rw[Array.getElem?_setIfInBounds_self_of_lt (by omega)]
theorem named_cons (B b:Nat) (L:Value) (m N:Nat) (st:List Se) (c ta tb:Nat) (ga va pa:Option Addr) (gn gc vn vc pn pc tat tto:Nat) (ts:List Ty) (w:World) (h:Cs B b L none m st w) (hst:StOk st) (hl:st.length<=100000) (hm:m=50000) (hN:1<=N)
 (hG:Ls w (.slice ga gn gc) ts) (hgl:ts.length<=60000) (hgs:∀u∈ts,sz u<=60000) (hc:c<256) (cs nb:ByteArray) (v:List Nat) (t:Ty) (hcs:cs.size<=60000) (hct:zbe cs=.ok t) (hvn:nb.size=v.length) (hn2:nb.size<=2) (hv9:∀o∈v,970<=o)
 (hnv:∀k (h:k<nb.size),97<=nb[k].toNat/\nb[k].toNat<123/\v[k]? =some (970+10*(nb[k].toNat-97)))
 (CN:Hid (∀X,CZ 108 #[.int .u8 (c:Int)] X λe w'=>e=.returned (.tuple #[.string cs,.string nb,.bool true])/\w'=X)):
 CZ 98 #[pZ b,.agg (tmA 120 c ta tb ga va pa gn gc vn vc pn pc tat tto)] w (CPost B b L m st N (zbn (t,v) ts tat) w):=by
 obtain⟨S,hk,hs,mv⟩:=h.mv;have hblt:=h.lt;have HM:=hid mv;have HMM:=hid hm;clear hm;have HGN:Hid (gn=ts.length):=by obtain⟨a,cap,e,_⟩:=hG;simp at e;exact e.2.1
 have HGS:=hid hgs;have B0:Below w.heap.size w ((w.alloc (.cells (tmA 120 c ta tb ga va pa gn gc vn vc pn pc tat tto) 76)).alloc rbO):=(bal w _).alloc (by simp) _;have hbx:((w.alloc (.cells (tmA 120 c ta tb ga va pa gn gc vn vc pn pc tat tto) 76)).alloc rbO).heap[w.heap.size]? =some (.cells (tmA 120 c ta tb ga va pa gn gc vn vc pn pc tat tto) 76 (0,0)):=(Below.heap_alloc _ _ _ (by simp)).trans (z1v w _)
 have hrx:((w.alloc (.cells (tmA 120 c ta tb ga va pa gn gc vn vc pn pc tat tto) 76)).alloc rbO).heap[w.heap.size+1]? =some (.cells #[.slice none 0 0] 33 (0,0)):=by
  have:=z1v (w.alloc (.cells (tmA 120 c ta tb ga va pa gn gc vn vc pn pc tat tto) 76)) rbO;simpa using this
 have hW:((w.alloc (.cells (tmA 120 c ta tb ga va pa gn gc vn vc pn pc tat tto) 76)).alloc rbO).heap.size=w.heap.size+2:=by simp
 have HB0:=hid B0;have HHK:Hid (∀X,Below w.heap.size w X->Ck b L S 0 0 m X):=λX hX=>hk.below hX
 have HLL:Hid (∀X,Below w.heap.size w X->Ls X (.slice ga gn gc) ts):=λX hX=>hG.below hX
 have FN:Hid (∀X,Below w.heap.size w X->CZ 139 #[pZ b,.int .u8 (c:Int)] X λe w'=>(∃z,e=.returned (.int .i64 z))/\w'=X):=by
  intro X hX;refine(zlj b L S 0 0 m c (skl st) X (hk.below hX) (hs.below hX) (by simp[skl];exact hl) (by omega) (λx hx=>(hst.skl2 x hx).1)).mono ?_;rintro e w' ⟨z,rfl,hl',rfl⟩;exact⟨⟨z,rfl⟩,rfl⟩
 have RT:Hid (∀X,CZ 23 #[.string cs] X λe w'=>Below X.heap.size X w'/\∃g cap,e=.returned (.tuple #[.agg #[sZ g (sz t) cap],.int .i64 (-1)])/\Rg g t w'/\sz t<=cs.size):=by
  intro X;refine(zmw cs X (by omega)).mono ?_;rintro e w' ⟨hb,hp⟩;rw[hct] at hp;exact⟨hb,hp⟩
 have HCS:=hid hcs;have HVM:Hid (v.length<=60000):=by unfold Hid;omega
 have HV9:=hid hv9;have HVL:=hid hvn;have HNV:=hid hnv;clear h mv hk hs hG B0 hcs hct hst hl hvn hv9 hnv;go_enter Tryz.func98,Tryz.ntmps98;go_wp21;generalize (w.alloc (.cells (tmA 120 c ta tb ga va pa gn gc vn vc pn pc tat tto) 76)).alloc rbO=W at *
 have xc1:W.cell? ⟨w.heap.size,1,none⟩=some (.int .u8 (c:Int)):=cbl hbx;refine(CN _).mono ?_;rintro e w' ⟨rfl,rfl⟩;go_wp21;refine(FN _ HB0).mono ?_;rintro e w'' ⟨⟨z,rfl⟩,rfl⟩;go_wp21;refine(RT _).mono ?_;rintro e w1 ⟨b1,h,cp,rfl,R1,hts⟩;have HTS:Hid (sz t<=60000):=z1c hts HCS.out;have HOT:=hid R1.ok;have hmk:=run_make_row' (P:=Tryz.prog) 63 3 (.int .i64 0) 8 Tryz.underlying63 zye rfl .i64 .i64 nb.size (by omega) (by omega);generalize hnt:sz t=nt at *
 have HNT:=hid hnt;clear hnt hts;replace HTS:Hid (sz t<=60000):=by unfold Hid;rw[HNT.out];exact HTS
 have hA0:(madeCells #[.int .i64 0] nb.size).size=nb.size:=size_madeCells _ _;generalize madeCells #[.int .i64 0] nb.size=A0 at *
 have bA:Below w1.heap.size w1 ((w1.alloc (tbO h nt cp)).alloc (.cells A0 3)):=(bal w1 _).alloc (by simp) _;have bY:Below w''.heap.size w'' ((w1.alloc (tbO h nt cp)).alloc (.cells A0 3)):=b1.trans (bA.mono b1.size);have sY:((w1.alloc (tbO h nt cp)).alloc (.cells A0 3)).heap.size=w1.heap.size+2:=by simp
 have kY:((w1.alloc (tbO h nt cp)).alloc (.cells A0 3)).heap[w1.heap.size]? =some (.cells #[sZ h nt cp] 33 (0,0)):=(Below.heap_alloc _ _ _ (by simp)).trans (z1v w1 _)
 have vY:((w1.alloc (tbO h nt cp)).alloc (.cells A0 3)).heap[w1.heap.size+1]? =some (.cells A0 3 (0,0)):=by
  have:=z1v (w1.alloc (tbO h nt cp)) (.cells A0 3);simpa using this
 have HR1:Hid (Rg h t ((w1.alloc (tbO h nt cp)).alloc (.cells A0 3))):=R1.below bA;have hhl:=R1.lt;have s1:=b1.size;clear bA RT CN FN R1;go_wp21;generalize (w1.alloc (tbO h nt cp)).alloc (.cells A0 3)=Y at *
 generalize hgv:w1.heap.size+1=gv at *
 have HGV:=hid hgv;have sgv:w1.heap.size<gv:=by omega
 have sgv2:Y.heap.size=gv+1:=by omega
 clear hgv;have HBY:Hid (Below w.heap.size w Y):=HB0.out.trans (bY.mono HB0.out.size);have HL0:Hid (Lt Y gv v nb.size 0 Y):=⟨⟨rfl,rfl,rfl,z1d _,λ_ _ _=>rfl⟩,rfl,A0,vY,hA0,λj o hj=>by omega⟩
 have HKY:Hid (Y.heap[w1.heap.size]? =some (.cells #[sZ h nt cp] 33 (0,0))/\Y.heap[w.heap.size+1]? =some (.cells #[.slice none 0 0] 33 (0,0))/\Y.heap[w.heap.size]? =some (.cells (tmA 120 c ta tb ga va pa gn gc vn vc pn pc tat tto) 76 (0,0))):=⟨kY,(bY.block (w.heap.size+1) (by omega)).trans hrx,(bY.block w.heap.size (by omega)).trans hbx⟩
 clear bY b1 hbx hrx kY vY hA0 hmk HB0
 go_loopw [12] (λi wr=>∃k:Nat,i=.int .i64 (k:Int)/\k<=nb.size/\Hid (Lt Y gv v nb.size k wr)) (λi _=>nb.size-(intOf i).toNat)
 case atStart=>exact⟨0,rfl,Nat.zero_le _,HL0⟩
 case round=>
  clear HL0;obtain⟨k,rfl,hkn,HLt⟩:=hrel;rcases z1r k nb.size with hlt|hge
  ·obtain⟨hx1,hx2,hx3⟩:=HNV k hlt
   obtain⟨A,hA,hAs,-⟩:=HLt.row;have HST:Hid (Lt Y gv v nb.size (k+1) (wr.setCell ⟨gv,k,none⟩ (.int .i64 ((970+10*(nb[k].toNat-97)+30:Nat):Int)))):=HLt.out.step hlt hx3;obtain⟨u0,hu0⟩:∃u0,A[k]? =some u0:=⟨_,Array.getElem?_eq_getElem (by omega)⟩
   have cA:wr.cell? ⟨gv,k,none⟩=some u0:=by rw[z1f hA];exact hu0
   have fA:wr.frozen? ⟨gv,k,none⟩=false:=by simp[World.frozen?,hA]
   have ex:((970+10*(nb[k].toNat-97)+30:Nat):Int)=1000+10*((nb[k].toNat:Int)-97):=by omega
   rw[ex] at HST;have u1:IntKind.u8.wrap ((nb[k].toNat:Int)-97)=(nb[k].toNat:Int)-97:=IntWalk.u8_in _ ⟨by omega,by omega⟩;have u2:IntKind.i64.wrap ((nb[k].toNat:Int)-97)=(nb[k].toNat:Int)-97:=IntWalk.i64_in _ ⟨by omega,by omega⟩;have u3:IntKind.i64.wrap (10*((nb[k].toNat:Int)-97))=10*((nb[k].toNat:Int)-97):=IntWalk.i64_in _ ⟨by omega,by omega⟩;have u4:IntKind.i64.wrap (1000+10*((nb[k].toNat:Int)-97))=1000+10*((nb[k].toNat:Int)-97):=IntWalk.i64_in _ ⟨by omega,by omega⟩;have e1:(0:Int)<=(k:Int):=by omega
   have e2:(k:Int)<(nb.size:Int):=by omega
   clear hx3 ex hA hAs hu0;go_wp21;go_roundw
   case rel=>exact⟨k+1,by simp,by omega,HST⟩
   case measure=>simp[intOf];omega
  ·obtain rfl:k=nb.size:=by omega
   have HL:=HLt.out;have far:∀x,x≠gv->x<Y.heap.size->wr.heap[x]? =Y.heap[x]?:=λx hx hl=>HL.grown.block x hl (by simpa using hx)
   have sX:wr.heap.size=gv+1:=HL.size.trans sgv2;have HBX:Hid (Below w.heap.size w wr):=⟨HL.grown.os.trans HBY.out.os,HL.grown.tape.trans HBY.out.tape,HL.grown.output.trans HBY.out.output,by have:=HBY.out.size;omega,λx hx=>(far x (by omega) (by omega)).trans (HBY.out.block x hx)⟩
   have HRt:Hid (Rg h t wr):=HR1.out.at' (by omega) (far h (by omega) (by omega))
   have HIs:Hid (Is wr (sZ gv nb.size nb.size) (v.map (·+30))):=by
    obtain⟨A,hA,hAs,hr⟩:=HL.row;refine⟨some ⟨gv,0,none⟩,nb.size,by rw[z2a,HVL.out],.inr ⟨gv,rfl,by omega,λj o hj=>?_⟩⟩;rw[z1n] at hj;obtain⟨p,hp,rfl⟩:=Option.map_eq_some_iff.1 hj;rw[z1f hA];have hjl:=(z1b.1 hp).1;exact hr j p (by rw[HVL.out];exact hjl) hp
   have HLs:Hid (Ls wr (.slice ga gn gc) ts):=HLL.out _ HBX.out;have HCk:Hid (Ck b L S 0 0 m wr):=HHK.out _ HBX.out;have kbx:=(far w1.heap.size (by omega) (by omega)).trans HKY.out.1;have rbx:=(far (w.heap.size+1) (by omega) (by omega)).trans HKY.out.2.1;have bx5:=(far w.heap.size (by omega) (by omega)).trans HKY.out.2.2;have xc4:wr.cell? ⟨w.heap.size,4,none⟩=some (.slice ga gn gc):=cbl bx5;have xc7:wr.cell? ⟨w.heap.size,7,none⟩=some (.int .i64 (tat:Int)):=cbl bx5;clear far HHK HLL HBY HR1 HL HLt HKY bx5;have HT:Hid (zbn (t,v) ts tat=if ts.length≠v.length then .error (4,tat) else if 50000<sz (putT v ts t) then .error (8,tat) else .ok (putT v ts t)):=rfl;by_cases hcnt:gn=nb.size
   ·have hc1:((gn:Int) !=(nb.size:Int))=false:=by rw[hcnt];simp
    have HCN:Hid (ts.length=v.length):=by unfold Hid;rw[<-HGN.out,hcnt];exact HVL
    clear hcnt;go_wp21;generalize wr=X at *
    have SZ:Hid (∀Y,Below X.heap.size X Y->CZ 140 #[.agg #[sZ h nt cp],sZ gv nb.size nb.size,.slice ga gn gc] Y λe w'=>e=.returned (.int .i64 (sz (putT v ts t):Int))/\Below Y.heap.size Y w'):=by
     intro Y hY;have:=ztm t v ts h cp (sZ gv nb.size nb.size) (.slice ga gn gc) Y (HRt.out.below hY) HTS.out (HIs.out.below hY) (Ls.below HLs.out hY) HCN.out HVM.out HGS.out HV9.out;rw[HNT.out] at this;exact this
    have cm:X.cell? ⟨b,4,none⟩=some (.int .i64 50000):=by rw[z1f HCk.out,HMM.out];rfl
    have ck:X.cell? ⟨w1.heap.size,0,none⟩=some (sZ h nt cp):=zab kbx;have bX1:Below X.heap.size X X.drew:=(Below.refl _ X).drew;have HX1:Hid (CZ 140 #[.agg #[sZ h nt cp],sZ gv nb.size nb.size,.slice ga gn gc] X.drew λe w'=>e=.returned (.int .i64 (sz (putT v ts t):Int))/\Below X.drew.heap.size X.drew w'):=SZ.out X.drew bX1;generalize hS:sz (putT v ts t)=S1 at *
    have HS1:=hid hS;clear hS bX1;refine wp_region_held_drew (S:=(λwq=>wq.cell? ⟨b,4,none⟩=some (.int .i64 50000)/\wq.cell? ⟨w1.heap.size,0,none⟩=some (sZ h nt cp)/\wq.cell? ⟨w.heap.size,4,none⟩=some (.slice ga gn gc))) (by kernel_rfl) (⟨cm,ck,xc4⟩) (λhS=>?_);refine tkS 0 (pZ b) hS ?_;refine tkS 1 (pZ b) hS ?_;refine tkS 2 (.pointer (some ⟨b,4,none⟩)) hS ?_;refine tkL 3 (.int .i64 50000) hS ?_;refine tkS 4 (.bool true) hS ?_;refine tkS 5 (.bool true) hS ?_;refine tkL 6 (.agg #[sZ h nt cp]) hS ?_;refine tkS 7 (sZ gv nb.size nb.size) hS ?_;refine tkS 8 (.pointer (some ⟨w.heap.size,4,none⟩)) hS ?_;refine tkL 9 (.slice ga gn gc) hS ?_;refine tkS 11 (pZ b) hS ?_;refine tkS 12 (pZ b) hS ?_;refine tkS 13 (.pointer (some ⟨b,4,none⟩)) hS ?_;refine tkL 14 (.int .i64 50000) hS ?_;refine rd1 10 (λKK hK=>?_);go_simp;go_at_call 140;refine(HX1).mono ?_;rintro e wz ⟨rfl,bz⟩;have ym:wz.cell? ⟨b,4,none⟩=some (.int .i64 50000):=(bz.cell (p:=⟨b,4,none⟩) (show b<X.heap.size by omega)).trans cm;have yk:wz.cell? ⟨w1.heap.size,0,none⟩=some (sZ h nt cp):=(bz.cell (p:=⟨w1.heap.size,0,none⟩) (show w1.heap.size<X.heap.size by omega)).trans ck;have y4:wz.cell? ⟨w.heap.size,4,none⟩=some (.slice ga gn gc):=(bz.cell (p:=⟨w.heap.size,4,none⟩) (show w.heap.size<X.heap.size by omega)).trans xc4;refine hK.out _ _ ⟨ym,yk,y4⟩ (λhS=>nrm ?_);refine tkS 15 (.bool (decide ((50000:Int)<(S1:Int)))) hS ?_;refine tkS 16 (.bool (decide ((50000:Int)<(S1:Int)))) hS ?_;refine wpAnyH_done (by kernel_rfl) ?_ _;have BZ:Below X.heap.size X wz:=⟨bz.os,bz.tape,bz.output,bz.size,bz.block⟩
    have HBZ:Hid (Below w.heap.size w wz):=HBX.out.trans (BZ.mono HBX.out.size);have HCz:Hid (Ck b L S 0 0 m wz):=Ck.below HCk.out BZ;have z7:=(BZ.cell (p:=⟨w.heap.size,7,none⟩) (show w.heap.size<X.heap.size by omega)).trans xc7;have zr:=(BZ.block (w.heap.size+1) (by omega)).trans rbx;have zsz:=BZ.size;generalize hbg:decide ((50000:Int)<(S1:Int))=bg at *
    have HBG:=hid hbg;clear hbg
    cases bg
    ·have hbig:¬(50000:Int)<(S1:Int):=of_decide_eq_false HBG.out
     have HR:Hid (zbn (t,v) ts tat=.ok (putT v ts t)):=by
      unfold Hid;rw[HT.out,if_neg (λe=>e HCN.out),if_neg (by omega)]
     have PU:Hid (CZ 41 #[.agg #[sZ h nt cp],sZ gv nb.size nb.size,.slice ga gn gc] wz (ztz (putT v ts t) wz)):=by
      have:=zws t HOT.out v ts h cp (sZ gv nb.size nb.size) (.slice ga gn gc) wz (HRt.out.below BZ) HTS.out (HIs.out.below BZ) (Ls.below HLs.out BZ) HCN.out HVM.out HV9.out (by rw[HS1.out];omega);rw[HNT.out] at this;exact this
     clear hbig HX1 SZ;go_wp21;refine PU.mono ?_;rintro e w2 ⟨g2,cap2,rfl,R2,b2⟩;have hb2:=(b2.block (w.heap.size+1) (by omega)).trans zr;have c2:=zab hb2;have z2:=zaf hb2
     have HP:Hid (∀u cap,CPost B b L m st N (zbn (t,v) ts tat) w (.returned (.agg #[sZ g2 (sz (putT v ts t)) cap])) (w2.setCell ⟨w.heap.size+1,0,none⟩ u)):=by
      intro u cap;rw[HR.out];exact zsh HM.out (HBZ.out.trans (b2.mono HBZ.out.size)) R2 (R2.notBox c2) (HCz.out.below b2) (by omega) hblt cap
     clear R2 HR HT PU HS1;generalize sz (putT v ts t)=S2 at *
     go_wp21;refine zah rfl rfl (zad hb2) ?_;exact HP _ _
    ·have hbig:(50000:Int)<(S1:Int):=of_decide_eq_true HBG.out
     have HR:Hid (zbn (t,v) ts tat=.error (8,tat)):=by
      unfold Hid;rw[HT.out,if_neg (λe=>e HCN.out),if_pos (by omega)]
     clear hbig HX1 SZ;go_wp21;refine(zda b L S 0 m 8 tat wz HCz).mono ?_;rintro e w2 ⟨g2,cap2,rfl,R2,hg2,C2,G2⟩;have hb2:=(G2.block (w.heap.size+1) (by omega) (by simp;omega)).trans zr;have c2:=zab hb2;have z2:=zaf hb2
     have HP:Hid (∀u cap,CPost B b L m st N (zbn (t,v) ts tat) w (.returned (.agg #[sZ g2 1 cap])) (w2.setCell ⟨w.heap.size+1,0,none⟩ u)):=by
      intro u cap;rw[HR.out];exact zgc HM.out (by decide) hN HBZ.out R2 hg2 C2 G2 (by omega) (by omega) hblt cap
     clear R2 C2 G2 hg2 HR HT;go_wp21;refine zah rfl rfl (zad hb2) ?_;exact HP _ _
   ·have hc1:((gn:Int) !=(nb.size:Int))=true:=by rw[bne_iff_ne];omega
    have HR:Hid (zbn (t,v) ts tat=.error (4,tat)):=by
     unfold Hid;rw[HT.out,if_pos (by rw[<-HGN.out,<-HVL.out];exact hcnt)]
    clear hcnt;go_wp21;generalize wr=X at *
    refine(zda b L S 0 m 4 tat X HCk).mono ?_;rintro e w2 ⟨g2,cap2,rfl,R2,hg2,C2,G2⟩;have hb2:=(G2.block (w.heap.size+1) (by omega) (by simp;omega)).trans rbx;have c2:=zab hb2;have z2:=zaf hb2
    have HP:Hid (∀u cap,CPost B b L m st N (zbn (t,v) ts tat) w (.returned (.agg #[sZ g2 1 cap])) (w2.setCell ⟨w.heap.size+1,0,none⟩ u)):=by
     intro u cap;rw[HR.out];exact zgc HM.out (by decide) hN HBX.out R2 hg2 C2 G2 (by omega) (by omega) hblt cap
    clear R2 C2 G2 hg2 HR HT;go_wp21;refine zah rfl rfl (zad hb2) ?_;exact HP _ _
end Go.Proofs.YtceadeaodbadlaaGreatDoor
namespace Go.Proofs.YtceadeaodbadlaaGreatDoor
open Go.RowKit
variable {tz : Bool}
def Lr (w:World) (L:Value) (ts:List Tt):Prop:=∃g cap,L=(sZ g ts.length cap)/\g<w.heap.size/\∀(k:Nat) (t:Tt),ts[k]? =some t->∀(j:Nat) (v:Value),t.cells[j]? =some v->w.cell? ⟨g,k*9+j,none⟩=some v
section
variable {e:Ex} {m:Nat} {A A':Obj} {w w1 W:World} (f f':List UInt8) (kd:Nat) (ts:List Tt) (L:Value) (k c ta tb n n':Nat) (ga va pa:Option Addr) (gn gc vn vc pn pc tat tto:Nat)
theorem Lr.below {w':World} {L:Value} {ts:List Tt} (h:Lr w L ts) (hb:Below w.heap.size w w'):Lr w' L ts:=by
 obtain⟨g,cap,rfl,hg,h⟩:=h;exact⟨g,cap,rfl,z1e hg hb.size,λk t hk j v hj=>(hb.cell (p:=⟨g,_,none⟩) hg).trans (h k t hk j v hj)⟩
theorem Lr.at {g cap n:Nat} {ts:List Tt} {k:Nat} (h : Lr w (.slice (some ⟨g, 0, none⟩) n cap) ts) {t : Tt} (hk : ts[k]? = some t):
    w.cell? ⟨g, k * 9, none⟩ = some (.int .u8 (t.op : Int)) ∧ w.cell? ⟨g, k * 9 + 1, none⟩ = some (.int .u8 (t.c : Int)) ∧ w.cell? ⟨g, k * 9 + 2, none⟩ = some (.int .i64 (t.a : Int)) ∧ w.cell? ⟨g, k * 9 + 3, none⟩ = some (.int .i64 (t.b : Int)) ∧
    w.cell? ⟨g, k * 9 + 4, none⟩ = some (.slice t.g.1 t.g.2.1 t.g.2.2) ∧ w.cell? ⟨g, k * 9 + 5, none⟩ = some (.slice t.v.1 t.v.2.1 t.v.2.2) ∧ w.cell? ⟨g, k * 9 + 6, none⟩ = some (.slice t.p.1 t.p.2.1 t.p.2.2) ∧ w.cell? ⟨g, k * 9 + 7, none⟩ = some (.int .i64 (t.at' : Int)) ∧ w.cell? ⟨g, k * 9 + 8, none⟩ = some (.int .i64 (t.tu : Int)) := by
  obtain ⟨g', cap', e, hg, h⟩ := h
  cases e
  exact ⟨h k t hk 0 _ rfl, h k t hk 1 _ rfl, h k t hk 2 _ rfl, h k t hk 3 _ rfl, h k t hk 4 _ rfl, h k t hk 5 _ rfl, h k t hk 6 _ rfl, h k t hk 7 _ rfl, h k t hk 8 _ rfl⟩
abbrev ttI (op:Int) (c a b:Nat) (ga va pa:Option Addr) (gn gc vn vc pn pc at' tu:Nat):Obj:=.cells #[.int .u8 op,uZ c,iZ a,iZ b,.slice ga gn gc,.slice va vn vc,.slice pa pn pc,iZ at',iZ tu] 76
def zve (f:List UInt8) (n:Nat) (w:World) (e:Ending) (w':World):Prop:=∃F:ByteArray,e=.returned (.string F)/\F.size<=n/\Hid (F.data.toList=f)/\Below w.heap.size w w'
def zhy (f:List UInt8) (ts:List Tt) (L:Value) (k n:Nat):Prop:=∀w:World,Lr w L ts->CZ 53 #[L,iZ k] w (zve f n w)
theorem bconv (w:World) (g c:Nat) (hc:c<256) (h:w.cell? ⟨g,0,none⟩=some (uZ c)):(convert 46 9 (sZ g 1 1)).run Tryz.prog w=.ok (.string ⟨#[u8 c]⟩) w:=by
 refine run_convert_bytes_back w 46 9 5 ⟨g,0,none⟩ 1 [u8 c] Tryz.underlying46 Tryz.underlying5 Tryz.underlying9 ?_;intro j hj;have hj0:j=0:=by simpa using hj
 subst hj0;have hadd:(⟨g,0,none⟩:Addr).add 0=⟨g,0,none⟩:=rfl;have hu:((u8 c).toNat:Int)=(c:Int):=by simp[u8];omega
 rw[hadd,h];show some (Value.int .u8 (c:Int))=some (.int .u8 ((u8 c).toNat:Int));rw[hu]
theorem bdrew (w:World):w.drew.heap.size=w.heap.size:=rfl
theorem bbox {j:Nat} {u:Value} (hb:Below ((w.alloc A).alloc A').drew.heap.size ((w.alloc A).alloc A').drew w1) (hA:(w.alloc A).cell? ⟨w.heap.size,j,none⟩=some u):w1.cell? ⟨w.heap.size,j,none⟩=some u:=by
 rw[hb.cell (p:=⟨w.heap.size,j,none⟩) (by rw[bdrew];simp;omega)];show ((w.alloc A).alloc A').cell? ⟨w.heap.size,j,none⟩=some u;rw[z1o _ _ ⟨w.heap.size,j,none⟩ (by simp)];exact hA
theorem bsize (hb:Below ((w.alloc A).alloc A').drew.heap.size ((w.alloc A).alloc A').drew w1):w.heap.size+2<=w1.heap.size:=by
 have:=hb.size;rw[bdrew] at this;simp at this;omega
theorem Lr.two {L:Value} {ts:List Tt} (h:Lr w L ts) (A A':Obj):Lr ((w.alloc A).alloc A') L ts:=h.below ((bal w _).alloc (by simp) _)
theorem zke (ts:List Tt) (L:Value) (k op c ta tb:Nat) (ga va pa:Option Addr) (gn gc vn vc pn pc tat tto:Nat) (hop:op=120\/op=48) (hc:c<256) (hl:ts.length<=1000000) (ht:ts[k]? =some ⟨op,c,ta,tb,(ga,gn,gc),(va,vn,vc),(pa,pn,pc),tat,tto⟩):zhy [u8 c] ts L k 1:=by
 intro w h;obtain⟨g,cap,rfl,hg,_⟩:=id h;have hk:k<ts.length:=(z1b.1 ht).1;obtain⟨k0,k1,k2,k3,k4,k5,k6,k7,k8⟩:=h.at ht;clear h ht;have e1:((op:Int)==92)=false:=by rw[beq_eq_false_iff_ne];omega
 have e2:((op:Int)==64)=false:=by rw[beq_eq_false_iff_ne];omega
 have e3:((op:Int)==99)=false:=by rw[beq_eq_false_iff_ne];omega
 clear hop;have hcv:=bconv ((w.alloc (ttO op c ta tb ga va pa gn gc vn vc pn pc tat tto)).alloc (.cells #[uZ c] 5)) (w.heap.size+1) c hc (by simp);go_enter Tryz.func53,Tryz.ntmps53
 go_wp2_with fail
 go_ret;exact⟨_,rfl,z1d _,rfl,(bal w _).alloc (by simp) _⟩
theorem bform_fn (hc:c<256) (hl:ts.length<=1000000) (ha:ta<ts.length) (hn:n<=1000000) (ht:ts[k]? =some ⟨92,c,ta,tb,(ga,gn,gc),(va,vn,vc),(pa,pn,pc),tat,tto⟩) (hF:zhy f ts L ta n):zhy (92::u8 c::46::f) ts L k (3+n):=by
 intro w h;obtain⟨g,cap,rfl,hg,_⟩:=id h;have hk:k<ts.length:=(z1b.1 ht).1;obtain⟨k0,k1,k2,k3,k4,k5,k6,k7,k8⟩:=h.at ht;clear ht;have hcv:=bconv ((w.alloc (ttI 92 c ta tb ga va pa gn gc vn vc pn pc tat tto)).alloc (.cells #[uZ c] 5)) (w.heap.size+1) c hc (by simp);have HF:Hid (zhy f ts (sZ g ts.length cap) ta n):=hF;have HL:Hid (Lr w (sZ g ts.length cap) ts):=h;generalize ts.length=tl at *
 clear hF h;go_enter Tryz.func53,Tryz.ntmps53;go_wp21;refine(HF _ (HL.two _ _)).mono ?_;rintro e w' ⟨F,rfl,hF,HD,hb⟩;have n1:¬(9223372036854775807<3+F.size):=by omega
 clear k0 k1 k2 k3 k4 k5 k6 k7 k8 hcv;go_wp21;go_ret;exact⟨_,rfl,by simp[ByteArray.size_append];first|omega|(show 3+F.size<=_;omega),by have:=HD.out;simp[Hid,ByteArray.data_append,this],((bal w _).alloc (by simp) _).trans (hb.mono (by simp;omega))⟩
theorem bform_let (hc:c<256) (hl:ts.length<=1000000) (ha:ta<ts.length) (hb:tb<ts.length) (hn:n<=1000000) (hn':n'<=1000000) (ht:ts[k]? =some ⟨64,c,ta,tb,(ga,gn,gc),(va,vn,vc),(pa,pn,pc),tat,tto⟩) (hF:zhy f ts L ta n) (hG:zhy f' ts L tb n'):zhy (64::u8 c::61::(f++59::f')) ts L k (4+n+n'):=by
 intro w h;obtain⟨g,cap,rfl,hg,_⟩:=id h;have hk:k<ts.length:=(z1b.1 ht).1;obtain⟨k0,k1,k2,k3,k4,k5,k6,k7,k8⟩:=h.at ht;clear ht;have hcv:=bconv ((w.alloc (ttI 64 c ta tb ga va pa gn gc vn vc pn pc tat tto)).alloc (.cells #[.int .u8 (c:Int)] 5)) (w.heap.size+1) c hc (by simp);have HF:=hid hF;have HG:=hid hG;have HL:Hid (∀A A',Lr ((w.alloc A).alloc A').drew (sZ g ts.length cap) ts):=λA A'=>h.two A A'
 generalize ts.length=tl at *
 clear hF hG h;go_enter Tryz.func53,Tryz.ntmps53;go_wp21;clear k0 k1 k2 k3 k4 k5 k6 k7 k8 hcv
 go_region_held3 (λw'=>w'.cell? ⟨w.heap.size,2,none⟩=some (.int .i64 (ta:Int))/\w'.cell? ⟨w.heap.size,3,none⟩=some (.int .i64 (tb:Int)))
  (first|go_keep|(go_split_ands;exact⟨q2,q3⟩))
  (first
   |(go_at_call_of 53 (Value.int IntKind.i64 (ta:Int));refine(HF.out _ ?_).mono ?_;(exact HL.out _ _);rintro e w1 ⟨F,rfl,hF,HD,hb1⟩;(have n1:¬(9223372036854775807<3+F.size):=by omega);(have n2:¬(9223372036854775807<3+F.size+1):=by omega);(have q2:w1.cell? ⟨w.heap.size,2,none⟩=some (.int .i64 (ta:Int)):=bbox hb1 (by simp));(have q3:w1.cell? ⟨w.heap.size,3,none⟩=some (.int .i64 (tb:Int)):=bbox hb1 (by simp));(have z1:w.heap.size+2<=w1.heap.size:=bsize hb1))
   |(go_at_call_of 53 (Value.int IntKind.i64 (tb:Int));refine(HG.out _ ?_).mono ?_;(exact(HL.out _ _).below hb1);rintro e w2 ⟨G,rfl,hG,HE,hb2⟩;(have n3:¬(9223372036854775807<3+F.size+1+G.size):=by omega);(have q2:w2.cell? ⟨w.heap.size,2,none⟩=some (.int .i64 (ta:Int)):=(hb2.cell (p:=⟨w.heap.size,2,none⟩) (by show w.heap.size<_;omega)).trans q2);(have q3:w2.cell? ⟨w.heap.size,3,none⟩=some (.int .i64 (tb:Int)):=(hb2.cell (p:=⟨w.heap.size,3,none⟩) (by show w.heap.size<_;omega)).trans q3)))
 go_wp21;go_ret;exact⟨_,rfl,by simp[ByteArray.size_append];first|omega|(show 3+F.size+1+G.size<=_;omega),by have:=HD.out;have:=HE.out;simp_all [Hid,ByteArray.data_append],(((bal w _).alloc (by simp) _).drew.trans (hb1.mono (by rw[bdrew];simp;omega))).trans (hb2.mono (by omega))⟩
theorem bfirst (t:Tt) (w:World) (hl:ts.length<=1000000) (hn:n<=1000000) (ht:ts[k]? =some t) (hkd:(kd=2 ↔ t.op=92\/t.op=64)) (h:Lr w L ts) (hF:zhy f ts L k n):
 CZ 89 #[L,iZ k] w (zve (zcb kd f) (n+2) w):=by
 obtain⟨g,cap,rfl,hg,_⟩:=id h;have hk:k<ts.length:=(z1b.1 ht).1;have k0:=(h.at ht).1;have HF:Hid (CZ 53 #[sZ g ts.length cap,iZ k] w (zve f n w)):=hF w h;clear ht h hF;generalize ts.length=tl at *
 have HK:=hid hkd;clear hkd;generalize t.op=op at *
 by_cases h92:op=92
 ·subst h92
  go_enter Tryz.func89,Tryz.ntmps89;go_wp21;refine HF.mono ?_;rintro e w' ⟨F,rfl,hF,HD,hb⟩;have n1:¬(9223372036854775807<1+F.size):=by omega
  have n2:¬(9223372036854775807<1+F.size+1):=by omega
  go_wp21;go_ret;exact⟨_,rfl,by simp[ByteArray.size_append];first|omega|(show 1+F.size+1<=_;omega),by have h1:kd=2:=HK.out.2 (by simp);have h2:=HD.out;simp[Hid,zcb,h1,ByteArray.data_append,h2],hb⟩
 ·have e1:((op:Int)==92)=false:=by rw[beq_eq_false_iff_ne];omega
  by_cases h64:op=64
  ·subst h64
   go_enter Tryz.func89,Tryz.ntmps89;go_wp21;refine HF.mono ?_;rintro e w' ⟨F,rfl,hF,HD,hb⟩;have n1:¬(9223372036854775807<1+F.size):=by omega
   have n2:¬(9223372036854775807<1+F.size+1):=by omega
   go_wp21;go_ret;exact⟨_,rfl,by simp[ByteArray.size_append];first|omega|(show 1+F.size+1<=_;omega),by have h1:kd=2:=HK.out.2 (by simp);have h2:=HD.out;simp[Hid,zcb,h1,ByteArray.data_append,h2],hb⟩
  ·have e2:((op:Int)==64)=false:=by rw[beq_eq_false_iff_ne];omega
   have HN:Hid (¬(op=92\/op=64)):=λh=>h.elim h92 h64
   clear h92 h64;go_enter Tryz.func89,Tryz.ntmps89;go_wp21;refine HF.mono ?_;rintro e w' ⟨F,rfl,hF,HD,hb⟩;go_wp21;go_ret;exact⟨_,rfl,by omega,by have h1:kd≠2:=λh=>HN.out (HK.out.1 h);have h2:=HD.out;simp[Hid,zcb,h1,h2],hb⟩
theorem bsecond (t:Tt) (w:World) (hl:ts.length<=1000000) (hn:n<=1000000) (ht:ts[k]? =some t) (hkd:(kd=0 ↔ t.op=120\/t.op=48)) (h:Lr w L ts) (hF:zhy f ts L k n):
 CZ 90 #[L,iZ k] w (zve (zbk kd f) (n+2) w):=by
 obtain⟨g,cap,rfl,hg,_⟩:=id h;have hk:k<ts.length:=(z1b.1 ht).1;have k0:=(h.at ht).1;have HF:Hid (CZ 53 #[sZ g ts.length cap,iZ k] w (zve f n w)):=hF w h;clear ht h hF;generalize ts.length=tl at *
 have HK:=hid hkd;clear hkd;generalize t.op=op at *
 by_cases h92:op=120
 ·subst h92
  go_enter Tryz.func90,Tryz.ntmps90;go_wp21;refine HF.mono ?_;rintro e w' ⟨F,rfl,hF,HD,hb⟩;go_wp21;go_ret;exact⟨_,rfl,by omega,by have h1:kd=0:=HK.out.2 (by simp);have h2:=HD.out;simp[Hid,zbk,h1,h2],hb⟩
 ·have e1:((op:Int)==120)=false:=by rw[beq_eq_false_iff_ne];omega
  by_cases h64:op=48
  ·subst h64
   go_enter Tryz.func90,Tryz.ntmps90;go_wp21;refine HF.mono ?_;rintro e w' ⟨F,rfl,hF,HD,hb⟩;go_wp21;go_ret;exact⟨_,rfl,by omega,by have h1:kd=0:=HK.out.2 (by simp);have h2:=HD.out;simp[Hid,zbk,h1,h2],hb⟩
  ·have e2:((op:Int)==48)=false:=by rw[beq_eq_false_iff_ne];omega
   have HN:Hid (¬(op=120\/op=48)):=λh=>h.elim h92 h64
   clear h92 h64;go_enter Tryz.func90,Tryz.ntmps90;go_wp21;refine HF.mono ?_;rintro e w' ⟨F,rfl,hF,HD,hb⟩;have n1:¬(9223372036854775807<1+F.size):=by omega
   have n2:¬(9223372036854775807<1+F.size+1):=by omega
   go_wp21;go_ret;exact⟨_,rfl,by simp[ByteArray.size_append];first|omega|(show 1+F.size+1<=_;omega),by have h1:kd≠0:=λh=>HN.out (HK.out.1 h);have h2:=HD.out;simp[Hid,zbk,h1,ByteArray.data_append,h2],hb⟩
theorem bform_call (f f':List UInt8) (kd kd':Nat) (ts:List Tt) (L:Value) (k c ta tb n n':Nat) (ga va pa:Option Addr) (gn gc vn vc pn pc tat tto:Nat) (u u':Tt) (hc:c<256) (hl:ts.length<=1000000) (ha:ts[ta]? =some u) (hb:ts[tb]? =some u') (hkd:(kd=2 ↔ u.op=92\/u.op=64)) (hkd':(kd'=0 ↔ u'.op=120\/u'.op=48)) (hn:n<=1000000) (hn':n'<=1000000) (ht:ts[k]? =some ⟨99,c,ta,tb,(ga,gn,gc),(va,vn,vc),(pa,pn,pc),tat,tto⟩) (hF:zhy f ts L ta n) (hG:zhy f' ts L tb n'):zhy (zcb kd f++zbk kd' f') ts L k (4+n+n'):=by
 intro w h;obtain⟨g,cap,rfl,hg,_⟩:=id h;have hk:k<ts.length:=(z1b.1 ht).1;have ha':ta<ts.length:=(z1b.1 ha).1;have hb':tb<ts.length:=(z1b.1 hb).1;obtain⟨k0,k1,k2,k3,k4,k5,k6,k7,k8⟩:=h.at ht;clear ht;have hcv:=bconv ((w.alloc (ttI 99 c ta tb ga va pa gn gc vn vc pn pc tat tto)).alloc (.cells #[.int .u8 (c:Int)] 5)) (w.heap.size+1) c hc (by simp);have HF:Hid (∀X,Lr X (sZ g ts.length cap) ts->CZ 89 #[sZ g ts.length cap,.int .i64 (ta:Int)] X (zve (zcb kd f) (n+2) X)):=λX hX=>bfirst f kd ts _ ta n u X hl hn ha hkd hX hF
 have HG:Hid (∀X,Lr X (sZ g ts.length cap) ts->CZ 90 #[sZ g ts.length cap,.int .i64 (tb:Int)] X (zve (zbk kd' f') (n'+2) X)):=λX hX=>bsecond f' kd' ts _ tb n' u' X hl hn' hb hkd' hX hG
 have HL:Hid (∀A A',Lr ((w.alloc A).alloc A').drew (sZ g ts.length cap) ts):=λA A'=>h.two A A'
 generalize ts.length=tl at *
 clear hF hG h ha hb hkd hkd';go_enter Tryz.func53,Tryz.ntmps53;go_wp21;clear k0 k1 k2 k3 k4 k5 k6 k7 k8 hcv
 go_region_held3 (λw'=>w'.cell? ⟨w.heap.size,2,none⟩=some (.int .i64 (ta:Int))/\w'.cell? ⟨w.heap.size,3,none⟩=some (.int .i64 (tb:Int)))
  (first|go_keep|(go_split_ands;exact⟨q2,q3⟩))
  (first
   |(go_at_call 89;refine(HF.out _ ?_).mono ?_;(exact HL.out _ _);rintro e w1 ⟨F,rfl,hF,HD,hb1⟩;(have q2:w1.cell? ⟨w.heap.size,2,none⟩=some (.int .i64 (ta:Int)):=bbox hb1 (by simp));(have q3:w1.cell? ⟨w.heap.size,3,none⟩=some (.int .i64 (tb:Int)):=bbox hb1 (by simp));(have z1:w.heap.size+2<=w1.heap.size:=bsize hb1))
   |(go_at_call 90;refine(HG.out _ ?_).mono ?_;(exact(HL.out _ _).below hb1);rintro e w2 ⟨G,rfl,hG,HE,hb2⟩;(have n3:¬(9223372036854775807<F.size+G.size):=by omega);(have q2:w2.cell? ⟨w.heap.size,2,none⟩=some (.int .i64 (ta:Int)):=(hb2.cell (p:=⟨w.heap.size,2,none⟩) (by show w.heap.size<_;omega)).trans q2);(have q3:w2.cell? ⟨w.heap.size,3,none⟩=some (.int .i64 (tb:Int)):=(hb2.cell (p:=⟨w.heap.size,3,none⟩) (by show w.heap.size<_;omega)).trans q3)))
 go_wp21;go_ret;exact⟨_,rfl,by simp[ByteArray.size_append];omega,by have h1:=HD.out;have h2:=HE.out;simp[Hid,ByteArray.data_append,h1,h2],(((bal w _).alloc (by simp) _).drew.trans (hb1.mono (by rw[bdrew];simp;omega))).trans (hb2.mono (by omega))⟩
theorem sd_op {ts:List Tt} {k:Nat} (h:Sd W ts e k) (ho:EOk tz m e):∃u,ts[k]? =some u/\(knd e=0 ↔ u.op=120\/u.op=48)/\(knd e=2 ↔ u.op=92\/u.op=64):=by
 cases e with
 |nil=>exact h.elim
 |node t o x a b=>
  obtain⟨u,hu,h⟩:=h;refine⟨u,hu,?_⟩;rcases ho with ⟨rfl,_⟩|⟨rfl,_⟩|⟨rfl,_⟩|⟨rfl,_⟩|⟨rfl,_⟩|⟨rfl,_⟩
  ·rcases h with ⟨_,h,_⟩|⟨h,_⟩|⟨h,_⟩|⟨h,_⟩|⟨h,_⟩<;>first|omega|(rw[h];simp[knd])
  ·rcases h with ⟨_,h,_⟩|⟨h,_⟩|⟨h,_⟩|⟨h,_⟩|⟨h,_⟩<;>first|omega|(rw[h];simp[knd])
  ·rcases h with ⟨h,_⟩|⟨_,h,_⟩|⟨h,_⟩|⟨h,_⟩|⟨h,_⟩<;>first|omega|(rw[h];simp[knd])
  ·rcases h with ⟨h,_⟩|⟨h,_⟩|⟨_,h,_⟩|⟨h,_⟩|⟨h,_⟩<;>first|omega|(rw[h];simp[knd])
  ·rcases h with ⟨h,_⟩|⟨h,_⟩|⟨h,_⟩|⟨_,h,_⟩|⟨h,_⟩<;>first|omega|(rw[h];simp[knd])
  ·rcases h with ⟨h,_⟩|⟨h,_⟩|⟨h,_⟩|⟨h,_⟩|⟨_,h,_⟩<;>first|omega|(rw[h];simp[knd])
theorem sd_first {ts:List Tt} {k:Nat} (h:Sd W ts e k) (ho:EOk tz m e):knd e=2 ↔ (ts[k]'h.lt).op=92\/(ts[k]'h.lt).op=64:=by
 obtain⟨u,hu,_,h2⟩:=sd_op h ho;rw[z1h h.lt] at hu;rw[z1q hu];exact h2
theorem sd_second {ts:List Tt} {k:Nat} (h:Sd W ts e k) (ho:EOk tz m e):knd e=0 ↔ (ts[k]'h.lt).op=120\/(ts[k]'h.lt).op=48:=by
 obtain⟨u,hu,h1,_⟩:=sd_op h ho;rw[z1h h.lt] at hu;rw[z1q hu];exact h1
theorem bform_any (ts:List Tt) (L:Value) (m:Nat) (hl:ts.length<=1000000):∀(x:Ex) (k:Nat),Sd W ts x k->EOk tz m x->xz x<=60000->∃n,n+4<=8*xz x/\zhy (frm x) ts L k n:=by
 intro x
 induction x with
 |nil=>intro k h;exact h.elim
 |node t o x a b iha ihb=>
  rintro k ⟨u,hu,h⟩ ho hz;obtain⟨op,c,ta,tb,⟨ga,gn,gc⟩,⟨va,vn,vc⟩,⟨pa,pn,pc⟩,tat,tto⟩:=u;simp only at h;have hl256:∀{c:Nat},zaq c=true->c<256:=λh=>by simp[zaq] at h;omega
  have hc256:∀{c:Nat},zdi c=true->c<256:=λh=>by simp[zdi] at h;omega
  have hi256:∀{c:Nat},zcs c=true->c<256:=λh=>by simp[zcs] at h;omega
  rcases ho with ⟨rfl,hc,_⟩|⟨rfl,hc,_⟩|⟨rfl,hc,_⟩|⟨rfl,hc,hg,hg1,ha,rfl⟩|⟨rfl,hc,hv,ha,hb⟩|⟨rfl,ha,hb⟩
  ·rcases h with ⟨_,rfl,rfl,_⟩|⟨h,_⟩|⟨h,_⟩|⟨h,_⟩|⟨h,_⟩
   ·exact⟨1,by simp[xz],zke ts L k 120 x.c ta tb ga va pa gn gc vn vc pn pc tat tto (.inl rfl) (hl256 hc) hl hu⟩
   all_goals omega
  ·rcases h with ⟨_,rfl,rfl,_⟩|⟨h,_⟩|⟨h,_⟩|⟨h,_⟩|⟨h,_⟩
   ·exact⟨1,by simp[xz],zke ts L k 120 x.c ta tb ga va pa gn gc vn vc pn pc tat tto (.inl rfl) (hc256 hc) hl hu⟩
   all_goals omega
  ·rcases h with ⟨h,_⟩|⟨_,rfl,rfl⟩|⟨h,_⟩|⟨h,_⟩|⟨h,_⟩
   ·omega
   ·exact⟨1,by simp[xz],zke ts L k 48 x.c ta tb ga va pa gn gc vn vc pn pc tat tto (.inr rfl) (hi256 hc) hl hu⟩
   all_goals omega
  ·rcases h with ⟨h,_⟩|⟨h,_⟩|⟨_,rfl,rfl,_,_,hk,hs⟩|⟨h,_⟩|⟨h,_⟩
   ·omega
   ·omega
   ·simp only[xz,if_true] at hz ⊢
    obtain⟨n,hn,hf⟩:=iha ta hs ha (by omega);exact⟨3+n,by omega,bform_fn (frm a) ts L k x.c ta tb n ga va pa gn gc vn vc pn pc tat tto (hl256 hc) hl hs.lt (by omega) hu hf⟩
   all_goals omega
  ·rcases h with ⟨h,_⟩|⟨h,_⟩|⟨h,_⟩|⟨_,rfl,⟨rfl,_⟩,_,_,hk,hk',hs,hs'⟩|⟨h,_⟩
   ·omega
   ·omega
   ·omega
   ·simp[xz] at hz ⊢
    obtain⟨n,hn,hf⟩:=iha ta hs ha (by omega);obtain⟨n',hn',hf'⟩:=ihb tb hs' hb (by omega);exact⟨4+n+n',by omega,bform_let (frm a) (frm b) ts L k x.c ta tb n n' ga va pa gn gc vn vc pn pc tat tto (hl256 hc) hl hs.lt hs'.lt (by omega) (by omega) hu hf hf'⟩
   ·omega
  ·rcases h with ⟨h,_⟩|⟨h,_⟩|⟨h,_⟩|⟨h,_⟩|⟨_,rfl,⟨rfl,_⟩,hk,hk',hs,hs'⟩
   ·omega
   ·omega
   ·omega
   ·omega
   ·simp[xz] at hz ⊢
    obtain⟨n,hn,hf⟩:=iha ta hs ha (by omega);obtain⟨n',hn',hf'⟩:=ihb tb hs' hb (by omega);exact⟨4+n+n',by omega,bform_call (frm a) (frm b) (knd a) (knd b) ts L k 0 ta tb n n' ga va pa gn gc vn vc pn pc tat tto _ _ (by decide) hl (z1h hs.lt) (z1h hs'.lt) (sd_first hs ha) (sd_second hs' hb) (by omega) (by omega) hu hf hf'⟩
theorem bare_sd (ts:List Tt) (L:Value) (m k:Nat) (x:Ex) (w:World) (hl:ts.length<=1000000) (hk:k+1=ts.length) (hS:Sd W ts x k) (ho:EOk tz m x) (hz:xz x<=60000) (h:Lr w L ts):
 CZ 33 #[L] w λe w'=>e=.returned (.string ⟨(frm x).toArray⟩)/\Below w.heap.size w w':=by
 obtain⟨n,_,hF⟩:=bform_any ts L m hl x k hS ho hz;have HF:=hid (hF w h);obtain⟨g,cap,rfl,hg,_⟩:=h;have hk':(ts.length:Int)-1=(k:Int):=by omega
 go_enter Tryz.func33,Tryz.ntmps33;go_wp21;refine HF.mono ?_;rintro e w' ⟨F,rfl,_,HD,hb⟩;go_wp21;go_ret;refine⟨?_,hb⟩;have h2:=HD.out
 cases F
 simp at h2;rw[<-h2];simp
end
end Go.Proofs.YtceadeaodbadlaaGreatDoor
namespace Go.Proofs.YtceadeaodbadlaaGreatDoor
open Go.RowKit
abbrev tmI (op:Int) (c a b:Nat) (ga va pa:Option Addr) (gn gc vn vc pn pc at' tu:Nat):Array Value:=#[.int .u8 op,uZ c,iZ a,iZ b,.slice ga gn gc,.slice va vn vc,.slice pa pn pc,iZ at',iZ tu]
abbrev ckW (T:Array Value) (w:World):World:=(w.alloc rbO).alloc (.cells T 76)
section
variable {ε:Ce} {st:List Se} {B b r m n c:Nat} {a:Option Addr} {L:Value} {w1:World} (T:Array Value) (w:World)
theorem ztn:Below w.heap.size w (ckW T w):=(bal w _).alloc (by simp) _
theorem zxq:(ckW T w).heap.size=w.heap.size+2:=by simp[ckW]
theorem ckW_res:(ckW T w).heap[w.heap.size]? =some (.cells #[.slice none 0 0] 33 (0,0)):=(Below.heap_alloc _ _ _ (by simp)).trans (z1v w _)
theorem zxr:(ckW T w).heap[w.heap.size+1]? =some (.cells T 76 (0,0)):=by
 have:=z1v (w.alloc rbO) (.cells T 76);simpa using this
theorem Cs.box {w:World} {T:TypeId} (h:Cs B b L ε m st w) (hr:w.heap[r]? =some (.cells #[.slice a n c] T (0,0))) (v:Value):
 Cs B b L ε m st (w.setCell ⟨r,0,none⟩ v)/\b≠r/\srow b w≠some r:=by
 have hc:=zab hr;obtain⟨hB,hL,he,S,hk,ho,hn,hu,hxs⟩:=h
 have hbr:b≠r:=by
  rintro rfl;unfold Ck at hk;rw[hk] at hr;injection hr with hr;injection hr with hr;have:=congrArg Array.size hr;simp at this
 have hSr:S.ownBlock≠some r:=by
  intro e;obtain⟨z,hz⟩:=hu r e;rw[hc] at hz
  cases hz
 refine⟨⟨hB,hL,he,S,hk.kept (zai _ _) (by simp;exact λe=>hbr e.symm),ho.kept (zai _ _) (.inr hSr),hn,λg e=>?_,λx hx=>?_⟩,hbr,by rw[hk.row];exact hSr⟩
 ·obtain⟨z,hz⟩:=hu g e
  exact⟨z,by rw[cell_far w ⟨r,0,none⟩ ⟨g,0,none⟩ (by show r≠g;rintro rfl;exact hSr e)];exact hz⟩
 ·obtain⟨h1,h2⟩:=hxs x hx
  refine⟨h1.kept (zai _ _) (by simp;exact λe=>h1.notBox hc e.symm),h2.at' (by simp[World.setCell]) (λg z hz=>Below.heap_setCell w _ _ _ (by show g≠r;rintro rfl;rw[hc] at hz;cases hz))⟩
theorem CFr.box {w:World} (F:CFr b w w1) (hs:w.heap.size<=r) (hb:b≠r) (v:Value):CFr b w (w1.setCell ⟨r,0,none⟩ v):=by
 refine⟨F.os,F.tape,F.output,by simp only[World.setCell,Array.size_modify];exact F.size,λk hk3 hkb hkr=>?_,?_⟩
 ·rw[Below.heap_setCell _ _ _ _ (by show k≠r;omega)];exact F.block k hk3 hkb hkr
 ·have e:srow b (w1.setCell ⟨r,0,none⟩ v)=srow b w1:=by unfold srow;rw[cell_far w1 ⟨r,0,none⟩ ⟨b,1,none⟩ (λe=>hb e.symm)]
  rw[e];exact F.row
theorem CPost.store {N:Nat} {w w2:World} {e:Ending} {T:TypeId} {R:COut} (h:CPost B b L m st N R w1 e w2) (F:CFr b w w1) (hr:w2.heap[r]? =some (.cells #[.slice a n c] T (0,0))) (hs:w.heap.size<=r) (v:Value):
 CPost B b L m st N R w e (w2.setCell ⟨r,0,none⟩ v):=by
 obtain⟨t,g,cap,rfl,R',C,F',h1,h2⟩:=h;obtain⟨C',hb,_⟩:=C.box hr v;exact⟨t,g,cap,rfl,R'.kept (zai _ _) (by simp;exact λe=>R'.notBox (zab hr) e.symm),C',(F.trans F').box hs hb v,h1,h2⟩
theorem CFr.old {w:World} {o:Obj} (F:CFr b w w1) (hr:w.heap[r]? =some o) (hb:b≠r) (hn:srow b w≠some r):w1.heap[r]? =some o:=(F.block r (z1a.1 hr).1 (λe=>hb e.symm) (λe=>hn e.symm)).trans hr
structure Ct (w0:World) (b:Nat) (L:Value) (ts:List Tt) (ε:Ce) (st:List Se) (w:World):Prop where
 old:Below w0.heap.size w0 w
 cs:Cs w0.heap.size b L ε 50000 st w
 lr:Lr w0 L ts
 len:ts.length<=300000
theorem Ct.terms {w0:World} {ts:List Tt} {w:World} (h:Ct w0 b L ts ε st w):Lr w L ts:=h.lr.below h.old
theorem zsm {w0:World} {ts:List Tt} {w:World} {k:Nat} {op ta tb:Nat} {ga va pa:Option Addr} {gn gc vn vc pn pc tat tto:Nat} (o:Int) (h:Ct w0 b L ts none st w) (hu:ts[k]? =some ⟨op,c,ta,tb,(ga,gn,gc),(va,vn,vc),(pa,pn,pc),tat,tto⟩):
 ∃gL capL S,L=(sZ gL ts.length capL)/\gL<w.heap.size/\Hid (∀(k:Nat) (t:Tt),ts[k]? =some t->∀(j:Nat) (v:Value),t.cells[j]? =some v->w.cell? ⟨gL,k*9+j,none⟩=some v)/\
  (w.cell? ⟨gL,k*9,none⟩=some (uZ op)/\w.cell? ⟨gL,k*9+1,none⟩=some (uZ c)/\w.cell? ⟨gL,k*9+2,none⟩=some (iZ ta)/\w.cell? ⟨gL,k*9+3,none⟩=some (iZ tb)/\w.cell? ⟨gL,k*9+4,none⟩=some (.slice ga gn gc)/\w.cell? ⟨gL,k*9+5,none⟩=some (.slice va vn vc)/\w.cell? ⟨gL,k*9+6,none⟩=some (.slice pa pn pc)/\w.cell? ⟨gL,k*9+7,none⟩=some (iZ tat)/\w.cell? ⟨gL,k*9+8,none⟩=some (iZ tto))/\
  k<ts.length/\ts.length<=300000/\b<w.heap.size/\w0.heap.size<=w.heap.size/\Ck b L S 0 0 50000 w/\Below w.heap.size w (ckW (tmI o c ta tb ga va pa gn gc vn vc pn pc tat tto) w)/\
  (ckW (tmI o c ta tb ga va pa gn gc vn vc pn pc tat tto) w).heap[w.heap.size]? =some (.cells #[.slice none 0 0] 33 (0,0))/\(ckW (tmI o c ta tb ga va pa gn gc vn vc pn pc tat tto) w).heap[w.heap.size+1]? =some (.cells (tmI o c ta tb ga va pa gn gc vn vc pn pc tat tto) 76 (0,0))/\
  (ckW (tmI o c ta tb ga va pa gn gc vn vc pn pc tat tto) w).heap.size=w.heap.size+2/\w.cell? ⟨b,0,none⟩=some L/\(w.alloc rbO).cell? ⟨b,0,none⟩=some L/\(ckW (tmI o c ta tb ga va pa gn gc vn vc pn pc tat tto) w).cell? ⟨b,2,none⟩=some (.int .i64 0)/\
  Hid (Cs w0.heap.size b L none 50000 st w)/\Hid (Cs w0.heap.size b L none 50000 st (ckW (tmI o c ta tb ga va pa gn gc vn vc pn pc tat tto) w))/\Hid (CFr b w (ckW (tmI o c ta tb ga va pa gn gc vn vc pn pc tat tto) w))/\Hid (Ct w0 b L ts none st w)/\Hid (Below w.heap.size w (ckW (tmI o c ta tb ga va pa gn gc vn vc pn pc tat tto) w))/\
  Hid (ts[k]? =some ⟨op,c,ta,tb,(ga,gn,gc),(va,vn,vc),(pa,pn,pc),tat,tto⟩)/\Hid (∀j,srow b (ckW (tmI o c ta tb ga va pa gn gc vn vc pn pc tat tto) w)=some j->j<w.heap.size):=by
 have hT:=h.terms;obtain⟨gL,capL,rfl,hgL,HLcs⟩:=id hT;obtain⟨S,hck,-,-⟩:=h.cs.mv;have B0:=ztn (tmI o c ta tb ga va pa gn gc vn vc pn pc tat tto) w;have kb0:cZ w b 0 (sZ gL ts.length capL):=cbl hck;refine⟨gL,capL,S,rfl,hgL,HLcs,hT.at hu,(z1b.1 hu).1,h.len,h.cs.lt,h.old.size,hck,B0,ckW_res _ w,zxr _ w,zxq _ w,kb0,(z1o _ _ ⟨b,0,none⟩ h.cs.lt).trans kb0,by rw[z1f (hck.below B0)];rfl,h.cs,(h.cs.below B0).1,(h.cs.below B0).2,h,B0,hu,λj e=>?_⟩;rw[(hck.below B0).row,<-hck.row] at e;exact(h.cs.rowB j e).2
theorem zrw (op:Nat) (r1 r2:Nat) (w0:World) (b:Nat) (L:Value) (ts:List Tt) (st:List Se) (w:World) (k:Nat) (c ta tb:Nat) (ga va pa:Option Addr) (gn gc vn vc pn pc tat tto:Nat) (h:Ct w0 b L ts (some (r1,r2)) st w) (hu:ts[k]? =some ⟨op,c,ta,tb,(ga,gn,gc),(va,vn,vc),(pa,pn,pc),tat,tto⟩) (he:1<=r1):
 CZ 61 #[pZ b,iZ k] w (CPost w0.heap.size b L 50000 st 1 (.error (r1,r2)) w):=by
 have hT:=h.terms;obtain⟨gL,capL,rfl,hgL,HLcs⟩:=id hT;have HLC:=hid HLcs;obtain⟨k0,k1,k2,k3,k4,k5,k6,k7,k8⟩:=hT.at hu;simp only at k0 k1 k2 k3 k4 k5 k6 k7 k8;have hkl:=(z1b.1 hu).1;have hlen:=h.len;have hblt:=h.cs.lt;have hw0:=h.old.size;obtain⟨S,hck,-,-⟩:=h.cs.mv;have B0:=ztn (tmA op c ta tb ga va pa gn gc vn vc pn pc tat tto) w;have r0:=ckW_res (tmA op c ta tb ga va pa gn gc vn vc pn pc tat tto) w;have q0:=zxr (tmA op c ta tb ga va pa gn gc vn vc pn pc tat tto) w;have z0:=zxq (tmA op c ta tb ga va pa gn gc vn vc pn pc tat tto) w;have kb0:cZ w b 0 (sZ gL ts.length capL):=cbl hck;have kb0':(w.alloc rbO).cell? ⟨b,0,none⟩=some (sZ gL ts.length capL):=(z1o _ _ ⟨b,0,none⟩ hblt).trans kb0;have kb2:(ckW (tmA op c ta tb ga va pa gn gc vn vc pn pc tat tto) w).cell? ⟨b,2,none⟩=some (iZ r1):=by rw[z1f (hck.below B0)];rfl
 have HC:=hid h.cs;have HC0:=hid ((h.cs.below B0).1);have HF0:=hid ((h.cs.below B0).2);have HCT:=hid h;have HB0:=hid B0;have HU:=hid hu
 have HSL:Hid (∀j,srow b (ckW (tmA op c ta tb ga va pa gn gc vn vc pn pc tat tto) w)=some j->j<w.heap.size):=by
  intro j e;rw[(hck.below B0).row,<-hck.row] at e;exact(h.cs.rowB j e).2
 have e1:((r1:Int) !=0)=true:=by rw[bne_iff_ne];omega
 go_enter Tryz.func61,Tryz.ntmps61;go_wp21;unfold ckW at *
 generalize (w.alloc rbO).alloc (.cells (tmA op c ta tb ga va pa gn gc vn vc pn pc tat tto) 76)=W at *
 refine(zds 0 0 (by decide) (.inl ⟨rfl,rfl,rfl,rfl⟩) W).mono ?_;rintro e w1 ⟨g1,cap1,rfl,R1,hg1,b1⟩;have h1:=(b1.block w.heap.size (by omega)).trans r0;have c1:=zab h1;have f1:=zaf h1;rw[zkb]
 have HP:Hid (∀u cap,CPost w0.heap.size b (sZ gL ts.length capL) 50000 st 1 (.error (r1,r2)) w (.returned (.agg #[sZ g1 1 cap])) (w1.setCell ⟨w.heap.size,0,none⟩ u)):=by
  intro u cap;have P:CPost w0.heap.size b (sZ gL ts.length capL) 50000 st 1 (.error (r1,r2)) W (.returned (.agg #[sZ g1 1 cap])) w1:=⟨tI,g1,cap,rfl,R1,(HC0.out.below b1).1,(HC0.out.below b1).2,(λu e=>by first|exact Except.ok.inj e|cases e),(λf e=>by first|exact z1d _|cases e)⟩
  exact P.store HF0 h1 (z1d _) u
 go_wp21;refine zah rfl rfl (zad h1) ?_;exact HP _ _
theorem znq (w0:World) (b:Nat) (L:Value) (ts:List Tt) (r:Nat×Nat) (st:List Se) (w:World) (k:Nat) (h:Ct w0 b L ts (some r) st w) (hk:k<ts.length):
 CZ 61 #[pZ b,iZ k] w (CPost w0.heap.size b L 50000 st 1 (.error r) w):=by
 obtain⟨u,hu⟩:∃u,ts[k]? =some u:=⟨_,z1h hk⟩
 obtain⟨op,c,ta,tb,⟨ga,gn,gc⟩,⟨va,vn,vc⟩,⟨pa,pn,pc⟩,tat,tto⟩:=u;obtain⟨r1,r2⟩:=r;exact zrw op r1 r2 w0 b L ts st w k c ta tb ga va pa gn gc vn vc pn pc tat tto h hu (h.cs.2.2.1 _ rfl)
theorem znb (v:Ty) (w0:World) (b:Nat) (L:Value) (ts:List Tt) (st:List Se) (w:World) (k:Nat) (c ta tb:Nat) (ga va pa:Option Addr) (gn gc vn vc pn pc tat tto:Nat) (h:Ct w0 b L ts none st w) (hu:ts[k]? =some ⟨48,c,ta,tb,(ga,gn,gc),(va,vn,vc),(pa,pn,pc),tat,tto⟩) (hc:(c≠84/\c≠70)/\v=tI\/c=84/\v=tB\/c=70/\v=tB):
 CZ 61 #[pZ b,iZ k] w (CPost w0.heap.size b L 50000 st 1 (.ok v) w):=by
 obtain⟨gL,capL,S,rfl,hgL,HLC,⟨k0,k1,k2,k3,k4,k5,k6,k7,k8⟩,hkl,hlen,hblt,hw0,hck,B0,r0,q0,z0,kb0,kb0',kb2,HC,HC0,HF0,HCT,HB0,HU,HSL⟩:=zsm 48 h hu;have q1:(ckW (tmI 48 c ta tb ga va pa gn gc vn vc pn pc tat tto) w).cell? ⟨w.heap.size+1,1,none⟩=some (uZ c):=cbl q0
 have hs:Hid (v=tI)/\((c:Int)==84)=false/\((c:Int)==70)=false\/Hid (v=tB)/\((c:Int)==84)=true\/Hid (v=tB)/\((c:Int)==84)=false/\((c:Int)==70)=true:=by
  rcases hc with ⟨⟨h1,h2⟩,h3⟩|⟨rfl,h3⟩|⟨rfl,h3⟩
  ·exact .inl ⟨h3,by rw[beq_eq_false_iff_ne];omega,by rw[beq_eq_false_iff_ne];omega⟩
  ·exact .inr (.inl ⟨h3,rfl⟩)
  ·exact .inr (.inr ⟨h3,rfl,rfl⟩)
 rcases hs with ⟨hv,e1,e2⟩|⟨hv,e1⟩|⟨hv,e1,e2⟩
 all_goals
  go_enter Tryz.func61,Tryz.ntmps61;go_wp21;unfold ckW at *
  generalize (w.alloc rbO).alloc (.cells (tmI 48 c ta tb ga va pa gn gc vn vc pn pc tat tto) 76)=W at *
  first|refine(zds 0 0 (by decide) (.inl ⟨rfl,rfl,rfl,rfl⟩) W).mono ?_|refine(zds 1 0 (by decide) (.inr (.inl ⟨rfl,rfl,rfl,rfl⟩)) W).mono ?_
  rintro e w1 ⟨g1,cap1,rfl,R1,hg1,b1⟩;have h1:=(b1.block w.heap.size (by omega)).trans r0;have c1:=zab h1;have f1:=zaf h1;rw[zkb];replace R1:Rg g1 v w1:=by rw[hv.out];exact R1
  have HP:Hid (∀u cap,CPost w0.heap.size b (sZ gL ts.length capL) 50000 st 1 (.ok v) w (.returned (.agg #[sZ g1 1 cap])) (w1.setCell ⟨w.heap.size,0,none⟩ u)):=by
   intro u cap;have P:CPost w0.heap.size b (sZ gL ts.length capL) 50000 st 1 (.ok v) W (.returned (.agg #[sZ g1 1 cap])) w1:=⟨v,g1,cap,by rw[hv.out];rfl,R1,(HC0.out.below b1).1,(HC0.out.below b1).2,(λu e=>by first|exact Except.ok.inj e|cases e),(λf e=>by first|exact z1d _|cases e)⟩
   exact P.store HF0 h1 (z1d _) u
  go_wp21;refine zah rfl rfl (zad h1) ?_;exact HP _ _
theorem znk (w0:World) (b:Nat) (L:Value) (ts:List Tt) (st:List Se) (w:World) (k:Nat) (c ta tb:Nat) (ga va pa:Option Addr) (gn gc vn vc pn pc tat tto:Nat) (h:Ct w0 b L ts none st w) (hu:ts[k]? =some ⟨120,c,ta,tb,(ga,gn,gc),(va,vn,vc),(pa,pn,pc),tat,tto⟩) (N:Nat) (R:COut) (HN:∀X,Below w.heap.size w X->CZ 98 #[pZ b,.agg (tmA 120 c ta tb ga va pa gn gc vn vc pn pc tat tto)] X (CPost w0.heap.size b L 50000 st N R X)):
 CZ 61 #[pZ b,iZ k] w (CPost w0.heap.size b L 50000 st N R w):=by
 obtain⟨gL,capL,S,rfl,hgL,HLC,⟨k0,k1,k2,k3,k4,k5,k6,k7,k8⟩,hkl,hlen,hblt,hw0,hck,B0,r0,q0,z0,kb0,kb0',kb2,HC,HC0,HF0,HCT,HB0,HU,HSL⟩:=zsm 120 h hu;have HNH:Hid (CZ 98 #[pZ b,.agg (tmI 120 c ta tb ga va pa gn gc vn vc pn pc tat tto)] (ckW (tmI 120 c ta tb ga va pa gn gc vn vc pn pc tat tto) w) (CPost w0.heap.size b (sZ gL ts.length capL) 50000 st N R (ckW (tmI 120 c ta tb ga va pa gn gc vn vc pn pc tat tto) w))):=HN _ B0;go_enter Tryz.func61,Tryz.ntmps61;go_wp21;unfold ckW at *
 generalize (w.alloc rbO).alloc (.cells (tmI 120 c ta tb ga va pa gn gc vn vc pn pc tat tto) 76)=W at *
 refine HNH.mono ?_;intro e w1 hP;obtain⟨n1,g1,cap1,rfl⟩:=hP.form;have HP:=hid hP;have hbr:=HC0.out.box r0 (.int .i64 0)
 have h1:w1.heap[w.heap.size]? =some (.cells #[.slice none 0 0] 33 (0,0)):=by
  obtain⟨_,_,_,_,_,_,F,_⟩:=hP;exact F.old r0 hbr.2.1 hbr.2.2
 have c1:=zab h1;have f1:=zaf h1;go_wp21;refine zah rfl rfl (zad h1) ?_;exact HP.store HF0 h1 (z1d _) _
end
section
variable {st:List Se} {b r:Nat} {L:Value} {w w' w1:World}
theorem zmn {B N:Nat} {S:Value} {m:Nat} {c q:Nat} {e:Ending} (mv:∀(ε':Ce) (w':World),(∀r,ε'=some r->1<=r.1)->Ck b L S (cErr ε') (cAt ε') m w'->w.grownBy w' (some b)->Cs B b L ε' m st w'/\CFr b w w') (hc:1<=c) (hN:1<=N) (P:FPost b L S c q m w e w'):CPost B b L m st N (.error (c,q)) w e w':=by
 obtain⟨g,cap,rfl,R,hg,C,G⟩:=P;obtain⟨h1,h2⟩:=mv (some (c,q)) _ (λr e=>by cases e;exact hc) C G;exact⟨tI,g,cap,rfl,R,h1,h2,(λu e=>by cases e),λf _=>hN⟩
theorem call_any (B b:Nat) (L:Value) (st:List Se) (N op c ta tb:Nat) (ga va pa:Option Addr) (gn gc vn vc pn pc tat tto:Nat) (f y:Ty) (gf cf gy cy:Nat) (w:World) (h:Cs B b L none 50000 st w) (hf:Rg gf f w) (hy:Rg gy y w) (hfl:sz f<=60000) (hyl:sz y<=60000) (hN:1<=N):
 CZ 101 #[pZ b,.agg (tmA op c ta tb ga va pa gn gc vn vc pn pc tat tto),.agg #[sZ gf (sz f) cf],.agg #[sZ gy (sz y) cy]] w (CPost B b L 50000 st N (zjc f y tto) w):=by
 obtain⟨S,hk,-,mv⟩:=h.mv
 have bad:(rt f 0).op≠62->zjc f y tto=.error (5,tto)->CZ 101 #[pZ b,.agg (tmA op c ta tb ga va pa gn gc vn vc pn pc tat tto),.agg #[sZ gf (sz f) cf],.agg #[sZ gy (sz y) cy]] w (CPost B b L 50000 st N (zjc f y tto) w):=by
  intro h1 h2;rw[h2];exact(call_root b op c ta tb ga va pa gn gc vn vc pn pc tat tto f (sz y) gf cf gy cy L S 0 50000 w hk hf hfl h1).mono λe w' P=>zmn mv (by decide) hN P
 rcases hf.ok.cases with rfl|rfl|⟨o,h1,h2,rfl⟩|⟨a,ha,rfl⟩|⟨a,a',ha,ha',rfl⟩|⟨a,a',ha,ha',rfl⟩
 ·exact bad (by decide) rfl
 ·exact bad (by decide) rfl
 ·exact bad (by show o+30≠62;omega) rfl
 ·exact bad (by show 91≠62;decide) rfl
 ·exact bad (by show 42≠62;decide) rfl
 ·by_cases he:a=y
  ·subst he
   have e:zjc (tF a a') a tto=.ok a':=by
    show (if eqT a a then Except.ok a' else Except.error (5,tto))=Except.ok a';rw[if_pos ((zgp a a).2 rfl)]
   rw[e];refine(call_ok b op c ta tb ga va pa gn gc vn vc pn pc tat tto a a' gf cf gy cy w hf hy hfl ha ha').mono ?_;rintro e w' ⟨g,cap,rfl,R,hg,hb⟩;exact⟨a',g,cap,rfl,R,(h.below hb).1,(h.below hb).2,(λu e=>Except.ok.inj e),(λf e=>by cases e)⟩
  ·have e:zjc (tF a a') y tto=.error (5,tto):=by
    show (if eqT a y then Except.ok a' else Except.error (5,tto))=Except.error (5,tto);rw[if_neg (λe=>he ((zgp a y).1 e))]
   rw[e];exact(call_diff b op c ta tb ga va pa gn gc vn vc pn pc tat tto a a' y gf cf gy cy L S 0 50000 w hk hf hy hfl hyl ha he).mono λe w' P=>zmn mv (by decide) hN P
def zuv (ra rb:COut) (p:Nat):COut:=match ra with
 | .error r=> .error r
 | .ok f=>match rb with
  | .error r=> .error r
  | .ok y=>zjc f y p
def secC (ra rb:COut):COut:=match ra with
 | .error r=> .error r
 | .ok _=>rb
theorem CFr.rowNe (F:CFr b w w1) (hn:srow b w≠some r) (hl:r<w.heap.size):srow b w1≠some r:=by
 rcases F.row with e|⟨q,e,hq⟩
 ·rw[e];exact hn
 ·rw[e];simp;omega
theorem CFr.keep {o:Obj} (F:CFr b w w1) (hr:w.heap[r]? =some o) (hb:b≠r) (hn:srow b w≠some r):w1.heap[r]? =some o/\srow b w1≠some r:=
 ⟨F.old hr hb hn,F.rowNe hn (z1a.1 hr).1⟩
theorem CFr.ct {w0:World} {ts:List Tt} {ε ε':Ce} {st':List Se} (h:Ct w0 b L ts ε st w) (F:CFr b w w') (hc:Cs w0.heap.size b L ε' 50000 st' w'):Ct w0 b L ts ε' st' w':=
 ⟨h.old.trans (h.cs.tu F h.old.size),hc,h.lr,h.len⟩
theorem check_call (w0:World) (b:Nat) (L:Value) (ts:List Tt) (st:List Se) (w:World) (k:Nat) (c ta tb:Nat) (ga va pa:Option Addr) (gn gc vn vc pn pc tat tto:Nat) (h:Ct w0 b L ts none st w) (hu:ts[k]? =some ⟨99,c,ta,tb,(ga,gn,gc),(va,vn,vc),(pa,pn,pc),tat,tto⟩) (Na Nb N:Nat) (Ra Rb:COut) (hta:ta<ts.length) (htb:tb<ts.length) (hN:1<=N) (hfa:∀u,Ra=.ok u->sz u<=60000) (hfb:∀u,Rb=.ok u->sz u<=60000) (HA:∀X,Ct w0 b L ts none st X->CZ 61 #[pZ b,iZ ta] X (CPost w0.heap.size b L 50000 st Na Ra X)) (HB:∀X,Ct w0 b L ts none st X->CZ 61 #[pZ b,iZ tb] X (CPost w0.heap.size b L 50000 st Nb Rb X)):
 CZ 61 #[pZ b,iZ k] w (CPost w0.heap.size b L 50000 st N (zuv Ra Rb tto) w):=by
 obtain⟨gL,capL,S,rfl,hgL,HLC,⟨k0,k1,k2,k3,k4,k5,k6,k7,k8⟩,hkl,hlen,hblt,hw0,hck,B0,r0,q0,z0,kb0,kb0',kb2,HC,HC0,HF0,HCT,HB0,HU,HSL⟩:=zsm 99 h hu;have HCTW:Hid (Ct w0 b (sZ gL ts.length capL) ts none st (ckW (tmI 99 c ta tb ga va pa gn gc vn vc pn pc tat tto) w)):=(h.cs.below B0).2.ct h (h.cs.below B0).1;have HHA:Hid (CZ 61 #[pZ b,iZ ta] (ckW (tmI 99 c ta tb ga va pa gn gc vn vc pn pc tat tto) w) (CPost w0.heap.size b (sZ gL ts.length capL) 50000 st Na Ra (ckW (tmI 99 c ta tb ga va pa gn gc vn vc pn pc tat tto) w))):=HA _ HCTW.out
 have HHB:Hid (∀X,Ct w0 b (sZ gL ts.length capL) ts (zfx Ra) st X->CZ 61 #[pZ b,iZ tb] X (CPost w0.heap.size b (sZ gL ts.length capL) 50000 st (Nb+1) (secC Ra Rb) X)):=by
  intro X hX
  cases Ra with
  |error r=>
   refine(znq w0 b _ ts r st X tb hX htb).mono ?_;rintro e w' ⟨t,g,cap,rfl,R,C,F,h1,h2⟩;exact⟨t,g,cap,rfl,R,C,F,h1,λf e=>z1c (h2 f e) (by omega)⟩
  |ok u=>
   refine(HB X hX).mono ?_;rintro e w' ⟨t,g,cap,rfl,R,C,F,h1,h2⟩;exact⟨t,g,cap,rfl,R,C,F,h1,λf e=>z1c (h2 f e) (by omega)⟩
 have HFA:=hid hfa;have HFB:=hid hfb;clear HA HB hfa hfb;clear h hu B0 hck;go_enter Tryz.func61,Tryz.ntmps61;go_wp21;unfold ckW at *
 generalize (w.alloc rbO).alloc (.cells (tmI 99 c ta tb ga va pa gn gc vn vc pn pc tat tto) 76)=W at *
 refine HHA.mono ?_;intro e w1 hP1;obtain⟨t1,g1,cap1,rfl,R1,C1,F1,y1,y1'⟩:=hP1;have HY1:=hid y1;have bA:Below w1.heap.size w1 (w1.alloc (tbO g1 (sz t1) cap1)):=bal w1 _;have HC2:Hid (Cs w0.heap.size b (sZ gL ts.length capL) (zfx Ra) 50000 st (w1.alloc (tbO g1 (sz t1) cap1))):=(C1.below bA).1;have HF2:Hid (CFr b W (w1.alloc (tbO g1 (sz t1) cap1))):=F1.trans (C1.below bA).2;have HR2:Hid (Rg g1 t1 (w1.alloc (tbO g1 (sz t1) cap1))):=R1.below bA;have x2:(w1.alloc (tbO g1 (sz t1) cap1)).heap[w1.heap.size]? =some (.cells #[sZ g1 (sz t1) cap1] 33 (0,0)):=z1v w1 _;have s1:=F1.size;have sA:(w1.alloc (tbO g1 (sz t1) cap1)).heap.size=w1.heap.size+1:=by simp
 have nr:srow b W≠some w.heap.size:=λe=>by have:=HSL.out _ e;omega
 have nq:srow b W≠some (w.heap.size+1):=λe=>by have:=HSL.out _ e;omega
 obtain⟨r1,nr1⟩:=F1.keep r0 (by omega) nr;obtain⟨q1,nq1⟩:=F1.keep q0 (by omega) nq;have r2:=(Below.heap_alloc w1 (tbO g1 (sz t1) cap1) w.heap.size (by omega)).trans r1;have q2:=(Below.heap_alloc w1 (tbO g1 (sz t1) cap1) (w.heap.size+1) (by omega)).trans q1
 have nx2:srow b (w1.alloc (tbO g1 (sz t1) cap1))≠some w1.heap.size:=by
  intro e;obtain⟨S',hk',-⟩:=C1.mv;rw[(hk'.below bA).row,<-hk'.row] at e;have:=(C1.rowB _ e).2;omega
 have nr2:=HF2.out.rowNe nr (by omega);have nq2:=HF2.out.rowNe nq (by omega);have qa:(w1.alloc (tbO g1 (sz t1) cap1)).cell? ⟨w.heap.size+1,3,none⟩=some (iZ tb):=cbl q2;have q1a:cZ W (w.heap.size+1) 2 (iZ ta):=cbl q0;have HNX:=hid nx2;have HNR:=hid nr2;have HNQ:=hid nq2;have HCT2:Hid (Ct w0 b (sZ gL ts.length capL) ts (zfx Ra) st (w1.alloc (tbO g1 (sz t1) cap1))):=HF2.out.ct HCTW.out HC2.out;clear R1 C1 F1 y1 y1' bA nr nq nr1 nq1 nx2 nr2 nq2 r1 q1;go_wp21;generalize hn1:sz t1=n1 at *
 have HN1:=hid hn1;clear hn1;generalize hY:w1.alloc (tbO g1 n1 cap1)=Y at *
 clear hY;refine(HHB Y HCT2).mono ?_;intro e w2 hP2;obtain⟨t2,g2,cap2,rfl,R2,C2,F2,y2,y2'⟩:=hP2;have HY2:=hid y2;have bB:Below w2.heap.size w2 (w2.alloc (tbO g2 (sz t2) cap2)):=bal w2 _;have HC3:Hid (Cs w0.heap.size b (sZ gL ts.length capL) (zfx (secC Ra Rb)) 50000 st (w2.alloc (tbO g2 (sz t2) cap2))):=(C2.below bB).1;have HF3:Hid (CFr b Y (w2.alloc (tbO g2 (sz t2) cap2))):=F2.trans (C2.below bB).2;have HR3:Hid (Rg g2 t2 (w2.alloc (tbO g2 (sz t2) cap2))):=R2.below bB;have HR3':Hid (Rg g1 t1 (w2.alloc (tbO g2 (sz t2) cap2))):=HR2.out.cfr HC2.out HF3.out;have x3:(w2.alloc (tbO g2 (sz t2) cap2)).heap[w2.heap.size]? =some (.cells #[sZ g2 (sz t2) cap2] 33 (0,0)):=z1v w2 _;have s2:=F2.size;have sB:(w2.alloc (tbO g2 (sz t2) cap2)).heap.size=w2.heap.size+1:=by simp
 have r3:=(HF3.out.keep r2 (by omega) HNR.out).1;have q3:=(HF3.out.keep q2 (by omega) HNQ.out).1;have x3':=(HF3.out.keep x2 (by omega) HNX.out).1;obtain⟨S3,hk3,-,-⟩:=HC3.mv;have e3:(w2.alloc (tbO g2 (sz t2) cap2)).cell? ⟨b,2,none⟩=some (.int .i64 (cErr (zfx (secC Ra Rb)):Int)):=cbl hk3;have c31:=zab x3';have c32:=zab x3;have c3r:=zab r3;have f3r:=zaf r3;have HF:Hid (CFr b w (w2.alloc (tbO g2 (sz t2) cap2))):=(HF0.out.trans HF2.out).trans HF3.out;have q3all:∀j v,(tmI 99 c ta tb ga va pa gn gc vn vc pn pc tat tto)[j]? =some v->(w2.alloc (tbO g2 (sz t2) cap2)).cell? ⟨w.heap.size+1,j,none⟩=some v:=λj v hv=>by rw[z1f q3];exact hv
 have j0:=q3all 0 _ rfl;have j1:=q3all 1 _ rfl;have j2:=q3all 2 _ rfl;have j3:=q3all 3 _ rfl;have j4:=q3all 4 _ rfl;have j5:=q3all 5 _ rfl;have j6:=q3all 6 _ rfl;have j7:=q3all 7 _ rfl;have j8:=q3all 8 _ rfl;clear R2 C2 F2 y2 y2' bB r2 q2 x2 q3all hk3 qa
 cases hR:secC Ra Rb with
 |error r=>
  have HRR:Hid (zuv Ra Rb tto=.error r):=by
   unfold Hid
   cases Ra with
   |error r'=>cases hR;rfl
   |ok u=>cases Rb with
    |error r'=>cases hR;rfl
    |ok u'=>cases hR
  rw[hR] at e3 HC3;obtain⟨r1,r2⟩:=r;have her:1<=r1:=HC3.out.2.2.1 _ rfl;have e1:((r1:Int) !=0)=true:=by rw[bne_iff_ne];omega
  have e3':(w2.alloc (tbO g2 (sz t2) cap2)).cell? ⟨b,2,none⟩=some (iZ r1):=e3;clear hR e3 HY2;go_wp21;generalize w2.alloc (tbO g2 (sz t2) cap2)=Z at *
  refine(zds 0 0 (by decide) (.inl ⟨rfl,rfl,rfl,rfl⟩) Z).mono ?_;rintro e w4 ⟨g4,cap4,rfl,R4,hg4,b4⟩;have h4:=(b4.block w.heap.size (by omega)).trans r3;have c4:=zab h4;have f4:=zaf h4;rw[zkb]
  have HP:Hid (∀u cap,CPost w0.heap.size b (sZ gL ts.length capL) 50000 st N (zuv Ra Rb tto) w (.returned (.agg #[sZ g4 1 cap])) (w4.setCell ⟨w.heap.size,0,none⟩ u)):=by
   intro u cap;rw[HRR.out];have P:CPost w0.heap.size b (sZ gL ts.length capL) 50000 st N (.error (r1,r2)) Z (.returned (.agg #[sZ g4 1 cap])) w4:=⟨tI,g4,cap,rfl,R4,(HC3.out.below b4).1,(HC3.out.below b4).2,(λu e=>by cases e),(λf e=>hN)⟩
   exact P.store HF h4 (z1d _) u
  clear R4 b4;go_wp21;refine zah rfl rfl (zad h4) ?_;exact HP _ _
 |ok u'=>
  obtain⟨u,hu1,hu2⟩:∃u,Ra=.ok u/\Rb=.ok u':=by
   cases Ra with
   |error r'=>cases hR
   |ok u=>exact⟨u,rfl,hR⟩
  have hv1:=HY1.out u hu1;have hv2:=HY2.out u' hR;subst hv1 hv2;have HRR:Hid (zuv Ra Rb tto=zjc t1 t2 tto):=by rw[hu1,hu2];rfl
  rw[hR] at e3 HC3;have e3':(w2.alloc (tbO g2 (sz t2) cap2)).cell? ⟨b,2,none⟩=some (.int .i64 0):=e3
  have HCA:Hid (CZ 101 #[pZ b,.agg (tmI 99 c ta tb ga va pa gn gc vn vc pn pc tat tto),.agg #[sZ g1 n1 cap1],.agg #[sZ g2 (sz t2) cap2]] (w2.alloc (tbO g2 (sz t2) cap2)) (CPost w0.heap.size b (sZ gL ts.length capL) 50000 st N (zjc t1 t2 tto) (w2.alloc (tbO g2 (sz t2) cap2)))):=by
   have:=call_any w0.heap.size b (sZ gL ts.length capL) st N 99 c ta tb ga va pa gn gc vn vc pn pc tat tto t1 t2 g1 cap1 g2 cap2 _ HC3.out HR3'.out HR3.out (HFA.out _ hu1) (HFB.out _ hu2) hN;rw[HN1.out] at this;exact this
  clear hR e3 HY2 HY1 hu1 hu2;generalize hn2:sz t2=n2 at *
  clear hn2;go_wp21;generalize w2.alloc (tbO g2 n2 cap2)=Z at *
  refine HCA.mono ?_;intro e w4 hP4;obtain⟨n4,g4,cap4,rfl⟩:=hP4.form
  have h4:w4.heap[w.heap.size]? =some (.cells #[.slice none 0 0] 33 (0,0)):=by
   obtain⟨_,_,_,_,_,_,F,_⟩:=hP4;exact(F.keep r3 (by omega) (HF3.out.rowNe HNR.out (by omega))).1
  have c4:=zab h4;have f4:=zaf h4
  have HP:Hid (∀u,CPost w0.heap.size b (sZ gL ts.length capL) 50000 st N (zuv Ra Rb tto) w (.returned (.agg #[sZ g4 n4 cap4])) (w4.setCell ⟨w.heap.size,0,none⟩ u)):=by
   intro u;rw[HRR.out];exact hP4.store HF h4 (z1d _) u
  clear hP4;go_wp21;refine zah rfl rfl (zad h4) ?_;exact HP _
end
theorem zpd:(Tryz.prog.info? 150).map (λi=>(i.zero,i.size,i.bytes))=some (some (.agg #[.int .u8 0,.slice none 0 0,.slice none 0 0]),3,56):=by kernel_rfl
abbrev seA (c h n cp:Nat) (va:Option Addr) (vn vc:Nat):Array Value:=#[uZ c,sZ h n cp,.slice va vn vc]
abbrev seO (c h n cp:Nat) (va:Option Addr) (vn vc:Nat):Obj:=.cells (seA c h n cp va vn vc) 150
theorem se_news (W:World) (c h n cp:Nat) (va:Option Addr) (vn vc:Nat):∀j u,[Value.int .u8 (c:Int),sZ h n cp,.slice va vn vc][j]? =some u->(W.alloc (seO c h n cp va vn vc)).drew.cell? ((⟨W.heap.size,0,none⟩:Addr).add j)=some u:=by
 have hnb:(W.alloc (seO c h n cp va vn vc)).drew.heap[W.heap.size]? =some (.cells (seA c h n cp va vn vc) 150 (0,0)):=z1v W _;exact z1x hnb
theorem zdn {W w1:World} {A:Obj} {row:Option Nat} (hg:(W.alloc A).drew.grownBy w1 row) {g:Nat} {o:Obj} (hb:W.heap[g]? =some o) (hne:row≠some g):w1.heap[g]? =some o:=by
 have hlt:=(z1a.1 hb).1;rw[hg.block g (by show g<(W.alloc A).heap.size;simp;omega) (Ne.symm hne)];show (W.alloc A).heap[g]? =some o;rw[Below.heap_alloc _ _ _ hlt];exact hb
def funC (u:Ty) (r:COut) (p:Nat):COut:=match r with
 | .error f=> .error f
 | .ok t=>if 50000<sz (tF u t) then .error (8,p) else .ok (tF u t)
theorem check_fn (w0:World) (b:Nat) (L:Value) (ts:List Tt) (st:List Se) (w:World) (k:Nat) (c ta tb:Nat) (ga va pa:Option Addr) (gn gc vn vc pn pc tat tto:Nat) (h:Ct w0 b L ts none st w) (hu:ts[k]? =some ⟨92,c,ta,tb,(ga,gn,gc),(va,vn,vc),(pa,pn,pc),tat,tto⟩) (u:Ty) (Na N:Nat) (Ra:COut) (hta:ta<ts.length) (hN:sz u+1+Na<=N) (hNa:Na<=60000) (hsu:sz u<=60000) (hls:st.length<=100000)
 (hG:Ls w0 (.slice ga gn gc) [u]) (hfa:∀v,Ra=.ok v->sz v<=60000)
 (HA:∀X h0 cp,Ct w0 b L ts none (st++[⟨c,u,[],h0,cp,(none,0,0)⟩]) X->CZ 61 #[pZ b,iZ ta] X (CPost w0.heap.size b L 50000 (st++[⟨c,u,[],h0,cp,(none,0,0)⟩]) Na Ra X)):
 CZ 61 #[pZ b,iZ k] w (CPost w0.heap.size b L 50000 st N (funC u Ra tat) w):=by
 obtain⟨gL,capL,S,rfl,hgL,HLC,⟨k0,k1,k2,k3,k4,k5,k6,k7,k8⟩,hkl,hlen,hblt,hw0,hck,B0,r0,q0,z0,kb0,kb0',kb2,HC,HC0,HF0,HCT,HB0,HU,HSL⟩:=zsm 92 h hu;have HCTW:Hid (Ct w0 b (sZ gL ts.length capL) ts none st (ckW (tmI 92 c ta tb ga va pa gn gc vn vc pn pc tat tto) w)):=(h.cs.below B0).2.ct h (h.cs.below B0).1;have HHA:=hid HA;have HFA:=hid hfa;obtain⟨aG,cG,eG,hG1⟩:=hG;rcases hG1 with hG1|⟨gg,rfl,hgg,hG1⟩
 ·cases hG1
 obtain⟨h0,cp0,y00,Ru0⟩:=hG1 0 u rfl;have hbB:=h.cs.1;simp only[Value.slice.injEq,List.length_singleton] at eG;obtain⟨rfl,rfl,rfl⟩:=eG;have BW0:=HCTW.out.old;have y0:=(BW0.cell (p:=⟨gg,0,none⟩) hgg).trans y00;have Ru:=Ru0.below BW0;have HRu:=hid Ru;obtain⟨S',hck',-,-⟩:=HC0.mv;obtain⟨i0,hi0,hz0,hz1,hz2⟩:=info_parts zpd
 have ho:(ckW (tmI 92 c ta tb (some ⟨gg,0,none⟩) va pa 1 gc vn vc pn pc tat tto) w).ownsRow w0.heap.size 150 3 S' st.length (zcc st):=by
  obtain⟨_,_,_,S2,hk2,ho2,_⟩:=id HC0
  obtain rfl:S2=S':=by
   have e:some (Obj.cells _ _ _)=some (Obj.cells _ _ _):=hk2.symm.trans hck';simp at e;exact e
  exact ho2
 have hne:S'.ownBlock≠some b:=by
  obtain⟨_,_,_,S2,hk2,ho2,hn2,_⟩:=id HC0
  obtain rfl:S2=S':=by
   have e:some (Obj.cells _ _ _)=some (Obj.cells _ _ _):=hk2.symm.trans hck';simp at e;exact e
  exact hn2
 have kb1:(ckW (tmI 92 c ta tb (some ⟨gg,0,none⟩) va pa 1 gc vn vc pn pc tat tto) w).cell? ⟨b,1,none⟩=some S':=cbl hck';have q0':=q0;have j1:(ckW (tmI 92 c ta tb (some ⟨gg,0,none⟩) va pa 1 gc vn vc pn pc tat tto) w).cell? ⟨w.heap.size+1,1,none⟩=some (uZ c):=cbl q0;have j4:(ckW (tmI 92 c ta tb (some ⟨gg,0,none⟩) va pa 1 gc vn vc pn pc tat tto) w).cell? ⟨w.heap.size+1,4,none⟩=some (sZ gg 1 gc):=cbl q0;have HK':=hid hck';have nqS:S'.ownBlock≠some (w.heap.size+1):=λe=>by have:=HSL.out _ (hck'.row.trans e);omega
 have ngS:S'.ownBlock≠some gg:=λe=>by have:=(ho.lt gg e).1;omega
 have HY00:=hid y00;clear HA hfa hG1 Ru q0' hck' BW0 y00 Ru0;generalize hn1:sz u=n1 at *
 have HN1:=hid hn1;clear hn1;clear h hu B0 hck;go_enter Tryz.func61,Tryz.ntmps61
 go_upto_region 8 with fail
 unfold ckW at *
 generalize (w.alloc rbO).alloc (.cells (tmI 92 c ta tb (some ⟨gg,0,none⟩) va pa 1 gc vn vc pn pc tat tto) 76)=W at *
 have HNW0:=se_news W c h0 n1 cp0 none 0 0;rw[z0] at HNW0;have HNW:=hid HNW0;have hbW:b<W.heap.size:=by omega
 have hgW:gg<W.heap.size:=by omega
 clear HNW0
 have HPU:Hid (∀g5 cap5 w5,World.ownsRow w5 w0.heap.size 150 3 (sZ g5 (st.length+1) cap5) (st.length+1) (zcc st++[Value.int .u8 (c:Int),sZ h0 n1 cp0,.slice none 0 0])->(W.alloc (seO c h0 n1 cp0 none 0 0)).drew.grownBy w5 S'.ownBlock->(S'.ownBlock=some g5\/g5=w.heap.size+3)->
  Hid (Cs w0.heap.size b (sZ gL ts.length capL) none 50000 (st++[⟨c,u,[],h0,cp0,(none,0,0)⟩]) (w5.setCell ⟨b,1,none⟩ (sZ g5 (st.length+1) cap5))/\CFr b W (w5.setCell ⟨b,1,none⟩ (sZ g5 (st.length+1) cap5)))):=by
  intro g5 cap5 w5 ho5 hg5 ha5;have B5:Below W.heap.size W (W.alloc (seO c h0 n1 cp0 none 0 0)).drew:=(bal W _).drew;have e5:[Value.int .u8 (c:Int),sZ h0 n1 cp0,.slice none 0 0]=Se.cells ⟨c,u,[],h0,cp0,(none,0,0)⟩:=by unfold Se.cells;rw[HN1.out]
  rw[e5] at ho5;have C5:=HC0.out.below B5;have:=C5.1.push (HK'.out.below B5) ho5 hg5 (by rcases ha5 with e|e;exact .inl e;exact .inr (by rw[e];show (W.alloc (seO c h0 n1 cp0 none 0 0)).heap.size<=_;simp[z0])) ⟨HRu.out.below B5,none,0,rfl,.inl rfl⟩;exact⟨this.1,C5.2.trans this.2⟩
 have HSW:Hid (srow b W≠some w.heap.size/\srow b W≠some (w.heap.size+1)):=⟨λe=>by have:=HSL.out _ e;omega,λe=>by have:=HSL.out _ e;omega⟩
 go_cut [48] from 33 to 48 (λ_ wx=>Hid (Cs w0.heap.size b (sZ gL ts.length capL) none 50000 (st++[⟨c,u,[],h0,cp0,(none,0,0)⟩]) wx/\CFr b W wx))
 case first=>
  have fA:∀g j,g<W.heap.size->(W.alloc (seO c h0 n1 cp0 none 0 0)).cell? ⟨g,j,none⟩=W.cell? ⟨g,j,none⟩:=λg j hg=>z1o _ _ ⟨g,j,none⟩ hg
  have jA1:=(fA (w.heap.size+1) 1 (by omega)).trans j1;have jA4:=(fA (w.heap.size+1) 4 (by omega)).trans j4;have yA0:=(fA gg 0 hgW).trans y0;have kA1:(W.alloc (seO c h0 n1 cp0 none 0 0)).drew.cell? ⟨b,1,none⟩=some S':=(fA b 1 hbW).trans kb1;have kA1':(W.drew.alloc (seO c h0 n1 cp0 none 0 0)).cell? ⟨b,1,none⟩=some S':=(fA b 1 hbW).trans kb1;have kb1':=kb1;refine wp_region_held_drew (S:=(λwq=>cZ wq (w.heap.size+1) 1 (uZ c)/\cZ wq (w.heap.size+1) 4 (sZ gg 1 gc)/\cZ wq gg 0 (sZ h0 n1 cp0))) (by kernel_rfl) (⟨j1,j4,y0⟩) (λhS=>?_);refine tkS 0 (pZ b) hS ?_;refine tkS 1 (pZ b) hS ?_;refine tkS 2 (pZ b) hS ?_;refine tkS 3 (.pointer (some ⟨b,1,none⟩)) hS ?_;refine tkS 5 (.pointer (some ⟨w.heap.size+1,1,none⟩)) hS ?_;refine tkL 6 (uZ c) hS ?_;refine tkS 7 (.pointer (some ⟨w.heap.size+1,4,none⟩)) hS ?_;refine tkL 8 (sZ gg 1 gc) hS ?_;refine tkS 9 (pZ gg) hS ?_;refine tkL 10 (.agg #[sZ h0 n1 cp0]) hS ?_;refine tkS 11 (.agg #[uZ c,sZ h0 n1 cp0,.slice none 0 0]) hS ?_;refine wpAnyH_ready (rs:=[4,12]) (by kernel_rfl) (by simp) ?_;refine AllReadyH.cons rfl (λKK hK=>?o0) (AllReadyH.cons rfl (λKK hK=>?t0) AllReadyH.nil)
  case' o0=>
   go_simp;refine hK.out _ _ hS (λhS=>nrm ?_);refine rd1 12 (λKK hK=>?_)
  case' t0=>
   go_simp;refine hK.out _ _ ⟨jA1,jA4,yA0⟩ (λhS=>nrm ?_);refine rd1 4 (λKK hK=>?_)
  all_goals
   go_simp;refine hK.out _ _ ⟨jA1,jA4,yA0⟩ (λhS=>nrm ?_);refine rd1 13 (λKK hK=>?_);refine step_append_lies _ (by rfl) _ _ _ (by rfl) w0.heap.size 150 i0 _ 3 56 Tryz.underlying102 hi0 hz0 hz1 hz2 rfl (by omega) S' st.length (zcc st) (by rfl) ((ho.alloc _).drew) ⟨w.heap.size+2,0,none⟩ 1 1 [Value.int .u8 (c:Int),sZ h0 n1 cp0,.slice none 0 0] (by rfl) (by rfl) HNW.out (by simp[Value.oneCell']) (by omega) (by unfold maxLen;omega) (by omega) (by simp;omega) (w.heap.size+3) (by simp[z0]) ?_;intro g5 cap5 w5 hown5 hgrow5 hat5 hlt5;have k5:cZ w5 b 1 S':=zjh (zdn hgrow5 HK'.out hne);have f5:w5.frozen? ⟨b,1,none⟩=false:=zit (zdn hgrow5 HK'.out hne);have l0:=zdn hgrow5 q0 nqS;have l1:cZ w5 (w.heap.size+1) 1 (uZ c):=cbl l0;have l4:cZ w5 (w.heap.size+1) 4 (sZ gg 1 gc):=cbl l0;have ly:cZ w5 gg 0 (sZ h0 n1 cp0):=(z1s (w:=(W.alloc (seO c h0 n1 cp0 none 0 0)).drew) (a:=⟨gg,0,none⟩) (hgrow5.block gg (by show gg<(W.alloc (seO c h0 n1 cp0 none 0 0)).heap.size;simp;omega) (Ne.symm ngS))).trans yA0;have HS5:Hid (w0.heap.size<=g5):=by obtain⟨_,hz⟩:=hown5.lt g5 rfl;exact(hown5.lt g5 rfl).1
   have l1':=l1;have l4':=l4;have ly':=ly;refine hK.out _ _ ⟨l1,l4,ly⟩ (λhS=>nrm ?_);refine tkS 14 (pZ b) hS ?_;refine tkS 15 (.pointer (some ⟨b,1,none⟩)) hS ?_;refine rd1 16 (λKK hK=>?_);go_simp;refine hK.out _ _ ⟨(cell_far w5 ⟨b,1,none⟩ ⟨w.heap.size+1,1,none⟩ (show b≠w.heap.size+1 by omega)).trans l1,(cell_far w5 ⟨b,1,none⟩ ⟨w.heap.size+1,4,none⟩ (show b≠w.heap.size+1 by omega)).trans l4,(cell_far w5 ⟨b,1,none⟩ ⟨gg,0,none⟩ (show b≠gg by omega)).trans ly⟩ (λhS=>nrm ?_);refine wpAnyH_done (by kernel_rfl) ?_ _;go_wp21;go_meet
   case rel=>exact HPU g5 cap5 w5 hown5 hgrow5 hat5
 case rest=>
  generalize wc=wA at *
  obtain⟨C5,F5⟩:=hcut.out;obtain⟨r5,nr5⟩:=F5.keep r0 (by omega) HSW.out.1;obtain⟨q5,nq5⟩:=F5.keep q0 (by omega) HSW.out.2;have z5:=F5.size;have j5:cZ wA (w.heap.size+1) 2 (iZ ta):=cbl q5;have HCT5:Hid (Ct w0 b (sZ gL ts.length capL) ts none (st++[⟨c,u,[],h0,cp0,(none,0,0)⟩]) wA):=F5.ct HCTW.out C5;have HF5:Hid (CFr b w wA):=HF0.out.trans F5;have HRu5:Hid (Rg h0 u wA):=HRu.out.cfr HC0.out F5;have HNR5:Hid (srow b wA≠some w.heap.size/\srow b wA≠some (w.heap.size+1)):=⟨nr5,nq5⟩
  clear nr5 nq5 C5 F5 hcut HPU HK' ho hne nqS ngS HNW hi0 hz0 hz1 hz2 r0 q0 kb1 j1 j4 y0;go_wp21;refine(HHA wA h0 cp0 HCT5).mono ?_;intro e w1 hP1;obtain⟨t1,g1,cap1,rfl,R1,C1,F1,y1,y1'⟩:=hP1;have HY1:=hid y1;have HY1':=hid y1';have bA:Below w1.heap.size w1 (w1.alloc (tbO g1 (sz t1) cap1)):=bal w1 _;have C2:=(C1.below bA).1;have HF2:Hid (CFr b wA (w1.alloc (tbO g1 (sz t1) cap1))):=F1.trans (C1.below bA).2;have HR2:Hid (Rg g1 t1 (w1.alloc (tbO g1 (sz t1) cap1))):=R1.below bA;have HRu2:Hid (Rg h0 u (w1.alloc (tbO g1 (sz t1) cap1))):=HRu5.out.cfr HCT5.out.cs HF2.out;have x2:(w1.alloc (tbO g1 (sz t1) cap1)).heap[w1.heap.size]? =some (.cells #[sZ g1 (sz t1) cap1] 33 (0,0)):=z1v w1 _;have s1:=F1.size;have sA:(w1.alloc (tbO g1 (sz t1) cap1)).heap.size=w1.heap.size+1:=by simp
  obtain⟨r2,nr2⟩:=HF2.out.keep r5 (by omega) HNR5.out.1;obtain⟨q2,nq2⟩:=HF2.out.keep q5 (by omega) HNR5.out.2
  have nx2:srow b (w1.alloc (tbO g1 (sz t1) cap1))≠some w1.heap.size:=by
   intro e;obtain⟨S',hk',-⟩:=C1.mv;rw[(hk'.below bA).row,<-hk'.row] at e;have:=(C1.rowB _ e).2;omega
  obtain⟨S2,hk2,-,-⟩:=C2.mv;obtain⟨gs,caps,rfl,hcaps,C3,F3⟩:=C2.pop hk2;have kb2':(w1.alloc (tbO g1 (sz t1) cap1)).drew.cell? ⟨b,1,none⟩=some (sZ gs (st.length+1) caps):=zjh hk2;have fb2:(w1.alloc (tbO g1 (sz t1) cap1)).drew.frozen? ⟨b,1,none⟩=false:=zit hk2;have HPO:Hid (Cs w0.heap.size b (sZ gL ts.length capL) (zfx Ra) 50000 st ((w1.alloc (tbO g1 (sz t1) cap1)).setCell ⟨b,1,none⟩ (sZ gs st.length caps))/\CFr b (w1.alloc (tbO g1 (sz t1) cap1)) ((w1.alloc (tbO g1 (sz t1) cap1)).setCell ⟨b,1,none⟩ (sZ gs st.length caps))):=⟨C3,F3⟩
  have HN2:Hid (srow b (w1.alloc (tbO g1 (sz t1) cap1))≠some w.heap.size/\srow b (w1.alloc (tbO g1 (sz t1) cap1))≠some (w.heap.size+1)/\srow b (w1.alloc (tbO g1 (sz t1) cap1))≠some w1.heap.size):=⟨nr2,nq2,nx2⟩
  have HC2:=hid C2;clear R1 C1 F1 y1 y1' bA nr2 nq2 nx2 r5 q5 j5 C2 C3 F3 hk2 HHA;generalize hn2:sz t1=n2 at *
  have HN2':=hid hn2;clear hn2
  go_upto_region 10 with fail
  generalize hY:w1.alloc (tbO g1 n2 cap1)=Y at *
  clear hY;generalize hsl:st.length=sl at *
  have HSLN:=hid hsl;clear hsl
  go_cut [66] from 53 to 66 (λ_ wx=>wx=(Y.setCell ⟨b,1,none⟩ (sZ gs sl caps)).drew)
  case first=>
   have hwsl:IntKind.i64.wrap (sl:Int)=(sl:Int):=IntWalk.i64_in _ ⟨by omega,by omega⟩;have bs1:(0:Int)<=(sl:Int):=by omega
   have bs2:(sl:Int)<=(caps:Int):=by omega
   have bs3:sl<=caps:=by omega
   refine wp_region_held_drew (S:=(λ_=>True)) (by kernel_rfl) trivial (λhS=>?_);refine tkS 0 (pZ b) hS ?_;refine tkS 1 (pZ b) hS ?_;refine tkS 2 (pZ b) hS ?_;refine tkS 3 (.pointer (some ⟨b,1,none⟩)) hS ?_;refine tkS 5 (pZ b) hS ?_;refine tkS 6 (pZ b) hS ?_;refine tkS 7 (.pointer (some ⟨b,1,none⟩)) hS ?_;refine wpAnyH_ready (rs:=[4,8]) (by kernel_rfl) (by simp) ?_;refine AllReadyH.cons rfl (λKK hK=>?o1) (AllReadyH.cons rfl (λKK hK=>?t1) AllReadyH.nil)
   case' o1=>
    go_simp;refine hK.out _ _ trivial (λhS=>nrm ?_);refine rd1 8 (λKK hK=>?_);go_simp;refine hK.out _ _ trivial (λhS=>nrm ?_);refine tkS 9 (.int .i64 ((sl:Int)+1)) hS ?_;refine tkS 10 (iZ sl) hS ?_
   case' t1=>
    go_simp;refine hK.out _ _ trivial (λhS=>nrm ?_);refine tkS 9 (.int .i64 ((sl:Int)+1)) hS ?_;refine tkS 10 (iZ sl) hS ?_;refine rd1 4 (λKK hK=>?_);go_simp;refine hK.out _ _ trivial (λhS=>nrm ?_)
   all_goals
    refine tkS 11 (sZ gs sl caps) hS ?_;refine tkS 12 (pZ b) hS ?_;refine tkS 13 (.pointer (some ⟨b,1,none⟩)) hS ?_;refine rd1 14 (λKK hK=>?_);go_simp;refine hK.out _ _ trivial (λhS=>nrm ?_);refine wpAnyH_done (by kernel_rfl) ?_ _;go_wp21;go_meet
    case rel=>rfl
  case rest=>
   have hcut':=hcut;subst hcut';have C3:Cs w0.heap.size b (sZ gL ts.length capL) (zfx Ra) 50000 st (Y.setCell ⟨b,1,none⟩ (sZ gs sl caps)).drew:=(HPO.out.1.below ((Below.refl _ _).drew)).1;have F3:CFr b Y (Y.setCell ⟨b,1,none⟩ (sZ gs sl caps)).drew:=⟨HPO.out.2.os,HPO.out.2.tape,HPO.out.2.output,HPO.out.2.size,HPO.out.2.block,HPO.out.2.row⟩
   clear HPO kb2' fb2;generalize (Y.setCell ⟨b,1,none⟩ (sZ gs sl caps)).drew=Z at *
   have r3:=(F3.keep r2 (by omega) HN2.out.1)
   have q3:=(F3.keep q2 (by omega) HN2.out.2.1).1;have x3:=(F3.keep x2 (by omega) HN2.out.2.2).1;have s3:=F3.size;have HF3:Hid (CFr b w Z):=(HF5.out.trans HF2.out).trans F3;have HC3:=hid C3;have HCT3:Hid (Ct w0 b (sZ gL ts.length capL) ts (zfx Ra) st Z):=HF3.out.ct HCT.out C3;have HR3:Hid (Rg g1 t1 Z):=HR2.out.cfr HC2.out F3;have HRu3:Hid (Rg h0 u Z):=HRu2.out.cfr HC2.out F3;have HNR3:=hid r3.2;replace r3:=r3.1;have yz:cZ Z gg 0 (sZ h0 n1 cp0):=(HCT3.out.old.cell (p:=⟨gg,0,none⟩) (by show gg<w0.heap.size;omega)).trans HY00.out;obtain⟨S3,hk3,-,mv3⟩:=C3.mv;have jb4:cZ Z b 4 (.int .i64 50000):=cbl hk3;have jb2:cZ Z b 2 (.int .i64 (cErr (zfx Ra):Int)):=cbl hk3;have jq4:cZ Z (w.heap.size+1) 4 (sZ gg 1 gc):=cbl q3;have jq7:cZ Z (w.heap.size+1) 7 (iZ tat):=cbl q3;have jx:=zab x3;have HN12:Hid (sz (tF u t1)=n1+n2+1):=by unfold Hid;show sz u+sz t1+1=_;rw[HN1.out,HN2'.out]
   have HM3:=hid mv3;have HK3:=hid hk3;have hn1:=hsu
   have hn2:n2<=60000:=by
    cases hq:Ra with
    |error f=>exact z1c (HY1'.out f hq) hNa
    |ok v=>have:=HFA.out v hq;rw[<-HY1.out v hq,HN2'.out] at this;exact this
   have HBO:Hid (∀X,Below Z.heap.size Z X->CZ 67 #[.int .i64 62,.agg #[sZ h0 n1 cp0],.agg #[sZ g1 n2 cap1]] X (zcl (tF u t1) X)):=by
    intro X hX;have:=zlm 5 (.inr rfl) u t1 h0 cp0 g1 cap1 X (HRu3.out.below hX) (HR3.out.below hX) (by rw[HN1.out];omega) (by rw[HN2'.out];omega);rw[HN1.out,HN2'.out] at this;exact this
   have hw1:IntKind.i64.wrap ((n1:Int)+(n2:Int))=(n1:Int)+(n2:Int):=IntWalk.i64_in _ ⟨by omega,by omega⟩;have hw2:IntKind.i64.wrap ((n1:Int)+(n2:Int)+1)=(n1:Int)+(n2:Int)+1:=IntWalk.i64_in _ ⟨by omega,by omega⟩;have hc0:(0:Int)<1:=by decide
   clear hk3 mv3 C3 F3 r2 q2 x2 HR2 HRu2 HC2
   cases hR:Ra with
   |error r=>
    obtain⟨e1,e2⟩:=r;rw[hR] at jb2 HC3;have hRa:=hid hR;have her:1<=e1:=HC3.out.2.2.1 _ rfl;have jb2':=jb2;have heq:((e1:Int)==0)=false:=by rw[beq_eq_false_iff_ne];omega
    have HSZ:Hid (n2<=Na):=HY1'.out _ hR;clear jb2 hR;generalize hbg:decide ((50000:Int)<(n1:Int)+(n2:Int)+1)=bg at *
    have HBG:=hid hbg;go_wp21;refine wp_region_held_drew (S:=(λwq=>cZ wq b 4 (.int .i64 50000)/\cZ wq b 2 (iZ e1)/\cZ wq (w.heap.size+1) 4 (sZ gg 1 gc)/\cZ wq gg 0 (sZ h0 n1 cp0)/\cZ wq w1.heap.size 0 (sZ g1 n2 cap1))) (by kernel_rfl) (⟨jb4,jb2',jq4,yz,jx⟩) (λhS=>?_);refine tkS 0 (pZ b) hS ?_;refine tkS 1 (pZ b) hS ?_;refine tkS 2 (.pointer (some ⟨b,4,none⟩)) hS ?_;refine tkL 3 (.int .i64 50000) hS ?_;refine tkS 4 (.bool true) hS ?_;refine tkS 5 (.bool true) hS ?_;refine tkS 6 (.pointer (some ⟨w.heap.size+1,4,none⟩)) hS ?_;refine tkL 7 (sZ gg 1 gc) hS ?_;refine tkS 8 (pZ gg) hS ?_;refine tkS 9 (pZ gg) hS ?_;refine tkL 10 (sZ h0 n1 cp0) hS ?_;refine tkS 11 (iZ n1) hS ?_;refine tkS 12 (pZ w1.heap.size) hS ?_;refine tkL 13 (sZ g1 n2 cap1) hS ?_;refine tkS 14 (iZ n2) hS ?_;refine tkS 15 (.int .i64 ((n1:Int)+(n2:Int))) hS ?_;refine tkS 16 (.int .i64 ((n1:Int)+(n2:Int)+1)) hS ?_;refine tkS 17 (pZ b) hS ?_;refine tkS 18 (pZ b) hS ?_;refine tkS 19 (.pointer (some ⟨b,4,none⟩)) hS ?_;refine tkL 20 (.int .i64 50000) hS ?_
    cases bg
    case' false=>
     refine tkS 21 (.bool false) hS ?_;refine tkS 22 (.bool false) hS ?_;refine tkS 23 (.bool false) hS ?_;refine tkU 24 hS ?_;refine tkU 25 hS ?_;refine tkU 26 hS ?_;refine tkU 27 hS ?_;refine tkU 28 hS ?_
    case' true=>
     refine tkS 21 (.bool true) hS ?_;refine tkS 22 (.bool true) hS ?_;refine tkS 23 (.bool true) hS ?_;refine tkS 24 (pZ b) hS ?_;refine tkS 25 (pZ b) hS ?_;refine tkS 26 (.pointer (some ⟨b,2,none⟩)) hS ?_;refine tkL 27 (iZ e1) hS ?_;refine tkS 28 (.bool false) hS ?_
    all_goals
     refine tkS 29 (.bool false) hS ?_;refine wpAnyH_done (by kernel_rfl) ?_ _;have HRS:Hid (funC u Ra tat=(.error (e1,e2))):=by unfold Hid;rw[hRa.out];rfl
     go_wp21;refine wp_region_held_drew (S:=(λwq=>cZ wq (w.heap.size+1) 4 (sZ gg 1 gc)/\cZ wq gg 0 (sZ h0 n1 cp0)/\cZ wq w1.heap.size 0 (sZ g1 n2 cap1))) (by kernel_rfl) (⟨jq4,yz,jx⟩) (λhS=>?_);refine tkS 0 (.pointer (some ⟨w.heap.size+1,4,none⟩)) hS ?_;refine tkL 1 (sZ gg 1 gc) hS ?_;refine tkS 2 (pZ gg) hS ?_;refine tkL 3 (.agg #[sZ h0 n1 cp0]) hS ?_;refine tkL 4 (.agg #[sZ g1 n2 cap1]) hS ?_;refine rd1 5 (λKK hK=>?_);go_simp;go_at_call 67;refine(HBO _ ((Below.refl _ Z).drew.drew)).mono ?_;rintro e w4 ⟨g4,cap4,rfl,R4,hg4,b4'⟩;have b4:Below Z.heap.size Z w4:=⟨b4'.os,b4'.tape,b4'.output,b4'.size,b4'.block⟩
     have k4:cZ w4 (w.heap.size+1) 4 (sZ gg 1 gc):=(b4.cell (p:=⟨w.heap.size+1,4,none⟩) (show w.heap.size+1<Z.heap.size by omega)).trans jq4;have k5:cZ w4 gg 0 (sZ h0 n1 cp0):=(b4.cell (p:=⟨gg,0,none⟩) (show gg<Z.heap.size by omega)).trans yz;have k6:cZ w4 w1.heap.size 0 (sZ g1 n2 cap1):=(b4.cell (p:=⟨w1.heap.size,0,none⟩) (show w1.heap.size<Z.heap.size by omega)).trans jx;have h4:=(b4.block w.heap.size (by omega)).trans r3;have c4:=zab h4;have f4:=zaf h4;have P4:CPost w0.heap.size b (sZ gL ts.length capL) 50000 st N (.error (e1,e2)) Z (.returned (.agg #[sZ g4 (sz (tF u t1)) cap4])) w4:=⟨tF u t1,g4,cap4,rfl,R4,(HC3.out.below b4).1,(HC3.out.below b4).2,(λu e=>by cases e),(λf e=>by rw[HN12.out];have:=HSZ.out;omega)⟩
     have HP4:=hid (λv=>P4.store HF3.out h4 (z1d _) v);clear P4 R4 b4';refine hK.out _ _ ⟨k4,k5,k6⟩ (λhS=>nrm ?_);refine rd1 6 (λKK hK=>?_);go_simp;refine hK.out _ _ ⟨(cell_far w4 ⟨w.heap.size,0,none⟩ ⟨w.heap.size+1,4,none⟩ (show w.heap.size≠w.heap.size+1 by omega)).trans k4,(cell_far w4 ⟨w.heap.size,0,none⟩ ⟨gg,0,none⟩ (show w.heap.size≠gg by omega)).trans k5,(cell_far w4 ⟨w.heap.size,0,none⟩ ⟨w1.heap.size,0,none⟩ (show w.heap.size≠w1.heap.size by omega)).trans k6⟩ (λhS=>nrm ?_);refine wpAnyH_done (by kernel_rfl) ?_ _;go_wp21;refine zah rfl rfl (zad h4) ?_;rw[HRS.out];exact HP4 _
   |ok v=>
    rw[hR] at jb2 HC3;have hv:=HY1.out v hR;subst hv;have hRa:=hid hR;have jb2':=jb2;clear jb2 hR;generalize hbg:decide ((50000:Int)<(n1:Int)+(n2:Int)+1)=bg at *
    have HBG:=hid hbg;go_wp21;refine wp_region_held_drew (S:=(λwq=>cZ wq b 4 (.int .i64 50000)/\cZ wq b 2 (.int .i64 0)/\cZ wq (w.heap.size+1) 4 (sZ gg 1 gc)/\cZ wq gg 0 (sZ h0 n1 cp0)/\cZ wq w1.heap.size 0 (sZ g1 n2 cap1))) (by kernel_rfl) (⟨jb4,jb2',jq4,yz,jx⟩) (λhS=>?_);refine tkS 0 (pZ b) hS ?_;refine tkS 1 (pZ b) hS ?_;refine tkS 2 (.pointer (some ⟨b,4,none⟩)) hS ?_;refine tkL 3 (.int .i64 50000) hS ?_;refine tkS 4 (.bool true) hS ?_;refine tkS 5 (.bool true) hS ?_;refine tkS 6 (.pointer (some ⟨w.heap.size+1,4,none⟩)) hS ?_;refine tkL 7 (sZ gg 1 gc) hS ?_;refine tkS 8 (pZ gg) hS ?_;refine tkS 9 (pZ gg) hS ?_;refine tkL 10 (sZ h0 n1 cp0) hS ?_;refine tkS 11 (iZ n1) hS ?_;refine tkS 12 (pZ w1.heap.size) hS ?_;refine tkL 13 (sZ g1 n2 cap1) hS ?_;refine tkS 14 (iZ n2) hS ?_;refine tkS 15 (.int .i64 ((n1:Int)+(n2:Int))) hS ?_;refine tkS 16 (.int .i64 ((n1:Int)+(n2:Int)+1)) hS ?_;refine tkS 17 (pZ b) hS ?_;refine tkS 18 (pZ b) hS ?_;refine tkS 19 (.pointer (some ⟨b,4,none⟩)) hS ?_;refine tkL 20 (.int .i64 50000) hS ?_
    cases bg
    ·refine tkS 21 (.bool false) hS ?_
     refine tkS 22 (.bool false) hS ?_;refine tkS 23 (.bool false) hS ?_;refine tkU 24 hS ?_;refine tkU 25 hS ?_;refine tkU 26 hS ?_;refine tkU 27 hS ?_;refine tkU 28 hS ?_;refine tkS 29 (.bool false) hS ?_;refine wpAnyH_done (by kernel_rfl) ?_ _;have HRS:Hid (funC u Ra tat=(.ok (tF u t1))):=by unfold Hid;rw[hRa.out];show (if 50000<sz (tF u t1) then Except.error (8,tat) else Except.ok (tF u t1))=_;rw[if_neg (by rw[HN12.out];have:=of_decide_eq_false HBG.out;omega)]
     go_wp21;refine wp_region_held_drew (S:=(λwq=>cZ wq (w.heap.size+1) 4 (sZ gg 1 gc)/\cZ wq gg 0 (sZ h0 n1 cp0)/\cZ wq w1.heap.size 0 (sZ g1 n2 cap1))) (by kernel_rfl) (⟨jq4,yz,jx⟩) (λhS=>?_);refine tkS 0 (.pointer (some ⟨w.heap.size+1,4,none⟩)) hS ?_;refine tkL 1 (sZ gg 1 gc) hS ?_;refine tkS 2 (pZ gg) hS ?_;refine tkL 3 (.agg #[sZ h0 n1 cp0]) hS ?_;refine tkL 4 (.agg #[sZ g1 n2 cap1]) hS ?_;refine rd1 5 (λKK hK=>?_);go_simp;go_at_call 67;refine(HBO _ ((Below.refl _ Z).drew.drew)).mono ?_;rintro e w4 ⟨g4,cap4,rfl,R4,hg4,b4'⟩;have b4:Below Z.heap.size Z w4:=⟨b4'.os,b4'.tape,b4'.output,b4'.size,b4'.block⟩
     have k4:cZ w4 (w.heap.size+1) 4 (sZ gg 1 gc):=(b4.cell (p:=⟨w.heap.size+1,4,none⟩) (show w.heap.size+1<Z.heap.size by omega)).trans jq4;have k5:cZ w4 gg 0 (sZ h0 n1 cp0):=(b4.cell (p:=⟨gg,0,none⟩) (show gg<Z.heap.size by omega)).trans yz;have k6:cZ w4 w1.heap.size 0 (sZ g1 n2 cap1):=(b4.cell (p:=⟨w1.heap.size,0,none⟩) (show w1.heap.size<Z.heap.size by omega)).trans jx;have h4:=(b4.block w.heap.size (by omega)).trans r3;have c4:=zab h4;have f4:=zaf h4;have P4:CPost w0.heap.size b (sZ gL ts.length capL) 50000 st N (.ok (tF u t1)) Z (.returned (.agg #[sZ g4 (sz (tF u t1)) cap4])) w4:=⟨tF u t1,g4,cap4,rfl,R4,(HC3.out.below b4).1,(HC3.out.below b4).2,(λu e=>Except.ok.inj e),(λf e=>by cases e)⟩
     have HP4:=hid (λv=>P4.store HF3.out h4 (z1d _) v);clear P4 R4 b4';refine hK.out _ _ ⟨k4,k5,k6⟩ (λhS=>nrm ?_);refine rd1 6 (λKK hK=>?_);go_simp;refine hK.out _ _ ⟨(cell_far w4 ⟨w.heap.size,0,none⟩ ⟨w.heap.size+1,4,none⟩ (show w.heap.size≠w.heap.size+1 by omega)).trans k4,(cell_far w4 ⟨w.heap.size,0,none⟩ ⟨gg,0,none⟩ (show w.heap.size≠gg by omega)).trans k5,(cell_far w4 ⟨w.heap.size,0,none⟩ ⟨w1.heap.size,0,none⟩ (show w.heap.size≠w1.heap.size by omega)).trans k6⟩ (λhS=>nrm ?_);refine wpAnyH_done (by kernel_rfl) ?_ _;go_wp21;refine zah rfl rfl (zad h4) ?_;rw[HRS.out];exact HP4 _
    ·refine tkS 21 (.bool true) hS ?_
     refine tkS 22 (.bool true) hS ?_;refine tkS 23 (.bool true) hS ?_;refine tkS 24 (pZ b) hS ?_;refine tkS 25 (pZ b) hS ?_;refine tkS 26 (.pointer (some ⟨b,2,none⟩)) hS ?_;refine tkL 27 (.int .i64 0) hS ?_;refine tkS 28 (.bool true) hS ?_;refine tkS 29 (.bool true) hS ?_;refine wpAnyH_done (by kernel_rfl) ?_ _;have HRS:Hid (funC u Ra tat=.error (8,tat)):=by unfold Hid;rw[hRa.out];show (if 50000<sz (tF u t1) then Except.error (8,tat) else Except.ok (tF u t1))=_;rw[if_pos (by rw[HN12.out];have:=of_decide_eq_true HBG.out;omega)]
     have C3d:=HC3.out.below ((Below.refl _ Z).drew);have HF3d:Hid (CFr b w Z.drew):=HF3.out.trans C3d.2;obtain⟨S4,hk4,-,mv4⟩:=C3d.1.mv;have HCK:=hid hk4;have HM4:=hid mv4;clear C3d hk4 mv4;go_wp21;refine(zda b _ S4 0 50000 8 tat Z.drew HCK).mono ?_;intro e w4 hP4;have P4:=zmn (B:=w0.heap.size) (N:=N) (st:=st) (w:=Z.drew) HM4.out (by decide) (by omega) hP4;obtain⟨n4,g4,cap4,rfl⟩:=P4.form
     have h4:w4.heap[w.heap.size]? =some (.cells #[.slice none 0 0] 33 (0,0)):=by
      obtain⟨_,_,_,_,_,_,F,_⟩:=P4;exact(F.keep (w:=Z.drew) r3 (by omega) HNR3.out).1
     have c4:=zab h4;have f4:=zaf h4;have HP4:=hid (λv=>P4.store (w:=w) HF3d.out h4 (z1d _) v);clear P4 hP4;go_wp21;refine zah rfl rfl (zad h4) ?_;rw[HRS.out];exact HP4 _
def zom (o:Option Nat) (ra:COut):COut:=match o with
 |some p=> .error (6,p)
 |none=>ra
def znz (r1:COut) (rb:Ty->COut):COut:=match r1 with
 | .error f=> .error f
 | .ok u=>rb u
theorem check_let (w0:World) (b:Nat) (L:Value) (ts:List Tt) (st:List Se) (w:World) (k:Nat) (c ta tb:Nat) (ga va pa:Option Addr) (gn gc vn vc pn pc tat tto:Nat) (h:Ct w0 b L ts none st w) (hu:ts[k]? =some ⟨64,c,ta,tb,(ga,gn,gc),(va,vn,vc),(pa,pn,pc),tat,tto⟩) (vs:List (Nat×Nat)) (Na Nb N:Nat) (Ra:COut) (Rb:Ty->COut) (hta:ta<ts.length) (htb:tb<ts.length) (hst:StOk st) (hls:st.length<=100000) (hv:VOk vs) (hvl:vs.length<=60000) (hN:Nb+1<=N)
 (hcap:vn<=vc) (hV:Is w0 (.slice va vn vc) (vs.map (·.1+30))) (hP:Is w0 (.slice pa pn pc) (vs.map (·.2)))
 (HA:∀X,Ct w0 b L ts none st X->CZ 61 #[pZ b,iZ ta] X (CPost w0.heap.size b L 50000 st Na Ra X))
 (HB:∀u X g1 cap1,zom (zce (zbf st) vs []) Ra=.ok u->Ct w0 b L ts none (st++[⟨c,u,(vs.map (·.1)),g1,cap1,(va,vn,vc)⟩]) X->CZ 61 #[pZ b,iZ tb] X (CPost w0.heap.size b L 50000 (st++[⟨c,u,(vs.map (·.1)),g1,cap1,(va,vn,vc)⟩]) Nb (Rb u) X)):
 CZ 61 #[pZ b,iZ k] w (CPost w0.heap.size b L 50000 st N (znz (zom (zce (zbf st) vs []) Ra) Rb) w):=by
 obtain⟨gL,capL,S,rfl,hgL,HLC,⟨k0,k1,k2,k3,k4,k5,k6,k7,k8⟩,hkl,hlen,hblt,hw0,hck,B0,r0,q0,z0,kb0,kb0',kb2,HC,HC0,HF0,HCT,HB0,HU,HSL⟩:=zsm 64 h hu;have HCTW:Hid (Ct w0 b (sZ gL ts.length capL) ts none st (ckW (tmI 64 c ta tb ga va pa gn gc vn vc pn pc tat tto) w)):=(h.cs.below B0).2.ct h (h.cs.below B0).1;have BW0:=HCTW.out.old;have hbB:=h.cs.1
 have HBD:Hid (CZ 100 #[pZ b,.agg (tmI 64 c ta tb ga va pa gn gc vn vc pn pc tat tto)] (ckW (tmI 64 c ta tb ga va pa gn gc vn vc pn pc tat tto) w) λe w'=>e=.returned (.tuple #[])/\Cs w0.heap.size b (sZ gL ts.length capL) ((zce (zbf st) vs []).map (λp=>(6,p))) 50000 st w'/\CFr b (ckW (tmI 64 c ta tb ga va pa gn gc vn vc pn pc tat tto) w) w'):=
  bound_any w0.heap.size b (sZ gL ts.length capL) 50000 st vs 64 c ta tb ga va pa gn gc vn vc pn pc tat tto (ckW (tmI 64 c ta tb ga va pa gn gc vn vc pn pc tat tto) w) HC0.out hst hls hv hvl hcap (hV.below BW0) (hP.below BW0)
 have HIV:Hid (∀X,Below w0.heap.size w0 X->Is X (slV (va,vn,vc)) ((vs.map (·.1)).map (·+30))):=by
  intro X hX;have e:(vs.map (·.1)).map (·+30)=vs.map (·.1+30):=by rw[List.map_map];rfl
  rw[e];exact hV.below hX
 generalize hob:zce (zbf st) vs []=ob at *
 clear hob
 have HHA:Hid (∀X,Ct w0 b (sZ gL ts.length capL) ts (ob.map (λp=>(6,p))) st X->CZ 61 #[pZ b,iZ ta] X (CPost w0.heap.size b (sZ gL ts.length capL) 50000 st (Na+1) (zom ob Ra) X)):=by
  intro X hX
  cases ob with
  |some p=>
   refine(znq w0 b _ ts (6,p) st X ta hX hta).mono ?_;rintro e w' ⟨t,g,cap,rfl,R,C,F,h1,h2⟩;exact⟨t,g,cap,rfl,R,C,F,h1,λf e=>z1c (h2 f e) (by omega)⟩
  |none=>
   refine(HA X hX).mono ?_;rintro e w' ⟨t,g,cap,rfl,R,C,F,h1,h2⟩;exact⟨t,g,cap,rfl,R,C,F,h1,λf e=>z1c (h2 f e) (by omega)⟩
 generalize hr1:zom ob Ra=r1 at *
 clear hr1
 have HHB:Hid (∀X t1 g1 cap1,(∀u,r1=.ok u->t1=u)->Ct w0 b (sZ gL ts.length capL) ts (zfx r1) (st++[⟨c,t1,(vs.map (·.1)),g1,cap1,(va,vn,vc)⟩]) X->CZ 61 #[pZ b,iZ tb] X (CPost w0.heap.size b (sZ gL ts.length capL) 50000 (st++[⟨c,t1,(vs.map (·.1)),g1,cap1,(va,vn,vc)⟩]) N (znz r1 Rb) X)):=by
  intro X t1 g1 cap1 ht hX
  cases r1 with
  |error r=>
   refine(znq w0 b _ ts r _ X tb hX htb).mono ?_;rintro e w' ⟨t,g,cap,rfl,R,C,F,h1,h2⟩;exact⟨t,g,cap,rfl,R,C,F,h1,λf e=>z1c (h2 f e) (by omega)⟩
  |ok u=>
   obtain rfl:=ht u rfl;refine(HB _ X g1 cap1 rfl hX).mono ?_;rintro e w' ⟨t,g,cap,rfl,R,C,F,h1,h2⟩;exact⟨t,g,cap,rfl,R,C,F,h1,λf e=>z1c (h2 f e) (by omega)⟩
 clear HA HB hV hP hv hst BW0;have HSW:Hid (srow b (ckW (tmI 64 c ta tb ga va pa gn gc vn vc pn pc tat tto) w)≠some w.heap.size/\srow b (ckW (tmI 64 c ta tb ga va pa gn gc vn vc pn pc tat tto) w)≠some (w.heap.size+1)):=⟨λe=>by have:=HSL.out _ e;omega,λe=>by have:=HSL.out _ e;omega⟩
 clear h hu B0 hck;go_enter Tryz.func61,Tryz.ntmps61;go_wp21;unfold ckW at *
 generalize (w.alloc rbO).alloc (.cells (tmI 64 c ta tb ga va pa gn gc vn vc pn pc tat tto) 76)=W at *
 refine HBD.mono ?_;rintro e wA ⟨rfl,C5,F5⟩;obtain⟨r5,nr5⟩:=F5.keep r0 (by omega) HSW.out.1;obtain⟨q5,nq5⟩:=F5.keep q0 (by omega) HSW.out.2;have z5:=F5.size;have j5:cZ wA (w.heap.size+1) 2 (iZ ta):=cbl q5;have HCT5:Hid (Ct w0 b (sZ gL ts.length capL) ts (ob.map (λp=>(6,p))) st wA):=F5.ct HCTW.out C5;have HF5:Hid (CFr b w wA):=HF0.out.trans F5;have HNR5:Hid (srow b wA≠some w.heap.size/\srow b wA≠some (w.heap.size+1)):=⟨nr5,nq5⟩
 clear nr5 nq5 C5 F5 r0 q0;go_wp21;refine(HHA wA HCT5).mono ?_;intro e w1 hP1;obtain⟨t1,g1,cap1,rfl,R1,C1,F1,y1,y1'⟩:=hP1;have HY1:=hid y1;have bA:Below w1.heap.size w1 (w1.alloc (tbO g1 (sz t1) cap1)):=bal w1 _;have HC2:Hid (Cs w0.heap.size b (sZ gL ts.length capL) (zfx r1) 50000 st (w1.alloc (tbO g1 (sz t1) cap1))):=(C1.below bA).1;have HF2:Hid (CFr b wA (w1.alloc (tbO g1 (sz t1) cap1))):=F1.trans (C1.below bA).2;have HR2:Hid (Rg g1 t1 (w1.alloc (tbO g1 (sz t1) cap1))):=R1.below bA;have x2:(w1.alloc (tbO g1 (sz t1) cap1)).heap[w1.heap.size]? =some (.cells #[sZ g1 (sz t1) cap1] 33 (0,0)):=z1v w1 _;have s1:=F1.size;have sA:Hid ((w1.alloc (tbO g1 (sz t1) cap1)).heap.size=w1.heap.size+1):=by unfold Hid;simp
 obtain⟨r2,nr2⟩:=HF2.out.keep r5 (by omega) HNR5.out.1;obtain⟨q2,nq2⟩:=HF2.out.keep q5 (by omega) HNR5.out.2
 have nx2:srow b (w1.alloc (tbO g1 (sz t1) cap1))≠some w1.heap.size:=by
  intro e;obtain⟨S',hk',-⟩:=C1.mv;rw[(hk'.below bA).row,<-hk'.row] at e;have:=(C1.rowB _ e).2;omega
 have HCT2:Hid (Ct w0 b (sZ gL ts.length capL) ts (zfx r1) st (w1.alloc (tbO g1 (sz t1) cap1))):=HF2.out.ct HCT5.out HC2.out;obtain⟨S',hck',-,-⟩:=HC2.mv;obtain⟨i0,hi0,hz0,hz1,hz2⟩:=info_parts zpd
 have ho:(w1.alloc (tbO g1 (sz t1) cap1)).ownsRow w0.heap.size 150 3 S' st.length (zcc st):=by
  obtain⟨_,_,_,S2,hk2,ho2,_⟩:=id HC2
  obtain rfl:S2=S':=by
   have e:some (Obj.cells _ _ _)=some (Obj.cells _ _ _):=hk2.symm.trans hck';simp at e;exact e
  exact ho2
 have hne:S'.ownBlock≠some b:=by
  obtain⟨_,_,_,S2,hk2,ho2,hn2,_⟩:=id HC2
  obtain rfl:S2=S':=by
   have e:some (Obj.cells _ _ _)=some (Obj.cells _ _ _):=hk2.symm.trans hck';simp at e;exact e
  exact hn2
 have nqS:S'.ownBlock≠some (w.heap.size+1):=λe=>nq2 (hck'.row.trans e)
 have nxS:S'.ownBlock≠some w1.heap.size:=λe=>nx2 (hck'.row.trans e)
 have HN2:Hid (srow b (w1.alloc (tbO g1 (sz t1) cap1))≠some w.heap.size/\srow b (w1.alloc (tbO g1 (sz t1) cap1))≠some (w.heap.size+1)):=⟨nr2,nq2⟩
 have HK':=hid hck';have kb1:(w1.alloc (tbO g1 (sz t1) cap1)).cell? ⟨b,1,none⟩=some S':=cbl hck';have j1:(w1.alloc (tbO g1 (sz t1) cap1)).cell? ⟨w.heap.size+1,1,none⟩=some (uZ c):=cbl q2;have j4:(w1.alloc (tbO g1 (sz t1) cap1)).cell? ⟨w.heap.size+1,5,none⟩=some (.slice va vn vc):=cbl q2;have y0:=zab x2;clear R1 C1 F1 y1 y1' bA nr2 nq2 nx2 r5 q5 j5 hck' HHA;generalize hn1:sz t1=n1 at *
 have HN1:=hid hn1;clear hn1
 go_upto_region 17 with fail
 generalize hY:w1.alloc (tbO g1 n1 cap1)=Y at *
 clear hY;have HNW:Hid (∀j u,[Value.int .u8 (c:Int),sZ g1 n1 cap1,.slice va vn vc][j]? =some u->(Y.alloc (seO c g1 n1 cap1 va vn vc)).drew.cell? ((⟨Y.heap.size,0,none⟩:Addr).add j)=some u):=se_news Y c g1 n1 cap1 va vn vc;have hbW:b<Y.heap.size:=by have:=sA.out;omega
 have hxW:w1.heap.size<Y.heap.size:=by have:=sA.out;omega
 have hqW:w.heap.size+1<Y.heap.size:=by have:=sA.out;omega
 have hYw:w0.heap.size<=Y.heap.size:=by omega
 have HPU:Hid (∀g5 cap5 w5,World.ownsRow w5 w0.heap.size 150 3 (sZ g5 (st.length+1) cap5) (st.length+1) (zcc st++[Value.int .u8 (c:Int),sZ g1 n1 cap1,.slice va vn vc])->(Y.alloc (seO c g1 n1 cap1 va vn vc)).drew.grownBy w5 S'.ownBlock->(S'.ownBlock=some g5\/g5=Y.heap.size+1)->
  Hid (Cs w0.heap.size b (sZ gL ts.length capL) (zfx r1) 50000 (st++[⟨c,t1,(vs.map (·.1)),g1,cap1,(va,vn,vc)⟩]) (w5.setCell ⟨b,1,none⟩ (sZ g5 (st.length+1) cap5))/\CFr b Y (w5.setCell ⟨b,1,none⟩ (sZ g5 (st.length+1) cap5)))):=by
  intro g5 cap5 w5 ho5 hg5 ha5;have B5:Below Y.heap.size Y (Y.alloc (seO c g1 n1 cap1 va vn vc)).drew:=(bal Y _).drew;have e5:[Value.int .u8 (c:Int),sZ g1 n1 cap1,.slice va vn vc]=Se.cells ⟨c,t1,(vs.map (·.1)),g1,cap1,(va,vn,vc)⟩:=by unfold Se.cells;rw[HN1.out]
  rw[e5] at ho5;have C5:=HC2.out.below B5;have:=C5.1.push (HK'.out.below B5) ho5 hg5 (by rcases ha5 with e|e;exact .inl e;exact .inr (by rw[e];show (Y.alloc (seO c g1 n1 cap1 va vn vc)).heap.size<=_;simp)) ⟨HR2.out.below B5,HIV.out _ (HCT2.out.old.trans (B5.mono HCT2.out.old.size))⟩;exact⟨this.1,C5.2.trans this.2⟩
 go_cut [130] from 116 to 130 (λ_ wx=>Hid (Cs w0.heap.size b (sZ gL ts.length capL) (zfx r1) 50000 (st++[⟨c,t1,(vs.map (·.1)),g1,cap1,(va,vn,vc)⟩]) wx/\CFr b Y wx))
 case first=>
  have fA:∀g j,g<Y.heap.size->(Y.alloc (seO c g1 n1 cap1 va vn vc)).cell? ⟨g,j,none⟩=Y.cell? ⟨g,j,none⟩:=λg j hg=>z1o _ _ ⟨g,j,none⟩ hg
  have jA1:=(fA (w.heap.size+1) 1 (by omega)).trans j1;have jA4:=(fA (w.heap.size+1) 5 (by omega)).trans j4;have yA0:=(fA w1.heap.size 0 hxW).trans y0;have kA1:(Y.alloc (seO c g1 n1 cap1 va vn vc)).drew.cell? ⟨b,1,none⟩=some S':=(fA b 1 hbW).trans kb1;have kA1':(Y.drew.alloc (seO c g1 n1 cap1 va vn vc)).cell? ⟨b,1,none⟩=some S':=(fA b 1 hbW).trans kb1;have kb1':=kb1;refine wp_region_held_drew (S:=(λwq=>cZ wq (w.heap.size+1) 1 (uZ c)/\cZ wq (w.heap.size+1) 5 (.slice va vn vc)/\cZ wq w1.heap.size 0 (sZ g1 n1 cap1))) (by kernel_rfl) (⟨j1,j4,y0⟩) (λhS=>?_);refine tkS 0 (pZ b) hS ?_;refine tkS 1 (pZ b) hS ?_;refine tkS 2 (pZ b) hS ?_;refine tkS 3 (.pointer (some ⟨b,1,none⟩)) hS ?_;refine tkS 5 (.pointer (some ⟨w.heap.size+1,1,none⟩)) hS ?_;refine tkL 6 (uZ c) hS ?_;refine tkL 7 (.agg #[sZ g1 n1 cap1]) hS ?_;refine tkS 8 (.pointer (some ⟨w.heap.size+1,5,none⟩)) hS ?_;refine tkL 9 (.slice va vn vc) hS ?_;refine tkS 10 (.agg #[uZ c,sZ g1 n1 cap1,.slice va vn vc]) hS ?_;refine wpAnyH_ready (rs:=[4,11]) (by kernel_rfl) (by simp) ?_;refine AllReadyH.cons rfl (λKK hK=>?o0) (AllReadyH.cons rfl (λKK hK=>?t0) AllReadyH.nil)
  case' o0=>
   go_simp;refine hK.out _ _ hS (λhS=>nrm ?_);refine rd1 11 (λKK hK=>?_)
  case' t0=>
   go_simp;refine hK.out _ _ ⟨jA1,jA4,yA0⟩ (λhS=>nrm ?_);refine rd1 4 (λKK hK=>?_)
  all_goals
   go_simp;refine hK.out _ _ ⟨jA1,jA4,yA0⟩ (λhS=>nrm ?_);refine rd1 12 (λKK hK=>?_);refine step_append_lies _ (by rfl) _ _ _ (by rfl) w0.heap.size 150 i0 _ 3 56 Tryz.underlying102 hi0 hz0 hz1 hz2 rfl (by omega) S' st.length (zcc st) (by rfl) ((ho.alloc _).drew) ⟨Y.heap.size,0,none⟩ 1 1 [Value.int .u8 (c:Int),sZ g1 n1 cap1,.slice va vn vc] (by rfl) (by rfl) HNW.out (by simp[Value.oneCell']) (by omega) (by unfold maxLen;omega) (by omega) (by simp;omega) (Y.heap.size+1) (by simp) ?_;intro g5 cap5 w5 hown5 hgrow5 hat5 hlt5;have k5:cZ w5 b 1 S':=zjh (zdn hgrow5 HK'.out hne);have f5:w5.frozen? ⟨b,1,none⟩=false:=zit (zdn hgrow5 HK'.out hne);have l0:=zdn hgrow5 q2 nqS;have l1:cZ w5 (w.heap.size+1) 1 (uZ c):=cbl l0;have l4:cZ w5 (w.heap.size+1) 5 (.slice va vn vc):=cbl l0;have ly:cZ w5 w1.heap.size 0 (sZ g1 n1 cap1):=zab (zdn hgrow5 x2 nxS);refine hK.out _ _ ⟨l1,l4,ly⟩ (λhS=>nrm ?_);refine tkS 13 (pZ b) hS ?_;refine tkS 14 (.pointer (some ⟨b,1,none⟩)) hS ?_;refine rd1 15 (λKK hK=>?_);go_simp;refine hK.out _ _ ⟨(cell_far w5 ⟨b,1,none⟩ ⟨w.heap.size+1,1,none⟩ (show b≠w.heap.size+1 by omega)).trans l1,(cell_far w5 ⟨b,1,none⟩ ⟨w.heap.size+1,5,none⟩ (show b≠w.heap.size+1 by omega)).trans l4,(cell_far w5 ⟨b,1,none⟩ ⟨w1.heap.size,0,none⟩ (show b≠w1.heap.size by omega)).trans ly⟩ (λhS=>nrm ?_);refine wpAnyH_done (by kernel_rfl) ?_ _;go_wp21;go_meet
   case rel=>exact HPU g5 cap5 w5 hown5 hgrow5 hat5
 case rest=>
  generalize wc=wB at *
  obtain⟨C6,F6⟩:=hcut.out;obtain⟨r6,nr6⟩:=F6.keep r2 (by omega) HN2.out.1;obtain⟨q6,nq6⟩:=F6.keep q2 (by omega) HN2.out.2;have z6:=F6.size;have j6:cZ wB (w.heap.size+1) 3 (iZ tb):=cbl q6;have HCT6:Hid (Ct w0 b (sZ gL ts.length capL) ts (zfx r1) (st++[⟨c,t1,(vs.map (·.1)),g1,cap1,(va,vn,vc)⟩]) wB):=F6.ct HCT2.out C6;have HF6:Hid (CFr b w wB):=(HF5.out.trans HF2.out).trans F6;have HNR6:=hid nr6;clear nr6 nq6 C6 F6 hcut HPU HK' ho hne nqS nxS HNW hi0 hz0 hz1 hz2 r2 q2 x2 kb1 j1 j4 y0 q6;go_wp21;refine(HHB wB t1 g1 cap1 HY1 HCT6).mono ?_;intro e w2 hP2;obtain⟨t2,g2,cap2,rfl,R2,C2,F2,y2,y2'⟩:=hP2;have HY2:Hid ((∀v,znz r1 Rb=.ok v->t2=v)/\(∀f,znz r1 Rb=.error f->sz t2<=N)):=⟨y2,y2'⟩
  have bB:Below w2.heap.size w2 (w2.alloc (tbO g2 (sz t2) cap2)):=bal w2 _;have C3:=(C2.below bB).1;have HF3:Hid (CFr b wB (w2.alloc (tbO g2 (sz t2) cap2))):=F2.trans (C2.below bB).2;have HR3:Hid (Rg g2 t2 (w2.alloc (tbO g2 (sz t2) cap2))):=R2.below bB;have x3:(w2.alloc (tbO g2 (sz t2) cap2)).heap[w2.heap.size]? =some (.cells #[sZ g2 (sz t2) cap2] 33 (0,0)):=z1v w2 _;have s2:=F2.size;have sB:Hid ((w2.alloc (tbO g2 (sz t2) cap2)).heap.size=w2.heap.size+1):=by unfold Hid;simp
  obtain⟨r3,nr3⟩:=HF3.out.keep r6 (by omega) HNR6.out
  have nx3:srow b (w2.alloc (tbO g2 (sz t2) cap2))≠some w2.heap.size:=by
   intro e;obtain⟨S',hk',-⟩:=C2.mv;rw[(hk'.below bB).row,<-hk'.row] at e;have:=(C2.rowB _ e).2;omega
  obtain⟨S2,hk2,-,-⟩:=C3.mv;obtain⟨gs,caps,rfl,hcaps,C4,F4⟩:=C3.pop hk2;have kb2':(w2.alloc (tbO g2 (sz t2) cap2)).drew.cell? ⟨b,1,none⟩=some (sZ gs (st.length+1) caps):=zjh hk2;have fb2:(w2.alloc (tbO g2 (sz t2) cap2)).drew.frozen? ⟨b,1,none⟩=false:=zit hk2;have HPO:Hid (Cs w0.heap.size b (sZ gL ts.length capL) (zfx (znz r1 Rb)) 50000 st ((w2.alloc (tbO g2 (sz t2) cap2)).setCell ⟨b,1,none⟩ (sZ gs st.length caps))/\CFr b (w2.alloc (tbO g2 (sz t2) cap2)) ((w2.alloc (tbO g2 (sz t2) cap2)).setCell ⟨b,1,none⟩ (sZ gs st.length caps))):=⟨C4,F4⟩
  have HN3:Hid (srow b (w2.alloc (tbO g2 (sz t2) cap2))≠some w.heap.size/\srow b (w2.alloc (tbO g2 (sz t2) cap2))≠some w2.heap.size):=⟨nr3,nx3⟩
  have HC3:=hid C3;clear R2 C2 F2 y2 y2' bB nr3 nx3 r6 j6 C3 C4 F4 hk2 HHB;generalize hn2:sz t2=n2 at *
  have HN2':=hid hn2;clear hn2
  go_upto_region 19 with fail
  generalize hY2:w2.alloc (tbO g2 n2 cap2)=Y2 at *
  clear hY2;generalize hsl:st.length=sl at *
  clear hsl
  go_cut [148] from 135 to 148 (λ_ wx=>wx=(Y2.setCell ⟨b,1,none⟩ (sZ gs sl caps)).drew)
  case first=>
   have hwsl:IntKind.i64.wrap (sl:Int)=(sl:Int):=IntWalk.i64_in _ ⟨by omega,by omega⟩;have bs1:(0:Int)<=(sl:Int):=by omega
   have bs2:(sl:Int)<=(caps:Int):=by omega
   have bs3:sl<=caps:=by omega
   refine wp_region_held_drew (S:=(λ_=>True)) (by kernel_rfl) trivial (λhS=>?_);refine tkS 0 (pZ b) hS ?_;refine tkS 1 (pZ b) hS ?_;refine tkS 2 (pZ b) hS ?_;refine tkS 3 (.pointer (some ⟨b,1,none⟩)) hS ?_;refine tkS 5 (pZ b) hS ?_;refine tkS 6 (pZ b) hS ?_;refine tkS 7 (.pointer (some ⟨b,1,none⟩)) hS ?_;refine wpAnyH_ready (rs:=[4,8]) (by kernel_rfl) (by simp) ?_;refine AllReadyH.cons rfl (λKK hK=>?o1) (AllReadyH.cons rfl (λKK hK=>?t1) AllReadyH.nil)
   case' o1=>
    go_simp;refine hK.out _ _ trivial (λhS=>nrm ?_);refine rd1 8 (λKK hK=>?_);go_simp;refine hK.out _ _ trivial (λhS=>nrm ?_);refine tkS 9 (.int .i64 ((sl:Int)+1)) hS ?_;refine tkS 10 (iZ sl) hS ?_
   case' t1=>
    go_simp;refine hK.out _ _ trivial (λhS=>nrm ?_);refine tkS 9 (.int .i64 ((sl:Int)+1)) hS ?_;refine tkS 10 (iZ sl) hS ?_;refine rd1 4 (λKK hK=>?_);go_simp;refine hK.out _ _ trivial (λhS=>nrm ?_)
   all_goals
    refine tkS 11 (sZ gs sl caps) hS ?_;refine tkS 12 (pZ b) hS ?_;refine tkS 13 (.pointer (some ⟨b,1,none⟩)) hS ?_;refine rd1 14 (λKK hK=>?_);go_simp;refine hK.out _ _ trivial (λhS=>nrm ?_);refine wpAnyH_done (by kernel_rfl) ?_ _;go_wp21;go_meet
    case rel=>rfl
  case rest=>
   have hcut':=hcut;subst hcut';have C4:Cs w0.heap.size b (sZ gL ts.length capL) (zfx (znz r1 Rb)) 50000 st (Y2.setCell ⟨b,1,none⟩ (sZ gs sl caps)).drew:=(HPO.out.1.below ((Below.refl _ _).drew)).1;have F4:CFr b Y2 (Y2.setCell ⟨b,1,none⟩ (sZ gs sl caps)).drew:=⟨HPO.out.2.os,HPO.out.2.tape,HPO.out.2.output,HPO.out.2.size,HPO.out.2.block,HPO.out.2.row⟩
   clear HPO kb2' fb2;generalize (Y2.setCell ⟨b,1,none⟩ (sZ gs sl caps)).drew=Z at *
   obtain⟨r4,nr4⟩:=F4.keep r3 (by omega) HN3.out.1;have x4:=(F4.keep x3 (by have:=sB.out;omega) HN3.out.2).1;have HR4:Hid (Rg g2 t2 Z):=HR3.out.cfr HC3.out F4;have HFw:Hid (CFr b w Z):=(HF6.out.trans HF3.out).trans F4;have c4r:=zab r4;have f4r:=zaf r4;have c4x:=zab x4
   have HP:Hid (∀v,CPost w0.heap.size b (sZ gL ts.length capL) 50000 st N (znz r1 Rb) w (.returned (.agg #[sZ g2 n2 cap2])) (Z.setCell ⟨w.heap.size,0,none⟩ v)):=by
    intro v;have P:CPost w0.heap.size b (sZ gL ts.length capL) 50000 st N (znz r1 Rb) Z (.returned (.agg #[sZ g2 n2 cap2])) Z:=⟨t2,g2,cap2,by rw[HN2'.out],HR4.out,C4,CFr.refl _ _,HY2.out.1,by intro f e;rw[HN2'.out];exact HY2.out.2 f e⟩
    exact P.store HFw r4 (z1d _) v
   clear C4 F4 r3 x3 HY2;go_wp21;refine zah rfl rfl (zad r4) ?_;exact HP _
section
variable (w0:World) (b:Nat) (L:Value) (ts:List Tt) (st:List Se) (N c ta tb:Nat) (ga va pa:Option Addr) (gn gc vn vc pn pc tat tto:Nat) (g:List Ty) (X:World)
theorem StOk.env {st:List Se} (h:StOk st):EnvOk 60000 (zbf st):=by
 intro c s hs;obtain⟨k,x,_,hx,_,rfl⟩:=env_at hs;obtain⟨y,hy,rfl⟩:=z1z.1 (z1m hx);have:=h y hy;exact⟨this.2.1,this.2.2.1⟩
theorem StOk.push {st:List Se} (h:StOk st) {x:Se} (hx:(97<=x.c/\x.c<123)/\Ok x.t/\sz x.t<=60000/\x.o.length<=60000/\(∀o∈x.o,970<=o)):StOk (st++[x]):=by
 intro y hy;rcases z1y.1 hy with hy|hy
 ·exact h y hy
 ·obtain rfl:y=x:=by simpa using hy
  exact hx
theorem zxj (x:Se):zbf (st++[x])=zap (zbf st) x.c (x.t,x.o):=by
 show zla (skl (st++[x]))=_;have e:skl (st++[x])=skl st++[(x.c,x.t,x.o)]:=by simp[skl]
 rw[e,zjv]
theorem zic {c:Nat} (h:zaq c=true):97<=c/\c<123:=by simp[zaq] at h;omega
theorem named_name (h:Ct w0 b L ts none st X) (hst:StOk st) (hl:st.length<=100000) (hN:1<=N) (hG:Ls w0 (.slice ga gn gc) g) (hgl:g.length<=60000) (hgs:∀u∈g,sz u<=60000) (hc:97<=c/\c<123):
 CZ 98 #[pZ b,.agg (tmA 120 c ta tb ga va pa gn gc vn vc pn pc tat tto)] X (CPost w0.heap.size b L 50000 st N (match zbf st c with|none=> .error (3,tat)|some s=>zbn s g tat) X):=by
 cases hE:zbf st c with
 |none=>exact named_free w0.heap.size b L 50000 N st c ta tb ga va pa gn gc vn vc pn pc tat tto g X h.cs hst hl rfl hN (hG.below h.old) hgl hgs hc hE
 |some s=>exact zuz w0.heap.size b L 50000 N st c ta tb ga va pa gn gc vn vc pn pc tat tto g X h.cs hst hl rfl hN (hG.below h.old) hgl hgs hc s hE
theorem named_con (h:Ct w0 b L ts none st X) (hst:StOk st) (hl:st.length<=100000) (hN:1<=N) (hG:Ls w0 (.slice ga gn gc) g) (hgl:g.length<=60000) (hgs:∀u∈g,sz u<=60000) (hc:conP c):
 CZ 98 #[pZ b,.agg (tmA 120 c ta tb ga va pa gn gc vn vc pn pc tat tto)] X (CPost w0.heap.size b L 50000 st N (zbn (conS c) g tat) X):=by
 have z:=λc hc cs nb v t h1 h2 h3 h4 h5 h6 CN=>named_cons w0.heap.size b L 50000 N st c ta tb ga va pa gn gc vn vc pn pc tat tto g X h.cs hst hl rfl hN (hG.below h.old) hgl hgs hc cs nb v t h1 h2 h3 h4 h5 h6 CN
 have a0:∀k (h:k<(⟨#[]⟩:ByteArray).size),97<=(⟨#[]⟩:ByteArray)[k].toNat/\(⟨#[]⟩:ByteArray)[k].toNat<123/\([]:List Nat)[k]? =some (970+10*((⟨#[]⟩:ByteArray)[k].toNat-97)):=λk h=>absurd h (by simp[ByteArray.size])
 have a1:∀k (h:k<(⟨#[97]⟩:ByteArray).size),97<=(⟨#[97]⟩:ByteArray)[k].toNat/\(⟨#[97]⟩:ByteArray)[k].toNat<123/\[970][k]? =some (970+10*((⟨#[97]⟩:ByteArray)[k].toNat-97)):=λk h=>by
  match k,h with
  |0,_=>exact⟨show 97<=97 by decide,show 97<123 by decide,rfl⟩
  |k+1,h=>exact absurd h (by simp[ByteArray.size])
 have a2:∀k (h:k<(⟨#[97,98]⟩:ByteArray).size),97<=(⟨#[97,98]⟩:ByteArray)[k].toNat/\(⟨#[97,98]⟩:ByteArray)[k].toNat<123/\[970,980][k]? =some (970+10*((⟨#[97,98]⟩:ByteArray)[k].toNat-97)):=λk h=>by
  match k,h with
  |0,_=>exact⟨show 97<=97 by decide,show 97<123 by decide,rfl⟩
  |1,_=>exact⟨show 97<=98 by decide,show 98<123 by decide,rfl⟩
  |k+2,h=>exact absurd h (by simp[ByteArray.size])
 have z0:=λc hc cs t h1 h2 CN=>z c hc cs ⟨#[]⟩ [] t h1 h2 rfl (by decide) (by simp) a0 CN
 have z1:=λc hc cs t h1 h2 CN=>z c hc cs ⟨#[97]⟩ [970] t h1 h2 rfl (by decide) (by simp) a1 CN
 have z2:=λc hc cs t h1 h2 CN=>z c hc cs ⟨#[97,98]⟩ [970,980] t h1 h2 rfl (by decide) (by simp) a2 CN
 have R:=con_reads c hc;rcases hc with rfl|rfl|rfl|rfl|rfl|rfl|rfl|rfl|rfl|rfl
 ·exact z1 78 (by decide) _ _ (by decide) R (λX=>zvm X)
 ·exact z1 67 (by decide) _ _ (by decide) R (λX=>ztu X)
 ·exact z2 80 (by decide) _ _ (by decide) R (λX=>zvo X)
 ·exact z2 76 (by decide) _ _ (by decide) R (λX=>zvs X)
 ·exact z2 82 (by decide) _ _ (by decide) R (λX=>zuu X)
 ·exact z1 74 (by decide) _ _ (by decide) R (λX=>zun X)
 ·exact z0 69 (by decide) _ _ (by decide) R (λX=>zwf X)
 ·exact z0 65 (by decide) _ _ (by decide) R (λX=>ztv X)
 ·exact z1 89 (by decide) _ _ (by decide) R (λX=>zuh X)
 ·exact z2 68 (by decide) _ _ (by decide) R (λX=>zum X)
theorem rcheck_any (w0:World) (b:Nat) (L:Value) (ts:List Tt) (m:Nat) (hm:m<=60000):∀(x:Ex) (k:Nat),Sd w0 ts x k->EOk true m x->EB m x->xz x<=60000->∀(st:List Se) (w:World),Ct w0 b L ts none st w->StOk st->st.length+xz x<=100000->
 CZ 61 #[pZ b,iZ k] w (CPost w0.heap.size b L 50000 st (xz x) (chk x (zbf st)) w):=by
 intro x
 induction x with
 |nil=>intro k h;exact h.elim
 |node t o x a b' iha ihb=>
  rintro k ⟨u,hu,hs⟩ ho hb hz st w h hst hl;obtain⟨hb1,hb2,hb3,hb4⟩:=hb;obtain⟨op,c,ta,tb,⟨ga,gn,gc⟩,⟨va,vn,vc⟩,⟨pa,pn,pc⟩,tat,tto⟩:=u;simp only at hs;have ct:∀X,Below w.heap.size w X->Ct w0 b L ts none st X:=λX hX=>(h.cs.below hX).2.ct h (h.cs.below hX).1
  have gs:∀l,GOk m l->∀u∈l,sz u<=60000:=λl hl u hu=>z1c (hl u hu).2 hm
  rcases ho with ⟨rfl,hc,hg,_⟩|⟨rfl,hc,hg,_⟩|⟨rfl,hc,_⟩|⟨rfl,hc,hg,hg1,ha,rfl⟩|⟨rfl,hc,hv,ha,hbb⟩|⟨rfl,ha,hbb⟩
  ·rcases hs with ⟨_,rfl,rfl,rfl,hG⟩|⟨h0,_⟩|⟨h0,_⟩|⟨h0,_⟩|⟨h0,_⟩
   ·have e1:chk (.node 0 o x a b') (zbf st)=match zbf st x.c with|none=> .error (3,x.p)|some s=>zbn s x.g x.p:=by
     simp only[chk,if_true]
     cases zbf st x.c<;>rfl
    rw[e1];exact znk w0 b L ts st w k x.c ta tb ga va pa gn gc vn vc pn pc x.p tto h hu _ _ λX hX=>named_name w0 b L ts st _ x.c ta tb ga va pa gn gc vn vc pn pc x.p tto x.g X (ct X hX) hst (by omega) (by simp[xz]) hG (by omega) (gs _ hg) (zic hc)
   all_goals omega
  ·rcases hs with ⟨_,rfl,rfl,rfl,hG⟩|⟨h0,_⟩|⟨h0,_⟩|⟨h0,_⟩|⟨h0,_⟩
   ·have e1:chk (.node 1 o x a b') (zbf st)=zbn (conS x.c) x.g x.p:=by simp[chk]
    rw[e1];exact znk w0 b L ts st w k x.c ta tb ga va pa gn gc vn vc pn pc x.p tto h hu _ _ λX hX=>named_con w0 b L ts st _ x.c ta tb ga va pa gn gc vn vc pn pc x.p tto x.g X (ct X hX) hst (by omega) (by simp[xz]) hG (by omega) (gs _ hg) (conP_of hc)
   all_goals omega
  ·rcases hs with ⟨h0,_⟩|⟨_,rfl,rfl⟩|⟨h0,_⟩|⟨h0,_⟩|⟨h0,_⟩
   ·omega
   ·have e1:chk (.node 2 o x a b') (zbf st)=.ok (if x.c=84\/x.c=70 then tB else tI):=by simp[chk]
    have e2:xz (.node 2 o x a b')=1:=by simp[xz]
    rw[e1,e2];by_cases h84:x.c=84
    ·rw[if_pos (.inl h84)]
     exact znb _ w0 b L ts st w k x.c ta tb ga va pa gn gc vn vc pn pc tat tto h hu (.inr (.inl ⟨h84,rfl⟩))
    ·by_cases h70:x.c=70
     ·rw[if_pos (.inr h70)]
      exact znb _ w0 b L ts st w k x.c ta tb ga va pa gn gc vn vc pn pc tat tto h hu (.inr (.inr ⟨h70,rfl⟩))
     ·rw[if_neg (by omega)]
      exact znb _ w0 b L ts st w k x.c ta tb ga va pa gn gc vn vc pn pc tat tto h hu (.inl ⟨⟨h84,h70⟩,rfl⟩)
   all_goals omega
  ·rcases hs with ⟨h0,_⟩|⟨h0,_⟩|⟨_,rfl,rfl,rfl,hG,hk,hsd⟩|⟨h0,_⟩|⟨h0,_⟩
   ·omega
   ·omega
   ·obtain⟨u,hu1⟩:=hg1 rfl
    have hgu:=hg u (by rw[hu1];exact List.mem_singleton.2 rfl)
    have e1:chk (.node 3 o x a .nil) (zbf st)=funC u (chk a (zap (zbf st) x.c (u,[]))) x.p:=by
     simp[chk,hu1,funC];rfl
    have e2:xz (.node 3 o x a .nil)=sz u+1+xz a:=by simp only[xz,if_true];rw[hu1];rfl
    rw[e1,e2];rw[e2] at hz hl;rw[hu1] at hG;have hok:∀h0 cp,StOk (st++[⟨x.c,u,[],h0,cp,(none,0,0)⟩]):=λh0 cp=>hst.push ⟨zic hc,hgu.1,z1c hgu.2 hm,by simp,by simp⟩
    have henv:∀h0 cp,zbf (st++[⟨x.c,u,[],h0,cp,(none,0,0)⟩])=zap (zbf st) x.c (u,[]):=λh0 cp=>zxj st _
    refine check_fn w0 b L ts st w k x.c ta tb ga va pa gn gc vn vc pn pc x.p tto h hu u (xz a) _ _ hsd.lt (by omega) (by omega) (z1c hgu.2 hm) (by omega) hG ?_ ?_
    ·intro v hv
     rw[<-henv 0 0] at hv;have:=zhu hm a _ v ha (hok 0 0).env hv;omega
    ·intro X h0 cp hX
     have:=iha ta hsd ha hb3 (by omega) _ X hX (hok h0 cp) (by simp;omega);rw[henv h0 cp] at this;exact this
   all_goals omega
  ·rcases hs with ⟨h0,_⟩|⟨h0,_⟩|⟨h0,_⟩|⟨_,rfl,⟨rfl,hcap⟩,hV,hP,hk,hk',hsd,hsd'⟩|⟨h0,_⟩
   ·omega
   ·omega
   ·omega
   ·have e1:chk (.node 4 o x a b') (zbf st)=znz (zom (zce (zbf st) x.v []) (chk a (zbf st))) (λu=>chk b' (zap (zbf st) x.c (u,x.v.map (·.1)))):=by
     simp[chk,znz,zom]
     cases zce (zbf st) x.v [] with
     |some p=>rfl
     |none=>cases chk a (zbf st)<;>rfl
    have e2:xz (.node 4 o x a b')=xz a+xz b':=by simp[xz]
    rw[e1,e2];rw[e2] at hz hl;have p1:=xz_pos ha;refine check_let w0 b L ts st w k x.c ta tb ga va pa gn gc vn vc pn pc tat tto h hu x.v (xz a) (xz b') _ _ _ hsd.lt hsd'.lt hst (by omega) hv (by omega) (by omega) hcap hV hP ?_ ?_
    ·intro X hX
     exact iha ta hsd ha hb3 (by omega) st X hX hst (by omega)
    ·intro u X g1 cap1 hR hX
     have hau:chk a (zbf st)=.ok u:=by
      cases hq:zce (zbf st) x.v [] with
      |some p=>rw[hq] at hR;cases hR
      |none=>rw[hq] at hR;exact hR
     have hcu:=zhu hm a _ u ha hst.env hau
     have hok:StOk (st++[⟨x.c,u,x.v.map (·.1),g1,cap1,(va,vn,vc)⟩]):=by
      refine hst.push ⟨zic hc,hcu.1,by show sz u<=60000;omega,by show (x.v.map (·.1)).length<=60000;simp;omega,?_⟩;intro o' ho';obtain⟨p,hp,rfl⟩:=z1z.1 ho';exact(hv p hp).1
     have henv:zbf (st++[⟨x.c,u,x.v.map (·.1),g1,cap1,(va,vn,vc)⟩])=zap (zbf st) x.c (u,x.v.map (·.1)):=zxj st _;have:=ihb tb hsd' hbb hb4 (by omega) _ X hX hok (by simp;omega);rw[henv] at this;exact this
   ·omega
  ·rcases hs with ⟨h0,_⟩|⟨h0,_⟩|⟨h0,_⟩|⟨h0,_⟩|⟨_,rfl,⟨rfl,rfl⟩,hk,hk',hsd,hsd'⟩
   ·omega
   ·omega
   ·omega
   ·omega
   ·have e1:chk (.node 5 o x a b') (zbf st)=zuv (chk a (zbf st)) (chk b' (zbf st)) x.p:=by
     simp[chk,zuv]
     cases chk a (zbf st) with
     |error r=>rfl
     |ok f=>cases chk b' (zbf st)<;>rfl
    have e2:xz (.node 5 o x a b')=xz a+xz b':=by simp[xz]
    rw[e1,e2];rw[e2] at hz hl;have p1:=xz_pos ha;refine check_call w0 b L ts st w k 0 ta tb ga va pa gn gc vn vc pn pc tat x.p h hu (xz a) (xz b') _ _ _ hsd.lt hsd'.lt (by omega) ?_ ?_ ?_ ?_
    ·intro v hv'
     have:=zhu hm a _ v ha hst.env hv';omega
    ·intro v hv'
     have:=zhu hm b' _ v hbb hst.env hv';omega
    ·intro X hX
     exact iha ta hsd ha hb3 (by omega) st X hX hst (by omega)
    ·intro X hX
     exact ihb tb hsd' hbb hb4 (by omega) st X hX hst (by omega)
end
end Go.Proofs.YtceadeaodbadlaaGreatDoor
namespace Go.Proofs.YtceadeaodbadlaaGreatDoor
open Go.RowKit
variable {ty : Bool}
def zbt (ty:Bool) (s:ByteArray) (n:Nat):Sg->EOut
 | .error p=> .error p
 | .ok i=>pe s ty n 0 i .nil
def posS:EOut->Sg
 | .error p=> .error p
 | .ok (_,j)=> .ok j
def kT (s:ByteArray):Sg->Ty
 | .error _=>tI
 | .ok i=>match pT s i with
  | .error _=>tI
  | .ok (t,_)=>t
section
variable {s:ByteArray} {i k:Nat} {σ:Sg}
theorem kindT_ok {u:Ty} {j:Nat} (h:zuq s σ u) (hj:zec s σ=.ok j):u=kT s σ:=by
 cases σ with
 |error p=>cases hj
 |ok i=>
  simp only[zec] at hj;simp only[kT]
  cases hp:pT s i with
  |error p=>rw[hp] at hj;cases hj
  |ok r=>obtain⟨t,j'⟩:=r;exact h i t j' rfl hp
def fnS (s:ByteArray) (i:Nat):Sg:=zbg s 46 (zec s (zbg s 58 (letS s (.ok (i+1)))))
theorem pe_fn (s:ByteArray) (n i:Nat) (h:chr s i=92):pe s true (n+1) 0 i .nil=match zbt true s n (fnS s i) with
 | .error p=> .error p
 | .ok (a,j)=> .ok (eF (letC s (.ok (i+1))) i [kT s (zbg s 58 (letS s (.ok (i+1))))] a,j):=by
 rw[pe,if_pos h];unfold fnS;by_cases hl:zaq (chr s (i+1))=true
 ·simp only[letS,letC,if_pos hl,zku,if_true,zbg]
  by_cases h58:chr s (i+1+1)=58
  ·rw[if_pos (show chr s (i+2)=58 from h58),if_pos h58]
   simp only[zec,kT]
   cases hp:pT s (i+2+1) with
   |error p=>rfl
   |ok r=>
    obtain⟨t,j⟩:=r;dsimp only[zbg];by_cases h46:chr s j=46
    ·rw[if_pos h46,if_pos h46];rfl
    ·rw[if_neg h46,if_neg h46];rfl
  ·rw[if_neg (show ¬chr s (i+2)=58 from h58),if_neg h58]
   rfl
 ·simp only[letS,letC,if_neg hl,zbg,zec]
  rfl
def ownS (s:ByteArray):Sg->Sg
 | .error p=> .error p
 | .ok i=>match pw s (s.size+1) i [] with
  | .error p=> .error p
  | .ok (_,j)=> .ok j
def ownV (s:ByteArray):Sg->List (Nat×Nat)
 | .error _=>[]
 | .ok i=>match pw s (s.size+1) i [] with
  | .error _=>[]
  | .ok (l,_)=>l
def wiS (s:ByteArray) (i:Nat):Sg:=zbg s 61 (ownS s (zbg s 60 (letS s (.ok (i+1)))))
theorem pe_wi (s:ByteArray) (n i:Nat) (h:chr s i=64):pe s true (n+1) 0 i .nil=match zbt true s n (wiS s i) with
 | .error p=> .error p
 | .ok (a,k)=>match zbt true s n (zbg s 59 (.ok k)) with
  | .error p=> .error p
  | .ok (b,l)=> .ok (eL (letC s (.ok (i+1))) i (ownV s (zbg s 60 (letS s (.ok (i+1))))) a b,l):=by
 rw[pe,if_neg (by rw[h];decide),if_pos h];unfold wiS;by_cases hl:zaq (chr s (i+1))=true
 ·simp only[letS,letC,if_pos hl,ownO,if_true,zbg]
  by_cases h58:chr s (i+1+1)=60
  ·rw[if_pos (show chr s (i+2)=60 from h58),if_pos h58]
   simp only[ownS,ownV]
   cases hp:pw s (s.size+1) (i+2+1) [] with
   |error p=>rfl
   |ok r=>
    obtain⟨t,j⟩:=r;dsimp only[zbg];by_cases h46:chr s j=61
    ·rw[if_pos h46,if_pos h46]
     simp only[zbt]
     cases pe s true n 0 (j+1) .nil with
     |error p=>rfl
     |ok r=>
      obtain⟨a,k⟩:=r;simp only;by_cases h59:chr s k=59
      ·rw[if_pos h59,if_pos h59];rfl
      ·rw[if_neg h59,if_neg h59]
    ·rw[if_neg h46,if_neg h46];rfl
  ·rw[if_neg (show ¬chr s (i+2)=60 from h58),if_neg h58]
   rfl
 ·simp only[letS,letC,if_neg hl,zbg,ownS]
  rfl
theorem zdb {c:Nat} (h0:1<=c) (h:zbg s c σ=.ok i):∃j,σ=.ok j/\i=j+1/\j<s.size/\chr s j=c:=by
 cases σ with
 |error p=>cases h
 |ok j=>
  simp only[zbg] at h;split at h
  ·rename_i e;cases h;exact⟨j,rfl,rfl,zag (by omega),e⟩
  ·cases h
theorem zlp (h:letS s σ=.ok i):∃j,σ=.ok j/\i=j+1/\j<s.size/\zaq (chr s j)=true/\letC s σ=chr s j:=by
 cases σ with
 |error p=>cases h
 |ok j=>
  simp only[letS] at h;split at h
  ·rename_i e;cases h;exact⟨j,rfl,rfl,zag (by intro e';rw[e'] at e;exact absurd e (by decide)),e,if_pos e⟩
  ·cases h
theorem ztb (hσ:gPos σ<=s.size) (h:zec s σ=.ok i):∃j,σ=.ok j/\j<i/\i<=s.size/\Ok (kT s σ):=by
 cases σ with
 |error p=>cases h
 |ok j=>
  simp only[zec] at h;simp only[kT]
  cases hp:pT s j with
  |error p=>rw[hp] at h;cases h
  |ok r=>obtain⟨t,k⟩:=r;rw[hp] at h;cases h;have:=zdw hp hσ;exact⟨j,rfl,this.1,this.2.1,this.2.2.1⟩
theorem zmj (hi:i<s.size) (h:fnS s i=.ok k):i+4<k/\k<=s.size/\zec s (zbg s 58 (letS s (.ok (i+1))))=.ok (k-1):=by
 obtain⟨j1,h1,h2,h3,h4⟩:=zdb (by decide) h
 have hp:gPos (zbg s 58 (letS s (.ok (i+1))))<=s.size:=by
  cases hq:zbg s 58 (letS s (.ok (i+1))) with
  |error p=>rw[hq] at h1;cases h1
  |ok q=>
   obtain⟨j2,g1,g2,g3,_⟩:=zdb (by decide) hq;show q<=s.size;omega
 obtain⟨j2,h5,h6,h7,_⟩:=ztb hp h1;obtain⟨j3,h8,h9,h10,_⟩:=zdb (by decide) h5;obtain⟨j4,h11,h12,h13,_⟩:=zlp h8
 cases h11
 exact⟨by omega,by omega,by rw[h1];congr 1;omega⟩
theorem ownS_pos (hσ:gPos σ<=s.size) (h:ownS s σ=.ok i):∃j,σ=.ok j/\j<i/\i<=s.size:=by
 cases σ with
 |error p=>cases h
 |ok j=>
  simp only[ownS] at h
  cases hp:pw s (s.size+1) j [] with
  |error p=>rw[hp] at h;cases h
  |ok r=>obtain⟨t,k⟩:=r;rw[hp] at h;cases h;have:=zsj s _ _ _ _ _ hp hσ VOk.nil;exact⟨j,rfl,this.1,this.2.1⟩
theorem wiS_pos (hi:i<s.size) (h:wiS s i=.ok k):i+4<k/\k<=s.size:=by
 obtain⟨j1,h1,h2,h3,h4⟩:=zdb (by decide) h
 have hp:gPos (zbg s 60 (letS s (.ok (i+1))))<=s.size:=by
  cases hq:zbg s 60 (letS s (.ok (i+1))) with
  |error p=>rw[hq] at h1;cases h1
  |ok q=>
   obtain⟨j2,g1,g2,g3,_⟩:=zdb (by decide) hq;show q<=s.size;omega
 obtain⟨j2,h5,h6,h7⟩:=ownS_pos hp h1;obtain⟨j3,h8,h9,h10,_⟩:=zdb (by decide) h5;obtain⟨j4,h11,h12,h13,_⟩:=zlp h8
 cases h11
 exact⟨by omega,by omega⟩
def fnF (s:ByteArray) (i:Nat):Sg:=zbg s 46 (letS s (.ok (i+1)))
theorem pe_fnF (s:ByteArray) (n i:Nat) (h:chr s i=92):pe s false (n+1) 0 i .nil=match zbt false s n (fnF s i) with
 | .error p=> .error p
 | .ok (a,j)=> .ok (eF (letC s (.ok (i+1))) i [] a,j):=by
 rw[pe,if_pos h];unfold fnF;by_cases hl:zaq (chr s (i+1))=true
 ·simp only[letS,letC,if_pos hl,zku,Bool.false_eq_true,if_false,zbg]
  by_cases h46:chr s (i+2)=46
  ·rw[if_pos h46,if_pos (show chr s (i+1+1)=46 from h46)];rfl
  ·rw[if_neg h46,if_neg (show ¬chr s (i+1+1)=46 from h46)];rfl
 ·simp only[letS,letC,if_neg hl,zbg]
  rfl
theorem zls (h:fnF s i=.ok k):i+2<k/\k<=s.size:=by
 obtain⟨j1,h1,h2,h3,h4⟩:=zdb (by decide) h;obtain⟨j4,h11,h12,h13,_⟩:=zlp h1
 cases h11
 exact⟨by omega,by omega⟩
def wiF (s:ByteArray) (i:Nat):Sg:=zbg s 61 (letS s (.ok (i+1)))
theorem zmf (h:wiF s i=.ok k):i+2<k/\k<=s.size:=by
 obtain⟨j1,h1,h2,h3,h4⟩:=zdb (by decide) h;obtain⟨j4,h11,h12,h13,_⟩:=zlp h1
 cases h11
 exact⟨by omega,by omega⟩
theorem pe_wiF (s:ByteArray) (n i:Nat) (h:chr s i=64):pe s false (n+1) 0 i .nil=match zbt false s n (wiF s i) with
 | .error p=> .error p
 | .ok (a,k)=>match zbt false s n (zbg s 59 (.ok k)) with
  | .error p=> .error p
  | .ok (b,l)=> .ok (eL (letC s (.ok (i+1))) i [] a b,l):=by
 rw[pe,if_neg (by rw[h];decide),if_pos h];unfold wiF;by_cases hl:zaq (chr s (i+1))=true
 ·simp only[letS,letC,if_pos hl,ownO,Bool.false_eq_true,if_false,zbg]
  by_cases h46:chr s (i+2)=61
  ·rw[if_pos h46,if_pos (show chr s (i+1+1)=61 from h46)]
   simp only[zbt]
   cases pe s false n 0 (i+1+1+1) .nil with
   |error p=>rfl
   |ok r=>
    obtain⟨a,k⟩:=r;simp only;by_cases h59:chr s k=59
    ·rw[if_pos h59,if_pos h59];rfl
    ·rw[if_neg h59,if_neg h59]
  ·rw[if_neg h46,if_neg (show ¬chr s (i+1+1)=61 from h46)];rfl
 ·simp only[letS,letC,if_neg hl,zbg]
  rfl
def xB (s:ByteArray):Sg->Nat
 | .error _=>1
 | .ok i=>2*(s.size-i)+2
def XPost (ty:Bool) (b:Nat) (s:ByteArray) (r:EOut) (σ:Sg) (ts:List Tt) (w:World) (e:Ending) (w':World):Prop:=
 Fr b w w'/\∃(k:Nat) (us:List Tt),e=.returned (iZ k)/\Sr ty b s (posS r) (ts++us) w'/\us.length<=xB s σ/\
  ∀x j,r=.ok (x,j)->k+1=(ts++us).length/\us.length+1<=2*(j-gPos σ)/\Sd w' (ts++us) x k
def zme (ty:Bool) (b:Nat) (s:ByteArray) (n:Nat):Prop:=
 ∀(σ:Sg) (ts:List Tt) (w:World),Sr ty b s σ ts w->(∀i,σ=.ok i->3*(s.size-i)+2<=n)->ts.length+xB s σ<=300000->
  CZ 46 #[pZ b] w (XPost ty b s (zbt ty s n σ) σ ts w)
def TAtom (ty:Bool) (b:Nat) (s:ByteArray) (n:Nat):Prop:=
 ∀(i:Nat) (ts:List Tt) (w:World),Sr ty b s (.ok i) ts w->3*(s.size-i)+1<=n->ts.length+xB s (.ok i)<=300000->
  CZ 76 #[pZ b] w (XPost ty b s (pe s ty n 2 i .nil) (.ok i) ts w)
end
section
variable {cur:Array Value} {s:ByteArray} {ts:List Tt} {xs:List Value} {b g B m n q:Nat} {row:Option Nat} {σ:Sg} {t:Ty} {T e:TypeId} {v V:Value} {w w':World}
theorem Sr.c1 (h:Sr ty b s σ ts w):w.cell? ⟨b,1,none⟩=some (.bool ty):=by
 obtain⟨_,lv,h,_⟩:=h;rw[z1f h];rfl
theorem Sr.c2 (h:Sr ty b s σ ts w):w.cell? ⟨b,2,none⟩=some (.int .i64 (gPos σ:Int)):=by
 obtain⟨_,lv,h,_⟩:=h;rw[z1f h];rfl
theorem Sr.c3 (h:Sr ty b s σ ts w):w.cell? ⟨b,3,none⟩=some (.int .i64 (gBad σ)):=by
 obtain⟨_,lv,h,_⟩:=h;rw[z1f h];rfl
theorem Sr.c0 (h:Sr ty b s σ ts w):w.cell? ⟨b,0,none⟩=some (.string s):=by
 obtain⟨_,lv,h,_⟩:=h;rw[z1f h];rfl
theorem Sr.fz (h:Sr ty b s σ ts w) (j:Nat):w.frozen? ⟨b,j,none⟩=false:=by
 obtain⟨_,lv,h,_⟩:=h;exact h.fz j
theorem Sr.pos (h:Sr ty b s σ ts w):gPos σ<=s.size:=h.1
theorem Sr.apartT (h:Sr ty b s σ ts w) {fz:Nat×Nat} (hg:w.heap[g]? =some (.cells cur T fz)) (h1:T≠70) (h2:T≠76):g≠b/\zay b w≠some g:=by
 obtain⟨_,lv,h0,ho,hn,he⟩:=h;refine⟨?_,?_⟩
 ·rintro rfl
  unfold R0 at h0;rw[h0] at hg;injection hg with hg;injection hg with _ hg;exact h1 hg.symm
 ·intro e
  rw[h0.row] at e
  obtain⟨c,f,hh⟩:∃c f,w.heap[g]? =some (.cells c 76 f):=by
   rcases ho.2 with ⟨rfl,_⟩|⟨g',cap,cur,rfl,_,hgg,_⟩
   ·simp[Value.ownBlock] at e
   ·simp[Value.ownBlock] at e;subst e;exact⟨_,_,hgg⟩
  rw[hh] at hg;injection hg with hg;injection hg with _ hg;exact h2 hg.symm
theorem zjo (h:w.ownsRow B e m v n xs) (hg:v.ownBlock=some g):∃cur,w.heap[g]? =some (.cells cur e (0,0))/\B<=g:=by
 rcases h.2 with ⟨rfl,_⟩|⟨g',cap,cur,rfl,hB,hgg,_⟩
 ·simp[Value.ownBlock] at hg
 ·simp[Value.ownBlock] at hg;subst hg;exact⟨cur,hgg,hB⟩
theorem ztt (h:w.ownsRow B e m v n xs) (hb:∀g,v.ownBlock=some g->w'.heap[g]? =w.heap[g]?):w'.ownsRow B e m v n xs:=by
 obtain⟨h1,h2|⟨g,cap,cur,rfl,hB,hg,h3⟩⟩:=h
 ·exact⟨h1,.inl h2⟩
 ·exact⟨h1,.inr ⟨g,cap,cur,rfl,hB,(hb g rfl).trans hg,h3⟩⟩
theorem row_fr (hS:Sr ty b s σ ts w) (F:Fr b w w') (h:w.ownsRow B e m v n xs) (h1:e≠70) (h2:e≠76):w'.ownsRow B e m v n xs:=by
 refine ztt h λg hg=>?_
 obtain⟨cur,hc,_⟩:=zjo h hg;have ha:=hS.apartT hc h1 h2;exact F.block g (z1a.1 hc).1 ha.1 (Ne.symm ha.2)
theorem Sr.grown {w0 w1 w2:World} (h:Sr ty b s σ ts w1) (F:Fr b w0 w1) (hg:w1.grownBy w2 row) (hr:∀g,row=some g->g≠b/\zay b w1≠some g/\w0.heap.size<=g):Sr ty b s σ ts w2/\Fr b w0 w2:=by
 obtain⟨hp,lv,h0,ho,hn,he⟩:=h;have hrb:row≠some b:=λe=>(hr b e).1 rfl
 have h2:R0 ty lv b s (gPos σ) (gBad σ) w2:=(hg.block b h0.lt (Ne.symm hrb)).trans h0;refine⟨⟨hp,lv,h2,ztt ho (λg e=>hg.block g (ho.lt g e).2 (λe'=>(hr g e'.symm).2.1 (h0.row.trans e))),hn,he⟩,?_⟩;have hrow:zay b w2=zay b w1:=h2.row.trans h0.row.symm;refine⟨hg.os.trans F.os,hg.tape.trans F.tape,hg.output.trans F.output,z1c F.size hg.size,λk hk hb hr'=>?_,by rw[hrow];exact F.row⟩;exact(hg.block k (z1e hk F.size) (λe=>by have:=(hr k e.symm).2.2;omega)).trans (F.block k hk hb hr')
theorem Bt.grown {t:Tt} (h:Bt q t w) (hg:w.grownBy w' row) (hr:row≠some q):Bt q t w':=(hg.block q h.lt (Ne.symm hr)).trans h
theorem Bt.ne {t:Tt} (h:Bt q t w) {fz:Nat×Nat} (hg:w.heap[g]? =some (.cells cur T fz)) (h2:T≠76):g≠q:=by
 rintro rfl;unfold Bt at h;rw[h] at hg;injection hg with hg;injection hg with _ hg;exact h2 hg.symm
def zlr (h:Ty×Nat×Nat):Value:=sZ h.2.1 (sz h.1) h.2.2
def Gr (B:Nat) (w:World) (G:Option Addr×Nat×Nat) (hs:List (Ty×Nat×Nat)):Prop:=
 w.ownsRow B 33 1 (slV G) hs.length (hs.map zlr)/\(hs=[]->G=(none,0,0))/\∀h∈hs,Rg h.2.1 h.1 w
theorem Gr.nil (B:Nat) (w:World):Gr B w (none,0,0) []:=⟨z1w _ _ _ _,λ_=>rfl,λh hh=>by cases hh⟩
theorem Gr.ls {G:Option Addr×Nat×Nat} {hs:List (Ty×Nat×Nat)} (h:Gr B w G hs):Ls w (slV G) (hs.map (·.1)):=by
 obtain⟨ho,he,hr⟩:=h;rcases id ho.2 with ⟨e,h0⟩|⟨g,cap,cur,e,hB,hg,_⟩
 ·have:hs=[]:=List.length_eq_zero_iff.1 h0
  subst this;exact⟨none,0,e,.inl rfl⟩
 ·refine⟨some ⟨g,0,none⟩,cap,by rw[e];simp,.inr ⟨g,rfl,(z1a.1 hg).1,λk t hk=>?_⟩⟩
  rw[z1n] at hk;obtain⟨x,hx,rfl⟩:=Option.map_eq_some_iff.1 hk;have hc:=ho.cells (g:=g) (by rw[e];rfl) k (zlr x) (by rw[z1n,hx];rfl);rw[zli g k] at hc;exact⟨x.2.1,x.2.2,hc,hr x (z1m hx)⟩
theorem Gr.fr (hS:Sr ty b s σ ts w) (F:Fr b w w') {G:Option Addr×Nat×Nat} {hs:List (Ty×Nat×Nat)} (h:Gr B w G hs):Gr B w' G hs:=
 ⟨row_fr hS F h.1 (by decide) (by decide),h.2.1,λx hx=>(h.2.2 x hx).fr hS F⟩
theorem Gr.apart {G:Option Addr×Nat×Nat} {hs:List (Ty×Nat×Nat)} (h:Gr B w G hs) (R:Rg g t w):(slV G).ownBlock≠some g:=by
 intro e
 cases hs with
 |nil=>rw[h.2.1 rfl] at e;cases e
 |cons x hs=>
  have hc:=h.1.cells e 0 (zlr x) rfl;have hp:=zaw R.ok;obtain⟨n,hn⟩:∃n,(nd t 0)[0]? =some n:=⟨_,z1h (by rw[zaj];omega)⟩
  have hc2:=(R.cell 0 n hn).1;rw[Nat.zero_mul] at hc2;rw[show (⟨g,0,none⟩:Addr).add 0=⟨g,0,none⟩ from rfl,hc2] at hc
  cases hc
theorem Gr.app {w5:World} {u:Ty} {c gg cap:Nat} {o:Obj} {G:Option Addr×Nat×Nat} {hs:List (Ty×Nat×Nat)} (h:Gr B w G hs) (R:Rg g u w) (hown:w5.ownsRow B 33 1 (sZ gg (hs.length+1) cap) (hs.length+1) (hs.map zlr++[zlr (u,g,c)])) (hg:(w.alloc o).grownBy w5 (slV G).ownBlock):
 Gr B w5 (some ⟨gg,0,none⟩,hs.length+1,cap) (hs++[(u,g,c)]):=by
 have hg1:w.grownBy w5 (slV G).ownBlock:=(z1p w o _).trans hg;refine⟨by simpa using hown,λe=>by simp at e,λx hx=>?_⟩;rcases z1y.1 hx with hx|hx
 ·exact(h.2.2 x hx).kept hg1 (h.apart (h.2.2 x hx))
 ·obtain rfl:x=(u,g,c):=by simpa using hx
  exact R.kept hg1 (h.apart R)
def KeepC (w w':World):Prop:=w.heap.size<=w'.heap.size/\∀(g:Nat) (v:Value),w.cell? ⟨g,0,none⟩=some v->(∀z,v≠ .int .u8 z)->w'.heap[g]? =w.heap[g]?
theorem KeepC.at (h:KeepC w w') (hc:w.cell? ⟨g,0,none⟩=some v) (hv:∀z,v≠ .int .u8 z) (j:Nat):w'.cell? ⟨g,j,none⟩=w.cell? ⟨g,j,none⟩:=z1s (w:=w) (a:=⟨g,j,none⟩) (h.2 g v hc hv)
theorem KeepC.rg (h:KeepC w w') (R:Rg g t w):Rg g t w':=by
 have hp:=zaw R.ok;obtain⟨n,hn⟩:∃n,(nd t 0)[0]? =some n:=⟨_,z1h (by rw[zaj];omega)⟩
 have hc:=(R.cell 0 n hn).1;rw[Nat.zero_mul] at hc;exact⟨R.ok,z1e R.lt h.1,λk n hk=>by rw[h.at hc (by simp),h.at hc (by simp),h.at hc (by simp)];exact R.cell k n hk⟩
theorem KeepC.is {l:List Nat} (h:KeepC w w') (R:Is w V l):Is w' V l:=by
 obtain⟨a,cap,rfl,R⟩:=R;refine⟨a,cap,rfl,?_⟩;rcases R with R|⟨g,rfl,hg,hc⟩
 ·exact .inl R
 ·cases l with
  |nil=>exact .inl rfl
  |cons n l=>exact .inr ⟨g,rfl,z1e hg h.1,λk m hk=>(h.at (hc 0 n rfl) (by simp) k).trans (hc k m hk)⟩
theorem KeepC.ls {l:List Ty} (h:KeepC w w') (R:Ls w V l):Ls w' V l:=by
 obtain⟨a,cap,rfl,R⟩:=R;refine⟨a,cap,rfl,?_⟩;rcases R with R|⟨g,rfl,hg,hc⟩
 ·exact .inl R
 ·cases l with
  |nil=>exact .inl rfl
  |cons n l=>
   obtain⟨h',c',hc',_⟩:=hc 0 n rfl;refine .inr ⟨g,rfl,z1e hg h.1,λk m hk=>?_⟩;obtain⟨h1,c1,e1,e2⟩:=hc k m hk;exact⟨h1,c1,(h.at hc' (by simp) k).trans e1,h.rg e2⟩
theorem KeepC.sd {us:List Tt} {x:Ex} {k:Nat} (h:KeepC w w') (R:Sd w us x k):Sd w' us x k:=R.kept (λ_ _ R=>h.is R) (λ_ _ R=>h.ls R)
theorem KeepC.gr (h:KeepC w w') {G:Option Addr×Nat×Nat} {hs:List (Ty×Nat×Nat)} (R:Gr B w G hs):Gr B w' G hs:=by
 refine⟨ztt R.1 λg e=>?_,R.2.1,λx hx=>h.rg (R.2.2 x hx)⟩
 cases hs with
 |nil=>rw[R.2.1 rfl] at e;cases e
 |cons x hs=>exact h.2 g (zlr x) (R.1.cells e 0 _ rfl) (by simp[zlr])
theorem Bt.keepC {t:Tt} (h:Bt q t w) (j:Nat) (v:Value):KeepC w (w.setCell ⟨q,j,none⟩ v):=by
 refine⟨by simp[World.setCell],λg v' hc hv=>Below.heap_setCell _ _ _ _ ?_⟩;rintro rfl;rw[h.c 0] at hc;exact hv _ (z1q hc).symm
end
end Go.Proofs.YtceadeaodbadlaaGreatDoor
namespace Go.Proofs.YtceadeaodbadlaaGreatDoor
open Go.RowKit
theorem zsq:(Tryz.prog.info? 33).map (λi=>(i.zero,i.size,i.bytes))=some (some (.agg #[.slice none 0 0]),1,24):=by kernel_rfl
theorem zqs (w:World) (g n c:Nat):∀j u,[Value.slice (some ⟨g,0,none⟩) n c][j]? =some u->(w.alloc (.cells #[sZ g n c] 33)).cell? ((⟨w.heap.size,0,none⟩:Addr).add j)=some u:=z1x (z1v w _)
abbrev tO (op c a b at' tu:Nat):Obj:=.cells #[uZ op,uZ c,iZ a,iZ b,.slice none 0 0,.slice none 0 0,.slice none 0 0,iZ at',iZ tu] 76
abbrev t0 (op c a b at' tu:Nat):Tt:=⟨op,c,a,b,(none,0,0),(none,0,0),(none,0,0),at',tu⟩
theorem tfn_any (b:Nat) (s:ByteArray) (n i:Nat) (ts:List Tt) (w:World) (h:Sr true b s (.ok (i+1)) ts w) (hi:i<s.size) (hs:s.size<=60000) (ih:zme true b s n) (hn:3*(s.size-i)+2<=n+1) (hc:chr s i=92) (hl:ts.length+xB s (.ok i)<=300000):
 CZ 74 #[pZ b,iZ i] w (XPost true b s (pe s true (n+1) 0 i .nil) (.ok i) ts w):=by
 obtain⟨i0,hi0,hz0,hz1,hz2⟩:=info_parts zsq;have HPE:Hid _:=pe_fn s n i hc;have HC:=hid hc;have IH:=hid ih;have hlt:=h.lt;have hqb:w.heap.size≠b:=by omega
 have B0:Bt w.heap.size (t0 92 0 0 0 i 0) (w.alloc (tO 92 0 0 0 i 0)):=z1v w _;have F0:Fr b w (w.alloc (tO 92 0 0 0 i 0)):=(Fr.refl b w).alloc hlt _;have r0:=h.rowNew (tO 92 0 0 0 i 0);have h0:=h.alloc (tO 92 0 0 0 i 0);have HL:=hid hl;clear hc ih hl;go_enter Tryz.func74,Tryz.ntmps74;go_wp21;refine(zqa b s _ ts _ h0 (by omega)).mono ?_;rintro e w1 ⟨rfl,h1,k1⟩;have B1:=Bt.fr B0 k1 hqb r0;have r1:=k1.rowNe' r0 (by simp);have F1:=F0.trans k1;clear B0 F0 r0 h0 k1;generalize hcc:letC s (.ok (i+1))=c at *
 have HCC:=hid hcc;clear hcc;have c1:=B1.c 1;have f1:=B1.fz 1;have B2:=B1.setC c;have h2:Sr true b s (letS s (.ok (i+1))) ts (w1.setCell ⟨w.heap.size,1,none⟩ (uZ c)):=h1.setFar hqb r1;have r2:zay b (w1.setCell ⟨w.heap.size,1,none⟩ (uZ c))≠some w.heap.size:=zbw hqb r1;have F2:Fr b w (w1.setCell ⟨w.heap.size,1,none⟩ (uZ c)):=F1.setNew' hqb (z1d _);have t2:=h2.c1;clear B1 r1 F1 h1;go_wp21;generalize w1.setCell ⟨w.heap.size,1,none⟩ (uZ c)=w2 at *
 refine(zne b s 58 _ ts w2 h2 (by omega) (by decide)).mono ?_;rintro e w3 ⟨rfl,h3,k3⟩;have B3:=Bt.fr B2 k3 hqb r2;have r3:=k3.rowNe' r2 B2.lt;have F3:=F2.trans k3;clear B2 r2 F2 h2 t2 k3 c1 f1;generalize hs3:zbg s 58 (letS s (.ok (i+1)))=σ3 at *
 have HS3:=hid hs3;clear hs3;have KC:Hid (CZ 43 #[pZ b] w3.drew λe w'=>∃g cap u,e=.returned (.agg #[sZ g (sz u) cap])/\Rg g u w'/\sz u<=s.size+1/\zuq s σ3 u/\Sr true b s (zec s σ3) ts w'/\Fr b w3.drew w'):=skind b s σ3 ts w3.drew h3.drew hs;have c4:cZ w3 w.heap.size 4 (.slice none 0 0):=B3.c 4;have f4:=B3.fz 4;have lq:=B3.lt;clear h3;go_wp21
 go_region_law
  (first
   |(go_simp;go_at_call 43;refine KC.out.mono ?_;rintro e w4 ⟨g4,cap4,u4,rfl,R4,z4,hk4,h4,k4⟩;(have B4:=Bt.fr (w:=w3.drew) B3 k4 hqb r3);(have r4:=k4.rowNe' (w:=w3.drew) r3 lq);(have F4:=(F3.drewN 1).trans k4);(have d4:cZ w4 w.heap.size 4 (.slice none 0 0):=B4.c 4);(have HN:=zqs w4 g4 (sz u4) cap4);(have s4:w.heap.size<=w4.heap.size:=F4.size);(have l4:w.heap.size<w4.heap.size:=B4.lt);(try dsimp only))
   |((refine step_append_lies _ (by rfl) _ _ _ (by rfl) w.heap.size 33 i0 _ 1 24 Tryz.underlying65 hi0 hz0 hz1 hz2 rfl (by omega) (.slice none 0 0) 0 [] (by rfl) (z1w _ _ _ _) ⟨w4.heap.size,0,none⟩ 1 1 [sZ g4 (sz u4) cap4] (by rfl) (by rfl) HN (by simp[Value.oneCell']) (by omega) (by unfold maxLen;omega) (by omega) (by simp;omega) (w4.heap.size+1) (by simp) ?_;intro gg cap5 w5 hown5 hgrow5 hat5 hlt5;have d5:cZ w5 w.heap.size 4 (.slice none 0 0):=(((B4.grown ((z1p w4 _ none).trans hgrow5) (by simp))).c 4);have e5:w5.frozen? ⟨w.heap.size,4,none⟩=false:=(((B4.grown ((z1p w4 _ none).trans hgrow5) (by simp))).fz 4))))
 all_goals
  have g45:w4.grownBy w5 none:=(z1p w4 _ none).trans hgrow5;have B5:=B4.grown g45 (by simp);obtain⟨h5,k5⟩:=h4.grown (Fr.refl b w4) (row:=none) g45 (λg e=>by cases e);have r5:=k5.rowNe' r4 B4.lt;have F5:=F4.trans k5;have G5:Gr w.heap.size w5 (some ⟨gg,0,none⟩,1,cap5) [(u4,g4,cap4)]:=Gr.app (Gr.nil _ w4) R4 hown5 hgrow5;have K6:=B5.keepC 4 (sZ gg 1 cap5);have B6:=B5.setG (some ⟨gg,0,none⟩) 1 cap5;have G6:=K6.gr G5;have h6:Sr true b s (zec s σ3) ts (w5.setCell ⟨w.heap.size,4,none⟩ (sZ gg 1 cap5)):=h5.setFar hqb r5;have r6:zay b (w5.setCell ⟨w.heap.size,4,none⟩ (sZ gg 1 cap5))≠some w.heap.size:=zbw hqb r5;have F6:Fr b w (w5.setCell ⟨w.heap.size,4,none⟩ (sZ gg 1 cap5)):=F5.setNew' hqb (z1d _);clear g45 B5 h5 k5 r5 F5 G5 K6 B4 h4 k4 r4 F4 hown5 hgrow5 hat5 hlt5 d4 d5 e5 HN R4;go_wp21;generalize w5.setCell ⟨w.heap.size,4,none⟩ (sZ gg 1 cap5)=w6 at *
  refine(zne b s 46 _ ts w6 h6 (by omega) (by decide)).mono ?_;rintro e w7 ⟨rfl,h7,k7⟩;have B7:=Bt.fr B6 k7 hqb r6;have r7:=k7.rowNe' r6 B6.lt;have F7:=F6.trans k7;have G7:=G6.fr h6 k7;clear B6 r6 F6 G6 h6 k7;have HF7:Hid (zbg s 46 (zec s σ3)=fnS s i):=by unfold Hid fnS;rw[HS3.out]
  rw[HF7.out] at h7;go_wp21;have HFU:Hid (∀j,fnS s i=.ok j->3*(s.size-j)+2<=n):=by intro j hj;have:=zmj hi hj;omega
  have HLN:Hid (ts.length+xB s (fnS s i)<=300000):=by
   have:=HL.out;unfold Hid
   cases hj:fnS s i with
   |error p=>simp only[xB] at *;omega
   |ok j=>have:=zmj hi hj;simp only[xB] at *;omega
  refine(IH (fnS s i) ts w7 h7 HFU HLN).mono ?_;rintro e w8 ⟨k8,k,us,rfl,h8,hu,hx⟩;have B8:=Bt.fr B7 k8 hqb r7;have r8:=k8.rowNe' r7 B7.lt;have F8:=F7.trans k8;have G8:=G7.fr h7 k8;have HX:=hid hx;have HU:=hid hu;clear B7 r7 F7 G7 h7 k8 hx hu;have c8:=B8.c 2;have f8:=B8.fz 2;have K9:=B8.keepC 2 (iZ k);have B9:=B8.setA k;have G9:=K9.gr G8;have HK9:=hid K9;have h9:Sr true b s _ (ts++us) (w8.setCell ⟨w.heap.size,2,none⟩ (iZ k)):=h8.setFar hqb r8;have F9:Fr b w (w8.setCell ⟨w.heap.size,2,none⟩ (iZ k)):=F8.setNew' hqb (z1d _);obtain⟨d0,d1,d2,d3,d4,d5,d6,d7,d8⟩:=B9.all
  have HLU:Hid ((ts++us).length<=1000000):=by
   have:=HL.out;have:=HU.out;unfold Hid;simp
   cases hj:fnS s i with
   |error p=>rw[hj] at this;simp only[xB] at *;omega
   |ok j=>rw[hj] at this;have:=zmj hi hj;simp only[xB] at *;omega
  clear B8 B9 r8 F8 h8 K9 G8;go_wp21;refine(tadd b s _ (ts++us) _ 92 c k 0 (some ⟨gg,0,none⟩) none none 1 cap5 0 0 0 0 i 0 h9 HLU).mono ?_;rintro e w10 ⟨rfl,h10,k10⟩;clear d0 d1 d2 d3 d4 d5 d6 d7 d8 c8 f8;have G10:=G9.fr h9 k10;have HS10:Hid (∀x j,Sd w8 (ts++us) x j->Sd w10 (ts++us) x j):=λx j S=>(HK9.out.sd S).fr h9 k10
  have HG10:=hid G10.ls;have HF10:Hid (Fr b w w10):=F9.trans k10;have HR10:=hid h10;have HKT:=hid hk4;clear G9 G10 h9 h10 F9 k10 HK9 hk4;generalize hll:(ts++us).length=ll at *
  have HLL:=hid hll;clear hll;go_wp21;go_ret;refine⟨HF10,ll,us++[⟨92,c,k,0,(some ⟨gg,0,none⟩,1,cap5),(none,0,0),(none,0,0),i,0⟩],rfl,?_,?_,?_⟩
  ·rw[HPE.out]
   have:=HR10.out;rw[z1u] at this
   cases hq:zbt true s n (fnS s i) with
   |error p=>rw[hq] at this;exact this
   |ok r=>obtain⟨a,j⟩:=r;rw[hq] at this;exact this
  ·have h1:=HU.out
   simp
   cases hj:fnS s i with
   |error p=>rw[hj] at h1;simp only[xB] at *;omega
   |ok j=>rw[hj] at h1;have:=zmj hi hj;simp only[xB] at *;omega
  ·intro x j hr
   rw[HPE.out] at hr
   cases hq:zbt true s n (fnS s i) with
   |error p=>rw[hq] at hr;cases hr
   |ok r=>
    obtain⟨a,j'⟩:=r;rw[hq] at hr
    cases hr
    obtain⟨x1,x2,x3⟩:=HX a j hq
    cases hj:fnS s i with
    |error p=>rw[hj] at hq;cases hq
    |ok q=>
     rw[hj] at x2;obtain⟨p1,p2,p3⟩:=zmj hi hj
     have hpl:q<=j:=by
      rw[hj] at hq;have:=(zas s true _ _ _ _ _ _ hq (by omega) (by omega)).1;omega
     have hll:=HLL.out;simp only[gPos] at *
     refine⟨by simp at hll ⊢;omega,by simp;omega,?_⟩;rw[<-z1u];rw[HS3.out] at p3;refine⟨⟨92,c,k,0,(some ⟨gg,0,none⟩,1,cap5),(none,0,0),(none,0,0),i,0⟩,by rw[<-hll];simp,.inr (.inr (.inl ⟨rfl,rfl,rfl,rfl,?_,(by show k<ll;omega),(HS10.out a k x3).more _⟩))⟩;show Ls w10 (sZ gg 1 cap5) [kT s _];rw[<-kindT_ok HKT.out p3];exact HG10
section
variable {s:ByteArray} {l:List Nat} {ts:List Tt} {B b j q c i gg:Nat} {o:Obj} {row:Option Nat} {σ σ0:Sg} {w w' wr w5:World}
theorem zyq:(Tryz.prog.info? 3).map (λi=>(i.zero,i.size,i.bytes))=some (some (.int .i64 0),1,8):=by kernel_rfl
def zck (n:Nat):Value:=iZ n
def Ir (B:Nat) (w:World) (V:Option Addr×Nat×Nat) (l:List Nat):Prop:=w.ownsRow B 3 1 (slV V) l.length (l.map zck)/\(l=[]->V=(none,0,0))
theorem Ir.nil (B:Nat) (w:World):Ir B w (none,0,0) []:=⟨z1w _ _ _ _,λ_=>rfl⟩
theorem Ir.is {V:Option Addr×Nat×Nat} (h:Ir B w V l):Is w (slV V) l:=by
 obtain⟨ho,he⟩:=h;rcases id ho.2 with ⟨e,h0⟩|⟨g,cap,cur,e,hB,hg,_⟩
 ·have:l=[]:=List.length_eq_zero_iff.1 h0
  subst this;exact⟨none,0,e,.inl rfl⟩
 ·refine⟨some ⟨g,0,none⟩,cap,e,.inr ⟨g,rfl,(z1a.1 hg).1,λk n hk=>?_⟩⟩
  have hc:=ho.cells (g:=g) (by rw[e];rfl) k (zck n) (by rw[z1n,hk];rfl);rw[zli g k] at hc;exact hc
theorem Ir.cap {V:Option Addr×Nat×Nat} (h:Ir B w V l):V.2.1<=V.2.2:=by
 obtain⟨a,n,c⟩:=V;rcases h.1.2 with ⟨e,_⟩|⟨g,cap,cur,e,_,_,hc,_⟩
 ·simp at e;simp[e]
 ·simp at e;obtain⟨_,e1,e2⟩:=e;show n<=c;omega
theorem Ir.fr (hS:Sr true b s σ ts w) (F:Fr b w w') {V:Option Addr×Nat×Nat} (h:Ir B w V l):Ir B w' V l:=
 ⟨row_fr hS F h.1 (by decide) (by decide),h.2⟩
theorem KeepC.ir (h:KeepC w w') {V:Option Addr×Nat×Nat} (R:Ir B w V l):Ir B w' V l:=by
 refine⟨ztt R.1 λg e=>?_,R.2⟩
 cases l with
 |nil=>rw[R.2 rfl] at e;cases e
 |cons x hs=>exact h.2 g (zck x) (R.1.cells e 0 _ rfl) (by simp[zck])
theorem Ir.grown {V:Option Addr×Nat×Nat} (h:Ir B w V l) (hg:w.grownBy w' row) (hn:∀g,row=some g->(slV V).ownBlock≠some g):Ir B w' V l:=
 ⟨ztt h.1 λg e=>hg.block g (h.1.lt g e).2 (λe'=>hn g e'.symm e),h.2⟩
theorem Ir.kind {g:Nat} {V:Option Addr×Nat×Nat} (h:Ir B w V l) (e:(slV V).ownBlock=some g):∃cur,w.heap[g]? =some (.cells cur 3 (0,0))/\B<=g:=zjo h.1 e
theorem zlf (w:World) (n:Nat):∀j u,[zck n][j]? =some u->(w.alloc (.cells #[iZ n] 3)).cell? ((⟨w.heap.size,0,none⟩:Addr).add j)=some u:=z1x (z1v w _)
def WS (s:ByteArray) (σ0 σ:Sg) (vs:List (Nat×Nat)):Prop:=
 (∀p,σ0=.error p->σ=.error p/\vs=[])/\∀i0,σ0=.ok i0->∃m j,σ=.ok j/\vs.length+i0<=j/\j<=s.size/\s.size-j+1<=m/\pw s m j vs=pw s (s.size+1) i0 []
theorem WS.start (h:gPos σ0<=s.size):WS s σ0 σ0 []:=
 ⟨λp e=>⟨e,rfl⟩,λi0 e=>⟨s.size+1,i0,e,(by simp),(by rw[e] at h;exact h),by omega,rfl⟩⟩
theorem WS.step {vs:List (Nat×Nat)} (h:WS s σ0 (.ok j) vs) (hc:zaq (chr s j)=true):WS s σ0 (.ok (vEnd s j)) (vs++[(vnum (chr s j) (chr s (j+1)),j)]):=by
 refine⟨λp e=>(by cases (h.1 p e).1),λi0 e=>?_⟩;obtain⟨m,j',e1,h1,h2,h3,h4⟩:=h.2 i0 e
 cases e1
 have hv:=zew hc;obtain⟨m,rfl⟩:∃m',m=m'+1:=⟨m-1,by omega⟩
 refine⟨m,_,rfl,by simp;omega,hv.2,by omega,?_⟩;rw[<-h4,pw,if_neg (by intro e;rw[e] at hc;exact absurd hc (by decide)),if_pos hc]
theorem WS.len {vs:List (Nat×Nat)} (h:WS s σ0 (.ok j) vs):vs.length<=s.size:=by
 cases σ0 with
 |error p=>cases (h.1 p rfl).1
 |ok i0=>obtain⟨m,j',e1,h1,h2,_⟩:=h.2 i0 rfl;omega
theorem WS.stop {vs:List (Nat×Nat)} (h:WS s σ0 σ vs) (hc:isS s 97 122 σ=false):zbg s 62 σ=ownS s σ0/\∀k,ownS s σ0=.ok k->ownV s σ0=vs:=by
 cases σ0 with
 |error p=>
  obtain⟨rfl,rfl⟩:=h.1 p rfl;exact⟨rfl,λk e=>by cases e⟩
 |ok i0=>
  obtain⟨m,j,rfl,h1,h2,h3,h4⟩:=h.2 i0 rfl;obtain⟨m,rfl⟩:∃m',m=m'+1:=⟨m-1,by omega⟩
  have hl:zaq (chr s j)=false:=hc;rw[pw,hl] at h4;simp only[zbg,ownS,ownV];rw[<-h4];by_cases h62:chr s j=62
  ·rw[if_pos h62,if_pos h62]
   exact⟨rfl,λk e=>rfl⟩
  ·rw[if_neg h62,if_neg h62]
   exact⟨rfl,λk e=>by cases e⟩
structure LW (b q:Nat) (s:ByteArray) (σ0:Sg) (c i:Nat) (ts:List Tt) (w:World) (σ:Sg) (vs:List (Nat×Nat)) (V P:Option Addr×Nat×Nat) (wr:World):Prop where
 sr:Sr true b s σ ts wr
 bt:Bt q ⟨64,c,0,0,(none,0,0),V,P,i,0⟩ wr
 rn:zay b wr≠some q
 fr:Fr b w wr
 iv:Ir w.heap.size wr V (vs.map (·.1+30))
 ip:Ir w.heap.size wr P (vs.map (·.2))
 ne:∀g,(slV V).ownBlock=some g->(slV P).ownBlock≠some g
 ws:WS s σ0 σ vs
theorem LW.drewN {vs:List (Nat×Nat)} {V P:Option Addr×Nat×Nat} (h:LW b q s σ0 c i ts w σ vs V P wr) (n:Nat):LW b q s σ0 c i ts w σ vs V P (wr.drewN n):=
 ⟨h.sr,h.bt,h.rn,h.fr.drewN n,h.iv,h.ip,h.ne,h.ws⟩
theorem LW.kept6 {vs:List (Nat×Nat)} {V P:Option Addr×Nat×Nat} (h:LW b q s σ0 c i ts w σ vs V P wr) (hg:(wr.alloc o).grownBy w5 (slV P).ownBlock):Bt q ⟨64,c,0,0,(none,0,0),V,P,i,0⟩ w5:=
 h.bt.grown ((z1p wr o _).trans hg) (λe=>by obtain⟨cur,hc,_⟩:=h.ip.kind e;exact h.bt.ne hc (by decide) rfl)
theorem zkr (h:w.drew.grownBy w' row):w.grownBy w' row:=⟨h.os,h.tape,h.output,h.size,h.block⟩
theorem Ir.ne {V:Option Addr×Nat×Nat} (h:Ir B w V l) {t:Tt} (hB:Bt q t w):(slV V).ownBlock≠some q:=λe=>by obtain⟨cur,hc,_⟩:=h.kind e;exact hB.ne hc (by decide) rfl
theorem LW.place {cap:Nat} {vs:List (Nat×Nat)} {V P:Option Addr×Nat×Nat} (h:LW b q s σ0 c i ts w (.ok j) vs V P wr) (hqb:q≠b) (hwq:w.heap.size<=q) (hown:w5.ownsRow w.heap.size 3 1 (sZ gg (vs.length+1) cap) (vs.length+1) ((vs.map (·.2)).map zck++[zck j])) (hg:(wr.alloc o).grownBy w5 (slV P).ownBlock) (hat:(slV P).ownBlock=some gg\/gg=wr.heap.size+1):
 Sr true b s (.ok j) ts (w5.setCell ⟨q,6,none⟩ (sZ gg (vs.length+1) cap))/\Bt q ⟨64,c,0,0,(none,0,0),V,(some ⟨gg,0,none⟩,vs.length+1,cap),i,0⟩ (w5.setCell ⟨q,6,none⟩ (sZ gg (vs.length+1) cap))/\
 zay b (w5.setCell ⟨q,6,none⟩ (sZ gg (vs.length+1) cap))≠some q/\Fr b w (w5.setCell ⟨q,6,none⟩ (sZ gg (vs.length+1) cap))/\
 Ir w.heap.size (w5.setCell ⟨q,6,none⟩ (sZ gg (vs.length+1) cap)) V (vs.map (·.1+30))/\Ir w.heap.size (w5.setCell ⟨q,6,none⟩ (sZ gg (vs.length+1) cap)) (some ⟨gg,0,none⟩,vs.length+1,cap) ((vs.map (·.2))++[j])/\
 (∀g,(slV V).ownBlock=some g->gg≠g):=by
 have g15:wr.grownBy w5 (slV P).ownBlock:=(z1p wr o _).trans hg
 have hrow:∀g,(slV P).ownBlock=some g->g≠b/\zay b wr≠some g/\w.heap.size<=g:=λg e=>by
  obtain⟨cur,hc,hB⟩:=h.ip.kind e;have:=h.sr.apartT hc (by decide) (by decide);exact⟨this.1,this.2,hB⟩
 obtain⟨s5,f5⟩:=h.sr.grown h.fr g15 hrow
 have hrow5:zay b w5=zay b wr:=by
  obtain⟨_,lv,h0,_⟩:=h.sr;have hb:=g15.block b h0.lt (λe=>(hrow b e.symm).1 rfl);unfold zay;rw[z1s (w:=wr) (w':=w5) (a:=⟨b,4,none⟩) hb]
 have r5:zay b w5≠some q:=by rw[hrow5];exact h.rn
 have b5:=h.bt.grown g15 (λe=>by obtain⟨cur,hc,_⟩:=h.ip.kind e;exact h.bt.ne hc (by decide) rfl);have v5:=h.iv.grown g15 (λg e e'=>h.ne g e' e);have K:=b5.keepC 6 (sZ gg (vs.length+1) cap);have p5:Ir w.heap.size w5 (some ⟨gg,0,none⟩,vs.length+1,cap) ((vs.map (·.2))++[j]):=⟨by simpa using hown,λe=>by simp at e⟩
 refine⟨s5.setFar hqb r5,b5.setP _ _ _,zbw hqb r5,f5.setNew' hqb hwq,K.ir v5,K.ir p5,λg e e'=>?_⟩;subst e';rcases hat with e2|e2
 ·exact h.ne gg e e2
 ·have:=(h.iv.1.lt gg e).2;omega
theorem LW.var {cap:Nat} {vs:List (Nat×Nat)} {V P:Option Addr×Nat×Nat} (hS:Sr true b s (.ok (vEnd s j)) ts wr) (hB:Bt q ⟨64,c,0,0,(none,0,0),V,P,i,0⟩ wr) (hR:zay b wr≠some q) (hF:Fr b w wr) (hV:Ir w.heap.size wr V (vs.map (·.1+30))) (hP:Ir w.heap.size wr P (vs.map (·.2)++[j])) (hne:∀g,(slV V).ownBlock=some g->(slV P).ownBlock≠some g) (hW:WS s σ0 (.ok j) vs) (hl:zaq (chr s j)=true) (hqb:q≠b) (hwq:w.heap.size<=q) (hown:w5.ownsRow w.heap.size 3 1 (sZ gg (vs.length+1) cap) (vs.length+1) ((vs.map (·.1+30)).map zck++[zck (vnum (chr s j) (chr s (j+1))+30)])) (hg:(wr.alloc o).grownBy w5 (slV V).ownBlock) (hat:(slV V).ownBlock=some gg\/gg=wr.heap.size+1):
 LW b q s σ0 c i ts w (.ok (vEnd s j)) (vs++[(vnum (chr s j) (chr s (j+1)),j)]) (some ⟨gg,0,none⟩,vs.length+1,cap) P (w5.setCell ⟨q,5,none⟩ (sZ gg (vs.length+1) cap)):=by
 have g15:wr.grownBy w5 (slV V).ownBlock:=(z1p wr o _).trans hg
 have hrow:∀g,(slV V).ownBlock=some g->g≠b/\zay b wr≠some g/\w.heap.size<=g:=λg e=>by
  obtain⟨cur,hc,hB⟩:=hV.kind e;have:=hS.apartT hc (by decide) (by decide);exact⟨this.1,this.2,hB⟩
 obtain⟨s5,f5⟩:=hS.grown hF g15 hrow
 have hrow5:zay b w5=zay b wr:=by
  obtain⟨_,lv,h0,_⟩:=hS;have hb:=g15.block b h0.lt (λe=>(hrow b e.symm).1 rfl);unfold zay;rw[z1s (w:=wr) (w':=w5) (a:=⟨b,4,none⟩) hb]
 have r5:zay b w5≠some q:=by rw[hrow5];exact hR
 have b5:=hB.grown g15 (λe=>by obtain⟨cur,hc,_⟩:=hV.kind e;exact hB.ne hc (by decide) rfl);have v5:=hP.grown g15 (λg e e'=>hne g e e');have K:=b5.keepC 5 (sZ gg (vs.length+1) cap);have p5:Ir w.heap.size w5 (some ⟨gg,0,none⟩,vs.length+1,cap) ((vs.map (·.1+30))++[vnum (chr s j) (chr s (j+1))+30]):=⟨by simpa using hown,λe=>by simp at e⟩
 refine⟨s5.setFar hqb r5,b5.setV _ _ _,zbw hqb r5,f5.setNew' hqb hwq,?_,?_,λg e e'=>?_,hW.step hl⟩
 ·simpa using K.ir p5
 ·simpa using K.ir v5
 ·have e2:gg=g:=by simpa [Value.ownBlock] using e
  subst e2;rcases hat with e2|e2
  ·exact hne gg e2 e'
  ·have:=(hP.1.lt gg e').2;omega
end
end Go.Proofs.YtceadeaodbadlaaGreatDoor
namespace Go.Proofs.YtceadeaodbadlaaGreatDoor
open Go.RowKit
theorem Sr.plr {b:Nat} {s:ByteArray} {σ:Sg} {ts:List Tt} {w:World} (h:Sr true b s σ ts w):plr b w=gPos σ:=by
 obtain⟨_,lv,h,_⟩:=h;exact h.plr
def wi2 (ty:Bool) (s:ByteArray) (n:Nat) (σ:Sg):Sg:=zbg s 59 (posS (zbt ty s n σ))
abbrev wiS2 (s:ByteArray) (n i:Nat):Sg:=wi2 true s n (wiS s i)
theorem wP {s:ByteArray} {i:Nat} (hi:i<s.size):∀k,wiS s i=.ok k->i+2<k/\k<=s.size:=λk h=>by have:=wiS_pos hi h;omega
theorem pe_wi2 (s:ByteArray) (n i:Nat) (h:chr s i=64):pe s true (n+1) 0 i .nil=match zbt true s n (wiS2 s n i) with
 | .error p=> .error p
 | .ok (b,l)=>match zbt true s n (wiS s i) with
  | .error p=> .error p
  | .ok (a,_)=> .ok (eL (letC s (.ok (i+1))) i (ownV s (zbg s 60 (letS s (.ok (i+1))))) a b,l):=by
 rw[pe_wi s n i h];unfold wiS2 wi2
 cases zbt true s n (wiS s i) with
 |error p=>rfl
 |ok r=>obtain⟨a,k⟩:=r;rfl
theorem pe_wiF2 (s:ByteArray) (n i:Nat) (h:chr s i=64):pe s false (n+1) 0 i .nil=match zbt false s n (wi2 false s n (wiF s i)) with
 | .error p=> .error p
 | .ok (b,l)=>match zbt false s n (wiF s i) with
  | .error p=> .error p
  | .ok (a,_)=> .ok (eL (letC s (.ok (i+1))) i [] a b,l):=by
 rw[pe_wiF s n i h];unfold wi2
 cases zbt false s n (wiF s i) with
 |error p=>rfl
 |ok r=>obtain⟨a,k⟩:=r;rfl
section
variable {ty : Bool} {s : ByteArray} {σ : Sg}
theorem zwx {n i j:Nat} (hσ:∀k,σ=.ok k->i+2<k/\k<=s.size) (h:wi2 ty s n σ=.ok j):∃a q,zbt ty s n σ=.ok (a,j-1)/\σ=.ok q/\i+2<q/\q<j-1/\j<=s.size/\1<=j:=by
 obtain⟨j1,h1,h2,h3,_⟩:=zdb (by decide) h
 cases hr:zbt ty s n σ with
 |error p=>rw[hr] at h1;cases h1
 |ok r=>
  obtain⟨a,k⟩:=r;rw[hr] at h1
  cases h1
  cases hq:σ with
  |error p=>rw[hq] at hr;cases hr
  |ok q=>
   have hp:=hσ q hq;rw[hq] at hr;have:=zas s ty _ _ _ _ _ _ hr hp.2 (by omega);exact⟨a,q,by rw[h2];rfl,rfl,hp.1,by omega,by omega,by omega⟩
theorem zwj {i:Nat} (hi:i<s.size) (hσ:∀k,σ=.ok k->i+2<k/\k<=s.size):xB s σ+2<=xB s (.ok i):=by
 cases hq:σ with
 |error p=>simp only[xB];omega
 |ok q=>have:=hσ q hq;simp only[xB];omega
theorem wi_len2 {n i u:Nat} (hi:i<s.size) (hσ:∀k,σ=.ok k->i+2<k/\k<=s.size) (hu:u<=xB s σ) (hx:∀a k,zbt ty s n σ=.ok (a,k)->u+1<=2*(k-gPos σ)):u+xB s (wi2 ty s n σ)+1<=xB s (.ok i):=by
 cases hj:wi2 ty s n σ with
 |error p=>have:=zwj hi hσ;simp only[xB] at *;omega
 |ok j=>
  obtain⟨a,q,h1,h2,h3,h4,h5,h6⟩:=zwx hσ hj;have:=hx a _ h1;rw[h2] at this;simp only[gPos,xB] at *
  omega
theorem wi_len3 {n i u u' l:Nat} {b:Ex} (hσ:∀k,σ=.ok k->i+2<k/\k<=s.size) (hx:∀a k,zbt ty s n σ=.ok (a,k)->u+1<=2*(k-gPos σ)) (h:zbt ty s n (wi2 ty s n σ)=.ok (b,l)) (hu:u'+1<=2*(l-gPos (wi2 ty s n σ))):u+u'+2<=2*(l-i):=by
 cases hj:wi2 ty s n σ with
 |error p=>rw[hj] at h;cases h
 |ok j=>
  obtain⟨a,q,h1,h2,h3,h4,h5,h6⟩:=zwx hσ hj;have:=hx a _ h1;rw[h2] at this;rw[hj] at hu h;have:=zas s ty _ _ _ _ _ _ h h5 (by omega);simp only[gPos] at *
  omega
end
theorem twi_any (b:Nat) (s:ByteArray) (n i:Nat) (ts:List Tt) (w:World) (h:Sr true b s (.ok (i+1)) ts w) (hi:i<s.size) (hs:s.size<=60000) (ih:zme true b s n) (hn:3*(s.size-i)+2<=n+1) (hc:chr s i=64) (hl:ts.length+xB s (.ok i)<=300000):
 CZ 75 #[pZ b,iZ i] w (XPost true b s (pe s true (n+1) 0 i .nil) (.ok i) ts w):=by
 obtain⟨i0,hi0,hz0,hz1,hz2⟩:=info_parts zyq;have HPE:Hid _:=pe_wi2 s n i hc;have IH:Hid (zme true b s n):=ih;have hlt:=h.lt;have hqb:w.heap.size≠b:=by omega
 have B0:Bt w.heap.size (t0 64 0 0 0 i 0) (w.alloc (tO 64 0 0 0 i 0)):=z1v w _;have F0:Fr b w (w.alloc (tO 64 0 0 0 i 0)):=(Fr.refl b w).alloc hlt _;have r0:=h.rowNew (tO 64 0 0 0 i 0);have h0:=h.alloc (tO 64 0 0 0 i 0);have HL:Hid (ts.length+xB s (.ok i)<=300000):=hl;clear hc ih hl;go_enter Tryz.func75,Tryz.ntmps75;go_wp21;refine(zqa b s _ ts _ h0 (by omega)).mono ?_;rintro e w1 ⟨rfl,h1,k1⟩;have B1:=Bt.fr B0 k1 hqb r0;have r1:=k1.rowNe' r0 (by simp);have F1:=F0.trans k1;clear B0 F0 r0 h0 k1;generalize hcc:letC s (.ok (i+1))=c at *
 have HCC:Hid (letC s (.ok (i+1))=c):=hcc;clear hcc;have c1:=B1.c 1;have f1:=B1.fz 1;have B2:=B1.setC c;have h2:Sr true b s (letS s (.ok (i+1))) ts (w1.setCell ⟨w.heap.size,1,none⟩ (uZ c)):=h1.setFar hqb r1;have r2:zay b (w1.setCell ⟨w.heap.size,1,none⟩ (uZ c))≠some w.heap.size:=zbw hqb r1;have F2:Fr b w (w1.setCell ⟨w.heap.size,1,none⟩ (uZ c)):=F1.setNew' hqb (z1d _);have t2:=h2.c1;clear B1 r1 F1 h1;go_wp21;generalize w1.setCell ⟨w.heap.size,1,none⟩ (uZ c)=w2 at *
 refine(zne b s 60 _ ts w2 h2 (by omega) (by decide)).mono ?_;rintro e w3 ⟨rfl,h3,k3⟩;have B3:=Bt.fr B2 k3 hqb r2;have r3:=k3.rowNe' r2 B2.lt;have F3:=F2.trans k3;clear B2 r2 F2 h2 t2 k3 c1 f1;generalize hs3:zbg s 60 (letS s (.ok (i+1)))=σ3 at *
 have HS3:Hid (zbg s 60 (letS s (.ok (i+1)))=σ3):=hs3;clear hs3;have L3:LW b w.heap.size s σ3 c i ts w σ3 [] (none,0,0) (none,0,0) w3:=⟨h3,B3,r3,F3,Ir.nil _ _,Ir.nil _ _,(λg e=>by cases e),WS.start h3.pos⟩
 clear B3 r3 F3;go_wp21;refine(sis b s 97 122 σ3 ts w3 h3 (by omega) (by decide)).mono ?_;rintro e w4 ⟨rfl,d4,rfl⟩;have HL4:Hid (LW b w.heap.size s σ3 c i ts w σ3 [] (none,0,0) (none,0,0) (w3.drewN d4)):=L3.drewN d4;clear L3 h3;go_wp21
 go_loopw [6] (λm wr=>∃σ vs V P,m=.bool (isS s 97 122 σ)/\Hid (LW b w.heap.size s σ3 c i ts w σ vs V P wr)) (λ_ wr=>s.size-plr b wr)
 case atStart=>exact⟨σ3,[],_,_,rfl,HL4⟩
 case round=>
  clear HL4;obtain⟨σ,vs,V,P,rfl,HL4⟩:=hrel
  cases hm:isS s 97 122 σ
  ·obtain⟨e1,e2⟩:=HL4.ws.stop hm
   have HE1:Hid (zbg s 62 σ=ownS s σ3):=e1;have HE2:Hid (∀k,ownS s σ3=.ok k->ownV s σ3=vs):=e2;clear e1 e2;have h5:=HL4.out.sr;have B5:=HL4.out.bt;have r5:=HL4.out.rn;have F5:=HL4.out.fr;have V5:=HL4.out.iv;have P5:=HL4.out.ip;clear HL4 hm;go_wp21;refine(zne b s 62 σ ts wr h5 (by omega) (by decide)).mono ?_;rintro e w6 ⟨rfl,h6,k6⟩;have B6:=Bt.fr B5 k6 hqb r5;have r6:=k6.rowNe' r5 B5.lt;have F6:=F5.trans k6;have V6:=V5.fr h5 k6;have P6:=P5.fr h5 k6;rw[HE1.out] at h6;clear B5 r5 F5 V5 P5 h5 k6;go_wp21;refine(zne b s 61 _ ts w6 h6 (by omega) (by decide)).mono ?_;rintro e w7 ⟨rfl,h7,k7⟩;have B7:=Bt.fr B6 k7 hqb r6;have r7:=k7.rowNe' r6 B6.lt;have F7:=F6.trans k7;have V7:=V6.fr h6 k7;have P7:=P6.fr h6 k7;have HW7:Hid (zbg s 61 (ownS s σ3)=wiS s i):=by unfold Hid wiS;rw[HS3.out]
   rw[HW7.out] at h7;clear B6 r6 F6 V6 P6 h6 k7;have HFU:Hid (∀j,wiS s i=.ok j->3*(s.size-j)+2<=n):=by intro j hj;have:=wiS_pos hi hj;omega
   have HLN:Hid (ts.length+xB s (wiS s i)<=300000):=by have:=HL.out;have:=zwj hi (wP hi);unfold Hid;omega
   go_wp21;refine(IH (wiS s i) ts w7 h7 HFU HLN).mono ?_;rintro e w8 ⟨k8,ka,us,rfl,h8,hu,hx⟩;have B8:=Bt.fr B7 k8 hqb r7;have r8:=k8.rowNe' r7 B7.lt;have F8:=F7.trans k8;have V8:=V7.fr h7 k8;have P8:=P7.fr h7 k8;have HX:Hid _:=hx;have HU:Hid (us.length<=xB s (wiS s i)):=hu;clear B7 r7 F7 V7 P7 h7 k8 hx hu HFU HLN;have c8:=B8.c 2;have f8:=B8.fz 2;have K9:=B8.keepC 2 (iZ ka);have B9:=B8.setA ka;have V9:=K9.ir V8;have P9:=K9.ir P8;have HK9:Hid (KeepC w8 (w8.setCell ⟨w.heap.size,2,none⟩ (iZ ka))):=K9;have h9:Sr true b s _ (ts++us) (w8.setCell ⟨w.heap.size,2,none⟩ (iZ ka)):=h8.setFar hqb r8;have r9:zay b (w8.setCell ⟨w.heap.size,2,none⟩ (iZ ka))≠some w.heap.size:=zbw hqb r8;have F9:Fr b w (w8.setCell ⟨w.heap.size,2,none⟩ (iZ ka)):=F8.setNew' hqb (z1d _);clear B8 r8 F8 V8 P8 h8 K9;go_wp21;have HS9:Hid (∀x j,Sd w8 (ts++us) x j->Sd (w8.setCell ⟨w.heap.size,2,none⟩ (iZ ka)) (ts++us) x j):=λx j S=>HK9.out.sd S
   clear HK9;generalize w8.setCell ⟨w.heap.size,2,none⟩ (iZ ka)=w9 at *
   refine(zne b s 59 _ (ts++us) w9 h9 (by omega) (by decide)).mono ?_;rintro e w10 ⟨rfl,h10,k10⟩;have B10:=Bt.fr B9 k10 hqb r9;have r10:=k10.rowNe' r9 B9.lt;have F10:=F9.trans k10;have V10:=V9.fr h9 k10;have P10:=P9.fr h9 k10;have HS10:Hid (∀x j,Sd w8 (ts++us) x j->Sd w10 (ts++us) x j):=λx j S=>(HS9.out x j S).fr h9 k10
   have HU2:Hid (us.length+xB s (wiS2 s n i)+1<=xB s (.ok i)):=wi_len2 hi (wP hi) HU.out (λa k e=>(HX.out a k e).2.1);clear B9 r9 F9 V9 P9 h9 k10 HS9 c8 f8;have HFU:Hid (∀j,wiS2 s n i=.ok j->3*(s.size-j)+2<=n):=by intro j hj;obtain⟨a,q,g1,g2,g3,g4,g5,g6⟩:=zwx (wP hi) hj;omega
   have HLN:Hid ((ts++us).length+xB s (wiS2 s n i)<=300000):=by have:=HL.out;have:=HU2.out;unfold Hid;simp;omega
   go_wp21;refine(IH (wiS2 s n i) (ts++us) w10 h10 HFU HLN).mono ?_;rintro e w11 ⟨k11,kb,us',rfl,h11,hu',hx'⟩;have B11:=Bt.fr B10 k11 hqb r10;have r11:=k11.rowNe' r10 B10.lt;have F11:=F10.trans k11;have V11:=V10.fr h10 k11;have P11:=P10.fr h10 k11;have HS11:Hid (∀x j,Sd w8 (ts++us) x j->Sd w11 (ts++us) x j):=λx j S=>(HS10.out x j S).fr h10 k11
   have HX':Hid _:=hx';have HU':Hid (us'.length<=xB s (wiS2 s n i)):=hu';clear B10 r10 F10 V10 P10 h10 k11 hx' hu' HFU HLN HS10;have c11:=B11.c 3;have f11:=B11.fz 3;have K12:=B11.keepC 3 (iZ kb);have B12:=B11.setB kb;have V12:=K12.ir V11;have P12:=K12.ir P11;have HS12:Hid (∀us x j,Sd w11 us x j->Sd (w11.setCell ⟨w.heap.size,3,none⟩ (iZ kb)) us x j):=λus x j S=>K12.sd S
   have h12:Sr true b s _ (ts++us++us') (w11.setCell ⟨w.heap.size,3,none⟩ (iZ kb)):=h11.setFar hqb r11;have F12:Fr b w (w11.setCell ⟨w.heap.size,3,none⟩ (iZ kb)):=F11.setNew' hqb (z1d _);obtain⟨d0,d1,d2,d3,d4,d5,d6,d7,d8⟩:=B12.all;have HLU:Hid ((ts++us++us').length<=1000000):=by have:=HL.out;have:=HU2.out;have:=HU'.out;unfold Hid;simp;omega
   clear B11 B12 r11 F11 V11 P11 h11 K12;obtain⟨va,vn,vc⟩:=V;obtain⟨pa,pn,pc⟩:=P;go_wp21;refine(tadd b s _ (ts++us++us') _ 64 c ka kb none va pa 0 0 vn vc pn pc i 0 h12 HLU).mono ?_;rintro e w13 ⟨rfl,h13,k13⟩;clear d0 d1 d2 d3 d4 d5 d6 d7 d8 c11 f11;have HCAP:Hid (vn<=vc):=V12.cap;have HV13:Hid (Is w13 (.slice va vn vc) (vs.map (·.1+30))):=(V12.fr h12 k13).is;have HP13:Hid (Is w13 (.slice pa pn pc) (vs.map (·.2))):=(P12.fr h12 k13).is;have HS13:Hid (∀us x j,Sd w11 us x j->Sd w13 us x j):=λus x j S=>(HS12.out us x j S).fr h12 k13
   have HF13:Hid (Fr b w w13):=F12.trans k13;have HR13:Hid (Sr true b s (posS (zbt true s n (wiS2 s n i))) (ts++us++us'++[⟨64,c,ka,kb,(none,0,0),(va,vn,vc),(pa,pn,pc),i,0⟩]) w13):=h13;clear V12 P12 h12 h13 F12 k13 HS12;generalize hll:(ts++us++us').length=ll at *
   have HLL:Hid ((ts++us++us').length=ll):=hll;clear hll;go_wp21;go_ret;refine⟨HF13,ll,us++us'++[⟨64,c,ka,kb,(none,0,0),(va,vn,vc),(pa,pn,pc),i,0⟩],rfl,?_,?_,?_⟩
   ·rw[HPE.out]
    have:=HR13.out;rw[<-z1u,<-z1u]
    cases hq:zbt true s n (wiS2 s n i) with
    |error p=>rw[hq] at this;exact this
    |ok r=>
     obtain⟨a,j⟩:=r;rw[hq] at this
     cases hq1:zbt true s n (wiS s i) with
     |error p=>
      exfalso;unfold wiS2 wi2 at hq;rw[hq1] at hq
      cases hq
     |ok r1=>obtain⟨a1,j1⟩:=r1;exact this
   ·have:=HU2.out
    have:=HU'.out;simp;omega
   ·intro x j hr
    rw[HPE.out] at hr
    cases hq:zbt true s n (wiS2 s n i) with
    |error p=>rw[hq] at hr;cases hr
    |ok r=>
     obtain⟨bb,j'⟩:=r;rw[hq] at hr
     cases hq1:zbt true s n (wiS s i) with
     |error p=>rw[hq1] at hr;cases hr
     |ok r1=>
      obtain⟨a1,j1⟩:=r1;rw[hq1] at hr
      cases hr
      obtain⟨x1,x2,x3⟩:=HX a1 j1 hq1;obtain⟨y1,y2,y3⟩:=HX' bb j hq;have hll:=HLL.out;have h3:=wi_len3 (wP hi) (λa k e=>(HX.out a k e).2.1) hq y2
      have hown:∃q,ownS s σ3=.ok q:=by
       cases ho:ownS s σ3 with
       |ok q=>exact⟨q,rfl⟩
       |error p=>
        exfalso;have e1:=HW7.out;rw[ho] at e1;rw[<-e1] at hq1
        cases hq1
      obtain⟨q,hown⟩:=hown;have hvs:=HE2.out q hown;refine⟨by simp at hll ⊢;omega,by simp[gPos];omega,?_⟩;rw[<-z1u,<-z1u];refine⟨⟨64,c,ka,kb,(none,0,0),(va,vn,vc),(pa,pn,pc),i,0⟩,by rw[<-hll];simp,.inr (.inr (.inr (.inl ⟨rfl,rfl,⟨rfl,HCAP.out⟩,?_,?_,(by show ka<ll;simp at hll x1;omega),(by show kb<ll;simp at hll y1;omega),((HS13.out _ _ _ ((HS11.out _ _ x3).more us'))).more _,(HS13.out _ _ _ y3).more _⟩)))⟩
      ·show Is w13 (.slice va vn vc) ((ownV s σ3).map (·.1+30))
       rw[hvs];exact HV13
      ·show Is w13 (.slice pa pn pc) ((ownV s σ3).map (·.2))
       rw[hvs];exact HP13
  ·cases σ with
   |error p=>cases hm
   |ok j=>
    have hlet:zaq (chr s j)=true:=hm;have HLET:Hid (zaq (chr s j)=true):=hlet;have h5:=HL4.out.sr;have c2:cZ wr b 2 (iZ j):=h5.c2;have c6:cZ wr w.heap.size 6 (.slice P.1 P.2.1 P.2.2):=HL4.out.bt.c 6;have f6:=HL4.out.bt.fz 6;have lq:=HL4.out.bt.lt;have lb:=h5.lt;have HP5:Hid (wr.ownsRow w.heap.size 3 1 (slV P) vs.length ((vs.map (·.2)).map zck)):=by have:=HL4.out.ip.1;rw[z2a] at this;exact this
    have hwl:w.heap.size<=wr.heap.size:=HL4.out.fr.size;have HN:=zlf wr j;have hvl:vs.length<=1000000:=by have:=HL4.out.ws.len;omega
    have HVL:Hid (vs.length<=s.size):=HL4.out.ws.len;clear hm hlet;go_wp21
    go_region_law
     ((refine step_append_lies _ (by rfl) _ _ _ (by rfl) w.heap.size 3 i0 _ 1 8 Tryz.underlying63 hi0 hz0 hz1 hz2 rfl (by omega) (.slice P.1 P.2.1 P.2.2) vs.length ((vs.map (·.2)).map zck) (by rfl) ((HP5.out.alloc _).drew) ⟨wr.heap.size,0,none⟩ 1 1 [zck j] (by rfl) (by rfl) HN (by simp[Value.oneCell',zck]) (by omega) (by unfold maxLen;omega) (by omega) (by simp;omega) (wr.heap.size+1) (by simp) ?_;intro gg cap5 w5 hown5 hgrow5 hat5 hlt5;have b5:=HL4.out.kept6 (zkr hgrow5);have k6:cZ w5 w.heap.size 6 (.slice P.1 P.2.1 P.2.2):=b5.c 6;have z6:=b5.fz 6))
    all_goals
     obtain⟨s6,b6,r6,F6,V6,P6,n6⟩:=HL4.place hqb (z1d _) hown5 (zkr hgrow5) hat5;have HW:Hid (WS s σ3 (.ok j) vs):=HL4.out.ws;have HM5:Hid (plr b wr=j):=HL4.out.sr.plr;clear HL4 b5 k6 z6 hown5 hgrow5 hat5 hlt5 HP5 HN h5 c2 c6 f6;go_wp21;generalize w5.setCell ⟨w.heap.size,6,none⟩ (sZ gg (vs.length+1) cap5)=w6 at *
     refine(svariable b s j ts w6 s6 (by omega) HLET.out).mono ?_;rintro e w7 ⟨rfl,h7,k7⟩;have B7:=Bt.fr b6 k7 hqb r6;have r7:=k7.rowNe' r6 b6.lt;have F7:=F6.trans k7;have V7:=V6.fr s6 k7;have P7:=P6.fr s6 k7;clear s6 b6 r6 F6 V6 P6 k7;have c5:cZ w7 w.heap.size 5 (.slice V.1 V.2.1 V.2.2):=B7.c 5;have f5:=B7.fz 5;have l7:=B7.lt;have s7:=F7.size;generalize hvn:vnum (chr s j) (chr s (j+1))+30=vv at *
     have HVV:Hid (vnum (chr s j) (chr s (j+1))+30=vv):=hvn;clear hvn;have HN7:=zlf w7 vv;have hvl1:vs.length<=1000000:=by have:=HVL.out;omega
     have HV7:Hid (Ir w.heap.size w7 V (vs.map (·.1+30))):=V7;have HW7:Hid (w7.ownsRow w.heap.size 3 1 (slV V) vs.length ((vs.map (·.1+30)).map zck)):=by have:=V7.1;rw[z2a] at this;exact this
     have HB7:Hid (Bt w.heap.size ⟨64,c,0,0,(none,0,0),V,(some ⟨gg,0,none⟩,vs.length+1,cap5),i,0⟩ w7):=B7;have HP7:Hid (Ir w.heap.size w7 (some ⟨gg,0,none⟩,vs.length+1,cap5) (vs.map (·.2)++[j])):=P7;have HF7:Hid (Fr b w w7):=F7;have HR7:Hid (zay b w7≠some w.heap.size):=r7;have HN6:Hid (∀g,(slV V).ownBlock=some g->gg≠g):=n6;have HS7:Hid (Sr true b s (.ok (vEnd s j)) ts w7):=h7;clear V7 B7 P7 F7 r7 n6 h7
     go_wp2_with (at_builtin;refine wpList_append_lies _ rfl _ _ 63 rfl w.heap.size 3 i0 _ 1 8 Tryz.underlying63 hi0 hz0 hz1 hz2 rfl (by omega) (.slice V.1 V.2.1 V.2.2) vs.length ((vs.map (·.1+30)).map zck) rfl (HW7.out.alloc _) ⟨w7.heap.size,0,none⟩ 1 1 [zck vv] rfl rfl HN7 (by simp[Value.oneCell',zck]) (by omega) (by unfold maxLen;omega) (by omega) (by simp;omega) (w7.heap.size+1) (by simp) ?_;intro gg8 cap8 w8 hown8 hgrow8 hat8 hlt8;have b8:=HB7.out.grown ((z1p w7 _ _).trans hgrow8) (HV7.out.ne HB7.out);have k8:cZ w8 w.heap.size 5 (.slice V.1 V.2.1 V.2.2):=b8.c 5;have z8:=b8.fz 5)
     rw[<-HVV.out] at hown8;have L8:=LW.var HS7.out HB7.out HR7.out HF7.out HV7.out HP7.out (λg e e'=>HN6.out g e (by simpa [Value.ownBlock] using e')) HW.out HLET.out hqb (z1d _) hown8 hgrow8 hat8;clear hown8 hgrow8 hat8 hlt8 b8 k8 z8 HN7 c5 f5;generalize w8.setCell ⟨w.heap.size,5,none⟩ (sZ gg8 (vs.length+1) cap8)=w9 at *
     refine(sis b s 97 122 _ ts w9 L8.sr (by omega) (by decide)).mono ?_;rintro e w10 ⟨rfl,d10,rfl⟩;have HL10:Hid _:=L8.drewN d10;have HM10:Hid (plr b (w9.drewN d10)=vEnd s j):=(L8.drewN d10).sr.plr;clear L8;generalize hbo:isS s 97 122 (.ok (vEnd s j))=bo at *
     have HBO:Hid (isS s 97 122 (.ok (vEnd s j))=bo):=hbo;clear hbo;go_wp21;go_roundw
     case rel=>exact⟨.ok (vEnd s j),_,_,_,by rw[HBO.out],HL10.out⟩
     case measure=>
      rw[HM10.out,HM5.out];have:=zew HLET.out;omega
end Go.Proofs.YtceadeaodbadlaaGreatDoor
namespace Go.Proofs.YtceadeaodbadlaaGreatDoor
open Go.RowKit
variable {ty : Bool}
section
variable {s:ByteArray} {ts:List Tt} {l:List Ty} {b i j n i0 q:Nat} {σ:Sg} {u:Ty} {w:World}
theorem Sr.next (h:Sr ty b s (.ok i) ts w) (hi:i<s.size) (n:Nat):
 Sr ty b s (.ok (i+1)) ts ((w.drewN n).setCell ⟨b,2,none⟩ (.int .i64 ((i:Int)+1)))/\Fr b w ((w.drewN n).setCell ⟨b,2,none⟩ (.int .i64 ((i:Int)+1))):=by
 obtain⟨lv,r0,mv⟩:=h.mv;exact mv (.ok (i+1)) _ (r0.next n) (((Gb.refl b w).drewN n).setCell 2 _) hi
def zqb (b:Nat) (s:ByteArray) (w:World):Nat:=
 if intOf ((w.cell? ⟨b,3,none⟩).getD .nilIface)<0 then 1+(s.size-(intOf ((w.cell? ⟨b,2,none⟩).getD .nilIface)).toNat) else 0
theorem zqu (h:Sr ty b s (.ok i) ts w):zqb b s w=1+(s.size-i):=by
 unfold zqb;rw[h.c3,h.c2];simp[intOf,gBad,gPos]
theorem tmeas_bad {p:Nat} (h:Sr ty b s (.error p) ts w):zqb b s w=0:=by
 unfold zqb;rw[h.c3];exact if_neg (by show ¬((p:Int)<0);omega)
theorem zwz (h:Sr ty b s σ ts w) (hj:∀i,σ=.ok i->j<i) (hs:j<s.size):zqb b s w<1+(s.size-j):=by
 cases σ with
 |error p=>rw[tmeas_bad h];omega
 |ok i=>rw[zqu h];have:=hj i rfl;omega
theorem pe_none (h:zal (chr s i)=false):pe s ty (n+1) 2 i .nil=.error i:=by
 rw[pe,if_neg (by rw[h];decide)]
theorem pe_lit (h:zal (chr s i)=true) (hl:zcs (chr s i)=true):pe s ty (n+1) 2 i .nil=.ok (eN (chr s i) i,i+1):=by
 rw[pe,if_pos h,if_pos hl]
theorem pe_par (h:zal (chr s i)=true) (hc:chr s i=40):pe s ty (n+1) 2 i .nil=match zbt ty s n (.ok (i+1)) with
 | .error p=> .error p
 | .ok (a,j)=>if chr s j=41 then .ok (a,j+1) else .error j:=by
 rw[pe,if_pos h,if_neg (by rw[hc];decide),if_pos hc];rfl
theorem pe_par_pos (h:zal (chr s i)=true) (hc:chr s i=40):posS (pe s ty (n+1) 2 i .nil)=zbg s 41 (posS (zbt ty s n (.ok (i+1)))):=by
 rw[pe_par h hc]
 cases zbt ty s n (.ok (i+1)) with
 |error p=>rfl
 |ok r=>
  obtain⟨a,j⟩:=r;by_cases h1:chr s j=41
  ·simp only[posS,zbg,if_pos h1]
  ·simp only[posS,zbg,if_neg h1]
def zrh (c i:Nat) (g:List Ty):Ex:=if zdi c then eK c i g else eX c i g
theorem pe_name (h:zal (chr s i)=true) (hl:zcs (chr s i)=false) (hc:chr s i≠40):pe s true (n+1) 2 i .nil=if chr s (i+1)=123 then (match pg s (s.size+1) (i+2) [] with
 | .error p=> .error p
 | .ok (g,j)=> .ok (zrh (chr s i) i g,j)) else .ok (zrh (chr s i) i [],i+1):=by
 rw[pe,if_pos h,if_neg (by rw[hl];decide),if_neg hc];simp only[zfg,if_true];by_cases h1:chr s (i+1)=123
 ·rw[if_pos h1,if_pos h1];rfl
 ·rw[if_neg h1,if_neg h1];rfl
theorem pe_nameF (h:zal (chr s i)=true) (hl:zcs (chr s i)=false) (hc:chr s i≠40):pe s false (n+1) 2 i .nil=.ok (zrh (chr s i) i [],i+1):=by
 rw[pe,if_pos h,if_neg (by rw[hl];decide),if_neg hc];simp only[zfg,Bool.false_eq_true,if_false];rfl
def pgA (s:ByteArray) (m j:Nat) (l:List Ty):Except Nat (List Ty×Nat):=if chr s j=44 then pg s m (j+1) l else if chr s j=125 then .ok (l,j+1) else .error j
theorem zpw (s:ByteArray) (m i:Nat) (l:List Ty):pg s (m+1) i l=match pT s i with
 | .error p=> .error p
 | .ok (t,j)=>pgA s m j (l++[t]):=by rw[pg];rfl
def givS (r:Except Nat (List Ty×Nat)):Sg:=match r with
 | .error p=> .error p
 | .ok (_,j)=> .ok j
def GS (s:ByteArray) (i0:Nat) (σ:Sg) (l:List Ty):Prop:=
 (∀p,σ=.error p->pg s (s.size+1) i0 []=.error p)/\∀j,σ=.ok j->∃m,s.size-j<=m/\l.length+i0<=j/\j<=s.size/\pgA s m j l=pg s (s.size+1) i0 []
theorem GS.start (hi:i0<=s.size) (hu:zuq s (.ok i0) u):GS s i0 (zec s (.ok i0)) [u]:=by
 simp only[zec]
 cases hp:pT s i0 with
 |error p=>exact⟨λq e=>by rw[zpw,hp];cases e;rfl,λj e=>by cases e⟩
 |ok r=>
  obtain⟨t,k⟩:=r;have pl:=zdw hp hi;refine⟨λq e=>(by cases e),λj e=>?_⟩
  cases e
  obtain rfl:=hu i0 t k rfl hp;exact⟨s.size,by omega,by simp;omega,pl.2.1,by rw[zpw,hp];rfl⟩
theorem GS.step (h:GS s i0 (.ok j) l) (hc:chr s j=44) (hu:zuq s (.ok (j+1)) u):GS s i0 (zec s (.ok (j+1))) (l++[u]):=by
 have hj:=zag (by rw[hc];decide);obtain⟨m,h1,h2,h3,h4⟩:=h.2 j rfl;obtain⟨m,rfl⟩:∃m',m=m'+1:=⟨m-1,by omega⟩
 rw[pgA,if_pos hc,zpw] at h4;simp only[zec]
 cases hp:pT s (j+1) with
 |error p=>exact⟨λq e=>by rw[hp] at h4;cases e;exact h4.symm,λj e=>by cases e⟩
 |ok r=>
  obtain⟨t,k⟩:=r;have pl:=zdw hp hj;refine⟨λq e=>(by cases e),λj' e=>?_⟩
  cases e
  obtain rfl:=hu (j+1) t k rfl hp;rw[hp] at h4;exact⟨m,by omega,by simp;omega,pl.2.1,h4⟩
theorem GS.stop (h:GS s i0 σ l) (hc:isS s 44 44 σ=false):zbg s 125 σ=givS (pg s (s.size+1) i0 [])/\∀g k,pg s (s.size+1) i0 []=.ok (g,k)->g=l:=by
 cases σ with
 |error p=>rw[h.1 p rfl];exact⟨rfl,λg k e=>by cases e⟩
 |ok j=>
  obtain⟨m,h1,h2,h3,h4⟩:=h.2 j rfl;have hn:chr s j≠44:=λe=>by rw[show isS s 44 44 (.ok j)=true from inS.2 e] at hc;cases hc
  rw[pgA,if_neg hn] at h4;rw[<-h4];simp only[zbg];by_cases h5:chr s j=125
  ·rw[if_pos h5,if_pos h5];exact⟨rfl,λg k e=>by cases e;rfl⟩
  ·rw[if_neg h5,if_neg h5];exact⟨rfl,λg k e=>by cases e⟩
structure LT (b q:Nat) (s:ByteArray) (c i:Nat) (ts:List Tt) (w:World) (σ:Sg) (hs:List (Ty×Nat×Nat)) (G:Option Addr×Nat×Nat) (wr:World):Prop where
 sr:Sr true b s σ ts wr
 bt:Bt q ⟨120,c,0,0,G,(none,0,0),(none,0,0),i,0⟩ wr
 rn:zay b wr≠some q
 fr:Fr b w wr
 gr:Gr w.heap.size wr G hs
theorem Gr.ne {B:Nat} {G:Option Addr×Nat×Nat} {hs:List (Ty×Nat×Nat)} (h:Gr B w G hs) {t:Tt} (hB:Bt q t w):(slV G).ownBlock≠some q:=λe=>by
 obtain⟨cur,hc,_⟩:=zjo h.1 e;exact hB.ne hc (by decide) rfl
theorem LT.more {c:Nat} {wr w5:World} {g4 cap4 gg cap:Nat} {o:Obj} {hs:List (Ty×Nat×Nat)} {G:Option Addr×Nat×Nat} (h:LT b q s c i ts w σ hs G wr) (R:Rg g4 u wr) (hqb:q≠b) (hwq:w.heap.size<=q) (hown:w5.ownsRow w.heap.size 33 1 (sZ gg (hs.length+1) cap) (hs.length+1) (hs.map zlr++[zlr (u,g4,cap4)])) (hg:(wr.alloc o).grownBy w5 (slV G).ownBlock):
 LT b q s c i ts w σ (hs++[(u,g4,cap4)]) (some ⟨gg,0,none⟩,hs.length+1,cap) (w5.setCell ⟨q,4,none⟩ (sZ gg (hs.length+1) cap)):=by
 have g15:wr.grownBy w5 (slV G).ownBlock:=(z1p wr o _).trans hg
 have hrow:∀g,(slV G).ownBlock=some g->g≠b/\zay b wr≠some g/\w.heap.size<=g:=λg e=>by
  obtain⟨cur,hc,hB⟩:=zjo h.gr.1 e;have:=h.sr.apartT hc (by decide) (by decide);exact⟨this.1,this.2,hB⟩
 obtain⟨s5,f5⟩:=h.sr.grown h.fr g15 hrow
 have hrow5:zay b w5=zay b wr:=by
  obtain⟨_,lv,h0,_⟩:=h.sr;have hb:=g15.block b h0.lt (λe=>(hrow b e.symm).1 rfl);unfold zay;rw[z1s (w:=wr) (w':=w5) (a:=⟨b,4,none⟩) hb]
 have r5:zay b w5≠some q:=by rw[hrow5];exact h.rn
 have b5:=h.bt.grown g15 (h.gr.ne h.bt);have K:=b5.keepC 4 (sZ gg (hs.length+1) cap);exact⟨s5.setFar hqb r5,b5.setG _ _ _,zbw hqb r5,f5.setNew' hqb hwq,K.gr (Gr.app h.gr R hown hg)⟩
end
section
variable (b:Nat) (s:ByteArray) (n i:Nat) (ts:List Tt) (w:World)
theorem zna {s:ByteArray} {i:Nat} (h:i<s.size):s[i].toNat=chr s i:=by simp[chr,h]
theorem tat_none (h:Sr ty b s (.ok i) ts w) (hs:s.size<=60000) (hl:ts.length+xB s (.ok i)<=300000) (HB:Hid (zal (chr s i)=false)):
 CZ 76 #[pZ b] w (XPost ty b s (pe s ty (n+1) 2 i .nil) (.ok i) ts w):=by
 have HR:Hid (pe s ty (n+1) 2 i .nil=.error i):=pe_none HB.out;have HL:=hid hl;have hl1:ts.length<=1000000:=by simp only[xB] at hl;omega
 clear hl;go_enter Tryz.func76,Tryz.ntmps76;go_wp21;refine(zfk b s _ ts w h (by omega)).mono ?_;rintro e w1 ⟨rfl,d1,rfl⟩;rw[show ziz s (.ok i)=false from HB.out];go_wp21;refine(sfail b s i ts _ (h.drewN d1)).mono ?_;rintro e w2 ⟨rfl,h2,k2⟩;have F2:=k2.undrew;go_wp21;refine(tadd b s _ ts _ 48 48 0 0 none none none 0 0 0 0 0 0 0 0 h2 hl1).mono ?_;rintro e w3 ⟨rfl,h3,k3⟩;go_wp21;go_ret;refine⟨F2.trans k3,ts.length,[t0 48 48 0 0 0 0],rfl,?_,by simp[xB],?_⟩
 ·rw[HR.out];exact h3
 ·intro x j e;rw[HR.out] at e;cases e
theorem tat_par (h:Sr ty b s (.ok i) ts w) (hs:s.size<=60000) (hl:ts.length+xB s (.ok i)<=300000) (ih:zme ty b s n) (hn:3*(s.size-i)+1<=n+1) (HB:Hid (zal (chr s i)=true)) (H40:Hid (chr s i=40)):
 CZ 76 #[pZ b] w (XPost ty b s (pe s ty (n+1) 2 i .nil) (.ok i) ts w):=by
 have HP:Hid _:=pe_par (ty:=ty) (n:=n) HB.out H40.out;have HQ:Hid _:=pe_par_pos (ty:=ty) (n:=n) HB.out H40.out;have HL:=hid hl;have IH:=hid ih;have hi1:i<s.size:=zag (by rw[H40.out];decide);clear hl ih;go_enter Tryz.func76,Tryz.ntmps76;go_wp21;refine(zfk b s _ ts w h (by omega)).mono ?_;rintro e w1 ⟨rfl,d1,rfl⟩;rw[show ziz s (.ok i)=true from HB.out];go_wp21;refine(sgot b s 40 _ ts _ (h.drewN d1) (by omega) (by decide)).mono ?_;rintro e w2 ⟨rfl,h2,k2⟩;have F2:=k2.undrew;rw[show isS s 40 40 (.ok i)=true from inS.2 H40.out];rw[show gotS s 40 (.ok i)=.ok (i+1) from if_pos H40.out] at h2;clear k2;go_wp21;have HFU:Hid (∀j,(Except.ok (i+1):Sg)=.ok j->3*(s.size-j)+2<=n):=by intro j hj;cases hj;omega
 have HLN:Hid (ts.length+xB s (.ok (i+1))<=300000):=by have:=HL.out;unfold Hid;simp only[xB] at *;omega
 refine(IH (.ok (i+1)) ts w2 h2 HFU HLN).mono ?_;rintro e w3 ⟨k3,k,us,rfl,h3,hu,hx⟩;have F3:=F2.trans k3;have HX:=hid hx;have HU:=hid hu;clear k3 F2 h2 hx hu;go_wp21;refine(zne b s 41 _ (ts++us) w3 h3 (by omega) (by decide)).mono ?_;rintro e w4 ⟨rfl,h4,k4⟩;have HS4:Hid (∀x j,Sd w3 (ts++us) x j->Sd w4 (ts++us) x j):=λx j S=>S.fr h3 k4
 have HR4:=hid h4;have HF4:Hid (Fr b w w4):=F3.trans k4;clear h3 h4 k4 F3;go_wp21;go_ret;refine⟨HF4.out,k,us,rfl,by rw[HQ.out];exact HR4.out,by have:=HU.out;simp only[xB] at *;omega,?_⟩;intro x j e;rw[HP.out] at e
 cases hq:zbt ty s n (.ok (i+1)) with
 |error p=>rw[hq] at e;cases e
 |ok r=>
  obtain⟨a,j1⟩:=r;rw[hq] at e;simp only at e;split at e
  ·cases e
   obtain⟨x1,x2,x3⟩:=HX x j1 hq;simp only[gPos] at *
   exact⟨x1,by omega,HS4.out _ _ x3⟩
  ·cases e
theorem tat_digit (h:Sr ty b s (.ok i) ts w) (hs:s.size<=60000) (hl:ts.length+xB s (.ok i)<=300000) (HB:Hid (zal (chr s i)=true)) (H40:Hid (chr s i≠40)) (hL:48<=chr s i/\chr s i<=57):
 CZ 76 #[pZ b] w (XPost ty b s (pe s ty (n+1) 2 i .nil) (.ok i) ts w):=by
 have HR:Hid (pe s ty (n+1) 2 i .nil=.ok (eN (chr s i) i,i+1)):=pe_lit HB.out (by simp[zcs];omega);have HL:Hid (ts.length+xB s (.ok i)<=300000):=hl;have hl1:ts.length<=1000000:=by simp only[xB] at hl;omega
 have hi1:i<s.size:=zag (zdg HB.out);clear hl;go_enter Tryz.func76,Tryz.ntmps76;go_wp21;refine(zfk b s _ ts w h (by omega)).mono ?_;rintro e w1 ⟨rfl,d1,rfl⟩;rw[show ziz s (.ok i)=true from HB.out];go_wp21;refine(sgot b s 40 _ ts _ (h.drewN d1) (by omega) (by decide)).mono ?_;rintro e w2 ⟨rfl,h2,k2⟩;have F2:Fr b w w2:=k2.undrew;rw[show isS s 40 40 (.ok i)=false from zdy H40.out];rw[show gotS s 40 (.ok i)=.ok i from if_neg H40.out] at h2;clear k2;have hcs:s[i].toNat=chr s i:=zna hi1;generalize chr s i=c at *
 have c0:=h2.c0;have c2:cZ w2 b 2 (iZ i):=h2.c2;have f2:=h2.fz 2;have d1':decide ((48:Int)<=(c:Int))=true:=by simp;omega
 have d2':decide ((c:Int)<=57)=true:=by simp;omega
 clear hL;go_wp21
 go_quiet (fail)
 obtain⟨h3,k3⟩:=h2.next hi1 nq;have F3:=F2.trans k3;clear F2 k3;go_wp21;refine(tadd b s _ ts _ 48 c 0 0 none none none 0 0 0 0 0 0 i 0 h3 hl1).mono ?_;rintro e w4 ⟨rfl,h4,k4⟩;go_wp21;go_ret;refine⟨F3.trans k4,ts.length,[t0 48 c 0 0 i 0],rfl,?_,by simp[xB],?_⟩
 ·rw[HR.out];exact h4
 ·intro x j e
  rw[HR.out] at e
  cases e
  exact⟨by simp,by simp[gPos],t0 48 c 0 0 i 0,by simp,.inr (.inl ⟨rfl,rfl,rfl⟩)⟩
theorem tat_84 (h:Sr ty b s (.ok i) ts w) (hs:s.size<=60000) (hl:ts.length+xB s (.ok i)<=300000) (HB:Hid (zal (chr s i)=true)) (H40:Hid (chr s i≠40)) (hL:chr s i=84):
 CZ 76 #[pZ b] w (XPost ty b s (pe s ty (n+1) 2 i .nil) (.ok i) ts w):=by
 have HR:Hid (pe s ty (n+1) 2 i .nil=.ok (eN (chr s i) i,i+1)):=pe_lit HB.out (by rw[hL];decide);have HL:Hid (ts.length+xB s (.ok i)<=300000):=hl;have hl1:ts.length<=1000000:=by simp only[xB] at hl;omega
 have hi1:i<s.size:=zag (zdg HB.out);clear hl;go_enter Tryz.func76,Tryz.ntmps76;go_wp21;refine(zfk b s _ ts w h (by omega)).mono ?_;rintro e w1 ⟨rfl,d1,rfl⟩;rw[show ziz s (.ok i)=true from HB.out];go_wp21;refine(sgot b s 40 _ ts _ (h.drewN d1) (by omega) (by decide)).mono ?_;rintro e w2 ⟨rfl,h2,k2⟩;have F2:Fr b w w2:=k2.undrew;rw[show isS s 40 40 (.ok i)=false from zdy H40.out];rw[show gotS s 40 (.ok i)=.ok i from if_neg H40.out] at h2;clear k2;have hcs:s[i].toNat=chr s i:=zna hi1;generalize chr s i=c at *
 have c0:=h2.c0;have c2:cZ w2 b 2 (iZ i):=h2.c2;have f2:=h2.fz 2;subst hL;go_wp21
 go_quiet (fail)
 obtain⟨h3,k3⟩:=h2.next hi1 nq;have F3:=F2.trans k3;clear F2 k3;go_wp21;refine(tadd b s _ ts _ 48 84 0 0 none none none 0 0 0 0 0 0 i 0 h3 hl1).mono ?_;rintro e w4 ⟨rfl,h4,k4⟩;go_wp21;go_ret;refine⟨F3.trans k4,ts.length,[t0 48 84 0 0 i 0],rfl,?_,by simp[xB],?_⟩
 ·rw[HR.out];exact h4
 ·intro x j e
  rw[HR.out] at e
  cases e
  exact⟨by simp,by simp[gPos],t0 48 84 0 0 i 0,by simp,.inr (.inl ⟨rfl,rfl,rfl⟩)⟩
theorem tat_70 (h:Sr ty b s (.ok i) ts w) (hs:s.size<=60000) (hl:ts.length+xB s (.ok i)<=300000) (HB:Hid (zal (chr s i)=true)) (H40:Hid (chr s i≠40)) (hL:chr s i=70):
 CZ 76 #[pZ b] w (XPost ty b s (pe s ty (n+1) 2 i .nil) (.ok i) ts w):=by
 have HR:Hid (pe s ty (n+1) 2 i .nil=.ok (eN (chr s i) i,i+1)):=pe_lit HB.out (by rw[hL];decide);have HL:Hid (ts.length+xB s (.ok i)<=300000):=hl;have hl1:ts.length<=1000000:=by simp only[xB] at hl;omega
 have hi1:i<s.size:=zag (zdg HB.out);clear hl;go_enter Tryz.func76,Tryz.ntmps76;go_wp21;refine(zfk b s _ ts w h (by omega)).mono ?_;rintro e w1 ⟨rfl,d1,rfl⟩;rw[show ziz s (.ok i)=true from HB.out];go_wp21;refine(sgot b s 40 _ ts _ (h.drewN d1) (by omega) (by decide)).mono ?_;rintro e w2 ⟨rfl,h2,k2⟩;have F2:Fr b w w2:=k2.undrew;rw[show isS s 40 40 (.ok i)=false from zdy H40.out];rw[show gotS s 40 (.ok i)=.ok i from if_neg H40.out] at h2;clear k2;have hcs:s[i].toNat=chr s i:=zna hi1;generalize chr s i=c at *
 have c0:=h2.c0;have c2:cZ w2 b 2 (iZ i):=h2.c2;have f2:=h2.fz 2;subst hL;go_wp21
 go_quiet (fail)
 obtain⟨h3,k3⟩:=h2.next hi1 nq;have F3:=F2.trans k3;clear F2 k3;go_wp21;refine(tadd b s _ ts _ 48 70 0 0 none none none 0 0 0 0 0 0 i 0 h3 hl1).mono ?_;rintro e w4 ⟨rfl,h4,k4⟩;go_wp21;go_ret;refine⟨F3.trans k4,ts.length,[t0 48 70 0 0 i 0],rfl,?_,by simp[xB],?_⟩
 ·rw[HR.out];exact h4
 ·intro x j e
  rw[HR.out] at e
  cases e
  exact⟨by simp,by simp[gPos],t0 48 70 0 0 i 0,by simp,.inr (.inl ⟨rfl,rfl,rfl⟩)⟩
end
end Go.Proofs.YtceadeaodbadlaaGreatDoor
namespace Go.Proofs.YtceadeaodbadlaaGreatDoor
open Go.RowKit
section
variable {c:Nat} (b:Nat) (s:ByteArray) (n i:Nat) (ts:List Tt) (w:World)
theorem twi_f (h:Sr false b s (.ok (i+1)) ts w) (hi:i<s.size) (hs:s.size<=60000) (ih:zme false b s n) (hn:3*(s.size-i)+2<=n+1) (hc:chr s i=64) (hl:ts.length+xB s (.ok i)<=300000):
 CZ 75 #[pZ b,iZ i] w (XPost false b s (pe s false (n+1) 0 i .nil) (.ok i) ts w):=by
 have HPE:Hid _:=pe_wiF2 s n i hc;have IH:=hid ih;have hlt:=h.lt;have hqb:w.heap.size≠b:=by omega
 have B0:Bt w.heap.size (t0 64 0 0 0 i 0) (w.alloc (tO 64 0 0 0 i 0)):=z1v w _;have F0:Fr b w (w.alloc (tO 64 0 0 0 i 0)):=(Fr.refl b w).alloc hlt _;have r0:=h.rowNew (tO 64 0 0 0 i 0);have h0:=h.alloc (tO 64 0 0 0 i 0);have HL:=hid hl;clear hc ih hl;go_enter Tryz.func75,Tryz.ntmps75;go_wp21;refine(zqa b s _ ts _ h0 (by omega)).mono ?_;rintro e w1 ⟨rfl,h1,k1⟩;have B1:=Bt.fr B0 k1 hqb r0;have r1:=k1.rowNe' r0 (by simp);have F1:=F0.trans k1;clear B0 F0 r0 h0 k1;generalize hcc:letC s (.ok (i+1))=c at *
 have HCC:=hid hcc;clear hcc;have c1:=B1.c 1;have f1:=B1.fz 1;have B2:=B1.setC c;have h2:Sr false b s (letS s (.ok (i+1))) ts (w1.setCell ⟨w.heap.size,1,none⟩ (uZ c)):=h1.setFar hqb r1;have r2:zay b (w1.setCell ⟨w.heap.size,1,none⟩ (uZ c))≠some w.heap.size:=zbw hqb r1;have F2:Fr b w (w1.setCell ⟨w.heap.size,1,none⟩ (uZ c)):=F1.setNew' hqb (z1d _);have t2:=h2.c1;clear B1 r1 F1 h1;go_wp21;generalize w1.setCell ⟨w.heap.size,1,none⟩ (uZ c)=w2 at *
 refine(zne b s 61 _ ts w2 h2 (by omega) (by decide)).mono ?_;rintro e w7 ⟨rfl,h7,k7⟩;have B7:=Bt.fr B2 k7 hqb r2;have r7:=k7.rowNe' r2 B2.lt;have F7:=F2.trans k7;have HW7:Hid (zbg s 61 (letS s (.ok (i+1)))=wiF s i):=rfl;rw[HW7.out] at h7;clear B2 r2 F2 h2 k7;have HFU:Hid (∀j,wiF s i=.ok j->3*(s.size-j)+2<=n):=by intro j hj;have:=zmf hj;omega
 have HLN:Hid (ts.length+xB s (wiF s i)<=300000):=by have:=HL.out;have:=zwj hi (λk=>zmf);unfold Hid;omega
 go_wp21;refine(IH (wiF s i) ts w7 h7 HFU HLN).mono ?_;rintro e w8 ⟨k8,ka,us,rfl,h8,hu,hx⟩;have B8:=Bt.fr B7 k8 hqb r7;have r8:=k8.rowNe' r7 B7.lt;have F8:=F7.trans k8;have HX:=hid hx;have HU:=hid hu;clear B7 r7 F7 h7 k8 hx hu HFU HLN;have c8:=B8.c 2;have f8:=B8.fz 2;have K9:=B8.keepC 2 (iZ ka);have B9:=B8.setA ka;have HK9:=hid K9;have h9:Sr false b s _ (ts++us) (w8.setCell ⟨w.heap.size,2,none⟩ (iZ ka)):=h8.setFar hqb r8;have r9:zay b (w8.setCell ⟨w.heap.size,2,none⟩ (iZ ka))≠some w.heap.size:=zbw hqb r8;have F9:Fr b w (w8.setCell ⟨w.heap.size,2,none⟩ (iZ ka)):=F8.setNew' hqb (z1d _);clear B8 r8 F8 h8 K9;go_wp21;have HS9:Hid (∀x j,Sd w8 (ts++us) x j->Sd (w8.setCell ⟨w.heap.size,2,none⟩ (iZ ka)) (ts++us) x j):=λx j S=>HK9.out.sd S
 clear HK9;generalize w8.setCell ⟨w.heap.size,2,none⟩ (iZ ka)=w9 at *
 refine(zne b s 59 _ (ts++us) w9 h9 (by omega) (by decide)).mono ?_;rintro e w10 ⟨rfl,h10,k10⟩;have B10:=Bt.fr B9 k10 hqb r9;have r10:=k10.rowNe' r9 B9.lt;have F10:=F9.trans k10;have HS10:Hid (∀x j,Sd w8 (ts++us) x j->Sd w10 (ts++us) x j):=λx j S=>(HS9.out x j S).fr h9 k10
 have HU2:Hid (us.length+xB s (wi2 false s n (wiF s i))+1<=xB s (.ok i)):=wi_len2 hi (λk=>zmf) HU.out (λa k e=>(HX.out a k e).2.1);clear B9 r9 F9 h9 k10 HS9 c8 f8;have HFU:Hid (∀j,wi2 false s n (wiF s i)=.ok j->3*(s.size-j)+2<=n):=by intro j hj;obtain⟨a,q,g1,g2,g3,g4,g5,g6⟩:=zwx (λk=>zmf) hj;omega
 have HLN:Hid ((ts++us).length+xB s (wi2 false s n (wiF s i))<=300000):=by have:=HL.out;have:=HU2.out;unfold Hid;simp;omega
 go_wp21;refine(IH (wi2 false s n (wiF s i)) (ts++us) w10 h10 HFU HLN).mono ?_;rintro e w11 ⟨k11,kb,us',rfl,h11,hu',hx'⟩;have B11:=Bt.fr B10 k11 hqb r10;have r11:=k11.rowNe' r10 B10.lt;have F11:=F10.trans k11;have HS11:Hid (∀x j,Sd w8 (ts++us) x j->Sd w11 (ts++us) x j):=λx j S=>(HS10.out x j S).fr h10 k11
 have HX':=hid hx';have HU':=hid hu';clear B10 r10 F10 h10 k11 hx' hu' HFU HLN HS10;have c11:=B11.c 3;have f11:=B11.fz 3;have K12:=B11.keepC 3 (iZ kb);have B12:=B11.setB kb;have HS12:Hid (∀us x j,Sd w11 us x j->Sd (w11.setCell ⟨w.heap.size,3,none⟩ (iZ kb)) us x j):=λus x j S=>K12.sd S
 have h12:Sr false b s _ (ts++us++us') (w11.setCell ⟨w.heap.size,3,none⟩ (iZ kb)):=h11.setFar hqb r11;have F12:Fr b w (w11.setCell ⟨w.heap.size,3,none⟩ (iZ kb)):=F11.setNew' hqb (z1d _);obtain⟨d0,d1,d2,d3,d4,d5,d6,d7,d8⟩:=B12.all;have HLU:Hid ((ts++us++us').length<=1000000):=by have:=HL.out;have:=HU2.out;have:=HU'.out;unfold Hid;simp;omega
 clear B11 B12 r11 F11 h11 K12;go_wp21;refine(tadd b s _ (ts++us++us') _ 64 c ka kb none none none 0 0 0 0 0 0 i 0 h12 HLU).mono ?_;rintro e w13 ⟨rfl,h13,k13⟩;clear d0 d1 d2 d3 d4 d5 d6 d7 d8 c11 f11;have HS13:Hid (∀us x j,Sd w11 us x j->Sd w13 us x j):=λus x j S=>(HS12.out us x j S).fr h12 k13
 have HF13:Hid (Fr b w w13):=F12.trans k13;have HR13:=hid h13;clear h12 h13 F12 k13 HS12;generalize hll:(ts++us++us').length=ll at *
 have HLL:=hid hll;clear hll;go_wp21;go_ret;refine⟨HF13,ll,us++us'++[⟨64,c,ka,kb,(none,0,0),(none,0,0),(none,0,0),i,0⟩],rfl,?_,?_,?_⟩
 ·rw[HPE.out]
  have:=HR13.out;rw[<-z1u,<-z1u]
  cases hq:zbt false s n (wi2 false s n (wiF s i)) with
  |error p=>rw[hq] at this;exact this
  |ok r=>
   obtain⟨a,j⟩:=r;rw[hq] at this
   cases hq1:zbt false s n (wiF s i) with
   |error p=>
    exfalso;unfold wi2 at hq;rw[hq1] at hq
    cases hq
   |ok r1=>obtain⟨a1,j1⟩:=r1;exact this
 ·have:=HU2.out
  have:=HU'.out;simp;omega
 ·intro x j hr
  rw[HPE.out] at hr
  cases hq:zbt false s n (wi2 false s n (wiF s i)) with
  |error p=>rw[hq] at hr;cases hr
  |ok r=>
   obtain⟨bb,j'⟩:=r;rw[hq] at hr
   cases hq1:zbt false s n (wiF s i) with
   |error p=>rw[hq1] at hr;cases hr
   |ok r1=>
    obtain⟨a1,j1⟩:=r1;rw[hq1] at hr
    cases hr
    obtain⟨x1,x2,x3⟩:=HX a1 j1 hq1;obtain⟨y1,y2,y3⟩:=HX' bb j hq;have hll:=HLL.out;have h3:=wi_len3 (λk=>zmf) (λa k e=>(HX.out a k e).2.1) hq y2;refine⟨by simp at hll ⊢;omega,by simp[gPos];omega,?_⟩;rw[<-z1u,<-z1u];refine⟨⟨64,c,ka,kb,(none,0,0),(none,0,0),(none,0,0),i,0⟩,by rw[<-hll];simp,.inr (.inr (.inr (.inl ⟨rfl,rfl,⟨rfl,z1d _⟩,⟨none,0,rfl,.inl rfl⟩,⟨none,0,rfl,.inl rfl⟩,(by show ka<ll;simp at hll x1;omega),(by show kb<ll;simp at hll y1;omega),((HS13.out _ _ _ ((HS11.out _ _ x3).more us'))).more _,(HS13.out _ _ _ y3).more _⟩)))⟩
theorem tfn_f (h:Sr false b s (.ok (i+1)) ts w) (hi:i<s.size) (hs:s.size<=60000) (ih:zme false b s n) (hn:3*(s.size-i)+2<=n+1) (hc:chr s i=92) (hl:ts.length+xB s (.ok i)<=300000):
 CZ 74 #[pZ b,iZ i] w (XPost false b s (pe s false (n+1) 0 i .nil) (.ok i) ts w):=by
 have HPE:Hid _:=pe_fnF s n i hc;have HC:=hid hc;have IH:=hid ih;have hlt:=h.lt;have hqb:w.heap.size≠b:=by omega
 have B0:Bt w.heap.size (t0 92 0 0 0 i 0) (w.alloc (tO 92 0 0 0 i 0)):=z1v w _;have F0:Fr b w (w.alloc (tO 92 0 0 0 i 0)):=(Fr.refl b w).alloc hlt _;have r0:=h.rowNew (tO 92 0 0 0 i 0);have h0:=h.alloc (tO 92 0 0 0 i 0);have HL:=hid hl;clear hc ih hl;go_enter Tryz.func74,Tryz.ntmps74;go_wp21;refine(zqa b s _ ts _ h0 (by omega)).mono ?_;rintro e w1 ⟨rfl,h1,k1⟩;have B1:=Bt.fr B0 k1 hqb r0;have r1:=k1.rowNe' r0 (by simp);have F1:=F0.trans k1;clear B0 F0 r0 h0 k1;generalize hcc:letC s (.ok (i+1))=c at *
 have HCC:=hid hcc;clear hcc;have c1:=B1.c 1;have f1:=B1.fz 1;have B2:=B1.setC c;have h2:Sr false b s (letS s (.ok (i+1))) ts (w1.setCell ⟨w.heap.size,1,none⟩ (uZ c)):=h1.setFar hqb r1;have r2:zay b (w1.setCell ⟨w.heap.size,1,none⟩ (uZ c))≠some w.heap.size:=zbw hqb r1;have F2:Fr b w (w1.setCell ⟨w.heap.size,1,none⟩ (uZ c)):=F1.setNew' hqb (z1d _);have t2:=h2.c1;clear B1 r1 F1 h1;go_wp21;generalize w1.setCell ⟨w.heap.size,1,none⟩ (uZ c)=w2 at *
 refine(zne b s 46 _ ts w2 h2 (by omega) (by decide)).mono ?_;rintro e w7 ⟨rfl,h7,k7⟩;have B7:=Bt.fr B2 k7 hqb r2;have r7:=k7.rowNe' r2 B2.lt;have F7:=F2.trans k7;clear B2 r2 F2 h2 k7;have HF7:Hid (zbg s 46 (letS s (.ok (i+1)))=fnF s i):=rfl;rw[HF7.out] at h7;go_wp21;have HFU:Hid (∀j,fnF s i=.ok j->3*(s.size-j)+2<=n):=by intro j hj;have:=zls hj;omega
 have HLN:Hid (ts.length+xB s (fnF s i)<=300000):=by
  have:=HL.out;unfold Hid
  cases hj:fnF s i with
  |error p=>simp only[xB] at *;omega
  |ok j=>have:=zls hj;simp only[xB] at *;omega
 refine(IH (fnF s i) ts w7 h7 HFU HLN).mono ?_;rintro e w8 ⟨k8,k,us,rfl,h8,hu,hx⟩;have B8:=Bt.fr B7 k8 hqb r7;have r8:=k8.rowNe' r7 B7.lt;have F8:=F7.trans k8;have HX:=hid hx;have HU:=hid hu;clear B7 r7 F7 h7 k8 hx hu;have c8:=B8.c 2;have f8:=B8.fz 2;have K9:=B8.keepC 2 (iZ k);have B9:=B8.setA k;have HK9:=hid K9;have h9:Sr false b s _ (ts++us) (w8.setCell ⟨w.heap.size,2,none⟩ (iZ k)):=h8.setFar hqb r8;have F9:Fr b w (w8.setCell ⟨w.heap.size,2,none⟩ (iZ k)):=F8.setNew' hqb (z1d _);obtain⟨d0,d1,d2,d3,d4,d5,d6,d7,d8⟩:=B9.all
 have HLU:Hid ((ts++us).length<=1000000):=by
  have:=HL.out;have:=HU.out;unfold Hid;simp
  cases hj:fnF s i with
  |error p=>rw[hj] at this;simp only[xB] at *;omega
  |ok j=>rw[hj] at this;have:=zls hj;simp only[xB] at *;omega
 clear B8 B9 r8 F8 h8 K9;go_wp21;refine(tadd b s _ (ts++us) _ 92 c k 0 none none none 0 0 0 0 0 0 i 0 h9 HLU).mono ?_;rintro e w10 ⟨rfl,h10,k10⟩;clear d0 d1 d2 d3 d4 d5 d6 d7 d8 c8 f8;have HS10:Hid (∀x j,Sd w8 (ts++us) x j->Sd w10 (ts++us) x j):=λx j S=>(HK9.out.sd S).fr h9 k10
 have HF10:Hid (Fr b w w10):=F9.trans k10;have HR10:=hid h10;clear h9 h10 F9 k10 HK9;generalize hll:(ts++us).length=ll at *
 have HLL:=hid hll;clear hll;go_wp21;go_ret;refine⟨HF10,ll,us++[⟨92,c,k,0,(none,0,0),(none,0,0),(none,0,0),i,0⟩],rfl,?_,?_,?_⟩
 ·rw[HPE.out]
  have:=HR10.out;rw[z1u] at this
  cases hq:zbt false s n (fnF s i) with
  |error p=>rw[hq] at this;exact this
  |ok r=>obtain⟨a,j⟩:=r;rw[hq] at this;exact this
 ·have h1:=HU.out
  simp
  cases hj:fnF s i with
  |error p=>rw[hj] at h1;simp only[xB] at *;omega
  |ok j=>rw[hj] at h1;have:=zls hj;simp only[xB] at *;omega
 ·intro x j hr
  rw[HPE.out] at hr
  cases hq:zbt false s n (fnF s i) with
  |error p=>rw[hq] at hr;cases hr
  |ok r=>
   obtain⟨a,j'⟩:=r;rw[hq] at hr
   cases hr
   obtain⟨x1,x2,x3⟩:=HX a j hq
   cases hj:fnF s i with
   |error p=>rw[hj] at hq;cases hq
   |ok q=>
    rw[hj] at x2;obtain⟨p1,p2⟩:=zls hj
    have hpl:q<=j:=by
     rw[hj] at hq;have:=(zas s false _ _ _ _ _ _ hq (by omega) (by omega)).1;omega
    have hll:=HLL.out;simp only[gPos] at *
    refine⟨by simp at hll ⊢;omega,by simp;omega,?_⟩;rw[<-z1u];refine⟨⟨92,c,k,0,(none,0,0),(none,0,0),(none,0,0),i,0⟩,by rw[<-hll];simp,.inr (.inr (.inl ⟨rfl,rfl,rfl,rfl,⟨none,0,rfl,.inl rfl⟩,(by show k<ll;omega),(HS10.out a k x3).more _⟩))⟩
abbrev nO (c i:Nat):Obj:=.cells #[.int .u8 120,uZ c,.int .i64 0,.int .i64 0,.slice none 0 0,.slice none 0 0,.slice none 0 0,iZ i,.int .i64 0] 76
theorem gotS_no {s:ByteArray} {σ:Sg} (h:isS s c c σ=false):gotS s c σ=σ:=by
 cases σ with
 |error p=>rfl
 |ok i=>exact if_neg (λe=>by rw[show isS s c c (.ok i)=true from inS.2 e] at h;cases h)
theorem Gr.drew {B:Nat} {w:World} {G:Option Addr×Nat×Nat} {hs:List (Ty×Nat×Nat)} (h:Gr B w G hs):Gr B w.drew G hs:=⟨h.1,h.2.1,λx hx=>Rg.drew (h.2.2 x hx)⟩
theorem zvc {w:World} {ts:List Tt} {i:Nat} {g:List Ty} {G:Option Addr×Nat×Nat} (h:Ls w (slV G) g):Sd w (ts++[⟨120,c,0,0,G,(none,0,0),(none,0,0),i,0⟩]) (zrh c i g) ts.length:=by
 unfold zrh;split
 ·exact⟨⟨120,c,0,0,G,(none,0,0),(none,0,0),i,0⟩,by simp,.inl ⟨by decide,rfl,rfl,rfl,h⟩⟩
 ·exact⟨⟨120,c,0,0,G,(none,0,0),(none,0,0),i,0⟩,by simp,.inl ⟨by decide,rfl,rfl,rfl,h⟩⟩
theorem tat_f (h:Sr false b s (.ok i) ts w) (hs:s.size<=60000) (hl:ts.length+xB s (.ok i)<=300000) (HB:Hid (zal (chr s i)=true)) (H40:Hid (chr s i≠40)) (HI:Hid (zcs (chr s i)=false)) (hL:65<=chr s i) (h84:chr s i≠84) (h70:chr s i≠70):
 CZ 76 #[pZ b] w (XPost false b s (pe s false (n+1) 2 i .nil) (.ok i) ts w):=by
 have HR:Hid (pe s false (n+1) 2 i .nil=.ok (zrh (chr s i) i [],i+1)):=pe_nameF HB.out HI.out H40.out;have hi1:i<s.size:=zag (zdg HB.out);have hl1:ts.length<=1000000:=by simp only[xB] at hl;omega
 have hlt:=h.lt;clear hl;go_enter Tryz.func76,Tryz.ntmps76;go_wp21;refine(zfk b s _ ts w h (by omega)).mono ?_;rintro e w1 ⟨rfl,d1,rfl⟩;rw[show ziz s (.ok i)=true from HB.out];go_wp21;refine(sgot b s 40 _ ts _ (h.drewN d1) (by omega) (by decide)).mono ?_;rintro e w2 ⟨rfl,h2,k2⟩;have F2:Fr b w w2:=k2.undrew;rw[show isS s 40 40 (.ok i)=false from zdy H40.out];rw[show gotS s 40 (.ok i)=.ok i from if_neg H40.out] at h2;clear k2;have hcs:s[i].toNat=chr s i:=zna hi1;have HCL:Hid (65<=chr s i/\chr s i≠84/\chr s i≠70):=⟨hL,h84,h70⟩
 clear hL h84 h70;generalize hcg:chr s i=c at *
 have HCG:Hid (chr s i=c):=hcg;clear hcg;have c0:=h2.c0;have c2:cZ w2 b 2 (iZ i):=h2.c2;have f2:=h2.fz 2;obtain⟨hL,h84,h70⟩:=HCL;have d1':decide ((48:Int)<=(c:Int))=true:=by simp;omega
 have d2':decide ((c:Int)<=57)=false:=by simp;omega
 have d3':((c:Int)==84)=false:=by rw[beq_eq_false_iff_ne];omega
 have d4':((c:Int)==70)=false:=by rw[beq_eq_false_iff_ne];omega
 clear hL h84 h70;go_wp21
 go_quiet (fail)
 obtain⟨h3,k3⟩:=h2.next hi1 nq;have F3:=F2.trans k3;clear F2 k3;have lz:((w2.drewN nq).setCell ⟨b,2,none⟩ (.int .i64 ((i:Int)+1))).heap.size=w2.heap.size:=by simp[World.setCell]
 have h4:=h3.alloc (nO c i);have F4:=F3.alloc h3.lt (nO c i);have B4:Bt _ (t0 120 c 0 0 i 0) _:=z1v ((w2.drewN nq).setCell ⟨b,2,none⟩ (.int .i64 ((i:Int)+1))) (nO c i);have r4:=h3.rowNew (nO c i);rw[lz] at B4 r4;have t4:=h4.c1;have hqb:w2.heap.size≠b:=by have:=h2.lt;omega
 have hwq:w.heap.size<=w2.heap.size:=by have:=F3.size;rw[lz] at this;exact this
 have hq4:(((w2.drewN nq).setCell ⟨b,2,none⟩ (.int .i64 ((i:Int)+1))).alloc (nO c i)).heap.size=w2.heap.size+1:=by simp[World.setCell]
 obtain⟨e0,e1,e2,e3,e4,e5,e6,e7,e8⟩:=B4.all;clear B4 r4 h3 F3;go_wp21;refine(tadd b s _ ts _ 120 c 0 0 none none none 0 0 0 0 0 0 i 0 h4 hl1).mono ?_;rintro e w6 ⟨rfl,h6,k6⟩;clear e0 e1 e2 e3 e4 e5 e6 e7 e8;go_wp21;go_ret;refine⟨F4.trans k6,ts.length,[t0 120 c 0 0 i 0],rfl,?_,by simp[xB],?_⟩
 ·rw[HR.out];exact h6
 ·intro x j e
  rw[HR.out] at e
  cases e
  exact⟨by simp,by simp[gPos],zvc ⟨none,0,rfl,.inl rfl⟩⟩
end
theorem tat_name (b:Nat) (s:ByteArray) (n i:Nat) (ts:List Tt) (w:World) (h:Sr true b s (.ok i) ts w) (hs:s.size<=60000) (hl:ts.length+xB s (.ok i)<=300000) (HB:Hid (zal (chr s i)=true)) (H40:Hid (chr s i≠40)) (HI:Hid (zcs (chr s i)=false)) (hL:65<=chr s i) (h84:chr s i≠84) (h70:chr s i≠70):
 CZ 76 #[pZ b] w (XPost true b s (pe s true (n+1) 2 i .nil) (.ok i) ts w):=by
 have HRg:Hid (chr s (i+1)=123->pe s true (n+1) 2 i .nil=match pg s (s.size+1) (i+2) [] with
  | .error p=> .error p
  | .ok (g,j)=> .ok (zrh (chr s i) i g,j)):=λh=>by rw[pe_name HB.out HI.out H40.out,if_pos h];try rfl
 have HRb:Hid (chr s (i+1)≠123->pe s true (n+1) 2 i .nil=.ok (zrh (chr s i) i [],i+1)):=λh=>by rw[pe_name HB.out HI.out H40.out,if_neg h]
 obtain⟨i0,hi0,hz0,hz1,hz2⟩:=info_parts zsq;have hi1:i<s.size:=zag (zdg HB.out);have hl1:ts.length<=1000000:=by simp only[xB] at hl;omega
 have hlt:=h.lt;clear hl;go_enter Tryz.func76,Tryz.ntmps76;go_wp21;refine(zfk b s _ ts w h (by omega)).mono ?_;rintro e w1 ⟨rfl,d1,rfl⟩;rw[show ziz s (.ok i)=true from HB.out];go_wp21;refine(sgot b s 40 _ ts _ (h.drewN d1) (by omega) (by decide)).mono ?_;rintro e w2 ⟨rfl,h2,k2⟩;have F2:Fr b w w2:=k2.undrew;rw[show isS s 40 40 (.ok i)=false from zdy H40.out];rw[show gotS s 40 (.ok i)=.ok i from if_neg H40.out] at h2;clear k2;have hcs:s[i].toNat=chr s i:=zna hi1;have HCL:Hid (65<=chr s i/\chr s i≠84/\chr s i≠70):=⟨hL,h84,h70⟩
 clear hL h84 h70;generalize hcg:chr s i=c at *
 have HCG:Hid (chr s i=c):=hcg;clear hcg;have c0:=h2.c0;have c2:cZ w2 b 2 (iZ i):=h2.c2;have f2:=h2.fz 2;obtain⟨hL,h84,h70⟩:=HCL.out;have d1':decide ((48:Int)<=(c:Int))=true:=by simp;omega
 have d2':decide ((c:Int)<=57)=false:=by simp;omega
 have d3':((c:Int)==84)=false:=by rw[beq_eq_false_iff_ne];omega
 have d4':((c:Int)==70)=false:=by rw[beq_eq_false_iff_ne];omega
 clear hL h84 h70;go_wp21
 go_quiet (fail)
 obtain⟨h3,k3⟩:=h2.next hi1 nq;have F3:=F2.trans k3;clear F2 k3;have lz:((w2.drewN nq).setCell ⟨b,2,none⟩ (.int .i64 ((i:Int)+1))).heap.size=w2.heap.size:=by simp[World.setCell]
 have h4:=h3.alloc (nO c i);have F4:=F3.alloc h3.lt (nO c i);have B4:Bt _ (t0 120 c 0 0 i 0) _:=z1v ((w2.drewN nq).setCell ⟨b,2,none⟩ (.int .i64 ((i:Int)+1))) (nO c i);have r4:=h3.rowNew (nO c i);rw[lz] at B4 r4;have t4:=h4.c1;have hqb:w2.heap.size≠b:=by have:=h2.lt;omega
 have hwq:w.heap.size<=w2.heap.size:=by have:=F3.size;rw[lz] at this;exact this
 have hq4:(((w2.drewN nq).setCell ⟨b,2,none⟩ (.int .i64 ((i:Int)+1))).alloc (nO c i)).heap.size=w2.heap.size+1:=by simp[World.setCell]
 go_wp21;refine(sgot b s 123 _ ts _ h4 (by omega) (by decide)).mono ?_;rintro e w5 ⟨rfl,h5,k5⟩;by_cases h123:chr s (i+1)=123
 ·have H123:Hid (chr s (i+1)=123):=h123
  have HR:Hid _:=HRg.out h123;have hi2:i+1<s.size:=zag (by rw[h123];decide);clear h123 HRg HRb;rw[show isS s 123 123 (.ok (i+1))=true from inS.2 H123.out];rw[show gotS s 123 (.ok (i+1))=.ok (i+2) from if_pos H123.out] at h5;have B5:=B4.fr k5 hqb r4;have r5:=k5.rowNe' r4 (by rw[hq4];omega);have F5:=F4.trans k5;clear B4 r4 F4 h4 h3 F3 k5 c0 c2 f2 t4 hq4 lz d1' d2' d3' d4' hcs;obtain⟨q,hq⟩:∃q,q=w2.heap.size:=⟨_,rfl⟩
  rw[<-hq] at B5 r5 hqb hwq ⊢;clear hq h2;have KC:Hid (CZ 43 #[pZ b] w5.drew λe w'=>∃g cap u,e=.returned (.agg #[sZ g (sz u) cap])/\Rg g u w'/\sz u<=s.size+1/\zuq s (.ok (i+2)) u/\Sr true b s (zec s (.ok (i+2))) ts w'/\Fr b w5.drew w'):=skind b s _ ts w5.drew h5.drew hs;have c4:cZ w5 q 4 (.slice none 0 0):=B5.c 4;have f4:=B5.fz 4;have lq:=B5.lt;clear h5;go_wp21
  go_region_law
   (first
    |(go_simp;go_at_call 43;refine KC.out.mono ?_;rintro e w6 ⟨g6,cap6,u6,rfl,R6,z6,hk6,h6,k6⟩;(have L6:LT b q s c i ts w (zec s (.ok (i+2))) [] (none,0,0) w6:=⟨h6,Bt.fr (w:=w5.drew) B5 k6 hqb r5,k6.rowNe' (w:=w5.drew) r5 lq,(F5.drewN 1).trans k6,Gr.nil _ _⟩);(have d6:cZ w6 q 4 (.slice none 0 0):=L6.bt.c 4);(have HN:=zqs w6 g6 (sz u6) cap6);(have s6:w.heap.size<=w6.heap.size:=L6.fr.size);(have l6:q<w6.heap.size:=L6.bt.lt);(try dsimp only))
    |((refine step_append_lies _ (by rfl) _ _ _ (by rfl) w.heap.size 33 i0 _ 1 24 Tryz.underlying65 hi0 hz0 hz1 hz2 rfl (by omega) (.slice none 0 0) 0 [] (by rfl) (z1w _ _ _ _) ⟨w6.heap.size,0,none⟩ 1 1 [sZ g6 (sz u6) cap6] (by rfl) (by rfl) HN (by simp[Value.oneCell']) (by omega) (by unfold maxLen;omega) (by omega) (by simp;omega) (w6.heap.size+1) (by simp) ?_;intro gg cap7 w7 hown7 hgrow7 hat7 hlt7;have b7:=L6.bt.grown ((z1p w6 _ none).trans hgrow7) (by simp);have d7:cZ w7 q 4 (.slice none 0 0):=b7.c 4;have e7:=b7.fz 4)))
  all_goals
   have L8:=L6.more R6 hqb hwq hown7 hgrow7;have HG8:Hid (GS s (i+2) (zec s (.ok (i+2))) [u6]):=GS.start hi2 hk6;clear L6 R6 hown7 hgrow7 hat7 hlt7 b7 d7 e7 d6 HN B5 r5 F5 KC c4 f4 lq s6 l6 hk6 h6 k6;go_wp21;have HL8:Hid (∃hs G,LT b q s c i ts w (zec s (.ok (i+2))) hs G (w7.setCell ⟨q,4,none⟩ (sZ gg 1 cap7))/\GS s (i+2) (zec s (.ok (i+2))) (hs.map (·.1))):=⟨_,_,L8,HG8.out⟩
   clear L8 HG8;generalize w7.setCell ⟨q,4,none⟩ (sZ gg 1 cap7)=w8 at *
   go_loopw [82] (λ_ wr=>∃σ,Hid (∃hs G,LT b q s c i ts w σ hs G wr/\GS s (i+2) σ (hs.map (·.1)))) (λ_ wr=>zqb b s wr)
   case atStart=>exact⟨_,HL8⟩
   case round=>
    clear HL8;obtain⟨σ,HL9⟩:=hrel;obtain⟨hs',G,L,GG⟩:=HL9.out;have HGG:Hid (GS s (i+2) σ (hs'.map (·.1))):=GG;clear GG HL9;obtain⟨ga,gn,gc⟩:=G
    cases hm:isS s 44 44 σ
    ·obtain⟨st1,st2⟩:=HGG.out.stop hm
     have HM:Hid (isS s 44 44 σ=false):=hm;have HS1:Hid (zbg s 125 σ=givS (pg s (s.size+1) (i+2) [])):=st1;have HS2:Hid (∀g k,pg s (s.size+1) (i+2) []=.ok (g,k)->g=hs'.map (·.1)):=st2;clear hm st1 st2;have h9:=L.sr;have B9:=L.bt;have r9:=L.rn;have F9:=L.fr;have G9:=L.gr;clear L;go_wp21;refine(sgot b s 44 σ ts wr h9 (by omega) (by decide)).mono ?_;rintro e w10 ⟨rfl,h10,k10⟩;rw[HM.out];rw[gotS_no HM.out] at h10;have B10:=B9.fr k10 hqb r9;have r10:=k10.rowNe' r9 B9.lt;have F10:=F9.trans k10;have G10:=G9.fr h9 k10;clear h9 B9 r9 F9 G9 k10;go_wp21;refine(zne b s 125 σ ts w10 h10 (by omega) (by decide)).mono ?_;rintro e w11 ⟨rfl,h11,k11⟩;rw[HS1.out] at h11;have B11:=B10.fr k11 hqb r10;have F11:=F10.trans k11;have G11:=G10.fr h10 k11;obtain⟨e0,e1,e2,e3,e4,e5,e6,e7,e8⟩:=B11.all;clear h10 B10 r10 F10 G10 k11 B11;go_wp21;refine(tadd b s _ ts _ 120 c 0 0 ga none none gn gc 0 0 0 0 i 0 h11 hl1).mono ?_;rintro e w12 ⟨rfl,h12,k12⟩;clear e0 e1 e2 e3 e4 e5 e6 e7 e8;have HG12:Hid (Ls w12 (.slice ga gn gc) (hs'.map (·.1))):=(G11.fr h11 k12).ls;have HF12:Hid (Fr b w w12):=F11.trans k12;have HR12:Hid (Sr true b s (givS (pg s (s.size+1) (i+2) [])) (ts++[⟨120,c,0,0,(ga,gn,gc),(none,0,0),(none,0,0),i,0⟩]) w12):=h12;clear h11 h12 k12 F11 G11;go_wp21;go_ret;refine⟨HF12.out,ts.length,[⟨120,c,0,0,(ga,gn,gc),(none,0,0),(none,0,0),i,0⟩],rfl,?_,by simp[xB],?_⟩
     ·rw[HR.out]
      have:=HR12.out
      cases hp:pg s (s.size+1) (i+2) [] with
      |error p=>rw[hp] at this;exact this
      |ok r=>obtain⟨g,k⟩:=r;rw[hp] at this;exact this
     ·intro x j e
      rw[HR.out] at e
      cases hp:pg s (s.size+1) (i+2) [] with
      |error p=>rw[hp] at e;cases e
      |ok r=>
       obtain⟨g,k⟩:=r;rw[hp] at e
       cases e
       have pl:=zrp s _ _ _ _ _ hp (by omega) (GOk.nil _);obtain rfl:=HS2.out g _ hp;exact⟨by simp,by simp[gPos];omega,zvc HG12.out⟩
    ·cases σ with
     |error p=>cases hm
     |ok j=>
      have hj44:chr s j=44:=inS.1 hm;have H44:Hid (chr s j=44):=hj44;have HM:Hid (isS s 44 44 (.ok j)=true):=hm;have hjs:j<s.size:=zag (by rw[hj44];decide)
      have HLL:Hid (hs'.length<=s.size):=by
       obtain⟨m,g1,g2,g3,_⟩:=HGG.out.2 j rfl;unfold Hid;simp at g2;omega
      have HMS:Hid (zqb b s wr=1+(s.size-j)):=zqu L.sr;clear hm hj44;go_wp21;refine(sgot b s 44 _ ts wr L.sr (by omega) (by decide)).mono ?_;rintro e w10 ⟨rfl,h10,k10⟩;rw[HM.out];rw[show gotS s 44 (.ok j)=.ok (j+1) from if_pos H44.out] at h10;have B10:=L.bt.fr k10 hqb L.rn;have r10:=k10.rowNe' L.rn L.bt.lt;have F10:=L.fr.trans k10;have G10:=L.gr.fr L.sr k10;clear L k10;have KC:Hid (CZ 43 #[pZ b] w10.drew λe w'=>∃g cap u,e=.returned (.agg #[sZ g (sz u) cap])/\Rg g u w'/\sz u<=s.size+1/\zuq s (.ok (j+1)) u/\Sr true b s (zec s (.ok (j+1))) ts w'/\Fr b w10.drew w'):=skind b s _ ts w10.drew h10.drew hs;have c4:cZ w10 q 4 (.slice ga gn gc):=B10.c 4;have f4:=B10.fz 4;have lq:=B10.lt;have hle:=HLL.out;go_wp21
      go_region_law
       (first
        |(go_simp;go_at_call 43;refine KC.out.mono ?_;rintro e w11 ⟨g11,cap11,u11,rfl,R11,z11,hk11,h11,k11⟩;(have L11:LT b q s c i ts w (zec s (.ok (j+1))) hs' (ga,gn,gc) w11:=⟨h11,Bt.fr (w:=w10.drew) B10 k11 hqb r10,k11.rowNe' (w:=w10.drew) r10 lq,(F10.drewN 1).trans k11,Gr.fr (w:=w10.drew) h10.drew k11 G10.drew⟩);(have d11:cZ w11 q 4 (.slice ga gn gc):=L11.bt.c 4);(have HN:=zqs w11 g11 (sz u11) cap11);(have s11:w.heap.size<=w11.heap.size:=L11.fr.size);(have l11:q<w11.heap.size:=L11.bt.lt);(have o11:w11.ownsRow w.heap.size 33 1 (.slice ga gn gc) hs'.length (hs'.map zlr):=L11.gr.1);(try dsimp only))
        |((refine step_append_lies _ (by rfl) _ _ _ (by rfl) w.heap.size 33 i0 _ 1 24 Tryz.underlying65 hi0 hz0 hz1 hz2 rfl (by omega) (.slice ga gn gc) hs'.length (hs'.map zlr) (by rfl) (o11.alloc _) ⟨w11.heap.size,0,none⟩ 1 1 [sZ g11 (sz u11) cap11] (by rfl) (by rfl) HN (by simp[Value.oneCell']) (by omega) (by unfold maxLen;omega) (by omega) (by simp;omega) (w11.heap.size+1) (by simp) ?_;intro gg2 cap12 w12 hown12 hgrow12 hat12 hlt12;have b12:=L11.bt.grown ((z1p w11 _ _).trans hgrow12) (L11.gr.ne L11.bt);have d12:cZ w12 q 4 (.slice ga gn gc):=b12.c 4;have e12:=b12.fz 4)))
      all_goals
       have L13:=L11.more R11 hqb hwq hown12 hgrow12
       have HG13:Hid (GS s (i+2) (zec s (.ok (j+1))) ((hs'++[(u11,g11,cap11)]).map (·.1))):=by
        have:=HGG.out.step H44.out hk11;unfold Hid;simpa using this
       have HL13:Hid _:=L13;have HMS2:Hid _:=zwz L13.sr (j:=j) (λk e=>by obtain⟨q1,e1,e2,_⟩:=ztb (σ:=.ok (j+1)) hjs e;cases e1;omega) hjs;clear L13 L11 R11 hown12 hgrow12 hat12 hlt12 b12 d12 e12 d11 HN B10 r10 F10 G10 KC c4 f4 lq s11 l11 hk11 h11 k11 h10 o11;go_wp21;go_roundw
       case rel=>exact⟨_,_,_,HL13.out,HG13.out⟩
       case measure=>rw[HMS.out];exact HMS2.out
 ·have H123:Hid (chr s (i+1)≠123):=h123
  have HR:Hid _:=HRb.out h123;clear h123 HRg HRb hi0 hz0 hz1 hz2;rw[show isS s 123 123 (.ok (i+1))=false from zdy H123.out];rw[show gotS s 123 (.ok (i+1))=.ok (i+1) from if_neg H123.out] at h5;have B5:=B4.fr k5 hqb r4;have F5:=F4.trans k5;obtain⟨e0,e1,e2,e3,e4,e5,e6,e7,e8⟩:=B5.all;clear B4 B5 r4 F4 h4 h3 F3 k5 c0 c2 f2 t4;go_wp21;refine(tadd b s _ ts _ 120 c 0 0 none none none 0 0 0 0 0 0 i 0 h5 hl1).mono ?_;rintro e w6 ⟨rfl,h6,k6⟩;clear e0 e1 e2 e3 e4 e5 e6 e7 e8;go_wp21;go_ret;refine⟨F5.trans k6,ts.length,[t0 120 c 0 0 i 0],rfl,?_,by simp[xB],?_⟩
  ·rw[HR.out];exact h6
  ·intro x j e
   rw[HR.out] at e
   cases e
   exact⟨by simp,by simp[gPos],zvc ⟨none,0,rfl,.inl rfl⟩⟩
theorem tatom_any {ty:Bool} (b:Nat) (s:ByteArray) (n:Nat) (ih:zme ty b s n) (hs:s.size<=60000):TAtom ty b s (n+1):=by
 intro i ts w h hn hl
 cases hb:zal (chr s i)
 ·exact tat_none b s n i ts w h hs hl hb
 ·by_cases h40:chr s i=40
  ·exact tat_par b s n i ts w h hs hl ih hn hb h40
  ·by_cases h1:48<=chr s i/\chr s i<=57
   ·exact tat_digit b s n i ts w h hs hl hb h40 h1
   by_cases h84:chr s i=84
   ·exact tat_84 b s n i ts w h hs hl hb h40 h84
   by_cases h70:chr s i=70
   ·exact tat_70 b s n i ts w h hs hl hb h40 h70
   have h65:65<=chr s i:=by
    have:zal (chr s i)=true:=hb;simp[zal,zaq,zdi,zcs] at this;omega
   have hlit:zcs (chr s i)=false:=by simp[zcs];omega
   cases ty with
   |false=>exact tat_f b s n i ts w h hs hl hb h40 hlit h65 h84 h70
   |true=>
    exact tat_name b s n i ts w h hs hl hb h40 hlit h65 h84 h70
end Go.Proofs.YtceadeaodbadlaaGreatDoor
namespace Go.Proofs.YtceadeaodbadlaaGreatDoor
open Go.RowKit
variable {ty : Bool}
def caT (ty:Bool) (s:ByteArray) (n i:Nat):EOut:=match pe s ty n 2 i .nil with
 | .error p=> .error p
 | .ok (a,j)=>pe s ty n 1 j a
section
variable {s:ByteArray} {r:EOut} {e:Ending} {x:Ex} {m j:Nat} {σ:Sg} {w2:World}
theorem pe_ca {n i:Nat} (h1:chr s i≠92) (h2:chr s i≠64):pe s ty (n+1) 0 i .nil=caT ty s n i:=by
 rw[pe,if_neg h1,if_neg h2];rfl
theorem pe_more_no (h:zal (chr s j)=false):pe s ty (m+1) 1 j x=.ok (x,j):=by
 rw[pe,if_neg (by rw[h];decide)]
theorem zwr (h:zal (chr s j)=true):pe s ty (m+1) 1 j x=match pe s ty m 2 j .nil with
 | .error p=> .error p
 | .ok (b,q)=>pe s ty m 1 q (eC j x b):=by
 rw[pe,if_pos h];rfl
theorem Sd.drewN {w:World} {us:List Tt} {k:Nat} (h:Sd w us x k) (n:Nat):Sd (w.drewN n) us x k:=by
 refine Sd.kept (w:=w) (w':=w.drewN n) (λV l (h:Is w V l)=>h) (λV l (h:Ls w V l)=>?_) h;obtain⟨a,cap,e,h⟩:=h;refine⟨a,cap,e,h.imp id ?_⟩;rintro⟨g,e1,e2,h⟩;refine⟨g,e1,e2,λk t hk=>?_⟩;obtain⟨h1,c1,e3,e4⟩:=h k t hk;exact⟨h1,c1,e3,⟨e4.ok,e4.lt,e4.cell⟩⟩
theorem zrg (b:Nat) (s:ByteArray) (n p:Nat) (ts:List Tt) (w:World) (h:Sr ty b s (.error p) ts w) (hl:ts.length<=1000000):
 CZ 46 #[pZ b] w (XPost ty b s (zbt ty s n (.error p)) (.error p) ts w):=by
 have c2:=h.c2;have c3:=h.c3;go_enter Tryz.func46,Tryz.ntmps46;go_wp21;refine(tadd b s _ ts w 48 48 0 0 none none none 0 0 0 0 0 0 0 0 h hl).mono ?_;rintro e w' ⟨rfl,h1,k1⟩;go_wp21;go_ret;exact⟨k1,ts.length,[t0 48 48 0 0 0 0],rfl,h1,by simp[xB],λx j e=>by cases e⟩
theorem XPost.hand {b:Nat} {ts:List Tt} {w w1:World} (hF:Fr b w w1) (h:XPost ty b s r σ ts w1 e w2):XPost ty b s r σ ts w e w2:=⟨hF.trans h.1,h.2⟩
theorem XPost.one {b:Nat} {ts:List Tt} {w:World} (h:XPost ty b s r σ ts w e w2):∃k:Nat,e=.returned (iZ k):=by
 obtain⟨_,k,us,he,_⟩:=h;exact⟨k,he⟩
theorem texpr_fn (b:Nat) (s:ByteArray) (n i:Nat) (ts:List Tt) (w:World) (h:Sr ty b s (.ok i) ts w) (hs:s.size<=60000) (ih:zme ty b s n) (hn:3*(s.size-i)+2<=n+1) (H92:Hid (chr s i=92)) (hl:ts.length+xB s (.ok i)<=300000):
 CZ 46 #[pZ b] w (XPost ty b s (pe s ty (n+1) 0 i .nil) (.ok i) ts w):=by
 have c2:=h.c2;have c3:=h.c3;have hi1:i<s.size:=zag (by rw[H92.out];decide);have FN:Hid (∀X,Sr ty b s (.ok (i+1)) ts X->CZ 74 #[pZ b,iZ i] X (XPost ty b s (pe s ty (n+1) 0 i .nil) (.ok i) ts X)):=λX hX=>by cases ty with|true=>exact tfn_any b s n i ts X hX hi1 hs ih hn H92.out hl|false=>exact tfn_f b s n i ts X hX hi1 hs ih hn H92.out hl
 clear ih hn hl;go_enter Tryz.func46,Tryz.ntmps46;go_wp21;refine(sgot b s 92 _ ts w h (by omega) (by decide)).mono ?_;rintro e w1 ⟨rfl,h1,k1⟩;rw[show isS s 92 92 (.ok i)=true from inS.2 H92.out];rw[show gotS s 92 (.ok i)=.ok (i+1) from if_pos H92.out] at h1;clear c2 c3;go_wp21;refine(FN w1 h1).mono ?_;intro e w2 hp;have HP:Hid (XPost ty b s (pe s ty (n+1) 0 i .nil) (.ok i) ts w e w2):=hp.hand k1;obtain⟨k,rfl⟩:=hp.one;clear hp;go_wp21;go_ret;exact HP
theorem texpr_wi (b:Nat) (s:ByteArray) (n i:Nat) (ts:List Tt) (w:World) (h:Sr ty b s (.ok i) ts w) (hs:s.size<=60000) (ih:zme ty b s n) (hn:3*(s.size-i)+2<=n+1) (H64:Hid (chr s i=64)) (hl:ts.length+xB s (.ok i)<=300000):
 CZ 46 #[pZ b] w (XPost ty b s (pe s ty (n+1) 0 i .nil) (.ok i) ts w):=by
 have c2:=h.c2;have c3:=h.c3;have hi1:i<s.size:=zag (by rw[H64.out];decide);have H92:Hid (chr s i≠92):=by unfold Hid;rw[H64.out];decide
 have FN:Hid (∀X,Sr ty b s (.ok (i+1)) ts X->CZ 75 #[pZ b,iZ i] X (XPost ty b s (pe s ty (n+1) 0 i .nil) (.ok i) ts X)):=λX hX=>by cases ty with|true=>exact twi_any b s n i ts X hX hi1 hs ih hn H64.out hl|false=>exact twi_f b s n i ts X hX hi1 hs ih hn H64.out hl
 clear ih hn hl;go_enter Tryz.func46,Tryz.ntmps46;go_wp21;refine(sgot b s 92 _ ts w h (by omega) (by decide)).mono ?_;rintro e w0 ⟨rfl,h0,k0⟩;rw[show isS s 92 92 (.ok i)=false from zdy H92.out];rw[show gotS s 92 (.ok i)=.ok i from if_neg H92.out] at h0;go_wp21;refine(sgot b s 64 _ ts w0 h0 (by omega) (by decide)).mono ?_;rintro e w1 ⟨rfl,h1,k1⟩;rw[show isS s 64 64 (.ok i)=true from inS.2 H64.out];rw[show gotS s 64 (.ok i)=.ok (i+1) from if_pos H64.out] at h1;clear c2 c3;go_wp21;refine(FN w1 h1).mono ?_;intro e w2 hp;have HP:Hid (XPost ty b s (pe s ty (n+1) 0 i .nil) (.ok i) ts w e w2):=hp.hand (k0.trans k1);obtain⟨k,rfl⟩:=hp.one;clear hp;go_wp21;go_ret;exact HP
def TGood (ty:Bool) (b:Nat) (s:ByteArray) (n i:Nat) (ts:List Tt) (w:World) (kN j:Nat) (wr:World):Prop:=
 ∃m x us,m<=n/\j<=s.size/\i<j/\3*(s.size-j)+2<=m/\Sr ty b s (.ok j) (ts++us) wr/\Fr b w wr/\kN+1=(ts++us).length/\us.length+1<=2*(j-i)/\Sd wr (ts++us) x kN/\pe s ty m 1 j x=caT ty s n i
def TBad (ty:Bool) (b:Nat) (s:ByteArray) (n i:Nat) (ts:List Tt) (w:World) (p:Nat) (wr:World):Prop:=
 ∃us,Sr ty b s (.error p) (ts++us) wr/\Fr b w wr/\us.length<=2*(s.size-i)+2/\caT ty s n i=.error p
theorem tapp1 (ts us vs:List Tt) (z:Tt):ts++(us++vs++[z])=ts++us++vs++[z]:=by simp
theorem tcalls_any (b:Nat) (s:ByteArray) (n i:Nat) (ts:List Tt) (w:World) (IH:Hid (∀m,m<=n->TAtom ty b s m)) (h:Sr ty b s (.ok i) ts w) (hs:s.size<=60000) (hn:3*(s.size-i)+1<=n) (hl:ts.length+xB s (.ok i)<=300000) (H92:Hid (chr s i≠92)) (H64:Hid (chr s i≠64)):
 CZ 46 #[pZ b] w (XPost ty b s (caT ty s n i) (.ok i) ts w):=by
 have hi:=h.1;have c2:=h.c2;have c3:=h.c3;simp only[xB] at hl;go_enter Tryz.func46,Tryz.ntmps46;go_wp21;refine(sgot b s 92 _ ts w h (by omega) (by decide)).mono ?_;rintro e w0 ⟨rfl,h0,k0⟩;rw[show isS s 92 92 (.ok i)=false from zdy H92.out];rw[show gotS s 92 (.ok i)=.ok i from if_neg H92.out] at h0;go_wp21;refine(sgot b s 64 _ ts w0 h0 (by omega) (by decide)).mono ?_;rintro e w1 ⟨rfl,h1,k1⟩;rw[show isS s 64 64 (.ok i)=false from zdy H64.out];rw[show gotS s 64 (.ok i)=.ok i from if_neg H64.out] at h1;go_wp21;refine(IH n (z1d n) i ts _ h1 hn hl).mono ?_;rintro e w3 ⟨k3,kN,us,rfl,h3,hu,hx⟩;have F3:Fr b w w3:=(k0.trans k1).trans k3;clear k3 k0 k1 h0 h1
 have HI:∃more:Bool,Hid ((∃j,TGood ty b s n i ts w kN j w3/\more=zal (chr s j))\/((∃p,TBad ty b s n i ts w p w3)/\more=false)):=by
  cases hq:pe s ty n 2 i .nil with
  |error p=>
   rw[hq] at h3;exact⟨false,.inr ⟨⟨p,us,h3,F3,hu,by unfold caT;rw[hq]⟩,rfl⟩⟩
  |ok r=>
   obtain⟨a,j⟩:=r;rw[hq] at h3;obtain⟨x1,x2,x3⟩:=hx a j hq;have pl:=zas s ty _ _ _ _ _ _ hq hi (by omega);simp only[gPos] at x2;exact⟨zal (chr s j),.inl ⟨j,⟨n,a,us,z1d n,pl.2.1,by omega,by omega,h3,F3,x1,x2,x3,by unfold caT;rw[hq]⟩,rfl⟩⟩
 obtain⟨more,HI⟩:=HI;clear hx hu F3 h3;go_wp21
 have HS:CZ 77 #[pZ b] w3 λe w'=>e=.returned (.bool more)/\∃d,w'=w3.drewN d:=by
  rcases HI.out with ⟨j,hg,rfl⟩|⟨⟨p,hb⟩,rfl⟩
  ·obtain⟨m,x,us,_,hj,_,_,hst,_⟩:=hg
   exact zfk b s (.ok j) _ w3 hst (by omega)
  ·obtain⟨us,hst,_⟩:=hb
   exact zfk b s (.error p) _ w3 hst (by omega)
 refine HS.mono ?_;rintro e w4 ⟨rfl,d4,rfl⟩;clear HS
 have HJ:Hid ((∃j,TGood ty b s n i ts w kN j (w3.drewN d4)/\more=zal (chr s j))\/((∃p,TBad ty b s n i ts w p (w3.drewN d4))/\more=false)):=by
  rcases HI.out with ⟨j,⟨m,x,us,a1,a2,a3,a4,a5,a6,a7,a8,a9,a10⟩,e⟩|⟨⟨p,us,b1,b2,b3⟩,e⟩
  ·exact .inl ⟨j,⟨m,x,us,a1,a2,a3,a4,a5.drewN d4,a6.drewN d4,a7,a8,a9.drewN d4,a10⟩,e⟩
  ·exact .inr ⟨⟨p,us,b1.drewN d4,b2.drewN d4,b3⟩,e⟩
 clear HI;go_wp21
 go_loopw [4,5] (λkv mv wr=>∃(kN:Nat) (more:Bool),kv=(iZ kN)/\mv=.bool more/\Hid ((∃j,TGood ty b s n i ts w kN j wr/\more=zal (chr s j))\/((∃p,TBad ty b s n i ts w p wr)/\more=false))) (λ_ _ wr=>zqb b s wr)
 case atStart=>exact⟨kN,more,rfl,rfl,HJ⟩
 case round=>
  clear HJ c2 c3;obtain⟨kN,more,rfl,rfl,HI⟩:=hrel
  cases more with
  |false=>
   have HP:Hid (XPost ty b s (caT ty s n i) (.ok i) ts w (.returned (iZ kN)) wr):=by
    rcases HI.out with ⟨j,⟨m,x,us,a1,a2,a3,a4,a5,a6,a7,a8,a9,a10⟩,e⟩|⟨⟨p,us,b1,b2,b3,b4⟩,e⟩
    ·obtain⟨m,rfl⟩:∃m',m=m'+1:=⟨m-1,by omega⟩
     rw[pe_more_no e.symm] at a10;refine⟨a6,kN,us,rfl,by rw[<-a10];exact a5,by simp only[xB];omega,λy q e2=>?_⟩;rw[<-a10] at e2
     cases e2
     exact⟨a7,a8,a9⟩
    ·refine⟨b2,kN,us,rfl,by rw[b4];exact b1,b3,λy q e2=>by rw[b4] at e2;cases e2⟩
   clear HI;go_wp21;go_ret;exact HP
  |true=>
   rcases HI.out with ⟨j,⟨m,x,us,a1,a2,a3,a4,a5,a6,a7,a8,a9,a10⟩,e⟩|⟨_,e⟩
   ·obtain⟨m,rfl⟩:∃m',m=m'+1:=⟨m-1,by omega⟩
    rw[zwr e.symm] at a10;have HA:=hid a10;have HE:=hid e;have HL:=hid a8;have HK:=hid a7;have HSd:=hid a9;clear a10 e HI a9 a7;have hjs:j<s.size:=zag (zdg HE.out.symm);have c2:=a5.c2;have hlen:(ts++us).length+xB s (.ok j)<=300000:=by simp only[xB,z1l];have:=HL.out;omega
    have HMS:Hid (zqb b s wr=1+(s.size-j)):=zqu a5;go_wp21;refine(IH.out m (by omega) j (ts++us) _ a5 (by omega) hlen).mono ?_;rintro e w5 ⟨k5,k',us',rfl,h5,hu',hx'⟩;have F5:=a6.trans k5;have HSd5:Hid (Sd w5 (ts++us++us') x kN):=(HSd.out.fr a5 k5).more us';have HX:=hid hx';clear a5 a6 k5 hx' HSd;have hl5:(ts++us++us').length<=1000000:=by simp only[xB] at hu' hlen;simp at hlen ⊢;omega
    go_wp21;refine(tadd b s _ (ts++us++us') _ 99 0 kN k' none none none 0 0 0 0 0 0 i j h5 hl5).mono ?_;rintro e w6 ⟨rfl,h6,k6⟩;have F6:=F5.trans k6;have HS6:Hid (∀us y k,Sd w5 us y k->Sd w6 us y k):=λus y k S=>S.fr h5 k6
    generalize hm:(ts++us++us').length=kM at *
    have HM:=hid hm;clear hm h5 k6 F5 c2;go_wp21;refine(zfk b s _ _ w6 h6 (by omega)).mono ?_;rintro e w7 ⟨rfl,d7,rfl⟩;generalize hbq:ziz s (posS (pe s ty m 2 j .nil))=bq at *
    have HBQ:=hid hbq;have h7:=h6.drewN d7;have F7:=F6.drewN d7;clear hbq h6 F6;have HH7:=hid h7;have HF7:=hid F7;clear h7 F7;go_wp21;go_roundw
    case rel=>
     refine⟨kM,bq,rfl,rfl,?_⟩
     cases hq:pe s ty m 2 j .nil with
     |error p=>
      have hb7:=HBQ.out;have h7:=HH7.out;have ha:=HA.out;rw[hq] at hb7 h7 ha;refine .inr ⟨⟨p,us++us'++[⟨99,0,kN,k',(none,0,0),(none,0,0),(none,0,0),i,j⟩],by rw[tapp1];exact h7,HF7.out,?_,ha.symm⟩,hb7.symm⟩;have:=HL.out;simp only[xB] at hu';simp;omega
     |ok r=>
      obtain⟨y,q⟩:=r;have hb7:=HBQ.out;have h7:=HH7.out;have ha:=HA.out;rw[hq] at hb7 h7 ha;obtain⟨x1,x2,x3⟩:=HX y q hq;have pl:=zas s ty _ _ _ _ _ _ hq a2 (by omega);have hM:=HM.out;have hK:=HK.out;have:=HL.out;simp only[gPos] at x2;refine .inl ⟨q,⟨m,eC j x y,us++us'++[⟨99,0,kN,k',(none,0,0),(none,0,0),(none,0,0),i,j⟩],by omega,pl.2.1,by omega,by omega,by rw[tapp1];exact h7,HF7.out,by simp at hM ⊢;omega,by simp;omega,?_,ha⟩,hb7.symm⟩;rw[tapp1,<-hM];exact⟨⟨99,0,kN,k',(none,0,0),(none,0,0),(none,0,0),i,j⟩,by simp,.inr (.inr (.inr (.inr ⟨rfl,rfl,⟨rfl,rfl⟩,(by show kN<_;simp at hK ⊢;omega),(by show k'<_;rw[hM];omega),((HS6.out _ _ _ HSd5.out).drewN d7).more _,((HS6.out _ _ _ x3).drewN d7).more _⟩)))⟩
    case measure=>
     rw[HMS.out];refine zwz HH7 (λq e=>?_) hjs
     cases hq:pe s ty m 2 j .nil with
     |error p=>rw[hq] at e;cases e
     |ok r=>
      obtain⟨y,q'⟩:=r;rw[hq] at e
      cases e
      have pl:=zas s ty _ _ _ _ _ _ hq a2 (by omega);omega
   ·cases e
theorem zth (b:Nat) (s:ByteArray) (hs:s.size<=60000):∀n m,m<=n->zme ty b s m/\TAtom ty b s m:=by
 have zero:zme ty b s 0/\TAtom ty b s 0:=by
  refine⟨λσ ts w h h0 hl=>?_,λi ts w _ h0=>absurd h0 (by omega)⟩
  cases σ with
  |error p=>exact zrg b s 0 p ts w h (by simp only[xB] at hl;omega)
  |ok i=>exact absurd (h0 i rfl) (by omega)
 intro n
 induction n with
 |zero=>intro m hm;obtain rfl:m=0:=by omega
        exact zero
 |succ n ih=>
  intro m hm;rcases z1r m (n+1) with h|h
  ·exact ih m (by omega)
  ·obtain rfl:m=n+1:=by omega
   refine⟨λσ ts w h h0 hl=>?_,tatom_any b s n (ih n (z1d n)).1 hs⟩
   cases σ with
   |error p=>exact zrg b s (n+1) p ts w h (by simp only[xB] at hl;omega)
   |ok i=>
    have hf:=h0 i rfl;show Calls _ _ _ _ (XPost ty b s (pe s ty (n+1) 0 i .nil) (.ok i) ts w);by_cases h92:chr s i=92
    ·exact texpr_fn b s n i ts w h hs (ih n (z1d n)).1 hf h92 hl
    by_cases h64:chr s i=64
    ·exact texpr_wi b s n i ts w h hs (ih n (z1d n)).1 hf h64 hl
    rw[pe_ca h92 h64];exact tcalls_any b s n i ts w (λm hm=>(ih m hm).2) h hs (by omega) hl h92 h64
end
abbrev rdT (ty:Bool) (s:ByteArray):Obj:=.cells #[.string s,.bool ty,.int .i64 0,.int .i64 (-1),.slice none 0 0] 70
theorem Sr.new (ty:Bool) (s:ByteArray) (w:World):Sr ty w.heap.size s (.ok 0) [] (w.alloc (rdT ty s)):=
 ⟨Nat.zero_le _,.slice none 0 0,z1v w _,z1w _ _ _ _,by simp[Value.ownBlock],λ_=>rfl⟩
theorem Fr.belowNew' {s:ByteArray} {w w':World} (h:Fr w.heap.size (w.alloc (rdT ty s)) w'):Below w.heap.size w w':=by
 have hr:zay w.heap.size (w.alloc (rdT ty s))=none:=by unfold zay;simp[Value.ownBlock]
 refine⟨h.os,h.tape,h.output,z1c (by simp) h.size,λk hk=>?_⟩;rw[h.block k (by simp;omega) (by omega) (by rw[hr];simp)];exact Below.heap_alloc _ _ _ hk
theorem sfail_old (b:Nat) (s:ByteArray) (p:Nat) (ts:List Tt) (w:World) (h:Sr ty b s (.error p) ts w):
 CZ 44 #[pZ b] w λe w'=>e=.returned (.tuple #[])/\w'=w:=by
 obtain⟨lv,r0,mv⟩:=h.mv;exact zfu ty lv b s p p w r0
def zrm (ty:Bool) (s:ByteArray) (w:World) (e:Ending) (w':World):Prop:=
 Below w.heap.size w w'/\match zaz s ty with
  | .error p=>e=.returned (.tuple #[.slice none 0 0,iZ p])
  | .ok x=>∃L ts k,e=.returned (.tuple #[L,.int .i64 (-1)])/\k+1=ts.length/\ts.length<=300000/\Lr w' L ts/\Sd w' ts x k
theorem Sr.lr {b:Nat} {s:ByteArray} {σ:Sg} {ts:List Tt} {w:World} (h:Sr ty b s σ ts w) (hn:ts≠[]):∃g cap,w.cell? ⟨b,4,none⟩=some (sZ g ts.length cap)/\ts.length<=cap/\Lr w (sZ g ts.length cap) ts:=by
 obtain⟨_,lv,h0,ho,_⟩:=h;rcases id ho.2 with ⟨_,h1⟩|⟨g,cap,cur,rfl,hB,hg,hcap,_⟩
 ·exact absurd (List.length_eq_zero_iff.1 h1) hn
 ·refine⟨g,cap,by rw[z1f h0];rfl,hcap,g,cap,rfl,(z1a.1 hg).1,λk t hk j v hv=>?_⟩
  have hj:=(z1b.1 hv).1;have:=ho.cells (g:=g) rfl (k*9+j) v (by rw[tflat_at ts k t hk j hj];exact hv);rw[zli g (k*9+j)] at this;exact this
theorem znx (ty:Bool) (s:ByteArray) (w:World) (hs:s.size<=60000):
 CZ 27 #[.string s,.bool ty] w (zrm ty s w):=by
 have hE:=(zth (ty:=ty) w.heap.size s hs (3*s.size+2) _ (z1d _)).1;have h0:=Sr.new ty s w;have CE:Hid (CZ 46 #[pZ w.heap.size] (w.alloc (rdT ty s)) (XPost ty w.heap.size s (pe s ty (3*s.size+2) 0 0 .nil) (.ok 0) [] (w.alloc (rdT ty s)))):=hE (.ok 0) [] _ h0 (λi e=>by cases e;omega) (by simp[xB];omega);go_enter Tryz.func27,Tryz.ntmps27;go_wp21;refine CE.mono ?_;rintro e w1 ⟨k1,k,us,rfl,h1,hu,hx⟩;rw[List.nil_append] at h1 hx
 cases hq:pe s ty (3*s.size+2) 0 0 .nil with
 |error p=>
  rw[hq] at h1;have HR:Hid (zaz s ty=.error p):=by unfold Hid zaz;rw[hq]
  have c2:=h1.c2;have c3:=h1.c3;by_cases hps:p<s.size
  ·go_wp21
   refine(sfail_old _ s p _ w1 h1).mono ?_;rintro e w2 ⟨rfl,rfl⟩;go_wp21
   go_quiet (fail)
   go_wp21;go_ret2;refine⟨(k1.drewN _).belowNew',?_⟩;rw[HR.out];exact rfl
  ·go_wp21
   go_quiet (fail)
   go_wp21;go_ret2;refine⟨(k1.drewN _).belowNew',?_⟩;rw[HR.out];exact rfl
 |ok r=>
  obtain⟨x,j⟩:=r;rw[hq] at h1;obtain⟨x1,x2,x3⟩:=hx x j hq;have pl:=zas s ty _ _ _ _ _ _ hq (Nat.zero_le _) (by omega);have hj2:=pl.2.1;have c2:=h1.c2;have c3:=h1.c3;by_cases hj:j<s.size
  ·have HR:Hid (zaz s ty=.error j):=by unfold Hid zaz;rw[hq];exact if_pos hj
   go_wp21;refine(sfail _ s j _ w1 h1).mono ?_;rintro e w2 ⟨rfl,h2,k2⟩;have c3':=h2.c3;go_wp21
   go_quiet (fail)
   go_wp21;go_ret2;refine⟨((k1.trans k2).drewN _).belowNew',?_⟩;rw[HR.out];exact rfl
  ·have HR:Hid (zaz s ty=.ok x):=by unfold Hid zaz;rw[hq];exact if_neg hj
   obtain⟨g,cap,c4,hcap,hL⟩:=h1.lr (by intro e;rw[e] at x1;simp at x1);have HK:=hid x1;have HL:=hid hL;have HSd:=hid x3;have HU:Hid (us.length<=300000):=by unfold Hid;simp only[xB] at hu;omega
   have hk1:(k:Int)+1=(us.length:Int):=by omega
   have hk2:k<us.length:=by omega
   have hkc:=HU.out;go_wp21;go_ret2;refine⟨k1.belowNew',?_⟩;rw[HR.out];exact⟨_,us,k,rfl,HK,HU,HL,HSd⟩
end Go.Proofs.YtceadeaodbadlaaGreatDoor
namespace Go.Proofs.YtceadeaodbadlaaGreatDoor
open Go.RowKit
section
variable {w:World}
theorem zha {tmps:Array Value} {g:Nat} {v x1 x2 x3:Value} {fn:Func} {p u1 u2 u3:Tmp} (h:fn.results=#[.cell p 33,.tmp u1,.tmp u2,.tmp u3]) {Q:Ending->World->Prop} (hp:tmps.getD p undef=(pZ g)) (h1:tmps.getD u1 undef=x1) (h2:tmps.getD u2 undef=x2) (h3:tmps.getD u3 undef=x3) (hg:w.heap[g]? =some (.cells #[v] 33 (0,0))) (hq:Q (.returned (.tuple #[.agg #[v],x1,x2,x3])) w):bodyPost Tryz.prog fn Q Exit.ret {tmps:=tmps,defers:=[]} w:=by
 refine bodyPost_ret ?_ rfl hq;have hl:=run_loadVar_row w g 33 33 #[v] (0,0) _ hg Tryz.underlying33 rfl zqm;simp only[Array.getD_eq_getD_getElem?] at hp h1 h2 h3;simp only[results,h];simp[Sem.run_bind,Result.andThen,hp,h1,h2,h3,asAddr,hl]
def zbu (s:ByteArray):COut:=match zaz s true with
 | .error p=> .error (2,p)
 | .ok x=>chk x (λ_=>none)
def zsc (s F:ByteArray):Prop:=∀x,zaz s true=.ok x->F=⟨(frm x).toArray⟩
def TyPostC (s:ByteArray) (w:World) (e:Ending) (w':World):Prop:=
 Below w.heap.size w w'/\match zbu s with
  | .error (c,p)=>e=.returned (.tuple #[.agg #[.slice none 0 0],.string ⟨#[]⟩,iZ c,iZ p])
  | .ok t=>∃g cap F,e=.returned (.tuple #[.agg #[sZ g (sz t) cap],.string F,.int .i64 0,.int .i64 0])/\Rg g t w'/\sz t<=50000/\zsc s F
abbrev ckO (L:Value):Obj:=.cells #[L,.slice none 0 0,.int .i64 0,.int .i64 0,.int .i64 50000] 104
theorem Ct.new {L:Value} {ts:List Tt} (h:Lr w L ts) (hl:ts.length<=300000):Ct w w.heap.size L ts none [] (w.alloc (ckO L)):=by
 obtain⟨gL,capL,rfl,hg,hc⟩:=id h;refine⟨bal w _,⟨z1d _,⟨_,_,_,rfl⟩,(λr e=>by cases e),.slice none 0 0,z1v w _,z1w _ _ _ _,by simp[Value.ownBlock],(λg e=>by simp[Value.ownBlock] at e),(λx hx=>by cases hx)⟩,h,hl⟩
theorem StOk.nil:StOk []:=λx hx=>by cases hx
theorem typed_any (s:ByteArray) (w:World) (hs:s.size<=60000):
 CZ 38 #[.string s,.int .i64 50000] w (TyPostC s w):=by
 have B0:Below w.heap.size w (w.alloc rbO):=bal w _;have r0:(w.alloc rbO).heap[w.heap.size]? =some (.cells #[.slice none 0 0] 33 (0,0)):=z1v w _;have z0:(w.alloc rbO).heap.size=w.heap.size+1:=by simp
 have HRD:Hid (∀X,CZ 27 #[.string s,.bool true] X (zrm true s X)):=λX=>znx true s X hs
 have HS:=hid hs;clear hs;go_enter Tryz.func38,Tryz.ntmps38;go_wp21;generalize w.alloc rbO=W at *
 refine(HRD W).mono ?_;rintro e w1 ⟨b1,hm⟩;have r1:=(b1.block w.heap.size (by omega)).trans r0;have HB1:Hid (Below w.heap.size w w1):=B0.trans (b1.mono B0.size);have z1:=b1.size;clear B0 b1 r0
 cases hq:zaz s true with
 |error p=>
  rw[hq] at hm;subst hm;have HR:Hid (zbu s=.error (2,p)):=by unfold Hid zbu;rw[hq]
  have c1:=zab r1;have f1:=zaf r1;have e1:decide ((0:Int)<=(p:Int))=true:=by simp
  have e2:(0:Int)<=(p:Int):=by omega
  clear hq;go_wp21;refine zha rfl rfl rfl rfl rfl (zad r1) ?_;refine⟨HB1.setCell (p:=⟨w.heap.size,0,none⟩) (z1d _) _,?_⟩;rw[HR.out];exact rfl
 |ok x=>
  rw[hq] at hm;obtain⟨L,ts,k,rfl,hk,hl,hL,hSd⟩:=hm;have HTO:Hid (zbu s=chk x (λ_=>none)):=by unfold Hid zbu;rw[hq]
  have hx:=wholeE_xz hq;have hok:=zfz hq;obtain⟨gL,capL,rfl,hgL,_⟩:=id hL;have CT:Ct w1 w1.heap.size (sZ gL ts.length capL) ts none [] (w1.alloc (ckO (sZ gL ts.length capL))):=Ct.new hL hl;have HCT:Hid _:=CT
  have HCK:Hid (CZ 61 #[pZ w1.heap.size,iZ k] (w1.alloc (ckO (sZ gL ts.length capL))) (CPost w1.heap.size w1.heap.size (sZ gL ts.length capL) 50000 [] (xz x) (chk x (λ_=>none)) (w1.alloc (ckO (sZ gL ts.length capL))))):=
   rcheck_any w1 w1.heap.size _ ts s.size HS.out x k hSd hok hx.2 (z1c hx.1 HS.out) [] _ CT StOk.nil (by simp;have:=HS.out;omega)
  have HBAR:Hid (∀X,Below w1.heap.size w1 X->CZ 33 #[sZ gL ts.length capL] X λe w'=>∃F:ByteArray,e=.returned (.string F)/\Hid (zsc s F)/\Below X.heap.size X w'):=λX hX=>(bare_sd ts _ s.size k x X (by omega) hk hSd hok (z1c hx.1 HS.out) (hL.below hX)).mono λe w' ⟨h1,h2⟩=>⟨_,h1,λy hy=>by rw[hq] at hy;cases hy;rfl,h2⟩
  have HSZ:Hid (∀t,chk x (λ_=>none)=.ok t->sz t<=50000):=λt ht=>(zhu HS.out x _ t hok (EnvOk.none _) ht).2
  have sC:(w1.alloc (ckO (sZ gL ts.length capL))).heap.size=w1.heap.size+1:=by simp
  have rC:=(Below.heap_alloc w1 (ckO (sZ gL ts.length capL)) w.heap.size (by omega)).trans r1;have hkk:(ts.length:Int)-1=(k:Int):=by omega
  generalize chk x (λ_=>none)=R at *
  clear hq hSd hL CT hx hok hk;generalize ts.length=tl at *
  go_wp21;generalize hX:w1.alloc (ckO (sZ gL tl capL))=X at *
  clear hX;refine HCK.mono ?_;intro e w2 hP2;obtain⟨t2,g2,cap2,rfl,R2,C2,F2,y2,y2'⟩:=hP2;have HY2:=hid y2;have bB:Below w2.heap.size w2 (w2.alloc (tbO g2 (sz t2) cap2)):=bal w2 _;have C3:=(C2.below bB).1;have F3:=F2.trans (C2.below bB).2;have HR3:Hid (Rg g2 t2 (w2.alloc (tbO g2 (sz t2) cap2))):=R2.below bB;have x3:(w2.alloc (tbO g2 (sz t2) cap2)).heap[w2.heap.size]? =some (.cells #[sZ g2 (sz t2) cap2] 33 (0,0)):=z1v w2 _;have s2:=F2.size;have sB:(w2.alloc (tbO g2 (sz t2) cap2)).heap.size=w2.heap.size+1:=by simp
  have HB3:Hid (Below w1.heap.size w1 (w2.alloc (tbO g2 (sz t2) cap2))):=(F3.ct HCT.out C3).old;have HBw:Hid (Below w.heap.size w (w2.alloc (tbO g2 (sz t2) cap2))):=HB1.out.trans (HB3.out.mono HB1.out.size);have r3:=(HB3.out.block w.heap.size (by omega)).trans r1;obtain⟨S3,hk3,-,-⟩:=C3.mv;have j2:(w2.alloc (tbO g2 (sz t2) cap2)).cell? ⟨w1.heap.size,2,none⟩=some (.int .i64 (cErr (zfx R):Int)):=cbl hk3;have j3:(w2.alloc (tbO g2 (sz t2) cap2)).cell? ⟨w1.heap.size,3,none⟩=some (.int .i64 (cAt (zfx R):Int)):=cbl hk3;have HE:=hid C3.2.2.1;have jx:=zab x3;have c3r:=zab r3;have f3r:=zaf r3;generalize hn2:sz t2=n2 at *
  have HN2:=hid hn2;clear R2 C2 F2 y2 y2' bB C3 F3 hk3 hn2
  cases hR:R with
  |error r=>
   obtain⟨e1,e2⟩:=r;have HR:Hid (zbu s=.error (e1,e2)):=HTO.out.trans hR;rw[hR] at j2 j3;have her:1<=e1:=HE.out (e1,e2) (by rw[hR];rfl);have eb:((e1:Int) !=0)=true:=by rw[bne_iff_ne];omega
   replace j2:(w2.alloc (tbO g2 n2 cap2)).cell? ⟨w1.heap.size,2,none⟩=some (iZ e1):=j2;replace j3:(w2.alloc (tbO g2 n2 cap2)).cell? ⟨w1.heap.size,3,none⟩=some (iZ e2):=j3;clear hR;go_wp21;generalize w2.alloc (tbO g2 n2 cap2)=Z at *
   have d2:=(zba Z ⟨w.heap.size,0,none⟩ ⟨w1.heap.size,2,none⟩ (.slice none 0 0) (by show w1.heap.size≠w.heap.size;omega)).trans j2;have d3:=(zba Z ⟨w.heap.size,0,none⟩ ⟨w1.heap.size,3,none⟩ (.slice none 0 0) (by show w1.heap.size≠w.heap.size;omega)).trans j3;refine wp_region_held_drew (S:=(λwq=>cZ wq w1.heap.size 2 (iZ e1)/\cZ wq w1.heap.size 3 (iZ e2))) (by kernel_rfl) (⟨j2,j3⟩) (λhS=>?_);refine tkS 0 (.agg #[.slice none 0 0]) hS ?_;refine tkS 1 (pZ w1.heap.size) hS ?_;refine tkS 2 (pZ w1.heap.size) hS ?_;refine tkS 3 (.pointer (some ⟨w1.heap.size,2,none⟩)) hS ?_;refine tkL 4 (iZ e1) hS ?_;refine tkS 5 (pZ w1.heap.size) hS ?_;refine tkS 6 (pZ w1.heap.size) hS ?_;refine tkS 7 (.pointer (some ⟨w1.heap.size,3,none⟩)) hS ?_;refine tkL 8 (iZ e2) hS ?_;refine rd1 9 (λKK hK=>?_);go_simp;refine hK.out _ _ ⟨d2,d3⟩ (λhS=>nrm ?_);refine tkS 10 (.string ⟨#[]⟩) hS ?_;refine tkS 11 (iZ e1) hS ?_;refine tkS 12 (iZ e2) hS ?_;refine wpAnyH_done (by kernel_rfl) ?_ _;go_wp21;refine zha rfl rfl rfl rfl rfl (zad r3) ?_;refine⟨(HBw.setCell (p:=⟨w.heap.size,0,none⟩) (z1d _) _).drew,?_⟩;rw[HR.out];exact rfl
  |ok v=>
   have hv:=HY2.out v hR;subst hv;have HR:Hid (zbu s=.ok t2):=HTO.out.trans hR;have HZ2:Hid (sz t2<=50000):=HSZ.out t2 hR;rw[hR] at j2 j3;replace j2:(w2.alloc (tbO g2 n2 cap2)).cell? ⟨w1.heap.size,2,none⟩=some (.int .i64 0):=j2;clear hR j3 HY2;go_wp21;generalize w2.alloc (tbO g2 n2 cap2)=Z at *
   have HBA:Hid (CZ 33 #[sZ gL tl capL] Z.drew λe w'=>∃F:ByteArray,e=.returned (.string F)/\Hid (zsc s F)/\Below Z.drew.heap.size Z.drew w'):=HBAR.out _ HB3.out.drew;refine wp_region_held_drew (S:=(λwq=>cZ wq w2.heap.size 0 (sZ g2 n2 cap2))) (by kernel_rfl) (jx) (λhS=>?_);refine tkL 0 (.agg #[sZ g2 n2 cap2]) hS ?_;refine tkS 1 (sZ gL tl capL) hS ?_;refine rd1 2 (λKK hK=>?_);go_simp;go_at_call 33;refine(HBA).mono ?_;rintro e w4 ⟨F,rfl,HFF,b4'⟩;have b4:Below Z.heap.size Z w4:=⟨b4'.os,b4'.tape,b4'.output,b4'.size,b4'.block⟩
   have k6:cZ w4 w2.heap.size 0 (sZ g2 n2 cap2):=(b4.cell (p:=⟨w2.heap.size,0,none⟩) (show w2.heap.size<Z.heap.size by omega)).trans jx;have h4:=(b4.block w.heap.size (by omega)).trans r3;have c4:=zab h4;have f4:=zaf h4;refine hK.out _ _ k6 (λhS=>nrm ?_);refine rd1 3 (λKK hK=>?_);go_simp;refine hK.out _ _ ((cell_far w4 ⟨w.heap.size,0,none⟩ ⟨w2.heap.size,0,none⟩ (show w.heap.size≠w2.heap.size by omega)).trans k6) (λhS=>nrm ?_);refine tkS 4 (.string F) hS ?_;refine tkS 5 (.int .i64 0) hS ?_;refine tkS 6 (.int .i64 0) hS ?_;refine wpAnyH_done (by kernel_rfl) ?_ _;go_wp21;refine zha rfl rfl rfl rfl rfl (zad h4) ?_;refine⟨(HBw.trans (b4.mono HBw.size)).setCell (p:=⟨w.heap.size,0,none⟩) (z1d _) _,?_⟩;rw[HR.out];have R4:=HR3.out.below b4;refine⟨g2,cap2,F,by rw[HN2.out];rfl,R4.kept (zai _ _) (by simp;exact λe=>R4.notBox c4 e.symm),HZ2.out,HFF.out⟩
end
def TdPost (s:ByteArray) (w:World) (e:Ending) (w':World):Prop:=
 Below w.heap.size w w'/\((60000<s.size/\e=.returned (.tuple #[.agg #[.slice none 0 0],.string ⟨#[]⟩,.int .i64 1,.int .i64 0]))\/
  (s.size<=60000/\match zbu s with
   | .error (c,p)=>e=.returned (.tuple #[.agg #[.slice none 0 0],.string ⟨#[]⟩,iZ c,iZ p])
   | .ok t=>∃g cap F,e=.returned (.tuple #[.agg #[sZ g (sz t) cap],.string F,.int .i64 0,.int .i64 0])/\Rg g t w'/\sz t<=50000/\zsc s F))
section
variable {s:ByteArray} {p:Nat}
theorem TyPostC.form {w:World} {e:Ending} {w':World} (h:TyPostC s w e w'):∃a n c F x y,e=.returned (.tuple #[.agg #[.slice a n c],.string F,.int .i64 x,.int .i64 y]):=by
 obtain⟨_,h⟩:=h
 cases hq:zbu s with
 |error r=>obtain⟨c,p⟩:=r;rw[hq] at h;exact⟨_,_,_,_,_,_,h⟩
 |ok t=>rw[hq] at h;obtain⟨g,cap,F,h,_⟩:=h;exact⟨_,_,_,_,_,_,h⟩
theorem rTyped_any (s:ByteArray) (w:World) (hs:s.size<=maxLen):
 CZ 22 #[.string s] w (TdPost s w):=by
 have B0:Below w.heap.size w (w.alloc rbO):=bal w _;have r0:(w.alloc rbO).heap[w.heap.size]? =some (.cells #[.slice none 0 0] 33 (0,0)):=z1v w _;have z0:(w.alloc rbO).heap.size=w.heap.size+1:=by simp
 have HB0:=hid B0;unfold maxLen at hs;rcases z1r 60000 s.size with hlt|hge
 ·have d1:decide ((60000:Int)<(s.size:Int))=true:=by simp;omega
  have c0:=zab r0;have f0:=zaf r0;have HL:=hid hlt;go_enter Tryz.func22,Tryz.ntmps22;go_wp21;generalize w.alloc rbO=W at *
  refine zha rfl rfl rfl rfl rfl r0 ?_;exact⟨HB0,.inl ⟨HL,rfl⟩⟩
 ·have d1:decide ((60000:Int)<(s.size:Int))=false:=by simp;omega
  have HT:=hid (λX=>typed_any s X hge);have HL:=hid hge;go_enter Tryz.func22,Tryz.ntmps22;go_wp21;generalize w.alloc rbO=W at *
  refine(HT W).mono ?_;intro e w1 hP;obtain⟨a,n,c,F,x,y,rfl⟩:=hP.form;have HP:=hid hP;have b1:=hP.1;have r1:=(b1.block w.heap.size (by omega)).trans r0;have c1:=zab r1;have f1:=zaf r1;have HB1:=hid (HB0.out.trans (b1.mono HB0.out.size));go_wp21;refine zha rfl rfl rfl rfl rfl (zad r1) ?_;refine⟨HB1.setCell (p:=⟨w.heap.size,0,none⟩) (z1d _) _,.inr ⟨HL,?_⟩⟩;have h:=HP.out.2
  cases hq:zbu s with
  |error r=>
   obtain⟨c',p⟩:=r;rw[hq] at h;exact h
  |ok t=>
   rw[hq] at h;obtain⟨g,cap,F',e,R,hz⟩:=h;exact⟨g,cap,F',e,R.kept (zai _ _) (by simp;exact λe=>R.notBox c1 e.symm),hz⟩
theorem zmt {s:Sch} {g:List Ty} {r:Nat×Nat} (h:zbn s g p=.error r):1<=r.1:=by
 unfold zbn at h;split at h
 ·cases h;simp
 ·split at h
  ·cases h;simp
  ·cases h
theorem callT_errR {f x:Ty} {r:Nat×Nat} (h:zjc f x p=.error r):1<=r.1:=by
 unfold zjc at h;split at h
 ·split at h
  ·cases h
  ·cases h;simp
 ·cases h;simp
theorem chk_errR:∀(x:Ex) (e:Env) (r:Nat×Nat),chk x e=.error r->1<=r.1:=by
 intro x
 induction x with
 |nil=>intro e r h;simp[chk] at h
 |node t o x a b iha ihb=>
  intro e r h;rw[chk] at h;split at h
  ·split at h
   ·cases h;simp
   ·exact zmt h
  split at h
  ·exact zmt h
  split at h
  ·cases h
  split at h
  ·split at h
   ·rename_i hq;cases h;exact iha _ _ hq
   ·split at h
    ·cases h;simp
    ·cases h
  split at h
  ·split at h
   ·cases h;simp
   ·split at h
    ·rename_i hq;cases h;exact iha _ _ hq
    ·exact ihb _ _ h
  ·split at h
   ·rename_i hq;cases h;exact iha _ _ hq
   ·split at h
    ·rename_i hq;cases h;exact ihb _ _ hq
    ·exact callT_errR h
theorem typed_err {c:Nat} (h:zbu s=.error (c,p)):1<=c:=by
 unfold zbu at h;split at h
 ·cases h;simp
 ·exact chk_errR _ _ _ h
end
structure Lc (Y:World) (gv:Nat) (l:List Nat) (k:Nat) (wr:World):Prop where
 grown:Y.grownBy wr (some gv)
 size:wr.heap.size=Y.heap.size
 row:∃A,wr.heap[gv]? =some (.cells A 3 (0,0))/\A.size=l.length/\∀j o,j<k->l[j]? =some o->A[j]? =some (zck o)
section
variable {l:List Nat} {gv B n m:Nat} {v:Value} {Y wr w:World} (us:List Tt)
theorem Lc.step {k o:Nat} (h:Lc Y gv l k wr) (hk:k<l.length) (hv:l[k]? =some o):Lc Y gv l (k+1) (wr.setCell ⟨gv,k,none⟩ (iZ o)):=by
 obtain⟨A,hA,hs,hr⟩:=h.row;refine⟨h.grown.trans ⟨rfl,rfl,rfl,by simp[World.setCell],λq _ hn=>Below.heap_setCell _ _ _ _ (by simpa using hn)⟩,by simp only[World.setCell,Array.size_modify];exact h.size,_,set_at hA,by simpa using hs,λj p hj hp=>?_⟩;rcases z1r j k with h1|h1
 ·rw[Array.getElem?_setIfInBounds_ne (by omega)];exact hr j p h1 hp
 ·obtain rfl:j=k:=by omega
  rw[hv] at hp;obtain rfl:=z1q hp;rw[Array.getElem?_setIfInBounds_self_of_lt (by omega)];rfl
def zyr (l:List Nat) (n:Nat) (w:World) (e:Ending) (w':World):Prop:=
 ∃g,e=.returned (sZ g n n)/\w'.ownsRow w.heap.size 3 1 (sZ g n n) n (l.map zck)/\Below w.heap.size w w'
theorem Lc.done (h:Lc Y gv l l.length wr) (hb:Below w.heap.size w Y) (hg:w.heap.size<=gv) (hl:l.length<=1000000):zyr l l.length w (.returned (sZ gv l.length l.length)) wr:=by
 obtain⟨A,hA,hs,hr⟩:=h.row;refine⟨gv,rfl,⟨by simp,.inr ⟨gv,l.length,A,rfl,hg,hA,z1d _,by unfold maxLen;omega,by omega,?_⟩⟩,⟨h.grown.os.trans hb.os,h.grown.tape.trans hb.tape,h.grown.output.trans hb.output,z1c hb.size h.grown.size,λk hk=>(h.grown.block k (z1e hk hb.size) (λe=>by cases e;omega)).trans (hb.block k hk)⟩⟩;refine List.ext_getElem? λj=>?_
 rw[Nat.mul_one,List.getElem?_take,z1n];split
 ·rename_i hj
  rw[Array.getElem?_toList,hr j l[j] hj (z1h hj),z1h hj];rfl
 ·rename_i hj
  rw[List.getElem?_eq_none (by omega)];rfl
theorem copyOf_any (l:List Nat) (v:Value) (w:World) (h:Is w v l) (hl:l.length<=1000000):
 CZ 59 #[v] w (zyr l l.length w):=by
 obtain⟨a,cap,rfl,hv⟩:=h;have hmk:=run_make_row' (P:=Tryz.prog) 63 3 (.int .i64 0) 8 Tryz.underlying63 zye rfl .i64 .i64 l.length (by omega) (by omega);have hA0:(madeCells #[.int .i64 0] l.length).size=l.length:=size_madeCells _ _;generalize madeCells #[.int .i64 0] l.length=A0 at *
 have HB:Hid (Below w.heap.size w (w.alloc (.cells A0 3))):=bal w _;have vY:(w.alloc (.cells A0 3)).heap[w.heap.size]? =some (.cells A0 3 (0,0)):=z1v w _;have sY:(w.alloc (.cells A0 3)).heap.size=w.heap.size+1:=by simp
 go_enter Tryz.func59,Tryz.ntmps59;go_wp21;generalize w.alloc (.cells A0 3)=Y at *
 have HL0:Hid (Lc Y w.heap.size l 0 Y):=⟨⟨rfl,rfl,rfl,z1d _,λ_ _ _=>rfl⟩,rfl,A0,vY,hA0,λj o hj=>by omega⟩
 have HV:=hid hv;clear hv hmk vY hA0
 go_loopw [4] (λi wr=>∃k:Nat,i=.int .i64 (k:Int)/\k<=l.length/\Hid (Lc Y w.heap.size l k wr)) (λi _=>l.length-(intOf i).toNat)
 case atStart=>exact⟨0,rfl,Nat.zero_le _,HL0⟩
 case round=>
  clear HL0;obtain⟨k,rfl,hk,HL⟩:=hrel;rcases z1r k l.length with hlt|hge
  ·obtain⟨n,hn⟩:∃n,l[k]? =some n:=⟨_,z1h hlt⟩
   rcases HV.out with e|⟨g,rfl,hg,hc⟩
   ·rw[e] at hlt;simp at hlt
   have c0:=(z1s (a:=⟨g,k,none⟩) ((HL.out.grown.block g (by omega) (λe=>by cases e;omega)).trans (HB.out.block g hg))).trans (hc k n hn);obtain⟨A,hA,hAs,-⟩:=HL.row;have HST:=hid (HL.out.step hlt hn);obtain⟨u0,hu0⟩:∃u0,A[k]? =some u0:=⟨_,Array.getElem?_eq_getElem (by omega)⟩
   have cA:wr.cell? ⟨w.heap.size,k,none⟩=some u0:=by rw[z1f hA];exact hu0
   have fA:wr.frozen? ⟨w.heap.size,k,none⟩=false:=by simp[World.frozen?,hA]
   have e1:(0:Int)<=(k:Int):=by omega
   have e2:(k:Int)<(l.length:Int):=by omega
   clear hn hc hA hAs hu0;generalize l.length=ll at *
   go_wp21;go_roundw
   case rel=>exact⟨k+1,by simp,by omega,HST⟩
   case measure=>simp[intOf];omega
  ·obtain rfl:k=l.length:=by omega
   have HD:Hid (zyr l l.length w (.returned (sZ w.heap.size l.length l.length)) wr):=HL.out.done HB.out (z1d _) hl;generalize l.length=ll at *
   go_wp21;go_ret;exact HD
theorem add_block (g n j:Nat):((⟨g,n,none⟩:Addr).add j).block=g:=by unfold Addr.add;split<;>rfl
theorem grownB {w1 w':World} (hb:Below w.heap.size w w1) (hg:w1.grownBy w' v.ownBlock) (hv:∀g,v.ownBlock=some g->w.heap.size<=g):Below w.heap.size w w':=
 ⟨hg.os.trans hb.os,hg.tape.trans hb.tape,hg.output.trans hb.output,z1c hb.size hg.size,λk hk=>(hg.block k (z1e hk hb.size) (λe=>by have:=hv k e.symm;omega)).trans (hb.block k hk)⟩
theorem Is.of_row {g cap:Nat} (h:w.ownsRow B 3 1 (sZ g n cap) n (l.map zck)) (hn:n=l.length):Is w (sZ g n cap) l:=by
 refine⟨_,cap,by rw[hn],.inr ⟨g,rfl,(h.lt g rfl).2,λk m hk=>?_⟩⟩;have:=h.cells (g:=g) rfl k (zck m) (by rw[z1n,hk];rfl);have hadd:(⟨g,0,none⟩:Addr).add k=⟨g,k,none⟩:=by unfold Addr.add;split<;>simp_all
 rwa [hadd] at this
theorem rowMono {B':Nat} {e:TypeId} {xs:List Value} (h:w.ownsRow B e n v m xs) (hb:B'<=B):w.ownsRow B' e n v m xs:=by
 obtain⟨h1,h2|⟨g,cap,cur,e1,hB,h3⟩⟩:=h
 ·exact⟨h1,.inl h2⟩
 ·exact⟨h1,.inr ⟨g,cap,cur,e1,z1c hb hB,h3⟩⟩
def zmm (us:List Tt) (k:Nat):Prop:=∀(L v:Value) (l:List Nat) (w:World),l.length+k<=900000->Lr w L us->Is w v l->
 CZ 37 #[L,iZ k,v] w λe w'=>(∃z:Int,e=.returned (.int .i64 z))/\Below w.heap.size w w'
theorem zgx (us:List Tt) (k op c ta tb:Nat) (ga va pa:Option Addr) (gn gc vn vc pn pc tat tto:Nat) (ht:us[k]? =some ⟨op,c,ta,tb,(ga,gn,gc),(va,vn,vc),(pa,pn,pc),tat,tto⟩) (hc:c<256) (hl:us.length<=300000) (H:(op=120\/op=48)\/(op=92/\ta<k/\zmm us ta)\/((op=64\/op=99)/\ta<k/\tb<k/\zmm us ta/\zmm us tb)):zmm us k:=by
 intro L v l w hlk h hv;obtain⟨gg,cg,rfl,hg,_⟩:=id h;have hk:k<us.length:=(z1b.1 ht).1;obtain⟨k0,k1,k2,k3,k4,k5,k6,k7,k8⟩:=h.at ht;have HOW:Hid (Lr w (sZ gg us.length cg) us):=h;have HIS:Hid (Is w v l):=hv;obtain⟨a,cp,rfl,-⟩:=hv;have HH:Hid _:=H;have b0:Below w.heap.size w (w.alloc (ttO op c ta tb ga va pa gn gc vn vc pn pc tat tto)):=bal w _;have hbx:(w.alloc (ttO op c ta tb ga va pa gn gc vn vc pn pc tat tto)).heap[w.heap.size]? =some (.cells (ttA op c ta tb ga va pa gn gc vn vc pn pc tat tto) 76 (0,0)):=z1v w _;have zW:(w.alloc (ttO op c ta tb ga va pa gn gc vn vc pn pc tat tto)).heap.size=w.heap.size+1:=by simp
 have HB0:Hid _:=b0;have HISW:Hid (Is (w.alloc (ttO op c ta tb ga va pa gn gc vn vc pn pc tat tto)).drew (.slice a l.length cp) l):=HIS.out.below b0.drew;have HOWW:Hid (∀X,Below w.heap.size w X->Lr X (sZ gg us.length cg) us):=λX hX=>HOW.out.below hX
 have HISX:Hid (∀X,Below w.heap.size w X->Is X (.slice a l.length cp) l):=λX hX=>HIS.out.below hX
 have HCP:Hid (∀X,Is X (.slice a l.length cp) l->CZ 59 #[.slice a l.length cp] X (zyr l l.length X)):=λX hX=>copyOf_any l _ X hX (by omega)
 have HIN:Hid (∀X,Is X (.slice a l.length cp) l->CZ 60 #[.slice a l.length cp,iZ c] X λe w'=>e=.returned (.bool (l.contains c))/\w'=X):=λX hX=>zjy l _ c X hX (by omega)
 have HIR:Hid (∀X B g cap,X.ownsRow B 3 1 (sZ g (l.length+1) cap) (l.length+1) (l.map zck++[zck c])->Is X (sZ g (l.length+1) cap) (l++[c])):=λX B g cap hX=>Is.of_row (B:=B) (by simpa using hX) (by simp)
 have HMO:Hid (∀m,m<k->zmm us m->∀X v8,Below w.heap.size w X->Is X v8 (l++[c])->CZ 37 #[sZ gg us.length cg,iZ m,v8] X λe w'=>(∃z:Int,e=.returned (.int .i64 z))/\Below X.heap.size X w'):=λm hm hF X v8 hX h8=>hF _ _ (l++[c]) X (by simp;omega) (HOWW.out X hX) h8
 have HSA:Hid (∀m,m<k->zmm us m->∀X,Below w.heap.size w X->CZ 37 #[sZ gg us.length cg,iZ m,.slice a l.length cp] X λe w'=>(∃z:Int,e=.returned (.int .i64 z))/\Below X.heap.size X w'):=λm hm hF X hX=>hF _ _ l X (by omega) (HOWW.out X hX) (HISX.out X hX)
 clear ht h H b0;obtain⟨i0,hi0,hz0,hz1,hz2⟩:=info_parts zyq;have u1:IntKind.i64.wrap (c:Int)=(c:Int):=IntWalk.i64_in _ ⟨by omega,by omega⟩;have hll:l.length<=900000:=by omega
 have HLL:Hid (l.length<=900000):=hll;go_enter Tryz.func37,Tryz.ntmps37;go_wp21;clear k0 k1 k2 k3 k4 k5 k6 k7 k8;generalize w.alloc (ttO op c ta tb ga va pa gn gc vn vc pn pc tat tto)=W at *
 have x1:cZ W w.heap.size 1 (uZ c):=cbl hbx;generalize l.length=ll at *
 generalize us.length=ul at *
 have HBX:Hid (W.heap[w.heap.size]? =some (.cells (ttA op c ta tb ga va pa gn gc vn vc pn pc tat tto) 76 (0,0))):=hbx;clear hbx
 go_cut [8] from 15 to 21 (λv8 wx=>∃g8 cp8,v8=(sZ g8 (ll+1) cp8)/\Is wx (sZ g8 (ll+1) cp8) (l++[c])/\Below W.heap.size W wx)
 case first=>
  refine wp_region_held_drew (S:=(λwq=>cZ wq w.heap.size 1 (uZ c))) (by kernel_rfl) (x1) (λhS=>?_);refine tkS 0 (.slice a ll cp) hS ?_;refine tkS 2 (.pointer (some ⟨w.heap.size,1,none⟩)) hS ?_;refine tkL 3 (uZ c) hS ?_;refine tkS 4 (iZ c) hS ?_;refine wpAnyH_ready (rs:=[1,5]) (by kernel_rfl) (by simp) ?_;refine AllReadyH.cons rfl (λKK hK=>?one) (AllReadyH.cons rfl (λKK hK=>?two) AllReadyH.nil)
  case' one=>
   go_simp;go_at_call 59;refine(HCP W.drew HISW).mono ?_;rintro e w1 ⟨g,rfl,o1,b1⟩;have y1:cZ w1 w.heap.size 1 (uZ c):=(b1.cell (p:=⟨w.heap.size,1,none⟩) (by show w.heap.size<W.heap.size;omega)).trans x1;have s1:W.heap.size<=w1.heap.size:=b1.size;have HO1:Hid (w1.ownsRow W.heap.size 3 1 (sZ g ll ll) ll (l.map zck)):=o1;have HB1:Hid (Below W.heap.size W w1):=(Below.refl _ W).drew.trans (b1.mono (by rw[znj];exact z1d _));have y2:(w1.alloc (.cells #[iZ c] 3)).cell? ⟨w.heap.size,1,none⟩=some (uZ c):=(z1o _ _ ⟨w.heap.size,1,none⟩ (by show w.heap.size<w1.heap.size;omega)).trans y1;clear o1 b1;refine hK.out _ _ y1 (λhS=>nrm ?_);refine rd1 5 (λKK hK=>?_);go_simp;refine hK.out _ _ y2 (λhS=>nrm ?_);refine rd1 6 (λKK hK=>?_);refine step_append_lies _ (by rfl) _ _ _ (by rfl) W.heap.size 3 i0 _ 1 8 Tryz.underlying63 hi0 hz0 hz1 hz2 rfl (by omega) (sZ g ll ll) ll (l.map zck) (by rfl) (HO1.out.alloc _) ⟨w1.heap.size,0,none⟩ 1 1 [zck c] (by rfl) (by rfl) (zlf w1 c) (by simp[Value.oneCell',zck]) (by omega) (by unfold maxLen;omega) (by omega) (by simp;omega) (w1.heap.size+1) (by simp) ?_;intro g5 cap5 w5 hown5 hgrow5 hat5 hlt5;have HB5:Hid (Below W.heap.size W w5):=grownB (HB1.out.alloc s1 _) hgrow5 (λq e=>(HO1.out.lt q e).1)
  case' two=>
   go_simp;have y2:(W.drew.alloc (.cells #[iZ c] 3)).cell? ⟨w.heap.size,1,none⟩=some (uZ c):=(z1o _ _ ⟨w.heap.size,1,none⟩ (by show w.heap.size<W.heap.size;omega)).trans x1;have HBA:Hid (Below W.heap.size W (W.drew.alloc (.cells #[iZ c] 3))):=((Below.refl _ W).drew).alloc (z1d _) _;have sA:(W.drew.alloc (.cells #[iZ c] 3)).heap.size=W.heap.size+1:=by simp[znj]
   have HNA:Hid (∀j u,[zck c][j]? =some u->(W.drew.alloc (.cells #[iZ c] 3)).cell? ((⟨w.heap.size+1,0,none⟩:Addr).add j)=some u):=by have:=zlf W.drew c;rw[znj,zW] at this;exact this
   have HISA:Hid (Is (W.drew.alloc (.cells #[iZ c] 3)) (.slice a ll cp) l):=Is.below HISW.out (((Below.refl _ W.drew)).alloc (z1d _) _);refine hK.out _ _ y2 (λhS=>nrm ?_);refine rd1 1 (λKK hK=>?_);go_simp;go_at_call 59;refine(HCP _ HISA).mono ?_;rintro e w1 ⟨g,rfl,o1,b1⟩;generalize W.drew.alloc (.cells #[iZ c] 3)=Z at *
   have y1:cZ w1 w.heap.size 1 (uZ c):=(b1.cell (p:=⟨w.heap.size,1,none⟩) (by show w.heap.size<Z.heap.size;omega)).trans y2;have s1:Z.heap.size<=w1.heap.size:=b1.size;have HO1:Hid (w1.ownsRow Z.heap.size 3 1 (sZ g ll ll) ll (l.map zck)):=o1;have HB1:Hid (Below W.heap.size W w1):=HBA.out.trans (b1.mono HBA.out.size);have HN1:Hid (∀j u,[zck c][j]? =some u->w1.cell? ((⟨w.heap.size+1,0,none⟩:Addr).add j)=some u):=λj u hj=>(b1.cell (by rw[add_block];omega)).trans (HNA.out j u hj)
   clear o1 b1;refine hK.out _ _ y1 (λhS=>nrm ?_);refine rd1 6 (λKK hK=>?_);refine step_append_lies _ (by rfl) _ _ _ (by rfl) W.heap.size 3 i0 _ 1 8 Tryz.underlying63 hi0 hz0 hz1 hz2 rfl (by omega) (sZ g ll ll) ll (l.map zck) (by rfl) (rowMono HO1.out (by omega)) ⟨w.heap.size+1,0,none⟩ 1 1 [zck c] (by rfl) (by rfl) HN1.out (by simp[Value.oneCell',zck]) (by omega) (by unfold maxLen;omega) (by omega) (by omega) w1.heap.size rfl ?_;intro g5 cap5 w5 hown5 hgrow5 hat5 hlt5;have HB5:Hid (Below W.heap.size W w5):=grownB HB1.out hgrow5 (λq e=>by have:=(HO1.out.lt q e).1;omega)
  all_goals
   have HIS5:Hid (Is w5 (sZ g5 (ll+1) cap5) (l++[c])):=HIR.out _ _ _ _ hown5;have y5:cZ w5 w.heap.size 1 (uZ c):=(HB5.out.cell (p:=⟨w.heap.size,1,none⟩) (by show w.heap.size<W.heap.size;omega)).trans x1;clear hown5 hgrow5 hat5 hlt5;refine hK.out _ _ y5 (λhS=>nrm ?_);refine tkS 7 (sZ g5 (ll+1) cap5) hS ?_;refine wpAnyH_done (by kernel_rfl) ?_ _;go_wp21;go_meet
   case rel=>exact⟨g5,cap5,rfl,HIS5,HB5⟩
 case rest=>
  obtain⟨g8,cp8,rfl,i8,b8⟩:=hcut;generalize wc=X at *
  have HI8:Hid (Is X (sZ g8 (ll+1) cp8) (l++[c])):=i8;have HBX8:Hid (Below w.heap.size w X):=HB0.out.trans (b8.mono HB0.out.size);have bx:X.heap[w.heap.size]? =some (.cells (ttA op c ta tb ga va pa gn gc vn vc pn pc tat tto) 76 (0,0)):=(b8.block w.heap.size (by omega)).trans HBX.out;have sX:w.heap.size<X.heap.size:=by have:=b8.size;omega
  have z0:cZ X w.heap.size 0 (uZ op):=cbl bx;have z1:cZ X w.heap.size 1 (uZ c):=cbl bx;have z2:cZ X w.heap.size 2 (iZ ta):=cbl bx;have z3:cZ X w.heap.size 3 (iZ tb):=cbl bx;have z7:cZ X w.heap.size 7 (iZ tat):=cbl bx;clear i8 b8 bx x1 HISW HIR HCP hi0 hz0 hz1 hz2;rcases HH.out with (rfl|rfl)|⟨rfl,la,fa⟩|⟨rfl|rfl,la,lb,fa,fb⟩
  ·go_wp21
   refine(HIN X (HISX X HBX8)).mono ?_;rintro e w' ⟨rfl,rfl⟩;generalize l.contains c=bb
   cases bb with
   |true=>
    go_wp21;go_ret;exact⟨⟨_,rfl⟩,HBX8⟩
   |false=>
    by_cases h1:c<97
    ·have e1:decide ((c:Int)<97)=true:=by simp;omega
     go_wp21;go_ret;exact⟨⟨_,rfl⟩,HBX8⟩
    ·have e1:decide ((c:Int)<97)=false:=by simp;omega
     by_cases h2:122<c
     ·have e2:decide ((122:Int)<(c:Int))=true:=by simp;omega
      go_wp21;go_ret;exact⟨⟨_,rfl⟩,HBX8⟩
     ·have e2:decide ((122:Int)<(c:Int))=false:=by simp;omega
      go_wp21;go_ret;exact⟨⟨_,rfl⟩,HBX8⟩
  ·go_wp21
   go_ret;exact⟨⟨_,rfl⟩,HBX8⟩
  ·have C:=HMO.out ta la fa X _ HBX8.out HI8.out
   go_wp21;refine C.mono ?_;rintro e w' ⟨⟨z,rfl⟩,b⟩;have HE:Hid (Below w.heap.size w w'):=HBX8.out.trans (b.mono HBX8.out.size);go_wp21;go_ret;exact⟨⟨_,rfl⟩,HE⟩
  ·have C:=HSA.out ta la fa X HBX8.out
   go_wp21;refine C.mono ?_;rintro e w' ⟨⟨z,rfl⟩,b⟩;have HE:Hid (Below w.heap.size w w'):=HBX8.out.trans (b.mono HBX8.out.size);have C2:=HMO.out tb lb fb w' _ HE.out (HI8.out.below b);have t0:=(b.cell (p:=⟨w.heap.size,0,none⟩) sX).trans z0;have t3:=(b.cell (p:=⟨w.heap.size,3,none⟩) sX).trans z3;clear z0 z1 z2 z3 z7;by_cases hz:0<=z
   ·have e1:decide ((0:Int)<=z)=true:=by simp;omega
    go_wp21;go_ret;exact⟨⟨_,rfl⟩,HE⟩
   ·have e1:decide ((0:Int)<=z)=false:=by simp;omega
    go_wp21;refine C2.mono ?_;rintro e w2 ⟨⟨z',rfl⟩,b2⟩;have HE2:Hid (Below w.heap.size w w2):=HE.out.trans (b2.mono HE.out.size);go_wp21;go_ret;exact⟨⟨_,rfl⟩,HE2⟩
  ·have C:=HSA.out ta la fa X HBX8.out
   go_wp21;refine C.mono ?_;rintro e w' ⟨⟨z,rfl⟩,b⟩;have HE:Hid (Below w.heap.size w w'):=HBX8.out.trans (b.mono HBX8.out.size);have C2:=HSA.out tb lb fb w' HE.out;have t0:=(b.cell (p:=⟨w.heap.size,0,none⟩) sX).trans z0;have t3:=(b.cell (p:=⟨w.heap.size,3,none⟩) sX).trans z3;clear z0 z1 z2 z3 z7;by_cases hz:0<=z
   ·have e1:decide ((0:Int)<=z)=true:=by simp;omega
    go_wp21;go_ret;exact⟨⟨_,rfl⟩,HE⟩
   ·have e1:decide ((0:Int)<=z)=false:=by simp;omega
    go_wp21;refine C2.mono ?_;rintro e w2 ⟨⟨z',rfl⟩,b2⟩;have HE2:Hid (Below w.heap.size w w2):=HE.out.trans (b2.mono HE.out.size);go_wp21;go_ret;exact⟨⟨_,rfl⟩,HE2⟩
theorem free_all {W:World} {tz:Bool} (hl:us.length<=300000):∀{x:Ex} {k:Nat},Sd W us x k->EOk tz m x->zmm us k:=by
 intro x
 induction x with
 |nil=>intro k h;exact h.elim
 |node t o x a b iha ihb=>
  rintro k ⟨⟨op,c,ta,tb,⟨ga,gn,gc⟩,⟨va,vn,vc⟩,⟨pa,pn,pc⟩,tat,tto⟩,hu,h⟩ ho;have hA:=ho
  have hx:t<=4->x.c<256:=by
   rcases ho with ⟨rfl,hc,_⟩|⟨rfl,hc,_⟩|⟨rfl,hc,_⟩|⟨rfl,hc,_⟩|⟨rfl,hc,_⟩|⟨rfl,_⟩
   ·exact λ_=>(zlx hc).1
   ·exact λ_=>(con_is hc).1
   ·exact λ_=>(lit_is hc).1
   ·exact λ_=>(zlx hc).1
   ·exact λ_=>(zlx hc).1
   ·intro h;omega
  rcases h with ⟨h1,rfl,rfl,_⟩|⟨h1,rfl,rfl⟩|⟨rfl,rfl,rfl,_,_,h6,h7⟩|⟨rfl,rfl,⟨rfl,_⟩,_,_,h6,h7,h8,h9⟩|⟨rfl,rfl,⟨rfl,_⟩,h4,h5,h6,h7⟩
  ·exact zgx us k _ _ _ _ _ _ _ _ _ _ _ _ _ _ _ hu (hx (by omega)) hl (.inl (.inl rfl))
  ·exact zgx us k _ _ _ _ _ _ _ _ _ _ _ _ _ _ _ hu (hx (by omega)) hl (.inl (.inr rfl))
  ·have ha:EOk tz m a:=by rcases hA with ⟨e,_⟩|⟨e,_⟩|⟨e,_⟩|⟨_,_,_,_,ha,_⟩|⟨e,_⟩|⟨e,_⟩<;>first|exact ha|cases e
   exact zgx us k _ _ _ _ _ _ _ _ _ _ _ _ _ _ _ hu (hx (by omega)) hl (.inr (.inl ⟨rfl,h6,iha h7 ha⟩))
  ·have ha:EOk tz m a/\EOk tz m b:=by rcases hA with ⟨e,_⟩|⟨e,_⟩|⟨e,_⟩|⟨e,_⟩|⟨_,_,_,ha,hb⟩|⟨e,_⟩<;>first|exact⟨ha,hb⟩|cases e
   exact zgx us k _ _ _ _ _ _ _ _ _ _ _ _ _ _ _ hu (hx (by omega)) hl (.inr (.inr ⟨.inl rfl,h6,h7,iha h8 ha.1,ihb h9 ha.2⟩))
  ·have ha:EOk tz m a/\EOk tz m b:=by rcases hA with ⟨e,_⟩|⟨e,_⟩|⟨e,_⟩|⟨e,_⟩|⟨e,_⟩|⟨_,ha,hb⟩<;>first|exact⟨ha,hb⟩|cases e
   exact zgx us k _ _ _ _ _ _ _ _ _ _ _ _ _ _ _ hu (by decide) hl (.inr (.inr ⟨.inr rfl,h4,h5,iha h6 ha.1,ihb h7 ha.2⟩))
theorem print_ends (s:ByteArray) (x:Ex) (w:World) (hs:s.size<=24) (hr:zaz s false=.ok x) (hz:xz x<=60000):
 CZ 13 #[.string s] w λe w'=>(∃F,e=.returned (.tuple #[.string F,.int .i64 0,.int .i64 0]))/\Below w.heap.size w w':=by
 have RD:=hid (λX=>znx false s X (by omega));have HQ:=hid hr;have HZ:=hid hz;have d1:decide ((24:Int)<(s.size:Int))=false:=by simp;omega
 go_enter Tryz.func13,Tryz.ntmps13;go_wp21;refine(RD w).mono ?_;rintro e w1 ⟨b1,hp⟩;rw[HQ.out] at hp;obtain⟨L,ts,k,rfl,hk,hl,hL,hS⟩:=hp;have BR:Hid (CZ 33 #[L] w1 λe w'=>e=.returned (.string ⟨(frm x).toArray⟩)/\Below w1.heap.size w1 w'):=bare_sd ts L _ k x w1 (by omega) hk hS (zfz HQ.out) HZ.out hL;have HB1:=hid b1;obtain⟨g,cap,rfl,hg,_⟩:=hL;go_wp21;refine BR.mono ?_;rintro e w2 ⟨rfl,b2⟩;have HB2:=hid (HB1.out.trans (b2.mono HB1.out.size));go_wp21;go_ret3;exact⟨⟨_,rfl⟩,HB2⟩
theorem open_any (s:ByteArray) (x:Ex) (w:World) (hs:s.size<=24) (hr:zaz s false=.ok x) (hz:xz x<=60000):
 CZ 19 #[.string s] w λe w'=>(∃x y:Int,e=.returned (.tuple #[.int .i64 x,.int .i64 y]))/\Below w.heap.size w w':=by
 have RP:Hid _:=λX=>print_ends s x X hs hr hz
 have RD:=hid (λX=>znx false s X (by omega));have HQ:=hid hr;go_enter Tryz.func19,Tryz.ntmps19;go_wp21;refine(RP w).mono ?_;rintro e w1 ⟨⟨F,rfl⟩,b1⟩;have HB1:=hid b1;go_wp21;refine(RD w1).mono ?_;rintro e w2 ⟨b2,hp⟩;rw[HQ.out] at hp;obtain⟨L,us,k,rfl,hk,hl,hL,hS⟩:=hp;have HB2:=hid (HB1.out.trans (b2.mono HB1.out.size));have C:Hid (CZ 37 #[L,iZ k,.slice none 0 0] w2 λe w'=>(∃z:Int,e=.returned (.int .i64 z))/\Below w2.heap.size w2 w'):=free_all us hl hS (zfz HQ.out) L _ [] w2 (by simp;omega) hL ⟨none,0,rfl,.inl rfl⟩;obtain⟨g,cap,rfl,hg,_⟩:=hL;have hk':(us.length:Int)-1=(k:Int):=by omega
 generalize us.length=ul at *
 go_wp21;refine C.mono ?_;rintro e w3 ⟨⟨z,rfl⟩,b3⟩;have HB3:=hid (HB2.out.trans (b3.mono HB2.out.size));by_cases hz:0<=z
 ·have e1:decide ((0:Int)<=z)=true:=by simp;omega
  go_wp21;go_ret2;exact⟨⟨_,_,rfl⟩,HB3⟩
 ·have e1:decide ((0:Int)<=z)=false:=by simp;omega
  go_wp21;go_ret2;exact⟨⟨_,_,rfl⟩,HB3⟩
end
end Go.Proofs.YtceadeaodbadlaaGreatDoor
