import Derived.Test.YtceadeaodbadlaaGreatDoorGeneralP5
import Derived.Deep.RegionWith
import Derived.Deep.RegionHeld3
import Derived.Deep.DeepCutAuto
set_option linter.unusedVariables false
set_option linter.unusedSimpArgs false
set_option maxRecDepth 100000
set_option maxHeartbeats 16000000
namespace Go.Proofs.YtceadeaodbadlaaGreatDoor
open Go.RowKit
theorem zof (B b:Nat) (l:List UInt8) (s:ByteArray) (w:World) (h:Bu B b l w) (hlen:l.length+s.size<=140737488355328) (hBw:B<=w.heap.size):
 CZ 164 #[pZ b,.string s] w λe w'=>e=.returned (.tuple #[.int .i64 s.size,.nilIface])/\Bu B b (l++s.data.toList) w'/\Kb B b w w':=by
 have hlen':(Lib.byteCells l).length+s.size<=140737488355328:=by rw[Lib.byteCells_length];exact hlen
 have heq:Lib.byteCells (l++s.data.toList)=Lib.byteCells l++Lib.strCells s:=by rw[Lib.strCells_eq];simp[Lib.byteCells]
 unfold Bu at *
 rw[heq];generalize Lib.byteCells l=bs at *
 obtain⟨i0,hi,hz0,hz1,hz2⟩:=info_parts infoByte;go_enter Tryz.func164,Tryz.ntmps164;go_wp21;refine(ziw B b bs _ h).mono ?_;rintro e w1 ⟨rfl,h1,hb1,hk1⟩;obtain⟨hB,v,hbk,hown,hne⟩:=h1;have c0:cZ w1 b 0 (pZ b):=cbl hbk;have c1:cZ w1 b 1 v:=cbl hbk
 go_wp2_with (at_builtin;refine Lib.wpList_append_own_stringF _ rfl _ _ 46 9 rfl B 5 i0 Tryz.underlying46 Tryz.underlying9 hi hz0 hz1 hz2 _ _ _ rfl hown s rfl ?c3 ?c4 ?c5 ?_)
 case c3=>unfold maxLen;omega
 case c4=>omega
 case c5=>have:=hb1.size;omega
 intro v' w2 hown' hgrow _;have hlt:=(z1a.1 hbk).1
 have hb2:w2.heap[b]? =some (.cells #[pZ b,v] 165 (0,0)):=by
  rw[hgrow.block b hlt (λe=>hne e.symm)];exact hbk
 have d0:cZ w2 b 0 (pZ b):=cbl hb2;have d1:cZ w2 b 1 v:=cbl hb2;have f1:=z1g hb2 1
 obtain⟨ao,n',cap,rfl⟩:∃ao n' cap,v'=.slice ao n' cap:=by
  rcases hown'.2 with ⟨hv,_⟩|⟨g,cap,cur,fz,hv,_⟩
  ·exact⟨_,_,_,hv⟩
  ·exact⟨_,_,_,hv⟩
 go_wp2;go_ret2;refine⟨rfl,.inr ?_,?_,(hk1.grown hgrow (Lib.ownsRowF_kind hown)).setCell ⟨b,1,none⟩ rfl _⟩
 ·exact Lib.BuilderAtF.put (T:=165) (e:=5) hB hb2 (bs':=bs++Lib.strCells s) (by simpa [Lib.strCells_length] using hown') (by decide)
 ·exact(hb1.grown hgrow (by have:=hb1.size;omega) (λk hk=>(hown.lt k hk).1)).setCell (p:=⟨b,1,none⟩) hB _
theorem zwt (B wb k1 k2:Nat) (n:List Nat) (l:List UInt8) (sp:List Spn) (w:World) (h:Wt none B wb k1 k2 n l sp w) (b e:Nat) (hbe:b<=e) (he:e<=l.length) (hl:l.length+(e-b)<=140737488355328) (hB:B<=w.heap.size):
 CZ 133 #[pZ wb,.agg #[iZ b,iZ e]] w λr w'=>r=.returned (.tuple #[])/\w'=((w.setCell ⟨wb,1,none⟩ (.int .i64 ((l.length:Int)+((e:Int)-(b:Int))))).alloc (.cells #[iZ b,iZ e] 217)).drew:=by
 have hlt:=h.wi.lt;have hmg:∀k,w.heap.size<=k->none≠some k:=λk hk ee=>by have:=(h.wi.bu _ ee).1.le.2;omega
 have HW:=h.wi.alloc (.cells #[iZ b,iZ e] 217);have d0:(w.alloc (.cells #[iZ b,iZ e] 217)).cell? ⟨w.heap.size,0,none⟩=some (iZ b):=by simp
 have d1:(w.alloc (.cells #[iZ b,iZ e] 217)).cell? ⟨w.heap.size,1,none⟩=some (iZ e):=by simp
 have q0:(w.alloc (.cells #[iZ b,iZ e] 217)).heap[w.heap.size]? =some (.cells #[iZ b,iZ e] 217 (0,0)):=z1v w _;have c1:(w.alloc (.cells #[iZ b,iZ e] 217)).cell? ⟨wb,1,none⟩=some (iZ l.length):=by rw[z1f HW.blk];rfl
 have f1:=z1g HW.blk 1;have hw1:IntKind.i64.wrap ((e:Int)-(b:Int))=(e:Int)-(b:Int):=by rw[IntKind.wrap_i64];omega
 have hw2:IntKind.i64.wrap ((l.length:Int)+((e:Int)-(b:Int)))=(l.length:Int)+((e:Int)-(b:Int)):=by rw[IntKind.wrap_i64];omega
 have hsz:(w.setCell ⟨wb,1,none⟩ (.int .i64 ((l.length:Int)+((e:Int)-(b:Int))))).heap.size=w.heap.size:=by simp[World.setCell]
 have qp:((w.setCell ⟨wb,1,none⟩ (.int .i64 ((l.length:Int)+((e:Int)-(b:Int))))).alloc (.cells #[iZ b,iZ e] 217)).heap[w.heap.size]? =some (.cells #[iZ b,iZ e] 217 (0,0)):=by
  have:=z1v (w.setCell ⟨wb,1,none⟩ (.int .i64 ((l.length:Int)+((e:Int)-(b:Int))))) (.cells #[iZ b,iZ e] 217);rw[hsz] at this;exact this
 have p0:((w.setCell ⟨wb,1,none⟩ (.int .i64 ((l.length:Int)+((e:Int)-(b:Int))))).alloc (.cells #[iZ b,iZ e] 217)).cell? ⟨w.heap.size,0,none⟩=some (iZ b):=cbl qp;have p1:((w.setCell ⟨wb,1,none⟩ (.int .i64 ((l.length:Int)+((e:Int)-(b:Int))))).alloc (.cells #[iZ b,iZ e] 217)).cell? ⟨w.heap.size,1,none⟩=some (iZ e):=cbl qp;have c0:(w.alloc (.cells #[iZ b,iZ e] 217)).cell? ⟨wb,0,none⟩=some (.pointer none):=by rw[z1f HW.blk];rfl
 have c0':((w.setCell ⟨wb,1,none⟩ (.int .i64 ((l.length:Int)+((e:Int)-(b:Int))))).alloc (.cells #[iZ b,iZ e] 217)).cell? ⟨wb,0,none⟩=some (.pointer none):=by
  rw[z1o _ _ _ (by rw[hsz];exact hlt),z1f (h.wi.set _)];rfl
 go_enter Tryz.func133,Tryz.ntmps133;go_wp21;refine wp_region_held_drew (S:=(λwq=>cZ wq w.heap.size 0 (iZ b)/\cZ wq w.heap.size 1 (iZ e))) (by kernel_rfl) (⟨d0,d1⟩) (λhS=>?_);refine tkS 0 (pZ wb) hS ?_;refine tkS 1 (pZ wb) hS ?_;refine tkS 2 (.pointer (some ⟨wb,1,none⟩)) hS ?_;refine tkS 4 (.pointer (some ⟨w.heap.size,1,none⟩)) hS ?_;refine tkL 5 (iZ e) hS ?_;refine tkS 6 (pZ w.heap.size) hS ?_;refine tkL 7 (iZ b) hS ?_;refine tkS 8 (.int .i64 ((e:Int)-(b:Int))) hS ?_;refine rd1 3 (λKK hK=>?_);go_simp;refine hK.out _ _ ⟨d0,d1⟩ (λhS=>nrm ?_);refine tkS 9 (.int .i64 ((l.length:Int)+((e:Int)-(b:Int)))) hS ?_;refine tkS 10 (pZ wb) hS ?_;refine tkS 11 (.pointer (some ⟨wb,1,none⟩)) hS ?_;refine rd1 12 (λKK hK=>?_);go_simp;refine hK.out _ _ ⟨p0,p1⟩ (λhS=>nrm ?_);refine wpAnyH_done (by kernel_rfl) ?_ _;go_wp21;go_end0;exact⟨rfl,rfl⟩
theorem zuk (B tb wb k1 k2:Nat) (n:List Nat) (l:List UInt8) (sp:List Spn) (w:World) (h:Wt (some tb) B wb k1 k2 n l sp w) (b e:Nat) (hbe:b<=e) (he:e<=l.length) (hl:l.length+(e-b)<=140737488355328) (hB:B<=w.heap.size):
 CZ 133 #[pZ wb,.agg #[.int .i64 (b:Int),.int .i64 (e:Int)]] w λr w'=>r=.returned (.tuple #[])/\Bu B tb (l++((⟨l.toArray⟩:ByteArray).extract b e).data.toList) w'/\Kb B tb ((w.setCell ⟨wb,1,none⟩ (.int .i64 ((l.length:Int)+((e:Int)-(b:Int))))).alloc (.cells #[.int .i64 (b:Int),.int .i64 (e:Int)] 217)) w':=by
 have hlt:=h.wi.lt;have hmg:∀k,w.heap.size<=k->(some tb)≠some k:=λk hk ee=>by have:=(h.wi.bu _ ee).1.le.2;omega
 have HW:=h.wi.alloc (.cells #[.int .i64 (b:Int),.int .i64 (e:Int)] 217);have d0:(w.alloc (.cells #[.int .i64 (b:Int),.int .i64 (e:Int)] 217)).cell? ⟨w.heap.size,0,none⟩=some (.int .i64 (b:Int)):=by simp
 have d1:(w.alloc (.cells #[.int .i64 (b:Int),.int .i64 (e:Int)] 217)).cell? ⟨w.heap.size,1,none⟩=some (.int .i64 (e:Int)):=by simp
 have q0:(w.alloc (.cells #[.int .i64 (b:Int),.int .i64 (e:Int)] 217)).heap[w.heap.size]? =some (.cells #[.int .i64 (b:Int),.int .i64 (e:Int)] 217 (0,0)):=z1v w _;have c1:(w.alloc (.cells #[.int .i64 (b:Int),.int .i64 (e:Int)] 217)).cell? ⟨wb,1,none⟩=some (.int .i64 (l.length:Int)):=by rw[z1f HW.blk];rfl
 have f1:=z1g HW.blk 1;have hw1:IntKind.i64.wrap ((e:Int)-(b:Int))=(e:Int)-(b:Int):=by rw[IntKind.wrap_i64];omega
 have hw2:IntKind.i64.wrap ((l.length:Int)+((e:Int)-(b:Int)))=(l.length:Int)+((e:Int)-(b:Int)):=by rw[IntKind.wrap_i64];omega
 have hsz:(w.setCell ⟨wb,1,none⟩ (.int .i64 ((l.length:Int)+((e:Int)-(b:Int))))).heap.size=w.heap.size:=by simp[World.setCell]
 have qp:((w.setCell ⟨wb,1,none⟩ (.int .i64 ((l.length:Int)+((e:Int)-(b:Int))))).alloc (.cells #[.int .i64 (b:Int),.int .i64 (e:Int)] 217)).heap[w.heap.size]? =some (.cells #[.int .i64 (b:Int),.int .i64 (e:Int)] 217 (0,0)):=by
  have:=z1v (w.setCell ⟨wb,1,none⟩ (.int .i64 ((l.length:Int)+((e:Int)-(b:Int))))) (.cells #[.int .i64 (b:Int),.int .i64 (e:Int)] 217);rw[hsz] at this;exact this
 have p0:((w.setCell ⟨wb,1,none⟩ (.int .i64 ((l.length:Int)+((e:Int)-(b:Int))))).alloc (.cells #[.int .i64 (b:Int),.int .i64 (e:Int)] 217)).cell? ⟨w.heap.size,0,none⟩=some (.int .i64 (b:Int)):=cbl qp;have p1:((w.setCell ⟨wb,1,none⟩ (.int .i64 ((l.length:Int)+((e:Int)-(b:Int))))).alloc (.cells #[.int .i64 (b:Int),.int .i64 (e:Int)] 217)).cell? ⟨w.heap.size,1,none⟩=some (.int .i64 (e:Int)):=cbl qp;have c0:(w.alloc (.cells #[.int .i64 (b:Int),.int .i64 (e:Int)] 217)).cell? ⟨wb,0,none⟩=some (pZ tb):=by rw[z1f HW.blk];rfl
 have c0':((w.setCell ⟨wb,1,none⟩ (.int .i64 ((l.length:Int)+((e:Int)-(b:Int))))).alloc (.cells #[.int .i64 (b:Int),.int .i64 (e:Int)] 217)).cell? ⟨wb,0,none⟩=some (pZ tb):=by
  rw[z1o _ _ _ (by rw[hsz];exact hlt),z1f (h.wi.set _)];rfl
 obtain⟨U0,hne0⟩:=h.wi.bu tb rfl;have U2:Bu B tb l ((w.setCell ⟨wb,1,none⟩ (.int .i64 ((l.length:Int)+((e:Int)-(b:Int))))).alloc (.cells #[.int .i64 (b:Int),.int .i64 (e:Int)] 217)):=(U0.far h.wi.blk (by decide) hne0 _).alloc _;have s2:B<=((w.setCell ⟨wb,1,none⟩ (.int .i64 ((l.length:Int)+((e:Int)-(b:Int))))).alloc (.cells #[.int .i64 (b:Int),.int .i64 (e:Int)] 217)).heap.size:=by simp[hsz];omega
 have z1:((w.setCell ⟨wb,1,none⟩ (.int .i64 ((l.length:Int)+((e:Int)-(b:Int))))).alloc (.cells #[.int .i64 (b:Int),.int .i64 (e:Int)] 217)).heap[wb]? =some (.cells #[wtp (some tb),(.int .i64 ((l.length:Int)+((e:Int)-(b:Int)))),.map (some k1),.map (some k2)] 170 (0,0)):=by
  rw[Lib.alloc_old _ _ _ (by rw[hsz];exact hlt)];exact h.wi.set _
 have z2:=qp;have hsize:(⟨l.toArray⟩:ByteArray).size=l.length:=by simp[ByteArray.size]
 have hts:((⟨l.toArray⟩:ByteArray).extract b e).size=e-b:=by rw[ByteArray.size_extract,hsize];omega
 have hl3:l.length+((⟨l.toArray⟩:ByteArray).extract b e).size<=140737488355328:=by rw[hts];exact hl
 have hbe1:(0:Int)<=(b:Int):=by omega
 have hbe2:(b:Int)<=(e:Int):=by omega
 have hbe3:(e:Int)<=((⟨l.toArray⟩:ByteArray).size:Int):=by rw[hsize];omega
 have hsl:∀wx:World,(Instr.slice 9 (.string ⟨l.toArray⟩) (some (.int .i64 (b:Int))) (some (.int .i64 (e:Int))) none).run Tryz.prog wx=.ok (.string ((⟨l.toArray⟩:ByteArray).extract b e)) wx:=λwx=>by
  have:=run_slice_string (P:=Tryz.prog) wx 9 ⟨l.toArray⟩ .i64 .i64 (b:Int) (e:Int) Tryz.underlying9 hbe1 hbe2 hbe3;simpa using this
 have KF:Hid (∀u u':World,u.heap[wb]? =some (.cells #[wtp (some tb),(.int .i64 ((l.length:Int)+((e:Int)-(b:Int)))),.map (some k1),.map (some k2)] 170 (0,0))->u.heap[w.heap.size]? =some (.cells #[.int .i64 (b:Int),.int .i64 (e:Int)] 217 (0,0))->Kw (some tb) B (wb+w.heap.size+1+tb) u u'->
  u'.cell? ⟨wb,0,none⟩=some (pZ tb)/\u'.cell? ⟨w.heap.size,0,none⟩=some (.int .i64 (b:Int))/\u'.cell? ⟨w.heap.size,1,none⟩=some (.int .i64 (e:Int))/\u'.heap[wb]? =some (.cells #[wtp (some tb),(.int .i64 ((l.length:Int)+((e:Int)-(b:Int)))),.map (some k1),.map (some k2)] 170 (0,0))/\u'.heap[w.heap.size]? =some (.cells #[.int .i64 (b:Int),.int .i64 (e:Int)] 217 (0,0))):=by
  intro u u' y1 y2 k;have x1:=k.box y1 (by omega) (by simpa using hne0) (by decide);have x2:=k.box y2 (by omega) (hmg _ (z1d _)) (by decide);exact⟨by rw[z1f x1];rfl,by rw[z1f x2];rfl,by rw[z1f x2];rfl,x1,x2⟩
 clear h HW q0 hl he hbe hmg qp hsz U0 hsize hts;go_enter Tryz.func133,Tryz.ntmps133;go_wp21;refine wp_region_held_drew (S:=(λwq=>wq.cell? ⟨w.heap.size,0,none⟩=some (.int .i64 (b:Int))/\wq.cell? ⟨w.heap.size,1,none⟩=some (.int .i64 (e:Int)))) (by kernel_rfl) (⟨d0,d1⟩) (λhS=>?_);refine tkS 0 (pZ wb) hS ?_;refine tkS 1 (pZ wb) hS ?_;refine tkS 2 (.pointer (some ⟨wb,1,none⟩)) hS ?_;refine tkS 4 (.pointer (some ⟨w.heap.size,1,none⟩)) hS ?_;refine tkL 5 (.int .i64 (e:Int)) hS ?_;refine tkS 6 (pZ w.heap.size) hS ?_;refine tkL 7 (.int .i64 (b:Int)) hS ?_;refine tkS 8 (.int .i64 ((e:Int)-(b:Int))) hS ?_;refine rd1 3 (λKK hK=>?_);go_simp;refine hK.out _ _ ⟨d0,d1⟩ (λhS=>nrm ?_);refine tkS 9 (.int .i64 ((l.length:Int)+((e:Int)-(b:Int)))) hS ?_;refine tkS 10 (pZ wb) hS ?_;refine tkS 11 (.pointer (some ⟨wb,1,none⟩)) hS ?_;refine rd1 12 (λKK hK=>?_);go_simp;refine hK.out _ _ ⟨p0,p1⟩ (λhS=>nrm ?_);refine wpAnyH_done (by kernel_rfl) ?_ _;clear d0 d1 c1 f1 c0 hw1 hw2 hS;generalize hZ:((w.setCell ⟨wb,1,none⟩ (.int .i64 ((l.length:Int)+((e:Int)-(b:Int))))).alloc (.cells #[.int .i64 (b:Int),.int .i64 (e:Int)] 217))=Z at *
 go_wp21;refine wp_region_held_drew (S:=(λwq=>wq.cell? ⟨wb,0,none⟩=some (pZ tb)/\wq.cell? ⟨w.heap.size,0,none⟩=some (.int .i64 (b:Int))/\wq.cell? ⟨w.heap.size,1,none⟩=some (.int .i64 (e:Int)))) (by kernel_rfl) (⟨c0',p0,p1⟩) (λhS=>?_);refine tkS 0 (pZ wb) hS ?_;refine tkS 1 (pZ wb) hS ?_;refine tkS 2 (pZ wb) hS ?_;refine tkL 3 (pZ tb) hS ?_;refine tkS 4 (pZ wb) hS ?_;refine tkS 5 (pZ wb) hS ?_;refine tkS 6 (pZ wb) hS ?_;refine tkL 7 (pZ tb) hS ?_;refine tkS 9 (pZ w.heap.size) hS ?_;refine tkL 10 (.int .i64 (b:Int)) hS ?_;refine tkS 11 (.pointer (some ⟨w.heap.size,1,none⟩)) hS ?_;refine tkL 12 (.int .i64 (e:Int)) hS ?_;refine rd1 8 (λKK hK=>?_);go_simp;go_at_call 113;refine(zji B tb l _ (by exact U2) (by exact s2)).mono ?_;rintro r w3 ⟨rfl,U3,k3⟩;have k3:Kb B tb Z w3:=⟨⟨k3.1.os,k3.1.tape,k3.1.output,k3.1.size,k3.1.block⟩,k3.2⟩
 obtain⟨y1,y2,y3,x1,x2⟩:=KF _ w3 z1 z2 k3.kw;have s3:=z1c s2 k3.1.size;refine hK.out _ _ ⟨y1,y2,y3⟩ (λhS=>nrm ?_);refine tkS 13 (.string ((⟨l.toArray⟩:ByteArray).extract b e)) hS ?_;refine rd1 14 (λKK hK=>?_);go_simp;go_at_call 164;refine(zof B tb l ((⟨l.toArray⟩:ByteArray).extract b e) w3 U3 hl3 s3).mono ?_;rintro r w4 ⟨rfl,U4,k4⟩;obtain⟨y1',y2',y3',x1',x2'⟩:=KF _ w4 x1 x2 k4.kw;refine hK.out _ _ ⟨y1',y2',y3'⟩ (λhS=>nrm ?_);refine wpAnyH_done (by kernel_rfl) ?_ _;go_wp21;go_end0;subst hZ;exact⟨rfl,U4,k3.trans k4⟩
theorem ext_take (l:List UInt8) (b e:Nat):((⟨l.toArray⟩:ByteArray).extract b e).data.toList=(l.drop b).take (e-b):=by
 simp[ByteArray.data_extract,Array.toList_extract,List.extract_eq_take_drop]
theorem again_any (m:Option Nat) (B wb k1 k2:Nat) (n:List Nat) (l:List UInt8) (sp:List Spn) (w:World) (h:Wt m B wb k1 k2 n l sp w) (b e:Nat) (hbe:b<=e) (he:e<=l.length) (hl:l.length+(e-b)<=140737488355328) (hB:B<=w.heap.size):
 CZ 133 #[pZ wb,.agg #[iZ b,iZ e]] w λr w'=>r=.returned (.tuple #[])/\Wt m B wb k1 k2 n (l++(l.drop b).take (e-b)) sp w'/\KW m B wb k1 k2 w w':=by
 have hlen:((l++(l.drop b).take (e-b)).length:Int)=(l.length:Int)+((e:Int)-(b:Int)):=by
  rw[z1l,List.length_take,List.length_drop];omega
 have hsz:(w.setCell ⟨wb,1,none⟩ (.int .i64 ((l.length:Int)+((e:Int)-(b:Int))))).heap.size=w.heap.size:=by simp[World.setCell]
 have KZ:Kw m B wb w ((w.setCell ⟨wb,1,none⟩ (.int .i64 ((l.length:Int)+((e:Int)-(b:Int))))).alloc (.cells #[iZ b,iZ e] 217)):=(Kw.set m B wb h.wi.le 1 w _).alloc (by rw[hsz];exact hB) _
 have zb:((w.setCell ⟨wb,1,none⟩ (.int .i64 ((l.length:Int)+((e:Int)-(b:Int))))).alloc (.cells #[iZ b,iZ e] 217)).heap[wb]? =some (.cells #[wtp m,(.int .i64 ((l.length:Int)+((e:Int)-(b:Int)))),.map (some k1),.map (some k2)] 170 (0,0)):=by
  rw[Lib.alloc_old _ _ _ (by rw[hsz];exact h.wi.lt)];exact h.wi.set _
 have zl:=congrArg (λz:Int=>some (Obj.cells #[wtp m,.int .i64 z,.map (some k1),.map (some k2)] 170 (0,0))) hlen.symm
 cases m with
 |none=>
  refine(zwt B wb k1 k2 n l sp w h b e hbe he hl hB).mono ?_;rintro r w' ⟨rfl,rfl⟩;have K:=KZ.drewN 1;exact⟨rfl,h.text ⟨h.wi.le,zb.trans zl,λb hb=>by cases hb⟩ K,K.kw⟩
 |some tb=>
  refine(zuk B tb wb k1 k2 n l sp w h b e hbe he hl hB).mono ?_;rintro r w' ⟨rfl,U,K⟩;have K2:=KZ.trans K.kw;rw[ext_take] at U;refine⟨rfl,h.text ⟨h.wi.le,?_,λb hb=>by cases hb;exact⟨U,(h.wi.bu tb rfl).2⟩⟩ K2,K2.kw⟩;exact(K.2 wb _ zb (by have:=(h.wi.bu tb rfl).2;simp;omega) (λc fz e=>by injection e with _ e2;exact absurd e2 (by decide))).trans zl
section
variable {w:World} (bd:Nat) (m:Option Nat) (B wb k1 k2:Nat) (n:List Nat) (l:List UInt8)
theorem var_any (sp:List Spn) (w:World) (h:Wt m B wb k1 k2 n l sp w) (o:Nat) (hr:970<=o/\o<1230) (hl:l.length+2<=140737488355328) (hB:B<=w.heap.size):
 CZ 163 #[pZ wb,kv o] w λe w'=>e=.returned (.tuple #[])/\Wt m B wb k1 k2 (zaa (tV o) n) (l++wtx (zaa (tV o) n) (tV o)) sp w'/\KW m B wb k1 k2 w w':=by
 by_cases ho:o∈n
 ·have e1:zaa (tV o) n=n:=by simp[zaa,ho]
  rw[e1,wtx_V];exact var_old m B wb k1 k2 n l sp w h o ho hl hB
 ·have e1:zaa (tV o) n=n++[o]:=by simp[zaa,ho]
  rw[e1,wtx_V,idxOf_new n ho];exact var_new m B wb k1 k2 n l sp w h o ho hr hl hB
def NoNew (bd:Nat) (sp sp':List Spn) (w:World):Prop:=∀u v q,Ok u->bd<=sz u->Tv w u v->NdO w v q->zei sp q=none->zei sp' q=none
theorem NoNew.refl (sp:List Spn) (w:World):NoNew bd sp sp w:=λ_ _ _ _ _ _ _ h=>h
theorem NoNew.back {bd:Nat} {w1:World} {sp sp':List Spn} (h:NoNew bd sp sp' w1) (hk:KeptN w w1):NoNew bd sp sp' w:=λu v q h1 h2 h3 h4 h5=>h u v q h1 h2 (Tv.keptN hk _ _ h3) (h4.kept hk) h5
theorem NoNew.trans {bd:Nat} {sp sp' sp'':List Spn} (h:NoNew bd sp sp' w) (h':NoNew bd sp' sp'' w):NoNew bd sp sp'' w:=λu v q h1 h2 h3 h4 h5=>h' u v q h1 h2 h3 h4 (h u v q h1 h2 h3 h4 h5)
def zdt (m:Option Nat) (B wb k1 k2 bd:Nat) (sp:List Spn) (n':List Nat) (l':List UInt8) (w:World) (e:Ending) (w':World):Prop:=
 e=.returned (.tuple #[])/\(∃sp',Wt m B wb k1 k2 n' l' sp' w'/\NoNew bd sp sp' w)/\KW m B wb k1 k2 w w'
def zfw (t:Ty):Prop:=∀(bd:Nat) (m:Option Nat) (B wb k1 k2:Nat) (n:List Nat) (l:List UInt8) (sp:List Spn) (w:World) (v:Value),sz t<bd->Tv w t v->Wt m B wb k1 k2 n l sp w->B<=w.heap.size->l.length+(wtx (zaa t n) t).length+2<=140737488355328->
 CZ 95 #[pZ wb,v] w (zdt m B wb k1 k2 bd sp (zaa t n) (l++wtx (zaa t n) t) w)
def zov (t:Ty):Prop:=∀(bd:Nat) (m:Option Nat) (B wb k1 k2:Nat) (n:List Nat) (l:List UInt8) (sp:List Spn) (w:World) (v:Value),sz t<=bd->Tv w t v->Wt m B wb k1 k2 n l sp w->B<=w.heap.size->l.length+(wtx (zaa t n) t).length+2<=140737488355328->
 CZ 134 #[pZ wb,v] w (zdt m B wb k1 k2 bd sp (zaa t n) (l++wtx (zaa t n) t) w)
theorem leaf_I (sp:List Spn) (w:World) (h:Wt m B wb k1 k2 n l sp w) (hB:B<=w.heap.size) (hl:l.length+1<=140737488355328):
 CZ 132 #[pZ wb,viI] w (zdt m B wb k1 k2 bd sp n (l++[73]) w):=by
 have a1:=th_Whole;have h1:=h.alloc hB (.cells #[] 255);have K1:KW m B wb k1 k2 w (w.alloc (.cells #[] 255)):=(KW.refl m B wb k1 k2 w).alloc hB _;go_enter Tryz.func132,Tryz.ntmps132;go_wp21;refine(zcu m B wb _ _ l 73 _ h1.wi (by decide) hl (by simp;omega)).mono ?_;rintro e w1 ⟨rfl,h2,k2'⟩;go_wp21;go_end0;exact⟨rfl,⟨sp,h1.text h2 k2',NoNew.refl _ _ _⟩,K1.trans k2'.kw⟩
theorem leaf_B (sp:List Spn) (w:World) (h:Wt m B wb k1 k2 n l sp w) (hB:B<=w.heap.size) (hl:l.length+1<=140737488355328):
 CZ 132 #[pZ wb,viB] w (zdt m B wb k1 k2 bd sp n (l++[66]) w):=by
 have a1:=λv=>zyg (T:=254) v (by decide)
 have a2:=th_Truth;have h1:=h.alloc hB (.cells #[] 254);have K1:KW m B wb k1 k2 w (w.alloc (.cells #[] 254)):=(KW.refl m B wb k1 k2 w).alloc hB _;go_enter Tryz.func132,Tryz.ntmps132;go_wp21;refine(zcu m B wb _ _ l 66 _ h1.wi (by decide) hl (by simp;omega)).mono ?_;rintro e w1 ⟨rfl,h2,k2'⟩;go_wp21;go_end0;exact⟨rfl,⟨sp,h1.text h2 k2',NoNew.refl _ _ _⟩,K1.trans k2'.kw⟩
theorem leaf_V (sp:List Spn) (w:World) (h:Wt m B wb k1 k2 n l sp w) (o:Nat) (hr:970<=o/\o<1230) (hB:B<=w.heap.size) (hl:l.length+2<=140737488355328):
 CZ 132 #[pZ wb,viV o] w (zdt m B wb k1 k2 bd sp (zaa (tV o) n) (l++wtx (zaa (tV o) n) (tV o)) w):=by
 have a1:=λv=>zyg (T:=263) v (by decide)
 have a2:=λv=>tm_Truth (T:=263) v (by decide)
 have a3:=znw;have h1:=h.alloc hB (.cells #[.int .u8 ((o/10:Nat):Int),.int .u8 ((o % 10:Nat):Int)] 263);have K1:KW m B wb k1 k2 w (w.alloc (.cells #[.int .u8 ((o/10:Nat):Int),.int .u8 ((o % 10:Nat):Int)] 263)):=(KW.refl m B wb k1 k2 w).alloc hB _;have V1:=var_any m B wb k1 k2 n l sp _ h1 o hr hl (by simp;omega);generalize l++wtx (zaa (tV o) n) (tV o)=l' at *
 generalize zaa (tV o) n=n' at *
 unfold viV;unfold kv at *
 generalize ((o/10:Nat):Int)=x at *
 generalize ((o % 10:Nat):Int)=y at *
 go_enter Tryz.func132,Tryz.ntmps132;go_wp21;refine V1.mono ?_;rintro e w1 ⟨rfl,h2,k2'⟩;go_wp21;go_end0;exact⟨rfl,⟨sp,h2,NoNew.refl _ _ _⟩,K1.trans k2'⟩
theorem znh {v:Value} (lf:Leaf v) (m:Option Nat) (B wb k1 k2 bd:Nat) (sp:List Spn) (n':List Nat) (l':List UInt8) (w:World) (H:CZ 132 #[pZ wb,v] w (zdt m B wb k1 k2 bd sp n' l' w)):
 CZ 95 #[pZ wb,v] w (zdt m B wb k1 k2 bd sp n' l' w):=by
 have N:=lf.nodeOf w;obtain⟨T,x,rfl⟩:=lf.iface;go_enter Tryz.func95,Tryz.ntmps95;go_wp21;refine N.mono ?_;rintro e w1 ⟨rfl,rfl⟩;go_wp21;refine H.mono ?_;rintro e w1 ⟨rfl,h1,k1'⟩;go_wp21
 first|go_end0|refine bodyPost_ret (results_none rfl _ _ _) rfl ?_
 exact⟨rfl,h1,k1'⟩
theorem type_I:zfw tI:=by
 intro bd m B wb k1 k2 n l sp w v hbd hv h hB hl;rw[Tv.isI hv];have e1:zaa tI n=n:=by simp[zaa]
 rw[e1,wtx_I] at *
 exact znh (.inl rfl) m B wb k1 k2 bd sp n _ w (leaf_I bd m B wb k1 k2 n l sp w h hB (by simp at hl;omega))
theorem type_B:zfw tB:=by
 intro bd m B wb k1 k2 n l sp w v hbd hv h hB hl;rw[Tv.isB hv];have e1:zaa tB n=n:=by simp[zaa]
 rw[e1,wtx_B] at *
 exact znh (.inr (.inl rfl)) m B wb k1 k2 bd sp n _ w (leaf_B bd m B wb k1 k2 n l sp w h hB (by simp at hl;omega))
theorem type_V {o:Nat} (hr:970<=o/\o<1230):zfw (tV o):=by
 intro bd m B wb k1 k2 n l sp w v hbd hv h hB hl;rw[Tv.isV hv];exact znh (.inr (.inr ⟨o,rfl⟩)) m B wb k1 k2 bd sp _ _ w (leaf_V bd m B wb k1 k2 n l sp w h o hr hB (by omega))
end
section
variable {t:Ty} {T:TypeId} {v:Value} (x:Value) (q:Nat) (w:World)
theorem zhi (h:T≠243) (w:World):CZ 166 #[.iface T x] w λe w'=>e=.returned (.bool false)/\w'=w:=by
 have a1:=λw=>zdl x h w
 go_enter Tryz.func166,Tryz.ntmps166;go_wp21;go_ret;exact⟨rfl,rfl⟩
theorem is_fun_yes:CZ 166 #[viF q] w λe w'=>e=.returned (.bool true)/\w'=w:=by
 have a1:=zca;go_enter Tryz.func166,Tryz.ntmps166;go_wp21;go_ret;exact⟨rfl,rfl⟩
theorem zka {w:World} (ht:Ok t) (hv:Tv w t v) (w':World):CZ 166 #[v] w' λe w''=>e=.returned (.bool (isFn t))/\w''=w':=by
 rcases ht.cases with rfl|rfl|⟨o,_,_,rfl⟩|⟨a,_,rfl⟩|⟨a,b,_,_,rfl⟩|⟨a,b,_,_,rfl⟩
 ·rw[hv.isI];exact zhi _ (by decide) w'
 ·rw[hv.isB];exact zhi _ (by decide) w'
 ·rw[hv.isV];exact zhi _ (by decide) w'
 ·obtain⟨q,x,rfl,_⟩:=hv.isL;exact zhi _ (by decide) w'
 ·obtain⟨q,x,y,rfl,_⟩:=hv.isP;exact zhi _ (by decide) w'
 ·obtain⟨q,x,y,rfl,_⟩:=hv.isF;exact is_fun_yes q w'
theorem zfr (h:T≠259) (w:World):CZ 167 #[.iface T x] w λe w'=>e=.returned (.bool false)/\w'=w:=by
 have a1:=λw=>zdo x h w
 go_enter Tryz.func167,Tryz.ntmps167;go_wp21;go_ret;exact⟨rfl,rfl⟩
theorem zwp:CZ 167 #[viP q] w λe w'=>e=.returned (.bool true)/\w'=w:=by
 have a1:=zhj;go_enter Tryz.func167,Tryz.ntmps167;go_wp21;go_ret;exact⟨rfl,rfl⟩
theorem zur {w:World} (ht:Ok t) (hv:Tv w t v) (w':World):CZ 167 #[v] w' λe w''=>e=.returned (.bool (isPr t))/\w''=w':=by
 rcases ht.cases with rfl|rfl|⟨o,_,_,rfl⟩|⟨a,_,rfl⟩|⟨a,b,_,_,rfl⟩|⟨a,b,_,_,rfl⟩
 ·rw[hv.isI];exact zfr _ (by decide) w'
 ·rw[hv.isB];exact zfr _ (by decide) w'
 ·rw[hv.isV];exact zfr _ (by decide) w'
 ·obtain⟨q,x,rfl,_⟩:=hv.isL;exact zfr _ (by decide) w'
 ·obtain⟨q,x,y,rfl,_⟩:=hv.isP;exact zwp q w'
 ·obtain⟨q,x,y,rfl,_⟩:=hv.isF;exact zfr _ (by decide) w'
theorem zlu (ih:zfw t) (cl:Bool) (bd:Nat) (m:Option Nat) (B wb k1 k2:Nat) (n:List Nat) (l:List UInt8) (sp:List Spn) (w:World) (v:Value) (hbd:sz t<bd) (hv:Tv w t v) (h:Wt m B wb k1 k2 n l sp w) (hB:B<=w.heap.size) (hl:l.length+(inBr cl (wtx (zaa t n) t)).length+2<=140737488355328):
 CZ 165 #[pZ wb,v,.bool cl] w (zdt m B wb k1 k2 bd sp (zaa t n) (l++inBr cl (wtx (zaa t n) t)) w):=by
 cases cl
 ·have hl':=hl
  have IH:=ih bd m B wb k1 k2 n l sp w v hbd hv h hB hl';obtain⟨T,x,rfl⟩:=hv.iface;clear ih hv hl hl' hbd;show Calls _ _ _ _ (zdt m B wb k1 k2 bd sp (zaa t n) (l++wtx (zaa t n) t) w);generalize l++wtx (zaa t n) t=l' at *
  generalize zaa t n=n' at *
  go_enter Tryz.func165,Tryz.ntmps165;go_wp21;refine IH.mono ?_;rintro e w1 ⟨rfl,h1,k1'⟩;go_wp21
  first|go_end0|refine bodyPost_ret (results_none rfl _ _ _) rfl ?_
  exact⟨rfl,h1,k1'⟩
 ·have hl':l.length+1+(wtx (zaa t n) t).length+1+2<=140737488355328:=by simp[inBr] at hl;omega
  have IH:∀w1,Wt m B wb k1 k2 n (l++[40]) sp w1->Tv w1 t v->B<=w1.heap.size->CZ 95 #[pZ wb,v] w1 (zdt m B wb k1 k2 bd sp (zaa t n) (l++[40]++wtx (zaa t n) t) w1):=λw1 h1 hv1 hB1=>ih bd m B wb k1 k2 n (l++[40]) sp w1 v hbd hv1 h1 hB1 (by simp;omega)
  have HK:Hid (∀w1,KW m B wb k1 k2 w w1->Tv w1 t v):=λw1 k=>Tv.keptN (h.kept k) _ _ hv
  have hL:(l++[40]++wtx (zaa t n) t).length+1<=140737488355328:=by simp;omega
  have eL:l++inBr true (wtx (zaa t n) t)=l++[40]++wtx (zaa t n) t++[41]:=by simp[inBr]
  rw[eL];obtain⟨T,x,rfl⟩:=hv.iface;clear ih hv hl eL hbd;generalize l++[40]++wtx (zaa t n) t=l' at *
  generalize zaa t n=n' at *
  go_enter Tryz.func165,Tryz.ntmps165;go_wp21;refine(zcu m B wb _ _ l 40 _ h.wi (by decide) (by omega) hB).mono ?_;rintro e w1 ⟨rfl,h1,k1'⟩;have H1:=h.text h1 k1';have s1:B<=w1.heap.size:=z1c hB k1'.size;have T1:=HK.out w1 k1'.kw;go_wp21;refine(IH w1 H1 T1 s1).mono ?_;rintro e w2 ⟨rfl,⟨sp2,h2,nn⟩,k2'⟩;have s2:B<=w2.heap.size:=z1c s1 k2'.size;go_wp21;refine(zcu m B wb _ _ l' 41 _ h2.wi (by decide) hL s2).mono ?_;rintro e w3 ⟨rfl,h3,k3'⟩;go_wp21;go_end0;exact⟨rfl,⟨sp2,h2.text h3 k3',nn.back (h.kept k1'.kw)⟩,(k1'.kw.trans k2').trans k3'.kw⟩
theorem parts_L {a:Ty} (ih:zfw a):zov (tL a):=by
 intro bd m B wb k1 k2 n l sp w v hbd hv h hB hl;obtain⟨q,x,rfl,hq,hx⟩:=Tv.isL hv;rw[leaves_tL,wtx_L] at *
 have hl':l.length+1+(wtx (zaa a n) a).length+1+2<=140737488355328:=by simp at hl;omega
 have IH:∀w1,Wt m B wb k1 k2 n (l++[91]) sp w1->Tv w1 a x->B<=w1.heap.size->CZ 95 #[pZ wb,x] w1 (zdt m B wb k1 k2 bd sp (zaa a n) (l++[91]++wtx (zaa a n) a) w1):=λw1 h1 hv1 hB1=>ih bd m B wb k1 k2 n (l++[91]) sp w1 x (by simp[sz] at hbd;omega) hv1 h1 hB1 (by simp;omega)
 have hL:(l++[91]++wtx (zaa a n) a).length+1<=140737488355328:=by simp;omega
 have eL:l++91::(wtx (zaa a n) a++[93])=l++[91]++wtx (zaa a n) a++[93]:=by simp
 rw[eL];have HK:Hid (∀w1,KW m B wb k1 k2 w w1->Tv w1 a x/\w1.cell? ⟨q,0,none⟩=some x):=λw1 k=>⟨Tv.keptN (h.kept k) _ _ hx,by rw[z1f (h.kept k _ _ _ (.inl rfl) hq)];rfl⟩
 obtain⟨T,x',rfl⟩:=hx.iface;have a1:=zjx;clear ih hv hl eL hq hx hbd;generalize l++[91]++wtx (zaa a n) a=l' at *
 generalize zaa a n=n' at *
 go_enter Tryz.func134,Tryz.ntmps134
 go_wp2_with fail
 refine(zcu m B wb _ _ l 91 _ h.wi (by decide) (by omega) hB).mono ?_;rintro e w1 ⟨rfl,h1,k1'⟩;have H1:=h.text h1 k1';have s1:B<=w1.heap.size:=z1c hB k1'.size;obtain⟨T1,c1⟩:=HK.out w1 k1'.kw
 go_wp2_with fail
 refine(IH w1 H1 T1 s1).mono ?_;rintro e w2 ⟨rfl,⟨sp2,h2,nn⟩,k2'⟩;have s2:B<=w2.heap.size:=z1c s1 k2'.size
 go_wp2_with fail
 refine(zcu m B wb _ _ l' 93 _ h2.wi (by decide) hL s2).mono ?_;rintro e w3 ⟨rfl,h3,k3'⟩
 go_wp2_with fail
 go_end0;exact⟨rfl,⟨sp2,h2.text h3 k3',nn.back (h.kept k1'.kw)⟩,(k1'.kw.trans k2').trans k3'.kw⟩
end
section
variable {B wb k1 k2:Nat} {m:Option Nat} {a b:Ty} {w:World}
theorem Wt.drew {n:List Nat} {l:List UInt8} {sp:List Spn} (h:Wt m B wb k1 k2 n l sp w):Wt m B wb k1 k2 n l sp w.drew:=
 h.of h.wi.drew (λ_ _ _ _ h=>h) (λ_ _ _ h=>h)
theorem KW.undrew1 {w':World} (h:KW m B wb k1 k2 w.drew w'):KW m B wb k1 k2 w w':=⟨⟨h.1.os,h.1.tape,h.1.output,h.1.size,h.1.block⟩,h.2⟩
theorem Tv.drew' {t:Ty} {v:Value} (h:Tv w t v):Tv w.drew t v:=Tv.keptN (w:=w) (w':=w.drew) (λ_ _ _ _ h=>h) t v h
theorem parts_F (ha:Ok a) (hb:Ok b) (iha:zfw a) (ihb:zfw b):zov (tF a b):=by
 intro bd m B wb k1 k2 n l sp w v hbd hv h hB hl;have hba:sz a<bd:=by simp[sz] at hbd;omega
 have hbb:sz b<bd:=by simp[sz] at hbd;omega
 obtain⟨q,x,y,rfl,hq,hx,hy⟩:=Tv.isF hv;rw[leaves_tF,wtx_F _ ha hb,zrj a b n] at *
 have hl1:l.length+(inBr (isFn a) (wtx (zaa a n) a)).length+1+(wtx (zaa b (zaa a n)) b).length+2<=140737488355328:=by simp at hl ⊢;omega
 have PA:Hid (CZ 165 #[pZ wb,x,.bool (isFn a)] w.drew (zdt m B wb k1 k2 bd sp (zaa a n) (l++inBr (isFn a) (wtx (zaa a n) a)) w.drew)):=zlu iha (isFn a) bd m B wb k1 k2 n l sp w.drew x hba hx.drew' h.drew hB (by omega);have FA:Hid (∀w',CZ 166 #[x] w' λe w''=>e=.returned (.bool (isFn a))/\w''=w'):=λw'=>zka ha hx w'
 have eL:l++(inBr (isFn a) (wtx (zaa a n) a)++62::wtx (zaa b (zaa a n)) b)=l++inBr (isFn a) (wtx (zaa a n) a)++[62]++wtx (zaa b (zaa a n)) b:=by simp
 rw[eL];have hL1:(l++inBr (isFn a) (wtx (zaa a n) a)).length+1<=140737488355328:=by rw[z1l];omega
 have HK:Hid (∀w1,KW m B wb k1 k2 w w1->Tv w1 b y/\w1.cell? ⟨q,0,none⟩=some x/\w1.cell? ⟨q,1,none⟩=some y):=λw1 k=>⟨Tv.keptN (h.kept k) _ _ hy,by rw[z1f (h.kept k _ _ _ (.inr (.inr rfl)) hq)];rfl,by rw[z1f (h.kept k _ _ _ (.inr (.inr rfl)) hq)];rfl⟩
 have HW:Hid (∀w1,KW m B wb k1 k2 w w1->KeptN w w1):=λw1 k=>h.kept k
 have IB:Hid (∀w2 sp2,Wt m B wb k1 k2 (zaa a n) (l++inBr (isFn a) (wtx (zaa a n) a)++[62]) sp2 w2->Tv w2 b y->B<=w2.heap.size->CZ 95 #[pZ wb,y] w2 (zdt m B wb k1 k2 bd sp2 (zaa b (zaa a n)) (l++inBr (isFn a) (wtx (zaa a n) a)++[62]++wtx (zaa b (zaa a n)) b) w2)):=λw2 sp2 h2 hv2 hB2=>ihb bd m B wb k1 k2 _ _ sp2 w2 y hbb hv2 h2 hB2 (by simp only[z1l,List.length_singleton];omega)
 have c0:w.cell? ⟨q,0,none⟩=some x:=cbl hq;obtain⟨T,x',rfl⟩:=hx.iface;obtain⟨S,y',rfl⟩:=hy.iface;have a1:=λv=>zbv (T:=243) v (by decide)
 have a2:=λv=>zdo (T:=243) v (by decide)
 have a3:=zca;clear iha ihb hv hl eL hq hx hy hl1 hbd hba hbb;generalize isFn a=fa at *
 generalize l++inBr fa (wtx (zaa a n) a)=l1 at *
 generalize wtx (zaa b (zaa a n)) b=f2 at *
 generalize zaa b (zaa a n)=n2 at *
 generalize zaa a n=n1 at *
 go_enter Tryz.func134,Tryz.ntmps134;go_wp21;refine wp_region_held_drew (S:=(λwq=>wq.cell? ⟨q,0,none⟩=some (.iface T x'))) (by kernel_rfl) (c0) (λhS=>?_);refine tkS 0 (pZ wb) hS ?_;refine tkS 1 (pZ q) hS ?_;refine tkS 2 (pZ q) hS ?_;refine tkS 3 (pZ q) hS ?_;refine tkL 4 (.iface T x') hS ?_;refine tkS 5 (pZ q) hS ?_;refine tkS 6 (pZ q) hS ?_;refine tkS 7 (pZ q) hS ?_;refine tkL 8 (.iface T x') hS ?_;refine rd1 9 (λKK hK=>?_);go_simp;go_at_call 166;refine(FA _).mono ?_;rintro e w' ⟨rfl,rfl⟩;refine hK.out _ _ c0 (λhS=>nrm ?_);refine rd1 10 (λKK hK=>?_);go_simp;go_at_call 165;refine(PA).mono ?_;rintro e w1 ⟨rfl,⟨sp1,h1,nn1⟩,k1'⟩;replace k1':=k1'.undrew1;replace nn1:NoNew bd sp sp1 w:=nn1.back (λ_ _ _ _ h=>h);obtain⟨T1,c1,c2⟩:=HK w1 k1';refine hK.out _ _ c1 (λhS=>nrm ?_);refine wpAnyH_done (by kernel_rfl) ?_ _;clear PA FA hS c0;have s1:B<=w1.heap.size:=z1c hB k1'.size;go_wp21;refine(zcu m B wb _ _ l1 62 _ h1.wi (by decide) hL1 s1).mono ?_;rintro e w2 ⟨rfl,h2,k2'⟩;have H2:=h1.text h2 k2';have s2:B<=w2.heap.size:=z1c s1 k2'.size;have K2:=k1'.trans k2'.kw;obtain⟨T2,d1,d2⟩:=HK w2 K2;clear h1 h2 k1' k2' T1 c1 c2;go_wp21;refine(IB w2 _ H2 T2 s2).mono ?_;rintro e w3 ⟨rfl,⟨sp3,h3,nn3⟩,k3'⟩;go_wp21
 first|go_end0|refine bodyPost_ret (results_none rfl _ _ _) rfl ?_
 exact⟨rfl,⟨sp3,h3,nn1.trans (nn3.back (HW w2 K2))⟩,K2.trans k3'⟩
theorem zyp (ha:Ok a) (hb:Ok b) (iha:zfw a) (ihb:zfw b):zov (tP a b):=by
 intro bd m B wb k1 k2 n l sp w v hbd hv h hB hl;have hba:sz a<bd:=by simp[sz] at hbd;omega
 have hbb:sz b<bd:=by simp[sz] at hbd;omega
 obtain⟨q,x,y,rfl,hq,hx,hy⟩:=Tv.isP hv;rw[leaves_tP,wtx_P _ ha hb,zrj a b n] at *
 have hl1:l.length+(inBr (isFn a) (wtx (zaa a n) a)).length+1+(inBr (isFn b||isPr b) (wtx (zaa b (zaa a n)) b)).length+2<=140737488355328:=by simp at hl ⊢;omega
 have PA:Hid (CZ 165 #[pZ wb,x,.bool (isFn a)] w.drew (zdt m B wb k1 k2 bd sp (zaa a n) (l++inBr (isFn a) (wtx (zaa a n) a)) w.drew)):=zlu iha (isFn a) bd m B wb k1 k2 n l sp w.drew x hba hx.drew' h.drew hB (by omega);have FA:Hid (∀w',CZ 166 #[x] w' λe w''=>e=.returned (.bool (isFn a))/\w''=w'):=λw'=>zka ha hx w'
 have eL:l++(inBr (isFn a) (wtx (zaa a n) a)++42::inBr (isFn b||isPr b) (wtx (zaa b (zaa a n)) b))=l++inBr (isFn a) (wtx (zaa a n) a)++[42]++inBr (isFn b||isPr b) (wtx (zaa b (zaa a n)) b):=by simp
 rw[eL];have hL1:(l++inBr (isFn a) (wtx (zaa a n) a)).length+1<=140737488355328:=by rw[z1l];omega
 have HK:Hid (∀w1,KW m B wb k1 k2 w w1->Tv w1 b y/\w1.cell? ⟨q,0,none⟩=some x/\w1.cell? ⟨q,1,none⟩=some y):=λw1 k=>⟨Tv.keptN (h.kept k) _ _ hy,by rw[z1f (h.kept k _ _ _ (.inr (.inl rfl)) hq)];rfl,by rw[z1f (h.kept k _ _ _ (.inr (.inl rfl)) hq)];rfl⟩
 have HW:Hid (∀w1,KW m B wb k1 k2 w w1->KeptN w w1):=λw1 k=>h.kept k
 have IB:Hid (∀w2 sp2,Wt m B wb k1 k2 (zaa a n) (l++inBr (isFn a) (wtx (zaa a n) a)++[42]) sp2 w2->Tv w2 b y->B<=w2.heap.size->CZ 165 #[pZ wb,y,.bool (isFn b||isPr b)] w2 (zdt m B wb k1 k2 bd sp2 (zaa b (zaa a n)) (l++inBr (isFn a) (wtx (zaa a n) a)++[42]++inBr (isFn b||isPr b) (wtx (zaa b (zaa a n)) b)) w2)):=λw2 sp2 h2 hv2 hB2=>zlu ihb (isFn b||isPr b) bd m B wb k1 k2 _ _ sp2 w2 y hbb hv2 h2 hB2 (by simp only[z1l,List.length_singleton];omega)
 have FB:Hid (∀w',CZ 166 #[y] w' λe w''=>e=.returned (.bool (isFn b))/\w''=w'):=λw'=>zka hb hy w'
 have PB:Hid (∀w',CZ 167 #[y] w' λe w''=>e=.returned (.bool (isPr b))/\w''=w'):=λw'=>zur hb hy w'
 have c0:w.cell? ⟨q,0,none⟩=some x:=cbl hq;obtain⟨T,x',rfl⟩:=hx.iface;obtain⟨S,y',rfl⟩:=hy.iface;have a1:=λv=>zbv (T:=259) v (by decide)
 have a3:=zhj;clear iha ihb hv hl eL hq hx hy hl1 hbd hba hbb;generalize isFn a=fa at *
 generalize l++inBr fa (wtx (zaa a n) a)=l1 at *
 generalize isFn b=fb at *
 generalize isPr b=pb at *
 generalize inBr (fb||pb) (wtx (zaa b (zaa a n)) b)=f2 at *
 generalize zaa b (zaa a n)=n2 at *
 generalize zaa a n=n1 at *
 go_enter Tryz.func134,Tryz.ntmps134;go_wp21;refine wp_region_held_drew (S:=(λwq=>wq.cell? ⟨q,0,none⟩=some (.iface T x'))) (by kernel_rfl) (c0) (λhS=>?_);refine tkS 0 (pZ wb) hS ?_;refine tkS 1 (pZ q) hS ?_;refine tkS 2 (pZ q) hS ?_;refine tkS 3 (pZ q) hS ?_;refine tkL 4 (.iface T x') hS ?_;refine tkS 5 (pZ q) hS ?_;refine tkS 6 (pZ q) hS ?_;refine tkS 7 (pZ q) hS ?_;refine tkL 8 (.iface T x') hS ?_;refine rd1 9 (λKK hK=>?_);go_simp;go_at_call 166;refine(FA _).mono ?_;rintro e w' ⟨rfl,rfl⟩;refine hK.out _ _ c0 (λhS=>nrm ?_);refine rd1 10 (λKK hK=>?_);go_simp;go_at_call 165;refine(PA).mono ?_;rintro e w1 ⟨rfl,⟨sp1,h1,nn1⟩,k1'⟩;replace k1':=k1'.undrew1;replace nn1:NoNew bd sp sp1 w:=nn1.back (λ_ _ _ _ h=>h);obtain⟨T1,c1,c2⟩:=HK w1 k1';refine hK.out _ _ c1 (λhS=>nrm ?_);refine wpAnyH_done (by kernel_rfl) ?_ _;clear PA FA hS c0;have s1:B<=w1.heap.size:=z1c hB k1'.size;go_wp21;refine(zcu m B wb _ _ l1 42 _ h1.wi (by decide) hL1 s1).mono ?_;rintro e w2 ⟨rfl,h2,k2'⟩;have H2:=h1.text h2 k2';have s2:B<=w2.heap.size:=z1c s1 k2'.size;have K2:=k1'.trans k2'.kw;obtain⟨T2,d1,d2⟩:=HK w2 K2;clear h1 h2 k1' k2' T1 c1 c2;go_wp21;refine wp_region_held_drew (S:=(λwq=>wq.cell? ⟨q,1,none⟩=some (.iface S y'))) (by kernel_rfl) (d2) (λhS=>?_);refine tkS 0 (pZ wb) hS ?_;refine tkS 1 (pZ q) hS ?_;refine tkS 2 (pZ q) hS ?_;refine tkS 3 (.pointer (some ⟨q,1,none⟩)) hS ?_;refine tkL 4 (.iface S y') hS ?_;refine tkS 5 (pZ q) hS ?_;refine tkS 6 (pZ q) hS ?_;refine tkS 7 (.pointer (some ⟨q,1,none⟩)) hS ?_;refine tkL 8 (.iface S y') hS ?_;refine rd1 9 (λKK hK=>?_);go_simp;go_at_call 166;refine(FB _).mono ?_;rintro e w' ⟨rfl,rfl⟩;refine hK.out _ _ d2 (λhS=>nrm ?_)
 cases fb
 case' true=>
  simp only[Bool.true_or] at IB;refine tkS 10 (.bool true) hS ?_;refine tkU 11 hS ?_;refine tkU 12 hS ?_;refine tkU 13 hS ?_;refine tkU 14 hS ?_;refine tkU 15 hS ?_;refine tkS 16 (.bool true) hS ?_
 case' false=>
  simp only[Bool.false_or] at IB;refine tkS 10 (.bool false) hS ?_;refine tkS 11 (pZ q) hS ?_;refine tkS 12 (pZ q) hS ?_;refine tkS 13 (.pointer (some ⟨q,1,none⟩)) hS ?_;refine tkL 14 (.iface S y') hS ?_;refine rd1 15 (λKK hK=>?_);go_simp;go_at_call 167;refine(PB _).mono ?_;rintro e w' ⟨rfl,rfl⟩;refine hK.out _ _ d2 (λhS=>nrm ?_);refine tkS 16 (.bool pb) hS ?_
 all_goals
  refine rd1 17 (λKK hK=>?_);go_simp;go_at_call 165;refine(IB w2.drew _ H2.drew T2.drew' s2).mono ?_;rintro e w3 ⟨rfl,⟨sp3,h3,nn3⟩,k3'⟩;replace k3':=k3'.undrew1;replace nn3:=nn3.back (w:=w2) (λ_ _ _ _ h=>h);obtain⟨T3,e1,e2⟩:=HK w3 (K2.trans k3');refine hK.out _ _ e2 (λhS=>nrm ?_);refine wpAnyH_done (by kernel_rfl) ?_ _;go_wp21
  first|go_end0|refine bodyPost_ret (results_none rfl _ _ _) rfl ?_
  exact⟨rfl,⟨sp3,h3,nn1.trans (nn3.back (HW w2 K2))⟩,K2.trans k3'⟩
theorem parts_P (ha:Ok a) (hb:Ok b) (iha:zfw a) (ihb:zfw b):zov (tP a b):=by
 cases h:isFn b with
 |true=>exact zyp ha hb iha ihb
 |false=>exact zyp ha hb iha ihb
end
section
variable {n:List Nat} {l:List UInt8} {q B wb k1 k2 b e:Nat} {m:Option Nat} {t:Ty} {v:Value} {w:World}
theorem lookS_mem {r:Nat×Nat}:∀{sp:List Spn},zei sp q=some r->∃p∈sp,p.1=q/\p.2.2=r:=by
 intro sp
 induction sp with
 |nil=>intro h;simp[zei] at h
 |cons p sp ih=>
  intro h;simp only[zei] at h;by_cases hp:p.1=q
  ·rw[if_pos hp] at h
   exact⟨p,z1k,hp,z1q h⟩
  ·rw[if_neg hp] at h
   obtain⟨p',h1,h2⟩:=ih h;exact⟨p',z1j _ h1,h2⟩
theorem lookS_snoc {q':Nat} {r:Nat×Nat} (hq:q≠q'):∀{sp:List Spn},zei sp q=none->zei (sp++[(q',v,r)]) q=none:=by
 intro sp
 induction sp with
 |nil=>intro _;simp[zei];exact λe=>hq e.symm
 |cons p sp ih=>
  intro h;simp only[zei,List.cons_append] at *
  by_cases hp:p.1=q
  ·rw[if_pos hp] at h;cases h
  ·rw[if_neg hp] at h ⊢;exact ih h
theorem nd_val {v':Value} (h:NdO w v q) (h':NdO w v' q):v=v':=by
 rcases h with ⟨rfl,n,x,hq⟩|⟨rfl,n,x,y,hq⟩|⟨rfl,n,x,y,hq⟩<;>rcases h' with ⟨rfl,n',x',hq'⟩|⟨rfl,n',x',y',hq'⟩|⟨rfl,n',x',y',hq'⟩<;>first|rfl|(rw[hq] at hq';simp at hq')
theorem Wt.found {sp:List Spn} (h:Wt m B wb k1 k2 n l sp w) (ht:Ok t) (hv:Tv w t v) (hn:NdO w v q) (hs:zei sp q=some (b,e)):Cl t n/\b<=e/\e<=l.length/\(l.drop b).take (e-b)=wtx n t:=by
 obtain⟨p,hp,h1,h2⟩:=lookS_mem hs;obtain⟨t',o1,o2,o3,o4,o5,o6⟩:=h.so p hp;obtain⟨es,cl,hb,he,hnn⟩:=h.spm;have e1:=nd_val hn (by have:=hnn p hp;rw[h1] at this;exact this);rw[<-e1] at o2;have e2:=Tv.one t t' v ht o1 hv o2;subst e2;rw[h2] at o4 o5 o6;exact⟨o3,o4,o5,o6⟩
theorem Wt.spanned {w':World} {sp:List Spn} (h:Wt m B wb k1 k2 n l sp w) (ht:Ok t) (hv:Tv w t v) (hn:Sp k2 (sp++[(q,v,b,e)]) w') (g:Gb k2 w w') (h1:Cl t n) (h2:b<=e) (h3:e<=l.length) (h4:(l.drop b).take (e-b)=wtx n t):Wt m B wb k1 k2 n l (sp++[(q,v,b,e)]) w':=by
 obtain⟨es,cl,hb,he⟩:=h.nm;obtain⟨es2,cl2,hb2,he2,hn2⟩:=h.spm
 have hne:∀q,(∀es cl,w.heap[q]? ≠some (Obj.map es cl))\/q=k1->∀ob,w.heap[q]? =some ob->w'.heap[q]? =some ob:=by
  intro q hq ob hob;rw[g.block q (z1a.1 hob).1 ?_]
  ·exact hob
  ·rintro e
   have e:q=k2:=by simpa using e
   subst e;rcases hq with hq|hq
   ·exact hq es2 cl2 hb2
   ·exact h.ne hq.symm
 have hk:KeptN w w':=λq c T hT hq=>hne q (.inl (λes cl e=>by rw[hq] at e;cases e)) _ hq
 refine⟨⟨h.wi.le,hne _ (.inl (λes cl e=>by rw[h.wi.blk] at e;cases e)) _ h.wi.blk,λb hb'=>⟨?_,(h.wi.bu b hb').2⟩⟩,⟨es,cl,hne _ (.inr rfl) _ hb,he⟩,hn,?_,h.b1,h.b2,h.ne,h.nd,h.rg⟩
 ·have K:∀{x:Value} {bs:List Value},w.ownsRowF B 5 1 x bs.length bs->w'.ownsRowF B 5 1 x bs.length bs:=by
   intro x bs hown;refine hown.kept (row:=some k2) ⟨g.os,g.tape,g.output,g.size,λk hk hne'=>g.block k hk hne'⟩ (Or.inr ?_);rcases hown.2 with ⟨rfl,_⟩|⟨gg,cap,cur,fz,rfl,_,hgg,_⟩
   ·simp[Value.ownBlock]
   ·intro e
    simp only[Value.ownBlock,Option.some.injEq] at e;subst e;rw[hb2] at hgg
    cases hgg
  rcases(h.wi.bu b hb').1 with ⟨hB,x,hx,hown,hxne⟩|⟨hB,x,hx,hown,hxne⟩
  ·exact .inl ⟨hB,x,hne _ (.inl (λes cl e=>by rw[hx] at e;cases e)) _ hx,K hown,hxne⟩
  ·exact .inr ⟨hB,x,hne _ (.inl (λes cl e=>by rw[hx] at e;cases e)) _ hx,K hown,hxne⟩
 ·intro p hp
  rcases z1y.1 hp with hp|hp
  ·have:=h.so.ext hk [] []
   simp only[List.append_nil] at this;exact this p hp
  ·simp at hp
   subst hp;exact⟨t,ht,Tv.keptN hk _ _ hv,h1,h2,h3,h4⟩
theorem type_again (ht:Ok t) (bd:Nat) (m:Option Nat) (B wb k1 k2:Nat) (n:List Nat) (l:List UInt8) (sp:List Spn) (w:World) (v:Value) (q k b e:Nat) (nv:NdV v q k) (hn:NdO w v q) (hv:Tv w t v) (h:Wt m B wb k1 k2 n l sp w) (hB:B<=w.heap.size) (hl:l.length+(wtx (zaa t n) t).length+2<=140737488355328) (hs:zei sp q=some (b,e)):
 CZ 95 #[pZ wb,v] w (zdt m B wb k1 k2 bd sp (zaa t n) (l++wtx (zaa t n) t) w):=by
 obtain⟨o1,o2,o3,o4⟩:=h.found ht hv hn hs;have e1:=o1;rw[e1] at hl ⊢;have hlen:(wtx n t).length=e-b:=by rw[<-o4,List.length_take,List.length_drop];omega
 have N:=zga nv w;have L:=span_some h.spm hn hs;have c3:w.cell? ⟨wb,3,none⟩=some (.map (some k2)):=by rw[z1f h.wi.blk];rfl
 have K1:KW m B wb k1 k2 w (w.alloc (.cells #[.int .i64 (b:Int),.int .i64 (e:Int)] 217)):=(KW.refl m B wb k1 k2 w).alloc hB _;have A:=again_any m B wb k1 k2 n l sp _ (h.alloc hB (.cells #[.int .i64 (b:Int),.int .i64 (e:Int)] 217)) b e o2 o3 (by omega) (by simp;omega);rw[o4] at A;obtain⟨T,x,rfl⟩:=nv.iface;clear nv hn hv h hl hs o1 o2 o3 o4 e1 hlen ht;generalize l++wtx n t=l' at *
 go_enter Tryz.func95,Tryz.ntmps95;go_wp21;refine N.mono ?_;rintro r w1 ⟨rfl,rfl⟩;go_wp21;refine A.mono ?_;rintro r w2 ⟨rfl,h2,k2'⟩;go_wp21
 first|go_end0|refine bodyPost_ret (results_none rfl _ _ _) rfl ?_
 exact⟨rfl,⟨sp,h2,NoNew.refl _ _ _⟩,K1.trans k2'⟩
theorem type_new (ht:Ok t) (P:zov t) (bd:Nat) (hbd:sz t<bd) (m:Option Nat) (B wb k1 k2:Nat) (n:List Nat) (l:List UInt8) (sp:List Spn) (w:World) (v:Value) (q k:Nat) (nv:NdV v q k) (hn:NdO w v q) (hv:Tv w t v) (h:Wt m B wb k1 k2 n l sp w) (hB:B<=w.heap.size) (hl:l.length+(wtx (zaa t n) t).length+2<=140737488355328) (hs:zei sp q=none):
 CZ 95 #[pZ wb,v] w (zdt m B wb k1 k2 bd sp (zaa t n) (l++wtx (zaa t n) t) w):=by
 have N:=zga nv w;have L:=span_none h.spm hn hs;have c3:w.cell? ⟨wb,3,none⟩=some (.map (some k2)):=by rw[z1f h.wi.blk];rfl
 have hlt:=h.wi.lt;have K1:KW m B wb k1 k2 w (w.alloc (.cells #[.int .i64 0,.int .i64 0] 217)):=(KW.refl m B wb k1 k2 w).alloc hB _;have h1:=h.alloc hB (.cells #[.int .i64 0,.int .i64 0] 217);have c1:(w.alloc (.cells #[.int .i64 0,.int .i64 0] 217)).cell? ⟨wb,1,none⟩=some (.int .i64 (l.length:Int)):=by rw[z1f h1.wi.blk];rfl
 have P1:=P (sz t) m B wb k1 k2 n l sp _ v (z1d _) (Tv.keptN (h.kept K1) _ _ hv) h1 (by simp;omega) hl
 have HP:Hid (∀sp1 w1,Wt m B wb k1 k2 (zaa t n) (l++wtx (zaa t n) t) sp1 w1->NoNew (sz t) sp sp1 (w.alloc (.cells #[.int .i64 0,.int .i64 0] 217))->KW m B wb k1 k2 (w.alloc (.cells #[.int .i64 0,.int .i64 0] 217)) w1->
  ∃w2,(Instr.mapUpdate 168 (.map (some k2)) v (.agg #[.int .i64 (l.length:Int),.int .i64 ((l++wtx (zaa t n) t).length:Int)])).run Tryz.prog w1.drew=.ok () w2/\(∃sp2,Wt m B wb k1 k2 (zaa t n) (l++wtx (zaa t n) t) sp2 w2/\NoNew bd sp sp2 w)/\KW m B wb k1 k2 w w2):=by
  intro sp1 w1 H1 nn kk;have KK:=K1.trans kk;have hk:=h.kept KK;have hn1:=hn.kept hk;have hv1:=Tv.keptN hk _ _ hv;have hnone:zei sp1 q=none:=nn t v q ht (z1d _) (Tv.keptN (h.kept K1) _ _ hv) (hn.kept (h.kept K1)) hs;obtain⟨w2,r1,g,s1⟩:=span_put (w:=w1.drew) (b:=l.length) (e:=(l++wtx (zaa t n) t).length) (H1.drew.spm) (hn1.kept (w':=w1.drew) (λ_ _ _ _ h=>h)) hnone;have s1B:=z1c hB KK.size;refine⟨w2,r1,⟨_,H1.drew.spanned ht hv1.drew' s1 g (ztl t n) (by simp) (z1d _) (by simp),?_⟩,(KK.trans (KW.undrew1 (Gb.kw2 H1.b2 s1B g)))⟩;intro u v' q' ou hu tu nu ls;have l1:zei sp1 q'=none:=nn u v' q' ou (by omega) (Tv.keptN (h.kept K1) _ _ tu) (nu.kept (h.kept K1)) ls;refine lookS_snoc ?_ l1;rintro rfl;have e1:=nd_val hn nu;subst e1;have e2:=Tv.one t u v ht ou hv tu;subst e2;omega
 obtain⟨T,x,rfl⟩:=nv.iface;clear nv hn hv h h1 hl hs ht P;generalize sz t=zt at *
 generalize l++wtx (zaa t n) t=l' at *
 generalize zaa t n=n' at *
 go_enter Tryz.func95,Tryz.ntmps95;go_wp21;refine N.mono ?_;rintro r w1 ⟨rfl,rfl⟩;go_wp21;refine P1.mono ?_;rintro r w1 ⟨rfl,⟨sp1,h2,nn⟩,k2'⟩;obtain⟨w2,hput,⟨sp2,H2,nn2⟩,KZ⟩:=HP sp1 w1 h2 nn k2';have d3:w1.cell? ⟨wb,3,none⟩=some (.map (some k2)):=by rw[z1f h2.wi.blk];rfl
 have d1:w1.cell? ⟨wb,1,none⟩=some (.int .i64 (l'.length:Int)):=by rw[z1f h2.wi.blk];rfl
 have p3:w2.cell? ⟨wb,3,none⟩=some (.map (some k2)):=by rw[z1f H2.wi.blk];rfl
 have p1:w2.cell? ⟨wb,1,none⟩=some (.int .i64 (l'.length:Int)):=by rw[z1f H2.wi.blk];rfl
 clear h2 nn k2' HP K1 c3 c1 L;go_wp21;refine wp_region_held_drew (S:=(λwq=>wq.cell? ⟨wb,3,none⟩=some (.map (some k2))/\wq.cell? ⟨wb,1,none⟩=some (.int .i64 (l'.length:Int)))) (by kernel_rfl) (⟨d3,d1⟩) (λhS=>?_);refine tkS 0 (pZ wb) hS ?_;refine tkS 1 (pZ wb) hS ?_;refine tkS 2 (.pointer (some ⟨wb,3,none⟩)) hS ?_;refine tkL 3 (.map (some k2)) hS ?_;refine tkS 4 (.iface T x) hS ?_;refine tkS 5 (.int .i64 (l.length:Int)) hS ?_;refine tkS 6 (pZ wb) hS ?_;refine tkS 7 (pZ wb) hS ?_;refine tkS 8 (.pointer (some ⟨wb,1,none⟩)) hS ?_;refine tkL 9 (.int .i64 (l'.length:Int)) hS ?_;refine tkS 10 (.agg #[.int .i64 (l.length:Int),.int .i64 (l'.length:Int)]) hS ?_;refine rd1 11 (λKK hK=>?_);go_simp;refine hK.out _ _ ⟨p3,p1⟩ (λhS=>nrm ?_);refine wpAnyH_done (by kernel_rfl) ?_ _;go_wp21
 first|go_end0|refine bodyPost_ret (results_none rfl _ _ _) rfl ?_
 exact⟨rfl,⟨sp2,H2,nn2⟩,KZ⟩
theorem zml (ht:Ok t) (P:zov t) (hnd:∀w v,Tv w t v->∃q k,NdV v q k/\NdO w v q):zfw t:=by
 intro bd m B wb k1 k2 n l sp w v hbd hv h hB hl;obtain⟨q,k,nv,hn⟩:=hnd w v hv
 cases hs:zei sp q with
 |none=>exact type_new ht P bd hbd m B wb k1 k2 n l sp w v q k nv hn hv h hB hl hs
 |some r=>
  obtain⟨b,e⟩:=r;exact type_again ht bd m B wb k1 k2 n l sp w v q k b e nv hn hv h hB hl hs
theorem type_any:∀t:Ty,Ok t->zfw t:=by
 intro t
 induction t with
 |nil=>intro h;exact h.elim
 |node g o u a b iha ihb=>
  intro h
  cases u
  have h0:=h;rcases h with ⟨rfl,rfl,rfl,rfl⟩|⟨rfl,rfl,rfl,rfl⟩|⟨rfl,ho,rfl,rfl⟩|⟨rfl,rfl,ha,rfl⟩|⟨rfl,rfl,ha,hb⟩|⟨rfl,rfl,ha,hb⟩
  ·exact type_I
  ·exact type_B
  ·exact type_V ho
  ·refine zml h0 (parts_L (iha ha)) λw v hv=>?_
   obtain⟨q,x,rfl,hq,_⟩:=Tv.isL hv;exact⟨q,1,.inl ⟨rfl,rfl⟩,.inl ⟨rfl,_,_,hq⟩⟩
  ·refine zml h0 (parts_P ha hb (iha ha) (ihb hb)) λw v hv=>?_
   obtain⟨q,x,y,rfl,hq,_⟩:=Tv.isP hv;exact⟨q,2,.inr (.inl ⟨rfl,rfl⟩),.inr (.inl ⟨rfl,_,_,_,hq⟩)⟩
  ·refine zml h0 (parts_F ha hb (iha ha) (ihb hb)) λw v hv=>?_
   obtain⟨q,x,y,rfl,hq,_⟩:=Tv.isF hv;exact⟨q,2,.inr (.inr ⟨rfl,rfl⟩),.inr (.inr ⟨rfl,_,_,_,hq⟩)⟩
theorem Wn.wt (h:Wn m B wb k1 k2 w):Wt m B wb k1 k2 [] [] [] w:=
 ⟨h.wi,⟨#[],0,h.n1,rfl⟩,⟨#[],0,h.n2,rfl,λp hp=>(by cases hp)⟩,λp hp=>(by cases hp),h.b1,h.b2,h.ne,List.nodup_nil,λo ho=>(by cases ho)⟩
theorem zup (ht:Ok t) (T:TypeId) (x:Value) (hf:(zeh t).length+2<=140737488355328) (m:Option Nat) (B wb k1 k2 eb:Nat) (w:World) (hB:B<=w.heap.size) (hW:Wn m B wb k1 k2 w) (hv:Tv w t (.iface T x)) (c0:w.cell? ⟨eb,0,none⟩=some (.iface T x)):
 CZ 94 #[pZ wb,pZ eb] w λe w2=>e=.returned (.tuple #[])/\(∃nm sp,Wi m B wb nm sp (zeh t) w2)/\Below B w w2:=by
 have H:=type_any t ht (sz t+1) m B wb k1 k2 [] [] [] w _ (Nat.lt_succ_self _) hv hW.wt hB (by rw[zxf] at hf;simpa using hf);rw[<-zxf,List.nil_append] at H;generalize zeh t=f at *
 generalize zaa t []=n' at *
 generalize sz t+1=bd at *
 go_enter Tryz.func94,Tryz.ntmps94;go_wp21;refine H.mono ?_;rintro e w1 ⟨rfl,⟨sp',h1,_⟩,k1'⟩;go_wp21
 first|go_end0|refine bodyPost_ret (results_none rfl _ _ _) rfl ?_
 exact⟨rfl,⟨_,_,h1.wi⟩,k1'.1⟩
theorem zmp:zxa 94:=enters_of Tryz.func94 (by kernel_rfl) rfl
theorem kwrite_any (ht:Ok t) (v:Value) (w:World) (hv:Tv w t v) (hf:(zeh t).length+2<=140737488355328):
 CZ 56 #[v] w λe w'=>e=.returned (.string ⟨(zeh t).toArray⟩)/\Below w.heap.size w w':=by
 obtain⟨T,x,rfl⟩:=hv.iface;have B0:Below w.heap.size w (w.alloc (.cells #[.iface T x] 94)):=bal w _;have c0:(w.alloc (.cells #[.iface T x] 94)).cell? ⟨w.heap.size,0,none⟩=some (.iface T x):=by simp
 have H:=text_any' 94 #[] #[pZ w.heap.size] zmp (zeh t) (w.alloc (.cells #[.iface T x] 94)) (by omega)
  (λm B wb k1 k2 w1 b1 b2 b3 hW=>zup ht T x hf m B wb k1 k2 w.heap.size w1 b3 hW ((hv.below B0).below b1) ((b1.cell (p:=⟨w.heap.size,0,none⟩) (by show w.heap.size<_;simp)).trans c0))
 generalize zeh t=f at *
 go_enter Tryz.func56,Tryz.ntmps56;go_wp21;refine H.mono ?_;rintro e w1 ⟨rfl,h1⟩;go_wp21;go_ret;exact⟨rfl,B0.trans (h1.mono B0.size)⟩
end
def EPost (tx:Nat->Addr) (b:Nat) (s:ByteArray) (r:EOut) (w:World) (e:Ending) (w':World):Prop:=
 Gb b w w'/\match r with
  | .error p=>∃q,e=.returned (.tuple #[.nilIface,atv q])/\AtErr (tx 1) q p w'
  | .ok (x,j)=>∃v,e=.returned (.tuple #[v,.nilIface])/\Ev w' x v/\Rd b s j w'
def zfj (tx:Nat->Addr) (b:Nat) (s:ByteArray) (ty:Bool) (n:Nat):Prop:=
 ∀(i:Nat) (w:World),Rd b s i w->Gl tx w->i<=s.size->3*(s.size-i)+2<=n->
  CZ 123 #[rdv b ty] w (EPost tx b s (pe s ty n 0 i .nil) w)
def zjq (tx:Nat->Addr) (b:Nat) (s:ByteArray) (ty:Bool) (n:Nat):Prop:=
 ∀(i:Nat) (w:World),Rd b s i w->Gl tx w->i<=s.size->3*(s.size-i)+1<=n->
  CZ 187 #[rdv b ty] w (EPost tx b s (pe s ty n 2 i .nil) w)
section
variable {r:EOut} {e:Ending} {g:List Ty} {w w1:World} (tx:Nat->Addr) (b:Nat) (s:ByteArray) (ty:Bool)
theorem EPost.hand {tx:Nat->Addr} {b:Nat} {s:ByteArray} {w2:World} (hg:Gb b w w1) (h:EPost tx b s r w1 e w2):EPost tx b s r w e w2:=⟨hg.trans h.1,h.2⟩
theorem EPost.two {tx:Nat->Addr} {b:Nat} {s:ByteArray} (h:EPost tx b s r w e w1):∃u v,e=.returned (.tuple #[u,v]):=by
 obtain⟨_,h⟩:=h
 cases r with
 |error p=>obtain⟨q,rfl,_⟩:=h;exact⟨_,_,rfl⟩
 |ok r=>obtain⟨t,j⟩:=r;obtain⟨v,h,_⟩:=h;exact⟨_,_,h⟩
theorem Fv.shape {F:Value} (h:Fv w F g):F=.nilIface\/∃T x,F=.iface T x:=by
 rcases h with ⟨_,rfl⟩|⟨u,_,h⟩
 ·exact .inl rfl
 ·exact .inr h.iface
theorem zmk {B:Nat} {e:TypeId} {k n:Nat} {v:Value} {xs:List Value} (h:w.ownsRow B e k v n xs):∃a m c,v=.slice a m c:=by
 rcases h.2 with ⟨rfl,_⟩|⟨g',cap,cur,rfl,_⟩<;>exact⟨_,_,_,rfl⟩
theorem Gv.shape {G:Value} (h:Gv w G g):∃a m c,G=.slice a m c:=by
 obtain⟨vs,h,_⟩:=h;exact zmk h
def fnO (s:ByteArray) (ty:Bool) (n i p:Nat):EOut:=
 if zaq (chr s i) then
  match zku s ty (i+1) with
  | .error p=> .error p
  | .ok (g,j)=>
   if chr s j=46 then
    match pe s ty n 0 (j+1) .nil with
    | .error p=> .error p
    | .ok (a,k)=> .ok (eF (chr s i) p g a,k)
   else .error j
 else .error i
theorem zss (hty:Hid (ty=false)) (n i p:Nat) (w:World) (ih:zfj tx b s ty n) (h:Rd b s i w) (g:Gl tx w) (hi:i<=s.size) (hs:s.size<=100000) (hb:9<=b) (hn:3*(s.size-i)<=n):
 CZ 150 #[rdv b ty,iZ p] w (EPost tx b s (fnO s ty n i p) w):=by
 have bx:=Rbx.new ty h;have h1:=h.alloc (rdo b ty);have G0:Gb b w (w.alloc (rdo b ty)):=(Gb.refl b w).alloc _;have g1:=g.gb G0 hb;have c0:=bx.c0;have c1:=bx.c1;have hl:=zmh s i
 cases hc:zaq (chr s i)
 ·have HR:Hid (fnO s ty n i p=.error i):=by unfold Hid fnO;rw[if_neg (by rw[hc];decide)]
  go_enter Tryz.func150,Tryz.ntmps150;go_wp21;refine(zmd tx b s i _ h1 g1 hi hs hc hb).mono ?_;rintro e w1 ⟨q,rfl,ha,hg⟩;clear hc;go_wp21;go_ret2;rw[HR.out];exact⟨G0.trans hg,q,rfl,ha⟩
 ·have hlt:=zag (by intro e;rw[e] at hc;exact absurd hc (by decide))
  have HC:=hid hc;clear hc;go_enter Tryz.func150,Tryz.ntmps150;go_wp21;refine(zfs b s i _ h1 hs HC).mono ?_;rintro e w1 ⟨rfl,hr,hg⟩;have G1:=G0.trans hg;have bx1:=bx.gb hg;replace c0:=bx1.c0;replace c1:=bx1.c1;go_wp21;refine(from_any tx b s ty hty (i+1) _ hr (g.gb G1 hb) hlt hs hb).mono ?_;rintro e w2 ⟨hg2,hp⟩;have G2:=G1.trans hg2;have bx2:=bx1.gb hg2;replace c0:=bx2.c0;replace c1:=bx2.c1;clear bx1 bx
  cases hq:zku s ty (i+1) with
  |error q=>
   have HR:Hid (fnO s ty n i p=.error q):=by unfold Hid fnO;rw[if_pos HC.out,hq]
   rw[hq] at hp;obtain⟨q',rfl,ha⟩:=hp;clear hq;go_wp21;go_ret2;rw[HR.out];exact⟨G2,q',rfl,ha⟩
  |ok r=>
   obtain⟨gg,j⟩:=r;have HR0:Hid (fnO s ty n i p=if chr s j=46 then (match pe s ty n 0 (j+1) .nil with| .error p=> .error p| .ok (a,k)=> .ok (eF (chr s i) p gg a,k)) else .error j):=by unfold Hid fnO;rw[if_pos HC.out,hq]
   have pl:=zhd hq (by omega);have p1:=pl.1;have p2:=pl.2.1;rw[hq] at hp;obtain⟨F,rfl,hF,hr2⟩:=hp;clear hq pl;by_cases h46:chr s j=46
   ·have HQ:=HR0.out
    rw[if_pos h46] at HQ;have hlt2:=zag (by rw[h46];decide);have H46:=hid h46;clear HR0 h46;have HR:=hid HQ;clear HQ;go_wp21;refine(zjp b s j 46 _ hr2 hs H46.out (by decide)).mono ?_;rintro e w3 ⟨rfl,hr3,hg3⟩;have G3:=G2.trans hg3;have hF3:=hF.kept (hg3.kept hr2);have bx3:=bx2.gb hg3;replace c0:=bx3.c0;replace c1:=bx3.c1;clear hF bx2;go_wp21;refine(ih (j+1) _ hr3 (g.gb G3 hb) hlt2 (by omega)).mono ?_;rintro e w4 ⟨hg4,hp⟩;have G4:=G3.trans hg4;have hF4:=hF3.kept (hg4.kept hr3);clear c0 c1 hF3
    cases hq:pe s ty n 0 (j+1) .nil with
    |error q=>
     rw[hq] at hp HR;obtain⟨q',rfl,ha⟩:=hp;clear hq;go_wp21;go_ret2;rw[HR.out];exact⟨G4,q',rfl,ha⟩
    |ok r=>
     obtain⟨a,k⟩:=r;rw[hq] at hp HR;obtain⟨v,rfl,hv,hr4⟩:=hp;clear hq;obtain⟨T,x,rfl⟩:=hv.iface;rcases hF4.shape with rfl|⟨T',x',rfl⟩
     ·go_wp21
      go_ret2;rw[HR.out];exact⟨G4,_,rfl,.inr (.inr (.inr (.inl ⟨rfl,_,T,x,rfl,hF4,hv⟩))),hr4⟩
     ·go_wp21
      go_ret2;rw[HR.out];exact⟨G4,_,rfl,.inr (.inr (.inr (.inl ⟨rfl,_,T,x,rfl,hF4,hv⟩))),hr4⟩
   ·have HQ:=HR0.out
    rw[if_neg h46] at HQ;have H46:=hid h46;clear HR0 h46;have HR:=hid HQ;clear HQ;go_wp21;refine(zng tx b s j 46 _ hr2 (g.gb G2 hb) p2 hs H46 hb).mono ?_;rintro e w3 ⟨q',rfl,ha,hg3⟩;go_wp21;go_ret2;rw[HR.out];exact⟨G2.trans hg3,q',rfl,ha⟩
def ltO (s:ByteArray) (ty:Bool) (n i p:Nat):EOut:=
 if zaq (chr s i) then
  match ownO s ty (i+1) with
  | .error p=> .error p
  | .ok (v,j)=>
   if chr s j=61 then
    match pe s ty n 0 (j+1) .nil with
    | .error p=> .error p
    | .ok (a,k)=>
     if chr s k=59 then
      match pe s ty n 0 (k+1) .nil with
      | .error p=> .error p
      | .ok (b,l)=> .ok (eL (chr s i) p v a b,l)
     else .error k
   else .error j
 else .error i
theorem let_any (hty:Hid (ty=false)) (n i p:Nat) (w:World) (ih:zfj tx b s ty n) (h:Rd b s i w) (g:Gl tx w) (hi:i<=s.size) (hs:s.size<=100000) (hb:9<=b) (hn:3*(s.size-i)<=n):
 CZ 151 #[rdv b ty] w (EPost tx b s (ltO s ty n i p) w):=by
 have bx:=Rbx.new ty h;have h1:=h.alloc (rdo b ty);have G0:Gb b w (w.alloc (rdo b ty)):=(Gb.refl b w).alloc _;have g1:=g.gb G0 hb;have c0:=bx.c0;have c1:=bx.c1;have hl:=zmh s i
 cases hc:zaq (chr s i)
 ·have HR:Hid (ltO s ty n i p=.error i):=by unfold Hid ltO;rw[if_neg (by rw[hc];decide)]
  go_enter Tryz.func151,Tryz.ntmps151;go_wp21;refine(zmd tx b s i _ h1 g1 hi hs hc hb).mono ?_;rintro e w1 ⟨q,rfl,ha,hg⟩;clear hc;go_wp21;go_ret2;rw[HR.out];exact⟨G0.trans hg,q,rfl,ha⟩
 ·have hlt:=zag (by intro e;rw[e] at hc;exact absurd hc (by decide))
  have HC:=hid hc;clear hc;go_enter Tryz.func151,Tryz.ntmps151;go_wp21;refine(zfs b s i _ h1 hs HC).mono ?_;rintro e w1 ⟨rfl,hr,hg⟩;have G1:=G0.trans hg;have bx1:=bx.gb hg;replace c0:=bx1.c0;replace c1:=bx1.c1;go_wp21;refine(own_any tx b s ty hty (i+1) _ hr (g.gb G1 hb) hlt hs hb).mono ?_;rintro e w2 ⟨hg2,hp⟩;have G2:=G1.trans hg2;have bx2:=bx1.gb hg2;replace c0:=bx2.c0;replace c1:=bx2.c1;clear bx1 bx
  cases hq:ownO s ty (i+1) with
  |error q=>
   have HR:Hid (ltO s ty n i p=.error q):=by unfold Hid ltO;rw[if_pos HC.out,hq]
   rw[hq] at hp;obtain⟨V,q',rfl,ha⟩:=hp;clear hq;go_wp21;go_ret2;rw[HR.out];exact⟨G2,q',rfl,ha⟩
  |ok r=>
   obtain⟨vv,j⟩:=r;have HR0:Hid (ltO s ty n i p=if chr s j=61 then (match pe s ty n 0 (j+1) .nil with| .error p=> .error p| .ok (a,k)=>if chr s k=59 then (match pe s ty n 0 (k+1) .nil with| .error p=> .error p| .ok (b,l)=> .ok (eL (chr s i) p vv a b,l)) else .error k) else .error j):=by unfold Hid ltO;rw[if_pos HC.out,hq]
   have pl:=zgh hq (by omega);have p1:=pl.1;have p2:=pl.2.1;rw[hq] at hp;obtain⟨V,rfl,hV,hr2⟩:=hp;clear hq pl;by_cases h61:chr s j=61
   ·have HQ:=HR0.out
    rw[if_pos h61] at HQ;have hlt2:=zag (by rw[h61];decide);have H61:=hid h61;clear HR0 h61;have HR:=hid HQ;clear HQ;go_wp21;refine(zjp b s j 61 _ hr2 hs H61.out (by decide)).mono ?_;rintro e w3 ⟨rfl,hr3,hg3⟩;have G3:=G2.trans hg3;have hV3:=hV.kept (hg3.kept hr2);have bx3:=bx2.gb hg3;replace c0:=bx3.c0;replace c1:=bx3.c1;clear hV bx2;go_wp21;refine(ih (j+1) _ hr3 (g.gb G3 hb) hlt2 (by omega)).mono ?_;rintro e w4 ⟨hg4,hp⟩;have G4:=G3.trans hg4;have hV4:=hV3.kept (hg4.kept hr3);have bx4:=bx3.gb hg4;replace c0:=bx4.c0;replace c1:=bx4.c1;clear hV3 bx3
    cases hq:pe s ty n 0 (j+1) .nil with
    |error q=>
     rw[hq] at hp HR;obtain⟨q',rfl,ha⟩:=hp;clear hq;go_wp21;go_ret2;rw[HR.out];exact⟨G4,q',rfl,ha⟩
    |ok r=>
     obtain⟨a,k⟩:=r;rw[hq] at hp HR;obtain⟨v,rfl,hv,hr4⟩:=hp;have pl:=zas s ty _ _ _ _ _ _ hq hlt2 (by omega);have p3:j+1<k:=by omega
     have p4:=pl.2.1;clear hq pl;obtain⟨T,x,rfl⟩:=hv.iface;by_cases h59:chr s k=59
     ·have HQ:=HR.out
      simp only[if_pos h59] at HQ;have hlt3:=zag (by rw[h59];decide);have H59:=hid h59;clear HR h59;have HR:=hid HQ;clear HQ;go_wp21;refine(zjp b s k 59 _ hr4 hs H59.out (by decide)).mono ?_;rintro e w5 ⟨rfl,hr5,hg5⟩;have G5:=G4.trans hg5;have hk5:=hg5.kept hr4;have hV5:=hV4.kept hk5;have hv5:=Ev.kept hk5 _ _ hv;have bx5:=bx4.gb hg5;replace c0:=bx5.c0;replace c1:=bx5.c1;clear hV4 hv bx4;go_wp21;refine(ih (k+1) _ hr5 (g.gb G5 hb) hlt3 (by omega)).mono ?_;rintro e w6 ⟨hg6,hp⟩;have G6:=G5.trans hg6;have hk6:=hg6.kept hr5;have hV6:=hV5.kept hk6;have hv6:=Ev.kept hk6 _ _ hv5;clear c0 c1 hV5 hv5
      cases hq:pe s ty n 0 (k+1) .nil with
      |error q=>
       rw[hq] at hp HR;obtain⟨q',rfl,ha⟩:=hp;clear hq;go_wp21;go_ret2;rw[HR.out];exact⟨G6,q',rfl,ha⟩
      |ok r=>
       obtain⟨a',l⟩:=r;rw[hq] at hp HR;obtain⟨v',rfl,hv',hr6⟩:=hp;clear hq;obtain⟨T',x',rfl⟩:=hv'.iface;obtain⟨sa,sm,sc,rfl⟩:=zmk hV6;go_wp21;go_ret2;rw[HR.out];exact⟨G6,_,rfl,.inr (.inr (.inr (.inr (.inl ⟨rfl,_,T,x,T',x',rfl,hV6,hv6,hv'⟩)))),hr6⟩
     ·have HQ:=HR.out
      simp only[if_neg h59] at HQ;have H59:=hid h59;clear HR h59;have HR:=hid HQ;clear HQ;go_wp21;refine(zng tx b s k 59 _ hr4 (g.gb G4 hb) p4 hs H59 hb).mono ?_;rintro e w5 ⟨q',rfl,ha,hg5⟩;go_wp21;go_ret2;rw[HR.out];exact⟨G4.trans hg5,q',rfl,ha⟩
   ·have HQ:=HR0.out
    rw[if_neg h61] at HQ;have H61:=hid h61;clear HR0 h61;have HR:=hid HQ;clear HQ;go_wp21;refine(zng tx b s j 61 _ hr2 (g.gb G2 hb) p2 hs H61 hb).mono ?_;rintro e w3 ⟨q',rfl,ha,hg3⟩;go_wp21;go_ret2;rw[HR.out];exact⟨G2.trans hg3,q',rfl,ha⟩
def clO (s:ByteArray) (ty:Bool) (n i:Nat):EOut:=
 match pe s ty n 0 i .nil with
 | .error p=> .error p
 | .ok (a,j)=>if chr s j=41 then .ok (a,j+1) else .error j
theorem closed_any (tx:Nat->Addr) (b:Nat) (s:ByteArray) (ty:Bool) (n i:Nat) (w:World) (ih:zfj tx b s ty n) (h:Rd b s i w) (g:Gl tx w) (hi:i<=s.size) (hs:s.size<=100000) (hb:9<=b) (hn:3*(s.size-i)+2<=n):
 CZ 214 #[rdv b ty] w (EPost tx b s (clO s ty n i) w):=by
 have bx:=Rbx.new ty h;have h1:=h.alloc (rdo b ty);have G0:Gb b w (w.alloc (rdo b ty)):=(Gb.refl b w).alloc _;have g1:=g.gb G0 hb;have c0:=bx.c0;have c1:=bx.c1;go_enter Tryz.func214,Tryz.ntmps214;go_wp21;refine(ih i _ h1 g1 hi hn).mono ?_;rintro e w1 ⟨hg,hp⟩;have G1:=G0.trans hg;have bx1:=bx.gb hg;replace c0:=bx1.c0;replace c1:=bx1.c1
 cases hq:pe s ty n 0 i .nil with
 |error p=>
  rw[hq] at hp;obtain⟨q,rfl,ha⟩:=hp;have HR:Hid (clO s ty n i=.error p):=by unfold Hid clO;rw[hq]
  go_wp21;go_ret2;rw[HR.out];exact⟨G1,q,rfl,ha⟩
 |ok r=>
  obtain⟨a,j⟩:=r;rw[hq] at hp;obtain⟨v,rfl,hv,hr⟩:=hp;have pl:=zas s ty _ _ _ _ _ _ hq hi (by omega);have hj2:=pl.2.1;obtain⟨T,x,rfl⟩:=hv.iface;by_cases h41:chr s j=41
  ·have HR:Hid (clO s ty n i=.ok (a,j+1)):=by unfold Hid clO;simp only[hq];rw[if_pos h41]
   go_wp21;refine(zjp b s j 41 w1 hr hs h41 (by decide)).mono ?_;rintro e w2 ⟨rfl,hr2,hg2⟩;go_wp21;go_ret2;rw[HR.out];exact⟨G1.trans hg2,_,rfl,Ev.kept (hg2.kept hr) _ _ hv,hr2⟩
  ·have HR:Hid (clO s ty n i=.error j):=by unfold Hid clO;simp only[hq];rw[if_neg h41]
   go_wp21;refine(zng tx b s j 41 w1 hr (g.gb G1 hb) hj2 hs h41 hb).mono ?_;rintro e w2 ⟨q,rfl,ha,hg2⟩;go_wp21;go_ret2;rw[HR.out];exact⟨G1.trans hg2,q,rfl,ha⟩
end
section
variable (s:ByteArray) (ty:Bool) (n i:Nat)
theorem atom_lit (h:zal (chr s i)=true) (hl:zcs (chr s i)=true):pe s ty (n+1) 2 i .nil=.ok (eN (chr s i) i,i+1):=by
 rw[pe,if_pos h,if_pos hl]
theorem atom_par (h:zal (chr s i)=true) (hl:zcs (chr s i)=false) (h40:chr s i=40):pe s ty (n+1) 2 i .nil=clO s ty n (i+1):=by
 rw[pe,if_pos h,if_neg (by rw[hl];decide),if_pos h40];unfold clO;cases pe s ty n 0 (i+1) .nil<;>rfl
theorem atom_nam (h:zal (chr s i)=true) (hl:zcs (chr s i)=false) (h40:chr s i≠40):pe s ty (n+1) 2 i .nil=
 match zfg s ty (i+1) with
 | .error p=> .error p
 | .ok (g,j)=> .ok (if zdi (chr s i) then eK (chr s i) i g else eX (chr s i) i g,j):=by
 rw[pe,if_pos h,if_neg (by rw[hl];decide),if_neg h40];cases zfg s ty (i+1)<;>rfl
theorem eatom_none (h:zal (chr s i)=false):pe s ty (n+1) 2 i .nil=.error i:=by
 rw[pe,if_neg (by rw[h];decide)]
theorem atom_any (tx:Nat->Addr) (b:Nat) (s:ByteArray) (ty:Bool) (hty:Hid (ty=false)) (n:Nat) (ih:zfj tx b s ty n) (hs:s.size<=100000) (hb:9<=b):zjq tx b s ty (n+1):=by
 intro i w h g hi hn;have bx:=Rbx.new ty h;have h1:=h.alloc (rdo b ty);have G0:Gb b w (w.alloc (rdo b ty)):=(Gb.refl b w).alloc _;have c0:=bx.c0;have c1:=bx.c1;have C0:∀k,((w.alloc (rdo b ty)).drewN k).cell? ⟨w.heap.size,0,none⟩=some (pZ b):=λ_=>c0
 have C1:∀k,((w.alloc (rdo b ty)).drewN k).cell? ⟨w.heap.size,1,none⟩=some (.bool ty):=λ_=>c1
 have hl:=zmh s i;have PK:=λw' (h':Rd b s i w')=>zgl b s i w' h' hi hs
 have PL:=λw' (h':Rd b s i w')=>zjg b s i w' h'
 go_enter Tryz.func187,Tryz.ntmps187;go_wp21
 go_region_with (first
  |(go_at_call 189;refine(PK _ (by exact h1)).mono ?_;rintro e w' ⟨rfl,m,rfl⟩)
  |(go_at_call 148;refine(PL _ (by exact h1)).mono ?_;rintro e w' ⟨rfl,rfl⟩))
 all_goals
  cases hbg:zal (chr s i)
  ·have HR:=hid (eatom_none s ty n i hbg)
   go_wp21;refine(zfq (chr s i) _ hl).mono ?_;rintro e w' ⟨rfl,rfl⟩;rw[hbg];clear hbg;go_wp21;refine(zjt tx b s i _ (by exact h1) (g.gb (G0.drewN _) hb)).mono ?_;rintro e w' ⟨q,rfl,ha,hg⟩;go_wp21;go_ret2;rw[HR.out];exact⟨(G0.drewN _).trans hg,q,rfl,ha⟩
  ·have hlt:=zag (zdg hbg)
   have HB:=hid hbg;go_wp21;refine(zfq (chr s i) _ hl).mono ?_;rintro e w' ⟨rfl,rfl⟩;rw[hbg];clear hbg;go_wp21;refine(zqx b s i _ (by exact h1) hlt hs).mono ?_;rintro e w1 ⟨rfl,hr,hg⟩;have G1:Gb b w w1:=(G0.drewN _).trans hg;have bx1:Rbx w.heap.size b ty w1:=⟨hg.old bx.1 bx.2,bx.2⟩
   replace c0:=bx1.c0;replace c1:=bx1.c1;clear C0 C1
   cases hc3:zcs (chr s i)
   ·by_cases h40:chr s i=40
    ·have HR:=hid (atom_par s ty n i HB.out hc3 h40)
     have e40:((chr s i:Int)==40)=true:=by rw[h40];rfl
     clear h40;go_wp21;refine(zeo (chr s i) _ hl).mono ?_;rintro e w' ⟨rfl,rfl⟩;rw[hc3];clear hc3;go_wp21;refine(closed_any tx b s ty n (i+1) _ ih hr (g.gb G1 hb) hlt hs hb (by omega)).mono ?_;rintro e w2 hp;have HP:Hid (EPost tx b s (pe s ty (n+1) 2 i .nil) w e w2):=by rw[HR.out];exact hp.hand G1
     obtain⟨u,v,rfl⟩:=hp.two;clear HR hp;go_wp21;go_ret2;exact HP
    ·have HR0:=hid (atom_nam s ty n i HB.out hc3 h40)
     have e40:((chr s i:Int)==40)=false:=by rw[beq_eq_false_iff_ne];omega
     clear h40;go_wp21;refine(zeo (chr s i) _ hl).mono ?_;rintro e w' ⟨rfl,rfl⟩;rw[hc3];clear hc3;go_wp21;refine(given_any tx b s ty hty (i+1) _ hr (g.gb G1 hb) hlt hs hb).mono ?_;rintro e w2 ⟨hg2,hp⟩;have G2:=G1.trans hg2;clear c0 c1 e40
     cases hq:zfg s ty (i+1) with
     |error q=>
      rw[hq] at hp HR0;obtain⟨V,q',rfl,ha⟩:=hp;clear hq;go_wp21;go_ret2;rw[HR0.out];exact⟨G2,q',rfl,ha⟩
     |ok r=>
      obtain⟨gg,j⟩:=r;rw[hq] at hp HR0;obtain⟨V,rfl,hV,hr2⟩:=hp;clear hq;obtain⟨sa,sm,sc,rfl⟩:=hV.shape;go_wp21;refine(zfo (chr s i) _ hl).mono ?_;rintro e w' ⟨rfl,rfl⟩
      cases hc2:zdi (chr s i)
      ·have HQ:=HR0.out
       simp only[hc2,Bool.false_eq_true,if_false] at HQ;have HR:=hid HQ;clear HQ HR0 hc2;go_wp21;go_ret2;rw[HR.out];exact⟨G2,_,rfl,.inl ⟨rfl,_,rfl,hV⟩,hr2⟩
      ·have HQ:=HR0.out
       simp only[hc2,if_true] at HQ;have HR:=hid HQ;clear HQ HR0 hc2;go_wp21;go_ret2;rw[HR.out];exact⟨G2,_,rfl,.inr (.inl ⟨rfl,_,rfl,hV⟩),hr2⟩
   ·have HR:=hid (atom_lit s ty n i HB.out hc3)
    go_wp21;refine(zeo (chr s i) _ hl).mono ?_;rintro e w' ⟨rfl,rfl⟩;rw[hc3];clear hc3;go_wp21;go_ret2;rw[HR.out];exact⟨G1,_,rfl,.inr (.inr (.inl ⟨rfl,rfl⟩)),hr⟩
end
def caO (s:ByteArray) (ty:Bool) (n i:Nat):EOut:=
 match pe s ty n 2 i .nil with
 | .error p=> .error p
 | .ok (a,j)=>pe s ty n 1 j a
section
variable (s:ByteArray) (ty:Bool) (m j:Nat) (a:Ex) (n i:Nat)
theorem emore_yes (h:zal (chr s j)=true):pe s ty (m+1) 1 j a=
 match pe s ty m 2 j .nil with
 | .error p=> .error p
 | .ok (c,q)=>pe s ty m 1 q (eC j a c):=by
 rw[pe,if_pos h]
 cases pe s ty m 2 j .nil<;>rfl
theorem emore_no (h:zal (chr s j)=false):pe s ty (m+1) 1 j a=.ok (a,j):=by
 rw[pe,if_neg (by rw[h];decide)]
theorem calls_any (tx:Nat->Addr) (b:Nat) (s:ByteArray) (ty:Bool) (n i:Nat) (w:World) (IH:Hid (∀m,m<=n->zjq tx b s ty m)) (h:Rd b s i w) (g:Gl tx w) (hi:i<=s.size) (hs:s.size<=100000) (hb:9<=b) (hn:3*(s.size-i)+1<=n):
 CZ 152 #[rdv b ty] w (EPost tx b s (caO s ty n i) w):=by
 have bx:=Rbx.new ty h;have h1:=h.alloc (rdo b ty);have G0:Gb b w (w.alloc (rdo b ty)):=(Gb.refl b w).alloc _;have g1:=g.gb G0 hb;have c0:=bx.c0;have c1:=bx.c1;go_enter Tryz.func152,Tryz.ntmps152;go_wp21;refine(IH n (z1d n) i _ h1 g1 hi hn).mono ?_;rintro e w1 ⟨hg,hp⟩;have G1:=G0.trans hg;have bx1:=bx.gb hg;clear c0 c1 bx
 cases hq:pe s ty n 2 i .nil with
 |error p=>
  rw[hq] at hp;obtain⟨q,rfl,ha⟩:=hp;have HR:Hid (caO s ty n i=.error p):=by unfold Hid caO;rw[hq]
  clear hq;go_wp21;go_ret2;rw[HR.out];exact⟨G1,q,rfl,ha⟩
 |ok r=>
  obtain⟨a,j⟩:=r;rw[hq] at hp;obtain⟨v,rfl,hv,hr⟩:=hp;have pl:=zas s ty _ _ _ _ _ _ hq hi (by omega);have HR:Hid (pe s ty n 1 j a=caO s ty n i):=by unfold Hid caO;rw[hq]
  have p1:i<j:=by omega
  have p2:=pl.2.1;clear hq pl;obtain⟨T,x,rfl⟩:=hv.iface;go_wp21
  go_loopw [4] (λv wr=>∃m j a T x,v=.iface T x/\m<=n/\Ev wr a (.iface T x)/\Rd b s j wr/\Rbx w.heap.size b ty wr/\j<=s.size/\3*(s.size-j)+2<=m/\Gb b w wr/\Hid (pe s ty m 1 j a=caO s ty n i)) (λ_ wr=>s.size-plk b wr)
  case atStart=>exact⟨n,j,a,T,x,rfl,z1d n,hv,hr,bx1,p2,by omega,G1,HR⟩
  case round=>
   clear HR hv hr hg p1 p2 bx1 G1;obtain⟨m,j,a,T,x,rfl,hmn,hv,hr,bx,hj,hm,G1,HR⟩:=hrel;obtain⟨m,rfl⟩:∃m',m=m'+1:=⟨m-1,by omega⟩
   have hl:=zmh s j;have hplr:=hid hr.plk;have c0:=bx.c0;have c1:=bx.c1;go_wp21;refine(zgl b s j _ hr hj hs).mono ?_;rintro e w' ⟨rfl,d,rfl⟩;go_wp21;refine(zfq (chr s j) _ hl).mono ?_;rintro e w' ⟨rfl,rfl⟩;replace hr:=hr.drewN d;replace G1:=G1.drewN d;have bx2:Rbx w.heap.size b ty (wr.drewN d):=bx;have hv2:Ev (wr.drewN d) a (.iface T x):=Ev.kept (w:=wr) (w':=wr.drewN d) (λ_ _ _ _ _ h=>h) _ _ hv;replace c0:=bx2.c0;replace c1:=bx2.c1;clear bx hv;generalize wr.drewN d=w2 at *
   cases hbg:zal (chr s j)
   ·have HQ:Hid (caO s ty n i=.ok (a,j)):=by rw[<-HR.out];exact emore_no s ty m j a hbg
    clear hbg;go_wp21;go_ret2;rw[HQ.out];exact⟨G1,_,rfl,hv2,hr⟩
   ·have HQ:=HR.out
    rw[emore_yes s ty m j a hbg] at HQ;clear HR hbg;have HR:=hid HQ;clear HQ;go_wp21;refine(zjg b s j _ hr).mono ?_;rintro e w' ⟨rfl,rfl⟩;go_wp21;refine(IH.out m (by omega) j _ hr (g.gb G1 hb) hj (by omega)).mono ?_;rintro e w3 ⟨hg2,hp⟩;have G3:=G1.trans hg2;have bx3:=bx2.gb hg2;have hv3:=Ev.kept (hg2.kept hr) _ _ hv2;clear c0 c1 hv2 bx2
    cases hq:pe s ty m 2 j .nil with
    |error p=>
     rw[hq] at hp HR;obtain⟨q,rfl,ha⟩:=hp;clear hq;go_wp21;go_ret2;rw[<-HR.out];exact⟨G3,q,rfl,ha⟩
    |ok r=>
     obtain⟨c,q⟩:=r;rw[hq] at hp HR;obtain⟨v',rfl,hv',hr'⟩:=hp;have pl:=zas s ty _ _ _ _ _ _ hq hj (by omega);have p1:j<q:=by omega
     have p2:=pl.2.1;clear hq pl;obtain⟨T',x',rfl⟩:=hv'.iface;have hv4:Ev w3 (eC j a c) (.iface 186 (.agg #[.iface T x,.iface T' x',iZ j])):=.inr (.inr (.inr (.inr (.inr ⟨rfl,T,x,T',x',rfl,hv3,hv'⟩))));go_wp21;go_roundw
     case rel=>exact⟨m,q,eC j a c,_,_,rfl,by omega,hv4,hr',bx3,p2,by omega,G3,HR⟩
     case measure=>rw[hr'.plk,hplr.out];omega
theorem eexpr_fn (h:chr s i=92):pe s ty (n+1) 0 i .nil=fnO s ty n (i+1) i:=by
 rw[pe,if_pos h];rfl
theorem eexpr_lt (h:chr s i=64):pe s ty (n+1) 0 i .nil=ltO s ty n (i+1) i:=by
 rw[pe,if_neg (by omega),if_pos h];rfl
theorem eexpr_ca (h:chr s i≠92) (h':chr s i≠64):pe s ty (n+1) 0 i .nil=caO s ty n i:=by
 rw[pe,if_neg h,if_neg h'];rfl
theorem expr_step (tx:Nat->Addr) (b:Nat) (s:ByteArray) (ty:Bool) (hty:Hid (ty=false)) (n:Nat) (ihE:zfj tx b s ty n) (IH:Hid (∀m,m<=n->zjq tx b s ty m)) (hs:s.size<=100000) (hb:9<=b):zfj tx b s ty (n+1):=by
 intro i w h g hi hn;have bx:=Rbx.new ty h;have h1:=h.alloc (rdo b ty);have G0:Gb b w (w.alloc (rdo b ty)):=(Gb.refl b w).alloc _;have c0:=bx.c0;have c1:=bx.c1;by_cases h92:chr s i=92
 ·have HR:Hid (pe s ty (n+1) 0 i .nil=fnO s ty n (i+1) i):=eexpr_fn s ty n i h92
  have hlt:i<s.size:=zag (by omega);have HC:Hid (s[i].toNat=92):=by unfold Hid;rw[zpn hlt];exact h92
  clear h92;go_enter Tryz.func123,Tryz.ntmps123;go_wp21;refine(zjg b s i _ h1).mono ?_;rintro e w' ⟨rfl,rfl⟩;go_wp21;refine(zep b s i 92 _ h1 hlt hs HC).mono ?_;rintro e w1 ⟨rfl,hr,hg⟩;have G1:=G0.trans hg;have bx1:=bx.gb hg;replace c0:=bx1.c0;replace c1:=bx1.c1;go_wp21;refine(zss tx b s ty hty n (i+1) i w1 ihE hr (g.gb G1 hb) hlt hs hb (by omega)).mono ?_;rintro e w2 hp;have HP:Hid (EPost tx b s (pe s ty (n+1) 0 i .nil) w e w2):=by rw[HR.out];exact hp.hand G1
  obtain⟨u,v,rfl⟩:=hp.two;clear HR hp;go_wp21;go_ret2;exact HP
 ·have HQ:Hid (∀hlt:i<s.size,s[i].toNat≠92):=zjf h92
  by_cases h64:chr s i=64
  ·have HR:Hid (pe s ty (n+1) 0 i .nil=ltO s ty n (i+1) i):=eexpr_lt s ty n i h64
   have hlt:i<s.size:=zag (by omega);have HC:Hid (s[i].toNat=64):=by unfold Hid;rw[zpn hlt];exact h64
   clear h64 h92;go_enter Tryz.func123,Tryz.ntmps123;go_wp21;refine(zjg b s i _ h1).mono ?_;rintro e w' ⟨rfl,rfl⟩;go_wp21;refine(zcm b s i 92 _ h1 hi hs HQ).mono ?_;rintro e w0 ⟨rfl,d,rfl⟩;replace h1:=h1.drewN d;replace G0:=G0.drewN d;have bx0:Rbx w.heap.size b ty ((w.alloc (rdo b ty)).drewN d):=bx;replace c0:=bx0.c0;replace c1:=bx0.c1;clear bx;go_wp21;refine(zep b s i 64 _ h1 hlt hs HC).mono ?_;rintro e w1 ⟨rfl,hr,hg0⟩;have G1:=G0.trans hg0;have bx1:=bx0.gb hg0;replace c0:=bx1.c0;replace c1:=bx1.c1;go_wp21;refine(let_any tx b s ty hty n (i+1) i w1 ihE hr (g.gb G1 hb) hlt hs hb (by omega)).mono ?_;rintro e w2 hp;have HP:Hid (EPost tx b s (pe s ty (n+1) 0 i .nil) w e w2):=by rw[HR.out];exact hp.hand G1
   obtain⟨u,v,rfl⟩:=hp.two;clear HR hp;go_wp21;go_ret2;exact HP
  ·have HR:Hid (pe s ty (n+1) 0 i .nil=caO s ty n i):=eexpr_ca s ty n i h92 h64
   have HC:Hid (∀hlt:i<s.size,s[i].toNat≠64):=zjf h64;clear h92 h64;go_enter Tryz.func123,Tryz.ntmps123;go_wp21;refine(zjg b s i _ h1).mono ?_;rintro e w' ⟨rfl,rfl⟩;go_wp21;refine(zcm b s i 92 _ h1 hi hs HQ).mono ?_;rintro e w0 ⟨rfl,d,rfl⟩;replace h1:=h1.drewN d;replace G0:=G0.drewN d;have bx0:Rbx w.heap.size b ty ((w.alloc (rdo b ty)).drewN d):=bx;replace c0:=bx0.c0;replace c1:=bx0.c1;clear bx;generalize (w.alloc (rdo b ty)).drewN d=w5 at *
   go_wp21;refine(zcm b s i 64 _ h1 hi hs HC).mono ?_;rintro e w1 ⟨rfl,d',rfl⟩;replace h1:=h1.drewN d';replace G0:=G0.drewN d';have bx1:Rbx w.heap.size b ty (w5.drewN d'):=bx0;replace c0:=bx1.c0;replace c1:=bx1.c1;clear bx0;generalize w5.drewN d'=w6 at *
   go_wp21;refine(calls_any tx b s ty n i _ IH h1 (g.gb G0 hb) hi hs hb (by omega)).mono ?_;rintro e w2 hp;have HP:Hid (EPost tx b s (pe s ty (n+1) 0 i .nil) w e w2):=by rw[HR.out];exact hp.hand G0
   obtain⟨u,v,rfl⟩:=hp.two;clear HR hp;go_wp21;go_ret2;exact HP
theorem zvy (tx:Nat->Addr) (b:Nat) (s:ByteArray) (ty:Bool) (hty:Hid (ty=false)) (hs:s.size<=100000) (hb:9<=b):∀n m,m<=n->zfj tx b s ty m/\zjq tx b s ty m:=by
 have zero:zfj tx b s ty 0/\zjq tx b s ty 0:=⟨λi w _ _ _ h0=>absurd h0 (by omega),λi w _ _ _ h0=>absurd h0 (by omega)⟩
 intro n
 induction n with
 |zero=>intro m hm;obtain rfl:m=0:=by omega
        exact zero
 |succ n ih=>
  intro m hm;rcases z1r m (n+1) with h|h
  ·exact ih m (by omega)
  ·obtain rfl:m=n+1:=by omega
   exact⟨expr_step tx b s ty hty n (ih n (z1d n)).1 (λm hm=>(ih m hm).2) hs hb,atom_any tx b s ty hty n (ih n (z1d n)).1 hs hb⟩
def ReadPost (tx:Nat->Addr) (s:ByteArray) (ty:Bool) (w:World) (e:Ending) (w':World):Prop:=
 Below w.heap.size w w'/\match zaz s ty with
  | .error p=>∃q,e=.returned (.tuple #[.nilIface,atv q])/\AtErr (tx 1) q p w'
  | .ok x=>∃v,e=.returned (.tuple #[v,.nilIface])/\Ev w' x v
theorem ReadPost.two {tx:Nat->Addr} {s:ByteArray} {ty:Bool} {w w1:World} {e:Ending} (h:ReadPost tx s ty w e w1):∃u v,e=.returned (.tuple #[u,v]):=by
 obtain⟨_,h⟩:=h
 cases hq:zaz s ty with
 |error p=>rw[hq] at h;obtain⟨q,rfl,_⟩:=h;exact⟨_,_,rfl⟩
 |ok x=>rw[hq] at h;obtain⟨v,h,_⟩:=h;exact⟨_,_,h⟩
def WPost (tx:Nat->Addr) (b:Nat) (s:ByteArray) (ty:Bool) (w:World) (e:Ending) (w':World):Prop:=
 Gb b w w'/\match zaz s ty with
  | .error p=>∃q,e=.returned (.tuple #[.nilIface,atv q])/\AtErr (tx 1) q p w'
  | .ok x=>∃v,e=.returned (.tuple #[v,.nilIface])/\Ev w' x v
theorem whole_any (tx:Nat->Addr) (b:Nat) (s:ByteArray) (ty:Bool) (hty:Hid (ty=false)) (w:World) (h:Rd b s 0 w) (g:Gl tx w) (hs:s.size<=100000) (hb:9<=b):
 CZ 91 #[rdv b ty] w (WPost tx b s ty w):=by
 have hE:=(zvy tx b s ty hty hs hb (3*s.size+2) _ (z1d _)).1;have bx:=Rbx.new ty h;have h1:=h.alloc (rdo b ty);have G0:Gb b w (w.alloc (rdo b ty)):=(Gb.refl b w).alloc _;have c0:=bx.c0;have c1:=bx.c1;go_enter Tryz.func91,Tryz.ntmps91;go_wp21;refine(hE 0 _ h1 (g.gb G0 hb) (Nat.zero_le _) (by omega)).mono ?_;rintro e w1 ⟨hg,hp⟩;have G1:=G0.trans hg;have bx1:=bx.gb hg;replace c0:=bx1.c0;replace c1:=bx1.c1
 cases hq:pe s ty (3*s.size+2) 0 0 .nil with
 |error p=>
  rw[hq] at hp;obtain⟨q,rfl,ha⟩:=hp;have HR:Hid (zaz s ty=.error p):=by unfold Hid zaz;rw[hq]
  go_wp21;go_ret2;refine⟨G1,?_⟩;rw[HR.out];exact⟨q,rfl,ha⟩
 |ok r=>
  obtain⟨x,j⟩:=r;rw[hq] at hp;obtain⟨v,rfl,hv,hr⟩:=hp;obtain⟨T,y,rfl⟩:=hv.iface;have pl:=zas s ty _ _ _ _ _ _ hq (Nat.zero_le _) (by omega);by_cases hj:j<s.size
  ·have HR:Hid (zaz s ty=.error j):=by unfold Hid zaz;rw[hq];exact if_pos hj
   go_wp21;refine(end_no tx _ s j w1 hr (g.gb G1 hb) hj hs hb).mono ?_;rintro e w2 ⟨q,rfl,ha,hg2⟩;go_wp21;go_ret2;refine⟨G1.trans hg2,?_⟩;rw[HR.out];exact⟨q,rfl,ha⟩
  ·have HR:Hid (zaz s ty=.ok x):=by unfold Hid zaz;rw[hq];exact if_neg hj
   obtain rfl:j=s.size:=by omega
   go_wp21;refine(end_yes _ s w1 hr hs).mono ?_;rintro e w2 ⟨rfl,d,rfl⟩;go_wp21;go_ret2;refine⟨G1.drewN d,?_⟩;rw[HR.out];exact⟨_,rfl,Ev.kept (w:=w1) (w':=w1.drewN d) (λ_ _ _ _ _ h=>h) _ _ hv⟩
theorem Gb.belowNew {w w':World} {o:Obj} (h:Gb w.heap.size (w.alloc o) w'):Below w.heap.size w w':=
 ⟨h.os,h.tape,h.output,z1c (by simp) h.size,λk hk=>(h.block k (by simp;omega) (by simp;omega)).trans (Below.heap_alloc _ _ _ hk)⟩
theorem read_any (tx:Nat->Addr) (s:ByteArray) (w:World) (g:Gl tx w) (hs:s.size<=100000):
 CZ 79 #[.string s] w (ReadPost tx s false w):=by
 have hsz:=g.size;have gA:=g.below ((Below.refl w.heap.size w).alloc (z1d _) (.cells #[.string s,.int .i64 0] 207)) hsz;have hR:=Rd.new s w;go_enter Tryz.func79,Tryz.ntmps79;go_wp21;refine(new_any s w).mono ?_;rintro e w' ⟨rfl,rfl⟩;go_wp21;refine(whole_any tx w.heap.size s false rfl _ hR gA hs hsz).mono ?_;rintro e w1 ⟨hg,hp⟩;have HP:Hid (ReadPost tx s false w e w1):=⟨hg.belowNew,hp⟩
 obtain⟨u,v,rfl⟩:=HP.two;go_wp21;go_ret2;exact HP
end
def Wr (T:TypeId) (x:Value) (f:List UInt8):Prop:=
 ∀(m:Option Nat) (B wb:Nat) (nm sp:Value) (l:List UInt8) (w:World),Wi m B wb nm sp l w->B<=w.heap.size->l.length+f.length<=1000000->
  CZ 82 #[.agg #[pZ wb,.bool false],.iface T x] w λe w'=>e=.returned (.tuple #[])/\Wi m B wb nm sp (l++f) w'/\Kw m B wb w w'
theorem write1_any (T:TypeId) (x:Value) (f:List UInt8) (h:Wr T x f) (hf:f.length<=1000000) (m:Option Nat) (B wb k1 k2 eb:Nat) (w:World) (hB:B<=w.heap.size) (hW:Wn m B wb k1 k2 w) (c0:w.cell? ⟨eb,0,none⟩=some (.iface T x)):
 CZ 81 #[pZ wb,pZ eb] w λe w2=>e=.returned (.tuple #[])/\(∃nm sp,Wi m B wb nm sp f w2)/\Below B w w2:=by
 have H:=h m B wb _ _ [] w hW.wi hB (by simpa using hf);go_enter Tryz.func81,Tryz.ntmps81;go_wp21;refine H.mono ?_;rintro e w1 ⟨rfl,h1,k1⟩;go_wp21;go_end0;exact⟨rfl,⟨_,_,by simpa using h1⟩,k1.1⟩
def SrPost (tx:Nat->Addr) (s:ByteArray) (w:World) (e:Ending) (w':World):Prop:=
 Below w.heap.size w w'/\
  ((24<s.size/\e=.returned (.tuple #[.nilIface,.iface 353 (.pointer (some (tx 0)))]))\/
   (s.size<=24/\∃p q,zaz s false=.error p/\e=.returned (.tuple #[.nilIface,atv q])/\AtErr (tx 1) q p w')\/
   (s.size<=24/\∃x T y,zaz s false=.ok x/\e=.returned (.tuple #[.iface T y,.nilIface])/\Ev w' x (.iface T y)))
theorem sread_any (tx:Nat->Addr) (s:ByteArray) (w:World) (g:Gs tx w) (hs:s.size<=maxLen):
 CZ 49 #[.string s] w (SrPost tx s w):=by
 have h0:=g.long;unfold maxLen at hs;by_cases h24:24<s.size
 ·have HH:=hid h24
  go_enter Tryz.func49,Tryz.ntmps49;go_wp21
  go_quiet (fail)
  go_wp21;go_ret2;exact⟨below_drewN (Below.refl _ w) _,.inl ⟨HH,rfl⟩⟩
 ·have HH:Hid (s.size<=24):=by unfold Hid;omega
  have hh:=HH;go_enter Tryz.func49,Tryz.ntmps49;go_wp21;refine(read_any tx s w g.toGl (by omega)).mono ?_;rintro e w1 ⟨hb,hp⟩
  cases hq:zaz s false with
  |error p=>
   rw[hq] at hp;obtain⟨q,rfl,ha⟩:=hp;have HQ:=hid hq;go_wp21;go_ret2;exact⟨hb,.inr (.inl ⟨HH,p,q,HQ,rfl,ha⟩)⟩
  |ok x=>
   rw[hq] at hp;obtain⟨v,rfl,hv⟩:=hp;have HQ:=hid hq;obtain⟨T,y,rfl⟩:=hv.iface;go_wp21;go_ret2;exact⟨hb,.inr (.inr ⟨HH,x,T,y,HQ,rfl,hv⟩)⟩
end Go.Proofs.YtceadeaodbadlaaGreatDoor
namespace Go.Proofs.YtceadeaodbadlaaGreatDoor
open Go.RowKit
open Classical in
section
variable {ρ:Nat->Ty} {τ:Ty} (tx:Nat->Addr) (s:ByteArray) (x:Ex) (w:World)
theorem inT_plain {o:Nat}:∀{t:Ty},zbc t->inT o (usub ρ t)=true->∃q,inU q t/\inT o (ρ q)=true:=by
 intro t
 induction t with
 |nil=>intro _ h;simp[usub,inT] at h
 |node g p u a b iha ihb=>
  intro hp h;by_cases hg:g=6
  ·simp only[usub,if_pos hg] at h;exact⟨p,.inl ⟨hg,rfl⟩,h⟩
  ·simp only[usub,if_neg hg,inT,Bool.or_eq_true,Bool.and_eq_true,beq_iff_eq] at h
   rcases h with (⟨h,_⟩|h)|h
   ·exact absurd h hp.1
   ·obtain⟨q,h1,h2⟩:=iha hp.2.1 h
    exact⟨q,.inr ⟨hg,.inl h1⟩,h2⟩
   ·obtain⟨q,h1,h2⟩:=ihb hp.2.2 h
    exact⟨q,.inr ⟨hg,.inr h1⟩,h2⟩
theorem Kc.ok {w:World} {t:Ty} {v:Value} (h:Kc w t v):shut t->(∀o,inT o t=true->970<=o/\o<1230)->Ok t:=by
 refine h (λ_ t _=>shut t->(∀o,inT o t=true->970<=o/\o<1230)->Ok t) ⟨λ_ _=> .inl ⟨rfl,rfl,rfl,rfl⟩,λ_ _=> .inr (.inl ⟨rfl,rfl,rfl,rfl⟩),λo _ h=>?_,λhq ih hs h=>?_,λhq ih1 ih2 hs h=>?_,λhq ih1 ih2 hs h=>?_,?_⟩
 ·have:=h o (by simp[inT])
  exact okV this.1 this.2
 ·exact .inr (.inr (.inr (.inl ⟨rfl,rfl,ih (λq hi=>hs q (by simpa using hi)) (λo ho=>h o (by simp[inT,ho])),rfl⟩)))
 ·exact .inr (.inr (.inr (.inr (.inl ⟨rfl,rfl,ih1 (λq hi=>hs q (by rw[inU_P];exact .inl hi)) (λo ho=>h o (by simp[inT,ho])),ih2 (λq hi=>hs q (by rw[inU_P];exact .inr hi)) (λo ho=>h o (by simp[inT,ho]))⟩))))
 ·exact .inr (.inr (.inr (.inr (.inr ⟨rfl,rfl,ih1 (λq hi=>hs q (by rw[inU_F];exact .inl hi)) (λo ho=>h o (by simp[inT,ho])),ih2 (λq hi=>hs q (by rw[inU_F];exact .inr hi)) (λo ho=>h o (by simp[inT,ho]))⟩))))
 ·rintro q t ⟨rfl,l,hq⟩ hs
  exact absurd (by simp) (hs q)
theorem Vr.shut (h:Vr ρ τ):shut (usub ρ τ):=λp hp=>by
 obtain⟨q,h1,h2⟩:=zak.1 hp;obtain⟨i,_,e⟩:=h.1 q h1;rw[e] at h2;simp at h2
theorem Vr.vars (h:Vr ρ τ) (hp:zbc τ):∀o,inT o (usub ρ τ)=true->970<=o/\o<1230:=λo ho=>by
 obtain⟨q,h1,h2⟩:=inT_plain hp ho;obtain⟨i,hi,e⟩:=h.1 q h1;rw[e] at h2;have:zac i=o:=by simpa [inT] using h2
 rw[<-this];exact nameNo_in hi
theorem Vr.sz (h:Vr ρ τ) (ht:Trim τ):Go.Proofs.YtceadeaodbadlaaGreatDoor.sz (usub ρ τ)=Go.Proofs.YtceadeaodbadlaaGreatDoor.sz τ:=by
 have e:usub ρ τ=usub (λq=>if inU q τ then ρ q else tU q) τ:=zao λq hq=>(if_pos hq).symm
 rw[e];refine zez (λq=>?_) τ ht;show Go.Proofs.YtceadeaodbadlaaGreatDoor.sz (if inU q τ then ρ q else tU q)=1;split
 ·rename_i hq;obtain⟨i,_,e⟩:=h.1 q hq;rw[e];rfl
 ·rfl
def InQ (x:Ex) (w:World) (e:Ending) (w':World):Prop:=
 ∃s' δ τ ρ,Fnd x 0 s00 noE s' δ τ/\Vr ρ τ/\Ok (usub ρ τ)/\sz (usub ρ τ)<=1000000/\e=.returned (.tuple #[.string ⟨(zeh (usub ρ τ)).toArray⟩,.int .i64 0,.int .i64 0])/\Below w.heap.size w w'
structure Has (x:Ex):Prop where
 g:Bg x
 clo:Clo x (λ_=>False)
 bnd:Bnd 60000 x 0 s00 noE
 cb:Cb x 0 s00 noE
 nfl:¬Fl x 0 s00 noE
 exn:exn x<=1000000
 fin:∀s' δ τ Ts,FndT x 0 s00 noE s' δ τ Ts->tot s'<=260/\sz τ<=1000000/\Ts.length<=1000000/\∀u∈Ts,sz u<=1000000
 fsz:∀s' δ τ,Fnd x 0 s00 noE s' δ τ->sz τ<=1000000
theorem found_said (h10:10<=w.heap.size) (g:Gs tx w) (tb:Tb w) (hs:s.size<=24) (hr:zaz s false=.ok x) (hx:Has x):
 CZ 57 #[.string s] w (TyQ x w):=by
 have S:=sread_any tx s w g (by unfold maxLen;omega)
 have HT:Hid (∀w1 v,Below w.heap.size w w1->Ev w1 x v->CZ 96 #[v] w1 λen w'=>∃Te ze T z,en=.returned (.tuple #[.iface Te ze,.iface T z,.nilIface])/\TyQ x w en w'):=by
  intro w1 v hb hv
  have tb1:Tb w1:=(Wf.blw (lo:=0) (L:=0) (s:=s00) hb|>λW=>by
   obtain⟨t,fr,e⟩:=tb;exact⟨t,fr,(hb.block 9 (by omega)).trans e⟩)
  refine(Typed_any tx 60000 s.size (by decide) x v w1 (z1c h10 hb.size) (g.below hb).toGl tb1 hv (zfz hr) hx.g hx.clo hx.bnd hx.cb hx.nfl hx.exn hx.fin).mono ?_;rintro en w2 ⟨Te,ze,T,z,s',δ,τ,ρ,rfl,h1,h2,h3,h4⟩;exact⟨Te,ze,T,z,rfl,Te,ze,T,z,s',δ,τ,ρ,rfl,h1,h2,h3,hb.trans (h4.mono hb.size)⟩
 have HX:Hid (zaz s false=.ok x/\s.size<=24):=⟨hr,hs⟩
 go_enter Tryz.func57,Tryz.ntmps57;go_wp21;refine S.mono ?_;rintro e w1 ⟨hb,⟨h,_⟩|⟨_,p,q,h,_⟩|⟨_,x',T,y,h,rfl,hv⟩⟩
 ·exact absurd HX.out.2 (by omega)
 ·rw[HX.out.1] at h;cases h
 ·have e1:=HX.out.1
  rw[h] at e1;have e2:=Except.ok.inj e1;subst e2;have H:=HT.out w1 _ hb hv;go_wp21;refine H.mono ?_;rintro e w2 ⟨Te,ze,T2,z2,rfl,hQ⟩;have HQ:=hid hQ;go_wp21;go_ret3;exact HQ
theorem infer_any (h10:10<=w.heap.size) (g:Gs tx w) (tb:Tb w) (hs:s.size<=24) (hr:zaz s false=.ok x) (hx:Has x):
 CZ 17 #[.string s] w (InQ x w):=by
 have F:=found_said tx s x w h10 g tb hs hr hx
 have HI:CZ 35 #[.string s] w λen w'=>∃f:ByteArray,en=.returned (.tuple #[.string f,.nilIface])/\∀w2,Below w'.heap.size w' w2->InQ x w (.returned (.tuple #[.string f,.int .i64 0,.int .i64 0])) w2/\Gs tx w':=by
  have HW:Hid (∀en w1,TyQ x w en w1->∃Te ze T z,en=.returned (.tuple #[.iface Te ze,.iface T z,.nilIface])/\CZ 56 #[.iface T z] w1 λe w'=>∃f:ByteArray,e=.returned (.string f)/\∀w2,Below w'.heap.size w' w2->InQ x w (.returned (.tuple #[.string f,.int .i64 0,.int .i64 0])) w2/\Gs tx w'):=by
   rintro en w1 ⟨Te,ze,T,z,s',δ,τ,ρ,rfl,h1,h2,h3,h4⟩;obtain⟨i1,i2⟩:=zat _ _ _ _ _ _ _ h1 (λc sc h=>absurd h (by simp));have ok:=h2.ok h3.shut (h3.vars i2.pl);have zz:sz (usub ρ τ)<=1000000:=by rw[h3.sz i2.tr];exact hx.fsz _ _ _ h1
   refine⟨Te,ze,T,z,rfl,(kwrite_any ok _ w1 (h2.tv h3.shut) (by have:=zxm ok;omega)).mono ?_⟩;rintro e w2 ⟨rfl,hb⟩;have hb2:=h4.trans (hb.mono h4.size);exact⟨_,rfl,λw3 hb3=>⟨⟨s',δ,τ,ρ,h1,h3,ok,zz,rfl,hb2.trans (hb3.mono hb2.size)⟩,g.below hb2⟩⟩
  go_enter Tryz.func35,Tryz.ntmps35;go_wp21;refine F.mono ?_;intro e w1 hQ;obtain⟨Te,ze,T,z,rfl,W⟩:=HW e w1 hQ;go_wp21;refine W.mono ?_;rintro e w2 ⟨f,rfl,hP⟩;have HP:=hid hP;go_wp21;go_ret2;exact⟨f,rfl,HP⟩
 go_enter Tryz.func17,Tryz.ntmps17;go_wp21;refine HI.mono ?_;rintro e w1 ⟨f,rfl,hP⟩;have g1:=(hP w1 (Below.refl _ _)).2;have HP:=hid hP;go_wp21;refine(zyw tx w1 g1).mono ?_;rintro e w' ⟨rfl,rfl⟩;go_wp21;refine(place_nil _).mono ?_;rintro e w2 ⟨rfl,hb2⟩;have HB:=hid hb2;go_wp21;go_ret3;exact(HP w2 HB).1
end
end Go.Proofs.YtceadeaodbadlaaGreatDoor
namespace Go.Proofs.YtceadeaodbadlaaGreatDoor
section
variable {ty:Bool} {Γ:Env} {m:Nat}
theorem EOk.ndd:∀{e:Ex},EOk ty m e->Ndd e:=by
 intro e
 induction e with
 |nil=>intro h;exact h.elim
 |node t o x a b iha ihb=>
  intro h;rcases h with ⟨rfl,_⟩|⟨rfl,_⟩|⟨rfl,_⟩|⟨rfl,_,_,_,ha,_⟩|⟨rfl,_,_,ha,hb⟩|⟨rfl,ha,hb⟩
  ·exact .inl (by decide)
  ·exact .inl (by decide)
  ·exact .inl (by decide)
  ·exact .inr (.inl ⟨rfl,iha ha⟩)
  ·exact .inr (.inr ⟨.inl rfl,iha ha,ihb hb⟩)
  ·exact .inr (.inr ⟨.inr rfl,iha ha,ihb hb⟩)
theorem exn_fl:∀{e:Ex},EOk ty m e->exn e+1<=2*fl e/\1<=fl e:=by
 intro e
 induction e with
 |nil=>intro h;exact h.elim
 |node t o x a b iha ihb=>
  intro h;rcases h with ⟨rfl,_,_,rfl,rfl⟩|⟨rfl,_,_,rfl,rfl⟩|⟨rfl,_,rfl,rfl⟩|⟨rfl,_,_,_,ha,rfl⟩|⟨rfl,_,_,ha,hb⟩|⟨rfl,ha,hb⟩
  ·simp[exn,fl,frm]
  ·simp[exn,fl,frm]
  ·simp[exn,fl,frm]
  ·have:=iha ha;rw[fl_3];simp only[exn];omega
  ·have:=iha ha;have:=ihb hb;rw[fl_4];simp only[exn];omega
  ·have:=iha ha
   have:=ihb hb;rw[fl_5];simp only[exn];omega
def EnvL (Γ:Env):Prop:=∀c sc,Γ c=some sc->sc.2.length<=1000
theorem EnvL.set {c:Nat} {sc:Sch} (h:EnvL Γ) (k:sc.2.length<=1000):EnvL (zap Γ c sc):=by
 intro d sc' hd;unfold zap at hd;split at hd
 ·cases hd;exact k
 ·exact h d sc' hd
theorem EnvL.step (h:EnvL Γ) (δ:Nat->Ty):EnvL (gmap δ Γ):=by
 intro c sc hc;unfold gmap at hc
 cases hΓ:Γ c with
 |none=>rw[hΓ] at hc;cases hc
 |some sc'=>rw[hΓ] at hc;cases hc;exact h c sc' hΓ
theorem ts_len:∀{e:Ex} {L:Nat} {s:Sta} {Γ:Env} {s':Sta} {δ:Nat->Ty} {τ:Ty} {Ts:List Ty},FndT e L s Γ s' δ τ Ts->EnvL Γ->Cb e L s Γ->Ts.length<=1000*exn e:=by
 intro e
 induction e with
 |nil=>intro L s Γ s' δ τ Ts h;exact h.elim
 |node k o x a b iha ihb=>
  intro L s Γ s' δ τ Ts h hΓ hc;rcases h with ⟨rfl,sc,qs,h1,h2,h3,h4,h5,rfl⟩|⟨rfl,qs,h2,h3,h4,h5,rfl⟩|⟨rfl,h1,h2,h3,rfl⟩|⟨rfl,q,s1,τb,T1,h1,h2,h3,rfl⟩|⟨rfl,s1,δ1,τ1,T1,s2,δ2,vs,qs,δ3,T2,h1,h2,h3,h4,rfl⟩|⟨rfl,s1,δ1,τ1,T1,s2,δ2,τ2,T2,q,s3,δ3,S,h1,h2,h3,h4,h5,h6,rfl⟩
  ·have:=hΓ _ _ h1
   simp only[z2a,exn];omega
  ·have:=zlg x.c
   simp only[z2a,exn];omega
  ·simp
  ·have:=iha h2 (hΓ.set (by simp)) (hc.1 rfl _ _ h1)
   simp only[List.length_cons,exn];omega
  ·obtain⟨c1,c2⟩:=hc.2.1 rfl
   obtain⟨t1,n1,c3⟩:=c2 _ _ _ h1.fnd;have i:=iha h1 hΓ c1
   have hv:vs.length<=1000:=by
    have:qs.length<=s1.A.length:=zhc h2.nd λq hq=>((h2.all q).1 hq).1
    have e:vs.length=qs.length:=by rw[h2.vsE];simp
    unfold tot at t1;omega
   have j:=ihb h3 (((hΓ.step δ1).step δ2).set hv) (c3 _ _ _ _ h2);simp only[z1l,z2a,exn];omega
  ·obtain⟨c1,c2⟩:=hc.2.2 rfl
   have i:=iha h1 hΓ c1;have j:=ihb h2 (hΓ.step δ1) (c2 _ _ _ h1.fnd);simp only[z1l,z2a,exn];omega
theorem FndT.trim:∀{e:Ex} {L:Nat} {s:Sta} {Γ:Env} {s':Sta} {δ:Nat->Ty} {τ:Ty} {Ts:List Ty},FndT e L s Γ s' δ τ Ts->EnvU L s Γ->∀u∈Ts,Trim u:=by
 intro e
 induction e with
 |nil=>intro L s Γ s' δ τ Ts h;exact h.elim
 |node k o x a b iha ihb=>
  intro L s Γ s' δ τ Ts h hΓ u hu;rcases h with ⟨e,sc,qs,h1,h2,h3,h4,h5,rfl⟩|⟨e,qs,h2,h3,h4,h5,rfl⟩|⟨e,h1,h2,h3,rfl⟩|⟨e,p,s1,τb,T1,h1,h2,h3,rfl⟩|⟨e,s1,δ1,τ1,T1,s2,δ2,vs,qs,δ3,T2,h1,h2,h3,h4,rfl⟩|⟨e,s1,δ1,τ1,T1,s2,δ2,τ2,T2,p,s3,δ3,S,h1,h2,h3,h4,h5,h6,rfl⟩
  ·obtain⟨r,hr,rfl⟩:=z1z.1 hu;exact zil r
  ·obtain⟨r,hr,rfl⟩:=z1z.1 hu;exact zil r
  ·cases hu
  ·obtain⟨i1,i2⟩:=zat _ _ _ _ _ _ _ h2.fnd (zef h1 hΓ)
   rcases List.mem_cons.1 hu with rfl|hu
   ·exact i1.tr p (by rw[h1.A];exact z1k)
   ·exact iha h2 (zef h1 hΓ) u hu
  ·obtain⟨j1,j2⟩:=zat _ _ _ _ _ _ _ h3.fnd (zcx h1.fnd h2 hΓ)
   rcases z1y.1 hu with hu|hu
   ·obtain⟨r,hr,rfl⟩:=z1z.1 hu
    refine((iha h1 hΓ.up r hr).usub λq hq=>h2.sp.tr q (h1.un hΓ.up r hr q hq)).usub λq hq=>?_
    obtain⟨p2,k3,k4⟩:=zak.1 hq;exact j1.tr q (h2.sp.D p2 (h1.un hΓ.up r hr p2 k3) q k4).1
   ·exact ihb h3 (zcx h1.fnd h2 hΓ) u hu
  ·obtain⟨i1,i2⟩:=zat _ _ _ _ _ _ _ h1.fnd hΓ
   obtain⟨j1,j2⟩:=zat _ _ _ _ _ _ _ h2.fnd (hΓ.step i1);rcases z1y.1 hu with hu|hu
   ·obtain⟨r,hr,rfl⟩:=z1z.1 hu
    exact((iha h1 hΓ r hr).usub λq hq=>j1.tr q (h1.un hΓ r hr q hq)).usub λq _=>h4.tr q
   ·obtain⟨r,hr,rfl⟩:=z1z.1 hu
    exact(ihb h2 (hΓ.step i1) r hr).usub λq _=>h4.tr q
theorem senv_no (φ:Nat->Ty):senv φ (λ_=>none)=λ_=>none:=by funext c;rfl
theorem has_of {e x:Ex} {k:Ty} {m1:Nat} (hm:m<=60000) (ho:EOk true m e) (hc:chk e noE=.ok k) (hl:fl e<=24) (hr:Er e x) (hg:Bg x) (hox:EOk false m1 x) (hlx:fl x<=24):
 Has x/\HTyB 60000 x (λ_=>none) k:=by
 have B:=chk_htyb hm e noE k ho (EnvOk.none _) (λc sc h=>absurd h (by simp)) hc;rw[senv_no] at B;have Bx:=B.er hr;have hΓ:EnvU 0 s00 noE:=λc sc h=>absurd h (by simp)
 have hmt:∀θ0:Nat->Ty,Mt θ0 noE (λ_=>none):=λθ0 c S h=>absurd h (by simp)
 obtain⟨cb,ct⟩:=cb_24 hox.ndd hlx (λ_=>0);have ex:=exn_fl hox;refine⟨⟨hg,(HTyB.hty Bx).clo.mono λc h=>h rfl,htyb_bnd (by decide) x 0 s00 noE hΓ tU _ k (hmt _) Bx,cb,λhf=>fl_none x 0 s00 noE hf hΓ tU _ k (hmt _) Bx.hty,by omega,λs' δ τ Ts h=>?_,λs' δ τ h=>?_⟩,Bx⟩
 ·obtain⟨θ,a1,a2,a3,a4⟩:=fnd_sz (M:=60000) (by decide) _ _ _ _ _ _ _ _ h hΓ tU _ k (hmt _) Bx λq=>z1d _
  obtain⟨i1,i2⟩:=zat _ _ _ _ _ _ _ h.fnd hΓ;have hb:=Bx.bd (by decide)
  have big:∀u:Ty,Trim u->sz u<=sz (usub θ u):=λu hu=>by
   have:=sz_mono (f:=tU) (g:=θ) (t:=u) λq _=>a3 q
   rw[zeb hu] at this;exact this
  refine⟨(ct _ _ _ h.fnd).1,?_,?_,λu hu=>?_⟩
  ·have:=big τ i2.tr
   rw[a2] at this;have:=hb.2;omega
  ·have:=ts_len h (λc sc h=>absurd h (by simp)) cb
   omega
  ·have h1:=a4 u hu
   by_cases hu':Trim u
   ·have:=big u hu';omega
   ·--what is written is a type
    exact absurd (FndT.trim h hΓ u hu) hu'
 ·obtain⟨θ,a1,a2⟩:=zcv _ _ _ _ _ _ _ h hΓ tU _ k (hmt _) Bx.hty
  obtain⟨i1,i2⟩:=zat _ _ _ _ _ _ _ h hΓ;have hb:=Bx.bd (by decide);have:=(znf (θ:=θ) i2.tr i2.pl (by rw[a2];exact hb.1)).2;rw[a2] at this;have:=hb.2;omega
end
theorem Er.knd:∀{e x:Ex},Er e x->knd x=knd e:=by
 intro e x h
 cases e with
 |nil=>cases x with
  |nil=>rfl
  |node=>exact h.elim
 |node t o z a b=>cases x with
  |nil=>exact h.elim
  |node t' o' y a' b'=>obtain⟨rfl,_⟩:=h;rfl
theorem Er.frm:∀{e x:Ex},Er e x->frm x=frm e:=by
 intro e
 induction e with
 |nil=>intro x h;cases x with
  |nil=>rfl
  |node=>exact h.elim
 |node t o z a b iha ihb=>
  intro x h
  cases x with
  |nil=>exact h.elim
  |node t' o' y a' b'=>
   obtain⟨rfl,hc,ha,hb⟩:=h;simp only[Go.Proofs.YtceadeaodbadlaaGreatDoor.frm];by_cases h5:t=5
   ·subst h5
    simp[iha ha,ihb hb,ha.knd,hb.knd]
   ·rw[<-hc h5,iha ha,ihb hb]
    simp[h5]
theorem sub_usub {φ ρ:Nat->Ty}:∀{t:Ty},zbc t->sub φ (usub ρ t)=usub (λq=>sub φ (ρ q)) t:=by
 intro t
 induction t with
 |nil=>intro _;rfl
 |node g o u a b iha ihb=>
  intro h;by_cases h6:g=6
  ·simp[usub,h6]
  ·simp[usub,h6,sub,h.1,iha h.2.1,ihb h.2.2]
theorem usub_named {τ k : Ty} {θ ρ : Nat → Ty} (hp : zbc τ) (h1 : ∀ q, inU q τ → ∃ i, i < 260 ∧ ρ q = tV (zac i)) (h2 : ∀ q r, inU q τ → inU r τ → ρ q = ρ r → q = r) (e : usub θ τ = k) : ∃ φ, sub φ (usub ρ τ) = k := by
  classical
  refine ⟨fun o => if h : ∃ q, inU q τ ∧ ρ q = tV o then θ h.choose else tI, ?_⟩
  rw [sub_usub hp, ← e]
  refine zao fun q hq => ?_
  obtain ⟨i, _, hi⟩ := h1 q hq
  rw [hi]
  have hx : ∃ r, inU r τ ∧ ρ r = tV (zac i) := ⟨q, hq, hi⟩
  show (if h : ∃ r, inU r τ ∧ ρ r = tV (zac i) then θ h.choose else tI) = θ q
  rw [dif_pos hx]
  rw [h2 hx.choose q hx.choose_spec.1 hq (hx.choose_spec.2.trans hi.symm)]
theorem sz_usub1 {ρ:Nat->Ty}:∀{τ:Ty},(∀q,inU q τ->sz (ρ q)<=1)->sz (usub ρ τ)<=sz τ:=by
 intro τ
 induction τ with
 |nil=>intro _;exact z1d _
 |node g o u a b iha ihb=>
  intro h;by_cases h6:g=6
  ·simp only[usub,if_pos h6,sz]
   have:=h o (.inl ⟨h6,rfl⟩);omega
  ·simp only[usub,if_neg h6,sz]
   have h1:=iha λq hq=>h q (.inr ⟨h6,.inl hq⟩)
   have h2:=ihb λq hq=>h q (.inr ⟨h6,.inr hq⟩)
   omega
theorem xz_fl {ty:Bool} {m:Nat}:∀{x:Ex},EOk ty m x->Bg x->xz x<=2*fl x:=by
 intro x
 induction x with
 |nil=>intro h;exact h.elim
 |node t o x a b iha ihb=>
  intro h hg;rcases h with ⟨rfl,_,_,rfl,rfl⟩|⟨rfl,_,_,rfl,rfl⟩|⟨rfl,_,rfl,rfl⟩|⟨rfl,_,_,_,ha,rfl⟩|⟨rfl,_,_,ha,hb⟩|⟨rfl,ha,hb⟩
  ·simp[xz,fl,frm]
  ·simp[xz,fl,frm]
  ·simp[xz,fl,frm]
  ·have:=iha ha hg.2.1
   rw[fl_3];simp only[xz,if_true,hg.1 rfl,List.headD,sz];omega
  ·have:=iha ha hg.2.1
   have:=ihb hb hg.2.2;rw[fl_4];simp[xz];omega
  ·have:=iha ha hg.2.1
   have:=ihb hb hg.2.2;rw[fl_5];simp[xz];omega
theorem bare_has {s:ByteArray} {e:Ex} {k:Ty} (hs:s.size<=60000) (he:zaz s true=.ok e) (hc:chk e (λ_=>none)=.ok k) (hl:(⟨(frm e).toArray⟩:ByteArray).size<=24):
 ∃x,zaz ⟨(frm e).toArray⟩ false=.ok x/\Has x/\HTyB 60000 x (λ_=>none) k/\xz x<=60000:=by
 have ho:=zfz he;obtain⟨x,h1,h2,h3⟩:=frm_whole ho;have hsz:(⟨(frm e).toArray⟩:ByteArray).size=fl e:=by simp[ByteArray.size,fl]
 have hfl:fl e<=24:=by omega
 have hox:=zfz h1;have hfx:fl x<=24:=by unfold fl;rw[h2.frm];exact hfl
 obtain⟨a1,a2⟩:=has_of hs ho hc hfl h2 h3 hox hfx;exact⟨x,h1,a1,a2,by have:=xz_fl hox h3;omega⟩
theorem gen_most {x:Ex} {k τ:Ty} {s':Sta} {δ ρ:Nat->Ty} (hB:HTyB 60000 x (λ_=>none) k) (hk:sz k<=50000) (hF:Fnd x 0 s00 noE s' δ τ) (hV:Vr ρ τ) (hO:Ok (usub ρ τ)):
 inst (rnT (usub ρ τ)) k=true/\sz (usub ρ τ)<=50000:=by
 have hΓ:EnvU 0 s00 noE:=λc sc h=>absurd h (by simp)
 have hmt:∀θ0:Nat->Ty,Mt θ0 noE (λ_=>none):=λθ0 c S h=>absurd h (by simp)
 obtain⟨θ,a1,a2⟩:=zcv _ _ _ _ _ _ _ hF hΓ tU _ k (hmt _) hB.hty;obtain⟨i1,i2⟩:=zat _ _ _ _ _ _ _ hF hΓ;have hb:=hB.bd (by decide);have h1:=(znf (θ:=θ) i2.tr i2.pl (by rw[a2];exact hb.1)).2;rw[a2] at h1;obtain⟨φ,e⟩:=usub_named i2.pl hV.1 hV.2 a2;have h2:sz (usub ρ τ)<=sz τ:=sz_usub1 λq hq=>by obtain⟨i,_,e⟩:=hV.1 q hq;rw[e];simp[sz]
 exact⟨inst_rn hO hb.1 φ e,by omega⟩
end Go.Proofs.YtceadeaodbadlaaGreatDoor
namespace Go.Proofs.YtceadeaodbadlaaGreatDoor
open Go.RowKit
abbrev Met:Type:=Nat×Ty×Nat×Nat
abbrev mv (e:Met):Value:=.int .i64 ((e.1+30:Nat):Int)
abbrev ml (e:Met):Value:=sZ e.2.2.1 (sz e.2.1) e.2.2.2
structure ISr (B:Nat) (ls:List Met) (vv vl:Value) (w:World):Prop where
 vars:w.ownsRow B 3 1 vv ls.length (ls.map mv)
 tys:w.ownsRow B 33 1 vl ls.length (ls.map ml)
 ok:∀e∈ls,Rg e.2.2.1 e.2.1 w/\sz e.2.1<=100000/\vv.ownBlock≠some e.2.2.1/\vl.ownBlock≠some e.2.2.1
 ne:vv.ownBlock=none\/vv.ownBlock≠vl.ownBlock
def IS (B:Nat) (l:List (Nat×Ty)) (vv vl:Value) (w:World):Prop:=∃ls:List Met,ls.map (λe=>(e.1,e.2.1))=l/\ISr B ls vv vl w
structure FI (vv vl:Value) (w w':World):Prop where
 os:w'.os=w.os
 tape:w'.tape=w.tape
 output:w'.output=w.output
 size:w.heap.size<=w'.heap.size
 block:∀k,k<w.heap.size->some k≠vv.ownBlock->some k≠vl.ownBlock->w'.heap[k]? =w.heap[k]?
def NewOr (w:World) (v v':Value):Prop:=v'.ownBlock=v.ownBlock\/∃k,v'.ownBlock=some k/\w.heap.size<=k
section
variable {g B:Nat} {t:Ty} {vv vl a b vv' vl':Value} {w w':World}
theorem FI.ofBelow (h:Below w.heap.size w w'):FI vv vl w w':=⟨h.os,h.tape,h.output,h.size,λk hk _ _=>h.block k hk⟩
theorem NewOr.refl (w:World) (v:Value):NewOr w v v:=.inl rfl
theorem NewOr.trans {c:Value} (h:NewOr w a b) (k:NewOr w' b c) (hs:w.heap.size<=w'.heap.size):NewOr w a c:=by
 rcases k with e|⟨q,e,hq⟩
 ·rcases h with e'|⟨q,e',hq⟩
  ·exact .inl (e.trans e')
  ·exact .inr ⟨q,e.trans e',hq⟩
 ·exact .inr ⟨q,e,z1c hs hq⟩
theorem NewOr.ne {k:Nat} (h:NewOr w a b) (hk:k<w.heap.size) (hn:a.ownBlock≠some k):b.ownBlock≠some k:=by
 rcases h with e|⟨q,e,hq⟩
 ·rw[e];exact hn
 ·rw[e];intro e';cases e';omega
theorem FI.trans {w1 w2:World} (h:FI vv vl w w1) (hv:NewOr w vv vv') (hl:NewOr w vl vl') (k:FI vv' vl' w1 w2):FI vv vl w w2:=
 ⟨k.os.trans h.os,k.tape.trans h.tape,k.output.trans h.output,z1c h.size k.size,λi hi h1 h2=>
  (k.block i (z1e hi h.size) (λe=>(hv.ne hi (λe'=>h1 e'.symm)) e.symm) (λe=>(hl.ne hi (λe'=>h2 e'.symm)) e.symm)).trans (h.block i hi h1 h2)⟩
theorem FI.rg (h:FI vv vl w w') (hR:Rg g t w) (h1:vv.ownBlock≠some g) (h2:vl.ownBlock≠some g):Rg g t w':=
 ⟨hR.ok,z1e hR.lt h.size,λk n hk=>by
  have hb:=h.block g hR.lt (λe=>h1 e.symm) (λe=>h2 e.symm);have e:∀j,w'.cell? ⟨g,j,none⟩=w.cell? ⟨g,j,none⟩:=λj=>z1s (w:=w) (a:=⟨g,j,none⟩) hb
  rw[e,e,e];exact hR.cell k n hk⟩
theorem zvr (h:Below w.heap.size w w') (row:Option Nat):w.grownBy w' row:=⟨h.os,h.tape,h.output,h.size,λk hk _=>h.block k hk⟩
theorem zqj {e:TypeId} {n m:Nat} {v:Value} {xs:List Value} (h:w.ownsRow B e n v m xs) (hb:Below w.heap.size w w'):w'.ownsRow B e n v m xs:=by
 refine h.kept (zvr hb none) ?_
 cases v.ownBlock with
 |none=>exact .inl rfl
 |some k=>exact .inr (by simp)
theorem ISr.below {ls:List Met} (h:ISr B ls vv vl w) (hb:Below w.heap.size w w'):ISr B ls vv vl w':=
 ⟨zqj h.vars hb,zqj h.tys hb,λe he=>⟨(h.ok e he).1.below hb,(h.ok e he).2⟩,h.ne⟩
theorem IS.below {l:List (Nat×Ty)} (h:IS B l vv vl w) (hb:Below w.heap.size w w'):IS B l vv vl w':=by
 obtain⟨ls,h1,h2⟩:=h;exact⟨ls,h1,h2.below hb⟩
theorem ISr.vlt {ls:List Met} (h:ISr B ls vv vl w):∀k,vv.ownBlock=some k->k<w.heap.size:=λk hk=>(h.vars.lt k hk).2
theorem ISr.llt {ls:List Met} (h:ISr B ls vv vl w):∀k,vl.ownBlock=some k->k<w.heap.size:=λk hk=>(h.tys.lt k hk).2
def zzb (B:Nat) (vv vl:Value) (r:Option (List (Nat×Ty))) (w:World) (e:Ending) (w':World):Prop:=
 ∃vv' vl',e=.returned (.tuple #[vv',vl',.bool r.isSome])/\FI vv vl w w'/\NewOr w vv vv'/\NewOr w vl vl'/\∀m,r=some m->IS B m vv' vl' w'
structure TV (g:Nat) (t:Ty) (vv vl:Value) (w:World):Prop where
 rg:Rg g t w
 small:sz t<=100000
 nv:vv.ownBlock≠some g
 nl:vl.ownBlock≠some g
theorem TV.below (h:TV g t vv vl w) (hb:Below w.heap.size w w'):TV g t vv vl w':=⟨h.rg.below hb,h.small,h.nv,h.nl⟩
theorem TV.fi (h:TV g t vv vl w) (hf:FI vv vl w w') (hv:NewOr w vv vv') (hl:NewOr w vl vl'):TV g t vv' vl' w':=
 ⟨hf.rg h.rg h.nv h.nl,h.small,hv.ne h.rg.lt h.nv,hl.ne h.rg.lt h.nl⟩
def zly (t s:Ty):Prop:=∀(B:Nat) (l:List (Nat×Ty)) (vv vl:Value) (g cap g' cap':Nat) (w:World),IS B l vv vl w->B<=w.heap.size->TV g t vv vl w->TV g' s vv vl w->l.length+sz t<=200000->
 CZ 45 #[.agg #[sZ g (sz t) cap],.agg #[sZ g' (sz s) cap'],vv,vl] w (zzb B vv vl (zdh t s l) w)
end
section
variable {T:TypeId} {v:Value} {w w1:World} (t s:Ty) (B:Nat)
theorem zbd {g:Nat} {t:Ty} {vv vl:Value} (h:TV g t vv vl w):sz t<=1000000:=z1c h.small (by decide)
theorem zpc (w:World) (o o':Obj):Below w.heap.size w ((w.alloc o).alloc o'):=(bal w o).alloc (by simp) o'
theorem box1 {o':Obj} (hb:Below ((w.alloc (.cells #[v] T)).alloc o').heap.size ((w.alloc (.cells #[v] T)).alloc o') w1):w1.cell? ⟨w.heap.size,0,none⟩=some v:=by
 rw[hb.cell (p:=⟨w.heap.size,0,none⟩) (by simp;omega)];refine zab (T:=T) ?_;rw[Below.heap_alloc _ _ _ (by simp)];exact z1v w _
theorem box2 {o:Obj} (hb:Below ((w.alloc o).alloc (.cells #[v] T)).heap.size ((w.alloc o).alloc (.cells #[v] T)) w1):w1.cell? ⟨w.heap.size+1,0,none⟩=some v:=by
 rw[hb.cell (p:=⟨w.heap.size+1,0,none⟩) (by simp)];exact zab (T:=T) (heap_alloc2_new w _ _)
theorem zau (t s:Ty) (B:Nat) (vv vl:Value) (g cap g' cap':Nat) (w:World) (ht:TV g t vv vl w) (hs:TV g' s vv vl w) (hv:(rt t 0).op<1000) (hne:(rt t 0).op≠(rt s 0).op):
 CZ 45 #[.agg #[sZ g (sz t) cap],.agg #[sZ g' (sz s) cap'],vv,vl] w (zzb B vv vl none w):=by
 have b0:=zpc w (.cells #[sZ g (sz t) cap] 33) (.cells #[sZ g' (sz s) cap'] 33);have R1:=zav t g cap _ (ht.rg.below b0) (zbd ht);have HS:=hid hs;generalize (rt t 0).op=p at R1 hv hne;generalize hq:(rt s 0).op=q at hne;have HQ:=hid hq;have d1:decide ((1000:Int)<=(p:Int))=false:=by simp;omega
 have e1:((p:Int)==(q:Int))=false:=by rw[beq_eq_false_iff_ne];omega
 have e2:((p:Int) !=(q:Int))=true:=by rw[bne,e1];rfl
 go_enter Tryz.func45,Tryz.ntmps45;go_wp21;refine R1.mono ?_;rintro e w1 ⟨rfl,b1⟩;have c2:=box2 b1;have b01:=b0.trans (b1.mono b0.size);go_wp21;refine(zbp p w1).mono ?_;rintro e w' ⟨rfl,rfl⟩;rw[d1];go_wp21;refine(zav s g' cap' _ (HS.rg.below b01) (zbd HS)).mono ?_;rintro e w2 ⟨rfl,b2⟩;rw[HQ.out];go_wp21;go_ret3;exact⟨vv,vl,rfl,FI.ofBelow (b01.trans (b2.mono b01.size)),NewOr.refl _ _,NewOr.refl _ _,λm hm=>by cases hm⟩
theorem zte (l:List (Nat×Ty)) (vv vl:Value) (g cap g' cap':Nat) (w:World) (hI:IS B l vv vl w) (ht:TV g t vv vl w) (hs:TV g' s vv vl w) (hv:(rt t 0).op<1000) (n1:(rt t 0).op≠91) (n2:(rt t 0).op≠42) (n3:(rt t 0).op≠62) (hne:(rt t 0).op=(rt s 0).op):
 CZ 45 #[.agg #[sZ g (sz t) cap],.agg #[sZ g' (sz s) cap'],vv,vl] w (zzb B vv vl (some l) w):=by
 have b0:=zpc w (.cells #[sZ g (sz t) cap] 33) (.cells #[sZ g' (sz s) cap'] 33);have R1:=zav t g cap _ (ht.rg.below b0) (zbd ht);have HS:=hid hs;have HI:=hid hI;generalize (rt t 0).op=p at R1 hv hne n1 n2 n3;have HQ:=hid hne.symm;have d1:decide ((1000:Int)<=(p:Int))=false:=by simp;omega
 have e1:((p:Int)==91)=false:=by rw[beq_eq_false_iff_ne];omega
 have e2:((p:Int)==42)=false:=by rw[beq_eq_false_iff_ne];omega
 have e3:((p:Int)==62)=false:=by rw[beq_eq_false_iff_ne];omega
 clear hne hs hI;go_enter Tryz.func45,Tryz.ntmps45;go_wp21;refine R1.mono ?_;rintro e w1 ⟨rfl,b1⟩;have c2:=box2 b1;have b01:=b0.trans (b1.mono b0.size);clear R1;go_wp21;refine(zbp p w1).mono ?_;rintro e w' ⟨rfl,rfl⟩;rw[d1];go_wp21;refine(zav s g' cap' _ (HS.rg.below b01) (zbd HS)).mono ?_;rintro e w2 ⟨rfl,b2⟩;rw[HQ.out];go_wp21;go_ret3;have b02:=b01.trans (b2.mono b01.size);exact⟨vv,vl,rfl,FI.ofBelow b02,NewOr.refl _ _,NewOr.refl _ _,λm hm=>by cases hm;exact HI.out.below b02⟩
end
section
variable {B:Nat} {vv vl:Value} {w w':World} (a:Ty)
theorem IS.vlt {l:List (Nat×Ty)} (h:IS B l vv vl w):∀k,w.heap.size<=k->vv.ownBlock≠some k:=λk hk e=>by
 obtain⟨ls,_,h2⟩:=h;have:=h2.vlt k e;omega
theorem IS.llt {l:List (Nat×Ty)} (h:IS B l vv vl w):∀k,w.heap.size<=k->vl.ownBlock≠some k:=λk hk e=>by
 obtain⟨ls,_,h2⟩:=h;have:=h2.llt k e;omega
theorem TV.new {w1 w2:World} {g:Nat} {t:Ty} {l:List (Nat×Ty)} (h:IS B l vv vl w) (hb:Below w.heap.size w w1) (hg:w1.heap.size<=g) (hR:Rg g t w2) (hs:sz t<=100000):TV g t vv vl w2:=
 ⟨hR,hs,h.vlt g (z1c hb.size hg),h.llt g (z1c hb.size hg)⟩
theorem sz_list:sz (tL a)=sz a+1:=rfl
theorem sz_both (gt:Nat) (a b:Ty):sz (.node gt 0 () a b)=sz a+sz b+1:=rfl
theorem FI.cell {a:Addr} (h:FI vv vl w w') (hlt:a.block<w.heap.size) (h1:vv.ownBlock≠some a.block) (h2:vl.ownBlock≠some a.block):w'.cell? a=w.cell? a:=
 z1s (w:=w) (a:=a) (h.block a.block hlt (λe=>h1 e.symm) (λe=>h2 e.symm))
theorem NewOr.up {a b:Value} (h:NewOr w' a b) (hs:w.heap.size<=w'.heap.size):NewOr w a b:=(NewOr.refl w a).trans h hs
def zgw (t a:Ty) (g cap:Nat):Prop:=∀w:World,Rg g t w->CZ 64 #[.agg #[sZ g (sz t) cap]] w (zcl a w)
def zlk (t a:Ty) (g cap:Nat):Prop:=∀w:World,Rg g t w->CZ 65 #[.agg #[sZ g (sz t) cap]] w (zcl a w)
theorem inst_list (t s a c:Ty) (ht0:(rt t 0).op=91) (hs0:(rt s 0).op=91) (ih:zly a c) (B:Nat) (l:List (Nat×Ty)) (vv vl:Value) (g cap g' cap':Nat) (w:World) (F1:zgw t a g cap) (F2:zgw s c g' cap') (hI:IS B l vv vl w) (hB:B<=w.heap.size) (ht:TV g t vv vl w) (hs:TV g' s vv vl w) (hza:sz a<=100000) (hzc:sz c<=100000) (hl:l.length+sz a<=200000):
 CZ 45 #[.agg #[sZ g (sz t) cap],.agg #[sZ g' (sz s) cap'],vv,vl] w (zzb B vv vl (zdh a c l) w):=by
 have b0:=zpc w (.cells #[sZ g (sz t) cap] 33) (.cells #[sZ g' (sz s) cap'] 33);have R1:=zav t g cap _ (ht.rg.below b0) (zbd ht);rw[ht0] at R1;have HT:=hid ht;have HS:=hid hs;have HI:=hid hI;have HH:=hid ih;have HF1:=hid F1;have HF2:=hid F2;have HS0:=hid hs0;have d1:decide ((1000:Int)<=((91:Nat):Int))=false:=by decide
 clear hI ht hs ih F1 F2 ht0 hs0;go_enter Tryz.func45,Tryz.ntmps45;go_wp21;refine R1.mono ?_;rintro e w1 ⟨rfl,b1⟩;have b01:=b0.trans (b1.mono b0.size);have c1:=box1 b1;have c2:=box2 b1;clear R1;go_wp21;refine(zbp 91 w1).mono ?_;rintro e w' ⟨rfl,rfl⟩;rw[d1];go_wp21;have R2:=zav s g' cap' _ (HS.out.rg.below b01) (zbd HS.out);rw[HS0.out] at R2;refine R2.mono ?_;rintro e w2 ⟨rfl,b2⟩;have s1:=b1.size;simp only[World.size_alloc] at s1;have s2:=b2.size;have c1:=(b2.cell (p:=⟨w.heap.size,0,none⟩) (by show w.heap.size<_;omega)).trans c1;have c2:=(b2.cell (p:=⟨w.heap.size+1,0,none⟩) (by show w.heap.size+1<_;omega)).trans c2;have b02:=(b01.trans (b2.mono b01.size)).drew;clear b1 b2 b01 b0 R2;have RT:=HT.out.rg.below b02;have RS:=HS.out.rg.below b02;have I2:=HI.out.below b02;go_wp21
 go_region_held3 (λw'=>w'.cell? ⟨w.heap.size,0,none⟩=some (sZ g (sz t) cap)/\w'.cell? ⟨w.heap.size+1,0,none⟩=some (sZ g' (sz s) cap'))
  (first|go_keep|(go_split_ands;exact⟨q1,q2⟩))
  (first
   |(go_at_call 64;(have hb3:=b3);refine(HF2.out _ (RS.below b3)).mono ?_;rintro e w4 ⟨g4,cap4,rfl,R4,hg4,b4⟩;(have q1:=(b4.cell (p:=⟨w.heap.size,0,none⟩) (by show w.heap.size<w3.heap.size;omega)).trans q1);(have q2:=(b4.cell (p:=⟨w.heap.size+1,0,none⟩) (by show w.heap.size+1<w3.heap.size;omega)).trans q2))
   |(go_at_call 64;refine(HF1.out _ RT).mono ?_;rintro e w3 ⟨g3,cap3,rfl,R3,hg3,b3⟩;(have q1:=(b3.cell (p:=⟨w.heap.size,0,none⟩) (by show w.heap.size<w2.heap.size;omega)).trans c1);(have q2:=(b3.cell (p:=⟨w.heap.size+1,0,none⟩) (by show w.heap.size+1<w2.heap.size;omega)).trans c2);(have s3:w2.heap.size<=w3.heap.size:=b3.size))
   |(go_at_call 45;refine(HH.out B l vv vl g3 cap3 g4 cap4 w4 ((I2.below b3).below b4) (by have:=b4.size;have:=b02.size;omega) ((TV.new HI.out b02 hg3 R3 hza).below b4) (TV.new HI.out (b02.trans (b3.mono b02.size)) hg4 R4 hzc) hl).mono ?_;rintro e w5 ⟨vv5,vl5,rfl,f5,nv5,nl5,i5⟩;(have q1:=(f5.cell (a:=⟨w.heap.size,0,none⟩) (by have:=b4.size;show w.heap.size<_;omega) (HI.out.vlt w.heap.size (z1d _)) (HI.out.llt w.heap.size (z1d _))).trans q1);(have q2:=(f5.cell (a:=⟨w.heap.size+1,0,none⟩) (by have:=b4.size;show w.heap.size+1<_;omega) (HI.out.vlt (w.heap.size+1) (by omega)) (HI.out.llt (w.heap.size+1) (by omega))).trans q2)))
 go_wp21;go_ret3;have b03:=b02.trans (b3.mono b02.size);have b04:=b03.trans (b4.mono b03.size);exact⟨vv5,vl5,rfl,FI.trans (FI.ofBelow b04) (NewOr.refl _ _) (NewOr.refl _ _) f5,nv5.up b04.size,nl5.up b04.size,i5⟩
end
def fitsB (a c a' d:Ty) (l:List (Nat×Ty)):Option (List (Nat×Ty)):=match zdh a c l with|none=>none|some m=>zdh a' d m
theorem zyh (cc:Nat) (hcc:cc=42\/cc=62) (t s a c b d:Ty) (ht0:(rt t 0).op=cc) (hs0:(rt s 0).op=cc) (ih:zly a c) (ih':zly b d) (B:Nat) (l:List (Nat×Ty)) (vv vl:Value) (g cap g' cap':Nat) (w:World) (F1:zgw t a g cap) (F2:zgw s c g' cap') (G1:zlk t b g cap) (G2:zlk s d g' cap') (hI:IS B l vv vl w) (hB:B<=w.heap.size) (ht:TV g t vv vl w) (hs:TV g' s vv vl w) (hza:sz a<=100000) (hzc:sz c<=100000) (hzb:sz b<=100000) (hzd:sz d<=100000) (hl:l.length+sz a<=200000) (hl':∀m,zdh a c l=some m->m.length+sz b<=200000):
 CZ 45 #[.agg #[sZ g (sz t) cap],.agg #[sZ g' (sz s) cap'],vv,vl] w (zzb B vv vl (fitsB a c b d l) w):=by
 have b0:=zpc w (.cells #[sZ g (sz t) cap] 33) (.cells #[sZ g' (sz s) cap'] 33);have R1:=zav t g cap _ (ht.rg.below b0) (zbd ht);rw[ht0] at R1;have HT:=hid ht;have HS:=hid hs;have HI:=hid hI;have HH:=hid ih;have HH':=hid ih';have HG1:=hid G1;have HG2:=hid G2;have HL:=hid hl';have HF1:=hid F1;have HF2:=hid F2;have HS0:=hid hs0;have d1:decide ((1000:Int)<=(cc:Int))=false:=by simp;omega
 clear hI ht hs ih ih' F1 F2 G1 G2 ht0 hs0 hl';go_enter Tryz.func45,Tryz.ntmps45;go_wp21;refine R1.mono ?_;rintro e w1 ⟨rfl,b1⟩;have b01:=b0.trans (b1.mono b0.size);have c1:=box1 b1;have c2:=box2 b1;clear R1;go_wp21;refine(zbp cc w1).mono ?_;rintro e w' ⟨rfl,rfl⟩;rw[d1];go_wp21;have R2:=zav s g' cap' _ (HS.out.rg.below b01) (zbd HS.out);rw[HS0.out] at R2;refine R2.mono ?_;rintro e w2 ⟨rfl,b2⟩;have s1:=b1.size;simp only[World.size_alloc] at s1;have s2:=b2.size;have c1:=(b2.cell (p:=⟨w.heap.size,0,none⟩) (by show w.heap.size<_;omega)).trans c1;have c2:=(b2.cell (p:=⟨w.heap.size+1,0,none⟩) (by show w.heap.size+1<_;omega)).trans c2;have b02:=(b01.trans (b2.mono b01.size)).drew;clear b1 b2 b01 b0 R2;have RT:=HT.out.rg.below b02;have RS:=HS.out.rg.below b02;have I2:=HI.out.below b02;have e91:((cc:Int)==91)=false:=by rw[beq_eq_false_iff_ne];omega
 have hsp:((cc:Int)==42)=true\/((cc:Int)==42)=false/\((cc:Int)==62)=true:=by rcases hcc with rfl|rfl<;>simp
 clear hcc;rcases hsp with f42|⟨f42,f62⟩
 all_goals
  go_wp21
  go_region_held3 (λw'=>w'.cell? ⟨w.heap.size,0,none⟩=some (sZ g (sz t) cap)/\w'.cell? ⟨w.heap.size+1,0,none⟩=some (sZ g' (sz s) cap'))
   (first|go_keep|(go_split_ands;exact⟨q1,q2⟩))
   (first
    |(go_at_call 64;(have hb3:=b3);refine(HF2.out _ (RS.below b3)).mono ?_;rintro e w4 ⟨g4,cap4,rfl,R4,hg4,b4⟩;(have q1:=(b4.cell (p:=⟨w.heap.size,0,none⟩) (by show w.heap.size<w3.heap.size;omega)).trans q1);(have q2:=(b4.cell (p:=⟨w.heap.size+1,0,none⟩) (by show w.heap.size+1<w3.heap.size;omega)).trans q2))
    |(go_at_call 64;refine(HF1.out _ RT).mono ?_;rintro e w3 ⟨g3,cap3,rfl,R3,hg3,b3⟩;(have q1:=(b3.cell (p:=⟨w.heap.size,0,none⟩) (by show w.heap.size<w2.heap.size;omega)).trans c1);(have q2:=(b3.cell (p:=⟨w.heap.size+1,0,none⟩) (by show w.heap.size+1<w2.heap.size;omega)).trans c2);(have s3:w2.heap.size<=w3.heap.size:=b3.size))
    |(go_at_call 45;refine(HH.out B l vv vl g3 cap3 g4 cap4 w4 ((I2.below b3).below b4) (by have:=b4.size;have:=b02.size;omega) ((TV.new HI.out b02 hg3 R3 hza).below b4) (TV.new HI.out (b02.trans (b3.mono b02.size)) hg4 R4 hzc) hl).mono ?_;rintro e w5 ⟨vv5,vl5,rfl,f5,nv5,nl5,i5⟩;(have q1:=(f5.cell (a:=⟨w.heap.size,0,none⟩) (by have:=b4.size;show w.heap.size<_;omega) (HI.out.vlt w.heap.size (z1d _)) (HI.out.llt w.heap.size (z1d _))).trans q1);(have q2:=(f5.cell (a:=⟨w.heap.size+1,0,none⟩) (by have:=b4.size;show w.heap.size+1<_;omega) (HI.out.vlt (w.heap.size+1) (by omega)) (HI.out.llt (w.heap.size+1) (by omega))).trans q2)))
  have b03:=b02.trans (b3.mono b02.size);have b04:=b03.trans (b4.mono b03.size);have f05:=FI.trans (FI.ofBelow b04) (NewOr.refl _ _) (NewOr.refl _ _) f5;have nv05:=nv5.up b04.size;have nl05:=nl5.up b04.size;have s4:w.heap.size+2<=w4.heap.size:=by have:=b4.size;omega
  have nN:vv5.ownBlock≠some w.heap.size:=nv5.ne (by omega) (HI.out.vlt _ (z1d _));have nN1:vv5.ownBlock≠some (w.heap.size+1):=nv5.ne (by omega) (HI.out.vlt _ (by omega));have mN:vl5.ownBlock≠some w.heap.size:=nl5.ne (by omega) (HI.out.llt _ (z1d _));have mN1:vl5.ownBlock≠some (w.heap.size+1):=nl5.ne (by omega) (HI.out.llt _ (by omega));have HN:Hid (vv5.ownBlock≠some w.heap.size/\vv5.ownBlock≠some (w.heap.size+1)/\vl5.ownBlock≠some w.heap.size/\vl5.ownBlock≠some (w.heap.size+1)):=⟨nN,nN1,mN,mN1⟩
  clear nN nN1 mN mN1;have s5:w2.heap.size<=w5.heap.size:=by have:=f5.size;have:=b4.size;omega
  cases hq:zdh a c l with
  |none=>
   have HQ:Hid (fitsB a c b d l=none):=by unfold Hid fitsB;rw[hq]
   clear hq;go_wp21;go_ret3;rw[HQ.out];exact⟨vv5,vl5,rfl,f05,nv05,nl05,λm hm=>by cases hm⟩
  |some m=>
   have HQ:Hid (fitsB a c b d l=zdh b d m):=by unfold Hid fitsB;rw[hq]
   have I5:=i5 m hq;have hlm:=HL.out m hq;have HT5:=hid (HT.out.fi f05 nv05 nl05);have HS5:=hid (HS.out.fi f05 nv05 nl05);have RT5:=HT5.out.rg.drew;have RS5:=HS5.out.rg.drew;have B5:B<=w5.heap.size:=by have:=b02.size;omega
   have b05:Below w5.heap.size w5 w5.drew:=(Below.refl _ _).drew;have HI5:=hid I5;clear hq i5 I5 I2 RT RS R3 R4 b3 b4 b03 b04 c1 c2 f5 nv5 nl5 b02 hg3 hg4 s3;go_wp21
   go_region_held3 (λw'=>w'.cell? ⟨w.heap.size,0,none⟩=some (sZ g (sz t) cap)/\w'.cell? ⟨w.heap.size+1,0,none⟩=some (sZ g' (sz s) cap'))
    (first|go_keep|(go_split_ands;exact⟨q1,q2⟩))
    (first
     |(go_at_call 65;(have hb6:=b6);refine(HG2.out _ (RS5.below b6)).mono ?_;rintro e w7 ⟨g7,cap7,rfl,R7,hg7,b7⟩;(have q1:=(b7.cell (p:=⟨w.heap.size,0,none⟩) (by show w.heap.size<w6.heap.size;omega)).trans q1);(have q2:=(b7.cell (p:=⟨w.heap.size+1,0,none⟩) (by show w.heap.size+1<w6.heap.size;omega)).trans q2))
     |(go_at_call 65;refine(HG1.out _ RT5).mono ?_;rintro e w6 ⟨g6,cap6,rfl,R6,hg6,b6⟩;(have q1:=(b6.cell (p:=⟨w.heap.size,0,none⟩) (by show w.heap.size<w5.heap.size;omega)).trans q1);(have q2:=(b6.cell (p:=⟨w.heap.size+1,0,none⟩) (by show w.heap.size+1<w5.heap.size;omega)).trans q2);(have s6:w5.heap.size<=w6.heap.size:=b6.size))
     |(go_at_call 45;refine(HH'.out B m vv5 vl5 g6 cap6 g7 cap7 w7 (((HI5.out.below b05).below b6).below b7) (by have:=b7.size;omega) ((TV.new HI5.out b05 hg6 R6 hzb).below b7) (TV.new HI5.out (b05.trans (b6.mono b05.size)) hg7 R7 hzd) hlm).mono ?_;rintro e w8 ⟨vv8,vl8,rfl,f8,nv8,nl8,i8⟩;(have q1:=(f8.cell (a:=⟨w.heap.size,0,none⟩) (by have:=b7.size;show w.heap.size<_;omega) HN.out.1 HN.out.2.2.1).trans q1);(have q2:=(f8.cell (a:=⟨w.heap.size+1,0,none⟩) (by have:=b7.size;show w.heap.size+1<_;omega) HN.out.2.1 HN.out.2.2.2).trans q2)))
   go_wp21;go_ret3;rw[HQ.out];have b06:=b05.trans (b6.mono b05.size);have b07:=b06.trans (b7.mono b06.size);have f58:=FI.trans (FI.ofBelow b07) (NewOr.refl _ _) (NewOr.refl _ _) f8;exact⟨vv8,vl8,rfl,FI.trans f05 nv05 nl05 f58,nv05.trans (nv8.up b07.size) f05.size,nl05.trans (nl8.up b07.size) f05.size,i8⟩
section
variable {B k:Nat} {row:Option Nat} {vl vv:Value} {w W w3:World}
theorem len_ownV {n:Nat} {xs:List Value} {e:TypeId} {m:Nat} (h:w.ownsRow B e m vl n xs) (w':World):(Builtin.len_ #[63] 3 #[vl]).run Tryz.prog w'=.ok (iZ n) w':=by
 rcases h.2 with ⟨rfl,rfl⟩|⟨g,cap,cur,rfl,_⟩
 ·kernel_rfl
 ·kernel_rfl
def zpq (ls:List Met) (o k:Nat):Prop:=∀m e,m<k->ls[m]? =some e->e.1≠o
theorem zsp:∀(ls:List Met) (o:Nat),zpq ls o ls.length->look (ls.map λe=>(e.1,e.2.1)) o=none:=by
 intro ls
 induction ls with
 |nil=>intro o h;rfl
 |cons e ls ih=>
  intro o h;have h0:=h 0 e (by simp) rfl;simp only[List.map_cons,look,if_neg h0];exact ih o (λm e' hm he=>h (m+1) e' (by simp;omega) (by simpa using he))
theorem zrs:∀(ls:List Met) (o k:Nat) (e:Met),zpq ls o k->ls[k]? =some e->e.1=o->look (ls.map λe=>(e.1,e.2.1)) o=some e.2.1:=by
 intro ls
 induction ls with
 |nil=>intro o k e h hk;simp at hk
 |cons e0 ls ih=>
  intro o k e h hk he
  cases k with
  |zero=>
   simp at hk;subst hk;simp only[List.map_cons,look,if_pos he]
  |succ k=>
   have h0:=h 0 e0 (by omega) rfl;simp only[List.map_cons,look,if_neg h0];exact ih o k e (λm e' hm hme=>h (m+1) e' (by omega) (by simpa using hme)) (by simpa using hk) he
theorem infoInt:(Tryz.prog.info? 3).map (λi=>(i.zero,i.size,i.bytes))=some (some (.int .i64 0),1,8):=by kernel_rfl
theorem infoType:(Tryz.prog.info? 33).map (λi=>(i.zero,i.size,i.bytes))=some (some (.agg #[.slice none 0 0]),1,24):=by kernel_rfl
theorem zeq (w:World) (o:Obj):Below w.heap.size w (w.drew.alloc o):=(Below.refl w.heap.size w).drew.alloc (z1d _) o
theorem zgn (w:World) (o o':Obj):Below w.heap.size w ((w.drew.alloc o).alloc o'):=(zeq w o).alloc (zeq w o).size o'
theorem zkl (w:World) (o o':Obj):((w.alloc o).alloc o').heap[w.heap.size]? =some o:=by rw[Below.heap_alloc _ _ _ (by simp)];exact z1v w o
theorem after_v {ls:List Met} (I:ISr B ls vv vl w) (bW:Below w.heap.size w W) (hg:W.grownBy w3 vv.ownBlock):w3.ownsRow B 33 1 vl ls.length (ls.map ml):=by
 refine(I.below bW).tys.kept hg ?_;rcases I.ne with e|e
 ·cases hv:vl.ownBlock with
  |none=>exact .inl rfl
  |some k=>exact .inr (by rw[e];simp)
 ·exact .inr (Ne.symm e)
theorem ISr.nev {ls:List Met} (h:ISr B ls vv vl w) (hk:w.heap.size<=k):some k≠vv.ownBlock:=λe=>by have:=h.vlt k e.symm;omega
theorem ISr.nel {ls:List Met} (h:ISr B ls vv vl w) (hk:w.heap.size<=k):some k≠vl.ownBlock:=λe=>by have:=h.llt k e.symm;omega
theorem ztk (bW:Below w.heap.size w W) (hg:W.grownBy w3 row) (a:Addr) (ha:a.block<w.heap.size) (hn:some a.block≠row):w3.cell? a=w.cell? a:=
 (hg.cell_far a (z1e ha bW.size) hn).trans (bW.cell ha)
theorem zvw (w:World):Below w.heap.size w w:=Below.refl _ _
theorem zwo (w:World) (o:Obj):Below w.heap.size w (w.alloc o):=bal w o
theorem zti {o:Obj} (hg:W.grownBy w3 row) (h:W.heap[k]? =some o) (hn:some k≠row):w3.heap[k]? =some o:=
 (hg.block k (z1a.1 h).1 hn).trans h
theorem append_two {w' X w4:World} {o p g1 c1 g2 c2 g' cap':Nat} {s:Ty} {ls:List Met} {l:List (Nat×Ty)} (I1:ISr B ls vv vl w') (b01:Below w.heap.size w w') (bW:Below w'.heap.size w' W) (hg3:W.grownBy w3 vv.ownBlock) (ha3:vv.ownBlock=some g1\/g1=W.heap.size) (hl3:g1<w3.heap.size) (ho3:w3.ownsRow B 3 1 (sZ g1 (ls.length+1) c1) (ls.length+1) (ls.map mv++[iZ p])) (hX:Below w3.heap.size w3 X) (hg4:X.grownBy w4 vl.ownBlock) (ha4:vl.ownBlock=some g2\/g2=X.heap.size) (ho4:w4.ownsRow B 33 1 (sZ g2 (ls.length+1) c2) (ls.length+1) (ls.map ml++[sZ g' (sz s) cap'])) (hs:TV g' s vv vl w) (hp:p=o+30) (hl:ls.map (λe=>(e.1,e.2.1))=l):
 FI vv vl w w4/\NewOr w vv (sZ g1 (ls.length+1) c1)/\NewOr w vl (sZ g2 (ls.length+1) c2)/\IS B (l++[(o,s)]) (sZ g1 (ls.length+1) c1) (sZ g2 (ls.length+1) c2) w4:=by
 have z0:=b01.size;have z1:=bW.size;have z2:=hg3.size;have z3:=hX.size;have z4:=hg4.size;have vlt:=I1.vlt;have llt:=I1.llt;have hs':=hs.below b01
 have nv:∀k,k<w'.heap.size->vv.ownBlock≠some k->g1≠k:=by
  intro k hk hn e;rcases ha3 with h|h
  ·exact hn (by rw[h,e])
  ·omega
 have nl:∀k,k<w'.heap.size->vl.ownBlock≠some k->g2≠k:=by
  intro k hk hn e;rcases ha4 with h|h
  ·exact hn (by rw[h,e])
  ·omega
 have hne:g1≠g2:=by
  intro e;rcases ha3 with h|h<;>rcases ha4 with h'|h'
  ·rcases I1.ne with h0|h0
   ·rw[h] at h0;cases h0
   ·exact h0 (by rw[h,h',e])
  ·have:=vlt g1 h;omega
  ·have:=llt g2 h';omega
  ·omega
 have keep:∀{g:Nat} {t:Ty},Rg g t w'->vv.ownBlock≠some g->vl.ownBlock≠some g->Rg g t w4:=λhR h1 h2=>(((hR.below bW).kept hg3 h1).below hX).kept hg4 h2
 refine⟨⟨hg4.os.trans (hX.os.trans (hg3.os.trans (bW.os.trans b01.os))),hg4.tape.trans (hX.tape.trans (hg3.tape.trans (bW.tape.trans b01.tape))),hg4.output.trans (hX.output.trans (hg3.output.trans (bW.output.trans b01.output))),by omega,λk hk h1 h2=>?_⟩,?_,?_,⟨ls++[(o,s,g',cap')],?_,?_,?_,?_,?_⟩⟩
 ·exact(hg4.block k (by omega) h2).trans ((hX.block k (by omega)).trans ((hg3.block k (by omega) h1).trans ((bW.block k (by omega)).trans (b01.block k hk))))
 ·rcases ha3 with h|h
  ·exact .inl h.symm
  ·exact .inr ⟨g1,rfl,by omega⟩
 ·rcases ha4 with h|h
  ·exact .inl h.symm
  ·exact .inr ⟨g2,rfl,by omega⟩
 ·simp[hl]
 ·have e1:(ls++[(o,s,g',cap')]).map mv=ls.map mv++[iZ p]:=by simp[hp]
  rw[e1,z1l];refine(zqj ho3 hX).kept hg4 (.inr ?_);simp only[Value.ownBlock];rcases ha3 with h|h
  ·rcases I1.ne with h0|h0
   ·rw[h] at h0;cases h0
   ·rw[<-h];exact h0
  ·intro e;have:=llt g1 e.symm;omega
 ·have e1:(ls++[(o,s,g',cap')]).map ml=ls.map ml++[sZ g' (sz s) cap']:=by simp
  rw[e1,z1l];exact ho4
 ·intro e he
  rcases z1y.1 he with he|he
  ·have h:=I1.ok e he
   refine⟨keep h.1 h.2.2.1 h.2.2.2,h.2.1,?_,?_⟩
   ·intro e';simp only[Value.ownBlock,Option.some.injEq] at e';exact nv _ h.1.lt h.2.2.1 e'
   ·intro e';simp only[Value.ownBlock,Option.some.injEq] at e';exact nl _ h.1.lt h.2.2.2 e'
  ·obtain rfl:e=(o,s,g',cap'):=by simpa using he
   refine⟨keep hs'.rg hs'.nv hs'.nl,hs'.small,?_,?_⟩
   ·intro e';simp only[Value.ownBlock,Option.some.injEq] at e';exact nv _ hs'.rg.lt hs'.nv e'
   ·intro e';simp only[Value.ownBlock,Option.some.injEq] at e';exact nl _ hs'.rg.lt hs'.nl e'
 ·exact .inr (by simp[Value.ownBlock,hne])
theorem rinst_var (o:Nat) (t s:Ty) (hvar:t=tV o) (ho:970<=o/\o<1230) (B:Nat) (l:List (Nat×Ty)) (vv vl:Value) (g cap g' cap':Nat) (w:World) (hI:IS B l vv vl w) (hB:B<=w.heap.size) (ht:TV g t vv vl w) (hs:TV g' s vv vl w) (hl:l.length<=200000):
 CZ 45 #[.agg #[sZ g (sz t) cap],.agg #[sZ g' (sz s) cap'],vv,vl] w (zzb B vv vl (zdh t s l) w):=by
 obtain⟨ls,hls,hR⟩:=hI;have b0:=zpc w (.cells #[sZ g (sz t) cap] 33) (.cells #[sZ g' (sz s) cap'] 33);have hop:(rt t 0).op=o+30:=by rw[hvar];rfl
 have R1:=zav t g cap _ (ht.rg.below b0) (zbd ht);rw[hop] at R1;have hlen:ls.length=l.length:=by rw[<-hls];simp
 have hlls:ls.length<=200000:=by omega
 have HS:Hid (TV g' s vv vl w):=hs;have HI:Hid (ISr B ls vv vl w):=hR;have HL:Hid (ls.map (λe=>(e.1,e.2.1))=l):=hls;have HV:Hid (t=tV o):=hvar;have hln:=len_ownV hR.vars;obtain⟨p,hp⟩:∃p,p=o+30:=⟨_,rfl⟩
 rw[<-hp] at R1;have d1:decide ((1000:Int)<=(p:Int))=true:=by simp;omega
 have hp1:p<1300:=by omega
 have HP:Hid (p=o+30):=hp;clear hs ht hR hls hop hvar hp hlen hl;go_enter Tryz.func45,Tryz.ntmps45;go_wp21;refine R1.mono ?_;rintro e w1 ⟨rfl,b1⟩;have c2:=box2 b1;have s1:=b1.size;simp only[World.size_alloc] at s1;have b01:=b0.trans (b1.mono b0.size);have I1:=HI.out.below b01;clear R1 b0 b1;go_wp21;refine(zbp p w1).mono ?_;rintro e w' ⟨rfl,rfl⟩;rw[d1];go_wp21
 go_loop [12] (λi=>∃k:Nat,i=.int .i64 (k:Int)/\k<=ls.length/\Hid (zpq ls o k)) (λi=>ls.length-(intOf i).toNat)
 case atStart=>exact⟨0,rfl,Nat.zero_le _,λm e hm=>absurd hm (by omega)⟩
 case round=>
  obtain⟨k,rfl,hk,HN⟩:=hrel;rcases z1r k ls.length with hlt|hge
  ·obtain⟨e,he⟩:∃e,ls[k]? =some e:=⟨_,z1h hlt⟩
   obtain⟨gv,cv,rfl,hbv,hgv⟩:=I1.vars.form (by omega);obtain⟨gl,cl,rfl,hbl,hgl⟩:=I1.tys.form (by omega);have kv0:=I1.vars.cells (g:=gv) rfl k _ (by rw[z1n,he];rfl);have kl0:=I1.tys.cells (g:=gl) rfl k _ (by rw[z1n,he];rfl);rw[add0] at kv0 kl0;have hok:=I1.ok e (z1m he);obtain⟨eo,et,eg,ec⟩:=e;replace kv0:w'.cell? ⟨gv,k,none⟩=some (.int .i64 ((eo+30:Nat):Int)):=kv0;replace kl0:w'.cell? ⟨gl,k,none⟩=some (sZ eg (sz et) ec):=kl0;by_cases heo:eo=o
   ·subst heo
    have HF:Hid (zdh t s l=if eqT et s then some l else none):=by
     unfold Hid;rw[HV.out,zcj,if_pos rfl,<-HL.out,zrs ls eo k _ HN.out he rfl]
    have e1:((((eo+30:Nat):Int))==(p:Int))=true:=by rw[HP.out];simp
    have hx:eo+30=p:=HP.out.symm;rw[hx] at kv0;have hsm:sz et<=100000:=hok.2.1;have hRe:Rg eg et w':=hok.1;clear hx e1 he hok;have HSm:=zmi et s eg ec g' cap' w'.drew hRe.drew (HS.out.rg.below b01).drew (by omega);go_wp21
    go_region_with (go_at_call 72;refine HSm.mono ?_;rintro e w3 ⟨rfl,b3⟩)
    all_goals
     go_wp21;go_ret3;have b03:=b01.drew.trans (b3.mono b01.size);rw[HF.out];refine⟨_,_,?_,FI.ofBelow b03,NewOr.refl _ _,NewOr.refl _ _,?_⟩
     ·cases eqT et s<;>rfl
     ·intro m hm
      split at hm
      ·cases hm;exact IS.below ⟨ls,HL,HI⟩ b03
      ·cases hm
   ·have HM:Hid (zpq ls o (k+1)):=by
     intro m e' hm hme;rcases z1r m k with h1|h1
     ·exact HN m e' h1 hme
     ·obtain rfl:m=k:=by omega
      rw[he] at hme;cases hme;exact heo
    obtain⟨x,hx⟩:∃x,x=eo+30:=⟨_,rfl⟩
    rw[<-hx] at kv0;have e1:((x:Int)==(p:Int))=false:=by rw[beq_eq_false_iff_ne];have:=HP.out;omega
    have hxp:¬x=p:=by have:=HP.out;omega
    clear hx kl0 hok he heo;go_wp21;go_round
    case rel=>exact⟨k+1,by simp,by omega,HM⟩
    case measure=>simp[intOf];omega
  ·obtain rfl:k=ls.length:=by omega
   have d2:decide ((ls.length:Int)<(ls.length:Int))=false:=by simp
   have HF:Hid (zdh t s l=some (l++[(o,s)])):=by
    unfold Hid;have:=zsp ls o HN.out;rw[HL.out] at this;rw[HV.out,zcj,if_pos rfl,this]
   obtain⟨i1,hi1,hy0,hy1,hy2⟩:=info_parts infoInt;obtain⟨i2,hi2,hx0,hx1,hx2⟩:=info_parts infoType;have hBw:B<=w'.heap.size:=by have:=b01.size;omega
   have HB:Hid (Below w.heap.size w w'):=b01;have HI1:Hid (ISr B ls vv vl w'):=I1;clear HN b01 I1;go_wp21
   go_region_held3 (λwq=>wq.cell? ⟨w.heap.size+1,0,none⟩=some (sZ g' (sz s) cap'))
    (first|go_keep|exact q3)
    (first
     |(refine step_append_lies _ (by rfl) _ _ 63 (by rfl) B 3 i1 _ 1 8 Tryz.underlying63 hi1 hy0 hy1 hy2 rfl (by omega) vv ls.length (ls.map mv) (by rfl) (HI1.out.below (by first|exact zeq _ _|exact zgn _ _ _)).vars _ 1 1 [.int .i64 (p:Int)] (by rfl) (by rfl) (by first|exact z1x (z1v _ _)|exact z1x (heap_alloc2_new _ _ _)|exact z1x (zkl _ _ _)) (by simp[Value.oneCell']) (by omega) (by unfold maxLen;omega) (by omega) (z1c hBw (Below.size (by first|exact zeq _ _|exact zgn _ _ _))) _ rfl ?_;intro g1 c1 w3 ho3 hg3 ha3 hl3;(have q3:=(ztk (w:=w') (by first|exact zeq _ _|exact zgn _ _ _) hg3 ⟨w.heap.size+1,0,none⟩ (show w.heap.size+1<w'.heap.size by omega) (HI.out.nev (k:=w.heap.size+1) (by omega))).trans c2);(have T3:=after_v HI1.out (by first|exact zeq _ _|exact zgn _ _ _) hg3);(have S3:B<=w3.heap.size:=z1c hBw (z1c (Below.size (by first|exact zeq _ _|exact zgn _ _ _)) hg3.size));(have Z3:w'.heap.size<=w3.heap.size:=z1c (Below.size (by first|exact zeq _ _|exact zgn _ _ _)) hg3.size))
     |(refine step_append_lies _ (by rfl) _ _ 65 (by rfl) B 33 i2 _ 1 24 Tryz.underlying65 hi2 hx0 hx1 hx2 rfl (by omega) vl ls.length (ls.map ml) (by rfl) (by first|exact T3|exact T3.alloc _) _ 1 1 [sZ g' (sz s) cap'] (by rfl) (by rfl) (by first|exact z1x (z1v _ _)|exact z1x (zti hg3 (heap_alloc2_new _ _ _) (HI1.out.nev (Nat.le_succ _)))|exact z1x (zti hg3 (zkl _ _ _) (HI1.out.nev (z1d _)))) (by simp[Value.oneCell']) (by omega) (by unfold maxLen;omega) (by omega) (z1c S3 (Below.size (by first|exact zvw _|exact zwo _ _))) _ rfl ?_;intro g2 c2' w4 ho4 hg4 ha4 hl4;(have q3:=(ztk (w:=w3) (by first|exact zvw _|exact zwo _ _) hg4 ⟨w.heap.size+1,0,none⟩ (show w.heap.size+1<w3.heap.size by omega) (HI.out.nel (k:=w.heap.size+1) (by omega))).trans q3)))
   all_goals
    go_wp21;go_ret3;have F:=append_two HI1.out HB.out (by first|exact zeq _ _|exact zgn _ _ _) hg3 ha3 hl3 ho3 (by first|exact zvw _|exact zwo _ _) hg4 ha4 ho4 HS.out HP.out HL.out;rw[HF.out];exact⟨_,_,rfl,F.1,F.2.1,F.2.2.1,λm hm=>by cases hm;exact F.2.2.2⟩
end
theorem zyd:∀(g s:Ty) (l m:List (Nat×Ty)),zdh g s l=some m->m.length<=l.length+sz g:=by
 intro g
 induction g with
 |nil=>intro s l m h;simp[zdh] at h
 |node g o u a b iha ihb=>
  intro s l m h;rw[zcj] at h;simp only[sz];split at h
  ·split at h
   ·cases h;simp
   ·split at h
    ·cases h;omega
    ·cases h
  ·split at h
   ·cases h
   ·split at h
    ·split at h
     ·cases h;omega
     ·split at h
      ·have:=iha _ _ _ h;omega
      ·split at h
       ·cases h
       ·rename_i h1
        have:=iha _ _ _ h1;have:=ihb _ _ _ h;omega
    ·cases h
theorem rinst_any:∀t s:Ty,Ok t->Ok s->zly t s:=by
 intro t
 induction t with
 |nil=>intro s h;exact h.elim
 |node gt o u a b iha ihb=>
  intro s ht hs B l vv vl g cap g' cap' w hI hB hT hS hl
  cases u
  rcases ht with ⟨rfl,rfl,rfl,rfl⟩|⟨rfl,rfl,rfl,rfl⟩|⟨rfl,ho,rfl,rfl⟩|⟨rfl,rfl,ha,rfl⟩|⟨rfl,rfl,ha,hb⟩|⟨rfl,rfl,ha,hb⟩
  ·rcases hs.cases with rfl|rfl|⟨o',h1',h2',rfl⟩|⟨c,hc,rfl⟩|⟨c,d,hc,hd,rfl⟩|⟨c,d,hc,hd,rfl⟩
   ·exact zte _ _ B l vv vl g cap g' cap' w hI hT hS (by decide) (by decide) (by decide) (by decide) rfl
   ·exact zau _ _ B vv vl g cap g' cap' w hT hS (by decide) (by decide)
   ·exact zau _ _ B vv vl g cap g' cap' w hT hS (by decide) (by show 73≠o'+30;omega)
   iterate 3 exact zau _ _ B vv vl g cap g' cap' w hT hS (by decide) (by simp[rt,sgn])
  ·rcases hs.cases with rfl|rfl|⟨o',h1',h2',rfl⟩|⟨c,hc,rfl⟩|⟨c,d,hc,hd,rfl⟩|⟨c,d,hc,hd,rfl⟩
   ·exact zau _ _ B vv vl g cap g' cap' w hT hS (by decide) (by decide)
   ·exact zte _ _ B l vv vl g cap g' cap' w hI hT hS (by decide) (by decide) (by decide) (by decide) rfl
   ·exact zau _ _ B vv vl g cap g' cap' w hT hS (by decide) (by show 66≠o'+30;omega)
   iterate 3 exact zau _ _ B vv vl g cap g' cap' w hT hS (by decide) (by simp[rt,sgn])
  ·exact rinst_var o _ s rfl ho B l vv vl g cap g' cap' w hI hB hT hS (by omega)
  ·have hsm:sz a+1<=100000:=hT.small
   rcases hs.cases with rfl|rfl|⟨o',h1',h2',rfl⟩|⟨c,hc,rfl⟩|⟨c,d,hc,hd,rfl⟩|⟨c,d,hc,hd,rfl⟩
   ·exact zau _ _ B vv vl g cap g' cap' w hT hS (by simp[rt,sgn]) (by simp[rt,sgn])
   ·exact zau _ _ B vv vl g cap g' cap' w hT hS (by simp[rt,sgn]) (by simp[rt,sgn])
   ·exact zau _ _ B vv vl g cap g' cap' w hT hS (by simp[rt,sgn]) (by show 91≠o'+30;omega)
   ·have hsn:sz c+1<=100000:=hS.small
    exact inst_list _ _ a c rfl rfl (iha c ha hc) B l vv vl g cap g' cap' w (λw' h=>zgd a ha g cap w' h (zbd hT)) (λw' h=>zgd c hc g' cap' w' h (zbd hS)) hI hB hT hS (by omega) (by omega) (by rw[sz_list] at hl;omega)
   iterate 2 exact zau _ _ B vv vl g cap g' cap' w hT hS (by simp[rt,sgn]) (by simp[rt,sgn])
  ·have hsm:sz a+sz b+1<=100000:=hT.small
   rcases hs.cases with rfl|rfl|⟨o',h1',h2',rfl⟩|⟨c,hc,rfl⟩|⟨c,d,hc,hd,rfl⟩|⟨c,d,hc,hd,rfl⟩
   ·exact zau _ _ B vv vl g cap g' cap' w hT hS (by simp[rt,sgn]) (by simp[rt,sgn])
   ·exact zau _ _ B vv vl g cap g' cap' w hT hS (by simp[rt,sgn]) (by simp[rt,sgn])
   ·exact zau _ _ B vv vl g cap g' cap' w hT hS (by simp[rt,sgn]) (by show 42≠o'+30;omega)
   ·exact zau _ _ B vv vl g cap g' cap' w hT hS (by simp[rt,sgn]) (by simp[rt,sgn])
   ·have hsn:sz c+sz d+1<=100000:=hS.small
    rw[sz_both] at hl;exact zyh 42 (.inl rfl) _ _ a c b d rfl rfl (iha c ha hc) (ihb d hb hd) B l vv vl g cap g' cap' w (λw' h=>zch 4 (.inl rfl) a b ha g cap w' h (zbd hT)) (λw' h=>zch 4 (.inl rfl) c d hc g' cap' w' h (zbd hS)) (λw' h=>zbz 4 (.inl rfl) a b hb g cap w' h (zbd hT)) (λw' h=>zbz 4 (.inl rfl) c d hd g' cap' w' h (zbd hS)) hI hB hT hS (by omega) (by omega) (by omega) (by omega) (by omega) (λm hm=>by have:=zyd _ _ _ _ hm;omega)
   ·exact zau _ _ B vv vl g cap g' cap' w hT hS (by simp[rt,sgn]) (by simp[rt,sgn])
  ·have hsm:sz a+sz b+1<=100000:=hT.small
   rcases hs.cases with rfl|rfl|⟨o',h1',h2',rfl⟩|⟨c,hc,rfl⟩|⟨c,d,hc,hd,rfl⟩|⟨c,d,hc,hd,rfl⟩
   ·exact zau _ _ B vv vl g cap g' cap' w hT hS (by simp[rt,sgn]) (by simp[rt,sgn])
   ·exact zau _ _ B vv vl g cap g' cap' w hT hS (by simp[rt,sgn]) (by simp[rt,sgn])
   ·exact zau _ _ B vv vl g cap g' cap' w hT hS (by simp[rt,sgn]) (by show 62≠o'+30;omega)
   ·exact zau _ _ B vv vl g cap g' cap' w hT hS (by simp[rt,sgn]) (by simp[rt,sgn])
   ·exact zau _ _ B vv vl g cap g' cap' w hT hS (by simp[rt,sgn]) (by simp[rt,sgn])
   ·have hsn:sz c+sz d+1<=100000:=hS.small
    rw[sz_both] at hl;exact zyh 62 (.inr rfl) _ _ a c b d rfl rfl (iha c ha hc) (ihb d hb hd) B l vv vl g cap g' cap' w (λw' h=>zch 5 (.inr rfl) a b ha g cap w' h (zbd hT)) (λw' h=>zch 5 (.inr rfl) c d hc g' cap' w' h (zbd hS)) (λw' h=>zbz 5 (.inr rfl) a b hb g cap w' h (zbd hT)) (λw' h=>zbz 5 (.inr rfl) c d hd g' cap' w' h (zbd hS)) hI hB hT hS (by omega) (by omega) (by omega) (by omega) (by omega) (λm hm=>by have:=zyd _ _ _ _ hm;omega)
theorem IS.nil (B:Nat) (w:World):IS B [] (.slice none 0 0) (.slice none 0 0) w:=
 ⟨[],rfl,⟨z1w _ _ _ _,z1w _ _ _ _,λe he=>absurd he (by simp),.inl rfl⟩⟩
theorem is_any (t s:Ty) (g cap g' cap':Nat) (w:World) (ht:Rg g t w) (hs:Rg g' s w) (hl:sz t<=100000) (hl':sz s<=100000):
 CZ 24 #[.agg #[sZ g (sz t) cap],.agg #[sZ g' (sz s) cap']] w λe w'=>e=.returned (.bool (inst t s))/\Below w.heap.size w w':=by
 have HI:=hid (rinst_any t s ht.ok hs.ok);have HT:=hid ht;have HS:=hid hs;have HF:Hid (inst t s=(zdh t s []).isSome):=rfl;go_enter Tryz.func24,Tryz.ntmps24;go_wp21;have b0:=zpc w (.cells #[sZ g (sz t) cap] 33) (.cells #[sZ g' (sz s) cap'] 33);refine(HI.out w.heap.size [] (.slice none 0 0) (.slice none 0 0) g cap g' cap' _ (IS.nil _ _) b0.size ⟨HT.out.below b0,hl,by simp[Value.ownBlock],by simp[Value.ownBlock]⟩ ⟨HS.out.below b0,hl',by simp[Value.ownBlock],by simp[Value.ownBlock]⟩ (by simp;omega)).mono ?_;rintro e w1 ⟨vv,vl,rfl,f,-,-,-⟩;go_wp21;go_ret;rw[HF.out];refine⟨rfl,b0.trans ?_⟩;have hz:=b0.size;exact⟨f.os,f.tape,f.output,f.size,λk hk=>f.block k (z1e hk hz) (by simp[Value.ownBlock]) (by simp[Value.ownBlock])⟩
end Go.Proofs.YtceadeaodbadlaaGreatDoor
