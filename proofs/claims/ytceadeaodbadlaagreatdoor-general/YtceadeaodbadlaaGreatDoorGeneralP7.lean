import Derived.Test.YtceadeaodbadlaaGreatDoorGeneralP6
set_option linter.unusedVariables false
set_option linter.unusedSimpArgs false
set_option maxRecDepth 100000
set_option maxHeartbeats 16000000
namespace Go.Proofs.YtceadeaodbadlaaGreatDoor
open Go.ChangeShapes Go.WideShapes Go.ChangeAt Go.RowKit
open Go.ChangeMaps (open_string shut_string)
theorem numG_any (n:Nat) (w:World):CZ 14 #[iZ n] w λe w'=>e=.returned (iZ n)/\w'=w:=by
 go_enter Tryz.func14,Tryz.ntmps14;go_wp21;go_ret;exact⟨rfl,rfl⟩
theorem Tb.belowG {w w':World} (h:Tb w) (hb:Below w.heap.size w w'):Tb w':=by
 obtain⟨t,fr,h⟩:=h;exact⟨t,fr,(hb.block 9 (z1a.1 h).1).trans h⟩
def GIn (k:Ty) (w:World) (e:Ending) (w':World):Prop:=
 ∃m:Ty,Ok m/\sz m<=50000/\inst (rnT m) k=true/\e=.returned (.tuple #[.string ⟨(zeh m).toArray⟩,.int .i64 0,.int .i64 0])/\Below w.heap.size w w'
theorem zpb {s F:ByteArray} {k:Ty} (hs:s.size<=60000) (hq:zbu s=.ok k) (hF:zsc s F) (hk:sz k<=50000) (hl:F.size<=24):
 (∀(tx:Nat->Addr) (w:World),Gs tx w->Tb w->CZ 17 #[.string F] w (GIn k w))/\
 ∀w,CZ 19 #[.string F] w λe w'=>(∃x y:Int,e=.returned (.tuple #[.int .i64 x,.int .i64 y]))/\Below w.heap.size w w':=by
 unfold zbu at hq
 cases he:zaz s true with
 |error p=>rw[he] at hq;cases hq
 |ok e=>
  rw[he] at hq;have hF':=hF e he;subst hF';obtain⟨x,h1,h2,h3,h4⟩:=bare_has hs he hq hl;refine⟨λtx w g tb=>?_,λw=>open_any _ x w hl h1 h4⟩;refine(infer_any tx _ x w tb.size g tb hl h1 h2).mono ?_;rintro en w' ⟨s',δ,τ,ρ,a1,a2,a3,a4,rfl,a6⟩;obtain⟨b1,b2⟩:=gen_most h3 hk a1 a2 a3;exact⟨_,a3,b2,b1,rfl,a6⟩
theorem read_form {m:Ty} (hm:Ok m) (hz:sz m<=50000) (w:World):
 CZ 23 #[.string ⟨(zeh m).toArray⟩] w λe w'=>Below w.heap.size w w'/\∃g cap,e=.returned (.tuple #[.agg #[sZ g (sz (rnT m)) cap],.int .i64 (-1)])/\Rg g (rnT m) w':=by
 have hl:=zxm hm;refine(zmw _ w (by simp[ByteArray.size];omega)).mono ?_;rintro e w' ⟨hb,hp⟩;rw[form_whole hm] at hp;obtain⟨g,cap,h1,h2,_⟩:=hp;exact⟨hb,g,cap,h1,h2⟩
theorem zog (tx:Nat->Addr) (s:ByteArray) (w:World) (g:Gs tx w) (tb:Tb w) (hs:s.size<=maxLen):
 CZ 7 #[.string s] w λe w'=>e=.returned (.bool true)/\Below w.heap.size w w':=by
 have HT:=hid (rTyped_any s w hs);have HG:Hid (Gs tx w/\Tb w):=⟨g,tb⟩
 go_enter Tryz.func7,Tryz.ntmps7;go_wp21;refine HT.mono ?_;rintro e w1 ⟨b1,⟨hl,rfl⟩|⟨hl,hm⟩⟩
 ·have HB:Hid (Below w.heap.size w (w1.alloc (.cells #[.slice none 0 0] 33))):=b1.alloc b1.size _
  go_wp21;go_ret;exact⟨rfl,HB⟩
 ·cases hq:zbu s with
  |error r=>
   obtain⟨c,p⟩:=r;rw[hq] at hm;subst hm;have HB:Hid (Below w.heap.size w (w1.alloc (.cells #[.slice none 0 0] 33))):=b1.alloc b1.size _;have hc:=typed_err hq;have e1:((c:Int) !=0)=true:=by rw[bne_iff_ne];omega
   go_wp21;go_ret;exact⟨rfl,HB⟩
  |ok k=>
   rw[hq] at hm;obtain⟨gk,ck,F,rfl,R,hz,hF⟩:=hm;have bA:Below w1.heap.size w1 (w1.alloc (tbO gk (sz k) ck)):=bal w1 _;have HB:=hid (b1.trans (bA.mono b1.size));have HRk:=hid (R.below bA);have c1:(w1.alloc (tbO gk (sz k) ck)).cell? ⟨w1.heap.size,0,none⟩=some (sZ gk (sz k) ck):=zab (z1v w1 _);have zA:(w1.alloc (tbO gk (sz k) ck)).heap.size=w1.heap.size+1:=by simp
   by_cases h24:24<F.size
   ·have d1:decide ((24:Int)<(F.size:Int))=true:=by simp;omega
    go_wp21;go_ret;exact⟨rfl,HB⟩
   ·have d1:decide ((24:Int)<(F.size:Int))=false:=by simp;omega
    have HO:=hid ((zpb hl hq hF hz (by omega)).2);have HI:=hid (λX hX=>(zpb hl hq hF hz (by omega)).1 tx X (HG.out.1.below hX) (HG.out.2.belowG hX));have HZ:=hid hz;generalize hnk:sz k=nk at *
    have HNK:=hid hnk;go_wp21;generalize w1.alloc (tbO gk nk ck)=W at *
    refine(HO W).mono ?_;rintro e w2 ⟨⟨x,y,rfl⟩,b2⟩;have HB2:=hid (HB.out.trans (b2.mono HB.out.size));have HR2:=hid (HRk.out.below b2);have c2:=(b2.cell (p:=⟨w1.heap.size,0,none⟩) (by show w1.heap.size<W.heap.size;omega)).trans c1;have z2:w1.heap.size<w2.heap.size:=by have:=b2.size;omega
    by_cases hx:x=0
    ·have e1:(x !=0)=false:=by simp[hx]
     go_wp21;refine(HI w2 HB2).mono ?_;rintro e w3 ⟨m,hm,hz,hi,rfl,b3⟩;have HB3:=hid (HB2.out.trans (b3.mono HB2.out.size));have HR3:=hid (HR2.out.below b3);have c3:=(b3.cell (p:=⟨w1.heap.size,0,none⟩) z2).trans c2;have z3:w1.heap.size<w3.heap.size:=by have:=b3.size;omega
     have HRT:=hid (λX=>read_form hm hz X)
     have HIS:Hid (∀g cap X,Rg g (rnT m) X->Rg gk k X->CZ 24 #[.agg #[sZ g (sz (rnT m)) cap],.agg #[sZ gk nk ck]] X λe w'=>e=.returned (.bool true)/\Below X.heap.size X w'):=λg cap X h1 h2=>by
      have:=is_any (rnT m) k g cap gk ck X h1 h2 (by rw[sz_rnT hm];omega) (by rw[HNK.out];have:=HZ.out;omega);rw[hi,HNK.out] at this;exact this
     have HFO:Hid (∀g cap X,Rg g (rnT m) X->CZ 21 #[.agg #[sZ g (sz (rnT m)) cap]] X λe w'=>e=.returned (.string ⟨(zeh m).toArray⟩)/\Below X.heap.size X w'):=λg cap X h1=>by
      have:=form_any (rnT m) g cap X h1 (by rw[sz_rnT hm];exact hz);rw[form_again hm] at this;exact this
     generalize (zeh m).toArray=FT at *
     generalize sz (rnT m)=nm at *
     go_wp21;refine(numG_any 0 w3).mono ?_;rintro e w3' ⟨rfl,rfl⟩;go_wp21;refine(HRT _).mono ?_;rintro e w4 ⟨b4,gm,cm,rfl,R4⟩;have b5:Below w3'.heap.size w3' (w4.alloc (tbO gm nm cm)):=b4.alloc b4.size _;have bA4:Below w4.heap.size w4 (w4.alloc (tbO gm nm cm)):=bal w4 _;have HB5:=hid (HB3.out.trans (b5.mono HB3.out.size));have HR5:=hid (HR3.out.below b5);have HM5:=hid (R4.below bA4);have c5:=(b5.cell (p:=⟨w1.heap.size,0,none⟩) z3).trans c3;have m5:(w4.alloc (tbO gm nm cm)).cell? ⟨w4.heap.size,0,none⟩=some (sZ gm nm cm):=zab (z1v w4 _);have z5:(w4.alloc (tbO gm nm cm)).heap.size=w4.heap.size+1:=by simp
     go_wp21;generalize w4.alloc (tbO gm nm cm)=Y at *
     refine(HIS gm cm Y HM5 HR5).mono ?_;rintro e w6 ⟨rfl,b6⟩;have HB6:=hid (HB5.out.trans (b6.mono HB5.out.size));have HM6:=hid (HM5.out.below b6);have m6:=(b6.cell (p:=⟨w4.heap.size,0,none⟩) (by show w4.heap.size<Y.heap.size;omega)).trans m5;go_wp21;refine(HFO gm cm w6 HM6).mono ?_;rintro e w7 ⟨rfl,b7⟩;have HB7:=hid (HB6.out.trans (b7.mono HB6.out.size));go_wp21;go_ret;exact⟨by simp,HB7.out⟩
    ·have e1:(x !=0)=true:=by simp[hx]
     go_wp21;go_ret;exact⟨rfl,HB2⟩
theorem zoe (os:Os) (started:os.Started) (H:Type) (enc:TypeId×Value->H):
 ReturnsInHanded {} Tryz.checked os 7 .any (λw args=>(Rows.generalSpec.pre enc Tryz.prog Tryz.f7 [] false w args/\laidMetH Tryz.prog laid9 w)/\sizedMet enc Tryz.prog Tryz.f7 (OpenSpec.ofChange Rows.generalSpec) false w args)
  (Rows.generalSpec.post enc Tryz.prog Tryz.f7 false true false false):=by
 refine returnsInHanded_of_change_and (C:=Tryz.checked) (X:=λw _=>laidMetH Tryz.prog laid9 w) (λ_ _ _ hh h=>h.of_heap hh) ownK started (by kernel_rfl) Tryz.func7
  (ChangeSpec.witness_shaped (enc:=enc) (C:=Tryz.checked) (os:=os) (X:=λw _=>laidMetH Tryz.prog laid9 w) false (World.doorLaid Tryz.prog 183 os) #[.string ⟨#[]⟩] 8 rfl (World.shaped_of_RefB (by kernel_rfl) (by kernel_rfl)) (by kernel_rfl) (by kernel_rfl) (by kernel_rfl) (door_met2 os _)) ?_
 intro W base args ds gs before hval0 hW _ _ hL _;have hval:=hval0;have hW':=hW;obtain⟨p,q,hA0,hV,rfl,hfz,hnd⟩:=hW;have hA:=hA0;rw[Tryz.params7] at hA hval;obtain⟨v0,d0,rfl,rfl,h0⟩:=trodAll_one hA;obtain⟨rfl,rfl⟩:=trodVars_none hV;obtain⟨s,rfl,rfl,rfl,hs⟩:=open_string Tryz.underlying9 (hval 0 9 v0 rfl rfl) h0;obtain⟨⟨tx,g⟩,tb⟩:=of_laid9 hL;simp only[List.append_nil] at hW';have e1:Rows.generalSpec.fn H ([.lit (.string s.data.toList)]++[])={results:=[.lit (.bool true)],args:=[.lit (.string s.data.toList)]}:=by simp[Rows.generalSpec]
 refine(zog tx s W g tb hs).mono λe W' ⟨he,hb⟩=>?_
 subst he;refine⟨_,rfl,_,_,_,[],[],[],hW',?_,?_,?_,hb.frame _,λh=>by cases h⟩
 ·rw[e1];exact trodAll_mk1 (shut_bool Tryz.underlying4 true)
 ·rw[e1];exact trodAll_mk1 (shut_string Tryz.underlying9 hs)
 ·rw[e1];rfl
theorem zvg:Rows.GeneralSaid:=
 OpenClaim.holds_of_wide 7 Tryz.f7 rfl rfl rfl rfl rfl rfl rfl ⟨rfl,rfl,rfl,rfl,rfl⟩ rfl rfl rfl rfl rfl (by kernel_rfl) Tryz.func7 (by kernel_rfl)
  (of_decide_eq_true (by kernel_rfl)) (by unfold Func.isWrapper;rw[if_neg (of_decide_eq_false (by kernel_rfl))];exact⟨rfl,rfl⟩)
  (λos started H enc _=>zoe os started H enc)
theorem general_holds:Rows.GeneralCardSaid:=
 Claim7.holds_tied_plain_at .later [] [.handle,.sentinel,.sentinel,.sentinel,.sentinel,.sentinel,.sentinel,.sentinel,.sentinel,.data] true Rows.generalCard.stood.harness true
  zvg (λ_ h=>by cases h) (by kernel_rfl) (λ_ h=>by cases h) general_row_tie rfl ⟨rfl,rfl⟩ (by kernel_rfl) rfl
  (λf fn hf hfn=>by
   obtain rfl:f=7:=z1q ((show Tryz.prog.funcNamed Rows.generalRow.func=some 7 by kernel_rfl).symm.trans hf)|>.symm
   obtain rfl:fn=Tryz.f7:=(z1q (Tryz.func7.symm.trans hfn)).symm
   exact⟨by kernel_rfl,λj t ht=>by
    rw[Tryz.params7] at ht;have hm:t∈[9]:=by simpa using Array.mem_of_getElem? ht
    have hall:([9].all λu=>!Tryz.prog.wantsStandIn u)=true:=by kernel_rfl
    exact(show Tryz.prog.wantsStandIn t=false by simpa using List.all_eq_true.1 hall t hm)⟩)
  (by kernel_rfl)
end Go.Proofs.YtceadeaodbadlaaGreatDoor
