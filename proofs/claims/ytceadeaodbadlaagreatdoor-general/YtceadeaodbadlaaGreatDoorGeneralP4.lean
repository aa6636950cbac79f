import Derived.Test.YtceadeaodbadlaaGreatDoorGeneralP3
import Derived.LaidEqlPtr
import Derived.Deep.RegionWith
import Derived.Deep.RegionHeld3
import Derived.Shelf.Strings.Builder2
import Derived.Shelf.Strings.BuilderK
import Derived.Lib.OthersKept
import Derived.MapKept
import Derived.Shelf.Abstract
import Derived.KernelRfl
import Derived.Deep.DeepCutAuto
set_option linter.unusedVariables false
set_option linter.unusedSimpArgs false
set_option maxRecDepth 100000
set_option maxHeartbeats 16000000
namespace Go.Proofs.YtceadeaodbadlaaGreatDoor
theorem zpk {θ φ:Nat->Ty}:∀{t:Ty} {q:Nat},inU q (msub θ φ t)->(∃p,inU p t/\inU q (θ p))\/∃o,inT o t=true/\inU q (φ o):=by
 intro t
 induction t with
 |nil=>intro q h;exact h.elim
 |node g o u a b iha ihb=>
  intro q h;by_cases hg:g=6
  ·simp only[msub,if_pos hg] at h;exact .inl ⟨o,.inl ⟨hg,rfl⟩,h⟩
  ·by_cases h2:g=2
   ·simp only[msub,if_neg hg,if_pos h2] at h;exact .inr ⟨o,by simp[inT,h2],h⟩
   ·simp only[msub,if_neg hg,if_neg h2] at h
    rcases h with ⟨h,_⟩|⟨_,h|h⟩
    ·exact absurd h hg
    ·rcases iha h with ⟨p,h1,h2⟩|⟨p,h1,h2⟩
     ·exact .inl ⟨p,.inr ⟨hg,.inl h1⟩,h2⟩
     ·exact .inr ⟨p,by simp[inT,h1],h2⟩
    ·rcases ihb h with ⟨p,h1,h2⟩|⟨p,h1,h2⟩
     ·exact .inl ⟨p,.inr ⟨hg,.inr h1⟩,h2⟩
     ·exact .inr ⟨p,by simp[inT,h1],h2⟩
theorem plain_msub {θ φ:Nat->Ty}:∀{t:Ty},(∀q,inU q t->zbc (θ q))->(∀o,inT o t=true->zbc (φ o))->zbc (msub θ φ t):=by
 intro t
 induction t with
 |nil=>intro _ _;trivial
 |node g o u a b iha ihb=>
  intro h h';by_cases hg:g=6
  ·simp only[msub,if_pos hg];exact h o (.inl ⟨hg,rfl⟩)
  ·by_cases h2:g=2
   ·simp only[msub,if_neg hg,if_pos h2];exact h' o (by simp[inT,h2])
   ·simp only[msub,if_neg hg,if_neg h2]
    exact⟨h2,iha (λq hq=>h q (.inr ⟨hg,.inl hq⟩)) (λo ho=>h' o (by simp[inT,ho])),ihb (λq hq=>h q (.inr ⟨hg,.inr hq⟩)) (λo ho=>h' o (by simp[inT,ho]))⟩
theorem trim_msub {θ φ:Nat->Ty}:∀{t:Ty},Trim t->(∀q,inU q t->Trim (θ q))->(∀o,inT o t=true->Trim (φ o))->Trim (msub θ φ t):=by
 intro t
 induction t with
 |nil=>intro h;exact h.elim
 |node g o u a b iha ihb=>
  intro ht h h';by_cases hg:g=6
  ·simp only[msub,if_pos hg];exact h o (.inl ⟨hg,rfl⟩)
  ·by_cases h2:g=2
   ·simp only[msub,if_neg hg,if_pos h2];exact h' o (by simp[inT,h2])
   ·simp only[msub,if_neg hg,if_neg h2]
    rcases ht with ⟨h1,rfl,rfl⟩|⟨h1,ha,rfl⟩|⟨h1,ha,hb⟩
    ·exact .inl ⟨h1,rfl,rfl⟩
    ·exact .inr (.inl ⟨h1,iha ha (λq hq=>h q (.inr ⟨hg,.inl hq⟩)) (λo ho=>h' o (by simp[inT,ho])),rfl⟩)
    ·exact .inr (.inr ⟨h1,iha ha (λq hq=>h q (.inr ⟨hg,.inl hq⟩)) (λo ho=>h' o (by simp[inT,ho])),ihb hb (λq hq=>h q (.inr ⟨hg,.inr hq⟩)) (λo ho=>h' o (by simp[inT,ho]))⟩)
theorem inT_usub {δ:Nat->Ty} {o:Nat}:∀{t:Ty},inT o (usub δ t)=true->(∀q,inU q t->zbc (δ q))->inT o t=true:=by
 have np:∀s:Ty,zbc s->inT o s=true->False:=by
  intro s
  induction s with
  |nil=>intro _ h;simp[inT] at h
  |node g p u a b iha ihb=>
   intro hp h;simp only[inT,Bool.or_eq_true,Bool.and_eq_true,beq_iff_eq] at h;rcases h with (⟨h,_⟩|h)|h
   ·exact hp.1 h
   ·exact iha hp.2.1 h
   ·exact ihb hp.2.2 h
 intro t
 induction t with
 |nil=>intro h _;exact h
 |node g p u a b iha ihb=>
  intro h hq;by_cases hg:g=6
  ·simp only[usub,if_pos hg] at h;exact(np _ (hq p (.inl ⟨hg,rfl⟩)) h).elim
  ·simp only[usub,if_neg hg,inT,Bool.or_eq_true] at h ⊢
   rcases h with (h|h)|h
   ·exact .inl (.inl h)
   ·exact .inl (.inr (iha h λq h'=>hq q (.inr ⟨hg,.inl h'⟩)))
   ·exact .inr (ihb h λq h'=>hq q (.inr ⟨hg,.inr h'⟩))
theorem ziy (θ φ δ:Nat->Ty):∀t,zbc t->msub θ φ (usub δ t)=usub (λq=>msub θ φ (δ q)) t:=by
 intro t
 induction t with
 |nil=>intro _;rfl
 |node g o u a b iha ihb=>
  intro h;by_cases hg:g=6
  ·simp[usub,msub,hg]
  ·simp only[usub,msub,if_neg hg,if_neg h.1]
   rw[iha h.2.1,ihb h.2.2]
theorem zel (q:Nat):zbc (tU q):=⟨by decide,trivial,trivial⟩
theorem zil (q:Nat):Trim (tU q):=.inl ⟨by simp,rfl,rfl⟩
theorem trimV (o:Nat):Trim (tV o):=.inl ⟨by simp,rfl,rfl⟩
theorem zxn {a b:Ty} (ha:zbc a) (hb:zbc b):zbc (tF a b):=⟨by decide,ha,hb⟩
theorem trimF {a b:Ty} (ha:Trim a) (hb:Trim b):Trim (tF a b):=.inr (.inr ⟨.inr rfl,ha,hb⟩)
structure Sta where
 A:List Nat
 lev:Nat->Nat
 tk:Nat
structure Stp (L:Nat) (s s':Sta) (δ:Nat->Ty):Prop where
 D:∀q∈s.A,∀p,inU p (δ q)->p∈s'.A/\s'.lev p<=s.lev q
 R:∀p∈s'.A,s'.lev p<L->∃q∈s.A,s.lev q<=s'.lev p/\inU p (δ q)
 pl:∀q∈s.A,s.lev q<=L->zbc (δ q)
 tr:∀q∈s.A,Trim (δ q)
theorem Stp.refl (L:Nat) (s:Sta):Stp L s s tU:=
 ⟨λq hq p hp=>by simp at hp;subst hp;exact⟨hq,z1d _⟩,λp hp _=>⟨p,hp,z1d _,by simp⟩,λq _ _=>zel q,λq _=>zil q⟩
theorem Stp.trans {L:Nat} {s s1 s2:Sta} {δ1 δ2:Nat->Ty} (h:Stp L s s1 δ1) (k:Stp L s1 s2 δ2):Stp L s s2 (λq=>usub δ2 (δ1 q)):=by
 refine⟨λq hq p hp=>?_,λp hp hl=>?_,λq hq hl=>?_,λq hq=>?_⟩
 ·obtain⟨p1,h1,h2⟩:=zak.1 hp
  have a1:=h.D q hq p1 h1;have a2:=k.D p1 a1.1 p h2;exact⟨a2.1,z1c a2.2 a1.2⟩
 ·obtain⟨p1,m1,l1,h1⟩:=k.R p hp hl
  obtain⟨q,m2,l2,h2⟩:=h.R p1 m1 (by omega);exact⟨q,m2,by omega,zak.2 ⟨p1,h2,h1⟩⟩
 ·refine zet (h.pl q hq hl) λp hp=>?_
  have:=h.D q hq p hp;exact k.pl p this.1 (by omega)
 ·refine(h.tr q hq).usub λp hp=>?_
  exact k.tr p (h.D q hq p hp).1
theorem Stp.down {L:Nat} {s s':Sta} {δ:Nat->Ty} (h:Stp (L+1) s s' δ):Stp L s s' δ:=
 ⟨h.D,λp hp hl=>h.R p hp (by omega),λq hq hl=>h.pl q hq (by omega),h.tr⟩
structure New (L:Nat) (s:Sta) (q:Nat) (s':Sta):Prop where
 fresh:q∉s.A
 A:s'.A=q::s.A
 lev:∀p,s'.lev p=if p=q then L else s.lev p
 tk:s'.tk=s.tk
theorem New.ne {L:Nat} {s s':Sta} {q p:Nat} (h:New L s q s') (hp:p∈s.A):p≠q:=by rintro rfl;exact h.fresh hp
theorem New.sp {L:Nat} {s s':Sta} {q:Nat} (h:New L s q s'):Stp L s s' tU:=by
 refine⟨λp hp r hr=>?_,λp hp hl=>?_,λq _ _=>zel q,λq _=>zil q⟩
 ·simp at hr;subst hr
  rw[h.A,h.lev,if_neg (h.ne hp)];exact⟨z1j _ hp,z1d _⟩
 ·rw[h.A] at hp
  rw[h.lev] at hl;by_cases e:p=q
  ·rw[if_pos e] at hl;omega
  ·rcases List.mem_cons.1 hp with h'|hp
   ·exact absurd h' e
   ·refine⟨p,hp,by rw[h.lev,if_neg e];exact z1d _,by simp⟩
def NewS (L:Nat):Sta->List Nat->Sta->Prop
 |s,[],s'=>s'=s
 |s,q::qs,s'=>∃s1,New L s q s1/\NewS L s1 qs s'
theorem NewS.is {L:Nat}:∀{qs:List Nat} {s s':Sta},NewS L s qs s'->qs.Nodup/\(∀q∈qs,q∉s.A/\q∈s'.A/\s'.lev q=L)/\(∀p∈s.A,p∈s'.A/\s'.lev p=s.lev p)/\s'.tk=s.tk/\s'.A.length=s.A.length+qs.length/\(∀p∈s'.A,p∈s.A\/p∈qs):=by
 intro qs
 induction qs with
 |nil=>intro s s' h;cases h;exact⟨List.nodup_nil,λq h=>by simp at h,λp hp=>⟨hp,rfl⟩,rfl,rfl,λp hp=> .inl hp⟩
 |cons q qs ih=>
  intro s s' h;obtain⟨s1,h1,h2⟩:=h;obtain⟨i1,i2,i3,i4,i5,i6⟩:=ih h2;have qin:q∈s1.A:=by rw[h1.A];exact z1k
  refine⟨List.nodup_cons.2 ⟨λhq=>(i2 q hq).1 qin,i1⟩,?_,?_,by rw[i4,h1.tk],by rw[i5,h1.A];simp;omega,?_⟩
  ·intro p hp
   rcases List.mem_cons.1 hp with rfl|hp
   ·exact⟨h1.fresh,(i3 p qin).1,by rw[(i3 p qin).2,h1.lev,if_pos rfl]⟩
   ·obtain⟨a,b,c⟩:=i2 p hp
    exact⟨λh=>a (by rw[h1.A];exact z1j _ h),b,c⟩
  ·intro p hp
   have p1:p∈s1.A:=by rw[h1.A];exact z1j _ hp
   exact⟨(i3 p p1).1,by rw[(i3 p p1).2,h1.lev,if_neg (h1.ne hp)]⟩
  ·intro p hp
   rcases i6 p hp with h|h
   ·rw[h1.A] at h
    rcases List.mem_cons.1 h with rfl|h
    ·exact .inr z1k
    ·exact .inl h
   ·exact .inr (z1j _ h)
theorem NewS.sp {L:Nat} {qs:List Nat} {s s':Sta} (h:NewS L s qs s'):Stp L s s' tU:=by
 obtain⟨i1,i2,i3,i4,i5,i6⟩:=h.is;refine⟨λp hp r hr=>?_,λp hp hl=>?_,λq _ _=>zel q,λq _=>zil q⟩
 ·simp at hr;subst hr
  exact⟨(i3 p hp).1,Nat.le_of_eq (i3 p hp).2⟩
 ·rcases i6 p hp with h|h
  ·exact⟨p,h,Nat.le_of_eq (i3 p h).2.symm,by simp⟩
  ·have:=(i2 p h).2.2;omega
structure Un (s:Sta) (one other:Ty) (s':Sta) (δ:Nat->Ty) (S:List Nat):Prop where
 eq:usub δ one=usub δ other
 mgu:∀θ:Nat->Ty,usub θ one=usub θ other->∀q,usub θ (δ q)=θ q
 nd:S.Nodup
 sub:∀q∈S,q∈s.A/\δ q≠tU q/\(inU q one\/inU q other)
 A:s'.A=s.A.filter λp=>!S.contains p
 fr:∀p,¬inU p one->¬inU p other->s'.lev p=s.lev p
 out:∀q,q∉S->δ q=tU q
 img:∀q∈S,∀p,inU p (δ q)->inU p one\/inU p other
 D:∀q∈s.A,∀p,inU p (δ q)->p∈s'.A/\s'.lev p<=s.lev q
 R:∀p∈s'.A,∃q∈s.A,s.lev q<=s'.lev p/\inU p (δ q)
 pl:zbc one->zbc other->∀q,zbc (δ q)
 tr:∀q,Trim (δ q)
 tk:s'.tk=s.tk
theorem zqh {l S:List Nat} {p:Nat}:p∈l.filter (λp=>!S.contains p) ↔ p∈l/\p∉S:=by simp[List.mem_filter]
theorem Un.mem {s s':Sta} {one other:Ty} {δ:Nat->Ty} {S:List Nat} (h:Un s one other s' δ S) (p:Nat):p∈s'.A ↔ p∈s.A/\p∉S:=by rw[h.A];exact zqh
theorem Un.sp {L:Nat} {s s':Sta} {one other:Ty} {δ:Nat->Ty} {S:List Nat} (h:Un s one other s' δ S) (h1:zbc one) (h2:zbc other):Stp L s s' δ:=
 ⟨h.D,λp hp _=>h.R p hp,λq _ _=>h.pl h1 h2 q,λq _=>h.tr q⟩
structure Stl (L:Nat) (s:Sta) (t:Ty) (s':Sta) (δ:Nat->Ty) (vs:List Nat) (qs:List Nat):Prop where
 vsE:vs=(List.range qs.length).map λi=>zac (s.tk+i)
 vnd:vs.Nodup
 nd:qs.Nodup
 all:∀q,q∈qs ↔ q∈s.A/\inU q t/\L<s.lev q
 pos:∀i q,qs[i]? =some q->δ q=tV (zac (s.tk+i))
 out:∀q,q∉qs->δ q=tU q
 A:s'.A=s.A.filter λp=>!qs.contains p
 lev:∀p,s'.lev p=s.lev p
 tk:s'.tk=s.tk+qs.length
theorem Stl.mem {L:Nat} {s s':Sta} {t:Ty} {δ:Nat->Ty} {vs qs:List Nat} (h:Stl L s t s' δ vs qs) (p:Nat):p∈s'.A ↔ p∈s.A/\p∉qs:=by rw[h.A];exact zqh
theorem Stl.var {L:Nat} {s s':Sta} {t:Ty} {δ:Nat->Ty} {vs qs:List Nat} (h:Stl L s t s' δ vs qs) {q:Nat} (hq:q∈qs):∃i,qs[i]? =some q/\δ q=tV (zac (s.tk+i)):=by
 obtain⟨i,hi,e⟩:=List.mem_iff_getElem.1 hq;have:qs[i]? =some q:=by rw[z1h hi,e]
 exact⟨i,this,h.pos i q this⟩
theorem Stl.sp {L:Nat} {s s':Sta} {t:Ty} {δ:Nat->Ty} {vs qs:List Nat} (h:Stl L s t s' δ vs qs):Stp L s s' δ:=by
 refine⟨λq hq p hp=>?_,λp hp hl=>?_,λq hq hl=>?_,λq hq=>?_⟩
 ·by_cases hm:q∈qs
  ·obtain⟨i,_,e⟩:=h.var hm
   rw[e] at hp;simp at hp
  ·rw[h.out q hm] at hp
   simp at hp;subst hp;exact⟨(h.mem q).2 ⟨hq,hm⟩,Nat.le_of_eq (h.lev q)⟩
 ·have:=(h.mem p).1 hp
  exact⟨p,this.1,Nat.le_of_eq (h.lev p).symm,by rw[h.out p this.2];simp⟩
 ·rw[h.out q (λhm=>by have:=((h.all q).1 hm).2.2;omega)];exact zel q
 ·by_cases hm:q∈qs
  ·obtain⟨i,_,e⟩:=h.var hm
   rw[e];exact trimV _
  ·rw[h.out q hm];exact zil q
def gmap (δ:Nat->Ty) (Γ:Env):Env:=λc=>(Γ c).map λs=>(usub δ s.1,s.2)
def Tkn (L:Nat) (s:Sta) (sc:Sch) (s':Sta) (δ:Nat->Ty) (τ:Ty):Prop:=∃qs,NewS L s qs s'/\qs.length=sc.2.length/\δ=tU/\τ=putT sc.2 (qs.map tU) sc.1
def Fnd:Ex->Nat->Sta->Env->Sta->(Nat->Ty)->Ty->Prop
 | .nil,_,_,_,_,_,_=>False
 | .node t _ x a b,L,s,Γ,s',δ,τ=>
  (t=0/\∃sc,Γ x.c=some sc/\Tkn L s sc s' δ τ)\/
  (t=1/\Tkn L s (conS x.c) s' δ τ)\/
  (t=2/\s'=s/\δ=tU/\τ=if x.c=84\/x.c=70 then tB else tI)\/
  (t=3/\∃q s1 τb,New L s q s1/\Fnd a L s1 (zap Γ x.c (tU q,[])) s' δ τb/\τ=tF (δ q) τb)\/
  (t=4/\∃s1 δ1 τ1 s2 δ2 vs qs δ3,Fnd a (L+1) s Γ s1 δ1 τ1/\Stl L s1 τ1 s2 δ2 vs qs/\Fnd b L s2 (zap (gmap δ2 (gmap δ1 Γ)) x.c (usub δ2 τ1,vs)) s' δ3 τ/\δ=λq=>usub δ3 (usub δ2 (δ1 q)))\/
  (t=5/\∃s1 δ1 τ1 s2 δ2 τ2 q s3 δ3 S,Fnd a L s Γ s1 δ1 τ1/\Fnd b L s1 (gmap δ1 Γ) s2 δ2 τ2/\New L s2 q s3/\Un s3 (usub δ2 τ1) (tF τ2 (tU q)) s' δ3 S/\τ=δ3 q/\δ=λq=>usub δ3 (usub δ2 (δ1 q)))
structure SchU (L:Nat) (s:Sta) (sc:Sch):Prop where
 un:∀q,inU q sc.1->q∈s.A/\s.lev q<=L
 own:∀o,inT o sc.1=true->o∈sc.2
 tr:Trim sc.1
def EnvU (L:Nat) (s:Sta) (Γ:Env):Prop:=∀c sc,Γ c=some sc->SchU L s sc
theorem SchU.step {L:Nat} {s s':Sta} {δ:Nat->Ty} {sc:Sch} (h:SchU L s sc) (k:Stp L s s' δ):SchU L s' (usub δ sc.1,sc.2):=by
 refine⟨λq hq=>?_,λo ho=>?_,?_⟩
 ·obtain⟨p,h1,h2⟩:=zak.1 hq
  have a:=h.un p h1;have b:=k.D p a.1 q h2;exact⟨b.1,by omega⟩
 ·exact h.own o (inT_usub ho λq hq=>k.pl q (h.un q hq).1 (h.un q hq).2)
 ·exact h.tr.usub λq hq=>k.tr q (h.un q hq).1
theorem EnvU.step {L:Nat} {s s':Sta} {δ:Nat->Ty} {Γ:Env} (h:EnvU L s Γ) (k:Stp L s s' δ):EnvU L s' (gmap δ Γ):=by
 intro c sc hc;unfold gmap at hc
 cases hΓ:Γ c with
 |none=>rw[hΓ] at hc;cases hc
 |some sc'=>
  rw[hΓ] at hc
  cases hc
  exact(h c sc' hΓ).step k
theorem EnvU.set {L:Nat} {s:Sta} {Γ:Env} {c:Nat} {sc:Sch} (h:EnvU L s Γ) (k:SchU L s sc):EnvU L s (zap Γ c sc):=by
 intro d sc' hd;unfold zap at hd;split at hd
 ·cases hd;exact k
 ·exact h d sc' hd
theorem EnvU.up {L:Nat} {s:Sta} {Γ:Env} (h:EnvU L s Γ):EnvU (L+1) s Γ:=λc sc hc=>⟨λq hq=>⟨((h c sc hc).un q hq).1,by have:=((h c sc hc).un q hq).2;omega⟩,(h c sc hc).own,(h c sc hc).tr⟩
theorem EnvU.more {L:Nat} {s s':Sta} {Γ:Env} (h:EnvU L s Γ) (k:∀p∈s.A,p∈s'.A/\s'.lev p=s.lev p):EnvU L s' Γ:=λc sc hc=>
 ⟨λq hq=>by have a:=(h c sc hc).un q hq;have b:=k q a.1;exact⟨b.1,by omega⟩,(h c sc hc).own,(h c sc hc).tr⟩
theorem zop (L:Nat) (s:Sta) (c:Nat):SchU L s (conS c):=⟨λq hq=>absurd hq ((zfm c).1.shut.1 q),zwy c,(zfm c).1.shut.2⟩
structure TyU (L:Nat) (s:Sta) (τ:Ty):Prop where
 un:∀q,inU q τ->q∈s.A/\s.lev q<=L
 pl:zbc τ
 tr:Trim τ
theorem TyU.step {L:Nat} {s s':Sta} {δ:Nat->Ty} {τ:Ty} (h:TyU L s τ) (k:Stp L s s' δ):TyU L s' (usub δ τ):=by
 refine⟨λq hq=>?_,zet h.pl λq hq=>k.pl q (h.un q hq).1 (h.un q hq).2,h.tr.usub λq hq=>k.tr q (h.un q hq).1⟩;obtain⟨p,h1,h2⟩:=zak.1 hq;have a:=h.un p h1;have b:=k.D p a.1 q h2;exact⟨b.1,by omega⟩
theorem zvt {own qs:List Nat} {o:Nat} {x:Ty} (h:look (own.zip (qs.map tU)) o=some x):∃q∈qs,x=tU q:=by
 have:=zpy h;obtain⟨q,hq,rfl⟩:=z1z.1 this;exact⟨q,hq,rfl⟩
theorem Tkn.is {L:Nat} {s s':Sta} {sc:Sch} {δ:Nat->Ty} {τ:Ty} (h:Tkn L s sc s' δ τ) (hs:SchU L s sc):Stp L s s' δ/\TyU L s' τ:=by
 obtain⟨qs,h1,h2,rfl,rfl⟩:=h;obtain⟨i1,i2,i3,i4,i5,i6⟩:=h1.is
 have hφ:∀o,inT o sc.1=true->∃q∈qs,(look (sc.2.zip (qs.map tU)) o).getD (tV o)=tU q:=by
  intro o ho;obtain⟨x,hx⟩:=zcr (v:=sc.2) (gs:=qs.map tU) (by simpa using h2) (hs.own o ho);obtain⟨q,hq,rfl⟩:=zvt hx;exact⟨q,hq,by rw[hx];rfl⟩
 refine⟨h1.sp,λq hq=>?_,?_,?_⟩
 ·rw[zcd _ _ _ hs.tr] at hq
  rcases zpk hq with ⟨p,h3,h4⟩|⟨o,h3,h4⟩
  ·simp at h4;subst h4
   have a:=hs.un p h3;have b:=i3 p a.1;exact⟨b.1,by omega⟩
  ·obtain⟨q',hq',e⟩:=hφ o h3
   rw[e] at h4;simp at h4;subst h4;exact⟨(i2 q' hq').2.1,Nat.le_of_eq (i2 q' hq').2.2⟩
 ·rw[zcd _ _ _ hs.tr]
  refine plain_msub (λq _=>zel q) λo ho=>?_
  obtain⟨q',hq',e⟩:=hφ o ho;rw[e];exact zel q'
 ·rw[zcd _ _ _ hs.tr]
  refine trim_msub hs.tr (λq _=>zil q) λo ho=>?_
  obtain⟨q',hq',e⟩:=hφ o ho;rw[e];exact zil q'
theorem Stl.sch {L:Nat} {s s':Sta} {t:Ty} {δ:Nat->Ty} {vs qs:List Nat} (h:Stl L s t s' δ vs qs) (ht:TyU (L+1) s t):SchU L s' (usub δ t,vs):=by
 refine⟨λq hq=>?_,λo ho=>?_,ht.tr.usub λq hq=>(h.sp).tr q (ht.un q hq).1⟩
 ·obtain⟨p,h1,h2⟩:=zak.1 hq
  by_cases hm:p∈qs
  ·obtain⟨i,_,e⟩:=h.var hm
   rw[e] at h2;simp at h2
  ·rw[h.out p hm] at h2
   simp at h2;subst h2;have a:=ht.un p h1;refine⟨(h.mem p).2 ⟨a.1,hm⟩,?_⟩;rw[h.lev];by_cases e:L<s.lev p
   ·exact absurd ((h.all p).2 ⟨a.1,h1,e⟩) hm
   ·omega
 ·have key:∀r:Ty,zbc r->inT o (usub δ r)=true->∃q,inU q r/\inT o (δ q)=true:=by
   intro r
   induction r with
   |nil=>intro _ h;simp[usub,inT] at h
   |node g p u a b iha ihb=>
    intro hp h;by_cases hg:g=6
    ·simp only[usub,if_pos hg] at h;exact⟨p,.inl ⟨hg,rfl⟩,h⟩
    ·simp only[usub,if_neg hg,inT,Bool.or_eq_true,Bool.and_eq_true,beq_iff_eq] at h
     rcases h with (⟨h,_⟩|h)|h
     ·exact absurd h hp.1
     ·obtain⟨q,h1,h2⟩:=iha hp.2.1 h;exact⟨q,.inr ⟨hg,.inl h1⟩,h2⟩
     ·obtain⟨q,h1,h2⟩:=ihb hp.2.2 h;exact⟨q,.inr ⟨hg,.inr h1⟩,h2⟩
  obtain⟨q,h1,h2⟩:=key t ht.pl ho;by_cases hm:q∈qs
  ·obtain⟨i,hi,e⟩:=h.var hm
   rw[e] at h2;simp[inT] at h2;show o∈vs;rw[h.vsE];refine z1z.2 ⟨i,List.mem_range.2 (z1b.1 hi).1,h2⟩
  ·rw[h.out q hm] at h2;simp[inT] at h2
theorem zat:∀(e:Ex) (L:Nat) (s:Sta) (Γ:Env) (s':Sta) (δ:Nat->Ty) (τ:Ty),Fnd e L s Γ s' δ τ->EnvU L s Γ->Stp L s s' δ/\TyU L s' τ:=by
 intro e
 induction e with
 |nil=>intro L s Γ s' δ τ h;exact h.elim
 |node t o x a b iha ihb=>
  intro L s Γ s' δ τ h hΓ;rcases h with ⟨_,sc,h1,h2⟩|⟨_,h2⟩|⟨_,rfl,rfl,rfl⟩|⟨_,q,s1,τb,h1,h2,rfl⟩|⟨_,s1,δ1,τ1,s2,δ2,vs,qs,δ3,h1,h2,h3,rfl⟩|⟨_,s1,δ1,τ1,s2,δ2,τ2,q,s3,δ3,S,h1,h2,h3,h4,rfl,rfl⟩
  ·exact h2.is (hΓ _ _ h1)
  ·exact h2.is (zop L s x.c)
  ·refine⟨Stp.refl L s',?_⟩
   split
   ·exact⟨λq hq=>by simp at hq,by simp[zbc],by simp[Trim]⟩
   ·exact⟨λq hq=>by simp at hq,by simp[zbc],by simp[Trim]⟩
  ·have qin:q∈s1.A:=by rw[h1.A];exact z1k
   have ql:s1.lev q=L:=by rw[h1.lev,if_pos rfl]
   have e1:EnvU L s1 Γ:=hΓ.more λp hp=>⟨by rw[h1.A];exact z1j _ hp,by rw[h1.lev,if_neg (h1.ne hp)]⟩
   have sq:SchU L s1 (tU q,[]):=⟨λp hp=>by simp at hp;subst hp;exact⟨qin,Nat.le_of_eq ql⟩,λo ho=>by simp[inT] at ho,zil q⟩
   obtain⟨i1,i2⟩:=iha _ _ _ _ _ _ h2 (e1.set sq);have i0:=h1.sp.trans i1;refine⟨i0,λp hp=>?_,?_,?_⟩
   ·rcases(inU_F p _ _).1 hp with hp|hp
    ·have:=i1.D q qin p hp;exact⟨this.1,by omega⟩
    ·exact i2.un p hp
   ·exact zxn (i1.pl q qin (Nat.le_of_eq ql)) i2.pl
   ·exact trimF (i1.tr q qin) i2.tr
  ·obtain⟨i1,i2⟩:=iha _ _ _ _ _ _ h1 hΓ.up
   have k1:=i1.down;have k2:=h2.sp;have e2:=(hΓ.step k1).step k2;obtain⟨j1,j2⟩:=ihb _ _ _ _ _ _ h3 (e2.set (h2.sch i2));have:=(k1.trans k2).trans j1;exact⟨this,j2⟩
  ·obtain⟨i1,i2⟩:=iha _ _ _ _ _ _ h1 hΓ
   obtain⟨j1,j2⟩:=ihb _ _ _ _ _ _ h2 (hΓ.step i1);have qin:q∈s3.A:=by rw[h3.A];exact z1k
   have ql:s3.lev q=L:=by rw[h3.lev,if_pos rfl]
   have t1:=(i2.step j1)
   have p1:=zxn j2.pl (zel q);have k4:=h4.sp (L:=L) t1.pl p1;have:=(((i1.trans j1).trans h3.sp).trans k4)
   have eq:(λp=>usub δ3 (usub tU (usub δ2 (δ1 p))))=λp=>usub δ3 (usub δ2 (δ1 p)):=by
    funext p;rw[zam δ3 tU];rfl
   rw[eq] at this;refine⟨this,λp hp=>?_,k4.pl q qin (Nat.le_of_eq ql),k4.tr q qin⟩;have:=k4.D q qin p hp;exact⟨this.1,by omega⟩
def Mt (θ:Nat->Ty) (Γ:Env) (E:SEnv):Prop:=∀c S,E c=some S->∃sc,Γ c=some sc/\∀ty,S ty->∃gs:List Ty,gs.length=sc.2.length/\ty=msub θ (λo=>(look (sc.2.zip gs) o).getD (tV o)) sc.1
theorem Mt.step {L:Nat} {s s':Sta} {δ θ θ':Nat->Ty} {Γ:Env} {E:SEnv} (h:Mt θ Γ E) (hΓ:EnvU L s Γ) (k:Stp L s s' δ) (hθ:∀q∈s.A,s.lev q<=L->usub θ' (δ q)=θ q):Mt θ' (gmap δ Γ) E:=by
 intro c S hc;obtain⟨sc,h1,h2⟩:=h c S hc;refine⟨(usub δ sc.1,sc.2),by unfold gmap;rw[h1];rfl,λty hty=>?_⟩;obtain⟨gs,hg,rfl⟩:=h2 ty hty;have u:=hΓ c sc h1;refine⟨gs,hg,?_⟩;show _=msub θ' _ (usub δ sc.1);rw[zri _ _ _ _ λq hq=>k.pl q (u.un q hq).1 (u.un q hq).2];exact zdr (λq hq=>(hθ q (u.un q hq).1 (u.un q hq).2).symm) λ_ _=>rfl
theorem Mt.set {θ:Nat->Ty} {Γ:Env} {E:SEnv} {c:Nat} {sc:Sch} {S:Ty->Prop} (h:Mt θ Γ E) (k:∀ty,S ty->∃gs:List Ty,gs.length=sc.2.length/\ty=msub θ (λo=>(look (sc.2.zip gs) o).getD (tV o)) sc.1):Mt θ (zap Γ c sc) (sset E c S):=by
 intro d S' hd;unfold sset at hd;unfold zap;split at hd
 ·rename_i e
  cases hd
  exact⟨sc,if_pos e,k⟩
 ·rename_i e
  obtain⟨sc',h1,h2⟩:=h d S' hd;exact⟨sc',by rw[if_neg e];exact h1,h2⟩
theorem Mt.congr {L:Nat} {s:Sta} {θ θ':Nat->Ty} {Γ:Env} {E:SEnv} (h:Mt θ Γ E) (hΓ:EnvU L s Γ) (hθ:∀q∈s.A,θ' q=θ q):Mt θ' Γ E:=by
 intro c S hc;obtain⟨sc,h1,h2⟩:=h c S hc;refine⟨sc,h1,λty hty=>?_⟩;obtain⟨gs,hg,rfl⟩:=h2 ty hty;exact⟨gs,hg,zdr (λq hq=>(hθ q ((hΓ c sc h1).un q hq).1).symm) λ_ _=>rfl⟩
theorem look_qs {o:Nat} {x:Ty}:∀{own qs:List Nat} {gs:List Ty},qs.Nodup->qs.length=own.length->gs.length=own.length->look (own.zip (qs.map tU)) o=some x->∃q∈qs,x=tU q/\look (qs.zip gs) q=look (own.zip gs) o:=by
 intro own
 induction own with
 |nil=>intro qs gs _ _ _ h;simp[look] at h
 |cons p own ih=>
  intro qs gs hn h1 h2 h
  cases qs with
  |nil=>simp at h1
  |cons q qs=>
   cases gs with
   |nil=>simp at h2
   |cons g gs=>
    simp only[List.map_cons,List.zip_cons_cons,look] at h ⊢;by_cases hp:p=o
    ·rw[if_pos hp] at h ⊢
     cases h
     exact⟨q,z1k,rfl,if_pos rfl⟩
    ·rw[if_neg hp] at h ⊢
     obtain⟨q',hq',e,h'⟩:=ih (List.nodup_cons.1 hn).2 (by simpa using h1) (by simpa using h2) h;refine⟨q',z1j _ hq',e,?_⟩;rw[if_neg (show ¬q=q' by rintro rfl;exact(List.nodup_cons.1 hn).1 hq')];exact h'
theorem Tkn.most {L:Nat} {s s':Sta} {sc:Sch} {δ:Nat->Ty} {τ:Ty} (h:Tkn L s sc s' δ τ) (hs:SchU L s sc) (θ0:Nat->Ty) (gs:List Ty) (hg:gs.length=sc.2.length):
 ∃θ,(∀q∈s.A,s.lev q<=L->usub θ (δ q)=θ0 q)/\usub θ τ=msub θ0 (λo=>(look (sc.2.zip gs) o).getD (tV o)) sc.1:=by
 obtain⟨qs,h1,h2,rfl,rfl⟩:=h;obtain⟨i1,i2,i3,i4,i5,i6⟩:=h1.is;have hout:∀q∈s.A,look (qs.zip gs) q=none:=λq hq=>ziv λhm=>(i2 q hm).1 hq
 refine⟨λq=>(look (qs.zip gs) q).getD (θ0 q),λq hq _=>?_,?_⟩
 ·show (look (qs.zip gs) q).getD (θ0 q)=θ0 q
  rw[hout q hq];rfl
 ·rw[zcd _ _ _ hs.tr,zsi]
  refine zdr (λq hq=>?_) λo ho=>?_
  ·show (look (qs.zip gs) q).getD (θ0 q)=θ0 q
   rw[hout q (hs.un q hq).1];rfl
  ·obtain⟨x,hx⟩:=zcr (v:=sc.2) (gs:=qs.map tU) (by simpa using h2) (hs.own o ho)
   obtain⟨q,hq,rfl,e⟩:=look_qs i1 h2 hg hx;obtain⟨y,hy⟩:=zcr (v:=sc.2) (gs:=gs) hg (hs.own o ho);rw[hx,hy];show (look (qs.zip gs) q).getD (θ0 q)=y;rw[e,hy];rfl
theorem look_vs {f:Nat->Ty}:∀{vs qs:List Nat} {i q:Nat},vs.Nodup->vs.length=qs.length->qs[i]? =some q->∀v,vs[i]? =some v->look (vs.zip (qs.map f)) v=some (f q):=by
 intro vs
 induction vs with
 |nil=>intro qs i q _ _ _ v h;simp at h
 |cons p vs ih=>
  intro qs i q hn hl hq v hv
  cases qs with
  |nil=>simp at hl
  |cons r qs=>
   simp only[List.map_cons,List.zip_cons_cons,look]
   cases i with
   |zero=>simp at hq hv;subst hq;subst hv;exact if_pos rfl
   |succ i=>
    simp only[List.getElem?_cons_succ] at hq hv;rw[if_neg]
    ·exact ih (List.nodup_cons.1 hn).2 (by simpa using hl) hq v hv
    ·rintro rfl
     exact(List.nodup_cons.1 hn).1 (z1m hv)
def Most (e:Ex) (L:Nat) (s:Sta) (Γ:Env) (δ:Nat->Ty) (τ:Ty):Prop:=
 ∀(θ0:Nat->Ty) (E:SEnv) (t:Ty),Mt θ0 Γ E->HTy e E t->∃θ,(∀q∈s.A,s.lev q<=L->usub θ (δ q)=θ0 q)/\usub θ τ=t
theorem zef {L:Nat} {s s1:Sta} {q c:Nat} {Γ:Env} (h1:New L s q s1) (hΓ:EnvU L s Γ):EnvU L s1 (zap Γ c (tU q,[])):=by
 have qin:q∈s1.A:=by rw[h1.A];exact z1k
 have ql:s1.lev q=L:=by rw[h1.lev,if_pos rfl]
 have e1:EnvU L s1 Γ:=hΓ.more λp hp=>⟨by rw[h1.A];exact z1j _ hp,by rw[h1.lev,if_neg (h1.ne hp)]⟩
 exact e1.set ⟨λp hp=>by simp at hp;subst hp;exact⟨qin,Nat.le_of_eq ql⟩,λo ho=>by simp[inT] at ho,zil q⟩
theorem zyb {L:Nat} {s s1:Sta} {q c:Nat} {Γ:Env} {θ0:Nat->Ty} {E:SEnv} (h1:New L s q s1) (hΓ:EnvU L s Γ) (hm:Mt θ0 Γ E) (u:Ty):
 Mt (λp=>if p=q then u else θ0 p) (zap Γ c (tU q,[])) (sset E c (·=u)):=by
 have hne:∀p∈s.A,p≠q:=λp hp e=>h1.fresh (e ▸ hp)
 refine(hm.congr hΓ λp hp=>if_neg (hne p hp)).set ?_;rintro ty rfl;exact⟨[],rfl,(if_pos rfl).symm⟩
theorem zcx {a:Ex} {L:Nat} {s s1 s2:Sta} {Γ:Env} {δ1 δ2:Nat->Ty} {τ1:Ty} {vs qs:List Nat} {c:Nat} (h1:Fnd a (L+1) s Γ s1 δ1 τ1) (h2:Stl L s1 τ1 s2 δ2 vs qs) (hΓ:EnvU L s Γ):
 EnvU L s2 (zap (gmap δ2 (gmap δ1 Γ)) c (usub δ2 τ1,vs)):=by
 obtain⟨i1,i2⟩:=zat _ _ _ _ _ _ _ h1 hΓ.up;exact((hΓ.step i1.down).step h2.sp).set (h2.sch i2)
theorem let_mt {a:Ex} {L:Nat} {s s1 s2:Sta} {Γ:Env} {δ1 δ2:Nat->Ty} {τ1:Ty} {vs qs:List Nat} {c:Nat} {θ0:Nat->Ty} {E:SEnv} {S:Ty->Prop} {s0:Ty}
 (h1:Fnd a (L+1) s Γ s1 δ1 τ1) (h2:Stl L s1 τ1 s2 δ2 vs qs) (hΓ:EnvU L s Γ) (H:Most a (L+1) s Γ δ1 τ1) (hm:Mt θ0 Γ E) (hs0:S s0) (hS:∀t,S t->HTy a E t):
 ∃θ1,(∀q∈s.A,s.lev q<=L+1->usub θ1 (δ1 q)=θ0 q)/\Mt θ1 (zap (gmap δ2 (gmap δ1 Γ)) c (usub δ2 τ1,vs)) (sset E c S):=by
 obtain⟨i1,i2⟩:=zat _ _ _ _ _ _ _ h1 hΓ.up;have k1:=i1.down;have k2:=h2.sp;obtain⟨θ1,a1,a2⟩:=H θ0 E s0 hm (hS s0 hs0);have hlow:∀q∈s1.A,s1.lev q<=L->q∉qs:=λq _ hl hq=>by have:=((h2.all q).1 hq).2.2;omega
 have m1:=hm.step hΓ k1 λq hq hl=>a1 q hq (by omega)
 have m2:=m1.step (hΓ.step k1) k2 λq hq hl=>by rw[h2.out q (hlow q hq hl)];rfl
 have hvl:vs.length=qs.length:=by rw[h2.vsE];simp
 refine⟨θ1,a1,m2.set λty hty=>?_⟩;obtain⟨θs,b1,b2⟩:=H θ0 E ty hm (hS ty hty);refine⟨qs.map θs,by simp[hvl],?_⟩;show ty=msub θ1 _ (usub δ2 τ1);rw[ziy _ _ _ _ i2.pl,<-b2];refine zao λq hq=>?_
 have hqA:=i2.un q hq;by_cases hm:q∈qs
 ·obtain⟨i,hi,e⟩:=h2.var hm
  have hvi:vs[i]? =some (zac (s1.tk+i)):=by
   rw[h2.vsE,z1n,List.getElem?_range (z1b.1 hi).1];rfl
  rw[e];show θs q=(look (vs.zip (qs.map θs)) (zac (s1.tk+i))).getD _;rw[look_vs (f:=θs) h2.vnd hvl hi _ hvi];rfl
 ·rw[h2.out q hm]
  show θs q=θ1 q
  have hl:s1.lev q<=L:=by
   by_cases e:L<s1.lev q
   ·exact absurd ((h2.all q).2 ⟨hqA.1,hq,e⟩) hm
   ·omega
  obtain⟨q0,c1,c2,c3⟩:=i1.R q hqA.1 (by omega);have d1:=a1 q0 c1 (by omega);have d2:=b1 q0 c1 (by omega);exact zxe (d2.trans d1.symm) q c3
theorem call_mt {a b:Ex} {L:Nat} {s s1 s2 s3:Sta} {Γ:Env} {δ1 δ2:Nat->Ty} {τ1 τ2:Ty} {q:Nat} {θ0:Nat->Ty} {E:SEnv} {u t:Ty}
 (h1:Fnd a L s Γ s1 δ1 τ1) (h2:Fnd b L s1 (gmap δ1 Γ) s2 δ2 τ2) (h3:New L s2 q s3) (hΓ:EnvU L s Γ) (H1:Most a L s Γ δ1 τ1) (H2:Most b L s1 (gmap δ1 Γ) δ2 τ2) (hm:Mt θ0 Γ E) (t1:HTy a E (tF u t)) (t2:HTy b E u):
 ∃θ:Nat->Ty,θ q=t/\usub θ (usub δ2 τ1)=tF u t/\usub θ (tF τ2 (tU q))=tF u t/\∀p∈s.A,s.lev p<=L->usub θ (usub δ2 (δ1 p))=θ0 p:=by
 obtain⟨i1,i2⟩:=zat _ _ _ _ _ _ _ h1 hΓ;obtain⟨j1,j2⟩:=zat _ _ _ _ _ _ _ h2 (hΓ.step i1);obtain⟨θ1,a1,a2⟩:=H1 θ0 E _ hm t1;obtain⟨θ2,b1,b2⟩:=H2 θ1 E _ (hm.step hΓ i1 a1) t2;have hA:∀p∈s2.A,p≠q:=λp hp e=>h3.fresh (e ▸ hp)
 have c0:∀r:Ty,(∀p,inU p r->p∈s2.A)->usub (λp=>if p=q then t else θ2 p) r=usub θ2 r:=λr hr=>zao λp hp=>if_neg (hA p (hr p hp))
 refine⟨λp=>if p=q then t else θ2 p,if_pos rfl,?_,?_,?_⟩
 ·rw[c0 _ λp hp=>((i2.step j1).un p hp).1,zam,<-a2]
  exact zao λp hp=>b1 p (i2.un p hp).1 (i2.un p hp).2
 ·rw[usub_F,c0 _ λp hp=>(j2.un p hp).1,b2,usub_U,if_pos rfl]
 ·intro p hp hl
  have hp1:=i1.D p hp;rw[c0 _ λr hr=>by obtain⟨r1,h5,h6⟩:=zak.1 hr;exact(j1.D r1 (hp1 r1 h5).1 r h6).1,zam,<-a1 p hp hl];exact zao λr hr=>b1 r (hp1 r hr).1 (by have:=(hp1 r hr).2;omega)
theorem zcv:∀(e:Ex) (L:Nat) (s:Sta) (Γ:Env) (s':Sta) (δ:Nat->Ty) (τ:Ty),Fnd e L s Γ s' δ τ->EnvU L s Γ->Most e L s Γ δ τ:=by
 intro e
 induction e with
 |nil=>intro L s Γ s' δ τ h;exact h.elim
 |node k o x a b iha ihb=>
  intro L s Γ s' δ τ h hΓ θ0 E t hm ht;rcases h with ⟨rfl,sc,h1,h2⟩|⟨rfl,h2⟩|⟨rfl,rfl,rfl,rfl⟩|⟨rfl,q,s1,τb,h1,h2,rfl⟩|⟨rfl,s1,δ1,τ1,s2,δ2,vs,qs,δ3,h1,h2,h3,rfl⟩|⟨rfl,s1,δ1,τ1,s2,δ2,τ2,q,s3,δ3,S,h1,h2,h3,h4,rfl,rfl⟩
  ·rcases ht with ⟨_,S,h3,h4⟩|⟨e,_⟩|⟨e,_⟩|⟨e,_⟩|⟨e,_⟩|⟨e,_⟩<;>first|(exact absurd e (by decide))|skip
   obtain⟨sc',h5,h6⟩:=hm _ _ h3;rw[h1] at h5
   cases h5
   obtain⟨gs,hg,rfl⟩:=h6 t h4;exact h2.most (hΓ _ _ h1) θ0 gs hg
  ·rcases ht with ⟨e,_⟩|⟨_,gs,hg,rfl⟩|⟨e,_⟩|⟨e,_⟩|⟨e,_⟩|⟨e,_⟩<;>first|(exact absurd e (by decide))|skip
   have u:=zop L s x.c;obtain⟨θ,i1,i2⟩:=h2.most u θ0 gs hg;refine⟨θ,i1,i2.trans ?_⟩;rw[zcd _ _ _ u.tr];exact zdr (λq hq=>absurd hq ((zfm x.c).1.shut.1 q)) λ_ _=>rfl
  ·rcases ht with ⟨e,_⟩|⟨e,_⟩|⟨_,rfl⟩|⟨e,_⟩|⟨e,_⟩|⟨e,_⟩<;>first|(exact absurd e (by decide))|skip
   refine⟨θ0,λq _ _=>rfl,?_⟩;split<;>rfl
  ·rcases ht with ⟨e,_⟩|⟨e,_⟩|⟨e,_⟩|⟨_,u,r,rfl,h3⟩|⟨e,_⟩|⟨e,_⟩<;>first|(exact absurd e (by decide))|skip
   have qin:q∈s1.A:=by rw[h1.A];exact z1k
   have ql:s1.lev q=L:=by rw[h1.lev,if_pos rfl]
   have hne:∀p∈s.A,p≠q:=λp hp e=>h1.fresh (e ▸ hp)
   obtain⟨θ,i1,i2⟩:=iha _ _ _ _ _ _ h2 (zef h1 hΓ) _ _ _ (zyb h1 hΓ hm u) h3;refine⟨θ,λp hp hl=>?_,?_⟩
   ·have:=i1 p (by rw[h1.A];exact z1j _ hp) (by rw[h1.lev,if_neg (hne p hp)];exact hl)
    rw[this];exact if_neg (hne p hp)
   ·have:=i1 q qin (Nat.le_of_eq ql)
    rw[if_pos rfl] at this;rw[usub_F,this,i2]
  ·rcases ht with ⟨e,_⟩|⟨e,_⟩|⟨e,_⟩|⟨e,_⟩|⟨_,S,s0,hs0,hS,h4⟩|⟨e,_⟩<;>first|(exact absurd e (by decide))|skip
   obtain⟨i1,i2⟩:=zat _ _ _ _ _ _ _ h1 hΓ.up;have k1:=i1.down;have hlow:∀q∈s1.A,s1.lev q<=L->q∉qs:=λq _ hl hq=>by have:=((h2.all q).1 hq).2.2;omega
   obtain⟨θ1,a1,m3⟩:=let_mt (c:=x.c) h1 h2 hΓ (iha _ _ _ _ _ _ h1 hΓ.up) hm hs0 hS;obtain⟨θ3,c1,c2⟩:=ihb _ _ _ _ _ _ h3 (zcx h1 h2 hΓ) θ1 _ _ m3 h4;refine⟨θ3,λq hq hl=>?_,c2⟩;show usub θ3 (usub δ3 (usub δ2 (δ1 q)))=θ0 q;have hd:∀p,inU p (δ1 q)->p∈s1.A/\s1.lev p<=L:=λp hp=>by have:=k1.D q hq p hp;exact⟨this.1,by omega⟩
   rw[zdu (k1.tr q hq) (δ:=δ2) λp hp=>h2.out p (hlow p (hd p hp).1 (hd p hp).2),zam,<-a1 q hq (by omega)];refine zao λp hp=>c1 p ((h2.mem p).2 ⟨(hd p hp).1,hlow p (hd p hp).1 (hd p hp).2⟩) (by rw[h2.lev];exact(hd p hp).2)
  ·rcases ht with ⟨e,_⟩|⟨e,_⟩|⟨e,_⟩|⟨e,_⟩|⟨e,_⟩|⟨_,u,t1,t2⟩<;>first|(exact absurd e (by decide))|skip
   obtain⟨i1,i2⟩:=zat _ _ _ _ _ _ _ h1 hΓ;obtain⟨θ,e1,e2,e3,e4⟩:=call_mt h1 h2 h3 hΓ (iha _ _ _ _ _ _ h1 hΓ) (ihb _ _ _ _ _ _ h2 (hΓ.step i1)) hm t1 t2;have d:=h4.mgu θ (e2.trans e3.symm);refine⟨θ,λp hp hl=>?_,(d q).trans e1⟩;show usub θ (usub δ3 (usub δ2 (δ1 p)))=θ0 p;rw[zam θ δ3,zao λr _=>d r];exact e4 p hp hl
def Fl:Ex->Nat->Sta->Env->Prop
 | .nil,_,_,_=>False
 | .node t _ x a b,L,s,Γ=>
  (t=3/\∃q s1,New L s q s1/\Fl a L s1 (zap Γ x.c (tU q,[])))\/
  (t=4/\(Fl a (L+1) s Γ\/∃s1 δ1 τ1 s2 δ2 vs qs,Fnd a (L+1) s Γ s1 δ1 τ1/\Stl L s1 τ1 s2 δ2 vs qs/\Fl b L s2 (zap (gmap δ2 (gmap δ1 Γ)) x.c (usub δ2 τ1,vs))))\/
  (t=5/\(Fl a L s Γ\/(∃s1 δ1 τ1,Fnd a L s Γ s1 δ1 τ1/\Fl b L s1 (gmap δ1 Γ))\/
   ∃s1 δ1 τ1 s2 δ2 τ2 q s3,Fnd a L s Γ s1 δ1 τ1/\Fnd b L s1 (gmap δ1 Γ) s2 δ2 τ2/\New L s2 q s3/\∀θ:Nat->Ty,usub θ (usub δ2 τ1)≠usub θ (tF τ2 (tU q))))
theorem fl_none:∀(e:Ex) (L:Nat) (s:Sta) (Γ:Env),Fl e L s Γ->EnvU L s Γ->∀(θ0:Nat->Ty) (E:SEnv) (t:Ty),Mt θ0 Γ E->¬HTy e E t:=by
 intro e
 induction e with
 |nil=>intro L s Γ h;exact h.elim
 |node k o x a b iha ihb=>
  intro L s Γ h hΓ θ0 E t hm ht;rcases h with ⟨rfl,q,s1,h1,h2⟩|⟨rfl,h⟩|⟨rfl,h⟩
  ·rcases ht with ⟨e,_⟩|⟨e,_⟩|⟨e,_⟩|⟨_,u,r,rfl,h3⟩|⟨e,_⟩|⟨e,_⟩<;>first|(exact absurd e (by decide))|skip
   exact iha _ _ _ h2 (zef h1 hΓ) _ _ _ (zyb h1 hΓ hm u) h3
  ·rcases ht with ⟨e,_⟩|⟨e,_⟩|⟨e,_⟩|⟨e,_⟩|⟨_,S,s0,hs0,hS,h4⟩|⟨e,_⟩<;>first|(exact absurd e (by decide))|skip
   rcases h with h|⟨s1,δ1,τ1,s2,δ2,vs,qs,h1,h2,h3⟩
   ·exact iha _ _ _ h hΓ.up _ _ _ hm (hS s0 hs0)
   ·obtain⟨θ1,a1,m3⟩:=let_mt (c:=x.c) h1 h2 hΓ (zcv _ _ _ _ _ _ _ h1 hΓ.up) hm hs0 hS
    exact ihb _ _ _ h3 (zcx h1 h2 hΓ) _ _ _ m3 h4
  ·rcases ht with ⟨e,_⟩|⟨e,_⟩|⟨e,_⟩|⟨e,_⟩|⟨e,_⟩|⟨_,u,t1,t2⟩<;>first|(exact absurd e (by decide))|skip
   rcases h with h|⟨s1,δ1,τ1,h1,h2⟩|⟨s1,δ1,τ1,s2,δ2,τ2,q,s3,h1,h2,h3,h4⟩
   ·exact iha _ _ _ h hΓ _ _ _ hm t1
   ·obtain⟨i1,i2⟩:=zat _ _ _ _ _ _ _ h1 hΓ
    obtain⟨θ1,a1,a2⟩:=zcv _ _ _ _ _ _ _ h1 hΓ θ0 E _ hm t1;exact ihb _ _ _ h2 (hΓ.step i1) _ _ _ (hm.step hΓ i1 a1) t2
   ·obtain⟨i1,i2⟩:=zat _ _ _ _ _ _ _ h1 hΓ
    obtain⟨θ,e1,e2,e3,e4⟩:=call_mt h1 h2 h3 hΓ (zcv _ _ _ _ _ _ _ h1 hΓ) (zcv _ _ _ _ _ _ _ h2 (hΓ.step i1)) hm t1 t2;exact h4 θ (e2.trans e3.symm)
section
variable {Γ:Env} {S qs vs:List Nat} {g L q c m a b n A B:Nat} {δ1 δ2 δ:Nat->Ty} {sc:Sch} {s s1 s2 s':Sta} {t one other τ τ2:Ty}
theorem zhc:∀{l m:List Nat},l.Nodup->(∀x∈l,x∈m)->l.length<=m.length:=by
 intro l
 induction l with
 |nil=>intro m _ _;exact Nat.zero_le _
 |cons x l ih=>
  intro m hn hs;have hx:=hs x z1k;have hn':=List.nodup_cons.1 hn
  have:=ih (m:=m.erase x) hn'.2 λy hy=>by
   have hne:y≠x:=λe=>hn'.1 (e ▸ hy)
   exact(List.mem_erase_of_ne hne).2 (hs y (z1j _ hy))
  rw[List.length_erase_of_mem hx] at this;have:0<m.length:=List.length_pos_of_mem hx;simp only[List.length_cons];omega
theorem zyu {P Q:Nat->Bool}:∀{l:List Nat},(∀x∈l,P x=true->Q x=true)->l.countP P<=l.countP Q:=by
 intro l
 induction l with
 |nil=>intro _;simp
 |cons x l ih=>
  intro h;have:=ih λy hy=>h y (z1j _ hy)
  have hx:=h x z1k;simp only[List.countP_cons]
  cases hp:P x<;>cases hq:Q x<;>simp_all<;>omega
theorem zll {P Q:Nat->Bool} {z:Nat}:∀{l:List Nat},(∀x∈l,P x=true->Q x=true)->z∈l->Q z=true->P z=false->l.countP P+1<=l.countP Q:=by
 intro l
 induction l with
 |nil=>intro _ h;simp at h
 |cons x l ih=>
  intro h hz hq hp;have hl:l.countP P<=l.countP Q:=zyu λy hy=>h y (z1j _ hy)
  simp only[List.countP_cons];rcases List.mem_cons.1 hz with rfl|hz
  ·simp[hq,hp];omega
  ·have:=ih (λy hy=>h y (z1j _ hy)) hz hq hp
   have hx:=h x z1k
   cases hp:P x<;>cases hq:Q x<;>simp_all<;>omega
theorem zlw {P:Nat->Bool} {N l:List Nat} (hn:N.Nodup) (h:∀x∈N,x∈l/\P x=true):N.length<=l.countP P:=by
 rw[List.countP_eq_length_filter];exact zhc hn λx hx=>List.mem_filter.2 (h x hx)
theorem zln {A:List Nat} (hn:S.Nodup) (h:∀x∈S,x∈A):(A.filter λp=>!S.contains p).length+S.length<=A.length:=by
 have h1:S.length<=A.countP (λp=>S.contains p):=zlw hn λx hx=>⟨h x hx,by simpa using hx⟩
 have h2:(A.filter λp=>!S.contains p).length=A.countP (λp=>!S.contains p):=(List.countP_eq_length_filter).symm
 have h3:∀l:List Nat,l.countP (λp=>S.contains p)+l.countP (λp=>!S.contains p)=l.length:=by
  intro l
  induction l with
  |nil=>rfl
  |cons x l ih=>
   simp only[List.countP_cons,List.length_cons]
   cases hx:S.contains x<;>simp only[Bool.not_true,Bool.not_false,if_true,Bool.false_eq_true,if_false]<;>omega
 have:=h3 A;omega
structure Fra (g:Nat) (s s':Sta) (δ:Nat->Ty):Prop where
 inn:g∈s'.A
 lev:s'.lev g=s.lev g
 dl:δ g=tU g
 no:∀p∈s.A,p≠g->¬inU g (δ p)
theorem Fra.trans (h:Fra g s s1 δ1) (k:Fra g s1 s2 δ2) (hD:Stp L s s1 δ1):Fra g s s2 (λq=>usub δ2 (δ1 q)):=by
 refine⟨k.inn,k.lev.trans h.lev,?_,λp hp hne hi=>?_⟩
 ·show usub δ2 (δ1 g)=tU g
  rw[h.dl];exact k.dl
 ·obtain⟨p1,h1,h2⟩:=zak.1 hi
  by_cases e:p1=g
  ·subst e;exact h.no p hp hne h1
  ·exact k.no p1 (hD.D p hp p1 h1).1 e h2
theorem Fra.ty (h:Fra g s s' δ) (ht:∀q,inU q t->q∈s.A) (hn:¬inU g t):¬inU g (usub δ t):=by
 intro hi;obtain⟨p,h1,h2⟩:=zak.1 hi;exact h.no p (ht p h1) (λe=>hn (e ▸ h1)) h2
theorem Fra.refl (h:g∈s.A):Fra g s s tU:=⟨h,rfl,rfl,λp _ hne hi=>by simp at hi;exact hne hi⟩
theorem Fra.news (h:NewS L s qs s') (hg:g∈s.A):Fra g s s' tU:=by
 obtain⟨i1,i2,i3,_⟩:=h.is;exact⟨(i3 g hg).1,(i3 g hg).2,rfl,λp _ hne hi=>by simp at hi;exact hne hi⟩
theorem Fra.new (h:New L s q s') (hg:g∈s.A):Fra g s s' tU:=Fra.news (qs:=[q]) ⟨s',h,rfl⟩ hg
theorem Fra.stl (h:Stl L s t s' δ vs qs) (hg:g∈s.A) (hn:¬inU g t):Fra g s s' δ:=by
 have hm:g∉qs:=λhm=>hn ((h.all g).1 hm).2.1
 refine⟨(h.mem g).2 ⟨hg,hm⟩,h.lev g,h.out g hm,λp _ hne hi=>?_⟩;by_cases hp:p∈qs
 ·obtain⟨i,_,e⟩:=h.var hp
  rw[e] at hi;simp at hi
 ·rw[h.out p hp] at hi
  simp at hi;exact hne hi
theorem Fra.un (h:Un s one other s' δ S) (hg:g∈s.A) (h1:¬inU g one) (h2:¬inU g other):Fra g s s' δ:=by
 have hm:g∉S:=λhm=>by rcases(h.sub g hm).2.2 with h'|h';exact h1 h';exact h2 h'
 refine⟨(h.mem g).2 ⟨hg,hm⟩,h.fr g h1 h2,h.out g hm,λp _ hne hi=>?_⟩;by_cases hp:p∈S
 ·rcases h.img p hp g hi with h'|h'
  ·exact h1 h'
  ·exact h2 h'
 ·rw[h.out p hp] at hi
  simp at hi;exact hne hi
def noG (g:Nat) (Γ:Env):Prop:=∀c sc,Γ c=some sc->¬inU g sc.1
theorem noG.step (h:noG g Γ) (hΓ:EnvU L s Γ) (k:Fra g s s' δ):noG g (gmap δ Γ):=by
 intro c sc hc;unfold gmap at hc
 cases hg:Γ c with
 |none=>rw[hg] at hc;cases hc
 |some sc'=>
  rw[hg] at hc;cases hc;exact k.ty (λq hq=>((hΓ c sc' hg).un q hq).1) (h c sc' hg)
theorem noG.set (h:noG g Γ) (k:¬inU g sc.1):noG g (zap Γ c sc):=by
 intro d sc' hd;unfold zap at hd;split at hd
 ·cases hd;exact k
 ·exact h d sc' hd
theorem Tkn.frame (h:Tkn L s sc s' δ τ) (hs:SchU L s sc) (hg:g∈s.A) (hn:¬inU g sc.1):Fra g s s' δ/\¬inU g τ:=by
 obtain⟨qs,h1,h2,rfl,rfl⟩:=h;obtain⟨i1,i2,i3,_⟩:=h1.is;refine⟨Fra.news h1 hg,λhi=>?_⟩;rw[zcd _ _ _ hs.tr] at hi;rcases zpk hi with ⟨p,h3,h4⟩|⟨o,h3,h4⟩
 ·simp at h4;subst h4;exact hn h3
 ·obtain⟨x,hx⟩:=zcr (v:=sc.2) (gs:=qs.map tU) (by simpa using h2) (hs.own o h3)
  obtain⟨q,hq,rfl⟩:=zvt hx;rw[hx] at h4;simp at h4;subst h4;exact(i2 q hq).1 hg
theorem zio:∀(e:Ex) (L:Nat) (s:Sta) (Γ:Env) (s':Sta) (δ:Nat->Ty) (τ:Ty),Fnd e L s Γ s' δ τ->EnvU L s Γ->∀g∈s.A,noG g Γ->Fra g s s' δ/\¬inU g τ:=by
 intro e
 induction e with
 |nil=>intro L s Γ s' δ τ h;exact h.elim
 |node k o x a b iha ihb=>
  intro L s Γ s' δ τ h hΓ g hg hn;rcases h with ⟨rfl,sc,h1,h2⟩|⟨rfl,h2⟩|⟨rfl,rfl,rfl,rfl⟩|⟨rfl,q,s1,τb,h1,h2,rfl⟩|⟨rfl,s1,δ1,τ1,s2,δ2,vs,qs,δ3,h1,h2,h3,rfl⟩|⟨rfl,s1,δ1,τ1,s2,δ2,τ2,q,s3,δ3,S,h1,h2,h3,h4,rfl,rfl⟩
  ·exact h2.frame (hΓ _ _ h1) hg (hn _ _ h1)
  ·exact h2.frame (zop L s x.c) hg ((zfm x.c).1.shut.1 g)
  ·refine⟨Fra.refl hg,?_⟩
   split<;>simp
  ·have hne:q≠g:=λe=>h1.fresh (e ▸ hg)
   have f0:=Fra.new h1 hg;obtain⟨f1,f2⟩:=iha _ _ _ _ _ _ h2 (zef h1 hΓ) g f0.inn (hn.set (by simp;exact hne));have ft:=f0.trans f1 h1.sp;refine⟨ft,λhi=>?_⟩;rcases(inU_F g _ _).1 hi with hi|hi
   ·exact f1.no q (by rw[h1.A];exact z1k) hne hi
   ·exact f2 hi
  ·obtain⟨i1,i2⟩:=zat _ _ _ _ _ _ _ h1 hΓ.up
   obtain⟨f1,f2⟩:=iha _ _ _ _ _ _ h1 hΓ.up g hg hn;have f3:=Fra.stl h2 f1.inn f2;have n2:noG g (zap (gmap δ2 (gmap δ1 Γ)) x.c (usub δ2 τ1,vs)):=((hn.step hΓ f1).step (hΓ.step i1.down) f3).set (f3.ty (λq hq=>(i2.un q hq).1) f2);obtain⟨f4,f5⟩:=ihb _ _ _ _ _ _ h3 (zcx h1 h2 hΓ) g f3.inn n2;exact⟨(f1.trans f3 i1).trans f4 (i1.down.trans h2.sp),f5⟩
  ·obtain⟨i1,i2⟩:=zat _ _ _ _ _ _ _ h1 hΓ
   obtain⟨j1,j2⟩:=zat _ _ _ _ _ _ _ h2 (hΓ.step i1);obtain⟨f1,f2⟩:=iha _ _ _ _ _ _ h1 hΓ g hg hn;obtain⟨f3,f4⟩:=ihb _ _ _ _ _ _ h2 (hΓ.step i1) g f1.inn (hn.step hΓ f1);have f5:=Fra.new h3 f3.inn;have hne:q≠g:=λe=>h3.fresh (e ▸ f3.inn)
   have f6:=Fra.un h4 f5.inn (f3.ty (λq hq=>(i2.un q hq).1) f2) (by rw[inU_F,inU_U];rintro(h|h);exact f4 h;exact hne h);have:=((f1.trans f3 i1).trans f5 (i1.trans j1)).trans f6 ((i1.trans j1).trans h3.sp)
   have eq:(λp=>usub δ3 (usub tU (usub δ2 (δ1 p))))=λp=>usub δ3 (usub δ2 (δ1 p)):=by
    funext p;rw[zam δ3 tU];rfl
   rw[eq] at this;exact⟨this,f6.no q (by rw[h3.A];exact z1k) hne⟩
def hi (ℓ:Nat) (s:Sta):Nat:=s.A.countP λq=>decide (ℓ<=s.lev q)
def tot (s:Sta):Nat:=s.tk+s.A.length
def EnvC (m:Nat) (Γ:Env):Prop:=∀c sc,Γ c=some sc->sc.2.length<=m
theorem EnvC.set (h:EnvC m Γ) (k:sc.2.length<=m):EnvC m (zap Γ c sc):=by
 intro d sc' hd;unfold zap at hd;split at hd
 ·cases hd;exact k
 ·exact h d sc' hd
theorem EnvC.step (h:EnvC m Γ) (δ:Nat->Ty):EnvC m (gmap δ Γ):=by
 intro c sc hc;unfold gmap at hc
 cases hg:Γ c with
 |none=>rw[hg] at hc;cases hc
 |some sc'=>rw[hg] at hc;cases hc;exact h c sc' hg
theorem EnvC.mono {m':Nat} (h:EnvC m Γ) (hm:m<=m'):EnvC m' Γ:=λc sc hc=>z1c (h c sc hc) hm
theorem zlg (c:Nat):(conS c).2.length<=2:=by
 unfold conS
 repeat' split
 all_goals simp
theorem New.cnt (h:New L s q s') (hn:s.A.Nodup):s'.A.Nodup/\tot s'=tot s+1/\∀ℓ,hi ℓ s'<=hi ℓ s+1:=by
 refine⟨by rw[h.A];exact List.nodup_cons.2 ⟨h.fresh,hn⟩,by unfold tot;rw[h.A,h.tk];simp;omega,λℓ=>?_⟩;unfold hi;rw[h.A,List.countP_cons]
 have:s.A.countP (λp=>decide (ℓ<=s'.lev p))<=s.A.countP (λp=>decide (ℓ<=s.lev p)):=zyu λp hp hl=>by
  rw[h.lev,if_neg (h.ne hp)] at hl;exact hl
 split<;>omega
theorem NewS.cnt:∀{qs:List Nat} {s s':Sta},NewS L s qs s'->s.A.Nodup->s'.A.Nodup/\tot s'=tot s+qs.length/\∀ℓ,hi ℓ s'<=hi ℓ s+qs.length:=by
 intro qs
 induction qs with
 |nil=>intro s s' h hn;cases h;exact⟨hn,rfl,λ_=>z1d _⟩
 |cons q qs ih=>
  intro s s' h hn;obtain⟨s1,h1,h2⟩:=h;obtain⟨a1,a2,a3⟩:=h1.cnt hn;obtain⟨b1,b2,b3⟩:=ih h2 a1;exact⟨b1,by simp;omega,λℓ=>by have:=a3 ℓ;have:=b3 ℓ;simp;omega⟩
theorem Stl.cnt (h:Stl L s t s' δ vs qs) (hn:s.A.Nodup):s'.A.Nodup/\tot s'<=tot s/\∀ℓ,ℓ<=L->hi ℓ s'+qs.length<=hi ℓ s:=by
 have hs:∀x∈qs,x∈s.A:=λx hx=>((h.all x).1 hx).1
 refine⟨by rw[h.A];exact hn.filter _,?_,λℓ hl=>?_⟩
 ·unfold tot
  have:=zln h.nd hs;rw[h.A,h.tk];omega
 ·unfold hi
  have hl':(λq=>decide (ℓ<=s'.lev q))=λq=>decide (ℓ<=s.lev q):=by funext q;rw[h.lev]
  rw[h.A,hl']
  have e:∀l:List Nat,(l.filter λp=>!qs.contains p).countP (λq=>decide (ℓ<=s.lev q))+l.countP (λq=>qs.contains q && decide (ℓ<=s.lev q))=l.countP (λq=>decide (ℓ<=s.lev q)):=by
   intro l
   induction l with
   |nil=>rfl
   |cons x l ih=>
    simp only[List.filter_cons,List.countP_cons]
    cases hx:qs.contains x with
    |true=>simp only[Bool.not_true,Bool.false_eq_true,if_false,Bool.true_and];omega
    |false=>simp only[Bool.not_false,if_true,Bool.false_and,Bool.false_eq_true,if_false,List.countP_cons];omega
  have h2:qs.length<=s.A.countP (λq=>qs.contains q && decide (ℓ<=s.lev q)):=zlw h.nd λx hx=>⟨hs x hx,by
   have:=((h.all x).1 hx).2.2;simp[hx];omega⟩
  have:=e s.A;omega
theorem Un.lev {p:Nat} (h:Un s one other s' δ S) (hp:p∈s'.A):s'.lev p<=s.lev p:=by
 have:=(h.mem p).1 hp;exact(h.D p this.1 p (by rw[h.out p this.2];simp)).2
theorem Un.call (h:Un s one (tF τ2 (tU q)) s' δ S) (hq:q∈s.A) (h1:¬inU q one):q∈S\/∃p∈S,inU q (δ p):=by
 by_cases hS:q∈S
 ·exact .inl hS
 refine .inr ?_;have e:=h.eq;rw[usub_F,usub_U,h.out q hS] at e;have key:∃p,inU p one/\inU q (δ p):=zak.1 (by rw[e];simp);obtain⟨p,k1,k2⟩:=key;refine⟨p,?_,k2⟩;by_cases hp:p∈S
 ·exact hp
 ·rw[h.out p hp] at k2
  simp at k2;subst k2;exact absurd k1 h1
theorem Un.cnt (h:Un s one (tF τ2 (tU q)) s' δ S) (hn:s.A.Nodup) (hq:q∈s.A) (h1:¬inU q one):
 s'.A.Nodup/\tot s'+1<=tot s/\∀ℓ,ℓ<=s.lev q->hi ℓ s'+1<=hi ℓ s:=by
 have hsub:∀x∈S,x∈s.A:=λx hx=>(h.sub x hx).1
 have hc:=h.call hq h1;refine⟨by rw[h.A];exact hn.filter _,?_,λℓ hl=>?_⟩
 ·unfold tot
  have:=zln h.nd hsub;have:0<S.length:=by rcases hc with h'|⟨p,h',_⟩<;>exact List.length_pos_of_mem h'
  rw[h.A,h.tk];omega
 ·unfold hi
  rw[h.A,List.countP_filter]
  have mono:∀x∈s.A,((decide (ℓ<=s'.lev x)) && !S.contains x)=true->(decide (ℓ<=s.lev x))=true:=λx hx hp=>by
   simp only[Bool.and_eq_true,decide_eq_true_eq,Bool.not_eq_true',List.contains_eq_mem,decide_eq_false_iff_not] at hp ⊢;have:=h.lev ((h.mem x).2 ⟨hx,by simpa using hp.2⟩);omega
  rcases hc with hS|⟨p,hS,hi⟩
  ·exact zll mono hq (by simpa using hl) (by simp[hS])
  ·have hpA:=hsub p hS
   by_cases hq':q∈S
   ·exact zll mono hq (by simpa using hl) (by simp[hq'])
   ·have d:=h.D p hpA q hi
    by_cases hlo:ℓ<=s'.lev q
    ·exact zll mono hpA (by simp;omega) (by simp[hS])
    ·exact zll mono hq (by simpa using hl) (by simp[hlo])
def Jt (n:Nat):Nat:=[0,1,2,3,4,5,6,7,8,9,10,12,16,20,25,30,36,42,49,56,64,80,100,125,150].getD n 0
def Tta (n:Nat):Nat:=[0,1,2,3,4,5,6,7,8,9,12,16,20,25,30,36,42,49,56,68,85,105,130,156,186].getD n 0
theorem jt_add':∀a<25,∀b<25,a+b<=24->Jt a+Jt b<=Jt (a+b):=by decide
theorem tt_add':∀a<25,∀b<25,a+b<=24->Tta a+Tta b<=Tta (a+b):=by decide
theorem jt_mul':∀a<20,∀b<20,1<=a->1<=b->a+b+4<=24->Jt a*Jt b<=Jt (a+b+4):=by decide
theorem tt_mul':∀a<20,∀b<20,1<=a->1<=b->a+b+4<=24->Tta a+Jt a*Tta b<=Tta (a+b+4):=by decide
theorem zrl (h:a+b<=24):Jt a+Jt b<=Jt (a+b):=jt_add' a (by omega) b (by omega) h
theorem zmg (h:a+b<=24):Tta a+Tta b<=Tta (a+b):=tt_add' a (by omega) b (by omega) h
theorem jt_mul (ha:1<=a) (hb:1<=b) (h:a+b+4<=24):Jt a*Jt b<=Jt (a+b+4):=jt_mul' a (by omega) b (by omega) ha hb h
theorem zyv (ha:1<=a) (hb:1<=b) (h:a+b+4<=24):Tta a+Jt a*Tta b<=Tta (a+b+4):=tt_mul' a (by omega) b (by omega) ha hb h
theorem zia (h:a<=b) (hb:b<=24):Jt a<=Jt b:=by
 have:=zrl (a:=a) (b:=b-a) (by omega);rw[show a+(b-a)=b by omega] at this;omega
theorem zdj (h:a<=b) (hb:b<=24):Tta a<=Tta b:=by
 have:=zmg (a:=a) (b:=b-a) (by omega);rw[show a+(b-a)=b by omega] at this;omega
theorem zor (h:1<=a) (ha:a<=24):1<=Jt a:=z1c (by decide:1<=Jt 1) (zia h ha)
theorem tt_one (h:1<=a) (ha:a<=24):1<=Tta a:=z1c (by decide:1<=Tta 1) (zdj h ha)
def Ndd:Ex->Prop
 | .nil=>False
 | .node t _ _ a b=>t<=2\/(t=3/\Ndd a)\/((t=4\/t=5)/\Ndd a/\Ndd b)
theorem Fnd.ndd:∀{e:Ex} {L:Nat} {s:Sta} {Γ:Env} {s':Sta} {δ:Nat->Ty} {τ:Ty},Fnd e L s Γ s' δ τ->Ndd e:=by
 intro e
 induction e with
 |nil=>intro L s Γ s' δ τ h;exact h.elim
 |node k o x a b iha ihb=>
  intro L s Γ s' δ τ h;rcases h with ⟨rfl,_⟩|⟨rfl,_⟩|⟨rfl,_⟩|⟨rfl,q,s1,τb,h1,h2,_⟩|⟨rfl,s1,δ1,τ1,s2,δ2,vs,qs,δ3,h1,h2,h3,_⟩|⟨rfl,s1,δ1,τ1,s2,δ2,τ2,q,s3,δ3,S,h1,h2,_⟩
  ·exact .inl (by omega)
  ·exact .inl (by omega)
  ·exact .inl (by omega)
  ·exact .inr (.inl ⟨rfl,iha h2⟩)
  ·exact .inr (.inr ⟨.inl rfl,iha h1,ihb h3⟩)
  ·exact .inr (.inr ⟨.inr rfl,iha h1,ihb h2⟩)
structure Wgt (W:Ex->Nat):Prop where
 pos:∀e,Ndd e->1<=W e
 lam:∀o x a b,Ndd a->W a+1<=W (.node 3 o x a b)
 lt:∀o x a b,Ndd a->Ndd b->W a+W b+4<=W (.node 4 o x a b)
 call:∀o x a b,Ndd a->Ndd b->W a+W b<=W (.node 5 o x a b)
theorem Fnd.pos {e:Ex} {W:Ex->Nat} (hW:Wgt W) (h:Fnd e L s Γ s' δ τ):1<=W e:=hW.pos e h.ndd
theorem own_len {a:Ex} {τ1:Ty} {k:Nat} (h1:Fnd a (L+1) s Γ s1 δ1 τ1) (h2:Stl L s1 τ1 s2 δ2 vs qs) (hΓ:EnvU L s Γ) (hn:s.A.Nodup) (hk:hi (L+1) s1<=hi (L+1) s+k):vs.length<=k:=by
 have hvl:vs.length=qs.length:=by rw[h2.vsE];simp
 have old:∀g∈s.A.filter (λq=>decide (L+1<=s.lev q)),g∉qs/\g∈s1.A/\s1.lev g=s.lev g:=by
  intro g hg;obtain⟨g1,g2⟩:=List.mem_filter.1 hg;simp at g2;obtain⟨f1,f2⟩:=zio _ _ _ _ _ _ _ h1 hΓ.up g g1 λc sc hc hi=>by have:=((hΓ c sc hc).un g hi).2;omega
  exact⟨λhq=>f2 ((h2.all g).1 hq).2.1,f1.inn,f1.lev⟩
 have nd:(qs++s.A.filter (λq=>decide (L+1<=s.lev q))).Nodup:=by
  refine List.nodup_append.2 ⟨h2.nd,hn.filter _,λx hx y hy e=>?_⟩;subst e;exact(old x hy).1 hx
 have:=zlw (P:=λq=>decide (L+1<=s1.lev q)) (l:=s1.A) nd λx hx=>by
  rcases z1y.1 hx with hx|hx
  ·have:=(h2.all x).1 hx
   exact⟨this.1,by simp;omega⟩
  ·have o:=old x hx
   obtain⟨g1,g2⟩:=List.mem_filter.1 hx;simp at g2;exact⟨o.2.1,by simp;omega⟩
 rw[z1l,<-List.countP_eq_length_filter] at this;unfold hi at hk;omega
theorem mul_let (hn:n<=m*A) (hA:1<=A):max m n*B<=m*(A*B):=by
 rw[<-Nat.mul_assoc];refine Nat.mul_le_mul_right B (Nat.max_le.2 ⟨?_,hn⟩);have:=Nat.mul_le_mul_left m hA;omega
theorem live_let (hn:n<=m*A) (hA:1<=A) (hB:1<=B):m*A+max m n*B<=max (m*(A+B)) (m*(A*B))+n:=by
 by_cases h:n<=m
 ·rw[Nat.max_eq_left h,<-Nat.mul_add]
  exact z1c (Nat.le_max_left _ _) (Nat.le_add_right _ _)
 ·rw[Nat.max_eq_right (by omega)]
  obtain⟨C,rfl⟩:∃C,B=C+1:=⟨B-1,by omega⟩
  have:n*C<=m*A*C:=Nat.mul_le_mul_right C hn;have e:m*(A*(C+1))=m*A*C+m*A:=by rw[Nat.mul_add,Nat.mul_one,Nat.mul_add,<-Nat.mul_assoc]
  have:m*A+n*(C+1)<=m*(A*(C+1))+n:=by rw[e,Nat.mul_add,Nat.mul_one];omega
  exact z1c this (Nat.add_le_add_right (Nat.le_max_right _ _) _)
theorem zuj {W:Ex->Nat} (hW:Wgt W):∀(e:Ex) (L:Nat) (s:Sta) (Γ:Env) (s':Sta) (δ:Nat->Ty) (τ:Ty),Fnd e L s Γ s' δ τ->EnvU L s Γ->s.A.Nodup->∀m,2<=m->EnvC m Γ->W e<=24->
 s'.A.Nodup/\(∀ℓ,ℓ<=L->hi ℓ s'<=hi ℓ s+m*Jt (W e))/\tot s'<=tot s+m*Tta (W e):=by
 intro e
 induction e with
 |nil=>intro L s Γ s' δ τ h;exact h.elim
 |node k o x a b iha ihb=>
  intro L s Γ s' δ τ h hΓ hn m hm hc hw;have hnd:=h.ndd
  have atom:∀sc:Sch,sc.2.length<=m->Tkn L s sc s' δ τ->s'.A.Nodup/\(∀ℓ,ℓ<=L->hi ℓ s'<=hi ℓ s+m*Jt (W (.node k o x a b)))/\tot s'<=tot s+m*Tta (W (.node k o x a b)):=by
   rintro sc hs ⟨qs,h1,h2,_,_⟩;obtain⟨a1,a2,a3⟩:=h1.cnt hn;have j1:m*1<=m*Jt (W (.node k o x a b)):=Nat.mul_le_mul_left m (zor (hW.pos _ hnd) hw);have t1:m*1<=m*Tta (W (.node k o x a b)):=Nat.mul_le_mul_left m (tt_one (hW.pos _ hnd) hw);exact⟨a1,λℓ _=>by have:=a3 ℓ;omega,by omega⟩
  rcases h with ⟨rfl,sc,h1,h2⟩|⟨rfl,h2⟩|⟨rfl,rfl,rfl,rfl⟩|⟨rfl,q,s1,τb,h1,h2,rfl⟩|⟨rfl,s1,δ1,τ1,s2,δ2,vs,qs,δ3,h1,h2,h3,rfl⟩|⟨rfl,s1,δ1,τ1,s2,δ2,τ2,q,s3,δ3,S,h1,h2,h3,h4,rfl,rfl⟩
  ·exact atom sc (hc _ _ h1) h2
  ·exact atom _ (z1c (zlg _) hm) h2
  ·exact⟨hn,λℓ _=>Nat.le_add_right _ _,Nat.le_add_right _ _⟩
  ·have hwa:=hW.lam o x a b h2.ndd
   obtain⟨a1,a2,a3⟩:=h1.cnt hn;obtain⟨b1,b2,b3⟩:=iha _ _ _ _ _ _ h2 (zef h1 hΓ) a1 m hm (hc.set (by simp)) (by omega);have j1:=Nat.mul_le_mul_left m (z1c (zrl (by omega)) (zia hwa hw));have t1:=Nat.mul_le_mul_left m (z1c (zmg (by omega)) (zdj hwa hw));rw[Nat.mul_add] at j1 t1;have e1:Jt 1=1:=rfl;have e2:Tta 1=1:=rfl;rw[e1] at j1;rw[e2] at t1;exact⟨b1,λℓ hl=>by have:=a3 ℓ;have:=b2 ℓ hl;omega,by omega⟩
  ·have hwl:=hW.lt o x a b h1.ndd h3.ndd
   have pa:=h1.pos hW;have pb:=h3.pos hW;obtain⟨a1,a2,a3⟩:=iha _ _ _ _ _ _ h1 hΓ.up hn m hm hc (by omega);obtain⟨c1,c2,c3⟩:=h2.cnt a1;have ol:=own_len h1 h2 hΓ hn (a2 (L+1) (z1d _));have hvl:vs.length=qs.length:=by rw[h2.vsE];simp
   obtain⟨b1,b2,b3⟩:=ihb _ _ _ _ _ _ h3 (zcx h1 h2 hΓ) c1 (max m vs.length) (by omega) ((((hc.step δ1).step δ2).mono (Nat.le_max_left _ _)).set (Nat.le_max_right _ _)) (by omega);have jA:=zor pa (by omega);have jB:=zor pb (by omega);have l1:=live_let (m:=m) (n:=vs.length) (A:=Jt (W a)) (B:=Jt (W b)) ol jA jB;have l2:=mul_let (m:=m) (n:=vs.length) (A:=Jt (W a)) (B:=Tta (W b)) ol jA
   have g1:max (m*(Jt (W a)+Jt (W b))) (m*(Jt (W a)*Jt (W b)))<=m*Jt (W (.node 4 o x a b)):=by
    refine Nat.max_le.2 ⟨Nat.mul_le_mul_left m ?_,Nat.mul_le_mul_left m ?_⟩
    ·exact z1c (zrl (by omega)) (zia (by omega) hw)
    ·exact z1c (jt_mul pa pb (by omega)) (zia (by omega) hw)
   have g2:=Nat.mul_le_mul_left m (z1c (zyv pa pb (by omega)) (zdj (by omega) hw));rw[Nat.mul_add] at g2;refine⟨b1,λℓ hl=>?_,by omega⟩;have:=a2 ℓ (by omega);have:=c3 ℓ hl;have:=b2 ℓ hl;omega
  ·have hwc:=hW.call o x a b h1.ndd h2.ndd
   obtain⟨i1,i2⟩:=zat _ _ _ _ _ _ _ h1 hΓ;obtain⟨j1,j2⟩:=zat _ _ _ _ _ _ _ h2 (hΓ.step i1);obtain⟨a1,a2,a3⟩:=iha _ _ _ _ _ _ h1 hΓ hn m hm hc (by omega);obtain⟨b1,b2,b3⟩:=ihb _ _ _ _ _ _ h2 (hΓ.step i1) a1 m hm (hc.step δ1) (by omega);obtain⟨c1,c2,c3⟩:=h3.cnt b1;have hq:q∈s3.A:=by rw[h3.A];exact z1k
   have hql:s3.lev q=L:=by rw[h3.lev,if_pos rfl]
   obtain⟨d1,d2,d3⟩:=h4.cnt c1 hq λhi=>h3.fresh ((i2.step j1).un q hi).1
   have g1:=Nat.mul_le_mul_left m (z1c (zrl (by omega)) (zia hwc hw));have g2:=Nat.mul_le_mul_left m (z1c (zmg (by omega)) (zdj hwc hw));rw[Nat.mul_add] at g1 g2;refine⟨d1,λℓ hl=>?_,by omega⟩;have:=a2 ℓ hl;have:=b2 ℓ hl;have:=c3 ℓ;have:=d3 ℓ (by omega);omega
end
def fl (e:Ex):Nat:=(frm e).length
def spc:Ex->Bool
 | .nil=>false
 | .node t _ _ a b=>if t=3 then true else if t=4 then spc a||spc b else if t=5 then knd a==2||knd b !=0||spc a||spc b else false
section
variable {Γ:Env} {e:Ex} {t L:Nat} {δ:Nat->Ty} {sc:Sch} {s s':Sta} {τ:Ty} (o:Nat) (x:Pt) (a b:Ex)
theorem fl_3:fl (.node 3 o x a b)=fl a+3:=by simp[fl,frm]
theorem fl_4:fl (.node 4 o x a b)=fl a+fl b+4:=by simp[fl,frm];omega
theorem fl_5:fl (.node 5 o x a b)=fl a+fl b+(if knd a=2 then 2 else 0)+(if knd b=0 then 0 else 2):=by
 have e:frm (.node 5 o x a b)=zcb (knd a) (frm a)++zbk (knd b) (frm b):=by simp[frm]
 unfold fl;rw[e,z1l];unfold zcb zbk;by_cases h1:knd a=2<;>by_cases h2:knd b=0<;>simp[h1,h2]<;>omega
theorem fl_at {o:Nat} (h:t<=2):fl (.node t o x a b)=1:=by
 unfold fl frm;rw[if_neg (by omega),if_neg (by omega),if_neg (by omega)];rfl
theorem spc_at {o:Nat} (h:t<=2):spc (.node t o x a b)=false:=by
 unfold spc;rw[if_neg (by omega),if_neg (by omega),if_neg (by omega)]
theorem zjn:∀{e:Ex},Ndd e->1<=fl e/\(spc e=true->3<=fl e):=by
 intro e
 induction e with
 |nil=>intro h;exact h.elim
 |node t o x a b iha ihb=>
  intro h;rcases h with h|⟨rfl,ha⟩|⟨rfl|rfl,ha,hb⟩
  ·rw[fl_at x a b h,spc_at x a b h]
   exact⟨z1d _,λh=>by cases h⟩
  ·rw[fl_3];exact⟨by omega,λ_=>by omega⟩
  ·rw[fl_4];exact⟨by omega,λ_=>by omega⟩
  ·have i1:=(iha ha).1
   have i2:=(ihb hb).1;rw[fl_5];refine⟨by omega,λhs=>?_⟩;simp only[spc,Nat.reduceEqDiff,if_false,if_true,Bool.or_eq_true,beq_iff_eq,bne_iff_ne,ne_eq] at hs;rcases hs with ((hs|hs)|hs)|hs
   ·rw[if_pos hs];omega
   ·rw[if_neg hs];omega
   ·have:=(iha ha).2 hs;omega
   ·have:=(ihb hb).2 hs;omega
def Wb (e:Ex):Nat:=if spc e then fl e-2 else fl e
theorem Wb_le (e:Ex):Wb e<=fl e:=by unfold Wb;split<;>omega
theorem wb_wt:Wgt Wb:=by
 refine⟨λe h=>?_,λo x a b ha=>?_,λo x a b ha hb=>?_,λo x a b ha hb=>?_⟩
 ·have:=zjn h
  unfold Wb;split
  ·have:=this.2 ‹_›;omega
  ·exact this.1
 ·have e:Wb (.node 3 o x a b)=fl a+1:=by
   unfold Wb;rw[show spc (.node 3 o x a b)=true from rfl,if_pos rfl,fl_3];omega
  have:=Wb_le a;omega
 ·have pa:=zjn ha
  have pb:=zjn hb;have e:spc (.node 4 o x a b)=(spc a||spc b):=rfl;unfold Wb;rw[e,fl_4]
  cases h1:spc a<;>cases h2:spc b<;>simp only[Bool.or_true,Bool.true_or,Bool.or_false,Bool.false_eq_true,if_true,if_false]
  ·exact z1d _
  ·have:=pb.2 h2;omega
  ·have:=pa.2 h1;omega
  ·have:=pa.2 h1;have:=pb.2 h2;omega
 ·have pa:=zjn ha
  have pb:=zjn hb;have e:spc (.node 5 o x a b)=(knd a==2||knd b !=0||spc a||spc b):=rfl;have la:=Wb_le a;have lb:=Wb_le b;by_cases h1:knd a=2\/knd b≠0
  ·have:Wb (.node 5 o x a b)=fl (.node 5 o x a b)-2:=by
    unfold Wb;rw[e,if_pos];simp only[Bool.or_eq_true,beq_iff_eq,bne_iff_ne,ne_eq];rcases h1 with h|h
    ·exact .inl (.inl (.inl h))
    ·exact .inl (.inl (.inr h))
   rw[this,fl_5];rcases h1 with h|h
   ·rw[if_pos h];omega
   ·rw[if_neg h];omega
  ·simp only[not_or,ne_eq,Classical.not_not] at h1
   unfold Wb;rw[e,fl_5,if_neg h1.1,if_pos h1.2];have e2:(knd a==2||knd b !=0||spc a||spc b)=(spc a||spc b):=by rw[h1.2,show (knd a==2)=false from beq_eq_false_iff_ne.2 h1.1];rfl
   rw[e2]
   cases h1:spc a<;>cases h2:spc b<;>simp only[Bool.or_true,Bool.true_or,Bool.or_false,Bool.false_eq_true,if_true,if_false]
   ·omega
   ·have:=pb.2 h2;omega
   ·have:=pa.2 h1;omega
   ·have:=pa.2 h1;have:=pb.2 h2;omega
def EnvS (Γ:Env):Prop:=∀c sc,Γ c=some sc->shut sc.1
theorem shut_usub {t:Ty} (h:shut t):shut (usub δ t):=λq hq=>by obtain⟨p,h1,_⟩:=zak.1 hq;exact h p h1
theorem EnvS.step (h:EnvS Γ) (δ:Nat->Ty):EnvS (gmap δ Γ):=by
 intro c sc hc;unfold gmap at hc
 cases hg:Γ c with
 |none=>rw[hg] at hc;cases hc
 |some sc'=>rw[hg] at hc;cases hc;exact shut_usub (h c sc' hg)
theorem EnvS.set {c:Nat} (h:EnvS Γ) (k:shut sc.1):EnvS (zap Γ c sc):=by
 intro d sc' hd;unfold zap at hd;split at hd
 ·cases hd;exact k
 ·exact h d sc' hd
theorem EnvS.noG (h:EnvS Γ) (g:Nat):noG g Γ:=λc sc hc=>h c sc hc g
def UpTo (n:Nat) (t:Ty):Prop:=∀N:List Nat,N.Nodup->(∀q∈N,inU q t)->N.length<=n
theorem zsf (h:Fnd e L s Γ s' δ τ) (hΓ:EnvU L s Γ) (hS:EnvS Γ):∀q,inU q τ->q∉s.A/\s'.lev q=L:=by
 intro q hq;obtain⟨i1,i2⟩:=zat _ _ _ _ _ _ _ h hΓ;have f:=λg hg=>zio _ _ _ _ _ _ _ h hΓ g hg (hS.noG g)
 have hn:q∉s.A:=λhA=>(f q hA).2 hq
 refine⟨hn,?_⟩;have u:=i2.un q hq;by_cases hl:s'.lev q<L
 ·obtain⟨q0,h1,_,h3⟩:=i1.R q u.1 hl
  rw[(f q0 h1).1.dl] at h3;simp at h3;subst h3;exact absurd h1 hn
 ·omega
theorem Tkn.upTo (h:Tkn L s sc s' δ τ) (hs:SchU L s sc) (hc:shut sc.1):UpTo sc.2.length τ:=by
 obtain⟨qs,h1,h2,rfl,rfl⟩:=h;intro N hn hN;rw[<-h2];refine zhc hn λq hq=>?_
 have hi:=hN q hq;rw[zcd _ _ _ hs.tr] at hi;rcases zpk hi with ⟨p,h3,_⟩|⟨o,h3,h4⟩
 ·exact absurd h3 (hc p)
 ·obtain⟨x,hx⟩:=zcr (v:=sc.2) (gs:=qs.map tU) (by simpa using h2) (hs.own o h3)
  obtain⟨q',hq',rfl⟩:=zvt hx;rw[hx] at h4;simp at h4;subst h4;exact hq'
theorem Stl.shut {a:Ex} {s1 s2:Sta} {δ1 δ2:Nat->Ty} {τ1:Ty} {vs qs:List Nat} (h1:Fnd a (L+1) s Γ s1 δ1 τ1) (h2:Stl L s1 τ1 s2 δ2 vs qs) (hΓ:EnvU L s Γ) (hS:EnvS Γ):Go.Proofs.YtceadeaodbadlaaGreatDoor.shut (usub δ2 τ1):=by
 intro q hq;obtain⟨p,h3,h4⟩:=zak.1 hq;have f:=zsf h1 hΓ.up hS p h3;obtain⟨i1,i2⟩:=zat _ _ _ _ _ _ _ h1 hΓ.up;have hm:=(h2.all p).2 ⟨(i2.un p h3).1,h3,by omega⟩;obtain⟨i,_,e⟩:=h2.var hm;rw[e] at h4;simp at h4
theorem part_len {X Y:Nat->Prop} {a b:Nat} (hX:∀N:List Nat,N.Nodup->(∀q∈N,X q)->N.length<=a) (hY:∀N:List Nat,N.Nodup->(∀q∈N,Y q)->N.length<=b):∀N:List Nat,N.Nodup->(∀q∈N,X q\/Y q)->N.length<=a+b:=by
 intro N hn h;have:DecidablePred X:=λq=>Classical.propDecidable (X q)
 have e:∀l:List Nat,l.length=(l.filter λq=>decide (X q)).length+(l.filter λq=>!decide (X q)).length:=by
  intro l
  induction l with
  |nil=>rfl
  |cons x l ih=>
   simp only[List.filter_cons,List.length_cons]
   cases decide (X x)<;>simp<;>omega
 have h1:=hX _ (hn.filter λq=>decide (X q)) λq hq=>by simpa using (List.mem_filter.1 hq).2
 have h2:=hY _ (hn.filter λq=>!decide (X q)) λq hq=>by
  have:=List.mem_filter.1 hq;rcases h q this.1 with h|h
  ·simp[h] at this
  ·exact h
 have:=e N;omega
theorem call_upTo {one τ2:Ty} {q:Nat} {S:List Nat} {a b:Nat} (h:Un s one (tF τ2 (tU q)) s' δ S) (hq:q∈s.A) (t1:Trim one) (t2:Trim τ2) (h1:UpTo (a+1) one) (h2:UpTo (b+1) τ2) (hd:∀p,inU p one->inU p τ2->False):UpTo (a+b+1) (δ q):=by
 intro N hn hN;by_cases hS:q∈S
 ·have inN:∀p∈N,(inU p one\/inU p τ2)/\p∉S:=by
   intro p hp;have d:=h.D q hq p (hN p hp);have hpS:=((h.mem p).1 d.1).2;refine⟨?_,hpS⟩;rcases h.img q hS p (hN p hp) with h'|h'
   ·exact .inl h'
   ·rcases(inU_F p _ _).1 h' with h'|h'
    ·exact .inr h'
    ·simp at h';subst h';exact absurd hS hpS
  by_cases hx:∃x∈S,inU x one\/inU x τ2
  ·obtain⟨x,x1,x2⟩:=hx
   have:=part_len h1 h2 (x::N) (List.nodup_cons.2 ⟨λhm=>(inN x hm).2 x1,hn⟩) λp hp=>by
    rcases List.mem_cons.1 hp with rfl|hp
    ·exact x2
    ·exact(inN p hp).1
   simp at this;omega
  ·have u1:=zdu t1 λp hp=>h.out p λhm=>hx ⟨p,hm,.inl hp⟩
   have u2:=zdu t2 λp hp=>h.out p λhm=>hx ⟨p,hm,.inr hp⟩
   have e:=h.eq;rw[u1,usub_F,u2,usub_U] at e;have:=h1 N hn λp hp=>by rw[e,inU_F];exact .inr (hN p hp)
   omega
 ·rw[h.out q hS] at hN
  have:N.length<=[q].length:=zhc hn λp hp=>by have:=hN p hp;simp at this;simp[this]
  simp at this;omega
theorem zqf:∀(e:Ex) (L:Nat) (s:Sta) (Γ:Env) (s':Sta) (δ:Nat->Ty) (τ:Ty),Fnd e L s Γ s' δ τ->EnvU L s Γ->EnvS Γ->s.A.Nodup->∀m,1<=m->EnvC (m+1) Γ->spc e=false->fl e<=24->
 s'.A.Nodup/\UpTo (m*Jt (fl e)+1) τ/\tot s'<=tot s+(m*Tta (fl e)+fl e):=by
 intro e
 induction e with
 |nil=>intro L s Γ s' δ τ h;exact h.elim
 |node k o x a b iha ihb=>
  intro L s Γ s' δ τ h hΓ hS hn m hm hc hp hw;have hnd:=h.ndd
  have atom:∀sc:Sch,k<=2->sc.2.length<=m+1->SchU L s sc->shut sc.1->Tkn L s sc s' δ τ->s'.A.Nodup/\UpTo (m*Jt (fl (.node k o x a b))+1) τ/\tot s'<=tot s+(m*Tta (fl (.node k o x a b))+fl (.node k o x a b)):=by
   intro sc hk hs hu hsh ht;have hut:=ht.upTo hu hsh;obtain⟨qs,h1,h2,_,_⟩:=ht;obtain⟨a1,a2,a3⟩:=h1.cnt hn;rw[fl_at x a b hk];have e1:Jt 1=1:=rfl;have e2:Tta 1=1:=rfl;rw[e1,e2,Nat.mul_one];exact⟨a1,λN n1 n2=>z1c (hut N n1 n2) hs,by omega⟩
  rcases h with ⟨rfl,sc,h1,h2⟩|⟨rfl,h2⟩|⟨rfl,rfl,rfl,rfl⟩|⟨rfl,q,s1,τb,h1,h2,rfl⟩|⟨rfl,s1,δ1,τ1,s2,δ2,vs,qs,δ3,h1,h2,h3,rfl⟩|⟨rfl,s1,δ1,τ1,s2,δ2,τ2,q,s3,δ3,S,h1,h2,h3,h4,rfl,rfl⟩
  ·exact atom sc (by omega) (hc _ _ h1) (hΓ _ _ h1) (hS _ _ h1) h2
  ·exact atom _ (by omega) (z1c (zlg _) (by omega)) (zop L s x.c) (zfm x.c).1.shut.1 h2
  ·refine⟨hn,λN n1 n2=>?_,Nat.le_add_right _ _⟩
   cases N with
   |nil=>exact Nat.zero_le _
   |cons y N=>
    have:=n2 y z1k;split at this<;>simp at this
  ·simp[spc] at hp
  ·have e:spc (.node 4 o x a b)=(spc a||spc b):=rfl
   rw[e,Bool.or_eq_false_iff] at hp;have hwl:=fl_4 o x a b;have pa:=(zjn h1.ndd).1;have pb:=(zjn h3.ndd).1;obtain⟨a1,a2,a3⟩:=iha _ _ _ _ _ _ h1 hΓ.up hS hn m hm hc hp.1 (by omega);obtain⟨c1,c2,c3⟩:=h2.cnt a1;have hvl:vs.length=qs.length:=by rw[h2.vsE];simp
   have ol:vs.length<=m*Jt (fl a)+1:=by rw[hvl];exact a2 qs h2.nd λq hq=>((h2.all q).1 hq).2.1
   have jA:=zor pa (by omega);have mA:m<=m*Jt (fl a):=by have:=Nat.mul_le_mul_left m jA;omega
   obtain⟨b1,b2,b3⟩:=ihb _ _ _ _ _ _ h3 (zcx h1 h2 hΓ) (((hS.step δ1).step δ2).set (h2.shut h1 hΓ hS)) c1 (m*Jt (fl a)) (by omega) ((((hc.step δ1).step δ2).mono (by omega)).set ol) hp.2 (by omega);have g1:m*(Jt (fl a)*Jt (fl b))<=m*Jt (fl (.node 4 o x a b)):=Nat.mul_le_mul_left m (z1c (jt_mul pa pb (by omega)) (zia (by omega) hw));have g2:m*(Tta (fl a)+Jt (fl a)*Tta (fl b))<=m*Tta (fl (.node 4 o x a b)):=Nat.mul_le_mul_left m (z1c (zyv pa pb (by omega)) (zdj (by omega) hw));rw[Nat.mul_add] at g2;rw[<-Nat.mul_assoc] at g1 g2;exact⟨b1,λN n1 n2=>by have:=b2 N n1 n2;omega,by omega⟩
  ·have e:spc (.node 5 o x a b)=(knd a==2||knd b !=0||spc a||spc b):=rfl
   rw[e] at hp;simp only[Bool.or_eq_false_iff,beq_eq_false_iff_ne,bne_eq_false_iff_eq] at hp;obtain⟨⟨⟨p1,p2⟩,p3⟩,p4⟩:=hp;have hwc:=fl_5 o x a b;rw[if_neg p1,if_pos p2] at hwc;obtain⟨i1,i2⟩:=zat _ _ _ _ _ _ _ h1 hΓ;obtain⟨j1,j2⟩:=zat _ _ _ _ _ _ _ h2 (hΓ.step i1);obtain⟨a1,a2,a3⟩:=iha _ _ _ _ _ _ h1 hΓ hS hn m hm hc p3 (by omega);obtain⟨b1,b2,b3⟩:=ihb _ _ _ _ _ _ h2 (hΓ.step i1) (hS.step δ1) a1 m hm (hc.step δ1) p4 (by omega);obtain⟨c1,c2,c3⟩:=h3.cnt b1;have hq:q∈s3.A:=by rw[h3.A];exact z1k
   obtain⟨d1,d2,d3⟩:=h4.cnt c1 hq λhi=>h3.fresh ((i2.step j1).un q hi).1
   have same:usub δ2 τ1=τ1:=zdu i2.tr λp hp=>(zio _ _ _ _ _ _ _ h2 (hΓ.step i1) p (i2.un p hp).1 ((hS.step δ1).noG p)).1.dl
   have hf:=zsf h2 (hΓ.step i1) (hS.step δ1);rw[same] at h4;have up:=call_upTo h4 hq i2.tr j2.tr a2 b2 λp k1 k2=>(hf p k2).1 (i2.un p k1).1
   have g1:m*(Jt (fl a)+Jt (fl b))<=m*Jt (fl (.node 5 o x a b)):=Nat.mul_le_mul_left m (z1c (zrl (by omega)) (zia (by omega) hw));have g2:m*(Tta (fl a)+Tta (fl b))<=m*Tta (fl (.node 5 o x a b)):=Nat.mul_le_mul_left m (z1c (zmg (by omega)) (zdj (by omega) hw));rw[Nat.mul_add] at g1 g2;exact⟨d1,λN n1 n2=>by have:=up N n1 n2;omega,by omega⟩
def Cb:Ex->Nat->Sta->Env->Prop
 | .nil,_,_,_=>True
 | .node t _ x a b,L,s,Γ=>
  (t=3->∀q s1,New L s q s1->Cb a L s1 (zap Γ x.c (tU q,[])))/\
  (t=4->Cb a (L+1) s Γ/\∀s1 δ1 τ1,Fnd a (L+1) s Γ s1 δ1 τ1->tot s1<=260/\s1.A.Nodup/\∀s2 δ2 vs qs,Stl L s1 τ1 s2 δ2 vs qs->Cb b L s2 (zap (gmap δ2 (gmap δ1 Γ)) x.c (usub δ2 τ1,vs)))/\
  (t=5->Cb a L s Γ/\∀s1 δ1 τ1,Fnd a L s Γ s1 δ1 τ1->Cb b L s1 (gmap δ1 Γ))
theorem cb_any {W:Ex->Nat} (hW:Wgt W):∀(e:Ex) (L:Nat) (s:Sta) (Γ:Env) (m:Nat),Ndd e->EnvU L s Γ->s.A.Nodup->2<=m->EnvC m Γ->W e<=24->tot s+m*Tta (W e)<=260->Cb e L s Γ:=by
 intro e
 induction e with
 |nil=>intro L s Γ m h;exact h.elim
 |node k o x a b iha ihb=>
  intro L s Γ m hnd hΓ hn hm hc hw ht;refine⟨?_,?_,?_⟩
  ·rintro rfl q s1 h1
   rcases hnd with h|⟨_,ha⟩|⟨h,_⟩
   ·omega
   ·have hwa:=hW.lam o x a b ha
    obtain⟨a1,a2,a3⟩:=h1.cnt hn;have t1:=Nat.mul_le_mul_left m (z1c (zmg (by omega)) (zdj hwa hw));rw[Nat.mul_add,show Tta 1=1 from rfl] at t1;exact iha _ _ _ m ha (zef h1 hΓ) a1 hm (hc.set (by simp)) (by omega) (by omega)
   ·omega
  ·rintro rfl
   rcases hnd with h|⟨h,_⟩|⟨_,ha,hb⟩
   ·omega
   ·omega
   ·have hwl:=hW.lt o x a b ha hb
    have pa:=hW.pos a ha;have pb:=hW.pos b hb;have g2:=Nat.mul_le_mul_left m (z1c (zyv pa pb (by omega)) (zdj (by omega) hw));rw[Nat.mul_add] at g2;refine⟨iha _ _ _ m ha hΓ.up hn hm hc (by omega) (by omega),λs1 δ1 τ1 h1=>?_⟩;obtain⟨a1,a2,a3⟩:=zuj hW _ _ _ _ _ _ _ h1 hΓ.up hn m hm hc (by omega);refine⟨by omega,a1,λs2 δ2 vs qs h2=>?_⟩;obtain⟨c1,c2,c3⟩:=h2.cnt a1;have ol:=own_len h1 h2 hΓ hn (a2 (L+1) (z1d _));have jA:=zor pa (by omega);have l2:=mul_let (m:=m) (n:=vs.length) (A:=Jt (W a)) (B:=Tta (W b)) ol jA;exact ihb _ _ _ (max m vs.length) hb (zcx h1 h2 hΓ) c1 (by omega) ((((hc.step δ1).step δ2).mono (Nat.le_max_left _ _)).set (Nat.le_max_right _ _)) (by omega) (by omega)
  ·rintro rfl
   rcases hnd with h|⟨h,_⟩|⟨_,ha,hb⟩
   ·omega
   ·omega
   ·have hwc:=hW.call o x a b ha hb
    have g2:=Nat.mul_le_mul_left m (z1c (zmg (by omega)) (zdj hwc hw));rw[Nat.mul_add] at g2;refine⟨iha _ _ _ m ha hΓ hn hm hc (by omega) (by omega),λs1 δ1 τ1 h1=>?_⟩;obtain⟨i1,i2⟩:=zat _ _ _ _ _ _ _ h1 hΓ;obtain⟨a1,a2,a3⟩:=zuj hW _ _ _ _ _ _ _ h1 hΓ hn m hm hc (by omega);exact ihb _ _ _ m hb (hΓ.step i1) a1 hm (hc.step δ1) (by omega) (by omega)
theorem cb_bare:∀(e:Ex) (L:Nat) (s:Sta) (Γ:Env) (m:Nat),Ndd e->EnvU L s Γ->EnvS Γ->s.A.Nodup->1<=m->EnvC (m+1) Γ->spc e=false->fl e<=24->tot s+(m*Tta (fl e)+fl e)<=260->Cb e L s Γ:=by
 intro e
 induction e with
 |nil=>intro L s Γ m h;exact h.elim
 |node k o x a b iha ihb=>
  intro L s Γ m hnd hΓ hS hn hm hc hp hw ht;refine⟨?_,?_,?_⟩
  ·rintro rfl q s1 h1
   simp[spc] at hp
  ·rintro rfl
   rcases hnd with h|⟨h,_⟩|⟨_,ha,hb⟩
   ·omega
   ·omega
   ·have e:spc (.node 4 o x a b)=(spc a||spc b):=rfl
    rw[e,Bool.or_eq_false_iff] at hp;have hwl:=fl_4 o x a b;have pa:=(zjn ha).1;have pb:=(zjn hb).1;have g2:m*(Tta (fl a)+Jt (fl a)*Tta (fl b))<=m*Tta (fl (.node 4 o x a b)):=Nat.mul_le_mul_left m (z1c (zyv pa pb (by omega)) (zdj (by omega) hw));rw[Nat.mul_add,<-Nat.mul_assoc] at g2;refine⟨iha _ _ _ m ha hΓ.up hS hn hm hc hp.1 (by omega) (by omega),λs1 δ1 τ1 h1=>?_⟩;obtain⟨a1,a2,a3⟩:=zqf _ _ _ _ _ _ _ h1 hΓ.up hS hn m hm hc hp.1 (by omega);refine⟨by omega,a1,λs2 δ2 vs qs h2=>?_⟩;obtain⟨c1,c2,c3⟩:=h2.cnt a1;have hvl:vs.length=qs.length:=by rw[h2.vsE];simp
    have ol:vs.length<=m*Jt (fl a)+1:=by rw[hvl];exact a2 qs h2.nd λq hq=>((h2.all q).1 hq).2.1
    have jA:=zor pa (by omega);have mA:m<=m*Jt (fl a):=by have:=Nat.mul_le_mul_left m jA;omega
    exact ihb _ _ _ (m*Jt (fl a)) hb (zcx h1 h2 hΓ) (((hS.step δ1).step δ2).set (h2.shut h1 hΓ hS)) c1 (by omega) ((((hc.step δ1).step δ2).mono (by omega)).set ol) hp.2 (by omega) (by omega)
  ·rintro rfl
   rcases hnd with h|⟨h,_⟩|⟨_,ha,hb⟩
   ·omega
   ·omega
   ·have e:spc (.node 5 o x a b)=(knd a==2||knd b !=0||spc a||spc b):=rfl
    rw[e] at hp;simp only[Bool.or_eq_false_iff,beq_eq_false_iff_ne,bne_eq_false_iff_eq] at hp;obtain⟨⟨⟨p1,p2⟩,p3⟩,p4⟩:=hp;have hwc:=fl_5 o x a b;rw[if_neg p1,if_pos p2] at hwc;have g2:m*(Tta (fl a)+Tta (fl b))<=m*Tta (fl (.node 5 o x a b)):=Nat.mul_le_mul_left m (z1c (zmg (by omega)) (zdj (by omega) hw));rw[Nat.mul_add] at g2;refine⟨iha _ _ _ m ha hΓ hS hn hm hc p3 (by omega) (by omega),λs1 δ1 τ1 h1=>?_⟩;obtain⟨i1,i2⟩:=zat _ _ _ _ _ _ _ h1 hΓ;obtain⟨a1,a2,a3⟩:=zqf _ _ _ _ _ _ _ h1 hΓ hS hn m hm hc p3 (by omega);exact ihb _ _ _ m hb (hΓ.step i1) (hS.step δ1) a1 hm (hc.step δ1) p4 (by omega) (by omega)
theorem cb_24 (he:Ndd e) (hl:fl e<=24) (lev:Nat->Nat):Cb e 0 ⟨[],lev,0⟩ (λ_=>none)/\∀s' δ τ,Fnd e 0 ⟨[],lev,0⟩ (λ_=>none) s' δ τ->tot s'<=260/\s'.A.Nodup:=by
 have hΓ:EnvU 0 ⟨[],lev,0⟩ (λ_=>none):=λc sc h=>by cases h
 have hS:EnvS (λ_=>none):=λc sc h=>by cases h
 have hc:∀m,EnvC m (λ_=>none):=λm c sc h=>by cases h
 have t0:tot ⟨[],lev,0⟩=0:=rfl
 cases hs:spc e with
 |true=>
  have hw:Wb e<=22:=by unfold Wb;rw[hs,if_pos rfl];omega
  have tt:Tta (Wb e)<=130:=z1c (zdj hw (by omega)) (by decide);refine⟨cb_any wb_wt e 0 _ _ 2 he hΓ List.nodup_nil (by omega) (hc 2) (by omega) (by omega),λs' δ τ h=>?_⟩;obtain⟨a1,a2,a3⟩:=zuj wb_wt _ _ _ _ _ _ _ h hΓ List.nodup_nil 2 (by omega) (hc 2) (by omega);exact⟨by omega,a1⟩
 |false=>
  have tt:Tta (fl e)<=186:=z1c (zdj hl (by omega)) (by decide);refine⟨cb_bare e 0 _ _ 1 he hΓ hS List.nodup_nil (by omega) (hc 2) hs hl (by omega),λs' δ τ h=>?_⟩;obtain⟨a1,a2,a3⟩:=zqf _ _ _ _ _ _ _ h hΓ hS List.nodup_nil 1 (by omega) (hc 2) hs hl;exact⟨by omega,a1⟩
end
def Bnd (M:Nat):Ex->Nat->Sta->Env->Prop
 | .nil,_,_,_=>True
 | .node t _ x a b,L,s,Γ=>
  (t=0->∃sc,Γ x.c=some sc/\sz sc.1<=M)/\
  (t=3->∀q s1,New L s q s1->Bnd M a L s1 (zap Γ x.c (tU q,[]))/\∀s' δ τb,Fnd a L s1 (zap Γ x.c (tU q,[])) s' δ τb->sz (tF (δ q) τb)<=M)/\
  (t=4->Bnd M a (L+1) s Γ/\∀s1 δ1 τ1,Fnd a (L+1) s Γ s1 δ1 τ1->sz τ1<=M/\∀s2 δ2 vs qs,Stl L s1 τ1 s2 δ2 vs qs->Bnd M b L s2 (zap (gmap δ2 (gmap δ1 Γ)) x.c (usub δ2 τ1,vs)))/\
  (t=5->Bnd M a L s Γ/\∀s1 δ1 τ1,Fnd a L s Γ s1 δ1 τ1->Bnd M b L s1 (gmap δ1 Γ)/\∀s2 δ2 τ2,Fnd b L s1 (gmap δ1 Γ) s2 δ2 τ2->sz τ2+2<=M)
theorem htyb_bnd {M:Nat} (hM:1<=M):∀(e:Ex) (L:Nat) (s:Sta) (Γ:Env),EnvU L s Γ->∀(θ0:Nat->Ty) (E:SEnv) (t:Ty),Mt θ0 Γ E->HTyB M e E t->Bnd M e L s Γ:=by
 intro e
 induction e with
 |nil=>intro L s Γ _ θ0 E t _ h;exact h.elim
 |node k o x a b iha ihb=>
  intro L s Γ hΓ θ0 E t hm ht;refine⟨?_,?_,?_,?_⟩
  ·rintro rfl
   rcases ht with ⟨_,⟨S,h1,h2⟩,h3⟩|⟨e,_⟩|⟨e,_⟩|⟨e,_⟩|⟨e,_⟩|⟨e,_⟩<;>first|(exact absurd e (by decide))|skip
   obtain⟨sc,h4,h5⟩:=hm _ _ h1;obtain⟨gs,hg,rfl⟩:=h5 t h2;exact⟨sc,h4,z1c (zqo (hΓ _ _ h4).tr h3.1).2.2 h3.2⟩
  ·rintro rfl q s1 h1
   rcases ht with ⟨e,_⟩|⟨e,_⟩|⟨e,_⟩|⟨_,u,r,rfl,hb,h3⟩|⟨e,_⟩|⟨e,_⟩<;>first|(exact absurd e (by decide))|skip
   have qin:q∈s1.A:=by rw[h1.A];exact z1k
   have ql:s1.lev q=L:=by rw[h1.lev,if_pos rfl]
   have hΓ':=zef (c:=x.c) h1 hΓ;have hm':=zyb (c:=x.c) h1 hΓ hm u;refine⟨iha _ _ _ hΓ' _ _ _ hm' h3,λs' δ τb h2=>?_⟩;obtain⟨i1,i2⟩:=zat _ _ _ _ _ _ _ h2 hΓ';obtain⟨θ,j1,j2⟩:=zcv _ _ _ _ _ _ _ h2 hΓ' _ _ _ hm' h3.hty;have e1:=j1 q qin (Nat.le_of_eq ql);rw[if_pos rfl] at e1;have e:usub θ (tF (δ q) τb)=tF u r:=by rw[usub_F,e1,j2]
   have:=znf (θ:=θ) (t:=tF (δ q) τb) (trimF (i1.tr q qin) i2.tr) (zxn (i1.pl q qin (Nat.le_of_eq ql)) i2.pl) (by rw[e];exact hb.1);rw[e] at this;exact z1c this.2 hb.2
  ·rintro rfl
   rcases ht with ⟨e,_⟩|⟨e,_⟩|⟨e,_⟩|⟨e,_⟩|⟨_,S,s0,hs0,h0,hS,h4⟩|⟨e,_⟩<;>first|(exact absurd e (by decide))|skip
   refine⟨iha _ _ _ hΓ.up _ _ _ hm h0,λs1 δ1 τ1 h1=>⟨?_,λs2 δ2 vs qs h2=>?_⟩⟩
   ·obtain⟨i1,i2⟩:=zat _ _ _ _ _ _ _ h1 hΓ.up
    obtain⟨θ,j1,j2⟩:=zcv _ _ _ _ _ _ _ h1 hΓ.up _ _ _ hm (hS s0 hs0);have hb:=h0.bd hM;have:=znf (θ:=θ) i2.tr i2.pl (by rw[j2];exact hb.1);rw[j2] at this;exact z1c this.2 hb.2
   ·obtain⟨θ1,a1,m3⟩:=let_mt (c:=x.c) h1 h2 hΓ (zcv _ _ _ _ _ _ _ h1 hΓ.up) hm hs0 hS
    exact ihb _ _ _ (zcx h1 h2 hΓ) _ _ _ m3 h4
  ·rintro rfl
   rcases ht with ⟨e,_⟩|⟨e,_⟩|⟨e,_⟩|⟨e,_⟩|⟨e,_⟩|⟨_,u,t1,t2⟩<;>first|(exact absurd e (by decide))|skip
   refine⟨iha _ _ _ hΓ _ _ _ hm t1,λs1 δ1 τ1 h1=>?_⟩;obtain⟨i1,i2⟩:=zat _ _ _ _ _ _ _ h1 hΓ;obtain⟨θ1,a1,a2⟩:=zcv _ _ _ _ _ _ _ h1 hΓ θ0 E _ hm t1.hty;have hm1:=hm.step hΓ i1 a1;refine⟨ihb _ _ _ (hΓ.step i1) _ _ _ hm1 t2,λs2 δ2 τ2 h2=>?_⟩;obtain⟨j1,j2⟩:=zat _ _ _ _ _ _ _ h2 (hΓ.step i1);obtain⟨θ2,b1,b2⟩:=zcv _ _ _ _ _ _ _ h2 (hΓ.step i1) θ1 E _ hm1 t2.hty;have hb:=t1.bd hM;have hu:=t2.bd hM;have:=znf (θ:=θ2) j2.tr j2.pl (by rw[b2];exact hu.1);rw[b2] at this;have hz:=hb.2;have hk:=hb.1;rcases hk.cases with h|h|⟨_,_,_,h⟩|⟨_,_,h⟩|⟨_,_,_,_,h⟩|⟨a',b',ha,hb',h⟩<;>simp at h
   obtain⟨rfl,rfl⟩:=h;have:1<=sz t:=by cases t with|nil=>exact hb'.elim|node=>simp[sz]
   simp only[sz] at hz;omega
section
variable {S:List Nat} {u0 o o':Nat} {δ:Nat->Ty} {s s':Sta} {a b c t1 t2 t d:Ty}
theorem Un.refl (s:Sta) (t:Ty):Un s t t s tU []:=
 ⟨rfl,λθ _ q=>rfl,List.nodup_nil,λq h=>absurd h (by simp),(List.filter_eq_self.2 λp _=>by simp).symm,λ_ _ _=>rfl,λ_ _=>rfl,λq h=>absurd h (by simp),
  λq hq p hp=>(by simp at hp;subst hp;exact⟨hq,z1d _⟩),λp hp=>⟨p,hp,z1d _,by simp⟩,λ_ _ q=>zel q,λq=>zil q,rfl⟩
theorem Un.symm (h:Un s a b s' δ S):Un s b a s' δ S:=
 ⟨h.eq.symm,λθ e=>h.mgu θ e.symm,h.nd,λq hq=>⟨(h.sub q hq).1,(h.sub q hq).2.1,(h.sub q hq).2.2.symm⟩,h.A,λp h1 h2=>h.fr p h2 h1,h.out,λq hq p hp=>(h.img q hq p hp).symm,h.D,h.R,λh1 h2=>h.pl h2 h1,h.tr,h.tk⟩
theorem Un.map (h:Un s a c s' δ S) (he:∀θ:Nat->Ty,usub θ t1=usub θ t2 ↔ usub θ a=usub θ c) (i1:∀q,inU q t1 ↔ inU q a) (i2:∀q,inU q t2 ↔ inU q c) (p1:zbc t1->zbc a) (p2:zbc t2->zbc c):Un s t1 t2 s' δ S:=
 ⟨(he δ).2 h.eq,λθ e=>h.mgu θ ((he θ).1 e),h.nd,λq hq=>⟨(h.sub q hq).1,(h.sub q hq).2.1,by rw[i1,i2];exact(h.sub q hq).2.2⟩,h.A,λp h1 h2=>h.fr p (by rw[<-i1];exact h1) (by rw[<-i2];exact h2),h.out,
  λq hq p hp=>by rw[i1,i2];exact h.img q hq p hp,h.D,h.R,λh1 h2=>h.pl (p1 h1) (p2 h2),h.tr,h.tk⟩
theorem Un.bnd (h0:u0∈s.A) (hn:¬inU u0 t) (ht:Trim t) (hA:∀q,inU q t->q∈s.A) (lev':Nat->Nat) (hl:∀q,(inU q t->lev' q=min (s.lev q) (s.lev u0))/\(¬inU q t->lev' q=s.lev q)):
 Un s (tU u0) t ⟨s.A.filter λp=>![u0].contains p,lev',s.tk⟩ (oneU u0 t) [u0]:=by
 have mem:∀p,p∈s.A.filter (λp=>![u0].contains p) ↔ p∈s.A/\p≠u0:=λp=>by simp
 have ll:∀q,lev' q<=s.lev q:=λq=>by
  by_cases hi:inU q t
  ·have:=(hl q).1 hi;omega
  ·exact Nat.le_of_eq ((hl q).2 hi)
 refine⟨?_,λθ e q=>oneU_sol e q,(by simp),λq hq=>?_,rfl,λp h1 h2=>?_,λq hq=>zfl t (by simpa using hq),λq hq p hp=>?_,λq hq p hp=>?_,λp hp=>?_,λ_ h2 q=>?_,λq=>?_,rfl⟩
 ·rw[usub_U,zeg,oneU_out ht hn]
 ·obtain rfl:q=u0:=by simpa using hq
  refine⟨h0,?_,.inl (by simp)⟩;rw[zeg];rintro rfl;exact hn (by simp)
 ·exact(hl p).2 h2
 ·obtain rfl:q=u0:=by simpa using hq
  rw[zeg] at hp;exact .inr hp
 ·by_cases e:q=u0
  ·subst e
   rw[zeg] at hp;exact⟨(mem p).2 ⟨hA p hp,λe=>hn (e ▸ hp)⟩,by show lev' p<=_;rw[(hl p).1 hp];exact Nat.min_le_right _ _⟩
  ·rw[zfl t e] at hp
   simp at hp;subst hp;exact⟨(mem q).2 ⟨hq,e⟩,ll q⟩
 ·have hp':=(mem p).1 hp
  have self:s.lev p<=lev' p->∃q∈s.A,s.lev q<=lev' p/\inU p (oneU u0 t q):=λh=>⟨p,hp'.1,h,by rw[zfl t hp'.2];simp⟩
  by_cases hi:inU p t
  ·have e:=(hl p).1 hi
   by_cases hc:s.lev p<=s.lev u0
   ·exact self (by omega)
   ·exact⟨u0,h0,by show s.lev u0<=lev' p;omega,by rw[zeg];exact hi⟩
  ·exact self (Nat.le_of_eq ((hl p).2 hi).symm)
 ·by_cases e:q=u0
  ·subst e;rw[zeg];exact h2
  ·rw[zfl t e];exact zel q
 ·by_cases e:q=u0
  ·subst e;rw[zeg];exact ht
  ·rw[zfl t e];exact zil q
theorem Un.both {s1 s2:Sta} {δ1 δ2:Nat->Ty} {S1 S2:List Nat} (h:Un s a c s1 δ1 S1) (k:Un s1 (usub δ1 b) (usub δ1 d) s2 δ2 S2) (he:∀θ:Nat->Ty,usub θ t1=usub θ t2 ↔ usub θ a=usub θ c/\usub θ b=usub θ d) (i1:∀q,inU q t1 ↔ inU q a\/inU q b) (i2:∀q,inU q t2 ↔ inU q c\/inU q d) (p1:zbc t1->zbc a/\zbc b) (p2:zbc t2->zbc c/\zbc d):
 Un s t1 t2 s2 (λq=>usub δ2 (δ1 q)) (S1++S2):=by
 --unknowns of the second parts,later,are among those of all
 have back:∀p,inU p (usub δ1 b)\/inU p (usub δ1 d)->inU p t1\/inU p t2:=by
  intro p hp;rw[i1,i2]
  have key:∀r,(inU r b\/inU r d)->inU p (δ1 r)->(inU p a\/inU p b)\/inU p c\/inU p d:=by
   intro r hr hp;by_cases hS:r∈S1
   ·rcases h.img r hS p hp with h'|h'
    ·exact .inl (.inl h')
    ·exact .inr (.inl h')
   ·rw[h.out r hS] at hp
    simp at hp;subst hp;rcases hr with h'|h'
    ·exact .inl (.inr h')
    ·exact .inr (.inr h')
  rcases hp with hp|hp
  ·obtain⟨r,h1,h2⟩:=zak.1 hp;exact key r (.inl h1) h2
  ·obtain⟨r,h1,h2⟩:=zak.1 hp;exact key r (.inr h1) h2
 refine⟨?_,λθ e q=>?_,?_,λq hq=>?_,?_,λp n1 n2=>?_,λq hq=>?_,λq hq p hp=>?_,λq hq p hp=>?_,λp hp=>?_,λq1 q2 q=>?_,λq=>?_,k.tk.trans h.tk⟩
 ·rw[he]
  constructor
  ·rw[<-zam,<-zam,h.eq]
  ·rw[<-zam,<-zam,k.eq]
 ·obtain⟨e1,e2⟩:=(he θ).1 e
  have g1:=h.mgu θ e1;have g2:=k.mgu θ (by rw[zam,zam,zao λq _=>g1 q,zao (t:=d) λq _=>g1 q];exact e2);show usub θ (usub δ2 (δ1 q))=θ q;rw[zam,zao λq _=>g2 q];exact g1 q
 ·refine List.nodup_append.2 ⟨h.nd,k.nd,λx hx y hy e=>?_⟩
  subst e;exact((h.mem x).1 (k.sub x hy).1).2 hx
 ·rcases z1y.1 hq with hq|hq
  ·have s1':=h.sub q hq
   refine⟨s1'.1,λe=>?_,?_⟩
   ·have:inU q (usub δ2 (δ1 q)):=by
     have e':=e;rw[e'];simp
    obtain⟨r,h1,h2⟩:=zak.1 this;have d1:=h.D q s1'.1 r h1;have d2:=k.D r d1.1 q h2;exact((h.mem q).1 ((k.mem q).1 d2.1).1).2 hq
   ·rw[i1,i2]
    rcases s1'.2.2 with h'|h'
    ·exact .inl (.inl h')
    ·exact .inr (.inl h')
  ·have s2':=k.sub q hq
   have m1:=(h.mem q).1 s2'.1;refine⟨m1.1,λe=>?_,back q s2'.2.2⟩;have e':=e;rw[h.out q m1.2] at e';exact s2'.2.1 e'
 ·rw[k.A,h.A,List.filter_filter]
  congr 1;funext p;simp[Bool.and_comm]
 ·have n1':=λh'=>n1 ((i1 p).2 h')
  have n2':=λh'=>n2 ((i2 p).2 h')
  rw[k.fr p (λh'=>by rcases back p (.inl h') with h''|h'';exact n1 h'';exact n2 h'') (λh'=>by rcases back p (.inr h') with h''|h'';exact n1 h'';exact n2 h'')];exact h.fr p (λh'=>n1' (.inl h')) (λh'=>n2' (.inl h'))
 ·simp only[z1y,not_or] at hq
  show usub δ2 (δ1 q)=tU q;rw[h.out q hq.1];exact k.out q hq.2
 ·have hp':=hp
  obtain⟨r,h1,h2⟩:=zak.1 hp';by_cases hr:r∈S2
  ·exact back p (k.img r hr p h2)
  ·rw[k.out r hr] at h2
   simp at h2;subst h2;rcases z1y.1 hq with hq|hq
   ·rw[i1,i2]
    rcases h.img q hq r h1 with h'|h'
    ·exact .inl (.inl h')
    ·exact .inr (.inl h')
   ·have m1:=(h.mem q).1 (k.sub q hq).1
    rw[h.out q m1.2] at h1;simp at h1;subst h1;exact absurd hq hr
 ·have hp':=hp
  obtain⟨r,h1,h2⟩:=zak.1 hp';have d1:=h.D q hq r h1;have d2:=k.D r d1.1 p h2;exact⟨d2.1,z1c d2.2 d1.2⟩
 ·obtain⟨r,r1,r2,r3⟩:=k.R p hp
  obtain⟨q,q1,q2,q3⟩:=h.R r r1;exact⟨q,q1,z1c q2 r2,zak.2 ⟨r,q3,r3⟩⟩
 ·obtain⟨pa,pb⟩:=p1 q1
  obtain⟨pc,pd⟩:=p2 q2;have g1:=h.pl pa pc;have g2:=k.pl (zet pb λq _=>g1 q) (zet pd λq _=>g1 q);exact zet (g1 q) λr _=>g2 r
 ·exact(h.tr q).usub λr _=>k.tr r
theorem Un.idle (h:Un s a b s' δ []):δ=tU:=funext λq=>h.out q (by simp)
theorem Un.fewer (h:Un s a b s' δ S) (hS:S≠[]):s'.A.length<s.A.length:=by
 have:=zln h.nd λq hq=>(h.sub q hq).1
 have:0<S.length:=by cases S with|nil=>exact absurd rfl hS|cons=>simp
 rw[h.A];omega
def Not2 (a b:Ty):Prop:=∀θ:Nat->Ty,usub θ a≠usub θ b
theorem Not2.symm (h:Not2 a b):Not2 b a:=λθ e=>h θ e.symm
theorem Not2.occurs (h:inU u0 t) (hn:t≠tU u0) (ht:Trim t):Not2 (tU u0) t:=by
 intro θ e;refine Go.Proofs.YtceadeaodbadlaaGreatDoor.occurs h (λo u a b ht'=>?_) e;subst ht';rcases ht with ⟨_,rfl,rfl⟩|⟨e,_⟩|⟨e,_⟩
 ·rcases h with ⟨_,rfl⟩|⟨h,_⟩
  ·exact hn rfl
  ·exact h rfl
 ·exact absurd e (by decide)
 ·rcases e with e|e<;>exact absurd e (by decide)
theorem Not2.later (h:Un s a c s' δ S) (k:Not2 (usub δ b) (usub δ d)) (he:∀θ:Nat->Ty,usub θ t1=usub θ t2->usub θ a=usub θ c/\usub θ b=usub θ d):Not2 t1 t2:=by
 intro θ e;obtain⟨e1,e2⟩:=he θ e;have g:=h.mgu θ e1;refine k θ ?_;rw[zam,zam,zao λq _=>g q,zao (t:=d) λq _=>g q];exact e2
theorem Not2.tags {g g':Nat} {a' b':Ty} {u u':Unit} (h:g≠g') (h1:g≠6) (h2:g'≠6):Not2 (.node g o u a b) (.node g' o' u' a' b'):=by
 intro θ e;simp only[usub,if_neg h1,if_neg h2,Go.Deep.BT.node.injEq] at e;exact h e.1
theorem Not2.vars (h:o≠o'):Not2 (tV o) (tV o'):=by
 intro θ e;simp at e;exact h e
end
structure SeI (lv:Int) (s:Sta) (t:Ty) (s':Sta) (δ:Nat->Ty) (qs:List Nat):Prop where
 nd:qs.Nodup
 all:∀q,q∈qs ↔ q∈s.A/\inU q t/\lv<(s.lev q:Int)
 pos:∀i q,qs[i]? =some q->δ q=tV (zac (s.tk+i))
 out:∀q,q∉qs->δ q=tU q
 A:s'.A=s.A.filter λp=>!qs.contains p
 lev:∀p,s'.lev p=s.lev p
 tk:s'.tk=s.tk+qs.length
section
variable {lv:Int} {qs:List Nat} {q:Nat} {δ:Nat->Ty} {s s':Sta} {t a:Ty}
theorem SeI.mem (h:SeI lv s t s' δ qs) (p:Nat):p∈s'.A ↔ p∈s.A/\p∉qs:=by rw[h.A];exact zqh
theorem SeI.var (h:SeI lv s t s' δ qs) (hq:q∈qs):∃i,qs[i]? =some q/\δ q=tV (zac (s.tk+i)):=by
 obtain⟨i,hi,e⟩:=List.mem_iff_getElem.1 hq;have:qs[i]? =some q:=by rw[z1h hi,e]
 exact⟨i,this,h.pos i q this⟩
theorem SeI.one1 (h:SeI lv s t s' δ qs) (q:Nat):sz (δ q)=1/\Trim (δ q):=by
 by_cases hq:q∈qs
 ·obtain⟨i,_,e⟩:=h.var hq
  rw[e];exact⟨by simp[sz],trimV _⟩
 ·rw[h.out q hq];exact⟨by simp[sz],zil _⟩
theorem SeI.none (h:∀q,inU q t->q∈s.A->(s.lev q:Int)<=lv):SeI lv s t s tU []:=
 ⟨List.nodup_nil,λq=>⟨λh=>absurd h (by simp),λ⟨h1,h2,h3⟩=>absurd (h q h2 h1) (by omega)⟩,λi q h=>absurd h (by simp),λ_ _=>rfl,(List.filter_eq_self.2 λp _=>by simp).symm,λ_=>rfl,rfl⟩
theorem SeI.one (hq:q∈s.A) (hl:lv<(s.lev q:Int)):SeI lv s (tU q) ⟨s.A.filter λp=>![q].contains p,s.lev,s.tk+1⟩ (oneU q (tV (zac s.tk))) [q]:=by
 refine⟨by simp,λp=>?_,λi p h=>?_,λp hp=>zfl _ (by simpa using hp),rfl,λ_=>rfl,rfl⟩
 ·simp only[List.mem_singleton,inU_U]
  constructor
  ·rintro rfl;exact⟨hq,rfl,hl⟩
  ·rintro⟨_,rfl,_⟩;rfl
 ·cases i with
  |zero=>simp at h;subst h;rw[zeg];rfl
  |succ i=>simp at h
theorem SeI.map (h:SeI lv s a s' δ qs) (i1:∀q,inU q t ↔ inU q a):SeI lv s t s' δ qs:=
 ⟨h.nd,λq=>by rw[i1];exact h.all q,h.pos,h.out,h.A,h.lev,h.tk⟩
theorem SeI.both {s1 s2:Sta} {b:Ty} {δ1 δ2:Nat->Ty} {q1 q2:List Nat} (h:SeI lv s a s1 δ1 q1) (k:SeI lv s1 (usub δ1 b) s2 δ2 q2) (i1:∀q,inU q t ↔ inU q a\/inU q b):SeI lv s t s2 (λq=>usub δ2 (δ1 q)) (q1++q2):=by
 have inb:∀q,inU q (usub δ1 b) ↔ inU q b/\q∉q1:=by
  intro q;constructor
  ·intro hq
   obtain⟨p,h1,h2⟩:=zak.1 hq;by_cases hp:p∈q1
   ·obtain⟨i,_,e⟩:=h.var hp
    rw[e] at h2;simp at h2
   ·rw[h.out p hp] at h2
    simp at h2;subst h2;exact⟨h1,hp⟩
  ·rintro⟨h1,h2⟩
   exact zak.2 ⟨q,h1,by rw[h.out q h2];simp⟩
 refine⟨?_,λq=>?_,λi q hi=>?_,λq hq=>?_,?_,λp=>(k.lev p).trans (h.lev p),by rw[k.tk,h.tk];simp;omega⟩
 ·refine List.nodup_append.2 ⟨h.nd,k.nd,λx hx y hy e=>?_⟩
  subst e;exact((inb x).1 ((k.all x).1 hy).2.1).2 hx
 ·rw[z1y,i1]
  constructor
  ·rintro(hq|hq)
   ·have:=(h.all q).1 hq;exact⟨this.1,.inl this.2.1,this.2.2⟩
   ·have:=(k.all q).1 hq
    rw[h.lev] at this;exact⟨((h.mem q).1 this.1).1,.inr ((inb q).1 this.2.1).1,this.2.2⟩
  ·rintro⟨m1,m2,m3⟩
   by_cases hq:q∈q1
   ·exact .inl hq
   ·rcases m2 with m2|m2
    ·exact .inl ((h.all q).2 ⟨m1,m2,m3⟩)
    ·exact .inr ((k.all q).2 ⟨(h.mem q).2 ⟨m1,hq⟩,(inb q).2 ⟨m2,hq⟩,by rw[h.lev];exact m3⟩)
 ·show usub δ2 (δ1 q)=_
  by_cases hlt:i<q1.length
  ·rw[z1t hlt] at hi
   rw[h.pos i q hi];rfl
  ·rw[List.getElem?_append_right (by omega)] at hi
   have hm:=z1m hi;rw[h.out q ((inb q).1 ((k.all q).1 hm).2.1).2];show δ2 q=_;rw[k.pos _ q hi,h.tk];congr 2;omega
 ·simp only[z1y,not_or] at hq
  show usub δ2 (δ1 q)=tU q;rw[h.out q hq.1];exact k.out q hq.2
 ·rw[k.A,h.A,List.filter_filter]
  congr 1;funext p;simp[Bool.and_comm]
theorem SeI.low (h:SeI lv s t s' δ qs) (hA:∀q,inU q t->q∈s.A):∀p,inU p (usub δ t)->p∈s'.A/\(s'.lev p:Int)<=lv/\inU p t:=by
 intro p hp;obtain⟨q,h1,h2⟩:=zak.1 hp;by_cases hq:q∈qs
 ·obtain⟨i,_,e⟩:=h.var hq
  rw[e] at h2;simp at h2
 ·rw[h.out q hq] at h2
  simp at h2;subst h2;refine⟨(h.mem q).2 ⟨hA q h1,hq⟩,?_,h1⟩;rw[h.lev];by_cases e:lv<(s.lev q:Int)
  ·exact absurd ((h.all q).2 ⟨hA q h1,h1,e⟩) hq
  ·omega
theorem zez (h:∀q,sz (δ q)=1):∀t,Trim t->sz (usub δ t)=sz t:=by
 intro t
 induction t with
 |nil=>intro h;exact h.elim
 |node g o u a b iha ihb=>
  intro ht
  cases u
  rcases ht with ⟨h1,rfl,rfl⟩|⟨rfl,ha,rfl⟩|⟨h1,ha,hb⟩
  ·rcases h1 with rfl|rfl|rfl|rfl
   ·rfl
   ·rfl
   ·rfl
   ·show sz (δ o)=_;rw[h];simp[sz]
  ·show sz (.node 3 o () (usub δ a) .nil)=_;simp only[sz];rw[iha ha]
  ·rcases h1 with rfl|rfl
   ·show sz (.node 4 o () (usub δ a) (usub δ b))=_;simp only[sz];rw[iha ha,ihb hb]
   ·show sz (.node 5 o () (usub δ a) (usub δ b))=_;simp only[sz];rw[iha ha,ihb hb]
theorem SeI.tot (h:SeI lv s t s' δ qs):tot s'<=Go.Proofs.YtceadeaodbadlaaGreatDoor.tot s:=by
 have:=zln h.nd λq hq=>((h.all q).1 hq).1
 unfold Go.Proofs.YtceadeaodbadlaaGreatDoor.tot;rw[h.A,h.tk];omega
theorem zkj {a b:Nat} (ha:a<260) (hb:b<260) (h:zac a=zac b):a=b:=by unfold zac at h;omega
theorem nameNo_in {a:Nat} (ha:a<260):970<=zac a/\zac a<1230:=by unfold zac;omega
theorem zwd {k n:Nat} (h:k+n<=260):((List.range n).map λi=>zac (k+i)).Nodup:=by
 rw[List.Nodup,List.pairwise_map];refine List.Pairwise.imp_of_mem (R:=(·≠·)) (λ{a b} ha hb hne e=>?_) List.nodup_range;have:=zkj (by have:=List.mem_range.1 ha;omega) (by have:=List.mem_range.1 hb;omega) e;omega
theorem SeI.stl {L:Nat} (h:SeI (L:Int) s t s' δ qs) (ht:Go.Proofs.YtceadeaodbadlaaGreatDoor.tot s<=260):Stl L s t s' δ ((List.range qs.length).map λi=>zac (s.tk+i)) qs:=by
 have hl:=zhc h.nd λq hq=>((h.all q).1 hq).1
 unfold Go.Proofs.YtceadeaodbadlaaGreatDoor.tot at ht;exact⟨rfl,zwd (by omega),h.nd,λq=>by rw[h.all];constructor<;>rintro⟨a,b,c⟩<;>exact⟨a,b,by omega⟩,h.pos,h.out,h.A,h.lev,h.tk⟩
end
def FndT:Ex->Nat->Sta->Env->Sta->(Nat->Ty)->Ty->List Ty->Prop
 | .nil,_,_,_,_,_,_,_=>False
 | .node t _ x a b,L,s,Γ,s',δ,τ,Ts=>
  (t=0/\∃sc qs,Γ x.c=some sc/\NewS L s qs s'/\qs.length=sc.2.length/\δ=tU/\τ=putT sc.2 (qs.map tU) sc.1/\Ts=qs.map tU)\/
  (t=1/\∃qs,NewS L s qs s'/\qs.length=(conS x.c).2.length/\δ=tU/\τ=putT (conS x.c).2 (qs.map tU) (conS x.c).1/\Ts=qs.map tU)\/
  (t=2/\s'=s/\δ=tU/\(τ=if x.c=84\/x.c=70 then tB else tI)/\Ts=[])\/
  (t=3/\∃q s1 τb T1,New L s q s1/\FndT a L s1 (zap Γ x.c (tU q,[])) s' δ τb T1/\τ=tF (δ q) τb/\Ts=δ q::T1)\/
  (t=4/\∃s1 δ1 τ1 T1 s2 δ2 vs qs δ3 T2,FndT a (L+1) s Γ s1 δ1 τ1 T1/\Stl L s1 τ1 s2 δ2 vs qs/\FndT b L s2 (zap (gmap δ2 (gmap δ1 Γ)) x.c (usub δ2 τ1,vs)) s' δ3 τ T2/\(δ=λq=>usub δ3 (usub δ2 (δ1 q)))/\Ts=T1.map (λu=>usub δ3 (usub δ2 u))++T2)\/
  (t=5/\∃s1 δ1 τ1 T1 s2 δ2 τ2 T2 q s3 δ3 S,FndT a L s Γ s1 δ1 τ1 T1/\FndT b L s1 (gmap δ1 Γ) s2 δ2 τ2 T2/\New L s2 q s3/\Un s3 (usub δ2 τ1) (tF τ2 (tU q)) s' δ3 S/\τ=δ3 q/\(δ=λq=>usub δ3 (usub δ2 (δ1 q)))/\Ts=T1.map (λu=>usub δ3 (usub δ2 u))++T2.map (usub δ3))
theorem FndT.fnd:∀{e:Ex} {L:Nat} {s:Sta} {Γ:Env} {s':Sta} {δ:Nat->Ty} {τ:Ty} {Ts:List Ty},FndT e L s Γ s' δ τ Ts->Fnd e L s Γ s' δ τ:=by
 intro e
 induction e with
 |nil=>intro L s Γ s' δ τ Ts h;exact h.elim
 |node k o x a b iha ihb=>
  intro L s Γ s' δ τ Ts h;rcases h with ⟨e,sc,qs,h1,h2,h3,h4,h5,_⟩|⟨e,qs,h2,h3,h4,h5,_⟩|⟨e,h1,h2,h3,_⟩|⟨e,q,s1,τb,T1,h1,h2,h3,_⟩|⟨e,s1,δ1,τ1,T1,s2,δ2,vs,qs,δ3,T2,h1,h2,h3,h4,_⟩|⟨e,s1,δ1,τ1,T1,s2,δ2,τ2,T2,q,s3,δ3,S,h1,h2,h3,h4,h5,h6,_⟩
  ·exact .inl ⟨e,sc,h1,qs,h2,h3,h4,h5⟩
  ·exact .inr (.inl ⟨e,qs,h2,h3,h4,h5⟩)
  ·exact .inr (.inr (.inl ⟨e,h1,h2,h3⟩))
  ·exact .inr (.inr (.inr (.inl ⟨e,q,s1,τb,h1,iha h2,h3⟩)))
  ·exact .inr (.inr (.inr (.inr (.inl ⟨e,s1,δ1,τ1,s2,δ2,vs,qs,δ3,iha h1,h2,ihb h3,h4⟩))))
  ·exact .inr (.inr (.inr (.inr (.inr ⟨e,s1,δ1,τ1,s2,δ2,τ2,q,s3,δ3,S,iha h1,ihb h2,h3,h4,h5,h6⟩))))
theorem FndT.un:∀{e:Ex} {L:Nat} {s:Sta} {Γ:Env} {s':Sta} {δ:Nat->Ty} {τ:Ty} {Ts:List Ty},FndT e L s Γ s' δ τ Ts->EnvU L s Γ->∀u∈Ts,∀q,inU q u->q∈s'.A:=by
 intro e
 induction e with
 |nil=>intro L s Γ s' δ τ Ts h;exact h.elim
 |node k o x a b iha ihb=>
  intro L s Γ s' δ τ Ts h hΓ u hu q hq;rcases h with ⟨e,sc,qs,h1,h2,h3,h4,h5,rfl⟩|⟨e,qs,h2,h3,h4,h5,rfl⟩|⟨e,h1,h2,h3,rfl⟩|⟨e,p,s1,τb,T1,h1,h2,h3,rfl⟩|⟨e,s1,δ1,τ1,T1,s2,δ2,vs,qs,δ3,T2,h1,h2,h3,h4,rfl⟩|⟨e,s1,δ1,τ1,T1,s2,δ2,τ2,T2,p,s3,δ3,S,h1,h2,h3,h4,h5,h6,rfl⟩
  ·obtain⟨r,hr,rfl⟩:=z1z.1 hu
   simp at hq;subst hq;exact(h2.is.2.1 r hr).2.1
  ·obtain⟨r,hr,rfl⟩:=z1z.1 hu
   simp at hq;subst hq;exact(h2.is.2.1 r hr).2.1
  ·simp at hu
  ·obtain⟨i1,i2⟩:=zat _ _ _ _ _ _ _ h2.fnd (zef h1 hΓ)
   rcases List.mem_cons.1 hu with rfl|hu
   ·exact(i1.D p (by rw[h1.A];exact z1k) q hq).1
   ·exact iha h2 (zef h1 hΓ) u hu q hq
  ·obtain⟨j1,j2⟩:=zat _ _ _ _ _ _ _ h3.fnd (zcx h1.fnd h2 hΓ)
   rcases z1y.1 hu with hu|hu
   ·obtain⟨r,hr,rfl⟩:=z1z.1 hu
    obtain⟨p1,k1,k2⟩:=zak.1 hq;obtain⟨p2,k3,k4⟩:=zak.1 k1;exact(j1.D p1 ((h2.sp).D p2 (iha h1 hΓ.up r hr p2 k3) p1 k4).1 q k2).1
   ·exact ihb h3 (zcx h1.fnd h2 hΓ) u hu q hq
  ·obtain⟨i1,i2⟩:=zat _ _ _ _ _ _ _ h1.fnd hΓ
   obtain⟨j1,j2⟩:=zat _ _ _ _ _ _ _ h2.fnd (hΓ.step i1);have up:∀r∈s2.A,r∈s3.A:=λr hr=>by rw[h3.A];exact z1j _ hr
   rcases z1y.1 hu with hu|hu
   ·obtain⟨r,hr,rfl⟩:=z1z.1 hu
    obtain⟨p1,k1,k2⟩:=zak.1 hq;obtain⟨p2,k3,k4⟩:=zak.1 k1;exact(h4.D p1 (up _ (j1.D p2 (iha h1 hΓ r hr p2 k3) p1 k4).1) q k2).1
   ·obtain⟨r,hr,rfl⟩:=z1z.1 hu
    obtain⟨p1,k1,k2⟩:=zak.1 hq;exact(h4.D p1 (up _ (ihb h2 (hΓ.step i1) r hr p1 k1)) q k2).1
section
variable {qs:List Nat} {M L:Nat} {f θ0:Nat->Ty} {sc:Sch} {s:Sta}
theorem sz_mono {g:Nat->Ty}:∀{t:Ty},(∀q,inU q t->sz (f q)<=sz (g q))->sz (usub f t)<=sz (usub g t):=by
 intro t
 induction t with
 |nil=>intro _;exact z1d _
 |node k o u a b iha ihb=>
  intro h;by_cases hg:k=6
  ·simp only[usub,if_pos hg];exact h o (.inl ⟨hg,rfl⟩)
  ·simp only[usub,if_neg hg,sz]
   have:=iha λq hq=>h q (.inr ⟨hg,.inl hq⟩)
   have:=ihb λq hq=>h q (.inr ⟨hg,.inr hq⟩)
   omega
theorem zux {t:Ty} (h:Ok t):1<=sz t:=by
 cases t with
 |nil=>exact h.elim
 |node=>simp[sz]
theorem msub_part {θ φ:Nat->Ty} {o:Nat}:∀{t:Ty},inT o t=true->Trim t->sz (φ o)<=sz (msub θ φ t):=by
 intro t
 induction t with
 |nil=>intro h;simp[inT] at h
 |node k p u a b iha ihb=>
  intro h ht;rcases ht with ⟨k1,rfl,rfl⟩|⟨rfl,ha,rfl⟩|⟨k1,ha,hb⟩
  ·simp only[inT,Bool.or_false,Bool.and_eq_true,beq_iff_eq] at h
   obtain⟨rfl,rfl⟩:=h;exact z1d _
  ·have h':inT o a=true:=by simpa [inT] using h
   have:=iha h' ha;show _<=sz (msub θ φ a)+0+1;omega
  ·have h':inT o a=true\/inT o b=true:=by
    rcases k1 with rfl|rfl<;>simpa [inT] using h
   have e:sz (msub θ φ (.node k p u a b))=sz (msub θ φ a)+sz (msub θ φ b)+1:=by rcases k1 with rfl|rfl<;>rfl
   rw[e];rcases h' with h'|h'
   ·have:=iha h' ha;omega
   ·have:=ihb h' hb;omega
theorem look_fun:∀(v:List Nat) (o:Nat),o∈v->look (v.zip (v.map f)) o=some (f o):=by
 intro v
 induction v with
 |nil=>intro o h;cases h
 |cons p v ih=>
  intro o h;simp only[List.map_cons,List.zip_cons_cons,look];by_cases e:p=o
  ·rw[if_pos e,e]
  ·rw[if_neg e]
   rcases List.mem_cons.1 h with h|h
   ·exact absurd h.symm e
   ·exact ih o h
theorem look_in {x:Ty}:∀{v:List Nat} {gs:List Ty} {o:Nat},look (v.zip gs) o=some x->x∈gs:=by
 intro v
 induction v with
 |nil=>intro gs o h;simp[look] at h
 |cons p v ih=>
  intro gs o h
  cases gs with
  |nil=>simp[look] at h
  |cons g gs=>
   simp only[List.zip_cons_cons,look] at h;by_cases e:p=o
   ·rw[if_pos e] at h;cases h;exact z1k
   ·rw[if_neg e] at h;exact z1j _ (ih h)
theorem znm {gs:List Ty} {ty:Ty} (hM:1<=M) (ht:Trim sc.1) (hown:∀o,inT o sc.1=true->o∈sc.2) (e:ty=msub θ0 (λo=>(look (sc.2.zip gs) o).getD (tV o)) sc.1) (hb:Bd M ty):
 ∃gs':List Ty,gs'.length=sc.2.length/\ty=msub θ0 (λo=>(look (sc.2.zip gs') o).getD (tV o)) sc.1/\∀g∈gs',1<=sz g/\sz g<=M:=by
 refine⟨sc.2.map λo=>if inT o sc.1=true then (look (sc.2.zip gs) o).getD (tV o) else tI,by simp,?_,λg hg=>?_⟩
 ·rw[e]
  refine zdr (λ_ _=>rfl) λo ho=>?_
  rw[look_fun _ o (hown o ho)];simp only[Option.getD_some,if_pos ho]
 ·obtain⟨o,ho,rfl⟩:=z1z.1 hg
  by_cases hi:inT o sc.1=true
  ·simp only[if_pos hi]
   have hk:=hb.1;rw[e] at hk;have h1:=(zqo ht hk).2.1 o hi;have h2:=msub_part (θ:=θ0) (φ:=λo=>(look (sc.2.zip gs) o).getD (tV o)) hi ht;rw[<-e] at h2;exact⟨by have:=zux h1;exact this,z1c h2 hb.2⟩
  ·simp only[if_neg hi]
   exact⟨z1d _,hM⟩
theorem tkn_all {s':Sta} (h1:NewS L s qs s') (h2:qs.length=sc.2.length) (hs:SchU L s sc) (θ0:Nat->Ty) (gs:List Ty) (hg:gs.length=sc.2.length):
 (∀q∈s.A,(look (qs.zip gs) q).getD (θ0 q)=θ0 q)/\usub (λq=>(look (qs.zip gs) q).getD (θ0 q)) (putT sc.2 (qs.map tU) sc.1)=msub θ0 (λo=>(look (sc.2.zip gs) o).getD (tV o)) sc.1:=by
 obtain⟨i1,i2,i3,i4,i5,i6⟩:=h1.is;have hout:∀q∈s.A,look (qs.zip gs) q=none:=λq hq=>ziv λhm=>(i2 q hm).1 hq
 refine⟨λq hq=>by rw[hout q hq];rfl,?_⟩;rw[zcd _ _ _ hs.tr,zsi];refine zdr (λq hq=>?_) λo ho=>?_
 ·show (look (qs.zip gs) q).getD (θ0 q)=θ0 q
  rw[hout q (hs.un q hq).1];rfl
 ·obtain⟨x,hx⟩:=zcr (v:=sc.2) (gs:=qs.map tU) (by simpa using h2) (hs.own o ho)
  obtain⟨q,hq,rfl,e⟩:=look_qs i1 h2 hg hx;obtain⟨y,hy⟩:=zcr (v:=sc.2) (gs:=gs) hg (hs.own o ho);rw[hx,hy];show (look (qs.zip gs) q).getD (θ0 q)=y;rw[e,hy];rfl
theorem let_mt2 {a:Ex} {s1 s2:Sta} {Γ:Env} {δ1 δ2:Nat->Ty} {τ1:Ty} {vs:List Nat} {c:Nat} {θ1:Nat->Ty} {E:SEnv} {S:Ty->Prop} (h1:Fnd a (L+1) s Γ s1 δ1 τ1) (h2:Stl L s1 τ1 s2 δ2 vs qs) (hΓ:EnvU L s Γ) (hm:Mt θ0 Γ E) (hS:∀t,S t->HTy a E t) (a1:∀q∈s.A,s.lev q<=L+1->usub θ1 (δ1 q)=θ0 q):
 Mt θ1 (zap (gmap δ2 (gmap δ1 Γ)) c (usub δ2 τ1,vs)) (sset E c S):=by
 have H:Most a (L+1) s Γ δ1 τ1:=zcv _ _ _ _ _ _ _ h1 hΓ.up;obtain⟨i1,i2⟩:=zat _ _ _ _ _ _ _ h1 hΓ.up;have k1:=i1.down;have k2:=h2.sp;have hlow:∀q∈s1.A,s1.lev q<=L->q∉qs:=λq _ hl hq=>by have:=((h2.all q).1 hq).2.2;omega
 have m1:=hm.step hΓ k1 λq hq hl=>a1 q hq (by omega)
 have m2:=m1.step (hΓ.step k1) k2 λq hq hl=>by rw[h2.out q (hlow q hq hl)];rfl
 have hvl:vs.length=qs.length:=by rw[h2.vsE];simp
 refine m2.set λty hty=>?_
 obtain⟨θs,b1,b2⟩:=H θ0 E ty hm (hS ty hty);refine⟨qs.map θs,by simp[hvl],?_⟩;show ty=msub θ1 _ (usub δ2 τ1);rw[ziy _ _ _ _ i2.pl,<-b2];refine zao λq hq=>?_
 have hqA:=i2.un q hq;by_cases hm:q∈qs
 ·obtain⟨i,hi,e⟩:=h2.var hm
  have hvi:vs[i]? =some (zac (s1.tk+i)):=by
   rw[h2.vsE,z1n,List.getElem?_range (z1b.1 hi).1];rfl
  rw[e];show θs q=(look (vs.zip (qs.map θs)) (zac (s1.tk+i))).getD _;rw[look_vs (f:=θs) h2.vnd hvl hi _ hvi];rfl
 ·rw[h2.out q hm]
  show θs q=θ1 q
  have hl:s1.lev q<=L:=by
   by_cases e:L<s1.lev q
   ·exact absurd ((h2.all q).2 ⟨hqA.1,hq,e⟩) hm
   ·omega
  obtain⟨q0,c1,c2,c3⟩:=i1.R q hqA.1 (by omega);have d1:=a1 q0 c1 (by omega);have d2:=b1 q0 c1 (by omega);exact zxe (d2.trans d1.symm) q c3
theorem fnd_sz (hM:1<=M):∀(e:Ex) (L:Nat) (s:Sta) (Γ:Env) (s':Sta) (δ:Nat->Ty) (τ:Ty) (Ts:List Ty),FndT e L s Γ s' δ τ Ts->EnvU L s Γ->∀(θ0:Nat->Ty) (E:SEnv) (t:Ty),Mt θ0 Γ E->HTyB M e E t->(∀q,1<=sz (θ0 q))->
 ∃θ:Nat->Ty,(∀q∈s.A,usub θ (δ q)=θ0 q)/\usub θ τ=t/\(∀q,1<=sz (θ q))/\∀u∈Ts,sz (usub θ u)<=M:=by
 intro e
 induction e with
 |nil=>intro L s Γ s' δ τ Ts h;exact h.elim
 |node k o x a b iha ihb=>
  intro L s Γ s' δ τ Ts h hΓ θ0 E t hm ht h0
  --taken at unknowns
  have tk:∀(sc:Sch) (qs:List Nat) (gs:List Ty),NewS L s qs s'->qs.length=sc.2.length->SchU L s sc->gs.length=sc.2.length->(∀g∈gs,1<=sz g/\sz g<=M)->t=msub θ0 (λo=>(look (sc.2.zip gs) o).getD (tV o)) sc.1->δ=tU->τ=putT sc.2 (qs.map tU) sc.1->Ts=qs.map tU->
   ∃θ:Nat->Ty,(∀q∈s.A,usub θ (δ q)=θ0 q)/\usub θ τ=t/\(∀q,1<=sz (θ q))/\∀u∈Ts,sz (usub θ u)<=M:=by
   rintro sc qs gs g1 g2 g3 g4 g5 rfl rfl rfl rfl;obtain⟨r1,r2⟩:=tkn_all g1 g2 g3 θ0 gs g4;refine⟨_,λq hq=>r1 q hq,r2,λq=>?_,λu hu=>?_⟩
   ·cases hl:look (qs.zip gs) q with
    |none=>exact h0 q
    |some y=>exact(g5 y (look_in hl)).1
   ·obtain⟨q,hq,rfl⟩:=z1z.1 hu
    obtain⟨y,hy⟩:=zcr (v:=qs) (gs:=gs) (by rw[g4,g2]) hq;show sz ((look (qs.zip gs) q).getD (θ0 q))<=M;rw[hy];exact(g5 y (look_in hy)).2
  rcases h with ⟨rfl,sc,qs,h1,h2,h3,h4,h5,h6⟩|⟨rfl,qs,h2,h3,h4,h5,h6⟩|⟨rfl,rfl,rfl,rfl,rfl⟩|⟨rfl,q,s1,τb,T1,h1,h2,rfl,rfl⟩|⟨rfl,s1,δ1,τ1,T1,s2,δ2,vs,qs,δ3,T2,h1,h2,h3,rfl,rfl⟩|⟨rfl,s1,δ1,τ1,T1,s2,δ2,τ2,T2,q,s3,δ3,S,h1,h2,h3,h4,rfl,rfl,rfl⟩
  ·rcases ht with ⟨_,⟨S,g1,g2⟩,hb⟩|⟨e,_⟩|⟨e,_⟩|⟨e,_⟩|⟨e,_⟩|⟨e,_⟩<;>first|(exact absurd e (by decide))|skip
   obtain⟨sc',g3,g4⟩:=hm _ _ g1;rw[h1] at g3
   cases g3
   obtain⟨gs,hg,e⟩:=g4 t g2;have u:=hΓ _ _ h1;obtain⟨gs',r1,r2,r3⟩:=znm hM u.tr u.own e hb;exact tk sc qs gs' h2 h3 u r1 r3 r2 h4 h5 h6
  ·rcases ht with ⟨e,_⟩|⟨_,⟨gs,hg,e⟩,hb⟩|⟨e,_⟩|⟨e,_⟩|⟨e,_⟩|⟨e,_⟩<;>first|(exact absurd e (by decide))|skip
   have u:=zop L s x.c
   have e':t=msub θ0 (λo=>(look ((conS x.c).2.zip gs) o).getD (tV o)) (conS x.c).1:=by
    rw[e,zcd _ _ _ u.tr];exact zdr (λq hq=>absurd hq ((zfm x.c).1.shut.1 q)) λ_ _=>rfl
   obtain⟨gs',r1,r2,r3⟩:=znm hM u.tr u.own e' hb;exact tk (conS x.c) qs gs' h2 h3 u r1 r3 r2 h4 h5 h6
  ·rcases ht with ⟨e,_⟩|⟨e,_⟩|⟨_,rfl⟩|⟨e,_⟩|⟨e,_⟩|⟨e,_⟩<;>first|(exact absurd e (by decide))|skip
   refine⟨θ0,λq _=>rfl,?_,h0,λu hu=>by cases hu⟩;split<;>rfl
  ·rcases ht with ⟨e,_⟩|⟨e,_⟩|⟨e,_⟩|⟨_,u,r,rfl,hb,h3⟩|⟨e,_⟩|⟨e,_⟩<;>first|(exact absurd e (by decide))|skip
   have hz:=hb.2;simp only[sz] at hz
   have hu1:1<=sz u:=by
    rcases hb.1.cases with h|h|⟨_,_,_,h⟩|⟨_,_,h⟩|⟨_,_,_,_,h⟩|⟨a',b',ha,hb',h⟩<;>simp at h
    obtain⟨rfl,rfl⟩:=h;exact zux ha
   have qin:q∈s1.A:=by rw[h1.A];exact z1k
   have hne:∀p∈s.A,p≠q:=λp hp e=>h1.fresh (e ▸ hp)
   obtain⟨θ,i1,i2,i3,i4⟩:=iha _ _ _ _ _ _ _ h2 (zef h1 hΓ) _ _ _ (zyb h1 hΓ hm u) h3 (λp=>by
    show 1<=sz (if p=q then u else θ0 p);split
    ·exact hu1
    ·exact h0 p)
   have e1:=i1 q qin;rw[if_pos rfl] at e1;refine⟨θ,λp hp=>?_,by rw[usub_F,e1,i2],i3,λv hv=>?_⟩
   ·have:=i1 p (by rw[h1.A];exact z1j _ hp)
    rw[this];exact if_neg (hne p hp)
   ·rcases List.mem_cons.1 hv with rfl|hv
    ·rw[e1];omega
    ·exact i4 v hv
  ·rcases ht with ⟨e,_⟩|⟨e,_⟩|⟨e,_⟩|⟨e,_⟩|⟨_,S,s0,hs0,hs1,hS,h4⟩|⟨e,_⟩<;>first|(exact absurd e (by decide))|skip
   obtain⟨i1,i2⟩:=zat _ _ _ _ _ _ _ h1.fnd hΓ.up;have k1:=i1.down;have hlow:∀q∈s1.A,s1.lev q<=L->q∉qs:=λq _ hl hq=>by have:=((h2.all q).1 hq).2.2;omega
   obtain⟨θ1,a1,a2,a3,a4⟩:=iha _ _ _ _ _ _ _ h1 hΓ.up θ0 E s0 hm hs1 h0;have m3:=let_mt2 (c:=x.c) h1.fnd h2 hΓ hm hS λq hq _=>a1 q hq
   obtain⟨θ3,c1,c2,c3,c4⟩:=ihb _ _ _ _ _ _ _ h3 (zcx h1.fnd h2 hΓ) θ1 _ _ m3 h4 a3
   --what was there is not generalised
   have hd:∀p∈s.A,∀q,inU q (δ1 p)->q∈s1.A/\q∉qs:=by
    intro p hp q hq;refine⟨(i1.D p hp q hq).1,?_⟩;by_cases hl:s.lev p<=L
    ·have:=i1.D p hp q hq
     exact hlow q this.1 (by omega)
    ·have nG:noG p Γ:=λc sc hc hi=>by have:=(hΓ c sc hc).un p hi;omega
     obtain⟨f1,f2⟩:=zio _ _ _ _ _ _ _ h1.fnd hΓ.up p hp nG;rw[f1.dl] at hq;simp at hq;subst hq;exact λhm=>f2 ((h2.all _).1 hm).2.1
   have inn:∀q,q∈s1.A->q∉qs->q∈s2.A:=λq h5 h6=>(h2.mem q).2 ⟨h5,h6⟩
   refine⟨θ3,λp hp=>?_,c2,c3,λu hu=>?_⟩
   ·show usub θ3 (usub δ3 (usub δ2 (δ1 p)))=θ0 p
    rw[zdu (k1.tr p hp) (δ:=δ2) λq hq=>h2.out q (hd p hp q hq).2,zam,<-a1 p hp];exact zao λq hq=>c1 q (inn q (hd p hp q hq).1 (hd p hp q hq).2)
   ·rcases z1y.1 hu with hu|hu
    ·obtain⟨r,hr,rfl⟩:=z1z.1 hu
     have un:=h1.un hΓ.up r hr
     have e:usub θ3 (usub δ3 (usub δ2 r))=usub (λq=>usub θ1 (δ2 q)) r:=by
      rw[zam θ3 δ3,zam];refine zao λq hq=>?_
      by_cases hm:q∈qs
      ·obtain⟨i,_,e⟩:=h2.var hm
       rw[e];rfl
      ·rw[h2.out q hm]
       exact c1 q (inn q (un q hq) hm)
     rw[e];refine z1c (sz_mono λq hq=>?_) (a4 r hr);by_cases hm:q∈qs
     ·obtain⟨i,_,e⟩:=h2.var hm
      rw[e];exact a3 q
     ·rw[h2.out q hm];exact z1d _
    ·exact c4 u hu
  ·rcases ht with ⟨e,_⟩|⟨e,_⟩|⟨e,_⟩|⟨e,_⟩|⟨e,_⟩|⟨_,u,t1,t2⟩<;>first|(exact absurd e (by decide))|skip
   obtain⟨i1,i2⟩:=zat _ _ _ _ _ _ _ h1.fnd hΓ;obtain⟨j1,j2⟩:=zat _ _ _ _ _ _ _ h2.fnd (hΓ.step i1);obtain⟨θ1,a1,a2,a3,a4⟩:=iha _ _ _ _ _ _ _ h1 hΓ θ0 E _ hm t1 h0;obtain⟨θ2,b1,b2,b3,b4⟩:=ihb _ _ _ _ _ _ _ h2 (hΓ.step i1) θ1 E _ (hm.step hΓ i1 λq hq _=>a1 q hq) t2 a3
   have ht1:1<=sz t:=by
    have hb:=t1.bd hM;rcases hb.1.cases with h|h|⟨_,_,_,h⟩|⟨_,_,h⟩|⟨_,_,_,_,h⟩|⟨a',b',ha,hb',h⟩<;>simp at h
    obtain⟨rfl,rfl⟩:=h;exact zux hb'
   have hA:∀p∈s2.A,p≠q:=λp hp e=>h3.fresh (e ▸ hp)
   have c0:∀r:Ty,(∀p,inU p r->p∈s2.A)->usub (λp=>if p=q then t else θ2 p) r=usub θ2 r:=λr hr=>zao λp hp=>if_neg (hA p (hr p hp))
   have e2:usub (λp=>if p=q then t else θ2 p) (usub δ2 τ1)=tF u t:=by
    rw[c0 _ λp hp=>((i2.step j1).un p hp).1,zam,<-a2];exact zao λp hp=>b1 p (i2.un p hp).1
   have e3:usub (λp=>if p=q then t else θ2 p) (tF τ2 (tU q))=tF u t:=by
    rw[usub_F,c0 _ λp hp=>(j2.un p hp).1,b2,usub_U,if_pos rfl]
   have d:=h4.mgu _ (e2.trans e3.symm)
   have back:∀r:Ty,(∀p,inU p r->p∈s1.A)->usub (λp=>if p=q then t else θ2 p) (usub δ3 (usub δ2 r))=usub θ1 r:=λr hr=>by
    rw[zam _ δ3,zao λp _=>d p,c0 _ λp hp=>by obtain⟨p1,k1,k2⟩:=zak.1 hp;exact(j1.D p1 (hr p1 k1) p k2).1,zam];exact zao λp hp=>b1 p (hr p hp)
   refine⟨λp=>if p=q then t else θ2 p,λp hp=>?_,(d q).trans (if_pos rfl),λp=>?_,λv hv=>?_⟩
   ·show usub _ (usub δ3 (usub δ2 (δ1 p)))=θ0 p
    rw[back _ λr hr=>(i1.D p hp r hr).1];exact a1 p hp
   ·show 1<=sz (if p=q then t else θ2 p)
    split
    ·exact ht1
    ·exact b3 p
   ·rcases z1y.1 hv with hv|hv
    ·obtain⟨r,hr,rfl⟩:=z1z.1 hv
     rw[back _ (h1.un hΓ r hr)];exact a4 r hr
    ·obtain⟨r,hr,rfl⟩:=z1z.1 hv
     rw[zam _ δ3,zao λp _=>d p,c0 _ (h2.un (hΓ.step i1) r hr)];exact b4 r hr
end
end Go.Proofs.YtceadeaodbadlaaGreatDoor
namespace Go.Proofs.YtceadeaodbadlaaGreatDoor
open Go.RowKit
abbrev obU (l:Nat) (x:Value):Obj:=.cells #[iZ l,x] 336 (0,0)
abbrev viU (q:Nat):Value:=.iface 330 (pZ q)
structure KC (w:World) (X:Nat->Ty->Prop) (R:Nat->Ty->Value->Prop):Prop where
 I:R 1 tI viI
 B:R 1 tB viB
 V:∀o:Nat,R 1 (tV o) (viV o)
 L:∀{q c:Nat} {x:Value} {a:Ty},w.heap[q]? =some (obL (c+1) x)->R c a x->R (c+1) (tL a) (viL q)
 P:∀{q c d:Nat} {x y:Value} {a b:Ty},w.heap[q]? =some (obP (c+d+1) x y)->R c a x->R d b y->R (c+d+1) (tP a b) (viP q)
 F:∀{q c d:Nat} {x y:Value} {a b:Ty},w.heap[q]? =some (obF (c+d+1) x y)->R c a x->R d b y->R (c+d+1) (tF a b) (viF q)
 U:∀{q:Nat} {t:Ty},X q t->R 1 t (viU q)
def Ku (w:World) (c:Nat) (t:Ty) (v:Value):Prop:=∀R:Nat->Ty->Value->Prop,KC w (λq t=>∃l x,w.heap[q]? =some (obU l x)/\(x=.nilIface/\t=tU q\/∃c,R c t x)) R->R c t v
section
variable {q c d l vb i:Nat} {a b t:Ty} {T:TypeId} {x y v v':Value} {w w' u:World}
theorem Ku.I:Ku w 1 tI viI:=λ_ k=>k.I
theorem Ku.B:Ku w 1 tB viB:=λ_ k=>k.B
theorem Ku.V (o:Nat):Ku w 1 (tV o) (viV o):=λ_ k=>k.V o
theorem Ku.L (h:w.heap[q]? =some (obL (c+1) x)) (h1:Ku w c a x):Ku w (c+1) (tL a) (viL q):=λ_ k=>k.L h (h1 _ k)
theorem Ku.P (h:w.heap[q]? =some (obP (c+d+1) x y)) (h1:Ku w c a x) (h2:Ku w d b y):Ku w (c+d+1) (tP a b) (viP q):=λ_ k=>k.P h (h1 _ k) (h2 _ k)
theorem Ku.F (h:w.heap[q]? =some (obF (c+d+1) x y)) (h1:Ku w c a x) (h2:Ku w d b y):Ku w (c+d+1) (tF a b) (viF q):=λ_ k=>k.F h (h1 _ k) (h2 _ k)
theorem Ku.U (h:w.heap[q]? =some (obU l .nilIface)):Ku w 1 (tU q) (viU q):=λ_ k=>k.U ⟨_,_,h,.inl ⟨rfl,rfl⟩⟩
theorem Ku.N (h:w.heap[q]? =some (obU l x)) (h1:Ku w c t x):Ku w 1 t (viU q):=λ_ k=>k.U ⟨_,_,h,.inr ⟨_,h1 _ k⟩⟩
theorem Ku.ind {M:∀c t v,Ku w c t v->Prop} (I:M 1 tI viI .I) (B:M 1 tB viB .B) (V:∀o,M 1 (tV o) (viV o) (.V o)) (L:∀{q c:Nat} {x:Value} {a:Ty} (h:w.heap[q]? =some (obL (c+1) x)) (h1:Ku w c a x),M c a x h1->M (c+1) (tL a) (viL q) (.L h h1)) (P:∀{q c d:Nat} {x y:Value} {a b:Ty} (h:w.heap[q]? =some (obP (c+d+1) x y)) (h1:Ku w c a x) (h2:Ku w d b y),M c a x h1->M d b y h2->M (c+d+1) (tP a b) (viP q) (.P h h1 h2)) (F:∀{q c d:Nat} {x y:Value} {a b:Ty} (h:w.heap[q]? =some (obF (c+d+1) x y)) (h1:Ku w c a x) (h2:Ku w d b y),M c a x h1->M d b y h2->M (c+d+1) (tF a b) (viF q) (.F h h1 h2)) (U:∀{q l:Nat} (h:w.heap[q]? =some (obU l .nilIface)),M 1 (tU q) (viU q) (.U h)) (N:∀{q l c:Nat} {x:Value} {t:Ty} (h:w.heap[q]? =some (obU l x)) (h1:Ku w c t x),M c t x h1->M 1 t (viU q) (.N h h1)) (h:Ku w c t v):M c t v h:=by
 refine(h (λc t v=>∃h,M c t v h) ⟨⟨_,I⟩,⟨_,B⟩,λo=>⟨_,V o⟩,λh ⟨_,k⟩=>⟨_,L h _ k⟩,λh ⟨_,k⟩ ⟨_,m⟩=>⟨_,P h _ _ k m⟩,λh ⟨_,k⟩ ⟨_,m⟩=>⟨_,F h _ _ k m⟩,?_⟩).2;rintro q t ⟨l,x,h,⟨rfl,rfl⟩|⟨c,_,k⟩⟩
 ·exact⟨_,U h⟩
 ·exact⟨_,N h _ k⟩
theorem Ku.iface (h:Ku w c t v):∃T x,v=.iface T x:=by
 induction h using Ku.ind<;>exact⟨_,_,rfl⟩
theorem Ku.ne (h:Ku w c t v):v≠ .nilIface:=by
 obtain⟨T,x,rfl⟩:=h.iface;simp
theorem Ku.trim (h:Ku w c t v):Trim t:=by
 induction h using Ku.ind with
 |I=>exact .inl ⟨by simp,rfl,rfl⟩
 |B=>exact .inl ⟨by simp,rfl,rfl⟩
 |V o=>exact .inl ⟨by simp,rfl,rfl⟩
 |L _ _ ih=>exact .inr (.inl ⟨rfl,ih,rfl⟩)
 |P _ _ _ ih1 ih2=>exact .inr (.inr ⟨.inl rfl,ih1,ih2⟩)
 |F _ _ _ ih1 ih2=>exact .inr (.inr ⟨.inr rfl,ih1,ih2⟩)
 |U _=>exact zil _
 |N _ _ ih=>exact ih
theorem Ku.cnt (h:Ku w c t v):1<=c/\c<=sz t:=by
 induction h using Ku.ind with
 |I=>exact⟨z1d _,by simp[sz]⟩
 |B=>exact⟨z1d _,by simp[sz]⟩
 |V o=>exact⟨z1d _,by simp[sz]⟩
 |L _ _ ih=>simp only[sz];omega
 |P _ _ _ ih1 ih2=>simp only[sz];omega
 |F _ _ _ ih1 ih2=>simp only[sz];omega
 |U _=>exact⟨z1d _,by simp[sz]⟩
 |N _ _ ih=>omega
def KeptU (w w':World):Prop:=∀(q:Nat) (c:Array Value) (T:TypeId),T=258\/T=261\/T=252\/T=336->w.heap[q]? =some (.cells c T (0,0))->w'.heap[q]? =some (.cells c T (0,0))
theorem KeptU.n (h:KeptU w w'):KeptN w w':=λq c T hT hq=>h q c T (by rcases hT with h|h|h;exact .inl h;exact .inr (.inl h);exact .inr (.inr (.inl h))) hq
theorem Ku.kept (hk:KeptU w w') (h:Ku w c t v):Ku w' c t v:=by
 induction h using Ku.ind with
 |I=>exact .I
 |B=>exact .B
 |V o=>exact .V o
 |L hq _ ih=>exact .L (hk _ _ _ (.inl rfl) hq) ih
 |P hq _ _ ih1 ih2=>exact .P (hk _ _ _ (.inr (.inl rfl)) hq) ih1 ih2
 |F hq _ _ ih1 ih2=>exact .F (hk _ _ _ (.inr (.inr (.inl rfl))) hq) ih1 ih2
 |U hq=>exact .U (hk _ _ _ (.inr (.inr (.inr rfl))) hq)
 |N hq _ ih=>exact .N (hk _ _ _ (.inr (.inr (.inr rfl))) hq) ih
theorem Below.keptU (h:Below w.heap.size w w'):KeptU w w':=λq c T _ hq=>(h.block q (z1a.1 hq).1).trans hq
theorem Ku.blw (h:Ku w c t v) (hb:Below w.heap.size w w'):Ku w' c t v:=h.kept (Below.keptU hb)
theorem Ku.of:∀{t:Ty} {v:Value},Ok t->Tv w t v->Ku w (sz t) t v:=by
 intro t
 induction t with
 |nil=>intro v h;exact h.elim
 |node g o u a b iha ihb=>
  intro v hk h
  cases u
  rcases hk with ⟨rfl,rfl,rfl,rfl⟩|⟨rfl,rfl,rfl,rfl⟩|⟨rfl,ho,rfl,rfl⟩|⟨rfl,rfl,ha,rfl⟩|⟨rfl,rfl,ha,hb⟩|⟨rfl,rfl,ha,hb⟩
  ·rw[Tv.isI h];exact .I
  ·rw[Tv.isB h];exact .B
  ·rw[Tv.isV h];exact .V o
  ·obtain⟨q,x,rfl,hq,hx⟩:=Tv.isL h
   exact .L hq (iha ha hx)
  ·obtain⟨q,x,y,rfl,hq,hx,hy⟩:=Tv.isP h
   exact .P hq (iha ha hx) (ihb hb hy)
  ·obtain⟨q,x,y,rfl,hq,hx,hy⟩:=Tv.isF h
   exact .F hq (iha ha hx) (ihb hb hy)
def Hd (w:World) (c:Nat) (t:Ty) (v:Value):Prop:=(c=1/\t=tI/\v=viI)\/(c=1/\t=tB/\v=viB)\/(∃o,c=1/\t=tV o/\v=viV o)\/
 (∃q n x a,c=n+1/\t=tL a/\v=viL q/\w.heap[q]? =some (obL (n+1) x)/\Ku w n a x)\/(∃q n m x y a b,c=n+m+1/\t=tP a b/\v=viP q/\w.heap[q]? =some (obP (n+m+1) x y)/\Ku w n a x/\Ku w m b y)\/
 (∃q n m x y a b,c=n+m+1/\t=tF a b/\v=viF q/\w.heap[q]? =some (obF (n+m+1) x y)/\Ku w n a x/\Ku w m b y)\/∃q l,c=1/\t=tU q/\v=viU q/\w.heap[q]? =some (obU l .nilIface)
theorem Hd.cs {M:∀c t v,Hd w c t v->Prop} (I:∀h,M 1 tI viI h) (B:∀h,M 1 tB viB h) (V:∀o h,M 1 (tV o) (viV o) h) (L:∀{q c:Nat} {x:Value} {a:Ty},w.heap[q]? =some (obL (c+1) x)->Ku w c a x->∀h,M (c+1) (tL a) (viL q) h) (P:∀{q c d:Nat} {x y:Value} {a b:Ty},w.heap[q]? =some (obP (c+d+1) x y)->Ku w c a x->Ku w d b y->∀h,M (c+d+1) (tP a b) (viP q) h) (F:∀{q c d:Nat} {x y:Value} {a b:Ty},w.heap[q]? =some (obF (c+d+1) x y)->Ku w c a x->Ku w d b y->∀h,M (c+d+1) (tF a b) (viF q) h) (U:∀{q l:Nat},w.heap[q]? =some (obU l .nilIface)->∀h,M 1 (tU q) (viU q) h) (h:Hd w c t v):M c t v h:=by
 rcases id h with ⟨rfl,rfl,rfl⟩|⟨rfl,rfl,rfl⟩|⟨o,rfl,rfl,rfl⟩|⟨_,_,_,_,rfl,rfl,rfl,h1,h2⟩|⟨_,_,_,_,_,_,_,rfl,rfl,rfl,h1,h2,h3⟩|⟨_,_,_,_,_,_,_,rfl,rfl,rfl,h1,h2,h3⟩|⟨_,_,rfl,rfl,rfl,h1⟩
 ·exact I _
 ·exact B _
 ·exact V _ _
 ·exact L h1 h2 _
 ·exact P h1 h2 h3 _
 ·exact F h1 h2 h3 _
 ·exact U h1 _
theorem Hd.L (h:w.heap[q]? =some (obL (c+1) x)) (h1:Ku w c a x):Hd w (c+1) (tL a) (viL q):=.inr (.inr (.inr (.inl ⟨_,_,_,_,rfl,rfl,rfl,h,h1⟩)))
theorem Hd.P (h:w.heap[q]? =some (obP (c+d+1) x y)) (h1:Ku w c a x) (h2:Ku w d b y):Hd w (c+d+1) (tP a b) (viP q):=.inr (.inr (.inr (.inr (.inl ⟨_,_,_,_,_,_,_,rfl,rfl,rfl,h,h1,h2⟩))))
theorem Hd.F (h:w.heap[q]? =some (obF (c+d+1) x y)) (h1:Ku w c a x) (h2:Ku w d b y):Hd w (c+d+1) (tF a b) (viF q):=.inr (.inr (.inr (.inr (.inr (.inl ⟨_,_,_,_,_,_,_,rfl,rfl,rfl,h,h1,h2⟩)))))
theorem Hd.U (h:w.heap[q]? =some (obU l .nilIface)):Hd w 1 (tU q) (viU q):=.inr (.inr (.inr (.inr (.inr (.inr ⟨_,_,rfl,rfl,rfl,h⟩)))))
theorem Hd.tu (h:Hd w c t v):Ku w c t v:=by
 cases h using Hd.cs with
 |I=>exact .I
 |B=>exact .B
 |V o=>exact .V o
 |L h1 h2=>exact .L h1 h2
 |P h1 h2 h3=>exact .P h1 h2 h3
 |F h1 h2 h3=>exact .F h1 h2 h3
 |U h=>exact .U h
theorem Hd.kinds (h:Hd w c t v):(∃T x,v=.iface T x/\T≠330)\/∃q l,v=viU q/\t=tU q/\w.heap[q]? =some (obU l .nilIface):=by
 cases h using Hd.cs with
 |I=>exact .inl ⟨_,_,rfl,by decide⟩
 |B=>exact .inl ⟨_,_,rfl,by decide⟩
 |V o=>exact .inl ⟨_,_,rfl,by decide⟩
 |L h1 h2=>exact .inl ⟨_,_,rfl,by decide⟩
 |P h1 h2 h3=>exact .inl ⟨_,_,rfl,by decide⟩
 |F h1 h2 h3=>exact .inl ⟨_,_,rfl,by decide⟩
 |U h=>exact .inr ⟨_,_,rfl,rfl,h⟩
def Chn (w:World):Nat->Nat->Ty->Value->Value->Prop
 |0,c,t,v,v'=>v=v'/\Hd w c t v
 |n+1,c,t,v,v'=>∃q l x,v=viU q/\w.heap[q]? =some (obU l x)/\x≠ .nilIface/\Chn w n c t x v'
theorem Ku.chn (h:Ku w c t v):∃n d v',Chn w n d t v v'/\Hd w d t v':=by
 have dn:∀{c:Nat} {t:Ty} {v:Value},Hd w c t v->∃n d v',Chn w n d t v v'/\Hd w d t v':=λh=>⟨0,_,_,⟨rfl,h⟩,h⟩
 induction h using Ku.ind with
 |I=>exact dn (.inl ⟨rfl,rfl,rfl⟩)
 |B=>exact dn (.inr (.inl ⟨rfl,rfl,rfl⟩))
 |V o=>exact dn (.inr (.inr (.inl ⟨o,rfl,rfl,rfl⟩)))
 |L h1 h2 _=>exact dn (.L h1 h2)
 |P h1 h2 h3 _ _=>exact dn (.P h1 h2 h3)
 |F h1 h2 h3 _ _=>exact dn (.F h1 h2 h3)
 |U h=>exact dn (.U h)
 |N h1 h2 ih=>obtain⟨n,d,v',h3,h4⟩:=ih;exact⟨n+1,d,v',⟨_,_,_,rfl,h1,h2.ne,h3⟩,h4⟩
def lenU (w:World):Nat->Value->Nat
 |0,_=>0
 |n+1,.iface T (.pointer (some a))=>if T=330 then
  match w.heap[a.block]? with
  |some (Obj.cells c _ _)=>match (c[1]?:Option Value) with
   |some (Value.iface S y)=>1+lenU w n (Value.iface S y)
   |_=>0
  |_=>0
  else 0
 |_+1,_=>0
theorem Chn.iface {n:Nat} (h:Chn w n c t v v'):∃T x,v=.iface T x:=by
 cases n with
 |zero=>exact h.2.tu.iface
 |succ n=>obtain⟨_,_,_,rfl,_⟩:=h;exact⟨_,_,rfl⟩
theorem Chn.len:∀{n:Nat} {v:Value},Chn w n c t v v'->∀N,n<=N->lenU w N v=n:=by
 intro n
 induction n with
 |zero=>
  intro v h N _
  cases N with
  |zero=>rfl
  |succ N=>
   rcases h.2.kinds with ⟨T,x,rfl,hT⟩|⟨q,l,rfl,_,hq⟩
   ·unfold lenU;split<;>simp_all
   ·simp[lenU,hq]
 |succ n ih=>
  intro v h N hN;obtain⟨q,l,x,rfl,hq,hx,hc⟩:=h
  cases N with
  |zero=>omega
  |succ N=>
   obtain⟨T,y,rfl⟩:=hc.iface;simp only[lenU,if_true,hq];rw[show (#[Value.int .i64 _,Value.iface T y]:Array Value)[1]? =some (.iface T y) from rfl];simp only;rw[ih hc N (by omega)];omega
theorem zdq (v:Value) (w:World):(Instr.typeAssert (.iface 330 v) 94 330 true).run Tryz.prog w=.ok (.tuple #[v,.bool true]) w:=by kernel_rfl
theorem tz_Unknown (w:World):(zeroValue 330).run Tryz.prog w=.ok (.pointer none) w:=by kernel_rfl
theorem zeu (v:Value) (h:T≠330) (w:World):(Instr.typeAssert (.iface T v) 94 330 true).run Tryz.prog w=.ok (.tuple #[.pointer none,.bool false]) w:=by
 simp[Instr.typeAssert,run_underlying Tryz.underlying330,h,tz_Unknown w]
def HasU (u w:World):Prop:=∀(q l:Nat) (x:Value),u.heap[q]? =some (obU l x)->w.heap[q]? =some (obU l x)
theorem zje (u w:World) (hU:HasU u w) (h:Ku u c t v):
 ∃v' d,Hd u d t v'/\CZ 226 #[v] w λe w'=>e=.returned v'/\w'=w:=by
 obtain⟨N,d,v',hc,hd⟩:=h.chn;refine⟨v',d,hd,?_⟩;have HC:=hid hc;have HU:=hid hU;clear hc h hU hd;go_enter Tryz.func226,Tryz.ntmps226;go_wp21
 go_loopw [0] (λy wr=>wr=w/\∃n,n<=N/\Hid (Chn u n d t y v')) (λy wr=>lenU u N y)
 case atStart=>exact⟨rfl,N,z1d _,HC⟩
 case round=>
  obtain⟨rfl,n,hn,H⟩:=hrel;have h:=H.out;have hl:=hid (h.len N hn)
  cases n with
  |zero=>
   obtain⟨rfl,h⟩:=h;rcases h.kinds with ⟨T,x,rfl,hT⟩|⟨q,l,rfl,rfl,hq⟩
   ·have a1:=λw=>zeu x hT w
    clear h H HC;go_wp21;go_ret;exact⟨rfl,by trivial⟩
   ·have a1:=zdq
    have c1:wr.cell? ⟨q,1,none⟩=some .nilIface:=by rw[z1f (HU.out _ _ _ hq)];rfl
    clear h H HC hq;go_wp21;go_ret;exact⟨rfl,by trivial⟩
  |succ m=>
   obtain⟨q,l,x,rfl,hq,hx,hc⟩:=h;obtain⟨T,y,rfl⟩:=hc.iface;have a1:=zdq;have c1:wr.cell? ⟨q,1,none⟩=some (.iface T y):=by rw[z1f (HU.out _ _ _ hq)];rfl
   have HP:=hid hc;have hl2:=hid (hc.len N (by omega));clear H HC hq hx hc;go_wp21;go_roundw
   case rel=>exact⟨by trivial,m,by omega,HP⟩
   case measure=>rw[hl.out,hl2.out];omega
theorem Ku.atL (h:Ku w c t (viL q)):∃n x a,c=n+1/\t=tL a/\w.heap[q]? =some (obL (n+1) x)/\Ku w n a x:=by
 generalize e:viL q=v at h
 cases h using Ku.ind with
 |L h1 h2=>cases e;exact⟨_,_,_,rfl,rfl,h1,h2⟩
 |_=>cases e
theorem Ku.atP (h:Ku w c t (viP q)):∃n m x y a b,c=n+m+1/\t=tP a b/\w.heap[q]? =some (obP (n+m+1) x y)/\Ku w n a x/\Ku w m b y:=by
 generalize e:viP q=v at h
 cases h using Ku.ind with
 |P h1 h2 h3=>cases e;exact⟨_,_,_,_,_,_,rfl,rfl,h1,h2,h3⟩
 |_=>cases e
theorem Ku.atF (h:Ku w c t (viF q)):∃n m x y a b,c=n+m+1/\t=tF a b/\w.heap[q]? =some (obF (n+m+1) x y)/\Ku w n a x/\Ku w m b y:=by
 generalize e:viF q=v at h
 cases h using Ku.ind with
 |F h1 h2 h3=>cases e;exact⟨_,_,_,_,_,_,rfl,rfl,h1,h2,h3⟩
 |_=>cases e
theorem Ku.atU (hq:w.heap[q]? =some (obU l x)) (h:Ku w c t (viU q)):c=1/\(x=.nilIface/\t=tU q\/∃d,Ku w d t x):=by
 generalize e:viU q=v at h
 cases h using Ku.ind with
 |U h1=>cases e;rw[hq] at h1;simp at h1;exact⟨rfl,.inl ⟨h1.2,rfl⟩⟩
 |N h1 k=>cases e;rw[hq] at h1;simp at h1;exact⟨rfl,.inr ⟨_,h1.2 ▸ k⟩⟩
 |_=>cases e
theorem Ku.one (h:Ku w c t v):∀{c':Nat} {t':Ty},Ku w c' t' v->c=c'/\t=t':=by
 induction h using Ku.ind with
 |I=>
  intro c' t' k;generalize e:viI=v at k
  cases k using Ku.ind with
  |I=>exact⟨rfl,rfl⟩
  |_=>cases e
 |B=>
  intro c' t' k;generalize e:viB=v at k
  cases k using Ku.ind with
  |B=>exact⟨rfl,rfl⟩
  |_=>cases e
 |V o=>
  intro c' t' k;generalize e:viV o=v at k
  cases k using Ku.ind with
  |V o'=>
   simp at e;obtain rfl:o=o':=by omega
   exact⟨rfl,rfl⟩
  |_=>cases e
 |L hq _ ih=>
  intro c' t' k;obtain⟨n,x,a,rfl,rfl,hq',k1⟩:=k.atL;rw[hq] at hq';simp at hq';obtain⟨rfl,_⟩:=hq';obtain⟨rfl,rfl⟩:=ih k1;exact⟨rfl,rfl⟩
 |P hq _ _ ih1 ih2=>
  intro c' t' k;obtain⟨n,m,x,y,a,b,rfl,rfl,hq',k1,k2⟩:=k.atP;rw[hq] at hq';simp at hq';obtain⟨rfl,rfl,_⟩:=hq';obtain⟨rfl,rfl⟩:=ih1 k1;obtain⟨rfl,rfl⟩:=ih2 k2;exact⟨rfl,rfl⟩
 |F hq _ _ ih1 ih2=>
  intro c' t' k;obtain⟨n,m,x,y,a,b,rfl,rfl,hq',k1,k2⟩:=k.atF;rw[hq] at hq';simp at hq';obtain⟨rfl,rfl,_⟩:=hq';obtain⟨rfl,rfl⟩:=ih1 k1;obtain⟨rfl,rfl⟩:=ih2 k2;exact⟨rfl,rfl⟩
 |U hq=>
  intro c' t' k;rcases k.atU hq with ⟨rfl,⟨_,rfl⟩|⟨d,k1⟩⟩
  ·exact⟨rfl,rfl⟩
  ·exact absurd rfl k1.ne
 |N hq k0 ih=>
  intro c' t' k;rcases k.atU hq with ⟨rfl,⟨e,_⟩|⟨d,k1⟩⟩
  ·exact absurd e k0.ne
  ·obtain⟨_,rfl⟩:=ih k1
   exact⟨rfl,rfl⟩
theorem zwi {c' k k':Nat} {t':Ty} (h:Ku w c t v) (h':Ku w c' t' v') (nv:NdV v q k) (nv':NdV v' q k'):v=v':=by
 rcases nv with ⟨rfl,_⟩|⟨rfl,_⟩|⟨rfl,_⟩<;>rcases nv' with ⟨rfl,_⟩|⟨rfl,_⟩|⟨rfl,_⟩<;>first|rfl|skip
 ·obtain⟨_,_,_,_,_,h1,_⟩:=h.atL;obtain⟨_,_,_,_,_,_,_,_,h2,_⟩:=h'.atP;rw[h1] at h2;simp at h2
 ·obtain⟨_,_,_,_,_,h1,_⟩:=h.atL;obtain⟨_,_,_,_,_,_,_,_,h2,_⟩:=h'.atF;rw[h1] at h2;simp at h2
 ·obtain⟨_,_,_,_,_,_,_,_,h1,_⟩:=h.atP;obtain⟨_,_,_,_,_,h2,_⟩:=h'.atL;rw[h1] at h2;simp at h2
 ·obtain⟨_,_,_,_,_,_,_,_,h1,_⟩:=h.atP;obtain⟨_,_,_,_,_,_,_,_,h2,_⟩:=h'.atF;rw[h1] at h2;simp at h2
 ·obtain⟨_,_,_,_,_,_,_,_,h1,_⟩:=h.atF;obtain⟨_,_,_,_,_,h2,_⟩:=h'.atL;rw[h1] at h2;simp at h2
 ·obtain⟨_,_,_,_,_,_,_,_,h1,_⟩:=h.atF;obtain⟨_,_,_,_,_,_,_,_,h2,_⟩:=h'.atP;rw[h1] at h2;simp at h2
theorem Vs.setU {L:Mks} {c:Array Value} (h:Vs vb L u w) (hq:u.heap[q]? =some (.cells c T (0,0))) (hT:VisT T) (hne:q≠vb) (x:Value):Vs vb L (u.setCell ⟨q,i,none⟩ x) (w.setCell ⟨q,i,none⟩ x):=by
 have hqL:q∉L.map (·.1):=by
  intro hm;obtain⟨m,hm',rfl⟩:=z1z.1 hm;obtain⟨⟨o,ho,hn⟩,_⟩:=h.nds m hm';obtain⟨c',T',rfl,hT',_⟩:=hn.cells;rw[hq] at ho;simp at ho;exact hT' (ho.2 ▸ hT)
 have hw:=h.other hq hT hne;obtain⟨T0,r0,x0,hT0,hu0,hv0⟩:=h.vis;refine⟨h.os,h.tape,h.output,by simp[World.setCell,h.size],⟨T0,r0,x0,hT0,?_,?_⟩,?_,?_,h.nodup⟩
 ·rw[Below.heap_setCell _ _ _ _ (by show ¬_;simp;omega)];exact hu0
 ·rw[Below.heap_setCell _ _ _ _ (by show ¬_;simp;omega)];exact hv0
 ·intro p hp
  by_cases e:p=q
  ·subst e
   rw[zbx hqL];simp[World.setCell,z1i,hw,hq]
  ·rw[Below.heap_setCell _ _ _ _ (by show ¬_;simp;omega),Below.heap_setCell _ _ _ _ (by show ¬_;simp;omega)]
   exact h.blk p hp
 ·intro m hm
  obtain⟨⟨o,ho,hn⟩,hx⟩:=h.nds m hm;have hms:m.1≠q:=λe=>hqL (by rw[<-e];exact z1z.2 ⟨m,hm,rfl⟩)
  exact⟨⟨o,by rw[Below.heap_setCell _ _ _ _ (by show ¬_;simp;omega)];exact ho,hn⟩,hx⟩
theorem Vs.setOwn {L:Mks} (h:Vs vb L u w) (x:Value):Vs vb L (u.setCell ⟨vb,i+1,none⟩ x) (w.setCell ⟨vb,i+1,none⟩ x):=by
 obtain⟨T0,r0,x0,hT0,hu0,hv0⟩:=h.vis;refine⟨h.os,h.tape,h.output,by simp[World.setCell,h.size],⟨T0,r0.set i x,x0,hT0,?_,?_⟩,?_,?_,h.nodup⟩
 ·simp[World.setCell,z1i,hu0]
 ·simp[World.setCell,z1i,hv0]
 ·intro p hp
  rw[Below.heap_setCell _ _ _ _ (by show ¬_;simp;omega),Below.heap_setCell _ _ _ _ (by show ¬_;simp;omega)];exact h.blk p hp
 ·intro m hm
  obtain⟨⟨o,ho,hn⟩,hx⟩:=h.nds m hm;have hne:=h.ne ho hn;exact⟨⟨o,by rw[Below.heap_setCell _ _ _ _ (by show ¬_;simp;omega)];exact ho,hn⟩,hx⟩
theorem Vs.unk {L:Mks} (h:Vs vb L u w) (hv:∀c:Array Value,u.heap[vb]? ≠some (.cells c 336 (0,0))):HasU u w:=λq l x hq=>
 h.other hq (by simp[VisT]) (by rintro rfl;exact hv _ hq)
end
theorem at_u (vb q:Nat) (w:World):CZ 222 #[pZ vb,viU q] w λe w'=>e=.returned .nilIface/\w'=w:=by
 have N:=zgj 330 (pZ q) w (by decide) (by decide) (by decide);go_enter Tryz.func222,Tryz.ntmps222;go_wp21;refine N.mono ?_;rintro e w' ⟨rfl,rfl⟩;go_wp21;go_ret;exact⟨rfl,rfl⟩
theorem keep_u (vb q:Nat) (f:Value) (w:World):CZ 223 #[pZ vb,viU q,f] w λe w'=>e=.returned (.tuple #[])/\w'=w:=by
 have N:=zgj 330 (pZ q) w (by decide) (by decide) (by decide);go_enter Tryz.func223,Tryz.ntmps223;go_wp21;refine N.mono ?_;rintro e w' ⟨rfl,rfl⟩;go_wp21
 first|go_end0|refine bodyPost_ret (results_none rfl _ _ _) rfl ?_
 exact⟨rfl,rfl⟩
theorem once_u (vb q:Nat) (hf:Value) (w:World):CZ 242 #[pZ vb,viU q,hf] w λe w'=>e=.returned (.tuple #[])/\w'=w:=by
 have A:=at_u vb q w;have K:=keep_u vb q (viU q) w;have E:=zjl (T:=330) (pZ q) hf w (by decide) (by decide) (by decide);go_enter Tryz.func242,Tryz.ntmps242;go_wp21;refine A.mono ?_;rintro e w' ⟨rfl,rfl⟩;go_wp21;refine E.mono ?_;rintro e w' ⟨rfl,rfl⟩;go_wp21;refine K.mono ?_;rintro e w' ⟨rfl,rfl⟩;go_wp21
 first|go_end0|refine bodyPost_ret (results_none rfl _ _ _) rfl ?_
 exact⟨rfl,rfl⟩
theorem sizeU:(Tryz.prog.info? 336).map (·.size)=some 2:=by kernel_rfl
theorem eql_pu {q q':Nat} {ca cb:Array Value} {ta tb:TypeId} {w:World} (ha:w.heap[q]? =some (.cells ca ta (0,0))) (hb:w.heap[q']? =some (.cells cb tb (0,0))):
 (binOp .eql 330 (pZ q) (pZ q')).run Tryz.prog w=.ok (.bool (decide (q=q'))) w:=by
 obtain⟨j,hj,hjs⟩:=Option.map_eq_some_iff.1 sizeU;by_cases e:q=q'
 ·subst e
  simpa using run_eql_ptr_same (P:=Tryz.prog) w ⟨q,0,none⟩ Tryz.underlying330 hj
 ·have:=run_eql_ptr_other (P:=Tryz.prog) w Tryz.underlying330 hj (by rw[hjs];omega) (a:=⟨q,0,none⟩) (b:=⟨q',0,none⟩) (by simp[e]) ha hb
  simpa [e] using this
abbrev lfn (lb:Nat):Value:=.func (.func 236) #[pZ lb] #[]
theorem zge (lb:Nat) (v:Value) (T:TypeId) (z:Value) (hT:T≠330) (hv:∃S y,v=.iface S y) (w:World) (Q:World->Prop)
 (F:CZ 226 #[v] w λe w'=>e=.returned (.iface T z)/\w'=w)
 (H:CZ 242 #[pZ lb,.iface T z,lfn lb] w λe w'=>e=.returned (.tuple #[])/\Q w'):
 CZ 236 #[pZ lb,v] w λe w'=>e=.returned (.tuple #[])/\Q w':=by
 have HH:=hid H;have a1:=λw=>zeu z hT w
 obtain⟨S,y,rfl⟩:=hv;go_enter Tryz.func236,Tryz.ntmps236;go_wp21;refine F.mono ?_;rintro e w' ⟨rfl,rfl⟩;go_wp21;refine HH.mono ?_;rintro e w1 ⟨rfl,hq⟩;have HQ:=hid hq;go_wp21
 first|go_end0|refine bodyPost_ret (results_none rfl _ _ _) rfl ?_
 exact⟨rfl,HQ⟩
theorem lower_un (lb q u0 l l0 nv:Nat) (hnv:nv=min l l0) (met m2:Bool) (hm2:m2=(met||decide (q=u0))) (v n:Value) (hv:∃S y,v=.iface S y) (w:World)
 (F:CZ 226 #[v] w λe w'=>e=.returned (viU q)/\w'=w)
 (hq:w.heap[q]? =some (obU l .nilIface)) (hu:w.heap[u0]? =some (obU l0 .nilIface)) (hb:w.heap[lb]? =some (.cells #[n,pZ u0,.bool met] 345 (0,0))):
 CZ 236 #[pZ lb,v] w λe w'=>e=.returned (.tuple #[])/\w'=((w.setCell ⟨q,0,none⟩ (iZ nv)).setCell ⟨lb,2,none⟩ (.bool m2)).drew:=by
 have a1:=zdq;have c1:cZ w q 0 (iZ l):=cbl hq;have c2:cZ w u0 0 (iZ l0):=cbl hu;have c3:cZ w lb 1 (pZ u0):=cbl hb;have f1:=z1g hq 0;have hne:q≠lb:=by rintro rfl;rw[hq] at hb;simp at hb
 have hne2:u0≠lb:=by rintro rfl;rw[hu] at hb;simp at hb
 have hb1:(w.setCell ⟨q,0,none⟩ (iZ nv)).heap[lb]? =some (.cells #[n,pZ u0,.bool met] 345 (0,0)):=by
  rw[Below.heap_setCell _ _ _ _ (by show ¬_;simp;omega)];exact hb
 have p3:(w.setCell ⟨q,0,none⟩ (iZ nv)).cell? ⟨lb,1,none⟩=some (pZ u0):=cbl hb1;have p4:(w.setCell ⟨q,0,none⟩ (iZ nv)).cell? ⟨lb,2,none⟩=some (.bool met):=cbl hb1;have f2:=z1g hb1 2
 have p2:(w.setCell ⟨q,0,none⟩ (iZ nv)).cell? ⟨u0,0,none⟩=some (iZ l0):=by
  by_cases e:u0=q
  ·subst e
   rw[hq] at hu;simp at hu;have:nv=l0:=by omega
   subst this;have hx:(w.setCell ⟨u0,0,none⟩ (iZ nv)).heap[u0]? =some (obU nv .nilIface):=by simp[World.setCell,z1i,hq]
   rw[z1f hx];rfl
  ·have hx:(w.setCell ⟨q,0,none⟩ (iZ nv)).heap[u0]? =some (obU l0 .nilIface):=by rw[Below.heap_setCell _ _ _ _ (by show ¬_;simp;omega)];exact hu
   rw[z1f hx];rfl
 have EQ:(binOp .eql 330 (pZ q) (pZ u0)).run Tryz.prog (w.setCell ⟨q,0,none⟩ (iZ nv)).drew=.ok (.bool (decide (q=u0))) (w.setCell ⟨q,0,none⟩ (iZ nv)).drew:=by
  have e1:∃c,(w.setCell ⟨q,0,none⟩ (iZ nv)).drew.heap[q]? =some (.cells c 336 (0,0)):=⟨_,by show (w.setCell ⟨q,0,none⟩ (iZ nv)).heap[q]? =_;simp[World.setCell,z1i,hq];rfl⟩
  have e2:∃c,(w.setCell ⟨q,0,none⟩ (iZ nv)).drew.heap[u0]? =some (.cells c 336 (0,0)):=by
   by_cases e:u0=q
   ·rw[e];exact e1
   ·exact⟨_,by show (w.setCell ⟨q,0,none⟩ (iZ nv)).heap[u0]? =_;rw[Below.heap_setCell _ _ _ _ (by show ¬_;simp;omega)];exact hu⟩
  obtain⟨_,e1⟩:=e1;obtain⟨_,e2⟩:=e2;exact eql_pu e1 e2
 have hmin:(if l0<l then (l0:Int) else (l:Int))=(nv:Int):=by split<;>omega
 have hmin2:min (l:Int) (l0:Int)=(nv:Int):=by omega
 obtain⟨S,y,rfl⟩:=hv;have O:=hid (λw=>once_u lb q (lfn lb) w);clear hq hu hb hb1 hnv;go_enter Tryz.func236,Tryz.ntmps236;go_wp21;refine F.mono ?_;rintro e w1 ⟨rfl,e1⟩;subst e1;clear F;go_wp21;refine wp_region_held_drew (S:=(λwq=>cZ wq u0 0 (iZ l0)/\cZ wq lb 1 (pZ u0))) (by kernel_rfl) (⟨c2,c3⟩) (λhS=>?_);refine tkS 0 (pZ q) hS ?_;refine tkS 1 (pZ q) hS ?_;refine tkS 2 (pZ q) hS ?_;refine tkS 3 (pZ q) hS ?_;refine tkS 5 (pZ lb) hS ?_;refine tkS 6 (pZ lb) hS ?_;refine tkS 7 (.pointer (some ⟨lb,1,none⟩)) hS ?_;refine tkL 8 (pZ u0) hS ?_;refine tkS 9 (pZ u0) hS ?_;refine tkS 10 (pZ u0) hS ?_;refine tkL 11 (iZ l0) hS ?_;refine rd1 4 (λKK hK=>?_);go_simp;refine hK.out _ _ ⟨c2,c3⟩ (λhS=>nrm ?_);refine tkS 12 (iZ nv) hS ?_;refine tkS 13 (pZ q) hS ?_;refine tkS 14 (pZ q) hS ?_;refine rd1 15 (λKK hK=>?_);go_simp;refine hK.out _ _ ⟨p2,p3⟩ (λhS=>nrm ?_);refine wpAnyH_done (by kernel_rfl) ?_ _;clear c1 c2 c3 f1 p2
 cases met
 ·by_cases he:q=u0
  ·have hd:m2=true:=by rw[hm2];simpa using he
   subst hd;clear hm2;rw[decide_eq_true he] at EQ;clear he;go_wp21;refine(O _).mono ?_;rintro e w2 ⟨rfl,rfl⟩;go_wp21
   first|go_end0|refine bodyPost_ret (results_none rfl _ _ _) rfl ?_
   exact⟨rfl,rfl⟩
  ·have hd:m2=false:=by rw[hm2];simpa using he
   subst hd;clear hm2;rw[decide_eq_false he] at EQ;clear he;go_wp21;refine(O _).mono ?_;rintro e w2 ⟨rfl,rfl⟩;go_wp21
   first|go_end0|refine bodyPost_ret (results_none rfl _ _ _) rfl ?_
   exact⟨rfl,rfl⟩
 ·have hd:m2=true:=by rw[hm2];rfl
  subst hd;clear hm2;go_wp21;refine(O _).mono ?_;rintro e w2 ⟨rfl,rfl⟩;go_wp21
  first|go_end0|refine bodyPost_ret (results_none rfl _ _ _) rfl ?_
  exact⟨rfl,rfl⟩
structure LowW (lb l0:Nat) (t:Ty) (u u':World):Prop where
 os:u'.os=u.os
 tape:u'.tape=u.tape
 output:u'.output=u.output
 size:u.heap.size<=u'.heap.size
 unk:∀(q l:Nat) (x:Value),u.heap[q]? =some (obU l x)->∃l',u'.heap[q]? =some (obU l' x)/\l'<=l/\(x=.nilIface->inU q t->l'=min l l0)/\(¬(x=.nilIface/\inU q t)->l'=l)
 rest:∀(q:Nat) (c:Array Value) (T:TypeId) (fz:Nat×Nat),q≠lb->T≠336->u.heap[q]? =some (.cells c T fz)->u'.heap[q]? =some (.cells c T fz)
 oth:∀q,q≠lb->¬inU q t->u'.heap[q]? =u.heap[q]?
section
variable {met:Bool} {L:Mks} {l0 c u0:Nat} {t:Ty} {v:Value} {u u':World}
theorem LowW.none {lb:Nat} (ht:∀q,¬inU q t) (u:World):LowW lb l0 t u u:=
 ⟨rfl,rfl,rfl,z1d _,λq l x h=>⟨l,h,z1d _,λ_ hi=>absurd hi (ht q),λ_=>rfl⟩,λ_ _ _ _ _ _ h=>h,λ_ _ _=>rfl⟩
theorem LowW.trans {lb:Nat} {a b:Ty} {u1 u2:World} (h:LowW lb l0 a u u1) (k:LowW lb l0 b u1 u2) (ht:∀q,inU q t ↔ inU q a\/inU q b):LowW lb l0 t u u2:=by
 refine⟨k.os.trans h.os,k.tape.trans h.tape,k.output.trans h.output,z1c h.size k.size,λq l x hq=>?_,λq c T fz h1 h2 hq=>k.rest q c T fz h1 h2 (h.rest q c T fz h1 h2 hq),λq h1 h2=>(k.oth q h1 λh=>h2 ((ht q).2 (.inr h))).trans (h.oth q h1 λh=>h2 ((ht q).2 (.inl h)))⟩;obtain⟨l1,a1,a2,a3,a4⟩:=h.unk q l x hq;obtain⟨l2,b1,b2,b3,b4⟩:=k.unk q l1 x a1;refine⟨l2,b1,z1c b2 a2,λhx hi=>?_,λhn=>?_⟩
 ·by_cases ha:inU q a
  ·have e1:=a3 hx ha
   by_cases hb:inU q b
   ·have:=b3 hx hb;omega
   ·have:=b4 λh=>hb h.2;omega
  ·have e1:=a4 λh=>ha h.2
   rcases(ht q).1 hi with h'|hb
   ·exact absurd h' ha
   ·have:=b3 hx hb;omega
 ·have e1:=a4 λh=>hn ⟨h.1,(ht q).2 (.inl h.2)⟩
  have e2:=b4 λh=>hn ⟨h.1,(ht q).2 (.inr h.2)⟩
  omega
theorem LowW.ku {lb:Nat} {s:Ty} (k:LowW lb l0 s u u') (hlb:∃c,u.heap[lb]? =some (.cells c 345 (0,0))) (h:Ku u c t v):Ku u' c t v:=by
 obtain⟨cl,hlb⟩:=hlb
 have ne:∀{q:Nat} {c:Array Value} {T:TypeId},u.heap[q]? =some (.cells c T (0,0))->T≠345->q≠lb:=by
  rintro q c T hq hT rfl;rw[hlb] at hq;simp at hq;exact hT hq.2.symm
 induction h using Ku.ind with
 |I=>exact .I
 |B=>exact .B
 |V o=>exact .V o
 |L hq _ ih=>exact .L (k.rest _ _ _ _ (ne hq (by decide)) (by decide) hq) ih
 |P hq _ _ ih1 ih2=>exact .P (k.rest _ _ _ _ (ne hq (by decide)) (by decide) hq) ih1 ih2
 |F hq _ _ ih1 ih2=>exact .F (k.rest _ _ _ _ (ne hq (by decide)) (by decide) hq) ih1 ih2
 |U hq=>obtain⟨l',h1,_⟩:=k.unk _ _ _ hq;exact .U h1
 |N hq _ ih=>obtain⟨l',h1,_⟩:=k.unk _ _ _ hq;exact .N h1 ih
structure LGl (lb u0 l0:Nat) (met:Bool) (u:World) (L:Mks):Prop where
 blk:∃x,u.heap[lb]? =some (.cells #[x,pZ u0,.bool met] 345 (0,0))
 lv:u.heap[u0]? =some (obU l0 .nilIface)
 gd:∀q k f,(q,k,f)∈L->∃c t v,Ku u c t v/\NdV v q k/\(∀p l:Nat,inU p t->u.heap[p]? =some (obU l .nilIface)->l<=l0)/\(inU u0 t->met=true)
theorem LGl.lb {lb:Nat} (h:LGl lb u0 l0 met u L):∃c,u.heap[lb]? =some (.cells c 345 (0,0)):=by
 obtain⟨x,hx⟩:=h.blk;exact⟨_,hx⟩
theorem LGl.noU {lb:Nat} (h:LGl lb u0 l0 met u L) (c:Array Value):u.heap[lb]? ≠some (.cells c 336 (0,0)):=by
 obtain⟨x,hx⟩:=h.blk;rw[hx];simp
theorem Ku.live {w:World} (h:Ku w c t v):∀q,inU q t->∃l,w.heap[q]? =some (obU l .nilIface):=by
 induction h using Ku.ind with
 |I=>intro q hq;simp at hq
 |B=>intro q hq;simp at hq
 |V o=>intro q hq;simp at hq
 |L _ _ ih=>intro q hq;exact ih q (by simpa using hq)
 |P _ _ _ ih1 ih2=>intro q hq;rcases(inU_P q _ _).1 hq with h|h;exact ih1 q h;exact ih2 q h
 |F _ _ _ ih1 ih2=>intro q hq;rcases(inU_F q _ _).1 hq with h|h;exact ih1 q h;exact ih2 q h
 |U h=>intro q hq;simp at hq;subst hq;exact⟨_,h⟩
 |N _ _ ih=>exact ih
theorem LGl.step {lb:Nat} {met':Bool} (h:LGl lb u0 l0 met u L) (k:LowW lb l0 t u u') (hb:∃x,u'.heap[lb]? =some (.cells #[x,pZ u0,.bool met'] 345 (0,0))) (hm:met=true->met'=true):LGl lb u0 l0 met' u' L:=by
 refine⟨hb,?_,λq kk f hq=>?_⟩
 ·obtain⟨l',h1,h2,h3,h4⟩:=k.unk _ _ _ h.lv
  have:l'=l0:=by
   by_cases hi:inU u0 t
   ·have:=h3 rfl hi;omega
   ·exact h4 λh=>hi h.2
  rw[h1,this]
 ·obtain⟨c,t',v,h1,h2,h3,h4⟩:=h.gd q kk f hq
  refine⟨c,t',v,k.ku h.lb h1,h2,λp l hp hl=>?_,λhi=>hm (h4 hi)⟩;obtain⟨l1,e1⟩:=h1.live p hp;obtain⟨l2,f1,f2,_⟩:=k.unk _ _ _ e1;rw[f1] at hl;simp at hl;have:=h3 p l1 hp e1;omega
def LoQ (lb u0 l0:Nat) (t:Ty) (u:World) (met:Bool) (w':World):Prop:=
 ∃L' u' met',Vs lb L' u' w'/\LGl lb u0 l0 met' u' L'/\LowW lb l0 t u u'/\(met'=true ↔ met=true\/inU u0 t)
def LoSaid (lb u0 l0:Nat) (t:Ty):Prop:=∀(L:Mks) (u:World) (met:Bool) (w:World) (v:Value) (c:Nat),Ku u c t v->Vs lb L u w->LGl lb u0 l0 met u L->
 CZ 236 #[pZ lb,v] w λe w'=>e=.returned (.tuple #[])/\LoQ lb u0 l0 t u met w'
theorem zgk:zcn 236:=enters_of Tryz.func236 (by kernel_rfl) rfl
theorem zqt {lb:Nat} (L:Mks) (u:World) (met:Bool) (w:World) (v:Value) (c q k:Nat) (o:Obj) (hv:Ku u c t v) (nv:NdV v q k) (hq:u.heap[q]? =some o) (hn:isNd o k) (hV:Vs lb L u w) (hG:LGl lb u0 l0 met u L) (E:CZ 246 #[v,lfn lb] w λe w'=>e=.returned (.tuple #[])/\LoQ lb u0 l0 t u met w'):
 CZ 242 #[pZ lb,v,lfn lb] w λe w'=>e=.returned (.tuple #[])/\LoQ lb u0 l0 t u met w':=by
 obtain⟨T,z,rfl⟩:=nv.iface;by_cases hin:q∈L.map (·.1)
 ·obtain⟨k',hm⟩:=zym hin
  obtain⟨_,T1,x1,e1⟩:=hV.nds _ hm;have hc:=hV.found hq hn;rw[show fnd L q=.iface T1 x1 from e1] at hc;refine(once_old nv lb _ T1 x1 _ hc).mono ?_;rintro e w' ⟨rfl,rfl⟩;obtain⟨c',t',v',h1,h2,h3,h4⟩:=hG.gd _ _ _ hm;have ev:=zwi h1 hv h2 nv;subst ev;obtain⟨_,rfl⟩:=hv.one h1;refine⟨rfl,L,u,met,hV,hG,⟨rfl,rfl,rfl,z1d _,λp l x hp=>⟨l,hp,z1d _,λhx hi=>?_,λ_=>rfl⟩,λ_ _ _ _ _ _ h=>h,λ_ _ _=>rfl⟩,⟨λh=> .inl h,λh=>h.elim id h4⟩⟩;subst hx;have:=h3 p l hi hp;omega
 ·have hc:=hV.found hq hn
  rw[zqv hin] at hc;refine once_new nv lb _ _ (LoQ lb u0 l0 t u met) _ hc E ?_;rintro w1 ⟨L1,u1,m1,hV1,hG1,g1,hm1⟩;have hv1:=g1.ku hG.lb hv
  have hq1:u1.heap[q]? =some o:=by
   obtain⟨c',T',rfl,hT',_⟩:=hn.cells;refine g1.rest q _ _ _ ?_ ?_ hq
   ·rintro rfl
    obtain⟨c2,h2⟩:=hG.lb;rw[h2] at hq;simp at hq;rw[<-hq.2] at hT';simp[VisT] at hT'
   ·rintro rfl
    simp[VisT] at hT'
  have low:∀p l:Nat,inU p t->u1.heap[p]? =some (obU l .nilIface)->l<=l0:=by
   intro p l hp hl;obtain⟨l1,e1⟩:=hv.live p hp;obtain⟨l2,f1,f2,f3,_⟩:=g1.unk _ _ _ e1;rw[f1] at hl;simp at hl;have:=f3 rfl hp;omega
  have gdn:∃c t' v,Ku u1 c t' v/\NdV v q k/\(∀p l:Nat,inU p t'->u1.heap[p]? =some (obU l .nilIface)->l<=l0)/\(inU u0 t'->m1=true):=⟨c,t,_,hv1,nv,low,λhi=>hm1.2 (.inr hi)⟩
  by_cases hi:q∈L1.map (·.1)
  ·refine(zqd nv hV1 hq1 hn hi T z).mono ?_
   rintro e w2 ⟨rfl,hV2⟩;refine⟨rfl,_,u1,m1,hV2,⟨hG1.blk,hG1.lv,λq' k' f hm=>?_⟩,g1,hm1⟩;rcases zql hm with hm'|⟨e1,e2,gg,hm'⟩
   ·exact hG1.gd q' k' f hm'
   ·simp only at e1 e2 hm'
    subst e1;obtain⟨⟨o',ho',hn'⟩,_⟩:=hV1.nds _ hm';simp only at ho' hn';rw[hq1] at ho';obtain rfl:=z1q ho';obtain rfl:=hn.one hn';exact gdn
  ·refine(zpo nv hV1 hq1 hn hi T z).mono ?_
   rintro e w2 ⟨rfl,hV2⟩;refine⟨rfl,_,u1,m1,hV2,⟨hG1.blk,hG1.lv,λq' k' f hm=>?_⟩,g1,hm1⟩;rcases List.mem_cons.1 hm with e|hm
   ·injection e with e1 e2
    injection e2 with e2 e3;subst e1;subst e2;subst e3;exact gdn
   ·exact hG1.gd q' k' f hm
theorem lower_any (lb u0 l0:Nat):∀t:Ty,LoSaid lb u0 l0 t:=by
 intro t
 induction t with
 |nil=>intro L u met w v c h;exact absurd h.trim (by simp[Trim])
 |node g o uu a b iha ihb=>
  intro L u met w v c hv hV hG;obtain⟨v',d,hd,F'⟩:=zje u w (hV.unk hG.noU) hv;have hvi:=hv.iface
  ·skip
   have leaf:∀(T:TypeId) (z:Value),v'=.iface T z->Leaf (.iface T z)->T≠330->T≠256->T≠259->T≠243->(∀q,¬inU q (.node g o uu a b:Ty))->
    CZ 236 #[pZ lb,v] w λe w'=>e=.returned (.tuple #[])/\LoQ lb u0 l0 (.node g o uu a b) u met w':=by
    rintro T z rfl lf h1 h2 h3 h4 hi;refine zge lb v T z h1 hvi w _ F' ((once_leaf lf lb _ _ (zjl z _ _ h2 h3 h4)).mono ?_);rintro e w' ⟨rfl,rfl⟩;exact⟨rfl,L,u,met,hV,hG,LowW.none hi u,⟨λh=> .inl h,λh=>h.elim id λh=>absurd h (hi u0)⟩⟩
   generalize ht:(Go.Deep.BT.node g o uu a b:Ty)=t at *
   cases hd using Hd.cs with
   |I=>exact leaf _ _ rfl (.inl rfl) (by decide) (by decide) (by decide) (by decide) (by simp)
   |B=>exact leaf _ _ rfl (.inr (.inl rfl)) (by decide) (by decide) (by decide) (by decide) (by simp)
   |V o=>exact leaf _ _ rfl (.inr (.inr ⟨o,rfl⟩)) (by decide) (by decide) (by decide) (by decide) (by simp)
   |@L q c x a' hq hx=>
    injection ht with e1 e2 e3 e4 e5;subst e4;refine zge lb v _ _ (by decide) hvi w _ F' (zqt L u met w _ _ q 1 _ (Ku.L hq hx) (.inl ⟨rfl,rfl⟩) hq (ndL _ _) hV hG ?_);have C:=iha L u met w x c hx hV hG;obtain⟨T,z,rfl⟩:=hx.iface;refine(eachPart_L _ #[pZ lb] #[] zgk q T z w (LoQ lb u0 l0 a u met) (hV.partL hq) (by rw[zbh];exact C)).mono ?_;rintro e w1 ⟨rfl,L1,u1,m1,h1,h2,h3,h4⟩;refine⟨rfl,L1,u1,m1,h1,h2,⟨h3.os,h3.tape,h3.output,h3.size,λp l x hp=>?_,h3.rest,λp k1 k2=>h3.oth p k1 (by simpa using k2)⟩,by rw[inU_L];exact h4⟩;obtain⟨l',k1,k2,k3,k4⟩:=h3.unk p l x hp;exact⟨l',k1,k2,λhx hi=>k3 hx (by simpa using hi),λhn=>k4 λh=>hn ⟨h.1,by simpa using h.2⟩⟩
   |@P q c d x y a' b' hq hx hy=>
    injection ht with e1 e2 e3 e4 e5;subst e4;subst e5;refine zge lb v _ _ (by decide) hvi w _ F' (zqt L u met w _ _ q 2 _ (Ku.P hq hx hy) (.inr (.inl ⟨rfl,rfl⟩)) hq (ndP _ _ _) hV hG ?_);have C:=iha L u met w x c hx hV hG;obtain⟨T,z,rfl⟩:=hx.iface;obtain⟨S,y',rfl⟩:=hy.iface;refine eachPart_P _ #[pZ lb] #[] zgk q T S z y' w (LoQ lb u0 l0 a u met) _ (hV.partP0 hq) (by rw[zbh];exact C) ?_;rintro w1 ⟨L1,u1,m1,h1,h2,h3,h4⟩;have hne:q≠lb:=λe=>by obtain⟨c2,k2⟩:=hG.lb;rw[e,k2] at hq;simp at hq
    refine⟨h1.partP1 (h3.rest _ _ _ _ hne (by decide) hq),?_⟩;rw[zbh];refine(ihb L1 u1 m1 w1 _ d (h3.ku hG.lb hy) h1 h2).mono ?_;rintro e w2 ⟨rfl,L2,u2,m2,k1,k2,k3,k4⟩;exact⟨rfl,L2,u2,m2,k1,k2,h3.trans k3 λp=>by rw[inU_P],by rw[k4,h4,inU_P,or_assoc]⟩
   |@F q c d x y a' b' hq hx hy=>
    injection ht with e1 e2 e3 e4 e5;subst e4;subst e5;refine zge lb v _ _ (by decide) hvi w _ F' (zqt L u met w _ _ q 2 _ (Ku.F hq hx hy) (.inr (.inr ⟨rfl,rfl⟩)) hq (ndF _ _ _) hV hG ?_);have C:=iha L u met w x c hx hV hG;obtain⟨T,z,rfl⟩:=hx.iface;obtain⟨S,y',rfl⟩:=hy.iface;refine eachPart_F _ #[pZ lb] #[] zgk q T S z y' w (LoQ lb u0 l0 a u met) _ (hV.partF0 hq) (by rw[zbh];exact C) ?_;rintro w1 ⟨L1,u1,m1,h1,h2,h3,h4⟩;have hne:q≠lb:=λe=>by obtain⟨c2,k2⟩:=hG.lb;rw[e,k2] at hq;simp at hq
    refine⟨h1.partF1 (h3.rest _ _ _ _ hne (by decide) hq),?_⟩;rw[zbh];refine(ihb L1 u1 m1 w1 _ d (h3.ku hG.lb hy) h1 h2).mono ?_;rintro e w2 ⟨rfl,L2,u2,m2,k1,k2,k3,k4⟩;exact⟨rfl,L2,u2,m2,k1,k2,h3.trans k3 λp=>by rw[inU_F],by rw[k4,h4,inU_F,or_assoc]⟩
   |@U q l hq=>
    have hU:=hV.unk hG.noU;obtain⟨xb,hb⟩:=hG.blk;obtain⟨T0,r0,x0,hT0,hu0,hv0⟩:=hV.vis
    have hr:r0=[pZ u0,.bool met]/\T0=345:=by
     rw[hb] at hu0;simp at hu0;exact⟨hu0.1.2.symm,hu0.2.symm⟩
    obtain⟨rfl,rfl⟩:=hr;have hne:q≠lb:=by rintro rfl;rw[hb] at hq;simp at hq
    refine(lower_un lb q u0 l l0 (min l l0) rfl met (met||decide (q=u0)) rfl v (np L) hvi w F' (hU _ _ _ hq) (hU _ _ _ hG.lv) hv0).mono ?_;rintro e w' ⟨rfl,rfl⟩;have hV2:=((hV.setU (i:=0) hq (by simp[VisT]) hne (.int .i64 ((min l l0:Nat):Int))).setOwn (i:=1) (.bool (met||decide (q=u0)))).drew
    have hx1:((u.setCell ⟨q,0,none⟩ (.int .i64 ((min l l0:Nat):Int))).setCell ⟨lb,2,none⟩ (.bool (met||decide (q=u0)))).heap[q]? =some (obU (min l l0) .nilIface):=by
     rw[Below.heap_setCell _ _ _ _ (by show ¬_;simp;omega)];simp[World.setCell,z1i,hq]
    have hxo:∀p,p≠q->p≠lb->((u.setCell ⟨q,0,none⟩ (.int .i64 ((min l l0:Nat):Int))).setCell ⟨lb,2,none⟩ (.bool (met||decide (q=u0)))).heap[p]? =u.heap[p]?:=λp h1 h2=>by
     rw[Below.heap_setCell _ _ _ _ (by show ¬_;simp;omega),Below.heap_setCell _ _ _ _ (by show ¬_;simp;omega)]
    have hxb:((u.setCell ⟨q,0,none⟩ (.int .i64 ((min l l0:Nat):Int))).setCell ⟨lb,2,none⟩ (.bool (met||decide (q=u0)))).heap[lb]? =some (.cells #[xb,pZ u0,.bool (met||decide (q=u0))] 345 (0,0)):=by
     have e:(u.setCell ⟨q,0,none⟩ (.int .i64 ((min l l0:Nat):Int))).heap[lb]? =u.heap[lb]?:=Below.heap_setCell _ _ _ _ (by show ¬_;simp;omega);rw[hb] at e;generalize u.setCell ⟨q,0,none⟩ (.int .i64 ((min l l0:Nat):Int))=u1 at e;simp[World.setCell,z1i,e]
    have hL:LowW lb l0 (tU q) u ((u.setCell ⟨q,0,none⟩ (.int .i64 ((min l l0:Nat):Int))).setCell ⟨lb,2,none⟩ (.bool (met||decide (q=u0)))):=by
     refine⟨rfl,rfl,rfl,by simp[World.setCell],λp l' x hp=>?_,λp c T fz h1 h2 hp=>?_,λp h1 h2=>hxo p (by rintro rfl;exact h2 (by simp)) h1⟩
     ·by_cases e:p=q
      ·subst e
       rw[hq] at hp;simp at hp;obtain⟨hl,rfl⟩:=hp;obtain rfl:l=l':=by omega
       exact⟨_,hx1,Nat.min_le_left _ _,λ_ _=>rfl,λhn=>absurd ⟨rfl,by simp⟩ hn⟩
      ·have hpl:p≠lb:=by rintro rfl;rw[hb] at hp;simp at hp
       exact⟨l',by rw[hxo p e hpl];exact hp,z1d _,λ_ hi=>absurd (by simpa using hi) (Ne.symm e),λ_=>rfl⟩
     ·have e:p≠q:=by rintro rfl;rw[hq] at hp;simp at hp;exact h2 hp.2.1.symm
      rw[hxo p e h1];exact hp
    refine⟨rfl,L,_,met||decide (q=u0),hV2,?_,⟨hL.os,hL.tape,hL.output,hL.size,hL.unk,hL.rest,hL.oth⟩,?_⟩
    ·have:=hG.step hL ⟨xb,hxb⟩ (λh=>by rw[h];rfl)
     exact⟨this.blk,this.lv,λa b c d=>by
      obtain⟨c1,t1,v1,k1,k2,k3,k4⟩:=this.gd a b c d;exact⟨c1,t1,v1,k1.kept (λ_ _ _ _ h=>h),k2,k3,k4⟩⟩
    ·simp
end
abbrev lowO (u0:Nat):Obj:=.cells #[.pointer none,pZ u0,.bool false] 345
theorem Vs.newL (u0:Nat) (w:World):Vs w.heap.size [] (w.alloc (lowO u0)) (w.alloc (lowO u0)):=
 ⟨rfl,rfl,rfl,rfl,⟨_,[pZ u0,.bool false],_,by simp[VisT],z1v w _,z1v w _⟩,λ_ _=>rfl,λm h=>(by cases h),List.nodup_nil⟩
structure BdW (u0 l0:Nat) (t:Ty) (x0:Value) (w w':World):Prop where
 os:w'.os=w.os
 tape:w'.tape=w.tape
 output:w'.output=w.output
 size:w.heap.size<=w'.heap.size
 unk:∀(q l:Nat) (x:Value),q≠u0->w.heap[q]? =some (obU l x)->∃l',w'.heap[q]? =some (obU l' x)/\l'<=l/\(x=.nilIface->inU q t->l'=min l l0)/\(¬(x=.nilIface/\inU q t)->l'=l)
 oth:∀q,q<w.heap.size->q≠u0->¬inU q t->w'.heap[q]? =w.heap[q]?
 u0:w'.heap[u0]? =some (obU l0 x0)
 rest:∀(q:Nat) (c:Array Value) (T:TypeId) (fz:Nat×Nat),T≠336->w.heap[q]? =some (.cells c T fz)->w'.heap[q]? =some (.cells c T fz)
theorem zyj (u0 l0 c:Nat) (t:Ty) (v:Value) (w:World) (hu:w.heap[u0]? =some (obU l0 .nilIface)) (hv:Ku w c t v):
 CZ 227 #[pZ u0,v] w λe w'=>(inU u0 t/\e=.returned (.bool false)/\BdW u0 l0 t .nilIface w w')\/(¬inU u0 t/\e=.returned (.bool true)/\BdW u0 l0 t v w w'):=by
 have b1:Below w.heap.size w (w.alloc (lowO u0)):=bal w _;have hlt:=(z1a.1 hu).1;have hG:LGl w.heap.size u0 l0 false (w.alloc (lowO u0)) []:=⟨⟨_,z1v w _⟩,(b1.block u0 hlt).trans hu,λq k f hm=>by cases hm⟩
 have S:=lower_any w.heap.size u0 l0 t [] (w.alloc (lowO u0)) false (w.alloc (lowO u0)) v c (hv.blw b1) (Vs.newL u0 w) hG;obtain⟨T,z,rfl⟩:=hv.iface
 --what is left
 have HF:Hid (∀(u1 w2:World) (x0:Value),LowW w.heap.size l0 t (w.alloc (lowO u0)) u1->u1.heap[u0]? =some (obU l0 .nilIface)->Ends w.heap.size (u1.setCell ⟨u0,1,none⟩ x0) w2->BdW u0 l0 t x0 w w2):=by
  intro u1 w2 x0 hL h0 hE;have hne:u0≠w.heap.size:=by omega
  refine⟨hE.os.trans hL.os,hE.tape.trans hL.tape,hE.output.trans hL.output,?_,λq l x hq hh=>?_,λq hq h0' hn=>?_,?_,λq cc T' fz hT hh=>?_⟩
  ·have h1:=hE.size
   have h2:=hL.size;have h3:(u1.setCell ⟨u0,1,none⟩ x0).heap.size=u1.heap.size:=by simp[World.setCell]
   simp at h2;omega
  ·have hql:=(z1a.1 hh).1
   obtain⟨l',k1,k2,k3,k4⟩:=hL.unk q l x ((b1.block q hql).trans hh);refine⟨l',?_,k2,k3,k4⟩;rw[hE.blk q (by omega),Below.heap_setCell _ _ _ _ (by show ¬_;simp;omega)];exact k1
  ·rw[hE.blk q (by omega),Below.heap_setCell _ _ _ _ (by show ¬_;simp;omega),hL.oth q (by omega) hn]
   exact b1.block q hq
  ·rw[hE.blk u0 hne]
   simp[World.setCell,z1i,h0]
  ·have hql:=(z1a.1 hh).1
   have hq0:q≠u0:=by rintro rfl;rw[hu] at hh;simp at hh;exact hT hh.2.1.symm
   rw[hE.blk q (by omega),Below.heap_setCell _ _ _ _ (by show ¬_;simp;omega)];exact hL.rest q cc T' fz (by omega) hT ((b1.block q hql).trans hh)
 have HS:Hid (∀(u1:World),u1.heap[u0]? =some (obU l0 .nilIface)->u1.setCell ⟨u0,1,none⟩ .nilIface=u1):=by
  intro u1 h1
  have:(u1.setCell ⟨u0,1,none⟩ .nilIface).heap=u1.heap:=by
   apply Array.ext_getElem?;intro j;by_cases e:j=u0
   ·subst e;simp[World.setCell,z1i,h1]
   ·rw[Below.heap_setCell _ _ _ _ (by show ¬_;simp;omega)]
  cases u1
  simp only[World.setCell] at this ⊢;rw[this]
 clear hv b1 hG;go_enter_defers Tryz.func227,Tryz.ntmps227;go_wp21;refine S.mono ?_;rintro e w1 ⟨rfl,L,u1,met,hV,hG,hL,hm⟩;clear S;obtain⟨xb,hb⟩:=hG.blk;obtain⟨T0,r0,x0,hT0,hu0,hv0⟩:=hV.vis
 have hr:r0=[pZ u0,.bool met]/\T0=345:=by
  rw[hb] at hu0;simp at hu0;exact⟨hu0.1.2.symm,hu0.2.symm⟩
 obtain⟨rfl,rfl⟩:=hr;have c2:cZ w1 w.heap.size 2 (.bool met):=cbl hv0;have hU1:=hV.unk hG.noU _ _ _ hG.lv;have f1:=z1g hU1 1;have c3:w1.cell? ⟨u0,1,none⟩=some .nilIface:=cbl hU1;have hlv:=hG.lv;have hne:u0≠w.heap.size:=by omega
 have HV:=hid hV;have HL:=hid hL;have HV2:Hid (Vs w.heap.size L (u1.setCell ⟨u0,1,none⟩ (.iface T z)) (w1.setCell ⟨u0,1,none⟩ (.iface T z))):=hV.setU hlv (by simp[VisT]) hne _;clear hV hL hG hb hu0 hv0 hT0 hU1 hu
 cases met
 ·have hn:¬inU u0 t:=λh=>by have:=hm.2 (.inr h);cases this
  clear hm;have HN:=hid hn;clear hn;go_wp21;refine leaves_cons (f:=198) (args:=#[pZ w.heap.size]) (by simp) (by simp[go_sem]) ?_;refine(zdx w.heap.size L _ .returning _ HV2).mono ?_;rintro e u' w2 ⟨rfl,rfl,hE⟩;exact⟨_,results_tmp rfl _ _ _,.inr ⟨HN,rfl,HF u1 w2 _ HL hlv hE⟩⟩
 ·have hi:inU u0 t:=by rcases hm.1 rfl with h|h;cases h;exact h
  clear hm;have HI:=hid hi;clear hi;go_wp21;refine leaves_cons (f:=198) (args:=#[pZ w.heap.size]) (by simp) (by simp[go_sem]) ?_;refine(zdx w.heap.size L _ .returning _ HV).mono ?_;rintro e u' w2 ⟨rfl,rfl,hE⟩;exact⟨_,results_tmp rfl _ _ _,.inl ⟨HI.out,rfl,HF.out u1 w2 _ HL.out hlv (by rw[HS.out u1 hlv];exact hE)⟩⟩
def SW (w:World) (s:Sta):Prop:=∀q∈s.A,w.heap[q]? =some (obU (s.lev q) .nilIface)
structure Kx (A:List Nat) (w w':World):Prop where
 os:w'.os=w.os
 tape:w'.tape=w.tape
 output:w'.output=w.output
 size:w.heap.size<=w'.heap.size
 rest:∀(q:Nat) (c:Array Value) (T:TypeId) (fz:Nat×Nat),T≠336->w.heap[q]? =some (.cells c T fz)->w'.heap[q]? =some (.cells c T fz)
 unk:∀(q l:Nat) (x:Value),w.heap[q]? =some (obU l x)->∃l' x',w'.heap[q]? =some (obU l' x')/\(x≠ .nilIface->x'=x)
 oth:∀q,q<w.heap.size->q∉A->w'.heap[q]? =w.heap[q]?
section
variable {A:List Nat} {u0 l0 c c0:Nat} {t:Ty} {x0:Value} {w w':World} (v v':Value) (S S':TypeId) (y y':Value)
theorem Kx.refl (A:List Nat) (w:World):Kx A w w:=⟨rfl,rfl,rfl,z1d _,λ_ _ _ _ _ h=>h,λq l x h=>⟨l,x,h,λ_=>rfl⟩,λ_ _ _=>rfl⟩
theorem Kx.mono {B:List Nat} (h:Kx A w w') (hs:∀q∈A,q∈B):Kx B w w':=⟨h.os,h.tape,h.output,h.size,h.rest,h.unk,λq hq hn=>h.oth q hq λhm=>hn (hs q hm)⟩
theorem Kx.trans {x y z:World} (h:Kx A x y) (k:Kx A y z):Kx A x z:=by
 refine⟨k.os.trans h.os,k.tape.trans h.tape,k.output.trans h.output,z1c h.size k.size,λq c T fz hT hq=>k.rest q c T fz hT (h.rest q c T fz hT hq),λq l v hq=>?_,λq hq hn=>(k.oth q (z1e hq h.size) hn).trans (h.oth q hq hn)⟩;obtain⟨l1,x1,h1,e1⟩:=h.unk q l v hq;obtain⟨l2,x2,h2,e2⟩:=k.unk q l1 x1 h1;refine⟨l2,x2,h2,λhv=>?_⟩;have:=e1 hv;subst this;exact e2 hv
theorem Kx.drew (h:Kx A w.drew w'):Kx A w w':=⟨h.os,h.tape,h.output,h.size,h.rest,h.unk,h.oth⟩
theorem Kx.drewN (h:Kx A w w') (n:Nat):Kx A w (w'.drewN n):=⟨h.os,h.tape,h.output,h.size,h.rest,h.unk,h.oth⟩
theorem BdW.kx (h:BdW u0 l0 t x0 w w') (hu:w.heap[u0]? =some (obU l0 .nilIface)) (h0:u0∈A) (hA:∀q,inU q t->q∈A):Kx A w w':=by
 refine⟨h.os,h.tape,h.output,h.size,h.rest,λq l x hq=>?_,λq hq hn=>h.oth q hq (by rintro rfl;exact hn h0) λhi=>hn (hA q hi)⟩;by_cases e:q=u0
 ·subst e
  rw[hu] at hq;simp at hq;exact⟨l0,x0,h.u0,λhn=>absurd hq.2.symm hn⟩
 ·obtain⟨l',h1,_⟩:=h.unk q l x e hq
  exact⟨l',x,h1,λ_=>rfl⟩
def KuStep (A:List Nat) (δ:Nat->Ty) (w w':World):Prop:=∀(c:Nat) (t:Ty) (v:Value),Ku w c t v->(∀q,inU q t->q∈A)->Ku w' c (usub δ t) v
theorem KuStep.refl (A:List Nat) (w:World):KuStep A tU w w:=λc t v h _=>by rw[zeb h.trim];exact h
theorem KuStep.trans {A1:List Nat} {δ1 δ2:Nat->Ty} {w1 w2:World} (h:KuStep A δ1 w w1) (k:KuStep A1 δ2 w1 w2) (hD:∀q∈A,∀p,inU p (δ1 q)->p∈A1):KuStep A (λq=>usub δ2 (δ1 q)) w w2:=by
 intro c t v hv hA;rw[<-zam];refine k c _ v (h c t v hv hA) λp hp=>?_
 obtain⟨q,h1,h2⟩:=zak.1 hp;exact hD q (hA q h1) p h2
theorem BdW.out {s:Ty} {v:Value} (h:BdW u0 l0 t x0 w w') (hu:w.heap[u0]? =some (obU l0 .nilIface)) (hv:Ku w c s v):¬inU u0 s->Ku w' c s v:=by
 induction hv using Ku.ind with
 |I=>intro _;exact .I
 |B=>intro _;exact .B
 |V o=>intro _;exact .V o
 |L hq _ ih=>intro hn;exact .L (h.rest _ _ _ _ (by decide) hq) (ih (by simpa using hn))
 |P hq _ _ ih1 ih2=>intro hn;rw[inU_P,not_or] at hn;exact .P (h.rest _ _ _ _ (by decide) hq) (ih1 hn.1) (ih2 hn.2)
 |F hq _ _ ih1 ih2=>intro hn;rw[inU_F,not_or] at hn;exact .F (h.rest _ _ _ _ (by decide) hq) (ih1 hn.1) (ih2 hn.2)
 |U hq=>
  intro hn;obtain⟨l',h1,_⟩:=h.unk _ _ _ (by rintro rfl;exact hn (by simp)) hq;exact .U h1
 |N hq k ih=>
  intro hn;obtain⟨l',h1,_⟩:=h.unk _ _ _ (by rintro rfl;rw[hu] at hq;simp at hq;exact k.ne hq.2.symm) hq;exact .N h1 (ih hn)
theorem BdW.step (h:BdW u0 l0 t x0 w w') (hu:w.heap[u0]? =some (obU l0 .nilIface)) (h0:Ku w c0 t x0) (hn:¬inU u0 t) (A:List Nat):KuStep A (oneU u0 t) w w':=by
 intro c s v hv hA;clear hA;have k0:=h.out hu h0 hn
 induction hv using Ku.ind with
 |I=>exact .I
 |B=>exact .B
 |V o=>exact .V o
 |L hq _ ih=>exact .L (h.rest _ _ _ _ (by decide) hq) ih
 |P hq _ _ ih1 ih2=>exact .P (h.rest _ _ _ _ (by decide) hq) ih1 ih2
 |F hq _ _ ih1 ih2=>exact .F (h.rest _ _ _ _ (by decide) hq) ih1 ih2
 |@U q l hq=>
  by_cases e:q=u0
  ·subst e
   rw[usub_U,zeg];exact .N h.u0 k0
  ·rw[usub_U,zfl t e]
   obtain⟨l',h1,_⟩:=h.unk _ _ _ e hq;exact .U h1
 |@N q l cc x tt hq k ih=>
  obtain⟨l',h1,_⟩:=h.unk _ _ _ (by rintro rfl;rw[hu] at hq;simp at hq;exact k.ne hq.2.symm) hq;exact .N h1 ih
theorem BdW.un {s:Sta} (h:BdW u0 (s.lev u0) t x0 w w') (hs:SW w s) (h0:u0∈s.A) (hv:Ku w c0 t x0) (hA:∀q,inU q t->q∈s.A) (hn:¬inU u0 t):
 ∃s',Un s (tU u0) t s' (oneU u0 t) [u0]/\SW w' s'/\Kx s.A w w'/\KuStep s.A (oneU u0 t) w w':=by
 have hu:=hs u0 h0
 have:∀q,∃l:Nat,(inU q t->l=min (s.lev q) (s.lev u0))/\(¬inU q t->l=s.lev q):=λq=>by
  by_cases hi:inU q t
  ·exact⟨_,λ_=>rfl,λh=>absurd hi h⟩
  ·exact⟨_,λh=>absurd h hi,λ_=>rfl⟩
 have hl:∀q,(inU q t->(λq=>Classical.choose (this q)) q=min (s.lev q) (s.lev u0))/\(¬inU q t->(λq=>Classical.choose (this q)) q=s.lev q):=λq=>Classical.choose_spec (this q)
 generalize (λq=>Classical.choose (this q))=lev' at hl;refine⟨_,Un.bnd h0 hn hv.trim hA lev' hl,λq hq=>?_,h.kx hu h0 hA,h.step hu hv hn s.A⟩;have hq':q∈s.A/\q≠u0:=by simpa using hq
 obtain⟨l',h1,_,h3,h4⟩:=h.unk q _ _ hq'.2 (hs q hq'.1);show _=some (obU (lev' q) _);by_cases hi:inU q t
 ·rw[h1,h3 rfl hi,(hl q).1 hi]
 ·rw[h1,h4 (λh=>hi h.2),(hl q).2 hi]
theorem infoPU:(Tryz.prog.info? 330).map (·.comparable)=some true:=by kernel_rfl
theorem zer {tp te:TypeId} {n q q':Nat} {ca cb:Array Value} {ta tb:TypeId} (hp:Tryz.prog.underlying tp=some (.pointer te)) (h1:(Tryz.prog.info? tp).map (·.comparable)=some true) (h2:(Tryz.prog.info? te).map (·.size)=some (n+1)) (ha:w.heap[q]? =some (.cells ca ta (0,0))) (hb:w.heap[q']? =some (.cells cb tb (0,0))):
 (binOp .eql 94 (.iface tp (pZ q)) (.iface tp (pZ q'))).run Tryz.prog w=.ok (.bool (decide (q=q'))) w:=by
 obtain⟨i,hi,hcmp⟩:=Option.map_eq_some_iff.1 h1;obtain⟨j,hj,hjs⟩:=Option.map_eq_some_iff.1 h2;by_cases e:q=q'
 ·subst e
  simpa using run_eql_iface_ptr_same (P:=Tryz.prog) w ⟨q,0,none⟩ Tryz.underlying94 hp hi hcmp hj
 ·have:=run_eql_iface_ptr_other (P:=Tryz.prog) w Tryz.underlying94 hp hi hcmp hj (by rw[hjs];omega) (a:=⟨q,0,none⟩) (b:=⟨q',0,none⟩) (by simp[e]) ha hb
  simpa [e] using this
def tag:Ty->Nat
 | .nil=>9
 | .node g _ _ _ _=>g
theorem hd_eq {c':Nat} {t':Ty} {v v':Value} (h:Hd w c t v) (h':Hd w c' t' v'):
 ∃b:Bool,(binOp .eql 94 v v').run Tryz.prog w=.ok (.bool b) w/\(b=true->t=t')/\(b=false->tag t<=2\/tag t=6->t≠t'):=by
 have two:∀{T T':TypeId} (x x':Value),v=.iface T x->v'=.iface T' x'->T≠T'->tag t≠tag t'->∃b:Bool,(binOp .eql 94 v v').run Tryz.prog w=.ok (.bool b) w/\(b=true->t=t')/\(b=false->tag t<=2\/tag t=6->t≠t'):=by
  rintro T T' x x' rfl rfl hT ht;exact⟨false,zdz _ _ w hT,λe=>absurd e (by simp),λ_ _ e=>ht (by rw[e])⟩
 cases h using Hd.cs with
 |I=>cases h' using Hd.cs with
  |I=>exact⟨true,eql_I w,λ_=>rfl,λe=>absurd e (by simp)⟩
  |_=>exact two _ _ rfl rfl (by decide) (by simp[tag])
 |B=>cases h' using Hd.cs with
  |B=>exact⟨true,eql_B w,λ_=>rfl,λe=>absurd e (by simp)⟩
  |_=>exact two _ _ rfl rfl (by decide) (by simp[tag])
 |V o=>cases h' using Hd.cs with
  |V o'=>exact⟨decide (o=o'),eql_V o o' w,λe=>(by rw[of_decide_eq_true e]),λe _ h=>(by simp at h;exact absurd h (of_decide_eq_false e))⟩
  |_=>exact two _ _ rfl rfl (by decide) (by simp[tag])
 |@L q c x a hq hx=>cases h' using Hd.cs with
  |@L q' c' x' a' hq' hx'=>
   refine⟨_,zer Tryz.underlying256 infoPL sizeL hq hq',λe=>?_,λ_ h=>by simp[tag] at h⟩;obtain rfl:=of_decide_eq_true e;exact((Ku.L hq hx).one (Ku.L hq' hx')).2
  |_=>exact two _ _ rfl rfl (by decide) (by simp[tag])
 |@P q c d x y a b hq hx hy=>cases h' using Hd.cs with
  |@P q' c' d' x' y' a' b' hq' hx' hy'=>
   refine⟨_,zer Tryz.underlying259 infoPP sizeP hq hq',λe=>?_,λ_ h=>by simp[tag] at h⟩;obtain rfl:=of_decide_eq_true e;exact((Ku.P hq hx hy).one (Ku.P hq' hx' hy')).2
  |_=>exact two _ _ rfl rfl (by decide) (by simp[tag])
 |@F q c d x y a b hq hx hy=>cases h' using Hd.cs with
  |@F q' c' d' x' y' a' b' hq' hx' hy'=>
   refine⟨_,zer Tryz.underlying243 infoPF sizeF hq hq',λe=>?_,λ_ h=>by simp[tag] at h⟩;obtain rfl:=of_decide_eq_true e;exact((Ku.F hq hx hy).one (Ku.F hq' hx' hy')).2
  |_=>exact two _ _ rfl rfl (by decide) (by simp[tag])
 |@U q l hq=>cases h' using Hd.cs with
  |@U q' l' hq'=>exact⟨_,zer Tryz.underlying330 infoPU sizeU hq hq',λe=>(by rw[of_decide_eq_true e]),λe _ h=>(by simp at h;exact absurd h (of_decide_eq_false e))⟩
  |_=>exact two _ _ rfl rfl (by decide) (by simp[tag])
theorem unify_same (v v' x x':Value) (hv:∃T z,v=.iface T z) (hv':∃T z,v'=.iface T z) (hx:∃T z,x=.iface T z) (hx':∃T z,x'=.iface T z) (w:World) (F:CZ 226 #[v] w λe w'=>e=.returned x/\w'=w) (F':CZ 226 #[v'] w λe w'=>e=.returned x'/\w'=w) (E:(binOp .eql 94 x x').run Tryz.prog w=.ok (.bool true) w):
 CZ 206 #[v,v'] w λe w'=>e=.returned (.bool true)/\w'=w:=by
 obtain⟨T,z,rfl⟩:=hv;obtain⟨T',z',rfl⟩:=hv';obtain⟨S,y,rfl⟩:=hx;obtain⟨S',y',rfl⟩:=hx';go_enter Tryz.func206,Tryz.ntmps206;go_wp21;refine F.mono ?_;rintro e w1 ⟨rfl,e1⟩;subst e1;go_wp21;refine F'.mono ?_;rintro e w2 ⟨rfl,e2⟩;subst e2;go_wp21;go_ret;exact⟨rfl,rfl⟩
theorem unify_u1 (v v':Value) (u0:Nat) (S':TypeId) (y':Value) (hv:∃T z,v=.iface T z) (hv':∃T z,v'=.iface T z) (w:World) (Q:Bool->World->Prop) (F:CZ 226 #[v] w λe w'=>e=.returned (viU u0)/\w'=w) (F':CZ 226 #[v'] w λe w'=>e=.returned (.iface S' y')/\w'=w) (E:(binOp .eql 94 (viU u0) (.iface S' y')).run Tryz.prog w=.ok (.bool false) w) (H:CZ 227 #[pZ u0,.iface S' y'] w λe w'=>∃r,e=.returned (.bool r)/\Q r w'):
 CZ 206 #[v,v'] w λe w'=>∃r,e=.returned (.bool r)/\Q r w':=by
 obtain⟨T,z,rfl⟩:=hv;obtain⟨T',z',rfl⟩:=hv';have HH:=hid H;have a1:=zdq;go_enter Tryz.func206,Tryz.ntmps206;go_wp21;refine F.mono ?_;rintro e w1 ⟨rfl,e1⟩;subst e1;go_wp21;refine F'.mono ?_;rintro e w2 ⟨rfl,e2⟩;subst e2;go_wp21;refine HH.mono ?_;rintro e w3 ⟨r,rfl,hq⟩;have HQ:=hid hq;go_wp21;go_ret;exact⟨r,rfl,HQ⟩
theorem unify_u2 (v v':Value) (u0:Nat) (S:TypeId) (y:Value) (hS:S≠330) (hv:∃T z,v=.iface T z) (hv':∃T z,v'=.iface T z) (w:World) (Q:Bool->World->Prop) (F:CZ 226 #[v] w λe w'=>e=.returned (.iface S y)/\w'=w) (F':CZ 226 #[v'] w λe w'=>e=.returned (viU u0)/\w'=w) (E:(binOp .eql 94 (.iface S y) (viU u0)).run Tryz.prog w=.ok (.bool false) w) (H:CZ 227 #[pZ u0,.iface S y] w λe w'=>∃r,e=.returned (.bool r)/\Q r w'):
 CZ 206 #[v,v'] w λe w'=>∃r,e=.returned (.bool r)/\Q r w':=by
 obtain⟨T,z,rfl⟩:=hv;obtain⟨T',z',rfl⟩:=hv';have HH:=hid H;have a1:=zdq;have a2:=λw=>zeu y hS w
 go_enter Tryz.func206,Tryz.ntmps206;go_wp21;refine F.mono ?_;rintro e w1 ⟨rfl,e1⟩;subst e1;go_wp21;refine F'.mono ?_;rintro e w2 ⟨rfl,e2⟩;subst e2;go_wp21;refine HH.mono ?_;rintro e w3 ⟨r,rfl,hq⟩;have HQ:=hid hq;go_wp21;go_ret;exact⟨r,rfl,HQ⟩
theorem zuf (hS:S≠330) (hS':S'≠330) (hv:∃T z,v=.iface T z) (hv':∃T z,v'=.iface T z) (w:World) (Q:Bool->World->Prop) (F:CZ 226 #[v] w λe w'=>e=.returned (.iface S y)/\w'=w) (F':CZ 226 #[v'] w λe w'=>e=.returned (.iface S' y')/\w'=w) (E:(binOp .eql 94 (.iface S y) (.iface S' y')).run Tryz.prog w=.ok (.bool false) w) (H:CZ 179 #[.iface S y,.iface S' y',.func (.func 206) #[] #[]] w λe w'=>∃r,e=.returned (.bool r)/\Q r w'):
 CZ 206 #[v,v'] w λe w'=>∃r,e=.returned (.bool r)/\Q r w':=by
 obtain⟨T,z,rfl⟩:=hv;obtain⟨T',z',rfl⟩:=hv';have HH:=hid H;have a1:=λw=>zeu y hS w
 have a2:=λw=>zeu y' hS' w
 go_enter Tryz.func206,Tryz.ntmps206;go_wp21;refine F.mono ?_;rintro e w1 ⟨rfl,e1⟩;subst e1;go_wp21;refine F'.mono ?_;rintro e w2 ⟨rfl,e2⟩;subst e2;go_wp21;refine HH.mono ?_;rintro e w3 ⟨r,rfl,hq⟩;have HQ:=hid hq;go_wp21;go_ret;exact⟨r,rfl,HQ⟩
end
def UnQ (s:Sta) (a b:Ty) (w:World) (r:Bool) (w':World):Prop:=
 (r=true/\∃s' δ S,Un s a b s' δ S/\SW w' s'/\Kx s.A w w'/\KuStep s.A δ w w')\/(r=false/\Not2 a b/\Kx s.A w w')
section
variable {r:Bool} {c:Nat} {s:Sta} {a b t:Ty} {v y:Value} {w w':World}
theorem UnQ.kx (h:UnQ s a b w r w'):Kx s.A w w':=by
 rcases h with ⟨_,_,_,_,_,_,h,_⟩|⟨_,_,h⟩<;>exact h
theorem Ku.drew (h:Ku w c t v):Ku w.drew c t v:=Ku.kept (w:=w) (w':=w.drew) (λ_ _ _ _ h=>h) h
theorem UnQ.drew (h:UnQ s a b w.drew r w'):UnQ s a b w r w':=by
 rcases h with ⟨h0,s',δ,S,h1,h2,h3,h4⟩|⟨h0,h1,h2⟩
 ·exact .inl ⟨h0,s',δ,S,h1,h2,h3.drew,λc t v hv hA=>h4 c t v hv.drew hA⟩
 ·exact .inr ⟨h0,h1,h2.drew⟩
theorem zde:zcn 206:=enters_of Tryz.func206 (by kernel_rfl) rfl
theorem zgg (a b:Value):(#[]:Array Value)++(#[a,b]++#[])=#[a,b]:=by simp
def zyo (s:Sta) (a b:Ty):Prop:=∀(w:World) (va vb:Value) (ca cb:Nat),SW w s->Ku w ca a va->Ku w cb b vb->(∀q,inU q a->q∈s.A)->(∀q,inU q b->q∈s.A)->
 CZ 206 #[va,vb] w λe w'=>∃r,e=.returned (.bool r)/\UnQ s a b w r w'
theorem Un.less {s':Sta} {δ:Nat->Ty} {S:List Nat} (h:Un s a b s' δ S):s'.A.length<=s.A.length:=by
 rw[h.A];exact List.length_filter_le _ _
theorem zms {n m:Nat} {s1:Sta} {c d:Ty} {δ1:Nat->Ty} {S1:List Nat} (ihn:∀n'<n,∀(m:Nat) (s:Sta) (a b:Ty),s.A.length<=n'->sz a+sz b<=m->zyo s a b) (ihm:∀m'<m,∀(s:Sta) (a b:Ty),s.A.length<=n->sz a+sz b<=m'->zyo s a b) (h:Un s a c s1 δ1 S1) (hn:s.A.length<=n) (hm:sz b+sz d<m) (tb:Trim b) (td:Trim d):zyo s1 (usub δ1 b) (usub δ1 d):=by
 by_cases hS:S1=[]
 ·subst hS
  have:=h.idle;subst this;rw[zeb tb,zeb td];exact ihm _ hm s1 b d (z1c h.less hn) (z1d _)
 ·have:=h.fewer hS
  exact ihn (s1.A.length) (by omega) _ s1 _ _ (z1d _) (z1d _)
theorem Hd.inL (h:Hd w c t (.iface 256 y)):∃q c1 x a,y=(pZ q)/\t=tL a/\w.heap[q]? =some (obL (c1+1) x)/\Ku w c1 a x:=by
 generalize e:Value.iface 256 y=v at h
 cases h using Hd.cs with
 |L h1 h2=>cases e;exact⟨_,_,_,_,rfl,rfl,h1,h2⟩
 |_=>cases e
theorem Hd.inP (h:Hd w c t (.iface 259 y)):∃q c1 d1 x z a b,y=(pZ q)/\t=tP a b/\w.heap[q]? =some (obP (c1+d1+1) x z)/\Ku w c1 a x/\Ku w d1 b z:=by
 generalize e:Value.iface 259 y=v at h
 cases h using Hd.cs with
 |P h1 h2 h3=>cases e;exact⟨_,_,_,_,_,_,_,rfl,rfl,h1,h2,h3⟩
 |_=>cases e
theorem Hd.inF (h:Hd w c t (.iface 243 y)):∃q c1 d1 x z a b,y=(pZ q)/\t=tF a b/\w.heap[q]? =some (obF (c1+d1+1) x z)/\Ku w c1 a x/\Ku w d1 b z:=by
 generalize e:Value.iface 243 y=v at h
 cases h using Hd.cs with
 |F h1 h2 h3=>cases e;exact⟨_,_,_,_,_,_,_,rfl,rfl,h1,h2,h3⟩
 |_=>cases e
theorem Hd.tg {S:TypeId} (h:Hd w c t (.iface S y)):(tag t=3->S=256)/\(tag t=4->S=259)/\(tag t=5->S=243)/\(tag t=6->S=330):=by
 generalize e:Value.iface S y=v at h
 cases h using Hd.cs<;>cases e<;>simp[tag]
theorem not2_of (ha:Trim a) (hb:Trim b) (h:tag a≠tag b) (h1:tag a≠6) (h2:tag b≠6):Not2 a b:=by
 cases a with
 |nil=>exact absurd ha (by simp[Trim])
 |node=>cases b with
  |nil=>exact absurd hb (by simp[Trim])
  |node=>exact Not2.tags h h1 h2
theorem hd_not2 {c':Nat} {t':Ty} {v':Value} (h:Hd w c t v) (h':Hd w c' t' v') (hl:tag t<=2) (ht:t≠t') (h6:tag t'≠6):Not2 t t':=by
 cases h using Hd.cs with
 |I=>cases h' using Hd.cs with
  |I=>exact absurd rfl ht
  |U=>exact absurd rfl h6
  |_=>exact Not2.tags (by decide) (by decide) (by decide)
 |B=>cases h' using Hd.cs with
  |B=>exact absurd rfl ht
  |U=>exact absurd rfl h6
  |_=>exact Not2.tags (by decide) (by decide) (by decide)
 |V o=>cases h' using Hd.cs with
  |V o'=>exact Not2.vars λe=>ht (by rw[e])
  |U=>exact absurd rfl h6
  |_=>exact Not2.tags (by decide) (by decide) (by decide)
 |_=>simp[tag] at hl
theorem unify_any:∀(n m:Nat) (s:Sta) (a b:Ty),s.A.length<=n->sz a+sz b<=m->zyo s a b:=by
 intro n
 induction n using Nat.strongRecOn with
 |ind n ihn=>
 intro m
 induction m using Nat.strongRecOn with
 |ind m ihm=>
 intro s a b hn hm w va vb ca cb hs ha hb hA hB;obtain⟨x,dx,hx,F⟩:=zje w w (λ_ _ _ h=>h) ha;obtain⟨y,dy,hy,F'⟩:=zje w w (λ_ _ _ h=>h) hb;have hvi:=ha.iface;have hvi':=hb.iface;have ta:=ha.trim;have tb:=hb.trim;obtain⟨eb,E,et,ef⟩:=hd_eq hx hy
 cases eb
 ·have ef:=ef rfl
  clear et;rcases hx.kinds with ⟨S,x',rfl,hS⟩|⟨u0,l,rfl,rfl,hq⟩
  ·rcases hy.kinds with ⟨S',y',rfl,hS'⟩|⟨u0,l,rfl,rfl,hq⟩
   ·--neither is an unknown
    refine zuf va vb S S' x' y' hS hS' hvi hvi' w (UnQ s a b w) F F' E ?_
    have miss:∀w',(∃k,w'=w.drewN k)->Not2 a b->UnQ s a b w false w':=by
     rintro w' ⟨k,rfl⟩ h;exact .inr ⟨rfl,h,(Kx.refl s.A w).drewN k⟩
    have leaf:S≠256->S≠259->S≠243->Not2 a b->CZ 179 #[.iface S x',.iface S' y',.func (.func 206) #[] #[]] w λe w'=>∃r,e=.returned (.bool r)/\UnQ s a b w r w':=by
     intro h1 h2 h3 h4;refine(zpi x' _ _ false w ⟨_,_,rfl⟩ h1 h2 h3 E).mono ?_;rintro e w' ⟨rfl,rfl⟩;exact⟨false,rfl,.inr ⟨rfl,h4,Kx.refl _ _⟩⟩
    have h6:tag b≠6:=λh=>hS' (hy.tg.2.2.2 h)
    have hne:tag a<=2->Not2 a b:=λh=>hd_not2 hx hy h (ef (.inl h)) h6
    generalize e0:Value.iface S x'=v0 at hx
    cases hx using Hd.cs with
    |I=>cases e0;exact leaf (by decide) (by decide) (by decide) (hne (by simp[tag]))
    |B=>cases e0;exact leaf (by decide) (by decide) (by decide) (hne (by simp[tag]))
    |V o=>cases e0;exact leaf (by decide) (by decide) (by decide) (hne (by simp[tag]))
    |U=>cases e0;exact absurd rfl hS
    |@L q c0 x a' hq hxa=>
     cases e0
     by_cases hL:S'=256
     ·subst hL
      obtain⟨q',c1,y,b',rfl,rfl,hq',hyb⟩:=hy.inL;have hsz:sz a'+sz b'<m:=by simp only[sz] at hm;omega
      have IH:=ihm _ hsz s a' b' hn (z1d _) w.drew x y c0 c1 (λq hq=>hs q hq) hxa.drew hyb.drew (λq hq=>hA q (by simpa using hq)) (λq hq=>hB q (by simpa using hq));obtain⟨Tx,zx,rfl⟩:=hxa.iface;obtain⟨Tq,zy,rfl⟩:=hyb.iface;have he:∀θ:Nat->Ty,usub θ (tL a')=usub θ (tL b') ↔ usub θ a'=usub θ b':=λθ=>by simp
      refine alikeL_hit 206 #[] #[] zde w q q' Tx Tq zx zy (UnQ s (tL a') (tL b') w) (cbl hq) (cbl hq') ?_ ?_
      ·rw[zgg]
       refine IH.mono ?_;rintro e w1 ⟨r,rfl,h⟩;refine⟨r,rfl,?_⟩;rcases h.drew with ⟨h0,s',δ,SS,h1,h2,h3,h4⟩|⟨h0,h1,h2⟩
       ·exact .inl ⟨h0,s',δ,SS,h1.map he (λq=>by simp) (λq=>by simp) (λh=>h.2.1) (λh=>h.2.1),h2,h3,h4⟩
       ·exact .inr ⟨h0,λθ e=>h1 θ ((he θ).1 e),h2⟩
      ·intro r w1 h
       have k:=h.kx;exact⟨by rw[z1f (k.rest _ _ _ _ (by decide) hq)];rfl,by rw[z1f (k.rest _ _ _ _ (by decide) hq')];rfl⟩
     ·refine(zvj q y' _ w hL).mono ?_
      rintro e w' ⟨rfl,k⟩;refine⟨false,rfl,miss w' k ?_⟩;exact not2_of ta tb (λh=>hL (hy.tg.1 h.symm)) (by simp[tag]) h6
    |@P q c0 d0 x1 x2 a1 a2 hq hx1 hx2=>
     cases e0
     by_cases hL:S'=259
     ·subst hL
      obtain⟨q',c1,d1,y1,y2,b1,b2,rfl,rfl,hq',hy1,hy2⟩:=hy.inP;have hsz:sz a1+sz b1<m/\sz a2+sz b2<m:=by simp only[sz] at hm;omega
      have hAA:(∀q,inU q a1->q∈s.A)/\(∀q,inU q a2->q∈s.A):=⟨λq h=>hA q (by rw[inU_P];exact .inl h),λq h=>hA q (by rw[inU_P];exact .inr h)⟩
      have hBB:(∀q,inU q b1->q∈s.A)/\(∀q,inU q b2->q∈s.A):=⟨λq h=>hB q (by rw[inU_P];exact .inl h),λq h=>hB q (by rw[inU_P];exact .inr h)⟩
      have IH:=ihm _ hsz.1 s a1 b1 hn (z1d _) w.drew x1 y1 c0 c1 (λq hq=>hs q hq) hx1.drew hy1.drew hAA.1 hBB.1;have t2:=hx2.trim;have t2':=hy2.trim;obtain⟨T1,z1,rfl⟩:=hx1.iface;obtain⟨T2,z2,rfl⟩:=hx2.iface;obtain⟨T1',z1',rfl⟩:=hy1.iface;obtain⟨T2',z2',rfl⟩:=hy2.iface;have he:∀θ:Nat->Ty,usub θ (tP a1 a2)=usub θ (tP b1 b2) ↔ usub θ a1=usub θ b1/\usub θ a2=usub θ b2:=λθ=>by simp
      have cells:∀w1,Kx s.A w w1->w1.cell? ⟨q,0,none⟩=some (.iface T1 z1)/\w1.cell? ⟨q',0,none⟩=some (.iface T1' z1')/\w1.cell? ⟨q,1,none⟩=some (.iface T2 z2)/\w1.cell? ⟨q',1,none⟩=some (.iface T2' z2'):=λw1 k=>
       ⟨by rw[z1f (k.rest _ _ _ _ (by decide) hq)];rfl,by rw[z1f (k.rest _ _ _ _ (by decide) hq')];rfl,by rw[z1f (k.rest _ _ _ _ (by decide) hq)];rfl,by rw[z1f (k.rest _ _ _ _ (by decide) hq')];rfl⟩
      obtain⟨k1,k2,k3,k4⟩:=cells w (Kx.refl s.A w);by_cases hN:Not2 a1 b1
      ·refine(zwv false 206 #[] #[] zde w q q' T1 T1' T2 T2' z1 z1' z2 z2' (Kx s.A w) k1 k2 k3 k4 ?_ cells).mono ?_
       ·rw[zgg]
        refine IH.mono ?_;rintro e w1 ⟨r,rfl,h⟩;rcases h.drew with ⟨h0,s',δ,SS,h1,_⟩|⟨h0,h1,h2⟩
        ·exact absurd h1.eq (hN δ)
        ·subst h0;exact⟨rfl,h2⟩
       ·rintro e w' ⟨rfl,k⟩
        exact⟨false,rfl,.inr ⟨rfl,λθ e=>hN θ ((he θ).1 e).1,k⟩⟩
      ·refine zta false 206 #[] #[] zde w q q' T1 T1' T2 T2' z1 z1' z2 z2' (λw1=>∃s1 δ1 S1,Un s a1 b1 s1 δ1 S1/\SW w1 s1/\Kx s.A w w1/\KuStep s.A δ1 w w1) (UnQ s (tP a1 a2) (tP b1 b2) w) k1 k2 k3 k4 ?_ ?_ (λw1 h=>by obtain⟨_,_,_,_,_,k,_⟩:=h;exact cells w1 k) (λr w1 h=>cells w1 h.kx)
       ·rw[zgg]
        refine IH.mono ?_;rintro e w1 ⟨r,rfl,h⟩;rcases h.drew with ⟨h0,h1⟩|⟨h0,h1,h2⟩
        ·subst h0;exact⟨rfl,h1⟩
        ·exact absurd h1 hN
       ·rintro w1 ⟨s1,δ1,S1,g1,g2,g3,g4⟩
        rw[zgg];have hD:∀r:Ty,(∀q,inU q r->q∈s.A)->∀q,inU q (usub δ1 r)->q∈s1.A:=λr hr q hq=>by obtain⟨p,h1,h2⟩:=zak.1 hq;exact(g1.D p (hr p h1) q h2).1
        refine(zms ihn ihm g1 hn hsz.2 t2 t2' w1 _ _ d0 d1 g2 (g4 _ _ _ hx2 hAA.2) (g4 _ _ _ hy2 hBB.2) (hD _ hAA.2) (hD _ hBB.2)).mono ?_;rintro e w2 ⟨r,rfl,h⟩;refine⟨r,rfl,?_⟩;rcases h with ⟨h0,s2,δ2,S2,h1,h2,h3,h4⟩|⟨h0,h1,h2⟩
        ·exact .inl ⟨h0,s2,_,_,g1.both h1 he (λq=>inU_P q _ _) (λq=>inU_P q _ _) (λh=>h.2) (λh=>h.2),h2,g3.trans (h3.mono λq hq=>((g1.mem q).1 hq).1),g4.trans h4 λq hq p hp=>(g1.D q hq p hp).1⟩
        ·exact .inr ⟨h0,Not2.later g1 h1 λθ e=>(he θ).1 e,g3.trans (h2.mono λq hq=>((g1.mem q).1 hq).1)⟩
     ·refine(zvi q y' _ w hL).mono ?_
      rintro e w' ⟨rfl,k⟩;refine⟨false,rfl,miss w' k ?_⟩;exact not2_of ta tb (λh=>hL (hy.tg.2.1 h.symm)) (by simp[tag]) h6
    |@F q c0 d0 x1 x2 a1 a2 hq hx1 hx2=>
     cases e0
     by_cases hL:S'=243
     ·subst hL
      obtain⟨q',c1,d1,y1,y2,b1,b2,rfl,rfl,hq',hy1,hy2⟩:=hy.inF;have hsz:sz a1+sz b1<m/\sz a2+sz b2<m:=by simp only[sz] at hm;omega
      have hAA:(∀q,inU q a1->q∈s.A)/\(∀q,inU q a2->q∈s.A):=⟨λq h=>hA q (by rw[inU_F];exact .inl h),λq h=>hA q (by rw[inU_F];exact .inr h)⟩
      have hBB:(∀q,inU q b1->q∈s.A)/\(∀q,inU q b2->q∈s.A):=⟨λq h=>hB q (by rw[inU_F];exact .inl h),λq h=>hB q (by rw[inU_F];exact .inr h)⟩
      have IH:=ihm _ hsz.1 s a1 b1 hn (z1d _) w.drew x1 y1 c0 c1 (λq hq=>hs q hq) hx1.drew hy1.drew hAA.1 hBB.1;have t2:=hx2.trim;have t2':=hy2.trim;obtain⟨T1,z1,rfl⟩:=hx1.iface;obtain⟨T2,z2,rfl⟩:=hx2.iface;obtain⟨T1',z1',rfl⟩:=hy1.iface;obtain⟨T2',z2',rfl⟩:=hy2.iface;have he:∀θ:Nat->Ty,usub θ (tF a1 a2)=usub θ (tF b1 b2) ↔ usub θ a1=usub θ b1/\usub θ a2=usub θ b2:=λθ=>by simp
      have cells:∀w1,Kx s.A w w1->w1.cell? ⟨q,0,none⟩=some (.iface T1 z1)/\w1.cell? ⟨q',0,none⟩=some (.iface T1' z1')/\w1.cell? ⟨q,1,none⟩=some (.iface T2 z2)/\w1.cell? ⟨q',1,none⟩=some (.iface T2' z2'):=λw1 k=>
       ⟨by rw[z1f (k.rest _ _ _ _ (by decide) hq)];rfl,by rw[z1f (k.rest _ _ _ _ (by decide) hq')];rfl,by rw[z1f (k.rest _ _ _ _ (by decide) hq)];rfl,by rw[z1f (k.rest _ _ _ _ (by decide) hq')];rfl⟩
      obtain⟨k1,k2,k3,k4⟩:=cells w (Kx.refl s.A w);by_cases hN:Not2 a1 b1
      ·refine(zwv true 206 #[] #[] zde w q q' T1 T1' T2 T2' z1 z1' z2 z2' (Kx s.A w) k1 k2 k3 k4 ?_ cells).mono ?_
       ·rw[zgg]
        refine IH.mono ?_;rintro e w1 ⟨r,rfl,h⟩;rcases h.drew with ⟨h0,s',δ,SS,h1,_⟩|⟨h0,h1,h2⟩
        ·exact absurd h1.eq (hN δ)
        ·subst h0;exact⟨rfl,h2⟩
       ·rintro e w' ⟨rfl,k⟩
        exact⟨false,rfl,.inr ⟨rfl,λθ e=>hN θ ((he θ).1 e).1,k⟩⟩
      ·refine zta true 206 #[] #[] zde w q q' T1 T1' T2 T2' z1 z1' z2 z2' (λw1=>∃s1 δ1 S1,Un s a1 b1 s1 δ1 S1/\SW w1 s1/\Kx s.A w w1/\KuStep s.A δ1 w w1) (UnQ s (tF a1 a2) (tF b1 b2) w) k1 k2 k3 k4 ?_ ?_ (λw1 h=>by obtain⟨_,_,_,_,_,k,_⟩:=h;exact cells w1 k) (λr w1 h=>cells w1 h.kx)
       ·rw[zgg]
        refine IH.mono ?_;rintro e w1 ⟨r,rfl,h⟩;rcases h.drew with ⟨h0,h1⟩|⟨h0,h1,h2⟩
        ·subst h0;exact⟨rfl,h1⟩
        ·exact absurd h1 hN
       ·rintro w1 ⟨s1,δ1,S1,g1,g2,g3,g4⟩
        rw[zgg];have hD:∀r:Ty,(∀q,inU q r->q∈s.A)->∀q,inU q (usub δ1 r)->q∈s1.A:=λr hr q hq=>by obtain⟨p,h1,h2⟩:=zak.1 hq;exact(g1.D p (hr p h1) q h2).1
        refine(zms ihn ihm g1 hn hsz.2 t2 t2' w1 _ _ d0 d1 g2 (g4 _ _ _ hx2 hAA.2) (g4 _ _ _ hy2 hBB.2) (hD _ hAA.2) (hD _ hBB.2)).mono ?_;rintro e w2 ⟨r,rfl,h⟩;refine⟨r,rfl,?_⟩;rcases h with ⟨h0,s2,δ2,S2,h1,h2,h3,h4⟩|⟨h0,h1,h2⟩
        ·exact .inl ⟨h0,s2,_,_,g1.both h1 he (λq=>inU_F q _ _) (λq=>inU_F q _ _) (λh=>h.2) (λh=>h.2),h2,g3.trans (h3.mono λq hq=>((g1.mem q).1 hq).1),g4.trans h4 λq hq p hp=>(g1.D q hq p hp).1⟩
        ·exact .inr ⟨h0,Not2.later g1 h1 λθ e=>(he θ).1 e,g3.trans (h2.mono λq hq=>((g1.mem q).1 hq).1)⟩
     ·refine(zvh q y' _ w hL).mono ?_
      rintro e w' ⟨rfl,k⟩;refine⟨false,rfl,miss w' k ?_⟩;exact not2_of ta tb (λh=>hL (hy.tg.2.2.1 h.symm)) (by simp[tag]) h6
   ·--the other is an unknown
    have h0:=hB u0 (by simp);have hu:=hs u0 h0;refine unify_u2 va vb u0 S x' hS hvi hvi' w (UnQ s a (tU u0) w) F F' E ((zyj u0 (s.lev u0) dx a _ w hu hx.tu).mono ?_);rintro e w' (⟨hi,rfl,k⟩|⟨hi,rfl,k⟩)
    ·refine⟨false,rfl,.inr ⟨rfl,(Not2.occurs hi ?_ ta).symm,k.kx hu h0 hA⟩⟩
     rintro rfl;exact hS (hx.tg.2.2.2 rfl)
    ·obtain⟨s',h1,h2,h3,h4⟩:=k.un hs h0 hx.tu hA hi
     exact⟨true,rfl,.inl ⟨rfl,s',_,_,h1.symm,h2,h3,h4⟩⟩
  ·--the one is an unknown
   have h0:=hA u0 (by simp);have hu:=hs u0 h0;obtain⟨S',y',rfl⟩:=hy.tu.iface;refine unify_u1 va vb u0 S' y' hvi hvi' w (UnQ s (tU u0) b w) F F' E ((zyj u0 (s.lev u0) dy b _ w hu hy.tu).mono ?_);rintro e w' (⟨hi,rfl,k⟩|⟨hi,rfl,k⟩)
   ·exact⟨false,rfl,.inr ⟨rfl,Not2.occurs hi (Ne.symm (ef (.inr rfl))) tb,k.kx hu h0 hB⟩⟩
   ·obtain⟨s',h1,h2,h3,h4⟩:=k.un hs h0 hy.tu hB hi
    exact⟨true,rfl,.inl ⟨rfl,s',_,_,h1,h2,h3,h4⟩⟩
 ·obtain rfl:=et rfl
  refine(unify_same va vb x y hvi hvi' hx.tu.iface hy.tu.iface w F F' E).mono ?_;rintro e w' ⟨rfl,rfl⟩;exact⟨true,rfl,.inl ⟨rfl,s,tU,[],Un.refl s a,hs,Kx.refl _ _,KuStep.refl _ _⟩⟩
end
section
variable {q k:Nat} {v:Value} (K:Nat) (fs cs:Array Value)
theorem zxb (eK:zcn K) (q:Nat) (T:TypeId) (z:Value) (w:World) (c0:w.cell? ⟨q,0,none⟩=some (.iface T z)) (Q1 Q:Value->World->Prop) (H:CZ K (fs.push (.iface T z)++cs) w λe w1=>∃x',e=.returned x'/\Q1 x' w1) (HE:∀x' w1,Q1 x' w1->w1.cell? ⟨q,0,none⟩=some (.iface T z)/\∃c:Bool,(binOp .neq 94 x' (.iface T z)).run Tryz.prog w1=.ok (.bool (!c)) w1/\(c=true->Q (viL q) w1)/\
  (∀T' z',x'=.iface T' z'->CZ 230 #[.iface T' z'] w1 λe w2=>∃q',e=.returned (pZ q')/\Q (viL q') w2)/\∃T' z',x'=.iface T' z'):
 CZ 237 #[viL q,.func (.func K) fs cs] w λe w'=>∃r,e=.returned r/\Q r w':=by
 have HH:=hid H
 have HHE:Hid (∀x' w1,Q1 x' w1->cZ w1 q 0 (.iface T z)/\∃c:Bool,(binOp .neq 94 x' (.iface T z)).run Tryz.prog w1=.ok (.bool (!c)) w1/\(c=true->Q (viL q) w1)/\
  (∀T' z',x'=.iface T' z'->CZ 230 #[.iface T' z'] w1 λe w2=>∃q',e=.returned (pZ q')/\Q (viL q') w2)/\∃T' z',x'=.iface T' z'):=HE
 have a1:=zjx;go_enter Tryz.func237,Tryz.ntmps237;go_wp21;refine HH.mono ?_;rintro e w1 ⟨x',rfl,hq1⟩;obtain⟨c1,c,hc,hy,hn,T',z',rfl⟩:=HHE x' w1 hq1
 cases c with
 |true=>
  have HY:=hid (hy rfl);go_wp21;go_ret;exact⟨_,rfl,HY⟩
 |false=>
  have HN:=hid (hn T' z' rfl);go_wp21;refine HN.mono ?_;rintro e w2 ⟨q',rfl,hp⟩;have HP:=hid hp;go_wp21;go_ret;exact⟨_,rfl,HP⟩
abbrev viK (f:Bool) (q:Nat):Value:=cond f (viF q) (viP q)
abbrev nwK (f:Bool):Nat:=cond f 160 209
theorem zld (f:Bool) (K:Nat) (fs cs:Array Value) (eK:zcn K) (q:Nat) (T S:TypeId) (z y:Value) (w:World) (c0:w.cell? ⟨q,0,none⟩=some (.iface T z)) (c1:w.cell? ⟨q,1,none⟩=some (.iface S y)) (Q1:Value->World->Prop) (Q2:Value->Value->World->Prop) (Q:Value->World->Prop) (H:CZ K (fs.push (.iface T z)++cs) w.drew λe w1=>∃x',e=.returned x'/\Q1 x' w1) (H2:∀x' w1,Q1 x' w1->(w1.cell? ⟨q,0,none⟩=some (.iface T z)/\w1.cell? ⟨q,1,none⟩=some (.iface S y))/\(∃T' z',x'=.iface T' z')/\CZ K (fs.push (.iface S y)++cs) w1 λe w2=>∃y',e=.returned y'/\Q2 x' y' w2) (HE:∀x' y' w2,Q2 x' y' w2->(w2.cell? ⟨q,0,none⟩=some (.iface T z)/\w2.cell? ⟨q,1,none⟩=some (.iface S y))/\(∃T' z',y'=.iface T' z')/\∃c d:Bool,(binOp .neq 94 x' (.iface T z)).run Tryz.prog w2=.ok (.bool (!c)) w2/\(binOp .neq 94 y' (.iface S y)).run Tryz.prog w2=.ok (.bool (!d)) w2/\(c=true->d=true->Q (viK f q) w2)/\
  (∀T1 z1 S1 s1,x'=.iface T1 z1->y'=.iface S1 s1->CZ (nwK f) #[.iface T1 z1,.iface S1 s1] w2 λe w3=>∃q',e=.returned (pZ q')/\Q (viK f q') w3)):
 CZ 237 #[viK f q,.func (.func K) fs cs] w λe w'=>∃r,e=.returned r/\Q r w':=by
 have HH:=hid H;have HH2:=hid H2
 have HHE:Hid (∀x' y' w2,Q2 x' y' w2->(cZ w2 q 0 (.iface T z)/\cZ w2 q 1 (.iface S y))/\(∃T' z',y'=.iface T' z')/\∃c d:Bool,(binOp .neq 94 x' (.iface T z)).run Tryz.prog w2=.ok (.bool (!c)) w2/\(binOp .neq 94 y' (.iface S y)).run Tryz.prog w2=.ok (.bool (!d)) w2/\(c=true->d=true->Q (viK f q) w2)/\
  (∀T1 z1 S1 s1,x'=.iface T1 z1->y'=.iface S1 s1->CZ (nwK f) #[.iface T1 z1,.iface S1 s1] w2 λe w3=>∃q',e=.returned (pZ q')/\Q (viK f q') w3)):=HE
 cases f
 case' false=>
  have a1:=λv=>zbv (T:=259) v (by decide)
  have a3:=zhj
 case' true=>
  have a1:=λv=>zbv (T:=243) v (by decide)
  have a2:=λv=>zdo (T:=243) v (by decide)
  have a3:=zca
 all_goals
  dsimp only[viK,nwK,cond] at *
  go_enter Tryz.func237,Tryz.ntmps237;go_wp21;refine wp_region_held_drew (S:=(λwq=>cZ wq q 0 (.iface T z)/\cZ wq q 1 (.iface S y))) (by kernel_rfl) (⟨c0,c1⟩) (λhS=>?_);refine tkS 0 (.func (.func K) fs cs) hS ?_;refine tkS 1 (pZ q) hS ?_;refine tkS 2 (pZ q) hS ?_;refine tkS 3 (pZ q) hS ?_;refine tkL 4 (.iface T z) hS ?_;refine tkS 6 (.func (.func K) fs cs) hS ?_;refine tkS 7 (pZ q) hS ?_;refine tkS 8 (pZ q) hS ?_;refine tkS 9 (.pointer (some ⟨q,1,none⟩)) hS ?_;refine tkL 10 (.iface S y) hS ?_;refine rd1 5 (λKK hK=>?_);go_simp;go_at_fn K;refine(HH).mono ?_;rintro e w1 ⟨x',rfl,hq1⟩;obtain⟨⟨k0,k1⟩,⟨Tx,zx,ex⟩,C2⟩:=HH2 x' w1 hq1;subst ex;have HC2:=hid C2;refine hK.out _ _ ⟨k0,k1⟩ (λhS=>nrm ?_);refine rd1 11 (λKK hK=>?_);go_simp;go_at_fn K;refine(HC2).mono ?_;rintro e w2 ⟨y',rfl,hq2⟩;obtain⟨⟨j0,j1⟩,⟨Ty',zy,ey⟩,HX⟩:=HHE _ y' w2 hq2;subst ey;refine hK.out _ _ ⟨j0,j1⟩ (λhS=>nrm ?_);refine tkS 12 (.iface Tx zx) hS ?_;refine tkS 13 (.iface Ty' zy) hS ?_;refine wpAnyH_done (by kernel_rfl) ?_ _;obtain⟨c,d,hc,hd,hy,hn⟩:=HX;have HN:=hid (hn Tx zx Ty' zy rfl rfl)
  cases c with
  |true=>
   cases d with
   |true=>
    have HY:=hid (hy rfl rfl);go_wp21;go_ret;exact⟨_,rfl,HY⟩
   |false=>
    go_wp21;refine HN.mono ?_;rintro e w3 ⟨q',rfl,hp⟩;have HP:=hid hp;go_wp21;go_ret;exact⟨_,rfl,HP⟩
  |false=>
   go_wp21;refine HN.mono ?_;rintro e w3 ⟨q',rfl,hp⟩;have HP:=hid hp;go_wp21;go_ret;exact⟨_,rfl,HP⟩
theorem zoy (nv:NdV v q k) (vb:Nat) (hf:Value) (T1:TypeId) (x1:Value) (w:World) (hc:w.cell? ⟨q,k+1,none⟩=some (.iface T1 x1)):
 CZ 228 #[pZ vb,v,hf] w λe w'=>e=.returned (.iface T1 x1)/\w'=w:=by
 have A:=at_nd vb _ w nv hc;obtain⟨T,x,rfl⟩:=nv.iface;go_enter Tryz.func228,Tryz.ntmps228;go_wp21;refine A.mono ?_;rintro e w' ⟨rfl,rfl⟩;go_wp21;go_ret;exact⟨rfl,rfl⟩
theorem zos (nv:NdV v q k) (vb:Nat) (hf:Value) (w:World) (Q Q2:Value->World->Prop) (hc:w.cell? ⟨q,k+1,none⟩=some .nilIface) (R:CZ 237 #[v,hf] w λe w'=>∃r,e=.returned r/\Q r w') (KP:∀r w1,Q r w1->(∃T z,r=.iface T z)/\CZ 223 #[pZ vb,v,r] w1 λe w2=>e=.returned (.tuple #[])/\Q2 r w2):
 CZ 228 #[pZ vb,v,hf] w λe w'=>∃r,e=.returned r/\Q2 r w':=by
 have A:=at_nd vb _ w nv hc;have HR:=hid R;have HK:=hid KP;obtain⟨T,x,rfl⟩:=nv.iface;go_enter Tryz.func228,Tryz.ntmps228;go_wp21;refine A.mono ?_;rintro e w' ⟨rfl,rfl⟩;go_wp21;refine HR.mono ?_;rintro e w1 ⟨r,rfl,hq⟩;obtain⟨⟨T',z',rfl⟩,K⟩:=HK r w1 hq;have HK2:=hid K;go_wp21;refine HK2.mono ?_;rintro e w2 ⟨rfl,hp⟩;have HP:=hid hp;go_wp21;go_ret;exact⟨_,rfl,HP⟩
end
section
variable {vb c q:Nat} {t a b:Ty} {T:TypeId} {v v' x y:Value} {u w w':World}
theorem Ku.nodes {L:Mks} (h:Vs vb L u w) (hv:Ku u c t v):CZ 193 #[v] w λe w'=>e=.returned (iZ c)/\w'=w:=by
 cases hv using Ku.ind with
 |I=>exact zdp (.inl rfl) w
 |B=>exact zdp (.inr (.inl rfl)) w
 |V o=>exact zdp (.inr (.inr ⟨_,rfl⟩)) w
 |L hq _=>exact zgb (.inl ⟨rfl,rfl⟩) w (h.part hq (ndL _ _) (z1d _) rfl)
 |P hq _ _=>exact zgb (.inr (.inl ⟨rfl,rfl⟩)) w (h.part hq (ndP _ _ _) (z1d _) rfl)
 |F hq _ _=>exact zgb (.inr (.inr ⟨rfl,rfl⟩)) w (h.part hq (ndF _ _ _) (z1d _) rfl)
 |U _=>exact zdk _ _ w (by decide) (by decide) (by decide)
 |N _ _=>exact zdk _ _ w (by decide) (by decide) (by decide)
theorem Ku.nodes0 (hv:Ku w c t v):CZ 193 #[v] w λe w'=>e=.returned (iZ c)/\w'=w:=by
 cases hv using Ku.ind with
 |I=>exact zdp (.inl rfl) w
 |B=>exact zdp (.inr (.inl rfl)) w
 |V o=>exact zdp (.inr (.inr ⟨_,rfl⟩)) w
 |L hq _=>exact zgb (.inl ⟨rfl,rfl⟩) w (cbl hq)
 |P hq _ _=>exact zgb (.inr (.inl ⟨rfl,rfl⟩)) w (cbl hq)
 |F hq _ _=>exact zgb (.inr (.inr ⟨rfl,rfl⟩)) w (cbl hq)
 |U _=>exact zdk _ _ w (by decide) (by decide) (by decide)
 |N _ _=>exact zdk _ _ w (by decide) (by decide) (by decide)
theorem Ku.counts {L:Mks} (h:Vs vb L u w) (hv:Ku u c t v):Counts v c w:=by
 intro w' hb;obtain⟨u',h',b',_⟩:=h.grow hb;exact Ku.nodes h' (hv.blw b')
theorem Ku.counts0 (hv:Ku w c t v):Counts v c w:=λw' hb=>(hv.blw hb).nodes0
def Shape (w:World) (v:Value):Prop:=v=viI\/v=viB\/(∃o,v=viV o)\/∃(q:Nat) (c:Array Value) (T:TypeId),(v=viL q\/v=viP q\/v=viF q\/v=viU q)/\w.heap[q]? =some (.cells c T (0,0))
theorem Ku.shape (h:Ku w c t v):Shape w v:=by
 cases h using Ku.ind with
 |I=>exact .inl rfl
 |B=>exact .inr (.inl rfl)
 |V o=>exact .inr (.inr (.inl ⟨o,rfl⟩))
 |L hq _=>exact .inr (.inr (.inr ⟨_,_,_,.inl rfl,hq⟩))
 |P hq _ _=>exact .inr (.inr (.inr ⟨_,_,_,.inr (.inl rfl),hq⟩))
 |F hq _ _=>exact .inr (.inr (.inr ⟨_,_,_,.inr (.inr (.inl rfl)),hq⟩))
 |U hq=>exact .inr (.inr (.inr ⟨_,_,_,.inr (.inr (.inr rfl)),hq⟩))
 |N hq _=>exact .inr (.inr (.inr ⟨_,_,_,.inr (.inr (.inr rfl)),hq⟩))
theorem zuo {L:Mks} {c:Array Value}:∃c',zbi L q (some (.cells c T (0,0)))=some (.cells c' T (0,0)):=by
 induction L with
 |nil=>exact⟨c,rfl⟩
 |cons m r ih=>
  obtain⟨p,k,f⟩:=m;rw[zbi];split
  ·exact⟨_,rfl⟩
  ·exact ih
theorem Vs.cells {L:Mks} {c:Array Value} (h:Vs vb L u w) (hq:u.heap[q]? =some (.cells c T (0,0))):∃c' T',w.heap[q]? =some (.cells c' T' (0,0)):=by
 by_cases e:q=vb
 ·subst e
  obtain⟨T0,r,x,_,_,hv⟩:=h.vis;exact⟨_,_,hv⟩
 ·rw[h.blk q e,hq]
  obtain⟨c',h'⟩:=zuo (L:=L) (q:=q) (c:=c) (T:=T);exact⟨c',T,h'⟩
theorem Shape.vs {L:Mks} (h:Vs vb L u w) (hv:Shape u v):Shape w v:=by
 rcases hv with hv|hv|hv|⟨q,c,T,hv,hq⟩
 ·exact .inl hv
 ·exact .inr (.inl hv)
 ·exact .inr (.inr (.inl hv))
 ·obtain⟨c',T',h'⟩:=h.cells hq
  exact .inr (.inr (.inr ⟨q,c',T',hv,h'⟩))
theorem shape_eql (h:Shape w v) (h':Shape w v'):∃b:Bool,(binOp .eql 94 v v').run Tryz.prog w=.ok (.bool b) w/\(b=true->v=v'):=by
 have two:∀{T T':TypeId} (x x':Value),v=.iface T x->v'=.iface T' x'->T≠T'->∃b:Bool,(binOp .eql 94 v v').run Tryz.prog w=.ok (.bool b) w/\(b=true->v=v'):=by
  rintro T T' x x' rfl rfl hT;exact⟨false,zdz _ _ w hT,λe=>absurd e (by simp)⟩
 rcases h with rfl|rfl|⟨o,rfl⟩|⟨q,c,T,rfl|rfl|rfl|rfl,hq⟩
 ·rcases h' with rfl|rfl|⟨o',rfl⟩|⟨q',c',T',rfl|rfl|rfl|rfl,hq'⟩
  ·exact⟨true,eql_I w,λ_=>rfl⟩
  ·exact two _ _ rfl rfl (by decide)
  ·exact two _ _ rfl rfl (by decide)
  ·exact two _ _ rfl rfl (by decide)
  ·exact two _ _ rfl rfl (by decide)
  ·exact two _ _ rfl rfl (by decide)
  ·exact two _ _ rfl rfl (by decide)
 ·rcases h' with rfl|rfl|⟨o',rfl⟩|⟨q',c',T',rfl|rfl|rfl|rfl,hq'⟩
  ·exact two _ _ rfl rfl (by decide)
  ·exact⟨true,eql_B w,λ_=>rfl⟩
  ·exact two _ _ rfl rfl (by decide)
  ·exact two _ _ rfl rfl (by decide)
  ·exact two _ _ rfl rfl (by decide)
  ·exact two _ _ rfl rfl (by decide)
  ·exact two _ _ rfl rfl (by decide)
 ·rcases h' with rfl|rfl|⟨o',rfl⟩|⟨q',c',T',rfl|rfl|rfl|rfl,hq'⟩
  ·exact two _ _ rfl rfl (by decide)
  ·exact two _ _ rfl rfl (by decide)
  ·exact⟨_,eql_V _ _ w,λe=>by rw[of_decide_eq_true e]⟩
  ·exact two _ _ rfl rfl (by decide)
  ·exact two _ _ rfl rfl (by decide)
  ·exact two _ _ rfl rfl (by decide)
  ·exact two _ _ rfl rfl (by decide)
 ·rcases h' with rfl|rfl|⟨o',rfl⟩|⟨q',c',T',rfl|rfl|rfl|rfl,hq'⟩
  ·exact two _ _ rfl rfl (by decide)
  ·exact two _ _ rfl rfl (by decide)
  ·exact two _ _ rfl rfl (by decide)
  ·exact⟨_,zer Tryz.underlying256 infoPL sizeL hq hq',λe=>by rw[of_decide_eq_true e]⟩
  ·exact two _ _ rfl rfl (by decide)
  ·exact two _ _ rfl rfl (by decide)
  ·exact two _ _ rfl rfl (by decide)
 ·rcases h' with rfl|rfl|⟨o',rfl⟩|⟨q',c',T',rfl|rfl|rfl|rfl,hq'⟩
  ·exact two _ _ rfl rfl (by decide)
  ·exact two _ _ rfl rfl (by decide)
  ·exact two _ _ rfl rfl (by decide)
  ·exact two _ _ rfl rfl (by decide)
  ·exact⟨_,zer Tryz.underlying259 infoPP sizeP hq hq',λe=>by rw[of_decide_eq_true e]⟩
  ·exact two _ _ rfl rfl (by decide)
  ·exact two _ _ rfl rfl (by decide)
 ·rcases h' with rfl|rfl|⟨o',rfl⟩|⟨q',c',T',rfl|rfl|rfl|rfl,hq'⟩
  ·exact two _ _ rfl rfl (by decide)
  ·exact two _ _ rfl rfl (by decide)
  ·exact two _ _ rfl rfl (by decide)
  ·exact two _ _ rfl rfl (by decide)
  ·exact two _ _ rfl rfl (by decide)
  ·exact⟨_,zer Tryz.underlying243 infoPF sizeF hq hq',λe=>by rw[of_decide_eq_true e]⟩
  ·exact two _ _ rfl rfl (by decide)
 ·rcases h' with rfl|rfl|⟨o',rfl⟩|⟨q',c',T',rfl|rfl|rfl|rfl,hq'⟩
  ·exact two _ _ rfl rfl (by decide)
  ·exact two _ _ rfl rfl (by decide)
  ·exact two _ _ rfl rfl (by decide)
  ·exact two _ _ rfl rfl (by decide)
  ·exact two _ _ rfl rfl (by decide)
  ·exact two _ _ rfl rfl (by decide)
  ·exact⟨_,zer Tryz.underlying330 infoPU sizeU hq hq',λe=>by rw[of_decide_eq_true e]⟩
theorem Shape.iface (h:Shape w v):∃T x,v=.iface T x:=by
 rcases h with rfl|rfl|⟨o,rfl⟩|⟨q,c,T,rfl|rfl|rfl|rfl,hq⟩<;>exact⟨_,_,rfl⟩
theorem zcp (h:Shape w v) (h':Shape w v'):∃c:Bool,(binOp .neq 94 v v').run Tryz.prog w=.ok (.bool (!c)) w/\(c=true->v=v'):=by
 obtain⟨c,hc,h1⟩:=shape_eql h h';refine⟨c,?_,h1⟩;obtain⟨T,z,rfl⟩:=h.iface;obtain⟨T',z',rfl⟩:=h'.iface;simp only[binOp] at hc ⊢
 cases hh:(Op.equal 94 (.iface T z) (.iface T' z')).run Tryz.prog w with
 |ok b w'=>simp[hh] at hc ⊢;exact⟨by rw[hc.1],hc.2⟩
 |_=>simp[hh] at hc
def KcN (w:World) (c:Nat) (t:Ty) (v:Value):Prop:=∀R:Nat->Ty->Value->Prop,KC w (λq t=>t=tU q/\∃l:Nat,w.heap[q]? =some (obU l .nilIface)) R->R c t v
def Kc (w:World) (t:Ty) (v:Value):Prop:=KcN w (sz t) t v
theorem Kc.I:Kc w tI viI:=λ_ k=>k.I
theorem Kc.B:Kc w tB viB:=λ_ k=>k.B
theorem Kc.V (o:Nat):Kc w (tV o) (viV o):=λ_ k=>k.V o
theorem Kc.L (h:w.heap[q]? =some (obL (sz (tL a)) x)) (h1:Kc w a x):Kc w (tL a) (viL q):=λ_ k=>k.L h (h1 _ k)
theorem Kc.P (h:w.heap[q]? =some (obP (sz (tP a b)) x y)) (h1:Kc w a x) (h2:Kc w b y):Kc w (tP a b) (viP q):=λ_ k=>k.P h (h1 _ k) (h2 _ k)
theorem Kc.F (h:w.heap[q]? =some (obF (sz (tF a b)) x y)) (h1:Kc w a x) (h2:Kc w b y):Kc w (tF a b) (viF q):=λ_ k=>k.F h (h1 _ k) (h2 _ k)
theorem Kc.U {l:Nat} (h:w.heap[q]? =some (obU l .nilIface)):Kc w (tU q) (viU q):=λ_ k=>k.U ⟨rfl,l,h⟩
theorem Kc.ku (h:Kc w t v):Ku w (sz t) t v:=λR k=>h R ⟨k.I,k.B,k.V,k.L,k.P,k.F,λ⟨e,_,h⟩=>k.U ⟨_,_,h,.inl ⟨rfl,e⟩⟩⟩
theorem Kc.keep (hn:KeptN w w') (h:Kc w t v):(∀q l:Nat,inU q t->w.heap[q]? =some (obU l .nilIface)->∃l',w'.heap[q]? =some (obU l' .nilIface))->Kc w' t v:=by
 refine h (λc t v=>(∀q l:Nat,inU q t->w.heap[q]? =some (obU l .nilIface)->∃l',w'.heap[q]? =some (obU l' .nilIface))->KcN w' c t v) ⟨λ_ _ k=>k.I,λ_ _ k=>k.B,λo _ _ k=>k.V o,
  λhq ih hu R k=>k.L (hn _ _ _ (.inl rfl) hq) (ih (λq l hi h=>hu q l (by simpa using hi) h) R k),
  λhq i1 i2 hu R k=>k.P (hn _ _ _ (.inr (.inl rfl)) hq) (i1 (λq l hi h=>hu q l (by rw[inU_P];exact .inl hi) h) R k) (i2 (λq l hi h=>hu q l (by rw[inU_P];exact .inr hi) h) R k),
  λhq i1 i2 hu R k=>k.F (hn _ _ _ (.inr (.inr rfl)) hq) (i1 (λq l hi h=>hu q l (by rw[inU_F];exact .inl hi) h) R k) (i2 (λq l hi h=>hu q l (by rw[inU_F];exact .inr hi) h) R k),?_⟩
 rintro q t ⟨rfl,l,hq⟩ hu R k;exact k.U ⟨rfl,hu _ _ (by simp) hq⟩
theorem Kc.kept (hk:KeptU w w') (h:Kc w t v):Kc w' t v:=h.keep hk.n λq l _ hq=>⟨l,hk _ _ _ (.inr (.inr (.inr rfl))) hq⟩
theorem Kc.tv (h:Kc w t v):shut t->Tv w t v:=by
 refine(h (λc t v=>c=sz t/\(shut t->Tv w t v)) ⟨⟨rfl,λ_=>Tv.I w⟩,⟨rfl,λ_=>Tv.B w⟩,λo=>⟨rfl,λ_=>Tv.V w o⟩,?_,?_,?_,?_⟩).2
 ·rintro q c x a hq ⟨rfl,ih⟩
  exact⟨rfl,λhs=>Tv.L hq (ih λq hi=>hs q (by simpa using hi))⟩
 ·rintro q c d x y a b hq ⟨rfl,i1⟩ ⟨rfl,i2⟩
  exact⟨rfl,λhs=>Tv.P hq (i1 λq hi=>hs q (by rw[inU_P];exact .inl hi)) (i2 λq hi=>hs q (by rw[inU_P];exact .inr hi))⟩
 ·rintro q c d x y a b hq ⟨rfl,i1⟩ ⟨rfl,i2⟩
  exact⟨rfl,λhs=>Tv.F hq (i1 λq hi=>hs q (by rw[inU_F];exact .inl hi)) (i2 λq hi=>hs q (by rw[inU_F];exact .inr hi))⟩
 ·rintro q t ⟨rfl,l,hq⟩
  exact⟨rfl,λhs=>absurd (by simp) (hs q)⟩
theorem Kc.iface (h:Kc w t v):∃T x,v=.iface T x:=h.ku.iface
end
abbrev sfn (sb:Nat):Value:=.func (.func 207) #[pZ sb] #[]
theorem zfi (sb:Nat) (v:Value) (T:TypeId) (z:Value) (hT:T≠330) (hv:∃S y,v=.iface S y) (w:World) (Q:Value->World->Prop)
 (F:CZ 226 #[v] w λe w'=>e=.returned (.iface T z)/\w'=w)
 (H:CZ 228 #[pZ sb,.iface T z,sfn sb] w λe w'=>∃r,e=.returned r/\Q r w'):
 CZ 207 #[pZ sb,v] w λe w'=>∃r,e=.returned r/\Q r w':=by
 have HH:=hid H;have a1:=λw=>zeu z hT w
 obtain⟨S,y,rfl⟩:=hv;go_enter Tryz.func207,Tryz.ntmps207;go_wp21;refine F.mono ?_;rintro e w1 ⟨rfl,e1⟩;subst e1;go_wp21;refine HH.mono ?_;rintro e w1 ⟨r,rfl,hq⟩;have HQ:=hid hq;go_wp21;go_ret;exact⟨r,rfl,HQ⟩
theorem settle_low (sb q l:Nat) (lv:Int) (v:Value) (hv:∃S y,v=.iface S y) (w:World) (hl:(l:Int)<=lv)
 (F:CZ 226 #[v] w λe w'=>e=.returned (viU q)/\w'=w) (c1:w.cell? ⟨q,0,none⟩=some (iZ l)) (c2:w.cell? ⟨sb,1,none⟩=some (.int .i64 lv)):
 CZ 207 #[pZ sb,v] w λe w'=>e=.returned (viU q)/\w'=w.drew:=by
 have a1:=zdq;obtain⟨S,y,rfl⟩:=hv;go_enter Tryz.func207,Tryz.ntmps207;go_wp21;refine F.mono ?_;rintro e w1 ⟨rfl,e1⟩;subst e1;go_wp21;refine wp_region_held_drew (S:=(λwq=>cZ wq q 0 (iZ l)/\cZ wq sb 1 (.int .i64 lv))) (by kernel_rfl) (⟨c1,c2⟩) (λhS=>?_);refine tkS 0 (pZ q) hS ?_;refine tkS 1 (pZ q) hS ?_;refine tkS 2 (pZ q) hS ?_;refine tkL 3 (iZ l) hS ?_;refine tkS 4 (pZ sb) hS ?_;refine tkS 5 (pZ sb) hS ?_;refine tkS 6 (.pointer (some ⟨sb,1,none⟩)) hS ?_;refine tkL 7 (.int .i64 lv) hS ?_;refine tkS 8 (.bool true) hS ?_;refine wpAnyH_done (by kernel_rfl) ?_ _;go_wp21;go_ret;exact⟨rfl,rfl⟩
theorem zwh (sb q l:Nat) (lv:Int) (K:Nat) (fs cs:Array Value) (eK:zcn K) (o:Nat) (v:Value) (hv:∃S y,v=.iface S y) (w:World) (hl:lv<(l:Int)) (Q:World->Prop)
 (F:CZ 226 #[v] w λe w'=>e=.returned (viU q)/\w'=w) (c1:w.cell? ⟨q,0,none⟩=some (iZ l)) (c2:w.cell? ⟨sb,1,none⟩=some (.int .i64 lv)) (c3:w.cell? ⟨sb,2,none⟩=some (.func (.func K) fs cs))
 (H:CZ K (fs++cs) w.drew λe w'=>e=.returned (kv o)/\Q w')
 (HQ:∀w1,Q w1->w1.heap[q]? =some (obU l .nilIface)):
 CZ 207 #[pZ sb,v] w λe w'=>e=.returned (viV o)/\∃w1,Q w1/\w'=w1.setCell ⟨q,1,none⟩ (viV o):=by
 have HH:=hid H;have HHQ:=hid HQ;have a1:=zdq;obtain⟨S,y,rfl⟩:=hv;go_enter Tryz.func207,Tryz.ntmps207;go_wp21;refine F.mono ?_;rintro e w1 ⟨rfl,e1⟩;subst e1;go_wp21;refine wp_region_held_drew (S:=(λwq=>cZ wq q 0 (iZ l)/\cZ wq sb 1 (.int .i64 lv))) (by kernel_rfl) (⟨c1,c2⟩) (λhS=>?_);refine tkS 0 (pZ q) hS ?_;refine tkS 1 (pZ q) hS ?_;refine tkS 2 (pZ q) hS ?_;refine tkL 3 (iZ l) hS ?_;refine tkS 4 (pZ sb) hS ?_;refine tkS 5 (pZ sb) hS ?_;refine tkS 6 (.pointer (some ⟨sb,1,none⟩)) hS ?_;refine tkL 7 (.int .i64 lv) hS ?_;refine tkS 8 (.bool false) hS ?_;refine wpAnyH_done (by kernel_rfl) ?_ _;go_wp21;refine HH.mono ?_;rintro e w2 ⟨rfl,hq⟩;have hh:=HHQ.out w2 hq;have f1:=z1g hh 1;have d1:w2.cell? ⟨q,1,none⟩=some .nilIface:=cbl hh;have hx:(w2.setCell ⟨q,1,none⟩ (viV o)).heap[q]? =some (obU l (viV o)):=by simp[World.setCell,z1i,hh]
 have d2:(w2.setCell ⟨q,1,none⟩ (viV o)).cell? ⟨q,1,none⟩=some (viV o):=cbl hx;have HP:=hid hq;go_wp21;go_ret;exact⟨rfl,w2,HP,rfl⟩
end Go.Proofs.YtceadeaodbadlaaGreatDoor
namespace Go.Proofs.YtceadeaodbadlaaGreatDoor
open Go.RowKit
variable {lo : Nat}
structure Kg (lo B:Nat) (u u':World):Prop where
 os:u'.os=u.os
 tape:u'.tape=u.tape
 output:u'.output=u.output
 size:u.heap.size<=u'.heap.size
 unk:∀(q l:Nat) (x:Value),u.heap[q]? =some (obU l x)->u'.heap[q]? =some (obU l x)
 nod:KeptN u u'
 stl:∀(q:Nat) (c:Array Value),u.heap[q]? =some (.cells c 316 (0,0))->u'.heap[q]? =some (.cells c 316 (0,0))
 old:∀(q:Nat) (c:Array Value) (T:TypeId) (fz:Nat×Nat),q<B->T≠222->u.heap[q]? =some (.cells c T fz)->u'.heap[q]? =some (.cells c T fz)
 low:∀q,q<lo->q<u.heap.size->u'.heap[q]? =u.heap[q]?
def Kz (u u':World):Prop:=u.heap.size<=u'.heap.size/\∀(q:Nat) (c:Array Value) (T:TypeId) (fz:Nat×Nat),T≠336->T≠316->u.heap[q]? =some (.cells c T fz)->u'.heap[q]? =some (.cells c T fz)
section
variable {lv:Int} {L:Mks} {B c q k:Nat} {δ:Nat->Ty} {o:Obj} {s s':Sta} {t:Ty} {nx v:Value} {u u' u1 u2:World}
theorem Kx.z {A:List Nat} (h:Kx A u u'):Kz u u':=⟨h.size,λq c T fz h1 _ hq=>h.rest q c T fz h1 hq⟩
structure Gen (lo B K:Nat) (fs cs:Array Value) (NX:World->Nat->Prop):Prop where
 ent:zcn K
 keep:∀u u' k,NX u k->Kz u u'->NX u' k
 call:∀(sb:Nat) (L:Mks) (u w:World) (k:Nat),Vs sb L u w->(∃c,u.heap[sb]? =some (.cells c 316 (0,0)))->B<=sb->NX u k->k<260->
  CZ K (fs++cs) w λe w'=>e=.returned (kv (zac k))/\∃u',Vs sb L u' w'/\NX u' (k+1)/\Kg lo B u u'
structure SeW (lo B:Nat) (lv:Int) (s s':Sta) (δ:Nat->Ty) (u u':World):Prop where
 os:u'.os=u.os
 tape:u'.tape=u.tape
 output:u'.output=u.output
 size:u.heap.size<=u'.heap.size
 unk:∀(q l:Nat) (x:Value),u.heap[q]? =some (obU l x)->u'.heap[q]? =some (obU l x)\/(x=.nilIface/\lv<(l:Int)/\∃x',x'≠ .nilIface/\u'.heap[q]? =some (obU l x'))
 nod:KeptN u u'
 stl:∀(q:Nat) (c:Array Value),u.heap[q]? =some (.cells c 316 (0,0))->u'.heap[q]? =some (.cells c 316 (0,0))
 old:∀(q:Nat) (c:Array Value) (T:TypeId) (fz:Nat×Nat),q<B->T≠222->T≠336->u.heap[q]? =some (.cells c T fz)->u'.heap[q]? =some (.cells c T fz)
 sw:SW u' s'
 ku:KuStep s.A δ u u'
 low:∀q,q<lo->q<u.heap.size->q∉s.A->u'.heap[q]? =u.heap[q]?
 sub:∀q∈s'.A,q∈s.A
theorem SeW.refl (B:Nat) (lv:Int) (h:SW u s):SeW lo B lv s s tU u u:=
 ⟨rfl,rfl,rfl,z1d _,λ_ _ _ h=> .inl h,λ_ _ _ _ h=>h,λ_ _ h=>h,λ_ _ _ _ _ _ _ h=>h,h,KuStep.refl _ _,λ_ _ _ _=>rfl,λ_ h=>h⟩
theorem SeW.trans {s1 s2:Sta} {δ1 δ2:Nat->Ty} (h:SeW lo B lv s s1 δ1 u u1) (k:SeW lo B lv s1 s2 δ2 u1 u2) (hD:∀q∈s.A,∀p,inU p (δ1 q)->p∈s1.A):SeW lo B lv s s2 (λq=>usub δ2 (δ1 q)) u u2:=by
 refine⟨k.os.trans h.os,k.tape.trans h.tape,k.output.trans h.output,z1c h.size k.size,λq l x hq=>?_,h.nod.trans k.nod,λq c hq=>k.stl q c (h.stl q c hq),λq c T fz h1 h2 h3 hq=>k.old q c T fz h1 h2 h3 (h.old q c T fz h1 h2 h3 hq),k.sw,h.ku.trans k.ku hD,λq h1 h2 h3=>(k.low q h1 (z1e h2 h.size) λhm=>h3 (h.sub q hm)).trans (h.low q h1 h2 h3),λq hq=>h.sub q (k.sub q hq)⟩;rcases h.unk q l x hq with h1|⟨h1,h2,x',h3,h4⟩
 ·exact k.unk q l x h1
 ·rcases k.unk q l x' h4 with k1|⟨k1,_⟩
  ·exact .inr ⟨h1,h2,x',h3,k1⟩
  ·exact absurd k1 h3
theorem SeW.grow (h:SeW lo B lv s s' δ u u1) (hb:Below u1.heap.size u1 u2):SeW lo B lv s s' δ u u2:=by
 have hk:∀(q:Nat) (o:Obj),u1.heap[q]? =some o->u2.heap[q]? =some o:=λq o hq=>(hb.block q (z1a.1 hq).1).trans hq
 refine⟨hb.os.trans h.os,hb.tape.trans h.tape,hb.output.trans h.output,z1c h.size hb.size,λq l x hq=>?_,λq c T hT hq=>hk _ _ (h.nod q c T hT hq),λq c hq=>hk _ _ (h.stl q c hq),λq c T fz h1 h2 h3 hq=>hk _ _ (h.old q c T fz h1 h2 h3 hq),λq hq=>hk _ _ (h.sw q hq),λc t v hv hA=>(h.ku c t v hv hA).blw hb,λq h1 h2 h3=>(hb.block q (z1e h2 h.size)).trans (h.low q h1 h2 h3),h.sub⟩;rcases h.unk q l x hq with h1|⟨h1,h2,x',h3,h4⟩
 ·exact .inl (hk _ _ h1)
 ·exact .inr ⟨h1,h2,x',h3,hk _ _ h4⟩
structure SG (sb:Nat) (lv:Int) (nx:Value) (u:World) (L:Mks):Prop where
 blk:∃x,u.heap[sb]? =some (.cells #[x,.int .i64 lv,nx] 316 (0,0))
 gd:∀q k f,(q,k,f)∈L->∃c t v,Ku u c t v/\NdV v q k/\Kc u t f/\∀p l:Nat,inU p t->u.heap[p]? =some (obU l .nilIface)->(l:Int)<=lv
theorem SG.sb {sb:Nat} (h:SG sb lv nx u L):∃c,u.heap[sb]? =some (.cells c 316 (0,0)):=by
 obtain⟨x,hx⟩:=h.blk;exact⟨_,hx⟩
theorem SG.noU {sb:Nat} (h:SG sb lv nx u L) (c:Array Value):u.heap[sb]? ≠some (.cells c 336 (0,0)):=by
 obtain⟨x,hx⟩:=h.blk;rw[hx];simp
theorem low_keeps (hn:KeptN u u') (hu:∀(q l:Nat) (x:Value),u.heap[q]? =some (obU l x)->u'.heap[q]? =some (obU l x)\/(x=.nilIface/\lv<(l:Int)/\∃x',x'≠ .nilIface/\u'.heap[q]? =some (obU l x'))) (h:Ku u c t v):
 (∀p l:Nat,inU p t->u.heap[p]? =some (obU l .nilIface)->(l:Int)<=lv)->Ku u' c t v:=by
 induction h using Ku.ind with
 |I=>intro _;exact .I
 |B=>intro _;exact .B
 |V o=>intro _;exact .V o
 |L hq _ ih=>intro hl;exact .L (hn _ _ _ (.inl rfl) hq) (ih λp l hi h=>hl p l (by simpa using hi) h)
 |P hq _ _ ih1 ih2=>intro hl;exact .P (hn _ _ _ (.inr (.inl rfl)) hq) (ih1 λp l hi h=>hl p l (by rw[inU_P];exact .inl hi) h) (ih2 λp l hi h=>hl p l (by rw[inU_P];exact .inr hi) h)
 |F hq _ _ ih1 ih2=>intro hl;exact .F (hn _ _ _ (.inr (.inr rfl)) hq) (ih1 λp l hi h=>hl p l (by rw[inU_F];exact .inl hi) h) (ih2 λp l hi h=>hl p l (by rw[inU_F];exact .inr hi) h)
 |U hq=>
  intro hl;rcases hu _ _ _ hq with h1|⟨_,h2,_⟩
  ·exact .U h1
  ·exact absurd (hl _ _ (by simp) hq) (by omega)
 |N hq k ih=>
  intro hl;rcases hu _ _ _ hq with h1|⟨h2,_⟩
  ·exact .N h1 (ih hl)
  ·exact absurd h2 k.ne
theorem SG.step {sb:Nat} (h:SG sb lv nx u L) (k:SeW lo B lv s s' δ u u'):SG sb lv nx u' L:=by
 obtain⟨x,hx⟩:=h.blk;refine⟨⟨x,k.stl _ _ hx⟩,λq kk f hq=>?_⟩;obtain⟨c,t,v,h1,h2,h3,h4⟩:=h.gd q kk f hq;refine⟨c,t,v,low_keeps k.nod k.unk h1 h4,h2,h3.keep k.nod λp l hp hl=>?_,λp l hp hl=>?_⟩
 ·rcases k.unk _ _ _ hl with e|⟨_,e,_⟩
  ·exact⟨l,e⟩
  ·exact absurd (h4 p l hp hl) (by omega)
 ·obtain⟨l1,e1⟩:=h1.live p hp
  rcases k.unk _ _ _ e1 with e|⟨_,e,_⟩
  ·rw[e] at hl
   simp at hl;have:=h4 p l1 hp e1;omega
  ·exact absurd (h4 p l1 hp e1) (by omega)
def SeQ (lo sb B:Nat) (lv:Int) (nx:Value) (NX:World->Nat->Prop) (s:Sta) (t:Ty) (u:World) (x':Value) (w':World):Prop:=
 ∃L' u' s' δ qs,Vs sb L' u' w'/\SG sb lv nx u' L'/\NX u' s'.tk/\SeI lv s t s' δ qs/\SeW lo B lv s s' δ u u'/\Kc u' (usub δ t) x'
def SeSaid (lo sb B:Nat) (lv:Int) (nx:Value) (NX:World->Nat->Prop) (t:Ty):Prop:=∀(s:Sta) (L:Mks) (u w:World) (v:Value) (c:Nat),Ku u c t v->(∀q,inU q t->q∈s.A)->SW u s->tot s<=260->Vs sb L u w->SG sb lv nx u L->NX u s.tk->
 CZ 207 #[pZ sb,v] w λe w'=>∃r,e=.returned r/\SeQ lo sb B lv nx NX s t u r w'
theorem zfp:zcn 207:=enters_of Tryz.func207 (by kernel_rfl) rfl
theorem SeI.D {qs:List Nat} (h:SeI lv s t s' δ qs):∀q∈s.A,∀p,inU p (δ q)->p∈s'.A:=by
 intro q hq p hp;by_cases hm:q∈qs
 ·obtain⟨i,_,e⟩:=h.var hm
  rw[e] at hp;simp at hp
 ·rw[h.out q hm] at hp
  simp at hp;subst hp;exact(h.mem q).2 ⟨hq,hm⟩
theorem keep_set {sb:Nat} {r:Value} {w1:World} {NX:World->Nat->Prop} (hv:Ku u c t v) (hA:∀q,inU q t->q∈s.A) (nv:NdV v q k) (hq:u.heap[q]? =some o) (hn:isNd o k) (h:SeQ lo sb B lv nx NX s t u r w1):
 (∃T z,r=.iface T z)/\CZ 223 #[pZ sb,v,r] w1 λe w2=>e=.returned (.tuple #[])/\SeQ lo sb B lv nx NX s t u r w2:=by
 obtain⟨L1,u1,s1,δ,qs,hV1,hG1,hN1,hI,hW,hc⟩:=h;obtain⟨T,z,rfl⟩:=hc.iface;refine⟨⟨T,z,rfl⟩,?_⟩;have hv1:=hW.ku c t v hv hA
 have hq1:u1.heap[q]? =some o:=by
  rcases hn with ⟨n,x,rfl,rfl⟩|⟨n,x,y,rfl,rfl⟩|⟨n,x,y,rfl,rfl⟩
  ·exact hW.nod _ _ _ (.inl rfl) hq
  ·exact hW.nod _ _ _ (.inr (.inl rfl)) hq
  ·exact hW.nod _ _ _ (.inr (.inr rfl)) hq
 have low:∀p l:Nat,inU p (usub δ t)->u1.heap[p]? =some (obU l .nilIface)->(l:Int)<=lv:=by
  intro p l hp hl;have:=hI.low hA p hp;have e:=hW.sw p this.1;rw[e] at hl;simp at hl;omega
 have gdn:∃c t' v,Ku u1 c t' v/\NdV v q k/\Kc u1 t' (.iface T z)/\∀p l:Nat,inU p t'->u1.heap[p]? =some (obU l .nilIface)->(l:Int)<=lv:=⟨c,usub δ t,v,hv1,nv,hc,low⟩
 by_cases hi:q∈L1.map (·.1)
 ·refine(zqd nv hV1 hq1 hn hi T z).mono ?_
  rintro e w2 ⟨rfl,hV2⟩;refine⟨rfl,_,u1,s1,δ,qs,hV2,⟨hG1.blk,λq' k' f hm=>?_⟩,hN1,hI,hW,hc⟩;rcases zql hm with hm'|⟨e1,e2,gg,hm'⟩
  ·exact hG1.gd q' k' f hm'
  ·simp only at e1 e2 hm'
   subst e1;subst e2;obtain⟨⟨o',ho',hn'⟩,_⟩:=hV1.nds _ hm';simp only at ho' hn';rw[hq1] at ho';obtain rfl:=z1q ho';obtain rfl:=hn.one hn';exact gdn
 ·refine(zpo nv hV1 hq1 hn hi T z).mono ?_
  rintro e w2 ⟨rfl,hV2⟩;refine⟨rfl,_,u1,s1,δ,qs,hV2,⟨hG1.blk,λq' k' f hm=>?_⟩,hN1,hI,hW,hc⟩;rcases List.mem_cons.1 hm with e|hm
  ·injection e with e1 e2
   injection e2 with e2 e3;subst e1;subst e2;subst e3;exact gdn
  ·exact hG1.gd q' k' f hm
theorem zqk {sb:Nat} {w:World} {NX:World->Nat->Prop} (hv:Ku u c t v) (hA:∀q,inU q t->q∈s.A) (hs:SW u s) (hN:NX u s.tk) (nv:NdV v q k) (hq:u.heap[q]? =some o) (hn:isNd o k) (hV:Vs sb L u w) (hG:SG sb lv nx u L) (R:CZ 237 #[v,sfn sb] w λe w'=>∃r,e=.returned r/\SeQ lo sb B lv nx NX s t u r w'):
 CZ 228 #[pZ sb,v,sfn sb] w λe w'=>∃r,e=.returned r/\SeQ lo sb B lv nx NX s t u r w':=by
 by_cases hin:q∈L.map (·.1)
 ·obtain⟨k',hm⟩:=zym hin
  obtain⟨_,T1,x1,e1⟩:=hV.nds _ hm;have hc:=hV.found hq hn;rw[show fnd L q=.iface T1 x1 from e1] at hc;refine(zoy nv sb _ T1 x1 _ hc).mono ?_;rintro e w' ⟨rfl,rfl⟩;obtain⟨c',t',v',h1,h2,h3,h4⟩:=hG.gd _ _ _ hm;have ev:=zwi h1 hv h2 nv;subst ev;obtain⟨_,rfl⟩:=hv.one h1;rw[show fnd L q=.iface T1 x1 from e1] at h3;refine⟨_,rfl,L,u,s,tU,[],hV,hG,hN,SeI.none λp hp hpA=>?_,SeW.refl B lv hs,by rw[zeb hv.trim];exact h3⟩;exact h4 p _ hp (hs p hpA)
 ·have hc:=hV.found hq hn
  rw[zqv hin] at hc;exact zos nv sb _ _ (SeQ lo sb B lv nx NX s t u) (SeQ lo sb B lv nx NX s t u) hc R λr w1 h=>keep_set hv hA nv hq hn h
end
theorem SeQ.newF {sb B:Nat} {lv:Int} {nx:Value} {NX:World->Nat->Prop} {s:Sta} {t:Ty} {u u1 w1 w2:World} {L:Mks} {s':Sta} {δ:Nat->Ty} {qs:List Nat} {x:Value} (hk:∀u u' k,NX u k->Kz u u'->NX u' k)
 (hV:Vs sb L u1 w1) (hG:SG sb lv nx u1 L) (hN:NX u1 s'.tk) (hI:SeI lv s t s' δ qs) (hW:SeW lo B lv s s' δ u u1) (hb:Below w1.heap.size w1 w2) (hx:∀u2,Below u1.heap.size u1 u2->(∀q,u1.heap.size<=q->u2.heap[q]? =w2.heap[q]?)->Kc u2 (usub δ t) x):SeQ lo sb B lv nx NX s t u x w2:=by
 obtain⟨u2,g1,g2,g3⟩:=hV.grow hb;have hW2:=hW.grow g2;have hk2:Kx [] u1 u2:=⟨g2.os,g2.tape,g2.output,g2.size,λq c T fz _ hq=>(g2.block q (z1a.1 hq).1).trans hq,λq l x hq=>⟨l,x,(g2.block q (z1a.1 hq).1).trans hq,λ_=>rfl⟩,λq hq _=>g2.block q hq⟩
 refine⟨L,u2,s',δ,qs,g1,?_,hk _ _ _ hN hk2.z,hI,hW2,hx u2 g2 g3⟩;exact hG.step (SeW.grow (SeW.refl (lo:=lo) B lv (s:=s') (u:=u1) hW.sw) g2)
theorem settle_any (sb B:Nat) (lv:Int) (K:Nat) (fs cs:Array Value) (NX:World->Nat->Prop) (gen:Gen lo B K fs cs NX) (hB:B<=sb):∀(n:Nat) (t:Ty),sz t<=n->n<=4000000000000000000->SeSaid lo sb B lv (.func (.func K) fs cs) NX t:=by
 intro n
 induction n with
 |zero=>
  intro t hn _ s L u w v c hv;have:=hv.cnt;omega
 |succ n ih=>
  intro t hn hM s L u w v c hv hA hs ht hV hG hN;obtain⟨v',d,hd,F⟩:=zje u w (hV.unk hG.noU) hv;have hvi:=hv.iface
  have leaf:∀(T:TypeId) (z:Value),v'=.iface T z->Leaf (.iface T z)->T≠330->T≠256->T≠259->T≠243->(∀q,¬inU q t)->Kc u t (.iface T z)->
   CZ 207 #[pZ sb,v] w λe w'=>∃r,e=.returned r/\SeQ lo sb B lv (.func (.func K) fs cs) NX s t u r w':=by
   rintro T z rfl lf h1 h2 h3 h4 hi hc;refine zfi sb v T z h1 hvi w _ F ((zns lf sb _ _ (zhv z _ _ h2 h3 h4)).mono ?_);rintro e w' ⟨rfl,rfl⟩;exact⟨_,rfl,L,u,s,tU,[],hV,hG,hN,SeI.none λq hq=>absurd hq (hi q),SeW.refl B lv hs,by rw[zeb hv.trim];exact hc⟩
  cases hd using Hd.cs with
  |I=>exact leaf _ _ rfl (.inl rfl) (by decide) (by decide) (by decide) (by decide) (by simp) .I
  |B=>exact leaf _ _ rfl (.inr (.inl rfl)) (by decide) (by decide) (by decide) (by decide) (by simp) .B
  |V o=>exact leaf _ _ rfl (.inr (.inr ⟨o,rfl⟩)) (by decide) (by decide) (by decide) (by decide) (by simp) (.V o)
  |@L q c0 x a hq hx=>
   refine zfi sb v _ _ (by decide) hvi w _ F (zqk (Ku.L hq hx) hA hs hN (.inl ⟨rfl,rfl⟩) hq (ndL _ _) hV hG ?_);have hAa:∀q,inU q a->q∈s.A:=λq h=>hA q (by simpa using h)
   have C:=ih a (by simp only[sz] at hn;omega) (by omega) s L u w x c0 hx hAa hs ht hV hG hN;have i1:∀q,inU q (tL a) ↔ inU q a:=λq=>inU_L q a
   obtain⟨T,z,rfl⟩:=hx.iface;refine zxb _ #[pZ sb] #[] zfp q T z w (hV.partL hq) (SeQ lo sb B lv (.func (.func K) fs cs) NX s a u) _ (by rw[zbh];exact C) ?_;rintro x' w1 ⟨L1,u1,s1,δ,qs,hV1,hG1,hN1,hI,hW,hc⟩;have hq1:u1.heap[q]? =some (obL (c0+1) (.iface T z)):=hW.nod _ _ _ (.inl rfl) hq;have hx1:=hW.ku _ _ _ hx hAa;obtain⟨b,hb,he⟩:=zcp (hc.ku.shape.vs hV1) (hx1.shape.vs hV1);refine⟨hV1.partL hq1,b,hb,λe=>?_,λT' z' e=>?_,hc.iface⟩
   ·have e1:=he e
    subst e1;obtain⟨rfl,_⟩:=hx1.one hc.ku;exact⟨L1,u1,s1,δ,qs,hV1,hG1,hN1,hI.map i1,hW,.L hq1 hc⟩
   ·subst e
    have hsz:=zez (λq=>(hI.one1 q).1) a hx.trim;refine(znl T' z' (sz (usub δ a)) w1 (Ku.counts hV1 hc.ku) (by rw[hsz];simp only[sz] at hn;omega)).mono ?_;rintro e w2 ⟨q',rfl,h1,h2,h3⟩;refine⟨q',rfl,SeQ.newF gen.keep hV1 hG1 hN1 (hI.map i1) hW h3 λu2 g2 g3=>?_⟩;refine .L ?_ (hc.kept (Below.keptU g2));rw[g3 q' (by rw[<-hV1.size];exact h1),h2];simp[sz]
  |@P q c0 d0 x y a b hq hx hy=>
   refine zfi sb v _ _ (by decide) hvi w _ F (zqk (Ku.P hq hx hy) hA hs hN (.inr (.inl ⟨rfl,rfl⟩)) hq (ndP _ _ _) hV hG ?_);have hAa:∀q,inU q a->q∈s.A:=λq h=>hA q (by rw[inU_P];exact .inl h)
   have hAb:∀q,inU q b->q∈s.A:=λq h=>hA q (by rw[inU_P];exact .inr h)
   have hsn:sz a<=n/\sz b<=n/\sz a+sz b<=4000000000000000000:=by simp only[sz] at hn;omega
   have C:=ih a hsn.1 (by omega) s L u w.drew x c0 hx hAa hs ht hV.drew hG hN;have i1:∀q,inU q (tP a b) ↔ inU q a\/inU q b:=λq=>inU_P q a b
   obtain⟨T,z,rfl⟩:=hx.iface;obtain⟨S,y',rfl⟩:=hy.iface
   refine zld false _ #[pZ sb] #[] zfp q T S z y' w (hV.partP0 hq) (hV.partP1 hq) (SeQ lo sb B lv (.func (.func K) fs cs) NX s a u)
    (λx' y'' w2=>∃L2 u2 s1 δ1 q1 s2 δ2 q2,Vs sb L2 u2 w2/\SG sb lv (.func (.func K) fs cs) u2 L2/\NX u2 s2.tk/\SeI lv s a s1 δ1 q1/\SeI lv s1 (usub δ1 b) s2 δ2 q2/\SeW lo B lv s s2 (λq=>usub δ2 (δ1 q)) u u2/\Kc u2 (usub δ1 a) x'/\Kc u2 (usub δ2 (usub δ1 b)) y'') _ (by rw[zbh];exact C) ?_ ?_
   ·rintro x' w1 ⟨L1,u1,s1,δ1,q1,hV1,hG1,hN1,hI,hW,hc⟩
    have hq1:u1.heap[q]? =some (obP (c0+d0+1) (.iface T z) (.iface S y')):=hW.nod _ _ _ (.inr (.inl rfl)) hq;refine⟨⟨hV1.partP0 hq1,hV1.partP1 hq1⟩,hc.iface,?_⟩;have hy1:=hW.ku _ _ _ hy hAb;have hA1:∀q,inU q (usub δ1 b)->q∈s1.A:=λp hp=>by obtain⟨r,k1,k2⟩:=zak.1 hp;exact hI.D r (hAb r k1) p k2
    have hsz:=zez (λq=>(hI.one1 q).1) b hy.trim;rw[zbh];refine(ih (usub δ1 b) (by omega) (by omega) s1 L1 u1 w1 _ d0 hy1 hA1 hW.sw (z1c hI.tot ht) hV1 hG1 hN1).mono ?_;rintro e w2 ⟨r,rfl,L2,u2,s2,δ2,q2,hV2,hG2,hN2,hI2,hW2,hc2⟩;refine⟨r,rfl,L2,u2,s1,δ1,q1,s2,δ2,q2,hV2,hG2,hN2,hI,hI2,hW.trans hW2 hI.D,?_,hc2⟩;refine hc.keep hW2.nod λp l hp hl=>?_
    rcases hW2.unk _ _ _ hl with e|⟨_,e,_⟩
    ·exact⟨l,e⟩
    ·have k1:=hI.low hAa p hp
     have k2:=hW.sw p k1.1;rw[k2] at hl;simp at hl;omega
   ·rintro x' y'' w2 ⟨L2,u2,s1,δ1,q1,s2,δ2,q2,hV2,hG2,hN2,hI,hI2,hW,hc,hc2⟩
    have hq1:u2.heap[q]? =some (obP (c0+d0+1) (.iface T z) (.iface S y')):=hW.nod _ _ _ (.inr (.inl rfl)) hq
    have hsame:usub δ2 (usub δ1 a)=usub δ1 a:=zdu hc.ku.trim λp hp=>hI2.out p λhm=>by
     have k1:=hI.low hAa p hp;have k2:=(hI2.all p).1 hm;omega
    have hxa:Kc u2 (usub (λq=>usub δ2 (δ1 q)) a) x':=by rw[<-zam,hsame];exact hc
    have hyb:Kc u2 (usub (λq=>usub δ2 (δ1 q)) b) y'':=by rw[<-zam];exact hc2
    have hx1:=hW.ku _ _ _ hx hAa;have hy1:=hW.ku _ _ _ hy hAb;obtain⟨b1,hb1,he1⟩:=zcp (hxa.ku.shape.vs hV2) (hx1.shape.vs hV2);obtain⟨b2,hb2,he2⟩:=zcp (hyb.ku.shape.vs hV2) (hy1.shape.vs hV2);have hIb:=hI.both hI2 i1;refine⟨⟨hV2.partP0 hq1,hV2.partP1 hq1⟩,hc2.iface,b1,b2,hb1,hb2,λe1 e2=>?_,λT1 z1 S1 s1' ex ey=>?_⟩
    ·have f1:=he1 e1
     have f2:=he2 e2;subst f1;subst f2;obtain⟨rfl,_⟩:=hx1.one hxa.ku;obtain⟨rfl,_⟩:=hy1.one hyb.ku;exact⟨L2,u2,s2,_,_,hV2,hG2,hN2,hIb,hW,.P hq1 hxa hyb⟩
    ·subst ex
     subst ey;have z1':=zez (λq=>(hIb.one1 q).1) a hx.trim;have z2':=zez (λq=>(hIb.one1 q).1) b hy.trim;refine(zmu T1 S1 z1 s1' _ _ w2 (Ku.counts hV2 hxa.ku) (Ku.counts hV2 hyb.ku) (by rw[z1',z2'];exact hsn.2.2)).mono ?_;rintro e w3 ⟨q',rfl,h1,h2,h3⟩;refine⟨q',rfl,SeQ.newF gen.keep hV2 hG2 hN2 hIb hW h3 λu3 g2 g3=>?_⟩;refine .P ?_ (hxa.kept (Below.keptU g2)) (hyb.kept (Below.keptU g2));rw[g3 q' (by rw[<-hV2.size];exact h1),h2];rfl
  |@F q c0 d0 x y a b hq hx hy=>
   refine zfi sb v _ _ (by decide) hvi w _ F (zqk (Ku.F hq hx hy) hA hs hN (.inr (.inr ⟨rfl,rfl⟩)) hq (ndF _ _ _) hV hG ?_);have hAa:∀q,inU q a->q∈s.A:=λq h=>hA q (by rw[inU_F];exact .inl h)
   have hAb:∀q,inU q b->q∈s.A:=λq h=>hA q (by rw[inU_F];exact .inr h)
   have hsn:sz a<=n/\sz b<=n/\sz a+sz b<=4000000000000000000:=by simp only[sz] at hn;omega
   have C:=ih a hsn.1 (by omega) s L u w.drew x c0 hx hAa hs ht hV.drew hG hN;have i1:∀q,inU q (tF a b) ↔ inU q a\/inU q b:=λq=>inU_F q a b
   obtain⟨T,z,rfl⟩:=hx.iface;obtain⟨S,y',rfl⟩:=hy.iface
   refine zld true _ #[pZ sb] #[] zfp q T S z y' w (hV.partF0 hq) (hV.partF1 hq) (SeQ lo sb B lv (.func (.func K) fs cs) NX s a u)
    (λx' y'' w2=>∃L2 u2 s1 δ1 q1 s2 δ2 q2,Vs sb L2 u2 w2/\SG sb lv (.func (.func K) fs cs) u2 L2/\NX u2 s2.tk/\SeI lv s a s1 δ1 q1/\SeI lv s1 (usub δ1 b) s2 δ2 q2/\SeW lo B lv s s2 (λq=>usub δ2 (δ1 q)) u u2/\Kc u2 (usub δ1 a) x'/\Kc u2 (usub δ2 (usub δ1 b)) y'') _ (by rw[zbh];exact C) ?_ ?_
   ·rintro x' w1 ⟨L1,u1,s1,δ1,q1,hV1,hG1,hN1,hI,hW,hc⟩
    have hq1:u1.heap[q]? =some (obF (c0+d0+1) (.iface T z) (.iface S y')):=hW.nod _ _ _ (.inr (.inr rfl)) hq;refine⟨⟨hV1.partF0 hq1,hV1.partF1 hq1⟩,hc.iface,?_⟩;have hy1:=hW.ku _ _ _ hy hAb;have hA1:∀q,inU q (usub δ1 b)->q∈s1.A:=λp hp=>by obtain⟨r,k1,k2⟩:=zak.1 hp;exact hI.D r (hAb r k1) p k2
    have hsz:=zez (λq=>(hI.one1 q).1) b hy.trim;rw[zbh];refine(ih (usub δ1 b) (by omega) (by omega) s1 L1 u1 w1 _ d0 hy1 hA1 hW.sw (z1c hI.tot ht) hV1 hG1 hN1).mono ?_;rintro e w2 ⟨r,rfl,L2,u2,s2,δ2,q2,hV2,hG2,hN2,hI2,hW2,hc2⟩;refine⟨r,rfl,L2,u2,s1,δ1,q1,s2,δ2,q2,hV2,hG2,hN2,hI,hI2,hW.trans hW2 hI.D,?_,hc2⟩;refine hc.keep hW2.nod λp l hp hl=>?_
    rcases hW2.unk _ _ _ hl with e|⟨_,e,_⟩
    ·exact⟨l,e⟩
    ·have k1:=hI.low hAa p hp
     have k2:=hW.sw p k1.1;rw[k2] at hl;simp at hl;omega
   ·rintro x' y'' w2 ⟨L2,u2,s1,δ1,q1,s2,δ2,q2,hV2,hG2,hN2,hI,hI2,hW,hc,hc2⟩
    have hq1:u2.heap[q]? =some (obF (c0+d0+1) (.iface T z) (.iface S y')):=hW.nod _ _ _ (.inr (.inr rfl)) hq
    have hsame:usub δ2 (usub δ1 a)=usub δ1 a:=zdu hc.ku.trim λp hp=>hI2.out p λhm=>by
     have k1:=hI.low hAa p hp;have k2:=(hI2.all p).1 hm;omega
    have hxa:Kc u2 (usub (λq=>usub δ2 (δ1 q)) a) x':=by rw[<-zam,hsame];exact hc
    have hyb:Kc u2 (usub (λq=>usub δ2 (δ1 q)) b) y'':=by rw[<-zam];exact hc2
    have hx1:=hW.ku _ _ _ hx hAa;have hy1:=hW.ku _ _ _ hy hAb;obtain⟨b1,hb1,he1⟩:=zcp (hxa.ku.shape.vs hV2) (hx1.shape.vs hV2);obtain⟨b2,hb2,he2⟩:=zcp (hyb.ku.shape.vs hV2) (hy1.shape.vs hV2);have hIb:=hI.both hI2 i1;refine⟨⟨hV2.partF0 hq1,hV2.partF1 hq1⟩,hc2.iface,b1,b2,hb1,hb2,λe1 e2=>?_,λT1 z1 S1 s1' ex ey=>?_⟩
    ·have f1:=he1 e1
     have f2:=he2 e2;subst f1;subst f2;obtain⟨rfl,_⟩:=hx1.one hxa.ku;obtain⟨rfl,_⟩:=hy1.one hyb.ku;exact⟨L2,u2,s2,_,_,hV2,hG2,hN2,hIb,hW,.F hq1 hxa hyb⟩
    ·subst ex
     subst ey;have z1':=zez (λq=>(hIb.one1 q).1) a hx.trim;have z2':=zez (λq=>(hIb.one1 q).1) b hy.trim;refine(zdd T1 S1 z1 s1' _ _ w2 (Ku.counts hV2 hxa.ku) (Ku.counts hV2 hyb.ku) (by rw[z1',z2'];exact hsn.2.2)).mono ?_;rintro e w3 ⟨q',rfl,h1,h2,h3⟩;refine⟨q',rfl,SeQ.newF gen.keep hV2 hG2 hN2 hIb hW h3 λu3 g2 g3=>?_⟩;refine .F ?_ (hxa.kept (Below.keptU g2)) (hyb.kept (Below.keptU g2));rw[g3 q' (by rw[<-hV2.size];exact h1),h2];rfl
  |@U q l hq=>
   have h0:=hA q (by simp);have hq0:=hs q h0;have hl:l=s.lev q:=by rw[hq] at hq0;simp at hq0;omega
   subst hl;have hU:=hV.unk hG.noU;have hqw:=hU _ _ _ hq;obtain⟨xb,hb⟩:=hG.blk;obtain⟨T0,r0,x0,hT0,hu0,hv0⟩:=hV.vis
   have hr:r0=[.int .i64 lv,.func (.func K) fs cs]/\T0=316:=by
    rw[hb] at hu0;simp at hu0;exact⟨hu0.1.2.symm,hu0.2.symm⟩
   obtain⟨rfl,rfl⟩:=hr;have c1:cZ w q 0 (.int .i64 (s.lev q:Int)):=cbl hqw;have c2:cZ w sb 1 (.int .i64 lv):=cbl hv0;have c3:cZ w sb 2 (.func (.func K) fs cs):=cbl hv0;have hne:q≠sb:=by rintro rfl;rw[hb] at hq;simp at hq
   by_cases hlv:(s.lev q:Int)<=lv
   ·refine(settle_low sb q (s.lev q) lv v hvi w hlv F c1 c2).mono ?_
    rintro e w' ⟨rfl,rfl⟩;exact⟨_,rfl,L,u,s,tU,[],hV.drew,hG,hN,SeI.none λp hp _=>by simp at hp;subst hp;exact hlv,SeW.refl B lv hs,.U hq⟩
   ·have hk:s.tk<260:=by
     have:=List.length_pos_of_mem h0;unfold tot at ht;omega
    refine(zwh sb q (s.lev q) lv K fs cs gen.ent (zac s.tk) v hvi w (by omega) (λw1=>∃u1,Vs sb L u1 w1/\NX u1 (s.tk+1)/\Kg lo B u u1) F c1 c2 c3 (gen.call sb L u w.drew s.tk hV.drew hG.sb hB hN hk) ?_).mono ?_
    ·rintro w1 ⟨u1,hV1,_,hK⟩
     have hb1:=hK.stl _ _ hb;exact hV1.unk (λcc=>by rw[hb1];simp) _ _ _ (hK.unk _ _ _ hq)
    ·rintro e w' ⟨rfl,w1,⟨u1,hV1,hN1,hK⟩,rfl⟩
     have hq1:=hK.unk _ _ _ hq;have hb1:=hK.stl _ _ hb;have hx1:(u1.setCell ⟨q,1,none⟩ (viV (zac s.tk))).heap[q]? =some (obU (s.lev q) (viV (zac s.tk))):=by simp[World.setCell,z1i,hq1]
     have hxo:∀p,p≠q->(u1.setCell ⟨q,1,none⟩ (viV (zac s.tk))).heap[p]? =u1.heap[p]?:=λp h=>Below.heap_setCell _ _ _ _ (by show ¬_;simp;omega)
     have hV2:=hV1.setU (i:=1) hq1 (by simp[VisT]) hne (viV (zac s.tk))
     have hunk:∀(p l:Nat) (x:Value),u.heap[p]? =some (obU l x)->(u1.setCell ⟨q,1,none⟩ (viV (zac s.tk))).heap[p]? =some (obU l x)\/(x=.nilIface/\lv<(l:Int)/\∃x',x'≠ .nilIface/\(u1.setCell ⟨q,1,none⟩ (viV (zac s.tk))).heap[p]? =some (obU l x')):=by
      intro p l x hp;by_cases e:p=q
      ·subst e
       rw[hq] at hp;simp at hp;obtain⟨e1,rfl⟩:=hp;obtain rfl:l=s.lev p:=by omega
       exact .inr ⟨rfl,by omega,_,by simp,hx1⟩
      ·rw[hxo p e];exact .inl (hK.unk _ _ _ hp)
     have hnod:KeptN u (u1.setCell ⟨q,1,none⟩ (viV (zac s.tk))):=by
      intro p cc T hT hp;have hp1:=hK.nod p cc T hT hp
      have e:p≠q:=by
       rintro rfl;rw[hq1] at hp1;simp at hp1;obtain⟨_,rfl⟩:=hp1;rcases hT with h|h|h<;>exact absurd h (by decide)
      rw[hxo p e];exact hp1
     have hI:=SeI.one (lv:=lv) (s:=s) h0 (by omega)
     have hkx:Kx [q] u1 (u1.setCell ⟨q,1,none⟩ (viV (zac s.tk))):=by
      refine⟨rfl,rfl,rfl,by simp[World.setCell],λp cc T fz hT hp=>?_,λp l x hp=>?_,λp _ hn=>hxo p (by simpa using hn)⟩
      ·have e:p≠q:=by rintro rfl;rw[hq1] at hp;simp at hp;exact hT hp.2.1.symm
       rw[hxo p e];exact hp
      ·by_cases e:p=q
       ·subst e
        rw[hq1] at hp;simp at hp;exact⟨_,_,hx1,λhn=>absurd hp.2.symm hn⟩
       ·exact⟨l,x,by rw[hxo p e];exact hp,λ_=>rfl⟩
     have hku:KuStep s.A (oneU q (tV (zac s.tk))) u (u1.setCell ⟨q,1,none⟩ (viV (zac s.tk))):=by
      intro c' t' v'' hv'' hA'';clear hA''
      induction hv'' using Ku.ind with
      |I=>exact .I
      |B=>exact .B
      |V o=>exact .V o
      |L hp _ ih'=>exact .L (hnod _ _ _ (.inl rfl) hp) ih'
      |P hp _ _ ih1 ih2=>exact .P (hnod _ _ _ (.inr (.inl rfl)) hp) ih1 ih2
      |F hp _ _ ih1 ih2=>exact .F (hnod _ _ _ (.inr (.inr rfl)) hp) ih1 ih2
      |@U p l' hp=>
       by_cases e:p=q
       ·subst e
        rw[usub_U,zeg];exact .N hx1 (.V _)
       ·rw[usub_U,zfl _ e]
        exact .U (by rw[hxo p e];exact hK.unk _ _ _ hp)
      |@N p l' c'' x'' t'' hp k ih'=>
       have e:p≠q:=by rintro rfl;rw[hq] at hp;simp at hp;exact k.ne hp.2.symm
       exact .N (by rw[hxo p e];exact hK.unk _ _ _ hp) ih'
     have hW:SeW lo B lv s ⟨s.A.filter λp=>![q].contains p,s.lev,s.tk+1⟩ (oneU q (tV (zac s.tk))) u (u1.setCell ⟨q,1,none⟩ (viV (zac s.tk))):=by
      refine⟨hK.os,hK.tape,hK.output,z1c hK.size hkx.size,hunk,hnod,λp cc hp=>?_,λp cc T fz h1 h2 h3 hp=>hkx.rest _ _ _ _ h3 (hK.old p cc T fz h1 h2 hp),λp hp=>?_,hku,λp h1 h2 h3=>by rw[hxo p (by rintro rfl;exact h3 h0)];exact hK.low p h1 h2,λp hp=>((show p∈s.A/\p≠q by simpa using hp)).1⟩
      ·exact hkx.rest _ _ _ _ (by decide) (hK.stl p cc hp)
      ·have hp':p∈s.A/\p≠q:=by simpa using hp
       rw[hxo p hp'.2];exact hK.unk _ _ _ (hs p hp'.1)
     refine⟨_,rfl,L,_,_,_,_,hV2,hG.step hW,gen.keep _ _ _ hN1 hkx.z,hI,hW,?_⟩;rw[usub_U,zeg];exact .V _
end Go.Proofs.YtceadeaodbadlaaGreatDoor
namespace Go.Proofs.YtceadeaodbadlaaGreatDoor
open Go.Shelf Go.RowKit
def strRen:Go.Shelf.Ren:=⟨fun|169=>113|241=>145|277=>182|n=>n,fun|70=>163|9=>9|0=>0|72=>165|37=>46|127=>231|3=>3|5=>5|n=>n,fun|n=>n⟩
section
variable (B b:Nat) (l:List UInt8) (n:Nat) (bs:List Value) (w:World)
theorem strLays: Go.Proofs.Lays.n169 Tryz.prog strRen := {
  mixed := by kernel_rfl
  f169 := Tryz.func113.trans (congrArg some (by kernel_rfl))
  t0 := Tryz.underlying0
  a0 := Tryz.isAgg0
  z0 := Tryz.sizeOf0
  v0 := Tryz.zeroValue0
  t3 := Tryz.underlying3
  a3 := Tryz.isAgg3
  z3 := Tryz.sizeOf3
  v3 := Tryz.zeroValue3
  t9 := Tryz.underlying9
  a9 := Tryz.isAgg9
  z9 := Tryz.sizeOf9
  v9 := Tryz.zeroValue9
  t37 := Tryz.underlying46
  a37 := Tryz.isAgg46
  z37 := Tryz.sizeOf46
  v37 := Tryz.zeroValue46
  t70 := Tryz.underlying163
  a70 := Tryz.isAgg163
  z70 := Tryz.sizeOf163
  v70 := Tryz.zeroValue163
  t72 := Tryz.underlying165
  a72 := Tryz.isAgg165
  z72 := Tryz.sizeOf165
  v72 := Tryz.zeroValue165
  t127 := Tryz.underlying231
  a127 := Tryz.isAgg231
  z127 := Tryz.sizeOf231
  v127 := Tryz.zeroValue231 }
theorem zyn: Builder.Extra Tryz.prog strRen := {
  sizeBuilder := by kernel_rfl
  liesBuilder := by kernel_rfl
  t5 := Tryz.underlying5
  a5 := Tryz.isAgg5
  z5 := Tryz.sizeOf5
  v5 := Tryz.zeroValue5
  infoByte := by kernel_rfl
  cellsByte := by kernel_rfl
  sizeByte := by kernel_rfl
  neB5 := by decide }
theorem growLays: Go.Proofs.Lays.n241 Tryz.prog strRen := {
  mixed := by kernel_rfl
  f241 := Tryz.func145.trans (congrArg some (by kernel_rfl))
  f277 := Tryz.func182.trans (congrArg some (by kernel_rfl))
  t0 := Tryz.underlying0
  a0 := Tryz.isAgg0
  z0 := Tryz.sizeOf0
  v0 := Tryz.zeroValue0
  t3 := Tryz.underlying3
  a3 := Tryz.isAgg3
  z3 := Tryz.sizeOf3
  v3 := Tryz.zeroValue3
  t37 := Tryz.underlying46
  a37 := Tryz.isAgg46
  z37 := Tryz.sizeOf46
  v37 := Tryz.zeroValue46
  t70 := Tryz.underlying163
  a70 := Tryz.isAgg163
  z70 := Tryz.sizeOf163
  v70 := Tryz.zeroValue163
  t72 := Tryz.underlying165
  a72 := Tryz.isAgg165
  z72 := Tryz.sizeOf165
  v72 := Tryz.zeroValue165 }
def Bu (B b:Nat) (l:List UInt8) (w:World):Prop:=Lib.IsBuilderF 165 5 B b (Lib.byteCells l) w
def Kb (B b:Nat) (w w':World):Prop:=Below B w w'/\Lib.OthersKept 5 (some b) w w'
theorem Kb.refl:Kb B b w w:=⟨Below.refl B w,Lib.OthersKept.refl _ _ w⟩
theorem Kb.trans {B b:Nat} {x y z:World} (h:Kb B b x y) (k:Kb B b y z):Kb B b x z:=⟨h.1.trans k.1,h.2.trans k.2⟩
theorem zji (h:Bu B b l w) (hBw:B<=w.heap.size):
 CZ 113 #[pZ b] w λe w'=>e=.returned (.string ⟨l.toArray⟩)/\Bu B b l w'/\Kb B b w w':=
 Any.Builder_String_any_k strLays zyn B b l w h hBw
theorem zrc (hB:B<=b) (hbk:w.heap[b]? =some (.cells #[pZ b,.slice none 0 0] 165 (0,0))) (hBw:B<=w.heap.size) (hn:n<=281474976710656):
 CZ 145 #[pZ b,.int .i64 n] w λe w'=>e=.returned (.tuple #[])/\(Lib.BuilderAt 165 5 B b (pZ b) [] w'/\Below B w w'):=
 Any.Builder_grow_fresh growLays zyn B b n w hB hbk hBw hn
theorem sizeBuilder:(Tryz.prog.info? 165).map (·.size)=some 2:=by kernel_rfl
theorem liesBuilder:liesAt Tryz.prog Tryz.prog.depth 165 (2/Tryz.prog.cellsOf 165) 0 165 1=true:=by kernel_rfl
theorem infoByte:(Tryz.prog.info? 5).map (λi=>(i.zero,i.size,i.bytes))=some (some (.int .u8 0),1,1):=by kernel_rfl
theorem zoh (h0:w.cell? ⟨b,0,none⟩=some (pZ b)):
 CZ 144 #[pZ b] w λe w'=>e=.returned (.tuple #[])/\w'=w:=by
 obtain⟨j,hj,_⟩:=Option.map_eq_some_iff.1 sizeBuilder;go_enter Tryz.func144,Tryz.ntmps144;go_wp2;rw[Lib.run_neq_ptr_same w _ Tryz.underlying163 hj];go_wp2;go_end0;exact⟨rfl,rfl⟩
theorem zgz (h0:w.cell? ⟨b,0,none⟩=some (.pointer none)) (hsh:w.shape? b=some (165,2)) (hfz:w.frozen? ⟨b,0,none⟩=false):
 CZ 144 #[pZ b] w λe w'=>e=.returned (.tuple #[])/\w'=w.setCell ⟨b,0,none⟩ (pZ b):=by
 obtain⟨j,hj,hjs⟩:=Option.map_eq_some_iff.1 sizeBuilder;go_enter Tryz.func144,Tryz.ntmps144;go_wp2;rw[Lib.run_to_unsafe w ⟨b,0,none⟩ Tryz.underlying163 Tryz.underlying126 hj (by rw[hjs];decide) hsh (Nat.zero_lt_succ 1)];simp only[Result.andThen];rw[Oper.upon_value];go_wp2;rw[run_callFunc_extern Tryz.func181 (by kernel_rfl) (by kernel_rfl) (by kernel_rfl) (e:=Extern.AbiNoEscape.same) (by kernel_rfl)];rw[Lib.run_noEscape];simp only[Result.andThen];rw[Oper.upon_value];go_wp2;rw[Lib.run_from_unsafe w ⟨b,0,none⟩ Tryz.underlying126 Tryz.underlying163 hj hsh liesBuilder];simp only[Result.andThen];rw[Oper.upon_value];go_wp2;go_end0;exact⟨rfl,rfl⟩
theorem ziw (h:Lib.IsBuilderF 165 5 B b bs w):
 CZ 144 #[pZ b] w λe w'=>e=.returned (.tuple #[])/\Lib.BuilderAtF 165 5 B b (pZ b) bs w'/\Kb B b w w':=by
 rcases h with h|h
 ·refine(zgz b w h.cell0 h.shape h.frozen0).mono ?_
  rintro e w' ⟨rfl,rfl⟩;exact⟨rfl,h.used _,(Below.refl B w).setCell (p:=⟨b,0,none⟩) h.1 _,(Lib.OthersKept.refl _ _ w).setCell ⟨b,0,none⟩ rfl _⟩
 ·refine(zoh b w h.cell0).mono ?_
  rintro e w' ⟨rfl,rfl⟩;exact⟨rfl,h,Kb.refl B b _⟩
theorem zpr (B b:Nat) (bs:List Value) (c:Int) (w:World) (h:Lib.IsBuilderF 165 5 B b bs w) (hlen:bs.length+1<=140737488355328) (hBw:B<=w.heap.size):
 CZ 146 #[pZ b,.int .u8 c] w λe w'=>e=.returned .nilIface/\Lib.IsBuilderF 165 5 B b (bs++[.int .u8 c]) w'/\Kb B b w w':=by
 obtain⟨i0,hi,hz0,hz1,hz2⟩:=info_parts infoByte;go_enter Tryz.func146,Tryz.ntmps146;go_wp21;refine(ziw B b bs _ h).mono ?_;rintro e w1 ⟨rfl,h1,hb1,hk1⟩;obtain⟨hB,v,hbk,hown,hne⟩:=h1;have c0:cZ w1 b 0 (pZ b):=cbl hbk;have c1:cZ w1 b 1 v:=cbl hbk
 go_wp2_with (at_builtin;refine wpList_append_ownF _ rfl _ _ 46 rfl B 5 i0 (.int .u8 0) 1 1 Tryz.underlying46 hi hz0 hz1 hz2 rfl (by decide) _ _ _ rfl (hown.alloc _) ⟨w1.heap.size,0,none⟩ 1 1 [.int .u8 c] rfl rfl ?c1 ?c2 ?c3 ?c4 ?c5 ?_)
 case c1=>
  intro j u hj
  match j,hj with
  |0,hj=>simp at hj;subst hj;simp[Addr.add]
 case c2=>intro u hu;simp at hu;subst hu;rfl
 case c3=>unfold maxLen;omega
 case c4=>omega
 case c5=>have:=hb1.size;simp;omega
 intro v' w2 hown' hgrow _
 have hlt:b<w1.heap.size:=by
  rcases z1r b w1.heap.size with h'|h'
  ·exact h'
  ·simp[Array.getElem?_eq_none h'] at hbk
 have hb2:w2.heap[b]? =some (.cells #[pZ b,v] 165 (0,0)):=by
  rw[hgrow.block b (by simp;omega) (λe=>hne e.symm),Lib.alloc_old w1 _ b hlt];exact hbk
 have d0:cZ w2 b 0 (pZ b):=cbl hb2;have d1:cZ w2 b 1 v:=cbl hb2;have f1:=z1g hb2 1
 obtain⟨g,cap,rfl⟩:∃g cap,v'=(sZ g (bs.length+1) cap):=by
  rcases hown'.2 with ⟨_,h0⟩|⟨g,cap,cur,fz,hv,_⟩
  ·omega
  ·exact⟨g,cap,hv⟩
 go_wp2;go_ret;refine⟨rfl,.inr ?_,?_,((hk1.alloc _).grown hgrow (Lib.ownsRowF_kind (hown.alloc _))).setCell ⟨b,1,none⟩ rfl _⟩
 ·exact Lib.BuilderAtF.put (T:=165) (e:=5) hB hb2 (bs':=bs++[.int .u8 c]) (by simpa using hown') (by decide)
 ·exact((hb1.alloc (by have:=hb1.size;omega) _).grown hgrow (by have:=hb1.size;simp;omega) (λk hk=>(hown.lt k hk).1)).setCell (p:=⟨b,1,none⟩) hB _
theorem ztp (B b:Nat) (l:List UInt8) (c:Nat) (w:World) (h:Bu B b l w) (hc:c<256) (hlen:l.length+1<=140737488355328) (hBw:B<=w.heap.size):
 CZ 146 #[pZ b,uZ c] w λe w'=>e=.returned .nilIface/\Bu B b (l++[u8 c]) w'/\Kb B b w w':=by
 refine(zpr B b _ c w h (by simpa [Lib.byteCells] using hlen) hBw).mono ?_;rintro e w' ⟨rfl,h1,h2⟩;refine⟨rfl,?_,h2⟩;unfold Bu
 have:Lib.byteCells (l++[u8 c])=Lib.byteCells l++[uZ c]:=by
  simp[Lib.byteCells,u8];omega
 rw[this];exact h1
theorem zwq (hB:B<=b) (hbk:w.heap[b]? =some (.cells #[.pointer none,.slice none 0 0] 165 (0,0))) (hBw:B<=w.heap.size) (hn:n<=281474976710656):
 CZ 112 #[pZ b,.int .i64 n] w λe w'=>e=.returned (.tuple #[])/\Bu B b [] w'/\Below B w w':=by
 have hbk1:(w.setCell ⟨b,0,none⟩ (pZ b)).heap[b]? =some (.cells #[pZ b,.slice none 0 0] 165 (0,0)):=by
  simp[World.setCell,z1i,hbk]
 have c1:(w.setCell ⟨b,0,none⟩ (pZ b)).cell? ⟨b,1,none⟩=some (.slice none 0 0):=cbl hbk1;have hb1:Below B w (w.setCell ⟨b,0,none⟩ (pZ b)):=(Below.refl B w).setCell (p:=⟨b,0,none⟩) hB _;have hU:Lib.BuilderAt 165 5 B b (pZ b) [] (w.setCell ⟨b,0,none⟩ (pZ b)):=⟨hB,.slice none 0 0,hbk1,z1w _ _ _ _,by simp[Value.ownBlock]⟩
 have mixed:=strLays.mixed;have c1':=c1;go_enter Tryz.func112,Tryz.ntmps112
 go_wp2_with (go_at_call 144;refine(zgz b w (cbl hbk) (by simp[World.shape?,hbk]) (z1g hbk 0)).mono ?_;rintro e w' ⟨rfl,rfl⟩)
 go_region_o
 all_goals go_wp2_with (go_at_call 145;refine(zrc B b n (w.setCell ⟨b,0,none⟩ (pZ b)).drew hB hbk1 (by simpa [World.setCell,World.drew,-World.drew_eq] using hBw) hn).mono ?_;rintro e w' ⟨rfl,h1,h2⟩)
 all_goals first
  |(go_end0;exact⟨rfl,.inr (Lib.BuilderAtF.of h1),hb1.drew.trans h2⟩)
  |(go_end0;exact⟨rfl,.inr (Lib.BuilderAtF.of hU.drew),hb1.drew⟩)
end
end Go.Proofs.YtceadeaodbadlaaGreatDoor
namespace Go.Proofs.YtceadeaodbadlaaGreatDoor
open Go.RowKit
abbrev wtp (m:Option Nat):Value:=.pointer (m.map λb=>⟨b,0,none⟩)
structure Wi (m:Option Nat) (B wb:Nat) (nm sp:Value) (l:List UInt8) (w:World):Prop where
 le:B<=wb
 blk:w.heap[wb]? =some (.cells #[wtp m,iZ l.length,nm,sp] 170 (0,0))
 bu:∀b,m=some b->Bu B b l w/\b≠wb
def Kw (m:Option Nat) (B wb:Nat) (w w':World):Prop:=
 Below B w w'/\∀k o,w.heap[k]? =some o->k≠wb->m≠some k->(∀c fz,o≠ .cells c 5 fz)->w'.heap[k]? =some o
section
variable {cs:Array Value} {l:List UInt8} {B wb b:Nat} {m:Option Nat} {T:TypeId} {nm sp:Value} {w x y w':World}
theorem Kw.refl (m:Option Nat) (B wb:Nat) (w:World):Kw m B wb w w:=⟨Below.refl B w,λ_ _ h _ _ _=>h⟩
theorem Kw.trans {z:World} (h:Kw m B wb x y) (k:Kw m B wb y z):Kw m B wb x z:=
 ⟨h.1.trans k.1,λq o h1 h2 h3 h4=>k.2 q o (h.2 q o h1 h2 h3 h4) h2 h3 h4⟩
theorem Kw.alloc (h:Kw m B wb x y) (hB:B<=y.heap.size) (o:Obj):Kw m B wb x (y.alloc o):=
 ⟨h.1.alloc hB o,λq o' h1 h2 h3 h4=>by
  have:=h.2 q o' h1 h2 h3 h4;exact(Lib.alloc_old y o q (z1a.1 this).1).trans this⟩
theorem Kw.drewN (h:Kw m B wb x y) (n:Nat):Kw m B wb x (y.drewN n):=⟨below_drewN h.1 n,λq o h1 h2 h3 h4=>h.2 q o h1 h2 h3 h4⟩
theorem Kw.size (h:Kw m B wb x y):x.heap.size<=y.heap.size:=h.1.size
theorem Kw.box {k:Nat} (h:Kw m B wb w w') {fz:Nat×Nat} (hk:w.heap[k]? =some (.cells cs T fz)) (hw:k≠wb) (hm:m≠some k) (hT:T≠5):w'.heap[k]? =some (.cells cs T fz):=
 h.2 k _ hk hw hm (λc fz' e=>hT (by injection e))
theorem Bu.alloc (h:Bu B b l w) (o:Obj):Bu B b l (w.alloc o):=by
 rcases h with h|h
 ·exact .inl (h.alloc o)
 ·exact .inr (h.alloc o)
theorem Bu.le (h:Bu B b l w):B<=b/\b<w.heap.size:=by
 rcases h with h|h
 ·exact⟨h.1,h.lt⟩
 ·exact⟨h.1,h.lt⟩
theorem Bu.far {q o:Nat} (h:Bu B b l w) {fz:Nat×Nat} (hq:w.heap[q]? =some (.cells cs T fz)) (hT:T≠5) (hb:b≠q) (v:Value):Bu B b l (w.setCell ⟨q,o,none⟩ v):=by
 rcases h with ⟨hB,v0,hbk,hown,hne⟩|⟨hB,v0,hbk,hown,hne⟩
 ·refine .inl ⟨hB,v0,?_,?_,hne⟩
  ·rw[Below.heap_setCell _ _ _ _ (by show ¬_;simp;omega)];exact hbk
  ·exact hown.kept (row:=some q) ⟨rfl,rfl,rfl,by simp[World.setCell],λk _ hk=>Below.heap_setCell _ _ _ _ (λe=>hk (by simp[e]))⟩ (Or.inr (Lib.ownBlock_neF hown hq hT))
 ·refine .inr ⟨hB,v0,?_,?_,hne⟩
  ·rw[Below.heap_setCell _ _ _ _ (by show ¬_;simp;omega)];exact hbk
  ·exact hown.kept (row:=some q) ⟨rfl,rfl,rfl,by simp[World.setCell],λk _ hk=>Below.heap_setCell _ _ _ _ (λe=>hk (by simp[e]))⟩ (Or.inr (Lib.ownBlock_neF hown hq hT))
theorem Wi.alloc (h:Wi m B wb nm sp l w) (o:Obj):Wi m B wb nm sp l (w.alloc o):=
 ⟨h.le,(Lib.alloc_old w o wb (z1a.1 h.blk).1).trans h.blk,λb hb=>⟨(h.bu b hb).1.alloc o,(h.bu b hb).2⟩⟩
theorem Wi.drewN (h:Wi m B wb nm sp l w) (n:Nat):Wi m B wb nm sp l (w.drewN n):=⟨h.le,h.blk,h.bu⟩
theorem Wi.drew (h:Wi m B wb nm sp l w):Wi m B wb nm sp l w.drew:=⟨h.le,h.blk,h.bu⟩
theorem Wi.lt (h:Wi m B wb nm sp l w):wb<w.heap.size:=(z1a.1 h.blk).1
theorem zxu {n:Nat} (h:n+1<=140737488355328):IntKind.i64.wrap ((n:Int)+1)=(n:Int)+1:=by
 rw[IntKind.wrap_i64];omega
theorem byte_learn (B wb:Nat) (nm sp:Value) (l:List UInt8) (c:Nat) (w:World) (h:Wi none B wb nm sp l w) (hl:l.length+1<=140737488355328):
 CZ 114 #[pZ wb,.int .u8 (c:Int)] w λe w'=>e=.returned (.tuple #[])/\w'=w.setCell ⟨wb,1,none⟩ (.int .i64 ((l.length:Int)+1)):=by
 have c0:w.cell? ⟨wb,0,none⟩=some (.pointer none):=by rw[z1f h.blk];rfl
 have c1:w.cell? ⟨wb,1,none⟩=some (.int .i64 (l.length:Int)):=by rw[z1f h.blk];rfl
 have f1:w.frozen? ⟨wb,1,none⟩=false:=z1g h.blk 1;have hw:=zxu hl;clear h hl;generalize l.length=n at *
 go_enter Tryz.func114,Tryz.ntmps114
 go_wp2_with fail
 go_end0;exact⟨rfl,rfl⟩
theorem zyz (B b wb:Nat) (nm sp:Value) (l:List UInt8) (c:Nat) (w:World) (h:Wi (some b) B wb nm sp l w) (hc:c<256) (hl:l.length+1<=140737488355328) (hB:B<=w.heap.size):
 CZ 114 #[pZ wb,.int .u8 (c:Int)] w λe w'=>e=.returned (.tuple #[])/\Bu B b (l++[u8 c]) w'/\Kb B b (w.setCell ⟨wb,1,none⟩ (.int .i64 ((l.length:Int)+1))) w':=by
 have c0:w.cell? ⟨wb,0,none⟩=some (pZ b):=by rw[z1f h.blk];rfl
 have c1:w.cell? ⟨wb,1,none⟩=some (.int .i64 (l.length:Int)):=by rw[z1f h.blk];rfl
 have f1:w.frozen? ⟨wb,1,none⟩=false:=z1g h.blk 1;have hw:=zxu hl;obtain⟨hbu,hne⟩:=h.bu b rfl;have hb1:=hbu.far h.blk (by decide) hne (o:=1) (.int .i64 ((l.length:Int)+1));have W:=ztp B b l c _ hb1 hc hl (by simpa [World.setCell] using hB);clear h hl hbu hb1 hB hc;generalize l.length=n at *
 go_enter Tryz.func114,Tryz.ntmps114
 go_wp2_with fail
 refine W.mono ?_;rintro e w1 ⟨rfl,h1,h2⟩
 go_wp2_with fail
 go_end0;exact⟨rfl,h1,h2⟩
theorem Wi.set (h:Wi m B wb nm sp l w) (v:Value):(w.setCell ⟨wb,1,none⟩ v).heap[wb]? =some (.cells #[wtp m,v,nm,sp] 170 (0,0)):=by
 have:=h.blk;simp[World.setCell,z1i,this]
theorem Kw.set (m:Option Nat) (B wb:Nat) (hB:B<=wb) (o:Nat) (w:World) (v:Value):Kw m B wb w (w.setCell ⟨wb,o,none⟩ v):=
 ⟨(Below.refl B w).setCell (p:=⟨wb,o,none⟩) hB _,λk o' h1 h2 _ _=>by rw[Below.heap_setCell _ _ _ _ (by show ¬_;simp;omega)];exact h1⟩
theorem Kb.kw (h:Kb B b w w'):Kw (some b) B wb w w':=
 ⟨h.1,λk o h1 h2 h3 h4=>h.2 k o h1 (by intro e;exact h3 (by rw[e])) h4⟩
theorem zcu (m:Option Nat) (B wb:Nat) (nm sp:Value) (l:List UInt8) (c:Nat) (w:World) (h:Wi m B wb nm sp l w) (hc:c<256) (hl:l.length+1<=140737488355328) (hB:B<=w.heap.size):
 CZ 114 #[pZ wb,uZ c] w λe w'=>e=.returned (.tuple #[])/\Wi m B wb nm sp (l++[u8 c]) w'/\Kw m B wb w w':=by
 cases m with
 |none=>
  refine(byte_learn B wb nm sp l c w h hl).mono ?_;rintro e w' ⟨rfl,rfl⟩;exact⟨rfl,⟨h.le,by rw[h.set];simp,λb hb=>by cases hb⟩,Kw.set _ _ _ h.le _ _ _⟩
 |some b=>
  refine(zyz B b wb nm sp l c w h hc hl hB).mono ?_;rintro e w' ⟨rfl,h1,h2⟩;have hk:Kw (some b) B wb (w.setCell ⟨wb,1,none⟩ (.int .i64 ((l.length:Int)+1))) w':=h2.kw;refine⟨rfl,⟨h.le,?_,λb' hb=>?_⟩,(Kw.set _ _ _ h.le _ _ _).trans hk⟩
  ·have:=h2.2 wb _ (h.set (.int .i64 ((l.length:Int)+1))) (by have:=(h.bu b rfl).2;simp;omega) (λc fz e=>by injection e with _ e2;exact absurd e2 (by decide))
   rw[this];simp
  ·cases hb;exact⟨h1,(h.bu b rfl).2⟩
end
abbrev zxa (K:Nat):Prop:=∀args w,(callFunc K args).run Tryz.prog w=.ok (.enter K args) w
structure Wn (m:Option Nat) (B wb k1 k2:Nat) (w:World):Prop where
 wi:Wi m B wb (.map (some k1)) (.map (some k2)) [] w
 n1:w.heap[k1]? =some (.map #[] 0)
 n2:w.heap[k2]? =some (.map #[] 0)
 b1:B<=k1
 b2:B<=k2
 ne:k1≠k2
abbrev wobj (m:Option Nat) (k1 k2:Nat):Obj:=.cells #[wtp m,.int .i64 0,.map (some k1),.map (some k2)] 170
abbrev wnew (m:Option Nat) (w:World):World:=((w.alloc (.map #[] 0)).alloc (.map #[] 0)).alloc (wobj m w.heap.size (w.heap.size+1))
theorem Wn.new (m:Option Nat) (B:Nat) (w:World) (hB:B<=w.heap.size) (hb:∀b,m=some b->Bu B b [] w):Wn m B (w.heap.size+2) w.heap.size (w.heap.size+1) (wnew m w):=by
 have h0:((w.alloc (.map #[] 0)).alloc (.map #[] 0)).heap.size=w.heap.size+2:=by simp
 refine⟨⟨by omega,?_,λb e=>⟨((((hb b e).alloc _).alloc _).alloc _),?_⟩⟩,?_,?_,hB,by omega,by omega⟩
 ·have:=z1v ((w.alloc (.map #[] 0)).alloc (.map #[] 0)) (wobj m w.heap.size (w.heap.size+1))
  rw[h0] at this;exact this
 ·have:=(hb b e).le.2
  omega
 ·rw[Lib.alloc_old _ _ _ (by simp;omega),Lib.alloc_old _ _ _ (by simp)]
  exact z1v w _
 ·rw[Lib.alloc_old _ _ _ (by simp)]
  have:=z1v (w.alloc (.map #[] 0)) (.map #[] 0);simpa using this
theorem ziu (m:Option Nat) (w:World):
 CZ 111 #[wtp m] w λe w'=>e=.returned (pZ (w.heap.size+2))/\w'=wnew m w:=by
 have hmm:=@run_makeMap Tryz.prog;go_enter Tryz.func111,Tryz.ntmps111;go_wp21;go_ret;exact⟨rfl,rfl⟩
theorem text_any' (K:Nat) (fs cs:Array Value) (eK:zxa K) (f:List UInt8) (w:World) (hf:f.length<=140737488355328)
 (hW:∀(m:Option Nat) (B wb k1 k2:Nat) (w1:World),Below w.heap.size w w1->w.heap.size<=B->B<=w1.heap.size->Wn m B wb k1 k2 w1->
  CZ K (fs.push (pZ wb)++cs) w1 λe w2=>e=.returned (.tuple #[])/\(∃nm sp,Wi m B wb nm sp f w2)/\Below B w1 w2):
 CZ 80 #[.func (.func K) fs cs] w λe w'=>e=.returned (.string ⟨f.toArray⟩)/\Below w.heap.size w w':=by
 have HW:Hid (∀(m:Option Nat) (B wb k1 k2:Nat) (w1:World),Below w.heap.size w w1->w.heap.size<=B->B<=w1.heap.size->Wn m B wb k1 k2 w1->
  CZ K (fs.push (pZ wb)++cs) w1 λe w2=>e=.returned (.tuple #[])/\(∃nm sp,Wi m B wb nm sp f w2)/\Below B w1 w2):=hW
 clear hW;go_enter Tryz.func80,Tryz.ntmps80
 go_wp2_with fail
 refine(ziu none w).mono ?_;rintro e w0 ⟨rfl,hw0⟩;have W0:Wn none w.heap.size (w.heap.size+2) w.heap.size (w.heap.size+1) w0:=by rw[hw0];exact Wn.new none w.heap.size w (z1d _) (λb e=>by cases e)
 have B0:Below w.heap.size w w0:=by rw[hw0];exact((bal w _).alloc (by simp) _).alloc (by simp;omega) _
 clear hw0
 go_wp2_with fail
 refine(HW.out none w.heap.size (w.heap.size+2) _ _ w0 B0 (z1d _) B0.size W0).mono ?_;rintro e w2 ⟨rfl,⟨nm,sp,W2⟩,B2⟩;have c1:w2.cell? ⟨w.heap.size+2,1,none⟩=some (.int .i64 (f.length:Int)):=by rw[z1f W2.blk];rfl
 have c2:∀o,(w2.alloc o).cell? ⟨w.heap.size+2,1,none⟩=some (.int .i64 (f.length:Int)):=λo=>by rw[z1o _ _ _ W2.lt];exact c1
 have K2:=B0.trans B2;clear B0 B2 W0 c1
 go_wp2_with fail
 refine(zwq w2.heap.size w2.heap.size f.length _ (z1d _) (z1v w2 _) (by simp) (by omega)).mono ?_;rintro e w4 ⟨rfl,U4,B4⟩;have K4:Below w.heap.size w w4:=(K2.alloc K2.size _).trans (B4.mono K2.size);have s4:w2.heap.size<=w4.heap.size:=z1c (by simp) B4.size;clear c2 W2
 go_wp2_with fail
 refine(ziu (some w2.heap.size) w4).mono ?_;rintro e w5 ⟨rfl,hw5⟩
 have W5:Wn (some w2.heap.size) w2.heap.size (w4.heap.size+2) w4.heap.size (w4.heap.size+1) w5:=by
  rw[hw5];exact Wn.new _ _ w4 s4 (λb e=>by cases e;exact U4)
 have B5:Below w4.heap.size w4 w5:=by rw[hw5];exact((bal w4 _).alloc (by simp) _).alloc (by simp;omega) _
 have K5:Below w.heap.size w w5:=K4.trans (B5.mono K4.size);have s5:w2.heap.size<=w5.heap.size:=z1c s4 B5.size;clear hw5 U4 B4 B5
 go_wp2_with fail
 refine(HW.out (some w2.heap.size) w2.heap.size (w4.heap.size+2) _ _ w5 K5 K2.size s5 W5).mono ?_;rintro e w6 ⟨rfl,⟨nm',sp',W6⟩,B6⟩;have K6:Below w.heap.size w w6:=K5.trans (B6.mono K2.size);have s6:w2.heap.size<=w6.heap.size:=z1c s5 B6.size
 go_wp2_with fail
 refine(zji w2.heap.size w2.heap.size f w6 (W6.bu _ rfl).1 s6).mono ?_;rintro e w7 ⟨rfl,_,k7⟩
 go_wp2_with fail
 go_ret;exact⟨rfl,K6.trans (k7.1.mono K2.size)⟩
def nmT (n:List Nat) (o:Nat):Ty:=tV (zac (zbb o n))
def wtx (n:List Nat) (t:Ty):List UInt8:=zae (sub (nmT n) t)
section
variable {o:Nat} {b t:Ty} (a:Ty) (n:List Nat)
theorem zxf (t:Ty):zeh t=wtx (zaa t []) t:=rfl
theorem zsa:∀(n r:List Nat),o∈n->zbb o (n++r)=zbb o n:=by
 intro n
 induction n with
 |nil=>intro r h;simp at h
 |cons p n ih=>
  intro r h;simp only[List.cons_append,zbb];by_cases hp:p=o
  ·rw[if_pos hp,if_pos hp]
  ·rw[if_neg hp,if_neg hp,ih r (by rcases List.mem_cons.1 h with h|h;exact absurd h.symm hp;exact h)]
theorem idxOf_new:∀(n:List Nat),o∉n->zbb o (n++[o])=n.length:=by
 intro n
 induction n with
 |nil=>intro _;simp[zbb]
 |cons p n ih=>
  intro h;simp only[List.mem_cons,not_or] at h;simp only[List.cons_append,zbb,List.length_cons];rw[if_neg (λe=>h.1 e.symm),ih h.2]
theorem zgm:∀(t:Ty) (n:List Nat),∃r,zaa t n=n++r:=by
 intro t
 induction t with
 |nil=>intro n;exact⟨[],by simp[zaa]⟩
 |node g p u a b iha ihb=>
  intro n;simp only[zaa];split
  ·split
   ·exact⟨[],by simp⟩
   ·exact⟨_,rfl⟩
  ·obtain⟨r,hr⟩:=iha n
   obtain⟨r',hr'⟩:=ihb (zaa a n);exact⟨r++r',by rw[hr',hr];simp⟩
def Cl (t:Ty) (n:List Nat):Prop:=zaa t n=n
theorem cl_node {g:Nat} {a:Ty} {n:List Nat} {u:Unit} (hg:g≠2) (h:Cl (.node g o u a b) n):Cl a n/\Cl b n:=by
 unfold Cl at *
 simp only[zaa,if_neg hg] at h;obtain⟨r,hr⟩:=zgm a n;obtain⟨r',hr'⟩:=zgm b (zaa a n);rw[hr',hr] at h
 have:r=[]/\r'=[]:=by
  have:=congrArg List.length h;simp only[z1l] at this;exact⟨List.eq_nil_of_length_eq_zero (by omega),List.eq_nil_of_length_eq_zero (by omega)⟩
 obtain⟨rfl,rfl⟩:=this;rw[List.append_nil] at hr;rw[hr,List.append_nil] at hr';exact⟨hr,hr'⟩
theorem Cl.ext:∀{t:Ty} {n:List Nat},Cl t n->∀r,Cl t (n++r):=by
 intro t
 induction t with
 |nil=>intro n _ r;rfl
 |node g p u a b iha ihb=>
  intro n h r;by_cases hg:g=2
  ·unfold Cl at *
   simp only[zaa,if_pos hg] at *
   split at h
   ·rename_i hc
    rw[if_pos];rw[z2b] at *
    exact List.mem_append_left _ hc
   ·have:=congrArg List.length h
    simp at this
  ·have:=cl_node hg h
   unfold Cl at *
   simp only[zaa,if_neg hg];rw[iha this.1 r,ihb this.2 r]
theorem ztl:∀(t:Ty) (n:List Nat),Cl t (zaa t n):=by
 intro t
 induction t with
 |nil=>intro n;rfl
 |node g p u a b iha ihb=>
  intro n;by_cases hg:g=2
  ·unfold Cl
   simp only[zaa,if_pos hg];by_cases hc:n.contains p=true
   ·rw[if_pos hc,if_pos hc]
   ·rw[if_neg hc,if_pos (by simp)]
  ·have h1:=iha n
   have h2:=ihb (zaa a n);unfold Cl at *
   simp only[zaa,if_neg hg];obtain⟨r,hr⟩:=zgm b (zaa a n);have h3:Cl a (zaa b (zaa a n)):=by rw[hr];exact Cl.ext (iha n) r
   rw[h3,h2]
theorem wtx_ext {n:List Nat} (h:Cl t n) (r:List Nat):wtx (n++r) t=wtx n t:=by
 unfold wtx;rw[zhq (v:=n) (θ:=nmT (n++r)) (θ':=nmT n) (λo ho=>by unfold nmT;rw[zsa n r ho]) t n (λo ho=>by rw[h] at ho;exact ho)]
theorem zwb (h:Ok t):isFn (sub (nmT n) t)=isFn t:=by
 rcases h.cases with rfl|rfl|⟨o,_,_,rfl⟩|⟨a,_,rfl⟩|⟨a,b,_,_,rfl⟩|⟨a,b,_,_,rfl⟩<;>simp[sub,isFn,nmT]
theorem isPr_nm (h:Ok t):isPr (sub (nmT n) t)=isPr t:=by
 rcases h.cases with rfl|rfl|⟨o,_,_,rfl⟩|⟨a,_,rfl⟩|⟨a,b,_,_,rfl⟩|⟨a,b,_,_,rfl⟩<;>simp[sub,isPr,nmT]
theorem wtx_I:wtx n tI=[73]:=by simp[wtx,sub,zae]
theorem wtx_B:wtx n tB=[66]:=by simp[wtx,sub,zae]
theorem wtx_V (n:List Nat) (o:Nat):wtx n (tV o)=zbq (zac (zbb o n)):=by simp[wtx,sub,nmT,zae]
theorem wtx_L (n:List Nat) (a:Ty):wtx n (tL a)=91::(wtx n a++[93]):=by simp[wtx,sub,zae]
theorem wtx_P {a:Ty} (ha:Ok a) (hb:Ok b):wtx n (tP a b)=inBr (isFn a) (wtx n a)++42::inBr (isFn b||isPr b) (wtx n b):=by
 show zae (.node 4 0 () (sub (nmT n) a) (sub (nmT n) b))=_;rw[zae];simp[zwb n ha,zwb n hb,isPr_nm n hb,wtx]
theorem wtx_F {a:Ty} (ha:Ok a) (hb:Ok b):wtx n (tF a b)=inBr (isFn a) (wtx n a)++62::wtx n b:=by
 show zae (.node 5 0 () (sub (nmT n) a) (sub (nmT n) b))=_;rw[zae];simp[zwb n ha,wtx]
theorem leaves_tL:zaa (tL a) n=zaa a n:=by simp[zaa]
theorem leaves_tP (a b:Ty) (n:List Nat):zaa (tP a b) n=zaa b (zaa a n):=by simp[zaa]
theorem leaves_tF (a b:Ty) (n:List Nat):zaa (tF a b) n=zaa b (zaa a n):=by simp[zaa]
theorem zrj (a b:Ty) (n:List Nat):wtx (zaa b (zaa a n)) a=wtx (zaa a n) a:=by
 obtain⟨r,hr⟩:=zgm b (zaa a n);rw[hr];exact wtx_ext (ztl a n) r
end
section
variable (a b:Int) (o:Nat) (w:World)
theorem zqq (a b:Int) (em:Bool) (w:World):(Instr.checkKey em 10000 263 (.agg #[.int .u8 a,.int .u8 b])).run Tryz.prog w=.ok () w:=by kernel_rfl
theorem kv_now (e:MapEntry) (es:List MapEntry)(fs):Instr.findNow (.struct fs) (.agg #[.int .u8 a,.int .u8 b]) (e::es) 0=none:=by kernel_rfl
theorem kv_eq (a b c d:Int) (w:World):(Op.equal 263 (.agg #[.int .u8 a,.int .u8 b]) (.agg #[.int .u8 c,.int .u8 d])).run Tryz.prog w=.ok (a==c && b==d) w:=zuy 9997 a b c d w
def zoc:List (Nat×Value)->Nat->Option Value
 |[],_=>none
 |(p,t)::r,o=>if p=o then some t else zoc r o
abbrev ent (p:Nat×Value):Value×Value:=(kv p.1,p.2)
theorem kask_any:∀(l:List (Nat×Value)) (es:List MapEntry) (i:Nat),es.map (λe=>(e.key,e.val))=l.map ent->
 ∃j,(Instr.findAsking 263 (kv o) es i).run Tryz.prog w=.ok (match zoc l o with|none=>none|some t=>some (j,t)) w:=by
 intro l
 induction l with
 |nil=>
  intro es i h;obtain rfl:es=[]:=by simpa using h
  exact⟨0,by simp[Instr.findAsking,zoc]⟩
 |cons p l ih=>
  intro es i h;obtain⟨q,t⟩:=p
  cases es with
  |nil=>simp at h
  |cons e es=>
   simp only[List.map_cons,List.cons.injEq,Prod.mk.injEq] at h;obtain⟨⟨hk,hv⟩,hr⟩:=h;by_cases hq:q=o
   ·subst hq
    refine⟨i,?_⟩;simp only[Instr.findAsking,Sem.run_bind,hk,kv_eq,zoc,if_true,Result.andThen_ok,beq_self_eq_true,Bool.and_self,hv,Sem.run_pure]
   ·have hne:(((o/10:Nat):Int)==((q/10:Nat):Int) && ((o % 10:Nat):Int)==((q % 10:Nat):Int))=false:=by
     rw[Bool.eq_false_iff];simp;omega
    obtain⟨j,hj⟩:=ih es (i+1) hr;refine⟨j,?_⟩;simp only[Instr.findAsking,Sem.run_bind,hk,kv_eq,hne,zoc,if_neg hq,Result.andThen_ok,Bool.false_eq_true,if_false,hj]
theorem znr (l:List (Nat×Value)) (es:List MapEntry) (h:es.map (λe=>(e.key,e.val))=l.map ent):
 ∃j,(Instr.findKey 263 (kv o) es).run Tryz.prog w=.ok (match zoc l o with|none=>none|some t=>some (j,t)) w:=by
 cases es with
 |nil=>
  obtain rfl:l=[]:=by simpa using h.symm
  exact⟨0,by simp[Instr.findKey,run_underlying Tryz.underlying263,Instr.findNow,zoc]⟩
 |cons e es=>
  obtain⟨j,hj⟩:=kask_any o w l (e::es) 0 h;refine⟨j,?_⟩;simp only[Instr.findKey,Sem.run_bind,run_underlying Tryz.underlying263,Result.andThen_ok,kv_now,hj]
end
def vnF:Nat->List Nat->List (Nat×Value)
 |_,[]=>[]
 |k,o::r=>(o,kv (zac k))::vnF (k+1) r
section
variable {n:List Nat} {o k1 q q' k2 b e:Nat} {v:Value} {w:World}
theorem zqz (o:Nat):∀(n:List Nat) (k:Nat),zoc (vnF k n) o=if o∈n then some (kv (zac (k+zbb o n))) else none:=by
 intro n
 induction n with
 |nil=>intro k;simp[vnF,zoc]
 |cons p n ih=>
  intro k;simp only[vnF,zoc,zbb];by_cases hp:p=o
  ·simp[hp]
  ·rw[if_neg hp,ih (k+1)]
   have:(o∈p::n) ↔ o∈n:=⟨λh=>by rcases List.mem_cons.1 h with h|h;exact absurd h.symm hp;exact h,z1j _⟩
   simp only[this,if_neg hp];have e:k+1+zbb o n=k+(zbb o n+1):=by omega
   rw[e]
theorem vnF_snoc (o:Nat):∀(n:List Nat) (k:Nat),vnF k (n++[o])=vnF k n++[(o,kv (zac (k+n.length)))]:=by
 intro n
 induction n with
 |nil=>intro k;simp[vnF]
 |cons p n ih=>
  intro k;have e:k+1+n.length=k+(n.length+1):=by omega
  simp[vnF,ih (k+1),e]
theorem vnF_len:∀(n:List Nat) (k:Nat),(vnF k n).length=n.length:=by
 intro n
 induction n with
 |nil=>intro k;rfl
 |cons p n ih=>intro k;simp[vnF,ih (k+1)]
def WNm (k1:Nat) (n:List Nat) (w:World):Prop:=∃es clock,w.heap[k1]? =some (.map es clock)/\es.toList.map (λe=>(e.key,e.val))=(vnF 0 n).map ent
theorem WNm.lt (h:WNm k1 n w):k1<w.heap.size:=by
 obtain⟨es,clock,hb,_⟩:=h;exact(z1a.1 hb).1
theorem WNm.size (h:WNm k1 n w):∃es clock,w.heap[k1]? =some (.map es clock)/\es.size=n.length:=by
 obtain⟨es,clock,hb,he⟩:=h;refine⟨es,clock,hb,?_⟩;have:=congrArg List.length he;simpa [vnF_len] using this
theorem kvv_zero (w:World):(zeroValue 263).run Tryz.prog w=.ok (.agg #[.int .u8 0,.int .u8 0]) w:=by kernel_rfl
theorem name_none (h:WNm k1 n w) (ho:o∉n):
 (Instr.lookup 167 (.map (some k1)) (kv o) true).run Tryz.prog w=.ok (.tuple #[.agg #[.int .u8 0,.int .u8 0],.bool false]) w:=by
 obtain⟨es,clock,hb,he⟩:=h;obtain⟨j,hj⟩:=znr o w (vnF 0 n) es.toList he;rw[zqz,if_neg ho] at hj;simp[Instr.lookup,run_underlying Tryz.underlying167,MapKept.run_getObj_map hb,zqq,hj,kvv_zero]
theorem name_some (h:WNm k1 n w) (ho:o∈n):
 (Instr.lookup 167 (.map (some k1)) (kv o) true).run Tryz.prog w=.ok (.tuple #[kv (zac (zbb o n)),.bool true]) w:=by
 obtain⟨es,clock,hb,he⟩:=h;obtain⟨j,hj⟩:=znr o w (vnF 0 n) es.toList he;rw[zqz,if_pos ho,Nat.zero_add] at hj;simp[Instr.lookup,run_underlying Tryz.underlying167,MapKept.run_getObj_map hb,zqq,hj]
theorem name_put (h:WNm k1 n w) (ho:o∉n):
 ∃w',(Instr.mapUpdate 167 (.map (some k1)) (kv o) (kv (zac n.length))).run Tryz.prog w=.ok () w'/\WNm k1 (n++[o]) w'/\Gb k1 w w':=by
 have hlt:=h.lt;obtain⟨es,clock,hb,he⟩:=h;obtain⟨j,hj⟩:=znr o w (vnF 0 n) es.toList he;rw[zqz,if_neg ho] at hj
 have G:Gb k1 w {w with heap:=w.heap.setIfInBounds k1 (.map (es.push ⟨kv o,kv (zac n.length),clock⟩) (clock+1))}:=by
  refine⟨rfl,rfl,rfl,by simp,λk hk hne=>?_⟩;have hne':¬k1=k:=λe=>hne (by rw[e])
  simp[Array.getElem?_setIfInBounds,hne']
 refine⟨{w with heap:=w.heap.setIfInBounds k1 (.map (es.push ⟨kv o,kv (zac n.length),clock⟩) (clock+1))},?_,⟨es.push ⟨kv o,kv (zac n.length),clock⟩,clock+1,?_,?_⟩,G⟩
 ·simp[Instr.mapUpdate,run_underlying Tryz.underlying167,MapKept.run_getObj_map hb,zqq,hj,MapKept.run_setObj_map _ hb,Result.andThen]
 ·simp[hlt]
 ·simp[he,vnF_snoc]
def NdO (w:World) (v:Value) (q:Nat):Prop:=
 (v=viL q/\∃n x,w.heap[q]? =some (obL n x))\/(v=viP q/\∃n x y,w.heap[q]? =some (obP n x y))\/(v=viF q/\∃n x y,w.heap[q]? =some (obF n x y))
theorem zbl {T T':TypeId} {x x':Value} {c:Bool} (h:(binOp .eql 94 (.iface T x) (.iface T' x')).run Tryz.prog w=.ok (.bool c) w):(Op.equal 94 (.iface T x) (.iface T' x')).run Tryz.prog w=.ok c w:=by
 simp only[binOp] at h
 cases hh:(Op.equal 94 (.iface T x) (.iface T' x')).run Tryz.prog w with
 |ok x w'=>simp[hh] at h;rw[h.1,h.2]
 |_=>simp[hh] at h
theorem zij {tp te:TypeId} {n:Nat} {ca cb:Array Value} {ta tb:TypeId} (hp:Tryz.prog.underlying tp=some (.pointer te)) (h1:(Tryz.prog.info? tp).map (·.comparable)=some true) (h2:(Tryz.prog.info? te).map (·.size)=some (n+1)) (ha:w.heap[q]? =some (.cells ca ta (0,0))) (hb:w.heap[q']? =some (.cells cb tb (0,0))):
 (binOp .eql 94 (.iface tp (pZ q)) (.iface tp (pZ q'))).run Tryz.prog w=.ok (.bool (decide (q=q'))) w:=by
 obtain⟨i,hi,hcmp⟩:=Option.map_eq_some_iff.1 h1;obtain⟨j,hj,hjs⟩:=Option.map_eq_some_iff.1 h2;by_cases e:q=q'
 ·subst e
  simpa using run_eql_iface_ptr_same (P:=Tryz.prog) w ⟨q,0,none⟩ Tryz.underlying94 hp hi hcmp hj
 ·have:=run_eql_iface_ptr_other (P:=Tryz.prog) w Tryz.underlying94 hp hi hcmp hj (by rw[hjs];omega) (a:=⟨q,0,none⟩) (b:=⟨q',0,none⟩) (by simp[e]) ha hb
  simpa [e] using this
theorem nd_eq {v':Value} (h:NdO w v q) (h':NdO w v' q'):(Op.equal 94 v v').run Tryz.prog w=.ok (decide (q=q')) w:=by
 rcases h with ⟨rfl,n,x,hq⟩|⟨rfl,n,x,y,hq⟩|⟨rfl,n,x,y,hq⟩<;>rcases h' with ⟨rfl,n',x',hq'⟩|⟨rfl,n',x',y',hq'⟩|⟨rfl,n',x',y',hq'⟩
 ·apply zbl;exact zij Tryz.underlying256 infoPL sizeL hq hq'
 ·have e:q≠q':=by rintro rfl;rw[hq] at hq';simp at hq'
  rw[decide_eq_false e];apply zbl;exact zdz _ _ w (by decide)
 ·have e:q≠q':=by rintro rfl;rw[hq] at hq';simp at hq'
  rw[decide_eq_false e];apply zbl;exact zdz _ _ w (by decide)
 ·have e:q≠q':=by rintro rfl;rw[hq] at hq';simp at hq'
  rw[decide_eq_false e];apply zbl;exact zdz _ _ w (by decide)
 ·apply zbl;exact zij Tryz.underlying259 infoPP sizeP hq hq'
 ·have e:q≠q':=by rintro rfl;rw[hq] at hq';simp at hq'
  rw[decide_eq_false e];apply zbl;exact zdz _ _ w (by decide)
 ·have e:q≠q':=by rintro rfl;rw[hq] at hq';simp at hq'
  rw[decide_eq_false e];apply zbl;exact zdz _ _ w (by decide)
 ·have e:q≠q':=by rintro rfl;rw[hq] at hq';simp at hq'
  rw[decide_eq_false e];apply zbl;exact zdz _ _ w (by decide)
 ·apply zbl;exact zij Tryz.underlying243 infoPF sizeF hq hq'
theorem zqi (h:NdO w v q) (em:Bool) (w':World):(Instr.checkKey em 10000 94 v).run Tryz.prog w'=.ok () w':=by
 rcases h with ⟨rfl,_⟩|⟨rfl,_⟩|⟨rfl,_⟩<;>kernel_rfl
theorem nd_now (h:NdO w v q) (e:MapEntry) (es:List MapEntry)(m):Instr.findNow (.interface m) v (e::es) 0=none:=by
 rcases h with ⟨rfl,_⟩|⟨rfl,_⟩|⟨rfl,_⟩<;>rfl
abbrev Spn:Type:=Nat×Value×Nat×Nat
abbrev spv (p:Spn):Value×Value:=(p.2.1,.agg #[iZ p.2.2.1,iZ p.2.2.2])
def zei:List Spn->Nat->Option (Nat×Nat)
 |[],_=>none
 |p::r,q=>if p.1=q then some p.2.2 else zei r q
theorem ask_spans (hv:NdO w v q):∀(l:List Spn) (es:List MapEntry) (i:Nat),(∀p∈l,NdO w p.2.1 p.1)->es.map (λe=>(e.key,e.val))=l.map spv->
 ∃j,(Instr.findAsking 94 v es i).run Tryz.prog w=.ok (match zei l q with|none=>none|some t=>some (j,.agg #[iZ t.1,iZ t.2])) w:=by
 intro l
 induction l with
 |nil=>
  intro es i _ h;obtain rfl:es=[]:=by simpa using h
  exact⟨0,by simp[Instr.findAsking,zei]⟩
 |cons p l ih=>
  intro es i hn h
  cases es with
  |nil=>simp at h
  |cons e es=>
   simp only[List.map_cons,List.cons.injEq,Prod.mk.injEq] at h;obtain⟨⟨hk,hval⟩,hr⟩:=h;have he:=nd_eq hv (hn p z1k);by_cases hq:p.1=q
   ·refine⟨i,?_⟩
    rw[decide_eq_true hq.symm] at he;simp only[Instr.findAsking,Sem.run_bind,hk,he,zei,if_pos hq,Result.andThen_ok,if_true,hval,Sem.run_pure]
   ·obtain⟨j,hj⟩:=ih es (i+1) (λp hp=>hn p (z1j _ hp)) hr
    refine⟨j,?_⟩;rw[decide_eq_false (λe=>hq e.symm)] at he;simp only[Instr.findAsking,Sem.run_bind,hk,he,zei,if_neg hq,Result.andThen_ok,Bool.false_eq_true,if_false,hj]
theorem zkf (hv:NdO w v q) (l:List Spn) (es:List MapEntry) (hn:∀p∈l,NdO w p.2.1 p.1) (h:es.map (λe=>(e.key,e.val))=l.map spv):
 ∃j,(Instr.findKey 94 v es).run Tryz.prog w=.ok (match zei l q with|none=>none|some t=>some (j,.agg #[iZ t.1,iZ t.2])) w:=by
 cases es with
 |nil=>
  obtain rfl:l=[]:=by simpa using h.symm
  exact⟨0,by simp[Instr.findKey,run_underlying Tryz.underlying94,Instr.findNow,zei]⟩
 |cons e es=>
  obtain⟨j,hj⟩:=ask_spans hv l (e::es) 0 hn h;refine⟨j,?_⟩;simp only[Instr.findKey,Sem.run_bind,run_underlying Tryz.underlying94,Result.andThen_ok,nd_now hv,hj]
def Sp (k2:Nat) (l:List Spn) (w:World):Prop:=∃es clock,w.heap[k2]? =some (.map es clock)/\es.toList.map (λe=>(e.key,e.val))=l.map spv/\∀p∈l,NdO w p.2.1 p.1
theorem Sp.lt {l:List Spn} (h:Sp k2 l w):k2<w.heap.size:=by
 obtain⟨es,clock,hb,_⟩:=h;exact(z1a.1 hb).1
theorem span_zero (w:World):(zeroValue 217).run Tryz.prog w=.ok (.agg #[.int .i64 0,.int .i64 0]) w:=by kernel_rfl
theorem span_none {l:List Spn} (h:Sp k2 l w) (hv:NdO w v q) (ho:zei l q=none):
 (Instr.lookup 168 (.map (some k2)) v true).run Tryz.prog w=.ok (.tuple #[.agg #[.int .i64 0,.int .i64 0],.bool false]) w:=by
 obtain⟨es,clock,hb,he,hn⟩:=h;obtain⟨j,hj⟩:=zkf hv l es.toList hn he;rw[ho] at hj;simp[Instr.lookup,run_underlying Tryz.underlying168,MapKept.run_getObj_map hb,zqi hv,hj,span_zero]
theorem span_some {l:List Spn} (h:Sp k2 l w) (hv:NdO w v q) (ho:zei l q=some (b,e)):
 (Instr.lookup 168 (.map (some k2)) v true).run Tryz.prog w=.ok (.tuple #[.agg #[iZ b,iZ e],.bool true]) w:=by
 obtain⟨es,clock,hb,he,hn⟩:=h;obtain⟨j,hj⟩:=zkf hv l es.toList hn he;rw[ho] at hj;simp[Instr.lookup,run_underlying Tryz.underlying168,MapKept.run_getObj_map hb,zqi hv,hj]
theorem span_put {l:List Spn} (h:Sp k2 l w) (hv:NdO w v q) (ho:zei l q=none):
 ∃w',(Instr.mapUpdate 168 (.map (some k2)) v (.agg #[iZ b,iZ e])).run Tryz.prog w=.ok () w'/\Gb k2 w w'/\Sp k2 (l++[(q,v,b,e)]) w':=by
 have hlt:=h.lt;obtain⟨es,clock,hb,he,hn⟩:=h;obtain⟨j,hj⟩:=zkf hv l es.toList hn he;rw[ho] at hj
 have G:Gb k2 w {w with heap:=w.heap.setIfInBounds k2 (.map (es.push ⟨v,.agg #[iZ b,iZ e],clock⟩) (clock+1))}:=by
  refine⟨rfl,rfl,rfl,by simp,λk hk hne=>?_⟩;have hne':¬k2=k:=λe=>hne (by rw[e])
  simp[Array.getElem?_setIfInBounds,hne']
 have KN:∀v q,NdO w v q->NdO {w with heap:=w.heap.setIfInBounds k2 (.map (es.push ⟨v,.agg #[iZ b,iZ e],clock⟩) (clock+1))} v q:=by
  intro v q h;have hne:∀c T,w.heap[q]? =some (.cells c T (0,0))->¬k2=q:=by rintro c T hq rfl;rw[hb] at hq;cases hq
  rcases h with ⟨rfl,n,x,hq⟩|⟨rfl,n,x,y,hq⟩|⟨rfl,n,x,y,hq⟩
  ·exact .inl ⟨rfl,n,x,by simp[Array.getElem?_setIfInBounds,hne _ _ hq,hq]⟩
  ·exact .inr (.inl ⟨rfl,n,x,y,by simp[Array.getElem?_setIfInBounds,hne _ _ hq,hq]⟩)
  ·exact .inr (.inr ⟨rfl,n,x,y,by simp[Array.getElem?_setIfInBounds,hne _ _ hq,hq]⟩)
 have KN':∀x q,NdO w x q->NdO {w with heap:=w.heap.setIfInBounds k2 (.map (es.push ⟨v,.agg #[iZ b,iZ e],clock⟩) (clock+1))} x q:=by
  intro x q h;have hne:∀c T,w.heap[q]? =some (.cells c T (0,0))->¬k2=q:=by rintro c T hq rfl;rw[hb] at hq;cases hq
  rcases h with ⟨rfl,n,x,hq⟩|⟨rfl,n,x,y,hq⟩|⟨rfl,n,x,y,hq⟩
  ·exact .inl ⟨rfl,n,x,by simp[Array.getElem?_setIfInBounds,hne _ _ hq,hq]⟩
  ·exact .inr (.inl ⟨rfl,n,x,y,by simp[Array.getElem?_setIfInBounds,hne _ _ hq,hq]⟩)
  ·exact .inr (.inr ⟨rfl,n,x,y,by simp[Array.getElem?_setIfInBounds,hne _ _ hq,hq]⟩)
 refine⟨_,?_,G,⟨es.push ⟨v,.agg #[iZ b,iZ e],clock⟩,clock+1,?_,?_,?_⟩⟩
 ·simp[Instr.mapUpdate,run_underlying Tryz.underlying168,MapKept.run_getObj_map hb,zqi hv,hj,MapKept.run_setObj_map _ hb,Result.andThen]
 ·simp[hlt]
 ·simp[he]
 ·intro p hp
  rcases z1y.1 hp with hp|hp
  ·exact KN' _ _ (hn p hp)
  ·simp at hp;subst hp;exact KN' _ _ hv
end
def SpOk (n:List Nat) (l:List UInt8) (w:World) (sp:List Spn):Prop:=
 ∀p∈sp,∃t,Ok t/\Tv w t p.2.1/\Cl t n/\p.2.2.1<=p.2.2.2/\p.2.2.2<=l.length/\(l.drop p.2.2.1).take (p.2.2.2-p.2.2.1)=wtx n t
structure Wt (m:Option Nat) (B wb k1 k2:Nat) (n:List Nat) (l:List UInt8) (sp:List Spn) (w:World):Prop where
 wi:Wi m B wb (.map (some k1)) (.map (some k2)) l w
 nm:WNm k1 n w
 spm:Sp k2 sp w
 so:SpOk n l w sp
 b1:B<=k1
 b2:B<=k2
 ne:k1≠k2
 nd:n.Nodup
 rg:∀o∈n,970<=o/\o<1230
def KW (m:Option Nat) (B wb k1 k2:Nat) (w w':World):Prop:=
 Below B w w'/\∀k o,w.heap[k]? =some o->k≠wb->k≠k1->k≠k2->m≠some k->(∀c fz,o≠ .cells c 5 fz)->w'.heap[k]? =some o
section
variable {cs:Array Value} {n:List Nat} {l:List UInt8} {B wb k1 k2 q o:Nat} {m:Option Nat} {x y w w':World}
theorem KW.refl (m:Option Nat) (B wb k1 k2:Nat) (w:World):KW m B wb k1 k2 w w:=⟨Below.refl B w,λ_ _ h _ _ _ _ _=>h⟩
theorem KW.trans {z:World} (h:KW m B wb k1 k2 x y) (k:KW m B wb k1 k2 y z):KW m B wb k1 k2 x z:=
 ⟨h.1.trans k.1,λq o h1 h2 h3 h4 h5 h6=>k.2 q o (h.2 q o h1 h2 h3 h4 h5 h6) h2 h3 h4 h5 h6⟩
theorem KW.alloc (h:KW m B wb k1 k2 x y) (hB:B<=y.heap.size) (o:Obj):KW m B wb k1 k2 x (y.alloc o):=
 ⟨h.1.alloc hB o,λq o' h1 h2 h3 h4 h5 h6=>by
  have:=h.2 q o' h1 h2 h3 h4 h5 h6;exact(Lib.alloc_old y o q (z1a.1 this).1).trans this⟩
theorem KW.drewN (h:KW m B wb k1 k2 x y) (n:Nat):KW m B wb k1 k2 x (y.drewN n):=⟨below_drewN h.1 n,λq o h1 h2 h3 h4 h5 h6=>h.2 q o h1 h2 h3 h4 h5 h6⟩
theorem KW.size (h:KW m B wb k1 k2 x y):x.heap.size<=y.heap.size:=h.1.size
theorem Kw.kw (h:Kw m B wb w w'):KW m B wb k1 k2 w w':=⟨h.1,λq o h1 h2 _ _ h5 h6=>h.2 q o h1 h2 h5 h6⟩
theorem Gb.kw1 (hB:B<=k1) (hs:B<=w.heap.size) (h:Gb k1 w w'):KW m B wb k1 k2 w w':=
 ⟨⟨h.os,h.tape,h.output,h.size,λk hk=>h.block k (by omega) (by simp;omega)⟩,λq o h1 _ h3 _ _ _=>by
  rw[h.block q (z1a.1 h1).1 (by simpa using h3)];exact h1⟩
theorem Gb.kw2 (hB:B<=k2) (hs:B<=w.heap.size) (h:Gb k2 w w'):KW m B wb k1 k2 w w':=
 ⟨⟨h.os,h.tape,h.output,h.size,λk hk=>h.block k (by omega) (by simp;omega)⟩,λq o h1 _ _ h4 _ _=>by
  rw[h.block q (z1a.1 h1).1 (by simpa using h4)];exact h1⟩
theorem Wt.kept {sp:List Spn} (h:Wt m B wb k1 k2 n l sp w) (k:KW m B wb k1 k2 w w'):KeptN w w':=by
 intro q c T hT hq;refine k.2 q _ hq ?_ ?_ ?_ ?_ ?_
 ·rintro rfl
  rw[h.wi.blk] at hq;simp only[Option.some.injEq,Obj.cells.injEq] at hq;rcases hT with e|e|e<;>rw[<-hq.2.1] at e<;>exact absurd e (by decide)
 ·rintro rfl
  obtain⟨es,cl,hb,_⟩:=h.nm;rw[hb] at hq;cases hq
 ·rintro rfl
  obtain⟨es,cl,hb,_⟩:=h.spm;rw[hb] at hq;cases hq
 ·intro e
  have hb:=(h.wi.bu q e).1;rcases hb with ⟨_,v,hb,_⟩|⟨_,v,hb,_⟩<;>
  ·rw[hb] at hq
   simp only[Option.some.injEq,Obj.cells.injEq] at hq;rcases hT with e|e|e<;>rw[<-hq.2.1] at e<;>exact absurd e (by decide)
 ·intro c' fz e
  injection e with _ e2;rcases hT with e|e|e<;>rw[e] at e2<;>exact absurd e2 (by decide)
theorem NdO.kept {v:Value} (hk:KeptN w w') (h:NdO w v q):NdO w' v q:=by
 rcases h with ⟨rfl,n,x,hq⟩|⟨rfl,n,x,y,hq⟩|⟨rfl,n,x,y,hq⟩
 ·exact .inl ⟨rfl,n,x,hk _ _ _ (.inl rfl) hq⟩
 ·exact .inr (.inl ⟨rfl,n,x,y,hk _ _ _ (.inr (.inl rfl)) hq⟩)
 ·exact .inr (.inr ⟨rfl,n,x,y,hk _ _ _ (.inr (.inr rfl)) hq⟩)
theorem SpOk.ext {sp:List Spn} (h:SpOk n l w sp) (hk:KeptN w w') (r:List Nat) (f:List UInt8):SpOk (n++r) (l++f) w' sp:=by
 intro p hp;obtain⟨t,h1,h2,h3,h4,h5,h6⟩:=h p hp;refine⟨t,h1,Tv.keptN hk _ _ h2,h3.ext r,h4,by simp;omega,?_⟩;rw[wtx_ext h3,<-h6,List.drop_append_of_le_length (by omega),List.take_append_of_le_length (by simp;omega)]
theorem Wt.text {f:List UInt8} {sp:List Spn} (h:Wt m B wb k1 k2 n l sp w) (h':Wi m B wb (.map (some k1)) (.map (some k2)) (l++f) w') (k:Kw m B wb w w'):Wt m B wb k1 k2 n (l++f) sp w':=by
 have hk:=h.kept k.kw
 have hm:∀(q:Nat) (es:Array MapEntry) (cl:Nat),w.heap[q]? =some (Obj.map es cl)->w'.heap[q]? =some (Obj.map es cl):=by
  intro q es cl hq;refine k.2 q _ hq ?_ ?_ (λc fz e=>by cases e)
  ·rintro rfl;rw[h.wi.blk] at hq;cases hq
  ·intro e
   rcases(h.wi.bu q e).1 with ⟨_,v,hb,_⟩|⟨_,v,hb,_⟩<;>rw[hb] at hq<;>cases hq
 obtain⟨es,cl,hb,he⟩:=h.nm;obtain⟨es2,cl2,hb2,he2,hn2⟩:=h.spm;exact⟨h',⟨es,cl,hm _ _ _ hb,he⟩,⟨es2,cl2,hm _ _ _ hb2,he2,λp hp=>(hn2 p hp).kept hk⟩,by simpa using h.so.ext hk [] f,h.b1,h.b2,h.ne,h.nd,h.rg⟩
theorem Wt.alloc {sp:List Spn} (h:Wt m B wb k1 k2 n l sp w) (hB:B<=w.heap.size) (o:Obj):Wt m B wb k1 k2 n l sp (w.alloc o):=by
 have:=h.text (f:=[]) (by simpa using h.wi.alloc o) ((Kw.refl m B wb w).alloc hB o);simpa using this
theorem Wt.drewN {sp:List Spn} (h:Wt m B wb k1 k2 n l sp w) (j:Nat):Wt m B wb k1 k2 n l sp (w.drewN j):=by
 have:=h.text (f:=[]) (by simpa using h.wi.drewN j) ((Kw.refl m B wb w).drewN j);simpa using this
theorem zwg {tmps:Array Value} {g:Nat} {a b:Value} {fn:Func} {p:Tmp} (h:fn.results=#[.cell p 263]) {Q:Ending->World->Prop} (hp:tmps.getD p undef=(pZ g)) (hg:w.heap[g]? =some (.cells #[a,b] 263 (0,0))) (hq:Q (.returned (.agg #[a,b])) w):bodyPost Tryz.prog fn Q Exit.ret {tmps:=tmps,defers:=[]} w:=
 bodyPost_ret (results_cell_row h tmps w g 263 #[a,b] (0,0) _ hp hg Tryz.underlying263 rfl (sizeVar a b)) rfl hq
theorem Wi.far {nm sp:Value} {T:TypeId} (h:Wi m B wb nm sp l w) {fz:Nat×Nat} (hq:w.heap[q]? =some (.cells cs T fz)) (h1:T≠5) (h2:T≠170) (h3:T≠165) (v:Value):Wi m B wb nm sp l (w.setCell ⟨q,o,none⟩ v):=by
 have hne:wb≠q:=by
  rintro rfl;rw[h.blk] at hq;simp only[Option.some.injEq,Obj.cells.injEq] at hq;exact h2 hq.2.1.symm
 refine⟨h.le,?_,λb hb=>⟨(h.bu b hb).1.far hq h1 ?_ v,(h.bu b hb).2⟩⟩
 ·rw[Below.heap_setCell _ _ _ _ (by show ¬_;simp;omega)];exact h.blk
 ·rintro rfl
  rcases(h.bu b hb).1 with ⟨_,x,hx,_⟩|⟨_,x,hx,_⟩<;>
  ·rw[hx] at hq
   simp only[Option.some.injEq,Obj.cells.injEq] at hq;exact h3 hq.2.1.symm
theorem Wt.of {sp:List Spn} (h:Wt m B wb k1 k2 n l sp w) (h':Wi m B wb (.map (some k1)) (.map (some k2)) l w') (hk:KeptN w w') (hm:∀(q:Nat) (es:Array MapEntry) (cl:Nat),w.heap[q]? =some (Obj.map es cl)->w'.heap[q]? =some (Obj.map es cl)):Wt m B wb k1 k2 n l sp w':=by
 obtain⟨es,cl,hb,he⟩:=h.nm;obtain⟨es2,cl2,hb2,he2,hn2⟩:=h.spm;exact⟨h',⟨es,cl,hm _ _ _ hb,he⟩,⟨es2,cl2,hm _ _ _ hb2,he2,λp hp=>(hn2 p hp).kept hk⟩,by simpa using h.so.ext hk [] [],h.b1,h.b2,h.ne,h.nd,h.rg⟩
theorem Wt.far {sp:List Spn} (h:Wt m B wb k1 k2 n l sp w) {fz:Nat×Nat} (hq:w.heap[q]? =some (.cells cs 263 fz)) (v:Value):Wt m B wb k1 k2 n l sp (w.setCell ⟨q,o,none⟩ v):=by
 refine h.of (h.wi.far hq (by decide) (by decide) (by decide) v) ?_ ?_
 ·intro q' c T hT hq'
  rw[Below.heap_setCell _ _ _ _ ?_]
  ·exact hq'
  ·show ¬_
   intro e;simp at e;subst e;rw[hq] at hq';simp only[Option.some.injEq,Obj.cells.injEq] at hq';rcases hT with e|e|e<;>rw[<-hq'.2.1] at e<;>exact absurd e (by decide)
 ·intro q' es cl hq'
  rw[Below.heap_setCell _ _ _ _ ?_]
  ·exact hq'
  ·show ¬_
   intro e;simp at e;subst e;rw[hq] at hq'
   cases hq'
theorem KW.far (h:KW m B wb k1 k2 w w') (hq:w.heap.size<=q) (hB:B<=q) (v:Value):KW m B wb k1 k2 w (w'.setCell ⟨q,o,none⟩ v):=
 ⟨h.1.setCell (p:=⟨q,o,none⟩) hB _,λk ob h1 h2 h3 h4 h5 h6=>by
  have hlt:=(z1a.1 h1).1;rw[Below.heap_setCell _ _ _ _ (by show ¬_;simp;omega)];exact h.2 k ob h1 h2 h3 h4 h5 h6⟩
theorem Wt.named {sp:List Spn} (h:Wt m B wb k1 k2 n l sp w) (ho:o∉n) (hr:970<=o/\o<1230) (hn:WNm k1 (n++[o]) w') (g:Gb k1 w w'):Wt m B wb k1 k2 (n++[o]) l sp w':=by
 obtain⟨es,cl,hb,he⟩:=h.nm;obtain⟨es2,cl2,hb2,he2,hn2⟩:=h.spm
 have hne:∀q,(∀es cl,w.heap[q]? ≠some (Obj.map es cl))\/q=k2->∀ob,w.heap[q]? =some ob->w'.heap[q]? =some ob:=by
  intro q hq ob hob;rw[g.block q (z1a.1 hob).1 ?_]
  ·exact hob
  ·rintro e
   have e:q=k1:=by simpa using e
   subst e;rcases hq with hq|hq
   ·exact hq es cl hb
   ·exact h.ne hq
 have hk:KeptN w w':=λq c T hT hq=>hne q (.inl (λes cl e=>by rw[hq] at e;cases e)) _ hq
 refine⟨⟨h.wi.le,hne _ (.inl (λes cl e=>by rw[h.wi.blk] at e;cases e)) _ h.wi.blk,λb hb'=>⟨?_,(h.wi.bu b hb').2⟩⟩,hn,⟨es2,cl2,hne _ (.inr rfl) _ hb2,he2,λp hp=>(hn2 p hp).kept hk⟩,by simpa using h.so.ext hk [o] [],h.b1,h.b2,h.ne,?_,?_⟩
 ·have K:∀{x:Value} {bs:List Value},w.ownsRowF B 5 1 x bs.length bs->w'.ownsRowF B 5 1 x bs.length bs:=by
   intro x bs hown;refine hown.kept (row:=some k1) ⟨g.os,g.tape,g.output,g.size,λk hk hne'=>g.block k hk hne'⟩ (Or.inr ?_);rcases hown.2 with ⟨rfl,_⟩|⟨gg,cap,cur,fz,rfl,_,hgg,_⟩
   ·simp[Value.ownBlock]
   ·intro e
    simp only[Value.ownBlock,Option.some.injEq] at e;subst e;rw[hb] at hgg
    cases hgg
  rcases(h.wi.bu b hb').1 with ⟨hB,x,hx,hown,hxne⟩|⟨hB,x,hx,hown,hxne⟩
  ·exact .inl ⟨hB,x,hne _ (.inl (λes cl e=>by rw[hx] at e;cases e)) _ hx,K hown,hxne⟩
  ·exact .inr ⟨hB,x,hne _ (.inl (λes cl e=>by rw[hx] at e;cases e)) _ hx,K hown,hxne⟩
 ·rw[List.nodup_append]
  exact⟨h.nd,by simp,λa ha b hb e=>by simp at hb;subst hb;subst e;exact ho ha⟩
 ·intro x hx
  rcases z1y.1 hx with hx|hx
  ·exact h.rg x hx
  ·simp at hx;subst hx;exact hr
theorem nm_byte {k:Nat} (h:k<260):zac k/10=97+k % 26/\zac k % 10=k/26:=by unfold zac;omega
theorem zks (k:Nat) (hk:k<260) (w:World):
 CZ 200 #[iZ k] w λe w'=>e=.returned (kv (zac k))/\∃o,w'=w.alloc o:=by
 have e1:((zac k/10:Nat):Int)=97+(k:Int) % 26:=by
  rw[(nm_byte hk).1];omega
 have e2:((zac k % 10:Nat):Int)=(k:Int)/26:=by
  rw[(nm_byte hk).2];omega
 unfold kv;rw[e1,e2];go_enter Tryz.func200,Tryz.ntmps200;go_wp21;refine zwg rfl rfl (z1v w _) ?_;exact⟨rfl,_,rfl⟩
end
end Go.Proofs.YtceadeaodbadlaaGreatDoor
