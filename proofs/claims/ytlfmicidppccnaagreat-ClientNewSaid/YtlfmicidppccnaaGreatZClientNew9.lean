import Derived.Test.YtlfmicidppccnaaGreatZClientNew8
set_option maxHeartbeats 25600000
set_option maxRecDepth 100000
set_option linter.unusedVariables false
set_option linter.unusedSimpArgs false
namespace Go.Proofs.YtlfmicidppccnaaGreat
namespace Mc
open Go.RowKit Ad DerP DerC Ms
def OwnN (w:World) (base:Nat) (v:Value) (l:L):Prop:=(v = .slice none 0 0∧l = [])∨OwnB w base v l
section
variable {w w':World} {base base' g:Nat} {v:Value} {l:L} {cs:Array Value}
theorem OwnN.keep (h:OwnN w base v l) (hg:w.grownBy w' (some g)) (hlt:g<base):OwnN w' base v l:=h.imp id fun h=>h.keep hg hlt
theorem OwnN.slb (h:OwnN w base v l):SlB w w.heap.size v l:=by
 rcases h with⟨rfl,rfl⟩ | h
 ·exact SlB.nil _ _
 ·exact h.slb
def TgO (w:World) (B:Nat) (cs:Array Value) (q:Tg):Prop:=∃b a,cs=(tgC q b a).toArray∧OwnN w B b q.t.b∧OwnN w B a q.a
def ReO (w:World) (B:Nat) (cs:Array Value) (q:Re):Prop:=∃b a,cs=(reC q b a).toArray∧OwnN w B b q.t.b∧OwnN w B a q.b
def ApO (w:World) (B:Nat) (cs:Array Value) (q:Ap):Prop:=∃b a,cs=(apC q b a).toArray∧OwnN w B b q.t.b∧OwnN w B a q.a
theorem TgO.keep {q:Tg} (h:TgO w base cs q) (hg:w.grownBy w' (some g)) (hlt:g<base):TgO w' base cs q:=by obtain⟨b,a,h1,h2,h3⟩:=h;exact⟨b,a,h1,h2.keep hg hlt,h3.keep hg hlt⟩
theorem TgO.toV {q:Tg} (h:TgO w base cs q):TgV w w.heap.size cs q:=by obtain⟨b,a,h1,h2,h3⟩:=h;exact⟨b,a,h1,h2.slb,h3.slb⟩
theorem ReO.keep {q:Re} (h:ReO w base cs q) (hg:w.grownBy w' (some g)) (hlt:g<base):ReO w' base cs q:=by obtain⟨b,a,h1,h2,h3⟩:=h;exact⟨b,a,h1,h2.keep hg hlt,h3.keep hg hlt⟩
theorem ReO.toV {q:Re} (h:ReO w base cs q):ReV w w.heap.size cs q:=by obtain⟨b,a,h1,h2,h3⟩:=h;exact⟨b,a,h1,h2.slb,h3.slb⟩
theorem ApO.keep {q:Ap} (h:ApO w base cs q) (hg:w.grownBy w' (some g)) (hlt:g<base):ApO w' base cs q:=by obtain⟨b,a,h1,h2,h3⟩:=h;exact⟨b,a,h1,h2.keep hg hlt,h3.keep hg hlt⟩
theorem ApO.toV {q:Ap} (h:ApO w base cs q):ApV w w.heap.size cs q:=by obtain⟨b,a,h1,h2,h3⟩:=h;exact⟨b,a,h1,h2.slb,h3.slb⟩
structure MpO (w:World) (B:Nat) (pa pt pr pp pf:Array Value) (m:Mg):Prop where
 a:AsV pa m.aq
 t:TgO w B pt m.tg
 r:ReO w B pr m.re
 p:ApO w B pp m.ap
 f:FaV pf m.fa
def MgO (w:World) (B:Nat) (cs:Array Value) (m:Mg):Prop:=∃pa pt pr pp pf,cs=mgA m.k pa pt pr pp pf∧MpO w B pa pt pr pp pf m
variable {pa pt pr pp pf:Array Value} {m:Mg}
theorem MpO.toV (h:MpO w base pa pt pr pp pf m):MgP w w.heap.size pa pt pr pp pf m:=⟨h.a,h.t.toV,h.r.toV,h.p.toV,h.f⟩
theorem MpO.keep (h:MpO w base pa pt pr pp pf m) (hg:w.grownBy w' (some g)) (hlt:g<base):MpO w' base pa pt pr pp pf m:=⟨h.a,h.t.keep hg hlt,h.r.keep hg hlt,h.p.keep hg hlt,h.f⟩
theorem MgO.keep (h:MgO w base cs m) (hg:w.grownBy w' (some g)) (hlt:g<base):MgO w' base cs m:=by obtain⟨pa,pt,pr,pp,pf,h1,h2⟩:=h;exact⟨pa,pt,pr,pp,pf,h1,h2.keep hg hlt⟩
theorem MgO.size (h:MgO w base cs m):cs.size=30:=by obtain⟨pa,pt,pr,pp,pf,h1,h2⟩:=h;rw[h1];exact h2.toV.size m.k
end
section
variable (g:Nat) (c:Option L) (w:World) (h:Cur w g c) (hs:(c.getD []).length≤100000)
include h hs
end
theorem Ij {ps:Array Value} {q:As} (h:AsV ps q):Tryz.prog.built 76 [(0,.int .i64 1),(1,.agg ps)]=some (mgA 1 ps zT zR zP zF):=by rw[h];kernel_rfl
theorem Eh:pSm pr0:=⟨by decide,by decide⟩
end Mc
namespace Rt
open Nm
abbrev Pr:=L×L
structure Pa where
 f:L
 t:L
 v:List L
structure Tp where
 R:List L
 K:List Pr
 P:List Pa
section
variable {α:Type}
end
end Rt
namespace Kd
open Ad Se Ms
open Nm (krb L)
open Rg (It)
open DerP (elem encI)
def lO (o:Option L):L:=o.getD []
end Kd
namespace Cl
open Go.RowKit Ad Se
open Nm (L krb Am tgL tgR AA CA Du)
open Ms (Pr tmB inB pSm mSm mgO Mg EncR)
open Rg (prV)
theorem Ct (n:Int) (w:World):Calls Tryz.prog 44 #[.int .i64 n] w fun e w'=>e = .returned (.bool (tmB n))∧w=w':=by
 by_cases h1:0≤n
 ·by_cases h2:n≤1073741824
  ·have t1:decide ((0:Int)≤n)=true:=decide_eq_true h1
   have t2:decide (n≤1073741824)=true:=decide_eq_true h2;have E:=I (show tmB n=true by simp [tmB,inB,h1,h2]);rw[E.o];clear h1 h2;go_enter Tryz.func44,Tryz.ntmps44
   go_wp2
   go_ret;exact⟨rfl,rfl⟩
  ·have t1:decide ((0:Int)≤n)=true:=decide_eq_true h1
   have t2:decide (n≤1073741824)=false:=decide_eq_false h2;have E:=I (show tmB n=false by simp [tmB,inB,h1,h2]);rw[E.o];clear h1 h2;go_enter Tryz.func44,Tryz.ntmps44
   go_wp2
   go_ret;exact⟨rfl,rfl⟩
 ·have t1:decide ((0:Int)≤n)=false:=decide_eq_false h1
  have E:=I (show tmB n=false by simp [tmB,inB,h1]);rw[E.o];clear h1;go_enter Tryz.func44,Tryz.ntmps44
  go_wp2
  go_ret;exact⟨rfl,rfl⟩
theorem Bn (p:Pr) (w:World) (hs:pSm p):Calls Tryz.prog 43 #[prV p] w fun e w'=>e = .returned (.bool (Ax p))∧Below w.heap.size w w':=by
 obtain⟨W,eW⟩:∃W,W=w.alloc (.cells #[.string ⟨p.1.toArray⟩,.string ⟨p.2.toArray⟩] 40):=⟨_,rfl⟩;have HB:=I (show Below w.heap.size w W from eW▸Af.alloc Ae _);have HP:=I (show Blk W w.heap.size 40 #[.string ⟨p.1.toArray⟩,.string ⟨p.2.toArray⟩] from eW▸Blk.new w _ _);have C1:=I (fun w1=>CA p.2 w1 hs.2);have C2:=I (fun w1=>AA p.1 p.2 w1 hs.1 hs.2);have E:=I (show Ax p=(Am p.1 p.2 && !tgL p.2) from rfl);obtain⟨b1,e1⟩:∃z,z=tgL p.2:=⟨_,rfl⟩;obtain⟨b2,e2⟩:∃z,z=Am p.1 p.2:=⟨_,rfl⟩;obtain⟨q,eq⟩:∃z,z=Ax p:=⟨_,rfl⟩;rw[←e1] at C1 E;rw[←e2] at C2 E;rw[←eq] at E⊢;clear hs e1 e2 eq;cases b1
 ·go_enter Tryz.func43,Tryz.ntmps43
  go_upto_region 1 with fail
  rw[←eW];clear eW;have k1:=HP.o.cell 1
  go_wp2_with (first
   |(go_at_call 85;refine Calls.mono (C1.o _) ?_;rintro e w1 ⟨rfl,hb⟩;clear C1 k1;replace HP:=I (HP.o.below hb);replace HB:=HB.t hb;have k0:w1.cell? ⟨w.heap.size,0,none⟩=some (.string ⟨p.1.toArray⟩):=HP.o.cell 0;have k1:w1.cell? ⟨w.heap.size,1,none⟩=some (.string ⟨p.2.toArray⟩):=HP.o.cell 1;clear hb)
   |(go_at_call 86;refine Calls.mono (C2.o _) ?_;rintro e w2 ⟨rfl,hb⟩;clear C2 k0 k1;replace HB:=HB.t hb;clear hb)
   |fail)
  go_ret;exact⟨by rw[E.o];cases b2<;>rfl,HB.o⟩
 ·go_enter Tryz.func43,Tryz.ntmps43
  go_upto_region 1 with fail
  rw[←eW];clear eW;have k1:=HP.o.cell 1
  go_wp2_with (first
   |(go_at_call 85;refine Calls.mono (C1.o _) ?_;rintro e w1 ⟨rfl,hb⟩;clear C1 k1;replace HP:=I (HP.o.below hb);replace HB:=HB.t hb;clear hb)
   |fail)
  go_ret;exact⟨by rw[E.o];cases b2<;>rfl,HB.o⟩
theorem GG (now:Int) (w:World) (h:tmB now=true):Calls Tryz.prog 90 #[.int .i64 now] w fun e w'=>e = .returned (.int .i64 (Ex now))∧w=w':=by
 have h':0≤now∧now≤1073741824:=by simpa [tmB,inB] using h
 have s1:IntKind.i64.wrap (now+1000)=now+1000:=by rw[IntKind.wrap_i64];omega
 have E:=I (show min (now+1000) 1073741824=Ex now from rfl);clear h h';go_enter Tryz.func90,Tryz.ntmps90
 go_wp2
 go_ret;exact⟨by rw[←E.o];first | rfl | simp,rfl⟩
theorem Fe (p:Pr) (w:World) (h1:p.1.length≤140737488351232) (h2:p.2.length≤140737488351232):Calls Tryz.prog 45 #[prV p] w fun e w'=>e = .returned (prV p)∧Below w.heap.size w w':=by
 have C1:=I (fun w1=>Ca.BG p.1 w1 h1);have C2:=I (fun w1=>Ca.BG p.2 w1 h2);go_enter Tryz.func45,Tryz.ntmps45
 go_upto_region 1 with fail
 obtain⟨W,eW⟩:∃W,W=(w.alloc (.cells #[.string ⟨p.1.toArray⟩,.string ⟨p.2.toArray⟩] 40)).alloc (.cells #[.string ⟨#[]⟩,.string ⟨#[]⟩] 40):=⟨_,rfl⟩;have hq:=Blk.new (w.alloc (.cells #[.string ⟨p.1.toArray⟩,.string ⟨p.2.toArray⟩] 40)) 40 #[.string ⟨#[]⟩,.string ⟨#[]⟩];rw[show(w.alloc (.cells #[.string ⟨p.1.toArray⟩,.string ⟨p.2.toArray⟩] 40)).heap.size=w.heap.size+1 by simp,←eW] at hq;have HK:=I (show Blk W w.heap.size 40 #[.string ⟨p.1.toArray⟩,.string ⟨p.2.toArray⟩] by rw[eW];exact(Blk.new _ _ _).alloc _);have HZ:=I hq;have HB:=I (show Below w.heap.size w W by rw[eW];exact(Af.alloc Ae _).alloc (by simp) _);rw[←eW];clear eW hq;replace HK:=I (show Blk W.drew _ _ _ from HK.o.drewN 1);replace HZ:=I (show Blk W.drew _ _ _ from HZ.o.drewN 1);replace HB:=I (show Below _ _ W.drew from below_drewN HB.o 1)
 go_region_held3 (fun w'=>w'.cell? ⟨w.heap.size,0,none⟩=some (.string ⟨p.1.toArray⟩)∧w'.cell? ⟨w.heap.size,1,none⟩=some (.string ⟨p.2.toArray⟩)) (first | exact⟨HK.o.cell 0,HK.o.cell 1⟩ | exact⟨(Si.Blk.far (Si.Blk.far HK.o _ _ (by simp)) _ _ (by simp)).cell 0,(Si.Blk.far (Si.Blk.far HK.o _ _ (by simp)) _ _ (by simp)).cell 1⟩) ((first
  |(go_at_call 87;(with_reducible refine Calls.mono (C1.o _) ?_);rintro e w1 ⟨rfl,hb⟩;clear C1;replace HK:=I (HK.o.below hb);replace HZ:=I (HZ.o.below hb);replace HB:=HB.t hb;have kz0:w1.cell? ⟨w.heap.size+1,0,none⟩=some (.string ⟨#[]⟩):=HZ.o.cell 0;have kz1:w1.cell? ⟨w.heap.size+1,1,none⟩=some (.string ⟨#[]⟩):=HZ.o.cell 1;have fz:=HZ.o.frozen;clear hb)
  |(go_at_call 87;(with_reducible refine Calls.mono (C2.o _) ?_);rintro e w2 ⟨rfl,hb⟩;clear C2 kz0 kz1 fz;replace HK:=I (HK.o.below hb);replace HZ:=I (HZ.o.below hb);replace HB:=HB.t hb;have kz0:w2.cell? ⟨w.heap.size+1,0,none⟩=some (.string ⟨#[]⟩):=HZ.o.cell 0;have kz1:w2.cell? ⟨w.heap.size+1,1,none⟩=some (.string ⟨#[]⟩):=HZ.o.cell 1;have fz:=HZ.o.frozen;clear hb)))
 go_wp2
 have hz:=(HZ.o.set 0 (.string ⟨p.1.toArray⟩)).set 1 (.string ⟨p.2.toArray⟩);rw[show(((#[.string ⟨#[]⟩,.string ⟨#[]⟩]:Array Value).setIfInBounds 0 (.string ⟨p.1.toArray⟩)).setIfInBounds 1 (.string ⟨p.2.toArray⟩))=#[.string ⟨p.1.toArray⟩,.string ⟨p.2.toArray⟩] from rfl] at hz;refine bodyPost_ret (v:=prV p) ?_ ?_ ?_
 ·exact Wh.An (v:=prV p) 2 40 ⟨w.heap.size+1,0,none⟩ Tryz.results45 (by rfl) (Wh.Ar hz Tryz.underlying40 (by rfl) Rg.AD)
 ·rfl
 ·exact⟨rfl,Si.AF (Si.AF HB.o (by simp) _) (by simp) _⟩
theorem Jz (w:World) (g o:Nat) (u:Value):Chg (fun j=>j=g) w (w.setCell ⟨g,o,none⟩ u):=(Chg.refl (fun j=>j=g) w).set (p:=⟨g,o,none⟩) (.inl rfl) u
theorem GH (g o n:Nat) (w:World) (hn:n<1000000) (hc:w.cell? ⟨g,o,none⟩=some (.int .i64 (n:Int))) (hz:w.frozen? ⟨g,o,none⟩=false) :
  Calls Tryz.prog 63 #[.pointer (some ⟨g,o,none⟩)] w fun e w'=>e = .returned (.int .i64 ((n+1:Nat):Int))∧w'=w.setCell ⟨g,o,none⟩ (.int .i64 ((n+1:Nat):Int)):=by
 have c1:=add_one ⟨g,o,none⟩ n w hn hc hz;obtain⟨N,eN⟩:∃N:Int,N=((n+1:Nat):Int):=⟨_,rfl⟩;rw[←eN] at c1⊢;obtain⟨W,eW⟩:∃W,W=w.setCell ⟨g,o,none⟩ (.int .i64 N):=⟨_,rfl⟩;rw[←eW] at c1⊢;clear hc hz eN hn eW;go_enter Tryz.func63,Tryz.ntmps63
 go_wp2_with (go_at_call 111;refine Calls.mono c1 ?_;rintro e w1 ⟨rfl,hw⟩;subst hw;clear c1)
 go_ret;exact⟨rfl,rfl⟩
section
variable {w w':World} {B:Nat} {p:CP} {m:CM} {s:St} {c:Nat}
theorem Cl.put_n (h:Cl w B p m s c) (n:Nat):Tu w (w.setCell ⟨p.k,4,none⟩ (.int .i64 (n:Int))) B p m m {s with n:=n} c:=
 h.cell (m':=m) (Jz w p.k 4 _) (by have:=h.blk.set 4 (.int .i64 (n:Int));simpa using this) rfl rfl h.ou
theorem Kr (h:Cl w B p m s c) (hn:s.n<1000000):Calls Tryz.prog 63 #[.pointer (some ⟨p.k,4,none⟩)] w fun e w'=>e = .returned (.int .i64 ((s.n+1:Nat):Int))∧Tu w w' B p m m {s with n:=s.n+1} c:=
 (GH p.k 4 s.n w hn (h.blk.cell 4) (h.blk.frozen 4)).mono (by rintro e w' ⟨rfl,rfl⟩;exact⟨rfl,h.put_n _⟩)
theorem JA (k:Nat) (P:Pr) (w:World) (hs:P.1.length≤1000000) (h0:∀w',Below w.heap.size w w'→w'.cell? ⟨k,0,none⟩=some (.string ⟨P.1.toArray⟩)) (hk:k<w.heap.size) :
  Calls Tryz.prog 88 #[.pointer (some ⟨k,0,none⟩)] w fun e w'=>e = .returned (prV (own P))∧Below w.heap.size w w':=by
 have C1:=I (fun w1=>Du P.1 w1 (by omega));have HN:=I (show k≠w.heap.size by omega);obtain⟨W,eW⟩:∃W,W=w.alloc (.cells #[.string ⟨#[]⟩,.string ⟨#[]⟩] 40):=⟨_,rfl⟩;have hb:Below w.heap.size w W:=eW▸Af.alloc Ae _;have HZ:=I (show Blk W.drew w.heap.size 40 #[.string ⟨#[]⟩,.string ⟨#[]⟩] from eW▸Blk.new w _ _);have HB:=I (show Below w.heap.size w W.drew from below_drewN hb 1);have HKF:=I h0;have E:=I (show own P=(P.1,krb++P.1) from rfl);obtain⟨q,eq⟩:∃z,z=krb++P.1:=⟨_,rfl⟩;rw[←eq] at C1 E;rw[E.o];clear h0 hk hs hb eq E;go_enter Tryz.func88,Tryz.ntmps88
 go_upto_region 1 with fail
 rw[←eW];clear eW;have kw0:W.cell? ⟨w.heap.size,0,none⟩=some (.string ⟨#[]⟩):=HZ.o.cell 0;have kw1:W.cell? ⟨w.heap.size,1,none⟩=some (.string ⟨#[]⟩):=HZ.o.cell 1;have fw:∀i,W.frozen? ⟨w.heap.size,i,none⟩=false:=HZ.o.frozen;have kz0:W.drew.cell? ⟨w.heap.size,0,none⟩=some (.string ⟨#[]⟩):=HZ.o.cell 0;have kz1:W.drew.cell? ⟨w.heap.size,1,none⟩=some (.string ⟨#[]⟩):=HZ.o.cell 1;have fz:=HZ.o.frozen
 go_region_held3 (fun w'=>w'.cell? ⟨k,0,none⟩=some (.string ⟨P.1.toArray⟩)) (first | exact HKF.o _ HB.o | exact HKF.o _ (Si.AF (Si.AF HB.o Ae _) Ae _)) ((go_at_call 130;(with_reducible refine Calls.mono (C1.o _) ?_);rintro e w1 ⟨rfl,hw⟩;subst hw;clear C1))
 go_wp2
 have hz:=(HZ.o.set 0 (.string ⟨P.1.toArray⟩)).set 1 (.string ⟨q.toArray⟩);rw[show(((#[.string ⟨#[]⟩,.string ⟨#[]⟩]:Array Value).setIfInBounds 0 (.string ⟨P.1.toArray⟩)).setIfInBounds 1 (.string ⟨q.toArray⟩))=#[.string ⟨P.1.toArray⟩,.string ⟨q.toArray⟩] from rfl] at hz;refine bodyPost_ret (v:=prV (P.1,q)) ?_ ?_ ?_
 ·exact Wh.An (v:=prV (P.1,q)) 2 40 ⟨w.heap.size,0,none⟩ Tryz.results88 (by rfl) (Wh.Ar hz Tryz.underlying40 (by rfl) Rg.AD)
 ·rfl
 ·exact⟨rfl,Si.AF (Si.AF HB.o Ae _) Ae _⟩
theorem own_k (h:Cl w B p m s c) (hs:p.P.1.length≤1000000):Calls Tryz.prog 88 #[pv p.k] w fun e w'=>e = .returned (prV (own p.P))∧Below w.heap.size w w':=
 JA p.k p.P w hs (fun w' hb=>(h.below hb).blk.cell 0) h.blk.lt
def oI:Option L→Int
 |none=>1
 |some _=>0
theorem Ks {o:Option L} {e:Ending} (h:EncR w o e w'):∃v,e = .returned (.tuple #[v,.int .i64 (oI o)])∧SlN (fun j=>j<w.heap.size) w' v (lO o)∧Below w.heap.size w w':=by
 obtain⟨⟨v,i,rfl,h1,h2⟩,hb⟩:=h;cases o with
 |none=>
  obtain⟨rfl,rfl⟩:=h1 rfl;exact⟨_,rfl,⟨none,0,rfl,Nat.le_refl _,.inl rfl⟩,hb⟩
 |some l=>
  obtain⟨rfl,g,c,rfl,h3,h4,h5⟩:=h2 l rfl;refine⟨_,rfl,⟨_,c,rfl,h4,?_⟩,hb⟩;rcases h5 with h5 | ⟨b,o,h6,h7,h8⟩
  ·exact .inl h5
  ·injection h6 with h6
   injection h6 with e1 e2 _;subst e1 e2;exact .inr ⟨_,_,rfl,h7,by omega,h8⟩
theorem Ik (cs:Array Value) (g:Mg) (w:World) (h:Mc.MgV w w.heap.size cs g) (hs:mSm g) (hz:cs.size=30) (ho:cs.all (·.oneCell')=true) :
  Calls Tryz.prog 66 #[.agg cs] w fun e w'=>∃v,e = .returned v∧SlN (fun j=>j<w.heap.size) w' v (lO (mgO g))∧Below w.heap.size w w':=by
 obtain⟨W,eW⟩:∃W,W=w.alloc (.cells cs 76):=⟨_,rfl⟩;have hb:Below w.heap.size w W:=eW▸Af.alloc Ae _;have HP:=I (show Blk W w.heap.size 76 cs from eW▸Blk.new w _ _);have HI:=I (show(Tryz.prog.info? 76).map (·.size)=some cs.size by rw[hz];exact Mc.Bt);have C1:=I (Mc.Jy cs g W (Mc.MgV.more (Mc.MgV.keep h hb) hb.size) hs);obtain⟨o,eo⟩:∃o,o=mgO g:=⟨_,rfl⟩;rw[←eo] at C1⊢;have HB:=I hb;clear h hs hz ho eo hb;go_enter Tryz.func66,Tryz.ntmps66
 go_upto_region 1 with fail
 rw[←eW];clear eW
 go_wp2_with (first
  |(refine Wh.Ab (by rfl) 76 (.tmp 1) (by rfl) w.heap.size 0 (by rfl) cs _ (Wh.Ak HP.o) Tryz.underlying76 (by rfl) HI.o ?_)
  |(go_at_call 94;refine Calls.mono C1.o ?_;rintro e w1 he;obtain⟨v,rfl,hs,hb⟩:=Ks he;clear C1 he;have HS:=I hs;replace HB:=HB.t hb;clear hs hb)
  |fail)
 go_ret;exact⟨v,rfl,HS.o.mono (fun j _ x=>by have:=HP.o.lt;omega),HB.o⟩
end
end Cl
namespace Cl
open Go.RowKit Ad Se
open Nm (L)
open Ms (Pr)
theorem Cc {P:Program} {a:Act} {w':World} {o:Oper} {t:TypeId} {parts:Array (Nat×Operand)} (ho:o.op = .build t parts) {cells:Array Value} (h:P.built t (parts.map fun x=>(x.1,a.eval x.2)).toList=some cells) :
  (execOp a.eval o).run P w' = .ok (.value (.agg cells)) w':=by
 have:=run_build (P:=P) w' t (parts.map fun x=>(x.1,a.eval x.2)) cells h;unfold execOp;simp only[ho,Sem.run_bind,this,Result.andThen_ok]
 rfl
section
variable {w w' w0:World} {B:Nat} {p:CP} {m m0:CM} {s:St} {c g:Nat} {v:Value} {l:L} {a:World}
def SlT (p:CP) (m:CM) (g:Nat) (w:World) (v:Value) (l:L):Prop:=SlN (fun j=>AO p m j∨j=g) w v l
theorem SlT.up (h:SlN (AO p m) w v l) (hg:w.heap.size≤g):SlT p m g w v l:=h.mono (fun j hj x=>by
 rcases x with x | x
 ·exact x
 ·omega)
theorem SlT.below (h:SlT p m g w v l) (hb:Below w.heap.size w w'):SlT p m g w' v l:=SlN.below h hb
theorem SlT.of_made (hk:Cl a B p m s c) (hg:g<a.heap.size) (h:SlN (fun j=>j<a.heap.size) w v l):SlT p m g w v l:=h.mono (fun j _ x=>by
 rcases x with x | x
 ·exact hk.lt x
 ·omega)
theorem SlT.over (h:SlT p m g w v l) (hg:w.grownBy w' (some g)):SlN (AO p m) w' v l:=h.keep (Chg.of_grown (S:=fun j=>j=g) hg rfl) (fun j _ x=>.inr x) (fun _ _ x=>.inl x)
theorem Tu.over (h:Tu w0 w B p m0 m s c) (hg:w0.heap.size≤g) (hn:¬AO p m g) (hx:w.grownBy w' (some g)):Tu w0 w' B p m0 m s c:=h.put hg hn (Chg.of_grown hx rfl)
theorem Tu.made_out (h:Tu w0 w B p m0 m s c) (hs:SlN (fun j=>j<w.heap.size) w' v l):SlN (Out w0 p m) w' v l:=hs.mono (fun j _ x=>by
 have:=h.size;rcases x with x | x
 ·exact Nat.lt_of_lt_of_le x this
 ·exact h.cl.lt x)
theorem JB {A:Option Addr} {cp:Nat} (h:Ca.Own1 w w' A (bvs l)) (hc:l.length≤cp):SlN (fun j=>j<w.heap.size) w' (.slice A l.length cp) l:=
 ⟨A,cp,rfl,hc,by
  rcases h.rd with x | ⟨b,o,e,h1,h2⟩
  ·exact .inl x
  ·exact .inr ⟨b,o,e,h1,fun x=>by have:=h.lo _ e;simp only at *;omega,h2⟩⟩
end
open Nm (krb)
open Ms (tmB pSm mSm mgO Mg As Tg)
open Rg (prV)
section
variable {w w':World} {B:Nat} {p:CP} {m:CM} {s:St} {c:Nat}
abbrev ouA (no:Int) (b:Nat) (u:Int):Array Value:=#[.int .i64 no,pv b,.int .i64 u]
theorem JC (h:Blk w p.k 115 (clA p m s)) (no u sn:Int) (ob:Nat) (ks:Nat→UInt8):Blk ((((w.setCell ⟨p.k,13,none⟩ (.int .i64 no)).setCell ⟨p.k,14,none⟩ (pv ob)).setCell ⟨p.k,15,none⟩ (.int .i64 u)).setCell ⟨p.k,9,none⟩ (.int .i64 sn)) p.k 115 (clA p {m with ov:=pv ob} {s with ou:=⟨no,ks,u⟩,sn:=sn}):=by
 have:=(((h.set 13 (.int .i64 no)).set 14 (pv ob)).set 15 (.int .i64 u)).set 9 (.int .i64 sn)
 simpa only[List.setIfInBounds_toArray,List.set_cons_zero,List.set_cons_succ] using this
theorem JD (w:World) (k:Nat) (a b c d:Value):Chg (fun j=>j=k) w ((((w.setCell ⟨k,13,none⟩ a).setCell ⟨k,14,none⟩ b).setCell ⟨k,15,none⟩ c).setCell ⟨k,9,none⟩ d):=
 ((((Chg.refl (fun j=>j=k) w).set (p:=⟨k,13,none⟩) (.inl rfl) a).set (p:=⟨k,14,none⟩) (.inl rfl) b).set (p:=⟨k,15,none⟩) (.inl rfl) c).set (p:=⟨k,9,none⟩) (.inl rfl) d
theorem GI {m':CM} {s':St} {r:L} {cs:Array Value} {g:Mg} {no u:Int} {ob:Nat} {ks:Nat→UInt8} (h:Cl w B p m s c) (hsn:0≤s.sn∧s.sn≤1000000) (hr:r.length≤140737488351232) (hm:∀w2,Chg (AO p m) w w2→Mc.MgV w2 w2.heap.size cs g) (hs:mSm g) (hz:cs.size=30) (ho:cs.all (·.oneCell')=true)
  (hT:∀w1 w2,Cl w1 B p m s c→Chg (fun j=>j=p.k) w1 w2→Blk w2 p.k 115 (clA p {m with ov:=pv ob} {s with ou:=⟨no,ks,u⟩,sn:=s.sn+1})→Tu w1 w2 B p m m' s' c) :
  Calls Tryz.prog 91 #[pv p.k,.string ⟨r.toArray⟩,.agg cs,.agg (ouA no ob u)] w fun e w'=>∃v,e = .returned (.tuple #[.string ⟨r.toArray⟩,v])∧SlN (Out w p m') w' v (lO (mgO g))∧Tu w w' B p m m' s' c:=by
 obtain⟨W,eW⟩:∃W,W=(w.alloc (.cells cs 76)).alloc (.cells (ouA no ob u) 111):=⟨_,rfl⟩;have hb:Below w.heap.size w W:=eW▸(Af.alloc Ae _).alloc (by simp) _;have HM:=I (show Blk W w.heap.size 76 cs from eW▸(Blk.new w _ _).alloc _);have HO:=I (show Blk W (w.heap.size+1) 111 (ouA no ob u) by have:=Blk.new (w.alloc (.cells cs 76)) 111 (ouA no ob u);simp only[World.size_alloc] at this;exact eW▸this);have HK:=I (Tu.start h hb);have HN:=I (h.fresh Ae);have HI:=I (show(Tryz.prog.info? 76).map (·.size)=some cs.size by rw[hz];exact Mc.Bt);have HNK:=I (show p.k≠w.heap.size from Nat.ne_of_lt h.blk.lt);have HMV:=I hm;have CE:=I (fun(w1:World) (h1:Mc.MgV w1 w1.heap.size cs g)=>Ik cs g w1 h1 hs hz ho);have CC:=I (fun(w1:World)=>Ca.BG r w1 hr);have HT:=I hT;have k9:W.cell? ⟨p.k,9,none⟩=some (.int .i64 s.sn):=HK.o.cl.blk.cell 9;have k13:W.cell? ⟨p.k,13,none⟩=some (.int .i64 s.ou.no):=HK.o.cl.blk.cell 13;have k14:W.cell? ⟨p.k,14,none⟩=some m.ov:=HK.o.cl.blk.cell 14;have k15:W.cell? ⟨p.k,15,none⟩=some (.int .i64 s.ou.u):=HK.o.cl.blk.cell 15;have fz:=HK.o.cl.blk.frozen;have q0:W.cell? ⟨w.heap.size+1,0,none⟩=some (.int .i64 no):=HO.o.cell 0;have q1:W.cell? ⟨w.heap.size+1,1,none⟩=some (pv ob):=HO.o.cell 1;have q2:W.cell? ⟨w.heap.size+1,2,none⟩=some (.int .i64 u):=HO.o.cell 2;have hw1:IntKind.i64.wrap (s.sn+1)=s.sn+1:=by rw[IntKind.wrap_i64];omega
 obtain⟨o,eo⟩:∃o,o=mgO g:=⟨_,rfl⟩;rw[←eo] at CE⊢;clear h hb hm hs hz ho hT eo hsn hr;go_enter Tryz.func91,Tryz.ntmps91
 go_upto_region 1 with fail
 rw[←eW];clear eW
 go_upto_region 3 with fail
 obtain⟨V,eV⟩:∃z,z=((((W.setCell ⟨p.k,13,none⟩ (.int .i64 no)).setCell ⟨p.k,14,none⟩ (pv ob)).setCell ⟨p.k,15,none⟩ (.int .i64 u)).setCell ⟨p.k,9,none⟩ (.int .i64 (s.sn+1))):=⟨_,rfl⟩;have hcv:Chg (fun j=>j=p.k) W V:=eV▸JD W p.k _ _ _ _;have htu:=HT.o W V HK.o.cl hcv (eV▸JC HK.o.cl.blk no u (s.sn+1) ob ks);have hmv:=HMV.o V (HK.o.chg.trans (hcv.mono (fun j _ x=>⟨0,x⟩)) (fun _ _ x=>x));replace HM:=I (hcv.blk HM.o (fun x=>HNK.o x.symm));replace HK:=I (HK.o.trans htu);rw[←eV];clear eV hcv htu k9 k13 k14 k15 fz q0 q1 q2 hw1 HO HT HMV HN HNK;have HMG:=I hmv;clear hmv;have hdr:Below V.heap.size V V.drew:=below_drewN Af 1;replace HK:=I (HK.o.below hdr);replace HM:=I (HM.o.below hdr);replace HMG:=I (Mc.MgV.more (Mc.MgV.keep HMG.o hdr) hdr.size);clear hdr;refine Reg.Bp (fun w'=>Blk w' w.heap.size 76 cs) 6 rfl (by kernel_rfl) HM.o ?_;refine Reg.tk 0 (v:=?vsd1) rfl HM.o (fun w' hS=>?hsd1) ?rsd1
 case hsd1=>go_simp<;>rfl
 simp only[Act.put,J,U,Aa];refine Reg.tk 2 (v:=.agg cs) rfl HM.o (fun w' hS=>?hsd2) ?rsd2
 case hsd2=>exact Wh.Bq (.tmp 6) rfl rfl hS Tryz.underlying76 (by rfl) HI.o
 simp only[Act.put,J,U,Aa];refine Reg.Au [1] (by kernel_rfl) (by simp) ?_;intro j0 hj0;obtain rfl:j0=1:=by simpa using hj0
 clear hj0
 right
 refine⟨_,_,_,_,_,_,87,#[.string ⟨r.toArray⟩],rfl,by rfl,(by go_simp<;>first | rfl | exact⟨rfl,rfl⟩),?_⟩;refine Calls.mono (CC.o _) ?_;rintro e wsd3 ⟨rfl,hb⟩;replace HK:=I (HK.o.below hb);replace HM:=I (HM.o.below hb);replace HMG:=I (Mc.MgV.more (Mc.MgV.keep HMG.o hb) hb.size);have HKO:=I HK.o;clear hb;clear CC;refine⟨_,rfl,HM.o,?_⟩;simp only[Act.put,J,U,Aa];refine Reg.Au [3] (by kernel_rfl) (by simp) ?_;intro j0 hj0;obtain rfl:j0=3:=by simpa using hj0
 clear hj0
 right
 refine⟨_,_,_,_,_,_,66,#[.agg cs],rfl,by rfl,(by go_simp<;>first | rfl | exact⟨rfl,rfl⟩),?_⟩;refine Calls.mono (CE.o _ HMG.o) ?_;rintro e wsd4 ⟨v,rfl,hs,hb⟩;replace HK:=I (HK.o.below hb);replace HM:=I (HM.o.below hb);replace HMG:=I (Mc.MgV.more (Mc.MgV.keep HMG.o hb) hb.size);have HSV:=I (HKO.o.made_out hs);clear hs HKO;clear hb;clear CE;refine⟨_,rfl,HM.o,?_⟩;simp only[Act.put,J,U,Aa];refine Reg.tk 4 (v:=?vsd5) rfl HM.o (fun w' hS=>?hsd5) ?rsd5
 case hsd5=>go_simp<;>rfl
 simp only[Act.put,J,U,Aa];refine Reg.tk 5 (v:=?vsd6) rfl HM.o (fun w' hS=>?hsd6) ?rsd6
 case hsd6=>go_simp<;>rfl
 simp only[Act.put,J,U,Aa];refine wpAnyH_done (by kernel_rfl) ?_ _
 go_wp2
 go_ret2
 exact⟨v,rfl,HSV.o,HK.o⟩
end
open Ca (Cr It crA)
def Okx (x:Cr):Prop:=pSm x.s∧x.b.length≤100000
structure Sz (p:CP) (s:St) (c:Nat):Prop where
 nn:s.n≤c
 ss:s.s≤c
 qq:s.q≤c
 sn:0≤s.sn∧s.sn≤(c:Int)
 vs:s.vs.length≤c∧∀v∈s.vs,v.length≤1000000
 tg:pSm s.tg
 l:s.l.length≤10
 x:∀i∈s.l,Okx i.2
 pp:pSm p.P∧p.P.1.length≤1000000
section
variable {w w' w0:World} {B:Nat} {p:CP} {m m' m0:CM} {s:St} {c:Nat} {r:L}
end
open Ca (getX getO)
section
variable {w w' w0:World} {B:Nat} {p:CP} {m m' m0:CM} {s:St} {c:Nat} {r:L}
theorem JE (hz:Sz p s c):Ca.Fits s.l:=fun i hi=>by
 have h:=hz.x i hi;exact⟨Nat.le_trans h.1.1 (by decide),Nat.le_trans h.1.2 (by decide),Nat.le_trans h.2 (by decide)⟩
theorem get_c (h:Cl w B p m s c) (hz:Sz p s c) (q:Pr) (t:Int) {o:Option It} (ho:getO s.l q t=o):Calls Tryz.prog 41 #[pv p.r,prV q,.int .i64 t] w fun e w'=>∃A cp,e = .returned (.tuple #[.agg (crA (getX o) A cp),.bool o.isSome])∧SlN (fun j=>j<w.heap.size) w' (.slice A (getX o).b.length cp) (getX o).b∧Below w.heap.size w w':=by
 refine(Ca.Jn B p.r m.v m.es q t w h.ca (by rw[h.li];exact JE hz) (by have:=congrArg List.length h.li;rw[Ca.CJ] at this;have:=hz.l;omega)).mono ?_;rintro e w' ⟨A,cp,rfl,h1,h2,h3⟩;rw[h.li,ho] at h1 h3⊢;exact⟨A,cp,rfl,JB h1 h3,h2⟩
theorem Cl.out_b (h:Cl w B p m s c) {ou:Ou} (hk:ou.ks=p.ks) {sn:Int} (hc:Chg (fun j=>j=p.k) w w') (hb:Blk w' p.k 115 (clA p {m with ov:=pv p.b} {s with ou:=ou,sn:=sn})):Tu w w' B p m {m with ov:=pv p.b} {s with ou:=ou,sn:=sn} c:=
 h.cell (m':={m with ov:=pv p.b}) hc hb rfl rfl (.inr (.inl ⟨rfl,hk⟩))
abbrev asA (q:As):Array Value:=#[.string ⟨q.c.1.toArray⟩,.string ⟨q.c.2.toArray⟩,.string ⟨q.s.1.toArray⟩,.string ⟨q.s.2.toArray⟩,.int .i64 q.t,.int .i64 q.no]
theorem as_mg (w:World) (q:As):Mc.MgV w w.heap.size (Mc.mgA 1 (asA q) Mc.zT Mc.zR Mc.zP Mc.zF) (mAs q):=⟨_,_,_,_,_,rfl,⟨rfl,Mc.zT_v _ _,Mc.zR_v _ _,Mc.zP_v _ _,Mc.zF_v⟩⟩
theorem GJ (q:As):Tryz.prog.built 76 [(0,.int .i64 1),(1,.agg (asA q))]=some (Mc.mgA 1 (asA q) Mc.zT Mc.zR Mc.zP Mc.zF):=Mc.Ij rfl
theorem GK (q:As):Tryz.prog.built 66 [(0,.agg #[.string ⟨q.c.1.toArray⟩,.string ⟨q.c.2.toArray⟩]),(1,.agg #[.string ⟨q.s.1.toArray⟩,.string ⟨q.s.2.toArray⟩]),(2,.int .i64 q.t),(3,.int .i64 q.no)]=some (asA q):=by kernel_rfl
theorem JF:(Tryz.prog.info? 111).map (·.size)=some 3:=by kernel_rfl
theorem Kt (h:pSm p.P∧p.P.1.length≤1000000):pSm (own p.P):=by
 refine⟨h.1.1,?_⟩;show(krb++p.P.1).length≤1000000000;have h7:krb.length=7:=by decide
 have h2:=h.2;rw[List.length_append];omega
theorem Ff {now:Int} {o:Option It} (h:Cl w B p m s c) (hc:c≤800000) (hz:Sz p s c) (ht:tmB now=true) (ho:getO s.l (own p.P) now=o) (hi:o=none) :
  Calls Tryz.prog 46 #[pv p.k,.int .i64 now] w fun e w'=>∃v m',e = .returned (.tuple #[.string ⟨p.P.1.toArray⟩,v])∧SlN (Out w p m') w' v (lO (mgO (mAs (firQ p.P s now))))∧Tu w w' B p m m' (firS p.ks s) c:=by
 have C1:=I (fun(w1:World) (h1:Cl w1 B p m s c)=>own_k h1 hz.pp.2);have C2:=I (fun(w1:World) (h1:Cl w1 B p m s c)=>get_c h1 hz (own p.P) now ho);have E1:=I (show(own p.P).1=p.P.1 from rfl);have HK:=I (Tu.refl h);have HI:=I hi;have C4:=I (fun(w1:World)=>GG now w1 ht);have C5:=I (fun(w1:World) (h1:Cl w1 B p m s c)=>Kr h1 (by have:=hz.nn;omega));have hqs:mSm (mAs (firQ p.P s now)):=⟨⟨hz.pp.1,Kt hz.pp⟩,⟨Mc.Eh,Mc.Eh⟩,⟨Mc.Eh,Mc.Eh⟩,Mc.Eh⟩;have C6:=I (fun(w1:World) (h1:Cl w1 B p m {s with n:=s.n+1} c)=>
  GI (r:=p.P.1) (cs:=Mc.mgA 1 (asA (firQ p.P s now)) Mc.zT Mc.zR Mc.zP Mc.zF) (g:=mAs (firQ p.P s now)) (no:=((s.n+1:Nat):Int)) (u:=3) (ob:=p.b) (ks:=p.ks) (m':={m with ov:=pv p.b}) (s':=firS p.ks s) h1 ⟨hz.sn.1,by have:=hz.sn.2;show s.sn≤1000000;omega⟩ (Nat.le_trans hz.pp.2 (by decide)) (fun w2 _=>as_mg w2 _) hqs (by rfl) (Mc.MgP.one (m:=mAs (firQ p.P s now)) (w:=w1) (B:=w1.heap.size) ⟨rfl,Mc.zT_v _ _,Mc.zR_v _ _,Mc.zP_v _ _,Mc.zF_v⟩ 1)
   (fun wa wb hcl hcg hbk=>hcl.out_b (ou:=⟨((s.n+1:Nat):Int),p.ks,3⟩) rfl hcg hbk))
 have EN:=I (show(firQ p.P s now).no=((s.n+1:Nat):Int) by simp only[firQ]);have HBQ:=I (show Tryz.prog.built 66 [(0,.agg #[.string ⟨p.P.1.toArray⟩,.string ⟨p.P.2.toArray⟩]),(1,.agg #[.string ⟨(own p.P).1.toArray⟩,.string ⟨(own p.P).2.toArray⟩]),(2,.int .i64 (Ex now)),(3,.int .i64 ((s.n+1:Nat):Int))]=some (asA (firQ p.P s now)) from GK (firQ p.P s now));obtain⟨Q,eQ⟩:∃z,z=firQ p.P s now:=⟨_,rfl⟩;rw[←eQ] at C6 EN HBQ⊢;clear eQ;obtain⟨T,eT⟩:∃z,z=Ex now:=⟨_,rfl⟩;rw[←eT] at C4 HBQ;obtain⟨NN,eNN⟩:∃z:Int,z=((s.n+1:Nat):Int):=⟨_,rfl⟩;rw[←eNN] at EN HBQ C5 C6;have E9:=I (show firS p.ks s = {s with n:=s.n+1,ou:=⟨NN,p.ks,3⟩,sn:=s.sn+1} by rw[eNN];rfl);obtain⟨q,eq⟩:∃z,z=own p.P:=⟨_,rfl⟩;rw[←eq] at C1 C2 E1 HBQ;have CZ:=I (fun(A:Option Addr) (cp:Nat)=>(show(crA (getX o) A cp).size=37∧(Tryz.prog.info? 44).map (·.size)=some (crA (getX o) A cp).size∧(crA (getX o) A cp).all (·.oneCell')=true from⟨Ca.Ag _ _ _,by rw[Ca.Ag];exact Ca.AJ,Ca.AX _ _ _⟩));clear h hc hz ht ho hi eq hqs eT eNN;go_enter Tryz.func46,Tryz.ntmps46
 go_upto_region 2 with(first
  |(go_at_call 88;refine Calls.mono (C1.o _ HK.o.cl) ?_;rintro e w1 ⟨rfl,hb⟩;clear C1;replace HK:=I (HK.o.below hb);clear hb)
  |fail)
 obtain⟨W2,eW2⟩:∃z,z=w1.alloc (.cells #[.string ⟨q.1.toArray⟩,.string ⟨q.2.toArray⟩] 40):=⟨_,rfl⟩;have hb:Below w1.heap.size w1 W2:=eW2▸Af.alloc Ae _;have HQ:=I (show Blk W2 w1.heap.size 40 #[.string ⟨q.1.toArray⟩,.string ⟨q.2.toArray⟩] from eW2▸Blk.new w1 _ _);have NQ:=I (HK.o.cl.fresh (Nat.le_refl w1.heap.size));replace HK:=I (HK.o.below hb);rw[←eW2];clear eW2 hb;obtain⟨gq,egq⟩:∃z,z=w1.heap.size:=⟨_,rfl⟩;rw[←egq] at HQ NQ⊢;clear egq
 go_cut [7,8] from 13 to 22 (fun xv ov wx=>∃(PC:Nat) (A:Option Addr) (cp:Nat),xv = .pointer (some ⟨PC,0,none⟩)∧ov = .bool o.isSome∧Blk wx PC 44 (crA (getX o) A cp)∧SlN (AO p m) wx (.slice A (getX o).b.length cp) (getX o).b∧Blk wx gq 40 #[.string ⟨q.1.toArray⟩,.string ⟨q.2.toArray⟩]∧¬AO p m gq∧¬AO p m PC∧Tu w wx B p m m s c)
 case first=>
  have hdr:Below W2.heap.size W2 W2.drew:=below_drewN Af 1;replace HK:=I (HK.o.below hdr);replace HQ:=I (HQ.o.below hdr);clear hdr;refine Reg.Bp (fun w'=>Blk w' gq 40 #[.string ⟨q.1.toArray⟩,.string ⟨q.2.toArray⟩]∧w'.cell? ⟨p.k,3,none⟩=some (pv p.r)) 13 rfl (by kernel_rfl) ⟨HQ.o,(HK.o).cl.blk.cell 3⟩ ?_;refine Reg.tk 0 (v:=?vgt53) rfl ⟨HQ.o,(HK.o).cl.blk.cell 3⟩ (fun w' hS=>?hgt53) ?rgt53
  case hgt53=>go_simp<;>rfl
  simp only[Act.put,J,U,Aa];refine Reg.tk 1 (v:=?vgt54) rfl ⟨HQ.o,(HK.o).cl.blk.cell 3⟩ (fun w' hS=>?hgt54) ?rgt54
  case hgt54=>go_simp<;>rfl
  simp only[Act.put,J,U,Aa];refine Reg.tk 2 (v:=?vgt55) rfl ⟨HQ.o,(HK.o).cl.blk.cell 3⟩ (fun w' hS=>?hgt55) ?rgt55
  case hgt55=>go_simp<;>rfl
  simp only[Act.put,J,U,Aa];refine Reg.tk 3 (v:=?vgt56) rfl ⟨HQ.o,(HK.o).cl.blk.cell 3⟩ (fun w' hS=>?hgt56) ?rgt56
  case hgt56=>obtain⟨hQ,k3⟩:=hS;go_simp<;>rfl
  simp only[Act.put,J,U,Aa];refine Reg.tk 4 (v:=?vgt57) rfl ⟨HQ.o,(HK.o).cl.blk.cell 3⟩ (fun w' hS=>?hgt57) ?rgt57
  case hgt57=>obtain⟨hQ,k3⟩:=hS;have q0:=hQ.cell 0;have q1:=hQ.cell 1;go_simp<;>rfl
  simp only[Act.put,J,U,Aa];refine Reg.tk 5 (v:=?vgt58) rfl ⟨HQ.o,(HK.o).cl.blk.cell 3⟩ (fun w' hS=>?hgt58) ?rgt58
  case hgt58=>go_simp<;>rfl
  simp only[Act.put,J,U,Aa];refine Reg.Au [6,10] (by kernel_rfl) (by simp) ?_;intro j0 hj0;have hj0:j0=6∨j0=10:=by simpa using hj0
  rcases hj0 with rfl | rfl
  ·right
   refine⟨_,_,_,_,_,_,41,#[pv p.r,prV q,.int .i64 now],rfl,by rfl,(by go_simp<;>first | rfl | exact⟨rfl,rfl⟩),?_⟩;refine Calls.mono (C2.o _ HK.o.cl) ?_;rintro e wgt59 ⟨A,cp,rfl,hs,hb⟩;have SC:=I (HK.o.made hs);replace HK:=I (HK.o.below hb);replace HQ:=I (HQ.o.below hb);have HZ:=I (CZ.o A cp);clear hb;clear C2 hs;refine⟨_,rfl,⟨HQ.o,(HK.o).cl.blk.cell 3⟩,?_⟩;simp only[Act.put,J,U,Aa];refine Reg.tk 7 (v:=?vgt60) rfl ⟨HQ.o,(HK.o).cl.blk.cell 3⟩ (fun w' hS=>?hgt60) ?rgt60
   case hgt60=>go_simp<;>rfl
   simp only[Act.put,J,U,Aa];refine Reg.tk 8 (v:=?vgt61) rfl ⟨HQ.o,(HK.o).cl.blk.cell 3⟩ (fun w' hS=>?hgt61) ?rgt61
   case hgt61=>go_simp<;>rfl
   simp only[Act.put,J,U,Aa];refine Reg.tk 9 (v:=?vgt62) rfl ⟨HQ.o,(HK.o).cl.blk.cell 3⟩ (fun w' hS=>?hgt62) ?rgt62
   case hgt62=>go_simp<;>rfl
   simp only[Act.put,J,U,Aa];refine Reg.Au [10] (by kernel_rfl) (by simp) ?_;intro j0 hj0;obtain rfl:j0=10:=by simpa using hj0
   clear hj0
   left
   have hb:Below wgt59.heap.size wgt59 (wgt59.alloc (.cells #[.string ⟨#[]⟩,.string ⟨#[]⟩,.int .i64 0,.slice none 0 0,.int .u8 0,.int .u8 0,.int .u8 0,.int .u8 0,.int .u8 0,.int .u8 0,.int .u8 0,.int .u8 0,.int .u8 0,.int .u8 0,.int .u8 0,.int .u8 0,.int .u8 0,.int .u8 0,.int .u8 0,.int .u8 0,.int .u8 0,.int .u8 0,.int .u8 0,.int .u8 0,.int .u8 0,.int .u8 0,.int .u8 0,.int .u8 0,.int .u8 0,.int .u8 0,.int .u8 0,.int .u8 0,.int .u8 0,.int .u8 0,.int .u8 0,.int .u8 0,.int .i64 0] 44)):=Af.alloc Ae _;have hnb:=Blk.new wgt59 44 #[.string ⟨#[]⟩,.string ⟨#[]⟩,.int .i64 0,.slice none 0 0,.int .u8 0,.int .u8 0,.int .u8 0,.int .u8 0,.int .u8 0,.int .u8 0,.int .u8 0,.int .u8 0,.int .u8 0,.int .u8 0,.int .u8 0,.int .u8 0,.int .u8 0,.int .u8 0,.int .u8 0,.int .u8 0,.int .u8 0,.int .u8 0,.int .u8 0,.int .u8 0,.int .u8 0,.int .u8 0,.int .u8 0,.int .u8 0,.int .u8 0,.int .u8 0,.int .u8 0,.int .u8 0,.int .u8 0,.int .u8 0,.int .u8 0,.int .u8 0,.int .i64 0];have LT:=I HK.o.size;have NT:=I (HK.o.cl.fresh (Nat.le_refl wgt59.heap.size));have NEHQ:=I (Nat.ne_of_lt HQ.o.lt);replace SC:=I (SlT.up SC.o (Nat.le_refl wgt59.heap.size));refine⟨_,_,_,_,_,_,.pointer (some ⟨wgt59.heap.size,0,none⟩),wgt59.alloc (.cells #[.string ⟨#[]⟩,.string ⟨#[]⟩,.int .i64 0,.slice none 0 0,.int .u8 0,.int .u8 0,.int .u8 0,.int .u8 0,.int .u8 0,.int .u8 0,.int .u8 0,.int .u8 0,.int .u8 0,.int .u8 0,.int .u8 0,.int .u8 0,.int .u8 0,.int .u8 0,.int .u8 0,.int .u8 0,.int .u8 0,.int .u8 0,.int .u8 0,.int .u8 0,.int .u8 0,.int .u8 0,.int .u8 0,.int .u8 0,.int .u8 0,.int .u8 0,.int .u8 0,.int .u8 0,.int .u8 0,.int .u8 0,.int .u8 0,.int .u8 0,.int .i64 0] 44),rfl,by rfl,(by go_simp<;>rfl),⟨(HQ.o.below hb),((HK.o.below hb)).cl.blk.cell 3⟩,?_⟩;simp only[Act.put,J,U,Aa];obtain⟨wtgt63,ewtgt63⟩:∃z,z=wgt59.alloc (.cells #[.string ⟨#[]⟩,.string ⟨#[]⟩,.int .i64 0,.slice none 0 0,.int .u8 0,.int .u8 0,.int .u8 0,.int .u8 0,.int .u8 0,.int .u8 0,.int .u8 0,.int .u8 0,.int .u8 0,.int .u8 0,.int .u8 0,.int .u8 0,.int .u8 0,.int .u8 0,.int .u8 0,.int .u8 0,.int .u8 0,.int .u8 0,.int .u8 0,.int .u8 0,.int .u8 0,.int .u8 0,.int .u8 0,.int .u8 0,.int .u8 0,.int .u8 0,.int .u8 0,.int .u8 0,.int .u8 0,.int .u8 0,.int .u8 0,.int .u8 0,.int .i64 0] 44):=⟨_,rfl⟩;rw[←ewtgt63] at hb hnb⊢;clear ewtgt63;replace HK:=I (HK.o.below hb);replace HQ:=I (HQ.o.below hb);replace SC:=I (SC.o.below hb);have HT:=I hnb;clear hnb hb;obtain⟨PT,ePT⟩:∃z,z=wgt59.heap.size:=⟨_,rfl⟩;rw[←ePT] at HT LT NT NEHQ SC⊢;clear ePT;refine Reg.Ay 11 rfl (by kernel_rfl) (by rfl) PT 44 _ (crA (getX o) A cp) HT.o (by rfl) (by rfl) (by rw[HZ.o.1];rfl) HZ.o.2.1 HZ.o.2.2 ?_;intro Vgt64 hV hg;replace HT:=I hV;replace HK:=I (HK.o.over LT.o NT.o hg);replace HQ:=I (HQ.o.grown hg (fun e=>by injection e with e;exact NEHQ.o e.symm));replace SC:=I (SlT.over SC.o hg);clear hV hg NEHQ;refine⟨⟨HQ.o,(HK.o).cl.blk.cell 3⟩,?_⟩;simp only[Act.put,J,U,Aa];refine Reg.tk 12 (v:=?vgt65) rfl ⟨HQ.o,(HK.o).cl.blk.cell 3⟩ (fun w' hS=>?hgt65) ?rgt65
   case hgt65=>go_simp<;>rfl
   simp only[Act.put,J,U,Aa];refine wpAnyH_done (by kernel_rfl) ?_ _
   go_wp2_with fail
   go_meet
   exact⟨PT,A,cp,rfl,rfl,HT.o,SC.o,HQ.o,NQ.o,NT.o,HK.o⟩
  ·left
   have hb:Below W2.drew.heap.size W2.drew (W2.drew.alloc (.cells #[.string ⟨#[]⟩,.string ⟨#[]⟩,.int .i64 0,.slice none 0 0,.int .u8 0,.int .u8 0,.int .u8 0,.int .u8 0,.int .u8 0,.int .u8 0,.int .u8 0,.int .u8 0,.int .u8 0,.int .u8 0,.int .u8 0,.int .u8 0,.int .u8 0,.int .u8 0,.int .u8 0,.int .u8 0,.int .u8 0,.int .u8 0,.int .u8 0,.int .u8 0,.int .u8 0,.int .u8 0,.int .u8 0,.int .u8 0,.int .u8 0,.int .u8 0,.int .u8 0,.int .u8 0,.int .u8 0,.int .u8 0,.int .u8 0,.int .u8 0,.int .i64 0] 44)):=Af.alloc Ae _;have hnb:=Blk.new W2.drew 44 #[.string ⟨#[]⟩,.string ⟨#[]⟩,.int .i64 0,.slice none 0 0,.int .u8 0,.int .u8 0,.int .u8 0,.int .u8 0,.int .u8 0,.int .u8 0,.int .u8 0,.int .u8 0,.int .u8 0,.int .u8 0,.int .u8 0,.int .u8 0,.int .u8 0,.int .u8 0,.int .u8 0,.int .u8 0,.int .u8 0,.int .u8 0,.int .u8 0,.int .u8 0,.int .u8 0,.int .u8 0,.int .u8 0,.int .u8 0,.int .u8 0,.int .u8 0,.int .u8 0,.int .u8 0,.int .u8 0,.int .u8 0,.int .u8 0,.int .u8 0,.int .i64 0];have LT:=I HK.o.size;have NT:=I (HK.o.cl.fresh (Nat.le_refl W2.drew.heap.size));have NEHQ:=I (Nat.ne_of_lt HQ.o.lt);refine⟨_,_,_,_,_,_,.pointer (some ⟨W2.drew.heap.size,0,none⟩),W2.drew.alloc (.cells #[.string ⟨#[]⟩,.string ⟨#[]⟩,.int .i64 0,.slice none 0 0,.int .u8 0,.int .u8 0,.int .u8 0,.int .u8 0,.int .u8 0,.int .u8 0,.int .u8 0,.int .u8 0,.int .u8 0,.int .u8 0,.int .u8 0,.int .u8 0,.int .u8 0,.int .u8 0,.int .u8 0,.int .u8 0,.int .u8 0,.int .u8 0,.int .u8 0,.int .u8 0,.int .u8 0,.int .u8 0,.int .u8 0,.int .u8 0,.int .u8 0,.int .u8 0,.int .u8 0,.int .u8 0,.int .u8 0,.int .u8 0,.int .u8 0,.int .u8 0,.int .i64 0] 44),rfl,by rfl,(by go_simp<;>rfl),⟨(HQ.o.below hb),((HK.o.below hb)).cl.blk.cell 3⟩,?_⟩;simp only[Act.put,J,U,Aa];obtain⟨wtgt66,ewtgt66⟩:∃z,z=W2.drew.alloc (.cells #[.string ⟨#[]⟩,.string ⟨#[]⟩,.int .i64 0,.slice none 0 0,.int .u8 0,.int .u8 0,.int .u8 0,.int .u8 0,.int .u8 0,.int .u8 0,.int .u8 0,.int .u8 0,.int .u8 0,.int .u8 0,.int .u8 0,.int .u8 0,.int .u8 0,.int .u8 0,.int .u8 0,.int .u8 0,.int .u8 0,.int .u8 0,.int .u8 0,.int .u8 0,.int .u8 0,.int .u8 0,.int .u8 0,.int .u8 0,.int .u8 0,.int .u8 0,.int .u8 0,.int .u8 0,.int .u8 0,.int .u8 0,.int .u8 0,.int .u8 0,.int .i64 0] 44):=⟨_,rfl⟩;rw[←ewtgt66] at hb hnb⊢;clear ewtgt66;replace HK:=I (HK.o.below hb);replace HQ:=I (HQ.o.below hb);have HT:=I hnb;clear hnb hb;obtain⟨PT,ePT⟩:∃z,z=W2.drew.heap.size:=⟨_,rfl⟩;rw[←ePT] at HT LT NT NEHQ⊢;clear ePT;refine Reg.Au [6] (by kernel_rfl) (by simp) ?_;intro j0 hj0;obtain rfl:j0=6:=by simpa using hj0
   clear hj0
   right
   refine⟨_,_,_,_,_,_,41,#[pv p.r,prV q,.int .i64 now],rfl,by rfl,(by go_simp<;>first | rfl | exact⟨rfl,rfl⟩),?_⟩;refine Calls.mono (C2.o _ HK.o.cl) ?_;rintro e wgt67 ⟨A,cp,rfl,hs,hb⟩;have SC:=I (SlT.of_made HK.o.cl HT.o.lt hs);replace HK:=I (HK.o.below hb);replace HQ:=I (HQ.o.below hb);replace HT:=I (HT.o.below hb);have HZ:=I (CZ.o A cp);clear hb;clear C2 hs;refine⟨_,rfl,⟨HQ.o,(HK.o).cl.blk.cell 3⟩,?_⟩;simp only[Act.put,J,U,Aa];refine Reg.tk 7 (v:=?vgt68) rfl ⟨HQ.o,(HK.o).cl.blk.cell 3⟩ (fun w' hS=>?hgt68) ?rgt68
   case hgt68=>go_simp<;>rfl
   simp only[Act.put,J,U,Aa];refine Reg.tk 8 (v:=?vgt69) rfl ⟨HQ.o,(HK.o).cl.blk.cell 3⟩ (fun w' hS=>?hgt69) ?rgt69
   case hgt69=>go_simp<;>rfl
   simp only[Act.put,J,U,Aa];refine Reg.tk 9 (v:=?vgt70) rfl ⟨HQ.o,(HK.o).cl.blk.cell 3⟩ (fun w' hS=>?hgt70) ?rgt70
   case hgt70=>go_simp<;>rfl
   simp only[Act.put,J,U,Aa];refine Reg.Ay 11 rfl (by kernel_rfl) (by rfl) PT 44 _ (crA (getX o) A cp) HT.o (by rfl) (by rfl) (by rw[HZ.o.1];rfl) HZ.o.2.1 HZ.o.2.2 ?_;intro Vgt71 hV hg;replace HT:=I hV;replace HK:=I (HK.o.over LT.o NT.o hg);replace HQ:=I (HQ.o.grown hg (fun e=>by injection e with e;exact NEHQ.o e.symm));replace SC:=I (SlT.over SC.o hg);clear hV hg NEHQ;refine⟨⟨HQ.o,(HK.o).cl.blk.cell 3⟩,?_⟩;simp only[Act.put,J,U,Aa];refine Reg.tk 12 (v:=?vgt72) rfl ⟨HQ.o,(HK.o).cl.blk.cell 3⟩ (fun w' hS=>?hgt72) ?rgt72
   case hgt72=>go_simp<;>rfl
   simp only[Act.put,J,U,Aa];refine wpAnyH_done (by kernel_rfl) ?_ _
   go_wp2_with fail
   go_meet
   exact⟨PT,A,cp,rfl,rfl,HT.o,SC.o,HQ.o,NQ.o,NT.o,HK.o⟩
 case rest=>
  obtain⟨PC,A,cp,rfl,rfl,hpc,hsc,hq,nq,npc,hk⟩:=hcut;replace HQ:=I hq;replace NQ:=I nq;replace HK:=I hk;have HC:=I hpc;have SC:=I hsc;have NC:=I npc;clear hq nq hk hpc hsc npc C2;have hi:=HI.o;subst hi;clear HI;clear CZ HC SC NC
  go_upto_region 5 with fail
  go_cut [9] from 32 to 43 (fun tv wx=>∃(PT:Nat),tv = .pointer (some ⟨PT,0,none⟩)∧Blk wx PT 66 (asA Q)∧¬AO p m PT∧Blk wx gq 40 #[.string ⟨q.1.toArray⟩,.string ⟨q.2.toArray⟩]∧¬AO p m gq∧Tu w wx B p m m {s with n:=s.n+1} c)
  case first=>
   have hdr:Below wc.heap.size wc wc.drew:=below_drewN Af 1;replace HK:=I (HK.o.below hdr);replace HQ:=I (HQ.o.below hdr);clear hdr;refine Reg.Bp (fun w'=>Blk w' gq 40 #[.string ⟨q.1.toArray⟩,.string ⟨q.2.toArray⟩]∧w'.cell? ⟨p.k,0,none⟩=some (.string ⟨p.P.1.toArray⟩)∧w'.cell? ⟨p.k,1,none⟩=some (.string ⟨p.P.2.toArray⟩)) 14 rfl (by kernel_rfl) ⟨HQ.o,(HK.o).cl.blk.cell 0,(HK.o).cl.blk.cell 1⟩ ?_;refine Reg.tk 0 (v:=?vfa21) rfl ⟨HQ.o,(HK.o).cl.blk.cell 0,(HK.o).cl.blk.cell 1⟩ (fun w' hS=>?hfa21) ?rfa21
   case hfa21=>go_simp<;>rfl
   simp only[Act.put,J,U,Aa];refine Reg.tk 1 (v:=?vfa22) rfl ⟨HQ.o,(HK.o).cl.blk.cell 0,(HK.o).cl.blk.cell 1⟩ (fun w' hS=>?hfa22) ?rfa22
   case hfa22=>go_simp<;>rfl
   simp only[Act.put,J,U,Aa];refine Reg.tk 2 (v:=?vfa23) rfl ⟨HQ.o,(HK.o).cl.blk.cell 0,(HK.o).cl.blk.cell 1⟩ (fun w' hS=>?hfa23) ?rfa23
   case hfa23=>go_simp<;>rfl
   simp only[Act.put,J,U,Aa];refine Reg.tk 3 (v:=.agg #[.string ⟨p.P.1.toArray⟩,.string ⟨p.P.2.toArray⟩]) rfl ⟨HQ.o,(HK.o).cl.blk.cell 0,(HK.o).cl.blk.cell 1⟩ (fun w' hS=>?hfa24) ?rfa24
   case hfa24=>obtain⟨hQ,k0,k1⟩:=hS;go_simp<;>rfl
   simp only[Act.put,J,U,Aa];refine Reg.tk 4 (v:=?vfa25) rfl ⟨HQ.o,(HK.o).cl.blk.cell 0,(HK.o).cl.blk.cell 1⟩ (fun w' hS=>?hfa25) ?rfa25
   case hfa25=>obtain⟨hQ,k0,k1⟩:=hS;have q0:=hQ.cell 0;have q1:=hQ.cell 1;go_simp<;>rfl
   simp only[Act.put,J,U,Aa];refine Reg.tk 5 (v:=?vfa26) rfl ⟨HQ.o,(HK.o).cl.blk.cell 0,(HK.o).cl.blk.cell 1⟩ (fun w' hS=>?hfa26) ?rfa26
   case hfa26=>go_simp<;>rfl
   simp only[Act.put,J,U,Aa];refine Reg.tk 7 (v:=?vfa27) rfl ⟨HQ.o,(HK.o).cl.blk.cell 0,(HK.o).cl.blk.cell 1⟩ (fun w' hS=>?hfa27) ?rfa27
   case hfa27=>go_simp<;>rfl
   simp only[Act.put,J,U,Aa];refine Reg.tk 8 (v:=?vfa28) rfl ⟨HQ.o,(HK.o).cl.blk.cell 0,(HK.o).cl.blk.cell 1⟩ (fun w' hS=>?hfa28) ?rfa28
   case hfa28=>go_simp<;>rfl
   simp only[Act.put,J,U,Aa];refine Reg.tk 9 (v:=?vfa29) rfl ⟨HQ.o,(HK.o).cl.blk.cell 0,(HK.o).cl.blk.cell 1⟩ (fun w' hS=>?hfa29) ?rfa29
   case hfa29=>go_simp<;>rfl
   simp only[Act.put,J,U,Aa];refine Reg.Au [6,12] (by kernel_rfl) (by simp) ?_;intro j0 hj0;have hj0:j0=6∨j0=12:=by simpa using hj0
   rcases hj0 with rfl | rfl
   ·right
    refine⟨_,_,_,_,_,_,90,#[.int .i64 now],rfl,by rfl,(by go_simp<;>first | rfl | exact⟨rfl,rfl⟩),?_⟩;refine Calls.mono (C4.o _) ?_;rintro e wfa30 ⟨rfl,hw⟩;subst hw;clear C4;refine⟨_,rfl,⟨HQ.o,(HK.o).cl.blk.cell 0,(HK.o).cl.blk.cell 1⟩,?_⟩;simp only[Act.put,J,U,Aa];refine Reg.Au [10,12] (by kernel_rfl) (by simp) ?_;intro j0 hj0;have hj0:j0=10∨j0=12:=by simpa using hj0
    rcases hj0 with rfl | rfl
    ·right
     refine⟨_,_,_,_,_,_,63,#[.pointer (some ⟨p.k,4,none⟩)],rfl,by rfl,(by go_simp<;>first | rfl | exact⟨rfl,rfl⟩),?_⟩;refine Calls.mono (C5.o _ HK.o.cl) ?_;rintro e wfa31 ⟨rfl,hk⟩;have hnb:=hk.blk HQ.o NQ.o;replace NQ:=I (hk.not NQ.o HQ.o.lt);replace HQ:=I hnb;clear hnb;replace HK:=I (HK.o.trans hk);clear hk;clear C5;refine⟨_,rfl,⟨HQ.o,(HK.o).cl.blk.cell 0,(HK.o).cl.blk.cell 1⟩,?_⟩;simp only[Act.put,J,U,Aa];refine Reg.tk 11 (v:=.agg (asA Q)) rfl ⟨HQ.o,(HK.o).cl.blk.cell 0,(HK.o).cl.blk.cell 1⟩ (fun w' hS=>?hfa32) ?rfa32
     case hfa32=>obtain⟨hQ,k0,k1⟩:=hS;refine Cc (t:=66) (by rfl) (by simp only[List.map_toArray,List.map_cons,List.map_nil];exact HBQ.o)
     simp only[Act.put,J,U,Aa];refine Reg.Au [12] (by kernel_rfl) (by simp) ?_;intro j0 hj0;obtain rfl:j0=12:=by simpa using hj0
     clear hj0
     left
     have hb:Below wfa31.heap.size wfa31 (wfa31.alloc (.cells #[.string ⟨#[]⟩,.string ⟨#[]⟩,.string ⟨#[]⟩,.string ⟨#[]⟩,.int .i64 0,.int .i64 0] 66)):=Af.alloc Ae _;have hnb:=Blk.new wfa31 66 #[.string ⟨#[]⟩,.string ⟨#[]⟩,.string ⟨#[]⟩,.string ⟨#[]⟩,.int .i64 0,.int .i64 0];have LT:=I HK.o.size;have NT:=I (HK.o.cl.fresh (Nat.le_refl wfa31.heap.size));have NEHQ:=I (Nat.ne_of_lt HQ.o.lt);refine⟨_,_,_,_,_,_,.pointer (some ⟨wfa31.heap.size,0,none⟩),wfa31.alloc (.cells #[.string ⟨#[]⟩,.string ⟨#[]⟩,.string ⟨#[]⟩,.string ⟨#[]⟩,.int .i64 0,.int .i64 0] 66),rfl,by rfl,(by go_simp<;>rfl),⟨(HQ.o.below hb),((HK.o.below hb)).cl.blk.cell 0,((HK.o.below hb)).cl.blk.cell 1⟩,?_⟩;simp only[Act.put,J,U,Aa];obtain⟨wtfa33,ewtfa33⟩:∃z,z=wfa31.alloc (.cells #[.string ⟨#[]⟩,.string ⟨#[]⟩,.string ⟨#[]⟩,.string ⟨#[]⟩,.int .i64 0,.int .i64 0] 66):=⟨_,rfl⟩;rw[←ewtfa33] at hb hnb⊢;clear ewtfa33;replace HK:=I (HK.o.below hb);replace HQ:=I (HQ.o.below hb);have HT:=I hnb;clear hnb hb;obtain⟨PT,ePT⟩:∃z,z=wfa31.heap.size:=⟨_,rfl⟩;rw[←ePT] at HT LT NT NEHQ⊢;clear ePT;refine Reg.Ay 13 rfl (by kernel_rfl) (by rfl) PT 66 _ (asA Q) HT.o (by rfl) (by rfl) (by rfl) (by kernel_rfl) (by simp [Value.oneCell']) ?_;intro Vfa34 hV hg;replace HT:=I hV;replace HK:=I (HK.o.over LT.o NT.o hg);replace HQ:=I (HQ.o.grown hg (fun e=>by injection e with e;exact NEHQ.o e.symm));clear hV hg NEHQ;refine⟨⟨HQ.o,(HK.o).cl.blk.cell 0,(HK.o).cl.blk.cell 1⟩,?_⟩;simp only[Act.put,J,U,Aa];refine wpAnyH_done (by kernel_rfl) ?_ _
     go_wp2_with fail
     go_meet
     exact⟨PT,rfl,HT.o,NT.o,HQ.o,NQ.o,HK.o⟩
    ·left
     have hb:Below wc.drew.heap.size wc.drew (wc.drew.alloc (.cells #[.string ⟨#[]⟩,.string ⟨#[]⟩,.string ⟨#[]⟩,.string ⟨#[]⟩,.int .i64 0,.int .i64 0] 66)):=Af.alloc Ae _;have hnb:=Blk.new wc.drew 66 #[.string ⟨#[]⟩,.string ⟨#[]⟩,.string ⟨#[]⟩,.string ⟨#[]⟩,.int .i64 0,.int .i64 0];have LT:=I HK.o.size;have NT:=I (HK.o.cl.fresh (Nat.le_refl wc.drew.heap.size));have NEHQ:=I (Nat.ne_of_lt HQ.o.lt);refine⟨_,_,_,_,_,_,.pointer (some ⟨wc.drew.heap.size,0,none⟩),wc.drew.alloc (.cells #[.string ⟨#[]⟩,.string ⟨#[]⟩,.string ⟨#[]⟩,.string ⟨#[]⟩,.int .i64 0,.int .i64 0] 66),rfl,by rfl,(by go_simp<;>rfl),⟨(HQ.o.below hb),((HK.o.below hb)).cl.blk.cell 0,((HK.o.below hb)).cl.blk.cell 1⟩,?_⟩;simp only[Act.put,J,U,Aa];obtain⟨wtfa35,ewtfa35⟩:∃z,z=wc.drew.alloc (.cells #[.string ⟨#[]⟩,.string ⟨#[]⟩,.string ⟨#[]⟩,.string ⟨#[]⟩,.int .i64 0,.int .i64 0] 66):=⟨_,rfl⟩;rw[←ewtfa35] at hb hnb⊢;clear ewtfa35;replace HK:=I (HK.o.below hb);replace HQ:=I (HQ.o.below hb);have HT:=I hnb;clear hnb hb;obtain⟨PT,ePT⟩:∃z,z=wc.drew.heap.size:=⟨_,rfl⟩;rw[←ePT] at HT LT NT NEHQ⊢;clear ePT;refine Reg.Au [10] (by kernel_rfl) (by simp) ?_;intro j0 hj0;obtain rfl:j0=10:=by simpa using hj0
     clear hj0
     right
     refine⟨_,_,_,_,_,_,63,#[.pointer (some ⟨p.k,4,none⟩)],rfl,by rfl,(by go_simp<;>first | rfl | exact⟨rfl,rfl⟩),?_⟩;refine Calls.mono (C5.o _ HK.o.cl) ?_;rintro e wfa36 ⟨rfl,hk⟩;have hnb:=hk.blk HQ.o NQ.o;replace NQ:=I (hk.not NQ.o HQ.o.lt);replace HQ:=I hnb;clear hnb;have hnb:=hk.blk HT.o NT.o;replace NT:=I (hk.not NT.o HT.o.lt);replace HT:=I hnb;clear hnb;replace HK:=I (HK.o.trans hk);clear hk;clear C5;refine⟨_,rfl,⟨HQ.o,(HK.o).cl.blk.cell 0,(HK.o).cl.blk.cell 1⟩,?_⟩;simp only[Act.put,J,U,Aa];refine Reg.tk 11 (v:=.agg (asA Q)) rfl ⟨HQ.o,(HK.o).cl.blk.cell 0,(HK.o).cl.blk.cell 1⟩ (fun w' hS=>?hfa37) ?rfa37
     case hfa37=>obtain⟨hQ,k0,k1⟩:=hS;refine Cc (t:=66) (by rfl) (by simp only[List.map_toArray,List.map_cons,List.map_nil];exact HBQ.o)
     simp only[Act.put,J,U,Aa];refine Reg.Ay 13 rfl (by kernel_rfl) (by rfl) PT 66 _ (asA Q) HT.o (by rfl) (by rfl) (by rfl) (by kernel_rfl) (by simp [Value.oneCell']) ?_;intro Vfa38 hV hg;replace HT:=I hV;replace HK:=I (HK.o.over LT.o NT.o hg);replace HQ:=I (HQ.o.grown hg (fun e=>by injection e with e;exact NEHQ.o e.symm));clear hV hg NEHQ;refine⟨⟨HQ.o,(HK.o).cl.blk.cell 0,(HK.o).cl.blk.cell 1⟩,?_⟩;simp only[Act.put,J,U,Aa];refine wpAnyH_done (by kernel_rfl) ?_ _
     go_wp2_with fail
     go_meet
     exact⟨PT,rfl,HT.o,NT.o,HQ.o,NQ.o,HK.o⟩
   ·left
    have hb:Below wc.drew.heap.size wc.drew (wc.drew.alloc (.cells #[.string ⟨#[]⟩,.string ⟨#[]⟩,.string ⟨#[]⟩,.string ⟨#[]⟩,.int .i64 0,.int .i64 0] 66)):=Af.alloc Ae _;have hnb:=Blk.new wc.drew 66 #[.string ⟨#[]⟩,.string ⟨#[]⟩,.string ⟨#[]⟩,.string ⟨#[]⟩,.int .i64 0,.int .i64 0];have LT:=I HK.o.size;have NT:=I (HK.o.cl.fresh (Nat.le_refl wc.drew.heap.size));have NEHQ:=I (Nat.ne_of_lt HQ.o.lt);refine⟨_,_,_,_,_,_,.pointer (some ⟨wc.drew.heap.size,0,none⟩),wc.drew.alloc (.cells #[.string ⟨#[]⟩,.string ⟨#[]⟩,.string ⟨#[]⟩,.string ⟨#[]⟩,.int .i64 0,.int .i64 0] 66),rfl,by rfl,(by go_simp<;>rfl),⟨(HQ.o.below hb),((HK.o.below hb)).cl.blk.cell 0,((HK.o.below hb)).cl.blk.cell 1⟩,?_⟩;simp only[Act.put,J,U,Aa];obtain⟨wtfa39,ewtfa39⟩:∃z,z=wc.drew.alloc (.cells #[.string ⟨#[]⟩,.string ⟨#[]⟩,.string ⟨#[]⟩,.string ⟨#[]⟩,.int .i64 0,.int .i64 0] 66):=⟨_,rfl⟩;rw[←ewtfa39] at hb hnb⊢;clear ewtfa39;replace HK:=I (HK.o.below hb);replace HQ:=I (HQ.o.below hb);have HT:=I hnb;clear hnb hb;obtain⟨PT,ePT⟩:∃z,z=wc.drew.heap.size:=⟨_,rfl⟩;rw[←ePT] at HT LT NT NEHQ⊢;clear ePT;refine Reg.Au [6] (by kernel_rfl) (by simp) ?_;intro j0 hj0;obtain rfl:j0=6:=by simpa using hj0
    clear hj0
    right
    refine⟨_,_,_,_,_,_,90,#[.int .i64 now],rfl,by rfl,(by go_simp<;>first | rfl | exact⟨rfl,rfl⟩),?_⟩;refine Calls.mono (C4.o _) ?_;rintro e wfa40 ⟨rfl,hw⟩;subst hw;clear C4;refine⟨_,rfl,⟨HQ.o,(HK.o).cl.blk.cell 0,(HK.o).cl.blk.cell 1⟩,?_⟩;simp only[Act.put,J,U,Aa];refine Reg.Au [10] (by kernel_rfl) (by simp) ?_;intro j0 hj0;obtain rfl:j0=10:=by simpa using hj0
    clear hj0
    right
    refine⟨_,_,_,_,_,_,63,#[.pointer (some ⟨p.k,4,none⟩)],rfl,by rfl,(by go_simp<;>first | rfl | exact⟨rfl,rfl⟩),?_⟩;refine Calls.mono (C5.o _ HK.o.cl) ?_;rintro e wfa41 ⟨rfl,hk⟩;have hnb:=hk.blk HQ.o NQ.o;replace NQ:=I (hk.not NQ.o HQ.o.lt);replace HQ:=I hnb;clear hnb;have hnb:=hk.blk HT.o NT.o;replace NT:=I (hk.not NT.o HT.o.lt);replace HT:=I hnb;clear hnb;replace HK:=I (HK.o.trans hk);clear hk;clear C5;refine⟨_,rfl,⟨HQ.o,(HK.o).cl.blk.cell 0,(HK.o).cl.blk.cell 1⟩,?_⟩;simp only[Act.put,J,U,Aa];refine Reg.tk 11 (v:=.agg (asA Q)) rfl ⟨HQ.o,(HK.o).cl.blk.cell 0,(HK.o).cl.blk.cell 1⟩ (fun w' hS=>?hfa42) ?rfa42
    case hfa42=>obtain⟨hQ,k0,k1⟩:=hS;refine Cc (t:=66) (by rfl) (by simp only[List.map_toArray,List.map_cons,List.map_nil];exact HBQ.o)
    simp only[Act.put,J,U,Aa];refine Reg.Ay 13 rfl (by kernel_rfl) (by rfl) PT 66 _ (asA Q) HT.o (by rfl) (by rfl) (by rfl) (by kernel_rfl) (by simp [Value.oneCell']) ?_;intro Vfa43 hV hg;replace HT:=I hV;replace HK:=I (HK.o.over LT.o NT.o hg);replace HQ:=I (HQ.o.grown hg (fun e=>by injection e with e;exact NEHQ.o e.symm));clear hV hg NEHQ;refine⟨⟨HQ.o,(HK.o).cl.blk.cell 0,(HK.o).cl.blk.cell 1⟩,?_⟩;simp only[Act.put,J,U,Aa];refine wpAnyH_done (by kernel_rfl) ?_ _
    go_wp2_with fail
    go_meet
    exact⟨PT,rfl,HT.o,NT.o,HQ.o,NQ.o,HK.o⟩
  case rest=>
   obtain⟨PT,rfl,ht,hn,hq,nq,hk⟩:=hcut;replace HQ:=I hq;replace NQ:=I nq;replace HK:=I hk;have HT:=I ht;have NT:=I hn;clear hq nq hk ht hn C4 C5 HBQ
   go_upto_region 6 with fail
   have HX:=I HT.o;have NX:=I NT.o;have PX:∃z,z=PT:=⟨_,rfl⟩;obtain⟨gx,egx⟩:=PX;rw[←egx] at HX NX⊢;clear HT NT egx
   go_cut [10] from 44 to 50 (fun tv wx=>∃(PT:Nat),tv = .pointer (some ⟨PT,0,none⟩)∧Blk wx PT 111 (ouA NN p.b 3)∧Blk wx gx 66 (asA Q)∧Blk wx gq 40 #[.string ⟨q.1.toArray⟩,.string ⟨q.2.toArray⟩]∧Tu w wx B p m m {s with n:=s.n+1} c)
   case first=>
    have hdr:Below wc.heap.size wc wc.drew:=below_drewN Af 1;replace HK:=I (HK.o.below hdr);replace HQ:=I (HQ.o.below hdr);replace HX:=I (HX.o.below hdr);clear hdr;refine Reg.Bp (fun w'=>Blk w' gx 66 (asA Q)∧w'.cell? ⟨p.k,2,none⟩=some (pv p.b)) 9 rfl (by kernel_rfl) ⟨HX.o,(HK.o).cl.blk.cell 2⟩ ?_;refine Reg.tk 0 (v:=?vfb44) rfl ⟨HX.o,(HK.o).cl.blk.cell 2⟩ (fun w' hS=>?hfb44) ?rfb44
    case hfb44=>go_simp<;>rfl
    simp only[Act.put,J,U,Aa];refine Reg.tk 1 (v:=.int .i64 NN) rfl ⟨HX.o,(HK.o).cl.blk.cell 2⟩ (fun w' hS=>?hfb45) ?rfb45
    case hfb45=>obtain⟨hX,k2⟩:=hS;have q5:w'.cell? ⟨gx,5,none⟩=some (.int .i64 Q.no):=hX.cell 5;rw[EN.o] at q5;go_simp<;>rfl
    simp only[Act.put,J,U,Aa];refine Reg.tk 2 (v:=?vfb46) rfl ⟨HX.o,(HK.o).cl.blk.cell 2⟩ (fun w' hS=>?hfb46) ?rfb46
    case hfb46=>go_simp<;>rfl
    simp only[Act.put,J,U,Aa];refine Reg.tk 3 (v:=?vfb47) rfl ⟨HX.o,(HK.o).cl.blk.cell 2⟩ (fun w' hS=>?hfb47) ?rfb47
    case hfb47=>go_simp<;>rfl
    simp only[Act.put,J,U,Aa];refine Reg.tk 4 (v:=?vfb48) rfl ⟨HX.o,(HK.o).cl.blk.cell 2⟩ (fun w' hS=>?hfb48) ?rfb48
    case hfb48=>go_simp<;>rfl
    simp only[Act.put,J,U,Aa];refine Reg.tk 5 (v:=?vfb49) rfl ⟨HX.o,(HK.o).cl.blk.cell 2⟩ (fun w' hS=>?hfb49) ?rfb49
    case hfb49=>obtain⟨hX,k2⟩:=hS;go_simp<;>rfl
    simp only[Act.put,J,U,Aa];refine Reg.tk 6 (v:=.agg (ouA NN p.b 3)) rfl ⟨HX.o,(HK.o).cl.blk.cell 2⟩ (fun w' hS=>?hfb50) ?rfb50
    case hfb50=>obtain⟨hX,k2⟩:=hS;go_simp<;>rfl
    simp only[Act.put,J,U,Aa];refine Reg.Au [7] (by kernel_rfl) (by simp) ?_;intro j0 hj0;obtain rfl:j0=7:=by simpa using hj0
    clear hj0
    left
    have hb:Below wc.drew.heap.size wc.drew (wc.drew.alloc (.cells #[.int .i64 0,.pointer none,.int .i64 0] 111)):=Af.alloc Ae _;have hnb:=Blk.new wc.drew 111 #[.int .i64 0,.pointer none,.int .i64 0];have LT:=I HK.o.size;have NT:=I (HK.o.cl.fresh (Nat.le_refl wc.drew.heap.size));have NEHQ:=I (Nat.ne_of_lt HQ.o.lt);have NEHX:=I (Nat.ne_of_lt HX.o.lt);refine⟨_,_,_,_,_,_,.pointer (some ⟨wc.drew.heap.size,0,none⟩),wc.drew.alloc (.cells #[.int .i64 0,.pointer none,.int .i64 0] 111),rfl,by rfl,(by go_simp<;>rfl),⟨(HX.o.below hb),((HK.o.below hb)).cl.blk.cell 2⟩,?_⟩;simp only[Act.put,J,U,Aa];obtain⟨wtfb51,ewtfb51⟩:∃z,z=wc.drew.alloc (.cells #[.int .i64 0,.pointer none,.int .i64 0] 111):=⟨_,rfl⟩;rw[←ewtfb51] at hb hnb⊢;clear ewtfb51;replace HK:=I (HK.o.below hb);replace HQ:=I (HQ.o.below hb);replace HX:=I (HX.o.below hb);have HT:=I hnb;clear hnb hb;obtain⟨PT,ePT⟩:∃z,z=wc.drew.heap.size:=⟨_,rfl⟩;rw[←ePT] at HT LT NT NEHQ NEHX⊢;clear ePT;refine Reg.Ay 8 rfl (by kernel_rfl) (by rfl) PT 111 _ (ouA NN p.b 3) HT.o (by rfl) (by rfl) (by rfl) JF (by simp [Value.oneCell']) ?_;intro Vfb52 hV hg;replace HT:=I hV;replace HK:=I (HK.o.over LT.o NT.o hg);replace HQ:=I (HQ.o.grown hg (fun e=>by injection e with e;exact NEHQ.o e.symm));replace HX:=I (HX.o.grown hg (fun e=>by injection e with e;exact NEHX.o e.symm));clear hV hg NEHQ NEHX;refine⟨⟨HX.o,(HK.o).cl.blk.cell 2⟩,?_⟩;simp only[Act.put,J,U,Aa];refine wpAnyH_done (by kernel_rfl) ?_ _
    go_wp2_with fail
    go_meet
    exact⟨PT,rfl,HT.o,HX.o,HQ.o,HK.o⟩
   case rest=>
    obtain⟨PT,rfl,ht,hx,hq,hk⟩:=hcut;replace HQ:=I hq;replace HX:=I hx;replace HK:=I hk;have HT:=I ht;clear hq hx hk ht NQ NX;have HAI:=I (show(Tryz.prog.info? 66).map (·.size)=some (asA Q).size by kernel_rfl);have HBM:=I (GJ Q);have c6:=C6.o wc HK.o.cl;obtain⟨ct,ect⟩:∃z,z=asA Q:=⟨_,rfl⟩;obtain⟨cm,ecm⟩:∃z,z=Mc.mgA 1 (asA Q) Mc.zT Mc.zR Mc.zP Mc.zF:=⟨_,rfl⟩;rw[←ecm] at c6 HBM;rw[←ect] at HX HAI HBM;clear ect ecm C6;have o0:wc.cell? ⟨PT,0,none⟩=some (.int .i64 NN):=HT.o.cell 0;have o1:wc.cell? ⟨PT,1,none⟩=some (pv p.b):=HT.o.cell 1;have o2:wc.cell? ⟨PT,2,none⟩=some (.int .i64 3):=HT.o.cell 2;have kq0:wc.cell? ⟨gq,0,none⟩=some (.string ⟨q.1.toArray⟩):=HQ.o.cell 0;rw[E1.o] at kq0
    go_wp2_with (first
     |(refine Wh.Ab (by rfl) 66 (.tmp 9) (by rfl) gx 0 (by rfl) ct _ (Wh.Ak HX.o) Tryz.underlying66 (by rfl) HAI.o ?_)
     |(refine Mc.Ac (by rfl) 76 #[(0,.const (.int .i64 1)),(1,.tmp 54)] (by rfl) cm (by simp only[List.map_toArray,List.map_cons,List.map_nil];exact HBM.o) ?_)
     |(go_at_call 91;refine Calls.mono c6 ?_;rintro e w6 ⟨v,rfl,hs,hk⟩;clear c6 o0 o1 o2 kq0;have HV:=I (Out.old HK.o.size hs);replace HK:=I (HK.o.trans hk);clear hs hk)
     |fail)
    go_ret2
    exact⟨v,_,rfl,HV.o,HK.o⟩
end
end Cl
namespace Cl
open Go.RowKit Ad Se
open Nm (L krb tgL tgR)
open Ms (Pr tmB pSm mSm mgO mgD mgB Mg As Tg Re)
open Rg (prV Bl BF)
open Ca (Cr It crA putL)
section
variable {w w' w0:World} {B:Nat} {p:CP} {m m' m0:CM} {s:St} {c:Nat} {r:L}
theorem AE {P:Program} {fn:Func} {tmps:Array Value} {w:World} {a b c:Value} (i j k:Nat) (hres:fn.results=#[.tmp i,.tmp j,.tmp k]) (ha:tmps.getD i undef=a) (hb:tmps.getD j undef=b) (hc:tmps.getD k undef=c) :
  (results fn tmps).run P w = .ok (.tuple #[a,b,c]) w:=by
 have ha':tmps[i]?.getD undef=a:=by simpa using ha
 have hb':tmps[j]?.getD undef=b:=by simpa using hb
 have hc':tmps[k]?.getD undef=c:=by simpa using hc
 simp [results,hres,ha',hb',hc']
theorem Cl.began (h:Cl w B p m s c) {t:Pr} (hc:Chg (fun j=>j=p.k) w w') (hb:Blk w' p.k 115 (clA p {m with vv:=.slice none 0 0,ov:=.pointer none,x:=none} (begS s t))):Tu w w' B p m {m with vv:=.slice none 0 0,ov:=.pointer none,x:=none} (begS s t) c:=by
 have hn:∀i,i≠0→∀j,Pt p m i j→¬j=p.k:=fun i hi j hj e=>h.not (i':=0) hj hi e
 have hp:∀i j,Pt p {m with vv:=.slice none 0 0,ov:=.pointer none,x:=none} i j→Pt p m i j:=fun i j hj=>by
  match i,hj with
  |0,hj=>exact hj
  |1,hj=>exact hj
  |2,hj=>exact hj
  |3,hj=>cases hj
  |4,hj=>obtain⟨z,hz,_⟩:=hj;cases hz
  |5,hj=>exact hj
 refine⟨⟨⟨fun i i' j a b=>h.pa.dis i i' j (hp i j a) (hp i' j b),fun i j a=>h.pa.lo i j (hp i j a),fun i j a=>Nat.lt_of_lt_of_le (h.pa.lt i j (hp i j a)) hc.size,Nat.le_trans h.pa.hB hc.size⟩,hb,h.ca.chg hc (hn 2 (by decide)),h.li,h.box.chg hc (hn 1 (by decide)),h.bc,Nm.Own.nil _ _,SxR.none,h.sy.chg hc (hn 5 (by decide)),.inl ⟨rfl,fun _=>rfl⟩⟩,hc.mono (fun j _ x=>⟨0,x⟩),fun j hj=>by
  obtain⟨i,hj⟩:=hj;exact .inl ⟨i,hp i j hj⟩⟩
def ChP (w:World) (B:Nat) (p:CP) (m:CM) (c:Nat) (r:St×(L×L)×Int) (e:Ending) (w':World):Prop:=
 ∃v m',e = .returned (.tuple #[.string ⟨r.2.1.1.toArray⟩,v,.int .i64 r.2.2])∧SlN (Out w p m') w' v r.2.1.2∧Tu w w' B p m m' r.1 c
theorem IB {t:Pr} (hz:Sz p s c) (ht:pSm t):Sz p (begS s t) c:=⟨hz.nn,hz.ss,hz.qq,⟨Int.le_refl _,by show(0:Int)≤c;omega⟩,⟨Nat.zero_le _,fun v hv=>by cases hv⟩,ht,hz.l,hz.x,hz.pp⟩
theorem cha_1 {t:Pr} {now:Int} (h:Cl w B p m s c) (hz:Sz p s c) (hc:c≤700000) (hs:pSm t) (h1:s.st=1) :
  Calls Tryz.prog 22 #[pv p.k,prV t,.int .i64 now] w (ChP w B p m (c+2) (s,([],[]),16)):=by
 obtain⟨W,eW⟩:∃W,W=w.alloc (.cells #[.string ⟨t.1.toArray⟩,.string ⟨t.2.toArray⟩] 40):=⟨_,rfl⟩;have hb:Below w.heap.size w W:=eW▸Af.alloc Ae _;have HQ:=I (show Blk W w.heap.size 40 #[.string ⟨t.1.toArray⟩,.string ⟨t.2.toArray⟩] from eW▸Blk.new w _ _);have NQ:=I (h.fresh (Nat.le_refl w.heap.size));have HK:=I (Tu.start h hb);have k7:W.cell? ⟨p.k,7,none⟩=some (.int .i64 s.st):=HK.o.cl.blk.cell 7;have CP1:=I (fun(w1:World)=>Bn t w1 hs);have CT:=I (fun(w1:World)=>Ct now w1);rw[h1] at k7;clear h hz hc hs hb h1;go_enter Tryz.func22,Tryz.ntmps22
 go_upto_region 1 with fail
 rw[←eW];clear eW
 go_wp2_with fail
 refine bodyPost_ret (v:=.tuple #[.string ⟨#[]⟩,.slice none 0 0,.int .i64 16]) (AE 6 7 8 Tryz.results22 rfl rfl rfl) (by rfl) ?_;exact⟨.slice none 0 0,_,rfl,SlN.nil _ _,HK.o.more (by omega)⟩
theorem cha_2 {t:Pr} {now:Int} (h:Cl w B p m s c) (hz:Sz p s c) (hc:c≤700000) (hs:pSm t) (h1:s.st≠1) (h2:Ax t=false) :
  Calls Tryz.prog 22 #[pv p.k,prV t,.int .i64 now] w (ChP w B p m (c+2) (s,([],[]),1)):=by
 obtain⟨W,eW⟩:∃W,W=w.alloc (.cells #[.string ⟨t.1.toArray⟩,.string ⟨t.2.toArray⟩] 40):=⟨_,rfl⟩;have hb:Below w.heap.size w W:=eW▸Af.alloc Ae _;have HQ:=I (show Blk W w.heap.size 40 #[.string ⟨t.1.toArray⟩,.string ⟨t.2.toArray⟩] from eW▸Blk.new w _ _);have NQ:=I (h.fresh (Nat.le_refl w.heap.size));have HK:=I (Tu.start h hb);have k7:W.cell? ⟨p.k,7,none⟩=some (.int .i64 s.st):=HK.o.cl.blk.cell 7;have CP1:=I (fun(w1:World)=>Bn t w1 hs);have CT:=I (fun(w1:World)=>Ct now w1);have t1:decide (s.st=1)=false:=decide_eq_false h1;have t1b:(s.st==1)=false:=by simp [h1]
 rw[h2] at CP1;clear h hz hc hs hb h1 h2;go_enter Tryz.func22,Tryz.ntmps22
 go_upto_region 1 with fail
 rw[←eW];clear eW;have q0:W.cell? ⟨w.heap.size,0,none⟩=some (.string ⟨t.1.toArray⟩):=HQ.o.cell 0;have q1:W.cell? ⟨w.heap.size,1,none⟩=some (.string ⟨t.2.toArray⟩):=HQ.o.cell 1
 go_wp2_with (first
  |(go_at_call 43;refine Calls.mono (CP1.o _) ?_;rintro e wp1 ⟨rfl,hb⟩;clear CP1 q0 q1 k7;replace HQ:=I (HQ.o.below hb);replace HK:=I (HK.o.below hb);clear hb)
  |fail)
 refine bodyPost_ret (v:=.tuple #[.string ⟨#[]⟩,.slice none 0 0,.int .i64 1]) (AE 6 7 8 Tryz.results22 rfl rfl rfl) (by rfl) ?_;exact⟨.slice none 0 0,_,rfl,SlN.nil _ _,HK.o.more (by omega)⟩
theorem cha_3 {t:Pr} {now:Int} (h:Cl w B p m s c) (hz:Sz p s c) (hc:c≤700000) (hs:pSm t) (h1:s.st≠1) (h2:Ax t=true) (h3:tmB now=false) :
  Calls Tryz.prog 22 #[pv p.k,prV t,.int .i64 now] w (ChP w B p m (c+2) (s,([],[]),1)):=by
 obtain⟨W,eW⟩:∃W,W=w.alloc (.cells #[.string ⟨t.1.toArray⟩,.string ⟨t.2.toArray⟩] 40):=⟨_,rfl⟩;have hb:Below w.heap.size w W:=eW▸Af.alloc Ae _;have HQ:=I (show Blk W w.heap.size 40 #[.string ⟨t.1.toArray⟩,.string ⟨t.2.toArray⟩] from eW▸Blk.new w _ _);have NQ:=I (h.fresh (Nat.le_refl w.heap.size));have HK:=I (Tu.start h hb);have k7:W.cell? ⟨p.k,7,none⟩=some (.int .i64 s.st):=HK.o.cl.blk.cell 7;have CP1:=I (fun(w1:World)=>Bn t w1 hs);have CT:=I (fun(w1:World)=>Ct now w1);have t1:decide (s.st=1)=false:=decide_eq_false h1;have t1b:(s.st==1)=false:=by simp [h1]
 rw[h2] at CP1;rw[h3] at CT;clear h hz hc hs hb h1 h2 h3;go_enter Tryz.func22,Tryz.ntmps22
 go_upto_region 1 with fail
 rw[←eW];clear eW;have q0:W.cell? ⟨w.heap.size,0,none⟩=some (.string ⟨t.1.toArray⟩):=HQ.o.cell 0;have q1:W.cell? ⟨w.heap.size,1,none⟩=some (.string ⟨t.2.toArray⟩):=HQ.o.cell 1
 go_wp2_with (first
  |(go_at_call 43;refine Calls.mono (CP1.o _) ?_;rintro e wp1 ⟨rfl,hb⟩;clear CP1 q0 q1 k7;replace HQ:=I (HQ.o.below hb);replace HK:=I (HK.o.below hb);clear hb)
  |(go_at_call 44;refine Calls.mono (CT.o _) ?_;rintro e wt ⟨rfl,hw⟩;subst hw;clear CT)
  |fail)
 refine bodyPost_ret (v:=.tuple #[.string ⟨#[]⟩,.slice none 0 0,.int .i64 1]) (AE 6 7 8 Tryz.results22 rfl rfl rfl) (by rfl) ?_;exact⟨.slice none 0 0,_,rfl,SlN.nil _ _,HK.o.more (by omega)⟩
theorem Ku {t:Pr} {now:Int} (h:Cl w B p m s c) (hz:Sz p s c) (hc:c≤700000) (hs:pSm t) (h1:s.st≠1) (h2:Ax t=true) (h3:tmB now=true) {R:St×(L×L)} (CF0:∀(w1:World) (m1:CM),Cl w1 B p m1 (begS s t) c→Calls Tryz.prog 46 #[pv p.k,.int .i64 now] w1 fun e w2=>∃v m2,e = .returned (.tuple #[.string ⟨p.P.1.toArray⟩,v])∧R.2.1=p.P.1∧SlN (Out w1 p m2) w2 v R.2.2∧Tu w1 w2 B p m1 m2 R.1 (c+2)) :
  Calls Tryz.prog 22 #[pv p.k,prV t,.int .i64 now] w (ChP w B p m (c+2) (R.1,R.2,0)):=by
 obtain⟨W,eW⟩:∃W,W=w.alloc (.cells #[.string ⟨t.1.toArray⟩,.string ⟨t.2.toArray⟩] 40):=⟨_,rfl⟩;have hb:Below w.heap.size w W:=eW▸Af.alloc Ae _;have HQ:=I (show Blk W w.heap.size 40 #[.string ⟨t.1.toArray⟩,.string ⟨t.2.toArray⟩] from eW▸Blk.new w _ _);have NQ:=I (h.fresh (Nat.le_refl w.heap.size));have HK:=I (Tu.start h hb);have k7:W.cell? ⟨p.k,7,none⟩=some (.int .i64 s.st):=HK.o.cl.blk.cell 7;have CP1:=I (fun(w1:World)=>Bn t w1 hs);have CT:=I (fun(w1:World)=>Ct now w1);have t1:decide (s.st=1)=false:=decide_eq_false h1;have t1b:(s.st==1)=false:=by simp [h1]
 rw[h2] at CP1;have CC:=I (fun(w1:World)=>Fe t w1 (Nat.le_trans hs.1 (by decide)) (Nat.le_trans hs.2 (by decide)));have CF:=I CF0;rw[h3] at CT;clear h hz hc hs hb h1 h2 h3 CF0;go_enter Tryz.func22,Tryz.ntmps22
 go_upto_region 1 with fail
 rw[←eW];clear eW;have q0:W.cell? ⟨w.heap.size,0,none⟩=some (.string ⟨t.1.toArray⟩):=HQ.o.cell 0;have q1:W.cell? ⟨w.heap.size,1,none⟩=some (.string ⟨t.2.toArray⟩):=HQ.o.cell 1
 go_upto_region 7 with(first
  |(go_at_call 43;refine Calls.mono (CP1.o _) ?_;rintro e wp1 ⟨rfl,hb⟩;clear CP1 q0 q1 k7;replace HQ:=I (HQ.o.below hb);replace HK:=I (HK.o.below hb);clear hb)
  |(go_at_call 44;refine Calls.mono (CT.o _) ?_;rintro e wt ⟨rfl,hw⟩;subst hw;clear CT)
  |fail)
 have k7:wp1.cell? ⟨p.k,7,none⟩=some (.int .i64 s.st):=HK.o.cl.blk.cell 7;have k8:wp1.cell? ⟨p.k,8,none⟩=some (.int .i64 s.er):=HK.o.cl.blk.cell 8;have k9:wp1.cell? ⟨p.k,9,none⟩=some (.int .i64 s.sn):=HK.o.cl.blk.cell 9;have fz:=HK.o.cl.blk.frozen
 go_upto_region 8 with fail
 obtain⟨V,eV⟩:∃z,z=((wp1.setCell ⟨p.k,7,none⟩ (.int .i64 1)).setCell ⟨p.k,8,none⟩ (.int .i64 0)).setCell ⟨p.k,9,none⟩ (.int .i64 0):=⟨_,rfl⟩;have hcv:Chg (fun j=>j=p.k) wp1 V:=eV▸(((Chg.refl (fun j=>j=p.k) wp1).set (p:=⟨p.k,7,none⟩) (.inl rfl) _).set (p:=⟨p.k,8,none⟩) (.inl rfl) _).set (p:=⟨p.k,9,none⟩) (.inl rfl) _;have hkv:Blk V p.k 115 #[.string ⟨p.P.1.toArray⟩,.string ⟨p.P.2.toArray⟩,pv p.b,pv p.r,.int .i64 (s.n:Int),.int .i64 (s.s:Int),.int .i64 (s.q:Int),.int .i64 1,.int .i64 0,.int .i64 0,.string ⟨s.tg.1.toArray⟩,.string ⟨s.tg.2.toArray⟩,m.vv,.int .i64 s.ou.no,m.ov,.int .i64 s.ou.u]:=by
  have:=((HK.o.cl.blk.set 7 (.int .i64 1)).set 8 (.int .i64 0)).set 9 (.int .i64 0);simp only[List.setIfInBounds_toArray,List.set_cons_zero,List.set_cons_succ] at this;rw[eV];exact this
 have HKV:=I hkv;have HCV:=I hcv;have HPK:=I HK.o.cl.blk.lt;replace HQ:=I (hcv.blk HQ.o (fun x=>NQ.o ⟨0,x⟩));rw[←eV];clear eV hcv hkv k7 k8 k9 fz;have q0:V.cell? ⟨w.heap.size,0,none⟩=some (.string ⟨t.1.toArray⟩):=HQ.o.cell 0;have q1:V.cell? ⟨w.heap.size,1,none⟩=some (.string ⟨t.2.toArray⟩):=HQ.o.cell 1
 go_upto_region 9 with(first
  |(go_at_call 45;refine Calls.mono (CC.o _) ?_;rintro e wc ⟨rfl,hb⟩;clear CC q0 q1;have HBC:=I hb;replace HKV:=I (HKV.o.below hb);have k10:wc.cell? ⟨p.k,10,none⟩=some (.string ⟨s.tg.1.toArray⟩):=HKV.o.cell 10;have k11:wc.cell? ⟨p.k,11,none⟩=some (.string ⟨s.tg.2.toArray⟩):=HKV.o.cell 11;have k12:wc.cell? ⟨p.k,12,none⟩=some m.vv:=HKV.o.cell 12;have k13:wc.cell? ⟨p.k,13,none⟩=some (.int .i64 s.ou.no):=HKV.o.cell 13;have k14:wc.cell? ⟨p.k,14,none⟩=some m.ov:=HKV.o.cell 14;have k15:wc.cell? ⟨p.k,15,none⟩=some (.int .i64 s.ou.u):=HKV.o.cell 15;have fz:=HKV.o.frozen;clear hb)
  |fail)
 obtain⟨V2,eV2⟩:∃z,z=(((((wc.setCell ⟨p.k,10,none⟩ (.string ⟨t.1.toArray⟩)).setCell ⟨p.k,11,none⟩ (.string ⟨t.2.toArray⟩)).setCell ⟨p.k,12,none⟩ (.slice none 0 0)).setCell ⟨p.k,13,none⟩ (.int .i64 0)).setCell ⟨p.k,14,none⟩ (.pointer none)).setCell ⟨p.k,15,none⟩ (.int .i64 0):=⟨_,rfl⟩;have hc2:Chg (fun j=>j=p.k) wc V2:=eV2▸((((((Chg.refl (fun j=>j=p.k) wc).set (p:=⟨p.k,10,none⟩) (.inl rfl) _).set (p:=⟨p.k,11,none⟩) (.inl rfl) _).set (p:=⟨p.k,12,none⟩) (.inl rfl) _).set (p:=⟨p.k,13,none⟩) (.inl rfl) _).set (p:=⟨p.k,14,none⟩) (.inl rfl) _).set (p:=⟨p.k,15,none⟩) (.inl rfl) _;have hc3:Chg (fun j=>j=p.k) wp1 V2:=(HCV.o.trans (Chg.of_below HBC.o) (fun _ _ x=>x)).trans hc2 (fun _ _ x=>x);have hk2:Blk V2 p.k 115 (clA p {m with vv:=.slice none 0 0,ov:=.pointer none,x:=none} (begS s t)):=by
  have:=(((((HKV.o.set 10 (.string ⟨t.1.toArray⟩)).set 11 (.string ⟨t.2.toArray⟩)).set 12 (.slice none 0 0)).set 13 (.int .i64 0)).set 14 (.pointer none)).set 15 (.int .i64 0);simp only[List.setIfInBounds_toArray,List.set_cons_zero,List.set_cons_succ] at this;rw[eV2];exact this
 have hk:=HK.o.cl.began hc3 hk2;replace HK:=I (HK.o.trans hk);rw[←eV2];clear eV2 hc2 hc3 hk2 hk k10 k11 k12 k13 k14 k15 fz HKV HCV HBC HQ
 go_wp2_with (first
  |(go_at_call 46;refine Calls.mono (CF.o _ _ HK.o.cl) ?_;rintro e w6 ⟨v,m6,rfl,hr,hs,hk⟩;clear CF;have HV:=I (Out.old HK.o.size hs);replace HK:=I (HK.o.trans hk);have HRR:=I hr;clear hs hk hr)
  |fail)
 refine bodyPost_ret (v:=.tuple #[.string ⟨p.P.1.toArray⟩,v,.int .i64 0]) (AE 6 7 8 Tryz.results22 rfl rfl rfl) (by rfl) ?_;exact⟨v,m6,by rw[HRR.o],HV.o,HK.o⟩
theorem JG (h:Cl w B p m s c):Calls Tryz.prog 16 #[pv p.k] w fun e w'=>e = .returned (.tuple #[.int .i64 s.st,.int .i64 s.er,.int .i64 s.sn])∧Below w.heap.size w w':=by
 have k7:w.cell? ⟨p.k,7,none⟩=some (.int .i64 s.st):=h.blk.cell 7;have k8:w.cell? ⟨p.k,8,none⟩=some (.int .i64 s.er):=h.blk.cell 8;have k9:w.cell? ⟨p.k,9,none⟩=some (.int .i64 s.sn):=h.blk.cell 9;clear h;go_enter Tryz.func16,Tryz.ntmps16
 go_upto_region 3 with fail
 go_quiet (fail)
 go_wp2
 refine bodyPost_ret (v:=.tuple #[.int .i64 s.st,.int .i64 s.er,.int .i64 s.sn]) (AE 2 3 4 Tryz.results16 rfl rfl rfl) (by rfl) ?_;exact⟨rfl,below_drewN Af nq⟩
end
open Ms (reB tkB)
section
variable {w w' w0:World} {B:Nat} {p:CP} {m m' m0:CM} {s:St} {c:Nat} {r:L}
end
end Cl
namespace Cl
open Go.RowKit Ad Se
open Nm (L krb tgL tgR)
open Ms (Pr tmB pSm mSm mgO mgD mgB mgE Mg As Tg Re Tk asB tgB reB tkB prB Bi tmB)
open Ca (Cr It putL)
def annP:Pr:=([65],[97,110,110])
def Cf:Pr:=([83],[109,97,105,108])
def k9:Nat→UInt8:=fun i=>if i=0 then 9 else 0
structure Pq where
 no:Int
 ks:Nat→UInt8
 u:Int
def pq0:Pq:=⟨0,k9,3⟩
theorem Kv {q:As} (h:asB q=true):mgO (mAs q)=some (mgE (mAs q))∧mgD (mgE (mAs q))=some (mAs q):=by
 have hB:mgB (mAs q)=true:=by unfold mgB mAs;simp [h]
 have h':prB q.c=true∧prB q.s=true∧tmB q.t=true∧tmB q.no=true:=by simpa [asB] using h
 have h1:=(Ms.AM h'.1).1;have h2:=(Ms.AM h'.2.1).1;have h3:=Ms.Av q.t;have h4:=Ms.Av q.no;have h5:=Ms.Ao 106 [Ms.prE q.c,Ms.prE q.s,DerP.encI q.t,DerP.encI q.no].flatten;have h6:[Ms.prE q.c,Ms.prE q.s,DerP.encI q.t,DerP.encI q.no].flatten.length=(Ms.prE q.c).length+((Ms.prE q.s).length+((DerP.encI q.t).length+(DerP.encI q.no).length)):=by simp
 have hO:mgO (mAs q)=some (mgE (mAs q)):=Ms.Ew.2 ⟨hB,by show(Ms.asE q).length≤2000;rw[Ms.asE];omega,rfl⟩;exact⟨hO,Ms.JV.2 hO⟩
theorem Kw {P:Pr} {s:St} {now:Int} (hP:prB P=true) (hR:prB (own P)=true) (hn:tmB now=true) (h1:s.n<1000000):asB (firQ P s now)=true:=by
 have h':0≤now∧now≤1073741824:=by simpa [tmB,Ms.inB] using hn
 have h3:tmB (Ex now)=true:=by unfold Ex tmB Ms.inB;simp;omega
 have h4:tmB ((s.n+1:Nat):Int)=true:=by unfold tmB Ms.inB;simp;omega
 unfold asB firQ;simp only;rw[hP,hR,h3,h4]
 rfl
theorem JH:prB annP=true:=by decide
theorem JI:prB (own annP)=true:=by decide
theorem FF:Ax Cf=true:=by decide
theorem Ei:Ax annP=true:=by decide
def s1 (n:Nat):St:=firS k9 (begS {st0 with n:=n} Cf)
end Cl
namespace Cl
open Go.RowKit Ad Se
open Nm (L krb tgL tgR Ah Aj Am)
open Ms (Pr tmB pSm mSm)
open Rg (prV)
open Ca (Ca)
theorem l_ann (w:World):Calls Tryz.prog 32 #[] w fun e w'=>e = .returned (prV annP)∧Below w.heap.size w w':=by
 obtain⟨W,eW⟩:∃W,W=w.alloc (.cells #[.string ⟨#[]⟩,.string ⟨#[]⟩] 40):=⟨_,rfl⟩;have HZ:=I (show Blk W w.heap.size 40 #[.string ⟨#[]⟩,.string ⟨#[]⟩] from eW▸Blk.new w _ _);have HB:=I (show Below w.heap.size w W from eW▸Af.alloc Ae _);go_enter Tryz.func32,Tryz.ntmps32
 go_upto_region 1 with fail
 rw[←eW];clear eW;have kz0:=HZ.o.cell 0;have kz1:=HZ.o.cell 1;have fz:=HZ.o.frozen
 go_wp2
 have hz:Blk _ w.heap.size 40 #[.string ⟨annP.1.toArray⟩,.string ⟨annP.2.toArray⟩]:=(HZ.o.set 0 (.string ⟨annP.1.toArray⟩)).set 1 (.string ⟨annP.2.toArray⟩);refine bodyPost_ret (v:=prV annP) ?_ ?_ ?_
 ·exact Wh.An (v:=prV annP) 0 40 ⟨w.heap.size,0,none⟩ Tryz.results32 (by rfl) (Wh.Ar hz Tryz.underlying40 (by rfl) Rg.AD)
 ·rfl
 ·exact⟨rfl,Si.AF (Si.AF HB.o Ae _) Ae _⟩
theorem Kx (w:World):Calls Tryz.prog 18 #[] w fun e w'=>e = .returned (prV Cf)∧Below w.heap.size w w':=by
 obtain⟨W,eW⟩:∃W,W=w.alloc (.cells #[.string ⟨#[]⟩,.string ⟨#[]⟩] 40):=⟨_,rfl⟩;have HZ:=I (show Blk W w.heap.size 40 #[.string ⟨#[]⟩,.string ⟨#[]⟩] from eW▸Blk.new w _ _);have HB:=I (show Below w.heap.size w W from eW▸Af.alloc Ae _);go_enter Tryz.func18,Tryz.ntmps18
 go_upto_region 1 with fail
 rw[←eW];clear eW;have kz0:=HZ.o.cell 0;have kz1:=HZ.o.cell 1;have fz:=HZ.o.frozen
 go_wp2
 have hz:Blk _ w.heap.size 40 #[.string ⟨Cf.1.toArray⟩,.string ⟨Cf.2.toArray⟩]:=(HZ.o.set 0 (.string ⟨Cf.1.toArray⟩)).set 1 (.string ⟨Cf.2.toArray⟩);refine bodyPost_ret (v:=prV Cf) ?_ ?_ ?_
 ·exact Wh.An (v:=prV Cf) 0 40 ⟨w.heap.size,0,none⟩ Tryz.results18 (by rfl) (Wh.Ar hz Tryz.underlying40 (by rfl) Rg.AD)
 ·rfl
 ·exact⟨rfl,Si.AF (Si.AF HB.o Ae _) Ae _⟩
theorem Il:Tryz.prog.built 35 [(0,.int .u8 9)]=some (Az k9):=by kernel_rfl
theorem Ky {w1 w2 w3 w4:World} {B b r k:Nat} {P:Pr} {ks:Nat→UInt8} (hB:B≤w1.heap.size) (h1:w1.heap.size≤b) (hx:Box w2 b ks none 0 0 0) (hr:Ca w3 B r (.slice none 0 0) []) (h2:w2.heap.size≤r) (hb2:Below w2.heap.size w2 w3) (hb3:Below w3.heap.size w3 w4) (h3:w3.heap.size≤k)
  (hk:Blk w4 k 115 (clA ⟨k,b,r,P,ks⟩ ⟨.slice none 0 0,[],none,0,0,0,.slice none 0 0,.pointer none,none,none⟩ st0)) (hs:w1.heap.size≤w2.heap.size):Cl w4 B ⟨k,b,r,P,ks⟩ ⟨.slice none 0 0,[],none,0,0,0,.slice none 0 0,.pointer none,none,none⟩ st0 0:=by
 have hbl:=hx.lt;have hrl:=hr.lt;have hw3:=hb2.size;have p1:∀j,Ow b none j→j=b:=fun j hj=>by
  rcases hj with hj | hj
  ·exact hj
  ·cases hj
 have p2:∀j,Ca.CO r (.slice none 0 0) [] j→j=r:=fun j hj=>Ca.Kg hj
 have key:∀i j,Pt ⟨k,b,r,P,ks⟩ ⟨.slice none 0 0,[],none,0,0,0,.slice none 0 0,.pointer none,none,none⟩ i j→(i=0∧j=k)∨(i=1∧j=b)∨(i=2∧j=r):=fun i j hj=>by
  match i,hj with
  |0,hj=>exact .inl ⟨rfl,hj⟩
  |1,hj=>exact .inr (.inl ⟨rfl,p1 j hj⟩)
  |2,hj=>exact .inr (.inr ⟨rfl,p2 j hj⟩)
  |3,hj=>cases hj
  |4,hj=>obtain⟨z,hz,_⟩:=hj;cases hz
  |5,hj=>obtain⟨z,hz,_⟩:=hj;cases hz
 have hkl:=hk.lt;have hb4:=hb3.size;refine⟨⟨fun i i' j a c=>?_,fun i j a=>?_,fun i j a=>?_,by omega⟩,hk,hr.below hb3,rfl,(hx.below hb2).below hb3,⟨Nat.le_refl _,Nat.le_refl _,Nat.le_refl _⟩,Nm.Own.nil _ _,SxR.none,SxR.none,.inl ⟨rfl,fun e=>by cases e⟩⟩
 ·have:=key i j a
  have:=key i' j c;omega
 ·have:=key i j a
  omega
 ·have:=key i j a
  omega
theorem Im (P:Pr) (b r:Nat) (ks:Nat→UInt8) (k:Nat):Tryz.prog.built 115 [(0,prV P),(1,pv b),(2,pv r)]=some (clA ⟨k,b,r,P,ks⟩ ⟨.slice none 0 0,[],none,0,0,0,.slice none 0 0,.pointer none,none,none⟩ st0):=by kernel_rfl
theorem BM (P:Pr) (ks:Nat→UInt8) (w:World) (hs:pSm P) (hp:Ax P=true):Calls Tryz.prog 33 #[prV P,.agg (Az ks)] w fun e w'=>∃p m,e = .returned (.tuple #[pv p.k,.int .i64 0])∧p.P=P∧p.ks=ks∧Cl w' w.heap.size p m st0 0∧Below w.heap.size w w':=by
 obtain⟨W,eW⟩:∃W,W=(w.alloc (.cells #[.string ⟨P.1.toArray⟩,.string ⟨P.2.toArray⟩] 40)).alloc (.cells (Az ks) 35):=⟨_,rfl⟩;have hb:Below w.heap.size w W:=eW▸(Af.alloc Ae _).alloc (by simp) _;have HQ:=I (show Blk W w.heap.size 40 #[.string ⟨P.1.toArray⟩,.string ⟨P.2.toArray⟩] from eW▸(Blk.new w _ _).alloc _);have HY:=I (show Blk W (w.heap.size+1) 35 (Az ks) by have:=Blk.new (w.alloc (.cells #[.string ⟨P.1.toArray⟩,.string ⟨P.2.toArray⟩] 40)) 35 (Az ks);simp only[World.size_alloc] at this;exact eW▸this);have HYI:=I (show(Tryz.prog.info? 35).map (·.size)=some (Az ks).size by rw[Bd];kernel_rfl);have HB:=I hb;have C1:=I (fun(w1:World)=>Bn P w1 hs);rw[hp] at C1;have C2:=I (fun(w1:World)=>Fe P w1 (Nat.le_trans hs.1 (by decide)) (Nat.le_trans hs.2 (by decide)));have C3:=I (fun(w1:World)=>DN ks w1);have C4:=I (fun(w1:World) (h:w.heap.size≤w1.heap.size)=>Ca.Ke w.heap.size w1 h);obtain⟨cy,ecy⟩:∃z,z=Az ks:=⟨_,rfl⟩;rw[←ecy] at C3 HY HYI eW⊢;have q0:W.cell? ⟨w.heap.size,0,none⟩=some (.string ⟨P.1.toArray⟩):=HQ.o.cell 0;have q1:W.cell? ⟨w.heap.size,1,none⟩=some (.string ⟨P.2.toArray⟩):=HQ.o.cell 1;clear hb hs hp ecy;go_enter Tryz.func33,Tryz.ntmps33
 go_upto_region 1 with fail
 rw[←eW];clear eW
 go_upto_region 3 with(first
  |(go_at_call 43;refine Calls.mono (C1.o _) ?_;rintro e w1 ⟨rfl,hb⟩;clear C1 q0 q1;replace HQ:=I (HQ.o.below hb);replace HY:=I (HY.o.below hb);replace HB:=HB.t hb;clear hb)
  |fail)
 have hdr:Below w1.heap.size w1 w1.drew:=below_drewN Af 1;replace HQ:=I (HQ.o.below hdr);replace HY:=I (HY.o.below hdr);replace HB:=HB.t hdr;clear hdr;refine Reg.Bp (fun w'=>Blk w' w.heap.size 40 #[.string ⟨P.1.toArray⟩,.string ⟨P.2.toArray⟩]∧Blk w' (w.heap.size+1) 35 cy) 9 rfl (by kernel_rfl) ⟨HQ.o,HY.o⟩ ?_;refine Reg.tk 0 (v:=?vnw1) rfl ⟨HQ.o,HY.o⟩ (fun w' hS=>?hnw1) ?rnw1
 case hnw1=>obtain⟨hQ,hY⟩:=hS;have q0:=hQ.cell 0;have q1:=hQ.cell 1;go_simp<;>rfl
 simp only[Act.put,J,U,Aa];refine Reg.tk 2 (v:=.agg cy) rfl ⟨HQ.o,HY.o⟩ (fun w' hS=>?hnw2) ?rnw2
 case hnw2=>obtain⟨hQ,hY⟩:=hS;exact Wh.Bq (.tmp 3) rfl rfl hY Tryz.underlying35 (by rfl) HYI.o
 simp only[Act.put,J,U,Aa];refine Reg.Au [1] (by kernel_rfl) (by simp) ?_;intro j0 hj0;obtain rfl:j0=1:=by simpa using hj0
 clear hj0
 right
 refine⟨_,_,_,_,_,_,45,#[prV P],rfl,by rfl,(by go_simp<;>first | rfl | exact⟨rfl,rfl⟩),?_⟩;refine Calls.mono (C2.o _) ?_;rintro e wnw3 ⟨rfl,hb⟩;replace HQ:=I (HQ.o.below hb);replace HY:=I (HY.o.below hb);replace HB:=HB.t hb;clear hb;clear C2;refine⟨_,rfl,⟨HQ.o,HY.o⟩,?_⟩;simp only[Act.put,J,U,Aa];refine Reg.Au [3] (by kernel_rfl) (by simp) ?_;intro j0 hj0;obtain rfl:j0=3:=by simpa using hj0
 clear hj0
 right
 have HBW:=I HB.o.size;refine⟨_,_,_,_,_,_,65,#[.agg cy],rfl,by rfl,(by go_simp<;>first | rfl | exact⟨rfl,rfl⟩),?_⟩;refine Calls.mono (C3.o _) ?_;rintro e wnw4 ⟨xb,rfl,h1,hx,hb⟩;replace HQ:=I (HQ.o.below hb);replace HY:=I (HY.o.below hb);replace HB:=HB.t hb;have HX1:=I h1;have HX2:=I hx;have HS2:=I hb.size;have HB2:=I (Below.refl wnw4.heap.size wnw4);clear hb;clear C3 h1 hx;refine⟨_,rfl,⟨HQ.o,HY.o⟩,?_⟩;simp only[Act.put,J,U,Aa];refine Reg.Au [4] (by kernel_rfl) (by simp) ?_;intro j0 hj0;obtain rfl:j0=4:=by simpa using hj0
 clear hj0
 right
 refine⟨_,_,_,_,_,_,68,#[],rfl,by rfl,(by go_simp<;>first | rfl | exact⟨rfl,rfl⟩),?_⟩;refine Calls.mono (C4.o _ HB.o.size) ?_;rintro e wnw5 ⟨rfl,hca,hb,_⟩;replace HQ:=I (HQ.o.below hb);replace HY:=I (HY.o.below hb);replace HB:=HB.t hb;replace HB2:=HB2.t hb;have HCA:=I hca;have HB3:=I (Below.refl wnw5.heap.size wnw5);clear hb;clear C4 hca;obtain⟨CC,eCC⟩:∃z,z=clA ⟨wnw5.heap.size,xb,wnw4.heap.size,P,ks⟩ ⟨.slice none 0 0,[],none,0,0,0,.slice none 0 0,.pointer none,none,none⟩ st0:=⟨_,rfl⟩;have ECC:=I eCC;have HBC:=I (show Tryz.prog.built 115 [(0,prV P),(1,pv xb),(2,pv wnw4.heap.size)]=some CC by rw[eCC];exact Im _ _ _ _ _);have HH2:=I HB2.o;clear eCC;refine⟨_,rfl,⟨HQ.o,HY.o⟩,?_⟩;simp only[Act.put,J,U,Aa];refine Reg.tk 5 (v:=.agg CC) rfl ⟨HQ.o,HY.o⟩ (fun w' hS=>?hnw6) ?rnw6
 case hnw6=>obtain⟨hQ,hY⟩:=hS;refine Cc (t:=115) (by rfl) (by simp only[List.map_toArray,List.map_cons,List.map_nil];exact HBC.o)
 simp only[Act.put,J,U,Aa];refine Reg.Au [6] (by kernel_rfl) (by simp) ?_;intro j0 hj0;obtain rfl:j0=6:=by simpa using hj0
 clear hj0
 left
 have hb:Below wnw5.heap.size wnw5 (wnw5.alloc (.cells CC 115)):=Af.alloc Ae _;have hnb:=Blk.new wnw5 115 CC;refine⟨_,_,_,_,_,_,pv wnw5.heap.size,wnw5.alloc (.cells CC 115),rfl,by rfl,(by go_simp<;>rfl),⟨HQ.o.below hb,HY.o.below hb⟩,?_⟩;simp only[Act.put,J,U,Aa];obtain⟨w9,ew9⟩:∃z,z=wnw5.alloc (.cells CC 115):=⟨_,rfl⟩;rw[←ew9] at hb hnb⊢;clear ew9;replace HQ:=I (HQ.o.below hb);replace HY:=I (HY.o.below hb);replace HB:=HB.t hb;replace HB3:=HB3.t hb;have HC:=I hnb;have H9:=I (HB3.o);obtain⟨k9',ek⟩:∃z,z=wnw5.heap.size:=⟨_,rfl⟩;rw[←ek] at HC⊢;have EK:=I ek;clear ek hb hnb;refine Reg.tk 7 (v:=?vnw7) rfl ⟨HQ.o,HY.o⟩ (fun w' hS=>?hnw7) ?rnw7
 case hnw7=>go_simp<;>rfl
 simp only[Act.put,J,U,Aa];refine Reg.tk 8 (v:=?vnw8) rfl ⟨HQ.o,HY.o⟩ (fun w' hS=>?hnw8) ?rnw8
 case hnw8=>go_simp<;>rfl
 simp only[Act.put,J,U,Aa];refine wpAnyH_done (by kernel_rfl) ?_ _
 go_wp2
 go_ret2
 have hk:=HC.o;rw[ECC.o,EK.o] at hk;exact⟨⟨wnw5.heap.size,xb,wnw4.heap.size,P,ks⟩,_,(by first | rfl | (rw[EK.o];rfl)),rfl,rfl,Ky (Nat.le_trans HBW.o Ae) HX1.o HX2.o HCA.o Ae HH2.o H9.o Ae hk HS2.o,HB.o⟩
theorem Io (P:Pr) (ks:Nat→UInt8) (w:World) (hs:pSm P) (hp:Ax P=true):Calls Tryz.prog 37 #[prV P,.agg (Az ks)] w fun e w'=>∃x CC,e = .returned (.tuple #[pv x,.int .i64 0])∧w.heap.size≤x∧Tryz.prog.built 53 [(0,prV P),(1,.agg (Az ks))]=some CC∧Blk w' x 53 CC∧Below w.heap.size w w':=by
 obtain⟨W,eW⟩:∃W,W=(w.alloc (.cells #[.string ⟨P.1.toArray⟩,.string ⟨P.2.toArray⟩] 40)).alloc (.cells (Az ks) 35):=⟨_,rfl⟩;have hb:Below w.heap.size w W:=eW▸(Af.alloc Ae _).alloc (by simp) _;have HQ:=I (show Blk W w.heap.size 40 #[.string ⟨P.1.toArray⟩,.string ⟨P.2.toArray⟩] from eW▸(Blk.new w _ _).alloc _);have HY:=I (show Blk W (w.heap.size+1) 35 (Az ks) by have:=Blk.new (w.alloc (.cells #[.string ⟨P.1.toArray⟩,.string ⟨P.2.toArray⟩] 40)) 35 (Az ks);simp only[World.size_alloc] at this;exact eW▸this);have HYI:=I (show(Tryz.prog.info? 35).map (·.size)=some (Az ks).size by rw[Bd];kernel_rfl);have HB:=I hb;have C1:=I (fun(w1:World)=>Ah P.2 w1 hs.2);have C2:=I (fun(w1:World)=>Aj P.1 P.2 w1 hs.1 hs.2);have hp':Am P.1 P.2=true∧tgL P.2=false:=by
  unfold Ax at hp;rw[Bool.and_eq_true] at hp;exact⟨hp.1,by simpa using hp.2⟩
 rw[hp'.2] at C1;rw[hp'.1] at C2;have hbx:(Tryz.prog.built 53 [(0,prV P),(1,.agg (Az ks))]).isSome=true:=by kernel_rfl
 obtain⟨CC,hcc⟩:=Option.isSome_iff_exists.1 hbx;have HCC:=I hcc;clear hbx hcc;obtain⟨cy,ecy⟩:∃z,z=Az ks:=⟨_,rfl⟩;rw[←ecy] at HY HYI eW HCC⊢;have q1:W.cell? ⟨w.heap.size,1,none⟩=some (.string ⟨P.2.toArray⟩):=HQ.o.cell 1;clear hb hs hp hp' ecy;go_enter Tryz.func37,Tryz.ntmps37
 go_upto_region 1 with fail
 rw[←eW];clear eW
 go_wp2_with (first
  |(go_at_call 34;refine Calls.mono (C1.o _) ?_;rintro e w1 ⟨rfl,hb⟩;clear C1 q1;replace HQ:=I (HQ.o.below hb);replace HY:=I (HY.o.below hb);replace HB:=HB.t hb;have q0:w1.cell? ⟨w.heap.size,0,none⟩=some (.string ⟨P.1.toArray⟩):=HQ.o.cell 0;have q1:w1.cell? ⟨w.heap.size,1,none⟩=some (.string ⟨P.2.toArray⟩):=HQ.o.cell 1;clear hb)
  |(go_at_call 35;refine Calls.mono (C2.o _) ?_;rintro e w2 ⟨rfl,hb⟩;clear C2 q0 q1;replace HQ:=I (HQ.o.below hb);replace HY:=I (HY.o.below hb);replace HB:=HB.t hb;have q0:w2.cell? ⟨w.heap.size,0,none⟩=some (.string ⟨P.1.toArray⟩):=HQ.o.cell 0;have q1:w2.cell? ⟨w.heap.size,1,none⟩=some (.string ⟨P.2.toArray⟩):=HQ.o.cell 1;clear hb)
  |(refine Wh.Ab (by rfl) 35 (.tmp 3) (by rfl) (w.heap.size+1) 0 (by rfl) cy _ (Wh.Ak HY.o) Tryz.underlying35 (by rfl) HYI.o ?_)
  |(refine Mc.Ac (by rfl) 53 #[(0,.tmp 20),(1,.tmp 21)] (by rfl) CC (by simp only[List.map_toArray,List.map_cons,List.map_nil];exact HCC.o) ?_)
  |fail)
 go_ret2
 exact⟨w2.heap.size,CC,rfl,HB.o.size,HCC.o,Blk.new w2 _ _,HB.o.alloc HB.o.size _⟩
theorem Kz {w:World} {B B':Nat} {p:CP} {m:CM} {s:St} {c:Nat} (h:Cl w B p m s c) (hB:B'≤B):Cl w B' p m s c:=
 ⟨⟨h.pa.dis,fun i j a=>Nat.le_trans hB (h.pa.lo i j a),h.pa.lt,Nat.le_trans hB h.pa.hB⟩,h.blk,⟨h.ca.blk,Ca.Hq h.ca.row hB,Nat.le_trans hB h.ca.lo,h.ca.vr,h.ca.rd,fun e he a ha=>have q:=h.ca.off e he a ha;⟨Nat.le_trans hB q.1,q.2⟩⟩,h.li,h.box,h.bc,h.vis.from_ hB,h.sx,h.sy,h.ou⟩
abbrev prA (c x:Nat) (q:Pq):Array Value:=(pv c :: pv x :: .int .i64 q.no :: ((Az q.ks).toList++[.int .i64 q.u])).toArray
theorem Ip (c x:Nat):Tryz.prog.built 37 [(0,pv c),(1,pv x),(3,.agg (Az k9)),(4,.int .i64 3)]=some (prA c x pq0):=by kernel_rfl
theorem JJ (w:World):Calls Tryz.prog 14 #[] w fun e w'=>∃g x p m,e = .returned (pv g)∧p.P=annP∧p.ks=k9∧Cl w' w.heap.size p m st0 0∧¬AO p m g∧Blk w' g 37 (prA p.k x pq0)∧w.heap.size≤g∧Below w.heap.size w w':=by
 have hsm:pSm annP:=⟨by decide,by decide⟩;have L1:=I (fun(w1:World)=>l_ann w1);have C1:=I (fun(w1:World)=>BM annP k9 w1 hsm Ei);have C2:=I (fun(w1:World)=>Io annP k9 w1 hsm Ei);have HB9:=I Il;have HBP:=I Ip;obtain⟨cy,ecy⟩:∃z,z=Az k9:=⟨_,rfl⟩;rw[←ecy] at C1 C2 HB9 HBP;have HB:=I (Below.refl w.heap.size w);clear hsm ecy;go_enter Tryz.func14,Tryz.ntmps14
 go_upto_region 2 with(first
  |(go_at_call 32;refine Calls.mono (L1.o _) ?_;rintro e w1 ⟨rfl,hb⟩;replace HB:=HB.t hb;clear hb)
  |(refine Mc.Ac (by rfl) 35 #[(0,.const (.int .u8 9))] (by rfl) cy (by simp only[List.map_toArray,List.map_cons,List.map_nil];exact HB9.o) ?_)
  |(go_at_call 33;refine Calls.mono (C1.o _) ?_;rintro e w2 ⟨p,m,rfl,hp,hks,hk,hb⟩;clear C1;have HP:=I hp;have HKS:=I hks;have HK:=I hk;have HLO:=I HB.o.size;replace HB:=HB.t hb;clear hp hks hk hb)
  |fail)
 go_wp2_with (first
  |(go_at_call 32;refine Calls.mono (L1.o _) ?_;rintro e w3 ⟨rfl,hb⟩;clear L1;replace HB:=HB.t hb;replace HK:=I (HK.o.below hb);clear hb)
  |(refine Mc.Ac (by rfl) 35 #[(0,.const (.int .u8 9))] (by rfl) cy (by simp only[List.map_toArray,List.map_cons,List.map_nil];exact HB9.o) ?_)
  |(go_at_call 37;refine Calls.mono (C2.o _) ?_;rintro e w4 ⟨x,CC,rfl,_,_,_,hb⟩;clear C2;replace HB:=HB.t hb;replace HK:=I (HK.o.below hb);clear hb)
  |(refine Mc.Ac (by rfl) 37 #[(0,.tmp 23),(1,.tmp 24),(3,.tmp 25),(4,.const (.int .i64 3))] (by rfl) (prA p.k x pq0) (by simp only[List.map_toArray,List.map_cons,List.map_nil];exact HBP.o _ _) ?_)
  |fail)
 go_ret;have hb:Below w4.heap.size w4 (w4.alloc (.cells (prA p.k x pq0) 37)):=Af.alloc Ae _;exact⟨w4.heap.size,x,p,m,rfl,HP.o,HKS.o,(Kz HK.o HLO.o).below hb,HK.o.fresh Ae,Blk.new w4 _ _,HB.o.size,HB.o.trans (hb.mono HB.o.size)⟩
end Cl
namespace Cl
open Go.RowKit Ad Se
open Nm (L krb tgL tgR)
open Ms (Pr tmB pSm)
open Rg (prV)
open Ca (crA Bz Bw)
theorem BN (t:Pr) (now:Int) (w:World):Calls Tryz.prog 22 #[.pointer none,prV t,.int .i64 now] w fun e w'=>e = .returned (.tuple #[.string ⟨#[]⟩,.slice none 0 0,.int .i64 1])∧Below w.heap.size w w':=by
 have HB:=I (show Below w.heap.size w (w.alloc (.cells #[.string ⟨t.1.toArray⟩,.string ⟨t.2.toArray⟩] 40)) from Af.alloc Ae _);go_enter Tryz.func22,Tryz.ntmps22
 go_wp2
 refine bodyPost_ret (v:=.tuple #[.string ⟨#[]⟩,.slice none 0 0,.int .i64 1]) (AE 6 7 8 Tryz.results22 rfl rfl rfl) (by rfl) ?_;exact⟨rfl,HB.o⟩
theorem BO (b:Value) (now:Int) (w:World):Calls Tryz.prog 24 #[.pointer none,b,.int .i64 now] w fun e w'=>e = .returned (.tuple #[.string ⟨#[]⟩,.slice none 0 0])∧Below w.heap.size w w':=by
 go_enter Tryz.func24,Tryz.ntmps24
 go_wp2
 go_ret2
 exact⟨rfl,Below.refl _ _⟩
theorem BP (w:World):Calls Tryz.prog 16 #[.pointer none] w fun e w'=>e = .returned (.tuple #[.int .i64 0,.int .i64 0,.int .i64 0])∧Below w.heap.size w w':=by
 go_enter Tryz.func16,Tryz.ntmps16
 go_wp2
 refine bodyPost_ret (v:=.tuple #[.int .i64 0,.int .i64 0,.int .i64 0]) (AE 2 3 4 Tryz.results16 rfl rfl rfl) (by rfl) ?_;exact⟨rfl,Below.refl _ _⟩
theorem BQ (t:Pr) (now:Int) (w:World):Calls Tryz.prog 29 #[.pointer none,prV t,.int .i64 now] w fun e w'=>e = .returned (.tuple #[.slice none 0 0,.int .i64 1])∧Below w.heap.size w w':=by
 have HB:=I (show Below w.heap.size w (w.alloc (.cells #[.string ⟨t.1.toArray⟩,.string ⟨t.2.toArray⟩] 40)) from Af.alloc Ae _);go_enter Tryz.func29,Tryz.ntmps29
 go_wp2
 go_ret2
 exact⟨rfl,HB.o⟩
theorem Bj (t:Pr) (now:Int) (w:World):Calls Tryz.prog 17 #[.pointer none,prV t,.int .i64 now] w fun e w'=>e = .returned (.tuple #[.agg (crA Bz none 0),.bool false])∧Below w.heap.size w w':=by
 obtain⟨zs,ezs⟩:∃zs,zs=crA Bz none 0:=⟨_,rfl⟩;have EZ2:=I (ezs.trans Ca.Ez);have HZS:=I (show zs.size=37 by rw[ezs,Ca.Ag]);obtain⟨W,eW⟩:∃W,W=(w.alloc (.cells #[.string ⟨t.1.toArray⟩,.string ⟨t.2.toArray⟩] 40)).alloc (.cells zs 44):=⟨_,rfl⟩;have HZ:=I (show Blk W (w.heap.size+1) 44 zs by have:=Blk.new (w.alloc (.cells #[.string ⟨t.1.toArray⟩,.string ⟨t.2.toArray⟩] 40)) 44 zs;simp only[World.size_alloc] at this;exact eW▸this);have HB:=I (show Below w.heap.size w W from eW▸(Af.alloc Ae _).alloc (by simp) _);clear ezs;go_enter Tryz.func17,Tryz.ntmps17
 go_upto_region 1 with fail
 rw[←EZ2.o,←eW];clear eW EZ2
 go_wp2_with (first
  |(refine Wh.BZ (by rfl) 44 (.tmp 6) (.tmp 10) (by rfl) (w.heap.size+1) 44 zs HZ.o (crA Bz none 0) (by rfl) (by rfl) (by rw[HZS.o,Ca.Ag]) (by rw[Ca.Ag];exact Ca.AJ) (Ca.AX _ _ _) ?_;rintro V2 hV2 hg;have HV:=I hV2;replace HB:=I (btg HB.o hg (by omega));clear hV2 hg)
  |fail)
 refine bodyPost_ret (v:=.tuple #[.agg (crA Bz none 0),.bool false]) ?_ ?_ ?_
 ·exact Bw 6 7 44 ⟨w.heap.size+1,0,none⟩ Tryz.results17 (by rfl) (Wh.Ar HV.o Tryz.underlying44 (by rfl) (by rw[Ca.Ag];exact Ca.AJ)) (by rfl)
 ·rfl
 ·exact⟨rfl,HB.o⟩
theorem EI (P:Pr) (ks:Nat→UInt8) (w:World) (hs:pSm P) (hp:Ax P=false):Calls Tryz.prog 33 #[prV P,.agg (Az ks)] w fun e w'=>e = .returned (.tuple #[.pointer none,.int .i64 1])∧Below w.heap.size w w':=by
 obtain⟨W,eW⟩:∃W,W=(w.alloc (.cells #[.string ⟨P.1.toArray⟩,.string ⟨P.2.toArray⟩] 40)).alloc (.cells (Az ks) 35):=⟨_,rfl⟩;have HQ:=I (show Blk W w.heap.size 40 #[.string ⟨P.1.toArray⟩,.string ⟨P.2.toArray⟩] from eW▸(Blk.new w _ _).alloc _);have HB:=I (show Below w.heap.size w W from eW▸(Af.alloc Ae _).alloc (by simp) _);have C1:=I (fun(w1:World)=>Bn P w1 hs);rw[hp] at C1;have q0:W.cell? ⟨w.heap.size,0,none⟩=some (.string ⟨P.1.toArray⟩):=HQ.o.cell 0;have q1:W.cell? ⟨w.heap.size,1,none⟩=some (.string ⟨P.2.toArray⟩):=HQ.o.cell 1;obtain⟨cy,ecy⟩:∃z,z=Az ks:=⟨_,rfl⟩;rw[←ecy] at eW⊢;clear hs hp ecy;go_enter Tryz.func33,Tryz.ntmps33
 go_upto_region 1 with fail
 rw[←eW];clear eW
 go_wp2_with (first
  |(go_at_call 43;refine Calls.mono (C1.o _) ?_;rintro e w1 ⟨rfl,hb⟩;clear C1 q0 q1;replace HB:=HB.t hb;clear hb)
  |fail)
 go_ret2
 exact⟨rfl,HB.o⟩
end Cl
end Go.Proofs.YtlfmicidppccnaaGreat
