import Derived.Test.YthkdjblnmkkcfaaGreatZAcceptorOnce9
set_option maxHeartbeats 25600000
set_option maxRecDepth 100000
set_option linter.unusedVariables false
set_option linter.unusedSimpArgs false
namespace Go.Proofs.YthkdjblnmkkcfaaGreat
namespace Kd
open Af Se Ms
open Nm (krb L)
open Rg (It De Gb Ci numO)
open DerP (elem encI)
open SeL (Cv BJ)
theorem IM {p:L} {n:Int} {u:Int} {ks:Nat->UInt8} (hp:p.length<=784) (Z:0<=n) (M:n<=1099511627776) (hu:0<=u) (O:u<=255):Cv ks u n p=(Ek ks u.toNat n.toNat p,0):=by
 rw[Cv,if_pos ⟨hu,O,Z,M,hp⟩]
theorem Hd {p:L} {n:Int} {u:Int} {ks:Nat->UInt8} (hp:p.length<=784) (hn:0<=n) (O:n<=1099511627776) (hu:0<=u) (M:u<=255):BJ ks u (Cv ks u n p).1=(p,0):=by
 rw[IM hp hn O hu M,BJ,if_pos ⟨hu,M⟩];have h1:=WD ks u.toNat n.toNat p (by omega) hp;have Z:=WE ks u.toNat n.toNat p (by omega);simp only;rw[if_pos h1,Z]
theorem Ls {p:Pt} (hk:p.ss.length=32) (O:ptB p=true):(ptE p).length<=500:=by
 obtain⟨_,M,Z,_,_⟩:=Dv O;have l1:=(AX M).1;have l2:=AE 4 p.ss;have l3:=AE 27 p.tr;have l4:=AK p.st;have l5:=AK p.en;have l6:=AE 99 [prE p.c,elem 4 p.ss,elem 27 p.tr,encI p.st,encI p.en].flatten;have l7:[prE p.c,elem 4 p.ss,elem 27 p.tr,encI p.st,encI p.en].flatten.length=(prE p.c).length+((elem 4 p.ss).length+((elem 27 p.tr).length+((encI p.st).length+(encI p.en).length))):=by simp
 rw[ptE];omega
theorem Lt {a:An} (O:anB a=true):(anE a).length<=500:=by
 have M:prB a.c=true/\tmB a.t=true/\tmB a.q=true:=by simpa [anB] using O
 have l1:=(AX M.1).1;have l4:=AK a.t;have l5:=AK a.q;have l6:=AE 98 [prE a.c,encI a.t,encI a.q].flatten;have Z:[prE a.c,encI a.t,encI a.q].flatten.length=(prE a.c).length+((encI a.t).length+(encI a.q).length):=by simp
 rw[anE];omega
theorem JG {p:Pt} (hk:p.ss.length=32) (M:ptB p=true):ptO p=some (ptE p):=by rw[ptO,limO,if_pos ⟨M,by have:=Ls hk M;omega⟩]
theorem JH {p:An} (M:anB p=true):anO p=some (anE p):=by rw[anO,limO,if_pos ⟨M,by have:=Lt M;omega⟩]
theorem Yl {p:Pt} (M:ptB p=false):ptO p=none:=by rw[ptO,limO,M];rfl
theorem Ym {p:An} (M:anB p=false):anO p=none:=by rw[anO,limO,M];rfl
theorem dk {p:Pt} (hk:p.ss.length=32):(ptO p).isSome=ptB p:=by
 cases h:ptB p with
 |true=>rw[JG hk h];rfl
 |false=>rw[Yl h];rfl
theorem ab {p:Pt} (hk:p.ss.length=32) (M:ptB p=true):ptD (ptE p)=some p:=by rw[ptD,Od M hk];rw[if_pos (JG hk M)]
theorem ae {p:An} (M:anB p=true):anD (anE p)=some p:=by rw[anD,SM M];rw[if_pos (JH M)]
def lO (o:Option L):L:=o.getD []
end Kd
namespace Kd
open Af Se
open Nm (krb L)
open Rg (It De Gb Ci numO Num)
open Rt (Tp isT Sm)
abbrev Pr:=L×L
def rA:L:=[65,46,69,68,85]
def rE:L:=[69,68,85]
def rB:L:=[66,46,69,68,85]
def pAnn:Pr:=(rA,[97,110,110])
def kq (n:UInt8):Nat->UInt8:=fun i=>if i=0 then n else if i=1 then 7 else 0
def kb (n:UInt8):L:=(List.range 32).map (kq n)
def tT:Tp:=⟨[rA,rE,rB],[(rA,rE),(rE,rA),(rE,rB),(rB,rE)],[]⟩
theorem dm:isT tT=true:=by decide +kernel
theorem af:Sm tT:=⟨by decide,by decide,by decide,by decide,by decide,by decide⟩
end Kd
namespace Kd
open Af Se
open Nm (krb L)
open Rg (It De)
open Ms (Pr Tk Pt An ptD anD pt0 an0)
open SeL (BJ)
def shwL (l:List It) (t:Tk) (now:Int):Int×Pt:=
 match De l t.s t.k with
 |none=>(4,pt0)
 |some i=>
  if (BJ (keyO l (some i)) 2 t.b).2=0 then
   match ptD (BJ (keyO l (some i)) 2 t.b).1 with
   |none=>(2,pt0)
   |some p=>if p.en<now then (7,pt0) else if now+5<p.st then (8,pt0) else (0,p)
  else (3,pt0)
def athL (ss a:L) (u:Int) (c:Pr):Int×An:=
 if (BJ (ksOf ss) u a).2=0 then
  match anD (BJ (ksOf ss) u a).1 with
  |none=>(2,an0)
  |some x=>if x.c=c then (0,x) else (9,an0)
 else (3,an0)
end Kd
namespace Rp
open Ms (An)
abbrev Tm (x:Int):Prop:=0<=x/\x<=4611686018427387904
def old (now t:Int):Bool:=decide (t+5<now)
def BY (now:Int) (l:List An):List An:=l.filter (fun a=>!old now a.t)
def skw (on:Bool) (st t now:Int):Bool:=old t now||(old now t||(on && !old t st))
def seeE (on:Bool) (st:Int) (l:List An) (a:An) (now:Int):Int:=if skw on st a.t now=true then 8 else if a∈BY now l then 12 else if 8<=(BY now l).length then 13 else 0
def seeL (on:Bool) (st:Int) (l:List An) (a:An) (now:Int):List An:=if skw on st a.t now=true then l else if a∈BY now l\/8<=(BY now l).length then BY now l else BY now l++[a]
theorem Uf (now:Int) (l:List An):(BY now l).length<=l.length:=List.length_filter_le _ _
theorem WK {now:Int} {l:List An} {a:An} (h:a∈BY now l):a∈l:=(List.mem_filter.1 h).1
theorem Ug {on:Bool} {st now:Int} {l:List An} {a:An} (h:l.length<=8):(seeL on st l a now).length<=8:=by
 have:=Uf now l;unfold seeL
 split
 ·exact h
 ·split
  ·omega
  ·rename_i h1
   simp only[List.length_append,List.length_singleton];omega
open Af
def Inv (on:Bool) (st:Int) (l S:List An) (now:Int):Prop:=∀a∈S,a.t<=now+5/\(a∈l\/a.t+5<now\/(on=true/\a.t<=st+5))
theorem MX (on:Bool) (st:Int) (l:List An) (now:Int):Inv on st l [] now:=fun a M=>by cases M
theorem JI {on:Bool} {st now M:Int} {l S:List An} (h:Inv on st l S now) (Z:now<=M):Inv true M [] S M:=fun a O=>
 ⟨by have:=(h a O).1;omega,.inr (.inr ⟨rfl,by have:=(h a O).1;omega⟩)⟩
theorem OC {on:Bool} {st now M:Int} {l S:List An} {a:An} (h:Inv on st l S now) (hn:now<=M) (hs:seeE on st l a M=0):¬a∈S:=fun ha=>by
 have h1:=h a ha;have hk:skw on st a.t M=false:=by
  cases hk:skw on st a.t M with
  |false=>rfl
  |true=>rw[seeE,if_pos hk] at hs;cases hs
 have av:¬a∈BY M l:=fun hm=>by
  rw[seeE,if_neg (by rw[hk];simp),if_pos hm] at hs;cases hs
 unfold skw old at hk;simp only[Bool.or_eq_false_iff,Bool.and_eq_false_iff,decide_eq_false_iff_not,Bool.not_eq_false',decide_eq_true_eq] at hk;obtain⟨k1,k2,O⟩:=hk;rcases h1.2 with Z | Z | ⟨Z,h3⟩
 ·exact av (List.mem_filter.2 ⟨Z,by simp [old];omega⟩)
 ·omega
 ·rcases O with O | O
  ·rw[Z] at O;cases O
  ·omega
theorem Lu {on:Bool} {st now M:Int} {l S:List An} {a:An} (h:Inv on st l S now) (hn:now<=M):Inv on st (seeL on st l a M) S M:=fun x Z=>by
 have h1:=h x Z;refine⟨by omega,?_⟩;rcases h1.2 with O | O | O
 ·by_cases ho:x.t+5<M
  ·exact .inr (.inl ho)
  ·left
   have hk:x∈BY M l:=List.mem_filter.2 ⟨O,by simp [old];omega⟩;unfold seeL
   split
   ·exact O
   ·split
    ·exact hk
    ·exact List.mem_append_left _ hk
 ·exact .inr (.inl (by omega))
 ·exact .inr (.inr O)
theorem OD {on:Bool} {st now M:Int} {l S:List An} {a:An} (h:Inv on st l S now) (Z:now<=M) (hs:seeE on st l a M=0):Inv on st (seeL on st l a M) (a :: S) M:=fun x O=>by
 rcases List.mem_cons.1 O with rfl | O
 ·have hk:skw on st x.t M=false:=by
   cases hk:skw on st x.t M with
   |false=>rfl
   |true=>rw[seeE,if_pos hk] at hs;cases hs
  refine⟨?_,.inl ?_⟩
  ·unfold skw old at hk
   simp only[Bool.or_eq_false_iff,decide_eq_false_iff_not] at hk;omega
  ·rw[seeE,if_neg (by rw[hk];simp)] at hs
   rw[seeL,if_neg (by rw[hk];simp)]
   split at hs
   ·cases hs
   ·rename_i h1
    split at hs
    ·cases hs
    ·rename_i h2
     rw[if_neg (fun z=>z.elim h1 h2)];simp
 ·exact Lu h Z x O
end Rp
namespace Ac
open Af Kd
open Nm (L)
open Rg (It)
open Ms (Tk Pt An Ap Mg mgD tmB pt0 an0 pr0 key0)
open Rt (Tp GV)
open Tr (expL)
open Rp (seeE seeL)
structure Acc where
 c:Ms.Pr
 s:Ms.Pr
 ss:L
 tr:List L
 t:Int
 q:Int
def acc0:Acc:=⟨pr0,pr0,key0,[],0,0⟩
def pasL (T:Tp) (R:L) (p:Pt):Int×List L:=
 if (expL p.tr p.c.1 R).2=0 then
  if p.c.1∈T.R then if GV T p.c.1 R (expL p.tr p.c.1 R).1=true then (0,(expL p.tr p.c.1 R).1) else (11,[]) else (1,[])
 else (((expL p.tr p.c.1 R).2:Int),[])
structure Lk where
 e:Int
 p:Pt
 a:An
 l:List L
def lk0 (e:Int):Lk:=⟨e,pt0,an0,[]⟩
def lokC (T:Tp) (R:L) (p:Pt) (x:An):Lk:=if (pasL T R p).1=0 then ⟨0,p,x,(pasL T R p).2⟩ else lk0 (pasL T R p).1
def lokB (T:Tp) (R:L) (p:Pt) (a:L):Lk:=if (athL p.ss a 11 p.c).1=0 then lokC T R p (athL p.ss a 11 p.c).2 else lk0 (athL p.ss a 11 p.c).1
def lokA (P:Ms.Pr) (T:Tp) (l:List It) (q:Ap) (now:Int):Lk:=
 if q.t.s=P then
  if (shwL l q.t now).1=0 then lokB T P.1 (shwL l q.t now).2 q.a else lk0 (shwL l q.t now).1
 else lk0 9
def lokL (P:Ms.Pr) (T:Tp) (l:List It) (b:L) (now:Int):Lk:=
 if tmB now=true then
  match mgD b with
  |none=>lk0 2
  |some m=>if m.k=4 then lokA P T l m.ap now else lk0 2
 else lk0 1
def takE (r:Lk) (on:Bool) (st:Int) (sn:List An) (now:Int):Int:=if r.e=0 then seeE on st sn r.a now else r.e
def takS (r:Lk) (on:Bool) (st:Int) (sn:List An) (now:Int):List An:=if r.e=0 then seeL on st sn r.a now else sn
def takA (P:Ms.Pr) (r:Lk) (on:Bool) (st:Int) (sn:List An) (now:Int):Acc:=if takE r on st sn now=0 then ⟨r.p.c,P,r.p.ss,r.l,r.a.t,r.a.q⟩ else acc0
end Ac
namespace Ac
open Af Kd Se
open Nm (L)
open Rg (It De KU Kj)
open Ms (Tk Pt An Ap Mg mgD mgO mgB mgE apB tkB BP inB tmB ptB anB prB ptO anO ptE anE pt0 an0 pr0 key0 as0 tg0 re0 ap0 fa0)
open Rt (Tp GV)
open Tr (expL)
open SeL (Cv BJ)
def pSv:Ms.Pr:=(rB,[109,97,105,108])
def k1 (n:UInt8):Nat->UInt8:=fun i=>if i=0 then n else 0
def k1L (n:UInt8):L:=(List.range 32).map (k1 n)
theorem FF (n:UInt8):(k1L n).length=32:=by simp [k1L]
def itS:List It:=[⟨pSv,1,k1 1⟩,⟨pSv,2,k1 2⟩]
def rqM (kv:Int) (n:UInt8) (p:Pt) (a:An):Mg:=⟨4,as0,tg0,re0,⟨⟨pSv,kv,(Cv (k1 n) 2 5 (lO (ptO p))).1⟩,(Cv (ksOf p.ss) 11 6 (lO (anO a))).1⟩,fa0⟩
def rqOk (kv:Int) (n:UInt8) (p:Pt) (a:An):Bool:=(ptO p).isSome&&((anO a).isSome&&(mgO (rqM kv n p a)).isSome)
def rqL (kv:Int) (n:UInt8) (p:Pt) (a:An):L:=lO (mgO (rqM kv n p a))
section
variable {kv:Int} {n:UInt8} {p:Pt} {a:An} {now:Int} {T:Tp}
theorem Lv {i:Int} (h:(4:Int)≠i):¬(rqM kv n p a).k=i:=h
theorem ag {q:Ap} (h:apB q=true):(Ms.apE q).length<=1800:=by
 have M:tkB q.t=true/\BP q.a=true:=by simpa [apB] using h
 have O:=(Ms.Cp M.1).1;have Z:=Ms.Bl M.2;have h4:=Ms.AE 4 q.a;unfold Ms.apE;refine Nat.le_trans (Ms.AE _ _) ?_;rw[Ms.Dj,List.length_append];omega
theorem dn (hk:p.ss.length=32) (hp:ptB p=true) (Z:anB a=true) (h1:1<=kv) (h2:kv<=255):mgB (rqM kv n p a)=true:=by
 have g1:=Ls hk hp;have g2:=Lt Z;have b1:BP (rqM kv n p a).ap.t.b=true:=by
  simp only[rqM];rw[JG hk hp,lO,Option.getD_some,IM (by omega) (by decide) (by decide) (by decide) (by decide)];simp only[BP,Cy,Bool.and_eq_true,decide_eq_true_eq];omega
 have b2:BP (rqM kv n p a).ap.a=true:=by
  simp only[rqM];rw[JH Z,lO,Option.getD_some,IM (by omega) (by decide) (by decide) (by decide) (by decide)];simp only[BP,Cy,Bool.and_eq_true,decide_eq_true_eq];omega
 have hs:prB pSv=true:=by decide +kernel
 have O:inB kv 1 255=true:=by simp [inB,h1,h2]
 have M:apB (rqM kv n p a).ap=true:=by
  unfold apB tkB;rw[b1,b2];show(prB pSv&&(inB kv 1 255&&true)&&true)=true;rw[hs,O];rfl
 unfold mgB;rw[if_neg (Lv (by decide)),if_neg (Lv (by decide)),if_neg (Lv (by decide)),if_pos (show(rqM kv n p a).k=4 by rfl),M];exact decide_eq_true rfl
theorem ah (hk:p.ss.length=32) (hp:ptB p=true) (ha:anB a=true) (Z:1<=kv) (O:kv<=255):mgO (rqM kv n p a)=some (rqL kv n p a):=by
 have hm:=dn (n:=n) hk hp ha Z O;have M:apB (rqM kv n p a).ap=true:=by
  have:=hm;unfold mgB at this;rw[if_neg (Lv (by decide)),if_neg (Lv (by decide)),if_neg (Lv (by decide)),if_pos (show(rqM kv n p a).k=4 by rfl),Bool.and_eq_true] at this;exact this.1
 have e:mgO (rqM kv n p a)=some (mgE (rqM kv n p a)):=by
  have O:(mgE (rqM kv n p a)).length<=2000:=by
   show(Ms.apE (rqM kv n p a).ap).length<=2000;have:=ag M;omega
  rw[mgO,Ms.limO,if_pos ⟨hm,O⟩]
 rw[rqL,e,lO,Option.getD_some]
theorem dp (h:rqOk kv n p a=true):mgD (rqL kv n p a)=some (rqM kv n p a):=by
 obtain⟨b,M⟩:=Option.isSome_iff_exists.1 (show(mgO (rqM kv n p a)).isSome=true by simp only[rqOk,Bool.and_eq_true] at h;exact h.2.2);rw[rqL,M,lO,Option.getD_some];exact Ms.SN.2 M
theorem dq (hk:p.ss.length=32):rqOk kv n p a=(ptB p&&(anB a&&inB kv 1 255)):=by
 unfold rqOk;rw[dk hk];cases hp:ptB p with
 |false=>rfl
 |true=>
  cases ha:anB a with
  |false=>rw[Ym ha];rfl
  |true=>
   rw[JH ha];cases hi:inB kv 1 255 with
   |true=>
    have M:1<=kv/\kv<=255:=by simpa [inB] using hi
    rw[ah hk hp ha M.1 M.2];rfl
   |false=>
    have:mgB (rqM kv n p a)=false:=by
     unfold mgB;rw[if_neg (Lv (by decide)),if_neg (Lv (by decide)),if_neg (Lv (by decide)),if_pos (show(rqM kv n p a).k=4 by rfl)];have:apB (rqM kv n p a).ap=false:=by
      unfold apB tkB;rw[show inB (rqM kv n p a).ap.t.k 1 255=false from hi];simp
     rw[this];rfl
    rw[mgO,Ms.limO,this];rfl
theorem Uh (hk:p.ss.length=32) (hp:ptB p=true) (O:anB a=true) (Z:1<=kv) (M:kv<=255):rqOk kv n p a=true:=by
 rw[dq hk,hp,O];simp [inB,Z,M]
theorem WL (hk:p.ss.length=32) (h:rqOk kv n p a=true):ptB p=true/\anB a=true/\1<=kv/\kv<=255:=by
 rw[dq hk,Bool.and_eq_true,Bool.and_eq_true] at h;exact⟨h.1,h.2.1,by simpa [inB] using h.2.2⟩
theorem dr {i:Nat} (hk:p.ss.length=32) (hp:ptB p=true) (M:De itS pSv kv=some i) (hi:keyO itS (some i)=k1 n) :
  shwL itS (rqM kv n p a).ap.t now=if p.en<now then (7,pt0) else if now+5<p.st then (8,pt0) else (0,p):=by
 have Z:=Ls hk hp;have O:BJ (keyO itS (some i)) 2 (Cv (k1 n) 2 5 (lO (ptO p))).1=(ptE p,0):=by
  rw[hi,JG hk hp,lO,Option.getD_some,Kd.Hd (by omega) (by decide) (by decide) (by decide) (by decide)]
 unfold shwL;rw[show(rqM kv n p a).ap.t.s=pSv from rfl,show(rqM kv n p a).ap.t.k=kv from rfl,show(rqM kv n p a).ap.t.b=(Cv (k1 n) 2 5 (lO (ptO p))).1 from rfl,M];simp only;rw[O];simp only;rw[if_pos trivial,ab hk hp]
theorem dt {c:Ms.Pr} (M:anB a=true):athL p.ss (rqM kv n p a).ap.a 11 c=if a.c=c then (0,a) else (9,an0):=by
 have Z:=Lt M;have O:BJ (ksOf p.ss) 11 (Cv (ksOf p.ss) 11 6 (lO (anO a))).1=(anE a,0):=by
  rw[JH M,lO,Option.getD_some,Kd.Hd (by omega) (by decide) (by decide) (by decide) (by decide)]
 unfold athL;rw[show(rqM kv n p a).ap.a=(Cv (ksOf p.ss) 11 6 (lO (anO a))).1 from rfl,O];simp only;rw[if_pos trivial,ae M]
def lkD (p:Pt) (a:An) (now:Int):Lk:=if p.en<now then lk0 7 else if now+5<p.st then lk0 8 else if a.c=p.c then lokC tT rB p a else lk0 9
theorem ai:De itS pSv 2=some 1:=KU (x:=⟨pSv,2,k1 2⟩) rfl rfl rfl (fun j y O M=>by
 obtain rfl:j=0:=by omega
 injection M with M;subst M;exact fun x=>absurd x.2 (by decide))
theorem aj {i:Nat} (hk:p.ss.length=32) (h:rqOk kv n p a=true) (M:De itS pSv kv=some i) (hi:keyO itS (some i)=k1 n) (O:tmB now=true):lokL pSv tT itS (rqL kv n p a) now=lkD p a now:=by
 obtain⟨hp,Z,_,_⟩:=WL hk h;unfold lokL lkD;rw[if_pos O,dp h];simp only;rw[if_pos (show(rqM kv n p a).k=4 from rfl)];unfold lokA;rw[if_pos (show(rqM kv n p a).ap.t.s=pSv from rfl),dr hk hp M hi]
 by_cases h1:p.en<now
 ·rw[if_pos h1,if_pos h1];rfl
 ·rw[if_neg h1,if_neg h1]
  by_cases h2:now+5<p.st
  ·rw[if_pos h2,if_pos h2];rfl
  ·rw[if_neg h2,if_neg h2]
   simp only;rw[if_pos trivial];unfold lokB;rw[dt Z]
   by_cases h3:a.c=p.c
   ·rw[if_pos h3,if_pos h3];rfl
   ·rw[if_neg h3,if_neg h3];rfl
theorem du (hk:p.ss.length=32) (h:rqOk 2 2 p a=true) (M:tmB now=true):lokL pSv tT itS (rqL 2 2 p a) now=lkD p a now:=aj hk h ai rfl M
end
end Ac
namespace Wh
open Go.RowKit Af
section
variable {w w':World} {g o:Nat} {t:TypeId} {cs ds ps:Array Value} {pre mid post:List Value}
theorem Ad (h:Blk w g t cs):w.rangeAt g 0 cs.toList:=fun j v M=>by
 rw[Nat.zero_add,h.cell];simpa using M
theorem Eb (h:Blk w g t cs) (hc:cs.toList=pre++(mid++post)) (o:Nat) (Z:o=pre.length):w.rangeAt g o mid:=fun j v M=>by
 subst Z;have O:j<mid.length:=(List.getElem?_eq_some_iff.1 M).1;rw[h.cell,<-Array.getElem?_toList,hc,List.getElem?_append_right (by omega),Nat.add_sub_cancel_left,List.getElem?_append_left O];exact M
theorem Cw (h:Blk w g t cs) (o n:Nat) (M:o+n<=cs.size):w.there g o n:=fun j O=>by
 rw[h.cell,Array.getElem?_eq_getElem (by omega)];exact⟨rfl,h.frozen (o+j)⟩
theorem Bn {g:Nat} {t:TypeId}:∀(M:List Value) (o:Nat) (w:World) (cs:Array Value),Blk w g t cs->o+M.length<=cs.size->
  ∃ds:Array Value,Blk (w.setCells g o M) g t ds/\ds.size=cs.size/\(∀i,o<=i->i<o+M.length->ds[i]? = M[i - o]?)/\(∀i,i<o\/o+M.length<=i->ds[i]? = cs[i]?)
 | [],o,w,cs,h,hl=>⟨cs,h,rfl,fun i Z O=>by simp at O;omega,fun i _=>rfl⟩
 |v :: r,o,w,cs,h,hl=>by
  rw[World.setCells];simp only[List.length_cons] at hl;obtain⟨ds,Z,O,h3,h4⟩:=Bn r (o+1) _ _ (h.set o v) (by simp;omega);simp only[List.length_cons];refine⟨ds,Z,by simpa using O,fun i hi hj=>?_,fun i hi=>?_⟩
  ·by_cases e:i=o
   ·subst e
    rw[h4 i (by omega),Nat.sub_self];rw[Array.getElem?_setIfInBounds_self_of_lt (by omega)]
    rfl
   ·rw[h3 i (by omega) (by omega),show i - o=(i - (o+1))+1 by omega]
    simp
  ·rw[h4 i (by omega)]
   exact Array.getElem?_setIfInBounds_ne (by omega)
theorem AJ (h:Blk w g t cs) (hs:cs.size=ds.size):Blk (w.setCells g 0 ds.toList) g t ds:=by
 obtain⟨es,M,Z,O,_⟩:=Bn ds.toList 0 w cs h (by simp;omega);have e:es=ds:=by
  apply Array.ext_getElem?;intro i
  by_cases hi:i<ds.size
  ·rw[O i (by omega) (by simp;omega)];simp
  ·rw[Array.getElem?_eq_none (by omega),Array.getElem?_eq_none (by omega)]
 rw[<-e];rw[<-e] at M;exact M
theorem Fg {row:Option Nat} {a:World} {g:Nat} (hp:row=some g\/a.heap.size<=g):∀(M:List Value) (o:Nat) (w:World),a.grownBy w row->a.grownBy (w.setCells g o M) row
 | [],_,_,h=>h
 |v :: r,o,w,h=>by rw[World.setCells];exact Fg hp r (o+1) _ (AM h (p:=⟨g,o,none⟩) hp v)
theorem Fh (w:World) (g o:Nat) (M:List Value):w.grownBy (w.setCells g o M) (some g):=Fg (.inl rfl) M o w (World.grownBy.refl _ _)
end
section
variable {P:Program} {ops:Array Oper} {rest:List Oper} {op:Oper} {a:Act} {w:World} {Q:Exit->Act->World->Prop}
theorem AF (hw:Region.wanted op (yielded ops a.tmps)=true) (ty:TypeId) (x:Operand) (M:op.op=.load ty x)
  (g o:Nat) (hx:a.eval x=.pointer (some ⟨g,o,none⟩)) (cs:Array Value) (d:TypeDesc) (Z:w.rangeAt g o cs.toList)
  (hu:P.underlying ty=some d) (O:d.isRow=true) (hi:(P.info? ty).map (·.size)=some cs.size)
  (h:wpList P ops Q rest (a.put op.dst (.agg cs)) w):wpList P ops Q (op :: rest) a w:=
 BigFrame.wpList_want hw fun _ hK=>wp_load_mid ty x M g o hx cs.toList d Z hu O (by rw[Array.length_toList];exact hi) (by simpa using hK _ _ h)
theorem Ui (w:World) (t:TypeId) (lit cs:Array Value) (hs:lit.size=cs.size):Blk ((w.alloc (.cells lit t)).setCells w.heap.size 0 cs.toList) w.heap.size t cs/\Below w.heap.size w ((w.alloc (.cells lit t)).setCells w.heap.size 0 cs.toList):=
 ⟨AJ (Blk.new w t lit) hs,Az ((Below.refl w.heap.size w).alloc Ag _) (Fh _ _ _ _) (by simp) Ag⟩
theorem Bb {w0:World} {lit:Array Value} (M:op.guard=none) (ty:TypeId) (x y:Operand) (Z:op.op=.store ty x y) (t:TypeId) (hw:w=w0.alloc (.cells lit t))
  (cells:Array Value) (hx:a.eval x=.pointer (some ⟨w0.heap.size,0,none⟩)) (hy:a.eval y=.agg cells) (hs:lit.size=cells.size)
  (hi:(P.info? ty).map (·.size)=some cells.size) (h1:cells.all (·.oneCell')=true)
  (h:∀V,Blk V w0.heap.size t cells->Below w0.heap.size w0 V->wpList P ops Q rest (a.put op.dst undef) V):wpList P ops Q (op :: rest) a w:=by
 subst hw;have O:=Ui w0 t lit cells hs;exact wpList_store_mid M ty x y Z w0.heap.size 0 cells hx hy (Cw (Blk.new w0 t lit) _ _ (by omega)) hi h1 (h _ O.1 O.2)
theorem AW (M:op.guard=none) (ty:TypeId) (x y:Operand) (Z:op.op=.store ty x y) (g:Nat) (t:TypeId) (old:Array Value) (O:Blk w g t old)
  (cells:Array Value) (hx:a.eval x=.pointer (some ⟨g,0,none⟩)) (hy:a.eval y=.agg cells) (hs:old.size=cells.size)
  (hi:(P.info? ty).map (·.size)=some cells.size) (h1:cells.all (·.oneCell')=true)
  (h:∀V,Blk V g t cells->w.grownBy V (some g)->wpList P ops Q rest (a.put op.dst undef) V):wpList P ops Q (op :: rest) a w:=
 wpList_store_mid M ty x y Z g 0 cells hx hy (Cw O _ _ (by omega)) hi h1 (h _ (AJ O hs) (Fh _ _ _ _))
theorem Au {fn:Func} {tmps:Array Value} {w:World} {v:Value} (t:Nat) (ty:TypeId) (a:Addr) (M:fn.results=#[.cell t ty]) (Z:tmps.getD t undef=.pointer (some a)) (hl:(loadVar ty a).run P w=.ok v w) :
  (results fn tmps).run P w=.ok v w:=by
 have O:tmps[t]?.getD undef=.pointer (some a):=by simpa using Z
 simp [results,M,O,asAddr,hl]
theorem Ao {g:Nat} {t ty:TypeId} {cs:Array Value} {d:TypeDesc} (h:Blk w g t cs) (hu:P.underlying ty=some d) (M:d.isRow=true) (hi:(P.info? ty).map (·.size)=some cs.size) :
  (loadVar ty ⟨g,0,none⟩).run P w=.ok (.agg cs) w:=by
 have:=run_loadVar_mid (P:=P) w g 0 ty cs.toList d (Ad h) hu M (by simpa using hi)
 simpa using this
theorem BD {w':World} {o:Oper} {g:Nat} {t ty:TypeId} {cs:Array Value} {d:TypeDesc} (x:Operand) (O:o.op=.load ty x) (M:a.eval x=.pointer (some ⟨g,0,none⟩)) (h:Blk w' g t cs) (hu:P.underlying ty=some d) (Z:d.isRow=true) (hi:(P.info? ty).map (·.size)=some cs.size) :
  (execOp a.eval o).run P w'=.ok (.value (.agg cs)) w':=by
 unfold execOp;simp only[O,M,Instr.loadAt,Instr.sureAddr,Sem.run_bind,Sem.run_pure,Result.andThen_ok,Ao h hu Z hi]
end
theorem ak (l:List Value):∀(k:Nat) (Z:Array Value),k+l.length<=Z.size->((l.zipIdx k).foldl (fun a x=>a.setIfInBounds (0+x.2) x.1) Z).size=Z.size/\∀i,((l.zipIdx k).foldl (fun a x=>a.setIfInBounds (0+x.2) x.1) Z)[i]? = if k<=i/\i<k+l.length then l[i - k]? else Z[i]?:=by
 induction l with
 |nil=>
  intro k Z h;refine⟨rfl,fun i=>?_⟩;rw[if_neg (by simp)]
  rfl
 |cons c l ih=>
  intro k Z h;simp only[List.length_cons] at h;obtain⟨O,M⟩:=ih (k+1) (Z.setIfInBounds (0+k) c) (by simp;omega);rw[List.zipIdx_cons,List.foldl_cons];refine⟨by rw[O];simp,fun i=>?_⟩;rw[M]
  by_cases e:i=k
  ·subst e
   rw[if_neg (by omega),if_pos (by simp),Nat.sub_self,Nat.zero_add,Array.getElem?_setIfInBounds_self_of_lt (by omega)]
   rfl
  ·by_cases g:k+1<=i/\i<k+1+l.length
   ·rw[if_pos g,if_pos (by simp;omega),show i - k=(i - (k+1))+1 by omega]
    simp
   ·rw[if_neg g,if_neg (by simp;omega),Array.getElem?_setIfInBounds_ne (by omega)]
theorem WM (cs Z:Array Value) (n:Nat) (hn:cs.size=n) (hz:Z.size=n):Instr.fill (fun i=>some (i*n,n)) Z [(0,.agg cs)]=some cs:=by
 have M:=ak cs.toList 0 Z (by simp;omega);have e:cs.zipIdx.foldl (fun a (x:Value×Nat)=>a.setIfInBounds (0+x.2) x.1) Z=cs:=by
  rw[<-Array.foldl_toList,Array.toList_zipIdx];apply Array.ext_getElem?;intro i;rw[M.2]
  by_cases g:i<cs.size
  ·rw[if_pos (by simp;omega)];simp
  ·rw[if_neg (by simp;omega),Array.getElem?_eq_none (by omega),Array.getElem?_eq_none (by omega)]
 have O:(Value.agg cs).cells=cs:=rfl;unfold Instr.fill;simp only[Nat.zero_mul,O];rw[if_neg (by simp;omega)];unfold Instr.fill
 congr 1
section
variable {P:Program}
theorem Fi (w:World) (t e:TypeId) (cs:Array Value) (M:TypeInfo) (z:Value) (hu:P.underlying t=some (.slice e)) (O:P.info? e=some M) (Z:M.zero=some z) (hs:M.size=cs.size) (h0:0<cs.size) (av:cs.size<=16777216) :
  (Instr.buildSlice t 1 #[(0,.agg cs)]).run P w=.ok (.slice (some ⟨w.heap.size,0,none⟩) 1 1) (w.alloc (.cells cs e)):=
 run_buildSlice w t e 1 _ cs M z hu O Z (by rw[hs];omega) (by rw[hs];omega) (WM cs _ M.size hs.symm (by simp))
end
theorem FG {P:Program} {α:Type} (f:α->List Value) (n bytes:Nat) (hf:∀x,(f x).length=n) (h1:∀x,∀u∈f x,u.oneCell'=true) (w:World) (t ty e:TypeId) (i:TypeInfo) (z:Value) (ht:P.underlying t=some (.slice e)) (hi:P.info? e=some i) (hz:i.zero=some z) (hs:i.size=n) (hb:i.bytes=bytes) (Z:z.cells.size=n) (hn:0<n)
  (base:Nat) (v:Value) (l:List α) (O:w.ownsRow base e n v l.length (l.flatMap f)) (x:α) (g:Nat) (hg:Blk w g e (f x).toArray) (hl:l.length+1<=100000) (av:bytes<=10000) (M:base<=w.heap.size) :
  ∃v' w',(Builtin.append_ #[t,t] ty #[v,.slice (some ⟨g,0,none⟩) 1 1]).run P w=.ok v' w'/\w'.ownsRow base e n v' (l++[x]).length ((l++[x]).flatMap f)/\w.grownBy w' v.ownBlock/\(v'.ownBlock=v.ownBlock\/v'.ownBlock=some w.heap.size):=by
 obtain⟨v',w',h2,h3,h4,_,h5⟩:=run_append_own_at (P:=P) w base t ty e i z n bytes ht hi hz hs hb Z hn v l.length (l.flatMap f) O ⟨g,0,none⟩ 1 1 (f x) (by rw[hf];omega) (fun j u hu=>by
  rw[addr_add,Nat.zero_add,hg.cell j]
  simpa using hu) (h1 x) (by unfold maxLen;omega) (by
   have:(l.length+1)*bytes<=100000*10000:=Nat.mul_le_mul hl av;omega) M
 exact⟨v',w',h2,by rw[List.length_append,List.flatMap_append,List.flatMap_singleton];exact h3,h4,h5⟩
end Wh
namespace Rg
open Go.RowKit Af Se
abbrev prC (p:Pr):List Value:=[.string ⟨p.1.toArray⟩,.string ⟨p.2.toArray⟩]
abbrev prV (p:Pr):Value:=.agg #[.string ⟨p.1.toArray⟩,.string ⟨p.2.toArray⟩]
def iC (i:It):List Value:=.string ⟨i.p.1.toArray⟩ :: .string ⟨i.p.2.toArray⟩ :: .int .i64 (i.n:Int) :: (Bk i.k).toList
structure Ent where
 it:It
 b:Nat
 h:Option Nat
 a:Nat
 o:Nat
 r:Nat
def eC (e:Ent):List Value:=iC e.it++[.pointer (some ⟨e.b,0,none⟩)]
theorem Ce (i:It):(iC i).length=35:=by simp [iC,Ic]
theorem Cx (e:Ent):(eC e).length=36:=by simp [eC,Ce]
theorem Uj (i:It):∀u∈iC i,u.oneCell'=true:=by
 intro u hu;simp only[iC,List.mem_cons] at hu;rcases hu with h | h | h | h
 ·subst h;rfl
 ·subst h;rfl
 ·subst h;rfl
 ·have:=one32 i.k
  rw[Array.all_eq_true_iff_forall_mem] at this;exact this u (Array.mem_def.2 h)
theorem MY (e:Ent):∀u∈eC e,u.oneCell'=true:=by
 intro u hu;rcases List.mem_append.1 hu with h | h
 ·exact Uj _ u h
 ·rw[List.mem_singleton] at h;subst h;rfl
theorem Lw {α:Type} (f:α->List Value) (n:Nat) (h:∀x,(f x).length=n):∀l:List α,(l.flatMap f).length=l.length*n
 | []=>by simp
 |a :: l=>by simp only[List.flatMap_cons,List.length_append,h,Lw f n h l,List.length_cons,Nat.succ_mul];omega
theorem OE {α:Type} (f:α->List Value) (n:Nat) (h:∀x,(f x).length=n):∀(l:List α) (i:Nat) (x:α),l[i]? = some x->∀j v,(f x)[j]? = some v->(l.flatMap f)[i*n+j]? = some v
 | [],i,x,hx,_,_,_=>by simp at hx
 |a :: l,0,x,hx,j,v,hv=>by
  injection hx with hx;subst hx;have:=(List.getElem?_eq_some_iff.1 hv).1;rw[List.flatMap_cons,Nat.zero_mul,Nat.zero_add,List.getElem?_append_left this];exact hv
 |a :: l,i+1,x,hx,j,v,hv=>by
  rw[List.flatMap_cons,List.getElem?_append_right (by rw[h,Nat.succ_mul];omega),h,show(i+1)*n+j - n=i*n+j by rw[Nat.succ_mul];omega];exact OE f n h l i x hx j v hv
def RdR {α:Type} (w:World) (B:Nat) (A:Option Addr) (f:α->List Value) (n:Nat) (l:List α):Prop:=
 l = []\/∃g,A=some ⟨g,0,none⟩/\g<B/\∀i x,l[i]? = some x->w.rangeAt g (i*n) (f x)
theorem RdR.keep {α:Type} {w w':World} {B:Nat} {A:Option Addr} {f:α->List Value} {n:Nat} {l:List α} (h:RdR w B A f n l) (hb:Below B w w'):RdR w' B A f n l:=by
 rcases h with h | ⟨g,h1,M,O⟩
 ·exact .inl h
 ·exact .inr ⟨g,h1,M,fun i x Z j v hv=>(hb.cell (p:=⟨g,_,none⟩) M).trans (O i x Z j v hv)⟩
theorem RdR.more {α:Type} {w:World} {B B':Nat} {A:Option Addr} {f:α->List Value} {n:Nat} {l:List α} (h:RdR w B A f n l) (hB:B<=B'):RdR w B' A f n l:=by
 rcases h with h | ⟨g,O,Z,M⟩
 ·exact .inl h
 ·exact .inr ⟨g,O,by omega,M⟩
theorem RdR.at_ {α:Type} {w:World} {B:Nat} {A:Option Addr} {f:α->List Value} {n:Nat} {l:List α} {i:Nat} {x:α} (h:RdR w B A f n l) (M:l[i]? = some x):∃g,A=some ⟨g,0,none⟩/\g<B/\w.rangeAt g (i*n) (f x):=by
 rcases h with h | ⟨g,h1,O,Z⟩
 ·subst h;simp at M
 ·exact⟨g,h1,O,Z i x M⟩
theorem Bp {α:Type} {w:World} {base:Nat} {t:TypeId} {v:Value} {f:α->List Value} {n:Nat} {l:List α} (O:∀x,(f x).length=n) (h:w.ownsRow base t n v l.length (l.flatMap f)):∃A c,v=.slice A l.length c/\l.length<=c/\c<=maxLen/\RdR w w.heap.size A f n l:=by
 have h':=h;rcases h.2 with⟨M,h2⟩ | ⟨g,cap,cur,M,hg,hh,Z,hm,_⟩
 ·have e:l = []:=List.eq_nil_of_length_eq_zero h2
  subst e;exact⟨none,0,M,Nat.le_refl _,Nat.zero_le _,.inl rfl⟩
 ·subst M
  refine⟨_,cap,rfl,Z,hm,.inr ⟨g,rfl,(Array.getElem?_eq_some_iff.1 hh).1,fun i x hx j v hv=>?_⟩⟩;have M:=h'.cells (g:=g) rfl (i*n+j) v (OE f n O l i x hx j v hv);rw[addr_add,Nat.zero_add] at M;exact M
theorem Bs {S:Nat->Prop} {w w':World} {base size n:Nat} {t:TypeId} {v:Value} {xs:List Value} (h:Chg S w w') (O:w.ownsRow base t size v n xs) (hs:∀k,v.ownBlock=some k->¬S k):w'.ownsRow base t size v n xs:=by
 refine⟨O.1,?_⟩;rcases O.2 with Z | ⟨g,cap,cur,rfl,hb,M,rest⟩
 ·exact .inl Z
 ·exact .inr ⟨g,cap,cur,rfl,hb,(h.block g (Array.getElem?_eq_some_iff.1 M).1 (hs g rfl)).trans M,rest⟩
def its (es:List Ent):List It:=es.map (·.it)
theorem MZ {es:List Ent} {i:Nat} {e:Ent} (h:es[i]? = some e):(its es)[i]? = some e.it:=by simp [its,h]
theorem Yn {es:List Ent} {i:Nat} {x:It} (h:(its es)[i]? = some x):∃e,es[i]? = some e/\e.it=x:=by
 simpa [its] using h
theorem Dm (es:List Ent):(its es).length=es.length:=by simp [its]
structure Ring (w:World) (B r:Nat) (v:Value) (es:List Ent):Prop where
 blk:Blk w r 91 #[v]
 row:w.ownsRow B 95 36 v es.length (es.flatMap eC)
 lo:B<=r
 vr:v.ownBlock≠some r
 box:∀(i:Nat) (e:Ent),es[i]? = some e->Box w e.b e.it.k e.h e.a e.o e.r
 off:∀(i:Nat) (e:Ent),es[i]? = some e->∀k,Ow e.b e.h k->B<=k/\k≠r/\v.ownBlock≠some k
 far:∀(i j:Nat) (e f:Ent),es[i]? = some e->es[j]? = some f->i≠j->∀k,Ow e.b e.h k->¬Ow f.b f.h k
def RO (r:Nat) (v:Value) (es:List Ent) (k:Nat):Prop:=k=r\/v.ownBlock=some k\/∃(i:Nat) (e:Ent),es[i]? = some e/\Ow e.b e.h k
section
variable {w w':World} {B r:Nat} {v v':Value} {es:List Ent} {S:Nat->Prop}
theorem Ring.own_lo (h:Ring w B r v es) {k:Nat} (hk:RO r v es k):B<=k:=by
 rcases hk with hk | hk | ⟨i,e,he,hk⟩
 ·subst hk;exact h.lo
 ·exact(World.ownsRow.lt h.row k hk).1
 ·exact(h.off i e he k hk).1
theorem Ring.own_lt (h:Ring w B r v es) {k:Nat} (hk:RO r v es k):k<w.heap.size:=by
 rcases hk with hk | hk | ⟨i,e,he,hk⟩
 ·subst hk;exact h.blk.lt
 ·exact(World.ownsRow.lt h.row k hk).2
 ·exact(h.box i e he).own_lt k hk
theorem Ring.lt (h:Ring w B r v es):r<w.heap.size:=h.blk.lt
theorem Ring.chg (h:Ring w B r v es) (M:Chg S w w') (hs:∀k,RO r v es k->¬S k):Ring w' B r v es:=
 ⟨M.blk h.blk (hs r (.inl rfl)),Bs M h.row (fun k hk=>hs k (.inr (.inl hk))),h.lo,h.vr,fun i e he=>(h.box i e he).chg M (fun k hk=>hs k (.inr (.inr ⟨i,e,he,hk⟩))),h.off,h.far⟩
theorem Ring.below (h:Ring w B r v es) (M:Below w.heap.size w w'):Ring w' B r v es:=h.chg (S:=fun _=>False) (Chg.of_below M) (fun _ _ x=>x)
theorem Ring.drew (h:Ring w B r v es):Ring w.drew B r v es:=h.below (below_drewN Ah 1)
theorem Ring.num (h:Ring w B r v es):∃A c,v=.slice A es.length c/\es.length<=c/\c<=maxLen/\RdR w w.heap.size A eC 36 es:=Bp Cx h.row
theorem Ring.use (h:Ring w B r v es) {i:Nat} {e:Ent} (he:es[i]? = some e) {h':Option Nat} {a o q:Nat} (hx:Box w' e.b e.it.k h' a o q) (hs:Dl w w' e.b e.h h') (hB:B<=w.heap.size):Ring w' B r v (es.set i ⟨e.it,e.b,h',a,o,q⟩):=by
 have hi:=(List.getElem?_eq_some_iff.1 he).1;have O:∀(j:Nat) (f:Ent),(es.set i ⟨e.it,e.b,h',a,o,q⟩)[j]? = some f->(j=i/\f=⟨e.it,e.b,h',a,o,q⟩)\/(j≠i/\es[j]? = some f):=fun j f M=>by
  by_cases q:i=j
  ·subst q
   rw[List.getElem?_set_self hi] at M;injection M with M;exact .inl ⟨rfl,M.symm⟩
  ·rw[List.getElem?_set_ne q] at M
   exact .inr ⟨fun x=>q x.symm,M⟩
 have aw:∀k,Ow e.b h' k->Ow e.b e.h k\/w.heap.size<=k:=fun k hk=>by
  rcases Nat.lt_or_ge k w.heap.size with g | g
  ·exact .inl (hs.own k g hk)
  ·exact .inr g
 have bb:(es.set i ⟨e.it,e.b,h',a,o,q⟩).flatMap eC=es.flatMap eC:=by
  have:(es.set i ⟨e.it,e.b,h',a,o,q⟩).map eC=es.map eC:=by
   apply List.ext_getElem?;intro j;rw[List.getElem?_map,List.getElem?_map]
   by_cases g:i=j
   ·subst g;rw[List.getElem?_set_self hi,he];rfl
   ·rw[List.getElem?_set_ne g]
  rw[List.flatMap_def,List.flatMap_def,this]
 refine⟨hs.1.blk h.blk (fun x=>(h.off i e he r x).2.1 rfl),?_,h.lo,h.vr,fun j f M=>?_,fun j f M k hk=>?_,fun j j2 f f2 M Z bq k hk av=>?_⟩
 ·rw[bb,List.length_set]
  exact Bs hs.1 h.row (fun k hk x=>(h.off i e he k x).2.2 hk)
 ·rcases O j f M with⟨_,rfl⟩ | ⟨hj,M⟩
  ·exact hx
  ·exact(h.box j f M).chg hs.1 (fun k hk av=>h.far j i f e M he hj k hk av)
 ·rcases O j f M with⟨_,rfl⟩ | ⟨hj,M⟩
  ·rcases aw k hk with g | g
   ·exact h.off i e he k g
   ·exact⟨by omega,fun x=>by have:=h.lt;omega,fun x=>by have:=(World.ownsRow.lt h.row k x).2;omega⟩
  ·exact h.off j f M k hk
 ·rcases O j f M with⟨e1,rfl⟩ | ⟨hj,M⟩
  ·rcases O j2 f2 Z with⟨e2,rfl⟩ | ⟨bn,Z⟩
   ·exact bq (e1.trans e2.symm)
   ·rcases aw k hk with g | g
    ·exact h.far i j2 e f2 he Z (fun x=>bn x.symm) k g av
    ·have:=(h.box j2 f2 Z).own_lt k av;omega
  ·rcases O j2 f2 Z with⟨e2,rfl⟩ | ⟨bn,Z⟩
   ·rcases aw k av with g | g
    ·exact h.far j i f e M he hj k hk g
    ·have:=(h.box j f M).own_lt k hk;omega
   ·exact h.far j j2 f f2 M Z bq k hk av
theorem Ring.use_new (h:Ring w B r v es) {i:Nat} {e:Ent} (he:es[i]? = some e) {O:Option Nat} (a o q:Nat) (hs:Dl w w' e.b e.h O):∀k,RO r v (es.set i ⟨e.it,e.b,O,a,o,q⟩) k->RO r v es k\/w.heap.size<=k:=fun k hk=>by
 have hi:=(List.getElem?_eq_some_iff.1 he).1;rcases hk with hk | hk | ⟨j,f,M,hk⟩
 ·exact .inl (.inl hk)
 ·exact .inl (.inr (.inl hk))
 ·by_cases g:i=j
  ·subst g
   rw[List.getElem?_set_self hi] at M;injection M with M;subst M;rcases Nat.lt_or_ge k w.heap.size with g | g
   ·exact .inl (.inr (.inr ⟨i,e,he,hs.own k g hk⟩))
   ·exact .inr g
  ·rw[List.getElem?_set_ne g] at M
   exact .inl (.inr (.inr ⟨j,f,M,hk⟩))
theorem Ring.snoc (h:Ring w B r v es) {e:Ent} (hc:Chg (fun k=>k=r\/v.ownBlock=some k) w w') (hb:Blk w' r 91 #[v']) (bb:w'.ownsRow B 95 36 v' (es.length+1) (es.flatMap eC++eC e))
  (hv:v'.ownBlock=v.ownBlock\/∃k,v'.ownBlock=some k/\w.heap.size<=k/\k≠e.b) (bs:Box w' e.b e.it.k none e.a e.o e.r) (bz:w.heap.size<=e.b) (hh:e.h=none) (hB:B<=w.heap.size):Ring w' B r v' (es++[e]):=by
 have bx:=h.lt;have O:∀(j:Nat) (f:Ent),(es++[e])[j]? = some f->(es[j]? = some f)\/(j=es.length/\f=e):=fun j f M=>by
  by_cases g:j<es.length
  ·rw[List.getElem?_append_left g] at M;exact .inl M
  ·rw[List.getElem?_append_right (by omega)] at M
   have:=(List.getElem?_eq_some_iff.1 M).1;have e1:j=es.length:=by simp at this;omega
   subst e1;rw[Nat.sub_self] at M;injection M with M;exact .inr ⟨rfl,M.symm⟩
 have aw:∀k,Ow e.b e.h k->k=e.b:=fun k hk=>by
  rcases hk with hk | hk
  ·exact hk
  ·rw[hh] at hk;cases hk
 have bn:∀k,v'.ownBlock=some k->k<w.heap.size->v.ownBlock=some k:=fun k hk hl=>by
  rcases hv with g | ⟨q,g1,g2,_⟩
  ·rw[<-g];exact hk
  ·rw[g1] at hk;injection hk with hk;omega
 refine⟨hb,?_,h.lo,fun x=>h.vr (bn r x bx),fun j f M=>?_,fun j f M k hk=>?_,fun j j2 f f2 M bq Z k hk av=>?_⟩
 ·rw[List.length_append,List.length_singleton,List.flatMap_append,List.flatMap_singleton];exact bb
 ·rcases O j f M with g | ⟨_,rfl⟩
  ·refine(h.box j f g).chg hc (fun k hk x=>?_)
   rcases x with x | x
   ·exact(h.off j f g k hk).2.1 x
   ·exact(h.off j f g k hk).2.2 x
  ·rw[hh];exact bs
 ·rcases O j f M with g | ⟨_,rfl⟩
  ·have h1:=h.off j f g k hk
   exact⟨h1.1,h1.2.1,fun x=>h1.2.2 (bn k x ((h.box j f g).own_lt k hk))⟩
  ·rw[aw k hk]
   refine⟨by omega,by omega,fun x=>?_⟩;rcases hv with g | ⟨q,g1,_,g3⟩
   ·rw[g] at x;have:=(World.ownsRow.lt h.row _ x).2;omega
   ·rw[g1] at x;injection x with x;exact g3 x
 ·rcases O j f M with g | ⟨e1,rfl⟩
  ·rcases O j2 f2 bq with g2 | ⟨e2,rfl⟩
   ·exact h.far j j2 f f2 g g2 Z k hk av
   ·have:=(h.box j f g).own_lt k hk;have:=aw k av;omega
  ·rcases O j2 f2 bq with g2 | ⟨e2,rfl⟩
   ·have:=(h.box j2 f2 g2).own_lt k av;have:=aw k hk;omega
   ·exact Z (e1.trans e2.symm)
theorem WN (es:List Ent) (e:Ent):its (es++[e])=its es++[e.it]:=by simp [its]
end
theorem Yo (x y:Pr) (w:World):(Op.equalIn 10000 37 (.agg #[.string ⟨x.1.toArray⟩,.string ⟨x.2.toArray⟩]) (.agg #[.string ⟨y.1.toArray⟩,.string ⟨y.2.toArray⟩])).run Tryz.prog w=.ok (decide (x=y)) w:=by
 obtain⟨a,b⟩:=x;obtain⟨c,d⟩:=y;simp only
 by_cases h0:a=c
 ·subst h0
  by_cases h1:b=d
  ·subst h1
   rw[decide_eq_true rfl]
   go_simp
  ·rw[decide_eq_false (fun h=>h1 (congrArg (fun z=>z.2) h))]
   go_simp
 ·rw[decide_eq_false (fun h=>h0 (congrArg (fun z=>z.1) h))]
  go_simp
theorem Dn {x y:Pr} (h:x=y):∀w,(Op.equalIn 10000 37 (.agg #[.string ⟨x.1.toArray⟩,.string ⟨x.2.toArray⟩]) (.agg #[.string ⟨y.1.toArray⟩,.string ⟨y.2.toArray⟩])).run Tryz.prog w=.ok true w:=fun w=>by rw[Yo,decide_eq_true h]
theorem DR {x y:Pr} (h:x≠y):∀w,(Op.equalIn 10000 37 (.agg #[.string ⟨x.1.toArray⟩,.string ⟨x.2.toArray⟩]) (.agg #[.string ⟨y.1.toArray⟩,.string ⟨y.2.toArray⟩])).run Tryz.prog w=.ok false w:=fun w=>by rw[Yo,decide_eq_false h]
theorem Lx:(Tryz.prog.info? 95).map (·.size)=some 36:=by kernel_rfl
theorem Dp:(Tryz.prog.info? 37).map (·.size)=some 2:=by kernel_rfl
def Fs:Array Value:=#[.string ⟨#[]⟩,.string ⟨#[]⟩,.int .i64 0,.int .u8 0,.int .u8 0,.int .u8 0,.int .u8 0,.int .u8 0,.int .u8 0,.int .u8 0,.int .u8 0,.int .u8 0,.int .u8 0,.int .u8 0,.int .u8 0,.int .u8 0,.int .u8 0,.int .u8 0,.int .u8 0,.int .u8 0,.int .u8 0,.int .u8 0,.int .u8 0,.int .u8 0,.int .u8 0,.int .u8 0,.int .u8 0,.int .u8 0,.int .u8 0,.int .u8 0,.int .u8 0,.int .u8 0,.int .u8 0,.int .u8 0,.int .u8 0,.pointer none]
def eA (e:Ent):Array Value:=(eC e).toArray
theorem DB (e:Ent):(eA e).size=36:=by simp [eA,Cx]
theorem Uk (e:Ent):(eA e).all (·.oneCell')=true:=by
 rw[Array.all_eq_true_iff_forall_mem];intro u hu;exact MY e u (by simpa [eA] using hu)
theorem JJ (e:Ent):(eA e).toList=eC e:=by simp [eA]
theorem Ul {w:World} {g:Nat} {t:TypeId} {e:Ent} (h:Blk w g t (eA e)):w.rangeAt g 0 (#[.string ⟨e.it.p.1.toArray⟩,.string ⟨e.it.p.2.toArray⟩]:Array Value).toList:=
 Wh.Eb (pre:=[]) (post:=(eC e).drop 2) h (by rw[JJ];rfl) 0 rfl
theorem eA_n {w:World} {g:Nat} {t:TypeId} {e:Ent} (h:Blk w g t (eA e)):w.cell? ⟨g,2,none⟩=some (.int .i64 (e.it.n:Int)):=by
 rw[h.cell,eA,List.getElem?_toArray];rfl
theorem eA_b {w:World} {g:Nat} {t:TypeId} {e:Ent} (h:Blk w g t (eA e)):w.cell? ⟨g,35,none⟩=some (.pointer (some ⟨e.b,0,none⟩)):=by
 rw[h.cell,eA,List.getElem?_toArray,eC,List.getElem?_append_right (by simp [Ce]),Ce];rfl
def entC (es:List Ent):Option Nat->Array Value
 |none=>Fs
 |some j=>match es[j]? with
  |some e=>eA e
  |none=>Fs
theorem Na {es:List Ent} {j:Nat}:entC es (some j)=match es[j]? with
 |some e=>eA e
 |none=>Fs:=rfl
theorem Kv (es:List Ent) (o:Option Nat):entC es o=Fs\/∃e,entC es o=eA e:=by
 cases o with
 |none=>exact .inl rfl
 |some j=>
  rw[Na];cases es[j]? with
  |none=>exact .inl rfl
  |some e=>exact .inr ⟨e,rfl⟩
theorem JK (es:List Ent) (o:Option Nat):(entC es o).size=36:=by
 rcases Kv es o with h | ⟨e,h⟩
 ·rw[h];rfl
 ·rw[h];exact DB _
theorem Um:Fs.all (·.oneCell')=true:=by
 have h:∀u∈Fs.toList,u.oneCell'=true:=by
  unfold Fs;simp only[List.forall_mem_cons];simp [Value.oneCell']
 rw[Array.all_eq_true_iff_forall_mem];exact fun u hu=>h u (Array.mem_def.1 hu)
theorem WO (es:List Ent) (o:Option Nat):(entC es o).all (·.oneCell')=true:=by
 rcases Kv es o with h | ⟨e,h⟩
 ·rw[h];exact Um
 ·rw[h];exact Uk _
theorem an {es:List Ent} {i:Nat} {e:Ent} (h:es[i]? = some e):entC es (some i)=eA e:=by simp [entC,h]
theorem QW {es:List Ent} {i:Nat} {e:Ent} {p:Pr} (h:es[i]? = some e) (hp:e.it.p=p):BU (its es) p (i+1)=some i:=by
 rw[BU,if_pos (by rw[MZ h,<-hp];rfl)]
theorem OF {es:List Ent} {i:Nat} {e:Ent} {p:Pr} (h:es[i]? = some e) (hp:e.it.p≠p):BU (its es) p (i+1)=BU (its es) p i:=by
 rw[BU,if_neg];rw[MZ h];intro x;injection x with x;exact hp x
theorem PO (B r:Nat) (v:Value) (es:List Ent) (p:Pr) (w:World) (h:Ring w B r v es) (hl:es.length<=1000) :
  Calls Tryz.prog 25 #[.pointer (some ⟨r,0,none⟩),prV p] w fun e w'=>e=.returned (.agg (entC es (Gb (its es) p)))/\Below w.heap.size w w':=by
 obtain⟨A,c,rfl,hc,hm,hr⟩:=h.num;have cb:Gb (its es) p=BU (its es) p es.length:=by rw[Gb,Dm]
 rw[cb];have bB:=h.blk;obtain⟨n,en⟩:=Ak (es.length);rw[<-en] at bB hc hl⊢;have k0:=bB.c0;have cm:=bB.lt;have cx:=I bB;clear bB;have HR:=I hr;clear hr;have EN:=I en;clear en cb h;obtain⟨W,eW⟩:=Ak (((w.alloc (.cells #[.string ⟨p.1.toArray⟩,.string ⟨p.2.toArray⟩] 37)).alloc (.cells Fs 95)).alloc (.cells Fs 95));have hb:Below w.heap.size w W:=eW▸((Ah.alloc Ag _).alloc (by simp) _).alloc (by simp;omega) _;have HP:=I (show Blk W w.heap.size 37 #[.string ⟨p.1.toArray⟩,.string ⟨p.2.toArray⟩] from eW▸((Blk.new w _ _).alloc _).alloc _);have M:=I (show Blk W (w.heap.size+1) 95 Fs by have:=Blk.new (w.alloc (.cells #[.string ⟨p.1.toArray⟩,.string ⟨p.2.toArray⟩] 37)) 95 Fs;simp only[World.size_alloc] at this;exact eW▸this.alloc _);have O:=I (show Blk W (w.heap.size+1+1) 95 Fs by have:=Blk.new ((w.alloc (.cells #[.string ⟨p.1.toArray⟩,.string ⟨p.2.toArray⟩] 37)).alloc (.cells Fs 95)) 95 Fs;simp only[World.size_alloc] at this;exact eW▸this);have HB:=I hb;replace k0:W.cell? ⟨r,0,none⟩=some (.slice A n c):=(hb.cell (p:=⟨r,0,none⟩) cm).trans k0;replace HR:=I ((HR.o.keep hb));clear hb;go_enter Tryz.func25,Tryz.ntmps25
 go_upto_region 2 with fail
 change Code.wp _ _ _ _ (((w.alloc (.cells #[.string ⟨p.1.toArray⟩,.string ⟨p.2.toArray⟩] 37)).alloc (.cells Fs 95)).alloc (.cells Fs 95));rw[<-eW];obtain⟨N,eN⟩:=Ak (w.heap.size);rw[<-eN] at HP M O HB HR cm⊢;have cr:=I eN;clear eW eN
 go_wp2
 go_loopw [13] (fun iv wr=>∃i:Nat,i<=n/\iv=.int .i64 (i:Int)/\Below N w wr/\Blk wr N 37 #[.string ⟨p.1.toArray⟩,.string ⟨p.2.toArray⟩]/\Blk wr (N+1) 95 Fs/\Blk wr (N+1+1) 95 (entC es (BU (its es) p i))/\RdR wr N A eC 36 es) (fun iv _=>n - (intOf iv).toNat)
 case atStart=>exact⟨0,Nat.zero_le _,rfl,HB.o,HP.o,M.o,O.o,HR.o⟩
 case round=>
  clear HB HP M O HR k0;obtain⟨i,hi,rfl,hb,hp,ca,bn,hr⟩:=hrel;have HB:=I hb;have HP:=I hp;have M:=I ca;have O:=I bn;have aw:=I bn.lt
  by_cases hlt:i<n
  ·have e1:(i:Int)<(n:Int):=by omega
   have e2:(0:Int)<=(i:Int):=by omega
   obtain⟨x,hx⟩:∃x,es[i]? = some x:=⟨es[i]'(by rw[<-EN.o];exact hlt),List.getElem?_eq_getElem _⟩;obtain⟨g,rfl,cy,ck⟩:=hr.at_ hx;have HR:=I hr;rw[<-JJ] at ck;have cf:=I ck;have bx:=Uk x;have bq:=I bx;have av:=Lx;rw[<-DB x] at av;have Z:=I av;have HX:=I hx;have cc:=hp.cell 0;have cd:=hp.cell 1;obtain⟨cs,bb⟩:=Ak (eA x);rw[<-bb] at cf bq Z;have bs:=I bb;clear ck bx av hx hr hb hp ca bn bb cc cd
   by_cases hq:x.it.p=p
   ·have t1:=Dn hq
    have HQ:=I hq;clear hq
    go_wp2_with (first
     |(refine Wh.AF (by rfl) 95 (.tmp 15) (by rfl) g _ (by rfl) cs _ cf.o Tryz.underlying95 (by rfl) Z.o ?_)
     |(refine Wh.Bb (by rfl) 95 (.tmp 7) (.tmp 16) (by rfl) 95 rfl cs (by rfl) (by rfl) (by rw[bs.o,DB];rfl) Z.o bq.o ?_;rintro V hV hb;have HV:=I hV;replace HB:=I (HB.o.trans (hb.mono (by have:=aw.o;omega)));replace HP:=I (HP.o.below hb);replace M:=I (M.o.below hb);replace O:=I (O.o.below hb);replace HR:=I (HR.o.keep (hb.mono (by have:=aw.o;omega)));have cc:=HP.c0;have cd:=HP.c1;have cj:=I (Ul (bs.o▸hV));have cn:=I (Nat.lt_of_lt_of_le aw.o Ag);clear hV hb)
     |(refine Wh.AF (by rfl) 37 (.tmp 17) (by rfl) _ 0 (by rfl) _ _ cj.o Tryz.underlying37 (by rfl) Dp ?_)
     |(refine Wh.AF (by rfl) 95 (.tmp 7) (by rfl) _ 0 (by rfl) cs _ (Wh.Ad HV.o) Tryz.underlying95 (by rfl) Z.o ?_)
     |(refine Wh.AW (by rfl) 95 (.tmp 5) (.tmp 21) (by rfl) (N+1+1) 95 _ O.o cs (by rfl) (by rfl) (by rw[JK,bs.o,DB]) Z.o bq.o ?_;rintro V2 bz hg;replace HB:=I (Az HB.o hg (by have:=M.o.lt;omega) (by omega));replace HP:=I (HP.o.grown hg (by intro h;injection h with h;omega));replace M:=I (M.o.grown hg (by intro h;injection h with h;omega));replace HR:=I (HR.o.keep ((Below.refl N V).grown hg (by have:=M.o.lt;have:=O.o.lt;omega) (fun k hk=>by injection hk with hk;omega)));have cw:=I bz;clear bz hg cc cd O)
     |fail)
    go_roundw
    case rel=>exact⟨i+1,by omega,by go_num,HB.o,HP.o,M.o,by rw[QW HX.o HQ.o,an HX.o,<-bs.o];exact cw.o,HR.o⟩
    case measure=>simp [intOf];omega
   ·have t1:=DR hq
    have HQ:=I hq;clear hq
    go_wp2_with (first
     |(refine Wh.AF (by rfl) 95 (.tmp 15) (by rfl) g _ (by rfl) cs _ cf.o Tryz.underlying95 (by rfl) Z.o ?_)
     |(refine Wh.Bb (by rfl) 95 (.tmp 7) (.tmp 16) (by rfl) 95 rfl cs (by rfl) (by rfl) (by rw[bs.o,DB];rfl) Z.o bq.o ?_;rintro V hV hb;have HV:=I hV;replace HB:=I (HB.o.trans (hb.mono (by have:=aw.o;omega)));replace HP:=I (HP.o.below hb);replace M:=I (M.o.below hb);replace O:=I (O.o.below hb);replace HR:=I (HR.o.keep (hb.mono (by have:=aw.o;omega)));have cc:=HP.c0;have cd:=HP.c1;have cj:=I (Ul (bs.o▸hV));have cn:=I (Nat.lt_of_lt_of_le aw.o Ag);clear hV hb)
     |(refine Wh.AF (by rfl) 37 (.tmp 17) (by rfl) _ 0 (by rfl) _ _ cj.o Tryz.underlying37 (by rfl) Dp ?_)
     |fail)
    go_roundw
    case rel=>exact⟨i+1,by omega,by go_num,HB.o,HP.o,M.o,by rw[OF HX.o HQ.o];exact O.o,HR.o⟩
    case measure=>simp [intOf];omega
  ·have e1:¬(i:Int)<(n:Int):=by omega
   obtain rfl:n=i:=by omega
   have bx:=WO es (BU (its es) p n);have av:=Lx;rw[<-JK es (BU (its es) p n)] at av;have cg:=JK es (BU (its es) p n);obtain⟨cs,bb⟩:=Ak (entC es (BU (its es) p n));rw[<-bb] at bx av cg bn;have cp:=I bb;have bq:=I bx;have Z:=I av;have ct:=I cg;have HC:=I bn;clear bx av cg bn O hr hb hp ca hi bb
   go_wp2_with (first
    |(refine Wh.AF (by rfl) 95 (.tmp 5) (by rfl) _ 0 (by rfl) cs _ (Wh.Ad HC.o) Tryz.underlying95 (by rfl) Z.o ?_)
    |(refine Wh.AW (by rfl) 95 (.tmp 4) (.tmp 23) (by rfl) (N+1) 95 _ M.o cs (by rfl) (by rfl) (by rw[ct.o];rfl) Z.o bq.o ?_;rintro V2 bz hg;have cq:=I (Az HB.o hg (by have:=aw.o;omega) (by omega));have cu:=I bz;clear bz hg)
    |fail)
   refine bodyPost_ret (v:=.agg cs) ?_ ?_ ?_
   ·exact Wh.Au (v:=.agg cs) 4 95 ⟨N+1,0,none⟩ Tryz.results25 (by rfl) (Wh.Ao cu.o Tryz.underlying95 (by rfl) Z.o)
   ·rfl
   ·exact⟨by rw[cp.o],by rw[<-cr.o];exact cq.o⟩
def BoxR (es:List Ent) (p:Pr) (z:Int) (q:Option Addr) (k:Int):Prop:=
 (∃i x,De (its es) p z=some i/\es[i]? = some x/\q=some ⟨x.b,0,none⟩/\k=0)\/(De (its es) p z=none/\q=none/\k=4)
theorem Un (B r:Nat) (v:Value) (es:List Ent) (p:Pr) (z:Int) (w:World) (h:Ring w B r v es) (hl:es.length<=1000) :
  Calls Tryz.prog 89 #[.pointer (some ⟨r,0,none⟩),prV p,.int .i64 z] w fun e w'=>∃q k,e=.returned (.tuple #[.pointer q,.int .i64 k])/\BoxR es p z q k/\Below w.heap.size w w':=by
 obtain⟨A,c,rfl,hc,hm,hr⟩:=h.num;have bq:=h.blk;obtain⟨n,en⟩:=Ak (es.length);rw[<-en] at bq hc hl;have k0:=bq.c0;have cd:=bq.lt;have HR:=I hr;clear hr;have EN:=I en;clear en h bq;obtain⟨W,eW⟩:=Ak (w.alloc (.cells #[.string ⟨p.1.toArray⟩,.string ⟨p.2.toArray⟩] 37));have O:Below w.heap.size w W:=eW▸Ah.alloc Ag _;have Z:=I (show Blk W w.heap.size 37 #[.string ⟨p.1.toArray⟩,.string ⟨p.2.toArray⟩] from eW▸Blk.new w _ _);have HB:=I O;replace k0:W.cell? ⟨r,0,none⟩=some (.slice A n c):=(O.cell (p:=⟨r,0,none⟩) cd).trans k0;replace HR:=I ((HR.o.keep O));clear O;go_enter Tryz.func89,Tryz.ntmps89
 go_upto_region 1 with fail
 rw[<-eW];obtain⟨N,eN⟩:=Ak (w.heap.size);rw[<-eN] at Z HB HR cd⊢;have cg:=I eN;clear eW eN
 go_wp2
 go_loopw [17] (fun iv wr=>∃i:Nat,i<=n/\iv=.int .i64 (i:Int)/\Below N w wr/\Blk wr N 37 #[.string ⟨p.1.toArray⟩,.string ⟨p.2.toArray⟩]/\RdR wr N A eC 36 es/\(∀(j:Nat) (y:It),j<i->(its es)[j]? = some y->¬(y.p=p/\(y.n:Int)=z))) (fun iv _=>n - (intOf iv).toNat)
 case atStart=>exact⟨0,Nat.zero_le _,rfl,HB.o,Z.o,HR.o,fun j y hj=>absurd hj (Nat.not_lt_zero _)⟩
 case round=>
  clear HB Z HR k0;obtain⟨i,hi,rfl,O,hp,hr,cb⟩:=hrel;have HB:=I O;have Z:=I hp;have bx:=I cb;have aw:=I hp.lt
  by_cases hlt:i<n
  ·have e1:(i:Int)<(n:Int):=by omega
   have e2:(0:Int)<=(i:Int):=by omega
   obtain⟨x,hx⟩:∃x,es[i]? = some x:=⟨es[i]'(by rw[<-EN.o];exact hlt),List.getElem?_eq_getElem _⟩;obtain⟨g,rfl,ck,bB⟩:=hr.at_ hx;have HR:=I hr;rw[<-JJ] at bB;have bn:=I bB;have cj:=Uk x;have bs:=I cj;have bz:=Lx;rw[<-DB x] at bz;have av:=I bz;have HX:=I hx;obtain⟨cs,ca⟩:=Ak (eA x);rw[<-ca] at bn bs av;have M:=I ca;clear bB cj bz hx hr O hp ca cb
   by_cases hq:x.it.p=p
   ·have t1:=Dn hq
    have HQ:=I hq;clear hq
    by_cases hz:(x.it.n:Int)=z
    ·have t2:((x.it.n:Int)==z)=true:=beq_iff_eq.2 hz
     have HZ:=I hz;clear hz
     go_wp2_with (first
      |(refine Wh.AF (by rfl) 95 (.tmp 19) (by rfl) g _ (by rfl) cs _ bn.o Tryz.underlying95 (by rfl) av.o ?_)
      |(refine Wh.Bb (by rfl) 95 (.tmp 9) (.tmp 20) (by rfl) 95 rfl cs (by rfl) (by rfl) (by rw[M.o,DB];rfl) av.o bs.o ?_;rintro V hV O;replace HB:=I (HB.o.trans (O.mono (by have:=aw.o;omega)));replace Z:=I (Z.o.below O);replace HR:=I (HR.o.keep (O.mono (by have:=aw.o;omega)));have cc:=Z.c0;have cf:=Z.c1;have bb:=I (Ul (M.o▸hV));have kn:=eA_n (M.o▸hV);have kb:=eA_b (M.o▸hV);clear hV O)
      |(refine Wh.AF (by rfl) 37 (.tmp 21) (by rfl) _ 0 (by rfl) _ _ bb.o Tryz.underlying37 (by rfl) Dp ?_)
      |fail)
     go_ret2
     exact⟨_,_,rfl,.inl ⟨i,x,KU (MZ HX.o) HQ.o HZ.o bx.o,HX.o,rfl,rfl⟩,by rw[<-cg.o];exact HB.o⟩
    ·have t2:((x.it.n:Int)==z)=false:=beq_eq_false_iff_ne.2 hz
     have HZ:=I hz;clear hz
     go_wp2_with (first
      |(refine Wh.AF (by rfl) 95 (.tmp 19) (by rfl) g _ (by rfl) cs _ bn.o Tryz.underlying95 (by rfl) av.o ?_)
      |(refine Wh.Bb (by rfl) 95 (.tmp 9) (.tmp 20) (by rfl) 95 rfl cs (by rfl) (by rfl) (by rw[M.o,DB];rfl) av.o bs.o ?_;rintro V hV O;replace HB:=I (HB.o.trans (O.mono (by have:=aw.o;omega)));replace Z:=I (Z.o.below O);replace HR:=I (HR.o.keep (O.mono (by have:=aw.o;omega)));have cc:=Z.c0;have cf:=Z.c1;have bb:=I (Ul (M.o▸hV));have kn:=eA_n (M.o▸hV);have kb:=eA_b (M.o▸hV);clear hV O)
      |(refine Wh.AF (by rfl) 37 (.tmp 21) (by rfl) _ 0 (by rfl) _ _ bb.o Tryz.underlying37 (by rfl) Dp ?_)
      |fail)
     go_roundw
     case rel=>exact⟨i+1,by omega,by go_num,HB.o,Z.o,HR.o,fun j y hj hy=>by
      by_cases g:j=i
      ·subst g
       rw[MZ HX.o] at hy;injection hy with hy;subst hy;exact fun hh=>HZ.o hh.2
      ·exact bx.o j y (by omega) hy⟩
     case measure=>simp [intOf];omega
   ·have t1:=DR hq
    have HQ:=I hq;clear hq
    go_wp2_with (first
     |(refine Wh.AF (by rfl) 95 (.tmp 19) (by rfl) g _ (by rfl) cs _ bn.o Tryz.underlying95 (by rfl) av.o ?_)
     |(refine Wh.Bb (by rfl) 95 (.tmp 9) (.tmp 20) (by rfl) 95 rfl cs (by rfl) (by rfl) (by rw[M.o,DB];rfl) av.o bs.o ?_;rintro V hV O;replace HB:=I (HB.o.trans (O.mono (by have:=aw.o;omega)));replace Z:=I (Z.o.below O);replace HR:=I (HR.o.keep (O.mono (by have:=aw.o;omega)));have cc:=Z.c0;have cf:=Z.c1;have bb:=I (Ul (M.o▸hV));have kn:=eA_n (M.o▸hV);have kb:=eA_b (M.o▸hV);clear hV O)
     |(refine Wh.AF (by rfl) 37 (.tmp 21) (by rfl) _ 0 (by rfl) _ _ bb.o Tryz.underlying37 (by rfl) Dp ?_)
     |fail)
    go_roundw
    case rel=>exact⟨i+1,by omega,by go_num,HB.o,Z.o,HR.o,fun j y hj hy=>by
     by_cases g:j=i
     ·subst g
      rw[MZ HX.o] at hy;injection hy with hy;subst hy;exact fun hh=>HQ.o hh.1
     ·exact bx.o j y (by omega) hy⟩
    case measure=>simp [intOf];omega
  ·have e1:¬(i:Int)<(n:Int):=by omega
   obtain rfl:n=i:=by omega
   clear hr O hp hi cb
   go_wp2
   go_ret2
   exact⟨_,_,rfl,.inr ⟨Kj fun j y hy=>bx.o j y (by rw[EN.o,<-Dm];exact(List.getElem?_eq_some_iff.1 hy).1) hy,rfl,rfl⟩,by rw[<-cg.o];exact HB.o⟩
theorem Uo {B r:Nat} {v:Value} {es:List Ent} {p:Pr} {z:Int} {w:World} {i:Nat} {x:Ent} (h:Ring w B r v es) (hl:es.length<=1000) (Z:De (its es) p z=some i) (hx:es[i]? = some x) :
  Calls Tryz.prog 89 #[.pointer (some ⟨r,0,none⟩),prV p,.int .i64 z] w fun e w'=>e=.returned (.tuple #[.pointer (some ⟨x.b,0,none⟩),.int .i64 0])/\Below w.heap.size w w':=by
 refine(Un B r v es p z w h hl).mono ?_;rintro e w' ⟨q,k,rfl,hq,hb⟩;rcases hq with⟨j,y,M,O,rfl,rfl⟩ | ⟨M,_⟩
 ·rw[Z] at M;injection M with M;subst M
  rw[hx] at O;injection O with O;subst O;exact⟨rfl,hb⟩
 ·rw[Z] at M;cases M
theorem PS {B r:Nat} {v:Value} {es:List Ent} {p:Pr} {z:Int} {w:World} (h:Ring w B r v es) (hl:es.length<=1000) (Z:De (its es) p z=none) :
  Calls Tryz.prog 89 #[.pointer (some ⟨r,0,none⟩),prV p,.int .i64 z] w fun e w'=>e=.returned (.tuple #[.pointer none,.int .i64 4])/\Below w.heap.size w w':=by
 refine(Un B r v es p z w h hl).mono ?_;rintro e w' ⟨q,k,rfl,O,hb⟩;rcases O with⟨j,y,M,_⟩ | ⟨M,rfl,rfl⟩
 ·rw[Z] at M;cases M
 ·exact⟨rfl,hb⟩
theorem PU (B:Nat) (w:World) (hB:B<=w.heap.size):Calls Tryz.prog 9 #[] w fun e w'=>∃r,e=.returned (.pointer (some ⟨r,0,none⟩))/\w.heap.size<=r/\Ring w' B r (.slice none 0 0) []/\Below w.heap.size w w':=by
 have M:=(Below.refl w.heap.size w).alloc Ag (.cells #[.slice none 0 0] 91);have hk:=Blk.new w 91 #[.slice none 0 0];have O:=I M;clear M;have Z:=I hk;clear hk;go_enter Tryz.func9,Tryz.ntmps9
 go_wp2
 go_ret;exact⟨_,rfl,Nat.le_refl _,⟨Z.o,World.ownsRow_nil _ _ _ _,hB,by simp [Value.ownBlock],fun i e h=>by simp at h,fun i e h=>by simp at h,fun i j e f h=>by simp at h⟩,O.o⟩
theorem Ly (p:Pr) (w:World) (h1:p.1.length<=1000000000) (h2:p.2.length<=1000000000):Calls Tryz.prog 26 #[prV p] w fun e w'=>e=.returned (prV p)/\Below w.heap.size w w':=by
 have C1:=I (fun w1=>Nm.BZ p.1 w1 h1);have C2:=I (fun w1=>Nm.BZ p.2 w1 h2);go_enter Tryz.func26,Tryz.ntmps26
 go_upto_region 1 with fail
 obtain⟨W,eW⟩:=Ak ((w.alloc (.cells #[.string ⟨p.1.toArray⟩,.string ⟨p.2.toArray⟩] 37)).alloc (.cells #[.string ⟨#[]⟩,.string ⟨#[]⟩] 37));have hq:=Blk.new (w.alloc (.cells #[.string ⟨p.1.toArray⟩,.string ⟨p.2.toArray⟩] 37)) 37 #[.string ⟨#[]⟩,.string ⟨#[]⟩];rw[show(w.alloc (.cells #[.string ⟨p.1.toArray⟩,.string ⟨p.2.toArray⟩] 37)).heap.size=w.heap.size+1 by simp,<-eW] at hq;have O:=I (show Blk W w.heap.size 37 #[.string ⟨p.1.toArray⟩,.string ⟨p.2.toArray⟩] by rw[eW];exact(Blk.new _ _ _).alloc _);have M:=I hq;have HB:=I (show Below w.heap.size w W by rw[eW];exact(Ah.alloc Ag _).alloc (by simp) _);rw[<-eW];clear eW hq;replace O:=I (show Blk W.drew _ _ _ from O.o.drewN 1);replace M:=I (show Blk W.drew _ _ _ from M.o.drewN 1);replace HB:=I (show Below _ _ W.drew from below_drewN HB.o 1)
 go_region_held3 (fun w'=>w'.cell? ⟨w.heap.size,0,none⟩=some (.string ⟨p.1.toArray⟩)/\w'.cell? ⟨w.heap.size,1,none⟩=some (.string ⟨p.2.toArray⟩)) (first | exact⟨O.o.cell 0,O.o.cell 1⟩ | exact⟨(Si.Blk.far (Si.Blk.far O.o _ _ (by simp)) _ _ (by simp)).cell 0,(Si.Blk.far (Si.Blk.far O.o _ _ (by simp)) _ _ (by simp)).cell 1⟩) ((first
  |(go_at_call 55;(with_reducible refine Calls.mono (C1.o _) ?_);rintro e w1 ⟨rfl,Z⟩;clear C1;replace O:=I (O.o.below Z);replace M:=I (M.o.below Z);replace HB:=HB.t Z;have aw:=M.c0;have av:=M.c1;have fz:=M.o.frozen;clear Z)
  |(go_at_call 55;(with_reducible refine Calls.mono (C2.o _) ?_);rintro e w2 ⟨rfl,Z⟩;clear C2 aw av fz;replace O:=I (O.o.below Z);replace M:=I (M.o.below Z);replace HB:=HB.t Z;have aw:=M.c0;have av:=M.c1;have fz:=M.o.frozen;clear Z)))
 go_wp2
 have hz:=(M.o.set 0 (.string ⟨p.1.toArray⟩)).set 1 (.string ⟨p.2.toArray⟩);rw[show(((#[.string ⟨#[]⟩,.string ⟨#[]⟩]:Array Value).setIfInBounds 0 (.string ⟨p.1.toArray⟩)).setIfInBounds 1 (.string ⟨p.2.toArray⟩))=#[.string ⟨p.1.toArray⟩,.string ⟨p.2.toArray⟩] from rfl] at hz;refine bodyPost_ret (v:=prV p) ?_ ?_ ?_
 ·exact Wh.Au (v:=prV p) 2 37 ⟨w.heap.size+1,0,none⟩ Tryz.results26 (by rfl) (Wh.Ao hz Tryz.underlying37 (by rfl) Dp)
 ·rfl
 ·exact⟨rfl,Si.AS (Si.AS HB.o (by simp) _) (by simp) _⟩
def kC (k:Nat->UInt8):List Value:=(Bk k).toList
def OwnK (w:World) (base:Nat) (v:Value) (K:List (Nat->UInt8)):Prop:=w.ownsRow base 39 32 v K.length (K.flatMap kC)
theorem OwnK.below {w w':World} {base:Nat} {v:Value} {K:List (Nat->UInt8)} (h:OwnK w base v K) (M:Below w.heap.size w w'):OwnK w' base v K:=BS h M
theorem OG (p:Pr) (w:World) (O:p.1.length<=1000000000) (M:p.2.length<=1000000000):Calls Tryz.prog 24 #[prV p] w fun e w'=>e=.returned (.bool (prB p))/\Below w.heap.size w w':=Nm.AV p.1 p.2 w O M
theorem PW (es:List Ent) (o:Option Nat):(entC es o)[2]? = some (.int .i64 (numO (its es) o:Int)):=by
 cases o with
 |none=>rfl
 |some j=>
  rw[Na];cases h:es[j]? with
  |none=>simp [numO,its,h];rfl
  |some e=>
   have:numO (its es) (some j)=e.it.n:=by simp [numO,its,h]
   rw[this];rfl
theorem Nb (cs:Array Value) (z:Int) (h:cs[2]? = some (.int .i64 z)) (w:World):(Instr.field 95 (.agg cs) 1).run Tryz.prog w=.ok (.int .i64 z) w:=by
 unfold Instr.field part asAgg
 go_simp
theorem Ig {w w':World} {row:Option Nat} (h:w.grownBy w' row):Chg (fun q=>row=some q) w w':=⟨h.os,h.tape,h.output,h.size,fun i hi M=>h.block i hi (fun e=>M e.symm)⟩
theorem Lz {w Z w6:World} {B r b:Nat} {v v6:Value} {es:List Ent} {it:It} (h:Ring w B r v es) (hB:B<=w.heap.size) (hb:Below w.heap.size w Z) (h5:Ring Z B r v es) (hx:Box Z b it.k none 0 0 0) (av:w.heap.size<=b)
  (ho:w6.ownsRow B 95 36 v6 (es++[(⟨it,b,none,0,0,0⟩:Ent)]).length ((es++[(⟨it,b,none,0,0,0⟩:Ent)]).flatMap eC)) (hg:Z.grownBy w6 v.ownBlock) (hv:v6.ownBlock=v.ownBlock\/v6.ownBlock=some Z.heap.size) (bs:True) :
  Ring (w6.setCell ⟨r,0,none⟩ v6) B r v6 (es++[⟨it,b,none,0,0,0⟩])/\Chg (fun q=>q=r\/v.ownBlock=some q) w (w6.setCell ⟨r,0,none⟩ v6)/\(∀q,RO r v6 (es++[⟨it,b,none,0,0,0⟩]) q->RO r v es q\/w.heap.size<=q):=by
 have bq:=h.lt;have bx:=hx.lt;have bn:r≠b:=by omega
 have bb:v6.ownBlock≠some r:=fun x=>by
  rcases hv with g | g
  ·rw[g] at x;exact h.vr x
  ·rw[g] at x;injection x with x;have:=h5.lt;omega
 have O:Chg (fun q=>q=r) w6 (w6.setCell ⟨r,0,none⟩ v6):=Chg.set (p:=⟨r,0,none⟩) (Chg.refl (fun q=>q=r) w6) (.inl rfl) v6;have hc:Chg (fun q=>q=r\/v.ownBlock=some q) w (w6.setCell ⟨r,0,none⟩ v6):=
  (((Chg.of_below hb).trans (Ig hg) (fun q _ x=>.inr x)).trans O (fun q _ x=>.inl x):Chg (fun q=>q=r\/v.ownBlock=some q) w _)
 have aw:∀q,RO r v6 (es++[⟨it,b,none,0,0,0⟩]) q->RO r v es q\/w.heap.size<=q:=fun q M=>by
  rcases M with M | M | ⟨i,e,he,M⟩
  ·exact .inl (.inl M)
  ·rcases hv with g | g
   ·exact .inl (.inr (.inl (g▸M)))
   ·rw[g] at M;injection M with M;exact .inr (by have:=hb.size;omega)
  ·by_cases hi:i<es.length
   ·rw[List.getElem?_append_left hi] at he
    exact .inl (.inr (.inr ⟨i,e,he,M⟩))
   ·rw[List.getElem?_append_right (by omega)] at he
    have e1:=(List.getElem?_eq_some_iff.1 he).1;have e2:i - es.length=0:=by simp at e1;omega
    rw[e2] at he;injection he with he;subst he;rcases M with M | M
    ·exact .inr (by rw[M];exact av)
    ·cases M
 refine⟨h.snoc hc ?_ ?_ ?_ ?_ av rfl hB,hc,aw⟩
 ·exact(h5.blk.grown hg h5.vr).set 0 v6
 ·have:=Bs O ho (fun q M x=>bb (x▸M))
  rw[List.length_append,List.length_singleton,List.flatMap_append,List.flatMap_singleton] at this;exact this
 ·rcases hv with g | g
  ·exact .inl g
  ·exact .inr ⟨_,g,hb.size,by show Z.heap.size≠b;omega⟩
 ·have h6:Box w6 b it.k none 0 0 0:=hx.chg (Ig hg) (fun q M x=>by
   rcases M with M | M
   ·subst M;have:=(World.ownsRow.lt h.row q x).2;omega
   ·cases M)
  exact h6.chg O (fun q M x=>by
   rcases M with M | M
   ·exact bn (x▸M)
   ·cases M)
theorem ao:(Tryz.prog.info? 95).map (fun i=>(i.zero,i.size,i.bytes))=some (some (.agg Fs),36,80):=by kernel_rfl
section
variable {P:Program} {w w':World} {a:Act} {dst:Option Tmp} {ty:TypeId} {pos:String} {after:Array _} {guard:Option (Nat×Bool)}
theorem El {t:TypeId} {parts:Array (Nat×Operand)} {M:List (Nat×Value)} {cells:Array Value} (O:(parts.map fun x=>(x.1,a.eval x.2)).toList=M) (h:P.built t M=some cells) :
  (execOp a.eval ⟨dst,.build t parts,ty,pos,after,guard⟩).run P w=.ok (.value (.agg cells)) w:=by
 have:=run_build (P:=P) w t (parts.map fun x=>(x.1,a.eval x.2)) cells (by rw[O];exact h);simp only[execOp,Sem.run_bind,this,Result.andThen_ok,Sem.run_pure]
theorem Ck {t:TypeId} {x:Operand} {cs:Array Value} {s:Value} (M:a.eval x=.agg cs) (h:(Instr.buildSlice t 1 #[(0,.agg cs)]).run P w=.ok s w') :
  (execOp a.eval ⟨dst,.buildSlice t 1 #[(0,x)],ty,pos,after,guard⟩).run P w=.ok (.value s) w':=by
 simp only[execOp,Sem.run_bind,List.map_toArray,List.map_cons,List.map_nil,M,h,Result.andThen_ok,Sem.run_pure]
theorem DF {t:TypeId} {x y:Operand} {u v s:Value} (M:a.eval x=u) (O:a.eval y=v) (h:(Builtin.append_ #[t,t] ty #[u,v]).run P w=.ok s w') :
  (execOp a.eval ⟨dst,.call {callee:=.builtin .append,args:=#[x,y],argTypes:=#[t,t]},ty,pos,after,guard⟩).run P w=.ok (.value s) w':=by
 simp only[execOp,resolve,invoke,builtin,Sem.run_bind,Sem.run_pure,Result.andThen_ok,List.map_toArray,List.map_cons,List.map_nil,M,O,h]
end
theorem JL (p:Pr) (n b:Nat) (k:Nat->UInt8):Tryz.prog.built 95 [(0,prV p),(1,.int .i64 (n:Int)),(2,.agg (Bk k)),(3,.pointer (some ⟨b,0,none⟩))]=some (eA ⟨⟨p,n,k⟩,b,none,0,0,0⟩):=by
 kernel_rfl
theorem dw (B r:Nat) (v:Value) (es:List Ent) (p:Pr) (k:Nat->UInt8) (w:World) (h:Ring w B r v es) (hB:B<=w.heap.size) (h1:p.1.length<=1000000000) (h2:p.2.length<=1000000000) (hp:prB p=true) (hl:es.length<40) (hn:Ci (its es) p<255) :
  Calls Tryz.prog 10 #[.pointer (some ⟨r,0,none⟩),prV p,.agg (Bk k)] w fun e w'=>e=.returned (.tuple #[.int .i64 ((Ci (its es) p:Int)+1),.int .i64 0])/\∃v' b,w.heap.size<=b/\Ring w' B r v' (es++[⟨⟨p,Ci (its es) p+1,k⟩,b,none,0,0,0⟩])/\Chg (fun q=>q=r\/v.ownBlock=some q) w w'/\(∀q,RO r v' (es++[⟨⟨p,Ci (its es) p+1,k⟩,b,none,0,0,0⟩]) q->RO r v es q\/w.heap.size<=q):=by
 obtain⟨A,c,rfl,hc,hm,hr⟩:=h.num;obtain⟨n,en⟩:=Ak (es.length);have EN:=I en;obtain⟨z,ez⟩:=Ak (Ci (its es) p);have EZ:=I ez;have hq:=PW es (Gb (its es) p);rw[show numO (its es) (Gb (its es) p)=z from ez.symm] at hq;have CL:=I (fun(w1:World) (h:Ring w1 B r (.slice A es.length c) es)=>PO B r (.slice A es.length c) es p w1 h (by omega));have CP:=I (fun w1=>OG p w1 h1 h2);have CC:=I (fun w1=>Ly p w1 h1 h2);have CN:=I (fun w1=>Hw k w1);rw[hp] at CP;obtain⟨kv,ct⟩:=Ak (Bk k);obtain⟨cs,cP⟩:=Ak (entC es (Gb (its es) p));rw[<-cP] at CL hq;rw[<-ct] at CN⊢;rw[<-ez] at hn⊢;rw[<-en] at hl;have cT:=h.lt;obtain⟨W,eW⟩:=Ak ((w.alloc (.cells #[.string ⟨p.1.toArray⟩,.string ⟨p.2.toArray⟩] 37)).alloc (.cells kv 39));have Z:Below w.heap.size w W:=eW▸(Ah.alloc Ag _).alloc (by simp) _;have O:=I (show Blk W w.heap.size 37 #[.string ⟨p.1.toArray⟩,.string ⟨p.2.toArray⟩] from eW▸(Blk.new w _ _).alloc _);have HK:=I (show Blk W (w.heap.size+1) 39 kv by have:=Blk.new (w.alloc (.cells #[.string ⟨p.1.toArray⟩,.string ⟨p.2.toArray⟩] 37)) 39 kv;simp only[World.size_alloc] at this;exact eW▸this);have HB:=I Z;have M:=I (h.below Z);have HW:=I h;have cm:=O.c0;have cw:=O.c1;have cR:=Nb cs _ hq;have cX:IntKind.i64.wrap ((z:Int)+1)=(z:Int)+1:=by rw[IntKind.wrap_i64];omega
 have EK:=I ct;have cL:=I (show(Tryz.prog.info? 39).map (·.size)=some kv.size by rw[ct];exact Kr k);obtain⟨i0,cB,cy,cA,cM⟩:=info_parts ao;have cr:=I cB;have cn:=I cy;have cu:=I cA;have cq:=I cM;have cp:=I (fun(w1:World) (b:Nat)=>Wh.Fi (P:=Tryz.prog) w1 89 95 (eA ⟨⟨p,z+1,k⟩,b,none,0,0,0⟩) i0 _ Tryz.underlying89 cB cy (by rw[cA,DB]) (by rw[DB];omega) (by rw[DB];omega));have cf:=I hB;clear cB cy cA cM hB;have HN:=I hn;have t1:decide (40<=(n:Int))=false:=by simp;omega
 have t2:decide (255<=(z:Int))=false:=by simp;omega
 have HL:=I hl;clear Z h hr h1 h2 hp hn hl ct cP ez en hc hm hq;go_enter Tryz.func10,Tryz.ntmps10
 go_upto_region 1 with fail
 rw[<-eW];clear eW
 go_wp2_with (first
  |(go_at_call 24;refine Aj (CP.o _) ?_;rintro w1 Z;replace HB:=HB.t Z;replace M:=I (M.o.below Z);replace O:=I (O.o.below Z);replace HK:=I (HK.o.below Z);have cm:=O.c0;have cw:=O.c1;have kr:w1.cell? ⟨r,0,none⟩=some (.slice A n c):=EN.o▸M.o.blk.cell 0;clear Z)
  |(go_at_call 25;refine Aj (CL.o _ M.o) ?_;rintro w2 Z;clear cm cw kr;replace HB:=HB.t Z;replace M:=I (M.o.below Z);replace O:=I (O.o.below Z);replace HK:=I (HK.o.below Z);have cm:=O.c0;have cw:=O.c1;have kr:w2.cell? ⟨r,0,none⟩=some (.slice A n c):=EN.o▸M.o.blk.cell 0;clear Z)
  |fail)
 replace O:=I (show Blk w2.drew _ _ _ from O.o.drewN 1);replace HK:=I (show Blk w2.drew _ _ _ from HK.o.drewN 1);replace M:=I M.o.drew;replace HB:=I (show Below w.heap.size w w2.drew from below_drewN HB.o 1);clear cm cw kr;refine Reg.BQ (fun w'=>Blk w' w.heap.size 37 #[.string ⟨p.1.toArray⟩,.string ⟨p.2.toArray⟩]/\Blk w' (w.heap.size+1) 39 kv) 18 rfl (by kernel_rfl) ⟨O.o,HK.o⟩ ?_;obtain⟨W2,cQ⟩:=Ak (w2.drew);rw[<-cQ] at O HK M HB⊢;clear cQ;refine Reg.ty 0 rfl ⟨O.o,HK.o⟩ ?_;refine Reg.ty 1 rfl ⟨O.o,HK.o⟩ ?_;refine Reg.ty 2 rfl ⟨O.o,HK.o⟩ ?_;refine Reg.ty 3 rfl ⟨O.o,HK.o⟩ ?_;refine Reg.tw 5 (v:=.agg #[.string ⟨p.1.toArray⟩,.string ⟨p.2.toArray⟩]) rfl ⟨O.o,HK.o⟩ (fun w' hS=>by exact Wh.BD (.tmp 4) rfl rfl hS.1 Tryz.underlying37 rfl Dp) ?_;refine Reg.ty 7 rfl ⟨O.o,HK.o⟩ ?_;refine Reg.tw 8 (v:=.int .i64 ((z:Int)+1)) rfl ⟨O.o,HK.o⟩ (fun w' hS=>by go_simp) ?_;refine Reg.tw 9 (v:=.agg kv) rfl ⟨O.o,HK.o⟩ (fun w' hS=>by exact Wh.BD (.tmp 5) rfl rfl hS.2 Tryz.underlying39 rfl cL.o) ?_;refine Reg.tw 10 (v:=.agg kv) rfl ⟨O.o,HK.o⟩ (fun w' hS=>by exact Wh.BD (.tmp 5) rfl rfl hS.2 Tryz.underlying39 rfl cL.o) ?_;refine Reg.b2 4 6 ?_ ?_
 ·left
  have kr:W2.cell? ⟨r,0,none⟩=some (.slice A n c):=EN.o▸M.o.blk.cell 0;refine⟨_,_,_,_,_,_,_,_,rfl,by rfl,by(go_simp;rfl),⟨O.o,HK.o⟩,?_⟩;simp only[Act.put,U,Aa,Ab];clear kr;refine Reg.b1 6 ?_
  right
  refine⟨_,_,_,_,_,_,26,#[prV p],rfl,by rfl,by go_simp,?_⟩;refine(CC.o _).mono ?_;rintro e w3 ⟨rfl,Z⟩;replace HB:=HB.t Z;replace M:=I (M.o.below Z);replace O:=I (O.o.below Z);replace HK:=I (HK.o.below Z);clear Z;refine⟨_,rfl,⟨O.o,HK.o⟩,?_⟩;simp only[Act.put,U,Aa,Ab];refine Reg.b1 11 ?_
  right
  refine⟨_,_,_,_,_,_,27,#[.agg kv],rfl,by rfl,by go_simp,?_⟩;refine(CN.o _).mono ?_;rintro e w4 ⟨b,rfl,cg,cj,Z⟩;have cc:=I (Nat.le_trans HB.o.size cg);replace HB:=HB.t Z;replace M:=I (M.o.below Z);replace O:=I (O.o.below Z);replace HK:=I (HK.o.below Z);have cd:=I cj;clear Z cg cj;refine⟨_,rfl,⟨O.o,HK.o⟩,?_⟩;simp only[Act.put,U,Aa,Ab];refine Reg.tw 12 (v:=.agg (eA ⟨⟨p,z+1,k⟩,b,none,0,0,0⟩)) rfl ⟨O.o,HK.o⟩ (fun w' hS=>by exact El (by go_simp) (EK.o▸JL p (z+1) b k)) ?_;refine Reg.b1 13 ?_
  left
  have Z:Below w4.heap.size w4 (w4.alloc (.cells (eA ⟨⟨p,z+1,k⟩,b,none,0,0,0⟩) 95)):=Ah.alloc Ag _;refine⟨_,_,_,_,_,_,.slice (some ⟨w4.heap.size,0,none⟩) 1 1,(w4.alloc (.cells (eA ⟨⟨p,z+1,k⟩,b,none,0,0,0⟩) 95)),rfl,by rfl,Ck rfl (cp.o _ _),⟨O.o.below Z,HK.o.below Z⟩,?_⟩;simp only[Act.put,U,Aa,Ab];have cb:=I (Blk.new w4 95 (eA ⟨⟨p,z+1,k⟩,b,none,0,0,0⟩));have bq:=I (cd.o.below Z);have ck:=I cd.o.lt;replace HB:=HB.t Z;replace M:=I (M.o.below Z);replace O:=I (O.o.below Z);replace HK:=I (HK.o.below Z);clear Z;obtain⟨W5,bx⟩:=Ak ((w4.alloc (.cells (eA ⟨⟨p,z+1,k⟩,b,none,0,0,0⟩) 95)));have cx:=I (show w4.heap.size<W5.heap.size by rw[bx];simp);rw[<-bx] at cb bq HB M O HK⊢;clear bx;refine Reg.b1 14 ?_
  left
  obtain⟨v6,w6,aw,bz,bb,ca⟩:=Wh.FG (P:=Tryz.prog) eC 36 80 Cx MY W5 89 89 95 i0 _ Tryz.underlying89 cr.o cn.o cu.o cq.o (by rfl) (by omega) B _ es M.o.row ⟨⟨p,z+1,k⟩,b,none,0,0,0⟩ w4.heap.size cb.o (by have:=EN.o;have:=HL.o;omega) (by omega) (Nat.le_trans cf.o HB.o.size);rw[<-EN.o] at aw;replace O:=I (O.o.grown bb (fun x=>by have:=(World.ownsRow.lt HW.o.row _ x).2;omega));replace HK:=I (HK.o.grown bb (fun x=>by have:=(World.ownsRow.lt HW.o.row _ x).2;omega));refine⟨_,_,_,_,_,_,v6,w6,rfl,by rfl,DF rfl rfl aw,⟨O.o,HK.o⟩,?_⟩;simp only[Act.put,U,Aa,Ab];refine Reg.ty 15 rfl ⟨O.o,HK.o⟩ ?_;refine Reg.ty 16 rfl ⟨O.o,HK.o⟩ ?_;have bn:=fun(x:True)=>Lz HW.o cf.o HB.o M.o (it:=⟨p,z+1,k⟩) bq.o cc.o bz bb ca x
  have bs:=M.o.blk.grown bb M.o.vr;obtain⟨A7,c7,e7,_⟩:=Bp Cx bz;obtain⟨m7,bB⟩:=Ak ((es++[(⟨⟨p,z+1,k⟩,b,none,0,0,0⟩:Ent)]).length);rw[<-bB] at e7;subst e7;have f0:=bs.frozen 0;have k6:=bs.c0;refine Reg.BC 17 (w6.setCell ⟨r,0,none⟩ (.slice A7 m7 c7)) rfl (by kernel_rfl) (by rfl) (by go_simp) ⟨Si.Blk.far O.o _ _ (by simp;have:=HW.o.lt;omega),Si.Blk.far HK.o _ _ (by simp;have:=HW.o.lt;omega)⟩ ?_;simp only[Act.put,U,Aa,Ab];refine wpAnyH_done (by kernel_rfl) ?_ _;clear f0 k6 bs bz bb ca aw bB;have av:=I (bn trivial);clear bn
  go_wp2
  go_ret2
  exact⟨rfl,_,b,cc.o,av.o.1,av.o.2.1,av.o.2.2⟩
 ·right
  refine⟨_,_,_,_,_,_,26,#[prV p],rfl,by rfl,by go_simp,?_⟩;refine(CC.o _).mono ?_;rintro e w3 ⟨rfl,Z⟩;replace HB:=HB.t Z;replace M:=I (M.o.below Z);replace O:=I (O.o.below Z);replace HK:=I (HK.o.below Z);clear Z;refine⟨_,rfl,⟨O.o,HK.o⟩,?_⟩;simp only[Act.put,U,Aa,Ab];refine Reg.b2 4 11 ?_ ?_
  ·left
   have kr:w3.cell? ⟨r,0,none⟩=some (.slice A n c):=EN.o▸M.o.blk.cell 0;refine⟨_,_,_,_,_,_,_,_,rfl,by rfl,by(go_simp;rfl),⟨O.o,HK.o⟩,?_⟩;simp only[Act.put,U,Aa,Ab];clear kr;refine Reg.b1 11 ?_
   right
   refine⟨_,_,_,_,_,_,27,#[.agg kv],rfl,by rfl,by go_simp,?_⟩;refine(CN.o _).mono ?_;rintro e w4 ⟨b,rfl,cg,cj,Z⟩;have cc:=I (Nat.le_trans HB.o.size cg);replace HB:=HB.t Z;replace M:=I (M.o.below Z);replace O:=I (O.o.below Z);replace HK:=I (HK.o.below Z);have cd:=I cj;clear Z cg cj;refine⟨_,rfl,⟨O.o,HK.o⟩,?_⟩;simp only[Act.put,U,Aa,Ab];refine Reg.tw 12 (v:=.agg (eA ⟨⟨p,z+1,k⟩,b,none,0,0,0⟩)) rfl ⟨O.o,HK.o⟩ (fun w' hS=>by exact El (by go_simp) (EK.o▸JL p (z+1) b k)) ?_;refine Reg.b1 13 ?_
   left
   have Z:Below w4.heap.size w4 (w4.alloc (.cells (eA ⟨⟨p,z+1,k⟩,b,none,0,0,0⟩) 95)):=Ah.alloc Ag _;refine⟨_,_,_,_,_,_,.slice (some ⟨w4.heap.size,0,none⟩) 1 1,(w4.alloc (.cells (eA ⟨⟨p,z+1,k⟩,b,none,0,0,0⟩) 95)),rfl,by rfl,Ck rfl (cp.o _ _),⟨O.o.below Z,HK.o.below Z⟩,?_⟩;simp only[Act.put,U,Aa,Ab];have cb:=I (Blk.new w4 95 (eA ⟨⟨p,z+1,k⟩,b,none,0,0,0⟩));have bq:=I (cd.o.below Z);have ck:=I cd.o.lt;replace HB:=HB.t Z;replace M:=I (M.o.below Z);replace O:=I (O.o.below Z);replace HK:=I (HK.o.below Z);clear Z;obtain⟨W5,bx⟩:=Ak ((w4.alloc (.cells (eA ⟨⟨p,z+1,k⟩,b,none,0,0,0⟩) 95)));have cx:=I (show w4.heap.size<W5.heap.size by rw[bx];simp);rw[<-bx] at cb bq HB M O HK⊢;clear bx;refine Reg.b1 14 ?_
   left
   obtain⟨v6,w6,aw,bz,bb,ca⟩:=Wh.FG (P:=Tryz.prog) eC 36 80 Cx MY W5 89 89 95 i0 _ Tryz.underlying89 cr.o cn.o cu.o cq.o (by rfl) (by omega) B _ es M.o.row ⟨⟨p,z+1,k⟩,b,none,0,0,0⟩ w4.heap.size cb.o (by have:=EN.o;have:=HL.o;omega) (by omega) (Nat.le_trans cf.o HB.o.size);rw[<-EN.o] at aw;replace O:=I (O.o.grown bb (fun x=>by have:=(World.ownsRow.lt HW.o.row _ x).2;omega));replace HK:=I (HK.o.grown bb (fun x=>by have:=(World.ownsRow.lt HW.o.row _ x).2;omega));refine⟨_,_,_,_,_,_,v6,w6,rfl,by rfl,DF rfl rfl aw,⟨O.o,HK.o⟩,?_⟩;simp only[Act.put,U,Aa,Ab];refine Reg.ty 15 rfl ⟨O.o,HK.o⟩ ?_;refine Reg.ty 16 rfl ⟨O.o,HK.o⟩ ?_;have bn:=fun(x:True)=>Lz HW.o cf.o HB.o M.o (it:=⟨p,z+1,k⟩) bq.o cc.o bz bb ca x
   have bs:=M.o.blk.grown bb M.o.vr;obtain⟨A7,c7,e7,_⟩:=Bp Cx bz;obtain⟨m7,bB⟩:=Ak ((es++[(⟨⟨p,z+1,k⟩,b,none,0,0,0⟩:Ent)]).length);rw[<-bB] at e7;subst e7;have f0:=bs.frozen 0;have k6:=bs.c0;refine Reg.BC 17 (w6.setCell ⟨r,0,none⟩ (.slice A7 m7 c7)) rfl (by kernel_rfl) (by rfl) (by go_simp) ⟨Si.Blk.far O.o _ _ (by simp;have:=HW.o.lt;omega),Si.Blk.far HK.o _ _ (by simp;have:=HW.o.lt;omega)⟩ ?_;simp only[Act.put,U,Aa,Ab];refine wpAnyH_done (by kernel_rfl) ?_ _;clear f0 k6 bs bz bb ca aw bB;have av:=I (bn trivial);clear bn
   go_wp2
   go_ret2
   exact⟨rfl,_,b,cc.o,av.o.1,av.o.2.1,av.o.2.2⟩
  ·right
   refine⟨_,_,_,_,_,_,27,#[.agg kv],rfl,by rfl,by go_simp,?_⟩;refine(CN.o _).mono ?_;rintro e w4 ⟨b,rfl,cg,cj,Z⟩;have cc:=I (Nat.le_trans HB.o.size cg);replace HB:=HB.t Z;replace M:=I (M.o.below Z);replace O:=I (O.o.below Z);replace HK:=I (HK.o.below Z);have cd:=I cj;clear Z cg cj;refine⟨_,rfl,⟨O.o,HK.o⟩,?_⟩;simp only[Act.put,U,Aa,Ab];refine Reg.tw 12 (v:=.agg (eA ⟨⟨p,z+1,k⟩,b,none,0,0,0⟩)) rfl ⟨O.o,HK.o⟩ (fun w' hS=>by exact El (by go_simp) (EK.o▸JL p (z+1) b k)) ?_;refine Reg.b2 4 13 ?_ ?_
   ·left
    have kr:w4.cell? ⟨r,0,none⟩=some (.slice A n c):=EN.o▸M.o.blk.cell 0;refine⟨_,_,_,_,_,_,_,_,rfl,by rfl,by(go_simp;rfl),⟨O.o,HK.o⟩,?_⟩;simp only[Act.put,U,Aa,Ab];clear kr;refine Reg.b1 13 ?_
    left
    have Z:Below w4.heap.size w4 (w4.alloc (.cells (eA ⟨⟨p,z+1,k⟩,b,none,0,0,0⟩) 95)):=Ah.alloc Ag _;refine⟨_,_,_,_,_,_,.slice (some ⟨w4.heap.size,0,none⟩) 1 1,(w4.alloc (.cells (eA ⟨⟨p,z+1,k⟩,b,none,0,0,0⟩) 95)),rfl,by rfl,Ck rfl (cp.o _ _),⟨O.o.below Z,HK.o.below Z⟩,?_⟩;simp only[Act.put,U,Aa,Ab];have cb:=I (Blk.new w4 95 (eA ⟨⟨p,z+1,k⟩,b,none,0,0,0⟩));have bq:=I (cd.o.below Z);have ck:=I cd.o.lt;replace HB:=HB.t Z;replace M:=I (M.o.below Z);replace O:=I (O.o.below Z);replace HK:=I (HK.o.below Z);clear Z;obtain⟨W5,bx⟩:=Ak ((w4.alloc (.cells (eA ⟨⟨p,z+1,k⟩,b,none,0,0,0⟩) 95)));have cx:=I (show w4.heap.size<W5.heap.size by rw[bx];simp);rw[<-bx] at cb bq HB M O HK⊢;clear bx;refine Reg.b1 14 ?_
    left
    obtain⟨v6,w6,aw,bz,bb,ca⟩:=Wh.FG (P:=Tryz.prog) eC 36 80 Cx MY W5 89 89 95 i0 _ Tryz.underlying89 cr.o cn.o cu.o cq.o (by rfl) (by omega) B _ es M.o.row ⟨⟨p,z+1,k⟩,b,none,0,0,0⟩ w4.heap.size cb.o (by have:=EN.o;have:=HL.o;omega) (by omega) (Nat.le_trans cf.o HB.o.size);rw[<-EN.o] at aw;replace O:=I (O.o.grown bb (fun x=>by have:=(World.ownsRow.lt HW.o.row _ x).2;omega));replace HK:=I (HK.o.grown bb (fun x=>by have:=(World.ownsRow.lt HW.o.row _ x).2;omega));refine⟨_,_,_,_,_,_,v6,w6,rfl,by rfl,DF rfl rfl aw,⟨O.o,HK.o⟩,?_⟩;simp only[Act.put,U,Aa,Ab];refine Reg.ty 15 rfl ⟨O.o,HK.o⟩ ?_;refine Reg.ty 16 rfl ⟨O.o,HK.o⟩ ?_;have bn:=fun(x:True)=>Lz HW.o cf.o HB.o M.o (it:=⟨p,z+1,k⟩) bq.o cc.o bz bb ca x
    have bs:=M.o.blk.grown bb M.o.vr;obtain⟨A7,c7,e7,_⟩:=Bp Cx bz;obtain⟨m7,bB⟩:=Ak ((es++[(⟨⟨p,z+1,k⟩,b,none,0,0,0⟩:Ent)]).length);rw[<-bB] at e7;subst e7;have f0:=bs.frozen 0;have k6:=bs.c0;refine Reg.BC 17 (w6.setCell ⟨r,0,none⟩ (.slice A7 m7 c7)) rfl (by kernel_rfl) (by rfl) (by go_simp) ⟨Si.Blk.far O.o _ _ (by simp;have:=HW.o.lt;omega),Si.Blk.far HK.o _ _ (by simp;have:=HW.o.lt;omega)⟩ ?_;simp only[Act.put,U,Aa,Ab];refine wpAnyH_done (by kernel_rfl) ?_ _;clear f0 k6 bs bz bb ca aw bB;have av:=I (bn trivial);clear bn
    go_wp2
    go_ret2
    exact⟨rfl,_,b,cc.o,av.o.1,av.o.2.1,av.o.2.2⟩
   ·left
    have Z:Below w4.heap.size w4 (w4.alloc (.cells (eA ⟨⟨p,z+1,k⟩,b,none,0,0,0⟩) 95)):=Ah.alloc Ag _;refine⟨_,_,_,_,_,_,.slice (some ⟨w4.heap.size,0,none⟩) 1 1,(w4.alloc (.cells (eA ⟨⟨p,z+1,k⟩,b,none,0,0,0⟩) 95)),rfl,by rfl,Ck rfl (cp.o _ _),⟨O.o.below Z,HK.o.below Z⟩,?_⟩;simp only[Act.put,U,Aa,Ab];have cb:=I (Blk.new w4 95 (eA ⟨⟨p,z+1,k⟩,b,none,0,0,0⟩));have bq:=I (cd.o.below Z);have ck:=I cd.o.lt;replace HB:=HB.t Z;replace M:=I (M.o.below Z);replace O:=I (O.o.below Z);replace HK:=I (HK.o.below Z);clear Z;obtain⟨W5,bx⟩:=Ak ((w4.alloc (.cells (eA ⟨⟨p,z+1,k⟩,b,none,0,0,0⟩) 95)));have cx:=I (show w4.heap.size<W5.heap.size by rw[bx];simp);rw[<-bx] at cb bq HB M O HK⊢;clear bx;refine Reg.b1 4 ?_
    left
    have kr:W5.cell? ⟨r,0,none⟩=some (.slice A n c):=EN.o▸M.o.blk.cell 0;refine⟨_,_,_,_,_,_,_,_,rfl,by rfl,by(go_simp;rfl),⟨O.o,HK.o⟩,?_⟩;simp only[Act.put,U,Aa,Ab];clear kr;refine Reg.b1 14 ?_
    left
    obtain⟨v6,w6,aw,bz,bb,ca⟩:=Wh.FG (P:=Tryz.prog) eC 36 80 Cx MY W5 89 89 95 i0 _ Tryz.underlying89 cr.o cn.o cu.o cq.o (by rfl) (by omega) B _ es M.o.row ⟨⟨p,z+1,k⟩,b,none,0,0,0⟩ w4.heap.size cb.o (by have:=EN.o;have:=HL.o;omega) (by omega) (Nat.le_trans cf.o HB.o.size);rw[<-EN.o] at aw;replace O:=I (O.o.grown bb (fun x=>by have:=(World.ownsRow.lt HW.o.row _ x).2;omega));replace HK:=I (HK.o.grown bb (fun x=>by have:=(World.ownsRow.lt HW.o.row _ x).2;omega));refine⟨_,_,_,_,_,_,v6,w6,rfl,by rfl,DF rfl rfl aw,⟨O.o,HK.o⟩,?_⟩;simp only[Act.put,U,Aa,Ab];refine Reg.ty 15 rfl ⟨O.o,HK.o⟩ ?_;refine Reg.ty 16 rfl ⟨O.o,HK.o⟩ ?_;have bn:=fun(x:True)=>Lz HW.o cf.o HB.o M.o (it:=⟨p,z+1,k⟩) bq.o cc.o bz bb ca x
    have bs:=M.o.blk.grown bb M.o.vr;obtain⟨A7,c7,e7,_⟩:=Bp Cx bz;obtain⟨m7,bB⟩:=Ak ((es++[(⟨⟨p,z+1,k⟩,b,none,0,0,0⟩:Ent)]).length);rw[<-bB] at e7;subst e7;have f0:=bs.frozen 0;have k6:=bs.c0;refine Reg.BC 17 (w6.setCell ⟨r,0,none⟩ (.slice A7 m7 c7)) rfl (by kernel_rfl) (by rfl) (by go_simp) ⟨Si.Blk.far O.o _ _ (by simp;have:=HW.o.lt;omega),Si.Blk.far HK.o _ _ (by simp;have:=HW.o.lt;omega)⟩ ?_;simp only[Act.put,U,Aa,Ab];refine wpAnyH_done (by kernel_rfl) ?_ _;clear f0 k6 bs bz bb ca aw bB;have av:=I (bn trivial);clear bn
    go_wp2
    go_ret2
    exact⟨rfl,_,b,cc.o,av.o.1,av.o.2.1,av.o.2.2⟩
theorem au (r:Option Nat) (p:Pr) (k:Nat->UInt8) (w:World) (h1:p.1.length<=1000000000) (h2:p.2.length<=1000000000) (hp:r=none\/prB p=false) :
  Calls Tryz.prog 10 #[.pointer (r.map fun r=>⟨r,0,none⟩),prV p,.agg (Bk k)] w fun e w'=>e=.returned (.tuple #[.int .i64 0,.int .i64 1])/\Below w.heap.size w w':=by
 have CP:=I (fun w1=>OG p w1 h1 h2);obtain⟨kv,Z⟩:=Ak (Bk k);rw[<-Z];obtain⟨W,O⟩:=Ak ((w.alloc (.cells #[.string ⟨p.1.toArray⟩,.string ⟨p.2.toArray⟩] 37)).alloc (.cells kv 39));have hb:Below w.heap.size w W:=O▸(Ah.alloc Ag _).alloc (by simp) _;have M:Blk W w.heap.size 37 #[.string ⟨p.1.toArray⟩,.string ⟨p.2.toArray⟩]:=O▸(Blk.new w _ _).alloc _;have aw:=M.c0;have av:=M.c1;have HB:=I hb;clear hb M h1 h2 Z;cases r with
 |none=>
  clear hp;go_enter Tryz.func10,Tryz.ntmps10
  go_upto_region 1 with fail
  rw[<-O];clear O
  go_wp2
  go_ret2
  exact⟨rfl,HB.o⟩
 |some r=>
  have hp:prB p=false:=by
   rcases hp with h | h
   ·cases h
   ·exact h
  rw[hp] at CP;clear hp;show Calls _ _ #[.pointer (some ⟨r,0,none⟩),prV p,.agg kv] _ _;go_enter Tryz.func10,Tryz.ntmps10
  go_upto_region 1 with fail
  rw[<-O];clear O
  go_wp2_with (first
   |(go_at_call 24;refine Aj (CP.o _) ?_;rintro w1 hb;replace HB:=HB.t hb;clear hb)
   |fail)
  go_ret2
  exact⟨rfl,HB.o⟩
theorem WQ (B r:Nat) (v:Value) (es:List Ent) (p:Pr) (k:Nat->UInt8) (w:World) (h:Ring w B r v es) (h1:p.1.length<=1000000000) (h2:p.2.length<=1000000000) (hp:prB p=true) (hl:40<=es.length) (bq:es.length<=1000) :
  Calls Tryz.prog 10 #[.pointer (some ⟨r,0,none⟩),prV p,.agg (Bk k)] w fun e w'=>e=.returned (.tuple #[.int .i64 0,.int .i64 13])/\Below w.heap.size w w':=by
 obtain⟨A,c,rfl,hc,hm,hr⟩:=h.num;obtain⟨n,en⟩:=Ak (es.length);have EN:=I en;obtain⟨z,ez⟩:=Ak (Ci (its es) p);have hq:=PW es (Gb (its es) p);rw[show numO (its es) (Gb (its es) p)=z from ez.symm] at hq;have CL:=I (fun(w1:World) (h:Ring w1 B r (.slice A es.length c) es)=>PO B r (.slice A es.length c) es p w1 h (by omega));have CP:=I (fun w1=>OG p w1 h1 h2);rw[hp] at CP;obtain⟨kv,bb⟩:=Ak (Bk k);obtain⟨cs,bn⟩:=Ak (entC es (Gb (its es) p));rw[<-bn] at CL hq;rw[<-bb];rw[<-en] at hl;have bs:=h.lt;obtain⟨W,eW⟩:=Ak ((w.alloc (.cells #[.string ⟨p.1.toArray⟩,.string ⟨p.2.toArray⟩] 37)).alloc (.cells kv 39));have O:Below w.heap.size w W:=eW▸(Ah.alloc Ag _).alloc (by simp) _;have Z:=I (show Blk W w.heap.size 37 #[.string ⟨p.1.toArray⟩,.string ⟨p.2.toArray⟩] from eW▸(Blk.new w _ _).alloc _);have HK:=I (show Blk W (w.heap.size+1) 39 kv by have:=Blk.new (w.alloc (.cells #[.string ⟨p.1.toArray⟩,.string ⟨p.2.toArray⟩] 37)) 39 kv;simp only[World.size_alloc] at this;exact eW▸this);have HB:=I O;have M:=I (h.below O);have HW:=I h;have aw:=Z.c0;have av:=Z.c1;have bx:=Nb cs _ hq;have t1:decide (40<=(n:Int))=true:=by simp;omega
 clear O h hr h1 h2 hp hl bb bn ez en hc hm hq bq;go_enter Tryz.func10,Tryz.ntmps10
 go_upto_region 1 with fail
 rw[<-eW];clear eW
 go_wp2_with (first
  |(go_at_call 24;refine Aj (CP.o _) ?_;rintro w1 O;replace HB:=HB.t O;replace M:=I (M.o.below O);replace Z:=I (Z.o.below O);replace HK:=I (HK.o.below O);have aw:=Z.c0;have av:=Z.c1;have kr:w1.cell? ⟨r,0,none⟩=some (.slice A n c):=EN.o▸M.o.blk.cell 0;clear O)
  |(go_at_call 25;refine Aj (CL.o _ M.o) ?_;rintro w2 O;clear aw av kr;replace HB:=HB.t O;replace M:=I (M.o.below O);replace Z:=I (Z.o.below O);replace HK:=I (HK.o.below O);have aw:=Z.c0;have av:=Z.c1;have kr:w2.cell? ⟨r,0,none⟩=some (.slice A n c):=EN.o▸M.o.blk.cell 0;clear O)
  |fail)
 go_ret2
 exact⟨rfl,HB.o⟩
theorem ax (B r:Nat) (v:Value) (es:List Ent) (p:Pr) (k:Nat->UInt8) (w:World) (h:Ring w B r v es) (hB:B<=w.heap.size) (h1:p.1.length<=1000000000) (h2:p.2.length<=1000000000) (hl:es.length<=40) (hn:Num (its es)) :
  Calls Tryz.prog 10 #[.pointer (some ⟨r,0,none⟩),prV p,.agg (Bk k)] w fun e w'=>e=.returned (.tuple #[.int .i64 (addN (its es) p:Int),.int .i64 (addE (its es) p:Int)])/\∃v' es',Ring w' B r v' es'/\its es'=addL (its es) p k/\(es'=es\/∃x,es'=es++[x]/\x.a=0/\x.o=0/\x.r=0)/\Chg (fun q=>q=r\/v.ownBlock=some q) w w'/\(∀q,RO r v' es' q->RO r v es q\/w.heap.size<=q):=by
 cases hp:prB p with
 |false=>
  refine(au (some r) p k w h1 h2 (.inr hp)).mono ?_;rintro e w' ⟨rfl,Z⟩;refine⟨by rw[addN,addE,hp];rfl,v,es,h.below Z,by rw[addL,hp];rfl,.inl rfl,Chg.of_below Z,fun q hq=>.inl hq⟩
 |true=>
  by_cases hx:es.length<40
  ·have M:(its es).length<40:=by rw[Dm];exact hx
   have O:Ci (its es) p<255:=by have:=YR hn p;omega
   refine(dw B r v es p k w h hB h1 h2 hp hx O).mono ?_;rintro e w' ⟨rfl,v',b,aw,hr,hc,av⟩;refine⟨by rw[addN,addE,hp,if_pos rfl,if_pos rfl,if_pos M,if_pos M];rfl,v',_,hr,?_,.inr ⟨_,rfl,rfl,rfl,rfl⟩,hc,av⟩;rw[WN,addL,hp,if_pos rfl,if_pos M]
  ·have M:¬(its es).length<40:=by rw[Dm];exact hx
   refine(WQ B r v es p k w h h1 h2 hp (by omega) (by omega)).mono ?_;rintro e w' ⟨rfl,Z⟩;refine⟨by rw[addN,addE,hp,if_pos rfl,if_pos rfl,if_neg M,if_neg M];rfl,v,es,h.below Z,?_,.inl rfl,Chg.of_below Z,fun q hq=>.inl hq⟩;rw[addL,hp,if_pos rfl,if_neg M]
def kB (b:UInt8) (i:Nat):UInt8:=if i=0 then b else 0
abbrev p1:Pr:=([65],[120])
abbrev AT (r:Nat) (v:Value) (q:Nat):Prop:=q=r\/v.ownBlock=some q
theorem dx {r:Nat} {v:Value} {es:List Ent} {q:Nat} (h:AT r v q):RO r v es q:=by
 rcases h with h | h
 ·exact .inl h
 ·exact .inr (.inl h)
theorem Fj {P:Program} {w':World} {a:Act} {o:Oper} {g off:Nat} {ty:TypeId} {cs:Array Value} {d:TypeDesc} (x:Operand) (M:o.op=.load ty x) (Z:a.eval x=.pointer (some ⟨g,off,none⟩)) (h:w'.rangeAt g off cs.toList) (hu:P.underlying ty=some d) (O:d.isRow=true) (hi:(P.info? ty).map (·.size)=some cs.size) :
  (execOp a.eval o).run P w'=.ok (.value (.agg cs)) w':=by
 have:=run_loadVar_mid (P:=P) w' g off ty cs.toList d h hu O (by simpa using hi);simp only[Array.toArray_toList] at this;unfold execOp;simp only[M,Z,Instr.loadAt,Instr.sureAddr,Sem.run_bind,Sem.run_pure,Result.andThen_ok,this]
section
variable {w w':World} {B r i:Nat} {v v':Value} {es es':List Ent} {e:Ent} {A:Option Addr} {xs:List Value}
theorem ay (he:es[i]? = some e) {k:Nat} (h:Ow e.b e.h k):RO r v es k:=.inr (.inr ⟨i,e,he,h⟩)
end
structure DRing (w:World) (B q:Nat) (v:Value) (l:List It):Prop where
 blk:Blk w q 55 #[v]
 row:w.ownsRow B 101 35 v l.length (l.flatMap iC)
 lo:B<=q
 vq:v.ownBlock≠some q
abbrev DO (q:Nat) (v:Value) (k:Nat):Prop:=k=q\/v.ownBlock=some k
section
variable {w w':World} {B q:Nat} {v:Value} {l:List It} {S:Nat->Prop}
theorem DRing.lt (h:DRing w B q v l):q<w.heap.size:=h.blk.lt
theorem DRing.own_lo (h:DRing w B q v l) {k:Nat} (hk:DO q v k):B<=k:=by
 rcases hk with hk | hk
 ·subst hk;exact h.lo
 ·exact(World.ownsRow.lt h.row k hk).1
theorem DRing.own_lt (h:DRing w B q v l) {k:Nat} (hk:DO q v k):k<w.heap.size:=by
 rcases hk with hk | hk
 ·subst hk;exact h.blk.lt
 ·exact(World.ownsRow.lt h.row k hk).2
theorem DRing.chg (h:DRing w B q v l) (M:Chg S w w') (hs:∀k,DO q v k->¬S k):DRing w' B q v l:=
 ⟨M.blk h.blk (hs q (.inl rfl)),Bs M h.row (fun k hk=>hs k (.inr hk)),h.lo,h.vq⟩
theorem DRing.below (h:DRing w B q v l) (M:Below w.heap.size w w'):DRing w' B q v l:=h.chg (S:=fun _=>False) (Chg.of_below M) (fun _ _ x=>x)
theorem DRing.num (h:DRing w B q v l):∃A c,v=.slice A l.length c/\l.length<=c/\c<=maxLen/\RdR w w.heap.size A iC 35 l:=Bp Ce h.row
end
theorem iC_p0 (x:It):(iC x)[0]? = some (.string ⟨x.p.1.toArray⟩):=rfl
theorem iC_p1 (x:It):(iC x)[1]? = some (.string ⟨x.p.2.toArray⟩):=rfl
theorem iC_n (x:It):(iC x)[2]? = some (.int .i64 (x.n:Int)):=rfl
theorem Up {l:List It} {i:Nat} {x:It} {p:Pr} (h:l[i]? = some x) (hp:x.p=p):numO l (BU l p (i+1))=x.n:=by
 rw[BU,if_pos (by rw[h,<-hp];rfl)];simp [numO,h]
theorem QX {l:List It} {i:Nat} {x:It} {p:Pr} (h:l[i]? = some x) (hp:x.p≠p):BU l p (i+1)=BU l p i:=by
 rw[BU,if_neg];rw[h];intro y;injection y with y;exact hp y
theorem Uq (B q:Nat) (v:Value) (l:List It) (p:Pr) (w:World) (h:DRing w B q v l) (hl:l.length<=1000) :
  Calls Tryz.prog 29 #[.pointer (some ⟨q,0,none⟩),prV p] w fun e w'=>e=.returned (.int .i64 (Ci l p:Int))/\Below w.heap.size w w':=by
 obtain⟨A,c,rfl,hc,hm,hr⟩:=h.num;have O:=h.blk;obtain⟨n,en⟩:=Ak (l.length);rw[<-en] at O hc hl;have EN:=I en;obtain⟨W,eW⟩:=Ak (w.alloc (.cells #[.string ⟨p.1.toArray⟩,.string ⟨p.2.toArray⟩] 37));have Z:Below w.heap.size w W:=eW▸Ah.alloc Ag _;have HP:=I (show Blk W w.heap.size 37 #[.string ⟨p.1.toArray⟩,.string ⟨p.2.toArray⟩] from eW▸Blk.new w _ _);have HB:=I Z;have HQ:=I (O.below Z);have HR:=I (hr.keep Z);have av:=O.lt;clear Z hr O en h;go_enter Tryz.func29,Tryz.ntmps29
 go_upto_region 1 with fail
 rw[<-eW];obtain⟨N,eN⟩:=Ak (w.heap.size);rw[<-eN] at HP HB HR av⊢;have aw:=I eN;clear eW eN
 go_wp2
 go_loopw [5,6] (fun nv iv wr=>∃i:Nat,i<=n/\iv=.int .i64 (i:Int)/\nv=.int .i64 (numO l (BU l p i):Int)/\Below N w wr/\Blk wr N 37 #[.string ⟨p.1.toArray⟩,.string ⟨p.2.toArray⟩]/\Blk wr q 55 #[.slice A n c]/\RdR wr N A iC 35 l) (fun _ iv _=>n - (intOf iv).toNat)
 case atStart=>exact⟨0,Nat.zero_le _,rfl,rfl,HB.o,HP.o,HQ.o,HR.o⟩
 case round=>
  clear HB HP HQ HR;obtain⟨i,hi,rfl,rfl,Z,hp,hq,hr⟩:=hrel;have HB:=I Z;have HP:=I hp;have HQ:=I hq;have HR:=I hr;have kq:=hq.c0;obtain⟨z,ez⟩:=Ak (numO l (BU l p i));rw[<-ez];have EZ:=I ez
  by_cases hlt:i<n
  ·have e1:(i:Int)<(n:Int):=by omega
   have e2:(0:Int)<=(i:Int):=by omega
   obtain⟨x,hx⟩:∃x,l[i]? = some x:=⟨l[i]'(by rw[<-EN.o];exact hlt),List.getElem?_eq_getElem _⟩;obtain⟨g,rfl,bq,M⟩:=hr.at_ hx;have h0:wr.cell? ⟨g,i*35,none⟩=some (.string ⟨x.p.1.toArray⟩):=M 0 _ (iC_p0 x);have h1:wr.cell? ⟨g,i*35+1,none⟩=some (.string ⟨x.p.2.toArray⟩):=M 1 _ (iC_p1 x);have h2:wr.cell? ⟨g,i*35+2,none⟩=some (.int .i64 (x.n:Int)):=M 2 _ (iC_n x);have bn:=hp.c0;have bb:=hp.c1;have HX:=I hx;clear M hx hr Z hp hq ez
   by_cases hh:x.p=p
   ·have t1:=Dn hh
    have HH:=I hh;clear hh
    go_wp2
    go_quiet (fail)
    go_wp2
    go_roundw
    case rel=>exact⟨i+1,by omega,by go_num,by rw[Up HX.o HH.o],below_drewN HB.o _,HP.o.drewN _,HQ.o.drewN _,HR.o.keep (below_drewN Ah _)⟩
    case measure=>simp [intOf];omega
   ·have t1:=DR hh
    have HH:=I hh;clear hh
    go_wp2
    go_quiet (fail)
    go_wp2
    go_roundw
    case rel=>exact⟨i+1,by omega,by go_num,by rw[QX HX.o HH.o,EZ.o],below_drewN HB.o _,HP.o.drewN _,HQ.o.drewN _,HR.o.keep (below_drewN Ah _)⟩
    case measure=>simp [intOf];omega
  ·have e1:decide ((i:Int)<(n:Int))=false:=by simp;omega
   obtain rfl:n=i:=by omega
   clear hr Z hp hq hi hlt ez
   go_wp2
   go_ret;exact⟨by rw[EZ.o,Ci,Gb,<-EN.o];rfl,by rw[<-aw.o];exact HB.o⟩
theorem Ae {P:Program} {fn:Func} {tmps:Array Value} {w:World} {v u:Value} (t q:Nat) (ty:TypeId) (a:Addr) (M:fn.results=#[.cell t ty,.tmp q]) (ht:tmps.getD t undef=.pointer (some a)) (hl:(loadVar ty a).run P w=.ok v w) (hq:tmps.getD q undef=u) :
  (results fn tmps).run P w=.ok (.tuple #[v,u]) w:=by
 have O:tmps[t]?.getD undef=.pointer (some a):=by simpa using ht
 have Z:tmps[q]?.getD undef=u:=by simpa using hq
 simp [results,M,O,Z,asAddr,hl]
theorem WR (p:Pr) (w:World) (O:p.1.length<=1000000000) (M:p.2.length<=1000000000):Calls Tryz.prog 28 #[prV p] w fun e w'=>e=.returned (.bool (prB p))/\Below w.heap.size w w':=Nm.DY p.1 p.2 w O M
def zeroI:Array Value:=#[.string ⟨#[]⟩,.string ⟨#[]⟩,.int .i64 0,.int .u8 0,.int .u8 0,.int .u8 0,.int .u8 0,.int .u8 0,.int .u8 0,.int .u8 0,.int .u8 0,.int .u8 0,.int .u8 0,.int .u8 0,.int .u8 0,.int .u8 0,.int .u8 0,.int .u8 0,.int .u8 0,.int .u8 0,.int .u8 0,.int .u8 0,.int .u8 0,.int .u8 0,.int .u8 0,.int .u8 0,.int .u8 0,.int .u8 0,.int .u8 0,.int .u8 0,.int .u8 0,.int .u8 0,.int .u8 0,.int .u8 0,.int .u8 0]
theorem WS:(Tryz.prog.info? 101).map (fun i=>(i.zero,i.size,i.bytes))=some (some (.agg zeroI),35,72):=by kernel_rfl
theorem QY (p:Pr) (n:Nat) (k:Nat->UInt8):Tryz.prog.built 101 [(0,prV p),(1,.int .i64 (n:Int)),(2,.agg (Bk k))]=some (iC ⟨p,n,k⟩).toArray:=by
 kernel_rfl
theorem PX {w Z w6:World} {B q:Nat} {v v6:Value} {l:List It} {it:It} (h:DRing w B q v l) (hb:Below w.heap.size w Z) (h5:DRing Z B q v l)
  (ho:w6.ownsRow B 101 35 v6 (l++[it]).length ((l++[it]).flatMap iC)) (hg:Z.grownBy w6 v.ownBlock) (hv:v6.ownBlock=v.ownBlock\/v6.ownBlock=some Z.heap.size) :
  DRing (w6.setCell ⟨q,0,none⟩ v6) B q v6 (l++[it])/\Chg (DO q v) w (w6.setCell ⟨q,0,none⟩ v6)/\(∀k,DO q v6 k->DO q v k\/w.heap.size<=k):=by
 have O:v6.ownBlock≠some q:=fun x=>by
  rcases hv with g | g
  ·rw[g] at x;exact h.vq x
  ·rw[g] at x;injection x with x;have:=h5.lt;omega
 have M:Chg (fun k=>k=q) w6 (w6.setCell ⟨q,0,none⟩ v6):=Chg.set (p:=⟨q,0,none⟩) (Chg.refl (fun k=>k=q) w6) (.inl rfl) v6;have hc:Chg (DO q v) w (w6.setCell ⟨q,0,none⟩ v6):=
  (((Chg.of_below hb).trans (Ig hg) (fun k _ x=>.inr x)).trans M (fun k _ x=>.inl x):Chg (DO q v) w _)
 refine⟨⟨(h5.blk.grown hg h5.vq).set 0 v6,Bs M ho (fun k hk x=>O (x▸hk)),h.lo,O⟩,hc,fun k hk=>?_⟩;rcases hk with hk | hk
 ·exact .inl (.inl hk)
 ·rcases hv with g | g
  ·exact .inl (.inr (g▸hk))
  ·rw[g] at hk;injection hk with hk;exact .inr (by have:=hb.size;omega)
theorem az (B q:Nat) (v:Value) (l:List It) (p:Pr) (k:Nat->UInt8) (w:World) (h:DRing w B q v l) (hB:B<=w.heap.size) (h1:p.1.length<=1000000000) (h2:p.2.length<=1000000000) (hp:prB p=true) (hl:l.length<40) (hn:Ci l p<255) :
  Calls Tryz.prog 12 #[.pointer (some ⟨q,0,none⟩),prV p,.agg (Bk k)] w fun e w'=>e=.returned (.tuple #[.int .i64 ((Ci l p:Int)+1),.int .i64 0])/\∃v',DRing w' B q v' (l++[⟨p,Ci l p+1,k⟩])/\Chg (DO q v) w w'/\(∀k,DO q v' k->DO q v k\/w.heap.size<=k):=by
 obtain⟨A,c,rfl,hc,hm,hr⟩:=h.num;obtain⟨n,en⟩:=Ak (l.length);have EN:=I en;obtain⟨z,ez⟩:=Ak (Ci l p);have EZ:=I ez;have CL:=I (fun(w1:World) (h:DRing w1 B q (.slice A l.length c) l)=>Uq B q (.slice A l.length c) l p w1 h (by omega));have CP:=I (fun w1=>WR p w1 h1 h2);rw[hp] at CP;rw[<-ez] at CL;obtain⟨kv,cf⟩:=Ak (Bk k);rw[<-cf];have cA:=h.lt;obtain⟨W,eW⟩:=Ak ((w.alloc (.cells #[.string ⟨p.1.toArray⟩,.string ⟨p.2.toArray⟩] 37)).alloc (.cells kv 39));have hb:Below w.heap.size w W:=eW▸(Ah.alloc Ag _).alloc (by simp) _;have O:=I (show Blk W w.heap.size 37 #[.string ⟨p.1.toArray⟩,.string ⟨p.2.toArray⟩] from eW▸(Blk.new w _ _).alloc _);have Z:=I (show Blk W (w.heap.size+1) 39 kv by have:=Blk.new (w.alloc (.cells #[.string ⟨p.1.toArray⟩,.string ⟨p.2.toArray⟩] 37)) 39 kv;simp only[World.size_alloc] at this;exact eW▸this);have HB:=I hb;have M:=I (h.below hb);have HW:=I h;have cd:=O.c0;have cg:=O.c1;have cB:IntKind.i64.wrap ((z:Int)+1)=(z:Int)+1:=by rw[IntKind.wrap_i64];omega
 have EK:=I cf;have cy:=I (show(Tryz.prog.info? 39).map (·.size)=some kv.size by rw[cf];exact Kr k);obtain⟨i0,cm,cj,ck,cu⟩:=info_parts WS;have ct:=I cm;have cp:=I cj;have cw:=I ck;have cr:=I cu;have cq:=I (fun(w1:World)=>Wh.Fi (P:=Tryz.prog) w1 53 101 (iC ⟨p,z+1,k⟩).toArray i0 _ Tryz.underlying53 cm cj (by rw[ck];simp [Ce]) (by simp [Ce]) (by simp [Ce]));have cn:=I hB;have HN:=I (show z<255 by omega);have t1:decide (40<=(n:Int))=false:=by simp;omega
 have t2:decide (255<=(z:Int))=false:=by simp;omega
 have HL:=I (show n<40 by omega);clear cm cj ck cu hB hb h hr h1 h2 hp hn hl cf en hc hm;rw[<-ez];clear ez;go_enter Tryz.func12,Tryz.ntmps12
 go_upto_region 1 with fail
 rw[<-eW];clear eW
 go_wp2_with (first
  |(go_at_call 28;refine Aj (CP.o _) ?_;rintro w1 hb;replace HB:=HB.t hb;replace M:=I (M.o.below hb);replace O:=I (O.o.below hb);replace Z:=I (Z.o.below hb);have cd:=O.c0;have cg:=O.c1;have kr:w1.cell? ⟨q,0,none⟩=some (.slice A n c):=EN.o▸M.o.blk.cell 0;clear hb)
  |(go_at_call 29;refine Aj (CL.o _ M.o) ?_;rintro w2 hb;clear cd cg kr;replace HB:=HB.t hb;replace M:=I (M.o.below hb);replace O:=I (O.o.below hb);replace Z:=I (Z.o.below hb);have cd:=O.c0;have cg:=O.c1;have kr:w2.cell? ⟨q,0,none⟩=some (.slice A n c):=EN.o▸M.o.blk.cell 0;clear hb)
  |fail)
 replace O:=I (show Blk w2.drew _ _ _ from O.o.drewN 1);replace Z:=I (show Blk w2.drew _ _ _ from Z.o.drewN 1);replace M:=I (show DRing w2.drew B q _ l from M.o.below (below_drewN Ah 1));replace HB:=I (show Below w.heap.size w w2.drew from below_drewN HB.o 1);clear cd cg kr;refine Reg.BQ (fun w'=>Blk w' w.heap.size 37 #[.string ⟨p.1.toArray⟩,.string ⟨p.2.toArray⟩]/\Blk w' (w.heap.size+1) 39 kv) 15 rfl (by kernel_rfl) ⟨O.o,Z.o⟩ ?_;obtain⟨W2,cx⟩:=Ak (w2.drew);rw[<-cx] at O Z M HB⊢;clear cx;refine Reg.ty 0 rfl ⟨O.o,Z.o⟩ ?_;refine Reg.ty 1 rfl ⟨O.o,Z.o⟩ ?_;refine Reg.ty 2 rfl ⟨O.o,Z.o⟩ ?_;refine Reg.ty 3 rfl ⟨O.o,Z.o⟩ ?_;refine Reg.tw 5 (v:=.agg #[.string ⟨p.1.toArray⟩,.string ⟨p.2.toArray⟩]) rfl ⟨O.o,Z.o⟩ (fun w' hS=>by exact Wh.BD (.tmp 4) rfl rfl hS.1 Tryz.underlying37 rfl Dp) ?_;refine Reg.ty 6 rfl ⟨O.o,Z.o⟩ ?_;refine Reg.tw 7 (v:=.int .i64 ((z:Int)+1)) rfl ⟨O.o,Z.o⟩ (fun w' hS=>by go_simp) ?_;refine Reg.tw 8 (v:=.agg kv) rfl ⟨O.o,Z.o⟩ (fun w' hS=>by exact Wh.BD (.tmp 5) rfl rfl hS.2 Tryz.underlying39 rfl cy.o) ?_;refine Reg.tw 9 (v:=.agg (iC ⟨p,z+1,k⟩).toArray) rfl ⟨O.o,Z.o⟩ (fun w' hS=>by exact El (by go_simp) (EK.o▸QY p (z+1) k)) ?_;refine Reg.JB [4,10] (by kernel_rfl) (by simp) ?_;intro j0 av;have av:j0=4\/j0=10:=by simpa using av
 rcases av with rfl | rfl
 ·have kr:W2.cell? ⟨q,0,none⟩=some (.slice A n c):=EN.o▸M.o.blk.cell 0
  refine⟨_,_,_,_,_,_,_,_,rfl,by rfl,by(go_simp;rfl),⟨O.o,Z.o⟩,?_⟩;simp only[Act.put,U,Aa,Ab];clear kr;refine Reg.JB [10] (by kernel_rfl) (by simp) ?_;intro j0 av;obtain rfl:j0=10:=by simpa using av
  clear av;have hb:Below W2.heap.size W2 (W2.alloc (.cells (iC ⟨p,z+1,k⟩).toArray 101)):=Ah.alloc Ag _;refine⟨_,_,_,_,_,_,.slice (some ⟨W2.heap.size,0,none⟩) 1 1,(W2.alloc (.cells (iC ⟨p,z+1,k⟩).toArray 101)),rfl,by rfl,Ck rfl (cq.o _),⟨O.o.below hb,Z.o.below hb⟩,?_⟩;simp only[Act.put,U,Aa,Ab];have bx:=I (Blk.new W2 101 (iC ⟨p,z+1,k⟩).toArray);replace HB:=HB.t hb;replace M:=I (M.o.below hb);replace O:=I (O.o.below hb);replace Z:=I (Z.o.below hb);clear hb;obtain⟨W5,ca⟩:=Ak ((W2.alloc (.cells (iC ⟨p,z+1,k⟩).toArray 101)));obtain⟨g5,bB⟩:=Ak (W2.heap.size);rw[<-ca] at bx HB M O Z⊢;rw[<-bB] at bx⊢;clear ca bB;refine Reg.JB [11] (by kernel_rfl) (by simp) ?_;intro j0 av;obtain rfl:j0=11:=by simpa using av
  clear av;obtain⟨v6,w6,bb,bz,bn,cc⟩:=Wh.FG (P:=Tryz.prog) iC 35 72 Ce Uj W5 53 53 101 i0 _ Tryz.underlying53 ct.o cp.o cw.o cr.o (by rfl) (by omega) B _ l M.o.row ⟨p,z+1,k⟩ g5 bx.o (by have:=EN.o;have:=HL.o;omega) (by omega) (Nat.le_trans cn.o HB.o.size);rw[<-EN.o] at bb;replace O:=I (O.o.grown bn (fun x=>by have:=(World.ownsRow.lt HW.o.row _ x).2;omega));replace Z:=I (Z.o.grown bn (fun x=>by have:=(World.ownsRow.lt HW.o.row _ x).2;omega));refine⟨_,_,_,_,_,_,v6,w6,rfl,by rfl,DF rfl rfl bb,⟨O.o,Z.o⟩,?_⟩;simp only[Act.put,U,Aa,Ab];refine Reg.ty 12 rfl ⟨O.o,Z.o⟩ ?_;refine Reg.ty 13 rfl ⟨O.o,Z.o⟩ ?_;have bq:=PX HW.o HB.o M.o bz bn cc;have bs:=M.o.blk.grown bn M.o.vq;obtain⟨A7,c7,e7,_⟩:=Bp Ce bz;obtain⟨m7,cb⟩:=Ak ((l++[(⟨p,z+1,k⟩:It)]).length);rw[<-cb] at e7;subst e7;have f0:=bs.frozen 0;have k6:=bs.c0;refine Reg.BC 14 (w6.setCell ⟨q,0,none⟩ (.slice A7 m7 c7)) rfl (by kernel_rfl) (by rfl) (by go_simp) ⟨Si.Blk.far O.o _ _ (by simp;have:=HW.o.lt;omega),Si.Blk.far Z.o _ _ (by simp;have:=HW.o.lt;omega)⟩ ?_;simp only[Act.put,U,Aa,Ab];refine wpAnyH_done (by kernel_rfl) ?_ _;clear f0 k6 bs bz bn cc bb cb;have aw:=I bq;clear bq
  go_wp2
  go_ret2
  exact⟨rfl,_,aw.o.1,aw.o.2.1,aw.o.2.2⟩
 ·have hb:Below W2.heap.size W2 (W2.alloc (.cells (iC ⟨p,z+1,k⟩).toArray 101)):=Ah.alloc Ag _
  refine⟨_,_,_,_,_,_,.slice (some ⟨W2.heap.size,0,none⟩) 1 1,(W2.alloc (.cells (iC ⟨p,z+1,k⟩).toArray 101)),rfl,by rfl,Ck rfl (cq.o _),⟨O.o.below hb,Z.o.below hb⟩,?_⟩;simp only[Act.put,U,Aa,Ab];have bx:=I (Blk.new W2 101 (iC ⟨p,z+1,k⟩).toArray);replace HB:=HB.t hb;replace M:=I (M.o.below hb);replace O:=I (O.o.below hb);replace Z:=I (Z.o.below hb);clear hb;obtain⟨W5,ca⟩:=Ak ((W2.alloc (.cells (iC ⟨p,z+1,k⟩).toArray 101)));obtain⟨g5,bB⟩:=Ak (W2.heap.size);rw[<-ca] at bx HB M O Z⊢;rw[<-bB] at bx⊢;clear ca bB;refine Reg.JB [4] (by kernel_rfl) (by simp) ?_;intro j0 av;obtain rfl:j0=4:=by simpa using av
  clear av;have kr:W5.cell? ⟨q,0,none⟩=some (.slice A n c):=EN.o▸M.o.blk.cell 0;refine⟨_,_,_,_,_,_,_,_,rfl,by rfl,by(go_simp;rfl),⟨O.o,Z.o⟩,?_⟩;simp only[Act.put,U,Aa,Ab];clear kr;refine Reg.JB [11] (by kernel_rfl) (by simp) ?_;intro j0 av;obtain rfl:j0=11:=by simpa using av
  clear av;obtain⟨v6,w6,bb,bz,bn,cc⟩:=Wh.FG (P:=Tryz.prog) iC 35 72 Ce Uj W5 53 53 101 i0 _ Tryz.underlying53 ct.o cp.o cw.o cr.o (by rfl) (by omega) B _ l M.o.row ⟨p,z+1,k⟩ g5 bx.o (by have:=EN.o;have:=HL.o;omega) (by omega) (Nat.le_trans cn.o HB.o.size);rw[<-EN.o] at bb;replace O:=I (O.o.grown bn (fun x=>by have:=(World.ownsRow.lt HW.o.row _ x).2;omega));replace Z:=I (Z.o.grown bn (fun x=>by have:=(World.ownsRow.lt HW.o.row _ x).2;omega));refine⟨_,_,_,_,_,_,v6,w6,rfl,by rfl,DF rfl rfl bb,⟨O.o,Z.o⟩,?_⟩;simp only[Act.put,U,Aa,Ab];refine Reg.ty 12 rfl ⟨O.o,Z.o⟩ ?_;refine Reg.ty 13 rfl ⟨O.o,Z.o⟩ ?_;have bq:=PX HW.o HB.o M.o bz bn cc;have bs:=M.o.blk.grown bn M.o.vq;obtain⟨A7,c7,e7,_⟩:=Bp Ce bz;obtain⟨m7,cb⟩:=Ak ((l++[(⟨p,z+1,k⟩:It)]).length);rw[<-cb] at e7;subst e7;have f0:=bs.frozen 0;have k6:=bs.c0;refine Reg.BC 14 (w6.setCell ⟨q,0,none⟩ (.slice A7 m7 c7)) rfl (by kernel_rfl) (by rfl) (by go_simp) ⟨Si.Blk.far O.o _ _ (by simp;have:=HW.o.lt;omega),Si.Blk.far Z.o _ _ (by simp;have:=HW.o.lt;omega)⟩ ?_;simp only[Act.put,U,Aa,Ab];refine wpAnyH_done (by kernel_rfl) ?_ _;clear f0 k6 bs bz bn cc bb cb;have aw:=I bq;clear bq
  go_wp2
  go_ret2
  exact⟨rfl,_,aw.o.1,aw.o.2.1,aw.o.2.2⟩
end Rg
end Go.Proofs.YthkdjblnmkkcfaaGreat
