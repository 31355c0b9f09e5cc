import Derived.Test.YtiecjolmennkfaaGreatZAcceptorTells9
set_option maxHeartbeats 25600000
set_option maxRecDepth 100000
set_option linter.unusedVariables false
set_option linter.unusedSimpArgs false
namespace Go.Proofs.YtiecjolmennkfaaGreat
namespace Kd
open Af Se Ms
open Nm (krb L)
open Rg (It CV Gd Ci numO)
open DerP (elem encI)
open SeL (Cw BM)
theorem IQ {p:L} {n:Int} {u:Int} {ks:Nat->UInt8} (hp:p.length<=784) (Z:0<=n) (M:n<=1099511627776) (hu:0<=u) (O:u<=255):Cw ks u n p=(Eo ks u.toNat n.toNat p,0):=by
 rw[Cw,if_pos ⟨hu,O,Z,M,hp⟩]
theorem Hf {p:L} {n:Int} {u:Int} {ks:Nat->UInt8} (hp:p.length<=784) (hn:0<=n) (O:n<=1099511627776) (hu:0<=u) (M:u<=255):BM ks u (Cw ks u n p).1=(p,0):=by
 rw[IQ hp hn O hu M,BM,if_pos ⟨hu,M⟩];have Z:=WO ks u.toNat n.toNat p (by omega) hp;have h2:=WQ ks u.toNat n.toNat p (by omega);simp only;rw[if_pos Z,h2]
theorem Lt {p:Pt} (hk:p.ss.length=32) (M:ptB p=true):(ptE p).length<=500:=by
 obtain⟨_,O,h3,_,_⟩:=Dy M;have l1:=(AY O).1;have l2:=AE 4 p.ss;have l3:=AE 27 p.tr;have l4:=AK p.st;have l5:=AK p.en;have Z:=AE 99 [prE p.c,elem 4 p.ss,elem 27 p.tr,encI p.st,encI p.en].flatten;have l7:[prE p.c,elem 4 p.ss,elem 27 p.tr,encI p.st,encI p.en].flatten.length=(prE p.c).length+((elem 4 p.ss).length+((elem 27 p.tr).length+((encI p.st).length+(encI p.en).length))):=by simp
 rw[ptE];omega
theorem Lu {a:An} (M:anB a=true):(anE a).length<=500:=by
 have O:prB a.c=true/\tmB a.t=true/\tmB a.q=true:=by simpa [anB] using M
 have l1:=(AY O.1).1;have l4:=AK a.t;have l5:=AK a.q;have Z:=AE 98 [prE a.c,encI a.t,encI a.q].flatten;have l7:[prE a.c,encI a.t,encI a.q].flatten.length=(prE a.c).length+((encI a.t).length+(encI a.q).length):=by simp
 rw[anE];omega
theorem JJ {p:Pt} (hk:p.ss.length=32) (M:ptB p=true):ptO p=some (ptE p):=by rw[ptO,limO,if_pos ⟨M,by have:=Lt hk M;omega⟩]
theorem JK {p:An} (M:anB p=true):anO p=some (anE p):=by rw[anO,limO,if_pos ⟨M,by have:=Lu M;omega⟩]
theorem Yz {p:Pt} (M:ptB p=false):ptO p=none:=by rw[ptO,limO,M];rfl
theorem YA {p:An} (M:anB p=false):anO p=none:=by rw[anO,limO,M];rfl
theorem dz {p:Pt} (hk:p.ss.length=32):(ptO p).isSome=ptB p:=by
 cases h:ptB p with
 |true=>rw[JJ hk h];rfl
 |false=>rw[Yz h];rfl
theorem ao {p:Pt} (hk:p.ss.length=32) (M:ptB p=true):ptD (ptE p)=some p:=by rw[ptD,Od M hk];rw[if_pos (JJ hk M)]
theorem au {p:An} (M:anB p=true):anD (anE p)=some p:=by rw[anD,SW M];rw[if_pos (JK M)]
def lO (o:Option L):L:=o.getD []
end Kd
namespace Kd
open Af Se
open Nm (krb L)
open Rg (It CV Gd Ci numO Num)
open Rt (Tp isT Sm)
abbrev Pr:=L×L
def rA:L:=[65,46,69,68,85]
def rE:L:=[69,68,85]
def rB:L:=[66,46,69,68,85]
def pAnn:Pr:=(rA,[97,110,110])
def kq (n:UInt8):Nat->UInt8:=fun i=>if i=0 then n else if i=1 then 7 else 0
def kb (n:UInt8):L:=(List.range 32).map (kq n)
def tT:Tp:=⟨[rA,rE,rB],[(rA,rE),(rE,rA),(rE,rB),(rB,rE)],[]⟩
theorem dA:isT tT=true:=by decide +kernel
theorem ax:Sm tT:=⟨by decide,by decide,by decide,by decide,by decide,by decide⟩
end Kd
namespace Kd
open Af Se
open Nm (krb L)
open Rg (It CV)
open Ms (Pr Tk Pt An ptD anD pt0 an0)
open SeL (BM)
def shwL (l:List It) (t:Tk) (now:Int):Int×Pt:=
 match CV l t.s t.k with
 |none=>(4,pt0)
 |some i=>
  if (BM (keyO l (some i)) 2 t.b).2=0 then
   match ptD (BM (keyO l (some i)) 2 t.b).1 with
   |none=>(2,pt0)
   |some p=>if p.en<now then (7,pt0) else if now+5<p.st then (8,pt0) else (0,p)
  else (3,pt0)
def athL (ss a:L) (u:Int) (c:Pr):Int×An:=
 if (BM (ksOf ss) u a).2=0 then
  match anD (BM (ksOf ss) u a).1 with
  |none=>(2,an0)
  |some x=>if x.c=c then (0,x) else (9,an0)
 else (3,an0)
end Kd
namespace Rp
open Ms (An)
abbrev Tm (x:Int):Prop:=0<=x/\x<=4611686018427387904
def old (now t:Int):Bool:=decide (t+5<now)
def Ck (now:Int) (l:List An):List An:=l.filter (fun a=>!old now a.t)
def skw (on:Bool) (st t now:Int):Bool:=old t now||(old now t||(on && !old t st))
def seeE (on:Bool) (st:Int) (l:List An) (a:An) (now:Int):Int:=if skw on st a.t now=true then 8 else if a∈Ck now l then 12 else if 8<=(Ck now l).length then 13 else 0
def seeL (on:Bool) (st:Int) (l:List An) (a:An) (now:Int):List An:=if skw on st a.t now=true then l else if a∈Ck now l\/8<=(Ck now l).length then Ck now l else Ck now l++[a]
theorem ay (now:Int) (l:List An):(Ck now l).length<=l.length:=List.length_filter_le _ _
theorem WV {now:Int} {l:List An} {a:An} (h:a∈Ck now l):a∈l:=(List.mem_filter.1 h).1
end Rp
namespace Ac
open Af Kd
open Nm (L)
open Rg (It)
open Ms (Tk Pt An Ap Mg mgD tmB pt0 an0 pr0 key0)
open Rt (Tp GY)
open Tr (expL)
open Rp (seeE seeL)
structure Acc where
 c:Ms.Pr
 s:Ms.Pr
 ss:L
 tr:List L
 t:Int
 q:Int
def acc0:Acc:=⟨pr0,pr0,key0,[],0,0⟩
def pasL (T:Tp) (R:L) (p:Pt):Int×List L:=
 if (expL p.tr p.c.1 R).2=0 then
  if p.c.1∈T.R then if GY T p.c.1 R (expL p.tr p.c.1 R).1=true then (0,(expL p.tr p.c.1 R).1) else (11,[]) else (1,[])
 else (((expL p.tr p.c.1 R).2:Int),[])
structure Lk where
 e:Int
 p:Pt
 a:An
 l:List L
def lk0 (e:Int):Lk:=⟨e,pt0,an0,[]⟩
def lokC (T:Tp) (R:L) (p:Pt) (x:An):Lk:=if (pasL T R p).1=0 then ⟨0,p,x,(pasL T R p).2⟩ else lk0 (pasL T R p).1
def lokB (T:Tp) (R:L) (p:Pt) (a:L):Lk:=if (athL p.ss a 11 p.c).1=0 then lokC T R p (athL p.ss a 11 p.c).2 else lk0 (athL p.ss a 11 p.c).1
def lokA (P:Ms.Pr) (T:Tp) (l:List It) (q:Ap) (now:Int):Lk:=
 if q.t.s=P then
  if (shwL l q.t now).1=0 then lokB T P.1 (shwL l q.t now).2 q.a else lk0 (shwL l q.t now).1
 else lk0 9
def lokL (P:Ms.Pr) (T:Tp) (l:List It) (b:L) (now:Int):Lk:=
 if tmB now=true then
  match mgD b with
  |none=>lk0 2
  |some m=>if m.k=4 then lokA P T l m.ap now else lk0 2
 else lk0 1
def takE (r:Lk) (on:Bool) (st:Int) (sn:List An) (now:Int):Int:=if r.e=0 then seeE on st sn r.a now else r.e
def takS (r:Lk) (on:Bool) (st:Int) (sn:List An) (now:Int):List An:=if r.e=0 then seeL on st sn r.a now else sn
def takA (P:Ms.Pr) (r:Lk) (on:Bool) (st:Int) (sn:List An) (now:Int):Acc:=if takE r on st sn now=0 then ⟨r.p.c,P,r.p.ss,r.l,r.a.t,r.a.q⟩ else acc0
end Ac
namespace Ac
open Af Kd Se
open Nm (L)
open Rg (It CV IG Ki)
open Ms (Tk Pt An Ap Mg mgD mgO mgB mgE apB tkB BR inB tmB ptB anB prB ptO anO ptE anE pt0 an0 pr0 key0 as0 tg0 re0 ap0 fa0)
open Rt (Tp GY)
open Tr (expL)
open SeL (Cw BM)
def pSv:Ms.Pr:=(rB,[109,97,105,108])
def k1 (n:UInt8):Nat->UInt8:=fun i=>if i=0 then n else 0
def k1L (n:UInt8):L:=(List.range 32).map (k1 n)
theorem Lv (n:UInt8):(k1L n).length=32:=by simp [k1L]
def itS:List It:=[⟨pSv,1,k1 1⟩,⟨pSv,2,k1 2⟩]
def rqM (kv:Int) (n:UInt8) (p:Pt) (a:An):Mg:=⟨4,as0,tg0,re0,⟨⟨pSv,kv,(Cw (k1 n) 2 5 (lO (ptO p))).1⟩,(Cw (ksOf p.ss) 11 6 (lO (anO a))).1⟩,fa0⟩
def rqOk (kv:Int) (n:UInt8) (p:Pt) (a:An):Bool:=(ptO p).isSome&&((anO a).isSome&&(mgO (rqM kv n p a)).isSome)
def rqL (kv:Int) (n:UInt8) (p:Pt) (a:An):L:=lO (mgO (rqM kv n p a))
section
variable {kv:Int} {n:UInt8} {p:Pt} {a:An} {now:Int} {T:Tp}
theorem Lw {i:Int} (h:(4:Int)≠i):¬(rqM kv n p a).k=i:=h
theorem az {q:Ap} (h:apB q=true):(Ms.apE q).length<=1800:=by
 have M:tkB q.t=true/\BR q.a=true:=by simpa [apB] using h
 have O:=(Ms.Cq M.1).1;have Z:=Ms.Bn M.2;have h4:=Ms.AE 4 q.a;unfold Ms.apE;refine Nat.le_trans (Ms.AE _ _) ?_;rw[Ms.Dm,List.length_append];omega
theorem dB (hk:p.ss.length=32) (hp:ptB p=true) (Z:anB a=true) (h1:1<=kv) (h2:kv<=255):mgB (rqM kv n p a)=true:=by
 have g1:=Lt hk hp;have g2:=Lu Z;have b1:BR (rqM kv n p a).ap.t.b=true:=by
  simp only[rqM];rw[JJ hk hp,lO,Option.getD_some,IQ (by omega) (by decide) (by decide) (by decide) (by decide)];simp only[BR,CG,Bool.and_eq_true,decide_eq_true_eq];omega
 have b2:BR (rqM kv n p a).ap.a=true:=by
  simp only[rqM];rw[JK Z,lO,Option.getD_some,IQ (by omega) (by decide) (by decide) (by decide) (by decide)];simp only[BR,CG,Bool.and_eq_true,decide_eq_true_eq];omega
 have hs:prB pSv=true:=by decide +kernel
 have O:inB kv 1 255=true:=by simp [inB,h1,h2]
 have M:apB (rqM kv n p a).ap=true:=by
  unfold apB tkB;rw[b1,b2];show(prB pSv&&(inB kv 1 255&&true)&&true)=true;rw[hs,O];rfl
 unfold mgB;rw[if_neg (Lw (by decide)),if_neg (Lw (by decide)),if_neg (Lw (by decide)),if_pos (show(rqM kv n p a).k=4 by rfl),M];exact decide_eq_true rfl
theorem aA (hk:p.ss.length=32) (hp:ptB p=true) (ha:anB a=true) (Z:1<=kv) (O:kv<=255):mgO (rqM kv n p a)=some (rqL kv n p a):=by
 have hm:=dB (n:=n) hk hp ha Z O;have M:apB (rqM kv n p a).ap=true:=by
  have:=hm;unfold mgB at this;rw[if_neg (Lw (by decide)),if_neg (Lw (by decide)),if_neg (Lw (by decide)),if_pos (show(rqM kv n p a).k=4 by rfl),Bool.and_eq_true] at this;exact this.1
 have e:mgO (rqM kv n p a)=some (mgE (rqM kv n p a)):=by
  have O:(mgE (rqM kv n p a)).length<=2000:=by
   show(Ms.apE (rqM kv n p a).ap).length<=2000;have:=az M;omega
  rw[mgO,Ms.limO,if_pos ⟨hm,O⟩]
 rw[rqL,e,lO,Option.getD_some]
theorem dC (h:rqOk kv n p a=true):mgD (rqL kv n p a)=some (rqM kv n p a):=by
 obtain⟨b,M⟩:=Option.isSome_iff_exists.1 (show(mgO (rqM kv n p a)).isSome=true by simp only[rqOk,Bool.and_eq_true] at h;exact h.2.2);rw[rqL,M,lO,Option.getD_some];exact Ms.SX.2 M
theorem dD (hk:p.ss.length=32):rqOk kv n p a=(ptB p&&(anB a&&inB kv 1 255)):=by
 unfold rqOk;rw[dz hk];cases hp:ptB p with
 |false=>rfl
 |true=>
  cases ha:anB a with
  |false=>rw[YA ha];rfl
  |true=>
   rw[JK ha];cases hi:inB kv 1 255 with
   |true=>
    have M:1<=kv/\kv<=255:=by simpa [inB] using hi
    rw[aA hk hp ha M.1 M.2];rfl
   |false=>
    have:mgB (rqM kv n p a)=false:=by
     unfold mgB;rw[if_neg (Lw (by decide)),if_neg (Lw (by decide)),if_neg (Lw (by decide)),if_pos (show(rqM kv n p a).k=4 by rfl)];have:apB (rqM kv n p a).ap=false:=by
      unfold apB tkB;rw[show inB (rqM kv n p a).ap.t.k 1 255=false from hi];simp
     rw[this];rfl
    rw[mgO,Ms.limO,this];rfl
theorem Um (hk:p.ss.length=32) (hp:ptB p=true) (M:anB a=true) (Z:1<=kv) (O:kv<=255):rqOk kv n p a=true:=by
 rw[dD hk,hp,M];simp [inB,Z,O]
theorem WW (hk:p.ss.length=32) (h:rqOk kv n p a=true):ptB p=true/\anB a=true/\1<=kv/\kv<=255:=by
 rw[dD hk,Bool.and_eq_true,Bool.and_eq_true] at h;exact⟨h.1,h.2.1,by simpa [inB] using h.2.2⟩
theorem dE {i:Nat} (hk:p.ss.length=32) (hp:ptB p=true) (O:CV itS pSv kv=some i) (hi:keyO itS (some i)=k1 n) :
  shwL itS (rqM kv n p a).ap.t now=if p.en<now then (7,pt0) else if now+5<p.st then (8,pt0) else (0,p):=by
 have Z:=Lt hk hp;have M:BM (keyO itS (some i)) 2 (Cw (k1 n) 2 5 (lO (ptO p))).1=(ptE p,0):=by
  rw[hi,JJ hk hp,lO,Option.getD_some,Kd.Hf (by omega) (by decide) (by decide) (by decide) (by decide)]
 unfold shwL;rw[show(rqM kv n p a).ap.t.s=pSv from rfl,show(rqM kv n p a).ap.t.k=kv from rfl,show(rqM kv n p a).ap.t.b=(Cw (k1 n) 2 5 (lO (ptO p))).1 from rfl,O];simp only;rw[M];simp only;rw[if_pos trivial,ao hk hp]
theorem dF {c:Ms.Pr} (M:anB a=true):athL p.ss (rqM kv n p a).ap.a 11 c=if a.c=c then (0,a) else (9,an0):=by
 have Z:=Lu M;have O:BM (ksOf p.ss) 11 (Cw (ksOf p.ss) 11 6 (lO (anO a))).1=(anE a,0):=by
  rw[JK M,lO,Option.getD_some,Kd.Hf (by omega) (by decide) (by decide) (by decide) (by decide)]
 unfold athL;rw[show(rqM kv n p a).ap.a=(Cw (ksOf p.ss) 11 6 (lO (anO a))).1 from rfl,O];simp only;rw[if_pos trivial,au M]
def lkD (p:Pt) (a:An) (now:Int):Lk:=if p.en<now then lk0 7 else if now+5<p.st then lk0 8 else if a.c=p.c then lokC tT rB p a else lk0 9
theorem aB:CV itS pSv 1=some 0:=IG (x:=⟨pSv,1,k1 1⟩) rfl rfl rfl (fun j y M=>by omega)
theorem aD:CV itS pSv 2=some 1:=IG (x:=⟨pSv,2,k1 2⟩) rfl rfl rfl (fun j y O M=>by
 obtain rfl:j=0:=by omega
 injection M with M;subst M;exact fun x=>absurd x.2 (by decide))
theorem Un {i:Nat} (hk:p.ss.length=32) (h:rqOk kv n p a=true) (M:CV itS pSv kv=some i) (hi:keyO itS (some i)=k1 n) (O:tmB now=true):lokL pSv tT itS (rqL kv n p a) now=lkD p a now:=by
 obtain⟨hp,Z,_,_⟩:=WW hk h;unfold lokL lkD;rw[if_pos O,dC h];simp only;rw[if_pos (show(rqM kv n p a).k=4 from rfl)];unfold lokA;rw[if_pos (show(rqM kv n p a).ap.t.s=pSv from rfl),dE hk hp M hi]
 by_cases h1:p.en<now
 ·rw[if_pos h1,if_pos h1];rfl
 ·rw[if_neg h1,if_neg h1]
  by_cases h2:now+5<p.st
  ·rw[if_pos h2,if_pos h2];rfl
  ·rw[if_neg h2,if_neg h2]
   simp only;rw[if_pos trivial];unfold lokB;rw[dF Z]
   by_cases h3:a.c=p.c
   ·rw[if_pos h3,if_pos h3];rfl
   ·rw[if_neg h3,if_neg h3];rfl
theorem lok_1 (hk:p.ss.length=32) (h:rqOk 1 1 p a=true) (M:tmB now=true):lokL pSv tT itS (rqL 1 1 p a) now=lkD p a now:=Un hk h aB rfl M
theorem dG (hk:p.ss.length=32) (h:rqOk 2 2 p a=true) (M:tmB now=true):lokL pSv tT itS (rqL 2 2 p a) now=lkD p a now:=Un hk h aD rfl M
end
end Ac
namespace Wh
open Go.RowKit Af
section
variable {w w':World} {g o:Nat} {t:TypeId} {cs ds ps:Array Value} {pre mid post:List Value}
theorem Ad (h:Blk w g t cs):w.rangeAt g 0 cs.toList:=fun j v M=>by
 rw[Nat.zero_add,h.cell];simpa using M
theorem Ef (h:Blk w g t cs) (Z:cs.toList=pre++(mid++post)) (o:Nat) (ho:o=pre.length):w.rangeAt g o mid:=fun j v M=>by
 subst ho;have O:j<mid.length:=(List.getElem?_eq_some_iff.1 M).1;rw[h.cell,<-Array.getElem?_toList,Z,List.getElem?_append_right (by omega),Nat.add_sub_cancel_left,List.getElem?_append_left O];exact M
theorem Cx (h:Blk w g t cs) (o n:Nat) (M:o+n<=cs.size):w.there g o n:=fun j O=>by
 rw[h.cell,Array.getElem?_eq_getElem (by omega)];exact⟨rfl,h.frozen (o+j)⟩
theorem Bq {g:Nat} {t:TypeId}:∀(M:List Value) (o:Nat) (w:World) (cs:Array Value),Blk w g t cs->o+M.length<=cs.size->
  ∃ds:Array Value,Blk (w.setCells g o M) g t ds/\ds.size=cs.size/\(∀i,o<=i->i<o+M.length->ds[i]? = M[i - o]?)/\(∀i,i<o\/o+M.length<=i->ds[i]? = cs[i]?)
 | [],o,w,cs,h,hl=>⟨cs,h,rfl,fun i Z O=>by simp at O;omega,fun i _=>rfl⟩
 |v :: r,o,w,cs,h,hl=>by
  rw[World.setCells];simp only[List.length_cons] at hl;obtain⟨ds,Z,O,h3,h4⟩:=Bq r (o+1) _ _ (h.set o v) (by simp;omega);simp only[List.length_cons];refine⟨ds,Z,by simpa using O,fun i hi hj=>?_,fun i hi=>?_⟩
  ·by_cases e:i=o
   ·subst e
    rw[h4 i (by omega),Nat.sub_self];rw[Array.getElem?_setIfInBounds_self_of_lt (by omega)]
    rfl
   ·rw[h3 i (by omega) (by omega),show i - o=(i - (o+1))+1 by omega]
    simp
  ·rw[h4 i (by omega)]
   exact Array.getElem?_setIfInBounds_ne (by omega)
theorem AJ (h:Blk w g t cs) (hs:cs.size=ds.size):Blk (w.setCells g 0 ds.toList) g t ds:=by
 obtain⟨es,M,Z,O,_⟩:=Bq ds.toList 0 w cs h (by simp;omega);have e:es=ds:=by
  apply Array.ext_getElem?;intro i
  by_cases hi:i<ds.size
  ·rw[O i (by omega) (by simp;omega)];simp
  ·rw[Array.getElem?_eq_none (by omega),Array.getElem?_eq_none (by omega)]
 rw[<-e];rw[<-e] at M;exact M
theorem Fj {row:Option Nat} {a:World} {g:Nat} (hp:row=some g\/a.heap.size<=g):∀(M:List Value) (o:Nat) (w:World),a.grownBy w row->a.grownBy (w.setCells g o M) row
 | [],_,_,h=>h
 |v :: r,o,w,h=>by rw[World.setCells];exact Fj hp r (o+1) _ (AM h (p:=⟨g,o,none⟩) hp v)
theorem Fk (w:World) (g o:Nat) (M:List Value):w.grownBy (w.setCells g o M) (some g):=Fj (.inl rfl) M o w (World.grownBy.refl _ _)
end
section
variable {P:Program} {ops:Array Oper} {rest:List Oper} {op:Oper} {a:Act} {w:World} {Q:Exit->Act->World->Prop}
theorem AF (hw:Region.wanted op (yielded ops a.tmps)=true) (ty:TypeId) (x:Operand) (M:op.op=.load ty x)
  (g o:Nat) (O:a.eval x=.pointer (some ⟨g,o,none⟩)) (cs:Array Value) (d:TypeDesc) (hc:w.rangeAt g o cs.toList)
  (hu:P.underlying ty=some d) (Z:d.isRow=true) (hi:(P.info? ty).map (·.size)=some cs.size)
  (h:wpList P ops Q rest (a.put op.dst (.agg cs)) w):wpList P ops Q (op :: rest) a w:=
 BigFrame.wpList_want hw fun _ hK=>wp_load_mid ty x M g o O cs.toList d hc hu Z (by rw[Array.length_toList];exact hi) (by simpa using hK _ _ h)
theorem Uo (w:World) (t:TypeId) (lit cs:Array Value) (hs:lit.size=cs.size):Blk ((w.alloc (.cells lit t)).setCells w.heap.size 0 cs.toList) w.heap.size t cs/\Below w.heap.size w ((w.alloc (.cells lit t)).setCells w.heap.size 0 cs.toList):=
 ⟨AJ (Blk.new w t lit) hs,Az ((Below.refl w.heap.size w).alloc Ag _) (Fk _ _ _ _) (by simp) Ag⟩
theorem Bd {w0:World} {lit:Array Value} (M:op.guard=none) (ty:TypeId) (x y:Operand) (ho:op.op=.store ty x y) (t:TypeId) (hw:w=w0.alloc (.cells lit t))
  (cells:Array Value) (hx:a.eval x=.pointer (some ⟨w0.heap.size,0,none⟩)) (Z:a.eval y=.agg cells) (hs:lit.size=cells.size)
  (hi:(P.info? ty).map (·.size)=some cells.size) (h1:cells.all (·.oneCell')=true)
  (h:∀V,Blk V w0.heap.size t cells->Below w0.heap.size w0 V->wpList P ops Q rest (a.put op.dst undef) V):wpList P ops Q (op :: rest) a w:=by
 subst hw;have O:=Uo w0 t lit cells hs;exact wpList_store_mid M ty x y ho w0.heap.size 0 cells hx Z (Cx (Blk.new w0 t lit) _ _ (by omega)) hi h1 (h _ O.1 O.2)
theorem AX (M:op.guard=none) (ty:TypeId) (x y:Operand) (ho:op.op=.store ty x y) (g:Nat) (t:TypeId) (old:Array Value) (O:Blk w g t old)
  (cells:Array Value) (hx:a.eval x=.pointer (some ⟨g,0,none⟩)) (Z:a.eval y=.agg cells) (hs:old.size=cells.size)
  (hi:(P.info? ty).map (·.size)=some cells.size) (h1:cells.all (·.oneCell')=true)
  (h:∀V,Blk V g t cells->w.grownBy V (some g)->wpList P ops Q rest (a.put op.dst undef) V):wpList P ops Q (op :: rest) a w:=
 wpList_store_mid M ty x y ho g 0 cells hx Z (Cx O _ _ (by omega)) hi h1 (h _ (AJ O hs) (Fk _ _ _ _))
theorem Au {fn:Func} {tmps:Array Value} {w:World} {v:Value} (t:Nat) (ty:TypeId) (a:Addr) (M:fn.results=#[.cell t ty]) (ht:tmps.getD t undef=.pointer (some a)) (Z:(loadVar ty a).run P w=.ok v w) :
  (results fn tmps).run P w=.ok v w:=by
 have O:tmps[t]?.getD undef=.pointer (some a):=by simpa using ht
 simp [results,M,O,asAddr,Z]
theorem Ao {g:Nat} {t ty:TypeId} {cs:Array Value} {d:TypeDesc} (h:Blk w g t cs) (hu:P.underlying ty=some d) (M:d.isRow=true) (hi:(P.info? ty).map (·.size)=some cs.size) :
  (loadVar ty ⟨g,0,none⟩).run P w=.ok (.agg cs) w:=by
 have:=run_loadVar_mid (P:=P) w g 0 ty cs.toList d (Ad h) hu M (by simpa using hi)
 simpa using this
theorem Bm {w':World} {o:Oper} {g:Nat} {t ty:TypeId} {cs:Array Value} {d:TypeDesc} (x:Operand) (M:o.op=.load ty x) (O:a.eval x=.pointer (some ⟨g,0,none⟩)) (h:Blk w' g t cs) (hu:P.underlying ty=some d) (Z:d.isRow=true) (hi:(P.info? ty).map (·.size)=some cs.size) :
  (execOp a.eval o).run P w'=.ok (.value (.agg cs)) w':=by
 unfold execOp;simp only[M,O,Instr.loadAt,Instr.sureAddr,Sem.run_bind,Sem.run_pure,Result.andThen_ok,Ao h hu Z hi]
end
theorem aE (l:List Value):∀(k:Nat) (Z:Array Value),k+l.length<=Z.size->((l.zipIdx k).foldl (fun a x=>a.setIfInBounds (0+x.2) x.1) Z).size=Z.size/\∀i,((l.zipIdx k).foldl (fun a x=>a.setIfInBounds (0+x.2) x.1) Z)[i]? = if k<=i/\i<k+l.length then l[i - k]? else Z[i]?:=by
 induction l with
 |nil=>
  intro k Z h;refine⟨rfl,fun i=>?_⟩;rw[if_neg (by simp)]
  rfl
 |cons c l ih=>
  intro k Z h;simp only[List.length_cons] at h;obtain⟨M,O⟩:=ih (k+1) (Z.setIfInBounds (0+k) c) (by simp;omega);rw[List.zipIdx_cons,List.foldl_cons];refine⟨by rw[M];simp,fun i=>?_⟩;rw[O]
  by_cases e:i=k
  ·subst e
   rw[if_neg (by omega),if_pos (by simp),Nat.sub_self,Nat.zero_add,Array.getElem?_setIfInBounds_self_of_lt (by omega)]
   rfl
  ·by_cases g:k+1<=i/\i<k+1+l.length
   ·rw[if_pos g,if_pos (by simp;omega),show i - k=(i - (k+1))+1 by omega]
    simp
   ·rw[if_neg g,if_neg (by simp;omega),Array.getElem?_setIfInBounds_ne (by omega)]
theorem WX (cs Z:Array Value) (n:Nat) (hn:cs.size=n) (hz:Z.size=n):Instr.fill (fun i=>some (i*n,n)) Z [(0,.agg cs)]=some cs:=by
 have M:=aE cs.toList 0 Z (by simp;omega);have e:cs.zipIdx.foldl (fun a (x:Value×Nat)=>a.setIfInBounds (0+x.2) x.1) Z=cs:=by
  rw[<-Array.foldl_toList,Array.toList_zipIdx];apply Array.ext_getElem?;intro i;rw[M.2]
  by_cases g:i<cs.size
  ·rw[if_pos (by simp;omega)];simp
  ·rw[if_neg (by simp;omega),Array.getElem?_eq_none (by omega),Array.getElem?_eq_none (by omega)]
 have O:(Value.agg cs).cells=cs:=rfl;unfold Instr.fill;simp only[Nat.zero_mul,O];rw[if_neg (by simp;omega)];unfold Instr.fill
 congr 1
section
variable {P:Program}
theorem Fl (w:World) (t e:TypeId) (cs:Array Value) (M:TypeInfo) (z:Value) (hu:P.underlying t=some (.slice e)) (O:P.info? e=some M) (hz:M.zero=some z) (hs:M.size=cs.size) (h0:0<cs.size) (Z:cs.size<=16777216) :
  (Instr.buildSlice t 1 #[(0,.agg cs)]).run P w=.ok (.slice (some ⟨w.heap.size,0,none⟩) 1 1) (w.alloc (.cells cs e)):=
 run_buildSlice w t e 1 _ cs M z hu O hz (by rw[hs];omega) (by rw[hs];omega) (WX cs _ M.size hs.symm (by simp))
end
theorem FJ {P:Program} {α:Type} (f:α->List Value) (n bytes:Nat) (hf:∀x,(f x).length=n) (h1:∀x,∀u∈f x,u.oneCell'=true) (w:World) (t ty e:TypeId) (i:TypeInfo) (z:Value) (ht:P.underlying t=some (.slice e)) (hi:P.info? e=some i) (hz:i.zero=some z) (hs:i.size=n) (hb:i.bytes=bytes) (Z:z.cells.size=n) (hn:0<n)
  (base:Nat) (v:Value) (l:List α) (O:w.ownsRow base e n v l.length (l.flatMap f)) (x:α) (g:Nat) (hg:Blk w g e (f x).toArray) (hl:l.length+1<=100000) (av:bytes<=10000) (M:base<=w.heap.size) :
  ∃v' w',(Builtin.append_ #[t,t] ty #[v,.slice (some ⟨g,0,none⟩) 1 1]).run P w=.ok v' w'/\w'.ownsRow base e n v' (l++[x]).length ((l++[x]).flatMap f)/\w.grownBy w' v.ownBlock/\(v'.ownBlock=v.ownBlock\/v'.ownBlock=some w.heap.size):=by
 obtain⟨v',w',h2,h3,h4,_,h5⟩:=run_append_own_at (P:=P) w base t ty e i z n bytes ht hi hz hs hb Z hn v l.length (l.flatMap f) O ⟨g,0,none⟩ 1 1 (f x) (by rw[hf];omega) (fun j u hu=>by
  rw[addr_add,Nat.zero_add,hg.cell j]
  simpa using hu) (h1 x) (by unfold maxLen;omega) (by
   have:(l.length+1)*bytes<=100000*10000:=Nat.mul_le_mul hl av;omega) M
 exact⟨v',w',h2,by rw[List.length_append,List.flatMap_append,List.flatMap_singleton];exact h3,h4,h5⟩
end Wh
namespace Rg
open Go.RowKit Af Se
abbrev prC (p:Pr):List Value:=[.string ⟨p.1.toArray⟩,.string ⟨p.2.toArray⟩]
abbrev prV (p:Pr):Value:=.agg #[.string ⟨p.1.toArray⟩,.string ⟨p.2.toArray⟩]
def iC (i:It):List Value:=.string ⟨i.p.1.toArray⟩ :: .string ⟨i.p.2.toArray⟩ :: .int .i64 (i.n:Int) :: (AQ i.k).toList
structure Ent where
 it:It
 b:Nat
 h:Option Nat
 a:Nat
 o:Nat
 r:Nat
def eC (e:Ent):List Value:=iC e.it++[.pointer (some ⟨e.b,0,none⟩)]
theorem Ce (i:It):(iC i).length=35:=by simp [iC,DK]
theorem Cy (e:Ent):(eC e).length=36:=by simp [eC,Ce]
theorem Up (i:It):∀u∈iC i,u.oneCell'=true:=by
 intro u hu;simp only[iC,List.mem_cons] at hu;rcases hu with h | h | h | h
 ·subst h;rfl
 ·subst h;rfl
 ·subst h;rfl
 ·have:=dj i.k
  rw[Array.all_eq_true_iff_forall_mem] at this;exact this u (Array.mem_def.2 h)
theorem MU (e:Ent):∀u∈eC e,u.oneCell'=true:=by
 intro u hu;rcases List.mem_append.1 hu with h | h
 ·exact Up _ u h
 ·rw[List.mem_singleton] at h;subst h;rfl
theorem Lx {α:Type} (f:α->List Value) (n:Nat) (h:∀x,(f x).length=n):∀l:List α,(l.flatMap f).length=l.length*n
 | []=>by simp
 |a :: l=>by simp only[List.flatMap_cons,List.length_append,h,Lx f n h l,List.length_cons,Nat.succ_mul];omega
theorem OD {α:Type} (f:α->List Value) (n:Nat) (h:∀x,(f x).length=n):∀(l:List α) (i:Nat) (x:α),l[i]? = some x->∀j v,(f x)[j]? = some v->(l.flatMap f)[i*n+j]? = some v
 | [],i,x,hx,_,_,_=>by simp at hx
 |a :: l,0,x,hx,j,v,hv=>by
  injection hx with hx;subst hx;have:=(List.getElem?_eq_some_iff.1 hv).1;rw[List.flatMap_cons,Nat.zero_mul,Nat.zero_add,List.getElem?_append_left this];exact hv
 |a :: l,i+1,x,hx,j,v,hv=>by
  rw[List.flatMap_cons,List.getElem?_append_right (by rw[h,Nat.succ_mul];omega),h,show(i+1)*n+j - n=i*n+j by rw[Nat.succ_mul];omega];exact OD f n h l i x hx j v hv
def RdR {α:Type} (w:World) (B:Nat) (A:Option Addr) (f:α->List Value) (n:Nat) (l:List α):Prop:=
 l = []\/∃g,A=some ⟨g,0,none⟩/\g<B/\∀i x,l[i]? = some x->w.rangeAt g (i*n) (f x)
theorem RdR.keep {α:Type} {w w':World} {B:Nat} {A:Option Addr} {f:α->List Value} {n:Nat} {l:List α} (h:RdR w B A f n l) (hb:Below B w w'):RdR w' B A f n l:=by
 rcases h with h | ⟨g,Z,M,O⟩
 ·exact .inl h
 ·exact .inr ⟨g,Z,M,fun i x hx j v hv=>(hb.cell (p:=⟨g,_,none⟩) M).trans (O i x hx j v hv)⟩
theorem RdR.more {α:Type} {w:World} {B B':Nat} {A:Option Addr} {f:α->List Value} {n:Nat} {l:List α} (h:RdR w B A f n l) (hB:B<=B'):RdR w B' A f n l:=by
 rcases h with h | ⟨g,O,Z,M⟩
 ·exact .inl h
 ·exact .inr ⟨g,O,by omega,M⟩
theorem RdR.at_ {α:Type} {w:World} {B:Nat} {A:Option Addr} {f:α->List Value} {n:Nat} {l:List α} {i:Nat} {x:α} (h:RdR w B A f n l) (M:l[i]? = some x):∃g,A=some ⟨g,0,none⟩/\g<B/\w.rangeAt g (i*n) (f x):=by
 rcases h with h | ⟨g,Z,h2,O⟩
 ·subst h;simp at M
 ·exact⟨g,Z,h2,O i x M⟩
theorem Bs {α:Type} {w:World} {base:Nat} {t:TypeId} {v:Value} {f:α->List Value} {n:Nat} {l:List α} (hn:∀x,(f x).length=n) (h:w.ownsRow base t n v l.length (l.flatMap f)):∃A c,v=.slice A l.length c/\l.length<=c/\c<=maxLen/\RdR w w.heap.size A f n l:=by
 have h':=h;rcases h.2 with⟨M,Z⟩ | ⟨g,cap,cur,M,hg,hh,hc,hm,_⟩
 ·have e:l = []:=List.eq_nil_of_length_eq_zero Z
  subst e;exact⟨none,0,M,Nat.le_refl _,Nat.zero_le _,.inl rfl⟩
 ·subst M
  refine⟨_,cap,rfl,hc,hm,.inr ⟨g,rfl,(Array.getElem?_eq_some_iff.1 hh).1,fun i x O j v hv=>?_⟩⟩;have M:=h'.cells (g:=g) rfl (i*n+j) v (OD f n hn l i x O j v hv);rw[addr_add,Nat.zero_add] at M;exact M
theorem Bv {S:Nat->Prop} {w w':World} {base size n:Nat} {t:TypeId} {v:Value} {xs:List Value} (h:Chg S w w') (O:w.ownsRow base t size v n xs) (hs:∀k,v.ownBlock=some k->¬S k):w'.ownsRow base t size v n xs:=by
 refine⟨O.1,?_⟩;rcases O.2 with Z | ⟨g,cap,cur,rfl,hb,M,rest⟩
 ·exact .inl Z
 ·exact .inr ⟨g,cap,cur,rfl,hb,(h.block g (Array.getElem?_eq_some_iff.1 M).1 (hs g rfl)).trans M,rest⟩
def its (es:List Ent):List It:=es.map (·.it)
theorem MV {es:List Ent} {i:Nat} {e:Ent} (h:es[i]? = some e):(its es)[i]? = some e.it:=by simp [its,h]
theorem YB {es:List Ent} {i:Nat} {x:It} (h:(its es)[i]? = some x):∃e,es[i]? = some e/\e.it=x:=by
 simpa [its] using h
theorem Dq (es:List Ent):(its es).length=es.length:=by simp [its]
structure Ring (w:World) (B r:Nat) (v:Value) (es:List Ent):Prop where
 blk:Blk w r 106 #[v]
 row:w.ownsRow B 110 36 v es.length (es.flatMap eC)
 lo:B<=r
 vr:v.ownBlock≠some r
 box:∀(i:Nat) (e:Ent),es[i]? = some e->Box w e.b e.it.k e.h e.a e.o e.r
 off:∀(i:Nat) (e:Ent),es[i]? = some e->∀k,Ow e.b e.h k->B<=k/\k≠r/\v.ownBlock≠some k
 far:∀(i j:Nat) (e f:Ent),es[i]? = some e->es[j]? = some f->i≠j->∀k,Ow e.b e.h k->¬Ow f.b f.h k
def RO (r:Nat) (v:Value) (es:List Ent) (k:Nat):Prop:=k=r\/v.ownBlock=some k\/∃(i:Nat) (e:Ent),es[i]? = some e/\Ow e.b e.h k
section
variable {w w':World} {B r:Nat} {v v':Value} {es:List Ent} {S:Nat->Prop}
theorem Ring.own_lo (h:Ring w B r v es) {k:Nat} (hk:RO r v es k):B<=k:=by
 rcases hk with hk | hk | ⟨i,e,he,hk⟩
 ·subst hk;exact h.lo
 ·exact(World.ownsRow.lt h.row k hk).1
 ·exact(h.off i e he k hk).1
theorem Ring.own_lt (h:Ring w B r v es) {k:Nat} (hk:RO r v es k):k<w.heap.size:=by
 rcases hk with hk | hk | ⟨i,e,he,hk⟩
 ·subst hk;exact h.blk.lt
 ·exact(World.ownsRow.lt h.row k hk).2
 ·exact(h.box i e he).own_lt k hk
theorem Ring.lt (h:Ring w B r v es):r<w.heap.size:=h.blk.lt
theorem Ring.chg (h:Ring w B r v es) (M:Chg S w w') (hs:∀k,RO r v es k->¬S k):Ring w' B r v es:=
 ⟨M.blk h.blk (hs r (.inl rfl)),Bv M h.row (fun k hk=>hs k (.inr (.inl hk))),h.lo,h.vr,fun i e he=>(h.box i e he).chg M (fun k hk=>hs k (.inr (.inr ⟨i,e,he,hk⟩))),h.off,h.far⟩
theorem Ring.below (h:Ring w B r v es) (M:Below w.heap.size w w'):Ring w' B r v es:=h.chg (S:=fun _=>False) (Chg.of_below M) (fun _ _ x=>x)
theorem Ring.drew (h:Ring w B r v es):Ring w.drew B r v es:=h.below (below_drewN Ah 1)
theorem Ring.num (h:Ring w B r v es):∃A c,v=.slice A es.length c/\es.length<=c/\c<=maxLen/\RdR w w.heap.size A eC 36 es:=Bs Cy h.row
theorem Ring.use (h:Ring w B r v es) {i:Nat} {e:Ent} (he:es[i]? = some e) {h':Option Nat} {a o q:Nat} (hx:Box w' e.b e.it.k h' a o q) (hs:Dp w w' e.b e.h h') (hB:B<=w.heap.size):Ring w' B r v (es.set i ⟨e.it,e.b,h',a,o,q⟩):=by
 have hi:=(List.getElem?_eq_some_iff.1 he).1;have O:∀(j:Nat) (f:Ent),(es.set i ⟨e.it,e.b,h',a,o,q⟩)[j]? = some f->(j=i/\f=⟨e.it,e.b,h',a,o,q⟩)\/(j≠i/\es[j]? = some f):=fun j f M=>by
  by_cases q:i=j
  ·subst q
   rw[List.getElem?_set_self hi] at M;injection M with M;exact .inl ⟨rfl,M.symm⟩
  ·rw[List.getElem?_set_ne q] at M
   exact .inr ⟨fun x=>q x.symm,M⟩
 have aw:∀k,Ow e.b h' k->Ow e.b e.h k\/w.heap.size<=k:=fun k hk=>by
  rcases Nat.lt_or_ge k w.heap.size with g | g
  ·exact .inl (hs.own k g hk)
  ·exact .inr g
 have bb:(es.set i ⟨e.it,e.b,h',a,o,q⟩).flatMap eC=es.flatMap eC:=by
  have:(es.set i ⟨e.it,e.b,h',a,o,q⟩).map eC=es.map eC:=by
   apply List.ext_getElem?;intro j;rw[List.getElem?_map,List.getElem?_map]
   by_cases g:i=j
   ·subst g;rw[List.getElem?_set_self hi,he];rfl
   ·rw[List.getElem?_set_ne g]
  rw[List.flatMap_def,List.flatMap_def,this]
 refine⟨hs.1.blk h.blk (fun x=>(h.off i e he r x).2.1 rfl),?_,h.lo,h.vr,fun j f M=>?_,fun j f M k hk=>?_,fun j j2 f f2 M Z bn k hk av=>?_⟩
 ·rw[bb,List.length_set]
  exact Bv hs.1 h.row (fun k hk x=>(h.off i e he k x).2.2 hk)
 ·rcases O j f M with⟨_,rfl⟩ | ⟨hj,M⟩
  ·exact hx
  ·exact(h.box j f M).chg hs.1 (fun k hk av=>h.far j i f e M he hj k hk av)
 ·rcases O j f M with⟨_,rfl⟩ | ⟨hj,M⟩
  ·rcases aw k hk with g | g
   ·exact h.off i e he k g
   ·exact⟨by omega,fun x=>by have:=h.lt;omega,fun x=>by have:=(World.ownsRow.lt h.row k x).2;omega⟩
  ·exact h.off j f M k hk
 ·rcases O j f M with⟨e1,rfl⟩ | ⟨hj,M⟩
  ·rcases O j2 f2 Z with⟨e2,rfl⟩ | ⟨bq,Z⟩
   ·exact bn (e1.trans e2.symm)
   ·rcases aw k hk with g | g
    ·exact h.far i j2 e f2 he Z (fun x=>bq x.symm) k g av
    ·have:=(h.box j2 f2 Z).own_lt k av;omega
  ·rcases O j2 f2 Z with⟨e2,rfl⟩ | ⟨bq,Z⟩
   ·rcases aw k av with g | g
    ·exact h.far j i f e M he hj k hk g
    ·have:=(h.box j f M).own_lt k hk;omega
   ·exact h.far j j2 f f2 M Z bn k hk av
theorem Ring.use_new (h:Ring w B r v es) {i:Nat} {e:Ent} (he:es[i]? = some e) {O:Option Nat} (a o q:Nat) (hs:Dp w w' e.b e.h O):∀k,RO r v (es.set i ⟨e.it,e.b,O,a,o,q⟩) k->RO r v es k\/w.heap.size<=k:=fun k hk=>by
 have hi:=(List.getElem?_eq_some_iff.1 he).1;rcases hk with hk | hk | ⟨j,f,M,hk⟩
 ·exact .inl (.inl hk)
 ·exact .inl (.inr (.inl hk))
 ·by_cases g:i=j
  ·subst g
   rw[List.getElem?_set_self hi] at M;injection M with M;subst M;rcases Nat.lt_or_ge k w.heap.size with g | g
   ·exact .inl (.inr (.inr ⟨i,e,he,hs.own k g hk⟩))
   ·exact .inr g
  ·rw[List.getElem?_set_ne g] at M
   exact .inl (.inr (.inr ⟨j,f,M,hk⟩))
theorem Ring.snoc (h:Ring w B r v es) {e:Ent} (hc:Chg (fun k=>k=r\/v.ownBlock=some k) w w') (hb:Blk w' r 106 #[v']) (bb:w'.ownsRow B 110 36 v' (es.length+1) (es.flatMap eC++eC e))
  (hv:v'.ownBlock=v.ownBlock\/∃k,v'.ownBlock=some k/\w.heap.size<=k/\k≠e.b) (bx:Box w' e.b e.it.k none e.a e.o e.r) (bz:w.heap.size<=e.b) (hh:e.h=none) (hB:B<=w.heap.size):Ring w' B r v' (es++[e]):=by
 have bs:=h.lt;have O:∀(j:Nat) (f:Ent),(es++[e])[j]? = some f->(es[j]? = some f)\/(j=es.length/\f=e):=fun j f M=>by
  by_cases g:j<es.length
  ·rw[List.getElem?_append_left g] at M;exact .inl M
  ·rw[List.getElem?_append_right (by omega)] at M
   have:=(List.getElem?_eq_some_iff.1 M).1;have e1:j=es.length:=by simp at this;omega
   subst e1;rw[Nat.sub_self] at M;injection M with M;exact .inr ⟨rfl,M.symm⟩
 have aw:∀k,Ow e.b e.h k->k=e.b:=fun k hk=>by
  rcases hk with hk | hk
  ·exact hk
  ·rw[hh] at hk;cases hk
 have bn:∀k,v'.ownBlock=some k->k<w.heap.size->v.ownBlock=some k:=fun k hk hl=>by
  rcases hv with g | ⟨q,g1,g2,_⟩
  ·rw[<-g];exact hk
  ·rw[g1] at hk;injection hk with hk;omega
 refine⟨hb,?_,h.lo,fun x=>h.vr (bn r x bs),fun j f M=>?_,fun j f M k hk=>?_,fun j j2 f f2 M bq Z k hk av=>?_⟩
 ·rw[List.length_append,List.length_singleton,List.flatMap_append,List.flatMap_singleton];exact bb
 ·rcases O j f M with g | ⟨_,rfl⟩
  ·refine(h.box j f g).chg hc (fun k hk x=>?_)
   rcases x with x | x
   ·exact(h.off j f g k hk).2.1 x
   ·exact(h.off j f g k hk).2.2 x
  ·rw[hh];exact bx
 ·rcases O j f M with g | ⟨_,rfl⟩
  ·have h1:=h.off j f g k hk
   exact⟨h1.1,h1.2.1,fun x=>h1.2.2 (bn k x ((h.box j f g).own_lt k hk))⟩
  ·rw[aw k hk]
   refine⟨by omega,by omega,fun x=>?_⟩;rcases hv with g | ⟨q,g1,_,g3⟩
   ·rw[g] at x;have:=(World.ownsRow.lt h.row _ x).2;omega
   ·rw[g1] at x;injection x with x;exact g3 x
 ·rcases O j f M with g | ⟨e1,rfl⟩
  ·rcases O j2 f2 bq with g2 | ⟨e2,rfl⟩
   ·exact h.far j j2 f f2 g g2 Z k hk av
   ·have:=(h.box j f g).own_lt k hk;have:=aw k av;omega
  ·rcases O j2 f2 bq with g2 | ⟨e2,rfl⟩
   ·have:=(h.box j2 f2 g2).own_lt k av;have:=aw k hk;omega
   ·exact Z (e1.trans e2.symm)
theorem WY (es:List Ent) (e:Ent):its (es++[e])=its es++[e.it]:=by simp [its]
end
theorem YC (x y:Pr) (w:World):(Op.equalIn 10000 30 (.agg #[.string ⟨x.1.toArray⟩,.string ⟨x.2.toArray⟩]) (.agg #[.string ⟨y.1.toArray⟩,.string ⟨y.2.toArray⟩])).run Tryz.prog w=.ok (decide (x=y)) w:=by
 obtain⟨a,b⟩:=x;obtain⟨c,d⟩:=y;simp only
 by_cases h0:a=c
 ·subst h0
  by_cases h1:b=d
  ·subst h1
   rw[decide_eq_true rfl]
   go_simp
  ·rw[decide_eq_false (fun h=>h1 (congrArg (fun z=>z.2) h))]
   go_simp
 ·rw[decide_eq_false (fun h=>h0 (congrArg (fun z=>z.1) h))]
  go_simp
theorem Dr {x y:Pr} (h:x=y):∀w,(Op.equalIn 10000 30 (.agg #[.string ⟨x.1.toArray⟩,.string ⟨x.2.toArray⟩]) (.agg #[.string ⟨y.1.toArray⟩,.string ⟨y.2.toArray⟩])).run Tryz.prog w=.ok true w:=fun w=>by rw[YC,decide_eq_true h]
theorem DV {x y:Pr} (h:x≠y):∀w,(Op.equalIn 10000 30 (.agg #[.string ⟨x.1.toArray⟩,.string ⟨x.2.toArray⟩]) (.agg #[.string ⟨y.1.toArray⟩,.string ⟨y.2.toArray⟩])).run Tryz.prog w=.ok false w:=fun w=>by rw[YC,decide_eq_false h]
theorem Ly:(Tryz.prog.info? 110).map (·.size)=some 36:=by kernel_rfl
theorem Ds:(Tryz.prog.info? 30).map (·.size)=some 2:=by kernel_rfl
def Fv:Array Value:=#[.string ⟨#[]⟩,.string ⟨#[]⟩,.int .i64 0,.int .u8 0,.int .u8 0,.int .u8 0,.int .u8 0,.int .u8 0,.int .u8 0,.int .u8 0,.int .u8 0,.int .u8 0,.int .u8 0,.int .u8 0,.int .u8 0,.int .u8 0,.int .u8 0,.int .u8 0,.int .u8 0,.int .u8 0,.int .u8 0,.int .u8 0,.int .u8 0,.int .u8 0,.int .u8 0,.int .u8 0,.int .u8 0,.int .u8 0,.int .u8 0,.int .u8 0,.int .u8 0,.int .u8 0,.int .u8 0,.int .u8 0,.int .u8 0,.pointer none]
def eA (e:Ent):Array Value:=(eC e).toArray
theorem DE (e:Ent):(eA e).size=36:=by simp [eA,Cy]
theorem Uq (e:Ent):(eA e).all (·.oneCell')=true:=by
 rw[Array.all_eq_true_iff_forall_mem];intro u hu;exact MU e u (by simpa [eA] using hu)
theorem JL (e:Ent):(eA e).toList=eC e:=by simp [eA]
theorem Ur {w:World} {g:Nat} {t:TypeId} {e:Ent} (h:Blk w g t (eA e)):w.rangeAt g 0 (#[.string ⟨e.it.p.1.toArray⟩,.string ⟨e.it.p.2.toArray⟩]:Array Value).toList:=
 Wh.Ef (pre:=[]) (post:=(eC e).drop 2) h (by rw[JL];rfl) 0 rfl
theorem eA_n {w:World} {g:Nat} {t:TypeId} {e:Ent} (h:Blk w g t (eA e)):w.cell? ⟨g,2,none⟩=some (.int .i64 (e.it.n:Int)):=by
 rw[h.cell,eA,List.getElem?_toArray];rfl
theorem eA_b {w:World} {g:Nat} {t:TypeId} {e:Ent} (h:Blk w g t (eA e)):w.cell? ⟨g,35,none⟩=some (.pointer (some ⟨e.b,0,none⟩)):=by
 rw[h.cell,eA,List.getElem?_toArray,eC,List.getElem?_append_right (by simp [Ce]),Ce];rfl
def entC (es:List Ent):Option Nat->Array Value
 |none=>Fv
 |some j=>match es[j]? with
  |some e=>eA e
  |none=>Fv
theorem MW {es:List Ent} {j:Nat}:entC es (some j)=match es[j]? with
 |some e=>eA e
 |none=>Fv:=rfl
theorem Kt (es:List Ent) (o:Option Nat):entC es o=Fv\/∃e,entC es o=eA e:=by
 cases o with
 |none=>exact .inl rfl
 |some j=>
  rw[MW];cases es[j]? with
  |none=>exact .inl rfl
  |some e=>exact .inr ⟨e,rfl⟩
theorem JM (es:List Ent) (o:Option Nat):(entC es o).size=36:=by
 rcases Kt es o with h | ⟨e,h⟩
 ·rw[h];rfl
 ·rw[h];exact DE _
theorem Us:Fv.all (·.oneCell')=true:=by
 have h:∀u∈Fv.toList,u.oneCell'=true:=by
  unfold Fv;simp only[List.forall_mem_cons];simp [Value.oneCell']
 rw[Array.all_eq_true_iff_forall_mem];exact fun u hu=>h u (Array.mem_def.1 hu)
theorem WZ (es:List Ent) (o:Option Nat):(entC es o).all (·.oneCell')=true:=by
 rcases Kt es o with h | ⟨e,h⟩
 ·rw[h];exact Us
 ·rw[h];exact Uq _
theorem aF {es:List Ent} {i:Nat} {e:Ent} (h:es[i]? = some e):entC es (some i)=eA e:=by simp [entC,h]
theorem Rb {es:List Ent} {i:Nat} {e:Ent} {p:Pr} (h:es[i]? = some e) (hp:e.it.p=p):BV (its es) p (i+1)=some i:=by
 rw[BV,if_pos (by rw[MV h,<-hp];rfl)]
theorem OE {es:List Ent} {i:Nat} {e:Ent} {p:Pr} (h:es[i]? = some e) (hp:e.it.p≠p):BV (its es) p (i+1)=BV (its es) p i:=by
 rw[BV,if_neg];rw[MV h];intro x;injection x with x;exact hp x
theorem PS (B r:Nat) (v:Value) (es:List Ent) (p:Pr) (w:World) (h:Ring w B r v es) (hl:es.length<=1000) :
  Calls Tryz.prog 26 #[.pointer (some ⟨r,0,none⟩),prV p] w fun e w'=>e=.returned (.agg (entC es (Gd (its es) p)))/\Below w.heap.size w w':=by
 obtain⟨A,c,rfl,hc,hm,hr⟩:=h.num;have bz:Gd (its es) p=BV (its es) p es.length:=by rw[Gd,Dq]
 rw[bz];have cb:=h.blk;obtain⟨n,en⟩:=Ak (es.length);rw[<-en] at cb hc hl⊢;have k0:=cb.c0;have cm:=cb.lt;have cy:=I cb;clear cb;have HR:=I hr;clear hr;have EN:=I en;clear en bz h;obtain⟨W,eW⟩:=Ak (((w.alloc (.cells #[.string ⟨p.1.toArray⟩,.string ⟨p.2.toArray⟩] 30)).alloc (.cells Fv 110)).alloc (.cells Fv 110));have hb:Below w.heap.size w W:=eW▸((Ah.alloc Ag _).alloc (by simp) _).alloc (by simp;omega) _;have HP:=I (show Blk W w.heap.size 30 #[.string ⟨p.1.toArray⟩,.string ⟨p.2.toArray⟩] from eW▸((Blk.new w _ _).alloc _).alloc _);have M:=I (show Blk W (w.heap.size+1) 110 Fv by have:=Blk.new (w.alloc (.cells #[.string ⟨p.1.toArray⟩,.string ⟨p.2.toArray⟩] 30)) 110 Fv;simp only[World.size_alloc] at this;exact eW▸this.alloc _);have O:=I (show Blk W (w.heap.size+1+1) 110 Fv by have:=Blk.new ((w.alloc (.cells #[.string ⟨p.1.toArray⟩,.string ⟨p.2.toArray⟩] 30)).alloc (.cells Fv 110)) 110 Fv;simp only[World.size_alloc] at this;exact eW▸this);have HB:=I hb;replace k0:W.cell? ⟨r,0,none⟩=some (.slice A n c):=(hb.cell (p:=⟨r,0,none⟩) cm).trans k0;replace HR:=I ((HR.o.keep hb));clear hb;go_enter Tryz.func26,Tryz.ntmps26
 go_upto_region 2 with fail
 change Code.wp _ _ _ _ (((w.alloc (.cells #[.string ⟨p.1.toArray⟩,.string ⟨p.2.toArray⟩] 30)).alloc (.cells Fv 110)).alloc (.cells Fv 110));rw[<-eW];obtain⟨N,eN⟩:=Ak (w.heap.size);rw[<-eN] at HP M O HB HR cm⊢;have cp:=I eN;clear eW eN
 go_wp2
 go_loopw [13] (fun iv wr=>∃i:Nat,i<=n/\iv=.int .i64 (i:Int)/\Below N w wr/\Blk wr N 30 #[.string ⟨p.1.toArray⟩,.string ⟨p.2.toArray⟩]/\Blk wr (N+1) 110 Fv/\Blk wr (N+1+1) 110 (entC es (BV (its es) p i))/\RdR wr N A eC 36 es) (fun iv _=>n - (intOf iv).toNat)
 case atStart=>exact⟨0,Nat.zero_le _,rfl,HB.o,HP.o,M.o,O.o,HR.o⟩
 case round=>
  clear HB HP M O HR k0;obtain⟨i,hi,rfl,hb,hp,bB,bs,hr⟩:=hrel;have HB:=I hb;have HP:=I hp;have M:=I bB;have O:=I bs;have aw:=I bs.lt
  by_cases hlt:i<n
  ·have e1:(i:Int)<(n:Int):=by omega
   have e2:(0:Int)<=(i:Int):=by omega
   obtain⟨x,hx⟩:∃x,es[i]? = some x:=⟨es[i]'(by rw[<-EN.o];exact hlt),List.getElem?_eq_getElem _⟩;obtain⟨g,rfl,cx,cj⟩:=hr.at_ hx;have HR:=I hr;rw[<-JL] at cj;have cg:=I cj;have bn:=Uq x;have bx:=I bn;have av:=Ly;rw[<-DE x] at av;have Z:=I av;have HX:=I hx;have cc:=hp.cell 0;have cd:=hp.cell 1;obtain⟨cs,bb⟩:=Ak (eA x);rw[<-bb] at cg bx Z;have bq:=I bb;clear cj bn av hx hr hb hp bB bs bb cc cd
   by_cases hq:x.it.p=p
   ·have t1:=Dr hq
    have HQ:=I hq;clear hq
    go_wp2_with (first
     |(refine Wh.AF (by rfl) 110 (.tmp 15) (by rfl) g _ (by rfl) cs _ cg.o Tryz.underlying110 (by rfl) Z.o ?_)
     |(refine Wh.Bd (by rfl) 110 (.tmp 7) (.tmp 16) (by rfl) 110 rfl cs (by rfl) (by rfl) (by rw[bq.o,DE];rfl) Z.o bx.o ?_;rintro V hV hb;have HV:=I hV;replace HB:=I (HB.o.trans (hb.mono (by have:=aw.o;omega)));replace HP:=I (HP.o.below hb);replace M:=I (M.o.below hb);replace O:=I (O.o.below hb);replace HR:=I (HR.o.keep (hb.mono (by have:=aw.o;omega)));have cc:=HP.c0;have cd:=HP.c1;have cf:=I (Ur (bq.o▸hV));have cq:=I (Nat.lt_of_lt_of_le aw.o Ag);clear hV hb)
     |(refine Wh.AF (by rfl) 30 (.tmp 17) (by rfl) _ 0 (by rfl) _ _ cf.o Tryz.underlying30 (by rfl) Ds ?_)
     |(refine Wh.AF (by rfl) 110 (.tmp 7) (by rfl) _ 0 (by rfl) cs _ (Wh.Ad HV.o) Tryz.underlying110 (by rfl) Z.o ?_)
     |(refine Wh.AX (by rfl) 110 (.tmp 5) (.tmp 21) (by rfl) (N+1+1) 110 _ O.o cs (by rfl) (by rfl) (by rw[JM,bq.o,DE]) Z.o bx.o ?_;rintro V2 ca hg;replace HB:=I (Az HB.o hg (by have:=M.o.lt;omega) (by omega));replace HP:=I (HP.o.grown hg (by intro h;injection h with h;omega));replace M:=I (M.o.grown hg (by intro h;injection h with h;omega));replace HR:=I (HR.o.keep ((Below.refl N V).grown hg (by have:=M.o.lt;have:=O.o.lt;omega) (fun k hk=>by injection hk with hk;omega)));have ct:=I ca;clear ca hg cc cd O)
     |fail)
    go_roundw
    case rel=>exact⟨i+1,by omega,by go_num,HB.o,HP.o,M.o,by rw[Rb HX.o HQ.o,aF HX.o,<-bq.o];exact ct.o,HR.o⟩
    case measure=>simp [intOf];omega
   ·have t1:=DV hq
    have HQ:=I hq;clear hq
    go_wp2_with (first
     |(refine Wh.AF (by rfl) 110 (.tmp 15) (by rfl) g _ (by rfl) cs _ cg.o Tryz.underlying110 (by rfl) Z.o ?_)
     |(refine Wh.Bd (by rfl) 110 (.tmp 7) (.tmp 16) (by rfl) 110 rfl cs (by rfl) (by rfl) (by rw[bq.o,DE];rfl) Z.o bx.o ?_;rintro V hV hb;have HV:=I hV;replace HB:=I (HB.o.trans (hb.mono (by have:=aw.o;omega)));replace HP:=I (HP.o.below hb);replace M:=I (M.o.below hb);replace O:=I (O.o.below hb);replace HR:=I (HR.o.keep (hb.mono (by have:=aw.o;omega)));have cc:=HP.c0;have cd:=HP.c1;have cf:=I (Ur (bq.o▸hV));have cq:=I (Nat.lt_of_lt_of_le aw.o Ag);clear hV hb)
     |(refine Wh.AF (by rfl) 30 (.tmp 17) (by rfl) _ 0 (by rfl) _ _ cf.o Tryz.underlying30 (by rfl) Ds ?_)
     |fail)
    go_roundw
    case rel=>exact⟨i+1,by omega,by go_num,HB.o,HP.o,M.o,by rw[OE HX.o HQ.o];exact O.o,HR.o⟩
    case measure=>simp [intOf];omega
  ·have e1:¬(i:Int)<(n:Int):=by omega
   obtain rfl:n=i:=by omega
   have bn:=WZ es (BV (its es) p n);have av:=Ly;rw[<-JM es (BV (its es) p n)] at av;have ck:=JM es (BV (its es) p n);obtain⟨cs,bb⟩:=Ak (entC es (BV (its es) p n));rw[<-bb] at bn av ck bs;have cu:=I bb;have bx:=I bn;have Z:=I av;have cw:=I ck;have HC:=I bs;clear bn av ck bs O hr hb hp bB hi bb
   go_wp2_with (first
    |(refine Wh.AF (by rfl) 110 (.tmp 5) (by rfl) _ 0 (by rfl) cs _ (Wh.Ad HC.o) Tryz.underlying110 (by rfl) Z.o ?_)
    |(refine Wh.AX (by rfl) 110 (.tmp 4) (.tmp 23) (by rfl) (N+1) 110 _ M.o cs (by rfl) (by rfl) (by rw[cw.o];rfl) Z.o bx.o ?_;rintro V2 ca hg;have cn:=I (Az HB.o hg (by have:=aw.o;omega) (by omega));have cr:=I ca;clear ca hg)
    |fail)
   refine bodyPost_ret (v:=.agg cs) ?_ ?_ ?_
   ·exact Wh.Au (v:=.agg cs) 4 110 ⟨N+1,0,none⟩ Tryz.results26 (by rfl) (Wh.Ao cr.o Tryz.underlying110 (by rfl) Z.o)
   ·rfl
   ·exact⟨by rw[cu.o],by rw[<-cp.o];exact cn.o⟩
def BoxR (es:List Ent) (p:Pr) (z:Int) (q:Option Addr) (k:Int):Prop:=
 (∃i x,CV (its es) p z=some i/\es[i]? = some x/\q=some ⟨x.b,0,none⟩/\k=0)\/(CV (its es) p z=none/\q=none/\k=4)
theorem Ut (B r:Nat) (v:Value) (es:List Ent) (p:Pr) (z:Int) (w:World) (h:Ring w B r v es) (hl:es.length<=1000) :
  Calls Tryz.prog 87 #[.pointer (some ⟨r,0,none⟩),prV p,.int .i64 z] w fun e w'=>∃q k,e=.returned (.tuple #[.pointer q,.int .i64 k])/\BoxR es p z q k/\Below w.heap.size w w':=by
 obtain⟨A,c,rfl,hc,hm,hr⟩:=h.num;have bs:=h.blk;obtain⟨n,en⟩:=Ak (es.length);rw[<-en] at bs hc hl;have k0:=bs.c0;have cj:=bs.lt;have HR:=I hr;clear hr;have EN:=I en;clear en h bs;obtain⟨W,eW⟩:=Ak (w.alloc (.cells #[.string ⟨p.1.toArray⟩,.string ⟨p.2.toArray⟩] 30));have O:Below w.heap.size w W:=eW▸Ah.alloc Ag _;have Z:=I (show Blk W w.heap.size 30 #[.string ⟨p.1.toArray⟩,.string ⟨p.2.toArray⟩] from eW▸Blk.new w _ _);have HB:=I O;replace k0:W.cell? ⟨r,0,none⟩=some (.slice A n c):=(O.cell (p:=⟨r,0,none⟩) cj).trans k0;replace HR:=I ((HR.o.keep O));clear O;go_enter Tryz.func87,Tryz.ntmps87
 go_upto_region 1 with fail
 rw[<-eW];obtain⟨N,eN⟩:=Ak (w.heap.size);rw[<-eN] at Z HB HR cj⊢;have cc:=I eN;clear eW eN
 go_wp2
 go_loopw [17] (fun iv wr=>∃i:Nat,i<=n/\iv=.int .i64 (i:Int)/\Below N w wr/\Blk wr N 30 #[.string ⟨p.1.toArray⟩,.string ⟨p.2.toArray⟩]/\RdR wr N A eC 36 es/\(∀(j:Nat) (y:It),j<i->(its es)[j]? = some y->¬(y.p=p/\(y.n:Int)=z))) (fun iv _=>n - (intOf iv).toNat)
 case atStart=>exact⟨0,Nat.zero_le _,rfl,HB.o,Z.o,HR.o,fun j y hj=>absurd hj (Nat.not_lt_zero _)⟩
 case round=>
  clear HB Z HR k0;obtain⟨i,hi,rfl,O,hp,hr,bB⟩:=hrel;have HB:=I O;have Z:=I hp;have bq:=I bB;have aw:=I hp.lt
  by_cases hlt:i<n
  ·have e1:(i:Int)<(n:Int):=by omega
   have e2:(0:Int)<=(i:Int):=by omega
   obtain⟨x,hx⟩:∃x,es[i]? = some x:=⟨es[i]'(by rw[<-EN.o];exact hlt),List.getElem?_eq_getElem _⟩;obtain⟨g,rfl,ck,ca⟩:=hr.at_ hx;have HR:=I hr;rw[<-JL] at ca;have bn:=I ca;have cd:=Uq x;have bx:=I cd;have bz:=Ly;rw[<-DE x] at bz;have av:=I bz;have HX:=I hx;obtain⟨cs,cb⟩:=Ak (eA x);rw[<-cb] at bn bx av;have M:=I cb;clear ca cd bz hx hr O hp cb bB
   by_cases hq:x.it.p=p
   ·have t1:=Dr hq
    have HQ:=I hq;clear hq
    by_cases hz:(x.it.n:Int)=z
    ·have t2:((x.it.n:Int)==z)=true:=beq_iff_eq.2 hz
     have HZ:=I hz;clear hz
     go_wp2_with (first
      |(refine Wh.AF (by rfl) 110 (.tmp 19) (by rfl) g _ (by rfl) cs _ bn.o Tryz.underlying110 (by rfl) av.o ?_)
      |(refine Wh.Bd (by rfl) 110 (.tmp 9) (.tmp 20) (by rfl) 110 rfl cs (by rfl) (by rfl) (by rw[M.o,DE];rfl) av.o bx.o ?_;rintro V hV O;replace HB:=I (HB.o.trans (O.mono (by have:=aw.o;omega)));replace Z:=I (Z.o.below O);replace HR:=I (HR.o.keep (O.mono (by have:=aw.o;omega)));have cf:=Z.c0;have cg:=Z.c1;have bb:=I (Ur (M.o▸hV));have kn:=eA_n (M.o▸hV);have kb:=eA_b (M.o▸hV);clear hV O)
      |(refine Wh.AF (by rfl) 30 (.tmp 21) (by rfl) _ 0 (by rfl) _ _ bb.o Tryz.underlying30 (by rfl) Ds ?_)
      |fail)
     go_ret2
     exact⟨_,_,rfl,.inl ⟨i,x,IG (MV HX.o) HQ.o HZ.o bq.o,HX.o,rfl,rfl⟩,by rw[<-cc.o];exact HB.o⟩
    ·have t2:((x.it.n:Int)==z)=false:=beq_eq_false_iff_ne.2 hz
     have HZ:=I hz;clear hz
     go_wp2_with (first
      |(refine Wh.AF (by rfl) 110 (.tmp 19) (by rfl) g _ (by rfl) cs _ bn.o Tryz.underlying110 (by rfl) av.o ?_)
      |(refine Wh.Bd (by rfl) 110 (.tmp 9) (.tmp 20) (by rfl) 110 rfl cs (by rfl) (by rfl) (by rw[M.o,DE];rfl) av.o bx.o ?_;rintro V hV O;replace HB:=I (HB.o.trans (O.mono (by have:=aw.o;omega)));replace Z:=I (Z.o.below O);replace HR:=I (HR.o.keep (O.mono (by have:=aw.o;omega)));have cf:=Z.c0;have cg:=Z.c1;have bb:=I (Ur (M.o▸hV));have kn:=eA_n (M.o▸hV);have kb:=eA_b (M.o▸hV);clear hV O)
      |(refine Wh.AF (by rfl) 30 (.tmp 21) (by rfl) _ 0 (by rfl) _ _ bb.o Tryz.underlying30 (by rfl) Ds ?_)
      |fail)
     go_roundw
     case rel=>exact⟨i+1,by omega,by go_num,HB.o,Z.o,HR.o,fun j y hj hy=>by
      by_cases g:j=i
      ·subst g
       rw[MV HX.o] at hy;injection hy with hy;subst hy;exact fun hh=>HZ.o hh.2
      ·exact bq.o j y (by omega) hy⟩
     case measure=>simp [intOf];omega
   ·have t1:=DV hq
    have HQ:=I hq;clear hq
    go_wp2_with (first
     |(refine Wh.AF (by rfl) 110 (.tmp 19) (by rfl) g _ (by rfl) cs _ bn.o Tryz.underlying110 (by rfl) av.o ?_)
     |(refine Wh.Bd (by rfl) 110 (.tmp 9) (.tmp 20) (by rfl) 110 rfl cs (by rfl) (by rfl) (by rw[M.o,DE];rfl) av.o bx.o ?_;rintro V hV O;replace HB:=I (HB.o.trans (O.mono (by have:=aw.o;omega)));replace Z:=I (Z.o.below O);replace HR:=I (HR.o.keep (O.mono (by have:=aw.o;omega)));have cf:=Z.c0;have cg:=Z.c1;have bb:=I (Ur (M.o▸hV));have kn:=eA_n (M.o▸hV);have kb:=eA_b (M.o▸hV);clear hV O)
     |(refine Wh.AF (by rfl) 30 (.tmp 21) (by rfl) _ 0 (by rfl) _ _ bb.o Tryz.underlying30 (by rfl) Ds ?_)
     |fail)
    go_roundw
    case rel=>exact⟨i+1,by omega,by go_num,HB.o,Z.o,HR.o,fun j y hj hy=>by
     by_cases g:j=i
     ·subst g
      rw[MV HX.o] at hy;injection hy with hy;subst hy;exact fun hh=>HQ.o hh.1
     ·exact bq.o j y (by omega) hy⟩
    case measure=>simp [intOf];omega
  ·have e1:¬(i:Int)<(n:Int):=by omega
   obtain rfl:n=i:=by omega
   clear hr O hp hi bB
   go_wp2
   go_ret2
   exact⟨_,_,rfl,.inr ⟨Ki fun j y hy=>bq.o j y (by rw[EN.o,<-Dq];exact(List.getElem?_eq_some_iff.1 hy).1) hy,rfl,rfl⟩,by rw[<-cc.o];exact HB.o⟩
theorem Uu {B r:Nat} {v:Value} {es:List Ent} {p:Pr} {z:Int} {w:World} {i:Nat} {x:Ent} (h:Ring w B r v es) (hl:es.length<=1000) (Z:CV (its es) p z=some i) (hx:es[i]? = some x) :
  Calls Tryz.prog 87 #[.pointer (some ⟨r,0,none⟩),prV p,.int .i64 z] w fun e w'=>e=.returned (.tuple #[.pointer (some ⟨x.b,0,none⟩),.int .i64 0])/\Below w.heap.size w w':=by
 refine(Ut B r v es p z w h hl).mono ?_;rintro e w' ⟨q,k,rfl,hq,hb⟩;rcases hq with⟨j,y,M,O,rfl,rfl⟩ | ⟨M,_⟩
 ·rw[Z] at M;injection M with M;subst M
  rw[hx] at O;injection O with O;subst O;exact⟨rfl,hb⟩
 ·rw[Z] at M;cases M
theorem PU {B r:Nat} {v:Value} {es:List Ent} {p:Pr} {z:Int} {w:World} (h:Ring w B r v es) (O:es.length<=1000) (hf:CV (its es) p z=none) :
  Calls Tryz.prog 87 #[.pointer (some ⟨r,0,none⟩),prV p,.int .i64 z] w fun e w'=>e=.returned (.tuple #[.pointer none,.int .i64 4])/\Below w.heap.size w w':=by
 refine(Ut B r v es p z w h O).mono ?_;rintro e w' ⟨q,k,rfl,Z,hb⟩;rcases Z with⟨j,y,M,_⟩ | ⟨M,rfl,rfl⟩
 ·rw[hf] at M;cases M
 ·exact⟨rfl,hb⟩
theorem PW (B:Nat) (w:World) (hB:B<=w.heap.size):Calls Tryz.prog 11 #[] w fun e w'=>∃r,e=.returned (.pointer (some ⟨r,0,none⟩))/\w.heap.size<=r/\Ring w' B r (.slice none 0 0) []/\Below w.heap.size w w':=by
 have M:=(Below.refl w.heap.size w).alloc Ag (.cells #[.slice none 0 0] 106);have hk:=Blk.new w 106 #[.slice none 0 0];have Z:=I M;clear M;have O:=I hk;clear hk;go_enter Tryz.func11,Tryz.ntmps11
 go_wp2
 go_ret;exact⟨_,rfl,Nat.le_refl _,⟨O.o,World.ownsRow_nil _ _ _ _,hB,by simp [Value.ownBlock],fun i e h=>by simp at h,fun i e h=>by simp at h,fun i j e f h=>by simp at h⟩,Z.o⟩
theorem Lz (p:Pr) (w:World) (h1:p.1.length<=1000000000) (h2:p.2.length<=1000000000):Calls Tryz.prog 27 #[prV p] w fun e w'=>e=.returned (prV p)/\Below w.heap.size w w':=by
 have C1:=I (fun w1=>Nm.BZ p.1 w1 h1);have C2:=I (fun w1=>Nm.BZ p.2 w1 h2);go_enter Tryz.func27,Tryz.ntmps27
 go_upto_region 1 with fail
 obtain⟨W,eW⟩:=Ak ((w.alloc (.cells #[.string ⟨p.1.toArray⟩,.string ⟨p.2.toArray⟩] 30)).alloc (.cells #[.string ⟨#[]⟩,.string ⟨#[]⟩] 30));have hq:=Blk.new (w.alloc (.cells #[.string ⟨p.1.toArray⟩,.string ⟨p.2.toArray⟩] 30)) 30 #[.string ⟨#[]⟩,.string ⟨#[]⟩];rw[show(w.alloc (.cells #[.string ⟨p.1.toArray⟩,.string ⟨p.2.toArray⟩] 30)).heap.size=w.heap.size+1 by simp,<-eW] at hq;have O:=I (show Blk W w.heap.size 30 #[.string ⟨p.1.toArray⟩,.string ⟨p.2.toArray⟩] by rw[eW];exact(Blk.new _ _ _).alloc _);have M:=I hq;have HB:=I (show Below w.heap.size w W by rw[eW];exact(Ah.alloc Ag _).alloc (by simp) _);rw[<-eW];clear eW hq;replace O:=I (show Blk W.drew _ _ _ from O.o.drewN 1);replace M:=I (show Blk W.drew _ _ _ from M.o.drewN 1);replace HB:=I (show Below _ _ W.drew from below_drewN HB.o 1)
 go_region_held3 (fun w'=>w'.cell? ⟨w.heap.size,0,none⟩=some (.string ⟨p.1.toArray⟩)/\w'.cell? ⟨w.heap.size,1,none⟩=some (.string ⟨p.2.toArray⟩)) (first | exact⟨O.o.cell 0,O.o.cell 1⟩ | exact⟨(Si.Blk.far (Si.Blk.far O.o _ _ (by simp)) _ _ (by simp)).cell 0,(Si.Blk.far (Si.Blk.far O.o _ _ (by simp)) _ _ (by simp)).cell 1⟩) ((first
  |(go_at_call 63;(with_reducible refine Calls.mono (C1.o _) ?_);rintro e w1 ⟨rfl,Z⟩;clear C1;replace O:=I (O.o.below Z);replace M:=I (M.o.below Z);replace HB:=HB.t Z;have av:=M.c0;have aw:=M.c1;have fz:=M.o.frozen;clear Z)
  |(go_at_call 63;(with_reducible refine Calls.mono (C2.o _) ?_);rintro e w2 ⟨rfl,Z⟩;clear C2 av aw fz;replace O:=I (O.o.below Z);replace M:=I (M.o.below Z);replace HB:=HB.t Z;have av:=M.c0;have aw:=M.c1;have fz:=M.o.frozen;clear Z)))
 go_wp2
 have hz:=(M.o.set 0 (.string ⟨p.1.toArray⟩)).set 1 (.string ⟨p.2.toArray⟩);rw[show(((#[.string ⟨#[]⟩,.string ⟨#[]⟩]:Array Value).setIfInBounds 0 (.string ⟨p.1.toArray⟩)).setIfInBounds 1 (.string ⟨p.2.toArray⟩))=#[.string ⟨p.1.toArray⟩,.string ⟨p.2.toArray⟩] from rfl] at hz;refine bodyPost_ret (v:=prV p) ?_ ?_ ?_
 ·exact Wh.Au (v:=prV p) 2 30 ⟨w.heap.size+1,0,none⟩ Tryz.results27 (by rfl) (Wh.Ao hz Tryz.underlying30 (by rfl) Ds)
 ·rfl
 ·exact⟨rfl,Si.AS (Si.AS HB.o (by simp) _) (by simp) _⟩
def kC (k:Nat->UInt8):List Value:=(AQ k).toList
def OwnK (w:World) (base:Nat) (v:Value) (K:List (Nat->UInt8)):Prop:=w.ownsRow base 24 32 v K.length (K.flatMap kC)
theorem OwnK.below {w w':World} {base:Nat} {v:Value} {K:List (Nat->UInt8)} (h:OwnK w base v K) (M:Below w.heap.size w w'):OwnK w' base v K:=BU h M
theorem OF (p:Pr) (w:World) (O:p.1.length<=1000000000) (M:p.2.length<=1000000000):Calls Tryz.prog 25 #[prV p] w fun e w'=>e=.returned (.bool (prB p))/\Below w.heap.size w w':=Nm.AW p.1 p.2 w O M
theorem PY (es:List Ent) (o:Option Nat):(entC es o)[2]? = some (.int .i64 (numO (its es) o:Int)):=by
 cases o with
 |none=>rfl
 |some j=>
  rw[MW];cases h:es[j]? with
  |none=>simp [numO,its,h];rfl
  |some e=>
   have:numO (its es) (some j)=e.it.n:=by simp [numO,its,h]
   rw[this];rfl
theorem MX (cs:Array Value) (z:Int) (h:cs[2]? = some (.int .i64 z)) (w:World):(Instr.field 110 (.agg cs) 1).run Tryz.prog w=.ok (.int .i64 z) w:=by
 unfold Instr.field part asAgg
 go_simp
theorem Ih {w w':World} {row:Option Nat} (h:w.grownBy w' row):Chg (fun q=>row=some q) w w':=⟨h.os,h.tape,h.output,h.size,fun i hi M=>h.block i hi (fun e=>M e.symm)⟩
theorem LA {w Z w6:World} {B r b:Nat} {v v6:Value} {es:List Ent} {it:It} (h:Ring w B r v es) (hB:B<=w.heap.size) (hb:Below w.heap.size w Z) (h5:Ring Z B r v es) (hx:Box Z b it.k none 0 0 0) (aw:w.heap.size<=b)
  (ho:w6.ownsRow B 110 36 v6 (es++[(⟨it,b,none,0,0,0⟩:Ent)]).length ((es++[(⟨it,b,none,0,0,0⟩:Ent)]).flatMap eC)) (hg:Z.grownBy w6 v.ownBlock) (hv:v6.ownBlock=v.ownBlock\/v6.ownBlock=some Z.heap.size) (bs:True) :
  Ring (w6.setCell ⟨r,0,none⟩ v6) B r v6 (es++[⟨it,b,none,0,0,0⟩])/\Chg (fun q=>q=r\/v.ownBlock=some q) w (w6.setCell ⟨r,0,none⟩ v6)/\(∀q,RO r v6 (es++[⟨it,b,none,0,0,0⟩]) q->RO r v es q\/w.heap.size<=q):=by
 have bx:=h.lt;have bq:=hx.lt;have bb:r≠b:=by omega
 have bn:v6.ownBlock≠some r:=fun x=>by
  rcases hv with g | g
  ·rw[g] at x;exact h.vr x
  ·rw[g] at x;injection x with x;have:=h5.lt;omega
 have O:Chg (fun q=>q=r) w6 (w6.setCell ⟨r,0,none⟩ v6):=Chg.set (p:=⟨r,0,none⟩) (Chg.refl (fun q=>q=r) w6) (.inl rfl) v6;have hc:Chg (fun q=>q=r\/v.ownBlock=some q) w (w6.setCell ⟨r,0,none⟩ v6):=
  (((Chg.of_below hb).trans (Ih hg) (fun q _ x=>.inr x)).trans O (fun q _ x=>.inl x):Chg (fun q=>q=r\/v.ownBlock=some q) w _)
 have av:∀q,RO r v6 (es++[⟨it,b,none,0,0,0⟩]) q->RO r v es q\/w.heap.size<=q:=fun q M=>by
  rcases M with M | M | ⟨i,e,he,M⟩
  ·exact .inl (.inl M)
  ·rcases hv with g | g
   ·exact .inl (.inr (.inl (g▸M)))
   ·rw[g] at M;injection M with M;exact .inr (by have:=hb.size;omega)
  ·by_cases hi:i<es.length
   ·rw[List.getElem?_append_left hi] at he
    exact .inl (.inr (.inr ⟨i,e,he,M⟩))
   ·rw[List.getElem?_append_right (by omega)] at he
    have e1:=(List.getElem?_eq_some_iff.1 he).1;have e2:i - es.length=0:=by simp at e1;omega
    rw[e2] at he;injection he with he;subst he;rcases M with M | M
    ·exact .inr (by rw[M];exact aw)
    ·cases M
 refine⟨h.snoc hc ?_ ?_ ?_ ?_ aw rfl hB,hc,av⟩
 ·exact(h5.blk.grown hg h5.vr).set 0 v6
 ·have:=Bv O ho (fun q M x=>bn (x▸M))
  rw[List.length_append,List.length_singleton,List.flatMap_append,List.flatMap_singleton] at this;exact this
 ·rcases hv with g | g
  ·exact .inl g
  ·exact .inr ⟨_,g,hb.size,by show Z.heap.size≠b;omega⟩
 ·have h6:Box w6 b it.k none 0 0 0:=hx.chg (Ih hg) (fun q M x=>by
   rcases M with M | M
   ·subst M;have:=(World.ownsRow.lt h.row q x).2;omega
   ·cases M)
  exact h6.chg O (fun q M x=>by
   rcases M with M | M
   ·exact bb (x▸M)
   ·cases M)
theorem aG:(Tryz.prog.info? 110).map (fun i=>(i.zero,i.size,i.bytes))=some (some (.agg Fv),36,80):=by kernel_rfl
section
variable {P:Program} {w w':World} {a:Act} {dst:Option Tmp} {ty:TypeId} {pos:String} {after:Array _} {guard:Option (Nat×Bool)}
theorem Bk {t:TypeId} {parts:Array (Nat×Operand)} {M:List (Nat×Value)} {cells:Array Value} (O:(parts.map fun x=>(x.1,a.eval x.2)).toList=M) (h:P.built t M=some cells) :
  (execOp a.eval ⟨dst,.build t parts,ty,pos,after,guard⟩).run P w=.ok (.value (.agg cells)) w:=by
 have:=run_build (P:=P) w t (parts.map fun x=>(x.1,a.eval x.2)) cells (by rw[O];exact h);simp only[execOp,Sem.run_bind,this,Result.andThen_ok,Sem.run_pure]
theorem Cl {t:TypeId} {x:Operand} {cs:Array Value} {s:Value} (M:a.eval x=.agg cs) (h:(Instr.buildSlice t 1 #[(0,.agg cs)]).run P w=.ok s w') :
  (execOp a.eval ⟨dst,.buildSlice t 1 #[(0,x)],ty,pos,after,guard⟩).run P w=.ok (.value s) w':=by
 simp only[execOp,Sem.run_bind,List.map_toArray,List.map_cons,List.map_nil,M,h,Result.andThen_ok,Sem.run_pure]
theorem DH {t:TypeId} {x y:Operand} {u v s:Value} (O:a.eval x=u) (M:a.eval y=v) (h:(Builtin.append_ #[t,t] ty #[u,v]).run P w=.ok s w') :
  (execOp a.eval ⟨dst,.call {callee:=.builtin .append,args:=#[x,y],argTypes:=#[t,t]},ty,pos,after,guard⟩).run P w=.ok (.value s) w':=by
 simp only[execOp,resolve,invoke,builtin,Sem.run_bind,Sem.run_pure,Result.andThen_ok,List.map_toArray,List.map_cons,List.map_nil,O,M,h]
end
theorem JN (p:Pr) (n b:Nat) (k:Nat->UInt8):Tryz.prog.built 110 [(0,prV p),(1,.int .i64 (n:Int)),(2,.agg (AQ k)),(3,.pointer (some ⟨b,0,none⟩))]=some (eA ⟨⟨p,n,k⟩,b,none,0,0,0⟩):=by
 kernel_rfl
theorem dH (B r:Nat) (v:Value) (es:List Ent) (p:Pr) (k:Nat->UInt8) (w:World) (h:Ring w B r v es) (hB:B<=w.heap.size) (h1:p.1.length<=1000000000) (h2:p.2.length<=1000000000) (hp:prB p=true) (hl:es.length<40) (hn:Ci (its es) p<255) :
  Calls Tryz.prog 12 #[.pointer (some ⟨r,0,none⟩),prV p,.agg (AQ k)] w fun e w'=>e=.returned (.tuple #[.int .i64 ((Ci (its es) p:Int)+1),.int .i64 0])/\∃v' b,w.heap.size<=b/\Ring w' B r v' (es++[⟨⟨p,Ci (its es) p+1,k⟩,b,none,0,0,0⟩])/\Chg (fun q=>q=r\/v.ownBlock=some q) w w'/\(∀q,RO r v' (es++[⟨⟨p,Ci (its es) p+1,k⟩,b,none,0,0,0⟩]) q->RO r v es q\/w.heap.size<=q):=by
 obtain⟨A,c,rfl,hc,hm,hr⟩:=h.num;obtain⟨n,en⟩:=Ak (es.length);have EN:=I en;obtain⟨z,ez⟩:=Ak (Ci (its es) p);have EZ:=I ez;have hq:=PY es (Gd (its es) p);rw[show numO (its es) (Gd (its es) p)=z from ez.symm] at hq;have CL:=I (fun(w1:World) (h:Ring w1 B r (.slice A es.length c) es)=>PS B r (.slice A es.length c) es p w1 h (by omega));have CP:=I (fun w1=>OF p w1 h1 h2);have CC:=I (fun w1=>Lz p w1 h1 h2);have CN:=I (fun w1=>Hy k w1);rw[hp] at CP;obtain⟨kv,ct⟩:=Ak (AQ k);obtain⟨cs,cM⟩:=Ak (entC es (Gd (its es) p));rw[<-cM] at CL hq;rw[<-ct] at CN⊢;rw[<-ez] at hn⊢;rw[<-en] at hl;have cX:=h.lt;obtain⟨W,eW⟩:=Ak ((w.alloc (.cells #[.string ⟨p.1.toArray⟩,.string ⟨p.2.toArray⟩] 30)).alloc (.cells kv 24));have Z:Below w.heap.size w W:=eW▸(Ah.alloc Ag _).alloc (by simp) _;have O:=I (show Blk W w.heap.size 30 #[.string ⟨p.1.toArray⟩,.string ⟨p.2.toArray⟩] from eW▸(Blk.new w _ _).alloc _);have HK:=I (show Blk W (w.heap.size+1) 24 kv by have:=Blk.new (w.alloc (.cells #[.string ⟨p.1.toArray⟩,.string ⟨p.2.toArray⟩] 30)) 24 kv;simp only[World.size_alloc] at this;exact eW▸this);have HB:=I Z;have M:=I (h.below Z);have HW:=I h;have cr:=O.c0;have cu:=O.c1;have cT:=MX cs _ hq;have cR:IntKind.i64.wrap ((z:Int)+1)=(z:Int)+1:=by rw[IntKind.wrap_i64];omega
 have EK:=I ct;have cQ:=I (show(Tryz.prog.info? 24).map (·.size)=some kv.size by rw[ct];exact Hg k);obtain⟨i0,cA,cB,cx,cP⟩:=info_parts aG;have cm:=I cA;have cw:=I cB;have cn:=I cx;have cp:=I cP;have cq:=I (fun(w1:World) (b:Nat)=>Wh.Fl (P:=Tryz.prog) w1 104 110 (eA ⟨⟨p,z+1,k⟩,b,none,0,0,0⟩) i0 _ Tryz.underlying104 cA cB (by rw[cx,DE]) (by rw[DE];omega) (by rw[DE];omega));have cj:=I hB;clear cA cB cx cP hB;have HN:=I hn;have t1:decide (40<=(n:Int))=false:=by simp;omega
 have t2:decide (255<=(z:Int))=false:=by simp;omega
 have HL:=I hl;clear Z h hr h1 h2 hp hn hl ct cM ez en hc hm hq;go_enter Tryz.func12,Tryz.ntmps12
 go_upto_region 1 with fail
 rw[<-eW];clear eW
 go_wp2_with (first
  |(go_at_call 25;refine Aj (CP.o _) ?_;rintro w1 Z;replace HB:=HB.t Z;replace M:=I (M.o.below Z);replace O:=I (O.o.below Z);replace HK:=I (HK.o.below Z);have cr:=O.c0;have cu:=O.c1;have kr:w1.cell? ⟨r,0,none⟩=some (.slice A n c):=EN.o▸M.o.blk.cell 0;clear Z)
  |(go_at_call 26;refine Aj (CL.o _ M.o) ?_;rintro w2 Z;clear cr cu kr;replace HB:=HB.t Z;replace M:=I (M.o.below Z);replace O:=I (O.o.below Z);replace HK:=I (HK.o.below Z);have cr:=O.c0;have cu:=O.c1;have kr:w2.cell? ⟨r,0,none⟩=some (.slice A n c):=EN.o▸M.o.blk.cell 0;clear Z)
  |fail)
 replace O:=I (show Blk w2.drew _ _ _ from O.o.drewN 1);replace HK:=I (show Blk w2.drew _ _ _ from HK.o.drewN 1);replace M:=I M.o.drew;replace HB:=I (show Below w.heap.size w w2.drew from below_drewN HB.o 1);clear cr cu kr;refine Reg.Bo (fun w'=>Blk w' w.heap.size 30 #[.string ⟨p.1.toArray⟩,.string ⟨p.2.toArray⟩]/\Blk w' (w.heap.size+1) 24 kv) 18 rfl (by kernel_rfl) ⟨O.o,HK.o⟩ ?_;obtain⟨W2,cL⟩:=Ak (w2.drew);rw[<-cL] at O HK M HB⊢;clear cL;refine Reg.ty 0 rfl ⟨O.o,HK.o⟩ ?_;refine Reg.ty 1 rfl ⟨O.o,HK.o⟩ ?_;refine Reg.ty 2 rfl ⟨O.o,HK.o⟩ ?_;refine Reg.ty 3 rfl ⟨O.o,HK.o⟩ ?_;refine Reg.tw 5 (v:=.agg #[.string ⟨p.1.toArray⟩,.string ⟨p.2.toArray⟩]) rfl ⟨O.o,HK.o⟩ (fun w' hS=>by exact Wh.Bm (.tmp 4) rfl rfl hS.1 Tryz.underlying30 rfl Ds) ?_;refine Reg.ty 7 rfl ⟨O.o,HK.o⟩ ?_;refine Reg.tw 8 (v:=.int .i64 ((z:Int)+1)) rfl ⟨O.o,HK.o⟩ (fun w' hS=>by go_simp) ?_;refine Reg.tw 9 (v:=.agg kv) rfl ⟨O.o,HK.o⟩ (fun w' hS=>by exact Wh.Bm (.tmp 5) rfl rfl hS.2 Tryz.underlying24 rfl cQ.o) ?_;refine Reg.tw 10 (v:=.agg kv) rfl ⟨O.o,HK.o⟩ (fun w' hS=>by exact Wh.Bm (.tmp 5) rfl rfl hS.2 Tryz.underlying24 rfl cQ.o) ?_;refine Reg.b2 4 6 ?_ ?_
 ·left
  have kr:W2.cell? ⟨r,0,none⟩=some (.slice A n c):=EN.o▸M.o.blk.cell 0;refine⟨_,_,_,_,_,_,_,_,rfl,by rfl,by(go_simp;rfl),⟨O.o,HK.o⟩,?_⟩;simp only[Act.put,U,Aa,Ab];clear kr;refine Reg.b1 6 ?_
  right
  refine⟨_,_,_,_,_,_,27,#[prV p],rfl,by rfl,by go_simp,?_⟩;refine(CC.o _).mono ?_;rintro e w3 ⟨rfl,Z⟩;replace HB:=HB.t Z;replace M:=I (M.o.below Z);replace O:=I (O.o.below Z);replace HK:=I (HK.o.below Z);clear Z;refine⟨_,rfl,⟨O.o,HK.o⟩,?_⟩;simp only[Act.put,U,Aa,Ab];refine Reg.b1 11 ?_
  right
  refine⟨_,_,_,_,_,_,28,#[.agg kv],rfl,by rfl,by go_simp,?_⟩;refine(CN.o _).mono ?_;rintro e w4 ⟨b,rfl,cg,cf,Z⟩;have cd:=I (Nat.le_trans HB.o.size cg);replace HB:=HB.t Z;replace M:=I (M.o.below Z);replace O:=I (O.o.below Z);replace HK:=I (HK.o.below Z);have cc:=I cf;clear Z cg cf;refine⟨_,rfl,⟨O.o,HK.o⟩,?_⟩;simp only[Act.put,U,Aa,Ab];refine Reg.tw 12 (v:=.agg (eA ⟨⟨p,z+1,k⟩,b,none,0,0,0⟩)) rfl ⟨O.o,HK.o⟩ (fun w' hS=>by exact Bk (by go_simp) (EK.o▸JN p (z+1) b k)) ?_;refine Reg.b1 13 ?_
  left
  have Z:Below w4.heap.size w4 (w4.alloc (.cells (eA ⟨⟨p,z+1,k⟩,b,none,0,0,0⟩) 110)):=Ah.alloc Ag _;refine⟨_,_,_,_,_,_,.slice (some ⟨w4.heap.size,0,none⟩) 1 1,(w4.alloc (.cells (eA ⟨⟨p,z+1,k⟩,b,none,0,0,0⟩) 110)),rfl,by rfl,Cl rfl (cq.o _ _),⟨O.o.below Z,HK.o.below Z⟩,?_⟩;simp only[Act.put,U,Aa,Ab];have ca:=I (Blk.new w4 110 (eA ⟨⟨p,z+1,k⟩,b,none,0,0,0⟩));have bn:=I (cc.o.below Z);have ck:=I cc.o.lt;replace HB:=HB.t Z;replace M:=I (M.o.below Z);replace O:=I (O.o.below Z);replace HK:=I (HK.o.below Z);clear Z;obtain⟨W5,bz⟩:=Ak ((w4.alloc (.cells (eA ⟨⟨p,z+1,k⟩,b,none,0,0,0⟩) 110)));have cy:=I (show w4.heap.size<W5.heap.size by rw[bz];simp);rw[<-bz] at ca bn HB M O HK⊢;clear bz;refine Reg.b1 14 ?_
  left
  obtain⟨v6,w6,av,bx,aw,cb⟩:=Wh.FJ (P:=Tryz.prog) eC 36 80 Cy MU W5 104 104 110 i0 _ Tryz.underlying104 cm.o cw.o cn.o cp.o (by rfl) (by omega) B _ es M.o.row ⟨⟨p,z+1,k⟩,b,none,0,0,0⟩ w4.heap.size ca.o (by have:=EN.o;have:=HL.o;omega) (by omega) (Nat.le_trans cj.o HB.o.size);rw[<-EN.o] at av;replace O:=I (O.o.grown aw (fun x=>by have:=(World.ownsRow.lt HW.o.row _ x).2;omega));replace HK:=I (HK.o.grown aw (fun x=>by have:=(World.ownsRow.lt HW.o.row _ x).2;omega));refine⟨_,_,_,_,_,_,v6,w6,rfl,by rfl,DH rfl rfl av,⟨O.o,HK.o⟩,?_⟩;simp only[Act.put,U,Aa,Ab];refine Reg.ty 15 rfl ⟨O.o,HK.o⟩ ?_;refine Reg.ty 16 rfl ⟨O.o,HK.o⟩ ?_;have bq:=fun(x:True)=>LA HW.o cj.o HB.o M.o (it:=⟨p,z+1,k⟩) bn.o cd.o bx aw cb x
  have bs:=M.o.blk.grown aw M.o.vr;obtain⟨A7,c7,e7,_⟩:=Bs Cy bx;obtain⟨m7,bB⟩:=Ak ((es++[(⟨⟨p,z+1,k⟩,b,none,0,0,0⟩:Ent)]).length);rw[<-bB] at e7;subst e7;have f0:=bs.frozen 0;have k6:=bs.c0;refine Reg.BH 17 (w6.setCell ⟨r,0,none⟩ (.slice A7 m7 c7)) rfl (by kernel_rfl) (by rfl) (by go_simp) ⟨Si.Blk.far O.o _ _ (by simp;have:=HW.o.lt;omega),Si.Blk.far HK.o _ _ (by simp;have:=HW.o.lt;omega)⟩ ?_;simp only[Act.put,U,Aa,Ab];refine wpAnyH_done (by kernel_rfl) ?_ _;clear f0 k6 bs bx aw cb av bB;have bb:=I (bq trivial);clear bq
  go_wp2
  go_ret2
  exact⟨rfl,_,b,cd.o,bb.o.1,bb.o.2.1,bb.o.2.2⟩
 ·right
  refine⟨_,_,_,_,_,_,27,#[prV p],rfl,by rfl,by go_simp,?_⟩;refine(CC.o _).mono ?_;rintro e w3 ⟨rfl,Z⟩;replace HB:=HB.t Z;replace M:=I (M.o.below Z);replace O:=I (O.o.below Z);replace HK:=I (HK.o.below Z);clear Z;refine⟨_,rfl,⟨O.o,HK.o⟩,?_⟩;simp only[Act.put,U,Aa,Ab];refine Reg.b2 4 11 ?_ ?_
  ·left
   have kr:w3.cell? ⟨r,0,none⟩=some (.slice A n c):=EN.o▸M.o.blk.cell 0;refine⟨_,_,_,_,_,_,_,_,rfl,by rfl,by(go_simp;rfl),⟨O.o,HK.o⟩,?_⟩;simp only[Act.put,U,Aa,Ab];clear kr;refine Reg.b1 11 ?_
   right
   refine⟨_,_,_,_,_,_,28,#[.agg kv],rfl,by rfl,by go_simp,?_⟩;refine(CN.o _).mono ?_;rintro e w4 ⟨b,rfl,cg,cf,Z⟩;have cd:=I (Nat.le_trans HB.o.size cg);replace HB:=HB.t Z;replace M:=I (M.o.below Z);replace O:=I (O.o.below Z);replace HK:=I (HK.o.below Z);have cc:=I cf;clear Z cg cf;refine⟨_,rfl,⟨O.o,HK.o⟩,?_⟩;simp only[Act.put,U,Aa,Ab];refine Reg.tw 12 (v:=.agg (eA ⟨⟨p,z+1,k⟩,b,none,0,0,0⟩)) rfl ⟨O.o,HK.o⟩ (fun w' hS=>by exact Bk (by go_simp) (EK.o▸JN p (z+1) b k)) ?_;refine Reg.b1 13 ?_
   left
   have Z:Below w4.heap.size w4 (w4.alloc (.cells (eA ⟨⟨p,z+1,k⟩,b,none,0,0,0⟩) 110)):=Ah.alloc Ag _;refine⟨_,_,_,_,_,_,.slice (some ⟨w4.heap.size,0,none⟩) 1 1,(w4.alloc (.cells (eA ⟨⟨p,z+1,k⟩,b,none,0,0,0⟩) 110)),rfl,by rfl,Cl rfl (cq.o _ _),⟨O.o.below Z,HK.o.below Z⟩,?_⟩;simp only[Act.put,U,Aa,Ab];have ca:=I (Blk.new w4 110 (eA ⟨⟨p,z+1,k⟩,b,none,0,0,0⟩));have bn:=I (cc.o.below Z);have ck:=I cc.o.lt;replace HB:=HB.t Z;replace M:=I (M.o.below Z);replace O:=I (O.o.below Z);replace HK:=I (HK.o.below Z);clear Z;obtain⟨W5,bz⟩:=Ak ((w4.alloc (.cells (eA ⟨⟨p,z+1,k⟩,b,none,0,0,0⟩) 110)));have cy:=I (show w4.heap.size<W5.heap.size by rw[bz];simp);rw[<-bz] at ca bn HB M O HK⊢;clear bz;refine Reg.b1 14 ?_
   left
   obtain⟨v6,w6,av,bx,aw,cb⟩:=Wh.FJ (P:=Tryz.prog) eC 36 80 Cy MU W5 104 104 110 i0 _ Tryz.underlying104 cm.o cw.o cn.o cp.o (by rfl) (by omega) B _ es M.o.row ⟨⟨p,z+1,k⟩,b,none,0,0,0⟩ w4.heap.size ca.o (by have:=EN.o;have:=HL.o;omega) (by omega) (Nat.le_trans cj.o HB.o.size);rw[<-EN.o] at av;replace O:=I (O.o.grown aw (fun x=>by have:=(World.ownsRow.lt HW.o.row _ x).2;omega));replace HK:=I (HK.o.grown aw (fun x=>by have:=(World.ownsRow.lt HW.o.row _ x).2;omega));refine⟨_,_,_,_,_,_,v6,w6,rfl,by rfl,DH rfl rfl av,⟨O.o,HK.o⟩,?_⟩;simp only[Act.put,U,Aa,Ab];refine Reg.ty 15 rfl ⟨O.o,HK.o⟩ ?_;refine Reg.ty 16 rfl ⟨O.o,HK.o⟩ ?_;have bq:=fun(x:True)=>LA HW.o cj.o HB.o M.o (it:=⟨p,z+1,k⟩) bn.o cd.o bx aw cb x
   have bs:=M.o.blk.grown aw M.o.vr;obtain⟨A7,c7,e7,_⟩:=Bs Cy bx;obtain⟨m7,bB⟩:=Ak ((es++[(⟨⟨p,z+1,k⟩,b,none,0,0,0⟩:Ent)]).length);rw[<-bB] at e7;subst e7;have f0:=bs.frozen 0;have k6:=bs.c0;refine Reg.BH 17 (w6.setCell ⟨r,0,none⟩ (.slice A7 m7 c7)) rfl (by kernel_rfl) (by rfl) (by go_simp) ⟨Si.Blk.far O.o _ _ (by simp;have:=HW.o.lt;omega),Si.Blk.far HK.o _ _ (by simp;have:=HW.o.lt;omega)⟩ ?_;simp only[Act.put,U,Aa,Ab];refine wpAnyH_done (by kernel_rfl) ?_ _;clear f0 k6 bs bx aw cb av bB;have bb:=I (bq trivial);clear bq
   go_wp2
   go_ret2
   exact⟨rfl,_,b,cd.o,bb.o.1,bb.o.2.1,bb.o.2.2⟩
  ·right
   refine⟨_,_,_,_,_,_,28,#[.agg kv],rfl,by rfl,by go_simp,?_⟩;refine(CN.o _).mono ?_;rintro e w4 ⟨b,rfl,cg,cf,Z⟩;have cd:=I (Nat.le_trans HB.o.size cg);replace HB:=HB.t Z;replace M:=I (M.o.below Z);replace O:=I (O.o.below Z);replace HK:=I (HK.o.below Z);have cc:=I cf;clear Z cg cf;refine⟨_,rfl,⟨O.o,HK.o⟩,?_⟩;simp only[Act.put,U,Aa,Ab];refine Reg.tw 12 (v:=.agg (eA ⟨⟨p,z+1,k⟩,b,none,0,0,0⟩)) rfl ⟨O.o,HK.o⟩ (fun w' hS=>by exact Bk (by go_simp) (EK.o▸JN p (z+1) b k)) ?_;refine Reg.b2 4 13 ?_ ?_
   ·left
    have kr:w4.cell? ⟨r,0,none⟩=some (.slice A n c):=EN.o▸M.o.blk.cell 0;refine⟨_,_,_,_,_,_,_,_,rfl,by rfl,by(go_simp;rfl),⟨O.o,HK.o⟩,?_⟩;simp only[Act.put,U,Aa,Ab];clear kr;refine Reg.b1 13 ?_
    left
    have Z:Below w4.heap.size w4 (w4.alloc (.cells (eA ⟨⟨p,z+1,k⟩,b,none,0,0,0⟩) 110)):=Ah.alloc Ag _;refine⟨_,_,_,_,_,_,.slice (some ⟨w4.heap.size,0,none⟩) 1 1,(w4.alloc (.cells (eA ⟨⟨p,z+1,k⟩,b,none,0,0,0⟩) 110)),rfl,by rfl,Cl rfl (cq.o _ _),⟨O.o.below Z,HK.o.below Z⟩,?_⟩;simp only[Act.put,U,Aa,Ab];have ca:=I (Blk.new w4 110 (eA ⟨⟨p,z+1,k⟩,b,none,0,0,0⟩));have bn:=I (cc.o.below Z);have ck:=I cc.o.lt;replace HB:=HB.t Z;replace M:=I (M.o.below Z);replace O:=I (O.o.below Z);replace HK:=I (HK.o.below Z);clear Z;obtain⟨W5,bz⟩:=Ak ((w4.alloc (.cells (eA ⟨⟨p,z+1,k⟩,b,none,0,0,0⟩) 110)));have cy:=I (show w4.heap.size<W5.heap.size by rw[bz];simp);rw[<-bz] at ca bn HB M O HK⊢;clear bz;refine Reg.b1 14 ?_
    left
    obtain⟨v6,w6,av,bx,aw,cb⟩:=Wh.FJ (P:=Tryz.prog) eC 36 80 Cy MU W5 104 104 110 i0 _ Tryz.underlying104 cm.o cw.o cn.o cp.o (by rfl) (by omega) B _ es M.o.row ⟨⟨p,z+1,k⟩,b,none,0,0,0⟩ w4.heap.size ca.o (by have:=EN.o;have:=HL.o;omega) (by omega) (Nat.le_trans cj.o HB.o.size);rw[<-EN.o] at av;replace O:=I (O.o.grown aw (fun x=>by have:=(World.ownsRow.lt HW.o.row _ x).2;omega));replace HK:=I (HK.o.grown aw (fun x=>by have:=(World.ownsRow.lt HW.o.row _ x).2;omega));refine⟨_,_,_,_,_,_,v6,w6,rfl,by rfl,DH rfl rfl av,⟨O.o,HK.o⟩,?_⟩;simp only[Act.put,U,Aa,Ab];refine Reg.ty 15 rfl ⟨O.o,HK.o⟩ ?_;refine Reg.ty 16 rfl ⟨O.o,HK.o⟩ ?_;have bq:=fun(x:True)=>LA HW.o cj.o HB.o M.o (it:=⟨p,z+1,k⟩) bn.o cd.o bx aw cb x
    have bs:=M.o.blk.grown aw M.o.vr;obtain⟨A7,c7,e7,_⟩:=Bs Cy bx;obtain⟨m7,bB⟩:=Ak ((es++[(⟨⟨p,z+1,k⟩,b,none,0,0,0⟩:Ent)]).length);rw[<-bB] at e7;subst e7;have f0:=bs.frozen 0;have k6:=bs.c0;refine Reg.BH 17 (w6.setCell ⟨r,0,none⟩ (.slice A7 m7 c7)) rfl (by kernel_rfl) (by rfl) (by go_simp) ⟨Si.Blk.far O.o _ _ (by simp;have:=HW.o.lt;omega),Si.Blk.far HK.o _ _ (by simp;have:=HW.o.lt;omega)⟩ ?_;simp only[Act.put,U,Aa,Ab];refine wpAnyH_done (by kernel_rfl) ?_ _;clear f0 k6 bs bx aw cb av bB;have bb:=I (bq trivial);clear bq
    go_wp2
    go_ret2
    exact⟨rfl,_,b,cd.o,bb.o.1,bb.o.2.1,bb.o.2.2⟩
   ·left
    have Z:Below w4.heap.size w4 (w4.alloc (.cells (eA ⟨⟨p,z+1,k⟩,b,none,0,0,0⟩) 110)):=Ah.alloc Ag _;refine⟨_,_,_,_,_,_,.slice (some ⟨w4.heap.size,0,none⟩) 1 1,(w4.alloc (.cells (eA ⟨⟨p,z+1,k⟩,b,none,0,0,0⟩) 110)),rfl,by rfl,Cl rfl (cq.o _ _),⟨O.o.below Z,HK.o.below Z⟩,?_⟩;simp only[Act.put,U,Aa,Ab];have ca:=I (Blk.new w4 110 (eA ⟨⟨p,z+1,k⟩,b,none,0,0,0⟩));have bn:=I (cc.o.below Z);have ck:=I cc.o.lt;replace HB:=HB.t Z;replace M:=I (M.o.below Z);replace O:=I (O.o.below Z);replace HK:=I (HK.o.below Z);clear Z;obtain⟨W5,bz⟩:=Ak ((w4.alloc (.cells (eA ⟨⟨p,z+1,k⟩,b,none,0,0,0⟩) 110)));have cy:=I (show w4.heap.size<W5.heap.size by rw[bz];simp);rw[<-bz] at ca bn HB M O HK⊢;clear bz;refine Reg.b1 4 ?_
    left
    have kr:W5.cell? ⟨r,0,none⟩=some (.slice A n c):=EN.o▸M.o.blk.cell 0;refine⟨_,_,_,_,_,_,_,_,rfl,by rfl,by(go_simp;rfl),⟨O.o,HK.o⟩,?_⟩;simp only[Act.put,U,Aa,Ab];clear kr;refine Reg.b1 14 ?_
    left
    obtain⟨v6,w6,av,bx,aw,cb⟩:=Wh.FJ (P:=Tryz.prog) eC 36 80 Cy MU W5 104 104 110 i0 _ Tryz.underlying104 cm.o cw.o cn.o cp.o (by rfl) (by omega) B _ es M.o.row ⟨⟨p,z+1,k⟩,b,none,0,0,0⟩ w4.heap.size ca.o (by have:=EN.o;have:=HL.o;omega) (by omega) (Nat.le_trans cj.o HB.o.size);rw[<-EN.o] at av;replace O:=I (O.o.grown aw (fun x=>by have:=(World.ownsRow.lt HW.o.row _ x).2;omega));replace HK:=I (HK.o.grown aw (fun x=>by have:=(World.ownsRow.lt HW.o.row _ x).2;omega));refine⟨_,_,_,_,_,_,v6,w6,rfl,by rfl,DH rfl rfl av,⟨O.o,HK.o⟩,?_⟩;simp only[Act.put,U,Aa,Ab];refine Reg.ty 15 rfl ⟨O.o,HK.o⟩ ?_;refine Reg.ty 16 rfl ⟨O.o,HK.o⟩ ?_;have bq:=fun(x:True)=>LA HW.o cj.o HB.o M.o (it:=⟨p,z+1,k⟩) bn.o cd.o bx aw cb x
    have bs:=M.o.blk.grown aw M.o.vr;obtain⟨A7,c7,e7,_⟩:=Bs Cy bx;obtain⟨m7,bB⟩:=Ak ((es++[(⟨⟨p,z+1,k⟩,b,none,0,0,0⟩:Ent)]).length);rw[<-bB] at e7;subst e7;have f0:=bs.frozen 0;have k6:=bs.c0;refine Reg.BH 17 (w6.setCell ⟨r,0,none⟩ (.slice A7 m7 c7)) rfl (by kernel_rfl) (by rfl) (by go_simp) ⟨Si.Blk.far O.o _ _ (by simp;have:=HW.o.lt;omega),Si.Blk.far HK.o _ _ (by simp;have:=HW.o.lt;omega)⟩ ?_;simp only[Act.put,U,Aa,Ab];refine wpAnyH_done (by kernel_rfl) ?_ _;clear f0 k6 bs bx aw cb av bB;have bb:=I (bq trivial);clear bq
    go_wp2
    go_ret2
    exact⟨rfl,_,b,cd.o,bb.o.1,bb.o.2.1,bb.o.2.2⟩
theorem aH (r:Option Nat) (p:Pr) (k:Nat->UInt8) (w:World) (h1:p.1.length<=1000000000) (h2:p.2.length<=1000000000) (hp:r=none\/prB p=false) :
  Calls Tryz.prog 12 #[.pointer (r.map fun r=>⟨r,0,none⟩),prV p,.agg (AQ k)] w fun e w'=>e=.returned (.tuple #[.int .i64 0,.int .i64 1])/\Below w.heap.size w w':=by
 have CP:=I (fun w1=>OF p w1 h1 h2);obtain⟨kv,Z⟩:=Ak (AQ k);rw[<-Z];obtain⟨W,O⟩:=Ak ((w.alloc (.cells #[.string ⟨p.1.toArray⟩,.string ⟨p.2.toArray⟩] 30)).alloc (.cells kv 24));have hb:Below w.heap.size w W:=O▸(Ah.alloc Ag _).alloc (by simp) _;have M:Blk W w.heap.size 30 #[.string ⟨p.1.toArray⟩,.string ⟨p.2.toArray⟩]:=O▸(Blk.new w _ _).alloc _;have aw:=M.c0;have av:=M.c1;have HB:=I hb;clear hb M h1 h2 Z;cases r with
 |none=>
  clear hp;go_enter Tryz.func12,Tryz.ntmps12
  go_upto_region 1 with fail
  rw[<-O];clear O
  go_wp2
  go_ret2
  exact⟨rfl,HB.o⟩
 |some r=>
  have hp:prB p=false:=by
   rcases hp with h | h
   ·cases h
   ·exact h
  rw[hp] at CP;clear hp;show Calls _ _ #[.pointer (some ⟨r,0,none⟩),prV p,.agg kv] _ _;go_enter Tryz.func12,Tryz.ntmps12
  go_upto_region 1 with fail
  rw[<-O];clear O
  go_wp2_with (first
   |(go_at_call 25;refine Aj (CP.o _) ?_;rintro w1 hb;replace HB:=HB.t hb;clear hb)
   |fail)
  go_ret2
  exact⟨rfl,HB.o⟩
theorem Xa (B r:Nat) (v:Value) (es:List Ent) (p:Pr) (k:Nat->UInt8) (w:World) (h:Ring w B r v es) (h1:p.1.length<=1000000000) (h2:p.2.length<=1000000000) (hp:prB p=true) (hl:40<=es.length) (bq:es.length<=1000) :
  Calls Tryz.prog 12 #[.pointer (some ⟨r,0,none⟩),prV p,.agg (AQ k)] w fun e w'=>e=.returned (.tuple #[.int .i64 0,.int .i64 13])/\Below w.heap.size w w':=by
 obtain⟨A,c,rfl,hc,hm,hr⟩:=h.num;obtain⟨n,en⟩:=Ak (es.length);have EN:=I en;obtain⟨z,ez⟩:=Ak (Ci (its es) p);have hq:=PY es (Gd (its es) p);rw[show numO (its es) (Gd (its es) p)=z from ez.symm] at hq;have CL:=I (fun(w1:World) (h:Ring w1 B r (.slice A es.length c) es)=>PS B r (.slice A es.length c) es p w1 h (by omega));have CP:=I (fun w1=>OF p w1 h1 h2);rw[hp] at CP;obtain⟨kv,bn⟩:=Ak (AQ k);obtain⟨cs,bb⟩:=Ak (entC es (Gd (its es) p));rw[<-bb] at CL hq;rw[<-bn];rw[<-en] at hl;have bs:=h.lt;obtain⟨W,eW⟩:=Ak ((w.alloc (.cells #[.string ⟨p.1.toArray⟩,.string ⟨p.2.toArray⟩] 30)).alloc (.cells kv 24));have O:Below w.heap.size w W:=eW▸(Ah.alloc Ag _).alloc (by simp) _;have Z:=I (show Blk W w.heap.size 30 #[.string ⟨p.1.toArray⟩,.string ⟨p.2.toArray⟩] from eW▸(Blk.new w _ _).alloc _);have HK:=I (show Blk W (w.heap.size+1) 24 kv by have:=Blk.new (w.alloc (.cells #[.string ⟨p.1.toArray⟩,.string ⟨p.2.toArray⟩] 30)) 24 kv;simp only[World.size_alloc] at this;exact eW▸this);have HB:=I O;have M:=I (h.below O);have HW:=I h;have aw:=Z.c0;have av:=Z.c1;have bx:=MX cs _ hq;have t1:decide (40<=(n:Int))=true:=by simp;omega
 clear O h hr h1 h2 hp hl bn bb ez en hc hm hq bq;go_enter Tryz.func12,Tryz.ntmps12
 go_upto_region 1 with fail
 rw[<-eW];clear eW
 go_wp2_with (first
  |(go_at_call 25;refine Aj (CP.o _) ?_;rintro w1 O;replace HB:=HB.t O;replace M:=I (M.o.below O);replace Z:=I (Z.o.below O);replace HK:=I (HK.o.below O);have aw:=Z.c0;have av:=Z.c1;have kr:w1.cell? ⟨r,0,none⟩=some (.slice A n c):=EN.o▸M.o.blk.cell 0;clear O)
  |(go_at_call 26;refine Aj (CL.o _ M.o) ?_;rintro w2 O;clear aw av kr;replace HB:=HB.t O;replace M:=I (M.o.below O);replace Z:=I (Z.o.below O);replace HK:=I (HK.o.below O);have aw:=Z.c0;have av:=Z.c1;have kr:w2.cell? ⟨r,0,none⟩=some (.slice A n c):=EN.o▸M.o.blk.cell 0;clear O)
  |fail)
 go_ret2
 exact⟨rfl,HB.o⟩
theorem aI (B r:Nat) (v:Value) (es:List Ent) (p:Pr) (k:Nat->UInt8) (w:World) (h:Ring w B r v es) (hB:B<=w.heap.size) (h1:p.1.length<=1000000000) (h2:p.2.length<=1000000000) (hl:es.length<=40) (hn:Num (its es)) :
  Calls Tryz.prog 12 #[.pointer (some ⟨r,0,none⟩),prV p,.agg (AQ k)] w fun e w'=>e=.returned (.tuple #[.int .i64 (addN (its es) p:Int),.int .i64 (addE (its es) p:Int)])/\∃v' es',Ring w' B r v' es'/\its es'=addL (its es) p k/\(es'=es\/∃x,es'=es++[x]/\x.a=0/\x.o=0/\x.r=0)/\Chg (fun q=>q=r\/v.ownBlock=some q) w w'/\(∀q,RO r v' es' q->RO r v es q\/w.heap.size<=q):=by
 cases hp:prB p with
 |false=>
  refine(aH (some r) p k w h1 h2 (.inr hp)).mono ?_;rintro e w' ⟨rfl,Z⟩;refine⟨by rw[addN,addE,hp];rfl,v,es,h.below Z,by rw[addL,hp];rfl,.inl rfl,Chg.of_below Z,fun q hq=>.inl hq⟩
 |true=>
  by_cases hx:es.length<40
  ·have M:(its es).length<40:=by rw[Dq];exact hx
   have O:Ci (its es) p<255:=by have:=Za hn p;omega
   refine(dH B r v es p k w h hB h1 h2 hp hx O).mono ?_;rintro e w' ⟨rfl,v',b,aw,hr,hc,av⟩;refine⟨by rw[addN,addE,hp,if_pos rfl,if_pos rfl,if_pos M,if_pos M];rfl,v',_,hr,?_,.inr ⟨_,rfl,rfl,rfl,rfl⟩,hc,av⟩;rw[WY,addL,hp,if_pos rfl,if_pos M]
  ·have M:¬(its es).length<40:=by rw[Dq];exact hx
   refine(Xa B r v es p k w h h1 h2 hp (by omega) (by omega)).mono ?_;rintro e w' ⟨rfl,Z⟩;refine⟨by rw[addN,addE,hp,if_pos rfl,if_pos rfl,if_neg M,if_neg M];rfl,v,es,h.below Z,?_,.inl rfl,Chg.of_below Z,fun q hq=>.inl hq⟩;rw[addL,hp,if_pos rfl,if_neg M]
def kB (b:UInt8) (i:Nat):UInt8:=if i=0 then b else 0
abbrev p1:Pr:=([65],[120])
abbrev AT (r:Nat) (v:Value) (q:Nat):Prop:=q=r\/v.ownBlock=some q
theorem dI {r:Nat} {v:Value} {es:List Ent} {q:Nat} (h:AT r v q):RO r v es q:=by
 rcases h with h | h
 ·exact .inl h
 ·exact .inr (.inl h)
theorem mapM_each {α β:Type} (g:α->Option β) (h:α->β):∀l:List α,(∀i∈l,g i=some (h i))->l.mapM g=some (l.map h)
 | [],_=>rfl
 |a :: l,hh=>by
  rw[List.mapM_cons,hh a (by simp),mapM_each g h l (fun i hi=>hh i (by simp [hi]))]
  rfl
theorem JO {α β:Type} (g:α->β):∀l:List α,(l.map fun i=>[g i]).flatten=l.map g
 | []=>rfl
 |a :: l=>by rw[List.map_cons,List.flatten_cons,JO g l,List.map_cons];rfl
def aJ (f:Nat->UInt8):List Lit:=(List.range 32).map fun i=>Lit.int .u8 ((f i).toNat:Int)
theorem PZ (f:Nat->UInt8):Tryz.prog.keyLits 5 24 (AQ f).toList=some (aJ f):=by
 have M:=Tryz.underlying24;have av:=Tryz.underlying5;have Z:Tryz.prog.cellsOf 24=32:=by kernel_rfl
 have c5:Tryz.prog.cellsOf 5=1:=by kernel_rfl
 have one:∀b:UInt8,Tryz.prog.keyLits 4 5 [bv b]=some [Lit.int .u8 (b.toNat:Int)]:=fun b=>by
  have hw:(Lit.int .u8 (b.toNat:Int)).wf=true:=by
   have:=b.toNat_lt;simp [Lit.wf,IntKind.min,IntKind.max,IntKind.signed,IntKind.bits];omega
  unfold Program.keyLits bv;simp only[av,hw,and_self,if_true]
 unfold Program.keyLits;simp only[M];have hl:(AQ f).toList.length=Tryz.prog.cellsOf 24:=by rw[Z,Array.length_toList,DK]
 rw[if_pos hl];have hm:=mapM_each (fun i=>Tryz.prog.keyLits 4 5 (((AQ f).toList.drop (i*Tryz.prog.cellsOf 5)).take (Tryz.prog.cellsOf 5))) (fun i=>[Lit.int .u8 ((f i).toNat:Int)]) (List.range 32) (fun i hi=>by
  have O:i<32:=List.mem_range.1 hi;have aw:i<(AQ f).toList.length:=by rw[Array.length_toList,DK];exact O
  rw[c5,Nat.mul_one,List.drop_eq_getElem_cons aw,List.take_succ_cons,List.take_zero];have e:(AQ f).toList[i]=bv (f i):=by simp [AQ]
  rw[e];exact one (f i))
 rw[hm];show some ((List.range 32).map fun i=>[Lit.int .u8 ((f i).toNat:Int)]).flatten=_;rw[JO];rfl
theorem MY (f:Nat->UInt8) (w:World):(Op.equalIn 10000 24 (.agg (AQ f)) (.agg (AQ f))).run Tryz.prog w=.ok true w:=by
 have h:=run_equalIn_deep (P:=Tryz.prog) 9998 2 24 (by kernel_rfl);obtain⟨r,O,M⟩:=h w 5 5 (.agg (AQ f)) (.agg (AQ f)) (aJ f) (aJ f) (by kernel_rfl) (by kernel_rfl) (PZ f) (PZ f);rw[O,M.2 rfl]
theorem Da {P:Program} {w':World} {a:Act} {o:Oper} {g off:Nat} {ty:TypeId} {cs:Array Value} {d:TypeDesc} (x:Operand) (M:o.op=.load ty x) (O:a.eval x=.pointer (some ⟨g,off,none⟩)) (h:w'.rangeAt g off cs.toList) (hu:P.underlying ty=some d) (Z:d.isRow=true) (hi:(P.info? ty).map (·.size)=some cs.size) :
  (execOp a.eval o).run P w'=.ok (.value (.agg cs)) w':=by
 have:=run_loadVar_mid (P:=P) w' g off ty cs.toList d h hu Z (by simpa using hi);simp only[Array.toArray_toList] at this;unfold execOp;simp only[M,O,Instr.loadAt,Instr.sureAddr,Sem.run_bind,Sem.run_pure,Result.andThen_ok,this]
section
variable {w w':World} {B r i:Nat} {v v':Value} {es es':List Ent} {e:Ent} {A:Option Addr} {xs:List Value}
theorem aK (he:es[i]? = some e) {k:Nat} (h:Ow e.b e.h k):RO r v es k:=.inr (.inr ⟨i,e,he,h⟩)
end
structure DRing (w:World) (B q:Nat) (v:Value) (l:List It):Prop where
 blk:Blk w q 54 #[v]
 row:w.ownsRow B 116 35 v l.length (l.flatMap iC)
 lo:B<=q
 vq:v.ownBlock≠some q
abbrev DO (q:Nat) (v:Value) (k:Nat):Prop:=k=q\/v.ownBlock=some k
section
variable {w w':World} {B q:Nat} {v:Value} {l:List It} {S:Nat->Prop}
theorem DRing.lt (h:DRing w B q v l):q<w.heap.size:=h.blk.lt
theorem DRing.own_lo (h:DRing w B q v l) {k:Nat} (hk:DO q v k):B<=k:=by
 rcases hk with hk | hk
 ·subst hk;exact h.lo
 ·exact(World.ownsRow.lt h.row k hk).1
theorem DRing.own_lt (h:DRing w B q v l) {k:Nat} (hk:DO q v k):k<w.heap.size:=by
 rcases hk with hk | hk
 ·subst hk;exact h.blk.lt
 ·exact(World.ownsRow.lt h.row k hk).2
theorem DRing.chg (h:DRing w B q v l) (M:Chg S w w') (hs:∀k,DO q v k->¬S k):DRing w' B q v l:=
 ⟨M.blk h.blk (hs q (.inl rfl)),Bv M h.row (fun k hk=>hs k (.inr hk)),h.lo,h.vq⟩
theorem DRing.below (h:DRing w B q v l) (M:Below w.heap.size w w'):DRing w' B q v l:=h.chg (S:=fun _=>False) (Chg.of_below M) (fun _ _ x=>x)
theorem DRing.num (h:DRing w B q v l):∃A c,v=.slice A l.length c/\l.length<=c/\c<=maxLen/\RdR w w.heap.size A iC 35 l:=Bs Ce h.row
end
theorem iC_p0 (x:It):(iC x)[0]? = some (.string ⟨x.p.1.toArray⟩):=rfl
theorem iC_p1 (x:It):(iC x)[1]? = some (.string ⟨x.p.2.toArray⟩):=rfl
theorem iC_n (x:It):(iC x)[2]? = some (.int .i64 (x.n:Int)):=rfl
theorem Uv {l:List It} {i:Nat} {x:It} {p:Pr} (h:l[i]? = some x) (hp:x.p=p):numO l (BV l p (i+1))=x.n:=by
 rw[BV,if_pos (by rw[h,<-hp];rfl)];simp [numO,h]
theorem Rc {l:List It} {i:Nat} {x:It} {p:Pr} (h:l[i]? = some x) (hp:x.p≠p):BV l p (i+1)=BV l p i:=by
 rw[BV,if_neg];rw[h];intro y;injection y with y;exact hp y
theorem Uw (B q:Nat) (v:Value) (l:List It) (p:Pr) (w:World) (h:DRing w B q v l) (hl:l.length<=1000) :
  Calls Tryz.prog 30 #[.pointer (some ⟨q,0,none⟩),prV p] w fun e w'=>e=.returned (.int .i64 (Ci l p:Int))/\Below w.heap.size w w':=by
 obtain⟨A,c,rfl,hc,hm,hr⟩:=h.num;have M:=h.blk;obtain⟨n,en⟩:=Ak (l.length);rw[<-en] at M hc hl;have EN:=I en;obtain⟨W,eW⟩:=Ak (w.alloc (.cells #[.string ⟨p.1.toArray⟩,.string ⟨p.2.toArray⟩] 30));have Z:Below w.heap.size w W:=eW▸Ah.alloc Ag _;have HP:=I (show Blk W w.heap.size 30 #[.string ⟨p.1.toArray⟩,.string ⟨p.2.toArray⟩] from eW▸Blk.new w _ _);have HB:=I Z;have HQ:=I (M.below Z);have HR:=I (hr.keep Z);have aw:=M.lt;clear Z hr M en h;go_enter Tryz.func30,Tryz.ntmps30
 go_upto_region 1 with fail
 rw[<-eW];obtain⟨N,eN⟩:=Ak (w.heap.size);rw[<-eN] at HP HB HR aw⊢;have av:=I eN;clear eW eN
 go_wp2
 go_loopw [5,6] (fun nv iv wr=>∃i:Nat,i<=n/\iv=.int .i64 (i:Int)/\nv=.int .i64 (numO l (BV l p i):Int)/\Below N w wr/\Blk wr N 30 #[.string ⟨p.1.toArray⟩,.string ⟨p.2.toArray⟩]/\Blk wr q 54 #[.slice A n c]/\RdR wr N A iC 35 l) (fun _ iv _=>n - (intOf iv).toNat)
 case atStart=>exact⟨0,Nat.zero_le _,rfl,rfl,HB.o,HP.o,HQ.o,HR.o⟩
 case round=>
  clear HB HP HQ HR;obtain⟨i,hi,rfl,rfl,Z,hp,hq,hr⟩:=hrel;have HB:=I Z;have HP:=I hp;have HQ:=I hq;have HR:=I hr;have kq:=hq.c0;obtain⟨z,ez⟩:=Ak (numO l (BV l p i));rw[<-ez];have EZ:=I ez
  by_cases hlt:i<n
  ·have e1:(i:Int)<(n:Int):=by omega
   have e2:(0:Int)<=(i:Int):=by omega
   obtain⟨x,hx⟩:∃x,l[i]? = some x:=⟨l[i]'(by rw[<-EN.o];exact hlt),List.getElem?_eq_getElem _⟩;obtain⟨g,rfl,bb,O⟩:=hr.at_ hx;have h0:wr.cell? ⟨g,i*35,none⟩=some (.string ⟨x.p.1.toArray⟩):=O 0 _ (iC_p0 x);have h1:wr.cell? ⟨g,i*35+1,none⟩=some (.string ⟨x.p.2.toArray⟩):=O 1 _ (iC_p1 x);have h2:wr.cell? ⟨g,i*35+2,none⟩=some (.int .i64 (x.n:Int)):=O 2 _ (iC_n x);have bq:=hp.c0;have bn:=hp.c1;have HX:=I hx;clear O hx hr Z hp hq ez
   by_cases hh:x.p=p
   ·have t1:=Dr hh
    have HH:=I hh;clear hh
    go_wp2
    go_quiet (fail)
    go_wp2
    go_roundw
    case rel=>exact⟨i+1,by omega,by go_num,by rw[Uv HX.o HH.o],below_drewN HB.o _,HP.o.drewN _,HQ.o.drewN _,HR.o.keep (below_drewN Ah _)⟩
    case measure=>simp [intOf];omega
   ·have t1:=DV hh
    have HH:=I hh;clear hh
    go_wp2
    go_quiet (fail)
    go_wp2
    go_roundw
    case rel=>exact⟨i+1,by omega,by go_num,by rw[Rc HX.o HH.o,EZ.o],below_drewN HB.o _,HP.o.drewN _,HQ.o.drewN _,HR.o.keep (below_drewN Ah _)⟩
    case measure=>simp [intOf];omega
  ·have e1:decide ((i:Int)<(n:Int))=false:=by simp;omega
   obtain rfl:n=i:=by omega
   clear hr Z hp hq hi hlt ez
   go_wp2
   go_ret;exact⟨by rw[EZ.o,Ci,Gd,<-EN.o];rfl,by rw[<-av.o];exact HB.o⟩
theorem Ae {P:Program} {fn:Func} {tmps:Array Value} {w:World} {v u:Value} (t q:Nat) (ty:TypeId) (a:Addr) (M:fn.results=#[.cell t ty,.tmp q]) (ht:tmps.getD t undef=.pointer (some a)) (hl:(loadVar ty a).run P w=.ok v w) (hq:tmps.getD q undef=u) :
  (results fn tmps).run P w=.ok (.tuple #[v,u]) w:=by
 have Z:tmps[t]?.getD undef=.pointer (some a):=by simpa using ht
 have O:tmps[q]?.getD undef=u:=by simpa using hq
 simp [results,M,Z,O,asAddr,hl]
theorem Qa:AQ Ln=#[.int .u8 0,.int .u8 0,.int .u8 0,.int .u8 0,.int .u8 0,.int .u8 0,.int .u8 0,.int .u8 0,.int .u8 0,.int .u8 0,.int .u8 0,.int .u8 0,.int .u8 0,.int .u8 0,.int .u8 0,.int .u8 0,.int .u8 0,.int .u8 0,.int .u8 0,.int .u8 0,.int .u8 0,.int .u8 0,.int .u8 0,.int .u8 0,.int .u8 0,.int .u8 0,.int .u8 0,.int .u8 0,.int .u8 0,.int .u8 0,.int .u8 0,.int .u8 0]:=by kernel_rfl
theorem Xb (p:Pr) (w:World) (O:p.1.length<=1000000000) (M:p.2.length<=1000000000):Calls Tryz.prog 29 #[prV p] w fun e w'=>e=.returned (.bool (prB p))/\Below w.heap.size w w':=Nm.Ec p.1 p.2 w O M
def zeroI:Array Value:=#[.string ⟨#[]⟩,.string ⟨#[]⟩,.int .i64 0,.int .u8 0,.int .u8 0,.int .u8 0,.int .u8 0,.int .u8 0,.int .u8 0,.int .u8 0,.int .u8 0,.int .u8 0,.int .u8 0,.int .u8 0,.int .u8 0,.int .u8 0,.int .u8 0,.int .u8 0,.int .u8 0,.int .u8 0,.int .u8 0,.int .u8 0,.int .u8 0,.int .u8 0,.int .u8 0,.int .u8 0,.int .u8 0,.int .u8 0,.int .u8 0,.int .u8 0,.int .u8 0,.int .u8 0,.int .u8 0,.int .u8 0,.int .u8 0]
theorem Xc:(Tryz.prog.info? 116).map (fun i=>(i.zero,i.size,i.bytes))=some (some (.agg zeroI),35,72):=by kernel_rfl
theorem Rf (p:Pr) (n:Nat) (k:Nat->UInt8):Tryz.prog.built 116 [(0,prV p),(1,.int .i64 (n:Int)),(2,.agg (AQ k))]=some (iC ⟨p,n,k⟩).toArray:=by
 kernel_rfl
theorem Qb {w Z w6:World} {B q:Nat} {v v6:Value} {l:List It} {it:It} (h:DRing w B q v l) (hb:Below w.heap.size w Z) (h5:DRing Z B q v l)
  (ho:w6.ownsRow B 116 35 v6 (l++[it]).length ((l++[it]).flatMap iC)) (hg:Z.grownBy w6 v.ownBlock) (hv:v6.ownBlock=v.ownBlock\/v6.ownBlock=some Z.heap.size) :
  DRing (w6.setCell ⟨q,0,none⟩ v6) B q v6 (l++[it])/\Chg (DO q v) w (w6.setCell ⟨q,0,none⟩ v6)/\(∀k,DO q v6 k->DO q v k\/w.heap.size<=k):=by
 have O:v6.ownBlock≠some q:=fun x=>by
  rcases hv with g | g
  ·rw[g] at x;exact h.vq x
  ·rw[g] at x;injection x with x;have:=h5.lt;omega
 have M:Chg (fun k=>k=q) w6 (w6.setCell ⟨q,0,none⟩ v6):=Chg.set (p:=⟨q,0,none⟩) (Chg.refl (fun k=>k=q) w6) (.inl rfl) v6;have hc:Chg (DO q v) w (w6.setCell ⟨q,0,none⟩ v6):=
  (((Chg.of_below hb).trans (Ih hg) (fun k _ x=>.inr x)).trans M (fun k _ x=>.inl x):Chg (DO q v) w _)
 refine⟨⟨(h5.blk.grown hg h5.vq).set 0 v6,Bv M ho (fun k hk x=>O (x▸hk)),h.lo,O⟩,hc,fun k hk=>?_⟩;rcases hk with hk | hk
 ·exact .inl (.inl hk)
 ·rcases hv with g | g
  ·exact .inl (.inr (g▸hk))
  ·rw[g] at hk;injection hk with hk;exact .inr (by have:=hb.size;omega)
theorem aL (B q:Nat) (v:Value) (l:List It) (p:Pr) (k:Nat->UInt8) (w:World) (h:DRing w B q v l) (hB:B<=w.heap.size) (h1:p.1.length<=1000000000) (h2:p.2.length<=1000000000) (hp:prB p=true) (hl:l.length<40) (hn:Ci l p<255) :
  Calls Tryz.prog 13 #[.pointer (some ⟨q,0,none⟩),prV p,.agg (AQ k)] w fun e w'=>e=.returned (.tuple #[.int .i64 ((Ci l p:Int)+1),.int .i64 0])/\∃v',DRing w' B q v' (l++[⟨p,Ci l p+1,k⟩])/\Chg (DO q v) w w'/\(∀k,DO q v' k->DO q v k\/w.heap.size<=k):=by
 obtain⟨A,c,rfl,hc,hm,hr⟩:=h.num;obtain⟨n,en⟩:=Ak (l.length);have EN:=I en;obtain⟨z,ez⟩:=Ak (Ci l p);have EZ:=I ez;have CL:=I (fun(w1:World) (h:DRing w1 B q (.slice A l.length c) l)=>Uw B q (.slice A l.length c) l p w1 h (by omega));have CP:=I (fun w1=>Xb p w1 h1 h2);rw[hp] at CP;rw[<-ez] at CL;obtain⟨kv,cf⟩:=Ak (AQ k);rw[<-cf];have cB:=h.lt;obtain⟨W,eW⟩:=Ak ((w.alloc (.cells #[.string ⟨p.1.toArray⟩,.string ⟨p.2.toArray⟩] 30)).alloc (.cells kv 24));have hb:Below w.heap.size w W:=eW▸(Ah.alloc Ag _).alloc (by simp) _;have O:=I (show Blk W w.heap.size 30 #[.string ⟨p.1.toArray⟩,.string ⟨p.2.toArray⟩] from eW▸(Blk.new w _ _).alloc _);have Z:=I (show Blk W (w.heap.size+1) 24 kv by have:=Blk.new (w.alloc (.cells #[.string ⟨p.1.toArray⟩,.string ⟨p.2.toArray⟩] 30)) 24 kv;simp only[World.size_alloc] at this;exact eW▸this);have HB:=I hb;have M:=I (h.below hb);have HW:=I h;have cd:=O.c0;have cg:=O.c1;have cA:IntKind.i64.wrap ((z:Int)+1)=(z:Int)+1:=by rw[IntKind.wrap_i64];omega
 have EK:=I cf;have cy:=I (show(Tryz.prog.info? 24).map (·.size)=some kv.size by rw[cf];exact Hg k);obtain⟨i0,ck,cm,cj,cu⟩:=info_parts Xc;have cn:=I ck;have cw:=I cm;have cp:=I cj;have cr:=I cu;have ct:=I (fun(w1:World)=>Wh.Fl (P:=Tryz.prog) w1 52 116 (iC ⟨p,z+1,k⟩).toArray i0 _ Tryz.underlying52 ck cm (by rw[cj];simp [Ce]) (by simp [Ce]) (by simp [Ce]));have cx:=I hB;have HN:=I (show z<255 by omega);have t1:decide (40<=(n:Int))=false:=by simp;omega
 have t2:decide (255<=(z:Int))=false:=by simp;omega
 have HL:=I (show n<40 by omega);clear ck cm cj cu hB hb h hr h1 h2 hp hn hl cf en hc hm;rw[<-ez];clear ez;go_enter Tryz.func13,Tryz.ntmps13
 go_upto_region 1 with fail
 rw[<-eW];clear eW
 go_wp2_with (first
  |(go_at_call 29;refine Aj (CP.o _) ?_;rintro w1 hb;replace HB:=HB.t hb;replace M:=I (M.o.below hb);replace O:=I (O.o.below hb);replace Z:=I (Z.o.below hb);have cd:=O.c0;have cg:=O.c1;have kr:w1.cell? ⟨q,0,none⟩=some (.slice A n c):=EN.o▸M.o.blk.cell 0;clear hb)
  |(go_at_call 30;refine Aj (CL.o _ M.o) ?_;rintro w2 hb;clear cd cg kr;replace HB:=HB.t hb;replace M:=I (M.o.below hb);replace O:=I (O.o.below hb);replace Z:=I (Z.o.below hb);have cd:=O.c0;have cg:=O.c1;have kr:w2.cell? ⟨q,0,none⟩=some (.slice A n c):=EN.o▸M.o.blk.cell 0;clear hb)
  |fail)
 replace O:=I (show Blk w2.drew _ _ _ from O.o.drewN 1);replace Z:=I (show Blk w2.drew _ _ _ from Z.o.drewN 1);replace M:=I (show DRing w2.drew B q _ l from M.o.below (below_drewN Ah 1));replace HB:=I (show Below w.heap.size w w2.drew from below_drewN HB.o 1);clear cd cg kr;refine Reg.Bo (fun w'=>Blk w' w.heap.size 30 #[.string ⟨p.1.toArray⟩,.string ⟨p.2.toArray⟩]/\Blk w' (w.heap.size+1) 24 kv) 15 rfl (by kernel_rfl) ⟨O.o,Z.o⟩ ?_;obtain⟨W2,cq⟩:=Ak (w2.drew);rw[<-cq] at O Z M HB⊢;clear cq;refine Reg.ty 0 rfl ⟨O.o,Z.o⟩ ?_;refine Reg.ty 1 rfl ⟨O.o,Z.o⟩ ?_;refine Reg.ty 2 rfl ⟨O.o,Z.o⟩ ?_;refine Reg.ty 3 rfl ⟨O.o,Z.o⟩ ?_;refine Reg.tw 5 (v:=.agg #[.string ⟨p.1.toArray⟩,.string ⟨p.2.toArray⟩]) rfl ⟨O.o,Z.o⟩ (fun w' hS=>by exact Wh.Bm (.tmp 4) rfl rfl hS.1 Tryz.underlying30 rfl Ds) ?_;refine Reg.ty 6 rfl ⟨O.o,Z.o⟩ ?_;refine Reg.tw 7 (v:=.int .i64 ((z:Int)+1)) rfl ⟨O.o,Z.o⟩ (fun w' hS=>by go_simp) ?_;refine Reg.tw 8 (v:=.agg kv) rfl ⟨O.o,Z.o⟩ (fun w' hS=>by exact Wh.Bm (.tmp 5) rfl rfl hS.2 Tryz.underlying24 rfl cy.o) ?_;refine Reg.tw 9 (v:=.agg (iC ⟨p,z+1,k⟩).toArray) rfl ⟨O.o,Z.o⟩ (fun w' hS=>by exact Bk (by go_simp) (EK.o▸Rf p (z+1) k)) ?_;refine Reg.JE [4,10] (by kernel_rfl) (by simp) ?_;intro j0 av;have av:j0=4\/j0=10:=by simpa using av
 rcases av with rfl | rfl
 ·have kr:W2.cell? ⟨q,0,none⟩=some (.slice A n c):=EN.o▸M.o.blk.cell 0
  refine⟨_,_,_,_,_,_,_,_,rfl,by rfl,by(go_simp;rfl),⟨O.o,Z.o⟩,?_⟩;simp only[Act.put,U,Aa,Ab];clear kr;refine Reg.JE [10] (by kernel_rfl) (by simp) ?_;intro j0 av;obtain rfl:j0=10:=by simpa using av
  clear av;have hb:Below W2.heap.size W2 (W2.alloc (.cells (iC ⟨p,z+1,k⟩).toArray 116)):=Ah.alloc Ag _;refine⟨_,_,_,_,_,_,.slice (some ⟨W2.heap.size,0,none⟩) 1 1,(W2.alloc (.cells (iC ⟨p,z+1,k⟩).toArray 116)),rfl,by rfl,Cl rfl (ct.o _),⟨O.o.below hb,Z.o.below hb⟩,?_⟩;simp only[Act.put,U,Aa,Ab];have bz:=I (Blk.new W2 116 (iC ⟨p,z+1,k⟩).toArray);replace HB:=HB.t hb;replace M:=I (M.o.below hb);replace O:=I (O.o.below hb);replace Z:=I (Z.o.below hb);clear hb;obtain⟨W5,cb⟩:=Ak ((W2.alloc (.cells (iC ⟨p,z+1,k⟩).toArray 116)));obtain⟨g5,bB⟩:=Ak (W2.heap.size);rw[<-cb] at bz HB M O Z⊢;rw[<-bB] at bz⊢;clear cb bB;refine Reg.JE [11] (by kernel_rfl) (by simp) ?_;intro j0 av;obtain rfl:j0=11:=by simpa using av
  clear av;obtain⟨v6,w6,aw,bx,bb,cc⟩:=Wh.FJ (P:=Tryz.prog) iC 35 72 Ce Up W5 52 52 116 i0 _ Tryz.underlying52 cn.o cw.o cp.o cr.o (by rfl) (by omega) B _ l M.o.row ⟨p,z+1,k⟩ g5 bz.o (by have:=EN.o;have:=HL.o;omega) (by omega) (Nat.le_trans cx.o HB.o.size);rw[<-EN.o] at aw;replace O:=I (O.o.grown bb (fun x=>by have:=(World.ownsRow.lt HW.o.row _ x).2;omega));replace Z:=I (Z.o.grown bb (fun x=>by have:=(World.ownsRow.lt HW.o.row _ x).2;omega));refine⟨_,_,_,_,_,_,v6,w6,rfl,by rfl,DH rfl rfl aw,⟨O.o,Z.o⟩,?_⟩;simp only[Act.put,U,Aa,Ab];refine Reg.ty 12 rfl ⟨O.o,Z.o⟩ ?_;refine Reg.ty 13 rfl ⟨O.o,Z.o⟩ ?_;have bq:=Qb HW.o HB.o M.o bx bb cc;have bs:=M.o.blk.grown bb M.o.vq;obtain⟨A7,c7,e7,_⟩:=Bs Ce bx;obtain⟨m7,ca⟩:=Ak ((l++[(⟨p,z+1,k⟩:It)]).length);rw[<-ca] at e7;subst e7;have f0:=bs.frozen 0;have k6:=bs.c0;refine Reg.BH 14 (w6.setCell ⟨q,0,none⟩ (.slice A7 m7 c7)) rfl (by kernel_rfl) (by rfl) (by go_simp) ⟨Si.Blk.far O.o _ _ (by simp;have:=HW.o.lt;omega),Si.Blk.far Z.o _ _ (by simp;have:=HW.o.lt;omega)⟩ ?_;simp only[Act.put,U,Aa,Ab];refine wpAnyH_done (by kernel_rfl) ?_ _;clear f0 k6 bs bx bb cc aw ca;have bn:=I bq;clear bq
  go_wp2
  go_ret2
  exact⟨rfl,_,bn.o.1,bn.o.2.1,bn.o.2.2⟩
 ·have hb:Below W2.heap.size W2 (W2.alloc (.cells (iC ⟨p,z+1,k⟩).toArray 116)):=Ah.alloc Ag _
  refine⟨_,_,_,_,_,_,.slice (some ⟨W2.heap.size,0,none⟩) 1 1,(W2.alloc (.cells (iC ⟨p,z+1,k⟩).toArray 116)),rfl,by rfl,Cl rfl (ct.o _),⟨O.o.below hb,Z.o.below hb⟩,?_⟩;simp only[Act.put,U,Aa,Ab];have bz:=I (Blk.new W2 116 (iC ⟨p,z+1,k⟩).toArray);replace HB:=HB.t hb;replace M:=I (M.o.below hb);replace O:=I (O.o.below hb);replace Z:=I (Z.o.below hb);clear hb;obtain⟨W5,cb⟩:=Ak ((W2.alloc (.cells (iC ⟨p,z+1,k⟩).toArray 116)));obtain⟨g5,bB⟩:=Ak (W2.heap.size);rw[<-cb] at bz HB M O Z⊢;rw[<-bB] at bz⊢;clear cb bB;refine Reg.JE [4] (by kernel_rfl) (by simp) ?_;intro j0 av;obtain rfl:j0=4:=by simpa using av
  clear av;have kr:W5.cell? ⟨q,0,none⟩=some (.slice A n c):=EN.o▸M.o.blk.cell 0;refine⟨_,_,_,_,_,_,_,_,rfl,by rfl,by(go_simp;rfl),⟨O.o,Z.o⟩,?_⟩;simp only[Act.put,U,Aa,Ab];clear kr;refine Reg.JE [11] (by kernel_rfl) (by simp) ?_;intro j0 av;obtain rfl:j0=11:=by simpa using av
  clear av;obtain⟨v6,w6,aw,bx,bb,cc⟩:=Wh.FJ (P:=Tryz.prog) iC 35 72 Ce Up W5 52 52 116 i0 _ Tryz.underlying52 cn.o cw.o cp.o cr.o (by rfl) (by omega) B _ l M.o.row ⟨p,z+1,k⟩ g5 bz.o (by have:=EN.o;have:=HL.o;omega) (by omega) (Nat.le_trans cx.o HB.o.size);rw[<-EN.o] at aw;replace O:=I (O.o.grown bb (fun x=>by have:=(World.ownsRow.lt HW.o.row _ x).2;omega));replace Z:=I (Z.o.grown bb (fun x=>by have:=(World.ownsRow.lt HW.o.row _ x).2;omega));refine⟨_,_,_,_,_,_,v6,w6,rfl,by rfl,DH rfl rfl aw,⟨O.o,Z.o⟩,?_⟩;simp only[Act.put,U,Aa,Ab];refine Reg.ty 12 rfl ⟨O.o,Z.o⟩ ?_;refine Reg.ty 13 rfl ⟨O.o,Z.o⟩ ?_;have bq:=Qb HW.o HB.o M.o bx bb cc;have bs:=M.o.blk.grown bb M.o.vq;obtain⟨A7,c7,e7,_⟩:=Bs Ce bx;obtain⟨m7,ca⟩:=Ak ((l++[(⟨p,z+1,k⟩:It)]).length);rw[<-ca] at e7;subst e7;have f0:=bs.frozen 0;have k6:=bs.c0;refine Reg.BH 14 (w6.setCell ⟨q,0,none⟩ (.slice A7 m7 c7)) rfl (by kernel_rfl) (by rfl) (by go_simp) ⟨Si.Blk.far O.o _ _ (by simp;have:=HW.o.lt;omega),Si.Blk.far Z.o _ _ (by simp;have:=HW.o.lt;omega)⟩ ?_;simp only[Act.put,U,Aa,Ab];refine wpAnyH_done (by kernel_rfl) ?_ _;clear f0 k6 bs bx bb cc aw ca;have bn:=I bq;clear bq
  go_wp2
  go_ret2
  exact⟨rfl,_,bn.o.1,bn.o.2.1,bn.o.2.2⟩
end Rg
end Go.Proofs.YtiecjolmennkfaaGreat
