import Derived.Test.YthgignaohimadaaGreatZKdcRoutes3
import Derived.Test.YthgignaohimadaaGreatZKdcRoutes4
set_option maxHeartbeats 25600000
set_option maxRecDepth 100000
set_option linter.unusedVariables false
set_option linter.unusedSimpArgs false
namespace Go.Proofs.YthgignaohimadaaGreat
namespace Ms
open DerP
open Nm (Ds isL tgL Ck Cn AG)
abbrev Pr:=L×L
structure Tk where
 s:Pr
 k:Int
 b:L
deriving DecidableEq
structure Pt where
 c:Pr
 ss:L
 tr:L
 st:Int
 en:Int
deriving DecidableEq
structure An where
 c:Pr
 t:Int
 q:Int
deriving DecidableEq
structure Rp where
 ss:L
 s:Pr
 st:Int
 en:Int
 no:Int
deriving DecidableEq
structure As where
 c:Pr
 s:Pr
 t:Int
 no:Int
deriving DecidableEq
structure Tg where
 t:Tk
 a:L
 s:Pr
 u:Int
 no:Int
deriving DecidableEq
structure Re where
 c:Pr
 t:Tk
 b:L
deriving DecidableEq
structure Ap where
 t:Tk
 a:L
deriving DecidableEq
structure Fa where
 e:Int
 no:Int
deriving DecidableEq
structure Mg where
 k:Int
 aq:As
 tg:Tg
 re:Re
 ap:Ap
 fa:Fa
deriving DecidableEq
def pr0:Pr:=([],[])
def tk0:Tk:=⟨pr0,0,[]⟩
def as0:As:=⟨pr0,pr0,0,0⟩
def tg0:Tg:=⟨tk0,[],pr0,0,0⟩
def re0:Re:=⟨pr0,tk0,[]⟩
def ap0:Ap:=⟨tk0,[]⟩
def fa0:Fa:=⟨0,0⟩
def key0:L:=List.replicate 32 0
def pt0:Pt:=⟨pr0,key0,[],0,0⟩
def an0:An:=⟨pr0,0,0⟩
def inB (n a b:Int):Bool:=decide (a<=n)&&decide (n<=b)
def Dm (b:L):Bool:=decide (1<=b.length)&&decide (b.length<=800)
def prB (p:Pr):Bool:=Ds p.1 p.2
def tmB (n:Int):Bool:=inB n 0 1073741824
def tkB (t:Tk):Bool:=prB t.s&&(inB t.k 1 255&&Dm t.b)
def txtB (l:L):Bool:=l.all fun x=>decide (32<=x.toNat)&&decide (x.toNat<=126)
def ptB (p:Pt):Bool:=txtB p.tr&&(prB p.c&&(decide (p.tr.length<=300)&&(tmB p.st&&tmB p.en)))
def anB (a:An):Bool:=prB a.c&&(tmB a.t&&tmB a.q)
def rpB (p:Rp):Bool:=prB p.s&&(tmB p.st&&(tmB p.en&&tmB p.no))
def asB (q:As):Bool:=prB q.c&&(prB q.s&&(tmB q.t&&tmB q.no))
def tgB (q:Tg):Bool:=tkB q.t&&(Dm q.a&&(prB q.s&&(tmB q.u&&tmB q.no)))
def reB (q:Re):Bool:=prB q.c&&(tkB q.t&&Dm q.b)
def apB (q:Ap):Bool:=tkB q.t&&Dm q.a
def faB (q:Fa):Bool:=inB q.e 1 255&&tmB q.no
def mgB (m:Mg):Bool:=
 if m.k=1 then asB m.aq&&decide (m=⟨1,m.aq,tg0,re0,ap0,fa0⟩)
 else if m.k=2 then tgB m.tg&&decide (m=⟨2,as0,m.tg,re0,ap0,fa0⟩)
 else if m.k=3 then reB m.re&&decide (m=⟨3,as0,tg0,m.re,ap0,fa0⟩)
 else if m.k=4 then apB m.ap&&decide (m=⟨4,as0,tg0,re0,m.ap,fa0⟩)
 else if m.k=5 then faB m.fa&&decide (m=⟨5,as0,tg0,re0,ap0,m.fa⟩)
 else false
def prE (p:Pr):L:=elem 48 [elem 27 p.1,elem 27 p.2].flatten
def tkE (t:Tk):L:=elem 97 [prE t.s,encI t.k,elem 4 t.b].flatten
def ptE (p:Pt):L:=elem 99 [prE p.c,elem 4 p.ss,elem 27 p.tr,encI p.st,encI p.en].flatten
def anE (a:An):L:=elem 98 [prE a.c,encI a.t,encI a.q].flatten
def rpE (p:Rp):L:=elem 122 [elem 4 p.ss,prE p.s,encI p.st,encI p.en,encI p.no].flatten
def asE (q:As):L:=elem 106 [prE q.c,prE q.s,encI q.t,encI q.no].flatten
def tgE (q:Tg):L:=elem 108 [tkE q.t,elem 4 q.a,prE q.s,encI q.u,encI q.no].flatten
def reE (q:Re):L:=elem 107 [prE q.c,tkE q.t,elem 4 q.b].flatten
def apE (q:Ap):L:=elem 110 [tkE q.t,elem 4 q.a].flatten
def faE (q:Fa):L:=elem 126 [encI q.e,encI q.no].flatten
def mgE (m:Mg):L:=if m.k=1 then asE m.aq else if m.k=2 then tgE m.tg else if m.k=3 then reE m.re else if m.k=4 then apE m.ap else faE m.fa
def limO (ok:Bool) (l:L):Option L:=if ok=true/\l.length<=2000 then some l else none
def mgO (m:Mg):Option L:=limO (mgB m) (mgE m)
def ptO (p:Pt):Option L:=limO (ptB p) (ptE p)
def anO (a:An):Option L:=limO (anB a) (anE a)
def rpO (p:Rp):Option L:=limO (rpB p) (rpE p)
def whC (c:Option L):Bool:=decide (c=some [])
def txC (c:Option L):L:=(Bp 27 c).getD []
def ocC (c:Option L):L:=(Bp 4 c).getD []
def prI (d:Option L):Pr:=(txC d,txC (BN 27 d))
def prP (c:Option L):Pr×Option L:=(prI (Bp 48 c),if whC (BN 27 (BN 27 (Bp 48 c))) then BN 48 c else none)
def nmP (c:Option L):Int×Option L:=(((intC c).1:Int),(intC c).2)
def keP (c:Option L):L×Option L:=if (ocC c).length=32 then (ocC c,BN 4 c) else (key0,none)
def ptP (b:L):Pt×Option L:=
 let c1:=prP (Bp 99 (some b));let c2:=keP c1.2;let c3:=BN 27 c2.2;let c4:=nmP c3;let c5:=nmP c4.2
 (⟨c1.1,c2.1,txC c2.2,c4.1,c5.1⟩,c5.2)
def anP (b:L):An×Option L:=
 let c1:=prP (Bp 98 (some b));let c2:=nmP c1.2;let c3:=nmP c2.2
 (⟨c1.1,c2.1,c3.1⟩,c3.2)
def ptD (b:L):Option Pt:=if ptO (ptP b).1=some b then some (ptP b).1 else none
def anD (b:L):Option An:=if anO (anP b).1=some b then some (anP b).1 else none
theorem AE (t:UInt8) (p:L):(elem t p).length<=p.length+4:=by
 rw[Er,Hw];split
 ·omega
 ·split<;>omega
theorem AI (n:Int):(encI n).length<=12:=by
 have:=AE 2 (dig (Ci n));have:=Lk n;rw[encI];omega
theorem Wu {n:L} (h:(tgL n||Ck Cn n)=true):n.length<=43:=by
 rw[Bool.or_eq_true] at h;rcases h with h | h
 ·rw[Nm.tgL,Bool.and_eq_true] at h
  have D:AG (Nm.cpL Nm.krb n)≠0:=by have:=h.2;simp only[isL,decide_eq_true_eq] at this;omega
  have F:=Tr.CR D;have E:Nm.cpL Nm.krb n=n.drop 7:=by rw[Nm.cpL,h.1];rfl
  rw[E,List.length_drop] at F;omega
 ·have:=(Nm.Eb _ _).1 h
  omega
theorem Ft {p:Pr} (h:prB p=true):p.1.length<=36/\p.2.length<=43:=by
 rw[prB,Ds,Bool.and_eq_true] at h;refine⟨Tr.CR ?_,Wu h.2⟩;have:=h.1;simp only[isL,decide_eq_true_eq] at this;omega
theorem Gc (a b:L):[a,b].flatten=a++b:=by simp
theorem Gd (a b c:L):[a,b,c].flatten=a++(b++c):=by simp
theorem Wv (a b c d:L):[a,b,c,d].flatten=a++(b++(c++d)):=by simp
theorem Fu (a b c d e:L):[a,b,c,d,e].flatten=a++(b++(c++(d++e))):=by simp
theorem Bl {p:Pr} (h:prB p=true):(prE p).length<=91/\[elem 27 p.1,elem 27 p.2].flatten.length<=87:=by
 have D:=Ft h;have F:=AE 27 p.1;have E:=AE 27 p.2;have J:=AE 48 [elem 27 p.1,elem 27 p.2].flatten;have M:[elem 27 p.1,elem 27 p.2].flatten.length=(elem 27 p.1).length+(elem 27 p.2).length:=by simp
 rw[prE];omega
theorem Py {t:Tk} (h:tkB t=true):prB t.s=true/\(1<=t.k/\t.k<=255)/\(1<=t.b.length/\t.b.length<=800):=by
 simpa [tkB,inB,Dm] using h
theorem Hy {t:Tk} (h:tkB t=true):(tkE t).length<=911/\[prE t.s,encI t.k,elem 4 t.b].flatten.length<=907:=by
 obtain⟨D,_,N⟩:=Py h;have J:=(Bl D).1;have M:=AI t.k;have F:=AE 4 t.b;have O:=AE 97 [prE t.s,encI t.k,elem 4 t.b].flatten;have E:[prE t.s,encI t.k,elem 4 t.b].flatten.length=(prE t.s).length+((encI t.k).length+(elem 4 t.b).length):=by simp
 rw[tkE];omega
section
variable {t:UInt8} {p r:L}
theorem be (h:p.length<=65535) (r:L):Bp t (some (elem t p++r))=some p:=(GM (Ec t p r h)).1
theorem ne (h:p.length<=65535) (r:L):BN t (some (elem t p++r))=some r:=(GM (Ec t p r h)).2
theorem be0 (h:p.length<=65535):Bp t (some (elem t p))=some p:=by have:=be (t:=t) h [];rwa [List.append_nil] at this
theorem ne0 (h:p.length<=65535):BN t (some (elem t p))=some []:=by have:=ne (t:=t) h [];rwa [List.append_nil] at this
theorem Ww (h:p.length<=65535) (r:L):txC (some (elem 27 p++r))=p:=by rw[txC,be h];rfl
theorem XX (h:p.length<=65535):txC (some (elem 27 p))=p:=by rw[txC,be0 h];rfl
theorem bN (h:p.length<=65535) (r:L):ocC (some (elem 4 p++r))=p:=by rw[ocC,be h];rfl
end
theorem JE {n:Int} (E:0<=n) (D:n<=4611686018427387904) (r:L):nmP (some (encI n++r))=(n,some r):=by
 rw[nmP,Zb,Sa n E D]
 congr 1
 omega
theorem IZ {n:Int} (E:0<=n) (D:n<=4611686018427387904):nmP (some (encI n))=(n,some []):=by
 have:=JE E D [];rwa [List.append_nil] at this
theorem SY {p:Pr} (h:prB p=true) (r:L):prP (some (prE p++r))=(p,some r):=by
 have D:=Ft h;have E:=(Bl h).2;rw[prP,prE,be (by omega),ne (by omega),Gc,prI,Ww (by omega),ne (by omega),XX (by omega),ne0 (by omega)]
 rfl
theorem Zv {k:L} (h:k.length=32) (r:L):keP (some (elem 4 k++r))=(k,some r):=by
 rw[keP,bN (by omega),if_pos h,ne (by omega)]
theorem DR {n:Int} (h:tmB n=true):0<=n/\n<=1073741824:=by simpa [tmB,inB] using h
theorem Dl {p:Pt} (h:ptB p=true):txtB p.tr=true/\prB p.c=true/\p.tr.length<=300/\tmB p.st=true/\tmB p.en=true:=by
 simpa [ptB] using h
theorem Og {p:Pt} (h:ptB p=true) (hk:p.ss.length=32):ptP (ptE p)=(p,some []):=by
 obtain⟨_,D,O,J,F⟩:=Dl h;have N:=DR J;have M:=DR F;have l1:=(Bl D).1;have l2:=AE 4 p.ss;have l3:=AE 27 p.tr;have l4:=AI p.st;have l5:=AI p.en;have E:[prE p.c,elem 4 p.ss,elem 27 p.tr,encI p.st,encI p.en].flatten.length<=65535:=by simp only[List.flatten_cons,List.flatten_nil,List.length_append,List.length_nil];omega
 rw[ptP,ptE,be0 E,Fu,SY D];simp only;rw[Zv hk];simp only;rw[Ww (by omega),ne (by omega),JE (by omega) (by omega)];simp only;rw[IZ (by omega) (by omega)]
theorem SZ {a:An} (h:anB a=true):anP (anE a)=(a,some []):=by
 have J:prB a.c=true/\tmB a.t=true/\tmB a.q=true:=by simpa [anB] using h
 obtain⟨D,M,F⟩:=J;have O:=DR M;have N:=DR F;have l1:=(Bl D).1;have l4:=AI a.t;have l5:=AI a.q;have E:[prE a.c,encI a.t,encI a.q].flatten.length<=65535:=by simp only[List.flatten_cons,List.flatten_nil,List.length_append,List.length_nil];omega
 rw[anP,anE,be0 E,Gd,SY D];simp only;rw[JE (by omega) (by omega)];simp only;rw[IZ (by omega) (by omega)]
theorem Dy {b:L} (h:Dm b=true):1<=b.length/\b.length<=800:=by simpa [Dm] using h
theorem Pz {m:Mg} (h:mgB m=true) :
  (asB m.aq=true/\m=⟨1,m.aq,tg0,re0,ap0,fa0⟩)\/(tgB m.tg=true/\m=⟨2,as0,m.tg,re0,ap0,fa0⟩)\/(reB m.re=true/\m=⟨3,as0,tg0,m.re,ap0,fa0⟩)\/
  (apB m.ap=true/\m=⟨4,as0,tg0,re0,m.ap,fa0⟩)\/(faB m.fa=true/\m=⟨5,as0,tg0,re0,ap0,m.fa⟩):=by
 unfold mgB at h
 split at h
 ·rw[Bool.and_eq_true,decide_eq_true_eq] at h;exact .inl h
 ·split at h
  ·rw[Bool.and_eq_true,decide_eq_true_eq] at h;exact .inr (.inl h)
  ·split at h
   ·rw[Bool.and_eq_true,decide_eq_true_eq] at h;exact .inr (.inr (.inl h))
   ·split at h
    ·rw[Bool.and_eq_true,decide_eq_true_eq] at h;exact .inr (.inr (.inr (.inl h)))
    ·split at h
     ·rw[Bool.and_eq_true,decide_eq_true_eq] at h;exact .inr (.inr (.inr (.inr h)))
     ·cases h
theorem Dg {ok:Bool} {l b:L}:limO ok l=some b↔ok=true/\l.length<=2000/\l=b:=by
 unfold limO
 split
 ·rename_i h
  exact⟨fun e=>⟨h.1,h.2,Option.some.inj e⟩,fun e=>by rw[e.2.2]⟩
 ·rename_i h
  exact⟨fun e=>by(cases e),fun e=>False.elim (h (And.intro e.1 e.2.1))⟩
theorem XY {b:L} {p:Pt} (hk:p.ss.length=32):ptD b=some p↔ptO p=some b:=by
 unfold ptD;constructor
 ·intro h
  split at h
  ·rename_i D;injection h with h;rw[<-h];exact D
  ·cases h
 ·intro h
  have D:=Dg.1 h;have e:(ptP b).1=p:=by rw[<-D.2.2,Og D.1 hk]
  rw[e,if_pos h]
theorem XZ {b:L} {a:An}:anD b=some a↔anO a=some b:=by
 unfold anD;constructor
 ·intro h
  split at h
  ·rename_i D;injection h with h;rw[<-h];exact D
  ·cases h
 ·intro h
  have D:=Dg.1 h;have e:(anP b).1=a:=by rw[<-D.2.2,SZ D.1]
  rw[e,if_pos h]
theorem Ya (c:Option L):(keP c).1.length=32:=by
 unfold keP
 split
 ·assumption
 ·rfl
theorem bO {b:L} {p:Pt} (h:ptD b=some p):ptO p=some b/\(ptP b)=(p,some []):=by
 unfold ptD at h
 split at h
 ·rename_i h2
  injection h with h;have hk:p.ss.length=32:=by rw[<-h];exact Ya _
  rw[h] at h2;have D:=Dg.1 h2;exact⟨h2,by rw[<-D.2.2];exact Og D.1 hk⟩
 ·cases h
end Ms
namespace Rt
open Nm
abbrev Pr:=L×L
structure Pa where
 f:L
 t:L
 v:List L
structure Tp where
 R:List L
 K:List Pr
 P:List Pa
def kl (K:List Pr) (i:Nat):Pr:=K.getD i ([],[])
def al (P:List Pa) (i:Nat):Pa:=P.getD i ⟨[],[],[]⟩
theorem Ge {K:List Pr} {i:Nat} (h:i<K.length):kl K i=K[i]:=by simp [kl,h]
theorem Kl {P:List Pa} {i:Nat} (h:i<P.length):al P i=P[i]:=by simp [al,h]
theorem Yb {K:List Pr} {i:Nat} (h:i<K.length):kl K i∈K:=by rw[Ge h];exact List.getElem_mem h
theorem bP {K:List Pr} {x:Pr} (h:x∈K):∃i,i<K.length/\kl K i=x:=by
 obtain⟨i,hi,e⟩:=List.getElem_of_mem h;exact⟨i,hi,by rw[Ge hi];exact e⟩
theorem Ta {P:List Pa} {i:Nat} (h:i<P.length):al P i∈P:=by rw[Kl h];exact List.getElem_mem h
section
variable {α:Type}
theorem take_succ {l:List α} {i:Nat} (h:i<l.length):l.take (i+1)=l.take i++[l[i]]:=List.take_succ_eq_append_getElem h
theorem Dz {l:List α} {i:Nat} (h:i<l.length):(l.take (i+1)).Nodup↔(l.take i).Nodup/\l[i]∉l.take i:=by
 rw[take_succ h,List.nodup_append];constructor
 ·rintro⟨D,_,J⟩
  exact⟨D,fun hm=>J _ hm _ (by simp) rfl⟩
 ·rintro⟨D,M⟩
  refine⟨D,by simp,fun a F b E=>?_⟩;rw[List.mem_singleton] at E;subst E;rintro rfl;exact M F
theorem FO {l:List α} {i:Nat} (h:l.Nodup):(l.take i).Nodup:=h.sublist (List.take_sublist _ _)
theorem all_succ {l:List α} {p:α->Bool} {i:Nat} (h:i<l.length):(l.take (i+1)).all p=((l.take i).all p&&p l[i]):=by
 rw[take_succ h,List.all_append,List.all_cons,List.all_nil,Bool.and_true]
theorem all_false {l:List α} {p:α->Bool} {i:Nat} (h:i<l.length) (hp:p l[i]=false):l.all p=false:=by
 cases q:l.all p with
 |false=>rfl
 |true=>rw[List.all_eq_true] at q;rw[q _ (List.getElem_mem h)] at hp;cases hp
theorem Dk {l:List α} {p:α->Bool} {i:Nat} (h:l.length<=i) (hp:(l.take i).all p=true):l.all p=true:=by
 rwa [List.take_of_length_le h] at hp
end
def BJ (R:List L):Bool:=R.all isL&&decide R.Nodup
def Db (R:List L) (p:Pr):Bool:=decide (p.1≠p.2)&&(decide (p.1∈R)&&decide (p.2∈R))
def CS (K:List Pr) (R:List L):Bool:=K.all (Db R)&&decide K.Nodup
def onB (R:List L) (p:Pa) (r:L):Bool:=decide (r≠p.f)&&(decide (r≠p.t)&&decide (r∈R))
def viaB (R:List L) (p:Pa):Bool:=decide (p.v.length<=4)&&(p.v.all (onB R p)&&decide p.v.Nodup)
def Ee (P:List Pa):List Pr:=P.map fun p=>(p.f,p.t)
def Gk (P:List Pa) (R:List L):Bool:=P.all (viaB R)&&CS (Ee P) R
def isT (T:Tp):Bool:=(decide (1<=T.R.length)&&decide (T.R.length<=6))&&((decide (T.K.length<=20)&&decide (T.P.length<=8))&&(BJ T.R&&(CS T.K T.R&&Gk T.P T.R)))
def Fe (R:List L) (p:Pa):Bool:=Db R (p.f,p.t)&&viaB R p
theorem Lq (P:List Pa) (R:List L):Gk P R=(P.all (Fe R)&&decide (Ee P).Nodup):=by
 rw[Gk,CS,<-Bool.and_assoc]
 congr 1
 induction P with
 |nil=>rfl
 |cons a t ih=>
  simp only[List.all_cons,Ee,List.map_cons,Fe] at ih⊢;rw[<-ih];cases viaB R a<;>cases Db R (a.f,a.t)<;>simp
def MC (T:Tp) (a b:L):Bool:=decide ((a,b)∈T.K)
def isP (a b:L) (p:Pa):Bool:=decide (p.f=a)&&decide (p.t=b)
def Oh (T:Tp) (a b:L):Nat:=T.P.findIdx (isP a b)
def laidB (T:Tp) (a b:L):Bool:=decide (Oh T a b<T.P.length)
def vL (T:Tp) (a b:L):List L:=(al T.P (Oh T a b)).v
def Cw (T:Tp) (a b:L):List L:=if laidB T a b then [(vL T a b).headD b] else b :: (Bb a b).reverse
def MD (T:Tp) (a b:L):Option L:=if a=b then none else (Cw T a b).find? (MC T a)
def nxS (T:Tp) (a b:L):L:=(MD T a b).getD []
def nxB (T:Tp) (a b:L):Bool:=(MD T a b).isSome
theorem Zw {T:Tp} {a b:L} {i:Nat} (hi:i<T.P.length) (h:isP a b (al T.P i)=true) (F:∀k,k<i->isP a b (al T.P k)=false):Oh T a b=i:=by
 rcases Nat.lt_trichotomy (Oh T a b) i with g | g | g
 ·have D:=List.findIdx_getElem (p:=isP a b) (xs:=T.P) (w:=Nat.lt_trans g hi)
  have E:=F _ g;rw[Kl (Nat.lt_trans g hi)] at E;exact absurd (D.symm.trans E) (by simp)
 ·exact g
 ·have D:=List.not_of_lt_findIdx g
  rw[Kl hi] at h;simp [h] at D
theorem Tb {T:Tp} {a b:L} (E:∀k,k<T.P.length->isP a b (al T.P k)=false):Oh T a b=T.P.length:=by
 have J:Oh T a b<=T.P.length:=List.findIdx_le_length;rcases Nat.lt_or_ge (Oh T a b) T.P.length with g | g
 ·have F:=List.findIdx_getElem (p:=isP a b) (xs:=T.P) (w:=g)
  have D:=E _ g;rw[Kl g] at D;exact absurd (F.symm.trans D) (by simp)
 ·omega
open Go.RowKit Af
def stp (p:Pr):Value:=.agg #[st p.1,st p.2]
def SlV (w:World) (B:Nat) (v:Value) (ls:List L):Prop:=∃A c,v=.slice A ls.length c/\ls.length<=c/\Rd w B A (strs ls)
def RdP (w:World) (B:Nat) (A:Option Addr) (K:List Pr):Prop:=
 K = []\/∃b o,A=some ⟨b,o,none⟩/\b<B/\∀i,i<K.length->w.cell? ⟨b,o+i*2,none⟩=some (.string ⟨(kl K i).1.toArray⟩)/\w.cell? ⟨b,o+i*2+1,none⟩=some (.string ⟨(kl K i).2.toArray⟩)
def SlP (w:World) (B:Nat) (v:Value) (K:List Pr):Prop:=∃A c,v=.slice A K.length c/\K.length<=c/\RdP w B A K
def RdA (w:World) (B:Nat) (A:Option Addr) (P:List Pa):Prop:=
 P = []\/∃b o,A=some ⟨b,o,none⟩/\b<B/\∀i,i<P.length->w.cell? ⟨b,o+i*3,none⟩=some (.string ⟨(al P i).f.toArray⟩)/\w.cell? ⟨b,o+i*3+1,none⟩=some (.string ⟨(al P i).t.toArray⟩)/\
  ∃v,w.cell? ⟨b,o+i*3+2,none⟩=some v/\SlV w B v (al P i).v
def SlA (w:World) (B:Nat) (v:Value) (P:List Pa):Prop:=∃A c,v=.slice A P.length c/\P.length<=c/\RdA w B A P
def TpV (w:World) (B:Nat) (v:Value) (T:Tp):Prop:=∃v1 v2 v3,v=.agg #[v1,v2,v3]/\SlV w B v1 T.R/\SlP w B v2 T.K/\SlA w B v3 T.P
def PaV (w:World) (B:Nat) (v:Value) (p:Pa):Prop:=∃u,v=.agg #[.string ⟨p.f.toArray⟩,.string ⟨p.t.toArray⟩,u]/\SlV w B u p.v
section
variable {w w':World} {B B':Nat} {A:Option Addr} {v:Value} {ls:List L} {K:List Pr} {P:List Pa} {T:Tp} {p:Pa}
theorem SlV.keep (h:SlV w B v ls) (hk:∀b o,b<B->w'.cell? ⟨b,o,none⟩=w.cell? ⟨b,o,none⟩):SlV w' B v ls:=by
 obtain⟨A,c,D,F,E⟩:=h;exact⟨A,c,D,F,E.keep hk⟩
theorem SlV.more (h:SlV w B v ls) (hB:B<=B'):SlV w B' v ls:=by
 obtain⟨A,c,D,F,E⟩:=h;exact⟨A,c,D,F,E.more hB⟩
theorem RdP.keep (h:RdP w B A K) (hk:∀b o,b<B->w'.cell? ⟨b,o,none⟩=w.cell? ⟨b,o,none⟩):RdP w' B A K:=by
 rcases h with h | ⟨b,o,F,D,E⟩
 ·exact .inl h
 ·exact .inr ⟨b,o,F,D,fun i hi=>⟨(hk _ _ D).trans (E i hi).1,(hk _ _ D).trans (E i hi).2⟩⟩
theorem RdP.more (h:RdP w B A K) (hB:B<=B'):RdP w B' A K:=by
 rcases h with h | ⟨b,o,D,F,E⟩
 ·exact .inl h
 ·exact .inr ⟨b,o,D,by omega,E⟩
theorem SlP.keep (h:SlP w B v K) (hk:∀b o,b<B->w'.cell? ⟨b,o,none⟩=w.cell? ⟨b,o,none⟩):SlP w' B v K:=by
 obtain⟨A,c,D,F,E⟩:=h;exact⟨A,c,D,F,E.keep hk⟩
theorem SlP.more (h:SlP w B v K) (hB:B<=B'):SlP w B' v K:=by
 obtain⟨A,c,D,F,E⟩:=h;exact⟨A,c,D,F,E.more hB⟩
theorem RdA.keep (h:RdA w B A P) (hk:∀b o,b<B->w'.cell? ⟨b,o,none⟩=w.cell? ⟨b,o,none⟩):RdA w' B A P:=by
 rcases h with h | ⟨b,o,J,D,E⟩
 ·exact .inl h
 ·refine .inr ⟨b,o,J,D,fun i hi=>⟨(hk _ _ D).trans (E i hi).1,(hk _ _ D).trans (E i hi).2.1,?_⟩⟩
  obtain⟨v,M,F⟩:=(E i hi).2.2;exact⟨v,(hk _ _ D).trans M,F.keep hk⟩
theorem SlA.keep (h:SlA w B v P) (hk:∀b o,b<B->w'.cell? ⟨b,o,none⟩=w.cell? ⟨b,o,none⟩):SlA w' B v P:=by
 obtain⟨A,c,D,F,E⟩:=h;exact⟨A,c,D,F,E.keep hk⟩
theorem TpV.keep (h:TpV w B v T) (hk:∀b o,b<B->w'.cell? ⟨b,o,none⟩=w.cell? ⟨b,o,none⟩):TpV w' B v T:=by
 obtain⟨v1,v2,v3,D,E,F,J⟩:=h;exact⟨v1,v2,v3,D,E.keep hk,F.keep hk,J.keep hk⟩
theorem PaV.keep (h:PaV w B v p) (hk:∀b o,b<B->w'.cell? ⟨b,o,none⟩=w.cell? ⟨b,o,none⟩):PaV w' B v p:=by
 obtain⟨u,D,E⟩:=h;exact⟨u,D,E.keep hk⟩
theorem SlV.below (h:SlV w B v ls) (D:Below B w w'):SlV w' B v ls:=h.keep fun _ _ hp=>D.cell hp
theorem RdP.below (h:RdP w B A K) (D:Below B w w'):RdP w' B A K:=h.keep fun _ _ hp=>D.cell hp
theorem SlP.below (h:SlP w B v K) (D:Below B w w'):SlP w' B v K:=h.keep fun _ _ hp=>D.cell hp
theorem RdA.below (h:RdA w B A P) (D:Below B w w'):RdA w' B A P:=h.keep fun _ _ hp=>D.cell hp
theorem TpV.below (h:TpV w B v T) (D:Below B w w'):TpV w' B v T:=h.keep fun _ _ hp=>D.cell hp
theorem SlV.on (h:SlV w w.heap.size v ls) (D:Below w.heap.size w w'):SlV w' w'.heap.size v ls:=(h.below D).more D.size
theorem SlP.on (h:SlP w w.heap.size v K) (D:Below w.heap.size w w'):SlP w' w'.heap.size v K:=(h.below D).more D.size
theorem Lr {i:Nat} (h:Rd w B A (strs ls)) (hi:i<=ls.length):Rd w B A (strs (ls.take i)):=by
 rcases h with h | ⟨b,o,D,E,F⟩
 ·left
  have:ls = []:=List.map_eq_nil_iff.1 h;subst this;simp [strs]
 ·refine .inr ⟨b,o,D,E,fun j u hu=>F j u ?_⟩
  simp only[strs,List.map_take,List.getElem?_take] at hu⊢
  split at hu
  ·exact hu
  ·cases hu
theorem Zx {i j:Nat} (h:j<i) (D:j<K.length):kl (K.take i) j=kl K j:=by
 rw[Ge (by simp;omega),Ge D];simp
theorem Wx {i:Nat} (h:RdP w B A K):RdP w B A (K.take i):=by
 rcases h with h | ⟨b,o,D,E,F⟩
 ·subst h;exact .inl (by simp)
 ·refine .inr ⟨b,o,D,E,fun j J=>?_⟩
  simp only[List.length_take] at J;rw[Zx (by omega) (by omega)];exact F j (by omega)
theorem MF {i:Nat} (h:RdP w B A K) (hi:i<K.length):∃b o,A=some ⟨b,o,none⟩/\b<B/\w.cell? ⟨b,o+i*2,none⟩=some (.string ⟨(kl K i).1.toArray⟩)/\w.cell? ⟨b,o+i*2+1,none⟩=some (.string ⟨(kl K i).2.toArray⟩):=by
 rcases h with h | ⟨b,o,D,E,F⟩
 ·subst h;simp at hi
 ·exact⟨b,o,D,E,F i hi⟩
theorem PA {i:Nat} (h:RdA w B A P) (hi:i<P.length):∃b o,A=some ⟨b,o,none⟩/\b<B/\w.cell? ⟨b,o+i*3,none⟩=some (.string ⟨(al P i).f.toArray⟩)/\w.cell? ⟨b,o+i*3+1,none⟩=some (.string ⟨(al P i).t.toArray⟩)/\
  ∃v,w.cell? ⟨b,o+i*3+2,none⟩=some v/\SlV w B v (al P i).v:=by
 rcases h with h | ⟨b,o,D,E,F⟩
 ·subst h;simp at hi
 ·exact⟨b,o,D,E,F i hi⟩
end
def ixP (x:Pr) (K:List Pr):Int:=if x∈K then ((K.findIdx fun y=>decide (y=x):Nat):Int) else -1
theorem Tc {K:List Pr} {x:Pr} {i:Nat} (hi:i<K.length) (h:kl K i=x) (D:∀k,k<i->kl K k≠x):ixP x K=(i:Int):=by
 have hm:x∈K:=by rw[<-h];exact Yb hi
 rw[ixP,if_pos hm]
 congr 1
 rcases Nat.lt_trichotomy (K.findIdx fun y=>decide (y=x)) i with g | g | g
 ·have:=List.findIdx_getElem (p:=fun y=>decide (y=x)) (w:=(by omega:(K.findIdx fun y=>decide (y=x))<K.length))
  exact absurd (by rw[Ge (by omega)];simpa using this) (D _ g)
 ·exact g
 ·have:=List.not_of_lt_findIdx g
  rw[Ge hi] at h;simp [h] at this
theorem Wy {K:List Pr} {x:Pr} (D:∀k,k<K.length->kl K k≠x):ixP x K = -1:=by
 rw[ixP,if_neg];intro hm;obtain⟨i,hi,e⟩:=bP hm;exact D i hi e
theorem bQ (x:Pr) (K:List Pr):decide (0<=ixP x K)=decide (x∈K):=by
 rw[ixP]
 by_cases h:x∈K
 ·rw[if_pos h];simp [h]
 ·rw[if_neg h];simp [h]
theorem Ja (xs:Array Value) (i:Nat) (u:L) (h:xs[i]? = some (.string ⟨u.toArray⟩)) (w:World):(part 9 xs (i*Tryz.prog.cellsOf 9)).run Tryz.prog w=.ok (.string ⟨u.toArray⟩) w:=by
 have D:Tryz.prog.cellsOf 9=1:=by kernel_rfl
 have u9:=Tryz.underlying9;rw[D,Nat.mul_one];unfold part
 go_simp
theorem Zy (a b:L) (w:World):(Op.equalIn 9999 9 (.string ⟨a.toArray⟩) (.string ⟨b.toArray⟩)).run Tryz.prog w=.ok (decide (a=b)) w:=by
 rw[show(9999:Nat)=9998+1 from rfl,run_equalIn_string w 9998 _ _ _ Tryz.underlying9]
 congr 1
 rw[ByteArray.toList_eq,ByteArray.toList_eq]
 by_cases h:a=b<;>simp [h]
theorem PC (x y:Pr) (w:World):(Op.equalIn 10000 128 (.agg #[.string ⟨x.1.toArray⟩,.string ⟨x.2.toArray⟩]) (.agg #[.string ⟨y.1.toArray⟩,.string ⟨y.2.toArray⟩])).run Tryz.prog w=.ok (decide (x=y)) w:=by
 obtain⟨M,D,_,_,_⟩:=info_parts IV;rw[run_equalIn_array w 9999 _ _ Tryz.underlying128 D];show(Op.eqItems 9999 9 (Tryz.prog.cellsOf 9) _ _ [0,1]).run Tryz.prog w=_;have p1:=Ja #[.string ⟨x.1.toArray⟩,.string ⟨x.2.toArray⟩] 0 x.1 rfl;have E:=Ja #[.string ⟨x.1.toArray⟩,.string ⟨x.2.toArray⟩] 1 x.2 rfl;have F:=Ja #[.string ⟨y.1.toArray⟩,.string ⟨y.2.toArray⟩] 0 y.1 rfl;have J:=Ja #[.string ⟨y.1.toArray⟩,.string ⟨y.2.toArray⟩] 1 y.2 rfl;obtain⟨a,b⟩:=x;obtain⟨c,d⟩:=y;simp only at p1 E F J;simp only[Op.eqItems,Sem.run_bind,p1,E,F,J,Result.andThen_ok,Zy,Sem.run_ite,Sem.run_pure]
 by_cases h1:a=c<;>by_cases h2:b=d<;>simp [h1,h2]
theorem Td (x y:Pr) (h:x=y):∀w,(Op.equalIn 10000 128 (.agg #[.string ⟨x.1.toArray⟩,.string ⟨x.2.toArray⟩]) (.agg #[.string ⟨y.1.toArray⟩,.string ⟨y.2.toArray⟩])).run Tryz.prog w=.ok true w:=fun w=>by rw[PC,decide_eq_true h]
theorem Yc (x y:Pr) (h:x≠y):∀w,(Op.equalIn 10000 128 (.agg #[.string ⟨x.1.toArray⟩,.string ⟨x.2.toArray⟩]) (.agg #[.string ⟨y.1.toArray⟩,.string ⟨y.2.toArray⟩])).run Tryz.prog w=.ok false w:=fun w=>by rw[PC,decide_eq_false h]
theorem QN (K:List Pr) (A:Option Addr) (c B:Nat) (x:Pr) (w:World) (hl:K.length<=1000000) (hr:RdP w B A K) (hB:B<=w.heap.size) :
  Calls Tryz.prog 196 #[.slice A K.length c,stp x] w fun e w'=>e=.returned (.int .i64 (ixP x K))/\Below w.heap.size w w':=by
 have O:=I hr;clear hr;obtain⟨n,en⟩:=Ak (K.length);rw[<-en] at hl⊢;have EN:=I en;clear en;rw[stp,st,st];go_enter Tryz.func196,Tryz.ntmps196
 go_wp2
 have M:=I (Blk.new w 128 #[.string ⟨x.1.toArray⟩,.string ⟨x.2.toArray⟩]);obtain⟨W,eW⟩:=Ak (w.alloc (.cells #[.string ⟨x.1.toArray⟩,.string ⟨x.2.toArray⟩] 128));rw[<-eW] at M⊢;have F:=I (show Below w.heap.size w W by rw[eW];exact Ah.alloc Ag _);have N:=I (show w.heap.size<=W.heap.size from F.o.size);obtain⟨g,Z⟩:=Ak (w.heap.size);rw[<-Z] at M F hB N⊢;replace O:=I ((O.o.below (F.o.mono hB)));have EG:=I Z;clear eW Z hB
 go_loopw [8] (fun iv wr=>∃i:Nat,i<=n/\iv=.int .i64 (i:Int)/\(∀k,k<i->kl K k≠x)/\AW W wr) (fun iv _=>n - (intOf iv).toNat)
 case atStart=>exact⟨0,Nat.zero_le _,rfl,fun k h=>absurd h (Nat.not_lt_zero k),AW.refl _⟩
 case round=>
  obtain⟨i,hi,rfl,hn,J⟩:=hrel;have HN:=I hn;clear hn;have aw:RdP wr B A K:=O.o.keep fun b o _=>by obtain⟨m,rfl⟩:=J;rfl
  have bz:wr.cell? ⟨g,0,none⟩=some (.string ⟨x.1.toArray⟩):=by obtain⟨m,rfl⟩:=J;exact M.o.cell 0
  have bx:wr.cell? ⟨g,1,none⟩=some (.string ⟨x.2.toArray⟩):=by obtain⟨m,rfl⟩:=J;exact M.o.cell 1
  have D:=I J;clear J
  by_cases hlt:i<n
  ·have e1:(i:Int)<(n:Int):=by omega
   have e2:(0:Int)<=(i:Int):=by omega
   obtain⟨b,o,rfl,_,h1,h2⟩:=MF aw (i:=i) (by rw[<-EN.o];exact hlt)
   by_cases hx:kl K i=x
   ·have t1:=Td x (kl K i) hx.symm
    have E:=I (Tc (by rw[<-EN.o];exact hlt) hx HN.o);clear hx
    go_wp2
    go_quiet (fail)
    go_wp2
    go_ret;exact⟨by rw[E.o];rfl,by rw[<-EG.o];exact F.o.trans ((D.o.trans ⟨_,rfl⟩).below.mono N.o)⟩
   ·have t1:=Yc x (kl K i) fun g=>hx g.symm
    have HX:=I hx;clear hx
    go_wp2
    go_quiet (fail)
    go_wp2
    go_roundw
    case rel=>exact⟨i+1,by omega,by go_num,fun k hk=>by
     by_cases q:k=i
     ·rw[q];exact HX.o
     ·exact HN.o k (by omega),D.o.trans ⟨_,rfl⟩⟩
    case measure=>simp [intOf];omega
  ·have e1:¬(i:Int)<(n:Int):=by omega
   have E:=I (Wy (K:=K) (x:=x) fun k hk=>HN.o k (by have:=EN.o;omega))
   go_wp2
   go_ret;exact⟨by rw[E.o];rfl,by rw[<-EG.o];exact F.o.trans (D.o.below.mono N.o)⟩
theorem GY (K:List Pr) (A:Option Addr) (c B:Nat) (x:Pr) (w:World) (N:K.length<=1000000) (J:RdP w B A K) (hB:B<=w.heap.size) :
  Calls Tryz.prog 158 #[.slice A K.length c,stp x] w fun e w'=>e=.returned (.bool (decide (x∈K)))/\Below w.heap.size w w':=by
 have D:=(Below.refl w.heap.size w).alloc Ag (.cells #[.string ⟨x.1.toArray⟩,.string ⟨x.2.toArray⟩] 128);have c1:=QN K A c B x _ N (J.below (D.mono hB)) (Nat.le_trans hB D.size);have H:=I D;clear D;have E:=I (bQ x K);obtain⟨z,F⟩:=Ak (ixP x K);rw[<-F] at c1;have M:=I F;clear F J;rw[stp,st,st] at c1⊢;go_enter Tryz.func158,Tryz.ntmps158
 go_wp2_with (go_at_call 196;refine Aj c1 ?_;rintro w1 D;replace H:=H.t D;clear D)
 go_ret;exact⟨by rw[<-E.o,<-M.o];rfl,H.o⟩
theorem PD (ls:List L) (A:Option Addr) (c B:Nat) (w:World) (hl:ls.length<=1000000) (hc:ls.length<=c) (N:Rd w B A (strs ls)) :
  Calls Tryz.prog 120 #[.slice A ls.length c] w fun e w'=>e=.returned (.bool (decide ls.Nodup))/\w=w':=by
 have M:=I N;clear N;have C1:=I (fun(i:Nat) (hi:i<ls.length) w1 (h:Rd w1 B A (strs ls))=>Tr.BP (ls.take i) A c B (pl ls i) w1 (by simp;omega) (Lr h (by omega)));obtain⟨n,en⟩:=Ak (ls.length);rw[<-en] at hl hc⊢;have Z:=I en;clear en;go_enter Tryz.func120,Tryz.ntmps120
 go_wp2
 go_loop [7] (fun J=>∃i:Nat,i<=n/\J=.int .i64 (i:Int)/\(ls.take i).Nodup) (fun J=>n - (intOf J).toNat)
 case atStart=>exact⟨0,Nat.zero_le _,rfl,by simp⟩
 case round=>
  obtain⟨i,hi,rfl,F⟩:=hrel;have O:=I F;clear F
  by_cases hlt:i<n
  ·have e1:(i:Int)<(n:Int):=by omega
   have e2:(0:Int)<=(i:Int):=by omega
   have e3:(i:Int)<=(c:Int):=by omega
   have D:i<ls.length:=by rw[<-Z.o];exact hlt
   have c1:=C1.o i D w M.o;have hlen:(ls.take i).length=i:=by simp;omega
   rw[hlen] at c1;have hs:=Dz D;rw[<-Ct D] at hs;obtain⟨b,o,rfl,_,h1⟩:=CQ M.o D
   by_cases hx:pl ls i∈ls.take i
   ·rw[decide_eq_true hx] at c1
    have E:=I (show decide ls.Nodup=false by
     rw[decide_eq_false_iff_not];intro F;exact(hs.1 (FO F)).2 hx)
    clear hx hs hlen D
    go_wp2_with (go_at_call 41;refine Aj c1 ?_;rintro w1 rfl;clear c1)
    go_ret;exact⟨by rw[E.o];rfl,rfl⟩
   ·rw[decide_eq_false hx] at c1
    have E:=I (hs.2 ⟨O.o,hx⟩);clear hx hs hlen D
    go_wp2_with (go_at_call 41;refine Aj c1 ?_;rintro w1 rfl;clear c1)
    go_round
    case rel=>exact⟨i+1,by omega,by go_num,E.o⟩
    case measure=>simp [intOf];omega
  ·have e1:¬(i:Int)<(n:Int):=by omega
   have E:=I (show decide ls.Nodup=true by
    have h:=O.o;rw[List.take_of_length_le (by have:=Z.o;omega)] at h;exact decide_eq_true h)
   go_wp2
   go_ret;exact⟨by rw[E.o];rfl,rfl⟩
theorem Te (K:List Pr) (A:Option Addr) (c B:Nat) (w:World) (hl:K.length<=1000000) (hc:K.length<=c) (hr:RdP w B A K) (hB:B<=w.heap.size) :
  Calls Tryz.prog 121 #[.slice A K.length c] w fun e w'=>e=.returned (.bool (decide K.Nodup))/\Below w.heap.size w w':=by
 obtain⟨N,eN⟩:=Ak (w.heap.size);rw[<-eN] at hB⊢;have bz:=I (show Below N w w from Below.refl _ _);have M:=I eN;clear eN;have O:=I (show ∀w1:World,Below N w w1->N<=w1.heap.size from fun w1 h=>by have:=h.size;have:=M.o;omega);have HR:=I hr;clear hr;have C1:=I (fun(i:Nat) (hi:i<K.length) w1 (h:RdP w1 B A K) (aw:B<=w1.heap.size)=>GY (K.take i) A c B (kl K i) w1 (by simp;omega) (Wx h) aw);obtain⟨n,en⟩:=Ak (K.length);rw[<-en] at hl hc⊢;have EN:=I en;clear en;go_enter Tryz.func121,Tryz.ntmps121
 go_wp2
 go_loopw [7] (fun iv wr=>∃i:Nat,i<=n/\iv=.int .i64 (i:Int)/\(K.take i).Nodup/\Below N w wr) (fun iv _=>n - (intOf iv).toNat)
 case atStart=>exact⟨0,Nat.zero_le _,rfl,by simp,bz.o⟩
 case round=>
  obtain⟨i,hi,rfl,hn,F⟩:=hrel;have HN:=I hn;clear hn;have Z:=I F;clear F
  by_cases hlt:i<n
  ·have e1:(i:Int)<(n:Int):=by omega
   have e2:(0:Int)<=(i:Int):=by omega
   have e3:(i:Int)<=(c:Int):=by omega
   have D:i<K.length:=by rw[<-EN.o];exact hlt
   have hs:=Dz D;rw[<-Ge D] at hs;have bx:=HR.o.below (Z.o.mono hB);obtain⟨b,o,rfl,_,h1,h2⟩:=MF bx D;have hlen:(K.take i).length=i:=by simp;omega
   have J:=I (show Blk (wr.alloc (.cells #[.string ⟨(kl K i).1.toArray⟩,.string ⟨(kl K i).2.toArray⟩] 128)).drew wr.heap.size 128 #[.string ⟨(kl K i).1.toArray⟩,.string ⟨(kl K i).2.toArray⟩] from(Blk.new wr 128 _).drewN 1);have H:=I (show Below N w (wr.alloc (.cells #[.string ⟨(kl K i).1.toArray⟩,.string ⟨(kl K i).2.toArray⟩] 128)).drew from below_drewN (Z.o.alloc (by have:=Z.o.size;have:=M.o;omega) _) 1);have c1:=C1.o i D _ (HR.o.below (H.o.mono hB)) (Nat.le_trans hB (by have:=H.o.size;have:=M.o;omega));rw[hlen] at c1;rw[stp,st,st] at c1
   by_cases hx:kl K i∈K.take i
   ·rw[decide_eq_true hx] at c1
    have E:=I (show decide K.Nodup=false by
     rw[decide_eq_false_iff_not];intro hn;exact(hs.1 (FO hn)).2 hx)
    clear hx hs hlen D
    go_wp2
    go_region_held3 (fun w'=>w'.cell? ⟨wr.heap.size,0,none⟩=some (.string ⟨(kl K i).1.toArray⟩)/\w'.cell? ⟨wr.heap.size,1,none⟩=some (.string ⟨(kl K i).2.toArray⟩)) (exact⟨J.o.cell 0,J.o.cell 1⟩) ((go_at_call 158;refine Aj c1 ?_;rintro w1 F;clear c1;have H1:=I (H.o.trans (F.mono (O.o _ H.o)));replace J:=I (J.o.below F);clear F))
    go_wp2
    go_ret;exact⟨by rw[E.o];rfl,H1.o⟩
   ·rw[decide_eq_false hx] at c1
    have E:=I (hs.2 ⟨HN.o,hx⟩);clear hx hs hlen D
    go_wp2
    go_region_held3 (fun w'=>w'.cell? ⟨wr.heap.size,0,none⟩=some (.string ⟨(kl K i).1.toArray⟩)/\w'.cell? ⟨wr.heap.size,1,none⟩=some (.string ⟨(kl K i).2.toArray⟩)) (exact⟨J.o.cell 0,J.o.cell 1⟩) ((go_at_call 158;refine Aj c1 ?_;rintro w1 F;clear c1;have H1:=I (H.o.trans (F.mono (O.o _ H.o)));replace J:=I (J.o.below F);clear F))
    go_wp2
    go_roundw
    case rel=>exact⟨i+1,by omega,by go_num,E.o,H1.o⟩
    case measure=>simp [intOf];omega
  ·have e1:¬(i:Int)<(n:Int):=by omega
   have E:=I (show decide K.Nodup=true by
    have h:=HN.o;rw[List.take_of_length_le (by have:=EN.o;omega)] at h;exact decide_eq_true h)
   go_wp2
   go_ret;exact⟨by rw[E.o];rfl,Z.o⟩
def prs (K:List Pr):List Value:=K.flatMap fun p=>[st p.1,st p.2]
theorem KE (K M:List Pr):prs (K++M)=prs K++prs M:=by simp [prs]
theorem Tf (K:List Pr):∀u∈prs K,u.oneCell'=true:=by
 intro u hu;obtain⟨p,_,h⟩:=List.mem_flatMap.1 hu;rcases List.mem_cons.1 h with h | h
 ·subst h;rfl
 ·rw[List.mem_singleton] at h;subst h;rfl
theorem Yd:∀{K:List Pr} {i:Nat},i<K.length->(prs K)[i*2]? = some (st (kl K i).1)/\(prs K)[i*2+1]? = some (st (kl K i).2)
 | [],i,h=>by simp at h
 |a :: t,0,_=>⟨rfl,rfl⟩
 |a :: t,i+1,h=>by
  have:=Yd (K:=t) (i:=i) (by simpa using h);have e:prs (a :: t)=st a.1 :: st a.2 :: prs t:=rfl;rw[e,show(i+1)*2=i*2+2 by omega];exact this
theorem MG:(Tryz.prog.info? 128).map (fun i=>(i.zero,i.size,i.bytes))=some (some (.agg #[.string ⟨#[]⟩,.string ⟨#[]⟩]),2,32):=by kernel_rfl
def OwnP (w:World) (base:Nat) (v:Value) (K:List Pr):Prop:=w.ownsRow base 128 2 v K.length (prs K)
theorem OwnP.nil (w:World) (base:Nat):OwnP w base (.slice none 0 0) []:=World.ownsRow_nil w base _ 2
theorem OwnP.below {w w':World} {base:Nat} {v:Value} {K:List Pr} (h:OwnP w base v K) (D:Below w.heap.size w w'):OwnP w' base v K:=Ek h D
theorem OwnP.slice {w:World} {base:Nat} {v:Value} {K:List Pr} (h:OwnP w base v K):SlP w w.heap.size v K:=by
 have M:=h;rcases h.2 with⟨D,E⟩ | ⟨g,cap,cur,D,O,J,N,_⟩
 ·have e:K = []:=List.eq_nil_of_length_eq_zero E
  subst e;exact⟨none,0,D,Nat.le_refl _,.inl rfl⟩
 ·subst D
  refine⟨_,cap,rfl,N,.inr ⟨g,0,rfl,(Array.getElem?_eq_some_iff.1 J).1,fun i hi=>?_⟩⟩;have D:=M.cells (g:=g) rfl;have E:=Yd hi;have a1:=D _ _ E.1;have F:=D _ _ E.2;rw[addr_add] at a1 F;rw[Nat.add_assoc];exact⟨a1,F⟩
theorem OwnP.lt {w:World} {base:Nat} {v:Value} {K:List Pr} (h:OwnP w base v K):∀k,v.ownBlock=some k->base<=k/\k<w.heap.size:=World.ownsRow.lt h
theorem Ye {w:World} {base:Nat} {v:Value} {ls:List L} (h:Own w base v ls):SlV w w.heap.size v ls:=by
 have F:=h;rcases h.2 with⟨D,J⟩ | ⟨g,cap,cur,D,N,M,E,_⟩
 ·have e:ls = []:=List.eq_nil_of_length_eq_zero J
  subst e;exact⟨none,0,D,Nat.le_refl _,.inl rfl⟩
 ·subst D
  exact⟨_,cap,rfl,E,Rd.of_own (n:=ls.length) (cap:=cap) F⟩
section
variable {w:World} {ops:Array Oper} {rest:List Oper} {o:Oper} {a:Act} {Q:Exit->Act->World->Prop}
theorem Wz (N : o.guard = none) (s x : Operand) (ho : o.op=.call { callee := .builtin .append, args := #[s, x], argTypes := #[71, 71] })
    (base:Nat) (v:Value) (K:List Pr) (hs:a.eval s=v) (E:OwnP w base v K) (p:Pr) (hx:a.eval x=.slice (some ⟨w.heap.size,0,none⟩) 1 1)
    (hl:K.length+1<=1000000) (M:base<=w.heap.size)
    (h:∀v' w',OwnP w' base v' (K++[p])->Below base w w'->wpList Tryz.prog ops Q rest (a.put o.dst v') w'):wpList Tryz.prog ops Q (o :: rest) a (w.alloc (.cells #[.string ⟨p.1.toArray⟩,.string ⟨p.2.toArray⟩] 128)):=by
  obtain⟨i0,bx,Z,O,aw⟩:=info_parts MG;have D:Below w.heap.size w (w.alloc (.cells #[.string ⟨p.1.toArray⟩,.string ⟨p.2.toArray⟩] 128)):=Ah.alloc Ag _;obtain ⟨v', w', F, h2, h3, _, _⟩ := run_append_own_at (P := Tryz.prog) (w.alloc (.cells #[.string ⟨p.1.toArray⟩, .string ⟨p.2.toArray⟩] 128)) base 71 o.type 128 i0 _ 2 32 Tryz.underlying71 bx Z O aw rfl (by omega) v K.length (prs K) (E.below D) ⟨w.heap.size, 0, none⟩ 1 1 (prs [p]) rfl (fun j u hu => by
      rw[addr_add,Nat.zero_add,(Blk.new w 128 _).cell j];have e:prs [p]=#[Value.string ⟨p.1.toArray⟩,.string ⟨p.2.toArray⟩].toList:=rfl;rw[e] at hu
      simpa using hu) (Tf _) (by unfold maxLen;omega) (by omega) (Nat.le_trans M D.size)
  refine wpList_plain N fun J hJ=>?_
  unfold Oper.wp execOp;simp only[ho,resolve,invoke,builtin,Sem.run_bind,Sem.run_pure,Result.andThen_ok,List.map_toArray,List.map_cons,List.map_nil,hs,hx,F];refine hJ _ _ (h v' w' (by rw[OwnP,List.length_append,KE];exact h2) ?_);exact(D.mono M).grown h3 (Nat.le_trans M D.size) (fun k hk=>(E.lt k hk).1)
end
theorem QO (ls:List L) (A:Option Addr) (c B:Nat) (w:World) (hl:ls.length<=1000000) (hc:ls.length<=c) (hr:Rd w B A (strs ls)) (hs:∀i,i<ls.length->(pl ls i).length<=1000000000) :
  Calls Tryz.prog 79 #[.slice A ls.length c] w fun e w'=>e=.returned (.bool (BJ ls))/\AW w w':=by
 have HR:=I hr;clear hr;have IS:=I (fun(i:Nat) (h:i<ls.length) w1=>DM (pl ls i) w1 (hs i h));have C1:=I (fun w1 h=>PD ls A c B w1 hl hc h);obtain⟨n,en⟩:=Ak (ls.length);rw[<-en] at hl hc C1⊢;have EN:=I en;clear en hs;have HD:=I (AW.refl w);go_enter Tryz.func79,Tryz.ntmps79
 go_wp2
 go_loopw [7] (fun Z wr=>∃i:Nat,i<=n/\Z=.int .i64 (i:Int)/\(ls.take i).all isL=true/\AW w wr) (fun Z _=>n - (intOf Z).toNat)
 case atStart=>exact⟨0,Nat.zero_le _,rfl,by simp,HD.o⟩
 case round=>
  obtain⟨i,hi,rfl,hn,F⟩:=hrel;have HN:=I hn;clear hn;have O:Rd wr B A (strs ls):=by obtain⟨m,rfl⟩:=F;exact HR.o.drewN m
  have N:=I F;clear F
  by_cases hlt:i<n
  ·have e1:(i:Int)<(n:Int):=by omega
   have e2:(0:Int)<=(i:Int):=by omega
   have D:i<ls.length:=by rw[<-EN.o];exact hlt
   have c1:=IS.o i D wr;have J:=all_succ (p:=isL) D;rw[HN.o,Bool.true_and,<-Ct D] at J;obtain⟨b,o,rfl,_,h1⟩:=CQ O D;cases hx:isL (pl ls i) with
   |false=>
    rw[hx] at c1;have E:=I (show BJ ls=false by
     rw[BJ,all_false D (by rw[<-Ct D];exact hx)];rfl)
    clear hx J D
    go_wp2_with (go_at_call 75;refine Aj c1 ?_;rintro w1 F;clear c1;have M:=I (N.o.trans F);clear F)
    go_ret;exact⟨by rw[E.o];rfl,M.o⟩
   |true=>
    rw[hx] at c1;have E:=I (J.trans hx);clear hx J D
    go_wp2_with (go_at_call 75;refine Aj c1 ?_;rintro w1 F;clear c1;have M:=I (N.o.trans F);clear F)
    go_roundw
    case rel=>exact⟨i+1,by omega,by go_num,E.o,M.o⟩
    case measure=>simp [intOf];omega
  ·have e1:¬(i:Int)<(n:Int):=by omega
   have E:=I (show BJ ls=decide ls.Nodup by
    rw[BJ,Dk (by have:=EN.o;omega) HN.o];rfl)
   have c1:=C1.o wr O
   go_wp2_with (go_at_call 120;refine Aj c1 ?_;rintro w1 rfl;clear c1)
   go_ret;exact⟨by rw[E.o];rfl,N.o⟩
theorem MH (K:List Pr) (R:List L) (A A2:Option Addr) (c c2 B:Nat) (w:World) (hl:K.length<=1000000) (hc:K.length<=c) (cc:R.length<=1000000) (hr:RdP w B A K) (bx:Rd w B A2 (strs R)) (hB:B<=w.heap.size) :
  Calls Tryz.prog 80 #[.slice A K.length c,.slice A2 R.length c2] w fun e w'=>e=.returned (.bool (CS K R))/\Below w.heap.size w w':=by
 obtain⟨N,eN⟩:=Ak (w.heap.size);rw[<-eN] at hB⊢;have cb:=I (show Below N w w from Below.refl _ _);have bz:=I eN;clear eN;have Z:=I (show ∀w1:World,Below N w w1->N<=w1.heap.size from fun w1 h=>by have:=h.size;have:=bz.o;omega);have HR:=I hr;clear hr;have ca:=I bx;clear bx;have C1:=I (fun x w1 (h:Rd w1 B A2 (strs R))=>Tr.BP R A2 c2 B x w1 (by omega) h);have C2:=I (fun w1 h bB=>Te K A c B w1 hl hc h bB);obtain⟨n,en⟩:=Ak (K.length);obtain⟨m,em⟩:=Ak (R.length);rw[<-en] at hl hc C2⊢;rw[<-em] at cc C1⊢;have EN:=I en;clear en em;go_enter Tryz.func80,Tryz.ntmps80
 go_wp2
 go_loopw [11] (fun iv wr=>∃i:Nat,i<=n/\iv=.int .i64 (i:Int)/\(K.take i).all (Db R)=true/\Below N w wr) (fun iv _=>n - (intOf iv).toNat)
 case atStart=>exact⟨0,Nat.zero_le _,rfl,by simp,cb.o⟩
 case round=>
  obtain⟨i,hi,rfl,hn,hb⟩:=hrel;have HN:=I hn;clear hn;have O:=I hb;clear hb;have aw:=HR.o.below (O.o.mono hB)
  by_cases hlt:i<n
  ·have e1:(i:Int)<(n:Int):=by omega
   have e2:(0:Int)<=(i:Int):=by omega
   have M:i<K.length:=by rw[<-EN.o];exact hlt
   have J:=all_succ (p:=Db R) M;have D:=all_false (p:=Db R) M;rw[HN.o,Bool.true_and,<-Ge M] at J;rw[<-Ge M] at D;obtain⟨b,o,rfl,_,h1,h2⟩:=MF aw M;obtain⟨x,ex⟩:=Ak (kl K i);rw[<-ex] at J D h1 h2;clear ex M;have HK:=I (show Blk (wr.alloc (.cells #[.string ⟨x.1.toArray⟩,.string ⟨x.2.toArray⟩] 128)).drew wr.heap.size 128 #[.string ⟨x.1.toArray⟩,.string ⟨x.2.toArray⟩] from(Blk.new wr 128 _).drewN 1);have H:=I (show Below N w (wr.alloc (.cells #[.string ⟨x.1.toArray⟩,.string ⟨x.2.toArray⟩] 128)) from O.o.alloc (Z.o _ O.o) _);have F:=I (ca.o.below (H.o.mono hB));obtain⟨W,eW⟩:=Ak (wr.alloc (.cells #[.string ⟨x.1.toArray⟩,.string ⟨x.2.toArray⟩] 128))
   go_wp2
   rw[<-eW] at HK H F⊢;clear eW;have k0:W.cell? ⟨wr.heap.size,0,none⟩=some (.string ⟨x.1.toArray⟩):=HK.o.cell 0;have k1:W.cell? ⟨wr.heap.size,1,none⟩=some (.string ⟨x.2.toArray⟩):=HK.o.cell 1
   go_quiet (fail)
   by_cases q1:x.1=x.2
   ·have t1:(x.1==x.2)=true:=by simpa using q1
    have E:=I (show CS K R=false by
     rw[CS,D (by rw[Db,decide_eq_false (fun h=>h q1)];rfl)];rfl)
    clear q1 J D
    go_wp2_with fail
    go_ret;exact⟨by rw[E.o];rfl,below_drewN H.o _⟩
   ·have t1:(x.1==x.2)=false:=by simpa using q1
    by_cases q2:x.1∈R
    ·have c1:=fun k=>C1.o x.1 (W.drewN k) (F.o.drewN k)
     rw[decide_eq_true q2] at c1
     by_cases q3:x.2∈R
     ·have c3:=fun k=>C1.o x.2 (W.drewN k) (F.o.drewN k)
      rw[decide_eq_true q3] at c3;have E:=I (show((K.take (i+1)).all (Db R)=true) by
       rw[J,Db,decide_eq_true q1,decide_eq_true q2,decide_eq_true q3];rfl)
      clear q1 q2 q3 J D
      go_wp2_with (first
       |(go_at_call 41;with_reducible refine Aj (c1 _) ?_;rintro w1 rfl;clear c1)
       |(go_at_call 41;with_reducible refine Aj (c3 _) ?_;rintro w1 rfl;clear c3))
      go_roundw
      case rel=>exact⟨i+1,by omega,by go_num,E.o,below_drewN H.o _⟩
      case measure=>simp [intOf];omega
     ·have c3:=fun k=>C1.o x.2 (W.drewN k) (F.o.drewN k)
      rw[decide_eq_false q3] at c3;have E:=I (show CS K R=false by
       rw[CS,D (by rw[Db,decide_eq_false q3];simp)];rfl)
      clear q1 q2 q3 J D
      go_wp2_with (first
       |(go_at_call 41;with_reducible refine Aj (c1 _) ?_;rintro w1 rfl;clear c1)
       |(go_at_call 41;with_reducible refine Aj (c3 _) ?_;rintro w1 rfl;clear c3))
      go_ret;exact⟨by rw[E.o];rfl,below_drewN H.o _⟩
    ·have c1:=fun k=>C1.o x.1 (W.drewN k) (F.o.drewN k)
     rw[decide_eq_false q2] at c1;have E:=I (show CS K R=false by
      rw[CS,D (by rw[Db,decide_eq_false q2];simp)];rfl)
     clear q1 q2 J D
     go_wp2_with (go_at_call 41;with_reducible refine Aj (c1 _) ?_;rintro w1 rfl;clear c1)
     go_ret;exact⟨by rw[E.o];rfl,below_drewN H.o _⟩
  ·have e1:¬(i:Int)<(n:Int):=by omega
   have E:=I (show CS K R=decide K.Nodup by
    rw[CS,Dk (by have:=EN.o;omega) HN.o];rfl)
   have c1:=C2.o wr aw (Nat.le_trans hB (Z.o _ O.o))
   go_wp2_with (go_at_call 121;refine Aj c1 ?_;rintro w1 hb;clear c1;replace O:=I (O.o.trans (hb.mono (Z.o _ O.o)));clear hb)
   go_ret;exact⟨by rw[E.o];rfl,O.o⟩
theorem Zz (p:Pa) (R:List L) (u:Value) (A2:Option Addr) (c2 B:Nat) (w:World) (hl:p.v.length<=1000000) (aw:R.length<=1000000) (hr:SlV w B u p.v) (Z:Rd w B A2 (strs R)) (hB:B<=w.heap.size) :
  Calls Tryz.prog 122 #[.agg #[.string ⟨p.f.toArray⟩,.string ⟨p.t.toArray⟩,u],.slice A2 R.length c2] w fun e w'=>e=.returned (.bool (viaB R p))/\Below w.heap.size w w':=by
 obtain⟨A,c,rfl,hc,hr⟩:=hr;have F:=I ((Below.refl w.heap.size w).alloc Ag (.cells #[.string ⟨p.f.toArray⟩,.string ⟨p.t.toArray⟩,.slice A p.v.length c] 186));have O:=I (Blk.new w 186 #[.string ⟨p.f.toArray⟩,.string ⟨p.t.toArray⟩,.slice A p.v.length c]);have HR:=I (hr.below (F.o.mono hB));clear hr;have N:=I (Z.below (F.o.mono hB));clear Z;have C1:=I (fun x w1 (h:Rd w1 B A2 (strs R))=>Tr.BP R A2 c2 B x w1 (by omega) h);have C2:=I (fun w1 h=>PD p.v A c B w1 hl hc h);obtain⟨n,en⟩:=Ak (p.v.length);obtain⟨m,em⟩:=Ak (R.length);rw[<-en] at hl hc C2 F O HR N⊢;rw[<-em] at aw C1⊢;have EN:=I en;clear en em
 by_cases h4:n<=4
 ·have g4:decide (4<(n:Int))=false:=by simp;omega
  have H4:=I h4;go_enter Tryz.func122,Tryz.ntmps122
  go_wp2
  obtain⟨W,eW⟩:=Ak (w.alloc (.cells #[.string ⟨p.f.toArray⟩,.string ⟨p.t.toArray⟩,.slice A n c] 186));rw[<-eW] at F O HR N⊢;clear eW;have k0:=O.c0;have k1:=O.c1;have k2:=O.c2
  go_loop [14] (fun iv=>∃i:Nat,i<=n/\iv=.int .i64 (i:Int)/\(p.v.take i).all (onB R p)=true) (fun iv=>n - (intOf iv).toNat)
  case atStart=>exact⟨0,Nat.zero_le _,rfl,by simp⟩
  case round=>
   obtain⟨i,hi,rfl,hn⟩:=hrel;have HN:=I hn;clear hn
   by_cases hlt:i<n
   ·have e1:(i:Int)<(n:Int):=by omega
    have e2:(0:Int)<=(i:Int):=by omega
    have M:i<p.v.length:=by rw[<-EN.o];exact hlt
    have J:=all_succ (p:=onB R p) M;have D:=all_false (p:=onB R p) M;rw[HN.o,Bool.true_and,<-Ct M] at J;rw[<-Ct M] at D;obtain⟨b,o,rfl,_,h1⟩:=CQ HR.o M;obtain⟨x,ex⟩:=Ak (pl p.v i);rw[<-ex] at J D h1;clear ex M
    by_cases q1:x=p.f
    ·have t1:(x==p.f)=true:=by simpa using q1
     have E:=I (show viaB R p=false by
      rw[viaB,D (by rw[onB,decide_eq_false (fun h=>h q1)];rfl)];simp)
     clear q1 J D
     go_wp2_with fail
     go_ret;exact⟨by rw[E.o];rfl,F.o⟩
    ·have t1:(x==p.f)=false:=by simpa using q1
     by_cases q2:x=p.t
     ·have t2:(x==p.t)=true:=by simpa using q2
      have E:=I (show viaB R p=false by
       rw[viaB,D (by rw[onB,decide_eq_false (p:=x≠p.t) (fun h=>h q2)];simp)];simp)
      clear q1 q2 J D
      go_wp2_with fail
      go_ret;exact⟨by rw[E.o];rfl,F.o⟩
     ·have t2:(x==p.t)=false:=by simpa using q2
      have c3:=C1.o x W N.o
      by_cases q3:x∈R
      ·rw[decide_eq_true q3] at c3
       have E:=I (show((p.v.take (i+1)).all (onB R p)=true) by
        rw[J,onB,decide_eq_true q1,decide_eq_true q2,decide_eq_true q3];rfl)
       clear q1 q2 q3 J D
       go_wp2_with (go_at_call 41;refine Aj c3 ?_;rintro w1 rfl;clear c3)
       go_round
       case rel=>exact⟨i+1,by omega,by go_num,E.o⟩
       case measure=>simp [intOf];omega
      ·rw[decide_eq_false q3] at c3
       have E:=I (show viaB R p=false by
        rw[viaB,D (by rw[onB,decide_eq_false q3];simp)];simp)
       clear q1 q2 q3 J D
       go_wp2_with (go_at_call 41;refine Aj c3 ?_;rintro w1 rfl;clear c3)
       go_ret;exact⟨by rw[E.o];rfl,F.o⟩
   ·have e1:¬(i:Int)<(n:Int):=by omega
    have E:=I (show viaB R p=decide p.v.Nodup by
     rw[viaB,Dk (by have:=EN.o;omega) HN.o,decide_eq_true (by rw[<-EN.o];exact H4.o)];rfl)
    have c1:=C2.o W HR.o
    go_wp2_with (go_at_call 120;refine Aj c1 ?_;rintro w1 rfl;clear c1)
    go_ret;exact⟨by rw[E.o];rfl,F.o⟩
 ·have g4:decide (4<(n:Int))=true:=by simp;omega
  have E:=I (show viaB R p=false by
   rw[viaB,decide_eq_false (by rw[<-EN.o];exact h4)];rfl)
  go_enter Tryz.func122,Tryz.ntmps122
  go_wp2
  go_ret;exact⟨by rw[E.o];rfl,F.o⟩
theorem Th {P:List Pa} {i:Nat} (h:i<P.length):Ee (P.take (i+1))=Ee (P.take i)++[((al P i).f,(al P i).t)]:=by
 rw[take_succ h,Kl h,Ee,List.map_append];rfl
theorem BK (P:List Pa):(Ee P).length=P.length:=by simp [Ee]
theorem Ti (P:List Pa) (R:List L) (A A2:Option Addr) (c c2 B:Nat) (w:World) (hl:P.length<=100000) (bz:R.length<=1000000) (hv:∀p∈P,p.v.length<=1000000) (hr:RdA w B A P) (cg:Rd w B A2 (strs R)) (hB:B<=w.heap.size) :
  Calls Tryz.prog 81 #[.slice A P.length c,.slice A2 R.length c2] w fun e w'=>e=.returned (.bool (Gk P R))/\Below w.heap.size w w':=by
 obtain⟨N,eN⟩:=Ak (w.heap.size);rw[<-eN] at hB⊢;have cw:=I (show Below N w w from Below.refl _ _);have cm:=I eN;clear eN;have J:=I (show ∀w1:World,Below N w w1->N<=w1.heap.size from fun w1 h=>by have:=h.size;have:=cm.o;omega);have HR:=I hr;clear hr;have cf:=I cg;clear cg;have C1:=I (fun(i:Nat) (hi:i<P.length) u w1 (h:SlV w1 B u (al P i).v) (h2:Rd w1 B A2 (strs R)) cn=>Zz (al P i) R u A2 c2 B w1 (hv _ (Ta hi)) bz h h2 cn);have C2:=I (fun A c w1 h1 h2 h3 h4=>MH (Ee P) R A A2 c c2 w1.heap.size w1 (by rw[BK];omega) h1 bz h2 h3 h4);rw[BK] at C2;obtain⟨n,en⟩:=Ak (P.length);obtain⟨m,em⟩:=Ak (R.length);rw[<-en] at hl C2⊢;rw[<-em] at bz C1 C2⊢;have EN:=I en;clear en em hv;go_enter Tryz.func81,Tryz.ntmps81
 go_wp2
 go_loopw [5,10] (fun ev iv wr=>∃i:Nat,i<=n/\iv=.int .i64 (i:Int)/\(P.take i).all (viaB R)=true/\OwnP wr N ev (Ee (P.take i))/\Below N w wr) (fun _ iv _=>n - (intOf iv).toNat)
 case atStart=>exact⟨0,Nat.zero_le _,rfl,by simp,OwnP.nil _ _,cw.o⟩
 case round=>
  obtain⟨i,hi,rfl,hn,ho,M⟩:=hrel;have HN:=I hn;clear hn;have HB:=I M;clear M;have HO:=I ho;clear ho;have cq:=HR.o.below (HB.o.mono hB)
  by_cases hlt:i<n
  ·have e1:(i:Int)<(n:Int):=by omega
   have e2:(0:Int)<=(i:Int):=by omega
   have D:i<P.length:=by rw[<-EN.o];exact hlt
   have O:=all_succ (p:=viaB R) D;have Z:=all_false (p:=viaB R) D;have aw:=Th D;have bx:=BK (P.take i);rw[HN.o,Bool.true_and,<-Kl D] at O;rw[<-Kl D] at Z;have hlen:(P.take i).length=i:=by simp;omega
   rw[hlen] at bx;have c1:=C1.o i D;obtain⟨b,o,rfl,_,h1,h2,u,h3,h4⟩:=PA cq D;obtain⟨x,ex⟩:=Ak (al P i);obtain⟨F,eF⟩:=Ak (Ee (P.take i));rw[<-ex] at O Z h1 h2 h4 aw c1;rw[<-eF] at aw bx HO;have cj:=I aw;have cr:=I bx;clear aw bx;clear ex eF D hlen;have ct:=h4;obtain⟨A5,c5,eu,_⟩:=ct;subst eu;obtain⟨k5,ca⟩:∃k,k=x.v.length:=⟨_,rfl⟩;rw[<-ca] at h3 h4;have HK:=I (Blk.new wr 186 #[.string ⟨x.f.toArray⟩,.string ⟨x.t.toArray⟩,.slice A5 k5 c5]);have HA:=I ((Below.refl wr.heap.size wr).alloc Ag (.cells #[.string ⟨x.f.toArray⟩,.string ⟨x.t.toArray⟩,.slice A5 k5 c5] 186));have H:=I (HB.o.trans (HA.o.mono (J.o _ HB.o)));have c2:=c1 _ _ (h4.below (HA.o.mono (Nat.le_trans hB (J.o _ HB.o)))) (cf.o.below (H.o.mono hB)) (Nat.le_trans hB (J.o _ H.o));clear c1 h4 ca;cases hx:viaB R x with
   |false=>
    rw[hx] at c2;have E:=I (show Gk P R=false by rw[Gk,Z hx];rfl);clear hx O Z
    go_wp2_with (go_at_call 122;refine Aj c2 ?_;rintro w1 M;clear c2;have H1:=I (H.o.trans (M.mono (J.o _ H.o)));clear M)
    go_ret;exact⟨by rw[E.o];rfl,H1.o⟩
   |true=>
    rw[hx] at c2;have E:=I (O.trans hx);clear hx O Z
    go_wp2_with (first
     |(go_at_call 122;refine Aj c2 ?_;rintro w1 M;clear c2;have H1:=I (H.o.trans (M.mono (J.o _ H.o)));have cb:=I (HK.o.below M);have cu:=I ((HO.o.below HA.o).below M);clear M HO HK;have k0:=cb.o.cell 0;have k1:=cb.o.cell 1;simp only[List.getElem?_toArray,List.getElem?_cons_zero,List.getElem?_cons_succ] at k0 k1)
     |(at_builtin;refine Wz rfl (.tmp 18) (.tmp 24) rfl N _ F rfl cu.o (x.f,x.t) rfl (by have:=cr.o;omega) (J.o _ H1.o) ?_;intro v2 w2 cc cd;have ck:=I cc;have H2:=I (H1.o.trans cd);clear cc cd))
    go_roundw
    case rel=>exact⟨i+1,by omega,by go_num,E.o,by rw[cj.o];exact ck.o,H2.o⟩
    case measure=>simp [intOf];omega
  ·have e1:¬(i:Int)<(n:Int):=by omega
   have bB:P.length<=i:=by have:=EN.o;omega
   have E:=I (show Gk P R=CS (Ee P) R by
    rw[Gk,Dk bB HN.o];rfl)
   rw[List.take_of_length_le bB] at HO;obtain⟨A3,c3,rfl,q1,q2⟩:=HO.o.slice;rw[BK,<-EN.o] at q1;have c1:=C2.o A3 c3 wr q1 q2 ((cf.o.below (HB.o.mono hB)).more (Nat.le_trans hB (J.o _ HB.o))) Ag;have cp:(Ee P).length=n:=by rw[BK,<-EN.o]
   rw[cp];clear q1 q2 bB
   go_wp2_with (go_at_call 80;refine Aj c1 ?_;rintro w1 M;clear c1;replace HB:=I (HB.o.trans (M.mono (J.o _ HB.o)));clear M)
   go_ret;exact⟨by rw[E.o];rfl,HB.o⟩
structure Sm (T:Tp):Prop where
 r:T.R.length<=3000
 k:T.K.length<=3000
 p:T.P.length<=3000
 rt:∀x∈T.R,x.length<=3000
 v:∀q∈T.P,q.v.length<=3000
 vt:∀q∈T.P,∀x∈q.v,x.length<=3000
theorem ist_a {T:Tp} (h:¬1<=T.R.length):isT T=false:=by rw[isT,decide_eq_false h];rfl
theorem ist_b {T:Tp} (h:¬T.R.length<=6):isT T=false:=by rw[isT,decide_eq_false h];simp
theorem bR {T:Tp} (h:¬T.K.length<=20):isT T=false:=by rw[isT,decide_eq_false h];simp
theorem bS {T:Tp} (h:¬T.P.length<=8):isT T=false:=by rw[isT,decide_eq_false h];simp
theorem ist_e {T:Tp} (h:BJ T.R=false):isT T=false:=by rw[isT,h];simp
theorem ZA {T:Tp} (h:CS T.K T.R=false):isT T=false:=by rw[isT,h];simp
theorem ist_g {T:Tp} (D:1<=T.R.length) (F:T.R.length<=6) (E:T.K.length<=20) (J:T.P.length<=8) (N:BJ T.R=true) (M:CS T.K T.R=true):isT T=Gk T.P T.R:=by
 rw[isT,decide_eq_true D,decide_eq_true F,decide_eq_true E,decide_eq_true J,N,M];rfl
theorem Tj (T:Tp) (v:Value) (B:Nat) (w:World) (hs:Sm T) (hv:TpV w B v T) (hB:B<=w.heap.size) :
  Calls Tryz.prog 40 #[v] w fun e w'=>e=.returned (.bool (isT T))/\Below w.heap.size w w':=by
 obtain⟨v1,v2,v3,rfl,⟨A1,c1,rfl,bx,r1⟩,⟨A2,c2,rfl,aw,r2⟩,⟨A3,c3,rfl,bz,r3⟩⟩:=hv;have H:=I ((Below.refl w.heap.size w).alloc Ag (.cells #[.slice A1 T.R.length c1,.slice A2 T.K.length c2,.slice A3 T.P.length c3] 74));have F:=I (Blk.new w 74 #[.slice A1 T.R.length c1,.slice A2 T.K.length c2,.slice A3 T.P.length c3]);obtain⟨W,eW⟩:=Ak (w.alloc (.cells #[.slice A1 T.R.length c1,.slice A2 T.K.length c2,.slice A3 T.P.length c3] 74));rw[<-eW] at H F;have D:=H.o.mono hB;have N:=I (QO T.R A1 c1 B W (by have:=hs.r;omega) bx (r1.below D) (fun i hi=>by have:=hs.rt _ (Dc hi);omega));have O:=I (fun w1 (hk:Below B W w1) Z=>MH T.K T.R A2 A1 c2 c1 B w1 (by have:=hs.k;omega) aw (by have:=hs.r;omega) ((r2.below D).below hk) ((r1.below D).below hk) Z);have C3:=I (fun w1 (hk:Below B W w1) Z=>Ti T.P T.R A3 A1 c3 c1 B w1 (by have:=hs.p;omega) (by have:=hs.r;omega) (fun q hq=>by have:=hs.v q hq;omega) ((r3.below D).below hk) ((r1.below D).below hk) Z);have M:=I (show B<=W.heap.size from Nat.le_trans hB H.o.size);clear D r1 r2 r3 hB bx aw bz;have A5:=I (@ist_a T);have B5:=I (@ist_b T);have C5:=I (@bR T);have D5:=I (@bS T);have E5:=I (@ist_e T);have F5:=I (@ZA T);have G5:=I (@ist_g T);have s1:=hs.r;have s2:=hs.k;have s3:=hs.p;obtain⟨n,en⟩:=Ak (T.R.length);obtain⟨m,em⟩:=Ak (T.K.length);obtain⟨k,ek⟩:=Ak (T.P.length);rw[<-en,<-em,<-ek] at eW F;rw[<-en] at N O C3 s1 A5 B5 G5;rw[<-em] at O s2 C5 G5;rw[<-ek] at C3 s3 D5 G5;rw[<-en,<-em,<-ek];clear en em ek hs;subst eW
 by_cases q1:1<=n
 ·have t1:decide ((n:Int)<1)=false:=by simp;omega
  by_cases q2:n<=6
  ·have t2:decide (6<(n:Int))=false:=by simp;omega
   by_cases q3:m<=20
   ·have t3:decide (20<(m:Int))=false:=by simp;omega
    by_cases q4:k<=8
    ·have t4:decide (8<(k:Int))=false:=by simp;omega
     cases q5:BJ T.R with
     |false=>
      have E:=I (E5.o q5);rw[q5] at N;have c4:=N.o;clear N O C3 q5;go_enter Tryz.func40,Tryz.ntmps40
      go_wp2_with (go_at_call 79;refine Aj c4 ?_;rintro w1 J;clear c4;have H1:=I (H.o.trans (J.below.mono H.o.size));clear J)
      go_ret;exact⟨by rw[E.o];rfl,H1.o⟩
     |true=>
      rw[q5] at N;have c4:=N.o;cases q6:CS T.K T.R with
      |false=>
       have E:=I (F5.o q6);rw[q6] at O;clear N C3 q5 q6;go_enter Tryz.func40,Tryz.ntmps40
       go_wp2_with (first
        |(go_at_call 79;refine Aj c4 ?_;rintro w1 J;clear c4;have H1:=I (H.o.trans (J.below.mono H.o.size));replace F:=I (F.o.below J.below);have k0:=F.o.cell 0;have k1:=F.o.cell 1;have k2:=F.o.cell 2;simp only[List.getElem?_toArray,List.getElem?_cons_zero,List.getElem?_cons_succ] at k0 k1 k2;have c5:=O.o w1 (J.below.mono M.o) (Nat.le_trans M.o J.below.size);clear J)
        |(go_at_call 80;refine Aj c5 ?_;rintro w2 D;clear c5;replace H1:=H1.t D;clear D))
       go_ret;exact⟨by rw[E.o];rfl,H1.o⟩
      |true=>
       have E:=I (G5.o q1 q2 q3 q4 q5 q6);rw[q6] at O;clear N q5 q6;go_enter Tryz.func40,Tryz.ntmps40
       go_wp2_with (first
        |(go_at_call 79;refine Aj c4 ?_;rintro w1 J;clear c4;have H1:=I (H.o.trans (J.below.mono H.o.size));replace F:=I (F.o.below J.below);have k0:=F.o.cell 0;have k1:=F.o.cell 1;have k2:=F.o.cell 2;simp only[List.getElem?_toArray,List.getElem?_cons_zero,List.getElem?_cons_succ] at k0 k1 k2;have c5:=O.o w1 (J.below.mono M.o) (Nat.le_trans M.o J.below.size);have HH:=I J.below;clear J)
        |(go_at_call 80;refine Aj c5 ?_;rintro w2 D;clear c5 k0 k1 k2;replace H1:=H1.t D;replace F:=I (F.o.below D);have k0:=F.o.cell 0;have k1:=F.o.cell 1;have k2:=F.o.cell 2;simp only[List.getElem?_toArray,List.getElem?_cons_zero,List.getElem?_cons_succ] at k0 k1 k2;replace HH:=HH.t D;have c6:=C3.o w2 (HH.o.mono M.o) (Nat.le_trans M.o HH.o.size);clear D)
        |(go_at_call 81;refine Aj c6 ?_;rintro w3 D;clear c6;replace H1:=H1.t D;clear D))
       go_ret;exact⟨by rw[E.o];rfl,H1.o⟩
    ·have t4:decide (8<(k:Int))=true:=by simp;omega
     have E:=I (D5.o q4);go_enter Tryz.func40,Tryz.ntmps40
     go_wp2
     go_ret;exact⟨by rw[E.o];rfl,H.o⟩
   ·have t3:decide (20<(m:Int))=true:=by simp;omega
    have E:=I (C5.o q3);go_enter Tryz.func40,Tryz.ntmps40
    go_wp2
    go_ret;exact⟨by rw[E.o];rfl,H.o⟩
  ·have t2:decide (6<(n:Int))=true:=by simp;omega
   have E:=I (B5.o q2);go_enter Tryz.func40,Tryz.ntmps40
   go_wp2
   go_ret;exact⟨by rw[E.o];rfl,H.o⟩
 ·have t1:decide ((n:Int)<1)=true:=by simp;omega
  have E:=I (A5.o q1);go_enter Tryz.func40,Tryz.ntmps40
  go_wp2
  go_ret;exact⟨by rw[E.o];rfl,H.o⟩
theorem QP (T:Tp) (v:Value) (B:Nat) (a b:L) (w:World) (hs:Sm T) (hv:TpV w B v T) (hB:B<=w.heap.size) :
  Calls Tryz.prog 107 #[v,.string ⟨a.toArray⟩,.string ⟨b.toArray⟩] w fun e w'=>e=.returned (.bool (MC T a b))/\Below w.heap.size w w':=by
 obtain⟨v1,v2,v3,rfl,⟨A1,c1,rfl,M,Z⟩,⟨A2,c2,rfl,F,O⟩,⟨A3,c3,rfl,J,r3⟩⟩:=hv;have D:=(Below.refl w.heap.size w).alloc Ag (.cells #[.slice A1 T.R.length c1,.slice A2 T.K.length c2,.slice A3 T.P.length c3] 74);have N:=GY T.K A2 c2 B (a,b) _ (by have:=hs.k;omega) (O.below (D.mono hB)) (Nat.le_trans hB D.size);have H:=I D;clear D Z O r3 M F J hB hs;rw[stp,st,st] at N;have E:=I (show MC T a b=decide ((a,b)∈T.K) from rfl);go_enter Tryz.func107,Tryz.ntmps107
 go_wp2_with (go_at_call 158;refine Aj N ?_;rintro w1 D;clear N;have H1:=H.t D;clear D)
 go_ret;exact⟨by rw[E.o];rfl,H1.o⟩
theorem ZB {a b:L} {p:Pa} (D:p.f=a) (E:p.t=b):isP a b p=true:=by rw[isP,decide_eq_true D,decide_eq_true E];rfl
theorem ZC {a b:L} {p:Pa} (D:p.f≠a):isP a b p=false:=by rw[isP,decide_eq_false D];rfl
theorem ZD {a b:L} {p:Pa} (D:p.t≠b):isP a b p=false:=by rw[isP,decide_eq_false D];simp
theorem Tl {T:Tp} {a b:L} {i:Nat} (hi:i<T.P.length) (h:isP a b (al T.P i)=true) (D:∀k,k<i->isP a b (al T.P k)=false):laidB T a b=true/\vL T a b=(al T.P i).v:=by
 have e:=Zw hi h D;exact⟨by rw[laidB,e];exact decide_eq_true hi,by rw[vL,e]⟩
theorem WA {T:Tp} {a b:L} (D:∀k,k<T.P.length->isP a b (al T.P k)=false):laidB T a b=false/\vL T a b = []:=by
 have e:=Tb D;refine⟨by rw[laidB,e];exact decide_eq_false (by omega),?_⟩;rw[vL,e,al];simp
theorem IT (T:Tp) (v:Value) (B:Nat) (a b:L) (w:World) (hs:Sm T) (hv:TpV w B v T) (hB:B<=w.heap.size) :
  Calls Tryz.prog 155 #[v,.string ⟨a.toArray⟩,.string ⟨b.toArray⟩] w fun e w'=>∃u,e=.returned (.tuple #[u,.bool (laidB T a b)])/\SlV w' B u (vL T a b)/\Below w.heap.size w w':=by
 obtain⟨v1,v2,v3,rfl,⟨A1,c1,rfl,bB,r1⟩,⟨A2,c2,rfl,bx,r2⟩,⟨A3,c3,rfl,ca,r3⟩⟩:=hv;obtain⟨N,eN⟩:=Ak (w.heap.size);have hb:=(Below.refl w.heap.size w).alloc Ag (.cells #[.slice A1 T.R.length c1,.slice A2 T.K.length c2,.slice A3 T.P.length c3] 74);have D:=I hb;clear hb;have HK:=I (Blk.new w 74 #[.slice A1 T.R.length c1,.slice A2 T.K.length c2,.slice A3 T.P.length c3]);have h3:=hs.p;obtain⟨n,en⟩:=Ak (T.P.length);rw[<-en] at h3 HK D;rw[<-eN] at D HK hB;have J:=I eN;clear eN;have M:=I (show ∀w1:World,Below N w w1->N<=w1.heap.size from fun w1 h=>by have:=h.size;have:=J.o;omega);have HR:=I r3;rw[<-en];have EN:=I en;clear r1 r2 r3 bB bx ca hs en;go_enter Tryz.func155,Tryz.ntmps155
 go_wp2
 obtain⟨W,eW⟩:=Ak (w.alloc (.cells #[.slice A1 T.R.length c1,.slice A2 T.K.length c2,.slice A3 n c3] 74));rw[<-eW] at D HK⊢;have cc:W.heap.size=N+1:=by rw[eW,J.o];simp
 clear eW;have cb:=I (show ∀w1:World,Below W.heap.size W w1->W.heap.size<=w1.heap.size from fun w1 h=>h.size)
 go_loopw [13] (fun iv wr=>∃i:Nat,i<=n/\iv=.int .i64 (i:Int)/\(∀k,k<i->isP a b (al T.P k)=false)/\Below W.heap.size W wr) (fun iv _=>n - (intOf iv).toNat)
 case atStart=>exact⟨0,Nat.zero_le _,rfl,fun k h=>absurd h (Nat.not_lt_zero k),Below.refl _ _⟩
 case round=>
  obtain⟨i,hi,rfl,hn,hb⟩:=hrel;have HN:=I hn;clear hn;have O:=I hb;clear hb;have HB:=I (D.o.trans (O.o.mono (M.o _ D.o)))
  by_cases hlt:i<n
  ·have e1:(i:Int)<(n:Int):=by omega
   have e2:(0:Int)<=(i:Int):=by omega
   have F:i<T.P.length:=by rw[<-EN.o];exact hlt
   obtain⟨b1,o,rfl,_,h1,h2,u,h3,Z⟩:=PA (HR.o.below (HB.o.mono hB)) F;obtain⟨x,ex⟩:=Ak (al T.P i);rw[<-ex] at h1 h2 Z;have EX:=I ex;clear ex;have bz:=Z;obtain⟨A5,c5,eu,_⟩:=bz;subst eu;obtain⟨k5,aw⟩:∃k,k=x.v.length:=⟨_,rfl⟩;rw[<-aw] at h3 Z;have H4:=I Z;clear Z aw;have H:=I ((Below.refl wr.heap.size wr).alloc Ag (.cells #[.string ⟨x.f.toArray⟩,.string ⟨x.t.toArray⟩,.slice A5 k5 c5] 186));have H1:=I (O.o.trans (H.o.mono O.o.size));have H2:=I (D.o.trans (H1.o.mono (M.o _ D.o)))
   by_cases q1:x.f=a
   ·have t1:(x.f==a)=true:=by simpa using q1
    by_cases q2:x.t=b
    ·have t2:(x.t==b)=true:=by simpa using q2
     have E:=I (Tl (T:=T) (a:=a) (b:=b) F (by rw[<-EX.o];exact ZB q1 q2) HN.o);rw[<-EX.o] at E;clear q1 q2 F
     go_wp2_with fail
     go_ret2
     exact⟨_,by rw[E.o.1];rfl,by rw[E.o.2];exact H4.o.below (H.o.mono (Nat.le_trans hB (M.o _ HB.o))),by rw[<-J.o];exact H2.o⟩
    ·have t2:(x.t==b)=false:=by simpa using q2
     have E:=I (ZD (a:=a) q2);rw[EX.o] at E;clear q1 q2 F
     go_wp2_with fail
     go_roundw
     case rel=>exact⟨i+1,by omega,by go_num,fun k hk=>by
      by_cases q:k=i
      ·rw[q];exact E.o
      ·exact HN.o k (by omega),H1.o⟩
     case measure=>simp [intOf];omega
   ·have t1:(x.f==a)=false:=by simpa using q1
    have E:=I (ZC (b:=b) q1);rw[EX.o] at E;clear q1 F
    go_wp2_with fail
    go_roundw
    case rel=>exact⟨i+1,by omega,by go_num,fun k hk=>by
     by_cases q:k=i
     ·rw[q];exact E.o
     ·exact HN.o k (by omega),H1.o⟩
    case measure=>simp [intOf];omega
  ·have e1:¬(i:Int)<(n:Int):=by omega
   have E:=I (WA (T:=T) (a:=a) (b:=b) fun k hk=>HN.o k (by have:=EN.o;omega))
   go_wp2
   go_ret2
   exact⟨_,by rw[E.o.1];rfl,by rw[E.o.2];exact⟨none,0,rfl,Nat.le_refl _,.inl rfl⟩,by rw[<-J.o];exact HB.o⟩
theorem Ls (n:Nat) (N:n<=1000000) (w:World) :
  ∃cs:Array Value,cs.size=n/\(Instr.makeSlice 70 (.int .i64 0) (.int .i64 (n:Int))).run Tryz.prog w=.ok (.slice (some ⟨w.heap.size,0,none⟩) 0 n) (w.alloc (.cells cs 9)):=by
 obtain⟨M,F,D,J,E⟩:=info_parts IV;have h:=run_make (P:=Tryz.prog) w 70 9 M _ Tryz.underlying70 F D .i64 .i64 0 (n:Int) (by omega) (by omega) (by rw[E];omega) (by omega);refine⟨_,?_,h⟩;rw[J,Int.toNat_natCast,Nat.mul_one,show(Value.string ⟨#[]⟩).cells=#[Value.string ⟨#[]⟩] from rfl];have e:=toList_madeCells_one (.string ⟨#[]⟩) n;have:=congrArg List.length e
 simpa using this
theorem WB (w:World) (cs:Array Value) (n:Nat) (h:cs.size=n) (D:n<=1000000):Own (w.alloc (.cells cs 9)) w.heap.size (.slice (some ⟨w.heap.size,0,none⟩) 0 n) []:=
 World.ownsRow_made w cs n Ag (by unfold maxLen;omega) (by omega)
theorem Yf {T:Tp} {a b:L} (h:laidB T a b=true):∃p∈T.P,vL T a b=p.v:=by
 rw[laidB,decide_eq_true_eq] at h;exact⟨_,Ta h,rfl⟩
theorem Le {T:Tp} {a b:L} (h:laidB T a b=true):Cw T a b = [(vL T a b).headD b]:=by rw[Cw,if_pos h]
theorem WC {T:Tp} {a b:L} (h:laidB T a b=false):Cw T a b=b :: (Bb a b).reverse:=by rw[Cw,if_neg (by simp [h])]
theorem head_take {V:List L} {b:L} (h:V.length≠0):V.take 1 = [V.headD b]:=by
 cases V with
 |nil=>simp at h
 |cons a t=>simp
theorem ZE {w:World} {B:Nat} {u:Value} {V:List L} (b:L) (h:SlV w B u V) (J:V.length≠0):∃g o c,u=.slice (some ⟨g,o,none⟩) V.length c/\1<=c/\SlV w B (.slice (some ⟨g,o,none⟩) 1 c) [V.headD b]:=by
 obtain⟨A,c,rfl,N,D⟩:=h;have F:=Lr (i:=1) D (by omega);rw[head_take (b:=b) J] at F;rcases D with D | ⟨g,o,rfl,M,_⟩
 ·have E:=congrArg List.length D
  rw[Df] at E;exact absurd E J
 ·exact⟨g,o,c,rfl,by omega,_,_,rfl,by simp;omega,F⟩
theorem Tm (T:Tp) (v:Value) (B:Nat) (a b:L) (w:World) (hs:Sm T) (hv:TpV w B v T) (hB:B<=w.heap.size) (M:laidB T a b=true) :
  Calls Tryz.prog 106 #[v,.string ⟨a.toArray⟩,.string ⟨b.toArray⟩] w fun e w'=>∃u,e=.returned u/\SlV w' w'.heap.size u (Cw T a b)/\Below w.heap.size w w':=by
 have bz:=hv;obtain⟨v1,v2,v3,rfl,⟨A1,c1,rfl,Z,r1⟩,⟨A2,c2,rfl,aw,r2⟩,⟨A3,c3,rfl,bx,r3⟩⟩:=bz;have D:=(Below.refl w.heap.size w).alloc Ag (.cells #[.slice A1 T.R.length c1,.slice A2 T.K.length c2,.slice A3 T.P.length c3] 74);have c1:=IT T _ B a b _ hs (hv.below (D.mono hB)) (Nat.le_trans hB D.size);rw[M] at c1;have F:=I D;clear D;rw[Le M];obtain⟨q,hq,e⟩:=Yf M;have N:=hs.v q hq;rw[<-e] at N;obtain⟨V,eV⟩:=Ak (vL T a b);rw[<-eV] at c1 N⊢;have O:=I (show B<=w.heap.size from hB);obtain⟨n,en⟩:=Ak (V.length);rw[<-en] at N;have EN:=I en;clear r1 r2 r3 Z aw bx hs M hq e eV hv hB
 by_cases h0:n=0
 ·have E:=I (show V.headD b=b by
   have:V = []:=List.eq_nil_of_length_eq_zero (by rw[<-EN.o];exact h0);rw[this];rfl)
  rw[E.o];have t0:((n:Int)==0)=true:=by simp;omega
  clear h0;go_enter Tryz.func106,Tryz.ntmps106
  go_wp2_with (go_at_call 155;refine Calls.mono c1 ?_;rintro e w1 ⟨u,rfl,⟨A5,c5,rfl,_,J⟩,D⟩;clear c1;replace F:=F.t D;clear D J;rw[<-en];clear en)
  go_ret;exact⟨_,rfl,Ye (YW w1 w1.heap.size b Ag),F.o.alloc F.o.size _⟩
 ·have t0:((n:Int)==0)=false:=by simp;omega
  have HH:=I (fun w1 u (h:SlV w1 B u V)=>ZE b h (by rw[<-EN.o];exact h0));clear h0;go_enter Tryz.func106,Tryz.ntmps106
  go_wp2_with (go_at_call 155;refine Calls.mono c1 ?_;rintro e w1 ⟨u,rfl,J,D⟩;clear c1;obtain⟨g,o,c5,rfl,ca,r6⟩:=HH.o w1 u J;clear J;rw[<-en];have HR:=I (r6.more (Nat.le_trans O.o (Nat.le_trans F.o.size D.size)));replace F:=F.t D;clear D r6 en;have bB:(1:Int)<=(c5:Int):=(by omega))
  go_ret;exact⟨_,rfl,HR.o,F.o⟩
theorem QQ (T:Tp) (v:Value) (B:Nat) (a b:L) (w:World) (hs:Sm T) (hv:TpV w B v T) (hB:B<=w.heap.size) (hx:laidB T a b=false) (ha:a.length<=1000000000) (D:b.length<=1000000000) :
  Calls Tryz.prog 106 #[v,.string ⟨a.toArray⟩,.string ⟨b.toArray⟩] w fun e w'=>∃u,e=.returned u/\SlV w' w'.heap.size u (Cw T a b)/\Below w.heap.size w w':=by
 have bB:=hv;obtain⟨v1,v2,v3,rfl,⟨A1,c1,rfl,aw,r1⟩,⟨A2,c2,rfl,bx,r2⟩,⟨A3,c3,rfl,bz,r3⟩⟩:=bB;have C2:=I (fun w1=>Gq a b w1 ha D);have HL:=I (Eo a b);have D:=(Below.refl w.heap.size w).alloc Ag (.cells #[.slice A1 T.R.length c1,.slice A2 T.K.length c2,.slice A3 T.P.length c3] 74);have c1:=IT T _ B a b _ hs (hv.below (D.mono hB)) (Nat.le_trans hB D.size);rw[hx] at c1;have F:=I D;clear D;rw[WC hx];have E:=I (show(Bb a b++[b]).reverse=b :: (Bb a b).reverse by simp);obtain⟨M,eM⟩:=Ak (Bb a b);rw[<-eM] at C2 HL E⊢;clear r1 r2 r3 aw bx bz hs hx hv eM;go_enter Tryz.func106,Tryz.ntmps106
 go_wp2_with (first
  |(go_at_call 155;refine Calls.mono c1 ?_;rintro e w1 ⟨u,rfl,⟨A5,c5,rfl,_,r5⟩,D⟩;clear c1;replace F:=F.t D;clear D r5)
  |(go_at_call 156;refine Calls.mono (C2.o w1) ?_;rintro e w2 ⟨u2,rfl,O,D⟩;have HO:=I (O.from_ F.o.size);replace F:=F.t D;clear D O)
  |(at_builtin;refine Gp rfl (.tmp 27) (.tmp 29) rfl w.heap.size _ M rfl HO.o b rfl (by have:=HL.o;omega) F.o.size ?_;intro v4 w4 Z J;have c4:=Jr v4 _ w4 w.heap.size Z (F.o.trans J).size (by have:=HL.o;simp;omega);have H4:=I (F.o.trans J);clear Z J)
  |(go_at_call 157;refine Aj c4 ?_;rintro w5 ⟨O,D⟩;clear c4;have N:=I O;have H5:=I (H4.o.trans D);clear O D))
 go_ret;exact⟨_,rfl,Ye (by rw[E.o] at N;exact N.o),H5.o⟩
theorem Tn (T:Tp) (v:Value) (B:Nat) (a b:L) (w:World) (hs:Sm T) (D:TpV w B v T) (hB:B<=w.heap.size) (E:a.length<=1000000000) (F:b.length<=1000000000) :
  Calls Tryz.prog 106 #[v,.string ⟨a.toArray⟩,.string ⟨b.toArray⟩] w fun e w'=>∃u,e=.returned u/\SlV w' w'.heap.size u (Cw T a b)/\Below w.heap.size w w':=by
 cases hx:laidB T a b with
 |true=>exact Tm T v B a b w hs D hB hx
 |false=>exact QQ T v B a b w hs D hB hx E F
theorem ZF {S:List L} {p:L->Bool} {i:Nat} (hi:i<S.length) (h:p (pl S i)=true) (D:∀k,k<i->p (pl S k)=false):S.find? p=some (pl S i):=by
 rw[List.find?_eq_some_iff_getElem];refine⟨h,i,hi,(Ct hi).symm,fun j E=>?_⟩;have:=D j E;rw[Ct (by omega)] at this;simp [this]
theorem To {S:List L} {p:L->Bool} (D:∀k,k<S.length->p (pl S k)=false):S.find? p=none:=by
 rw[List.find?_eq_none];intro x E;obtain⟨i,hi,rfl⟩:=mem_pl E;simp [D i hi]
theorem Lt {a b x:L} {n:Nat} (F:a.length<=n) (E:b.length<=n) (h:x∈Bb a b):x.length<=n:=by
 rw[Bb] at h
 split at h
 ·simp at h
 ·have J:=List.mem_of_mem_drop ((List.dropLast_sublist _).subset h)
  rcases Pj J with D | D
  ·exact Nat.le_trans (KX D) F
  ·exact Nat.le_trans (KX D) E
theorem JF {T:Tp} {a b x:L} (hs:Sm T) (E:a.length<=1000000) (D:b.length<=1000000) (h:x∈Cw T a b):x.length<=1000000:=by
 rw[Cw] at h
 split at h
 ·rename_i q
  obtain⟨p,hp,e⟩:=Yf q;rw[List.mem_singleton] at h;rw[h,e];cases hv:p.v with
  |nil=>exact D
  |cons c t=>have:=hs.vt p hp c (by rw[hv];exact List.mem_cons_self);simp only[List.headD_cons];omega
 ·rcases List.mem_cons.1 h with h | h
  ·rw[h];exact D
  ·exact Lt E D (List.mem_reverse.1 h)
theorem Oi (T:Tp) (a b:L):(Cw T a b).length<=10:=by
 rw[Cw]
 split
 ·simp
 ·have:=Eo a b;simp;omega
theorem Tq (T:Tp) (a:L):nxS T a a = []/\nxB T a a=false:=by rw[nxS,nxB,MD,if_pos rfl];exact⟨rfl,rfl⟩
theorem ZG {T:Tp} {a b:L} {i:Nat} (D:a≠b) (hi:i<(Cw T a b).length) (h:MC T a (pl (Cw T a b) i)=true) (E:∀k,k<i->MC T a (pl (Cw T a b) k)=false):nxS T a b=pl (Cw T a b) i/\nxB T a b=true:=by
 rw[nxS,nxB,MD,if_neg D,ZF hi h E];exact⟨rfl,rfl⟩
theorem Ts {T:Tp} {a b:L} (D:a≠b) (E:∀k,k<(Cw T a b).length->MC T a (pl (Cw T a b) k)=false):nxS T a b = []/\nxB T a b=false:=by
 rw[nxS,nxB,MD,if_neg D,To E];exact⟨rfl,rfl⟩
theorem WD (T:Tp) (v:Value) (B:Nat) (a b:L) (w:World) (hs:Sm T) (hv:TpV w B v T) (hB:B<=w.heap.size) (ha:a.length<=1000000) (D:b.length<=1000000) :
  Calls Tryz.prog 64 #[v,.string ⟨a.toArray⟩,.string ⟨b.toArray⟩] w fun e w'=>e=.returned (.tuple #[.string ⟨(nxS T a b).toArray⟩,.bool (nxB T a b)])/\Below w.heap.size w w':=by
 have cg:=hv;obtain⟨v1,v2,v3,rfl,⟨A1,d1,rfl,cj,r1⟩,⟨A2,d2,rfl,cf,r2⟩,⟨A3,d3,rfl,cm,r3⟩⟩:=cg;obtain⟨N,eN⟩:=Ak (w.heap.size);have M:=(Below.refl w.heap.size w).alloc Ag (.cells #[.slice A1 T.R.length d1,.slice A2 T.K.length d2,.slice A3 T.P.length d3] 74);have c1:=Tn T _ B a b _ hs (hv.below (M.mono hB)) (Nat.le_trans hB M.size) (by omega) (by omega);have HB:=I M;clear M;have HK:=I (Blk.new w 74 #[.slice A1 T.R.length d1,.slice A2 T.K.length d2,.slice A3 T.P.length d3]);have ck:=I (fun r w1 (D:Below N w w1)=>QP T _ B a r w1 hs (hv.below (D.mono (by omega))) (Nat.le_trans hB (by have:=D.size;omega)));rw[<-eN] at HB;have CL:=I (fun x (h:x∈Cw T a b) w1=>Bm x w1 (by have:=JF hs ha D h;omega));have HC:=I (Oi T a b);have ca:=I (fun i=>@ZG T a b i);have bz:=I (@Ts T a b);have cc:=I eN;rw[<-eN];have aw:=I (show ∀w1:World,Below N w w1->N<=w1.heap.size from fun w1 h=>by have:=h.size;have:=cc.o;omega);clear r1 r2 r3 cj cf cm hs hv ha D eN
 by_cases hab:a=b
 ·have E:=I (Tq T a)
  have t1:(a==b)=true:=by simpa using hab
  rw[<-hab] at t1⊢;clear hab;go_enter Tryz.func64,Tryz.ntmps64
  go_wp2
  go_ret2
  exact⟨by rw[E.o.1,E.o.2];rfl,HB.o⟩
 ·have t1:(a==b)=false:=by simpa using hab
  have bB:=I hab;clear hab;obtain⟨S,eS⟩:=Ak (Cw T a b);rw[<-eS] at c1 CL HC ca bz;clear eS;go_enter Tryz.func64,Tryz.ntmps64
  go_wp2_with (go_at_call 106;refine Calls.mono c1 ?_;rintro e w1 ⟨u,rfl,⟨A5,c5,rfl,cd,r5⟩,D⟩;clear c1;replace HK:=I (HK.o.below D);replace HB:=I (HB.o.trans (D.mono (aw.o _ HB.o)));have HR:=I r5;clear D r5 cd)
  obtain⟨n,en⟩:=Ak (S.length);rw[<-en] at HC bz⊢;have EN:=I en;clear en;have cn:=HC.o
  go_loopw [18] (fun iv wr=>∃i:Nat,i<=n/\iv=.int .i64 (i:Int)/\(∀k,k<i->MC T a (pl S k)=false)/\Below w1.heap.size w1 wr) (fun iv _=>n - (intOf iv).toNat)
  case atStart=>exact⟨0,Nat.zero_le _,rfl,fun k h=>absurd h (Nat.not_lt_zero k),Below.refl _ _⟩
  case round=>
   obtain⟨i,hi,rfl,hn,cb⟩:=hrel;have HN:=I hn;clear hn;have Z:=I cb;clear cb;have O:=I (HB.o.trans (Z.o.mono (aw.o _ HB.o)))
   by_cases hlt:i<n
   ·have e1:(i:Int)<(n:Int):=by omega
    have e2:(0:Int)<=(i:Int):=by omega
    have F:i<S.length:=by rw[<-EN.o];exact hlt
    obtain⟨bx,o,rfl,_,h1⟩:=CQ (HR.o.below Z.o) F;have c2:=ck.o (pl S i) wr O.o;have c3:=CL.o (pl S i) (Dc F);have J:=HK.o.below Z.o;have k0:=J.cell 0;have k1:=J.cell 1;have k2:=J.cell 2;simp only[List.getElem?_toArray,List.getElem?_cons_zero,List.getElem?_cons_succ] at k0 k1 k2;clear J;cases hx:MC T a (pl S i) with
    |true=>
     rw[hx] at c2;have E:=I (ca.o _ bB.o F hx HN.o);clear hx F
     go_wp2_with (first
      |(go_at_call 107;refine Aj c2 ?_;rintro w3 D;clear c2;have H3:=I (O.o.trans (D.mono (aw.o _ O.o)));clear D)
      |(go_at_call 42;refine Aj (c3 w3) ?_;rintro w4 D;clear c3;have H4:=I (H3.o.trans (D.mono (aw.o _ H3.o)));clear D))
     go_ret2
     exact⟨by rw[E.o.1,E.o.2];rfl,H4.o⟩
    |false=>
     rw[hx] at c2;have E:=I hx;clear hx F
     go_wp2_with (go_at_call 107;refine Aj c2 ?_;rintro w3 D;clear c2;have H3:=Z.t D;clear D)
     go_roundw
     case rel=>exact⟨i+1,by omega,by go_num,fun k hk=>by
      by_cases q:k=i
      ·rw[q];exact E.o
      ·exact HN.o k (by omega),H3.o⟩
     case measure=>simp [intOf];omega
   ·have e1:¬(i:Int)<(n:Int):=by omega
    have E:=I (bz.o bB.o fun k hk=>HN.o k (by omega))
    go_wp2
    go_ret2
    exact⟨by rw[E.o.1,E.o.2];rfl,O.o⟩
end Rt
end Go.Proofs.YthgignaohimadaaGreat
