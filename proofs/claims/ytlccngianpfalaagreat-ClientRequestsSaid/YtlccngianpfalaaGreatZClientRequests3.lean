import Derived.Test.YtlccngianpfalaaGreatZClientRequests2
set_option maxHeartbeats 25600000
set_option maxRecDepth 100000
set_option linter.unusedVariables false
set_option linter.unusedSimpArgs false
namespace Go.Proofs.YtlccngianpfalaaGreat
namespace Tr
open Nm
theorem PK (c:UInt8) (l:L):((split c l).map fun p=>p.length+1).sum=l.length+1:=by
 induction l with
 |nil=>simp [split]
 |cons y r ih=>
  rw[split]
  by_cases e:y=c
  ·rw[if_pos e];simp [ih];omega
  ·rw[if_neg e]
   cases hs:split c r with
   |nil=>exact absurd hs (JH c r)
   |cons a t=>
    rw[hs] at ih;simp only[List.map_cons,List.sum_cons,List.length_cons] at ih⊢;omega
theorem Xi {ls:List L} (h:ls.all (Cu capB)=true):(ls.map fun p=>p.length+1).sum<=9*ls.length:=by
 induction ls with
 |nil=>simp
 |cons a t ih=>
  simp only[List.all_cons,Bool.and_eq_true] at h;have M:=((Fq _ _).1 h.1).2.1;have:=ih h.2;simp only[List.map_cons,List.sum_cons,List.length_cons];omega
theorem MR {c:UInt8} {l:L} (h:CV (split c l)=true):l.length<=35:=by
 have M:=(Iu _).1 h;have X:=Xi M.2.2;have O:=PK c l;omega
theorem kind_two' {l:L} (h:BN l=2):∃t,l=47 :: t/\CV (split 47 t)=true:=by
 have M:=Su h;simp only[slL,Bool.and_eq_true,decide_eq_true_eq] at M;cases l with
 |nil=>simp at M
 |cons x t=>
  simp only[List.head?_cons,Option.some.injEq,List.tail_cons] at M;exact⟨t,by rw[M.1],M.2⟩
theorem NS {l:L} (h:BN l≠0):BN l=1\/BN l=2:=by have:=Vo l;omega
theorem JM {l:L} (h:BN l≠0):l.length<=36:=by
 rcases NS h with h | h
 ·have:=MR (Sr h);omega
 ·obtain⟨t,rfl,M⟩:=kind_two' h
  have:=MR M;simp only[List.length_cons];omega
def furL (r p:L):L:=if Xe r p then (if BN r=1 then r.take (r.length - p.length) else r.drop p.length) else if BN r=1 then r else 32 :: r
def DX (p:L) (m:List L):L:=if m = [] then p else pl m (m.length - 1)
open Go.RowKit Ae
attribute [local go_sem] Gt List.getElem_cons_zero List.getElem_cons_succ Dw Dx Fm FL
def ixL (r:L) (ls:List L):Int:=if r∈ls then ((ls.findIdx fun x=>decide (x=r):Nat):Int) else -1
theorem SJ {ls:List L} {r:L} {i:Nat} (M:i<ls.length) (h:pl ls i=r) (O:∀k,k<i->pl ls k≠r):ixL r ls=(i:Int):=by
 have hm:r∈ls:=by rw[<-h];exact Px M
 rw[ixL,if_pos hm]
 congr 1
 rcases Nat.lt_trichotomy (ls.findIdx fun x=>decide (x=r)) i with g | g | g
 ·have:=List.findIdx_getElem (p:=fun x=>decide (x=r)) (w:=(by omega:(ls.findIdx fun x=>decide (x=r))<ls.length))
  exact absurd (by rw[Pw (by omega)];simpa using this) (O _ g)
 ·exact g
 ·have:=List.not_of_lt_findIdx g
  rw[Pw M] at h;simp [h] at this
theorem Vv {ls:List L} {r:L} (M:∀k,k<ls.length->pl ls k≠r):ixL r ls = -1:=by
 rw[ixL,if_neg];intro hm;obtain⟨i,O,e⟩:=mem_pl hm;exact M i O e
theorem ix_ge (r:L) (ls:List L):decide (0<=ixL r ls)=decide (r∈ls):=by
 rw[ixL]
 by_cases h:r∈ls
 ·rw[if_pos h];simp [h]
 ·rw[if_neg h];simp [h]
theorem NU (ls:List L) (A:Option Addr) (c B:Nat) (r:L) (w:World) (hl:ls.length<=9000000000000000) (Z:Rd w B A (strs ls)) :
  Calls Tryz.prog 158 #[.slice A ls.length c,.string ⟨r.toArray⟩] w fun e w'=>e=.returned (.int .i64 (ixL r ls))/\w=w':=by
 have HR:=I Z;clear Z;obtain⟨n,en⟩:=Aj (ls.length);rw[<-en] at hl⊢;have X:=I en;clear en;go_enter Tryz.func158,Tryz.ntmps158
 go_wp2
 go_loop [8] (fun M=>∃i:Nat,i<=n/\M=.int .i64 (i:Int)/\∀k,k<i->pl ls k≠r) (fun M=>n - (intOf M).toNat)
 case atStart=>exact⟨0,Nat.zero_le _,rfl,fun k h=>absurd h (Nat.not_lt_zero k)⟩
 case round=>
  obtain⟨i,hi,rfl,Y⟩:=hrel;have O:=I Y;clear Y
  by_cases hlt:i<n
  ·have e1:(i:Int)<(n:Int):=by omega
   have e2:(0:Int)<=(i:Int):=by omega
   obtain⟨b,o,rfl,_,h1⟩:=PD HR.o (i:=i) (by rw[<-X.o];exact hlt)
   by_cases hx:pl ls i=r
   ·have t1:(r==pl ls i)=true:=by simpa using hx.symm
    have E:=I (SJ (by rw[<-X.o];exact hlt) hx O.o);clear hx
    go_wp2
    go_ret;exact⟨by rw[E.o];rfl,rfl⟩
   ·have t1:(r==pl ls i)=false:=by simpa using fun g:r=pl ls i=>hx g.symm
    have HX:=I hx;clear hx
    go_wp2
    go_round
    case rel=>exact⟨i+1,by omega,by go_num,fun k hk=>by
     by_cases q:k=i
     ·rw[q];exact HX.o
     ·exact O.o k (by omega)⟩
    case measure=>simp [intOf];omega
  ·have e1:¬(i:Int)<(n:Int):=by omega
   have E:=I (Vv (ls:=ls) (r:=r) fun k hk=>O.o k (by have:=X.o;omega))
   go_wp2
   go_ret;exact⟨by rw[E.o];rfl,rfl⟩
theorem KC (ls:List L) (A:Option Addr) (c B:Nat) (r:L) (w:World) (Y:ls.length<=9000000000000000) (O:Rd w B A (strs ls)) :
  Calls Tryz.prog 110 #[.slice A ls.length c,.string ⟨r.toArray⟩] w fun e w'=>e=.returned (.bool (decide (r∈ls)))/\w=w':=by
 have c1:=NU ls A c B r w Y O;have E:=I (ix_ge r ls);obtain⟨z,M⟩:=Aj (ixL r ls);rw[<-M] at c1;have X:=I M;clear M O;go_enter Tryz.func110,Tryz.ntmps110
 go_wp2_with (go_at_call 158;refine Ah c1 ?_;rintro Z rfl)
 go_ret;exact⟨by rw[<-E.o,<-X.o];rfl,rfl⟩
end Tr
namespace Ms
open DerP
open Nm (Cg isL tgL Cu Cx BN)
abbrev Pr:=L×L
structure Tk where
 s:Pr
 k:Int
 b:L
deriving DecidableEq
structure Pt where
 c:Pr
 ss:L
 tr:L
 st:Int
 en:Int
deriving DecidableEq
structure An where
 c:Pr
 t:Int
 q:Int
deriving DecidableEq
structure Rp where
 ss:L
 s:Pr
 st:Int
 en:Int
 no:Int
deriving DecidableEq
structure As where
 c:Pr
 s:Pr
 t:Int
 no:Int
deriving DecidableEq
structure Tg where
 t:Tk
 a:L
 s:Pr
 u:Int
 no:Int
deriving DecidableEq
structure Re where
 c:Pr
 t:Tk
 b:L
deriving DecidableEq
structure Ap where
 t:Tk
 a:L
deriving DecidableEq
structure Fa where
 e:Int
 no:Int
deriving DecidableEq
structure Mg where
 k:Int
 aq:As
 tg:Tg
 re:Re
 ap:Ap
 fa:Fa
deriving DecidableEq
def pr0:Pr:=([],[])
def tk0:Tk:=⟨pr0,0,[]⟩
def as0:As:=⟨pr0,pr0,0,0⟩
def tg0:Tg:=⟨tk0,[],pr0,0,0⟩
def re0:Re:=⟨pr0,tk0,[]⟩
def ap0:Ap:=⟨tk0,[]⟩
def fa0:Fa:=⟨0,0⟩
def mg0:Mg:=⟨0,as0,tg0,re0,ap0,fa0⟩
def key0:L:=List.replicate 32 0
def an0:An:=⟨pr0,0,0⟩
def rp0:Rp:=⟨key0,pr0,0,0,0⟩
def inB (n a b:Int):Bool:=decide (a<=n)&&decide (n<=b)
def Bv (b:L):Bool:=decide (1<=b.length)&&decide (b.length<=800)
def prB (p:Pr):Bool:=Cg p.1 p.2
def tmB (n:Int):Bool:=inB n 0 1073741824
def tkB (t:Tk):Bool:=prB t.s&&(inB t.k 1 255&&Bv t.b)
def anB (a:An):Bool:=prB a.c&&(tmB a.t&&tmB a.q)
def rpB (p:Rp):Bool:=prB p.s&&(tmB p.st&&(tmB p.en&&tmB p.no))
def asB (q:As):Bool:=prB q.c&&(prB q.s&&(tmB q.t&&tmB q.no))
def tgB (q:Tg):Bool:=tkB q.t&&(Bv q.a&&(prB q.s&&(tmB q.u&&tmB q.no)))
def reB (q:Re):Bool:=prB q.c&&(tkB q.t&&Bv q.b)
def apB (q:Ap):Bool:=tkB q.t&&Bv q.a
def faB (q:Fa):Bool:=inB q.e 1 255&&tmB q.no
def mgB (m:Mg):Bool:=
 if m.k=1 then asB m.aq&&decide (m=⟨1,m.aq,tg0,re0,ap0,fa0⟩)
 else if m.k=2 then tgB m.tg&&decide (m=⟨2,as0,m.tg,re0,ap0,fa0⟩)
 else if m.k=3 then reB m.re&&decide (m=⟨3,as0,tg0,m.re,ap0,fa0⟩)
 else if m.k=4 then apB m.ap&&decide (m=⟨4,as0,tg0,re0,m.ap,fa0⟩)
 else if m.k=5 then faB m.fa&&decide (m=⟨5,as0,tg0,re0,ap0,m.fa⟩)
 else false
def prE (p:Pr):L:=elem 48 [elem 27 p.1,elem 27 p.2].flatten
def tkE (t:Tk):L:=elem 97 [prE t.s,encI t.k,elem 4 t.b].flatten
def anE (a:An):L:=elem 98 [prE a.c,encI a.t,encI a.q].flatten
def rpE (p:Rp):L:=elem 122 [elem 4 p.ss,prE p.s,encI p.st,encI p.en,encI p.no].flatten
def asE (q:As):L:=elem 106 [prE q.c,prE q.s,encI q.t,encI q.no].flatten
def tgE (q:Tg):L:=elem 108 [tkE q.t,elem 4 q.a,prE q.s,encI q.u,encI q.no].flatten
def reE (q:Re):L:=elem 107 [prE q.c,tkE q.t,elem 4 q.b].flatten
def apE (q:Ap):L:=elem 110 [tkE q.t,elem 4 q.a].flatten
def faE (q:Fa):L:=elem 126 [encI q.e,encI q.no].flatten
def mgE (m:Mg):L:=if m.k=1 then asE m.aq else if m.k=2 then tgE m.tg else if m.k=3 then reE m.re else if m.k=4 then apE m.ap else faE m.fa
def limO (ok:Bool) (l:L):Option L:=if ok=true/\l.length<=2000 then some l else none
def mgO (m:Mg):Option L:=limO (mgB m) (mgE m)
def anO (a:An):Option L:=limO (anB a) (anE a)
def rpO (p:Rp):Option L:=limO (rpB p) (rpE p)
def whC (c:Option L):Bool:=decide (c=some [])
def txC (c:Option L):L:=(Ax 27 c).getD []
def ocC (c:Option L):L:=(Ax 4 c).getD []
def prI (d:Option L):Pr:=(txC d,txC (AQ 27 d))
def prP (c:Option L):Pr×Option L:=(prI (Ax 48 c),if whC (AQ 27 (AQ 27 (Ax 48 c))) then AQ 48 c else none)
def nmP (c:Option L):Int×Option L:=(((intC c).1:Int),(intC c).2)
def tkS (d:Option L):Option L:=(nmP (prP d).2).2
def tkI (d:Option L):Tk:=⟨(prP d).1,(nmP (prP d).2).1,ocC (tkS d)⟩
def tkP (c:Option L):Tk×Option L:=(tkI (Ax 97 c),if whC (AQ 4 (tkS (Ax 97 c))) then AQ 97 c else none)
def keP (c:Option L):L×Option L:=if (ocC c).length=32 then (ocC c,AQ 4 c) else (key0,none)
def anP (b:L):An×Option L:=
 let c1:=prP (Ax 98 (some b));let c2:=nmP c1.2;let c3:=nmP c2.2
 (⟨c1.1,c2.1,c3.1⟩,c3.2)
def rpP (b:L):Rp×Option L:=
 let c1:=keP (Ax 122 (some b));let c2:=prP c1.2;let c3:=nmP c2.2;let c4:=nmP c3.2;let c5:=nmP c4.2
 (⟨c1.1,c2.1,c3.1,c4.1,c5.1⟩,c5.2)
def asP (c:Option L):As×Option L:=
 let c1:=prP c;let c2:=prP c1.2;let c3:=nmP c2.2;let c4:=nmP c3.2
 (⟨c1.1,c2.1,c3.1,c4.1⟩,c4.2)
def tgP (c:Option L):Tg×Option L:=
 let c1:=tkP c;let c2:=AQ 4 c1.2;let c3:=prP c2;let c4:=nmP c3.2;let c5:=nmP c4.2
 (⟨c1.1,ocC c1.2,c3.1,c4.1,c5.1⟩,c5.2)
def reP (c:Option L):Re×Option L:=
 let c1:=prP c;let c2:=tkP c1.2
 (⟨c1.1,c2.1,ocC c2.2⟩,AQ 4 c2.2)
def apP (c:Option L):Ap×Option L:=
 let c1:=tkP c
 (⟨c1.1,ocC c1.2⟩,AQ 4 c1.2)
def faP (c:Option L):Fa×Option L:=
 let c1:=nmP c;let c2:=nmP c1.2
 (⟨c1.1,c2.1⟩,c2.2)
def mgP (b:L):Mg:=
 match b with
 | []=>mg0
 |t :: _=>
  if t=106 then ⟨1,(asP (Ax 106 (some b))).1,tg0,re0,ap0,fa0⟩
  else if t=108 then ⟨2,as0,(tgP (Ax 108 (some b))).1,re0,ap0,fa0⟩
  else if t=107 then ⟨3,as0,tg0,(reP (Ax 107 (some b))).1,ap0,fa0⟩
  else if t=110 then ⟨4,as0,tg0,re0,(apP (Ax 110 (some b))).1,fa0⟩
  else if t=126 then ⟨5,as0,tg0,re0,ap0,(faP (Ax 126 (some b))).1⟩
  else mg0
def mgD (b:L):Option Mg:=if mgO (mgP b)=some b then some (mgP b) else none
def anD (b:L):Option An:=if anO (anP b).1=some b then some (anP b).1 else none
def rpD (b:L):Option Rp:=if rpO (rpP b).1=some b then some (rpP b).1 else none
theorem Az (t:UInt8) (p:L):(elem t p).length<=p.length+4:=by
 rw[DH,Cp];split
 ·omega
 ·split<;>omega
theorem AE (n:Int):(encI n).length<=12:=by
 have:=Az 2 (dig (Cj n));have:=Hy n;rw[encI];omega
theorem SK {n:L} (h:(tgL n||Cu Cx n)=true):n.length<=43:=by
 rw[Bool.or_eq_true] at h;rcases h with h | h
 ·rw[Nm.tgL,Bool.and_eq_true] at h
  have M:BN (Nm.cpL Nm.krb n)≠0:=by have:=h.2;simp only[isL,decide_eq_true_eq] at this;omega
  have X:=Tr.JM M;have O:Nm.cpL Nm.krb n=n.drop 7:=by rw[Nm.cpL,h.1];rfl
  rw[O,List.length_drop] at X;omega
 ·have:=(Nm.Fq _ _).1 h
  omega
theorem Ec {p:Pr} (h:prB p=true):p.1.length<=36/\p.2.length<=43:=by
 rw[prB,Cg,Bool.and_eq_true] at h;refine⟨Tr.JM ?_,SK h.2⟩;have:=h.1;simp only[isL,decide_eq_true_eq] at this;omega
theorem Db (a b:L):[a,b].flatten=a++b:=by simp
theorem Dn (a b c:L):[a,b,c].flatten=a++(b++c):=by simp
theorem Ja (a b c d:L):[a,b,c,d].flatten=a++(b++(c++d)):=by simp
theorem Eo (a b c d e:L):[a,b,c,d,e].flatten=a++(b++(c++(d++e))):=by simp
theorem AV {p:Pr} (h:prB p=true):(prE p).length<=91/\[elem 27 p.1,elem 27 p.2].flatten.length<=87:=by
 have M:=Ec h;have Y:=Az 27 p.1;have X:=Az 27 p.2;have Z:=Az 48 [elem 27 p.1,elem 27 p.2].flatten;have O:[elem 27 p.1,elem 27 p.2].flatten.length=(elem 27 p.1).length+(elem 27 p.2).length:=by simp
 rw[prE];omega
theorem DS {t:Tk} (h:tkB t=true):prB t.s=true/\(1<=t.k/\t.k<=255)/\(1<=t.b.length/\t.b.length<=800):=by
 simpa [tkB,inB,Bv] using h
theorem BU {t:Tk} (h:tkB t=true):(tkE t).length<=911/\[prE t.s,encI t.k,elem 4 t.b].flatten.length<=907:=by
 obtain⟨M,_,Y⟩:=DS h;have X:=(AV M).1;have Z:=AE t.k;have h5:=Az 4 t.b;have O:=Az 97 [prE t.s,encI t.k,elem 4 t.b].flatten;have h7:[prE t.s,encI t.k,elem 4 t.b].flatten.length=(prE t.s).length+((encI t.k).length+(elem 4 t.b).length):=by simp
 rw[tkE];omega
section
variable {t:UInt8} {p r:L}
theorem be (h:p.length<=65535) (r:L):Ax t (some (elem t p++r))=some p:=(DG (Eb t p r h)).1
theorem ne (h:p.length<=65535) (r:L):AQ t (some (elem t p++r))=some r:=(DG (Eb t p r h)).2
theorem be0 (h:p.length<=65535):Ax t (some (elem t p))=some p:=by have:=be (t:=t) h [];rwa [List.append_nil] at this
theorem ne0 (h:p.length<=65535):AQ t (some (elem t p))=some []:=by have:=ne (t:=t) h [];rwa [List.append_nil] at this
theorem Xj (h:p.length<=65535) (r:L):txC (some (elem 27 p++r))=p:=by rw[txC,be h];rfl
theorem UF (h:p.length<=65535):txC (some (elem 27 p))=p:=by rw[txC,be0 h];rfl
theorem SL (h:p.length<=65535) (r:L):ocC (some (elem 4 p++r))=p:=by rw[ocC,be h];rfl
theorem Jo (h:p.length<=65535):ocC (some (elem 4 p))=p:=by rw[ocC,be0 h];rfl
end
theorem Dc {n:Int} (M:0<=n) (O:n<=4611686018427387904) (r:L):nmP (some (encI n++r))=(n,some r):=by
 rw[nmP,Vj,Io n M O]
 congr 1
 omega
theorem Dz {n:Int} (M:0<=n) (O:n<=4611686018427387904):nmP (some (encI n))=(n,some []):=by
 have:=Dc M O [];rwa [List.append_nil] at this
theorem Gg {p:Pr} (h:prB p=true) (r:L):prP (some (prE p++r))=(p,some r):=by
 have M:=Ec h;have O:=(AV h).2;rw[prP,prE,be (by omega),ne (by omega),Db,prI,Xj (by omega),ne (by omega),UF (by omega),ne0 (by omega)]
 rfl
theorem LB {t:Tk} (h:tkB t=true) (r:L):tkP (some (tkE t++r))=(t,some r):=by
 obtain⟨M,X,O⟩:=DS h;have Y:=(BU h).2;rw[tkP,tkE,be (by omega),ne (by omega),Dn,tkI,tkS,Gg M,Dc (by omega) (by omega),Jo (by omega),ne0 (by omega)]
 rfl
theorem Vw {k:L} (h:k.length=32) (r:L):keP (some (elem 4 k++r))=(k,some r):=by
 rw[keP,SL (by omega),if_pos h,ne (by omega)]
theorem BC {n:Int} (h:tmB n=true):0<=n/\n<=1073741824:=by simpa [tmB,inB] using h
theorem Vx {a:An} (h:anB a=true):anP (anE a)=(a,some []):=by
 have Y:prB a.c=true/\tmB a.t=true/\tmB a.q=true:=by simpa [anB] using h
 obtain⟨M,X,Z⟩:=Y;have t4:=BC X;have t5:=BC Z;have l1:=(AV M).1;have l4:=AE a.t;have l5:=AE a.q;have O:[prE a.c,encI a.t,encI a.q].flatten.length<=65535:=by simp only[List.flatten_cons,List.flatten_nil,List.length_append,List.length_nil];omega
 rw[anP,anE,be0 O,Dn,Gg M];simp only;rw[Dc (by omega) (by omega)];simp only;rw[Dz (by omega) (by omega)]
theorem LC {p:Rp} (h:rpB p=true) (hk:p.ss.length=32):rpP (rpE p)=(p,some []):=by
 have Z:prB p.s=true/\tmB p.st=true/\tmB p.en=true/\tmB p.no=true:=by simpa [rpB] using h
 obtain⟨M,Y,h5,X⟩:=Z;have t4:=BC Y;have t5:=BC h5;have t6:=BC X;have l1:=(AV M).1;have l2:=Az 4 p.ss;have l4:=AE p.st;have l5:=AE p.en;have l6:=AE p.no;have O:[elem 4 p.ss,prE p.s,encI p.st,encI p.en,encI p.no].flatten.length<=65535:=by simp only[List.flatten_cons,List.flatten_nil,List.length_append,List.length_nil];omega
 rw[rpP,rpE,be0 O,Eo,Vw hk];simp only;rw[Gg M];simp only;rw[Dc (by omega) (by omega)];simp only;rw[Dc (by omega) (by omega)];simp only;rw[Dz (by omega) (by omega)]
theorem Vy {q:As} (h:asB q=true):Ax 106 (some (asE q))=some [prE q.c,prE q.s,encI q.t,encI q.no].flatten/\asP (some [prE q.c,prE q.s,encI q.t,encI q.no].flatten)=(q,some []):=by
 have Z:prB q.c=true/\prB q.s=true/\tmB q.t=true/\tmB q.no=true:=by simpa [asB] using h
 obtain⟨O,M,Y,h5⟩:=Z;have t4:=BC Y;have t5:=BC h5;have l1:=(AV O).1;have l2:=(AV M).1;have l4:=AE q.t;have l5:=AE q.no;have X:[prE q.c,prE q.s,encI q.t,encI q.no].flatten.length<=65535:=by simp only[List.flatten_cons,List.flatten_nil,List.length_append,List.length_nil];omega
 refine⟨by rw[asE,be0 X],?_⟩;rw[Ja,asP,Gg O];simp only;rw[Gg M];simp only;rw[Dc (by omega) (by omega)];simp only;rw[Dz (by omega) (by omega)]
theorem Bd {b:L} (h:Bv b=true):1<=b.length/\b.length<=800:=by simpa [Bv] using h
theorem Vz {q:Tg} (h:tgB q=true):Ax 108 (some (tgE q))=some [tkE q.t,elem 4 q.a,prE q.s,encI q.u,encI q.no].flatten/\tgP (some [tkE q.t,elem 4 q.a,prE q.s,encI q.u,encI q.no].flatten)=(q,some []):=by
 have Z:tkB q.t=true/\Bv q.a=true/\prB q.s=true/\tmB q.u=true/\tmB q.no=true:=by simpa [tgB] using h
 obtain⟨O,Y,M,h4,h5⟩:=Z;have t4:=BC h4;have t5:=BC h5;have b3:=Bd Y;have l1:=(BU O).1;have l2:=Az 4 q.a;have l3:=(AV M).1;have l4:=AE q.u;have l5:=AE q.no;have X:[tkE q.t,elem 4 q.a,prE q.s,encI q.u,encI q.no].flatten.length<=65535:=by simp only[List.flatten_cons,List.flatten_nil,List.length_append,List.length_nil];omega
 refine⟨by rw[tgE,be0 X],?_⟩;rw[Eo,tgP,LB O];simp only;rw[SL (by omega),ne (by omega),Gg M];simp only;rw[Dc (by omega) (by omega)];simp only;rw[Dz (by omega) (by omega)]
theorem VA {q:Re} (h:reB q=true):Ax 107 (some (reE q))=some [prE q.c,tkE q.t,elem 4 q.b].flatten/\reP (some [prE q.c,tkE q.t,elem 4 q.b].flatten)=(q,some []):=by
 have Z:prB q.c=true/\tkB q.t=true/\Bv q.b=true:=by simpa [reB] using h
 obtain⟨O,M,Y⟩:=Z;have b3:=Bd Y;have l1:=(AV O).1;have l2:=(BU M).1;have l3:=Az 4 q.b;have X:[prE q.c,tkE q.t,elem 4 q.b].flatten.length<=65535:=by simp only[List.flatten_cons,List.flatten_nil,List.length_append,List.length_nil];omega
 refine⟨by rw[reE,be0 X],?_⟩;rw[Dn,reP,Gg O];simp only;rw[LB M];simp only;rw[Jo (by omega),ne0 (by omega)]
theorem VB {q:Ap} (h:apB q=true):Ax 110 (some (apE q))=some [tkE q.t,elem 4 q.a].flatten/\apP (some [tkE q.t,elem 4 q.a].flatten)=(q,some []):=by
 have Y:tkB q.t=true/\Bv q.a=true:=by simpa [apB] using h
 obtain⟨M,X⟩:=Y;have b3:=Bd X;have l2:=(BU M).1;have l3:=Az 4 q.a;have O:[tkE q.t,elem 4 q.a].flatten.length<=65535:=by simp only[List.flatten_cons,List.flatten_nil,List.length_append,List.length_nil];omega
 refine⟨by rw[apE,be0 O],?_⟩;rw[Db,apP,LB M];simp only;rw[Jo (by omega),ne0 (by omega)]
theorem VC {q:Fa} (h:faB q=true):Ax 126 (some (faE q))=some [encI q.e,encI q.no].flatten/\faP (some [encI q.e,encI q.no].flatten)=(q,some []):=by
 have X:(1<=q.e/\q.e<=255)/\tmB q.no=true:=by simpa [faB,inB] using h
 obtain⟨Y,O⟩:=X;have Z:=BC O;have l2:=AE q.e;have l3:=AE q.no;have M:[encI q.e,encI q.no].flatten.length<=65535:=by simp only[List.flatten_cons,List.flatten_nil,List.length_append,List.length_nil];omega
 refine⟨by rw[faE,be0 M],?_⟩;rw[Db,faP,Dc (by omega) (by omega)];simp only;rw[Dz (by omega) (by omega)]
theorem GC {m:Mg} (h:mgB m=true) :
  (asB m.aq=true/\m=⟨1,m.aq,tg0,re0,ap0,fa0⟩)\/(tgB m.tg=true/\m=⟨2,as0,m.tg,re0,ap0,fa0⟩)\/(reB m.re=true/\m=⟨3,as0,tg0,m.re,ap0,fa0⟩)\/
  (apB m.ap=true/\m=⟨4,as0,tg0,re0,m.ap,fa0⟩)\/(faB m.fa=true/\m=⟨5,as0,tg0,re0,ap0,m.fa⟩):=by
 unfold mgB at h
 split at h
 ·rw[Bool.and_eq_true,decide_eq_true_eq] at h;exact .inl h
 ·split at h
  ·rw[Bool.and_eq_true,decide_eq_true_eq] at h;exact .inr (.inl h)
  ·split at h
   ·rw[Bool.and_eq_true,decide_eq_true_eq] at h;exact .inr (.inr (.inl h))
   ·split at h
    ·rw[Bool.and_eq_true,decide_eq_true_eq] at h;exact .inr (.inr (.inr (.inl h)))
    ·split at h
     ·rw[Bool.and_eq_true,decide_eq_true_eq] at h;exact .inr (.inr (.inr (.inr h)))
     ·cases h
theorem VD {m:Mg} (h:mgB m=true):mgP (mgE m)=m:=by
 rcases GC h with⟨O,e⟩ | ⟨O,e⟩ | ⟨O,e⟩ | ⟨O,e⟩ | ⟨O,e⟩
 ·have M:=Vy O
  have X:mgE m=asE m.aq:=by rw[e];rfl
  rw[X]
  conv=>rhs;rw[e]
  show(⟨1,(asP (Ax 106 (some (asE m.aq)))).1,tg0,re0,ap0,fa0⟩:Mg)=_;rw[M.1,M.2]
 ·have M:=Vz O
  have X:mgE m=tgE m.tg:=by rw[e];rfl
  rw[X]
  conv=>rhs;rw[e]
  show(⟨2,as0,(tgP (Ax 108 (some (tgE m.tg)))).1,re0,ap0,fa0⟩:Mg)=_;rw[M.1,M.2]
 ·have M:=VA O
  have X:mgE m=reE m.re:=by rw[e];rfl
  rw[X]
  conv=>rhs;rw[e]
  show(⟨3,as0,tg0,(reP (Ax 107 (some (reE m.re)))).1,ap0,fa0⟩:Mg)=_;rw[M.1,M.2]
 ·have M:=VB O
  have X:mgE m=apE m.ap:=by rw[e];rfl
  rw[X]
  conv=>rhs;rw[e]
  show(⟨4,as0,tg0,re0,(apP (Ax 110 (some (apE m.ap)))).1,fa0⟩:Mg)=_;rw[M.1,M.2]
 ·have M:=VC O
  have X:mgE m=faE m.fa:=by rw[e];rfl
  rw[X]
  conv=>rhs;rw[e]
  show(⟨5,as0,tg0,re0,ap0,(faP (Ax 126 (some (faE m.fa)))).1⟩:Mg)=_;rw[M.1,M.2]
theorem Br {ok:Bool} {l b:L}:limO ok l=some b↔ok=true/\l.length<=2000/\l=b:=by
 unfold limO
 split
 ·rename_i h
  exact⟨fun e=>⟨h.1,h.2,Option.some.inj e⟩,fun e=>by rw[e.2.2]⟩
 ·rename_i h
  exact⟨fun e=>by(cases e),fun e=>False.elim (h (And.intro e.1 e.2.1))⟩
theorem Jp {b:L} {m:Mg}:mgD b=some m↔mgO m=some b:=by
 unfold mgD;constructor
 ·intro h
  split at h
  ·rename_i M;injection h with h;rw[<-h];exact M
  ·cases h
 ·intro h
  have M:=Br.1 h;have e:mgP b=m:=by rw[<-M.2.2];exact VD M.1
  rw[e,if_pos h]
theorem Xk {b:L} {p:Rp} (hk:p.ss.length=32):rpD b=some p↔rpO p=some b:=by
 unfold rpD;constructor
 ·intro h
  split at h
  ·rename_i M;injection h with h;rw[<-h];exact M
  ·cases h
 ·intro h
  have M:=Br.1 h;have e:(rpP b).1=p:=by rw[<-M.2.2,LC M.1 hk]
  rw[e,if_pos h]
theorem UG (c:Option L):(keP c).1.length=32:=by
 unfold keP
 split
 ·assumption
 ·rfl
theorem Xl {b:L} {p:Rp} (h:rpD b=some p):rpO p=some b/\(rpP b)=(p,some []):=by
 unfold rpD at h
 split at h
 ·rename_i h2
  injection h with h;have hk:p.ss.length=32:=by rw[<-h];exact UG _
  rw[h] at h2;have M:=Br.1 h2;exact⟨h2,by rw[<-M.2.2];exact LC M.1 hk⟩
 ·cases h
end Ms
namespace Rg
open Nm (Cg L)
abbrev Pr:=L×L
def prB (p:Pr):Bool:=Cg p.1 p.2
structure It where
 p:Pr
 n:Nat
 k:Nat->UInt8
end Rg
namespace Ca
open Nm (L)
open Rg (Pr)
structure Cr where
 s:Pr
 n:Int
 b:L
 k:Nat->UInt8
 e:Int
abbrev It:=Pr×Cr
def del (p:Pr) (t:Int) (i:It):Bool:=decide (i.2.e<t)||decide (i.1=p)
def rest (l:List It) (p:Pr) (t:Int):List It:=l.filter (fun i=>!del p t i)
def putL (l:List It) (p:Pr) (x:Cr) (t:Int):List It:=if (rest l p t).length<10 then rest l p t++[(p,x)] else rest l p t
def putE (l:List It) (p:Pr) (t:Int):Nat:=if (rest l p t).length<10 then 0 else 13
def hitG (p:Pr) (t:Int) (i:It):Bool:=decide (i.1=p)&&decide (t<=i.2.e)
def getO (l:List It) (p:Pr) (t:Int):Option It:=l.find? (hitG p t)
theorem SM (l:List It) (p:Pr) (x:Cr) (t:Int) (h:l.length<=10):(putL l p x t).length<=10:=by
 have:(rest l p t).length<=10:=Nat.le_trans (List.length_filter_le _ _) h;unfold putL
 split
 ·simp;omega
 ·exact this
end Ca
namespace Sp
open Go.RowKit Ae
abbrev Wd:=BitVec 32
def rot (v:Wd) (s:Nat):Wd:=(v <<< s) ||| (v >>> (32 - s))
abbrev wv (v:Wd):Value:=.int .u32 (v.toNat:Int)
theorem Gh (v:Wd):v.toNat<4294967296:=v.isLt
theorem MS (n:Nat):IntKind.u32.wrap (n:Int)=((BitVec.ofNat 32 n).toNat:Int):=by
 rw[IntKind.wrap_u32,BitVec.toNat_ofNat];omega
theorem BD (x y:Wd):bits .xor .u32 (x.toNat:Int) (y.toNat:Int)=((x ^^^ y).toNat:Int):=by
 rw[u32_xor_nat _ _ x.isLt y.isLt,BitVec.toNat_xor]
theorem FZ (x y:Wd):((x.toNat:Int)+(y.toNat:Int)) % 4294967296=((x+y).toNat:Int):=by
 rw[BitVec.toNat_add];omega
theorem JN (v:Wd) (s:Nat):(rot v s).toNat=(v.toNat*2 ^ s % 4294967296) ||| (v.toNat / 2 ^ (32 - s)):=by
 simp [rot,BitVec.toNat_or,BitVec.toNat_shiftLeft,BitVec.toNat_ushiftRight,Nat.shiftLeft_eq,Nat.shiftRight_eq_div_pow]
theorem Hr (v:Wd) (a b:Nat) (s:Nat) (O:a=v.toNat*2 ^ s % 4294967296) (M:b=v.toNat / 2 ^ (32 - s)):bits .or .u32 (a:Int) (b:Int)=((rot v s).toNat:Int):=by
 rw[u32_or_nat a b (by omega) (by have:=Gh v;have:=Nat.div_le_self v.toNat (2 ^ (32 - s));omega),JN,O,M]
theorem or_rot' (v:Wd) (a b:Nat) (s:Nat) (O:a=v.toNat*2 ^ s % 4294967296) (M:b=v.toNat / 2 ^ (32 - s)):bits .or .u32 (b:Int) (a:Int)=((rot v s).toNat:Int):=by
 rw[u32_or_nat b a (by have:=Gh v;have:=Nat.div_le_self v.toNat (2 ^ (32 - s));omega) (by omega),JN,O,M,Nat.or_comm]
theorem or3 (v:Wd):bits .or .u32 ((v.toNat:Int)*8 % 4294967296) ((v.toNat:Int) / 536870912)=((rot v 3).toNat:Int):=Hr v _ _ 3 rfl rfl
theorem or24 (v:Wd):bits .or .u32 ((v.toNat:Int)*16777216 % 4294967296) ((v.toNat:Int) / 256)=((rot v 24).toNat:Int):=Hr v _ _ 24 rfl rfl
theorem ro24 (v:Wd):bits .or .u32 ((v.toNat:Int) / 256) ((v.toNat:Int)*16777216 % 4294967296)=((rot v 24).toNat:Int):=or_rot' v _ _ 24 rfl rfl
def step (k:Wd) (p:Wd×Wd):Wd×Wd:=((rot p.1 24+p.2) ^^^ k,rot p.2 3 ^^^ ((rot p.1 24+p.2) ^^^ k))
def Hx (K:Nat->Wd):Nat->Wd×Wd->Wd×Wd
 |0,p=>p
 |n+1,p=>step (K n) (Hx K n p)
def Ck (K:Nat->Wd) (p:Wd×Wd):Wd×Wd:=Hx K 27 p
def le4 (a b c d:UInt8):Wd:=BitVec.ofNat 32 (a.toNat+b.toNat*256+c.toNat*65536+d.toNat*16777216)
theorem Dt (a b c d:UInt8):(le4 a b c d).toNat=a.toNat+b.toNat*256+c.toNat*65536+d.toNat*16777216:=by
 have:=a.toNat_lt;have:=b.toNat_lt;have:=c.toNat_lt;have:=d.toNat_lt;rw[le4,BitVec.toNat_ofNat];omega
theorem Xm (a b c d:UInt8):bits .or .u32 (bits .or .u32 (bits .or .u32 (a.toNat:Int) ((b.toNat:Int)*256 % 4294967296)) ((c.toNat:Int)*65536 % 4294967296)) ((d.toNat:Int)*16777216 % 4294967296)=((le4 a b c d).toNat:Int):=by
 have ha:=a.toNat_lt;have hb:=b.toNat_lt;have hc:=c.toNat_lt;have hd:=d.toNat_lt;have Z:(b.toNat:Int)*256 % 4294967296=((b.toNat*256:Nat):Int):=by omega
 have ec:(c.toNat:Int)*65536 % 4294967296=((c.toNat*65536:Nat):Int):=by omega
 have X:(d.toNat:Int)*16777216 % 4294967296=((d.toNat*16777216:Nat):Int):=by omega
 have Y:a.toNat ||| b.toNat*256=b.toNat*256+a.toNat:=by rw[Nat.or_comm];exact nat_join 8 _ _ (by omega) (by omega)
 have O:(b.toNat*256+a.toNat) ||| c.toNat*65536=c.toNat*65536+(b.toNat*256+a.toNat):=by rw[Nat.or_comm];exact nat_join 16 _ _ (by omega) (by omega)
 have M:(c.toNat*65536+(b.toNat*256+a.toNat)) ||| d.toNat*16777216=d.toNat*16777216+(c.toNat*65536+(b.toNat*256+a.toNat)):=by rw[Nat.or_comm];exact nat_join 24 _ _ (by omega) (by omega)
 rw[Z,ec,X,u32_or_nat _ _ (by omega) (by omega),Y,u32_or_nat _ _ (by omega) (by omega),O,u32_or_nat _ _ (by omega) (by omega),M,Dt];omega
def EW (ks:Nat->UInt8) (i:Nat):Wd:=le4 (ks (4*i)) (ks (4*i+1)) (ks (4*i+2)) (ks (4*i+3))
structure Sch where
 k:Wd
 a:Wd
 b:Wd
 c:Wd
def Xn (i:Nat) (s:Sch):Wd:=(s.k+rot s.a 24) ^^^ BitVec.ofNat 32 i
def sch (ks:Nat->UInt8):Nat->Sch
 |0=>⟨EW ks 0,EW ks 1,EW ks 2,EW ks 3⟩
 |i+1=>⟨rot (sch ks i).k 3 ^^^ Xn i (sch ks i),(sch ks i).b,(sch ks i).c,Xn i (sch ks i)⟩
def kw (ks:Nat->UInt8) (i:Nat):Wd:=(sch ks i).k
def lw (ks:Nat->UInt8) (i:Nat):Wd:=(sch ks i).a
theorem lw_3 (ks:Nat->UInt8) (i:Nat):lw ks (i+3)=(kw ks i+rot (lw ks i) 24) ^^^ BitVec.ofNat 32 i:=rfl
theorem PL (ks:Nat->UInt8) (i:Nat):kw ks (i+1)=rot (kw ks i) 3 ^^^ lw ks (i+3):=rfl
def Jb (K:Nat->Wd) (up lo:Wd) (i:Nat):Nat:=(Ck K (up,lo+BitVec.ofNat 32 i)).1.toNat+4294967296*(Ck K (up,lo+BitVec.ofNat 32 i)).2.toNat
def Ep (K:Nat->Wd) (up lo:Wd) (j:Nat):UInt8:=UInt8.ofNat (Jb K up lo (j / 8) / 256 ^ (j % 8))
def strm (K:Nat->Wd) (up lo:Wd) (n:Nat):List UInt8:=(List.range n).map (Ep K up lo)
theorem LD (K:Nat->Wd) (up lo:Wd) (n:Nat):(strm K up lo n).length=n:=by simp [strm]
theorem PM (K:Nat->Wd) (up lo:Wd) (n m:Nat) (h:n<=m):(strm K up lo m).take n=strm K up lo n:=by
 simp [strm,List.take_range,<-List.map_take,Nat.min_eq_left h]
theorem rotL3 (v:Wd) (w:World):Calls Tryz.prog 217 #[wv v,.int .i64 3] w fun e w'=>e=.returned (wv (rot v 3))/\w'=w:=by
 have hand:bits .and .u64 3 31=3:=by kernel_rfl
 have M:=or3 v;go_enter Tryz.func217,Tryz.ntmps217
 go_wp2
 go_ret;exact⟨rfl,rfl⟩
theorem rotR8 (v:Wd) (w:World):Calls Tryz.prog 217 #[wv v,.int .i64 (-8)] w fun e w'=>e=.returned (wv (rot v 24))/\w'=w:=by
 have M:IntKind.u64.wrap (-8)=18446744073709551608:=by kernel_rfl
 have hand:bits .and .u64 18446744073709551608 31=24:=by kernel_rfl
 have O:=or24 v;go_enter Tryz.func217,Tryz.ntmps217
 go_wp2
 go_ret;exact⟨rfl,rfl⟩
theorem Xo (v:Wd) (w:World):Calls Tryz.prog 206 #[wv v,.int .i64 3] w fun e w'=>e=.returned (wv (rot v 3))/\w'=w:=by
 go_enter Tryz.func206,Tryz.ntmps206
 go_wp2_with (go_at_call 217;refine(rotL3 _ _).mono ?_;rintro e w' ⟨rfl,rfl⟩)
 go_ret;exact⟨rfl,rfl⟩
theorem UH (v:Wd) (w:World):Calls Tryz.prog 205 #[wv v,.int .i64 8] w fun e w'=>e=.returned (wv (rot v 24))/\w'=w:=by
 go_enter Tryz.func205,Tryz.ntmps205
 go_wp2_with (go_at_call 217;refine(rotR8 _ _).mono ?_;rintro e w' ⟨rfl,rfl⟩)
 go_ret;exact⟨rfl,rfl⟩
theorem UI (v:Wd) (w:World):Calls Tryz.prog 124 #[wv v,.int .u64 3] w fun e w'=>e=.returned (wv (rot v 3))/\w'=w:=by
 have M:=or3 v;go_enter Tryz.func124,Tryz.ntmps124
 go_wp2
 go_ret;exact⟨rfl,rfl⟩
theorem PN (v:Wd) (w:World):Calls Tryz.prog 123 #[wv v,.int .u64 8] w fun e w'=>e=.returned (wv (rot v 24))/\w'=w:=by
 have M:=ro24 v;go_enter Tryz.func123,Tryz.ntmps123
 go_wp2
 go_ret;exact⟨rfl,rfl⟩
def Cy (ks:Nat->UInt8) (d s m:Int) (W:Nat->Wd):Array Value:=
 ((List.range 16).map (fun i=>bv (ks i))++(([.int .u32 d,.int .i32 s,.int .u32 0,.int .u32 m]:List Value)++(List.range 27).map (fun j=>wv (W j)))).toArray
def KB (w:World) (b:Nat) (ks:Nat->UInt8) (d s m:Int) (W:Nat->Wd):Prop:=Blk w b 283 (Cy ks d s m W)
theorem NV (ks:Nat->UInt8) (d s m:Int) (W:Nat->Wd) (i:Nat) (h:i<16):(Cy ks d s m W)[i]? = some (bv (ks i)):=by
 rw[Cy,List.getElem?_toArray,List.getElem?_append_left (by simpa using h)];simp [h]
theorem GZ (ks:Nat->UInt8) (d s m:Int) (W:Nat->Wd) (i:Nat) (h:i<4):(Cy ks d s m W)[16+i]? = ([.int .u32 d,.int .i32 s,.int .u32 0,.int .u32 m]:List Value)[i]?:=by
 rw[Cy,List.getElem?_toArray,List.getElem?_append_right (by simp),List.getElem?_append_left (by simpa using h)];simp
theorem LF (ks:Nat->UInt8) (d s m:Int) (W:Nat->Wd) (i:Nat) (h:i<27):(Cy ks d s m W)[20+i]? = some (wv (W i)):=by
 rw[Cy,List.getElem?_toArray,List.getElem?_append_right (by simp;omega),List.getElem?_append_right (by simp;omega)];have:20+i - (List.map (fun i=>bv (ks i)) (List.range 16)).length - ([.int .u32 d,.int .i32 s,.int .u32 0,.int .u32 m]:List Value).length=i:=by simp;omega
 rw[this];simp [h]
theorem KD (ks:Nat->UInt8) (d s m M:Int) (W:Nat->Wd):(Cy ks d s m W).setIfInBounds 16 (.int .u32 M)=Cy ks M s m W:=by
 simp [Cy]
theorem KE (ks:Nat->UInt8) (d s m s':Int) (W:Nat->Wd):(Cy ks d s m W).setIfInBounds 17 (.int .i32 s')=Cy ks d s' m W:=by
 simp [Cy]
theorem KF (ks:Nat->UInt8) (d s m m':Int) (W:Nat->Wd):(Cy ks d s m W).setIfInBounds 19 (.int .u32 m')=Cy ks d s m' W:=by
 simp [Cy]
def upd (W:Nat->Wd) (i:Nat) (v:Wd) (j:Nat):Wd:=if j=i then v else W j
theorem Iy (ks:Nat->UInt8) (d s m:Int) (W:Nat->Wd) (i:Nat) (v:Wd):(Cy ks d s m W).setIfInBounds (20+i) (wv v)=Cy ks d s m (upd W i v):=by
 have e:((List.range 27).map fun j=>wv (W j)).set i (wv v)=(List.range 27).map fun j=>wv (upd W i v j):=by
  apply List.ext_getElem?;intro j;rw[List.getElem?_set,List.getElem?_map,List.getElem?_map]
  by_cases hj:i=j
  ·subst hj
   by_cases h27:i<27
   ·simp [h27,upd]
   ·simp [h27]
  ·have M:¬j=i:=fun h=>hj h.symm
   rw[if_neg hj];rcases Nat.lt_or_ge j 27 with h | h
   ·simp [h,upd,M]
   ·rw[List.getElem?_eq_none (by simpa using h)];rfl
 unfold Cy;rw[List.setIfInBounds_toArray,List.set_append_right _ _ (by simp;omega),List.set_append_right _ _ (by simp;omega)];have:20+i - (List.map (fun i=>bv (ks i)) (List.range 16)).length - ([.int .u32 d,.int .i32 s,.int .u32 0,.int .u32 m]:List Value).length=i:=by simp;omega
 rw[this,e]
section
variable {w w':World} {b:Nat} {ks:Nat->UInt8} {d s m:Int} {W:Nat->Wd}
theorem KB.cell (h:KB w b ks d s m W) (i:Nat):w.cell? ⟨b,i,none⟩=(Cy ks d s m W)[i]?:=Blk.cell h i
theorem KB.cd (h:KB w b ks d s m W):w.cell? ⟨b,16,none⟩=some (.int .u32 d):=(h.cell 16).trans (GZ ks d s m W 0 (by decide))
theorem KB.cs (h:KB w b ks d s m W):w.cell? ⟨b,17,none⟩=some (.int .i32 s):=(h.cell 17).trans (GZ ks d s m W 1 (by decide))
theorem KB.cm (h:KB w b ks d s m W):w.cell? ⟨b,19,none⟩=some (.int .u32 m):=(h.cell 19).trans (GZ ks d s m W 3 (by decide))
theorem KB.cw (h:KB w b ks d s m W) (i:Nat) (M:i<27):w.cell? ⟨b,20+i,none⟩=some (wv (W i)):=(h.cell _).trans (LF ks d s m W i M)
theorem KB.ck (h:KB w b ks d s m W) (i:Nat) (M:i<16):w.cell? ⟨b,i,none⟩=some (bv (ks i)):=(h.cell _).trans (NV ks d s m W i M)
theorem KB.fz (h:KB w b ks d s m W) (i:Nat):w.frozen? ⟨b,i,none⟩=false:=Blk.frozen h i
theorem KB.set_d (h:KB w b ks d s m W) (M:Int):KB (w.setCell ⟨b,16,none⟩ (.int .u32 M)) b ks M s m W:=by
 have:=Blk.set h 16 (.int .u32 M);rwa [KD] at this
theorem KB.set_s (h:KB w b ks d s m W) (s':Int):KB (w.setCell ⟨b,17,none⟩ (.int .i32 s')) b ks d s' m W:=by
 have:=Blk.set h 17 (.int .i32 s');rwa [KE] at this
theorem KB.set_m (h:KB w b ks d s m W) (m':Int):KB (w.setCell ⟨b,19,none⟩ (.int .u32 m')) b ks d s m' W:=by
 have:=Blk.set h 19 (.int .u32 m');rwa [KF] at this
theorem KB.set_word (h:KB w b ks d s m W) (i:Nat) (v:Wd):KB (w.setCell ⟨b,20+i,none⟩ (wv v)) b ks d s m (upd W i v):=by
 have:=Blk.set h (20+i) (wv v);rwa [Iy] at this
theorem KB.lt (h:KB w b ks d s m W):b<w.heap.size:=Blk.lt h
theorem KB.drewN (h:KB w b ks d s m W) (n:Nat):KB (w.drewN n) b ks d s m W:=h
theorem KB.drew (h:KB w b ks d s m W):KB w.drew b ks d s m W:=h
theorem KB.below (h:KB w b ks d s m W) (M:Below w.heap.size w w'):KB w' b ks d s m W:=Blk.below h M
theorem KB.grown {row:Option Nat} (h:KB w b ks d s m W) (O:w.grownBy w' row) (M:row≠some b):KB w' b ks d s m W:=Blk.grown h O M
end
theorem disable (w:World):(callFunc 230 #[]).run Tryz.prog w=.ok (.value (.tuple #[])) w:=run_call_mark0 Tryz.func230 (by kernel_rfl) (by kernel_rfl) (by kernel_rfl) .disable (by kernel_rfl) w
theorem enable (w:World):(callFunc 232 #[]).run Tryz.prog w=.ok (.value (.tuple #[])) w:=run_call_mark0 Tryz.func232 (by kernel_rfl) (by kernel_rfl) (by kernel_rfl) .enable (by kernel_rfl) w
theorem acquire (a:Addr) (w:World):(callFunc 233 #[.pointer (some a)]).run Tryz.prog w=.ok (.value (.tuple #[])) w:=run_call_marked Tryz.func233 (by kernel_rfl) (by kernel_rfl) (by kernel_rfl) .acquire (by kernel_rfl) a w
theorem releaseMerge (a:Addr) (w:World):(callFunc 235 #[.pointer (some a)]).run Tryz.prog w=.ok (.value (.tuple #[])) w:=run_call_marked Tryz.func235 (by kernel_rfl) (by kernel_rfl) (by kernel_rfl) .releaseMerge (by kernel_rfl) a w
theorem NW (a:Addr) (x:Value) (w:World) (Y:w.cell? a=some x) (Z:w.frozen? a=false) :
  Calls Tryz.prog 215 #[.pointer (some a),.bool true] w fun e w'=>e=.returned (.tuple #[])/\w'=w.drew.setCell a (.int .u32 1):=by
 have O:w.drew.cell? a=some x:=by go_simp
 have M:w.drew.frozen? a=false:=by go_simp
 have X:=run_call_store (P:=Tryz.prog) Tryz.func224 (by kernel_rfl) (by kernel_rfl) (by kernel_rfl) (by kernel_rfl) (k:=.u32) (y:=1) O M;go_enter Tryz.func215,Tryz.ntmps215
 go_wp2
 go_region_calls
 all_goals (go_end0;exact⟨rfl,rfl⟩)
theorem Gd (a:Addr) (x:Value) (u:FrameMode) (w:World) (Z:w.cell? a=some x) (hz:w.frozen? a=false) :
  CallsD Tryz.prog 215 #[.pointer (some a),.bool true] u w fun e Y w'=>Y=u/\(e=.returned (.tuple #[])/\w'=w.drew.setCell a (.int .u32 1)):=by
 have M:w.drew.cell? a=some x:=by go_simp
 have O:w.drew.frozen? a=false:=by go_simp
 have X:=run_call_store (P:=Tryz.prog) Tryz.func224 (by kernel_rfl) (by kernel_rfl) (by kernel_rfl) (by kernel_rfl) (k:=.u32) (y:=1) M O
 go_enter_d Tryz.func215,Tryz.ntmps215
 go_wp2
 go_region_calls
 all_goals (go_end0;exact⟨rfl,rfl⟩)
theorem Ed (a:Addr) (d:Int) (w:World) (M:w.cell? a=some (.int .u32 d)) (x:Bool) (O:(d != 0)=x) :
  Calls Tryz.prog 201 #[.pointer (some a)] w fun e w'=>e=.returned (.bool x)/\w'=w:=by
 have X:=run_call_load (P:=Tryz.prog) Tryz.func212 (by kernel_rfl) (by kernel_rfl) (by kernel_rfl) .u32 (by kernel_rfl) M;go_enter Tryz.func201,Tryz.ntmps201
 go_wp2
 go_ret;exact⟨rfl,rfl⟩
theorem Ft (a:Addr) (u:FrameMode) (w:World) (M:w.cell? a=some (.int .i32 1)) (X:w.frozen? a=false) :
  CallsD Tryz.prog 214 #[.pointer (some a)] u w fun e Z w'=>Z=u/\(e=.returned (.tuple #[])/\w'=w.setCell a (.int .i32 0)):=by
 have hd:=disable;have he:=enable;have hr:=releaseMerge;have O:=run_call_add (P:=Tryz.prog) Tryz.func236 (by kernel_rfl) (by kernel_rfl) (by kernel_rfl) .i32 (by kernel_rfl) (y:=-1) (s:=0) M X (by simp [go_sem];rfl);have Y:=run_convert_to_unsafe (P:=Tryz.prog) (src:=305) (dst:=309) Tryz.underlying305 Tryz.underlying309 (by kernel_rfl) M
 go_enter_d Tryz.func214,Tryz.ntmps214
 go_wp2
 go_end0
 go_wp2
 go_end0
 exact⟨rfl,rfl⟩
theorem KG (a:Addr) (w:World) (O:w.cell? a=some (.int .i32 0)) (Y:w.frozen? a=false) :
  Calls Tryz.prog 213 #[.pointer (some a)] w fun e w'=>e=.returned (.tuple #[])/\w'=w.setCell a (.int .i32 1):=by
 have hd:=disable;have he:=enable;have ha:=acquire;have X:=run_call_cas_hit (P:=Tryz.prog) Tryz.func231 (by kernel_rfl) (by kernel_rfl) (by kernel_rfl) .i32 (by kernel_rfl) (y:=1) O Y;have M:(w.setCell a (.int .i32 1)).cell? a=some (.int .i32 1):=World.cell?_setCell_same w a _ O;have Z:=run_convert_to_unsafe (P:=Tryz.prog) (src:=305) (dst:=309) Tryz.underlying305 Tryz.underlying309 (by kernel_rfl) M;go_enter Tryz.func213,Tryz.ntmps213
 go_wp2
 first | go_end0 | (simp only[Exit.inBlock,Exit.then];refine bodyPost_ret (results_none rfl _ _ _) rfl ?_) | refine bodyPost_ret (results_none rfl _ _ _) rfl ?_
 go_wp2
 go_end0
 exact⟨rfl,rfl⟩
def Bo (w w':World):Prop:=∃n,w'=w.drewN n
theorem DA (b o:Nat) (n c:Nat) (M b1 b2 b3:UInt8) (w:World) (O:4<=n)
  (Z:w.cell? ⟨b,o,none⟩=some (bv M)) (h1:w.cell? ⟨b,o+1,none⟩=some (bv b1)) (h2:w.cell? ⟨b,o+2,none⟩=some (bv b2)) (h3:w.cell? ⟨b,o+3,none⟩=some (bv b3)) :
  Calls Tryz.prog 216 #[.slice (some ⟨b,o,none⟩) n c] w fun e w'=>e=.returned (wv (le4 M b1 b2 b3))/\w'=w.drew:=by
 have k0:(0:Int)<n:=by omega
 have k1:(1:Int)<n:=by omega
 have k2:(2:Int)<n:=by omega
 have k3:(3:Int)<n:=by omega
 have k4:0<n:=by omega
 have k5:1<n:=by omega
 have k6:2<n:=by omega
 have k7:3<n:=by omega
 have Y:=I O;clear O;simp only[bv] at Z h1 h2 h3;have hle:=Xm M b1 b2 b3;have X:=IntKind.wrap_u32;have m0:(M.toNat:Int) % 4294967296=M.toNat:=by have:=BG M;omega
 have m1:(b1.toNat:Int) % 4294967296=b1.toNat:=by have:=BG b1;omega
 have m2:(b2.toNat:Int) % 4294967296=b2.toNat:=by have:=BG b2;omega
 have m3:(b3.toNat:Int) % 4294967296=b3.toNat:=by have:=BG b3;omega
 go_enter Tryz.func216,Tryz.ntmps216
 go_wp2_with fail
 go_region_held3 (fun w'=>w'.cell? ⟨b,o,none⟩=some (.int .u8 M.toNat)/\w'.cell? ⟨b,o+1,none⟩=some (.int .u8 b1.toNat)/\w'.cell? ⟨b,o+2,none⟩=some (.int .u8 b2.toNat)/\w'.cell? ⟨b,o+3,none⟩=some (.int .u8 b3.toNat)) (go_keep) (fail)
 all_goals (go_wp2;go_ret;exact⟨rfl,rfl⟩)
def Bw (ks:Nat->UInt8) (i j:Nat):Wd:=if j<=i then kw ks j else 0
theorem MT {w:World} {b:Nat} {ks:Nat->UInt8} {d s m:Int} {W:Nat->Wd} (M:KB w b ks d s m W) (i n c:Nat) (X:i<4) (O:4<=n) :
  Calls Tryz.prog 216 #[.slice (some ⟨b,4*i,none⟩) n c] w fun e w'=>e=.returned (wv (EW ks i))/\w'=w.drew:=
 DA b (4*i) n c _ _ _ _ w O (M.ck _ (by omega)) (M.ck _ (by omega)) (M.ck _ (by omega)) (M.ck _ (by omega))
theorem VE {w:World} {b:Nat} {ks:Nat->UInt8} {d s m:Int} {W:Nat->Wd} (M:KB w b ks d s m W) :
  Calls Tryz.prog 216 #[.slice (some ⟨b,0,none⟩) 16 16] w fun e w'=>e=.returned (wv (EW ks 0))/\w'=w.drew:=
 MT M 0 16 16 (by decide) (by decide)
theorem VF {w:World} {b:Nat} {ks:Nat->UInt8} {d s m:Int} {W:Nat->Wd} (M:KB w b ks d s m W) :
  Calls Tryz.prog 216 #[.slice (some ⟨b,4,none⟩) 12 12] w fun e w'=>e=.returned (wv (EW ks 1))/\w'=w.drew:=
 MT M 1 12 12 (by decide) (by decide)
theorem VG {w:World} {b:Nat} {ks:Nat->UInt8} {d s m:Int} {W:Nat->Wd} (M:KB w b ks d s m W) :
  Calls Tryz.prog 216 #[.slice (some ⟨b,8,none⟩) 8 8] w fun e w'=>e=.returned (wv (EW ks 2))/\w'=w.drew:=
 MT M 2 8 8 (by decide) (by decide)
theorem VH {w:World} {b:Nat} {ks:Nat->UInt8} {d s m:Int} {W:Nat->Wd} (M:KB w b ks d s m W) :
  Calls Tryz.prog 216 #[.slice (some ⟨b,12,none⟩) 4 4] w fun e w'=>e=.returned (wv (EW ks 3))/\w'=w.drew:=
 MT M 3 4 4 (by decide) (by decide)
theorem KB.heap {w w':World} {b:Nat} {ks:Nat->UInt8} {d s m:Int} {W:Nat->Wd} (h:KB w b ks d s m W) (e:w'.heap=w.heap):KB w' b ks d s m W:=by
 unfold KB Blk at *;rw[e];exact h
theorem KB.push {w w':World} {b:Nat} {ks:Nat->UInt8} {d s m:Int} {W:Nat->Wd} {o:Obj} (h:KB w b ks d s m W) (e:w'.heap=w.heap.push o):KB w' b ks d s m W:=by
 have M:=h.lt;unfold KB Blk at *;rw[e,Array.getElem?_push_lt M,<-Array.getElem?_eq_getElem M];exact h
def lc (ks:Nat->UInt8) (i j:Nat):Wd:=lw ks (i+(j+2*i) % 3)
def KH (ks:Nat->UInt8) (i:Nat):Array Value:=#[wv (lc ks i 0),wv (lc ks i 1),wv (lc ks i 2)]
theorem PO (ks:Nat->UInt8) (i:Nat):(KH ks i)[i % 3]? = some (wv (lw ks i)):=by
 have h:i % 3=0\/i % 3=1\/i % 3=2:=by omega
 rcases h with h | h | h<;>rw[h]
 ·show some (wv (lc ks i 0))=_
  rw[lc,show i+(0+2*i) % 3=i by omega]
 ·show some (wv (lc ks i 1))=_
  rw[lc,show i+(1+2*i) % 3=i by omega]
 ·show some (wv (lc ks i 2))=_
  rw[lc,show i+(2+2*i) % 3=i by omega]
theorem NY (ks:Nat->UInt8) (i:Nat):(KH ks i).setIfInBounds (i % 3) (wv (lw ks (i+3)))=KH ks (i+1):=by
 have h:i % 3=0\/i % 3=1\/i % 3=2:=by omega
 rcases h with h | h | h<;>rw[h]
 ·show #[wv (lw ks (i+3)),wv (lc ks i 1),wv (lc ks i 2)]=#[wv (lc ks (i+1) 0),wv (lc ks (i+1) 1),wv (lc ks (i+1) 2)]
  unfold lc;rw[show i+1+(0+2*(i+1)) % 3=i+3 by omega,show i+1+(1+2*(i+1)) % 3=i+(1+2*i) % 3 by omega,show i+1+(2+2*(i+1)) % 3=i+(2+2*i) % 3 by omega]
 ·show #[wv (lc ks i 0),wv (lw ks (i+3)),wv (lc ks i 2)]=#[wv (lc ks (i+1) 0),wv (lc ks (i+1) 1),wv (lc ks (i+1) 2)]
  unfold lc;rw[show i+1+(0+2*(i+1)) % 3=i+(0+2*i) % 3 by omega,show i+1+(1+2*(i+1)) % 3=i+3 by omega,show i+1+(2+2*(i+1)) % 3=i+(2+2*i) % 3 by omega]
 ·show #[wv (lc ks i 0),wv (lc ks i 1),wv (lw ks (i+3))]=#[wv (lc ks (i+1) 0),wv (lc ks (i+1) 1),wv (lc ks (i+1) 2)]
  unfold lc;rw[show i+1+(0+2*(i+1)) % 3=i+(0+2*i) % 3 by omega,show i+1+(1+2*(i+1)) % 3=i+(1+2*i) % 3 by omega,show i+1+(2+2*(i+1)) % 3=i+3 by omega]
theorem Iz (ks:Nat->UInt8) (i:Nat):upd (Bw ks i) (i+1) (kw ks (i+1))=Bw ks (i+1):=by
 funext j
 unfold upd Bw
 by_cases h:j=i+1
 ·subst h;simp
 ·by_cases h2:j<=i
  ·rw[if_neg h,if_pos h2,if_pos (by omega)]
  ·rw[if_neg h,if_neg h2,if_neg (by omega)]
theorem Hs (ks:Nat->UInt8):upd (fun _=>0) 0 (kw ks 0)=Bw ks 0:=by
 funext j
 unfold upd Bw
 by_cases h:j=0
 ·subst h;simp
 ·rw[if_neg h,if_neg (by omega)]
theorem Blk.far {w:World} {g:Nat} {t:TypeId} {cs:Array Value} (h:Blk w g t cs) (p:Addr) (u:Value) (M:p.block≠g):Blk (w.setCell p u) g t cs:=
 (Below.heap_setCell w p u g (fun e=>M e.symm)).trans h
theorem Oa (b:Nat) (ks:Nat->UInt8) (w:World) (hK:KB w b ks 0 1 0 (fun _=>0)) :
  Calls Tryz.prog 204 #[.pointer (some ⟨b,0,none⟩)] w fun e w'=>e=.returned (.tuple #[])/\KB w' b ks 0 1 1 (Bw ks 26)/\w.grownBy w' (some b):=by
 have ax:=hK.cw 0 (by decide);have ay:=VE (w:=w.drew) hK.drew;have aj:=hK.fz 20;go_enter Tryz.func204,Tryz.ntmps204
 go_upto_region 0 with fail
 go_cut [] from 5 to 13 (fun wx=>KB wx b ks 0 1 0 (Bw ks 0)/\w.grownBy wx (some b))
 case first=>
  go_region_held3 (fun w'=>True) (trivial) (first | (go_at_call 216;refine Ah ay ?_;rintro w' rfl))
  all_goals go_wp2_with fail
  all_goals go_meet
  all_goals
   have h1:=KB.set_word hK 0 (kw ks 0);rw[Hs] at h1;exact⟨h1,Bg (Bg (Ar (World.grownBy.refl _ _) (.inl rfl) _))⟩
 case rest=>
  obtain⟨M,aa⟩:=hcut;have au:∀w':World,KB w' b ks 0 1 0 (Bw ks 0)->_:=fun w' h=>VF h
  have af:∀w':World,KB w' b ks 0 1 0 (Bw ks 0)->_:=fun w' h=>VG h
  have ar:∀w':World,KB w' b ks 0 1 0 (Bw ks 0)->_:=fun w' h=>VH h
  go_upto_region 1 with fail
  go_cut [2] from 14 to 29 (fun p wx=>∃L,p=.pointer (some ⟨L,0,none⟩)/\w.heap.size<=L/\Blk wx L 296 (KH ks 0)/\KB wx b ks 0 1 0 (Bw ks 0)/\w.grownBy wx (some b))
  case first=>
   go_region_held3 (fun w'=>True) (trivial) (first | (go_at_call_of 216 (Value.slice (some (Addr.mk b 4 none)) 12 12);refine Ah (au _ (by first | exact KB.heap M rfl | exact KB.push M rfl)) ?_;rintro w' rfl) | (go_at_call_of 216 (Value.slice (some (Addr.mk b 8 none)) 8 8);refine Ah (af _ (by first | exact KB.heap M rfl | exact KB.push M rfl)) ?_;rintro w' rfl) | (go_at_call_of 216 (Value.slice (some (Addr.mk b 12 none)) 4 4);refine Ah (ar _ (by first | exact KB.heap M rfl | exact KB.push M rfl)) ?_;rintro w' rfl))
   all_goals go_wp2_with fail
   all_goals go_meet
   all_goals exact⟨_,rfl,aa.size,Blk.new wc _ _,Blk.alloc M _,Bg (Bg (Bg (Bg (Cc aa _))))⟩
  case rest=>
   obtain⟨L,rfl,hL,aw,ao,al⟩:=hcut;have aA:L≠b:=by have:=hK.lt;omega
   have aI:=FZ;have aG:=BD;have aL:=I hL;clear hL;have aJ:=I aw;clear aw;have aB:=I ao;clear ao;have aF:=I al;clear al;have H1:=I M;clear M;have H0:=I hK;clear hK;have G1:=I aa;clear aa;clear ay au af ar ax aj
   go_wp2_with fail
   go_loopw [30] (fun iv wr=>∃i:Nat,i<=26/\iv=.int .i64 (i:Int)/\Blk wr L 296 (KH ks i)/\KB wr b ks 0 1 0 (Bw ks i)/\w.grownBy wr (some b)) (fun iv _=>26 - (intOf iv).toNat)
   case atStart=>exact⟨0,by decide,rfl,aJ.o,aB.o,aF.o⟩
   case round=>
    obtain⟨i,hi,rfl,X,O,Z⟩:=hrel
    by_cases h26:i=26
    ·subst h26
     have Y:=I O;clear O;have ab:=I Z;clear Z;have ae:=I X;clear X
     go_wp2_with (go_at_call 215;refine Ah (NW _ _ _ (KB.cm Y.o) (KB.fz Y.o 19)) ?_;rintro w' rfl)
     go_end0
     have e1:=KB.set_m (KB.drew Y.o) 1;exact⟨rfl,e1,Ar (Bg ab.o) (.inl rfl) _⟩
    ·have ag:i<26:=by omega
     have aK:(0:Int)<=(i:Int):=by omega
     have aP:(i:Int)<27:=by omega
     have aE:i<27:=by omega
     have aX:(i:Int)+1<27:=by omega
     have aC:i+1<27:=by omega
     have ba:(i:Int)<26:=by omega
     obtain⟨r,hr⟩:=Aj (i % 3);have aM:(i:Int).tmod 3=(r:Int):=by rw[Int.tmod_eq_emod_of_nonneg aK];omega
     have aU:(r:Int)<3:=by omega
     have aS:r<3:=by omega
     obtain⟨k0,ek⟩:=Aj (kw ks i);obtain⟨a0,ea⟩:=Aj (lw ks i);obtain⟨v,ev⟩:=Aj (lw ks (i+3));obtain⟨u,eu⟩:=Aj (kw ks (i+1));have ck:wr.cell? ⟨b,20+i,none⟩=some (wv k0):=by
      have:=O.cw i aE;rw[Bw,if_pos Af,<-ek] at this;exact this
     have ca:wr.cell? ⟨L,r,none⟩=some (wv a0):=by rw[X.cell,hr,PO,ea]
     have fb:=O.fz;have fL:=X.frozen;obtain⟨ci,ec⟩:=Aj (BitVec.ofNat 32 i);obtain⟨ra,era⟩:=Aj (rot a0 24);obtain⟨rk,ad⟩:=Aj (rot k0 3);obtain⟨sm,es⟩:=Aj (k0+ra);have aD:IntKind.u32.wrap (i:Int)=(ci.toNat:Int):=by rw[ec];exact MS i
     have bb:(i:Int) % 4294967296=(ci.toNat:Int):=by rw[<-IntKind.wrap_u32];exact aD
     have aH:((k0.toNat:Int)+(ra.toNat:Int)) % 4294967296=(sm.toNat:Int):=by rw[es];exact FZ _ _
     have aO:IntKind.u32.wrap ((k0.toNat:Int)+(ra.toNat:Int))=(sm.toNat:Int):=by rw[IntKind.wrap_u32];exact aH
     have aR:bits .xor .u32 (sm.toNat:Int) (ci.toNat:Int)=(v.toNat:Int):=by rw[BD,ev,lw_3,es,era,ek,ea,ec]
     have aV:bits .xor .u32 (rk.toNat:Int) (v.toNat:Int)=(u.toNat:Int):=by rw[BD,ev,eu,PL,ad,ek]
     have ai:=UH a0;rw[<-era] at ai;have ak:=Xo k0;rw[<-ad] at ak;have aN:(wr.setCell ⟨L,r,none⟩ (wv v)).cell? ⟨b,20+i,none⟩=some (wv k0):=(World.cell?_setCell_other _ ⟨L,r,none⟩ ⟨b,20+i,none⟩ _ (by simp)).trans ck;have aT:(wr.setCell ⟨L,r,none⟩ (wv v)).cell? ⟨L,r,none⟩=some (wv v):=World.cell?_setCell_same _ _ _ ca;have aQ:∀j,(wr.setCell ⟨L,r,none⟩ (wv v)).frozen? ⟨b,j,none⟩=false:=fun j=>by simp [fb j]
     have an:∃y,(wr.setCell ⟨L,r,none⟩ (wv v)).cell? ⟨b,20+(i+1),none⟩=some y:=⟨_,(World.cell?_setCell_other _ ⟨L,r,none⟩ ⟨b,20+(i+1),none⟩ _ (by simp)).trans (O.cw (i+1) aC)⟩;obtain⟨y,an⟩:=an;have hh:=I ag;clear ag;have aY:=I h26;clear h26;have aW:=I hi;clear hi;have aZ:=I ek;clear ek;have bd:=I ea;clear ea;have az:=I ev;clear ev;have av:=I eu;clear eu;have ah:=I hr;clear hr;clear ec era ad es;have Y:=I O;clear O;have ab:=I Z;clear Z;have ae:=I X;clear X;clear aI aG
     go_wp2_with fail
     refine wp_region_still_tail 15 (by kernel_rfl) (by kernel_rfl) ?_;simp only[List.take_succ_cons,List.take_zero,List.drop_succ_cons,List.drop_zero];change wpStill _ _ wr.drew _ _ _
     repeat still_step
     still_call (ai wr.drew)
     repeat still_step
     refine wpStill_nil ?_;change wpList _ _ _ _ _ wr.drew
     go_wp2_with fail
     refine wp_region_still_tail 16 (by kernel_rfl) (by kernel_rfl) ?_;simp only[List.take_succ_cons,List.take_zero,List.drop_succ_cons,List.drop_zero];change wpStill _ _ (wr.setCell ⟨L,r,none⟩ (.int .u32 v.toNat)).drew.drew _ _ _;clear ck ca fb
     repeat still_step
     still_call (ak _)
     repeat still_step
     refine wpStill_nil ?_;change wpList _ _ _ _ _ (wr.setCell ⟨L,r,none⟩ (.int .u32 v.toNat)).drew.drew
     go_wp2_with fail
     go_roundw
     case rel=>
      refine⟨i+1,by have:=hh.o;omega,by go_num,?_,?_,?_⟩
      ·have e1:=ae.o.set r (wv v)
       rw[ah.o,az.o,NY] at e1;have e2:=Blk.far e1 ⟨b,20+(i+1),none⟩ (wv u) (by simpa using Ne.symm aA);rw[<-ah.o,<-az.o] at e2;exact e2
      ·have e1:KB (wr.setCell ⟨L,r,none⟩ (wv v)) b ks 0 1 0 (Bw ks i):=Blk.far Y.o ⟨L,r,none⟩ (wv v) (by simpa using aA)
       have e2:=KB.set_word e1 (i+1) u;rw[av.o,Iz,<-av.o] at e2;exact e2
      ·exact Bg (Bg (Ar (Ar ab.o (.inr aL.o) _) (.inl rfl) _))
     case measure=>have:=hh.o;simp [intOf];omega
abbrev Ha:Nat->Wd:=fun _=>0
def Key (w:World) (b:Nat) (ks:Nat->UInt8):Bool->Prop
 |false=>KB w b ks 0 0 0 Ha
 |true=>KB w b ks 1 0 1 (Bw ks 26)
theorem Er {a w c:World} {row:Option Nat} (h:a.grownBy w row) (k:w.grownBy c row):a.grownBy c row:=
 ⟨k.os.trans h.os,k.tape.trans h.tape,k.output.trans h.output,Nat.le_trans h.size k.size,fun i O M=>(k.block i (Nat.lt_of_lt_of_le O h.size) M).trans (h.block i O M)⟩
theorem slow (b:Nat) (ks:Nat->UInt8) (w:World) (Y:KB w b ks 0 0 0 Ha) :
  Calls Tryz.prog 202 #[.pointer (some ⟨b,16,none⟩),.func (.func 204) #[.pointer (some ⟨b,0,none⟩)] #[]] w fun e w'=>e=.returned (.tuple #[])/\KB w' b ks 1 0 1 (Bw ks 26)/\w.grownBy w' (some b):=by
 have M:KB (w.setCell ⟨b,17,none⟩ (.int .i32 1)) b ks 0 1 0 Ha:=Y.set_s 1;have g1:w.grownBy (w.setCell ⟨b,17,none⟩ (.int .i32 1)) (some b):=Ar (World.grownBy.refl _ _) (.inl rfl) _;have cl:=KG ⟨b,17,none⟩ w Y.cs (Y.fz 17);have cd:=Ed ⟨b,16,none⟩ 0 _ M.cd false rfl;have cm:=Oa b ks _ M;have af:∀(x:Bool) (w:World),(Op.unary .not (.bool x)).run Tryz.prog w=.ok (.bool (!x)) w:=fun _ _=>rfl
 have H:=I Y;clear Y;have H1:=I M;clear M;have G1:=I g1;clear g1
 go_enter_defers Tryz.func202,Tryz.ntmps202
 go_wp2_with (first | (go_at_call 213;refine Ah cl ?_;rintro w' rfl) | (go_at_call 201;refine Ah cd ?_;rintro w' rfl) | (go_at_call 204;refine Ah cm ?_;rintro w2 ⟨O,Z⟩))
 refine leaves_cons (f:=215) (args:=#[.pointer (some ⟨b,16,none⟩),.bool true]) (by simp) (by simp [go_sem]) ?_;refine(Gd ⟨b,16,none⟩ _ .returning w2 O.cd (O.fz 16)).mono ?_;rintro e u' ab ⟨rfl,rfl,rfl⟩;have X:=KB.set_d O.drew 1;refine leaves_cons (f:=214) (args:=#[.pointer (some ⟨b,17,none⟩)]) (by simp [settle]) (by simp [go_sem]) ?_;refine(Ft ⟨b,17,none⟩ _ _ X.cs (X.fz 17)).mono ?_;rintro e u' ab ⟨rfl,rfl,rfl⟩;have ad:=KB.set_s X 0;have aa:=Ar (row:=some b) (Ar (row:=some b) (Bg (World.grownBy.refl w2 (some b))) (p:=⟨b,16,none⟩) (.inl rfl) (.int .u32 1)) (p:=⟨b,17,none⟩) (.inl rfl) (.int .i32 0);have ae:=Er (Er G1.o Z) aa;simp [Leaves,settle,results,Tryz.results202];exact⟨ad,ae⟩
theorem JO (b:Nat) (ks:Nat->UInt8) (w:World) (O:KB w b ks 0 0 0 Ha) :
  Calls Tryz.prog 186 #[.pointer (some ⟨b,16,none⟩),.func (.func 204) #[.pointer (some ⟨b,0,none⟩)] #[]] w fun e w'=>e=.returned (.tuple #[])/\KB w' b ks 1 0 1 (Bw ks 26)/\w.grownBy w' (some b):=by
 have Z:=Ed ⟨b,16,none⟩ 0 w O.cd false rfl;have cs:=slow b ks w O;have Y:∀(x:Bool) (w:World),(Op.unary .not (.bool x)).run Tryz.prog w=.ok (.bool (!x)) w:=fun _ _=>rfl
 clear O;go_enter Tryz.func186,Tryz.ntmps186
 go_wp2_with (first | (go_at_call 201;refine Ah Z ?_;rintro w' rfl) | (go_at_call 202;refine Ah cs ?_;rintro w2 ⟨M,X⟩))
 go_end0
 exact⟨rfl,M,X⟩
theorem LG (b:Nat) (Y:Value) (w:World) (M:w.cell? ⟨b,16,none⟩=some (.int .u32 1)) :
  Calls Tryz.prog 186 #[.pointer (some ⟨b,16,none⟩),Y] w fun e w'=>e=.returned (.tuple #[])/\w'=w:=by
 have X:=Ed ⟨b,16,none⟩ 1 w M true rfl;have O:∀(x:Bool) (w:World),(Op.unary .not (.bool x)).run Tryz.prog w=.ok (.bool (!x)) w:=fun _ _=>rfl
 clear M;go_enter Tryz.func186,Tryz.ntmps186
 go_wp2_with (first | (go_at_call 201;refine Ah X ?_;rintro w' rfl))
 go_end0
 exact⟨rfl,rfl⟩
theorem GD (b:Nat) (ks:Nat->UInt8) (m:Bool) (w:World) (M:Key w b ks m) :
  Calls Tryz.prog 188 #[.pointer (some ⟨b,0,none⟩)] w fun e w'=>e=.returned (.tuple #[])/\Key w' b ks true/\w.grownBy w' (some b)/\(m=true->w'=w):=by
 have aa:∀(fn:Fn) (first cap:Array Value) (w:World),(Instr.makeFunc fn first cap).run Tryz.prog w=.ok (.func fn first cap) w:=fun _ _ _ _=>rfl
 cases m with
 |false=>
  have X:=JO b ks w M;clear M;go_enter Tryz.func188,Tryz.ntmps188
  go_wp2_with (first | (go_at_call 186;refine Ah X ?_;rintro w' ⟨O,Y⟩))
  go_end0
  exact⟨rfl,O,Y,fun h=>by cases h⟩
 |true=>
  have X:=fun Z=>LG b Z w (KB.cd M)
  have H:=I M;clear M;go_enter Tryz.func188,Tryz.ntmps188
  go_wp2_with (first | (go_at_call 186;refine Ah (X _) ?_;rintro w' rfl))
  go_end0
  exact⟨rfl,H.o,World.grownBy.refl _ _,fun _=>rfl⟩
theorem Key.word {w:World} {b:Nat} {ks:Nat->UInt8} (h:Key w b ks true) (i:Nat) (M:i<27):w.cell? ⟨b,20+i,none⟩=some (wv (kw ks i)):=by
 have:=KB.cw h i M
 rwa [Bw,if_pos (by omega)] at this
theorem Key.grown {w w':World} {b:Nat} {ks:Nat->UInt8} {m:Bool} {row:Option Nat} (h:Key w b ks m) (O:w.grownBy w' row) (M:row≠some b):Key w' b ks m:=by
 cases m with
 |false=>exact KB.grown h O M
 |true=>exact KB.grown h O M
theorem Key.lt {w:World} {b:Nat} {ks:Nat->UInt8} {m:Bool} (h:Key w b ks m):b<w.heap.size:=by
 cases m with
 |false=>exact KB.lt h
 |true=>exact KB.lt h
theorem Key.below {w w':World} {b:Nat} {ks:Nat->UInt8} {m:Bool} (h:Key w b ks m) (M:Below w.heap.size w w'):Key w' b ks m:=
 h.grown (By M none) (by simp)
theorem Ia (b:Nat) (ks:Nat->UInt8) (x y:Wd) (w:World) (hK:Key w b ks true) :
  Calls Tryz.prog 189 #[.pointer (some ⟨b,0,none⟩),wv x,wv y] w fun e w'=>e=.returned (.tuple #[wv (Ck (kw ks) (x,y)).1,wv (Ck (kw ks) (x,y)).2])/\w'=w:=by
 have hw:=fun i hi=>Key.word hK i hi
 clear hK;have HW:=I hw;clear hw;go_enter Tryz.func189,Tryz.ntmps189
 go_wp2_with fail
 go_loop [1,2,13] (fun xv yv iv=>∃i:Nat,i<=27/\iv=.int .i64 (i:Int)/\xv=wv (Hx (kw ks) i (x,y)).1/\yv=wv (Hx (kw ks) i (x,y)).2) (fun _ _ iv=>27 - (intOf iv).toNat)
 case atStart=>exact⟨0,by decide,rfl,rfl,rfl⟩
 case round=>
  obtain⟨i,hi,rfl,rfl,rfl⟩:=hrel
  by_cases h27:i=27
  ·subst h27
   go_wp2_with fail
   go_ret2
   exact⟨rfl,rfl⟩
  ·have ag:(0:Int)<=(i:Int):=by omega
   have ah:(i:Int)<27:=by omega
   have ab:i<27:=by omega
   obtain⟨p,ep⟩:=Aj (Hx (kw ks) i (x,y));obtain⟨k0,ek⟩:=Aj (kw ks i);obtain⟨x0,ex⟩:=Aj (p.1);obtain⟨y0,ey⟩:=Aj (p.2);obtain⟨rx,O⟩:=Aj (rot x0 24);obtain⟨ry,M⟩:=Aj (rot y0 3);obtain⟨sm,es⟩:=Aj (rx+y0);obtain⟨x1,X⟩:=Aj (sm ^^^ k0);obtain⟨y1,Y⟩:=Aj (ry ^^^ x1);have ck:w.cell? ⟨b,20+i,none⟩=some (wv k0):=by rw[ek];exact HW.o i ab
   have ae:((rx.toNat:Int)+(y0.toNat:Int)) % 4294967296=(sm.toNat:Int):=by rw[es];exact FZ _ _
   have af:bits .xor .u32 (sm.toNat:Int) (k0.toNat:Int)=(x1.toNat:Int):=by rw[X];exact BD _ _
   have ai:bits .xor .u32 (ry.toNat:Int) (x1.toNat:Int)=(y1.toNat:Int):=by rw[Y];exact BD _ _
   have aa:=UH x0;rw[<-O] at aa;have ad:=Xo y0;rw[<-M] at ad;have hn:Hx (kw ks) (i+1) (x,y)=(x1,y1):=by rw[Hx,<-ep,step,<-ex,<-ey,<-ek,<-O,<-M,<-es,<-X,<-Y]
   rw[<-ep,<-ex,<-ey];have Z:=I hn;clear hn;have hh:=I ab;clear ep ek ex ey O M es X Y hi h27
   go_wp2_with (first | (go_at_call 205;refine Ah (aa _) ?_;rintro w' rfl) | (go_at_call 206;refine Ah (ad _) ?_;rintro w' rfl))
   go_round
   case rel=>exact⟨i+1,by have:=hh.o;omega,by go_num,by rw[Z.o],by rw[Z.o]⟩
   case measure=>have:=hh.o;simp [intOf];omega
theorem Blk.new_of (w:World) (g:Nat) (t:TypeId) (cs M:Array Value) (e:cs=M) (O:w.heap.size=g):Blk (w.alloc (.cells cs t)) g t M:=O▸e▸Blk.new w t cs
theorem AY {B:Nat} {a w:World} (h:Below B a w) {p:Addr} (O:B<=p.block) (u:Value):Below B a (w.setCell p u):=
 ⟨h.os,h.tape,h.output,by simpa [World.setCell] using h.size,fun i M=>(Below.heap_setCell w p u i (by omega)).trans (h.block i M)⟩
theorem Al {P:Program} {fn:Func} {tmps:Array Value} {w:World} {v:Value} (t:Nat) (ty:TypeId) (a:Addr) (M:fn.results=#[.cell t ty]) (X:tmps.getD t undef=.pointer (some a)) (Y:(loadVar ty a).run P w=.ok v w) :
  (results fn tmps).run P w=.ok v w:=by
 have O:tmps[t]?.getD undef=.pointer (some a):=by simpa using X
 simp [results,M,O,asAddr,Y]
theorem Ao {P:Program} {w:World} {g:Nat} {t ty:TypeId} {cs:Array Value} {d:TypeDesc} (h:Blk w g t cs) (hu:P.underlying ty=some d) (O:d.isRow=true) (M:(P.info? ty).map (·.size)=some cs.size) :
  (loadVar ty ⟨g,0,none⟩).run P w=.ok (.agg cs) w:=by
 have X:w.rangeAt g 0 cs.toList:=fun j v Y=>by rw[Nat.zero_add,h.cell];simpa using Y
 have:=run_loadVar_mid (P:=P) w g 0 ty cs.toList d X hu O (by simpa using M)
 simpa using this
def AM (ks:Nat->UInt8):Array Value:=((List.range 16).map (fun i=>bv (ks i))).toArray
theorem JP (ks:Nat->UInt8) (w:World):Calls Tryz.prog 203 #[.agg (AM ks)] w fun e w'=>∃b,e=.returned (.pointer (some ⟨b,0,none⟩))/\w.heap.size<=b/\Key w' b ks false/\Below w.heap.size w w':=by
 have hk:AM ks=#[bv (ks 0),bv (ks 1),bv (ks 2),bv (ks 3),bv (ks 4),bv (ks 5),bv (ks 6),bv (ks 7),bv (ks 8),bv (ks 9),bv (ks 10),bv (ks 11),bv (ks 12),bv (ks 13),bv (ks 14),bv (ks 15)]:=rfl;rw[hk];simp only[bv];clear hk;go_enter Tryz.func203,Tryz.ntmps203
 go_wp2
 go_ret;exact⟨w.heap.size+1,rfl,Nat.le_succ _,Blk.new_of (w.alloc _) _ 283 _ (Cy ks 0 0 0 Ha) (by kernel_rfl) (by simp),((Below.refl w.heap.size w).alloc Af _).alloc (by simp) _⟩
def DT (K:Nat->Wd) (up lo:Wd) (n m:Nat):Array Value:=((List.range n).map fun i=>if i<m then bv (Ep K up lo i) else bv 0).toArray
theorem PQ (K:Nat->Wd) (up lo:Wd) (n m i:Nat) (h:i<n):(DT K up lo n m)[i]? = some (if i<m then bv (Ep K up lo i) else bv 0):=by
 rw[DT,List.getElem?_toArray];simp [h]
theorem LH (K:Nat->Wd) (up lo:Wd) (n:Nat):Da n=DT K up lo n 0:=by
 unfold Da DT
 congr 1
 apply List.ext_getElem?;intro j;rw[List.getElem?_map];rcases Nat.lt_or_ge j n with h | h
 ·simp [h]
 ·rw[List.getElem?_eq_none (by simpa using h),List.getElem?_eq_none (by simpa using h)];rfl
theorem Ob (K:Nat->Wd) (up lo:Wd) (n m:Nat) (h:m<n):(DT K up lo n m).setIfInBounds m (bv (Ep K up lo m))=DT K up lo n (m+1):=by
 unfold DT;rw[List.setIfInBounds_toArray]
 congr 1
 apply List.ext_getElem?;intro j;rw[List.getElem?_set,List.getElem?_map,List.getElem?_map]
 by_cases hj:m=j
 ·subst hj;simp [h]
 ·rw[if_neg hj]
  rcases Nat.lt_or_ge j n with M | M
  ·have e:(j<m)=(j<m+1):=propext ⟨by omega,by omega⟩
   simp [M,e]
  ·rw[List.getElem?_eq_none (by simpa using M)];rfl
theorem Oc (K:Nat->Wd) (up lo:Wd) (n m:Nat) (h:n<=m):DT K up lo n m=(bvs (strm K up lo n)).toArray:=by
 unfold DT strm bvs;rw[List.map_map]
 congr 1
 apply List.map_congr_left;intro j M;rw[if_pos (by have:=List.mem_range.1 M;omega)];rfl
theorem SN (K:Nat->Wd) (up lo:Wd) (i:Nat):Jb K up lo i<18446744073709551616:=by
 have M:=Gh (Ck K (up,lo+BitVec.ofNat 32 i)).1;have O:=Gh (Ck K (up,lo+BitVec.ofNat 32 i)).2;unfold Jb;omega
theorem LI (K:Nat->Wd) (up lo:Wd) (n j g c:Nat) (w:World) (h8:8*j<n) (hn:n<=2147483647) (hB:Blk w g 5 (DT K up lo n (8*j))) :
  Calls Tryz.prog 190 #[.slice (some ⟨g,8*j,none⟩) (n - 8*j) c,.int .u64 (Jb K up lo j:Nat)] w fun e w'=>e=.returned (.tuple #[])/\Blk w' g 5 (DT K up lo n (min (8*j+8) n))/\w.grownBy w' (some g):=by
 obtain⟨X,eX⟩:=Aj (Jb K up lo j);obtain⟨L,eL⟩:=Aj (n - 8*j);obtain⟨M,eM⟩:=Aj (min L 8);obtain⟨o,eo⟩:=Aj (8*j);rw[<-eX,<-eL,<-eo];rw[<-eo] at hB;have hX:X<18446744073709551616:=eX▸SN K up lo j;have aa:min (L:Int) 8=(M:Int):=by omega
 have EX:=I eX;clear eX;have EL:=I eL;clear eL;have EM:=I eM;clear eM;have EO:=I eo;clear eo;have HB:=I hB;clear hB;have H8:=I h8;clear h8;have HN:=I hn;clear hn;go_enter Tryz.func190,Tryz.ntmps190
 go_upto_region 0 with fail
 go_cut [7,8] from 5 to 8 (fun mv zv wx=>mv=.int .i64 (M:Int)/\zv=.int .i64 0/\wx=w)
 case first=>
  go_wp2_with fail
  all_goals go_meet
  all_goals exact⟨congrArg (Value.int .i64) (by omega),rfl,rfl⟩
 obtain⟨rfl,rfl,rfl⟩:=hcut;clear aa
 go_wp2_with fail
 go_loopw [8] (fun iv wr=>∃i:Nat,i<=M/\iv=.int .i64 (i:Int)/\Blk wr g 5 (DT K up lo n (o+i))/\wc.grownBy wr (some g)) (fun iv _=>M - (intOf iv).toNat)
 case atStart=>exact⟨0,Nat.zero_le _,rfl,HB.o,World.grownBy.refl _ _⟩
 case round=>
  obtain⟨i,hi,rfl,hB,hg⟩:=hrel
  by_cases hM:i=M
  ·have e1:decide ((i:Int)<(M:Int))=false:=by simp;omega
   have e2:¬i<M:=by omega
   have O:=I hB;clear hB;have Y:=I hg;clear hg;have HM:=I hM;clear hM
   go_wp2_with fail
   go_end0
   refine⟨rfl,?_,Y.o⟩;have e:o+i=min (o+8) n:=by have:=EM.o;have:=EL.o;have:=EO.o;have:=H8.o;have:=HM.o;omega
   rw[<-e];exact O.o
  ·have e1:(i:Int)<(M:Int):=by omega
   have e2:i<M:=by omega
   have e3:i<L:=by have:=EM.o;omega
   have e4:(i:Int)<(L:Int):=by omega
   have e5:(0:Int)<=(i:Int):=by omega
   have e6:i<8:=by have:=EM.o;omega
   have Z:o+i<n:=by have:=EM.o;have:=EL.o;have:=EO.o;omega
   have hy:=hB.cell (o+i);rw[PQ _ _ _ _ _ _ Z,if_neg (by omega)] at hy;simp only[bv] at hy;have fz:=hB.frozen;have O:=I hB;clear hB;have Y:=I hg;clear hg;clear hM
   go_wp2_with fail
   go_roundw
   case rel=>
    refine⟨i+1,by omega,by go_num,?_,Ar Y.o (.inl rfl) _⟩;have hs:=O.o.set (o+i) (bv (Ep K up lo (o+i)));rw[Ob K up lo n (o+i) Z] at hs;have hv:bv (Ep K up lo (o+i))=.int .u8 ((X:Int) / 2 ^ (8*i) % 256):=by
     have q1:(o+i) / 8=j:=by have:=EO.o;omega
     have q2:(o+i) % 8=i:=by have:=EO.o;omega
     have q3:(2:Nat) ^ (8*i)=256 ^ i:=by rw[Nat.pow_mul]
     unfold bv Ep;rw[q1,q2,<-EX.o,UInt8.toNat_ofNat',<-q3]
     congr 1
    rw[hv] at hs;exact hs
   case measure=>simp [intOf];omega
theorem Od (b:Option Addr) (N:Int) (n:Int) (w:World) (h:b=none\/n<1) :
  Calls Tryz.prog 153 #[.pointer b,.int .u64 N,.int .i64 n] w fun e w'=>e=.returned (.slice none 0 0)/\w'=w:=by
 by_cases hb:b=none
 ·subst hb
  clear h;go_enter Tryz.func153,Tryz.ntmps153
  go_wp2
  go_ret;exact⟨rfl,rfl⟩
 ·have M:n<1:=h.resolve_left hb
  have O:decide (n<1)=true:=by simpa using M
  cases b with
  |none=>exact absurd rfl hb
  |some a=>
   clear hb h;go_enter Tryz.func153,Tryz.ntmps153
   go_wp2
   go_ret;exact⟨rfl,rfl⟩
theorem Cd:(Tryz.prog.info? 5).map (fun i=>(i.zero,i.size,i.bytes))=some (some (.int .u8 0),1,1):=by kernel_rfl
def upW (N:Nat):Wd:=BitVec.ofNat 32 (N / 4294967296)
def loW (N:Nat):Wd:=BitVec.ofNat 32 N
theorem SP (x y:Wd):bits .or .u64 ((y.toNat:Int)*4294967296 % 18446744073709551616) (x.toNat:Int)=((x.toNat+4294967296*y.toNat:Nat):Int):=by
 have M:=Gh x;have O:=Gh y;have e:(y.toNat:Int)*4294967296 % 18446744073709551616=((y.toNat*4294967296:Nat):Int):=by omega
 rw[e,u64_or_nat _ _ (by omega) (by omega),nat_join 32 (y.toNat*4294967296) x.toNat (by omega) (by omega)];omega
theorem Oe (b:Nat) (ks:Nat->UInt8) (m:Bool) (N n:Nat) (nv:Int) (w:World) (az:nv=(n:Int)) (au:1<=n) (ah:n<=1000000) (hN:N<18446744073709551616) (hK:Key w b ks m) :
  Calls Tryz.prog 153 #[.pointer (some ⟨b,0,none⟩),.int .u64 (N:Int),.int .i64 nv] w fun e w'=>∃g,e=.returned (.slice (some ⟨g,0,none⟩) n n)/\w.heap.size<=g/\
   Blk w' g 5 (bvs (strm (kw ks) (upW N) (loW N) n)).toArray/\Key w' b ks true/\w.grownBy w' (some b)/\(m=true->Below w.heap.size w w'):=by
 subst az;have cn:=GD b ks m w hK;have Z:=hK.lt;have i1:decide ((n:Int)<1)=false:=by simp;omega
 have i2:decide (2147483647<(n:Int))=false:=by simp;omega
 have i3:¬(n:Int)<1:=by omega
 have i4:¬2147483647<(n:Int):=by omega
 have af:(N:Int) / 4294967296 % 4294967296=((upW N).toNat:Int):=by rw[upW,BitVec.toNat_ofNat];omega
 have aa:(N:Int) % 4294967296=((loW N).toNat:Int):=by rw[loW,BitVec.toNat_ofNat];omega
 obtain⟨up,ab⟩:=Aj (upW N);obtain⟨lo,ae⟩:=Aj (loW N);rw[<-ab] at af;rw[<-ae] at aa;rw[<-ab,<-ae];obtain⟨it,aH,aE,ax,aC⟩:=info_parts Cd;have aL:=fun W=>Gc (P:=Tryz.prog) (t:=24) (e:=5) Tryz.underlying24 aH aE ax aC (n:Int) n rfl (by omega) W
 have N1:=I au;clear au;have N2:=I ah;clear ah;have BL:=I Z;clear Z;clear hK hN ab ae;go_enter Tryz.func153,Tryz.ntmps153
 go_wp2_with (first | (go_at_call 188;refine Ah cn ?_;rintro w2 ⟨ak,aj,aw⟩;have ao:=I ak;clear ak;have ai:=I aj;clear aj;have aG:=I aw;clear aw))
 rw[af,aa];clear af aa;obtain⟨g,eg⟩:=Aj (w2.heap.size);rw[<-eg];have EG:=I eg;clear eg
 go_loopw [9,10] (fun lv iv wr=>∃j:Nat,8*j<n+8/\iv=.int .i64 ((8*j:Nat):Int)/\lv=wv (lo+BitVec.ofNat 32 j)/\Blk wr g 5 (DT (kw ks) up lo n (min (8*j) n))/\Below g w2 wr) (fun _ iv _=>n+8 - (intOf iv).toNat)
 case atStart=>
  refine⟨0,by omega,rfl,?_,?_,?_⟩
  ·show Value.int .u32 _=_
   simp
  ·have:=LH (kw ks) up lo n
   rw[show min (8*0) n=0 by omega,<-this,EG.o];exact Blk.new w2 _ _
  ·rw[EG.o];exact Ag.alloc Af _
 case round=>
  obtain⟨j,hj,rfl,rfl,hB,hb⟩:=hrel;obtain⟨o,eo⟩:=Aj (8*j);rw[<-eo] at hB hj⊢;obtain⟨l0,O⟩:=Aj (lo+BitVec.ofNat 32 j);rw[<-O]
  by_cases hd:n<=o
  ·have e1:decide ((o:Int)<(n:Int))=false:=by simp;omega
   have e2:¬o<n:=by omega
   have an:=I hB;clear hB;have M:=I hb;clear hb;clear hj hd O
   go_wp2_with fail
   go_ret;have aA:Key wr b ks true:=ao.o.below (EG.o▸M.o);have ay:w.grownBy wr (some b):=Gu ai.o (EG.o▸M.o);refine⟨g,rfl,?_,?_,aA,ay,?_⟩
   ·rw[EG.o];exact ai.o.size
   ·have:=an.o
    rw[Nat.min_eq_right (by omega),Oc _ _ _ _ _ Af] at this;exact this
   ·intro hm
    have h2:=aG.o hm;subst h2;exact EG.o▸M.o
  ·have e1:(o:Int)<(n:Int):=by omega
   have e2:o<n:=by omega
   have e3:(0:Int)<=(o:Int):=by omega
   have e4:(o:Int)<=(n:Int):=by omega
   have e5:o<=n:=by omega
   obtain⟨x0,ex⟩:=Aj ((Ck (kw ks) (up,l0)).1);obtain⟨Y,ey⟩:=Aj ((Ck (kw ks) (up,l0)).2);obtain⟨l1,ad⟩:=Aj (lo+BitVec.ofNat 32 (j+1));have hX:Jb (kw ks) up lo j=x0.toNat+4294967296*Y.toNat:=by rw[Jb,<-O,<-ex,<-ey]
   obtain⟨X,eX⟩:∃X:Nat,X=Jb (kw ks) up lo j:=⟨_,rfl⟩;have al:Key wr b ks true:=ao.o.below (EG.o▸hb);have ct:=Ia b ks up l0 wr al;rw[<-ex,<-ey] at ct;have ar:Blk wr g 5 (DT (kw ks) up lo n (8*j)):=by rw[Nat.min_eq_left e5,eo] at hB;exact hB
   have cp:=LI (kw ks) up lo n j g (n - 8*j) wr (eo▸e2) (by have:=N2.o;omega) ar;rw[<-eo,<-eX] at cp;have cy:(Y.toNat:Int) % 18446744073709551616=(Y.toNat:Int):=by have:=Gh Y;omega
   have cx:(x0.toNat:Int) % 18446744073709551616=(x0.toNat:Int):=by have:=Gh x0;omega
   have aI:bits .or .u64 ((Y.toNat:Int)*4294967296 % 18446744073709551616) (x0.toNat:Int)=(X:Int):=by rw[eX,hX];exact SP x0 Y
   have aJ:bits .or .u64 ((Y.toNat:Int)*4294967296) (x0.toNat:Int)=(X:Int):=by
    have hm:(Y.toNat:Int)*4294967296 % 18446744073709551616=(Y.toNat:Int)*4294967296:=by have:=Gh Y;omega
    rw[<-hm];exact aI
   have cl:((l0.toNat:Int)+1) % 4294967296=(l1.toNat:Int):=by
    rw[ad,O,BitVec.toNat_add,BitVec.toNat_add,BitVec.toNat_ofNat,BitVec.toNat_ofNat];omega
   have an:=I hB;clear hB;have M:=I hb;clear hb;have HX:=I eX;clear eX;have aB:=I ad;clear ad;have HO:=I eo;clear eo;have aK:=I e5;clear hX al ar ex ey O hj hd
   go_wp2_with (first | (go_at_call 189;refine Ah ct ?_;rintro w' rfl) | (go_at_call 190;refine Ah cp ?_;rintro w3 ⟨av,ag⟩;have aD:=I av;clear av;have aF:=I ag;clear ag))
   go_roundw
   case rel=>
    refine⟨j+1,by have:=HO.o;omega,?_,by rw[<-aB.o];exact congrArg (Value.int .u32) cl,?_,?_⟩
    ·exact congrArg (Value.int .i64) (by have:=HO.o;omega)
    ·have:=aD.o
     rw[show o+8=8*(j+1) by have:=HO.o;omega] at this;exact this
    ·exact Below.grown M.o aF.o (by rw[EG.o];exact M.o.size) (fun k hk=>by injection hk with hk;omega)
   case measure=>have:=HO.o;simp [intOf];omega
def ksOf (l:List UInt8) (i:Nat):UInt8:=l.getD i 0
theorem FM (f:Nat->UInt8) (j:Nat) (M:j<16):(AM f)[j]? = some (bv (f j)):=by
 rw[AM,List.getElem?_toArray];simp [M]
theorem IA {f g:Nat->UInt8} (h:∀j,j<16->f j=g j):AM f=AM g:=by
 unfold AM
 congr 1
 apply List.map_congr_left;intro j M;rw[h j (by simpa using M)]
def Bc (W:Nat->Wd):Array Value:=((List.range 27).map (fun j=>wv (W j))).toArray
theorem FN (W:Nat->Wd) (i:Nat) (h:i<27):(Bc W)[i]? = some (wv (W i)):=by
 rw[Bc,List.getElem?_toArray];simp [h]
theorem IB (W:Nat->Wd) (i:Nat) (v:Wd):(Bc W).setIfInBounds i (wv v)=Bc (upd W i v):=by
 unfold Bc;rw[List.setIfInBounds_toArray]
 congr 1
 apply List.ext_getElem?;intro j;rw[List.getElem?_set,List.getElem?_map,List.getElem?_map]
 by_cases hj:i=j
 ·subst hj
  rcases Nat.lt_or_ge i 27 with h | h
  ·simp [h,upd]
  ·simp [Nat.not_lt.2 h]
 ·rw[if_neg hj]
  have M:¬j=i:=fun h=>hj h.symm
  rcases Nat.lt_or_ge j 27 with h | h
  ·simp [h,upd,M]
  ·rw[List.getElem?_eq_none (by simpa using h)];rfl
def kz (ks:Nat->UInt8) (i j:Nat):UInt8:=if j<i then ks j else 0
theorem LJ (ks:Nat->UInt8) (i j:Nat) (h:j<i):kz ks i j=ks j:=if_pos h
theorem LK (ks:Nat->UInt8) (i j:Nat) (h:i<=j):kz ks i j=0:=if_neg (by omega)
def Ga (ks:Nat->UInt8) (t i:Nat):Wd:=EW (kz ks i) t
def IC (ks:Nat->UInt8) (i:Nat):Array Value:=#[wv (Ga ks 0 i),wv (Ga ks 1 i),wv (Ga ks 2 i),wv (Ga ks 3 i)]
theorem BI (ks:Nat->UInt8) (t i:Nat) (h:t≠i / 4):Ga ks t (i+1)=Ga ks t i:=by
 have e:∀j,j / 4=t->kz ks (i+1) j=kz ks i j:=fun j M=>by
  unfold kz
  by_cases h2:j<i
  ·rw[if_pos h2,if_pos (by omega)]
  ·rw[if_neg h2,if_neg (by omega)]
 unfold Ga EW;rw[e _ (by omega),e _ (by omega),e _ (by omega),e _ (by omega)]
theorem Of (ks:Nat->UInt8) (q r i:Nat) (X:r<4) (M:i=4*q+r):bits .or .u32 ((Ga ks q i).toNat:Int) (((ks i).toNat:Int)*2 ^ (8*r) % 4294967296)=((Ga ks q (i+1)).toNat:Int):=by
 have hk:=(ks i).toNat_lt;have O:=(ks (4*q)).toNat_lt;have l1:=(ks (4*q+1)).toNat_lt;have l2:=(ks (4*q+2)).toNat_lt;have l3:=(ks (4*q+3)).toNat_lt;have h:r=0\/r=1\/r=2\/r=3:=by omega
 have z:(0:UInt8).toNat=0:=rfl;unfold Ga EW;rcases h with rfl | rfl | rfl | rfl
 ·subst M
  have e:((ks (4*q+0)).toNat:Int)*2 ^ (8*0) % 4294967296=(((ks (4*q)).toNat:Nat):Int):=by simp only[Nat.add_zero];omega
  rw[e,u32_or_nat _ _ (BitVec.isLt _) (by omega),Dt,Dt];simp (disch:=omega) only[LJ,LK,z];simp
 ·subst M
  have e:((ks (4*q+1)).toNat:Int)*2 ^ (8*1) % 4294967296=(((ks (4*q+1)).toNat*256:Nat):Int):=by omega
  rw[e,u32_or_nat _ _ (BitVec.isLt _) (by omega),Nat.or_comm,nat_join 8 _ _ (by omega) (by rw[Dt];simp (disch:=omega) only[LJ,LK,z];omega),Dt,Dt];simp (disch:=omega) only[LJ,LK,z];omega
 ·subst M
  have e:((ks (4*q+2)).toNat:Int)*2 ^ (8*2) % 4294967296=(((ks (4*q+2)).toNat*65536:Nat):Int):=by omega
  rw[e,u32_or_nat _ _ (BitVec.isLt _) (by omega),Nat.or_comm,nat_join 16 _ _ (by omega) (by rw[Dt];simp (disch:=omega) only[LJ,LK,z];omega),Dt,Dt];simp (disch:=omega) only[LJ,LK,z];omega
 ·subst M
  have e:((ks (4*q+3)).toNat:Int)*2 ^ (8*3) % 4294967296=(((ks (4*q+3)).toNat*16777216:Nat):Int):=by omega
  rw[e,u32_or_nat _ _ (BitVec.isLt _) (by omega),Nat.or_comm,nat_join 24 _ _ (by omega) (by rw[Dt];simp (disch:=omega) only[LJ,LK,z];omega),Dt,Dt];simp (disch:=omega) only[LJ,LK,z];omega
theorem GF (ks:Nat->UInt8) (t:Nat) (h:t<4):Ga ks t 16=EW ks t:=by
 unfold Ga EW kz;rw[if_pos (by omega),if_pos (by omega),if_pos (by omega),if_pos (by omega)]
theorem Fu (ks:Nat->UInt8) (q i:Nat) (h:q<4):(IC ks i)[q]? = some (wv (Ga ks q i)):=by
 have M:q=0\/q=1\/q=2\/q=3:=by omega
 rcases M with rfl | rfl | rfl | rfl<;>rfl
theorem Og (ks:Nat->UInt8) (i:Nat) (h:i<16):(IC ks i).setIfInBounds (i / 4) (wv (Ga ks (i / 4) (i+1)))=IC ks (i+1):=by
 have M:i / 4=0\/i / 4=1\/i / 4=2\/i / 4=3:=by omega
 unfold IC;rcases M with e | e | e | e<;>rw[e]
 ·rw[BI ks 1 i (by omega),BI ks 2 i (by omega),BI ks 3 i (by omega)];rfl
 ·rw[BI ks 0 i (by omega),BI ks 2 i (by omega),BI ks 3 i (by omega)];rfl
 ·rw[BI ks 0 i (by omega),BI ks 1 i (by omega),BI ks 3 i (by omega)];rfl
 ·rw[BI ks 0 i (by omega),BI ks 1 i (by omega),BI ks 2 i (by omega)];rfl
theorem FO (w:World) (t:TypeId) (cs:Array Value) (l:List Value) (h:cs.toList=l) (N:Nat) (M:w.heap.size=N):Rd (w.alloc (.cells cs t)) (N+1) (some ⟨N,0,none⟩) l:=by
 subst M;refine .inr ⟨w.heap.size,0,rfl,by omega,fun i u hu=>?_⟩;rw[Nat.zero_add,(Blk.new w t cs).cell i];rw[<-h] at hu
 simpa using hu
theorem KI {w:World} {base:Nat} {t:TypeId} {v:Value} {n:Nat} {xs:List Value} (h:w.ownsRow base t 1 v n xs) (hn:0<n):∃g cap,v=.slice (some ⟨g,0,none⟩) n cap/\base<=g/\g<w.heap.size/\∀i u,xs[i]? = some u->w.cell? ⟨g,i,none⟩=some u:=by
 obtain⟨hl,h | ⟨g,cap,cur,rfl,Z,M,aa,X,O,Y⟩⟩:=h
 ·omega
 ·refine⟨g,cap,rfl,Z,Blk.lt (t:=t) (cs:=cur) M,fun i u hu=>?_⟩
  rw[Blk.cell (t:=t) (cs:=cur) M i];rw[<-Y,List.getElem?_take] at hu
  split at hu
  ·simpa using hu
  ·cases hu
theorem DU {w w':World} {base:Nat} {t:TypeId} {v:Value} {n:Nat} {xs:List Value} {o:Obj} (h:w.ownsRow base t 1 v n xs) (e:w'.heap=w.heap.push o):w'.ownsRow base t 1 v n xs:=by
 obtain⟨X,h | ⟨g,cap,cur,Y,Z,M,hr⟩⟩:=h
 ·exact⟨X,.inl h⟩
 ·refine⟨X,.inr ⟨g,cap,cur,Y,Z,?_,hr⟩⟩
  have O:=Blk.lt (t:=t) (cs:=cur) M;rw[e,Array.getElem?_push_lt O,<-Array.getElem?_eq_getElem O];exact M
theorem VI {w:World} {base:Nat} {t:TypeId} {v:Value} {n:Nat} {xs:List Value} (h:w.ownsRow base t 1 v n xs) (p:Addr) (u:Value) (hp:p.block<base):(w.setCell p u).ownsRow base t 1 v n xs:=by
 obtain⟨O,h | ⟨g,cap,cur,Z,X,M,Y⟩⟩:=h
 ·exact⟨O,.inl h⟩
 ·exact⟨O,.inr ⟨g,cap,cur,Z,X,(Below.heap_setCell w p u g (by omega)).trans M,Y⟩⟩
theorem KJ {w w':World} {u0:Value} {t:TypeId} (e:w'.heap=w.heap.push (.cells #[u0] t (0,0))):∀j u,[u0][j]? = some u->w'.cell? ((⟨w.heap.size,0,none⟩:Addr).add j)=some u:=by
 intro j u hu;have M:Blk w' w.heap.size t #[u0]:=by unfold Blk;rw[e];simp
 rw[addr_add,Nat.zero_add,M.cell]
 simpa using hu
def lrow (ks:Nat->UInt8) (n:Nat):List Value:=(List.range n).map (fun j=>wv (lw ks j))
theorem PR (ks:Nat->UInt8) (n i:Nat) (h:i<n):(lrow ks n)[i]? = some (wv (lw ks i)):=by simp [lrow,h]
theorem PS (ks:Nat->UInt8) (n:Nat):lrow ks n++[wv (lw ks n)]=lrow ks (n+1):=by simp [lrow,List.range_succ]
theorem SR:(Tryz.prog.info? 162).map (fun i=>(i.zero,i.size,i.bytes))=some (some (.int .u32 0),1,4):=by kernel_rfl
theorem JQ {f g:Nat->Wd} (h:∀j,j<27->f j=g j):Bc f=Bc g:=by
 unfold Bc
 congr 1
 apply List.map_congr_left;intro j M;rw[h j (by simpa using M)]
theorem Ac {w:World} {g:Nat} {t:TypeId} {cs:Array Value} (h:Blk w g t cs):w.rangeAt g 0 cs.toList:=fun j v M=>by
 rw[Nat.zero_add,h.cell];simpa using M
theorem Am {w:World} {g:Nat} {t:TypeId} {cs:Array Value} (h:Blk w g t cs):w.there g 0 cs.size:=fun j M=>by
 rw[Nat.zero_add];exact⟨by rw[h.cell,Array.getElem?_eq_getElem M];rfl,h.frozen j⟩
theorem Bx {B:Nat} {a:World} (b:Nat) (M:B<=b):∀(vs:List Value) (o:Nat) (w:World),Below B a w->Below B a (w.setCells b o vs)
 | [],_,_,h=>h
 |v :: r,o,w,h=>Bx b M r (o+1) _ (AY h M v)
theorem Xp (ks:Nat->UInt8) (w:World):Calls Tryz.prog 77 #[.agg (AM ks)] w fun e w'=>e=.returned (.agg (Bc (kw ks)))/\Below w.heap.size w w':=by
 obtain⟨B,eB⟩:=Aj (w.heap.size);rw[<-eB];have EB:=I eB;go_enter Tryz.func77,Tryz.ntmps77
 go_wp2_with fail
 rw[<-eB];clear eB
 go_loopw [4] (fun iv wr=>∃i:Nat,i<=16/\iv=.int .i64 (i:Int)/\Below B w wr/\wr.heap.size=B+3/\Blk wr B 157 (AM ks)/\Blk wr (B+1) 163 (Bc Ha)/\Blk wr (B+1+1) 222 (IC ks i)) (fun iv _=>16 - (intOf iv).toNat)
 case atStart=>
  have e1:=EB.o;refine⟨0,by decide,rfl,?_,by simp;omega,?_,?_,?_⟩
  ·rw[e1];exact(((Below.refl w.heap.size w).alloc Af _).alloc (by simp) _).alloc (by simp;omega) _
  ·exact Blk.alloc (Blk.alloc (Blk.new_of w B _ _ _ rfl e1.symm) _) _
  ·exact Blk.alloc (Blk.new_of (w.alloc _) (B+1) _ _ (Bc Ha) (by kernel_rfl) (by simp;omega)) _
  ·exact Blk.new_of _ (B+1+1) _ _ (IC ks 0) (by kernel_rfl) (by simp;omega)
 case round=>
  obtain⟨i,hi,rfl,hb,aa,ao,Y,O⟩:=hrel;have HB:=I hb;clear hb;have aD:=I ao;have ab:=I Y;have ag:=I O;have HS:=I aa
  by_cases h16:i=16
  ·subst h16
   have HI:=I hi;clear hi;clear ao Y O
   go_upto_region 6 with fail
   go_cut [5] from 8 to 28 (fun kp wx=>kp=.pointer (some ⟨B+3,0,none⟩)/\Below B w wx/\wx.heap.size=B+4/\Blk wx (B+1) 163 (Bc Ha)/\Blk wx (B+1+1) 222 (IC ks 16)/\Blk wx (B+3) 163 (Bc Ha))
   case first=>
    go_wp2_with fail
    go_meet
    have e1:=HS.o;exact⟨rfl,HB.o.alloc (by omega) _,by simp;omega,Blk.alloc ab.o _,Blk.alloc ag.o _,Blk.new_of wr (B+3) _ _ (Bc Ha) (by kernel_rfl) e1⟩
   case rest=>
    clear aa HB aD ab ag HS;obtain⟨rfl,hb,aa,Y,O,X⟩:=hcut;have HB:=I hb;clear hb;have ab:=I Y;clear Y;have ag:=I O;have ai:=I X;have HS:=I aa;obtain⟨w0,e0⟩:∃v,v=EW ks 0:=⟨_,rfl⟩;obtain⟨w1,e1⟩:∃v,v=EW ks 1:=⟨_,rfl⟩;obtain⟨w2,e2⟩:∃v,v=EW ks 2:=⟨_,rfl⟩;obtain⟨w3,e3⟩:∃v,v=EW ks 3:=⟨_,rfl⟩;have c0:wc.cell? ⟨B+1+1,0,none⟩=some (wv w0):=by rw[O.cell,Fu _ _ _ (by decide),GF _ _ (by decide),e0]
    have c1:wc.cell? ⟨B+1+1,1,none⟩=some (wv w1):=by rw[O.cell,Fu _ _ _ (by decide),GF _ _ (by decide),e1]
    have c2:wc.cell? ⟨B+1+1,2,none⟩=some (wv w2):=by rw[O.cell,Fu _ _ _ (by decide),GF _ _ (by decide),e2]
    have c3:wc.cell? ⟨B+1+1,3,none⟩=some (wv w3):=by rw[O.cell,Fu _ _ _ (by decide),GF _ _ (by decide),e3]
    have k0:wc.cell? ⟨B+3,0,none⟩=some (wv 0):=by rw[X.cell];exact FN _ _ (by decide)
    have f0:=X.frozen;clear O X
    go_wp2_with fail
    have F0:=ai.o.set 0 (wv (kw ks 0));rw[IB,Hs] at F0;have F1:=Blk.far ab.o ⟨B+3,0,none⟩ (wv (kw ks 0)) (by simp);have F2:Below B w (wc.setCell ⟨B+3,0,none⟩ (wv (kw ks 0))):=AY HB.o (by simp) _;have S0:(wc.setCell ⟨B+3,0,none⟩ (wv (kw ks 0))).heap.size=B+4:=by simpa [World.setCell] using HS.o
    have F3:=I F0;clear F0;have F4:=I F1;clear F1;have F5:=I F2;clear F2;have S1:=I S0;clear S0;have aO:=FZ;clear c0 c1 c2 c3 k0 f0 aa e0 e1 e2 e3 HB ab ag ai HS w0 w1 w2 w3 aO
    go_loopw [6,7] (fun lv iv wr=>∃i:Nat,i<=26/\iv=.int .i64 (i:Int)/\Below B w wr/\B+4<=wr.heap.size/\Blk wr (B+1) 163 (Bc Ha)/\Blk wr (B+3) 163 (Bc (Bw ks i))/\wr.ownsRow (B+4) 162 1 lv (i+3) (lrow ks (i+3))) (fun _ iv _=>26 - (intOf iv).toNat)
    case atStart=>
     refine⟨0,by decide,rfl,?_,?_,Blk.alloc F4.o _,Blk.alloc F3.o _,?_⟩
     ·exact F5.o.alloc (by have:=S1.o;omega) _
     ·simp;have:=S1.o;simp at this;omega
     ·refine⟨rfl,.inr ⟨B+4,3,_,rfl,Nat.le_refl _,Blk.new_of _ (B+4) _ _ _ rfl S1.o,Nat.le_refl _,by decide,rfl,rfl⟩⟩
    case round=>
     obtain⟨i,hi,rfl,hb,aa,Y,X,ad⟩:=hrel;have HB:=I hb;clear hb;have HS:=I aa;clear aa
     by_cases h26:i=26
     ·subst h26
      obtain⟨cs,af⟩:=Aj (Bc (Bw ks 26));rw[<-af] at X;have av:cs.size=27:=by rw[af];simp [Bc]
      have ez:(Bc Ha).size=27:=by simp [Bc]
      have hR:wr.rangeAt (B+3) 0 cs.toList:=Ac X;have hT:wr.there (B+1) 0 cs.size:=by
       have:=Am Y
       rwa [ez,<-av] at this
      have ah:(Tryz.prog.info? 163).map (·.size)=some cs.size:=by rw[av];kernel_rfl
      have ar:(Tryz.prog.info? 163).map (·.size)=some cs.toList.length:=by rw[Array.length_toList];exact ah
      have az:cs.all (·.oneCell')=true:=by rw[af];simp [Bc,Value.oneCell']
      have EC:Hid (cs=Bc (kw ks)):=by rw[af];exact JQ (fun j hj=>by rw[Bw,if_pos (by omega)])
      have HI:=I hi;clear hi;have aP:=I az;clear az;have HT:=I hT;clear hT;have HR:=I hR;clear hR;have aX:=I ah;clear ah;have aG:=I ar;clear ar;clear Y X ad af av ez
      go_wp2_with (first | (refine wpList_load_mid (by rfl) 163 (.tmp 5) (by rfl) (B+3) 0 (by rfl) cs.toList _ HR.o Tryz.underlying163 (by rfl) aG.o ?_) | (refine wpList_store_mid (by rfl) 163 (.tmp 2) (.tmp 71) (by rfl) (B+1) 0 cs (by rfl) (by rfl) HT.o aX.o aP.o ?_) | fail)
      have hq:=run_loadVar_mid (P:=Tryz.prog) (wr.setCells (B+1) 0 cs.toList) (B+1) 0 163 cs.toList _ (World.rangeAt_setCells_same wr (B+1) 0 cs.toList (by rw[Array.length_toList];exact HT.o)) Tryz.underlying163 rfl aG.o;refine bodyPost_ret (v:=.agg cs) ?_ ?_ ?_
      ·exact Al (v:=.agg cs) 2 163 ⟨B+1,0,none⟩ Tryz.results77 (by rfl) hq
      ·rfl
      ·exact⟨by rw[EC.o],Bx (B+1) (by omega) _ _ _ HB.o⟩
     ·have i1:(i:Int)<26:=by omega
      have i2:i<26:=by omega
      have i3:(0:Int)<=(i:Int):=by omega
      have i4:(i:Int)<27:=by omega
      have i5:i<27:=by omega
      have i6:(i:Int)+1<27:=by omega
      have i7:i+1<27:=by omega
      obtain⟨Z,aw⟩:=Aj (i+3);rw[<-aw] at ad;obtain⟨g,cap,rfl,hg,aY,al⟩:=KI ad (by omega);have n1:(i:Int)<(Z:Int):=by omega
      have n2:i<Z:=by omega
      obtain⟨k0,ek⟩:=Aj (kw ks i);obtain⟨a0,ea⟩:=Aj (lw ks i);obtain⟨v,ev⟩:=Aj (lw ks (i+3));obtain⟨u,eu⟩:=Aj (kw ks (i+1));obtain⟨ci,ec⟩:=Aj (BitVec.ofNat 32 i);obtain⟨ra,era⟩:=Aj (rot a0 24);obtain⟨rk,au⟩:=Aj (rot k0 3);obtain⟨sm,es⟩:=Aj (k0+ra);have aV:IntKind.u32.wrap (i:Int)=(ci.toNat:Int):=by rw[ec];exact MS i
      have bm:(i:Int) % 4294967296=(ci.toNat:Int):=by rw[<-IntKind.wrap_u32];exact aV
      have bb:((k0.toNat:Int)+(ra.toNat:Int)) % 4294967296=(sm.toNat:Int):=by rw[es];exact FZ _ _
      have bd:IntKind.u32.wrap ((k0.toNat:Int)+(ra.toNat:Int))=(sm.toNat:Int):=by rw[IntKind.wrap_u32];exact bb
      have bf:bits .xor .u32 (sm.toNat:Int) (ci.toNat:Int)=(v.toNat:Int):=by rw[BD,ev,lw_3,es,era,ek,ea,ec]
      have bn:bits .xor .u32 (rk.toNat:Int) (v.toNat:Int)=(u.toNat:Int):=by rw[BD,ev,eu,PL,au,ek]
      have bs:IntKind.i64.wrap ((i:Int)+1)=(i:Int)+1:=by rw[IntKind.wrap_i64];omega
      have bg:IntKind.i64.wrap ((i:Int)+3)=(Z:Int):=by rw[IntKind.wrap_i64];omega
      have ck:wr.cell? ⟨B+3,i,none⟩=some (wv k0):=by rw[X.cell,FN _ _ i5,Bw,if_pos Af,ek]
      have ca:wr.cell? ⟨g,i,none⟩=some (wv a0):=by rw[al i _ (PR ks Z i n2),ea]
      have aK:(wr.alloc (.cells #[.int .u32 v.toNat] 162)).cell? ⟨B+3,i,none⟩=some (.int .u32 k0.toNat):=by rw[World.cell?_alloc_past _ _ _ (show(⟨B+3,i,none⟩:Addr).block<wr.heap.size by show B+3<_;have:=HS.o;omega)];exact ck
      have aE:=PN a0;rw[<-era] at aE;have aF:=UI k0;rw[<-au] at aF;obtain⟨ti,aR,aN,aI,aW⟩:=info_parts SR;have HO:=I ad;clear ad;have ab:=I Y;clear Y;have ai:=I X;clear X;have HG:=I hg;clear hg;have EV:=I ev;clear ev;have EU:=I eu;clear eu;have EN:=I aw;clear aw;have HH:=I i2;have HI:=I hi;clear hi;clear ek ea ec era au es al h26 aY
      go_wp2_with fail
      go_region_law (first | (go_simp;go_at_call 123;refine Ah (aE _) ?_;rintro w' rfl) | ((refine step_append_lies _ (by rfl) (.tmp 43) (.tmp 56) 223 (by rfl) (B+4) 162 ti _ 1 4 Tryz.underlying223 aR aN aI aW (by rfl) (by decide) (.slice (some ⟨g,0,none⟩) Z cap) Z (lrow ks Z) (by rfl) (DU HO.o (by rfl)) ⟨wr.heap.size,0,none⟩ 1 1 [.int .u32 v.toNat] (by rfl) (by rfl) (KJ (by rfl)) (by simp [Value.oneCell']) (by decide) (by have:=EN.o;have:=HH.o;unfold maxLen;omega) (by have:=EN.o;have:=HH.o;omega) (by have:=HS.o;simp;omega) (wr.heap.size+1) (by simp) ?_;intro g2 aH w2 ak M aT aM)))
      all_goals (
       have ax:w2.ownsRow (B+4) 162 1 (.slice (some ⟨g2,0,none⟩) (Z+1) aH) (Z+1) (lrow ks (Z+1)):=by
        rw[<-PS,show lw ks Z=v by rw[EN.o,EV.o]];exact ak
       have bl:w2.cell? ⟨g2,Z,none⟩=some (wv v):=by
        obtain⟨gx,cx,aJ,_,_,aS⟩:=KI ax (by omega);injection aJ with hv1 _ _;injection hv1 with hv1;injection hv1 with hv1 _;subst hv1;rw[aS Z _ (PR ks (Z+1) Z (by omega)),show lw ks Z=v by rw[EN.o,EV.o]]
       have ae:(wr.alloc (.cells #[.int .u32 v.toNat] 162)).grownBy w2 (some g):=⟨M.os,M.tape,M.output,M.size,M.block⟩;have aj:Blk w2 (B+3) 163 (Bc (Bw ks i)):=Blk.grown (Blk.alloc ai.o _) ae (fun h=>by have:=HG.o;injection h with h;omega);have aB:Blk w2 (B+1) 163 (Bc Ha):=Blk.grown (Blk.alloc ab.o _) ae (fun h=>by have:=HG.o;injection h with h;omega);have aA:Below B w w2:=Below.grown (HB.o.alloc (by have:=HS.o;omega) _) ae (by have:=HS.o;simp;omega) (fun k hk=>by have:=HG.o;injection hk with hk;omega);have ay:B+4<=w2.heap.size:=by have h1:=ae.size;have h2:=HS.o;simp at h1;omega
       have bj:w2.cell? ⟨B+3,i,none⟩=some (wv k0):=by
        have e1:=ai.o.cell i;have e2:=aj.cell i;rw[<-e1] at e2;exact e2.trans ck
       have bq:w2.cell? ⟨B+3,i+1,none⟩=some (wv (Bw ks i (i+1))):=by rw[aj.cell];exact FN _ _ i7
       have bu:=aj.frozen;have aC:=I ax;clear ax;have aZ:=I aj;clear aj;have aU:=I aB;clear aB;have aL:=I aA;clear aA;have ba:=I ay;clear ay;clear ak M ae aT aM ck ca aK;obtain⟨m3,an⟩:=Aj (Z+1);rw[<-an];rw[<-an] at aC;have m1:(Z:Int)<(m3:Int):=by omega
       have m2:Z<m3:=by omega
       have m4:(0:Int)<=(Z:Int):=by omega
       have EM:=I an;clear an
       go_wp2_with fail
       refine wp_region_still_tail 12 (by kernel_rfl) (by kernel_rfl) ?_;simp only[List.take_succ_cons,List.take_zero,List.drop_succ_cons,List.drop_zero];change wpStill _ _ w2.drew _ _ _
       repeat still_step
       still_call (aF _)
       repeat still_step
       refine wpStill_nil ?_;change wpList _ _ _ _ _ w2.drew
       go_wp2_with fail
       go_roundw
       case rel=>
        (repeat apply Exists.intro)
        refine⟨?_,rfl⟩;refine⟨i+1,by have:=HH.o;omega,by go_num,?_,?_,?_,?_,?_⟩
        ·exact below_drewN (AY aL.o (by simp<;>omega) _) 1
        ·simpa [World.setCell] using ba.o
        ·exact Blk.far aU.o _ _ (by simp)
        ·have e:=aZ.o.set (i+1) (wv u)
         rw[IB,EU.o,Iz,<-EU.o] at e;exact e
        ·rw[show i+1+3=m3 by have:=EM.o;have:=EN.o;omega]
         exact VI aC.o ⟨B+3,i+1,none⟩ (wv u) (by simp)
       case measure=>have:=HH.o;simp [intOf];omega)
  ·obtain⟨q,eq⟩:=Aj (i / 4)
   obtain⟨r,er⟩:=Aj (i % 4);have hq:(i:Int).tdiv 4=(q:Int):=by rw[Int.tdiv_eq_ediv_of_nonneg (by omega)];omega
   have hr:(i:Int).tmod 4=(r:Int):=by rw[Int.tmod_eq_emod_of_nonneg (by omega)];omega
   have q1:(q:Int)<4:=by omega
   have q2:q<4:=by omega
   have q3:(0:Int)<=(q:Int):=by omega
   have r1:(r:Int)<4:=by omega
   have r2:r<4:=by omega
   have r3:(0:Int)<=(r:Int):=by omega
   have i1:(i:Int)<16:=by omega
   have i2:i<16:=by omega
   have i3:(0:Int)<=(i:Int):=by omega
   obtain⟨u,eu⟩:=Aj (Ga ks q i);obtain⟨v,ev⟩:=Aj (Ga ks q (i+1));obtain⟨k,ek⟩:=Aj (ks i);obtain⟨sh,es⟩:=Aj (8*r);obtain⟨km,em⟩:∃km:Nat,km=k.toNat*2 ^ sh % 4294967296:=⟨_,rfl⟩;have bz:8*(r:Int)=(sh:Int):=by omega
   have aQ:IntKind.u32.wrap ((k.toNat:Int)*2 ^ sh)=(km:Int):=by
    rw[IntKind.wrap_u32,em];have:((k.toNat*2 ^ sh:Nat):Int)=(k.toNat:Int)*2 ^ sh:=by rw[Int.natCast_mul,Int.natCast_pow];rfl
    rw[<-this];omega
   have hv:bits .or .u32 (u.toNat:Int) (km:Int)=(v.toNat:Int):=by
    have e:=Of ks q r i r2 (by omega);rw[<-es,<-eu,<-ev,<-ek] at e;rw[<-e,<-aQ,IntKind.wrap_u32]
   have br:min sh 32=sh:=by omega
   have bw:IntKind.i64.wrap (q:Int)=(q:Int):=by rw[IntKind.wrap_i64];omega
   have bx:IntKind.i64.wrap (r:Int)=(r:Int):=by rw[IntKind.wrap_i64];omega
   have bh:IntKind.i64.wrap (sh:Int)=(sh:Int):=by rw[IntKind.wrap_i64];omega
   have bo:IntKind.u64.wrap (sh:Int)=(sh:Int):=by rw[IntKind.wrap_u64];omega
   have bp:IntKind.u32.wrap (k.toNat:Int)=(k.toNat:Int):=by rw[IntKind.wrap_u32];have:=BG k;omega
   have ck:wr.cell? ⟨B,i,none⟩=some (.int .u8 (k.toNat:Int)):=by rw[ao.cell,FM _ _ i2,ek];rfl
   have cu:wr.cell? ⟨B+1+1,q,none⟩=some (wv u):=by rw[O.cell,Fu _ _ _ q2,eu]
   have fu:=O.frozen;have kk:(k.toNat:Int) % 4294967296=(k.toNat:Int):=by have:=BG k;omega
   have HH:=I h16;clear h16;have EQ:=I eq;clear eq;have EV:=I ev;clear ev;have HI:=I hi;clear hi;clear ao Y O eu er ek aa es em
   go_wp2_with fail
   refine wp_region_still_tail 16 (by kernel_rfl) (by kernel_rfl) ?_;simp only[List.take_succ_cons,List.take_zero,List.drop_succ_cons,List.drop_zero];change wpStill _ _ wr.drew _ _ _
   repeat still_step
   refine wpStill_nil ?_;change wpList _ _ _ _ _ wr.drew
   go_wp2_with fail
   go_roundw
   case rel=>
    refine⟨i+1,by have:=HI.o;have:=HH.o;omega,by go_num,?_,?_,?_,?_,?_⟩
    ·exact below_drewN (AY HB.o (by simp;omega) _) 1
    ·simpa [World.setCell] using HS.o
    ·exact Blk.far aD.o _ _ (by simp;omega)
    ·exact Blk.far ab.o _ _ (by simp)
    ·have e:=ag.o.set q (wv v)
     rw[EV.o,EQ.o,Og ks i i2,<-EQ.o,<-EV.o] at e;exact e
   case measure=>simp [intOf];omega
theorem Xq (K:Nat->Wd) (x y:Wd) (w:World) :
  Calls Tryz.prog 122 #[.agg (Bc K),wv x,wv y] w fun e w'=>e=.returned (.tuple #[wv (Ck K (x,y)).1,wv (Ck K (x,y)).2])/\Below w.heap.size w w':=by
 obtain⟨B,eB⟩:=Aj (w.heap.size);rw[<-eB];have EB:=I eB;go_enter Tryz.func122,Tryz.ntmps122
 go_wp2_with fail
 rw[<-eB];clear eB
 go_loopw [1,2,8] (fun xv yv iv wr=>∃i:Nat,i<=27/\iv=.int .i64 (i:Int)/\xv=wv (Hx K i (x,y)).1/\yv=wv (Hx K i (x,y)).2/\Blk wr B 163 (Bc K)/\Below B w wr) (fun _ _ iv _=>27 - (intOf iv).toNat)
 case atStart=>exact⟨0,by decide,rfl,rfl,rfl,Blk.new_of w B _ _ _ rfl EB.o.symm,EB.o▸Ag.alloc Af _⟩
 case round=>
  obtain⟨i,hi,rfl,rfl,rfl,hB,hb⟩:=hrel
  by_cases h27:i=27
  ·subst h27
   have HB:=I hB;clear hB;have Z:=I hb;clear hb
   go_wp2_with fail
   go_ret2
   exact⟨rfl,Z.o⟩
  ·have ai:(0:Int)<=(i:Int):=by omega
   have aj:(i:Int)<27:=by omega
   have ad:i<27:=by omega
   obtain⟨p,ep⟩:=Aj (Hx K i (x,y));obtain⟨k0,ek⟩:=Aj (K i);obtain⟨x0,ex⟩:=Aj (p.1);obtain⟨y0,ey⟩:=Aj (p.2);obtain⟨rx,O⟩:=Aj (rot x0 24);obtain⟨ry,M⟩:=Aj (rot y0 3);obtain⟨sm,es⟩:=Aj (rx+y0);obtain⟨x1,X⟩:=Aj (sm ^^^ k0);obtain⟨y1,Y⟩:=Aj (ry ^^^ x1);have ck:wr.cell? ⟨B,i,none⟩=some (wv k0):=by rw[hB.cell,FN _ _ ad,ek]
   have af:((rx.toNat:Int)+(y0.toNat:Int)) % 4294967296=(sm.toNat:Int):=by rw[es];exact FZ _ _
   have ag:IntKind.u32.wrap ((rx.toNat:Int)+(y0.toNat:Int))=(sm.toNat:Int):=by rw[IntKind.wrap_u32];exact af
   have ah:bits .xor .u32 (sm.toNat:Int) (k0.toNat:Int)=(x1.toNat:Int):=by rw[X];exact BD _ _
   have ak:bits .xor .u32 (ry.toNat:Int) (x1.toNat:Int)=(y1.toNat:Int):=by rw[Y];exact BD _ _
   have ab:=PN x0;rw[<-O] at ab;have ae:=UI y0;rw[<-M] at ae;have hn:Hx K (i+1) (x,y)=(x1,y1):=by rw[Hx,<-ep,step,<-ex,<-ey,<-ek,<-O,<-M,<-es,<-X,<-Y]
   rw[<-ep,<-ex,<-ey];have aa:=I hn;clear hn;have hh:=I ad;have HB:=I hB;clear hB;have Z:=I hb;clear hb;clear ep ek ex ey O M es X Y hi h27
   go_wp2_with fail
   refine wp_region_still_lit (by kernel_rfl) (by kernel_rfl) ?_;change wpStill _ _ wr.drew _ _ _
   repeat still_step
   still_call (ab _)
   repeat still_step
   refine wpStill_nil ?_
   try change _ wr.drew
   go_wp2_with (first | (go_at_call 124;refine Ah (ae _) ?_;rintro w' rfl))
   go_roundw
   case rel=>exact⟨i+1,by have:=hh.o;omega,by go_num,by rw[aa.o],by rw[aa.o],HB.o,below_drewN Z.o 1⟩
   case measure=>have:=hh.o;simp [intOf];omega
end Sp
end Go.Proofs.YtlccngianpfalaaGreat
