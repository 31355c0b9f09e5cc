import Derived.Test.YtcpccikongbopaaGreatZClientFirst2
set_option maxHeartbeats 25600000
set_option maxRecDepth 100000
set_option linter.unusedVariables false
set_option linter.unusedSimpArgs false
namespace Go.Proofs.YtcpccikongbopaaGreat
namespace Tr
open Nm
theorem OZ (c:UInt8) (l:L):((split c l).map fun p=>p.length+1).sum=l.length+1:=by
 induction l with
 |nil=>simp [split]
 |cons y r ih=>
  rw[split]
  by_cases e:y=c
  ·rw[if_pos e];simp [ih];omega
  ·rw[if_neg e]
   cases hs:split c r with
   |nil=>exact absurd hs (Jh c r)
   |cons a t=>
    rw[hs] at ih;simp only[List.map_cons,List.sum_cons,List.length_cons] at ih⊢;omega
theorem WC {ls:List L} (h:ls.all (Cf capB)=true):(ls.map fun p=>p.length+1).sum<=9*ls.length:=by
 induction ls with
 |nil=>simp
 |cons a t ih=>
  simp only[List.all_cons,Bool.and_eq_true] at h;have D:=((DI _ _).1 h.1).2.1;have:=ih h.2;simp only[List.map_cons,List.sum_cons,List.length_cons];omega
theorem Mm {c:UInt8} {l:L} (h:Cu (split c l)=true):l.length<=35:=by
 have D:=(Hw _).1 h;have E:=WC D.2.2;have F:=OZ c l;omega
theorem kind_two' {l:L} (h:BD l=2):∃t,l=47 :: t/\Cu (split 47 t)=true:=by
 have D:=Rx h;simp only[slL,Bool.and_eq_true,decide_eq_true_eq] at D;cases l with
 |nil=>simp at D
 |cons x t=>
  simp only[List.head?_cons,Option.some.injEq,List.tail_cons] at D;exact⟨t,by rw[D.1],D.2⟩
theorem Nf {l:L} (h:BD l≠0):BD l=1\/BD l=2:=by have:=UD l;omega
theorem Jm {l:L} (h:BD l≠0):l.length<=36:=by
 rcases Nf h with h | h
 ·have:=Mm (Rw h);omega
 ·obtain⟨t,rfl,D⟩:=kind_two' h
  have:=Mm D;simp only[List.length_cons];omega
def furL (r p:L):L:=if Wy r p then (if BD r=1 then r.take (r.length - p.length) else r.drop p.length) else if BD r=1 then r else 32 :: r
def Gx (p:L) (m:List L):L:=if m = [] then p else pl m (m.length - 1)
open Go.RowKit Ad
attribute [local go_sem] FT List.getElem_cons_zero List.getElem_cons_succ Di Dj Es Fi
def ixL (r:L) (ls:List L):Int:=if r∈ls then ((ls.findIdx fun x=>decide (x=r):Nat):Int) else -1
theorem RL {ls:List L} {r:L} {i:Nat} (D:i<ls.length) (h:pl ls i=r) (E:∀k,k<i->pl ls k≠r):ixL r ls=(i:Int):=by
 have hm:r∈ls:=by rw[<-h];exact ON D
 rw[ixL,if_pos hm]
 congr 1
 rcases Nat.lt_trichotomy (ls.findIdx fun x=>decide (x=r)) i with g | g | g
 ·have:=List.findIdx_getElem (p:=fun x=>decide (x=r)) (w:=(by omega:(ls.findIdx fun x=>decide (x=r))<ls.length))
  exact absurd (by rw[OK (by omega)];simpa using this) (E _ g)
 ·exact g
 ·have:=List.not_of_lt_findIdx g
  rw[OK D] at h;simp [h] at this
theorem UK {ls:List L} {r:L} (D:∀k,k<ls.length->pl ls k≠r):ixL r ls = -1:=by
 rw[ixL,if_neg];intro hm;obtain⟨i,E,e⟩:=mem_pl hm;exact D i E e
theorem ix_ge (r:L) (ls:List L):decide (0<=ixL r ls)=decide (r∈ls):=by
 rw[ixL]
 by_cases h:r∈ls
 ·rw[if_pos h];simp [h]
 ·rw[if_neg h];simp [h]
theorem Ng (ls:List L) (A:Option Addr) (c B:Nat) (r:L) (w:World) (hl:ls.length<=9000000000000000) (X:Rd w B A (strs ls)) :
  Calls Tryz.prog 170 #[.slice A ls.length c,.string ⟨r.toArray⟩] w fun e w'=>e=.returned (.int .i64 (ixL r ls))/\w=w':=by
 have HR:=I X;clear X;obtain⟨n,en⟩:=Ah (ls.length);rw[<-en] at hl⊢;have F:=I en;clear en;go_enter Tryz.func170,Tryz.ntmps170
 go_wp2
 go_loop [8] (fun D=>∃i:Nat,i<=n/\D=.int .i64 (i:Int)/\∀k,k<i->pl ls k≠r) (fun D=>n - (intOf D).toNat)
 case atStart=>exact⟨0,Nat.zero_le _,rfl,fun k h=>absurd h (Nat.not_lt_zero k)⟩
 case round=>
  obtain⟨i,hi,rfl,O⟩:=hrel;have M:=I O;clear O
  by_cases hlt:i<n
  ·have Z:(i:Int)<(n:Int):=by omega
   have e2:(0:Int)<=(i:Int):=by omega
   obtain⟨b,o,rfl,_,h1⟩:=OS HR.o (i:=i) (by rw[<-F.o];exact hlt)
   by_cases hx:pl ls i=r
   ·have t1:(r==pl ls i)=true:=by simpa using hx.symm
    have E:=I (RL (by rw[<-F.o];exact hlt) hx M.o);clear hx
    go_wp2
    go_ret;exact⟨by rw[E.o];rfl,rfl⟩
   ·have t1:(r==pl ls i)=false:=by simpa using fun g:r=pl ls i=>hx g.symm
    have Y:=I hx;clear hx
    go_wp2
    go_round
    case rel=>exact⟨i+1,by omega,by go_num,fun k hk=>by
     by_cases q:k=i
     ·rw[q];exact Y.o
     ·exact M.o k (by omega)⟩
    case measure=>simp [intOf];omega
  ·have Z:¬(i:Int)<(n:Int):=by omega
   have E:=I (UK (ls:=ls) (r:=r) fun k hk=>M.o k (by have:=F.o;omega))
   go_wp2
   go_ret;exact⟨by rw[E.o];rfl,rfl⟩
theorem JY (ls:List L) (A:Option Addr) (c B:Nat) (r:L) (w:World) (M:ls.length<=9000000000000000) (F:Rd w B A (strs ls)) :
  Calls Tryz.prog 122 #[.slice A ls.length c,.string ⟨r.toArray⟩] w fun e w'=>e=.returned (.bool (decide (r∈ls)))/\w=w':=by
 have c1:=Ng ls A c B r w M F;have E:=I (ix_ge r ls);obtain⟨z,D⟩:=Ah (ixL r ls);rw[<-D] at c1;have O:=I D;clear D F;go_enter Tryz.func122,Tryz.ntmps122
 go_wp2_with (go_at_call 170;refine Ag c1 ?_;rintro X rfl)
 go_ret;exact⟨by rw[<-E.o,<-O.o];rfl,rfl⟩
end Tr
namespace Ms
open DerP
open Nm (BM isL tgL Cf Ci BD)
abbrev Pr:=L×L
structure Tk where
 s:Pr
 k:Int
 b:L
deriving DecidableEq
structure Pt where
 c:Pr
 ss:L
 tr:L
 st:Int
 en:Int
deriving DecidableEq
structure An where
 c:Pr
 t:Int
 q:Int
deriving DecidableEq
structure Rp where
 ss:L
 s:Pr
 st:Int
 en:Int
 no:Int
deriving DecidableEq
structure As where
 c:Pr
 s:Pr
 t:Int
 no:Int
deriving DecidableEq
structure Tg where
 t:Tk
 a:L
 s:Pr
 u:Int
 no:Int
deriving DecidableEq
structure Re where
 c:Pr
 t:Tk
 b:L
deriving DecidableEq
structure Ap where
 t:Tk
 a:L
deriving DecidableEq
structure Fa where
 e:Int
 no:Int
deriving DecidableEq
structure Mg where
 k:Int
 aq:As
 tg:Tg
 re:Re
 ap:Ap
 fa:Fa
deriving DecidableEq
def pr0:Pr:=([],[])
def tk0:Tk:=⟨pr0,0,[]⟩
def as0:As:=⟨pr0,pr0,0,0⟩
def tg0:Tg:=⟨tk0,[],pr0,0,0⟩
def re0:Re:=⟨pr0,tk0,[]⟩
def ap0:Ap:=⟨tk0,[]⟩
def fa0:Fa:=⟨0,0⟩
def mg0:Mg:=⟨0,as0,tg0,re0,ap0,fa0⟩
def key0:L:=List.replicate 32 0
def rp0:Rp:=⟨key0,pr0,0,0,0⟩
def inB (n a b:Int):Bool:=decide (a<=n)&&decide (n<=b)
def Bv (b:L):Bool:=decide (1<=b.length)&&decide (b.length<=800)
def prB (p:Pr):Bool:=BM p.1 p.2
def tmB (n:Int):Bool:=inB n 0 1073741824
def tkB (t:Tk):Bool:=prB t.s&&(inB t.k 1 255&&Bv t.b)
def anB (a:An):Bool:=prB a.c&&(tmB a.t&&tmB a.q)
def rpB (p:Rp):Bool:=prB p.s&&(tmB p.st&&(tmB p.en&&tmB p.no))
def asB (q:As):Bool:=prB q.c&&(prB q.s&&(tmB q.t&&tmB q.no))
def tgB (q:Tg):Bool:=tkB q.t&&(Bv q.a&&(prB q.s&&(tmB q.u&&tmB q.no)))
def reB (q:Re):Bool:=prB q.c&&(tkB q.t&&Bv q.b)
def apB (q:Ap):Bool:=tkB q.t&&Bv q.a
def faB (q:Fa):Bool:=inB q.e 1 255&&tmB q.no
def mgB (m:Mg):Bool:=
 if m.k=1 then asB m.aq&&decide (m=⟨1,m.aq,tg0,re0,ap0,fa0⟩)
 else if m.k=2 then tgB m.tg&&decide (m=⟨2,as0,m.tg,re0,ap0,fa0⟩)
 else if m.k=3 then reB m.re&&decide (m=⟨3,as0,tg0,m.re,ap0,fa0⟩)
 else if m.k=4 then apB m.ap&&decide (m=⟨4,as0,tg0,re0,m.ap,fa0⟩)
 else if m.k=5 then faB m.fa&&decide (m=⟨5,as0,tg0,re0,ap0,m.fa⟩)
 else false
def prE (p:Pr):L:=elem 48 [elem 27 p.1,elem 27 p.2].flatten
def tkE (t:Tk):L:=elem 97 [prE t.s,encI t.k,elem 4 t.b].flatten
def anE (a:An):L:=elem 98 [prE a.c,encI a.t,encI a.q].flatten
def rpE (p:Rp):L:=elem 122 [elem 4 p.ss,prE p.s,encI p.st,encI p.en,encI p.no].flatten
def asE (q:As):L:=elem 106 [prE q.c,prE q.s,encI q.t,encI q.no].flatten
def tgE (q:Tg):L:=elem 108 [tkE q.t,elem 4 q.a,prE q.s,encI q.u,encI q.no].flatten
def reE (q:Re):L:=elem 107 [prE q.c,tkE q.t,elem 4 q.b].flatten
def apE (q:Ap):L:=elem 110 [tkE q.t,elem 4 q.a].flatten
def faE (q:Fa):L:=elem 126 [encI q.e,encI q.no].flatten
def mgE (m:Mg):L:=if m.k=1 then asE m.aq else if m.k=2 then tgE m.tg else if m.k=3 then reE m.re else if m.k=4 then apE m.ap else faE m.fa
def limO (ok:Bool) (l:L):Option L:=if ok=true/\l.length<=2000 then some l else none
def mgO (m:Mg):Option L:=limO (mgB m) (mgE m)
def anO (a:An):Option L:=limO (anB a) (anE a)
def rpO (p:Rp):Option L:=limO (rpB p) (rpE p)
def whC (c:Option L):Bool:=decide (c=some [])
def txC (c:Option L):L:=(Ar 27 c).getD []
def ocC (c:Option L):L:=(Ar 4 c).getD []
def prI (d:Option L):Pr:=(txC d,txC (AK 27 d))
def prP (c:Option L):Pr×Option L:=(prI (Ar 48 c),if whC (AK 27 (AK 27 (Ar 48 c))) then AK 48 c else none)
def nmP (c:Option L):Int×Option L:=(((intC c).1:Int),(intC c).2)
def tkS (d:Option L):Option L:=(nmP (prP d).2).2
def tkI (d:Option L):Tk:=⟨(prP d).1,(nmP (prP d).2).1,ocC (tkS d)⟩
def tkP (c:Option L):Tk×Option L:=(tkI (Ar 97 c),if whC (AK 4 (tkS (Ar 97 c))) then AK 97 c else none)
def keP (c:Option L):L×Option L:=if (ocC c).length=32 then (ocC c,AK 4 c) else (key0,none)
def rpP (b:L):Rp×Option L:=
 let c1:=keP (Ar 122 (some b));let c2:=prP c1.2;let c3:=nmP c2.2;let c4:=nmP c3.2;let c5:=nmP c4.2
 (⟨c1.1,c2.1,c3.1,c4.1,c5.1⟩,c5.2)
def asP (c:Option L):As×Option L:=
 let c1:=prP c;let c2:=prP c1.2;let c3:=nmP c2.2;let c4:=nmP c3.2
 (⟨c1.1,c2.1,c3.1,c4.1⟩,c4.2)
def tgP (c:Option L):Tg×Option L:=
 let c1:=tkP c;let c2:=AK 4 c1.2;let c3:=prP c2;let c4:=nmP c3.2;let c5:=nmP c4.2
 (⟨c1.1,ocC c1.2,c3.1,c4.1,c5.1⟩,c5.2)
def reP (c:Option L):Re×Option L:=
 let c1:=prP c;let c2:=tkP c1.2
 (⟨c1.1,c2.1,ocC c2.2⟩,AK 4 c2.2)
def apP (c:Option L):Ap×Option L:=
 let c1:=tkP c
 (⟨c1.1,ocC c1.2⟩,AK 4 c1.2)
def faP (c:Option L):Fa×Option L:=
 let c1:=nmP c;let c2:=nmP c1.2
 (⟨c1.1,c2.1⟩,c2.2)
def mgP (b:L):Mg:=
 match b with
 | []=>mg0
 |t :: _=>
  if t=106 then ⟨1,(asP (Ar 106 (some b))).1,tg0,re0,ap0,fa0⟩
  else if t=108 then ⟨2,as0,(tgP (Ar 108 (some b))).1,re0,ap0,fa0⟩
  else if t=107 then ⟨3,as0,tg0,(reP (Ar 107 (some b))).1,ap0,fa0⟩
  else if t=110 then ⟨4,as0,tg0,re0,(apP (Ar 110 (some b))).1,fa0⟩
  else if t=126 then ⟨5,as0,tg0,re0,ap0,(faP (Ar 126 (some b))).1⟩
  else mg0
def mgD (b:L):Option Mg:=if mgO (mgP b)=some b then some (mgP b) else none
def rpD (b:L):Option Rp:=if rpO (rpP b).1=some b then some (rpP b).1 else none
theorem Ax (t:UInt8) (p:L):(elem t p).length<=p.length+4:=by
 rw[CN,BZ];split
 ·omega
 ·split<;>omega
theorem AB (n:Int):(encI n).length<=12:=by
 have:=Ax 2 (dig (BT n));have:=Hg n;rw[encI];omega
theorem RM {n:L} (h:(tgL n||Cf Ci n)=true):n.length<=43:=by
 rw[Bool.or_eq_true] at h;rcases h with h | h
 ·rw[Nm.tgL,Bool.and_eq_true] at h
  have D:BD (Nm.cpL Nm.krb n)≠0:=by have:=h.2;simp only[isL,decide_eq_true_eq] at this;omega
  have E:=Tr.Jm D;have F:Nm.cpL Nm.krb n=n.drop 7:=by rw[Nm.cpL,h.1];rfl
  rw[F,List.length_drop] at E;omega
 ·have:=(Nm.DI _ _).1 h
  omega
theorem Gd {p:Pr} (h:prB p=true):p.1.length<=36/\p.2.length<=43:=by
 rw[prB,BM,Bool.and_eq_true] at h;refine⟨Tr.Jm ?_,RM h.2⟩;have:=h.1;simp only[isL,decide_eq_true_eq] at this;omega
theorem Dy (a b:L):[a,b].flatten=a++b:=by simp
theorem Dz (a b c:L):[a,b,c].flatten=a++(b++c):=by simp
theorem IC (a b c d:L):[a,b,c,d].flatten=a++(b++(c++d)):=by simp
theorem FG (a b c d e:L):[a,b,c,d,e].flatten=a++(b++(c++(d++e))):=by simp
theorem AP {p:Pr} (h:prB p=true):(prE p).length<=91/\[elem 27 p.1,elem 27 p.2].flatten.length<=87:=by
 have E:=Gd h;have D:=Ax 27 p.1;have M:=Ax 27 p.2;have O:=Ax 48 [elem 27 p.1,elem 27 p.2].flatten;have F:[elem 27 p.1,elem 27 p.2].flatten.length=(elem 27 p.1).length+(elem 27 p.2).length:=by simp
 rw[prE];omega
theorem Fj {t:Tk} (h:tkB t=true):prB t.s=true/\(1<=t.k/\t.k<=255)/\(1<=t.b.length/\t.b.length<=800):=by
 simpa [tkB,inB,Bv] using h
theorem BU {t:Tk} (h:tkB t=true):(tkE t).length<=911/\[prE t.s,encI t.k,elem 4 t.b].flatten.length<=907:=by
 obtain⟨D,_,E⟩:=Fj h;have X:=(AP D).1;have Y:=AB t.k;have O:=Ax 4 t.b;have M:=Ax 97 [prE t.s,encI t.k,elem 4 t.b].flatten;have F:[prE t.s,encI t.k,elem 4 t.b].flatten.length=(prE t.s).length+((encI t.k).length+(elem 4 t.b).length):=by simp
 rw[tkE];omega
section
variable {t:UInt8} {p r:L}
theorem be (h:p.length<=65535) (r:L):Ar t (some (elem t p++r))=some p:=(Dr (DG t p r h)).1
theorem ne (h:p.length<=65535) (r:L):AK t (some (elem t p++r))=some r:=(Dr (DG t p r h)).2
theorem be0 (h:p.length<=65535):Ar t (some (elem t p))=some p:=by have:=be (t:=t) h [];rwa [List.append_nil] at this
theorem ne0 (h:p.length<=65535):AK t (some (elem t p))=some []:=by have:=ne (t:=t) h [];rwa [List.append_nil] at this
theorem WD (h:p.length<=65535) (r:L):txC (some (elem 27 p++r))=p:=by rw[txC,be h];rfl
theorem TO (h:p.length<=65535):txC (some (elem 27 p))=p:=by rw[txC,be0 h];rfl
theorem RN (h:p.length<=65535) (r:L):ocC (some (elem 4 p++r))=p:=by rw[ocC,be h];rfl
theorem IS (h:p.length<=65535):ocC (some (elem 4 p))=p:=by rw[ocC,be0 h];rfl
end
theorem CQ {n:Int} (E:0<=n) (D:n<=4611686018427387904) (r:L):nmP (some (encI n++r))=(n,some r):=by
 rw[nmP,Uy,Hr n E D]
 congr 1
 omega
theorem DA {n:Int} (E:0<=n) (D:n<=4611686018427387904):nmP (some (encI n))=(n,some []):=by
 have:=CQ E D [];rwa [List.append_nil] at this
theorem Gy {p:Pr} (h:prB p=true) (r:L):prP (some (prE p++r))=(p,some r):=by
 have D:=Gd h;have E:=(AP h).2;rw[prP,prE,be (by omega),ne (by omega),Dy,prI,WD (by omega),ne (by omega),TO (by omega),ne0 (by omega)]
 rfl
theorem KY {t:Tk} (h:tkB t=true) (r:L):tkP (some (tkE t++r))=(t,some r):=by
 obtain⟨D,E,F⟩:=Fj h;have M:=(BU h).2;rw[tkP,tkE,be (by omega),ne (by omega),Dz,tkI,tkS,Gy D,CQ (by omega) (by omega),IS (by omega),ne0 (by omega)]
 rfl
theorem UL {k:L} (h:k.length=32) (r:L):keP (some (elem 4 k++r))=(k,some r):=by
 rw[keP,RN (by omega),if_pos h,ne (by omega)]
theorem BC {n:Int} (h:tmB n=true):0<=n/\n<=1073741824:=by simpa [tmB,inB] using h
theorem KZ {p:Rp} (h:rpB p=true) (hk:p.ss.length=32):rpP (rpE p)=(p,some []):=by
 have M:prB p.s=true/\tmB p.st=true/\tmB p.en=true/\tmB p.no=true:=by simpa [rpB] using h
 obtain⟨D,X,F,E⟩:=M;have t4:=BC X;have t5:=BC F;have Y:=BC E;have l1:=(AP D).1;have l2:=Ax 4 p.ss;have l4:=AB p.st;have l5:=AB p.en;have Z:=AB p.no;have O:[elem 4 p.ss,prE p.s,encI p.st,encI p.en,encI p.no].flatten.length<=65535:=by simp only[List.flatten_cons,List.flatten_nil,List.length_append,List.length_nil];omega
 rw[rpP,rpE,be0 O,FG,UL hk];simp only;rw[Gy D];simp only;rw[CQ (by omega) (by omega)];simp only;rw[CQ (by omega) (by omega)];simp only;rw[DA (by omega) (by omega)]
theorem UM {q:As} (h:asB q=true):Ar 106 (some (asE q))=some [prE q.c,prE q.s,encI q.t,encI q.no].flatten/\asP (some [prE q.c,prE q.s,encI q.t,encI q.no].flatten)=(q,some []):=by
 have M:prB q.c=true/\prB q.s=true/\tmB q.t=true/\tmB q.no=true:=by simpa [asB] using h
 obtain⟨D,E,X,F⟩:=M;have Y:=BC X;have Z:=BC F;have l1:=(AP D).1;have l2:=(AP E).1;have l4:=AB q.t;have l5:=AB q.no;have O:[prE q.c,prE q.s,encI q.t,encI q.no].flatten.length<=65535:=by simp only[List.flatten_cons,List.flatten_nil,List.length_append,List.length_nil];omega
 refine⟨by rw[asE,be0 O],?_⟩;rw[IC,asP,Gy D];simp only;rw[Gy E];simp only;rw[CQ (by omega) (by omega)];simp only;rw[DA (by omega) (by omega)]
theorem Bc {b:L} (h:Bv b=true):1<=b.length/\b.length<=800:=by simpa [Bv] using h
theorem UN {q:Tg} (h:tgB q=true):Ar 108 (some (tgE q))=some [tkE q.t,elem 4 q.a,prE q.s,encI q.u,encI q.no].flatten/\tgP (some [tkE q.t,elem 4 q.a,prE q.s,encI q.u,encI q.no].flatten)=(q,some []):=by
 have O:tkB q.t=true/\Bv q.a=true/\prB q.s=true/\tmB q.u=true/\tmB q.no=true:=by simpa [tgB] using h
 obtain⟨D,F,E,Y,M⟩:=O;have Z:=BC Y;have t5:=BC M;have b3:=Bc F;have l1:=(BU D).1;have l2:=Ax 4 q.a;have l3:=(AP E).1;have l4:=AB q.u;have l5:=AB q.no;have X:[tkE q.t,elem 4 q.a,prE q.s,encI q.u,encI q.no].flatten.length<=65535:=by simp only[List.flatten_cons,List.flatten_nil,List.length_append,List.length_nil];omega
 refine⟨by rw[tgE,be0 X],?_⟩;rw[FG,tgP,KY D];simp only;rw[RN (by omega),ne (by omega),Gy E];simp only;rw[CQ (by omega) (by omega)];simp only;rw[DA (by omega) (by omega)]
theorem UO {q:Re} (h:reB q=true):Ar 107 (some (reE q))=some [prE q.c,tkE q.t,elem 4 q.b].flatten/\reP (some [prE q.c,tkE q.t,elem 4 q.b].flatten)=(q,some []):=by
 have F:prB q.c=true/\tkB q.t=true/\Bv q.b=true:=by simpa [reB] using h
 obtain⟨D,E,O⟩:=F;have b3:=Bc O;have l1:=(AP D).1;have l2:=(BU E).1;have l3:=Ax 4 q.b;have M:[prE q.c,tkE q.t,elem 4 q.b].flatten.length<=65535:=by simp only[List.flatten_cons,List.flatten_nil,List.length_append,List.length_nil];omega
 refine⟨by rw[reE,be0 M],?_⟩;rw[Dz,reP,Gy D];simp only;rw[KY E];simp only;rw[IS (by omega),ne0 (by omega)]
theorem UP {q:Ap} (h:apB q=true):Ar 110 (some (apE q))=some [tkE q.t,elem 4 q.a].flatten/\apP (some [tkE q.t,elem 4 q.a].flatten)=(q,some []):=by
 have F:tkB q.t=true/\Bv q.a=true:=by simpa [apB] using h
 obtain⟨D,M⟩:=F;have b3:=Bc M;have l2:=(BU D).1;have l3:=Ax 4 q.a;have E:[tkE q.t,elem 4 q.a].flatten.length<=65535:=by simp only[List.flatten_cons,List.flatten_nil,List.length_append,List.length_nil];omega
 refine⟨by rw[apE,be0 E],?_⟩;rw[Dy,apP,KY D];simp only;rw[IS (by omega),ne0 (by omega)]
theorem UQ {q:Fa} (h:faB q=true):Ar 126 (some (faE q))=some [encI q.e,encI q.no].flatten/\faP (some [encI q.e,encI q.no].flatten)=(q,some []):=by
 have E:(1<=q.e/\q.e<=255)/\tmB q.no=true:=by simpa [faB,inB] using h
 obtain⟨M,F⟩:=E;have O:=BC F;have l2:=AB q.e;have l3:=AB q.no;have D:[encI q.e,encI q.no].flatten.length<=65535:=by simp only[List.flatten_cons,List.flatten_nil,List.length_append,List.length_nil];omega
 refine⟨by rw[faE,be0 D],?_⟩;rw[Dy,faP,CQ (by omega) (by omega)];simp only;rw[DA (by omega) (by omega)]
theorem Ge {m:Mg} (h:mgB m=true) :
  (asB m.aq=true/\m=⟨1,m.aq,tg0,re0,ap0,fa0⟩)\/(tgB m.tg=true/\m=⟨2,as0,m.tg,re0,ap0,fa0⟩)\/(reB m.re=true/\m=⟨3,as0,tg0,m.re,ap0,fa0⟩)\/
  (apB m.ap=true/\m=⟨4,as0,tg0,re0,m.ap,fa0⟩)\/(faB m.fa=true/\m=⟨5,as0,tg0,re0,ap0,m.fa⟩):=by
 unfold mgB at h
 split at h
 ·rw[Bool.and_eq_true,decide_eq_true_eq] at h;exact .inl h
 ·split at h
  ·rw[Bool.and_eq_true,decide_eq_true_eq] at h;exact .inr (.inl h)
  ·split at h
   ·rw[Bool.and_eq_true,decide_eq_true_eq] at h;exact .inr (.inr (.inl h))
   ·split at h
    ·rw[Bool.and_eq_true,decide_eq_true_eq] at h;exact .inr (.inr (.inr (.inl h)))
    ·split at h
     ·rw[Bool.and_eq_true,decide_eq_true_eq] at h;exact .inr (.inr (.inr (.inr h)))
     ·cases h
theorem UR {m:Mg} (h:mgB m=true):mgP (mgE m)=m:=by
 rcases Ge h with⟨F,e⟩ | ⟨F,e⟩ | ⟨F,e⟩ | ⟨F,e⟩ | ⟨F,e⟩
 ·have D:=UM F
  have E:mgE m=asE m.aq:=by rw[e];rfl
  rw[E]
  conv=>rhs;rw[e]
  show(⟨1,(asP (Ar 106 (some (asE m.aq)))).1,tg0,re0,ap0,fa0⟩:Mg)=_;rw[D.1,D.2]
 ·have D:=UN F
  have E:mgE m=tgE m.tg:=by rw[e];rfl
  rw[E]
  conv=>rhs;rw[e]
  show(⟨2,as0,(tgP (Ar 108 (some (tgE m.tg)))).1,re0,ap0,fa0⟩:Mg)=_;rw[D.1,D.2]
 ·have D:=UO F
  have E:mgE m=reE m.re:=by rw[e];rfl
  rw[E]
  conv=>rhs;rw[e]
  show(⟨3,as0,tg0,(reP (Ar 107 (some (reE m.re)))).1,ap0,fa0⟩:Mg)=_;rw[D.1,D.2]
 ·have D:=UP F
  have E:mgE m=apE m.ap:=by rw[e];rfl
  rw[E]
  conv=>rhs;rw[e]
  show(⟨4,as0,tg0,re0,(apP (Ar 110 (some (apE m.ap)))).1,fa0⟩:Mg)=_;rw[D.1,D.2]
 ·have D:=UQ F
  have E:mgE m=faE m.fa:=by rw[e];rfl
  rw[E]
  conv=>rhs;rw[e]
  show(⟨5,as0,tg0,re0,ap0,(faP (Ar 126 (some (faE m.fa)))).1⟩:Mg)=_;rw[D.1,D.2]
theorem BA {ok:Bool} {l b:L}:limO ok l=some b↔ok=true/\l.length<=2000/\l=b:=by
 unfold limO
 split
 ·rename_i h
  exact⟨fun e=>⟨h.1,h.2,Option.some.inj e⟩,fun e=>by rw[e.2.2]⟩
 ·rename_i h
  exact⟨fun e=>by(cases e),fun e=>False.elim (h (And.intro e.1 e.2.1))⟩
theorem IT {b:L} {m:Mg}:mgD b=some m↔mgO m=some b:=by
 unfold mgD;constructor
 ·intro h
  split at h
  ·rename_i D;injection h with h;rw[<-h];exact D
  ·cases h
 ·intro h
  have D:=BA.1 h;have e:mgP b=m:=by rw[<-D.2.2];exact UR D.1
  rw[e,if_pos h]
theorem WE {b:L} {p:Rp} (hk:p.ss.length=32):rpD b=some p↔rpO p=some b:=by
 unfold rpD;constructor
 ·intro h
  split at h
  ·rename_i D;injection h with h;rw[<-h];exact D
  ·cases h
 ·intro h
  have D:=BA.1 h;have e:(rpP b).1=p:=by rw[<-D.2.2,KZ D.1 hk]
  rw[e,if_pos h]
theorem TP (c:Option L):(keP c).1.length=32:=by
 unfold keP
 split
 ·assumption
 ·rfl
theorem WG {b:L} {p:Rp} (h:rpD b=some p):rpO p=some b/\(rpP b)=(p,some []):=by
 unfold rpD at h
 split at h
 ·rename_i h2
  injection h with h;have hk:p.ss.length=32:=by rw[<-h];exact TP _
  rw[h] at h2;have D:=BA.1 h2;exact⟨h2,by rw[<-D.2.2];exact KZ D.1 hk⟩
 ·cases h
end Ms
namespace Rg
open Nm (BM L)
abbrev Pr:=L×L
def prB (p:Pr):Bool:=BM p.1 p.2
structure It where
 p:Pr
 n:Nat
 k:Nat->UInt8
end Rg
namespace Ca
open Nm (L)
open Rg (Pr)
structure Cr where
 s:Pr
 n:Int
 b:L
 k:Nat->UInt8
 e:Int
abbrev It:=Pr×Cr
def del (p:Pr) (t:Int) (i:It):Bool:=decide (i.2.e<t)||decide (i.1=p)
def rest (l:List It) (p:Pr) (t:Int):List It:=l.filter (fun i=>!del p t i)
def putL (l:List It) (p:Pr) (x:Cr) (t:Int):List It:=if (rest l p t).length<10 then rest l p t++[(p,x)] else rest l p t
def putE (l:List It) (p:Pr) (t:Int):Nat:=if (rest l p t).length<10 then 0 else 13
def hitG (p:Pr) (t:Int) (i:It):Bool:=decide (i.1=p)&&decide (t<=i.2.e)
def getO (l:List It) (p:Pr) (t:Int):Option It:=l.find? (hitG p t)
theorem RO (l:List It) (p:Pr) (x:Cr) (t:Int) (h:l.length<=10):(putL l p x t).length<=10:=by
 have:(rest l p t).length<=10:=Nat.le_trans (List.length_filter_le _ _) h;unfold putL
 split
 ·simp;omega
 ·exact this
end Ca
namespace Sp
open Go.RowKit Ad
abbrev Wd:=BitVec 32
def rot (v:Wd) (s:Nat):Wd:=(v <<< s) ||| (v >>> (32 - s))
abbrev wv (v:Wd):Value:=.int .u32 (v.toNat:Int)
theorem FH (v:Wd):v.toNat<4294967296:=v.isLt
theorem Mn (n:Nat):IntKind.u32.wrap (n:Int)=((BitVec.ofNat 32 n).toNat:Int):=by
 rw[IntKind.wrap_u32,BitVec.toNat_ofNat];omega
theorem Bu (x y:Wd):bits .xor .u32 (x.toNat:Int) (y.toNat:Int)=((x ^^^ y).toNat:Int):=by
 rw[u32_xor_nat _ _ x.isLt y.isLt,BitVec.toNat_xor]
theorem Fw (x y:Wd):((x.toNat:Int)+(y.toNat:Int)) % 4294967296=((x+y).toNat:Int):=by
 rw[BitVec.toNat_add];omega
theorem Jn (v:Wd) (s:Nat):(rot v s).toNat=(v.toNat*2 ^ s % 4294967296) ||| (v.toNat / 2 ^ (32 - s)):=by
 simp [rot,BitVec.toNat_or,BitVec.toNat_shiftLeft,BitVec.toNat_ushiftRight,Nat.shiftLeft_eq,Nat.shiftRight_eq_div_pow]
theorem GX (v:Wd) (a b:Nat) (s:Nat) (D:a=v.toNat*2 ^ s % 4294967296) (E:b=v.toNat / 2 ^ (32 - s)):bits .or .u32 (a:Int) (b:Int)=((rot v s).toNat:Int):=by
 rw[u32_or_nat a b (by omega) (by have:=FH v;have:=Nat.div_le_self v.toNat (2 ^ (32 - s));omega),Jn,D,E]
theorem or_rot' (v:Wd) (a b:Nat) (s:Nat) (D:a=v.toNat*2 ^ s % 4294967296) (E:b=v.toNat / 2 ^ (32 - s)):bits .or .u32 (b:Int) (a:Int)=((rot v s).toNat:Int):=by
 rw[u32_or_nat b a (by have:=FH v;have:=Nat.div_le_self v.toNat (2 ^ (32 - s));omega) (by omega),Jn,D,E,Nat.or_comm]
theorem or3 (v:Wd):bits .or .u32 ((v.toNat:Int)*8 % 4294967296) ((v.toNat:Int) / 536870912)=((rot v 3).toNat:Int):=GX v _ _ 3 rfl rfl
theorem or24 (v:Wd):bits .or .u32 ((v.toNat:Int)*16777216 % 4294967296) ((v.toNat:Int) / 256)=((rot v 24).toNat:Int):=GX v _ _ 24 rfl rfl
theorem ro24 (v:Wd):bits .or .u32 ((v.toNat:Int) / 256) ((v.toNat:Int)*16777216 % 4294967296)=((rot v 24).toNat:Int):=or_rot' v _ _ 24 rfl rfl
def step (k:Wd) (p:Wd×Wd):Wd×Wd:=((rot p.1 24+p.2) ^^^ k,rot p.2 3 ^^^ ((rot p.1 24+p.2) ^^^ k))
def Hf (K:Nat->Wd):Nat->Wd×Wd->Wd×Wd
 |0,p=>p
 |n+1,p=>step (K n) (Hf K n p)
def BV (K:Nat->Wd) (p:Wd×Wd):Wd×Wd:=Hf K 27 p
def le4 (a b c d:UInt8):Wd:=BitVec.ofNat 32 (a.toNat+b.toNat*256+c.toNat*65536+d.toNat*16777216)
theorem Df (a b c d:UInt8):(le4 a b c d).toNat=a.toNat+b.toNat*256+c.toNat*65536+d.toNat*16777216:=by
 have:=a.toNat_lt;have:=b.toNat_lt;have:=c.toNat_lt;have:=d.toNat_lt;rw[le4,BitVec.toNat_ofNat];omega
theorem WI (a b c d:UInt8):bits .or .u32 (bits .or .u32 (bits .or .u32 (a.toNat:Int) ((b.toNat:Int)*256 % 4294967296)) ((c.toNat:Int)*65536 % 4294967296)) ((d.toNat:Int)*16777216 % 4294967296)=((le4 a b c d).toNat:Int):=by
 have Z:=a.toNat_lt;have Y:=b.toNat_lt;have hc:=c.toNat_lt;have hd:=d.toNat_lt;have D:(b.toNat:Int)*256 % 4294967296=((b.toNat*256:Nat):Int):=by omega
 have F:(c.toNat:Int)*65536 % 4294967296=((c.toNat*65536:Nat):Int):=by omega
 have E:(d.toNat:Int)*16777216 % 4294967296=((d.toNat*16777216:Nat):Int):=by omega
 have X:a.toNat ||| b.toNat*256=b.toNat*256+a.toNat:=by rw[Nat.or_comm];exact nat_join 8 _ _ (by omega) (by omega)
 have O:(b.toNat*256+a.toNat) ||| c.toNat*65536=c.toNat*65536+(b.toNat*256+a.toNat):=by rw[Nat.or_comm];exact nat_join 16 _ _ (by omega) (by omega)
 have M:(c.toNat*65536+(b.toNat*256+a.toNat)) ||| d.toNat*16777216=d.toNat*16777216+(c.toNat*65536+(b.toNat*256+a.toNat)):=by rw[Nat.or_comm];exact nat_join 24 _ _ (by omega) (by omega)
 rw[D,F,E,u32_or_nat _ _ (by omega) (by omega),X,u32_or_nat _ _ (by omega) (by omega),O,u32_or_nat _ _ (by omega) (by omega),M,Df];omega
def Eg (ks:Nat->UInt8) (i:Nat):Wd:=le4 (ks (4*i)) (ks (4*i+1)) (ks (4*i+2)) (ks (4*i+3))
structure Sch where
 k:Wd
 a:Wd
 b:Wd
 c:Wd
def WJ (i:Nat) (s:Sch):Wd:=(s.k+rot s.a 24) ^^^ BitVec.ofNat 32 i
def sch (ks:Nat->UInt8):Nat->Sch
 |0=>⟨Eg ks 0,Eg ks 1,Eg ks 2,Eg ks 3⟩
 |i+1=>⟨rot (sch ks i).k 3 ^^^ WJ i (sch ks i),(sch ks i).b,(sch ks i).c,WJ i (sch ks i)⟩
def kw (ks:Nat->UInt8) (i:Nat):Wd:=(sch ks i).k
def lw (ks:Nat->UInt8) (i:Nat):Wd:=(sch ks i).a
theorem lw_3 (ks:Nat->UInt8) (i:Nat):lw ks (i+3)=(kw ks i+rot (lw ks i) 24) ^^^ BitVec.ofNat 32 i:=rfl
theorem Pb (ks:Nat->UInt8) (i:Nat):kw ks (i+1)=rot (kw ks i) 3 ^^^ lw ks (i+3):=rfl
def ID (K:Nat->Wd) (up lo:Wd) (i:Nat):Nat:=(BV K (up,lo+BitVec.ofNat 32 i)).1.toNat+4294967296*(BV K (up,lo+BitVec.ofNat 32 i)).2.toNat
def DT (K:Nat->Wd) (up lo:Wd) (j:Nat):UInt8:=UInt8.ofNat (ID K up lo (j / 8) / 256 ^ (j % 8))
def strm (K:Nat->Wd) (up lo:Wd) (n:Nat):List UInt8:=(List.range n).map (DT K up lo)
theorem La (K:Nat->Wd) (up lo:Wd) (n:Nat):(strm K up lo n).length=n:=by simp [strm]
theorem Pc (K:Nat->Wd) (up lo:Wd) (n m:Nat) (h:n<=m):(strm K up lo m).take n=strm K up lo n:=by
 simp [strm,List.take_range,<-List.map_take,Nat.min_eq_left h]
theorem rotL3 (v:Wd) (w:World):Calls Tryz.prog 224 #[wv v,.int .i64 3] w fun e w'=>e=.returned (wv (rot v 3))/\w'=w:=by
 have hand:bits .and .u64 3 31=3:=by kernel_rfl
 have D:=or3 v;go_enter Tryz.func224,Tryz.ntmps224
 go_wp2
 go_ret;exact⟨rfl,rfl⟩
theorem rotR8 (v:Wd) (w:World):Calls Tryz.prog 224 #[wv v,.int .i64 (-8)] w fun e w'=>e=.returned (wv (rot v 24))/\w'=w:=by
 have D:IntKind.u64.wrap (-8)=18446744073709551608:=by kernel_rfl
 have hand:bits .and .u64 18446744073709551608 31=24:=by kernel_rfl
 have E:=or24 v;go_enter Tryz.func224,Tryz.ntmps224
 go_wp2
 go_ret;exact⟨rfl,rfl⟩
theorem WK (v:Wd) (w:World):Calls Tryz.prog 213 #[wv v,.int .i64 3] w fun e w'=>e=.returned (wv (rot v 3))/\w'=w:=by
 go_enter Tryz.func213,Tryz.ntmps213
 go_wp2_with (go_at_call 224;refine(rotL3 _ _).mono ?_;rintro e w' ⟨rfl,rfl⟩)
 go_ret;exact⟨rfl,rfl⟩
theorem TQ (v:Wd) (w:World):Calls Tryz.prog 212 #[wv v,.int .i64 8] w fun e w'=>e=.returned (wv (rot v 24))/\w'=w:=by
 go_enter Tryz.func212,Tryz.ntmps212
 go_wp2_with (go_at_call 224;refine(rotR8 _ _).mono ?_;rintro e w' ⟨rfl,rfl⟩)
 go_ret;exact⟨rfl,rfl⟩
theorem TR (v:Wd) (w:World):Calls Tryz.prog 136 #[wv v,.int .u64 3] w fun e w'=>e=.returned (wv (rot v 3))/\w'=w:=by
 have D:=or3 v;go_enter Tryz.func136,Tryz.ntmps136
 go_wp2
 go_ret;exact⟨rfl,rfl⟩
theorem Pd (v:Wd) (w:World):Calls Tryz.prog 135 #[wv v,.int .u64 8] w fun e w'=>e=.returned (wv (rot v 24))/\w'=w:=by
 have D:=ro24 v;go_enter Tryz.func135,Tryz.ntmps135
 go_wp2
 go_ret;exact⟨rfl,rfl⟩
def Cj (ks:Nat->UInt8) (d s m:Int) (W:Nat->Wd):Array Value:=
 ((List.range 16).map (fun i=>bv (ks i))++(([.int .u32 d,.int .i32 s,.int .u32 0,.int .u32 m]:List Value)++(List.range 27).map (fun j=>wv (W j)))).toArray
def KB (w:World) (b:Nat) (ks:Nat->UInt8) (d s m:Int) (W:Nat->Wd):Prop:=Blk w b 285 (Cj ks d s m W)
theorem Nh (ks:Nat->UInt8) (d s m:Int) (W:Nat->Wd) (i:Nat) (h:i<16):(Cj ks d s m W)[i]? = some (bv (ks i)):=by
 rw[Cj,List.getElem?_toArray,List.getElem?_append_left (by simpa using h)];simp [h]
theorem Gz (ks:Nat->UInt8) (d s m:Int) (W:Nat->Wd) (i:Nat) (h:i<4):(Cj ks d s m W)[16+i]? = ([.int .u32 d,.int .i32 s,.int .u32 0,.int .u32 m]:List Value)[i]?:=by
 rw[Cj,List.getElem?_toArray,List.getElem?_append_right (by simp),List.getElem?_append_left (by simpa using h)];simp
theorem Lb (ks:Nat->UInt8) (d s m:Int) (W:Nat->Wd) (i:Nat) (h:i<27):(Cj ks d s m W)[20+i]? = some (wv (W i)):=by
 rw[Cj,List.getElem?_toArray,List.getElem?_append_right (by simp;omega),List.getElem?_append_right (by simp;omega)];have:20+i - (List.map (fun i=>bv (ks i)) (List.range 16)).length - ([.int .u32 d,.int .i32 s,.int .u32 0,.int .u32 m]:List Value).length=i:=by simp;omega
 rw[this];simp [h]
theorem JZ (ks:Nat->UInt8) (d s m D:Int) (W:Nat->Wd):(Cj ks d s m W).setIfInBounds 16 (.int .u32 D)=Cj ks D s m W:=by
 simp [Cj]
theorem Ka (ks:Nat->UInt8) (d s m s':Int) (W:Nat->Wd):(Cj ks d s m W).setIfInBounds 17 (.int .i32 s')=Cj ks d s' m W:=by
 simp [Cj]
theorem Kb (ks:Nat->UInt8) (d s m m':Int) (W:Nat->Wd):(Cj ks d s m W).setIfInBounds 19 (.int .u32 m')=Cj ks d s m' W:=by
 simp [Cj]
def upd (W:Nat->Wd) (i:Nat) (v:Wd) (j:Nat):Wd:=if j=i then v else W j
theorem Ia (ks:Nat->UInt8) (d s m:Int) (W:Nat->Wd) (i:Nat) (v:Wd):(Cj ks d s m W).setIfInBounds (20+i) (wv v)=Cj ks d s m (upd W i v):=by
 have e:((List.range 27).map fun j=>wv (W j)).set i (wv v)=(List.range 27).map fun j=>wv (upd W i v j):=by
  apply List.ext_getElem?;intro j;rw[List.getElem?_set,List.getElem?_map,List.getElem?_map]
  by_cases hj:i=j
  ·subst hj
   by_cases h27:i<27
   ·simp [h27,upd]
   ·simp [h27]
  ·have D:¬j=i:=fun h=>hj h.symm
   rw[if_neg hj];rcases Nat.lt_or_ge j 27 with h | h
   ·simp [h,upd,D]
   ·rw[List.getElem?_eq_none (by simpa using h)];rfl
 unfold Cj;rw[List.setIfInBounds_toArray,List.set_append_right _ _ (by simp;omega),List.set_append_right _ _ (by simp;omega)];have:20+i - (List.map (fun i=>bv (ks i)) (List.range 16)).length - ([.int .u32 d,.int .i32 s,.int .u32 0,.int .u32 m]:List Value).length=i:=by simp;omega
 rw[this,e]
section
variable {w w':World} {b:Nat} {ks:Nat->UInt8} {d s m:Int} {W:Nat->Wd}
theorem KB.cell (h:KB w b ks d s m W) (i:Nat):w.cell? ⟨b,i,none⟩=(Cj ks d s m W)[i]?:=Blk.cell h i
theorem KB.cd (h:KB w b ks d s m W):w.cell? ⟨b,16,none⟩=some (.int .u32 d):=(h.cell 16).trans (Gz ks d s m W 0 (by decide))
theorem KB.cs (h:KB w b ks d s m W):w.cell? ⟨b,17,none⟩=some (.int .i32 s):=(h.cell 17).trans (Gz ks d s m W 1 (by decide))
theorem KB.cm (h:KB w b ks d s m W):w.cell? ⟨b,19,none⟩=some (.int .u32 m):=(h.cell 19).trans (Gz ks d s m W 3 (by decide))
theorem KB.cw (h:KB w b ks d s m W) (i:Nat) (D:i<27):w.cell? ⟨b,20+i,none⟩=some (wv (W i)):=(h.cell _).trans (Lb ks d s m W i D)
theorem KB.ck (h:KB w b ks d s m W) (i:Nat) (D:i<16):w.cell? ⟨b,i,none⟩=some (bv (ks i)):=(h.cell _).trans (Nh ks d s m W i D)
theorem KB.fz (h:KB w b ks d s m W) (i:Nat):w.frozen? ⟨b,i,none⟩=false:=Blk.frozen h i
theorem KB.set_d (h:KB w b ks d s m W) (D:Int):KB (w.setCell ⟨b,16,none⟩ (.int .u32 D)) b ks D s m W:=by
 have:=Blk.set h 16 (.int .u32 D);rwa [JZ] at this
theorem KB.set_s (h:KB w b ks d s m W) (s':Int):KB (w.setCell ⟨b,17,none⟩ (.int .i32 s')) b ks d s' m W:=by
 have:=Blk.set h 17 (.int .i32 s');rwa [Ka] at this
theorem KB.set_m (h:KB w b ks d s m W) (m':Int):KB (w.setCell ⟨b,19,none⟩ (.int .u32 m')) b ks d s m' W:=by
 have:=Blk.set h 19 (.int .u32 m');rwa [Kb] at this
theorem KB.set_word (h:KB w b ks d s m W) (i:Nat) (v:Wd):KB (w.setCell ⟨b,20+i,none⟩ (wv v)) b ks d s m (upd W i v):=by
 have:=Blk.set h (20+i) (wv v);rwa [Ia] at this
theorem KB.lt (h:KB w b ks d s m W):b<w.heap.size:=Blk.lt h
theorem KB.drewN (h:KB w b ks d s m W) (n:Nat):KB (w.drewN n) b ks d s m W:=h
theorem KB.drew (h:KB w b ks d s m W):KB w.drew b ks d s m W:=h
theorem KB.below (h:KB w b ks d s m W) (D:Below w.heap.size w w'):KB w' b ks d s m W:=Blk.below h D
theorem KB.grown {row:Option Nat} (h:KB w b ks d s m W) (E:w.grownBy w' row) (D:row≠some b):KB w' b ks d s m W:=Blk.grown h E D
end
theorem disable (w:World):(callFunc 237 #[]).run Tryz.prog w=.ok (.value (.tuple #[])) w:=run_call_mark0 Tryz.func237 (by kernel_rfl) (by kernel_rfl) (by kernel_rfl) .disable (by kernel_rfl) w
theorem enable (w:World):(callFunc 239 #[]).run Tryz.prog w=.ok (.value (.tuple #[])) w:=run_call_mark0 Tryz.func239 (by kernel_rfl) (by kernel_rfl) (by kernel_rfl) .enable (by kernel_rfl) w
theorem acquire (a:Addr) (w:World):(callFunc 240 #[.pointer (some a)]).run Tryz.prog w=.ok (.value (.tuple #[])) w:=run_call_marked Tryz.func240 (by kernel_rfl) (by kernel_rfl) (by kernel_rfl) .acquire (by kernel_rfl) a w
theorem releaseMerge (a:Addr) (w:World):(callFunc 242 #[.pointer (some a)]).run Tryz.prog w=.ok (.value (.tuple #[])) w:=run_call_marked Tryz.func242 (by kernel_rfl) (by kernel_rfl) (by kernel_rfl) .releaseMerge (by kernel_rfl) a w
theorem Ni (a:Addr) (x:Value) (w:World) (O:w.cell? a=some x) (M:w.frozen? a=false) :
  Calls Tryz.prog 222 #[.pointer (some a),.bool true] w fun e w'=>e=.returned (.tuple #[])/\w'=w.drew.setCell a (.int .u32 1):=by
 have E:w.drew.cell? a=some x:=by go_simp
 have D:w.drew.frozen? a=false:=by go_simp
 have F:=run_call_store (P:=Tryz.prog) Tryz.func231 (by kernel_rfl) (by kernel_rfl) (by kernel_rfl) (by kernel_rfl) (k:=.u32) (y:=1) E D;go_enter Tryz.func222,Tryz.ntmps222
 go_wp2
 go_region_calls
 all_goals (go_end0;exact⟨rfl,rfl⟩)
theorem FB (a:Addr) (x:Value) (u:FrameMode) (w:World) (X:w.cell? a=some x) (O:w.frozen? a=false) :
  CallsD Tryz.prog 222 #[.pointer (some a),.bool true] u w fun e F w'=>F=u/\(e=.returned (.tuple #[])/\w'=w.drew.setCell a (.int .u32 1)):=by
 have E:w.drew.cell? a=some x:=by go_simp
 have D:w.drew.frozen? a=false:=by go_simp
 have M:=run_call_store (P:=Tryz.prog) Tryz.func231 (by kernel_rfl) (by kernel_rfl) (by kernel_rfl) (by kernel_rfl) (k:=.u32) (y:=1) E D
 go_enter_d Tryz.func222,Tryz.ntmps222
 go_wp2
 go_region_calls
 all_goals (go_end0;exact⟨rfl,rfl⟩)
theorem DJ (a:Addr) (d:Int) (w:World) (D:w.cell? a=some (.int .u32 d)) (x:Bool) (F:(d != 0)=x) :
  Calls Tryz.prog 208 #[.pointer (some a)] w fun e w'=>e=.returned (.bool x)/\w'=w:=by
 have E:=run_call_load (P:=Tryz.prog) Tryz.func219 (by kernel_rfl) (by kernel_rfl) (by kernel_rfl) .u32 (by kernel_rfl) D;go_enter Tryz.func208,Tryz.ntmps208
 go_wp2
 go_ret;exact⟨rfl,rfl⟩
theorem Ew (a:Addr) (u:FrameMode) (w:World) (E:w.cell? a=some (.int .i32 1)) (O:w.frozen? a=false) :
  CallsD Tryz.prog 221 #[.pointer (some a)] u w fun e F w'=>F=u/\(e=.returned (.tuple #[])/\w'=w.setCell a (.int .i32 0)):=by
 have Y:=disable;have he:=enable;have X:=releaseMerge;have D:=run_call_add (P:=Tryz.prog) Tryz.func243 (by kernel_rfl) (by kernel_rfl) (by kernel_rfl) .i32 (by kernel_rfl) (y:=-1) (s:=0) E O (by simp [go_sem];rfl);have M:=run_convert_to_unsafe (P:=Tryz.prog) (src:=307) (dst:=311) Tryz.underlying307 Tryz.underlying311 (by kernel_rfl) E
 go_enter_d Tryz.func221,Tryz.ntmps221
 go_wp2
 go_end0
 go_wp2
 go_end0
 exact⟨rfl,rfl⟩
theorem Kc (a:Addr) (w:World) (F:w.cell? a=some (.int .i32 0)) (M:w.frozen? a=false) :
  Calls Tryz.prog 220 #[.pointer (some a)] w fun e w'=>e=.returned (.tuple #[])/\w'=w.setCell a (.int .i32 1):=by
 have Y:=disable;have he:=enable;have X:=acquire;have E:=run_call_cas_hit (P:=Tryz.prog) Tryz.func238 (by kernel_rfl) (by kernel_rfl) (by kernel_rfl) .i32 (by kernel_rfl) (y:=1) F M;have D:(w.setCell a (.int .i32 1)).cell? a=some (.int .i32 1):=World.cell?_setCell_same w a _ F;have O:=run_convert_to_unsafe (P:=Tryz.prog) (src:=307) (dst:=311) Tryz.underlying307 Tryz.underlying311 (by kernel_rfl) D;go_enter Tryz.func220,Tryz.ntmps220
 go_wp2
 first | go_end0 | (simp only[Exit.inBlock,Exit.then];refine bodyPost_ret (results_none rfl _ _ _) rfl ?_) | refine bodyPost_ret (results_none rfl _ _ _) rfl ?_
 go_wp2
 go_end0
 exact⟨rfl,rfl⟩
def Bg (w w':World):Prop:=∃n,w'=w.drewN n
theorem Dl (b o:Nat) (n c:Nat) (D b1 b2 b3:UInt8) (w:World) (E:4<=n)
  (X:w.cell? ⟨b,o,none⟩=some (bv D)) (M:w.cell? ⟨b,o+1,none⟩=some (bv b1)) (F:w.cell? ⟨b,o+2,none⟩=some (bv b2)) (Z:w.cell? ⟨b,o+3,none⟩=some (bv b3)) :
  Calls Tryz.prog 223 #[.slice (some ⟨b,o,none⟩) n c] w fun e w'=>e=.returned (wv (le4 D b1 b2 b3))/\w'=w.drew:=by
 have k0:(0:Int)<n:=by omega
 have k1:(1:Int)<n:=by omega
 have k2:(2:Int)<n:=by omega
 have k3:(3:Int)<n:=by omega
 have k4:0<n:=by omega
 have k5:1<n:=by omega
 have k6:2<n:=by omega
 have k7:3<n:=by omega
 have Y:=I E;clear E;simp only[bv] at X M F Z;have hle:=WI D b1 b2 b3;have O:=IntKind.wrap_u32;have m0:(D.toNat:Int) % 4294967296=D.toNat:=by have:=By D;omega
 have m1:(b1.toNat:Int) % 4294967296=b1.toNat:=by have:=By b1;omega
 have m2:(b2.toNat:Int) % 4294967296=b2.toNat:=by have:=By b2;omega
 have m3:(b3.toNat:Int) % 4294967296=b3.toNat:=by have:=By b3;omega
 go_enter Tryz.func223,Tryz.ntmps223
 go_wp2_with fail
 go_region_held3 (fun w'=>w'.cell? ⟨b,o,none⟩=some (.int .u8 D.toNat)/\w'.cell? ⟨b,o+1,none⟩=some (.int .u8 b1.toNat)/\w'.cell? ⟨b,o+2,none⟩=some (.int .u8 b2.toNat)/\w'.cell? ⟨b,o+3,none⟩=some (.int .u8 b3.toNat)) (go_keep) (fail)
 all_goals (go_wp2;go_ret;exact⟨rfl,rfl⟩)
def Bm (ks:Nat->UInt8) (i j:Nat):Wd:=if j<=i then kw ks j else 0
theorem Mo {w:World} {b:Nat} {ks:Nat->UInt8} {d s m:Int} {W:Nat->Wd} (D:KB w b ks d s m W) (i n c:Nat) (F:i<4) (E:4<=n) :
  Calls Tryz.prog 223 #[.slice (some ⟨b,4*i,none⟩) n c] w fun e w'=>e=.returned (wv (Eg ks i))/\w'=w.drew:=
 Dl b (4*i) n c _ _ _ _ w E (D.ck _ (by omega)) (D.ck _ (by omega)) (D.ck _ (by omega)) (D.ck _ (by omega))
theorem US {w:World} {b:Nat} {ks:Nat->UInt8} {d s m:Int} {W:Nat->Wd} (D:KB w b ks d s m W) :
  Calls Tryz.prog 223 #[.slice (some ⟨b,0,none⟩) 16 16] w fun e w'=>e=.returned (wv (Eg ks 0))/\w'=w.drew:=
 Mo D 0 16 16 (by decide) (by decide)
theorem UT {w:World} {b:Nat} {ks:Nat->UInt8} {d s m:Int} {W:Nat->Wd} (D:KB w b ks d s m W) :
  Calls Tryz.prog 223 #[.slice (some ⟨b,4,none⟩) 12 12] w fun e w'=>e=.returned (wv (Eg ks 1))/\w'=w.drew:=
 Mo D 1 12 12 (by decide) (by decide)
theorem UU {w:World} {b:Nat} {ks:Nat->UInt8} {d s m:Int} {W:Nat->Wd} (D:KB w b ks d s m W) :
  Calls Tryz.prog 223 #[.slice (some ⟨b,8,none⟩) 8 8] w fun e w'=>e=.returned (wv (Eg ks 2))/\w'=w.drew:=
 Mo D 2 8 8 (by decide) (by decide)
theorem UW {w:World} {b:Nat} {ks:Nat->UInt8} {d s m:Int} {W:Nat->Wd} (D:KB w b ks d s m W) :
  Calls Tryz.prog 223 #[.slice (some ⟨b,12,none⟩) 4 4] w fun e w'=>e=.returned (wv (Eg ks 3))/\w'=w.drew:=
 Mo D 3 4 4 (by decide) (by decide)
theorem KB.heap {w w':World} {b:Nat} {ks:Nat->UInt8} {d s m:Int} {W:Nat->Wd} (h:KB w b ks d s m W) (e:w'.heap=w.heap):KB w' b ks d s m W:=by
 unfold KB Blk at *;rw[e];exact h
theorem KB.push {w w':World} {b:Nat} {ks:Nat->UInt8} {d s m:Int} {W:Nat->Wd} {o:Obj} (h:KB w b ks d s m W) (e:w'.heap=w.heap.push o):KB w' b ks d s m W:=by
 have D:=h.lt;unfold KB Blk at *;rw[e,Array.getElem?_push_lt D,<-Array.getElem?_eq_getElem D];exact h
def lc (ks:Nat->UInt8) (i j:Nat):Wd:=lw ks (i+(j+2*i) % 3)
def Ke (ks:Nat->UInt8) (i:Nat):Array Value:=#[wv (lc ks i 0),wv (lc ks i 1),wv (lc ks i 2)]
theorem Pe (ks:Nat->UInt8) (i:Nat):(Ke ks i)[i % 3]? = some (wv (lw ks i)):=by
 have h:i % 3=0\/i % 3=1\/i % 3=2:=by omega
 rcases h with h | h | h<;>rw[h]
 ·show some (wv (lc ks i 0))=_
  rw[lc,show i+(0+2*i) % 3=i by omega]
 ·show some (wv (lc ks i 1))=_
  rw[lc,show i+(1+2*i) % 3=i by omega]
 ·show some (wv (lc ks i 2))=_
  rw[lc,show i+(2+2*i) % 3=i by omega]
theorem Nj (ks:Nat->UInt8) (i:Nat):(Ke ks i).setIfInBounds (i % 3) (wv (lw ks (i+3)))=Ke ks (i+1):=by
 have h:i % 3=0\/i % 3=1\/i % 3=2:=by omega
 rcases h with h | h | h<;>rw[h]
 ·show #[wv (lw ks (i+3)),wv (lc ks i 1),wv (lc ks i 2)]=#[wv (lc ks (i+1) 0),wv (lc ks (i+1) 1),wv (lc ks (i+1) 2)]
  unfold lc;rw[show i+1+(0+2*(i+1)) % 3=i+3 by omega,show i+1+(1+2*(i+1)) % 3=i+(1+2*i) % 3 by omega,show i+1+(2+2*(i+1)) % 3=i+(2+2*i) % 3 by omega]
 ·show #[wv (lc ks i 0),wv (lw ks (i+3)),wv (lc ks i 2)]=#[wv (lc ks (i+1) 0),wv (lc ks (i+1) 1),wv (lc ks (i+1) 2)]
  unfold lc;rw[show i+1+(0+2*(i+1)) % 3=i+(0+2*i) % 3 by omega,show i+1+(1+2*(i+1)) % 3=i+3 by omega,show i+1+(2+2*(i+1)) % 3=i+(2+2*i) % 3 by omega]
 ·show #[wv (lc ks i 0),wv (lc ks i 1),wv (lw ks (i+3))]=#[wv (lc ks (i+1) 0),wv (lc ks (i+1) 1),wv (lc ks (i+1) 2)]
  unfold lc;rw[show i+1+(0+2*(i+1)) % 3=i+(0+2*i) % 3 by omega,show i+1+(1+2*(i+1)) % 3=i+(1+2*i) % 3 by omega,show i+1+(2+2*(i+1)) % 3=i+3 by omega]
theorem Ib (ks:Nat->UInt8) (i:Nat):upd (Bm ks i) (i+1) (kw ks (i+1))=Bm ks (i+1):=by
 funext j
 unfold upd Bm
 by_cases h:j=i+1
 ·subst h;simp
 ·by_cases h2:j<=i
  ·rw[if_neg h,if_pos h2,if_pos (by omega)]
  ·rw[if_neg h,if_neg h2,if_neg (by omega)]
theorem GY (ks:Nat->UInt8):upd (fun _=>0) 0 (kw ks 0)=Bm ks 0:=by
 funext j
 unfold upd Bm
 by_cases h:j=0
 ·subst h;simp
 ·rw[if_neg h,if_neg (by omega)]
theorem Blk.far {w:World} {g:Nat} {t:TypeId} {cs:Array Value} (h:Blk w g t cs) (p:Addr) (u:Value) (D:p.block≠g):Blk (w.setCell p u) g t cs:=
 (Below.heap_setCell w p u g (fun e=>D e.symm)).trans h
theorem Nk (b:Nat) (ks:Nat->UInt8) (w:World) (Z:KB w b ks 0 1 0 (fun _=>0)) :
  Calls Tryz.prog 211 #[.pointer (some ⟨b,0,none⟩)] w fun e w'=>e=.returned (.tuple #[])/\KB w' b ks 0 1 1 (Bm ks 26)/\w.grownBy w' (some b):=by
 have au:=Z.cw 0 (by decide);have av:=US (w:=w.drew) Z.drew;have ad:=Z.fz 20;go_enter Tryz.func211,Tryz.ntmps211
 go_upto_region 0 with fail
 go_cut [] from 5 to 13 (fun wx=>KB wx b ks 0 1 0 (Bm ks 0)/\w.grownBy wx (some b))
 case first=>
  go_region_held3 (fun w'=>True) (trivial) (first | (go_at_call 223;refine Ag av ?_;rintro w' rfl))
  all_goals go_wp2_with fail
  all_goals go_meet
  all_goals
   have h1:=KB.set_word Z 0 (kw ks 0);rw[GY] at h1;exact⟨h1,AX (AX (Ay (World.grownBy.refl _ _) (.inl rfl) _))⟩
 case rest=>
  obtain⟨D,O⟩:=hcut;have ah:∀w':World,KB w' b ks 0 1 0 (Bm ks 0)->_:=fun w' h=>UT h
  have ax:∀w':World,KB w' b ks 0 1 0 (Bm ks 0)->_:=fun w' h=>UU h
  have aw:∀w':World,KB w' b ks 0 1 0 (Bm ks 0)->_:=fun w' h=>UW h
  go_upto_region 1 with fail
  go_cut [2] from 14 to 29 (fun p wx=>∃L,p=.pointer (some ⟨L,0,none⟩)/\w.heap.size<=L/\Blk wx L 298 (Ke ks 0)/\KB wx b ks 0 1 0 (Bm ks 0)/\w.grownBy wx (some b))
  case first=>
   go_region_held3 (fun w'=>True) (trivial) (first | (go_at_call_of 223 (Value.slice (some (Addr.mk b 4 none)) 12 12);refine Ag (ah _ (by first | exact KB.heap D rfl | exact KB.push D rfl)) ?_;rintro w' rfl) | (go_at_call_of 223 (Value.slice (some (Addr.mk b 8 none)) 8 8);refine Ag (ax _ (by first | exact KB.heap D rfl | exact KB.push D rfl)) ?_;rintro w' rfl) | (go_at_call_of 223 (Value.slice (some (Addr.mk b 12 none)) 4 4);refine Ag (aw _ (by first | exact KB.heap D rfl | exact KB.push D rfl)) ?_;rintro w' rfl))
   all_goals go_wp2_with fail
   all_goals go_meet
   all_goals exact⟨_,rfl,O.size,Blk.new wc _ _,Blk.alloc D _,AX (AX (AX (AX (Ce O _))))⟩
  case rest=>
   obtain⟨L,rfl,hL,ai,aj,ar⟩:=hcut;have af:L≠b:=by have:=Z.lt;omega
   have az:=Fw;have aH:=Bu;have aG:=I hL;clear hL;have aC:=I ai;clear ai;have aF:=I aj;clear aj;have aE:=I ar;clear ar;have H1:=I D;clear D;have H0:=I Z;clear Z;have G1:=I O;clear O;clear av ah ax aw au ad
   go_wp2_with fail
   go_loopw [30] (fun iv wr=>∃i:Nat,i<=26/\iv=.int .i64 (i:Int)/\Blk wr L 298 (Ke ks i)/\KB wr b ks 0 1 0 (Bm ks i)/\w.grownBy wr (some b)) (fun iv _=>26 - (intOf iv).toNat)
   case atStart=>exact⟨0,by decide,rfl,aC.o,aF.o,aE.o⟩
   case round=>
    obtain⟨i,hi,rfl,F,E,X⟩:=hrel
    by_cases h26:i=26
    ·subst h26
     have M:=I E;clear E;have aa:=I X;clear X;have al:=I F;clear F
     go_wp2_with (go_at_call 222;refine Ag (Ni _ _ _ (KB.cm M.o) (KB.fz M.o 19)) ?_;rintro w' rfl)
     go_end0
     have e1:=KB.set_m (KB.drew M.o) 1;exact⟨rfl,e1,Ay (AX aa.o) (.inl rfl) _⟩
    ·have ae:i<26:=by omega
     have aB:(0:Int)<=(i:Int):=by omega
     have aO:(i:Int)<27:=by omega
     have aI:i<27:=by omega
     have aV:(i:Int)+1<27:=by omega
     have aJ:i+1<27:=by omega
     have aM:(i:Int)<26:=by omega
     obtain⟨r,hr⟩:=Ah (i % 3);have aK:(i:Int).tmod 3=(r:Int):=by rw[Int.tmod_eq_emod_of_nonneg aB];omega
     have ba:(r:Int)<3:=by omega
     have aW:r<3:=by omega
     obtain⟨k0,ek⟩:=Ah (kw ks i);obtain⟨a0,ea⟩:=Ah (lw ks i);obtain⟨v,ev⟩:=Ah (lw ks (i+3));obtain⟨u,eu⟩:=Ah (kw ks (i+1));have ck:wr.cell? ⟨b,20+i,none⟩=some (wv k0):=by
      have:=E.cw i aI;rw[Bm,if_pos Ae,<-ek] at this;exact this
     have ca:wr.cell? ⟨L,r,none⟩=some (wv a0):=by rw[F.cell,hr,Pe,ea]
     have fb:=E.fz;have fL:=F.frozen;obtain⟨ci,ec⟩:=Ah (BitVec.ofNat 32 i);obtain⟨ra,era⟩:=Ah (rot a0 24);obtain⟨rk,Y⟩:=Ah (rot k0 3);obtain⟨sm,es⟩:=Ah (k0+ra);have aA:IntKind.u32.wrap (i:Int)=(ci.toNat:Int):=by rw[ec];exact Mn i
     have aS:(i:Int) % 4294967296=(ci.toNat:Int):=by rw[<-IntKind.wrap_u32];exact aA
     have aD:((k0.toNat:Int)+(ra.toNat:Int)) % 4294967296=(sm.toNat:Int):=by rw[es];exact Fw _ _
     have aX:IntKind.u32.wrap ((k0.toNat:Int)+(ra.toNat:Int))=(sm.toNat:Int):=by rw[IntKind.wrap_u32];exact aD
     have aN:bits .xor .u32 (sm.toNat:Int) (ci.toNat:Int)=(v.toNat:Int):=by rw[Bu,ev,lw_3,es,era,ek,ea,ec]
     have aY:bits .xor .u32 (rk.toNat:Int) (v.toNat:Int)=(u.toNat:Int):=by rw[Bu,ev,eu,Pb,Y,ek]
     have an:=TQ a0;rw[<-era] at an;have ag:=WK k0;rw[<-Y] at ag;have aQ:(wr.setCell ⟨L,r,none⟩ (wv v)).cell? ⟨b,20+i,none⟩=some (wv k0):=(World.cell?_setCell_other _ ⟨L,r,none⟩ ⟨b,20+i,none⟩ _ (by simp)).trans ck;have aU:(wr.setCell ⟨L,r,none⟩ (wv v)).cell? ⟨L,r,none⟩=some (wv v):=World.cell?_setCell_same _ _ _ ca;have aL:∀j,(wr.setCell ⟨L,r,none⟩ (wv v)).frozen? ⟨b,j,none⟩=false:=fun j=>by simp [fb j]
     have ak:∃y,(wr.setCell ⟨L,r,none⟩ (wv v)).cell? ⟨b,20+(i+1),none⟩=some y:=⟨_,(World.cell?_setCell_other _ ⟨L,r,none⟩ ⟨b,20+(i+1),none⟩ _ (by simp)).trans (E.cw (i+1) aJ)⟩;obtain⟨y,ak⟩:=ak;have hh:=I ae;clear ae;have aT:=I h26;clear h26;have aR:=I hi;clear hi;have aZ:=I ek;clear ek;have aP:=I ea;clear ea;have ay:=I ev;clear ev;have ao:=I eu;clear eu;have ab:=I hr;clear hr;clear ec era Y es;have M:=I E;clear E;have aa:=I X;clear X;have al:=I F;clear F;clear az aH
     go_wp2_with fail
     refine wp_region_still_tail 15 (by kernel_rfl) (by kernel_rfl) ?_;simp only[List.take_succ_cons,List.take_zero,List.drop_succ_cons,List.drop_zero];change wpStill _ _ wr.drew _ _ _
     repeat still_step
     still_call (an wr.drew)
     repeat still_step
     refine wpStill_nil ?_;change wpList _ _ _ _ _ wr.drew
     go_wp2_with fail
     refine wp_region_still_tail 16 (by kernel_rfl) (by kernel_rfl) ?_;simp only[List.take_succ_cons,List.take_zero,List.drop_succ_cons,List.drop_zero];change wpStill _ _ (wr.setCell ⟨L,r,none⟩ (.int .u32 v.toNat)).drew.drew _ _ _;clear ck ca fb
     repeat still_step
     still_call (ag _)
     repeat still_step
     refine wpStill_nil ?_;change wpList _ _ _ _ _ (wr.setCell ⟨L,r,none⟩ (.int .u32 v.toNat)).drew.drew
     go_wp2_with fail
     go_roundw
     case rel=>
      refine⟨i+1,by have:=hh.o;omega,by go_num,?_,?_,?_⟩
      ·have e1:=al.o.set r (wv v)
       rw[ab.o,ay.o,Nj] at e1;have e2:=Blk.far e1 ⟨b,20+(i+1),none⟩ (wv u) (by simpa using Ne.symm af);rw[<-ab.o,<-ay.o] at e2;exact e2
      ·have e1:KB (wr.setCell ⟨L,r,none⟩ (wv v)) b ks 0 1 0 (Bm ks i):=Blk.far M.o ⟨L,r,none⟩ (wv v) (by simpa using af)
       have e2:=KB.set_word e1 (i+1) u;rw[ao.o,Ib,<-ao.o] at e2;exact e2
      ·exact AX (AX (Ay (Ay aa.o (.inr aG.o) _) (.inl rfl) _))
     case measure=>have:=hh.o;simp [intOf];omega
abbrev GA:Nat->Wd:=fun _=>0
def Key (w:World) (b:Nat) (ks:Nat->UInt8):Bool->Prop
 |false=>KB w b ks 0 0 0 GA
 |true=>KB w b ks 1 0 1 (Bm ks 26)
theorem DU {a w c:World} {row:Option Nat} (h:a.grownBy w row) (k:w.grownBy c row):a.grownBy c row:=
 ⟨k.os.trans h.os,k.tape.trans h.tape,k.output.trans h.output,Nat.le_trans h.size k.size,fun i E D=>(k.block i (Nat.lt_of_lt_of_le E h.size) D).trans (h.block i E D)⟩
theorem slow (b:Nat) (ks:Nat->UInt8) (w:World) (M:KB w b ks 0 0 0 GA) :
  Calls Tryz.prog 209 #[.pointer (some ⟨b,16,none⟩),.func (.func 211) #[.pointer (some ⟨b,0,none⟩)] #[]] w fun e w'=>e=.returned (.tuple #[])/\KB w' b ks 1 0 1 (Bm ks 26)/\w.grownBy w' (some b):=by
 have D:KB (w.setCell ⟨b,17,none⟩ (.int .i32 1)) b ks 0 1 0 GA:=M.set_s 1;have g1:w.grownBy (w.setCell ⟨b,17,none⟩ (.int .i32 1)) (some b):=Ay (World.grownBy.refl _ _) (.inl rfl) _;have cl:=Kc ⟨b,17,none⟩ w M.cs (M.fz 17);have cd:=DJ ⟨b,16,none⟩ 0 _ D.cd false rfl;have cm:=Nk b ks _ D;have ab:∀(x:Bool) (w:World),(Op.unary .not (.bool x)).run Tryz.prog w=.ok (.bool (!x)) w:=fun _ _=>rfl
 have H:=I M;clear M;have H1:=I D;clear D;have G1:=I g1;clear g1
 go_enter_defers Tryz.func209,Tryz.ntmps209
 go_wp2_with (first | (go_at_call 220;refine Ag cl ?_;rintro w' rfl) | (go_at_call 208;refine Ag cd ?_;rintro w' rfl) | (go_at_call 211;refine Ag cm ?_;rintro w2 ⟨F,Y⟩))
 refine leaves_cons (f:=222) (args:=#[.pointer (some ⟨b,16,none⟩),.bool true]) (by simp) (by simp [go_sem]) ?_;refine(FB ⟨b,16,none⟩ _ .returning w2 F.cd (F.fz 16)).mono ?_;rintro e u' X ⟨rfl,rfl,rfl⟩;have E:=KB.set_d F.drew 1;refine leaves_cons (f:=221) (args:=#[.pointer (some ⟨b,17,none⟩)]) (by simp [settle]) (by simp [go_sem]) ?_;refine(Ew ⟨b,17,none⟩ _ _ E.cs (E.fz 17)).mono ?_;rintro e u' X ⟨rfl,rfl,rfl⟩;have aa:=KB.set_s E 0;have Z:=Ay (row:=some b) (Ay (row:=some b) (AX (World.grownBy.refl w2 (some b))) (p:=⟨b,16,none⟩) (.inl rfl) (.int .u32 1)) (p:=⟨b,17,none⟩) (.inl rfl) (.int .i32 0);have O:=DU (DU G1.o Y) Z;simp [Leaves,settle,results,Tryz.results209];exact⟨aa,O⟩
theorem Jo (b:Nat) (ks:Nat->UInt8) (w:World) (D:KB w b ks 0 0 0 GA) :
  Calls Tryz.prog 193 #[.pointer (some ⟨b,16,none⟩),.func (.func 211) #[.pointer (some ⟨b,0,none⟩)] #[]] w fun e w'=>e=.returned (.tuple #[])/\KB w' b ks 1 0 1 (Bm ks 26)/\w.grownBy w' (some b):=by
 have O:=DJ ⟨b,16,none⟩ 0 w D.cd false rfl;have cs:=slow b ks w D;have M:∀(x:Bool) (w:World),(Op.unary .not (.bool x)).run Tryz.prog w=.ok (.bool (!x)) w:=fun _ _=>rfl
 clear D;go_enter Tryz.func193,Tryz.ntmps193
 go_wp2_with (first | (go_at_call 208;refine Ag O ?_;rintro w' rfl) | (go_at_call 209;refine Ag cs ?_;rintro w2 ⟨E,F⟩))
 go_end0
 exact⟨rfl,E,F⟩
theorem Lc (b:Nat) (M:Value) (w:World) (E:w.cell? ⟨b,16,none⟩=some (.int .u32 1)) :
  Calls Tryz.prog 193 #[.pointer (some ⟨b,16,none⟩),M] w fun e w'=>e=.returned (.tuple #[])/\w'=w:=by
 have F:=DJ ⟨b,16,none⟩ 1 w E true rfl;have D:∀(x:Bool) (w:World),(Op.unary .not (.bool x)).run Tryz.prog w=.ok (.bool (!x)) w:=fun _ _=>rfl
 clear E;go_enter Tryz.func193,Tryz.ntmps193
 go_wp2_with (first | (go_at_call 208;refine Ag F ?_;rintro w' rfl))
 go_end0
 exact⟨rfl,rfl⟩
theorem Gf (b:Nat) (ks:Nat->UInt8) (m:Bool) (w:World) (D:Key w b ks m) :
  Calls Tryz.prog 195 #[.pointer (some ⟨b,0,none⟩)] w fun e w'=>e=.returned (.tuple #[])/\Key w' b ks true/\w.grownBy w' (some b)/\(m=true->w'=w):=by
 have O:∀(fn:Fn) (first cap:Array Value) (w:World),(Instr.makeFunc fn first cap).run Tryz.prog w=.ok (.func fn first cap) w:=fun _ _ _ _=>rfl
 cases m with
 |false=>
  have F:=Jo b ks w D;clear D;go_enter Tryz.func195,Tryz.ntmps195
  go_wp2_with (first | (go_at_call 193;refine Ag F ?_;rintro w' ⟨E,M⟩))
  go_end0
  exact⟨rfl,E,M,fun h=>by cases h⟩
 |true=>
  have F:=fun X=>Lc b X w (KB.cd D)
  have H:=I D;clear D;go_enter Tryz.func195,Tryz.ntmps195
  go_wp2_with (first | (go_at_call 193;refine Ag (F _) ?_;rintro w' rfl))
  go_end0
  exact⟨rfl,H.o,World.grownBy.refl _ _,fun _=>rfl⟩
theorem Key.word {w:World} {b:Nat} {ks:Nat->UInt8} (h:Key w b ks true) (i:Nat) (D:i<27):w.cell? ⟨b,20+i,none⟩=some (wv (kw ks i)):=by
 have:=KB.cw h i D
 rwa [Bm,if_pos (by omega)] at this
theorem Key.grown {w w':World} {b:Nat} {ks:Nat->UInt8} {m:Bool} {row:Option Nat} (h:Key w b ks m) (E:w.grownBy w' row) (D:row≠some b):Key w' b ks m:=by
 cases m with
 |false=>exact KB.grown h E D
 |true=>exact KB.grown h E D
theorem Key.lt {w:World} {b:Nat} {ks:Nat->UInt8} {m:Bool} (h:Key w b ks m):b<w.heap.size:=by
 cases m with
 |false=>exact KB.lt h
 |true=>exact KB.lt h
theorem Key.below {w w':World} {b:Nat} {ks:Nat->UInt8} {m:Bool} (h:Key w b ks m) (D:Below w.heap.size w w'):Key w' b ks m:=
 h.grown (Bo D none) (by simp)
theorem Hi (b:Nat) (ks:Nat->UInt8) (x y:Wd) (w:World) (hK:Key w b ks true) :
  Calls Tryz.prog 196 #[.pointer (some ⟨b,0,none⟩),wv x,wv y] w fun e w'=>e=.returned (.tuple #[wv (BV (kw ks) (x,y)).1,wv (BV (kw ks) (x,y)).2])/\w'=w:=by
 have hw:=fun i hi=>Key.word hK i hi
 clear hK;have HW:=I hw;clear hw;go_enter Tryz.func196,Tryz.ntmps196
 go_wp2_with fail
 go_loop [1,2,13] (fun xv yv iv=>∃i:Nat,i<=27/\iv=.int .i64 (i:Int)/\xv=wv (Hf (kw ks) i (x,y)).1/\yv=wv (Hf (kw ks) i (x,y)).2) (fun _ _ iv=>27 - (intOf iv).toNat)
 case atStart=>exact⟨0,by decide,rfl,rfl,rfl⟩
 case round=>
  obtain⟨i,hi,rfl,rfl,rfl⟩:=hrel
  by_cases h27:i=27
  ·subst h27
   go_wp2_with fail
   go_ret2
   exact⟨rfl,rfl⟩
  ·have ad:(0:Int)<=(i:Int):=by omega
   have ab:(i:Int)<27:=by omega
   have Z:i<27:=by omega
   obtain⟨p,ep⟩:=Ah (Hf (kw ks) i (x,y));obtain⟨k0,ek⟩:=Ah (kw ks i);obtain⟨x0,ex⟩:=Ah (p.1);obtain⟨y0,ey⟩:=Ah (p.2);obtain⟨rx,M⟩:=Ah (rot x0 24);obtain⟨ry,E⟩:=Ah (rot y0 3);obtain⟨sm,es⟩:=Ah (rx+y0);obtain⟨x1,D⟩:=Ah (sm ^^^ k0);obtain⟨y1,F⟩:=Ah (ry ^^^ x1);have ck:w.cell? ⟨b,20+i,none⟩=some (wv k0):=by rw[ek];exact HW.o i Z
   have af:((rx.toNat:Int)+(y0.toNat:Int)) % 4294967296=(sm.toNat:Int):=by rw[es];exact Fw _ _
   have aa:bits .xor .u32 (sm.toNat:Int) (k0.toNat:Int)=(x1.toNat:Int):=by rw[D];exact Bu _ _
   have ae:bits .xor .u32 (ry.toNat:Int) (x1.toNat:Int)=(y1.toNat:Int):=by rw[F];exact Bu _ _
   have Y:=TQ x0;rw[<-M] at Y;have O:=WK y0;rw[<-E] at O;have hn:Hf (kw ks) (i+1) (x,y)=(x1,y1):=by rw[Hf,<-ep,step,<-ex,<-ey,<-ek,<-M,<-E,<-es,<-D,<-F]
   rw[<-ep,<-ex,<-ey];have X:=I hn;clear hn;have hh:=I Z;clear ep ek ex ey M E es D F hi h27
   go_wp2_with (first | (go_at_call 212;refine Ag (Y _) ?_;rintro w' rfl) | (go_at_call 213;refine Ag (O _) ?_;rintro w' rfl))
   go_round
   case rel=>exact⟨i+1,by have:=hh.o;omega,by go_num,by rw[X.o],by rw[X.o]⟩
   case measure=>have:=hh.o;simp [intOf];omega
theorem Blk.new_of (w:World) (g:Nat) (t:TypeId) (cs D:Array Value) (e:cs=D) (E:w.heap.size=g):Blk (w.alloc (.cells cs t)) g t D:=E▸e▸Blk.new w t cs
theorem AS {B:Nat} {a w:World} (h:Below B a w) {p:Addr} (E:B<=p.block) (u:Value):Below B a (w.setCell p u):=
 ⟨h.os,h.tape,h.output,by simpa [World.setCell] using h.size,fun i D=>(Below.heap_setCell w p u i (by omega)).trans (h.block i D)⟩
theorem Aj {P:Program} {fn:Func} {tmps:Array Value} {w:World} {v:Value} (t:Nat) (ty:TypeId) (a:Addr) (D:fn.results=#[.cell t ty]) (M:tmps.getD t undef=.pointer (some a)) (F:(loadVar ty a).run P w=.ok v w) :
  (results fn tmps).run P w=.ok v w:=by
 have E:tmps[t]?.getD undef=.pointer (some a):=by simpa using M
 simp [results,D,E,asAddr,F]
theorem Am {P:Program} {w:World} {g:Nat} {t ty:TypeId} {cs:Array Value} {d:TypeDesc} (h:Blk w g t cs) (hu:P.underlying ty=some d) (M:d.isRow=true) (F:(P.info? ty).map (·.size)=some cs.size) :
  (loadVar ty ⟨g,0,none⟩).run P w=.ok (.agg cs) w:=by
 have E:w.rangeAt g 0 cs.toList:=fun j v D=>by rw[Nat.zero_add,h.cell];simpa using D
 have:=run_loadVar_mid (P:=P) w g 0 ty cs.toList d E hu M (by simpa using F)
 simpa using this
def AF (ks:Nat->UInt8):Array Value:=((List.range 16).map (fun i=>bv (ks i))).toArray
theorem Jp (ks:Nat->UInt8) (w:World):Calls Tryz.prog 210 #[.agg (AF ks)] w fun e w'=>∃b,e=.returned (.pointer (some ⟨b,0,none⟩))/\w.heap.size<=b/\Key w' b ks false/\Below w.heap.size w w':=by
 have hk:AF ks=#[bv (ks 0),bv (ks 1),bv (ks 2),bv (ks 3),bv (ks 4),bv (ks 5),bv (ks 6),bv (ks 7),bv (ks 8),bv (ks 9),bv (ks 10),bv (ks 11),bv (ks 12),bv (ks 13),bv (ks 14),bv (ks 15)]:=rfl;rw[hk];simp only[bv];clear hk;go_enter Tryz.func210,Tryz.ntmps210
 go_wp2
 go_ret;exact⟨w.heap.size+1,rfl,Nat.le_succ _,Blk.new_of (w.alloc _) _ 285 _ (Cj ks 0 0 0 GA) (by kernel_rfl) (by simp),((Below.refl w.heap.size w).alloc Ae _).alloc (by simp) _⟩
def DB (K:Nat->Wd) (up lo:Wd) (n m:Nat):Array Value:=((List.range n).map fun i=>if i<m then bv (DT K up lo i) else bv 0).toArray
theorem Pf (K:Nat->Wd) (up lo:Wd) (n m i:Nat) (h:i<n):(DB K up lo n m)[i]? = some (if i<m then bv (DT K up lo i) else bv 0):=by
 rw[DB,List.getElem?_toArray];simp [h]
theorem Ld (K:Nat->Wd) (up lo:Wd) (n:Nat):Cx n=DB K up lo n 0:=by
 unfold Cx DB
 congr 1
 apply List.ext_getElem?;intro j;rw[List.getElem?_map];rcases Nat.lt_or_ge j n with h | h
 ·simp [h]
 ·rw[List.getElem?_eq_none (by simpa using h),List.getElem?_eq_none (by simpa using h)];rfl
theorem Nl (K:Nat->Wd) (up lo:Wd) (n m:Nat) (h:m<n):(DB K up lo n m).setIfInBounds m (bv (DT K up lo m))=DB K up lo n (m+1):=by
 unfold DB;rw[List.setIfInBounds_toArray]
 congr 1
 apply List.ext_getElem?;intro j;rw[List.getElem?_set,List.getElem?_map,List.getElem?_map]
 by_cases hj:m=j
 ·subst hj;simp [h]
 ·rw[if_neg hj]
  rcases Nat.lt_or_ge j n with D | D
  ·have e:(j<m)=(j<m+1):=propext ⟨by omega,by omega⟩
   simp [D,e]
  ·rw[List.getElem?_eq_none (by simpa using D)];rfl
theorem Nn (K:Nat->Wd) (up lo:Wd) (n m:Nat) (h:n<=m):DB K up lo n m=(bvs (strm K up lo n)).toArray:=by
 unfold DB strm bvs;rw[List.map_map]
 congr 1
 apply List.map_congr_left;intro j D;rw[if_pos (by have:=List.mem_range.1 D;omega)];rfl
theorem RP (K:Nat->Wd) (up lo:Wd) (i:Nat):ID K up lo i<18446744073709551616:=by
 have D:=FH (BV K (up,lo+BitVec.ofNat 32 i)).1;have E:=FH (BV K (up,lo+BitVec.ofNat 32 i)).2;unfold ID;omega
theorem Le (K:Nat->Wd) (up lo:Wd) (n j g c:Nat) (w:World) (h8:8*j<n) (hn:n<=2147483647) (hB:Blk w g 5 (DB K up lo n (8*j))) :
  Calls Tryz.prog 197 #[.slice (some ⟨g,8*j,none⟩) (n - 8*j) c,.int .u64 (ID K up lo j:Nat)] w fun e w'=>e=.returned (.tuple #[])/\Blk w' g 5 (DB K up lo n (min (8*j+8) n))/\w.grownBy w' (some g):=by
 obtain⟨X,Y⟩:=Ah (ID K up lo j);obtain⟨L,eL⟩:=Ah (n - 8*j);obtain⟨M,eM⟩:=Ah (min L 8);obtain⟨o,Z⟩:=Ah (8*j);rw[<-Y,<-eL,<-Z];rw[<-Z] at hB;have hX:X<18446744073709551616:=Y▸RP K up lo j;have F:min (L:Int) 8=(M:Int):=by omega
 have EX:=I Y;clear Y;have EL:=I eL;clear eL;have EM:=I eM;clear eM;have EO:=I Z;clear Z;have HB:=I hB;clear hB;have H8:=I h8;clear h8;have HN:=I hn;clear hn;go_enter Tryz.func197,Tryz.ntmps197
 go_upto_region 0 with fail
 go_cut [7,8] from 5 to 8 (fun mv zv wx=>mv=.int .i64 (M:Int)/\zv=.int .i64 0/\wx=w)
 case first=>
  go_wp2_with fail
  all_goals go_meet
  all_goals exact⟨congrArg (Value.int .i64) (by omega),rfl,rfl⟩
 obtain⟨rfl,rfl,rfl⟩:=hcut;clear F
 go_wp2_with fail
 go_loopw [8] (fun iv wr=>∃i:Nat,i<=M/\iv=.int .i64 (i:Int)/\Blk wr g 5 (DB K up lo n (o+i))/\wc.grownBy wr (some g)) (fun iv _=>M - (intOf iv).toNat)
 case atStart=>exact⟨0,Nat.zero_le _,rfl,HB.o,World.grownBy.refl _ _⟩
 case round=>
  obtain⟨i,hi,rfl,hB,hg⟩:=hrel
  by_cases hM:i=M
  ·have e1:decide ((i:Int)<(M:Int))=false:=by simp;omega
   have e2:¬i<M:=by omega
   have D:=I hB;clear hB;have E:=I hg;clear hg;have HM:=I hM;clear hM
   go_wp2_with fail
   go_end0
   refine⟨rfl,?_,E.o⟩;have e:o+i=min (o+8) n:=by have:=EM.o;have:=EL.o;have:=EO.o;have:=H8.o;have:=HM.o;omega
   rw[<-e];exact D.o
  ·have e1:(i:Int)<(M:Int):=by omega
   have e2:i<M:=by omega
   have e3:i<L:=by have:=EM.o;omega
   have e4:(i:Int)<(L:Int):=by omega
   have e5:(0:Int)<=(i:Int):=by omega
   have e6:i<8:=by have:=EM.o;omega
   have O:o+i<n:=by have:=EM.o;have:=EL.o;have:=EO.o;omega
   have hy:=hB.cell (o+i);rw[Pf _ _ _ _ _ _ O,if_neg (by omega)] at hy;simp only[bv] at hy;have fz:=hB.frozen;have D:=I hB;clear hB;have E:=I hg;clear hg;clear hM
   go_wp2_with fail
   go_roundw
   case rel=>
    refine⟨i+1,by omega,by go_num,?_,Ay E.o (.inl rfl) _⟩;have hs:=D.o.set (o+i) (bv (DT K up lo (o+i)));rw[Nl K up lo n (o+i) O] at hs;have hv:bv (DT K up lo (o+i))=.int .u8 ((X:Int) / 2 ^ (8*i) % 256):=by
     have q1:(o+i) / 8=j:=by have:=EO.o;omega
     have q2:(o+i) % 8=i:=by have:=EO.o;omega
     have q3:(2:Nat) ^ (8*i)=256 ^ i:=by rw[Nat.pow_mul]
     unfold bv DT;rw[q1,q2,<-EX.o,UInt8.toNat_ofNat',<-q3]
     congr 1
    rw[hv] at hs;exact hs
   case measure=>simp [intOf];omega
theorem No (b:Option Addr) (N:Int) (n:Int) (w:World) (h:b=none\/n<1) :
  Calls Tryz.prog 165 #[.pointer b,.int .u64 N,.int .i64 n] w fun e w'=>e=.returned (.slice none 0 0)/\w'=w:=by
 by_cases hb:b=none
 ·subst hb
  clear h;go_enter Tryz.func165,Tryz.ntmps165
  go_wp2
  go_ret;exact⟨rfl,rfl⟩
 ·have D:n<1:=h.resolve_left hb
  have E:decide (n<1)=true:=by simpa using D
  cases b with
  |none=>exact absurd rfl hb
  |some a=>
   clear hb h;go_enter Tryz.func165,Tryz.ntmps165
   go_wp2
   go_ret;exact⟨rfl,rfl⟩
theorem BP:(Tryz.prog.info? 5).map (fun i=>(i.zero,i.size,i.bytes))=some (some (.int .u8 0),1,1):=by kernel_rfl
def upW (N:Nat):Wd:=BitVec.ofNat 32 (N / 4294967296)
def loW (N:Nat):Wd:=BitVec.ofNat 32 N
theorem RQ (x y:Wd):bits .or .u64 ((y.toNat:Int)*4294967296 % 18446744073709551616) (x.toNat:Int)=((x.toNat+4294967296*y.toNat:Nat):Int):=by
 have E:=FH x;have D:=FH y;have e:(y.toNat:Int)*4294967296 % 18446744073709551616=((y.toNat*4294967296:Nat):Int):=by omega
 rw[e,u64_or_nat _ _ (by omega) (by omega),nat_join 32 (y.toNat*4294967296) x.toNat (by omega) (by omega)];omega
theorem Np (b:Nat) (ks:Nat->UInt8) (m:Bool) (N n:Nat) (nv:Int) (w:World) (aH:nv=(n:Int)) (ai:1<=n) (al:n<=1000000) (hN:N<18446744073709551616) (hK:Key w b ks m) :
  Calls Tryz.prog 165 #[.pointer (some ⟨b,0,none⟩),.int .u64 (N:Int),.int .i64 nv] w fun e w'=>∃g,e=.returned (.slice (some ⟨g,0,none⟩) n n)/\w.heap.size<=g/\
   Blk w' g 5 (bvs (strm (kw ks) (upW N) (loW N) n)).toArray/\Key w' b ks true/\w.grownBy w' (some b)/\(m=true->Below w.heap.size w w'):=by
 subst aH;have cn:=Gf b ks m w hK;have M:=hK.lt;have i1:decide ((n:Int)<1)=false:=by simp;omega
 have i2:decide (2147483647<(n:Int))=false:=by simp;omega
 have i3:¬(n:Int)<1:=by omega
 have i4:¬2147483647<(n:Int):=by omega
 have aa:(N:Int) / 4294967296 % 4294967296=((upW N).toNat:Int):=by rw[upW,BitVec.toNat_ofNat];omega
 have ae:(N:Int) % 4294967296=((loW N).toNat:Int):=by rw[loW,BitVec.toNat_ofNat];omega
 obtain⟨up,ab⟩:=Ah (upW N);obtain⟨lo,Y⟩:=Ah (loW N);rw[<-ab] at aa;rw[<-Y] at ae;rw[<-ab,<-Y];obtain⟨it,ax,aD,az,ay⟩:=info_parts BP;have aJ:=fun W=>FA (P:=Tryz.prog) (t:=25) (e:=5) Tryz.underlying25 ax aD az ay (n:Int) n rfl (by omega) W
 have N1:=I ai;clear ai;have N2:=I al;clear al;have BL:=I M;clear M;clear hK hN ab Y;go_enter Tryz.func165,Tryz.ntmps165
 go_wp2_with (first | (go_at_call 195;refine Ag cn ?_;rintro w2 ⟨ag,av,ah⟩;have ao:=I ag;clear ag;have an:=I av;clear av;have aA:=I ah;clear ah))
 rw[aa,ae];clear aa ae;obtain⟨g,eg⟩:=Ah (w2.heap.size);rw[<-eg];have O:=I eg;clear eg
 go_loopw [9,10] (fun lv iv wr=>∃j:Nat,8*j<n+8/\iv=.int .i64 ((8*j:Nat):Int)/\lv=wv (lo+BitVec.ofNat 32 j)/\Blk wr g 5 (DB (kw ks) up lo n (min (8*j) n))/\Below g w2 wr) (fun _ iv _=>n+8 - (intOf iv).toNat)
 case atStart=>
  refine⟨0,by omega,rfl,?_,?_,?_⟩
  ·show Value.int .u32 _=_
   simp
  ·have:=Ld (kw ks) up lo n
   rw[show min (8*0) n=0 by omega,<-this,O.o];exact Blk.new w2 _ _
  ·rw[O.o];exact Af.alloc Ae _
 case round=>
  obtain⟨j,hj,rfl,rfl,hB,hb⟩:=hrel;obtain⟨o,eo⟩:=Ah (8*j);rw[<-eo] at hB hj⊢;obtain⟨l0,E⟩:=Ah (lo+BitVec.ofNat 32 j);rw[<-E]
  by_cases hd:n<=o
  ·have e1:decide ((o:Int)<(n:Int))=false:=by simp;omega
   have e2:¬o<n:=by omega
   have af:=I hB;clear hB;have D:=I hb;clear hb;clear hj hd E
   go_wp2_with fail
   go_ret;have aF:Key wr b ks true:=ao.o.below (O.o▸D.o);have aE:w.grownBy wr (some b):=FU an.o (O.o▸D.o);refine⟨g,rfl,?_,?_,aF,aE,?_⟩
   ·rw[O.o];exact an.o.size
   ·have:=af.o
    rw[Nat.min_eq_right (by omega),Nn _ _ _ _ _ Ae] at this;exact this
   ·intro hm
    have h2:=aA.o hm;subst h2;exact O.o▸D.o
  ·have e1:(o:Int)<(n:Int):=by omega
   have e2:o<n:=by omega
   have e3:(0:Int)<=(o:Int):=by omega
   have e4:(o:Int)<=(n:Int):=by omega
   have e5:o<=n:=by omega
   obtain⟨Z,ex⟩:=Ah ((BV (kw ks) (up,l0)).1);obtain⟨F,ey⟩:=Ah ((BV (kw ks) (up,l0)).2);obtain⟨l1,ad⟩:=Ah (lo+BitVec.ofNat 32 (j+1));have hX:ID (kw ks) up lo j=Z.toNat+4294967296*F.toNat:=by rw[ID,<-E,<-ex,<-ey]
   obtain⟨X,eX⟩:∃X:Nat,X=ID (kw ks) up lo j:=⟨_,rfl⟩;have ak:Key wr b ks true:=ao.o.below (O.o▸hb);have ct:=Hi b ks up l0 wr ak;rw[<-ex,<-ey] at ct;have ar:Blk wr g 5 (DB (kw ks) up lo n (8*j)):=by rw[Nat.min_eq_left e5,eo] at hB;exact hB
   have cp:=Le (kw ks) up lo n j g (n - 8*j) wr (eo▸e2) (by have:=N2.o;omega) ar;rw[<-eo,<-eX] at cp;have cy:(F.toNat:Int) % 18446744073709551616=(F.toNat:Int):=by have:=FH F;omega
   have cx:(Z.toNat:Int) % 18446744073709551616=(Z.toNat:Int):=by have:=FH Z;omega
   have aG:bits .or .u64 ((F.toNat:Int)*4294967296 % 18446744073709551616) (Z.toNat:Int)=(X:Int):=by rw[eX,hX];exact RQ Z F
   have aI:bits .or .u64 ((F.toNat:Int)*4294967296) (Z.toNat:Int)=(X:Int):=by
    have hm:(F.toNat:Int)*4294967296 % 18446744073709551616=(F.toNat:Int)*4294967296:=by have:=FH F;omega
    rw[<-hm];exact aG
   have cl:((l0.toNat:Int)+1) % 4294967296=(l1.toNat:Int):=by
    rw[ad,E,BitVec.toNat_add,BitVec.toNat_add,BitVec.toNat_ofNat,BitVec.toNat_ofNat];omega
   have af:=I hB;clear hB;have D:=I hb;clear hb;have HX:=I eX;clear eX;have aw:=I ad;clear ad;have HO:=I eo;clear eo;have aK:=I e5;clear hX ak ar ex ey E hj hd
   go_wp2_with (first | (go_at_call 196;refine Ag ct ?_;rintro w' rfl) | (go_at_call 197;refine Ag cp ?_;rintro w3 ⟨aj,au⟩;have aC:=I aj;clear aj;have aB:=I au;clear au))
   go_roundw
   case rel=>
    refine⟨j+1,by have:=HO.o;omega,?_,by rw[<-aw.o];exact congrArg (Value.int .u32) cl,?_,?_⟩
    ·exact congrArg (Value.int .i64) (by have:=HO.o;omega)
    ·have:=aC.o
     rw[show o+8=8*(j+1) by have:=HO.o;omega] at this;exact this
    ·exact Below.grown D.o aB.o (by rw[O.o];exact D.o.size) (fun k hk=>by injection hk with hk;omega)
   case measure=>have:=HO.o;simp [intOf];omega
def ksOf (l:List UInt8) (i:Nat):UInt8:=l.getD i 0
theorem Fk (f:Nat->UInt8) (j:Nat) (D:j<16):(AF f)[j]? = some (bv (f j)):=by
 rw[AF,List.getElem?_toArray];simp [D]
theorem Ic {f g:Nat->UInt8} (h:∀j,j<16->f j=g j):AF f=AF g:=by
 unfold AF
 congr 1
 apply List.map_congr_left;intro j D;rw[h j (by simpa using D)]
def AU (W:Nat->Wd):Array Value:=((List.range 27).map (fun j=>wv (W j))).toArray
theorem Fl (W:Nat->Wd) (i:Nat) (h:i<27):(AU W)[i]? = some (wv (W i)):=by
 rw[AU,List.getElem?_toArray];simp [h]
theorem Ie (W:Nat->Wd) (i:Nat) (v:Wd):(AU W).setIfInBounds i (wv v)=AU (upd W i v):=by
 unfold AU;rw[List.setIfInBounds_toArray]
 congr 1
 apply List.ext_getElem?;intro j;rw[List.getElem?_set,List.getElem?_map,List.getElem?_map]
 by_cases hj:i=j
 ·subst hj
  rcases Nat.lt_or_ge i 27 with h | h
  ·simp [h,upd]
  ·simp [Nat.not_lt.2 h]
 ·rw[if_neg hj]
  have D:¬j=i:=fun h=>hj h.symm
  rcases Nat.lt_or_ge j 27 with h | h
  ·simp [h,upd,D]
  ·rw[List.getElem?_eq_none (by simpa using h)];rfl
def kz (ks:Nat->UInt8) (i j:Nat):UInt8:=if j<i then ks j else 0
theorem Lf (ks:Nat->UInt8) (i j:Nat) (h:j<i):kz ks i j=ks j:=if_pos h
theorem Lg (ks:Nat->UInt8) (i j:Nat) (h:i<=j):kz ks i j=0:=if_neg (by omega)
def Fx (ks:Nat->UInt8) (t i:Nat):Wd:=Eg (kz ks i) t
def Ig (ks:Nat->UInt8) (i:Nat):Array Value:=#[wv (Fx ks 0 i),wv (Fx ks 1 i),wv (Fx ks 2 i),wv (Fx ks 3 i)]
theorem Bx (ks:Nat->UInt8) (t i:Nat) (h:t≠i / 4):Fx ks t (i+1)=Fx ks t i:=by
 have e:∀j,j / 4=t->kz ks (i+1) j=kz ks i j:=fun j D=>by
  unfold kz
  by_cases h2:j<i
  ·rw[if_pos h2,if_pos (by omega)]
  ·rw[if_neg h2,if_neg (by omega)]
 unfold Fx Eg;rw[e _ (by omega),e _ (by omega),e _ (by omega),e _ (by omega)]
theorem Nq (ks:Nat->UInt8) (q r i:Nat) (F:r<4) (D:i=4*q+r):bits .or .u32 ((Fx ks q i).toNat:Int) (((ks i).toNat:Int)*2 ^ (8*r) % 4294967296)=((Fx ks q (i+1)).toNat:Int):=by
 have hk:=(ks i).toNat_lt;have E:=(ks (4*q)).toNat_lt;have l1:=(ks (4*q+1)).toNat_lt;have l2:=(ks (4*q+2)).toNat_lt;have l3:=(ks (4*q+3)).toNat_lt;have h:r=0\/r=1\/r=2\/r=3:=by omega
 have z:(0:UInt8).toNat=0:=rfl;unfold Fx Eg;rcases h with rfl | rfl | rfl | rfl
 ·subst D
  have e:((ks (4*q+0)).toNat:Int)*2 ^ (8*0) % 4294967296=(((ks (4*q)).toNat:Nat):Int):=by simp only[Nat.add_zero];omega
  rw[e,u32_or_nat _ _ (BitVec.isLt _) (by omega),Df,Df];simp (disch:=omega) only[Lf,Lg,z];simp
 ·subst D
  have e:((ks (4*q+1)).toNat:Int)*2 ^ (8*1) % 4294967296=(((ks (4*q+1)).toNat*256:Nat):Int):=by omega
  rw[e,u32_or_nat _ _ (BitVec.isLt _) (by omega),Nat.or_comm,nat_join 8 _ _ (by omega) (by rw[Df];simp (disch:=omega) only[Lf,Lg,z];omega),Df,Df];simp (disch:=omega) only[Lf,Lg,z];omega
 ·subst D
  have e:((ks (4*q+2)).toNat:Int)*2 ^ (8*2) % 4294967296=(((ks (4*q+2)).toNat*65536:Nat):Int):=by omega
  rw[e,u32_or_nat _ _ (BitVec.isLt _) (by omega),Nat.or_comm,nat_join 16 _ _ (by omega) (by rw[Df];simp (disch:=omega) only[Lf,Lg,z];omega),Df,Df];simp (disch:=omega) only[Lf,Lg,z];omega
 ·subst D
  have e:((ks (4*q+3)).toNat:Int)*2 ^ (8*3) % 4294967296=(((ks (4*q+3)).toNat*16777216:Nat):Int):=by omega
  rw[e,u32_or_nat _ _ (BitVec.isLt _) (by omega),Nat.or_comm,nat_join 24 _ _ (by omega) (by rw[Df];simp (disch:=omega) only[Lf,Lg,z];omega),Df,Df];simp (disch:=omega) only[Lf,Lg,z];omega
theorem Gg (ks:Nat->UInt8) (t:Nat) (h:t<4):Fx ks t 16=Eg ks t:=by
 unfold Fx Eg kz;rw[if_pos (by omega),if_pos (by omega),if_pos (by omega),if_pos (by omega)]
theorem Ex (ks:Nat->UInt8) (q i:Nat) (h:q<4):(Ig ks i)[q]? = some (wv (Fx ks q i)):=by
 have D:q=0\/q=1\/q=2\/q=3:=by omega
 rcases D with rfl | rfl | rfl | rfl<;>rfl
theorem Nr (ks:Nat->UInt8) (i:Nat) (h:i<16):(Ig ks i).setIfInBounds (i / 4) (wv (Fx ks (i / 4) (i+1)))=Ig ks (i+1):=by
 have D:i / 4=0\/i / 4=1\/i / 4=2\/i / 4=3:=by omega
 unfold Ig;rcases D with e | e | e | e<;>rw[e]
 ·rw[Bx ks 1 i (by omega),Bx ks 2 i (by omega),Bx ks 3 i (by omega)];rfl
 ·rw[Bx ks 0 i (by omega),Bx ks 2 i (by omega),Bx ks 3 i (by omega)];rfl
 ·rw[Bx ks 0 i (by omega),Bx ks 1 i (by omega),Bx ks 3 i (by omega)];rfl
 ·rw[Bx ks 0 i (by omega),Bx ks 1 i (by omega),Bx ks 2 i (by omega)];rfl
theorem Fm (w:World) (t:TypeId) (cs:Array Value) (l:List Value) (h:cs.toList=l) (N:Nat) (D:w.heap.size=N):Rd (w.alloc (.cells cs t)) (N+1) (some ⟨N,0,none⟩) l:=by
 subst D;refine .inr ⟨w.heap.size,0,rfl,by omega,fun i u hu=>?_⟩;rw[Nat.zero_add,(Blk.new w t cs).cell i];rw[<-h] at hu
 simpa using hu
theorem Kf {w:World} {base:Nat} {t:TypeId} {v:Value} {n:Nat} {xs:List Value} (h:w.ownsRow base t 1 v n xs) (Z:0<n):∃g cap,v=.slice (some ⟨g,0,none⟩) n cap/\base<=g/\g<w.heap.size/\∀i u,xs[i]? = some u->w.cell? ⟨g,i,none⟩=some u:=by
 obtain⟨Y,h | ⟨g,cap,cur,rfl,X,D,O,E,M,F⟩⟩:=h
 ·omega
 ·refine⟨g,cap,rfl,X,Blk.lt (t:=t) (cs:=cur) D,fun i u hu=>?_⟩
  rw[Blk.cell (t:=t) (cs:=cur) D i];rw[<-F,List.getElem?_take] at hu
  split at hu
  ·simpa using hu
  ·cases hu
theorem DC {w w':World} {base:Nat} {t:TypeId} {v:Value} {n:Nat} {xs:List Value} {o:Obj} (h:w.ownsRow base t 1 v n xs) (e:w'.heap=w.heap.push o):w'.ownsRow base t 1 v n xs:=by
 obtain⟨F,h | ⟨g,cap,cur,M,O,D,X⟩⟩:=h
 ·exact⟨F,.inl h⟩
 ·refine⟨F,.inr ⟨g,cap,cur,M,O,?_,X⟩⟩
  have E:=Blk.lt (t:=t) (cs:=cur) D;rw[e,Array.getElem?_push_lt E,<-Array.getElem?_eq_getElem E];exact D
theorem UX {w:World} {base:Nat} {t:TypeId} {v:Value} {n:Nat} {xs:List Value} (h:w.ownsRow base t 1 v n xs) (p:Addr) (u:Value) (X:p.block<base):(w.setCell p u).ownsRow base t 1 v n xs:=by
 obtain⟨E,h | ⟨g,cap,cur,F,M,D,O⟩⟩:=h
 ·exact⟨E,.inl h⟩
 ·exact⟨E,.inr ⟨g,cap,cur,F,M,(Below.heap_setCell w p u g (by omega)).trans D,O⟩⟩
theorem Kg {w w':World} {u0:Value} {t:TypeId} (e:w'.heap=w.heap.push (.cells #[u0] t (0,0))):∀j u,[u0][j]? = some u->w'.cell? ((⟨w.heap.size,0,none⟩:Addr).add j)=some u:=by
 intro j u hu;have D:Blk w' w.heap.size t #[u0]:=by unfold Blk;rw[e];simp
 rw[addr_add,Nat.zero_add,D.cell]
 simpa using hu
def lrow (ks:Nat->UInt8) (n:Nat):List Value:=(List.range n).map (fun j=>wv (lw ks j))
theorem Pg (ks:Nat->UInt8) (n i:Nat) (h:i<n):(lrow ks n)[i]? = some (wv (lw ks i)):=by simp [lrow,h]
theorem Ph (ks:Nat->UInt8) (n:Nat):lrow ks n++[wv (lw ks n)]=lrow ks (n+1):=by simp [lrow,List.range_succ]
theorem RT:(Tryz.prog.info? 171).map (fun i=>(i.zero,i.size,i.bytes))=some (some (.int .u32 0),1,4):=by kernel_rfl
theorem Jq {f g:Nat->Wd} (h:∀j,j<27->f j=g j):AU f=AU g:=by
 unfold AU
 congr 1
 apply List.map_congr_left;intro j D;rw[h j (by simpa using D)]
theorem Ab {w:World} {g:Nat} {t:TypeId} {cs:Array Value} (h:Blk w g t cs):w.rangeAt g 0 cs.toList:=fun j v D=>by
 rw[Nat.zero_add,h.cell];simpa using D
theorem Ak {w:World} {g:Nat} {t:TypeId} {cs:Array Value} (h:Blk w g t cs):w.there g 0 cs.size:=fun j D=>by
 rw[Nat.zero_add];exact⟨by rw[h.cell,Array.getElem?_eq_getElem D];rfl,h.frozen j⟩
theorem Bn {B:Nat} {a:World} (b:Nat) (D:B<=b):∀(vs:List Value) (o:Nat) (w:World),Below B a w->Below B a (w.setCells b o vs)
 | [],_,_,h=>h
 |v :: r,o,w,h=>Bn b D r (o+1) _ (AS h D v)
theorem WL (ks:Nat->UInt8) (w:World):Calls Tryz.prog 89 #[.agg (AF ks)] w fun e w'=>e=.returned (.agg (AU (kw ks)))/\Below w.heap.size w w':=by
 obtain⟨B,eB⟩:=Ah (w.heap.size);rw[<-eB];have EB:=I eB;go_enter Tryz.func89,Tryz.ntmps89
 go_wp2_with fail
 rw[<-eB];clear eB
 go_loopw [4] (fun iv wr=>∃i:Nat,i<=16/\iv=.int .i64 (i:Int)/\Below B w wr/\wr.heap.size=B+3/\Blk wr B 166 (AF ks)/\Blk wr (B+1) 172 (AU GA)/\Blk wr (B+1+1) 230 (Ig ks i)) (fun iv _=>16 - (intOf iv).toNat)
 case atStart=>
  have e1:=EB.o;refine⟨0,by decide,rfl,?_,by simp;omega,?_,?_,?_⟩
  ·rw[e1];exact(((Below.refl w.heap.size w).alloc Ae _).alloc (by simp) _).alloc (by simp;omega) _
  ·exact Blk.alloc (Blk.alloc (Blk.new_of w B _ _ _ rfl e1.symm) _) _
  ·exact Blk.alloc (Blk.new_of (w.alloc _) (B+1) _ _ (AU GA) (by kernel_rfl) (by simp;omega)) _
  ·exact Blk.new_of _ (B+1+1) _ _ (Ig ks 0) (by kernel_rfl) (by simp;omega)
 case round=>
  obtain⟨i,hi,rfl,hb,X,ak,F,E⟩:=hrel;have HB:=I hb;clear hb;have aA:=I ak;have Y:=I F;have aa:=I E;have HS:=I X
  by_cases h16:i=16
  ·subst h16
   have HI:=I hi;clear hi;clear ak F E
   go_upto_region 6 with fail
   go_cut [5] from 8 to 28 (fun kp wx=>kp=.pointer (some ⟨B+3,0,none⟩)/\Below B w wx/\wx.heap.size=B+4/\Blk wx (B+1) 172 (AU GA)/\Blk wx (B+1+1) 230 (Ig ks 16)/\Blk wx (B+3) 172 (AU GA))
   case first=>
    go_wp2_with fail
    go_meet
    have e1:=HS.o;exact⟨rfl,HB.o.alloc (by omega) _,by simp;omega,Blk.alloc Y.o _,Blk.alloc aa.o _,Blk.new_of wr (B+3) _ _ (AU GA) (by kernel_rfl) e1⟩
   case rest=>
    clear X HB aA Y aa HS;obtain⟨rfl,hb,X,F,E,M⟩:=hcut;have HB:=I hb;clear hb;have Y:=I F;clear F;have aa:=I E;have ai:=I M;have HS:=I X;obtain⟨w0,e0⟩:∃v,v=Eg ks 0:=⟨_,rfl⟩;obtain⟨w1,e1⟩:∃v,v=Eg ks 1:=⟨_,rfl⟩;obtain⟨w2,e2⟩:∃v,v=Eg ks 2:=⟨_,rfl⟩;obtain⟨w3,e3⟩:∃v,v=Eg ks 3:=⟨_,rfl⟩;have c0:wc.cell? ⟨B+1+1,0,none⟩=some (wv w0):=by rw[E.cell,Ex _ _ _ (by decide),Gg _ _ (by decide),e0]
    have c1:wc.cell? ⟨B+1+1,1,none⟩=some (wv w1):=by rw[E.cell,Ex _ _ _ (by decide),Gg _ _ (by decide),e1]
    have c2:wc.cell? ⟨B+1+1,2,none⟩=some (wv w2):=by rw[E.cell,Ex _ _ _ (by decide),Gg _ _ (by decide),e2]
    have c3:wc.cell? ⟨B+1+1,3,none⟩=some (wv w3):=by rw[E.cell,Ex _ _ _ (by decide),Gg _ _ (by decide),e3]
    have k0:wc.cell? ⟨B+3,0,none⟩=some (wv 0):=by rw[M.cell];exact Fl _ _ (by decide)
    have f0:=M.frozen;clear E M
    go_wp2_with fail
    have F0:=ai.o.set 0 (wv (kw ks 0));rw[Ie,GY] at F0;have F1:=Blk.far Y.o ⟨B+3,0,none⟩ (wv (kw ks 0)) (by simp);have F2:Below B w (wc.setCell ⟨B+3,0,none⟩ (wv (kw ks 0))):=AS HB.o (by simp) _;have S0:(wc.setCell ⟨B+3,0,none⟩ (wv (kw ks 0))).heap.size=B+4:=by simpa [World.setCell] using HS.o
    have F3:=I F0;clear F0;have F4:=I F1;clear F1;have F5:=I F2;clear F2;have S1:=I S0;clear S0;have aR:=Fw;clear c0 c1 c2 c3 k0 f0 X e0 e1 e2 e3 HB Y aa ai HS w0 w1 w2 w3 aR
    go_loopw [6,7] (fun lv iv wr=>∃i:Nat,i<=26/\iv=.int .i64 (i:Int)/\Below B w wr/\B+4<=wr.heap.size/\Blk wr (B+1) 172 (AU GA)/\Blk wr (B+3) 172 (AU (Bm ks i))/\wr.ownsRow (B+4) 171 1 lv (i+3) (lrow ks (i+3))) (fun _ iv _=>26 - (intOf iv).toNat)
    case atStart=>
     refine⟨0,by decide,rfl,?_,?_,Blk.alloc F4.o _,Blk.alloc F3.o _,?_⟩
     ·exact F5.o.alloc (by have:=S1.o;omega) _
     ·simp;have:=S1.o;simp at this;omega
     ·refine⟨rfl,.inr ⟨B+4,3,_,rfl,Nat.le_refl _,Blk.new_of _ (B+4) _ _ _ rfl S1.o,Nat.le_refl _,by decide,rfl,rfl⟩⟩
    case round=>
     obtain⟨i,hi,rfl,hb,X,F,M,Z⟩:=hrel;have HB:=I hb;clear hb;have HS:=I X;clear X
     by_cases h26:i=26
     ·subst h26
      obtain⟨cs,ah⟩:=Ah (AU (Bm ks 26));rw[<-ah] at M;have au:cs.size=27:=by rw[ah];simp [AU]
      have ez:(AU GA).size=27:=by simp [AU]
      have hR:wr.rangeAt (B+3) 0 cs.toList:=Ab M;have hT:wr.there (B+1) 0 cs.size:=by
       have:=Ak F
       rwa [ez,<-au] at this
      have ab:(Tryz.prog.info? 172).map (·.size)=some cs.size:=by rw[au];kernel_rfl
      have al:(Tryz.prog.info? 172).map (·.size)=some cs.toList.length:=by rw[Array.length_toList];exact ab
      have aD:cs.all (·.oneCell')=true:=by rw[ah];simp [AU,Value.oneCell']
      have EC:Hid (cs=AU (kw ks)):=by rw[ah];exact Jq (fun j hj=>by rw[Bm,if_pos (by omega)])
      have HI:=I hi;clear hi;have aL:=I aD;clear aD;have HT:=I hT;clear hT;have HR:=I hR;clear hR;have aP:=I ab;clear ab;have av:=I al;clear al;clear F M Z ah au ez
      go_wp2_with (first | (refine wpList_load_mid (by rfl) 172 (.tmp 5) (by rfl) (B+3) 0 (by rfl) cs.toList _ HR.o Tryz.underlying172 (by rfl) av.o ?_) | (refine wpList_store_mid (by rfl) 172 (.tmp 2) (.tmp 71) (by rfl) (B+1) 0 cs (by rfl) (by rfl) HT.o aP.o aL.o ?_) | fail)
      have hq:=run_loadVar_mid (P:=Tryz.prog) (wr.setCells (B+1) 0 cs.toList) (B+1) 0 172 cs.toList _ (World.rangeAt_setCells_same wr (B+1) 0 cs.toList (by rw[Array.length_toList];exact HT.o)) Tryz.underlying172 rfl av.o;refine bodyPost_ret (v:=.agg cs) ?_ ?_ ?_
      ·exact Aj (v:=.agg cs) 2 172 ⟨B+1,0,none⟩ Tryz.results89 (by rfl) hq
      ·rfl
      ·exact⟨by rw[EC.o],Bn (B+1) (by omega) _ _ _ HB.o⟩
     ·have i1:(i:Int)<26:=by omega
      have i2:i<26:=by omega
      have i3:(0:Int)<=(i:Int):=by omega
      have i4:(i:Int)<27:=by omega
      have i5:i<27:=by omega
      have i6:(i:Int)+1<27:=by omega
      have i7:i+1<27:=by omega
      obtain⟨O,ao⟩:=Ah (i+3);rw[<-ao] at Z;obtain⟨g,cap,rfl,hg,aH,af⟩:=Kf Z (by omega);have n1:(i:Int)<(O:Int):=by omega
      have n2:i<O:=by omega
      obtain⟨k0,ek⟩:=Ah (kw ks i);obtain⟨a0,ea⟩:=Ah (lw ks i);obtain⟨v,ev⟩:=Ah (lw ks (i+3));obtain⟨u,eu⟩:=Ah (kw ks (i+1));obtain⟨ci,ec⟩:=Ah (BitVec.ofNat 32 i);obtain⟨ra,era⟩:=Ah (rot a0 24);obtain⟨rk,an⟩:=Ah (rot k0 3);obtain⟨sm,es⟩:=Ah (k0+ra);have aS:IntKind.u32.wrap (i:Int)=(ci.toNat:Int):=by rw[ec];exact Mn i
      have bo:(i:Int) % 4294967296=(ci.toNat:Int):=by rw[<-IntKind.wrap_u32];exact aS
      have aW:((k0.toNat:Int)+(ra.toNat:Int)) % 4294967296=(sm.toNat:Int):=by rw[es];exact Fw _ _
      have br:IntKind.u32.wrap ((k0.toNat:Int)+(ra.toNat:Int))=(sm.toNat:Int):=by rw[IntKind.wrap_u32];exact aW
      have bl:bits .xor .u32 (sm.toNat:Int) (ci.toNat:Int)=(v.toNat:Int):=by rw[Bu,ev,lw_3,es,era,ek,ea,ec]
      have bs:bits .xor .u32 (rk.toNat:Int) (v.toNat:Int)=(u.toNat:Int):=by rw[Bu,ev,eu,Pb,an,ek]
      have bp:IntKind.i64.wrap ((i:Int)+1)=(i:Int)+1:=by rw[IntKind.wrap_i64];omega
      have bu:IntKind.i64.wrap ((i:Int)+3)=(O:Int):=by rw[IntKind.wrap_i64];omega
      have ck:wr.cell? ⟨B+3,i,none⟩=some (wv k0):=by rw[M.cell,Fl _ _ i5,Bm,if_pos Ae,ek]
      have ca:wr.cell? ⟨g,i,none⟩=some (wv a0):=by rw[af i _ (Pg ks O i n2),ea]
      have aI:(wr.alloc (.cells #[.int .u32 v.toNat] 171)).cell? ⟨B+3,i,none⟩=some (.int .u32 k0.toNat):=by rw[World.cell?_alloc_past _ _ _ (show(⟨B+3,i,none⟩:Addr).block<wr.heap.size by show B+3<_;have:=HS.o;omega)];exact ck
      have aB:=Pd a0;rw[<-era] at aB;have ax:=TR k0;rw[<-an] at ax;obtain⟨ti,aF,aM,aV,aG⟩:=info_parts RT;have HO:=I Z;clear Z;have Y:=I F;clear F;have ai:=I M;clear M;have HG:=I hg;clear hg;have EV:=I ev;clear ev;have EU:=I eu;clear eu;have EN:=I ao;clear ao;have HH:=I i2;have HI:=I hi;clear hi;clear ek ea ec era an es af h26 aH
      go_wp2_with fail
      go_region_law (first | (go_simp;go_at_call 135;refine Ag (aB _) ?_;rintro w' rfl) | ((refine step_append_lies _ (by rfl) (.tmp 43) (.tmp 56) 231 (by rfl) (B+4) 171 ti _ 1 4 Tryz.underlying231 aF aM aV aG (by rfl) (by decide) (.slice (some ⟨g,0,none⟩) O cap) O (lrow ks O) (by rfl) (DC HO.o (by rfl)) ⟨wr.heap.size,0,none⟩ 1 1 [.int .u32 v.toNat] (by rfl) (by rfl) (Kg (by rfl)) (by simp [Value.oneCell']) (by decide) (by have:=EN.o;have:=HH.o;unfold maxLen;omega) (by have:=EN.o;have:=HH.o;omega) (by have:=HS.o;simp;omega) (wr.heap.size+1) (by simp) ?_;intro g2 aw w2 ag D aY aQ)))
      all_goals (
       have ar:w2.ownsRow (B+4) 171 1 (.slice (some ⟨g2,0,none⟩) (O+1) aw) (O+1) (lrow ks (O+1)):=by
        rw[<-Ph,show lw ks O=v by rw[EN.o,EV.o]];exact ag
       have bh:w2.cell? ⟨g2,O,none⟩=some (wv v):=by
        obtain⟨gx,cx,aU,_,_,aX⟩:=Kf ar (by omega);injection aU with hv1 _ _;injection hv1 with hv1;injection hv1 with hv1 _;subst hv1;rw[aX O _ (Pg ks (O+1) O (by omega)),show lw ks O=v by rw[EN.o,EV.o]]
       have ae:(wr.alloc (.cells #[.int .u32 v.toNat] 171)).grownBy w2 (some g):=⟨D.os,D.tape,D.output,D.size,D.block⟩;have ad:Blk w2 (B+3) 172 (AU (Bm ks i)):=Blk.grown (Blk.alloc ai.o _) ae (fun h=>by have:=HG.o;injection h with h;omega);have az:Blk w2 (B+1) 172 (AU GA):=Blk.grown (Blk.alloc Y.o _) ae (fun h=>by have:=HG.o;injection h with h;omega);have aC:Below B w w2:=Below.grown (HB.o.alloc (by have:=HS.o;omega) _) ae (by have:=HS.o;simp;omega) (fun k hk=>by have:=HG.o;injection hk with hk;omega);have ay:B+4<=w2.heap.size:=by have h1:=ae.size;have h2:=HS.o;simp at h1;omega
       have bg:w2.cell? ⟨B+3,i,none⟩=some (wv k0):=by
        have e1:=ai.o.cell i;have e2:=ad.cell i;rw[<-e1] at e2;exact e2.trans ck
       have bj:w2.cell? ⟨B+3,i+1,none⟩=some (wv (Bm ks i (i+1))):=by rw[ad.cell];exact Fl _ _ i7
       have bm:=ad.frozen;have aE:=I ar;clear ar;have aO:=I ad;clear ad;have aN:=I az;clear az;have aT:=I aC;clear aC;have aK:=I ay;clear ay;clear ag D ae aY aQ ck ca aI;obtain⟨m3,aj⟩:=Ah (O+1);rw[<-aj];rw[<-aj] at aE;have m1:(O:Int)<(m3:Int):=by omega
       have m2:O<m3:=by omega
       have m4:(0:Int)<=(O:Int):=by omega
       have EM:=I aj;clear aj
       go_wp2_with fail
       refine wp_region_still_tail 12 (by kernel_rfl) (by kernel_rfl) ?_;simp only[List.take_succ_cons,List.take_zero,List.drop_succ_cons,List.drop_zero];change wpStill _ _ w2.drew _ _ _
       repeat still_step
       still_call (ax _)
       repeat still_step
       refine wpStill_nil ?_;change wpList _ _ _ _ _ w2.drew
       go_wp2_with fail
       go_roundw
       case rel=>
        (repeat apply Exists.intro)
        refine⟨?_,rfl⟩;refine⟨i+1,by have:=HH.o;omega,by go_num,?_,?_,?_,?_,?_⟩
        ·exact below_drewN (AS aT.o (by simp<;>omega) _) 1
        ·simpa [World.setCell] using aK.o
        ·exact Blk.far aN.o _ _ (by simp)
        ·have e:=aO.o.set (i+1) (wv u)
         rw[Ie,EU.o,Ib,<-EU.o] at e;exact e
        ·rw[show i+1+3=m3 by have:=EM.o;have:=EN.o;omega]
         exact UX aE.o ⟨B+3,i+1,none⟩ (wv u) (by simp)
       case measure=>have:=HH.o;simp [intOf];omega)
  ·obtain⟨q,eq⟩:=Ah (i / 4)
   obtain⟨r,er⟩:=Ah (i % 4);have hq:(i:Int).tdiv 4=(q:Int):=by rw[Int.tdiv_eq_ediv_of_nonneg (by omega)];omega
   have hr:(i:Int).tmod 4=(r:Int):=by rw[Int.tmod_eq_emod_of_nonneg (by omega)];omega
   have q1:(q:Int)<4:=by omega
   have q2:q<4:=by omega
   have q3:(0:Int)<=(q:Int):=by omega
   have r1:(r:Int)<4:=by omega
   have r2:r<4:=by omega
   have r3:(0:Int)<=(r:Int):=by omega
   have i1:(i:Int)<16:=by omega
   have i2:i<16:=by omega
   have i3:(0:Int)<=(i:Int):=by omega
   obtain⟨u,eu⟩:=Ah (Fx ks q i);obtain⟨v,ev⟩:=Ah (Fx ks q (i+1));obtain⟨k,ek⟩:=Ah (ks i);obtain⟨sh,es⟩:=Ah (8*r);obtain⟨km,em⟩:∃km:Nat,km=k.toNat*2 ^ sh % 4294967296:=⟨_,rfl⟩;have bd:8*(r:Int)=(sh:Int):=by omega
   have aJ:IntKind.u32.wrap ((k.toNat:Int)*2 ^ sh)=(km:Int):=by
    rw[IntKind.wrap_u32,em];have:((k.toNat*2 ^ sh:Nat):Int)=(k.toNat:Int)*2 ^ sh:=by rw[Int.natCast_mul,Int.natCast_pow];rfl
    rw[<-this];omega
   have hv:bits .or .u32 (u.toNat:Int) (km:Int)=(v.toNat:Int):=by
    have e:=Nq ks q r i r2 (by omega);rw[<-es,<-eu,<-ev,<-ek] at e;rw[<-e,<-aJ,IntKind.wrap_u32]
   have bq:min sh 32=sh:=by omega
   have ba:IntKind.i64.wrap (q:Int)=(q:Int):=by rw[IntKind.wrap_i64];omega
   have bf:IntKind.i64.wrap (r:Int)=(r:Int):=by rw[IntKind.wrap_i64];omega
   have bb:IntKind.i64.wrap (sh:Int)=(sh:Int):=by rw[IntKind.wrap_i64];omega
   have aZ:IntKind.u64.wrap (sh:Int)=(sh:Int):=by rw[IntKind.wrap_u64];omega
   have bn:IntKind.u32.wrap (k.toNat:Int)=(k.toNat:Int):=by rw[IntKind.wrap_u32];have:=By k;omega
   have ck:wr.cell? ⟨B,i,none⟩=some (.int .u8 (k.toNat:Int)):=by rw[ak.cell,Fk _ _ i2,ek];rfl
   have cu:wr.cell? ⟨B+1+1,q,none⟩=some (wv u):=by rw[E.cell,Ex _ _ _ q2,eu]
   have fu:=E.frozen;have kk:(k.toNat:Int) % 4294967296=(k.toNat:Int):=by have:=By k;omega
   have HH:=I h16;clear h16;have EQ:=I eq;clear eq;have EV:=I ev;clear ev;have HI:=I hi;clear hi;clear ak F E eu er ek X es em
   go_wp2_with fail
   refine wp_region_still_tail 16 (by kernel_rfl) (by kernel_rfl) ?_;simp only[List.take_succ_cons,List.take_zero,List.drop_succ_cons,List.drop_zero];change wpStill _ _ wr.drew _ _ _
   repeat still_step
   refine wpStill_nil ?_;change wpList _ _ _ _ _ wr.drew
   go_wp2_with fail
   go_roundw
   case rel=>
    refine⟨i+1,by have:=HI.o;have:=HH.o;omega,by go_num,?_,?_,?_,?_,?_⟩
    ·exact below_drewN (AS HB.o (by simp;omega) _) 1
    ·simpa [World.setCell] using HS.o
    ·exact Blk.far aA.o _ _ (by simp;omega)
    ·exact Blk.far Y.o _ _ (by simp)
    ·have e:=aa.o.set q (wv v)
     rw[EV.o,EQ.o,Nr ks i i2,<-EQ.o,<-EV.o] at e;exact e
   case measure=>simp [intOf];omega
theorem WM (K:Nat->Wd) (x y:Wd) (w:World) :
  Calls Tryz.prog 134 #[.agg (AU K),wv x,wv y] w fun e w'=>e=.returned (.tuple #[wv (BV K (x,y)).1,wv (BV K (x,y)).2])/\Below w.heap.size w w':=by
 obtain⟨B,eB⟩:=Ah (w.heap.size);rw[<-eB];have EB:=I eB;go_enter Tryz.func134,Tryz.ntmps134
 go_wp2_with fail
 rw[<-eB];clear eB
 go_loopw [1,2,8] (fun xv yv iv wr=>∃i:Nat,i<=27/\iv=.int .i64 (i:Int)/\xv=wv (Hf K i (x,y)).1/\yv=wv (Hf K i (x,y)).2/\Blk wr B 172 (AU K)/\Below B w wr) (fun _ _ iv _=>27 - (intOf iv).toNat)
 case atStart=>exact⟨0,by decide,rfl,rfl,rfl,Blk.new_of w B _ _ _ rfl EB.o.symm,EB.o▸Af.alloc Ae _⟩
 case round=>
  obtain⟨i,hi,rfl,rfl,rfl,hB,hb⟩:=hrel
  by_cases h27:i=27
  ·subst h27
   have HB:=I hB;clear hB;have F:=I hb;clear hb
   go_wp2_with fail
   go_ret2
   exact⟨rfl,F.o⟩
  ·have ag:(0:Int)<=(i:Int):=by omega
   have af:(i:Int)<27:=by omega
   have ab:i<27:=by omega
   obtain⟨p,ep⟩:=Ah (Hf K i (x,y));obtain⟨k0,ek⟩:=Ah (K i);obtain⟨x0,ex⟩:=Ah (p.1);obtain⟨X,ey⟩:=Ah (p.2);obtain⟨rx,O⟩:=Ah (rot x0 24);obtain⟨ry,E⟩:=Ah (rot X 3);obtain⟨sm,es⟩:=Ah (rx+X);obtain⟨x1,D⟩:=Ah (sm ^^^ k0);obtain⟨y1,M⟩:=Ah (ry ^^^ x1);have ck:wr.cell? ⟨B,i,none⟩=some (wv k0):=by rw[hB.cell,Fl _ _ ab,ek]
   have ad:((rx.toNat:Int)+(X.toNat:Int)) % 4294967296=(sm.toNat:Int):=by rw[es];exact Fw _ _
   have ah:IntKind.u32.wrap ((rx.toNat:Int)+(X.toNat:Int))=(sm.toNat:Int):=by rw[IntKind.wrap_u32];exact ad
   have ae:bits .xor .u32 (sm.toNat:Int) (k0.toNat:Int)=(x1.toNat:Int):=by rw[D];exact Bu _ _
   have ai:bits .xor .u32 (ry.toNat:Int) (x1.toNat:Int)=(y1.toNat:Int):=by rw[M];exact Bu _ _
   have aa:=Pd x0;rw[<-O] at aa;have Y:=TR X;rw[<-E] at Y;have hn:Hf K (i+1) (x,y)=(x1,y1):=by rw[Hf,<-ep,step,<-ex,<-ey,<-ek,<-O,<-E,<-es,<-D,<-M]
   rw[<-ep,<-ex,<-ey];have Z:=I hn;clear hn;have hh:=I ab;have HB:=I hB;clear hB;have F:=I hb;clear hb;clear ep ek ex ey O E es D M hi h27
   go_wp2_with fail
   refine wp_region_still_lit (by kernel_rfl) (by kernel_rfl) ?_;change wpStill _ _ wr.drew _ _ _
   repeat still_step
   still_call (aa _)
   repeat still_step
   refine wpStill_nil ?_
   try change _ wr.drew
   go_wp2_with (first | (go_at_call 136;refine Ag (Y _) ?_;rintro w' rfl))
   go_roundw
   case rel=>exact⟨i+1,by have:=hh.o;omega,by go_num,by rw[Z.o],by rw[Z.o],HB.o,below_drewN F.o 1⟩
   case measure=>have:=hh.o;simp [intOf];omega
end Sp
end Go.Proofs.YtcpccikongbopaaGreat
