import Derived.Test.YtlfmicidppccnaaGreatZClientNew2
set_option maxHeartbeats 25600000
set_option maxRecDepth 100000
set_option linter.unusedVariables false
set_option linter.unusedSimpArgs false
namespace Go.Proofs.YtlfmicidppccnaaGreat
namespace Tr
open Nm
theorem Ga (c:UInt8) (l:L):((split c l).map fun p=>p.length+1).sum=l.length+1:=by
 induction l with
 |nil=>simp [split]
 |cons y r ih=>
  rw[split]
  by_cases e:y=c
  ·rw[if_pos e];simp [ih];omega
  ·rw[if_neg e]
   cases hs:split c r with
   |nil=>exact absurd hs (DE c r)
   |cons a t=>
    rw[hs] at ih;simp only[List.map_cons,List.sum_cons,List.length_cons] at ih⊢;omega
theorem JS {ls:List L} (h:ls.all (AR capB)=true):(ls.map fun p=>p.length+1).sum≤9*ls.length:=by
 induction ls with
 |nil=>simp
 |cons a t ih=>
  simp only[List.all_cons,Bool.and_eq_true] at h;have h1:=((BU _ _).1 h.1).2.1;have:=ih h.2;simp only[List.map_cons,List.sum_cons,List.length_cons];omega
theorem EX {c:UInt8} {l:L} (h:AW (split c l)=true):l.length≤35:=by
 have h1:=(Dh _).1 h;have h2:=JS h1.2.2;have h3:=Ga c l;omega
theorem kind_two' {l:L} (h:AK l=2):∃t,l=47 :: t∧AW (split 47 t)=true:=by
 have h1:=GU h;simp only[slL,Bool.and_eq_true,decide_eq_true_eq] at h1;cases l with
 |nil=>simp at h1
 |cons x t=>
  simp only[List.head?_cons,Option.some.injEq,List.tail_cons] at h1;exact⟨t,by rw[h1.1],h1.2⟩
theorem Fq {l:L} (h:AK l≠0):AK l=1∨AK l=2:=by have:=IN l;omega
theorem EY {l:L} (h:AK l≠0):l.length≤36:=by
 rcases Fq h with h | h
 ·have:=EX (GS h);omega
 ·obtain⟨t,rfl,ht⟩:=kind_two' h
  have:=EX ht;simp only[List.length_cons];omega
def JT (p:L) (m:List L):L:=if m = [] then p else pl m (m.length - 1)
end Tr
namespace Ms
open DerP
open Nm (Am isL tgL AR AT AK)
abbrev Pr:=L×L
structure Tk where
 s:Pr
 k:Int
 b:L
deriving DecidableEq
structure Pt where
 c:Pr
 ss:L
 tr:L
 st:Int
 en:Int
deriving DecidableEq
structure As where
 c:Pr
 s:Pr
 t:Int
 no:Int
deriving DecidableEq
structure Tg where
 t:Tk
 a:L
 s:Pr
 u:Int
 no:Int
deriving DecidableEq
structure Re where
 c:Pr
 t:Tk
 b:L
deriving DecidableEq
structure Ap where
 t:Tk
 a:L
deriving DecidableEq
structure Fa where
 e:Int
 no:Int
deriving DecidableEq
structure Mg where
 k:Int
 aq:As
 tg:Tg
 re:Re
 ap:Ap
 fa:Fa
deriving DecidableEq
def pr0:Pr:=([],[])
def tk0:Tk:=⟨pr0,0,[]⟩
def as0:As:=⟨pr0,pr0,0,0⟩
def tg0:Tg:=⟨tk0,[],pr0,0,0⟩
def re0:Re:=⟨pr0,tk0,[]⟩
def ap0:Ap:=⟨tk0,[]⟩
def fa0:Fa:=⟨0,0⟩
def mg0:Mg:=⟨0,as0,tg0,re0,ap0,fa0⟩
def inB (n a b:Int):Bool:=decide (a≤n)&&decide (n≤b)
def Bi (b:L):Bool:=decide (1≤b.length)&&decide (b.length≤800)
def prB (p:Pr):Bool:=Am p.1 p.2
def tmB (n:Int):Bool:=inB n 0 1073741824
def tkB (t:Tk):Bool:=prB t.s&&(inB t.k 1 255&&Bi t.b)
def asB (q:As):Bool:=prB q.c&&(prB q.s&&(tmB q.t&&tmB q.no))
def tgB (q:Tg):Bool:=tkB q.t&&(Bi q.a&&(prB q.s&&(tmB q.u&&tmB q.no)))
def reB (q:Re):Bool:=prB q.c&&(tkB q.t&&Bi q.b)
def apB (q:Ap):Bool:=tkB q.t&&Bi q.a
def faB (q:Fa):Bool:=inB q.e 1 255&&tmB q.no
def mgB (m:Mg):Bool:=
 if m.k=1 then asB m.aq&&decide (m=⟨1,m.aq,tg0,re0,ap0,fa0⟩)
 else if m.k=2 then tgB m.tg&&decide (m=⟨2,as0,m.tg,re0,ap0,fa0⟩)
 else if m.k=3 then reB m.re&&decide (m=⟨3,as0,tg0,m.re,ap0,fa0⟩)
 else if m.k=4 then apB m.ap&&decide (m=⟨4,as0,tg0,re0,m.ap,fa0⟩)
 else if m.k=5 then faB m.fa&&decide (m=⟨5,as0,tg0,re0,ap0,m.fa⟩)
 else false
def prE (p:Pr):L:=elem 48 [elem 27 p.1,elem 27 p.2].flatten
def tkE (t:Tk):L:=elem 97 [prE t.s,encI t.k,elem 4 t.b].flatten
def asE (q:As):L:=elem 106 [prE q.c,prE q.s,encI q.t,encI q.no].flatten
def tgE (q:Tg):L:=elem 108 [tkE q.t,elem 4 q.a,prE q.s,encI q.u,encI q.no].flatten
def reE (q:Re):L:=elem 107 [prE q.c,tkE q.t,elem 4 q.b].flatten
def apE (q:Ap):L:=elem 110 [tkE q.t,elem 4 q.a].flatten
def faE (q:Fa):L:=elem 126 [encI q.e,encI q.no].flatten
def mgE (m:Mg):L:=if m.k=1 then asE m.aq else if m.k=2 then tgE m.tg else if m.k=3 then reE m.re else if m.k=4 then apE m.ap else faE m.fa
def limO (ok:Bool) (l:L):Option L:=if ok=true∧l.length≤2000 then some l else none
def mgO (m:Mg):Option L:=limO (mgB m) (mgE m)
def whC (c:Option L):Bool:=decide (c=some [])
def txC (c:Option L):L:=(Bb 27 c).getD []
def ocC (c:Option L):L:=(Bb 4 c).getD []
def prI (d:Option L):Pr:=(txC d,txC (Cd 27 d))
def prP (c:Option L):Pr×Option L:=(prI (Bb 48 c),if whC (Cd 27 (Cd 27 (Bb 48 c))) then Cd 48 c else none)
def nmP (c:Option L):Int×Option L:=(((intC c).1:Int),(intC c).2)
def tkS (d:Option L):Option L:=(nmP (prP d).2).2
def tkI (d:Option L):Tk:=⟨(prP d).1,(nmP (prP d).2).1,ocC (tkS d)⟩
def tkP (c:Option L):Tk×Option L:=(tkI (Bb 97 c),if whC (Cd 4 (tkS (Bb 97 c))) then Cd 97 c else none)
def asP (c:Option L):As×Option L:=
 let c1:=prP c;let c2:=prP c1.2;let c3:=nmP c2.2;let c4:=nmP c3.2
 (⟨c1.1,c2.1,c3.1,c4.1⟩,c4.2)
def tgP (c:Option L):Tg×Option L:=
 let c1:=tkP c;let c2:=Cd 4 c1.2;let c3:=prP c2;let c4:=nmP c3.2;let c5:=nmP c4.2
 (⟨c1.1,ocC c1.2,c3.1,c4.1,c5.1⟩,c5.2)
def reP (c:Option L):Re×Option L:=
 let c1:=prP c;let c2:=tkP c1.2
 (⟨c1.1,c2.1,ocC c2.2⟩,Cd 4 c2.2)
def apP (c:Option L):Ap×Option L:=
 let c1:=tkP c
 (⟨c1.1,ocC c1.2⟩,Cd 4 c1.2)
def faP (c:Option L):Fa×Option L:=
 let c1:=nmP c;let c2:=nmP c1.2
 (⟨c1.1,c2.1⟩,c2.2)
def mgP (b:L):Mg:=
 match b with
 | []=>mg0
 |t :: _=>
  if t=106 then ⟨1,(asP (Bb 106 (some b))).1,tg0,re0,ap0,fa0⟩
  else if t=108 then ⟨2,as0,(tgP (Bb 108 (some b))).1,re0,ap0,fa0⟩
  else if t=107 then ⟨3,as0,tg0,(reP (Bb 107 (some b))).1,ap0,fa0⟩
  else if t=110 then ⟨4,as0,tg0,re0,(apP (Bb 110 (some b))).1,fa0⟩
  else if t=126 then ⟨5,as0,tg0,re0,ap0,(faP (Bb 126 (some b))).1⟩
  else mg0
def mgD (b:L):Option Mg:=if mgO (mgP b)=some b then some (mgP b) else none
theorem Ao (t:UInt8) (p:L):(elem t p).length≤p.length+4:=by
 rw[Ce,Dr];split
 ·omega
 ·split<;>omega
theorem Av (n:Int):(encI n).length≤12:=by
 have:=Ao 2 (dig (AY n));have:=DB n;rw[encI];omega
theorem Hh {n:L} (h:(tgL n||AR AT n)=true):n.length≤43:=by
 rw[Bool.or_eq_true] at h;rcases h with h | h
 ·rw[Nm.tgL,Bool.and_eq_true] at h
  have h1:AK (Nm.cpL Nm.krb n)≠0:=by have:=h.2;simp only[isL,decide_eq_true_eq] at this;omega
  have h2:=Tr.EY h1;have h3:Nm.cpL Nm.krb n=n.drop 7:=by rw[Nm.cpL,h.1];rfl
  rw[h3,List.length_drop] at h2;omega
 ·have:=(Nm.BU _ _).1 h
  omega
theorem Gb {p:Pr} (h:prB p=true):p.1.length≤36∧p.2.length≤43:=by
 rw[prB,Am,Bool.and_eq_true] at h;refine⟨Tr.EY ?_,Hh h.2⟩;have:=h.1;simp only[isL,decide_eq_true_eq] at this;omega
theorem Co (a b:L):[a,b].flatten=a++b:=by simp
theorem DJ (a b c:L):[a,b,c].flatten=a++(b++c):=by simp
theorem Gc (a b c d:L):[a,b,c,d].flatten=a++(b++(c++d)):=by simp
theorem Gd (a b c d e:L):[a,b,c,d,e].flatten=a++(b++(c++(d++e))):=by simp
theorem AM {p:Pr} (h:prB p=true):(prE p).length≤91∧[elem 27 p.1,elem 27 p.2].flatten.length≤87:=by
 have h1:=Gb h;have h2:=Ao 27 p.1;have h3:=Ao 27 p.2;have h4:=Ao 48 [elem 27 p.1,elem 27 p.2].flatten;have h5:[elem 27 p.1,elem 27 p.2].flatten.length=(elem 27 p.1).length+(elem 27 p.2).length:=by simp
 rw[prE];omega
theorem DK {t:Tk} (h:tkB t=true):prB t.s=true∧(1≤t.k∧t.k≤255)∧(1≤t.b.length∧t.b.length≤800):=by
 simpa [tkB,inB,Bi] using h
theorem Bx {t:Tk} (h:tkB t=true):(tkE t).length≤911∧[prE t.s,encI t.k,elem 4 t.b].flatten.length≤907:=by
 obtain⟨h1,_,h2⟩:=DK h;have h3:=(AM h1).1;have h4:=Av t.k;have h5:=Ao 4 t.b;have h6:=Ao 97 [prE t.s,encI t.k,elem 4 t.b].flatten;have h7:[prE t.s,encI t.k,elem 4 t.b].flatten.length=(prE t.s).length+((encI t.k).length+(elem 4 t.b).length):=by simp
 rw[tkE];omega
section
variable {t:UInt8} {p r:L}
theorem be (h:p.length≤65535) (r:L):Bb t (some (elem t p++r))=some p:=(DR (BD t p r h)).1
theorem ne (h:p.length≤65535) (r:L):Cd t (some (elem t p++r))=some r:=(DR (BD t p r h)).2
theorem be0 (h:p.length≤65535):Bb t (some (elem t p))=some p:=by have:=be (t:=t) h [];rwa [List.append_nil] at this
theorem ne0 (h:p.length≤65535):Cd t (some (elem t p))=some []:=by have:=ne (t:=t) h [];rwa [List.append_nil] at this
theorem tx_at (h:p.length≤65535) (r:L):txC (some (elem 27 p++r))=p:=by rw[txC,be h];rfl
theorem JU (h:p.length≤65535):txC (some (elem 27 p))=p:=by rw[txC,be0 h];rfl
theorem oc_at (h:p.length≤65535) (r:L):ocC (some (elem 4 p++r))=p:=by rw[ocC,be h];rfl
theorem Ge (h:p.length≤65535):ocC (some (elem 4 p))=p:=by rw[ocC,be0 h];rfl
end
theorem Dj {n:Int} (h0:0≤n) (h1:n≤4611686018427387904) (r:L):nmP (some (encI n++r))=(n,some r):=by
 rw[nmP,IG,FG n h0 h1]
 congr 1
 omega
theorem DL {n:Int} (h0:0≤n) (h1:n≤4611686018427387904):nmP (some (encI n))=(n,some []):=by
 have:=Dj h0 h1 [];rwa [List.append_nil] at this
theorem Dk {p:Pr} (h:prB p=true) (r:L):prP (some (prE p++r))=(p,some r):=by
 have h1:=Gb h;have h2:=(AM h).2;rw[prP,prE,be (by omega),ne (by omega),Co,prI,tx_at (by omega),ne (by omega),JU (by omega),ne0 (by omega)]
 rfl
theorem Ev {t:Tk} (h:tkB t=true) (r:L):tkP (some (tkE t++r))=(t,some r):=by
 obtain⟨h1,h2,h3⟩:=DK h;have h4:=(Bx h).2;rw[tkP,tkE,be (by omega),ne (by omega),DJ,tkI,tkS,Dk h1,Dj (by omega) (by omega),Ge (by omega),ne0 (by omega)]
 rfl
theorem Cp {n:Int} (h:tmB n=true):0≤n∧n≤1073741824:=by simpa [tmB,inB] using h
theorem IX {q:As} (h:asB q=true):Bb 106 (some (asE q))=some [prE q.c,prE q.s,encI q.t,encI q.no].flatten∧asP (some [prE q.c,prE q.s,encI q.t,encI q.no].flatten)=(q,some []):=by
 have h':prB q.c=true∧prB q.s=true∧tmB q.t=true∧tmB q.no=true:=by simpa [asB] using h
 obtain⟨h2,h3,h4,h5⟩:=h';have t4:=Cp h4;have t5:=Cp h5;have l1:=(AM h2).1;have l2:=(AM h3).1;have l4:=Av q.t;have l5:=Av q.no;have l7:[prE q.c,prE q.s,encI q.t,encI q.no].flatten.length≤65535:=by simp only[List.flatten_cons,List.flatten_nil,List.length_append,List.length_nil];omega
 refine⟨by rw[asE,be0 l7],?_⟩;rw[Gc,asP,Dk h2];simp only;rw[Dk h3];simp only;rw[Dj (by omega) (by omega)];simp only;rw[DL (by omega) (by omega)]
theorem AP {b:L} (h:Bi b=true):1≤b.length∧b.length≤800:=by simpa [Bi] using h
theorem IY {q:Tg} (h:tgB q=true):Bb 108 (some (tgE q))=some [tkE q.t,elem 4 q.a,prE q.s,encI q.u,encI q.no].flatten∧tgP (some [tkE q.t,elem 4 q.a,prE q.s,encI q.u,encI q.no].flatten)=(q,some []):=by
 have h':tkB q.t=true∧Bi q.a=true∧prB q.s=true∧tmB q.u=true∧tmB q.no=true:=by simpa [tgB] using h
 obtain⟨h2,h3,h6,h4,h5⟩:=h';have t4:=Cp h4;have t5:=Cp h5;have b3:=AP h3;have l1:=(Bx h2).1;have l2:=Ao 4 q.a;have l3:=(AM h6).1;have l4:=Av q.u;have l5:=Av q.no;have l7:[tkE q.t,elem 4 q.a,prE q.s,encI q.u,encI q.no].flatten.length≤65535:=by simp only[List.flatten_cons,List.flatten_nil,List.length_append,List.length_nil];omega
 refine⟨by rw[tgE,be0 l7],?_⟩;rw[Gd,tgP,Ev h2];simp only;rw[oc_at (by omega),ne (by omega),Dk h6];simp only;rw[Dj (by omega) (by omega)];simp only;rw[DL (by omega) (by omega)]
theorem IZ {q:Re} (h:reB q=true):Bb 107 (some (reE q))=some [prE q.c,tkE q.t,elem 4 q.b].flatten∧reP (some [prE q.c,tkE q.t,elem 4 q.b].flatten)=(q,some []):=by
 have h':prB q.c=true∧tkB q.t=true∧Bi q.b=true:=by simpa [reB] using h
 obtain⟨h2,h3,h4⟩:=h';have b3:=AP h4;have l1:=(AM h2).1;have l2:=(Bx h3).1;have l3:=Ao 4 q.b;have l7:[prE q.c,tkE q.t,elem 4 q.b].flatten.length≤65535:=by simp only[List.flatten_cons,List.flatten_nil,List.length_append,List.length_nil];omega
 refine⟨by rw[reE,be0 l7],?_⟩;rw[DJ,reP,Dk h2];simp only;rw[Ev h3];simp only;rw[Ge (by omega),ne0 (by omega)]
theorem Ja {q:Ap} (h:apB q=true):Bb 110 (some (apE q))=some [tkE q.t,elem 4 q.a].flatten∧apP (some [tkE q.t,elem 4 q.a].flatten)=(q,some []):=by
 have h':tkB q.t=true∧Bi q.a=true:=by simpa [apB] using h
 obtain⟨h3,h4⟩:=h';have b3:=AP h4;have l2:=(Bx h3).1;have l3:=Ao 4 q.a;have l7:[tkE q.t,elem 4 q.a].flatten.length≤65535:=by simp only[List.flatten_cons,List.flatten_nil,List.length_append,List.length_nil];omega
 refine⟨by rw[apE,be0 l7],?_⟩;rw[Co,apP,Ev h3];simp only;rw[Ge (by omega),ne0 (by omega)]
theorem Jb {q:Fa} (h:faB q=true):Bb 126 (some (faE q))=some [encI q.e,encI q.no].flatten∧faP (some [encI q.e,encI q.no].flatten)=(q,some []):=by
 have h':(1≤q.e∧q.e≤255)∧tmB q.no=true:=by simpa [faB,inB] using h
 obtain⟨h3,h4⟩:=h';have t4:=Cp h4;have l2:=Av q.e;have l3:=Av q.no;have l7:[encI q.e,encI q.no].flatten.length≤65535:=by simp only[List.flatten_cons,List.flatten_nil,List.length_append,List.length_nil];omega
 refine⟨by rw[faE,be0 l7],?_⟩;rw[Co,faP,Dj (by omega) (by omega)];simp only;rw[DL (by omega) (by omega)]
theorem DM {m:Mg} (h:mgB m=true) :
  (asB m.aq=true∧m=⟨1,m.aq,tg0,re0,ap0,fa0⟩)∨(tgB m.tg=true∧m=⟨2,as0,m.tg,re0,ap0,fa0⟩)∨(reB m.re=true∧m=⟨3,as0,tg0,m.re,ap0,fa0⟩)∨
  (apB m.ap=true∧m=⟨4,as0,tg0,re0,m.ap,fa0⟩)∨(faB m.fa=true∧m=⟨5,as0,tg0,re0,ap0,m.fa⟩):=by
 unfold mgB at h
 split at h
 ·rw[Bool.and_eq_true,decide_eq_true_eq] at h;exact .inl h
 ·split at h
  ·rw[Bool.and_eq_true,decide_eq_true_eq] at h;exact .inr (.inl h)
  ·split at h
   ·rw[Bool.and_eq_true,decide_eq_true_eq] at h;exact .inr (.inr (.inl h))
   ·split at h
    ·rw[Bool.and_eq_true,decide_eq_true_eq] at h;exact .inr (.inr (.inr (.inl h)))
    ·split at h
     ·rw[Bool.and_eq_true,decide_eq_true_eq] at h;exact .inr (.inr (.inr (.inr h)))
     ·cases h
theorem Jc {m:Mg} (h:mgB m=true):mgP (mgE m)=m:=by
 rcases DM h with⟨h1,e⟩ | ⟨h1,e⟩ | ⟨h1,e⟩ | ⟨h1,e⟩ | ⟨h1,e⟩
 ·have hb:=IX h1
  have hE:mgE m=asE m.aq:=by rw[e];rfl
  rw[hE]
  conv=>rhs;rw[e]
  show(⟨1,(asP (Bb 106 (some (asE m.aq)))).1,tg0,re0,ap0,fa0⟩:Mg)=_;rw[hb.1,hb.2]
 ·have hb:=IY h1
  have hE:mgE m=tgE m.tg:=by rw[e];rfl
  rw[hE]
  conv=>rhs;rw[e]
  show(⟨2,as0,(tgP (Bb 108 (some (tgE m.tg)))).1,re0,ap0,fa0⟩:Mg)=_;rw[hb.1,hb.2]
 ·have hb:=IZ h1
  have hE:mgE m=reE m.re:=by rw[e];rfl
  rw[hE]
  conv=>rhs;rw[e]
  show(⟨3,as0,tg0,(reP (Bb 107 (some (reE m.re)))).1,ap0,fa0⟩:Mg)=_;rw[hb.1,hb.2]
 ·have hb:=Ja h1
  have hE:mgE m=apE m.ap:=by rw[e];rfl
  rw[hE]
  conv=>rhs;rw[e]
  show(⟨4,as0,tg0,re0,(apP (Bb 110 (some (apE m.ap)))).1,fa0⟩:Mg)=_;rw[hb.1,hb.2]
 ·have hb:=Jb h1
  have hE:mgE m=faE m.fa:=by rw[e];rfl
  rw[hE]
  conv=>rhs;rw[e]
  show(⟨5,as0,tg0,re0,ap0,(faP (Bb 126 (some (faE m.fa)))).1⟩:Mg)=_;rw[hb.1,hb.2]
theorem Ew {ok:Bool} {l b:L}:limO ok l=some b↔ok=true∧l.length≤2000∧l=b:=by
 unfold limO
 split
 ·rename_i h
  exact⟨fun e=>⟨h.1,h.2,Option.some.inj e⟩,fun e=>by rw[e.2.2]⟩
 ·rename_i h
  exact⟨fun e=>by(cases e),fun e=>False.elim (h (And.intro e.1 e.2.1))⟩
theorem JV {b:L} {m:Mg}:mgD b=some m↔mgO m=some b:=by
 unfold mgD;constructor
 ·intro h
  split at h
  ·rename_i h2;injection h with h;rw[←h];exact h2
  ·cases h
 ·intro h
  have h2:=Ew.1 h;have e:mgP b=m:=by rw[←h2.2.2];exact Jc h2.1
  rw[e,if_pos h]
end Ms
namespace Rg
open Nm (Am L)
abbrev Pr:=L×L
def prB (p:Pr):Bool:=Am p.1 p.2
structure It where
 p:Pr
 n:Nat
 k:Nat→UInt8
end Rg
namespace Ca
open Nm (L)
open Rg (Pr)
structure Cr where
 s:Pr
 n:Int
 b:L
 k:Nat→UInt8
 e:Int
abbrev It:=Pr×Cr
def del (p:Pr) (t:Int) (i:It):Bool:=decide (i.2.e<t)||decide (i.1=p)
def rest (l:List It) (p:Pr) (t:Int):List It:=l.filter (fun i=>!del p t i)
def putL (l:List It) (p:Pr) (x:Cr) (t:Int):List It:=if (rest l p t).length<10 then rest l p t++[(p,x)] else rest l p t
def hitG (p:Pr) (t:Int) (i:It):Bool:=decide (i.1=p)&&decide (t≤i.2.e)
def getO (l:List It) (p:Pr) (t:Int):Option It:=l.find? (hitG p t)
end Ca
namespace Sp
open Go.RowKit Ad
abbrev Wd:=BitVec 32
def rot (v:Wd) (s:Nat):Wd:=(v <<< s) ||| (v >>> (32 - s))
abbrev wv (v:Wd):Value:=.int .u32 (v.toNat:Int)
def le4 (a b c d:UInt8):Wd:=BitVec.ofNat 32 (a.toNat+b.toNat*256+c.toNat*65536+d.toNat*16777216)
def Hi (ks:Nat→UInt8) (i:Nat):Wd:=le4 (ks (4*i)) (ks (4*i+1)) (ks (4*i+2)) (ks (4*i+3))
structure Sch where
 k:Wd
 a:Wd
 b:Wd
 c:Wd
def JW (i:Nat) (s:Sch):Wd:=(s.k+rot s.a 24) ^^^ BitVec.ofNat 32 i
def sch (ks:Nat→UInt8):Nat→Sch
 |0=>⟨Hi ks 0,Hi ks 1,Hi ks 2,Hi ks 3⟩
 |i+1=>⟨rot (sch ks i).k 3 ^^^ JW i (sch ks i),(sch ks i).b,(sch ks i).c,JW i (sch ks i)⟩
def kw (ks:Nat→UInt8) (i:Nat):Wd:=(sch ks i).k
def lw (ks:Nat→UInt8) (i:Nat):Wd:=(sch ks i).a
end Sp
namespace Sp
open Go.RowKit Ad
end Sp
namespace Sp
open Go.RowKit Ad
def DZ (ks:Nat→UInt8) (d s m:Int) (W:Nat→Wd):Array Value:=
 ((List.range 16).map (fun i=>bv (ks i))++(([.int .u32 d,.int .i32 s,.int .u32 0,.int .u32 m]:List Value)++(List.range 27).map (fun j=>wv (W j)))).toArray
def KB (w:World) (b:Nat) (ks:Nat→UInt8) (d s m:Int) (W:Nat→Wd):Prop:=Blk w b 300 (DZ ks d s m W)
theorem Fs (ks:Nat→UInt8) (d s m:Int) (W:Nat→Wd) (i:Nat) (h:i<4):(DZ ks d s m W)[16+i]? = ([.int .u32 d,.int .i32 s,.int .u32 0,.int .u32 m]:List Value)[i]?:=by
 rw[DZ,List.getElem?_toArray,List.getElem?_append_right (by simp),List.getElem?_append_left (by simpa using h)];simp
def upd (W:Nat→Wd) (i:Nat) (v:Wd) (j:Nat):Wd:=if j=i then v else W j
section
variable {w w':World} {b:Nat} {ks:Nat→UInt8} {d s m:Int} {W:Nat→Wd}
theorem KB.cell (h:KB w b ks d s m W) (i:Nat):w.cell? ⟨b,i,none⟩=(DZ ks d s m W)[i]?:=Blk.cell h i
theorem KB.cs (h:KB w b ks d s m W):w.cell? ⟨b,17,none⟩=some (.int .i32 s):=(h.cell 17).trans (Fs ks d s m W 1 (by decide))
theorem KB.lt (h:KB w b ks d s m W):b<w.heap.size:=Blk.lt h
theorem KB.drewN (h:KB w b ks d s m W) (n:Nat):KB (w.drewN n) b ks d s m W:=h
theorem KB.grown {row:Option Nat} (h:KB w b ks d s m W) (hb:w.grownBy w' row) (hg:row≠some b):KB w' b ks d s m W:=Blk.grown h hb hg
end
def BS (w w':World):Prop:=∃n,w'=w.drewN n
def Jd (ks:Nat→UInt8) (i j:Nat):Wd:=if j≤i then kw ks j else 0
theorem KB.heap {w w':World} {b:Nat} {ks:Nat→UInt8} {d s m:Int} {W:Nat→Wd} (h:KB w b ks d s m W) (e:w'.heap=w.heap):KB w' b ks d s m W:=by
 unfold KB Blk at *;rw[e];exact h
def lc (ks:Nat→UInt8) (i j:Nat):Wd:=lw ks (i+(j+2*i) % 3)
def lcells (ks:Nat→UInt8) (i:Nat):Array Value:=#[wv (lc ks i 0),wv (lc ks i 1),wv (lc ks i 2)]
abbrev JX:Nat→Wd:=fun _=>0
def Key (w:World) (b:Nat) (ks:Nat→UInt8):Bool→Prop
 |false=>KB w b ks 0 0 0 JX
 |true=>KB w b ks 1 0 1 (Jd ks 26)
theorem Key.grown {w w':World} {b:Nat} {ks:Nat→UInt8} {m:Bool} {row:Option Nat} (h:Key w b ks m) (hb:w.grownBy w' row) (hg:row≠some b):Key w' b ks m:=by
 cases m with
 |false=>exact KB.grown h hb hg
 |true=>exact KB.grown h hb hg
theorem Key.lt {w:World} {b:Nat} {ks:Nat→UInt8} {m:Bool} (h:Key w b ks m):b<w.heap.size:=by
 cases m with
 |false=>exact KB.lt h
 |true=>exact KB.lt h
theorem Blk.new_of (w:World) (g:Nat) (t:TypeId) (cs cs':Array Value) (e:cs=cs') (hg:w.heap.size=g):Blk (w.alloc (.cells cs t)) g t cs':=hg▸e▸Blk.new w t cs
theorem Ar {P:Program} {w:World} {g:Nat} {t ty:TypeId} {cs:Array Value} {d:TypeDesc} (h:Blk w g t cs) (hu:P.underlying ty=some d) (hd:d.isRow=true) (hi:(P.info? ty).map (·.size)=some cs.size) :
  (loadVar ty ⟨g,0,none⟩).run P w = .ok (.agg cs) w:=by
 have hc:w.rangeAt g 0 cs.toList:=fun j v hv=>by rw[Nat.zero_add,h.cell];simpa using hv
 have:=run_loadVar_mid (P:=P) w g 0 ty cs.toList d hc hu hd (by simpa using hi)
 simpa using this
def Je (ks:Nat→UInt8):Array Value:=((List.range 16).map (fun i=>bv (ks i))).toArray
theorem DN (ks:Nat→UInt8) (w:World):Calls Tryz.prog 231 #[.agg (Je ks)] w fun e w'=>∃b,e = .returned (.pointer (some ⟨b,0,none⟩))∧w.heap.size≤b∧Key w' b ks false∧Below w.heap.size w w':=by
 have hk:Je ks=#[bv (ks 0),bv (ks 1),bv (ks 2),bv (ks 3),bv (ks 4),bv (ks 5),bv (ks 6),bv (ks 7),bv (ks 8),bv (ks 9),bv (ks 10),bv (ks 11),bv (ks 12),bv (ks 13),bv (ks 14),bv (ks 15)]:=rfl;rw[hk];simp only[bv];clear hk;go_enter Tryz.func231,Tryz.ntmps231
 go_wp2
 go_ret;exact⟨w.heap.size+1,rfl,Nat.le_succ _,Blk.new_of (w.alloc _) _ 300 _ (DZ ks 0 0 0 JX) (by kernel_rfl) (by simp),((Below.refl w.heap.size w).alloc Ae _).alloc (by simp) _⟩
end Sp
namespace Sp
open Go.RowKit Ad
end Sp
namespace Sp
open Go.RowKit Ad
end Sp
namespace Si
open Go.RowKit Ad
abbrev Wd:=BitVec 64
def rot (v:Wd) (s:Nat):Wd:=(v <<< s) ||| (v >>> (64 - s))
abbrev wv (v:Wd):Value:=.int .u64 (v.toNat:Int)
def wd (n:Nat):Wd:=BitVec.ofNat 64 n
def Gf:List UInt8→Nat
 | []=>0
 |b :: l=>b.toNat+256*Gf l
structure V where
 a:Wd
 b:Wd
 c:Wd
 d:Wd
def rnd (s:V):V:=
 let a1:=s.a+s.b
 let b1:=rot s.b 13 ^^^ a1
 let a2:=rot a1 32
 let c1:=s.c+s.d
 let d1:=rot s.d 16 ^^^ c1
 let a3:=a2+d1
 let d2:=rot d1 21 ^^^ a3
 let c2:=c1+b1
 let b2:=rot b1 17 ^^^ c2
 let c3:=rot c2 32
 ⟨a3,b2,c3,d2⟩
def rnds:Nat→V→V
 |0,s=>s
 |n+1,s=>rnd (rnds n s)
def addM (s:V) (m:Wd):V:=⟨(rnds 2 ⟨s.a,s.b,s.c,s.d ^^^ m⟩).a ^^^ m,(rnds 2 ⟨s.a,s.b,s.c,s.d ^^^ m⟩).b,(rnds 2 ⟨s.a,s.b,s.c,s.d ^^^ m⟩).c,(rnds 2 ⟨s.a,s.b,s.c,s.d ^^^ m⟩).d⟩
def allX (s:V):Wd:=s.a ^^^ s.b ^^^ s.c ^^^ s.d
def fin (s:V):Wd:=allX (rnds 4 ⟨s.a,s.b,s.c ^^^ 255#64,s.d⟩)
def kA (ks:Nat→UInt8):Wd:=wd (Gf ((List.range 8).map ks))
def kB (ks:Nat→UInt8):Wd:=wd (Gf ((List.range 8).map fun i=>ks (8+i)))
def start (ks:Nat→UInt8):V:=⟨0x736f6d6570736575#64 ^^^ kA ks,0x646f72616e646f6d#64 ^^^ kB ks,0x6c7967656e657261#64 ^^^ kA ks,0x7465646279746573#64 ^^^ kB ks⟩
structure St where
 v:V
 r:Nat
 n:Nat
def addB (s:St) (b:UInt8):St:=
 if (s.n+1) % 8=0 then ⟨addM s.v (wd (s.r+b.toNat*256 ^ (s.n % 8))),0,s.n+1⟩ else ⟨s.v,s.r+b.toNat*256 ^ (s.n % 8),s.n+1⟩
def stOf (ks:Nat→UInt8) (l:List UInt8):St:=l.foldl addB ⟨start ks,0,0⟩
def lastW (s:St):Wd:=wd (s.r+s.n % 256*72057594037927936)
def finS (s:St):Wd:=fin (addM s.v (lastW s))
def sumOf (ks:Nat→UInt8) (l:List UInt8):Wd:=finS (stOf ks l)
def full (ks:Nat→UInt8) (p:List UInt8):Nat→V
 |0=>start ks
 |j+1=>addM (full ks p j) (wd (Gf ((p.drop (8*j)).take 8)))
def key8 (f:Nat→UInt8):Array Value:=#[.int .u8 (f 0).toNat,.int .u8 (f 1).toNat,.int .u8 (f 2).toNat,.int .u8 (f 3).toNat,.int .u8 (f 4).toNat,.int .u8 (f 5).toNat,.int .u8 (f 6).toNat,.int .u8 (f 7).toNat]
def wordF (f:Nat→UInt8) (i:Nat):Nat:=Gf ((List.range i).map f)
def JY (s:V) (R N:Value):Array Value:=#[wv s.a,wv s.b,wv s.c,wv s.d,R,N]
end Si
namespace Si
open Go.RowKit Ad
end Si
namespace Si
open Go.RowKit Ad
def stc (s:St):Array Value:=JY s.v (.int .u64 (s.r:Int)) (.int .u64 (s.n:Int))
theorem AF {B:Nat} {a w:World} (h:Below B a w) {p:Addr} (hp:B≤p.block) (u:Value):Below B a (w.setCell p u):=
 ⟨h.os,h.tape,h.output,by simpa [World.setCell] using h.size,fun i hi=>(Below.heap_setCell w p u i (by omega)).trans (h.block i hi)⟩
theorem Ar {P:Program} {w:World} {g:Nat} {t ty:TypeId} {cs:Array Value} {d:TypeDesc} (h:Blk w g t cs) (hu:P.underlying ty=some d) (hd:d.isRow=true) (hi:(P.info? ty).map (·.size)=some cs.size) :
  (loadVar ty ⟨g,0,none⟩).run P w = .ok (.agg cs) w:=by
 have hc:w.rangeAt g 0 cs.toList:=fun j v hv=>by rw[Nat.zero_add,h.cell];simpa using hv
 have:=run_loadVar_mid (P:=P) w g 0 ty cs.toList d hc hu hd (by simpa using hi)
 simpa using this
def Je (ks:Nat→UInt8):Array Value:=((List.range 16).map (fun i=>bv (ks i))).toArray
theorem Blk.far {w:World} {g:Nat} {t:TypeId} {cs:Array Value} (h:Blk w g t cs) (p:Addr) (u:Value) (hp:p.block≠g):Blk (w.setCell p u) g t cs:=
 (Below.heap_setCell w p u g (fun e=>hp e.symm)).trans h
theorem Ak {w:World} {g:Nat} {t:TypeId} {cs:Array Value} (h:Blk w g t cs):w.rangeAt g 0 cs.toList:=fun j v hv=>by
 rw[Nat.zero_add,h.cell];simpa using hv
def zero6:Array Value:=#[.int .u64 0,.int .u64 0,.int .u64 0,.int .u64 0,.int .u64 0,.int .u64 0]
def Rows (w:World) (B:Nat) (A:Option Addr) (rows:List (List UInt8)):Prop:=
 ∃vs:List Value,vs.length=rows.length∧Rd w B A vs∧∀i (h:i<rows.length),∃(Ai:Option Addr) (ci:Nat),vs[i]? = some (.slice Ai (rows[i]).length ci)∧Rd w B Ai (bvs rows[i])
def flat (rows:List (List UInt8)):List UInt8:=rows.flatten
def stcOf (ks:Nat→UInt8) (l:List UInt8):Array Value:=stc (stOf ks l)
theorem Rd.drop {w:World} {B:Nat} {x:Addr} {l:List UInt8} (h:Rd w B (some x) (bvs l)) (p:Nat):Rd w B (some (x.add p)) (bvs (l.drop p)):=by
 rcases h with h | ⟨b,o,h1,h2,h3⟩
 ·left
  have:l = []:=List.map_eq_nil_iff.1 h;rw[this];simp [bvs]
 ·injection h1 with h1
  subst h1;rw[addr_add];refine .inr ⟨b,o+p,rfl,h2,fun i u hu=>?_⟩;have:(bvs l)[p+i]? = some u:=by
   rw[←hu];simp [bvs,List.getElem?_drop]
  have:=h3 _ _ this
  rwa [Nat.add_assoc]
theorem Rd.take {w:World} {B:Nat} {A:Option Addr} {l:List UInt8} (h:Rd w B A (bvs l)) (k:Nat):Rd w B A (bvs (l.take k)):=by
 rcases h with h | ⟨b,o,h1,h2,h3⟩
 ·left
  have:l = []:=List.map_eq_nil_iff.1 h;rw[this];simp [bvs]
 ·refine .inr ⟨b,o,h1,h2,fun i u hu=>h3 i u ?_⟩
  rw[←hu];have hi:i<k:=by
   rcases Nat.lt_or_ge i k with g | g
   ·exact g
   ·rw[List.getElem?_eq_none (by simp [bvs];omega)] at hu;cases hu
  simp [bvs,hi]
end Si
namespace Si
open Go.RowKit Ad
end Si
end Go.Proofs.YtlfmicidppccnaaGreat
