import Derived.Test.YtiecjolmennkfaaGreatZAcceptorTells2
import Derived.Test.YtiecjolmennkfaaGreatZAcceptorTells3
set_option maxHeartbeats 25600000
set_option maxRecDepth 100000
set_option linter.unusedVariables false
set_option linter.unusedSimpArgs false
namespace Go.Proofs.YtiecjolmennkfaaGreat
namespace Ms
open DerP
open Nm (Cu isL tgL Cn Ct AU)
abbrev Pr:=L×L
structure Tk where
 s:Pr
 k:Int
 b:L
deriving DecidableEq
structure Pt where
 c:Pr
 ss:L
 tr:L
 st:Int
 en:Int
deriving DecidableEq
structure An where
 c:Pr
 t:Int
 q:Int
deriving DecidableEq
structure Rp where
 ss:L
 s:Pr
 st:Int
 en:Int
 no:Int
deriving DecidableEq
structure As where
 c:Pr
 s:Pr
 t:Int
 no:Int
deriving DecidableEq
structure Tg where
 t:Tk
 a:L
 s:Pr
 u:Int
 no:Int
deriving DecidableEq
structure Re where
 c:Pr
 t:Tk
 b:L
deriving DecidableEq
structure Ap where
 t:Tk
 a:L
deriving DecidableEq
structure Fa where
 e:Int
 no:Int
deriving DecidableEq
structure Mg where
 k:Int
 aq:As
 tg:Tg
 re:Re
 ap:Ap
 fa:Fa
deriving DecidableEq
def pr0:Pr:=([],[])
def tk0:Tk:=⟨pr0,0,[]⟩
def as0:As:=⟨pr0,pr0,0,0⟩
def tg0:Tg:=⟨tk0,[],pr0,0,0⟩
def re0:Re:=⟨pr0,tk0,[]⟩
def ap0:Ap:=⟨tk0,[]⟩
def fa0:Fa:=⟨0,0⟩
def mg0:Mg:=⟨0,as0,tg0,re0,ap0,fa0⟩
def key0:L:=List.replicate 32 0
def pt0:Pt:=⟨pr0,key0,[],0,0⟩
def an0:An:=⟨pr0,0,0⟩
def inB (n a b:Int):Bool:=decide (a<=n)&&decide (n<=b)
def BR (b:L):Bool:=decide (1<=b.length)&&decide (b.length<=800)
def prB (p:Pr):Bool:=Cu p.1 p.2
def tmB (n:Int):Bool:=inB n 0 1073741824
def tkB (t:Tk):Bool:=prB t.s&&(inB t.k 1 255&&BR t.b)
def txtB (l:L):Bool:=l.all fun x=>decide (32<=x.toNat)&&decide (x.toNat<=126)
def ptB (p:Pt):Bool:=txtB p.tr&&(prB p.c&&(decide (p.tr.length<=300)&&(tmB p.st&&tmB p.en)))
def anB (a:An):Bool:=prB a.c&&(tmB a.t&&tmB a.q)
def asB (q:As):Bool:=prB q.c&&(prB q.s&&(tmB q.t&&tmB q.no))
def tgB (q:Tg):Bool:=tkB q.t&&(BR q.a&&(prB q.s&&(tmB q.u&&tmB q.no)))
def reB (q:Re):Bool:=prB q.c&&(tkB q.t&&BR q.b)
def apB (q:Ap):Bool:=tkB q.t&&BR q.a
def faB (q:Fa):Bool:=inB q.e 1 255&&tmB q.no
def mgB (m:Mg):Bool:=
 if m.k=1 then asB m.aq&&decide (m=⟨1,m.aq,tg0,re0,ap0,fa0⟩)
 else if m.k=2 then tgB m.tg&&decide (m=⟨2,as0,m.tg,re0,ap0,fa0⟩)
 else if m.k=3 then reB m.re&&decide (m=⟨3,as0,tg0,m.re,ap0,fa0⟩)
 else if m.k=4 then apB m.ap&&decide (m=⟨4,as0,tg0,re0,m.ap,fa0⟩)
 else if m.k=5 then faB m.fa&&decide (m=⟨5,as0,tg0,re0,ap0,m.fa⟩)
 else false
def prE (p:Pr):L:=elem 48 [elem 27 p.1,elem 27 p.2].flatten
def tkE (t:Tk):L:=elem 97 [prE t.s,encI t.k,elem 4 t.b].flatten
def ptE (p:Pt):L:=elem 99 [prE p.c,elem 4 p.ss,elem 27 p.tr,encI p.st,encI p.en].flatten
def anE (a:An):L:=elem 98 [prE a.c,encI a.t,encI a.q].flatten
def asE (q:As):L:=elem 106 [prE q.c,prE q.s,encI q.t,encI q.no].flatten
def tgE (q:Tg):L:=elem 108 [tkE q.t,elem 4 q.a,prE q.s,encI q.u,encI q.no].flatten
def reE (q:Re):L:=elem 107 [prE q.c,tkE q.t,elem 4 q.b].flatten
def apE (q:Ap):L:=elem 110 [tkE q.t,elem 4 q.a].flatten
def faE (q:Fa):L:=elem 126 [encI q.e,encI q.no].flatten
def mgE (m:Mg):L:=if m.k=1 then asE m.aq else if m.k=2 then tgE m.tg else if m.k=3 then reE m.re else if m.k=4 then apE m.ap else faE m.fa
def limO (ok:Bool) (l:L):Option L:=if ok=true/\l.length<=2000 then some l else none
def mgO (m:Mg):Option L:=limO (mgB m) (mgE m)
def ptO (p:Pt):Option L:=limO (ptB p) (ptE p)
def anO (a:An):Option L:=limO (anB a) (anE a)
def whC (c:Option L):Bool:=decide (c=some [])
def txC (c:Option L):L:=(AN 27 c).getD []
def ocC (c:Option L):L:=(AN 4 c).getD []
def prI (d:Option L):Pr:=(txC d,txC (Bc 27 d))
def prP (c:Option L):Pr×Option L:=(prI (AN 48 c),if whC (Bc 27 (Bc 27 (AN 48 c))) then Bc 48 c else none)
def nmP (c:Option L):Int×Option L:=(((intC c).1:Int),(intC c).2)
def tkS (d:Option L):Option L:=(nmP (prP d).2).2
def tkI (d:Option L):Tk:=⟨(prP d).1,(nmP (prP d).2).1,ocC (tkS d)⟩
def tkP (c:Option L):Tk×Option L:=(tkI (AN 97 c),if whC (Bc 4 (tkS (AN 97 c))) then Bc 97 c else none)
def keP (c:Option L):L×Option L:=if (ocC c).length=32 then (ocC c,Bc 4 c) else (key0,none)
def ptP (b:L):Pt×Option L:=
 let c1:=prP (AN 99 (some b));let c2:=keP c1.2;let c3:=Bc 27 c2.2;let c4:=nmP c3;let c5:=nmP c4.2
 (⟨c1.1,c2.1,txC c2.2,c4.1,c5.1⟩,c5.2)
def anP (b:L):An×Option L:=
 let c1:=prP (AN 98 (some b));let c2:=nmP c1.2;let c3:=nmP c2.2
 (⟨c1.1,c2.1,c3.1⟩,c3.2)
def asP (c:Option L):As×Option L:=
 let c1:=prP c;let c2:=prP c1.2;let c3:=nmP c2.2;let c4:=nmP c3.2
 (⟨c1.1,c2.1,c3.1,c4.1⟩,c4.2)
def tgP (c:Option L):Tg×Option L:=
 let c1:=tkP c;let c2:=Bc 4 c1.2;let c3:=prP c2;let c4:=nmP c3.2;let c5:=nmP c4.2
 (⟨c1.1,ocC c1.2,c3.1,c4.1,c5.1⟩,c5.2)
def reP (c:Option L):Re×Option L:=
 let c1:=prP c;let c2:=tkP c1.2
 (⟨c1.1,c2.1,ocC c2.2⟩,Bc 4 c2.2)
def apP (c:Option L):Ap×Option L:=
 let c1:=tkP c
 (⟨c1.1,ocC c1.2⟩,Bc 4 c1.2)
def faP (c:Option L):Fa×Option L:=
 let c1:=nmP c;let c2:=nmP c1.2
 (⟨c1.1,c2.1⟩,c2.2)
def mgP (b:L):Mg:=
 match b with
 | []=>mg0
 |t :: _=>
  if t=106 then ⟨1,(asP (AN 106 (some b))).1,tg0,re0,ap0,fa0⟩
  else if t=108 then ⟨2,as0,(tgP (AN 108 (some b))).1,re0,ap0,fa0⟩
  else if t=107 then ⟨3,as0,tg0,(reP (AN 107 (some b))).1,ap0,fa0⟩
  else if t=110 then ⟨4,as0,tg0,re0,(apP (AN 110 (some b))).1,fa0⟩
  else if t=126 then ⟨5,as0,tg0,re0,ap0,(faP (AN 126 (some b))).1⟩
  else mg0
def mgD (b:L):Option Mg:=if mgO (mgP b)=some b then some (mgP b) else none
def ptD (b:L):Option Pt:=if ptO (ptP b).1=some b then some (ptP b).1 else none
def anD (b:L):Option An:=if anO (anP b).1=some b then some (anP b).1 else none
theorem AE (t:UInt8) (p:L):(elem t p).length<=p.length+4:=by
 rw[EE,Hu];split
 ·omega
 ·split<;>omega
theorem AK (n:Int):(encI n).length<=12:=by
 have:=AE 2 (dig (Cm n));have:=KU n;rw[encI];omega
theorem Wr {n:L} (h:(tgL n||Cn Ct n)=true):n.length<=43:=by
 rw[Bool.or_eq_true] at h;rcases h with h | h
 ·rw[Nm.tgL,Bool.and_eq_true] at h
  have Z:AU (Nm.cpL Nm.krb n)≠0:=by have:=h.2;simp only[isL,decide_eq_true_eq] at this;omega
  have M:=Tr.FR Z;have O:Nm.cpL Nm.krb n=n.drop 7:=by rw[Nm.cpL,h.1];rfl
  rw[O,List.length_drop] at M;omega
 ·have:=(Nm.Fy _ _).1 h
  omega
theorem GV {p:Pr} (h:prB p=true):p.1.length<=36/\p.2.length<=43:=by
 rw[prB,Cu,Bool.and_eq_true] at h;refine⟨Tr.FR ?_,Wr h.2⟩;have:=h.1;simp only[isL,decide_eq_true_eq] at this;omega
theorem Dm (a b:L):[a,b].flatten=a++b:=by simp
theorem DS (a b c:L):[a,b,c].flatten=a++(b++c):=by simp
theorem QD (a b c d:L):[a,b,c,d].flatten=a++(b++(c++d)):=by simp
theorem Gs (a b c d e:L):[a,b,c,d,e].flatten=a++(b++(c++(d++e))):=by simp
theorem AY {p:Pr} (h:prB p=true):(prE p).length<=91/\[elem 27 p.1,elem 27 p.2].flatten.length<=87:=by
 have h1:=GV h;have O:=AE 27 p.1;have Z:=AE 27 p.2;have h4:=AE 48 [elem 27 p.1,elem 27 p.2].flatten;have M:[elem 27 p.1,elem 27 p.2].flatten.length=(elem 27 p.1).length+(elem 27 p.2).length:=by simp
 rw[prE];omega
theorem GW {t:Tk} (h:tkB t=true):prB t.s=true/\(1<=t.k/\t.k<=255)/\(1<=t.b.length/\t.b.length<=800):=by
 simpa [tkB,inB,BR] using h
theorem Cq {t:Tk} (h:tkB t=true):(tkE t).length<=911/\[prE t.s,encI t.k,elem 4 t.b].flatten.length<=907:=by
 obtain⟨M,_,h2⟩:=GW h;have Z:=(AY M).1;have h4:=AK t.k;have h5:=AE 4 t.b;have h6:=AE 97 [prE t.s,encI t.k,elem 4 t.b].flatten;have O:[prE t.s,encI t.k,elem 4 t.b].flatten.length=(prE t.s).length+((encI t.k).length+(elem 4 t.b).length):=by simp
 rw[tkE];omega
section
variable {t:UInt8} {p r:L}
theorem be (h:p.length<=65535) (r:L):AN t (some (elem t p++r))=some p:=(GH (Ek t p r h)).1
theorem ne (h:p.length<=65535) (r:L):Bc t (some (elem t p++r))=some r:=(GH (Ek t p r h)).2
theorem be0 (h:p.length<=65535):AN t (some (elem t p))=some p:=by have:=be (t:=t) h [];rwa [List.append_nil] at this
theorem ne0 (h:p.length<=65535):Bc t (some (elem t p))=some []:=by have:=ne (t:=t) h [];rwa [List.append_nil] at this
theorem Ws (h:p.length<=65535) (r:L):txC (some (elem 27 p++r))=p:=by rw[txC,be h];rfl
theorem Yk (h:p.length<=65535):txC (some (elem 27 p))=p:=by rw[txC,be0 h];rfl
theorem Wt (h:p.length<=65535) (r:L):ocC (some (elem 4 p++r))=p:=by rw[ocC,be h];rfl
theorem Km (h:p.length<=65535):ocC (some (elem 4 p))=p:=by rw[ocC,be0 h];rfl
end
theorem Dn {n:Int} (M:0<=n) (O:n<=4611686018427387904) (r:L):nmP (some (encI n++r))=(n,some r):=by
 rw[nmP,Ze,Sf n M O]
 congr 1
 omega
theorem Dx {n:Int} (M:0<=n) (O:n<=4611686018427387904):nmP (some (encI n))=(n,some []):=by
 have:=Dn M O [];rwa [List.append_nil] at this
theorem Gt {p:Pr} (h:prB p=true) (r:L):prP (some (prE p++r))=(p,some r):=by
 have O:=GV h;have M:=(AY h).2;rw[prP,prE,be (by omega),ne (by omega),Dm,prI,Ws (by omega),ne (by omega),Yk (by omega),ne0 (by omega)]
 rfl
theorem Oc {t:Tk} (h:tkB t=true) (r:L):tkP (some (tkE t++r))=(t,some r):=by
 obtain⟨M,Z,O⟩:=GW h;have h4:=(Cq h).2;rw[tkP,tkE,be (by omega),ne (by omega),DS,tkI,tkS,Gt M,Dn (by omega) (by omega),Km (by omega),ne0 (by omega)]
 rfl
theorem Zp {k:L} (h:k.length=32) (r:L):keP (some (elem 4 k++r))=(k,some r):=by
 rw[keP,Wt (by omega),if_pos h,ne (by omega)]
theorem Bf {n:Int} (h:tmB n=true):0<=n/\n<=1073741824:=by simpa [tmB,inB] using h
theorem Dy {p:Pt} (h:ptB p=true):txtB p.tr=true/\prB p.c=true/\p.tr.length<=300/\tmB p.st=true/\tmB p.en=true:=by
 simpa [ptB] using h
theorem Od {p:Pt} (h:ptB p=true) (hk:p.ss.length=32):ptP (ptE p)=(p,some []):=by
 obtain⟨_,M,h3,Z,h5⟩:=Dy h;have t4:=Bf Z;have t5:=Bf h5;have l1:=(AY M).1;have l2:=AE 4 p.ss;have l3:=AE 27 p.tr;have l4:=AK p.st;have l5:=AK p.en;have O:[prE p.c,elem 4 p.ss,elem 27 p.tr,encI p.st,encI p.en].flatten.length<=65535:=by simp only[List.flatten_cons,List.flatten_nil,List.length_append,List.length_nil];omega
 rw[ptP,ptE,be0 O,Gs,Gt M];simp only;rw[Zp hk];simp only;rw[Ws (by omega),ne (by omega),Dn (by omega) (by omega)];simp only;rw[Dx (by omega) (by omega)]
theorem SW {a:An} (h:anB a=true):anP (anE a)=(a,some []):=by
 have O:prB a.c=true/\tmB a.t=true/\tmB a.q=true:=by simpa [anB] using h
 obtain⟨M,h4,h5⟩:=O;have t4:=Bf h4;have t5:=Bf h5;have l1:=(AY M).1;have l4:=AK a.t;have l5:=AK a.q;have Z:[prE a.c,encI a.t,encI a.q].flatten.length<=65535:=by simp only[List.flatten_cons,List.flatten_nil,List.length_append,List.length_nil];omega
 rw[anP,anE,be0 Z,DS,Gt M];simp only;rw[Dn (by omega) (by omega)];simp only;rw[Dx (by omega) (by omega)]
theorem Zq {q:As} (h:asB q=true):AN 106 (some (asE q))=some [prE q.c,prE q.s,encI q.t,encI q.no].flatten/\asP (some [prE q.c,prE q.s,encI q.t,encI q.no].flatten)=(q,some []):=by
 have Z:prB q.c=true/\prB q.s=true/\tmB q.t=true/\tmB q.no=true:=by simpa [asB] using h
 obtain⟨O,M,h4,h5⟩:=Z;have t4:=Bf h4;have t5:=Bf h5;have l1:=(AY O).1;have l2:=(AY M).1;have l4:=AK q.t;have l5:=AK q.no;have l7:[prE q.c,prE q.s,encI q.t,encI q.no].flatten.length<=65535:=by simp only[List.flatten_cons,List.flatten_nil,List.length_append,List.length_nil];omega
 refine⟨by rw[asE,be0 l7],?_⟩;rw[QD,asP,Gt O];simp only;rw[Gt M];simp only;rw[Dn (by omega) (by omega)];simp only;rw[Dx (by omega) (by omega)]
theorem Bn {b:L} (h:BR b=true):1<=b.length/\b.length<=800:=by simpa [BR] using h
theorem Zr {q:Tg} (h:tgB q=true):AN 108 (some (tgE q))=some [tkE q.t,elem 4 q.a,prE q.s,encI q.u,encI q.no].flatten/\tgP (some [tkE q.t,elem 4 q.a,prE q.s,encI q.u,encI q.no].flatten)=(q,some []):=by
 have Z:tkB q.t=true/\BR q.a=true/\prB q.s=true/\tmB q.u=true/\tmB q.no=true:=by simpa [tgB] using h
 obtain⟨O,h3,M,h4,h5⟩:=Z;have t4:=Bf h4;have t5:=Bf h5;have b3:=Bn h3;have l1:=(Cq O).1;have l2:=AE 4 q.a;have l3:=(AY M).1;have l4:=AK q.u;have l5:=AK q.no;have l7:[tkE q.t,elem 4 q.a,prE q.s,encI q.u,encI q.no].flatten.length<=65535:=by simp only[List.flatten_cons,List.flatten_nil,List.length_append,List.length_nil];omega
 refine⟨by rw[tgE,be0 l7],?_⟩;rw[Gs,tgP,Oc O];simp only;rw[Wt (by omega),ne (by omega),Gt M];simp only;rw[Dn (by omega) (by omega)];simp only;rw[Dx (by omega) (by omega)]
theorem Zs {q:Re} (h:reB q=true):AN 107 (some (reE q))=some [prE q.c,tkE q.t,elem 4 q.b].flatten/\reP (some [prE q.c,tkE q.t,elem 4 q.b].flatten)=(q,some []):=by
 have Z:prB q.c=true/\tkB q.t=true/\BR q.b=true:=by simpa [reB] using h
 obtain⟨O,M,h4⟩:=Z;have b3:=Bn h4;have l1:=(AY O).1;have l2:=(Cq M).1;have l3:=AE 4 q.b;have l7:[prE q.c,tkE q.t,elem 4 q.b].flatten.length<=65535:=by simp only[List.flatten_cons,List.flatten_nil,List.length_append,List.length_nil];omega
 refine⟨by rw[reE,be0 l7],?_⟩;rw[DS,reP,Gt O];simp only;rw[Oc M];simp only;rw[Km (by omega),ne0 (by omega)]
theorem Zt {q:Ap} (h:apB q=true):AN 110 (some (apE q))=some [tkE q.t,elem 4 q.a].flatten/\apP (some [tkE q.t,elem 4 q.a].flatten)=(q,some []):=by
 have O:tkB q.t=true/\BR q.a=true:=by simpa [apB] using h
 obtain⟨M,h4⟩:=O;have b3:=Bn h4;have l2:=(Cq M).1;have l3:=AE 4 q.a;have Z:[tkE q.t,elem 4 q.a].flatten.length<=65535:=by simp only[List.flatten_cons,List.flatten_nil,List.length_append,List.length_nil];omega
 refine⟨by rw[apE,be0 Z],?_⟩;rw[Dm,apP,Oc M];simp only;rw[Km (by omega),ne0 (by omega)]
theorem Zu {q:Fa} (h:faB q=true):AN 126 (some (faE q))=some [encI q.e,encI q.no].flatten/\faP (some [encI q.e,encI q.no].flatten)=(q,some []):=by
 have M:(1<=q.e/\q.e<=255)/\tmB q.no=true:=by simpa [faB,inB] using h
 obtain⟨h3,Z⟩:=M;have t4:=Bf Z;have l2:=AK q.e;have l3:=AK q.no;have O:[encI q.e,encI q.no].flatten.length<=65535:=by simp only[List.flatten_cons,List.flatten_nil,List.length_append,List.length_nil];omega
 refine⟨by rw[faE,be0 O],?_⟩;rw[Dm,faP,Dn (by omega) (by omega)];simp only;rw[Dx (by omega) (by omega)]
theorem GX {m:Mg} (h:mgB m=true) :
  (asB m.aq=true/\m=⟨1,m.aq,tg0,re0,ap0,fa0⟩)\/(tgB m.tg=true/\m=⟨2,as0,m.tg,re0,ap0,fa0⟩)\/(reB m.re=true/\m=⟨3,as0,tg0,m.re,ap0,fa0⟩)\/
  (apB m.ap=true/\m=⟨4,as0,tg0,re0,m.ap,fa0⟩)\/(faB m.fa=true/\m=⟨5,as0,tg0,re0,ap0,m.fa⟩):=by
 unfold mgB at h
 split at h
 ·rw[Bool.and_eq_true,decide_eq_true_eq] at h;exact .inl h
 ·split at h
  ·rw[Bool.and_eq_true,decide_eq_true_eq] at h;exact .inr (.inl h)
  ·split at h
   ·rw[Bool.and_eq_true,decide_eq_true_eq] at h;exact .inr (.inr (.inl h))
   ·split at h
    ·rw[Bool.and_eq_true,decide_eq_true_eq] at h;exact .inr (.inr (.inr (.inl h)))
    ·split at h
     ·rw[Bool.and_eq_true,decide_eq_true_eq] at h;exact .inr (.inr (.inr (.inr h)))
     ·cases h
theorem Zv {m:Mg} (h:mgB m=true):mgP (mgE m)=m:=by
 rcases GX h with⟨Z,e⟩ | ⟨Z,e⟩ | ⟨Z,e⟩ | ⟨Z,e⟩ | ⟨Z,e⟩
 ·have M:=Zq Z
  have O:mgE m=asE m.aq:=by rw[e];rfl
  rw[O]
  conv=>rhs;rw[e]
  show(⟨1,(asP (AN 106 (some (asE m.aq)))).1,tg0,re0,ap0,fa0⟩:Mg)=_;rw[M.1,M.2]
 ·have M:=Zr Z
  have O:mgE m=tgE m.tg:=by rw[e];rfl
  rw[O]
  conv=>rhs;rw[e]
  show(⟨2,as0,(tgP (AN 108 (some (tgE m.tg)))).1,re0,ap0,fa0⟩:Mg)=_;rw[M.1,M.2]
 ·have M:=Zs Z
  have O:mgE m=reE m.re:=by rw[e];rfl
  rw[O]
  conv=>rhs;rw[e]
  show(⟨3,as0,tg0,(reP (AN 107 (some (reE m.re)))).1,ap0,fa0⟩:Mg)=_;rw[M.1,M.2]
 ·have M:=Zt Z
  have O:mgE m=apE m.ap:=by rw[e];rfl
  rw[O]
  conv=>rhs;rw[e]
  show(⟨4,as0,tg0,re0,(apP (AN 110 (some (apE m.ap)))).1,fa0⟩:Mg)=_;rw[M.1,M.2]
 ·have M:=Zu Z
  have O:mgE m=faE m.fa:=by rw[e];rfl
  rw[O]
  conv=>rhs;rw[e]
  show(⟨5,as0,tg0,re0,ap0,(faP (AN 126 (some (faE m.fa)))).1⟩:Mg)=_;rw[M.1,M.2]
theorem BS {ok:Bool} {l b:L}:limO ok l=some b↔ok=true/\l.length<=2000/\l=b:=by
 unfold limO
 split
 ·rename_i h
  exact⟨fun e=>⟨h.1,h.2,Option.some.inj e⟩,fun e=>by rw[e.2.2]⟩
 ·rename_i h
  exact⟨fun e=>by(cases e),fun e=>False.elim (h (And.intro e.1 e.2.1))⟩
theorem SX {b:L} {m:Mg}:mgD b=some m↔mgO m=some b:=by
 unfold mgD;constructor
 ·intro h
  split at h
  ·rename_i M;injection h with h;rw[<-h];exact M
  ·cases h
 ·intro h
  have M:=BS.1 h;have e:mgP b=m:=by rw[<-M.2.2];exact Zv M.1
  rw[e,if_pos h]
theorem bX {b:L} {p:Pt} (hk:p.ss.length=32):ptD b=some p↔ptO p=some b:=by
 unfold ptD;constructor
 ·intro h
  split at h
  ·rename_i M;injection h with h;rw[<-h];exact M
  ·cases h
 ·intro h
  have M:=BS.1 h;have e:(ptP b).1=p:=by rw[<-M.2.2,Od M.1 hk]
  rw[e,if_pos h]
theorem SY {b:L} {a:An}:anD b=some a↔anO a=some b:=by
 unfold anD;constructor
 ·intro h
  split at h
  ·rename_i M;injection h with h;rw[<-h];exact M
  ·cases h
 ·intro h
  have M:=BS.1 h;have e:(anP b).1=a:=by rw[<-M.2.2,SW M.1]
  rw[e,if_pos h]
theorem Yl (c:Option L):(keP c).1.length=32:=by
 unfold keP
 split
 ·assumption
 ·rfl
theorem Zw {b:L} {p:Pt} (h:ptD b=some p):ptO p=some b/\(ptP b)=(p,some []):=by
 unfold ptD at h
 split at h
 ·rename_i h2
  injection h with h;have hk:p.ss.length=32:=by rw[<-h];exact Yl _
  rw[h] at h2;have M:=BS.1 h2;exact⟨h2,by rw[<-M.2.2];exact Od M.1 hk⟩
 ·cases h
end Ms
namespace Rt
open Nm
abbrev Pr:=L×L
structure Pa where
 f:L
 t:L
 v:List L
structure Tp where
 R:List L
 K:List Pr
 P:List Pa
def kl (K:List Pr) (i:Nat):Pr:=K.getD i ([],[])
def al (P:List Pa) (i:Nat):Pa:=P.getD i ⟨[],[],[]⟩
theorem Ge {K:List Pr} {i:Nat} (h:i<K.length):kl K i=K[i]:=by simp [kl,h]
theorem Ka {P:List Pa} {i:Nat} (h:i<P.length):al P i=P[i]:=by simp [al,h]
theorem Ym {K:List Pr} {i:Nat} (h:i<K.length):kl K i∈K:=by rw[Ge h];exact List.getElem_mem h
theorem bY {K:List Pr} {x:Pr} (h:x∈K):∃i,i<K.length/\kl K i=x:=by
 obtain⟨i,hi,e⟩:=List.getElem_of_mem h;exact⟨i,hi,by rw[Ge hi];exact e⟩
theorem Pv {P:List Pa} {i:Nat} (h:i<P.length):al P i∈P:=by rw[Ka h];exact List.getElem_mem h
section
variable {α:Type}
theorem take_succ {l:List α} {i:Nat} (h:i<l.length):l.take (i+1)=l.take i++[l[i]]:=List.take_succ_eq_append_getElem h
theorem DJ {l:List α} {i:Nat} (h:i<l.length):(l.take (i+1)).Nodup↔(l.take i).Nodup/\l[i]∉l.take i:=by
 rw[take_succ h,List.nodup_append];constructor
 ·rintro⟨M,_,Z⟩
  exact⟨M,fun hm=>Z _ hm _ (by simp) rfl⟩
 ·rintro⟨M,h2⟩
  refine⟨M,by simp,fun a ha b O=>?_⟩;rw[List.mem_singleton] at O;subst O;rintro rfl;exact h2 ha
theorem FT {l:List α} {i:Nat} (h:l.Nodup):(l.take i).Nodup:=h.sublist (List.take_sublist _ _)
theorem all_succ {l:List α} {p:α->Bool} {i:Nat} (h:i<l.length):(l.take (i+1)).all p=((l.take i).all p&&p l[i]):=by
 rw[take_succ h,List.all_append,List.all_cons,List.all_nil,Bool.and_true]
theorem all_false {l:List α} {p:α->Bool} {i:Nat} (h:i<l.length) (hp:p l[i]=false):l.all p=false:=by
 cases q:l.all p with
 |false=>rfl
 |true=>rw[List.all_eq_true] at q;rw[q _ (List.getElem_mem h)] at hp;cases hp
theorem Dw {l:List α} {p:α->Bool} {i:Nat} (h:l.length<=i) (hp:(l.take i).all p=true):l.all p=true:=by
 rwa [List.take_of_length_le h] at hp
end
def By (R:List L):Bool:=R.all isL&&decide R.Nodup
def Dh (R:List L) (p:Pr):Bool:=decide (p.1≠p.2)&&(decide (p.1∈R)&&decide (p.2∈R))
def CZ (K:List Pr) (R:List L):Bool:=K.all (Dh R)&&decide K.Nodup
def onB (R:List L) (p:Pa) (r:L):Bool:=decide (r≠p.f)&&(decide (r≠p.t)&&decide (r∈R))
def viaB (R:List L) (p:Pa):Bool:=decide (p.v.length<=4)&&(p.v.all (onB R p)&&decide p.v.Nodup)
def El (P:List Pa):List Pr:=P.map fun p=>(p.f,p.t)
def Gj (P:List Pa) (R:List L):Bool:=P.all (viaB R)&&CZ (El P) R
def isT (T:Tp):Bool:=(decide (1<=T.R.length)&&decide (T.R.length<=6))&&((decide (T.K.length<=20)&&decide (T.P.length<=8))&&(By T.R&&(CZ T.K T.R&&Gj T.P T.R)))
def Ft (R:List L) (p:Pa):Bool:=Dh R (p.f,p.t)&&viaB R p
theorem Le (P:List Pa) (R:List L):Gj P R=(P.all (Ft R)&&decide (El P).Nodup):=by
 rw[Gj,CZ,<-Bool.and_assoc]
 congr 1
 induction P with
 |nil=>rfl
 |cons a t ih=>
  simp only[List.all_cons,El,List.map_cons,Ft] at ih⊢;rw[<-ih];cases viaB R a<;>cases Dh R (a.f,a.t)<;>simp
def isP (a b:L) (p:Pa):Bool:=decide (p.f=a)&&decide (p.t=b)
def Oe (T:Tp) (a b:L):Nat:=T.P.findIdx (isP a b)
def laidB (T:Tp) (a b:L):Bool:=decide (Oe T a b<T.P.length)
def vL (T:Tp) (a b:L):List L:=(al T.P (Oe T a b)).v
def viaL (T:Tp) (a b:L):List L:=if laidB T a b then vL T a b else Bt a b
def GY (T:Tp) (a b:L) (l:List L):Bool:=l.all fun r=>decide (r∈viaL T a b)
theorem Zx {T:Tp} {a b:L} {i:Nat} (hi:i<T.P.length) (h:isP a b (al T.P i)=true) (Z:∀k,k<i->isP a b (al T.P k)=false):Oe T a b=i:=by
 rcases Nat.lt_trichotomy (Oe T a b) i with g | g | g
 ·have M:=List.findIdx_getElem (p:=isP a b) (xs:=T.P) (w:=Nat.lt_trans g hi)
  have O:=Z _ g;rw[Ka (Nat.lt_trans g hi)] at O;exact absurd (M.symm.trans O) (by simp)
 ·exact g
 ·have M:=List.not_of_lt_findIdx g
  rw[Ka hi] at h;simp [h] at M
theorem SZ {T:Tp} {a b:L} (O:∀k,k<T.P.length->isP a b (al T.P k)=false):Oe T a b=T.P.length:=by
 have h1:Oe T a b<=T.P.length:=List.findIdx_le_length;rcases Nat.lt_or_ge (Oe T a b) T.P.length with g | g
 ·have Z:=List.findIdx_getElem (p:=isP a b) (xs:=T.P) (w:=g)
  have M:=O _ g;rw[Ka g] at M;exact absurd (Z.symm.trans M) (by simp)
 ·omega
theorem Zy {T:Tp} {a b:L} (h:∀p∈T.P,p.v.length<=3000):(viaL T a b).length<=3000:=by
 rw[viaL]
 split
 ·rename_i q
  rw[laidB,decide_eq_true_eq] at q;exact h _ (Pv q)
 ·have:=Gn a b;omega
open Go.RowKit Af
def stp (p:Pr):Value:=.agg #[st p.1,st p.2]
def SlV (w:World) (B:Nat) (v:Value) (ls:List L):Prop:=∃A c,v=.slice A ls.length c/\ls.length<=c/\Rd w B A (strs ls)
def RdP (w:World) (B:Nat) (A:Option Addr) (K:List Pr):Prop:=
 K = []\/∃b o,A=some ⟨b,o,none⟩/\b<B/\∀i,i<K.length->w.cell? ⟨b,o+i*2,none⟩=some (.string ⟨(kl K i).1.toArray⟩)/\w.cell? ⟨b,o+i*2+1,none⟩=some (.string ⟨(kl K i).2.toArray⟩)
def SlP (w:World) (B:Nat) (v:Value) (K:List Pr):Prop:=∃A c,v=.slice A K.length c/\K.length<=c/\RdP w B A K
def RdA (w:World) (B:Nat) (A:Option Addr) (P:List Pa):Prop:=
 P = []\/∃b o,A=some ⟨b,o,none⟩/\b<B/\∀i,i<P.length->w.cell? ⟨b,o+i*3,none⟩=some (.string ⟨(al P i).f.toArray⟩)/\w.cell? ⟨b,o+i*3+1,none⟩=some (.string ⟨(al P i).t.toArray⟩)/\
  ∃v,w.cell? ⟨b,o+i*3+2,none⟩=some v/\SlV w B v (al P i).v
def SlA (w:World) (B:Nat) (v:Value) (P:List Pa):Prop:=∃A c,v=.slice A P.length c/\P.length<=c/\RdA w B A P
def TpV (w:World) (B:Nat) (v:Value) (T:Tp):Prop:=∃v1 v2 v3,v=.agg #[v1,v2,v3]/\SlV w B v1 T.R/\SlP w B v2 T.K/\SlA w B v3 T.P
def PaV (w:World) (B:Nat) (v:Value) (p:Pa):Prop:=∃u,v=.agg #[.string ⟨p.f.toArray⟩,.string ⟨p.t.toArray⟩,u]/\SlV w B u p.v
section
variable {w w':World} {B B':Nat} {A:Option Addr} {v:Value} {ls:List L} {K:List Pr} {P:List Pa} {T:Tp} {p:Pa}
theorem SlV.keep (h:SlV w B v ls) (hk:∀b o,b<B->w'.cell? ⟨b,o,none⟩=w.cell? ⟨b,o,none⟩):SlV w' B v ls:=by
 obtain⟨A,c,Z,M,O⟩:=h;exact⟨A,c,Z,M,O.keep hk⟩
theorem SlV.more (h:SlV w B v ls) (hB:B<=B'):SlV w B' v ls:=by
 obtain⟨A,c,Z,M,O⟩:=h;exact⟨A,c,Z,M,O.more hB⟩
theorem RdP.keep (h:RdP w B A K) (hk:∀b o,b<B->w'.cell? ⟨b,o,none⟩=w.cell? ⟨b,o,none⟩):RdP w' B A K:=by
 rcases h with h | ⟨b,o,Z,M,O⟩
 ·exact .inl h
 ·exact .inr ⟨b,o,Z,M,fun i hi=>⟨(hk _ _ M).trans (O i hi).1,(hk _ _ M).trans (O i hi).2⟩⟩
theorem RdP.more (h:RdP w B A K) (hB:B<=B'):RdP w B' A K:=by
 rcases h with h | ⟨b,o,O,Z,M⟩
 ·exact .inl h
 ·exact .inr ⟨b,o,O,by omega,M⟩
theorem SlP.keep (h:SlP w B v K) (hk:∀b o,b<B->w'.cell? ⟨b,o,none⟩=w.cell? ⟨b,o,none⟩):SlP w' B v K:=by
 obtain⟨A,c,Z,M,O⟩:=h;exact⟨A,c,Z,M,O.keep hk⟩
theorem SlP.more (h:SlP w B v K) (hB:B<=B'):SlP w B' v K:=by
 obtain⟨A,c,Z,M,O⟩:=h;exact⟨A,c,Z,M,O.more hB⟩
theorem RdA.keep (h:RdA w B A P) (hk:∀b o,b<B->w'.cell? ⟨b,o,none⟩=w.cell? ⟨b,o,none⟩):RdA w' B A P:=by
 rcases h with h | ⟨b,o,Z,M,O⟩
 ·exact .inl h
 ·refine .inr ⟨b,o,Z,M,fun i hi=>⟨(hk _ _ M).trans (O i hi).1,(hk _ _ M).trans (O i hi).2.1,?_⟩⟩
  obtain⟨v,h4,h5⟩:=(O i hi).2.2;exact⟨v,(hk _ _ M).trans h4,h5.keep hk⟩
theorem RdA.more (h:RdA w B A P) (hB:B<=B'):RdA w B' A P:=by
 rcases h with h | ⟨b,o,O,h2,M⟩
 ·exact .inl h
 ·refine .inr ⟨b,o,O,by omega,fun i hi=>⟨(M i hi).1,(M i hi).2.1,?_⟩⟩
  obtain⟨v,Z,h5⟩:=(M i hi).2.2;exact⟨v,Z,h5.more hB⟩
theorem SlA.keep (h:SlA w B v P) (hk:∀b o,b<B->w'.cell? ⟨b,o,none⟩=w.cell? ⟨b,o,none⟩):SlA w' B v P:=by
 obtain⟨A,c,Z,M,O⟩:=h;exact⟨A,c,Z,M,O.keep hk⟩
theorem SlA.more (h:SlA w B v P) (hB:B<=B'):SlA w B' v P:=by
 obtain⟨A,c,Z,M,O⟩:=h;exact⟨A,c,Z,M,O.more hB⟩
theorem TpV.keep (h:TpV w B v T) (hk:∀b o,b<B->w'.cell? ⟨b,o,none⟩=w.cell? ⟨b,o,none⟩):TpV w' B v T:=by
 obtain⟨v1,v2,v3,O,Z,M,h4⟩:=h;exact⟨v1,v2,v3,O,Z.keep hk,M.keep hk,h4.keep hk⟩
theorem TpV.more (h:TpV w B v T) (hB:B<=B'):TpV w B' v T:=by
 obtain⟨v1,v2,v3,O,Z,M,h4⟩:=h;exact⟨v1,v2,v3,O,Z.more hB,M.more hB,h4.more hB⟩
theorem PaV.keep (h:PaV w B v p) (hk:∀b o,b<B->w'.cell? ⟨b,o,none⟩=w.cell? ⟨b,o,none⟩):PaV w' B v p:=by
 obtain⟨u,O,M⟩:=h;exact⟨u,O,M.keep hk⟩
theorem PaV.more (h:PaV w B v p) (hB:B<=B'):PaV w B' v p:=by
 obtain⟨u,O,M⟩:=h;exact⟨u,O,M.more hB⟩
theorem SlV.below (h:SlV w B v ls) (M:Below B w w'):SlV w' B v ls:=h.keep fun _ _ hp=>M.cell hp
theorem RdP.below (h:RdP w B A K) (M:Below B w w'):RdP w' B A K:=h.keep fun _ _ hp=>M.cell hp
theorem SlP.below (h:SlP w B v K) (M:Below B w w'):SlP w' B v K:=h.keep fun _ _ hp=>M.cell hp
theorem RdA.below (h:RdA w B A P) (M:Below B w w'):RdA w' B A P:=h.keep fun _ _ hp=>M.cell hp
theorem SlA.below (h:SlA w B v P) (M:Below B w w'):SlA w' B v P:=h.keep fun _ _ hp=>M.cell hp
theorem TpV.below (h:TpV w B v T) (M:Below B w w'):TpV w' B v T:=h.keep fun _ _ hp=>M.cell hp
theorem PaV.below (h:PaV w B v p) (M:Below B w w'):PaV w' B v p:=h.keep fun _ _ hp=>M.cell hp
theorem TpV.on (h:TpV w w.heap.size v T) (M:Below w.heap.size w w'):TpV w' w'.heap.size v T:=(h.below M).more M.size
theorem SlV.on (h:SlV w w.heap.size v ls) (M:Below w.heap.size w w'):SlV w' w'.heap.size v ls:=(h.below M).more M.size
theorem SlP.on (h:SlP w w.heap.size v K) (M:Below w.heap.size w w'):SlP w' w'.heap.size v K:=(h.below M).more M.size
theorem SlA.on (h:SlA w w.heap.size v P) (M:Below w.heap.size w w'):SlA w' w'.heap.size v P:=(h.below M).more M.size
theorem Of {i:Nat} (h:Rd w B A (strs ls)) (hi:i<=ls.length):Rd w B A (strs (ls.take i)):=by
 rcases h with h | ⟨b,o,O,Z,M⟩
 ·left
  have:ls = []:=List.map_eq_nil_iff.1 h;subst this;simp [strs]
 ·refine .inr ⟨b,o,O,Z,fun j u hu=>M j u ?_⟩
  simp only[strs,List.map_take,List.getElem?_take] at hu⊢
  split at hu
  ·exact hu
  ·cases hu
theorem Zz {i j:Nat} (h:j<i) (M:j<K.length):kl (K.take i) j=kl K j:=by
 rw[Ge (by simp;omega),Ge M];simp
theorem Wu {i:Nat} (h:RdP w B A K):RdP w B A (K.take i):=by
 rcases h with h | ⟨b,o,Z,h2,M⟩
 ·subst h;exact .inl (by simp)
 ·refine .inr ⟨b,o,Z,h2,fun j O=>?_⟩
  simp only[List.length_take] at O;rw[Zz (by omega) (by omega)];exact M j (by omega)
theorem Mt {i:Nat} (h:RdP w B A K) (hi:i<K.length):∃b o,A=some ⟨b,o,none⟩/\b<B/\w.cell? ⟨b,o+i*2,none⟩=some (.string ⟨(kl K i).1.toArray⟩)/\w.cell? ⟨b,o+i*2+1,none⟩=some (.string ⟨(kl K i).2.toArray⟩):=by
 rcases h with h | ⟨b,o,O,Z,M⟩
 ·subst h;simp at hi
 ·exact⟨b,o,O,Z,M i hi⟩
theorem Pw {i:Nat} (h:RdA w B A P) (hi:i<P.length):∃b o,A=some ⟨b,o,none⟩/\b<B/\w.cell? ⟨b,o+i*3,none⟩=some (.string ⟨(al P i).f.toArray⟩)/\w.cell? ⟨b,o+i*3+1,none⟩=some (.string ⟨(al P i).t.toArray⟩)/\
  ∃v,w.cell? ⟨b,o+i*3+2,none⟩=some v/\SlV w B v (al P i).v:=by
 rcases h with h | ⟨b,o,O,Z,M⟩
 ·subst h;simp at hi
 ·exact⟨b,o,O,Z,M i hi⟩
end
def ixP (x:Pr) (K:List Pr):Int:=if x∈K then ((K.findIdx fun y=>decide (y=x):Nat):Int) else -1
theorem Ta {K:List Pr} {x:Pr} {i:Nat} (hi:i<K.length) (h:kl K i=x) (M:∀k,k<i->kl K k≠x):ixP x K=(i:Int):=by
 have hm:x∈K:=by rw[<-h];exact Ym hi
 rw[ixP,if_pos hm]
 congr 1
 rcases Nat.lt_trichotomy (K.findIdx fun y=>decide (y=x)) i with g | g | g
 ·have:=List.findIdx_getElem (p:=fun y=>decide (y=x)) (w:=(by omega:(K.findIdx fun y=>decide (y=x))<K.length))
  exact absurd (by rw[Ge (by omega)];simpa using this) (M _ g)
 ·exact g
 ·have:=List.not_of_lt_findIdx g
  rw[Ge hi] at h;simp [h] at this
theorem Wv {K:List Pr} {x:Pr} (M:∀k,k<K.length->kl K k≠x):ixP x K = -1:=by
 rw[ixP,if_neg];intro hm;obtain⟨i,hi,e⟩:=bY hm;exact M i hi e
theorem bZ (x:Pr) (K:List Pr):decide (0<=ixP x K)=decide (x∈K):=by
 rw[ixP]
 by_cases h:x∈K
 ·rw[if_pos h];simp [h]
 ·rw[if_neg h];simp [h]
theorem II (xs:Array Value) (i:Nat) (u:L) (h:xs[i]? = some (.string ⟨u.toArray⟩)) (w:World):(part 9 xs (i*Tryz.prog.cellsOf 9)).run Tryz.prog w=.ok (.string ⟨u.toArray⟩) w:=by
 have M:Tryz.prog.cellsOf 9=1:=by kernel_rfl
 have u9:=Tryz.underlying9;rw[M,Nat.mul_one];unfold part
 go_simp
theorem ZA (a b:L) (w:World):(Op.equalIn 9999 9 (.string ⟨a.toArray⟩) (.string ⟨b.toArray⟩)).run Tryz.prog w=.ok (decide (a=b)) w:=by
 rw[show(9999:Nat)=9998+1 from rfl,run_equalIn_string w 9998 _ _ _ Tryz.underlying9]
 congr 1
 rw[ByteArray.toList_eq,ByteArray.toList_eq]
 by_cases h:a=b<;>simp [h]
theorem Px (x y:Pr) (w:World):(Op.equalIn 10000 121 (.agg #[.string ⟨x.1.toArray⟩,.string ⟨x.2.toArray⟩]) (.agg #[.string ⟨y.1.toArray⟩,.string ⟨y.2.toArray⟩])).run Tryz.prog w=.ok (decide (x=y)) w:=by
 obtain⟨i0,M,_,_,_⟩:=info_parts IB;rw[run_equalIn_array w 9999 _ _ Tryz.underlying121 M];show(Op.eqItems 9999 9 (Tryz.prog.cellsOf 9) _ _ [0,1]).run Tryz.prog w=_;have p1:=II #[.string ⟨x.1.toArray⟩,.string ⟨x.2.toArray⟩] 0 x.1 rfl;have O:=II #[.string ⟨x.1.toArray⟩,.string ⟨x.2.toArray⟩] 1 x.2 rfl;have Z:=II #[.string ⟨y.1.toArray⟩,.string ⟨y.2.toArray⟩] 0 y.1 rfl;have p4:=II #[.string ⟨y.1.toArray⟩,.string ⟨y.2.toArray⟩] 1 y.2 rfl;obtain⟨a,b⟩:=x;obtain⟨c,d⟩:=y;simp only at p1 O Z p4;simp only[Op.eqItems,Sem.run_bind,p1,O,Z,p4,Result.andThen_ok,ZA,Sem.run_ite,Sem.run_pure]
 by_cases h1:a=c<;>by_cases h2:b=d<;>simp [h1,h2]
theorem Tb (x y:Pr) (h:x=y):∀w,(Op.equalIn 10000 121 (.agg #[.string ⟨x.1.toArray⟩,.string ⟨x.2.toArray⟩]) (.agg #[.string ⟨y.1.toArray⟩,.string ⟨y.2.toArray⟩])).run Tryz.prog w=.ok true w:=fun w=>by rw[Px,decide_eq_true h]
theorem Yn (x y:Pr) (h:x≠y):∀w,(Op.equalIn 10000 121 (.agg #[.string ⟨x.1.toArray⟩,.string ⟨x.2.toArray⟩]) (.agg #[.string ⟨y.1.toArray⟩,.string ⟨y.2.toArray⟩])).run Tryz.prog w=.ok false w:=fun w=>by rw[Px,decide_eq_false h]
theorem QE (K:List Pr) (A:Option Addr) (c B:Nat) (x:Pr) (w:World) (hl:K.length<=1000000) (hr:RdP w B A K) (hB:B<=w.heap.size) :
  Calls Tryz.prog 199 #[.slice A K.length c,stp x] w fun e w'=>e=.returned (.int .i64 (ixP x K))/\Below w.heap.size w w':=by
 have HR:=I hr;clear hr;obtain⟨n,en⟩:=Ak (K.length);rw[<-en] at hl⊢;have EN:=I en;clear en;rw[stp,st,st];go_enter Tryz.func199,Tryz.ntmps199
 go_wp2
 have HK:=I (Blk.new w 121 #[.string ⟨x.1.toArray⟩,.string ⟨x.2.toArray⟩]);obtain⟨W,eW⟩:=Ak (w.alloc (.cells #[.string ⟨x.1.toArray⟩,.string ⟨x.2.toArray⟩] 121));rw[<-eW] at HK⊢;have O:=I (show Below w.heap.size w W by rw[eW];exact Ah.alloc Ag _);have HG:=I (show w.heap.size<=W.heap.size from O.o.size);obtain⟨g,eg⟩:=Ak (w.heap.size);rw[<-eg] at HK O hB HG⊢;replace HR:=I ((HR.o.below (O.o.mono hB)));have EG:=I eg;clear eW eg hB
 go_loopw [8] (fun iv wr=>∃i:Nat,i<=n/\iv=.int .i64 (i:Int)/\(∀k,k<i->kl K k≠x)/\AV W wr) (fun iv _=>n - (intOf iv).toNat)
 case atStart=>exact⟨0,Nat.zero_le _,rfl,fun k h=>absurd h (Nat.not_lt_zero k),AV.refl _⟩
 case round=>
  obtain⟨i,hi,rfl,hn,Z⟩:=hrel;have HN:=I hn;clear hn;have av:RdP wr B A K:=HR.o.keep fun b o _=>by obtain⟨m,rfl⟩:=Z;rfl
  have bb:wr.cell? ⟨g,0,none⟩=some (.string ⟨x.1.toArray⟩):=by obtain⟨m,rfl⟩:=Z;exact HK.o.cell 0
  have aw:wr.cell? ⟨g,1,none⟩=some (.string ⟨x.2.toArray⟩):=by obtain⟨m,rfl⟩:=Z;exact HK.o.cell 1
  have M:=I Z;clear Z
  by_cases hlt:i<n
  ·have e1:(i:Int)<(n:Int):=by omega
   have e2:(0:Int)<=(i:Int):=by omega
   obtain⟨b,o,rfl,_,h1,h2⟩:=Mt av (i:=i) (by rw[<-EN.o];exact hlt)
   by_cases hx:kl K i=x
   ·have t1:=Tb x (kl K i) hx.symm
    have E:=I (Ta (by rw[<-EN.o];exact hlt) hx HN.o);clear hx
    go_wp2
    go_quiet (fail)
    go_wp2
    go_ret;exact⟨by rw[E.o];rfl,by rw[<-EG.o];exact O.o.trans ((M.o.trans ⟨_,rfl⟩).below.mono HG.o)⟩
   ·have t1:=Yn x (kl K i) fun g=>hx g.symm
    have HX:=I hx;clear hx
    go_wp2
    go_quiet (fail)
    go_wp2
    go_roundw
    case rel=>exact⟨i+1,by omega,by go_num,fun k hk=>by
     by_cases q:k=i
     ·rw[q];exact HX.o
     ·exact HN.o k (by omega),M.o.trans ⟨_,rfl⟩⟩
    case measure=>simp [intOf];omega
  ·have e1:¬(i:Int)<(n:Int):=by omega
   have E:=I (Wv (K:=K) (x:=x) fun k hk=>HN.o k (by have:=EN.o;omega))
   go_wp2
   go_ret;exact⟨by rw[E.o];rfl,by rw[<-EG.o];exact O.o.trans (M.o.below.mono HG.o)⟩
theorem Lf (K:List Pr) (A:Option Addr) (c B:Nat) (x:Pr) (w:World) (hl:K.length<=1000000) (Z:RdP w B A K) (hB:B<=w.heap.size) :
  Calls Tryz.prog 150 #[.slice A K.length c,stp x] w fun e w'=>e=.returned (.bool (decide (x∈K)))/\Below w.heap.size w w':=by
 have M:=(Below.refl w.heap.size w).alloc Ag (.cells #[.string ⟨x.1.toArray⟩,.string ⟨x.2.toArray⟩] 121);have c1:=QE K A c B x _ hl (Z.below (M.mono hB)) (Nat.le_trans hB M.size);have H:=I M;clear M;have E:=I (bZ x K);obtain⟨z,O⟩:=Ak (ixP x K);rw[<-O] at c1;have EZ:=I O;clear O Z;rw[stp,st,st] at c1⊢;go_enter Tryz.func150,Tryz.ntmps150
 go_wp2_with (go_at_call 199;refine Aj c1 ?_;rintro w1 M;replace H:=H.t M;clear M)
 go_ret;exact⟨by rw[<-E.o,<-EZ.o];rfl,H.o⟩
theorem Py (ls:List L) (A:Option Addr) (c B:Nat) (w:World) (hl:ls.length<=1000000) (hc:ls.length<=c) (hr:Rd w B A (strs ls)) :
  Calls Tryz.prog 102 #[.slice A ls.length c] w fun e w'=>e=.returned (.bool (decide ls.Nodup))/\w=w':=by
 have HR:=I hr;clear hr;have C1:=I (fun(i:Nat) (hi:i<ls.length) w1 (h:Rd w1 B A (strs ls))=>Tr.Cb (ls.take i) A c B (pl ls i) w1 (by simp;omega) (Of h (by omega)));obtain⟨n,en⟩:=Ak (ls.length);rw[<-en] at hl hc⊢;have EN:=I en;clear en;go_enter Tryz.func102,Tryz.ntmps102
 go_wp2
 go_loop [7] (fun Z=>∃i:Nat,i<=n/\Z=.int .i64 (i:Int)/\(ls.take i).Nodup) (fun Z=>n - (intOf Z).toNat)
 case atStart=>exact⟨0,Nat.zero_le _,rfl,by simp⟩
 case round=>
  obtain⟨i,hi,rfl,O⟩:=hrel;have HN:=I O;clear O
  by_cases hlt:i<n
  ·have e1:(i:Int)<(n:Int):=by omega
   have e2:(0:Int)<=(i:Int):=by omega
   have e3:(i:Int)<=(c:Int):=by omega
   have M:i<ls.length:=by rw[<-EN.o];exact hlt
   have c1:=C1.o i M w HR.o;have hlen:(ls.take i).length=i:=by simp;omega
   rw[hlen] at c1;have hs:=DJ M;rw[<-CO M] at hs;obtain⟨b,o,rfl,_,h1⟩:=CU HR.o M
   by_cases hx:pl ls i∈ls.take i
   ·rw[decide_eq_true hx] at c1
    have E:=I (show decide ls.Nodup=false by
     rw[decide_eq_false_iff_not];intro O;exact(hs.1 (FT O)).2 hx)
    clear hx hs hlen M
    go_wp2_with (go_at_call 32;refine Aj c1 ?_;rintro w1 rfl;clear c1)
    go_ret;exact⟨by rw[E.o];rfl,rfl⟩
   ·rw[decide_eq_false hx] at c1
    have E:=I (hs.2 ⟨HN.o,hx⟩);clear hx hs hlen M
    go_wp2_with (go_at_call 32;refine Aj c1 ?_;rintro w1 rfl;clear c1)
    go_round
    case rel=>exact⟨i+1,by omega,by go_num,E.o⟩
    case measure=>simp [intOf];omega
  ·have e1:¬(i:Int)<(n:Int):=by omega
   have E:=I (show decide ls.Nodup=true by
    have h:=HN.o;rw[List.take_of_length_le (by have:=EN.o;omega)] at h;exact decide_eq_true h)
   go_wp2
   go_ret;exact⟨by rw[E.o];rfl,rfl⟩
theorem Tc (K:List Pr) (A:Option Addr) (c B:Nat) (w:World) (hl:K.length<=1000000) (hc:K.length<=c) (hr:RdP w B A K) (hB:B<=w.heap.size) :
  Calls Tryz.prog 103 #[.slice A K.length c] w fun e w'=>e=.returned (.bool (decide K.Nodup))/\Below w.heap.size w w':=by
 obtain⟨N,eN⟩:=Ak (w.heap.size);rw[<-eN] at hB⊢;have bn:=I (show Below N w w from Below.refl _ _);have av:=I eN;clear eN;have aw:=I (show ∀w1:World,Below N w w1->N<=w1.heap.size from fun w1 h=>by have:=h.size;have:=av.o;omega);have HR:=I hr;clear hr;have C1:=I (fun(i:Nat) (hi:i<K.length) w1 (h:RdP w1 B A K) (bq:B<=w1.heap.size)=>Lf (K.take i) A c B (kl K i) w1 (by simp;omega) (Wu h) bq);obtain⟨n,en⟩:=Ak (K.length);rw[<-en] at hl hc⊢;have EN:=I en;clear en;go_enter Tryz.func103,Tryz.ntmps103
 go_wp2
 go_loopw [7] (fun iv wr=>∃i:Nat,i<=n/\iv=.int .i64 (i:Int)/\(K.take i).Nodup/\Below N w wr) (fun iv _=>n - (intOf iv).toNat)
 case atStart=>exact⟨0,Nat.zero_le _,rfl,by simp,bn.o⟩
 case round=>
  obtain⟨i,hi,rfl,hn,O⟩:=hrel;have HN:=I hn;clear hn;have HB:=I O;clear O
  by_cases hlt:i<n
  ·have e1:(i:Int)<(n:Int):=by omega
   have e2:(0:Int)<=(i:Int):=by omega
   have e3:(i:Int)<=(c:Int):=by omega
   have M:i<K.length:=by rw[<-EN.o];exact hlt
   have hs:=DJ M;rw[<-Ge M] at hs;have bb:=HR.o.below (HB.o.mono hB);obtain⟨b,o,rfl,_,h1,h2⟩:=Mt bb M;have hlen:(K.take i).length=i:=by simp;omega
   have Z:=I (show Blk (wr.alloc (.cells #[.string ⟨(kl K i).1.toArray⟩,.string ⟨(kl K i).2.toArray⟩] 121)).drew wr.heap.size 121 #[.string ⟨(kl K i).1.toArray⟩,.string ⟨(kl K i).2.toArray⟩] from(Blk.new wr 121 _).drewN 1);have H:=I (show Below N w (wr.alloc (.cells #[.string ⟨(kl K i).1.toArray⟩,.string ⟨(kl K i).2.toArray⟩] 121)).drew from below_drewN (HB.o.alloc (by have:=HB.o.size;have:=av.o;omega) _) 1);have c1:=C1.o i M _ (HR.o.below (H.o.mono hB)) (Nat.le_trans hB (by have:=H.o.size;have:=av.o;omega));rw[hlen] at c1;rw[stp,st,st] at c1
   by_cases hx:kl K i∈K.take i
   ·rw[decide_eq_true hx] at c1
    have E:=I (show decide K.Nodup=false by
     rw[decide_eq_false_iff_not];intro hn;exact(hs.1 (FT hn)).2 hx)
    clear hx hs hlen M
    go_wp2
    go_region_held3 (fun w'=>w'.cell? ⟨wr.heap.size,0,none⟩=some (.string ⟨(kl K i).1.toArray⟩)/\w'.cell? ⟨wr.heap.size,1,none⟩=some (.string ⟨(kl K i).2.toArray⟩)) (exact⟨Z.o.cell 0,Z.o.cell 1⟩) ((go_at_call 150;refine Aj c1 ?_;rintro w1 O;clear c1;have H1:=I (H.o.trans (O.mono (aw.o _ H.o)));replace Z:=I (Z.o.below O);clear O))
    go_wp2
    go_ret;exact⟨by rw[E.o];rfl,H1.o⟩
   ·rw[decide_eq_false hx] at c1
    have E:=I (hs.2 ⟨HN.o,hx⟩);clear hx hs hlen M
    go_wp2
    go_region_held3 (fun w'=>w'.cell? ⟨wr.heap.size,0,none⟩=some (.string ⟨(kl K i).1.toArray⟩)/\w'.cell? ⟨wr.heap.size,1,none⟩=some (.string ⟨(kl K i).2.toArray⟩)) (exact⟨Z.o.cell 0,Z.o.cell 1⟩) ((go_at_call 150;refine Aj c1 ?_;rintro w1 O;clear c1;have H1:=I (H.o.trans (O.mono (aw.o _ H.o)));replace Z:=I (Z.o.below O);clear O))
    go_wp2
    go_roundw
    case rel=>exact⟨i+1,by omega,by go_num,E.o,H1.o⟩
    case measure=>simp [intOf];omega
  ·have e1:¬(i:Int)<(n:Int):=by omega
   have E:=I (show decide K.Nodup=true by
    have h:=HN.o;rw[List.take_of_length_le (by have:=EN.o;omega)] at h;exact decide_eq_true h)
   go_wp2
   go_ret;exact⟨by rw[E.o];rfl,HB.o⟩
def prs (K:List Pr):List Value:=K.flatMap fun p=>[st p.1,st p.2]
theorem Kn (K M:List Pr):prs (K++M)=prs K++prs M:=by simp [prs]
theorem Td (K:List Pr):∀u∈prs K,u.oneCell'=true:=by
 intro u hu;obtain⟨p,_,h⟩:=List.mem_flatMap.1 hu;rcases List.mem_cons.1 h with h | h
 ·subst h;rfl
 ·rw[List.mem_singleton] at h;subst h;rfl
theorem Yo:∀{K:List Pr} {i:Nat},i<K.length->(prs K)[i*2]? = some (st (kl K i).1)/\(prs K)[i*2+1]? = some (st (kl K i).2)
 | [],i,h=>by simp at h
 |a :: t,0,_=>⟨rfl,rfl⟩
 |a :: t,i+1,h=>by
  have:=Yo (K:=t) (i:=i) (by simpa using h);have e:prs (a :: t)=st a.1 :: st a.2 :: prs t:=rfl;rw[e,show(i+1)*2=i*2+2 by omega];exact this
theorem Mu:(Tryz.prog.info? 121).map (fun i=>(i.zero,i.size,i.bytes))=some (some (.agg #[.string ⟨#[]⟩,.string ⟨#[]⟩]),2,32):=by kernel_rfl
def OwnP (w:World) (base:Nat) (v:Value) (K:List Pr):Prop:=w.ownsRow base 121 2 v K.length (prs K)
theorem OwnP.nil (w:World) (base:Nat):OwnP w base (.slice none 0 0) []:=World.ownsRow_nil w base _ 2
theorem OwnP.below {w w':World} {base:Nat} {v:Value} {K:List Pr} (h:OwnP w base v K) (M:Below w.heap.size w w'):OwnP w' base v K:=BU h M
theorem OwnP.slice {w:World} {base:Nat} {v:Value} {K:List Pr} (h:OwnP w base v K):SlP w w.heap.size v K:=by
 have h':=h;rcases h.2 with⟨M,O⟩ | ⟨g,cap,cur,M,hg,hh,hc,_⟩
 ·have e:K = []:=List.eq_nil_of_length_eq_zero O
  subst e;exact⟨none,0,M,Nat.le_refl _,.inl rfl⟩
 ·subst M
  refine⟨_,cap,rfl,hc,.inr ⟨g,0,rfl,(Array.getElem?_eq_some_iff.1 hh).1,fun i hi=>?_⟩⟩;have M:=h'.cells (g:=g) rfl;have O:=Yo hi;have a1:=M _ _ O.1;have Z:=M _ _ O.2;rw[addr_add] at a1 Z;rw[Nat.add_assoc];exact⟨a1,Z⟩
theorem OwnP.lt {w:World} {base:Nat} {v:Value} {K:List Pr} (h:OwnP w base v K):∀k,v.ownBlock=some k->base<=k/\k<w.heap.size:=World.ownsRow.lt h
section
variable {w:World} {ops:Array Oper} {rest:List Oper} {o:Oper} {a:Act} {Q:Exit->Act->World->Prop}
theorem Ww (aw : o.guard = none) (s x : Operand) (ho : o.op=.call { callee := .builtin .append, args := #[s, x], argTypes := #[61, 61] })
    (base:Nat) (v:Value) (K:List Pr) (hs:a.eval s=v) (O:OwnP w base v K) (p:Pr) (hx:a.eval x=.slice (some ⟨w.heap.size,0,none⟩) 1 1)
    (hl:K.length+1<=1000000) (hb:base<=w.heap.size)
    (h:∀v' w',OwnP w' base v' (K++[p])->Below base w w'->wpList Tryz.prog ops Q rest (a.put o.dst v') w'):wpList Tryz.prog ops Q (o :: rest) a (w.alloc (.cells #[.string ⟨p.1.toArray⟩,.string ⟨p.2.toArray⟩] 121)):=by
  obtain⟨i0,bq,av,bn,bb⟩:=info_parts Mu;have M:Below w.heap.size w (w.alloc (.cells #[.string ⟨p.1.toArray⟩,.string ⟨p.2.toArray⟩] 121)):=Ah.alloc Ag _;obtain ⟨v', w', Z, h2, h3, _, _⟩ := run_append_own_at (P := Tryz.prog) (w.alloc (.cells #[.string ⟨p.1.toArray⟩, .string ⟨p.2.toArray⟩] 121)) base 61 o.type 121 i0 _ 2 32 Tryz.underlying61 bq av bn bb rfl (by omega) v K.length (prs K) (O.below M) ⟨w.heap.size, 0, none⟩ 1 1 (prs [p]) rfl (fun j u hu => by
      rw[addr_add,Nat.zero_add,(Blk.new w 121 _).cell j];have e:prs [p]=#[Value.string ⟨p.1.toArray⟩,.string ⟨p.2.toArray⟩].toList:=rfl;rw[e] at hu
      simpa using hu) (Td _) (by unfold maxLen;omega) (by omega) (Nat.le_trans hb M.size)
  refine wpList_plain aw fun J hJ=>?_
  unfold Oper.wp execOp;simp only[ho,resolve,invoke,builtin,Sem.run_bind,Sem.run_pure,Result.andThen_ok,List.map_toArray,List.map_cons,List.map_nil,hs,hx,Z];refine hJ _ _ (h v' w' (by rw[OwnP,List.length_append,Kn];exact h2) ?_);exact(M.mono hb).grown h3 (Nat.le_trans hb M.size) (fun k hk=>(O.lt k hk).1)
end
theorem QF (ls:List L) (A:Option Addr) (c B:Nat) (w:World) (hl:ls.length<=1000000) (hc:ls.length<=c) (hr:Rd w B A (strs ls)) (hs:∀i,i<ls.length->(pl ls i).length<=1000000000) :
  Calls Tryz.prog 66 #[.slice A ls.length c] w fun e w'=>e=.returned (.bool (By ls))/\AV w w':=by
 have HR:=I hr;clear hr;have IS:=I (fun(i:Nat) (h:i<ls.length) w1=>Fq (pl ls i) w1 (hs i h));have C1:=I (fun w1 h=>Py ls A c B w1 hl hc h);obtain⟨n,en⟩:=Ak (ls.length);rw[<-en] at hl hc C1⊢;have EN:=I en;clear en hs;have HD:=I (AV.refl w);go_enter Tryz.func66,Tryz.ntmps66
 go_wp2
 go_loopw [7] (fun iv wr=>∃i:Nat,i<=n/\iv=.int .i64 (i:Int)/\(ls.take i).all isL=true/\AV w wr) (fun iv _=>n - (intOf iv).toNat)
 case atStart=>exact⟨0,Nat.zero_le _,rfl,by simp,HD.o⟩
 case round=>
  obtain⟨i,hi,rfl,hn,O⟩:=hrel;have HN:=I hn;clear hn;have bb:Rd wr B A (strs ls):=by obtain⟨m,rfl⟩:=O;exact HR.o.drewN m
  have av:=I O;clear O
  by_cases hlt:i<n
  ·have e1:(i:Int)<(n:Int):=by omega
   have e2:(0:Int)<=(i:Int):=by omega
   have M:i<ls.length:=by rw[<-EN.o];exact hlt
   have c1:=IS.o i M wr;have Z:=all_succ (p:=isL) M;rw[HN.o,Bool.true_and,<-CO M] at Z;obtain⟨b,o,rfl,_,h1⟩:=CU bb M;cases hx:isL (pl ls i) with
   |false=>
    rw[hx] at c1;have E:=I (show By ls=false by
     rw[By,all_false M (by rw[<-CO M];exact hx)];rfl)
    clear hx Z M
    go_wp2_with (go_at_call 59;refine Aj c1 ?_;rintro w1 O;clear c1;have aw:=I (av.o.trans O);clear O)
    go_ret;exact⟨by rw[E.o];rfl,aw.o⟩
   |true=>
    rw[hx] at c1;have E:=I (Z.trans hx);clear hx Z M
    go_wp2_with (go_at_call 59;refine Aj c1 ?_;rintro w1 O;clear c1;have aw:=I (av.o.trans O);clear O)
    go_roundw
    case rel=>exact⟨i+1,by omega,by go_num,E.o,aw.o⟩
    case measure=>simp [intOf];omega
  ·have e1:¬(i:Int)<(n:Int):=by omega
   have E:=I (show By ls=decide ls.Nodup by
    rw[By,Dw (by have:=EN.o;omega) HN.o];rfl)
   have c1:=C1.o wr bb
   go_wp2_with (go_at_call 102;refine Aj c1 ?_;rintro w1 rfl;clear c1)
   go_ret;exact⟨by rw[E.o];rfl,av.o⟩
theorem Mv (K:List Pr) (R:List L) (A A2:Option Addr) (c c2 B:Nat) (w:World) (hl:K.length<=1000000) (hc:K.length<=c) (bq:R.length<=1000000) (hr:RdP w B A K) (bb:Rd w B A2 (strs R)) (hB:B<=w.heap.size) :
  Calls Tryz.prog 67 #[.slice A K.length c,.slice A2 R.length c2] w fun e w'=>e=.returned (.bool (CZ K R))/\Below w.heap.size w w':=by
 obtain⟨N,eN⟩:=Ak (w.heap.size);rw[<-eN] at hB⊢;have bz:=I (show Below N w w from Below.refl _ _);have bx:=I eN;clear eN;have aw:=I (show ∀w1:World,Below N w w1->N<=w1.heap.size from fun w1 h=>by have:=h.size;have:=bx.o;omega);have HR:=I hr;clear hr;have bs:=I bb;clear bb;have C1:=I (fun x w1 (h:Rd w1 B A2 (strs R))=>Tr.Cb R A2 c2 B x w1 (by omega) h);have C2:=I (fun w1 h bB=>Tc K A c B w1 hl hc h bB);obtain⟨n,en⟩:=Ak (K.length);obtain⟨m,em⟩:=Ak (R.length);rw[<-en] at hl hc C2⊢;rw[<-em] at bq C1⊢;have EN:=I en;clear en em;go_enter Tryz.func67,Tryz.ntmps67
 go_wp2
 go_loopw [11] (fun iv wr=>∃i:Nat,i<=n/\iv=.int .i64 (i:Int)/\(K.take i).all (Dh R)=true/\Below N w wr) (fun iv _=>n - (intOf iv).toNat)
 case atStart=>exact⟨0,Nat.zero_le _,rfl,by simp,bz.o⟩
 case round=>
  obtain⟨i,hi,rfl,hn,hb⟩:=hrel;have HN:=I hn;clear hn;have HB:=I hb;clear hb;have bn:=HR.o.below (HB.o.mono hB)
  by_cases hlt:i<n
  ·have e1:(i:Int)<(n:Int):=by omega
   have e2:(0:Int)<=(i:Int):=by omega
   have av:i<K.length:=by rw[<-EN.o];exact hlt
   have Z:=all_succ (p:=Dh R) av;have M:=all_false (p:=Dh R) av;rw[HN.o,Bool.true_and,<-Ge av] at Z;rw[<-Ge av] at M;obtain⟨b,o,rfl,_,h1,h2⟩:=Mt bn av;obtain⟨x,ex⟩:=Ak (kl K i);rw[<-ex] at Z M h1 h2;clear ex av;have HK:=I (show Blk (wr.alloc (.cells #[.string ⟨x.1.toArray⟩,.string ⟨x.2.toArray⟩] 121)).drew wr.heap.size 121 #[.string ⟨x.1.toArray⟩,.string ⟨x.2.toArray⟩] from(Blk.new wr 121 _).drewN 1);have H:=I (show Below N w (wr.alloc (.cells #[.string ⟨x.1.toArray⟩,.string ⟨x.2.toArray⟩] 121)) from HB.o.alloc (aw.o _ HB.o) _);have O:=I (bs.o.below (H.o.mono hB));obtain⟨W,eW⟩:=Ak (wr.alloc (.cells #[.string ⟨x.1.toArray⟩,.string ⟨x.2.toArray⟩] 121))
   go_wp2
   rw[<-eW] at HK H O⊢;clear eW;have k0:W.cell? ⟨wr.heap.size,0,none⟩=some (.string ⟨x.1.toArray⟩):=HK.o.cell 0;have k1:W.cell? ⟨wr.heap.size,1,none⟩=some (.string ⟨x.2.toArray⟩):=HK.o.cell 1
   go_quiet (fail)
   by_cases q1:x.1=x.2
   ·have t1:(x.1==x.2)=true:=by simpa using q1
    have E:=I (show CZ K R=false by
     rw[CZ,M (by rw[Dh,decide_eq_false (fun h=>h q1)];rfl)];rfl)
    clear q1 Z M
    go_wp2_with fail
    go_ret;exact⟨by rw[E.o];rfl,below_drewN H.o _⟩
   ·have t1:(x.1==x.2)=false:=by simpa using q1
    by_cases q2:x.1∈R
    ·have c1:=fun k=>C1.o x.1 (W.drewN k) (O.o.drewN k)
     rw[decide_eq_true q2] at c1
     by_cases q3:x.2∈R
     ·have c3:=fun k=>C1.o x.2 (W.drewN k) (O.o.drewN k)
      rw[decide_eq_true q3] at c3;have E:=I (show((K.take (i+1)).all (Dh R)=true) by
       rw[Z,Dh,decide_eq_true q1,decide_eq_true q2,decide_eq_true q3];rfl)
      clear q1 q2 q3 Z M
      go_wp2_with (first
       |(go_at_call 32;with_reducible refine Aj (c1 _) ?_;rintro w1 rfl;clear c1)
       |(go_at_call 32;with_reducible refine Aj (c3 _) ?_;rintro w1 rfl;clear c3))
      go_roundw
      case rel=>exact⟨i+1,by omega,by go_num,E.o,below_drewN H.o _⟩
      case measure=>simp [intOf];omega
     ·have c3:=fun k=>C1.o x.2 (W.drewN k) (O.o.drewN k)
      rw[decide_eq_false q3] at c3;have E:=I (show CZ K R=false by
       rw[CZ,M (by rw[Dh,decide_eq_false q3];simp)];rfl)
      clear q1 q2 q3 Z M
      go_wp2_with (first
       |(go_at_call 32;with_reducible refine Aj (c1 _) ?_;rintro w1 rfl;clear c1)
       |(go_at_call 32;with_reducible refine Aj (c3 _) ?_;rintro w1 rfl;clear c3))
      go_ret;exact⟨by rw[E.o];rfl,below_drewN H.o _⟩
    ·have c1:=fun k=>C1.o x.1 (W.drewN k) (O.o.drewN k)
     rw[decide_eq_false q2] at c1;have E:=I (show CZ K R=false by
      rw[CZ,M (by rw[Dh,decide_eq_false q2];simp)];rfl)
     clear q1 q2 Z M
     go_wp2_with (go_at_call 32;with_reducible refine Aj (c1 _) ?_;rintro w1 rfl;clear c1)
     go_ret;exact⟨by rw[E.o];rfl,below_drewN H.o _⟩
  ·have e1:¬(i:Int)<(n:Int):=by omega
   have E:=I (show CZ K R=decide K.Nodup by
    rw[CZ,Dw (by have:=EN.o;omega) HN.o];rfl)
   have c1:=C2.o wr bn (Nat.le_trans hB (aw.o _ HB.o))
   go_wp2_with (go_at_call 103;refine Aj c1 ?_;rintro w1 hb;clear c1;replace HB:=I (HB.o.trans (hb.mono (aw.o _ HB.o)));clear hb)
   go_ret;exact⟨by rw[E.o];rfl,HB.o⟩
theorem ZB (p:Pa) (R:List L) (u:Value) (A2:Option Addr) (c2 B:Nat) (w:World) (hl:p.v.length<=1000000) (bn:R.length<=1000000) (hr:SlV w B u p.v) (bb:Rd w B A2 (strs R)) (hB:B<=w.heap.size) :
  Calls Tryz.prog 104 #[.agg #[.string ⟨p.f.toArray⟩,.string ⟨p.t.toArray⟩,u],.slice A2 R.length c2] w fun e w'=>e=.returned (.bool (viaB R p))/\Below w.heap.size w w':=by
 obtain⟨A,c,rfl,hc,hr⟩:=hr;have O:=I ((Below.refl w.heap.size w).alloc Ag (.cells #[.string ⟨p.f.toArray⟩,.string ⟨p.t.toArray⟩,.slice A p.v.length c] 174));have HK:=I (Blk.new w 174 #[.string ⟨p.f.toArray⟩,.string ⟨p.t.toArray⟩,.slice A p.v.length c]);have HR:=I (hr.below (O.o.mono hB));clear hr;have aw:=I (bb.below (O.o.mono hB));clear bb;have C1:=I (fun x w1 (h:Rd w1 B A2 (strs R))=>Tr.Cb R A2 c2 B x w1 (by omega) h);have C2:=I (fun w1 h=>Py p.v A c B w1 hl hc h);obtain⟨n,en⟩:=Ak (p.v.length);obtain⟨m,em⟩:=Ak (R.length);rw[<-en] at hl hc C2 O HK HR aw⊢;rw[<-em] at bn C1⊢;have EN:=I en;clear en em
 by_cases h4:n<=4
 ·have g4:decide (4<(n:Int))=false:=by simp;omega
  have H4:=I h4;go_enter Tryz.func104,Tryz.ntmps104
  go_wp2
  obtain⟨W,eW⟩:=Ak (w.alloc (.cells #[.string ⟨p.f.toArray⟩,.string ⟨p.t.toArray⟩,.slice A n c] 174));rw[<-eW] at O HK HR aw⊢;clear eW;have k0:=HK.c0;have k1:=HK.c1;have k2:=HK.c2
  go_loop [14] (fun iv=>∃i:Nat,i<=n/\iv=.int .i64 (i:Int)/\(p.v.take i).all (onB R p)=true) (fun iv=>n - (intOf iv).toNat)
  case atStart=>exact⟨0,Nat.zero_le _,rfl,by simp⟩
  case round=>
   obtain⟨i,hi,rfl,hn⟩:=hrel;have HN:=I hn;clear hn
   by_cases hlt:i<n
   ·have e1:(i:Int)<(n:Int):=by omega
    have e2:(0:Int)<=(i:Int):=by omega
    have av:i<p.v.length:=by rw[<-EN.o];exact hlt
    have Z:=all_succ (p:=onB R p) av;have M:=all_false (p:=onB R p) av;rw[HN.o,Bool.true_and,<-CO av] at Z;rw[<-CO av] at M;obtain⟨b,o,rfl,_,h1⟩:=CU HR.o av;obtain⟨x,ex⟩:=Ak (pl p.v i);rw[<-ex] at Z M h1;clear ex av
    by_cases q1:x=p.f
    ·have t1:(x==p.f)=true:=by simpa using q1
     have E:=I (show viaB R p=false by
      rw[viaB,M (by rw[onB,decide_eq_false (fun h=>h q1)];rfl)];simp)
     clear q1 Z M
     go_wp2_with fail
     go_ret;exact⟨by rw[E.o];rfl,O.o⟩
    ·have t1:(x==p.f)=false:=by simpa using q1
     by_cases q2:x=p.t
     ·have t2:(x==p.t)=true:=by simpa using q2
      have E:=I (show viaB R p=false by
       rw[viaB,M (by rw[onB,decide_eq_false (p:=x≠p.t) (fun h=>h q2)];simp)];simp)
      clear q1 q2 Z M
      go_wp2_with fail
      go_ret;exact⟨by rw[E.o];rfl,O.o⟩
     ·have t2:(x==p.t)=false:=by simpa using q2
      have c3:=C1.o x W aw.o
      by_cases q3:x∈R
      ·rw[decide_eq_true q3] at c3
       have E:=I (show((p.v.take (i+1)).all (onB R p)=true) by
        rw[Z,onB,decide_eq_true q1,decide_eq_true q2,decide_eq_true q3];rfl)
       clear q1 q2 q3 Z M
       go_wp2_with (go_at_call 32;refine Aj c3 ?_;rintro w1 rfl;clear c3)
       go_round
       case rel=>exact⟨i+1,by omega,by go_num,E.o⟩
       case measure=>simp [intOf];omega
      ·rw[decide_eq_false q3] at c3
       have E:=I (show viaB R p=false by
        rw[viaB,M (by rw[onB,decide_eq_false q3];simp)];simp)
       clear q1 q2 q3 Z M
       go_wp2_with (go_at_call 32;refine Aj c3 ?_;rintro w1 rfl;clear c3)
       go_ret;exact⟨by rw[E.o];rfl,O.o⟩
   ·have e1:¬(i:Int)<(n:Int):=by omega
    have E:=I (show viaB R p=decide p.v.Nodup by
     rw[viaB,Dw (by have:=EN.o;omega) HN.o,decide_eq_true (by rw[<-EN.o];exact H4.o)];rfl)
    have c1:=C2.o W HR.o
    go_wp2_with (go_at_call 102;refine Aj c1 ?_;rintro w1 rfl;clear c1)
    go_ret;exact⟨by rw[E.o];rfl,O.o⟩
 ·have g4:decide (4<(n:Int))=true:=by simp;omega
  have E:=I (show viaB R p=false by
   rw[viaB,decide_eq_false (by rw[<-EN.o];exact h4)];rfl)
  go_enter Tryz.func104,Tryz.ntmps104
  go_wp2
  go_ret;exact⟨by rw[E.o];rfl,O.o⟩
theorem Te {P:List Pa} {i:Nat} (h:i<P.length):El (P.take (i+1))=El (P.take i)++[((al P i).f,(al P i).t)]:=by
 rw[take_succ h,Ka h,El,List.map_append];rfl
theorem Bz (P:List Pa):(El P).length=P.length:=by simp [El]
theorem Tf (P:List Pa) (R:List L) (A A2:Option Addr) (c c2 B:Nat) (w:World) (hl:P.length<=100000) (bq:R.length<=1000000) (hv:∀p∈P,p.v.length<=1000000) (hr:RdA w B A P) (cc:Rd w B A2 (strs R)) (hB:B<=w.heap.size) :
  Calls Tryz.prog 68 #[.slice A P.length c,.slice A2 R.length c2] w fun e w'=>e=.returned (.bool (Gj P R))/\Below w.heap.size w w':=by
 obtain⟨N,eN⟩:=Ak (w.heap.size);rw[<-eN] at hB⊢;have cr:=I (show Below N w w from Below.refl _ _);have cp:=I eN;clear eN;have O:=I (show ∀w1:World,Below N w w1->N<=w1.heap.size from fun w1 h=>by have:=h.size;have:=cp.o;omega);have HR:=I hr;clear hr;have bz:=I cc;clear cc;have C1:=I (fun(i:Nat) (hi:i<P.length) u w1 (h:SlV w1 B u (al P i).v) (h2:Rd w1 B A2 (strs R)) cj=>ZB (al P i) R u A2 c2 B w1 (hv _ (Pv hi)) bq h h2 cj);have C2:=I (fun A c w1 h1 h2 h3 h4=>Mv (El P) R A A2 c c2 w1.heap.size w1 (by rw[Bz];omega) h1 bq h2 h3 h4);rw[Bz] at C2;obtain⟨n,en⟩:=Ak (P.length);obtain⟨m,em⟩:=Ak (R.length);rw[<-en] at hl C2⊢;rw[<-em] at bq C1 C2⊢;have EN:=I en;clear en em hv;go_enter Tryz.func68,Tryz.ntmps68
 go_wp2
 go_loopw [5,10] (fun ev iv wr=>∃i:Nat,i<=n/\iv=.int .i64 (i:Int)/\(P.take i).all (viaB R)=true/\OwnP wr N ev (El (P.take i))/\Below N w wr) (fun _ iv _=>n - (intOf iv).toNat)
 case atStart=>exact⟨0,Nat.zero_le _,rfl,by simp,OwnP.nil _ _,cr.o⟩
 case round=>
  obtain⟨i,hi,rfl,hn,ho,Z⟩:=hrel;have HN:=I hn;clear hn;have HB:=I Z;clear Z;have HO:=I ho;clear ho;have cg:=HR.o.below (HB.o.mono hB)
  by_cases hlt:i<n
  ·have e1:(i:Int)<(n:Int):=by omega
   have e2:(0:Int)<=(i:Int):=by omega
   have M:i<P.length:=by rw[<-EN.o];exact hlt
   have aw:=all_succ (p:=viaB R) M;have av:=all_false (p:=viaB R) M;have bn:=Te M;have bb:=Bz (P.take i);rw[HN.o,Bool.true_and,<-Ka M] at aw;rw[<-Ka M] at av;have hlen:(P.take i).length=i:=by simp;omega
   rw[hlen] at bb;have c1:=C1.o i M;obtain⟨b,o,rfl,_,h1,h2,u,h3,h4⟩:=Pw cg M;obtain⟨x,ex⟩:=Ak (al P i);obtain⟨F,eF⟩:=Ak (El (P.take i));rw[<-ex] at aw av h1 h2 h4 bn c1;rw[<-eF] at bn bb HO;have cf:=I bn;have ck:=I bb;clear bn bb;clear ex eF M hlen;have cm:=h4;obtain⟨A5,c5,eu,_⟩:=cm;subst eu;obtain⟨k5,cb⟩:∃k,k=x.v.length:=⟨_,rfl⟩;rw[<-cb] at h3 h4;have HK:=I (Blk.new wr 174 #[.string ⟨x.f.toArray⟩,.string ⟨x.t.toArray⟩,.slice A5 k5 c5]);have HA:=I ((Below.refl wr.heap.size wr).alloc Ag (.cells #[.string ⟨x.f.toArray⟩,.string ⟨x.t.toArray⟩,.slice A5 k5 c5] 174));have H:=I (HB.o.trans (HA.o.mono (O.o _ HB.o)));have c2:=c1 _ _ (h4.below (HA.o.mono (Nat.le_trans hB (O.o _ HB.o)))) (bz.o.below (H.o.mono hB)) (Nat.le_trans hB (O.o _ H.o));clear c1 h4 cb;cases hx:viaB R x with
   |false=>
    rw[hx] at c2;have E:=I (show Gj P R=false by rw[Gj,av hx];rfl);clear hx aw av
    go_wp2_with (go_at_call 104;refine Aj c2 ?_;rintro w1 Z;clear c2;have H1:=I (H.o.trans (Z.mono (O.o _ H.o)));clear Z)
    go_ret;exact⟨by rw[E.o];rfl,H1.o⟩
   |true=>
    rw[hx] at c2;have E:=I (aw.trans hx);clear hx aw av
    go_wp2_with (first
     |(go_at_call 104;refine Aj c2 ?_;rintro w1 Z;clear c2;have H1:=I (H.o.trans (Z.mono (O.o _ H.o)));have bx:=I (HK.o.below Z);have cq:=I ((HO.o.below HA.o).below Z);clear Z HO HK;have k0:=bx.o.cell 0;have k1:=bx.o.cell 1;simp only[List.getElem?_toArray,List.getElem?_cons_zero,List.getElem?_cons_succ] at k0 k1)
     |(at_builtin;refine Ww rfl (.tmp 18) (.tmp 24) rfl N _ F rfl cq.o (x.f,x.t) rfl (by have:=ck.o;omega) (O.o _ H1.o) ?_;intro v2 w2 ca bB;have cd:=I ca;have H2:=I (H1.o.trans bB);clear ca bB))
    go_roundw
    case rel=>exact⟨i+1,by omega,by go_num,E.o,by rw[cf.o];exact cd.o,H2.o⟩
    case measure=>simp [intOf];omega
  ·have e1:¬(i:Int)<(n:Int):=by omega
   have bs:P.length<=i:=by have:=EN.o;omega
   have E:=I (show Gj P R=CZ (El P) R by
    rw[Gj,Dw bs HN.o];rfl)
   rw[List.take_of_length_le bs] at HO;obtain⟨A3,c3,rfl,q1,q2⟩:=HO.o.slice;rw[Bz,<-EN.o] at q1;have c1:=C2.o A3 c3 wr q1 q2 ((bz.o.below (HB.o.mono hB)).more (Nat.le_trans hB (O.o _ HB.o))) Ag;have cn:(El P).length=n:=by rw[Bz,<-EN.o]
   rw[cn];clear q1 q2 bs
   go_wp2_with (go_at_call 67;refine Aj c1 ?_;rintro w1 Z;clear c1;replace HB:=I (HB.o.trans (Z.mono (O.o _ HB.o)));clear Z)
   go_ret;exact⟨by rw[E.o];rfl,HB.o⟩
structure Sm (T:Tp):Prop where
 r:T.R.length<=3000
 k:T.K.length<=3000
 p:T.P.length<=3000
 rt:∀x∈T.R,x.length<=3000
 v:∀q∈T.P,q.v.length<=3000
 vt:∀q∈T.P,∀x∈q.v,x.length<=3000
theorem ist_a {T:Tp} (h:¬1<=T.R.length):isT T=false:=by rw[isT,decide_eq_false h];rfl
theorem ist_b {T:Tp} (h:¬T.R.length<=6):isT T=false:=by rw[isT,decide_eq_false h];simp
theorem cv {T:Tp} (h:¬T.K.length<=20):isT T=false:=by rw[isT,decide_eq_false h];simp
theorem cC {T:Tp} (h:¬T.P.length<=8):isT T=false:=by rw[isT,decide_eq_false h];simp
theorem ist_e {T:Tp} (h:By T.R=false):isT T=false:=by rw[isT,h];simp
theorem ZC {T:Tp} (h:CZ T.K T.R=false):isT T=false:=by rw[isT,h];simp
theorem ist_g {T:Tp} (h1:1<=T.R.length) (Z:T.R.length<=6) (h3:T.K.length<=20) (h4:T.P.length<=8) (O:By T.R=true) (M:CZ T.K T.R=true):isT T=Gj T.P T.R:=by
 rw[isT,decide_eq_true h1,decide_eq_true Z,decide_eq_true h3,decide_eq_true h4,O,M];rfl
theorem Th (T:Tp) (v:Value) (B:Nat) (w:World) (hs:Sm T) (hv:TpV w B v T) (hB:B<=w.heap.size) :
  Calls Tryz.prog 31 #[v] w fun e w'=>e=.returned (.bool (isT T))/\Below w.heap.size w w':=by
 obtain⟨v1,v2,v3,rfl,⟨A1,c1,rfl,bn,r1⟩,⟨A2,c2,rfl,bb,r2⟩,⟨A3,c3,rfl,bq,r3⟩⟩:=hv;have H:=I ((Below.refl w.heap.size w).alloc Ag (.cells #[.slice A1 T.R.length c1,.slice A2 T.K.length c2,.slice A3 T.P.length c3] 64));have M:=I (Blk.new w 64 #[.slice A1 T.R.length c1,.slice A2 T.K.length c2,.slice A3 T.P.length c3]);obtain⟨W,eW⟩:=Ak (w.alloc (.cells #[.slice A1 T.R.length c1,.slice A2 T.K.length c2,.slice A3 T.P.length c3] 64));rw[<-eW] at H M;have O:=H.o.mono hB;have C1:=I (QF T.R A1 c1 B W (by have:=hs.r;omega) bn (r1.below O) (fun i hi=>by have:=hs.rt _ (DQ hi);omega));have C2:=I (fun w1 (hk:Below B W w1) aw=>Mv T.K T.R A2 A1 c2 c1 B w1 (by have:=hs.k;omega) bb (by have:=hs.r;omega) ((r2.below O).below hk) ((r1.below O).below hk) aw);have C3:=I (fun w1 (hk:Below B W w1) aw=>Tf T.P T.R A3 A1 c3 c1 B w1 (by have:=hs.p;omega) (by have:=hs.r;omega) (fun q hq=>by have:=hs.v q hq;omega) ((r3.below O).below hk) ((r1.below O).below hk) aw);have av:=I (show B<=W.heap.size from Nat.le_trans hB H.o.size);clear O r1 r2 r3 hB bn bb bq;have A5:=I (@ist_a T);have B5:=I (@ist_b T);have C5:=I (@cv T);have D5:=I (@cC T);have E5:=I (@ist_e T);have F5:=I (@ZC T);have G5:=I (@ist_g T);have s1:=hs.r;have s2:=hs.k;have s3:=hs.p;obtain⟨n,en⟩:=Ak (T.R.length);obtain⟨m,em⟩:=Ak (T.K.length);obtain⟨k,ek⟩:=Ak (T.P.length);rw[<-en,<-em,<-ek] at eW M;rw[<-en] at C1 C2 C3 s1 A5 B5 G5;rw[<-em] at C2 s2 C5 G5;rw[<-ek] at C3 s3 D5 G5;rw[<-en,<-em,<-ek];clear en em ek hs;subst eW
 by_cases q1:1<=n
 ·have t1:decide ((n:Int)<1)=false:=by simp;omega
  by_cases q2:n<=6
  ·have t2:decide (6<(n:Int))=false:=by simp;omega
   by_cases q3:m<=20
   ·have t3:decide (20<(m:Int))=false:=by simp;omega
    by_cases q4:k<=8
    ·have t4:decide (8<(k:Int))=false:=by simp;omega
     cases q5:By T.R with
     |false=>
      have E:=I (E5.o q5);rw[q5] at C1;have c4:=C1.o;clear C1 C2 C3 q5;go_enter Tryz.func31,Tryz.ntmps31
      go_wp2_with (go_at_call 66;refine Aj c4 ?_;rintro w1 Z;clear c4;have H1:=I (H.o.trans (Z.below.mono H.o.size));clear Z)
      go_ret;exact⟨by rw[E.o];rfl,H1.o⟩
     |true=>
      rw[q5] at C1;have c4:=C1.o;cases q6:CZ T.K T.R with
      |false=>
       have E:=I (F5.o q6);rw[q6] at C2;clear C1 C3 q5 q6;go_enter Tryz.func31,Tryz.ntmps31
       go_wp2_with (first
        |(go_at_call 66;refine Aj c4 ?_;rintro w1 Z;clear c4;have H1:=I (H.o.trans (Z.below.mono H.o.size));replace M:=I (M.o.below Z.below);have k0:=M.o.cell 0;have k1:=M.o.cell 1;have k2:=M.o.cell 2;simp only[List.getElem?_toArray,List.getElem?_cons_zero,List.getElem?_cons_succ] at k0 k1 k2;have c5:=C2.o w1 (Z.below.mono av.o) (Nat.le_trans av.o Z.below.size);clear Z)
        |(go_at_call 67;refine Aj c5 ?_;rintro w2 O;clear c5;replace H1:=H1.t O;clear O))
       go_ret;exact⟨by rw[E.o];rfl,H1.o⟩
      |true=>
       have E:=I (G5.o q1 q2 q3 q4 q5 q6);rw[q6] at C2;clear C1 q5 q6;go_enter Tryz.func31,Tryz.ntmps31
       go_wp2_with (first
        |(go_at_call 66;refine Aj c4 ?_;rintro w1 Z;clear c4;have H1:=I (H.o.trans (Z.below.mono H.o.size));replace M:=I (M.o.below Z.below);have k0:=M.o.cell 0;have k1:=M.o.cell 1;have k2:=M.o.cell 2;simp only[List.getElem?_toArray,List.getElem?_cons_zero,List.getElem?_cons_succ] at k0 k1 k2;have c5:=C2.o w1 (Z.below.mono av.o) (Nat.le_trans av.o Z.below.size);have HH:=I Z.below;clear Z)
        |(go_at_call 67;refine Aj c5 ?_;rintro w2 O;clear c5 k0 k1 k2;replace H1:=H1.t O;replace M:=I (M.o.below O);have k0:=M.o.cell 0;have k1:=M.o.cell 1;have k2:=M.o.cell 2;simp only[List.getElem?_toArray,List.getElem?_cons_zero,List.getElem?_cons_succ] at k0 k1 k2;replace HH:=HH.t O;have c6:=C3.o w2 (HH.o.mono av.o) (Nat.le_trans av.o HH.o.size);clear O)
        |(go_at_call 68;refine Aj c6 ?_;rintro w3 O;clear c6;replace H1:=H1.t O;clear O))
       go_ret;exact⟨by rw[E.o];rfl,H1.o⟩
    ·have t4:decide (8<(k:Int))=true:=by simp;omega
     have E:=I (D5.o q4);go_enter Tryz.func31,Tryz.ntmps31
     go_wp2
     go_ret;exact⟨by rw[E.o];rfl,H.o⟩
   ·have t3:decide (20<(m:Int))=true:=by simp;omega
    have E:=I (C5.o q3);go_enter Tryz.func31,Tryz.ntmps31
    go_wp2
    go_ret;exact⟨by rw[E.o];rfl,H.o⟩
  ·have t2:decide (6<(n:Int))=true:=by simp;omega
   have E:=I (B5.o q2);go_enter Tryz.func31,Tryz.ntmps31
   go_wp2
   go_ret;exact⟨by rw[E.o];rfl,H.o⟩
 ·have t1:decide ((n:Int)<1)=true:=by simp;omega
  have E:=I (A5.o q1);go_enter Tryz.func31,Tryz.ntmps31
  go_wp2
  go_ret;exact⟨by rw[E.o];rfl,H.o⟩
theorem ZD {a b:L} {p:Pa} (O:p.f=a) (M:p.t=b):isP a b p=true:=by rw[isP,decide_eq_true O,decide_eq_true M];rfl
theorem ZE {a b:L} {p:Pa} (M:p.f≠a):isP a b p=false:=by rw[isP,decide_eq_false M];rfl
theorem ZF {a b:L} {p:Pa} (M:p.t≠b):isP a b p=false:=by rw[isP,decide_eq_false M];simp
theorem Ti {T:Tp} {a b:L} {i:Nat} (hi:i<T.P.length) (h:isP a b (al T.P i)=true) (M:∀k,k<i->isP a b (al T.P k)=false):laidB T a b=true/\vL T a b=(al T.P i).v:=by
 have e:=Zx hi h M;exact⟨by rw[laidB,e];exact decide_eq_true hi,by rw[vL,e]⟩
theorem Wx {T:Tp} {a b:L} (M:∀k,k<T.P.length->isP a b (al T.P k)=false):laidB T a b=false/\vL T a b = []:=by
 have e:=SZ M;refine⟨by rw[laidB,e];exact decide_eq_false (by omega),?_⟩;rw[vL,e,al];simp
theorem GD (T:Tp) (v:Value) (B:Nat) (a b:L) (w:World) (hs:Sm T) (hv:TpV w B v T) (hB:B<=w.heap.size) :
  Calls Tryz.prog 186 #[v,.string ⟨a.toArray⟩,.string ⟨b.toArray⟩] w fun e w'=>∃u,e=.returned (.tuple #[u,.bool (laidB T a b)])/\SlV w' B u (vL T a b)/\Below w.heap.size w w':=by
 obtain⟨v1,v2,v3,rfl,⟨A1,c1,rfl,bq,r1⟩,⟨A2,c2,rfl,bn,r2⟩,⟨A3,c3,rfl,bs,r3⟩⟩:=hv;obtain⟨N,eN⟩:=Ak (w.heap.size);have hb:=(Below.refl w.heap.size w).alloc Ag (.cells #[.slice A1 T.R.length c1,.slice A2 T.K.length c2,.slice A3 T.P.length c3] 64);have M:=I hb;clear hb;have HK:=I (Blk.new w 64 #[.slice A1 T.R.length c1,.slice A2 T.K.length c2,.slice A3 T.P.length c3]);have h3:=hs.p;obtain⟨n,en⟩:=Ak (T.P.length);rw[<-en] at h3 HK M;rw[<-eN] at M HK hB;have Z:=I eN;clear eN;have av:=I (show ∀w1:World,Below N w w1->N<=w1.heap.size from fun w1 h=>by have:=h.size;have:=Z.o;omega);have HR:=I r3;rw[<-en];have EN:=I en;clear r1 r2 r3 bq bn bs hs en;go_enter Tryz.func186,Tryz.ntmps186
 go_wp2
 obtain⟨W,eW⟩:=Ak (w.alloc (.cells #[.slice A1 T.R.length c1,.slice A2 T.K.length c2,.slice A3 n c3] 64));rw[<-eW] at M HK⊢;have bB:W.heap.size=N+1:=by rw[eW,Z.o];simp
 clear eW;have bz:=I (show ∀w1:World,Below W.heap.size W w1->W.heap.size<=w1.heap.size from fun w1 h=>h.size)
 go_loopw [13] (fun iv wr=>∃i:Nat,i<=n/\iv=.int .i64 (i:Int)/\(∀k,k<i->isP a b (al T.P k)=false)/\Below W.heap.size W wr) (fun iv _=>n - (intOf iv).toNat)
 case atStart=>exact⟨0,Nat.zero_le _,rfl,fun k h=>absurd h (Nat.not_lt_zero k),Below.refl _ _⟩
 case round=>
  obtain⟨i,hi,rfl,hn,hb⟩:=hrel;have HN:=I hn;clear hn;have aw:=I hb;clear hb;have HB:=I (M.o.trans (aw.o.mono (av.o _ M.o)))
  by_cases hlt:i<n
  ·have e1:(i:Int)<(n:Int):=by omega
   have e2:(0:Int)<=(i:Int):=by omega
   have O:i<T.P.length:=by rw[<-EN.o];exact hlt
   obtain⟨b1,o,rfl,_,h1,h2,u,h3,h4⟩:=Pw (HR.o.below (HB.o.mono hB)) O;obtain⟨x,ex⟩:=Ak (al T.P i);rw[<-ex] at h1 h2 h4;have EX:=I ex;clear ex;have bx:=h4;obtain⟨A5,c5,eu,_⟩:=bx;subst eu;obtain⟨k5,bb⟩:∃k,k=x.v.length:=⟨_,rfl⟩;rw[<-bb] at h3 h4;have H4:=I h4;clear h4 bb;have H:=I ((Below.refl wr.heap.size wr).alloc Ag (.cells #[.string ⟨x.f.toArray⟩,.string ⟨x.t.toArray⟩,.slice A5 k5 c5] 174));have H1:=I (aw.o.trans (H.o.mono aw.o.size));have H2:=I (M.o.trans (H1.o.mono (av.o _ M.o)))
   by_cases q1:x.f=a
   ·have t1:(x.f==a)=true:=by simpa using q1
    by_cases q2:x.t=b
    ·have t2:(x.t==b)=true:=by simpa using q2
     have E:=I (Ti (T:=T) (a:=a) (b:=b) O (by rw[<-EX.o];exact ZD q1 q2) HN.o);rw[<-EX.o] at E;clear q1 q2 O
     go_wp2_with fail
     go_ret2
     exact⟨_,by rw[E.o.1];rfl,by rw[E.o.2];exact H4.o.below (H.o.mono (Nat.le_trans hB (av.o _ HB.o))),by rw[<-Z.o];exact H2.o⟩
    ·have t2:(x.t==b)=false:=by simpa using q2
     have E:=I (ZF (a:=a) q2);rw[EX.o] at E;clear q1 q2 O
     go_wp2_with fail
     go_roundw
     case rel=>exact⟨i+1,by omega,by go_num,fun k hk=>by
      by_cases q:k=i
      ·rw[q];exact E.o
      ·exact HN.o k (by omega),H1.o⟩
     case measure=>simp [intOf];omega
   ·have t1:(x.f==a)=false:=by simpa using q1
    have E:=I (ZE (b:=b) q1);rw[EX.o] at E;clear q1 O
    go_wp2_with fail
    go_roundw
    case rel=>exact⟨i+1,by omega,by go_num,fun k hk=>by
     by_cases q:k=i
     ·rw[q];exact E.o
     ·exact HN.o k (by omega),H1.o⟩
    case measure=>simp [intOf];omega
  ·have e1:¬(i:Int)<(n:Int):=by omega
   have E:=I (Wx (T:=T) (a:=a) (b:=b) fun k hk=>HN.o k (by have:=EN.o;omega))
   go_wp2
   go_ret2
   exact⟨_,by rw[E.o.1];rfl,by rw[E.o.2];exact⟨none,0,rfl,Nat.le_refl _,.inl rfl⟩,by rw[<-Z.o];exact HB.o⟩
theorem GZ (n:Nat) (hn:n<=1000000) (w:World) :
  ∃cs:Array Value,cs.size=n/\(Instr.makeSlice 36 (.int .i64 0) (.int .i64 (n:Int))).run Tryz.prog w=.ok (.slice (some ⟨w.heap.size,0,none⟩) 0 n) (w.alloc (.cells cs 9)):=by
 obtain⟨i0,av,M,Z,O⟩:=info_parts IB;have h:=run_make (P:=Tryz.prog) w 36 9 i0 _ Tryz.underlying36 av M .i64 .i64 0 (n:Int) (by omega) (by omega) (by rw[O];omega) (by omega);refine⟨_,?_,h⟩;rw[Z,Int.toNat_natCast,Nat.mul_one,show(Value.string ⟨#[]⟩).cells=#[Value.string ⟨#[]⟩] from rfl];have e:=toList_madeCells_one (.string ⟨#[]⟩) n;have:=congrArg List.length e
 simpa using this
theorem Pz (w:World) (cs:Array Value) (n:Nat) (h:cs.size=n) (M:n<=1000000):Own (w.alloc (.cells cs 9)) w.heap.size (.slice (some ⟨w.heap.size,0,none⟩) 0 n) []:=
 World.ownsRow_made w cs n Ag (by unfold maxLen;omega) (by omega)
theorem cD {T:Tp} {a b:L} (h:laidB T a b=true):viaL T a b=vL T a b:=by rw[viaL,if_pos h]
theorem cE {T:Tp} {a b:L} (h:laidB T a b=false):viaL T a b=Bt a b:=by rw[viaL,if_neg (by simp [h])]
theorem cF {T:Tp} {a b:L} (h:laidB T a b=true):∃p∈T.P,vL T a b=p.v:=by
 rw[laidB,decide_eq_true_eq] at h;exact⟨_,Pv h,rfl⟩
theorem ZG (T:Tp) (v:Value) (B:Nat) (a b:L) (w:World) (hs:Sm T) (hv:TpV w B v T) (hB:B<=w.heap.size) (hx:laidB T a b=true) :
  Calls Tryz.prog 138 #[v,.string ⟨a.toArray⟩,.string ⟨b.toArray⟩] w fun e w'=>∃u,e=.returned u/\Own w' w.heap.size u (viaL T a b)/\Below w.heap.size w w':=by
 have cm:=hv;obtain⟨v1,v2,v3,rfl,⟨A1,c1,rfl,cj,r1⟩,⟨A2,c2,rfl,bB,r2⟩,⟨A3,c3,rfl,ck,r3⟩⟩:=cm;obtain⟨N,eN⟩:=Ak (w.heap.size);have O:=(Below.refl w.heap.size w).alloc Ag (.cells #[.slice A1 T.R.length c1,.slice A2 T.K.length c2,.slice A3 T.P.length c3] 64);have c1:=GD T _ B a b _ hs (hv.below (O.mono hB)) (Nat.le_trans hB O.size);rw[hx] at c1;have Z:=I O;clear O;rw[cD hx];obtain⟨q,hq,e⟩:=cF hx;have h1:=hs.v q hq;have h2:=hs.vt q hq;rw[<-e] at h1 h2;obtain⟨V,eV⟩:=Ak (vL T a b);rw[<-eV] at c1 h1 h2⊢;have CL:=I (fun(i:Nat) (h:i<V.length) w1=>BZ (pl V i) w1 (by have:=h2 _ (DQ h);omega));obtain⟨n,en⟩:=Ak (V.length);rw[<-en] at h1;have EN:=I en;rw[<-eN] at Z hB⊢;have cn:=I eN;clear eN;have M:=I (show ∀w1:World,Below N w w1->N<=w1.heap.size from fun w1 h=>by have:=h.size;have:=cn.o;omega);have MK:=I (fun w1=>GZ n (by omega) w1);clear r1 r2 r3 cj bB ck hs hx hq e eV h2 hv;go_enter Tryz.func138,Tryz.ntmps138
 go_wp2_with (go_at_call 186;refine Calls.mono c1 ?_;rintro e w1 ⟨u,rfl,⟨A5,c5,rfl,_,r5⟩,O⟩;clear c1;replace Z:=I (Z.o.trans (O.mono (M.o _ Z.o)));clear O;have HR:=I (r5.more hB);clear r5;rw[<-en];clear en;obtain⟨cs,cp,cq⟩:=MK.o w1)
 have HO:=I ((Pz w1 cs n cp (by omega)).from_ (M.o _ Z.o));replace HR:=I (HR.o.alloc (M.o _ Z.o) (.cells cs 9));replace Z:=I (Z.o.alloc (M.o _ Z.o) (.cells cs 9))
 go_loopw [9,29] (fun ev iv wr=>∃i:Nat,i<=n/\iv=.int .i64 (i:Int)/\Own wr N ev (V.take i)/\Rd wr N A5 (strs V)/\Below N w wr) (fun _ iv _=>n - (intOf iv).toNat)
 case atStart=>exact⟨0,Nat.zero_le _,rfl,HO.o,HR.o,Z.o⟩
 case round=>
  obtain⟨i,hi,rfl,ho,hr,bq⟩:=hrel;have HO:=I ho;clear ho;have bs:=I hr;clear hr;have av:=I bq;clear bq
  by_cases hlt:i<n
  ·have e1:(i:Int)<(n:Int):=by omega
   have e2:(0:Int)<=(i:Int):=by omega
   have bb:i<V.length:=by rw[<-EN.o];exact hlt
   have c2:=CL.o i bb;have bz:=BN bb;have HL:=I (show(V.take i).length=i by simp;omega);have cg:=I bz;clear bz bb;obtain⟨bx,o,rfl,_,h1⟩:=CU bs.o (i:=i) (by rw[<-EN.o];exact hlt)
   go_wp2_with (first
    |(go_at_call 63;refine Aj (c2 _) ?_;rintro w3 O;clear c2;have H3:=I (av.o.trans (O.mono (M.o _ av.o)));have cd:=I (HO.o.below O);have cc:=I (bs.o.below (O.mono (M.o _ av.o)));clear O)
    |(at_builtin;refine Hs rfl (.tmp 33) (.tmp 36) rfl N _ (V.take i) rfl cd.o (pl V i) rfl (by have:=HL.o;omega) (M.o _ H3.o) ?_;intro v4 w4 bn aw;rw[<-cg.o] at bn;have cb:=I bn;have H4:=I (H3.o.trans aw);have cf:=I (cc.o.below aw);clear bn aw))
   go_roundw
   case rel=>exact⟨i+1,by omega,by go_num,cb.o,cf.o,H4.o⟩
   case measure=>simp [intOf];omega
  ·have e1:¬(i:Int)<(n:Int):=by omega
   have ca:V.length<=i:=by have:=EN.o;omega
   rw[List.take_of_length_le ca] at HO
   go_wp2
   go_ret;exact⟨_,rfl,HO.o,av.o⟩
theorem Wy (T:Tp) (v:Value) (B:Nat) (a b:L) (w:World) (hs:Sm T) (hv:TpV w B v T) (hB:B<=w.heap.size) (Z:laidB T a b=false) (ha:a.length<=1000000000) (M:b.length<=1000000000) :
  Calls Tryz.prog 138 #[v,.string ⟨a.toArray⟩,.string ⟨b.toArray⟩] w fun e w'=>∃u,e=.returned u/\Own w' w.heap.size u (viaL T a b)/\Below w.heap.size w w':=by
 have bb:=hv;obtain⟨v1,v2,v3,rfl,⟨A1,c1,rfl,av,r1⟩,⟨A2,c2,rfl,bn,r2⟩,⟨A3,c3,rfl,aw,r3⟩⟩:=bb;have C2:=I (fun w1=>Gp a b w1 ha M);have M:=(Below.refl w.heap.size w).alloc Ag (.cells #[.slice A1 T.R.length c1,.slice A2 T.K.length c2,.slice A3 T.P.length c3] 64);have c1:=GD T _ B a b _ hs (hv.below (M.mono hB)) (Nat.le_trans hB M.size);rw[Z] at c1;have O:=I M;clear M;rw[cE Z];clear r1 r2 r3 av bn aw hs Z hv;go_enter Tryz.func138,Tryz.ntmps138
 go_wp2_with (first
  |(go_at_call 186;refine Calls.mono c1 ?_;rintro e w1 ⟨u,rfl,⟨A5,c5,rfl,_,r5⟩,M⟩;clear c1;replace O:=O.t M;clear M r5)
  |(go_at_call 136;refine Calls.mono (C2.o w1) ?_;rintro e w2 ⟨u2,rfl,ho,M⟩;have HO:=I (ho.from_ O.o.size);replace O:=O.t M;clear M ho))
 go_ret;exact⟨_,rfl,HO.o,O.o⟩
theorem Wz (T:Tp) (v:Value) (B:Nat) (a b:L) (w:World) (hs:Sm T) (M:TpV w B v T) (hB:B<=w.heap.size) (O:a.length<=1000000000) (Z:b.length<=1000000000) :
  Calls Tryz.prog 138 #[v,.string ⟨a.toArray⟩,.string ⟨b.toArray⟩] w fun e w'=>∃u,e=.returned u/\Own w' w.heap.size u (viaL T a b)/\Below w.heap.size w w':=by
 cases hx:laidB T a b with
 |true=>exact ZG T v B a b w hs M hB hx
 |false=>exact Wy T v B a b w hs M hB hx O Z
section
variable {T:Tp} {a b x:L} {g:Nat} {l:List L}
end
theorem Jq (T:Tp) (v:Value) (B:Nat) (a b:L) (ls:List L) (A:Option Addr) (c B2:Nat) (w:World) (hs:Sm T) (hv:TpV w B v T) (hB:B<=w.heap.size) (ha:a.length<=1000000) (hb:b.length<=1000000) (hl:ls.length<=1000000) (hr:Rd w B2 A (strs ls)) (aw:B2<=w.heap.size) :
  Calls Tryz.prog 92 #[v,.string ⟨a.toArray⟩,.string ⟨b.toArray⟩,.slice A ls.length c] w fun e w'=>e=.returned (.bool (GY T a b ls))/\Below w.heap.size w w':=by
 have ca:=hv;obtain⟨v1,v2,v3,rfl,⟨A1,d1,rfl,bz,r1⟩,⟨A2,d2,rfl,bq,r2⟩,⟨A3,d3,rfl,bB,r3⟩⟩:=ca;have av:=(Below.refl w.heap.size w).alloc Ag (.cells #[.slice A1 T.R.length d1,.slice A2 T.K.length d2,.slice A3 T.P.length d3] 64);have c1:=Wz T _ B a b _ hs (hv.below (av.mono hB)) (Nat.le_trans hB av.size) (by omega) (by omega);have HL:=I (Zy (T:=T) (a:=a) (b:=b) fun p hp=>hs.v p hp);have HB:=I av;clear av;have HR:=I hr;have bn:=I aw;have EA:=I (show GY T a b ls=ls.all fun r=>decide (r∈viaL T a b) from rfl);obtain⟨V,eV⟩:=Ak (viaL T a b);rw[<-eV] at c1 HL EA;rw[EA.o];clear EA;have cb:=I (fun i (h:i<ls.length)=>all_false (p:=fun r=>decide (r∈V)) h);have bs:=I (fun i (h:i<ls.length)=>all_succ (p:=fun r=>decide (r∈V)) h);have cc:=I (fun i=>Dw (l:=ls) (p:=fun r=>decide (r∈V)) (i:=i));obtain⟨n,en⟩:=Ak (ls.length);rw[<-en] at hl⊢;have EN:=I en;clear r1 r2 r3 bz bq bB hs hv ha hb hB aw hr eV en;go_enter Tryz.func92,Tryz.ntmps92
 go_wp2_with (go_at_call 138;refine Calls.mono c1 ?_;rintro e w1 ⟨u,rfl,ho,hb⟩;clear c1;obtain⟨A5,d5,rfl,bb⟩:=ho.slice;have bx:=I bb;replace HR:=I (HR.o.below ((HB.o.trans (hb.mono HB.o.size)).mono bn.o));replace HB:=HB.t hb;clear ho bb hb)
 obtain⟨m,em⟩:=Ak (V.length);have C2:=I (fun y=>Tr.Cb V A5 d5 w1.heap.size y w1 (by have:=HL.o;omega) bx.o);rw[<-em] at C2⊢;clear em
 go_loop [18] (fun iv=>∃i:Nat,i<=n/\iv=.int .i64 (i:Int)/\((ls.take i).all fun r=>decide (r∈V))=true) (fun iv=>n - (intOf iv).toNat)
 case atStart=>exact⟨0,Nat.zero_le _,rfl,by simp⟩
 case round=>
  obtain⟨i,hi,rfl,hn⟩:=hrel;have HN:=I hn;clear hn
  by_cases hlt:i<n
  ·have e1:(i:Int)<(n:Int):=by omega
   have e2:(0:Int)<=(i:Int):=by omega
   have O:i<ls.length:=by rw[<-EN.o];exact hlt
   have Z:=bs.o i O;have M:=cb.o i O;rw[HN.o,Bool.true_and,<-CO O] at Z;rw[<-CO O] at M;obtain⟨b1,o,rfl,_,h1⟩:=CU HR.o O;obtain⟨y,ey⟩:=Ak (pl ls i);rw[<-ey] at Z M h1;clear ey O;have c2:=C2.o y
   by_cases hx:y∈V
   ·rw[decide_eq_true hx] at c2 Z
    have E:=I Z;clear hx Z M
    go_wp2_with (go_at_call 32;refine Aj c2 ?_;rintro w4 rfl;clear c2)
    go_round
    case rel=>exact⟨i+1,by omega,by go_num,E.o⟩
    case measure=>simp [intOf];omega
   ·rw[decide_eq_false hx] at c2 M
    have E:=I (M rfl);clear hx Z M
    go_wp2_with (go_at_call 32;refine Aj c2 ?_;rintro w4 rfl;clear c2)
    go_ret;exact⟨by rw[E.o];rfl,HB.o⟩
  ·have e1:¬(i:Int)<(n:Int):=by omega
   have E:=I (cc.o i (by have:=EN.o;omega) HN.o)
   go_wp2
   go_ret;exact⟨by rw[E.o];rfl,HB.o⟩
end Rt
end Go.Proofs.YtiecjolmennkfaaGreat
