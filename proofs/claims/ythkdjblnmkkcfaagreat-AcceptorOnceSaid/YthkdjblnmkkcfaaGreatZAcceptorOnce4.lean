import Derived.Test.YthkdjblnmkkcfaaGreatZAcceptorOnce2
import Derived.Test.YthkdjblnmkkcfaaGreatZAcceptorOnce3
set_option maxHeartbeats 25600000
set_option maxRecDepth 100000
set_option linter.unusedVariables false
set_option linter.unusedSimpArgs false
namespace Go.Proofs.YthkdjblnmkkcfaaGreat
namespace Ms
open DerP
open Nm (Ct isL tgL Cm Cs AR)
abbrev Pr:=L×L
structure Tk where
 s:Pr
 k:Int
 b:L
deriving DecidableEq
structure Pt where
 c:Pr
 ss:L
 tr:L
 st:Int
 en:Int
deriving DecidableEq
structure An where
 c:Pr
 t:Int
 q:Int
deriving DecidableEq
structure Rp where
 ss:L
 s:Pr
 st:Int
 en:Int
 no:Int
deriving DecidableEq
structure As where
 c:Pr
 s:Pr
 t:Int
 no:Int
deriving DecidableEq
structure Tg where
 t:Tk
 a:L
 s:Pr
 u:Int
 no:Int
deriving DecidableEq
structure Re where
 c:Pr
 t:Tk
 b:L
deriving DecidableEq
structure Ap where
 t:Tk
 a:L
deriving DecidableEq
structure Fa where
 e:Int
 no:Int
deriving DecidableEq
structure Mg where
 k:Int
 aq:As
 tg:Tg
 re:Re
 ap:Ap
 fa:Fa
deriving DecidableEq
def pr0:Pr:=([],[])
def tk0:Tk:=⟨pr0,0,[]⟩
def as0:As:=⟨pr0,pr0,0,0⟩
def tg0:Tg:=⟨tk0,[],pr0,0,0⟩
def re0:Re:=⟨pr0,tk0,[]⟩
def ap0:Ap:=⟨tk0,[]⟩
def fa0:Fa:=⟨0,0⟩
def mg0:Mg:=⟨0,as0,tg0,re0,ap0,fa0⟩
def key0:L:=List.replicate 32 0
def pt0:Pt:=⟨pr0,key0,[],0,0⟩
def an0:An:=⟨pr0,0,0⟩
def inB (n a b:Int):Bool:=decide (a<=n)&&decide (n<=b)
def BP (b:L):Bool:=decide (1<=b.length)&&decide (b.length<=800)
def prB (p:Pr):Bool:=Ct p.1 p.2
def tmB (n:Int):Bool:=inB n 0 1073741824
def tkB (t:Tk):Bool:=prB t.s&&(inB t.k 1 255&&BP t.b)
def txtB (l:L):Bool:=l.all fun x=>decide (32<=x.toNat)&&decide (x.toNat<=126)
def ptB (p:Pt):Bool:=txtB p.tr&&(prB p.c&&(decide (p.tr.length<=300)&&(tmB p.st&&tmB p.en)))
def anB (a:An):Bool:=prB a.c&&(tmB a.t&&tmB a.q)
def asB (q:As):Bool:=prB q.c&&(prB q.s&&(tmB q.t&&tmB q.no))
def tgB (q:Tg):Bool:=tkB q.t&&(BP q.a&&(prB q.s&&(tmB q.u&&tmB q.no)))
def reB (q:Re):Bool:=prB q.c&&(tkB q.t&&BP q.b)
def apB (q:Ap):Bool:=tkB q.t&&BP q.a
def faB (q:Fa):Bool:=inB q.e 1 255&&tmB q.no
def mgB (m:Mg):Bool:=
 if m.k=1 then asB m.aq&&decide (m=⟨1,m.aq,tg0,re0,ap0,fa0⟩)
 else if m.k=2 then tgB m.tg&&decide (m=⟨2,as0,m.tg,re0,ap0,fa0⟩)
 else if m.k=3 then reB m.re&&decide (m=⟨3,as0,tg0,m.re,ap0,fa0⟩)
 else if m.k=4 then apB m.ap&&decide (m=⟨4,as0,tg0,re0,m.ap,fa0⟩)
 else if m.k=5 then faB m.fa&&decide (m=⟨5,as0,tg0,re0,ap0,m.fa⟩)
 else false
def prE (p:Pr):L:=elem 48 [elem 27 p.1,elem 27 p.2].flatten
def tkE (t:Tk):L:=elem 97 [prE t.s,encI t.k,elem 4 t.b].flatten
def ptE (p:Pt):L:=elem 99 [prE p.c,elem 4 p.ss,elem 27 p.tr,encI p.st,encI p.en].flatten
def anE (a:An):L:=elem 98 [prE a.c,encI a.t,encI a.q].flatten
def asE (q:As):L:=elem 106 [prE q.c,prE q.s,encI q.t,encI q.no].flatten
def tgE (q:Tg):L:=elem 108 [tkE q.t,elem 4 q.a,prE q.s,encI q.u,encI q.no].flatten
def reE (q:Re):L:=elem 107 [prE q.c,tkE q.t,elem 4 q.b].flatten
def apE (q:Ap):L:=elem 110 [tkE q.t,elem 4 q.a].flatten
def faE (q:Fa):L:=elem 126 [encI q.e,encI q.no].flatten
def mgE (m:Mg):L:=if m.k=1 then asE m.aq else if m.k=2 then tgE m.tg else if m.k=3 then reE m.re else if m.k=4 then apE m.ap else faE m.fa
def limO (ok:Bool) (l:L):Option L:=if ok=true/\l.length<=2000 then some l else none
def mgO (m:Mg):Option L:=limO (mgB m) (mgE m)
def ptO (p:Pt):Option L:=limO (ptB p) (ptE p)
def anO (a:An):Option L:=limO (anB a) (anE a)
def whC (c:Option L):Bool:=decide (c=some [])
def txC (c:Option L):L:=(AN 27 c).getD []
def ocC (c:Option L):L:=(AN 4 c).getD []
def prI (d:Option L):Pr:=(txC d,txC (Bc 27 d))
def prP (c:Option L):Pr×Option L:=(prI (AN 48 c),if whC (Bc 27 (Bc 27 (AN 48 c))) then Bc 48 c else none)
def nmP (c:Option L):Int×Option L:=(((intC c).1:Int),(intC c).2)
def tkS (d:Option L):Option L:=(nmP (prP d).2).2
def tkI (d:Option L):Tk:=⟨(prP d).1,(nmP (prP d).2).1,ocC (tkS d)⟩
def tkP (c:Option L):Tk×Option L:=(tkI (AN 97 c),if whC (Bc 4 (tkS (AN 97 c))) then Bc 97 c else none)
def keP (c:Option L):L×Option L:=if (ocC c).length=32 then (ocC c,Bc 4 c) else (key0,none)
def ptP (b:L):Pt×Option L:=
 let c1:=prP (AN 99 (some b));let c2:=keP c1.2;let c3:=Bc 27 c2.2;let c4:=nmP c3;let c5:=nmP c4.2
 (⟨c1.1,c2.1,txC c2.2,c4.1,c5.1⟩,c5.2)
def anP (b:L):An×Option L:=
 let c1:=prP (AN 98 (some b));let c2:=nmP c1.2;let c3:=nmP c2.2
 (⟨c1.1,c2.1,c3.1⟩,c3.2)
def asP (c:Option L):As×Option L:=
 let c1:=prP c;let c2:=prP c1.2;let c3:=nmP c2.2;let c4:=nmP c3.2
 (⟨c1.1,c2.1,c3.1,c4.1⟩,c4.2)
def tgP (c:Option L):Tg×Option L:=
 let c1:=tkP c;let c2:=Bc 4 c1.2;let c3:=prP c2;let c4:=nmP c3.2;let c5:=nmP c4.2
 (⟨c1.1,ocC c1.2,c3.1,c4.1,c5.1⟩,c5.2)
def reP (c:Option L):Re×Option L:=
 let c1:=prP c;let c2:=tkP c1.2
 (⟨c1.1,c2.1,ocC c2.2⟩,Bc 4 c2.2)
def apP (c:Option L):Ap×Option L:=
 let c1:=tkP c
 (⟨c1.1,ocC c1.2⟩,Bc 4 c1.2)
def faP (c:Option L):Fa×Option L:=
 let c1:=nmP c;let c2:=nmP c1.2
 (⟨c1.1,c2.1⟩,c2.2)
def mgP (b:L):Mg:=
 match b with
 | []=>mg0
 |t :: _=>
  if t=106 then ⟨1,(asP (AN 106 (some b))).1,tg0,re0,ap0,fa0⟩
  else if t=108 then ⟨2,as0,(tgP (AN 108 (some b))).1,re0,ap0,fa0⟩
  else if t=107 then ⟨3,as0,tg0,(reP (AN 107 (some b))).1,ap0,fa0⟩
  else if t=110 then ⟨4,as0,tg0,re0,(apP (AN 110 (some b))).1,fa0⟩
  else if t=126 then ⟨5,as0,tg0,re0,ap0,(faP (AN 126 (some b))).1⟩
  else mg0
def mgD (b:L):Option Mg:=if mgO (mgP b)=some b then some (mgP b) else none
def ptD (b:L):Option Pt:=if ptO (ptP b).1=some b then some (ptP b).1 else none
def anD (b:L):Option An:=if anO (anP b).1=some b then some (anP b).1 else none
theorem AE (t:UInt8) (p:L):(elem t p).length<=p.length+4:=by
 rw[Ex,Hs];split
 ·omega
 ·split<;>omega
theorem AK (n:Int):(encI n).length<=12:=by
 have:=AE 2 (dig (Cl n));have:=KX n;rw[encI];omega
theorem Wi {n:L} (h:(tgL n||Cm Cs n)=true):n.length<=43:=by
 rw[Bool.or_eq_true] at h;rcases h with h | h
 ·rw[Nm.tgL,Bool.and_eq_true] at h
  have Z:AR (Nm.cpL Nm.krb n)≠0:=by have:=h.2;simp only[isL,decide_eq_true_eq] at this;omega
  have M:=Tr.FP Z;have O:Nm.cpL Nm.krb n=n.drop 7:=by rw[Nm.cpL,h.1];rfl
  rw[O,List.length_drop] at M;omega
 ·have:=(Nm.Fu _ _).1 h
  omega
theorem GR {p:Pr} (h:prB p=true):p.1.length<=36/\p.2.length<=43:=by
 rw[prB,Ct,Bool.and_eq_true] at h;refine⟨Tr.FP ?_,Wi h.2⟩;have:=h.1;simp only[isL,decide_eq_true_eq] at this;omega
theorem Dj (a b:L):[a,b].flatten=a++b:=by simp
theorem DN (a b c:L):[a,b,c].flatten=a++(b++c):=by simp
theorem QB (a b c d:L):[a,b,c,d].flatten=a++(b++(c++d)):=by simp
theorem Gr (a b c d e:L):[a,b,c,d,e].flatten=a++(b++(c++(d++e))):=by simp
theorem AX {p:Pr} (h:prB p=true):(prE p).length<=91/\[elem 27 p.1,elem 27 p.2].flatten.length<=87:=by
 have h1:=GR h;have M:=AE 27 p.1;have O:=AE 27 p.2;have h4:=AE 48 [elem 27 p.1,elem 27 p.2].flatten;have Z:[elem 27 p.1,elem 27 p.2].flatten.length=(elem 27 p.1).length+(elem 27 p.2).length:=by simp
 rw[prE];omega
theorem GS {t:Tk} (h:tkB t=true):prB t.s=true/\(1<=t.k/\t.k<=255)/\(1<=t.b.length/\t.b.length<=800):=by
 simpa [tkB,inB,BP] using h
theorem Cp {t:Tk} (h:tkB t=true):(tkE t).length<=911/\[prE t.s,encI t.k,elem 4 t.b].flatten.length<=907:=by
 obtain⟨M,_,O⟩:=GS h;have Z:=(AX M).1;have h4:=AK t.k;have h5:=AE 4 t.b;have h6:=AE 97 [prE t.s,encI t.k,elem 4 t.b].flatten;have h7:[prE t.s,encI t.k,elem 4 t.b].flatten.length=(prE t.s).length+((encI t.k).length+(elem 4 t.b).length):=by simp
 rw[tkE];omega
section
variable {t:UInt8} {p r:L}
theorem be (h:p.length<=65535) (r:L):AN t (some (elem t p++r))=some p:=(GF (Eh t p r h)).1
theorem ne (h:p.length<=65535) (r:L):Bc t (some (elem t p++r))=some r:=(GF (Eh t p r h)).2
theorem be0 (h:p.length<=65535):AN t (some (elem t p))=some p:=by have:=be (t:=t) h [];rwa [List.append_nil] at this
theorem ne0 (h:p.length<=65535):Bc t (some (elem t p))=some []:=by have:=ne (t:=t) h [];rwa [List.append_nil] at this
theorem Wj (h:p.length<=65535) (r:L):txC (some (elem 27 p++r))=p:=by rw[txC,be h];rfl
theorem XW (h:p.length<=65535):txC (some (elem 27 p))=p:=by rw[txC,be0 h];rfl
theorem Wk (h:p.length<=65535) (r:L):ocC (some (elem 4 p++r))=p:=by rw[ocC,be h];rfl
theorem Kn (h:p.length<=65535):ocC (some (elem 4 p))=p:=by rw[ocC,be0 h];rfl
end
theorem Dk {n:Int} (M:0<=n) (O:n<=4611686018427387904) (r:L):nmP (some (encI n++r))=(n,some r):=by
 rw[nmP,YV,RY n M O]
 congr 1
 omega
theorem Du {n:Int} (M:0<=n) (O:n<=4611686018427387904):nmP (some (encI n))=(n,some []):=by
 have:=Dk M O [];rwa [List.append_nil] at this
theorem Gs {p:Pr} (h:prB p=true) (r:L):prP (some (prE p++r))=(p,some r):=by
 have O:=GR h;have M:=(AX h).2;rw[prP,prE,be (by omega),ne (by omega),Dj,prI,Wj (by omega),ne (by omega),XW (by omega),ne0 (by omega)]
 rfl
theorem Oc {t:Tk} (h:tkB t=true) (r:L):tkP (some (tkE t++r))=(t,some r):=by
 obtain⟨M,O,Z⟩:=GS h;have h4:=(Cp h).2;rw[tkP,tkE,be (by omega),ne (by omega),DN,tkI,tkS,Gs M,Dk (by omega) (by omega),Kn (by omega),ne0 (by omega)]
 rfl
theorem Zg {k:L} (h:k.length=32) (r:L):keP (some (elem 4 k++r))=(k,some r):=by
 rw[keP,Wk (by omega),if_pos h,ne (by omega)]
theorem Be {n:Int} (h:tmB n=true):0<=n/\n<=1073741824:=by simpa [tmB,inB] using h
theorem Dv {p:Pt} (h:ptB p=true):txtB p.tr=true/\prB p.c=true/\p.tr.length<=300/\tmB p.st=true/\tmB p.en=true:=by
 simpa [ptB] using h
theorem Od {p:Pt} (h:ptB p=true) (hk:p.ss.length=32):ptP (ptE p)=(p,some []):=by
 obtain⟨_,M,h3,h4,O⟩:=Dv h;have t4:=Be h4;have t5:=Be O;have l1:=(AX M).1;have l2:=AE 4 p.ss;have l3:=AE 27 p.tr;have l4:=AK p.st;have l5:=AK p.en;have Z:[prE p.c,elem 4 p.ss,elem 27 p.tr,encI p.st,encI p.en].flatten.length<=65535:=by simp only[List.flatten_cons,List.flatten_nil,List.length_append,List.length_nil];omega
 rw[ptP,ptE,be0 Z,Gr,Gs M];simp only;rw[Zg hk];simp only;rw[Wj (by omega),ne (by omega),Dk (by omega) (by omega)];simp only;rw[Du (by omega) (by omega)]
theorem SM {a:An} (h:anB a=true):anP (anE a)=(a,some []):=by
 have O:prB a.c=true/\tmB a.t=true/\tmB a.q=true:=by simpa [anB] using h
 obtain⟨M,h4,Z⟩:=O;have t4:=Be h4;have t5:=Be Z;have l1:=(AX M).1;have l4:=AK a.t;have l5:=AK a.q;have l6:[prE a.c,encI a.t,encI a.q].flatten.length<=65535:=by simp only[List.flatten_cons,List.flatten_nil,List.length_append,List.length_nil];omega
 rw[anP,anE,be0 l6,DN,Gs M];simp only;rw[Dk (by omega) (by omega)];simp only;rw[Du (by omega) (by omega)]
theorem Zh {q:As} (h:asB q=true):AN 106 (some (asE q))=some [prE q.c,prE q.s,encI q.t,encI q.no].flatten/\asP (some [prE q.c,prE q.s,encI q.t,encI q.no].flatten)=(q,some []):=by
 have Z:prB q.c=true/\prB q.s=true/\tmB q.t=true/\tmB q.no=true:=by simpa [asB] using h
 obtain⟨M,O,h4,h5⟩:=Z;have t4:=Be h4;have t5:=Be h5;have l1:=(AX M).1;have l2:=(AX O).1;have l4:=AK q.t;have l5:=AK q.no;have l7:[prE q.c,prE q.s,encI q.t,encI q.no].flatten.length<=65535:=by simp only[List.flatten_cons,List.flatten_nil,List.length_append,List.length_nil];omega
 refine⟨by rw[asE,be0 l7],?_⟩;rw[QB,asP,Gs M];simp only;rw[Gs O];simp only;rw[Dk (by omega) (by omega)];simp only;rw[Du (by omega) (by omega)]
theorem Bl {b:L} (h:BP b=true):1<=b.length/\b.length<=800:=by simpa [BP] using h
theorem Zi {q:Tg} (h:tgB q=true):AN 108 (some (tgE q))=some [tkE q.t,elem 4 q.a,prE q.s,encI q.u,encI q.no].flatten/\tgP (some [tkE q.t,elem 4 q.a,prE q.s,encI q.u,encI q.no].flatten)=(q,some []):=by
 have Z:tkB q.t=true/\BP q.a=true/\prB q.s=true/\tmB q.u=true/\tmB q.no=true:=by simpa [tgB] using h
 obtain⟨M,h3,O,h4,h5⟩:=Z;have t4:=Be h4;have t5:=Be h5;have b3:=Bl h3;have l1:=(Cp M).1;have l2:=AE 4 q.a;have l3:=(AX O).1;have l4:=AK q.u;have l5:=AK q.no;have l7:[tkE q.t,elem 4 q.a,prE q.s,encI q.u,encI q.no].flatten.length<=65535:=by simp only[List.flatten_cons,List.flatten_nil,List.length_append,List.length_nil];omega
 refine⟨by rw[tgE,be0 l7],?_⟩;rw[Gr,tgP,Oc M];simp only;rw[Wk (by omega),ne (by omega),Gs O];simp only;rw[Dk (by omega) (by omega)];simp only;rw[Du (by omega) (by omega)]
theorem Zj {q:Re} (h:reB q=true):AN 107 (some (reE q))=some [prE q.c,tkE q.t,elem 4 q.b].flatten/\reP (some [prE q.c,tkE q.t,elem 4 q.b].flatten)=(q,some []):=by
 have Z:prB q.c=true/\tkB q.t=true/\BP q.b=true:=by simpa [reB] using h
 obtain⟨M,O,h4⟩:=Z;have b3:=Bl h4;have l1:=(AX M).1;have l2:=(Cp O).1;have l3:=AE 4 q.b;have l7:[prE q.c,tkE q.t,elem 4 q.b].flatten.length<=65535:=by simp only[List.flatten_cons,List.flatten_nil,List.length_append,List.length_nil];omega
 refine⟨by rw[reE,be0 l7],?_⟩;rw[DN,reP,Gs M];simp only;rw[Oc O];simp only;rw[Kn (by omega),ne0 (by omega)]
theorem Zk {q:Ap} (h:apB q=true):AN 110 (some (apE q))=some [tkE q.t,elem 4 q.a].flatten/\apP (some [tkE q.t,elem 4 q.a].flatten)=(q,some []):=by
 have O:tkB q.t=true/\BP q.a=true:=by simpa [apB] using h
 obtain⟨M,h4⟩:=O;have b3:=Bl h4;have l2:=(Cp M).1;have l3:=AE 4 q.a;have Z:[tkE q.t,elem 4 q.a].flatten.length<=65535:=by simp only[List.flatten_cons,List.flatten_nil,List.length_append,List.length_nil];omega
 refine⟨by rw[apE,be0 Z],?_⟩;rw[Dj,apP,Oc M];simp only;rw[Kn (by omega),ne0 (by omega)]
theorem Zl {q:Fa} (h:faB q=true):AN 126 (some (faE q))=some [encI q.e,encI q.no].flatten/\faP (some [encI q.e,encI q.no].flatten)=(q,some []):=by
 have M:(1<=q.e/\q.e<=255)/\tmB q.no=true:=by simpa [faB,inB] using h
 obtain⟨h3,Z⟩:=M;have t4:=Be Z;have l2:=AK q.e;have l3:=AK q.no;have O:[encI q.e,encI q.no].flatten.length<=65535:=by simp only[List.flatten_cons,List.flatten_nil,List.length_append,List.length_nil];omega
 refine⟨by rw[faE,be0 O],?_⟩;rw[Dj,faP,Dk (by omega) (by omega)];simp only;rw[Du (by omega) (by omega)]
theorem GU {m:Mg} (h:mgB m=true) :
  (asB m.aq=true/\m=⟨1,m.aq,tg0,re0,ap0,fa0⟩)\/(tgB m.tg=true/\m=⟨2,as0,m.tg,re0,ap0,fa0⟩)\/(reB m.re=true/\m=⟨3,as0,tg0,m.re,ap0,fa0⟩)\/
  (apB m.ap=true/\m=⟨4,as0,tg0,re0,m.ap,fa0⟩)\/(faB m.fa=true/\m=⟨5,as0,tg0,re0,ap0,m.fa⟩):=by
 unfold mgB at h
 split at h
 ·rw[Bool.and_eq_true,decide_eq_true_eq] at h;exact .inl h
 ·split at h
  ·rw[Bool.and_eq_true,decide_eq_true_eq] at h;exact .inr (.inl h)
  ·split at h
   ·rw[Bool.and_eq_true,decide_eq_true_eq] at h;exact .inr (.inr (.inl h))
   ·split at h
    ·rw[Bool.and_eq_true,decide_eq_true_eq] at h;exact .inr (.inr (.inr (.inl h)))
    ·split at h
     ·rw[Bool.and_eq_true,decide_eq_true_eq] at h;exact .inr (.inr (.inr (.inr h)))
     ·cases h
theorem Zm {m:Mg} (h:mgB m=true):mgP (mgE m)=m:=by
 rcases GU h with⟨Z,e⟩ | ⟨Z,e⟩ | ⟨Z,e⟩ | ⟨Z,e⟩ | ⟨Z,e⟩
 ·have M:=Zh Z
  have O:mgE m=asE m.aq:=by rw[e];rfl
  rw[O]
  conv=>rhs;rw[e]
  show(⟨1,(asP (AN 106 (some (asE m.aq)))).1,tg0,re0,ap0,fa0⟩:Mg)=_;rw[M.1,M.2]
 ·have M:=Zi Z
  have O:mgE m=tgE m.tg:=by rw[e];rfl
  rw[O]
  conv=>rhs;rw[e]
  show(⟨2,as0,(tgP (AN 108 (some (tgE m.tg)))).1,re0,ap0,fa0⟩:Mg)=_;rw[M.1,M.2]
 ·have M:=Zj Z
  have O:mgE m=reE m.re:=by rw[e];rfl
  rw[O]
  conv=>rhs;rw[e]
  show(⟨3,as0,tg0,(reP (AN 107 (some (reE m.re)))).1,ap0,fa0⟩:Mg)=_;rw[M.1,M.2]
 ·have M:=Zk Z
  have O:mgE m=apE m.ap:=by rw[e];rfl
  rw[O]
  conv=>rhs;rw[e]
  show(⟨4,as0,tg0,re0,(apP (AN 110 (some (apE m.ap)))).1,fa0⟩:Mg)=_;rw[M.1,M.2]
 ·have M:=Zl Z
  have O:mgE m=faE m.fa:=by rw[e];rfl
  rw[O]
  conv=>rhs;rw[e]
  show(⟨5,as0,tg0,re0,ap0,(faP (AN 126 (some (faE m.fa)))).1⟩:Mg)=_;rw[M.1,M.2]
theorem BR {ok:Bool} {l b:L}:limO ok l=some b↔ok=true/\l.length<=2000/\l=b:=by
 unfold limO
 split
 ·rename_i h
  exact⟨fun e=>⟨h.1,h.2,Option.some.inj e⟩,fun e=>by rw[e.2.2]⟩
 ·rename_i h
  exact⟨fun e=>by(cases e),fun e=>False.elim (h (And.intro e.1 e.2.1))⟩
theorem SN {b:L} {m:Mg}:mgD b=some m↔mgO m=some b:=by
 unfold mgD;constructor
 ·intro h
  split at h
  ·rename_i M;injection h with h;rw[<-h];exact M
  ·cases h
 ·intro h
  have M:=BR.1 h;have e:mgP b=m:=by rw[<-M.2.2];exact Zm M.1
  rw[e,if_pos h]
theorem bM {b:L} {p:Pt} (hk:p.ss.length=32):ptD b=some p↔ptO p=some b:=by
 unfold ptD;constructor
 ·intro h
  split at h
  ·rename_i M;injection h with h;rw[<-h];exact M
  ·cases h
 ·intro h
  have M:=BR.1 h;have e:(ptP b).1=p:=by rw[<-M.2.2,Od M.1 hk]
  rw[e,if_pos h]
theorem SR {b:L} {a:An}:anD b=some a↔anO a=some b:=by
 unfold anD;constructor
 ·intro h
  split at h
  ·rename_i M;injection h with h;rw[<-h];exact M
  ·cases h
 ·intro h
  have M:=BR.1 h;have e:(anP b).1=a:=by rw[<-M.2.2,SM M.1]
  rw[e,if_pos h]
theorem XX (c:Option L):(keP c).1.length=32:=by
 unfold keP
 split
 ·assumption
 ·rfl
theorem Zn {b:L} {p:Pt} (h:ptD b=some p):ptO p=some b/\(ptP b)=(p,some []):=by
 unfold ptD at h
 split at h
 ·rename_i h2
  injection h with h;have hk:p.ss.length=32:=by rw[<-h];exact XX _
  rw[h] at h2;have M:=BR.1 h2;exact⟨h2,by rw[<-M.2.2];exact Od M.1 hk⟩
 ·cases h
end Ms
namespace Rt
open Nm
abbrev Pr:=L×L
structure Pa where
 f:L
 t:L
 v:List L
structure Tp where
 R:List L
 K:List Pr
 P:List Pa
def kl (K:List Pr) (i:Nat):Pr:=K.getD i ([],[])
def al (P:List Pa) (i:Nat):Pa:=P.getD i ⟨[],[],[]⟩
theorem Gc {K:List Pr} {i:Nat} (h:i<K.length):kl K i=K[i]:=by simp [kl,h]
theorem Ka {P:List Pa} {i:Nat} (h:i<P.length):al P i=P[i]:=by simp [al,h]
theorem XY {K:List Pr} {i:Nat} (h:i<K.length):kl K i∈K:=by rw[Gc h];exact List.getElem_mem h
theorem bN {K:List Pr} {x:Pr} (h:x∈K):∃i,i<K.length/\kl K i=x:=by
 obtain⟨i,hi,e⟩:=List.getElem_of_mem h;exact⟨i,hi,by rw[Gc hi];exact e⟩
theorem Pw {P:List Pa} {i:Nat} (h:i<P.length):al P i∈P:=by rw[Ka h];exact List.getElem_mem h
section
variable {α:Type}
theorem take_succ {l:List α} {i:Nat} (h:i<l.length):l.take (i+1)=l.take i++[l[i]]:=List.take_succ_eq_append_getElem h
theorem DI {l:List α} {i:Nat} (h:i<l.length):(l.take (i+1)).Nodup↔(l.take i).Nodup/\l[i]∉l.take i:=by
 rw[take_succ h,List.nodup_append];constructor
 ·rintro⟨M,_,h3⟩
  exact⟨M,fun hm=>h3 _ hm _ (by simp) rfl⟩
 ·rintro⟨M,Z⟩
  refine⟨M,by simp,fun a ha b O=>?_⟩;rw[List.mem_singleton] at O;subst O;rintro rfl;exact Z ha
theorem FQ {l:List α} {i:Nat} (h:l.Nodup):(l.take i).Nodup:=h.sublist (List.take_sublist _ _)
theorem all_succ {l:List α} {p:α->Bool} {i:Nat} (h:i<l.length):(l.take (i+1)).all p=((l.take i).all p&&p l[i]):=by
 rw[take_succ h,List.all_append,List.all_cons,List.all_nil,Bool.and_true]
theorem all_false {l:List α} {p:α->Bool} {i:Nat} (h:i<l.length) (hp:p l[i]=false):l.all p=false:=by
 cases q:l.all p with
 |false=>rfl
 |true=>rw[List.all_eq_true] at q;rw[q _ (List.getElem_mem h)] at hp;cases hp
theorem Dt {l:List α} {p:α->Bool} {i:Nat} (h:l.length<=i) (hp:(l.take i).all p=true):l.all p=true:=by
 rwa [List.take_of_length_le h] at hp
end
def Bv (R:List L):Bool:=R.all isL&&decide R.Nodup
def Dd (R:List L) (p:Pr):Bool:=decide (p.1≠p.2)&&(decide (p.1∈R)&&decide (p.2∈R))
def CO (K:List Pr) (R:List L):Bool:=K.all (Dd R)&&decide K.Nodup
def onB (R:List L) (p:Pa) (r:L):Bool:=decide (r≠p.f)&&(decide (r≠p.t)&&decide (r∈R))
def viaB (R:List L) (p:Pa):Bool:=decide (p.v.length<=4)&&(p.v.all (onB R p)&&decide p.v.Nodup)
def Ei (P:List Pa):List Pr:=P.map fun p=>(p.f,p.t)
def Gi (P:List Pa) (R:List L):Bool:=P.all (viaB R)&&CO (Ei P) R
def isT (T:Tp):Bool:=(decide (1<=T.R.length)&&decide (T.R.length<=6))&&((decide (T.K.length<=20)&&decide (T.P.length<=8))&&(Bv T.R&&(CO T.K T.R&&Gi T.P T.R)))
def Fp (R:List L) (p:Pa):Bool:=Dd R (p.f,p.t)&&viaB R p
theorem Lf (P:List Pa) (R:List L):Gi P R=(P.all (Fp R)&&decide (Ei P).Nodup):=by
 rw[Gi,CO,<-Bool.and_assoc]
 congr 1
 induction P with
 |nil=>rfl
 |cons a t ih=>
  simp only[List.all_cons,Ei,List.map_cons,Fp] at ih⊢;rw[<-ih];cases viaB R a<;>cases Dd R (a.f,a.t)<;>simp
def isP (a b:L) (p:Pa):Bool:=decide (p.f=a)&&decide (p.t=b)
def Oe (T:Tp) (a b:L):Nat:=T.P.findIdx (isP a b)
def laidB (T:Tp) (a b:L):Bool:=decide (Oe T a b<T.P.length)
def vL (T:Tp) (a b:L):List L:=(al T.P (Oe T a b)).v
def viaL (T:Tp) (a b:L):List L:=if laidB T a b then vL T a b else Bq a b
def GV (T:Tp) (a b:L) (l:List L):Bool:=l.all fun r=>decide (r∈viaL T a b)
theorem Zo {T:Tp} {a b:L} {i:Nat} (hi:i<T.P.length) (h:isP a b (al T.P i)=true) (Z:∀k,k<i->isP a b (al T.P k)=false):Oe T a b=i:=by
 rcases Nat.lt_trichotomy (Oe T a b) i with g | g | g
 ·have M:=List.findIdx_getElem (p:=isP a b) (xs:=T.P) (w:=Nat.lt_trans g hi)
  have O:=Z _ g;rw[Ka (Nat.lt_trans g hi)] at O;exact absurd (M.symm.trans O) (by simp)
 ·exact g
 ·have M:=List.not_of_lt_findIdx g
  rw[Ka hi] at h;simp [h] at M
theorem SS {T:Tp} {a b:L} (Z:∀k,k<T.P.length->isP a b (al T.P k)=false):Oe T a b=T.P.length:=by
 have h1:Oe T a b<=T.P.length:=List.findIdx_le_length;rcases Nat.lt_or_ge (Oe T a b) T.P.length with g | g
 ·have O:=List.findIdx_getElem (p:=isP a b) (xs:=T.P) (w:=g)
  have M:=Z _ g;rw[Ka g] at M;exact absurd (O.symm.trans M) (by simp)
 ·omega
theorem Zp {T:Tp} {a b:L} (h:∀p∈T.P,p.v.length<=3000):(viaL T a b).length<=3000:=by
 rw[viaL]
 split
 ·rename_i q
  rw[laidB,decide_eq_true_eq] at q;exact h _ (Pw q)
 ·have:=Gm a b;omega
open Go.RowKit Af
def stp (p:Pr):Value:=.agg #[st p.1,st p.2]
def SlV (w:World) (B:Nat) (v:Value) (ls:List L):Prop:=∃A c,v=.slice A ls.length c/\ls.length<=c/\Rd w B A (strs ls)
def RdP (w:World) (B:Nat) (A:Option Addr) (K:List Pr):Prop:=
 K = []\/∃b o,A=some ⟨b,o,none⟩/\b<B/\∀i,i<K.length->w.cell? ⟨b,o+i*2,none⟩=some (.string ⟨(kl K i).1.toArray⟩)/\w.cell? ⟨b,o+i*2+1,none⟩=some (.string ⟨(kl K i).2.toArray⟩)
def SlP (w:World) (B:Nat) (v:Value) (K:List Pr):Prop:=∃A c,v=.slice A K.length c/\K.length<=c/\RdP w B A K
def RdA (w:World) (B:Nat) (A:Option Addr) (P:List Pa):Prop:=
 P = []\/∃b o,A=some ⟨b,o,none⟩/\b<B/\∀i,i<P.length->w.cell? ⟨b,o+i*3,none⟩=some (.string ⟨(al P i).f.toArray⟩)/\w.cell? ⟨b,o+i*3+1,none⟩=some (.string ⟨(al P i).t.toArray⟩)/\
  ∃v,w.cell? ⟨b,o+i*3+2,none⟩=some v/\SlV w B v (al P i).v
def SlA (w:World) (B:Nat) (v:Value) (P:List Pa):Prop:=∃A c,v=.slice A P.length c/\P.length<=c/\RdA w B A P
def TpV (w:World) (B:Nat) (v:Value) (T:Tp):Prop:=∃v1 v2 v3,v=.agg #[v1,v2,v3]/\SlV w B v1 T.R/\SlP w B v2 T.K/\SlA w B v3 T.P
def PaV (w:World) (B:Nat) (v:Value) (p:Pa):Prop:=∃u,v=.agg #[.string ⟨p.f.toArray⟩,.string ⟨p.t.toArray⟩,u]/\SlV w B u p.v
section
variable {w w':World} {B B':Nat} {A:Option Addr} {v:Value} {ls:List L} {K:List Pr} {P:List Pa} {T:Tp} {p:Pa}
theorem SlV.keep (h:SlV w B v ls) (hk:∀b o,b<B->w'.cell? ⟨b,o,none⟩=w.cell? ⟨b,o,none⟩):SlV w' B v ls:=by
 obtain⟨A,c,Z,M,O⟩:=h;exact⟨A,c,Z,M,O.keep hk⟩
theorem SlV.more (h:SlV w B v ls) (hB:B<=B'):SlV w B' v ls:=by
 obtain⟨A,c,Z,M,O⟩:=h;exact⟨A,c,Z,M,O.more hB⟩
theorem RdP.keep (h:RdP w B A K) (hk:∀b o,b<B->w'.cell? ⟨b,o,none⟩=w.cell? ⟨b,o,none⟩):RdP w' B A K:=by
 rcases h with h | ⟨b,o,Z,M,O⟩
 ·exact .inl h
 ·exact .inr ⟨b,o,Z,M,fun i hi=>⟨(hk _ _ M).trans (O i hi).1,(hk _ _ M).trans (O i hi).2⟩⟩
theorem RdP.more (h:RdP w B A K) (hB:B<=B'):RdP w B' A K:=by
 rcases h with h | ⟨b,o,O,Z,M⟩
 ·exact .inl h
 ·exact .inr ⟨b,o,O,by omega,M⟩
theorem SlP.keep (h:SlP w B v K) (hk:∀b o,b<B->w'.cell? ⟨b,o,none⟩=w.cell? ⟨b,o,none⟩):SlP w' B v K:=by
 obtain⟨A,c,Z,M,O⟩:=h;exact⟨A,c,Z,M,O.keep hk⟩
theorem SlP.more (h:SlP w B v K) (hB:B<=B'):SlP w B' v K:=by
 obtain⟨A,c,Z,M,O⟩:=h;exact⟨A,c,Z,M,O.more hB⟩
theorem RdA.keep (h:RdA w B A P) (hk:∀b o,b<B->w'.cell? ⟨b,o,none⟩=w.cell? ⟨b,o,none⟩):RdA w' B A P:=by
 rcases h with h | ⟨b,o,h1,M,O⟩
 ·exact .inl h
 ·refine .inr ⟨b,o,h1,M,fun i hi=>⟨(hk _ _ M).trans (O i hi).1,(hk _ _ M).trans (O i hi).2.1,?_⟩⟩
  obtain⟨v,h4,Z⟩:=(O i hi).2.2;exact⟨v,(hk _ _ M).trans h4,Z.keep hk⟩
theorem RdA.more (h:RdA w B A P) (hB:B<=B'):RdA w B' A P:=by
 rcases h with h | ⟨b,o,Z,h2,M⟩
 ·exact .inl h
 ·refine .inr ⟨b,o,Z,by omega,fun i hi=>⟨(M i hi).1,(M i hi).2.1,?_⟩⟩
  obtain⟨v,h4,O⟩:=(M i hi).2.2;exact⟨v,h4,O.more hB⟩
theorem SlA.keep (h:SlA w B v P) (hk:∀b o,b<B->w'.cell? ⟨b,o,none⟩=w.cell? ⟨b,o,none⟩):SlA w' B v P:=by
 obtain⟨A,c,Z,M,O⟩:=h;exact⟨A,c,Z,M,O.keep hk⟩
theorem SlA.more (h:SlA w B v P) (hB:B<=B'):SlA w B' v P:=by
 obtain⟨A,c,Z,M,O⟩:=h;exact⟨A,c,Z,M,O.more hB⟩
theorem TpV.keep (h:TpV w B v T) (hk:∀b o,b<B->w'.cell? ⟨b,o,none⟩=w.cell? ⟨b,o,none⟩):TpV w' B v T:=by
 obtain⟨v1,v2,v3,Z,M,O,h4⟩:=h;exact⟨v1,v2,v3,Z,M.keep hk,O.keep hk,h4.keep hk⟩
theorem TpV.more (h:TpV w B v T) (hB:B<=B'):TpV w B' v T:=by
 obtain⟨v1,v2,v3,Z,M,O,h4⟩:=h;exact⟨v1,v2,v3,Z,M.more hB,O.more hB,h4.more hB⟩
theorem PaV.keep (h:PaV w B v p) (hk:∀b o,b<B->w'.cell? ⟨b,o,none⟩=w.cell? ⟨b,o,none⟩):PaV w' B v p:=by
 obtain⟨u,O,M⟩:=h;exact⟨u,O,M.keep hk⟩
theorem PaV.more (h:PaV w B v p) (hB:B<=B'):PaV w B' v p:=by
 obtain⟨u,O,M⟩:=h;exact⟨u,O,M.more hB⟩
theorem SlV.below (h:SlV w B v ls) (M:Below B w w'):SlV w' B v ls:=h.keep fun _ _ hp=>M.cell hp
theorem RdP.below (h:RdP w B A K) (M:Below B w w'):RdP w' B A K:=h.keep fun _ _ hp=>M.cell hp
theorem SlP.below (h:SlP w B v K) (M:Below B w w'):SlP w' B v K:=h.keep fun _ _ hp=>M.cell hp
theorem RdA.below (h:RdA w B A P) (M:Below B w w'):RdA w' B A P:=h.keep fun _ _ hp=>M.cell hp
theorem SlA.below (h:SlA w B v P) (M:Below B w w'):SlA w' B v P:=h.keep fun _ _ hp=>M.cell hp
theorem TpV.below (h:TpV w B v T) (M:Below B w w'):TpV w' B v T:=h.keep fun _ _ hp=>M.cell hp
theorem PaV.below (h:PaV w B v p) (M:Below B w w'):PaV w' B v p:=h.keep fun _ _ hp=>M.cell hp
theorem TpV.on (h:TpV w w.heap.size v T) (M:Below w.heap.size w w'):TpV w' w'.heap.size v T:=(h.below M).more M.size
theorem SlV.on (h:SlV w w.heap.size v ls) (M:Below w.heap.size w w'):SlV w' w'.heap.size v ls:=(h.below M).more M.size
theorem SlP.on (h:SlP w w.heap.size v K) (M:Below w.heap.size w w'):SlP w' w'.heap.size v K:=(h.below M).more M.size
theorem SlA.on (h:SlA w w.heap.size v P) (M:Below w.heap.size w w'):SlA w' w'.heap.size v P:=(h.below M).more M.size
theorem Of {i:Nat} (h:Rd w B A (strs ls)) (hi:i<=ls.length):Rd w B A (strs (ls.take i)):=by
 rcases h with h | ⟨b,o,Z,M,O⟩
 ·left
  have:ls = []:=List.map_eq_nil_iff.1 h;subst this;simp [strs]
 ·refine .inr ⟨b,o,Z,M,fun j u hu=>O j u ?_⟩
  simp only[strs,List.map_take,List.getElem?_take] at hu⊢
  split at hu
  ·exact hu
  ·cases hu
theorem Zq {i j:Nat} (h:j<i) (M:j<K.length):kl (K.take i) j=kl K j:=by
 rw[Gc (by simp;omega),Gc M];simp
theorem Wl {i:Nat} (h:RdP w B A K):RdP w B A (K.take i):=by
 rcases h with h | ⟨b,o,h1,M,O⟩
 ·subst h;exact .inl (by simp)
 ·refine .inr ⟨b,o,h1,M,fun j Z=>?_⟩
  simp only[List.length_take] at Z;rw[Zq (by omega) (by omega)];exact O j (by omega)
theorem Mu {i:Nat} (h:RdP w B A K) (hi:i<K.length):∃b o,A=some ⟨b,o,none⟩/\b<B/\w.cell? ⟨b,o+i*2,none⟩=some (.string ⟨(kl K i).1.toArray⟩)/\w.cell? ⟨b,o+i*2+1,none⟩=some (.string ⟨(kl K i).2.toArray⟩):=by
 rcases h with h | ⟨b,o,Z,M,O⟩
 ·subst h;simp at hi
 ·exact⟨b,o,Z,M,O i hi⟩
theorem Px {i:Nat} (h:RdA w B A P) (hi:i<P.length):∃b o,A=some ⟨b,o,none⟩/\b<B/\w.cell? ⟨b,o+i*3,none⟩=some (.string ⟨(al P i).f.toArray⟩)/\w.cell? ⟨b,o+i*3+1,none⟩=some (.string ⟨(al P i).t.toArray⟩)/\
  ∃v,w.cell? ⟨b,o+i*3+2,none⟩=some v/\SlV w B v (al P i).v:=by
 rcases h with h | ⟨b,o,Z,M,O⟩
 ·subst h;simp at hi
 ·exact⟨b,o,Z,M,O i hi⟩
end
def ixP (x:Pr) (K:List Pr):Int:=if x∈K then ((K.findIdx fun y=>decide (y=x):Nat):Int) else -1
theorem SU {K:List Pr} {x:Pr} {i:Nat} (hi:i<K.length) (h:kl K i=x) (M:∀k,k<i->kl K k≠x):ixP x K=(i:Int):=by
 have hm:x∈K:=by rw[<-h];exact XY hi
 rw[ixP,if_pos hm]
 congr 1
 rcases Nat.lt_trichotomy (K.findIdx fun y=>decide (y=x)) i with g | g | g
 ·have:=List.findIdx_getElem (p:=fun y=>decide (y=x)) (w:=(by omega:(K.findIdx fun y=>decide (y=x))<K.length))
  exact absurd (by rw[Gc (by omega)];simpa using this) (M _ g)
 ·exact g
 ·have:=List.not_of_lt_findIdx g
  rw[Gc hi] at h;simp [h] at this
theorem Wm {K:List Pr} {x:Pr} (M:∀k,k<K.length->kl K k≠x):ixP x K = -1:=by
 rw[ixP,if_neg];intro hm;obtain⟨i,hi,e⟩:=bN hm;exact M i hi e
theorem bO (x:Pr) (K:List Pr):decide (0<=ixP x K)=decide (x∈K):=by
 rw[ixP]
 by_cases h:x∈K
 ·rw[if_pos h];simp [h]
 ·rw[if_neg h];simp [h]
theorem IF (xs:Array Value) (i:Nat) (u:L) (h:xs[i]? = some (.string ⟨u.toArray⟩)) (w:World):(part 9 xs (i*Tryz.prog.cellsOf 9)).run Tryz.prog w=.ok (.string ⟨u.toArray⟩) w:=by
 have M:Tryz.prog.cellsOf 9=1:=by kernel_rfl
 have u9:=Tryz.underlying9;rw[M,Nat.mul_one];unfold part
 go_simp
theorem Zr (a b:L) (w:World):(Op.equalIn 9999 9 (.string ⟨a.toArray⟩) (.string ⟨b.toArray⟩)).run Tryz.prog w=.ok (decide (a=b)) w:=by
 rw[show(9999:Nat)=9998+1 from rfl,run_equalIn_string w 9998 _ _ _ Tryz.underlying9]
 congr 1
 rw[ByteArray.toList_eq,ByteArray.toList_eq]
 by_cases h:a=b<;>simp [h]
theorem Py (x y:Pr) (w:World):(Op.equalIn 10000 106 (.agg #[.string ⟨x.1.toArray⟩,.string ⟨x.2.toArray⟩]) (.agg #[.string ⟨y.1.toArray⟩,.string ⟨y.2.toArray⟩])).run Tryz.prog w=.ok (decide (x=y)) w:=by
 obtain⟨i0,M,_,_,_⟩:=info_parts Iy;rw[run_equalIn_array w 9999 _ _ Tryz.underlying106 M];show(Op.eqItems 9999 9 (Tryz.prog.cellsOf 9) _ _ [0,1]).run Tryz.prog w=_;have p1:=IF #[.string ⟨x.1.toArray⟩,.string ⟨x.2.toArray⟩] 0 x.1 rfl;have O:=IF #[.string ⟨x.1.toArray⟩,.string ⟨x.2.toArray⟩] 1 x.2 rfl;have Z:=IF #[.string ⟨y.1.toArray⟩,.string ⟨y.2.toArray⟩] 0 y.1 rfl;have p4:=IF #[.string ⟨y.1.toArray⟩,.string ⟨y.2.toArray⟩] 1 y.2 rfl;obtain⟨a,b⟩:=x;obtain⟨c,d⟩:=y;simp only at p1 O Z p4;simp only[Op.eqItems,Sem.run_bind,p1,O,Z,p4,Result.andThen_ok,Zr,Sem.run_ite,Sem.run_pure]
 by_cases h1:a=c<;>by_cases h2:b=d<;>simp [h1,h2]
theorem SW (x y:Pr) (h:x=y):∀w,(Op.equalIn 10000 106 (.agg #[.string ⟨x.1.toArray⟩,.string ⟨x.2.toArray⟩]) (.agg #[.string ⟨y.1.toArray⟩,.string ⟨y.2.toArray⟩])).run Tryz.prog w=.ok true w:=fun w=>by rw[Py,decide_eq_true h]
theorem XZ (x y:Pr) (h:x≠y):∀w,(Op.equalIn 10000 106 (.agg #[.string ⟨x.1.toArray⟩,.string ⟨x.2.toArray⟩]) (.agg #[.string ⟨y.1.toArray⟩,.string ⟨y.2.toArray⟩])).run Tryz.prog w=.ok false w:=fun w=>by rw[Py,decide_eq_false h]
theorem QC (K:List Pr) (A:Option Addr) (c B:Nat) (x:Pr) (w:World) (hl:K.length<=1000000) (hr:RdP w B A K) (hB:B<=w.heap.size) :
  Calls Tryz.prog 206 #[.slice A K.length c,stp x] w fun e w'=>e=.returned (.int .i64 (ixP x K))/\Below w.heap.size w w':=by
 have HR:=I hr;clear hr;obtain⟨n,en⟩:=Ak (K.length);rw[<-en] at hl⊢;have EN:=I en;clear en;rw[stp,st,st];go_enter Tryz.func206,Tryz.ntmps206
 go_wp2
 have HK:=I (Blk.new w 106 #[.string ⟨x.1.toArray⟩,.string ⟨x.2.toArray⟩]);obtain⟨W,eW⟩:=Ak (w.alloc (.cells #[.string ⟨x.1.toArray⟩,.string ⟨x.2.toArray⟩] 106));rw[<-eW] at HK⊢;have Z:=I (show Below w.heap.size w W by rw[eW];exact Ah.alloc Ag _);have HG:=I (show w.heap.size<=W.heap.size from Z.o.size);obtain⟨g,eg⟩:=Ak (w.heap.size);rw[<-eg] at HK Z hB HG⊢;replace HR:=I ((HR.o.below (Z.o.mono hB)));have EG:=I eg;clear eW eg hB
 go_loopw [8] (fun iv wr=>∃i:Nat,i<=n/\iv=.int .i64 (i:Int)/\(∀k,k<i->kl K k≠x)/\AU W wr) (fun iv _=>n - (intOf iv).toNat)
 case atStart=>exact⟨0,Nat.zero_le _,rfl,fun k h=>absurd h (Nat.not_lt_zero k),AU.refl _⟩
 case round=>
  obtain⟨i,hi,rfl,hn,O⟩:=hrel;have HN:=I hn;clear hn;have av:RdP wr B A K:=HR.o.keep fun b o _=>by obtain⟨m,rfl⟩:=O;rfl
  have bb:wr.cell? ⟨g,0,none⟩=some (.string ⟨x.1.toArray⟩):=by obtain⟨m,rfl⟩:=O;exact HK.o.cell 0
  have aw:wr.cell? ⟨g,1,none⟩=some (.string ⟨x.2.toArray⟩):=by obtain⟨m,rfl⟩:=O;exact HK.o.cell 1
  have M:=I O;clear O
  by_cases hlt:i<n
  ·have e1:(i:Int)<(n:Int):=by omega
   have e2:(0:Int)<=(i:Int):=by omega
   obtain⟨b,o,rfl,_,h1,h2⟩:=Mu av (i:=i) (by rw[<-EN.o];exact hlt)
   by_cases hx:kl K i=x
   ·have t1:=SW x (kl K i) hx.symm
    have E:=I (SU (by rw[<-EN.o];exact hlt) hx HN.o);clear hx
    go_wp2
    go_quiet (fail)
    go_wp2
    go_ret;exact⟨by rw[E.o];rfl,by rw[<-EG.o];exact Z.o.trans ((M.o.trans ⟨_,rfl⟩).below.mono HG.o)⟩
   ·have t1:=XZ x (kl K i) fun g=>hx g.symm
    have HX:=I hx;clear hx
    go_wp2
    go_quiet (fail)
    go_wp2
    go_roundw
    case rel=>exact⟨i+1,by omega,by go_num,fun k hk=>by
     by_cases q:k=i
     ·rw[q];exact HX.o
     ·exact HN.o k (by omega),M.o.trans ⟨_,rfl⟩⟩
    case measure=>simp [intOf];omega
  ·have e1:¬(i:Int)<(n:Int):=by omega
   have E:=I (Wm (K:=K) (x:=x) fun k hk=>HN.o k (by have:=EN.o;omega))
   go_wp2
   go_ret;exact⟨by rw[E.o];rfl,by rw[<-EG.o];exact Z.o.trans (M.o.below.mono HG.o)⟩
theorem Lg (K:List Pr) (A:Option Addr) (c B:Nat) (x:Pr) (w:World) (hl:K.length<=1000000) (Z:RdP w B A K) (hB:B<=w.heap.size) :
  Calls Tryz.prog 159 #[.slice A K.length c,stp x] w fun e w'=>e=.returned (.bool (decide (x∈K)))/\Below w.heap.size w w':=by
 have M:=(Below.refl w.heap.size w).alloc Ag (.cells #[.string ⟨x.1.toArray⟩,.string ⟨x.2.toArray⟩] 106);have c1:=QC K A c B x _ hl (Z.below (M.mono hB)) (Nat.le_trans hB M.size);have H:=I M;clear M;have E:=I (bO x K);obtain⟨z,O⟩:=Ak (ixP x K);rw[<-O] at c1;have EZ:=I O;clear O Z;rw[stp,st,st] at c1⊢;go_enter Tryz.func159,Tryz.ntmps159
 go_wp2_with (go_at_call 206;refine Aj c1 ?_;rintro w1 M;replace H:=H.t M;clear M)
 go_ret;exact⟨by rw[<-E.o,<-EZ.o];rfl,H.o⟩
theorem IG (ls:List L) (A:Option Addr) (c B:Nat) (w:World) (hl:ls.length<=1000000) (hc:ls.length<=c) (hr:Rd w B A (strs ls)) :
  Calls Tryz.prog 102 #[.slice A ls.length c] w fun e w'=>e=.returned (.bool (decide ls.Nodup))/\w=w':=by
 have HR:=I hr;clear hr;have C1:=I (fun(i:Nat) (hi:i<ls.length) w1 (h:Rd w1 B A (strs ls))=>Tr.Cb (ls.take i) A c B (pl ls i) w1 (by simp;omega) (Of h (by omega)));obtain⟨n,en⟩:=Ak (ls.length);rw[<-en] at hl hc⊢;have EN:=I en;clear en;go_enter Tryz.func102,Tryz.ntmps102
 go_wp2
 go_loop [7] (fun Z=>∃i:Nat,i<=n/\Z=.int .i64 (i:Int)/\(ls.take i).Nodup) (fun Z=>n - (intOf Z).toNat)
 case atStart=>exact⟨0,Nat.zero_le _,rfl,by simp⟩
 case round=>
  obtain⟨i,hi,rfl,O⟩:=hrel;have HN:=I O;clear O
  by_cases hlt:i<n
  ·have e1:(i:Int)<(n:Int):=by omega
   have e2:(0:Int)<=(i:Int):=by omega
   have e3:(i:Int)<=(c:Int):=by omega
   have M:i<ls.length:=by rw[<-EN.o];exact hlt
   have c1:=C1.o i M w HR.o;have hlen:(ls.take i).length=i:=by simp;omega
   rw[hlen] at c1;have hs:=DI M;rw[<-CK M] at hs;obtain⟨b,o,rfl,_,h1⟩:=DD HR.o M
   by_cases hx:pl ls i∈ls.take i
   ·rw[decide_eq_true hx] at c1
    have E:=I (show decide ls.Nodup=false by
     rw[decide_eq_false_iff_not];intro O;exact(hs.1 (FQ O)).2 hx)
    clear hx hs hlen M
    go_wp2_with (go_at_call 31;refine Aj c1 ?_;rintro w1 rfl;clear c1)
    go_ret;exact⟨by rw[E.o];rfl,rfl⟩
   ·rw[decide_eq_false hx] at c1
    have E:=I (hs.2 ⟨HN.o,hx⟩);clear hx hs hlen M
    go_wp2_with (go_at_call 31;refine Aj c1 ?_;rintro w1 rfl;clear c1)
    go_round
    case rel=>exact⟨i+1,by omega,by go_num,E.o⟩
    case measure=>simp [intOf];omega
  ·have e1:¬(i:Int)<(n:Int):=by omega
   have E:=I (show decide ls.Nodup=true by
    have h:=HN.o;rw[List.take_of_length_le (by have:=EN.o;omega)] at h;exact decide_eq_true h)
   go_wp2
   go_ret;exact⟨by rw[E.o];rfl,rfl⟩
theorem SX (K:List Pr) (A:Option Addr) (c B:Nat) (w:World) (hl:K.length<=1000000) (hc:K.length<=c) (hr:RdP w B A K) (hB:B<=w.heap.size) :
  Calls Tryz.prog 103 #[.slice A K.length c] w fun e w'=>e=.returned (.bool (decide K.Nodup))/\Below w.heap.size w w':=by
 obtain⟨N,eN⟩:=Ak (w.heap.size);rw[<-eN] at hB⊢;have bb:=I (show Below N w w from Below.refl _ _);have av:=I eN;clear eN;have aw:=I (show ∀w1:World,Below N w w1->N<=w1.heap.size from fun w1 h=>by have:=h.size;have:=av.o;omega);have HR:=I hr;clear hr;have C1:=I (fun(i:Nat) (hi:i<K.length) w1 (h:RdP w1 B A K) (bq:B<=w1.heap.size)=>Lg (K.take i) A c B (kl K i) w1 (by simp;omega) (Wl h) bq);obtain⟨n,en⟩:=Ak (K.length);rw[<-en] at hl hc⊢;have EN:=I en;clear en;go_enter Tryz.func103,Tryz.ntmps103
 go_wp2
 go_loopw [7] (fun iv wr=>∃i:Nat,i<=n/\iv=.int .i64 (i:Int)/\(K.take i).Nodup/\Below N w wr) (fun iv _=>n - (intOf iv).toNat)
 case atStart=>exact⟨0,Nat.zero_le _,rfl,by simp,bb.o⟩
 case round=>
  obtain⟨i,hi,rfl,hn,O⟩:=hrel;have HN:=I hn;clear hn;have HB:=I O;clear O
  by_cases hlt:i<n
  ·have e1:(i:Int)<(n:Int):=by omega
   have e2:(0:Int)<=(i:Int):=by omega
   have e3:(i:Int)<=(c:Int):=by omega
   have M:i<K.length:=by rw[<-EN.o];exact hlt
   have hs:=DI M;rw[<-Gc M] at hs;have bn:=HR.o.below (HB.o.mono hB);obtain⟨b,o,rfl,_,h1,h2⟩:=Mu bn M;have hlen:(K.take i).length=i:=by simp;omega
   have Z:=I (show Blk (wr.alloc (.cells #[.string ⟨(kl K i).1.toArray⟩,.string ⟨(kl K i).2.toArray⟩] 106)).drew wr.heap.size 106 #[.string ⟨(kl K i).1.toArray⟩,.string ⟨(kl K i).2.toArray⟩] from(Blk.new wr 106 _).drewN 1);have H:=I (show Below N w (wr.alloc (.cells #[.string ⟨(kl K i).1.toArray⟩,.string ⟨(kl K i).2.toArray⟩] 106)).drew from below_drewN (HB.o.alloc (by have:=HB.o.size;have:=av.o;omega) _) 1);have c1:=C1.o i M _ (HR.o.below (H.o.mono hB)) (Nat.le_trans hB (by have:=H.o.size;have:=av.o;omega));rw[hlen] at c1;rw[stp,st,st] at c1
   by_cases hx:kl K i∈K.take i
   ·rw[decide_eq_true hx] at c1
    have E:=I (show decide K.Nodup=false by
     rw[decide_eq_false_iff_not];intro hn;exact(hs.1 (FQ hn)).2 hx)
    clear hx hs hlen M
    go_wp2
    go_region_held3 (fun w'=>w'.cell? ⟨wr.heap.size,0,none⟩=some (.string ⟨(kl K i).1.toArray⟩)/\w'.cell? ⟨wr.heap.size,1,none⟩=some (.string ⟨(kl K i).2.toArray⟩)) (exact⟨Z.o.cell 0,Z.o.cell 1⟩) ((go_at_call 159;refine Aj c1 ?_;rintro w1 O;clear c1;have H1:=I (H.o.trans (O.mono (aw.o _ H.o)));replace Z:=I (Z.o.below O);clear O))
    go_wp2
    go_ret;exact⟨by rw[E.o];rfl,H1.o⟩
   ·rw[decide_eq_false hx] at c1
    have E:=I (hs.2 ⟨HN.o,hx⟩);clear hx hs hlen M
    go_wp2
    go_region_held3 (fun w'=>w'.cell? ⟨wr.heap.size,0,none⟩=some (.string ⟨(kl K i).1.toArray⟩)/\w'.cell? ⟨wr.heap.size,1,none⟩=some (.string ⟨(kl K i).2.toArray⟩)) (exact⟨Z.o.cell 0,Z.o.cell 1⟩) ((go_at_call 159;refine Aj c1 ?_;rintro w1 O;clear c1;have H1:=I (H.o.trans (O.mono (aw.o _ H.o)));replace Z:=I (Z.o.below O);clear O))
    go_wp2
    go_roundw
    case rel=>exact⟨i+1,by omega,by go_num,E.o,H1.o⟩
    case measure=>simp [intOf];omega
  ·have e1:¬(i:Int)<(n:Int):=by omega
   have E:=I (show decide K.Nodup=true by
    have h:=HN.o;rw[List.take_of_length_le (by have:=EN.o;omega)] at h;exact decide_eq_true h)
   go_wp2
   go_ret;exact⟨by rw[E.o];rfl,HB.o⟩
def prs (K:List Pr):List Value:=K.flatMap fun p=>[st p.1,st p.2]
theorem Ko (K M:List Pr):prs (K++M)=prs K++prs M:=by simp [prs]
theorem SY (K:List Pr):∀u∈prs K,u.oneCell'=true:=by
 intro u hu;obtain⟨p,_,h⟩:=List.mem_flatMap.1 hu;rcases List.mem_cons.1 h with h | h
 ·subst h;rfl
 ·rw[List.mem_singleton] at h;subst h;rfl
theorem Ya:∀{K:List Pr} {i:Nat},i<K.length->(prs K)[i*2]? = some (st (kl K i).1)/\(prs K)[i*2+1]? = some (st (kl K i).2)
 | [],i,h=>by simp at h
 |a :: t,0,_=>⟨rfl,rfl⟩
 |a :: t,i+1,h=>by
  have:=Ya (K:=t) (i:=i) (by simpa using h);have e:prs (a :: t)=st a.1 :: st a.2 :: prs t:=rfl;rw[e,show(i+1)*2=i*2+2 by omega];exact this
theorem Mv:(Tryz.prog.info? 106).map (fun i=>(i.zero,i.size,i.bytes))=some (some (.agg #[.string ⟨#[]⟩,.string ⟨#[]⟩]),2,32):=by kernel_rfl
def OwnP (w:World) (base:Nat) (v:Value) (K:List Pr):Prop:=w.ownsRow base 106 2 v K.length (prs K)
theorem OwnP.nil (w:World) (base:Nat):OwnP w base (.slice none 0 0) []:=World.ownsRow_nil w base _ 2
theorem OwnP.below {w w':World} {base:Nat} {v:Value} {K:List Pr} (h:OwnP w base v K) (M:Below w.heap.size w w'):OwnP w' base v K:=BS h M
theorem OwnP.slice {w:World} {base:Nat} {v:Value} {K:List Pr} (h:OwnP w base v K):SlP w w.heap.size v K:=by
 have h':=h;rcases h.2 with⟨M,O⟩ | ⟨g,cap,cur,M,hg,hh,hc,_⟩
 ·have e:K = []:=List.eq_nil_of_length_eq_zero O
  subst e;exact⟨none,0,M,Nat.le_refl _,.inl rfl⟩
 ·subst M
  refine⟨_,cap,rfl,hc,.inr ⟨g,0,rfl,(Array.getElem?_eq_some_iff.1 hh).1,fun i hi=>?_⟩⟩;have M:=h'.cells (g:=g) rfl;have O:=Ya hi;have a1:=M _ _ O.1;have Z:=M _ _ O.2;rw[addr_add] at a1 Z;rw[Nat.add_assoc];exact⟨a1,Z⟩
theorem OwnP.lt {w:World} {base:Nat} {v:Value} {K:List Pr} (h:OwnP w base v K):∀k,v.ownBlock=some k->base<=k/\k<w.heap.size:=World.ownsRow.lt h
section
variable {w:World} {ops:Array Oper} {rest:List Oper} {o:Oper} {a:Act} {Q:Exit->Act->World->Prop}
theorem Wn (bb : o.guard = none) (s x : Operand) (ho : o.op=.call { callee := .builtin .append, args := #[s, x], argTypes := #[63, 63] })
    (base:Nat) (v:Value) (K:List Pr) (hs:a.eval s=v) (O:OwnP w base v K) (p:Pr) (hx:a.eval x=.slice (some ⟨w.heap.size,0,none⟩) 1 1)
    (hl:K.length+1<=1000000) (hb:base<=w.heap.size)
    (h:∀v' w',OwnP w' base v' (K++[p])->Below base w w'->wpList Tryz.prog ops Q rest (a.put o.dst v') w'):wpList Tryz.prog ops Q (o :: rest) a (w.alloc (.cells #[.string ⟨p.1.toArray⟩,.string ⟨p.2.toArray⟩] 106)):=by
  obtain⟨i0,av,bq,bn,aw⟩:=info_parts Mv;have M:Below w.heap.size w (w.alloc (.cells #[.string ⟨p.1.toArray⟩,.string ⟨p.2.toArray⟩] 106)):=Ah.alloc Ag _;obtain ⟨v', w', Z, h2, h3, _, _⟩ := run_append_own_at (P := Tryz.prog) (w.alloc (.cells #[.string ⟨p.1.toArray⟩, .string ⟨p.2.toArray⟩] 106)) base 63 o.type 106 i0 _ 2 32 Tryz.underlying63 av bq bn aw rfl (by omega) v K.length (prs K) (O.below M) ⟨w.heap.size, 0, none⟩ 1 1 (prs [p]) rfl (fun j u hu => by
      rw[addr_add,Nat.zero_add,(Blk.new w 106 _).cell j];have e:prs [p]=#[Value.string ⟨p.1.toArray⟩,.string ⟨p.2.toArray⟩].toList:=rfl;rw[e] at hu
      simpa using hu) (SY _) (by unfold maxLen;omega) (by omega) (Nat.le_trans hb M.size)
  refine wpList_plain bb fun J hJ=>?_
  unfold Oper.wp execOp;simp only[ho,resolve,invoke,builtin,Sem.run_bind,Sem.run_pure,Result.andThen_ok,List.map_toArray,List.map_cons,List.map_nil,hs,hx,Z];refine hJ _ _ (h v' w' (by rw[OwnP,List.length_append,Ko];exact h2) ?_);exact(M.mono hb).grown h3 (Nat.le_trans hb M.size) (fun k hk=>(O.lt k hk).1)
end
theorem QD (ls:List L) (A:Option Addr) (c B:Nat) (w:World) (hl:ls.length<=1000000) (hc:ls.length<=c) (hr:Rd w B A (strs ls)) (hs:∀i,i<ls.length->(pl ls i).length<=1000000000) :
  Calls Tryz.prog 58 #[.slice A ls.length c] w fun e w'=>e=.returned (.bool (Bv ls))/\AU w w':=by
 have HR:=I hr;clear hr;have IS:=I (fun(i:Nat) (h:i<ls.length) w1=>Fm (pl ls i) w1 (hs i h));have C1:=I (fun w1 h=>IG ls A c B w1 hl hc h);obtain⟨n,en⟩:=Ak (ls.length);rw[<-en] at hl hc C1⊢;have EN:=I en;clear en hs;have HD:=I (AU.refl w);go_enter Tryz.func58,Tryz.ntmps58
 go_wp2
 go_loopw [7] (fun iv wr=>∃i:Nat,i<=n/\iv=.int .i64 (i:Int)/\(ls.take i).all isL=true/\AU w wr) (fun iv _=>n - (intOf iv).toNat)
 case atStart=>exact⟨0,Nat.zero_le _,rfl,by simp,HD.o⟩
 case round=>
  obtain⟨i,hi,rfl,hn,O⟩:=hrel;have HN:=I hn;clear hn;have bb:Rd wr B A (strs ls):=by obtain⟨m,rfl⟩:=O;exact HR.o.drewN m
  have av:=I O;clear O
  by_cases hlt:i<n
  ·have e1:(i:Int)<(n:Int):=by omega
   have e2:(0:Int)<=(i:Int):=by omega
   have M:i<ls.length:=by rw[<-EN.o];exact hlt
   have c1:=IS.o i M wr;have Z:=all_succ (p:=isL) M;rw[HN.o,Bool.true_and,<-CK M] at Z;obtain⟨b,o,rfl,_,h1⟩:=DD bb M;cases hx:isL (pl ls i) with
   |false=>
    rw[hx] at c1;have E:=I (show Bv ls=false by
     rw[Bv,all_false M (by rw[<-CK M];exact hx)];rfl)
    clear hx Z M
    go_wp2_with (go_at_call 51;refine Aj c1 ?_;rintro w1 O;clear c1;have aw:=I (av.o.trans O);clear O)
    go_ret;exact⟨by rw[E.o];rfl,aw.o⟩
   |true=>
    rw[hx] at c1;have E:=I (Z.trans hx);clear hx Z M
    go_wp2_with (go_at_call 51;refine Aj c1 ?_;rintro w1 O;clear c1;have aw:=I (av.o.trans O);clear O)
    go_roundw
    case rel=>exact⟨i+1,by omega,by go_num,E.o,aw.o⟩
    case measure=>simp [intOf];omega
  ·have e1:¬(i:Int)<(n:Int):=by omega
   have E:=I (show Bv ls=decide ls.Nodup by
    rw[Bv,Dt (by have:=EN.o;omega) HN.o];rfl)
   have c1:=C1.o wr bb
   go_wp2_with (go_at_call 102;refine Aj c1 ?_;rintro w1 rfl;clear c1)
   go_ret;exact⟨by rw[E.o];rfl,av.o⟩
theorem Mw (K:List Pr) (R:List L) (A A2:Option Addr) (c c2 B:Nat) (w:World) (hl:K.length<=1000000) (hc:K.length<=c) (bx:R.length<=1000000) (hr:RdP w B A K) (bn:Rd w B A2 (strs R)) (hB:B<=w.heap.size) :
  Calls Tryz.prog 59 #[.slice A K.length c,.slice A2 R.length c2] w fun e w'=>e=.returned (.bool (CO K R))/\Below w.heap.size w w':=by
 obtain⟨N,eN⟩:=Ak (w.heap.size);rw[<-eN] at hB⊢;have bq:=I (show Below N w w from Below.refl _ _);have bB:=I eN;clear eN;have aw:=I (show ∀w1:World,Below N w w1->N<=w1.heap.size from fun w1 h=>by have:=h.size;have:=bB.o;omega);have HR:=I hr;clear hr;have bs:=I bn;clear bn;have C1:=I (fun x w1 (h:Rd w1 B A2 (strs R))=>Tr.Cb R A2 c2 B x w1 (by omega) h);have C2:=I (fun w1 h bz=>SX K A c B w1 hl hc h bz);obtain⟨n,en⟩:=Ak (K.length);obtain⟨m,em⟩:=Ak (R.length);rw[<-en] at hl hc C2⊢;rw[<-em] at bx C1⊢;have EN:=I en;clear en em;go_enter Tryz.func59,Tryz.ntmps59
 go_wp2
 go_loopw [11] (fun iv wr=>∃i:Nat,i<=n/\iv=.int .i64 (i:Int)/\(K.take i).all (Dd R)=true/\Below N w wr) (fun iv _=>n - (intOf iv).toNat)
 case atStart=>exact⟨0,Nat.zero_le _,rfl,by simp,bq.o⟩
 case round=>
  obtain⟨i,hi,rfl,hn,hb⟩:=hrel;have HN:=I hn;clear hn;have HB:=I hb;clear hb;have bb:=HR.o.below (HB.o.mono hB)
  by_cases hlt:i<n
  ·have e1:(i:Int)<(n:Int):=by omega
   have e2:(0:Int)<=(i:Int):=by omega
   have av:i<K.length:=by rw[<-EN.o];exact hlt
   have Z:=all_succ (p:=Dd R) av;have M:=all_false (p:=Dd R) av;rw[HN.o,Bool.true_and,<-Gc av] at Z;rw[<-Gc av] at M;obtain⟨b,o,rfl,_,h1,h2⟩:=Mu bb av;obtain⟨x,ex⟩:=Ak (kl K i);rw[<-ex] at Z M h1 h2;clear ex av;have HK:=I (show Blk (wr.alloc (.cells #[.string ⟨x.1.toArray⟩,.string ⟨x.2.toArray⟩] 106)).drew wr.heap.size 106 #[.string ⟨x.1.toArray⟩,.string ⟨x.2.toArray⟩] from(Blk.new wr 106 _).drewN 1);have H:=I (show Below N w (wr.alloc (.cells #[.string ⟨x.1.toArray⟩,.string ⟨x.2.toArray⟩] 106)) from HB.o.alloc (aw.o _ HB.o) _);have O:=I (bs.o.below (H.o.mono hB));obtain⟨W,eW⟩:=Ak (wr.alloc (.cells #[.string ⟨x.1.toArray⟩,.string ⟨x.2.toArray⟩] 106))
   go_wp2
   rw[<-eW] at HK H O⊢;clear eW;have k0:W.cell? ⟨wr.heap.size,0,none⟩=some (.string ⟨x.1.toArray⟩):=HK.o.cell 0;have k1:W.cell? ⟨wr.heap.size,1,none⟩=some (.string ⟨x.2.toArray⟩):=HK.o.cell 1
   go_quiet (fail)
   by_cases q1:x.1=x.2
   ·have t1:(x.1==x.2)=true:=by simpa using q1
    have E:=I (show CO K R=false by
     rw[CO,M (by rw[Dd,decide_eq_false (fun h=>h q1)];rfl)];rfl)
    clear q1 Z M
    go_wp2_with fail
    go_ret;exact⟨by rw[E.o];rfl,below_drewN H.o _⟩
   ·have t1:(x.1==x.2)=false:=by simpa using q1
    by_cases q2:x.1∈R
    ·have c1:=fun k=>C1.o x.1 (W.drewN k) (O.o.drewN k)
     rw[decide_eq_true q2] at c1
     by_cases q3:x.2∈R
     ·have c3:=fun k=>C1.o x.2 (W.drewN k) (O.o.drewN k)
      rw[decide_eq_true q3] at c3;have E:=I (show((K.take (i+1)).all (Dd R)=true) by
       rw[Z,Dd,decide_eq_true q1,decide_eq_true q2,decide_eq_true q3];rfl)
      clear q1 q2 q3 Z M
      go_wp2_with (first
       |(go_at_call 31;with_reducible refine Aj (c1 _) ?_;rintro w1 rfl;clear c1)
       |(go_at_call 31;with_reducible refine Aj (c3 _) ?_;rintro w1 rfl;clear c3))
      go_roundw
      case rel=>exact⟨i+1,by omega,by go_num,E.o,below_drewN H.o _⟩
      case measure=>simp [intOf];omega
     ·have c3:=fun k=>C1.o x.2 (W.drewN k) (O.o.drewN k)
      rw[decide_eq_false q3] at c3;have E:=I (show CO K R=false by
       rw[CO,M (by rw[Dd,decide_eq_false q3];simp)];rfl)
      clear q1 q2 q3 Z M
      go_wp2_with (first
       |(go_at_call 31;with_reducible refine Aj (c1 _) ?_;rintro w1 rfl;clear c1)
       |(go_at_call 31;with_reducible refine Aj (c3 _) ?_;rintro w1 rfl;clear c3))
      go_ret;exact⟨by rw[E.o];rfl,below_drewN H.o _⟩
    ·have c1:=fun k=>C1.o x.1 (W.drewN k) (O.o.drewN k)
     rw[decide_eq_false q2] at c1;have E:=I (show CO K R=false by
      rw[CO,M (by rw[Dd,decide_eq_false q2];simp)];rfl)
     clear q1 q2 Z M
     go_wp2_with (go_at_call 31;with_reducible refine Aj (c1 _) ?_;rintro w1 rfl;clear c1)
     go_ret;exact⟨by rw[E.o];rfl,below_drewN H.o _⟩
  ·have e1:¬(i:Int)<(n:Int):=by omega
   have E:=I (show CO K R=decide K.Nodup by
    rw[CO,Dt (by have:=EN.o;omega) HN.o];rfl)
   have c1:=C2.o wr bb (Nat.le_trans hB (aw.o _ HB.o))
   go_wp2_with (go_at_call 103;refine Aj c1 ?_;rintro w1 hb;clear c1;replace HB:=I (HB.o.trans (hb.mono (aw.o _ HB.o)));clear hb)
   go_ret;exact⟨by rw[E.o];rfl,HB.o⟩
theorem Zs (p:Pa) (R:List L) (u:Value) (A2:Option Addr) (c2 B:Nat) (w:World) (hl:p.v.length<=1000000) (bn:R.length<=1000000) (hr:SlV w B u p.v) (bb:Rd w B A2 (strs R)) (hB:B<=w.heap.size) :
  Calls Tryz.prog 104 #[.agg #[.string ⟨p.f.toArray⟩,.string ⟨p.t.toArray⟩,u],.slice A2 R.length c2] w fun e w'=>e=.returned (.bool (viaB R p))/\Below w.heap.size w w':=by
 obtain⟨A,c,rfl,hc,hr⟩:=hr;have M:=I ((Below.refl w.heap.size w).alloc Ag (.cells #[.string ⟨p.f.toArray⟩,.string ⟨p.t.toArray⟩,.slice A p.v.length c] 168));have HK:=I (Blk.new w 168 #[.string ⟨p.f.toArray⟩,.string ⟨p.t.toArray⟩,.slice A p.v.length c]);have HR:=I (hr.below (M.o.mono hB));clear hr;have aw:=I (bb.below (M.o.mono hB));clear bb;have C1:=I (fun x w1 (h:Rd w1 B A2 (strs R))=>Tr.Cb R A2 c2 B x w1 (by omega) h);have C2:=I (fun w1 h=>IG p.v A c B w1 hl hc h);obtain⟨n,en⟩:=Ak (p.v.length);obtain⟨m,em⟩:=Ak (R.length);rw[<-en] at hl hc C2 M HK HR aw⊢;rw[<-em] at bn C1⊢;have EN:=I en;clear en em
 by_cases h4:n<=4
 ·have g4:decide (4<(n:Int))=false:=by simp;omega
  have H4:=I h4;go_enter Tryz.func104,Tryz.ntmps104
  go_wp2
  obtain⟨W,eW⟩:=Ak (w.alloc (.cells #[.string ⟨p.f.toArray⟩,.string ⟨p.t.toArray⟩,.slice A n c] 168));rw[<-eW] at M HK HR aw⊢;clear eW;have k0:=HK.c0;have k1:=HK.c1;have k2:=HK.c2
  go_loop [14] (fun iv=>∃i:Nat,i<=n/\iv=.int .i64 (i:Int)/\(p.v.take i).all (onB R p)=true) (fun iv=>n - (intOf iv).toNat)
  case atStart=>exact⟨0,Nat.zero_le _,rfl,by simp⟩
  case round=>
   obtain⟨i,hi,rfl,hn⟩:=hrel;have HN:=I hn;clear hn
   by_cases hlt:i<n
   ·have e1:(i:Int)<(n:Int):=by omega
    have e2:(0:Int)<=(i:Int):=by omega
    have av:i<p.v.length:=by rw[<-EN.o];exact hlt
    have Z:=all_succ (p:=onB R p) av;have O:=all_false (p:=onB R p) av;rw[HN.o,Bool.true_and,<-CK av] at Z;rw[<-CK av] at O;obtain⟨b,o,rfl,_,h1⟩:=DD HR.o av;obtain⟨x,ex⟩:=Ak (pl p.v i);rw[<-ex] at Z O h1;clear ex av
    by_cases q1:x=p.f
    ·have t1:(x==p.f)=true:=by simpa using q1
     have E:=I (show viaB R p=false by
      rw[viaB,O (by rw[onB,decide_eq_false (fun h=>h q1)];rfl)];simp)
     clear q1 Z O
     go_wp2_with fail
     go_ret;exact⟨by rw[E.o];rfl,M.o⟩
    ·have t1:(x==p.f)=false:=by simpa using q1
     by_cases q2:x=p.t
     ·have t2:(x==p.t)=true:=by simpa using q2
      have E:=I (show viaB R p=false by
       rw[viaB,O (by rw[onB,decide_eq_false (p:=x≠p.t) (fun h=>h q2)];simp)];simp)
      clear q1 q2 Z O
      go_wp2_with fail
      go_ret;exact⟨by rw[E.o];rfl,M.o⟩
     ·have t2:(x==p.t)=false:=by simpa using q2
      have c3:=C1.o x W aw.o
      by_cases q3:x∈R
      ·rw[decide_eq_true q3] at c3
       have E:=I (show((p.v.take (i+1)).all (onB R p)=true) by
        rw[Z,onB,decide_eq_true q1,decide_eq_true q2,decide_eq_true q3];rfl)
       clear q1 q2 q3 Z O
       go_wp2_with (go_at_call 31;refine Aj c3 ?_;rintro w1 rfl;clear c3)
       go_round
       case rel=>exact⟨i+1,by omega,by go_num,E.o⟩
       case measure=>simp [intOf];omega
      ·rw[decide_eq_false q3] at c3
       have E:=I (show viaB R p=false by
        rw[viaB,O (by rw[onB,decide_eq_false q3];simp)];simp)
       clear q1 q2 q3 Z O
       go_wp2_with (go_at_call 31;refine Aj c3 ?_;rintro w1 rfl;clear c3)
       go_ret;exact⟨by rw[E.o];rfl,M.o⟩
   ·have e1:¬(i:Int)<(n:Int):=by omega
    have E:=I (show viaB R p=decide p.v.Nodup by
     rw[viaB,Dt (by have:=EN.o;omega) HN.o,decide_eq_true (by rw[<-EN.o];exact H4.o)];rfl)
    have c1:=C2.o W HR.o
    go_wp2_with (go_at_call 102;refine Aj c1 ?_;rintro w1 rfl;clear c1)
    go_ret;exact⟨by rw[E.o];rfl,M.o⟩
 ·have g4:decide (4<(n:Int))=true:=by simp;omega
  have E:=I (show viaB R p=false by
   rw[viaB,decide_eq_false (by rw[<-EN.o];exact h4)];rfl)
  go_enter Tryz.func104,Tryz.ntmps104
  go_wp2
  go_ret;exact⟨by rw[E.o];rfl,M.o⟩
theorem SZ {P:List Pa} {i:Nat} (h:i<P.length):Ei (P.take (i+1))=Ei (P.take i)++[((al P i).f,(al P i).t)]:=by
 rw[take_succ h,Ka h,Ei,List.map_append];rfl
theorem Bw (P:List Pa):(Ei P).length=P.length:=by simp [Ei]
theorem Ta (P:List Pa) (R:List L) (A A2:Option Addr) (c c2 B:Nat) (w:World) (hl:P.length<=100000) (bq:R.length<=1000000) (hv:∀p∈P,p.v.length<=1000000) (hr:RdA w B A P) (bz:Rd w B A2 (strs R)) (hB:B<=w.heap.size) :
  Calls Tryz.prog 60 #[.slice A P.length c,.slice A2 R.length c2] w fun e w'=>e=.returned (.bool (Gi P R))/\Below w.heap.size w w':=by
 obtain⟨N,eN⟩:=Ak (w.heap.size);rw[<-eN] at hB⊢;have cd:=I (show Below N w w from Below.refl _ _);have ck:=I eN;clear eN;have M:=I (show ∀w1:World,Below N w w1->N<=w1.heap.size from fun w1 h=>by have:=h.size;have:=ck.o;omega);have HR:=I hr;clear hr;have cc:=I bz;clear bz;have C1:=I (fun(i:Nat) (hi:i<P.length) u w1 (h:SlV w1 B u (al P i).v) (h2:Rd w1 B A2 (strs R)) cq=>Zs (al P i) R u A2 c2 B w1 (hv _ (Pw hi)) bq h h2 cq);have C2:=I (fun A c w1 h1 h2 h3 h4=>Mw (Ei P) R A A2 c c2 w1.heap.size w1 (by rw[Bw];omega) h1 bq h2 h3 h4);rw[Bw] at C2;obtain⟨n,en⟩:=Ak (P.length);obtain⟨m,em⟩:=Ak (R.length);rw[<-en] at hl C2⊢;rw[<-em] at bq C1 C2⊢;have EN:=I en;clear en em hv;go_enter Tryz.func60,Tryz.ntmps60
 go_wp2
 go_loopw [5,10] (fun ev iv wr=>∃i:Nat,i<=n/\iv=.int .i64 (i:Int)/\(P.take i).all (viaB R)=true/\OwnP wr N ev (Ei (P.take i))/\Below N w wr) (fun _ iv _=>n - (intOf iv).toNat)
 case atStart=>exact⟨0,Nat.zero_le _,rfl,by simp,OwnP.nil _ _,cd.o⟩
 case round=>
  obtain⟨i,hi,rfl,hn,ho,Z⟩:=hrel;have HN:=I hn;clear hn;have HB:=I Z;clear Z;have HO:=I ho;clear ho;have cg:=HR.o.below (HB.o.mono hB)
  by_cases hlt:i<n
  ·have e1:(i:Int)<(n:Int):=by omega
   have e2:(0:Int)<=(i:Int):=by omega
   have O:i<P.length:=by rw[<-EN.o];exact hlt
   have aw:=all_succ (p:=viaB R) O;have av:=all_false (p:=viaB R) O;have bn:=SZ O;have bb:=Bw (P.take i);rw[HN.o,Bool.true_and,<-Ka O] at aw;rw[<-Ka O] at av;have hlen:(P.take i).length=i:=by simp;omega
   rw[hlen] at bb;have c1:=C1.o i O;obtain⟨b,o,rfl,_,h1,h2,u,h3,h4⟩:=Px cg O;obtain⟨x,ex⟩:=Ak (al P i);obtain⟨F,eF⟩:=Ak (Ei (P.take i));rw[<-ex] at aw av h1 h2 h4 bn c1;rw[<-eF] at bn bb HO;have cm:=I bn;have cn:=I bb;clear bn bb;clear ex eF O hlen;have cr:=h4;obtain⟨A5,c5,eu,_⟩:=cr;subst eu;obtain⟨k5,cb⟩:∃k,k=x.v.length:=⟨_,rfl⟩;rw[<-cb] at h3 h4;have HK:=I (Blk.new wr 168 #[.string ⟨x.f.toArray⟩,.string ⟨x.t.toArray⟩,.slice A5 k5 c5]);have HA:=I ((Below.refl wr.heap.size wr).alloc Ag (.cells #[.string ⟨x.f.toArray⟩,.string ⟨x.t.toArray⟩,.slice A5 k5 c5] 168));have H:=I (HB.o.trans (HA.o.mono (M.o _ HB.o)));have c2:=c1 _ _ (h4.below (HA.o.mono (Nat.le_trans hB (M.o _ HB.o)))) (cc.o.below (H.o.mono hB)) (Nat.le_trans hB (M.o _ H.o));clear c1 h4 cb;cases hx:viaB R x with
   |false=>
    rw[hx] at c2;have E:=I (show Gi P R=false by rw[Gi,av hx];rfl);clear hx aw av
    go_wp2_with (go_at_call 104;refine Aj c2 ?_;rintro w1 Z;clear c2;have H1:=I (H.o.trans (Z.mono (M.o _ H.o)));clear Z)
    go_ret;exact⟨by rw[E.o];rfl,H1.o⟩
   |true=>
    rw[hx] at c2;have E:=I (aw.trans hx);clear hx aw av
    go_wp2_with (first
     |(go_at_call 104;refine Aj c2 ?_;rintro w1 Z;clear c2;have H1:=I (H.o.trans (Z.mono (M.o _ H.o)));have bB:=I (HK.o.below Z);have cp:=I ((HO.o.below HA.o).below Z);clear Z HO HK;have k0:=bB.o.cell 0;have k1:=bB.o.cell 1;simp only[List.getElem?_toArray,List.getElem?_cons_zero,List.getElem?_cons_succ] at k0 k1)
     |(at_builtin;refine Wn rfl (.tmp 18) (.tmp 24) rfl N _ F rfl cp.o (x.f,x.t) rfl (by have:=cn.o;omega) (M.o _ H1.o) ?_;intro v2 w2 ca bx;have cf:=I ca;have H2:=I (H1.o.trans bx);clear ca bx))
    go_roundw
    case rel=>exact⟨i+1,by omega,by go_num,E.o,by rw[cm.o];exact cf.o,H2.o⟩
    case measure=>simp [intOf];omega
  ·have e1:¬(i:Int)<(n:Int):=by omega
   have bs:P.length<=i:=by have:=EN.o;omega
   have E:=I (show Gi P R=CO (Ei P) R by
    rw[Gi,Dt bs HN.o];rfl)
   rw[List.take_of_length_le bs] at HO;obtain⟨A3,c3,rfl,q1,q2⟩:=HO.o.slice;rw[Bw,<-EN.o] at q1;have c1:=C2.o A3 c3 wr q1 q2 ((cc.o.below (HB.o.mono hB)).more (Nat.le_trans hB (M.o _ HB.o))) Ag;have cj:(Ei P).length=n:=by rw[Bw,<-EN.o]
   rw[cj];clear q1 q2 bs
   go_wp2_with (go_at_call 59;refine Aj c1 ?_;rintro w1 Z;clear c1;replace HB:=I (HB.o.trans (Z.mono (M.o _ HB.o)));clear Z)
   go_ret;exact⟨by rw[E.o];rfl,HB.o⟩
structure Sm (T:Tp):Prop where
 r:T.R.length<=3000
 k:T.K.length<=3000
 p:T.P.length<=3000
 rt:∀x∈T.R,x.length<=3000
 v:∀q∈T.P,q.v.length<=3000
 vt:∀q∈T.P,∀x∈q.v,x.length<=3000
theorem ist_a {T:Tp} (h:¬1<=T.R.length):isT T=false:=by rw[isT,decide_eq_false h];rfl
theorem ist_b {T:Tp} (h:¬T.R.length<=6):isT T=false:=by rw[isT,decide_eq_false h];simp
theorem bP {T:Tp} (h:¬T.K.length<=20):isT T=false:=by rw[isT,decide_eq_false h];simp
theorem bQ {T:Tp} (h:¬T.P.length<=8):isT T=false:=by rw[isT,decide_eq_false h];simp
theorem ist_e {T:Tp} (h:Bv T.R=false):isT T=false:=by rw[isT,h];simp
theorem Zt {T:Tp} (h:CO T.K T.R=false):isT T=false:=by rw[isT,h];simp
theorem ist_g {T:Tp} (h1:1<=T.R.length) (O:T.R.length<=6) (Z:T.K.length<=20) (h4:T.P.length<=8) (M:Bv T.R=true) (h6:CO T.K T.R=true):isT T=Gi T.P T.R:=by
 rw[isT,decide_eq_true h1,decide_eq_true O,decide_eq_true Z,decide_eq_true h4,M,h6];rfl
theorem Tb (T:Tp) (v:Value) (B:Nat) (w:World) (hs:Sm T) (hv:TpV w B v T) (hB:B<=w.heap.size) :
  Calls Tryz.prog 30 #[v] w fun e w'=>e=.returned (.bool (isT T))/\Below w.heap.size w w':=by
 obtain⟨v1,v2,v3,rfl,⟨A1,c1,rfl,bn,r1⟩,⟨A2,c2,rfl,bb,r2⟩,⟨A3,c3,rfl,bq,r3⟩⟩:=hv;have H:=I ((Below.refl w.heap.size w).alloc Ag (.cells #[.slice A1 T.R.length c1,.slice A2 T.K.length c2,.slice A3 T.P.length c3] 66));have M:=I (Blk.new w 66 #[.slice A1 T.R.length c1,.slice A2 T.K.length c2,.slice A3 T.P.length c3]);obtain⟨W,eW⟩:=Ak (w.alloc (.cells #[.slice A1 T.R.length c1,.slice A2 T.K.length c2,.slice A3 T.P.length c3] 66));rw[<-eW] at H M;have O:=H.o.mono hB;have C1:=I (QD T.R A1 c1 B W (by have:=hs.r;omega) bn (r1.below O) (fun i hi=>by have:=hs.rt _ (DL hi);omega));have C2:=I (fun w1 (hk:Below B W w1) aw=>Mw T.K T.R A2 A1 c2 c1 B w1 (by have:=hs.k;omega) bb (by have:=hs.r;omega) ((r2.below O).below hk) ((r1.below O).below hk) aw);have C3:=I (fun w1 (hk:Below B W w1) aw=>Ta T.P T.R A3 A1 c3 c1 B w1 (by have:=hs.p;omega) (by have:=hs.r;omega) (fun q hq=>by have:=hs.v q hq;omega) ((r3.below O).below hk) ((r1.below O).below hk) aw);have av:=I (show B<=W.heap.size from Nat.le_trans hB H.o.size);clear O r1 r2 r3 hB bn bb bq;have A5:=I (@ist_a T);have B5:=I (@ist_b T);have C5:=I (@bP T);have D5:=I (@bQ T);have E5:=I (@ist_e T);have F5:=I (@Zt T);have G5:=I (@ist_g T);have s1:=hs.r;have s2:=hs.k;have s3:=hs.p;obtain⟨n,en⟩:=Ak (T.R.length);obtain⟨m,em⟩:=Ak (T.K.length);obtain⟨k,ek⟩:=Ak (T.P.length);rw[<-en,<-em,<-ek] at eW M;rw[<-en] at C1 C2 C3 s1 A5 B5 G5;rw[<-em] at C2 s2 C5 G5;rw[<-ek] at C3 s3 D5 G5;rw[<-en,<-em,<-ek];clear en em ek hs;subst eW
 by_cases q1:1<=n
 ·have t1:decide ((n:Int)<1)=false:=by simp;omega
  by_cases q2:n<=6
  ·have t2:decide (6<(n:Int))=false:=by simp;omega
   by_cases q3:m<=20
   ·have t3:decide (20<(m:Int))=false:=by simp;omega
    by_cases q4:k<=8
    ·have t4:decide (8<(k:Int))=false:=by simp;omega
     cases q5:Bv T.R with
     |false=>
      have E:=I (E5.o q5);rw[q5] at C1;have c4:=C1.o;clear C1 C2 C3 q5;go_enter Tryz.func30,Tryz.ntmps30
      go_wp2_with (go_at_call 58;refine Aj c4 ?_;rintro w1 Z;clear c4;have H1:=I (H.o.trans (Z.below.mono H.o.size));clear Z)
      go_ret;exact⟨by rw[E.o];rfl,H1.o⟩
     |true=>
      rw[q5] at C1;have c4:=C1.o;cases q6:CO T.K T.R with
      |false=>
       have E:=I (F5.o q6);rw[q6] at C2;clear C1 C3 q5 q6;go_enter Tryz.func30,Tryz.ntmps30
       go_wp2_with (first
        |(go_at_call 58;refine Aj c4 ?_;rintro w1 Z;clear c4;have H1:=I (H.o.trans (Z.below.mono H.o.size));replace M:=I (M.o.below Z.below);have k0:=M.o.cell 0;have k1:=M.o.cell 1;have k2:=M.o.cell 2;simp only[List.getElem?_toArray,List.getElem?_cons_zero,List.getElem?_cons_succ] at k0 k1 k2;have c5:=C2.o w1 (Z.below.mono av.o) (Nat.le_trans av.o Z.below.size);clear Z)
        |(go_at_call 59;refine Aj c5 ?_;rintro w2 O;clear c5;replace H1:=H1.t O;clear O))
       go_ret;exact⟨by rw[E.o];rfl,H1.o⟩
      |true=>
       have E:=I (G5.o q1 q2 q3 q4 q5 q6);rw[q6] at C2;clear C1 q5 q6;go_enter Tryz.func30,Tryz.ntmps30
       go_wp2_with (first
        |(go_at_call 58;refine Aj c4 ?_;rintro w1 Z;clear c4;have H1:=I (H.o.trans (Z.below.mono H.o.size));replace M:=I (M.o.below Z.below);have k0:=M.o.cell 0;have k1:=M.o.cell 1;have k2:=M.o.cell 2;simp only[List.getElem?_toArray,List.getElem?_cons_zero,List.getElem?_cons_succ] at k0 k1 k2;have c5:=C2.o w1 (Z.below.mono av.o) (Nat.le_trans av.o Z.below.size);have HH:=I Z.below;clear Z)
        |(go_at_call 59;refine Aj c5 ?_;rintro w2 O;clear c5 k0 k1 k2;replace H1:=H1.t O;replace M:=I (M.o.below O);have k0:=M.o.cell 0;have k1:=M.o.cell 1;have k2:=M.o.cell 2;simp only[List.getElem?_toArray,List.getElem?_cons_zero,List.getElem?_cons_succ] at k0 k1 k2;replace HH:=HH.t O;have c6:=C3.o w2 (HH.o.mono av.o) (Nat.le_trans av.o HH.o.size);clear O)
        |(go_at_call 60;refine Aj c6 ?_;rintro w3 O;clear c6;replace H1:=H1.t O;clear O))
       go_ret;exact⟨by rw[E.o];rfl,H1.o⟩
    ·have t4:decide (8<(k:Int))=true:=by simp;omega
     have E:=I (D5.o q4);go_enter Tryz.func30,Tryz.ntmps30
     go_wp2
     go_ret;exact⟨by rw[E.o];rfl,H.o⟩
   ·have t3:decide (20<(m:Int))=true:=by simp;omega
    have E:=I (C5.o q3);go_enter Tryz.func30,Tryz.ntmps30
    go_wp2
    go_ret;exact⟨by rw[E.o];rfl,H.o⟩
  ·have t2:decide (6<(n:Int))=true:=by simp;omega
   have E:=I (B5.o q2);go_enter Tryz.func30,Tryz.ntmps30
   go_wp2
   go_ret;exact⟨by rw[E.o];rfl,H.o⟩
 ·have t1:decide ((n:Int)<1)=true:=by simp;omega
  have E:=I (A5.o q1);go_enter Tryz.func30,Tryz.ntmps30
  go_wp2
  go_ret;exact⟨by rw[E.o];rfl,H.o⟩
theorem Zu {a b:L} {p:Pa} (O:p.f=a) (M:p.t=b):isP a b p=true:=by rw[isP,decide_eq_true O,decide_eq_true M];rfl
theorem Zv {a b:L} {p:Pa} (M:p.f≠a):isP a b p=false:=by rw[isP,decide_eq_false M];rfl
theorem Zw {a b:L} {p:Pa} (M:p.t≠b):isP a b p=false:=by rw[isP,decide_eq_false M];simp
theorem Tc {T:Tp} {a b:L} {i:Nat} (hi:i<T.P.length) (h:isP a b (al T.P i)=true) (M:∀k,k<i->isP a b (al T.P k)=false):laidB T a b=true/\vL T a b=(al T.P i).v:=by
 have e:=Zo hi h M;exact⟨by rw[laidB,e];exact decide_eq_true hi,by rw[vL,e]⟩
theorem Wo {T:Tp} {a b:L} (M:∀k,k<T.P.length->isP a b (al T.P k)=false):laidB T a b=false/\vL T a b = []:=by
 have e:=SS M;refine⟨by rw[laidB,e];exact decide_eq_false (by omega),?_⟩;rw[vL,e,al];simp
theorem GB (T:Tp) (v:Value) (B:Nat) (a b:L) (w:World) (hs:Sm T) (hv:TpV w B v T) (hB:B<=w.heap.size) :
  Calls Tryz.prog 201 #[v,.string ⟨a.toArray⟩,.string ⟨b.toArray⟩] w fun e w'=>∃u,e=.returned (.tuple #[u,.bool (laidB T a b)])/\SlV w' B u (vL T a b)/\Below w.heap.size w w':=by
 obtain⟨v1,v2,v3,rfl,⟨A1,c1,rfl,bq,r1⟩,⟨A2,c2,rfl,bn,r2⟩,⟨A3,c3,rfl,bx,r3⟩⟩:=hv;obtain⟨N,eN⟩:=Ak (w.heap.size);have hb:=(Below.refl w.heap.size w).alloc Ag (.cells #[.slice A1 T.R.length c1,.slice A2 T.K.length c2,.slice A3 T.P.length c3] 66);have M:=I hb;clear hb;have HK:=I (Blk.new w 66 #[.slice A1 T.R.length c1,.slice A2 T.K.length c2,.slice A3 T.P.length c3]);have h3:=hs.p;obtain⟨n,en⟩:=Ak (T.P.length);rw[<-en] at h3 HK M;rw[<-eN] at M HK hB;have Z:=I eN;clear eN;have aw:=I (show ∀w1:World,Below N w w1->N<=w1.heap.size from fun w1 h=>by have:=h.size;have:=Z.o;omega);have HR:=I r3;rw[<-en];have EN:=I en;clear r1 r2 r3 bq bn bx hs en;go_enter Tryz.func201,Tryz.ntmps201
 go_wp2
 obtain⟨W,eW⟩:=Ak (w.alloc (.cells #[.slice A1 T.R.length c1,.slice A2 T.K.length c2,.slice A3 n c3] 66));rw[<-eW] at M HK⊢;have bB:W.heap.size=N+1:=by rw[eW,Z.o];simp
 clear eW;have bz:=I (show ∀w1:World,Below W.heap.size W w1->W.heap.size<=w1.heap.size from fun w1 h=>h.size)
 go_loopw [13] (fun iv wr=>∃i:Nat,i<=n/\iv=.int .i64 (i:Int)/\(∀k,k<i->isP a b (al T.P k)=false)/\Below W.heap.size W wr) (fun iv _=>n - (intOf iv).toNat)
 case atStart=>exact⟨0,Nat.zero_le _,rfl,fun k h=>absurd h (Nat.not_lt_zero k),Below.refl _ _⟩
 case round=>
  obtain⟨i,hi,rfl,hn,hb⟩:=hrel;have HN:=I hn;clear hn;have av:=I hb;clear hb;have HB:=I (M.o.trans (av.o.mono (aw.o _ M.o)))
  by_cases hlt:i<n
  ·have e1:(i:Int)<(n:Int):=by omega
   have e2:(0:Int)<=(i:Int):=by omega
   have O:i<T.P.length:=by rw[<-EN.o];exact hlt
   obtain⟨b1,o,rfl,_,h1,h2,u,h3,h4⟩:=Px (HR.o.below (HB.o.mono hB)) O;obtain⟨x,ex⟩:=Ak (al T.P i);rw[<-ex] at h1 h2 h4;have EX:=I ex;clear ex;have bs:=h4;obtain⟨A5,c5,eu,_⟩:=bs;subst eu;obtain⟨k5,bb⟩:∃k,k=x.v.length:=⟨_,rfl⟩;rw[<-bb] at h3 h4;have H4:=I h4;clear h4 bb;have H:=I ((Below.refl wr.heap.size wr).alloc Ag (.cells #[.string ⟨x.f.toArray⟩,.string ⟨x.t.toArray⟩,.slice A5 k5 c5] 168));have H1:=I (av.o.trans (H.o.mono av.o.size));have H2:=I (M.o.trans (H1.o.mono (aw.o _ M.o)))
   by_cases q1:x.f=a
   ·have t1:(x.f==a)=true:=by simpa using q1
    by_cases q2:x.t=b
    ·have t2:(x.t==b)=true:=by simpa using q2
     have E:=I (Tc (T:=T) (a:=a) (b:=b) O (by rw[<-EX.o];exact Zu q1 q2) HN.o);rw[<-EX.o] at E;clear q1 q2 O
     go_wp2_with fail
     go_ret2
     exact⟨_,by rw[E.o.1];rfl,by rw[E.o.2];exact H4.o.below (H.o.mono (Nat.le_trans hB (aw.o _ HB.o))),by rw[<-Z.o];exact H2.o⟩
    ·have t2:(x.t==b)=false:=by simpa using q2
     have E:=I (Zw (a:=a) q2);rw[EX.o] at E;clear q1 q2 O
     go_wp2_with fail
     go_roundw
     case rel=>exact⟨i+1,by omega,by go_num,fun k hk=>by
      by_cases q:k=i
      ·rw[q];exact E.o
      ·exact HN.o k (by omega),H1.o⟩
     case measure=>simp [intOf];omega
   ·have t1:(x.f==a)=false:=by simpa using q1
    have E:=I (Zv (b:=b) q1);rw[EX.o] at E;clear q1 O
    go_wp2_with fail
    go_roundw
    case rel=>exact⟨i+1,by omega,by go_num,fun k hk=>by
     by_cases q:k=i
     ·rw[q];exact E.o
     ·exact HN.o k (by omega),H1.o⟩
    case measure=>simp [intOf];omega
  ·have e1:¬(i:Int)<(n:Int):=by omega
   have E:=I (Wo (T:=T) (a:=a) (b:=b) fun k hk=>HN.o k (by have:=EN.o;omega))
   go_wp2
   go_ret2
   exact⟨_,by rw[E.o.1];rfl,by rw[E.o.2];exact⟨none,0,rfl,Nat.le_refl _,.inl rfl⟩,by rw[<-Z.o];exact HB.o⟩
theorem GW (n:Nat) (hn:n<=1000000) (w:World) :
  ∃cs:Array Value,cs.size=n/\(Instr.makeSlice 40 (.int .i64 0) (.int .i64 (n:Int))).run Tryz.prog w=.ok (.slice (some ⟨w.heap.size,0,none⟩) 0 n) (w.alloc (.cells cs 9)):=by
 obtain⟨i0,av,Z,O,M⟩:=info_parts Iy;have h:=run_make (P:=Tryz.prog) w 40 9 i0 _ Tryz.underlying40 av Z .i64 .i64 0 (n:Int) (by omega) (by omega) (by rw[M];omega) (by omega);refine⟨_,?_,h⟩;rw[O,Int.toNat_natCast,Nat.mul_one,show(Value.string ⟨#[]⟩).cells=#[Value.string ⟨#[]⟩] from rfl];have e:=toList_madeCells_one (.string ⟨#[]⟩) n;have:=congrArg List.length e
 simpa using this
theorem Pz (w:World) (cs:Array Value) (n:Nat) (h:cs.size=n) (M:n<=1000000):Own (w.alloc (.cells cs 9)) w.heap.size (.slice (some ⟨w.heap.size,0,none⟩) 0 n) []:=
 World.ownsRow_made w cs n Ag (by unfold maxLen;omega) (by omega)
theorem bR {T:Tp} {a b:L} (h:laidB T a b=true):viaL T a b=vL T a b:=by rw[viaL,if_pos h]
theorem bS {T:Tp} {a b:L} (h:laidB T a b=false):viaL T a b=Bq a b:=by rw[viaL,if_neg (by simp [h])]
theorem bT {T:Tp} {a b:L} (h:laidB T a b=true):∃p∈T.P,vL T a b=p.v:=by
 rw[laidB,decide_eq_true_eq] at h;exact⟨_,Pw h,rfl⟩
theorem Zx (T:Tp) (v:Value) (B:Nat) (a b:L) (w:World) (hs:Sm T) (hv:TpV w B v T) (hB:B<=w.heap.size) (hx:laidB T a b=true) :
  Calls Tryz.prog 149 #[v,.string ⟨a.toArray⟩,.string ⟨b.toArray⟩] w fun e w'=>∃u,e=.returned u/\Own w' w.heap.size u (viaL T a b)/\Below w.heap.size w w':=by
 have cb:=hv;obtain⟨v1,v2,v3,rfl,⟨A1,c1,rfl,cm,r1⟩,⟨A2,c2,rfl,bB,r2⟩,⟨A3,c3,rfl,cn,r3⟩⟩:=cb;obtain⟨N,eN⟩:=Ak (w.heap.size);have O:=(Below.refl w.heap.size w).alloc Ag (.cells #[.slice A1 T.R.length c1,.slice A2 T.K.length c2,.slice A3 T.P.length c3] 66);have c1:=GB T _ B a b _ hs (hv.below (O.mono hB)) (Nat.le_trans hB O.size);rw[hx] at c1;have Z:=I O;clear O;rw[bR hx];obtain⟨q,hq,e⟩:=bT hx;have h1:=hs.v q hq;have h2:=hs.vt q hq;rw[<-e] at h1 h2;obtain⟨V,eV⟩:=Ak (vL T a b);rw[<-eV] at c1 h1 h2⊢;have CL:=I (fun(i:Nat) (h:i<V.length) w1=>BZ (pl V i) w1 (by have:=h2 _ (DL h);omega));obtain⟨n,en⟩:=Ak (V.length);rw[<-en] at h1;have EN:=I en;rw[<-eN] at Z hB⊢;have cf:=I eN;clear eN;have M:=I (show ∀w1:World,Below N w w1->N<=w1.heap.size from fun w1 h=>by have:=h.size;have:=cf.o;omega);have MK:=I (fun w1=>GW n (by omega) w1);clear r1 r2 r3 cm bB cn hs hx hq e eV h2 hv;go_enter Tryz.func149,Tryz.ntmps149
 go_wp2_with (go_at_call 201;refine Calls.mono c1 ?_;rintro e w1 ⟨u,rfl,⟨A5,c5,rfl,_,r5⟩,O⟩;clear c1;replace Z:=I (Z.o.trans (O.mono (M.o _ Z.o)));clear O;have HR:=I (r5.more hB);clear r5;rw[<-en];clear en;obtain⟨cs,ck,cq⟩:=MK.o w1)
 have HO:=I ((Pz w1 cs n ck (by omega)).from_ (M.o _ Z.o));replace HR:=I (HR.o.alloc (M.o _ Z.o) (.cells cs 9));replace Z:=I (Z.o.alloc (M.o _ Z.o) (.cells cs 9))
 go_loopw [9,29] (fun ev iv wr=>∃i:Nat,i<=n/\iv=.int .i64 (i:Int)/\Own wr N ev (V.take i)/\Rd wr N A5 (strs V)/\Below N w wr) (fun _ iv _=>n - (intOf iv).toNat)
 case atStart=>exact⟨0,Nat.zero_le _,rfl,HO.o,HR.o,Z.o⟩
 case round=>
  obtain⟨i,hi,rfl,ho,hr,bq⟩:=hrel;have HO:=I ho;clear ho;have bz:=I hr;clear hr;have av:=I bq;clear bq
  by_cases hlt:i<n
  ·have e1:(i:Int)<(n:Int):=by omega
   have e2:(0:Int)<=(i:Int):=by omega
   have aw:i<V.length:=by rw[<-EN.o];exact hlt
   have c2:=CL.o i aw;have bs:=BK aw;have HL:=I (show(V.take i).length=i by simp;omega);have cj:=I bs;clear bs aw;obtain⟨bx,o,rfl,_,h1⟩:=DD bz.o (i:=i) (by rw[<-EN.o];exact hlt)
   go_wp2_with (first
    |(go_at_call 55;refine Aj (c2 _) ?_;rintro w3 O;clear c2;have H3:=I (av.o.trans (O.mono (M.o _ av.o)));have ca:=I (HO.o.below O);have cp:=I (bz.o.below (O.mono (M.o _ av.o)));clear O)
    |(at_builtin;refine Hq rfl (.tmp 33) (.tmp 36) rfl N _ (V.take i) rfl ca.o (pl V i) rfl (by have:=HL.o;omega) (M.o _ H3.o) ?_;intro v4 w4 bb bn;rw[<-cj.o] at bb;have cc:=I bb;have H4:=I (H3.o.trans bn);have cd:=I (cp.o.below bn);clear bb bn))
   go_roundw
   case rel=>exact⟨i+1,by omega,by go_num,cc.o,cd.o,H4.o⟩
   case measure=>simp [intOf];omega
  ·have e1:¬(i:Int)<(n:Int):=by omega
   have cg:V.length<=i:=by have:=EN.o;omega
   rw[List.take_of_length_le cg] at HO
   go_wp2
   go_ret;exact⟨_,rfl,HO.o,av.o⟩
theorem Wp (T:Tp) (v:Value) (B:Nat) (a b:L) (w:World) (hs:Sm T) (hv:TpV w B v T) (hB:B<=w.heap.size) (hx:laidB T a b=false) (ha:a.length<=1000000000) (M:b.length<=1000000000) :
  Calls Tryz.prog 149 #[v,.string ⟨a.toArray⟩,.string ⟨b.toArray⟩] w fun e w'=>∃u,e=.returned u/\Own w' w.heap.size u (viaL T a b)/\Below w.heap.size w w':=by
 have aw:=hv;obtain⟨v1,v2,v3,rfl,⟨A1,c1,rfl,av,r1⟩,⟨A2,c2,rfl,Z,r2⟩,⟨A3,c3,rfl,bb,r3⟩⟩:=aw;have C2:=I (fun w1=>Gn a b w1 ha M);have M:=(Below.refl w.heap.size w).alloc Ag (.cells #[.slice A1 T.R.length c1,.slice A2 T.K.length c2,.slice A3 T.P.length c3] 66);have c1:=GB T _ B a b _ hs (hv.below (M.mono hB)) (Nat.le_trans hB M.size);rw[hx] at c1;have O:=I M;clear M;rw[bS hx];clear r1 r2 r3 av Z bb hs hx hv;go_enter Tryz.func149,Tryz.ntmps149
 go_wp2_with (first
  |(go_at_call 201;refine Calls.mono c1 ?_;rintro e w1 ⟨u,rfl,⟨A5,c5,rfl,_,r5⟩,M⟩;clear c1;replace O:=O.t M;clear M r5)
  |(go_at_call 147;refine Calls.mono (C2.o w1) ?_;rintro e w2 ⟨u2,rfl,ho,M⟩;have HO:=I (ho.from_ O.o.size);replace O:=O.t M;clear M ho))
 go_ret;exact⟨_,rfl,HO.o,O.o⟩
theorem Wq (T:Tp) (v:Value) (B:Nat) (a b:L) (w:World) (hs:Sm T) (M:TpV w B v T) (hB:B<=w.heap.size) (Z:a.length<=1000000000) (O:b.length<=1000000000) :
  Calls Tryz.prog 149 #[v,.string ⟨a.toArray⟩,.string ⟨b.toArray⟩] w fun e w'=>∃u,e=.returned u/\Own w' w.heap.size u (viaL T a b)/\Below w.heap.size w w':=by
 cases hx:laidB T a b with
 |true=>exact Zx T v B a b w hs M hB hx
 |false=>exact Wp T v B a b w hs M hB hx Z O
section
variable {T:Tp} {a b x:L} {g:Nat} {l:List L}
end
theorem Jo (T:Tp) (v:Value) (B:Nat) (a b:L) (ls:List L) (A:Option Addr) (c B2:Nat) (w:World) (hs:Sm T) (hv:TpV w B v T) (hB:B<=w.heap.size) (ha:a.length<=1000000) (hb:b.length<=1000000) (hl:ls.length<=1000000) (hr:Rd w B2 A (strs ls)) (aw:B2<=w.heap.size) :
  Calls Tryz.prog 94 #[v,.string ⟨a.toArray⟩,.string ⟨b.toArray⟩,.slice A ls.length c] w fun e w'=>e=.returned (.bool (GV T a b ls))/\Below w.heap.size w w':=by
 have bs:=hv;obtain⟨v1,v2,v3,rfl,⟨A1,d1,rfl,cb,r1⟩,⟨A2,d2,rfl,bn,r2⟩,⟨A3,d3,rfl,cc,r3⟩⟩:=bs;have av:=(Below.refl w.heap.size w).alloc Ag (.cells #[.slice A1 T.R.length d1,.slice A2 T.K.length d2,.slice A3 T.P.length d3] 66);have c1:=Wq T _ B a b _ hs (hv.below (av.mono hB)) (Nat.le_trans hB av.size) (by omega) (by omega);have HL:=I (Zp (T:=T) (a:=a) (b:=b) fun p hp=>hs.v p hp);have HB:=I av;clear av;have HR:=I hr;have bz:=I aw;have EA:=I (show GV T a b ls=ls.all fun r=>decide (r∈viaL T a b) from rfl);obtain⟨V,eV⟩:=Ak (viaL T a b);rw[<-eV] at c1 HL EA;rw[EA.o];clear EA;have bB:=I (fun i (h:i<ls.length)=>all_false (p:=fun r=>decide (r∈V)) h);have bx:=I (fun i (h:i<ls.length)=>all_succ (p:=fun r=>decide (r∈V)) h);have bq:=I (fun i=>Dt (l:=ls) (p:=fun r=>decide (r∈V)) (i:=i));obtain⟨n,en⟩:=Ak (ls.length);rw[<-en] at hl⊢;have EN:=I en;clear r1 r2 r3 cb bn cc hs hv ha hb hB aw hr eV en;go_enter Tryz.func94,Tryz.ntmps94
 go_wp2_with (go_at_call 149;refine Calls.mono c1 ?_;rintro e w1 ⟨u,rfl,ho,hb⟩;clear c1;obtain⟨A5,d5,rfl,bb⟩:=ho.slice;have ca:=I bb;replace HR:=I (HR.o.below ((HB.o.trans (hb.mono HB.o.size)).mono bz.o));replace HB:=HB.t hb;clear ho bb hb)
 obtain⟨m,em⟩:=Ak (V.length);have C2:=I (fun y=>Tr.Cb V A5 d5 w1.heap.size y w1 (by have:=HL.o;omega) ca.o);rw[<-em] at C2⊢;clear em
 go_loop [18] (fun iv=>∃i:Nat,i<=n/\iv=.int .i64 (i:Int)/\((ls.take i).all fun r=>decide (r∈V))=true) (fun iv=>n - (intOf iv).toNat)
 case atStart=>exact⟨0,Nat.zero_le _,rfl,by simp⟩
 case round=>
  obtain⟨i,hi,rfl,hn⟩:=hrel;have HN:=I hn;clear hn
  by_cases hlt:i<n
  ·have e1:(i:Int)<(n:Int):=by omega
   have e2:(0:Int)<=(i:Int):=by omega
   have M:i<ls.length:=by rw[<-EN.o];exact hlt
   have Z:=bx.o i M;have O:=bB.o i M;rw[HN.o,Bool.true_and,<-CK M] at Z;rw[<-CK M] at O;obtain⟨b1,o,rfl,_,h1⟩:=DD HR.o M;obtain⟨y,ey⟩:=Ak (pl ls i);rw[<-ey] at Z O h1;clear ey M;have c2:=C2.o y
   by_cases hx:y∈V
   ·rw[decide_eq_true hx] at c2 Z
    have E:=I Z;clear hx Z O
    go_wp2_with (go_at_call 31;refine Aj c2 ?_;rintro w4 rfl;clear c2)
    go_round
    case rel=>exact⟨i+1,by omega,by go_num,E.o⟩
    case measure=>simp [intOf];omega
   ·rw[decide_eq_false hx] at c2 O
    have E:=I (O rfl);clear hx Z O
    go_wp2_with (go_at_call 31;refine Aj c2 ?_;rintro w4 rfl;clear c2)
    go_ret;exact⟨by rw[E.o];rfl,HB.o⟩
  ·have e1:¬(i:Int)<(n:Int):=by omega
   have E:=I (bq.o i (by have:=EN.o;omega) HN.o)
   go_wp2
   go_ret;exact⟨by rw[E.o];rfl,HB.o⟩
end Rt
end Go.Proofs.YthkdjblnmkkcfaaGreat
