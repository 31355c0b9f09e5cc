import Derived.Test.YtlchkbpffaclmaaGreatZKdcTills2
set_option maxHeartbeats 25600000
set_option maxRecDepth 100000
set_option linter.unusedVariables false
set_option linter.unusedSimpArgs false
namespace Go.Proofs.YtlchkbpffaclmaaGreat
namespace Tr
open Nm
theorem QV (c:UInt8) (l:L):((split c l).map fun p=>p.length+1).sum=l.length+1:=by
 induction l with
 |nil=>simp [split]
 |cons y r ih=>
  rw[split]
  by_cases e:y=c
  ·rw[if_pos e];simp [ih];omega
  ·rw[if_neg e]
   cases hs:split c r with
   |nil=>exact absurd hs (Km c r)
   |cons a t=>
    rw[hs] at ih;simp only[List.map_cons,List.sum_cons,List.length_cons] at ih⊢;omega
theorem YA {ls:List L} (h:ls.all (Cc capB)=true):(ls.map fun p=>p.length+1).sum<=9*ls.length:=by
 induction ls with
 |nil=>simp
 |cons a t ih=>
  simp only[List.all_cons,Bool.and_eq_true] at h;have h1:=((EE _ _).1 h.1).2.1;have:=ih h.2;simp only[List.map_cons,List.sum_cons,List.length_cons];omega
theorem NY {c:UInt8} {l:L} (h:Cm (split c l)=true):l.length<=35:=by
 have h1:=(IG _).1 h;have h2:=YA h1.2.2;have h3:=QV c l;omega
theorem kind_two' {l:L} (h:By l=2):∃t,l=47 :: t/\Cm (split 47 t)=true:=by
 have h1:=TP h;simp only[slL,Bool.and_eq_true,decide_eq_true_eq] at h1;cases l with
 |nil=>simp at h1
 |cons x t=>
  simp only[List.head?_cons,Option.some.injEq,List.tail_cons] at h1;exact⟨t,by rw[h1.1],h1.2⟩
theorem Pq {l:L} (h:By l≠0):By l=1\/By l=2:=by have:=Wu l;omega
theorem NZ {l:L} (h:By l≠0):l.length<=36:=by
 rcases Pq h with h | h
 ·have:=NY (TO h);omega
 ·obtain⟨t,rfl,ht⟩:=kind_two' h
  have:=NY ht;simp only[List.length_cons];omega
def sufL (p l:L):Bool:=p.isSuffixOf l
def preB (p l:L):Bool:=p.isPrefixOf l
def furL (r p:L):L:=if Yu r p then (if By r=1 then r.take (r.length - p.length) else r.drop p.length) else if By r=1 then r else 32 :: r
def Ps (f p:L):L:=if sufL [46] f then f++p else if preB [47] f&&decide (By p=2) then p++f else if preB [32,47] f then f.drop 1 else f
def YB:List L->L
 | []=>[]
 |f :: t=>match t with
  | []=>f
  |_ :: _=>f++44 :: YB t
def furs:L->List L->List L
 |_,[]=>[]
 |p,r :: t=>furL r p :: furs r t
def WK:List L->List L
 | []=>[]
 |r :: t=>r :: furs r t
def YC (m:List L):L:=YB (WK m)
def Dx (p:L) (m:List L):L:=if m = [] then p else pl m (m.length - 1)
def YD (l:List L):L×Nat:=if l.all isL then (if 8<l.length then ([],13) else (YC l,0)) else ([],1)
def addL (l:List L) (r:L):List L:=if r∈l then l else l++[r]
def addsL (l rs:List L):List L:=rs.foldl addL l
def fromL (c p:L):L:=if p = [] then c else p
def overF (l:List L):List L×Nat:=if 8<l.length then ([],13) else (l,0)
def WL (c:L) (l:List L) (p r:L) (n:Bool):List L:=if n then addsL l (NL (fromL c p) r) else l
def expF (c sv:L):List L->List L->L->Bool->List L×Nat
  | [],l,p,n=>overF (WL c l p sv n)
  | f :: t, l, p, n => if f = [] then expF c sv t l p true else
      if isL (Ps f p) then
        (if 8<(addL (WL c l p (Ps f p) n) (Ps f p)).length then ([],13) else expF c sv t (addL (WL c l p (Ps f p) n) (Ps f p)) (Ps f p) false)
      else ([],2)
def expL (s c sv:L):List L×Nat:=if isL c&&isL sv then (if s = [] then ([],0) else expF c sv (split 44 s) [] [] false) else ([],1)
def insL (s c sv r:L):L×Nat:=
 if (expL s c sv).2≠0 then ([],(expL s c sv).2) else if isL r then (if r=c\/r=sv\/r∈(expL s c sv).1 then (s,0) else YD ((expL s c sv).1++[r])) else ([],1)
open Go.RowKit Af
attribute [local go_sem] Ex List.getElem_cons_zero List.getElem_cons_succ Cr Cs DM Dz
def tpL (p l:L):L:=if preB p l then l.drop p.length else l
def ixL (r:L) (ls:List L):Int:=if r∈ls then ((ls.findIdx fun x=>decide (x=r):Nat):Int) else -1
theorem Oa {ls:List L} {r:L} {i:Nat} (hi:i<ls.length) (h:pl ls i=r) (hn:∀k,k<i->pl ls k≠r):ixL r ls=(i:Int):=by
 have hm:r∈ls:=by rw[<-h];exact JO hi
 rw[ixL,if_pos hm]
 congr 1
 rcases Nat.lt_trichotomy (ls.findIdx fun x=>decide (x=r)) i with g | g | g
 ·have:=List.findIdx_getElem (p:=fun x=>decide (x=r)) (w:=(by omega:(ls.findIdx fun x=>decide (x=r))<ls.length))
  exact absurd (by rw[EI (by omega)];simpa using this) (hn _ g)
 ·exact g
 ·have:=List.not_of_lt_findIdx g
  rw[EI hi] at h;simp [h] at this
theorem QW {ls:List L} {r:L} (hn:∀k,k<ls.length->pl ls k≠r):ixL r ls = -1:=by
 rw[ixL,if_neg];intro hm;obtain⟨i,hi,e⟩:=mem_pl hm;exact hn i hi e
theorem WM (r:L) (ls:List L):decide (0<=ixL r ls)=decide (r∈ls):=by
 rw[ixL]
 by_cases h:r∈ls
 ·rw[if_pos h];simp [h]
 ·rw[if_neg h];simp [h]
theorem Pu (ls:List L) (A:Option Addr) (c B:Nat) (r:L) (w:World) (hl:ls.length<=9000000000000000) (hr:Rd w B A (strs ls)) :
  Calls Tryz.prog 95 #[.slice A ls.length c,.string ⟨r.toArray⟩] w fun e w'=>e=.returned (.int .i64 (ixL r ls))/\w=w':=by
 have HR:=I hr;clear hr;obtain⟨n,en⟩:=Ak (ls.length);rw[<-en] at hl⊢;have EN:=I en;clear en;go_enter Tryz.func95,Tryz.ntmps95
 go_wp2
 go_loop [8] (fun iv=>∃i:Nat,i<=n/\iv=.int .i64 (i:Int)/\∀k,k<i->pl ls k≠r) (fun iv=>n - (intOf iv).toNat)
 case atStart=>exact⟨0,Nat.zero_le _,rfl,fun k h=>absurd h (Nat.not_lt_zero k)⟩
 case round=>
  obtain⟨i,hi,rfl,hn⟩:=hrel;have HN:=I hn;clear hn
  by_cases hlt:i<n
  ·have e1:(i:Int)<(n:Int):=by omega
   have e2:(0:Int)<=(i:Int):=by omega
   obtain⟨b,o,rfl,_,h1⟩:=EJ HR.o (i:=i) (by rw[<-EN.o];exact hlt)
   by_cases hx:pl ls i=r
   ·have t1:(r==pl ls i)=true:=by simpa using hx.symm
    have E:=I (Oa (by rw[<-EN.o];exact hlt) hx HN.o);clear hx
    go_wp2
    go_ret;exact⟨by rw[E.o];rfl,rfl⟩
   ·have t1:(r==pl ls i)=false:=by simpa using fun g:r=pl ls i=>hx g.symm
    have HX:=I hx;clear hx
    go_wp2
    go_round
    case rel=>exact⟨i+1,by omega,by go_num,fun k hk=>by
     by_cases q:k=i
     ·rw[q];exact HX.o
     ·exact HN.o k (by omega)⟩
    case measure=>simp [intOf];omega
  ·have e1:¬(i:Int)<(n:Int):=by omega
   have E:=I (QW (ls:=ls) (r:=r) fun k hk=>HN.o k (by have:=EN.o;omega))
   go_wp2
   go_ret;exact⟨by rw[E.o];rfl,rfl⟩
theorem DC (ls:List L) (A:Option Addr) (c B:Nat) (r:L) (w:World) (hl:ls.length<=9000000000000000) (hr:Rd w B A (strs ls)) :
  Calls Tryz.prog 48 #[.slice A ls.length c,.string ⟨r.toArray⟩] w fun e w'=>e=.returned (.bool (decide (r∈ls)))/\w=w':=by
 have c1:=Pu ls A c B r w hl hr;have E:=I (WM r ls);obtain⟨z,ez⟩:=Ak (ixL r ls);rw[<-ez] at c1;have EZ:=I ez;clear ez hr;go_enter Tryz.func48,Tryz.ntmps48
 go_wp2_with (go_at_call 95;refine Aj c1 ?_;rintro w1 rfl)
 go_ret;exact⟨by rw[<-E.o,<-EZ.o];rfl,rfl⟩
end Tr
namespace Tr
open Go.RowKit Af Nm
def Far (w w':World) (v v':Value):Prop:=w.heap.size<=w'.heap.size/\∀b,b<w.heap.size->v.ownBlock≠some b->w'.heap[b]? = w.heap[b]?/\v'.ownBlock≠some b
theorem Far.trans {w w1 w2:World} {v v1 v2:Value} (h:Far w w1 v v1) (k:Far w1 w2 v1 v2):Far w w2 v v2:=by
 refine⟨Nat.le_trans h.1 k.1,fun b hb hn=>?_⟩;obtain⟨a1,a2⟩:=h.2 b hb hn;obtain⟨c1,c2⟩:=k.2 b (Nat.lt_of_lt_of_le hb h.1) a2;exact⟨c1.trans a1,c2⟩
def Off (A:Option Addr) (v:Value):Prop:=∀b o,A=some ⟨b,o,none⟩->v.ownBlock≠some b
section
variable {w:World} {ops:Array Oper} {rest:List Oper} {o:Oper} {a:Act} {Q:Exit->Act->World->Prop}
end
attribute [local go_sem] Ex List.getElem_cons_zero List.getElem_cons_succ Cr Cs DM Dz
end Tr
namespace Tr
open Go.RowKit Af Nm
attribute [local go_sem] Ex List.getElem_cons_zero List.getElem_cons_succ Cr Cs DM Dz
def OwnB (w:World) (base:Nat) (v:Value) (l:L):Prop:=w.ownsRow base 5 1 v l.length (bvs l)
theorem OwnB.nil (w:World) (base:Nat):OwnB w base (.slice none 0 0) []:=World.ownsRow_nil w base _ 1
theorem OwnB.slice {w:World} {base:Nat} {v:Value} {l:L} (h:OwnB w base v l):∃A c,v=.slice A l.length c/\Rd w w.heap.size A (bvs l):=by
 have h':=h;rcases h.2 with⟨h1,h2⟩ | ⟨g,cap,cur,h1,_⟩
 ·have e:l = []:=List.eq_nil_of_length_eq_zero h2
  subst e;exact⟨none,0,h1,.inl rfl⟩
 ·subst h1
  exact⟨_,cap,rfl,Rd.of_own (n:=l.length) (cap:=cap) h'⟩
section
variable {w:World} {ops:Array Oper} {rest:List Oper} {o:Oper} {a:Act} {Q:Exit->Act->World->Prop}
end
theorem Dg {ls:List L} {i:Nat} (h:(ls.take i).all isL=true) (hi:i<ls.length) (hx:isL (pl ls i)=true):(ls.take (i+1)).all isL=true:=by
 rw[Hy hi,List.all_append,h];simp [hx]
end Tr
namespace Ms
open DerP
open Nm (De isL tgL Cc Cf By)
abbrev Pr:=L×L
structure Tk where
 s:Pr
 k:Int
 b:L
deriving DecidableEq
structure Pt where
 c:Pr
 ss:L
 tr:L
 st:Int
 en:Int
deriving DecidableEq
structure An where
 c:Pr
 t:Int
 q:Int
deriving DecidableEq
structure Rp where
 ss:L
 s:Pr
 st:Int
 en:Int
 no:Int
deriving DecidableEq
structure As where
 c:Pr
 s:Pr
 t:Int
 no:Int
deriving DecidableEq
structure Tg where
 t:Tk
 a:L
 s:Pr
 u:Int
 no:Int
deriving DecidableEq
structure Re where
 c:Pr
 t:Tk
 b:L
deriving DecidableEq
structure Ap where
 t:Tk
 a:L
deriving DecidableEq
structure Fa where
 e:Int
 no:Int
deriving DecidableEq
structure Mg where
 k:Int
 aq:As
 tg:Tg
 re:Re
 ap:Ap
 fa:Fa
deriving DecidableEq
def pr0:Pr:=([],[])
def tk0:Tk:=⟨pr0,0,[]⟩
def as0:As:=⟨pr0,pr0,0,0⟩
def tg0:Tg:=⟨tk0,[],pr0,0,0⟩
def re0:Re:=⟨pr0,tk0,[]⟩
def ap0:Ap:=⟨tk0,[]⟩
def fa0:Fa:=⟨0,0⟩
def key0:L:=List.replicate 32 0
def pt0:Pt:=⟨pr0,key0,[],0,0⟩
def an0:An:=⟨pr0,0,0⟩
def inB (n a b:Int):Bool:=decide (a<=n)&&decide (n<=b)
def Da (b:L):Bool:=decide (1<=b.length)&&decide (b.length<=800)
def prB (p:Pr):Bool:=De p.1 p.2
def tmB (n:Int):Bool:=inB n 0 1073741824
def tkB (t:Tk):Bool:=prB t.s&&(inB t.k 1 255&&Da t.b)
def txtB (l:L):Bool:=l.all fun x=>decide (32<=x.toNat)&&decide (x.toNat<=126)
def ptB (p:Pt):Bool:=txtB p.tr&&(prB p.c&&(decide (p.tr.length<=300)&&(tmB p.st&&tmB p.en)))
def anB (a:An):Bool:=prB a.c&&(tmB a.t&&tmB a.q)
def rpB (p:Rp):Bool:=prB p.s&&(tmB p.st&&(tmB p.en&&tmB p.no))
def asB (q:As):Bool:=prB q.c&&(prB q.s&&(tmB q.t&&tmB q.no))
def tgB (q:Tg):Bool:=tkB q.t&&(Da q.a&&(prB q.s&&(tmB q.u&&tmB q.no)))
def reB (q:Re):Bool:=prB q.c&&(tkB q.t&&Da q.b)
def apB (q:Ap):Bool:=tkB q.t&&Da q.a
def faB (q:Fa):Bool:=inB q.e 1 255&&tmB q.no
def mgB (m:Mg):Bool:=
 if m.k=1 then asB m.aq&&decide (m=⟨1,m.aq,tg0,re0,ap0,fa0⟩)
 else if m.k=2 then tgB m.tg&&decide (m=⟨2,as0,m.tg,re0,ap0,fa0⟩)
 else if m.k=3 then reB m.re&&decide (m=⟨3,as0,tg0,m.re,ap0,fa0⟩)
 else if m.k=4 then apB m.ap&&decide (m=⟨4,as0,tg0,re0,m.ap,fa0⟩)
 else if m.k=5 then faB m.fa&&decide (m=⟨5,as0,tg0,re0,ap0,m.fa⟩)
 else false
def prE (p:Pr):L:=elem 48 [elem 27 p.1,elem 27 p.2].flatten
def tkE (t:Tk):L:=elem 97 [prE t.s,encI t.k,elem 4 t.b].flatten
def ptE (p:Pt):L:=elem 99 [prE p.c,elem 4 p.ss,elem 27 p.tr,encI p.st,encI p.en].flatten
def anE (a:An):L:=elem 98 [prE a.c,encI a.t,encI a.q].flatten
def rpE (p:Rp):L:=elem 122 [elem 4 p.ss,prE p.s,encI p.st,encI p.en,encI p.no].flatten
def asE (q:As):L:=elem 106 [prE q.c,prE q.s,encI q.t,encI q.no].flatten
def tgE (q:Tg):L:=elem 108 [tkE q.t,elem 4 q.a,prE q.s,encI q.u,encI q.no].flatten
def reE (q:Re):L:=elem 107 [prE q.c,tkE q.t,elem 4 q.b].flatten
def apE (q:Ap):L:=elem 110 [tkE q.t,elem 4 q.a].flatten
def faE (q:Fa):L:=elem 126 [encI q.e,encI q.no].flatten
def mgE (m:Mg):L:=if m.k=1 then asE m.aq else if m.k=2 then tgE m.tg else if m.k=3 then reE m.re else if m.k=4 then apE m.ap else faE m.fa
def limO (ok:Bool) (l:L):Option L:=if ok=true/\l.length<=2000 then some l else none
def mgO (m:Mg):Option L:=limO (mgB m) (mgE m)
def ptO (p:Pt):Option L:=limO (ptB p) (ptE p)
def anO (a:An):Option L:=limO (anB a) (anE a)
def rpO (p:Rp):Option L:=limO (rpB p) (rpE p)
def whC (c:Option L):Bool:=decide (c=some [])
def txC (c:Option L):L:=(AJ 27 c).getD []
def ocC (c:Option L):L:=(AJ 4 c).getD []
def prI (d:Option L):Pr:=(txC d,txC (AQ 27 d))
def prP (c:Option L):Pr×Option L:=(prI (AJ 48 c),if whC (AQ 27 (AQ 27 (AJ 48 c))) then AQ 48 c else none)
def nmP (c:Option L):Int×Option L:=(((intC c).1:Int),(intC c).2)
def keP (c:Option L):L×Option L:=if (ocC c).length=32 then (ocC c,AQ 4 c) else (key0,none)
def ptP (b:L):Pt×Option L:=
 let c1:=prP (AJ 99 (some b));let c2:=keP c1.2;let c3:=AQ 27 c2.2;let c4:=nmP c3;let c5:=nmP c4.2
 (⟨c1.1,c2.1,txC c2.2,c4.1,c5.1⟩,c5.2)
def anP (b:L):An×Option L:=
 let c1:=prP (AJ 98 (some b));let c2:=nmP c1.2;let c3:=nmP c2.2
 (⟨c1.1,c2.1,c3.1⟩,c3.2)
def ptD (b:L):Option Pt:=if ptO (ptP b).1=some b then some (ptP b).1 else none
def anD (b:L):Option An:=if anO (anP b).1=some b then some (anP b).1 else none
theorem AD (t:UInt8) (p:L):(elem t p).length<=p.length+4:=by
 rw[Eg,BZ];split
 ·omega
 ·split<;>omega
theorem AF (n:Int):(encI n).length<=12:=by
 have:=AD 2 (dig (BV n));have:=Im n;rw[encI];omega
theorem Ul {n:L} (h:(tgL n||Cc Cf n)=true):n.length<=43:=by
 rw[Bool.or_eq_true] at h;rcases h with h | h
 ·rw[Nm.tgL,Bool.and_eq_true] at h
  have h1:By (Nm.cpL Nm.krb n)≠0:=by have:=h.2;simp only[isL,decide_eq_true_eq] at this;omega
  have h2:=Tr.NZ h1;have h3:Nm.cpL Nm.krb n=n.drop 7:=by rw[Nm.cpL,h.1];rfl
  rw[h3,List.length_drop] at h2;omega
 ·have:=(Nm.EE _ _).1 h
  omega
theorem Fp {p:Pr} (h:prB p=true):p.1.length<=36/\p.2.length<=43:=by
 rw[prB,De,Bool.and_eq_true] at h;refine⟨Tr.NZ ?_,Ul h.2⟩;have:=h.1;simp only[isL,decide_eq_true_eq] at this;omega
theorem FY (a b:L):[a,b].flatten=a++b:=by simp
theorem FZ (a b c:L):[a,b,c].flatten=a++(b++c):=by simp
theorem Um (a b c d:L):[a,b,c,d].flatten=a++(b++(c++d)):=by simp
theorem Fq (a b c d e:L):[a,b,c,d,e].flatten=a++(b++(c++(d++e))):=by simp
theorem Bb {p:Pr} (h:prB p=true):(prE p).length<=91/\[elem 27 p.1,elem 27 p.2].flatten.length<=87:=by
 have h1:=Fp h;have h2:=AD 27 p.1;have h3:=AD 27 p.2;have h4:=AD 48 [elem 27 p.1,elem 27 p.2].flatten;have h5:[elem 27 p.1,elem 27 p.2].flatten.length=(elem 27 p.1).length+(elem 27 p.2).length:=by simp
 rw[prE];omega
theorem Ob {t:Tk} (h:tkB t=true):prB t.s=true/\(1<=t.k/\t.k<=255)/\(1<=t.b.length/\t.b.length<=800):=by
 simpa [tkB,inB,Da] using h
theorem Hk {t:Tk} (h:tkB t=true):(tkE t).length<=911/\[prE t.s,encI t.k,elem 4 t.b].flatten.length<=907:=by
 obtain⟨h1,_,h2⟩:=Ob h;have h3:=(Bb h1).1;have h4:=AF t.k;have h5:=AD 4 t.b;have h6:=AD 97 [prE t.s,encI t.k,elem 4 t.b].flatten;have h7:[prE t.s,encI t.k,elem 4 t.b].flatten.length=(prE t.s).length+((encI t.k).length+(elem 4 t.b).length):=by simp
 rw[tkE];omega
section
variable {t:UInt8} {p r:L}
theorem be (h:p.length<=65535) (r:L):AJ t (some (elem t p++r))=some p:=(Dr (DV t p r h)).1
theorem ne (h:p.length<=65535) (r:L):AQ t (some (elem t p++r))=some r:=(Dr (DV t p r h)).2
theorem be0 (h:p.length<=65535):AJ t (some (elem t p))=some p:=by have:=be (t:=t) h [];rwa [List.append_nil] at this
theorem ne0 (h:p.length<=65535):AQ t (some (elem t p))=some []:=by have:=ne (t:=t) h [];rwa [List.append_nil] at this
theorem Un (h:p.length<=65535) (r:L):txC (some (elem 27 p++r))=p:=by rw[txC,be h];rfl
theorem VG (h:p.length<=65535):txC (some (elem 27 p))=p:=by rw[txC,be0 h];rfl
theorem YE (h:p.length<=65535) (r:L):ocC (some (elem 4 p++r))=p:=by rw[ocC,be h];rfl
end
theorem Jb {n:Int} (h0:0<=n) (h1:n<=4611686018427387904) (r:L):nmP (some (encI n++r))=(n,some r):=by
 rw[nmP,WG,IL n h0 h1]
 congr 1
 omega
theorem Ip {n:Int} (h0:0<=n) (h1:n<=4611686018427387904):nmP (some (encI n))=(n,some []):=by
 have:=Jb h0 h1 [];rwa [List.append_nil] at this
theorem QX {p:Pr} (h:prB p=true) (r:L):prP (some (prE p++r))=(p,some r):=by
 have h1:=Fp h;have h2:=(Bb h).2;rw[prP,prE,be (by omega),ne (by omega),FY,prI,Un (by omega),ne (by omega),VG (by omega),ne0 (by omega)]
 rfl
theorem WN {k:L} (h:k.length=32) (r:L):keP (some (elem 4 k++r))=(k,some r):=by
 rw[keP,YE (by omega),if_pos h,ne (by omega)]
theorem DD {n:Int} (h:tmB n=true):0<=n/\n<=1073741824:=by simpa [tmB,inB] using h
theorem CY {p:Pt} (h:ptB p=true):txtB p.tr=true/\prB p.c=true/\p.tr.length<=300/\tmB p.st=true/\tmB p.en=true:=by
 simpa [ptB] using h
theorem MP {p:Pt} (h:ptB p=true) (hk:p.ss.length=32):ptP (ptE p)=(p,some []):=by
 obtain⟨_,h2,h3,h4,h5⟩:=CY h;have t4:=DD h4;have t5:=DD h5;have l1:=(Bb h2).1;have l2:=AD 4 p.ss;have l3:=AD 27 p.tr;have l4:=AF p.st;have l5:=AF p.en;have l6:[prE p.c,elem 4 p.ss,elem 27 p.tr,encI p.st,encI p.en].flatten.length<=65535:=by simp only[List.flatten_cons,List.flatten_nil,List.length_append,List.length_nil];omega
 rw[ptP,ptE,be0 l6,Fq,QX h2];simp only;rw[WN hk];simp only;rw[Un (by omega),ne (by omega),Jb (by omega) (by omega)];simp only;rw[Ip (by omega) (by omega)]
theorem QY {a:An} (h:anB a=true):anP (anE a)=(a,some []):=by
 have h':prB a.c=true/\tmB a.t=true/\tmB a.q=true:=by simpa [anB] using h
 obtain⟨h2,h4,h5⟩:=h';have t4:=DD h4;have t5:=DD h5;have l1:=(Bb h2).1;have l4:=AF a.t;have l5:=AF a.q;have l6:[prE a.c,encI a.t,encI a.q].flatten.length<=65535:=by simp only[List.flatten_cons,List.flatten_nil,List.length_append,List.length_nil];omega
 rw[anP,anE,be0 l6,FZ,QX h2];simp only;rw[Jb (by omega) (by omega)];simp only;rw[Ip (by omega) (by omega)]
theorem Dk {b:L} (h:Da b=true):1<=b.length/\b.length<=800:=by simpa [Da] using h
theorem Oc {m:Mg} (h:mgB m=true) :
  (asB m.aq=true/\m=⟨1,m.aq,tg0,re0,ap0,fa0⟩)\/(tgB m.tg=true/\m=⟨2,as0,m.tg,re0,ap0,fa0⟩)\/(reB m.re=true/\m=⟨3,as0,tg0,m.re,ap0,fa0⟩)\/
  (apB m.ap=true/\m=⟨4,as0,tg0,re0,m.ap,fa0⟩)\/(faB m.fa=true/\m=⟨5,as0,tg0,re0,ap0,m.fa⟩):=by
 unfold mgB at h
 split at h
 ·rw[Bool.and_eq_true,decide_eq_true_eq] at h;exact .inl h
 ·split at h
  ·rw[Bool.and_eq_true,decide_eq_true_eq] at h;exact .inr (.inl h)
  ·split at h
   ·rw[Bool.and_eq_true,decide_eq_true_eq] at h;exact .inr (.inr (.inl h))
   ·split at h
    ·rw[Bool.and_eq_true,decide_eq_true_eq] at h;exact .inr (.inr (.inr (.inl h)))
    ·split at h
     ·rw[Bool.and_eq_true,decide_eq_true_eq] at h;exact .inr (.inr (.inr (.inr h)))
     ·cases h
theorem CS {ok:Bool} {l b:L}:limO ok l=some b↔ok=true/\l.length<=2000/\l=b:=by
 unfold limO
 split
 ·rename_i h
  exact⟨fun e=>⟨h.1,h.2,Option.some.inj e⟩,fun e=>by rw[e.2.2]⟩
 ·rename_i h
  exact⟨fun e=>by(cases e),fun e=>False.elim (h (And.intro e.1 e.2.1))⟩
theorem VH {b:L} {p:Pt} (hk:p.ss.length=32):ptD b=some p↔ptO p=some b:=by
 unfold ptD;constructor
 ·intro h
  split at h
  ·rename_i h2;injection h with h;rw[<-h];exact h2
  ·cases h
 ·intro h
  have h2:=CS.1 h;have e:(ptP b).1=p:=by rw[<-h2.2.2,MP h2.1 hk]
  rw[e,if_pos h]
theorem VI {b:L} {a:An}:anD b=some a↔anO a=some b:=by
 unfold anD;constructor
 ·intro h
  split at h
  ·rename_i h2;injection h with h;rw[<-h];exact h2
  ·cases h
 ·intro h
  have h2:=CS.1 h;have e:(anP b).1=a:=by rw[<-h2.2.2,QY h2.1]
  rw[e,if_pos h]
theorem QZ (c:Option L):(keP c).1.length=32:=by
 unfold keP
 split
 ·assumption
 ·rfl
theorem WO {b:L} {p:Pt} (h:ptD b=some p):ptO p=some b/\(ptP b)=(p,some []):=by
 unfold ptD at h
 split at h
 ·rename_i h2
  injection h with h;have hk:p.ss.length=32:=by rw[<-h];exact QZ _
  rw[h] at h2;have h3:=CS.1 h2;exact⟨h2,by rw[<-h3.2.2];exact MP h3.1 hk⟩
 ·cases h
end Ms
namespace Rt
open Nm
abbrev Pr:=L×L
structure Pa where
 f:L
 t:L
 v:List L
structure Tp where
 R:List L
 K:List Pr
 P:List Pa
def kl (K:List Pr) (i:Nat):Pr:=K.getD i ([],[])
def al (P:List Pa) (i:Nat):Pa:=P.getD i ⟨[],[],[]⟩
theorem Ga {K:List Pr} {i:Nat} (h:i<K.length):kl K i=K[i]:=by simp [kl,h]
theorem MQ {P:List Pa} {i:Nat} (h:i<P.length):al P i=P[i]:=by simp [al,h]
theorem VJ {K:List Pr} {i:Nat} (h:i<K.length):kl K i∈K:=by rw[Ga h];exact List.getElem_mem h
theorem YF {K:List Pr} {x:Pr} (h:x∈K):∃i,i<K.length/\kl K i=x:=by
 obtain⟨i,hi,e⟩:=List.getElem_of_mem h;exact⟨i,hi,by rw[Ga hi];exact e⟩
theorem VK {P:List Pa} {i:Nat} (h:i<P.length):al P i∈P:=by rw[MQ h];exact List.getElem_mem h
section
variable {α:Type}
theorem take_succ {l:List α} {i:Nat} (h:i<l.length):l.take (i+1)=l.take i++[l[i]]:=List.take_succ_eq_append_getElem h
theorem Dl {l:List α} {i:Nat} (h:i<l.length):(l.take (i+1)).Nodup↔(l.take i).Nodup/\l[i]∉l.take i:=by
 rw[take_succ h,List.nodup_append];constructor
 ·rintro⟨h1,_,h3⟩
  exact⟨h1,fun hm=>h3 _ hm _ (by simp) rfl⟩
 ·rintro⟨h1,h2⟩
  refine⟨h1,by simp,fun a ha b hb=>?_⟩;rw[List.mem_singleton] at hb;subst hb;rintro rfl;exact h2 ha
theorem FL {l:List α} {i:Nat} (h:l.Nodup):(l.take i).Nodup:=h.sublist (List.take_sublist _ _)
theorem all_succ {l:List α} {p:α->Bool} {i:Nat} (h:i<l.length):(l.take (i+1)).all p=((l.take i).all p&&p l[i]):=by
 rw[take_succ h,List.all_append,List.all_cons,List.all_nil,Bool.and_true]
theorem all_false {l:List α} {p:α->Bool} {i:Nat} (h:i<l.length) (hp:p l[i]=false):l.all p=false:=by
 cases q:l.all p with
 |false=>rfl
 |true=>rw[List.all_eq_true] at q;rw[q _ (List.getElem_mem h)] at hp;cases hp
theorem Dg {l:List α} {p:α->Bool} {i:Nat} (h:l.length<=i) (hp:(l.take i).all p=true):l.all p=true:=by
 rwa [List.take_of_length_le h] at hp
end
def BA (R:List L):Bool:=R.all isL&&decide R.Nodup
def CJ (R:List L) (p:Pr):Bool:=decide (p.1≠p.2)&&(decide (p.1∈R)&&decide (p.2∈R))
def Cu (K:List Pr) (R:List L):Bool:=K.all (CJ R)&&decide K.Nodup
def onB (R:List L) (p:Pa) (r:L):Bool:=decide (r≠p.f)&&(decide (r≠p.t)&&decide (r∈R))
def viaB (R:List L) (p:Pa):Bool:=decide (p.v.length<=4)&&(p.v.all (onB R p)&&decide p.v.Nodup)
def DY (P:List Pa):List Pr:=P.map fun p=>(p.f,p.t)
def Gf (P:List Pa) (R:List L):Bool:=P.all (viaB R)&&Cu (DY P) R
def isT (T:Tp):Bool:=(decide (1<=T.R.length)&&decide (T.R.length<=6))&&((decide (T.K.length<=20)&&decide (T.P.length<=8))&&(BA T.R&&(Cu T.K T.R&&Gf T.P T.R)))
def Ev (R:List L) (p:Pa):Bool:=CJ R (p.f,p.t)&&viaB R p
theorem KE (P:List Pa) (R:List L):Gf P R=(P.all (Ev R)&&decide (DY P).Nodup):=by
 rw[Gf,Cu,<-Bool.and_assoc]
 congr 1
 induction P with
 |nil=>rfl
 |cons a t ih=>
  simp only[List.all_cons,DY,List.map_cons,Ev] at ih⊢;rw[<-ih];cases viaB R a<;>cases CJ R (a.f,a.t)<;>simp
def linkL (T:Tp) (a b:L):Bool:=decide ((a,b)∈T.K)
def isP (a b:L) (p:Pa):Bool:=decide (p.f=a)&&decide (p.t=b)
def YG (T:Tp) (a b:L):Nat:=T.P.findIdx (isP a b)
def laidB (T:Tp) (a b:L):Bool:=decide (YG T a b<T.P.length)
def vL (T:Tp) (a b:L):List L:=(al T.P (YG T a b)).v
def YH (T:Tp) (a b:L):List L:=if laidB T a b then [(vL T a b).headD b] else b :: (NL a b).reverse
def WQ (T:Tp) (a b:L):Option L:=if a=b then none else (YH T a b).find? (linkL T a)
def nxS (T:Tp) (a b:L):L:=(WQ T a b).getD []
def nxB (T:Tp) (a b:L):Bool:=(WQ T a b).isSome
open Go.RowKit Af
def stp (p:Pr):Value:=.agg #[st p.1,st p.2]
def SlV (w:World) (B:Nat) (v:Value) (ls:List L):Prop:=∃A c,v=.slice A ls.length c/\ls.length<=c/\Rd w B A (strs ls)
def RdP (w:World) (B:Nat) (A:Option Addr) (K:List Pr):Prop:=
 K = []\/∃b o,A=some ⟨b,o,none⟩/\b<B/\∀i,i<K.length->w.cell? ⟨b,o+i*2,none⟩=some (.string ⟨(kl K i).1.toArray⟩)/\w.cell? ⟨b,o+i*2+1,none⟩=some (.string ⟨(kl K i).2.toArray⟩)
def SlP (w:World) (B:Nat) (v:Value) (K:List Pr):Prop:=∃A c,v=.slice A K.length c/\K.length<=c/\RdP w B A K
def RdA (w:World) (B:Nat) (A:Option Addr) (P:List Pa):Prop:=
 P = []\/∃b o,A=some ⟨b,o,none⟩/\b<B/\∀i,i<P.length->w.cell? ⟨b,o+i*3,none⟩=some (.string ⟨(al P i).f.toArray⟩)/\w.cell? ⟨b,o+i*3+1,none⟩=some (.string ⟨(al P i).t.toArray⟩)/\
  ∃v,w.cell? ⟨b,o+i*3+2,none⟩=some v/\SlV w B v (al P i).v
def SlA (w:World) (B:Nat) (v:Value) (P:List Pa):Prop:=∃A c,v=.slice A P.length c/\P.length<=c/\RdA w B A P
def TpV (w:World) (B:Nat) (v:Value) (T:Tp):Prop:=∃v1 v2 v3,v=.agg #[v1,v2,v3]/\SlV w B v1 T.R/\SlP w B v2 T.K/\SlA w B v3 T.P
def PaV (w:World) (B:Nat) (v:Value) (p:Pa):Prop:=∃u,v=.agg #[.string ⟨p.f.toArray⟩,.string ⟨p.t.toArray⟩,u]/\SlV w B u p.v
section
variable {w w':World} {B B':Nat} {A:Option Addr} {v:Value} {ls:List L} {K:List Pr} {P:List Pa} {T:Tp} {p:Pa}
theorem SlV.keep (h:SlV w B v ls) (hk:∀b o,b<B->w'.cell? ⟨b,o,none⟩=w.cell? ⟨b,o,none⟩):SlV w' B v ls:=by
 obtain⟨A,c,h1,h2,h3⟩:=h;exact⟨A,c,h1,h2,h3.keep hk⟩
theorem SlV.more (h:SlV w B v ls) (hB:B<=B'):SlV w B' v ls:=by
 obtain⟨A,c,h1,h2,h3⟩:=h;exact⟨A,c,h1,h2,h3.more hB⟩
theorem RdP.keep (h:RdP w B A K) (hk:∀b o,b<B->w'.cell? ⟨b,o,none⟩=w.cell? ⟨b,o,none⟩):RdP w' B A K:=by
 rcases h with h | ⟨b,o,h1,h2,h3⟩
 ·exact .inl h
 ·exact .inr ⟨b,o,h1,h2,fun i hi=>⟨(hk _ _ h2).trans (h3 i hi).1,(hk _ _ h2).trans (h3 i hi).2⟩⟩
theorem RdP.more (h:RdP w B A K) (hB:B<=B'):RdP w B' A K:=by
 rcases h with h | ⟨b,o,h1,h2,h3⟩
 ·exact .inl h
 ·exact .inr ⟨b,o,h1,by omega,h3⟩
theorem SlP.keep (h:SlP w B v K) (hk:∀b o,b<B->w'.cell? ⟨b,o,none⟩=w.cell? ⟨b,o,none⟩):SlP w' B v K:=by
 obtain⟨A,c,h1,h2,h3⟩:=h;exact⟨A,c,h1,h2,h3.keep hk⟩
theorem SlP.more (h:SlP w B v K) (hB:B<=B'):SlP w B' v K:=by
 obtain⟨A,c,h1,h2,h3⟩:=h;exact⟨A,c,h1,h2,h3.more hB⟩
theorem RdA.keep (h:RdA w B A P) (hk:∀b o,b<B->w'.cell? ⟨b,o,none⟩=w.cell? ⟨b,o,none⟩):RdA w' B A P:=by
 rcases h with h | ⟨b,o,h1,h2,h3⟩
 ·exact .inl h
 ·refine .inr ⟨b,o,h1,h2,fun i hi=>⟨(hk _ _ h2).trans (h3 i hi).1,(hk _ _ h2).trans (h3 i hi).2.1,?_⟩⟩
  obtain⟨v,h4,h5⟩:=(h3 i hi).2.2;exact⟨v,(hk _ _ h2).trans h4,h5.keep hk⟩
theorem SlA.keep (h:SlA w B v P) (hk:∀b o,b<B->w'.cell? ⟨b,o,none⟩=w.cell? ⟨b,o,none⟩):SlA w' B v P:=by
 obtain⟨A,c,h1,h2,h3⟩:=h;exact⟨A,c,h1,h2,h3.keep hk⟩
theorem TpV.keep (h:TpV w B v T) (hk:∀b o,b<B->w'.cell? ⟨b,o,none⟩=w.cell? ⟨b,o,none⟩):TpV w' B v T:=by
 obtain⟨v1,v2,v3,h1,h2,h3,h4⟩:=h;exact⟨v1,v2,v3,h1,h2.keep hk,h3.keep hk,h4.keep hk⟩
theorem PaV.keep (h:PaV w B v p) (hk:∀b o,b<B->w'.cell? ⟨b,o,none⟩=w.cell? ⟨b,o,none⟩):PaV w' B v p:=by
 obtain⟨u,h1,h2⟩:=h;exact⟨u,h1,h2.keep hk⟩
theorem SlV.below (h:SlV w B v ls) (hb:Below B w w'):SlV w' B v ls:=h.keep fun _ _ hp=>hb.cell hp
theorem RdP.below (h:RdP w B A K) (hb:Below B w w'):RdP w' B A K:=h.keep fun _ _ hp=>hb.cell hp
theorem SlP.below (h:SlP w B v K) (hb:Below B w w'):SlP w' B v K:=h.keep fun _ _ hp=>hb.cell hp
theorem RdA.below (h:RdA w B A P) (hb:Below B w w'):RdA w' B A P:=h.keep fun _ _ hp=>hb.cell hp
theorem TpV.below (h:TpV w B v T) (hb:Below B w w'):TpV w' B v T:=h.keep fun _ _ hp=>hb.cell hp
theorem SlV.on (h:SlV w w.heap.size v ls) (hb:Below w.heap.size w w'):SlV w' w'.heap.size v ls:=(h.below hb).more hb.size
theorem SlP.on (h:SlP w w.heap.size v K) (hb:Below w.heap.size w w'):SlP w' w'.heap.size v K:=(h.below hb).more hb.size
theorem IZ {i:Nat} (h:Rd w B A (strs ls)) (hi:i<=ls.length):Rd w B A (strs (ls.take i)):=by
 rcases h with h | ⟨b,o,h1,h2,h3⟩
 ·left
  have:ls = []:=List.map_eq_nil_iff.1 h;subst this;simp [strs]
 ·refine .inr ⟨b,o,h1,h2,fun j u hu=>h3 j u ?_⟩
  simp only[strs,List.map_take,List.getElem?_take] at hu⊢
  split at hu
  ·exact hu
  ·cases hu
theorem WR {i j:Nat} (h:j<i) (h2:j<K.length):kl (K.take i) j=kl K j:=by
 rw[Ga (by simp;omega),Ga h2];simp
theorem Uo {i:Nat} (h:RdP w B A K):RdP w B A (K.take i):=by
 rcases h with h | ⟨b,o,h1,h2,h3⟩
 ·subst h;exact .inl (by simp)
 ·refine .inr ⟨b,o,h1,h2,fun j hj=>?_⟩
  simp only[List.length_take] at hj;rw[WR (by omega) (by omega)];exact h3 j (by omega)
theorem Lx {i:Nat} (h:RdP w B A K) (hi:i<K.length):∃b o,A=some ⟨b,o,none⟩/\b<B/\w.cell? ⟨b,o+i*2,none⟩=some (.string ⟨(kl K i).1.toArray⟩)/\w.cell? ⟨b,o+i*2+1,none⟩=some (.string ⟨(kl K i).2.toArray⟩):=by
 rcases h with h | ⟨b,o,h1,h2,h3⟩
 ·subst h;simp at hi
 ·exact⟨b,o,h1,h2,h3 i hi⟩
theorem Ra {i:Nat} (h:RdA w B A P) (hi:i<P.length):∃b o,A=some ⟨b,o,none⟩/\b<B/\w.cell? ⟨b,o+i*3,none⟩=some (.string ⟨(al P i).f.toArray⟩)/\w.cell? ⟨b,o+i*3+1,none⟩=some (.string ⟨(al P i).t.toArray⟩)/\
  ∃v,w.cell? ⟨b,o+i*3+2,none⟩=some v/\SlV w B v (al P i).v:=by
 rcases h with h | ⟨b,o,h1,h2,h3⟩
 ·subst h;simp at hi
 ·exact⟨b,o,h1,h2,h3 i hi⟩
end
def ixP (x:Pr) (K:List Pr):Int:=if x∈K then ((K.findIdx fun y=>decide (y=x):Nat):Int) else -1
theorem Rb {K:List Pr} {x:Pr} {i:Nat} (hi:i<K.length) (h:kl K i=x) (hn:∀k,k<i->kl K k≠x):ixP x K=(i:Int):=by
 have hm:x∈K:=by rw[<-h];exact VJ hi
 rw[ixP,if_pos hm]
 congr 1
 rcases Nat.lt_trichotomy (K.findIdx fun y=>decide (y=x)) i with g | g | g
 ·have:=List.findIdx_getElem (p:=fun y=>decide (y=x)) (w:=(by omega:(K.findIdx fun y=>decide (y=x))<K.length))
  exact absurd (by rw[Ga (by omega)];simpa using this) (hn _ g)
 ·exact g
 ·have:=List.not_of_lt_findIdx g
  rw[Ga hi] at h;simp [h] at this
theorem Up {K:List Pr} {x:Pr} (hn:∀k,k<K.length->kl K k≠x):ixP x K = -1:=by
 rw[ixP,if_neg];intro hm;obtain⟨i,hi,e⟩:=YF hm;exact hn i hi e
theorem YI (x:Pr) (K:List Pr):decide (0<=ixP x K)=decide (x∈K):=by
 rw[ixP]
 by_cases h:x∈K
 ·rw[if_pos h];simp [h]
 ·rw[if_neg h];simp [h]
theorem Iq (xs:Array Value) (i:Nat) (u:L) (h:xs[i]? = some (.string ⟨u.toArray⟩)) (w:World):(part 9 xs (i*Tryz.prog.cellsOf 9)).run Tryz.prog w=.ok (.string ⟨u.toArray⟩) w:=by
 have c9:Tryz.prog.cellsOf 9=1:=by kernel_rfl
 have u9:=Tryz.underlying9;rw[c9,Nat.mul_one];unfold part
 go_simp
theorem WS (a b:L) (w:World):(Op.equalIn 9999 9 (.string ⟨a.toArray⟩) (.string ⟨b.toArray⟩)).run Tryz.prog w=.ok (decide (a=b)) w:=by
 rw[show(9999:Nat)=9998+1 from rfl,run_equalIn_string w 9998 _ _ _ Tryz.underlying9]
 congr 1
 rw[ByteArray.toList_eq,ByteArray.toList_eq]
 by_cases h:a=b<;>simp [h]
theorem Od (x y:Pr) (w:World):(Op.equalIn 10000 138 (.agg #[.string ⟨x.1.toArray⟩,.string ⟨x.2.toArray⟩]) (.agg #[.string ⟨y.1.toArray⟩,.string ⟨y.2.toArray⟩])).run Tryz.prog w=.ok (decide (x=y)) w:=by
 obtain⟨i0,hi0,_,_,_⟩:=info_parts Ks;rw[run_equalIn_array w 9999 _ _ Tryz.underlying138 hi0];show(Op.eqItems 9999 9 (Tryz.prog.cellsOf 9) _ _ [0,1]).run Tryz.prog w=_;have p1:=Iq #[.string ⟨x.1.toArray⟩,.string ⟨x.2.toArray⟩] 0 x.1 rfl;have p2:=Iq #[.string ⟨x.1.toArray⟩,.string ⟨x.2.toArray⟩] 1 x.2 rfl;have p3:=Iq #[.string ⟨y.1.toArray⟩,.string ⟨y.2.toArray⟩] 0 y.1 rfl;have p4:=Iq #[.string ⟨y.1.toArray⟩,.string ⟨y.2.toArray⟩] 1 y.2 rfl;obtain⟨a,b⟩:=x;obtain⟨c,d⟩:=y;simp only at p1 p2 p3 p4;simp only[Op.eqItems,Sem.run_bind,p1,p2,p3,p4,Result.andThen_ok,WS,Sem.run_ite,Sem.run_pure]
 by_cases h1:a=c<;>by_cases h2:b=d<;>simp [h1,h2]
theorem Rc (x y:Pr) (h:x=y):∀w,(Op.equalIn 10000 138 (.agg #[.string ⟨x.1.toArray⟩,.string ⟨x.2.toArray⟩]) (.agg #[.string ⟨y.1.toArray⟩,.string ⟨y.2.toArray⟩])).run Tryz.prog w=.ok true w:=fun w=>by rw[Od,decide_eq_true h]
theorem VL (x y:Pr) (h:x≠y):∀w,(Op.equalIn 10000 138 (.agg #[.string ⟨x.1.toArray⟩,.string ⟨x.2.toArray⟩]) (.agg #[.string ⟨y.1.toArray⟩,.string ⟨y.2.toArray⟩])).run Tryz.prog w=.ok false w:=fun w=>by rw[Od,decide_eq_false h]
theorem Pv (K:List Pr) (A:Option Addr) (c B:Nat) (x:Pr) (w:World) (hl:K.length<=1000000) (hr:RdP w B A K) (hB:B<=w.heap.size) :
  Calls Tryz.prog 207 #[.slice A K.length c,stp x] w fun e w'=>e=.returned (.int .i64 (ixP x K))/\Below w.heap.size w w':=by
 have HR:=I hr;clear hr;obtain⟨n,en⟩:=Ak (K.length);rw[<-en] at hl⊢;have EN:=I en;clear en;rw[stp,st,st];go_enter Tryz.func207,Tryz.ntmps207
 go_wp2
 have HK:=I (Blk.new w 138 #[.string ⟨x.1.toArray⟩,.string ⟨x.2.toArray⟩]);obtain⟨W,eW⟩:=Ak (w.alloc (.cells #[.string ⟨x.1.toArray⟩,.string ⟨x.2.toArray⟩] 138));rw[<-eW] at HK⊢;have HB:=I (show Below w.heap.size w W by rw[eW];exact Ah.alloc Ag _);have HG:=I (show w.heap.size<=W.heap.size from HB.o.size);obtain⟨g,eg⟩:=Ak (w.heap.size);rw[<-eg] at HK HB hB HG⊢;replace HR:=I ((HR.o.below (HB.o.mono hB)));have EG:=I eg;clear eW eg hB
 go_loopw [8] (fun iv wr=>∃i:Nat,i<=n/\iv=.int .i64 (i:Int)/\(∀k,k<i->kl K k≠x)/\AS W wr) (fun iv _=>n - (intOf iv).toNat)
 case atStart=>exact⟨0,Nat.zero_le _,rfl,fun k h=>absurd h (Nat.not_lt_zero k),AS.refl _⟩
 case round=>
  obtain⟨i,hi,rfl,hn,hd⟩:=hrel;have HN:=I hn;clear hn;have hrr:RdP wr B A K:=HR.o.keep fun b o _=>by obtain⟨m,rfl⟩:=hd;rfl
  have hk0:wr.cell? ⟨g,0,none⟩=some (.string ⟨x.1.toArray⟩):=by obtain⟨m,rfl⟩:=hd;exact HK.o.cell 0
  have hk1:wr.cell? ⟨g,1,none⟩=some (.string ⟨x.2.toArray⟩):=by obtain⟨m,rfl⟩:=hd;exact HK.o.cell 1
  have HDR:=I hd;clear hd
  by_cases hlt:i<n
  ·have e1:(i:Int)<(n:Int):=by omega
   have e2:(0:Int)<=(i:Int):=by omega
   obtain⟨b,o,rfl,_,h1,h2⟩:=Lx hrr (i:=i) (by rw[<-EN.o];exact hlt)
   by_cases hx:kl K i=x
   ·have t1:=Rc x (kl K i) hx.symm
    have E:=I (Rb (by rw[<-EN.o];exact hlt) hx HN.o);clear hx
    go_wp2
    go_quiet (fail)
    go_wp2
    go_ret;exact⟨by rw[E.o];rfl,by rw[<-EG.o];exact HB.o.trans ((HDR.o.trans ⟨_,rfl⟩).below.mono HG.o)⟩
   ·have t1:=VL x (kl K i) fun g=>hx g.symm
    have HX:=I hx;clear hx
    go_wp2
    go_quiet (fail)
    go_wp2
    go_roundw
    case rel=>exact⟨i+1,by omega,by go_num,fun k hk=>by
     by_cases q:k=i
     ·rw[q];exact HX.o
     ·exact HN.o k (by omega),HDR.o.trans ⟨_,rfl⟩⟩
    case measure=>simp [intOf];omega
  ·have e1:¬(i:Int)<(n:Int):=by omega
   have E:=I (Up (K:=K) (x:=x) fun k hk=>HN.o k (by have:=EN.o;omega))
   go_wp2
   go_ret;exact⟨by rw[E.o];rfl,by rw[<-EG.o];exact HB.o.trans (HDR.o.below.mono HG.o)⟩
theorem KF (K:List Pr) (A:Option Addr) (c B:Nat) (x:Pr) (w:World) (hl:K.length<=1000000) (hr:RdP w B A K) (hB:B<=w.heap.size) :
  Calls Tryz.prog 167 #[.slice A K.length c,stp x] w fun e w'=>e=.returned (.bool (decide (x∈K)))/\Below w.heap.size w w':=by
 have hb:=(Below.refl w.heap.size w).alloc Ag (.cells #[.string ⟨x.1.toArray⟩,.string ⟨x.2.toArray⟩] 138);have c1:=Pv K A c B x _ hl (hr.below (hb.mono hB)) (Nat.le_trans hB hb.size);have H:=I hb;clear hb;have E:=I (YI x K);obtain⟨z,ez⟩:=Ak (ixP x K);rw[<-ez] at c1;have EZ:=I ez;clear ez hr;rw[stp,st,st] at c1⊢;go_enter Tryz.func167,Tryz.ntmps167
 go_wp2_with (go_at_call 207;refine Aj c1 ?_;rintro w1 hb;replace H:=H.t hb;clear hb)
 go_ret;exact⟨by rw[<-E.o,<-EZ.o];rfl,H.o⟩
theorem Oe (ls:List L) (A:Option Addr) (c B:Nat) (w:World) (hl:ls.length<=1000000) (hc:ls.length<=c) (hr:Rd w B A (strs ls)) :
  Calls Tryz.prog 136 #[.slice A ls.length c] w fun e w'=>e=.returned (.bool (decide ls.Nodup))/\w=w':=by
 have HR:=I hr;clear hr;have C1:=I (fun(i:Nat) (hi:i<ls.length) w1 (h:Rd w1 B A (strs ls))=>Tr.DC (ls.take i) A c B (pl ls i) w1 (by simp;omega) (IZ h (by omega)));obtain⟨n,en⟩:=Ak (ls.length);rw[<-en] at hl hc⊢;have EN:=I en;clear en;go_enter Tryz.func136,Tryz.ntmps136
 go_wp2
 go_loop [7] (fun iv=>∃i:Nat,i<=n/\iv=.int .i64 (i:Int)/\(ls.take i).Nodup) (fun iv=>n - (intOf iv).toNat)
 case atStart=>exact⟨0,Nat.zero_le _,rfl,by simp⟩
 case round=>
  obtain⟨i,hi,rfl,hn⟩:=hrel;have HN:=I hn;clear hn
  by_cases hlt:i<n
  ·have e1:(i:Int)<(n:Int):=by omega
   have e2:(0:Int)<=(i:Int):=by omega
   have e3:(i:Int)<=(c:Int):=by omega
   have him:i<ls.length:=by rw[<-EN.o];exact hlt
   have c1:=C1.o i him w HR.o;have hlen:(ls.take i).length=i:=by simp;omega
   rw[hlen] at c1;have hs:=Dl him;rw[<-EI him] at hs;obtain⟨b,o,rfl,_,h1⟩:=EJ HR.o him
   by_cases hx:pl ls i∈ls.take i
   ·rw[decide_eq_true hx] at c1
    have E:=I (show decide ls.Nodup=false by
     rw[decide_eq_false_iff_not];intro hn;exact(hs.1 (FL hn)).2 hx)
    clear hx hs hlen him
    go_wp2_with (go_at_call 48;refine Aj c1 ?_;rintro w1 rfl;clear c1)
    go_ret;exact⟨by rw[E.o];rfl,rfl⟩
   ·rw[decide_eq_false hx] at c1
    have E:=I (hs.2 ⟨HN.o,hx⟩);clear hx hs hlen him
    go_wp2_with (go_at_call 48;refine Aj c1 ?_;rintro w1 rfl;clear c1)
    go_round
    case rel=>exact⟨i+1,by omega,by go_num,E.o⟩
    case measure=>simp [intOf];omega
  ·have e1:¬(i:Int)<(n:Int):=by omega
   have E:=I (show decide ls.Nodup=true by
    have h:=HN.o;rw[List.take_of_length_le (by have:=EN.o;omega)] at h;exact decide_eq_true h)
   go_wp2
   go_ret;exact⟨by rw[E.o];rfl,rfl⟩
theorem Rf (K:List Pr) (A:Option Addr) (c B:Nat) (w:World) (hl:K.length<=1000000) (hc:K.length<=c) (hr:RdP w B A K) (hB:B<=w.heap.size) :
  Calls Tryz.prog 137 #[.slice A K.length c] w fun e w'=>e=.returned (.bool (decide K.Nodup))/\Below w.heap.size w w':=by
 obtain⟨N,eN⟩:=Ak (w.heap.size);rw[<-eN] at hB⊢;have HB0:=I (show Below N w w from Below.refl _ _);have EN0:=I eN;clear eN;have HSZ:=I (show ∀w1:World,Below N w w1->N<=w1.heap.size from fun w1 h=>by have:=h.size;have:=EN0.o;omega);have HR:=I hr;clear hr;have C1:=I (fun(i:Nat) (hi:i<K.length) w1 (h:RdP w1 B A K) (hB1:B<=w1.heap.size)=>KF (K.take i) A c B (kl K i) w1 (by simp;omega) (Uo h) hB1);obtain⟨n,en⟩:=Ak (K.length);rw[<-en] at hl hc⊢;have EN:=I en;clear en;go_enter Tryz.func137,Tryz.ntmps137
 go_wp2
 go_loopw [7] (fun iv wr=>∃i:Nat,i<=n/\iv=.int .i64 (i:Int)/\(K.take i).Nodup/\Below N w wr) (fun iv _=>n - (intOf iv).toNat)
 case atStart=>exact⟨0,Nat.zero_le _,rfl,by simp,HB0.o⟩
 case round=>
  obtain⟨i,hi,rfl,hn,hb⟩:=hrel;have HN:=I hn;clear hn;have HB:=I hb;clear hb
  by_cases hlt:i<n
  ·have e1:(i:Int)<(n:Int):=by omega
   have e2:(0:Int)<=(i:Int):=by omega
   have e3:(i:Int)<=(c:Int):=by omega
   have him:i<K.length:=by rw[<-EN.o];exact hlt
   have hs:=Dl him;rw[<-Ga him] at hs;have hrw:=HR.o.below (HB.o.mono hB);obtain⟨b,o,rfl,_,h1,h2⟩:=Lx hrw him;have hlen:(K.take i).length=i:=by simp;omega
   have HK:=I (show Blk (wr.alloc (.cells #[.string ⟨(kl K i).1.toArray⟩,.string ⟨(kl K i).2.toArray⟩] 138)).drew wr.heap.size 138 #[.string ⟨(kl K i).1.toArray⟩,.string ⟨(kl K i).2.toArray⟩] from(Blk.new wr 138 _).drewN 1);have H:=I (show Below N w (wr.alloc (.cells #[.string ⟨(kl K i).1.toArray⟩,.string ⟨(kl K i).2.toArray⟩] 138)).drew from below_drewN (HB.o.alloc (by have:=HB.o.size;have:=EN0.o;omega) _) 1);have c1:=C1.o i him _ (HR.o.below (H.o.mono hB)) (Nat.le_trans hB (by have:=H.o.size;have:=EN0.o;omega));rw[hlen] at c1;rw[stp,st,st] at c1
   by_cases hx:kl K i∈K.take i
   ·rw[decide_eq_true hx] at c1
    have E:=I (show decide K.Nodup=false by
     rw[decide_eq_false_iff_not];intro hn;exact(hs.1 (FL hn)).2 hx)
    clear hx hs hlen him
    go_wp2
    go_region_held3 (fun w'=>w'.cell? ⟨wr.heap.size,0,none⟩=some (.string ⟨(kl K i).1.toArray⟩)/\w'.cell? ⟨wr.heap.size,1,none⟩=some (.string ⟨(kl K i).2.toArray⟩)) (exact⟨HK.o.cell 0,HK.o.cell 1⟩) ((go_at_call 167;refine Aj c1 ?_;rintro w1 hb;clear c1;have H1:=I (H.o.trans (hb.mono (HSZ.o _ H.o)));replace HK:=I (HK.o.below hb);clear hb))
    go_wp2
    go_ret;exact⟨by rw[E.o];rfl,H1.o⟩
   ·rw[decide_eq_false hx] at c1
    have E:=I (hs.2 ⟨HN.o,hx⟩);clear hx hs hlen him
    go_wp2
    go_region_held3 (fun w'=>w'.cell? ⟨wr.heap.size,0,none⟩=some (.string ⟨(kl K i).1.toArray⟩)/\w'.cell? ⟨wr.heap.size,1,none⟩=some (.string ⟨(kl K i).2.toArray⟩)) (exact⟨HK.o.cell 0,HK.o.cell 1⟩) ((go_at_call 167;refine Aj c1 ?_;rintro w1 hb;clear c1;have H1:=I (H.o.trans (hb.mono (HSZ.o _ H.o)));replace HK:=I (HK.o.below hb);clear hb))
    go_wp2
    go_roundw
    case rel=>exact⟨i+1,by omega,by go_num,E.o,H1.o⟩
    case measure=>simp [intOf];omega
  ·have e1:¬(i:Int)<(n:Int):=by omega
   have E:=I (show decide K.Nodup=true by
    have h:=HN.o;rw[List.take_of_length_le (by have:=EN.o;omega)] at h;exact decide_eq_true h)
   go_wp2
   go_ret;exact⟨by rw[E.o];rfl,HB.o⟩
def prs (K:List Pr):List Value:=K.flatMap fun p=>[st p.1,st p.2]
theorem JT (K M:List Pr):prs (K++M)=prs K++prs M:=by simp [prs]
theorem Rh (K:List Pr):∀u∈prs K,u.oneCell'=true:=by
 intro u hu;obtain⟨p,_,h⟩:=List.mem_flatMap.1 hu;rcases List.mem_cons.1 h with h | h
 ·subst h;rfl
 ·rw[List.mem_singleton] at h;subst h;rfl
theorem VM:∀{K:List Pr} {i:Nat},i<K.length->(prs K)[i*2]? = some (st (kl K i).1)/\(prs K)[i*2+1]? = some (st (kl K i).2)
 | [],i,h=>by simp at h
 |a :: t,0,_=>⟨rfl,rfl⟩
 |a :: t,i+1,h=>by
  have:=VM (K:=t) (i:=i) (by simpa using h);have e:prs (a :: t)=st a.1 :: st a.2 :: prs t:=rfl;rw[e,show(i+1)*2=i*2+2 by omega];exact this
theorem Ly:(Tryz.prog.info? 138).map (fun i=>(i.zero,i.size,i.bytes))=some (some (.agg #[.string ⟨#[]⟩,.string ⟨#[]⟩]),2,32):=by kernel_rfl
def OwnP (w:World) (base:Nat) (v:Value) (K:List Pr):Prop:=w.ownsRow base 138 2 v K.length (prs K)
theorem OwnP.nil (w:World) (base:Nat):OwnP w base (.slice none 0 0) []:=World.ownsRow_nil w base _ 2
theorem OwnP.below {w w':World} {base:Nat} {v:Value} {K:List Pr} (h:OwnP w base v K) (hb:Below w.heap.size w w'):OwnP w' base v K:=FI h hb
theorem OwnP.slice {w:World} {base:Nat} {v:Value} {K:List Pr} (h:OwnP w base v K):SlP w w.heap.size v K:=by
 have h':=h;rcases h.2 with⟨h1,h2⟩ | ⟨g,cap,cur,h1,hg,hh,hc,_⟩
 ·have e:K = []:=List.eq_nil_of_length_eq_zero h2
  subst e;exact⟨none,0,h1,Nat.le_refl _,.inl rfl⟩
 ·subst h1
  refine⟨_,cap,rfl,hc,.inr ⟨g,0,rfl,(Array.getElem?_eq_some_iff.1 hh).1,fun i hi=>?_⟩⟩;have h1:=h'.cells (g:=g) rfl;have h2:=VM hi;have a1:=h1 _ _ h2.1;have a2:=h1 _ _ h2.2;rw[addr_add] at a1 a2;rw[Nat.add_assoc];exact⟨a1,a2⟩
theorem OwnP.lt {w:World} {base:Nat} {v:Value} {K:List Pr} (h:OwnP w base v K):∀k,v.ownBlock=some k->base<=k/\k<w.heap.size:=World.ownsRow.lt h
section
variable {w:World} {ops:Array Oper} {rest:List Oper} {o:Oper} {a:Act} {Q:Exit->Act->World->Prop}
theorem Uq (hgd : o.guard = none) (s x : Operand) (ho : o.op=.call { callee := .builtin .append, args := #[s, x], argTypes := #[71, 71] })
    (base:Nat) (v:Value) (K:List Pr) (hs:a.eval s=v) (hown:OwnP w base v K) (p:Pr) (hx:a.eval x=.slice (some ⟨w.heap.size,0,none⟩) 1 1)
    (hl:K.length+1<=1000000) (hb:base<=w.heap.size)
    (h:∀v' w',OwnP w' base v' (K++[p])->Below base w w'->wpList Tryz.prog ops Q rest (a.put o.dst v') w'):wpList Tryz.prog ops Q (o :: rest) a (w.alloc (.cells #[.string ⟨p.1.toArray⟩,.string ⟨p.2.toArray⟩] 138)):=by
  obtain⟨i0,hi0,hz0,hs0,hb0⟩:=info_parts Ly;have hb1:Below w.heap.size w (w.alloc (.cells #[.string ⟨p.1.toArray⟩,.string ⟨p.2.toArray⟩] 138)):=Ah.alloc Ag _;obtain ⟨v', w', hrun, h2, h3, _, _⟩ := run_append_own_at (P := Tryz.prog) (w.alloc (.cells #[.string ⟨p.1.toArray⟩, .string ⟨p.2.toArray⟩] 138)) base 71 o.type 138 i0 _ 2 32 Tryz.underlying71 hi0 hz0 hs0 hb0 rfl (by omega) v K.length (prs K) (hown.below hb1) ⟨w.heap.size, 0, none⟩ 1 1 (prs [p]) rfl (fun j u hu => by
      rw[addr_add,Nat.zero_add,(Blk.new w 138 _).cell j];have e:prs [p]=#[Value.string ⟨p.1.toArray⟩,.string ⟨p.2.toArray⟩].toList:=rfl;rw[e] at hu
      simpa using hu) (Rh _) (by unfold maxLen;omega) (by omega) (Nat.le_trans hb hb1.size)
  refine wpList_plain hgd fun J hJ=>?_
  unfold Oper.wp execOp;simp only[ho,resolve,invoke,builtin,Sem.run_bind,Sem.run_pure,Result.andThen_ok,List.map_toArray,List.map_cons,List.map_nil,hs,hx,hrun];refine hJ _ _ (h v' w' (by rw[OwnP,List.length_append,JT];exact h2) ?_);exact(hb1.mono hb).grown h3 (Nat.le_trans hb hb1.size) (fun k hk=>(hown.lt k hk).1)
end
theorem Pw (ls:List L) (A:Option Addr) (c B:Nat) (w:World) (hl:ls.length<=1000000) (hc:ls.length<=c) (hr:Rd w B A (strs ls)) (hs:∀i,i<ls.length->(pl ls i).length<=1000000000) :
  Calls Tryz.prog 92 #[.slice A ls.length c] w fun e w'=>e=.returned (.bool (BA ls))/\AS w w':=by
 have HR:=I hr;clear hr;have IS:=I (fun(i:Nat) (h:i<ls.length) w1=>Qz (pl ls i) w1 (hs i h));have C1:=I (fun w1 h=>Oe ls A c B w1 hl hc h);obtain⟨n,en⟩:=Ak (ls.length);rw[<-en] at hl hc C1⊢;have EN:=I en;clear en hs;have HD:=I (AS.refl w);go_enter Tryz.func92,Tryz.ntmps92
 go_wp2
 go_loopw [7] (fun iv wr=>∃i:Nat,i<=n/\iv=.int .i64 (i:Int)/\(ls.take i).all isL=true/\AS w wr) (fun iv _=>n - (intOf iv).toNat)
 case atStart=>exact⟨0,Nat.zero_le _,rfl,by simp,HD.o⟩
 case round=>
  obtain⟨i,hi,rfl,hn,hd⟩:=hrel;have HN:=I hn;clear hn;have hrr:Rd wr B A (strs ls):=by obtain⟨m,rfl⟩:=hd;exact HR.o.drewN m
  have HDR:=I hd;clear hd
  by_cases hlt:i<n
  ·have e1:(i:Int)<(n:Int):=by omega
   have e2:(0:Int)<=(i:Int):=by omega
   have him:i<ls.length:=by rw[<-EN.o];exact hlt
   have c1:=IS.o i him wr;have hal:=all_succ (p:=isL) him;rw[HN.o,Bool.true_and,<-EI him] at hal;obtain⟨b,o,rfl,_,h1⟩:=EJ hrr him;cases hx:isL (pl ls i) with
   |false=>
    rw[hx] at c1;have E:=I (show BA ls=false by
     rw[BA,all_false him (by rw[<-EI him];exact hx)];rfl)
    clear hx hal him
    go_wp2_with (go_at_call 86;refine Aj c1 ?_;rintro w1 hd;clear c1;have HD2:=I (HDR.o.trans hd);clear hd)
    go_ret;exact⟨by rw[E.o];rfl,HD2.o⟩
   |true=>
    rw[hx] at c1;have E:=I (hal.trans hx);clear hx hal him
    go_wp2_with (go_at_call 86;refine Aj c1 ?_;rintro w1 hd;clear c1;have HD2:=I (HDR.o.trans hd);clear hd)
    go_roundw
    case rel=>exact⟨i+1,by omega,by go_num,E.o,HD2.o⟩
    case measure=>simp [intOf];omega
  ·have e1:¬(i:Int)<(n:Int):=by omega
   have E:=I (show BA ls=decide ls.Nodup by
    rw[BA,Dg (by have:=EN.o;omega) HN.o];rfl)
   have c1:=C1.o wr hrr
   go_wp2_with (go_at_call 136;refine Aj c1 ?_;rintro w1 rfl;clear c1)
   go_ret;exact⟨by rw[E.o];rfl,HDR.o⟩
theorem Lz (K:List Pr) (R:List L) (A A2:Option Addr) (c c2 B:Nat) (w:World) (hl:K.length<=1000000) (hc:K.length<=c) (hl2:R.length<=1000000) (hr:RdP w B A K) (hr2:Rd w B A2 (strs R)) (hB:B<=w.heap.size) :
  Calls Tryz.prog 93 #[.slice A K.length c,.slice A2 R.length c2] w fun e w'=>e=.returned (.bool (Cu K R))/\Below w.heap.size w w':=by
 obtain⟨N,eN⟩:=Ak (w.heap.size);rw[<-eN] at hB⊢;have HB0:=I (show Below N w w from Below.refl _ _);have EN0:=I eN;clear eN;have HSZ:=I (show ∀w1:World,Below N w w1->N<=w1.heap.size from fun w1 h=>by have:=h.size;have:=EN0.o;omega);have HR:=I hr;clear hr;have HR2:=I hr2;clear hr2;have C1:=I (fun x w1 (h:Rd w1 B A2 (strs R))=>Tr.DC R A2 c2 B x w1 (by omega) h);have C2:=I (fun w1 h hB1=>Rf K A c B w1 hl hc h hB1);obtain⟨n,en⟩:=Ak (K.length);obtain⟨m,em⟩:=Ak (R.length);rw[<-en] at hl hc C2⊢;rw[<-em] at hl2 C1⊢;have EN:=I en;clear en em;go_enter Tryz.func93,Tryz.ntmps93
 go_wp2
 go_loopw [11] (fun iv wr=>∃i:Nat,i<=n/\iv=.int .i64 (i:Int)/\(K.take i).all (CJ R)=true/\Below N w wr) (fun iv _=>n - (intOf iv).toNat)
 case atStart=>exact⟨0,Nat.zero_le _,rfl,by simp,HB0.o⟩
 case round=>
  obtain⟨i,hi,rfl,hn,hb⟩:=hrel;have HN:=I hn;clear hn;have HB:=I hb;clear hb;have hrw:=HR.o.below (HB.o.mono hB)
  by_cases hlt:i<n
  ·have e1:(i:Int)<(n:Int):=by omega
   have e2:(0:Int)<=(i:Int):=by omega
   have him:i<K.length:=by rw[<-EN.o];exact hlt
   have hal:=all_succ (p:=CJ R) him;have haf:=all_false (p:=CJ R) him;rw[HN.o,Bool.true_and,<-Ga him] at hal;rw[<-Ga him] at haf;obtain⟨b,o,rfl,_,h1,h2⟩:=Lx hrw him;obtain⟨x,ex⟩:=Ak (kl K i);rw[<-ex] at hal haf h1 h2;clear ex him;have HK:=I (show Blk (wr.alloc (.cells #[.string ⟨x.1.toArray⟩,.string ⟨x.2.toArray⟩] 138)).drew wr.heap.size 138 #[.string ⟨x.1.toArray⟩,.string ⟨x.2.toArray⟩] from(Blk.new wr 138 _).drewN 1);have H:=I (show Below N w (wr.alloc (.cells #[.string ⟨x.1.toArray⟩,.string ⟨x.2.toArray⟩] 138)) from HB.o.alloc (HSZ.o _ HB.o) _);have HRW2:=I (HR2.o.below (H.o.mono hB));obtain⟨W,eW⟩:=Ak (wr.alloc (.cells #[.string ⟨x.1.toArray⟩,.string ⟨x.2.toArray⟩] 138))
   go_wp2
   rw[<-eW] at HK H HRW2⊢;clear eW;have k0:W.cell? ⟨wr.heap.size,0,none⟩=some (.string ⟨x.1.toArray⟩):=HK.o.cell 0;have k1:W.cell? ⟨wr.heap.size,1,none⟩=some (.string ⟨x.2.toArray⟩):=HK.o.cell 1
   go_quiet (fail)
   by_cases q1:x.1=x.2
   ·have t1:(x.1==x.2)=true:=by simpa using q1
    have E:=I (show Cu K R=false by
     rw[Cu,haf (by rw[CJ,decide_eq_false (fun h=>h q1)];rfl)];rfl)
    clear q1 hal haf
    go_wp2_with fail
    go_ret;exact⟨by rw[E.o];rfl,below_drewN H.o _⟩
   ·have t1:(x.1==x.2)=false:=by simpa using q1
    by_cases q2:x.1∈R
    ·have c1:=fun k=>C1.o x.1 (W.drewN k) (HRW2.o.drewN k)
     rw[decide_eq_true q2] at c1
     by_cases q3:x.2∈R
     ·have c3:=fun k=>C1.o x.2 (W.drewN k) (HRW2.o.drewN k)
      rw[decide_eq_true q3] at c3;have E:=I (show((K.take (i+1)).all (CJ R)=true) by
       rw[hal,CJ,decide_eq_true q1,decide_eq_true q2,decide_eq_true q3];rfl)
      clear q1 q2 q3 hal haf
      go_wp2_with (first
       |(go_at_call 48;with_reducible refine Aj (c1 _) ?_;rintro w1 rfl;clear c1)
       |(go_at_call 48;with_reducible refine Aj (c3 _) ?_;rintro w1 rfl;clear c3))
      go_roundw
      case rel=>exact⟨i+1,by omega,by go_num,E.o,below_drewN H.o _⟩
      case measure=>simp [intOf];omega
     ·have c3:=fun k=>C1.o x.2 (W.drewN k) (HRW2.o.drewN k)
      rw[decide_eq_false q3] at c3;have E:=I (show Cu K R=false by
       rw[Cu,haf (by rw[CJ,decide_eq_false q3];simp)];rfl)
      clear q1 q2 q3 hal haf
      go_wp2_with (first
       |(go_at_call 48;with_reducible refine Aj (c1 _) ?_;rintro w1 rfl;clear c1)
       |(go_at_call 48;with_reducible refine Aj (c3 _) ?_;rintro w1 rfl;clear c3))
      go_ret;exact⟨by rw[E.o];rfl,below_drewN H.o _⟩
    ·have c1:=fun k=>C1.o x.1 (W.drewN k) (HRW2.o.drewN k)
     rw[decide_eq_false q2] at c1;have E:=I (show Cu K R=false by
      rw[Cu,haf (by rw[CJ,decide_eq_false q2];simp)];rfl)
     clear q1 q2 hal haf
     go_wp2_with (go_at_call 48;with_reducible refine Aj (c1 _) ?_;rintro w1 rfl;clear c1)
     go_ret;exact⟨by rw[E.o];rfl,below_drewN H.o _⟩
  ·have e1:¬(i:Int)<(n:Int):=by omega
   have E:=I (show Cu K R=decide K.Nodup by
    rw[Cu,Dg (by have:=EN.o;omega) HN.o];rfl)
   have c1:=C2.o wr hrw (Nat.le_trans hB (HSZ.o _ HB.o))
   go_wp2_with (go_at_call 137;refine Aj c1 ?_;rintro w1 hb;clear c1;replace HB:=I (HB.o.trans (hb.mono (HSZ.o _ HB.o)));clear hb)
   go_ret;exact⟨by rw[E.o];rfl,HB.o⟩
theorem WT (p:Pa) (R:List L) (u:Value) (A2:Option Addr) (c2 B:Nat) (w:World) (hl:p.v.length<=1000000) (hl2:R.length<=1000000) (hr:SlV w B u p.v) (hr2:Rd w B A2 (strs R)) (hB:B<=w.heap.size) :
  Calls Tryz.prog 138 #[.agg #[.string ⟨p.f.toArray⟩,.string ⟨p.t.toArray⟩,u],.slice A2 R.length c2] w fun e w'=>e=.returned (.bool (viaB R p))/\Below w.heap.size w w':=by
 obtain⟨A,c,rfl,hc,hr⟩:=hr;have HB0:=I ((Below.refl w.heap.size w).alloc Ag (.cells #[.string ⟨p.f.toArray⟩,.string ⟨p.t.toArray⟩,.slice A p.v.length c] 205));have HK:=I (Blk.new w 205 #[.string ⟨p.f.toArray⟩,.string ⟨p.t.toArray⟩,.slice A p.v.length c]);have HR:=I (hr.below (HB0.o.mono hB));clear hr;have HR2:=I (hr2.below (HB0.o.mono hB));clear hr2;have C1:=I (fun x w1 (h:Rd w1 B A2 (strs R))=>Tr.DC R A2 c2 B x w1 (by omega) h);have C2:=I (fun w1 h=>Oe p.v A c B w1 hl hc h);obtain⟨n,en⟩:=Ak (p.v.length);obtain⟨m,em⟩:=Ak (R.length);rw[<-en] at hl hc C2 HB0 HK HR HR2⊢;rw[<-em] at hl2 C1⊢;have EN:=I en;clear en em
 by_cases h4:n<=4
 ·have g4:decide (4<(n:Int))=false:=by simp;omega
  have H4:=I h4;go_enter Tryz.func138,Tryz.ntmps138
  go_wp2
  obtain⟨W,eW⟩:=Ak (w.alloc (.cells #[.string ⟨p.f.toArray⟩,.string ⟨p.t.toArray⟩,.slice A n c] 205));rw[<-eW] at HB0 HK HR HR2⊢;clear eW;have k0:W.cell? ⟨w.heap.size,0,none⟩=some (.string ⟨p.f.toArray⟩):=HK.o.cell 0;have k1:W.cell? ⟨w.heap.size,1,none⟩=some (.string ⟨p.t.toArray⟩):=HK.o.cell 1;have k2:W.cell? ⟨w.heap.size,2,none⟩=some (.slice A n c):=HK.o.cell 2
  go_loop [14] (fun iv=>∃i:Nat,i<=n/\iv=.int .i64 (i:Int)/\(p.v.take i).all (onB R p)=true) (fun iv=>n - (intOf iv).toNat)
  case atStart=>exact⟨0,Nat.zero_le _,rfl,by simp⟩
  case round=>
   obtain⟨i,hi,rfl,hn⟩:=hrel;have HN:=I hn;clear hn
   by_cases hlt:i<n
   ·have e1:(i:Int)<(n:Int):=by omega
    have e2:(0:Int)<=(i:Int):=by omega
    have him:i<p.v.length:=by rw[<-EN.o];exact hlt
    have hal:=all_succ (p:=onB R p) him;have haf:=all_false (p:=onB R p) him;rw[HN.o,Bool.true_and,<-EI him] at hal;rw[<-EI him] at haf;obtain⟨b,o,rfl,_,h1⟩:=EJ HR.o him;obtain⟨x,ex⟩:=Ak (pl p.v i);rw[<-ex] at hal haf h1;clear ex him
    by_cases q1:x=p.f
    ·have t1:(x==p.f)=true:=by simpa using q1
     have E:=I (show viaB R p=false by
      rw[viaB,haf (by rw[onB,decide_eq_false (fun h=>h q1)];rfl)];simp)
     clear q1 hal haf
     go_wp2_with fail
     go_ret;exact⟨by rw[E.o];rfl,HB0.o⟩
    ·have t1:(x==p.f)=false:=by simpa using q1
     by_cases q2:x=p.t
     ·have t2:(x==p.t)=true:=by simpa using q2
      have E:=I (show viaB R p=false by
       rw[viaB,haf (by rw[onB,decide_eq_false (p:=x≠p.t) (fun h=>h q2)];simp)];simp)
      clear q1 q2 hal haf
      go_wp2_with fail
      go_ret;exact⟨by rw[E.o];rfl,HB0.o⟩
     ·have t2:(x==p.t)=false:=by simpa using q2
      have c3:=C1.o x W HR2.o
      by_cases q3:x∈R
      ·rw[decide_eq_true q3] at c3
       have E:=I (show((p.v.take (i+1)).all (onB R p)=true) by
        rw[hal,onB,decide_eq_true q1,decide_eq_true q2,decide_eq_true q3];rfl)
       clear q1 q2 q3 hal haf
       go_wp2_with (go_at_call 48;refine Aj c3 ?_;rintro w1 rfl;clear c3)
       go_round
       case rel=>exact⟨i+1,by omega,by go_num,E.o⟩
       case measure=>simp [intOf];omega
      ·rw[decide_eq_false q3] at c3
       have E:=I (show viaB R p=false by
        rw[viaB,haf (by rw[onB,decide_eq_false q3];simp)];simp)
       clear q1 q2 q3 hal haf
       go_wp2_with (go_at_call 48;refine Aj c3 ?_;rintro w1 rfl;clear c3)
       go_ret;exact⟨by rw[E.o];rfl,HB0.o⟩
   ·have e1:¬(i:Int)<(n:Int):=by omega
    have E:=I (show viaB R p=decide p.v.Nodup by
     rw[viaB,Dg (by have:=EN.o;omega) HN.o,decide_eq_true (by rw[<-EN.o];exact H4.o)];rfl)
    have c1:=C2.o W HR.o
    go_wp2_with (go_at_call 136;refine Aj c1 ?_;rintro w1 rfl;clear c1)
    go_ret;exact⟨by rw[E.o];rfl,HB0.o⟩
 ·have g4:decide (4<(n:Int))=true:=by simp;omega
  have E:=I (show viaB R p=false by
   rw[viaB,decide_eq_false (by rw[<-EN.o];exact h4)];rfl)
  go_enter Tryz.func138,Tryz.ntmps138
  go_wp2
  go_ret;exact⟨by rw[E.o];rfl,HB0.o⟩
theorem Ri {P:List Pa} {i:Nat} (h:i<P.length):DY (P.take (i+1))=DY (P.take i)++[((al P i).f,(al P i).t)]:=by
 rw[take_succ h,MQ h,DY,List.map_append];rfl
theorem BB (P:List Pa):(DY P).length=P.length:=by simp [DY]
theorem Rj (P:List Pa) (R:List L) (A A2:Option Addr) (c c2 B:Nat) (w:World) (hl:P.length<=100000) (hl2:R.length<=1000000) (hv:∀p∈P,p.v.length<=1000000) (hr:RdA w B A P) (hr2:Rd w B A2 (strs R)) (hB:B<=w.heap.size) :
  Calls Tryz.prog 94 #[.slice A P.length c,.slice A2 R.length c2] w fun e w'=>e=.returned (.bool (Gf P R))/\Below w.heap.size w w':=by
 obtain⟨N,eN⟩:=Ak (w.heap.size);rw[<-eN] at hB⊢;have HB0:=I (show Below N w w from Below.refl _ _);have EN0:=I eN;clear eN;have HSZ:=I (show ∀w1:World,Below N w w1->N<=w1.heap.size from fun w1 h=>by have:=h.size;have:=EN0.o;omega);have HR:=I hr;clear hr;have HR2:=I hr2;clear hr2;have C1:=I (fun(i:Nat) (hi:i<P.length) u w1 (h:SlV w1 B u (al P i).v) (h2:Rd w1 B A2 (strs R)) hB1=>WT (al P i) R u A2 c2 B w1 (hv _ (VK hi)) hl2 h h2 hB1);have C2:=I (fun A c w1 h1 h2 h3 h4=>Lz (DY P) R A A2 c c2 w1.heap.size w1 (by rw[BB];omega) h1 hl2 h2 h3 h4);rw[BB] at C2;obtain⟨n,en⟩:=Ak (P.length);obtain⟨m,em⟩:=Ak (R.length);rw[<-en] at hl C2⊢;rw[<-em] at hl2 C1 C2⊢;have EN:=I en;clear en em hv;go_enter Tryz.func94,Tryz.ntmps94
 go_wp2
 go_loopw [5,10] (fun ev iv wr=>∃i:Nat,i<=n/\iv=.int .i64 (i:Int)/\(P.take i).all (viaB R)=true/\OwnP wr N ev (DY (P.take i))/\Below N w wr) (fun _ iv _=>n - (intOf iv).toNat)
 case atStart=>exact⟨0,Nat.zero_le _,rfl,by simp,OwnP.nil _ _,HB0.o⟩
 case round=>
  obtain⟨i,hi,rfl,hn,ho,hb⟩:=hrel;have HN:=I hn;clear hn;have HB:=I hb;clear hb;have HO:=I ho;clear ho;have hrw:=HR.o.below (HB.o.mono hB)
  by_cases hlt:i<n
  ·have e1:(i:Int)<(n:Int):=by omega
   have e2:(0:Int)<=(i:Int):=by omega
   have him:i<P.length:=by rw[<-EN.o];exact hlt
   have hal:=all_succ (p:=viaB R) him;have haf:=all_false (p:=viaB R) him;have hes:=Ri him;have hel:=BB (P.take i);rw[HN.o,Bool.true_and,<-MQ him] at hal;rw[<-MQ him] at haf;have hlen:(P.take i).length=i:=by simp;omega
   rw[hlen] at hel;have c1:=C1.o i him;obtain⟨b,o,rfl,_,h1,h2,u,h3,h4⟩:=Ra hrw him;obtain⟨x,ex⟩:=Ak (al P i);obtain⟨F,eF⟩:=Ak (DY (P.take i));rw[<-ex] at hal haf h1 h2 h4 hes c1;rw[<-eF] at hes hel HO;have HES:=I hes;have HEL:=I hel;clear hes hel;clear ex eF him hlen;have h4':=h4;obtain⟨A5,c5,eu,_⟩:=h4';subst eu;obtain⟨k5,ek5⟩:∃k,k=x.v.length:=⟨_,rfl⟩;rw[<-ek5] at h3 h4;have HK:=I (Blk.new wr 205 #[.string ⟨x.f.toArray⟩,.string ⟨x.t.toArray⟩,.slice A5 k5 c5]);have HA:=I ((Below.refl wr.heap.size wr).alloc Ag (.cells #[.string ⟨x.f.toArray⟩,.string ⟨x.t.toArray⟩,.slice A5 k5 c5] 205));have H:=I (HB.o.trans (HA.o.mono (HSZ.o _ HB.o)));have c2:=c1 _ _ (h4.below (HA.o.mono (Nat.le_trans hB (HSZ.o _ HB.o)))) (HR2.o.below (H.o.mono hB)) (Nat.le_trans hB (HSZ.o _ H.o));clear c1 h4 ek5;cases hx:viaB R x with
   |false=>
    rw[hx] at c2;have E:=I (show Gf P R=false by rw[Gf,haf hx];rfl);clear hx hal haf
    go_wp2_with (go_at_call 138;refine Aj c2 ?_;rintro w1 hb;clear c2;have H1:=I (H.o.trans (hb.mono (HSZ.o _ H.o)));clear hb)
    go_ret;exact⟨by rw[E.o];rfl,H1.o⟩
   |true=>
    rw[hx] at c2;have E:=I (hal.trans hx);clear hx hal haf
    go_wp2_with (first
     |(go_at_call 138;refine Aj c2 ?_;rintro w1 hb;clear c2;have H1:=I (H.o.trans (hb.mono (HSZ.o _ H.o)));have HK1:=I (HK.o.below hb);have HO1:=I ((HO.o.below HA.o).below hb);clear hb HO HK;have k0:=HK1.o.cell 0;have k1:=HK1.o.cell 1;simp only[List.getElem?_toArray,List.getElem?_cons_zero,List.getElem?_cons_succ] at k0 k1)
     |(at_builtin;refine Uq rfl (.tmp 18) (.tmp 24) rfl N _ F rfl HO1.o (x.f,x.t) rfl (by have:=HEL.o;omega) (HSZ.o _ H1.o) ?_;intro v2 w2 ho2 hb2;have HO2:=I ho2;have H2:=I (H1.o.trans hb2);clear ho2 hb2))
    go_roundw
    case rel=>exact⟨i+1,by omega,by go_num,E.o,by rw[HES.o];exact HO2.o,H2.o⟩
    case measure=>simp [intOf];omega
  ·have e1:¬(i:Int)<(n:Int):=by omega
   have hiP:P.length<=i:=by have:=EN.o;omega
   have E:=I (show Gf P R=Cu (DY P) R by
    rw[Gf,Dg hiP HN.o];rfl)
   rw[List.take_of_length_le hiP] at HO;obtain⟨A3,c3,rfl,q1,q2⟩:=HO.o.slice;rw[BB,<-EN.o] at q1;have c1:=C2.o A3 c3 wr q1 q2 ((HR2.o.below (HB.o.mono hB)).more (Nat.le_trans hB (HSZ.o _ HB.o))) Ag;have en2:(DY P).length=n:=by rw[BB,<-EN.o]
   rw[en2];clear q1 q2 hiP
   go_wp2_with (go_at_call 93;refine Aj c1 ?_;rintro w1 hb;clear c1;replace HB:=I (HB.o.trans (hb.mono (HSZ.o _ HB.o)));clear hb)
   go_ret;exact⟨by rw[E.o];rfl,HB.o⟩
structure Sm (T:Tp):Prop where
 r:T.R.length<=3000
 k:T.K.length<=3000
 p:T.P.length<=3000
 rt:∀x∈T.R,x.length<=3000
 v:∀q∈T.P,q.v.length<=3000
 vt:∀q∈T.P,∀x∈q.v,x.length<=3000
theorem ist_a {T:Tp} (h:¬1<=T.R.length):isT T=false:=by rw[isT,decide_eq_false h];rfl
theorem ist_b {T:Tp} (h:¬T.R.length<=6):isT T=false:=by rw[isT,decide_eq_false h];simp
theorem YJ {T:Tp} (h:¬T.K.length<=20):isT T=false:=by rw[isT,decide_eq_false h];simp
theorem YK {T:Tp} (h:¬T.P.length<=8):isT T=false:=by rw[isT,decide_eq_false h];simp
theorem ist_e {T:Tp} (h:BA T.R=false):isT T=false:=by rw[isT,h];simp
theorem WU {T:Tp} (h:Cu T.K T.R=false):isT T=false:=by rw[isT,h];simp
theorem ist_g {T:Tp} (h1:1<=T.R.length) (h2:T.R.length<=6) (h3:T.K.length<=20) (h4:T.P.length<=8) (h5:BA T.R=true) (h6:Cu T.K T.R=true):isT T=Gf T.P T.R:=by
 rw[isT,decide_eq_true h1,decide_eq_true h2,decide_eq_true h3,decide_eq_true h4,h5,h6];rfl
theorem Rk (T:Tp) (v:Value) (B:Nat) (w:World) (hs:Sm T) (hv:TpV w B v T) (hB:B<=w.heap.size) :
  Calls Tryz.prog 47 #[v] w fun e w'=>e=.returned (.bool (isT T))/\Below w.heap.size w w':=by
 obtain⟨v1,v2,v3,rfl,⟨A1,c1,rfl,hc1,r1⟩,⟨A2,c2,rfl,hc2,r2⟩,⟨A3,c3,rfl,hc3,r3⟩⟩:=hv;have H:=I ((Below.refl w.heap.size w).alloc Ag (.cells #[.slice A1 T.R.length c1,.slice A2 T.K.length c2,.slice A3 T.P.length c3] 74));have HK:=I (Blk.new w 74 #[.slice A1 T.R.length c1,.slice A2 T.K.length c2,.slice A3 T.P.length c3]);obtain⟨W,eW⟩:=Ak (w.alloc (.cells #[.slice A1 T.R.length c1,.slice A2 T.K.length c2,.slice A3 T.P.length c3] 74));rw[<-eW] at H HK;have hb:=H.o.mono hB;have C1:=I (Pw T.R A1 c1 B W (by have:=hs.r;omega) hc1 (r1.below hb) (fun i hi=>by have:=hs.rt _ (JO hi);omega));have C2:=I (fun w1 (hk:Below B W w1) hsz=>Lz T.K T.R A2 A1 c2 c1 B w1 (by have:=hs.k;omega) hc2 (by have:=hs.r;omega) ((r2.below hb).below hk) ((r1.below hb).below hk) hsz);have C3:=I (fun w1 (hk:Below B W w1) hsz=>Rj T.P T.R A3 A1 c3 c1 B w1 (by have:=hs.p;omega) (by have:=hs.r;omega) (fun q hq=>by have:=hs.v q hq;omega) ((r3.below hb).below hk) ((r1.below hb).below hk) hsz);have HSZ:=I (show B<=W.heap.size from Nat.le_trans hB H.o.size);clear hb r1 r2 r3 hB hc1 hc2 hc3;have A5:=I (@ist_a T);have B5:=I (@ist_b T);have C5:=I (@YJ T);have D5:=I (@YK T);have E5:=I (@ist_e T);have F5:=I (@WU T);have G5:=I (@ist_g T);have s1:=hs.r;have s2:=hs.k;have s3:=hs.p;obtain⟨n,en⟩:=Ak (T.R.length);obtain⟨m,em⟩:=Ak (T.K.length);obtain⟨k,ek⟩:=Ak (T.P.length);rw[<-en,<-em,<-ek] at eW HK;rw[<-en] at C1 C2 C3 s1 A5 B5 G5;rw[<-em] at C2 s2 C5 G5;rw[<-ek] at C3 s3 D5 G5;rw[<-en,<-em,<-ek];clear en em ek hs;subst eW
 by_cases q1:1<=n
 ·have t1:decide ((n:Int)<1)=false:=by simp;omega
  by_cases q2:n<=6
  ·have t2:decide (6<(n:Int))=false:=by simp;omega
   by_cases q3:m<=20
   ·have t3:decide (20<(m:Int))=false:=by simp;omega
    by_cases q4:k<=8
    ·have t4:decide (8<(k:Int))=false:=by simp;omega
     cases q5:BA T.R with
     |false=>
      have E:=I (E5.o q5);rw[q5] at C1;have c4:=C1.o;clear C1 C2 C3 q5;go_enter Tryz.func47,Tryz.ntmps47
      go_wp2_with (go_at_call 92;refine Aj c4 ?_;rintro w1 hd;clear c4;have H1:=I (H.o.trans (hd.below.mono H.o.size));clear hd)
      go_ret;exact⟨by rw[E.o];rfl,H1.o⟩
     |true=>
      rw[q5] at C1;have c4:=C1.o;cases q6:Cu T.K T.R with
      |false=>
       have E:=I (F5.o q6);rw[q6] at C2;clear C1 C3 q5 q6;go_enter Tryz.func47,Tryz.ntmps47
       go_wp2_with (first
        |(go_at_call 92;refine Aj c4 ?_;rintro w1 hd;clear c4;have H1:=I (H.o.trans (hd.below.mono H.o.size));replace HK:=I (HK.o.below hd.below);have k0:=HK.o.cell 0;have k1:=HK.o.cell 1;have k2:=HK.o.cell 2;simp only[List.getElem?_toArray,List.getElem?_cons_zero,List.getElem?_cons_succ] at k0 k1 k2;have c5:=C2.o w1 (hd.below.mono HSZ.o) (Nat.le_trans HSZ.o hd.below.size);clear hd)
        |(go_at_call 93;refine Aj c5 ?_;rintro w2 hb;clear c5;replace H1:=H1.t hb;clear hb))
       go_ret;exact⟨by rw[E.o];rfl,H1.o⟩
      |true=>
       have E:=I (G5.o q1 q2 q3 q4 q5 q6);rw[q6] at C2;clear C1 q5 q6;go_enter Tryz.func47,Tryz.ntmps47
       go_wp2_with (first
        |(go_at_call 92;refine Aj c4 ?_;rintro w1 hd;clear c4;have H1:=I (H.o.trans (hd.below.mono H.o.size));replace HK:=I (HK.o.below hd.below);have k0:=HK.o.cell 0;have k1:=HK.o.cell 1;have k2:=HK.o.cell 2;simp only[List.getElem?_toArray,List.getElem?_cons_zero,List.getElem?_cons_succ] at k0 k1 k2;have c5:=C2.o w1 (hd.below.mono HSZ.o) (Nat.le_trans HSZ.o hd.below.size);have HH:=I hd.below;clear hd)
        |(go_at_call 93;refine Aj c5 ?_;rintro w2 hb;clear c5 k0 k1 k2;replace H1:=H1.t hb;replace HK:=I (HK.o.below hb);have k0:=HK.o.cell 0;have k1:=HK.o.cell 1;have k2:=HK.o.cell 2;simp only[List.getElem?_toArray,List.getElem?_cons_zero,List.getElem?_cons_succ] at k0 k1 k2;replace HH:=HH.t hb;have c6:=C3.o w2 (HH.o.mono HSZ.o) (Nat.le_trans HSZ.o HH.o.size);clear hb)
        |(go_at_call 94;refine Aj c6 ?_;rintro w3 hb;clear c6;replace H1:=H1.t hb;clear hb))
       go_ret;exact⟨by rw[E.o];rfl,H1.o⟩
    ·have t4:decide (8<(k:Int))=true:=by simp;omega
     have E:=I (D5.o q4);go_enter Tryz.func47,Tryz.ntmps47
     go_wp2
     go_ret;exact⟨by rw[E.o];rfl,H.o⟩
   ·have t3:decide (20<(m:Int))=true:=by simp;omega
    have E:=I (C5.o q3);go_enter Tryz.func47,Tryz.ntmps47
    go_wp2
    go_ret;exact⟨by rw[E.o];rfl,H.o⟩
  ·have t2:decide (6<(n:Int))=true:=by simp;omega
   have E:=I (B5.o q2);go_enter Tryz.func47,Tryz.ntmps47
   go_wp2
   go_ret;exact⟨by rw[E.o];rfl,H.o⟩
 ·have t1:decide ((n:Int)<1)=true:=by simp;omega
  have E:=I (A5.o q1);go_enter Tryz.func47,Tryz.ntmps47
  go_wp2
  go_ret;exact⟨by rw[E.o];rfl,H.o⟩
end Rt
namespace Rt
open Go.RowKit Af Nm
end Rt
namespace Rt
open Go.RowKit Af Nm
theorem KG (n:Nat) (hn:n<=1000000) (w:World) :
  ∃cs:Array Value,cs.size=n/\(Instr.makeSlice 70 (.int .i64 0) (.int .i64 (n:Int))).run Tryz.prog w=.ok (.slice (some ⟨w.heap.size,0,none⟩) 0 n) (w.alloc (.cells cs 9)):=by
 obtain⟨i0,hi0,hz0,hs0,hb0⟩:=info_parts Ks;have h:=run_make (P:=Tryz.prog) w 70 9 i0 _ Tryz.underlying70 hi0 hz0 .i64 .i64 0 (n:Int) (by omega) (by omega) (by rw[hb0];omega) (by omega);refine⟨_,?_,h⟩;rw[hs0,Int.toNat_natCast,Nat.mul_one,show(Value.string ⟨#[]⟩).cells=#[Value.string ⟨#[]⟩] from rfl];have e:=toList_madeCells_one (.string ⟨#[]⟩) n;have:=congrArg List.length e
 simpa using this
theorem Ur (w:World) (cs:Array Value) (n:Nat) (h:cs.size=n) (hn:n<=1000000):Own (w.alloc (.cells cs 9)) w.heap.size (.slice (some ⟨w.heap.size,0,none⟩) 0 n) []:=
 World.ownsRow_made w cs n Ag (by unfold maxLen;omega) (by omega)
end Rt
end Go.Proofs.YtlchkbpffaclmaaGreat
