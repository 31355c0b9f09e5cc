import Derived.Test.YtcpccikongbopaaGreatZClientFirst13
set_option maxHeartbeats 25600000
set_option maxRecDepth 100000
set_option linter.unusedVariables false
set_option linter.unusedSimpArgs false
namespace Go.Proofs.YtcpccikongbopaaGreat
namespace Mc
open DerP Ms
def prQ (c:Option L):Pr×Option L:=(prI (Ar 48 c),AK 48 c)
def tkQ (c:Option L):Tk×Option L:=(⟨(prQ (Ar 97 c)).1,((intC (prQ (Ar 97 c)).2).1:Int),ocC (intC (prQ (Ar 97 c)).2).2⟩,AK 97 c)
def keQ (c:Option L):L×Option L:=((ocC c++key0).take 32,AK 4 c)
theorem QD (c:Option L):(keQ c).1.length=32:=by
 show((ocC c++key0).take 32).length=32;rw[List.length_take,List.length_append,show key0.length=32 from rfl];omega
def rpQ (b:L):Rp×Option L:=
 let c1:=keQ (Ar 122 (some b));let c2:=prQ c1.2;let c3:=nmP c2.2;let c4:=nmP c3.2;let c5:=nmP c4.2
 (⟨c1.1,c2.1,c3.1,c4.1,c5.1⟩,c5.2)
def asQ (c:Option L):As×Option L:=
 let c1:=prQ c;let c2:=prQ c1.2;let c3:=nmP c2.2;let c4:=nmP c3.2
 (⟨c1.1,c2.1,c3.1,c4.1⟩,c4.2)
def tgQ (c:Option L):Tg×Option L:=
 let c1:=tkQ c;let c2:=AK 4 c1.2;let c3:=prQ c2;let c4:=nmP c3.2;let c5:=nmP c4.2
 (⟨c1.1,ocC c1.2,c3.1,c4.1,c5.1⟩,c5.2)
def reQ (c:Option L):Re×Option L:=
 let c1:=prQ c;let c2:=tkQ c1.2
 (⟨c1.1,c2.1,ocC c2.2⟩,AK 4 c2.2)
def apQ (c:Option L):Ap×Option L:=
 let c1:=tkQ c
 (⟨c1.1,ocC c1.2⟩,AK 4 c1.2)
def faQ (c:Option L):Fa×Option L:=
 let c1:=nmP c;let c2:=nmP c1.2
 (⟨c1.1,c2.1⟩,c2.2)
def mgQ (b:L):Mg:=
 match b with
 | []=>mg0
 |t :: _=>
  if t=106 then ⟨1,(asQ (Ar 106 (some b))).1,tg0,re0,ap0,fa0⟩
  else if t=108 then ⟨2,as0,(tgQ (Ar 108 (some b))).1,re0,ap0,fa0⟩
  else if t=107 then ⟨3,as0,tg0,(reQ (Ar 107 (some b))).1,ap0,fa0⟩
  else if t=110 then ⟨4,as0,tg0,re0,(apQ (Ar 110 (some b))).1,fa0⟩
  else if t=126 then ⟨5,as0,tg0,re0,ap0,(faQ (Ar 126 (some b))).1⟩
  else mg0
theorem Fv {p:Pr} (h:prB p=true) (r:L):prQ (some (prE p++r))=(p,some r):=by
 have D:=Gd h;have E:=(AP h).2;rw[prQ,prE,be (by omega),ne (by omega),Dy,prI,WD (by omega),ne (by omega),TO (by omega)]
theorem VH {n:Int} (E:0<=n) (D:n<=4611686018427387904) (r:L):((intC (some (encI n++r))).1:Int)=n/\(intC (some (encI n++r))).2=some r:=by
 have:=CQ E D r;rw[nmP] at this;injection this with a b;exact⟨a,b⟩
theorem JI {t:Tk} (h:tkB t=true) (r:L):tkQ (some (tkE t++r))=(t,some r):=by
 obtain⟨E,F,M⟩:=Fj h;have O:=(BU h).2;have D:=VH (n:=t.k) (by omega) (by omega) (elem 4 t.b);rw[tkQ,tkE,be (by omega),ne (by omega),Dz,Fv E,D.1,D.2,IS (by omega)]
theorem SS {k:L} (h:k.length=32) (r:L):keQ (some (elem 4 k++r))=(k,some r):=by
 rw[keQ,RN (by omega),ne (by omega),List.take_append_of_le_length (by omega),List.take_of_length_le (by omega)]
theorem SU {p:Rp} (h:rpB p=true) (hk:p.ss.length=32):rpQ (rpE p)=(p,some []):=by
 have M:prB p.s=true/\tmB p.st=true/\tmB p.en=true/\tmB p.no=true:=by simpa [rpB] using h
 obtain⟨D,X,F,E⟩:=M;have t4:=BC X;have t5:=BC F;have Y:=BC E;have l1:=(AP D).1;have l2:=Ax 4 p.ss;have l4:=AB p.st;have l5:=AB p.en;have Z:=AB p.no;have O:[elem 4 p.ss,prE p.s,encI p.st,encI p.en,encI p.no].flatten.length<=65535:=by simp only[List.flatten_cons,List.flatten_nil,List.length_append,List.length_nil];omega
 rw[rpQ,rpE,be0 O,FG,SS hk];simp only;rw[Fv D];simp only;rw[CQ (by omega) (by omega)];simp only;rw[CQ (by omega) (by omega)];simp only;rw[DA (by omega) (by omega)]
theorem SV {q:As} (h:asB q=true):Ar 106 (some (asE q))=some [prE q.c,prE q.s,encI q.t,encI q.no].flatten/\asQ (some [prE q.c,prE q.s,encI q.t,encI q.no].flatten)=(q,some []):=by
 have M:prB q.c=true/\prB q.s=true/\tmB q.t=true/\tmB q.no=true:=by simpa [asB] using h
 obtain⟨D,E,X,F⟩:=M;have Y:=BC X;have Z:=BC F;have l1:=(AP D).1;have l2:=(AP E).1;have l4:=AB q.t;have l5:=AB q.no;have O:[prE q.c,prE q.s,encI q.t,encI q.no].flatten.length<=65535:=by simp only[List.flatten_cons,List.flatten_nil,List.length_append,List.length_nil];omega
 refine⟨by rw[asE,be0 O],?_⟩;rw[IC,asQ,Fv D];simp only;rw[Fv E];simp only;rw[CQ (by omega) (by omega)];simp only;rw[DA (by omega) (by omega)]
theorem SW {q:Tg} (h:tgB q=true):Ar 108 (some (tgE q))=some [tkE q.t,elem 4 q.a,prE q.s,encI q.u,encI q.no].flatten/\tgQ (some [tkE q.t,elem 4 q.a,prE q.s,encI q.u,encI q.no].flatten)=(q,some []):=by
 have O:tkB q.t=true/\Bv q.a=true/\prB q.s=true/\tmB q.u=true/\tmB q.no=true:=by simpa [tgB] using h
 obtain⟨D,F,E,Y,M⟩:=O;have Z:=BC Y;have t5:=BC M;have b3:=Bc F;have l1:=(BU D).1;have l2:=Ax 4 q.a;have l3:=(AP E).1;have l4:=AB q.u;have l5:=AB q.no;have X:[tkE q.t,elem 4 q.a,prE q.s,encI q.u,encI q.no].flatten.length<=65535:=by simp only[List.flatten_cons,List.flatten_nil,List.length_append,List.length_nil];omega
 refine⟨by rw[tgE,be0 X],?_⟩;rw[FG,tgQ,JI D];simp only;rw[RN (by omega),ne (by omega),Fv E];simp only;rw[CQ (by omega) (by omega)];simp only;rw[DA (by omega) (by omega)]
theorem SX {q:Re} (h:reB q=true):Ar 107 (some (reE q))=some [prE q.c,tkE q.t,elem 4 q.b].flatten/\reQ (some [prE q.c,tkE q.t,elem 4 q.b].flatten)=(q,some []):=by
 have F:prB q.c=true/\tkB q.t=true/\Bv q.b=true:=by simpa [reB] using h
 obtain⟨D,E,O⟩:=F;have b3:=Bc O;have l1:=(AP D).1;have l2:=(BU E).1;have l3:=Ax 4 q.b;have M:[prE q.c,tkE q.t,elem 4 q.b].flatten.length<=65535:=by simp only[List.flatten_cons,List.flatten_nil,List.length_append,List.length_nil];omega
 refine⟨by rw[reE,be0 M],?_⟩;rw[Dz,reQ,Fv D];simp only;rw[JI E];simp only;rw[IS (by omega),ne0 (by omega)]
theorem SY {q:Ap} (h:apB q=true):Ar 110 (some (apE q))=some [tkE q.t,elem 4 q.a].flatten/\apQ (some [tkE q.t,elem 4 q.a].flatten)=(q,some []):=by
 have F:tkB q.t=true/\Bv q.a=true:=by simpa [apB] using h
 obtain⟨D,M⟩:=F;have b3:=Bc M;have l2:=(BU D).1;have l3:=Ax 4 q.a;have E:[tkE q.t,elem 4 q.a].flatten.length<=65535:=by simp only[List.flatten_cons,List.flatten_nil,List.length_append,List.length_nil];omega
 refine⟨by rw[apE,be0 E],?_⟩;rw[Dy,apQ,JI D];simp only;rw[IS (by omega),ne0 (by omega)]
theorem SZ {q:Fa} (h:faB q=true):Ar 126 (some (faE q))=some [encI q.e,encI q.no].flatten/\faQ (some [encI q.e,encI q.no].flatten)=(q,some []):=by
 have E:(1<=q.e/\q.e<=255)/\tmB q.no=true:=by simpa [faB,inB] using h
 obtain⟨M,F⟩:=E;have O:=BC F;have l2:=AB q.e;have l3:=AB q.no;have D:[encI q.e,encI q.no].flatten.length<=65535:=by simp only[List.flatten_cons,List.flatten_nil,List.length_append,List.length_nil];omega
 refine⟨by rw[faE,be0 D],?_⟩;rw[Dy,faQ,CQ (by omega) (by omega)];simp only;rw[DA (by omega) (by omega)]
theorem Ta {m:Mg} (h:mgB m=true):mgQ (mgE m)=m:=by
 rcases Ge h with⟨F,e⟩ | ⟨F,e⟩ | ⟨F,e⟩ | ⟨F,e⟩ | ⟨F,e⟩
 ·have D:=SV F
  have E:mgE m=asE m.aq:=by rw[e];rfl
  rw[E]
  conv=>rhs;rw[e]
  show(⟨1,(asQ (Ar 106 (some (asE m.aq)))).1,tg0,re0,ap0,fa0⟩:Mg)=_;rw[D.1,D.2]
 ·have D:=SW F
  have E:mgE m=tgE m.tg:=by rw[e];rfl
  rw[E]
  conv=>rhs;rw[e]
  show(⟨2,as0,(tgQ (Ar 108 (some (tgE m.tg)))).1,re0,ap0,fa0⟩:Mg)=_;rw[D.1,D.2]
 ·have D:=SX F
  have E:mgE m=reE m.re:=by rw[e];rfl
  rw[E]
  conv=>rhs;rw[e]
  show(⟨3,as0,tg0,(reQ (Ar 107 (some (reE m.re)))).1,ap0,fa0⟩:Mg)=_;rw[D.1,D.2]
 ·have D:=SY F
  have E:mgE m=apE m.ap:=by rw[e];rfl
  rw[E]
  conv=>rhs;rw[e]
  show(⟨4,as0,tg0,re0,(apQ (Ar 110 (some (apE m.ap)))).1,fa0⟩:Mg)=_;rw[D.1,D.2]
 ·have D:=SZ F
  have E:mgE m=faE m.fa:=by rw[e];rfl
  rw[E]
  conv=>rhs;rw[e]
  show(⟨5,as0,tg0,re0,ap0,(faQ (Ar 126 (some (faE m.fa)))).1⟩:Mg)=_;rw[D.1,D.2]
theorem QE (b:L):mgD b=if mgO (mgQ b)=some b then some (mgQ b) else none:=by
 split
 ·rename_i h;exact IT.2 h
 ·rename_i h
  cases hd:mgD b with
  |none=>rfl
  |some m=>
   exfalso
   have D:=IT.1 hd;have E:=BA.1 D;apply h;have e:mgQ b=m:=by rw[<-E.2.2];exact Ta E.1
   rw[e];exact D
theorem JJ (b:L):(rpQ b).1.ss.length=32:=QD _
theorem QF (b:L):rpD b=if rpO (rpQ b).1=some b then some (rpQ b).1 else none:=by
 split
 ·rename_i h;exact(WE (JJ b)).2 h
 ·rename_i h
  cases hd:rpD b with
  |none=>rfl
  |some m=>
   exfalso
   have D:=(WG hd).1;have E:=BA.1 D;apply h;have hk:m.ss.length=32:=by
    have:=(WG hd).2;have e:(rpP b).1=m:=by rw[this]
    rw[<-e];exact TP _
   have e:(rpQ b).1=m:=by rw[<-E.2.2,SU E.1 hk]
   rw[e];exact D
open Go.RowKit Ad DerC
def OwnB (w:World) (base:Nat) (v:Value) (l:L):Prop:=
 ∃b c,v=.slice (some ⟨b,0,none⟩) l.length c/\l.length<=c/\base<=b/\b<w.heap.size/\∀i u,(bvs l)[i]? = some u->w.cell? ⟨b,i,none⟩=some u
theorem OwnB.of_fresh {w:World} {base b c:Nat} {l:L} (h:OJ w base b l) (E:l.length<=c):OwnB w base (.slice (some ⟨b,0,none⟩) l.length c) l:=by
 refine⟨b,c,rfl,E,h.1,h.2.1,fun i u hu=>?_⟩;have D:i<l.length:=by
  rcases Nat.lt_or_ge i l.length with g | g
  ·exact g
  ·rw[List.getElem?_eq_none (by rw[Ao];exact g)] at hu;cases hu
 rw[DH D] at hu;injection hu with hu;subst hu;exact(h.2.2 i D).1
theorem OwnB.keep {w w':World} {base g:Nat} {v:Value} {l:L} (h:OwnB w base v l) (E:w.grownBy w' (some g)) (O:g<base):OwnB w' base v l:=by
 obtain⟨b,c,M,F,Y,D,X⟩:=h;exact⟨b,c,M,F,Y,Nat.lt_of_lt_of_le D E.size,fun i u hu=>(World.cell?_of_block (a:=⟨b,i,none⟩) (E.block b D (fun e=>by injection e with e;omega))).trans (X i u hu)⟩
theorem OwnB.below {w w':World} {base:Nat} {v:Value} {l:L} (h:OwnB w base v l) (D:Below w.heap.size w w'):OwnB w' base v l:=by
 obtain⟨b,c,O,F,M,E,X⟩:=h;exact⟨b,c,O,F,M,Nat.lt_of_lt_of_le E D.size,fun i u hu=>(D.cell (p:=⟨b,i,none⟩) E).trans (X i u hu)⟩
theorem OwnB.less {w:World} {base base':Nat} {v:Value} {l:L} (h:OwnB w base v l) (F:base'<=base):OwnB w base' v l:=by
 obtain⟨b,c,M,D,E,X,O⟩:=h;exact⟨b,c,M,D,Nat.le_trans F E,X,O⟩
theorem OwnB.slb {w:World} {base:Nat} {v:Value} {l:L} (h:OwnB w base v l):SlB w w.heap.size v l:=by
 obtain⟨b,c,E,D,O,M,F⟩:=h;exact⟨_,c,E,D,.inr ⟨b,0,rfl,M,fun i u hu=>by rw[Nat.zero_add];exact F i u hu⟩⟩
theorem Ak {w:World} {g:Nat} {t:TypeId} {cs:Array Value} (h:Blk w g t cs) (n:Nat) (D:n<=cs.size):w.there g 0 n:=fun j E=>by
 rw[Nat.zero_add,h.cell,Array.getElem?_eq_getElem (by omega)];exact⟨rfl,h.frozen j⟩
theorem Bd {g:Nat} {t:TypeId}:∀(vs:List Value) (o:Nat) (w:World) (cs:Array Value),Blk w g t cs->o+vs.length<=cs.size->
  ∃ds:Array Value,Blk (w.setCells g o vs) g t ds/\ds.size=cs.size/\(∀i,o<=i->i<o+vs.length->ds[i]? = vs[i - o]?)/\(∀i,i<o\/o+vs.length<=i->ds[i]? = cs[i]?)
 | [],o,w,cs,h,hl=>⟨cs,h,rfl,fun i E D=>by simp at D;omega,fun i _=>rfl⟩
 |v :: r,o,w,cs,h,hl=>by
  rw[World.setCells];simp only[List.length_cons] at hl;obtain⟨ds,E,D,M,F⟩:=Bd r (o+1) _ _ (h.set o v) (by simp;omega);simp only[List.length_cons];refine⟨ds,E,by simpa using D,fun i O X=>?_,fun i O=>?_⟩
  ·by_cases e:i=o
   ·subst e
    rw[F i (by omega),Nat.sub_self];rw[Array.getElem?_setIfInBounds_self_of_lt (by omega)]
    rfl
   ·rw[M i (by omega) (by omega),show i - o=(i - (o+1))+1 by omega]
    simp
  ·rw[F i (by omega)]
   exact Array.getElem?_setIfInBounds_ne (by omega)
theorem Oh {w:World} {g:Nat} {t:TypeId} {x:L} (h:Blk w g t (bvs key0).toArray):Blk (w.setCells g 0 (bvs (x.take 32))) g t (bvs ((x++key0).take 32)).toArray:=by
 have hk:key0.length=32:=rfl;obtain⟨es,D,M,E,F⟩:=Bd (bvs (x.take 32)) 0 w _ h (by simp [Ao,hk];omega);have e:es=(bvs ((x++key0).take 32)).toArray:=by
  apply Array.ext_getElem?;intro i;rw[show(bvs ((x++key0).take 32)).toArray[i]? = (bvs ((x++key0).take 32))[i]? by simp]
  by_cases hi:i<(x.take 32).length
  ·rw[E i (by omega) (by rw[Ao];omega),Nat.sub_zero]
   simp only[bvs,List.getElem?_map]
   congr 1
   rw[List.length_take] at hi;rw[List.getElem?_take_of_lt (by omega),List.getElem?_take_of_lt (by omega),List.getElem?_append_left (by omega)]
  ·rw[F i (by rw[Ao];omega),show(bvs key0).toArray[i]? = (bvs key0)[i]? by simp]
   simp only[bvs,List.getElem?_map]
   congr 1
   rw[List.length_take] at hi
   by_cases h5:i<32
   ·rw[List.getElem?_take_of_lt h5,List.getElem?_append_right (by omega)]
    simp only[key0,List.getElem?_replicate];rw[if_pos h5,if_pos (by omega)]
   ·rw[List.getElem?_eq_none (by rw[hk];omega),List.getElem?_eq_none (by rw[List.length_take];omega)]
 rw[<-e];exact D
theorem AE {w:World} {g:Nat} {t:TypeId} {cs ds:Array Value} (h:Blk w g t cs) (hs:cs.size=ds.size):Blk (w.setCells g 0 ds.toList) g t ds:=by
 obtain⟨es,D,F,E,_⟩:=Bd ds.toList 0 w cs h (by simp;omega);have e:es=ds:=by
  apply Array.ext_getElem?;intro i
  by_cases hi:i<ds.size
  ·rw[E i (by omega) (by simp;omega)];simp
  ·rw[Array.getElem?_eq_none (by omega),Array.getElem?_eq_none (by omega)]
 rw[<-e];rw[<-e] at D;exact D
theorem DX {row:Option Nat} {a:World} {g:Nat} (D:row=some g\/a.heap.size<=g):∀(vs:List Value) (o:Nat) (w:World),a.grownBy w row->a.grownBy (w.setCells g o vs) row
 | [],_,_,h=>h
 |v :: r,o,w,h=>by rw[World.setCells];exact DX D r (o+1) _ (Ay h (p:=⟨g,o,none⟩) D v)
theorem AJ (w:World) (g:Nat) (vs:List Value):w.grownBy (w.setCells g 0 vs) (some g):=DX (.inl rfl) vs 0 w (World.grownBy.refl _ _)
theorem De {w:World} {g:Nat} {c:Option L} (h:Cur w g c):g<w.heap.size:=Blk.lt h
theorem CJ {w w':World} {g q:Nat} {c:Option L} (h:Cur w g c) (D:w.grownBy w' (some q)) (E:q≠g):Cur w' g c:=Blk.grown h D (fun e=>E (by injection e))
theorem Dx (g:Nat) (c:Option L) (w:World) (h:Cur w g c) (hs:((c.getD []).length:Int)<=100000):Calls Tryz.prog 151 #[.pointer (some ⟨g,0,none⟩)] w fun e w'=>
  (∃v,e=.returned v/\OwnB w' w.heap.size v (ocC c))/\Cur w' g (AK 4 c)/\w.grownBy w' (some g):=
 (CU g c w h hs).mono fun e w' F=>by
  obtain⟨⟨b,cap,rfl,O,E⟩,D,M⟩:=F;exact⟨⟨_,rfl,OwnB.of_fresh E O⟩,D,M⟩
theorem He (g:Nat) (c:Option L) (w:World) (h:Cur w g c) (hs:((c.getD []).length:Int)<=100000):Calls Tryz.prog 183 #[.pointer (some ⟨g,0,none⟩)] w fun e w'=>
 e=.returned (.string ⟨(txC c).toArray⟩)/\Cur w' g (AK 27 c)/\w.grownBy w' (some g):=Fq g c w h hs
theorem Cn (t:UInt8) {c:Option L} {n:Nat} (h:(c.getD []).length<=n):((AK t c).getD []).length<=n:=Nat.le_trans (Cq t c).2 h
theorem FD (t:UInt8) {c:Option L} {n:Nat} (h:(c.getD []).length<=n):((Ar t c).getD []).length<=n:=Nat.le_trans (Cq t c).1 h
theorem Ef {c:Option L} {n:Nat} (h:(c.getD []).length<=n):((intC c).2.getD []).length<=n:=Nat.le_trans (SL c) h
end Mc
namespace Mc
open Go.RowKit Ad DerP Ms
theorem Xz (x y:Fa) (w:World):(Op.equalIn 10000 61 (.agg #[.int .i64 x.e,.int .i64 x.no]) (.agg #[.int .i64 y.e,.int .i64 y.no])).run Tryz.prog w=.ok (decide (x=y)) w:=by
 obtain⟨e,no⟩:=x;obtain⟨E,D⟩:=y;simp only
 by_cases h0:e=E
 ·subst h0
  by_cases h1:no=D
  ·subst h1
   rw[decide_eq_true rfl]
   go_simp
  ·rw[decide_eq_false (fun h=>h1 (congrArg (fun z=>z.no) h))]
   go_simp
 ·rw[decide_eq_false (fun h=>h0 (congrArg (fun z=>z.e) h))]
  go_simp
theorem XA (x y:As) (w:World):(Op.equalIn 10000 51 (.agg #[.string ⟨x.c.1.toArray⟩,.string ⟨x.c.2.toArray⟩,.string ⟨x.s.1.toArray⟩,.string ⟨x.s.2.toArray⟩,.int .i64 x.t,.int .i64 x.no]) (.agg #[.string ⟨y.c.1.toArray⟩,.string ⟨y.c.2.toArray⟩,.string ⟨y.s.1.toArray⟩,.string ⟨y.s.2.toArray⟩,.int .i64 y.t,.int .i64 y.no])).run Tryz.prog w=.ok (decide (x=y)) w:=by
 obtain⟨⟨a,b⟩,⟨c,d⟩,t,no⟩:=x;obtain⟨⟨F,b2⟩,⟨c2,d2⟩,E,D⟩:=y;simp only
 by_cases h0:a=F
 ·subst h0
  by_cases h1:b=b2
  ·subst h1
   by_cases h2:c=c2
   ·subst h2
    by_cases h3:d=d2
    ·subst h3
     by_cases h4:t=E
     ·subst h4
      by_cases h5:no=D
      ·subst h5
       rw[decide_eq_true rfl]
       go_simp
      ·rw[decide_eq_false (fun h=>h5 (congrArg (fun z=>z.no) h))]
       go_simp
     ·rw[decide_eq_false (fun h=>h4 (congrArg (fun z=>z.t) h))]
      go_simp
    ·rw[decide_eq_false (fun h=>h3 (congrArg (fun z=>z.s.2) h))]
     go_simp
   ·rw[decide_eq_false (fun h=>h2 (congrArg (fun z=>z.s.1) h))]
    go_simp
  ·rw[decide_eq_false (fun h=>h1 (congrArg (fun z=>z.c.2) h))]
   go_simp
 ·rw[decide_eq_false (fun h=>h0 (congrArg (fun z=>z.c.1) h))]
  go_simp
open DerC
def AsV (cs:Array Value) (q:As):Prop:=cs=(asC q).toArray
def FaV (cs:Array Value) (q:Fa):Prop:=cs=(faC q).toArray
def TgV (w:World) (B:Nat) (cs:Array Value) (q:Tg):Prop:=∃b a,cs=(tgC q b a).toArray/\SlB w B b q.t.b/\SlB w B a q.a
def ReV (w:World) (B:Nat) (cs:Array Value) (q:Re):Prop:=∃b a,cs=(reC q b a).toArray/\SlB w B b q.t.b/\SlB w B a q.b
def ApV (w:World) (B:Nat) (cs:Array Value) (q:Ap):Prop:=∃b a,cs=(apC q b a).toArray/\SlB w B b q.t.b/\SlB w B a q.a
section
variable {w w':World} {B B':Nat} {cs:Array Value}
theorem TgV.keep {q:Tg} (h:TgV w B cs q) (D:Below B w w'):TgV w' B cs q:=by obtain⟨b,a,F,E,M⟩:=h;exact⟨b,a,F,E.keep D,M.keep D⟩
theorem ReV.keep {q:Re} (h:ReV w B cs q) (D:Below B w w'):ReV w' B cs q:=by obtain⟨b,a,F,E,M⟩:=h;exact⟨b,a,F,E.keep D,M.keep D⟩
theorem ApV.keep {q:Ap} (h:ApV w B cs q) (D:Below B w w'):ApV w' B cs q:=by obtain⟨b,a,F,E,M⟩:=h;exact⟨b,a,F,E.keep D,M.keep D⟩
theorem TgV.more {q:Tg} (h:TgV w B cs q) (hB:B<=B'):TgV w B' cs q:=by obtain⟨b,a,E,D,F⟩:=h;exact⟨b,a,E,D.more hB,F.more hB⟩
theorem ReV.more {q:Re} (h:ReV w B cs q) (hB:B<=B'):ReV w B' cs q:=by obtain⟨b,a,E,D,F⟩:=h;exact⟨b,a,E,D.more hB,F.more hB⟩
theorem ApV.more {q:Ap} (h:ApV w B cs q) (hB:B<=B'):ApV w B' cs q:=by obtain⟨b,a,E,D,F⟩:=h;exact⟨b,a,E,D.more hB,F.more hB⟩
theorem GO {v:Value} {l:L} (h:SlB w B v l):v.oneCell'=true:=by obtain⟨A,c,rfl,_⟩:=h;rfl
theorem AsV.size {q:As} (h:AsV cs q):cs.size=6:=by rw[h];rfl
theorem FaV.size {q:Fa} (h:FaV cs q):cs.size=2:=by rw[h];rfl
theorem TgV.size {q:Tg} (h:TgV w B cs q):cs.size=9:=by obtain⟨b,a,D,_⟩:=h;rw[D];rfl
theorem ReV.size {q:Re} (h:ReV w B cs q):cs.size=7:=by obtain⟨b,a,D,_⟩:=h;rw[D];rfl
theorem ApV.size {q:Ap} (h:ApV w B cs q):cs.size=5:=by obtain⟨b,a,D,_⟩:=h;rw[D];rfl
def One (cs:Array Value):Prop:=cs.all (·.oneCell')=true
theorem AsV.one {q:As} (h:AsV cs q):One cs:=by
 rw[h];refine all_oneCell_toArray fun v D=>?_
 simp only[asC,List.mem_cons,List.not_mem_nil,or_false] at D;rcases D with rfl | rfl | rfl | rfl | rfl | rfl<;>rfl
theorem FaV.one {q:Fa} (h:FaV cs q):One cs:=by
 rw[h];refine all_oneCell_toArray fun v D=>?_
 simp only[faC,List.mem_cons,List.not_mem_nil,or_false] at D;rcases D with rfl | rfl<;>rfl
theorem TgV.one {q:Tg} (h:TgV w B cs q):One cs:=by
 obtain⟨b,a,F,E,M⟩:=h;rw[F];refine all_oneCell_toArray fun v D=>?_
 simp only[tgC,tkC,List.mem_append,List.mem_cons,List.not_mem_nil,or_false] at D;rcases D with(rfl | rfl | rfl | rfl) | rfl | rfl | rfl | rfl | rfl
 all_goals first | rfl | exact GO E | exact GO M
theorem ReV.one {q:Re} (h:ReV w B cs q):One cs:=by
 obtain⟨b,a,F,E,M⟩:=h;rw[F];refine all_oneCell_toArray fun v D=>?_
 simp only[reC,prC,tkC,List.mem_append,List.mem_cons,List.not_mem_nil,or_false] at D;rcases D with(rfl | rfl) | (rfl | rfl | rfl | rfl) | rfl
 all_goals first | rfl | exact GO E | exact GO M
theorem ApV.one {q:Ap} (h:ApV w B cs q):One cs:=by
 obtain⟨b,a,F,E,M⟩:=h;rw[F];refine all_oneCell_toArray fun v D=>?_
 simp only[apC,tkC,List.mem_append,List.mem_cons,List.not_mem_nil,or_false] at D;rcases D with(rfl | rfl | rfl | rfl) | rfl
 all_goals first | rfl | exact GO E | exact GO M
end
def mgA (k:Int) (pa pt pr pp pf:Array Value):Array Value:=(Value.int .i64 k :: (pa.toList++(pt.toList++(pr.toList++(pp.toList++pf.toList))))).toArray
structure MgP (w:World) (B:Nat) (pa pt pr pp pf:Array Value) (m:Mg):Prop where
 a:AsV pa m.aq
 t:TgV w B pt m.tg
 r:ReV w B pr m.re
 p:ApV w B pp m.ap
 f:FaV pf m.fa
def MgV (w:World) (B:Nat) (cs:Array Value) (m:Mg):Prop:=∃pa pt pr pp pf,cs=mgA m.k pa pt pr pp pf/\MgP w B pa pt pr pp pf m
section
variable {w w':World} {B B':Nat} {cs pa pt pr pp pf:Array Value} {m:Mg}
theorem MgP.keep (h:MgP w B pa pt pr pp pf m) (D:Below B w w'):MgP w' B pa pt pr pp pf m:=⟨h.a,h.t.keep D,h.r.keep D,h.p.keep D,h.f⟩
theorem MgP.more (h:MgP w B pa pt pr pp pf m) (hB:B<=B'):MgP w B' pa pt pr pp pf m:=⟨h.a,h.t.more hB,h.r.more hB,h.p.more hB,h.f⟩
theorem MgV.keep (h:MgV w B cs m) (E:Below B w w'):MgV w' B cs m:=by obtain⟨pa,pt,pr,pp,pf,F,D⟩:=h;exact⟨pa,pt,pr,pp,pf,F,D.keep E⟩
theorem MgV.more (h:MgV w B cs m) (hB:B<=B'):MgV w B' cs m:=by obtain⟨pa,pt,pr,pp,pf,E,D⟩:=h;exact⟨pa,pt,pr,pp,pf,E,D.more hB⟩
theorem MgP.sizes (h:MgP w B pa pt pr pp pf m):pa.size=6/\pt.size=9/\pr.size=7/\pp.size=5/\pf.size=2:=⟨h.a.size,h.t.size,h.r.size,h.p.size,h.f.size⟩
theorem MgP.size (h:MgP w B pa pt pr pp pf m) (k:Int):(mgA k pa pt pr pp pf).size=30:=by
 obtain⟨E,D,M,O,F⟩:=h.sizes;simp [mgA,E,D,M,O,F]
theorem MgP.one (h:MgP w B pa pt pr pp pf m) (k:Int):One (mgA k pa pt pr pp pf):=by
 refine all_oneCell_toArray fun v D=>?_
 simp only[List.mem_cons,List.mem_append] at D;have key:∀{cs:Array Value},One cs->v∈cs.toList->v.oneCell'=true:=fun E F=>Array.all_eq_true_iff_forall_mem.1 E v (by simpa using F)
 rcases D with rfl | D | D | D | D | D
 ·rfl
 ·exact key h.a.one D
 ·exact key h.t.one D
 ·exact key h.r.one D
 ·exact key h.p.one D
 ·exact key h.f.one D
theorem CV {g:Nat} {t:TypeId} {pre mid post:List Value} (h:Blk w g t cs) (M:cs.toList=pre++(mid++post)) (o:Nat) (E:o=pre.length):w.rangeAt g o mid:=fun j v D=>by
 subst E;have F:j<mid.length:=(List.getElem?_eq_some_iff.1 D).1;rw[h.cell,<-Array.getElem?_toList,M,List.getElem?_append_right (by omega),Nat.add_sub_cancel_left,List.getElem?_append_left F];exact D
structure At (w:World) (g:Nat) (k:Int) (pa pt pr pp pf:Array Value):Prop where
 k:w.cell? ⟨g,0,none⟩=some (.int .i64 k)
 a:w.rangeAt g 1 pa.toList
 t:w.rangeAt g 7 pt.toList
 r:w.rangeAt g 16 pr.toList
 p:w.rangeAt g 23 pp.toList
 f:w.rangeAt g 28 pf.toList
theorem MgP.at_ (h:MgP w' B pa pt pr pp pf m) {g:Nat} {k:Int} {t:TypeId} (D:Blk w g t (mgA k pa pt pr pp pf)):At w g k pa pt pr pp pf:=by
 obtain⟨E,F,M,O,X⟩:=h.sizes;refine⟨by rw[D.cell];rfl,?_,?_,?_,?_,?_⟩
 ·exact CV (pre:=[.int .i64 k]) (post:=pt.toList++(pr.toList++(pp.toList++pf.toList))) D (by simp [mgA]) 1 rfl
 ·exact CV (pre:=.int .i64 k :: pa.toList) (post:=pr.toList++(pp.toList++pf.toList)) D (by simp [mgA]) 7 (by simp [E])
 ·exact CV (pre:=.int .i64 k :: (pa.toList++pt.toList)) (post:=pp.toList++pf.toList) D (by simp [mgA]) 16 (by simp [E,F])
 ·exact CV (pre:=.int .i64 k :: (pa.toList++(pt.toList++pr.toList))) (post:=pf.toList) D (by simp [mgA]) 23 (by simp [E,F,M])
 ·exact CV (pre:=.int .i64 k :: (pa.toList++(pt.toList++(pr.toList++pp.toList)))) (post:=[]) D (by simp [mgA]) 28 (by simp [E,F,M,O])
end
theorem Ch:(Tryz.prog.info? 51).map (·.size)=some 6:=by kernel_rfl
theorem BG:(Tryz.prog.info? 55).map (·.size)=some 9:=by kernel_rfl
theorem Dh:(Tryz.prog.info? 57).map (·.size)=some 7:=by kernel_rfl
theorem DE:(Tryz.prog.info? 59).map (·.size)=some 5:=by kernel_rfl
theorem Ff:(Tryz.prog.info? 61).map (·.size)=some 2:=by kernel_rfl
theorem AQ:(Tryz.prog.info? 63).map (·.size)=some 30:=by kernel_rfl
theorem Az {P:Program} {ops:Array Oper} {rest:List Oper} {op:Oper} {a:Act} {w:World} {Q:Exit->Act->World->Prop} (hw:Region.wanted op (yielded ops a.tmps)=true) (ty:TypeId) (x:Operand) (F:op.op=.load ty x)
  (g o:Nat) (E:a.eval x=.pointer (some ⟨g,o,none⟩)) (cs:Array Value) (d:TypeDesc) (M:w.rangeAt g o cs.toList)
  (hu:P.underlying ty=some d) (X:d.isRow=true) (O:(P.info? ty).map (·.size)=some cs.size)
  (h:wpList P ops Q rest (a.put op.dst (.agg cs)) w):wpList P ops Q (op :: rest) a w:=
 BigFrame.wpList_want hw fun _ D=>wp_load_mid ty x F g o E cs.toList d M hu X (by rw[Array.length_toList];exact O) (by simpa using D _ _ h)
theorem Iy {w:World} {g o:Nat} {t:TypeId} {cs ps ds:Array Value} {pre mid post:List Value} (h:Blk w g t cs) (F:cs.toList=pre++(mid++post)) (O:o=pre.length) (hm:mid.length=ps.size) (Y:ds=(pre++(ps.toList++post)).toArray):Blk (w.setCells g o ps.toList) g t ds:=by
 subst O;have hs:cs.size=pre.length+(mid.length+post.length):=by rw[<-Array.length_toList,F];simp
 obtain⟨es,M,Z,X,E⟩:=Bd ps.toList pre.length w cs h (by simp;omega);have e:es=ds:=by
  apply Array.ext_getElem?;intro i;rw[Y,show(pre++(ps.toList++post)).toArray[i]? = (pre++(ps.toList++post))[i]? by simp];have D:∀i,cs[i]? = (pre++(mid++post))[i]?:=fun i=>by rw[<-F,Array.getElem?_toList]
  by_cases hi:i<pre.length
  ·rw[E i (.inl hi),D,List.getElem?_append_left hi,List.getElem?_append_left hi]
  ·by_cases hj:i<pre.length+ps.size
   ·rw[X i (by omega) (by simpa using hj),List.getElem?_append_right (by omega),List.getElem?_append_left (by simp;omega)]
   ·rw[E i (.inr (by simp;omega)),D,List.getElem?_append_right (by omega),List.getElem?_append_right (by omega),List.getElem?_append_right (by omega),List.getElem?_append_right (by simp;omega),hm]
    simp
 rw[<-e];exact M
theorem BN {w:World} {g:Nat} {t:TypeId} {cs:Array Value} (h:Blk w g t cs) (o n:Nat) (D:o+n<=cs.size):w.there g o n:=fun j E=>by
 rw[h.cell,Array.getElem?_eq_getElem (by omega)];exact⟨rfl,h.frozen _⟩
theorem Du (w:World) (g o:Nat) (vs:List Value):w.grownBy (w.setCells g o vs) (some g):=DX (.inl rfl) vs o w (World.grownBy.refl _ _)
theorem Cc (g:Nat) (c:Option L) (w:World) (h:Cur w g c) (hs:(c.getD []).length<=100000):Calls Tryz.prog 148 #[.pointer (some ⟨g,0,none⟩)] w fun e w'=>e=.returned (.agg #[.string ⟨(prQ c).1.1.toArray⟩,.string ⟨(prQ c).1.2.toArray⟩])/\Cur w' g (prQ c).2/\w.grownBy w' (some g):=by
 obtain⟨W,eW⟩:=Ah (w.alloc (.cells #[.string ⟨#[]⟩,.string ⟨#[]⟩] 36));have al:W.heap.size=w.heap.size+1:=by rw[eW];simp
 have F:=I (show Blk W w.heap.size 36 #[.string ⟨#[]⟩,.string ⟨#[]⟩] by rw[eW];exact Blk.new _ _ _);have ag:=De h;have ak:Cur W g c:=by rw[eW];exact h.alloc _
 have Z:=I (show w.grownBy W (some g) by rw[eW];exact Ce (World.grownBy.refl _ _) _);have c1:=Ho 48 g c W ak (by omega);have aa:=FD 48 hs;obtain⟨s0,M⟩:∃s,s=Ar 48 c:=⟨_,rfl⟩;obtain⟨r,er⟩:∃s,s=AK 48 c:=⟨_,rfl⟩;rw[<-M] at c1 aa;rw[<-er] at c1;have O:=I ag;have ad:((AK 27 s0).getD []).length<=100000:=Cn 27 aa;have T1:=I (fun g w h=>He g s0 w h (by omega));obtain⟨v1,ab⟩:∃x:L,x=txC s0:=⟨_,rfl⟩;obtain⟨s1,es1⟩:∃s,s=AK 27 s0:=⟨_,rfl⟩;rw[<-ab,<-es1] at T1;rw[<-es1] at ad;have ah:((AK 27 s1).getD []).length<=100000:=Cn 27 ad;have T2:=I (fun g w h=>He g s1 w h (by omega));obtain⟨v2,ae⟩:∃x:L,x=txC s1:=⟨_,rfl⟩;obtain⟨s2,af⟩:∃s,s=AK 27 s1:=⟨_,rfl⟩;rw[<-ae,<-af] at T2;rw[<-af] at ah;have ai:=I (show(prQ c).1.1=v1 by rw[ab,M];rfl);have aj:=I (show(prQ c).1.2=v2 by rw[ae,es1,M];rfl);have FS:=I (show(prQ c).2=r by rw[er];rfl);rw[ai.o,aj.o,FS.o];clear h hs aa ad ah ai ab es1 aj ae af M FS ag er ak;have an:=I al;clear al;subst eW;go_enter Tryz.func148,Tryz.ntmps148
 go_wp2_with (first
  |(go_at_call 103;refine Calls.mono c1 ?_;rintro e wi ⟨⟨gd,rfl,ao,Y⟩,hc,D⟩;clear c1;have HD:=I Y;have HC:=I hc;have E:=I (show w.heap.size+1<=gd by have:=an.o;omega);have X:=I (De Y);replace F:=I (F.o.grown D (by intro e;injection e with e;have:=O.o;omega));replace Z:=I (Cw Z.o D);clear ao Y hc D)
  |(go_at_call 183;(with_reducible refine Calls.mono (T1.o _ _ HD.o) ?_);rintro e w1 ⟨rfl,Y,D⟩;clear T1;replace HD:=I Y;replace F:=I (F.o.grown D (by intro e;injection e with e;have:=E.o;omega));replace HC:=I (CJ HC.o D (by have:=E.o;have:=O.o;omega));replace Z:=I (Fy Z.o D (by have:=E.o;omega));replace X:=I (Nat.lt_of_lt_of_le X.o D.size);clear Y D)
  |(go_at_call 183;(with_reducible refine Calls.mono (T2.o _ _ HD.o) ?_);rintro e w2 ⟨rfl,Y,D⟩;clear T2;replace HD:=I Y;replace F:=I (F.o.grown D (by intro e;injection e with e;have:=E.o;omega));replace HC:=I (CJ HC.o D (by have:=E.o;have:=O.o;omega));replace Z:=I (Fy Z.o D (by have:=E.o;omega));replace X:=I (Nat.lt_of_lt_of_le X.o D.size);clear Y D;have n0:w2.cell? ⟨w.heap.size,0,none⟩=some (.string ⟨#[]⟩):=F.o.cell 0;have y0:=F.o.frozen 0;have n1:w2.cell? ⟨w.heap.size,1,none⟩=some (.string ⟨#[]⟩):=F.o.cell 1;have y1:=F.o.frozen 1)
  |fail)
 have hE:Blk ((w2.setCell ⟨w.heap.size,0,none⟩ (.string ⟨v1.toArray⟩)).setCell ⟨w.heap.size,1,none⟩ (.string ⟨v2.toArray⟩)) w.heap.size 36 #[.string ⟨v1.toArray⟩,.string ⟨v2.toArray⟩]:=((F.o.set 0 (.string ⟨v1.toArray⟩)).set 1 (.string ⟨v2.toArray⟩));have hp:=(Ay (Ay (World.grownBy.refl w2 (some w.heap.size)) (p:=⟨w.heap.size,0,none⟩) (.inl rfl) (.string ⟨v1.toArray⟩)) (p:=⟨w.heap.size,1,none⟩) (.inl rfl) (.string ⟨v2.toArray⟩));have hq:=Am (P:=Tryz.prog) hE Tryz.underlying36 rfl (by kernel_rfl);refine bodyPost_ret (v:=.agg #[.string ⟨v1.toArray⟩,.string ⟨v2.toArray⟩]) ?_ ?_ ?_
 ·exact Aj 2 36 ⟨w.heap.size,0,none⟩ Tryz.results148 rfl hq
 ·rfl
 exact⟨rfl,CJ HC.o hp (by have:=O.o;omega),Fy Z.o hp Ae⟩
theorem DF (g:Nat) (c:Option L) (w:World) (h:Cur w g c) (hs:(c.getD []).length<=100000):Calls Tryz.prog 150 #[.pointer (some ⟨g,0,none⟩)] w fun e w'=>∃z3,e=.returned (.agg #[.string ⟨(tkQ c).1.s.1.toArray⟩,.string ⟨(tkQ c).1.s.2.toArray⟩,.int .i64 (tkQ c).1.k,z3])/\OwnB w' w.heap.size z3 (tkQ c).1.b/\Cur w' g (tkQ c).2/\w.grownBy w' (some g):=by
 obtain⟨W,eW⟩:=Ah (w.alloc (.cells #[.string ⟨#[]⟩,.string ⟨#[]⟩,.int .i64 0,.slice none 0 0] 53));have au:W.heap.size=w.heap.size+1:=by rw[eW];simp
 have F:=I (show Blk W w.heap.size 53 #[.string ⟨#[]⟩,.string ⟨#[]⟩,.int .i64 0,.slice none 0 0] by rw[eW];exact Blk.new _ _ _);have ak:=De h;have ar:Cur W g c:=by rw[eW];exact h.alloc _
 have Z:=I (show w.grownBy W (some g) by rw[eW];exact Ce (World.grownBy.refl _ _) _);have c1:=Ho 97 g c W ar (by omega);have aa:=FD 97 hs;obtain⟨s0,X⟩:∃s,s=Ar 97 c:=⟨_,rfl⟩;obtain⟨r,er⟩:∃s,s=AK 97 c:=⟨_,rfl⟩;rw[<-X] at c1 aa;rw[<-er] at c1;have Y:=I ak;have af:(((prQ s0).2).getD []).length<=100000:=Cn 48 aa;have T1:=I (fun g w h=>Cc g s0 w h aa);obtain⟨v1,ae⟩:∃x:Pr,x=(prQ s0).1:=⟨_,rfl⟩;obtain⟨s1,es1⟩:∃s,s=(prQ s0).2:=⟨_,rfl⟩;rw[<-ae,<-es1] at T1;rw[<-es1] at af;have ad:(((intC s1).2).getD []).length<=100000:=Ef af;have T2:=I (fun g w h=>BB g s1 w h (by omega));obtain⟨v2,ag⟩:∃x:Int,x=((intC s1).1:Int):=⟨_,rfl⟩;obtain⟨s2,ab⟩:∃s,s=(intC s1).2:=⟨_,rfl⟩;rw[<-ag,<-ab] at T2;rw[<-ab] at ad;have aj:((AK 4 s2).getD []).length<=100000:=Cn 4 ad;have T3:=I (fun g w h=>Dx g s2 w h (by omega));obtain⟨v3,ah⟩:∃x:L,x=ocC s2:=⟨_,rfl⟩;obtain⟨s3,ai⟩:∃s,s=AK 4 s2:=⟨_,rfl⟩;rw[<-ah,<-ai] at T3;rw[<-ai] at aj;have an:=I (show(tkQ c).1.s=v1 by rw[ae,X];rfl);have ao:=I (show(tkQ c).1.k=v2 by rw[ag,es1,X];rfl);have al:=I (show(tkQ c).1.b=v3 by rw[ah,ab,es1,X];rfl);have FS:=I (show(tkQ c).2=r by rw[er];rfl);rw[an.o,ao.o,al.o,FS.o];clear h hs aa af ad aj an ae es1 ao ag ab al ah ai X FS ak er ar;have av:=I au;clear au;subst eW;go_enter Tryz.func150,Tryz.ntmps150
 go_wp2_with (first
  |(go_at_call 103;refine Calls.mono c1 ?_;rintro e wi ⟨⟨gd,rfl,aw,O⟩,hc,E⟩;clear c1;have HD:=I O;have HC:=I hc;have D:=I (show w.heap.size+1<=gd by have:=av.o;omega);have M:=I (De O);replace F:=I (F.o.grown E (by intro e;injection e with e;have:=Y.o;omega));replace Z:=I (Cw Z.o E);clear aw O hc E)
  |(go_at_call 148;(with_reducible refine Calls.mono (T1.o _ _ HD.o) ?_);rintro e w1 ⟨rfl,O,E⟩;clear T1;replace HD:=I O;replace F:=I (F.o.grown E (by intro e;injection e with e;have:=D.o;omega));replace HC:=I (CJ HC.o E (by have:=D.o;have:=Y.o;omega));replace Z:=I (Fy Z.o E (by have:=D.o;omega));replace M:=I (Nat.lt_of_lt_of_le M.o E.size);clear O E)
  |(go_at_call 149;(with_reducible refine Calls.mono (T2.o _ _ HD.o) ?_);rintro e w2 ⟨rfl,O,E⟩;clear T2;replace HD:=I O;replace F:=I (F.o.grown E (by intro e;injection e with e;have:=D.o;omega));replace HC:=I (CJ HC.o E (by have:=D.o;have:=Y.o;omega));replace Z:=I (Fy Z.o E (by have:=D.o;omega));replace M:=I (Nat.lt_of_lt_of_le M.o E.size);clear O E)
  |(go_at_call 151;(with_reducible refine Calls.mono (T3.o _ _ HD.o) ?_);rintro e w3 ⟨⟨y,rfl,ho⟩,O,E⟩;clear T3;replace ho:=ho.less (show gd+1<=_ from M.o);obtain⟨b3,c3,rfl,x1,x2,x3,x4⟩:=ho;have ax:Hid (OwnB w3 (gd+1) (.slice (some ⟨b3,0,none⟩) _ c3) _):=I ⟨b3,c3,rfl,x1,x2,x3,x4⟩;clear x1 x2 x3 x4;replace HD:=I O;replace F:=I (F.o.grown E (by intro e;injection e with e;have:=D.o;omega));replace HC:=I (CJ HC.o E (by have:=D.o;have:=Y.o;omega));replace Z:=I (Fy Z.o E (by have:=D.o;omega));replace M:=I (Nat.lt_of_lt_of_le M.o E.size);clear O E;have n0:w3.cell? ⟨w.heap.size,0,none⟩=some (.string ⟨#[]⟩):=F.o.cell 0;have y0:=F.o.frozen 0;have n1:w3.cell? ⟨w.heap.size,1,none⟩=some (.string ⟨#[]⟩):=F.o.cell 1;have y1:=F.o.frozen 1;have n2:w3.cell? ⟨w.heap.size,2,none⟩=some (.int .i64 0):=F.o.cell 2;have y2:=F.o.frozen 2;have n3:w3.cell? ⟨w.heap.size,3,none⟩=some (.slice none 0 0):=F.o.cell 3;have y3:=F.o.frozen 3)
  |fail)
 have hE:Blk ((((w3.setCell ⟨w.heap.size,0,none⟩ (.string ⟨v1.1.toArray⟩)).setCell ⟨w.heap.size,1,none⟩ (.string ⟨v1.2.toArray⟩)).setCell ⟨w.heap.size,2,none⟩ (.int .i64 v2)).setCell ⟨w.heap.size,3,none⟩ (.slice (some ⟨b3,0,none⟩) v3.length c3)) w.heap.size 53 #[.string ⟨v1.1.toArray⟩,.string ⟨v1.2.toArray⟩,.int .i64 v2,.slice (some ⟨b3,0,none⟩) v3.length c3]:=((((F.o.set 0 (.string ⟨v1.1.toArray⟩)).set 1 (.string ⟨v1.2.toArray⟩)).set 2 (.int .i64 v2)).set 3 (.slice (some ⟨b3,0,none⟩) v3.length c3));have hp:=(Ay (Ay (Ay (Ay (World.grownBy.refl w3 (some w.heap.size)) (p:=⟨w.heap.size,0,none⟩) (.inl rfl) (.string ⟨v1.1.toArray⟩)) (p:=⟨w.heap.size,1,none⟩) (.inl rfl) (.string ⟨v1.2.toArray⟩)) (p:=⟨w.heap.size,2,none⟩) (.inl rfl) (.int .i64 v2)) (p:=⟨w.heap.size,3,none⟩) (.inl rfl) (.slice (some ⟨b3,0,none⟩) v3.length c3));have hq:=Am (P:=Tryz.prog) hE Tryz.underlying53 rfl (by kernel_rfl);refine bodyPost_ret (v:=.agg #[.string ⟨v1.1.toArray⟩,.string ⟨v1.2.toArray⟩,.int .i64 v2,.slice (some ⟨b3,0,none⟩) v3.length c3]) ?_ ?_ ?_
 ·exact Aj 2 53 ⟨w.heap.size,0,none⟩ Tryz.results150 rfl hq
 ·rfl
 exact⟨_,rfl,(ax.o.keep hp (by have:=D.o;omega)).less (by have:=D.o;omega),CJ HC.o hp (by have:=Y.o;omega),Fy Z.o hp Ae⟩
theorem Oi (g:Nat) (c:Option L) (w:World) (h:Cur w g c) (hs:(c.getD []).length<=100000):Calls Tryz.prog 104 #[.pointer (some ⟨g,0,none⟩)] w fun e w'=>e=.returned (.agg #[.string ⟨(asQ c).1.c.1.toArray⟩,.string ⟨(asQ c).1.c.2.toArray⟩,.string ⟨(asQ c).1.s.1.toArray⟩,.string ⟨(asQ c).1.s.2.toArray⟩,.int .i64 (asQ c).1.t,.int .i64 (asQ c).1.no])/\Cur w' g (asQ c).2/\w.grownBy w' (some g):=by
 obtain⟨W,eW⟩:=Ah (w.alloc (.cells #[.string ⟨#[]⟩,.string ⟨#[]⟩,.string ⟨#[]⟩,.string ⟨#[]⟩,.int .i64 0,.int .i64 0] 51));have au:W.heap.size=w.heap.size+1:=by rw[eW];simp
 have D:=I (show Blk W w.heap.size 51 #[.string ⟨#[]⟩,.string ⟨#[]⟩,.string ⟨#[]⟩,.string ⟨#[]⟩,.int .i64 0,.int .i64 0] by rw[eW];exact Blk.new _ _ _);have al:=De h;have HC:=I (show Cur W g c by rw[eW];exact h.alloc _);have HG:=I (show w.grownBy W (some g) by rw[eW];exact Ce (World.grownBy.refl _ _) _);have ab:=hs;obtain⟨s0,M⟩:∃s,s=c:=⟨_,rfl⟩;rw[<-M] at HC ab;have X:=I al;have F:=I (show w.heap.size<W.heap.size by omega);have ad:(((prQ s0).2).getD []).length<=100000:=Cn 48 ab;have T1:=I (fun g w h=>Cc g s0 w h ab);obtain⟨v1,ag⟩:∃x:Pr,x=(prQ s0).1:=⟨_,rfl⟩;obtain⟨s1,es1⟩:∃s,s=(prQ s0).2:=⟨_,rfl⟩;rw[<-ag,<-es1] at T1;rw[<-es1] at ad;have af:(((prQ s1).2).getD []).length<=100000:=Cn 48 ad;have T2:=I (fun g w h=>Cc g s1 w h ad);obtain⟨v2,ah⟩:∃x:Pr,x=(prQ s1).1:=⟨_,rfl⟩;obtain⟨s2,O⟩:∃s,s=(prQ s1).2:=⟨_,rfl⟩;rw[<-ah,<-O] at T2;rw[<-O] at af;have ae:(((intC s2).2).getD []).length<=100000:=Ef af;have T3:=I (fun g w h=>BB g s2 w h (by omega));obtain⟨v3,ai⟩:∃x:Int,x=((intC s2).1:Int):=⟨_,rfl⟩;obtain⟨s3,Y⟩:∃s,s=(intC s2).2:=⟨_,rfl⟩;rw[<-ai,<-Y] at T3;rw[<-Y] at ae;have av:(((intC s3).2).getD []).length<=100000:=Ef ae;have T4:=I (fun g w h=>BB g s3 w h (by omega));obtain⟨v4,aj⟩:∃x:Int,x=((intC s3).1:Int):=⟨_,rfl⟩;obtain⟨s4,aa⟩:∃s,s=(intC s3).2:=⟨_,rfl⟩;rw[<-aj,<-aa] at T4;rw[<-aa] at av;have ao:=I (show(asQ c).1.c=v1 by rw[ag,M];rfl);have ar:=I (show(asQ c).1.s=v2 by rw[ah,es1,M];rfl);have an:=I (show(asQ c).1.t=v3 by rw[ai,O,es1,M];rfl);have ak:=I (show(asQ c).1.no=v4 by rw[aj,Y,O,es1,M];rfl);have FS:=I (show(asQ c).2=s4 by rw[aa,Y,O,es1,M];rfl);rw[ao.o,ar.o,an.o,ak.o,FS.o];clear h hs ab ad af ae av ao ag es1 ar ah O an ai Y ak aj aa M FS al;have aw:=I au;clear au;subst eW;go_enter Tryz.func104,Tryz.ntmps104
 go_wp2_with (first
  |(go_at_call 148;(with_reducible refine Calls.mono (T1.o _ _ HC.o) ?_);rintro e w1 ⟨rfl,Z,E⟩;clear T1;replace HC:=I Z;replace D:=I (D.o.grown E (by intro e;injection e with e;have:=X.o;omega));replace HG:=I (Cw HG.o E);replace F:=I (Nat.lt_of_lt_of_le F.o E.size);clear Z E)
  |(go_at_call 148;(with_reducible refine Calls.mono (T2.o _ _ HC.o) ?_);rintro e w2 ⟨rfl,Z,E⟩;clear T2;replace HC:=I Z;replace D:=I (D.o.grown E (by intro e;injection e with e;have:=X.o;omega));replace HG:=I (Cw HG.o E);replace F:=I (Nat.lt_of_lt_of_le F.o E.size);clear Z E)
  |(go_at_call 149;(with_reducible refine Calls.mono (T3.o _ _ HC.o) ?_);rintro e w3 ⟨rfl,Z,E⟩;clear T3;replace HC:=I Z;replace D:=I (D.o.grown E (by intro e;injection e with e;have:=X.o;omega));replace HG:=I (Cw HG.o E);replace F:=I (Nat.lt_of_lt_of_le F.o E.size);clear Z E)
  |(go_at_call 149;(with_reducible refine Calls.mono (T4.o _ _ HC.o) ?_);rintro e w4 ⟨rfl,Z,E⟩;clear T4;replace HC:=I Z;replace D:=I (D.o.grown E (by intro e;injection e with e;have:=X.o;omega));replace HG:=I (Cw HG.o E);replace F:=I (Nat.lt_of_lt_of_le F.o E.size);clear Z E;have n0:w4.cell? ⟨w.heap.size,0,none⟩=some (.string ⟨#[]⟩):=D.o.cell 0;have y0:=D.o.frozen 0;have n1:w4.cell? ⟨w.heap.size,1,none⟩=some (.string ⟨#[]⟩):=D.o.cell 1;have y1:=D.o.frozen 1;have n2:w4.cell? ⟨w.heap.size,2,none⟩=some (.string ⟨#[]⟩):=D.o.cell 2;have y2:=D.o.frozen 2;have n3:w4.cell? ⟨w.heap.size,3,none⟩=some (.string ⟨#[]⟩):=D.o.cell 3;have y3:=D.o.frozen 3;have n4:w4.cell? ⟨w.heap.size,4,none⟩=some (.int .i64 0):=D.o.cell 4;have y4:=D.o.frozen 4;have n5:w4.cell? ⟨w.heap.size,5,none⟩=some (.int .i64 0):=D.o.cell 5;have y5:=D.o.frozen 5)
  |fail)
 have hE:Blk ((((((w4.setCell ⟨w.heap.size,0,none⟩ (.string ⟨v1.1.toArray⟩)).setCell ⟨w.heap.size,1,none⟩ (.string ⟨v1.2.toArray⟩)).setCell ⟨w.heap.size,2,none⟩ (.string ⟨v2.1.toArray⟩)).setCell ⟨w.heap.size,3,none⟩ (.string ⟨v2.2.toArray⟩)).setCell ⟨w.heap.size,4,none⟩ (.int .i64 v3)).setCell ⟨w.heap.size,5,none⟩ (.int .i64 v4)) w.heap.size 51 #[.string ⟨v1.1.toArray⟩,.string ⟨v1.2.toArray⟩,.string ⟨v2.1.toArray⟩,.string ⟨v2.2.toArray⟩,.int .i64 v3,.int .i64 v4]:=((((((D.o.set 0 (.string ⟨v1.1.toArray⟩)).set 1 (.string ⟨v1.2.toArray⟩)).set 2 (.string ⟨v2.1.toArray⟩)).set 3 (.string ⟨v2.2.toArray⟩)).set 4 (.int .i64 v3)).set 5 (.int .i64 v4));have hp:=(Ay (Ay (Ay (Ay (Ay (Ay (World.grownBy.refl w4 (some w.heap.size)) (p:=⟨w.heap.size,0,none⟩) (.inl rfl) (.string ⟨v1.1.toArray⟩)) (p:=⟨w.heap.size,1,none⟩) (.inl rfl) (.string ⟨v1.2.toArray⟩)) (p:=⟨w.heap.size,2,none⟩) (.inl rfl) (.string ⟨v2.1.toArray⟩)) (p:=⟨w.heap.size,3,none⟩) (.inl rfl) (.string ⟨v2.2.toArray⟩)) (p:=⟨w.heap.size,4,none⟩) (.inl rfl) (.int .i64 v3)) (p:=⟨w.heap.size,5,none⟩) (.inl rfl) (.int .i64 v4));have hq:=Am (P:=Tryz.prog) hE Tryz.underlying51 rfl (by kernel_rfl);refine bodyPost_ret (v:=.agg #[.string ⟨v1.1.toArray⟩,.string ⟨v1.2.toArray⟩,.string ⟨v2.1.toArray⟩,.string ⟨v2.2.toArray⟩,.int .i64 v3,.int .i64 v4]) ?_ ?_ ?_
 ·exact Aj 2 51 ⟨w.heap.size,0,none⟩ Tryz.results104 rfl hq
 ·rfl
 exact⟨rfl,CJ HC.o hp (by have:=X.o;omega),Fy HG.o hp Ae⟩
theorem Oj (g:Nat) (c:Option L) (w:World) (h:Cur w g c) (hs:(c.getD []).length<=100000):Calls Tryz.prog 106 #[.pointer (some ⟨g,0,none⟩)] w fun e w'=>∃z2,∃z3,e=.returned (.agg #[.string ⟨(reQ c).1.c.1.toArray⟩,.string ⟨(reQ c).1.c.2.toArray⟩,.string ⟨(reQ c).1.t.s.1.toArray⟩,.string ⟨(reQ c).1.t.s.2.toArray⟩,.int .i64 (reQ c).1.t.k,z2,z3])/\OwnB w' w.heap.size z2 (reQ c).1.t.b/\OwnB w' w.heap.size z3 (reQ c).1.b/\Cur w' g (reQ c).2/\w.grownBy w' (some g):=by
 obtain⟨W,eW⟩:=Ah (w.alloc (.cells #[.string ⟨#[]⟩,.string ⟨#[]⟩,.string ⟨#[]⟩,.string ⟨#[]⟩,.int .i64 0,.slice none 0 0,.slice none 0 0] 57));have ao:W.heap.size=w.heap.size+1:=by rw[eW];simp
 have D:=I (show Blk W w.heap.size 57 #[.string ⟨#[]⟩,.string ⟨#[]⟩,.string ⟨#[]⟩,.string ⟨#[]⟩,.int .i64 0,.slice none 0 0,.slice none 0 0] by rw[eW];exact Blk.new _ _ _);have aj:=De h;have HC:=I (show Cur W g c by rw[eW];exact h.alloc _);have HG:=I (show w.grownBy W (some g) by rw[eW];exact Ce (World.grownBy.refl _ _) _);have Z:=hs;obtain⟨s0,M⟩:∃s,s=c:=⟨_,rfl⟩;rw[<-M] at HC Z;have O:=I aj;have E:=I (show w.heap.size<W.heap.size by omega);have aa:(((prQ s0).2).getD []).length<=100000:=Cn 48 Z;have T1:=I (fun g w h=>Cc g s0 w h Z);obtain⟨v1,ae⟩:∃x:Pr,x=(prQ s0).1:=⟨_,rfl⟩;obtain⟨s1,es1⟩:∃s,s=(prQ s0).2:=⟨_,rfl⟩;rw[<-ae,<-es1] at T1;rw[<-es1] at aa;have ad:(((tkQ s1).2).getD []).length<=100000:=Cn 97 aa;have T2:=I (fun g w h=>DF g s1 w h aa);obtain⟨v2,af⟩:∃x:Tk,x=(tkQ s1).1:=⟨_,rfl⟩;obtain⟨s2,X⟩:∃s,s=(tkQ s1).2:=⟨_,rfl⟩;rw[<-af,<-X] at T2;rw[<-X] at ad;have ai:((AK 4 s2).getD []).length<=100000:=Cn 4 ad;have T3:=I (fun g w h=>Dx g s2 w h (by omega));obtain⟨v3,ag⟩:∃x:L,x=ocC s2:=⟨_,rfl⟩;obtain⟨s3,ab⟩:∃s,s=AK 4 s2:=⟨_,rfl⟩;rw[<-ag,<-ab] at T3;rw[<-ab] at ai;have al:=I (show(reQ c).1.c=v1 by rw[ae,M];rfl);have an:=I (show(reQ c).1.t=v2 by rw[af,es1,M];rfl);have ak:=I (show(reQ c).1.b=v3 by rw[ag,X,es1,M];rfl);have FS:=I (show(reQ c).2=s3 by rw[ab,X,es1,M];rfl);rw[al.o,an.o,ak.o,FS.o];clear h hs Z aa ad ai al ae es1 an af X ak ag ab M FS aj;have au:=I ao;clear ao;subst eW;go_enter Tryz.func106,Tryz.ntmps106
 go_wp2_with (first
  |(go_at_call 148;(with_reducible refine Calls.mono (T1.o _ _ HC.o) ?_);rintro e w1 ⟨rfl,hd,F⟩;clear T1;replace HC:=I hd;replace D:=I (D.o.grown F (by intro e;injection e with e;have:=O.o;omega));replace HG:=I (Cw HG.o F);replace E:=I (Nat.lt_of_lt_of_le E.o F.size);clear hd F)
  |(go_at_call 150;(with_reducible refine Calls.mono (T2.o _ _ HC.o) ?_);rintro e w2 ⟨y,rfl,ho,hd,F⟩;clear T2;replace ho:=ho.less (show w.heap.size+1<=_ from E.o);obtain⟨b2,c2,rfl,x1,x2,x3,x4⟩:=ho;have ah:Hid (OwnB w2 (w.heap.size+1) (.slice (some ⟨b2,0,none⟩) _ c2) _):=I ⟨b2,c2,rfl,x1,x2,x3,x4⟩;clear x1 x2 x3 x4;replace HC:=I hd;replace D:=I (D.o.grown F (by intro e;injection e with e;have:=O.o;omega));replace HG:=I (Cw HG.o F);replace E:=I (Nat.lt_of_lt_of_le E.o F.size);clear hd F)
  |(go_at_call 151;(with_reducible refine Calls.mono (T3.o _ _ HC.o) ?_);rintro e Y ⟨⟨y,rfl,ho⟩,hd,F⟩;clear T3;replace ho:=ho.less (show w.heap.size+1<=_ from E.o);obtain⟨b3,c3,rfl,x1,x2,x3,x4⟩:=ho;have ar:Hid (OwnB Y (w.heap.size+1) (.slice (some ⟨b3,0,none⟩) _ c3) _):=I ⟨b3,c3,rfl,x1,x2,x3,x4⟩;clear x1 x2 x3 x4;replace HC:=I hd;replace ah:=I (ah.o.keep F (by have:=O.o;omega));replace D:=I (D.o.grown F (by intro e;injection e with e;have:=O.o;omega));replace HG:=I (Cw HG.o F);replace E:=I (Nat.lt_of_lt_of_le E.o F.size);clear hd F;have n0:Y.cell? ⟨w.heap.size,0,none⟩=some (.string ⟨#[]⟩):=D.o.cell 0;have y0:=D.o.frozen 0;have n1:Y.cell? ⟨w.heap.size,1,none⟩=some (.string ⟨#[]⟩):=D.o.cell 1;have y1:=D.o.frozen 1;have n2:Y.cell? ⟨w.heap.size,2,none⟩=some (.string ⟨#[]⟩):=D.o.cell 2;have y2:=D.o.frozen 2;have n3:Y.cell? ⟨w.heap.size,3,none⟩=some (.string ⟨#[]⟩):=D.o.cell 3;have y3:=D.o.frozen 3;have n4:Y.cell? ⟨w.heap.size,4,none⟩=some (.int .i64 0):=D.o.cell 4;have y4:=D.o.frozen 4;have n5:Y.cell? ⟨w.heap.size,5,none⟩=some (.slice none 0 0):=D.o.cell 5;have y5:=D.o.frozen 5;have n6:Y.cell? ⟨w.heap.size,6,none⟩=some (.slice none 0 0):=D.o.cell 6;have y6:=D.o.frozen 6)
  |fail)
 have hE:Blk (((((((Y.setCell ⟨w.heap.size,0,none⟩ (.string ⟨v1.1.toArray⟩)).setCell ⟨w.heap.size,1,none⟩ (.string ⟨v1.2.toArray⟩)).setCell ⟨w.heap.size,2,none⟩ (.string ⟨v2.s.1.toArray⟩)).setCell ⟨w.heap.size,3,none⟩ (.string ⟨v2.s.2.toArray⟩)).setCell ⟨w.heap.size,4,none⟩ (.int .i64 v2.k)).setCell ⟨w.heap.size,5,none⟩ (.slice (some ⟨b2,0,none⟩) v2.b.length c2)).setCell ⟨w.heap.size,6,none⟩ (.slice (some ⟨b3,0,none⟩) v3.length c3)) w.heap.size 57 #[.string ⟨v1.1.toArray⟩,.string ⟨v1.2.toArray⟩,.string ⟨v2.s.1.toArray⟩,.string ⟨v2.s.2.toArray⟩,.int .i64 v2.k,.slice (some ⟨b2,0,none⟩) v2.b.length c2,.slice (some ⟨b3,0,none⟩) v3.length c3]:=(((((((D.o.set 0 (.string ⟨v1.1.toArray⟩)).set 1 (.string ⟨v1.2.toArray⟩)).set 2 (.string ⟨v2.s.1.toArray⟩)).set 3 (.string ⟨v2.s.2.toArray⟩)).set 4 (.int .i64 v2.k)).set 5 (.slice (some ⟨b2,0,none⟩) v2.b.length c2)).set 6 (.slice (some ⟨b3,0,none⟩) v3.length c3));have hp:=(Ay (Ay (Ay (Ay (Ay (Ay (Ay (World.grownBy.refl Y (some w.heap.size)) (p:=⟨w.heap.size,0,none⟩) (.inl rfl) (.string ⟨v1.1.toArray⟩)) (p:=⟨w.heap.size,1,none⟩) (.inl rfl) (.string ⟨v1.2.toArray⟩)) (p:=⟨w.heap.size,2,none⟩) (.inl rfl) (.string ⟨v2.s.1.toArray⟩)) (p:=⟨w.heap.size,3,none⟩) (.inl rfl) (.string ⟨v2.s.2.toArray⟩)) (p:=⟨w.heap.size,4,none⟩) (.inl rfl) (.int .i64 v2.k)) (p:=⟨w.heap.size,5,none⟩) (.inl rfl) (.slice (some ⟨b2,0,none⟩) v2.b.length c2)) (p:=⟨w.heap.size,6,none⟩) (.inl rfl) (.slice (some ⟨b3,0,none⟩) v3.length c3));have hq:=Am (P:=Tryz.prog) hE Tryz.underlying57 rfl (by kernel_rfl);refine bodyPost_ret (v:=.agg #[.string ⟨v1.1.toArray⟩,.string ⟨v1.2.toArray⟩,.string ⟨v2.s.1.toArray⟩,.string ⟨v2.s.2.toArray⟩,.int .i64 v2.k,.slice (some ⟨b2,0,none⟩) v2.b.length c2,.slice (some ⟨b3,0,none⟩) v3.length c3]) ?_ ?_ ?_
 ·exact Aj 2 57 ⟨w.heap.size,0,none⟩ Tryz.results106 rfl hq
 ·rfl
 exact⟨_,_,rfl,(ah.o.keep hp (by omega)).less (by omega),(ar.o.keep hp (by omega)).less (by omega),CJ HC.o hp (by have:=O.o;omega),Fy HG.o hp Ae⟩
theorem Ok (g:Nat) (c:Option L) (w:World) (h:Cur w g c) (hs:(c.getD []).length<=100000):Calls Tryz.prog 107 #[.pointer (some ⟨g,0,none⟩)] w fun e w'=>∃z1,∃z2,e=.returned (.agg #[.string ⟨(apQ c).1.t.s.1.toArray⟩,.string ⟨(apQ c).1.t.s.2.toArray⟩,.int .i64 (apQ c).1.t.k,z1,z2])/\OwnB w' w.heap.size z1 (apQ c).1.t.b/\OwnB w' w.heap.size z2 (apQ c).1.a/\Cur w' g (apQ c).2/\w.grownBy w' (some g):=by
 obtain⟨W,eW⟩:=Ah (w.alloc (.cells #[.string ⟨#[]⟩,.string ⟨#[]⟩,.int .i64 0,.slice none 0 0,.slice none 0 0] 59));have ai:W.heap.size=w.heap.size+1:=by rw[eW];simp
 have D:=I (show Blk W w.heap.size 59 #[.string ⟨#[]⟩,.string ⟨#[]⟩,.int .i64 0,.slice none 0 0,.slice none 0 0] by rw[eW];exact Blk.new _ _ _);have ae:=De h;have HC:=I (show Cur W g c by rw[eW];exact h.alloc _);have HG:=I (show w.grownBy W (some g) by rw[eW];exact Ce (World.grownBy.refl _ _) _);have X:=hs;obtain⟨s0,F⟩:∃s,s=c:=⟨_,rfl⟩;rw[<-F] at HC X;have O:=I ae;have E:=I (show w.heap.size<W.heap.size by omega);have aa:(((tkQ s0).2).getD []).length<=100000:=Cn 97 X;have T1:=I (fun g w h=>DF g s0 w h X);obtain⟨v1,Z⟩:∃x:Tk,x=(tkQ s0).1:=⟨_,rfl⟩;obtain⟨s1,es1⟩:∃s,s=(tkQ s0).2:=⟨_,rfl⟩;rw[<-Z,<-es1] at T1;rw[<-es1] at aa;have af:((AK 4 s1).getD []).length<=100000:=Cn 4 aa;have T2:=I (fun g w h=>Dx g s1 w h (by omega));obtain⟨v2,ab⟩:∃x:L,x=ocC s1:=⟨_,rfl⟩;obtain⟨s2,Y⟩:∃s,s=AK 4 s1:=⟨_,rfl⟩;rw[<-ab,<-Y] at T2;rw[<-Y] at af;have ag:=I (show(apQ c).1.t=v1 by rw[Z,F];rfl);have ah:=I (show(apQ c).1.a=v2 by rw[ab,es1,F];rfl);have FS:=I (show(apQ c).2=s2 by rw[Y,es1,F];rfl);rw[ag.o,ah.o,FS.o];clear h hs X aa af ag Z es1 ah ab Y F FS ae;have ak:=I ai;clear ai;subst eW;go_enter Tryz.func107,Tryz.ntmps107
 go_wp2_with (first
  |(go_at_call 150;(with_reducible refine Calls.mono (T1.o _ _ HC.o) ?_);rintro e w1 ⟨y,rfl,ho,hd,M⟩;clear T1;replace ho:=ho.less (show w.heap.size+1<=_ from E.o);obtain⟨b1,c1,rfl,x1,x2,x3,x4⟩:=ho;have ad:Hid (OwnB w1 (w.heap.size+1) (.slice (some ⟨b1,0,none⟩) _ c1) _):=I ⟨b1,c1,rfl,x1,x2,x3,x4⟩;clear x1 x2 x3 x4;replace HC:=I hd;replace D:=I (D.o.grown M (by intro e;injection e with e;have:=O.o;omega));replace HG:=I (Cw HG.o M);replace E:=I (Nat.lt_of_lt_of_le E.o M.size);clear hd M)
  |(go_at_call 151;(with_reducible refine Calls.mono (T2.o _ _ HC.o) ?_);rintro e w2 ⟨⟨y,rfl,ho⟩,hd,M⟩;clear T2;replace ho:=ho.less (show w.heap.size+1<=_ from E.o);obtain⟨b2,c2,rfl,x1,x2,x3,x4⟩:=ho;have aj:Hid (OwnB w2 (w.heap.size+1) (.slice (some ⟨b2,0,none⟩) _ c2) _):=I ⟨b2,c2,rfl,x1,x2,x3,x4⟩;clear x1 x2 x3 x4;replace HC:=I hd;replace ad:=I (ad.o.keep M (by have:=O.o;omega));replace D:=I (D.o.grown M (by intro e;injection e with e;have:=O.o;omega));replace HG:=I (Cw HG.o M);replace E:=I (Nat.lt_of_lt_of_le E.o M.size);clear hd M;have n0:w2.cell? ⟨w.heap.size,0,none⟩=some (.string ⟨#[]⟩):=D.o.cell 0;have y0:=D.o.frozen 0;have n1:w2.cell? ⟨w.heap.size,1,none⟩=some (.string ⟨#[]⟩):=D.o.cell 1;have y1:=D.o.frozen 1;have n2:w2.cell? ⟨w.heap.size,2,none⟩=some (.int .i64 0):=D.o.cell 2;have y2:=D.o.frozen 2;have n3:w2.cell? ⟨w.heap.size,3,none⟩=some (.slice none 0 0):=D.o.cell 3;have y3:=D.o.frozen 3;have n4:w2.cell? ⟨w.heap.size,4,none⟩=some (.slice none 0 0):=D.o.cell 4;have y4:=D.o.frozen 4)
  |fail)
 have hE:Blk (((((w2.setCell ⟨w.heap.size,0,none⟩ (.string ⟨v1.s.1.toArray⟩)).setCell ⟨w.heap.size,1,none⟩ (.string ⟨v1.s.2.toArray⟩)).setCell ⟨w.heap.size,2,none⟩ (.int .i64 v1.k)).setCell ⟨w.heap.size,3,none⟩ (.slice (some ⟨b1,0,none⟩) v1.b.length c1)).setCell ⟨w.heap.size,4,none⟩ (.slice (some ⟨b2,0,none⟩) v2.length c2)) w.heap.size 59 #[.string ⟨v1.s.1.toArray⟩,.string ⟨v1.s.2.toArray⟩,.int .i64 v1.k,.slice (some ⟨b1,0,none⟩) v1.b.length c1,.slice (some ⟨b2,0,none⟩) v2.length c2]:=(((((D.o.set 0 (.string ⟨v1.s.1.toArray⟩)).set 1 (.string ⟨v1.s.2.toArray⟩)).set 2 (.int .i64 v1.k)).set 3 (.slice (some ⟨b1,0,none⟩) v1.b.length c1)).set 4 (.slice (some ⟨b2,0,none⟩) v2.length c2));have hp:=(Ay (Ay (Ay (Ay (Ay (World.grownBy.refl w2 (some w.heap.size)) (p:=⟨w.heap.size,0,none⟩) (.inl rfl) (.string ⟨v1.s.1.toArray⟩)) (p:=⟨w.heap.size,1,none⟩) (.inl rfl) (.string ⟨v1.s.2.toArray⟩)) (p:=⟨w.heap.size,2,none⟩) (.inl rfl) (.int .i64 v1.k)) (p:=⟨w.heap.size,3,none⟩) (.inl rfl) (.slice (some ⟨b1,0,none⟩) v1.b.length c1)) (p:=⟨w.heap.size,4,none⟩) (.inl rfl) (.slice (some ⟨b2,0,none⟩) v2.length c2));have hq:=Am (P:=Tryz.prog) hE Tryz.underlying59 rfl (by kernel_rfl);refine bodyPost_ret (v:=.agg #[.string ⟨v1.s.1.toArray⟩,.string ⟨v1.s.2.toArray⟩,.int .i64 v1.k,.slice (some ⟨b1,0,none⟩) v1.b.length c1,.slice (some ⟨b2,0,none⟩) v2.length c2]) ?_ ?_ ?_
 ·exact Aj 2 59 ⟨w.heap.size,0,none⟩ Tryz.results107 rfl hq
 ·rfl
 exact⟨_,_,rfl,(ad.o.keep hp (by omega)).less (by omega),(aj.o.keep hp (by omega)).less (by omega),CJ HC.o hp (by have:=O.o;omega),Fy HG.o hp Ae⟩
theorem Ol (g:Nat) (c:Option L) (w:World) (h:Cur w g c) (hs:(c.getD []).length<=100000):Calls Tryz.prog 108 #[.pointer (some ⟨g,0,none⟩)] w fun e w'=>e=.returned (.agg #[.int .i64 (faQ c).1.e,.int .i64 (faQ c).1.no])/\Cur w' g (faQ c).2/\w.grownBy w' (some g):=by
 obtain⟨W,eW⟩:=Ah (w.alloc (.cells #[.int .i64 0,.int .i64 0] 61));have ah:W.heap.size=w.heap.size+1:=by rw[eW];simp
 have O:=I (show Blk W w.heap.size 61 #[.int .i64 0,.int .i64 0] by rw[eW];exact Blk.new _ _ _);have ae:=De h;have HC:=I (show Cur W g c by rw[eW];exact h.alloc _);have HG:=I (show w.grownBy W (some g) by rw[eW];exact Ce (World.grownBy.refl _ _) _);have aa:=hs;obtain⟨s0,D⟩:∃s,s=c:=⟨_,rfl⟩;rw[<-D] at HC aa;have Z:=I ae;have F:=I (show w.heap.size<W.heap.size by omega);have X:(((intC s0).2).getD []).length<=100000:=Ef aa;have T1:=I (fun g w h=>BB g s0 w h (by omega));obtain⟨v1,ab⟩:∃x:Int,x=((intC s0).1:Int):=⟨_,rfl⟩;obtain⟨s1,es1⟩:∃s,s=(intC s0).2:=⟨_,rfl⟩;rw[<-ab,<-es1] at T1;rw[<-es1] at X;have af:(((intC s1).2).getD []).length<=100000:=Ef X;have T2:=I (fun g w h=>BB g s1 w h (by omega));obtain⟨v2,Y⟩:∃x:Int,x=((intC s1).1:Int):=⟨_,rfl⟩;obtain⟨s2,E⟩:∃s,s=(intC s1).2:=⟨_,rfl⟩;rw[<-Y,<-E] at T2;rw[<-E] at af;have ad:=I (show(faQ c).1.e=v1 by rw[ab,D];rfl);have ag:=I (show(faQ c).1.no=v2 by rw[Y,es1,D];rfl);have FS:=I (show(faQ c).2=s2 by rw[E,es1,D];rfl);rw[ad.o,ag.o,FS.o];clear h hs aa X af ad ab es1 ag Y E D FS ae;have ai:=I ah;clear ah;subst eW;go_enter Tryz.func108,Tryz.ntmps108
 go_wp2_with (first
  |(go_at_call 149;(with_reducible refine Calls.mono (T1.o _ _ HC.o) ?_);rintro e w1 ⟨rfl,hd,M⟩;clear T1;replace HC:=I hd;replace O:=I (O.o.grown M (by intro e;injection e with e;have:=Z.o;omega));replace HG:=I (Cw HG.o M);replace F:=I (Nat.lt_of_lt_of_le F.o M.size);clear hd M)
  |(go_at_call 149;(with_reducible refine Calls.mono (T2.o _ _ HC.o) ?_);rintro e w2 ⟨rfl,hd,M⟩;clear T2;replace HC:=I hd;replace O:=I (O.o.grown M (by intro e;injection e with e;have:=Z.o;omega));replace HG:=I (Cw HG.o M);replace F:=I (Nat.lt_of_lt_of_le F.o M.size);clear hd M;have n0:w2.cell? ⟨w.heap.size,0,none⟩=some (.int .i64 0):=O.o.cell 0;have y0:=O.o.frozen 0;have n1:w2.cell? ⟨w.heap.size,1,none⟩=some (.int .i64 0):=O.o.cell 1;have y1:=O.o.frozen 1)
  |fail)
 have hE:Blk ((w2.setCell ⟨w.heap.size,0,none⟩ (.int .i64 v1)).setCell ⟨w.heap.size,1,none⟩ (.int .i64 v2)) w.heap.size 61 #[.int .i64 v1,.int .i64 v2]:=((O.o.set 0 (.int .i64 v1)).set 1 (.int .i64 v2));have hp:=(Ay (Ay (World.grownBy.refl w2 (some w.heap.size)) (p:=⟨w.heap.size,0,none⟩) (.inl rfl) (.int .i64 v1)) (p:=⟨w.heap.size,1,none⟩) (.inl rfl) (.int .i64 v2));have hq:=Am (P:=Tryz.prog) hE Tryz.underlying61 rfl (by kernel_rfl);refine bodyPost_ret (v:=.agg #[.int .i64 v1,.int .i64 v2]) ?_ ?_ ?_
 ·exact Aj 2 61 ⟨w.heap.size,0,none⟩ Tryz.results108 rfl hq
 ·rfl
 exact⟨rfl,CJ HC.o hp (by have:=Z.o;omega),Fy HG.o hp Ae⟩
theorem VI:(Tryz.prog.info? 5).map (·.size)=some 1:=by kernel_rfl
theorem Tb:(Tryz.prog.info? 31).map (·.size)=some 32:=by kernel_rfl
theorem bvs_one' (l:L):(bvs l).toArray.all (·.oneCell')=true:=all_oneCell_toArray (Bz l)
theorem Om {W:World} {K b c:Nat} {t:TypeId} {x:L} (h:Blk W K t (bvs key0).toArray) (F:∀i u,(bvs x)[i]? = some u->W.cell? ⟨b,i,none⟩=some u) :
  (Builtin.copy_ #[25,25] 3 #[.slice (some ⟨K,0,none⟩) 32 32,.slice (some ⟨b,0,none⟩) x.length c]).run Tryz.prog W=.ok (goInt (bvs (x.take 32)).length) (W.setCells K 0 (bvs (x.take 32))):=by
 refine run_copy_cells (P:=Tryz.prog) W 25 25 3 5 K 0 32 32 ⟨b,0,none⟩ x.length c (bvs (x.take 32)) Tryz.underlying25 VI ?_ ?_ ?_ ?_ (Bz _)
 ·rw[Ao,List.length_take];exact Nat.min_comm _ _
 ·intro j v E
  rw[addr_add,Nat.zero_add];apply F;have D:j<(bvs (x.take 32)).length:=(List.getElem?_eq_some_iff.1 E).1;rw[Ao,List.length_take] at D;rw[<-E];simp only[bvs,List.getElem?_map];rw[List.getElem?_take_of_lt (by omega)]
 ·intro j D
  rw[Ao,List.length_take] at D;exact(Ak h 32 (by simp [Ao,key0]) j (by omega)).1
 ·intro j D
  rw[Ao,List.length_take] at D;exact(Ak h 32 (by simp [Ao,key0]) j (by omega)).2
theorem LO (g:Nat) (c:Option L) (w:World) (h:Cur w g c) (hs:(c.getD []).length<=100000):Calls Tryz.prog 166 #[.pointer (some ⟨g,0,none⟩)] w fun e w'=>e=.returned (.agg (bvs (keQ c).1).toArray)/\Cur w' g (keQ c).2/\w.grownBy w' (some g):=by
 have ez:(bvs key0).toArray=#[.int .u8 0,.int .u8 0,.int .u8 0,.int .u8 0,.int .u8 0,.int .u8 0,.int .u8 0,.int .u8 0,.int .u8 0,.int .u8 0,.int .u8 0,.int .u8 0,.int .u8 0,.int .u8 0,.int .u8 0,.int .u8 0,.int .u8 0,.int .u8 0,.int .u8 0,.int .u8 0,.int .u8 0,.int .u8 0,.int .u8 0,.int .u8 0,.int .u8 0,.int .u8 0,.int .u8 0,.int .u8 0,.int .u8 0,.int .u8 0,.int .u8 0,.int .u8 0]:=by rfl
 have T1:=I (fun w1 (h:Cur w1 g c)=>Dx g c w1 h (by omega));have E1:=I (show(keQ c).1=(ocC c++key0).take 32 from rfl);have E2:=I (show(keQ c).2=AK 4 c from rfl);rw[E1.o,E2.o];obtain⟨x,ex⟩:=Ah (ocC c);obtain⟨r,er⟩:=Ah (AK 4 c);rw[<-ex,<-er] at T1⊢;go_enter Tryz.func166,Tryz.ntmps166
 go_upto_region 2 with fail
 rw[<-ez];obtain⟨W,eW⟩:=Ah ((w.alloc (.cells (bvs key0).toArray 31)).alloc (.cells (bvs key0).toArray 31));have hq:=Blk.new (w.alloc (.cells (bvs key0).toArray 31)) 31 (bvs key0).toArray;rw[show(w.alloc (.cells (bvs key0).toArray 31)).heap.size=w.heap.size+1 by simp,<-eW] at hq;have O:=I (show Blk W w.heap.size 31 (bvs key0).toArray by rw[eW];exact(Blk.new _ _ _).alloc _);have Z:=I (show Cur W g c by rw[eW];exact(h.alloc _).alloc _);have Y:=I (show w.grownBy W (some g) by rw[eW];exact Ce (Ce (World.grownBy.refl _ _) _) _);have F:=I (De h);have E:=I hq;rw[<-eW];clear eW ez hq h hs E1 E2 ex er;replace O:=I (show Blk W.drew _ _ _ from O.o.drewN 1);replace E:=I (show Blk W.drew _ _ _ from E.o.drewN 1);replace Z:=I (show Cur W.drew g c from Blk.drewN Z.o 1);replace Y:=I (show w.grownBy W.drew (some g) from Et Y.o 1)
 go_region_held3 (fun w'=>True) (trivial) ((go_at_call 151;refine Calls.mono (T1.o _ Z.o) ?_;rintro e w1 ⟨⟨v,rfl,ho⟩,hd,hg⟩;obtain⟨b,cp,rfl,x1,x2,x3,x4⟩:=ho;clear T1;replace Z:=I hd;replace O:=I (O.o.grown hg (by intro e;injection e with e;have:=F.o;omega));replace E:=I (E.o.grown hg (by intro e;injection e with e;have:=F.o;omega));replace Y:=I (Cw Y.o hg);have aa:=Om (c:=cp) E.o x4;clear hd hg x1 x2 x3 x4))
 have D:(bvs ((x++key0).take 32)).toArray.size=32:=by simp [Ao,key0]
 have M:=DX (a:=w1) (.inl rfl:some (w.heap.size+1)=some (w.heap.size+1)\/_) (bvs (x.take 32)) 0 w1 (World.grownBy.refl _ _);replace E:=I (Oh (x:=x) E.o);have HO:=I (bvs_one' ((x++key0).take 32));obtain⟨ks,X⟩:=Ah ((bvs ((x++key0).take 32)).toArray);rw[<-X] at E D HO;obtain⟨V,eV⟩:=Ah (w1.setCells (w.heap.size+1) 0 (bvs (x.take 32)));rw[<-eV] at E M⊢;replace O:=I (O.o.grown M (by intro e;injection e with e;omega));replace Z:=I (CJ Z.o M (by have:=F.o;omega));replace Y:=I (Fy Y.o M (by omega));have HI:=I (show(Tryz.prog.info? 31).map (·.size)=some ks.size by rw[D];exact Tb);have HT:=I (Ak O.o ks.size (by rw[D];simp [Ao,key0]));have EK:=I X;have HS:=I D;clear aa eV M X D
 go_wp2_with (first
  |(refine Ac (by rfl) 31 (.tmp 3) (by rfl) (w.heap.size+1) 0 (by rfl) ks _ (Ab E.o) Tryz.underlying31 (by rfl) HI.o ?_)
  |(refine wpList_store_mid (by rfl) 31 (.tmp 2) (.tmp 8) (by rfl) w.heap.size 0 ks (by rfl) (by rfl) HT.o HI.o HO.o ?_)
  |fail)
 have hE:=AE (ds:=ks) O.o (by rw[HS.o];simp [Ao,key0]);have M:=AJ V w.heap.size ks.toList;have hq:=Am (P:=Tryz.prog) hE Tryz.underlying31 rfl HI.o;refine bodyPost_ret (v:=.agg ks) ?_ ?_ ?_
 ·exact Aj 2 31 ⟨w.heap.size,0,none⟩ Tryz.results166 rfl hq
 ·rfl
 exact⟨by rw[EK.o],CJ Z.o M (by have:=F.o;omega),Fy Y.o M Ae⟩
theorem Au {P:Program} {ops:Array Oper} {rest:List Oper} {o:Oper} {a:Act} {w:World} {Q:Exit->Act->World->Prop} (F:o.guard=none) (t:TypeId) (parts:Array (Nat×Operand)) (E:o.op=.build t parts)
  (cells:Array Value) (D:P.built t (parts.map fun(i,x)=>(i,a.eval x)).toList=some cells) (h:wpList P ops Q rest (a.put o.dst (.agg cells)) w):wpList P ops Q (o :: rest) a w:=
 wpList_build F t parts E (by rw[D];rfl) (by rw[D];exact h)
theorem len32 {v:L} (h:v.length=32):∃k0 k1 k2 k3 k4 k5 k6 k7 k8 k9 al X E ai an ab k16 D ag ad af ah aj Z M F Y ao ak aa ae O:UInt8,v = [k0,k1,k2,k3,k4,k5,k6,k7,k8,k9,al,X,E,ai,an,ab,k16,D,ag,ad,af,ah,aj,Z,M,F,Y,ao,ak,aa,ae,O]:=by
 rcases v with _ | ⟨k0,v⟩
 ·simp at h
 rcases v with _ | ⟨k1,v⟩
 ·simp at h
 rcases v with _ | ⟨k2,v⟩
 ·simp at h
 rcases v with _ | ⟨k3,v⟩
 ·simp at h
 rcases v with _ | ⟨k4,v⟩
 ·simp at h
 rcases v with _ | ⟨k5,v⟩
 ·simp at h
 rcases v with _ | ⟨k6,v⟩
 ·simp at h
 rcases v with _ | ⟨k7,v⟩
 ·simp at h
 rcases v with _ | ⟨k8,v⟩
 ·simp at h
 rcases v with _ | ⟨k9,v⟩
 ·simp at h
 rcases v with _ | ⟨al,v⟩
 ·simp at h
 rcases v with _ | ⟨X,v⟩
 ·simp at h
 rcases v with _ | ⟨E,v⟩
 ·simp at h
 rcases v with _ | ⟨ai,v⟩
 ·simp at h
 rcases v with _ | ⟨an,v⟩
 ·simp at h
 rcases v with _ | ⟨ab,v⟩
 ·simp at h
 rcases v with _ | ⟨k16,v⟩
 ·simp at h
 rcases v with _ | ⟨D,v⟩
 ·simp at h
 rcases v with _ | ⟨ag,v⟩
 ·simp at h
 rcases v with _ | ⟨ad,v⟩
 ·simp at h
 rcases v with _ | ⟨af,v⟩
 ·simp at h
 rcases v with _ | ⟨ah,v⟩
 ·simp at h
 rcases v with _ | ⟨aj,v⟩
 ·simp at h
 rcases v with _ | ⟨Z,v⟩
 ·simp at h
 rcases v with _ | ⟨M,v⟩
 ·simp at h
 rcases v with _ | ⟨F,v⟩
 ·simp at h
 rcases v with _ | ⟨Y,v⟩
 ·simp at h
 rcases v with _ | ⟨ao,v⟩
 ·simp at h
 rcases v with _ | ⟨ak,v⟩
 ·simp at h
 rcases v with _ | ⟨aa,v⟩
 ·simp at h
 rcases v with _ | ⟨ae,v⟩
 ·simp at h
 rcases v with _ | ⟨O,v⟩
 ·simp at h
 rcases v with _ | ⟨x,v⟩
 ·exact⟨k0,k1,k2,k3,k4,k5,k6,k7,k8,k9,al,X,E,ai,an,ab,k16,D,ag,ad,af,ah,aj,Z,M,F,Y,ao,ak,aa,ae,O,rfl⟩
 ·simp at h
theorem QG (k:L) (s:Pr) (st en no:Int) (hk:k.length=32):Tryz.prog.built 110 [(0,.agg (bvs k).toArray),(1,.agg #[.string ⟨s.1.toArray⟩,.string ⟨s.2.toArray⟩]),(2,.int .i64 st),(3,.int .i64 en),(4,.int .i64 no)]=some (rpC ⟨k,s,st,en,no⟩).toArray:=by
 obtain⟨k0,k1,k2,k3,k4,k5,k6,k7,k8,k9,al,X,E,ai,an,ab,k16,D,ag,ad,af,ah,aj,Z,M,F,Y,ao,ak,aa,ae,O,rfl⟩:=len32 hk
 kernel_rfl
theorem JK (k:L) (s:Pr) (st en no:Int):(rpC ⟨k,s,st,en,no⟩).toArray.all (·.oneCell')=true:=all_oneCell_toArray fun v D=>by
 simp only[rpC,prC,List.mem_append,List.mem_cons,List.not_mem_nil,or_false] at D;rcases D with D | (rfl | rfl) | rfl | rfl | rfl
 ·exact Bz _ v D
 ·rfl
 ·rfl
 ·rfl
 ·rfl
 ·rfl
theorem On (A:Option Addr) (b:L) (cap:Nat) (w:World) (h:Rd w w.heap.size A (bvs b)) (hs:b.length<=100000):Calls Tryz.prog 117 #[.slice A b.length cap] w fun e w'=>e=.returned (.agg (rpC (rpQ b).1).toArray)/\Below w.heap.size w w':=by
 obtain⟨zz,ax⟩:∃z:Array Value,z=#[.int .u8 0,.int .u8 0,.int .u8 0,.int .u8 0,.int .u8 0,.int .u8 0,.int .u8 0,.int .u8 0,.int .u8 0,.int .u8 0,.int .u8 0,.int .u8 0,.int .u8 0,.int .u8 0,.int .u8 0,.int .u8 0,.int .u8 0,.int .u8 0,.int .u8 0,.int .u8 0,.int .u8 0,.int .u8 0,.int .u8 0,.int .u8 0,.int .u8 0,.int .u8 0,.int .u8 0,.int .u8 0,.int .u8 0,.int .u8 0,.int .u8 0,.int .u8 0,.string ⟨#[]⟩,.string ⟨#[]⟩,.int .i64 0,.int .i64 0,.int .i64 0]:=⟨_,rfl⟩;have aF:=I (show zz.size=37 by rw[ax];simp);obtain⟨W,eW⟩:=Ah (w.alloc (.cells zz 110));have aH:W.heap.size=w.heap.size+1:=by rw[eW];simp
 have O:=I (show Blk W w.heap.size 110 zz by rw[eW];exact Blk.new _ _ _);have X:=I (show Below w.heap.size w W by rw[eW];exact Af.alloc Ae _);have c0:=ML w.heap.size A b b.length cap W (by rw[eW];exact h.alloc Ae _) rfl;have c1:=I (fun g w h=>Ho 122 g (some b) w h (by show((b.length:Int))<=100000;omega));have ad:((Ar 122 (some b)).getD []).length<=100000:=FD 122 (show((some b:Option L).getD []).length<=100000 from hs);obtain⟨s0,ar⟩:∃s,s=Ar 122 (some b):=⟨_,rfl⟩;rw[<-ar] at c1 ad;have af:(((keQ s0).2).getD []).length<=100000:=Cn 4 ad;have T1:=I (fun g w h=>LO g s0 w h ad);have hk:=QD s0;obtain⟨v1,ae⟩:∃x:L,x=(keQ s0).1:=⟨_,rfl⟩;obtain⟨s1,es1⟩:∃s,s=(keQ s0).2:=⟨_,rfl⟩;rw[<-ae,<-es1] at T1;rw[<-ae] at hk;rw[<-es1] at af;have ao:(((prQ s1).2).getD []).length<=100000:=Cn 48 af;have T2:=I (fun g w h=>Cc g s1 w h af);obtain⟨v2,au⟩:∃x:Pr,x=(prQ s1).1:=⟨_,rfl⟩;obtain⟨s2,ah⟩:∃s,s=(prQ s1).2:=⟨_,rfl⟩;rw[<-au,<-ah] at T2;rw[<-ah] at ao;have aj:(((intC s2).2).getD []).length<=100000:=Ef ao;have T3:=I (fun g w h=>BB g s2 w h (by omega));obtain⟨v3,av⟩:∃x:Int,x=((intC s2).1:Int):=⟨_,rfl⟩;obtain⟨s3,ag⟩:∃s,s=(intC s2).2:=⟨_,rfl⟩;rw[<-av,<-ag] at T3;rw[<-ag] at aj;have aA:(((intC s3).2).getD []).length<=100000:=Ef aj;have T4:=I (fun g w h=>BB g s3 w h (by omega));obtain⟨v4,az⟩:∃x:Int,x=((intC s3).1:Int):=⟨_,rfl⟩;obtain⟨s4,aa⟩:∃s,s=(intC s3).2:=⟨_,rfl⟩;rw[<-az,<-aa] at T4;rw[<-aa] at aA;have aC:(((intC s4).2).getD []).length<=100000:=Ef aA;have T5:=I (fun g w h=>BB g s4 w h (by omega));obtain⟨v5,ay⟩:∃x:Int,x=((intC s4).1:Int):=⟨_,rfl⟩;obtain⟨s5,an⟩:∃s,s=(intC s4).2:=⟨_,rfl⟩;rw[<-ay,<-an] at T5;rw[<-an] at aC;have FV:(rpQ b).1=⟨v1,v2,v3,v4,v5⟩:=by rw[ae,au,av,az,ay,aa,ag,ah,es1,ar];rfl
 rw[FV];have ai:=QG v1 v2 v3 v4 v5 hk;have ab:(rpC ⟨v1,v2,v3,v4,v5⟩).toArray.size=37:=Fb hk;have Y:(rpC ⟨v1,v2,v3,v4,v5⟩).toArray.all (·.oneCell')=true:=JK v1 v2 v3 v4 v5;obtain⟨ks,aE⟩:=Ah ((bvs v1).toArray);rw[<-aE] at ai T1;obtain⟨cs,aD⟩:=Ah ((rpC ⟨v1,v2,v3,v4,v5⟩).toArray);rw[<-aD] at ai ab Y⊢;have aK:=I ai;have aG:=I ab;have HO:=I Y;have HI:=I (show(Tryz.prog.info? 110).map (·.size)=some cs.size by rw[ab];kernel_rfl);clear h hs hk ai ab Y aE aD FV ar ad af ao aj aA aC ae es1 au ah av ag az aa ay an;have ak:=I aH;clear aH;go_enter Tryz.func117,Tryz.ntmps117
 go_upto_region 1 with fail
 rw[<-ax,<-eW];clear ax eW
 go_wp2_with (first
  |(go_at_call 102;refine Calls.mono c0 ?_;rintro e wo ⟨go,rfl,aJ,aB,hb⟩;clear c0;have HC:=I aB;have al:=I (show w.heap.size+1<=go by have:=ak.o;omega);replace O:=I (O.o.below hb);replace X:=I (IN X.o (by have:=ak.o;omega) hb);have aw:=I (show w.heap.size+1<=wo.heap.size by have:=hb.size;have:=ak.o;omega);clear aJ aB hb)
  |(go_at_call 103;refine Calls.mono (c1.o _ _ HC.o) ?_;rintro e wi ⟨⟨gd,rfl,aI,M⟩,hc,F⟩;clear c1 HC;have Z:=I M;have D:=I (show w.heap.size+1<=gd by have:=aw.o;omega);have E:=I (De M);replace O:=I (O.o.grown F (by intro e;injection e with e;have:=al.o;omega));replace X:=I (Al X.o F (by have:=aw.o;omega) (by have:=al.o;omega));clear aI M hc F aw al)
  |(go_at_call 166;(with_reducible refine Calls.mono (T1.o _ _ Z.o) ?_);rintro e w1 ⟨rfl,M,F⟩;clear T1;replace Z:=I M;replace O:=I (O.o.grown F (by intro e;injection e with e;have:=D.o;omega));replace X:=I (Al X.o F (by have:=D.o;have:=E.o;omega) (by have:=D.o;omega));replace E:=I (Nat.lt_of_lt_of_le E.o F.size);clear M F)
  |(go_at_call 148;(with_reducible refine Calls.mono (T2.o _ _ Z.o) ?_);rintro e w2 ⟨rfl,M,F⟩;clear T2;replace Z:=I M;replace O:=I (O.o.grown F (by intro e;injection e with e;have:=D.o;omega));replace X:=I (Al X.o F (by have:=D.o;have:=E.o;omega) (by have:=D.o;omega));replace E:=I (Nat.lt_of_lt_of_le E.o F.size);clear M F)
  |(go_at_call 149;(with_reducible refine Calls.mono (T3.o _ _ Z.o) ?_);rintro e w3 ⟨rfl,M,F⟩;clear T3;replace Z:=I M;replace O:=I (O.o.grown F (by intro e;injection e with e;have:=D.o;omega));replace X:=I (Al X.o F (by have:=D.o;have:=E.o;omega) (by have:=D.o;omega));replace E:=I (Nat.lt_of_lt_of_le E.o F.size);clear M F)
  |(go_at_call 149;(with_reducible refine Calls.mono (T4.o _ _ Z.o) ?_);rintro e w4 ⟨rfl,M,F⟩;clear T4;replace Z:=I M;replace O:=I (O.o.grown F (by intro e;injection e with e;have:=D.o;omega));replace X:=I (Al X.o F (by have:=D.o;have:=E.o;omega) (by have:=D.o;omega));replace E:=I (Nat.lt_of_lt_of_le E.o F.size);clear M F)
  |(go_at_call 149;(with_reducible refine Calls.mono (T5.o _ _ Z.o) ?_);rintro e w5 ⟨rfl,M,F⟩;clear T5;replace Z:=I M;replace O:=I (O.o.grown F (by intro e;injection e with e;have:=D.o;omega));replace X:=I (Al X.o F (by have:=D.o;have:=E.o;omega) (by have:=D.o;omega));replace E:=I (Nat.lt_of_lt_of_le E.o F.size);clear M F)
  |(refine Au (by rfl) 110 #[(0,.tmp 8),(1,.tmp 10),(2,.tmp 12),(3,.tmp 14),(4,.tmp 16)] (by rfl) cs (by simp only[List.map_toArray,List.map_cons,List.map_nil];exact aK.o) ?_)
  |(refine wpList_store_mid (by rfl) 110 (.tmp 2) (.tmp 17) (by rfl) w.heap.size 0 cs (by rfl) (by rfl) (Ak O.o _ (by have:=aF.o;have:=aG.o;omega)) HI.o HO.o ?_)
  |fail)
 have hE:=AE (ds:=cs) O.o (by have:=aF.o;have:=aG.o;omega);have hp:=AJ w5 w.heap.size cs.toList;have hq:=Am (P:=Tryz.prog) hE Tryz.underlying110 rfl HI.o;refine bodyPost_ret (v:=.agg cs) ?_ ?_ ?_
 ·exact Aj 2 110 ⟨w.heap.size,0,none⟩ Tryz.results117 rfl hq
 ·rfl
 exact⟨rfl,Al X.o hp (by have:=O.o.lt;omega) Ae⟩
end Mc
end Go.Proofs.YtcpccikongbopaaGreat
