import Derived.Test.YtlccngianpfalaaGreatZClientRequests13
set_option maxHeartbeats 25600000
set_option maxRecDepth 100000
set_option linter.unusedVariables false
set_option linter.unusedSimpArgs false
namespace Go.Proofs.YtlccngianpfalaaGreat
namespace Mc
open DerP Ms
def prQ (c:Option L):Pr×Option L:=(prI (Ax 48 c),AQ 48 c)
def tkQ (c:Option L):Tk×Option L:=(⟨(prQ (Ax 97 c)).1,((intC (prQ (Ax 97 c)).2).1:Int),ocC (intC (prQ (Ax 97 c)).2).2⟩,AQ 97 c)
def keQ (c:Option L):L×Option L:=((ocC c++key0).take 32,AQ 4 c)
theorem Rq (c:Option L):(keQ c).1.length=32:=by
 show((ocC c++key0).take 32).length=32;rw[List.length_take,List.length_append,show key0.length=32 from rfl];omega
def rpQ (b:L):Rp×Option L:=
 let c1:=keQ (Ax 122 (some b));let c2:=prQ c1.2;let c3:=nmP c2.2;let c4:=nmP c3.2;let c5:=nmP c4.2
 (⟨c1.1,c2.1,c3.1,c4.1,c5.1⟩,c5.2)
def asQ (c:Option L):As×Option L:=
 let c1:=prQ c;let c2:=prQ c1.2;let c3:=nmP c2.2;let c4:=nmP c3.2
 (⟨c1.1,c2.1,c3.1,c4.1⟩,c4.2)
def tgQ (c:Option L):Tg×Option L:=
 let c1:=tkQ c;let c2:=AQ 4 c1.2;let c3:=prQ c2;let c4:=nmP c3.2;let c5:=nmP c4.2
 (⟨c1.1,ocC c1.2,c3.1,c4.1,c5.1⟩,c5.2)
def reQ (c:Option L):Re×Option L:=
 let c1:=prQ c;let c2:=tkQ c1.2
 (⟨c1.1,c2.1,ocC c2.2⟩,AQ 4 c2.2)
def apQ (c:Option L):Ap×Option L:=
 let c1:=tkQ c
 (⟨c1.1,ocC c1.2⟩,AQ 4 c1.2)
def faQ (c:Option L):Fa×Option L:=
 let c1:=nmP c;let c2:=nmP c1.2
 (⟨c1.1,c2.1⟩,c2.2)
def mgQ (b:L):Mg:=
 match b with
 | []=>mg0
 |t :: _=>
  if t=106 then ⟨1,(asQ (Ax 106 (some b))).1,tg0,re0,ap0,fa0⟩
  else if t=108 then ⟨2,as0,(tgQ (Ax 108 (some b))).1,re0,ap0,fa0⟩
  else if t=107 then ⟨3,as0,tg0,(reQ (Ax 107 (some b))).1,ap0,fa0⟩
  else if t=110 then ⟨4,as0,tg0,re0,(apQ (Ax 110 (some b))).1,fa0⟩
  else if t=126 then ⟨5,as0,tg0,re0,ap0,(faQ (Ax 126 (some b))).1⟩
  else mg0
theorem FX {p:Pr} (h:prB p=true) (r:L):prQ (some (prE p++r))=(p,some r):=by
 have M:=Ec h;have O:=(AV h).2;rw[prQ,prE,be (by omega),ne (by omega),Db,prI,Xj (by omega),ne (by omega),UF (by omega)]
theorem Wq {n:Int} (M:0<=n) (O:n<=4611686018427387904) (r:L):((intC (some (encI n++r))).1:Int)=n/\(intC (some (encI n++r))).2=some r:=by
 have:=Dc M O r;rw[nmP] at this;injection this with a b;exact⟨a,b⟩
theorem Km {t:Tk} (h:tkB t=true) (r:L):tkQ (some (tkE t++r))=(t,some r):=by
 obtain⟨O,Z,X⟩:=DS h;have Y:=(BU h).2;have M:=Wq (n:=t.k) (by omega) (by omega) (elem 4 t.b);rw[tkQ,tkE,be (by omega),ne (by omega),Dn,FX O,M.1,M.2,Jo (by omega)]
theorem TO {k:L} (h:k.length=32) (r:L):keQ (some (elem 4 k++r))=(k,some r):=by
 rw[keQ,SL (by omega),ne (by omega),List.take_append_of_le_length (by omega),List.take_of_length_le (by omega)]
theorem TP {p:Rp} (h:rpB p=true) (hk:p.ss.length=32):rpQ (rpE p)=(p,some []):=by
 have Z:prB p.s=true/\tmB p.st=true/\tmB p.en=true/\tmB p.no=true:=by simpa [rpB] using h
 obtain⟨M,Y,h5,X⟩:=Z;have t4:=BC Y;have t5:=BC h5;have t6:=BC X;have l1:=(AV M).1;have l2:=Az 4 p.ss;have l4:=AE p.st;have l5:=AE p.en;have l6:=AE p.no;have O:[elem 4 p.ss,prE p.s,encI p.st,encI p.en,encI p.no].flatten.length<=65535:=by simp only[List.flatten_cons,List.flatten_nil,List.length_append,List.length_nil];omega
 rw[rpQ,rpE,be0 O,Eo,TO hk];simp only;rw[FX M];simp only;rw[Dc (by omega) (by omega)];simp only;rw[Dc (by omega) (by omega)];simp only;rw[Dz (by omega) (by omega)]
theorem TQ {q:As} (h:asB q=true):Ax 106 (some (asE q))=some [prE q.c,prE q.s,encI q.t,encI q.no].flatten/\asQ (some [prE q.c,prE q.s,encI q.t,encI q.no].flatten)=(q,some []):=by
 have Z:prB q.c=true/\prB q.s=true/\tmB q.t=true/\tmB q.no=true:=by simpa [asB] using h
 obtain⟨O,M,Y,h5⟩:=Z;have t4:=BC Y;have t5:=BC h5;have l1:=(AV O).1;have l2:=(AV M).1;have l4:=AE q.t;have l5:=AE q.no;have X:[prE q.c,prE q.s,encI q.t,encI q.no].flatten.length<=65535:=by simp only[List.flatten_cons,List.flatten_nil,List.length_append,List.length_nil];omega
 refine⟨by rw[asE,be0 X],?_⟩;rw[Ja,asQ,FX O];simp only;rw[FX M];simp only;rw[Dc (by omega) (by omega)];simp only;rw[Dz (by omega) (by omega)]
theorem TR {q:Tg} (h:tgB q=true):Ax 108 (some (tgE q))=some [tkE q.t,elem 4 q.a,prE q.s,encI q.u,encI q.no].flatten/\tgQ (some [tkE q.t,elem 4 q.a,prE q.s,encI q.u,encI q.no].flatten)=(q,some []):=by
 have Z:tkB q.t=true/\Bv q.a=true/\prB q.s=true/\tmB q.u=true/\tmB q.no=true:=by simpa [tgB] using h
 obtain⟨O,Y,M,h4,h5⟩:=Z;have t4:=BC h4;have t5:=BC h5;have b3:=Bd Y;have l1:=(BU O).1;have l2:=Az 4 q.a;have l3:=(AV M).1;have l4:=AE q.u;have l5:=AE q.no;have X:[tkE q.t,elem 4 q.a,prE q.s,encI q.u,encI q.no].flatten.length<=65535:=by simp only[List.flatten_cons,List.flatten_nil,List.length_append,List.length_nil];omega
 refine⟨by rw[tgE,be0 X],?_⟩;rw[Eo,tgQ,Km O];simp only;rw[SL (by omega),ne (by omega),FX M];simp only;rw[Dc (by omega) (by omega)];simp only;rw[Dz (by omega) (by omega)]
theorem TS {q:Re} (h:reB q=true):Ax 107 (some (reE q))=some [prE q.c,tkE q.t,elem 4 q.b].flatten/\reQ (some [prE q.c,tkE q.t,elem 4 q.b].flatten)=(q,some []):=by
 have Z:prB q.c=true/\tkB q.t=true/\Bv q.b=true:=by simpa [reB] using h
 obtain⟨O,M,Y⟩:=Z;have b3:=Bd Y;have l1:=(AV O).1;have l2:=(BU M).1;have l3:=Az 4 q.b;have X:[prE q.c,tkE q.t,elem 4 q.b].flatten.length<=65535:=by simp only[List.flatten_cons,List.flatten_nil,List.length_append,List.length_nil];omega
 refine⟨by rw[reE,be0 X],?_⟩;rw[Dn,reQ,FX O];simp only;rw[Km M];simp only;rw[Jo (by omega),ne0 (by omega)]
theorem TT {q:Ap} (h:apB q=true):Ax 110 (some (apE q))=some [tkE q.t,elem 4 q.a].flatten/\apQ (some [tkE q.t,elem 4 q.a].flatten)=(q,some []):=by
 have Y:tkB q.t=true/\Bv q.a=true:=by simpa [apB] using h
 obtain⟨M,X⟩:=Y;have b3:=Bd X;have l2:=(BU M).1;have l3:=Az 4 q.a;have O:[tkE q.t,elem 4 q.a].flatten.length<=65535:=by simp only[List.flatten_cons,List.flatten_nil,List.length_append,List.length_nil];omega
 refine⟨by rw[apE,be0 O],?_⟩;rw[Db,apQ,Km M];simp only;rw[Jo (by omega),ne0 (by omega)]
theorem TU {q:Fa} (h:faB q=true):Ax 126 (some (faE q))=some [encI q.e,encI q.no].flatten/\faQ (some [encI q.e,encI q.no].flatten)=(q,some []):=by
 have X:(1<=q.e/\q.e<=255)/\tmB q.no=true:=by simpa [faB,inB] using h
 obtain⟨Y,O⟩:=X;have Z:=BC O;have l2:=AE q.e;have l3:=AE q.no;have M:[encI q.e,encI q.no].flatten.length<=65535:=by simp only[List.flatten_cons,List.flatten_nil,List.length_append,List.length_nil];omega
 refine⟨by rw[faE,be0 M],?_⟩;rw[Db,faQ,Dc (by omega) (by omega)];simp only;rw[Dz (by omega) (by omega)]
theorem TV {m:Mg} (h:mgB m=true):mgQ (mgE m)=m:=by
 rcases GC h with⟨O,e⟩ | ⟨O,e⟩ | ⟨O,e⟩ | ⟨O,e⟩ | ⟨O,e⟩
 ·have M:=TQ O
  have X:mgE m=asE m.aq:=by rw[e];rfl
  rw[X]
  conv=>rhs;rw[e]
  show(⟨1,(asQ (Ax 106 (some (asE m.aq)))).1,tg0,re0,ap0,fa0⟩:Mg)=_;rw[M.1,M.2]
 ·have M:=TR O
  have X:mgE m=tgE m.tg:=by rw[e];rfl
  rw[X]
  conv=>rhs;rw[e]
  show(⟨2,as0,(tgQ (Ax 108 (some (tgE m.tg)))).1,re0,ap0,fa0⟩:Mg)=_;rw[M.1,M.2]
 ·have M:=TS O
  have X:mgE m=reE m.re:=by rw[e];rfl
  rw[X]
  conv=>rhs;rw[e]
  show(⟨3,as0,tg0,(reQ (Ax 107 (some (reE m.re)))).1,ap0,fa0⟩:Mg)=_;rw[M.1,M.2]
 ·have M:=TT O
  have X:mgE m=apE m.ap:=by rw[e];rfl
  rw[X]
  conv=>rhs;rw[e]
  show(⟨4,as0,tg0,re0,(apQ (Ax 110 (some (apE m.ap)))).1,fa0⟩:Mg)=_;rw[M.1,M.2]
 ·have M:=TU O
  have X:mgE m=faE m.fa:=by rw[e];rfl
  rw[X]
  conv=>rhs;rw[e]
  show(⟨5,as0,tg0,re0,ap0,(faQ (Ax 126 (some (faE m.fa)))).1⟩:Mg)=_;rw[M.1,M.2]
theorem Rr (b:L):mgD b=if mgO (mgQ b)=some b then some (mgQ b) else none:=by
 split
 ·rename_i h;exact Jp.2 h
 ·rename_i h
  cases hd:mgD b with
  |none=>rfl
  |some m=>
   exfalso
   have O:=Jp.1 hd;have M:=Br.1 O;apply h;have e:mgQ b=m:=by rw[<-M.2.2];exact TV M.1
   rw[e];exact O
theorem Kn (b:L):(rpQ b).1.ss.length=32:=Rq _
theorem Rs (b:L):rpD b=if rpO (rpQ b).1=some b then some (rpQ b).1 else none:=by
 split
 ·rename_i h;exact(Xk (Kn b)).2 h
 ·rename_i h
  cases hd:rpD b with
  |none=>rfl
  |some m=>
   exfalso
   have O:=(Xl hd).1;have M:=Br.1 O;apply h;have hk:m.ss.length=32:=by
    have:=(Xl hd).2;have e:(rpP b).1=m:=by rw[this]
    rw[<-e];exact UG _
   have e:(rpQ b).1=m:=by rw[<-M.2.2,TP M.1 hk]
   rw[e];exact O
open Go.RowKit Ae DerC
def OwnB (w:World) (base:Nat) (v:Value) (l:L):Prop:=
 ∃b c,v=.slice (some ⟨b,0,none⟩) l.length c/\l.length<=c/\base<=b/\b<w.heap.size/\∀i u,(bvs l)[i]? = some u->w.cell? ⟨b,i,none⟩=some u
theorem OwnB.of_fresh {w:World} {base b c:Nat} {l:L} (h:Pv w base b l) (O:l.length<=c):OwnB w base (.slice (some ⟨b,0,none⟩) l.length c) l:=by
 refine⟨b,c,rfl,O,h.1,h.2.1,fun i u hu=>?_⟩;have M:i<l.length:=by
  rcases Nat.lt_or_ge i l.length with g | g
  ·exact g
  ·rw[List.getElem?_eq_none (by rw[AB];exact g)] at hu;cases hu
 rw[DR M] at hu;injection hu with hu;subst hu;exact(h.2.2 i M).1
theorem OwnB.keep {w w':World} {base g:Nat} {v:Value} {l:L} (h:OwnB w base v l) (O:w.grownBy w' (some g)) (X:g<base):OwnB w' base v l:=by
 obtain⟨b,c,Y,h2,Z,M,h5⟩:=h;exact⟨b,c,Y,h2,Z,Nat.lt_of_lt_of_le M O.size,fun i u hu=>(World.cell?_of_block (a:=⟨b,i,none⟩) (O.block b M (fun e=>by injection e with e;omega))).trans (h5 i u hu)⟩
theorem OwnB.below {w w':World} {base:Nat} {v:Value} {l:L} (h:OwnB w base v l) (O:Below w.heap.size w w'):OwnB w' base v l:=by
 obtain⟨b,c,X,Z,Y,M,h5⟩:=h;exact⟨b,c,X,Z,Y,Nat.lt_of_lt_of_le M O.size,fun i u hu=>(O.cell (p:=⟨b,i,none⟩) M).trans (h5 i u hu)⟩
theorem OwnB.less {w:World} {base base':Nat} {v:Value} {l:L} (h:OwnB w base v l) (Z:base'<=base):OwnB w base' v l:=by
 obtain⟨b,c,M,X,O,Y,h5⟩:=h;exact⟨b,c,M,X,Nat.le_trans Z O,Y,h5⟩
theorem OwnB.slb {w:World} {base:Nat} {v:Value} {l:L} (h:OwnB w base v l):SlB w w.heap.size v l:=by
 obtain⟨b,c,M,O,Z,X,Y⟩:=h;exact⟨_,c,M,O,.inr ⟨b,0,rfl,X,fun i u hu=>by rw[Nat.zero_add];exact Y i u hu⟩⟩
theorem Am {w:World} {g:Nat} {t:TypeId} {cs:Array Value} (h:Blk w g t cs) (n:Nat) (O:n<=cs.size):w.there g 0 n:=fun j M=>by
 rw[Nat.zero_add,h.cell,Array.getElem?_eq_getElem (by omega)];exact⟨rfl,h.frozen j⟩
theorem Bl {g:Nat} {t:TypeId}:∀(vs:List Value) (o:Nat) (w:World) (cs:Array Value),Blk w g t cs->o+vs.length<=cs.size->
  ∃ds:Array Value,Blk (w.setCells g o vs) g t ds/\ds.size=cs.size/\(∀i,o<=i->i<o+vs.length->ds[i]? = vs[i - o]?)/\(∀i,i<o\/o+vs.length<=i->ds[i]? = cs[i]?)
 | [],o,w,cs,h,hl=>⟨cs,h,rfl,fun i O M=>by simp at M;omega,fun i _=>rfl⟩
 |v :: r,o,w,cs,h,hl=>by
  rw[World.setCells];simp only[List.length_cons] at hl;obtain⟨ds,O,M,Y,X⟩:=Bl r (o+1) _ _ (h.set o v) (by simp;omega);simp only[List.length_cons];refine⟨ds,O,by simpa using M,fun i Z hj=>?_,fun i Z=>?_⟩
  ·by_cases e:i=o
   ·subst e
    rw[X i (by omega),Nat.sub_self];rw[Array.getElem?_setIfInBounds_self_of_lt (by omega)]
    rfl
   ·rw[Y i (by omega) (by omega),show i - o=(i - (o+1))+1 by omega]
    simp
  ·rw[X i (by omega)]
   exact Array.getElem?_setIfInBounds_ne (by omega)
theorem OS {w:World} {g:Nat} {t:TypeId} {x:L} (h:Blk w g t (bvs key0).toArray):Blk (w.setCells g 0 (bvs (x.take 32))) g t (bvs ((x++key0).take 32)).toArray:=by
 have hk:key0.length=32:=rfl;obtain⟨es,M,Y,O,X⟩:=Bl (bvs (x.take 32)) 0 w _ h (by simp [AB,hk];omega);have e:es=(bvs ((x++key0).take 32)).toArray:=by
  apply Array.ext_getElem?;intro i;rw[show(bvs ((x++key0).take 32)).toArray[i]? = (bvs ((x++key0).take 32))[i]? by simp]
  by_cases hi:i<(x.take 32).length
  ·rw[O i (by omega) (by rw[AB];omega),Nat.sub_zero]
   simp only[bvs,List.getElem?_map]
   congr 1
   rw[List.length_take] at hi;rw[List.getElem?_take_of_lt (by omega),List.getElem?_take_of_lt (by omega),List.getElem?_append_left (by omega)]
  ·rw[X i (by rw[AB];omega),show(bvs key0).toArray[i]? = (bvs key0)[i]? by simp]
   simp only[bvs,List.getElem?_map]
   congr 1
   rw[List.length_take] at hi
   by_cases h5:i<32
   ·rw[List.getElem?_take_of_lt h5,List.getElem?_append_right (by omega)]
    simp only[key0,List.getElem?_replicate];rw[if_pos h5,if_pos (by omega)]
   ·rw[List.getElem?_eq_none (by rw[hk];omega),List.getElem?_eq_none (by rw[List.length_take];omega)]
 rw[<-e];exact M
theorem AI {w:World} {g:Nat} {t:TypeId} {cs ds:Array Value} (h:Blk w g t cs) (hs:cs.size=ds.size):Blk (w.setCells g 0 ds.toList) g t ds:=by
 obtain⟨es,M,X,O,_⟩:=Bl ds.toList 0 w cs h (by simp;omega);have e:es=ds:=by
  apply Array.ext_getElem?;intro i
  by_cases hi:i<ds.size
  ·rw[O i (by omega) (by simp;omega)];simp
  ·rw[Array.getElem?_eq_none (by omega),Array.getElem?_eq_none (by omega)]
 rw[<-e];rw[<-e] at M;exact M
theorem Eu {row:Option Nat} {a:World} {g:Nat} (M:row=some g\/a.heap.size<=g):∀(vs:List Value) (o:Nat) (w:World),a.grownBy w row->a.grownBy (w.setCells g o vs) row
 | [],_,_,h=>h
 |v :: r,o,w,h=>by rw[World.setCells];exact Eu M r (o+1) _ (Ar h (p:=⟨g,o,none⟩) M v)
theorem AK (w:World) (g:Nat) (vs:List Value):w.grownBy (w.setCells g 0 vs) (some g):=Eu (.inl rfl) vs 0 w (World.grownBy.refl _ _)
theorem Ds {w:World} {g:Nat} {c:Option L} (h:Cur w g c):g<w.heap.size:=Blk.lt h
theorem Dg {w w':World} {g q:Nat} {c:Option L} (h:Cur w g c) (M:w.grownBy w' (some q)) (O:q≠g):Cur w' g c:=Blk.grown h M (fun e=>O (by injection e))
theorem DO (g:Nat) (c:Option L) (w:World) (h:Cur w g c) (hs:((c.getD []).length:Int)<=100000):Calls Tryz.prog 137 #[.pointer (some ⟨g,0,none⟩)] w fun e w'=>
  (∃v,e=.returned v/\OwnB w' w.heap.size v (ocC c))/\Cur w' g (AQ 4 c)/\w.grownBy w' (some g):=
 (Cq g c w h hs).mono fun e w' Y=>by
  obtain⟨⟨b,cap,rfl,Z,M⟩,X,O⟩:=Y;exact⟨⟨_,rfl,OwnB.of_fresh M Z⟩,X,O⟩
theorem Hw (g:Nat) (c:Option L) (w:World) (h:Cur w g c) (hs:((c.getD []).length:Int)<=100000):Calls Tryz.prog 170 #[.pointer (some ⟨g,0,none⟩)] w fun e w'=>
 e=.returned (.string ⟨(txC c).toArray⟩)/\Cur w' g (AQ 27 c)/\w.grownBy w' (some g):=FT g c w h hs
theorem Co (t:UInt8) {c:Option L} {n:Nat} (h:(c.getD []).length<=n):((AQ t c).getD []).length<=n:=Nat.le_trans (BB t c).2 h
theorem EJ (t:UInt8) {c:Option L} {n:Nat} (h:(c.getD []).length<=n):((Ax t c).getD []).length<=n:=Nat.le_trans (BB t c).1 h
theorem DW {c:Option L} {n:Nat} (h:(c.getD []).length<=n):((intC c).2.getD []).length<=n:=Nat.le_trans (Kj c) h
end Mc
namespace Mc
open Go.RowKit Ae DerP Ms
theorem Ye (x y:Fa) (w:World):(Op.equalIn 10000 59 (.agg #[.int .i64 x.e,.int .i64 x.no]) (.agg #[.int .i64 y.e,.int .i64 y.no])).run Tryz.prog w=.ok (decide (x=y)) w:=by
 obtain⟨e,no⟩:=x;obtain⟨O,M⟩:=y;simp only
 by_cases h0:e=O
 ·subst h0
  by_cases h1:no=M
  ·subst h1
   rw[decide_eq_true rfl]
   go_simp
  ·rw[decide_eq_false (fun h=>h1 (congrArg (fun z=>z.no) h))]
   go_simp
 ·rw[decide_eq_false (fun h=>h0 (congrArg (fun z=>z.e) h))]
  go_simp
theorem Yf (x y:As) (w:World):(Op.equalIn 10000 49 (.agg #[.string ⟨x.c.1.toArray⟩,.string ⟨x.c.2.toArray⟩,.string ⟨x.s.1.toArray⟩,.string ⟨x.s.2.toArray⟩,.int .i64 x.t,.int .i64 x.no]) (.agg #[.string ⟨y.c.1.toArray⟩,.string ⟨y.c.2.toArray⟩,.string ⟨y.s.1.toArray⟩,.string ⟨y.s.2.toArray⟩,.int .i64 y.t,.int .i64 y.no])).run Tryz.prog w=.ok (decide (x=y)) w:=by
 obtain⟨⟨a,b⟩,⟨c,d⟩,t,no⟩:=x;obtain⟨⟨X,b2⟩,⟨c2,d2⟩,O,M⟩:=y;simp only
 by_cases h0:a=X
 ·subst h0
  by_cases h1:b=b2
  ·subst h1
   by_cases h2:c=c2
   ·subst h2
    by_cases h3:d=d2
    ·subst h3
     by_cases h4:t=O
     ·subst h4
      by_cases h5:no=M
      ·subst h5
       rw[decide_eq_true rfl]
       go_simp
      ·rw[decide_eq_false (fun h=>h5 (congrArg (fun z=>z.no) h))]
       go_simp
     ·rw[decide_eq_false (fun h=>h4 (congrArg (fun z=>z.t) h))]
      go_simp
    ·rw[decide_eq_false (fun h=>h3 (congrArg (fun z=>z.s.2) h))]
     go_simp
   ·rw[decide_eq_false (fun h=>h2 (congrArg (fun z=>z.s.1) h))]
    go_simp
  ·rw[decide_eq_false (fun h=>h1 (congrArg (fun z=>z.c.2) h))]
   go_simp
 ·rw[decide_eq_false (fun h=>h0 (congrArg (fun z=>z.c.1) h))]
  go_simp
open DerC
def AsV (cs:Array Value) (q:As):Prop:=cs=(asC q).toArray
def FaV (cs:Array Value) (q:Fa):Prop:=cs=(faC q).toArray
def TgV (w:World) (B:Nat) (cs:Array Value) (q:Tg):Prop:=∃b a,cs=(tgC q b a).toArray/\SlB w B b q.t.b/\SlB w B a q.a
def ReV (w:World) (B:Nat) (cs:Array Value) (q:Re):Prop:=∃b a,cs=(reC q b a).toArray/\SlB w B b q.t.b/\SlB w B a q.b
def ApV (w:World) (B:Nat) (cs:Array Value) (q:Ap):Prop:=∃b a,cs=(apC q b a).toArray/\SlB w B b q.t.b/\SlB w B a q.a
section
variable {w w':World} {B B':Nat} {cs:Array Value}
theorem TgV.keep {q:Tg} (h:TgV w B cs q) (M:Below B w w'):TgV w' B cs q:=by obtain⟨b,a,O,Y,X⟩:=h;exact⟨b,a,O,Y.keep M,X.keep M⟩
theorem ReV.keep {q:Re} (h:ReV w B cs q) (M:Below B w w'):ReV w' B cs q:=by obtain⟨b,a,O,Y,X⟩:=h;exact⟨b,a,O,Y.keep M,X.keep M⟩
theorem ApV.keep {q:Ap} (h:ApV w B cs q) (M:Below B w w'):ApV w' B cs q:=by obtain⟨b,a,O,Y,X⟩:=h;exact⟨b,a,O,Y.keep M,X.keep M⟩
theorem TgV.more {q:Tg} (h:TgV w B cs q) (hB:B<=B'):TgV w B' cs q:=by obtain⟨b,a,M,X,O⟩:=h;exact⟨b,a,M,X.more hB,O.more hB⟩
theorem ReV.more {q:Re} (h:ReV w B cs q) (hB:B<=B'):ReV w B' cs q:=by obtain⟨b,a,M,X,O⟩:=h;exact⟨b,a,M,X.more hB,O.more hB⟩
theorem ApV.more {q:Ap} (h:ApV w B cs q) (hB:B<=B'):ApV w B' cs q:=by obtain⟨b,a,M,X,O⟩:=h;exact⟨b,a,M,X.more hB,O.more hB⟩
theorem Hl {v:Value} {l:L} (h:SlB w B v l):v.oneCell'=true:=by obtain⟨A,c,rfl,_⟩:=h;rfl
theorem AsV.size {q:As} (h:AsV cs q):cs.size=6:=by rw[h];rfl
theorem FaV.size {q:Fa} (h:FaV cs q):cs.size=2:=by rw[h];rfl
theorem TgV.size {q:Tg} (h:TgV w B cs q):cs.size=9:=by obtain⟨b,a,M,_⟩:=h;rw[M];rfl
theorem ReV.size {q:Re} (h:ReV w B cs q):cs.size=7:=by obtain⟨b,a,M,_⟩:=h;rw[M];rfl
theorem ApV.size {q:Ap} (h:ApV w B cs q):cs.size=5:=by obtain⟨b,a,M,_⟩:=h;rw[M];rfl
def One (cs:Array Value):Prop:=cs.all (·.oneCell')=true
theorem AsV.one {q:As} (h:AsV cs q):One cs:=by
 rw[h];refine all_oneCell_toArray fun v M=>?_
 simp only[asC,List.mem_cons,List.not_mem_nil,or_false] at M;rcases M with rfl | rfl | rfl | rfl | rfl | rfl<;>rfl
theorem FaV.one {q:Fa} (h:FaV cs q):One cs:=by
 rw[h];refine all_oneCell_toArray fun v M=>?_
 simp only[faC,List.mem_cons,List.not_mem_nil,or_false] at M;rcases M with rfl | rfl<;>rfl
theorem TgV.one {q:Tg} (h:TgV w B cs q):One cs:=by
 obtain⟨b,a,O,Y,X⟩:=h;rw[O];refine all_oneCell_toArray fun v M=>?_
 simp only[tgC,tkC,List.mem_append,List.mem_cons,List.not_mem_nil,or_false] at M;rcases M with(rfl | rfl | rfl | rfl) | rfl | rfl | rfl | rfl | rfl
 all_goals first | rfl | exact Hl Y | exact Hl X
theorem ReV.one {q:Re} (h:ReV w B cs q):One cs:=by
 obtain⟨b,a,O,Y,X⟩:=h;rw[O];refine all_oneCell_toArray fun v M=>?_
 simp only[reC,prC,tkC,List.mem_append,List.mem_cons,List.not_mem_nil,or_false] at M;rcases M with(rfl | rfl) | (rfl | rfl | rfl | rfl) | rfl
 all_goals first | rfl | exact Hl Y | exact Hl X
theorem ApV.one {q:Ap} (h:ApV w B cs q):One cs:=by
 obtain⟨b,a,O,Y,X⟩:=h;rw[O];refine all_oneCell_toArray fun v M=>?_
 simp only[apC,tkC,List.mem_append,List.mem_cons,List.not_mem_nil,or_false] at M;rcases M with(rfl | rfl | rfl | rfl) | rfl
 all_goals first | rfl | exact Hl Y | exact Hl X
end
def mgA (k:Int) (pa pt pr pp pf:Array Value):Array Value:=(Value.int .i64 k :: (pa.toList++(pt.toList++(pr.toList++(pp.toList++pf.toList))))).toArray
structure MgP (w:World) (B:Nat) (pa pt pr pp pf:Array Value) (m:Mg):Prop where
 a:AsV pa m.aq
 t:TgV w B pt m.tg
 r:ReV w B pr m.re
 p:ApV w B pp m.ap
 f:FaV pf m.fa
def MgV (w:World) (B:Nat) (cs:Array Value) (m:Mg):Prop:=∃pa pt pr pp pf,cs=mgA m.k pa pt pr pp pf/\MgP w B pa pt pr pp pf m
section
variable {w w':World} {B B':Nat} {cs pa pt pr pp pf:Array Value} {m:Mg}
theorem MgP.keep (h:MgP w B pa pt pr pp pf m) (M:Below B w w'):MgP w' B pa pt pr pp pf m:=⟨h.a,h.t.keep M,h.r.keep M,h.p.keep M,h.f⟩
theorem MgP.more (h:MgP w B pa pt pr pp pf m) (hB:B<=B'):MgP w B' pa pt pr pp pf m:=⟨h.a,h.t.more hB,h.r.more hB,h.p.more hB,h.f⟩
theorem MgV.keep (h:MgV w B cs m) (X:Below B w w'):MgV w' B cs m:=by obtain⟨pa,pt,pr,pp,pf,M,O⟩:=h;exact⟨pa,pt,pr,pp,pf,M,O.keep X⟩
theorem MgV.more (h:MgV w B cs m) (hB:B<=B'):MgV w B' cs m:=by obtain⟨pa,pt,pr,pp,pf,M,O⟩:=h;exact⟨pa,pt,pr,pp,pf,M,O.more hB⟩
theorem MgP.sizes (h:MgP w B pa pt pr pp pf m):pa.size=6/\pt.size=9/\pr.size=7/\pp.size=5/\pf.size=2:=⟨h.a.size,h.t.size,h.r.size,h.p.size,h.f.size⟩
theorem MgP.size (h:MgP w B pa pt pr pp pf m) (k:Int):(mgA k pa pt pr pp pf).size=30:=by
 obtain⟨M,Y,X,Z,O⟩:=h.sizes;simp [mgA,M,Y,X,Z,O]
theorem MgP.one (h:MgP w B pa pt pr pp pf m) (k:Int):One (mgA k pa pt pr pp pf):=by
 refine all_oneCell_toArray fun v M=>?_
 simp only[List.mem_cons,List.mem_append] at M;have key:∀{cs:Array Value},One cs->v∈cs.toList->v.oneCell'=true:=fun O X=>Array.all_eq_true_iff_forall_mem.1 O v (by simpa using X)
 rcases M with rfl | M | M | M | M | M
 ·rfl
 ·exact key h.a.one M
 ·exact key h.t.one M
 ·exact key h.r.one M
 ·exact key h.p.one M
 ·exact key h.f.one M
theorem Dk {g:Nat} {t:TypeId} {pre mid post:List Value} (h:Blk w g t cs) (X:cs.toList=pre++(mid++post)) (o:Nat) (Y:o=pre.length):w.rangeAt g o mid:=fun j v M=>by
 subst Y;have O:j<mid.length:=(List.getElem?_eq_some_iff.1 M).1;rw[h.cell,<-Array.getElem?_toList,X,List.getElem?_append_right (by omega),Nat.add_sub_cancel_left,List.getElem?_append_left O];exact M
structure At (w:World) (g:Nat) (k:Int) (pa pt pr pp pf:Array Value):Prop where
 k:w.cell? ⟨g,0,none⟩=some (.int .i64 k)
 a:w.rangeAt g 1 pa.toList
 t:w.rangeAt g 7 pt.toList
 r:w.rangeAt g 16 pr.toList
 p:w.rangeAt g 23 pp.toList
 f:w.rangeAt g 28 pf.toList
theorem MgP.at_ (h:MgP w' B pa pt pr pp pf m) {g:Nat} {k:Int} {t:TypeId} (M:Blk w g t (mgA k pa pt pr pp pf)):At w g k pa pt pr pp pf:=by
 obtain⟨O,X,Y,Z,h5⟩:=h.sizes;refine⟨by rw[M.cell];rfl,?_,?_,?_,?_,?_⟩
 ·exact Dk (pre:=[.int .i64 k]) (post:=pt.toList++(pr.toList++(pp.toList++pf.toList))) M (by simp [mgA]) 1 rfl
 ·exact Dk (pre:=.int .i64 k :: pa.toList) (post:=pr.toList++(pp.toList++pf.toList)) M (by simp [mgA]) 7 (by simp [O])
 ·exact Dk (pre:=.int .i64 k :: (pa.toList++pt.toList)) (post:=pp.toList++pf.toList) M (by simp [mgA]) 16 (by simp [O,X])
 ·exact Dk (pre:=.int .i64 k :: (pa.toList++(pt.toList++pr.toList))) (post:=pf.toList) M (by simp [mgA]) 23 (by simp [O,X,Y])
 ·exact Dk (pre:=.int .i64 k :: (pa.toList++(pt.toList++(pr.toList++pp.toList)))) (post:=[]) M (by simp [mgA]) 28 (by simp [O,X,Y,Z])
end
theorem Cw:(Tryz.prog.info? 49).map (·.size)=some 6:=by kernel_rfl
theorem BO:(Tryz.prog.info? 53).map (·.size)=some 9:=by kernel_rfl
theorem Dv:(Tryz.prog.info? 55).map (·.size)=some 7:=by kernel_rfl
theorem DZ:(Tryz.prog.info? 57).map (·.size)=some 5:=by kernel_rfl
theorem FH:(Tryz.prog.info? 59).map (·.size)=some 2:=by kernel_rfl
theorem AT:(Tryz.prog.info? 61).map (·.size)=some 30:=by kernel_rfl
theorem AG {P:Program} {ops:Array Oper} {rest:List Oper} {op:Oper} {a:Act} {w:World} {Q:Exit->Act->World->Prop} (hw:Region.wanted op (yielded ops a.tmps)=true) (ty:TypeId) (x:Operand) (X:op.op=.load ty x)
  (g o:Nat) (Y:a.eval x=.pointer (some ⟨g,o,none⟩)) (cs:Array Value) (d:TypeDesc) (O:w.rangeAt g o cs.toList)
  (hu:P.underlying ty=some d) (Z:d.isRow=true) (hi:(P.info? ty).map (·.size)=some cs.size)
  (h:wpList P ops Q rest (a.put op.dst (.agg cs)) w):wpList P ops Q (op :: rest) a w:=
 BigFrame.wpList_want hw fun _ M=>wp_load_mid ty x X g o Y cs.toList d O hu Z (by rw[Array.length_toList];exact hi) (by simpa using M _ _ h)
theorem IX {w:World} {g o:Nat} {t:TypeId} {cs ps ds:Array Value} {pre mid post:List Value} (h:Blk w g t cs) (X:cs.toList=pre++(mid++post)) (Y:o=pre.length) (hm:mid.length=ps.size) (hd:ds=(pre++(ps.toList++post)).toArray):Blk (w.setCells g o ps.toList) g t ds:=by
 subst Y;have hs:cs.size=pre.length+(mid.length+post.length):=by rw[<-Array.length_toList,X];simp
 obtain⟨es,Z,h2,h3,O⟩:=Bl ps.toList pre.length w cs h (by simp;omega);have e:es=ds:=by
  apply Array.ext_getElem?;intro i;rw[hd,show(pre++(ps.toList++post)).toArray[i]? = (pre++(ps.toList++post))[i]? by simp];have M:∀i,cs[i]? = (pre++(mid++post))[i]?:=fun i=>by rw[<-X,Array.getElem?_toList]
  by_cases hi:i<pre.length
  ·rw[O i (.inl hi),M,List.getElem?_append_left hi,List.getElem?_append_left hi]
  ·by_cases hj:i<pre.length+ps.size
   ·rw[h3 i (by omega) (by simpa using hj),List.getElem?_append_right (by omega),List.getElem?_append_left (by simp;omega)]
   ·rw[O i (.inr (by simp;omega)),M,List.getElem?_append_right (by omega),List.getElem?_append_right (by omega),List.getElem?_append_right (by omega),List.getElem?_append_right (by simp;omega),hm]
    simp
 rw[<-e];exact Z
theorem BZ {w:World} {g:Nat} {t:TypeId} {cs:Array Value} (h:Blk w g t cs) (o n:Nat) (O:o+n<=cs.size):w.there g o n:=fun j M=>by
 rw[h.cell,Array.getElem?_eq_getElem (by omega)];exact⟨rfl,h.frozen _⟩
theorem DK (w:World) (g o:Nat) (vs:List Value):w.grownBy (w.setCells g o vs) (some g):=Eu (.inl rfl) vs o w (World.grownBy.refl _ _)
theorem Ct (g:Nat) (c:Option L) (w:World) (h:Cur w g c) (hs:(c.getD []).length<=100000):Calls Tryz.prog 134 #[.pointer (some ⟨g,0,none⟩)] w fun e w'=>e=.returned (.agg #[.string ⟨(prQ c).1.1.toArray⟩,.string ⟨(prQ c).1.2.toArray⟩])/\Cur w' g (prQ c).2/\w.grownBy w' (some g):=by
 obtain⟨W,eW⟩:=Aj (w.alloc (.cells #[.string ⟨#[]⟩,.string ⟨#[]⟩] 35));have al:W.heap.size=w.heap.size+1:=by rw[eW];simp
 have X:=I (show Blk W w.heap.size 35 #[.string ⟨#[]⟩,.string ⟨#[]⟩] by rw[eW];exact Blk.new _ _ _);have aj:=Ds h;have ai:Cur W g c:=by rw[eW];exact h.alloc _
 have HG:=I (show w.grownBy W (some g) by rw[eW];exact Cc (World.grownBy.refl _ _) _);have c1:=Ii 48 g c W ai (by omega);have ab:=EJ 48 hs;obtain⟨s0,Y⟩:∃s,s=Ax 48 c:=⟨_,rfl⟩;obtain⟨r,er⟩:∃s,s=AQ 48 c:=⟨_,rfl⟩;rw[<-Y] at c1 ab;rw[<-er] at c1;have aa:=I aj;have ag:((AQ 27 s0).getD []).length<=100000:=Co 27 ab;have T1:=I (fun g w h=>Hw g s0 w h (by omega));obtain⟨v1,ad⟩:∃x:L,x=txC s0:=⟨_,rfl⟩;obtain⟨s1,es1⟩:∃s,s=AQ 27 s0:=⟨_,rfl⟩;rw[<-ad,<-es1] at T1;rw[<-es1] at ag;have ah:((AQ 27 s1).getD []).length<=100000:=Co 27 ag;have T2:=I (fun g w h=>Hw g s1 w h (by omega));obtain⟨v2,ae⟩:∃x:L,x=txC s1:=⟨_,rfl⟩;obtain⟨s2,af⟩:∃s,s=AQ 27 s1:=⟨_,rfl⟩;rw[<-ae,<-af] at T2;rw[<-af] at ah;have an:=I (show(prQ c).1.1=v1 by rw[ad,Y];rfl);have ak:=I (show(prQ c).1.2=v2 by rw[ae,es1,Y];rfl);have FS:=I (show(prQ c).2=r by rw[er];rfl);rw[an.o,ak.o,FS.o];clear h hs ab ag ah an ad es1 ak ae af Y FS aj er ai;have ao:=I al;clear al;subst eW;go_enter Tryz.func134,Tryz.ntmps134
 go_wp2_with (first
  |(go_at_call 92;refine Calls.mono c1 ?_;rintro e wi ⟨⟨gd,rfl,ar,hd⟩,hc,M⟩;clear c1;have HD:=I hd;have HC:=I hc;have O:=I (show w.heap.size+1<=gd by have:=ao.o;omega);have Z:=I (Ds hd);replace X:=I (X.o.grown M (by intro e;injection e with e;have:=aa.o;omega));replace HG:=I (CJ HG.o M);clear ar hd hc M)
  |(go_at_call 170;(with_reducible refine Calls.mono (T1.o _ _ HD.o) ?_);rintro e w1 ⟨rfl,hd,M⟩;clear T1;replace HD:=I hd;replace X:=I (X.o.grown M (by intro e;injection e with e;have:=O.o;omega));replace HC:=I (Dg HC.o M (by have:=O.o;have:=aa.o;omega));replace HG:=I (DQ HG.o M (by have:=O.o;omega));replace Z:=I (Nat.lt_of_lt_of_le Z.o M.size);clear hd M)
  |(go_at_call 170;(with_reducible refine Calls.mono (T2.o _ _ HD.o) ?_);rintro e w2 ⟨rfl,hd,M⟩;clear T2;replace HD:=I hd;replace X:=I (X.o.grown M (by intro e;injection e with e;have:=O.o;omega));replace HC:=I (Dg HC.o M (by have:=O.o;have:=aa.o;omega));replace HG:=I (DQ HG.o M (by have:=O.o;omega));replace Z:=I (Nat.lt_of_lt_of_le Z.o M.size);clear hd M;have n0:=X.c0;have y0:=X.o.frozen 0;have n1:=X.c1;have y1:=X.o.frozen 1)
  |fail)
 have hE:Blk ((w2.setCell ⟨w.heap.size,0,none⟩ (.string ⟨v1.toArray⟩)).setCell ⟨w.heap.size,1,none⟩ (.string ⟨v2.toArray⟩)) w.heap.size 35 #[.string ⟨v1.toArray⟩,.string ⟨v2.toArray⟩]:=((X.o.set 0 (.string ⟨v1.toArray⟩)).set 1 (.string ⟨v2.toArray⟩));have hp:=(Ar (Ar (World.grownBy.refl w2 (some w.heap.size)) (p:=⟨w.heap.size,0,none⟩) (.inl rfl) (.string ⟨v1.toArray⟩)) (p:=⟨w.heap.size,1,none⟩) (.inl rfl) (.string ⟨v2.toArray⟩));have hq:=Ao (P:=Tryz.prog) hE Tryz.underlying35 rfl (by kernel_rfl);refine bodyPost_ret (v:=.agg #[.string ⟨v1.toArray⟩,.string ⟨v2.toArray⟩]) ?_ ?_ ?_
 ·exact Al 2 35 ⟨w.heap.size,0,none⟩ Tryz.results134 rfl hq
 ·rfl
 exact⟨rfl,Dg HC.o hp (by have:=aa.o;omega),DQ HG.o hp Af⟩
theorem Ea (g:Nat) (c:Option L) (w:World) (h:Cur w g c) (hs:(c.getD []).length<=100000):Calls Tryz.prog 136 #[.pointer (some ⟨g,0,none⟩)] w fun e w'=>∃z3,e=.returned (.agg #[.string ⟨(tkQ c).1.s.1.toArray⟩,.string ⟨(tkQ c).1.s.2.toArray⟩,.int .i64 (tkQ c).1.k,z3])/\OwnB w' w.heap.size z3 (tkQ c).1.b/\Cur w' g (tkQ c).2/\w.grownBy w' (some g):=by
 obtain⟨W,eW⟩:=Aj (w.alloc (.cells #[.string ⟨#[]⟩,.string ⟨#[]⟩,.int .i64 0,.slice none 0 0] 51));have av:W.heap.size=w.heap.size+1:=by rw[eW];simp
 have X:=I (show Blk W w.heap.size 51 #[.string ⟨#[]⟩,.string ⟨#[]⟩,.int .i64 0,.slice none 0 0] by rw[eW];exact Blk.new _ _ _);have an:=Ds h;have al:Cur W g c:=by rw[eW];exact h.alloc _
 have HG:=I (show w.grownBy W (some g) by rw[eW];exact Cc (World.grownBy.refl _ _) _);have c1:=Ii 97 g c W al (by omega);have ad:=EJ 97 hs;obtain⟨s0,aa⟩:∃s,s=Ax 97 c:=⟨_,rfl⟩;obtain⟨r,er⟩:∃s,s=AQ 97 c:=⟨_,rfl⟩;rw[<-aa] at c1 ad;rw[<-er] at c1;have ab:=I an;have ak:(((prQ s0).2).getD []).length<=100000:=Co 48 ad;have T1:=I (fun g w h=>Ct g s0 w h ad);obtain⟨v1,ag⟩:∃x:Pr,x=(prQ s0).1:=⟨_,rfl⟩;obtain⟨s1,es1⟩:∃s,s=(prQ s0).2:=⟨_,rfl⟩;rw[<-ag,<-es1] at T1;rw[<-es1] at ak;have af:(((intC s1).2).getD []).length<=100000:=DW ak;have T2:=I (fun g w h=>Bk g s1 w h (by omega));obtain⟨v2,ah⟩:∃x:Int,x=((intC s1).1:Int):=⟨_,rfl⟩;obtain⟨s2,ae⟩:∃s,s=(intC s1).2:=⟨_,rfl⟩;rw[<-ah,<-ae] at T2;rw[<-ae] at af;have au:((AQ 4 s2).getD []).length<=100000:=Co 4 af;have T3:=I (fun g w h=>DO g s2 w h (by omega));obtain⟨v3,aj⟩:∃x:L,x=ocC s2:=⟨_,rfl⟩;obtain⟨s3,ai⟩:∃s,s=AQ 4 s2:=⟨_,rfl⟩;rw[<-aj,<-ai] at T3;rw[<-ai] at au;have aw:=I (show(tkQ c).1.s=v1 by rw[ag,aa];rfl);have ao:=I (show(tkQ c).1.k=v2 by rw[ah,es1,aa];rfl);have ar:=I (show(tkQ c).1.b=v3 by rw[aj,ae,es1,aa];rfl);have FS:=I (show(tkQ c).2=r by rw[er];rfl);rw[aw.o,ao.o,ar.o,FS.o];clear h hs ad ak af au aw ag es1 ao ah ae ar aj ai aa FS an er al;have ax:=I av;clear av;subst eW;go_enter Tryz.func136,Tryz.ntmps136
 go_wp2_with (first
  |(go_at_call 92;refine Calls.mono c1 ?_;rintro e wi ⟨⟨gd,rfl,az,Z⟩,hc,O⟩;clear c1;have HD:=I Z;have HC:=I hc;have M:=I (show w.heap.size+1<=gd by have:=ax.o;omega);have Y:=I (Ds Z);replace X:=I (X.o.grown O (by intro e;injection e with e;have:=ab.o;omega));replace HG:=I (CJ HG.o O);clear az Z hc O)
  |(go_at_call 134;(with_reducible refine Calls.mono (T1.o _ _ HD.o) ?_);rintro e w1 ⟨rfl,Z,O⟩;clear T1;replace HD:=I Z;replace X:=I (X.o.grown O (by intro e;injection e with e;have:=M.o;omega));replace HC:=I (Dg HC.o O (by have:=M.o;have:=ab.o;omega));replace HG:=I (DQ HG.o O (by have:=M.o;omega));replace Y:=I (Nat.lt_of_lt_of_le Y.o O.size);clear Z O)
  |(go_at_call 135;(with_reducible refine Calls.mono (T2.o _ _ HD.o) ?_);rintro e w2 ⟨rfl,Z,O⟩;clear T2;replace HD:=I Z;replace X:=I (X.o.grown O (by intro e;injection e with e;have:=M.o;omega));replace HC:=I (Dg HC.o O (by have:=M.o;have:=ab.o;omega));replace HG:=I (DQ HG.o O (by have:=M.o;omega));replace Y:=I (Nat.lt_of_lt_of_le Y.o O.size);clear Z O)
  |(go_at_call 137;(with_reducible refine Calls.mono (T3.o _ _ HD.o) ?_);rintro e w3 ⟨⟨y,rfl,ho⟩,Z,O⟩;clear T3;replace ho:=ho.less (show gd+1<=_ from Y.o);obtain⟨b3,c3,rfl,x1,x2,x3,x4⟩:=ho;have ay:Hid (OwnB w3 (gd+1) (.slice (some ⟨b3,0,none⟩) _ c3) _):=I ⟨b3,c3,rfl,x1,x2,x3,x4⟩;clear x1 x2 x3 x4;replace HD:=I Z;replace X:=I (X.o.grown O (by intro e;injection e with e;have:=M.o;omega));replace HC:=I (Dg HC.o O (by have:=M.o;have:=ab.o;omega));replace HG:=I (DQ HG.o O (by have:=M.o;omega));replace Y:=I (Nat.lt_of_lt_of_le Y.o O.size);clear Z O;have n0:=X.c0;have y0:=X.o.frozen 0;have n1:=X.c1;have y1:=X.o.frozen 1;have n2:=X.c2;have y2:=X.o.frozen 2;have n3:=X.c3;have y3:=X.o.frozen 3)
  |fail)
 have hE:Blk ((((w3.setCell ⟨w.heap.size,0,none⟩ (.string ⟨v1.1.toArray⟩)).setCell ⟨w.heap.size,1,none⟩ (.string ⟨v1.2.toArray⟩)).setCell ⟨w.heap.size,2,none⟩ (.int .i64 v2)).setCell ⟨w.heap.size,3,none⟩ (.slice (some ⟨b3,0,none⟩) v3.length c3)) w.heap.size 51 #[.string ⟨v1.1.toArray⟩,.string ⟨v1.2.toArray⟩,.int .i64 v2,.slice (some ⟨b3,0,none⟩) v3.length c3]:=((((X.o.set 0 (.string ⟨v1.1.toArray⟩)).set 1 (.string ⟨v1.2.toArray⟩)).set 2 (.int .i64 v2)).set 3 (.slice (some ⟨b3,0,none⟩) v3.length c3));have hp:=(Ar (Ar (Ar (Ar (World.grownBy.refl w3 (some w.heap.size)) (p:=⟨w.heap.size,0,none⟩) (.inl rfl) (.string ⟨v1.1.toArray⟩)) (p:=⟨w.heap.size,1,none⟩) (.inl rfl) (.string ⟨v1.2.toArray⟩)) (p:=⟨w.heap.size,2,none⟩) (.inl rfl) (.int .i64 v2)) (p:=⟨w.heap.size,3,none⟩) (.inl rfl) (.slice (some ⟨b3,0,none⟩) v3.length c3));have hq:=Ao (P:=Tryz.prog) hE Tryz.underlying51 rfl (by kernel_rfl);refine bodyPost_ret (v:=.agg #[.string ⟨v1.1.toArray⟩,.string ⟨v1.2.toArray⟩,.int .i64 v2,.slice (some ⟨b3,0,none⟩) v3.length c3]) ?_ ?_ ?_
 ·exact Al 2 51 ⟨w.heap.size,0,none⟩ Tryz.results136 rfl hq
 ·rfl
 exact⟨_,rfl,(ay.o.keep hp (by have:=M.o;omega)).less (by have:=M.o;omega),Dg HC.o hp (by have:=ab.o;omega),DQ HG.o hp Af⟩
theorem OU (g:Nat) (c:Option L) (w:World) (h:Cur w g c) (hs:(c.getD []).length<=100000):Calls Tryz.prog 93 #[.pointer (some ⟨g,0,none⟩)] w fun e w'=>e=.returned (.agg #[.string ⟨(asQ c).1.c.1.toArray⟩,.string ⟨(asQ c).1.c.2.toArray⟩,.string ⟨(asQ c).1.s.1.toArray⟩,.string ⟨(asQ c).1.s.2.toArray⟩,.int .i64 (asQ c).1.t,.int .i64 (asQ c).1.no])/\Cur w' g (asQ c).2/\w.grownBy w' (some g):=by
 obtain⟨W,eW⟩:=Aj (w.alloc (.cells #[.string ⟨#[]⟩,.string ⟨#[]⟩,.string ⟨#[]⟩,.string ⟨#[]⟩,.int .i64 0,.int .i64 0] 49));have aw:W.heap.size=w.heap.size+1:=by rw[eW];simp
 have M:=I (show Blk W w.heap.size 49 #[.string ⟨#[]⟩,.string ⟨#[]⟩,.string ⟨#[]⟩,.string ⟨#[]⟩,.int .i64 0,.int .i64 0] by rw[eW];exact Blk.new _ _ _);have an:=Ds h;have HC:=I (show Cur W g c by rw[eW];exact h.alloc _);have HG:=I (show w.grownBy W (some g) by rw[eW];exact Cc (World.grownBy.refl _ _) _);have ad:=hs;obtain⟨s0,Y⟩:∃s,s=c:=⟨_,rfl⟩;rw[<-Y] at HC ad;have ab:=I an;have X:=I (show w.heap.size<W.heap.size by omega);have af:(((prQ s0).2).getD []).length<=100000:=Co 48 ad;have T1:=I (fun g w h=>Ct g s0 w h ad);obtain⟨v1,ai⟩:∃x:Pr,x=(prQ s0).1:=⟨_,rfl⟩;obtain⟨s1,es1⟩:∃s,s=(prQ s0).2:=⟨_,rfl⟩;rw[<-ai,<-es1] at T1;rw[<-es1] at af;have ag:(((prQ s1).2).getD []).length<=100000:=Co 48 af;have T2:=I (fun g w h=>Ct g s1 w h af);obtain⟨v2,aj⟩:∃x:Pr,x=(prQ s1).1:=⟨_,rfl⟩;obtain⟨s2,Z⟩:∃s,s=(prQ s1).2:=⟨_,rfl⟩;rw[<-aj,<-Z] at T2;rw[<-Z] at ag;have ak:(((intC s2).2).getD []).length<=100000:=DW ag;have T3:=I (fun g w h=>Bk g s2 w h (by omega));obtain⟨v3,al⟩:∃x:Int,x=((intC s2).1:Int):=⟨_,rfl⟩;obtain⟨s3,aa⟩:∃s,s=(intC s2).2:=⟨_,rfl⟩;rw[<-al,<-aa] at T3;rw[<-aa] at ak;have au:(((intC s3).2).getD []).length<=100000:=DW ak;have T4:=I (fun g w h=>Bk g s3 w h (by omega));obtain⟨v4,ah⟩:∃x:Int,x=((intC s3).1:Int):=⟨_,rfl⟩;obtain⟨s4,ae⟩:∃s,s=(intC s3).2:=⟨_,rfl⟩;rw[<-ah,<-ae] at T4;rw[<-ae] at au;have ax:=I (show(asQ c).1.c=v1 by rw[ai,Y];rfl);have ao:=I (show(asQ c).1.s=v2 by rw[aj,es1,Y];rfl);have ar:=I (show(asQ c).1.t=v3 by rw[al,Z,es1,Y];rfl);have av:=I (show(asQ c).1.no=v4 by rw[ah,aa,Z,es1,Y];rfl);have FS:=I (show(asQ c).2=s4 by rw[ae,aa,Z,es1,Y];rfl);rw[ax.o,ao.o,ar.o,av.o,FS.o];clear h hs ad af ag ak au ax ai es1 ao aj Z ar al aa av ah ae Y FS an;have ay:=I aw;clear aw;subst eW;go_enter Tryz.func93,Tryz.ntmps93
 go_wp2_with (first
  |(go_at_call 134;(with_reducible refine Calls.mono (T1.o _ _ HC.o) ?_);rintro e w1 ⟨rfl,hd,O⟩;clear T1;replace HC:=I hd;replace M:=I (M.o.grown O (by intro e;injection e with e;have:=ab.o;omega));replace HG:=I (CJ HG.o O);replace X:=I (Nat.lt_of_lt_of_le X.o O.size);clear hd O)
  |(go_at_call 134;(with_reducible refine Calls.mono (T2.o _ _ HC.o) ?_);rintro e w2 ⟨rfl,hd,O⟩;clear T2;replace HC:=I hd;replace M:=I (M.o.grown O (by intro e;injection e with e;have:=ab.o;omega));replace HG:=I (CJ HG.o O);replace X:=I (Nat.lt_of_lt_of_le X.o O.size);clear hd O)
  |(go_at_call 135;(with_reducible refine Calls.mono (T3.o _ _ HC.o) ?_);rintro e w3 ⟨rfl,hd,O⟩;clear T3;replace HC:=I hd;replace M:=I (M.o.grown O (by intro e;injection e with e;have:=ab.o;omega));replace HG:=I (CJ HG.o O);replace X:=I (Nat.lt_of_lt_of_le X.o O.size);clear hd O)
  |(go_at_call 135;(with_reducible refine Calls.mono (T4.o _ _ HC.o) ?_);rintro e w4 ⟨rfl,hd,O⟩;clear T4;replace HC:=I hd;replace M:=I (M.o.grown O (by intro e;injection e with e;have:=ab.o;omega));replace HG:=I (CJ HG.o O);replace X:=I (Nat.lt_of_lt_of_le X.o O.size);clear hd O;have n0:=M.c0;have y0:=M.o.frozen 0;have n1:=M.c1;have y1:=M.o.frozen 1;have n2:=M.c2;have y2:=M.o.frozen 2;have n3:=M.c3;have y3:=M.o.frozen 3;have n4:=M.c4;have y4:=M.o.frozen 4;have n5:=M.c5;have y5:=M.o.frozen 5)
  |fail)
 have hE:Blk ((((((w4.setCell ⟨w.heap.size,0,none⟩ (.string ⟨v1.1.toArray⟩)).setCell ⟨w.heap.size,1,none⟩ (.string ⟨v1.2.toArray⟩)).setCell ⟨w.heap.size,2,none⟩ (.string ⟨v2.1.toArray⟩)).setCell ⟨w.heap.size,3,none⟩ (.string ⟨v2.2.toArray⟩)).setCell ⟨w.heap.size,4,none⟩ (.int .i64 v3)).setCell ⟨w.heap.size,5,none⟩ (.int .i64 v4)) w.heap.size 49 #[.string ⟨v1.1.toArray⟩,.string ⟨v1.2.toArray⟩,.string ⟨v2.1.toArray⟩,.string ⟨v2.2.toArray⟩,.int .i64 v3,.int .i64 v4]:=((((((M.o.set 0 (.string ⟨v1.1.toArray⟩)).set 1 (.string ⟨v1.2.toArray⟩)).set 2 (.string ⟨v2.1.toArray⟩)).set 3 (.string ⟨v2.2.toArray⟩)).set 4 (.int .i64 v3)).set 5 (.int .i64 v4));have hp:=(Ar (Ar (Ar (Ar (Ar (Ar (World.grownBy.refl w4 (some w.heap.size)) (p:=⟨w.heap.size,0,none⟩) (.inl rfl) (.string ⟨v1.1.toArray⟩)) (p:=⟨w.heap.size,1,none⟩) (.inl rfl) (.string ⟨v1.2.toArray⟩)) (p:=⟨w.heap.size,2,none⟩) (.inl rfl) (.string ⟨v2.1.toArray⟩)) (p:=⟨w.heap.size,3,none⟩) (.inl rfl) (.string ⟨v2.2.toArray⟩)) (p:=⟨w.heap.size,4,none⟩) (.inl rfl) (.int .i64 v3)) (p:=⟨w.heap.size,5,none⟩) (.inl rfl) (.int .i64 v4));have hq:=Ao (P:=Tryz.prog) hE Tryz.underlying49 rfl (by kernel_rfl);refine bodyPost_ret (v:=.agg #[.string ⟨v1.1.toArray⟩,.string ⟨v1.2.toArray⟩,.string ⟨v2.1.toArray⟩,.string ⟨v2.2.toArray⟩,.int .i64 v3,.int .i64 v4]) ?_ ?_ ?_
 ·exact Al 2 49 ⟨w.heap.size,0,none⟩ Tryz.results93 rfl hq
 ·rfl
 exact⟨rfl,Dg HC.o hp (by have:=ab.o;omega),DQ HG.o hp Af⟩
theorem OV (g:Nat) (c:Option L) (w:World) (h:Cur w g c) (hs:(c.getD []).length<=100000):Calls Tryz.prog 95 #[.pointer (some ⟨g,0,none⟩)] w fun e w'=>∃z2,∃z3,e=.returned (.agg #[.string ⟨(reQ c).1.c.1.toArray⟩,.string ⟨(reQ c).1.c.2.toArray⟩,.string ⟨(reQ c).1.t.s.1.toArray⟩,.string ⟨(reQ c).1.t.s.2.toArray⟩,.int .i64 (reQ c).1.t.k,z2,z3])/\OwnB w' w.heap.size z2 (reQ c).1.t.b/\OwnB w' w.heap.size z3 (reQ c).1.b/\Cur w' g (reQ c).2/\w.grownBy w' (some g):=by
 obtain⟨W,eW⟩:=Aj (w.alloc (.cells #[.string ⟨#[]⟩,.string ⟨#[]⟩,.string ⟨#[]⟩,.string ⟨#[]⟩,.int .i64 0,.slice none 0 0,.slice none 0 0] 55));have ar:W.heap.size=w.heap.size+1:=by rw[eW];simp
 have M:=I (show Blk W w.heap.size 55 #[.string ⟨#[]⟩,.string ⟨#[]⟩,.string ⟨#[]⟩,.string ⟨#[]⟩,.int .i64 0,.slice none 0 0,.slice none 0 0] by rw[eW];exact Blk.new _ _ _);have ak:=Ds h;have HC:=I (show Cur W g c by rw[eW];exact h.alloc _);have HG:=I (show w.grownBy W (some g) by rw[eW];exact Cc (World.grownBy.refl _ _) _);have ab:=hs;obtain⟨s0,Y⟩:∃s,s=c:=⟨_,rfl⟩;rw[<-Y] at HC ab;have Z:=I ak;have O:=I (show w.heap.size<W.heap.size by omega);have ae:(((prQ s0).2).getD []).length<=100000:=Co 48 ab;have T1:=I (fun g w h=>Ct g s0 w h ab);obtain⟨v1,ah⟩:∃x:Pr,x=(prQ s0).1:=⟨_,rfl⟩;obtain⟨s1,es1⟩:∃s,s=(prQ s0).2:=⟨_,rfl⟩;rw[<-ah,<-es1] at T1;rw[<-es1] at ae;have af:(((tkQ s1).2).getD []).length<=100000:=Co 97 ae;have T2:=I (fun g w h=>Ea g s1 w h ae);obtain⟨v2,ai⟩:∃x:Tk,x=(tkQ s1).1:=⟨_,rfl⟩;obtain⟨s2,aa⟩:∃s,s=(tkQ s1).2:=⟨_,rfl⟩;rw[<-ai,<-aa] at T2;rw[<-aa] at af;have ao:((AQ 4 s2).getD []).length<=100000:=Co 4 af;have T3:=I (fun g w h=>DO g s2 w h (by omega));obtain⟨v3,aj⟩:∃x:L,x=ocC s2:=⟨_,rfl⟩;obtain⟨s3,ad⟩:∃s,s=AQ 4 s2:=⟨_,rfl⟩;rw[<-aj,<-ad] at T3;rw[<-ad] at ao;have au:=I (show(reQ c).1.c=v1 by rw[ah,Y];rfl);have al:=I (show(reQ c).1.t=v2 by rw[ai,es1,Y];rfl);have an:=I (show(reQ c).1.b=v3 by rw[aj,aa,es1,Y];rfl);have FS:=I (show(reQ c).2=s3 by rw[ad,aa,es1,Y];rfl);rw[au.o,al.o,an.o,FS.o];clear h hs ab ae af ao au ah es1 al ai aa an aj ad Y FS ak;have aw:=I ar;clear ar;subst eW;go_enter Tryz.func95,Tryz.ntmps95
 go_wp2_with (first
  |(go_at_call 134;(with_reducible refine Calls.mono (T1.o _ _ HC.o) ?_);rintro e w1 ⟨rfl,hd,X⟩;clear T1;replace HC:=I hd;replace M:=I (M.o.grown X (by intro e;injection e with e;have:=Z.o;omega));replace HG:=I (CJ HG.o X);replace O:=I (Nat.lt_of_lt_of_le O.o X.size);clear hd X)
  |(go_at_call 136;(with_reducible refine Calls.mono (T2.o _ _ HC.o) ?_);rintro e w2 ⟨y,rfl,ho,hd,X⟩;clear T2;replace ho:=ho.less (show w.heap.size+1<=_ from O.o);obtain⟨b2,c2,rfl,x1,x2,x3,x4⟩:=ho;have ag:Hid (OwnB w2 (w.heap.size+1) (.slice (some ⟨b2,0,none⟩) _ c2) _):=I ⟨b2,c2,rfl,x1,x2,x3,x4⟩;clear x1 x2 x3 x4;replace HC:=I hd;replace M:=I (M.o.grown X (by intro e;injection e with e;have:=Z.o;omega));replace HG:=I (CJ HG.o X);replace O:=I (Nat.lt_of_lt_of_le O.o X.size);clear hd X)
  |(go_at_call 137;(with_reducible refine Calls.mono (T3.o _ _ HC.o) ?_);rintro e w3 ⟨⟨y,rfl,ho⟩,hd,X⟩;clear T3;replace ho:=ho.less (show w.heap.size+1<=_ from O.o);obtain⟨b3,c3,rfl,x1,x2,x3,x4⟩:=ho;have av:Hid (OwnB w3 (w.heap.size+1) (.slice (some ⟨b3,0,none⟩) _ c3) _):=I ⟨b3,c3,rfl,x1,x2,x3,x4⟩;clear x1 x2 x3 x4;replace HC:=I hd;replace ag:=I (ag.o.keep X (by have:=Z.o;omega));replace M:=I (M.o.grown X (by intro e;injection e with e;have:=Z.o;omega));replace HG:=I (CJ HG.o X);replace O:=I (Nat.lt_of_lt_of_le O.o X.size);clear hd X;have n0:=M.c0;have y0:=M.o.frozen 0;have n1:=M.c1;have y1:=M.o.frozen 1;have n2:=M.c2;have y2:=M.o.frozen 2;have n3:=M.c3;have y3:=M.o.frozen 3;have n4:=M.c4;have y4:=M.o.frozen 4;have n5:=M.c5;have y5:=M.o.frozen 5;have n6:=M.c6;have y6:=M.o.frozen 6)
  |fail)
 have hE:Blk (((((((w3.setCell ⟨w.heap.size,0,none⟩ (.string ⟨v1.1.toArray⟩)).setCell ⟨w.heap.size,1,none⟩ (.string ⟨v1.2.toArray⟩)).setCell ⟨w.heap.size,2,none⟩ (.string ⟨v2.s.1.toArray⟩)).setCell ⟨w.heap.size,3,none⟩ (.string ⟨v2.s.2.toArray⟩)).setCell ⟨w.heap.size,4,none⟩ (.int .i64 v2.k)).setCell ⟨w.heap.size,5,none⟩ (.slice (some ⟨b2,0,none⟩) v2.b.length c2)).setCell ⟨w.heap.size,6,none⟩ (.slice (some ⟨b3,0,none⟩) v3.length c3)) w.heap.size 55 #[.string ⟨v1.1.toArray⟩,.string ⟨v1.2.toArray⟩,.string ⟨v2.s.1.toArray⟩,.string ⟨v2.s.2.toArray⟩,.int .i64 v2.k,.slice (some ⟨b2,0,none⟩) v2.b.length c2,.slice (some ⟨b3,0,none⟩) v3.length c3]:=(((((((M.o.set 0 (.string ⟨v1.1.toArray⟩)).set 1 (.string ⟨v1.2.toArray⟩)).set 2 (.string ⟨v2.s.1.toArray⟩)).set 3 (.string ⟨v2.s.2.toArray⟩)).set 4 (.int .i64 v2.k)).set 5 (.slice (some ⟨b2,0,none⟩) v2.b.length c2)).set 6 (.slice (some ⟨b3,0,none⟩) v3.length c3));have hp:=(Ar (Ar (Ar (Ar (Ar (Ar (Ar (World.grownBy.refl w3 (some w.heap.size)) (p:=⟨w.heap.size,0,none⟩) (.inl rfl) (.string ⟨v1.1.toArray⟩)) (p:=⟨w.heap.size,1,none⟩) (.inl rfl) (.string ⟨v1.2.toArray⟩)) (p:=⟨w.heap.size,2,none⟩) (.inl rfl) (.string ⟨v2.s.1.toArray⟩)) (p:=⟨w.heap.size,3,none⟩) (.inl rfl) (.string ⟨v2.s.2.toArray⟩)) (p:=⟨w.heap.size,4,none⟩) (.inl rfl) (.int .i64 v2.k)) (p:=⟨w.heap.size,5,none⟩) (.inl rfl) (.slice (some ⟨b2,0,none⟩) v2.b.length c2)) (p:=⟨w.heap.size,6,none⟩) (.inl rfl) (.slice (some ⟨b3,0,none⟩) v3.length c3));have hq:=Ao (P:=Tryz.prog) hE Tryz.underlying55 rfl (by kernel_rfl);refine bodyPost_ret (v:=.agg #[.string ⟨v1.1.toArray⟩,.string ⟨v1.2.toArray⟩,.string ⟨v2.s.1.toArray⟩,.string ⟨v2.s.2.toArray⟩,.int .i64 v2.k,.slice (some ⟨b2,0,none⟩) v2.b.length c2,.slice (some ⟨b3,0,none⟩) v3.length c3]) ?_ ?_ ?_
 ·exact Al 2 55 ⟨w.heap.size,0,none⟩ Tryz.results95 rfl hq
 ·rfl
 exact⟨_,_,rfl,(ag.o.keep hp (by omega)).less (by omega),(av.o.keep hp (by omega)).less (by omega),Dg HC.o hp (by have:=Z.o;omega),DQ HG.o hp Af⟩
theorem OW (g:Nat) (c:Option L) (w:World) (h:Cur w g c) (hs:(c.getD []).length<=100000):Calls Tryz.prog 96 #[.pointer (some ⟨g,0,none⟩)] w fun e w'=>∃z1,∃z2,e=.returned (.agg #[.string ⟨(apQ c).1.t.s.1.toArray⟩,.string ⟨(apQ c).1.t.s.2.toArray⟩,.int .i64 (apQ c).1.t.k,z1,z2])/\OwnB w' w.heap.size z1 (apQ c).1.t.b/\OwnB w' w.heap.size z2 (apQ c).1.a/\Cur w' g (apQ c).2/\w.grownBy w' (some g):=by
 obtain⟨W,eW⟩:=Aj (w.alloc (.cells #[.string ⟨#[]⟩,.string ⟨#[]⟩,.int .i64 0,.slice none 0 0,.slice none 0 0] 57));have ak:W.heap.size=w.heap.size+1:=by rw[eW];simp
 have M:=I (show Blk W w.heap.size 57 #[.string ⟨#[]⟩,.string ⟨#[]⟩,.int .i64 0,.slice none 0 0,.slice none 0 0] by rw[eW];exact Blk.new _ _ _);have ai:=Ds h;have HC:=I (show Cur W g c by rw[eW];exact h.alloc _);have HG:=I (show w.grownBy W (some g) by rw[eW];exact Cc (World.grownBy.refl _ _) _);have Z:=hs;obtain⟨s0,X⟩:∃s,s=c:=⟨_,rfl⟩;rw[<-X] at HC Z;have aa:=I ai;have O:=I (show w.heap.size<W.heap.size by omega);have ag:(((tkQ s0).2).getD []).length<=100000:=Co 97 Z;have T1:=I (fun g w h=>Ea g s0 w h Z);obtain⟨v1,ad⟩:∃x:Tk,x=(tkQ s0).1:=⟨_,rfl⟩;obtain⟨s1,es1⟩:∃s,s=(tkQ s0).2:=⟨_,rfl⟩;rw[<-ad,<-es1] at T1;rw[<-es1] at ag;have ah:((AQ 4 s1).getD []).length<=100000:=Co 4 ag;have T2:=I (fun g w h=>DO g s1 w h (by omega));obtain⟨v2,ae⟩:∃x:L,x=ocC s1:=⟨_,rfl⟩;obtain⟨s2,ab⟩:∃s,s=AQ 4 s1:=⟨_,rfl⟩;rw[<-ae,<-ab] at T2;rw[<-ab] at ah;have al:=I (show(apQ c).1.t=v1 by rw[ad,X];rfl);have aj:=I (show(apQ c).1.a=v2 by rw[ae,es1,X];rfl);have FS:=I (show(apQ c).2=s2 by rw[ab,es1,X];rfl);rw[al.o,aj.o,FS.o];clear h hs Z ag ah al ad es1 aj ae ab X FS ai;have ao:=I ak;clear ak;subst eW;go_enter Tryz.func96,Tryz.ntmps96
 go_wp2_with (first
  |(go_at_call 136;(with_reducible refine Calls.mono (T1.o _ _ HC.o) ?_);rintro e w1 ⟨y,rfl,ho,hd,Y⟩;clear T1;replace ho:=ho.less (show w.heap.size+1<=_ from O.o);obtain⟨b1,c1,rfl,x1,x2,x3,x4⟩:=ho;have af:Hid (OwnB w1 (w.heap.size+1) (.slice (some ⟨b1,0,none⟩) _ c1) _):=I ⟨b1,c1,rfl,x1,x2,x3,x4⟩;clear x1 x2 x3 x4;replace HC:=I hd;replace M:=I (M.o.grown Y (by intro e;injection e with e;have:=aa.o;omega));replace HG:=I (CJ HG.o Y);replace O:=I (Nat.lt_of_lt_of_le O.o Y.size);clear hd Y)
  |(go_at_call 137;(with_reducible refine Calls.mono (T2.o _ _ HC.o) ?_);rintro e w2 ⟨⟨y,rfl,ho⟩,hd,Y⟩;clear T2;replace ho:=ho.less (show w.heap.size+1<=_ from O.o);obtain⟨b2,c2,rfl,x1,x2,x3,x4⟩:=ho;have an:Hid (OwnB w2 (w.heap.size+1) (.slice (some ⟨b2,0,none⟩) _ c2) _):=I ⟨b2,c2,rfl,x1,x2,x3,x4⟩;clear x1 x2 x3 x4;replace HC:=I hd;replace af:=I (af.o.keep Y (by have:=aa.o;omega));replace M:=I (M.o.grown Y (by intro e;injection e with e;have:=aa.o;omega));replace HG:=I (CJ HG.o Y);replace O:=I (Nat.lt_of_lt_of_le O.o Y.size);clear hd Y;have n0:=M.c0;have y0:=M.o.frozen 0;have n1:=M.c1;have y1:=M.o.frozen 1;have n2:=M.c2;have y2:=M.o.frozen 2;have n3:=M.c3;have y3:=M.o.frozen 3;have n4:=M.c4;have y4:=M.o.frozen 4)
  |fail)
 have hE:Blk (((((w2.setCell ⟨w.heap.size,0,none⟩ (.string ⟨v1.s.1.toArray⟩)).setCell ⟨w.heap.size,1,none⟩ (.string ⟨v1.s.2.toArray⟩)).setCell ⟨w.heap.size,2,none⟩ (.int .i64 v1.k)).setCell ⟨w.heap.size,3,none⟩ (.slice (some ⟨b1,0,none⟩) v1.b.length c1)).setCell ⟨w.heap.size,4,none⟩ (.slice (some ⟨b2,0,none⟩) v2.length c2)) w.heap.size 57 #[.string ⟨v1.s.1.toArray⟩,.string ⟨v1.s.2.toArray⟩,.int .i64 v1.k,.slice (some ⟨b1,0,none⟩) v1.b.length c1,.slice (some ⟨b2,0,none⟩) v2.length c2]:=(((((M.o.set 0 (.string ⟨v1.s.1.toArray⟩)).set 1 (.string ⟨v1.s.2.toArray⟩)).set 2 (.int .i64 v1.k)).set 3 (.slice (some ⟨b1,0,none⟩) v1.b.length c1)).set 4 (.slice (some ⟨b2,0,none⟩) v2.length c2));have hp:=(Ar (Ar (Ar (Ar (Ar (World.grownBy.refl w2 (some w.heap.size)) (p:=⟨w.heap.size,0,none⟩) (.inl rfl) (.string ⟨v1.s.1.toArray⟩)) (p:=⟨w.heap.size,1,none⟩) (.inl rfl) (.string ⟨v1.s.2.toArray⟩)) (p:=⟨w.heap.size,2,none⟩) (.inl rfl) (.int .i64 v1.k)) (p:=⟨w.heap.size,3,none⟩) (.inl rfl) (.slice (some ⟨b1,0,none⟩) v1.b.length c1)) (p:=⟨w.heap.size,4,none⟩) (.inl rfl) (.slice (some ⟨b2,0,none⟩) v2.length c2));have hq:=Ao (P:=Tryz.prog) hE Tryz.underlying57 rfl (by kernel_rfl);refine bodyPost_ret (v:=.agg #[.string ⟨v1.s.1.toArray⟩,.string ⟨v1.s.2.toArray⟩,.int .i64 v1.k,.slice (some ⟨b1,0,none⟩) v1.b.length c1,.slice (some ⟨b2,0,none⟩) v2.length c2]) ?_ ?_ ?_
 ·exact Al 2 57 ⟨w.heap.size,0,none⟩ Tryz.results96 rfl hq
 ·rfl
 exact⟨_,_,rfl,(af.o.keep hp (by omega)).less (by omega),(an.o.keep hp (by omega)).less (by omega),Dg HC.o hp (by have:=aa.o;omega),DQ HG.o hp Af⟩
theorem OX (g:Nat) (c:Option L) (w:World) (h:Cur w g c) (hs:(c.getD []).length<=100000):Calls Tryz.prog 97 #[.pointer (some ⟨g,0,none⟩)] w fun e w'=>e=.returned (.agg #[.int .i64 (faQ c).1.e,.int .i64 (faQ c).1.no])/\Cur w' g (faQ c).2/\w.grownBy w' (some g):=by
 obtain⟨W,eW⟩:=Aj (w.alloc (.cells #[.int .i64 0,.int .i64 0] 59));have aj:W.heap.size=w.heap.size+1:=by rw[eW];simp
 have X:=I (show Blk W w.heap.size 59 #[.int .i64 0,.int .i64 0] by rw[eW];exact Blk.new _ _ _);have ah:=Ds h;have HC:=I (show Cur W g c by rw[eW];exact h.alloc _);have HG:=I (show w.grownBy W (some g) by rw[eW];exact Cc (World.grownBy.refl _ _) _);have aa:=hs;obtain⟨s0,M⟩:∃s,s=c:=⟨_,rfl⟩;rw[<-M] at HC aa;have af:=I ah;have O:=I (show w.heap.size<W.heap.size by omega);have ae:(((intC s0).2).getD []).length<=100000:=DW aa;have T1:=I (fun g w h=>Bk g s0 w h (by omega));obtain⟨v1,ab⟩:∃x:Int,x=((intC s0).1:Int):=⟨_,rfl⟩;obtain⟨s1,es1⟩:∃s,s=(intC s0).2:=⟨_,rfl⟩;rw[<-ab,<-es1] at T1;rw[<-es1] at ae;have ag:(((intC s1).2).getD []).length<=100000:=DW ae;have T2:=I (fun g w h=>Bk g s1 w h (by omega));obtain⟨v2,ad⟩:∃x:Int,x=((intC s1).1:Int):=⟨_,rfl⟩;obtain⟨s2,Y⟩:∃s,s=(intC s1).2:=⟨_,rfl⟩;rw[<-ad,<-Y] at T2;rw[<-Y] at ag;have ak:=I (show(faQ c).1.e=v1 by rw[ab,M];rfl);have ai:=I (show(faQ c).1.no=v2 by rw[ad,es1,M];rfl);have FS:=I (show(faQ c).2=s2 by rw[Y,es1,M];rfl);rw[ak.o,ai.o,FS.o];clear h hs aa ae ag ak ab es1 ai ad Y M FS ah;have al:=I aj;clear aj;subst eW;go_enter Tryz.func97,Tryz.ntmps97
 go_wp2_with (first
  |(go_at_call 135;(with_reducible refine Calls.mono (T1.o _ _ HC.o) ?_);rintro e w1 ⟨rfl,hd,Z⟩;clear T1;replace HC:=I hd;replace X:=I (X.o.grown Z (by intro e;injection e with e;have:=af.o;omega));replace HG:=I (CJ HG.o Z);replace O:=I (Nat.lt_of_lt_of_le O.o Z.size);clear hd Z)
  |(go_at_call 135;(with_reducible refine Calls.mono (T2.o _ _ HC.o) ?_);rintro e w2 ⟨rfl,hd,Z⟩;clear T2;replace HC:=I hd;replace X:=I (X.o.grown Z (by intro e;injection e with e;have:=af.o;omega));replace HG:=I (CJ HG.o Z);replace O:=I (Nat.lt_of_lt_of_le O.o Z.size);clear hd Z;have n0:=X.c0;have y0:=X.o.frozen 0;have n1:=X.c1;have y1:=X.o.frozen 1)
  |fail)
 have hE:Blk ((w2.setCell ⟨w.heap.size,0,none⟩ (.int .i64 v1)).setCell ⟨w.heap.size,1,none⟩ (.int .i64 v2)) w.heap.size 59 #[.int .i64 v1,.int .i64 v2]:=((X.o.set 0 (.int .i64 v1)).set 1 (.int .i64 v2));have hp:=(Ar (Ar (World.grownBy.refl w2 (some w.heap.size)) (p:=⟨w.heap.size,0,none⟩) (.inl rfl) (.int .i64 v1)) (p:=⟨w.heap.size,1,none⟩) (.inl rfl) (.int .i64 v2));have hq:=Ao (P:=Tryz.prog) hE Tryz.underlying59 rfl (by kernel_rfl);refine bodyPost_ret (v:=.agg #[.int .i64 v1,.int .i64 v2]) ?_ ?_ ?_
 ·exact Al 2 59 ⟨w.heap.size,0,none⟩ Tryz.results97 rfl hq
 ·rfl
 exact⟨rfl,Dg HC.o hp (by have:=af.o;omega),DQ HG.o hp Af⟩
theorem Wr:(Tryz.prog.info? 5).map (·.size)=some 1:=by kernel_rfl
theorem TW:(Tryz.prog.info? 30).map (·.size)=some 32:=by kernel_rfl
theorem bvs_one' (l:L):(bvs l).toArray.all (·.oneCell')=true:=all_oneCell_toArray (BM l)
theorem OY {W:World} {K b c:Nat} {t:TypeId} {x:L} (h:Blk W K t (bvs key0).toArray) (X:∀i u,(bvs x)[i]? = some u->W.cell? ⟨b,i,none⟩=some u) :
  (Builtin.copy_ #[24,24] 3 #[.slice (some ⟨K,0,none⟩) 32 32,.slice (some ⟨b,0,none⟩) x.length c]).run Tryz.prog W=.ok (goInt (bvs (x.take 32)).length) (W.setCells K 0 (bvs (x.take 32))):=by
 refine run_copy_cells (P:=Tryz.prog) W 24 24 3 5 K 0 32 32 ⟨b,0,none⟩ x.length c (bvs (x.take 32)) Tryz.underlying24 Wr ?_ ?_ ?_ ?_ (BM _)
 ·rw[AB,List.length_take];exact Nat.min_comm _ _
 ·intro j v O
  rw[addr_add,Nat.zero_add];apply X;have M:j<(bvs (x.take 32)).length:=(List.getElem?_eq_some_iff.1 O).1;rw[AB,List.length_take] at M;rw[<-O];simp only[bvs,List.getElem?_map];rw[List.getElem?_take_of_lt (by omega)]
 ·intro j M
  rw[AB,List.length_take] at M;exact(Am h 32 (by simp [AB,key0]) j (by omega)).1
 ·intro j M
  rw[AB,List.length_take] at M;exact(Am h 32 (by simp [AB,key0]) j (by omega)).2
theorem Mu (g:Nat) (c:Option L) (w:World) (h:Cur w g c) (hs:(c.getD []).length<=100000):Calls Tryz.prog 154 #[.pointer (some ⟨g,0,none⟩)] w fun e w'=>e=.returned (.agg (bvs (keQ c).1).toArray)/\Cur w' g (keQ c).2/\w.grownBy w' (some g):=by
 have ez:(bvs key0).toArray=#[.int .u8 0,.int .u8 0,.int .u8 0,.int .u8 0,.int .u8 0,.int .u8 0,.int .u8 0,.int .u8 0,.int .u8 0,.int .u8 0,.int .u8 0,.int .u8 0,.int .u8 0,.int .u8 0,.int .u8 0,.int .u8 0,.int .u8 0,.int .u8 0,.int .u8 0,.int .u8 0,.int .u8 0,.int .u8 0,.int .u8 0,.int .u8 0,.int .u8 0,.int .u8 0,.int .u8 0,.int .u8 0,.int .u8 0,.int .u8 0,.int .u8 0,.int .u8 0]:=by rfl
 have T1:=I (fun w1 (h:Cur w1 g c)=>DO g c w1 h (by omega));have E1:=I (show(keQ c).1=(ocC c++key0).take 32 from rfl);have E2:=I (show(keQ c).2=AQ 4 c from rfl);rw[E1.o,E2.o];obtain⟨x,ex⟩:=Aj (ocC c);obtain⟨r,er⟩:=Aj (AQ 4 c);rw[<-ex,<-er] at T1⊢;go_enter Tryz.func154,Tryz.ntmps154
 go_upto_region 2 with fail
 rw[<-ez];obtain⟨W,eW⟩:=Aj ((w.alloc (.cells (bvs key0).toArray 30)).alloc (.cells (bvs key0).toArray 30));have hq:=Blk.new (w.alloc (.cells (bvs key0).toArray 30)) 30 (bvs key0).toArray;rw[show(w.alloc (.cells (bvs key0).toArray 30)).heap.size=w.heap.size+1 by simp,<-eW] at hq;have Y:=I (show Blk W w.heap.size 30 (bvs key0).toArray by rw[eW];exact(Blk.new _ _ _).alloc _);have HC:=I (show Cur W g c by rw[eW];exact(h.alloc _).alloc _);have HG:=I (show w.grownBy W (some g) by rw[eW];exact Cc (Cc (World.grownBy.refl _ _) _) _);have X:=I (Ds h);have O:=I hq;rw[<-eW];clear eW ez hq h hs E1 E2 ex er;replace Y:=I (show Blk W.drew _ _ _ from Y.o.drewN 1);replace O:=I (show Blk W.drew _ _ _ from O.o.drewN 1);replace HC:=I (show Cur W.drew g c from Blk.drewN HC.o 1);replace HG:=I (show w.grownBy W.drew (some g) from Fo HG.o 1)
 go_region_held3 (fun w'=>True) (trivial) ((go_at_call 137;refine Calls.mono (T1.o _ HC.o) ?_;rintro e w1 ⟨⟨v,rfl,ho⟩,hd,hg⟩;obtain⟨b,cp,rfl,x1,x2,x3,x4⟩:=ho;clear T1;replace HC:=I hd;replace Y:=I (Y.o.grown hg (by intro e;injection e with e;have:=X.o;omega));replace O:=I (O.o.grown hg (by intro e;injection e with e;have:=X.o;omega));replace HG:=I (CJ HG.o hg);have ab:=OY (c:=cp) O.o x4;clear hd hg x1 x2 x3 x4))
 have M:(bvs ((x++key0).take 32)).toArray.size=32:=by simp [AB,key0]
 have Z:=Eu (a:=w1) (.inl rfl:some (w.heap.size+1)=some (w.heap.size+1)\/_) (bvs (x.take 32)) 0 w1 (World.grownBy.refl _ _);replace O:=I (OS (x:=x) O.o);have HO:=I (bvs_one' ((x++key0).take 32));obtain⟨ks,aa⟩:=Aj ((bvs ((x++key0).take 32)).toArray);rw[<-aa] at O M HO;obtain⟨V,eV⟩:=Aj (w1.setCells (w.heap.size+1) 0 (bvs (x.take 32)));rw[<-eV] at O Z⊢;replace Y:=I (Y.o.grown Z (by intro e;injection e with e;omega));replace HC:=I (Dg HC.o Z (by have:=X.o;omega));replace HG:=I (DQ HG.o Z (by omega));have HI:=I (show(Tryz.prog.info? 30).map (·.size)=some ks.size by rw[M];exact TW);have HT:=I (Am Y.o ks.size (by rw[M];simp [AB,key0]));have EK:=I aa;have HS:=I M;clear ab eV Z aa M
 go_wp2_with (first
  |(refine Ad (by rfl) 30 (.tmp 3) (by rfl) (w.heap.size+1) 0 (by rfl) ks _ (Ac O.o) Tryz.underlying30 (by rfl) HI.o ?_)
  |(refine wpList_store_mid (by rfl) 30 (.tmp 2) (.tmp 8) (by rfl) w.heap.size 0 ks (by rfl) (by rfl) HT.o HI.o HO.o ?_)
  |fail)
 have hE:=AI (ds:=ks) Y.o (by rw[HS.o];simp [AB,key0]);have Z:=AK V w.heap.size ks.toList;have hq:=Ao (P:=Tryz.prog) hE Tryz.underlying30 rfl HI.o;refine bodyPost_ret (v:=.agg ks) ?_ ?_ ?_
 ·exact Al 2 30 ⟨w.heap.size,0,none⟩ Tryz.results154 rfl hq
 ·rfl
 exact⟨by rw[EK.o],Dg HC.o Z (by have:=X.o;omega),DQ HG.o Z Af⟩
theorem Ay {P:Program} {ops:Array Oper} {rest:List Oper} {o:Oper} {a:Act} {w:World} {Q:Exit->Act->World->Prop} (X:o.guard=none) (t:TypeId) (parts:Array (Nat×Operand)) (O:o.op=.build t parts)
  (cells:Array Value) (M:P.built t (parts.map fun(i,x)=>(i,a.eval x)).toList=some cells) (h:wpList P ops Q rest (a.put o.dst (.agg cells)) w):wpList P ops Q (o :: rest) a w:=
 wpList_build X t parts O (by rw[M];rfl) (by rw[M];exact h)
theorem len32 {v:L} (h:v.length=32):∃k0 k1 k2 k3 k4 k5 k6 k7 k8 k9 ab al af an M aa k16 O ah ag ad aj ak X Z au av ao Y ae ar ai:UInt8,v = [k0,k1,k2,k3,k4,k5,k6,k7,k8,k9,ab,al,af,an,M,aa,k16,O,ah,ag,ad,aj,ak,X,Z,au,av,ao,Y,ae,ar,ai]:=by
 rcases v with _ | ⟨k0,v⟩
 ·simp at h
 rcases v with _ | ⟨k1,v⟩
 ·simp at h
 rcases v with _ | ⟨k2,v⟩
 ·simp at h
 rcases v with _ | ⟨k3,v⟩
 ·simp at h
 rcases v with _ | ⟨k4,v⟩
 ·simp at h
 rcases v with _ | ⟨k5,v⟩
 ·simp at h
 rcases v with _ | ⟨k6,v⟩
 ·simp at h
 rcases v with _ | ⟨k7,v⟩
 ·simp at h
 rcases v with _ | ⟨k8,v⟩
 ·simp at h
 rcases v with _ | ⟨k9,v⟩
 ·simp at h
 rcases v with _ | ⟨ab,v⟩
 ·simp at h
 rcases v with _ | ⟨al,v⟩
 ·simp at h
 rcases v with _ | ⟨af,v⟩
 ·simp at h
 rcases v with _ | ⟨an,v⟩
 ·simp at h
 rcases v with _ | ⟨M,v⟩
 ·simp at h
 rcases v with _ | ⟨aa,v⟩
 ·simp at h
 rcases v with _ | ⟨k16,v⟩
 ·simp at h
 rcases v with _ | ⟨O,v⟩
 ·simp at h
 rcases v with _ | ⟨ah,v⟩
 ·simp at h
 rcases v with _ | ⟨ag,v⟩
 ·simp at h
 rcases v with _ | ⟨ad,v⟩
 ·simp at h
 rcases v with _ | ⟨aj,v⟩
 ·simp at h
 rcases v with _ | ⟨ak,v⟩
 ·simp at h
 rcases v with _ | ⟨X,v⟩
 ·simp at h
 rcases v with _ | ⟨Z,v⟩
 ·simp at h
 rcases v with _ | ⟨au,v⟩
 ·simp at h
 rcases v with _ | ⟨av,v⟩
 ·simp at h
 rcases v with _ | ⟨ao,v⟩
 ·simp at h
 rcases v with _ | ⟨Y,v⟩
 ·simp at h
 rcases v with _ | ⟨ae,v⟩
 ·simp at h
 rcases v with _ | ⟨ar,v⟩
 ·simp at h
 rcases v with _ | ⟨ai,v⟩
 ·simp at h
 rcases v with _ | ⟨x,v⟩
 ·exact⟨k0,k1,k2,k3,k4,k5,k6,k7,k8,k9,ab,al,af,an,M,aa,k16,O,ah,ag,ad,aj,ak,X,Z,au,av,ao,Y,ae,ar,ai,rfl⟩
 ·simp at h
theorem Ru (k:L) (s:Pr) (st en no:Int) (hk:k.length=32):Tryz.prog.built 104 [(0,.agg (bvs k).toArray),(1,.agg #[.string ⟨s.1.toArray⟩,.string ⟨s.2.toArray⟩]),(2,.int .i64 st),(3,.int .i64 en),(4,.int .i64 no)]=some (rpC ⟨k,s,st,en,no⟩).toArray:=by
 obtain⟨k0,k1,k2,k3,k4,k5,k6,k7,k8,k9,ab,al,af,an,M,aa,k16,O,ah,ag,ad,aj,ak,X,Z,au,av,ao,Y,ae,ar,ai,rfl⟩:=len32 hk
 kernel_rfl
theorem Ko (k:L) (s:Pr) (st en no:Int):(rpC ⟨k,s,st,en,no⟩).toArray.all (·.oneCell')=true:=all_oneCell_toArray fun v M=>by
 simp only[rpC,prC,List.mem_append,List.mem_cons,List.not_mem_nil,or_false] at M;rcases M with M | (rfl | rfl) | rfl | rfl | rfl
 ·exact BM _ v M
 ·rfl
 ·rfl
 ·rfl
 ·rfl
 ·rfl
theorem OZ (A:Option Addr) (b:L) (cap:Nat) (w:World) (h:Rd w w.heap.size A (bvs b)) (hs:b.length<=100000):Calls Tryz.prog 106 #[.slice A b.length cap] w fun e w'=>e=.returned (.agg (rpC (rpQ b).1).toArray)/\Below w.heap.size w w':=by
 obtain⟨zz,an⟩:∃z:Array Value,z=#[.int .u8 0,.int .u8 0,.int .u8 0,.int .u8 0,.int .u8 0,.int .u8 0,.int .u8 0,.int .u8 0,.int .u8 0,.int .u8 0,.int .u8 0,.int .u8 0,.int .u8 0,.int .u8 0,.int .u8 0,.int .u8 0,.int .u8 0,.int .u8 0,.int .u8 0,.int .u8 0,.int .u8 0,.int .u8 0,.int .u8 0,.int .u8 0,.int .u8 0,.int .u8 0,.int .u8 0,.int .u8 0,.int .u8 0,.int .u8 0,.int .u8 0,.int .u8 0,.string ⟨#[]⟩,.string ⟨#[]⟩,.int .i64 0,.int .i64 0,.int .i64 0]:=⟨_,rfl⟩;have aH:=I (show zz.size=37 by rw[an];simp);obtain⟨W,eW⟩:=Aj (w.alloc (.cells zz 104));have aF:W.heap.size=w.heap.size+1:=by rw[eW];simp
 have Z:=I (show Blk W w.heap.size 104 zz by rw[eW];exact Blk.new _ _ _);have HG:=I (show Below w.heap.size w W by rw[eW];exact Ag.alloc Af _);have c0:=No w.heap.size A b b.length cap W (by rw[eW];exact h.alloc Af _) rfl;have c1:=I (fun g w h=>Ii 122 g (some b) w h (by show((b.length:Int))<=100000;omega));have ab:((Ax 122 (some b)).getD []).length<=100000:=EJ 122 (show((some b:Option L).getD []).length<=100000 from hs);obtain⟨s0,ak⟩:∃s,s=Ax 122 (some b):=⟨_,rfl⟩;rw[<-ak] at c1 ab;have aj:(((keQ s0).2).getD []).length<=100000:=Co 4 ab;have T1:=I (fun g w h=>Mu g s0 w h ab);have hk:=Rq s0;obtain⟨v1,ad⟩:∃x:L,x=(keQ s0).1:=⟨_,rfl⟩;obtain⟨s1,es1⟩:∃s,s=(keQ s0).2:=⟨_,rfl⟩;rw[<-ad,<-es1] at T1;rw[<-ad] at hk;rw[<-es1] at aj;have al:(((prQ s1).2).getD []).length<=100000:=Co 48 aj;have T2:=I (fun g w h=>Ct g s1 w h aj);obtain⟨v2,au⟩:∃x:Pr,x=(prQ s1).1:=⟨_,rfl⟩;obtain⟨s2,ai⟩:∃s,s=(prQ s1).2:=⟨_,rfl⟩;rw[<-au,<-ai] at T2;rw[<-ai] at al;have ay:(((intC s2).2).getD []).length<=100000:=DW al;have T3:=I (fun g w h=>Bk g s2 w h (by omega));obtain⟨v3,aB⟩:∃x:Int,x=((intC s2).1:Int):=⟨_,rfl⟩;obtain⟨s3,ag⟩:∃s,s=(intC s2).2:=⟨_,rfl⟩;rw[<-aB,<-ag] at T3;rw[<-ag] at ay;have aA:(((intC s3).2).getD []).length<=100000:=DW ay;have T4:=I (fun g w h=>Bk g s3 w h (by omega));obtain⟨v4,ao⟩:∃x:Int,x=((intC s3).1:Int):=⟨_,rfl⟩;obtain⟨s4,ae⟩:∃s,s=(intC s3).2:=⟨_,rfl⟩;rw[<-ao,<-ae] at T4;rw[<-ae] at aA;have aI:(((intC s4).2).getD []).length<=100000:=DW aA;have T5:=I (fun g w h=>Bk g s4 w h (by omega));obtain⟨v5,aw⟩:∃x:Int,x=((intC s4).1:Int):=⟨_,rfl⟩;obtain⟨s5,av⟩:∃s,s=(intC s4).2:=⟨_,rfl⟩;rw[<-aw,<-av] at T5;rw[<-av] at aI;have FV:(rpQ b).1=⟨v1,v2,v3,v4,v5⟩:=by rw[ad,au,aB,ao,aw,ae,ag,ai,es1,ak];rfl
 rw[FV];have af:=Ru v1 v2 v3 v4 v5 hk;have ah:(rpC ⟨v1,v2,v3,v4,v5⟩).toArray.size=37:=FE hk;have aa:(rpC ⟨v1,v2,v3,v4,v5⟩).toArray.all (·.oneCell')=true:=Ko v1 v2 v3 v4 v5;obtain⟨ks,aE⟩:=Aj ((bvs v1).toArray);rw[<-aE] at af T1;obtain⟨cs,aD⟩:=Aj ((rpC ⟨v1,v2,v3,v4,v5⟩).toArray);rw[<-aD] at af ah aa⊢;have aJ:=I af;have aC:=I ah;have HO:=I aa;have HI:=I (show(Tryz.prog.info? 104).map (·.size)=some cs.size by rw[ah];kernel_rfl);clear h hs hk af ah aa aE aD FV ak ab aj al ay aA aI ad es1 au ai aB ag ao ae aw av;have ar:=I aF;clear aF;go_enter Tryz.func106,Tryz.ntmps106
 go_upto_region 1 with fail
 rw[<-an,<-eW];clear an eW
 go_wp2_with (first
  |(go_at_call 91;refine Calls.mono c0 ?_;rintro e wo ⟨go,rfl,aK,aG,hb⟩;clear c0;have HC:=I aG;have az:=I (show w.heap.size+1<=go by have:=ar.o;omega);replace Z:=I (Z.o.below hb);replace HG:=I (Jl HG.o (by have:=ar.o;omega) hb);have ax:=I (show w.heap.size+1<=wo.heap.size by have:=hb.size;have:=ar.o;omega);clear aK aG hb)
  |(go_at_call 92;refine Calls.mono (c1.o _ _ HC.o) ?_;rintro e wi ⟨⟨gd,rfl,aL,Y⟩,hc,X⟩;clear c1 HC;have HD:=I Y;have M:=I (show w.heap.size+1<=gd by have:=ax.o;omega);have O:=I (Ds Y);replace Z:=I (Z.o.grown X (by intro e;injection e with e;have:=az.o;omega));replace HG:=I (Ak HG.o X (by have:=ax.o;omega) (by have:=az.o;omega));clear aL Y hc X ax az)
  |(go_at_call 154;(with_reducible refine Calls.mono (T1.o _ _ HD.o) ?_);rintro e w1 ⟨rfl,Y,X⟩;clear T1;replace HD:=I Y;replace Z:=I (Z.o.grown X (by intro e;injection e with e;have:=M.o;omega));replace HG:=I (Ak HG.o X (by have:=M.o;have:=O.o;omega) (by have:=M.o;omega));replace O:=I (Nat.lt_of_lt_of_le O.o X.size);clear Y X)
  |(go_at_call 134;(with_reducible refine Calls.mono (T2.o _ _ HD.o) ?_);rintro e w2 ⟨rfl,Y,X⟩;clear T2;replace HD:=I Y;replace Z:=I (Z.o.grown X (by intro e;injection e with e;have:=M.o;omega));replace HG:=I (Ak HG.o X (by have:=M.o;have:=O.o;omega) (by have:=M.o;omega));replace O:=I (Nat.lt_of_lt_of_le O.o X.size);clear Y X)
  |(go_at_call 135;(with_reducible refine Calls.mono (T3.o _ _ HD.o) ?_);rintro e w3 ⟨rfl,Y,X⟩;clear T3;replace HD:=I Y;replace Z:=I (Z.o.grown X (by intro e;injection e with e;have:=M.o;omega));replace HG:=I (Ak HG.o X (by have:=M.o;have:=O.o;omega) (by have:=M.o;omega));replace O:=I (Nat.lt_of_lt_of_le O.o X.size);clear Y X)
  |(go_at_call 135;(with_reducible refine Calls.mono (T4.o _ _ HD.o) ?_);rintro e w4 ⟨rfl,Y,X⟩;clear T4;replace HD:=I Y;replace Z:=I (Z.o.grown X (by intro e;injection e with e;have:=M.o;omega));replace HG:=I (Ak HG.o X (by have:=M.o;have:=O.o;omega) (by have:=M.o;omega));replace O:=I (Nat.lt_of_lt_of_le O.o X.size);clear Y X)
  |(go_at_call 135;(with_reducible refine Calls.mono (T5.o _ _ HD.o) ?_);rintro e w5 ⟨rfl,Y,X⟩;clear T5;replace HD:=I Y;replace Z:=I (Z.o.grown X (by intro e;injection e with e;have:=M.o;omega));replace HG:=I (Ak HG.o X (by have:=M.o;have:=O.o;omega) (by have:=M.o;omega));replace O:=I (Nat.lt_of_lt_of_le O.o X.size);clear Y X)
  |(refine Ay (by rfl) 104 #[(0,.tmp 8),(1,.tmp 10),(2,.tmp 12),(3,.tmp 14),(4,.tmp 16)] (by rfl) cs (by simp only[List.map_toArray,List.map_cons,List.map_nil];exact aJ.o) ?_)
  |(refine wpList_store_mid (by rfl) 104 (.tmp 2) (.tmp 17) (by rfl) w.heap.size 0 cs (by rfl) (by rfl) (Am Z.o _ (by have:=aH.o;have:=aC.o;omega)) HI.o HO.o ?_)
  |fail)
 have hE:=AI (ds:=cs) Z.o (by have:=aH.o;have:=aC.o;omega);have hp:=AK w5 w.heap.size cs.toList;have hq:=Ao (P:=Tryz.prog) hE Tryz.underlying104 rfl HI.o;refine bodyPost_ret (v:=.agg cs) ?_ ?_ ?_
 ·exact Al 2 104 ⟨w.heap.size,0,none⟩ Tryz.results106 rfl hq
 ·rfl
 exact⟨rfl,Ak HG.o hp (by have:=Z.o.lt;omega) Af⟩
end Mc
end Go.Proofs.YtlccngianpfalaaGreat
