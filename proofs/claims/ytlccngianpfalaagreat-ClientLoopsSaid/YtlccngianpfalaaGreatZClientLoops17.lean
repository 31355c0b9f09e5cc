import Derived.Test.YtlccngianpfalaaGreatZClientLoops13
set_option maxHeartbeats 25600000
set_option maxRecDepth 100000
set_option linter.unusedVariables false
set_option linter.unusedSimpArgs false
namespace Go.Proofs.YtlccngianpfalaaGreat
namespace Mc
open DerP Ms
def prQ (c:Option L):Pr×Option L:=(prI (Az 48 c),AR 48 c)
def tkQ (c:Option L):Tk×Option L:=(⟨(prQ (Az 97 c)).1,((intC (prQ (Az 97 c)).2).1:Int),ocC (intC (prQ (Az 97 c)).2).2⟩,AR 97 c)
def keQ (c:Option L):L×Option L:=((ocC c++key0).take 32,AR 4 c)
theorem Rc (c:Option L):(keQ c).1.length=32:=by
 show((ocC c++key0).take 32).length=32;rw[List.length_take,List.length_append,show key0.length=32 from rfl];omega
def rpQ (b:L):Rp×Option L:=
 let c1:=keQ (Az 122 (some b));let c2:=prQ c1.2;let c3:=nmP c2.2;let c4:=nmP c3.2;let c5:=nmP c4.2
 (⟨c1.1,c2.1,c3.1,c4.1,c5.1⟩,c5.2)
def asQ (c:Option L):As×Option L:=
 let c1:=prQ c;let c2:=prQ c1.2;let c3:=nmP c2.2;let c4:=nmP c3.2
 (⟨c1.1,c2.1,c3.1,c4.1⟩,c4.2)
def tgQ (c:Option L):Tg×Option L:=
 let c1:=tkQ c;let c2:=AR 4 c1.2;let c3:=prQ c2;let c4:=nmP c3.2;let c5:=nmP c4.2
 (⟨c1.1,ocC c1.2,c3.1,c4.1,c5.1⟩,c5.2)
def reQ (c:Option L):Re×Option L:=
 let c1:=prQ c;let c2:=tkQ c1.2
 (⟨c1.1,c2.1,ocC c2.2⟩,AR 4 c2.2)
def apQ (c:Option L):Ap×Option L:=
 let c1:=tkQ c
 (⟨c1.1,ocC c1.2⟩,AR 4 c1.2)
def faQ (c:Option L):Fa×Option L:=
 let c1:=nmP c;let c2:=nmP c1.2
 (⟨c1.1,c2.1⟩,c2.2)
def mgQ (b:L):Mg:=
 match b with
 | []=>mg0
 |t :: _=>
  if t=106 then ⟨1,(asQ (Az 106 (some b))).1,tg0,re0,ap0,fa0⟩
  else if t=108 then ⟨2,as0,(tgQ (Az 108 (some b))).1,re0,ap0,fa0⟩
  else if t=107 then ⟨3,as0,tg0,(reQ (Az 107 (some b))).1,ap0,fa0⟩
  else if t=110 then ⟨4,as0,tg0,re0,(apQ (Az 110 (some b))).1,fa0⟩
  else if t=126 then ⟨5,as0,tg0,re0,ap0,(faQ (Az 126 (some b))).1⟩
  else mg0
theorem FM {p:Pr} (h:prB p=true) (r:L):prQ (some (prE p++r))=(p,some r):=by
 have O:=DV h;have M:=(AV h).2;rw[prQ,prE,be (by omega),ne (by omega),CV,prI,WZ (by omega),ne (by omega),Uo (by omega)]
theorem Wf {n:Int} (O:0<=n) (M:n<=4611686018427387904) (r:L):((intC (some (encI n++r))).1:Int)=n/\(intC (some (encI n++r))).2=some r:=by
 have:=Df O M r;rw[nmP] at this;injection this with a b;exact⟨a,b⟩
theorem Kb {t:Tk} (h:tkB t=true) (r:L):tkQ (some (tkE t++r))=(t,some r):=by
 obtain⟨O,X,Y⟩:=DK h;have Z:=(BV h).2;have M:=Wf (n:=t.k) (by omega) (by omega) (elem 4 t.b);rw[tkQ,tkE,be (by omega),ne (by omega),DI,FM O,M.1,M.2,Jj (by omega)]
theorem Ty {k:L} (h:k.length=32) (r:L):keQ (some (elem 4 k++r))=(k,some r):=by
 rw[keQ,Su (by omega),ne (by omega),List.take_append_of_le_length (by omega),List.take_of_length_le (by omega)]
theorem Tz {p:Rp} (h:rpB p=true) (hk:p.ss.length=32):rpQ (rpE p)=(p,some []):=by
 have h':prB p.s=true/\tmB p.st=true/\tmB p.en=true/\tmB p.no=true:=by simpa [rpB] using h
 obtain⟨M,O,X,Y⟩:=h';have t4:=BM O;have t5:=BM X;have t6:=BM Y;have l1:=(AV M).1;have l2:=Ay 4 p.ss;have l4:=AF p.st;have l5:=AF p.en;have l6:=AF p.no;have Z:[elem 4 p.ss,prE p.s,encI p.st,encI p.en,encI p.no].flatten.length<=65535:=by simp only[List.flatten_cons,List.flatten_nil,List.length_append,List.length_nil];omega
 rw[rpQ,rpE,be0 Z,Ef,Ty hk];simp only;rw[FM M];simp only;rw[Df (by omega) (by omega)];simp only;rw[Df (by omega) (by omega)];simp only;rw[DL (by omega) (by omega)]
theorem TA {q:As} (h:asB q=true):Az 106 (some (asE q))=some [prE q.c,prE q.s,encI q.t,encI q.no].flatten/\asQ (some [prE q.c,prE q.s,encI q.t,encI q.no].flatten)=(q,some []):=by
 have h':prB q.c=true/\prB q.s=true/\tmB q.t=true/\tmB q.no=true:=by simpa [asB] using h
 obtain⟨M,O,X,Y⟩:=h';have t4:=BM X;have t5:=BM Y;have l1:=(AV M).1;have l2:=(AV O).1;have l4:=AF q.t;have l5:=AF q.no;have Z:[prE q.c,prE q.s,encI q.t,encI q.no].flatten.length<=65535:=by simp only[List.flatten_cons,List.flatten_nil,List.length_append,List.length_nil];omega
 refine⟨by rw[asE,be0 Z],?_⟩;rw[IW,asQ,FM M];simp only;rw[FM O];simp only;rw[Df (by omega) (by omega)];simp only;rw[DL (by omega) (by omega)]
theorem TB {q:Tg} (h:tgB q=true):Az 108 (some (tgE q))=some [tkE q.t,elem 4 q.a,prE q.s,encI q.u,encI q.no].flatten/\tgQ (some [tkE q.t,elem 4 q.a,prE q.s,encI q.u,encI q.no].flatten)=(q,some []):=by
 have h':tkB q.t=true/\Bu q.a=true/\prB q.s=true/\tmB q.u=true/\tmB q.no=true:=by simpa [tgB] using h
 obtain⟨O,h3,M,X,Y⟩:=h';have t4:=BM X;have t5:=BM Y;have b3:=Bd h3;have l1:=(BV O).1;have l2:=Ay 4 q.a;have l3:=(AV M).1;have l4:=AF q.u;have l5:=AF q.no;have Z:[tkE q.t,elem 4 q.a,prE q.s,encI q.u,encI q.no].flatten.length<=65535:=by simp only[List.flatten_cons,List.flatten_nil,List.length_append,List.length_nil];omega
 refine⟨by rw[tgE,be0 Z],?_⟩;rw[Ef,tgQ,Kb O];simp only;rw[Su (by omega),ne (by omega),FM M];simp only;rw[Df (by omega) (by omega)];simp only;rw[DL (by omega) (by omega)]
theorem TC {q:Re} (h:reB q=true):Az 107 (some (reE q))=some [prE q.c,tkE q.t,elem 4 q.b].flatten/\reQ (some [prE q.c,tkE q.t,elem 4 q.b].flatten)=(q,some []):=by
 have Z:prB q.c=true/\tkB q.t=true/\Bu q.b=true:=by simpa [reB] using h
 obtain⟨M,O,X⟩:=Z;have b3:=Bd X;have l1:=(AV M).1;have l2:=(BV O).1;have l3:=Ay 4 q.b;have Y:[prE q.c,tkE q.t,elem 4 q.b].flatten.length<=65535:=by simp only[List.flatten_cons,List.flatten_nil,List.length_append,List.length_nil];omega
 refine⟨by rw[reE,be0 Y],?_⟩;rw[DI,reQ,FM M];simp only;rw[Kb O];simp only;rw[Jj (by omega),ne0 (by omega)]
theorem TD {q:Ap} (h:apB q=true):Az 110 (some (apE q))=some [tkE q.t,elem 4 q.a].flatten/\apQ (some [tkE q.t,elem 4 q.a].flatten)=(q,some []):=by
 have Y:tkB q.t=true/\Bu q.a=true:=by simpa [apB] using h
 obtain⟨M,O⟩:=Y;have b3:=Bd O;have l2:=(BV M).1;have l3:=Ay 4 q.a;have X:[tkE q.t,elem 4 q.a].flatten.length<=65535:=by simp only[List.flatten_cons,List.flatten_nil,List.length_append,List.length_nil];omega
 refine⟨by rw[apE,be0 X],?_⟩;rw[CV,apQ,Kb M];simp only;rw[Jj (by omega),ne0 (by omega)]
theorem TG {q:Fa} (h:faB q=true):Az 126 (some (faE q))=some [encI q.e,encI q.no].flatten/\faQ (some [encI q.e,encI q.no].flatten)=(q,some []):=by
 have X:(1<=q.e/\q.e<=255)/\tmB q.no=true:=by simpa [faB,inB] using h
 obtain⟨Y,M⟩:=X;have Z:=BM M;have l2:=AF q.e;have l3:=AF q.no;have O:[encI q.e,encI q.no].flatten.length<=65535:=by simp only[List.flatten_cons,List.flatten_nil,List.length_append,List.length_nil];omega
 refine⟨by rw[faE,be0 O],?_⟩;rw[CV,faQ,Df (by omega) (by omega)];simp only;rw[DL (by omega) (by omega)]
theorem TH {m:Mg} (h:mgB m=true):mgQ (mgE m)=m:=by
 rcases Gu h with⟨O,e⟩ | ⟨O,e⟩ | ⟨O,e⟩ | ⟨O,e⟩ | ⟨O,e⟩
 ·have M:=TA O
  have X:mgE m=asE m.aq:=by rw[e];rfl
  rw[X]
  conv=>rhs;rw[e]
  show(⟨1,(asQ (Az 106 (some (asE m.aq)))).1,tg0,re0,ap0,fa0⟩:Mg)=_;rw[M.1,M.2]
 ·have M:=TB O
  have X:mgE m=tgE m.tg:=by rw[e];rfl
  rw[X]
  conv=>rhs;rw[e]
  show(⟨2,as0,(tgQ (Az 108 (some (tgE m.tg)))).1,re0,ap0,fa0⟩:Mg)=_;rw[M.1,M.2]
 ·have M:=TC O
  have X:mgE m=reE m.re:=by rw[e];rfl
  rw[X]
  conv=>rhs;rw[e]
  show(⟨3,as0,tg0,(reQ (Az 107 (some (reE m.re)))).1,ap0,fa0⟩:Mg)=_;rw[M.1,M.2]
 ·have M:=TD O
  have X:mgE m=apE m.ap:=by rw[e];rfl
  rw[X]
  conv=>rhs;rw[e]
  show(⟨4,as0,tg0,re0,(apQ (Az 110 (some (apE m.ap)))).1,fa0⟩:Mg)=_;rw[M.1,M.2]
 ·have M:=TG O
  have X:mgE m=faE m.fa:=by rw[e];rfl
  rw[X]
  conv=>rhs;rw[e]
  show(⟨5,as0,tg0,re0,ap0,(faQ (Az 126 (some (faE m.fa)))).1⟩:Mg)=_;rw[M.1,M.2]
theorem Rf (b:L):mgD b=if mgO (mgQ b)=some b then some (mgQ b) else none:=by
 split
 ·rename_i h;exact Jk.2 h
 ·rename_i h
  cases hd:mgD b with
  |none=>rfl
  |some m=>
   exfalso
   have M:=Jk.1 hd;have O:=Bw.1 M;apply h;have e:mgQ b=m:=by rw[<-O.2.2];exact TH O.1
   rw[e];exact M
theorem Kc (b:L):(rpQ b).1.ss.length=32:=Rc _
theorem Rh (b:L):rpD b=if rpO (rpQ b).1=some b then some (rpQ b).1 else none:=by
 split
 ·rename_i h;exact(Xa (Kc b)).2 h
 ·rename_i h
  cases hd:rpD b with
  |none=>rfl
  |some m=>
   exfalso
   have M:=(Xb hd).1;have O:=Bw.1 M;apply h;have hk:m.ss.length=32:=by
    have:=(Xb hd).2;have e:(rpP b).1=m:=by rw[this]
    rw[<-e];exact Up _
   have e:(rpQ b).1=m:=by rw[<-O.2.2,Tz O.1 hk]
   rw[e];exact M
open Go.RowKit Ae DerC
def OwnB (w:World) (base:Nat) (v:Value) (l:L):Prop:=
 ∃b c,v=.slice (some ⟨b,0,none⟩) l.length c/\l.length<=c/\base<=b/\b<w.heap.size/\∀i u,(bvs l)[i]? = some u->w.cell? ⟨b,i,none⟩=some u
theorem OwnB.of_fresh {w:World} {base b c:Nat} {l:L} (h:Pj w base b l) (O:l.length<=c):OwnB w base (.slice (some ⟨b,0,none⟩) l.length c) l:=by
 refine⟨b,c,rfl,O,h.1,h.2.1,fun i u hu=>?_⟩;have M:i<l.length:=by
  rcases Nat.lt_or_ge i l.length with g | g
  ·exact g
  ·rw[List.getElem?_eq_none (by rw[AB];exact g)] at hu;cases hu
 rw[DT M] at hu;injection hu with hu;subst hu;exact(h.2.2 i M).1
theorem OwnB.keep {w w':World} {base g:Nat} {v:Value} {l:L} (h:OwnB w base v l) (M:w.grownBy w' (some g)) (X:g<base):OwnB w' base v l:=by
 obtain⟨b,c,Y,h2,h3,O,Z⟩:=h;exact⟨b,c,Y,h2,h3,Nat.lt_of_lt_of_le O M.size,fun i u hu=>(World.cell?_of_block (a:=⟨b,i,none⟩) (M.block b O (fun e=>by injection e with e;omega))).trans (Z i u hu)⟩
theorem OwnB.below {w w':World} {base:Nat} {v:Value} {l:L} (h:OwnB w base v l) (O:Below w.heap.size w w'):OwnB w' base v l:=by
 obtain⟨b,c,X,Z,h3,M,Y⟩:=h;exact⟨b,c,X,Z,h3,Nat.lt_of_lt_of_le M O.size,fun i u hu=>(O.cell (p:=⟨b,i,none⟩) M).trans (Y i u hu)⟩
theorem OwnB.less {w:World} {base base':Nat} {v:Value} {l:L} (h:OwnB w base v l) (hb:base'<=base):OwnB w base' v l:=by
 obtain⟨b,c,M,Y,Z,O,X⟩:=h;exact⟨b,c,M,Y,Nat.le_trans hb Z,O,X⟩
theorem OwnB.slb {w:World} {base:Nat} {v:Value} {l:L} (h:OwnB w base v l):SlB w w.heap.size v l:=by
 obtain⟨b,c,M,Y,Z,O,X⟩:=h;exact⟨_,c,M,Y,.inr ⟨b,0,rfl,O,fun i u hu=>by rw[Nat.zero_add];exact X i u hu⟩⟩
theorem Am {w:World} {g:Nat} {t:TypeId} {cs:Array Value} (h:Blk w g t cs) (n:Nat) (O:n<=cs.size):w.there g 0 n:=fun j M=>by
 rw[Nat.zero_add,h.cell,Array.getElem?_eq_getElem (by omega)];exact⟨rfl,h.frozen j⟩
theorem Bj {g:Nat} {t:TypeId}:∀(vs:List Value) (o:Nat) (w:World) (cs:Array Value),Blk w g t cs->o+vs.length<=cs.size->
  ∃ds:Array Value,Blk (w.setCells g o vs) g t ds/\ds.size=cs.size/\(∀i,o<=i->i<o+vs.length->ds[i]? = vs[i - o]?)/\(∀i,i<o\/o+vs.length<=i->ds[i]? = cs[i]?)
 | [],o,w,cs,h,hl=>⟨cs,h,rfl,fun i O M=>by simp at M;omega,fun i _=>rfl⟩
 |v :: r,o,w,cs,h,hl=>by
  rw[World.setCells];simp only[List.length_cons] at hl;obtain⟨ds,O,M,Z,X⟩:=Bj r (o+1) _ _ (h.set o v) (by simp;omega);simp only[List.length_cons];refine⟨ds,O,by simpa using M,fun i Y hj=>?_,fun i Y=>?_⟩
  ·by_cases e:i=o
   ·subst e
    rw[X i (by omega),Nat.sub_self];rw[Array.getElem?_setIfInBounds_self_of_lt (by omega)]
    rfl
   ·rw[Z i (by omega) (by omega),show i - o=(i - (o+1))+1 by omega]
    simp
  ·rw[X i (by omega)]
   exact Array.getElem?_setIfInBounds_ne (by omega)
theorem OG {w:World} {g:Nat} {t:TypeId} {x:L} (h:Blk w g t (bvs key0).toArray):Blk (w.setCells g 0 (bvs (x.take 32))) g t (bvs ((x++key0).take 32)).toArray:=by
 have hk:key0.length=32:=rfl;obtain⟨es,M,Y,X,O⟩:=Bj (bvs (x.take 32)) 0 w _ h (by simp [AB,hk];omega);have e:es=(bvs ((x++key0).take 32)).toArray:=by
  apply Array.ext_getElem?;intro i;rw[show(bvs ((x++key0).take 32)).toArray[i]? = (bvs ((x++key0).take 32))[i]? by simp]
  by_cases hi:i<(x.take 32).length
  ·rw[X i (by omega) (by rw[AB];omega),Nat.sub_zero]
   simp only[bvs,List.getElem?_map]
   congr 1
   rw[List.length_take] at hi;rw[List.getElem?_take_of_lt (by omega),List.getElem?_take_of_lt (by omega),List.getElem?_append_left (by omega)]
  ·rw[O i (by rw[AB];omega),show(bvs key0).toArray[i]? = (bvs key0)[i]? by simp]
   simp only[bvs,List.getElem?_map]
   congr 1
   rw[List.length_take] at hi
   by_cases h5:i<32
   ·rw[List.getElem?_take_of_lt h5,List.getElem?_append_right (by omega)]
    simp only[key0,List.getElem?_replicate];rw[if_pos h5,if_pos (by omega)]
   ·rw[List.getElem?_eq_none (by rw[hk];omega),List.getElem?_eq_none (by rw[List.length_take];omega)]
 rw[<-e];exact M
theorem AJ {w:World} {g:Nat} {t:TypeId} {cs ds:Array Value} (h:Blk w g t cs) (hs:cs.size=ds.size):Blk (w.setCells g 0 ds.toList) g t ds:=by
 obtain⟨es,M,X,O,_⟩:=Bj ds.toList 0 w cs h (by simp;omega);have e:es=ds:=by
  apply Array.ext_getElem?;intro i
  by_cases hi:i<ds.size
  ·rw[O i (by omega) (by simp;omega)];simp
  ·rw[Array.getElem?_eq_none (by omega),Array.getElem?_eq_none (by omega)]
 rw[<-e];rw[<-e] at M;exact M
theorem El {row:Option Nat} {a:World} {g:Nat} (M:row=some g\/a.heap.size<=g):∀(vs:List Value) (o:Nat) (w:World),a.grownBy w row->a.grownBy (w.setCells g o vs) row
 | [],_,_,h=>h
 |v :: r,o,w,h=>by rw[World.setCells];exact El M r (o+1) _ (Ar h (p:=⟨g,o,none⟩) M v)
theorem AK (w:World) (g:Nat) (vs:List Value):w.grownBy (w.setCells g 0 vs) (some g):=El (.inl rfl) vs 0 w (World.grownBy.refl _ _)
theorem Dk {w:World} {g:Nat} {c:Option L} (h:Cur w g c):g<w.heap.size:=Blk.lt h
theorem Dd {w w':World} {g q:Nat} {c:Option L} (h:Cur w g c) (M:w.grownBy w' (some q)) (O:q≠g):Cur w' g c:=Blk.grown h M (fun e=>O (by injection e))
theorem DH (g:Nat) (c:Option L) (w:World) (h:Cur w g c) (hs:((c.getD []).length:Int)<=100000):Calls Tryz.prog 137 #[.pointer (some ⟨g,0,none⟩)] w fun e w'=>
  (∃v,e=.returned v/\OwnB w' w.heap.size v (ocC c))/\Cur w' g (AR 4 c)/\w.grownBy w' (some g):=
 (Cp g c w h hs).mono fun e w' M=>by
  obtain⟨⟨b,cap,rfl,Y,Z⟩,O,X⟩:=M;exact⟨⟨_,rfl,OwnB.of_fresh Z Y⟩,O,X⟩
theorem Hw (g:Nat) (c:Option L) (w:World) (h:Cur w g c) (hs:((c.getD []).length:Int)<=100000):Calls Tryz.prog 170 #[.pointer (some ⟨g,0,none⟩)] w fun e w'=>
 e=.returned (.string ⟨(txC c).toArray⟩)/\Cur w' g (AR 27 c)/\w.grownBy w' (some g):=FH g c w h hs
theorem Cm (t:UInt8) {c:Option L} {n:Nat} (h:(c.getD []).length<=n):((AR t c).getD []).length<=n:=Nat.le_trans (Co t c).2 h
theorem Ev (t:UInt8) {c:Option L} {n:Nat} (h:(c.getD []).length<=n):((Az t c).getD []).length<=n:=Nat.le_trans (Co t c).1 h
theorem DP {c:Option L} {n:Nat} (h:(c.getD []).length<=n):((intC c).2.getD []).length<=n:=Nat.le_trans (Ni c) h
end Mc
namespace Mc
open Go.RowKit Ae DerP Ms
theorem XS (x y:Fa) (w:World):(Op.equalIn 10000 59 (.agg #[.int .i64 x.e,.int .i64 x.no]) (.agg #[.int .i64 y.e,.int .i64 y.no])).run Tryz.prog w=.ok (decide (x=y)) w:=by
 obtain⟨e,no⟩:=x;obtain⟨O,M⟩:=y;simp only
 by_cases h0:e=O
 ·subst h0
  by_cases h1:no=M
  ·subst h1
   rw[decide_eq_true rfl]
   go_simp
  ·rw[decide_eq_false (fun h=>h1 (congrArg (fun z=>z.no) h))]
   go_simp
 ·rw[decide_eq_false (fun h=>h0 (congrArg (fun z=>z.e) h))]
  go_simp
theorem XT (x y:As) (w:World):(Op.equalIn 10000 49 (.agg #[.string ⟨x.c.1.toArray⟩,.string ⟨x.c.2.toArray⟩,.string ⟨x.s.1.toArray⟩,.string ⟨x.s.2.toArray⟩,.int .i64 x.t,.int .i64 x.no]) (.agg #[.string ⟨y.c.1.toArray⟩,.string ⟨y.c.2.toArray⟩,.string ⟨y.s.1.toArray⟩,.string ⟨y.s.2.toArray⟩,.int .i64 y.t,.int .i64 y.no])).run Tryz.prog w=.ok (decide (x=y)) w:=by
 obtain⟨⟨a,b⟩,⟨c,d⟩,t,no⟩:=x;obtain⟨⟨X,b2⟩,⟨c2,d2⟩,O,M⟩:=y;simp only
 by_cases h0:a=X
 ·subst h0
  by_cases h1:b=b2
  ·subst h1
   by_cases h2:c=c2
   ·subst h2
    by_cases h3:d=d2
    ·subst h3
     by_cases h4:t=O
     ·subst h4
      by_cases h5:no=M
      ·subst h5
       rw[decide_eq_true rfl]
       go_simp
      ·rw[decide_eq_false (fun h=>h5 (congrArg (fun z=>z.no) h))]
       go_simp
     ·rw[decide_eq_false (fun h=>h4 (congrArg (fun z=>z.t) h))]
      go_simp
    ·rw[decide_eq_false (fun h=>h3 (congrArg (fun z=>z.s.2) h))]
     go_simp
   ·rw[decide_eq_false (fun h=>h2 (congrArg (fun z=>z.s.1) h))]
    go_simp
  ·rw[decide_eq_false (fun h=>h1 (congrArg (fun z=>z.c.2) h))]
   go_simp
 ·rw[decide_eq_false (fun h=>h0 (congrArg (fun z=>z.c.1) h))]
  go_simp
open DerC
def AsV (cs:Array Value) (q:As):Prop:=cs=(asC q).toArray
def FaV (cs:Array Value) (q:Fa):Prop:=cs=(faC q).toArray
def TgV (w:World) (B:Nat) (cs:Array Value) (q:Tg):Prop:=∃b a,cs=(tgC q b a).toArray/\SlB w B b q.t.b/\SlB w B a q.a
def ReV (w:World) (B:Nat) (cs:Array Value) (q:Re):Prop:=∃b a,cs=(reC q b a).toArray/\SlB w B b q.t.b/\SlB w B a q.b
def ApV (w:World) (B:Nat) (cs:Array Value) (q:Ap):Prop:=∃b a,cs=(apC q b a).toArray/\SlB w B b q.t.b/\SlB w B a q.a
section
variable {w w':World} {B B':Nat} {cs:Array Value}
theorem TgV.keep {q:Tg} (h:TgV w B cs q) (M:Below B w w'):TgV w' B cs q:=by obtain⟨b,a,O,Y,X⟩:=h;exact⟨b,a,O,Y.keep M,X.keep M⟩
theorem ReV.keep {q:Re} (h:ReV w B cs q) (M:Below B w w'):ReV w' B cs q:=by obtain⟨b,a,O,Y,X⟩:=h;exact⟨b,a,O,Y.keep M,X.keep M⟩
theorem ApV.keep {q:Ap} (h:ApV w B cs q) (M:Below B w w'):ApV w' B cs q:=by obtain⟨b,a,O,Y,X⟩:=h;exact⟨b,a,O,Y.keep M,X.keep M⟩
theorem TgV.more {q:Tg} (h:TgV w B cs q) (hB:B<=B'):TgV w B' cs q:=by obtain⟨b,a,M,X,O⟩:=h;exact⟨b,a,M,X.more hB,O.more hB⟩
theorem ReV.more {q:Re} (h:ReV w B cs q) (hB:B<=B'):ReV w B' cs q:=by obtain⟨b,a,M,X,O⟩:=h;exact⟨b,a,M,X.more hB,O.more hB⟩
theorem ApV.more {q:Ap} (h:ApV w B cs q) (hB:B<=B'):ApV w B' cs q:=by obtain⟨b,a,M,X,O⟩:=h;exact⟨b,a,M,X.more hB,O.more hB⟩
theorem Hj {v:Value} {l:L} (h:SlB w B v l):v.oneCell'=true:=by obtain⟨A,c,rfl,_⟩:=h;rfl
theorem AsV.size {q:As} (h:AsV cs q):cs.size=6:=by rw[h];rfl
theorem FaV.size {q:Fa} (h:FaV cs q):cs.size=2:=by rw[h];rfl
theorem TgV.size {q:Tg} (h:TgV w B cs q):cs.size=9:=by obtain⟨b,a,M,_⟩:=h;rw[M];rfl
theorem ReV.size {q:Re} (h:ReV w B cs q):cs.size=7:=by obtain⟨b,a,M,_⟩:=h;rw[M];rfl
theorem ApV.size {q:Ap} (h:ApV w B cs q):cs.size=5:=by obtain⟨b,a,M,_⟩:=h;rw[M];rfl
def One (cs:Array Value):Prop:=cs.all (·.oneCell')=true
theorem AsV.one {q:As} (h:AsV cs q):One cs:=by
 rw[h];refine all_oneCell_toArray fun v M=>?_
 simp only[asC,List.mem_cons,List.not_mem_nil,or_false] at M;rcases M with rfl | rfl | rfl | rfl | rfl | rfl<;>rfl
theorem FaV.one {q:Fa} (h:FaV cs q):One cs:=by
 rw[h];refine all_oneCell_toArray fun v M=>?_
 simp only[faC,List.mem_cons,List.not_mem_nil,or_false] at M;rcases M with rfl | rfl<;>rfl
theorem TgV.one {q:Tg} (h:TgV w B cs q):One cs:=by
 obtain⟨b,a,O,Y,X⟩:=h;rw[O];refine all_oneCell_toArray fun v M=>?_
 simp only[tgC,tkC,List.mem_append,List.mem_cons,List.not_mem_nil,or_false] at M;rcases M with(rfl | rfl | rfl | rfl) | rfl | rfl | rfl | rfl | rfl
 all_goals first | rfl | exact Hj Y | exact Hj X
theorem ReV.one {q:Re} (h:ReV w B cs q):One cs:=by
 obtain⟨b,a,O,Y,X⟩:=h;rw[O];refine all_oneCell_toArray fun v M=>?_
 simp only[reC,prC,tkC,List.mem_append,List.mem_cons,List.not_mem_nil,or_false] at M;rcases M with(rfl | rfl) | (rfl | rfl | rfl | rfl) | rfl
 all_goals first | rfl | exact Hj Y | exact Hj X
theorem ApV.one {q:Ap} (h:ApV w B cs q):One cs:=by
 obtain⟨b,a,O,Y,X⟩:=h;rw[O];refine all_oneCell_toArray fun v M=>?_
 simp only[apC,tkC,List.mem_append,List.mem_cons,List.not_mem_nil,or_false] at M;rcases M with(rfl | rfl | rfl | rfl) | rfl
 all_goals first | rfl | exact Hj Y | exact Hj X
end
def mgA (k:Int) (pa pt pr pp pf:Array Value):Array Value:=(Value.int .i64 k :: (pa.toList++(pt.toList++(pr.toList++(pp.toList++pf.toList))))).toArray
structure MgP (w:World) (B:Nat) (pa pt pr pp pf:Array Value) (m:Mg):Prop where
 a:AsV pa m.aq
 t:TgV w B pt m.tg
 r:ReV w B pr m.re
 p:ApV w B pp m.ap
 f:FaV pf m.fa
def MgV (w:World) (B:Nat) (cs:Array Value) (m:Mg):Prop:=∃pa pt pr pp pf,cs=mgA m.k pa pt pr pp pf/\MgP w B pa pt pr pp pf m
section
variable {w w':World} {B B':Nat} {cs pa pt pr pp pf:Array Value} {m:Mg}
theorem MgP.keep (h:MgP w B pa pt pr pp pf m) (M:Below B w w'):MgP w' B pa pt pr pp pf m:=⟨h.a,h.t.keep M,h.r.keep M,h.p.keep M,h.f⟩
theorem MgP.more (h:MgP w B pa pt pr pp pf m) (hB:B<=B'):MgP w B' pa pt pr pp pf m:=⟨h.a,h.t.more hB,h.r.more hB,h.p.more hB,h.f⟩
theorem MgV.keep (h:MgV w B cs m) (X:Below B w w'):MgV w' B cs m:=by obtain⟨pa,pt,pr,pp,pf,M,O⟩:=h;exact⟨pa,pt,pr,pp,pf,M,O.keep X⟩
theorem MgV.more (h:MgV w B cs m) (hB:B<=B'):MgV w B' cs m:=by obtain⟨pa,pt,pr,pp,pf,M,O⟩:=h;exact⟨pa,pt,pr,pp,pf,M,O.more hB⟩
theorem MgP.sizes (h:MgP w B pa pt pr pp pf m):pa.size=6/\pt.size=9/\pr.size=7/\pp.size=5/\pf.size=2:=⟨h.a.size,h.t.size,h.r.size,h.p.size,h.f.size⟩
theorem MgP.size (h:MgP w B pa pt pr pp pf m) (k:Int):(mgA k pa pt pr pp pf).size=30:=by
 obtain⟨O,M,X,Y,Z⟩:=h.sizes;simp [mgA,O,M,X,Y,Z]
theorem MgP.one (h:MgP w B pa pt pr pp pf m) (k:Int):One (mgA k pa pt pr pp pf):=by
 refine all_oneCell_toArray fun v M=>?_
 simp only[List.mem_cons,List.mem_append] at M;have key:∀{cs:Array Value},One cs->v∈cs.toList->v.oneCell'=true:=fun X O=>Array.all_eq_true_iff_forall_mem.1 X v (by simpa using O)
 rcases M with rfl | M | M | M | M | M
 ·rfl
 ·exact key h.a.one M
 ·exact key h.t.one M
 ·exact key h.r.one M
 ·exact key h.p.one M
 ·exact key h.f.one M
theorem CY {g:Nat} {t:TypeId} {pre mid post:List Value} (h:Blk w g t cs) (Y:cs.toList=pre++(mid++post)) (o:Nat) (X:o=pre.length):w.rangeAt g o mid:=fun j v M=>by
 subst X;have O:j<mid.length:=(List.getElem?_eq_some_iff.1 M).1;rw[h.cell,<-Array.getElem?_toList,Y,List.getElem?_append_right (by omega),Nat.add_sub_cancel_left,List.getElem?_append_left O];exact M
structure At (w:World) (g:Nat) (k:Int) (pa pt pr pp pf:Array Value):Prop where
 k:w.cell? ⟨g,0,none⟩=some (.int .i64 k)
 a:w.rangeAt g 1 pa.toList
 t:w.rangeAt g 7 pt.toList
 r:w.rangeAt g 16 pr.toList
 p:w.rangeAt g 23 pp.toList
 f:w.rangeAt g 28 pf.toList
theorem MgP.at_ (h:MgP w' B pa pt pr pp pf m) {g:Nat} {k:Int} {t:TypeId} (M:Blk w g t (mgA k pa pt pr pp pf)):At w g k pa pt pr pp pf:=by
 obtain⟨O,X,Y,Z,h5⟩:=h.sizes;refine⟨by rw[M.cell];rfl,?_,?_,?_,?_,?_⟩
 ·exact CY (pre:=[.int .i64 k]) (post:=pt.toList++(pr.toList++(pp.toList++pf.toList))) M (by simp [mgA]) 1 rfl
 ·exact CY (pre:=.int .i64 k :: pa.toList) (post:=pr.toList++(pp.toList++pf.toList)) M (by simp [mgA]) 7 (by simp [O])
 ·exact CY (pre:=.int .i64 k :: (pa.toList++pt.toList)) (post:=pp.toList++pf.toList) M (by simp [mgA]) 16 (by simp [O,X])
 ·exact CY (pre:=.int .i64 k :: (pa.toList++(pt.toList++pr.toList))) (post:=pf.toList) M (by simp [mgA]) 23 (by simp [O,X,Y])
 ·exact CY (pre:=.int .i64 k :: (pa.toList++(pt.toList++(pr.toList++pp.toList)))) (post:=[]) M (by simp [mgA]) 28 (by simp [O,X,Y,Z])
end
theorem Cv:(Tryz.prog.info? 49).map (·.size)=some 6:=by kernel_rfl
theorem BQ:(Tryz.prog.info? 53).map (·.size)=some 9:=by kernel_rfl
theorem Dq:(Tryz.prog.info? 55).map (·.size)=some 7:=by kernel_rfl
theorem DQ:(Tryz.prog.info? 57).map (·.size)=some 5:=by kernel_rfl
theorem Fy:(Tryz.prog.info? 59).map (·.size)=some 2:=by kernel_rfl
theorem AT:(Tryz.prog.info? 61).map (·.size)=some 30:=by kernel_rfl
theorem AE {P:Program} {ops:Array Oper} {rest:List Oper} {op:Oper} {a:Act} {w:World} {Q:Exit->Act->World->Prop} (hw:Region.wanted op (yielded ops a.tmps)=true) (ty:TypeId) (x:Operand) (M:op.op=.load ty x)
  (g o:Nat) (O:a.eval x=.pointer (some ⟨g,o,none⟩)) (cs:Array Value) (d:TypeDesc) (hc:w.rangeAt g o cs.toList)
  (hu:P.underlying ty=some d) (Z:d.isRow=true) (X:(P.info? ty).map (·.size)=some cs.size)
  (h:wpList P ops Q rest (a.put op.dst (.agg cs)) w):wpList P ops Q (op :: rest) a w:=
 BigFrame.wpList_want hw fun _ Y=>wp_load_mid ty x M g o O cs.toList d hc hu Z (by rw[Array.length_toList];exact X) (by simpa using Y _ _ h)
theorem IU {w:World} {g o:Nat} {t:TypeId} {cs ps ds:Array Value} {pre mid post:List Value} (h:Blk w g t cs) (X:cs.toList=pre++(mid++post)) (Z:o=pre.length) (hm:mid.length=ps.size) (hd:ds=(pre++(ps.toList++post)).toArray):Blk (w.setCells g o ps.toList) g t ds:=by
 subst Z;have hs:cs.size=pre.length+(mid.length+post.length):=by rw[<-Array.length_toList,X];simp
 obtain⟨es,Y,h2,h3,O⟩:=Bj ps.toList pre.length w cs h (by simp;omega);have e:es=ds:=by
  apply Array.ext_getElem?;intro i;rw[hd,show(pre++(ps.toList++post)).toArray[i]? = (pre++(ps.toList++post))[i]? by simp];have M:∀i,cs[i]? = (pre++(mid++post))[i]?:=fun i=>by rw[<-X,Array.getElem?_toList]
  by_cases hi:i<pre.length
  ·rw[O i (.inl hi),M,List.getElem?_append_left hi,List.getElem?_append_left hi]
  ·by_cases hj:i<pre.length+ps.size
   ·rw[h3 i (by omega) (by simpa using hj),List.getElem?_append_right (by omega),List.getElem?_append_left (by simp;omega)]
   ·rw[O i (.inr (by simp;omega)),M,List.getElem?_append_right (by omega),List.getElem?_append_right (by omega),List.getElem?_append_right (by omega),List.getElem?_append_right (by simp;omega),hm]
    simp
 rw[<-e];exact Y
theorem BO {w:World} {g:Nat} {t:TypeId} {cs:Array Value} (h:Blk w g t cs) (o n:Nat) (O:o+n<=cs.size):w.there g o n:=fun j M=>by
 rw[h.cell,Array.getElem?_eq_getElem (by omega)];exact⟨rfl,h.frozen _⟩
theorem Dp (w:World) (g o:Nat) (vs:List Value):w.grownBy (w.setCells g o vs) (some g):=El (.inl rfl) vs o w (World.grownBy.refl _ _)
theorem Cs (g:Nat) (c:Option L) (w:World) (h:Cur w g c) (hs:(c.getD []).length<=100000):Calls Tryz.prog 134 #[.pointer (some ⟨g,0,none⟩)] w fun e w'=>e=.returned (.agg #[.string ⟨(prQ c).1.1.toArray⟩,.string ⟨(prQ c).1.2.toArray⟩])/\Cur w' g (prQ c).2/\w.grownBy w' (some g):=by
 obtain⟨W,eW⟩:=Aj (w.alloc (.cells #[.string ⟨#[]⟩,.string ⟨#[]⟩] 35));have ar:W.heap.size=w.heap.size+1:=by rw[eW];simp
 have X:=I (show Blk W w.heap.size 35 #[.string ⟨#[]⟩,.string ⟨#[]⟩] by rw[eW];exact Blk.new _ _ _);have ai:=Dk h;have ao:Cur W g c:=by rw[eW];exact h.alloc _
 have HG:=I (show w.grownBy W (some g) by rw[eW];exact Cb (World.grownBy.refl _ _) _);have c1:=Ii 48 g c W ao (by omega);have ah:=Ev 48 hs;obtain⟨s0,Y⟩:∃s,s=Az 48 c:=⟨_,rfl⟩;obtain⟨r,er⟩:∃s,s=AR 48 c:=⟨_,rfl⟩;rw[<-Y] at c1 ah;rw[<-er] at c1;have aa:=I ai;have ad:((AR 27 s0).getD []).length<=100000:=Cm 27 ah;have T1:=I (fun g w h=>Hw g s0 w h (by omega));obtain⟨v1,ag⟩:∃x:L,x=txC s0:=⟨_,rfl⟩;obtain⟨s1,es1⟩:∃s,s=AR 27 s0:=⟨_,rfl⟩;rw[<-ag,<-es1] at T1;rw[<-es1] at ad;have aj:((AR 27 s1).getD []).length<=100000:=Cm 27 ad;have T2:=I (fun g w h=>Hw g s1 w h (by omega));obtain⟨v2,af⟩:∃x:L,x=txC s1:=⟨_,rfl⟩;obtain⟨s2,ae⟩:∃s,s=AR 27 s1:=⟨_,rfl⟩;rw[<-af,<-ae] at T2;rw[<-ae] at aj;have ak:=I (show(prQ c).1.1=v1 by rw[ag,Y];rfl);have an:=I (show(prQ c).1.2=v2 by rw[af,es1,Y];rfl);have FS:=I (show(prQ c).2=r by rw[er];rfl);rw[ak.o,an.o,FS.o];clear h hs ah ad aj ak ag es1 an af ae Y FS ai er ao;have au:=I ar;clear ar;subst eW;go_enter Tryz.func134,Tryz.ntmps134
 go_wp2_with (first
  |(go_at_call 92;refine Calls.mono c1 ?_;rintro e wi ⟨⟨gd,rfl,av,Z⟩,hc,M⟩;clear c1;have HD:=I Z;have HC:=I hc;have O:=I (show w.heap.size+1<=gd by have:=au.o;omega);have ab:=I (Dk Z);replace X:=I (X.o.grown M (by intro e;injection e with e;have:=aa.o;omega));replace HG:=I (CH HG.o M);clear av Z hc M)
  |(go_at_call 170;(with_reducible refine Calls.mono (T1.o _ _ HD.o) ?_);rintro e w1 ⟨rfl,Z,M⟩;clear T1;replace HD:=I Z;replace X:=I (X.o.grown M (by intro e;injection e with e;have:=O.o;omega));replace HC:=I (Dd HC.o M (by have:=O.o;have:=aa.o;omega));replace HG:=I (DJ HG.o M (by have:=O.o;omega));replace ab:=I (Nat.lt_of_lt_of_le ab.o M.size);clear Z M)
  |(go_at_call 170;(with_reducible refine Calls.mono (T2.o _ _ HD.o) ?_);rintro e w2 ⟨rfl,Z,M⟩;clear T2;replace HD:=I Z;replace X:=I (X.o.grown M (by intro e;injection e with e;have:=O.o;omega));replace HC:=I (Dd HC.o M (by have:=O.o;have:=aa.o;omega));replace HG:=I (DJ HG.o M (by have:=O.o;omega));replace ab:=I (Nat.lt_of_lt_of_le ab.o M.size);clear Z M;have n0:=X.c0;have y0:=X.o.frozen 0;have n1:=X.c1;have y1:=X.o.frozen 1)
  |fail)
 have hE:Blk ((w2.setCell ⟨w.heap.size,0,none⟩ (.string ⟨v1.toArray⟩)).setCell ⟨w.heap.size,1,none⟩ (.string ⟨v2.toArray⟩)) w.heap.size 35 #[.string ⟨v1.toArray⟩,.string ⟨v2.toArray⟩]:=((X.o.set 0 (.string ⟨v1.toArray⟩)).set 1 (.string ⟨v2.toArray⟩));have hp:=(Ar (Ar (World.grownBy.refl w2 (some w.heap.size)) (p:=⟨w.heap.size,0,none⟩) (.inl rfl) (.string ⟨v1.toArray⟩)) (p:=⟨w.heap.size,1,none⟩) (.inl rfl) (.string ⟨v2.toArray⟩));have hq:=Ao (P:=Tryz.prog) hE Tryz.underlying35 rfl (by kernel_rfl);refine bodyPost_ret (v:=.agg #[.string ⟨v1.toArray⟩,.string ⟨v2.toArray⟩]) ?_ ?_ ?_
 ·exact Al 2 35 ⟨w.heap.size,0,none⟩ Tryz.results134 rfl hq
 ·rfl
 exact⟨rfl,Dd HC.o hp (by have:=aa.o;omega),DJ HG.o hp Af⟩
theorem DR (g:Nat) (c:Option L) (w:World) (h:Cur w g c) (hs:(c.getD []).length<=100000):Calls Tryz.prog 136 #[.pointer (some ⟨g,0,none⟩)] w fun e w'=>∃z3,e=.returned (.agg #[.string ⟨(tkQ c).1.s.1.toArray⟩,.string ⟨(tkQ c).1.s.2.toArray⟩,.int .i64 (tkQ c).1.k,z3])/\OwnB w' w.heap.size z3 (tkQ c).1.b/\Cur w' g (tkQ c).2/\w.grownBy w' (some g):=by
 obtain⟨W,eW⟩:=Aj (w.alloc (.cells #[.string ⟨#[]⟩,.string ⟨#[]⟩,.int .i64 0,.slice none 0 0] 51));have ax:W.heap.size=w.heap.size+1:=by rw[eW];simp
 have X:=I (show Blk W w.heap.size 51 #[.string ⟨#[]⟩,.string ⟨#[]⟩,.int .i64 0,.slice none 0 0] by rw[eW];exact Blk.new _ _ _);have ao:=Dk h;have aw:Cur W g c:=by rw[eW];exact h.alloc _
 have HG:=I (show w.grownBy W (some g) by rw[eW];exact Cb (World.grownBy.refl _ _) _);have c1:=Ii 97 g c W aw (by omega);have ae:=Ev 97 hs;obtain⟨s0,aa⟩:∃s,s=Az 97 c:=⟨_,rfl⟩;obtain⟨r,er⟩:∃s,s=AR 97 c:=⟨_,rfl⟩;rw[<-aa] at c1 ae;rw[<-er] at c1;have ab:=I ao;have ak:(((prQ s0).2).getD []).length<=100000:=Cm 48 ae;have T1:=I (fun g w h=>Cs g s0 w h ae);obtain⟨v1,aj⟩:∃x:Pr,x=(prQ s0).1:=⟨_,rfl⟩;obtain⟨s1,es1⟩:∃s,s=(prQ s0).2:=⟨_,rfl⟩;rw[<-aj,<-es1] at T1;rw[<-es1] at ak;have ah:(((intC s1).2).getD []).length<=100000:=DP ak;have T2:=I (fun g w h=>Bs g s1 w h (by omega));obtain⟨v2,ag⟩:∃x:Int,x=((intC s1).1:Int):=⟨_,rfl⟩;obtain⟨s2,ad⟩:∃s,s=(intC s1).2:=⟨_,rfl⟩;rw[<-ag,<-ad] at T2;rw[<-ad] at ah;have an:((AR 4 s2).getD []).length<=100000:=Cm 4 ah;have T3:=I (fun g w h=>DH g s2 w h (by omega));obtain⟨v3,ai⟩:∃x:L,x=ocC s2:=⟨_,rfl⟩;obtain⟨s3,af⟩:∃s,s=AR 4 s2:=⟨_,rfl⟩;rw[<-ai,<-af] at T3;rw[<-af] at an;have au:=I (show(tkQ c).1.s=v1 by rw[aj,aa];rfl);have av:=I (show(tkQ c).1.k=v2 by rw[ag,es1,aa];rfl);have ar:=I (show(tkQ c).1.b=v3 by rw[ai,ad,es1,aa];rfl);have FS:=I (show(tkQ c).2=r by rw[er];rfl);rw[au.o,av.o,ar.o,FS.o];clear h hs ae ak ah an au aj es1 av ag ad ar ai af aa FS ao er aw;have ay:=I ax;clear ax;subst eW;go_enter Tryz.func136,Tryz.ntmps136
 go_wp2_with (first
  |(go_at_call 92;refine Calls.mono c1 ?_;rintro e wi ⟨⟨gd,rfl,aA,Z⟩,hc,O⟩;clear c1;have HD:=I Z;have HC:=I hc;have M:=I (show w.heap.size+1<=gd by have:=ay.o;omega);have Y:=I (Dk Z);replace X:=I (X.o.grown O (by intro e;injection e with e;have:=ab.o;omega));replace HG:=I (CH HG.o O);clear aA Z hc O)
  |(go_at_call 134;(with_reducible refine Calls.mono (T1.o _ _ HD.o) ?_);rintro e w1 ⟨rfl,Z,O⟩;clear T1;replace HD:=I Z;replace X:=I (X.o.grown O (by intro e;injection e with e;have:=M.o;omega));replace HC:=I (Dd HC.o O (by have:=M.o;have:=ab.o;omega));replace HG:=I (DJ HG.o O (by have:=M.o;omega));replace Y:=I (Nat.lt_of_lt_of_le Y.o O.size);clear Z O)
  |(go_at_call 135;(with_reducible refine Calls.mono (T2.o _ _ HD.o) ?_);rintro e w2 ⟨rfl,Z,O⟩;clear T2;replace HD:=I Z;replace X:=I (X.o.grown O (by intro e;injection e with e;have:=M.o;omega));replace HC:=I (Dd HC.o O (by have:=M.o;have:=ab.o;omega));replace HG:=I (DJ HG.o O (by have:=M.o;omega));replace Y:=I (Nat.lt_of_lt_of_le Y.o O.size);clear Z O)
  |(go_at_call 137;(with_reducible refine Calls.mono (T3.o _ _ HD.o) ?_);rintro e w3 ⟨⟨y,rfl,ho⟩,Z,O⟩;clear T3;replace ho:=ho.less (show gd+1<=_ from Y.o);obtain⟨b3,c3,rfl,x1,x2,x3,x4⟩:=ho;have az:Hid (OwnB w3 (gd+1) (.slice (some ⟨b3,0,none⟩) _ c3) _):=I ⟨b3,c3,rfl,x1,x2,x3,x4⟩;clear x1 x2 x3 x4;replace HD:=I Z;replace X:=I (X.o.grown O (by intro e;injection e with e;have:=M.o;omega));replace HC:=I (Dd HC.o O (by have:=M.o;have:=ab.o;omega));replace HG:=I (DJ HG.o O (by have:=M.o;omega));replace Y:=I (Nat.lt_of_lt_of_le Y.o O.size);clear Z O;have n0:=X.c0;have y0:=X.o.frozen 0;have n1:=X.c1;have y1:=X.o.frozen 1;have n2:=X.c2;have y2:=X.o.frozen 2;have n3:=X.c3;have y3:=X.o.frozen 3)
  |fail)
 have hE:Blk ((((w3.setCell ⟨w.heap.size,0,none⟩ (.string ⟨v1.1.toArray⟩)).setCell ⟨w.heap.size,1,none⟩ (.string ⟨v1.2.toArray⟩)).setCell ⟨w.heap.size,2,none⟩ (.int .i64 v2)).setCell ⟨w.heap.size,3,none⟩ (.slice (some ⟨b3,0,none⟩) v3.length c3)) w.heap.size 51 #[.string ⟨v1.1.toArray⟩,.string ⟨v1.2.toArray⟩,.int .i64 v2,.slice (some ⟨b3,0,none⟩) v3.length c3]:=((((X.o.set 0 (.string ⟨v1.1.toArray⟩)).set 1 (.string ⟨v1.2.toArray⟩)).set 2 (.int .i64 v2)).set 3 (.slice (some ⟨b3,0,none⟩) v3.length c3));have hp:=(Ar (Ar (Ar (Ar (World.grownBy.refl w3 (some w.heap.size)) (p:=⟨w.heap.size,0,none⟩) (.inl rfl) (.string ⟨v1.1.toArray⟩)) (p:=⟨w.heap.size,1,none⟩) (.inl rfl) (.string ⟨v1.2.toArray⟩)) (p:=⟨w.heap.size,2,none⟩) (.inl rfl) (.int .i64 v2)) (p:=⟨w.heap.size,3,none⟩) (.inl rfl) (.slice (some ⟨b3,0,none⟩) v3.length c3));have hq:=Ao (P:=Tryz.prog) hE Tryz.underlying51 rfl (by kernel_rfl);refine bodyPost_ret (v:=.agg #[.string ⟨v1.1.toArray⟩,.string ⟨v1.2.toArray⟩,.int .i64 v2,.slice (some ⟨b3,0,none⟩) v3.length c3]) ?_ ?_ ?_
 ·exact Al 2 51 ⟨w.heap.size,0,none⟩ Tryz.results136 rfl hq
 ·rfl
 exact⟨_,rfl,(az.o.keep hp (by have:=M.o;omega)).less (by have:=M.o;omega),Dd HC.o hp (by have:=ab.o;omega),DJ HG.o hp Af⟩
theorem OH (g:Nat) (c:Option L) (w:World) (h:Cur w g c) (hs:(c.getD []).length<=100000):Calls Tryz.prog 93 #[.pointer (some ⟨g,0,none⟩)] w fun e w'=>e=.returned (.agg #[.string ⟨(asQ c).1.c.1.toArray⟩,.string ⟨(asQ c).1.c.2.toArray⟩,.string ⟨(asQ c).1.s.1.toArray⟩,.string ⟨(asQ c).1.s.2.toArray⟩,.int .i64 (asQ c).1.t,.int .i64 (asQ c).1.no])/\Cur w' g (asQ c).2/\w.grownBy w' (some g):=by
 obtain⟨W,eW⟩:=Aj (w.alloc (.cells #[.string ⟨#[]⟩,.string ⟨#[]⟩,.string ⟨#[]⟩,.string ⟨#[]⟩,.int .i64 0,.int .i64 0] 49));have ay:W.heap.size=w.heap.size+1:=by rw[eW];simp
 have M:=I (show Blk W w.heap.size 49 #[.string ⟨#[]⟩,.string ⟨#[]⟩,.string ⟨#[]⟩,.string ⟨#[]⟩,.int .i64 0,.int .i64 0] by rw[eW];exact Blk.new _ _ _);have ao:=Dk h;have HC:=I (show Cur W g c by rw[eW];exact h.alloc _);have HG:=I (show w.grownBy W (some g) by rw[eW];exact Cb (World.grownBy.refl _ _) _);have ae:=hs;obtain⟨s0,Y⟩:∃s,s=c:=⟨_,rfl⟩;rw[<-Y] at HC ae;have ab:=I ao;have X:=I (show w.heap.size<W.heap.size by omega);have af:(((prQ s0).2).getD []).length<=100000:=Cm 48 ae;have T1:=I (fun g w h=>Cs g s0 w h ae);obtain⟨v1,ak⟩:∃x:Pr,x=(prQ s0).1:=⟨_,rfl⟩;obtain⟨s1,es1⟩:∃s,s=(prQ s0).2:=⟨_,rfl⟩;rw[<-ak,<-es1] at T1;rw[<-es1] at af;have ai:(((prQ s1).2).getD []).length<=100000:=Cm 48 af;have T2:=I (fun g w h=>Cs g s1 w h af);obtain⟨v2,ah⟩:∃x:Pr,x=(prQ s1).1:=⟨_,rfl⟩;obtain⟨s2,Z⟩:∃s,s=(prQ s1).2:=⟨_,rfl⟩;rw[<-ah,<-Z] at T2;rw[<-Z] at ai;have ag:(((intC s2).2).getD []).length<=100000:=DP ai;have T3:=I (fun g w h=>Bs g s2 w h (by omega));obtain⟨v3,aj⟩:∃x:Int,x=((intC s2).1:Int):=⟨_,rfl⟩;obtain⟨s3,aa⟩:∃s,s=(intC s2).2:=⟨_,rfl⟩;rw[<-aj,<-aa] at T3;rw[<-aa] at ag;have ax:(((intC s3).2).getD []).length<=100000:=DP ag;have T4:=I (fun g w h=>Bs g s3 w h (by omega));obtain⟨v4,an⟩:∃x:Int,x=((intC s3).1:Int):=⟨_,rfl⟩;obtain⟨s4,ad⟩:∃s,s=(intC s3).2:=⟨_,rfl⟩;rw[<-an,<-ad] at T4;rw[<-ad] at ax;have av:=I (show(asQ c).1.c=v1 by rw[ak,Y];rfl);have aw:=I (show(asQ c).1.s=v2 by rw[ah,es1,Y];rfl);have au:=I (show(asQ c).1.t=v3 by rw[aj,Z,es1,Y];rfl);have ar:=I (show(asQ c).1.no=v4 by rw[an,aa,Z,es1,Y];rfl);have FS:=I (show(asQ c).2=s4 by rw[ad,aa,Z,es1,Y];rfl);rw[av.o,aw.o,au.o,ar.o,FS.o];clear h hs ae af ai ag ax av ak es1 aw ah Z au aj aa ar an ad Y FS ao;have az:=I ay;clear ay;subst eW;go_enter Tryz.func93,Tryz.ntmps93
 go_wp2_with (first
  |(go_at_call 134;(with_reducible refine Calls.mono (T1.o _ _ HC.o) ?_);rintro e w1 ⟨rfl,hd,O⟩;clear T1;replace HC:=I hd;replace M:=I (M.o.grown O (by intro e;injection e with e;have:=ab.o;omega));replace HG:=I (CH HG.o O);replace X:=I (Nat.lt_of_lt_of_le X.o O.size);clear hd O)
  |(go_at_call 134;(with_reducible refine Calls.mono (T2.o _ _ HC.o) ?_);rintro e w2 ⟨rfl,hd,O⟩;clear T2;replace HC:=I hd;replace M:=I (M.o.grown O (by intro e;injection e with e;have:=ab.o;omega));replace HG:=I (CH HG.o O);replace X:=I (Nat.lt_of_lt_of_le X.o O.size);clear hd O)
  |(go_at_call 135;(with_reducible refine Calls.mono (T3.o _ _ HC.o) ?_);rintro e w3 ⟨rfl,hd,O⟩;clear T3;replace HC:=I hd;replace M:=I (M.o.grown O (by intro e;injection e with e;have:=ab.o;omega));replace HG:=I (CH HG.o O);replace X:=I (Nat.lt_of_lt_of_le X.o O.size);clear hd O)
  |(go_at_call 135;(with_reducible refine Calls.mono (T4.o _ _ HC.o) ?_);rintro e w4 ⟨rfl,hd,O⟩;clear T4;replace HC:=I hd;replace M:=I (M.o.grown O (by intro e;injection e with e;have:=ab.o;omega));replace HG:=I (CH HG.o O);replace X:=I (Nat.lt_of_lt_of_le X.o O.size);clear hd O;have n0:=M.c0;have y0:=M.o.frozen 0;have n1:=M.c1;have y1:=M.o.frozen 1;have n2:=M.c2;have y2:=M.o.frozen 2;have n3:=M.c3;have y3:=M.o.frozen 3;have n4:=M.c4;have y4:=M.o.frozen 4;have n5:=M.c5;have y5:=M.o.frozen 5)
  |fail)
 have hE:Blk ((((((w4.setCell ⟨w.heap.size,0,none⟩ (.string ⟨v1.1.toArray⟩)).setCell ⟨w.heap.size,1,none⟩ (.string ⟨v1.2.toArray⟩)).setCell ⟨w.heap.size,2,none⟩ (.string ⟨v2.1.toArray⟩)).setCell ⟨w.heap.size,3,none⟩ (.string ⟨v2.2.toArray⟩)).setCell ⟨w.heap.size,4,none⟩ (.int .i64 v3)).setCell ⟨w.heap.size,5,none⟩ (.int .i64 v4)) w.heap.size 49 #[.string ⟨v1.1.toArray⟩,.string ⟨v1.2.toArray⟩,.string ⟨v2.1.toArray⟩,.string ⟨v2.2.toArray⟩,.int .i64 v3,.int .i64 v4]:=((((((M.o.set 0 (.string ⟨v1.1.toArray⟩)).set 1 (.string ⟨v1.2.toArray⟩)).set 2 (.string ⟨v2.1.toArray⟩)).set 3 (.string ⟨v2.2.toArray⟩)).set 4 (.int .i64 v3)).set 5 (.int .i64 v4));have hp:=(Ar (Ar (Ar (Ar (Ar (Ar (World.grownBy.refl w4 (some w.heap.size)) (p:=⟨w.heap.size,0,none⟩) (.inl rfl) (.string ⟨v1.1.toArray⟩)) (p:=⟨w.heap.size,1,none⟩) (.inl rfl) (.string ⟨v1.2.toArray⟩)) (p:=⟨w.heap.size,2,none⟩) (.inl rfl) (.string ⟨v2.1.toArray⟩)) (p:=⟨w.heap.size,3,none⟩) (.inl rfl) (.string ⟨v2.2.toArray⟩)) (p:=⟨w.heap.size,4,none⟩) (.inl rfl) (.int .i64 v3)) (p:=⟨w.heap.size,5,none⟩) (.inl rfl) (.int .i64 v4));have hq:=Ao (P:=Tryz.prog) hE Tryz.underlying49 rfl (by kernel_rfl);refine bodyPost_ret (v:=.agg #[.string ⟨v1.1.toArray⟩,.string ⟨v1.2.toArray⟩,.string ⟨v2.1.toArray⟩,.string ⟨v2.2.toArray⟩,.int .i64 v3,.int .i64 v4]) ?_ ?_ ?_
 ·exact Al 2 49 ⟨w.heap.size,0,none⟩ Tryz.results93 rfl hq
 ·rfl
 exact⟨rfl,Dd HC.o hp (by have:=ab.o;omega),DJ HG.o hp Af⟩
theorem OI (g:Nat) (c:Option L) (w:World) (h:Cur w g c) (hs:(c.getD []).length<=100000):Calls Tryz.prog 95 #[.pointer (some ⟨g,0,none⟩)] w fun e w'=>∃z2,∃z3,e=.returned (.agg #[.string ⟨(reQ c).1.c.1.toArray⟩,.string ⟨(reQ c).1.c.2.toArray⟩,.string ⟨(reQ c).1.t.s.1.toArray⟩,.string ⟨(reQ c).1.t.s.2.toArray⟩,.int .i64 (reQ c).1.t.k,z2,z3])/\OwnB w' w.heap.size z2 (reQ c).1.t.b/\OwnB w' w.heap.size z3 (reQ c).1.b/\Cur w' g (reQ c).2/\w.grownBy w' (some g):=by
 obtain⟨W,eW⟩:=Aj (w.alloc (.cells #[.string ⟨#[]⟩,.string ⟨#[]⟩,.string ⟨#[]⟩,.string ⟨#[]⟩,.int .i64 0,.slice none 0 0,.slice none 0 0] 55));have av:W.heap.size=w.heap.size+1:=by rw[eW];simp
 have M:=I (show Blk W w.heap.size 55 #[.string ⟨#[]⟩,.string ⟨#[]⟩,.string ⟨#[]⟩,.string ⟨#[]⟩,.int .i64 0,.slice none 0 0,.slice none 0 0] by rw[eW];exact Blk.new _ _ _);have an:=Dk h;have HC:=I (show Cur W g c by rw[eW];exact h.alloc _);have HG:=I (show w.grownBy W (some g) by rw[eW];exact Cb (World.grownBy.refl _ _) _);have ad:=hs;obtain⟨s0,Y⟩:∃s,s=c:=⟨_,rfl⟩;rw[<-Y] at HC ad;have aa:=I an;have O:=I (show w.heap.size<W.heap.size by omega);have ae:(((prQ s0).2).getD []).length<=100000:=Cm 48 ad;have T1:=I (fun g w h=>Cs g s0 w h ad);obtain⟨v1,ai⟩:∃x:Pr,x=(prQ s0).1:=⟨_,rfl⟩;obtain⟨s1,es1⟩:∃s,s=(prQ s0).2:=⟨_,rfl⟩;rw[<-ai,<-es1] at T1;rw[<-es1] at ae;have ag:(((tkQ s1).2).getD []).length<=100000:=Cm 97 ae;have T2:=I (fun g w h=>DR g s1 w h ae);obtain⟨v2,af⟩:∃x:Tk,x=(tkQ s1).1:=⟨_,rfl⟩;obtain⟨s2,Z⟩:∃s,s=(tkQ s1).2:=⟨_,rfl⟩;rw[<-af,<-Z] at T2;rw[<-Z] at ag;have ak:((AR 4 s2).getD []).length<=100000:=Cm 4 ag;have T3:=I (fun g w h=>DH g s2 w h (by omega));obtain⟨v3,ah⟩:∃x:L,x=ocC s2:=⟨_,rfl⟩;obtain⟨s3,ab⟩:∃s,s=AR 4 s2:=⟨_,rfl⟩;rw[<-ah,<-ab] at T3;rw[<-ab] at ak;have ar:=I (show(reQ c).1.c=v1 by rw[ai,Y];rfl);have au:=I (show(reQ c).1.t=v2 by rw[af,es1,Y];rfl);have ao:=I (show(reQ c).1.b=v3 by rw[ah,Z,es1,Y];rfl);have FS:=I (show(reQ c).2=s3 by rw[ab,Z,es1,Y];rfl);rw[ar.o,au.o,ao.o,FS.o];clear h hs ad ae ag ak ar ai es1 au af Z ao ah ab Y FS an;have ax:=I av;clear av;subst eW;go_enter Tryz.func95,Tryz.ntmps95
 go_wp2_with (first
  |(go_at_call 134;(with_reducible refine Calls.mono (T1.o _ _ HC.o) ?_);rintro e w1 ⟨rfl,hd,X⟩;clear T1;replace HC:=I hd;replace M:=I (M.o.grown X (by intro e;injection e with e;have:=aa.o;omega));replace HG:=I (CH HG.o X);replace O:=I (Nat.lt_of_lt_of_le O.o X.size);clear hd X)
  |(go_at_call 136;(with_reducible refine Calls.mono (T2.o _ _ HC.o) ?_);rintro e w2 ⟨y,rfl,ho,hd,X⟩;clear T2;replace ho:=ho.less (show w.heap.size+1<=_ from O.o);obtain⟨b2,c2,rfl,x1,x2,x3,x4⟩:=ho;have aj:Hid (OwnB w2 (w.heap.size+1) (.slice (some ⟨b2,0,none⟩) _ c2) _):=I ⟨b2,c2,rfl,x1,x2,x3,x4⟩;clear x1 x2 x3 x4;replace HC:=I hd;replace M:=I (M.o.grown X (by intro e;injection e with e;have:=aa.o;omega));replace HG:=I (CH HG.o X);replace O:=I (Nat.lt_of_lt_of_le O.o X.size);clear hd X)
  |(go_at_call 137;(with_reducible refine Calls.mono (T3.o _ _ HC.o) ?_);rintro e w3 ⟨⟨y,rfl,ho⟩,hd,X⟩;clear T3;replace ho:=ho.less (show w.heap.size+1<=_ from O.o);obtain⟨b3,c3,rfl,x1,x2,x3,x4⟩:=ho;have aw:Hid (OwnB w3 (w.heap.size+1) (.slice (some ⟨b3,0,none⟩) _ c3) _):=I ⟨b3,c3,rfl,x1,x2,x3,x4⟩;clear x1 x2 x3 x4;replace HC:=I hd;replace aj:=I (aj.o.keep X (by have:=aa.o;omega));replace M:=I (M.o.grown X (by intro e;injection e with e;have:=aa.o;omega));replace HG:=I (CH HG.o X);replace O:=I (Nat.lt_of_lt_of_le O.o X.size);clear hd X;have n0:=M.c0;have y0:=M.o.frozen 0;have n1:=M.c1;have y1:=M.o.frozen 1;have n2:=M.c2;have y2:=M.o.frozen 2;have n3:=M.c3;have y3:=M.o.frozen 3;have n4:=M.c4;have y4:=M.o.frozen 4;have n5:=M.c5;have y5:=M.o.frozen 5;have n6:=M.c6;have y6:=M.o.frozen 6)
  |fail)
 have hE:Blk (((((((w3.setCell ⟨w.heap.size,0,none⟩ (.string ⟨v1.1.toArray⟩)).setCell ⟨w.heap.size,1,none⟩ (.string ⟨v1.2.toArray⟩)).setCell ⟨w.heap.size,2,none⟩ (.string ⟨v2.s.1.toArray⟩)).setCell ⟨w.heap.size,3,none⟩ (.string ⟨v2.s.2.toArray⟩)).setCell ⟨w.heap.size,4,none⟩ (.int .i64 v2.k)).setCell ⟨w.heap.size,5,none⟩ (.slice (some ⟨b2,0,none⟩) v2.b.length c2)).setCell ⟨w.heap.size,6,none⟩ (.slice (some ⟨b3,0,none⟩) v3.length c3)) w.heap.size 55 #[.string ⟨v1.1.toArray⟩,.string ⟨v1.2.toArray⟩,.string ⟨v2.s.1.toArray⟩,.string ⟨v2.s.2.toArray⟩,.int .i64 v2.k,.slice (some ⟨b2,0,none⟩) v2.b.length c2,.slice (some ⟨b3,0,none⟩) v3.length c3]:=(((((((M.o.set 0 (.string ⟨v1.1.toArray⟩)).set 1 (.string ⟨v1.2.toArray⟩)).set 2 (.string ⟨v2.s.1.toArray⟩)).set 3 (.string ⟨v2.s.2.toArray⟩)).set 4 (.int .i64 v2.k)).set 5 (.slice (some ⟨b2,0,none⟩) v2.b.length c2)).set 6 (.slice (some ⟨b3,0,none⟩) v3.length c3));have hp:=(Ar (Ar (Ar (Ar (Ar (Ar (Ar (World.grownBy.refl w3 (some w.heap.size)) (p:=⟨w.heap.size,0,none⟩) (.inl rfl) (.string ⟨v1.1.toArray⟩)) (p:=⟨w.heap.size,1,none⟩) (.inl rfl) (.string ⟨v1.2.toArray⟩)) (p:=⟨w.heap.size,2,none⟩) (.inl rfl) (.string ⟨v2.s.1.toArray⟩)) (p:=⟨w.heap.size,3,none⟩) (.inl rfl) (.string ⟨v2.s.2.toArray⟩)) (p:=⟨w.heap.size,4,none⟩) (.inl rfl) (.int .i64 v2.k)) (p:=⟨w.heap.size,5,none⟩) (.inl rfl) (.slice (some ⟨b2,0,none⟩) v2.b.length c2)) (p:=⟨w.heap.size,6,none⟩) (.inl rfl) (.slice (some ⟨b3,0,none⟩) v3.length c3));have hq:=Ao (P:=Tryz.prog) hE Tryz.underlying55 rfl (by kernel_rfl);refine bodyPost_ret (v:=.agg #[.string ⟨v1.1.toArray⟩,.string ⟨v1.2.toArray⟩,.string ⟨v2.s.1.toArray⟩,.string ⟨v2.s.2.toArray⟩,.int .i64 v2.k,.slice (some ⟨b2,0,none⟩) v2.b.length c2,.slice (some ⟨b3,0,none⟩) v3.length c3]) ?_ ?_ ?_
 ·exact Al 2 55 ⟨w.heap.size,0,none⟩ Tryz.results95 rfl hq
 ·rfl
 exact⟨_,_,rfl,(aj.o.keep hp (by omega)).less (by omega),(aw.o.keep hp (by omega)).less (by omega),Dd HC.o hp (by have:=aa.o;omega),DJ HG.o hp Af⟩
theorem OJ (g:Nat) (c:Option L) (w:World) (h:Cur w g c) (hs:(c.getD []).length<=100000):Calls Tryz.prog 96 #[.pointer (some ⟨g,0,none⟩)] w fun e w'=>∃z1,∃z2,e=.returned (.agg #[.string ⟨(apQ c).1.t.s.1.toArray⟩,.string ⟨(apQ c).1.t.s.2.toArray⟩,.int .i64 (apQ c).1.t.k,z1,z2])/\OwnB w' w.heap.size z1 (apQ c).1.t.b/\OwnB w' w.heap.size z2 (apQ c).1.a/\Cur w' g (apQ c).2/\w.grownBy w' (some g):=by
 obtain⟨W,eW⟩:=Aj (w.alloc (.cells #[.string ⟨#[]⟩,.string ⟨#[]⟩,.int .i64 0,.slice none 0 0,.slice none 0 0] 57));have an:W.heap.size=w.heap.size+1:=by rw[eW];simp
 have M:=I (show Blk W w.heap.size 57 #[.string ⟨#[]⟩,.string ⟨#[]⟩,.int .i64 0,.slice none 0 0,.slice none 0 0] by rw[eW];exact Blk.new _ _ _);have ah:=Dk h;have HC:=I (show Cur W g c by rw[eW];exact h.alloc _);have HG:=I (show w.grownBy W (some g) by rw[eW];exact Cb (World.grownBy.refl _ _) _);have ab:=hs;obtain⟨s0,X⟩:∃s,s=c:=⟨_,rfl⟩;rw[<-X] at HC ab;have aa:=I ah;have O:=I (show w.heap.size<W.heap.size by omega);have ag:(((tkQ s0).2).getD []).length<=100000:=Cm 97 ab;have T1:=I (fun g w h=>DR g s0 w h ab);obtain⟨v1,ae⟩:∃x:Tk,x=(tkQ s0).1:=⟨_,rfl⟩;obtain⟨s1,es1⟩:∃s,s=(tkQ s0).2:=⟨_,rfl⟩;rw[<-ae,<-es1] at T1;rw[<-es1] at ag;have ai:((AR 4 s1).getD []).length<=100000:=Cm 4 ag;have T2:=I (fun g w h=>DH g s1 w h (by omega));obtain⟨v2,ad⟩:∃x:L,x=ocC s1:=⟨_,rfl⟩;obtain⟨s2,Z⟩:∃s,s=AR 4 s1:=⟨_,rfl⟩;rw[<-ad,<-Z] at T2;rw[<-Z] at ai;have aj:=I (show(apQ c).1.t=v1 by rw[ae,X];rfl);have ak:=I (show(apQ c).1.a=v2 by rw[ad,es1,X];rfl);have FS:=I (show(apQ c).2=s2 by rw[Z,es1,X];rfl);rw[aj.o,ak.o,FS.o];clear h hs ab ag ai aj ae es1 ak ad Z X FS ah;have ar:=I an;clear an;subst eW;go_enter Tryz.func96,Tryz.ntmps96
 go_wp2_with (first
  |(go_at_call 136;(with_reducible refine Calls.mono (T1.o _ _ HC.o) ?_);rintro e w1 ⟨y,rfl,ho,hd,Y⟩;clear T1;replace ho:=ho.less (show w.heap.size+1<=_ from O.o);obtain⟨b1,c1,rfl,x1,x2,x3,x4⟩:=ho;have af:Hid (OwnB w1 (w.heap.size+1) (.slice (some ⟨b1,0,none⟩) _ c1) _):=I ⟨b1,c1,rfl,x1,x2,x3,x4⟩;clear x1 x2 x3 x4;replace HC:=I hd;replace M:=I (M.o.grown Y (by intro e;injection e with e;have:=aa.o;omega));replace HG:=I (CH HG.o Y);replace O:=I (Nat.lt_of_lt_of_le O.o Y.size);clear hd Y)
  |(go_at_call 137;(with_reducible refine Calls.mono (T2.o _ _ HC.o) ?_);rintro e w2 ⟨⟨y,rfl,ho⟩,hd,Y⟩;clear T2;replace ho:=ho.less (show w.heap.size+1<=_ from O.o);obtain⟨b2,c2,rfl,x1,x2,x3,x4⟩:=ho;have ao:Hid (OwnB w2 (w.heap.size+1) (.slice (some ⟨b2,0,none⟩) _ c2) _):=I ⟨b2,c2,rfl,x1,x2,x3,x4⟩;clear x1 x2 x3 x4;replace HC:=I hd;replace af:=I (af.o.keep Y (by have:=aa.o;omega));replace M:=I (M.o.grown Y (by intro e;injection e with e;have:=aa.o;omega));replace HG:=I (CH HG.o Y);replace O:=I (Nat.lt_of_lt_of_le O.o Y.size);clear hd Y;have n0:=M.c0;have y0:=M.o.frozen 0;have n1:=M.c1;have y1:=M.o.frozen 1;have n2:=M.c2;have y2:=M.o.frozen 2;have n3:=M.c3;have y3:=M.o.frozen 3;have n4:=M.c4;have y4:=M.o.frozen 4)
  |fail)
 have hE:Blk (((((w2.setCell ⟨w.heap.size,0,none⟩ (.string ⟨v1.s.1.toArray⟩)).setCell ⟨w.heap.size,1,none⟩ (.string ⟨v1.s.2.toArray⟩)).setCell ⟨w.heap.size,2,none⟩ (.int .i64 v1.k)).setCell ⟨w.heap.size,3,none⟩ (.slice (some ⟨b1,0,none⟩) v1.b.length c1)).setCell ⟨w.heap.size,4,none⟩ (.slice (some ⟨b2,0,none⟩) v2.length c2)) w.heap.size 57 #[.string ⟨v1.s.1.toArray⟩,.string ⟨v1.s.2.toArray⟩,.int .i64 v1.k,.slice (some ⟨b1,0,none⟩) v1.b.length c1,.slice (some ⟨b2,0,none⟩) v2.length c2]:=(((((M.o.set 0 (.string ⟨v1.s.1.toArray⟩)).set 1 (.string ⟨v1.s.2.toArray⟩)).set 2 (.int .i64 v1.k)).set 3 (.slice (some ⟨b1,0,none⟩) v1.b.length c1)).set 4 (.slice (some ⟨b2,0,none⟩) v2.length c2));have hp:=(Ar (Ar (Ar (Ar (Ar (World.grownBy.refl w2 (some w.heap.size)) (p:=⟨w.heap.size,0,none⟩) (.inl rfl) (.string ⟨v1.s.1.toArray⟩)) (p:=⟨w.heap.size,1,none⟩) (.inl rfl) (.string ⟨v1.s.2.toArray⟩)) (p:=⟨w.heap.size,2,none⟩) (.inl rfl) (.int .i64 v1.k)) (p:=⟨w.heap.size,3,none⟩) (.inl rfl) (.slice (some ⟨b1,0,none⟩) v1.b.length c1)) (p:=⟨w.heap.size,4,none⟩) (.inl rfl) (.slice (some ⟨b2,0,none⟩) v2.length c2));have hq:=Ao (P:=Tryz.prog) hE Tryz.underlying57 rfl (by kernel_rfl);refine bodyPost_ret (v:=.agg #[.string ⟨v1.s.1.toArray⟩,.string ⟨v1.s.2.toArray⟩,.int .i64 v1.k,.slice (some ⟨b1,0,none⟩) v1.b.length c1,.slice (some ⟨b2,0,none⟩) v2.length c2]) ?_ ?_ ?_
 ·exact Al 2 57 ⟨w.heap.size,0,none⟩ Tryz.results96 rfl hq
 ·rfl
 exact⟨_,_,rfl,(af.o.keep hp (by omega)).less (by omega),(ao.o.keep hp (by omega)).less (by omega),Dd HC.o hp (by have:=aa.o;omega),DJ HG.o hp Af⟩
theorem OK (g:Nat) (c:Option L) (w:World) (h:Cur w g c) (hs:(c.getD []).length<=100000):Calls Tryz.prog 97 #[.pointer (some ⟨g,0,none⟩)] w fun e w'=>e=.returned (.agg #[.int .i64 (faQ c).1.e,.int .i64 (faQ c).1.no])/\Cur w' g (faQ c).2/\w.grownBy w' (some g):=by
 obtain⟨W,eW⟩:=Aj (w.alloc (.cells #[.int .i64 0,.int .i64 0] 59));have ak:W.heap.size=w.heap.size+1:=by rw[eW];simp
 have Y:=I (show Blk W w.heap.size 59 #[.int .i64 0,.int .i64 0] by rw[eW];exact Blk.new _ _ _);have ag:=Dk h;have HC:=I (show Cur W g c by rw[eW];exact h.alloc _);have HG:=I (show w.grownBy W (some g) by rw[eW];exact Cb (World.grownBy.refl _ _) _);have ae:=hs;obtain⟨s0,M⟩:∃s,s=c:=⟨_,rfl⟩;rw[<-M] at HC ae;have ad:=I ag;have X:=I (show w.heap.size<W.heap.size by omega);have af:(((intC s0).2).getD []).length<=100000:=DP ae;have T1:=I (fun g w h=>Bs g s0 w h (by omega));obtain⟨v1,ab⟩:∃x:Int,x=((intC s0).1:Int):=⟨_,rfl⟩;obtain⟨s1,es1⟩:∃s,s=(intC s0).2:=⟨_,rfl⟩;rw[<-ab,<-es1] at T1;rw[<-es1] at af;have ai:(((intC s1).2).getD []).length<=100000:=DP af;have T2:=I (fun g w h=>Bs g s1 w h (by omega));obtain⟨v2,aa⟩:∃x:Int,x=((intC s1).1:Int):=⟨_,rfl⟩;obtain⟨s2,O⟩:∃s,s=(intC s1).2:=⟨_,rfl⟩;rw[<-aa,<-O] at T2;rw[<-O] at ai;have ah:=I (show(faQ c).1.e=v1 by rw[ab,M];rfl);have aj:=I (show(faQ c).1.no=v2 by rw[aa,es1,M];rfl);have FS:=I (show(faQ c).2=s2 by rw[O,es1,M];rfl);rw[ah.o,aj.o,FS.o];clear h hs ae af ai ah ab es1 aj aa O M FS ag;have an:=I ak;clear ak;subst eW;go_enter Tryz.func97,Tryz.ntmps97
 go_wp2_with (first
  |(go_at_call 135;(with_reducible refine Calls.mono (T1.o _ _ HC.o) ?_);rintro e w1 ⟨rfl,hd,Z⟩;clear T1;replace HC:=I hd;replace Y:=I (Y.o.grown Z (by intro e;injection e with e;have:=ad.o;omega));replace HG:=I (CH HG.o Z);replace X:=I (Nat.lt_of_lt_of_le X.o Z.size);clear hd Z)
  |(go_at_call 135;(with_reducible refine Calls.mono (T2.o _ _ HC.o) ?_);rintro e w2 ⟨rfl,hd,Z⟩;clear T2;replace HC:=I hd;replace Y:=I (Y.o.grown Z (by intro e;injection e with e;have:=ad.o;omega));replace HG:=I (CH HG.o Z);replace X:=I (Nat.lt_of_lt_of_le X.o Z.size);clear hd Z;have n0:=Y.c0;have y0:=Y.o.frozen 0;have n1:=Y.c1;have y1:=Y.o.frozen 1)
  |fail)
 have hE:Blk ((w2.setCell ⟨w.heap.size,0,none⟩ (.int .i64 v1)).setCell ⟨w.heap.size,1,none⟩ (.int .i64 v2)) w.heap.size 59 #[.int .i64 v1,.int .i64 v2]:=((Y.o.set 0 (.int .i64 v1)).set 1 (.int .i64 v2));have hp:=(Ar (Ar (World.grownBy.refl w2 (some w.heap.size)) (p:=⟨w.heap.size,0,none⟩) (.inl rfl) (.int .i64 v1)) (p:=⟨w.heap.size,1,none⟩) (.inl rfl) (.int .i64 v2));have hq:=Ao (P:=Tryz.prog) hE Tryz.underlying59 rfl (by kernel_rfl);refine bodyPost_ret (v:=.agg #[.int .i64 v1,.int .i64 v2]) ?_ ?_ ?_
 ·exact Al 2 59 ⟨w.heap.size,0,none⟩ Tryz.results97 rfl hq
 ·rfl
 exact⟨rfl,Dd HC.o hp (by have:=ad.o;omega),DJ HG.o hp Af⟩
theorem Wg:(Tryz.prog.info? 5).map (·.size)=some 1:=by kernel_rfl
theorem TI:(Tryz.prog.info? 30).map (·.size)=some 32:=by kernel_rfl
theorem bvs_one' (l:L):(bvs l).toArray.all (·.oneCell')=true:=all_oneCell_toArray (BK l)
theorem ON {W:World} {K b c:Nat} {t:TypeId} {x:L} (h:Blk W K t (bvs key0).toArray) (X:∀i u,(bvs x)[i]? = some u->W.cell? ⟨b,i,none⟩=some u) :
  (Builtin.copy_ #[24,24] 3 #[.slice (some ⟨K,0,none⟩) 32 32,.slice (some ⟨b,0,none⟩) x.length c]).run Tryz.prog W=.ok (goInt (bvs (x.take 32)).length) (W.setCells K 0 (bvs (x.take 32))):=by
 refine run_copy_cells (P:=Tryz.prog) W 24 24 3 5 K 0 32 32 ⟨b,0,none⟩ x.length c (bvs (x.take 32)) Tryz.underlying24 Wg ?_ ?_ ?_ ?_ (BK _)
 ·rw[AB,List.length_take];exact Nat.min_comm _ _
 ·intro j v O
  rw[addr_add,Nat.zero_add];apply X;have M:j<(bvs (x.take 32)).length:=(List.getElem?_eq_some_iff.1 O).1;rw[AB,List.length_take] at M;rw[<-O];simp only[bvs,List.getElem?_map];rw[List.getElem?_take_of_lt (by omega)]
 ·intro j M
  rw[AB,List.length_take] at M;exact(Am h 32 (by simp [AB,key0]) j (by omega)).1
 ·intro j M
  rw[AB,List.length_take] at M;exact(Am h 32 (by simp [AB,key0]) j (by omega)).2
theorem Mk (g:Nat) (c:Option L) (w:World) (h:Cur w g c) (hs:(c.getD []).length<=100000):Calls Tryz.prog 154 #[.pointer (some ⟨g,0,none⟩)] w fun e w'=>e=.returned (.agg (bvs (keQ c).1).toArray)/\Cur w' g (keQ c).2/\w.grownBy w' (some g):=by
 have ez:(bvs key0).toArray=#[.int .u8 0,.int .u8 0,.int .u8 0,.int .u8 0,.int .u8 0,.int .u8 0,.int .u8 0,.int .u8 0,.int .u8 0,.int .u8 0,.int .u8 0,.int .u8 0,.int .u8 0,.int .u8 0,.int .u8 0,.int .u8 0,.int .u8 0,.int .u8 0,.int .u8 0,.int .u8 0,.int .u8 0,.int .u8 0,.int .u8 0,.int .u8 0,.int .u8 0,.int .u8 0,.int .u8 0,.int .u8 0,.int .u8 0,.int .u8 0,.int .u8 0,.int .u8 0]:=by rfl
 have T1:=I (fun w1 (h:Cur w1 g c)=>DH g c w1 h (by omega));have E1:=I (show(keQ c).1=(ocC c++key0).take 32 from rfl);have E2:=I (show(keQ c).2=AR 4 c from rfl);rw[E1.o,E2.o];obtain⟨x,ex⟩:=Aj (ocC c);obtain⟨r,er⟩:=Aj (AR 4 c);rw[<-ex,<-er] at T1⊢;go_enter Tryz.func154,Tryz.ntmps154
 go_upto_region 2 with fail
 rw[<-ez];obtain⟨W,eW⟩:=Aj ((w.alloc (.cells (bvs key0).toArray 30)).alloc (.cells (bvs key0).toArray 30));have hq:=Blk.new (w.alloc (.cells (bvs key0).toArray 30)) 30 (bvs key0).toArray;rw[show(w.alloc (.cells (bvs key0).toArray 30)).heap.size=w.heap.size+1 by simp,<-eW] at hq;have Z:=I (show Blk W w.heap.size 30 (bvs key0).toArray by rw[eW];exact(Blk.new _ _ _).alloc _);have HC:=I (show Cur W g c by rw[eW];exact(h.alloc _).alloc _);have HG:=I (show w.grownBy W (some g) by rw[eW];exact Cb (Cb (World.grownBy.refl _ _) _) _);have X:=I (Dk h);have O:=I hq;rw[<-eW];clear eW ez hq h hs E1 E2 ex er;replace Z:=I (show Blk W.drew _ _ _ from Z.o.drewN 1);replace O:=I (show Blk W.drew _ _ _ from O.o.drewN 1);replace HC:=I (show Cur W.drew g c from Blk.drewN HC.o 1);replace HG:=I (show w.grownBy W.drew (some g) from Fe HG.o 1)
 go_region_held3 (fun w'=>True) (trivial) ((go_at_call 137;refine Calls.mono (T1.o _ HC.o) ?_;rintro e w1 ⟨⟨v,rfl,ho⟩,hd,hg⟩;obtain⟨b,cp,rfl,x1,x2,x3,x4⟩:=ho;clear T1;replace HC:=I hd;replace Z:=I (Z.o.grown hg (by intro e;injection e with e;have:=X.o;omega));replace O:=I (O.o.grown hg (by intro e;injection e with e;have:=X.o;omega));replace HG:=I (CH HG.o hg);have ab:=ON (c:=cp) O.o x4;clear hd hg x1 x2 x3 x4))
 have M:(bvs ((x++key0).take 32)).toArray.size=32:=by simp [AB,key0]
 have Y:=El (a:=w1) (.inl rfl:some (w.heap.size+1)=some (w.heap.size+1)\/_) (bvs (x.take 32)) 0 w1 (World.grownBy.refl _ _);replace O:=I (OG (x:=x) O.o);have HO:=I (bvs_one' ((x++key0).take 32));obtain⟨ks,aa⟩:=Aj ((bvs ((x++key0).take 32)).toArray);rw[<-aa] at O M HO;obtain⟨V,eV⟩:=Aj (w1.setCells (w.heap.size+1) 0 (bvs (x.take 32)));rw[<-eV] at O Y⊢;replace Z:=I (Z.o.grown Y (by intro e;injection e with e;omega));replace HC:=I (Dd HC.o Y (by have:=X.o;omega));replace HG:=I (DJ HG.o Y (by omega));have HI:=I (show(Tryz.prog.info? 30).map (·.size)=some ks.size by rw[M];exact TI);have HT:=I (Am Z.o ks.size (by rw[M];simp [AB,key0]));have EK:=I aa;have HS:=I M;clear ab eV Y aa M
 go_wp2_with (first
  |(refine Ad (by rfl) 30 (.tmp 3) (by rfl) (w.heap.size+1) 0 (by rfl) ks _ (Ac O.o) Tryz.underlying30 (by rfl) HI.o ?_)
  |(refine wpList_store_mid (by rfl) 30 (.tmp 2) (.tmp 8) (by rfl) w.heap.size 0 ks (by rfl) (by rfl) HT.o HI.o HO.o ?_)
  |fail)
 have hE:=AJ (ds:=ks) Z.o (by rw[HS.o];simp [AB,key0]);have Y:=AK V w.heap.size ks.toList;have hq:=Ao (P:=Tryz.prog) hE Tryz.underlying30 rfl HI.o;refine bodyPost_ret (v:=.agg ks) ?_ ?_ ?_
 ·exact Al 2 30 ⟨w.heap.size,0,none⟩ Tryz.results154 rfl hq
 ·rfl
 exact⟨by rw[EK.o],Dd HC.o Y (by have:=X.o;omega),DJ HG.o Y Af⟩
theorem Ax {P:Program} {ops:Array Oper} {rest:List Oper} {o:Oper} {a:Act} {w:World} {Q:Exit->Act->World->Prop} (X:o.guard=none) (t:TypeId) (parts:Array (Nat×Operand)) (O:o.op=.build t parts)
  (cells:Array Value) (M:P.built t (parts.map fun(i,x)=>(i,a.eval x)).toList=some cells) (h:wpList P ops Q rest (a.put o.dst (.agg cells)) w):wpList P ops Q (o :: rest) a w:=
 wpList_build X t parts O (by rw[M];rfl) (by rw[M];exact h)
theorem len32 {v:L} (h:v.length=32):∃k0 k1 k2 k3 k4 k5 k6 k7 k8 k9 aw ak M ag au ae k16 av ai Z ad aa ab af X ah Y an ar aj O ao:UInt8,v = [k0,k1,k2,k3,k4,k5,k6,k7,k8,k9,aw,ak,M,ag,au,ae,k16,av,ai,Z,ad,aa,ab,af,X,ah,Y,an,ar,aj,O,ao]:=by
 rcases v with _ | ⟨k0,v⟩
 ·simp at h
 rcases v with _ | ⟨k1,v⟩
 ·simp at h
 rcases v with _ | ⟨k2,v⟩
 ·simp at h
 rcases v with _ | ⟨k3,v⟩
 ·simp at h
 rcases v with _ | ⟨k4,v⟩
 ·simp at h
 rcases v with _ | ⟨k5,v⟩
 ·simp at h
 rcases v with _ | ⟨k6,v⟩
 ·simp at h
 rcases v with _ | ⟨k7,v⟩
 ·simp at h
 rcases v with _ | ⟨k8,v⟩
 ·simp at h
 rcases v with _ | ⟨k9,v⟩
 ·simp at h
 rcases v with _ | ⟨aw,v⟩
 ·simp at h
 rcases v with _ | ⟨ak,v⟩
 ·simp at h
 rcases v with _ | ⟨M,v⟩
 ·simp at h
 rcases v with _ | ⟨ag,v⟩
 ·simp at h
 rcases v with _ | ⟨au,v⟩
 ·simp at h
 rcases v with _ | ⟨ae,v⟩
 ·simp at h
 rcases v with _ | ⟨k16,v⟩
 ·simp at h
 rcases v with _ | ⟨av,v⟩
 ·simp at h
 rcases v with _ | ⟨ai,v⟩
 ·simp at h
 rcases v with _ | ⟨Z,v⟩
 ·simp at h
 rcases v with _ | ⟨ad,v⟩
 ·simp at h
 rcases v with _ | ⟨aa,v⟩
 ·simp at h
 rcases v with _ | ⟨ab,v⟩
 ·simp at h
 rcases v with _ | ⟨af,v⟩
 ·simp at h
 rcases v with _ | ⟨X,v⟩
 ·simp at h
 rcases v with _ | ⟨ah,v⟩
 ·simp at h
 rcases v with _ | ⟨Y,v⟩
 ·simp at h
 rcases v with _ | ⟨an,v⟩
 ·simp at h
 rcases v with _ | ⟨ar,v⟩
 ·simp at h
 rcases v with _ | ⟨aj,v⟩
 ·simp at h
 rcases v with _ | ⟨O,v⟩
 ·simp at h
 rcases v with _ | ⟨ao,v⟩
 ·simp at h
 rcases v with _ | ⟨x,v⟩
 ·exact⟨k0,k1,k2,k3,k4,k5,k6,k7,k8,k9,aw,ak,M,ag,au,ae,k16,av,ai,Z,ad,aa,ab,af,X,ah,Y,an,ar,aj,O,ao,rfl⟩
 ·simp at h
theorem Ri (k:L) (s:Pr) (st en no:Int) (hk:k.length=32):Tryz.prog.built 104 [(0,.agg (bvs k).toArray),(1,.agg #[.string ⟨s.1.toArray⟩,.string ⟨s.2.toArray⟩]),(2,.int .i64 st),(3,.int .i64 en),(4,.int .i64 no)]=some (rpC ⟨k,s,st,en,no⟩).toArray:=by
 obtain⟨k0,k1,k2,k3,k4,k5,k6,k7,k8,k9,aw,ak,M,ag,au,ae,k16,av,ai,Z,ad,aa,ab,af,X,ah,Y,an,ar,aj,O,ao,rfl⟩:=len32 hk
 kernel_rfl
theorem Ke (k:L) (s:Pr) (st en no:Int):(rpC ⟨k,s,st,en,no⟩).toArray.all (·.oneCell')=true:=all_oneCell_toArray fun v M=>by
 simp only[rpC,prC,List.mem_append,List.mem_cons,List.not_mem_nil,or_false] at M;rcases M with M | (rfl | rfl) | rfl | rfl | rfl
 ·exact BK _ v M
 ·rfl
 ·rfl
 ·rfl
 ·rfl
 ·rfl
theorem OO (A:Option Addr) (b:L) (cap:Nat) (w:World) (h:Rd w w.heap.size A (bvs b)) (hs:b.length<=100000):Calls Tryz.prog 106 #[.slice A b.length cap] w fun e w'=>e=.returned (.agg (rpC (rpQ b).1).toArray)/\Below w.heap.size w w':=by
 obtain⟨zz,ak⟩:∃z:Array Value,z=#[.int .u8 0,.int .u8 0,.int .u8 0,.int .u8 0,.int .u8 0,.int .u8 0,.int .u8 0,.int .u8 0,.int .u8 0,.int .u8 0,.int .u8 0,.int .u8 0,.int .u8 0,.int .u8 0,.int .u8 0,.int .u8 0,.int .u8 0,.int .u8 0,.int .u8 0,.int .u8 0,.int .u8 0,.int .u8 0,.int .u8 0,.int .u8 0,.int .u8 0,.int .u8 0,.int .u8 0,.int .u8 0,.int .u8 0,.int .u8 0,.int .u8 0,.int .u8 0,.string ⟨#[]⟩,.string ⟨#[]⟩,.int .i64 0,.int .i64 0,.int .i64 0]:=⟨_,rfl⟩;have aD:=I (show zz.size=37 by rw[ak];simp);obtain⟨W,eW⟩:=Aj (w.alloc (.cells zz 104));have aJ:W.heap.size=w.heap.size+1:=by rw[eW];simp
 have Z:=I (show Blk W w.heap.size 104 zz by rw[eW];exact Blk.new _ _ _);have HG:=I (show Below w.heap.size w W by rw[eW];exact Ag.alloc Af _);have c0:=Nc w.heap.size A b b.length cap W (by rw[eW];exact h.alloc Af _) rfl;have c1:=I (fun g w h=>Ii 122 g (some b) w h (by show((b.length:Int))<=100000;omega));have ah:((Az 122 (some b)).getD []).length<=100000:=Ev 122 (show((some b:Option L).getD []).length<=100000 from hs);obtain⟨s0,ao⟩:∃s,s=Az 122 (some b):=⟨_,rfl⟩;rw[<-ao] at c1 ah;have aj:(((keQ s0).2).getD []).length<=100000:=Cm 4 ah;have T1:=I (fun g w h=>Mk g s0 w h ah);have hk:=Rc s0;obtain⟨v1,ag⟩:∃x:L,x=(keQ s0).1:=⟨_,rfl⟩;obtain⟨s1,es1⟩:∃s,s=(keQ s0).2:=⟨_,rfl⟩;rw[<-ag,<-es1] at T1;rw[<-ag] at hk;rw[<-es1] at aj;have av:(((prQ s1).2).getD []).length<=100000:=Cm 48 aj;have T2:=I (fun g w h=>Cs g s1 w h aj);obtain⟨v2,au⟩:∃x:Pr,x=(prQ s1).1:=⟨_,rfl⟩;obtain⟨s2,ad⟩:∃s,s=(prQ s1).2:=⟨_,rfl⟩;rw[<-au,<-ad] at T2;rw[<-ad] at av;have ar:(((intC s2).2).getD []).length<=100000:=DP av;have T3:=I (fun g w h=>Bs g s2 w h (by omega));obtain⟨v3,ax⟩:∃x:Int,x=((intC s2).1:Int):=⟨_,rfl⟩;obtain⟨s3,ab⟩:∃s,s=(intC s2).2:=⟨_,rfl⟩;rw[<-ax,<-ab] at T3;rw[<-ab] at ar;have aA:(((intC s3).2).getD []).length<=100000:=DP ar;have T4:=I (fun g w h=>Bs g s3 w h (by omega));obtain⟨v4,aC⟩:∃x:Int,x=((intC s3).1:Int):=⟨_,rfl⟩;obtain⟨s4,af⟩:∃s,s=(intC s3).2:=⟨_,rfl⟩;rw[<-aC,<-af] at T4;rw[<-af] at aA;have aI:(((intC s4).2).getD []).length<=100000:=DP aA;have T5:=I (fun g w h=>Bs g s4 w h (by omega));obtain⟨v5,aw⟩:∃x:Int,x=((intC s4).1:Int):=⟨_,rfl⟩;obtain⟨s5,ay⟩:∃s,s=(intC s4).2:=⟨_,rfl⟩;rw[<-aw,<-ay] at T5;rw[<-ay] at aI;have FV:(rpQ b).1=⟨v1,v2,v3,v4,v5⟩:=by rw[ag,au,ax,aC,aw,af,ab,ad,es1,ao];rfl
 rw[FV];have ae:=Ri v1 v2 v3 v4 v5 hk;have ai:(rpC ⟨v1,v2,v3,v4,v5⟩).toArray.size=37:=Fv hk;have aa:(rpC ⟨v1,v2,v3,v4,v5⟩).toArray.all (·.oneCell')=true:=Ke v1 v2 v3 v4 v5;obtain⟨ks,aF⟩:=Aj ((bvs v1).toArray);rw[<-aF] at ae T1;obtain⟨cs,aE⟩:=Aj ((rpC ⟨v1,v2,v3,v4,v5⟩).toArray);rw[<-aE] at ae ai aa⊢;have aM:=I ae;have aH:=I ai;have HO:=I aa;have HI:=I (show(Tryz.prog.info? 104).map (·.size)=some cs.size by rw[ai];kernel_rfl);clear h hs hk ae ai aa aF aE FV ao ah aj av ar aA aI ag es1 au ad ax ab aC af aw ay;have an:=I aJ;clear aJ;go_enter Tryz.func106,Tryz.ntmps106
 go_upto_region 1 with fail
 rw[<-ak,<-eW];clear ak eW
 go_wp2_with (first
  |(go_at_call 91;refine Calls.mono c0 ?_;rintro e wo ⟨go,rfl,aK,aG,hb⟩;clear c0;have HC:=I aG;have aB:=I (show w.heap.size+1<=go by have:=an.o;omega);replace Z:=I (Z.o.below hb);replace HG:=I (Jg HG.o (by have:=an.o;omega) hb);have az:=I (show w.heap.size+1<=wo.heap.size by have:=hb.size;have:=an.o;omega);clear aK aG hb)
  |(go_at_call 92;refine Calls.mono (c1.o _ _ HC.o) ?_;rintro e wi ⟨⟨gd,rfl,aL,Y⟩,hc,X⟩;clear c1 HC;have HD:=I Y;have M:=I (show w.heap.size+1<=gd by have:=az.o;omega);have O:=I (Dk Y);replace Z:=I (Z.o.grown X (by intro e;injection e with e;have:=aB.o;omega));replace HG:=I (Ak HG.o X (by have:=az.o;omega) (by have:=aB.o;omega));clear aL Y hc X az aB)
  |(go_at_call 154;(with_reducible refine Calls.mono (T1.o _ _ HD.o) ?_);rintro e w1 ⟨rfl,Y,X⟩;clear T1;replace HD:=I Y;replace Z:=I (Z.o.grown X (by intro e;injection e with e;have:=M.o;omega));replace HG:=I (Ak HG.o X (by have:=M.o;have:=O.o;omega) (by have:=M.o;omega));replace O:=I (Nat.lt_of_lt_of_le O.o X.size);clear Y X)
  |(go_at_call 134;(with_reducible refine Calls.mono (T2.o _ _ HD.o) ?_);rintro e w2 ⟨rfl,Y,X⟩;clear T2;replace HD:=I Y;replace Z:=I (Z.o.grown X (by intro e;injection e with e;have:=M.o;omega));replace HG:=I (Ak HG.o X (by have:=M.o;have:=O.o;omega) (by have:=M.o;omega));replace O:=I (Nat.lt_of_lt_of_le O.o X.size);clear Y X)
  |(go_at_call 135;(with_reducible refine Calls.mono (T3.o _ _ HD.o) ?_);rintro e w3 ⟨rfl,Y,X⟩;clear T3;replace HD:=I Y;replace Z:=I (Z.o.grown X (by intro e;injection e with e;have:=M.o;omega));replace HG:=I (Ak HG.o X (by have:=M.o;have:=O.o;omega) (by have:=M.o;omega));replace O:=I (Nat.lt_of_lt_of_le O.o X.size);clear Y X)
  |(go_at_call 135;(with_reducible refine Calls.mono (T4.o _ _ HD.o) ?_);rintro e w4 ⟨rfl,Y,X⟩;clear T4;replace HD:=I Y;replace Z:=I (Z.o.grown X (by intro e;injection e with e;have:=M.o;omega));replace HG:=I (Ak HG.o X (by have:=M.o;have:=O.o;omega) (by have:=M.o;omega));replace O:=I (Nat.lt_of_lt_of_le O.o X.size);clear Y X)
  |(go_at_call 135;(with_reducible refine Calls.mono (T5.o _ _ HD.o) ?_);rintro e w5 ⟨rfl,Y,X⟩;clear T5;replace HD:=I Y;replace Z:=I (Z.o.grown X (by intro e;injection e with e;have:=M.o;omega));replace HG:=I (Ak HG.o X (by have:=M.o;have:=O.o;omega) (by have:=M.o;omega));replace O:=I (Nat.lt_of_lt_of_le O.o X.size);clear Y X)
  |(refine Ax (by rfl) 104 #[(0,.tmp 8),(1,.tmp 10),(2,.tmp 12),(3,.tmp 14),(4,.tmp 16)] (by rfl) cs (by simp only[List.map_toArray,List.map_cons,List.map_nil];exact aM.o) ?_)
  |(refine wpList_store_mid (by rfl) 104 (.tmp 2) (.tmp 17) (by rfl) w.heap.size 0 cs (by rfl) (by rfl) (Am Z.o _ (by have:=aD.o;have:=aH.o;omega)) HI.o HO.o ?_)
  |fail)
 have hE:=AJ (ds:=cs) Z.o (by have:=aD.o;have:=aH.o;omega);have hp:=AK w5 w.heap.size cs.toList;have hq:=Ao (P:=Tryz.prog) hE Tryz.underlying104 rfl HI.o;refine bodyPost_ret (v:=.agg cs) ?_ ?_ ?_
 ·exact Al 2 104 ⟨w.heap.size,0,none⟩ Tryz.results106 rfl hq
 ·rfl
 exact⟨rfl,Ak HG.o hp (by have:=Z.o.lt;omega) Af⟩
end Mc
end Go.Proofs.YtlccngianpfalaaGreat
