import Derived.Test.YthkdjblnmkkcfaaGreatZAcceptorOnce17
set_option maxHeartbeats 25600000
set_option maxRecDepth 100000
set_option linter.unusedVariables false
set_option linter.unusedSimpArgs false
namespace Go.Proofs.YthkdjblnmkkcfaaGreat
namespace Ac
open Go.RowKit Af Se Kd
open Nm (L Own)
open Rg (It Ent Ring RO its)
open Ms (An Pt Tk Ap Mg tmB inB ptB anB ptD anD mgD prC)
open SeL (BJ)
open Rp (seeE seeL Tm)
theorem Ru (n:Int) (w:World):Calls Tryz.prog 43 #[.int .i64 n] w fun e w'=>e=.returned (.bool (tmB n))/\w=w':=by
 by_cases h1:0<=n
 ·by_cases h2:n<=1073741824
  ·have M:decide ((0:Int)<=n)=true:=decide_eq_true h1
   have O:decide (n<=1073741824)=true:=decide_eq_true h2;have E:=I (show tmB n=true by simp [tmB,inB,h1,h2]);rw[E.o];clear h1 h2;go_enter Tryz.func43,Tryz.ntmps43
   go_wp2
   go_ret;exact⟨rfl,rfl⟩
  ·have M:decide ((0:Int)<=n)=true:=decide_eq_true h1
   have O:decide (n<=1073741824)=false:=decide_eq_false h2;have E:=I (show tmB n=false by simp [tmB,inB,h1,h2]);rw[E.o];clear h1 h2;go_enter Tryz.func43,Tryz.ntmps43
   go_wp2
   go_ret;exact⟨rfl,rfl⟩
 ·have M:decide ((0:Int)<=n)=false:=decide_eq_false h1
  have E:=I (show tmB n=false by simp [tmB,inB,h1]);rw[E.o];clear h1;go_enter Tryz.func43,Tryz.ntmps43
  go_wp2
  go_ret;exact⟨rfl,rfl⟩
theorem XI {b:L} {P:Pt} (h:ptD b=some P):P.ss.length=32/\ptB P=true:=by
 have M:P.ss.length=32:=by have:=Mc.OW b;unfold Mc.ptG at this;rw[h] at this;exact this
 exact⟨M,(Ms.BR.1 (Ms.Zn h).1).1⟩
theorem Nl (l:List It) (t:Tk) (now:Int):(shwL l t now).2.ss.length=32/\((shwL l t now).1=0->ptB (shwL l t now).2=true):=by
 unfold shwL
 split
 ·exact⟨rfl,fun h=>absurd h (by decide)⟩
 ·split
  ·split
   ·exact⟨rfl,fun h=>absurd h (by decide)⟩
   ·rename_i P hP
    obtain⟨M,O⟩:=XI hP
    split
    ·exact⟨rfl,fun h=>absurd h (by decide)⟩
    ·split
     ·exact⟨rfl,fun h=>absurd h (by decide)⟩
     ·exact⟨M,fun _=>O⟩
  ·exact⟨rfl,fun h=>absurd h (by decide)⟩
theorem Vg (ss a:L) (u:Int) (c:Ms.Pr):(athL ss a u c).1=0->anB (athL ss a u c).2=true:=by
 unfold athL
 split
 ·split
  ·exact fun h=>absurd h (by decide)
  ·rename_i x hx
   split
   ·exact fun _=>(Ms.BR.1 (Ms.SR.1 hx)).1
   ·exact fun h=>absurd h (by decide)
 ·exact fun h=>absurd h (by decide)
abbrev acA (x:Acc) (v:Value):Array Value:=(prC x.c++(prC x.s++(bvs x.ss++([v,.int .i64 x.t,.int .i64 x.q]:List Value)))).toArray
theorem Hm {x:Acc} (h:x.ss.length=32) (v:Value):(acA x v).size=39:=by simp [prC,bvs,h]
theorem JU (x:Acc) {v:Value} (M:v.oneCell'=true):(acA x v).all (·.oneCell')=true:=LA fun u hu=>by
 simp only[List.mem_append] at hu;rcases hu with hu | hu | hu | hu
 ·exact Ur _ u hu
 ·exact Ur _ u hu
 ·exact BA _ u hu
 ·simp only[List.mem_cons,List.mem_nil_iff,or_false] at hu
  rcases hu with rfl | rfl | rfl
  ·exact M
  ·rfl
  ·rfl
theorem Yz:acA acc0 (.slice none 0 0)=#[.string ⟨#[]⟩,.string ⟨#[]⟩,.string ⟨#[]⟩,.string ⟨#[]⟩,.int .u8 0,.int .u8 0,.int .u8 0,.int .u8 0,.int .u8 0,.int .u8 0,.int .u8 0,.int .u8 0,.int .u8 0,.int .u8 0,.int .u8 0,.int .u8 0,.int .u8 0,.int .u8 0,.int .u8 0,.int .u8 0,.int .u8 0,.int .u8 0,.int .u8 0,.int .u8 0,.int .u8 0,.int .u8 0,.int .u8 0,.int .u8 0,.int .u8 0,.int .u8 0,.int .u8 0,.int .u8 0,.int .u8 0,.int .u8 0,.int .u8 0,.int .u8 0,.slice none 0 0,.int .i64 0,.int .i64 0]:=rfl
theorem Nn:(Tryz.prog.info? 42).map (·.size)=some 39:=by kernel_rfl
theorem No:Tryz.prog.built 42 []=some (acA acc0 (.slice none 0 0)):=by kernel_rfl
theorem bk_ac (f:Nat->UInt8) (c s:Nm.L×Nm.L) (A:Option Addr) (n M:Nat) (t q:Int):Tryz.prog.built 42 [(0,Kd.prV c),(1,Kd.prV s),(2,.agg (Bk f)),(3,.slice A n M),(4,.int .i64 t),(5,.int .i64 q)]=some (prC c++(prC s++((Bk f).toList++([.slice A n M,.int .i64 t,.int .i64 q]:List Value)))).toArray:=by kernel_rfl
theorem XJ {ss:L} (h:ss.length=32) (c s:Nm.L×Nm.L) (A:Option Addr) (n M:Nat) (t q:Int) (tr:List L):Tryz.prog.built 42 [(0,Kd.prV c),(1,Kd.prV s),(2,.agg (keyA ss)),(3,.slice A n M),(4,.int .i64 t),(5,.int .i64 q)]=some (acA ⟨c,s,ss,tr,t,q⟩ (.slice A n M)):=by
 have e:keyA ss=Bk (ksOf ss):=(OH h).symm;rw[e,bk_ac];show some (prC c++(prC s++((Bk (ksOf ss)).toList++_))).toArray=some (prC c++(prC s++(bvs ss++_))).toArray;rw[<-e]
section
variable {w0 w w':World} {B N:Nat} {p:SP} {es0 es es':List Ent} {u0 u u':Value} {on on':Bool} {st st':Int} {l l':List An} {n m c n' m' c':Nat} {v:Value} {b:L}
def SlH (N:Nat) (p:SP) (es:List Ent) (u:Value) (w:World) (v:Value) (b:L):Prop:=N<=w.heap.size/\SlN (fun j=>AO p es u j\/N<=j) w v b
theorem SlH.of (h:SlN (AO p es u) w v b):SlH w.heap.size p es u w v b:=⟨Nat.le_refl _,h.mono fun j M x=>x.elim id (fun y=>by omega)⟩
theorem SlH.below (h:SlH N p es u w v b) (M:Below w.heap.size w w'):SlH N p es u w' v b:=⟨Nat.le_trans h.1 M.size,h.2.below M⟩
theorem SlH.kn (h:SlH N p es u w v b) (hk:Av w w' B p es u es' u' on st l n m c):SlH N p es' u' w' v b:=
 ⟨Nat.le_trans h.1 hk.size,h.2.keep hk.chg (fun _ _ x=>.inl x) (fun j M x=>by
  rcases x with x | x
  ·rcases hk.nw j x with y | y
   ·exact .inl y
   ·omega
  ·exact .inr x)⟩
theorem SlH.over (h:SlH N p es u w v b) {g:Nat} (M:w.grownBy w' (some g)) (O:N<=g):SlH N p es u w' v b:=
 ⟨Nat.le_trans h.1 M.size,h.2.keep (Chg.of_grown M rfl) (fun j _ x=>.inr (by have x:g=j:=x;omega)) (fun _ _ x=>x)⟩
theorem SlH.rs (h:SlH N p es u w v b):SlN (RSO p.r p.v es none) w v b:=h.2.mono fun j _ x=>by
 rcases x with x | ⟨z,M,_⟩
 ·exact .inl (.inr (.inl x))
 ·cases M
theorem SlH.rsb (h:SlH N p es u w v b) {x:Nat} {ks:Nat->UInt8} (O:N<=x):SlN (RSO p.r p.v es (some ⟨x,ks,none,0,0,0⟩)) w v b:=h.2.mono fun j _ y=>by
 rcases y with y | ⟨z,M,y⟩
 ·exact .inl (.inr (.inl y))
 ·injection M with M
  subst M;rcases y with y | y
  ·exact .inr (by have y:j=x:=y;omega)
  ·cases y
theorem AD.rsb (h:AD w B p es u on st l n m c) {x:Nat} {ks:Nat->UInt8} (hx:Box w x ks none 0 0 0) (hn:¬AO p es u x) (hB:B<=x):RS w B p.r p.v es (some ⟨x,ks,none,0,0,0⟩) c:=by
 have Z:∀j,SO (some ⟨x,ks,none,0,0,0⟩) j->j=x:=fun j M=>by
  obtain⟨z,O,M⟩:=M;injection O with O;subst O;rcases M with M | M
  ·exact M
  ·cases M
 refine⟨h.ring,h.hB,fun z O=>?_,fun j M y=>hn ((Z j M)▸(.inr (.inl y))),fun j M=>by have:=Z j M;omega,h.cz⟩;injection O with O;subst O;exact⟨hx,Nat.zero_le _,Nat.zero_le _,Nat.zero_le _⟩
theorem Av.of_rsb (k:Av w0 w B p es0 u0 es u on st l n m c) {x:Nat} {ks:Nat->UInt8} {s':Option Ss} (hx:w0.heap.size<=x) (hn:¬AA p es u x) (g:Rn w w' B p.r p.v es (some ⟨x,ks,none,0,0,0⟩) es' s' c'):Av w0 w' B p es0 u0 es' u on st l n m c':=by
 have h:=k.st;have Z:∀j,RSO p.r p.v es (some ⟨x,ks,none,0,0,0⟩) j->RO p.r p.v es j\/j=x:=fun j M=>by
  rcases M with M | ⟨z,hz,M⟩
  ·exact .inl M
  ·injection hz with hz
   subst hz;rcases M with M | M
   ·exact .inr M
   ·cases M
 have aw:∀j,RO p.r p.v es' j->RO p.r p.v es j\/j=x\/w.heap.size<=j:=fun j M=>by
  rcases g.nw j (.inl M) with y | y
  ·exact(Z j y).imp id .inl
  ·exact .inr (.inr y)
 have av:∀j,RO p.r p.v es' j->j≠x->RO p.r p.v es j\/w.heap.size<=j:=fun j M e=>by
  rcases aw j M with y | y | y
  ·exact .inl y
  ·exact absurd y e
  ·exact .inr y
 have O:∀j,j<w.heap.size->¬RO p.r p.v es j->j≠x->¬RO p.r p.v es' j:=fun j hl bb e y=>by
  rcases av j y e with z | z
  ·exact bb z
  ·omega
 have ne:∀j,AA p es u j->j≠x:=fun j M e=>hn (e▸M)
 have off:∀j,AA p es u j->¬RO p.r p.v es j->¬RSO p.r p.v es (some ⟨x,ks,none,0,0,0⟩) j:=fun j M h2 y=>by
  rcases Z j y with z | z
  ·exact h2 z
  ·exact ne j M z
 have ha:AA p es u p.a:=.inl (.inl rfl);have hq:∀j,Rp.RO p.q u j->AA p es u j:=fun j M=>.inl (.inr (.inr M))
 refine⟨⟨g.chg.blk h.blk (off _ ha h.ar),g.st.k,h.rp.chg g.chg (fun j M=>off j (hq j M) (fun y=>h.rq j y M)),h.tp.chg g.chg (fun j M=>⟨h.aa_lt (.inr M),off j (.inr M) (fun y=>h.rt j y M)⟩),h.lo,h.tlo,Nat.le_trans h.hi g.chg.size,O _ h.blk.lt h.ar (ne _ ha),h.aq,h.at_,fun j M y=>O j (h.aa_lt (.inr y)) (fun z=>h.rt j z y) (ne j (.inr y)) M,h.qt,fun j M y=>O j (h.rp.own_lt y) (fun z=>h.rq j z y) (ne j (hq j y)) M,g.st.cz⟩,g.eq.trans k.eq,k.chg.trans g.chg (fun j M y=>?_),fun j M=>?_⟩
 ·rcases Z j y with z | z
  ·rcases k.nw j (.inr (.inl z)) with y | y
   ·exact y
   ·omega
  ·omega
 ·rcases M with M | M | M
  ·exact k.nw j (.inl M)
  ·by_cases e:j=x
   ·exact .inr (by omega)
   ·rcases av j M e with y | y
    ·exact k.nw j (.inr (.inl y))
    ·have:=k.size;exact .inr (by omega)
  ·exact k.nw j (.inr (.inr M))
theorem Av.notA {P:Nat} (h:Av w0 w B p es0 u0 es u on st l n m c) (M:¬AA p es0 u0 P) (O:P<w0.heap.size):¬AA p es u P:=fun x=>by
 rcases x with x | x
 ·rcases h.nw P x with y | y
  ·exact M (.inl y)
  ·omega
 ·exact M (.inr x)
def TakP (w:World) (B:Nat) (p:SP) (es:List Ent) (u:Value) (on:Bool) (st:Int) (l:List An) (n m c:Nat) (r:Lk) (now:Int) (e:Ending) (w':World):Prop:=
 ∃v es' u',e=.returned (.tuple #[.agg (acA (takA p.P r on st l now) v),.int .i64 (takE r on st l now)])/\v.oneCell'=true/\Own w' w.heap.size v (takA p.P r on st l now).tr/\(∀k,v.ownBlock=some k->¬AO p es' u' k)/\Av w w' B p es u es' u' on st (takS r on st l now) n m c
theorem JV {r:Lk} {now k:Int} (h:Av w w' B p es u es' u' on st l n m c) (M:r.e=k) (hk:k≠0):TakP w B p es u on st l n m c r now (.returned (.tuple #[.agg (acA acc0 (.slice none 0 0)),.int .i64 k])) w':=by
 have O:takE r on st l now=k:=by rw[takE,if_neg (by rw[M];exact hk),M]
 have Z:takA p.P r on st l now=acc0:=by rw[takA,O,if_neg hk]
 have e3:takS r on st l now=l:=by rw[takS,if_neg (by rw[M];exact hk)]
 exact⟨.slice none 0 0,es',u',by rw[O,Z],rfl,by rw[Z];exact Nm.Own.nil _ _,fun k hk=>by simp [Value.ownBlock] at hk,by rw[e3];exact h⟩
theorem XK {r:Lk} {now k:Int} (M:r.e=0) (hs:seeE on st l r.a now=k) (h:Av w w' B p es u es' u' on st (seeL on st l r.a now) n m c) (hk:k≠0):TakP w B p es u on st l n m c r now (.returned (.tuple #[.agg (acA acc0 (.slice none 0 0)),.int .i64 k])) w':=by
 have O:takE r on st l now=k:=by rw[takE,if_pos M,hs]
 have Z:takA p.P r on st l now=acc0:=by rw[takA,O,if_neg hk]
 have e3:takS r on st l now=seeL on st l r.a now:=by rw[takS,if_pos M]
 exact⟨.slice none 0 0,es',u',by rw[O,Z],rfl,by rw[Z];exact Nm.Own.nil _ _,fun k hk=>by simp [Value.ownBlock] at hk,by rw[e3];exact h⟩
theorem bm {r:Lk} {now:Int} {v:Value} (M:r.e=0) (hs:seeE on st l r.a now=0) (h:Av w w' B p es u es' u' on st (seeL on st l r.a now) n m c) (hv:v.oneCell'=true) (ho:Own w' w.heap.size v r.l) (hn:∀k,v.ownBlock=some k->¬AO p es' u' k):TakP w B p es u on st l n m c r now (.returned (.tuple #[.agg (acA ⟨r.p.c,p.P,r.p.ss,r.l,r.a.t,r.a.q⟩ v),.int .i64 0])) w':=by
 have O:takE r on st l now=0:=by rw[takE,if_pos M,hs]
 have Z:takA p.P r on st l now=⟨r.p.c,p.P,r.p.ss,r.l,r.a.t,r.a.q⟩:=by rw[takA,O,if_pos rfl]
 have e3:takS r on st l now=seeL on st l r.a now:=by rw[takS,if_pos M]
 exact⟨v,es',u',by rw[O,Z],hv,by rw[Z];exact ho,hn,by rw[e3];exact h⟩
end
end Ac
namespace Ac
open Go.RowKit Af Se Kd
open Nm (L Own)
open Rg (It Ent Ring RO its Dn DR)
open Ms (An Pt Tk Ap Mg tmB inB ptB anB ptD anD mgD prC apC)
open Rp (seeE seeL Tm)
open Rt (Sm)
abbrev apA (q:Ap) (bv av:Value):Array Value:=#[.string ⟨q.t.s.1.toArray⟩,.string ⟨q.t.s.2.toArray⟩,.int .i64 q.t.k,bv,av]
theorem fh (q:Ap) {bv M:Value} (h1:bv.oneCell'=true) (Z:M.oneCell'=true):(apA q bv M).all (·.oneCell')=true:=LA (l:=[.string ⟨q.t.s.1.toArray⟩,.string ⟨q.t.s.2.toArray⟩,.int .i64 q.t.k,bv,M]) fun v O=>by
 simp only[List.mem_cons,List.mem_nil_iff,or_false] at O;rcases O with rfl | rfl | rfl | rfl | rfl
 ·rfl
 ·rfl
 ·rfl
 ·exact h1
 ·exact Z
theorem fk:(Tryz.prog.info? 124).map (·.size)=some 5:=by kernel_rfl
theorem fl:(Tryz.prog.info? 122).map (·.size)=some 4:=by kernel_rfl
theorem Vh {S:Nat->Prop} {w:World} {v:Value} {l:L} (h:SlN S w v l):v.oneCell'=true:=by
 obtain⟨A,c,rfl,_⟩:=h;rfl
section
variable {w:World} {B:Nat} {p:SP} {es:List Ent} {u:Value} {on:Bool} {st:Int} {l:List An} {n m c:Nat}
theorem fm {v:Value} {b:L} {S:Nat->Prop} (hS:∀j,w.heap.size<=j->¬S j) (hv:SlN S w v b):Calls Tryz.prog 44 #[v] w fun e w'=>∃ds bv M,e=.returned (.tuple #[.agg ds,.int .i64 (Mc.mgI b)])/\ds.size=30/\ds.all (·.oneCell')=true/\(∀(w1:World) (g:Nat) (t:TypeId),Blk w1 g t ds->w1.cell? ⟨g,0,none⟩=some (.int .i64 (Mc.mgG b).k)/\w1.rangeAt g 23 (apA (Mc.mgG b).ap bv M).toList)/\SlN S w' bv (Mc.mgG b).ap.t.b/\SlN S w' M (Mc.mgG b).ap.a/\Below w.heap.size w w':=by
 obtain⟨A,c,rfl,hc,hr⟩:=hv;refine(Mc.bc A b c w hr.rd).mono ?_;rintro e w' ⟨ds,rfl,⟨pa,pt,pr,pp,pf,h1,Z⟩,O⟩;obtain⟨bv,M,h3,h4,h5⟩:=Z.p;have h6:pp=apA (Mc.mgG b).ap bv M:=h3;subst h6;have own:∀{v:Value} {l:L},Mc.OwnN w' w.heap.size v l->SlN S w' v l:=fun{v l} h=>by
  rcases h with⟨rfl,rfl⟩ | ⟨b,c,rfl,hc,O,hl,hr⟩
  ·exact⟨none,0,rfl,Nat.le_refl _,.inl rfl⟩
  ·exact⟨_,c,rfl,hc,.inr ⟨b,0,rfl,hl,hS b O,fun i u hu=>by rw[Nat.zero_add];exact hr i u hu⟩⟩
 subst h1;refine⟨_,bv,M,rfl,Z.toV.size _,Z.toV.one _,fun w1 g t O=>?_,own h4,own h5,O⟩;have:=Z.toV.at_ O;exact⟨this.k,this.p⟩
theorem Vi {w1 w':World} {es2:List Ent} {s2:Option Ss} {x c':Nat} {ks:Nat->UInt8} {P:Nat} (O:¬AA p es u P) (he:P≠x):¬RSO p.r p.v es (some ⟨x,ks,none,0,0,0⟩) P:=fun y=>by
 rcases y with y | ⟨z,M,y⟩
 ·exact O (.inl (.inr (.inl y)))
 ·injection M with M
  subst M;rcases y with y | y
  ·exact he y
  ·cases y
theorem DV {w1 w':World} {es2:List Ent} {s2:Option Ss} {x c':Nat} {ks:Nat->UInt8} {P:Nat} {t:TypeId} {cs:Array Value} (g:Rn w1 w' B p.r p.v es (some ⟨x,ks,none,0,0,0⟩) es2 s2 c') (h:Blk w1 P t cs) (M:¬AA p es u P) (he:P≠x):Blk w' P t cs:=
 g.blk h (Vi (w1:=w1) (w':=w') (es2:=es2) (s2:=s2) (c':=c') M he)
theorem DW {w1 w':World} {es2:List Ent} {s2:Option Ss} {x c':Nat} {ks:Nat->UInt8} {P:Nat} (g:Rn w1 w' B p.r p.v es (some ⟨x,ks,none,0,0,0⟩) es2 s2 c') (M:¬AA p es u P) (he:P≠x) (O:P<w1.heap.size):¬AA p es2 u P:=fun y=>by
 rcases y with(y | y | y) | y
 ·exact M (.inl (.inl y))
 ·rcases g.nw P (.inl y) with z | z
  ·exact Vi (w1:=w1) (w':=w') (es2:=es2) (s2:=s2) (c':=c') M he z
  ·omega
 ·exact M (.inl (.inr (.inr y)))
 ·exact M (.inr y)
theorem an_tm {x:An} (h:anB x=true):Tm x.t/\x.c.1.length<=36/\x.c.2.length<=43:=by
 have M:Ms.prB x.c=true/\tmB x.t=true/\tmB x.q=true:=by simpa [anB] using h
 have O:=Ms.Be M.2.1;exact⟨⟨O.1,by omega⟩,Ms.GR M.1⟩
theorem fo {bv:Value} {b:L} {now:Int} {r:Lk} (h:AD w B p es u on st l n m c) (hc:c<800000) (hl:es.length<=1000) (hT:Sm p.T) (hP:p.P.1.length<=1000000/\p.P.2.length<=1000000) (gk:Tm st) (ga:l.length<=1000) (hv:SlN (AO p es u) w bv b) (hr:lokL p.P p.T (its es) b now=r) :
  Calls Tryz.prog 21 #[.pointer (some ⟨p.a,0,none⟩),bv,.int .i64 now] w (TakP w B p es u on st l n m (c+2) r now):=by
 obtain⟨zz,eX⟩:=Ak (acA acc0 (.slice none 0 0));have ck:=I (show Tryz.prog.built 42 []=some zz by rw[eX];exact No);have gw:=I (show zz.size=39 by rw[eX];exact Hm rfl _);have cj:=I (show(Tryz.prog.info? 42).map (·.size)=some zz.size by rw[gw.o];exact Nn);have ed:=I (show zz.all (·.oneCell')=true by rw[eX];exact JU _ rfl);have ej:=I (show acA acc0 (.slice none 0 0)=zz from eX.symm);have et:=I (eX.trans Yz);obtain⟨W,eW⟩:=Ak (w.alloc (.cells zz 42));have hb:Below w.heap.size w W:=eW▸Ah.alloc Ag _;have HR:=I (show Blk W w.heap.size 42 zz from eW▸Blk.new w _ _);have Z:=I (Av.start h hb);have NR:=I (h.fresh (Nat.le_refl w.heap.size));have HV:=I (hv.below hb);have CT:=I (fun(w1:World)=>Ru now w1);obtain⟨AB,mB,gb,_,_⟩:=hv;obtain⟨LB,gu⟩:=Ak (b.length);rw[<-gu] at gb;subst gb;have HC:=I hc;have HL:=I hl;have gE:=I hT;have gQ:=I hP;have gF:=I gk;have gR:=I ga;have CP:=I (fun(w1:World)=>Rg.Ly p.P w1 (by omega) (by omega));have E0:=I ((show lokL p.P p.T (its es) b now=(if tmB now=true then (match mgD b with | none=>lk0 2 | some m=>if m.k=4 then lokA p.P p.T (its es) m.ap now else lk0 2) else lk0 1) from rfl).symm.trans hr);obtain⟨tb,fL⟩:=Ak (tmB now);rw[<-fL] at CT E0;have gJ:=I fL;clear h hc hl hT hP gk ga hb hr eX gu fL;cases tb with
 |false=>
  have er:r=lk0 1:=E0.o.symm;subst er;go_enter Tryz.func21,Tryz.ntmps21
  go_upto_region 1 with fail
  rw[<-et.o,<-eW];clear eW et
  go_upto_region 2 with(first
   |(go_at_call 43;refine Aj (CT.o _) ?_;rintro wt hw;have hw:=hw.symm;subst hw;clear CT)
   |fail)
  go_wp2_with (first
   |(refine Mc.Al (by rfl) 42 #[] (by rfl) zz (by simp;exact ck.o) ?_)
   |(refine Wh.AW (by rfl) 42 (.tmp 6) (.tmp 18) (by rfl) w.heap.size 42 _ HR.o zz (by rfl) (by rfl) (by rfl) cj.o ed.o ?_;rintro V hV hg;replace HR:=I hV;replace Z:=I (Z.o.over Ag NR.o hg);clear hV hg ck)
   |fail)
  refine bodyPost_ret (v:=.tuple #[.agg zz,.int .i64 1]) ?_ ?_ ?_
  ·exact Rg.Ae (v:=.agg zz) 6 7 42 ⟨w.heap.size,0,none⟩ Tryz.results21 rfl (Wh.Ao HR.o Tryz.underlying42 (by rfl) cj.o) rfl
  ·rfl
  ·rw[<-ej.o];exact JV (Z.o.more (by omega)) rfl (by decide)
 |true=>
  have HN:=I (show 0<=now/\now<=1073741824 from Ms.Be gJ.o.symm);replace E0:=I (show(match mgD b with | none=>lk0 2 | some m=>if m.k=4 then lokA p.P p.T (its es) m.ap now else lk0 2)=r from E0.o);have CD:=I (fun(w1:World) (hv:SlN (AO p es u) w1 (.slice AB LB mB) b) (hS:∀j,w1.heap.size<=j->¬AO p es u j)=>fm hS hv);cases hd:mgD b with
  |none=>
   rw[hd] at E0;have er:r=lk0 2:=E0.o.symm;subst er;rw[show Mc.mgI b=2 by unfold Mc.mgI;rw[hd];rfl] at CD;clear hd;go_enter Tryz.func21,Tryz.ntmps21
   go_upto_region 1 with fail
   rw[<-et.o,<-eW];clear eW et
   go_upto_region 3 with(first
    |(go_at_call 43;refine Aj (CT.o _) ?_;rintro wt hw;have hw:=hw.symm;subst hw;clear CT)
    |fail)
   go_upto_region 5 with(first
    |(go_at_call 44;refine Calls.mono (CD.o _ HV.o (fun j hj x=>by have:=Z.o.st.ao_lt x;omega)) ?_;rintro e w9 ⟨ds,bv,av,rfl,cQ,eJ,eb,eu,ep,hb⟩;clear CD HV;replace Z:=I (Z.o.below hb);replace HR:=I (HR.o.below hb);have eF:=I cQ;have eK:=I eJ;have eo:=I (show(Tryz.prog.info? 134).map (·.size)=some ds.size by rw[cQ];exact Mc.AZ);have eL:=I eb;have SB:=I (SlH.of eu);have SA:=I (SlH.of ep);clear cQ eJ eb eu ep hb)
    |(refine Wh.Bb (by rfl) 134 (.tmp 8) (.tmp 22) (by rfl) 134 rfl ds (by rfl) (by rfl) (by rw[eF.o];rfl) eo.o eK.o ?_;rintro V hV hb;have HM:=I hV;have NM:=I (Z.o.st.fresh (Nat.le_refl w9.heap.size));replace Z:=I (Z.o.below hb);replace HR:=I (HR.o.below hb);replace SB:=I (SB.o.below hb);replace SA:=I (SA.o.below hb);have fJ:=(eL.o V _ _ hV).1;clear hV hb eF eo eK)
    |fail)
   go_wp2_with (first
    |(refine Mc.Al (by rfl) 42 #[] (by rfl) zz (by simp;exact ck.o) ?_)
    |(refine Wh.AW (by rfl) 42 (.tmp 6) (.tmp 31) (by rfl) w.heap.size 42 _ HR.o zz (by rfl) (by rfl) (by rfl) cj.o ed.o ?_;rintro V hV hg;replace HR:=I hV;replace Z:=I (Z.o.over Ag NR.o hg);clear hV hg ck)
    |fail)
   refine bodyPost_ret (v:=.tuple #[.agg zz,.int .i64 2]) ?_ ?_ ?_
   ·exact Rg.Ae (v:=.agg zz) 6 7 42 ⟨w.heap.size,0,none⟩ Tryz.results21 rfl (Wh.Ao HR.o Tryz.underlying42 (by rfl) cj.o) rfl
   ·rfl
   ·rw[<-ej.o];exact JV (Z.o.more (by omega)) rfl (by decide)
  |some M=>
   rw[hd] at E0;rw[show Mc.mgI b=0 by unfold Mc.mgI;rw[hd];rfl,show Mc.mgG b=M by unfold Mc.mgG;rw[hd];rfl] at CD;replace E0:=I (show(if M.k=4 then lokA p.P p.T (its es) M.ap now else lk0 2)=r from E0.o);clear hd
   by_cases hk4:M.k=4
   ·replace E0:=I ((if_pos hk4).symm.trans E0.o)
    obtain⟨q,eq⟩:=Ak (M.ap);rw[<-eq] at CD E0;rw[hk4] at CD;clear eq hk4;go_enter Tryz.func21,Tryz.ntmps21
    go_upto_region 1 with fail
    rw[<-et.o,<-eW];clear eW et
    go_upto_region 3 with(first
     |(go_at_call 43;refine Aj (CT.o _) ?_;rintro wt hw;have hw:=hw.symm;subst hw;clear CT)
     |fail)
    go_upto_region 6 with(first
     |(go_at_call 44;refine Calls.mono (CD.o _ HV.o (fun j hj x=>by have:=Z.o.st.ao_lt x;omega)) ?_;rintro e w9 ⟨ds,bv,av,rfl,cQ,eJ,eb,eu,ep,hb⟩;clear CD HV;replace Z:=I (Z.o.below hb);replace HR:=I (HR.o.below hb);have eF:=I cQ;have eK:=I eJ;have eo:=I (show(Tryz.prog.info? 134).map (·.size)=some ds.size by rw[cQ];exact Mc.AZ);have eL:=I eb;have SB:=I (SlH.of eu);have SA:=I (SlH.of ep);clear cQ eJ eb eu ep hb)
     |(refine Wh.Bb (by rfl) 134 (.tmp 8) (.tmp 22) (by rfl) 134 rfl ds (by rfl) (by rfl) (by rw[eF.o];rfl) eo.o eK.o ?_;rintro V hV hb;have HM:=I hV;have NM:=I (Z.o.st.fresh (Nat.le_refl w9.heap.size));replace Z:=I (Z.o.below hb);replace HR:=I (HR.o.below hb);replace SB:=I (SB.o.below hb);replace SA:=I (SA.o.below hb);have fJ:=(eL.o V _ _ hV).1;clear hV hb eF eo eK)
     |fail)
    obtain⟨cB,dz⟩:=Ak (apA q bv av);have fI:V.rangeAt w9.heap.size 23 cB.toList:=by rw[dz];exact(eL.o V _ _ HM.o).2
    have fK:=I (show cB.size=5 by rw[dz];rfl);have fQ:=I (show(Tryz.prog.info? 124).map (·.size)=some cB.size by rw[fK.o];exact fk);have gx:=I (show cB.all (·.oneCell')=true by rw[dz];exact fh q (Vh SB.o.2) (Vh SA.o.2));have ff:=I (fun(w1:World) (g:Nat) (hb:Blk w1 g 124 cB)=>(show w1.cell? ⟨g,0,none⟩=some (.string ⟨q.t.s.1.toArray⟩)/\w1.cell? ⟨g,1,none⟩=some (.string ⟨q.t.s.2.toArray⟩)/\w1.cell? ⟨g,2,none⟩=some (.int .i64 q.t.k)/\w1.cell? ⟨g,3,none⟩=some bv/\w1.cell? ⟨g,4,none⟩=some av by rw[dz] at hb;exact⟨hb.cell 0,hb.cell 1,hb.cell 2,hb.cell 3,hb.cell 4⟩));clear dz
    go_upto_region 7 with(first
     |(refine Wh.AF (by rfl) 124 (.tmp 32) (by rfl) w9.heap.size 23 (by rfl) cB _ fI Tryz.underlying124 (by rfl) fQ.o ?_;clear fI)
     |(refine Wh.Bb (by rfl) 124 (.tmp 10) (.tmp 33) (by rfl) 124 rfl cB (by rfl) (by rfl) (by rw[fK.o];rfl) fQ.o gx.o ?_;rintro V2 hV hb;have HQ:=I hV;have NQ:=I (Z.o.st.fresh (Nat.le_refl V.heap.size));replace Z:=I (Z.o.below hb);replace HR:=I (HR.o.below hb);replace SB:=I (SB.o.below hb);replace SA:=I (SA.o.below hb);clear hV hb fK fQ gx)
     |fail)
    clear HM NM fJ eL;obtain⟨PQ,gv⟩:=Ak (V.heap.size);rw[<-gv] at HQ NQ⊢;clear gv;have fT:=(ff.o V2 _ HQ.o).1;have gg:=(ff.o V2 _ HQ.o).2.1;have ez:V2.cell? ⟨p.a,0,none⟩=some (.string ⟨p.P.1.toArray⟩):=Z.o.st.blk.cell 0;have eg:V2.cell? ⟨p.a,1,none⟩=some (.string ⟨p.P.2.toArray⟩):=Z.o.st.blk.cell 1;have E1:=I ((show lokA p.P p.T (its es) q now=(if q.t.s=p.P then (if (shwL (its es) q.t now).1=0 then lokB p.T p.P.1 (shwL (its es) q.t now).2 q.a else lk0 (shwL (its es) q.t now).1) else lk0 9) from rfl).symm.trans E0.o);clear E0
    by_cases hsv:q.t.s=p.P
    ·replace E1:=I ((if_pos hsv).symm.trans E1.o)
     have q1:=Dn hsv;clear hsv
     go_quiet (fail)
     have hd:=below_drewN (Below.refl V2.heap.size V2) nq;replace Z:=I (Z.o.below hd);replace HR:=I (HR.o.below hd);replace HQ:=I (HQ.o.below hd);replace SB:=I (SB.o.below hd);replace SA:=I (SA.o.below hd);clear hd fT gg ez eg q1;generalize V2.drewN nq=V3 at Z HR HQ SB SA⊢
     go_upto_region 9 with fail
     obtain⟨eT,eQ⟩:=Ak ((#[.string ⟨q.t.s.1.toArray⟩,.string ⟨q.t.s.2.toArray⟩,.int .i64 q.t.k,bv]:Array Value));have fR:=I (fun(w1:World) (hb:Blk w1 PQ 124 cB)=>(show w1.rangeAt PQ 0 eT.toList from fun j v hv=>by
      obtain⟨g0,g1,g2,g3,_⟩:=ff.o w1 PQ hb;rw[eQ] at hv
      match j,hv with
      |0,hv=>injection hv with hv;subst hv;exact g0
      |1,hv=>injection hv with hv;subst hv;exact g1
      |2,hv=>injection hv with hv;subst hv;exact g2
      |3,hv=>injection hv with hv;subst hv;exact g3
      |j+4,hv=>simp at hv))
     have gf:=I (show(Tryz.prog.info? 122).map (·.size)=some eT.size by rw[eQ];exact fl);obtain⟨ke,P,ct⟩:∃a b,shwL (its es) q.t now=(a,b):=⟨_,_,rfl⟩;have cY:=I (show P.ss.length=32/\(ke=0->ptB P=true) by have:=Nl (its es) q.t now;rw[ct] at this;exact this);replace E1:=I (show(if ke=0 then lokB p.T p.P.1 P q.a else lk0 ke)=r by have:=E1.o;rw[ct] at this;exact this);have CS:=I (fun(w1:World) (h1:AD w1 B p es u on st l n m c) (hs:SlH w9.heap.size p es u w1 bv q.t.b)=>(show Calls Tryz.prog 45 #[.pointer (some ⟨p.r,0,none⟩),.agg eT,.int .i64 now] w1 fun e w'=>∃es',e=.returned (.tuple #[.agg (ptA P),.int .i64 ke])/\its es'=its es/\es'.length=es.length/\Av w1 w' B p es u es' u on st l n m (c+1) by
      have hh:=bj (t:=q.t) (now:=now) h1.rs (by have:=HC.o;omega) HL.o HN.o.1 HN.o.2 hs.rs;rw[ct] at hh;rw[eQ];refine hh.mono ?_;rintro e w' ⟨es',s',rfl,hk⟩;exact⟨es',rfl,OI hk.eq,Uv hk.eq,Av.of_rn h1 hk.drop⟩))
     clear ct eQ;obtain⟨cP,eR⟩:=Ak (ptA P);have fO:=I (show cP.size=37 by rw[eR];exact He cY.o.1);have fb:=I (show(Tryz.prog.info? 86).map (·.size)=some cP.size by rw[eR];exact LF cY.o.1);have fM:=I (show cP.all (·.oneCell')=true by rw[eR];exact LD _);have EP:=I eR;rw[<-eR] at CS;clear eR
     go_cut [9,11] from 43 to 53 (fun ev pv wx=>∃(PT:Nat) (cb:List Ent),ev=.int .i64 ke/\pv=.pointer (some ⟨PT,0,none⟩)/\w.heap.size<PT/\its cb=its es/\cb.length=es.length/\Blk wx PT 86 cP/\¬AA p cb u PT/\Blk wx w.heap.size 42 zz/\¬AA p cb u w.heap.size/\Blk wx PQ 124 cB/\¬AA p cb u PQ/\SlH w9.heap.size p cb u wx av q.a/\Av w wx B p es u cb u on st l n m (c+1))
     case first=>
      have bz:Below V3.heap.size V3 V3.drew:=below_drewN Ah 1;replace Z:=I (Z.o.below bz);replace HR:=I (HR.o.below bz);replace HQ:=I (HQ.o.below bz);replace SB:=I (SB.o.below bz);replace SA:=I (SA.o.below bz);clear bz;refine Reg.BQ (fun w'=>Blk w' PQ 124 cB/\w'.cell? ⟨p.a,5,none⟩=some (.pointer (some ⟨p.r,0,none⟩))) 14 rfl (by kernel_rfl) ⟨HQ.o,(Z.o).st.blk.cell 5⟩ ?_;refine Reg.ty 0 rfl ⟨HQ.o,(Z.o).st.blk.cell 5⟩ ?_;refine Reg.ty 1 rfl ⟨HQ.o,(Z.o).st.blk.cell 5⟩ ?_;refine Reg.ty 2 rfl ⟨HQ.o,(Z.o).st.blk.cell 5⟩ ?_;refine Reg.tw 3 (v:=.pointer (some ⟨p.r,0,none⟩)) rfl ⟨HQ.o,(Z.o).st.blk.cell 5⟩ (fun w' hS=>by obtain⟨hQ,ha⟩:=hS;go_simp<;>rfl) ?_;refine Reg.ty 4 rfl ⟨HQ.o,(Z.o).st.blk.cell 5⟩ ?_;refine Reg.tw 5 (v:=.agg eT) rfl ⟨HQ.o,(Z.o).st.blk.cell 5⟩ (fun w' hS=>by obtain⟨hQ,ha⟩:=hS;exact Rg.Fj (.tmp 48) rfl rfl (fR.o _ hQ) Tryz.underlying122 rfl gf.o) ?_;refine Reg.ty 6 rfl ⟨HQ.o,(Z.o).st.blk.cell 5⟩ ?_;refine Reg.b2 7 11 ?_ ?_
      ·right
       refine⟨_,_,_,_,_,_,45,#[.pointer (some ⟨p.r,0,none⟩),.agg eT,.int .i64 now],rfl,by rfl,(by go_simp<;>first | rfl | exact⟨rfl,rfl⟩),?_⟩;refine Calls.mono (CS.o _ Z.o.st SB.o) ?_;rintro e cp ⟨cb,rfl,hit,cr,hk⟩;have aw:=hk.blk HR.o (fun x=>NR.o (.inl x));replace NR:=I (hk.notA NR.o HR.o.lt);replace HR:=I aw;clear aw;have aw:=hk.blk HQ.o (fun x=>NQ.o (.inl x));replace NQ:=I (hk.notA NQ.o HQ.o.lt);replace HQ:=I aw;clear aw;replace SB:=I (SB.o.kn hk);replace SA:=I (SA.o.kn hk);replace Z:=I (Z.o.trans hk);have fA:=I hit;have fi:=I cr;clear hk hit cr CS;refine⟨_,rfl,⟨HQ.o,(Z.o).st.blk.cell 5⟩,?_⟩;simp only[Act.put,U,Aa,Ab];refine Reg.ty 8 rfl ⟨HQ.o,(Z.o).st.blk.cell 5⟩ ?_;refine Reg.ty 9 rfl ⟨HQ.o,(Z.o).st.blk.cell 5⟩ ?_;refine Reg.ty 10 rfl ⟨HQ.o,(Z.o).st.blk.cell 5⟩ ?_;refine Reg.b1 11 ?_
       left
       have hb:Below cp.heap.size cp (cp.alloc (.cells ptZ 86)):=Ah.alloc Ag _;have aw:=Blk.new cp 86 ptZ;have LR:=I HR.o.lt;have LT:=I Z.o.size;have NT:=I (Z.o.st.fresh (Nat.le_refl cp.heap.size));have bq:=I (Nat.ne_of_lt HR.o.lt);have bn:=I (Nat.ne_of_lt HQ.o.lt);have cy:=I SB.o.1;have cd:=I SA.o.1;refine⟨_,_,_,_,_,_,.pointer (some ⟨cp.heap.size,0,none⟩),cp.alloc (.cells ptZ 86),rfl,by rfl,(by go_simp<;>rfl),⟨(HQ.o.below hb),((Z.o.below hb)).st.blk.cell 5⟩,?_⟩;simp only[Act.put,U,Aa,Ab];obtain⟨gB,eB⟩:=Ak (cp.alloc (.cells ptZ 86));rw[<-eB] at hb aw⊢;clear eB;replace Z:=I (Z.o.below hb);replace HR:=I (HR.o.below hb);replace HQ:=I (HQ.o.below hb);replace SB:=I (SB.o.below hb);replace SA:=I (SA.o.below hb);have HT:=I aw;clear aw hb;obtain⟨PT,cq⟩:=Ak (cp.heap.size);rw[<-cq] at HT LT NT LR bq bn cy cd⊢;clear cq;refine Reg.BG 12 rfl (by kernel_rfl) (by rfl) PT 86 _ cP HT.o (by rfl) (by rfl) (by rw[fO.o];rfl) fb.o fM.o ?_;intro gY hV hg;replace HT:=I hV;replace Z:=I (Z.o.over LT.o NT.o hg);replace HR:=I (HR.o.grown hg (fun e=>by injection e with e;exact bq.o e.symm));replace HQ:=I (HQ.o.grown hg (fun e=>by injection e with e;exact bn.o e.symm));replace SB:=I (SB.o.over hg cy.o);replace SA:=I (SA.o.over hg cd.o);clear hV hg bq bn cy cd;refine⟨⟨HQ.o,(Z.o).st.blk.cell 5⟩,?_⟩;simp only[Act.put,U,Aa,Ab];have O:=I HT.o;have ey:=I NT.o;have cM:=I LR.o;clear HT NT LT LR;obtain⟨fW,cw⟩:=Ak (PT);rw[<-cw] at O ey cM⊢;clear cw;refine Reg.ty 13 rfl ⟨HQ.o,(Z.o).st.blk.cell 5⟩ ?_;refine wpAnyH_done (by kernel_rfl) ?_ _
       go_wp2_with fail
       go_meet
       exact⟨_,cb,rfl,rfl,cM.o,fA.o,fi.o,O.o,ey.o,HR.o,NR.o,HQ.o,NQ.o,SA.o,Z.o⟩
      ·left
       have hb:Below V3.drew.heap.size V3.drew (V3.drew.alloc (.cells ptZ 86)):=Ah.alloc Ag _;have aw:=Blk.new V3.drew 86 ptZ;have LR:=I HR.o.lt;have LT:=I Z.o.size;have NT:=I (Z.o.st.fresh (Nat.le_refl V3.drew.heap.size));have bq:=I (Nat.ne_of_lt HR.o.lt);have bn:=I (Nat.ne_of_lt HQ.o.lt);have cy:=I SB.o.1;have cd:=I SA.o.1;refine⟨_,_,_,_,_,_,.pointer (some ⟨V3.drew.heap.size,0,none⟩),V3.drew.alloc (.cells ptZ 86),rfl,by rfl,(by go_simp<;>rfl),⟨(HQ.o.below hb),((Z.o.below hb)).st.blk.cell 5⟩,?_⟩;simp only[Act.put,U,Aa,Ab];obtain⟨gz,dy⟩:=Ak (V3.drew.alloc (.cells ptZ 86));rw[<-dy] at hb aw⊢;clear dy;replace Z:=I (Z.o.below hb);replace HR:=I (HR.o.below hb);replace HQ:=I (HQ.o.below hb);replace SB:=I (SB.o.below hb);replace SA:=I (SA.o.below hb);have HT:=I aw;clear aw hb;obtain⟨PT,cq⟩:=Ak (V3.drew.heap.size);rw[<-cq] at HT LT NT LR bq bn cy cd⊢;clear cq;refine Reg.b1 7 ?_
       right
       refine⟨_,_,_,_,_,_,45,#[.pointer (some ⟨p.r,0,none⟩),.agg eT,.int .i64 now],rfl,by rfl,(by go_simp<;>first | rfl | exact⟨rfl,rfl⟩),?_⟩;refine Calls.mono (CS.o _ Z.o.st SB.o) ?_;rintro e gP ⟨cb,rfl,hit,cr,hk⟩;have aw:=hk.blk HR.o (fun x=>NR.o (.inl x));replace NR:=I (hk.notA NR.o HR.o.lt);replace HR:=I aw;clear aw;have aw:=hk.blk HQ.o (fun x=>NQ.o (.inl x));replace NQ:=I (hk.notA NQ.o HQ.o.lt);replace HQ:=I aw;clear aw;have aw:=hk.blk HT.o (fun x=>NT.o (.inl x));replace NT:=I (hk.notA NT.o HT.o.lt);replace HT:=I aw;clear aw;replace SB:=I (SB.o.kn hk);replace SA:=I (SA.o.kn hk);replace Z:=I (Z.o.trans hk);have fA:=I hit;have fi:=I cr;clear hk hit cr CS;refine⟨_,rfl,⟨HQ.o,(Z.o).st.blk.cell 5⟩,?_⟩;simp only[Act.put,U,Aa,Ab];refine Reg.ty 8 rfl ⟨HQ.o,(Z.o).st.blk.cell 5⟩ ?_;refine Reg.ty 9 rfl ⟨HQ.o,(Z.o).st.blk.cell 5⟩ ?_;refine Reg.ty 10 rfl ⟨HQ.o,(Z.o).st.blk.cell 5⟩ ?_;refine Reg.BG 12 rfl (by kernel_rfl) (by rfl) PT 86 _ cP HT.o (by rfl) (by rfl) (by rw[fO.o];rfl) fb.o fM.o ?_;intro gW hV hg;replace HT:=I hV;replace Z:=I (Z.o.over LT.o NT.o hg);replace HR:=I (HR.o.grown hg (fun e=>by injection e with e;exact bq.o e.symm));replace HQ:=I (HQ.o.grown hg (fun e=>by injection e with e;exact bn.o e.symm));replace SB:=I (SB.o.over hg cy.o);replace SA:=I (SA.o.over hg cd.o);clear hV hg bq bn cy cd;refine⟨⟨HQ.o,(Z.o).st.blk.cell 5⟩,?_⟩;simp only[Act.put,U,Aa,Ab];have O:=I HT.o;have ey:=I NT.o;have cM:=I LR.o;clear HT NT LT LR;obtain⟨fW,cw⟩:=Ak (PT);rw[<-cw] at O ey cM⊢;clear cw;refine Reg.ty 13 rfl ⟨HQ.o,(Z.o).st.blk.cell 5⟩ ?_;refine wpAnyH_done (by kernel_rfl) ?_ _
       go_wp2_with fail
       go_meet
       exact⟨_,cb,rfl,rfl,cM.o,fA.o,fi.o,O.o,ey.o,HR.o,NR.o,HQ.o,NQ.o,SA.o,Z.o⟩
     case rest=>
      obtain⟨PT,cb,rfl,rfl,fX,hit,cr,fv,fu,hr,nr,hq,nq,sa,hk⟩:=hcut;have gl:=I fX;have fA:=I hit;have fi:=I cr;have O:=I fv;have cn:=I fu;replace HR:=I hr;replace NR:=I nr;replace HQ:=I hq;replace NQ:=I nq;replace SA:=I sa;replace Z:=I hk;clear fX hit cr fv fu hr nr hq nq sa hk CS SB fR gf fO fM
      by_cases hke:ke=0
      ·replace E1:=I ((if_pos hke).symm.trans E1.o)
       have gU:=I (cY.o.2 hke);have t1:(ke != 0)=false:=by rw[hke];rfl
       clear hke
       go_upto_region 12 with fail
       clear t1;have E2:=I ((show lokB p.T p.P.1 P q.a=(if (athL P.ss q.a 11 P.c).1=0 then lokC p.T p.P.1 P (athL P.ss q.a 11 P.c).2 else lk0 (athL P.ss q.a 11 P.c).1) from rfl).symm.trans E1.o);clear E1;obtain⟨xe,x,ct⟩:∃a b,athL P.ss q.a 11 P.c=(a,b):=⟨_,_,rfl⟩;have gN:=I (show xe=0->anB x=true by have:=Vg P.ss q.a 11 P.c;rw[ct] at this;exact this);replace E2:=I (show(if xe=0 then lokC p.T p.P.1 P x else lk0 xe)=r by have:=E2.o;rw[ct] at this;exact this);obtain⟨cK,fs⟩:=Ak (keyA P.ss);have eV:=I (fun(w1:World) (hb:Blk w1 PT 86 cP)=>(show w1.rangeAt PT 2 cK.toList/\w1.cell? ⟨PT,0,none⟩=some (.string ⟨P.c.1.toArray⟩)/\w1.cell? ⟨PT,1,none⟩=some (.string ⟨P.c.2.toArray⟩) by rw[EP.o] at hb;rw[fs];exact⟨MV cY.o.1 hb,pt_0 hb,pt_1 hb⟩));have fZ:=I (show(Tryz.prog.info? 39).map (·.size)=some cK.size by rw[fs];exact IN cY.o.1);have CN:=I (fun(w1:World)=>(show Calls Tryz.prog 27 #[.agg cK] w1 fun e w'=>∃b,e=.returned (.pointer (some ⟨b,0,none⟩))/\w1.heap.size<=b/\Box w' b (ksOf P.ss) none 0 0 0/\Below w1.heap.size w1 w' by rw[fs,show keyA P.ss=Bk (ksOf P.ss) from(OH cY.o.1).symm];exact Se.Hw (ksOf P.ss) w1));have CA:=I (fun(w1:World) (bx:Nat) (h1:AD w1 B p cb u on st l n m (c+1)) (eP:Box w1 bx (ksOf P.ss) none 0 0 0) (hn:¬AA p cb u bx) (hB:B<=bx) (hN:w9.heap.size<=bx) (hs:SlH w9.heap.size p cb u w1 av q.a)=>(show Calls Tryz.prog 46 #[.pointer (some ⟨bx,0,none⟩),.int .i64 11,av,Kd.prV P.c] w1 fun e w'=>∃es2 s2,e=.returned (.tuple #[.agg (anA x),.int .i64 xe])/\its es2=its cb/\es2.length=cb.length/\Rn w1 w' B p.r p.v cb (some ⟨bx,ksOf P.ss,none,0,0,0⟩) es2 s2 (c+2) by
        have hh:=bl (cl:=P.c) (u:=11) (h1.rsb eP (fun y=>hn (.inl y)) hB) (by have:=HC.o;omega) (.inr ⟨_,rfl,rfl,rfl⟩) (by decide) (by decide) (hs.rsb hN);rw[ct] at hh;refine hh.mono ?_;rintro e w' ⟨es',s',rfl,hk⟩;exact⟨es',s',rfl,OI hk.eq,Uv hk.eq,hk⟩))
       have gK:=I fs;clear ct fs;obtain⟨cA,fy⟩:=Ak (anA x);rw[<-fy] at CA;have fD:=I (show cA.size=4 by rw[fy];rfl);have fz:=I (show(Tryz.prog.info? 47).map (·.size)=some cA.size by rw[fD.o];exact Nk);have fF:=I (show cA.all (·.oneCell')=true by rw[fy];exact Rp.LH x);have EA:=I fy;clear fy
       go_cut [9,12] from 58 to 68 (fun ev pv wx=>∃(PA:Nat) (es2:List Ent),ev=.int .i64 xe/\pv=.pointer (some ⟨PA,0,none⟩)/\w.heap.size<PA/\Blk wx PT 86 cP/\¬AA p es2 u PT/\Blk wx PA 47 cA/\¬AA p es2 u PA/\Blk wx w.heap.size 42 zz/\¬AA p es2 u w.heap.size/\Av w wx B p es u es2 u on st l n m (c+2))
       case first=>
        have bz:Below wc.heap.size wc wc.drew:=below_drewN Ah 1;replace Z:=I (Z.o.below bz);replace HR:=I (HR.o.below bz);replace HQ:=I (HQ.o.below bz);replace O:=I (O.o.below bz);replace SA:=I (SA.o.below bz);clear bz;refine Reg.BQ (fun w'=>Blk w' PT 86 cP/\Blk w' PQ 124 cB) 14 rfl (by kernel_rfl) ⟨O.o,HQ.o⟩ ?_;refine Reg.ty 0 rfl ⟨O.o,HQ.o⟩ ?_;refine Reg.tw 1 (v:=.agg cK) rfl ⟨O.o,HQ.o⟩ (fun w' hS=>by obtain⟨hP,hQ⟩:=hS;exact Rg.Fj (.tmp 59) rfl rfl (eV.o _ hP).1 Tryz.underlying39 rfl fZ.o) ?_;refine Reg.ty 3 rfl ⟨O.o,HQ.o⟩ ?_;refine Reg.tw 4 (v:=av) rfl ⟨O.o,HQ.o⟩ (fun w' hS=>by obtain⟨hP,hQ⟩:=hS;have q4:=(ff.o _ _ hQ).2.2.2.2;go_simp<;>rfl) ?_;refine Reg.ty 5 rfl ⟨O.o,HQ.o⟩ ?_;refine Reg.tw 6 (v:=Kd.prV P.c) rfl ⟨O.o,HQ.o⟩ (fun w' hS=>by obtain⟨hP,hQ⟩:=hS;have p0:=(eV.o _ hP).2.1;have p1:=(eV.o _ hP).2.2;go_simp<;>rfl) ?_;refine Reg.b2 2 11 ?_ ?_
        ·right
         refine⟨_,_,_,_,_,_,27,#[.agg cK],rfl,by rfl,(by go_simp<;>first | rfl | exact⟨rfl,rfl⟩),?_⟩;refine Calls.mono (CN.o _) ?_;rintro e ca ⟨bx,rfl,cc,eP,hb⟩;have eN:=I (Z.o.st.fresh cc);have fE:=I (Nat.le_trans Z.o.size cc);have fC:=I (Nat.le_trans Z.o.st.hB cc);have fB:=I (Nat.le_trans SA.o.1 cc);have cR:=I (Nat.ne_of_lt (Nat.lt_of_lt_of_le HR.o.lt cc));have cL:=I (Nat.ne_of_lt (Nat.lt_of_lt_of_le HQ.o.lt cc));have cm:=I (Nat.ne_of_lt (Nat.lt_of_lt_of_le O.o.lt cc));replace Z:=I (Z.o.below hb);replace HR:=I (HR.o.below hb);replace HQ:=I (HQ.o.below hb);replace O:=I (O.o.below hb);replace SA:=I (SA.o.below hb);have cT:=I eP;clear eP hb cc CN;refine⟨_,rfl,⟨O.o,HQ.o⟩,?_⟩;simp only[Act.put,U,Aa,Ab];refine Reg.b2 7 11 ?_ ?_
         ·right
          refine⟨_,_,_,_,_,_,46,#[.pointer (some ⟨bx,0,none⟩),.int .i64 11,av,Kd.prV P.c],rfl,by rfl,(by go_simp<;>first | rfl | exact⟨rfl,rfl⟩),?_⟩;refine Calls.mono (CA.o _ bx Z.o.st cT.o eN.o fC.o fB.o SA.o) ?_;rintro e bB ⟨es2,s2,rfl,hit,cr,hk⟩;have aw:=DV hk HR.o NR.o cR.o;replace NR:=I (DW hk NR.o cR.o HR.o.lt);replace HR:=I aw;clear aw;have aw:=DV hk HQ.o NQ.o cL.o;replace NQ:=I (DW hk NQ.o cL.o HQ.o.lt);replace HQ:=I aw;clear aw;have aw:=DV hk O.o cn.o cm.o;replace cn:=I (DW hk cn.o cm.o O.o.lt);replace O:=I aw;clear aw;replace Z:=I (Z.o.of_rsb fE.o eN.o hk);clear hk hit cr CA SA cT;refine⟨_,rfl,⟨O.o,HQ.o⟩,?_⟩;simp only[Act.put,U,Aa,Ab];refine Reg.ty 8 rfl ⟨O.o,HQ.o⟩ ?_;refine Reg.ty 9 rfl ⟨O.o,HQ.o⟩ ?_;refine Reg.ty 10 rfl ⟨O.o,HQ.o⟩ ?_;refine Reg.b1 11 ?_
          left
          have hb:Below bB.heap.size bB (bB.alloc (.cells anZ 47)):=Ah.alloc Ag _;have aw:=Blk.new bB 47 anZ;have LR:=I HR.o.lt;have LT:=I Z.o.size;have NT:=I (Z.o.st.fresh (Nat.le_refl bB.heap.size));have bq:=I (Nat.ne_of_lt HR.o.lt);have bn:=I (Nat.ne_of_lt HQ.o.lt);have bs:=I (Nat.ne_of_lt O.o.lt);refine⟨_,_,_,_,_,_,.pointer (some ⟨bB.heap.size,0,none⟩),bB.alloc (.cells anZ 47),rfl,by rfl,(by go_simp<;>rfl),⟨(O.o.below hb),(HQ.o.below hb)⟩,?_⟩;simp only[Act.put,U,Aa,Ab];obtain⟨gC,ea⟩:=Ak (bB.alloc (.cells anZ 47));rw[<-ea] at hb aw⊢;clear ea;replace Z:=I (Z.o.below hb);replace HR:=I (HR.o.below hb);replace HQ:=I (HQ.o.below hb);replace O:=I (O.o.below hb);have HT:=I aw;clear aw hb;obtain⟨PT,cq⟩:=Ak (bB.heap.size);rw[<-cq] at HT LT NT LR bq bn bs⊢;clear cq;refine Reg.BG 12 rfl (by kernel_rfl) (by rfl) PT 47 _ cA HT.o (by rfl) (by rfl) (by rw[fD.o];rfl) fz.o fF.o ?_;intro gT hV hg;replace HT:=I hV;replace Z:=I (Z.o.over LT.o NT.o hg);replace HR:=I (HR.o.grown hg (fun e=>by injection e with e;exact bq.o e.symm));replace HQ:=I (HQ.o.grown hg (fun e=>by injection e with e;exact bn.o e.symm));replace O:=I (O.o.grown hg (fun e=>by injection e with e;exact bs.o e.symm));clear hV hg bq bn bs;refine⟨⟨O.o,HQ.o⟩,?_⟩;simp only[Act.put,U,Aa,Ab];have bb:=I HT.o;have cu:=I NT.o;have cf:=I LR.o;clear HT NT LT LR;obtain⟨fH,cg⟩:=Ak (PT);rw[<-cg] at bb cu cf⊢;clear cg;refine Reg.ty 13 rfl ⟨O.o,HQ.o⟩ ?_;refine wpAnyH_done (by kernel_rfl) ?_ _
          go_wp2_with fail
          go_meet
          exact⟨_,es2,rfl,rfl,cf.o,O.o,cn.o,bb.o,cu.o,HR.o,NR.o,Z.o⟩
         ·left
          have hb:Below ca.heap.size ca (ca.alloc (.cells anZ 47)):=Ah.alloc Ag _;have aw:=Blk.new ca 47 anZ;have LR:=I HR.o.lt;have LT:=I Z.o.size;have NT:=I (Z.o.st.fresh (Nat.le_refl ca.heap.size));have bq:=I (Nat.ne_of_lt HR.o.lt);have bn:=I (Nat.ne_of_lt HQ.o.lt);have bs:=I (Nat.ne_of_lt O.o.lt);have cd:=I SA.o.1;have fY:=I (Nat.ne_of_lt cT.o.lt);refine⟨_,_,_,_,_,_,.pointer (some ⟨ca.heap.size,0,none⟩),ca.alloc (.cells anZ 47),rfl,by rfl,(by go_simp<;>rfl),⟨(O.o.below hb),(HQ.o.below hb)⟩,?_⟩;simp only[Act.put,U,Aa,Ab];obtain⟨gy,eE⟩:=Ak (ca.alloc (.cells anZ 47));rw[<-eE] at hb aw⊢;clear eE;replace Z:=I (Z.o.below hb);replace HR:=I (HR.o.below hb);replace HQ:=I (HQ.o.below hb);replace O:=I (O.o.below hb);replace SA:=I (SA.o.below hb);replace cT:=I (cT.o.below hb);have HT:=I aw;clear aw hb;obtain⟨PT,cq⟩:=Ak (ca.heap.size);rw[<-cq] at HT LT NT LR bq bn bs cd fY⊢;clear cq;have ef:=I (show PT≠bx from fun e=>fY.o e.symm);refine Reg.b1 7 ?_
          right
          refine⟨_,_,_,_,_,_,46,#[.pointer (some ⟨bx,0,none⟩),.int .i64 11,av,Kd.prV P.c],rfl,by rfl,(by go_simp<;>first | rfl | exact⟨rfl,rfl⟩),?_⟩;refine Calls.mono (CA.o _ bx Z.o.st cT.o eN.o fC.o fB.o SA.o) ?_;rintro e gX ⟨es2,s2,rfl,hit,cr,hk⟩;have aw:=DV hk HR.o NR.o cR.o;replace NR:=I (DW hk NR.o cR.o HR.o.lt);replace HR:=I aw;clear aw;have aw:=DV hk HQ.o NQ.o cL.o;replace NQ:=I (DW hk NQ.o cL.o HQ.o.lt);replace HQ:=I aw;clear aw;have aw:=DV hk O.o cn.o cm.o;replace cn:=I (DW hk cn.o cm.o O.o.lt);replace O:=I aw;clear aw;have aw:=DV hk HT.o NT.o ef.o;replace NT:=I (DW hk NT.o ef.o HT.o.lt);replace HT:=I aw;clear aw;replace Z:=I (Z.o.of_rsb fE.o eN.o hk);clear hk hit cr CA SA cT;refine⟨_,rfl,⟨O.o,HQ.o⟩,?_⟩;simp only[Act.put,U,Aa,Ab];refine Reg.ty 8 rfl ⟨O.o,HQ.o⟩ ?_;refine Reg.ty 9 rfl ⟨O.o,HQ.o⟩ ?_;refine Reg.ty 10 rfl ⟨O.o,HQ.o⟩ ?_;refine Reg.BG 12 rfl (by kernel_rfl) (by rfl) PT 47 _ cA HT.o (by rfl) (by rfl) (by rw[fD.o];rfl) fz.o fF.o ?_;intro gG hV hg;replace HT:=I hV;replace Z:=I (Z.o.over LT.o NT.o hg);replace HR:=I (HR.o.grown hg (fun e=>by injection e with e;exact bq.o e.symm));replace HQ:=I (HQ.o.grown hg (fun e=>by injection e with e;exact bn.o e.symm));replace O:=I (O.o.grown hg (fun e=>by injection e with e;exact bs.o e.symm));clear hV hg bq bn bs;refine⟨⟨O.o,HQ.o⟩,?_⟩;simp only[Act.put,U,Aa,Ab];have bb:=I HT.o;have cu:=I NT.o;have cf:=I LR.o;clear HT NT LT LR;obtain⟨fH,cg⟩:=Ak (PT);rw[<-cg] at bb cu cf⊢;clear cg;refine Reg.ty 13 rfl ⟨O.o,HQ.o⟩ ?_;refine wpAnyH_done (by kernel_rfl) ?_ _
          go_wp2_with fail
          go_meet
          exact⟨_,es2,rfl,rfl,cf.o,O.o,cn.o,bb.o,cu.o,HR.o,NR.o,Z.o⟩
        ·left
         have hb:Below wc.drew.heap.size wc.drew (wc.drew.alloc (.cells anZ 47)):=Ah.alloc Ag _;have aw:=Blk.new wc.drew 47 anZ;have LR:=I HR.o.lt;have LT:=I Z.o.size;have NT:=I (Z.o.st.fresh (Nat.le_refl wc.drew.heap.size));have bq:=I (Nat.ne_of_lt HR.o.lt);have bn:=I (Nat.ne_of_lt HQ.o.lt);have bs:=I (Nat.ne_of_lt O.o.lt);have cd:=I SA.o.1;refine⟨_,_,_,_,_,_,.pointer (some ⟨wc.drew.heap.size,0,none⟩),wc.drew.alloc (.cells anZ 47),rfl,by rfl,(by go_simp<;>rfl),⟨(O.o.below hb),(HQ.o.below hb)⟩,?_⟩;simp only[Act.put,U,Aa,Ab];obtain⟨gA,ec⟩:=Ak (wc.drew.alloc (.cells anZ 47));rw[<-ec] at hb aw⊢;clear ec;replace Z:=I (Z.o.below hb);replace HR:=I (HR.o.below hb);replace HQ:=I (HQ.o.below hb);replace O:=I (O.o.below hb);replace SA:=I (SA.o.below hb);have HT:=I aw;clear aw hb;obtain⟨PT,cq⟩:=Ak (wc.drew.heap.size);rw[<-cq] at HT LT NT LR bq bn bs cd⊢;clear cq;refine Reg.b1 2 ?_
         right
         refine⟨_,_,_,_,_,_,27,#[.agg cK],rfl,by rfl,(by go_simp<;>first | rfl | exact⟨rfl,rfl⟩),?_⟩;refine Calls.mono (CN.o _) ?_;rintro e gH ⟨bx,rfl,cc,eP,hb⟩;have eN:=I (Z.o.st.fresh cc);have fE:=I (Nat.le_trans Z.o.size cc);have fC:=I (Nat.le_trans Z.o.st.hB cc);have fB:=I (Nat.le_trans SA.o.1 cc);have cR:=I (Nat.ne_of_lt (Nat.lt_of_lt_of_le HR.o.lt cc));have cL:=I (Nat.ne_of_lt (Nat.lt_of_lt_of_le HQ.o.lt cc));have cm:=I (Nat.ne_of_lt (Nat.lt_of_lt_of_le O.o.lt cc));have ef:=I (Nat.ne_of_lt (Nat.lt_of_lt_of_le HT.o.lt cc));replace Z:=I (Z.o.below hb);replace HR:=I (HR.o.below hb);replace HQ:=I (HQ.o.below hb);replace O:=I (O.o.below hb);replace SA:=I (SA.o.below hb);replace HT:=I (HT.o.below hb);have cT:=I eP;clear eP hb cc CN;refine⟨_,rfl,⟨O.o,HQ.o⟩,?_⟩;simp only[Act.put,U,Aa,Ab];refine Reg.b1 7 ?_
         right
         refine⟨_,_,_,_,_,_,46,#[.pointer (some ⟨bx,0,none⟩),.int .i64 11,av,Kd.prV P.c],rfl,by rfl,(by go_simp<;>first | rfl | exact⟨rfl,rfl⟩),?_⟩;refine Calls.mono (CA.o _ bx Z.o.st cT.o eN.o fC.o fB.o SA.o) ?_;rintro e gL ⟨es2,s2,rfl,hit,cr,hk⟩;have aw:=DV hk HR.o NR.o cR.o;replace NR:=I (DW hk NR.o cR.o HR.o.lt);replace HR:=I aw;clear aw;have aw:=DV hk HQ.o NQ.o cL.o;replace NQ:=I (DW hk NQ.o cL.o HQ.o.lt);replace HQ:=I aw;clear aw;have aw:=DV hk O.o cn.o cm.o;replace cn:=I (DW hk cn.o cm.o O.o.lt);replace O:=I aw;clear aw;have aw:=DV hk HT.o NT.o ef.o;replace NT:=I (DW hk NT.o ef.o HT.o.lt);replace HT:=I aw;clear aw;replace Z:=I (Z.o.of_rsb fE.o eN.o hk);clear hk hit cr CA SA cT;refine⟨_,rfl,⟨O.o,HQ.o⟩,?_⟩;simp only[Act.put,U,Aa,Ab];refine Reg.ty 8 rfl ⟨O.o,HQ.o⟩ ?_;refine Reg.ty 9 rfl ⟨O.o,HQ.o⟩ ?_;refine Reg.ty 10 rfl ⟨O.o,HQ.o⟩ ?_;refine Reg.BG 12 rfl (by kernel_rfl) (by rfl) PT 47 _ cA HT.o (by rfl) (by rfl) (by rw[fD.o];rfl) fz.o fF.o ?_;intro gZ hV hg;replace HT:=I hV;replace Z:=I (Z.o.over LT.o NT.o hg);replace HR:=I (HR.o.grown hg (fun e=>by injection e with e;exact bq.o e.symm));replace HQ:=I (HQ.o.grown hg (fun e=>by injection e with e;exact bn.o e.symm));replace O:=I (O.o.grown hg (fun e=>by injection e with e;exact bs.o e.symm));clear hV hg bq bn bs;refine⟨⟨O.o,HQ.o⟩,?_⟩;simp only[Act.put,U,Aa,Ab];have bb:=I HT.o;have cu:=I NT.o;have cf:=I LR.o;clear HT NT LT LR;obtain⟨fH,cg⟩:=Ak (PT);rw[<-cg] at bb cu cf⊢;clear cg;refine Reg.ty 13 rfl ⟨O.o,HQ.o⟩ ?_;refine wpAnyH_done (by kernel_rfl) ?_ _
         go_wp2_with fail
         go_meet
         exact⟨_,es2,rfl,rfl,cf.o,O.o,cn.o,bb.o,cu.o,HR.o,NR.o,Z.o⟩
       case rest=>
        obtain⟨PA,es2,rfl,rfl,gq,fv,fu,gh,gr,hr,nr,hk⟩:=hcut;have fV:=I (show w.heap.size≠PT/\w.heap.size≠PA from⟨Nat.ne_of_lt gl.o,Nat.ne_of_lt gq⟩);replace O:=I fv;replace cn:=I fu;have bb:=I gh;have gi:=I gr;replace HR:=I hr;replace NR:=I nr;replace Z:=I hk;clear gq gl fv fu gh gr hr nr hk CN CA SA HQ NQ ff fF fA fi
        by_cases hxe:xe=0
        ·replace E2:=I ((if_pos hxe).symm.trans E2.o)
         have gM:=I (gN.o hxe);have t1:(xe != 0)=false:=by rw[hxe];rfl
         clear hxe;have gj:=Ms.Dv gU.o;have gO:=Ms.GR gj.2.1;have fG:=an_tm gM.o;have E3:=I ((show lokC p.T p.P.1 P x=(if (pasL p.T p.P.1 P).1=0 then ⟨0,P,x,(pasL p.T p.P.1 P).2⟩ else lk0 (pasL p.T p.P.1 P).1) from rfl).symm.trans E2.o);clear E2;obtain⟨ye,ls,ct⟩:∃a b,pasL p.T p.P.1 P=(a,b):=⟨_,_,rfl⟩;replace E3:=I (show(if ye=0 then ⟨0,P,x,ls⟩ else lk0 ye)=r by have:=E3.o;rw[ct] at this;exact this);obtain⟨nl,fP⟩:=Ak (ls.length);have CQ:=I (fun(w1:World) (h1:AD w1 B p es2 u on st l n m (c+2))=>(show Calls Tryz.prog 47 #[.pointer (some ⟨p.a,0,none⟩),.agg cP] w1 fun e w'=>∃A c',e=.returned (.tuple #[.slice A nl c',.int .i64 ye])/\Own w' w1.heap.size (.slice A nl c') ls/\Below w1.heap.size w1 w' by
          have hh:=aM (P:=P) h1 gE.o cY.o.1 (by omega) (by omega) gQ.o.1;rw[ct] at hh;rw[EP.o];refine hh.mono ?_;rintro e w' ⟨v,rfl,ho,hb⟩;obtain⟨A,c',rfl,_⟩:=ho.slice;rw[<-fP] at ho;rw[<-fP];exact⟨A,c',rfl,ho,hb⟩))
         have CW:=I (fun(w1:World) (h1:AD w1 B p es2 u on st l n m (c+2))=>(show Calls Tryz.prog 48 #[.pointer (some ⟨p.a,0,none⟩),.agg cA,.int .i64 now] w1 fun e w'=>e=.returned (.int .i64 (seeE on st l x now))/\∃u',Av w1 w' B p es2 u es2 u' on st (seeL on st l x now) n m (c+2) by
          rw[EA.o];exact UE h1 gF.o fG.1 ⟨HN.o.1,by have:=HN.o.2;omega⟩ (by have:=fG.2;omega) (by have:=fG.2;omega) gR.o))
         clear ct fP gj gO fG
         by_cases hye:ye=0
         ·replace E3:=I ((if_pos hye).symm.trans E3.o)
          have t2:(ye != 0)=false:=by rw[hye];rfl
          clear hye;obtain⟨k,ek⟩:=Ak (seeE on st l x now);obtain⟨l',el⟩:=Ak (seeL on st l x now);rw[<-ek,<-el] at CW;have ei:=I (show r.e=0/\r.p=P/\r.a=x/\r.l=ls by rw[<-E3.o];exact⟨rfl,rfl,rfl,rfl⟩);have fU:=I (show seeE on st l r.a now=k by rw[ei.o.2.2.1,ek]);have gp:=I (show seeL on st l r.a now=l' by rw[ei.o.2.2.1,el]);clear ek el E3
          by_cases hk0:k=0
          ·subst hk0
           go_upto_region 21 with(first
            |(refine Wh.AF (by rfl) 86 (.tmp 11) (by rfl) PT 0 (by rfl) cP _ (Wh.Ad O.o) Tryz.underlying86 (by rfl) fb.o ?_)
            |(go_at_call 47;refine Calls.mono (CQ.o _ Z.o.st) ?_;rintro e w6 ⟨A6,c6,rfl,ho,hb⟩;clear CQ;have fN:=I (fun k (hk:(Value.slice A6 nl c6).ownBlock=some k) (e:k=w.heap.size)=>(show False by have:=(ho.lt k hk).1;have:=HR.o.lt;omega));have HO:=I (ho.from_ Z.o.size:Own w6 w.heap.size (.slice A6 nl c6) ls);have NO:=I (fun k (hk:(Value.slice A6 nl c6).ownBlock=some k) (hx:AO p es2 u k)=>(show False by have:=(ho.lt k hk).1;have:=Z.o.st.ao_lt hx;omega));replace Z:=I (Z.o.below hb);replace HR:=I (HR.o.below hb);replace O:=I (O.o.below hb);replace bb:=I (bb.o.below hb);clear ho hb)
            |(refine Wh.AF (by rfl) 47 (.tmp 12) (by rfl) PA 0 (by rfl) cA _ (Wh.Ad bb.o) Tryz.underlying47 (by rfl) fz.o ?_)
            |(go_at_call 48;refine Aj (CW.o _ Z.o.st) ?_;rintro w7 ⟨u',hk⟩;clear CW;have aw:=hk.blk HR.o (fun y=>NR.o (.inl y));replace NR:=I (hk.notA NR.o HR.o.lt);replace HR:=I aw;clear aw;have aw:=hk.blk O.o (fun y=>cn.o (.inl y));replace O:=I aw;clear aw;have aw:=hk.blk bb.o (fun y=>gi.o (.inl y));replace bb:=I aw;clear aw;have ew:=Rg.Bs hk.chg HO.o (fun k cx=>NO.o k cx);replace NO:=I (fun k (cx:(Value.slice A6 nl c6).ownBlock=some k)=>hk.not (NO.o k cx) (HO.o.lt k cx).2);replace HO:=I (show Own w7 w.heap.size (.slice A6 nl c6) ls from ew);replace Z:=I (Z.o.trans hk);clear hk ew)
            |fail)
           obtain⟨cX,fx⟩:=Ak (acA ⟨P.c,p.P,P.ss,ls,x.t,x.q⟩ (.slice A6 nl c6));have gD:=I (show Tryz.prog.built 42 [(0,Kd.prV P.c),(1,Kd.prV p.P),(2,.agg cK),(3,.slice A6 nl c6),(4,.int .i64 x.t),(5,.int .i64 x.q)]=some cX by rw[fx,gK.o];exact XJ cY.o.1 _ _ _ _ _ _ _ _);have fS:=I (show cX.size=39 by rw[fx];exact Hm cY.o.1 _);have gd:=I (show(Tryz.prog.info? 42).map (·.size)=some cX.size by rw[fS.o];exact Nn);have gV:=I (show cX.all (·.oneCell')=true by rw[fx];exact JU _ rfl);have EX:=I fx;clear fx;have gn:=I (fun(w1:World) (hb:Blk w1 PA 47 cA)=>(show w1.cell? ⟨PA,2,none⟩=some (.int .i64 x.t)/\w1.cell? ⟨PA,3,none⟩=some (.int .i64 x.q) by rw[EA.o] at hb;exact⟨hb.cell 2,hb.cell 3⟩));have bz:Below w7.heap.size w7 w7.drew:=below_drewN Ah 1;replace Z:=I (Z.o.below bz);replace HR:=I (HR.o.below bz);replace O:=I (O.o.below bz);replace bb:=I (bb.o.below bz);replace HO:=I (HO.o.below bz);clear bz;refine Reg.BQ (fun w'=>Blk w' PT 86 cP/\Blk w' PA 47 cA/\w'.cell? ⟨p.a,0,none⟩=some (.string ⟨p.P.1.toArray⟩)/\w'.cell? ⟨p.a,1,none⟩=some (.string ⟨p.P.2.toArray⟩)) 17 rfl (by kernel_rfl) ⟨O.o,bb.o,(Z.o).st.blk.cell 0,(Z.o).st.blk.cell 1⟩ ?_;refine Reg.ty 0 rfl ⟨O.o,bb.o,(Z.o).st.blk.cell 0,(Z.o).st.blk.cell 1⟩ ?_;refine Reg.tw 1 (v:=Kd.prV P.c) rfl ⟨O.o,bb.o,(Z.o).st.blk.cell 0,(Z.o).st.blk.cell 1⟩ (fun w' hS=>by obtain⟨hP,hA,ez,eg⟩:=hS;have p0:=(eV.o _ hP).2.1;have p1:=(eV.o _ hP).2.2;go_simp<;>rfl) ?_;refine Reg.ty 2 rfl ⟨O.o,bb.o,(Z.o).st.blk.cell 0,(Z.o).st.blk.cell 1⟩ ?_;refine Reg.ty 3 rfl ⟨O.o,bb.o,(Z.o).st.blk.cell 0,(Z.o).st.blk.cell 1⟩ ?_;refine Reg.ty 4 rfl ⟨O.o,bb.o,(Z.o).st.blk.cell 0,(Z.o).st.blk.cell 1⟩ ?_;refine Reg.tw 5 (v:=Kd.prV p.P) rfl ⟨O.o,bb.o,(Z.o).st.blk.cell 0,(Z.o).st.blk.cell 1⟩ (fun w' hS=>by obtain⟨hP,hA,ez,eg⟩:=hS;go_simp<;>rfl) ?_;refine Reg.ty 7 rfl ⟨O.o,bb.o,(Z.o).st.blk.cell 0,(Z.o).st.blk.cell 1⟩ ?_;refine Reg.tw 8 (v:=.agg cK) rfl ⟨O.o,bb.o,(Z.o).st.blk.cell 0,(Z.o).st.blk.cell 1⟩ (fun w' hS=>by obtain⟨hP,hA,ez,eg⟩:=hS;exact Rg.Fj (.tmp 98) rfl rfl (eV.o _ hP).1 Tryz.underlying39 rfl fZ.o) ?_;refine Reg.ty 9 rfl ⟨O.o,bb.o,(Z.o).st.blk.cell 0,(Z.o).st.blk.cell 1⟩ ?_;refine Reg.ty 10 rfl ⟨O.o,bb.o,(Z.o).st.blk.cell 0,(Z.o).st.blk.cell 1⟩ ?_;refine Reg.tw 11 (v:=.int .i64 x.t) rfl ⟨O.o,bb.o,(Z.o).st.blk.cell 0,(Z.o).st.blk.cell 1⟩ (fun w' hS=>by obtain⟨hP,hA,ez,eg⟩:=hS;have a2:=(gn.o _ hA).1;go_simp<;>rfl) ?_;refine Reg.ty 12 rfl ⟨O.o,bb.o,(Z.o).st.blk.cell 0,(Z.o).st.blk.cell 1⟩ ?_;refine Reg.tw 13 (v:=.int .i64 x.q) rfl ⟨O.o,bb.o,(Z.o).st.blk.cell 0,(Z.o).st.blk.cell 1⟩ (fun w' hS=>by obtain⟨hP,hA,ez,eg⟩:=hS;have a3:=(gn.o _ hA).2;go_simp<;>rfl) ?_;refine Reg.b1 6 ?_
           right
           refine⟨_,_,_,_,_,_,26,#[Kd.prV p.P],rfl,by rfl,(by go_simp<;>first | rfl | exact⟨rfl,rfl⟩),?_⟩;refine Aj (CP.o _) ?_;rintro gI hb;replace Z:=I (Z.o.below hb);replace HR:=I (HR.o.below hb);replace O:=I (O.o.below hb);replace bb:=I (bb.o.below hb);replace HO:=I (HO.o.below hb);clear hb;clear CP;refine⟨_,rfl,⟨O.o,bb.o,(Z.o).st.blk.cell 0,(Z.o).st.blk.cell 1⟩,?_⟩;simp only[Act.put,U,Aa,Ab];refine Reg.tw 14 (v:=.agg cX) rfl ⟨O.o,bb.o,(Z.o).st.blk.cell 0,(Z.o).st.blk.cell 1⟩ (fun w' hS=>by obtain⟨hP,hA,ez,eg⟩:=hS;exact Rg.El (by simp only[List.map_toArray,List.map_cons,List.map_nil];rfl) gD.o) ?_;refine Reg.BG 15 rfl (by kernel_rfl) (by rfl) w.heap.size 42 _ cX HR.o (by rfl) (by rfl) (by rw[gw.o,fS.o]) gd.o gV.o ?_;intro gS hV hg;have hk:=Z.o.over Ag NR.o hg;replace O:=I (O.o.grown hg (fun e=>by injection e with e;exact fV.o.1 e));replace bb:=I (bb.o.grown hg (fun e=>by injection e with e;exact fV.o.2 e));have ew:=Rg.Bs (Chg.of_grown hg rfl:Chg (fun j=>j=w.heap.size) _ _) HO.o (fun k cx e=>fN.o k cx e);replace HO:=I ew;replace HR:=I hV;replace Z:=I hk;clear hV hg hk ew;refine⟨⟨O.o,bb.o,(Z.o).st.blk.cell 0,(Z.o).st.blk.cell 1⟩,?_⟩;simp only[Act.put,U,Aa,Ab];refine Reg.ty 16 rfl ⟨O.o,bb.o,(Z.o).st.blk.cell 0,(Z.o).st.blk.cell 1⟩ ?_;refine wpAnyH_done (by kernel_rfl) ?_ _
           go_wp2_with fail
           refine bodyPost_ret (v:=.tuple #[.agg cX,.int .i64 0]) ?_ ?_ ?_
           ·exact Rg.Ae (v:=.agg cX) 6 7 42 ⟨w.heap.size,0,none⟩ Tryz.results21 rfl (Wh.Ao HR.o Tryz.underlying42 (by rfl) gd.o) rfl
           ·rfl
           ·have hy:=bm (r:=r) (now:=now) ei.o.1 fU.o (gp.o▸Z.o) (v:=.slice A6 nl c6) rfl (ei.o.2.2.2▸HO.o) NO.o
            rw[ei.o.2.1,ei.o.2.2.1,ei.o.2.2.2] at hy;rw[EX.o];exact hy
          ·have t3:(k != 0)=true:=by simpa using hk0
           have eM:=I hk0;clear hk0
           go_upto_region 20 with(first
            |(refine Wh.AF (by rfl) 86 (.tmp 11) (by rfl) PT 0 (by rfl) cP _ (Wh.Ad O.o) Tryz.underlying86 (by rfl) fb.o ?_)
            |(go_at_call 47;refine Calls.mono (CQ.o _ Z.o.st) ?_;rintro e w6 ⟨A6,c6,rfl,ho,hb⟩;clear CQ;have fN:=I (fun k (hk:(Value.slice A6 nl c6).ownBlock=some k) (e:k=w.heap.size)=>(show False by have:=(ho.lt k hk).1;have:=HR.o.lt;omega));have HO:=I (ho.from_ Z.o.size:Own w6 w.heap.size (.slice A6 nl c6) ls);have NO:=I (fun k (hk:(Value.slice A6 nl c6).ownBlock=some k) (hx:AO p es2 u k)=>(show False by have:=(ho.lt k hk).1;have:=Z.o.st.ao_lt hx;omega));replace Z:=I (Z.o.below hb);replace HR:=I (HR.o.below hb);replace O:=I (O.o.below hb);replace bb:=I (bb.o.below hb);clear ho hb)
            |(refine Wh.AF (by rfl) 47 (.tmp 12) (by rfl) PA 0 (by rfl) cA _ (Wh.Ad bb.o) Tryz.underlying47 (by rfl) fz.o ?_)
            |(go_at_call 48;refine Aj (CW.o _ Z.o.st) ?_;rintro w7 ⟨u',hk⟩;clear CW;have aw:=hk.blk HR.o (fun y=>NR.o (.inl y));replace NR:=I (hk.notA NR.o HR.o.lt);replace HR:=I aw;clear aw;have aw:=hk.blk O.o (fun y=>cn.o (.inl y));replace O:=I aw;clear aw;have aw:=hk.blk bb.o (fun y=>gi.o (.inl y));replace bb:=I aw;clear aw;have ew:=Rg.Bs hk.chg HO.o (fun k cx=>NO.o k cx);replace NO:=I (fun k (cx:(Value.slice A6 nl c6).ownBlock=some k)=>hk.not (NO.o k cx) (HO.o.lt k cx).2);replace HO:=I (show Own w7 w.heap.size (.slice A6 nl c6) ls from ew);replace Z:=I (Z.o.trans hk);clear hk ew)
            |fail)
           go_wp2_with (first
            |(refine Mc.Al (by rfl) 42 #[] (by rfl) zz (by simp;exact ck.o) ?_)
            |(refine Wh.AW (by rfl) 42 (.tmp 6) (.tmp 89) (by rfl) w.heap.size 42 _ HR.o zz (by rfl) (by rfl) (by rfl) cj.o ed.o ?_;rintro V hV hg;replace HR:=I hV;replace Z:=I (Z.o.over Ag NR.o hg);clear hV hg ck)
            |fail)
           refine bodyPost_ret (v:=.tuple #[.agg zz,.int .i64 k]) ?_ ?_ ?_
           ·exact Rg.Ae (v:=.agg zz) 6 7 42 ⟨w.heap.size,0,none⟩ Tryz.results21 rfl (Wh.Ao HR.o Tryz.underlying42 (by rfl) cj.o) rfl
           ·rfl
           ·rw[<-ej.o];exact XK ei.o.1 fU.o (gp.o▸Z.o) eM.o
         ·replace E3:=I ((if_neg hye).symm.trans E3.o)
          have er:r=lk0 ye:=E3.o.symm;have fj:=I (show r.e=ye by rw[er];rfl);have t2:(ye != 0)=true:=by simpa using hye
          have eM:=I hye;clear hye er CW
          go_upto_region 17 with(first
           |(refine Wh.AF (by rfl) 86 (.tmp 11) (by rfl) PT 0 (by rfl) cP _ (Wh.Ad O.o) Tryz.underlying86 (by rfl) fb.o ?_)
           |(go_at_call 47;refine Calls.mono (CQ.o _ Z.o.st) ?_;rintro e w6 ⟨A6,c6,rfl,ho,hb⟩;clear CQ;have fN:=I (fun k (hk:(Value.slice A6 nl c6).ownBlock=some k) (e:k=w.heap.size)=>(show False by have:=(ho.lt k hk).1;have:=HR.o.lt;omega));have HO:=I (ho.from_ Z.o.size:Own w6 w.heap.size (.slice A6 nl c6) ls);have NO:=I (fun k (hk:(Value.slice A6 nl c6).ownBlock=some k) (hx:AO p es2 u k)=>(show False by have:=(ho.lt k hk).1;have:=Z.o.st.ao_lt hx;omega));replace Z:=I (Z.o.below hb);replace HR:=I (HR.o.below hb);replace O:=I (O.o.below hb);replace bb:=I (bb.o.below hb);clear ho hb)
           |fail)
          go_wp2_with (first
           |(refine Mc.Al (by rfl) 42 #[] (by rfl) zz (by simp;exact ck.o) ?_)
           |(refine Wh.AW (by rfl) 42 (.tmp 6) (.tmp 81) (by rfl) w.heap.size 42 _ HR.o zz (by rfl) (by rfl) (by rfl) cj.o ed.o ?_;rintro V hV hg;replace HR:=I hV;replace Z:=I (Z.o.over Ag NR.o hg);clear hV hg ck)
           |fail)
          refine bodyPost_ret (v:=.tuple #[.agg zz,.int .i64 ye]) ?_ ?_ ?_
          ·exact Rg.Ae (v:=.agg zz) 6 7 42 ⟨w.heap.size,0,none⟩ Tryz.results21 rfl (Wh.Ao HR.o Tryz.underlying42 (by rfl) cj.o) rfl
          ·rfl
          ·rw[<-ej.o];exact JV Z.o fj.o eM.o
        ·replace E2:=I ((if_neg hxe).symm.trans E2.o)
         have er:r=lk0 xe:=E2.o.symm;have fj:=I (show r.e=xe by rw[er];rfl);have t1:(xe != 0)=true:=by simpa using hxe
         have eM:=I hxe;clear hxe er
         go_wp2_with (first
          |(refine Mc.Al (by rfl) 42 #[] (by rfl) zz (by simp;exact ck.o) ?_)
          |(refine Wh.AW (by rfl) 42 (.tmp 6) (.tmp 71) (by rfl) w.heap.size 42 _ HR.o zz (by rfl) (by rfl) (by rfl) cj.o ed.o ?_;rintro V hV hg;replace HR:=I hV;replace Z:=I (Z.o.over Ag NR.o hg);clear hV hg ck)
          |fail)
         refine bodyPost_ret (v:=.tuple #[.agg zz,.int .i64 xe]) ?_ ?_ ?_
         ·exact Rg.Ae (v:=.agg zz) 6 7 42 ⟨w.heap.size,0,none⟩ Tryz.results21 rfl (Wh.Ao HR.o Tryz.underlying42 (by rfl) cj.o) rfl
         ·rfl
         ·rw[<-ej.o];exact JV Z.o fj.o eM.o
      ·replace E1:=I ((if_neg hke).symm.trans E1.o)
       have er:r=lk0 ke:=E1.o.symm;have fj:=I (show r.e=ke by rw[er];rfl);have t1:(ke != 0)=true:=by simpa using hke
       have eM:=I hke;clear hke er
       go_wp2_with (first
        |(refine Mc.Al (by rfl) 42 #[] (by rfl) zz (by simp;exact ck.o) ?_)
        |(refine Wh.AW (by rfl) 42 (.tmp 6) (.tmp 56) (by rfl) w.heap.size 42 _ HR.o zz (by rfl) (by rfl) (by rfl) cj.o ed.o ?_;rintro V hV hg;replace HR:=I hV;replace Z:=I (Z.o.over Ag NR.o hg);clear hV hg ck)
        |fail)
       refine bodyPost_ret (v:=.tuple #[.agg zz,.int .i64 ke]) ?_ ?_ ?_
       ·exact Rg.Ae (v:=.agg zz) 6 7 42 ⟨w.heap.size,0,none⟩ Tryz.results21 rfl (Wh.Ao HR.o Tryz.underlying42 (by rfl) cj.o) rfl
       ·rfl
       ·rw[<-ej.o];exact JV (Z.o.more (by omega)) fj.o eM.o
    ·replace E1:=I ((if_neg hsv).symm.trans E1.o)
     have er:r=lk0 9:=E1.o.symm;subst er;have q1:=DR hsv;clear hsv
     go_quiet (fail)
     have hd:=below_drewN (Below.refl V2.heap.size V2) nq;replace Z:=I (Z.o.below hd);replace HR:=I (HR.o.below hd);clear hd fT gg ez eg;generalize V2.drewN nq=V3 at Z HR⊢
     go_wp2_with (first
      |(refine Mc.Al (by rfl) 42 #[] (by rfl) zz (by simp;exact ck.o) ?_)
      |(refine Wh.AW (by rfl) 42 (.tmp 6) (.tmp 42) (by rfl) w.heap.size 42 _ HR.o zz (by rfl) (by rfl) (by rfl) cj.o ed.o ?_;rintro V hV hg;replace HR:=I hV;replace Z:=I (Z.o.over Ag NR.o hg);clear hV hg ck)
      |fail)
     refine bodyPost_ret (v:=.tuple #[.agg zz,.int .i64 9]) ?_ ?_ ?_
     ·exact Rg.Ae (v:=.agg zz) 6 7 42 ⟨w.heap.size,0,none⟩ Tryz.results21 rfl (Wh.Ao HR.o Tryz.underlying42 (by rfl) cj.o) rfl
     ·rfl
     ·rw[<-ej.o];exact JV (Z.o.more (by omega)) rfl (by decide)
   ·replace E0:=I ((if_neg hk4).symm.trans E0.o)
    have er:r=lk0 2:=E0.o.symm;subst er;have t4:(M.k != 4)=true:=by simpa using hk4
    clear hk4;go_enter Tryz.func21,Tryz.ntmps21
    go_upto_region 1 with fail
    rw[<-et.o,<-eW];clear eW et
    go_upto_region 3 with(first
     |(go_at_call 43;refine Aj (CT.o _) ?_;rintro wt hw;have hw:=hw.symm;subst hw;clear CT)
     |fail)
    go_upto_region 5 with(first
     |(go_at_call 44;refine Calls.mono (CD.o _ HV.o (fun j hj x=>by have:=Z.o.st.ao_lt x;omega)) ?_;rintro e w9 ⟨ds,bv,av,rfl,cQ,eJ,eb,eu,ep,hb⟩;clear CD HV;replace Z:=I (Z.o.below hb);replace HR:=I (HR.o.below hb);have eF:=I cQ;have eK:=I eJ;have eo:=I (show(Tryz.prog.info? 134).map (·.size)=some ds.size by rw[cQ];exact Mc.AZ);have eL:=I eb;have SB:=I (SlH.of eu);have SA:=I (SlH.of ep);clear cQ eJ eb eu ep hb)
     |(refine Wh.Bb (by rfl) 134 (.tmp 8) (.tmp 22) (by rfl) 134 rfl ds (by rfl) (by rfl) (by rw[eF.o];rfl) eo.o eK.o ?_;rintro V hV hb;have HM:=I hV;have NM:=I (Z.o.st.fresh (Nat.le_refl w9.heap.size));replace Z:=I (Z.o.below hb);replace HR:=I (HR.o.below hb);replace SB:=I (SB.o.below hb);replace SA:=I (SA.o.below hb);have fJ:=(eL.o V _ _ hV).1;clear hV hb eF eo eK)
     |fail)
    go_wp2_with (first
     |(refine Mc.Al (by rfl) 42 #[] (by rfl) zz (by simp;exact ck.o) ?_)
     |(refine Wh.AW (by rfl) 42 (.tmp 6) (.tmp 31) (by rfl) w.heap.size 42 _ HR.o zz (by rfl) (by rfl) (by rfl) cj.o ed.o ?_;rintro V hV hg;replace HR:=I hV;replace Z:=I (Z.o.over Ag NR.o hg);clear hV hg ck)
     |fail)
    refine bodyPost_ret (v:=.tuple #[.agg zz,.int .i64 2]) ?_ ?_ ?_
    ·exact Rg.Ae (v:=.agg zz) 6 7 42 ⟨w.heap.size,0,none⟩ Tryz.results21 rfl (Wh.Ao HR.o Tryz.underlying42 (by rfl) cj.o) rfl
    ·rfl
    ·rw[<-ej.o];exact JV (Z.o.more (by omega)) rfl (by decide)
end
end Ac
namespace Ac
open Go.RowKit Af Se Kd
open Nm (L Own)
open Rg (It Ent Ring RO its)
open Ms (An)
open Rp (seeE seeL Tm)
open Rt (Sm)
def okN (e:Int):Nat:=if e=0 then 1 else 0
def noN (e:Int):Nat:=if e=0 then 0 else 1
def TokP (w:World) (B:Nat) (p:SP) (es:List Ent) (u:Value) (on:Bool) (st:Int) (l:List An) (n m c:Nat) (r:Lk) (now:Int) (e:Ending) (w':World):Prop:=
 ∃A c2 es' u',e=.returned (.tuple #[.agg (acA (takA p.P r on st l now) (.slice A (takA p.P r on st l now).tr.length c2)),.int .i64 (takE r on st l now)])/\Own w' (w.heap.size+1) (.slice A (takA p.P r on st l now).tr.length c2) (takA p.P r on st l now).tr/\(∀k,(Value.slice A (takA p.P r on st l now).tr.length c2).ownBlock=some k->¬AO p es' u' k)/\Av w w' B p es u es' u' on st (takS r on st l now) (n+okN (takE r on st l now)) (m+noN (takE r on st l now)) c
section
variable {w:World} {B:Nat} {p:SP} {es:List Ent} {u:Value} {on:Bool} {st:Int} {l:List An} {n m c:Nat}
theorem Vj {r:Lk} {now:Int} (h:r.p.ss.length=32):(takA p.P r on st l now).ss.length=32:=by
 unfold takA
 split
 ·exact h
 ·rfl
theorem Vk (T:Rt.Tp) (P:Ms.Pr) (its:List It) (b:L) (now:Int):(lokL P T its b now).p.ss.length=32:=by
 unfold lokL
 split
 ·split
  ·rfl
  ·split
   ·unfold lokA
    split
    ·split
     ·unfold lokB
      split
      ·unfold lokC
       split
       ·exact(Nl _ _ _).1
       ·rfl
      ·rfl
     ·rfl
    ·rfl
   ·rfl
 ·rfl
theorem fp {bv:Value} {b:L} {now:Int} {r:Lk} (h:AD w B p es u on st l n m c) (hc:c<800000) (hn:n<900000) (hm:m<900000) (hl:es.length<=1000) (hT:Sm p.T) (hP:p.P.1.length<=1000000/\p.P.2.length<=1000000) (cb:Tm st) (cc:l.length<=1000) (hv:SlN (AO p es u) w bv b) (hr:lokL p.P p.T (its es) b now=r) :
  Calls Tryz.prog 7 #[.pointer (some ⟨p.a,0,none⟩),bv,.int .i64 now] w (TokP w B p es u on st l n m (c+2) r now):=by
 have cj:r.p.ss.length=32:=by rw[<-hr];exact Vk _ _ _ _ _
 obtain⟨zz,av⟩:=Ak (acA acc0 (.slice none 0 0));have cp:=I (show Tryz.prog.built 42 []=some zz by rw[av];exact No);have ca:=I (show zz.size=39 by rw[av];exact Hm rfl _);have ck:=I (show(Tryz.prog.info? 42).map (·.size)=some zz.size by rw[ca.o];exact Nn);have cw:=I (show zz.all (·.oneCell')=true by rw[av];exact JU _ rfl);have cy:=I (show acA acc0 (.slice none 0 0)=zz from av.symm);have bz:=I (av.trans Yz);obtain⟨W,eW⟩:=Ak (w.alloc (.cells zz 42));have hb:Below w.heap.size w W:=eW▸Ah.alloc Ag _;have cu:=I (show W.heap.size=w.heap.size+1 by rw[eW];simp);have Z:=I (show Blk W w.heap.size 42 zz from eW▸Blk.new w _ _);have M:=I (Av.start h hb);have NR:=I (h.fresh (Nat.le_refl w.heap.size));have CT:=I (fo (now:=now) (r:=r) M.o.st hc hl hT hP cb cc (hv.below hb) hr);have HN:=I hn;have HM:=I hm;have cx:=I (Vj (p:=p) (on:=on) (st:=st) (l:=l) (now:=now) cj);obtain⟨AB,mB,cd,_,_⟩:=hv;obtain⟨LB,bB⟩:=Ak (b.length);rw[<-bB] at cd;subst cd;obtain⟨k,ek⟩:=Ak (takE r on st l now);have EK:=I ek;have EA:=I (fun(h0:k≠0)=>(show takA p.P r on st l now=acc0 by rw[takA,<-ek,if_neg h0]));have cg:=I (show Calls Tryz.prog 21 #[.pointer (some ⟨p.a,0,none⟩),.slice AB LB mB,.int .i64 now] W fun e w'=>∃A c2 es' u',e=.returned (.tuple #[.agg (acA (takA p.P r on st l now) (.slice A (takA p.P r on st l now).tr.length c2)),.int .i64 k])/\Own w' W.heap.size (.slice A (takA p.P r on st l now).tr.length c2) (takA p.P r on st l now).tr/\(∀j,(Value.slice A (takA p.P r on st l now).tr.length c2).ownBlock=some j->¬AO p es' u' j)/\Av W w' B p es u es' u' on st (takS r on st l now) n m (c+2) from CT.o.mono (by
  rintro e w' ⟨v,es',u',rfl,h1,h2,h3,h4⟩;obtain⟨A,c2,rfl,_⟩:=h2.slice;exact⟨A,c2,es',u',by rw[ek],h2,h3,h4⟩))
 clear h hc hn hm hl hT hP cb cc hb hr cj av bB CT ek;go_enter Tryz.func7,Tryz.ntmps7
 go_upto_region 1 with fail
 rw[<-bz.o,<-eW];clear eW bz
 go_upto_region 4 with(first
  |(go_at_call 21;refine Calls.mono cg.o ?_;rintro e w6 ⟨A6,c6,bq,u1,rfl,ho,cq,hk⟩;clear cg;have cm:=hk.blk Z.o (fun y=>NR.o (.inl y));replace NR:=I (hk.notA NR.o Z.o.lt);replace Z:=I cm;replace M:=I (M.o.trans hk);have HO:=I (show Own w6 (w.heap.size+1) _ _ from cu.o▸ho);have ct:=I cq;clear cm hk ho cq;obtain⟨cX,aw⟩:∃z,z=acA (takA p.P r on st l now) (.slice A6 (takA p.P r on st l now).tr.length c6):=⟨_,rfl⟩;rw[<-aw];have bx:=I (show cX.size=39 by rw[aw];exact Hm cx.o _);have bn:=I (show(Tryz.prog.info? 42).map (·.size)=some cX.size by rw[bx.o];exact Nn);have cf:=I (show cX.all (·.oneCell')=true by rw[aw];exact JU _ rfl);have EX:=I aw;clear aw)
  |(refine Wh.Bb (by rfl) 42 (.tmp 8) (.tmp 18) (by rfl) 42 rfl cX (by rfl) (by rfl) (by rw[bx.o];rfl) bn.o cf.o ?_;rintro V hV hb;have HT:=I hV;have NT:=I (M.o.st.fresh (Nat.le_refl w6.heap.size));replace M:=I (M.o.below hb);replace Z:=I (Z.o.below hb);replace HO:=I (HO.o.below hb);clear hV hb)
  |fail)
 obtain⟨PT,cn⟩:=Ak (w6.heap.size);rw[<-cn] at HT NT⊢;clear cn
 by_cases hk:k=0
 ·subst hk
  have O:=add_one ⟨p.a,6,none⟩ n V (by have:=HN.o;omega) (M.o.st.blk.cell 6) (M.o.st.blk.frozen 6);have cr:AO p bq u1 p.a:=.inl rfl
  go_wp2_with (first
   |(go_at_call 22;refine Aj O ?_;rintro w7 hw;subst hw;clear O;have hk:=M.o.st.put6 (n+1);have bb:=Rg.Bs (Ed V p.a 6 (.int .i64 ((n+1:Nat):Int))) HO.o (fun j hj e=>ct.o j hj (e▸cr));replace HO:=I (show Own _ _ _ _ from bb);replace Z:=I (hk.blk Z.o (fun y=>NR.o (.inl y)));replace HT:=I (hk.blk HT.o (fun y=>NT.o (.inl y)));replace M:=I (M.o.trans hk);clear hk bb cr)
   |(refine Wh.AF (by rfl) 42 (.tmp 8) (by rfl) PT 0 (by rfl) cX _ (Wh.Ad HT.o) Tryz.underlying42 (by rfl) bn.o ?_)
   |(refine Wh.AW (by rfl) 42 (.tmp 6) (.tmp 32) (by rfl) w.heap.size 42 _ Z.o cX (by rfl) (by rfl) (by rw[ca.o,bx.o]) bn.o cf.o ?_;rintro V2 hV hg;have bb:=Rg.Bs (Chg.of_grown hg rfl:Chg (fun j=>j=w.heap.size) _ _) HO.o (fun j hj e=>by have:=(HO.o.lt j hj).1;omega);replace HO:=I (show Own _ _ _ _ from bb);replace Z:=I hV;replace M:=I (M.o.over Ag NR.o hg);clear hV hg bb)
   |fail)
  refine bodyPost_ret (v:=.tuple #[.agg cX,.int .i64 0]) ?_ ?_ ?_
  ·exact Rg.Ae (v:=.agg cX) 6 7 42 ⟨w.heap.size,0,none⟩ Tryz.results7 rfl (Wh.Ao Z.o Tryz.underlying42 (by rfl) bn.o) rfl
  ·rfl
  ·refine⟨A6,c6,bq,u1,by rw[<-EK.o,EX.o],HO.o,ct.o,?_⟩
   rw[<-EK.o];exact M.o
 ·have t1:(k != 0)=true:=by simpa using hk
  have O:=add_one ⟨p.a,7,none⟩ m V (by have:=HM.o;omega) (M.o.st.blk.cell 7) (M.o.st.blk.frozen 7);have bs:=I hk;clear hk HO
  go_wp2_with (first
   |(go_at_call 22;refine Aj O ?_;rintro w7 hw;subst hw;clear O;have hk:=M.o.st.put7 (m+1);replace Z:=I (hk.blk Z.o (fun y=>NR.o (.inl y)));replace M:=I (M.o.trans hk);clear hk)
   |(refine Mc.Al (by rfl) 42 #[] (by rfl) zz (by simp;exact cp.o) ?_)
   |(refine Wh.AW (by rfl) 42 (.tmp 6) (.tmp 26) (by rfl) w.heap.size 42 _ Z.o zz (by rfl) (by rfl) (by rfl) ck.o cw.o ?_;rintro V2 hV hg;replace Z:=I hV;replace M:=I (M.o.over Ag NR.o hg);clear hV hg cp)
   |fail)
  refine bodyPost_ret (v:=.tuple #[.agg zz,.int .i64 k]) ?_ ?_ ?_
  ·exact Rg.Ae (v:=.agg zz) 6 7 42 ⟨w.heap.size,0,none⟩ Tryz.results7 rfl (Wh.Ao Z.o Tryz.underlying42 (by rfl) ck.o) rfl
  ·rfl
  ·have e2:=EA.o bs.o
   unfold TokP;rw[e2,<-EK.o];refine⟨none,0,bq,u1,by rw[<-cy.o];rfl,Nm.Own.nil _ _,fun j hj=>by simp [Value.ownBlock] at hj,?_⟩;rw[show okN k=0 from if_neg bs.o,show noN k=1 from if_neg bs.o];exact M.o
theorem Np (h:AD w B p es u on st l n m c):Calls Tryz.prog 23 #[.pointer (some ⟨p.a,0,none⟩)] w fun e w'=>e=.returned (.tuple #[.int .i64 (n:Int),.int .i64 (m:Int)])/\Below w.heap.size w w':=by
 have HA:=I h;have M:w.cell? ⟨p.a,6,none⟩=some (.int .i64 (n:Int))/\w.cell? ⟨p.a,7,none⟩=some (.int .i64 (m:Int)):=⟨h.blk.cell 6,h.blk.cell 7⟩;have C1:=I (fun(w1:World) (O:w1.cell? ⟨p.a,6,none⟩=some (.int .i64 (n:Int)))=>Kt ⟨p.a,6,none⟩ n w1 O);have C2:=I (fun(w1:World) (O:w1.cell? ⟨p.a,7,none⟩=some (.int .i64 (m:Int)))=>Kt ⟨p.a,7,none⟩ m w1 O);have H1:=I (fun q=>show(w.drewN q).cell? ⟨p.a,6,none⟩=some (.int .i64 (n:Int)) from M.1);have Z:=I (fun q=>show(w.drewN q).cell? ⟨p.a,7,none⟩=some (.int .i64 (m:Int)) from M.2);clear h M;go_enter Tryz.func23,Tryz.ntmps23
 go_upto_region 3 with fail
 go_quiet (first | (go_at_call 50;refine(C1.o _ (H1.o _)).mono ?_;rintro e w' ⟨rfl,rfl⟩;exact⟨rfl,_,rfl⟩) | (go_at_call 50;refine(C2.o _ (Z.o _)).mono ?_;rintro e w' ⟨rfl,rfl⟩;exact⟨rfl,_,rfl⟩))
 go_wp2_with fail
 go_ret2
 exact⟨rfl,below_drewN Ah _⟩
end
end Ac
namespace Ac
open Go.RowKit Af Se Kd
open Nm (L Own)
open Rg (It Ent Ring RO its)
open Ms (Pt An Mg pSm tmB ptB anB)
open Rp (seeE seeL Tm)
def ptR (tr:L):Pt:=⟨pAnn,k1L 7,tr,0,1073741824⟩
def anR (now seq:Int):An:=⟨pAnn,now,seq⟩
theorem sAnn:pSm pAnn:=⟨by decide,by decide⟩
theorem fq (n:UInt8):keyA (k1L n)=Bk (k1 n):=by simp [bvs,k1L,Bk]
theorem bk_pr (f:Nat->UInt8) (c:Nm.L×Nm.L) (tr:L) (b:Int):Tryz.prog.built 86 [(0,Kd.prV c),(1,.agg (Bk f)),(2,.string ⟨tr.toArray⟩),(4,.int .i64 b)]=some (Ms.prC c++((Bk f).toList++([.string ⟨tr.toArray⟩,.int .i64 0,.int .i64 b]:List Value))).toArray:=by kernel_rfl
theorem Vl (tr:L):Tryz.prog.built 86 [(0,Kd.prV pAnn),(1,.agg (Bk (k1 7))),(2,.string ⟨tr.toArray⟩),(4,.int .i64 1073741824)]=some (ptA (ptR tr)):=by
 rw[bk_pr];show some (Ms.prC pAnn++((Bk (k1 7)).toList++_)).toArray=some (Ms.prC pAnn++(bvs (k1L 7)++_)).toArray;rw[<-fq];rfl
theorem JW (now seq:Int):Tryz.prog.built 47 [(0,Kd.prV pAnn),(1,.int .i64 now),(2,.int .i64 seq)]=some (anA (anR now seq)):=by kernel_rfl
theorem JX (now seq:Int) (tr:L) (w:World) (bb:tr.length<=1000000) :
  Calls Tryz.prog 6 #[.int .i64 now,.int .i64 seq,.string ⟨tr.toArray⟩] w fun e w'=>∃v,e=.returned (.tuple #[v,.bool (rqOk 2 2 (ptR tr) (anR now seq))])/\SlN (fun j=>j<w.heap.size) w' v (rqL 2 2 (ptR tr) (anR now seq))/\Below w.heap.size w w':=by
 obtain⟨cK,Z⟩:=Ak (Bk (k1 7));obtain⟨cP,O⟩:=Ak (ptA (ptR tr));obtain⟨cA,M⟩:=Ak (anA (anR now seq));have bx:=I (show Tryz.prog.built 39 [(0,.int .u8 7)]=some cK by rw[Z];exact IU 7);have bs:=I (show Tryz.prog.built 86 [(0,Kd.prV pAnn),(1,.agg cK),(2,.string ⟨tr.toArray⟩),(4,.int .i64 1073741824)]=some cP by rw[Z,O];exact Vl tr);have bn:=I (show Tryz.prog.built 47 [(0,Kd.prV pAnn),(1,.int .i64 now),(2,.int .i64 seq)]=some cA by rw[M];exact JW now seq);have CN:=I (fun(w1:World)=>ee w1);have CR:=I (show ∀w1:World,Calls Tryz.prog 19 #[.int .i64 2,.agg cP,.agg cA] w1 fun e w'=>∃v,e=.returned (.tuple #[v,.bool (rqOk 2 2 (ptR tr) (anR now seq))])/\SlN (fun j=>j<w1.heap.size) w' v (rqL 2 2 (ptR tr) (anR now seq))/\Below w1.heap.size w1 w' from fun w1=>by rw[O,M];exact bh w1 (FF 7) sAnn bb sAnn rfl);obtain⟨ok,aw⟩:=Ak (rqOk 2 2 (ptR tr) (anR now seq));obtain⟨bq,av⟩:=Ak (rqL 2 2 (ptR tr) (anR now seq));rw[<-aw,<-av] at CR⊢;have HB:=I (Below.refl w.heap.size w);clear Z O M aw av bb;go_enter Tryz.func6,Tryz.ntmps6
 go_wp2_with (first
  |(go_at_call 20;refine Aj (CN.o _) ?_;rintro wm hb;replace HB:=HB.t hb;clear hb)
  |(refine Mc.Al (by rfl) 39 #[(0,.const (.int .u8 7))] (by rfl) cK (by simp only[List.map_toArray,List.map_cons,List.map_nil];exact bx.o) ?_)
  |(refine Mc.Al (by rfl) 86 #[(0,.tmp 8),(1,.tmp 9),(2,.tmp 10),(4,.const (.int .i64 1073741824))] (by rfl) cP (by simp only[List.map_toArray,List.map_cons,List.map_nil];exact bs.o) ?_)
  |(refine Mc.Al (by rfl) 47 #[(0,.tmp 12),(1,.tmp 13),(2,.tmp 14)] (by rfl) cA (by simp only[List.map_toArray,List.map_cons,List.map_nil];exact bn.o) ?_)
  |(go_at_call 19;refine Calls.mono (CR.o _) ?_;rintro e wr ⟨v,rfl,hs,hb⟩;clear CR;have HV:=I (hs.mono (S':=fun j=>j<w.heap.size) (fun j _ x=>by have:=HB.o.size;omega));replace HB:=HB.t hb;clear hb hs)
  |fail)
 go_ret2
 exact⟨_,rfl,HV.o,HB.o⟩
section
variable {w:World} {B:Nat} {p:SP} {es:List Ent} {u:Value} {on:Bool} {st:Int} {l:List An} {n m c:Nat}
structure Sv (w:World) (B:Nat) (p:SP) (es:List Ent) (u:Value) (on:Bool) (st:Int) (l:List An) (n m c:Nat):Prop where
 ad:AD w B p es u on st l n m c
 e:its es=itS
 P:p.P=pSv
 T:p.T=tT
theorem Sv.below {w':World} (h:Sv w B p es u on st l n m c) (M:Below w.heap.size w w'):Sv w' B p es u on st l n m c:=⟨h.ad.below M,h.e,h.P,h.T⟩
theorem Sv.step {w':World} {es':List Ent} {u':Value} {on':Bool} {st':Int} {l':List An} {n' m' c':Nat} (h:Sv w B p es u on st l n m c) (k:Av w w' B p es u es' u' on' st' l' n' m' c'):Sv w' B p es' u' on' st' l' n' m' c':=⟨k.st,(OI k.eq).trans h.e,h.P,h.T⟩
theorem Scs.sv {w0:World} {g:Nat} (h:Scs w0 w g p es u st):Sv w w0.heap.size p es u (!decide (st=0)) st [] 0 0 0:=⟨h.ad,h.e,h.P,h.T⟩
def TokL (w:World) (B:Nat) (p:SP) (es:List Ent) (u:Value) (on:Bool) (st:Int) (c:Nat) (k:Int) (x:Acc) (l':List An) (n' m':Nat) (e:Ending) (w':World):Prop:=
 ∃cX es' u',e=.returned (.tuple #[.agg cX,.int .i64 k])/\cX.size=39/\cX.all (·.oneCell')=true/\(Tryz.prog.info? 42).map (·.size)=some cX.size/\(∃A c2,cX=acA x (.slice A x.tr.length c2)/\Own w' (w.heap.size+1) (.slice A x.tr.length c2) x.tr)/\Sv w' B p es' u' on st l' n' m' c/\Av w w' B p es u es' u' on st l' n' m' c
theorem LY {bv:Value} {b:L} {now:Int} {r:Lk} {S:Nat->Prop} {k:Int} {x:Acc} {l':List An} {n' m':Nat} (h:Sv w B p es u on st l n m c) (hc:c<800000) (hn:n<900000) (hm:m<900000) (aw:Tm st) (bn:l.length<=1000) (hv:SlN S w bv b) (hS:∀j,AO p es u j->S j) (hr:lokL pSv tT itS b now=r) (hk:takE r on st l now=k) (hx:takA pSv r on st l now=x) (bq:takS r on st l now=l') (bb:n+okN k=n') (av:m+noN k=m') :
  Calls Tryz.prog 7 #[.pointer (some ⟨p.a,0,none⟩),bv,.int .i64 now] w (TokL w B p es u on st (c+2) k x l' n' m'):=by
 have hl:es.length=2:=by have:=congrArg List.length h.e;rwa [Rg.Dm] at this
 have O:r.p.ss.length=32:=by rw[<-hr];exact Vk _ _ _ _ _
 have hP:p.P.1.length<=1000000/\p.P.2.length<=1000000:=h.P▸(show pSv.1.length<=1000000/\pSv.2.length<=1000000 by decide);refine(fp (r:=r) h.ad hc hn hm (by omega) (h.T▸af) hP aw bn (hv.mono fun j _ x=>hS j x) (by rw[h.P,h.T,h.e];exact hr)).mono ?_;rintro e w' ⟨A,c2,es',u',rfl,ho,Z,M⟩;rw[h.P] at ho Z;rw[hk,bq,bb,av] at M;rw[hx] at ho Z;rw[h.P,hk,hx];have hs:(acA x (.slice A x.tr.length c2)).size=39:=by rw[<-hx];exact Hm (Vj (p:=⟨p.a,p.r,p.q,p.lo,p.hi,pSv,p.T,p.v,p.v1,p.v2,p.v3⟩) O) _
 exact⟨_,es',u',rfl,hs,JU _ rfl,by rw[hs];exact Nn,⟨A,c2,rfl,ho⟩,h.step M,M⟩
end
def rE1:L:=[69,68,85]
theorem exp_E:Tr.expL rE1 rA rB=([rE1],0):=by decide +kernel
theorem all_E:Rt.GV tT rA rB [rE1]=true:=by decide +kernel
theorem pas_E {P:Pt} (M:P.c=pAnn) (O:P.tr=rE1):pasL tT rB P=(0,[rE1]):=by
 unfold pasL;rw[M,O,show pAnn.1=rA from rfl,exp_E,all_E]
 rfl
theorem fr {P:Pt} {a:An} (M:P.c=pAnn) (O:P.tr=rE1):lokC tT rB P a=⟨0,P,a,[rE1]⟩:=by
 unfold lokC;rw[pas_E M O];rfl
theorem Vm {tr:L} (h:Ms.txtB tr=true) (O:tr.length<=300):ptB (ptR tr)=true:=by
 have Z:Ms.prB pAnn=true:=by decide +kernel
 have M:(tmB 0&&tmB 1073741824)=true:=by decide
 unfold ptB;show(Ms.txtB tr&&(Ms.prB pAnn&&(decide (tr.length<=300)&&(tmB 0&&tmB 1073741824))))=true;rw[h,Z,M,decide_eq_true O];rfl
theorem Vn {now seq:Int} (Z:tmB now=true) (M:tmB seq=true):anB (anR now seq)=true:=by
 have O:Ms.prB pAnn=true:=by decide +kernel
 show(Ms.prB pAnn&&(tmB now&&tmB seq))=true;rw[O,Z,M];rfl
theorem lkd_R {tr:L} {now seq:Int} (h:tmB now=true):lkD (ptR tr) (anR now seq) now=lokC tT rB (ptR tr) (anR now seq):=by
 have M:=Ms.Be h;unfold lkD;rw[if_neg (show ¬(ptR tr).en<now by show ¬(1073741824:Int)<now;omega),if_neg (show ¬now+5<(ptR tr).st by show ¬now+5<(0:Int);omega),if_pos (show(anR now seq).c=(ptR tr).c from rfl)]
theorem Qe:rqOk 2 2 (ptR rE1) (anR 9 1)=true:=Uh (FF 7) (Vm (by decide) (by decide)) (Vn (by decide) (by decide)) (by decide) (by decide)
theorem Vo:lokL pSv tT itS (rqL 2 2 (ptR rE1) (anR 9 1)) 9=⟨0,ptR rE1,anR 9 1,[rE1]⟩:=by
 rw[du (FF 7) Qe (by decide),lkd_R (by decide),fr rfl rfl]
theorem Kz:seeE false 0 [] (anR 9 1) 9=0/\seeL false 0 [] (anR 9 1) 9 = [anR 9 1]:=by decide +kernel
theorem Rv:seeE false 0 [anR 9 1] (anR 9 1) 9=12:=by decide +kernel
theorem Pc:takE ⟨0,ptR rE1,anR 9 1,[rE1]⟩ false 0 [] 9=0/\takS ⟨0,ptR rE1,anR 9 1,[rE1]⟩ false 0 [] 9 = [anR 9 1]:=⟨Kz.1,Kz.2⟩
theorem Vp:takE ⟨0,ptR rE1,anR 9 1,[rE1]⟩ false 0 [anR 9 1] 9=12/\takS ⟨0,ptR rE1,anR 9 1,[rE1]⟩ false 0 [anR 9 1] 9 = [anR 9 1]:=⟨Rv,by decide +kernel⟩
theorem bo:takA pSv ⟨0,ptR rE1,anR 9 1,[rE1]⟩ false 0 [] 9=⟨pAnn,pSv,k1L 7,[rE1],9,1⟩:=by rw[takA,if_pos Pc.1];rfl
theorem XL {x:Acc} {v:Value} (h:x.ss.length=32):(acA x v)[0]? = some (.string ⟨x.c.1.toArray⟩)/\(acA x v)[1]? = some (.string ⟨x.c.2.toArray⟩)/\(acA x v)[36]? = some v:=by
 refine⟨rfl,rfl,?_⟩;show(Ms.prC x.c++(Ms.prC x.s++(bvs x.ss++([v,.int .i64 x.t,.int .i64 x.q]:List Value)))).toArray[36]? = _;rw[List.getElem?_toArray,List.getElem?_append_right (by simp [Ms.prC]),List.getElem?_append_right (by simp [Ms.prC]),List.getElem?_append_right (by simp [Ms.prC,bvs,h])];simp [Ms.prC,bvs,h]
theorem XM (w:World):Calls Tryz.prog 8 #[] w fun e w'=>e=.returned (.bool true)/\Below w.heap.size w w':=by
 have CB:=I (fun(w1:World)=>Hc 0 w1);have CR:=I (fun(w1:World)=>JX 9 1 rE1 w1 (by decide));obtain⟨bq,ca⟩:=Ak (rqL 2 2 (ptR rE1) (anR 9 1));have cg:=I (show lokL pSv tT itS bq 9=⟨0,ptR rE1,anR 9 1,[rE1]⟩ from ca▸Vo);rw[<-ca,Qe] at CR;clear ca;go_enter Tryz.func8,Tryz.ntmps8
 go_upto_region 5 with(first
  |(go_at_call 4;refine Calls.mono (CB.o _) ?_;rintro e w1 ⟨g,p,es,u,rfl,hs⟩;clear CB;have HV:=I (show Sv w1 w.heap.size p es u false 0 [] 0 0 0 from hs.sv);have Z:=I hs.b;obtain⟨x,hg⟩:=hs.blk;have HG:=I hg;have NG:=I hs.ng;clear hs hg)
  |(go_at_call 6;refine Calls.mono (CR.o _) ?_;rintro e w2 ⟨v,rfl,hs,O⟩;clear CR;have SV:=I (hs.mono (S':=AO p es u) (fun j _ x=>HV.o.ad.ao_lt x));replace HV:=I (HV.o.below O);replace HG:=I (HG.o.below O);replace Z:=Z.t O;clear hs O)
  |fail)
 have aw:=I HV.o.ad;have T1:=I (LY (r:=⟨0,ptR rE1,anR 9 1,[rE1]⟩) (now:=9) HV.o (by omega) (by omega) (by omega) (by decide) (by simp) SV.o (fun j x=>x) cg.o Pc.1 rfl Pc.2 (rfl:_=1) (rfl:_=0));obtain⟨x1,bB⟩:=Ak (takA pSv ⟨0,ptR rE1,anR 9 1,[rE1]⟩ false 0 [] 9);have cb:=I (bB.trans bo);rw[<-bB] at T1;clear bB;have kg:=HG.c0
 go_upto_region 6 with(first
  |(go_at_call 7;refine Calls.mono T1.o ?_;rintro e w3 ⟨cX,ck,u1,rfl,h1,h2,h3,h4,h5,hk⟩;clear T1 kg;have bs:=I h1;have bb:=I h2;have bn:=I h3;have cd:=I h4;replace HV:=I h5;have av:=hk.blk HG.o (fun y=>NG.o (.inl y));replace NG:=I (hk.notA NG.o HG.o.lt);replace HG:=I av;clear av;replace SV:=I (hk.sl SV.o);replace Z:=I (Z.o.trans (hk.base aw.o));clear h1 h2 h3 h4 h5 hk)
  |(refine Wh.Bb (by rfl) 42 (.tmp 4) (.tmp 24) (by rfl) 42 rfl cX (by rfl) (by rfl) (by rw[bs.o];rfl) bn.o bb.o ?_;rintro V hV O;have M:=I hV;have NT:=I (HV.o.ad.fresh (Nat.le_refl w3.heap.size));replace HV:=I (HV.o.below O);replace HG:=I (HG.o.below O);replace SV:=I (SV.o.below O);replace Z:=Z.t O;clear hV O)
  |fail)
 obtain⟨PT,cf⟩:=Ak (w3.heap.size);rw[<-cf] at M NT⊢;clear cf aw;have aw:=I HV.o.ad;have T2:=I (LY (r:=⟨0,ptR rE1,anR 9 1,[rE1]⟩) (now:=9) HV.o (by omega) (by omega) (by omega) (by decide) (by simp) SV.o (fun j x=>x) cg.o Vp.1 rfl Vp.2 (rfl:_=1) (rfl:_=1));have kg:=HG.c0
 go_upto_region 7 with(first
  |(go_at_call 7;refine Calls.mono T2.o ?_;rintro e w5 ⟨cY,es2,u2,rfl,h1,h2,h3,h4,h5,hk⟩;clear T2 kg;have bs:=I h1;have bb:=I h2;have bn:=I h3;replace HV:=I h5;have av:=hk.blk HG.o (fun y=>NG.o (.inl y));replace NG:=I (hk.notA NG.o HG.o.lt);replace HG:=I av;clear av;have cc:=hk.blk M.o (fun y=>NT.o (.inl y));replace M:=I cc;clear cc;replace Z:=I (Z.o.trans (hk.base aw.o));clear h1 h2 h3 h4 h5 hk)
  |(refine Wh.Bb (by rfl) 42 (.tmp 6) (.tmp 33) (by rfl) 42 rfl cY (by rfl) (by rfl) (by rw[bs.o];rfl) bn.o bb.o ?_;rintro V2 hV O;replace M:=I (M.o.below O);replace HV:=I (HV.o.below O);replace HG:=I (HG.o.below O);replace Z:=Z.t O;clear hV O bs bn bb)
  |fail)
 have CC:=I (Np HV.o.ad);have kg:=HG.c0
 go_upto_region 8 with(first
  |(go_at_call 23;refine Aj CC.o ?_;rintro w6 O;clear CC kg;replace M:=I (M.o.below O);replace Z:=Z.t O;clear O)
  |fail)
 obtain⟨A,c2,bx,_⟩:=cd.o;rw[cb.o] at bx;have HC:=I (fun(w1:World) (O:Blk w1 PT 42 cX)=>(show w1.cell? ⟨PT,0,none⟩=some (.string ⟨pAnn.1.toArray⟩)/\w1.cell? ⟨PT,1,none⟩=some (.string ⟨pAnn.2.toArray⟩)/\w1.cell? ⟨PT,36,none⟩=some (.slice A 1 c2) by
  rw[bx] at O;have:=XL (x:=⟨pAnn,pSv,k1L 7,[rE1],9,1⟩) (v:=.slice A 1 c2) (FF 7);exact⟨(O.cell 0).trans this.1,(O.cell 1).trans this.2.1,(O.cell 36).trans this.2.2⟩))
 clear bx cd cb HV HG NG NT SV;have CN:=I (fun(w1:World)=>ee w1);have bz:Below w6.heap.size w6 w6.drew:=below_drewN Ah 1;replace M:=I (M.o.below bz);replace Z:=Z.t bz;clear bz;refine Reg.BQ (fun w'=>Blk w' PT 42 cX) 27 rfl (by kernel_rfl) M.o ?_;refine Reg.ty 0 rfl M.o ?_;refine Reg.ty 1 (v:=.bool true) rfl M.o ?_;refine Reg.ty 2 (v:=.bool true) rfl M.o ?_;refine Reg.ty 3 rfl M.o ?_;refine Reg.ty 4 (v:=.bool true) rfl M.o ?_;refine Reg.ty 5 (v:=.bool true) rfl M.o ?_;refine Reg.ty 6 (v:=.bool true) rfl M.o ?_;refine Reg.ty 7 rfl M.o ?_;refine Reg.tw 8 (v:=Kd.prV pAnn) rfl M.o (fun w' hS=>by have p0:=(HC.o _ hS).1;have p1:=(HC.o _ hS).2.1;go_simp<;>rfl) ?_;refine Reg.b1 9 ?_
 right
 refine⟨_,_,_,_,_,_,20,#[],rfl,by rfl,(by go_simp<;>first | rfl | exact⟨rfl,rfl⟩),?_⟩;refine Aj (CN.o _) ?_;rintro cj O;replace M:=I (M.o.below O);replace Z:=Z.t O;clear O;clear CN;refine⟨_,rfl,M.o,?_⟩;simp only[Act.put,U,Aa,Ab];refine Reg.ty 10 (v:=.bool true) rfl M.o ?_;refine Reg.ty 11 (v:=.bool true) rfl M.o ?_;refine Reg.ty 12 (v:=.bool true) rfl M.o ?_;refine Reg.ty 13 rfl M.o ?_;refine Reg.tw 14 (v:=.slice A 1 c2) rfl M.o (fun w' hS=>by have cm:=(HC.o _ hS).2.2;go_simp<;>rfl) ?_;refine Reg.ty 15 (v:=.int .i64 1) rfl M.o ?_;refine Reg.ty 16 (v:=.bool true) rfl M.o ?_;refine Reg.ty 17 (v:=.bool true) rfl M.o ?_;refine Reg.ty 18 (v:=.bool true) rfl M.o ?_;refine Reg.ty 19 rfl M.o ?_;refine Reg.ty 20 (v:=.bool true) rfl M.o ?_;refine Reg.ty 21 (v:=.bool true) rfl M.o ?_;refine Reg.ty 22 (v:=.bool true) rfl M.o ?_;refine Reg.ty 23 rfl M.o ?_;refine Reg.ty 24 (v:=.bool true) rfl M.o ?_;refine Reg.ty 25 (v:=.bool true) rfl M.o ?_;refine Reg.ty 26 rfl M.o ?_;refine wpAnyH_done (by kernel_rfl) ?_ _
 go_wp2_with fail
 go_ret;exact⟨rfl,Z.o⟩
theorem Rw {n:Int} (O:0<=n) (M:n<=1073741824):tmB n=true:=by simp [tmB,Ms.inB,O,M]
open Rp (DG Ky Inv MX JI OC Lu OD Ug)
theorem and3 (n:Int):bits .and .i64 n 3=n % 4:=by
 have M:(BitVec.ofInt 64 3).toNat=2 ^ 2 - 1:=by decide
 have key:(BitVec.ofInt 64 n &&& BitVec.ofInt 64 3).toNat=(n % ((2 ^ 64:Nat):Int)).toNat % 2 ^ 2:=by
  rw[BitVec.toNat_and,BitVec.toNat_ofInt,M,Nat.and_two_pow_sub_one_eq_mod]
 show IntKind.i64.wrap ((BitVec.ofInt 64 n &&& BitVec.ofInt 64 3).toNat:Nat)=n % 4;rw[key,IntKind.wrap_i64];omega
theorem and7 (n:Int):bits .and .i64 n 7=n % 8:=by
 have M:(BitVec.ofInt 64 7).toNat=2 ^ 3 - 1:=by decide
 have key:(BitVec.ofInt 64 n &&& BitVec.ofInt 64 7).toNat=(n % ((2 ^ 64:Nat):Int)).toNat % 2 ^ 3:=by
  rw[BitVec.toNat_and,BitVec.toNat_ofInt,M,Nat.and_two_pow_sub_one_eq_mod]
 show IntKind.i64.wrap ((BitVec.ofInt 64 n &&& BitVec.ofInt 64 7).toNat:Nat)=n % 8;rw[key,IntKind.wrap_i64];omega
def onR (a:An):Lk:=⟨0,ptR rE1,a,[rE1]⟩
theorem YA {t q now:Int} (h1:tmB t=true) (Z:tmB q=true) (O:tmB now=true):rqOk 2 2 (ptR rE1) (anR t q)=true/\lokL pSv tT itS (rqL 2 2 (ptR rE1) (anR t q)) now=onR (anR t q):=by
 have M:rqOk 2 2 (ptR rE1) (anR t q)=true:=Uh (FF 7) (Vm (by decide) (by decide)) (Vn h1 Z) (by decide) (by decide);refine⟨M,?_⟩;rw[du (FF 7) M O];have h4:=Ms.Be O;unfold lkD;rw[if_neg (show ¬(ptR rE1).en<now by show ¬(1073741824:Int)<now;omega),if_neg (show ¬now+5<(ptR rE1).st by show ¬now+5<(0:Int);omega),if_pos (show(anR t q).c=(ptR rE1).c from rfl),fr rfl rfl];rfl
theorem YB {a:An} {on:Bool} {st now:Int} {ls:List An} (h:seeE on st ls a now=0):takA pSv (onR a) on st ls now=⟨pAnn,pSv,k1L 7,[rE1],a.t,a.q⟩:=by
 rw[takA,if_pos (show takE (onR a) on st ls now=0 from h)];rfl
theorem YC {x:Acc} {v:Value} (h:x.ss.length=32):(acA x v)[37]? = some (.int .i64 x.t)/\(acA x v)[38]? = some (.int .i64 x.q):=by
 constructor <;>
 ·show(Ms.prC x.c++(Ms.prC x.s++(bvs x.ss++([v,.int .i64 x.t,.int .i64 x.q]:List Value)))).toArray[_]? = _
  rw[List.getElem?_toArray,List.getElem?_append_right (by simp [Ms.prC]),List.getElem?_append_right (by simp [Ms.prC]),List.getElem?_append_right (by simp [Ms.prC,bvs,h])];simp [Ms.prC,bvs,h]
theorem YD {w w':World} {B:Nat} {p:SP} {es:List Ent} {u:Value} {on:Bool} {st:Int} {l:List An} {n m c:Nat} {S:Nat->Prop} (h:Sv w B p es u on st l n m c) (M:Chg S w w') (hs:∀j,AA p es u j->¬S j):Sv w' B p es u on st l n m c:=
 ⟨h.ad.chg M hs,h.e,h.P,h.T⟩
theorem Qf {n:Int} (h:0<=n/\n<=1000):(Lit.int .i64 n).wf=true:=by
 simp [Lit.wf,IntKind.min,IntKind.max,IntKind.signed,IntKind.bits];omega
theorem ft {t q:Int} (O:0<=t/\t<=1000) (M:0<=q/\q<=1000):Ky (anR t q):=
 ⟨(show pAnn.1.length<=maxLen by unfold maxLen;decide),(show pAnn.2.length<=maxLen by unfold maxLen;decide),Qf O,Qf M⟩
theorem fw (N M O:Nat) (A1 A2 A3:Option Addr) (c1 c2 c3:Nat) (w:World) (h:40<N\/M<N\/O<N):Calls Tryz.prog 3 #[.slice A1 N c1,.slice A2 M c2,.slice A3 O c3] w fun e w'=>e=.returned (.bool true)/\Below w.heap.size w w':=by
 by_cases g0:40<N
 ·have Z:(40:Int)<(N:Int):=by omega
  clear h g0;go_enter Tryz.func3,Tryz.ntmps3
  go_wp2
  go_ret;exact⟨rfl,Below.refl _ _⟩
 have Z:¬(40:Int)<(N:Int):=by omega
 by_cases g1:M<N
 ·have f1:(M:Int)<(N:Int):=by omega
  clear h g1 g0;go_enter Tryz.func3,Tryz.ntmps3
  go_wp2
  go_ret;exact⟨rfl,Below.refl _ _⟩
 have f1:¬(M:Int)<(N:Int):=by omega
 have f2:(O:Int)<(N:Int):=by omega
 clear h g0 g1;go_enter Tryz.func3,Tryz.ntmps3
 go_wp2
 go_ret;exact⟨rfl,Below.refl _ _⟩
theorem bp (N N2 N3:Nat) (A1 A2 A3:Option Addr) (c1 c2 c3:Nat) (zs ys:List Int) (bs:List Bool) (w:World) (h:N<=40/\N<=N2/\N<=N3) (e1:N=zs.length) (e2:N2=ys.length) (e3:N3=bs.length) (r1:Rd w w.heap.size A1 (zs.map (Value.int .i64))) (r2:Rd w w.heap.size A2 (ys.map (Value.int .i64))) (r3:Rd w w.heap.size A3 (bs.map Value.bool)):Calls Tryz.prog 3 #[.slice A1 N c1,.slice A2 N2 c2,.slice A3 N3 c3] w fun e w'=>e=.returned (.bool true)/\Below w.heap.size w w':=by
  have f0:¬(40:Int)<(N:Int):=by omega
  have f1:¬(N2:Int)<(N:Int):=by omega
  have f2:¬(N3:Int)<(N:Int):=by omega
  have H:=I h;have E1:=I e1;have E2:=I e2;have E3:=I e3;have R1:=I r1;have R2:=I r2;have R3:=I r3;clear h e1 e2 e3 r1 r2 r3;have CB:=I (fun(w1:World)=>Hc 0 w1);have eJ:=I (fun(w1:World)=>XM w1);have eX:=@run_makeMap Tryz.prog;go_enter Tryz.func3,Tryz.ntmps3
  go_wp2_with (first
    |(go_at_call 4;refine Calls.mono (CB.o _) ?_;rintro e w1 ⟨g,p,es,u,rfl,hs⟩;clear CB;have Z:=I (show Sv w1 w.heap.size p es u false 0 [] 0 0 0 from hs.sv);have O:=I hs.b;obtain⟨x,hg⟩:=hs.blk;have HG:=I hg;have NG:=I hs.ng;clear hs hg)
    |fail)
  obtain⟨mm,em⟩:=Ak (w1.heap.size);obtain⟨W3,cP⟩:=Ak (w1.alloc (.map #[] 0));have M:Below w1.heap.size w1 W3:=cP▸Ah.alloc Ag _;have HS:=I (show DG W3 mm 0 [] by rw[cP,em];exact DG.made w1);have NM:=I (show ¬AA p es u mm by rw[em];exact Z.o.ad.fresh Ag);have cR:=I (show mm≠g/\w.heap.size<=mm from⟨fun e=>by have:=HG.o.lt;omega,by rw[em];exact O.o.size⟩);replace Z:=I (Z.o.below M);replace HG:=I (HG.o.below M);replace O:=O.t M;rw[<-cP,<-em];clear cP em M
  go_loopw [8,10] (fun nv iv wr=>∃(i:Nat) (now st:Int) (on:Bool) (es:List Ent) (u:Value) (ls S:List An) (n m:Nat),i<=N/\iv=.int .i64 (i:Int)/\nv=.int .i64 now/\(0<=now/\now<=3*(i:Int))/\(0<=st/\st<=120)/\(n<=i/\m<=i)/\Sv wr w.heap.size p es u on st ls n m (2*i)/\Blk wr g 30 #[.pointer (some ⟨p.a,0,none⟩),.pointer (some ⟨x,0,none⟩)]/\¬AA p es u g/\Below w.heap.size w wr/\ls.length<=8/\DG wr mm i S/\(∀y∈S,Ky y)/\¬AA p es u mm/\Inv on st ls S now) (fun _ iv _=>N - (intOf iv).toNat)
  case atStart=>exact⟨0,0,0,false,es,u,[],[],0,0,Nat.zero_le _,rfl,rfl,by omega,by omega,by omega,Z.o,HG.o,NG.o,O.o,by simp,HS.o,by simp,NM.o,MX _ _ _ _⟩
  case round=>
    clear Z HG NG O HS NM;obtain⟨i,now,st,on,es,u,ls,S,n,m,hi,rfl,rfl,eR,ew,cQ,hv,hg,hn,M,hle,hs,eB,ez,hinv⟩:=hrel;have Z:=I hv;have HG:=I hg;have NG:=I hn;have O:=I M;have eM:=I hle;have HS:=I hs;have cj:=I eB;have NM:=I ez;have cg:=I hinv;have eb:=I ew;have eN:=I cQ;clear hv hg hn M hle hs eB ez hinv ew cQ
    by_cases hlt:i<N
    · have e1 : (i : Int) < (N : Int) := by omega
      have e2:(0:Int)<=(i:Int):=by omega
      have e3:(i:Int)<(N2:Int):=by have:=H.o;omega
      have e4:(i:Int)<(N3:Int):=by have:=H.o;omega
      have hN:=H.o;obtain⟨z,hz⟩:∃z,zs[i]? = some z:=⟨zs[i]'(by rw[<-E1.o];exact hlt),List.getElem?_eq_getElem _⟩;obtain⟨y,hy⟩:∃y,ys[i]? = some y:=⟨ys[i]'(by rw[<-E2.o];omega),List.getElem?_eq_getElem _⟩;obtain⟨b,eP⟩:∃b,bs[i]? = some b:=⟨bs[i]'(by rw[<-E3.o];omega),List.getElem?_eq_getElem _⟩;obtain⟨g1,o1,rfl,eL,eQ⟩:=R1.o.at_ (i:=i) (u:=.int .i64 z) (by simp [hz]);obtain⟨g2,o2,rfl,ev,eu⟩:=R2.o.at_ (i:=i) (u:=.int .i64 y) (by simp [hy]);obtain⟨g3,o3,rfl,eF,eE⟩:=R3.o.at_ (i:=i) (u:=.bool b) (by simp [eP]);have K1:=I (fun(w9:World) (h:Below w.heap.size w w9)=>(show w9.cell? ⟨g1,o1+i,none⟩=some (.int .i64 z) from(h.cell (p:=⟨g1,_,none⟩) eL).trans eQ));have K2:=I (fun(w9:World) (h:Below w.heap.size w w9)=>(show w9.cell? ⟨g2,o2+i,none⟩=some (.int .i64 y) from(h.cell (p:=⟨g2,_,none⟩) ev).trans eu));have K3:=I (fun(w9:World) (h:Below w.heap.size w w9)=>(show w9.cell? ⟨g3,o3+i,none⟩=some (.bool b) from(h.cell (p:=⟨g3,_,none⟩) eF).trans eE));clear hz hy eP eL eQ ev eu eF eE;obtain⟨dy,eW,eV⟩:∃d:Int,bits .and .i64 y 3=d/\0<=d/\d<=3:=⟨_,rfl,by rw[and3];omega⟩;obtain⟨dz,fb,eT⟩:∃d:Int,bits .and .i64 (z / 16) 7=d/\0<=d/\d<=7:=⟨_,rfl,by rw[and7];omega⟩;obtain⟨q,eq,hq⟩:∃d:Int,bits .and .i64 z 7=d/\0<=d/\d<=7:=⟨_,rfl,by rw[and7];omega⟩;have u1:IntKind.i64.wrap (now+dy)=now+dy:=by rw[IntKind.wrap_i64];omega
      obtain⟨nw,eK⟩:=Ak (now+dy);have u2:IntKind.i64.wrap (nw - dz)=nw - dz:=by rw[IntKind.wrap_i64];omega
      have av:=I (show now<=nw/\0<=nw/\nw<=3*((i:Int)+1)/\nw<=120 by omega);have k2:=K2.o _ O.o;have k3:=K3.o _ O.o
      go_upto_region 12 with fail
      rw[<-eK];clear eK u1 k2;cases b with
      |false=>
        go_upto_region 14 with fail
        clear k3;obtain⟨t,et⟩:=Ak (max 0 (nw - dz));have ht:0<=t/\t<=120:=by have:=av.o;omega
        obtain⟨a,ea⟩:=Ak (anR t q);obtain⟨bq,cb⟩:=Ak (rqL 2 2 (ptR rE1) (anR t q));have cd:=YA (t:=t) (q:=q) (now:=nw) (Rw ht.1 (by omega)) (Rw hq.1 (by omega)) (Rw av.o.2.1 (by have:=av.o;omega));have CR:=I (fun(w1:World)=>(show Calls Tryz.prog 6 #[.int .i64 t,.int .i64 q,.string ⟨#[69,68,85]⟩] w1 fun e w'=>∃v,e=.returned (.tuple #[v,.bool true])/\SlN (fun j=>j<w1.heap.size) w' v bq/\Below w1.heap.size w1 w' by
          have h:=JX t q rE1 w1 (by decide);rw[cd.1] at h;rw[cb];exact h))
        obtain⟨k,ek⟩:=Ak (seeE on st ls a nw);obtain⟨bb,aw⟩:=Ak (seeL on st ls a nw);obtain⟨x1,cf⟩:=Ak (takA pSv (onR a) on st ls nw);have ef:=I (show lokL pSv tT itS bq nw=onR a by rw[cb,ea];exact cd.2);have cL:=I (show Inv on st bb S nw by rw[aw];exact Lu cg.o av.o.1);have cr:=I (fun(h:k=0)=>(show Inv on st bb (a :: S) nw by rw[aw];exact OD cg.o av.o.1 (ek.symm.trans h)));have cu:=I (fun(h:k=0)=>(show ¬a∈S from OC cg.o av.o.1 (ek.symm.trans h)));have cw:=I (show bb.length<=8 by rw[aw];exact Ug eM.o);have ej:=I (fun(h:k=0)=>(show x1=⟨pAnn,pSv,k1L 7,[rE1],t,q⟩ by rw[cf,YB (ek.symm.trans h),ea];rfl));have cc:=I (show Ky a by rw[ea];exact ft ⟨ht.1,by omega⟩ ⟨hq.1,by omega⟩);have EA:=I ea;have cQ:=eN.o;have T0:=I (fun(w1:World) (v:Value) (hv:Sv w1 w.heap.size p es u on st ls n m (2*i)) (hs:SlN (AO p es u) w1 v bq)=>LY (k:=k) (x:=x1) (n':=n+okN k) (m':=m+noN k) hv (by omega) (by omega) (by omega) (show Tm st by have:=eb.o;exact⟨this.1,by omega⟩) (by have h8:List.length ls<=8:=eM.o;omega) hs (fun j x=>x) ef.o ((show takE (onR a) on st ls nw=seeE on st ls a nw from if_pos rfl).trans ek.symm) cf.symm ((show takS (onR a) on st ls nw=seeL on st ls a nw from if_pos rfl).trans aw.symm) rfl rfl);have k1:=K1.o _ O.o;clear ea cb cd ek aw cf
        go_upto_region 15 with fail
        rw[<-et];clear et
        go_upto_region 18 with(first
          |(go_at_call 6;refine Calls.mono (CR.o _) ?_;rintro e w3 ⟨v,rfl,hs,M⟩;clear CR;have SV:=I (hs.mono (S':=AO p es u) (fun j _ x=>Z.o.ad.ao_lt x));replace Z:=I (Z.o.below M);replace HG:=I (HG.o.below M);replace HS:=I (HS.o.below M);replace O:=O.t M;clear hs M)
          |fail)
        have T1:=I (T0.o _ _ Z.o SV.o);clear T0;have kg:=HG.c0;have bn:=I Z.o.ad
        go_upto_region 19 with(first
          |(go_at_call 7;refine Calls.mono T1.o ?_;rintro e w4 ⟨cX,cy,u1,rfl,h1,h2,h3,h4,h5,hk⟩;clear T1 kg;have cp:=I h1;have cm:=I h2;have cA:=I h3;have cB:=I h4;replace Z:=I h5;have bx:=hk.blk HG.o (fun y=>NG.o (.inl y));replace NG:=I (hk.notA NG.o HG.o.lt);replace HG:=I bx;clear bx;have bz:=HS.o.lt;replace HS:=I (HS.o.chg hk.chg (fun y=>NM.o (.inl y)));replace NM:=I (hk.notA NM.o bz);clear bz;replace O:=I (O.o.trans (hk.base bn.o));clear h1 h2 h3 h4 h5 hk bn)
          |(refine Wh.Bb (by rfl) 42 (.tmp 14) (.tmp 90) (by rfl) 42 rfl cX (by rfl) (by rfl) (by rw[cp.o];rfl) cA.o cm.o ?_;rintro V hV M;have HT:=I hV;replace Z:=I (Z.o.below M);replace HG:=I (HG.o.below M);replace HS:=I (HS.o.below M);replace O:=O.t M;clear hV M cp cA cm)
          |fail)
        clear k1
        by_cases hk0:k=0
        · have cM := ej.o hk0
          have cT:=cr.o hk0;have ec:=cu.o hk0;subst hk0;obtain⟨PT,ct⟩:=Ak (w4.heap.size);rw[<-ct] at HT⊢;clear ct;obtain⟨A,cx,ca,_⟩:=cB.o;rw[cM] at ca;have hc:V.cell? ⟨PT,0,none⟩=some (.string ⟨pAnn.1.toArray⟩)/\V.cell? ⟨PT,1,none⟩=some (.string ⟨pAnn.2.toArray⟩)/\V.cell? ⟨PT,37,none⟩=some (.int .i64 t)/\V.cell? ⟨PT,38,none⟩=some (.int .i64 q):=by
            have M:=HT.o;rw[ca] at M;have h2:=YC (x:=⟨pAnn,pSv,k1L 7,[rE1],t,q⟩) (v:=.slice A 1 cx) (FF 7);exact⟨M.cell 0,M.cell 1,(M.cell 37).trans h2.1,(M.cell 38).trans h2.2⟩
          have p0:=hc.1;have p1:=hc.2.1;have er:=hc.2.2.1;have ei:=hc.2.2.2;have ep:=I (show Tryz.prog.built 47 [(0,Kd.prV pAnn),(1,.int .i64 t),(2,.int .i64 q)]=some (anA a) by rw[EA.o];exact JW t q);clear hc ca cM cB EA
          go_upto_region 21 with(first
            |(refine Mc.Al (by rfl) 47 #[(0,.tmp 95),(1,.tmp 97),(2,.tmp 99)] (by rfl) (anA a) (by simp only[List.map_toArray,List.map_cons,List.map_nil];exact ep.o) ?_)
            |(refine Wh.Bb (by rfl) 47 (.tmp 16) (.tmp 100) (by rfl) 47 rfl (anA a) (by rfl) (by rfl) (by rfl) (Hl a) (Rp.LH a) ?_;rintro V2 hV M;have HA:=I hV;replace Z:=I (Z.o.below M);replace HG:=I (HG.o.below M);replace HS:=I (HS.o.below M);replace O:=O.t M;clear hV M)
            |fail)
          obtain⟨PA,ck⟩:=Ak (V.heap.size);rw[<-ck] at HA⊢;clear ck p0 p1 er ei;have eg:(Instr.lookup 26 (.map (some mm)) (.agg (anA a)) false).run Tryz.prog V2=.ok (.bool false) V2:=HS.o.look cc.o cj.o ec
          go_wp2_with (first
            |(refine Wh.AF (by rfl) 47 (.tmp 16) (by rfl) PA 0 (by rfl) (anA a) _ (Wh.Ad HA.o) Tryz.underlying47 (by rfl) (Hl a) ?_)
            |(at_mapUpdate;refine Rp.UD (by rfl) (.tmp 104) (.tmp 105) _ (by rfl) mm i S a (by rfl) (by rfl) (by rfl) HS.o cc.o (by unfold maxLen;omega) ?_;intro w6 cn cq;have eo:=I cn;have cY:=I cq;clear cn cq eg)
            |fail)
          go_roundw
          case rel=>
            have hc:Chg (fun j=>j=mm) V2 w6:=Chg.of_grown cY.o rfl;exact⟨i+1,nw,st,on,cy,u1,bb,a :: S,n+1,m,by omega,by go_num,rfl,by have:=av.o;omega,eb.o,by omega,(show 2*(i+1)=2*i+2 by omega)▸YD Z.o hc (fun j hj e=>NM.o (e▸hj)),hc.blk HG.o (fun e=>cR.o.1 e.symm),NG.o,O.o.trans (hc.below (Nat.le_trans Ag O.o.size) (fun j _ e=>e▸cR.o.2)),cw.o,eo.o,fun y hy=>(by
              rcases List.mem_cons.1 hy with rfl | hy
              · exact cc.o
              · exact cj.o y hy), NM.o, cT⟩
          case measure=>simp [intOf];omega
        · have ho : okN k = 0 := if_neg hk0
          have ed:noN k=1:=if_neg hk0;rw[ho,ed] at Z;have q1:(k != 0)=true:=by simpa using hk0
          go_wp2
          go_roundw
          case rel=>exact⟨i+1,nw,st,on,cy,u1,bb,S,n,m+1,by omega,by go_num,rfl,by have:=av.o;omega,eb.o,by omega,(show 2*(i+1)=2*i+2 by omega)▸Z.o,HG.o,NG.o,O.o,cw.o,HS.o.more (by omega),cj.o,NM.o,cL.o⟩
          case measure=>simp [intOf];omega
      |true=>
        have ey:=I (fun(w1:World) (h:AD w1 w.heap.size p es u on st ls n m (2*i))=>LK nw h);have bn:=I Z.o.ad;have kg:=HG.c0
        go_upto_region 14 with (first
            |(go_at_call 5;refine Aj (ey.o _ Z.o.ad) ?_;rintro w2 hk;clear ey kg k3;replace Z:=I (Z.o.step hk);have bx:=hk.blk HG.o (fun y=>NG.o (.inl y));replace NG:=I (hk.notA NG.o HG.o.lt);replace HG:=I bx;clear bx;have bz:=HS.o.lt;replace HS:=I (HS.o.chg hk.chg (fun y=>NM.o (.inl y)));replace NM:=I (hk.notA NM.o bz);clear bz;replace O:=I (O.o.trans (hk.base bn.o));clear hk bn)
            |fail)
        have bB:=I (JI cg.o av.o.1);obtain⟨t,et⟩:=Ak (max 0 (nw - dz));have ht:0<=t/\t<=120:=by have:=av.o;omega
        obtain⟨a,ea⟩:=Ak (anR t q);obtain⟨bq,cb⟩:=Ak (rqL 2 2 (ptR rE1) (anR t q));have cd:=YA (t:=t) (q:=q) (now:=nw) (Rw ht.1 (by omega)) (Rw hq.1 (by omega)) (Rw av.o.2.1 (by have:=av.o;omega));have CR:=I (fun(w1:World)=>(show Calls Tryz.prog 6 #[.int .i64 t,.int .i64 q,.string ⟨#[69,68,85]⟩] w1 fun e w'=>∃v,e=.returned (.tuple #[v,.bool true])/\SlN (fun j=>j<w1.heap.size) w' v bq/\Below w1.heap.size w1 w' by
          have h:=JX t q rE1 w1 (by decide);rw[cd.1] at h;rw[cb];exact h))
        obtain⟨k,ek⟩:=Ak (seeE true nw ([]:List An) a nw);obtain⟨bb,aw⟩:=Ak (seeL true nw ([]:List An) a nw);obtain⟨x1,cf⟩:=Ak (takA pSv (onR a) true nw ([]:List An) nw);have ef:=I (show lokL pSv tT itS bq nw=onR a by rw[cb,ea];exact cd.2);have cL:=I (show Inv true nw bb S nw by rw[aw];exact Lu bB.o (Int.le_refl nw));have cr:=I (fun(h:k=0)=>(show Inv true nw bb (a :: S) nw by rw[aw];exact OD bB.o (Int.le_refl nw) (ek.symm.trans h)));have cu:=I (fun(h:k=0)=>(show ¬a∈S from OC bB.o (Int.le_refl nw) (ek.symm.trans h)));have cw:=I (show bb.length<=8 by rw[aw];exact Ug (Nat.zero_le 8));have ej:=I (fun(h:k=0)=>(show x1=⟨pAnn,pSv,k1L 7,[rE1],t,q⟩ by rw[cf,YB (ek.symm.trans h),ea];rfl));have cc:=I (show Ky a by rw[ea];exact ft ⟨ht.1,by omega⟩ ⟨hq.1,by omega⟩);have EA:=I ea;have cQ:=eN.o;have T0:=I (fun(w1:World) (v:Value) (hv:Sv w1 w.heap.size p es (.slice none 0 0) true nw ([]:List An) n m (2*i)) (hs:SlN (AO p es (.slice none 0 0)) w1 v bq)=>LY (k:=k) (x:=x1) (n':=n+okN k) (m':=m+noN k) hv (by omega) (by omega) (by omega) (show Tm nw by have:=av.o;exact⟨this.2.1,by omega⟩) (by have h8:List.length ([]:List An)<=8:=(Nat.zero_le 8);omega) hs (fun j x=>x) ef.o ((show takE (onR a) true nw ([]:List An) nw=seeE true nw ([]:List An) a nw from if_pos rfl).trans ek.symm) cf.symm ((show takS (onR a) true nw ([]:List An) nw=seeL true nw ([]:List An) a nw from if_pos rfl).trans aw.symm) rfl rfl);have k1:=K1.o _ O.o;clear ea cb cd ek aw cf
        go_upto_region 15 with fail
        rw[<-et];clear et
        go_upto_region 18 with(first
          |(go_at_call 6;refine Calls.mono (CR.o _) ?_;rintro e w3 ⟨v,rfl,hs,M⟩;clear CR;have SV:=I (hs.mono (S':=AO p es (.slice none 0 0)) (fun j _ x=>Z.o.ad.ao_lt x));replace Z:=I (Z.o.below M);replace HG:=I (HG.o.below M);replace HS:=I (HS.o.below M);replace O:=O.t M;clear hs M)
          |fail)
        have T1:=I (T0.o _ _ Z.o SV.o);clear T0;have kg:=HG.c0;have bn:=I Z.o.ad
        go_upto_region 19 with(first
          |(go_at_call 7;refine Calls.mono T1.o ?_;rintro e w4 ⟨cX,cy,u1,rfl,h1,h2,h3,h4,h5,hk⟩;clear T1 kg;have cp:=I h1;have cm:=I h2;have cA:=I h3;have cB:=I h4;replace Z:=I h5;have bx:=hk.blk HG.o (fun y=>NG.o (.inl y));replace NG:=I (hk.notA NG.o HG.o.lt);replace HG:=I bx;clear bx;have bz:=HS.o.lt;replace HS:=I (HS.o.chg hk.chg (fun y=>NM.o (.inl y)));replace NM:=I (hk.notA NM.o bz);clear bz;replace O:=I (O.o.trans (hk.base bn.o));clear h1 h2 h3 h4 h5 hk bn)
          |(refine Wh.Bb (by rfl) 42 (.tmp 14) (.tmp 90) (by rfl) 42 rfl cX (by rfl) (by rfl) (by rw[cp.o];rfl) cA.o cm.o ?_;rintro V hV M;have HT:=I hV;replace Z:=I (Z.o.below M);replace HG:=I (HG.o.below M);replace HS:=I (HS.o.below M);replace O:=O.t M;clear hV M cp cA cm)
          |fail)
        clear k1
        by_cases hk0:k=0
        · have cM := ej.o hk0
          have cT:=cr.o hk0;have ec:=cu.o hk0;subst hk0;obtain⟨PT,ct⟩:=Ak (w4.heap.size);rw[<-ct] at HT⊢;clear ct;obtain⟨A,cx,ca,_⟩:=cB.o;rw[cM] at ca;have hc:V.cell? ⟨PT,0,none⟩=some (.string ⟨pAnn.1.toArray⟩)/\V.cell? ⟨PT,1,none⟩=some (.string ⟨pAnn.2.toArray⟩)/\V.cell? ⟨PT,37,none⟩=some (.int .i64 t)/\V.cell? ⟨PT,38,none⟩=some (.int .i64 q):=by
            have M:=HT.o;rw[ca] at M;have h2:=YC (x:=⟨pAnn,pSv,k1L 7,[rE1],t,q⟩) (v:=.slice A 1 cx) (FF 7);exact⟨M.cell 0,M.cell 1,(M.cell 37).trans h2.1,(M.cell 38).trans h2.2⟩
          have p0:=hc.1;have p1:=hc.2.1;have er:=hc.2.2.1;have ei:=hc.2.2.2;have ep:=I (show Tryz.prog.built 47 [(0,Kd.prV pAnn),(1,.int .i64 t),(2,.int .i64 q)]=some (anA a) by rw[EA.o];exact JW t q);clear hc ca cM cB EA
          go_upto_region 21 with(first
            |(refine Mc.Al (by rfl) 47 #[(0,.tmp 95),(1,.tmp 97),(2,.tmp 99)] (by rfl) (anA a) (by simp only[List.map_toArray,List.map_cons,List.map_nil];exact ep.o) ?_)
            |(refine Wh.Bb (by rfl) 47 (.tmp 16) (.tmp 100) (by rfl) 47 rfl (anA a) (by rfl) (by rfl) (by rfl) (Hl a) (Rp.LH a) ?_;rintro V2 hV M;have HA:=I hV;replace Z:=I (Z.o.below M);replace HG:=I (HG.o.below M);replace HS:=I (HS.o.below M);replace O:=O.t M;clear hV M)
            |fail)
          obtain⟨PA,ck⟩:=Ak (V.heap.size);rw[<-ck] at HA⊢;clear ck p0 p1 er ei;have eg:(Instr.lookup 26 (.map (some mm)) (.agg (anA a)) false).run Tryz.prog V2=.ok (.bool false) V2:=HS.o.look cc.o cj.o ec
          go_wp2_with (first
            |(refine Wh.AF (by rfl) 47 (.tmp 16) (by rfl) PA 0 (by rfl) (anA a) _ (Wh.Ad HA.o) Tryz.underlying47 (by rfl) (Hl a) ?_)
            |(at_mapUpdate;refine Rp.UD (by rfl) (.tmp 104) (.tmp 105) _ (by rfl) mm i S a (by rfl) (by rfl) (by rfl) HS.o cc.o (by unfold maxLen;omega) ?_;intro w6 cn cq;have eo:=I cn;have cY:=I cq;clear cn cq eg)
            |fail)
          go_roundw
          case rel=>
            have hc:Chg (fun j=>j=mm) V2 w6:=Chg.of_grown cY.o rfl;exact⟨i+1,nw,nw,true,cy,u1,bb,a :: S,n+1,m,by omega,by go_num,rfl,by have:=av.o;omega,(by have:=av.o;omega),by omega,(show 2*(i+1)=2*i+2 by omega)▸YD Z.o hc (fun j hj e=>NM.o (e▸hj)),hc.blk HG.o (fun e=>cR.o.1 e.symm),NG.o,O.o.trans (hc.below (Nat.le_trans Ag O.o.size) (fun j _ e=>e▸cR.o.2)),cw.o,eo.o,fun y hy=>(by
              rcases List.mem_cons.1 hy with rfl | hy
              · exact cc.o
              · exact cj.o y hy), NM.o, cT⟩
          case measure=>simp [intOf];omega
        · have ho : okN k = 0 := if_neg hk0
          have ed:noN k=1:=if_neg hk0;rw[ho,ed] at Z;have q1:(k != 0)=true:=by simpa using hk0
          go_wp2
          go_roundw
          case rel=>exact⟨i+1,nw,nw,true,cy,u1,bb,S,n,m+1,by omega,by go_num,rfl,by have:=av.o;omega,(by have:=av.o;omega),by omega,(show 2*(i+1)=2*i+2 by omega)▸Z.o,HG.o,NG.o,O.o,cw.o,HS.o.more (by omega),cj.o,NM.o,cL.o⟩
          case measure=>simp [intOf];omega
    · have e1 : ¬ (i : Int) < (N : Int) := by omega
      clear hlt
      go_wp2_with (first
          |(go_at_call 8;refine Aj (eJ.o _) ?_;rintro wk M;replace O:=O.t M;clear M eJ)
          |fail)
      go_ret;exact⟨rfl,O.o⟩
theorem IG (A1:Option Addr) (M:List Int) (c1:Nat) (A2:Option Addr) (O:List Int) (c2:Nat) (A3:Option Addr) (Z:List Bool) (c3:Nat) (w:World) (r1:Rd w w.heap.size A1 (M.map (Value.int .i64))) (r2:Rd w w.heap.size A2 (O.map (Value.int .i64))) (r3:Rd w w.heap.size A3 (Z.map Value.bool)):Calls Tryz.prog 3 #[.slice A1 M.length c1,.slice A2 O.length c2,.slice A3 Z.length c3] w fun e w'=>e=.returned (.bool true)/\Below w.heap.size w w':=by
 by_cases h:40<M.length\/O.length<M.length\/Z.length<M.length
 ·exact fw _ _ _ A1 A2 A3 c1 c2 c3 w h
 ·exact bp _ _ _ A1 A2 A3 c1 c2 c3 M O Z w (by omega) rfl rfl rfl r1 r2 r3
end Ac
end Go.Proofs.YthkdjblnmkkcfaaGreat
