import Derived.Test.YtiecjolmennkfaaGreatZAcceptorTells17
set_option maxHeartbeats 25600000
set_option maxRecDepth 100000
set_option linter.unusedVariables false
set_option linter.unusedSimpArgs false
namespace Go.Proofs.YtiecjolmennkfaaGreat
namespace Ac
open Go.RowKit Af Se Kd
open Nm (L Own)
open Rg (It Ent Ring RO its)
open Ms (An Pt Tk Ap Mg tmB inB ptB anB ptD anD mgD prC)
open SeL (BM)
open Rp (seeE seeL Tm)
theorem Rz (n:Int) (w:World):Calls Tryz.prog 51 #[.int .i64 n] w fun e w'=>e=.returned (.bool (tmB n))/\w=w':=by
 by_cases h1:0<=n
 ·by_cases h2:n<=1073741824
  ·have M:decide ((0:Int)<=n)=true:=decide_eq_true h1
   have O:decide (n<=1073741824)=true:=decide_eq_true h2;have E:=I (show tmB n=true by simp [tmB,inB,h1,h2]);rw[E.o];clear h1 h2;go_enter Tryz.func51,Tryz.ntmps51
   go_wp2
   go_ret;exact⟨rfl,rfl⟩
  ·have M:decide ((0:Int)<=n)=true:=decide_eq_true h1
   have O:decide (n<=1073741824)=false:=decide_eq_false h2;have E:=I (show tmB n=false by simp [tmB,inB,h1,h2]);rw[E.o];clear h1 h2;go_enter Tryz.func51,Tryz.ntmps51
   go_wp2
   go_ret;exact⟨rfl,rfl⟩
 ·have M:decide ((0:Int)<=n)=false:=decide_eq_false h1
  have E:=I (show tmB n=false by simp [tmB,inB,h1]);rw[E.o];clear h1;go_enter Tryz.func51,Tryz.ntmps51
  go_wp2
  go_ret;exact⟨rfl,rfl⟩
theorem XT {b:L} {P:Pt} (h:ptD b=some P):P.ss.length=32/\ptB P=true:=by
 have M:P.ss.length=32:=by have:=Mc.OV b;unfold Mc.ptG at this;rw[h] at this;exact this
 exact⟨M,(Ms.BS.1 (Ms.Zw h).1).1⟩
theorem Ni (l:List It) (t:Tk) (now:Int):(shwL l t now).2.ss.length=32/\((shwL l t now).1=0->ptB (shwL l t now).2=true):=by
 unfold shwL
 split
 ·exact⟨rfl,fun h=>absurd h (by decide)⟩
 ·split
  ·split
   ·exact⟨rfl,fun h=>absurd h (by decide)⟩
   ·rename_i P hP
    obtain⟨M,O⟩:=XT hP
    split
    ·exact⟨rfl,fun h=>absurd h (by decide)⟩
    ·split
     ·exact⟨rfl,fun h=>absurd h (by decide)⟩
     ·exact⟨M,fun _=>O⟩
  ·exact⟨rfl,fun h=>absurd h (by decide)⟩
theorem Vm (ss a:L) (u:Int) (c:Ms.Pr):(athL ss a u c).1=0->anB (athL ss a u c).2=true:=by
 unfold athL
 split
 ·split
  ·exact fun h=>absurd h (by decide)
  ·rename_i x hx
   split
   ·exact fun _=>(Ms.BS.1 (Ms.SY.1 hx)).1
   ·exact fun h=>absurd h (by decide)
 ·exact fun h=>absurd h (by decide)
abbrev acA (x:Acc) (v:Value):Array Value:=(prC x.c++(prC x.s++(bvs x.ss++([v,.int .i64 x.t,.int .i64 x.q]:List Value)))).toArray
theorem Ho {x:Acc} (h:x.ss.length=32) (v:Value):(acA x v).size=39:=by simp [prC,bvs,h]
theorem JW (x:Acc) {v:Value} (M:v.oneCell'=true):(acA x v).all (·.oneCell')=true:=LD fun u hu=>by
 simp only[List.mem_append] at hu;rcases hu with hu | hu | hu | hu
 ·exact Ux _ u hu
 ·exact Ux _ u hu
 ·exact BD _ u hu
 ·simp only[List.mem_cons,List.mem_nil_iff,or_false] at hu
  rcases hu with rfl | rfl | rfl
  ·exact M
  ·rfl
  ·rfl
theorem YL:acA acc0 (.slice none 0 0)=#[.string ⟨#[]⟩,.string ⟨#[]⟩,.string ⟨#[]⟩,.string ⟨#[]⟩,.int .u8 0,.int .u8 0,.int .u8 0,.int .u8 0,.int .u8 0,.int .u8 0,.int .u8 0,.int .u8 0,.int .u8 0,.int .u8 0,.int .u8 0,.int .u8 0,.int .u8 0,.int .u8 0,.int .u8 0,.int .u8 0,.int .u8 0,.int .u8 0,.int .u8 0,.int .u8 0,.int .u8 0,.int .u8 0,.int .u8 0,.int .u8 0,.int .u8 0,.int .u8 0,.int .u8 0,.int .u8 0,.int .u8 0,.int .u8 0,.int .u8 0,.int .u8 0,.slice none 0 0,.int .i64 0,.int .i64 0]:=rfl
theorem Nj:(Tryz.prog.info? 38).map (·.size)=some 39:=by kernel_rfl
theorem Nk:Tryz.prog.built 38 []=some (acA acc0 (.slice none 0 0)):=by kernel_rfl
theorem bk_ac (f:Nat->UInt8) (c s:Nm.L×Nm.L) (A:Option Addr) (n M:Nat) (t q:Int):Tryz.prog.built 38 [(0,Kd.prV c),(1,Kd.prV s),(2,.agg (AQ f)),(3,.slice A n M),(4,.int .i64 t),(5,.int .i64 q)]=some (prC c++(prC s++((AQ f).toList++([.slice A n M,.int .i64 t,.int .i64 q]:List Value)))).toArray:=by kernel_rfl
theorem XU {ss:L} (h:ss.length=32) (c s:Nm.L×Nm.L) (A:Option Addr) (n M:Nat) (t q:Int) (tr:List L):Tryz.prog.built 38 [(0,Kd.prV c),(1,Kd.prV s),(2,.agg (keyA ss)),(3,.slice A n M),(4,.int .i64 t),(5,.int .i64 q)]=some (acA ⟨c,s,ss,tr,t,q⟩ (.slice A n M)):=by
 have e:keyA ss=AQ (ksOf ss):=(OG h).symm;rw[e,bk_ac];show some (prC c++(prC s++((AQ (ksOf ss)).toList++_))).toArray=some (prC c++(prC s++(bvs ss++_))).toArray;rw[<-e]
section
variable {w0 w w':World} {B N:Nat} {p:SP} {es0 es es':List Ent} {u0 u u':Value} {on on':Bool} {st st':Int} {l l':List An} {n m c n' m' c':Nat} {v:Value} {b:L}
def SlH (N:Nat) (p:SP) (es:List Ent) (u:Value) (w:World) (v:Value) (b:L):Prop:=N<=w.heap.size/\SlN (fun j=>AO p es u j\/N<=j) w v b
theorem SlH.of (h:SlN (AO p es u) w v b):SlH w.heap.size p es u w v b:=⟨Nat.le_refl _,h.mono fun j M x=>x.elim id (fun y=>by omega)⟩
theorem SlH.below (h:SlH N p es u w v b) (M:Below w.heap.size w w'):SlH N p es u w' v b:=⟨Nat.le_trans h.1 M.size,h.2.below M⟩
theorem SlH.kn (h:SlH N p es u w v b) (hk:Av w w' B p es u es' u' on st l n m c):SlH N p es' u' w' v b:=
 ⟨Nat.le_trans h.1 hk.size,h.2.keep hk.chg (fun _ _ x=>.inl x) (fun j M x=>by
  rcases x with x | x
  ·rcases hk.nw j x with y | y
   ·exact .inl y
   ·omega
  ·exact .inr x)⟩
theorem SlH.over (h:SlH N p es u w v b) {g:Nat} (M:w.grownBy w' (some g)) (O:N<=g):SlH N p es u w' v b:=
 ⟨Nat.le_trans h.1 M.size,h.2.keep (Chg.of_grown M rfl) (fun j _ x=>.inr (by have x:g=j:=x;omega)) (fun _ _ x=>x)⟩
theorem SlH.rs (h:SlH N p es u w v b):SlN (RSO p.r p.v es none) w v b:=h.2.mono fun j _ x=>by
 rcases x with x | ⟨z,M,_⟩
 ·exact .inl (.inr (.inl x))
 ·cases M
theorem SlH.rsb (h:SlH N p es u w v b) {x:Nat} {ks:Nat->UInt8} (O:N<=x):SlN (RSO p.r p.v es (some ⟨x,ks,none,0,0,0⟩)) w v b:=h.2.mono fun j _ y=>by
 rcases y with y | ⟨z,M,y⟩
 ·exact .inl (.inr (.inl y))
 ·injection M with M
  subst M;rcases y with y | y
  ·exact .inr (by have y:j=x:=y;omega)
  ·cases y
theorem AD.rsb (h:AD w B p es u on st l n m c) {x:Nat} {ks:Nat->UInt8} (hx:Box w x ks none 0 0 0) (hn:¬AO p es u x) (hB:B<=x):RS w B p.r p.v es (some ⟨x,ks,none,0,0,0⟩) c:=by
 have Z:∀j,SO (some ⟨x,ks,none,0,0,0⟩) j->j=x:=fun j M=>by
  obtain⟨z,O,M⟩:=M;injection O with O;subst O;rcases M with M | M
  ·exact M
  ·cases M
 refine⟨h.ring,h.hB,fun z O=>?_,fun j M y=>hn ((Z j M)▸(.inr (.inl y))),fun j M=>by have:=Z j M;omega,h.cz⟩;injection O with O;subst O;exact⟨hx,Nat.zero_le _,Nat.zero_le _,Nat.zero_le _⟩
theorem Av.of_rsb (k:Av w0 w B p es0 u0 es u on st l n m c) {x:Nat} {ks:Nat->UInt8} {s':Option Ss} (hx:w0.heap.size<=x) (hn:¬AA p es u x) (g:Rn w w' B p.r p.v es (some ⟨x,ks,none,0,0,0⟩) es' s' c'):Av w0 w' B p es0 u0 es' u on st l n m c':=by
 have h:=k.st;have Z:∀j,RSO p.r p.v es (some ⟨x,ks,none,0,0,0⟩) j->RO p.r p.v es j\/j=x:=fun j M=>by
  rcases M with M | ⟨z,hz,M⟩
  ·exact .inl M
  ·injection hz with hz
   subst hz;rcases M with M | M
   ·exact .inr M
   ·cases M
 have bb:∀j,RO p.r p.v es' j->RO p.r p.v es j\/j=x\/w.heap.size<=j:=fun j M=>by
  rcases g.nw j (.inl M) with y | y
  ·exact(Z j y).imp id .inl
  ·exact .inr (.inr y)
 have av:∀j,RO p.r p.v es' j->j≠x->RO p.r p.v es j\/w.heap.size<=j:=fun j M e=>by
  rcases bb j M with y | y | y
  ·exact .inl y
  ·exact absurd y e
  ·exact .inr y
 have O:∀j,j<w.heap.size->¬RO p.r p.v es j->j≠x->¬RO p.r p.v es' j:=fun j hl aw e y=>by
  rcases av j y e with z | z
  ·exact aw z
  ·omega
 have ne:∀j,AA p es u j->j≠x:=fun j M e=>hn (e▸M)
 have off:∀j,AA p es u j->¬RO p.r p.v es j->¬RSO p.r p.v es (some ⟨x,ks,none,0,0,0⟩) j:=fun j M h2 y=>by
  rcases Z j y with z | z
  ·exact h2 z
  ·exact ne j M z
 have ha:AA p es u p.a:=.inl (.inl rfl);have hq:∀j,Rp.RO p.q u j->AA p es u j:=fun j M=>.inl (.inr (.inr M))
 refine⟨⟨g.chg.blk h.blk (off _ ha h.ar),g.st.k,h.rp.chg g.chg (fun j M=>off j (hq j M) (fun y=>h.rq j y M)),h.tp.chg g.chg (fun j M=>⟨h.aa_lt (.inr M),off j (.inr M) (fun y=>h.rt j y M)⟩),h.lo,h.tlo,Nat.le_trans h.hi g.chg.size,O _ h.blk.lt h.ar (ne _ ha),h.aq,h.at_,fun j M y=>O j (h.aa_lt (.inr y)) (fun z=>h.rt j z y) (ne j (.inr y)) M,h.qt,fun j M y=>O j (h.rp.own_lt y) (fun z=>h.rq j z y) (ne j (hq j y)) M,g.st.cz⟩,g.eq.trans k.eq,k.chg.trans g.chg (fun j M y=>?_),fun j M=>?_⟩
 ·rcases Z j y with z | z
  ·rcases k.nw j (.inr (.inl z)) with y | y
   ·exact y
   ·omega
  ·omega
 ·rcases M with M | M | M
  ·exact k.nw j (.inl M)
  ·by_cases e:j=x
   ·exact .inr (by omega)
   ·rcases av j M e with y | y
    ·exact k.nw j (.inr (.inl y))
    ·have:=k.size;exact .inr (by omega)
  ·exact k.nw j (.inr (.inr M))
theorem Av.notA {P:Nat} (h:Av w0 w B p es0 u0 es u on st l n m c) (M:¬AA p es0 u0 P) (O:P<w0.heap.size):¬AA p es u P:=fun x=>by
 rcases x with x | x
 ·rcases h.nw P x with y | y
  ·exact M (.inl y)
  ·omega
 ·exact M (.inr x)
def TakP (w:World) (B:Nat) (p:SP) (es:List Ent) (u:Value) (on:Bool) (st:Int) (l:List An) (n m c:Nat) (r:Lk) (now:Int) (e:Ending) (w':World):Prop:=
 ∃v es' u',e=.returned (.tuple #[.agg (acA (takA p.P r on st l now) v),.int .i64 (takE r on st l now)])/\v.oneCell'=true/\Own w' w.heap.size v (takA p.P r on st l now).tr/\(∀k,v.ownBlock=some k->¬AO p es' u' k)/\Av w w' B p es u es' u' on st (takS r on st l now) n m c
theorem JX {r:Lk} {now k:Int} (h:Av w w' B p es u es' u' on st l n m c) (M:r.e=k) (hk:k≠0):TakP w B p es u on st l n m c r now (.returned (.tuple #[.agg (acA acc0 (.slice none 0 0)),.int .i64 k])) w':=by
 have O:takE r on st l now=k:=by rw[takE,if_neg (by rw[M];exact hk),M]
 have Z:takA p.P r on st l now=acc0:=by rw[takA,O,if_neg hk]
 have e3:takS r on st l now=l:=by rw[takS,if_neg (by rw[M];exact hk)]
 exact⟨.slice none 0 0,es',u',by rw[O,Z],rfl,by rw[Z];exact Nm.Own.nil _ _,fun k hk=>by simp [Value.ownBlock] at hk,by rw[e3];exact h⟩
theorem XV {r:Lk} {now k:Int} (Z:r.e=0) (hs:seeE on st l r.a now=k) (h:Av w w' B p es u es' u' on st (seeL on st l r.a now) n m c) (hk:k≠0):TakP w B p es u on st l n m c r now (.returned (.tuple #[.agg (acA acc0 (.slice none 0 0)),.int .i64 k])) w':=by
 have M:takE r on st l now=k:=by rw[takE,if_pos Z,hs]
 have O:takA p.P r on st l now=acc0:=by rw[takA,M,if_neg hk]
 have e3:takS r on st l now=seeL on st l r.a now:=by rw[takS,if_pos Z]
 exact⟨.slice none 0 0,es',u',by rw[M,O],rfl,by rw[O];exact Nm.Own.nil _ _,fun k hk=>by simp [Value.ownBlock] at hk,by rw[e3];exact h⟩
theorem bD {r:Lk} {now:Int} {v:Value} (Z:r.e=0) (hs:seeE on st l r.a now=0) (h:Av w w' B p es u es' u' on st (seeL on st l r.a now) n m c) (hv:v.oneCell'=true) (ho:Own w' w.heap.size v r.l) (hn:∀k,v.ownBlock=some k->¬AO p es' u' k):TakP w B p es u on st l n m c r now (.returned (.tuple #[.agg (acA ⟨r.p.c,p.P,r.p.ss,r.l,r.a.t,r.a.q⟩ v),.int .i64 0])) w':=by
 have M:takE r on st l now=0:=by rw[takE,if_pos Z,hs]
 have O:takA p.P r on st l now=⟨r.p.c,p.P,r.p.ss,r.l,r.a.t,r.a.q⟩:=by rw[takA,M,if_pos rfl]
 have e3:takS r on st l now=seeL on st l r.a now:=by rw[takS,if_pos Z]
 exact⟨v,es',u',by rw[M,O],hv,by rw[O];exact ho,hn,by rw[e3];exact h⟩
end
end Ac
namespace Ac
open Go.RowKit Af Se Kd
open Nm (L Own)
open Rg (It Ent Ring RO its Dr DV)
open Ms (An Pt Tk Ap Mg tmB inB ptB anB ptD anD mgD prC apC)
open Rp (seeE seeL Tm)
open Rt (Sm)
abbrev apA (q:Ap) (bv av:Value):Array Value:=#[.string ⟨q.t.s.1.toArray⟩,.string ⟨q.t.s.2.toArray⟩,.int .i64 q.t.k,bv,av]
theorem fq (q:Ap) {bv M:Value} (Z:bv.oneCell'=true) (h2:M.oneCell'=true):(apA q bv M).all (·.oneCell')=true:=LD (l:=[.string ⟨q.t.s.1.toArray⟩,.string ⟨q.t.s.2.toArray⟩,.int .i64 q.t.k,bv,M]) fun v O=>by
 simp only[List.mem_cons,List.mem_nil_iff,or_false] at O;rcases O with rfl | rfl | rfl | rfl | rfl
 ·rfl
 ·rfl
 ·rfl
 ·exact Z
 ·exact h2
theorem fr:(Tryz.prog.info? 76).map (·.size)=some 5:=by kernel_rfl
theorem ft:(Tryz.prog.info? 74).map (·.size)=some 4:=by kernel_rfl
theorem Vn {S:Nat->Prop} {w:World} {v:Value} {l:L} (h:SlN S w v l):v.oneCell'=true:=by
 obtain⟨A,c,rfl,_⟩:=h;rfl
section
variable {w:World} {B:Nat} {p:SP} {es:List Ent} {u:Value} {on:Bool} {st:Int} {l:List An} {n m c:Nat}
theorem fw {v:Value} {b:L} {S:Nat->Prop} (hS:∀j,w.heap.size<=j->¬S j) (hv:SlN S w v b):Calls Tryz.prog 52 #[v] w fun e w'=>∃ds bv M,e=.returned (.tuple #[.agg ds,.int .i64 (Mc.mgI b)])/\ds.size=30/\ds.all (·.oneCell')=true/\(∀(w1:World) (g:Nat) (t:TypeId),Blk w1 g t ds->w1.cell? ⟨g,0,none⟩=some (.int .i64 (Mc.mgG b).k)/\w1.rangeAt g 23 (apA (Mc.mgG b).ap bv M).toList)/\SlN S w' bv (Mc.mgG b).ap.t.b/\SlN S w' M (Mc.mgG b).ap.a/\Below w.heap.size w w':=by
 obtain⟨A,c,rfl,hc,hr⟩:=hv;refine(Mc.bo A b c w hr.rd).mono ?_;rintro e w' ⟨ds,rfl,⟨pa,pt,pr,pp,pf,h1,Z⟩,O⟩;obtain⟨bv,M,h3,h4,h5⟩:=Z.p;have h6:pp=apA (Mc.mgG b).ap bv M:=h3;subst h6;have own:∀{v:Value} {l:L},Mc.OwnN w' w.heap.size v l->SlN S w' v l:=fun{v l} h=>by
  rcases h with⟨rfl,rfl⟩ | ⟨b,c,rfl,hc,O,hl,hr⟩
  ·exact⟨none,0,rfl,Nat.le_refl _,.inl rfl⟩
  ·exact⟨_,c,rfl,hc,.inr ⟨b,0,rfl,hl,hS b O,fun i u hu=>by rw[Nat.zero_add];exact hr i u hu⟩⟩
 subst h1;refine⟨_,bv,M,rfl,Z.toV.size _,Z.toV.one _,fun w1 g t O=>?_,own h4,own h5,O⟩;have:=Z.toV.at_ O;exact⟨this.k,this.p⟩
theorem Vo {w1 w':World} {es2:List Ent} {s2:Option Ss} {x c':Nat} {ks:Nat->UInt8} {P:Nat} (O:¬AA p es u P) (he:P≠x):¬RSO p.r p.v es (some ⟨x,ks,none,0,0,0⟩) P:=fun y=>by
 rcases y with y | ⟨z,M,y⟩
 ·exact O (.inl (.inr (.inl y)))
 ·injection M with M
  subst M;rcases y with y | y
  ·exact he y
  ·cases y
theorem DZ {w1 w':World} {es2:List Ent} {s2:Option Ss} {x c':Nat} {ks:Nat->UInt8} {P:Nat} {t:TypeId} {cs:Array Value} (g:Rn w1 w' B p.r p.v es (some ⟨x,ks,none,0,0,0⟩) es2 s2 c') (h:Blk w1 P t cs) (M:¬AA p es u P) (he:P≠x):Blk w' P t cs:=
 g.blk h (Vo (w1:=w1) (w':=w') (es2:=es2) (s2:=s2) (c':=c') M he)
theorem Ea {w1 w':World} {es2:List Ent} {s2:Option Ss} {x c':Nat} {ks:Nat->UInt8} {P:Nat} (g:Rn w1 w' B p.r p.v es (some ⟨x,ks,none,0,0,0⟩) es2 s2 c') (M:¬AA p es u P) (he:P≠x) (O:P<w1.heap.size):¬AA p es2 u P:=fun y=>by
 rcases y with(y | y | y) | y
 ·exact M (.inl (.inl y))
 ·rcases g.nw P (.inl y) with z | z
  ·exact Vo (w1:=w1) (w':=w') (es2:=es2) (s2:=s2) (c':=c') M he z
  ·omega
 ·exact M (.inl (.inr (.inr y)))
 ·exact M (.inr y)
theorem an_tm {x:An} (h:anB x=true):Tm x.t/\x.c.1.length<=36/\x.c.2.length<=43:=by
 have M:Ms.prB x.c=true/\tmB x.t=true/\tmB x.q=true:=by simpa [anB] using h
 have O:=Ms.Bf M.2.1;exact⟨⟨O.1,by omega⟩,Ms.GV M.1⟩
theorem fx {bv:Value} {b:L} {now:Int} {r:Lk} (h:AD w B p es u on st l n m c) (hc:c<800000) (hl:es.length<=1000) (hT:Sm p.T) (hP:p.P.1.length<=1000000/\p.P.2.length<=1000000) (gB:Tm st) (gf:l.length<=1000) (hv:SlN (AO p es u) w bv b) (hr:lokL p.P p.T (its es) b now=r) :
  Calls Tryz.prog 21 #[.pointer (some ⟨p.a,0,none⟩),bv,.int .i64 now] w (TakP w B p es u on st l n m (c+2) r now):=by
 obtain⟨zz,eX⟩:=Ak (acA acc0 (.slice none 0 0));have cj:=I (show Tryz.prog.built 38 []=some zz by rw[eX];exact Nk);have gr:=I (show zz.size=39 by rw[eX];exact Ho rfl _);have ck:=I (show(Tryz.prog.info? 38).map (·.size)=some zz.size by rw[gr.o];exact Nj);have ep:=I (show zz.all (·.oneCell')=true by rw[eX];exact JW _ rfl);have ey:=I (show acA acc0 (.slice none 0 0)=zz from eX.symm);have eb:=I (eX.trans YL);obtain⟨W,eW⟩:=Ak (w.alloc (.cells zz 38));have hb:Below w.heap.size w W:=eW▸Ah.alloc Ag _;have HR:=I (show Blk W w.heap.size 38 zz from eW▸Blk.new w _ _);have Z:=I (Av.start h hb);have NR:=I (h.fresh (Nat.le_refl w.heap.size));have HV:=I (hv.below hb);have CT:=I (fun(w1:World)=>Rz now w1);obtain⟨AB,mB,gz,_,_⟩:=hv;obtain⟨LB,gF⟩:=Ak (b.length);rw[<-gF] at gz;subst gz;have HC:=I hc;have HL:=I hl;have gS:=I hT;have hD:=I hP;have gW:=I gB;have hF:=I gf;have CP:=I (fun(w1:World)=>Rg.Lz p.P w1 (by omega) (by omega));have E0:=I ((show lokL p.P p.T (its es) b now=(if tmB now=true then (match mgD b with | none=>lk0 2 | some m=>if m.k=4 then lokA p.P p.T (its es) m.ap now else lk0 2) else lk0 1) from rfl).symm.trans hr);obtain⟨tb,ga⟩:=Ak (tmB now);rw[<-ga] at CT E0;have gV:=I ga;clear h hc hl hT hP gB gf hb hr eX gF ga;cases tb with
 |false=>
  have er:r=lk0 1:=E0.o.symm;subst er;go_enter Tryz.func21,Tryz.ntmps21
  go_upto_region 1 with fail
  rw[<-eb.o,<-eW];clear eW eb
  go_upto_region 2 with(first
   |(go_at_call 51;refine Aj (CT.o _) ?_;rintro wt hw;have hw:=hw.symm;subst hw;clear CT)
   |fail)
  go_wp2_with (first
   |(refine Mc.Am (by rfl) 38 #[] (by rfl) zz (by simp;exact cj.o) ?_)
   |(refine Wh.AX (by rfl) 38 (.tmp 6) (.tmp 18) (by rfl) w.heap.size 38 _ HR.o zz (by rfl) (by rfl) (by rfl) ck.o ep.o ?_;rintro V hV hg;replace HR:=I hV;replace Z:=I (Z.o.over Ag NR.o hg);clear hV hg cj)
   |fail)
  refine bodyPost_ret (v:=.tuple #[.agg zz,.int .i64 1]) ?_ ?_ ?_
  ·exact Rg.Ae (v:=.agg zz) 6 7 38 ⟨w.heap.size,0,none⟩ Tryz.results21 rfl (Wh.Ao HR.o Tryz.underlying38 (by rfl) ck.o) rfl
  ·rfl
  ·rw[<-ey.o];exact JX (Z.o.more (by omega)) rfl (by decide)
 |true=>
  have HN:=I (show 0<=now/\now<=1073741824 from Ms.Bf gV.o.symm);replace E0:=I (show(match mgD b with | none=>lk0 2 | some m=>if m.k=4 then lokA p.P p.T (its es) m.ap now else lk0 2)=r from E0.o);have CD:=I (fun(w1:World) (hv:SlN (AO p es u) w1 (.slice AB LB mB) b) (hS:∀j,w1.heap.size<=j->¬AO p es u j)=>fw hS hv);cases hd:mgD b with
  |none=>
   rw[hd] at E0;have er:r=lk0 2:=E0.o.symm;subst er;rw[show Mc.mgI b=2 by unfold Mc.mgI;rw[hd];rfl] at CD;clear hd;go_enter Tryz.func21,Tryz.ntmps21
   go_upto_region 1 with fail
   rw[<-eb.o,<-eW];clear eW eb
   go_upto_region 3 with(first
    |(go_at_call 51;refine Aj (CT.o _) ?_;rintro wt hw;have hw:=hw.symm;subst hw;clear CT)
    |fail)
   go_upto_region 5 with(first
    |(go_at_call 52;refine Calls.mono (CD.o _ HV.o (fun j hj x=>by have:=Z.o.st.ao_lt x;omega)) ?_;rintro e w9 ⟨ds,bv,av,rfl,cQ,ej,eK,cZ,eJ,hb⟩;clear CD HV;replace Z:=I (Z.o.below hb);replace HR:=I (HR.o.below hb);have eu:=I cQ;have ed:=I ej;have eB:=I (show(Tryz.prog.info? 86).map (·.size)=some ds.size by rw[cQ];exact Mc.Ba);have eM:=I eK;have SB:=I (SlH.of cZ);have SA:=I (SlH.of eJ);clear cQ ej eK cZ eJ hb)
    |(refine Wh.Bd (by rfl) 86 (.tmp 8) (.tmp 22) (by rfl) 86 rfl ds (by rfl) (by rfl) (by rw[eu.o];rfl) eB.o ed.o ?_;rintro V hV hb;have HM:=I hV;have NM:=I (Z.o.st.fresh (Nat.le_refl w9.heap.size));replace Z:=I (Z.o.below hb);replace HR:=I (HR.o.below hb);replace SB:=I (SB.o.below hb);replace SA:=I (SA.o.below hb);have fV:=(eM.o V _ _ hV).1;clear hV hb eu eB ed)
    |fail)
   go_wp2_with (first
    |(refine Mc.Am (by rfl) 38 #[] (by rfl) zz (by simp;exact cj.o) ?_)
    |(refine Wh.AX (by rfl) 38 (.tmp 6) (.tmp 31) (by rfl) w.heap.size 38 _ HR.o zz (by rfl) (by rfl) (by rfl) ck.o ep.o ?_;rintro V hV hg;replace HR:=I hV;replace Z:=I (Z.o.over Ag NR.o hg);clear hV hg cj)
    |fail)
   refine bodyPost_ret (v:=.tuple #[.agg zz,.int .i64 2]) ?_ ?_ ?_
   ·exact Rg.Ae (v:=.agg zz) 6 7 38 ⟨w.heap.size,0,none⟩ Tryz.results21 rfl (Wh.Ao HR.o Tryz.underlying38 (by rfl) ck.o) rfl
   ·rfl
   ·rw[<-ey.o];exact JX (Z.o.more (by omega)) rfl (by decide)
  |some M=>
   rw[hd] at E0;rw[show Mc.mgI b=0 by unfold Mc.mgI;rw[hd];rfl,show Mc.mgG b=M by unfold Mc.mgG;rw[hd];rfl] at CD;replace E0:=I (show(if M.k=4 then lokA p.P p.T (its es) M.ap now else lk0 2)=r from E0.o);clear hd
   by_cases hk4:M.k=4
   ·replace E0:=I ((if_pos hk4).symm.trans E0.o)
    obtain⟨q,eq⟩:=Ak (M.ap);rw[<-eq] at CD E0;rw[hk4] at CD;clear eq hk4;go_enter Tryz.func21,Tryz.ntmps21
    go_upto_region 1 with fail
    rw[<-eb.o,<-eW];clear eW eb
    go_upto_region 3 with(first
     |(go_at_call 51;refine Aj (CT.o _) ?_;rintro wt hw;have hw:=hw.symm;subst hw;clear CT)
     |fail)
    go_upto_region 6 with(first
     |(go_at_call 52;refine Calls.mono (CD.o _ HV.o (fun j hj x=>by have:=Z.o.st.ao_lt x;omega)) ?_;rintro e w9 ⟨ds,bv,av,rfl,cQ,ej,eK,cZ,eJ,hb⟩;clear CD HV;replace Z:=I (Z.o.below hb);replace HR:=I (HR.o.below hb);have eu:=I cQ;have ed:=I ej;have eB:=I (show(Tryz.prog.info? 86).map (·.size)=some ds.size by rw[cQ];exact Mc.Ba);have eM:=I eK;have SB:=I (SlH.of cZ);have SA:=I (SlH.of eJ);clear cQ ej eK cZ eJ hb)
     |(refine Wh.Bd (by rfl) 86 (.tmp 8) (.tmp 22) (by rfl) 86 rfl ds (by rfl) (by rfl) (by rw[eu.o];rfl) eB.o ed.o ?_;rintro V hV hb;have HM:=I hV;have NM:=I (Z.o.st.fresh (Nat.le_refl w9.heap.size));replace Z:=I (Z.o.below hb);replace HR:=I (HR.o.below hb);replace SB:=I (SB.o.below hb);replace SA:=I (SA.o.below hb);have fV:=(eM.o V _ _ hV).1;clear hV hb eu eB ed)
     |fail)
    obtain⟨cR,eg⟩:=Ak (apA q bv av);have fS:V.rangeAt w9.heap.size 23 cR.toList:=by rw[eg];exact(eM.o V _ _ HM.o).2
    have gb:=I (show cR.size=5 by rw[eg];rfl);have fW:=I (show(Tryz.prog.info? 76).map (·.size)=some cR.size by rw[gb.o];exact fr);have gA:=I (show cR.all (·.oneCell')=true by rw[eg];exact fq q (Vn SB.o.2) (Vn SA.o.2));have fj:=I (fun(w1:World) (g:Nat) (hb:Blk w1 g 76 cR)=>(show w1.cell? ⟨g,0,none⟩=some (.string ⟨q.t.s.1.toArray⟩)/\w1.cell? ⟨g,1,none⟩=some (.string ⟨q.t.s.2.toArray⟩)/\w1.cell? ⟨g,2,none⟩=some (.int .i64 q.t.k)/\w1.cell? ⟨g,3,none⟩=some bv/\w1.cell? ⟨g,4,none⟩=some av by rw[eg] at hb;exact⟨hb.cell 0,hb.cell 1,hb.cell 2,hb.cell 3,hb.cell 4⟩));clear eg
    go_upto_region 7 with(first
     |(refine Wh.AF (by rfl) 76 (.tmp 32) (by rfl) w9.heap.size 23 (by rfl) cR _ fS Tryz.underlying76 (by rfl) fW.o ?_;clear fS)
     |(refine Wh.Bd (by rfl) 76 (.tmp 10) (.tmp 33) (by rfl) 76 rfl cR (by rfl) (by rfl) (by rw[gb.o];rfl) fW.o gA.o ?_;rintro V2 hV hb;have HQ:=I hV;have NQ:=I (Z.o.st.fresh (Nat.le_refl V.heap.size));replace Z:=I (Z.o.below hb);replace HR:=I (HR.o.below hb);replace SB:=I (SB.o.below hb);replace SA:=I (SA.o.below hb);clear hV hb gb fW gA)
     |fail)
    clear HM NM fV eM;obtain⟨PQ,gg⟩:=Ak (V.heap.size);rw[<-gg] at HQ NQ⊢;clear gg;have gn:=(fj.o V2 _ HQ.o).1;have gu:=(fj.o V2 _ HQ.o).2.1;have et:V2.cell? ⟨p.a,0,none⟩=some (.string ⟨p.P.1.toArray⟩):=Z.o.st.blk.cell 0;have eo:V2.cell? ⟨p.a,1,none⟩=some (.string ⟨p.P.2.toArray⟩):=Z.o.st.blk.cell 1;have E1:=I ((show lokA p.P p.T (its es) q now=(if q.t.s=p.P then (if (shwL (its es) q.t now).1=0 then lokB p.T p.P.1 (shwL (its es) q.t now).2 q.a else lk0 (shwL (its es) q.t now).1) else lk0 9) from rfl).symm.trans E0.o);clear E0
    by_cases hsv:q.t.s=p.P
    ·replace E1:=I ((if_pos hsv).symm.trans E1.o)
     have q1:=Dr hsv;clear hsv
     go_quiet (fail)
     have hd:=below_drewN (Below.refl V2.heap.size V2) nq;replace Z:=I (Z.o.below hd);replace HR:=I (HR.o.below hd);replace HQ:=I (HQ.o.below hd);replace SB:=I (SB.o.below hd);replace SA:=I (SA.o.below hd);clear hd gn gu et eo q1;generalize V2.drewN nq=V3 at Z HR HQ SB SA⊢
     go_upto_region 9 with fail
     obtain⟨fb,eR⟩:=Ak ((#[.string ⟨q.t.s.1.toArray⟩,.string ⟨q.t.s.2.toArray⟩,.int .i64 q.t.k,bv]:Array Value));have gp:=I (fun(w1:World) (hb:Blk w1 PQ 76 cR)=>(show w1.rangeAt PQ 0 fb.toList from fun j v hv=>by
      obtain⟨g0,g1,g2,g3,_⟩:=fj.o w1 PQ hb;rw[eR] at hv
      match j,hv with
      |0,hv=>injection hv with hv;subst hv;exact g0
      |1,hv=>injection hv with hv;subst hv;exact g1
      |2,hv=>injection hv with hv;subst hv;exact g2
      |3,hv=>injection hv with hv;subst hv;exact g3
      |j+4,hv=>simp at hv))
     have gh:=I (show(Tryz.prog.info? 74).map (·.size)=some fb.size by rw[eR];exact ft);obtain⟨ke,P,ct⟩:∃a b,shwL (its es) q.t now=(a,b):=⟨_,_,rfl⟩;have cY:=I (show P.ss.length=32/\(ke=0->ptB P=true) by have:=Ni (its es) q.t now;rw[ct] at this;exact this);replace E1:=I (show(if ke=0 then lokB p.T p.P.1 P q.a else lk0 ke)=r by have:=E1.o;rw[ct] at this;exact this);have CS:=I (fun(w1:World) (h1:AD w1 B p es u on st l n m c) (hs:SlH w9.heap.size p es u w1 bv q.t.b)=>(show Calls Tryz.prog 53 #[.pointer (some ⟨p.r,0,none⟩),.agg fb,.int .i64 now] w1 fun e w'=>∃es',e=.returned (.tuple #[.agg (ptA P),.int .i64 ke])/\its es'=its es/\es'.length=es.length/\Av w1 w' B p es u es' u on st l n m (c+1) by
      have hh:=bA (t:=q.t) (now:=now) h1.rs (by have:=HC.o;omega) HL.o HN.o.1 HN.o.2 hs.rs;rw[ct] at hh;rw[eR];refine hh.mono ?_;rintro e w' ⟨es',s',rfl,hk⟩;exact⟨es',rfl,OH hk.eq,UB hk.eq,Av.of_rn h1 hk.drop⟩))
     clear ct eR;obtain⟨cP,eV⟩:=Ak (ptA P);have fX:=I (show cP.size=37 by rw[eV];exact Hh cY.o.1);have ff:=I (show(Tryz.prog.info? 33).map (·.size)=some cP.size by rw[eV];exact LG cY.o.1);have fY:=I (show cP.all (·.oneCell')=true by rw[eV];exact LF _);have EP:=I eV;rw[<-eV] at CS;clear eV
     go_cut [9,11] from 43 to 53 (fun ev pv wx=>∃(PT:Nat) (cc:List Ent),ev=.int .i64 ke/\pv=.pointer (some ⟨PT,0,none⟩)/\w.heap.size<PT/\its cc=its es/\cc.length=es.length/\Blk wx PT 33 cP/\¬AA p cc u PT/\Blk wx w.heap.size 38 zz/\¬AA p cc u w.heap.size/\Blk wx PQ 76 cR/\¬AA p cc u PQ/\SlH w9.heap.size p cc u wx av q.a/\Av w wx B p es u cc u on st l n m (c+1))
     case first=>
      have bz:Below V3.heap.size V3 V3.drew:=below_drewN Ah 1;replace Z:=I (Z.o.below bz);replace HR:=I (HR.o.below bz);replace HQ:=I (HQ.o.below bz);replace SB:=I (SB.o.below bz);replace SA:=I (SA.o.below bz);clear bz;refine Reg.Bo (fun w'=>Blk w' PQ 76 cR/\w'.cell? ⟨p.a,5,none⟩=some (.pointer (some ⟨p.r,0,none⟩))) 14 rfl (by kernel_rfl) ⟨HQ.o,(Z.o).st.blk.cell 5⟩ ?_;refine Reg.ty 0 rfl ⟨HQ.o,(Z.o).st.blk.cell 5⟩ ?_;refine Reg.ty 1 rfl ⟨HQ.o,(Z.o).st.blk.cell 5⟩ ?_;refine Reg.ty 2 rfl ⟨HQ.o,(Z.o).st.blk.cell 5⟩ ?_;refine Reg.tw 3 (v:=.pointer (some ⟨p.r,0,none⟩)) rfl ⟨HQ.o,(Z.o).st.blk.cell 5⟩ (fun w' hS=>by obtain⟨hQ,hE⟩:=hS;go_simp<;>rfl) ?_;refine Reg.ty 4 rfl ⟨HQ.o,(Z.o).st.blk.cell 5⟩ ?_;refine Reg.tw 5 (v:=.agg fb) rfl ⟨HQ.o,(Z.o).st.blk.cell 5⟩ (fun w' hS=>by obtain⟨hQ,hE⟩:=hS;exact Rg.Da (.tmp 48) rfl rfl (gp.o _ hQ) Tryz.underlying74 rfl gh.o) ?_;refine Reg.ty 6 rfl ⟨HQ.o,(Z.o).st.blk.cell 5⟩ ?_;refine Reg.b2 7 11 ?_ ?_
      ·right
       refine⟨_,_,_,_,_,_,53,#[.pointer (some ⟨p.r,0,none⟩),.agg fb,.int .i64 now],rfl,by rfl,(by go_simp<;>first | rfl | exact⟨rfl,rfl⟩),?_⟩;refine Calls.mono (CS.o _ Z.o.st SB.o) ?_;rintro e cr ⟨cc,rfl,hit,cq,hk⟩;have aw:=hk.blk HR.o (fun x=>NR.o (.inl x));replace NR:=I (hk.notA NR.o HR.o.lt);replace HR:=I aw;clear aw;have aw:=hk.blk HQ.o (fun x=>NQ.o (.inl x));replace NQ:=I (hk.notA NQ.o HQ.o.lt);replace HQ:=I aw;clear aw;replace SB:=I (SB.o.kn hk);replace SA:=I (SA.o.kn hk);replace Z:=I (Z.o.trans hk);have fi:=I hit;have fK:=I cq;clear hk hit cq CS;refine⟨_,rfl,⟨HQ.o,(Z.o).st.blk.cell 5⟩,?_⟩;simp only[Act.put,U,Aa,Ab];refine Reg.ty 8 rfl ⟨HQ.o,(Z.o).st.blk.cell 5⟩ ?_;refine Reg.ty 9 rfl ⟨HQ.o,(Z.o).st.blk.cell 5⟩ ?_;refine Reg.ty 10 rfl ⟨HQ.o,(Z.o).st.blk.cell 5⟩ ?_;refine Reg.b1 11 ?_
       left
       have hb:Below cr.heap.size cr (cr.alloc (.cells ptZ 33)):=Ah.alloc Ag _;have aw:=Blk.new cr 33 ptZ;have LR:=I HR.o.lt;have LT:=I Z.o.size;have NT:=I (Z.o.st.fresh (Nat.le_refl cr.heap.size));have bq:=I (Nat.ne_of_lt HR.o.lt);have bn:=I (Nat.ne_of_lt HQ.o.lt);have cw:=I SB.o.1;have cf:=I SA.o.1;refine⟨_,_,_,_,_,_,.pointer (some ⟨cr.heap.size,0,none⟩),cr.alloc (.cells ptZ 33),rfl,by rfl,(by go_simp<;>rfl),⟨(HQ.o.below hb),((Z.o.below hb)).st.blk.cell 5⟩,?_⟩;simp only[Act.put,U,Aa,Ab];obtain⟨gM,ec⟩:=Ak (cr.alloc (.cells ptZ 33));rw[<-ec] at hb aw⊢;clear ec;replace Z:=I (Z.o.below hb);replace HR:=I (HR.o.below hb);replace HQ:=I (HQ.o.below hb);replace SB:=I (SB.o.below hb);replace SA:=I (SA.o.below hb);have HT:=I aw;clear aw hb;obtain⟨PT,cp⟩:=Ak (cr.heap.size);rw[<-cp] at HT LT NT LR bq bn cw cf⊢;clear cp;refine Reg.BI 12 rfl (by kernel_rfl) (by rfl) PT 33 _ cP HT.o (by rfl) (by rfl) (by rw[fX.o];rfl) ff.o fY.o ?_;intro hz hV hg;replace HT:=I hV;replace Z:=I (Z.o.over LT.o NT.o hg);replace HR:=I (HR.o.grown hg (fun e=>by injection e with e;exact bq.o e.symm));replace HQ:=I (HQ.o.grown hg (fun e=>by injection e with e;exact bn.o e.symm));replace SB:=I (SB.o.over hg cw.o);replace SA:=I (SA.o.over hg cf.o);clear hV hg bq bn cw cf;refine⟨⟨HQ.o,(Z.o).st.blk.cell 5⟩,?_⟩;simp only[Act.put,U,Aa,Ab];have O:=I HT.o;have ew:=I NT.o;have cL:=I LR.o;clear HT NT LT LR;obtain⟨gy,cB⟩:=Ak (PT);rw[<-cB] at O ew cL⊢;clear cB;refine Reg.ty 13 rfl ⟨HQ.o,(Z.o).st.blk.cell 5⟩ ?_;refine wpAnyH_done (by kernel_rfl) ?_ _
       go_wp2_with fail
       go_meet
       exact⟨_,cc,rfl,rfl,cL.o,fi.o,fK.o,O.o,ew.o,HR.o,NR.o,HQ.o,NQ.o,SA.o,Z.o⟩
      ·left
       have hb:Below V3.drew.heap.size V3.drew (V3.drew.alloc (.cells ptZ 33)):=Ah.alloc Ag _;have aw:=Blk.new V3.drew 33 ptZ;have LR:=I HR.o.lt;have LT:=I Z.o.size;have NT:=I (Z.o.st.fresh (Nat.le_refl V3.drew.heap.size));have bq:=I (Nat.ne_of_lt HR.o.lt);have bn:=I (Nat.ne_of_lt HQ.o.lt);have cw:=I SB.o.1;have cf:=I SA.o.1;refine⟨_,_,_,_,_,_,.pointer (some ⟨V3.drew.heap.size,0,none⟩),V3.drew.alloc (.cells ptZ 33),rfl,by rfl,(by go_simp<;>rfl),⟨(HQ.o.below hb),((Z.o.below hb)).st.blk.cell 5⟩,?_⟩;simp only[Act.put,U,Aa,Ab];obtain⟨gL,ef⟩:=Ak (V3.drew.alloc (.cells ptZ 33));rw[<-ef] at hb aw⊢;clear ef;replace Z:=I (Z.o.below hb);replace HR:=I (HR.o.below hb);replace HQ:=I (HQ.o.below hb);replace SB:=I (SB.o.below hb);replace SA:=I (SA.o.below hb);have HT:=I aw;clear aw hb;obtain⟨PT,cp⟩:=Ak (V3.drew.heap.size);rw[<-cp] at HT LT NT LR bq bn cw cf⊢;clear cp;refine Reg.b1 7 ?_
       right
       refine⟨_,_,_,_,_,_,53,#[.pointer (some ⟨p.r,0,none⟩),.agg fb,.int .i64 now],rfl,by rfl,(by go_simp<;>first | rfl | exact⟨rfl,rfl⟩),?_⟩;refine Calls.mono (CS.o _ Z.o.st SB.o) ?_;rintro e hG ⟨cc,rfl,hit,cq,hk⟩;have aw:=hk.blk HR.o (fun x=>NR.o (.inl x));replace NR:=I (hk.notA NR.o HR.o.lt);replace HR:=I aw;clear aw;have aw:=hk.blk HQ.o (fun x=>NQ.o (.inl x));replace NQ:=I (hk.notA NQ.o HQ.o.lt);replace HQ:=I aw;clear aw;have aw:=hk.blk HT.o (fun x=>NT.o (.inl x));replace NT:=I (hk.notA NT.o HT.o.lt);replace HT:=I aw;clear aw;replace SB:=I (SB.o.kn hk);replace SA:=I (SA.o.kn hk);replace Z:=I (Z.o.trans hk);have fi:=I hit;have fK:=I cq;clear hk hit cq CS;refine⟨_,rfl,⟨HQ.o,(Z.o).st.blk.cell 5⟩,?_⟩;simp only[Act.put,U,Aa,Ab];refine Reg.ty 8 rfl ⟨HQ.o,(Z.o).st.blk.cell 5⟩ ?_;refine Reg.ty 9 rfl ⟨HQ.o,(Z.o).st.blk.cell 5⟩ ?_;refine Reg.ty 10 rfl ⟨HQ.o,(Z.o).st.blk.cell 5⟩ ?_;refine Reg.BI 12 rfl (by kernel_rfl) (by rfl) PT 33 _ cP HT.o (by rfl) (by rfl) (by rw[fX.o];rfl) ff.o fY.o ?_;intro ht hV hg;replace HT:=I hV;replace Z:=I (Z.o.over LT.o NT.o hg);replace HR:=I (HR.o.grown hg (fun e=>by injection e with e;exact bq.o e.symm));replace HQ:=I (HQ.o.grown hg (fun e=>by injection e with e;exact bn.o e.symm));replace SB:=I (SB.o.over hg cw.o);replace SA:=I (SA.o.over hg cf.o);clear hV hg bq bn cw cf;refine⟨⟨HQ.o,(Z.o).st.blk.cell 5⟩,?_⟩;simp only[Act.put,U,Aa,Ab];have O:=I HT.o;have ew:=I NT.o;have cL:=I LR.o;clear HT NT LT LR;obtain⟨gy,cB⟩:=Ak (PT);rw[<-cB] at O ew cL⊢;clear cB;refine Reg.ty 13 rfl ⟨HQ.o,(Z.o).st.blk.cell 5⟩ ?_;refine wpAnyH_done (by kernel_rfl) ?_ _
       go_wp2_with fail
       go_meet
       exact⟨_,cc,rfl,rfl,cL.o,fi.o,fK.o,O.o,ew.o,HR.o,NR.o,HQ.o,NQ.o,SA.o,Z.o⟩
     case rest=>
      obtain⟨PT,cc,rfl,rfl,gl,hit,cq,fu,fL,hr,nr,hq,nq,sa,hk⟩:=hcut;have gE:=I gl;have fi:=I hit;have fK:=I cq;have O:=I fu;have cm:=I fL;replace HR:=I hr;replace NR:=I nr;replace HQ:=I hq;replace NQ:=I nq;replace SA:=I sa;replace Z:=I hk;clear gl hit cq fu fL hr nr hq nq sa hk CS SB gp gh fX fY
      by_cases hke:ke=0
      ·replace E1:=I ((if_pos hke).symm.trans E1.o)
       have gU:=I (cY.o.2 hke);have t1:(ke != 0)=false:=by rw[hke];rfl
       clear hke
       go_upto_region 12 with fail
       clear t1;have E2:=I ((show lokB p.T p.P.1 P q.a=(if (athL P.ss q.a 11 P.c).1=0 then lokC p.T p.P.1 P (athL P.ss q.a 11 P.c).2 else lk0 (athL P.ss q.a 11 P.c).1) from rfl).symm.trans E1.o);clear E1;obtain⟨xe,x,ct⟩:∃a b,athL P.ss q.a 11 P.c=(a,b):=⟨_,_,rfl⟩;have hf:=I (show xe=0->anB x=true by have:=Vm P.ss q.a 11 P.c;rw[ct] at this;exact this);replace E2:=I (show(if xe=0 then lokC p.T p.P.1 P x else lk0 xe)=r by have:=E2.o;rw[ct] at this;exact this);obtain⟨cK,fz⟩:=Ak (keyA P.ss);have eT:=I (fun(w1:World) (hb:Blk w1 PT 33 cP)=>(show w1.rangeAt PT 2 cK.toList/\w1.cell? ⟨PT,0,none⟩=some (.string ⟨P.c.1.toArray⟩)/\w1.cell? ⟨PT,1,none⟩=some (.string ⟨P.c.2.toArray⟩) by rw[EP.o] at hb;rw[fz];exact⟨MS cY.o.1 hb,pt_0 hb,pt_1 hb⟩));have gC:=I (show(Tryz.prog.info? 24).map (·.size)=some cK.size by rw[fz];exact IT cY.o.1);have CN:=I (fun(w1:World)=>(show Calls Tryz.prog 28 #[.agg cK] w1 fun e w'=>∃b,e=.returned (.pointer (some ⟨b,0,none⟩))/\w1.heap.size<=b/\Box w' b (ksOf P.ss) none 0 0 0/\Below w1.heap.size w1 w' by rw[fz,show keyA P.ss=AQ (ksOf P.ss) from(OG cY.o.1).symm];exact Se.Hy (ksOf P.ss) w1));have CA:=I (fun(w1:World) (bx:Nat) (h1:AD w1 B p cc u on st l n m (c+1)) (eQ:Box w1 bx (ksOf P.ss) none 0 0 0) (hn:¬AA p cc u bx) (hB:B<=bx) (hN:w9.heap.size<=bx) (hs:SlH w9.heap.size p cc u w1 av q.a)=>(show Calls Tryz.prog 54 #[.pointer (some ⟨bx,0,none⟩),.int .i64 11,av,Kd.prV P.c] w1 fun e w'=>∃es2 s2,e=.returned (.tuple #[.agg (anA x),.int .i64 xe])/\its es2=its cc/\es2.length=cc.length/\Rn w1 w' B p.r p.v cc (some ⟨bx,ksOf P.ss,none,0,0,0⟩) es2 s2 (c+2) by
        have hh:=bC (cl:=P.c) (u:=11) (h1.rsb eQ (fun y=>hn (.inl y)) hB) (by have:=HC.o;omega) (.inr ⟨_,rfl,rfl,rfl⟩) (by decide) (by decide) (hs.rsb hN);rw[ct] at hh;refine hh.mono ?_;rintro e w' ⟨es',s',rfl,hk⟩;exact⟨es',s',rfl,OH hk.eq,UB hk.eq,hk⟩))
       have hJ:=I fz;clear ct fz;obtain⟨cA,fv⟩:=Ak (anA x);rw[<-fv] at CA;have fQ:=I (show cA.size=4 by rw[fv];rfl);have fI:=I (show(Tryz.prog.info? 35).map (·.size)=some cA.size by rw[fQ.o];exact Nh);have fN:=I (show cA.all (·.oneCell')=true by rw[fv];exact Rp.UE x);have EA:=I fv;clear fv
       go_cut [9,12] from 58 to 68 (fun ev pv wx=>∃(PA:Nat) (es2:List Ent),ev=.int .i64 xe/\pv=.pointer (some ⟨PA,0,none⟩)/\w.heap.size<PA/\Blk wx PT 33 cP/\¬AA p es2 u PT/\Blk wx PA 35 cA/\¬AA p es2 u PA/\Blk wx w.heap.size 38 zz/\¬AA p es2 u w.heap.size/\Av w wx B p es u es2 u on st l n m (c+2))
       case first=>
        have bz:Below wc.heap.size wc wc.drew:=below_drewN Ah 1;replace Z:=I (Z.o.below bz);replace HR:=I (HR.o.below bz);replace HQ:=I (HQ.o.below bz);replace O:=I (O.o.below bz);replace SA:=I (SA.o.below bz);clear bz;refine Reg.Bo (fun w'=>Blk w' PT 33 cP/\Blk w' PQ 76 cR) 14 rfl (by kernel_rfl) ⟨O.o,HQ.o⟩ ?_;refine Reg.ty 0 rfl ⟨O.o,HQ.o⟩ ?_;refine Reg.tw 1 (v:=.agg cK) rfl ⟨O.o,HQ.o⟩ (fun w' hS=>by obtain⟨hP,hQ⟩:=hS;exact Rg.Da (.tmp 59) rfl rfl (eT.o _ hP).1 Tryz.underlying24 rfl gC.o) ?_;refine Reg.ty 3 rfl ⟨O.o,HQ.o⟩ ?_;refine Reg.tw 4 (v:=av) rfl ⟨O.o,HQ.o⟩ (fun w' hS=>by obtain⟨hP,hQ⟩:=hS;have q4:=(fj.o _ _ hQ).2.2.2.2;go_simp<;>rfl) ?_;refine Reg.ty 5 rfl ⟨O.o,HQ.o⟩ ?_;refine Reg.tw 6 (v:=Kd.prV P.c) rfl ⟨O.o,HQ.o⟩ (fun w' hS=>by obtain⟨hP,hQ⟩:=hS;have p0:=(eT.o _ hP).2.1;have p1:=(eT.o _ hP).2.2;go_simp<;>rfl) ?_;refine Reg.b2 2 11 ?_ ?_
        ·right
         refine⟨_,_,_,_,_,_,28,#[.agg cK],rfl,by rfl,(by go_simp<;>first | rfl | exact⟨rfl,rfl⟩),?_⟩;refine Calls.mono (CN.o _) ?_;rintro e ca ⟨bx,rfl,cb,eQ,hb⟩;have eP:=I (Z.o.st.fresh cb);have fP:=I (Nat.le_trans Z.o.size cb);have fM:=I (Nat.le_trans Z.o.st.hB cb);have fO:=I (Nat.le_trans SA.o.1 cb);have cy:=I (Nat.ne_of_lt (Nat.lt_of_lt_of_le HR.o.lt cb));have cx:=I (Nat.ne_of_lt (Nat.lt_of_lt_of_le HQ.o.lt cb));have cn:=I (Nat.ne_of_lt (Nat.lt_of_lt_of_le O.o.lt cb));replace Z:=I (Z.o.below hb);replace HR:=I (HR.o.below hb);replace HQ:=I (HQ.o.below hb);replace O:=I (O.o.below hb);replace SA:=I (SA.o.below hb);have cT:=I eQ;clear eQ hb cb CN;refine⟨_,rfl,⟨O.o,HQ.o⟩,?_⟩;simp only[Act.put,U,Aa,Ab];refine Reg.b2 7 11 ?_ ?_
         ·right
          refine⟨_,_,_,_,_,_,54,#[.pointer (some ⟨bx,0,none⟩),.int .i64 11,av,Kd.prV P.c],rfl,by rfl,(by go_simp<;>first | rfl | exact⟨rfl,rfl⟩),?_⟩;refine Calls.mono (CA.o _ bx Z.o.st cT.o eP.o fM.o fO.o SA.o) ?_;rintro e bB ⟨es2,s2,rfl,hit,cq,hk⟩;have aw:=DZ hk HR.o NR.o cy.o;replace NR:=I (Ea hk NR.o cy.o HR.o.lt);replace HR:=I aw;clear aw;have aw:=DZ hk HQ.o NQ.o cx.o;replace NQ:=I (Ea hk NQ.o cx.o HQ.o.lt);replace HQ:=I aw;clear aw;have aw:=DZ hk O.o cm.o cn.o;replace cm:=I (Ea hk cm.o cn.o O.o.lt);replace O:=I aw;clear aw;replace Z:=I (Z.o.of_rsb fP.o eP.o hk);clear hk hit cq CA SA cT;refine⟨_,rfl,⟨O.o,HQ.o⟩,?_⟩;simp only[Act.put,U,Aa,Ab];refine Reg.ty 8 rfl ⟨O.o,HQ.o⟩ ?_;refine Reg.ty 9 rfl ⟨O.o,HQ.o⟩ ?_;refine Reg.ty 10 rfl ⟨O.o,HQ.o⟩ ?_;refine Reg.b1 11 ?_
          left
          have hb:Below bB.heap.size bB (bB.alloc (.cells anZ 35)):=Ah.alloc Ag _;have aw:=Blk.new bB 35 anZ;have LR:=I HR.o.lt;have LT:=I Z.o.size;have NT:=I (Z.o.st.fresh (Nat.le_refl bB.heap.size));have bq:=I (Nat.ne_of_lt HR.o.lt);have bn:=I (Nat.ne_of_lt HQ.o.lt);have bs:=I (Nat.ne_of_lt O.o.lt);refine⟨_,_,_,_,_,_,.pointer (some ⟨bB.heap.size,0,none⟩),bB.alloc (.cells anZ 35),rfl,by rfl,(by go_simp<;>rfl),⟨(O.o.below hb),(HQ.o.below hb)⟩,?_⟩;simp only[Act.put,U,Aa,Ab];obtain⟨gJ,ez⟩:=Ak (bB.alloc (.cells anZ 35));rw[<-ez] at hb aw⊢;clear ez;replace Z:=I (Z.o.below hb);replace HR:=I (HR.o.below hb);replace HQ:=I (HQ.o.below hb);replace O:=I (O.o.below hb);have HT:=I aw;clear aw hb;obtain⟨PT,cp⟩:=Ak (bB.heap.size);rw[<-cp] at HT LT NT LR bq bn bs⊢;clear cp;refine Reg.BI 12 rfl (by kernel_rfl) (by rfl) PT 35 _ cA HT.o (by rfl) (by rfl) (by rw[fQ.o];rfl) fI.o fN.o ?_;intro gZ hV hg;replace HT:=I hV;replace Z:=I (Z.o.over LT.o NT.o hg);replace HR:=I (HR.o.grown hg (fun e=>by injection e with e;exact bq.o e.symm));replace HQ:=I (HQ.o.grown hg (fun e=>by injection e with e;exact bn.o e.symm));replace O:=I (O.o.grown hg (fun e=>by injection e with e;exact bs.o e.symm));clear hV hg bq bn bs;refine⟨⟨O.o,HQ.o⟩,?_⟩;simp only[Act.put,U,Aa,Ab];have bb:=I HT.o;have cu:=I NT.o;have cd:=I LR.o;clear HT NT LT LR;obtain⟨fT,cg⟩:=Ak (PT);rw[<-cg] at bb cu cd⊢;clear cg;refine Reg.ty 13 rfl ⟨O.o,HQ.o⟩ ?_;refine wpAnyH_done (by kernel_rfl) ?_ _
          go_wp2_with fail
          go_meet
          exact⟨_,es2,rfl,rfl,cd.o,O.o,cm.o,bb.o,cu.o,HR.o,NR.o,Z.o⟩
         ·left
          have hb:Below ca.heap.size ca (ca.alloc (.cells anZ 35)):=Ah.alloc Ag _;have aw:=Blk.new ca 35 anZ;have LR:=I HR.o.lt;have LT:=I Z.o.size;have NT:=I (Z.o.st.fresh (Nat.le_refl ca.heap.size));have bq:=I (Nat.ne_of_lt HR.o.lt);have bn:=I (Nat.ne_of_lt HQ.o.lt);have bs:=I (Nat.ne_of_lt O.o.lt);have cf:=I SA.o.1;have gv:=I (Nat.ne_of_lt cT.o.lt);refine⟨_,_,_,_,_,_,.pointer (some ⟨ca.heap.size,0,none⟩),ca.alloc (.cells anZ 35),rfl,by rfl,(by go_simp<;>rfl),⟨(O.o.below hb),(HQ.o.below hb)⟩,?_⟩;simp only[Act.put,U,Aa,Ab];obtain⟨gK,eF⟩:=Ak (ca.alloc (.cells anZ 35));rw[<-eF] at hb aw⊢;clear eF;replace Z:=I (Z.o.below hb);replace HR:=I (HR.o.below hb);replace HQ:=I (HQ.o.below hb);replace O:=I (O.o.below hb);replace SA:=I (SA.o.below hb);replace cT:=I (cT.o.below hb);have HT:=I aw;clear aw hb;obtain⟨PT,cp⟩:=Ak (ca.heap.size);rw[<-cp] at HT LT NT LR bq bn bs cf gv⊢;clear cp;have ea:=I (show PT≠bx from fun e=>gv.o e.symm);refine Reg.b1 7 ?_
          right
          refine⟨_,_,_,_,_,_,54,#[.pointer (some ⟨bx,0,none⟩),.int .i64 11,av,Kd.prV P.c],rfl,by rfl,(by go_simp<;>first | rfl | exact⟨rfl,rfl⟩),?_⟩;refine Calls.mono (CA.o _ bx Z.o.st cT.o eP.o fM.o fO.o SA.o) ?_;rintro e gX ⟨es2,s2,rfl,hit,cq,hk⟩;have aw:=DZ hk HR.o NR.o cy.o;replace NR:=I (Ea hk NR.o cy.o HR.o.lt);replace HR:=I aw;clear aw;have aw:=DZ hk HQ.o NQ.o cx.o;replace NQ:=I (Ea hk NQ.o cx.o HQ.o.lt);replace HQ:=I aw;clear aw;have aw:=DZ hk O.o cm.o cn.o;replace cm:=I (Ea hk cm.o cn.o O.o.lt);replace O:=I aw;clear aw;have aw:=DZ hk HT.o NT.o ea.o;replace NT:=I (Ea hk NT.o ea.o HT.o.lt);replace HT:=I aw;clear aw;replace Z:=I (Z.o.of_rsb fP.o eP.o hk);clear hk hit cq CA SA cT;refine⟨_,rfl,⟨O.o,HQ.o⟩,?_⟩;simp only[Act.put,U,Aa,Ab];refine Reg.ty 8 rfl ⟨O.o,HQ.o⟩ ?_;refine Reg.ty 9 rfl ⟨O.o,HQ.o⟩ ?_;refine Reg.ty 10 rfl ⟨O.o,HQ.o⟩ ?_;refine Reg.BI 12 rfl (by kernel_rfl) (by rfl) PT 35 _ cA HT.o (by rfl) (by rfl) (by rw[fQ.o];rfl) fI.o fN.o ?_;intro hI hV hg;replace HT:=I hV;replace Z:=I (Z.o.over LT.o NT.o hg);replace HR:=I (HR.o.grown hg (fun e=>by injection e with e;exact bq.o e.symm));replace HQ:=I (HQ.o.grown hg (fun e=>by injection e with e;exact bn.o e.symm));replace O:=I (O.o.grown hg (fun e=>by injection e with e;exact bs.o e.symm));clear hV hg bq bn bs;refine⟨⟨O.o,HQ.o⟩,?_⟩;simp only[Act.put,U,Aa,Ab];have bb:=I HT.o;have cu:=I NT.o;have cd:=I LR.o;clear HT NT LT LR;obtain⟨fT,cg⟩:=Ak (PT);rw[<-cg] at bb cu cd⊢;clear cg;refine Reg.ty 13 rfl ⟨O.o,HQ.o⟩ ?_;refine wpAnyH_done (by kernel_rfl) ?_ _
          go_wp2_with fail
          go_meet
          exact⟨_,es2,rfl,rfl,cd.o,O.o,cm.o,bb.o,cu.o,HR.o,NR.o,Z.o⟩
        ·left
         have hb:Below wc.drew.heap.size wc.drew (wc.drew.alloc (.cells anZ 35)):=Ah.alloc Ag _;have aw:=Blk.new wc.drew 35 anZ;have LR:=I HR.o.lt;have LT:=I Z.o.size;have NT:=I (Z.o.st.fresh (Nat.le_refl wc.drew.heap.size));have bq:=I (Nat.ne_of_lt HR.o.lt);have bn:=I (Nat.ne_of_lt HQ.o.lt);have bs:=I (Nat.ne_of_lt O.o.lt);have cf:=I SA.o.1;refine⟨_,_,_,_,_,_,.pointer (some ⟨wc.drew.heap.size,0,none⟩),wc.drew.alloc (.cells anZ 35),rfl,by rfl,(by go_simp<;>rfl),⟨(O.o.below hb),(HQ.o.below hb)⟩,?_⟩;simp only[Act.put,U,Aa,Ab];obtain⟨gN,ei⟩:=Ak (wc.drew.alloc (.cells anZ 35));rw[<-ei] at hb aw⊢;clear ei;replace Z:=I (Z.o.below hb);replace HR:=I (HR.o.below hb);replace HQ:=I (HQ.o.below hb);replace O:=I (O.o.below hb);replace SA:=I (SA.o.below hb);have HT:=I aw;clear aw hb;obtain⟨PT,cp⟩:=Ak (wc.drew.heap.size);rw[<-cp] at HT LT NT LR bq bn bs cf⊢;clear cp;refine Reg.b1 2 ?_
         right
         refine⟨_,_,_,_,_,_,28,#[.agg cK],rfl,by rfl,(by go_simp<;>first | rfl | exact⟨rfl,rfl⟩),?_⟩;refine Calls.mono (CN.o _) ?_;rintro e gO ⟨bx,rfl,cb,eQ,hb⟩;have eP:=I (Z.o.st.fresh cb);have fP:=I (Nat.le_trans Z.o.size cb);have fM:=I (Nat.le_trans Z.o.st.hB cb);have fO:=I (Nat.le_trans SA.o.1 cb);have cy:=I (Nat.ne_of_lt (Nat.lt_of_lt_of_le HR.o.lt cb));have cx:=I (Nat.ne_of_lt (Nat.lt_of_lt_of_le HQ.o.lt cb));have cn:=I (Nat.ne_of_lt (Nat.lt_of_lt_of_le O.o.lt cb));have ea:=I (Nat.ne_of_lt (Nat.lt_of_lt_of_le HT.o.lt cb));replace Z:=I (Z.o.below hb);replace HR:=I (HR.o.below hb);replace HQ:=I (HQ.o.below hb);replace O:=I (O.o.below hb);replace SA:=I (SA.o.below hb);replace HT:=I (HT.o.below hb);have cT:=I eQ;clear eQ hb cb CN;refine⟨_,rfl,⟨O.o,HQ.o⟩,?_⟩;simp only[Act.put,U,Aa,Ab];refine Reg.b1 7 ?_
         right
         refine⟨_,_,_,_,_,_,54,#[.pointer (some ⟨bx,0,none⟩),.int .i64 11,av,Kd.prV P.c],rfl,by rfl,(by go_simp<;>first | rfl | exact⟨rfl,rfl⟩),?_⟩;refine Calls.mono (CA.o _ bx Z.o.st cT.o eP.o fM.o fO.o SA.o) ?_;rintro e gY ⟨es2,s2,rfl,hit,cq,hk⟩;have aw:=DZ hk HR.o NR.o cy.o;replace NR:=I (Ea hk NR.o cy.o HR.o.lt);replace HR:=I aw;clear aw;have aw:=DZ hk HQ.o NQ.o cx.o;replace NQ:=I (Ea hk NQ.o cx.o HQ.o.lt);replace HQ:=I aw;clear aw;have aw:=DZ hk O.o cm.o cn.o;replace cm:=I (Ea hk cm.o cn.o O.o.lt);replace O:=I aw;clear aw;have aw:=DZ hk HT.o NT.o ea.o;replace NT:=I (Ea hk NT.o ea.o HT.o.lt);replace HT:=I aw;clear aw;replace Z:=I (Z.o.of_rsb fP.o eP.o hk);clear hk hit cq CA SA cT;refine⟨_,rfl,⟨O.o,HQ.o⟩,?_⟩;simp only[Act.put,U,Aa,Ab];refine Reg.ty 8 rfl ⟨O.o,HQ.o⟩ ?_;refine Reg.ty 9 rfl ⟨O.o,HQ.o⟩ ?_;refine Reg.ty 10 rfl ⟨O.o,HQ.o⟩ ?_;refine Reg.BI 12 rfl (by kernel_rfl) (by rfl) PT 35 _ cA HT.o (by rfl) (by rfl) (by rw[fQ.o];rfl) fI.o fN.o ?_;intro gP hV hg;replace HT:=I hV;replace Z:=I (Z.o.over LT.o NT.o hg);replace HR:=I (HR.o.grown hg (fun e=>by injection e with e;exact bq.o e.symm));replace HQ:=I (HQ.o.grown hg (fun e=>by injection e with e;exact bn.o e.symm));replace O:=I (O.o.grown hg (fun e=>by injection e with e;exact bs.o e.symm));clear hV hg bq bn bs;refine⟨⟨O.o,HQ.o⟩,?_⟩;simp only[Act.put,U,Aa,Ab];have bb:=I HT.o;have cu:=I NT.o;have cd:=I LR.o;clear HT NT LT LR;obtain⟨fT,cg⟩:=Ak (PT);rw[<-cg] at bb cu cd⊢;clear cg;refine Reg.ty 13 rfl ⟨O.o,HQ.o⟩ ?_;refine wpAnyH_done (by kernel_rfl) ?_ _
         go_wp2_with fail
         go_meet
         exact⟨_,es2,rfl,rfl,cd.o,O.o,cm.o,bb.o,cu.o,HR.o,NR.o,Z.o⟩
       case rest=>
        obtain⟨PA,es2,rfl,rfl,gq,fu,fL,gj,gH,hr,nr,hk⟩:=hcut;have gi:=I (show w.heap.size≠PT/\w.heap.size≠PA from⟨Nat.ne_of_lt gE.o,Nat.ne_of_lt gq⟩);replace O:=I fu;replace cm:=I fL;have bb:=I gj;have gI:=I gH;replace HR:=I hr;replace NR:=I nr;replace Z:=I hk;clear gq gE fu fL gj gH hr nr hk CN CA SA HQ NQ fj fN fi fK
        by_cases hxe:xe=0
        ·replace E2:=I ((if_pos hxe).symm.trans E2.o)
         have gR:=I (hf.o hxe);have t1:(xe != 0)=false:=by rw[hxe];rfl
         clear hxe;have gG:=Ms.Dy gU.o;have gQ:=Ms.GV gG.2.1;have fR:=an_tm gR.o;have E3:=I ((show lokC p.T p.P.1 P x=(if (pasL p.T p.P.1 P).1=0 then ⟨0,P,x,(pasL p.T p.P.1 P).2⟩ else lk0 (pasL p.T p.P.1 P).1) from rfl).symm.trans E2.o);clear E2;obtain⟨ye,ls,ct⟩:∃a b,pasL p.T p.P.1 P=(a,b):=⟨_,_,rfl⟩;replace E3:=I (show(if ye=0 then ⟨0,P,x,ls⟩ else lk0 ye)=r by have:=E3.o;rw[ct] at this;exact this);obtain⟨nl,fU⟩:=Ak (ls.length);have CQ:=I (fun(w1:World) (h1:AD w1 B p es2 u on st l n m (c+2))=>(show Calls Tryz.prog 55 #[.pointer (some ⟨p.a,0,none⟩),.agg cP] w1 fun e w'=>∃A c',e=.returned (.tuple #[.slice A nl c',.int .i64 ye])/\Own w' w1.heap.size (.slice A nl c') ls/\Below w1.heap.size w1 w' by
          have hh:=aU (P:=P) h1 gS.o cY.o.1 (by omega) (by omega) hD.o.1;rw[ct] at hh;rw[EP.o];refine hh.mono ?_;rintro e w' ⟨v,rfl,ho,hb⟩;obtain⟨A,c',rfl,_⟩:=ho.slice;rw[<-fU] at ho;rw[<-fU];exact⟨A,c',rfl,ho,hb⟩))
         have CW:=I (fun(w1:World) (h1:AD w1 B p es2 u on st l n m (c+2))=>(show Calls Tryz.prog 56 #[.pointer (some ⟨p.a,0,none⟩),.agg cA,.int .i64 now] w1 fun e w'=>e=.returned (.int .i64 (seeE on st l x now))/\∃u',Av w1 w' B p es2 u es2 u' on st (seeL on st l x now) n m (c+2) by
          rw[EA.o];exact UI h1 gW.o fR.1 ⟨HN.o.1,by have:=HN.o.2;omega⟩ (by have:=fR.2;omega) (by have:=fR.2;omega) hF.o))
         clear ct fU gG gQ fR
         by_cases hye:ye=0
         ·replace E3:=I ((if_pos hye).symm.trans E3.o)
          have t2:(ye != 0)=false:=by rw[hye];rfl
          clear hye;obtain⟨k,ek⟩:=Ak (seeE on st l x now);obtain⟨l',el⟩:=Ak (seeL on st l x now);rw[<-ek,<-el] at CW;have eL:=I (show r.e=0/\r.p=P/\r.a=x/\r.l=ls by rw[<-E3.o];exact⟨rfl,rfl,rfl,rfl⟩);have gw:=I (show seeE on st l r.a now=k by rw[eL.o.2.2.1,ek]);have gk:=I (show seeL on st l r.a now=l' by rw[eL.o.2.2.1,el]);clear ek el E3
          by_cases hk0:k=0
          ·subst hk0
           go_upto_region 21 with(first
            |(refine Wh.AF (by rfl) 33 (.tmp 11) (by rfl) PT 0 (by rfl) cP _ (Wh.Ad O.o) Tryz.underlying33 (by rfl) ff.o ?_)
            |(go_at_call 55;refine Calls.mono (CQ.o _ Z.o.st) ?_;rintro e w6 ⟨A6,c6,rfl,ho,hb⟩;clear CQ;have fZ:=I (fun k (hk:(Value.slice A6 nl c6).ownBlock=some k) (e:k=w.heap.size)=>(show False by have:=(ho.lt k hk).1;have:=HR.o.lt;omega));have HO:=I (ho.from_ Z.o.size:Own w6 w.heap.size (.slice A6 nl c6) ls);have NO:=I (fun k (hk:(Value.slice A6 nl c6).ownBlock=some k) (hx:AO p es2 u k)=>(show False by have:=(ho.lt k hk).1;have:=Z.o.st.ao_lt hx;omega));replace Z:=I (Z.o.below hb);replace HR:=I (HR.o.below hb);replace O:=I (O.o.below hb);replace bb:=I (bb.o.below hb);clear ho hb)
            |(refine Wh.AF (by rfl) 35 (.tmp 12) (by rfl) PA 0 (by rfl) cA _ (Wh.Ad bb.o) Tryz.underlying35 (by rfl) fI.o ?_)
            |(go_at_call 56;refine Aj (CW.o _ Z.o.st) ?_;rintro w7 ⟨u',hk⟩;clear CW;have aw:=hk.blk HR.o (fun y=>NR.o (.inl y));replace NR:=I (hk.notA NR.o HR.o.lt);replace HR:=I aw;clear aw;have aw:=hk.blk O.o (fun y=>cm.o (.inl y));replace O:=I aw;clear aw;have aw:=hk.blk bb.o (fun y=>gI.o (.inl y));replace bb:=I aw;clear aw;have eE:=Rg.Bv hk.chg HO.o (fun k cM=>NO.o k cM);replace NO:=I (fun k (cM:(Value.slice A6 nl c6).ownBlock=some k)=>hk.not (NO.o k cM) (HO.o.lt k cM).2);replace HO:=I (show Own w7 w.heap.size (.slice A6 nl c6) ls from eE);replace Z:=I (Z.o.trans hk);clear hk eE)
            |fail)
           obtain⟨cX,fJ⟩:=Ak (acA ⟨P.c,p.P,P.ss,ls,x.t,x.q⟩ (.slice A6 nl c6));have ha:=I (show Tryz.prog.built 38 [(0,Kd.prV P.c),(1,Kd.prV p.P),(2,.agg cK),(3,.slice A6 nl c6),(4,.int .i64 x.t),(5,.int .i64 x.q)]=some cX by rw[fJ,hJ.o];exact XU cY.o.1 _ _ _ _ _ _ _ _);have gD:=I (show cX.size=39 by rw[fJ];exact Ho cY.o.1 _);have gd:=I (show(Tryz.prog.info? 38).map (·.size)=some cX.size by rw[gD.o];exact Nj);have hK:=I (show cX.all (·.oneCell')=true by rw[fJ];exact JW _ rfl);have EX:=I fJ;clear fJ;have gx:=I (fun(w1:World) (hb:Blk w1 PA 35 cA)=>(show w1.cell? ⟨PA,2,none⟩=some (.int .i64 x.t)/\w1.cell? ⟨PA,3,none⟩=some (.int .i64 x.q) by rw[EA.o] at hb;exact⟨hb.cell 2,hb.cell 3⟩));have bz:Below w7.heap.size w7 w7.drew:=below_drewN Ah 1;replace Z:=I (Z.o.below bz);replace HR:=I (HR.o.below bz);replace O:=I (O.o.below bz);replace bb:=I (bb.o.below bz);replace HO:=I (HO.o.below bz);clear bz;refine Reg.Bo (fun w'=>Blk w' PT 33 cP/\Blk w' PA 35 cA/\w'.cell? ⟨p.a,0,none⟩=some (.string ⟨p.P.1.toArray⟩)/\w'.cell? ⟨p.a,1,none⟩=some (.string ⟨p.P.2.toArray⟩)) 17 rfl (by kernel_rfl) ⟨O.o,bb.o,(Z.o).st.blk.cell 0,(Z.o).st.blk.cell 1⟩ ?_;refine Reg.ty 0 rfl ⟨O.o,bb.o,(Z.o).st.blk.cell 0,(Z.o).st.blk.cell 1⟩ ?_;refine Reg.tw 1 (v:=Kd.prV P.c) rfl ⟨O.o,bb.o,(Z.o).st.blk.cell 0,(Z.o).st.blk.cell 1⟩ (fun w' hS=>by obtain⟨hP,hA,et,eo⟩:=hS;have p0:=(eT.o _ hP).2.1;have p1:=(eT.o _ hP).2.2;go_simp<;>rfl) ?_;refine Reg.ty 2 rfl ⟨O.o,bb.o,(Z.o).st.blk.cell 0,(Z.o).st.blk.cell 1⟩ ?_;refine Reg.ty 3 rfl ⟨O.o,bb.o,(Z.o).st.blk.cell 0,(Z.o).st.blk.cell 1⟩ ?_;refine Reg.ty 4 rfl ⟨O.o,bb.o,(Z.o).st.blk.cell 0,(Z.o).st.blk.cell 1⟩ ?_;refine Reg.tw 5 (v:=Kd.prV p.P) rfl ⟨O.o,bb.o,(Z.o).st.blk.cell 0,(Z.o).st.blk.cell 1⟩ (fun w' hS=>by obtain⟨hP,hA,et,eo⟩:=hS;go_simp<;>rfl) ?_;refine Reg.ty 7 rfl ⟨O.o,bb.o,(Z.o).st.blk.cell 0,(Z.o).st.blk.cell 1⟩ ?_;refine Reg.tw 8 (v:=.agg cK) rfl ⟨O.o,bb.o,(Z.o).st.blk.cell 0,(Z.o).st.blk.cell 1⟩ (fun w' hS=>by obtain⟨hP,hA,et,eo⟩:=hS;exact Rg.Da (.tmp 98) rfl rfl (eT.o _ hP).1 Tryz.underlying24 rfl gC.o) ?_;refine Reg.ty 9 rfl ⟨O.o,bb.o,(Z.o).st.blk.cell 0,(Z.o).st.blk.cell 1⟩ ?_;refine Reg.ty 10 rfl ⟨O.o,bb.o,(Z.o).st.blk.cell 0,(Z.o).st.blk.cell 1⟩ ?_;refine Reg.tw 11 (v:=.int .i64 x.t) rfl ⟨O.o,bb.o,(Z.o).st.blk.cell 0,(Z.o).st.blk.cell 1⟩ (fun w' hS=>by obtain⟨hP,hA,et,eo⟩:=hS;have a2:=(gx.o _ hA).1;go_simp<;>rfl) ?_;refine Reg.ty 12 rfl ⟨O.o,bb.o,(Z.o).st.blk.cell 0,(Z.o).st.blk.cell 1⟩ ?_;refine Reg.tw 13 (v:=.int .i64 x.q) rfl ⟨O.o,bb.o,(Z.o).st.blk.cell 0,(Z.o).st.blk.cell 1⟩ (fun w' hS=>by obtain⟨hP,hA,et,eo⟩:=hS;have a3:=(gx.o _ hA).2;go_simp<;>rfl) ?_;refine Reg.b1 6 ?_
           right
           refine⟨_,_,_,_,_,_,27,#[Kd.prV p.P],rfl,by rfl,(by go_simp<;>first | rfl | exact⟨rfl,rfl⟩),?_⟩;refine Aj (CP.o _) ?_;rintro hH hb;replace Z:=I (Z.o.below hb);replace HR:=I (HR.o.below hb);replace O:=I (O.o.below hb);replace bb:=I (bb.o.below hb);replace HO:=I (HO.o.below hb);clear hb;clear CP;refine⟨_,rfl,⟨O.o,bb.o,(Z.o).st.blk.cell 0,(Z.o).st.blk.cell 1⟩,?_⟩;simp only[Act.put,U,Aa,Ab];refine Reg.tw 14 (v:=.agg cX) rfl ⟨O.o,bb.o,(Z.o).st.blk.cell 0,(Z.o).st.blk.cell 1⟩ (fun w' hS=>by obtain⟨hP,hA,et,eo⟩:=hS;exact Rg.Bk (by simp only[List.map_toArray,List.map_cons,List.map_nil];rfl) ha.o) ?_;refine Reg.BI 15 rfl (by kernel_rfl) (by rfl) w.heap.size 38 _ cX HR.o (by rfl) (by rfl) (by rw[gr.o,gD.o]) gd.o hK.o ?_;intro gT hV hg;have hk:=Z.o.over Ag NR.o hg;replace O:=I (O.o.grown hg (fun e=>by injection e with e;exact gi.o.1 e));replace bb:=I (bb.o.grown hg (fun e=>by injection e with e;exact gi.o.2 e));have eE:=Rg.Bv (Chg.of_grown hg rfl:Chg (fun j=>j=w.heap.size) _ _) HO.o (fun k cM e=>fZ.o k cM e);replace HO:=I eE;replace HR:=I hV;replace Z:=I hk;clear hV hg hk eE;refine⟨⟨O.o,bb.o,(Z.o).st.blk.cell 0,(Z.o).st.blk.cell 1⟩,?_⟩;simp only[Act.put,U,Aa,Ab];refine Reg.ty 16 rfl ⟨O.o,bb.o,(Z.o).st.blk.cell 0,(Z.o).st.blk.cell 1⟩ ?_;refine wpAnyH_done (by kernel_rfl) ?_ _
           go_wp2_with fail
           refine bodyPost_ret (v:=.tuple #[.agg cX,.int .i64 0]) ?_ ?_ ?_
           ·exact Rg.Ae (v:=.agg cX) 6 7 38 ⟨w.heap.size,0,none⟩ Tryz.results21 rfl (Wh.Ao HR.o Tryz.underlying38 (by rfl) gd.o) rfl
           ·rfl
           ·have hy:=bD (r:=r) (now:=now) eL.o.1 gw.o (gk.o▸Z.o) (v:=.slice A6 nl c6) rfl (eL.o.2.2.2▸HO.o) NO.o
            rw[eL.o.2.1,eL.o.2.2.1,eL.o.2.2.2] at hy;rw[EX.o];exact hy
          ·have t3:(k != 0)=true:=by simpa using hk0
           have eN:=I hk0;clear hk0
           go_upto_region 20 with(first
            |(refine Wh.AF (by rfl) 33 (.tmp 11) (by rfl) PT 0 (by rfl) cP _ (Wh.Ad O.o) Tryz.underlying33 (by rfl) ff.o ?_)
            |(go_at_call 55;refine Calls.mono (CQ.o _ Z.o.st) ?_;rintro e w6 ⟨A6,c6,rfl,ho,hb⟩;clear CQ;have fZ:=I (fun k (hk:(Value.slice A6 nl c6).ownBlock=some k) (e:k=w.heap.size)=>(show False by have:=(ho.lt k hk).1;have:=HR.o.lt;omega));have HO:=I (ho.from_ Z.o.size:Own w6 w.heap.size (.slice A6 nl c6) ls);have NO:=I (fun k (hk:(Value.slice A6 nl c6).ownBlock=some k) (hx:AO p es2 u k)=>(show False by have:=(ho.lt k hk).1;have:=Z.o.st.ao_lt hx;omega));replace Z:=I (Z.o.below hb);replace HR:=I (HR.o.below hb);replace O:=I (O.o.below hb);replace bb:=I (bb.o.below hb);clear ho hb)
            |(refine Wh.AF (by rfl) 35 (.tmp 12) (by rfl) PA 0 (by rfl) cA _ (Wh.Ad bb.o) Tryz.underlying35 (by rfl) fI.o ?_)
            |(go_at_call 56;refine Aj (CW.o _ Z.o.st) ?_;rintro w7 ⟨u',hk⟩;clear CW;have aw:=hk.blk HR.o (fun y=>NR.o (.inl y));replace NR:=I (hk.notA NR.o HR.o.lt);replace HR:=I aw;clear aw;have aw:=hk.blk O.o (fun y=>cm.o (.inl y));replace O:=I aw;clear aw;have aw:=hk.blk bb.o (fun y=>gI.o (.inl y));replace bb:=I aw;clear aw;have eE:=Rg.Bv hk.chg HO.o (fun k cM=>NO.o k cM);replace NO:=I (fun k (cM:(Value.slice A6 nl c6).ownBlock=some k)=>hk.not (NO.o k cM) (HO.o.lt k cM).2);replace HO:=I (show Own w7 w.heap.size (.slice A6 nl c6) ls from eE);replace Z:=I (Z.o.trans hk);clear hk eE)
            |fail)
           go_wp2_with (first
            |(refine Mc.Am (by rfl) 38 #[] (by rfl) zz (by simp;exact cj.o) ?_)
            |(refine Wh.AX (by rfl) 38 (.tmp 6) (.tmp 89) (by rfl) w.heap.size 38 _ HR.o zz (by rfl) (by rfl) (by rfl) ck.o ep.o ?_;rintro V hV hg;replace HR:=I hV;replace Z:=I (Z.o.over Ag NR.o hg);clear hV hg cj)
            |fail)
           refine bodyPost_ret (v:=.tuple #[.agg zz,.int .i64 k]) ?_ ?_ ?_
           ·exact Rg.Ae (v:=.agg zz) 6 7 38 ⟨w.heap.size,0,none⟩ Tryz.results21 rfl (Wh.Ao HR.o Tryz.underlying38 (by rfl) ck.o) rfl
           ·rfl
           ·rw[<-ey.o];exact XV eL.o.1 gw.o (gk.o▸Z.o) eN.o
         ·replace E3:=I ((if_neg hye).symm.trans E3.o)
          have er:r=lk0 ye:=E3.o.symm;have fs:=I (show r.e=ye by rw[er];rfl);have t2:(ye != 0)=true:=by simpa using hye
          have eN:=I hye;clear hye er CW
          go_upto_region 17 with(first
           |(refine Wh.AF (by rfl) 33 (.tmp 11) (by rfl) PT 0 (by rfl) cP _ (Wh.Ad O.o) Tryz.underlying33 (by rfl) ff.o ?_)
           |(go_at_call 55;refine Calls.mono (CQ.o _ Z.o.st) ?_;rintro e w6 ⟨A6,c6,rfl,ho,hb⟩;clear CQ;have fZ:=I (fun k (hk:(Value.slice A6 nl c6).ownBlock=some k) (e:k=w.heap.size)=>(show False by have:=(ho.lt k hk).1;have:=HR.o.lt;omega));have HO:=I (ho.from_ Z.o.size:Own w6 w.heap.size (.slice A6 nl c6) ls);have NO:=I (fun k (hk:(Value.slice A6 nl c6).ownBlock=some k) (hx:AO p es2 u k)=>(show False by have:=(ho.lt k hk).1;have:=Z.o.st.ao_lt hx;omega));replace Z:=I (Z.o.below hb);replace HR:=I (HR.o.below hb);replace O:=I (O.o.below hb);replace bb:=I (bb.o.below hb);clear ho hb)
           |fail)
          go_wp2_with (first
           |(refine Mc.Am (by rfl) 38 #[] (by rfl) zz (by simp;exact cj.o) ?_)
           |(refine Wh.AX (by rfl) 38 (.tmp 6) (.tmp 81) (by rfl) w.heap.size 38 _ HR.o zz (by rfl) (by rfl) (by rfl) ck.o ep.o ?_;rintro V hV hg;replace HR:=I hV;replace Z:=I (Z.o.over Ag NR.o hg);clear hV hg cj)
           |fail)
          refine bodyPost_ret (v:=.tuple #[.agg zz,.int .i64 ye]) ?_ ?_ ?_
          ·exact Rg.Ae (v:=.agg zz) 6 7 38 ⟨w.heap.size,0,none⟩ Tryz.results21 rfl (Wh.Ao HR.o Tryz.underlying38 (by rfl) ck.o) rfl
          ·rfl
          ·rw[<-ey.o];exact JX Z.o fs.o eN.o
        ·replace E2:=I ((if_neg hxe).symm.trans E2.o)
         have er:r=lk0 xe:=E2.o.symm;have fs:=I (show r.e=xe by rw[er];rfl);have t1:(xe != 0)=true:=by simpa using hxe
         have eN:=I hxe;clear hxe er
         go_wp2_with (first
          |(refine Mc.Am (by rfl) 38 #[] (by rfl) zz (by simp;exact cj.o) ?_)
          |(refine Wh.AX (by rfl) 38 (.tmp 6) (.tmp 71) (by rfl) w.heap.size 38 _ HR.o zz (by rfl) (by rfl) (by rfl) ck.o ep.o ?_;rintro V hV hg;replace HR:=I hV;replace Z:=I (Z.o.over Ag NR.o hg);clear hV hg cj)
          |fail)
         refine bodyPost_ret (v:=.tuple #[.agg zz,.int .i64 xe]) ?_ ?_ ?_
         ·exact Rg.Ae (v:=.agg zz) 6 7 38 ⟨w.heap.size,0,none⟩ Tryz.results21 rfl (Wh.Ao HR.o Tryz.underlying38 (by rfl) ck.o) rfl
         ·rfl
         ·rw[<-ey.o];exact JX Z.o fs.o eN.o
      ·replace E1:=I ((if_neg hke).symm.trans E1.o)
       have er:r=lk0 ke:=E1.o.symm;have fs:=I (show r.e=ke by rw[er];rfl);have t1:(ke != 0)=true:=by simpa using hke
       have eN:=I hke;clear hke er
       go_wp2_with (first
        |(refine Mc.Am (by rfl) 38 #[] (by rfl) zz (by simp;exact cj.o) ?_)
        |(refine Wh.AX (by rfl) 38 (.tmp 6) (.tmp 56) (by rfl) w.heap.size 38 _ HR.o zz (by rfl) (by rfl) (by rfl) ck.o ep.o ?_;rintro V hV hg;replace HR:=I hV;replace Z:=I (Z.o.over Ag NR.o hg);clear hV hg cj)
        |fail)
       refine bodyPost_ret (v:=.tuple #[.agg zz,.int .i64 ke]) ?_ ?_ ?_
       ·exact Rg.Ae (v:=.agg zz) 6 7 38 ⟨w.heap.size,0,none⟩ Tryz.results21 rfl (Wh.Ao HR.o Tryz.underlying38 (by rfl) ck.o) rfl
       ·rfl
       ·rw[<-ey.o];exact JX (Z.o.more (by omega)) fs.o eN.o
    ·replace E1:=I ((if_neg hsv).symm.trans E1.o)
     have er:r=lk0 9:=E1.o.symm;subst er;have q1:=DV hsv;clear hsv
     go_quiet (fail)
     have hd:=below_drewN (Below.refl V2.heap.size V2) nq;replace Z:=I (Z.o.below hd);replace HR:=I (HR.o.below hd);clear hd gn gu et eo;generalize V2.drewN nq=V3 at Z HR⊢
     go_wp2_with (first
      |(refine Mc.Am (by rfl) 38 #[] (by rfl) zz (by simp;exact cj.o) ?_)
      |(refine Wh.AX (by rfl) 38 (.tmp 6) (.tmp 42) (by rfl) w.heap.size 38 _ HR.o zz (by rfl) (by rfl) (by rfl) ck.o ep.o ?_;rintro V hV hg;replace HR:=I hV;replace Z:=I (Z.o.over Ag NR.o hg);clear hV hg cj)
      |fail)
     refine bodyPost_ret (v:=.tuple #[.agg zz,.int .i64 9]) ?_ ?_ ?_
     ·exact Rg.Ae (v:=.agg zz) 6 7 38 ⟨w.heap.size,0,none⟩ Tryz.results21 rfl (Wh.Ao HR.o Tryz.underlying38 (by rfl) ck.o) rfl
     ·rfl
     ·rw[<-ey.o];exact JX (Z.o.more (by omega)) rfl (by decide)
   ·replace E0:=I ((if_neg hk4).symm.trans E0.o)
    have er:r=lk0 2:=E0.o.symm;subst er;have t4:(M.k != 4)=true:=by simpa using hk4
    clear hk4;go_enter Tryz.func21,Tryz.ntmps21
    go_upto_region 1 with fail
    rw[<-eb.o,<-eW];clear eW eb
    go_upto_region 3 with(first
     |(go_at_call 51;refine Aj (CT.o _) ?_;rintro wt hw;have hw:=hw.symm;subst hw;clear CT)
     |fail)
    go_upto_region 5 with(first
     |(go_at_call 52;refine Calls.mono (CD.o _ HV.o (fun j hj x=>by have:=Z.o.st.ao_lt x;omega)) ?_;rintro e w9 ⟨ds,bv,av,rfl,cQ,ej,eK,cZ,eJ,hb⟩;clear CD HV;replace Z:=I (Z.o.below hb);replace HR:=I (HR.o.below hb);have eu:=I cQ;have ed:=I ej;have eB:=I (show(Tryz.prog.info? 86).map (·.size)=some ds.size by rw[cQ];exact Mc.Ba);have eM:=I eK;have SB:=I (SlH.of cZ);have SA:=I (SlH.of eJ);clear cQ ej eK cZ eJ hb)
     |(refine Wh.Bd (by rfl) 86 (.tmp 8) (.tmp 22) (by rfl) 86 rfl ds (by rfl) (by rfl) (by rw[eu.o];rfl) eB.o ed.o ?_;rintro V hV hb;have HM:=I hV;have NM:=I (Z.o.st.fresh (Nat.le_refl w9.heap.size));replace Z:=I (Z.o.below hb);replace HR:=I (HR.o.below hb);replace SB:=I (SB.o.below hb);replace SA:=I (SA.o.below hb);have fV:=(eM.o V _ _ hV).1;clear hV hb eu eB ed)
     |fail)
    go_wp2_with (first
     |(refine Mc.Am (by rfl) 38 #[] (by rfl) zz (by simp;exact cj.o) ?_)
     |(refine Wh.AX (by rfl) 38 (.tmp 6) (.tmp 31) (by rfl) w.heap.size 38 _ HR.o zz (by rfl) (by rfl) (by rfl) ck.o ep.o ?_;rintro V hV hg;replace HR:=I hV;replace Z:=I (Z.o.over Ag NR.o hg);clear hV hg cj)
     |fail)
    refine bodyPost_ret (v:=.tuple #[.agg zz,.int .i64 2]) ?_ ?_ ?_
    ·exact Rg.Ae (v:=.agg zz) 6 7 38 ⟨w.heap.size,0,none⟩ Tryz.results21 rfl (Wh.Ao HR.o Tryz.underlying38 (by rfl) ck.o) rfl
    ·rfl
    ·rw[<-ey.o];exact JX (Z.o.more (by omega)) rfl (by decide)
end
end Ac
namespace Ac
open Go.RowKit Af Se Kd
open Nm (L Own)
open Rg (It Ent Ring RO its)
open Ms (An)
open Rp (seeE seeL Tm)
open Rt (Sm)
def okN (e:Int):Nat:=if e=0 then 1 else 0
def noN (e:Int):Nat:=if e=0 then 0 else 1
def TokP (w:World) (B:Nat) (p:SP) (es:List Ent) (u:Value) (on:Bool) (st:Int) (l:List An) (n m c:Nat) (r:Lk) (now:Int) (e:Ending) (w':World):Prop:=
 ∃A c2 es' u',e=.returned (.tuple #[.agg (acA (takA p.P r on st l now) (.slice A (takA p.P r on st l now).tr.length c2)),.int .i64 (takE r on st l now)])/\Own w' (w.heap.size+1) (.slice A (takA p.P r on st l now).tr.length c2) (takA p.P r on st l now).tr/\(∀k,(Value.slice A (takA p.P r on st l now).tr.length c2).ownBlock=some k->¬AO p es' u' k)/\Av w w' B p es u es' u' on st (takS r on st l now) (n+okN (takE r on st l now)) (m+noN (takE r on st l now)) c
section
variable {w:World} {B:Nat} {p:SP} {es:List Ent} {u:Value} {on:Bool} {st:Int} {l:List An} {n m c:Nat}
theorem Vp {r:Lk} {now:Int} (h:r.p.ss.length=32):(takA p.P r on st l now).ss.length=32:=by
 unfold takA
 split
 ·exact h
 ·rfl
theorem Vq (T:Rt.Tp) (P:Ms.Pr) (its:List It) (b:L) (now:Int):(lokL P T its b now).p.ss.length=32:=by
 unfold lokL
 split
 ·split
  ·rfl
  ·split
   ·unfold lokA
    split
    ·split
     ·unfold lokB
      split
      ·unfold lokC
       split
       ·exact(Ni _ _ _).1
       ·rfl
      ·rfl
     ·rfl
    ·rfl
   ·rfl
 ·rfl
theorem fy {bv:Value} {b:L} {now:Int} {r:Lk} (h:AD w B p es u on st l n m c) (hc:c<800000) (hn:n<900000) (hm:m<900000) (hl:es.length<=1000) (hT:Sm p.T) (hP:p.P.1.length<=1000000/\p.P.2.length<=1000000) (cq:Tm st) (cb:l.length<=1000) (hv:SlN (AO p es u) w bv b) (hr:lokL p.P p.T (its es) b now=r) :
  Calls Tryz.prog 7 #[.pointer (some ⟨p.a,0,none⟩),bv,.int .i64 now] w (TokP w B p es u on st l n m (c+2) r now):=by
 have ct:r.p.ss.length=32:=by rw[<-hr];exact Vq _ _ _ _ _
 obtain⟨zz,av⟩:=Ak (acA acc0 (.slice none 0 0));have cn:=I (show Tryz.prog.built 38 []=some zz by rw[av];exact Nk);have cm:=I (show zz.size=39 by rw[av];exact Ho rfl _);have bz:=I (show(Tryz.prog.info? 38).map (·.size)=some zz.size by rw[cm.o];exact Nj);have cx:=I (show zz.all (·.oneCell')=true by rw[av];exact JW _ rfl);have cw:=I (show acA acc0 (.slice none 0 0)=zz from av.symm);have ck:=I (av.trans YL);obtain⟨W,eW⟩:=Ak (w.alloc (.cells zz 38));have hb:Below w.heap.size w W:=eW▸Ah.alloc Ag _;have cy:=I (show W.heap.size=w.heap.size+1 by rw[eW];simp);have Z:=I (show Blk W w.heap.size 38 zz from eW▸Blk.new w _ _);have M:=I (Av.start h hb);have NR:=I (h.fresh (Nat.le_refl w.heap.size));have CT:=I (fx (now:=now) (r:=r) M.o.st hc hl hT hP cq cb (hv.below hb) hr);have HN:=I hn;have HM:=I hm;have cu:=I (Vp (p:=p) (on:=on) (st:=st) (l:=l) (now:=now) ct);obtain⟨AB,mB,ca,_,_⟩:=hv;obtain⟨LB,bB⟩:=Ak (b.length);rw[<-bB] at ca;subst ca;obtain⟨k,ek⟩:=Ak (takE r on st l now);have EK:=I ek;have EA:=I (fun(h0:k≠0)=>(show takA p.P r on st l now=acc0 by rw[takA,<-ek,if_neg h0]));have cf:=I (show Calls Tryz.prog 21 #[.pointer (some ⟨p.a,0,none⟩),.slice AB LB mB,.int .i64 now] W fun e w'=>∃A c2 es' u',e=.returned (.tuple #[.agg (acA (takA p.P r on st l now) (.slice A (takA p.P r on st l now).tr.length c2)),.int .i64 k])/\Own w' W.heap.size (.slice A (takA p.P r on st l now).tr.length c2) (takA p.P r on st l now).tr/\(∀j,(Value.slice A (takA p.P r on st l now).tr.length c2).ownBlock=some j->¬AO p es' u' j)/\Av W w' B p es u es' u' on st (takS r on st l now) n m (c+2) from CT.o.mono (by
  rintro e w' ⟨v,es',u',rfl,h1,h2,h3,h4⟩;obtain⟨A,c2,rfl,_⟩:=h2.slice;exact⟨A,c2,es',u',by rw[ek],h2,h3,h4⟩))
 clear h hc hn hm hl hT hP cq cb hb hr ct av bB CT ek;go_enter Tryz.func7,Tryz.ntmps7
 go_upto_region 1 with fail
 rw[<-ck.o,<-eW];clear eW ck
 go_upto_region 4 with(first
  |(go_at_call 21;refine Calls.mono cf.o ?_;rintro e w6 ⟨A6,c6,bx,u1,rfl,ho,cg,hk⟩;clear cf;have cc:=hk.blk Z.o (fun y=>NR.o (.inl y));replace NR:=I (hk.notA NR.o Z.o.lt);replace Z:=I cc;replace M:=I (M.o.trans hk);have HO:=I (show Own w6 (w.heap.size+1) _ _ from cy.o▸ho);have cj:=I cg;clear cc hk ho cg;obtain⟨cX,aw⟩:∃z,z=acA (takA p.P r on st l now) (.slice A6 (takA p.P r on st l now).tr.length c6):=⟨_,rfl⟩;rw[<-aw];have bs:=I (show cX.size=39 by rw[aw];exact Ho cu.o _);have bn:=I (show(Tryz.prog.info? 38).map (·.size)=some cX.size by rw[bs.o];exact Nj);have cr:=I (show cX.all (·.oneCell')=true by rw[aw];exact JW _ rfl);have EX:=I aw;clear aw)
  |(refine Wh.Bd (by rfl) 38 (.tmp 8) (.tmp 18) (by rfl) 38 rfl cX (by rfl) (by rfl) (by rw[bs.o];rfl) bn.o cr.o ?_;rintro V hV hb;have HT:=I hV;have NT:=I (M.o.st.fresh (Nat.le_refl w6.heap.size));replace M:=I (M.o.below hb);replace Z:=I (Z.o.below hb);replace HO:=I (HO.o.below hb);clear hV hb)
  |fail)
 obtain⟨PT,cd⟩:=Ak (w6.heap.size);rw[<-cd] at HT NT⊢;clear cd
 by_cases hk:k=0
 ·subst hk
  have O:=add_one ⟨p.a,6,none⟩ n V (by have:=HN.o;omega) (M.o.st.blk.cell 6) (M.o.st.blk.frozen 6);have cp:AO p bx u1 p.a:=.inl rfl
  go_wp2_with (first
   |(go_at_call 22;refine Aj O ?_;rintro w7 hw;subst hw;clear O;have hk:=M.o.st.put6 (n+1);have bb:=Rg.Bv (Fm V p.a 6 (.int .i64 ((n+1:Nat):Int))) HO.o (fun j hj e=>cj.o j hj (e▸cp));replace HO:=I (show Own _ _ _ _ from bb);replace Z:=I (hk.blk Z.o (fun y=>NR.o (.inl y)));replace HT:=I (hk.blk HT.o (fun y=>NT.o (.inl y)));replace M:=I (M.o.trans hk);clear hk bb cp)
   |(refine Wh.AF (by rfl) 38 (.tmp 8) (by rfl) PT 0 (by rfl) cX _ (Wh.Ad HT.o) Tryz.underlying38 (by rfl) bn.o ?_)
   |(refine Wh.AX (by rfl) 38 (.tmp 6) (.tmp 32) (by rfl) w.heap.size 38 _ Z.o cX (by rfl) (by rfl) (by rw[cm.o,bs.o]) bn.o cr.o ?_;rintro V2 hV hg;have bb:=Rg.Bv (Chg.of_grown hg rfl:Chg (fun j=>j=w.heap.size) _ _) HO.o (fun j hj e=>by have:=(HO.o.lt j hj).1;omega);replace HO:=I (show Own _ _ _ _ from bb);replace Z:=I hV;replace M:=I (M.o.over Ag NR.o hg);clear hV hg bb)
   |fail)
  refine bodyPost_ret (v:=.tuple #[.agg cX,.int .i64 0]) ?_ ?_ ?_
  ·exact Rg.Ae (v:=.agg cX) 6 7 38 ⟨w.heap.size,0,none⟩ Tryz.results7 rfl (Wh.Ao Z.o Tryz.underlying38 (by rfl) bn.o) rfl
  ·rfl
  ·refine⟨A6,c6,bx,u1,by rw[<-EK.o,EX.o],HO.o,cj.o,?_⟩
   rw[<-EK.o];exact M.o
 ·have t1:(k != 0)=true:=by simpa using hk
  have O:=add_one ⟨p.a,7,none⟩ m V (by have:=HM.o;omega) (M.o.st.blk.cell 7) (M.o.st.blk.frozen 7);have bq:=I hk;clear hk HO
  go_wp2_with (first
   |(go_at_call 22;refine Aj O ?_;rintro w7 hw;subst hw;clear O;have hk:=M.o.st.put7 (m+1);replace Z:=I (hk.blk Z.o (fun y=>NR.o (.inl y)));replace M:=I (M.o.trans hk);clear hk)
   |(refine Mc.Am (by rfl) 38 #[] (by rfl) zz (by simp;exact cn.o) ?_)
   |(refine Wh.AX (by rfl) 38 (.tmp 6) (.tmp 26) (by rfl) w.heap.size 38 _ Z.o zz (by rfl) (by rfl) (by rfl) bz.o cx.o ?_;rintro V2 hV hg;replace Z:=I hV;replace M:=I (M.o.over Ag NR.o hg);clear hV hg cn)
   |fail)
  refine bodyPost_ret (v:=.tuple #[.agg zz,.int .i64 k]) ?_ ?_ ?_
  ·exact Rg.Ae (v:=.agg zz) 6 7 38 ⟨w.heap.size,0,none⟩ Tryz.results7 rfl (Wh.Ao Z.o Tryz.underlying38 (by rfl) bz.o) rfl
  ·rfl
  ·have e2:=EA.o bq.o
   unfold TokP;rw[e2,<-EK.o];refine⟨none,0,bx,u1,by rw[<-cw.o];rfl,Nm.Own.nil _ _,fun j hj=>by simp [Value.ownBlock] at hj,?_⟩;rw[show okN k=0 from if_neg bq.o,show noN k=1 from if_neg bq.o];exact M.o
theorem Nl (h:AD w B p es u on st l n m c):Calls Tryz.prog 24 #[.pointer (some ⟨p.a,0,none⟩)] w fun e w'=>e=.returned (.tuple #[.int .i64 (n:Int),.int .i64 (m:Int)])/\Below w.heap.size w w':=by
 have HA:=I h;have O:w.cell? ⟨p.a,6,none⟩=some (.int .i64 (n:Int))/\w.cell? ⟨p.a,7,none⟩=some (.int .i64 (m:Int)):=⟨h.blk.cell 6,h.blk.cell 7⟩;have Z:=I (fun(w1:World) (M:w1.cell? ⟨p.a,6,none⟩=some (.int .i64 (n:Int)))=>Kr ⟨p.a,6,none⟩ n w1 M);have C2:=I (fun(w1:World) (M:w1.cell? ⟨p.a,7,none⟩=some (.int .i64 (m:Int)))=>Kr ⟨p.a,7,none⟩ m w1 M);have H1:=I (fun q=>show(w.drewN q).cell? ⟨p.a,6,none⟩=some (.int .i64 (n:Int)) from O.1);have H2:=I (fun q=>show(w.drewN q).cell? ⟨p.a,7,none⟩=some (.int .i64 (m:Int)) from O.2);clear h O;go_enter Tryz.func24,Tryz.ntmps24
 go_upto_region 3 with fail
 go_quiet (first | (go_at_call 58;refine(Z.o _ (H1.o _)).mono ?_;rintro e w' ⟨rfl,rfl⟩;exact⟨rfl,_,rfl⟩) | (go_at_call 58;refine(C2.o _ (H2.o _)).mono ?_;rintro e w' ⟨rfl,rfl⟩;exact⟨rfl,_,rfl⟩))
 go_wp2_with fail
 go_ret2
 exact⟨rfl,below_drewN Ah _⟩
end
end Ac
namespace Ac
open Go.RowKit Af Se Kd
open Nm (L Own)
open Rg (It Ent Ring RO its)
open Ms (Pt An Mg pSm tmB ptB anB)
open Rp (seeE seeL Tm)
def ptR (tr:L):Pt:=⟨pAnn,k1L 7,tr,0,1073741824⟩
def anR (now seq:Int):An:=⟨pAnn,now,seq⟩
theorem sAnn:pSm pAnn:=⟨by decide,by decide⟩
theorem fA (n:UInt8):keyA (k1L n)=AQ (k1 n):=by simp [bvs,k1L,AQ]
theorem fB (f:Nat->UInt8) (c:Nm.L×Nm.L) (tr:L) (b:Int):Tryz.prog.built 33 [(0,Kd.prV c),(1,.agg (AQ f)),(2,.string ⟨tr.toArray⟩),(4,.int .i64 b)]=some (Ms.prC c++((AQ f).toList++([.string ⟨tr.toArray⟩,.int .i64 0,.int .i64 b]:List Value))).toArray:=by kernel_rfl
theorem Vr (tr:L):Tryz.prog.built 33 [(0,Kd.prV pAnn),(1,.agg (AQ (k1 7))),(2,.string ⟨tr.toArray⟩),(4,.int .i64 1073741824)]=some (ptA (ptR tr)):=by
 rw[fB];show some (Ms.prC pAnn++((AQ (k1 7)).toList++_)).toArray=some (Ms.prC pAnn++(bvs (k1L 7)++_)).toArray;rw[<-fA];rfl
theorem Nn (now seq:Int):Tryz.prog.built 35 [(0,Kd.prV pAnn),(1,.int .i64 now),(2,.int .i64 seq)]=some (anA (anR now seq)):=by kernel_rfl
theorem Vs (now seq:Int) (tr:L) (w:World) (bb:tr.length<=1000000) :
  Calls Tryz.prog 23 #[.int .i64 now,.int .i64 seq,.string ⟨tr.toArray⟩] w fun e w'=>∃v,e=.returned (.tuple #[v,.bool (rqOk 2 2 (ptR tr) (anR now seq))])/\SlN (fun j=>j<w.heap.size) w' v (rqL 2 2 (ptR tr) (anR now seq))/\Below w.heap.size w w':=by
 obtain⟨cK,Z⟩:=Ak (AQ (k1 7));obtain⟨cP,M⟩:=Ak (ptA (ptR tr));obtain⟨cA,O⟩:=Ak (anA (anR now seq));have bn:=I (show Tryz.prog.built 24 [(0,.int .u8 7)]=some cK by rw[Z];exact IW 7);have bx:=I (show Tryz.prog.built 33 [(0,Kd.prV pAnn),(1,.agg cK),(2,.string ⟨tr.toArray⟩),(4,.int .i64 1073741824)]=some cP by rw[Z,M];exact Vr tr);have bs:=I (show Tryz.prog.built 35 [(0,Kd.prV pAnn),(1,.int .i64 now),(2,.int .i64 seq)]=some cA by rw[O];exact Nn now seq);have CN:=I (fun(w1:World)=>bp w1);have CR:=I (show ∀w1:World,Calls Tryz.prog 5 #[.int .i64 2,.agg cP,.agg cA] w1 fun e w'=>∃v,e=.returned (.tuple #[v,.bool (rqOk 2 2 (ptR tr) (anR now seq))])/\SlN (fun j=>j<w1.heap.size) w' v (rqL 2 2 (ptR tr) (anR now seq))/\Below w1.heap.size w1 w' from fun w1=>by rw[M,O];exact Vj w1 (Lv 7) sAnn bb sAnn rfl);obtain⟨ok,av⟩:=Ak (rqOk 2 2 (ptR tr) (anR now seq));obtain⟨bq,aw⟩:=Ak (rqL 2 2 (ptR tr) (anR now seq));rw[<-av,<-aw] at CR⊢;have HB:=I (Below.refl w.heap.size w);clear Z M O av aw bb;go_enter Tryz.func23,Tryz.ntmps23
 go_wp2_with (first
  |(go_at_call 6;refine Aj (CN.o _) ?_;rintro wm hb;replace HB:=HB.t hb;clear hb)
  |(refine Mc.Am (by rfl) 24 #[(0,.const (.int .u8 7))] (by rfl) cK (by simp only[List.map_toArray,List.map_cons,List.map_nil];exact bn.o) ?_)
  |(refine Mc.Am (by rfl) 33 #[(0,.tmp 8),(1,.tmp 9),(2,.tmp 10),(4,.const (.int .i64 1073741824))] (by rfl) cP (by simp only[List.map_toArray,List.map_cons,List.map_nil];exact bx.o) ?_)
  |(refine Mc.Am (by rfl) 35 #[(0,.tmp 12),(1,.tmp 13),(2,.tmp 14)] (by rfl) cA (by simp only[List.map_toArray,List.map_cons,List.map_nil];exact bs.o) ?_)
  |(go_at_call 5;refine Calls.mono (CR.o _) ?_;rintro e wr ⟨v,rfl,hs,hb⟩;clear CR;have HV:=I (hs.mono (S':=fun j=>j<w.heap.size) (fun j _ x=>by have:=HB.o.size;omega));replace HB:=HB.t hb;clear hb hs)
  |fail)
 go_ret2
 exact⟨_,rfl,HV.o,HB.o⟩
section
variable {w:World} {B:Nat} {p:SP} {es:List Ent} {u:Value} {on:Bool} {st:Int} {l:List An} {n m c:Nat}
structure Sv (w:World) (B:Nat) (p:SP) (es:List Ent) (u:Value) (on:Bool) (st:Int) (l:List An) (n m c:Nat):Prop where
 ad:AD w B p es u on st l n m c
 e:its es=itS
 P:p.P=pSv
 T:p.T=tT
theorem Sv.below {w':World} (h:Sv w B p es u on st l n m c) (M:Below w.heap.size w w'):Sv w' B p es u on st l n m c:=⟨h.ad.below M,h.e,h.P,h.T⟩
theorem Sv.step {w':World} {es':List Ent} {u':Value} {on':Bool} {st':Int} {l':List An} {n' m' c':Nat} (h:Sv w B p es u on st l n m c) (k:Av w w' B p es u es' u' on' st' l' n' m' c'):Sv w' B p es' u' on' st' l' n' m' c':=⟨k.st,(OH k.eq).trans h.e,h.P,h.T⟩
theorem Scs.sv {w0:World} {g:Nat} (h:Scs w0 w g p es u st):Sv w w0.heap.size p es u (!decide (st=0)) st [] 0 0 0:=⟨h.ad,h.e,h.P,h.T⟩
def TokL (w:World) (B:Nat) (p:SP) (es:List Ent) (u:Value) (on:Bool) (st:Int) (c:Nat) (k:Int) (x:Acc) (l':List An) (n' m':Nat) (e:Ending) (w':World):Prop:=
 ∃cX es' u',e=.returned (.tuple #[.agg cX,.int .i64 k])/\cX.size=39/\cX.all (·.oneCell')=true/\(Tryz.prog.info? 38).map (·.size)=some cX.size/\(∃A c2,cX=acA x (.slice A x.tr.length c2)/\Own w' (w.heap.size+1) (.slice A x.tr.length c2) x.tr)/\Sv w' B p es' u' on st l' n' m' c/\Av w w' B p es u es' u' on st l' n' m' c
theorem LX {bv:Value} {b:L} {now:Int} {r:Lk} {S:Nat->Prop} {k:Int} {x:Acc} {l':List An} {n' m':Nat} (h:Sv w B p es u on st l n m c) (hc:c<800000) (hn:n<900000) (hm:m<900000) (bq:Tm st) (bb:l.length<=1000) (hv:SlN S w bv b) (hS:∀j,AO p es u j->S j) (hr:lokL pSv tT itS b now=r) (hk:takE r on st l now=k) (hx:takA pSv r on st l now=x) (aw:takS r on st l now=l') (av:n+okN k=n') (bn:m+noN k=m') :
  Calls Tryz.prog 7 #[.pointer (some ⟨p.a,0,none⟩),bv,.int .i64 now] w (TokL w B p es u on st (c+2) k x l' n' m'):=by
 have hl:es.length=2:=by have:=congrArg List.length h.e;rwa [Rg.Dq] at this
 have O:r.p.ss.length=32:=by rw[<-hr];exact Vq _ _ _ _ _
 have hP:p.P.1.length<=1000000/\p.P.2.length<=1000000:=h.P▸(show pSv.1.length<=1000000/\pSv.2.length<=1000000 by decide);refine(fy (r:=r) h.ad hc hn hm (by omega) (h.T▸ax) hP bq bb (hv.mono fun j _ x=>hS j x) (by rw[h.P,h.T,h.e];exact hr)).mono ?_;rintro e w' ⟨A,c2,es',u',rfl,ho,Z,M⟩;rw[h.P] at ho Z;rw[hk,aw,av,bn] at M;rw[hx] at ho Z;rw[h.P,hk,hx];have hs:(acA x (.slice A x.tr.length c2)).size=39:=by rw[<-hx];exact Ho (Vp (p:=⟨p.a,p.r,p.q,p.lo,p.hi,pSv,p.T,p.v,p.v1,p.v2,p.v3⟩) O) _
 exact⟨_,es',u',rfl,hs,JW _ rfl,by rw[hs];exact Nj,⟨A,c2,rfl,ho⟩,h.step M,M⟩
end
def rE1:L:=[69,68,85]
theorem exp_E:Tr.expL rE1 rA rB=([rE1],0):=by decide +kernel
theorem all_E:Rt.GY tT rA rB [rE1]=true:=by decide +kernel
theorem pas_E {P:Pt} (O:P.c=pAnn) (M:P.tr=rE1):pasL tT rB P=(0,[rE1]):=by
 unfold pasL;rw[O,M,show pAnn.1=rA from rfl,exp_E,all_E]
 rfl
theorem fC {P:Pt} {a:An} (O:P.c=pAnn) (M:P.tr=rE1):lokC tT rB P a=⟨0,P,a,[rE1]⟩:=by
 unfold lokC;rw[pas_E O M];rfl
theorem bE {tr:L} (h:Ms.txtB tr=true) (Z:tr.length<=300):ptB (ptR tr)=true:=by
 have O:Ms.prB pAnn=true:=by decide +kernel
 have M:(tmB 0&&tmB 1073741824)=true:=by decide
 unfold ptB;show(Ms.txtB tr&&(Ms.prB pAnn&&(decide (tr.length<=300)&&(tmB 0&&tmB 1073741824))))=true;rw[h,O,M,decide_eq_true Z];rfl
theorem bF {now seq:Int} (Z:tmB now=true) (O:tmB seq=true):anB (anR now seq)=true:=by
 have M:Ms.prB pAnn=true:=by decide +kernel
 show(Ms.prB pAnn&&(tmB now&&tmB seq))=true;rw[M,Z,O];rfl
theorem lkd_R {tr:L} {now seq:Int} (h:tmB now=true):lkD (ptR tr) (anR now seq) now=lokC tT rB (ptR tr) (anR now seq):=by
 have M:=Ms.Bf h;unfold lkD;rw[if_neg (show ¬(ptR tr).en<now by show ¬(1073741824:Int)<now;omega),if_neg (show ¬now+5<(ptR tr).st by show ¬now+5<(0:Int);omega),if_pos (show(anR now seq).c=(ptR tr).c from rfl)]
theorem Qg:rqOk 2 2 (ptR rE1) (anR 9 1)=true:=Um (Lv 7) (bE (by decide) (by decide)) (bF (by decide) (by decide)) (by decide) (by decide)
theorem Vt:lokL pSv tT itS (rqL 2 2 (ptR rE1) (anR 9 1)) 9=⟨0,ptR rE1,anR 9 1,[rE1]⟩:=by
 rw[dG (Lv 7) Qg (by decide),lkd_R (by decide),fC rfl rfl]
theorem Kw:seeE false 0 [] (anR 9 1) 9=0/\seeL false 0 [] (anR 9 1) 9 = [anR 9 1]:=by decide +kernel
theorem RA:seeE false 0 [anR 9 1] (anR 9 1) 9=12:=by decide +kernel
theorem Pb:takE ⟨0,ptR rE1,anR 9 1,[rE1]⟩ false 0 [] 9=0/\takS ⟨0,ptR rE1,anR 9 1,[rE1]⟩ false 0 [] 9 = [anR 9 1]:=⟨Kw.1,Kw.2⟩
theorem Vu:takE ⟨0,ptR rE1,anR 9 1,[rE1]⟩ false 0 [anR 9 1] 9=12/\takS ⟨0,ptR rE1,anR 9 1,[rE1]⟩ false 0 [anR 9 1] 9 = [anR 9 1]:=⟨RA,by decide +kernel⟩
theorem bG:takA pSv ⟨0,ptR rE1,anR 9 1,[rE1]⟩ false 0 [] 9=⟨pAnn,pSv,k1L 7,[rE1],9,1⟩:=by rw[takA,if_pos Pb.1];rfl
theorem XW {x:Acc} {v:Value} (h:x.ss.length=32):(acA x v)[0]? = some (.string ⟨x.c.1.toArray⟩)/\(acA x v)[1]? = some (.string ⟨x.c.2.toArray⟩)/\(acA x v)[36]? = some v:=by
 refine⟨rfl,rfl,?_⟩;show(Ms.prC x.c++(Ms.prC x.s++(bvs x.ss++([v,.int .i64 x.t,.int .i64 x.q]:List Value)))).toArray[36]? = _;rw[List.getElem?_toArray,List.getElem?_append_right (by simp [Ms.prC]),List.getElem?_append_right (by simp [Ms.prC]),List.getElem?_append_right (by simp [Ms.prC,bvs,h])];simp [Ms.prC,bvs,h]
theorem XY (w:World):Calls Tryz.prog 10 #[] w fun e w'=>e=.returned (.bool true)/\Below w.heap.size w w':=by
 have CB:=I (fun(w1:World)=>He 0 w1);have CR:=I (fun(w1:World)=>Vs 9 1 rE1 w1 (by decide));obtain⟨bq,bz⟩:=Ak (rqL 2 2 (ptR rE1) (anR 9 1));have cd:=I (show lokL pSv tT itS bq 9=⟨0,ptR rE1,anR 9 1,[rE1]⟩ from bz▸Vt);rw[<-bz,Qg] at CR;clear bz;go_enter Tryz.func10,Tryz.ntmps10
 go_upto_region 5 with(first
  |(go_at_call 4;refine Calls.mono (CB.o _) ?_;rintro e w1 ⟨g,p,es,u,rfl,hs⟩;clear CB;have HV:=I (show Sv w1 w.heap.size p es u false 0 [] 0 0 0 from hs.sv);have Z:=I hs.b;obtain⟨x,hg⟩:=hs.blk;have HG:=I hg;have NG:=I hs.ng;clear hs hg)
  |(go_at_call 23;refine Calls.mono (CR.o _) ?_;rintro e w2 ⟨v,rfl,hs,O⟩;clear CR;have SV:=I (hs.mono (S':=AO p es u) (fun j _ x=>HV.o.ad.ao_lt x));replace HV:=I (HV.o.below O);replace HG:=I (HG.o.below O);replace Z:=Z.t O;clear hs O)
  |fail)
 have aw:=I HV.o.ad;have T1:=I (LX (r:=⟨0,ptR rE1,anR 9 1,[rE1]⟩) (now:=9) HV.o (by omega) (by omega) (by omega) (by decide) (by simp) SV.o (fun j x=>x) cd.o Pb.1 rfl Pb.2 (rfl:_=1) (rfl:_=0));obtain⟨x1,ca⟩:=Ak (takA pSv ⟨0,ptR rE1,anR 9 1,[rE1]⟩ false 0 [] 9);have cg:=I (ca.trans bG);rw[<-ca] at T1;clear ca;have kg:=HG.c0
 go_upto_region 6 with(first
  |(go_at_call 7;refine Calls.mono T1.o ?_;rintro e w3 ⟨cX,cm,u1,rfl,h1,h2,h3,h4,h5,hk⟩;clear T1 kg;have bn:=I h1;have bs:=I h2;have bb:=I h3;have cf:=I h4;replace HV:=I h5;have av:=hk.blk HG.o (fun y=>NG.o (.inl y));replace NG:=I (hk.notA NG.o HG.o.lt);replace HG:=I av;clear av;replace SV:=I (hk.sl SV.o);replace Z:=I (Z.o.trans (hk.base aw.o));clear h1 h2 h3 h4 h5 hk)
  |(refine Wh.Bd (by rfl) 38 (.tmp 4) (.tmp 24) (by rfl) 38 rfl cX (by rfl) (by rfl) (by rw[bn.o];rfl) bb.o bs.o ?_;rintro V hV O;have M:=I hV;have NT:=I (HV.o.ad.fresh (Nat.le_refl w3.heap.size));replace HV:=I (HV.o.below O);replace HG:=I (HG.o.below O);replace SV:=I (SV.o.below O);replace Z:=Z.t O;clear hV O)
  |fail)
 obtain⟨PT,cc⟩:=Ak (w3.heap.size);rw[<-cc] at M NT⊢;clear cc aw;have aw:=I HV.o.ad;have T2:=I (LX (r:=⟨0,ptR rE1,anR 9 1,[rE1]⟩) (now:=9) HV.o (by omega) (by omega) (by omega) (by decide) (by simp) SV.o (fun j x=>x) cd.o Vu.1 rfl Vu.2 (rfl:_=1) (rfl:_=1));have kg:=HG.c0
 go_upto_region 7 with(first
  |(go_at_call 7;refine Calls.mono T2.o ?_;rintro e w5 ⟨cY,es2,u2,rfl,h1,h2,h3,h4,h5,hk⟩;clear T2 kg;have bn:=I h1;have bs:=I h2;have bb:=I h3;replace HV:=I h5;have av:=hk.blk HG.o (fun y=>NG.o (.inl y));replace NG:=I (hk.notA NG.o HG.o.lt);replace HG:=I av;clear av;have cb:=hk.blk M.o (fun y=>NT.o (.inl y));replace M:=I cb;clear cb;replace Z:=I (Z.o.trans (hk.base aw.o));clear h1 h2 h3 h4 h5 hk)
  |(refine Wh.Bd (by rfl) 38 (.tmp 6) (.tmp 33) (by rfl) 38 rfl cY (by rfl) (by rfl) (by rw[bn.o];rfl) bb.o bs.o ?_;rintro V2 hV O;replace M:=I (M.o.below O);replace HV:=I (HV.o.below O);replace HG:=I (HG.o.below O);replace Z:=Z.t O;clear hV O bn bb bs)
  |fail)
 have CC:=I (Nl HV.o.ad);have kg:=HG.c0
 go_upto_region 8 with(first
  |(go_at_call 24;refine Aj CC.o ?_;rintro w6 O;clear CC kg;replace M:=I (M.o.below O);replace Z:=Z.t O;clear O)
  |fail)
 obtain⟨A,c2,bx,_⟩:=cf.o;rw[cg.o] at bx;have HC:=I (fun(w1:World) (O:Blk w1 PT 38 cX)=>(show w1.cell? ⟨PT,0,none⟩=some (.string ⟨pAnn.1.toArray⟩)/\w1.cell? ⟨PT,1,none⟩=some (.string ⟨pAnn.2.toArray⟩)/\w1.cell? ⟨PT,36,none⟩=some (.slice A 1 c2) by
  rw[bx] at O;have:=XW (x:=⟨pAnn,pSv,k1L 7,[rE1],9,1⟩) (v:=.slice A 1 c2) (Lv 7);exact⟨(O.cell 0).trans this.1,(O.cell 1).trans this.2.1,(O.cell 36).trans this.2.2⟩))
 clear bx cf cg HV HG NG NT SV;have CN:=I (fun(w1:World)=>bp w1);have bB:Below w6.heap.size w6 w6.drew:=below_drewN Ah 1;replace M:=I (M.o.below bB);replace Z:=Z.t bB;clear bB;refine Reg.Bo (fun w'=>Blk w' PT 38 cX) 27 rfl (by kernel_rfl) M.o ?_;refine Reg.ty 0 rfl M.o ?_;refine Reg.ty 1 (v:=.bool true) rfl M.o ?_;refine Reg.ty 2 (v:=.bool true) rfl M.o ?_;refine Reg.ty 3 rfl M.o ?_;refine Reg.ty 4 (v:=.bool true) rfl M.o ?_;refine Reg.ty 5 (v:=.bool true) rfl M.o ?_;refine Reg.ty 6 (v:=.bool true) rfl M.o ?_;refine Reg.ty 7 rfl M.o ?_;refine Reg.tw 8 (v:=Kd.prV pAnn) rfl M.o (fun w' hS=>by have p0:=(HC.o _ hS).1;have p1:=(HC.o _ hS).2.1;go_simp<;>rfl) ?_;refine Reg.b1 9 ?_
 right
 refine⟨_,_,_,_,_,_,6,#[],rfl,by rfl,(by go_simp<;>first | rfl | exact⟨rfl,rfl⟩),?_⟩;refine Aj (CN.o _) ?_;rintro cj O;replace M:=I (M.o.below O);replace Z:=Z.t O;clear O;clear CN;refine⟨_,rfl,M.o,?_⟩;simp only[Act.put,U,Aa,Ab];refine Reg.ty 10 (v:=.bool true) rfl M.o ?_;refine Reg.ty 11 (v:=.bool true) rfl M.o ?_;refine Reg.ty 12 (v:=.bool true) rfl M.o ?_;refine Reg.ty 13 rfl M.o ?_;refine Reg.tw 14 (v:=.slice A 1 c2) rfl M.o (fun w' hS=>by have ck:=(HC.o _ hS).2.2;go_simp<;>rfl) ?_;refine Reg.ty 15 (v:=.int .i64 1) rfl M.o ?_;refine Reg.ty 16 (v:=.bool true) rfl M.o ?_;refine Reg.ty 17 (v:=.bool true) rfl M.o ?_;refine Reg.ty 18 (v:=.bool true) rfl M.o ?_;refine Reg.ty 19 rfl M.o ?_;refine Reg.ty 20 (v:=.bool true) rfl M.o ?_;refine Reg.ty 21 (v:=.bool true) rfl M.o ?_;refine Reg.ty 22 (v:=.bool true) rfl M.o ?_;refine Reg.ty 23 rfl M.o ?_;refine Reg.ty 24 (v:=.bool true) rfl M.o ?_;refine Reg.ty 25 (v:=.bool true) rfl M.o ?_;refine Reg.ty 26 rfl M.o ?_;refine wpAnyH_done (by kernel_rfl) ?_ _
 go_wp2_with fail
 go_ret;exact⟨rfl,Z.o⟩
theorem bH {kv:Int} (O:1<=kv) (M:kv<=9):∃n:UInt8,IntKind.u8.wrap kv=(n.toNat:Int)/\(kv=1->n=1)/\(kv=2->n=2):=by
 have h:kv=1\/kv=2\/kv=3\/kv=4\/kv=5\/kv=6\/kv=7\/kv=8\/kv=9:=by omega
 rcases h with rfl | rfl | rfl | rfl | rfl | rfl | rfl | rfl | rfl
 ·exact⟨1,rfl,fun _=>rfl,fun h=>absurd h (by decide)⟩
 ·exact⟨2,rfl,fun h=>absurd h (by decide),fun _=>rfl⟩
 ·exact⟨3,rfl,fun h=>absurd h (by decide),fun h=>absurd h (by decide)⟩
 ·exact⟨4,rfl,fun h=>absurd h (by decide),fun h=>absurd h (by decide)⟩
 ·exact⟨5,rfl,fun h=>absurd h (by decide),fun h=>absurd h (by decide)⟩
 ·exact⟨6,rfl,fun h=>absurd h (by decide),fun h=>absurd h (by decide)⟩
 ·exact⟨7,rfl,fun h=>absurd h (by decide),fun h=>absurd h (by decide)⟩
 ·exact⟨8,rfl,fun h=>absurd h (by decide),fun h=>absurd h (by decide)⟩
 ·exact⟨9,rfl,fun h=>absurd h (by decide),fun h=>absurd h (by decide)⟩
theorem No {a:An} {now:Int} (h:a.t=now):seeE false 0 [] a now=0/\seeL false 0 [] a now = [a]:=by
 have M:Rp.skw false 0 a.t now=false:=by
  have e:Rp.old now now=false:=decide_eq_false (by omega);rw[h,Rp.skw,e];rfl
 constructor
 ·rw[seeE,M];rfl
 ·rw[seeL,M];rfl
theorem fD {c:Nm.L×Nm.L} {ss tr:L} {s e:Int} (O:Ms.prB c=true) (Z:Ms.txtB tr=true) (M:tr.length<=300) (h4:tmB s=true) (h5:tmB e=true):ptB ⟨c,ss,tr,s,e⟩=true:=by
 show(Ms.txtB tr&&(Ms.prB c&&(decide (tr.length<=300)&&(tmB s&&tmB e))))=true;rw[O,Z,h4,h5,decide_eq_true M];rfl
theorem fE {c:Nm.L×Nm.L} {t q:Int} (Z:Ms.prB c=true) (O:tmB t=true) (M:tmB q=true):anB ⟨c,t,q⟩=true:=by
 show(Ms.prB c&&(tmB t&&tmB q))=true;rw[Z,O,M];rfl
theorem Vv:Ms.prB pAnn=true:=by decide +kernel
theorem fF {n:Int} (O:0<=n) (M:n<=1073741824):tmB n=true:=by simp [tmB,Ms.inB,O,M]
end Ac
namespace Ac
open Go.RowKit Af Se Kd
open Nm (L strs CU)
def kL (f:Nat->UInt8):L:=(List.range 32).map f
theorem Iw (f:Nat->UInt8):(kL f).length=32:=by simp [kL]
theorem Qh (f:Nat->UInt8):keyA (kL f)=AQ f:=by simp [bvs,kL,AQ]
section
variable {w:World} {g:Nat} {x:Acc} {v:Value} {t:TypeId}
theorem YM (h:x.ss.length=32) (M:Blk w g t (acA x v)):w.rangeAt g 4 (keyA x.ss).toList:=by
 intro i u hu;have hi:i<(bvs x.ss).length:=(List.getElem?_eq_some_iff.1 hu).1;rw[M.cell];show(Ms.prC x.c++(Ms.prC x.s++(bvs x.ss++([v,.int .i64 x.t,.int .i64 x.q]:List Value)))).toArray[4+i]? = _;rw[List.getElem?_toArray,List.getElem?_append_right (by simp [Ms.prC];omega),List.getElem?_append_right (by simp [Ms.prC];omega),List.getElem?_append_left (by simp [Ms.prC];omega)];rw[<-hu]
 congr 1
 simp [Ms.prC];omega
theorem fG (h:x.ss.length=32) (M:Blk w g t (acA x v)):w.cell? ⟨g,0,none⟩=some (.string ⟨x.c.1.toArray⟩)/\w.cell? ⟨g,1,none⟩=some (.string ⟨x.c.2.toArray⟩)/\w.cell? ⟨g,2,none⟩=some (.string ⟨x.s.1.toArray⟩)/\w.cell? ⟨g,3,none⟩=some (.string ⟨x.s.2.toArray⟩)/\w.cell? ⟨g,36,none⟩=some v/\w.cell? ⟨g,37,none⟩=some (.int .i64 x.t)/\w.cell? ⟨g,38,none⟩=some (.int .i64 x.q):=by
 have e:∀k u,(acA x v)[k]? = some u->w.cell? ⟨g,k,none⟩=some u:=fun k u hu=>by rw[M.cell];exact hu
 have tl:∀k,(acA x v)[36+k]? = ([v,.int .i64 x.t,.int .i64 x.q]:List Value)[k]?:=fun k=>by
  show(Ms.prC x.c++(Ms.prC x.s++(bvs x.ss++([v,.int .i64 x.t,.int .i64 x.q]:List Value)))).toArray[36+k]? = _;rw[List.getElem?_toArray,List.getElem?_append_right (by simp [Ms.prC];omega),List.getElem?_append_right (by simp [Ms.prC];omega),List.getElem?_append_right (by simp [Ms.prC,bvs,h];omega)]
  congr 1
  simp [Ms.prC,bvs,h];omega
 exact⟨e 0 _ rfl,e 1 _ rfl,e 2 _ rfl,e 3 _ rfl,e 36 _ (tl 0),e 37 _ (tl 1),e 38 _ (tl 2)⟩
end
theorem RB (c s:Nm.L×Nm.L) (f:Nat->UInt8) (ls:List L) (t q:Int) (A A2:Option Addr) (c1 c2:Nat) (w:World) (hl:ls.length<=1000) (hr:Rd w w.heap.size A (strs ls)) (bn:Rd w w.heap.size A2 (strs ls)) :
  Calls Tryz.prog 8 #[.agg (acA ⟨c,s,kL f,ls,t,q⟩ (.slice A ls.length c1)),.agg (acA ⟨c,s,kL f,ls,t,q⟩ (.slice A2 ls.length c2))] w fun e w'=>e=.returned (.bool true)/\Below w.heap.size w w':=by
 have QK:=I (fun w1=>Rg.MY f w1);have KI:=I (Hg f);obtain⟨n,en⟩:=Ak (ls.length);rw[<-en] at hl⊢;obtain⟨ks,O⟩:=Ak (AQ f);rw[<-O] at QK KI;obtain⟨xs,Z⟩:=Ak (acA ⟨c,s,kL f,ls,t,q⟩ (.slice A n c1));obtain⟨ys,av⟩:=Ak (acA ⟨c,s,kL f,ls,t,q⟩ (.slice A2 n c2));rw[<-Z,<-av];obtain⟨W,eW⟩:=Ak ((w.alloc (.cells xs 38)).alloc (.cells ys 38));have hB:Below w.heap.size w W:=eW▸(Ah.alloc Ag _).alloc (by simp) _;have hx:Blk W w.heap.size 38 xs:=eW▸(Blk.new w _ _).alloc _;have hy:Blk W (w.heap.size+1) 38 ys:=by have:=Blk.new (w.alloc (.cells xs 38)) 38 ys;simp only[World.size_alloc] at this;rw[eW];exact this
 have HB:=I hB;have HX:=I hx;have HY:=I hy;have CX:=I (fun(w1:World) (M:Blk w1 w.heap.size 38 xs)=>fG (x:=⟨c,s,kL f,ls,t,q⟩) (v:=.slice A n c1) (Iw f) (Z▸M));have CY:=I (fun(w1:World) (M:Blk w1 (w.heap.size+1) 38 ys)=>fG (x:=⟨c,s,kL f,ls,t,q⟩) (v:=.slice A2 n c2) (Iw f) (av▸M));have KX:=I (fun(w1:World) (M:Blk w1 w.heap.size 38 xs)=>(show w1.rangeAt w.heap.size 4 ks.toList by rw[O,<-Qh];exact YM (x:=⟨c,s,kL f,ls,t,q⟩) (Iw f) (Z▸M)));have KY:=I (fun(w1:World) (M:Blk w1 (w.heap.size+1) 38 ys)=>(show w1.rangeAt (w.heap.size+1) 4 ks.toList by rw[O,<-Qh];exact YM (x:=⟨c,s,kL f,ls,t,q⟩) (Iw f) (av▸M)));have HR:=I hr;have bq:=I bn;have EN:=I en;have t1:(t==t)=true:=by simp
 have t2:(q==q)=true:=by simp
 clear hr bn Z av O en hB hx hy;go_enter Tryz.func8,Tryz.ntmps8
 go_upto_region 1 with fail
 rw[<-eW];clear eW;have qk:=QK.o W;obtain⟨x0,x1,x2,x3,bb,bB,bz⟩:=CX.o _ HX.o;obtain⟨y0,y1,y2,y3,aw,bs,bx⟩:=CY.o _ HY.o
 go_wp2_with (first
  |(refine Wh.AF (by rfl) 24 (.tmp 19) (by rfl) _ 4 (by rfl) ks _ (KX.o _ HX.o) Tryz.underlying24 (by rfl) KI.o ?_)
  |(refine Wh.AF (by rfl) 24 (.tmp 21) (by rfl) _ 4 (by rfl) ks _ (KY.o _ HY.o) Tryz.underlying24 (by rfl) KI.o ?_)
  |fail)
 go_loopw [5] (fun iv wr=>∃i:Nat,i<=n/\iv=.int .i64 (i:Int)/\Below w.heap.size w wr/\Blk wr w.heap.size 38 xs/\Blk wr (w.heap.size+1) 38 ys) (fun iv _=>n - (intOf iv).toNat)
 case atStart=>exact⟨0,Nat.zero_le _,rfl,HB.o,HX.o,HY.o⟩
 case round=>
  clear x0 x1 x2 x3 bb bB bz y0 y1 y2 y3 aw bs bx HB HX HY;obtain⟨i,hi,rfl,M,hx,hy⟩:=hrel;have HB:=I M;have HX:=I hx;have HY:=I hy;have bb:=(CX.o _ hx).2.2.2.2.1;clear M hx hy
  by_cases hlt:i<n
  ·have e1:(i:Int)<(n:Int):=by omega
   have e2:(0:Int)<=(i:Int):=by omega
   have aw:=(CY.o _ HY.o).2.2.2.2.1;obtain⟨b1,o1,rfl,_,h1⟩:=CU (HR.o.below HB.o) (i:=i) (by rw[<-EN.o];exact hlt);obtain⟨b2,o2,rfl,_,h2⟩:=CU (bq.o.below HB.o) (i:=i) (by rw[<-EN.o];exact hlt)
   go_wp2
   go_quiet (fail)
   go_wp2
   go_roundw
   case rel=>exact⟨i+1,by omega,by go_num,HB.o.trans (below_drewN Ah _ |>.mono HB.o.size),HX.o.below (below_drewN Ah _),HY.o.below (below_drewN Ah _)⟩
   case measure=>simp [intOf];omega
  ·have e1:¬(i:Int)<(n:Int):=by omega
   clear hlt
   go_wp2
   go_ret;exact⟨rfl,HB.o⟩
end Ac
namespace Ac
open Go.RowKit Af Se Kd
open Nm (L Own strs)
open Rg (It Ent Ring RO its)
open Ms (Pt An Mg pSm tmB ptB anB)
open Rp (seeE seeL Tm)
theorem Qa (l:L):AQ (ksTo l 0)=AQ (fun _=>0):=JC fun j M=>by simp [ksTo]
def ptS (f:Nat->UInt8) (now:Int):Pt:=⟨pAnn,kL f,rE1,0,now⟩
theorem Vw (f:Nat->UInt8) (now:Int):Tryz.prog.built 33 [(0,Kd.prV pAnn),(1,.agg (AQ f)),(2,.string ⟨rE1.toArray⟩),(4,.int .i64 now)]=some (ptA (ptS f now)):=by
 rw[fB];show some (Ms.prC pAnn++((AQ f).toList++_)).toArray=some (Ms.prC pAnn++(bvs (kL f)++_)).toArray;rw[<-Qh];rfl
theorem Vx {kv now seq:Int} {n:UInt8} {f:Nat->UInt8} (h1:1<=kv) (h2:kv<=2) (O:tmB now=true) (tq:tmB seq=true) (hn:(kv=1->n=1)/\(kv=2->n=2)) :
  rqOk kv n (ptS f now) (anR now seq)=true/\lokL pSv tT itS (rqL kv n (ptS f now) (anR now seq)) now=⟨0,ptS f now,anR now seq,[rE1]⟩:=by
 have h3:=Ms.Bf O;have M:rqOk kv n (ptS f now) (anR now seq)=true:=Um (Iw f) (fD Vv (by decide) (by decide) (by decide) O) (fE Vv O tq) h1 (by omega);refine⟨M,?_⟩;have Z:lkD (ptS f now) (anR now seq) now=⟨0,ptS f now,anR now seq,[rE1]⟩:=by
  unfold lkD;rw[if_neg (show ¬(ptS f now).en<now by show ¬now<now;omega),if_neg (show ¬now+5<(ptS f now).st by show ¬now+5<(0:Int);omega),if_pos (show(anR now seq).c=(ptS f now).c from rfl),fC rfl rfl]
 have hk:kv=1\/kv=2:=by omega
 rcases hk with rfl | rfl
 ·obtain rfl:=hn.1 rfl
  exact(lok_1 (Iw f) M O).trans Z
 ·obtain rfl:=hn.2 rfl
  exact(dG (Iw f) M O).trans Z
theorem fH (c s:Nm.L×Nm.L) (f:Nat->UInt8) (A:Option Addr) (M:Nat) (t q:Int):Tryz.prog.built 38 [(0,Kd.prV c),(1,Kd.prV s),(2,.agg (AQ f)),(3,.slice A 1 M),(4,.int .i64 t),(5,.int .i64 q)]=some (Ms.prC c++(Ms.prC s++((AQ f).toList++([.slice A 1 M,.int .i64 t,.int .i64 q]:List Value)))).toArray:=by kernel_rfl
theorem Es (f:Nat->UInt8) (A:Option Addr) (c:Nat) (t q:Int):Tryz.prog.built 38 [(0,Kd.prV pAnn),(1,Kd.prV pSv),(2,.agg (AQ f)),(3,.slice A 1 c),(4,.int .i64 t),(5,.int .i64 q)]=some (acA ⟨pAnn,pSv,kL f,[rE1],t,q⟩ (.slice A 1 c)):=by
 rw[fH];show some (Ms.prC pAnn++(Ms.prC pSv++((AQ f).toList++_))).toArray=some (Ms.prC pAnn++(Ms.prC pSv++(bvs (kL f)++_))).toArray;rw[<-Qh]
theorem Np {f:Nat->UInt8} {a:An} {now seq:Int} (h:seeE false 0 [] a now=0) (e:a=anR now seq):takA pSv ⟨0,ptS f now,anR now seq,[rE1]⟩ false 0 [] now=⟨pAnn,pSv,kL f,[rE1],now,seq⟩:=by
 subst e;unfold takA;rw[if_pos (show takE ⟨0,ptS f now,anR now seq,[rE1]⟩ false 0 [] now=0 from h)]
 rfl
theorem DL {w:World} {b:Nat} {f:Nat->UInt8} {t q:Int} {A:Option Addr} {c M:Nat} {x:Acc} (ho:Nm.Own w b (.slice A x.tr.length c) x.tr) (Z:Blk w M 9 #[.string ⟨#[69,68,85]⟩]) (ex:x=⟨pAnn,pSv,kL f,[rE1],t,q⟩) :
  Calls Tryz.prog 8 #[.agg (acA ⟨pAnn,pSv,kL f,[rE1],t,q⟩ (.slice A (⟨pAnn,pSv,kL f,[rE1],t,q⟩:Acc).tr.length c)),.agg (acA ⟨pAnn,pSv,kL f,[rE1],t,q⟩ (.slice (some ⟨M,0,none⟩) 1 1))] w fun e w'=>e=.returned (.bool true)/\Below w.heap.size w w':=by
 subst ex;obtain⟨A2,c2,O,hr⟩:=ho.slice;injection O with O _ e3;subst O e3;exact RB pAnn pSv f [rE1] t q A (some ⟨M,0,none⟩) c 1 w (by decide) hr (.inr ⟨M,0,rfl,Z.lt,fun i u hu=>by
  rw[Nat.zero_add,Z.cell i]
  simpa [strs,Nm.st,rE1] using hu⟩)
theorem XZ:Tryz.prog.built 24 []=some (AQ (fun _=>0)):=by kernel_rfl
theorem bI (A:Option Addr) (n c:Nat) (seq now kv:Int) (w:World) (h:seq<0\/1073741824<seq\/now<0\/1073741824<now\/kv<1\/2<kv):Calls Tryz.prog 3 #[.slice A n c,.int .i64 seq,.int .i64 now,.int .i64 kv] w fun e w'=>e=.returned (.bool true)/\Below w.heap.size w w':=by
 by_cases g0:seq<0
 ·have Z:decide (seq<0)=true:=decide_eq_true g0
  clear g0 h;go_enter Tryz.func3,Tryz.ntmps3
  go_wp2
  go_ret;exact⟨rfl,Below.refl _ _⟩
 have Z:decide (seq<0)=false:=decide_eq_false g0
 by_cases g1:1073741824<seq
 ·have O:decide (1073741824<seq)=true:=decide_eq_true g1
  clear g0 g1 h;go_enter Tryz.func3,Tryz.ntmps3
  go_wp2
  go_ret;exact⟨rfl,Below.refl _ _⟩
 have O:decide (1073741824<seq)=false:=decide_eq_false g1
 by_cases g2:now<0
 ·have t2:decide (now<0)=true:=decide_eq_true g2
  clear g0 g1 g2 h;go_enter Tryz.func3,Tryz.ntmps3
  go_wp2
  go_ret;exact⟨rfl,Below.refl _ _⟩
 have t2:decide (now<0)=false:=decide_eq_false g2
 by_cases g3:1073741824<now
 ·have t3:decide (1073741824<now)=true:=decide_eq_true g3
  clear g0 g1 g2 g3 h;go_enter Tryz.func3,Tryz.ntmps3
  go_wp2
  go_ret;exact⟨rfl,Below.refl _ _⟩
 have t3:decide (1073741824<now)=false:=decide_eq_false g3
 by_cases g4:kv<1
 ·have t4:decide (kv<1)=true:=decide_eq_true g4
  clear g0 g1 g2 g3 g4 h;go_enter Tryz.func3,Tryz.ntmps3
  go_wp2
  go_ret;exact⟨rfl,Below.refl _ _⟩
 have t4:decide (kv<1)=false:=decide_eq_false g4;have M:2<kv:=by omega
 have t5:decide (2<kv)=true:=decide_eq_true M;clear g0 g1 g2 g3 g4 M h;go_enter Tryz.func3,Tryz.ntmps3
 go_wp2
 go_ret;exact⟨rfl,Below.refl _ _⟩
theorem Ya (A:Option Addr) (n c:Nat) (l:L) (seq now kv:Int) (w:World) (en:n=l.length) (hr:Rd w w.heap.size A (bvs l)) (h:0<=seq/\seq<=1073741824/\0<=now/\now<=1073741824/\1<=kv/\kv<=2):Calls Tryz.prog 3 #[.slice A n c,.int .i64 seq,.int .i64 now,.int .i64 kv] w fun e w'=>e=.returned (.bool true)/\Below w.heap.size w w':=by
  have t0:decide (seq<0)=false:=decide_eq_false (by omega);have t1:decide (1073741824<seq)=false:=decide_eq_false (by omega);have t2:decide (now<0)=false:=decide_eq_false (by omega);have t3:decide (1073741824<now)=false:=decide_eq_false (by omega);have t4:decide (kv<1)=false:=decide_eq_false (by omega);have t5:decide (2<kv)=false:=decide_eq_false (by omega);obtain⟨nk,ei,eu,er⟩:=bH h.2.2.2.2.1 (show kv<=9 by omega);have tn:=fF h.2.2.1 h.2.2.2.1;have cT:=Vx (f:=ksOf l) (n:=nk) (seq:=seq) h.2.2.2.2.1 h.2.2.2.2.2 tn (fF h.1 h.2.1) ⟨eu,er⟩;obtain⟨cK,eb⟩:=Ak (AQ (ksOf l));obtain⟨P,eP⟩:=Ak (ptS (ksOf l) now);obtain⟨a,ea⟩:=Ak (anR now seq);rw[<-eP,<-ea] at cT;obtain⟨cP,ef⟩:=Ak (ptA P);obtain⟨cA,ec⟩:=Ak (anA a);obtain⟨bq,ed⟩:=Ak (rqL kv nk P a);have cY:=I (show(Tryz.prog.info? 24).map (·.size)=some cK.size by rw[eb];exact Hg _);have et:=I (show Tryz.prog.built 33 [(0,Kd.prV pAnn),(1,.agg cK),(2,.string ⟨#[69,68,85]⟩),(4,.int .i64 now)]=some cP by rw[eb,ef,eP];exact Vw _ now);have ep:=I (show Tryz.prog.built 35 [(0,Kd.prV pAnn),(1,.int .i64 now),(2,.int .i64 seq)]=some cA by rw[ec,ea];exact Nn now seq);have CR:=I (show ∀w1:World,Calls Tryz.prog 5 #[.int .i64 kv,.agg cP,.agg cA] w1 fun e w'=>∃v,e=.returned (.tuple #[v,.bool true])/\SlN (fun j=>j<w1.heap.size) w' v bq/\Below w1.heap.size w1 w' from fun w1=>by
    have h:=Vj (kv:=kv) (n:=nk) (p:=P) (a:=a) w1 (by rw[eP];exact Iw _) (by rw[eP];exact sAnn) (by rw[eP];exact(show rE1.length<=1000000 by decide)) (by rw[ea];exact sAnn) ei;rw[cT.1] at h;rw[ef,ec,ed];exact h)
  have ev:=I (show lokL pSv tT itS bq now=⟨0,P,a,[rE1]⟩ by rw[ed];exact cT.2);have EK:=I eb;have EP:=I eP;have EA:=I ea;obtain⟨XX,ew⟩:∃z:Acc,z=⟨pAnn,pSv,kL (ksOf l),[rE1],now,seq⟩:=⟨_,rfl⟩;have bn:=I ew;clear ew;clear ei eu er tn cT eb eP ea ef ec ed;have H:=I h;have EN:=I en;have HR:=I hr;obtain⟨zz,cu⟩:=Ak (AQ (ksTo l 0));have fi:=I (show Tryz.prog.built 24 []=some zz by rw[cu,Qa];exact XZ);have fR:=I (show zz.size=32 by rw[cu];exact DK _);have eR:=I (show(Tryz.prog.info? 24).map (·.size)=some zz.size by rw[cu];exact Hg _);have fv:=I (show zz.all (·.oneCell')=true by rw[cu];exact dj _);have EZ:=I cu;have CB:=I (fun(w1:World)=>He 0 w1);have CN:=I (fun(w1:World)=>bp w1);have CM:=I (fun(w1:World)=>Vf w1);have ct:=I (fun(w1:World)=>XY w1);have HB:=I (Below.refl w.heap.size w);clear h en hr cu;go_enter Tryz.func3,Tryz.ntmps3
  go_upto_region 4 with(first
    |(refine Mc.Am (by rfl) 24 #[] (by rfl) zz (by simp only[List.map_toArray,List.map_cons,List.map_nil];exact fi.o) ?_)
    |(refine Wh.Bd (by rfl) 24 (.tmp 9) (.tmp 38) (by rfl) 24 rfl zz (by rfl) (by rfl) (by rw[fR.o];rfl) eR.o fv.o ?_;rintro V hV M;have O:=I hV;replace HB:=HB.t M;clear hV M)
    |fail)
  obtain⟨PK,eg⟩:=Ak (w.heap.size);have fs:=I eg;rw[<-eg] at O⊢;rw[EZ.o] at O;clear eg
  go_wp2
  go_loopw [10] (fun iv wr=>∃i:Nat,i<=32/\i<=n/\iv=.int .i64 (i:Int)/\Below w.heap.size w wr/\Blk wr PK 24 (AQ (ksTo l i))) (fun iv _=>32 - (intOf iv).toNat)
  case atStart=>exact⟨0,by decide,Nat.zero_le _,rfl,HB.o,O.o⟩
  case round=>
    clear HB O;obtain⟨i,hi,eX,rfl,M,hp⟩:=hrel;have HB:=I M;have O:=I hp;clear M hp
    by_cases hx:i=32\/i=n
    · have e := TX l i (by rcases hx with h | h; exact .inl h; exact .inr (by have := EN.o; omega))
      rw[e] at O;have tt:(¬(i:Int)<32)\/((i:Int)<32/\¬(i:Int)<(n:Int)):=by omega
      rw[<-EK.o] at O;have ek:=I O.o.lt;have eo:=I HB.o.size;clear e hi eX hx;rcases tt with tt | ⟨tt,fX⟩
      · go_upto_region 11 with (first
          |(go_at_call 4;refine Calls.mono (CB.o _) ?_;rintro e w1 ⟨g,p,es,u,rfl,hs⟩;clear CB;have HV:=I (show Sv w1 wr.heap.size p es u false 0 [] 0 0 0 from hs.sv);replace HB:=I (HB.o.trans (hs.b.mono HB.o.size));replace O:=I (O.o.below hs.b);obtain⟨x,hg⟩:=hs.blk;have HG:=I hg;have NG:=I hs.ng;clear hs hg)
          |fail)
        go_cut [12,13] from 59 to 71 (fun bv ov wx=>∃v,bv=v/\ov=.bool true/\SlN (AO p es u) wx v bq/\Sv wx wr.heap.size p es u false 0 [] 0 0 0/\Blk wx g 44 #[.pointer (some ⟨p.a,0,none⟩),.pointer (some ⟨x,0,none⟩)]/\Blk wx PK 24 cK/\Below w.heap.size w wx)
        case first=>
          have bb:Below w1.heap.size w1 w1.drew:=below_drewN Ah 1;replace HV:=I (HV.o.below bb);replace HG:=I (HG.o.below bb);replace O:=I (O.o.below bb);replace HB:=HB.t bb;clear bb;refine Reg.Bo (fun w'=>Blk w' PK 24 cK) 15 rfl (by kernel_rfl) O.o ?_;refine Reg.ty 0 rfl O.o ?_;refine Reg.tw 2 (v:=.agg cK) rfl O.o (fun w' hS=>by exact Rg.Da (.tmp 9) rfl rfl (Wh.Ad hS) Tryz.underlying24 rfl cY.o) ?_;refine Reg.ty 3 rfl O.o ?_;refine Reg.ty 6 rfl O.o ?_;refine Reg.ty 7 rfl O.o ?_;refine Reg.b1 1 ?_
          right
          refine⟨_,_,_,_,_,_,6,#[],rfl,by rfl,(by go_simp<;>first | rfl | exact⟨rfl,rfl⟩),?_⟩;refine Aj (CN.o _) ?_;rintro fW M;replace HV:=I (HV.o.below M);replace HG:=I (HG.o.below M);replace O:=I (O.o.below M);replace HB:=HB.t M;clear M;refine⟨_,rfl,O.o,?_⟩;simp only[Act.put,U,Aa,Ab];refine Reg.tw 4 (v:=.agg cP) rfl O.o (fun w' hS=>by exact Rg.Bk (by simp only[List.map_toArray,List.map_cons,List.map_nil];rfl) et.o) ?_;refine Reg.b1 5 ?_
          right
          refine⟨_,_,_,_,_,_,6,#[],rfl,by rfl,(by go_simp<;>first | rfl | exact⟨rfl,rfl⟩),?_⟩;refine Aj (CN.o _) ?_;rintro fV M;replace HV:=I (HV.o.below M);replace HG:=I (HG.o.below M);replace O:=I (O.o.below M);replace HB:=HB.t M;clear M;refine⟨_,rfl,O.o,?_⟩;simp only[Act.put,U,Aa,Ab];refine Reg.tw 8 (v:=.agg cA) rfl O.o (fun w' hS=>by exact Rg.Bk (by simp only[List.map_toArray,List.map_cons,List.map_nil];rfl) ep.o) ?_;refine Reg.b1 9 ?_
          right
          refine⟨_,_,_,_,_,_,5,#[.int .i64 kv,.agg cP,.agg cA],rfl,by rfl,(by go_simp<;>first | rfl | exact⟨rfl,rfl⟩),?_⟩;refine Calls.mono (CR.o _) ?_;rintro e eT ⟨v,rfl,hs,M⟩;have SV:=I (hs.mono (S':=AO p es u) (fun j _ x=>HV.o.ad.ao_lt x));replace HV:=I (HV.o.below M);replace HG:=I (HG.o.below M);replace O:=I (O.o.below M);replace HB:=HB.t M;clear M;clear CR hs;refine⟨_,rfl,O.o,?_⟩;simp only[Act.put,U,Aa,Ab];refine Reg.ty 10 rfl O.o ?_;refine Reg.ty 11 rfl O.o ?_;refine Reg.ty 12 rfl O.o ?_;refine Reg.ty 13 rfl O.o ?_;refine Reg.ty 14 rfl O.o ?_;refine wpAnyH_done (by kernel_rfl) ?_ _
          go_wp2_with fail
          go_meet
          exact⟨_,rfl,rfl,SV.o,HV.o,HG.o,O.o,HB.o⟩
        case rest=>
          obtain⟨v,rfl,rfl,hs,hv,hg,hp,M⟩:=hcut;have SV:=I hs;replace HV:=I hv;replace HG:=I hg;replace O:=I hp;replace HB:=I M;clear hs hv hg hp M;have cq:=I (No (a:=a) (now:=now) (by rw[EA.o];rfl));have T1:=I (LX (k:=0) (x:=XX) (n':=1) (m':=0) HV.o (by omega) (by omega) (by omega) (by decide) (by simp) SV.o (fun j x=>x) ev.o cq.o.1 (by rw[bn.o,EP.o,EA.o];exact Np cq.o.1 EA.o) cq.o.2 rfl rfl);have kg:=HG.c0;have cr:=I HV.o.ad
          go_upto_region 13 with (first
              |(go_at_call 7;refine Calls.mono T1.o ?_;rintro e w3 ⟨cX,fJ,u1,rfl,h1,h2,h3,h4,h5,hk⟩;clear T1 kg;have cB:=I h1;have cR:=I h2;have cw:=I h3;have cQ:=((hk.base cr.o).block PK ek.o).trans O.o;replace O:=I (show Blk w3 PK 24 cK from cQ);clear cQ;obtain⟨A4,c4,cM,cf⟩:=h4;have cp:=I cM;have Z:=I cf;replace HV:=I h5;have cx:=hk.blk HG.o (fun y=>NG.o (.inl y));replace NG:=I (hk.notA NG.o HG.o.lt);replace HG:=I cx;clear cx;replace HB:=I (HB.o.trans ((hk.base cr.o).mono eo.o));clear cM cf h1 h2 h3 h5 hk cr)
              |(refine Wh.Bd (by rfl) 38 (.tmp 14) (.tmp 79) (by rfl) 38 rfl cX (by rfl) (by rfl) (by rw[cB.o];rfl) cw.o cR.o ?_;rintro V hV M;have HX:=I hV;replace O:=I (O.o.below M);replace Z:=I (Z.o.below M);replace HB:=HB.t M;clear hV M)
              |fail)
          obtain⟨PX,cy⟩:=Ak (w3.heap.size);rw[<-cy] at HX⊢;clear cy HV HG NG cB cR;have bb:Below V.heap.size V V.drew:=below_drewN Ah 1;replace O:=I (O.o.below bb);replace HX:=I (HX.o.below bb);replace Z:=I (Z.o.below bb);replace HB:=HB.t bb;clear bb;refine Reg.Bo (fun w'=>Blk w' PK 24 cK/\Blk w' PX 38 cX) 20 rfl (by kernel_rfl) ⟨O.o,HX.o⟩ ?_;refine Reg.ty 0 rfl ⟨O.o,HX.o⟩ ?_;refine Reg.ty 1 rfl ⟨O.o,HX.o⟩ ?_;refine Reg.ty 2 rfl ⟨O.o,HX.o⟩ ?_;refine Reg.ty 3 rfl ⟨O.o,HX.o⟩ ?_;refine Reg.ty 4 rfl ⟨O.o,HX.o⟩ ?_;refine Reg.ty 5 rfl ⟨O.o,HX.o⟩ ?_;refine Reg.tw 6 (v:=.agg cX) rfl ⟨O.o,HX.o⟩ (fun w' hS=>by exact Wh.Bm (.tmp 14) rfl rfl hS.2 Tryz.underlying38 rfl cw.o) ?_;refine Reg.tw 9 (v:=.agg cK) rfl ⟨O.o,HX.o⟩ (fun w' hS=>by exact Wh.Bm (.tmp 9) rfl rfl hS.1 Tryz.underlying24 rfl cY.o) ?_;refine Reg.ty 11 rfl ⟨O.o,HX.o⟩ ?_;refine Reg.ty 12 rfl ⟨O.o,HX.o⟩ ?_;refine Reg.b2 7 10 ?_ ?_
          · right
            refine⟨_,_,_,_,_,_,6,#[],rfl,by rfl,(by go_simp<;>first | rfl | exact⟨rfl,rfl⟩),?_⟩;refine Aj (CN.o _) ?_;rintro bs M;replace O:=I (O.o.below M);replace HX:=I (HX.o.below M);replace Z:=I (Z.o.below M);replace HB:=HB.t M;clear M;refine⟨_,rfl,⟨O.o,HX.o⟩,?_⟩;simp only[Act.put,U,Aa,Ab];refine Reg.b2 8 10 ?_ ?_
            · right
              refine⟨_,_,_,_,_,_,9,#[],rfl,by rfl,(by go_simp<;>first | rfl | exact⟨rfl,rfl⟩),?_⟩;refine Aj (CM.o _) ?_;rintro bx M;replace O:=I (O.o.below M);replace HX:=I (HX.o.below M);replace Z:=I (Z.o.below M);replace HB:=HB.t M;clear M;refine⟨_,rfl,⟨O.o,HX.o⟩,?_⟩;simp only[Act.put,U,Aa,Ab];refine Reg.b1 10 ?_
              left
              have M:Below bx.heap.size bx (bx.alloc (.cells #[.string ⟨#[69,68,85]⟩] 9)):=Ah.alloc Ag _;refine⟨_,_,_,_,_,_,.slice (some ⟨bx.heap.size,0,none⟩) 1 1,(bx.alloc (.cells #[.string ⟨#[69,68,85]⟩] 9)),rfl,by rfl,(by go_simp<;>rfl),⟨O.o.below M,HX.o.below M⟩,?_⟩;simp only[Act.put,U,Aa,Ab];have av:=I (Blk.new bx 9 #[.string ⟨#[69,68,85]⟩]);replace O:=I (O.o.below M);replace HX:=I (HX.o.below M);replace Z:=I (Z.o.below M);replace HB:=HB.t M;clear M;obtain⟨eB,cn⟩:=Ak ((bx.alloc (.cells #[.string ⟨#[69,68,85]⟩] 9)));rw[<-cn] at O HX Z HB av⊢;clear cn;obtain⟨GS,bz⟩:=Ak (bx.heap.size);rw[<-bz] at av⊢;clear bz;obtain⟨cZ,aw⟩:=Ak (acA XX (.slice (some ⟨GS,0,none⟩) 1 1));have cc:=I (show Tryz.prog.built 38 [(0,Kd.prV pAnn),(1,Kd.prV pSv),(2,.agg cK),(3,.slice (some ⟨GS,0,none⟩) 1 1),(4,.int .i64 now),(5,.int .i64 seq)]=some cZ by rw[aw,EK.o,bn.o];exact Es _ _ _ _ _);have cb:=I aw;clear aw;refine Reg.tw 13 (v:=.agg cZ) rfl ⟨O.o,HX.o⟩ (fun w' hS=>by exact Rg.Bk (by simp only[List.map_toArray,List.map_cons,List.map_nil];rfl) cc.o) ?_;refine Reg.b1 14 ?_
              right
              refine⟨_,_,_,_,_,_,8,#[.agg cX,.agg cZ],rfl,by rfl,(by go_simp<;>first | rfl | exact⟨rfl,rfl⟩),?_⟩;refine Aj (show Calls _ _ #[.agg cX,.agg cZ] _ _ by rw[cp.o,cb.o,bn.o];exact DL Z.o av.o bn.o) ?_;rintro fO M;replace av:=I (av.o.below M);replace O:=I (O.o.below M);replace HX:=I (HX.o.below M);replace Z:=I (Z.o.below M);replace HB:=HB.t M;clear M;refine⟨_,rfl,⟨O.o,HX.o⟩,?_⟩;simp only[Act.put,U,Aa,Ab];refine Reg.ty 15 rfl ⟨O.o,HX.o⟩ ?_;refine Reg.ty 16 rfl ⟨O.o,HX.o⟩ ?_;refine Reg.b1 17 ?_
              right
              refine⟨_,_,_,_,_,_,10,#[],rfl,by rfl,(by go_simp<;>first | rfl | exact⟨rfl,rfl⟩),?_⟩;refine Aj (ct.o _) ?_;rintro fL M;replace av:=I (av.o.below M);replace O:=I (O.o.below M);replace HX:=I (HX.o.below M);replace Z:=I (Z.o.below M);replace HB:=HB.t M;clear M;refine⟨_,rfl,⟨O.o,HX.o⟩,?_⟩;simp only[Act.put,U,Aa,Ab];refine Reg.ty 18 rfl ⟨O.o,HX.o⟩ ?_;refine Reg.ty 19 rfl ⟨O.o,HX.o⟩ ?_;refine wpAnyH_done (by kernel_rfl) ?_ _
              go_wp2
              go_ret;exact⟨rfl,HB.o⟩
            · left
              have M:Below bs.heap.size bs (bs.alloc (.cells #[.string ⟨#[69,68,85]⟩] 9)):=Ah.alloc Ag _;refine⟨_,_,_,_,_,_,.slice (some ⟨bs.heap.size,0,none⟩) 1 1,(bs.alloc (.cells #[.string ⟨#[69,68,85]⟩] 9)),rfl,by rfl,(by go_simp<;>rfl),⟨O.o.below M,HX.o.below M⟩,?_⟩;simp only[Act.put,U,Aa,Ab];have av:=I (Blk.new bs 9 #[.string ⟨#[69,68,85]⟩]);replace O:=I (O.o.below M);replace HX:=I (HX.o.below M);replace Z:=I (Z.o.below M);replace HB:=HB.t M;clear M;obtain⟨ey,cm⟩:=Ak ((bs.alloc (.cells #[.string ⟨#[69,68,85]⟩] 9)));rw[<-cm] at O HX Z HB av⊢;clear cm;obtain⟨GS,bz⟩:=Ak (bs.heap.size);rw[<-bz] at av⊢;clear bz;obtain⟨cZ,aw⟩:=Ak (acA XX (.slice (some ⟨GS,0,none⟩) 1 1));have cc:=I (show Tryz.prog.built 38 [(0,Kd.prV pAnn),(1,Kd.prV pSv),(2,.agg cK),(3,.slice (some ⟨GS,0,none⟩) 1 1),(4,.int .i64 now),(5,.int .i64 seq)]=some cZ by rw[aw,EK.o,bn.o];exact Es _ _ _ _ _);have cb:=I aw;clear aw;refine Reg.b1 8 ?_
              right
              refine⟨_,_,_,_,_,_,9,#[],rfl,by rfl,(by go_simp<;>first | rfl | exact⟨rfl,rfl⟩),?_⟩;refine Aj (CM.o _) ?_;rintro fT M;replace av:=I (av.o.below M);replace O:=I (O.o.below M);replace HX:=I (HX.o.below M);replace Z:=I (Z.o.below M);replace HB:=HB.t M;clear M;refine⟨_,rfl,⟨O.o,HX.o⟩,?_⟩;simp only[Act.put,U,Aa,Ab];refine Reg.tw 13 (v:=.agg cZ) rfl ⟨O.o,HX.o⟩ (fun w' hS=>by exact Rg.Bk (by simp only[List.map_toArray,List.map_cons,List.map_nil];rfl) cc.o) ?_;refine Reg.b1 14 ?_
              right
              refine⟨_,_,_,_,_,_,8,#[.agg cX,.agg cZ],rfl,by rfl,(by go_simp<;>first | rfl | exact⟨rfl,rfl⟩),?_⟩;refine Aj (show Calls _ _ #[.agg cX,.agg cZ] _ _ by rw[cp.o,cb.o,bn.o];exact DL Z.o av.o bn.o) ?_;rintro eV M;replace av:=I (av.o.below M);replace O:=I (O.o.below M);replace HX:=I (HX.o.below M);replace Z:=I (Z.o.below M);replace HB:=HB.t M;clear M;refine⟨_,rfl,⟨O.o,HX.o⟩,?_⟩;simp only[Act.put,U,Aa,Ab];refine Reg.ty 15 rfl ⟨O.o,HX.o⟩ ?_;refine Reg.ty 16 rfl ⟨O.o,HX.o⟩ ?_;refine Reg.b1 17 ?_
              right
              refine⟨_,_,_,_,_,_,10,#[],rfl,by rfl,(by go_simp<;>first | rfl | exact⟨rfl,rfl⟩),?_⟩;refine Aj (ct.o _) ?_;rintro fQ M;replace av:=I (av.o.below M);replace O:=I (O.o.below M);replace HX:=I (HX.o.below M);replace Z:=I (Z.o.below M);replace HB:=HB.t M;clear M;refine⟨_,rfl,⟨O.o,HX.o⟩,?_⟩;simp only[Act.put,U,Aa,Ab];refine Reg.ty 18 rfl ⟨O.o,HX.o⟩ ?_;refine Reg.ty 19 rfl ⟨O.o,HX.o⟩ ?_;refine wpAnyH_done (by kernel_rfl) ?_ _
              go_wp2
              go_ret;exact⟨rfl,HB.o⟩
          · left
            have M:Below V.drew.heap.size V.drew (V.drew.alloc (.cells #[.string ⟨#[69,68,85]⟩] 9)):=Ah.alloc Ag _;refine⟨_,_,_,_,_,_,.slice (some ⟨V.drew.heap.size,0,none⟩) 1 1,(V.drew.alloc (.cells #[.string ⟨#[69,68,85]⟩] 9)),rfl,by rfl,(by go_simp<;>rfl),⟨O.o.below M,HX.o.below M⟩,?_⟩;simp only[Act.put,U,Aa,Ab];have av:=I (Blk.new V.drew 9 #[.string ⟨#[69,68,85]⟩]);replace O:=I (O.o.below M);replace HX:=I (HX.o.below M);replace Z:=I (Z.o.below M);replace HB:=HB.t M;clear M;obtain⟨eL,ck⟩:=Ak ((V.drew.alloc (.cells #[.string ⟨#[69,68,85]⟩] 9)));rw[<-ck] at O HX Z HB av⊢;clear ck;obtain⟨GS,bz⟩:=Ak (V.drew.heap.size);rw[<-bz] at av⊢;clear bz;obtain⟨cZ,aw⟩:=Ak (acA XX (.slice (some ⟨GS,0,none⟩) 1 1));have cc:=I (show Tryz.prog.built 38 [(0,Kd.prV pAnn),(1,Kd.prV pSv),(2,.agg cK),(3,.slice (some ⟨GS,0,none⟩) 1 1),(4,.int .i64 now),(5,.int .i64 seq)]=some cZ by rw[aw,EK.o,bn.o];exact Es _ _ _ _ _);have cb:=I aw;clear aw;refine Reg.b1 7 ?_
            right
            refine⟨_,_,_,_,_,_,6,#[],rfl,by rfl,(by go_simp<;>first | rfl | exact⟨rfl,rfl⟩),?_⟩;refine Aj (CN.o _) ?_;rintro fK M;replace av:=I (av.o.below M);replace O:=I (O.o.below M);replace HX:=I (HX.o.below M);replace Z:=I (Z.o.below M);replace HB:=HB.t M;clear M;refine⟨_,rfl,⟨O.o,HX.o⟩,?_⟩;simp only[Act.put,U,Aa,Ab];refine Reg.b1 8 ?_
            right
            refine⟨_,_,_,_,_,_,9,#[],rfl,by rfl,(by go_simp<;>first | rfl | exact⟨rfl,rfl⟩),?_⟩;refine Aj (CM.o _) ?_;rintro fj M;replace av:=I (av.o.below M);replace O:=I (O.o.below M);replace HX:=I (HX.o.below M);replace Z:=I (Z.o.below M);replace HB:=HB.t M;clear M;refine⟨_,rfl,⟨O.o,HX.o⟩,?_⟩;simp only[Act.put,U,Aa,Ab];refine Reg.tw 13 (v:=.agg cZ) rfl ⟨O.o,HX.o⟩ (fun w' hS=>by exact Rg.Bk (by simp only[List.map_toArray,List.map_cons,List.map_nil];rfl) cc.o) ?_;refine Reg.b1 14 ?_
            right
            refine⟨_,_,_,_,_,_,8,#[.agg cX,.agg cZ],rfl,by rfl,(by go_simp<;>first | rfl | exact⟨rfl,rfl⟩),?_⟩;refine Aj (show Calls _ _ #[.agg cX,.agg cZ] _ _ by rw[cp.o,cb.o,bn.o];exact DL Z.o av.o bn.o) ?_;rintro fI M;replace av:=I (av.o.below M);replace O:=I (O.o.below M);replace HX:=I (HX.o.below M);replace Z:=I (Z.o.below M);replace HB:=HB.t M;clear M;refine⟨_,rfl,⟨O.o,HX.o⟩,?_⟩;simp only[Act.put,U,Aa,Ab];refine Reg.ty 15 rfl ⟨O.o,HX.o⟩ ?_;refine Reg.ty 16 rfl ⟨O.o,HX.o⟩ ?_;refine Reg.b1 17 ?_
            right
            refine⟨_,_,_,_,_,_,10,#[],rfl,by rfl,(by go_simp<;>first | rfl | exact⟨rfl,rfl⟩),?_⟩;refine Aj (ct.o _) ?_;rintro eW M;replace av:=I (av.o.below M);replace O:=I (O.o.below M);replace HX:=I (HX.o.below M);replace Z:=I (Z.o.below M);replace HB:=HB.t M;clear M;refine⟨_,rfl,⟨O.o,HX.o⟩,?_⟩;simp only[Act.put,U,Aa,Ab];refine Reg.ty 18 rfl ⟨O.o,HX.o⟩ ?_;refine Reg.ty 19 rfl ⟨O.o,HX.o⟩ ?_;refine wpAnyH_done (by kernel_rfl) ?_ _
            go_wp2
            go_ret;exact⟨rfl,HB.o⟩
      · go_upto_region 11 with (first
          |(go_at_call 4;refine Calls.mono (CB.o _) ?_;rintro e w1 ⟨g,p,es,u,rfl,hs⟩;clear CB;have HV:=I (show Sv w1 wr.heap.size p es u false 0 [] 0 0 0 from hs.sv);replace HB:=I (HB.o.trans (hs.b.mono HB.o.size));replace O:=I (O.o.below hs.b);obtain⟨x,hg⟩:=hs.blk;have HG:=I hg;have NG:=I hs.ng;clear hs hg)
          |fail)
        go_cut [12,13] from 59 to 71 (fun bv ov wx=>∃v,bv=v/\ov=.bool true/\SlN (AO p es u) wx v bq/\Sv wx wr.heap.size p es u false 0 [] 0 0 0/\Blk wx g 44 #[.pointer (some ⟨p.a,0,none⟩),.pointer (some ⟨x,0,none⟩)]/\Blk wx PK 24 cK/\Below w.heap.size w wx)
        case first=>
          have bb:Below w1.heap.size w1 w1.drew:=below_drewN Ah 1;replace HV:=I (HV.o.below bb);replace HG:=I (HG.o.below bb);replace O:=I (O.o.below bb);replace HB:=HB.t bb;clear bb;refine Reg.Bo (fun w'=>Blk w' PK 24 cK) 15 rfl (by kernel_rfl) O.o ?_;refine Reg.ty 0 rfl O.o ?_;refine Reg.tw 2 (v:=.agg cK) rfl O.o (fun w' hS=>by exact Rg.Da (.tmp 9) rfl rfl (Wh.Ad hS) Tryz.underlying24 rfl cY.o) ?_;refine Reg.ty 3 rfl O.o ?_;refine Reg.ty 6 rfl O.o ?_;refine Reg.ty 7 rfl O.o ?_;refine Reg.b1 1 ?_
          right
          refine⟨_,_,_,_,_,_,6,#[],rfl,by rfl,(by go_simp<;>first | rfl | exact⟨rfl,rfl⟩),?_⟩;refine Aj (CN.o _) ?_;rintro fS M;replace HV:=I (HV.o.below M);replace HG:=I (HG.o.below M);replace O:=I (O.o.below M);replace HB:=HB.t M;clear M;refine⟨_,rfl,O.o,?_⟩;simp only[Act.put,U,Aa,Ab];refine Reg.tw 4 (v:=.agg cP) rfl O.o (fun w' hS=>by exact Rg.Bk (by simp only[List.map_toArray,List.map_cons,List.map_nil];rfl) et.o) ?_;refine Reg.b1 5 ?_
          right
          refine⟨_,_,_,_,_,_,6,#[],rfl,by rfl,(by go_simp<;>first | rfl | exact⟨rfl,rfl⟩),?_⟩;refine Aj (CN.o _) ?_;rintro fu M;replace HV:=I (HV.o.below M);replace HG:=I (HG.o.below M);replace O:=I (O.o.below M);replace HB:=HB.t M;clear M;refine⟨_,rfl,O.o,?_⟩;simp only[Act.put,U,Aa,Ab];refine Reg.tw 8 (v:=.agg cA) rfl O.o (fun w' hS=>by exact Rg.Bk (by simp only[List.map_toArray,List.map_cons,List.map_nil];rfl) ep.o) ?_;refine Reg.b1 9 ?_
          right
          refine⟨_,_,_,_,_,_,5,#[.int .i64 kv,.agg cP,.agg cA],rfl,by rfl,(by go_simp<;>first | rfl | exact⟨rfl,rfl⟩),?_⟩;refine Calls.mono (CR.o _) ?_;rintro e fP ⟨v,rfl,hs,M⟩;have SV:=I (hs.mono (S':=AO p es u) (fun j _ x=>HV.o.ad.ao_lt x));replace HV:=I (HV.o.below M);replace HG:=I (HG.o.below M);replace O:=I (O.o.below M);replace HB:=HB.t M;clear M;clear CR hs;refine⟨_,rfl,O.o,?_⟩;simp only[Act.put,U,Aa,Ab];refine Reg.ty 10 rfl O.o ?_;refine Reg.ty 11 rfl O.o ?_;refine Reg.ty 12 rfl O.o ?_;refine Reg.ty 13 rfl O.o ?_;refine Reg.ty 14 rfl O.o ?_;refine wpAnyH_done (by kernel_rfl) ?_ _
          go_wp2_with fail
          go_meet
          exact⟨_,rfl,rfl,SV.o,HV.o,HG.o,O.o,HB.o⟩
        case rest=>
          obtain⟨v,rfl,rfl,hs,hv,hg,hp,M⟩:=hcut;have SV:=I hs;replace HV:=I hv;replace HG:=I hg;replace O:=I hp;replace HB:=I M;clear hs hv hg hp M;have cq:=I (No (a:=a) (now:=now) (by rw[EA.o];rfl));have T1:=I (LX (k:=0) (x:=XX) (n':=1) (m':=0) HV.o (by omega) (by omega) (by omega) (by decide) (by simp) SV.o (fun j x=>x) ev.o cq.o.1 (by rw[bn.o,EP.o,EA.o];exact Np cq.o.1 EA.o) cq.o.2 rfl rfl);have kg:=HG.c0;have cr:=I HV.o.ad
          go_upto_region 13 with (first
              |(go_at_call 7;refine Calls.mono T1.o ?_;rintro e w3 ⟨cX,fJ,u1,rfl,h1,h2,h3,h4,h5,hk⟩;clear T1 kg;have cB:=I h1;have cR:=I h2;have cw:=I h3;have cQ:=((hk.base cr.o).block PK ek.o).trans O.o;replace O:=I (show Blk w3 PK 24 cK from cQ);clear cQ;obtain⟨A4,c4,cM,cf⟩:=h4;have cp:=I cM;have Z:=I cf;replace HV:=I h5;have cx:=hk.blk HG.o (fun y=>NG.o (.inl y));replace NG:=I (hk.notA NG.o HG.o.lt);replace HG:=I cx;clear cx;replace HB:=I (HB.o.trans ((hk.base cr.o).mono eo.o));clear cM cf h1 h2 h3 h5 hk cr)
              |(refine Wh.Bd (by rfl) 38 (.tmp 14) (.tmp 79) (by rfl) 38 rfl cX (by rfl) (by rfl) (by rw[cB.o];rfl) cw.o cR.o ?_;rintro V hV M;have HX:=I hV;replace O:=I (O.o.below M);replace Z:=I (Z.o.below M);replace HB:=HB.t M;clear hV M)
              |fail)
          obtain⟨PX,cy⟩:=Ak (w3.heap.size);rw[<-cy] at HX⊢;clear cy HV HG NG cB cR;have bb:Below V.heap.size V V.drew:=below_drewN Ah 1;replace O:=I (O.o.below bb);replace HX:=I (HX.o.below bb);replace Z:=I (Z.o.below bb);replace HB:=HB.t bb;clear bb;refine Reg.Bo (fun w'=>Blk w' PK 24 cK/\Blk w' PX 38 cX) 20 rfl (by kernel_rfl) ⟨O.o,HX.o⟩ ?_;refine Reg.ty 0 rfl ⟨O.o,HX.o⟩ ?_;refine Reg.ty 1 rfl ⟨O.o,HX.o⟩ ?_;refine Reg.ty 2 rfl ⟨O.o,HX.o⟩ ?_;refine Reg.ty 3 rfl ⟨O.o,HX.o⟩ ?_;refine Reg.ty 4 rfl ⟨O.o,HX.o⟩ ?_;refine Reg.ty 5 rfl ⟨O.o,HX.o⟩ ?_;refine Reg.tw 6 (v:=.agg cX) rfl ⟨O.o,HX.o⟩ (fun w' hS=>by exact Wh.Bm (.tmp 14) rfl rfl hS.2 Tryz.underlying38 rfl cw.o) ?_;refine Reg.tw 9 (v:=.agg cK) rfl ⟨O.o,HX.o⟩ (fun w' hS=>by exact Wh.Bm (.tmp 9) rfl rfl hS.1 Tryz.underlying24 rfl cY.o) ?_;refine Reg.ty 11 rfl ⟨O.o,HX.o⟩ ?_;refine Reg.ty 12 rfl ⟨O.o,HX.o⟩ ?_;refine Reg.b2 7 10 ?_ ?_
          · right
            refine⟨_,_,_,_,_,_,6,#[],rfl,by rfl,(by go_simp<;>first | rfl | exact⟨rfl,rfl⟩),?_⟩;refine Aj (CN.o _) ?_;rintro ca M;replace O:=I (O.o.below M);replace HX:=I (HX.o.below M);replace Z:=I (Z.o.below M);replace HB:=HB.t M;clear M;refine⟨_,rfl,⟨O.o,HX.o⟩,?_⟩;simp only[Act.put,U,Aa,Ab];refine Reg.b2 8 10 ?_ ?_
            · right
              refine⟨_,_,_,_,_,_,9,#[],rfl,by rfl,(by go_simp<;>first | rfl | exact⟨rfl,rfl⟩),?_⟩;refine Aj (CM.o _) ?_;rintro bB M;replace O:=I (O.o.below M);replace HX:=I (HX.o.below M);replace Z:=I (Z.o.below M);replace HB:=HB.t M;clear M;refine⟨_,rfl,⟨O.o,HX.o⟩,?_⟩;simp only[Act.put,U,Aa,Ab];refine Reg.b1 10 ?_
              left
              have M:Below bB.heap.size bB (bB.alloc (.cells #[.string ⟨#[69,68,85]⟩] 9)):=Ah.alloc Ag _;refine⟨_,_,_,_,_,_,.slice (some ⟨bB.heap.size,0,none⟩) 1 1,(bB.alloc (.cells #[.string ⟨#[69,68,85]⟩] 9)),rfl,by rfl,(by go_simp<;>rfl),⟨O.o.below M,HX.o.below M⟩,?_⟩;simp only[Act.put,U,Aa,Ab];have av:=I (Blk.new bB 9 #[.string ⟨#[69,68,85]⟩]);replace O:=I (O.o.below M);replace HX:=I (HX.o.below M);replace Z:=I (Z.o.below M);replace HB:=HB.t M;clear M;obtain⟨eK,cg⟩:=Ak ((bB.alloc (.cells #[.string ⟨#[69,68,85]⟩] 9)));rw[<-cg] at O HX Z HB av⊢;clear cg;obtain⟨GS,bz⟩:=Ak (bB.heap.size);rw[<-bz] at av⊢;clear bz;obtain⟨cZ,aw⟩:=Ak (acA XX (.slice (some ⟨GS,0,none⟩) 1 1));have cc:=I (show Tryz.prog.built 38 [(0,Kd.prV pAnn),(1,Kd.prV pSv),(2,.agg cK),(3,.slice (some ⟨GS,0,none⟩) 1 1),(4,.int .i64 now),(5,.int .i64 seq)]=some cZ by rw[aw,EK.o,bn.o];exact Es _ _ _ _ _);have cb:=I aw;clear aw;refine Reg.tw 13 (v:=.agg cZ) rfl ⟨O.o,HX.o⟩ (fun w' hS=>by exact Rg.Bk (by simp only[List.map_toArray,List.map_cons,List.map_nil];rfl) cc.o) ?_;refine Reg.b1 14 ?_
              right
              refine⟨_,_,_,_,_,_,8,#[.agg cX,.agg cZ],rfl,by rfl,(by go_simp<;>first | rfl | exact⟨rfl,rfl⟩),?_⟩;refine Aj (show Calls _ _ #[.agg cX,.agg cZ] _ _ by rw[cp.o,cb.o,bn.o];exact DL Z.o av.o bn.o) ?_;rintro ff M;replace av:=I (av.o.below M);replace O:=I (O.o.below M);replace HX:=I (HX.o.below M);replace Z:=I (Z.o.below M);replace HB:=HB.t M;clear M;refine⟨_,rfl,⟨O.o,HX.o⟩,?_⟩;simp only[Act.put,U,Aa,Ab];refine Reg.ty 15 rfl ⟨O.o,HX.o⟩ ?_;refine Reg.ty 16 rfl ⟨O.o,HX.o⟩ ?_;refine Reg.b1 17 ?_
              right
              refine⟨_,_,_,_,_,_,10,#[],rfl,by rfl,(by go_simp<;>first | rfl | exact⟨rfl,rfl⟩),?_⟩;refine Aj (ct.o _) ?_;rintro fU M;replace av:=I (av.o.below M);replace O:=I (O.o.below M);replace HX:=I (HX.o.below M);replace Z:=I (Z.o.below M);replace HB:=HB.t M;clear M;refine⟨_,rfl,⟨O.o,HX.o⟩,?_⟩;simp only[Act.put,U,Aa,Ab];refine Reg.ty 18 rfl ⟨O.o,HX.o⟩ ?_;refine Reg.ty 19 rfl ⟨O.o,HX.o⟩ ?_;refine wpAnyH_done (by kernel_rfl) ?_ _
              go_wp2
              go_ret;exact⟨rfl,HB.o⟩
            · left
              have M:Below ca.heap.size ca (ca.alloc (.cells #[.string ⟨#[69,68,85]⟩] 9)):=Ah.alloc Ag _;refine⟨_,_,_,_,_,_,.slice (some ⟨ca.heap.size,0,none⟩) 1 1,(ca.alloc (.cells #[.string ⟨#[69,68,85]⟩] 9)),rfl,by rfl,(by go_simp<;>rfl),⟨O.o.below M,HX.o.below M⟩,?_⟩;simp only[Act.put,U,Aa,Ab];have av:=I (Blk.new ca 9 #[.string ⟨#[69,68,85]⟩]);replace O:=I (O.o.below M);replace HX:=I (HX.o.below M);replace Z:=I (Z.o.below M);replace HB:=HB.t M;clear M;obtain⟨ez,cd⟩:=Ak ((ca.alloc (.cells #[.string ⟨#[69,68,85]⟩] 9)));rw[<-cd] at O HX Z HB av⊢;clear cd;obtain⟨GS,bz⟩:=Ak (ca.heap.size);rw[<-bz] at av⊢;clear bz;obtain⟨cZ,aw⟩:=Ak (acA XX (.slice (some ⟨GS,0,none⟩) 1 1));have cc:=I (show Tryz.prog.built 38 [(0,Kd.prV pAnn),(1,Kd.prV pSv),(2,.agg cK),(3,.slice (some ⟨GS,0,none⟩) 1 1),(4,.int .i64 now),(5,.int .i64 seq)]=some cZ by rw[aw,EK.o,bn.o];exact Es _ _ _ _ _);have cb:=I aw;clear aw;refine Reg.b1 8 ?_
              right
              refine⟨_,_,_,_,_,_,9,#[],rfl,by rfl,(by go_simp<;>first | rfl | exact⟨rfl,rfl⟩),?_⟩;refine Aj (CM.o _) ?_;rintro fM M;replace av:=I (av.o.below M);replace O:=I (O.o.below M);replace HX:=I (HX.o.below M);replace Z:=I (Z.o.below M);replace HB:=HB.t M;clear M;refine⟨_,rfl,⟨O.o,HX.o⟩,?_⟩;simp only[Act.put,U,Aa,Ab];refine Reg.tw 13 (v:=.agg cZ) rfl ⟨O.o,HX.o⟩ (fun w' hS=>by exact Rg.Bk (by simp only[List.map_toArray,List.map_cons,List.map_nil];rfl) cc.o) ?_;refine Reg.b1 14 ?_
              right
              refine⟨_,_,_,_,_,_,8,#[.agg cX,.agg cZ],rfl,by rfl,(by go_simp<;>first | rfl | exact⟨rfl,rfl⟩),?_⟩;refine Aj (show Calls _ _ #[.agg cX,.agg cZ] _ _ by rw[cp.o,cb.o,bn.o];exact DL Z.o av.o bn.o) ?_;rintro eQ M;replace av:=I (av.o.below M);replace O:=I (O.o.below M);replace HX:=I (HX.o.below M);replace Z:=I (Z.o.below M);replace HB:=HB.t M;clear M;refine⟨_,rfl,⟨O.o,HX.o⟩,?_⟩;simp only[Act.put,U,Aa,Ab];refine Reg.ty 15 rfl ⟨O.o,HX.o⟩ ?_;refine Reg.ty 16 rfl ⟨O.o,HX.o⟩ ?_;refine Reg.b1 17 ?_
              right
              refine⟨_,_,_,_,_,_,10,#[],rfl,by rfl,(by go_simp<;>first | rfl | exact⟨rfl,rfl⟩),?_⟩;refine Aj (ct.o _) ?_;rintro fz M;replace av:=I (av.o.below M);replace O:=I (O.o.below M);replace HX:=I (HX.o.below M);replace Z:=I (Z.o.below M);replace HB:=HB.t M;clear M;refine⟨_,rfl,⟨O.o,HX.o⟩,?_⟩;simp only[Act.put,U,Aa,Ab];refine Reg.ty 18 rfl ⟨O.o,HX.o⟩ ?_;refine Reg.ty 19 rfl ⟨O.o,HX.o⟩ ?_;refine wpAnyH_done (by kernel_rfl) ?_ _
              go_wp2
              go_ret;exact⟨rfl,HB.o⟩
          · left
            have M:Below V.drew.heap.size V.drew (V.drew.alloc (.cells #[.string ⟨#[69,68,85]⟩] 9)):=Ah.alloc Ag _;refine⟨_,_,_,_,_,_,.slice (some ⟨V.drew.heap.size,0,none⟩) 1 1,(V.drew.alloc (.cells #[.string ⟨#[69,68,85]⟩] 9)),rfl,by rfl,(by go_simp<;>rfl),⟨O.o.below M,HX.o.below M⟩,?_⟩;simp only[Act.put,U,Aa,Ab];have av:=I (Blk.new V.drew 9 #[.string ⟨#[69,68,85]⟩]);replace O:=I (O.o.below M);replace HX:=I (HX.o.below M);replace Z:=I (Z.o.below M);replace HB:=HB.t M;clear M;obtain⟨eF,cj⟩:=Ak ((V.drew.alloc (.cells #[.string ⟨#[69,68,85]⟩] 9)));rw[<-cj] at O HX Z HB av⊢;clear cj;obtain⟨GS,bz⟩:=Ak (V.drew.heap.size);rw[<-bz] at av⊢;clear bz;obtain⟨cZ,aw⟩:=Ak (acA XX (.slice (some ⟨GS,0,none⟩) 1 1));have cc:=I (show Tryz.prog.built 38 [(0,Kd.prV pAnn),(1,Kd.prV pSv),(2,.agg cK),(3,.slice (some ⟨GS,0,none⟩) 1 1),(4,.int .i64 now),(5,.int .i64 seq)]=some cZ by rw[aw,EK.o,bn.o];exact Es _ _ _ _ _);have cb:=I aw;clear aw;refine Reg.b1 7 ?_
            right
            refine⟨_,_,_,_,_,_,6,#[],rfl,by rfl,(by go_simp<;>first | rfl | exact⟨rfl,rfl⟩),?_⟩;refine Aj (CN.o _) ?_;rintro eE M;replace av:=I (av.o.below M);replace O:=I (O.o.below M);replace HX:=I (HX.o.below M);replace Z:=I (Z.o.below M);replace HB:=HB.t M;clear M;refine⟨_,rfl,⟨O.o,HX.o⟩,?_⟩;simp only[Act.put,U,Aa,Ab];refine Reg.b1 8 ?_
            right
            refine⟨_,_,_,_,_,_,9,#[],rfl,by rfl,(by go_simp<;>first | rfl | exact⟨rfl,rfl⟩),?_⟩;refine Aj (CM.o _) ?_;rintro eM M;replace av:=I (av.o.below M);replace O:=I (O.o.below M);replace HX:=I (HX.o.below M);replace Z:=I (Z.o.below M);replace HB:=HB.t M;clear M;refine⟨_,rfl,⟨O.o,HX.o⟩,?_⟩;simp only[Act.put,U,Aa,Ab];refine Reg.tw 13 (v:=.agg cZ) rfl ⟨O.o,HX.o⟩ (fun w' hS=>by exact Rg.Bk (by simp only[List.map_toArray,List.map_cons,List.map_nil];rfl) cc.o) ?_;refine Reg.b1 14 ?_
            right
            refine⟨_,_,_,_,_,_,8,#[.agg cX,.agg cZ],rfl,by rfl,(by go_simp<;>first | rfl | exact⟨rfl,rfl⟩),?_⟩;refine Aj (show Calls _ _ #[.agg cX,.agg cZ] _ _ by rw[cp.o,cb.o,bn.o];exact DL Z.o av.o bn.o) ?_;rintro eN M;replace av:=I (av.o.below M);replace O:=I (O.o.below M);replace HX:=I (HX.o.below M);replace Z:=I (Z.o.below M);replace HB:=HB.t M;clear M;refine⟨_,rfl,⟨O.o,HX.o⟩,?_⟩;simp only[Act.put,U,Aa,Ab];refine Reg.ty 15 rfl ⟨O.o,HX.o⟩ ?_;refine Reg.ty 16 rfl ⟨O.o,HX.o⟩ ?_;refine Reg.b1 17 ?_
            right
            refine⟨_,_,_,_,_,_,10,#[],rfl,by rfl,(by go_simp<;>first | rfl | exact⟨rfl,rfl⟩),?_⟩;refine Aj (ct.o _) ?_;rintro eJ M;replace av:=I (av.o.below M);replace O:=I (O.o.below M);replace HX:=I (HX.o.below M);replace Z:=I (Z.o.below M);replace HB:=HB.t M;clear M;refine⟨_,rfl,⟨O.o,HX.o⟩,?_⟩;simp only[Act.put,U,Aa,Ab];refine Reg.ty 18 rfl ⟨O.o,HX.o⟩ ?_;refine Reg.ty 19 rfl ⟨O.o,HX.o⟩ ?_;refine wpAnyH_done (by kernel_rfl) ?_ _
            go_wp2
            go_ret;exact⟨rfl,HB.o⟩
    · have fN : i < 32 := by omega
      have fY:i<n:=by omega
      have ej:i<l.length:=by have:=EN.o;omega
      have e1:(i:Int)<32:=by omega
      have e2:(i:Int)<(n:Int):=by omega
      have e3:(0:Int)<=(i:Int):=by omega
      obtain⟨b,o,rfl,fb,cL⟩:=HR.o.at_ (Fw ej);have hc:wr.cell? ⟨b,o+i,none⟩=some (.int .u8 ((l[i]).toNat:Int)):=(HB.o.cell (p:=⟨b,o+i,none⟩) fb).trans cL;have hy:=O.o.cell i;rw[WN _ _ fN] at hy;simp only[bv] at hy;have f1:=O.o.frozen;clear cL hx
      go_wp2_with fail
      go_roundw
      case rel=>exact⟨i+1,by omega,by omega,by go_num,Si.AS HB.o (by rw[fs.o];exact Nat.le_refl _) _,by
        have:=O.o.set i (bv l[i]);rw[TW l i ej] at this;exact this⟩
      case measure=>simp [intOf];omega
theorem Vy (A:Option Addr) (l:L) (c:Nat) (seq now kv:Int) (w:World) (M:Rd w w.heap.size A (bvs l)):Calls Tryz.prog 3 #[.slice A l.length c,.int .i64 seq,.int .i64 now,.int .i64 kv] w fun e w'=>e=.returned (.bool true)/\Below w.heap.size w w':=by
 by_cases h:0<=seq/\seq<=1073741824/\0<=now/\now<=1073741824/\1<=kv/\kv<=2
 ·exact Ya A _ c l seq now kv w rfl M h
 ·exact bI A _ c seq now kv w (by omega)
end Ac
end Go.Proofs.YtiecjolmennkfaaGreat
