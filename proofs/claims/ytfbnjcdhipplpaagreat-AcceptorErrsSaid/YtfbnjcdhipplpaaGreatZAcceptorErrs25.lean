import Derived.Test.YtfbnjcdhipplpaaGreatZAcceptorErrs24
set_option maxHeartbeats 25600000
set_option maxRecDepth 100000
set_option linter.unusedVariables false
set_option linter.unusedSimpArgs false
namespace Go.Proofs.YtfbnjcdhipplpaaGreat
namespace Ac
open Go.RowKit Af Se Kd
open Nm (L Own)
open Rg (It Ent Ring RO its)
open Ms (An Pt Tk Ap Mg tmB inB ptB anB ptD anD mgD prC)
open SeL (BK)
open Rp (seeE seeL Tm)
theorem Ri (n:Int) (w:World):Calls Tryz.prog 85 #[.int .i64 n] w fun e w'=>e=.returned (.bool (tmB n))/\w=w':=by
 by_cases h1:0<=n
 ·by_cases h2:n<=1073741824
  ·have M:decide ((0:Int)<=n)=true:=decide_eq_true h1
   have O:decide (n<=1073741824)=true:=decide_eq_true h2;have E:=I (show tmB n=true by simp [tmB,inB,h1,h2]);rw[E.o];clear h1 h2;go_enter Tryz.func85,Tryz.ntmps85
   go_wp2
   go_ret;exact⟨rfl,rfl⟩
  ·have M:decide ((0:Int)<=n)=true:=decide_eq_true h1
   have O:decide (n<=1073741824)=false:=decide_eq_false h2;have E:=I (show tmB n=false by simp [tmB,inB,h1,h2]);rw[E.o];clear h1 h2;go_enter Tryz.func85,Tryz.ntmps85
   go_wp2
   go_ret;exact⟨rfl,rfl⟩
 ·have M:decide ((0:Int)<=n)=false:=decide_eq_false h1
  have E:=I (show tmB n=false by simp [tmB,inB,h1]);rw[E.o];clear h1;go_enter Tryz.func85,Tryz.ntmps85
  go_wp2
  go_ret;exact⟨rfl,rfl⟩
theorem Xv {b:L} {P:Pt} (h:ptD b=some P):P.ss.length=32/\ptB P=true:=by
 have M:P.ss.length=32:=by have:=Mc.OK b;unfold Mc.ptG at this;rw[h] at this;exact this
 exact⟨M,(Ms.BS.1 (Ms.Zb h).1).1⟩
theorem MZ (l:List It) (t:Tk) (now:Int):(shwL l t now).2.ss.length=32/\((shwL l t now).1=0->ptB (shwL l t now).2=true):=by
 unfold shwL
 split
 ·exact⟨rfl,fun h=>absurd h (by decide)⟩
 ·split
  ·split
   ·exact⟨rfl,fun h=>absurd h (by decide)⟩
   ·rename_i P hP
    obtain⟨M,O⟩:=Xv hP
    split
    ·exact⟨rfl,fun h=>absurd h (by decide)⟩
    ·split
     ·exact⟨rfl,fun h=>absurd h (by decide)⟩
     ·exact⟨M,fun _=>O⟩
  ·exact⟨rfl,fun h=>absurd h (by decide)⟩
theorem US (ss a:L) (u:Int) (c:Ms.Pr):(athL ss a u c).1=0->anB (athL ss a u c).2=true:=by
 unfold athL
 split
 ·split
  ·exact fun h=>absurd h (by decide)
  ·rename_i x hx
   split
   ·exact fun _=>(Ms.BS.1 (Ms.SF.1 hx)).1
   ·exact fun h=>absurd h (by decide)
 ·exact fun h=>absurd h (by decide)
abbrev acA (x:Acc) (v:Value):Array Value:=(prC x.c++(prC x.s++(bvs x.ss++([v,.int .i64 x.t,.int .i64 x.q]:List Value)))).toArray
theorem Hm {x:Acc} (h:x.ss.length=32) (v:Value):(acA x v).size=39:=by simp [prC,bvs,h]
theorem JU (x:Acc) {v:Value} (M:v.oneCell'=true):(acA x v).all (·.oneCell')=true:=Lv fun u hu=>by
 simp only[List.mem_append] at hu;rcases hu with hu | hu | hu | hu
 ·exact Uf _ u hu
 ·exact Uf _ u hu
 ·exact BB _ u hu
 ·simp only[List.mem_cons,List.mem_nil_iff,or_false] at hu
  rcases hu with rfl | rfl | rfl
  ·exact M
  ·rfl
  ·rfl
theorem Yn:acA acc0 (.slice none 0 0)=#[.string ⟨#[]⟩,.string ⟨#[]⟩,.string ⟨#[]⟩,.string ⟨#[]⟩,.int .u8 0,.int .u8 0,.int .u8 0,.int .u8 0,.int .u8 0,.int .u8 0,.int .u8 0,.int .u8 0,.int .u8 0,.int .u8 0,.int .u8 0,.int .u8 0,.int .u8 0,.int .u8 0,.int .u8 0,.int .u8 0,.int .u8 0,.int .u8 0,.int .u8 0,.int .u8 0,.int .u8 0,.int .u8 0,.int .u8 0,.int .u8 0,.int .u8 0,.int .u8 0,.int .u8 0,.int .u8 0,.int .u8 0,.int .u8 0,.int .u8 0,.int .u8 0,.slice none 0 0,.int .i64 0,.int .i64 0]:=rfl
theorem Na:(Tryz.prog.info? 54).map (·.size)=some 39:=by kernel_rfl
theorem Nb:Tryz.prog.built 54 []=some (acA acc0 (.slice none 0 0)):=by kernel_rfl
theorem bk_ac (f:Nat->UInt8) (c s:Nm.L×Nm.L) (A:Option Addr) (n M:Nat) (t q:Int):Tryz.prog.built 54 [(0,Kd.prV c),(1,Kd.prV s),(2,.agg (Be f)),(3,.slice A n M),(4,.int .i64 t),(5,.int .i64 q)]=some (prC c++(prC s++((Be f).toList++([.slice A n M,.int .i64 t,.int .i64 q]:List Value)))).toArray:=by kernel_rfl
theorem Xw {ss:L} (h:ss.length=32) (c s:Nm.L×Nm.L) (A:Option Addr) (n M:Nat) (t q:Int) (tr:List L):Tryz.prog.built 54 [(0,Kd.prV c),(1,Kd.prV s),(2,.agg (keyA ss)),(3,.slice A n M),(4,.int .i64 t),(5,.int .i64 q)]=some (acA ⟨c,s,ss,tr,t,q⟩ (.slice A n M)):=by
 have e:keyA ss=Be (ksOf ss):=(Ov h).symm;rw[e,bk_ac];show some (prC c++(prC s++((Be (ksOf ss)).toList++_))).toArray=some (prC c++(prC s++(bvs ss++_))).toArray;rw[<-e]
section
variable {w0 w w':World} {B N:Nat} {p:SP} {es0 es es':List Ent} {u0 u u':Value} {on on':Bool} {st st':Int} {l l':List An} {n m c n' m' c':Nat} {v:Value} {b:L}
def SlH (N:Nat) (p:SP) (es:List Ent) (u:Value) (w:World) (v:Value) (b:L):Prop:=N<=w.heap.size/\SlN (fun j=>AO p es u j\/N<=j) w v b
theorem SlH.of (h:SlN (AO p es u) w v b):SlH w.heap.size p es u w v b:=⟨Nat.le_refl _,h.mono fun j M x=>x.elim id (fun y=>by omega)⟩
theorem SlH.below (h:SlH N p es u w v b) (M:Below w.heap.size w w'):SlH N p es u w' v b:=⟨Nat.le_trans h.1 M.size,h.2.below M⟩
theorem SlH.kn (h:SlH N p es u w v b) (hk:Av w w' B p es u es' u' on st l n m c):SlH N p es' u' w' v b:=
 ⟨Nat.le_trans h.1 hk.size,h.2.keep hk.chg (fun _ _ x=>.inl x) (fun j M x=>by
  rcases x with x | x
  ·rcases hk.nw j x with y | y
   ·exact .inl y
   ·omega
  ·exact .inr x)⟩
theorem SlH.over (h:SlH N p es u w v b) {g:Nat} (M:w.grownBy w' (some g)) (O:N<=g):SlH N p es u w' v b:=
 ⟨Nat.le_trans h.1 M.size,h.2.keep (Chg.of_grown M rfl) (fun j _ x=>.inr (by have x:g=j:=x;omega)) (fun _ _ x=>x)⟩
theorem SlH.rs (h:SlH N p es u w v b):SlN (RSO p.r p.v es none) w v b:=h.2.mono fun j _ x=>by
 rcases x with x | ⟨z,M,_⟩
 ·exact .inl (.inr (.inl x))
 ·cases M
theorem SlH.rsb (h:SlH N p es u w v b) {x:Nat} {ks:Nat->UInt8} (O:N<=x):SlN (RSO p.r p.v es (some ⟨x,ks,none,0,0,0⟩)) w v b:=h.2.mono fun j _ y=>by
 rcases y with y | ⟨z,M,y⟩
 ·exact .inl (.inr (.inl y))
 ·injection M with M
  subst M;rcases y with y | y
  ·exact .inr (by have y:j=x:=y;omega)
  ·cases y
theorem AD.rsb (h:AD w B p es u on st l n m c) {x:Nat} {ks:Nat->UInt8} (hx:Box w x ks none 0 0 0) (hn:¬AO p es u x) (hB:B<=x):RS w B p.r p.v es (some ⟨x,ks,none,0,0,0⟩) c:=by
 have Z:∀j,SO (some ⟨x,ks,none,0,0,0⟩) j->j=x:=fun j M=>by
  obtain⟨z,O,M⟩:=M;injection O with O;subst O;rcases M with M | M
  ·exact M
  ·cases M
 refine⟨h.ring,h.hB,fun z O=>?_,fun j M y=>hn ((Z j M)▸(.inr (.inl y))),fun j M=>by have:=Z j M;omega,h.cz⟩;injection O with O;subst O;exact⟨hx,Nat.zero_le _,Nat.zero_le _,Nat.zero_le _⟩
theorem Av.of_rsb (k:Av w0 w B p es0 u0 es u on st l n m c) {x:Nat} {ks:Nat->UInt8} {s':Option Ss} (hx:w0.heap.size<=x) (hn:¬AA p es u x) (g:Rn w w' B p.r p.v es (some ⟨x,ks,none,0,0,0⟩) es' s' c'):Av w0 w' B p es0 u0 es' u on st l n m c':=by
 have h:=k.st;have Z:∀j,RSO p.r p.v es (some ⟨x,ks,none,0,0,0⟩) j->RO p.r p.v es j\/j=x:=fun j M=>by
  rcases M with M | ⟨z,hz,M⟩
  ·exact .inl M
  ·injection hz with hz
   subst hz;rcases M with M | M
   ·exact .inr M
   ·cases M
 have bb:∀j,RO p.r p.v es' j->RO p.r p.v es j\/j=x\/w.heap.size<=j:=fun j M=>by
  rcases g.nw j (.inl M) with y | y
  ·exact(Z j y).imp id .inl
  ·exact .inr (.inr y)
 have av:∀j,RO p.r p.v es' j->j≠x->RO p.r p.v es j\/w.heap.size<=j:=fun j M e=>by
  rcases bb j M with y | y | y
  ·exact .inl y
  ·exact absurd y e
  ·exact .inr y
 have O:∀j,j<w.heap.size->¬RO p.r p.v es j->j≠x->¬RO p.r p.v es' j:=fun j hl aw e y=>by
  rcases av j y e with z | z
  ·exact aw z
  ·omega
 have ne:∀j,AA p es u j->j≠x:=fun j M e=>hn (e▸M)
 have off:∀j,AA p es u j->¬RO p.r p.v es j->¬RSO p.r p.v es (some ⟨x,ks,none,0,0,0⟩) j:=fun j M h2 y=>by
  rcases Z j y with z | z
  ·exact h2 z
  ·exact ne j M z
 have ha:AA p es u p.a:=.inl (.inl rfl);have hq:∀j,Rp.RO p.q u j->AA p es u j:=fun j M=>.inl (.inr (.inr M))
 refine⟨⟨g.chg.blk h.blk (off _ ha h.ar),g.st.k,h.rp.chg g.chg (fun j M=>off j (hq j M) (fun y=>h.rq j y M)),h.tp.chg g.chg (fun j M=>⟨h.aa_lt (.inr M),off j (.inr M) (fun y=>h.rt j y M)⟩),h.lo,h.tlo,Nat.le_trans h.hi g.chg.size,O _ h.blk.lt h.ar (ne _ ha),h.aq,h.at_,fun j M y=>O j (h.aa_lt (.inr y)) (fun z=>h.rt j z y) (ne j (.inr y)) M,h.qt,fun j M y=>O j (h.rp.own_lt y) (fun z=>h.rq j z y) (ne j (hq j y)) M,g.st.cz⟩,g.eq.trans k.eq,k.chg.trans g.chg (fun j M y=>?_),fun j M=>?_⟩
 ·rcases Z j y with z | z
  ·rcases k.nw j (.inr (.inl z)) with y | y
   ·exact y
   ·omega
  ·omega
 ·rcases M with M | M | M
  ·exact k.nw j (.inl M)
  ·by_cases e:j=x
   ·exact .inr (by omega)
   ·rcases av j M e with y | y
    ·exact k.nw j (.inr (.inl y))
    ·have:=k.size;exact .inr (by omega)
  ·exact k.nw j (.inr (.inr M))
theorem Av.notA {P:Nat} (h:Av w0 w B p es0 u0 es u on st l n m c) (M:¬AA p es0 u0 P) (O:P<w0.heap.size):¬AA p es u P:=fun x=>by
 rcases x with x | x
 ·rcases h.nw P x with y | y
  ·exact M (.inl y)
  ·omega
 ·exact M (.inr x)
def TakP (w:World) (B:Nat) (p:SP) (es:List Ent) (u:Value) (on:Bool) (st:Int) (l:List An) (n m c:Nat) (r:Lk) (now:Int) (e:Ending) (w':World):Prop:=
 ∃v es' u',e=.returned (.tuple #[.agg (acA (takA p.P r on st l now) v),.int .i64 (takE r on st l now)])/\v.oneCell'=true/\Own w' w.heap.size v (takA p.P r on st l now).tr/\(∀k,v.ownBlock=some k->¬AO p es' u' k)/\Av w w' B p es u es' u' on st (takS r on st l now) n m c
theorem JV {r:Lk} {now k:Int} (h:Av w w' B p es u es' u' on st l n m c) (M:r.e=k) (hk:k≠0):TakP w B p es u on st l n m c r now (.returned (.tuple #[.agg (acA acc0 (.slice none 0 0)),.int .i64 k])) w':=by
 have Z:takE r on st l now=k:=by rw[takE,if_neg (by rw[M];exact hk),M]
 have O:takA p.P r on st l now=acc0:=by rw[takA,Z,if_neg hk]
 have e3:takS r on st l now=l:=by rw[takS,if_neg (by rw[M];exact hk)]
 exact⟨.slice none 0 0,es',u',by rw[Z,O],rfl,by rw[O];exact Nm.Own.nil _ _,fun k hk=>by simp [Value.ownBlock] at hk,by rw[e3];exact h⟩
theorem Xx {r:Lk} {now k:Int} (M:r.e=0) (hs:seeE on st l r.a now=k) (h:Av w w' B p es u es' u' on st (seeL on st l r.a now) n m c) (hk:k≠0):TakP w B p es u on st l n m c r now (.returned (.tuple #[.agg (acA acc0 (.slice none 0 0)),.int .i64 k])) w':=by
 have Z:takE r on st l now=k:=by rw[takE,if_pos M,hs]
 have O:takA p.P r on st l now=acc0:=by rw[takA,Z,if_neg hk]
 have e3:takS r on st l now=seeL on st l r.a now:=by rw[takS,if_pos M]
 exact⟨.slice none 0 0,es',u',by rw[Z,O],rfl,by rw[O];exact Nm.Own.nil _ _,fun k hk=>by simp [Value.ownBlock] at hk,by rw[e3];exact h⟩
theorem aX {r:Lk} {now:Int} {v:Value} (M:r.e=0) (hs:seeE on st l r.a now=0) (h:Av w w' B p es u es' u' on st (seeL on st l r.a now) n m c) (hv:v.oneCell'=true) (ho:Own w' w.heap.size v r.l) (hn:∀k,v.ownBlock=some k->¬AO p es' u' k):TakP w B p es u on st l n m c r now (.returned (.tuple #[.agg (acA ⟨r.p.c,p.P,r.p.ss,r.l,r.a.t,r.a.q⟩ v),.int .i64 0])) w':=by
 have Z:takE r on st l now=0:=by rw[takE,if_pos M,hs]
 have O:takA p.P r on st l now=⟨r.p.c,p.P,r.p.ss,r.l,r.a.t,r.a.q⟩:=by rw[takA,Z,if_pos rfl]
 have e3:takS r on st l now=seeL on st l r.a now:=by rw[takS,if_pos M]
 exact⟨v,es',u',by rw[Z,O],hv,by rw[O];exact ho,hn,by rw[e3];exact h⟩
end
end Ac
namespace Ac
open Go.RowKit Af Se Kd
open Nm (L Own)
open Rg (It Ent Ring RO its Dp DS)
open Ms (An Pt Tk Ap Mg tmB inB ptB anB ptD anD mgD prC apC)
open Rp (seeE seeL Tm)
open Rt (Sm)
abbrev apA (q:Ap) (bv av:Value):Array Value:=#[.string ⟨q.t.s.1.toArray⟩,.string ⟨q.t.s.2.toArray⟩,.int .i64 q.t.k,bv,av]
theorem dV (q:Ap) {bv M:Value} (h1:bv.oneCell'=true) (Z:M.oneCell'=true):(apA q bv M).all (·.oneCell')=true:=Lv (l:=[.string ⟨q.t.s.1.toArray⟩,.string ⟨q.t.s.2.toArray⟩,.int .i64 q.t.k,bv,M]) fun v O=>by
 simp only[List.mem_cons,List.mem_nil_iff,or_false] at O;rcases O with rfl | rfl | rfl | rfl | rfl
 ·rfl
 ·rfl
 ·rfl
 ·exact h1
 ·exact Z
theorem dW:(Tryz.prog.info? 85).map (·.size)=some 5:=by kernel_rfl
theorem dX:(Tryz.prog.info? 83).map (·.size)=some 4:=by kernel_rfl
theorem UT {S:Nat->Prop} {w:World} {v:Value} {l:L} (h:SlN S w v l):v.oneCell'=true:=by
 obtain⟨A,c,rfl,_⟩:=h;rfl
section
variable {w:World} {B:Nat} {p:SP} {es:List Ent} {u:Value} {on:Bool} {st:Int} {l:List An} {n m c:Nat}
theorem dY {v:Value} {b:L} {S:Nat->Prop} (hS:∀j,w.heap.size<=j->¬S j) (hv:SlN S w v b):Calls Tryz.prog 86 #[v] w fun e w'=>∃ds bv M,e=.returned (.tuple #[.agg ds,.int .i64 (Mc.mgI b)])/\ds.size=30/\ds.all (·.oneCell')=true/\(∀(w1:World) (g:Nat) (t:TypeId),Blk w1 g t ds->w1.cell? ⟨g,0,none⟩=some (.int .i64 (Mc.mgG b).k)/\w1.rangeAt g 23 (apA (Mc.mgG b).ap bv M).toList)/\SlN S w' bv (Mc.mgG b).ap.t.b/\SlN S w' M (Mc.mgG b).ap.a/\Below w.heap.size w w':=by
 obtain⟨A,c,rfl,hc,hr⟩:=hv;refine(Mc.aQ A b c w hr.rd).mono ?_;rintro e w' ⟨ds,rfl,⟨pa,pt,pr,pp,pf,h1,Z⟩,O⟩;obtain⟨bv,M,h3,h4,h5⟩:=Z.p;have h6:pp=apA (Mc.mgG b).ap bv M:=h3;subst h6;have own:∀{v:Value} {l:L},Mc.OwnN w' w.heap.size v l->SlN S w' v l:=fun{v l} h=>by
  rcases h with⟨rfl,rfl⟩ | ⟨b,c,rfl,hc,O,hl,hr⟩
  ·exact⟨none,0,rfl,Nat.le_refl _,.inl rfl⟩
  ·exact⟨_,c,rfl,hc,.inr ⟨b,0,rfl,hl,hS b O,fun i u hu=>by rw[Nat.zero_add];exact hr i u hu⟩⟩
 subst h1;refine⟨_,bv,M,rfl,Z.toV.size _,Z.toV.one _,fun w1 g t O=>?_,own h4,own h5,O⟩;have:=Z.toV.at_ O;exact⟨this.k,this.p⟩
theorem UU {w1 w':World} {es2:List Ent} {s2:Option Ss} {x c':Nat} {ks:Nat->UInt8} {P:Nat} (O:¬AA p es u P) (he:P≠x):¬RSO p.r p.v es (some ⟨x,ks,none,0,0,0⟩) P:=fun y=>by
 rcases y with y | ⟨z,M,y⟩
 ·exact O (.inl (.inr (.inl y)))
 ·injection M with M
  subst M;rcases y with y | y
  ·exact he y
  ·cases y
theorem DW {w1 w':World} {es2:List Ent} {s2:Option Ss} {x c':Nat} {ks:Nat->UInt8} {P:Nat} {t:TypeId} {cs:Array Value} (g:Rn w1 w' B p.r p.v es (some ⟨x,ks,none,0,0,0⟩) es2 s2 c') (h:Blk w1 P t cs) (M:¬AA p es u P) (he:P≠x):Blk w' P t cs:=
 g.blk h (UU (w1:=w1) (w':=w') (es2:=es2) (s2:=s2) (c':=c') M he)
theorem DX {w1 w':World} {es2:List Ent} {s2:Option Ss} {x c':Nat} {ks:Nat->UInt8} {P:Nat} (g:Rn w1 w' B p.r p.v es (some ⟨x,ks,none,0,0,0⟩) es2 s2 c') (M:¬AA p es u P) (he:P≠x) (O:P<w1.heap.size):¬AA p es2 u P:=fun y=>by
 rcases y with(y | y | y) | y
 ·exact M (.inl (.inl y))
 ·rcases g.nw P (.inl y) with z | z
  ·exact UU (w1:=w1) (w':=w') (es2:=es2) (s2:=s2) (c':=c') M he z
  ·omega
 ·exact M (.inl (.inr (.inr y)))
 ·exact M (.inr y)
theorem an_tm {x:An} (h:anB x=true):Tm x.t/\x.c.1.length<=36/\x.c.2.length<=43:=by
 have M:Ms.prB x.c=true/\tmB x.t=true/\tmB x.q=true:=by simpa [anB] using h
 have O:=Ms.Bl M.2.1;exact⟨⟨O.1,by omega⟩,Ms.GU M.1⟩
theorem dZ {bv:Value} {b:L} {now:Int} {r:Lk} (h:AD w B p es u on st l n m c) (hc:c<800000) (hl:es.length<=1000) (hT:Sm p.T) (hP:p.P.1.length<=1000000/\p.P.2.length<=1000000) (fP:Tm st) (fT:l.length<=1000) (hv:SlN (AO p es u) w bv b) (hr:lokL p.P p.T (its es) b now=r) :
  Calls Tryz.prog 42 #[.pointer (some ⟨p.a,0,none⟩),bv,.int .i64 now] w (TakP w B p es u on st l n m (c+2) r now):=by
 obtain⟨zz,eZ⟩:=Ak (acA acc0 (.slice none 0 0));have cm:=I (show Tryz.prog.built 54 []=some zz by rw[eZ];exact Nb);have fG:=I (show zz.size=39 by rw[eZ];exact Hm rfl _);have ck:=I (show(Tryz.prog.info? 54).map (·.size)=some zz.size by rw[fG.o];exact Na);have eN:=I (show zz.all (·.oneCell')=true by rw[eZ];exact JU _ rfl);have ez:=I (show acA acc0 (.slice none 0 0)=zz from eZ.symm);have eg:=I (eZ.trans Yn);obtain⟨W,eW⟩:=Ak (w.alloc (.cells zz 54));have hb:Below w.heap.size w W:=eW▸Ah.alloc Ag _;have HR:=I (show Blk W w.heap.size 54 zz from eW▸Blk.new w _ _);have Z:=I (Av.start h hb);have NR:=I (h.fresh (Nat.le_refl w.heap.size));have HV:=I (hv.below hb);have CT:=I (fun(w1:World)=>Ri now w1);obtain⟨AB,mB,fQ,_,_⟩:=hv;obtain⟨LB,fN⟩:=Ak (b.length);rw[<-fN] at fQ;subst fQ;have HC:=I hc;have HL:=I hl;have gv:=I hT;have gz:=I hP;have gG:=I fP;have gy:=I fT;have CP:=I (fun(w1:World)=>Rg.Lt p.P w1 (by omega) (by omega));have E0:=I ((show lokL p.P p.T (its es) b now=(if tmB now=true then (match mgD b with | none=>lk0 2 | some m=>if m.k=4 then lokA p.P p.T (its es) m.ap now else lk0 2) else lk0 1) from rfl).symm.trans hr);obtain⟨tb,fy⟩:=Ak (tmB now);rw[<-fy] at CT E0;have gN:=I fy;clear h hc hl hT hP fP fT hb hr eZ fN fy;cases tb with
 |false=>
  have er:r=lk0 1:=E0.o.symm;subst er;go_enter Tryz.func42,Tryz.ntmps42
  go_upto_region 1 with fail
  rw[<-eg.o,<-eW];clear eW eg
  go_upto_region 2 with(first
   |(go_at_call 85;refine Aj (CT.o _) ?_;rintro wt hw;have hw:=hw.symm;subst hw;clear CT)
   |fail)
  go_wp2_with (first
   |(refine Mc.Ae (by rfl) 54 #[] (by rfl) zz (by simp;exact cm.o) ?_)
   |(refine Wh.AW (by rfl) 54 (.tmp 6) (.tmp 18) (by rfl) w.heap.size 54 _ HR.o zz (by rfl) (by rfl) (by rfl) ck.o eN.o ?_;rintro V hV hg;replace HR:=I hV;replace Z:=I (Z.o.over Ag NR.o hg);clear hV hg cm)
   |fail)
  refine bodyPost_ret (v:=.tuple #[.agg zz,.int .i64 1]) ?_ ?_ ?_
  ·exact Rg.Al (v:=.agg zz) 6 7 54 ⟨w.heap.size,0,none⟩ Tryz.results42 rfl (Wh.Ao HR.o Tryz.underlying54 (by rfl) ck.o) rfl
  ·rfl
  ·rw[<-ez.o];exact JV (Z.o.more (by omega)) rfl (by decide)
 |true=>
  have HN:=I (show 0<=now/\now<=1073741824 from Ms.Bl gN.o.symm);replace E0:=I (show(match mgD b with | none=>lk0 2 | some m=>if m.k=4 then lokA p.P p.T (its es) m.ap now else lk0 2)=r from E0.o);have CD:=I (fun(w1:World) (hv:SlN (AO p es u) w1 (.slice AB LB mB) b) (hS:∀j,w1.heap.size<=j->¬AO p es u j)=>dY hS hv);cases hd:mgD b with
  |none=>
   rw[hd] at E0;have er:r=lk0 2:=E0.o.symm;subst er;rw[show Mc.mgI b=2 by unfold Mc.mgI;rw[hd];rfl] at CD;clear hd;go_enter Tryz.func42,Tryz.ntmps42
   go_upto_region 1 with fail
   rw[<-eg.o,<-eW];clear eW eg
   go_upto_region 3 with(first
    |(go_at_call 85;refine Aj (CT.o _) ?_;rintro wt hw;have hw:=hw.symm;subst hw;clear CT)
    |fail)
   go_upto_region 5 with(first
    |(go_at_call 86;refine Calls.mono (CD.o _ HV.o (fun j hj x=>by have:=Z.o.st.ao_lt x;omega)) ?_;rintro e w9 ⟨ds,bv,av,rfl,cL,eL,ew,eB,ej,hb⟩;clear CD HV;replace Z:=I (Z.o.below hb);replace HR:=I (HR.o.below hb);have eo:=I cL;have ed:=I eL;have eM:=I (show(Tryz.prog.info? 95).map (·.size)=some ds.size by rw[cL];exact Mc.AZ);have eP:=I ew;have SB:=I (SlH.of eB);have SA:=I (SlH.of ej);clear cL eL ew eB ej hb)
    |(refine Wh.Bc (by rfl) 95 (.tmp 8) (.tmp 22) (by rfl) 95 rfl ds (by rfl) (by rfl) (by rw[eo.o];rfl) eM.o ed.o ?_;rintro V hV hb;have HM:=I hV;have NM:=I (Z.o.st.fresh (Nat.le_refl w9.heap.size));replace Z:=I (Z.o.below hb);replace HR:=I (HR.o.below hb);replace SB:=I (SB.o.below hb);replace SA:=I (SA.o.below hb);have fz:=(eP.o V _ _ hV).1;clear hV hb eo eM ed)
    |fail)
   go_wp2_with (first
    |(refine Mc.Ae (by rfl) 54 #[] (by rfl) zz (by simp;exact cm.o) ?_)
    |(refine Wh.AW (by rfl) 54 (.tmp 6) (.tmp 31) (by rfl) w.heap.size 54 _ HR.o zz (by rfl) (by rfl) (by rfl) ck.o eN.o ?_;rintro V hV hg;replace HR:=I hV;replace Z:=I (Z.o.over Ag NR.o hg);clear hV hg cm)
    |fail)
   refine bodyPost_ret (v:=.tuple #[.agg zz,.int .i64 2]) ?_ ?_ ?_
   ·exact Rg.Al (v:=.agg zz) 6 7 54 ⟨w.heap.size,0,none⟩ Tryz.results42 rfl (Wh.Ao HR.o Tryz.underlying54 (by rfl) ck.o) rfl
   ·rfl
   ·rw[<-ez.o];exact JV (Z.o.more (by omega)) rfl (by decide)
  |some M=>
   rw[hd] at E0;rw[show Mc.mgI b=0 by unfold Mc.mgI;rw[hd];rfl,show Mc.mgG b=M by unfold Mc.mgG;rw[hd];rfl] at CD;replace E0:=I (show(if M.k=4 then lokA p.P p.T (its es) M.ap now else lk0 2)=r from E0.o);clear hd
   by_cases hk4:M.k=4
   ·replace E0:=I ((if_pos hk4).symm.trans E0.o)
    obtain⟨q,eq⟩:=Ak (M.ap);rw[<-eq] at CD E0;rw[hk4] at CD;clear eq hk4;go_enter Tryz.func42,Tryz.ntmps42
    go_upto_region 1 with fail
    rw[<-eg.o,<-eW];clear eW eg
    go_upto_region 3 with(first
     |(go_at_call 85;refine Aj (CT.o _) ?_;rintro wt hw;have hw:=hw.symm;subst hw;clear CT)
     |fail)
    go_upto_region 6 with(first
     |(go_at_call 86;refine Calls.mono (CD.o _ HV.o (fun j hj x=>by have:=Z.o.st.ao_lt x;omega)) ?_;rintro e w9 ⟨ds,bv,av,rfl,cL,eL,ew,eB,ej,hb⟩;clear CD HV;replace Z:=I (Z.o.below hb);replace HR:=I (HR.o.below hb);have eo:=I cL;have ed:=I eL;have eM:=I (show(Tryz.prog.info? 95).map (·.size)=some ds.size by rw[cL];exact Mc.AZ);have eP:=I ew;have SB:=I (SlH.of eB);have SA:=I (SlH.of ej);clear cL eL ew eB ej hb)
     |(refine Wh.Bc (by rfl) 95 (.tmp 8) (.tmp 22) (by rfl) 95 rfl ds (by rfl) (by rfl) (by rw[eo.o];rfl) eM.o ed.o ?_;rintro V hV hb;have HM:=I hV;have NM:=I (Z.o.st.fresh (Nat.le_refl w9.heap.size));replace Z:=I (Z.o.below hb);replace HR:=I (HR.o.below hb);replace SB:=I (SB.o.below hb);replace SA:=I (SA.o.below hb);have fz:=(eP.o V _ _ hV).1;clear hV hb eo eM ed)
     |fail)
    obtain⟨cQ,eu⟩:=Ak (apA q bv av);have fu:V.rangeAt w9.heap.size 23 cQ.toList:=by rw[eu];exact(eP.o V _ _ HM.o).2
    have fx:=I (show cQ.size=5 by rw[eu];rfl);have fC:=I (show(Tryz.prog.info? 85).map (·.size)=some cQ.size by rw[fx.o];exact dW);have gb:=I (show cQ.all (·.oneCell')=true by rw[eu];exact dV q (UT SB.o.2) (UT SA.o.2));have fh:=I (fun(w1:World) (g:Nat) (hb:Blk w1 g 85 cQ)=>(show w1.cell? ⟨g,0,none⟩=some (.string ⟨q.t.s.1.toArray⟩)/\w1.cell? ⟨g,1,none⟩=some (.string ⟨q.t.s.2.toArray⟩)/\w1.cell? ⟨g,2,none⟩=some (.int .i64 q.t.k)/\w1.cell? ⟨g,3,none⟩=some bv/\w1.cell? ⟨g,4,none⟩=some av by rw[eu] at hb;exact⟨hb.cell 0,hb.cell 1,hb.cell 2,hb.cell 3,hb.cell 4⟩));clear eu
    go_upto_region 7 with(first
     |(refine Wh.AF (by rfl) 85 (.tmp 32) (by rfl) w9.heap.size 23 (by rfl) cQ _ fu Tryz.underlying85 (by rfl) fC.o ?_;clear fu)
     |(refine Wh.Bc (by rfl) 85 (.tmp 10) (.tmp 33) (by rfl) 85 rfl cQ (by rfl) (by rfl) (by rw[fx.o];rfl) fC.o gb.o ?_;rintro V2 hV hb;have HQ:=I hV;have NQ:=I (Z.o.st.fresh (Nat.le_refl V.heap.size));replace Z:=I (Z.o.below hb);replace HR:=I (HR.o.below hb);replace SB:=I (SB.o.below hb);replace SA:=I (SA.o.below hb);clear hV hb fx fC gb)
     |fail)
    clear HM NM fz eP;obtain⟨PQ,fS⟩:=Ak (V.heap.size);rw[<-fS] at HQ NQ⊢;clear fS;have fR:=(fh.o V2 _ HQ.o).1;have fZ:=(fh.o V2 _ HQ.o).2.1;have et:V2.cell? ⟨p.a,0,none⟩=some (.string ⟨p.P.1.toArray⟩):=Z.o.st.blk.cell 0;have ei:V2.cell? ⟨p.a,1,none⟩=some (.string ⟨p.P.2.toArray⟩):=Z.o.st.blk.cell 1;have E1:=I ((show lokA p.P p.T (its es) q now=(if q.t.s=p.P then (if (shwL (its es) q.t now).1=0 then lokB p.T p.P.1 (shwL (its es) q.t now).2 q.a else lk0 (shwL (its es) q.t now).1) else lk0 9) from rfl).symm.trans E0.o);clear E0
    by_cases hsv:q.t.s=p.P
    ·replace E1:=I ((if_pos hsv).symm.trans E1.o)
     have q1:=Dp hsv;clear hsv
     go_quiet (fail)
     have hd:=below_drewN (Below.refl V2.heap.size V2) nq;replace Z:=I (Z.o.below hd);replace HR:=I (HR.o.below hd);replace HQ:=I (HQ.o.below hd);replace SB:=I (SB.o.below hd);replace SA:=I (SA.o.below hd);clear hd fR fZ et ei q1;generalize V2.drewN nq=V3 at Z HR HQ SB SA⊢
     go_upto_region 9 with fail
     obtain⟨eX,eU⟩:=Ak ((#[.string ⟨q.t.s.1.toArray⟩,.string ⟨q.t.s.2.toArray⟩,.int .i64 q.t.k,bv]:Array Value));have fE:=I (fun(w1:World) (hb:Blk w1 PQ 85 cQ)=>(show w1.rangeAt PQ 0 eX.toList from fun j v hv=>by
      obtain⟨g0,g1,g2,g3,_⟩:=fh.o w1 PQ hb;rw[eU] at hv
      match j,hv with
      |0,hv=>injection hv with hv;subst hv;exact g0
      |1,hv=>injection hv with hv;subst hv;exact g1
      |2,hv=>injection hv with hv;subst hv;exact g2
      |3,hv=>injection hv with hv;subst hv;exact g3
      |j+4,hv=>simp at hv))
     have fX:=I (show(Tryz.prog.info? 83).map (·.size)=some eX.size by rw[eU];exact dX);obtain⟨ke,P,cu⟩:∃a b,shwL (its es) q.t now=(a,b):=⟨_,_,rfl⟩;have ea:=I (show P.ss.length=32/\(ke=0->ptB P=true) by have:=MZ (its es) q.t now;rw[cu] at this;exact this);replace E1:=I (show(if ke=0 then lokB p.T p.P.1 P q.a else lk0 ke)=r by have:=E1.o;rw[cu] at this;exact this);have CS:=I (fun(w1:World) (h1:AD w1 B p es u on st l n m c) (hs:SlH w9.heap.size p es u w1 bv q.t.b)=>(show Calls Tryz.prog 87 #[.pointer (some ⟨p.r,0,none⟩),.agg eX,.int .i64 now] w1 fun e w'=>∃es',e=.returned (.tuple #[.agg (ptA P),.int .i64 ke])/\its es'=its es/\es'.length=es.length/\Av w1 w' B p es u es' u on st l n m (c+1) by
      have hh:=aV (t:=q.t) (now:=now) h1.rs (by have:=HC.o;omega) HL.o HN.o.1 HN.o.2 hs.rs;rw[cu] at hh;rw[eU];refine hh.mono ?_;rintro e w' ⟨es',s',rfl,hk⟩;exact⟨es',rfl,Ox hk.eq,Uj hk.eq,Av.of_rn h1 hk.drop⟩))
     clear cu eU;obtain⟨cP,eY⟩:=Ak (ptA P);have fD:=I (show cP.size=37 by rw[eY];exact FY ea.o.1);have fb:=I (show(Tryz.prog.info? 31).map (·.size)=some cP.size by rw[eY];exact Ii ea.o.1);have fA:=I (show cP.all (·.oneCell')=true by rw[eY];exact JM _);have EP:=I eY;rw[<-eY] at CS;clear eY
     go_cut [9,11] from 43 to 53 (fun ev pv wx=>∃(PT:Nat) (cd:List Ent),ev=.int .i64 ke/\pv=.pointer (some ⟨PT,0,none⟩)/\w.heap.size<PT/\its cd=its es/\cd.length=es.length/\Blk wx PT 31 cP/\¬AA p cd u PT/\Blk wx w.heap.size 54 zz/\¬AA p cd u w.heap.size/\Blk wx PQ 85 cQ/\¬AA p cd u PQ/\SlH w9.heap.size p cd u wx av q.a/\Av w wx B p es u cd u on st l n m (c+1))
     case first=>
      have bB:Below V3.heap.size V3 V3.drew:=below_drewN Ah 1;replace Z:=I (Z.o.below bB);replace HR:=I (HR.o.below bB);replace HQ:=I (HQ.o.below bB);replace SB:=I (SB.o.below bB);replace SA:=I (SA.o.below bB);clear bB;refine Reg.BR (fun w'=>Blk w' PQ 85 cQ/\w'.cell? ⟨p.a,5,none⟩=some (.pointer (some ⟨p.r,0,none⟩))) 14 rfl (by kernel_rfl) ⟨HQ.o,(Z.o).st.blk.cell 5⟩ ?_;refine Reg.ty 0 rfl ⟨HQ.o,(Z.o).st.blk.cell 5⟩ ?_;refine Reg.ty 1 rfl ⟨HQ.o,(Z.o).st.blk.cell 5⟩ ?_;refine Reg.ty 2 rfl ⟨HQ.o,(Z.o).st.blk.cell 5⟩ ?_;refine Reg.tw 3 (v:=.pointer (some ⟨p.r,0,none⟩)) rfl ⟨HQ.o,(Z.o).st.blk.cell 5⟩ (fun w' hS=>by obtain⟨hQ,gA⟩:=hS;go_simp<;>rfl) ?_;refine Reg.ty 4 rfl ⟨HQ.o,(Z.o).st.blk.cell 5⟩ ?_;refine Reg.tw 5 (v:=.agg eX) rfl ⟨HQ.o,(Z.o).st.blk.cell 5⟩ (fun w' hS=>by obtain⟨hQ,gA⟩:=hS;exact Rg.Fk (.tmp 48) rfl rfl (fE.o _ hQ) Tryz.underlying83 rfl fX.o) ?_;refine Reg.ty 6 rfl ⟨HQ.o,(Z.o).st.blk.cell 5⟩ ?_;refine Reg.b2 7 11 ?_ ?_
      ·right
       refine⟨_,_,_,_,_,_,87,#[.pointer (some ⟨p.r,0,none⟩),.agg eX,.int .i64 now],rfl,by rfl,(by go_simp<;>first | rfl | exact⟨rfl,rfl⟩),?_⟩;refine Calls.mono (CS.o _ Z.o.st SB.o) ?_;rintro e cr ⟨cd,rfl,hit,cq,hk⟩;have aw:=hk.blk HR.o (fun x=>NR.o (.inl x));replace NR:=I (hk.notA NR.o HR.o.lt);replace HR:=I aw;clear aw;have aw:=hk.blk HQ.o (fun x=>NQ.o (.inl x));replace NQ:=I (hk.notA NQ.o HQ.o.lt);replace HQ:=I aw;clear aw;replace SB:=I (SB.o.kn hk);replace SA:=I (SA.o.kn hk);replace Z:=I (Z.o.trans hk);have fc:=I hit;have fj:=I cq;clear hk hit cq CS;refine⟨_,rfl,⟨HQ.o,(Z.o).st.blk.cell 5⟩,?_⟩;simp only[Act.put,U,Aa,Ab];refine Reg.ty 8 rfl ⟨HQ.o,(Z.o).st.blk.cell 5⟩ ?_;refine Reg.ty 9 rfl ⟨HQ.o,(Z.o).st.blk.cell 5⟩ ?_;refine Reg.ty 10 rfl ⟨HQ.o,(Z.o).st.blk.cell 5⟩ ?_;refine Reg.b1 11 ?_
       left
       have hb:Below cr.heap.size cr (cr.alloc (.cells ptZ 31)):=Ah.alloc Ag _;have aw:=Blk.new cr 31 ptZ;have LR:=I HR.o.lt;have LT:=I Z.o.size;have NT:=I (Z.o.st.fresh (Nat.le_refl cr.heap.size));have bn:=I (Nat.ne_of_lt HR.o.lt);have bq:=I (Nat.ne_of_lt HQ.o.lt);have cM:=I SB.o.1;have cg:=I SA.o.1;refine⟨_,_,_,_,_,_,.pointer (some ⟨cr.heap.size,0,none⟩),cr.alloc (.cells ptZ 31),rfl,by rfl,(by go_simp<;>rfl),⟨(HQ.o.below hb),((Z.o.below hb)).st.blk.cell 5⟩,?_⟩;simp only[Act.put,U,Aa,Ab];obtain⟨gk,ep⟩:=Ak (cr.alloc (.cells ptZ 31));rw[<-ep] at hb aw⊢;clear ep;replace Z:=I (Z.o.below hb);replace HR:=I (HR.o.below hb);replace HQ:=I (HQ.o.below hb);replace SB:=I (SB.o.below hb);replace SA:=I (SA.o.below hb);have HT:=I aw;clear aw hb;obtain⟨PT,ct⟩:=Ak (cr.heap.size);rw[<-ct] at HT LT NT LR bn bq cM cg⊢;clear ct;refine Reg.BH 12 rfl (by kernel_rfl) (by rfl) PT 31 _ cP HT.o (by rfl) (by rfl) (by rw[fD.o];rfl) fb.o fA.o ?_;intro gq hV hg;replace HT:=I hV;replace Z:=I (Z.o.over LT.o NT.o hg);replace HR:=I (HR.o.grown hg (fun e=>by injection e with e;exact bn.o e.symm));replace HQ:=I (HQ.o.grown hg (fun e=>by injection e with e;exact bq.o e.symm));replace SB:=I (SB.o.over hg cM.o);replace SA:=I (SA.o.over hg cg.o);clear hV hg bn bq cM cg;refine⟨⟨HQ.o,(Z.o).st.blk.cell 5⟩,?_⟩;simp only[Act.put,U,Aa,Ab];have O:=I HT.o;have eK:=I NT.o;have cR:=I LR.o;clear HT NT LT LR;obtain⟨fM,cB⟩:=Ak (PT);rw[<-cB] at O eK cR⊢;clear cB;refine Reg.ty 13 rfl ⟨HQ.o,(Z.o).st.blk.cell 5⟩ ?_;refine wpAnyH_done (by kernel_rfl) ?_ _
       go_wp2_with fail
       go_meet
       exact⟨_,cd,rfl,rfl,cR.o,fc.o,fj.o,O.o,eK.o,HR.o,NR.o,HQ.o,NQ.o,SA.o,Z.o⟩
      ·left
       have hb:Below V3.drew.heap.size V3.drew (V3.drew.alloc (.cells ptZ 31)):=Ah.alloc Ag _;have aw:=Blk.new V3.drew 31 ptZ;have LR:=I HR.o.lt;have LT:=I Z.o.size;have NT:=I (Z.o.st.fresh (Nat.le_refl V3.drew.heap.size));have bn:=I (Nat.ne_of_lt HR.o.lt);have bq:=I (Nat.ne_of_lt HQ.o.lt);have cM:=I SB.o.1;have cg:=I SA.o.1;refine⟨_,_,_,_,_,_,.pointer (some ⟨V3.drew.heap.size,0,none⟩),V3.drew.alloc (.cells ptZ 31),rfl,by rfl,(by go_simp<;>rfl),⟨(HQ.o.below hb),((Z.o.below hb)).st.blk.cell 5⟩,?_⟩;simp only[Act.put,U,Aa,Ab];obtain⟨gh,ey⟩:=Ak (V3.drew.alloc (.cells ptZ 31));rw[<-ey] at hb aw⊢;clear ey;replace Z:=I (Z.o.below hb);replace HR:=I (HR.o.below hb);replace HQ:=I (HQ.o.below hb);replace SB:=I (SB.o.below hb);replace SA:=I (SA.o.below hb);have HT:=I aw;clear aw hb;obtain⟨PT,ct⟩:=Ak (V3.drew.heap.size);rw[<-ct] at HT LT NT LR bn bq cM cg⊢;clear ct;refine Reg.b1 7 ?_
       right
       refine⟨_,_,_,_,_,_,87,#[.pointer (some ⟨p.r,0,none⟩),.agg eX,.int .i64 now],rfl,by rfl,(by go_simp<;>first | rfl | exact⟨rfl,rfl⟩),?_⟩;refine Calls.mono (CS.o _ Z.o.st SB.o) ?_;rintro e gM ⟨cd,rfl,hit,cq,hk⟩;have aw:=hk.blk HR.o (fun x=>NR.o (.inl x));replace NR:=I (hk.notA NR.o HR.o.lt);replace HR:=I aw;clear aw;have aw:=hk.blk HQ.o (fun x=>NQ.o (.inl x));replace NQ:=I (hk.notA NQ.o HQ.o.lt);replace HQ:=I aw;clear aw;have aw:=hk.blk HT.o (fun x=>NT.o (.inl x));replace NT:=I (hk.notA NT.o HT.o.lt);replace HT:=I aw;clear aw;replace SB:=I (SB.o.kn hk);replace SA:=I (SA.o.kn hk);replace Z:=I (Z.o.trans hk);have fc:=I hit;have fj:=I cq;clear hk hit cq CS;refine⟨_,rfl,⟨HQ.o,(Z.o).st.blk.cell 5⟩,?_⟩;simp only[Act.put,U,Aa,Ab];refine Reg.ty 8 rfl ⟨HQ.o,(Z.o).st.blk.cell 5⟩ ?_;refine Reg.ty 9 rfl ⟨HQ.o,(Z.o).st.blk.cell 5⟩ ?_;refine Reg.ty 10 rfl ⟨HQ.o,(Z.o).st.blk.cell 5⟩ ?_;refine Reg.BH 12 rfl (by kernel_rfl) (by rfl) PT 31 _ cP HT.o (by rfl) (by rfl) (by rw[fD.o];rfl) fb.o fA.o ?_;intro gx hV hg;replace HT:=I hV;replace Z:=I (Z.o.over LT.o NT.o hg);replace HR:=I (HR.o.grown hg (fun e=>by injection e with e;exact bn.o e.symm));replace HQ:=I (HQ.o.grown hg (fun e=>by injection e with e;exact bq.o e.symm));replace SB:=I (SB.o.over hg cM.o);replace SA:=I (SA.o.over hg cg.o);clear hV hg bn bq cM cg;refine⟨⟨HQ.o,(Z.o).st.blk.cell 5⟩,?_⟩;simp only[Act.put,U,Aa,Ab];have O:=I HT.o;have eK:=I NT.o;have cR:=I LR.o;clear HT NT LT LR;obtain⟨fM,cB⟩:=Ak (PT);rw[<-cB] at O eK cR⊢;clear cB;refine Reg.ty 13 rfl ⟨HQ.o,(Z.o).st.blk.cell 5⟩ ?_;refine wpAnyH_done (by kernel_rfl) ?_ _
       go_wp2_with fail
       go_meet
       exact⟨_,cd,rfl,rfl,cR.o,fc.o,fj.o,O.o,eK.o,HR.o,NR.o,HQ.o,NQ.o,SA.o,Z.o⟩
     case rest=>
      obtain⟨PT,cd,rfl,rfl,fY,hit,cq,fg,fm,hr,nr,hq,nq,sa,hk⟩:=hcut;have fF:=I fY;have fc:=I hit;have fj:=I cq;have O:=I fg;have cn:=I fm;replace HR:=I hr;replace NR:=I nr;replace HQ:=I hq;replace NQ:=I nq;replace SA:=I sa;replace Z:=I hk;clear fY hit cq fg fm hr nr hq nq sa hk CS SB fE fX fD fA
      by_cases hke:ke=0
      ·replace E1:=I ((if_pos hke).symm.trans E1.o)
       have gD:=I (ea.o.2 hke);have t1:(ke != 0)=false:=by rw[hke];rfl
       clear hke
       go_upto_region 12 with fail
       clear t1;have E2:=I ((show lokB p.T p.P.1 P q.a=(if (athL P.ss q.a 11 P.c).1=0 then lokC p.T p.P.1 P (athL P.ss q.a 11 P.c).2 else lk0 (athL P.ss q.a 11 P.c).1) from rfl).symm.trans E1.o);clear E1;obtain⟨xe,x,cu⟩:∃a b,athL P.ss q.a 11 P.c=(a,b):=⟨_,_,rfl⟩;have gH:=I (show xe=0->anB x=true by have:=US P.ss q.a 11 P.c;rw[cu] at this;exact this);replace E2:=I (show(if xe=0 then lokC p.T p.P.1 P x else lk0 xe)=r by have:=E2.o;rw[cu] at this;exact this);obtain⟨cK,fl⟩:=Ak (keyA P.ss);have eV:=I (fun(w1:World) (hb:Blk w1 PT 31 cP)=>(show w1.rangeAt PT 2 cK.toList/\w1.cell? ⟨PT,0,none⟩=some (.string ⟨P.c.1.toArray⟩)/\w1.cell? ⟨PT,1,none⟩=some (.string ⟨P.c.2.toArray⟩) by rw[EP.o] at hb;rw[fl];exact⟨ML ea.o.1 hb,pt_0 hb,pt_1 hb⟩));have fL:=I (show(Tryz.prog.info? 29).map (·.size)=some cK.size by rw[fl];exact IT ea.o.1);have CN:=I (fun(w1:World)=>(show Calls Tryz.prog 69 #[.agg cK] w1 fun e w'=>∃b,e=.returned (.pointer (some ⟨b,0,none⟩))/\w1.heap.size<=b/\Box w' b (ksOf P.ss) none 0 0 0/\Below w1.heap.size w1 w' by rw[fl,show keyA P.ss=Be (ksOf P.ss) from(Ov ea.o.1).symm];exact Se.Hx (ksOf P.ss) w1));have CA:=I (fun(w1:World) (bx:Nat) (h1:AD w1 B p cd u on st l n m (c+1)) (eT:Box w1 bx (ksOf P.ss) none 0 0 0) (hn:¬AA p cd u bx) (hB:B<=bx) (hN:w9.heap.size<=bx) (hs:SlH w9.heap.size p cd u w1 av q.a)=>(show Calls Tryz.prog 88 #[.pointer (some ⟨bx,0,none⟩),.int .i64 11,av,Kd.prV P.c] w1 fun e w'=>∃es2 s2,e=.returned (.tuple #[.agg (anA x),.int .i64 xe])/\its es2=its cd/\es2.length=cd.length/\Rn w1 w' B p.r p.v cd (some ⟨bx,ksOf P.ss,none,0,0,0⟩) es2 s2 (c+2) by
        have hh:=aW (cl:=P.c) (u:=11) (h1.rsb eT (fun y=>hn (.inl y)) hB) (by have:=HC.o;omega) (.inr ⟨_,rfl,rfl,rfl⟩) (by decide) (by decide) (hs.rsb hN);rw[cu] at hh;refine hh.mono ?_;rintro e w' ⟨es',s',rfl,hk⟩;exact⟨es',s',rfl,Ox hk.eq,Uj hk.eq,hk⟩))
       have gK:=I fl;clear cu fl;obtain⟨cA,ff⟩:=Ak (anA x);rw[<-ff] at CA;have fo:=I (show cA.size=4 by rw[ff];rfl);have fi:=I (show(Tryz.prog.info? 33).map (·.size)=some cA.size by rw[fo.o];exact MY);have fr:=I (show cA.all (·.oneCell')=true by rw[ff];exact Rp.Oz x);have EA:=I ff;clear ff
       go_cut [9,12] from 58 to 68 (fun ev pv wx=>∃(PA:Nat) (es2:List Ent),ev=.int .i64 xe/\pv=.pointer (some ⟨PA,0,none⟩)/\w.heap.size<PA/\Blk wx PT 31 cP/\¬AA p es2 u PT/\Blk wx PA 33 cA/\¬AA p es2 u PA/\Blk wx w.heap.size 54 zz/\¬AA p es2 u w.heap.size/\Av w wx B p es u es2 u on st l n m (c+2))
       case first=>
        have bB:Below wc.heap.size wc wc.drew:=below_drewN Ah 1;replace Z:=I (Z.o.below bB);replace HR:=I (HR.o.below bB);replace HQ:=I (HQ.o.below bB);replace O:=I (O.o.below bB);replace SA:=I (SA.o.below bB);clear bB;refine Reg.BR (fun w'=>Blk w' PT 31 cP/\Blk w' PQ 85 cQ) 14 rfl (by kernel_rfl) ⟨O.o,HQ.o⟩ ?_;refine Reg.ty 0 rfl ⟨O.o,HQ.o⟩ ?_;refine Reg.tw 1 (v:=.agg cK) rfl ⟨O.o,HQ.o⟩ (fun w' hS=>by obtain⟨hP,hQ⟩:=hS;exact Rg.Fk (.tmp 59) rfl rfl (eV.o _ hP).1 Tryz.underlying29 rfl fL.o) ?_;refine Reg.ty 3 rfl ⟨O.o,HQ.o⟩ ?_;refine Reg.tw 4 (v:=av) rfl ⟨O.o,HQ.o⟩ (fun w' hS=>by obtain⟨hP,hQ⟩:=hS;have q4:=(fh.o _ _ hQ).2.2.2.2;go_simp<;>rfl) ?_;refine Reg.ty 5 rfl ⟨O.o,HQ.o⟩ ?_;refine Reg.tw 6 (v:=Kd.prV P.c) rfl ⟨O.o,HQ.o⟩ (fun w' hS=>by obtain⟨hP,hQ⟩:=hS;have p0:=(eV.o _ hP).2.1;have p1:=(eV.o _ hP).2.2;go_simp<;>rfl) ?_;refine Reg.b2 2 11 ?_ ?_
        ·right
         refine⟨_,_,_,_,_,_,69,#[.agg cK],rfl,by rfl,(by go_simp<;>first | rfl | exact⟨rfl,rfl⟩),?_⟩;refine Calls.mono (CN.o _) ?_;rintro e cb ⟨bx,rfl,cc,eT,hb⟩;have eR:=I (Z.o.st.fresh cc);have fs:=I (Nat.le_trans Z.o.size cc);have fp:=I (Nat.le_trans Z.o.st.hB cc);have ft:=I (Nat.le_trans SA.o.1 cc);have cx:=I (Nat.ne_of_lt (Nat.lt_of_lt_of_le HR.o.lt cc));have cy:=I (Nat.ne_of_lt (Nat.lt_of_lt_of_le HQ.o.lt cc));have cp:=I (Nat.ne_of_lt (Nat.lt_of_lt_of_le O.o.lt cc));replace Z:=I (Z.o.below hb);replace HR:=I (HR.o.below hb);replace HQ:=I (HQ.o.below hb);replace O:=I (O.o.below hb);replace SA:=I (SA.o.below hb);have cY:=I eT;clear eT hb cc CN;refine⟨_,rfl,⟨O.o,HQ.o⟩,?_⟩;simp only[Act.put,U,Aa,Ab];refine Reg.b2 7 11 ?_ ?_
         ·right
          refine⟨_,_,_,_,_,_,88,#[.pointer (some ⟨bx,0,none⟩),.int .i64 11,av,Kd.prV P.c],rfl,by rfl,(by go_simp<;>first | rfl | exact⟨rfl,rfl⟩),?_⟩;refine Calls.mono (CA.o _ bx Z.o.st cY.o eR.o fp.o ft.o SA.o) ?_;rintro e ca ⟨es2,s2,rfl,hit,cq,hk⟩;have aw:=DW hk HR.o NR.o cx.o;replace NR:=I (DX hk NR.o cx.o HR.o.lt);replace HR:=I aw;clear aw;have aw:=DW hk HQ.o NQ.o cy.o;replace NQ:=I (DX hk NQ.o cy.o HQ.o.lt);replace HQ:=I aw;clear aw;have aw:=DW hk O.o cn.o cp.o;replace cn:=I (DX hk cn.o cp.o O.o.lt);replace O:=I aw;clear aw;replace Z:=I (Z.o.of_rsb fs.o eR.o hk);clear hk hit cq CA SA cY;refine⟨_,rfl,⟨O.o,HQ.o⟩,?_⟩;simp only[Act.put,U,Aa,Ab];refine Reg.ty 8 rfl ⟨O.o,HQ.o⟩ ?_;refine Reg.ty 9 rfl ⟨O.o,HQ.o⟩ ?_;refine Reg.ty 10 rfl ⟨O.o,HQ.o⟩ ?_;refine Reg.b1 11 ?_
          left
          have hb:Below ca.heap.size ca (ca.alloc (.cells anZ 33)):=Ah.alloc Ag _;have aw:=Blk.new ca 33 anZ;have LR:=I HR.o.lt;have LT:=I Z.o.size;have NT:=I (Z.o.st.fresh (Nat.le_refl ca.heap.size));have bn:=I (Nat.ne_of_lt HR.o.lt);have bq:=I (Nat.ne_of_lt HQ.o.lt);have bz:=I (Nat.ne_of_lt O.o.lt);refine⟨_,_,_,_,_,_,.pointer (some ⟨ca.heap.size,0,none⟩),ca.alloc (.cells anZ 33),rfl,by rfl,(by go_simp<;>rfl),⟨(O.o.below hb),(HQ.o.below hb)⟩,?_⟩;simp only[Act.put,U,Aa,Ab];obtain⟨gl,ef⟩:=Ak (ca.alloc (.cells anZ 33));rw[<-ef] at hb aw⊢;clear ef;replace Z:=I (Z.o.below hb);replace HR:=I (HR.o.below hb);replace HQ:=I (HQ.o.below hb);replace O:=I (O.o.below hb);have HT:=I aw;clear aw hb;obtain⟨PT,ct⟩:=Ak (ca.heap.size);rw[<-ct] at HT LT NT LR bn bq bz⊢;clear ct;refine Reg.BH 12 rfl (by kernel_rfl) (by rfl) PT 33 _ cA HT.o (by rfl) (by rfl) (by rw[fo.o];rfl) fi.o fr.o ?_;intro gr hV hg;replace HT:=I hV;replace Z:=I (Z.o.over LT.o NT.o hg);replace HR:=I (HR.o.grown hg (fun e=>by injection e with e;exact bn.o e.symm));replace HQ:=I (HQ.o.grown hg (fun e=>by injection e with e;exact bq.o e.symm));replace O:=I (O.o.grown hg (fun e=>by injection e with e;exact bz.o e.symm));clear hV hg bn bq bz;refine⟨⟨O.o,HQ.o⟩,?_⟩;simp only[Act.put,U,Aa,Ab];have bb:=I HT.o;have cw:=I NT.o;have cf:=I LR.o;clear HT NT LT LR;obtain⟨fv,cj⟩:=Ak (PT);rw[<-cj] at bb cw cf⊢;clear cj;refine Reg.ty 13 rfl ⟨O.o,HQ.o⟩ ?_;refine wpAnyH_done (by kernel_rfl) ?_ _
          go_wp2_with fail
          go_meet
          exact⟨_,es2,rfl,rfl,cf.o,O.o,cn.o,bb.o,cw.o,HR.o,NR.o,Z.o⟩
         ·left
          have hb:Below cb.heap.size cb (cb.alloc (.cells anZ 33)):=Ah.alloc Ag _;have aw:=Blk.new cb 33 anZ;have LR:=I HR.o.lt;have LT:=I Z.o.size;have NT:=I (Z.o.st.fresh (Nat.le_refl cb.heap.size));have bn:=I (Nat.ne_of_lt HR.o.lt);have bq:=I (Nat.ne_of_lt HQ.o.lt);have bz:=I (Nat.ne_of_lt O.o.lt);have cg:=I SA.o.1;have gf:=I (Nat.ne_of_lt cY.o.lt);refine⟨_,_,_,_,_,_,.pointer (some ⟨cb.heap.size,0,none⟩),cb.alloc (.cells anZ 33),rfl,by rfl,(by go_simp<;>rfl),⟨(O.o.below hb),(HQ.o.below hb)⟩,?_⟩;simp only[Act.put,U,Aa,Ab];obtain⟨gj,eJ⟩:=Ak (cb.alloc (.cells anZ 33));rw[<-eJ] at hb aw⊢;clear eJ;replace Z:=I (Z.o.below hb);replace HR:=I (HR.o.below hb);replace HQ:=I (HQ.o.below hb);replace O:=I (O.o.below hb);replace SA:=I (SA.o.below hb);replace cY:=I (cY.o.below hb);have HT:=I aw;clear aw hb;obtain⟨PT,ct⟩:=Ak (cb.heap.size);rw[<-ct] at HT LT NT LR bn bq bz cg gf⊢;clear ct;have ec:=I (show PT≠bx from fun e=>gf.o e.symm);refine Reg.b1 7 ?_
          right
          refine⟨_,_,_,_,_,_,88,#[.pointer (some ⟨bx,0,none⟩),.int .i64 11,av,Kd.prV P.c],rfl,by rfl,(by go_simp<;>first | rfl | exact⟨rfl,rfl⟩),?_⟩;refine Calls.mono (CA.o _ bx Z.o.st cY.o eR.o fp.o ft.o SA.o) ?_;rintro e gE ⟨es2,s2,rfl,hit,cq,hk⟩;have aw:=DW hk HR.o NR.o cx.o;replace NR:=I (DX hk NR.o cx.o HR.o.lt);replace HR:=I aw;clear aw;have aw:=DW hk HQ.o NQ.o cy.o;replace NQ:=I (DX hk NQ.o cy.o HQ.o.lt);replace HQ:=I aw;clear aw;have aw:=DW hk O.o cn.o cp.o;replace cn:=I (DX hk cn.o cp.o O.o.lt);replace O:=I aw;clear aw;have aw:=DW hk HT.o NT.o ec.o;replace NT:=I (DX hk NT.o ec.o HT.o.lt);replace HT:=I aw;clear aw;replace Z:=I (Z.o.of_rsb fs.o eR.o hk);clear hk hit cq CA SA cY;refine⟨_,rfl,⟨O.o,HQ.o⟩,?_⟩;simp only[Act.put,U,Aa,Ab];refine Reg.ty 8 rfl ⟨O.o,HQ.o⟩ ?_;refine Reg.ty 9 rfl ⟨O.o,HQ.o⟩ ?_;refine Reg.ty 10 rfl ⟨O.o,HQ.o⟩ ?_;refine Reg.BH 12 rfl (by kernel_rfl) (by rfl) PT 33 _ cA HT.o (by rfl) (by rfl) (by rw[fo.o];rfl) fi.o fr.o ?_;intro gF hV hg;replace HT:=I hV;replace Z:=I (Z.o.over LT.o NT.o hg);replace HR:=I (HR.o.grown hg (fun e=>by injection e with e;exact bn.o e.symm));replace HQ:=I (HQ.o.grown hg (fun e=>by injection e with e;exact bq.o e.symm));replace O:=I (O.o.grown hg (fun e=>by injection e with e;exact bz.o e.symm));clear hV hg bn bq bz;refine⟨⟨O.o,HQ.o⟩,?_⟩;simp only[Act.put,U,Aa,Ab];have bb:=I HT.o;have cw:=I NT.o;have cf:=I LR.o;clear HT NT LT LR;obtain⟨fv,cj⟩:=Ak (PT);rw[<-cj] at bb cw cf⊢;clear cj;refine Reg.ty 13 rfl ⟨O.o,HQ.o⟩ ?_;refine wpAnyH_done (by kernel_rfl) ?_ _
          go_wp2_with fail
          go_meet
          exact⟨_,es2,rfl,rfl,cf.o,O.o,cn.o,bb.o,cw.o,HR.o,NR.o,Z.o⟩
        ·left
         have hb:Below wc.drew.heap.size wc.drew (wc.drew.alloc (.cells anZ 33)):=Ah.alloc Ag _;have aw:=Blk.new wc.drew 33 anZ;have LR:=I HR.o.lt;have LT:=I Z.o.size;have NT:=I (Z.o.st.fresh (Nat.le_refl wc.drew.heap.size));have bn:=I (Nat.ne_of_lt HR.o.lt);have bq:=I (Nat.ne_of_lt HQ.o.lt);have bz:=I (Nat.ne_of_lt O.o.lt);have cg:=I SA.o.1;refine⟨_,_,_,_,_,_,.pointer (some ⟨wc.drew.heap.size,0,none⟩),wc.drew.alloc (.cells anZ 33),rfl,by rfl,(by go_simp<;>rfl),⟨(O.o.below hb),(HQ.o.below hb)⟩,?_⟩;simp only[Act.put,U,Aa,Ab];obtain⟨gi,eE⟩:=Ak (wc.drew.alloc (.cells anZ 33));rw[<-eE] at hb aw⊢;clear eE;replace Z:=I (Z.o.below hb);replace HR:=I (HR.o.below hb);replace HQ:=I (HQ.o.below hb);replace O:=I (O.o.below hb);replace SA:=I (SA.o.below hb);have HT:=I aw;clear aw hb;obtain⟨PT,ct⟩:=Ak (wc.drew.heap.size);rw[<-ct] at HT LT NT LR bn bq bz cg⊢;clear ct;refine Reg.b1 2 ?_
         right
         refine⟨_,_,_,_,_,_,69,#[.agg cK],rfl,by rfl,(by go_simp<;>first | rfl | exact⟨rfl,rfl⟩),?_⟩;refine Calls.mono (CN.o _) ?_;rintro e gC ⟨bx,rfl,cc,eT,hb⟩;have eR:=I (Z.o.st.fresh cc);have fs:=I (Nat.le_trans Z.o.size cc);have fp:=I (Nat.le_trans Z.o.st.hB cc);have ft:=I (Nat.le_trans SA.o.1 cc);have cx:=I (Nat.ne_of_lt (Nat.lt_of_lt_of_le HR.o.lt cc));have cy:=I (Nat.ne_of_lt (Nat.lt_of_lt_of_le HQ.o.lt cc));have cp:=I (Nat.ne_of_lt (Nat.lt_of_lt_of_le O.o.lt cc));have ec:=I (Nat.ne_of_lt (Nat.lt_of_lt_of_le HT.o.lt cc));replace Z:=I (Z.o.below hb);replace HR:=I (HR.o.below hb);replace HQ:=I (HQ.o.below hb);replace O:=I (O.o.below hb);replace SA:=I (SA.o.below hb);replace HT:=I (HT.o.below hb);have cY:=I eT;clear eT hb cc CN;refine⟨_,rfl,⟨O.o,HQ.o⟩,?_⟩;simp only[Act.put,U,Aa,Ab];refine Reg.b1 7 ?_
         right
         refine⟨_,_,_,_,_,_,88,#[.pointer (some ⟨bx,0,none⟩),.int .i64 11,av,Kd.prV P.c],rfl,by rfl,(by go_simp<;>first | rfl | exact⟨rfl,rfl⟩),?_⟩;refine Calls.mono (CA.o _ bx Z.o.st cY.o eR.o fp.o ft.o SA.o) ?_;rintro e gu ⟨es2,s2,rfl,hit,cq,hk⟩;have aw:=DW hk HR.o NR.o cx.o;replace NR:=I (DX hk NR.o cx.o HR.o.lt);replace HR:=I aw;clear aw;have aw:=DW hk HQ.o NQ.o cy.o;replace NQ:=I (DX hk NQ.o cy.o HQ.o.lt);replace HQ:=I aw;clear aw;have aw:=DW hk O.o cn.o cp.o;replace cn:=I (DX hk cn.o cp.o O.o.lt);replace O:=I aw;clear aw;have aw:=DW hk HT.o NT.o ec.o;replace NT:=I (DX hk NT.o ec.o HT.o.lt);replace HT:=I aw;clear aw;replace Z:=I (Z.o.of_rsb fs.o eR.o hk);clear hk hit cq CA SA cY;refine⟨_,rfl,⟨O.o,HQ.o⟩,?_⟩;simp only[Act.put,U,Aa,Ab];refine Reg.ty 8 rfl ⟨O.o,HQ.o⟩ ?_;refine Reg.ty 9 rfl ⟨O.o,HQ.o⟩ ?_;refine Reg.ty 10 rfl ⟨O.o,HQ.o⟩ ?_;refine Reg.BH 12 rfl (by kernel_rfl) (by rfl) PT 33 _ cA HT.o (by rfl) (by rfl) (by rw[fo.o];rfl) fi.o fr.o ?_;intro gp hV hg;replace HT:=I hV;replace Z:=I (Z.o.over LT.o NT.o hg);replace HR:=I (HR.o.grown hg (fun e=>by injection e with e;exact bn.o e.symm));replace HQ:=I (HQ.o.grown hg (fun e=>by injection e with e;exact bq.o e.symm));replace O:=I (O.o.grown hg (fun e=>by injection e with e;exact bz.o e.symm));clear hV hg bn bq bz;refine⟨⟨O.o,HQ.o⟩,?_⟩;simp only[Act.put,U,Aa,Ab];have bb:=I HT.o;have cw:=I NT.o;have cf:=I LR.o;clear HT NT LT LR;obtain⟨fv,cj⟩:=Ak (PT);rw[<-cj] at bb cw cf⊢;clear cj;refine Reg.ty 13 rfl ⟨O.o,HQ.o⟩ ?_;refine wpAnyH_done (by kernel_rfl) ?_ _
         go_wp2_with fail
         go_meet
         exact⟨_,es2,rfl,rfl,cf.o,O.o,cn.o,bb.o,cw.o,HR.o,NR.o,Z.o⟩
       case rest=>
        obtain⟨PA,es2,rfl,rfl,fJ,fg,fm,fW,fV,hr,nr,hk⟩:=hcut;have fI:=I (show w.heap.size≠PT/\w.heap.size≠PA from⟨Nat.ne_of_lt fF.o,Nat.ne_of_lt fJ⟩);replace O:=I fg;replace cn:=I fm;have bb:=I fW;have fU:=I fV;replace HR:=I hr;replace NR:=I nr;replace Z:=I hk;clear fJ fF fg fm fW fV hr nr hk CN CA SA HQ NQ fh fr fc fj
        by_cases hxe:xe=0
        ·replace E2:=I ((if_pos hxe).symm.trans E2.o)
         have gJ:=I (gH.o hxe);have t1:(xe != 0)=false:=by rw[hxe];rfl
         clear hxe;have fH:=Ms.Dw gD.o;have gL:=Ms.GU fH.2.1;have fq:=an_tm gJ.o;have E3:=I ((show lokC p.T p.P.1 P x=(if (pasL p.T p.P.1 P).1=0 then ⟨0,P,x,(pasL p.T p.P.1 P).2⟩ else lk0 (pasL p.T p.P.1 P).1) from rfl).symm.trans E2.o);clear E2;obtain⟨ye,ls,cu⟩:∃a b,pasL p.T p.P.1 P=(a,b):=⟨_,_,rfl⟩;replace E3:=I (show(if ye=0 then ⟨0,P,x,ls⟩ else lk0 ye)=r by have:=E3.o;rw[cu] at this;exact this);obtain⟨nl,fB⟩:=Ak (ls.length);have CQ:=I (fun(w1:World) (h1:AD w1 B p es2 u on st l n m (c+2))=>(show Calls Tryz.prog 89 #[.pointer (some ⟨p.a,0,none⟩),.agg cP] w1 fun e w'=>∃A c',e=.returned (.tuple #[.slice A nl c',.int .i64 ye])/\Own w' w1.heap.size (.slice A nl c') ls/\Below w1.heap.size w1 w' by
          have hh:=aA (P:=P) h1 gv.o ea.o.1 (by omega) (by omega) gz.o.1;rw[cu] at hh;rw[EP.o];refine hh.mono ?_;rintro e w' ⟨v,rfl,ho,hb⟩;obtain⟨A,c',rfl,_⟩:=ho.slice;rw[<-fB] at ho;rw[<-fB];exact⟨A,c',rfl,ho,hb⟩))
         have CW:=I (fun(w1:World) (h1:AD w1 B p es2 u on st l n m (c+2))=>(show Calls Tryz.prog 90 #[.pointer (some ⟨p.a,0,none⟩),.agg cA,.int .i64 now] w1 fun e w'=>e=.returned (.int .i64 (seeE on st l x now))/\∃u',Av w1 w' B p es2 u es2 u' on st (seeL on st l x now) n m (c+2) by
          rw[EA.o];exact Up h1 gG.o fq.1 ⟨HN.o.1,by have:=HN.o.2;omega⟩ (by have:=fq.2;omega) (by have:=fq.2;omega) gy.o))
         clear cu fB fH gL fq
         by_cases hye:ye=0
         ·replace E3:=I ((if_pos hye).symm.trans E3.o)
          have t2:(ye != 0)=false:=by rw[hye];rfl
          clear hye;obtain⟨k,ek⟩:=Ak (seeE on st l x now);obtain⟨l',el⟩:=Ak (seeL on st l x now);rw[<-ek,<-el] at CW;have eb:=I (show r.e=0/\r.p=P/\r.a=x/\r.l=ls by rw[<-E3.o];exact⟨rfl,rfl,rfl,rfl⟩);have fK:=I (show seeE on st l r.a now=k by rw[eb.o.2.2.1,ek]);have ga:=I (show seeL on st l r.a now=l' by rw[eb.o.2.2.1,el]);clear ek el E3
          by_cases hk0:k=0
          ·subst hk0
           go_upto_region 21 with(first
            |(refine Wh.AF (by rfl) 31 (.tmp 11) (by rfl) PT 0 (by rfl) cP _ (Wh.Ad O.o) Tryz.underlying31 (by rfl) fb.o ?_)
            |(go_at_call 89;refine Calls.mono (CQ.o _ Z.o.st) ?_;rintro e w6 ⟨A6,c6,rfl,ho,hb⟩;clear CQ;have fw:=I (fun k (hk:(Value.slice A6 nl c6).ownBlock=some k) (e:k=w.heap.size)=>(show False by have:=(ho.lt k hk).1;have:=HR.o.lt;omega));have HO:=I (ho.from_ Z.o.size:Own w6 w.heap.size (.slice A6 nl c6) ls);have NO:=I (fun k (hk:(Value.slice A6 nl c6).ownBlock=some k) (hx:AO p es2 u k)=>(show False by have:=(ho.lt k hk).1;have:=Z.o.st.ao_lt hx;omega));replace Z:=I (Z.o.below hb);replace HR:=I (HR.o.below hb);replace O:=I (O.o.below hb);replace bb:=I (bb.o.below hb);clear ho hb)
            |(refine Wh.AF (by rfl) 33 (.tmp 12) (by rfl) PA 0 (by rfl) cA _ (Wh.Ad bb.o) Tryz.underlying33 (by rfl) fi.o ?_)
            |(go_at_call 90;refine Aj (CW.o _ Z.o.st) ?_;rintro w7 ⟨u',hk⟩;clear CW;have aw:=hk.blk HR.o (fun y=>NR.o (.inl y));replace NR:=I (hk.notA NR.o HR.o.lt);replace HR:=I aw;clear aw;have aw:=hk.blk O.o (fun y=>cn.o (.inl y));replace O:=I aw;clear aw;have aw:=hk.blk bb.o (fun y=>fU.o (.inl y));replace bb:=I aw;clear aw;have eF:=Rg.Bt hk.chg HO.o (fun k cT=>NO.o k cT);replace NO:=I (fun k (cT:(Value.slice A6 nl c6).ownBlock=some k)=>hk.not (NO.o k cT) (HO.o.lt k cT).2);replace HO:=I (show Own w7 w.heap.size (.slice A6 nl c6) ls from eF);replace Z:=I (Z.o.trans hk);clear hk eF)
            |fail)
           obtain⟨cX,fk⟩:=Ak (acA ⟨P.c,p.P,P.ss,ls,x.t,x.q⟩ (.slice A6 nl c6));have gI:=I (show Tryz.prog.built 54 [(0,Kd.prV P.c),(1,Kd.prV p.P),(2,.agg cK),(3,.slice A6 nl c6),(4,.int .i64 x.t),(5,.int .i64 x.q)]=some cX by rw[fk,gK.o];exact Xw ea.o.1 _ _ _ _ _ _ _ _);have gd:=I (show cX.size=39 by rw[fk];exact Hm ea.o.1 _);have gg:=I (show(Tryz.prog.info? 54).map (·.size)=some cX.size by rw[gd.o];exact Na);have gn:=I (show cX.all (·.oneCell')=true by rw[fk];exact JU _ rfl);have EX:=I fk;clear fk;have fO:=I (fun(w1:World) (hb:Blk w1 PA 33 cA)=>(show w1.cell? ⟨PA,2,none⟩=some (.int .i64 x.t)/\w1.cell? ⟨PA,3,none⟩=some (.int .i64 x.q) by rw[EA.o] at hb;exact⟨hb.cell 2,hb.cell 3⟩));have bB:Below w7.heap.size w7 w7.drew:=below_drewN Ah 1;replace Z:=I (Z.o.below bB);replace HR:=I (HR.o.below bB);replace O:=I (O.o.below bB);replace bb:=I (bb.o.below bB);replace HO:=I (HO.o.below bB);clear bB;refine Reg.BR (fun w'=>Blk w' PT 31 cP/\Blk w' PA 33 cA/\w'.cell? ⟨p.a,0,none⟩=some (.string ⟨p.P.1.toArray⟩)/\w'.cell? ⟨p.a,1,none⟩=some (.string ⟨p.P.2.toArray⟩)) 17 rfl (by kernel_rfl) ⟨O.o,bb.o,(Z.o).st.blk.cell 0,(Z.o).st.blk.cell 1⟩ ?_;refine Reg.ty 0 rfl ⟨O.o,bb.o,(Z.o).st.blk.cell 0,(Z.o).st.blk.cell 1⟩ ?_;refine Reg.tw 1 (v:=Kd.prV P.c) rfl ⟨O.o,bb.o,(Z.o).st.blk.cell 0,(Z.o).st.blk.cell 1⟩ (fun w' hS=>by obtain⟨hP,hA,et,ei⟩:=hS;have p0:=(eV.o _ hP).2.1;have p1:=(eV.o _ hP).2.2;go_simp<;>rfl) ?_;refine Reg.ty 2 rfl ⟨O.o,bb.o,(Z.o).st.blk.cell 0,(Z.o).st.blk.cell 1⟩ ?_;refine Reg.ty 3 rfl ⟨O.o,bb.o,(Z.o).st.blk.cell 0,(Z.o).st.blk.cell 1⟩ ?_;refine Reg.ty 4 rfl ⟨O.o,bb.o,(Z.o).st.blk.cell 0,(Z.o).st.blk.cell 1⟩ ?_;refine Reg.tw 5 (v:=Kd.prV p.P) rfl ⟨O.o,bb.o,(Z.o).st.blk.cell 0,(Z.o).st.blk.cell 1⟩ (fun w' hS=>by obtain⟨hP,hA,et,ei⟩:=hS;go_simp<;>rfl) ?_;refine Reg.ty 7 rfl ⟨O.o,bb.o,(Z.o).st.blk.cell 0,(Z.o).st.blk.cell 1⟩ ?_;refine Reg.tw 8 (v:=.agg cK) rfl ⟨O.o,bb.o,(Z.o).st.blk.cell 0,(Z.o).st.blk.cell 1⟩ (fun w' hS=>by obtain⟨hP,hA,et,ei⟩:=hS;exact Rg.Fk (.tmp 98) rfl rfl (eV.o _ hP).1 Tryz.underlying29 rfl fL.o) ?_;refine Reg.ty 9 rfl ⟨O.o,bb.o,(Z.o).st.blk.cell 0,(Z.o).st.blk.cell 1⟩ ?_;refine Reg.ty 10 rfl ⟨O.o,bb.o,(Z.o).st.blk.cell 0,(Z.o).st.blk.cell 1⟩ ?_;refine Reg.tw 11 (v:=.int .i64 x.t) rfl ⟨O.o,bb.o,(Z.o).st.blk.cell 0,(Z.o).st.blk.cell 1⟩ (fun w' hS=>by obtain⟨hP,hA,et,ei⟩:=hS;have a2:=(fO.o _ hA).1;go_simp<;>rfl) ?_;refine Reg.ty 12 rfl ⟨O.o,bb.o,(Z.o).st.blk.cell 0,(Z.o).st.blk.cell 1⟩ ?_;refine Reg.tw 13 (v:=.int .i64 x.q) rfl ⟨O.o,bb.o,(Z.o).st.blk.cell 0,(Z.o).st.blk.cell 1⟩ (fun w' hS=>by obtain⟨hP,hA,et,ei⟩:=hS;have a3:=(fO.o _ hA).2;go_simp<;>rfl) ?_;refine Reg.b1 6 ?_
           right
           refine⟨_,_,_,_,_,_,68,#[Kd.prV p.P],rfl,by rfl,(by go_simp<;>first | rfl | exact⟨rfl,rfl⟩),?_⟩;refine Aj (CP.o _) ?_;rintro gB hb;replace Z:=I (Z.o.below hb);replace HR:=I (HR.o.below hb);replace O:=I (O.o.below hb);replace bb:=I (bb.o.below hb);replace HO:=I (HO.o.below hb);clear hb;clear CP;refine⟨_,rfl,⟨O.o,bb.o,(Z.o).st.blk.cell 0,(Z.o).st.blk.cell 1⟩,?_⟩;simp only[Act.put,U,Aa,Ab];refine Reg.tw 14 (v:=.agg cX) rfl ⟨O.o,bb.o,(Z.o).st.blk.cell 0,(Z.o).st.blk.cell 1⟩ (fun w' hS=>by obtain⟨hP,hA,et,ei⟩:=hS;exact Rg.Em (by simp only[List.map_toArray,List.map_cons,List.map_nil];rfl) gI.o) ?_;refine Reg.BH 15 rfl (by kernel_rfl) (by rfl) w.heap.size 54 _ cX HR.o (by rfl) (by rfl) (by rw[fG.o,gd.o]) gg.o gn.o ?_;intro gw hV hg;have hk:=Z.o.over Ag NR.o hg;replace O:=I (O.o.grown hg (fun e=>by injection e with e;exact fI.o.1 e));replace bb:=I (bb.o.grown hg (fun e=>by injection e with e;exact fI.o.2 e));have eF:=Rg.Bt (Chg.of_grown hg rfl:Chg (fun j=>j=w.heap.size) _ _) HO.o (fun k cT e=>fw.o k cT e);replace HO:=I eF;replace HR:=I hV;replace Z:=I hk;clear hV hg hk eF;refine⟨⟨O.o,bb.o,(Z.o).st.blk.cell 0,(Z.o).st.blk.cell 1⟩,?_⟩;simp only[Act.put,U,Aa,Ab];refine Reg.ty 16 rfl ⟨O.o,bb.o,(Z.o).st.blk.cell 0,(Z.o).st.blk.cell 1⟩ ?_;refine wpAnyH_done (by kernel_rfl) ?_ _
           go_wp2_with fail
           refine bodyPost_ret (v:=.tuple #[.agg cX,.int .i64 0]) ?_ ?_ ?_
           ·exact Rg.Al (v:=.agg cX) 6 7 54 ⟨w.heap.size,0,none⟩ Tryz.results42 rfl (Wh.Ao HR.o Tryz.underlying54 (by rfl) gg.o) rfl
           ·rfl
           ·have hy:=aX (r:=r) (now:=now) eb.o.1 fK.o (ga.o▸Z.o) (v:=.slice A6 nl c6) rfl (eb.o.2.2.2▸HO.o) NO.o
            rw[eb.o.2.1,eb.o.2.2.1,eb.o.2.2.2] at hy;rw[EX.o];exact hy
          ·have t3:(k != 0)=true:=by simpa using hk0
           have eQ:=I hk0;clear hk0
           go_upto_region 20 with(first
            |(refine Wh.AF (by rfl) 31 (.tmp 11) (by rfl) PT 0 (by rfl) cP _ (Wh.Ad O.o) Tryz.underlying31 (by rfl) fb.o ?_)
            |(go_at_call 89;refine Calls.mono (CQ.o _ Z.o.st) ?_;rintro e w6 ⟨A6,c6,rfl,ho,hb⟩;clear CQ;have fw:=I (fun k (hk:(Value.slice A6 nl c6).ownBlock=some k) (e:k=w.heap.size)=>(show False by have:=(ho.lt k hk).1;have:=HR.o.lt;omega));have HO:=I (ho.from_ Z.o.size:Own w6 w.heap.size (.slice A6 nl c6) ls);have NO:=I (fun k (hk:(Value.slice A6 nl c6).ownBlock=some k) (hx:AO p es2 u k)=>(show False by have:=(ho.lt k hk).1;have:=Z.o.st.ao_lt hx;omega));replace Z:=I (Z.o.below hb);replace HR:=I (HR.o.below hb);replace O:=I (O.o.below hb);replace bb:=I (bb.o.below hb);clear ho hb)
            |(refine Wh.AF (by rfl) 33 (.tmp 12) (by rfl) PA 0 (by rfl) cA _ (Wh.Ad bb.o) Tryz.underlying33 (by rfl) fi.o ?_)
            |(go_at_call 90;refine Aj (CW.o _ Z.o.st) ?_;rintro w7 ⟨u',hk⟩;clear CW;have aw:=hk.blk HR.o (fun y=>NR.o (.inl y));replace NR:=I (hk.notA NR.o HR.o.lt);replace HR:=I aw;clear aw;have aw:=hk.blk O.o (fun y=>cn.o (.inl y));replace O:=I aw;clear aw;have aw:=hk.blk bb.o (fun y=>fU.o (.inl y));replace bb:=I aw;clear aw;have eF:=Rg.Bt hk.chg HO.o (fun k cT=>NO.o k cT);replace NO:=I (fun k (cT:(Value.slice A6 nl c6).ownBlock=some k)=>hk.not (NO.o k cT) (HO.o.lt k cT).2);replace HO:=I (show Own w7 w.heap.size (.slice A6 nl c6) ls from eF);replace Z:=I (Z.o.trans hk);clear hk eF)
            |fail)
           go_wp2_with (first
            |(refine Mc.Ae (by rfl) 54 #[] (by rfl) zz (by simp;exact cm.o) ?_)
            |(refine Wh.AW (by rfl) 54 (.tmp 6) (.tmp 89) (by rfl) w.heap.size 54 _ HR.o zz (by rfl) (by rfl) (by rfl) ck.o eN.o ?_;rintro V hV hg;replace HR:=I hV;replace Z:=I (Z.o.over Ag NR.o hg);clear hV hg cm)
            |fail)
           refine bodyPost_ret (v:=.tuple #[.agg zz,.int .i64 k]) ?_ ?_ ?_
           ·exact Rg.Al (v:=.agg zz) 6 7 54 ⟨w.heap.size,0,none⟩ Tryz.results42 rfl (Wh.Ao HR.o Tryz.underlying54 (by rfl) ck.o) rfl
           ·rfl
           ·rw[<-ez.o];exact Xx eb.o.1 fK.o (ga.o▸Z.o) eQ.o
         ·replace E3:=I ((if_neg hye).symm.trans E3.o)
          have er:r=lk0 ye:=E3.o.symm;have fe:=I (show r.e=ye by rw[er];rfl);have t2:(ye != 0)=true:=by simpa using hye
          have eQ:=I hye;clear hye er CW
          go_upto_region 17 with(first
           |(refine Wh.AF (by rfl) 31 (.tmp 11) (by rfl) PT 0 (by rfl) cP _ (Wh.Ad O.o) Tryz.underlying31 (by rfl) fb.o ?_)
           |(go_at_call 89;refine Calls.mono (CQ.o _ Z.o.st) ?_;rintro e w6 ⟨A6,c6,rfl,ho,hb⟩;clear CQ;have fw:=I (fun k (hk:(Value.slice A6 nl c6).ownBlock=some k) (e:k=w.heap.size)=>(show False by have:=(ho.lt k hk).1;have:=HR.o.lt;omega));have HO:=I (ho.from_ Z.o.size:Own w6 w.heap.size (.slice A6 nl c6) ls);have NO:=I (fun k (hk:(Value.slice A6 nl c6).ownBlock=some k) (hx:AO p es2 u k)=>(show False by have:=(ho.lt k hk).1;have:=Z.o.st.ao_lt hx;omega));replace Z:=I (Z.o.below hb);replace HR:=I (HR.o.below hb);replace O:=I (O.o.below hb);replace bb:=I (bb.o.below hb);clear ho hb)
           |fail)
          go_wp2_with (first
           |(refine Mc.Ae (by rfl) 54 #[] (by rfl) zz (by simp;exact cm.o) ?_)
           |(refine Wh.AW (by rfl) 54 (.tmp 6) (.tmp 81) (by rfl) w.heap.size 54 _ HR.o zz (by rfl) (by rfl) (by rfl) ck.o eN.o ?_;rintro V hV hg;replace HR:=I hV;replace Z:=I (Z.o.over Ag NR.o hg);clear hV hg cm)
           |fail)
          refine bodyPost_ret (v:=.tuple #[.agg zz,.int .i64 ye]) ?_ ?_ ?_
          ·exact Rg.Al (v:=.agg zz) 6 7 54 ⟨w.heap.size,0,none⟩ Tryz.results42 rfl (Wh.Ao HR.o Tryz.underlying54 (by rfl) ck.o) rfl
          ·rfl
          ·rw[<-ez.o];exact JV Z.o fe.o eQ.o
        ·replace E2:=I ((if_neg hxe).symm.trans E2.o)
         have er:r=lk0 xe:=E2.o.symm;have fe:=I (show r.e=xe by rw[er];rfl);have t1:(xe != 0)=true:=by simpa using hxe
         have eQ:=I hxe;clear hxe er
         go_wp2_with (first
          |(refine Mc.Ae (by rfl) 54 #[] (by rfl) zz (by simp;exact cm.o) ?_)
          |(refine Wh.AW (by rfl) 54 (.tmp 6) (.tmp 71) (by rfl) w.heap.size 54 _ HR.o zz (by rfl) (by rfl) (by rfl) ck.o eN.o ?_;rintro V hV hg;replace HR:=I hV;replace Z:=I (Z.o.over Ag NR.o hg);clear hV hg cm)
          |fail)
         refine bodyPost_ret (v:=.tuple #[.agg zz,.int .i64 xe]) ?_ ?_ ?_
         ·exact Rg.Al (v:=.agg zz) 6 7 54 ⟨w.heap.size,0,none⟩ Tryz.results42 rfl (Wh.Ao HR.o Tryz.underlying54 (by rfl) ck.o) rfl
         ·rfl
         ·rw[<-ez.o];exact JV Z.o fe.o eQ.o
      ·replace E1:=I ((if_neg hke).symm.trans E1.o)
       have er:r=lk0 ke:=E1.o.symm;have fe:=I (show r.e=ke by rw[er];rfl);have t1:(ke != 0)=true:=by simpa using hke
       have eQ:=I hke;clear hke er
       go_wp2_with (first
        |(refine Mc.Ae (by rfl) 54 #[] (by rfl) zz (by simp;exact cm.o) ?_)
        |(refine Wh.AW (by rfl) 54 (.tmp 6) (.tmp 56) (by rfl) w.heap.size 54 _ HR.o zz (by rfl) (by rfl) (by rfl) ck.o eN.o ?_;rintro V hV hg;replace HR:=I hV;replace Z:=I (Z.o.over Ag NR.o hg);clear hV hg cm)
        |fail)
       refine bodyPost_ret (v:=.tuple #[.agg zz,.int .i64 ke]) ?_ ?_ ?_
       ·exact Rg.Al (v:=.agg zz) 6 7 54 ⟨w.heap.size,0,none⟩ Tryz.results42 rfl (Wh.Ao HR.o Tryz.underlying54 (by rfl) ck.o) rfl
       ·rfl
       ·rw[<-ez.o];exact JV (Z.o.more (by omega)) fe.o eQ.o
    ·replace E1:=I ((if_neg hsv).symm.trans E1.o)
     have er:r=lk0 9:=E1.o.symm;subst er;have q1:=DS hsv;clear hsv
     go_quiet (fail)
     have hd:=below_drewN (Below.refl V2.heap.size V2) nq;replace Z:=I (Z.o.below hd);replace HR:=I (HR.o.below hd);clear hd fR fZ et ei;generalize V2.drewN nq=V3 at Z HR⊢
     go_wp2_with (first
      |(refine Mc.Ae (by rfl) 54 #[] (by rfl) zz (by simp;exact cm.o) ?_)
      |(refine Wh.AW (by rfl) 54 (.tmp 6) (.tmp 42) (by rfl) w.heap.size 54 _ HR.o zz (by rfl) (by rfl) (by rfl) ck.o eN.o ?_;rintro V hV hg;replace HR:=I hV;replace Z:=I (Z.o.over Ag NR.o hg);clear hV hg cm)
      |fail)
     refine bodyPost_ret (v:=.tuple #[.agg zz,.int .i64 9]) ?_ ?_ ?_
     ·exact Rg.Al (v:=.agg zz) 6 7 54 ⟨w.heap.size,0,none⟩ Tryz.results42 rfl (Wh.Ao HR.o Tryz.underlying54 (by rfl) ck.o) rfl
     ·rfl
     ·rw[<-ez.o];exact JV (Z.o.more (by omega)) rfl (by decide)
   ·replace E0:=I ((if_neg hk4).symm.trans E0.o)
    have er:r=lk0 2:=E0.o.symm;subst er;have t4:(M.k != 4)=true:=by simpa using hk4
    clear hk4;go_enter Tryz.func42,Tryz.ntmps42
    go_upto_region 1 with fail
    rw[<-eg.o,<-eW];clear eW eg
    go_upto_region 3 with(first
     |(go_at_call 85;refine Aj (CT.o _) ?_;rintro wt hw;have hw:=hw.symm;subst hw;clear CT)
     |fail)
    go_upto_region 5 with(first
     |(go_at_call 86;refine Calls.mono (CD.o _ HV.o (fun j hj x=>by have:=Z.o.st.ao_lt x;omega)) ?_;rintro e w9 ⟨ds,bv,av,rfl,cL,eL,ew,eB,ej,hb⟩;clear CD HV;replace Z:=I (Z.o.below hb);replace HR:=I (HR.o.below hb);have eo:=I cL;have ed:=I eL;have eM:=I (show(Tryz.prog.info? 95).map (·.size)=some ds.size by rw[cL];exact Mc.AZ);have eP:=I ew;have SB:=I (SlH.of eB);have SA:=I (SlH.of ej);clear cL eL ew eB ej hb)
     |(refine Wh.Bc (by rfl) 95 (.tmp 8) (.tmp 22) (by rfl) 95 rfl ds (by rfl) (by rfl) (by rw[eo.o];rfl) eM.o ed.o ?_;rintro V hV hb;have HM:=I hV;have NM:=I (Z.o.st.fresh (Nat.le_refl w9.heap.size));replace Z:=I (Z.o.below hb);replace HR:=I (HR.o.below hb);replace SB:=I (SB.o.below hb);replace SA:=I (SA.o.below hb);have fz:=(eP.o V _ _ hV).1;clear hV hb eo eM ed)
     |fail)
    go_wp2_with (first
     |(refine Mc.Ae (by rfl) 54 #[] (by rfl) zz (by simp;exact cm.o) ?_)
     |(refine Wh.AW (by rfl) 54 (.tmp 6) (.tmp 31) (by rfl) w.heap.size 54 _ HR.o zz (by rfl) (by rfl) (by rfl) ck.o eN.o ?_;rintro V hV hg;replace HR:=I hV;replace Z:=I (Z.o.over Ag NR.o hg);clear hV hg cm)
     |fail)
    refine bodyPost_ret (v:=.tuple #[.agg zz,.int .i64 2]) ?_ ?_ ?_
    ·exact Rg.Al (v:=.agg zz) 6 7 54 ⟨w.heap.size,0,none⟩ Tryz.results42 rfl (Wh.Ao HR.o Tryz.underlying54 (by rfl) ck.o) rfl
    ·rfl
    ·rw[<-ez.o];exact JV (Z.o.more (by omega)) rfl (by decide)
end
end Ac
namespace Ac
open Go.RowKit Af Se Kd
open Nm (L Own)
open Rg (It Ent Ring RO its)
open Ms (An)
open Rp (seeE seeL Tm)
open Rt (Sm)
def okN (e:Int):Nat:=if e=0 then 1 else 0
def noN (e:Int):Nat:=if e=0 then 0 else 1
def TokP (w:World) (B:Nat) (p:SP) (es:List Ent) (u:Value) (on:Bool) (st:Int) (l:List An) (n m c:Nat) (r:Lk) (now:Int) (e:Ending) (w':World):Prop:=
 ∃A c2 es' u',e=.returned (.tuple #[.agg (acA (takA p.P r on st l now) (.slice A (takA p.P r on st l now).tr.length c2)),.int .i64 (takE r on st l now)])/\Own w' (w.heap.size+1) (.slice A (takA p.P r on st l now).tr.length c2) (takA p.P r on st l now).tr/\(∀k,(Value.slice A (takA p.P r on st l now).tr.length c2).ownBlock=some k->¬AO p es' u' k)/\Av w w' B p es u es' u' on st (takS r on st l now) (n+okN (takE r on st l now)) (m+noN (takE r on st l now)) c
section
variable {w:World} {B:Nat} {p:SP} {es:List Ent} {u:Value} {on:Bool} {st:Int} {l:List An} {n m c:Nat}
theorem UW {r:Lk} {now:Int} (h:r.p.ss.length=32):(takA p.P r on st l now).ss.length=32:=by
 unfold takA
 split
 ·exact h
 ·rfl
theorem UX (T:Rt.Tp) (P:Ms.Pr) (its:List It) (b:L) (now:Int):(lokL P T its b now).p.ss.length=32:=by
 unfold lokL
 split
 ·split
  ·rfl
  ·split
   ·unfold lokA
    split
    ·split
     ·unfold lokB
      split
      ·unfold lokC
       split
       ·exact(MZ _ _ _).1
       ·rfl
      ·rfl
     ·rfl
    ·rfl
   ·rfl
 ·rfl
theorem ee {bv:Value} {b:L} {now:Int} {r:Lk} (h:AD w B p es u on st l n m c) (hc:c<800000) (hn:n<900000) (hm:m<900000) (hl:es.length<=1000) (hT:Sm p.T) (hP:p.P.1.length<=1000000/\p.P.2.length<=1000000) (cp:Tm st) (cg:l.length<=1000) (hv:SlN (AO p es u) w bv b) (hr:lokL p.P p.T (its es) b now=r) :
  Calls Tryz.prog 17 #[.pointer (some ⟨p.a,0,none⟩),bv,.int .i64 now] w (TokP w B p es u on st l n m (c+2) r now):=by
 have cf:r.p.ss.length=32:=by rw[<-hr];exact UX _ _ _ _ _
 obtain⟨zz,av⟩:=Ak (acA acc0 (.slice none 0 0));have cn:=I (show Tryz.prog.built 54 []=some zz by rw[av];exact Nb);have cc:=I (show zz.size=39 by rw[av];exact Hm rfl _);have ck:=I (show(Tryz.prog.info? 54).map (·.size)=some zz.size by rw[cc.o];exact Na);have cA:=I (show zz.all (·.oneCell')=true by rw[av];exact JU _ rfl);have cx:=I (show acA acc0 (.slice none 0 0)=zz from av.symm);have cj:=I (av.trans Yn);obtain⟨W,eW⟩:=Ak (w.alloc (.cells zz 54));have hb:Below w.heap.size w W:=eW▸Ah.alloc Ag _;have cw:=I (show W.heap.size=w.heap.size+1 by rw[eW];simp);have Z:=I (show Blk W w.heap.size 54 zz from eW▸Blk.new w _ _);have M:=I (Av.start h hb);have NR:=I (h.fresh (Nat.le_refl w.heap.size));have CT:=I (dZ (now:=now) (r:=r) M.o.st hc hl hT hP cp cg (hv.below hb) hr);have HN:=I hn;have HM:=I hm;have cy:=I (UW (p:=p) (on:=on) (st:=st) (l:=l) (now:=now) cf);obtain⟨AB,mB,cq,_,_⟩:=hv;obtain⟨LB,cm⟩:=Ak (b.length);rw[<-cm] at cq;subst cq;obtain⟨k,ek⟩:=Ak (takE r on st l now);have EK:=I ek;have EA:=I (fun(h0:k≠0)=>(show takA p.P r on st l now=acc0 by rw[takA,<-ek,if_neg h0]));have ct:=I (show Calls Tryz.prog 42 #[.pointer (some ⟨p.a,0,none⟩),.slice AB LB mB,.int .i64 now] W fun e w'=>∃A c2 es' u',e=.returned (.tuple #[.agg (acA (takA p.P r on st l now) (.slice A (takA p.P r on st l now).tr.length c2)),.int .i64 k])/\Own w' W.heap.size (.slice A (takA p.P r on st l now).tr.length c2) (takA p.P r on st l now).tr/\(∀j,(Value.slice A (takA p.P r on st l now).tr.length c2).ownBlock=some j->¬AO p es' u' j)/\Av W w' B p es u es' u' on st (takS r on st l now) n m (c+2) from CT.o.mono (by
  rintro e w' ⟨v,es',u',rfl,h1,h2,h3,h4⟩;obtain⟨A,c2,rfl,_⟩:=h2.slice;exact⟨A,c2,es',u',by rw[ek],h2,h3,h4⟩))
 clear h hc hn hm hl hT hP cp cg hb hr cf av cm CT ek;go_enter Tryz.func17,Tryz.ntmps17
 go_upto_region 1 with fail
 rw[<-cj.o,<-eW];clear eW cj
 go_upto_region 4 with(first
  |(go_at_call 42;refine Calls.mono ct.o ?_;rintro e w6 ⟨A6,c6,bx,u1,rfl,ho,cu,hk⟩;clear ct;have cb:=hk.blk Z.o (fun y=>NR.o (.inl y));replace NR:=I (hk.notA NR.o Z.o.lt);replace Z:=I cb;replace M:=I (M.o.trans hk);have HO:=I (show Own w6 (w.heap.size+1) _ _ from cw.o▸ho);have bB:=I cu;clear cb hk ho cu;obtain⟨cX,bb⟩:∃z,z=acA (takA p.P r on st l now) (.slice A6 (takA p.P r on st l now).tr.length c6):=⟨_,rfl⟩;rw[<-bb];have bz:=I (show cX.size=39 by rw[bb];exact Hm cy.o _);have bn:=I (show(Tryz.prog.info? 54).map (·.size)=some cX.size by rw[bz.o];exact Na);have ca:=I (show cX.all (·.oneCell')=true by rw[bb];exact JU _ rfl);have EX:=I bb;clear bb)
  |(refine Wh.Bc (by rfl) 54 (.tmp 8) (.tmp 18) (by rfl) 54 rfl cX (by rfl) (by rfl) (by rw[bz.o];rfl) bn.o ca.o ?_;rintro V hV hb;have HT:=I hV;have NT:=I (M.o.st.fresh (Nat.le_refl w6.heap.size));replace M:=I (M.o.below hb);replace Z:=I (Z.o.below hb);replace HO:=I (HO.o.below hb);clear hV hb)
  |fail)
 obtain⟨PT,cr⟩:=Ak (w6.heap.size);rw[<-cr] at HT NT⊢;clear cr
 by_cases hk:k=0
 ·subst hk
  have O:=add_one ⟨p.a,6,none⟩ n V (by have:=HN.o;omega) (M.o.st.blk.cell 6) (M.o.st.blk.frozen 6);have cd:AO p bx u1 p.a:=.inl rfl
  go_wp2_with (first
   |(go_at_call 43;refine Aj O ?_;rintro w7 hw;subst hw;clear O;have hk:=M.o.st.put6 (n+1);have aw:=Rg.Bt (Ee V p.a 6 (.int .i64 ((n+1:Nat):Int))) HO.o (fun j hj e=>bB.o j hj (e▸cd));replace HO:=I (show Own _ _ _ _ from aw);replace Z:=I (hk.blk Z.o (fun y=>NR.o (.inl y)));replace HT:=I (hk.blk HT.o (fun y=>NT.o (.inl y)));replace M:=I (M.o.trans hk);clear hk aw cd)
   |(refine Wh.AF (by rfl) 54 (.tmp 8) (by rfl) PT 0 (by rfl) cX _ (Wh.Ad HT.o) Tryz.underlying54 (by rfl) bn.o ?_)
   |(refine Wh.AW (by rfl) 54 (.tmp 6) (.tmp 32) (by rfl) w.heap.size 54 _ Z.o cX (by rfl) (by rfl) (by rw[cc.o,bz.o]) bn.o ca.o ?_;rintro V2 hV hg;have aw:=Rg.Bt (Chg.of_grown hg rfl:Chg (fun j=>j=w.heap.size) _ _) HO.o (fun j hj e=>by have:=(HO.o.lt j hj).1;omega);replace HO:=I (show Own _ _ _ _ from aw);replace Z:=I hV;replace M:=I (M.o.over Ag NR.o hg);clear hV hg aw)
   |fail)
  refine bodyPost_ret (v:=.tuple #[.agg cX,.int .i64 0]) ?_ ?_ ?_
  ·exact Rg.Al (v:=.agg cX) 6 7 54 ⟨w.heap.size,0,none⟩ Tryz.results17 rfl (Wh.Ao Z.o Tryz.underlying54 (by rfl) bn.o) rfl
  ·rfl
  ·refine⟨A6,c6,bx,u1,by rw[<-EK.o,EX.o],HO.o,bB.o,?_⟩
   rw[<-EK.o];exact M.o
 ·have t1:(k != 0)=true:=by simpa using hk
  have O:=add_one ⟨p.a,7,none⟩ m V (by have:=HM.o;omega) (M.o.st.blk.cell 7) (M.o.st.blk.frozen 7);have bq:=I hk;clear hk HO
  go_wp2_with (first
   |(go_at_call 43;refine Aj O ?_;rintro w7 hw;subst hw;clear O;have hk:=M.o.st.put7 (m+1);replace Z:=I (hk.blk Z.o (fun y=>NR.o (.inl y)));replace M:=I (M.o.trans hk);clear hk)
   |(refine Mc.Ae (by rfl) 54 #[] (by rfl) zz (by simp;exact cn.o) ?_)
   |(refine Wh.AW (by rfl) 54 (.tmp 6) (.tmp 26) (by rfl) w.heap.size 54 _ Z.o zz (by rfl) (by rfl) (by rfl) ck.o cA.o ?_;rintro V2 hV hg;replace Z:=I hV;replace M:=I (M.o.over Ag NR.o hg);clear hV hg cn)
   |fail)
  refine bodyPost_ret (v:=.tuple #[.agg zz,.int .i64 k]) ?_ ?_ ?_
  ·exact Rg.Al (v:=.agg zz) 6 7 54 ⟨w.heap.size,0,none⟩ Tryz.results17 rfl (Wh.Ao Z.o Tryz.underlying54 (by rfl) ck.o) rfl
  ·rfl
  ·have e2:=EA.o bq.o
   unfold TokP;rw[e2,<-EK.o];refine⟨none,0,bx,u1,by rw[<-cx.o];rfl,Nm.Own.nil _ _,fun j hj=>by simp [Value.ownBlock] at hj,?_⟩;rw[show okN k=0 from if_neg bq.o,show noN k=1 from if_neg bq.o];exact M.o
theorem Ix (h:AD w B p es u on st l n m c):Calls Tryz.prog 20 #[.pointer (some ⟨p.a,0,none⟩)] w fun e w'=>e=.returned (.tuple #[.int .i64 (n:Int),.int .i64 (m:Int)])/\Below w.heap.size w w':=by
 have HA:=I h;have O:w.cell? ⟨p.a,6,none⟩=some (.int .i64 (n:Int))/\w.cell? ⟨p.a,7,none⟩=some (.int .i64 (m:Int)):=⟨h.blk.cell 6,h.blk.cell 7⟩;have Z:=I (fun(w1:World) (M:w1.cell? ⟨p.a,6,none⟩=some (.int .i64 (n:Int)))=>Kp ⟨p.a,6,none⟩ n w1 M);have C2:=I (fun(w1:World) (M:w1.cell? ⟨p.a,7,none⟩=some (.int .i64 (m:Int)))=>Kp ⟨p.a,7,none⟩ m w1 M);have H1:=I (fun q=>show(w.drewN q).cell? ⟨p.a,6,none⟩=some (.int .i64 (n:Int)) from O.1);have H2:=I (fun q=>show(w.drewN q).cell? ⟨p.a,7,none⟩=some (.int .i64 (m:Int)) from O.2);clear h O;go_enter Tryz.func20,Tryz.ntmps20
 go_upto_region 3 with fail
 go_quiet (first | (go_at_call 45;refine(Z.o _ (H1.o _)).mono ?_;rintro e w' ⟨rfl,rfl⟩;exact⟨rfl,_,rfl⟩) | (go_at_call 45;refine(C2.o _ (H2.o _)).mono ?_;rintro e w' ⟨rfl,rfl⟩;exact⟨rfl,_,rfl⟩))
 go_wp2_with fail
 go_ret2
 exact⟨rfl,below_drewN Ah _⟩
end
end Ac
namespace Ac
open Go.RowKit Af Se Kd
open Nm (L Own)
open Rg (It Ent Ring RO its)
open Ms (Pt An Mg pSm tmB ptB anB)
open Rp (seeE seeL Tm)
def ptR (tr:L):Pt:=⟨pAnn,k1L 7,tr,0,1073741824⟩
def anR (now seq:Int):An:=⟨pAnn,now,seq⟩
theorem sAnn:pSm pAnn:=⟨by decide,by decide⟩
theorem Yo (n:UInt8):keyA (k1L n)=Be (k1 n):=by simp [bvs,k1L,Be]
theorem eh (f:Nat->UInt8) (c:Nm.L×Nm.L) (tr:L) (b:Int):Tryz.prog.built 31 [(0,Kd.prV c),(1,.agg (Be f)),(2,.string ⟨tr.toArray⟩),(4,.int .i64 b)]=some (Ms.prC c++((Be f).toList++([.string ⟨tr.toArray⟩,.int .i64 0,.int .i64 b]:List Value))).toArray:=by kernel_rfl
theorem UY (tr:L):Tryz.prog.built 31 [(0,Kd.prV pAnn),(1,.agg (Be (k1 7))),(2,.string ⟨tr.toArray⟩),(4,.int .i64 1073741824)]=some (ptA (ptR tr)):=by
 rw[eh];show some (Ms.prC pAnn++((Be (k1 7)).toList++_)).toArray=some (Ms.prC pAnn++(bvs (k1L 7)++_)).toArray;rw[<-Yo];rfl
theorem UZ (now seq:Int):Tryz.prog.built 33 [(0,Kd.prV pAnn),(1,.int .i64 now),(2,.int .i64 seq)]=some (anA (anR now seq)):=by kernel_rfl
theorem Va (now seq:Int) (tr:L) (w:World) (bb:tr.length<=1000000) :
  Calls Tryz.prog 24 #[.int .i64 now,.int .i64 seq,.string ⟨tr.toArray⟩] w fun e w'=>∃v,e=.returned (.tuple #[v,.bool (rqOk 2 2 (ptR tr) (anR now seq))])/\SlN (fun j=>j<w.heap.size) w' v (rqL 2 2 (ptR tr) (anR now seq))/\Below w.heap.size w w':=by
 obtain⟨cK,M⟩:=Ak (Be (k1 7));obtain⟨cP,O⟩:=Ak (ptA (ptR tr));obtain⟨cA,Z⟩:=Ak (anA (anR now seq));have bn:=I (show Tryz.prog.built 29 [(0,.int .u8 7)]=some cK by rw[M];exact Hl 7);have bx:=I (show Tryz.prog.built 31 [(0,Kd.prV pAnn),(1,.agg cK),(2,.string ⟨tr.toArray⟩),(4,.int .i64 1073741824)]=some cP by rw[M,O];exact UY tr);have bz:=I (show Tryz.prog.built 33 [(0,Kd.prV pAnn),(1,.int .i64 now),(2,.int .i64 seq)]=some cA by rw[Z];exact UZ now seq);have CN:=I (fun(w1:World)=>aR w1);have CR:=I (show ∀w1:World,Calls Tryz.prog 16 #[.int .i64 2,.agg cP,.agg cA] w1 fun e w'=>∃v,e=.returned (.tuple #[v,.bool (rqOk 2 2 (ptR tr) (anR now seq))])/\SlN (fun j=>j<w1.heap.size) w' v (rqL 2 2 (ptR tr) (anR now seq))/\Below w1.heap.size w1 w' from fun w1=>by rw[O,Z];exact UP w1 (Bf 7) sAnn bb sAnn rfl);obtain⟨ok,aw⟩:=Ak (rqOk 2 2 (ptR tr) (anR now seq));obtain⟨bq,av⟩:=Ak (rqL 2 2 (ptR tr) (anR now seq));rw[<-aw,<-av] at CR⊢;have HB:=I (Below.refl w.heap.size w);clear M O Z aw av bb;go_enter Tryz.func24,Tryz.ntmps24
 go_wp2_with (first
  |(go_at_call 22;refine Aj (CN.o _) ?_;rintro wm hb;replace HB:=HB.t hb;clear hb)
  |(refine Mc.Ae (by rfl) 29 #[(0,.const (.int .u8 7))] (by rfl) cK (by simp only[List.map_toArray,List.map_cons,List.map_nil];exact bn.o) ?_)
  |(refine Mc.Ae (by rfl) 31 #[(0,.tmp 8),(1,.tmp 9),(2,.tmp 10),(4,.const (.int .i64 1073741824))] (by rfl) cP (by simp only[List.map_toArray,List.map_cons,List.map_nil];exact bx.o) ?_)
  |(refine Mc.Ae (by rfl) 33 #[(0,.tmp 12),(1,.tmp 13),(2,.tmp 14)] (by rfl) cA (by simp only[List.map_toArray,List.map_cons,List.map_nil];exact bz.o) ?_)
  |(go_at_call 16;refine Calls.mono (CR.o _) ?_;rintro e wr ⟨v,rfl,hs,hb⟩;clear CR;have HV:=I (hs.mono (S':=fun j=>j<w.heap.size) (fun j _ x=>by have:=HB.o.size;omega));replace HB:=HB.t hb;clear hb hs)
  |fail)
 go_ret2
 exact⟨_,rfl,HV.o,HB.o⟩
section
variable {w:World} {B:Nat} {p:SP} {es:List Ent} {u:Value} {on:Bool} {st:Int} {l:List An} {n m c:Nat}
structure Sv (w:World) (B:Nat) (p:SP) (es:List Ent) (u:Value) (on:Bool) (st:Int) (l:List An) (n m c:Nat):Prop where
 ad:AD w B p es u on st l n m c
 e:its es=itS
 P:p.P=pSv
 T:p.T=tT
theorem Sv.below {w':World} (h:Sv w B p es u on st l n m c) (M:Below w.heap.size w w'):Sv w' B p es u on st l n m c:=⟨h.ad.below M,h.e,h.P,h.T⟩
theorem Sv.step {w':World} {es':List Ent} {u':Value} {on':Bool} {st':Int} {l':List An} {n' m' c':Nat} (h:Sv w B p es u on st l n m c) (k:Av w w' B p es u es' u' on' st' l' n' m' c'):Sv w' B p es' u' on' st' l' n' m' c':=⟨k.st,(Ox k.eq).trans h.e,h.P,h.T⟩
theorem Scs.sv {w0:World} {g:Nat} (h:Scs w0 w g p es u st):Sv w w0.heap.size p es u (!decide (st=0)) st [] 0 0 0:=⟨h.ad,h.e,h.P,h.T⟩
def TokL (w:World) (B:Nat) (p:SP) (es:List Ent) (u:Value) (on:Bool) (st:Int) (c:Nat) (k:Int) (x:Acc) (l':List An) (n' m':Nat) (e:Ending) (w':World):Prop:=
 ∃cX es' u',e=.returned (.tuple #[.agg cX,.int .i64 k])/\cX.size=39/\cX.all (·.oneCell')=true/\(Tryz.prog.info? 54).map (·.size)=some cX.size/\(∃A c2,cX=acA x (.slice A x.tr.length c2)/\Own w' (w.heap.size+1) (.slice A x.tr.length c2) x.tr)/\Sv w' B p es' u' on st l' n' m' c/\Av w w' B p es u es' u' on st l' n' m' c
theorem OQ {bv:Value} {b:L} {now:Int} {r:Lk} {S:Nat->Prop} {k:Int} {x:Acc} {l':List An} {n' m':Nat} (h:Sv w B p es u on st l n m c) (hc:c<800000) (hn:n<900000) (hm:m<900000) (bb:Tm st) (av:l.length<=1000) (hv:SlN S w bv b) (hS:∀j,AO p es u j->S j) (hr:lokL pSv tT itS b now=r) (hk:takE r on st l now=k) (hx:takA pSv r on st l now=x) (bq:takS r on st l now=l') (aw:n+okN k=n') (bn:m+noN k=m') :
  Calls Tryz.prog 17 #[.pointer (some ⟨p.a,0,none⟩),bv,.int .i64 now] w (TokL w B p es u on st (c+2) k x l' n' m'):=by
 have hl:es.length=2:=by have:=congrArg List.length h.e;rwa [Rg.Dn] at this
 have O:r.p.ss.length=32:=by rw[<-hr];exact UX _ _ _ _ _
 have hP:p.P.1.length<=1000000/\p.P.2.length<=1000000:=h.P▸(show pSv.1.length<=1000000/\pSv.2.length<=1000000 by decide);refine(ee (r:=r) h.ad hc hn hm (by omega) (h.T▸ZR) hP bb av (hv.mono fun j _ x=>hS j x) (by rw[h.P,h.T,h.e];exact hr)).mono ?_;rintro e w' ⟨A,c2,es',u',rfl,ho,Z,M⟩;rw[h.P] at ho Z;rw[hk,bq,aw,bn] at M;rw[hx] at ho Z;rw[h.P,hk,hx];have hs:(acA x (.slice A x.tr.length c2)).size=39:=by rw[<-hx];exact Hm (UW (p:=⟨p.a,p.r,p.q,p.lo,p.hi,pSv,p.T,p.v,p.v1,p.v2,p.v3⟩) O) _
 exact⟨_,es',u',rfl,hs,JU _ rfl,by rw[hs];exact Na,⟨A,c2,rfl,ho⟩,h.step M,M⟩
end
def rE1:L:=[69,68,85]
theorem exp_E:Tr.expL rE1 rA rB=([rE1],0):=by decide +kernel
theorem all_E:Rt.GX tT rA rB [rE1]=true:=by decide +kernel
theorem pas_E {P:Pt} (M:P.c=pAnn) (O:P.tr=rE1):pasL tT rB P=(0,[rE1]):=by
 unfold pasL;rw[M,O,show pAnn.1=rA from rfl,exp_E,all_E]
 rfl
theorem aY {P:Pt} {a:An} (M:P.c=pAnn) (O:P.tr=rE1):lokC tT rB P a=⟨0,P,a,[rE1]⟩:=by
 unfold lokC;rw[pas_E M O];rfl
theorem aZ {tr:L} (h:Ms.txtB tr=true) (O:tr.length<=300):ptB (ptR tr)=true:=by
 have M:Ms.prB pAnn=true:=by decide +kernel
 have Z:(tmB 0&&tmB 1073741824)=true:=by decide
 unfold ptB;show(Ms.txtB tr&&(Ms.prB pAnn&&(decide (tr.length<=300)&&(tmB 0&&tmB 1073741824))))=true;rw[h,M,Z,decide_eq_true O];rfl
theorem ba {now seq:Int} (Z:tmB now=true) (O:tmB seq=true):anB (anR now seq)=true:=by
 have M:Ms.prB pAnn=true:=by decide +kernel
 show(Ms.prB pAnn&&(tmB now&&tmB seq))=true;rw[M,Z,O];rfl
theorem lkd_R {tr:L} {now seq:Int} (h:tmB now=true):lkD (ptR tr) (anR now seq) now=lokC tT rB (ptR tr) (anR now seq):=by
 have M:=Ms.Bl h;unfold lkD;rw[if_neg (show ¬(ptR tr).en<now by show ¬(1073741824:Int)<now;omega),if_neg (show ¬now+5<(ptR tr).st by show ¬now+5<(0:Int);omega),if_pos (show(anR now seq).c=(ptR tr).c from rfl)]
theorem PU:rqOk 2 2 (ptR rE1) (anR 9 1)=true:=TV (Bf 7) (aZ (by decide) (by decide)) (ba (by decide) (by decide)) (by decide) (by decide)
theorem Vb:lokL pSv tT itS (rqL 2 2 (ptR rE1) (anR 9 1)) 9=⟨0,ptR rE1,anR 9 1,[rE1]⟩:=by
 rw[Lq (Bf 7) PU (by decide),lkd_R (by decide),aY rfl rfl]
theorem Ku:seeE false 0 [] (anR 9 1) 9=0/\seeL false 0 [] (anR 9 1) 9 = [anR 9 1]:=by decide +kernel
theorem Rj:seeE false 0 [anR 9 1] (anR 9 1) 9=12:=by decide +kernel
theorem OR:takE ⟨0,ptR rE1,anR 9 1,[rE1]⟩ false 0 [] 9=0/\takS ⟨0,ptR rE1,anR 9 1,[rE1]⟩ false 0 [] 9 = [anR 9 1]:=⟨Ku.1,Ku.2⟩
theorem Vc:takE ⟨0,ptR rE1,anR 9 1,[rE1]⟩ false 0 [anR 9 1] 9=12/\takS ⟨0,ptR rE1,anR 9 1,[rE1]⟩ false 0 [anR 9 1] 9 = [anR 9 1]:=⟨Rj,by decide +kernel⟩
theorem bc:takA pSv ⟨0,ptR rE1,anR 9 1,[rE1]⟩ false 0 [] 9=⟨pAnn,pSv,k1L 7,[rE1],9,1⟩:=by rw[takA,if_pos OR.1];rfl
theorem Xy {x:Acc} {v:Value} (h:x.ss.length=32):(acA x v)[0]? = some (.string ⟨x.c.1.toArray⟩)/\(acA x v)[1]? = some (.string ⟨x.c.2.toArray⟩)/\(acA x v)[36]? = some v:=by
 refine⟨rfl,rfl,?_⟩;show(Ms.prC x.c++(Ms.prC x.s++(bvs x.ss++([v,.int .i64 x.t,.int .i64 x.q]:List Value)))).toArray[36]? = _;rw[List.getElem?_toArray,List.getElem?_append_right (by simp [Ms.prC]),List.getElem?_append_right (by simp [Ms.prC]),List.getElem?_append_right (by simp [Ms.prC,bvs,h])];simp [Ms.prC,bvs,h]
theorem PW (w:World):Calls Tryz.prog 21 #[] w fun e w'=>e=.returned (.bool true)/\Below w.heap.size w w':=by
 have CB:=I (fun(w1:World)=>Hd 0 w1);have CR:=I (fun(w1:World)=>Va 9 1 rE1 w1 (by decide));obtain⟨bq,bB⟩:=Ak (rqL 2 2 (ptR rE1) (anR 9 1));have cf:=I (show lokL pSv tT itS bq 9=⟨0,ptR rE1,anR 9 1,[rE1]⟩ from bB▸Vb);rw[<-bB,PU] at CR;clear bB;go_enter Tryz.func21,Tryz.ntmps21
 go_upto_region 5 with(first
  |(go_at_call 13;refine Calls.mono (CB.o _) ?_;rintro e w1 ⟨g,p,es,u,rfl,hs⟩;clear CB;have HV:=I (show Sv w1 w.heap.size p es u false 0 [] 0 0 0 from hs.sv);have Z:=I hs.b;obtain⟨x,hg⟩:=hs.blk;have HG:=I hg;have NG:=I hs.ng;clear hs hg)
  |(go_at_call 24;refine Calls.mono (CR.o _) ?_;rintro e w2 ⟨v,rfl,hs,O⟩;clear CR;have SV:=I (hs.mono (S':=AO p es u) (fun j _ x=>HV.o.ad.ao_lt x));replace HV:=I (HV.o.below O);replace HG:=I (HG.o.below O);replace Z:=Z.t O;clear hs O)
  |fail)
 have bn:=I HV.o.ad;have T1:=I (OQ (r:=⟨0,ptR rE1,anR 9 1,[rE1]⟩) (now:=9) HV.o (by omega) (by omega) (by omega) (by decide) (by simp) SV.o (fun j x=>x) cf.o OR.1 rfl OR.2 (rfl:_=1) (rfl:_=0));obtain⟨x1,bz⟩:=Ak (takA pSv ⟨0,ptR rE1,anR 9 1,[rE1]⟩ false 0 [] 9);have cc:=I (bz.trans bc);rw[<-bz] at T1;clear bz;have kg:=HG.c0
 go_upto_region 6 with(first
  |(go_at_call 17;refine Calls.mono T1.o ?_;rintro e w3 ⟨cX,cn,u1,rfl,h1,h2,h3,h4,h5,hk⟩;clear T1 kg;have bb:=I h1;have aw:=I h2;have bx:=I h3;have cg:=I h4;replace HV:=I h5;have av:=hk.blk HG.o (fun y=>NG.o (.inl y));replace NG:=I (hk.notA NG.o HG.o.lt);replace HG:=I av;clear av;replace SV:=I (hk.sl SV.o);replace Z:=I (Z.o.trans (hk.base bn.o));clear h1 h2 h3 h4 h5 hk)
  |(refine Wh.Bc (by rfl) 54 (.tmp 4) (.tmp 24) (by rfl) 54 rfl cX (by rfl) (by rfl) (by rw[bb.o];rfl) bx.o aw.o ?_;rintro V hV O;have M:=I hV;have NT:=I (HV.o.ad.fresh (Nat.le_refl w3.heap.size));replace HV:=I (HV.o.below O);replace HG:=I (HG.o.below O);replace SV:=I (SV.o.below O);replace Z:=Z.t O;clear hV O)
  |fail)
 obtain⟨PT,cj⟩:=Ak (w3.heap.size);rw[<-cj] at M NT⊢;clear cj bn;have bn:=I HV.o.ad;have T2:=I (OQ (r:=⟨0,ptR rE1,anR 9 1,[rE1]⟩) (now:=9) HV.o (by omega) (by omega) (by omega) (by decide) (by simp) SV.o (fun j x=>x) cf.o Vc.1 rfl Vc.2 (rfl:_=1) (rfl:_=1));have kg:=HG.c0
 go_upto_region 7 with(first
  |(go_at_call 17;refine Calls.mono T2.o ?_;rintro e w5 ⟨cY,es2,u2,rfl,h1,h2,h3,h4,h5,hk⟩;clear T2 kg;have bb:=I h1;have aw:=I h2;have bx:=I h3;replace HV:=I h5;have av:=hk.blk HG.o (fun y=>NG.o (.inl y));replace NG:=I (hk.notA NG.o HG.o.lt);replace HG:=I av;clear av;have cd:=hk.blk M.o (fun y=>NT.o (.inl y));replace M:=I cd;clear cd;replace Z:=I (Z.o.trans (hk.base bn.o));clear h1 h2 h3 h4 h5 hk)
  |(refine Wh.Bc (by rfl) 54 (.tmp 6) (.tmp 33) (by rfl) 54 rfl cY (by rfl) (by rfl) (by rw[bb.o];rfl) bx.o aw.o ?_;rintro V2 hV O;replace M:=I (M.o.below O);replace HV:=I (HV.o.below O);replace HG:=I (HG.o.below O);replace Z:=Z.t O;clear hV O bb bx aw)
  |fail)
 have CC:=I (Ix HV.o.ad);have kg:=HG.c0
 go_upto_region 8 with(first
  |(go_at_call 20;refine Aj CC.o ?_;rintro w6 O;clear CC kg;replace M:=I (M.o.below O);replace Z:=Z.t O;clear O)
  |fail)
 obtain⟨A,c2,cb,_⟩:=cg.o;rw[cc.o] at cb;have HC:=I (fun(w1:World) (O:Blk w1 PT 54 cX)=>(show w1.cell? ⟨PT,0,none⟩=some (.string ⟨pAnn.1.toArray⟩)/\w1.cell? ⟨PT,1,none⟩=some (.string ⟨pAnn.2.toArray⟩)/\w1.cell? ⟨PT,36,none⟩=some (.slice A 1 c2) by
  rw[cb] at O;have:=Xy (x:=⟨pAnn,pSv,k1L 7,[rE1],9,1⟩) (v:=.slice A 1 c2) (Bf 7);exact⟨(O.cell 0).trans this.1,(O.cell 1).trans this.2.1,(O.cell 36).trans this.2.2⟩))
 clear cb cg cc HV HG NG NT SV;have CN:=I (fun(w1:World)=>aR w1);have ca:Below w6.heap.size w6 w6.drew:=below_drewN Ah 1;replace M:=I (M.o.below ca);replace Z:=Z.t ca;clear ca;refine Reg.BR (fun w'=>Blk w' PT 54 cX) 27 rfl (by kernel_rfl) M.o ?_;refine Reg.ty 0 rfl M.o ?_;refine Reg.ty 1 (v:=.bool true) rfl M.o ?_;refine Reg.ty 2 (v:=.bool true) rfl M.o ?_;refine Reg.ty 3 rfl M.o ?_;refine Reg.ty 4 (v:=.bool true) rfl M.o ?_;refine Reg.ty 5 (v:=.bool true) rfl M.o ?_;refine Reg.ty 6 (v:=.bool true) rfl M.o ?_;refine Reg.ty 7 rfl M.o ?_;refine Reg.tw 8 (v:=Kd.prV pAnn) rfl M.o (fun w' hS=>by have p0:=(HC.o _ hS).1;have p1:=(HC.o _ hS).2.1;go_simp<;>rfl) ?_;refine Reg.b1 9 ?_
 right
 refine⟨_,_,_,_,_,_,22,#[],rfl,by rfl,(by go_simp<;>first | rfl | exact⟨rfl,rfl⟩),?_⟩;refine Aj (CN.o _) ?_;rintro ck O;replace M:=I (M.o.below O);replace Z:=Z.t O;clear O;clear CN;refine⟨_,rfl,M.o,?_⟩;simp only[Act.put,U,Aa,Ab];refine Reg.ty 10 (v:=.bool true) rfl M.o ?_;refine Reg.ty 11 (v:=.bool true) rfl M.o ?_;refine Reg.ty 12 (v:=.bool true) rfl M.o ?_;refine Reg.ty 13 rfl M.o ?_;refine Reg.tw 14 (v:=.slice A 1 c2) rfl M.o (fun w' hS=>by have cm:=(HC.o _ hS).2.2;go_simp<;>rfl) ?_;refine Reg.ty 15 (v:=.int .i64 1) rfl M.o ?_;refine Reg.ty 16 (v:=.bool true) rfl M.o ?_;refine Reg.ty 17 (v:=.bool true) rfl M.o ?_;refine Reg.ty 18 (v:=.bool true) rfl M.o ?_;refine Reg.ty 19 rfl M.o ?_;refine Reg.ty 20 (v:=.bool true) rfl M.o ?_;refine Reg.ty 21 (v:=.bool true) rfl M.o ?_;refine Reg.ty 22 (v:=.bool true) rfl M.o ?_;refine Reg.ty 23 rfl M.o ?_;refine Reg.ty 24 (v:=.bool true) rfl M.o ?_;refine Reg.ty 25 (v:=.bool true) rfl M.o ?_;refine Reg.ty 26 rfl M.o ?_;refine wpAnyH_done (by kernel_rfl) ?_ _
 go_wp2_with fail
 go_ret;exact⟨rfl,Z.o⟩
theorem Vd (tr:L) (en:Int):Tryz.prog.built 31 [(0,Kd.prV pAnn),(1,.agg (Be (k1 7))),(2,.string ⟨tr.toArray⟩),(4,.int .i64 en)]=some (ptA ⟨pAnn,k1L 7,tr,0,en⟩):=by
 rw[eh];show some (Ms.prC pAnn++((Be (k1 7)).toList++_)).toArray=some (Ms.prC pAnn++(bvs (k1L 7)++_)).toArray;rw[<-Yo]
theorem eD {c:Nm.L×Nm.L} {ss tr:L} {s e:Int} (Z:Ms.prB c=true) (O:Ms.txtB tr=true) (h3:tr.length<=300) (M:tmB s=true) (h5:tmB e=true):ptB ⟨c,ss,tr,s,e⟩=true:=by
 show(Ms.txtB tr&&(Ms.prB c&&(decide (tr.length<=300)&&(tmB s&&tmB e))))=true;rw[Z,O,M,h5,decide_eq_true h3];rfl
theorem eG {c:Nm.L×Nm.L} {t q:Int} (M:Ms.prB c=true) (O:tmB t=true) (Z:tmB q=true):anB ⟨c,t,q⟩=true:=by
 show(Ms.prB c&&(tmB t&&tmB q))=true;rw[M,O,Z];rfl
theorem CG:Ms.prB pAnn=true:=by decide +kernel
end Ac
end Go.Proofs.YtfbnjcdhipplpaaGreat
