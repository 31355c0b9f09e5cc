import Derived.Test.YthgignaohimadaaGreatZKdcRoutes14
set_option maxHeartbeats 25600000
set_option maxRecDepth 100000
set_option linter.unusedVariables false
set_option linter.unusedSimpArgs false
namespace Go.Proofs.YthgignaohimadaaGreat
namespace OpenQ
open Go.Joins Go.ChangeShapes Go.WideShapes Go.ChangeAt Go.RowKit Go.Deep Go.Proofs.YthgignaohimadaaGreat Af Rg Se
structure Ac where
 k:Int
 p:Pr
 y:Nat->UInt8
 n:Int
def aC (a:Ac):List Value:=.int .i64 a.k :: .string ⟨a.p.1.toArray⟩ :: .string ⟨a.p.2.toArray⟩ :: ((AY a.y).toList++[.int .i64 a.n])
def RdAc (w:World) (B:Nat) (A:Option Addr) (l:List Ac):Prop:=
 l = []\/∃g o,A=some ⟨g,o,none⟩/\g<B/\∀i x,l[i]? = some x->w.rangeAt g (o+i*36) (aC x)
theorem RdAc.keep {w w':World} {B:Nat} {A:Option Addr} {l:List Ac} (h:RdAc w B A l) (F:Below B w w'):RdAc w' B A l:=by
 rcases h with h | ⟨g,o,M,D,N⟩
 ·exact .inl h
 ·exact .inr ⟨g,o,M,D,fun i x E j v J=>(F.cell (p:=⟨g,_,none⟩) D).trans (N i x E j v J)⟩
section
variable {H:Type} {enc:TypeId×Value->H} {W:World}
end
end OpenQ
namespace Rg
open Go.RowKit Af Se OpenQ
section
variable {w:World} {g:Nat} {t:TypeId} {x:Ac}
end
section
variable {w w':World} {B r q:Nat} {v v' dv dv':Value} {es es':List Ent} {l l':List It} {g:Nat}
def Ap (r:Nat) (v:Value) (es:List Ent) (q:Nat) (dv:Value):Prop:=∀k,DO q dv k->¬RO r v es k
theorem aM (h:Ap r v es q dv) (E:DRing w B q dv l) (D:∀k,RO r v' es' k->RO r v es k\/w.heap.size<=k):Ap r v' es' q dv:=fun k hk x=>by
 rcases D k x with y | y
 ·exact h k hk y
 ·have:=E.own_lt hk;omega
theorem dy (h:Ap r v es q dv) (E:Ring w B r v es) (D:∀k,DO q dv' k->DO q dv k\/w.heap.size<=k):Ap r v es q dv':=fun k hk x=>by
 rcases D k hk with y | y
 ·exact h k y x
 ·have:=E.own_lt x;omega
theorem aN (h:Ap r v es q dv) (E:DRing w B q dv l) (D:Chg (AT r v) w w'):DRing w' B q dv l:=E.chg D (fun k hk x=>h k hk (az x))
theorem Xn (h:Ap r v es q dv) (E:Ring w B r v es) (D:Chg (DO q dv) w w'):Ring w' B r v es:=E.chg D (fun k hk x=>h k x hk)
end
end Rg
namespace Kd
open Go.RowKit Af Se
open Rg (It Ent Ring RO DRing DO Ap its addL addE addN Num BH prB)
structure Sc (a:Bool) (w:World) (B r:Nat) (v:Value) (es:List Ent) (q:Nat) (dv:Value) (j:Nat) (G:Nat->Prop):Prop where
 c:Ring w B r v es
 d:DRing w B q dv ((itX a).take j)
 e:its es=(itX a).take j
 z:Cz es 0
 ap:Ap r v es q dv
 g:∀k,G k->k<w.heap.size/\¬RO r v es k/\¬DO q dv k
section
variable {a:Bool} {G:Nat->Prop} {w w':World} {B r q j:Nat} {v dv:Value} {es:List Ent}
theorem Sc.below (h:Sc a w B r v es q dv j G) (D:Below w.heap.size w w'):Sc a w' B r v es q dv j G:=⟨h.c.below D,h.d.below D,h.e,h.z,h.ap,fun k hk=>⟨Nat.lt_of_lt_of_le (h.g k hk).1 D.size,(h.g k hk).2⟩⟩
theorem Sc.more {G2:Nat->Prop} (h:Sc a w B r v es q dv j G) (D:∀k,G2 k->G k\/(k<w.heap.size/\¬RO r v es k/\¬DO q dv k)):Sc a w B r v es q dv j G2:=⟨h.c,h.d,h.e,h.z,h.ap,fun k hk=>(D k hk).elim (h.g k) id⟩
theorem Sc.put (h:Sc a w B r v es q dv j G) {g:Nat} (E:G g) (D:w.grownBy w' (some g)):Sc a w' B r v es q dv j G:=by
 have F:Chg (fun k=>k=g) w w':=⟨D.os,D.tape,D.output,D.size,fun i hi J=>D.block i hi (fun e=>J (by injection e))⟩;exact⟨h.c.chg F (fun k hk e=>(h.g g E).2.1 (e▸hk)),h.d.chg F (fun k hk e=>(h.g g E).2.2 (e▸hk)),h.e,h.z,h.ap,fun k hk=>⟨Nat.lt_of_lt_of_le (h.g k hk).1 D.size,(h.g k hk).2⟩⟩
theorem take_len (h:Sc a w B r v es q dv j G):es.length<=5/\((itX a).take j).length<=5:=by
 have E:(itX a).length<=5:=by cases a<;>decide
 have F:((itX a).take j).length<=5:=by rw[List.length_take];omega
 have D:=congrArg List.length h.e;rw[Rg.Dh] at D;omega
theorem OJ {l:List It} {p:Ms.Pr} (h:addE l p=0) (k:Nat->UInt8):prB p=true/\l.length<40/\addL l p k=l++[⟨p,BH l p+1,k⟩]:=by
 unfold addE at h
 split at h
 ·rename_i h1
  split at h
  ·rename_i h2
   refine⟨h1,h2,?_⟩;rw[addL,if_pos h1,if_pos h2]
  ·cases h
 ·cases h
theorem UC (a:Bool) {i:It} (h:(itX a)[j]? = some i):i.p.1.length<=1000/\i.p.2.length<=1000:=by
 have D:=OJ (Qg a h) i.k;have:=Ms.Ft (p:=i.p) D.1;omega
theorem UD (h:Sc a w B r v es q dv j G) (hB:B<=w.heap.size) {i:It} (hi:(itX a)[j]? = some i) {cK:Array Value} (E:cK=AY i.k):Calls Tryz.prog 16 #[.pointer (some ⟨r,0,none⟩),prV i.p,.agg cK] w fun e w'=>
  (∃n:Int,e=.returned (.tuple #[.int .i64 n,.int .i64 0]))/\∃v' es',Ring w' B r v' es'/\DRing w' B q dv ((itX a).take j)/\its es'=(itX a).take (j+1)/\Cz es' 0/\Ap r v' es' q dv/\(∀k,G k->k<w'.heap.size/\¬RO r v' es' k/\¬DO q dv k)/\(∀k,G k->w'.heap[k]? = w.heap[k]?)/\Below B w w':=by
 subst E;have hp:=UC a hi;have hl:=take_len h;refine(Rg.ay B r v es i.p i.k w h.c hB (by omega) (by omega) (by omega) (by rw[h.e];exact Xg (numX a) j)).mono ?_;rintro e w' ⟨rfl,v',es',N,Z,O,D,J⟩;rw[h.e,Qg a hi];refine⟨⟨_,rfl⟩,v',es',N,Rg.aN h.ap h.d D,?_,?_,Rg.aM h.ap h.d J,fun k hk=>⟨Nat.lt_of_lt_of_le (h.g k hk).1 D.size,fun x=>?_,(h.g k hk).2.2⟩,fun k hk=>D.block k (h.g k hk).1 (fun x=>(h.g k hk).2.1 (Rg.az x)),D.below hB (fun k _ x=>h.c.own_lo (Rg.az x))⟩
 rotate_left 2
 ·rcases J k x with y | y
  ·exact(h.g k hk).2.1 y
  ·have:=(h.g k hk).1;omega
 ·rw[Z,h.e,(OJ (Qg a hi) i.k).2.2,Yu a hi]
 ·rcases O with rfl | ⟨x,rfl,z1,z2,z3⟩
  ·exact h.z
  ·intro F M he
   by_cases g:F<es.length
   ·rw[List.getElem?_append_left g] at he
    exact h.z F M he
   ·rw[List.getElem?_append_right (by omega)] at he
    have:M=x:=by
     rcases hk:F - es.length with _ | k
     ·rw[hk] at he;injection he with he;exact he.symm
     ·rw[hk] at he;simp at he
    subst this;omega
theorem Yx {v':Value} {es':List Ent} (M:Ring w B r v' es') (O:DRing w B q dv ((itX a).take j)) (he:its es'=(itX a).take (j+1)) (hz:Cz es' 0) (E:Ap r v' es' q dv) (D:∀k,G k->k<w.heap.size/\¬RO r v' es' k/\¬DO q dv k) (hB:B<=w.heap.size) {i:It} (hi:(itX a)[j]? = some i) {cK:Array Value} (J:cK=AY i.k):Calls Tryz.prog 17 #[.pointer (some ⟨q,0,none⟩),prV i.p,.agg cK] w fun e w'=>
  (∃n:Int,e=.returned (.tuple #[.int .i64 n,.int .i64 0]))/\∃dv',Sc a w' B r v' es' q dv' (j+1) G/\(∀k,G k->w'.heap[k]? = w.heap[k]?)/\Below B w w':=by
 subst J;have hp:=UC a hi;have hk:=OJ (Qg a hi) i.k;have hn:=(Yt a hi).1;refine(Rg.aB B q dv _ i.p i.k w O hB (by omega) (by omega) hk.1 hk.2.1 (by omega)).mono ?_;rintro e w' ⟨rfl,dv',Z,F,N⟩;refine⟨⟨_,rfl⟩,dv',⟨Rg.Xn E M F,by rw[Yu a hi];exact Z,he,hz,Rg.dy E M N,fun k hk=>⟨Nat.lt_of_lt_of_le (D k hk).1 F.size,(D k hk).2.1,fun x=>?_⟩⟩,fun k hk=>F.block k (D k hk).1 (D k hk).2.2,F.below hB (fun k _ x=>O.own_lo x)⟩;rcases N k x with y | y
 ·exact(D k hk).2.2 y
 ·have:=(D k hk).1;omega
end
end Kd
namespace Mc
open Go.RowKit Af DerP Ms
theorem AV (p:Pr) (w:World) (D:p.1.length<=1000000000) (E:p.2.length<=1000000000):Calls Tryz.prog 36 #[prV p] w fun e w'=>e=.returned (.bool (prB p))/\Below w.heap.size w w':=Nm.AV p.1 p.2 w D E
theorem Eh (n a b:Int) (w:World):Calls Tryz.prog 181 #[.int .i64 n,.int .i64 a,.int .i64 b] w fun e w'=>e=.returned (.bool (inB n a b))/\w=w':=by
 cases h1:decide (a<=n) with
 |false=>
  go_enter Tryz.func181,Tryz.ntmps181
  go_wp2
  go_ret;exact⟨by rw[inB,h1];rfl,rfl⟩
 |true=>
  go_enter Tryz.func181,Tryz.ntmps181
  go_wp2
  go_ret;exact⟨by rw[inB,h1];rfl,rfl⟩
theorem EP (n:Int) (w:World):Calls Tryz.prog 165 #[.int .i64 n] w fun e w'=>e=.returned (.bool (tmB n))/\w=w':=by
 have c1:=Eh n 0 1073741824 w;rw[show inB n 0 1073741824=tmB n from rfl] at c1;go_enter Tryz.func165,Tryz.ntmps165
 go_wp2_with (go_at_call 181;refine Aj c1 ?_;rintro w1 rfl)
 go_ret;exact⟨rfl,rfl⟩
theorem FD (n:Int) (w:World):Calls Tryz.prog 171 #[.int .i64 n] w fun e w'=>e=.returned (.bool (tmB n))/\w=w':=by
 have c1:=Eh n 0 1073741824 w;rw[show inB n 0 1073741824=tmB n from rfl] at c1;go_enter Tryz.func171,Tryz.ntmps171
 go_wp2_with (go_at_call 181;refine Aj c1 ?_;rintro w1 rfl)
 go_ret;exact⟨rfl,rfl⟩
theorem FZ (b:L) (A:Option Addr) (c:Nat) (w:World):Calls Tryz.prog 180 #[.slice A b.length c] w fun e w'=>e=.returned (.bool (Dm b))/\w=w':=by
 have c1:=Eh (b.length:Int) 1 800 w;rw[ah] at c1;go_enter Tryz.func180,Tryz.ntmps180
 go_wp2_with (go_at_call 181;refine Aj c1 ?_;rintro w1 rfl)
 go_ret;exact⟨rfl,rfl⟩
theorem FE (t:Tk) (A:Option Addr) (c:Nat) (w:World) (hs:pSm t.s):Calls Tryz.prog 179 #[.agg #[.string ⟨t.s.1.toArray⟩,.string ⟨t.s.2.toArray⟩,.int .i64 t.k,.slice A t.b.length c]] w fun e w'=>e=.returned (.bool (tkB t))/\Below w.heap.size w w':=by
 have aw:=(Below.refl w.heap.size w).alloc Ag (.cells #[.string ⟨t.s.1.toArray⟩,.string ⟨t.s.2.toArray⟩,.int .i64 t.k,.slice A t.b.length c] 29);have J:=I aw;have D:=I (Blk.new w 29 #[.string ⟨t.s.1.toArray⟩,.string ⟨t.s.2.toArray⟩,.int .i64 t.k,.slice A t.b.length c]);clear aw;have O:=I (fun w1=>AV t.s w1 hs.1 hs.2);have Z:=I (fun w1=>Eh t.k 1 255 w1);have T3:=I (fun w1=>FZ t.b A c w1);cases h1:prB t.s with
 |false=>
  rw[h1] at O;have E:=I (show tkB t=false by rw[tkB,h1];rfl);clear h1;go_enter Tryz.func179,Tryz.ntmps179
  go_wp2_with (go_at_call 36;(with_reducible refine Calls.mono (O.o _) ?_);rintro e w1 ⟨rfl,F⟩;replace D:=I (D.o.below F);replace J:=J.t F;clear F O;(try clear N k1 k2 M);have N:=D.o.cell 0;have k1:=D.o.cell 1;have k2:=D.o.cell 2;have M:=D.o.cell 3;simp only[List.getElem?_toArray,List.getElem?_cons_zero,List.getElem?_cons_succ] at N k1 k2 M)
  go_ret;exact⟨by rw[E.o];rfl,J.o⟩
 |true=>
  rw[h1] at O;cases h2:inB t.k 1 255 with
  |false=>
   rw[h2] at Z;have E:=I (show tkB t=false by rw[tkB,h1,h2];rfl);clear h1 h2;go_enter Tryz.func179,Tryz.ntmps179
   go_wp2_with (first
    |(go_at_call 36;(with_reducible refine Calls.mono (O.o _) ?_);rintro e w1 ⟨rfl,F⟩;replace D:=I (D.o.below F);replace J:=J.t F;clear F O;(try clear N k1 k2 M);have N:=D.o.cell 0;have k1:=D.o.cell 1;have k2:=D.o.cell 2;have M:=D.o.cell 3;simp only[List.getElem?_toArray,List.getElem?_cons_zero,List.getElem?_cons_succ] at N k1 k2 M)
    |(go_at_call 181;(with_reducible refine Calls.mono (Z.o _) ?_);rintro e w2 ⟨rfl,hw⟩;subst hw;clear Z))
   go_ret;exact⟨by rw[E.o];rfl,J.o⟩
  |true=>
   rw[h2] at Z;have E:=I (show tkB t=Dm t.b by rw[tkB,h1,h2];rfl);clear h1 h2;go_enter Tryz.func179,Tryz.ntmps179
   go_wp2_with (first
    |(go_at_call 36;(with_reducible refine Calls.mono (O.o _) ?_);rintro e w1 ⟨rfl,F⟩;replace D:=I (D.o.below F);replace J:=J.t F;clear F O;(try clear N k1 k2 M);have N:=D.o.cell 0;have k1:=D.o.cell 1;have k2:=D.o.cell 2;have M:=D.o.cell 3;simp only[List.getElem?_toArray,List.getElem?_cons_zero,List.getElem?_cons_succ] at N k1 k2 M)
    |(go_at_call 181;(with_reducible refine Calls.mono (Z.o _) ?_);rintro e w2 ⟨rfl,hw⟩;subst hw;clear Z)
    |(go_at_call 180;(with_reducible refine Calls.mono (T3.o _) ?_);rintro e w3 ⟨rfl,hw⟩;subst hw;clear T3))
   go_ret;exact⟨by rw[E.o];rfl,J.o⟩
theorem OK (a:An) (w:World) (hs:pSm a.c):Calls Tryz.prog 153 #[.agg #[.string ⟨a.c.1.toArray⟩,.string ⟨a.c.2.toArray⟩,.int .i64 a.t,.int .i64 a.q]] w fun e w'=>e=.returned (.bool (anB a))/\Below w.heap.size w w':=by
 have aw:=(Below.refl w.heap.size w).alloc Ag (.cells #[.string ⟨a.c.1.toArray⟩,.string ⟨a.c.2.toArray⟩,.int .i64 a.t,.int .i64 a.q] 42);have J:=I aw;have D:=I (Blk.new w 42 #[.string ⟨a.c.1.toArray⟩,.string ⟨a.c.2.toArray⟩,.int .i64 a.t,.int .i64 a.q]);clear aw;have O:=I (fun w1=>AV a.c w1 hs.1 hs.2);have Z:=I (fun w1=>EP a.t w1);have T3:=I (fun w1=>FD a.q w1);cases h1:prB a.c with
 |false=>
  rw[h1] at O;have E:=I (show anB a=false by rw[anB,h1];rfl);clear h1;go_enter Tryz.func153,Tryz.ntmps153
  go_wp2_with (go_at_call 36;(with_reducible refine Calls.mono (O.o _) ?_);rintro e w1 ⟨rfl,F⟩;replace D:=I (D.o.below F);replace J:=J.t F;clear F O;(try clear N k1 k2 M);have N:=D.o.cell 0;have k1:=D.o.cell 1;have k2:=D.o.cell 2;have M:=D.o.cell 3;simp only[List.getElem?_toArray,List.getElem?_cons_zero,List.getElem?_cons_succ] at N k1 k2 M)
  go_ret;exact⟨by rw[E.o];rfl,J.o⟩
 |true=>
  rw[h1] at O;cases h2:tmB a.t with
  |false=>
   rw[h2] at Z;have E:=I (show anB a=false by rw[anB,h1,h2];rfl);clear h1 h2;go_enter Tryz.func153,Tryz.ntmps153
   go_wp2_with (first
    |(go_at_call 36;(with_reducible refine Calls.mono (O.o _) ?_);rintro e w1 ⟨rfl,F⟩;replace D:=I (D.o.below F);replace J:=J.t F;clear F O;(try clear N k1 k2 M);have N:=D.o.cell 0;have k1:=D.o.cell 1;have k2:=D.o.cell 2;have M:=D.o.cell 3;simp only[List.getElem?_toArray,List.getElem?_cons_zero,List.getElem?_cons_succ] at N k1 k2 M)
    |(go_at_call 165;(with_reducible refine Calls.mono (Z.o _) ?_);rintro e w2 ⟨rfl,hw⟩;subst hw;clear Z))
   go_ret;exact⟨by rw[E.o];rfl,J.o⟩
  |true=>
   rw[h2] at Z;have E:=I (show anB a=tmB a.q by rw[anB,h1,h2];rfl);clear h1 h2;go_enter Tryz.func153,Tryz.ntmps153
   go_wp2_with (first
    |(go_at_call 36;(with_reducible refine Calls.mono (O.o _) ?_);rintro e w1 ⟨rfl,F⟩;replace D:=I (D.o.below F);replace J:=J.t F;clear F O;(try clear N k1 k2 M);have N:=D.o.cell 0;have k1:=D.o.cell 1;have k2:=D.o.cell 2;have M:=D.o.cell 3;simp only[List.getElem?_toArray,List.getElem?_cons_zero,List.getElem?_cons_succ] at N k1 k2 M)
    |(go_at_call 165;(with_reducible refine Calls.mono (Z.o _) ?_);rintro e w2 ⟨rfl,hw⟩;subst hw;clear Z)
    |(go_at_call 171;(with_reducible refine Calls.mono (T3.o _) ?_);rintro e w3 ⟨rfl,hw⟩;subst hw;clear T3))
   go_ret;exact⟨by rw[E.o];rfl,J.o⟩
theorem Xo (q:As) (w:World) (hs:pSm q.c) (aw:pSm q.s):Calls Tryz.prog 132 #[.agg #[.string ⟨q.c.1.toArray⟩,.string ⟨q.c.2.toArray⟩,.string ⟨q.s.1.toArray⟩,.string ⟨q.s.2.toArray⟩,.int .i64 q.t,.int .i64 q.no]] w fun e w'=>e=.returned (.bool (asB q))/\Below w.heap.size w w':=by
 have bx:=(Below.refl w.heap.size w).alloc Ag (.cells #[.string ⟨q.c.1.toArray⟩,.string ⟨q.c.2.toArray⟩,.string ⟨q.s.1.toArray⟩,.string ⟨q.s.2.toArray⟩,.int .i64 q.t,.int .i64 q.no] 86);have Z:=I bx;have D:=I (Blk.new w 86 #[.string ⟨q.c.1.toArray⟩,.string ⟨q.c.2.toArray⟩,.string ⟨q.s.1.toArray⟩,.string ⟨q.s.2.toArray⟩,.int .i64 q.t,.int .i64 q.no]);clear bx;have T1:=I (fun w1=>AV q.c w1 hs.1 hs.2);have T2:=I (fun w1=>AV q.s w1 aw.1 aw.2);have T3:=I (fun w1=>EP q.t w1);have T4:=I (fun w1=>FD q.no w1);cases h1:prB q.c with
 |false=>
  rw[h1] at T1;have E:=I (show asB q=false by rw[asB,h1];rfl);clear h1;go_enter Tryz.func132,Tryz.ntmps132
  go_wp2_with (go_at_call 36;(with_reducible refine Calls.mono (T1.o _) ?_);rintro e w1 ⟨rfl,F⟩;replace D:=I (D.o.below F);replace Z:=Z.t F;clear F T1;(try clear M k1 k2 J N O);have M:=D.o.cell 0;have k1:=D.o.cell 1;have k2:=D.o.cell 2;have J:=D.o.cell 3;have N:=D.o.cell 4;have O:=D.o.cell 5;simp only[List.getElem?_toArray,List.getElem?_cons_zero,List.getElem?_cons_succ] at M k1 k2 J N O)
  go_ret;exact⟨by rw[E.o];rfl,Z.o⟩
 |true=>
  rw[h1] at T1;cases h2:prB q.s with
  |false=>
   rw[h2] at T2;have E:=I (show asB q=false by rw[asB,h1,h2];rfl);clear h1 h2;go_enter Tryz.func132,Tryz.ntmps132
   go_wp2_with (first
    |(go_at_call 36;(with_reducible refine Calls.mono (T1.o _) ?_);rintro e w1 ⟨rfl,F⟩;replace D:=I (D.o.below F);replace Z:=Z.t F;clear F T1;(try clear M k1 k2 J N O);have M:=D.o.cell 0;have k1:=D.o.cell 1;have k2:=D.o.cell 2;have J:=D.o.cell 3;have N:=D.o.cell 4;have O:=D.o.cell 5;simp only[List.getElem?_toArray,List.getElem?_cons_zero,List.getElem?_cons_succ] at M k1 k2 J N O)
    |(go_at_call 36;(with_reducible refine Calls.mono (T2.o _) ?_);rintro e w2 ⟨rfl,F⟩;replace D:=I (D.o.below F);replace Z:=Z.t F;clear F T2;(try clear M k1 k2 J N O);have M:=D.o.cell 0;have k1:=D.o.cell 1;have k2:=D.o.cell 2;have J:=D.o.cell 3;have N:=D.o.cell 4;have O:=D.o.cell 5;simp only[List.getElem?_toArray,List.getElem?_cons_zero,List.getElem?_cons_succ] at M k1 k2 J N O))
   go_ret;exact⟨by rw[E.o];rfl,Z.o⟩
  |true=>
   rw[h2] at T2;cases h3:tmB q.t with
   |false=>
    rw[h3] at T3;have E:=I (show asB q=false by rw[asB,h1,h2,h3];rfl);clear h1 h2 h3;go_enter Tryz.func132,Tryz.ntmps132
    go_wp2_with (first
     |(go_at_call 36;(with_reducible refine Calls.mono (T1.o _) ?_);rintro e w1 ⟨rfl,F⟩;replace D:=I (D.o.below F);replace Z:=Z.t F;clear F T1;(try clear M k1 k2 J N O);have M:=D.o.cell 0;have k1:=D.o.cell 1;have k2:=D.o.cell 2;have J:=D.o.cell 3;have N:=D.o.cell 4;have O:=D.o.cell 5;simp only[List.getElem?_toArray,List.getElem?_cons_zero,List.getElem?_cons_succ] at M k1 k2 J N O)
     |(go_at_call 36;(with_reducible refine Calls.mono (T2.o _) ?_);rintro e w2 ⟨rfl,F⟩;replace D:=I (D.o.below F);replace Z:=Z.t F;clear F T2;(try clear M k1 k2 J N O);have M:=D.o.cell 0;have k1:=D.o.cell 1;have k2:=D.o.cell 2;have J:=D.o.cell 3;have N:=D.o.cell 4;have O:=D.o.cell 5;simp only[List.getElem?_toArray,List.getElem?_cons_zero,List.getElem?_cons_succ] at M k1 k2 J N O)
     |(go_at_call 165;(with_reducible refine Calls.mono (T3.o _) ?_);rintro e w3 ⟨rfl,hw⟩;subst hw;clear T3))
    go_ret;exact⟨by rw[E.o];rfl,Z.o⟩
   |true=>
    rw[h3] at T3;have E:=I (show asB q=tmB q.no by rw[asB,h1,h2,h3];rfl);clear h1 h2 h3;go_enter Tryz.func132,Tryz.ntmps132
    go_wp2_with (first
     |(go_at_call 36;(with_reducible refine Calls.mono (T1.o _) ?_);rintro e w1 ⟨rfl,F⟩;replace D:=I (D.o.below F);replace Z:=Z.t F;clear F T1;(try clear M k1 k2 J N O);have M:=D.o.cell 0;have k1:=D.o.cell 1;have k2:=D.o.cell 2;have J:=D.o.cell 3;have N:=D.o.cell 4;have O:=D.o.cell 5;simp only[List.getElem?_toArray,List.getElem?_cons_zero,List.getElem?_cons_succ] at M k1 k2 J N O)
     |(go_at_call 36;(with_reducible refine Calls.mono (T2.o _) ?_);rintro e w2 ⟨rfl,F⟩;replace D:=I (D.o.below F);replace Z:=Z.t F;clear F T2;(try clear M k1 k2 J N O);have M:=D.o.cell 0;have k1:=D.o.cell 1;have k2:=D.o.cell 2;have J:=D.o.cell 3;have N:=D.o.cell 4;have O:=D.o.cell 5;simp only[List.getElem?_toArray,List.getElem?_cons_zero,List.getElem?_cons_succ] at M k1 k2 J N O)
     |(go_at_call 165;(with_reducible refine Calls.mono (T3.o _) ?_);rintro e w3 ⟨rfl,hw⟩;subst hw;clear T3)
     |(go_at_call 171;(with_reducible refine Calls.mono (T4.o _) ?_);rintro e w4 ⟨rfl,hw⟩;subst hw;clear T4))
    go_ret;exact⟨by rw[E.o];rfl,Z.o⟩
theorem UE (q:Tg) (A1 A2:Option Addr) (c1 c2:Nat) (w:World) (hs:pSm q.t.s) (aw:pSm q.s):Calls Tryz.prog 133 #[.agg #[.string ⟨q.t.s.1.toArray⟩,.string ⟨q.t.s.2.toArray⟩,.int .i64 q.t.k,.slice A1 q.t.b.length c1,.slice A2 q.a.length c2,.string ⟨q.s.1.toArray⟩,.string ⟨q.s.2.toArray⟩,.int .i64 q.u,.int .i64 q.no]] w fun e w'=>e=.returned (.bool (tgB q))/\Below w.heap.size w w':=by
 have bx:=(Below.refl w.heap.size w).alloc Ag (.cells #[.string ⟨q.t.s.1.toArray⟩,.string ⟨q.t.s.2.toArray⟩,.int .i64 q.t.k,.slice A1 q.t.b.length c1,.slice A2 q.a.length c2,.string ⟨q.s.1.toArray⟩,.string ⟨q.s.2.toArray⟩,.int .i64 q.u,.int .i64 q.no] 31);have HB:=I bx;have D:=I (Blk.new w 31 #[.string ⟨q.t.s.1.toArray⟩,.string ⟨q.t.s.2.toArray⟩,.int .i64 q.t.k,.slice A1 q.t.b.length c1,.slice A2 q.a.length c2,.string ⟨q.s.1.toArray⟩,.string ⟨q.s.2.toArray⟩,.int .i64 q.u,.int .i64 q.no]);clear bx;have T1:=I (fun w1=>FE q.t A1 c1 w1 hs);have T2:=I (fun w1=>FZ q.a A2 c2 w1);have T3:=I (fun w1=>AV q.s w1 aw.1 aw.2);have T4:=I (fun w1=>EP q.u w1);have T5:=I (fun w1=>FD q.no w1);cases h1:tkB q.t with
 |false=>
  rw[h1] at T1;have E:=I (show tgB q=false by rw[tgB,h1];rfl);clear h1;go_enter Tryz.func133,Tryz.ntmps133
  go_wp2_with (go_at_call 179;(with_reducible refine Calls.mono (T1.o _) ?_);rintro e w1 ⟨rfl,F⟩;replace D:=I (D.o.below F);replace HB:=HB.t F;clear F T1;(try clear J k1 k2 O M N k6 Z k8);have J:=D.o.cell 0;have k1:=D.o.cell 1;have k2:=D.o.cell 2;have O:=D.o.cell 3;have M:=D.o.cell 4;have N:=D.o.cell 5;have k6:=D.o.cell 6;have Z:=D.o.cell 7;have k8:=D.o.cell 8;simp only[List.getElem?_toArray,List.getElem?_cons_zero,List.getElem?_cons_succ] at J k1 k2 O M N k6 Z k8)
  go_ret;exact⟨by rw[E.o];rfl,HB.o⟩
 |true=>
  rw[h1] at T1;cases h2:Dm q.a with
  |false=>
   rw[h2] at T2;have E:=I (show tgB q=false by rw[tgB,h1,h2];rfl);clear h1 h2;go_enter Tryz.func133,Tryz.ntmps133
   go_wp2_with (first
    |(go_at_call 179;(with_reducible refine Calls.mono (T1.o _) ?_);rintro e w1 ⟨rfl,F⟩;replace D:=I (D.o.below F);replace HB:=HB.t F;clear F T1;(try clear J k1 k2 O M N k6 Z k8);have J:=D.o.cell 0;have k1:=D.o.cell 1;have k2:=D.o.cell 2;have O:=D.o.cell 3;have M:=D.o.cell 4;have N:=D.o.cell 5;have k6:=D.o.cell 6;have Z:=D.o.cell 7;have k8:=D.o.cell 8;simp only[List.getElem?_toArray,List.getElem?_cons_zero,List.getElem?_cons_succ] at J k1 k2 O M N k6 Z k8)
    |(go_at_call 180;(with_reducible refine Calls.mono (T2.o _) ?_);rintro e w2 ⟨rfl,hw⟩;subst hw;clear T2))
   go_ret;exact⟨by rw[E.o];rfl,HB.o⟩
  |true=>
   rw[h2] at T2;cases h3:prB q.s with
   |false=>
    rw[h3] at T3;have E:=I (show tgB q=false by rw[tgB,h1,h2,h3];rfl);clear h1 h2 h3;go_enter Tryz.func133,Tryz.ntmps133
    go_wp2_with (first
     |(go_at_call 179;(with_reducible refine Calls.mono (T1.o _) ?_);rintro e w1 ⟨rfl,F⟩;replace D:=I (D.o.below F);replace HB:=HB.t F;clear F T1;(try clear J k1 k2 O M N k6 Z k8);have J:=D.o.cell 0;have k1:=D.o.cell 1;have k2:=D.o.cell 2;have O:=D.o.cell 3;have M:=D.o.cell 4;have N:=D.o.cell 5;have k6:=D.o.cell 6;have Z:=D.o.cell 7;have k8:=D.o.cell 8;simp only[List.getElem?_toArray,List.getElem?_cons_zero,List.getElem?_cons_succ] at J k1 k2 O M N k6 Z k8)
     |(go_at_call 180;(with_reducible refine Calls.mono (T2.o _) ?_);rintro e w2 ⟨rfl,hw⟩;subst hw;clear T2)
     |(go_at_call 36;(with_reducible refine Calls.mono (T3.o _) ?_);rintro e w3 ⟨rfl,F⟩;replace D:=I (D.o.below F);replace HB:=HB.t F;clear F T3;(try clear J k1 k2 O M N k6 Z k8);have J:=D.o.cell 0;have k1:=D.o.cell 1;have k2:=D.o.cell 2;have O:=D.o.cell 3;have M:=D.o.cell 4;have N:=D.o.cell 5;have k6:=D.o.cell 6;have Z:=D.o.cell 7;have k8:=D.o.cell 8;simp only[List.getElem?_toArray,List.getElem?_cons_zero,List.getElem?_cons_succ] at J k1 k2 O M N k6 Z k8))
    go_ret;exact⟨by rw[E.o];rfl,HB.o⟩
   |true=>
    rw[h3] at T3;cases h4:tmB q.u with
    |false=>
     rw[h4] at T4;have E:=I (show tgB q=false by rw[tgB,h1,h2,h3,h4];rfl);clear h1 h2 h3 h4;go_enter Tryz.func133,Tryz.ntmps133
     go_wp2_with (first
      |(go_at_call 179;(with_reducible refine Calls.mono (T1.o _) ?_);rintro e w1 ⟨rfl,F⟩;replace D:=I (D.o.below F);replace HB:=HB.t F;clear F T1;(try clear J k1 k2 O M N k6 Z k8);have J:=D.o.cell 0;have k1:=D.o.cell 1;have k2:=D.o.cell 2;have O:=D.o.cell 3;have M:=D.o.cell 4;have N:=D.o.cell 5;have k6:=D.o.cell 6;have Z:=D.o.cell 7;have k8:=D.o.cell 8;simp only[List.getElem?_toArray,List.getElem?_cons_zero,List.getElem?_cons_succ] at J k1 k2 O M N k6 Z k8)
      |(go_at_call 180;(with_reducible refine Calls.mono (T2.o _) ?_);rintro e w2 ⟨rfl,hw⟩;subst hw;clear T2)
      |(go_at_call 36;(with_reducible refine Calls.mono (T3.o _) ?_);rintro e w3 ⟨rfl,F⟩;replace D:=I (D.o.below F);replace HB:=HB.t F;clear F T3;(try clear J k1 k2 O M N k6 Z k8);have J:=D.o.cell 0;have k1:=D.o.cell 1;have k2:=D.o.cell 2;have O:=D.o.cell 3;have M:=D.o.cell 4;have N:=D.o.cell 5;have k6:=D.o.cell 6;have Z:=D.o.cell 7;have k8:=D.o.cell 8;simp only[List.getElem?_toArray,List.getElem?_cons_zero,List.getElem?_cons_succ] at J k1 k2 O M N k6 Z k8)
      |(go_at_call 165;(with_reducible refine Calls.mono (T4.o _) ?_);rintro e w4 ⟨rfl,hw⟩;subst hw;clear T4))
     go_ret;exact⟨by rw[E.o];rfl,HB.o⟩
    |true=>
     rw[h4] at T4;have E:=I (show tgB q=tmB q.no by rw[tgB,h1,h2,h3,h4];rfl);clear h1 h2 h3 h4;go_enter Tryz.func133,Tryz.ntmps133
     go_wp2_with (first
      |(go_at_call 179;(with_reducible refine Calls.mono (T1.o _) ?_);rintro e w1 ⟨rfl,F⟩;replace D:=I (D.o.below F);replace HB:=HB.t F;clear F T1;(try clear J k1 k2 O M N k6 Z k8);have J:=D.o.cell 0;have k1:=D.o.cell 1;have k2:=D.o.cell 2;have O:=D.o.cell 3;have M:=D.o.cell 4;have N:=D.o.cell 5;have k6:=D.o.cell 6;have Z:=D.o.cell 7;have k8:=D.o.cell 8;simp only[List.getElem?_toArray,List.getElem?_cons_zero,List.getElem?_cons_succ] at J k1 k2 O M N k6 Z k8)
      |(go_at_call 180;(with_reducible refine Calls.mono (T2.o _) ?_);rintro e w2 ⟨rfl,hw⟩;subst hw;clear T2)
      |(go_at_call 36;(with_reducible refine Calls.mono (T3.o _) ?_);rintro e w3 ⟨rfl,F⟩;replace D:=I (D.o.below F);replace HB:=HB.t F;clear F T3;(try clear J k1 k2 O M N k6 Z k8);have J:=D.o.cell 0;have k1:=D.o.cell 1;have k2:=D.o.cell 2;have O:=D.o.cell 3;have M:=D.o.cell 4;have N:=D.o.cell 5;have k6:=D.o.cell 6;have Z:=D.o.cell 7;have k8:=D.o.cell 8;simp only[List.getElem?_toArray,List.getElem?_cons_zero,List.getElem?_cons_succ] at J k1 k2 O M N k6 Z k8)
      |(go_at_call 165;(with_reducible refine Calls.mono (T4.o _) ?_);rintro e w4 ⟨rfl,hw⟩;subst hw;clear T4)
      |(go_at_call 171;(with_reducible refine Calls.mono (T5.o _) ?_);rintro e w5 ⟨rfl,hw⟩;subst hw;clear T5))
     go_ret;exact⟨by rw[E.o];rfl,HB.o⟩
theorem Xp (q:Re) (A1 A2:Option Addr) (c1 c2:Nat) (w:World) (hs:pSm q.t.s) (aw:pSm q.c):Calls Tryz.prog 134 #[.agg #[.string ⟨q.c.1.toArray⟩,.string ⟨q.c.2.toArray⟩,.string ⟨q.t.s.1.toArray⟩,.string ⟨q.t.s.2.toArray⟩,.int .i64 q.t.k,.slice A1 q.t.b.length c1,.slice A2 q.b.length c2]] w fun e w'=>e=.returned (.bool (reB q))/\Below w.heap.size w w':=by
 have bx:=(Below.refl w.heap.size w).alloc Ag (.cells #[.string ⟨q.c.1.toArray⟩,.string ⟨q.c.2.toArray⟩,.string ⟨q.t.s.1.toArray⟩,.string ⟨q.t.s.2.toArray⟩,.int .i64 q.t.k,.slice A1 q.t.b.length c1,.slice A2 q.b.length c2] 44);have HB:=I bx;have D:=I (Blk.new w 44 #[.string ⟨q.c.1.toArray⟩,.string ⟨q.c.2.toArray⟩,.string ⟨q.t.s.1.toArray⟩,.string ⟨q.t.s.2.toArray⟩,.int .i64 q.t.k,.slice A1 q.t.b.length c1,.slice A2 q.b.length c2]);clear bx;have T1:=I (fun w1=>AV q.c w1 aw.1 aw.2);have T2:=I (fun w1=>FE q.t A1 c1 w1 hs);have T3:=I (fun w1=>FZ q.b A2 c2 w1);cases h1:prB q.c with
 |false=>
  rw[h1] at T1;have E:=I (show reB q=false by rw[reB,h1];rfl);clear h1;go_enter Tryz.func134,Tryz.ntmps134
  go_wp2_with (go_at_call 36;(with_reducible refine Calls.mono (T1.o _) ?_);rintro e w1 ⟨rfl,F⟩;replace D:=I (D.o.below F);replace HB:=HB.t F;clear F T1;(try clear M k1 k2 J N Z O);have M:=D.o.cell 0;have k1:=D.o.cell 1;have k2:=D.o.cell 2;have J:=D.o.cell 3;have N:=D.o.cell 4;have Z:=D.o.cell 5;have O:=D.o.cell 6;simp only[List.getElem?_toArray,List.getElem?_cons_zero,List.getElem?_cons_succ] at M k1 k2 J N Z O)
  go_ret;exact⟨by rw[E.o];rfl,HB.o⟩
 |true=>
  rw[h1] at T1;cases h2:tkB q.t with
  |false=>
   rw[h2] at T2;have E:=I (show reB q=false by rw[reB,h1,h2];rfl);clear h1 h2;go_enter Tryz.func134,Tryz.ntmps134
   go_wp2_with (first
    |(go_at_call 36;(with_reducible refine Calls.mono (T1.o _) ?_);rintro e w1 ⟨rfl,F⟩;replace D:=I (D.o.below F);replace HB:=HB.t F;clear F T1;(try clear M k1 k2 J N Z O);have M:=D.o.cell 0;have k1:=D.o.cell 1;have k2:=D.o.cell 2;have J:=D.o.cell 3;have N:=D.o.cell 4;have Z:=D.o.cell 5;have O:=D.o.cell 6;simp only[List.getElem?_toArray,List.getElem?_cons_zero,List.getElem?_cons_succ] at M k1 k2 J N Z O)
    |(go_at_call 179;(with_reducible refine Calls.mono (T2.o _) ?_);rintro e w2 ⟨rfl,F⟩;replace D:=I (D.o.below F);replace HB:=HB.t F;clear F T2;(try clear M k1 k2 J N Z O);have M:=D.o.cell 0;have k1:=D.o.cell 1;have k2:=D.o.cell 2;have J:=D.o.cell 3;have N:=D.o.cell 4;have Z:=D.o.cell 5;have O:=D.o.cell 6;simp only[List.getElem?_toArray,List.getElem?_cons_zero,List.getElem?_cons_succ] at M k1 k2 J N Z O))
   go_ret;exact⟨by rw[E.o];rfl,HB.o⟩
  |true=>
   rw[h2] at T2;have E:=I (show reB q=Dm q.b by rw[reB,h1,h2];rfl);clear h1 h2;go_enter Tryz.func134,Tryz.ntmps134
   go_wp2_with (first
    |(go_at_call 36;(with_reducible refine Calls.mono (T1.o _) ?_);rintro e w1 ⟨rfl,F⟩;replace D:=I (D.o.below F);replace HB:=HB.t F;clear F T1;(try clear M k1 k2 J N Z O);have M:=D.o.cell 0;have k1:=D.o.cell 1;have k2:=D.o.cell 2;have J:=D.o.cell 3;have N:=D.o.cell 4;have Z:=D.o.cell 5;have O:=D.o.cell 6;simp only[List.getElem?_toArray,List.getElem?_cons_zero,List.getElem?_cons_succ] at M k1 k2 J N Z O)
    |(go_at_call 179;(with_reducible refine Calls.mono (T2.o _) ?_);rintro e w2 ⟨rfl,F⟩;replace D:=I (D.o.below F);replace HB:=HB.t F;clear F T2;(try clear M k1 k2 J N Z O);have M:=D.o.cell 0;have k1:=D.o.cell 1;have k2:=D.o.cell 2;have J:=D.o.cell 3;have N:=D.o.cell 4;have Z:=D.o.cell 5;have O:=D.o.cell 6;simp only[List.getElem?_toArray,List.getElem?_cons_zero,List.getElem?_cons_succ] at M k1 k2 J N Z O)
    |(go_at_call 180;(with_reducible refine Calls.mono (T3.o _) ?_);rintro e w3 ⟨rfl,hw⟩;subst hw;clear T3))
   go_ret;exact⟨by rw[E.o];rfl,HB.o⟩
theorem Xq (q:Ap) (A1 A2:Option Addr) (c1 c2:Nat) (w:World) (hs:pSm q.t.s):Calls Tryz.prog 135 #[.agg #[.string ⟨q.t.s.1.toArray⟩,.string ⟨q.t.s.2.toArray⟩,.int .i64 q.t.k,.slice A1 q.t.b.length c1,.slice A2 q.a.length c2]] w fun e w'=>e=.returned (.bool (apB q))/\Below w.heap.size w w':=by
 have aw:=(Below.refl w.heap.size w).alloc Ag (.cells #[.string ⟨q.t.s.1.toArray⟩,.string ⟨q.t.s.2.toArray⟩,.int .i64 q.t.k,.slice A1 q.t.b.length c1,.slice A2 q.a.length c2] 88);have J:=I aw;have D:=I (Blk.new w 88 #[.string ⟨q.t.s.1.toArray⟩,.string ⟨q.t.s.2.toArray⟩,.int .i64 q.t.k,.slice A1 q.t.b.length c1,.slice A2 q.a.length c2]);clear aw;have M:=I (fun w1=>FE q.t A1 c1 w1 hs);have T2:=I (fun w1=>FZ q.a A2 c2 w1);cases h1:tkB q.t with
 |false=>
  rw[h1] at M;have E:=I (show apB q=false by rw[apB,h1];rfl);clear h1;go_enter Tryz.func135,Tryz.ntmps135
  go_wp2_with (go_at_call 179;(with_reducible refine Calls.mono (M.o _) ?_);rintro e w1 ⟨rfl,F⟩;replace D:=I (D.o.below F);replace J:=J.t F;clear F M;(try clear O k1 k2 N Z);have O:=D.o.cell 0;have k1:=D.o.cell 1;have k2:=D.o.cell 2;have N:=D.o.cell 3;have Z:=D.o.cell 4;simp only[List.getElem?_toArray,List.getElem?_cons_zero,List.getElem?_cons_succ] at O k1 k2 N Z)
  go_ret;exact⟨by rw[E.o];rfl,J.o⟩
 |true=>
  rw[h1] at M;have E:=I (show apB q=Dm q.a by rw[apB,h1];rfl);clear h1;go_enter Tryz.func135,Tryz.ntmps135
  go_wp2_with (first
   |(go_at_call 179;(with_reducible refine Calls.mono (M.o _) ?_);rintro e w1 ⟨rfl,F⟩;replace D:=I (D.o.below F);replace J:=J.t F;clear F M;(try clear O k1 k2 N Z);have O:=D.o.cell 0;have k1:=D.o.cell 1;have k2:=D.o.cell 2;have N:=D.o.cell 3;have Z:=D.o.cell 4;simp only[List.getElem?_toArray,List.getElem?_cons_zero,List.getElem?_cons_succ] at O k1 k2 N Z)
   |(go_at_call 180;(with_reducible refine Calls.mono (T2.o _) ?_);rintro e w2 ⟨rfl,hw⟩;subst hw;clear T2))
  go_ret;exact⟨by rw[E.o];rfl,J.o⟩
theorem Xr (q:Fa) (w:World):Calls Tryz.prog 136 #[.agg #[.int .i64 q.e,.int .i64 q.no]] w fun e w'=>e=.returned (.bool (faB q))/\Below w.heap.size w w':=by
 have F:=(Below.refl w.heap.size w).alloc Ag (.cells #[.int .i64 q.e,.int .i64 q.no] 90);have J:=I F;have O:=I (Blk.new w 90 #[.int .i64 q.e,.int .i64 q.no]);clear F;have D:=I (fun w1=>Eh q.e 1 255 w1);have M:=I (fun w1=>FD q.no w1);cases h1:inB q.e 1 255 with
 |false=>
  rw[h1] at D;have E:=I (show faB q=false by rw[faB,h1];rfl);clear h1;go_enter Tryz.func136,Tryz.ntmps136
  go_wp2_with (go_at_call 181;(with_reducible refine Calls.mono (D.o _) ?_);rintro e w1 ⟨rfl,hw⟩;subst hw;clear D)
  go_ret;exact⟨by rw[E.o];rfl,J.o⟩
 |true=>
  rw[h1] at D;have E:=I (show faB q=tmB q.no by rw[faB,h1];rfl);clear h1;go_enter Tryz.func136,Tryz.ntmps136
  go_wp2_with (first
   |(go_at_call 181;(with_reducible refine Calls.mono (D.o _) ?_);rintro e w1 ⟨rfl,hw⟩;subst hw;clear D)
   |(go_at_call 171;(with_reducible refine Calls.mono (M.o _) ?_);rintro e N ⟨rfl,hw⟩;subst hw;clear M))
  go_ret;exact⟨by rw[E.o];rfl,J.o⟩
open DerR
theorem Ji (t:UInt8) (p:L):0<(elem t p).length:=by rw[Er];omega
theorem JY (l:L) (w:World) (D:l.length<=65535):Calls Tryz.prog 169 #[.string ⟨l.toArray⟩] w (Cc w (elem 27 l)):=
 (DerW.Es l w D).mono fun e w' h=>by obtain⟨v,rfl,E,F⟩:=h;exact Fo E (Ji _ _) F
theorem Cb (n:Int) (w:World):Calls Tryz.prog 170 #[.int .i64 n] w (Cc w (encI n)):=
 (DerW.DF n w).mono fun e w' h=>by obtain⟨v,rfl,D,E⟩:=h;exact Fo D (Ji _ _) E
theorem Di (l:L) (A:Option Addr) (n c B:Nat) (w:World) (E:Rd w B A (bvs l)) (J:n=l.length) (hB:B<=w.heap.size) (F:l.length<=65535):Calls Tryz.prog 168 #[.slice A n c] w (Cc w (elem 4 l)):=
 (DerW.Ed l A n c B w E J hB F).mono fun e w' h=>by obtain⟨v,rfl,D,M⟩:=h;exact Fo D (Ji _ _) M
theorem Cr (t:UInt8) (ls:List L) (A:Option Addr) (m c B:Nat) (w:World) (E:DerW.Rds w B A ls) (hm:m=ls.length) (hB:B<=w.heap.size) (F:ls.flatten.length<=65535) (M:ls.length<=1000000) :
  Calls Tryz.prog 166 #[.int .u8 t.toNat,.slice A m c] w (Cc w (elem t ls.flatten)):=
 (DerW.DQ t ls A m c B w E hm hB F M).mono fun e w' h=>by obtain⟨v,rfl,D,J⟩:=h;exact Fo D (Ji _ _) J
theorem BS (p:Pr) (w:World) (hp:prB p=true):Calls Tryz.prog 167 #[.agg #[.string ⟨p.1.toArray⟩,.string ⟨p.2.toArray⟩]] w (Cc w (prE p)):=by
 have F:=I ((Below.refl w.heap.size w).alloc Ag (.cells #[.string ⟨p.1.toArray⟩,.string ⟨p.2.toArray⟩] 23));have D:=I (Blk.new w 23 #[.string ⟨p.1.toArray⟩,.string ⟨p.2.toArray⟩]);have b1:=Ft hp;have b2:=AE 27 p.1;have b3:=AE 27 p.2;have T1:=I (fun w1=>JY p.1 w1 (by omega));have T2:=I (fun w1=>JY p.2 w1 (by omega));have HL:=I (show [elem 27 p.1,elem 27 p.2].flatten.length<=65535 by rw[Gc];simp only[List.length_append];omega);have HE:=I (show prE p=elem 48 [elem 27 p.1,elem 27 p.2].flatten from rfl);obtain⟨l1,O⟩:∃l,l=elem 27 p.1:=⟨_,rfl⟩;obtain⟨l2,M⟩:∃l,l=elem 27 p.2:=⟨_,rfl⟩;rw[<-O] at T1 HL HE;rw[<-M] at T2 HL HE;rw[HE.o,Gc];clear HE O M b1 b2 b3 hp;go_enter Tryz.func167,Tryz.ntmps167
 go_wp2
 obtain⟨W,eW⟩:=Ak (w.alloc (.cells #[.string ⟨p.1.toArray⟩,.string ⟨p.2.toArray⟩] 23));rw[<-eW] at F D⊢;clear eW;replace D:=I (show Blk W.drew _ _ _ from D.o.drewN 1);replace F:=I (show Below _ _ W.drew from below_drewN F.o 1)
 go_region_held3 (fun w'=>w'.cell? ⟨w.heap.size,0,none⟩=some (.string ⟨p.1.toArray⟩)/\w'.cell? ⟨w.heap.size,1,none⟩=some (.string ⟨p.2.toArray⟩)) (first | exact⟨D.o.cell 0,D.o.cell 1⟩ | exact⟨(D.o.alloc _).cell 0,(D.o.alloc _).cell 1⟩) ((first
  |(go_at_call 169;(with_reducible refine Calls.mono (T1.o _) ?_);rintro e w1 ⟨⟨g1,c1,rfl,ca,cb,bB⟩,E⟩;clear T1;have J:=I bB;replace D:=I (D.o.below E);replace F:=F.t E;clear E bB ca cb)
  |(go_at_call 169;(with_reducible refine Calls.mono (T2.o _) ?_);rintro e w2 ⟨⟨g2,c2,rfl,cc,cd,bx⟩,E⟩;clear T2;replace J:=I (Ba J.o E);have cf:=I bx;replace D:=I (D.o.below E);replace F:=F.t E;clear E bx cc cd)
  |(go_at_call 166;refine Calls.mono (Cr 48 [l1,l2] _ 2 2 (w2.heap.size+1) _ (LA J.o cf.o) rfl (by simp) HL.o (by simp)) ?_;rintro e wz ⟨⟨gz,cz,rfl,Z,bz,N⟩,E⟩;have aw:=(Below.refl w2.heap.size w2).alloc Ag (.cells #[.slice (some ⟨g1,0,none⟩) l1.length c1,.slice (some ⟨g2,0,none⟩) l2.length c2] 27);have HG:=I (Bi (l:=elem 48 [l1,l2].flatten) ⟨⟨gz,cz,rfl,Z,bz,N⟩,E⟩ (F.o.trans (aw.mono F.o.size)));rw[Gc] at HG;replace D:=I ((D.o.alloc (.cells #[.slice (some ⟨g1,0,none⟩) l1.length c1,.slice (some ⟨g2,0,none⟩) l2.length c2] 27)).below E);clear aw Z bz N E)))
 go_wp2
 go_ret;exact HG.o
theorem EW (t:Tk) (A:Option Addr) (c:Nat) (w:World) (ht:tkB t=true) (hr:Rd w w.heap.size A (bvs t.b)):Calls Tryz.prog 182 #[.agg #[.string ⟨t.s.1.toArray⟩,.string ⟨t.s.2.toArray⟩,.int .i64 t.k,.slice A t.b.length c]] w (Cc w (tkE t)):=by
 have F:=I ((Below.refl w.heap.size w).alloc Ag (.cells #[.string ⟨t.s.1.toArray⟩,.string ⟨t.s.2.toArray⟩,.int .i64 t.k,.slice A t.b.length c] 29));have D:=I (Blk.new w 29 #[.string ⟨t.s.1.toArray⟩,.string ⟨t.s.2.toArray⟩,.int .i64 t.k,.slice A t.b.length c]);have hp:=Py ht;have b1:=(Bl hp.1).1;have b2:=AI t.k;have b3:=AE 4 t.b;have T1:=I (fun w1=>BS t.s w1 hp.1);have T2:=I (fun w1=>Cb t.k w1);have T3:=I (fun w1 (h:Below w.heap.size w w1)=>Di t.b A t.b.length c w1.heap.size w1 ((hr.below h).more h.size) rfl Ag (by omega));have HL:=I (show [prE t.s,encI t.k,elem 4 t.b].flatten.length<=65535 by rw[Gd];simp only[List.length_append];omega);have HE:=I (show tkE t=elem 97 [prE t.s,encI t.k,elem 4 t.b].flatten from rfl);obtain⟨l1,Z⟩:∃l,l=prE t.s:=⟨_,rfl⟩;obtain⟨l2,N⟩:∃l,l=encI t.k:=⟨_,rfl⟩;obtain⟨l3,bx⟩:∃l,l=elem 4 t.b:=⟨_,rfl⟩;rw[<-Z] at T1 HL HE;rw[<-N] at T2 HL HE;rw[<-bx] at T3 HL HE;rw[HE.o,Gd];clear HE Z N bx hp b1 b2 b3 ht hr;go_enter Tryz.func182,Tryz.ntmps182
 go_wp2
 obtain⟨W,eW⟩:=Ak (w.alloc (.cells #[.string ⟨t.s.1.toArray⟩,.string ⟨t.s.2.toArray⟩,.int .i64 t.k,.slice A t.b.length c] 29));rw[<-eW] at F D⊢;clear eW;replace D:=I (show Blk W.drew _ _ _ from D.o.drewN 1);replace F:=I (show Below _ _ W.drew from below_drewN F.o 1)
 go_region_held3 (fun w'=>w'.cell? ⟨w.heap.size,0,none⟩=some (.string ⟨t.s.1.toArray⟩)/\w'.cell? ⟨w.heap.size,1,none⟩=some (.string ⟨t.s.2.toArray⟩)/\w'.cell? ⟨w.heap.size,2,none⟩=some (.int .i64 t.k)/\w'.cell? ⟨w.heap.size,3,none⟩=some (.slice A t.b.length c)) (first | exact⟨D.o.cell 0,D.o.cell 1,D.o.cell 2,D.o.cell 3⟩ | exact⟨(D.o.alloc _).cell 0,(D.o.alloc _).cell 1,(D.o.alloc _).cell 2,(D.o.alloc _).cell 3⟩) ((first
  |(go_at_call 167;(with_reducible refine Calls.mono (T1.o _) ?_);rintro e w1 ⟨⟨g1,c1,rfl,cd,cf,cc⟩,E⟩;clear T1;have J:=I cc;replace D:=I (D.o.below E);replace F:=F.t E;clear E cc cd cf)
  |(go_at_call 170;(with_reducible refine Calls.mono (T2.o _) ?_);rintro e w2 ⟨⟨g2,c2,rfl,cg,ck,bB⟩,E⟩;clear T2;replace J:=I (Ba J.o E);have M:=I bB;replace D:=I (D.o.below E);replace F:=F.t E;clear E bB cg ck)
  |(go_at_call 168;(with_reducible refine Calls.mono (T3.o _ F.o) ?_);rintro e w3 ⟨⟨g3,c3,rfl,cm,cn,cb⟩,E⟩;clear T3;replace J:=I (Ba J.o E);replace M:=I (Ba M.o E);have cj:=I cb;replace D:=I (D.o.below E);replace F:=F.t E;clear E cb cm cn)
  |(go_at_call 166;refine Calls.mono (Cr 97 [l1,l2,l3] _ 3 3 (w3.heap.size+1) _ (Hd J.o M.o cj.o) rfl (by simp) HL.o (by simp)) ?_;rintro e wz ⟨⟨gz,cz,rfl,aw,ca,O⟩,E⟩;have bz:=(Below.refl w3.heap.size w3).alloc Ag (.cells #[.slice (some ⟨g1,0,none⟩) l1.length c1,.slice (some ⟨g2,0,none⟩) l2.length c2,.slice (some ⟨g3,0,none⟩) l3.length c3] 27);have HG:=I (Bi (l:=elem 97 [l1,l2,l3].flatten) ⟨⟨gz,cz,rfl,aw,ca,O⟩,E⟩ (F.o.trans (bz.mono F.o.size)));rw[Gd] at HG;replace D:=I ((D.o.alloc (.cells #[.slice (some ⟨g1,0,none⟩) l1.length c1,.slice (some ⟨g2,0,none⟩) l2.length c2,.slice (some ⟨g3,0,none⟩) l3.length c3] 27)).below E);clear bz aw ca O E)))
 go_wp2
 go_ret;exact HG.o
theorem Nl (a:An) (w:World) (ha:anB a=true):Calls Tryz.prog 154 #[.agg #[.string ⟨a.c.1.toArray⟩,.string ⟨a.c.2.toArray⟩,.int .i64 a.t,.int .i64 a.q]] w (Cc w (anE a)):=by
 have F:=I ((Below.refl w.heap.size w).alloc Ag (.cells #[.string ⟨a.c.1.toArray⟩,.string ⟨a.c.2.toArray⟩,.int .i64 a.t,.int .i64 a.q] 42));have D:=I (Blk.new w 42 #[.string ⟨a.c.1.toArray⟩,.string ⟨a.c.2.toArray⟩,.int .i64 a.t,.int .i64 a.q]);have hp:prB a.c=true/\tmB a.t=true/\tmB a.q=true:=by simpa [anB] using ha
 have b1:=(Bl hp.1).1;have b2:=AI a.t;have b3:=AI a.q;have T1:=I (fun w1=>BS a.c w1 hp.1);have T2:=I (fun w1=>Cb a.t w1);have T3:=I (fun w1=>Cb a.q w1);have HL:=I (show [prE a.c,encI a.t,encI a.q].flatten.length<=65535 by rw[Gd];simp only[List.length_append];omega);have HE:=I (show anE a=elem 98 [prE a.c,encI a.t,encI a.q].flatten from rfl);obtain⟨l1,Z⟩:∃l,l=prE a.c:=⟨_,rfl⟩;obtain⟨l2,N⟩:∃l,l=encI a.t:=⟨_,rfl⟩;obtain⟨l3,bx⟩:∃l,l=encI a.q:=⟨_,rfl⟩;rw[<-Z] at T1 HL HE;rw[<-N] at T2 HL HE;rw[<-bx] at T3 HL HE;rw[HE.o,Gd];clear HE Z N bx hp b1 b2 b3 ha;go_enter Tryz.func154,Tryz.ntmps154
 go_wp2
 obtain⟨W,eW⟩:=Ak (w.alloc (.cells #[.string ⟨a.c.1.toArray⟩,.string ⟨a.c.2.toArray⟩,.int .i64 a.t,.int .i64 a.q] 42));rw[<-eW] at F D⊢;clear eW;replace D:=I (show Blk W.drew _ _ _ from D.o.drewN 1);replace F:=I (show Below _ _ W.drew from below_drewN F.o 1)
 go_region_held3 (fun w'=>w'.cell? ⟨w.heap.size,0,none⟩=some (.string ⟨a.c.1.toArray⟩)/\w'.cell? ⟨w.heap.size,1,none⟩=some (.string ⟨a.c.2.toArray⟩)/\w'.cell? ⟨w.heap.size,2,none⟩=some (.int .i64 a.t)/\w'.cell? ⟨w.heap.size,3,none⟩=some (.int .i64 a.q)) (first | exact⟨D.o.cell 0,D.o.cell 1,D.o.cell 2,D.o.cell 3⟩ | exact⟨(D.o.alloc _).cell 0,(D.o.alloc _).cell 1,(D.o.alloc _).cell 2,(D.o.alloc _).cell 3⟩) ((first
  |(go_at_call 167;(with_reducible refine Calls.mono (T1.o _) ?_);rintro e w1 ⟨⟨g1,c1,rfl,cd,cf,cc⟩,E⟩;clear T1;have J:=I cc;replace D:=I (D.o.below E);replace F:=F.t E;clear E cc cd cf)
  |(go_at_call 170;(with_reducible refine Calls.mono (T2.o _) ?_);rintro e w2 ⟨⟨g2,c2,rfl,cg,ck,bB⟩,E⟩;clear T2;replace J:=I (Ba J.o E);have M:=I bB;replace D:=I (D.o.below E);replace F:=F.t E;clear E bB cg ck)
  |(go_at_call 170;(with_reducible refine Calls.mono (T3.o _) ?_);rintro e w3 ⟨⟨g3,c3,rfl,cm,cn,cb⟩,E⟩;clear T3;replace J:=I (Ba J.o E);replace M:=I (Ba M.o E);have cj:=I cb;replace D:=I (D.o.below E);replace F:=F.t E;clear E cb cm cn)
  |(go_at_call 166;refine Calls.mono (Cr 98 [l1,l2,l3] _ 3 3 (w3.heap.size+1) _ (Hd J.o M.o cj.o) rfl (by simp) HL.o (by simp)) ?_;rintro e wz ⟨⟨gz,cz,rfl,aw,ca,O⟩,E⟩;have bz:=(Below.refl w3.heap.size w3).alloc Ag (.cells #[.slice (some ⟨g1,0,none⟩) l1.length c1,.slice (some ⟨g2,0,none⟩) l2.length c2,.slice (some ⟨g3,0,none⟩) l3.length c3] 27);have HG:=I (Bi (l:=elem 98 [l1,l2,l3].flatten) ⟨⟨gz,cz,rfl,aw,ca,O⟩,E⟩ (F.o.trans (bz.mono F.o.size)));rw[Gd] at HG;replace D:=I ((D.o.alloc (.cells #[.slice (some ⟨g1,0,none⟩) l1.length c1,.slice (some ⟨g2,0,none⟩) l2.length c2,.slice (some ⟨g3,0,none⟩) l3.length c3] 27)).below E);clear bz aw ca O E)))
 go_wp2
 go_ret;exact HG.o
theorem UF (q:As) (w:World) (ha:asB q=true):Calls Tryz.prog 137 #[.agg #[.string ⟨q.c.1.toArray⟩,.string ⟨q.c.2.toArray⟩,.string ⟨q.s.1.toArray⟩,.string ⟨q.s.2.toArray⟩,.int .i64 q.t,.int .i64 q.no]] w (Cc w (asE q)):=by
 have J:=I ((Below.refl w.heap.size w).alloc Ag (.cells #[.string ⟨q.c.1.toArray⟩,.string ⟨q.c.2.toArray⟩,.string ⟨q.s.1.toArray⟩,.string ⟨q.s.2.toArray⟩,.int .i64 q.t,.int .i64 q.no] 86));have E:=I (Blk.new w 86 #[.string ⟨q.c.1.toArray⟩,.string ⟨q.c.2.toArray⟩,.string ⟨q.s.1.toArray⟩,.string ⟨q.s.2.toArray⟩,.int .i64 q.t,.int .i64 q.no]);have hp:prB q.c=true/\prB q.s=true/\tmB q.t=true/\tmB q.no=true:=by simpa [asB] using ha
 have b1:=(Bl hp.1).1;have b2:=(Bl hp.2.1).1;have b3:=AI q.t;have b4:=AI q.no;have T1:=I (fun w1=>BS q.c w1 hp.1);have T2:=I (fun w1=>BS q.s w1 hp.2.1);have T3:=I (fun w1=>Cb q.t w1);have T4:=I (fun w1=>Cb q.no w1);have HL:=I (show [prE q.c,prE q.s,encI q.t,encI q.no].flatten.length<=65535 by rw[Wv];simp only[List.length_append];omega);have O:=I (show asE q=elem 106 [prE q.c,prE q.s,encI q.t,encI q.no].flatten from rfl);obtain⟨l1,cc⟩:∃l,l=prE q.c:=⟨_,rfl⟩;obtain⟨l2,Z⟩:∃l,l=prE q.s:=⟨_,rfl⟩;obtain⟨l3,bx⟩:∃l,l=encI q.t:=⟨_,rfl⟩;obtain⟨l4,cf⟩:∃l,l=encI q.no:=⟨_,rfl⟩;rw[<-cc] at T1 HL O;rw[<-Z] at T2 HL O;rw[<-bx] at T3 HL O;rw[<-cf] at T4 HL O;rw[O.o,Wv];clear O cc Z bx cf hp b1 b2 b3 b4 ha;go_enter Tryz.func137,Tryz.ntmps137
 go_wp2
 obtain⟨W,eW⟩:=Ak (w.alloc (.cells #[.string ⟨q.c.1.toArray⟩,.string ⟨q.c.2.toArray⟩,.string ⟨q.s.1.toArray⟩,.string ⟨q.s.2.toArray⟩,.int .i64 q.t,.int .i64 q.no] 86));rw[<-eW] at J E⊢;clear eW;replace E:=I (show Blk W.drew _ _ _ from E.o.drewN 1);replace J:=I (show Below _ _ W.drew from below_drewN J.o 1)
 go_region_held3 (fun w'=>w'.cell? ⟨w.heap.size,0,none⟩=some (.string ⟨q.c.1.toArray⟩)/\w'.cell? ⟨w.heap.size,1,none⟩=some (.string ⟨q.c.2.toArray⟩)/\w'.cell? ⟨w.heap.size,2,none⟩=some (.string ⟨q.s.1.toArray⟩)/\w'.cell? ⟨w.heap.size,3,none⟩=some (.string ⟨q.s.2.toArray⟩)/\w'.cell? ⟨w.heap.size,4,none⟩=some (.int .i64 q.t)/\w'.cell? ⟨w.heap.size,5,none⟩=some (.int .i64 q.no)) (first | exact⟨E.o.cell 0,E.o.cell 1,E.o.cell 2,E.o.cell 3,E.o.cell 4,E.o.cell 5⟩ | exact⟨(E.o.alloc _).cell 0,(E.o.alloc _).cell 1,(E.o.alloc _).cell 2,(E.o.alloc _).cell 3,(E.o.alloc _).cell 4,(E.o.alloc _).cell 5⟩) ((first
  |(go_at_call 167;(with_reducible refine Calls.mono (T1.o _) ?_);rintro e w1 ⟨⟨g1,c1,rfl,ck,cr,cj⟩,D⟩;clear T1;have F:=I cj;replace E:=I (E.o.below D);replace J:=J.t D;clear D cj ck cr)
  |(go_at_call 167;(with_reducible refine Calls.mono (T2.o _) ?_);rintro e w2 ⟨⟨g2,c2,rfl,cm,cn,cg⟩,D⟩;clear T2;replace F:=I (Ba F.o D);have M:=I cg;replace E:=I (E.o.below D);replace J:=J.t D;clear D cg cm cn)
  |(go_at_call 170;(with_reducible refine Calls.mono (T3.o _) ?_);rintro e w3 ⟨⟨g3,c3,rfl,cq,cw,ca⟩,D⟩;clear T3;replace F:=I (Ba F.o D);replace M:=I (Ba M.o D);have N:=I ca;replace E:=I (E.o.below D);replace J:=J.t D;clear D ca cq cw)
  |(go_at_call 170;(with_reducible refine Calls.mono (T4.o _) ?_);rintro e w4 ⟨⟨g4,c4,rfl,ct,cp,cd⟩,D⟩;clear T4;replace F:=I (Ba F.o D);replace M:=I (Ba M.o D);replace N:=I (Ba N.o D);have cu:=I cd;replace E:=I (E.o.below D);replace J:=J.t D;clear D cd ct cp)
  |(go_at_call 166;refine Calls.mono (Cr 106 [l1,l2,l3,l4] _ 4 4 (w4.heap.size+1) _ (WV F.o M.o N.o cu.o) rfl (by simp) HL.o (by simp)) ?_;rintro e wz ⟨⟨gz,cz,rfl,aw,bB,cb⟩,D⟩;have bz:=(Below.refl w4.heap.size w4).alloc Ag (.cells #[.slice (some ⟨g1,0,none⟩) l1.length c1,.slice (some ⟨g2,0,none⟩) l2.length c2,.slice (some ⟨g3,0,none⟩) l3.length c3,.slice (some ⟨g4,0,none⟩) l4.length c4] 27);have HG:=I (Bi (l:=elem 106 [l1,l2,l3,l4].flatten) ⟨⟨gz,cz,rfl,aw,bB,cb⟩,D⟩ (J.o.trans (bz.mono J.o.size)));rw[Wv] at HG;replace E:=I ((E.o.alloc (.cells #[.slice (some ⟨g1,0,none⟩) l1.length c1,.slice (some ⟨g2,0,none⟩) l2.length c2,.slice (some ⟨g3,0,none⟩) l3.length c3,.slice (some ⟨g4,0,none⟩) l4.length c4] 27)).below D);clear bz aw bB cb D)))
 go_wp2
 go_ret;exact HG.o
theorem UG (q:Tg) (A1 A2:Option Addr) (c1 c2:Nat) (w:World) (ha:tgB q=true) (Z:Rd w w.heap.size A1 (bvs q.t.b)) (O:Rd w w.heap.size A2 (bvs q.a)):Calls Tryz.prog 138 #[.agg #[.string ⟨q.t.s.1.toArray⟩,.string ⟨q.t.s.2.toArray⟩,.int .i64 q.t.k,.slice A1 q.t.b.length c1,.slice A2 q.a.length c2,.string ⟨q.s.1.toArray⟩,.string ⟨q.s.2.toArray⟩,.int .i64 q.u,.int .i64 q.no]] w (Cc w (tgE q)):=by
 have J:=I ((Below.refl w.heap.size w).alloc Ag (.cells #[.string ⟨q.t.s.1.toArray⟩,.string ⟨q.t.s.2.toArray⟩,.int .i64 q.t.k,.slice A1 q.t.b.length c1,.slice A2 q.a.length c2,.string ⟨q.s.1.toArray⟩,.string ⟨q.s.2.toArray⟩,.int .i64 q.u,.int .i64 q.no] 31));have E:=I (Blk.new w 31 #[.string ⟨q.t.s.1.toArray⟩,.string ⟨q.t.s.2.toArray⟩,.int .i64 q.t.k,.slice A1 q.t.b.length c1,.slice A2 q.a.length c2,.string ⟨q.s.1.toArray⟩,.string ⟨q.s.2.toArray⟩,.int .i64 q.u,.int .i64 q.no]);have hp:tkB q.t=true/\Dm q.a=true/\prB q.s=true/\tmB q.u=true/\tmB q.no=true:=by simpa [tgB] using ha
 have b1:=(Hy hp.1).1;have b2:=AE 4 q.a;have b3:=(Bl hp.2.2.1).1;have b4:=AI q.u;have b5:=AI q.no;have b6:=Dy hp.2.1;have T1:=I (fun w1 (h:Below w.heap.size w w1)=>EW q.t A1 c1 w1 hp.1 ((Z.below h).more h.size));have T2:=I (fun w1 (h:Below w.heap.size w w1)=>Di q.a A2 q.a.length c2 w1.heap.size w1 ((O.below h).more h.size) rfl Ag (by omega));have T3:=I (fun w1=>BS q.s w1 hp.2.2.1);have T4:=I (fun w1=>Cb q.u w1);have T5:=I (fun w1=>Cb q.no w1);have HL:=I (show [tkE q.t,elem 4 q.a,prE q.s,encI q.u,encI q.no].flatten.length<=65535 by rw[Fu];simp only[List.length_append];omega);have HE:=I (show tgE q=elem 108 [tkE q.t,elem 4 q.a,prE q.s,encI q.u,encI q.no].flatten from rfl);obtain⟨l1,cf⟩:∃l,l=tkE q.t:=⟨_,rfl⟩;obtain⟨l2,bx⟩:∃l,l=elem 4 q.a:=⟨_,rfl⟩;obtain⟨l3,bB⟩:∃l,l=prE q.s:=⟨_,rfl⟩;obtain⟨l4,cj⟩:∃l,l=encI q.u:=⟨_,rfl⟩;obtain⟨l5,cm⟩:∃l,l=encI q.no:=⟨_,rfl⟩;rw[<-cf] at T1 HL HE;rw[<-bx] at T2 HL HE;rw[<-bB] at T3 HL HE;rw[<-cj] at T4 HL HE;rw[<-cm] at T5 HL HE;rw[HE.o,Fu];clear HE cf bx bB cj cm hp b1 b2 b3 b4 b5 b6 ha Z O;go_enter Tryz.func138,Tryz.ntmps138
 go_wp2
 obtain⟨W,eW⟩:=Ak (w.alloc (.cells #[.string ⟨q.t.s.1.toArray⟩,.string ⟨q.t.s.2.toArray⟩,.int .i64 q.t.k,.slice A1 q.t.b.length c1,.slice A2 q.a.length c2,.string ⟨q.s.1.toArray⟩,.string ⟨q.s.2.toArray⟩,.int .i64 q.u,.int .i64 q.no] 31));rw[<-eW] at J E⊢;clear eW;replace E:=I (show Blk W.drew _ _ _ from E.o.drewN 1);replace J:=I (show Below _ _ W.drew from below_drewN J.o 1)
 go_region_held3 (fun w'=>w'.cell? ⟨w.heap.size,0,none⟩=some (.string ⟨q.t.s.1.toArray⟩)/\w'.cell? ⟨w.heap.size,1,none⟩=some (.string ⟨q.t.s.2.toArray⟩)/\w'.cell? ⟨w.heap.size,2,none⟩=some (.int .i64 q.t.k)/\w'.cell? ⟨w.heap.size,3,none⟩=some (.slice A1 q.t.b.length c1)/\w'.cell? ⟨w.heap.size,4,none⟩=some (.slice A2 q.a.length c2)/\w'.cell? ⟨w.heap.size,5,none⟩=some (.string ⟨q.s.1.toArray⟩)/\w'.cell? ⟨w.heap.size,6,none⟩=some (.string ⟨q.s.2.toArray⟩)/\w'.cell? ⟨w.heap.size,7,none⟩=some (.int .i64 q.u)/\w'.cell? ⟨w.heap.size,8,none⟩=some (.int .i64 q.no)) (first | exact⟨E.o.cell 0,E.o.cell 1,E.o.cell 2,E.o.cell 3,E.o.cell 4,E.o.cell 5,E.o.cell 6,E.o.cell 7,E.o.cell 8⟩ | exact⟨(E.o.alloc _).cell 0,(E.o.alloc _).cell 1,(E.o.alloc _).cell 2,(E.o.alloc _).cell 3,(E.o.alloc _).cell 4,(E.o.alloc _).cell 5,(E.o.alloc _).cell 6,(E.o.alloc _).cell 7,(E.o.alloc _).cell 8⟩) ((first
  |(go_at_call 182;(with_reducible refine Calls.mono (T1.o _ J.o) ?_);rintro e w1 ⟨⟨g1,c1,rfl,cn,cy,Z⟩,D⟩;clear T1;have F:=I Z;replace E:=I (E.o.below D);replace J:=J.t D;clear D Z cn cy)
  |(go_at_call 168;(with_reducible refine Calls.mono (T2.o _ J.o) ?_);rintro e w2 ⟨⟨g2,c2,rfl,cq,ct,O⟩,D⟩;clear T2;replace F:=I (Ba F.o D);have M:=I O;replace E:=I (E.o.below D);replace J:=J.t D;clear D O cq ct)
  |(go_at_call 167;(with_reducible refine Calls.mono (T3.o _) ?_);rintro e w3 ⟨⟨g3,c3,rfl,cw,cB,cc⟩,D⟩;clear T3;replace F:=I (Ba F.o D);replace M:=I (Ba M.o D);have N:=I cc;replace E:=I (E.o.below D);replace J:=J.t D;clear D cc cw cB)
  |(go_at_call 170;(with_reducible refine Calls.mono (T4.o _) ?_);rintro e w4 ⟨⟨g4,c4,rfl,cA,cu,cg⟩,D⟩;clear T4;replace F:=I (Ba F.o D);replace M:=I (Ba M.o D);replace N:=I (Ba N.o D);have aw:=I cg;replace E:=I (E.o.below D);replace J:=J.t D;clear D cg cA cu)
  |(go_at_call 170;(with_reducible refine Calls.mono (T5.o _) ?_);rintro e w5 ⟨⟨g5,c5,rfl,cx,cr,ck⟩,D⟩;clear T5;replace F:=I (Ba F.o D);replace M:=I (Ba M.o D);replace N:=I (Ba N.o D);replace aw:=I (Ba aw.o D);have cp:=I ck;replace E:=I (E.o.below D);replace J:=J.t D;clear D ck cx cr)
  |(go_at_call 166;refine Calls.mono (Cr 108 [l1,l2,l3,l4,l5] _ 5 5 (w5.heap.size+1) _ (Jf F.o M.o N.o aw.o cp.o) rfl (by simp) HL.o (by simp)) ?_;rintro e wz ⟨⟨gz,cz,rfl,bz,cb,cd⟩,D⟩;have ca:=(Below.refl w5.heap.size w5).alloc Ag (.cells #[.slice (some ⟨g1,0,none⟩) l1.length c1,.slice (some ⟨g2,0,none⟩) l2.length c2,.slice (some ⟨g3,0,none⟩) l3.length c3,.slice (some ⟨g4,0,none⟩) l4.length c4,.slice (some ⟨g5,0,none⟩) l5.length c5] 27);have HG:=I (Bi (l:=elem 108 [l1,l2,l3,l4,l5].flatten) ⟨⟨gz,cz,rfl,bz,cb,cd⟩,D⟩ (J.o.trans (ca.mono J.o.size)));rw[Fu] at HG;replace E:=I ((E.o.alloc (.cells #[.slice (some ⟨g1,0,none⟩) l1.length c1,.slice (some ⟨g2,0,none⟩) l2.length c2,.slice (some ⟨g3,0,none⟩) l3.length c3,.slice (some ⟨g4,0,none⟩) l4.length c4,.slice (some ⟨g5,0,none⟩) l5.length c5] 27)).below D);clear ca bz cb cd D)))
 go_wp2
 go_ret;exact HG.o
theorem UH (q:Re) (A1 A2:Option Addr) (c1 c2:Nat) (w:World) (ha:reB q=true) (N:Rd w w.heap.size A1 (bvs q.t.b)) (M:Rd w w.heap.size A2 (bvs q.b)):Calls Tryz.prog 139 #[.agg #[.string ⟨q.c.1.toArray⟩,.string ⟨q.c.2.toArray⟩,.string ⟨q.t.s.1.toArray⟩,.string ⟨q.t.s.2.toArray⟩,.int .i64 q.t.k,.slice A1 q.t.b.length c1,.slice A2 q.b.length c2]] w (Cc w (reE q)):=by
 have F:=I ((Below.refl w.heap.size w).alloc Ag (.cells #[.string ⟨q.c.1.toArray⟩,.string ⟨q.c.2.toArray⟩,.string ⟨q.t.s.1.toArray⟩,.string ⟨q.t.s.2.toArray⟩,.int .i64 q.t.k,.slice A1 q.t.b.length c1,.slice A2 q.b.length c2] 44));have D:=I (Blk.new w 44 #[.string ⟨q.c.1.toArray⟩,.string ⟨q.c.2.toArray⟩,.string ⟨q.t.s.1.toArray⟩,.string ⟨q.t.s.2.toArray⟩,.int .i64 q.t.k,.slice A1 q.t.b.length c1,.slice A2 q.b.length c2]);have hp:prB q.c=true/\tkB q.t=true/\Dm q.b=true:=by simpa [reB] using ha
 have b1:=(Bl hp.1).1;have b2:=(Hy hp.2.1).1;have b3:=AE 4 q.b;have b6:=Dy hp.2.2;have T1:=I (fun w1=>BS q.c w1 hp.1);have T2:=I (fun w1 (h:Below w.heap.size w w1)=>EW q.t A1 c1 w1 hp.2.1 ((N.below h).more h.size));have T3:=I (fun w1 (h:Below w.heap.size w w1)=>Di q.b A2 q.b.length c2 w1.heap.size w1 ((M.below h).more h.size) rfl Ag (by omega));have HL:=I (show [prE q.c,tkE q.t,elem 4 q.b].flatten.length<=65535 by rw[Gd];simp only[List.length_append];omega);have HE:=I (show reE q=elem 107 [prE q.c,tkE q.t,elem 4 q.b].flatten from rfl);obtain⟨l1,bx⟩:∃l,l=prE q.c:=⟨_,rfl⟩;obtain⟨l2,Z⟩:∃l,l=tkE q.t:=⟨_,rfl⟩;obtain⟨l3,bB⟩:∃l,l=elem 4 q.b:=⟨_,rfl⟩;rw[<-bx] at T1 HL HE;rw[<-Z] at T2 HL HE;rw[<-bB] at T3 HL HE;rw[HE.o,Gd];clear HE bx Z bB hp b1 b2 b3 b6 ha N M;go_enter Tryz.func139,Tryz.ntmps139
 go_wp2
 obtain⟨W,eW⟩:=Ak (w.alloc (.cells #[.string ⟨q.c.1.toArray⟩,.string ⟨q.c.2.toArray⟩,.string ⟨q.t.s.1.toArray⟩,.string ⟨q.t.s.2.toArray⟩,.int .i64 q.t.k,.slice A1 q.t.b.length c1,.slice A2 q.b.length c2] 44));rw[<-eW] at F D⊢;clear eW;replace D:=I (show Blk W.drew _ _ _ from D.o.drewN 1);replace F:=I (show Below _ _ W.drew from below_drewN F.o 1)
 go_region_held3 (fun w'=>w'.cell? ⟨w.heap.size,0,none⟩=some (.string ⟨q.c.1.toArray⟩)/\w'.cell? ⟨w.heap.size,1,none⟩=some (.string ⟨q.c.2.toArray⟩)/\w'.cell? ⟨w.heap.size,2,none⟩=some (.string ⟨q.t.s.1.toArray⟩)/\w'.cell? ⟨w.heap.size,3,none⟩=some (.string ⟨q.t.s.2.toArray⟩)/\w'.cell? ⟨w.heap.size,4,none⟩=some (.int .i64 q.t.k)/\w'.cell? ⟨w.heap.size,5,none⟩=some (.slice A1 q.t.b.length c1)/\w'.cell? ⟨w.heap.size,6,none⟩=some (.slice A2 q.b.length c2)) (first | exact⟨D.o.cell 0,D.o.cell 1,D.o.cell 2,D.o.cell 3,D.o.cell 4,D.o.cell 5,D.o.cell 6⟩ | exact⟨(D.o.alloc _).cell 0,(D.o.alloc _).cell 1,(D.o.alloc _).cell 2,(D.o.alloc _).cell 3,(D.o.alloc _).cell 4,(D.o.alloc _).cell 5,(D.o.alloc _).cell 6⟩) ((first
  |(go_at_call 167;(with_reducible refine Calls.mono (T1.o _) ?_);rintro e w1 ⟨⟨g1,c1,rfl,cd,cf,N⟩,E⟩;clear T1;have J:=I N;replace D:=I (D.o.below E);replace F:=F.t E;clear E N cd cf)
  |(go_at_call 182;(with_reducible refine Calls.mono (T2.o _ F.o) ?_);rintro e w2 ⟨⟨g2,c2,rfl,cg,ck,M⟩,E⟩;clear T2;replace J:=I (Ba J.o E);have O:=I M;replace D:=I (D.o.below E);replace F:=F.t E;clear E M cg ck)
  |(go_at_call 168;(with_reducible refine Calls.mono (T3.o _ F.o) ?_);rintro e w3 ⟨⟨g3,c3,rfl,cm,cn,cc⟩,E⟩;clear T3;replace J:=I (Ba J.o E);replace O:=I (Ba O.o E);have cj:=I cc;replace D:=I (D.o.below E);replace F:=F.t E;clear E cc cm cn)
  |(go_at_call 166;refine Calls.mono (Cr 107 [l1,l2,l3] _ 3 3 (w3.heap.size+1) _ (Hd J.o O.o cj.o) rfl (by simp) HL.o (by simp)) ?_;rintro e wz ⟨⟨gz,cz,rfl,bz,cb,aw⟩,E⟩;have ca:=(Below.refl w3.heap.size w3).alloc Ag (.cells #[.slice (some ⟨g1,0,none⟩) l1.length c1,.slice (some ⟨g2,0,none⟩) l2.length c2,.slice (some ⟨g3,0,none⟩) l3.length c3] 27);have HG:=I (Bi (l:=elem 107 [l1,l2,l3].flatten) ⟨⟨gz,cz,rfl,bz,cb,aw⟩,E⟩ (F.o.trans (ca.mono F.o.size)));rw[Gd] at HG;replace D:=I ((D.o.alloc (.cells #[.slice (some ⟨g1,0,none⟩) l1.length c1,.slice (some ⟨g2,0,none⟩) l2.length c2,.slice (some ⟨g3,0,none⟩) l3.length c3] 27)).below E);clear ca bz cb aw E)))
 go_wp2
 go_ret;exact HG.o
theorem UI (q:Ap) (A1 A2:Option Addr) (c1 c2:Nat) (w:World) (ha:apB q=true) (M:Rd w w.heap.size A1 (bvs q.t.b)) (J:Rd w w.heap.size A2 (bvs q.a)):Calls Tryz.prog 140 #[.agg #[.string ⟨q.t.s.1.toArray⟩,.string ⟨q.t.s.2.toArray⟩,.int .i64 q.t.k,.slice A1 q.t.b.length c1,.slice A2 q.a.length c2]] w (Cc w (apE q)):=by
 have F:=I ((Below.refl w.heap.size w).alloc Ag (.cells #[.string ⟨q.t.s.1.toArray⟩,.string ⟨q.t.s.2.toArray⟩,.int .i64 q.t.k,.slice A1 q.t.b.length c1,.slice A2 q.a.length c2] 88));have D:=I (Blk.new w 88 #[.string ⟨q.t.s.1.toArray⟩,.string ⟨q.t.s.2.toArray⟩,.int .i64 q.t.k,.slice A1 q.t.b.length c1,.slice A2 q.a.length c2]);have hp:tkB q.t=true/\Dm q.a=true:=by simpa [apB] using ha
 have b2:=(Hy hp.1).1;have b3:=AE 4 q.a;have b6:=Dy hp.2;have T1:=I (fun w1 (h:Below w.heap.size w w1)=>EW q.t A1 c1 w1 hp.1 ((M.below h).more h.size));have T2:=I (fun w1 (h:Below w.heap.size w w1)=>Di q.a A2 q.a.length c2 w1.heap.size w1 ((J.below h).more h.size) rfl Ag (by omega));have HL:=I (show [tkE q.t,elem 4 q.a].flatten.length<=65535 by rw[Gc];simp only[List.length_append];omega);have HE:=I (show apE q=elem 110 [tkE q.t,elem 4 q.a].flatten from rfl);obtain⟨l1,aw⟩:∃l,l=tkE q.t:=⟨_,rfl⟩;obtain⟨l2,O⟩:∃l,l=elem 4 q.a:=⟨_,rfl⟩;rw[<-aw] at T1 HL HE;rw[<-O] at T2 HL HE;rw[HE.o,Gc];clear HE aw O hp b2 b3 b6 ha M J;go_enter Tryz.func140,Tryz.ntmps140
 go_wp2
 obtain⟨W,eW⟩:=Ak (w.alloc (.cells #[.string ⟨q.t.s.1.toArray⟩,.string ⟨q.t.s.2.toArray⟩,.int .i64 q.t.k,.slice A1 q.t.b.length c1,.slice A2 q.a.length c2] 88));rw[<-eW] at F D⊢;clear eW;replace D:=I (show Blk W.drew _ _ _ from D.o.drewN 1);replace F:=I (show Below _ _ W.drew from below_drewN F.o 1)
 go_region_held3 (fun w'=>w'.cell? ⟨w.heap.size,0,none⟩=some (.string ⟨q.t.s.1.toArray⟩)/\w'.cell? ⟨w.heap.size,1,none⟩=some (.string ⟨q.t.s.2.toArray⟩)/\w'.cell? ⟨w.heap.size,2,none⟩=some (.int .i64 q.t.k)/\w'.cell? ⟨w.heap.size,3,none⟩=some (.slice A1 q.t.b.length c1)/\w'.cell? ⟨w.heap.size,4,none⟩=some (.slice A2 q.a.length c2)) (first | exact⟨D.o.cell 0,D.o.cell 1,D.o.cell 2,D.o.cell 3,D.o.cell 4⟩ | exact⟨(D.o.alloc _).cell 0,(D.o.alloc _).cell 1,(D.o.alloc _).cell 2,(D.o.alloc _).cell 3,(D.o.alloc _).cell 4⟩) ((first
  |(go_at_call 182;(with_reducible refine Calls.mono (T1.o _ F.o) ?_);rintro e w1 ⟨⟨g1,c1,rfl,ca,cb,M⟩,E⟩;clear T1;have N:=I M;replace D:=I (D.o.below E);replace F:=F.t E;clear E M ca cb)
  |(go_at_call 168;(with_reducible refine Calls.mono (T2.o _ F.o) ?_);rintro e w2 ⟨⟨g2,c2,rfl,cc,cd,J⟩,E⟩;clear T2;replace N:=I (Ba N.o E);have cf:=I J;replace D:=I (D.o.below E);replace F:=F.t E;clear E J cc cd)
  |(go_at_call 166;refine Calls.mono (Cr 110 [l1,l2] _ 2 2 (w2.heap.size+1) _ (LA N.o cf.o) rfl (by simp) HL.o (by simp)) ?_;rintro e wz ⟨⟨gz,cz,rfl,bx,bB,Z⟩,E⟩;have bz:=(Below.refl w2.heap.size w2).alloc Ag (.cells #[.slice (some ⟨g1,0,none⟩) l1.length c1,.slice (some ⟨g2,0,none⟩) l2.length c2] 27);have HG:=I (Bi (l:=elem 110 [l1,l2].flatten) ⟨⟨gz,cz,rfl,bx,bB,Z⟩,E⟩ (F.o.trans (bz.mono F.o.size)));rw[Gc] at HG;replace D:=I ((D.o.alloc (.cells #[.slice (some ⟨g1,0,none⟩) l1.length c1,.slice (some ⟨g2,0,none⟩) l2.length c2] 27)).below E);clear bz bx bB Z E)))
 go_wp2
 go_ret;exact HG.o
theorem UJ (q:Fa) (w:World):Calls Tryz.prog 141 #[.agg #[.int .i64 q.e,.int .i64 q.no]] w (Cc w (faE q)):=by
 have F:=I ((Below.refl w.heap.size w).alloc Ag (.cells #[.int .i64 q.e,.int .i64 q.no] 90));have D:=I (Blk.new w 90 #[.int .i64 q.e,.int .i64 q.no]);have b1:=AI q.e;have b2:=AI q.no;have T1:=I (fun w1=>Cb q.e w1);have T2:=I (fun w1=>Cb q.no w1);have HL:=I (show [encI q.e,encI q.no].flatten.length<=65535 by rw[Gc];simp only[List.length_append];omega);have HE:=I (show faE q=elem 126 [encI q.e,encI q.no].flatten from rfl);obtain⟨l1,N⟩:∃l,l=encI q.e:=⟨_,rfl⟩;obtain⟨l2,M⟩:∃l,l=encI q.no:=⟨_,rfl⟩;rw[<-N] at T1 HL HE;rw[<-M] at T2 HL HE;rw[HE.o,Gc];clear HE N M b1 b2;go_enter Tryz.func141,Tryz.ntmps141
 go_wp2
 obtain⟨W,eW⟩:=Ak (w.alloc (.cells #[.int .i64 q.e,.int .i64 q.no] 90));rw[<-eW] at F D⊢;clear eW;replace D:=I (show Blk W.drew _ _ _ from D.o.drewN 1);replace F:=I (show Below _ _ W.drew from below_drewN F.o 1)
 go_region_held3 (fun w'=>w'.cell? ⟨w.heap.size,0,none⟩=some (.int .i64 q.e)/\w'.cell? ⟨w.heap.size,1,none⟩=some (.int .i64 q.no)) (first | exact⟨D.o.cell 0,D.o.cell 1⟩ | exact⟨(D.o.alloc _).cell 0,(D.o.alloc _).cell 1⟩) ((first
  |(go_at_call 170;(with_reducible refine Calls.mono (T1.o _) ?_);rintro e w1 ⟨⟨g1,c1,rfl,ca,cb,bB⟩,E⟩;clear T1;have J:=I bB;replace D:=I (D.o.below E);replace F:=F.t E;clear E bB ca cb)
  |(go_at_call 170;(with_reducible refine Calls.mono (T2.o _) ?_);rintro e w2 ⟨⟨g2,c2,rfl,cc,cd,bx⟩,E⟩;clear T2;replace J:=I (Ba J.o E);have cf:=I bx;replace D:=I (D.o.below E);replace F:=F.t E;clear E bx cc cd)
  |(go_at_call 166;refine Calls.mono (Cr 126 [l1,l2] _ 2 2 (w2.heap.size+1) _ (LA J.o cf.o) rfl (by simp) HL.o (by simp)) ?_;rintro e wz ⟨⟨gz,cz,rfl,Z,bz,O⟩,E⟩;have aw:=(Below.refl w2.heap.size w2).alloc Ag (.cells #[.slice (some ⟨g1,0,none⟩) l1.length c1,.slice (some ⟨g2,0,none⟩) l2.length c2] 27);have HG:=I (Bi (l:=elem 126 [l1,l2].flatten) ⟨⟨gz,cz,rfl,Z,bz,O⟩,E⟩ (F.o.trans (aw.mono F.o.size)));rw[Gc] at HG;replace D:=I ((D.o.alloc (.cells #[.slice (some ⟨g1,0,none⟩) l1.length c1,.slice (some ⟨g2,0,none⟩) l2.length c2] 27)).below E);clear aw Z bz O E)))
 go_wp2
 go_ret;exact HG.o
theorem Ru (p:Rp) (w:World) (hk:p.ss.length=32) (hx:rpB p=true):Calls Tryz.prog 113 #[.agg (rpC p).toArray] w (Cc w (rpE p)):=by
 have HI:=I (show(Tryz.prog.info? 172).map (·.size)=some (rpC p).toArray.size by rw[OC hk];kernel_rfl);have CF:=I (show ∀w':World,Blk w' w.heap.size 172 (rpC p).toArray->w'.cell? ⟨w.heap.size,32,none⟩=some (.string ⟨p.s.1.toArray⟩)/\w'.cell? ⟨w.heap.size,33,none⟩=some (.string ⟨p.s.2.toArray⟩)/\w'.cell? ⟨w.heap.size,34,none⟩=some (.int .i64 p.st)/\w'.cell? ⟨w.heap.size,35,none⟩=some (.int .i64 p.en)/\w'.cell? ⟨w.heap.size,36,none⟩=some (.int .i64 p.no) from fun w' h=>PY hk h);have T1:=I (fun w1 (h:Blk w1 w.heap.size 172 (rpC p).toArray)=>Di p.ss (some ⟨w.heap.size,0,none⟩) 32 32 w1.heap.size w1 (de hk h) hk.symm Ag (by omega));obtain⟨cs,bB⟩:=Ak ((rpC p).toArray);rw[<-bB] at HI CF T1⊢;clear bB;have J:=I ((Below.refl w.heap.size w).alloc Ag (.cells cs 172));have F:=I (Blk.new w 172 cs);have hp:prB p.s=true:=(show prB p.s=true/\tmB p.st=true/\tmB p.en=true/\tmB p.no=true by simpa [rpB] using hx).1;have b1:=(Bl hp).1;have b2:=AI p.st;have b3:=AI p.en;have b4:=AI p.no;have b5:=AE 4 p.ss;have T2:=I (fun w1=>BS p.s w1 hp);have T3:=I (fun w1=>Cb p.st w1);have T4:=I (fun w1=>Cb p.en w1);have T5:=I (fun w1=>Cb p.no w1);have HL:=I (show [elem 4 p.ss,prE p.s,encI p.st,encI p.en,encI p.no].flatten.length<=65535 by rw[Fu];simp only[List.length_append];omega);have O:=I (show rpE p=elem 122 [elem 4 p.ss,prE p.s,encI p.st,encI p.en,encI p.no].flatten from rfl);obtain⟨l1,cf⟩:∃l,l=elem 4 p.ss:=⟨_,rfl⟩;obtain⟨l2,aw⟩:∃l,l=prE p.s:=⟨_,rfl⟩;obtain⟨l3,bz⟩:∃l,l=encI p.st:=⟨_,rfl⟩;obtain⟨l4,cj⟩:∃l,l=encI p.en:=⟨_,rfl⟩;obtain⟨l5,cn⟩:∃l,l=encI p.no:=⟨_,rfl⟩;rw[<-cf] at T1 HL O;rw[<-aw] at T2 HL O;rw[<-bz] at T3 HL O;rw[<-cj] at T4 HL O;rw[<-cn] at T5 HL O;rw[O.o,Fu];clear O cf aw bz cj cn hp b1 b2 b3 b4 b5 hk hx;go_enter Tryz.func113,Tryz.ntmps113
 go_wp2
 obtain⟨W,eW⟩:=Ak (w.alloc (.cells cs 172));rw[<-eW] at J F⊢;clear eW;replace F:=I (show Blk W.drew _ _ _ from F.o.drewN 1);replace J:=I (show Below _ _ W.drew from below_drewN J.o 1)
 go_region_held3 (fun w'=>w'.cell? ⟨w.heap.size,32,none⟩=some (.string ⟨p.s.1.toArray⟩)/\w'.cell? ⟨w.heap.size,33,none⟩=some (.string ⟨p.s.2.toArray⟩)/\w'.cell? ⟨w.heap.size,34,none⟩=some (.int .i64 p.st)/\w'.cell? ⟨w.heap.size,35,none⟩=some (.int .i64 p.en)/\w'.cell? ⟨w.heap.size,36,none⟩=some (.int .i64 p.no)) (first | exact CF.o _ F.o | exact CF.o _ (F.o.alloc _)) ((first
  |(go_at_call 168;(with_reducible refine Calls.mono (T1.o _ F.o) ?_);rintro e w1 ⟨⟨g1,c1,rfl,cq,cB,cp⟩,D⟩;clear T1;have E:=I cp;replace F:=I (F.o.below D);replace J:=J.t D;clear D cp cq cB)
  |(go_at_call 167;(with_reducible refine Calls.mono (T2.o _) ?_);rintro e w2 ⟨⟨g2,c2,rfl,ct,cw,cm⟩,D⟩;clear T2;replace E:=I (Ba E.o D);have M:=I cm;replace F:=I (F.o.below D);replace J:=J.t D;clear D cm ct cw)
  |(go_at_call 170;(with_reducible refine Calls.mono (T3.o _) ?_);rintro e w3 ⟨⟨g3,c3,rfl,cy,cP,cc⟩,D⟩;clear T3;replace E:=I (Ba E.o D);replace M:=I (Ba M.o D);have N:=I cc;replace F:=I (F.o.below D);replace J:=J.t D;clear D cc cy cP)
  |(go_at_call 170;(with_reducible refine Calls.mono (T4.o _) ?_);rintro e w4 ⟨⟨g4,c4,rfl,cL,cx,cg⟩,D⟩;clear T4;replace E:=I (Ba E.o D);replace M:=I (Ba M.o D);replace N:=I (Ba N.o D);have Z:=I cg;replace F:=I (F.o.below D);replace J:=J.t D;clear D cg cL cx)
  |(go_at_call 170;(with_reducible refine Calls.mono (T5.o _) ?_);rintro e w5 ⟨⟨g5,c5,rfl,cA,cu,ck⟩,D⟩;clear T5;replace E:=I (Ba E.o D);replace M:=I (Ba M.o D);replace N:=I (Ba N.o D);replace Z:=I (Ba Z.o D);have cr:=I ck;replace F:=I (F.o.below D);replace J:=J.t D;clear D ck cA cu)
  |(go_at_call 166;refine Calls.mono (Cr 122 [l1,l2,l3,l4,l5] _ 5 5 (w5.heap.size+1) _ (Jf E.o M.o N.o Z.o cr.o) rfl (by simp) HL.o (by simp)) ?_;rintro e wz ⟨⟨gz,cz,rfl,bx,cb,cd⟩,D⟩;have ca:=(Below.refl w5.heap.size w5).alloc Ag (.cells #[.slice (some ⟨g1,0,none⟩) l1.length c1,.slice (some ⟨g2,0,none⟩) l2.length c2,.slice (some ⟨g3,0,none⟩) l3.length c3,.slice (some ⟨g4,0,none⟩) l4.length c4,.slice (some ⟨g5,0,none⟩) l5.length c5] 27);have HG:=I (Bi (l:=elem 122 [l1,l2,l3,l4,l5].flatten) ⟨⟨gz,cz,rfl,bx,cb,cd⟩,D⟩ (J.o.trans (ca.mono J.o.size)));rw[Fu] at HG;replace F:=I ((F.o.alloc (.cells #[.slice (some ⟨g1,0,none⟩) l1.length c1,.slice (some ⟨g2,0,none⟩) l2.length c2,.slice (some ⟨g3,0,none⟩) l3.length c3,.slice (some ⟨g4,0,none⟩) l4.length c4,.slice (some ⟨g5,0,none⟩) l5.length c5] 27)).below D);clear ca bx cb cd D)))
 go_wp2
 go_ret;exact HG.o
theorem ON (p:Pt) (w:World) (hk:p.ss.length=32) (hx:ptB p=true):Calls Tryz.prog 111 #[.agg (ptC p).toArray] w (Cc w (ptE p)):=by
 have HI:=I (show(Tryz.prog.info? 40).map (·.size)=some (ptC p).toArray.size by rw[FB hk];kernel_rfl);have CF:=I (show ∀w':World,Blk w' w.heap.size 40 (ptC p).toArray->w'.cell? ⟨w.heap.size,0,none⟩=some (.string ⟨p.c.1.toArray⟩)/\w'.cell? ⟨w.heap.size,1,none⟩=some (.string ⟨p.c.2.toArray⟩)/\w'.cell? ⟨w.heap.size,34,none⟩=some (.string ⟨p.tr.toArray⟩)/\w'.cell? ⟨w.heap.size,35,none⟩=some (.int .i64 p.st)/\w'.cell? ⟨w.heap.size,36,none⟩=some (.int .i64 p.en) from fun w' h=>Jg hk h);have T2:=I (fun w1 (h:Blk w1 w.heap.size 40 (ptC p).toArray)=>Di p.ss (some ⟨w.heap.size,2,none⟩) 32 32 w1.heap.size w1 (KK h) hk.symm Ag (by omega));obtain⟨cs,bB⟩:=Ak ((ptC p).toArray);rw[<-bB] at HI CF T2⊢;clear bB;have J:=I ((Below.refl w.heap.size w).alloc Ag (.cells cs 40));have F:=I (Blk.new w 40 cs);have hp:=(Dl hx).2.1;have h3:=(Dl hx).2.2.1;have b1:=(Bl hp).1;have b2:=AI p.st;have b3:=AI p.en;have b4:=AE 27 p.tr;have b5:=AE 4 p.ss;have T1:=I (fun w1=>BS p.c w1 hp);have T3:=I (fun w1=>JY p.tr w1 (by omega));have T4:=I (fun w1=>Cb p.st w1);have T5:=I (fun w1=>Cb p.en w1);have HL:=I (show [prE p.c,elem 4 p.ss,elem 27 p.tr,encI p.st,encI p.en].flatten.length<=65535 by rw[Fu];simp only[List.length_append];omega);have O:=I (show ptE p=elem 99 [prE p.c,elem 4 p.ss,elem 27 p.tr,encI p.st,encI p.en].flatten from rfl);obtain⟨l1,cf⟩:∃l,l=prE p.c:=⟨_,rfl⟩;obtain⟨l2,aw⟩:∃l,l=elem 4 p.ss:=⟨_,rfl⟩;obtain⟨l3,bz⟩:∃l,l=elem 27 p.tr:=⟨_,rfl⟩;obtain⟨l4,cj⟩:∃l,l=encI p.st:=⟨_,rfl⟩;obtain⟨l5,cn⟩:∃l,l=encI p.en:=⟨_,rfl⟩;rw[<-cf] at T1 HL O;rw[<-aw] at T2 HL O;rw[<-bz] at T3 HL O;rw[<-cj] at T4 HL O;rw[<-cn] at T5 HL O;rw[O.o,Fu];clear O cf aw bz cj cn hp h3 b1 b2 b3 b4 b5 hk hx;go_enter Tryz.func111,Tryz.ntmps111
 go_wp2
 obtain⟨W,eW⟩:=Ak (w.alloc (.cells cs 40));rw[<-eW] at J F⊢;clear eW;replace F:=I (show Blk W.drew _ _ _ from F.o.drewN 1);replace J:=I (show Below _ _ W.drew from below_drewN J.o 1)
 go_region_held3 (fun w'=>w'.cell? ⟨w.heap.size,0,none⟩=some (.string ⟨p.c.1.toArray⟩)/\w'.cell? ⟨w.heap.size,1,none⟩=some (.string ⟨p.c.2.toArray⟩)/\w'.cell? ⟨w.heap.size,34,none⟩=some (.string ⟨p.tr.toArray⟩)/\w'.cell? ⟨w.heap.size,35,none⟩=some (.int .i64 p.st)/\w'.cell? ⟨w.heap.size,36,none⟩=some (.int .i64 p.en)) (first | exact CF.o _ F.o | exact CF.o _ (F.o.alloc _)) ((first
  |(go_at_call 167;(with_reducible refine Calls.mono (T1.o _) ?_);rintro e w1 ⟨⟨g1,c1,rfl,cq,cB,cp⟩,D⟩;clear T1;have E:=I cp;replace F:=I (F.o.below D);replace J:=J.t D;clear D cp cq cB)
  |(go_at_call 168;(with_reducible refine Calls.mono (T2.o _ F.o) ?_);rintro e w2 ⟨⟨g2,c2,rfl,ct,cw,cm⟩,D⟩;clear T2;replace E:=I (Ba E.o D);have M:=I cm;replace F:=I (F.o.below D);replace J:=J.t D;clear D cm ct cw)
  |(go_at_call 169;(with_reducible refine Calls.mono (T3.o _) ?_);rintro e w3 ⟨⟨g3,c3,rfl,cy,cP,cc⟩,D⟩;clear T3;replace E:=I (Ba E.o D);replace M:=I (Ba M.o D);have N:=I cc;replace F:=I (F.o.below D);replace J:=J.t D;clear D cc cy cP)
  |(go_at_call 170;(with_reducible refine Calls.mono (T4.o _) ?_);rintro e w4 ⟨⟨g4,c4,rfl,cL,cx,cg⟩,D⟩;clear T4;replace E:=I (Ba E.o D);replace M:=I (Ba M.o D);replace N:=I (Ba N.o D);have Z:=I cg;replace F:=I (F.o.below D);replace J:=J.t D;clear D cg cL cx)
  |(go_at_call 170;(with_reducible refine Calls.mono (T5.o _) ?_);rintro e w5 ⟨⟨g5,c5,rfl,cA,cu,ck⟩,D⟩;clear T5;replace E:=I (Ba E.o D);replace M:=I (Ba M.o D);replace N:=I (Ba N.o D);replace Z:=I (Ba Z.o D);have cr:=I ck;replace F:=I (F.o.below D);replace J:=J.t D;clear D ck cA cu)
  |(go_at_call 166;refine Calls.mono (Cr 99 [l1,l2,l3,l4,l5] _ 5 5 (w5.heap.size+1) _ (Jf E.o M.o N.o Z.o cr.o) rfl (by simp) HL.o (by simp)) ?_;rintro e wz ⟨⟨gz,cz,rfl,bx,cb,cd⟩,D⟩;have ca:=(Below.refl w5.heap.size w5).alloc Ag (.cells #[.slice (some ⟨g1,0,none⟩) l1.length c1,.slice (some ⟨g2,0,none⟩) l2.length c2,.slice (some ⟨g3,0,none⟩) l3.length c3,.slice (some ⟨g4,0,none⟩) l4.length c4,.slice (some ⟨g5,0,none⟩) l5.length c5] 27);have HG:=I (Bi (l:=elem 99 [l1,l2,l3,l4,l5].flatten) ⟨⟨gz,cz,rfl,bx,cb,cd⟩,D⟩ (J.o.trans (ca.mono J.o.size)));rw[Fu] at HG;replace F:=I ((F.o.alloc (.cells #[.slice (some ⟨g1,0,none⟩) l1.length c1,.slice (some ⟨g2,0,none⟩) l2.length c2,.slice (some ⟨g3,0,none⟩) l3.length c3,.slice (some ⟨g4,0,none⟩) l4.length c4,.slice (some ⟨g5,0,none⟩) l5.length c5] 27)).below D);clear ca bx cb cd D)))
 go_wp2
 go_ret;exact HG.o
end Mc
namespace Mc
open Go.RowKit Af DerP Ms
def trB (l:L):Bool:=decide (l.length<=300)&&txtB l
def ptB' (p:Pt):Bool:=prB p.c&&(trB p.tr&&(tmB p.st&&tmB p.en))
theorem dz (p:Pt):ptB' p=ptB p:=by
 unfold ptB' ptB trB;cases txtB p.tr<;>cases prB p.c<;>cases decide (p.tr.length<=300)<;>rfl
theorem txtf {l:L} {k:Nat} (h:k<l.length) (D:l[k].toNat<32\/126<l[k].toNat):txtB l=false:=OD h D
section
attribute [local go_sem] Ea List.getElem_cons_zero List.getElem_cons_succ
theorem LN (l:L) (w:World) (ht:l.length<=1000000000):Calls Tryz.prog 164 #[.string ⟨l.toArray⟩] w fun e w'=>e=.returned (.bool (trB l))/\w=w':=by
 by_cases h3:l.length<=300
 ·have g3:decide ((300:Int)<(l.length:Int))=false:=decide_eq_false (by omega)
  have E3:=I (show trB l=txtB l by rw[trB,decide_eq_true h3];rfl);rw[E3.o];clear h3;go_enter Tryz.func164,Tryz.ntmps164
  go_wp2
  go_loop [9] (fun M=>∃k:Nat,k<=l.length/\M=.int .i64 (k:Int)/\FitT l k) (fun M=>l.length - (intOf M).toNat)
  case atStart=>exact⟨0,Nat.zero_le _,rfl,fun i _ h=>by omega⟩
  case round=>
   obtain⟨k,Z,rfl,N⟩:=hrel;have D:=I N;clear N
   by_cases hlt:k<l.length
   ·have e1:(k:Int)<(l.length:Int):=by omega
    by_cases b1:l[k].toNat<32
    ·have E:=I (txtf hlt (Or.inl b1))
     have J:decide ((l[k].toNat:Int)<32)=true:=by simp;omega
     clear b1
     go_wp2
     go_ret;exact⟨by rw[E.o];rfl,rfl⟩
    ·have J:decide ((l[k].toNat:Int)<32)=false:=by simp;omega
     by_cases b2:126<l[k].toNat
     ·have E:=I (txtf hlt (Or.inr b2))
      have F:decide (126<(l[k].toNat:Int))=true:=by simp;omega
      clear b1 b2
      go_wp2
      go_ret;exact⟨by rw[E.o];rfl,rfl⟩
     ·have F:decide (126<(l[k].toNat:Int))=false:=by simp;omega
      have O:=I (show 32<=l[k].toNat/\l[k].toNat<=126 from⟨by omega,by omega⟩);clear b1 b2
      go_wp2
      go_round
      case rel=>exact⟨k+1,by omega,by go_num,fun i hi aw=>by
       by_cases q:i=k
       ·subst q;exact O.o
       ·exact D.o i hi (by omega)⟩
      case measure=>simp [intOf];omega
   ·have HT:=I (Uo (fun i hi _=>D.o i hi (by omega)))
    have e1:¬(k:Int)<(l.length:Int):=by omega
    clear D
    go_wp2
    go_ret;exact⟨by rw[HT.o];rfl,rfl⟩
 ·have g3:decide ((300:Int)<(l.length:Int))=true:=decide_eq_true (by omega)
  have E:=I (show trB l=false by rw[trB,decide_eq_false h3];rfl);clear h3;go_enter Tryz.func164,Tryz.ntmps164
  go_wp2
  go_ret;exact⟨by rw[E.o];rfl,rfl⟩
end
theorem UK (p:Rp) (w:World) (hk:p.ss.length=32) (hs:pSm p.s):Calls Tryz.prog 112 #[.agg (rpC p).toArray] w fun e w'=>e=.returned (.bool (rpB p))/\Below w.heap.size w w':=by
 have HI:=I (show(Tryz.prog.info? 172).map (·.size)=some (rpC p).toArray.size by rw[OC hk];kernel_rfl);have CF:=I (show ∀w':World,Blk w' w.heap.size 172 (rpC p).toArray->w'.cell? ⟨w.heap.size,32,none⟩=some (.string ⟨p.s.1.toArray⟩)/\w'.cell? ⟨w.heap.size,33,none⟩=some (.string ⟨p.s.2.toArray⟩)/\w'.cell? ⟨w.heap.size,34,none⟩=some (.int .i64 p.st)/\w'.cell? ⟨w.heap.size,35,none⟩=some (.int .i64 p.en)/\w'.cell? ⟨w.heap.size,36,none⟩=some (.int .i64 p.no) from fun w' h=>PY hk h);obtain⟨cs,aw⟩:=Ak ((rpC p).toArray);rw[<-aw] at HI CF⊢;clear aw;have J:=I ((Below.refl w.heap.size w).alloc Ag (.cells cs 172));have F:=I (Blk.new w 172 cs);have M:=I (fun w1=>AV p.s w1 hs.1 hs.2);have T2:=I (fun w1=>EP p.st w1);have T3:=I (fun w1=>EP p.en w1);have T4:=I (fun w1=>FD p.no w1);obtain⟨O,k1,k2,N,Z⟩:=CF.o _ F.o;cases h1:prB p.s with
 |false=>
  rw[h1] at M;have E:=I (show rpB p=false by rw[rpB,h1];rfl);clear h1;go_enter Tryz.func112,Tryz.ntmps112
  go_wp2_with (go_at_call 36;(with_reducible refine Calls.mono (M.o _) ?_);rintro e w1 ⟨rfl,D⟩;replace F:=I (F.o.below D);replace J:=J.t D;clear D M;(try clear O k1 k2 N Z);obtain⟨O,k1,k2,N,Z⟩:=CF.o _ F.o)
  go_ret;exact⟨by rw[E.o];rfl,J.o⟩
 |true=>
  rw[h1] at M;cases h2:tmB p.st with
  |false=>
   rw[h2] at T2;have E:=I (show rpB p=false by rw[rpB,h1,h2];rfl);clear h1 h2;go_enter Tryz.func112,Tryz.ntmps112
   go_wp2_with (first
    |(go_at_call 36;(with_reducible refine Calls.mono (M.o _) ?_);rintro e w1 ⟨rfl,D⟩;replace F:=I (F.o.below D);replace J:=J.t D;clear D M;(try clear O k1 k2 N Z);obtain⟨O,k1,k2,N,Z⟩:=CF.o _ F.o)
    |(go_at_call 165;(with_reducible refine Calls.mono (T2.o _) ?_);rintro e w2 ⟨rfl,hw⟩;subst hw;clear T2))
   go_ret;exact⟨by rw[E.o];rfl,J.o⟩
  |true=>
   rw[h2] at T2;cases h3:tmB p.en with
   |false=>
    rw[h3] at T3;have E:=I (show rpB p=false by rw[rpB,h1,h2,h3];rfl);clear h1 h2 h3;go_enter Tryz.func112,Tryz.ntmps112
    go_wp2_with (first
     |(go_at_call 36;(with_reducible refine Calls.mono (M.o _) ?_);rintro e w1 ⟨rfl,D⟩;replace F:=I (F.o.below D);replace J:=J.t D;clear D M;(try clear O k1 k2 N Z);obtain⟨O,k1,k2,N,Z⟩:=CF.o _ F.o)
     |(go_at_call 165;(with_reducible refine Calls.mono (T2.o _) ?_);rintro e w2 ⟨rfl,hw⟩;subst hw;clear T2)
     |(go_at_call 165;(with_reducible refine Calls.mono (T3.o _) ?_);rintro e w3 ⟨rfl,hw⟩;subst hw;clear T3))
    go_ret;exact⟨by rw[E.o];rfl,J.o⟩
   |true=>
    rw[h3] at T3;have E:=I (show rpB p=tmB p.no by rw[rpB,h1,h2,h3];rfl);clear h1 h2 h3;go_enter Tryz.func112,Tryz.ntmps112
    go_wp2_with (first
     |(go_at_call 36;(with_reducible refine Calls.mono (M.o _) ?_);rintro e w1 ⟨rfl,D⟩;replace F:=I (F.o.below D);replace J:=J.t D;clear D M;(try clear O k1 k2 N Z);obtain⟨O,k1,k2,N,Z⟩:=CF.o _ F.o)
     |(go_at_call 165;(with_reducible refine Calls.mono (T2.o _) ?_);rintro e w2 ⟨rfl,hw⟩;subst hw;clear T2)
     |(go_at_call 165;(with_reducible refine Calls.mono (T3.o _) ?_);rintro e w3 ⟨rfl,hw⟩;subst hw;clear T3)
     |(go_at_call 171;(with_reducible refine Calls.mono (T4.o _) ?_);rintro e w4 ⟨rfl,hw⟩;subst hw;clear T4))
    go_ret;exact⟨by rw[E.o];rfl,J.o⟩
theorem OO (p:Pt) (w:World) (hk:p.ss.length=32) (hs:pSm p.c) (ht:p.tr.length<=1000000000):Calls Tryz.prog 110 #[.agg (ptC p).toArray] w fun e w'=>e=.returned (.bool (ptB' p))/\Below w.heap.size w w':=by
 have HI:=I (show(Tryz.prog.info? 40).map (·.size)=some (ptC p).toArray.size by rw[FB hk];kernel_rfl);have CF:=I (show ∀w':World,Blk w' w.heap.size 40 (ptC p).toArray->w'.cell? ⟨w.heap.size,0,none⟩=some (.string ⟨p.c.1.toArray⟩)/\w'.cell? ⟨w.heap.size,1,none⟩=some (.string ⟨p.c.2.toArray⟩)/\w'.cell? ⟨w.heap.size,34,none⟩=some (.string ⟨p.tr.toArray⟩)/\w'.cell? ⟨w.heap.size,35,none⟩=some (.int .i64 p.st)/\w'.cell? ⟨w.heap.size,36,none⟩=some (.int .i64 p.en) from fun w' h=>Jg hk h);obtain⟨cs,aw⟩:=Ak ((ptC p).toArray);rw[<-aw] at HI CF⊢;clear aw;have J:=I ((Below.refl w.heap.size w).alloc Ag (.cells cs 40));have F:=I (Blk.new w 40 cs);have M:=I (fun w1=>AV p.c w1 hs.1 hs.2);have T2:=I (fun w1=>LN p.tr w1 ht);have T3:=I (fun w1=>EP p.st w1);have T4:=I (fun w1=>EP p.en w1);obtain⟨O,k1,k2,N,Z⟩:=CF.o _ F.o;cases h1:prB p.c with
 |false=>
  rw[h1] at M;have E:=I (show ptB' p=false by rw[ptB',h1];rfl);clear h1;go_enter Tryz.func110,Tryz.ntmps110
  go_wp2_with (go_at_call 36;(with_reducible refine Calls.mono (M.o _) ?_);rintro e w1 ⟨rfl,D⟩;replace F:=I (F.o.below D);replace J:=J.t D;clear D M;(try clear O k1 k2 N Z);obtain⟨O,k1,k2,N,Z⟩:=CF.o _ F.o)
  go_ret;exact⟨by rw[E.o];rfl,J.o⟩
 |true=>
  rw[h1] at M;cases h2:trB p.tr with
  |false=>
   rw[h2] at T2;have E:=I (show ptB' p=false by rw[ptB',h1,h2];rfl);clear h1 h2;go_enter Tryz.func110,Tryz.ntmps110
   go_wp2_with (first
    |(go_at_call 36;(with_reducible refine Calls.mono (M.o _) ?_);rintro e w1 ⟨rfl,D⟩;replace F:=I (F.o.below D);replace J:=J.t D;clear D M;(try clear O k1 k2 N Z);obtain⟨O,k1,k2,N,Z⟩:=CF.o _ F.o)
    |(go_at_call 164;(with_reducible refine Calls.mono (T2.o _) ?_);rintro e w2 ⟨rfl,hw⟩;subst hw;clear T2))
   go_ret;exact⟨by rw[E.o];rfl,J.o⟩
  |true=>
   rw[h2] at T2;cases h3:tmB p.st with
   |false=>
    rw[h3] at T3;have E:=I (show ptB' p=false by rw[ptB',h1,h2,h3];rfl);clear h1 h2 h3;go_enter Tryz.func110,Tryz.ntmps110
    go_wp2_with (first
     |(go_at_call 36;(with_reducible refine Calls.mono (M.o _) ?_);rintro e w1 ⟨rfl,D⟩;replace F:=I (F.o.below D);replace J:=J.t D;clear D M;(try clear O k1 k2 N Z);obtain⟨O,k1,k2,N,Z⟩:=CF.o _ F.o)
     |(go_at_call 164;(with_reducible refine Calls.mono (T2.o _) ?_);rintro e w2 ⟨rfl,hw⟩;subst hw;clear T2)
     |(go_at_call 165;(with_reducible refine Calls.mono (T3.o _) ?_);rintro e w3 ⟨rfl,hw⟩;subst hw;clear T3))
    go_ret;exact⟨by rw[E.o];rfl,J.o⟩
   |true=>
    rw[h3] at T3;have E:=I (show ptB' p=tmB p.en by rw[ptB',h1,h2,h3];rfl);clear h1 h2 h3;go_enter Tryz.func110,Tryz.ntmps110
    go_wp2_with (first
     |(go_at_call 36;(with_reducible refine Calls.mono (M.o _) ?_);rintro e w1 ⟨rfl,D⟩;replace F:=I (F.o.below D);replace J:=J.t D;clear D M;(try clear O k1 k2 N Z);obtain⟨O,k1,k2,N,Z⟩:=CF.o _ F.o)
     |(go_at_call 164;(with_reducible refine Calls.mono (T2.o _) ?_);rintro e w2 ⟨rfl,hw⟩;subst hw;clear T2)
     |(go_at_call 165;(with_reducible refine Calls.mono (T3.o _) ?_);rintro e w3 ⟨rfl,hw⟩;subst hw;clear T3)
     |(go_at_call 165;(with_reducible refine Calls.mono (T4.o _) ?_);rintro e w4 ⟨rfl,hw⟩;subst hw;clear T4))
    go_ret;exact⟨by rw[E.o];rfl,J.o⟩
theorem Rv (p:Pt) (w:World) (hk:p.ss.length=32) (hs:pSm p.c) (D:p.tr.length<=1000000000):Calls Tryz.prog 110 #[.agg (ptC p).toArray] w fun e w'=>e=.returned (.bool (ptB p))/\Below w.heap.size w w':=by
 rw[<-dz];exact OO p w hk hs D
open DerR
theorem Ga (l:L) (A:Option Addr) (n c:Nat) (w:World) (D:n=l.length) (h:l.length<=2000):Calls Tryz.prog 94 #[.slice A n c] w fun e w'=>e=.returned (.tuple #[.slice A n c,.int .i64 0])/\w=w':=by
 subst D;have E:decide ((2000:Int)<(l.length:Int))=false:=decide_eq_false (by omega);clear h;go_enter Tryz.func94,Tryz.ntmps94
 go_wp2
 go_ret2
 exact⟨rfl,rfl⟩
theorem dA {a:An} (D:anB a=true):(anE a).length<=2000:=by
 have hp:prB a.c=true/\tmB a.t=true/\tmB a.q=true:=by simpa [anB] using D
 have b1:=(Bl hp.1).1;have b2:=AI a.t;have b3:=AI a.q;have:=AE 98 [prE a.c,encI a.t,encI a.q].flatten;rw[anE];rw[Gd] at this⊢;simp only[List.length_append] at this;omega
theorem dB {p:Rp} (hk:p.ss.length=32) (D:rpB p=true):(rpE p).length<=2000:=by
 have hp:prB p.s=true:=(show prB p.s=true/\tmB p.st=true/\tmB p.en=true/\tmB p.no=true by simpa [rpB] using D).1;have b1:=(Bl hp).1;have b2:=AI p.st;have b3:=AI p.en;have E:=AI p.no;have F:=AE 4 p.ss;have:=AE 122 [elem 4 p.ss,prE p.s,encI p.st,encI p.en,encI p.no].flatten;rw[rpE];rw[Fu] at this⊢;simp only[List.length_append] at this;omega
theorem dC {p:Pt} (hk:p.ss.length=32) (D:ptB p=true):(ptE p).length<=2000:=by
 have hp:=(Dl D).2.1;have F:=(Dl D).2.2.1;have b1:=(Bl hp).1;have b2:=AI p.st;have b3:=AI p.en;have E:=AE 27 p.tr;have J:=AE 4 p.ss;have:=AE 99 [prE p.c,elem 4 p.ss,elem 27 p.tr,encI p.st,encI p.en].flatten;rw[ptE];rw[Fu] at this⊢;simp only[List.length_append] at this;omega
theorem Nn (a:An) (w:World) (hs:pSm a.c):Calls Tryz.prog 104 #[.agg #[.string ⟨a.c.1.toArray⟩,.string ⟨a.c.2.toArray⟩,.int .i64 a.t,.int .i64 a.q]] w (EncR w (anO a)):=by
 have HI:=I (show(Tryz.prog.info? 42).map (·.size)=some (#[.string ⟨a.c.1.toArray⟩,.string ⟨a.c.2.toArray⟩,.int .i64 a.t,.int .i64 a.q]:Array Value).size by kernel_rfl);have N:=I (fun w1=>OK a w1 hs);have T0:=I (fun(D:anB a=true)=>fun w1=>Nl a w1 D);have F:=I (fun(D:anB a=true)=>dA D);obtain⟨cs,Z⟩:∃cs:Array Value,cs=#[.string ⟨a.c.1.toArray⟩,.string ⟨a.c.2.toArray⟩,.int .i64 a.t,.int .i64 a.q]:=⟨_,rfl⟩;rw[<-Z] at HI N T0⊢;clear Z;have O:=I ((Below.refl w.heap.size w).alloc Ag (.cells cs 42));have HK:=I (Blk.new w 42 cs);cases D:anB a with
 |false=>
  rw[D] at N;have E:=I (show anO a=none by unfold anO limO;rw[D];rfl);rw[E.o];clear D E T0 F hs;go_enter Tryz.func104,Tryz.ntmps104
  go_wp2_with (first
   |(refine Am (by rfl) 42 (.tmp 1) (by rfl) w.heap.size 0 (by rfl) cs _ (Ae HK.o) Tryz.underlying42 (by rfl) HI.o ?_)
   |(go_at_call 153;refine Aj (N.o _) ?_;rintro w1 M;replace O:=O.t M;clear M N)
   |fail)
  go_ret2
  exact FW O.o
 |true=>
  rw[D] at N;have T1:=I (T0.o D);have J:=F.o D;have E:=I (show anO a=some (anE a) from Dg.2 ⟨D,J,rfl⟩);rw[E.o];obtain⟨l,el⟩:=Ak (anE a);rw[<-el] at T1 J⊢;have LM:=I (fun A c w1=>Ga l A _ c w1 rfl J);clear D E el J T0 F hs;go_enter Tryz.func104,Tryz.ntmps104
  go_wp2_with (first
   |(refine Am (by rfl) 42 (.tmp 1) (by rfl) w.heap.size 0 (by rfl) cs _ (Ae HK.o) Tryz.underlying42 (by rfl) HI.o ?_)
   |(go_at_call 153;refine Aj (N.o _) ?_;rintro w1 M;replace HK:=I (HK.o.below M);replace O:=O.t M;clear M N)
   |(go_at_call 154;refine Calls.mono (T1.o _) ?_;rintro e w2 ⟨⟨g,c,rfl,h2,h3,h4⟩,M⟩;have HG:=I (Bi (l:=l) ⟨⟨g,c,rfl,h2,h3,h4⟩,M⟩ O.o);clear h2 h3 h4 M T1)
   |(go_at_call 94;refine Aj (LM.o _ _ _) ?_;rintro wy rfl;clear LM)
   |fail)
  go_ret2
  exact FX HG.o
theorem Rw (p:Rp) (w:World) (hk:p.ss.length=32) (hs:pSm p.s):Calls Tryz.prog 68 #[.agg (rpC p).toArray] w (EncR w (rpO p)):=by
 have HI:=I (show(Tryz.prog.info? 172).map (·.size)=some ((rpC p).toArray:Array Value).size by rw[OC hk];kernel_rfl);have N:=I (fun w1=>UK p w1 hk hs);have T0:=I (fun(D:rpB p=true)=>fun w1=>Ru p w1 hk D);have F:=I (fun(D:rpB p=true)=>dB hk D);obtain⟨cs,Z⟩:∃cs:Array Value,cs=(rpC p).toArray:=⟨_,rfl⟩;rw[<-Z] at HI N T0⊢;clear Z;have O:=I ((Below.refl w.heap.size w).alloc Ag (.cells cs 172));have HK:=I (Blk.new w 172 cs);cases D:rpB p with
 |false=>
  rw[D] at N;have E:=I (show rpO p=none by unfold rpO limO;rw[D];rfl);rw[E.o];clear D E T0 F hs hk;go_enter Tryz.func68,Tryz.ntmps68
  go_wp2_with (first
   |(refine Am (by rfl) 172 (.tmp 1) (by rfl) w.heap.size 0 (by rfl) cs _ (Ae HK.o) Tryz.underlying172 (by rfl) HI.o ?_)
   |(go_at_call 112;refine Aj (N.o _) ?_;rintro w1 M;replace O:=O.t M;clear M N)
   |fail)
  go_ret2
  exact FW O.o
 |true=>
  rw[D] at N;have T1:=I (T0.o D);have J:=F.o D;have E:=I (show rpO p=some (rpE p) from Dg.2 ⟨D,J,rfl⟩);rw[E.o];obtain⟨l,el⟩:=Ak (rpE p);rw[<-el] at T1 J⊢;have LM:=I (fun A c w1=>Ga l A _ c w1 rfl J);clear D E el J T0 F hs hk;go_enter Tryz.func68,Tryz.ntmps68
  go_wp2_with (first
   |(refine Am (by rfl) 172 (.tmp 1) (by rfl) w.heap.size 0 (by rfl) cs _ (Ae HK.o) Tryz.underlying172 (by rfl) HI.o ?_)
   |(go_at_call 112;refine Aj (N.o _) ?_;rintro w1 M;replace HK:=I (HK.o.below M);replace O:=O.t M;clear M N)
   |(go_at_call 113;refine Calls.mono (T1.o _) ?_;rintro e w2 ⟨⟨g,c,rfl,h2,h3,h4⟩,M⟩;have HG:=I (Bi (l:=l) ⟨⟨g,c,rfl,h2,h3,h4⟩,M⟩ O.o);clear h2 h3 h4 M T1)
   |(go_at_call 94;refine Aj (LM.o _ _ _) ?_;rintro wy rfl;clear LM)
   |fail)
  go_ret2
  exact FX HG.o
theorem JZ (p:Pt) (w:World) (hk:p.ss.length=32) (hs:pSm p.c) (ht:p.tr.length<=1000000000):Calls Tryz.prog 67 #[.agg (ptC p).toArray] w (EncR w (ptO p)):=by
 have HI:=I (show(Tryz.prog.info? 40).map (·.size)=some ((ptC p).toArray:Array Value).size by rw[FB hk];kernel_rfl);have N:=I (fun w1=>Rv p w1 hk hs ht);have T0:=I (fun(D:ptB p=true)=>fun w1=>ON p w1 hk D);have F:=I (fun(D:ptB p=true)=>dC hk D);obtain⟨cs,Z⟩:∃cs:Array Value,cs=(ptC p).toArray:=⟨_,rfl⟩;rw[<-Z] at HI N T0⊢;clear Z;have O:=I ((Below.refl w.heap.size w).alloc Ag (.cells cs 40));have HK:=I (Blk.new w 40 cs);cases D:ptB p with
 |false=>
  rw[D] at N;have E:=I (show ptO p=none by unfold ptO limO;rw[D];rfl);rw[E.o];clear D E T0 F hs hk ht;go_enter Tryz.func67,Tryz.ntmps67
  go_wp2_with (first
   |(refine Am (by rfl) 40 (.tmp 1) (by rfl) w.heap.size 0 (by rfl) cs _ (Ae HK.o) Tryz.underlying40 (by rfl) HI.o ?_)
   |(go_at_call 110;refine Aj (N.o _) ?_;rintro w1 M;replace O:=O.t M;clear M N)
   |fail)
  go_ret2
  exact FW O.o
 |true=>
  rw[D] at N;have T1:=I (T0.o D);have J:=F.o D;have E:=I (show ptO p=some (ptE p) from Dg.2 ⟨D,J,rfl⟩);rw[E.o];obtain⟨l,el⟩:=Ak (ptE p);rw[<-el] at T1 J⊢;have LM:=I (fun A c w1=>Ga l A _ c w1 rfl J);clear D E el J T0 F hs hk ht;go_enter Tryz.func67,Tryz.ntmps67
  go_wp2_with (first
   |(refine Am (by rfl) 40 (.tmp 1) (by rfl) w.heap.size 0 (by rfl) cs _ (Ae HK.o) Tryz.underlying40 (by rfl) HI.o ?_)
   |(go_at_call 110;refine Aj (N.o _) ?_;rintro w1 M;replace HK:=I (HK.o.below M);replace O:=O.t M;clear M N)
   |(go_at_call 111;refine Calls.mono (T1.o _) ?_;rintro e w2 ⟨⟨g,c,rfl,h2,h3,h4⟩,M⟩;have HG:=I (Bi (l:=l) ⟨⟨g,c,rfl,h2,h3,h4⟩,M⟩ O.o);clear h2 h3 h4 M T1)
   |(go_at_call 94;refine Aj (LM.o _ _ _) ?_;rintro wy rfl;clear LM)
   |fail)
  go_ret2
  exact FX HG.o
end Mc
end Go.Proofs.YthgignaohimadaaGreat
