import Derived.Test.YtfcjeebnkigeaaaGreatZKdcFirst16
set_option maxHeartbeats 25600000
set_option maxRecDepth 100000
set_option linter.unusedVariables false
set_option linter.unusedSimpArgs false
namespace Go.Proofs.YtfcjeebnkigeaaaGreat
section
namespace OpenQ
open Go.Joins Go.ChangeShapes Go.WideShapes Go.ChangeAt Go.RowKit Go.Deep Go.Proofs.YtfcjeebnkigeaaaGreat Af Rg Se
structure Ac where
 k:Int
 p:Pr
 y:Nat→UInt8
 n:Int
def aC (a:Ac):List Value:=.int .i64 a.k :: .string ⟨a.p.1.toArray⟩ :: .string ⟨a.p.2.toArray⟩ :: ((AP a.y).toList++[.int .i64 a.n])
def RdAc (w:World) (B:Nat) (A:Option Addr) (l:List Ac):Prop:=
 l = []∨∃g o,A=some ⟨g,o,none⟩∧g<B∧∀i x,l[i]? = some x→w.rangeAt g (o+i*36) (aC x)
theorem RdAc.keep {w w':World} {B:Nat} {A:Option Addr} {l:List Ac} (h:RdAc w B A l) (hb:Below B w w'):RdAc w' B A l:=by
 rcases h with h | ⟨g,o,h1,h2,h3⟩
 ·exact .inl h
 ·exact .inr ⟨g,o,h1,h2,fun i x hx j v hv=>(hb.cell (p:=⟨g,_,none⟩) h2).trans (h3 i x hx j v hv)⟩
theorem RdAc.at_ {w:World} {B:Nat} {A:Option Addr} {l:List Ac} {i:Nat} {x:Ac} (h:RdAc w B A l) (hx:l[i]? = some x):∃g o,A=some ⟨g,o,none⟩∧g<B∧w.rangeAt g (o+i*36) (aC x):=by
 rcases h with h | ⟨g,o,h1,h2,h3⟩
 ·subst h;simp at hx
 ·exact⟨g,o,h1,h2,h3 i x hx⟩
section
variable {H:Type} {enc:TypeId×Value→H} {W:World}
end
end OpenQ
end
section
namespace Rg
open Go.RowKit Af Se OpenQ
section
variable {w:World} {g:Nat} {t:TypeId} {x:Ac}
end
section
variable {w w':World} {B r q:Nat} {v v' dv dv':Value} {es es':List Ent} {l l':List It} {g:Nat}
def Ap (r:Nat) (v:Value) (es:List Ent) (q:Nat) (dv:Value):Prop:=∀k,DO q dv k→¬RO r v es k
theorem WB (h:Ap r v es q dv) (hd:DRing w B q dv l) (hn:∀k,RO r v' es' k→RO r v es k∨w.heap.size≤k):Ap r v' es' q dv:=fun k hk x=>by
 rcases hn k x with y | y
 ·exact h k hk y
 ·have:=hd.own_lt hk;omega
theorem Ye (h:Ap r v es q dv) (hr:Ring w B r v es) (hn:∀k,DO q dv' k→DO q dv k∨w.heap.size≤k):Ap r v es q dv':=fun k hk x=>by
 rcases hn k hk with y | y
 ·exact h k y x
 ·have:=hr.own_lt x;omega
theorem WC (h:Ap r v es q dv) (hd:DRing w B q dv l) (hc:Chg (AT r v) w w'):DRing w' B q dv l:=hd.chg hc (fun k hk x=>h k hk (Wr x))
theorem Uf (h:Ap r v es q dv) (hr:Ring w B r v es) (hc:Chg (DO q dv) w w'):Ring w' B r v es:=hr.chg hc (fun k hk x=>h k x hk)
end
end Rg
end
section
namespace Kd
open Go.RowKit Af Se
open Rg (It Ent Ring RO DRing DO Ap its addL addE addN Num BB prB)
structure Sc (a:Bool) (w:World) (B r:Nat) (v:Value) (es:List Ent) (q:Nat) (dv:Value) (j:Nat) (G:Nat→Prop):Prop where
 c:Ring w B r v es
 d:DRing w B q dv ((itX a).take j)
 e:its es=(itX a).take j
 z:Cz es 0
 ap:Ap r v es q dv
 g:∀k,G k→k<w.heap.size∧¬RO r v es k∧¬DO q dv k
section
variable {a:Bool} {G:Nat→Prop} {w w':World} {B r q j:Nat} {v dv:Value} {es:List Ent}
theorem Sc.below (h:Sc a w B r v es q dv j G) (hb:Below w.heap.size w w'):Sc a w' B r v es q dv j G:=⟨h.c.below hb,h.d.below hb,h.e,h.z,h.ap,fun k hk=>⟨Nat.lt_of_lt_of_le (h.g k hk).1 hb.size,(h.g k hk).2⟩⟩
theorem Sc.more {G2:Nat→Prop} (h:Sc a w B r v es q dv j G) (hg:∀k,G2 k→G k∨(k<w.heap.size∧¬RO r v es k∧¬DO q dv k)):Sc a w B r v es q dv j G2:=⟨h.c,h.d,h.e,h.z,h.ap,fun k hk=>(hg k hk).elim (h.g k) id⟩
theorem Sc.put (h:Sc a w B r v es q dv j G) {g:Nat} (hG:G g) (hg:w.grownBy w' (some g)):Sc a w' B r v es q dv j G:=by
 have hc:Chg (fun k=>k=g) w w':=⟨hg.os,hg.tape,hg.output,hg.size,fun i hi hn=>hg.block i hi (fun e=>hn (by injection e))⟩;exact⟨h.c.chg hc (fun k hk e=>(h.g g hG).2.1 (e▸hk)),h.d.chg hc (fun k hk e=>(h.g g hG).2.2 (e▸hk)),h.e,h.z,h.ap,fun k hk=>⟨Nat.lt_of_lt_of_le (h.g k hk).1 hg.size,(h.g k hk).2⟩⟩
theorem take_len (h:Sc a w B r v es q dv j G):es.length≤5∧((itX a).take j).length≤5:=by
 have h1:(itX a).length≤5:=by cases a<;>decide
 have h2:((itX a).take j).length≤5:=by rw[List.length_take];omega
 have h3:=congrArg List.length h.e;rw[Rg.DF] at h3;omega
theorem MC {l:List It} {p:Ms.Pr} (h:addE l p=0) (k:Nat→UInt8):prB p=true∧l.length<40∧addL l p k=l++[⟨p,BB l p+1,k⟩]:=by
 unfold addE at h
 split at h
 ·rename_i h1
  split at h
  ·rename_i h2
   refine⟨h1,h2,?_⟩;rw[addL,if_pos h1,if_pos h2]
  ·cases h
 ·cases h
theorem RN (a:Bool) {i:It} (h:(itX a)[j]? = some i):i.p.1.length≤1000∧i.p.2.length≤1000:=by
 have h1:=MC (NP a h) i.k;have:=Ms.Jr (p:=i.p) h1.1;omega
theorem Kp (h:Sc a w B r v es q dv j G) (hB:B≤w.heap.size) {i:It} (hi:(itX a)[j]? = some i) {cK:Array Value} (ecK:cK=AP i.k):Calls Tryz.prog 44 #[.pointer (some ⟨r,0,none⟩),prV i.p,.agg cK] w fun e w'=>
  (∃n:Int,e = .returned (.tuple #[.int .i64 n,.int .i64 0]))∧∃v' es',Ring w' B r v' es'∧DRing w' B q dv ((itX a).take j)∧its es'=(itX a).take (j+1)∧Cz es' 0∧Ap r v' es' q dv∧(∀k,G k→k<w'.heap.size∧¬RO r v' es' k∧¬DO q dv k)∧(∀k,G k→w'.heap[k]? = w.heap[k]?)∧Below B w w':=by
 subst ecK;have hp:=RN a hi;have hl:=take_len h;refine(Rg.Wq B r v es i.p i.k w h.c hB (by omega) (by omega) (by omega) (by rw[h.e];exact Uc (numX a) j)).mono ?_;rintro e w' ⟨rfl,v',es',h1,h2,h3,h4,h5⟩;rw[h.e,NP a hi];refine⟨⟨_,rfl⟩,v',es',h1,Rg.WC h.ap h.d h4,?_,?_,Rg.WB h.ap h.d h5,fun k hk=>⟨Nat.lt_of_lt_of_le (h.g k hk).1 h4.size,fun x=>?_,(h.g k hk).2.2⟩,fun k hk=>h4.block k (h.g k hk).1 (fun x=>(h.g k hk).2.1 (Rg.Wr x)),h4.below hB (fun k _ x=>h.c.own_lo (Rg.Wr x))⟩
 rotate_left 2
 ·rcases h5 k x with y | y
  ·exact(h.g k hk).2.1 y
  ·have:=(h.g k hk).1;omega
 ·rw[h2,h.e,(MC (NP a hi) i.k).2.2,US a hi]
 ·rcases h3 with rfl | ⟨x,rfl,z1,z2,z3⟩
  ·exact h.z
  ·intro j2 e2 he
   by_cases g:j2<es.length
   ·rw[List.getElem?_append_left g] at he
    exact h.z j2 e2 he
   ·rw[List.getElem?_append_right (by omega)] at he
    have:e2=x:=by
     rcases hk:j2 - es.length with _ | k
     ·rw[hk] at he;injection he with he;exact he.symm
     ·rw[hk] at he;simp at he
    subst this;omega
theorem NT {v':Value} {es':List Ent} (hc:Ring w B r v' es') (hd:DRing w B q dv ((itX a).take j)) (he:its es'=(itX a).take (j+1)) (hz:Cz es' 0) (hap:Ap r v' es' q dv) (hg:∀k,G k→k<w.heap.size∧¬RO r v' es' k∧¬DO q dv k) (hB:B≤w.heap.size) {i:It} (hi:(itX a)[j]? = some i) {cK:Array Value} (ecK:cK=AP i.k):Calls Tryz.prog 45 #[.pointer (some ⟨q,0,none⟩),prV i.p,.agg cK] w fun e w'=>
  (∃n:Int,e = .returned (.tuple #[.int .i64 n,.int .i64 0]))∧∃dv',Sc a w' B r v' es' q dv' (j+1) G∧(∀k,G k→w'.heap[k]? = w.heap[k]?)∧Below B w w':=by
 subst ecK;have hp:=RN a hi;have hk:=MC (NP a hi) i.k;have hn:=(UR a hi).1;refine(Rg.Wt B q dv _ i.p i.k w hd hB (by omega) (by omega) hk.1 hk.2.1 (by omega)).mono ?_;rintro e w' ⟨rfl,dv',h1,h2,h3⟩;refine⟨⟨_,rfl⟩,dv',⟨Rg.Uf hap hc h2,by rw[US a hi];exact h1,he,hz,Rg.Ye hap hc h3,fun k hk=>⟨Nat.lt_of_lt_of_le (hg k hk).1 h2.size,(hg k hk).2.1,fun x=>?_⟩⟩,fun k hk=>h2.block k (hg k hk).1 (hg k hk).2.2,h2.below hB (fun k _ x=>hd.own_lo x)⟩;rcases h3 k x with y | y
 ·exact(hg k hk).2.2 y
 ·have:=(hg k hk).1;omega
end
end Kd
end
section
namespace Mc
open Go.RowKit Af DerP Ms
theorem AX (p:Pr) (w:World) (h1:p.1.length≤1000000000) (h2:p.2.length≤1000000000):Calls Tryz.prog 99 #[prV p] w fun e w'=>e = .returned (.bool (prB p))∧Below w.heap.size w w':=Nm.AX p.1 p.2 w h1 h2
theorem DH (n a b:Int) (w:World):Calls Tryz.prog 252 #[.int .i64 n,.int .i64 a,.int .i64 b] w fun e w'=>e = .returned (.bool (inB n a b))∧w=w':=by
 cases h1:decide (a≤n) with
 |false=>
  go_enter Tryz.func252,Tryz.ntmps252
  go_wp2
  go_ret;exact⟨by rw[inB,h1];rfl,rfl⟩
 |true=>
  go_enter Tryz.func252,Tryz.ntmps252
  go_wp2
  go_ret;exact⟨by rw[inB,h1];rfl,rfl⟩
theorem Fq (n:Int) (w:World):Calls Tryz.prog 216 #[.int .i64 n] w fun e w'=>e = .returned (.bool (tmB n))∧w=w':=by
 have c1:=DH n 0 1073741824 w;rw[show inB n 0 1073741824=tmB n from rfl] at c1;go_enter Tryz.func216,Tryz.ntmps216
 go_wp2_with (go_at_call 252;refine Calls.mono c1 ?_;rintro e w1 ⟨rfl,rfl⟩)
 go_ret;exact⟨rfl,rfl⟩
theorem Gv (n:Int) (w:World):Calls Tryz.prog 222 #[.int .i64 n] w fun e w'=>e = .returned (.bool (tmB n))∧w=w':=by
 have c1:=DH n 0 1073741824 w;rw[show inB n 0 1073741824=tmB n from rfl] at c1;go_enter Tryz.func222,Tryz.ntmps222
 go_wp2_with (go_at_call 252;refine Calls.mono c1 ?_;rintro e w1 ⟨rfl,rfl⟩)
 go_ret;exact⟨rfl,rfl⟩
theorem Fs (b:L) (A:Option Addr) (c:Nat) (w:World):Calls Tryz.prog 251 #[.slice A b.length c] w fun e w'=>e = .returned (.bool (DB b))∧w=w':=by
 have c1:=DH (b.length:Int) 1 800 w;rw[Wk] at c1;go_enter Tryz.func251,Tryz.ntmps251
 go_wp2_with (go_at_call 252;refine Calls.mono c1 ?_;rintro e w1 ⟨rfl,rfl⟩)
 go_ret;exact⟨rfl,rfl⟩
theorem Fb (t:Tk) (A:Option Addr) (c:Nat) (w:World) (hs:pSm t.s):Calls Tryz.prog 250 #[.agg #[.string ⟨t.s.1.toArray⟩,.string ⟨t.s.2.toArray⟩,.int .i64 t.k,.slice A t.b.length c]] w fun e w'=>e = .returned (.bool (tkB t))∧Below w.heap.size w w':=by
 have hb0:=(Below.refl w.heap.size w).alloc (Nat.le_refl _) (.cells #[.string ⟨t.s.1.toArray⟩,.string ⟨t.s.2.toArray⟩,.int .i64 t.k,.slice A t.b.length c] 32);have HB:=I hb0;have HK:=I (Blk.new w 32 #[.string ⟨t.s.1.toArray⟩,.string ⟨t.s.2.toArray⟩,.int .i64 t.k,.slice A t.b.length c]);clear hb0;have T1:=I (fun w1=>AX t.s w1 hs.1 hs.2);have T2:=I (fun w1=>DH t.k 1 255 w1);have T3:=I (fun w1=>Fs t.b A c w1);cases h1:prB t.s with
 |false=>
  rw[h1] at T1;have E:=I (show tkB t=false by rw[tkB,h1];rfl);clear h1;go_enter Tryz.func250,Tryz.ntmps250
  go_wp2_with (go_at_call 99;(with_reducible refine Calls.mono (T1.o _) ?_);rintro e w1 ⟨rfl,hb⟩;replace HK:=I (HK.o.below hb);replace HB:=HB.t hb;clear hb T1;(try clear k0 k1 k2 k3);have k0:=HK.o.cell 0;have k1:=HK.o.cell 1;have k2:=HK.o.cell 2;have k3:=HK.o.cell 3;simp only[List.getElem?_toArray,List.getElem?_cons_zero,List.getElem?_cons_succ] at k0 k1 k2 k3)
  go_ret;exact⟨by rw[E.o];rfl,HB.o⟩
 |true=>
  rw[h1] at T1;cases h2:inB t.k 1 255 with
  |false=>
   rw[h2] at T2;have E:=I (show tkB t=false by rw[tkB,h1,h2];rfl);clear h1 h2;go_enter Tryz.func250,Tryz.ntmps250
   go_wp2_with (first
    |(go_at_call 99;(with_reducible refine Calls.mono (T1.o _) ?_);rintro e w1 ⟨rfl,hb⟩;replace HK:=I (HK.o.below hb);replace HB:=HB.t hb;clear hb T1;(try clear k0 k1 k2 k3);have k0:=HK.o.cell 0;have k1:=HK.o.cell 1;have k2:=HK.o.cell 2;have k3:=HK.o.cell 3;simp only[List.getElem?_toArray,List.getElem?_cons_zero,List.getElem?_cons_succ] at k0 k1 k2 k3)
    |(go_at_call 252;(with_reducible refine Calls.mono (T2.o _) ?_);rintro e w2 ⟨rfl,hw⟩;subst hw;clear T2))
   go_ret;exact⟨by rw[E.o];rfl,HB.o⟩
  |true=>
   rw[h2] at T2;have E:=I (show tkB t=DB t.b by rw[tkB,h1,h2];rfl);clear h1 h2;go_enter Tryz.func250,Tryz.ntmps250
   go_wp2_with (first
    |(go_at_call 99;(with_reducible refine Calls.mono (T1.o _) ?_);rintro e w1 ⟨rfl,hb⟩;replace HK:=I (HK.o.below hb);replace HB:=HB.t hb;clear hb T1;(try clear k0 k1 k2 k3);have k0:=HK.o.cell 0;have k1:=HK.o.cell 1;have k2:=HK.o.cell 2;have k3:=HK.o.cell 3;simp only[List.getElem?_toArray,List.getElem?_cons_zero,List.getElem?_cons_succ] at k0 k1 k2 k3)
    |(go_at_call 252;(with_reducible refine Calls.mono (T2.o _) ?_);rintro e w2 ⟨rfl,hw⟩;subst hw;clear T2)
    |(go_at_call 251;(with_reducible refine Calls.mono (T3.o _) ?_);rintro e w3 ⟨rfl,hw⟩;subst hw;clear T3))
   go_ret;exact⟨by rw[E.o];rfl,HB.o⟩
theorem Ug (q:As) (w:World) (hs:pSm q.c) (hs2:pSm q.s):Calls Tryz.prog 191 #[.agg #[.string ⟨q.c.1.toArray⟩,.string ⟨q.c.2.toArray⟩,.string ⟨q.s.1.toArray⟩,.string ⟨q.s.2.toArray⟩,.int .i64 q.t,.int .i64 q.no]] w fun e w'=>e = .returned (.bool (asB q))∧Below w.heap.size w w':=by
 have hb0:=(Below.refl w.heap.size w).alloc (Nat.le_refl _) (.cells #[.string ⟨q.c.1.toArray⟩,.string ⟨q.c.2.toArray⟩,.string ⟨q.s.1.toArray⟩,.string ⟨q.s.2.toArray⟩,.int .i64 q.t,.int .i64 q.no] 29);have HB:=I hb0;have HK:=I (Blk.new w 29 #[.string ⟨q.c.1.toArray⟩,.string ⟨q.c.2.toArray⟩,.string ⟨q.s.1.toArray⟩,.string ⟨q.s.2.toArray⟩,.int .i64 q.t,.int .i64 q.no]);clear hb0;have T1:=I (fun w1=>AX q.c w1 hs.1 hs.2);have T2:=I (fun w1=>AX q.s w1 hs2.1 hs2.2);have T3:=I (fun w1=>Fq q.t w1);have T4:=I (fun w1=>Gv q.no w1);cases h1:prB q.c with
 |false=>
  rw[h1] at T1;have E:=I (show asB q=false by rw[asB,h1];rfl);clear h1;go_enter Tryz.func191,Tryz.ntmps191
  go_wp2_with (go_at_call 99;(with_reducible refine Calls.mono (T1.o _) ?_);rintro e w1 ⟨rfl,hb⟩;replace HK:=I (HK.o.below hb);replace HB:=HB.t hb;clear hb T1;(try clear k0 k1 k2 k3 k4 k5);have k0:=HK.o.cell 0;have k1:=HK.o.cell 1;have k2:=HK.o.cell 2;have k3:=HK.o.cell 3;have k4:=HK.o.cell 4;have k5:=HK.o.cell 5;simp only[List.getElem?_toArray,List.getElem?_cons_zero,List.getElem?_cons_succ] at k0 k1 k2 k3 k4 k5)
  go_ret;exact⟨by rw[E.o];rfl,HB.o⟩
 |true=>
  rw[h1] at T1;cases h2:prB q.s with
  |false=>
   rw[h2] at T2;have E:=I (show asB q=false by rw[asB,h1,h2];rfl);clear h1 h2;go_enter Tryz.func191,Tryz.ntmps191
   go_wp2_with (first
    |(go_at_call 99;(with_reducible refine Calls.mono (T1.o _) ?_);rintro e w1 ⟨rfl,hb⟩;replace HK:=I (HK.o.below hb);replace HB:=HB.t hb;clear hb T1;(try clear k0 k1 k2 k3 k4 k5);have k0:=HK.o.cell 0;have k1:=HK.o.cell 1;have k2:=HK.o.cell 2;have k3:=HK.o.cell 3;have k4:=HK.o.cell 4;have k5:=HK.o.cell 5;simp only[List.getElem?_toArray,List.getElem?_cons_zero,List.getElem?_cons_succ] at k0 k1 k2 k3 k4 k5)
    |(go_at_call 99;(with_reducible refine Calls.mono (T2.o _) ?_);rintro e w2 ⟨rfl,hb⟩;replace HK:=I (HK.o.below hb);replace HB:=HB.t hb;clear hb T2;(try clear k0 k1 k2 k3 k4 k5);have k0:=HK.o.cell 0;have k1:=HK.o.cell 1;have k2:=HK.o.cell 2;have k3:=HK.o.cell 3;have k4:=HK.o.cell 4;have k5:=HK.o.cell 5;simp only[List.getElem?_toArray,List.getElem?_cons_zero,List.getElem?_cons_succ] at k0 k1 k2 k3 k4 k5))
   go_ret;exact⟨by rw[E.o];rfl,HB.o⟩
  |true=>
   rw[h2] at T2;cases h3:tmB q.t with
   |false=>
    rw[h3] at T3;have E:=I (show asB q=false by rw[asB,h1,h2,h3];rfl);clear h1 h2 h3;go_enter Tryz.func191,Tryz.ntmps191
    go_wp2_with (first
     |(go_at_call 99;(with_reducible refine Calls.mono (T1.o _) ?_);rintro e w1 ⟨rfl,hb⟩;replace HK:=I (HK.o.below hb);replace HB:=HB.t hb;clear hb T1;(try clear k0 k1 k2 k3 k4 k5);have k0:=HK.o.cell 0;have k1:=HK.o.cell 1;have k2:=HK.o.cell 2;have k3:=HK.o.cell 3;have k4:=HK.o.cell 4;have k5:=HK.o.cell 5;simp only[List.getElem?_toArray,List.getElem?_cons_zero,List.getElem?_cons_succ] at k0 k1 k2 k3 k4 k5)
     |(go_at_call 99;(with_reducible refine Calls.mono (T2.o _) ?_);rintro e w2 ⟨rfl,hb⟩;replace HK:=I (HK.o.below hb);replace HB:=HB.t hb;clear hb T2;(try clear k0 k1 k2 k3 k4 k5);have k0:=HK.o.cell 0;have k1:=HK.o.cell 1;have k2:=HK.o.cell 2;have k3:=HK.o.cell 3;have k4:=HK.o.cell 4;have k5:=HK.o.cell 5;simp only[List.getElem?_toArray,List.getElem?_cons_zero,List.getElem?_cons_succ] at k0 k1 k2 k3 k4 k5)
     |(go_at_call 216;(with_reducible refine Calls.mono (T3.o _) ?_);rintro e w3 ⟨rfl,hw⟩;subst hw;clear T3))
    go_ret;exact⟨by rw[E.o];rfl,HB.o⟩
   |true=>
    rw[h3] at T3;have E:=I (show asB q=tmB q.no by rw[asB,h1,h2,h3];rfl);clear h1 h2 h3;go_enter Tryz.func191,Tryz.ntmps191
    go_wp2_with (first
     |(go_at_call 99;(with_reducible refine Calls.mono (T1.o _) ?_);rintro e w1 ⟨rfl,hb⟩;replace HK:=I (HK.o.below hb);replace HB:=HB.t hb;clear hb T1;(try clear k0 k1 k2 k3 k4 k5);have k0:=HK.o.cell 0;have k1:=HK.o.cell 1;have k2:=HK.o.cell 2;have k3:=HK.o.cell 3;have k4:=HK.o.cell 4;have k5:=HK.o.cell 5;simp only[List.getElem?_toArray,List.getElem?_cons_zero,List.getElem?_cons_succ] at k0 k1 k2 k3 k4 k5)
     |(go_at_call 99;(with_reducible refine Calls.mono (T2.o _) ?_);rintro e w2 ⟨rfl,hb⟩;replace HK:=I (HK.o.below hb);replace HB:=HB.t hb;clear hb T2;(try clear k0 k1 k2 k3 k4 k5);have k0:=HK.o.cell 0;have k1:=HK.o.cell 1;have k2:=HK.o.cell 2;have k3:=HK.o.cell 3;have k4:=HK.o.cell 4;have k5:=HK.o.cell 5;simp only[List.getElem?_toArray,List.getElem?_cons_zero,List.getElem?_cons_succ] at k0 k1 k2 k3 k4 k5)
     |(go_at_call 216;(with_reducible refine Calls.mono (T3.o _) ?_);rintro e w3 ⟨rfl,hw⟩;subst hw;clear T3)
     |(go_at_call 222;(with_reducible refine Calls.mono (T4.o _) ?_);rintro e w4 ⟨rfl,hw⟩;subst hw;clear T4))
    go_ret;exact⟨by rw[E.o];rfl,HB.o⟩
theorem RQ (q:Tg) (A1 A2:Option Addr) (c1 c2:Nat) (w:World) (hs:pSm q.t.s) (hs2:pSm q.s):Calls Tryz.prog 192 #[.agg #[.string ⟨q.t.s.1.toArray⟩,.string ⟨q.t.s.2.toArray⟩,.int .i64 q.t.k,.slice A1 q.t.b.length c1,.slice A2 q.a.length c2,.string ⟨q.s.1.toArray⟩,.string ⟨q.s.2.toArray⟩,.int .i64 q.u,.int .i64 q.no]] w fun e w'=>e = .returned (.bool (tgB q))∧Below w.heap.size w w':=by
 have hb0:=(Below.refl w.heap.size w).alloc (Nat.le_refl _) (.cells #[.string ⟨q.t.s.1.toArray⟩,.string ⟨q.t.s.2.toArray⟩,.int .i64 q.t.k,.slice A1 q.t.b.length c1,.slice A2 q.a.length c2,.string ⟨q.s.1.toArray⟩,.string ⟨q.s.2.toArray⟩,.int .i64 q.u,.int .i64 q.no] 34);have HB:=I hb0;have HK:=I (Blk.new w 34 #[.string ⟨q.t.s.1.toArray⟩,.string ⟨q.t.s.2.toArray⟩,.int .i64 q.t.k,.slice A1 q.t.b.length c1,.slice A2 q.a.length c2,.string ⟨q.s.1.toArray⟩,.string ⟨q.s.2.toArray⟩,.int .i64 q.u,.int .i64 q.no]);clear hb0;have T1:=I (fun w1=>Fb q.t A1 c1 w1 hs);have T2:=I (fun w1=>Fs q.a A2 c2 w1);have T3:=I (fun w1=>AX q.s w1 hs2.1 hs2.2);have T4:=I (fun w1=>Fq q.u w1);have T5:=I (fun w1=>Gv q.no w1);cases h1:tkB q.t with
 |false=>
  rw[h1] at T1;have E:=I (show tgB q=false by rw[tgB,h1];rfl);clear h1;go_enter Tryz.func192,Tryz.ntmps192
  go_wp2_with (go_at_call 250;(with_reducible refine Calls.mono (T1.o _) ?_);rintro e w1 ⟨rfl,hb⟩;replace HK:=I (HK.o.below hb);replace HB:=HB.t hb;clear hb T1;(try clear k0 k1 k2 k3 k4 k5 k6 k7 k8);have k0:=HK.o.cell 0;have k1:=HK.o.cell 1;have k2:=HK.o.cell 2;have k3:=HK.o.cell 3;have k4:=HK.o.cell 4;have k5:=HK.o.cell 5;have k6:=HK.o.cell 6;have k7:=HK.o.cell 7;have k8:=HK.o.cell 8;simp only[List.getElem?_toArray,List.getElem?_cons_zero,List.getElem?_cons_succ] at k0 k1 k2 k3 k4 k5 k6 k7 k8)
  go_ret;exact⟨by rw[E.o];rfl,HB.o⟩
 |true=>
  rw[h1] at T1;cases h2:DB q.a with
  |false=>
   rw[h2] at T2;have E:=I (show tgB q=false by rw[tgB,h1,h2];rfl);clear h1 h2;go_enter Tryz.func192,Tryz.ntmps192
   go_wp2_with (first
    |(go_at_call 250;(with_reducible refine Calls.mono (T1.o _) ?_);rintro e w1 ⟨rfl,hb⟩;replace HK:=I (HK.o.below hb);replace HB:=HB.t hb;clear hb T1;(try clear k0 k1 k2 k3 k4 k5 k6 k7 k8);have k0:=HK.o.cell 0;have k1:=HK.o.cell 1;have k2:=HK.o.cell 2;have k3:=HK.o.cell 3;have k4:=HK.o.cell 4;have k5:=HK.o.cell 5;have k6:=HK.o.cell 6;have k7:=HK.o.cell 7;have k8:=HK.o.cell 8;simp only[List.getElem?_toArray,List.getElem?_cons_zero,List.getElem?_cons_succ] at k0 k1 k2 k3 k4 k5 k6 k7 k8)
    |(go_at_call 251;(with_reducible refine Calls.mono (T2.o _) ?_);rintro e w2 ⟨rfl,hw⟩;subst hw;clear T2))
   go_ret;exact⟨by rw[E.o];rfl,HB.o⟩
  |true=>
   rw[h2] at T2;cases h3:prB q.s with
   |false=>
    rw[h3] at T3;have E:=I (show tgB q=false by rw[tgB,h1,h2,h3];rfl);clear h1 h2 h3;go_enter Tryz.func192,Tryz.ntmps192
    go_wp2_with (first
     |(go_at_call 250;(with_reducible refine Calls.mono (T1.o _) ?_);rintro e w1 ⟨rfl,hb⟩;replace HK:=I (HK.o.below hb);replace HB:=HB.t hb;clear hb T1;(try clear k0 k1 k2 k3 k4 k5 k6 k7 k8);have k0:=HK.o.cell 0;have k1:=HK.o.cell 1;have k2:=HK.o.cell 2;have k3:=HK.o.cell 3;have k4:=HK.o.cell 4;have k5:=HK.o.cell 5;have k6:=HK.o.cell 6;have k7:=HK.o.cell 7;have k8:=HK.o.cell 8;simp only[List.getElem?_toArray,List.getElem?_cons_zero,List.getElem?_cons_succ] at k0 k1 k2 k3 k4 k5 k6 k7 k8)
     |(go_at_call 251;(with_reducible refine Calls.mono (T2.o _) ?_);rintro e w2 ⟨rfl,hw⟩;subst hw;clear T2)
     |(go_at_call 99;(with_reducible refine Calls.mono (T3.o _) ?_);rintro e w3 ⟨rfl,hb⟩;replace HK:=I (HK.o.below hb);replace HB:=HB.t hb;clear hb T3;(try clear k0 k1 k2 k3 k4 k5 k6 k7 k8);have k0:=HK.o.cell 0;have k1:=HK.o.cell 1;have k2:=HK.o.cell 2;have k3:=HK.o.cell 3;have k4:=HK.o.cell 4;have k5:=HK.o.cell 5;have k6:=HK.o.cell 6;have k7:=HK.o.cell 7;have k8:=HK.o.cell 8;simp only[List.getElem?_toArray,List.getElem?_cons_zero,List.getElem?_cons_succ] at k0 k1 k2 k3 k4 k5 k6 k7 k8))
    go_ret;exact⟨by rw[E.o];rfl,HB.o⟩
   |true=>
    rw[h3] at T3;cases h4:tmB q.u with
    |false=>
     rw[h4] at T4;have E:=I (show tgB q=false by rw[tgB,h1,h2,h3,h4];rfl);clear h1 h2 h3 h4;go_enter Tryz.func192,Tryz.ntmps192
     go_wp2_with (first
      |(go_at_call 250;(with_reducible refine Calls.mono (T1.o _) ?_);rintro e w1 ⟨rfl,hb⟩;replace HK:=I (HK.o.below hb);replace HB:=HB.t hb;clear hb T1;(try clear k0 k1 k2 k3 k4 k5 k6 k7 k8);have k0:=HK.o.cell 0;have k1:=HK.o.cell 1;have k2:=HK.o.cell 2;have k3:=HK.o.cell 3;have k4:=HK.o.cell 4;have k5:=HK.o.cell 5;have k6:=HK.o.cell 6;have k7:=HK.o.cell 7;have k8:=HK.o.cell 8;simp only[List.getElem?_toArray,List.getElem?_cons_zero,List.getElem?_cons_succ] at k0 k1 k2 k3 k4 k5 k6 k7 k8)
      |(go_at_call 251;(with_reducible refine Calls.mono (T2.o _) ?_);rintro e w2 ⟨rfl,hw⟩;subst hw;clear T2)
      |(go_at_call 99;(with_reducible refine Calls.mono (T3.o _) ?_);rintro e w3 ⟨rfl,hb⟩;replace HK:=I (HK.o.below hb);replace HB:=HB.t hb;clear hb T3;(try clear k0 k1 k2 k3 k4 k5 k6 k7 k8);have k0:=HK.o.cell 0;have k1:=HK.o.cell 1;have k2:=HK.o.cell 2;have k3:=HK.o.cell 3;have k4:=HK.o.cell 4;have k5:=HK.o.cell 5;have k6:=HK.o.cell 6;have k7:=HK.o.cell 7;have k8:=HK.o.cell 8;simp only[List.getElem?_toArray,List.getElem?_cons_zero,List.getElem?_cons_succ] at k0 k1 k2 k3 k4 k5 k6 k7 k8)
      |(go_at_call 216;(with_reducible refine Calls.mono (T4.o _) ?_);rintro e w4 ⟨rfl,hw⟩;subst hw;clear T4))
     go_ret;exact⟨by rw[E.o];rfl,HB.o⟩
    |true=>
     rw[h4] at T4;have E:=I (show tgB q=tmB q.no by rw[tgB,h1,h2,h3,h4];rfl);clear h1 h2 h3 h4;go_enter Tryz.func192,Tryz.ntmps192
     go_wp2_with (first
      |(go_at_call 250;(with_reducible refine Calls.mono (T1.o _) ?_);rintro e w1 ⟨rfl,hb⟩;replace HK:=I (HK.o.below hb);replace HB:=HB.t hb;clear hb T1;(try clear k0 k1 k2 k3 k4 k5 k6 k7 k8);have k0:=HK.o.cell 0;have k1:=HK.o.cell 1;have k2:=HK.o.cell 2;have k3:=HK.o.cell 3;have k4:=HK.o.cell 4;have k5:=HK.o.cell 5;have k6:=HK.o.cell 6;have k7:=HK.o.cell 7;have k8:=HK.o.cell 8;simp only[List.getElem?_toArray,List.getElem?_cons_zero,List.getElem?_cons_succ] at k0 k1 k2 k3 k4 k5 k6 k7 k8)
      |(go_at_call 251;(with_reducible refine Calls.mono (T2.o _) ?_);rintro e w2 ⟨rfl,hw⟩;subst hw;clear T2)
      |(go_at_call 99;(with_reducible refine Calls.mono (T3.o _) ?_);rintro e w3 ⟨rfl,hb⟩;replace HK:=I (HK.o.below hb);replace HB:=HB.t hb;clear hb T3;(try clear k0 k1 k2 k3 k4 k5 k6 k7 k8);have k0:=HK.o.cell 0;have k1:=HK.o.cell 1;have k2:=HK.o.cell 2;have k3:=HK.o.cell 3;have k4:=HK.o.cell 4;have k5:=HK.o.cell 5;have k6:=HK.o.cell 6;have k7:=HK.o.cell 7;have k8:=HK.o.cell 8;simp only[List.getElem?_toArray,List.getElem?_cons_zero,List.getElem?_cons_succ] at k0 k1 k2 k3 k4 k5 k6 k7 k8)
      |(go_at_call 216;(with_reducible refine Calls.mono (T4.o _) ?_);rintro e w4 ⟨rfl,hw⟩;subst hw;clear T4)
      |(go_at_call 222;(with_reducible refine Calls.mono (T5.o _) ?_);rintro e w5 ⟨rfl,hw⟩;subst hw;clear T5))
     go_ret;exact⟨by rw[E.o];rfl,HB.o⟩
theorem Uh (q:Re) (A1 A2:Option Addr) (c1 c2:Nat) (w:World) (hs:pSm q.t.s) (hs2:pSm q.c):Calls Tryz.prog 193 #[.agg #[.string ⟨q.c.1.toArray⟩,.string ⟨q.c.2.toArray⟩,.string ⟨q.t.s.1.toArray⟩,.string ⟨q.t.s.2.toArray⟩,.int .i64 q.t.k,.slice A1 q.t.b.length c1,.slice A2 q.b.length c2]] w fun e w'=>e = .returned (.bool (reB q))∧Below w.heap.size w w':=by
 have hb0:=(Below.refl w.heap.size w).alloc (Nat.le_refl _) (.cells #[.string ⟨q.c.1.toArray⟩,.string ⟨q.c.2.toArray⟩,.string ⟨q.t.s.1.toArray⟩,.string ⟨q.t.s.2.toArray⟩,.int .i64 q.t.k,.slice A1 q.t.b.length c1,.slice A2 q.b.length c2] 38);have HB:=I hb0;have HK:=I (Blk.new w 38 #[.string ⟨q.c.1.toArray⟩,.string ⟨q.c.2.toArray⟩,.string ⟨q.t.s.1.toArray⟩,.string ⟨q.t.s.2.toArray⟩,.int .i64 q.t.k,.slice A1 q.t.b.length c1,.slice A2 q.b.length c2]);clear hb0;have T1:=I (fun w1=>AX q.c w1 hs2.1 hs2.2);have T2:=I (fun w1=>Fb q.t A1 c1 w1 hs);have T3:=I (fun w1=>Fs q.b A2 c2 w1);cases h1:prB q.c with
 |false=>
  rw[h1] at T1;have E:=I (show reB q=false by rw[reB,h1];rfl);clear h1;go_enter Tryz.func193,Tryz.ntmps193
  go_wp2_with (go_at_call 99;(with_reducible refine Calls.mono (T1.o _) ?_);rintro e w1 ⟨rfl,hb⟩;replace HK:=I (HK.o.below hb);replace HB:=HB.t hb;clear hb T1;(try clear k0 k1 k2 k3 k4 k5 k6);have k0:=HK.o.cell 0;have k1:=HK.o.cell 1;have k2:=HK.o.cell 2;have k3:=HK.o.cell 3;have k4:=HK.o.cell 4;have k5:=HK.o.cell 5;have k6:=HK.o.cell 6;simp only[List.getElem?_toArray,List.getElem?_cons_zero,List.getElem?_cons_succ] at k0 k1 k2 k3 k4 k5 k6)
  go_ret;exact⟨by rw[E.o];rfl,HB.o⟩
 |true=>
  rw[h1] at T1;cases h2:tkB q.t with
  |false=>
   rw[h2] at T2;have E:=I (show reB q=false by rw[reB,h1,h2];rfl);clear h1 h2;go_enter Tryz.func193,Tryz.ntmps193
   go_wp2_with (first
    |(go_at_call 99;(with_reducible refine Calls.mono (T1.o _) ?_);rintro e w1 ⟨rfl,hb⟩;replace HK:=I (HK.o.below hb);replace HB:=HB.t hb;clear hb T1;(try clear k0 k1 k2 k3 k4 k5 k6);have k0:=HK.o.cell 0;have k1:=HK.o.cell 1;have k2:=HK.o.cell 2;have k3:=HK.o.cell 3;have k4:=HK.o.cell 4;have k5:=HK.o.cell 5;have k6:=HK.o.cell 6;simp only[List.getElem?_toArray,List.getElem?_cons_zero,List.getElem?_cons_succ] at k0 k1 k2 k3 k4 k5 k6)
    |(go_at_call 250;(with_reducible refine Calls.mono (T2.o _) ?_);rintro e w2 ⟨rfl,hb⟩;replace HK:=I (HK.o.below hb);replace HB:=HB.t hb;clear hb T2;(try clear k0 k1 k2 k3 k4 k5 k6);have k0:=HK.o.cell 0;have k1:=HK.o.cell 1;have k2:=HK.o.cell 2;have k3:=HK.o.cell 3;have k4:=HK.o.cell 4;have k5:=HK.o.cell 5;have k6:=HK.o.cell 6;simp only[List.getElem?_toArray,List.getElem?_cons_zero,List.getElem?_cons_succ] at k0 k1 k2 k3 k4 k5 k6))
   go_ret;exact⟨by rw[E.o];rfl,HB.o⟩
  |true=>
   rw[h2] at T2;have E:=I (show reB q=DB q.b by rw[reB,h1,h2];rfl);clear h1 h2;go_enter Tryz.func193,Tryz.ntmps193
   go_wp2_with (first
    |(go_at_call 99;(with_reducible refine Calls.mono (T1.o _) ?_);rintro e w1 ⟨rfl,hb⟩;replace HK:=I (HK.o.below hb);replace HB:=HB.t hb;clear hb T1;(try clear k0 k1 k2 k3 k4 k5 k6);have k0:=HK.o.cell 0;have k1:=HK.o.cell 1;have k2:=HK.o.cell 2;have k3:=HK.o.cell 3;have k4:=HK.o.cell 4;have k5:=HK.o.cell 5;have k6:=HK.o.cell 6;simp only[List.getElem?_toArray,List.getElem?_cons_zero,List.getElem?_cons_succ] at k0 k1 k2 k3 k4 k5 k6)
    |(go_at_call 250;(with_reducible refine Calls.mono (T2.o _) ?_);rintro e w2 ⟨rfl,hb⟩;replace HK:=I (HK.o.below hb);replace HB:=HB.t hb;clear hb T2;(try clear k0 k1 k2 k3 k4 k5 k6);have k0:=HK.o.cell 0;have k1:=HK.o.cell 1;have k2:=HK.o.cell 2;have k3:=HK.o.cell 3;have k4:=HK.o.cell 4;have k5:=HK.o.cell 5;have k6:=HK.o.cell 6;simp only[List.getElem?_toArray,List.getElem?_cons_zero,List.getElem?_cons_succ] at k0 k1 k2 k3 k4 k5 k6)
    |(go_at_call 251;(with_reducible refine Calls.mono (T3.o _) ?_);rintro e w3 ⟨rfl,hw⟩;subst hw;clear T3))
   go_ret;exact⟨by rw[E.o];rfl,HB.o⟩
theorem Ui (q:Ap) (A1 A2:Option Addr) (c1 c2:Nat) (w:World) (hs:pSm q.t.s):Calls Tryz.prog 194 #[.agg #[.string ⟨q.t.s.1.toArray⟩,.string ⟨q.t.s.2.toArray⟩,.int .i64 q.t.k,.slice A1 q.t.b.length c1,.slice A2 q.a.length c2]] w fun e w'=>e = .returned (.bool (apB q))∧Below w.heap.size w w':=by
 have hb0:=(Below.refl w.heap.size w).alloc (Nat.le_refl _) (.cells #[.string ⟨q.t.s.1.toArray⟩,.string ⟨q.t.s.2.toArray⟩,.int .i64 q.t.k,.slice A1 q.t.b.length c1,.slice A2 q.a.length c2] 89);have HB:=I hb0;have HK:=I (Blk.new w 89 #[.string ⟨q.t.s.1.toArray⟩,.string ⟨q.t.s.2.toArray⟩,.int .i64 q.t.k,.slice A1 q.t.b.length c1,.slice A2 q.a.length c2]);clear hb0;have T1:=I (fun w1=>Fb q.t A1 c1 w1 hs);have T2:=I (fun w1=>Fs q.a A2 c2 w1);cases h1:tkB q.t with
 |false=>
  rw[h1] at T1;have E:=I (show apB q=false by rw[apB,h1];rfl);clear h1;go_enter Tryz.func194,Tryz.ntmps194
  go_wp2_with (go_at_call 250;(with_reducible refine Calls.mono (T1.o _) ?_);rintro e w1 ⟨rfl,hb⟩;replace HK:=I (HK.o.below hb);replace HB:=HB.t hb;clear hb T1;(try clear k0 k1 k2 k3 k4);have k0:=HK.o.cell 0;have k1:=HK.o.cell 1;have k2:=HK.o.cell 2;have k3:=HK.o.cell 3;have k4:=HK.o.cell 4;simp only[List.getElem?_toArray,List.getElem?_cons_zero,List.getElem?_cons_succ] at k0 k1 k2 k3 k4)
  go_ret;exact⟨by rw[E.o];rfl,HB.o⟩
 |true=>
  rw[h1] at T1;have E:=I (show apB q=DB q.a by rw[apB,h1];rfl);clear h1;go_enter Tryz.func194,Tryz.ntmps194
  go_wp2_with (first
   |(go_at_call 250;(with_reducible refine Calls.mono (T1.o _) ?_);rintro e w1 ⟨rfl,hb⟩;replace HK:=I (HK.o.below hb);replace HB:=HB.t hb;clear hb T1;(try clear k0 k1 k2 k3 k4);have k0:=HK.o.cell 0;have k1:=HK.o.cell 1;have k2:=HK.o.cell 2;have k3:=HK.o.cell 3;have k4:=HK.o.cell 4;simp only[List.getElem?_toArray,List.getElem?_cons_zero,List.getElem?_cons_succ] at k0 k1 k2 k3 k4)
   |(go_at_call 251;(with_reducible refine Calls.mono (T2.o _) ?_);rintro e w2 ⟨rfl,hw⟩;subst hw;clear T2))
  go_ret;exact⟨by rw[E.o];rfl,HB.o⟩
theorem Uj (q:Fa) (w:World):Calls Tryz.prog 195 #[.agg #[.int .i64 q.e,.int .i64 q.no]] w fun e w'=>e = .returned (.bool (faB q))∧Below w.heap.size w w':=by
 have hb0:=(Below.refl w.heap.size w).alloc (Nat.le_refl _) (.cells #[.int .i64 q.e,.int .i64 q.no] 91);have HB:=I hb0;have HK:=I (Blk.new w 91 #[.int .i64 q.e,.int .i64 q.no]);clear hb0;have T1:=I (fun w1=>DH q.e 1 255 w1);have T2:=I (fun w1=>Gv q.no w1);cases h1:inB q.e 1 255 with
 |false=>
  rw[h1] at T1;have E:=I (show faB q=false by rw[faB,h1];rfl);clear h1;go_enter Tryz.func195,Tryz.ntmps195
  go_wp2_with (go_at_call 252;(with_reducible refine Calls.mono (T1.o _) ?_);rintro e w1 ⟨rfl,hw⟩;subst hw;clear T1)
  go_ret;exact⟨by rw[E.o];rfl,HB.o⟩
 |true=>
  rw[h1] at T1;have E:=I (show faB q=tmB q.no by rw[faB,h1];rfl);clear h1;go_enter Tryz.func195,Tryz.ntmps195
  go_wp2_with (first
   |(go_at_call 252;(with_reducible refine Calls.mono (T1.o _) ?_);rintro e w1 ⟨rfl,hw⟩;subst hw;clear T1)
   |(go_at_call 222;(with_reducible refine Calls.mono (T2.o _) ?_);rintro e w2 ⟨rfl,hw⟩;subst hw;clear T2))
  go_ret;exact⟨by rw[E.o];rfl,HB.o⟩
end Mc
end
section
namespace Mc
open Go.RowKit Af DerP DerR Ms
theorem Hr (t:UInt8) (p:L):0<(elem t p).length:=by rw[DQ];omega
theorem IU (l:L) (w:World) (hl:l.length≤65535):Calls Tryz.prog 220 #[.string ⟨l.toArray⟩] w (BE w (elem 27 l)):=
 (DerW.Fi l w hl).mono fun e w' h=>by obtain⟨v,rfl,h1,h2⟩:=h;exact Ev h1 (Hr _ _) h2
theorem Ca (n:Int) (w:World):Calls Tryz.prog 221 #[.int .i64 n] w (BE w (encI n)):=
 (DerW.Dq n w).mono fun e w' h=>by obtain⟨v,rfl,h1,h2⟩:=h;exact Ev h1 (Hr _ _) h2
theorem Cp (l:L) (A:Option Addr) (n c B:Nat) (w:World) (hr:Rd w B A (bvs l)) (hn:n=l.length) (hB:B≤w.heap.size) (hl:l.length≤65535):Calls Tryz.prog 219 #[.slice A n c] w (BE w (elem 4 l)):=
 (DerW.Dy l A n c B w hr hn hB hl).mono fun e w' h=>by obtain⟨v,rfl,h1,h2⟩:=h;exact Ev h1 (Hr _ _) h2
theorem Ck (t:UInt8) (ls:List L) (A:Option Addr) (m c B:Nat) (w:World) (hr:DerW.Rds w B A ls) (hm:m=ls.length) (hB:B≤w.heap.size) (hl:ls.flatten.length≤65535) (hc:ls.length≤1000000) :
  Calls Tryz.prog 217 #[.int .u8 t.toNat,.slice A m c] w (BE w (elem t ls.flatten)):=
 (DerW.Df t ls A m c B w hr hm hB hl hc).mono fun e w' h=>by obtain⟨v,rfl,h1,h2⟩:=h;exact Ev h1 (Hr _ _) h2
theorem BH (p:Pr) (w:World) (hp:prB p=true):Calls Tryz.prog 218 #[.agg #[.string ⟨p.1.toArray⟩,.string ⟨p.2.toArray⟩]] w (BE w (prE p)):=by
 have HB:=I ((Below.refl w.heap.size w).alloc (Nat.le_refl _) (.cells #[.string ⟨p.1.toArray⟩,.string ⟨p.2.toArray⟩] 27));have HK:=I (Blk.new w 27 #[.string ⟨p.1.toArray⟩,.string ⟨p.2.toArray⟩]);have b1:=Jr hp;have b2:=Av 27 p.1;have b3:=Av 27 p.2;have T1:=I (fun w1=>IU p.1 w1 (by omega));have T2:=I (fun w1=>IU p.2 w1 (by omega));have HL:=I (show [elem 27 p.1,elem 27 p.2].flatten.length≤65535 by rw[FK];simp only[List.length_append];omega);have HE:=I (show prE p=elem 48 [elem 27 p.1,elem 27 p.2].flatten from rfl);obtain⟨l1,el1⟩:∃l,l=elem 27 p.1:=⟨_,rfl⟩;obtain⟨l2,el2⟩:∃l,l=elem 27 p.2:=⟨_,rfl⟩;rw[←el1] at T1 HL HE;rw[←el2] at T2 HL HE;rw[HE.o,FK];clear HE el1 el2 b1 b2 b3 hp;go_enter Tryz.func218,Tryz.ntmps218
 go_wp2
 obtain⟨W,eW⟩:∃W,W=w.alloc (.cells #[.string ⟨p.1.toArray⟩,.string ⟨p.2.toArray⟩] 27):=⟨_,rfl⟩;rw[←eW] at HB HK⊢;clear eW;replace HK:=I (show Blk W.drew _ _ _ from HK.o.drewN 1);replace HB:=I (show Below _ _ W.drew from below_drewN HB.o 1)
 go_region_held3 (fun w'=>w'.cell? ⟨w.heap.size,0,none⟩=some (.string ⟨p.1.toArray⟩)∧w'.cell? ⟨w.heap.size,1,none⟩=some (.string ⟨p.2.toArray⟩)) (first | exact⟨HK.o.cell 0,HK.o.cell 1⟩ | exact⟨(HK.o.alloc _).cell 0,(HK.o.alloc _).cell 1⟩) ((first
  |(go_at_call 220;(with_reducible refine Calls.mono (T1.o _) ?_);rintro e w1 ⟨⟨g1,c1,rfl,hg1,hc1,hr1⟩,hb⟩;clear T1;have HR1:=I hr1;replace HK:=I (HK.o.below hb);replace HB:=HB.t hb;clear hb hr1 hg1 hc1)
  |(go_at_call 220;(with_reducible refine Calls.mono (T2.o _) ?_);rintro e w2 ⟨⟨g2,c2,rfl,hg2,hc2,hr2⟩,hb⟩;clear T2;replace HR1:=I (AN HR1.o hb);have HR2:=I hr2;replace HK:=I (HK.o.below hb);replace HB:=HB.t hb;clear hb hr2 hg2 hc2)
  |(go_at_call 217;refine Calls.mono (Ck 48 [l1,l2] _ 2 2 (w2.heap.size+1) _ (Ki HR1.o HR2.o) rfl (by simp) HL.o (by simp)) ?_;rintro e wz ⟨⟨gz,cz,rfl,hgz,hcz,hrz⟩,hb⟩;have hal:=(Below.refl w2.heap.size w2).alloc (Nat.le_refl _) (.cells #[.slice (some ⟨g1,0,none⟩) l1.length c1,.slice (some ⟨g2,0,none⟩) l2.length c2] 30);have HG:=I (Bc (l:=elem 48 [l1,l2].flatten) ⟨⟨gz,cz,rfl,hgz,hcz,hrz⟩,hb⟩ (HB.o.trans (hal.mono HB.o.size)));rw[FK] at HG;replace HK:=I ((HK.o.alloc (.cells #[.slice (some ⟨g1,0,none⟩) l1.length c1,.slice (some ⟨g2,0,none⟩) l2.length c2] 30)).below hb);clear hal hgz hcz hrz hb)))
 go_wp2
 go_ret;exact HG.o
theorem Eb (t:Tk) (A:Option Addr) (c:Nat) (w:World) (ht:tkB t=true) (hr:Rd w w.heap.size A (bvs t.b)):Calls Tryz.prog 253 #[.agg #[.string ⟨t.s.1.toArray⟩,.string ⟨t.s.2.toArray⟩,.int .i64 t.k,.slice A t.b.length c]] w (BE w (tkE t)):=by
 have HB:=I ((Below.refl w.heap.size w).alloc (Nat.le_refl _) (.cells #[.string ⟨t.s.1.toArray⟩,.string ⟨t.s.2.toArray⟩,.int .i64 t.k,.slice A t.b.length c] 32));have HK:=I (Blk.new w 32 #[.string ⟨t.s.1.toArray⟩,.string ⟨t.s.2.toArray⟩,.int .i64 t.k,.slice A t.b.length c]);have hp:=Nn ht;have b1:=(Bn hp.1).1;have b2:=AG t.k;have b3:=Av 4 t.b;have T1:=I (fun w1=>BH t.s w1 hp.1);have T2:=I (fun w1=>Ca t.k w1);have T3:=I (fun w1 (h:Below w.heap.size w w1)=>Cp t.b A t.b.length c w1.heap.size w1 ((hr.below h).more h.size) rfl (Nat.le_refl _) (by omega));have HL:=I (show [prE t.s,encI t.k,elem 4 t.b].flatten.length≤65535 by rw[LX];simp only[List.length_append];omega);have HE:=I (show tkE t=elem 97 [prE t.s,encI t.k,elem 4 t.b].flatten from rfl);obtain⟨l1,el1⟩:∃l,l=prE t.s:=⟨_,rfl⟩;obtain⟨l2,el2⟩:∃l,l=encI t.k:=⟨_,rfl⟩;obtain⟨l3,el3⟩:∃l,l=elem 4 t.b:=⟨_,rfl⟩;rw[←el1] at T1 HL HE;rw[←el2] at T2 HL HE;rw[←el3] at T3 HL HE;rw[HE.o,LX];clear HE el1 el2 el3 hp b1 b2 b3 ht hr;go_enter Tryz.func253,Tryz.ntmps253
 go_wp2
 obtain⟨W,eW⟩:∃W,W=w.alloc (.cells #[.string ⟨t.s.1.toArray⟩,.string ⟨t.s.2.toArray⟩,.int .i64 t.k,.slice A t.b.length c] 32):=⟨_,rfl⟩;rw[←eW] at HB HK⊢;clear eW;replace HK:=I (show Blk W.drew _ _ _ from HK.o.drewN 1);replace HB:=I (show Below _ _ W.drew from below_drewN HB.o 1)
 go_region_held3 (fun w'=>w'.cell? ⟨w.heap.size,0,none⟩=some (.string ⟨t.s.1.toArray⟩)∧w'.cell? ⟨w.heap.size,1,none⟩=some (.string ⟨t.s.2.toArray⟩)∧w'.cell? ⟨w.heap.size,2,none⟩=some (.int .i64 t.k)∧w'.cell? ⟨w.heap.size,3,none⟩=some (.slice A t.b.length c)) (first | exact⟨HK.o.cell 0,HK.o.cell 1,HK.o.cell 2,HK.o.cell 3⟩ | exact⟨(HK.o.alloc _).cell 0,(HK.o.alloc _).cell 1,(HK.o.alloc _).cell 2,(HK.o.alloc _).cell 3⟩) ((first
  |(go_at_call 218;(with_reducible refine Calls.mono (T1.o _) ?_);rintro e w1 ⟨⟨g1,c1,rfl,hg1,hc1,hr1⟩,hb⟩;clear T1;have HR1:=I hr1;replace HK:=I (HK.o.below hb);replace HB:=HB.t hb;clear hb hr1 hg1 hc1)
  |(go_at_call 221;(with_reducible refine Calls.mono (T2.o _) ?_);rintro e w2 ⟨⟨g2,c2,rfl,hg2,hc2,hr2⟩,hb⟩;clear T2;replace HR1:=I (AN HR1.o hb);have HR2:=I hr2;replace HK:=I (HK.o.below hb);replace HB:=HB.t hb;clear hb hr2 hg2 hc2)
  |(go_at_call 219;(with_reducible refine Calls.mono (T3.o _ HB.o) ?_);rintro e w3 ⟨⟨g3,c3,rfl,hg3,hc3,hr3⟩,hb⟩;clear T3;replace HR1:=I (AN HR1.o hb);replace HR2:=I (AN HR2.o hb);have HR3:=I hr3;replace HK:=I (HK.o.below hb);replace HB:=HB.t hb;clear hb hr3 hg3 hc3)
  |(go_at_call 217;refine Calls.mono (Ck 97 [l1,l2,l3] _ 3 3 (w3.heap.size+1) _ (Li HR1.o HR2.o HR3.o) rfl (by simp) HL.o (by simp)) ?_;rintro e wz ⟨⟨gz,cz,rfl,hgz,hcz,hrz⟩,hb⟩;have hal:=(Below.refl w3.heap.size w3).alloc (Nat.le_refl _) (.cells #[.slice (some ⟨g1,0,none⟩) l1.length c1,.slice (some ⟨g2,0,none⟩) l2.length c2,.slice (some ⟨g3,0,none⟩) l3.length c3] 30);have HG:=I (Bc (l:=elem 97 [l1,l2,l3].flatten) ⟨⟨gz,cz,rfl,hgz,hcz,hrz⟩,hb⟩ (HB.o.trans (hal.mono HB.o.size)));rw[LX] at HG;replace HK:=I ((HK.o.alloc (.cells #[.slice (some ⟨g1,0,none⟩) l1.length c1,.slice (some ⟨g2,0,none⟩) l2.length c2,.slice (some ⟨g3,0,none⟩) l3.length c3] 30)).below hb);clear hal hgz hcz hrz hb)))
 go_wp2
 go_ret;exact HG.o
theorem RR (q:As) (w:World) (ha:asB q=true):Calls Tryz.prog 196 #[.agg #[.string ⟨q.c.1.toArray⟩,.string ⟨q.c.2.toArray⟩,.string ⟨q.s.1.toArray⟩,.string ⟨q.s.2.toArray⟩,.int .i64 q.t,.int .i64 q.no]] w (BE w (asE q)):=by
 have HB:=I ((Below.refl w.heap.size w).alloc (Nat.le_refl _) (.cells #[.string ⟨q.c.1.toArray⟩,.string ⟨q.c.2.toArray⟩,.string ⟨q.s.1.toArray⟩,.string ⟨q.s.2.toArray⟩,.int .i64 q.t,.int .i64 q.no] 29));have HK:=I (Blk.new w 29 #[.string ⟨q.c.1.toArray⟩,.string ⟨q.c.2.toArray⟩,.string ⟨q.s.1.toArray⟩,.string ⟨q.s.2.toArray⟩,.int .i64 q.t,.int .i64 q.no]);have hp:prB q.c=true∧prB q.s=true∧tmB q.t=true∧tmB q.no=true:=by simpa [asB] using ha
 have b1:=(Bn hp.1).1;have b2:=(Bn hp.2.1).1;have b3:=AG q.t;have b4:=AG q.no;have T1:=I (fun w1=>BH q.c w1 hp.1);have T2:=I (fun w1=>BH q.s w1 hp.2.1);have T3:=I (fun w1=>Ca q.t w1);have T4:=I (fun w1=>Ca q.no w1);have HL:=I (show [prE q.c,prE q.s,encI q.t,encI q.no].flatten.length≤65535 by rw[Tu];simp only[List.length_append];omega);have HE:=I (show asE q=elem 106 [prE q.c,prE q.s,encI q.t,encI q.no].flatten from rfl);obtain⟨l1,el1⟩:∃l,l=prE q.c:=⟨_,rfl⟩;obtain⟨l2,el2⟩:∃l,l=prE q.s:=⟨_,rfl⟩;obtain⟨l3,el3⟩:∃l,l=encI q.t:=⟨_,rfl⟩;obtain⟨l4,el4⟩:∃l,l=encI q.no:=⟨_,rfl⟩;rw[←el1] at T1 HL HE;rw[←el2] at T2 HL HE;rw[←el3] at T3 HL HE;rw[←el4] at T4 HL HE;rw[HE.o,Tu];clear HE el1 el2 el3 el4 hp b1 b2 b3 b4 ha;go_enter Tryz.func196,Tryz.ntmps196
 go_wp2
 obtain⟨W,eW⟩:∃W,W=w.alloc (.cells #[.string ⟨q.c.1.toArray⟩,.string ⟨q.c.2.toArray⟩,.string ⟨q.s.1.toArray⟩,.string ⟨q.s.2.toArray⟩,.int .i64 q.t,.int .i64 q.no] 29):=⟨_,rfl⟩;rw[←eW] at HB HK⊢;clear eW;replace HK:=I (show Blk W.drew _ _ _ from HK.o.drewN 1);replace HB:=I (show Below _ _ W.drew from below_drewN HB.o 1)
 go_region_held3 (fun w'=>w'.cell? ⟨w.heap.size,0,none⟩=some (.string ⟨q.c.1.toArray⟩)∧w'.cell? ⟨w.heap.size,1,none⟩=some (.string ⟨q.c.2.toArray⟩)∧w'.cell? ⟨w.heap.size,2,none⟩=some (.string ⟨q.s.1.toArray⟩)∧w'.cell? ⟨w.heap.size,3,none⟩=some (.string ⟨q.s.2.toArray⟩)∧w'.cell? ⟨w.heap.size,4,none⟩=some (.int .i64 q.t)∧w'.cell? ⟨w.heap.size,5,none⟩=some (.int .i64 q.no)) (first | exact⟨HK.o.cell 0,HK.o.cell 1,HK.o.cell 2,HK.o.cell 3,HK.o.cell 4,HK.o.cell 5⟩ | exact⟨(HK.o.alloc _).cell 0,(HK.o.alloc _).cell 1,(HK.o.alloc _).cell 2,(HK.o.alloc _).cell 3,(HK.o.alloc _).cell 4,(HK.o.alloc _).cell 5⟩) ((first
  |(go_at_call 218;(with_reducible refine Calls.mono (T1.o _) ?_);rintro e w1 ⟨⟨g1,c1,rfl,hg1,hc1,hr1⟩,hb⟩;clear T1;have HR1:=I hr1;replace HK:=I (HK.o.below hb);replace HB:=HB.t hb;clear hb hr1 hg1 hc1)
  |(go_at_call 218;(with_reducible refine Calls.mono (T2.o _) ?_);rintro e w2 ⟨⟨g2,c2,rfl,hg2,hc2,hr2⟩,hb⟩;clear T2;replace HR1:=I (AN HR1.o hb);have HR2:=I hr2;replace HK:=I (HK.o.below hb);replace HB:=HB.t hb;clear hb hr2 hg2 hc2)
  |(go_at_call 221;(with_reducible refine Calls.mono (T3.o _) ?_);rintro e w3 ⟨⟨g3,c3,rfl,hg3,hc3,hr3⟩,hb⟩;clear T3;replace HR1:=I (AN HR1.o hb);replace HR2:=I (AN HR2.o hb);have HR3:=I hr3;replace HK:=I (HK.o.below hb);replace HB:=HB.t hb;clear hb hr3 hg3 hc3)
  |(go_at_call 221;(with_reducible refine Calls.mono (T4.o _) ?_);rintro e w4 ⟨⟨g4,c4,rfl,hg4,hc4,hr4⟩,hb⟩;clear T4;replace HR1:=I (AN HR1.o hb);replace HR2:=I (AN HR2.o hb);replace HR3:=I (AN HR3.o hb);have HR4:=I hr4;replace HK:=I (HK.o.below hb);replace HB:=HB.t hb;clear hb hr4 hg4 hc4)
  |(go_at_call 217;refine Calls.mono (Ck 106 [l1,l2,l3,l4] _ 4 4 (w4.heap.size+1) _ (TQ HR1.o HR2.o HR3.o HR4.o) rfl (by simp) HL.o (by simp)) ?_;rintro e wz ⟨⟨gz,cz,rfl,hgz,hcz,hrz⟩,hb⟩;have hal:=(Below.refl w4.heap.size w4).alloc (Nat.le_refl _) (.cells #[.slice (some ⟨g1,0,none⟩) l1.length c1,.slice (some ⟨g2,0,none⟩) l2.length c2,.slice (some ⟨g3,0,none⟩) l3.length c3,.slice (some ⟨g4,0,none⟩) l4.length c4] 30);have HG:=I (Bc (l:=elem 106 [l1,l2,l3,l4].flatten) ⟨⟨gz,cz,rfl,hgz,hcz,hrz⟩,hb⟩ (HB.o.trans (hal.mono HB.o.size)));rw[Tu] at HG;replace HK:=I ((HK.o.alloc (.cells #[.slice (some ⟨g1,0,none⟩) l1.length c1,.slice (some ⟨g2,0,none⟩) l2.length c2,.slice (some ⟨g3,0,none⟩) l3.length c3,.slice (some ⟨g4,0,none⟩) l4.length c4] 30)).below hb);clear hal hgz hcz hrz hb)))
 go_wp2
 go_ret;exact HG.o
theorem RU (q:Tg) (A1 A2:Option Addr) (c1 c2:Nat) (w:World) (ha:tgB q=true) (hr1:Rd w w.heap.size A1 (bvs q.t.b)) (hr2:Rd w w.heap.size A2 (bvs q.a)):Calls Tryz.prog 197 #[.agg #[.string ⟨q.t.s.1.toArray⟩,.string ⟨q.t.s.2.toArray⟩,.int .i64 q.t.k,.slice A1 q.t.b.length c1,.slice A2 q.a.length c2,.string ⟨q.s.1.toArray⟩,.string ⟨q.s.2.toArray⟩,.int .i64 q.u,.int .i64 q.no]] w (BE w (tgE q)):=by
 have HB:=I ((Below.refl w.heap.size w).alloc (Nat.le_refl _) (.cells #[.string ⟨q.t.s.1.toArray⟩,.string ⟨q.t.s.2.toArray⟩,.int .i64 q.t.k,.slice A1 q.t.b.length c1,.slice A2 q.a.length c2,.string ⟨q.s.1.toArray⟩,.string ⟨q.s.2.toArray⟩,.int .i64 q.u,.int .i64 q.no] 34));have HK:=I (Blk.new w 34 #[.string ⟨q.t.s.1.toArray⟩,.string ⟨q.t.s.2.toArray⟩,.int .i64 q.t.k,.slice A1 q.t.b.length c1,.slice A2 q.a.length c2,.string ⟨q.s.1.toArray⟩,.string ⟨q.s.2.toArray⟩,.int .i64 q.u,.int .i64 q.no]);have hp:tkB q.t=true∧DB q.a=true∧prB q.s=true∧tmB q.u=true∧tmB q.no=true:=by simpa [tgB] using ha
 have b1:=(GJ hp.1).1;have b2:=Av 4 q.a;have b3:=(Bn hp.2.2.1).1;have b4:=AG q.u;have b5:=AG q.no;have b6:=CQ hp.2.1;have T1:=I (fun w1 (h:Below w.heap.size w w1)=>Eb q.t A1 c1 w1 hp.1 ((hr1.below h).more h.size));have T2:=I (fun w1 (h:Below w.heap.size w w1)=>Cp q.a A2 q.a.length c2 w1.heap.size w1 ((hr2.below h).more h.size) rfl (Nat.le_refl _) (by omega));have T3:=I (fun w1=>BH q.s w1 hp.2.2.1);have T4:=I (fun w1=>Ca q.u w1);have T5:=I (fun w1=>Ca q.no w1);have HL:=I (show [tkE q.t,elem 4 q.a,prE q.s,encI q.u,encI q.no].flatten.length≤65535 by rw[DC];simp only[List.length_append];omega);have HE:=I (show tgE q=elem 108 [tkE q.t,elem 4 q.a,prE q.s,encI q.u,encI q.no].flatten from rfl);obtain⟨l1,el1⟩:∃l,l=tkE q.t:=⟨_,rfl⟩;obtain⟨l2,el2⟩:∃l,l=elem 4 q.a:=⟨_,rfl⟩;obtain⟨l3,el3⟩:∃l,l=prE q.s:=⟨_,rfl⟩;obtain⟨l4,el4⟩:∃l,l=encI q.u:=⟨_,rfl⟩;obtain⟨l5,el5⟩:∃l,l=encI q.no:=⟨_,rfl⟩;rw[←el1] at T1 HL HE;rw[←el2] at T2 HL HE;rw[←el3] at T3 HL HE;rw[←el4] at T4 HL HE;rw[←el5] at T5 HL HE;rw[HE.o,DC];clear HE el1 el2 el3 el4 el5 hp b1 b2 b3 b4 b5 b6 ha hr1 hr2;go_enter Tryz.func197,Tryz.ntmps197
 go_wp2
 obtain⟨W,eW⟩:∃W,W=w.alloc (.cells #[.string ⟨q.t.s.1.toArray⟩,.string ⟨q.t.s.2.toArray⟩,.int .i64 q.t.k,.slice A1 q.t.b.length c1,.slice A2 q.a.length c2,.string ⟨q.s.1.toArray⟩,.string ⟨q.s.2.toArray⟩,.int .i64 q.u,.int .i64 q.no] 34):=⟨_,rfl⟩;rw[←eW] at HB HK⊢;clear eW;replace HK:=I (show Blk W.drew _ _ _ from HK.o.drewN 1);replace HB:=I (show Below _ _ W.drew from below_drewN HB.o 1)
 go_region_held3 (fun w'=>w'.cell? ⟨w.heap.size,0,none⟩=some (.string ⟨q.t.s.1.toArray⟩)∧w'.cell? ⟨w.heap.size,1,none⟩=some (.string ⟨q.t.s.2.toArray⟩)∧w'.cell? ⟨w.heap.size,2,none⟩=some (.int .i64 q.t.k)∧w'.cell? ⟨w.heap.size,3,none⟩=some (.slice A1 q.t.b.length c1)∧w'.cell? ⟨w.heap.size,4,none⟩=some (.slice A2 q.a.length c2)∧w'.cell? ⟨w.heap.size,5,none⟩=some (.string ⟨q.s.1.toArray⟩)∧w'.cell? ⟨w.heap.size,6,none⟩=some (.string ⟨q.s.2.toArray⟩)∧w'.cell? ⟨w.heap.size,7,none⟩=some (.int .i64 q.u)∧w'.cell? ⟨w.heap.size,8,none⟩=some (.int .i64 q.no)) (first | exact⟨HK.o.cell 0,HK.o.cell 1,HK.o.cell 2,HK.o.cell 3,HK.o.cell 4,HK.o.cell 5,HK.o.cell 6,HK.o.cell 7,HK.o.cell 8⟩ | exact⟨(HK.o.alloc _).cell 0,(HK.o.alloc _).cell 1,(HK.o.alloc _).cell 2,(HK.o.alloc _).cell 3,(HK.o.alloc _).cell 4,(HK.o.alloc _).cell 5,(HK.o.alloc _).cell 6,(HK.o.alloc _).cell 7,(HK.o.alloc _).cell 8⟩) ((first
  |(go_at_call 253;(with_reducible refine Calls.mono (T1.o _ HB.o) ?_);rintro e w1 ⟨⟨g1,c1,rfl,hg1,hc1,hr1⟩,hb⟩;clear T1;have HR1:=I hr1;replace HK:=I (HK.o.below hb);replace HB:=HB.t hb;clear hb hr1 hg1 hc1)
  |(go_at_call 219;(with_reducible refine Calls.mono (T2.o _ HB.o) ?_);rintro e w2 ⟨⟨g2,c2,rfl,hg2,hc2,hr2⟩,hb⟩;clear T2;replace HR1:=I (AN HR1.o hb);have HR2:=I hr2;replace HK:=I (HK.o.below hb);replace HB:=HB.t hb;clear hb hr2 hg2 hc2)
  |(go_at_call 218;(with_reducible refine Calls.mono (T3.o _) ?_);rintro e w3 ⟨⟨g3,c3,rfl,hg3,hc3,hr3⟩,hb⟩;clear T3;replace HR1:=I (AN HR1.o hb);replace HR2:=I (AN HR2.o hb);have HR3:=I hr3;replace HK:=I (HK.o.below hb);replace HB:=HB.t hb;clear hb hr3 hg3 hc3)
  |(go_at_call 221;(with_reducible refine Calls.mono (T4.o _) ?_);rintro e w4 ⟨⟨g4,c4,rfl,hg4,hc4,hr4⟩,hb⟩;clear T4;replace HR1:=I (AN HR1.o hb);replace HR2:=I (AN HR2.o hb);replace HR3:=I (AN HR3.o hb);have HR4:=I hr4;replace HK:=I (HK.o.below hb);replace HB:=HB.t hb;clear hb hr4 hg4 hc4)
  |(go_at_call 221;(with_reducible refine Calls.mono (T5.o _) ?_);rintro e w5 ⟨⟨g5,c5,rfl,hg5,hc5,hr5⟩,hb⟩;clear T5;replace HR1:=I (AN HR1.o hb);replace HR2:=I (AN HR2.o hb);replace HR3:=I (AN HR3.o hb);replace HR4:=I (AN HR4.o hb);have HR5:=I hr5;replace HK:=I (HK.o.below hb);replace HB:=HB.t hb;clear hb hr5 hg5 hc5)
  |(go_at_call 217;refine Calls.mono (Ck 108 [l1,l2,l3,l4,l5] _ 5 5 (w5.heap.size+1) _ (Gn HR1.o HR2.o HR3.o HR4.o HR5.o) rfl (by simp) HL.o (by simp)) ?_;rintro e wz ⟨⟨gz,cz,rfl,hgz,hcz,hrz⟩,hb⟩;have hal:=(Below.refl w5.heap.size w5).alloc (Nat.le_refl _) (.cells #[.slice (some ⟨g1,0,none⟩) l1.length c1,.slice (some ⟨g2,0,none⟩) l2.length c2,.slice (some ⟨g3,0,none⟩) l3.length c3,.slice (some ⟨g4,0,none⟩) l4.length c4,.slice (some ⟨g5,0,none⟩) l5.length c5] 30);have HG:=I (Bc (l:=elem 108 [l1,l2,l3,l4,l5].flatten) ⟨⟨gz,cz,rfl,hgz,hcz,hrz⟩,hb⟩ (HB.o.trans (hal.mono HB.o.size)));rw[DC] at HG;replace HK:=I ((HK.o.alloc (.cells #[.slice (some ⟨g1,0,none⟩) l1.length c1,.slice (some ⟨g2,0,none⟩) l2.length c2,.slice (some ⟨g3,0,none⟩) l3.length c3,.slice (some ⟨g4,0,none⟩) l4.length c4,.slice (some ⟨g5,0,none⟩) l5.length c5] 30)).below hb);clear hal hgz hcz hrz hb)))
 go_wp2
 go_ret;exact HG.o
theorem RV (q:Re) (A1 A2:Option Addr) (c1 c2:Nat) (w:World) (ha:reB q=true) (hr1:Rd w w.heap.size A1 (bvs q.t.b)) (hr2:Rd w w.heap.size A2 (bvs q.b)):Calls Tryz.prog 198 #[.agg #[.string ⟨q.c.1.toArray⟩,.string ⟨q.c.2.toArray⟩,.string ⟨q.t.s.1.toArray⟩,.string ⟨q.t.s.2.toArray⟩,.int .i64 q.t.k,.slice A1 q.t.b.length c1,.slice A2 q.b.length c2]] w (BE w (reE q)):=by
 have HB:=I ((Below.refl w.heap.size w).alloc (Nat.le_refl _) (.cells #[.string ⟨q.c.1.toArray⟩,.string ⟨q.c.2.toArray⟩,.string ⟨q.t.s.1.toArray⟩,.string ⟨q.t.s.2.toArray⟩,.int .i64 q.t.k,.slice A1 q.t.b.length c1,.slice A2 q.b.length c2] 38));have HK:=I (Blk.new w 38 #[.string ⟨q.c.1.toArray⟩,.string ⟨q.c.2.toArray⟩,.string ⟨q.t.s.1.toArray⟩,.string ⟨q.t.s.2.toArray⟩,.int .i64 q.t.k,.slice A1 q.t.b.length c1,.slice A2 q.b.length c2]);have hp:prB q.c=true∧tkB q.t=true∧DB q.b=true:=by simpa [reB] using ha
 have b1:=(Bn hp.1).1;have b2:=(GJ hp.2.1).1;have b3:=Av 4 q.b;have b6:=CQ hp.2.2;have T1:=I (fun w1=>BH q.c w1 hp.1);have T2:=I (fun w1 (h:Below w.heap.size w w1)=>Eb q.t A1 c1 w1 hp.2.1 ((hr1.below h).more h.size));have T3:=I (fun w1 (h:Below w.heap.size w w1)=>Cp q.b A2 q.b.length c2 w1.heap.size w1 ((hr2.below h).more h.size) rfl (Nat.le_refl _) (by omega));have HL:=I (show [prE q.c,tkE q.t,elem 4 q.b].flatten.length≤65535 by rw[LX];simp only[List.length_append];omega);have HE:=I (show reE q=elem 107 [prE q.c,tkE q.t,elem 4 q.b].flatten from rfl);obtain⟨l1,el1⟩:∃l,l=prE q.c:=⟨_,rfl⟩;obtain⟨l2,el2⟩:∃l,l=tkE q.t:=⟨_,rfl⟩;obtain⟨l3,el3⟩:∃l,l=elem 4 q.b:=⟨_,rfl⟩;rw[←el1] at T1 HL HE;rw[←el2] at T2 HL HE;rw[←el3] at T3 HL HE;rw[HE.o,LX];clear HE el1 el2 el3 hp b1 b2 b3 b6 ha hr1 hr2;go_enter Tryz.func198,Tryz.ntmps198
 go_wp2
 obtain⟨W,eW⟩:∃W,W=w.alloc (.cells #[.string ⟨q.c.1.toArray⟩,.string ⟨q.c.2.toArray⟩,.string ⟨q.t.s.1.toArray⟩,.string ⟨q.t.s.2.toArray⟩,.int .i64 q.t.k,.slice A1 q.t.b.length c1,.slice A2 q.b.length c2] 38):=⟨_,rfl⟩;rw[←eW] at HB HK⊢;clear eW;replace HK:=I (show Blk W.drew _ _ _ from HK.o.drewN 1);replace HB:=I (show Below _ _ W.drew from below_drewN HB.o 1)
 go_region_held3 (fun w'=>w'.cell? ⟨w.heap.size,0,none⟩=some (.string ⟨q.c.1.toArray⟩)∧w'.cell? ⟨w.heap.size,1,none⟩=some (.string ⟨q.c.2.toArray⟩)∧w'.cell? ⟨w.heap.size,2,none⟩=some (.string ⟨q.t.s.1.toArray⟩)∧w'.cell? ⟨w.heap.size,3,none⟩=some (.string ⟨q.t.s.2.toArray⟩)∧w'.cell? ⟨w.heap.size,4,none⟩=some (.int .i64 q.t.k)∧w'.cell? ⟨w.heap.size,5,none⟩=some (.slice A1 q.t.b.length c1)∧w'.cell? ⟨w.heap.size,6,none⟩=some (.slice A2 q.b.length c2)) (first | exact⟨HK.o.cell 0,HK.o.cell 1,HK.o.cell 2,HK.o.cell 3,HK.o.cell 4,HK.o.cell 5,HK.o.cell 6⟩ | exact⟨(HK.o.alloc _).cell 0,(HK.o.alloc _).cell 1,(HK.o.alloc _).cell 2,(HK.o.alloc _).cell 3,(HK.o.alloc _).cell 4,(HK.o.alloc _).cell 5,(HK.o.alloc _).cell 6⟩) ((first
  |(go_at_call 218;(with_reducible refine Calls.mono (T1.o _) ?_);rintro e w1 ⟨⟨g1,c1,rfl,hg1,hc1,hr1⟩,hb⟩;clear T1;have HR1:=I hr1;replace HK:=I (HK.o.below hb);replace HB:=HB.t hb;clear hb hr1 hg1 hc1)
  |(go_at_call 253;(with_reducible refine Calls.mono (T2.o _ HB.o) ?_);rintro e w2 ⟨⟨g2,c2,rfl,hg2,hc2,hr2⟩,hb⟩;clear T2;replace HR1:=I (AN HR1.o hb);have HR2:=I hr2;replace HK:=I (HK.o.below hb);replace HB:=HB.t hb;clear hb hr2 hg2 hc2)
  |(go_at_call 219;(with_reducible refine Calls.mono (T3.o _ HB.o) ?_);rintro e w3 ⟨⟨g3,c3,rfl,hg3,hc3,hr3⟩,hb⟩;clear T3;replace HR1:=I (AN HR1.o hb);replace HR2:=I (AN HR2.o hb);have HR3:=I hr3;replace HK:=I (HK.o.below hb);replace HB:=HB.t hb;clear hb hr3 hg3 hc3)
  |(go_at_call 217;refine Calls.mono (Ck 107 [l1,l2,l3] _ 3 3 (w3.heap.size+1) _ (Li HR1.o HR2.o HR3.o) rfl (by simp) HL.o (by simp)) ?_;rintro e wz ⟨⟨gz,cz,rfl,hgz,hcz,hrz⟩,hb⟩;have hal:=(Below.refl w3.heap.size w3).alloc (Nat.le_refl _) (.cells #[.slice (some ⟨g1,0,none⟩) l1.length c1,.slice (some ⟨g2,0,none⟩) l2.length c2,.slice (some ⟨g3,0,none⟩) l3.length c3] 30);have HG:=I (Bc (l:=elem 107 [l1,l2,l3].flatten) ⟨⟨gz,cz,rfl,hgz,hcz,hrz⟩,hb⟩ (HB.o.trans (hal.mono HB.o.size)));rw[LX] at HG;replace HK:=I ((HK.o.alloc (.cells #[.slice (some ⟨g1,0,none⟩) l1.length c1,.slice (some ⟨g2,0,none⟩) l2.length c2,.slice (some ⟨g3,0,none⟩) l3.length c3] 30)).below hb);clear hal hgz hcz hrz hb)))
 go_wp2
 go_ret;exact HG.o
theorem RW (q:Ap) (A1 A2:Option Addr) (c1 c2:Nat) (w:World) (ha:apB q=true) (hr1:Rd w w.heap.size A1 (bvs q.t.b)) (hr2:Rd w w.heap.size A2 (bvs q.a)):Calls Tryz.prog 199 #[.agg #[.string ⟨q.t.s.1.toArray⟩,.string ⟨q.t.s.2.toArray⟩,.int .i64 q.t.k,.slice A1 q.t.b.length c1,.slice A2 q.a.length c2]] w (BE w (apE q)):=by
 have HB:=I ((Below.refl w.heap.size w).alloc (Nat.le_refl _) (.cells #[.string ⟨q.t.s.1.toArray⟩,.string ⟨q.t.s.2.toArray⟩,.int .i64 q.t.k,.slice A1 q.t.b.length c1,.slice A2 q.a.length c2] 89));have HK:=I (Blk.new w 89 #[.string ⟨q.t.s.1.toArray⟩,.string ⟨q.t.s.2.toArray⟩,.int .i64 q.t.k,.slice A1 q.t.b.length c1,.slice A2 q.a.length c2]);have hp:tkB q.t=true∧DB q.a=true:=by simpa [apB] using ha
 have b2:=(GJ hp.1).1;have b3:=Av 4 q.a;have b6:=CQ hp.2;have T1:=I (fun w1 (h:Below w.heap.size w w1)=>Eb q.t A1 c1 w1 hp.1 ((hr1.below h).more h.size));have T2:=I (fun w1 (h:Below w.heap.size w w1)=>Cp q.a A2 q.a.length c2 w1.heap.size w1 ((hr2.below h).more h.size) rfl (Nat.le_refl _) (by omega));have HL:=I (show [tkE q.t,elem 4 q.a].flatten.length≤65535 by rw[FK];simp only[List.length_append];omega);have HE:=I (show apE q=elem 110 [tkE q.t,elem 4 q.a].flatten from rfl);obtain⟨l1,el1⟩:∃l,l=tkE q.t:=⟨_,rfl⟩;obtain⟨l2,el2⟩:∃l,l=elem 4 q.a:=⟨_,rfl⟩;rw[←el1] at T1 HL HE;rw[←el2] at T2 HL HE;rw[HE.o,FK];clear HE el1 el2 hp b2 b3 b6 ha hr1 hr2;go_enter Tryz.func199,Tryz.ntmps199
 go_wp2
 obtain⟨W,eW⟩:∃W,W=w.alloc (.cells #[.string ⟨q.t.s.1.toArray⟩,.string ⟨q.t.s.2.toArray⟩,.int .i64 q.t.k,.slice A1 q.t.b.length c1,.slice A2 q.a.length c2] 89):=⟨_,rfl⟩;rw[←eW] at HB HK⊢;clear eW;replace HK:=I (show Blk W.drew _ _ _ from HK.o.drewN 1);replace HB:=I (show Below _ _ W.drew from below_drewN HB.o 1)
 go_region_held3 (fun w'=>w'.cell? ⟨w.heap.size,0,none⟩=some (.string ⟨q.t.s.1.toArray⟩)∧w'.cell? ⟨w.heap.size,1,none⟩=some (.string ⟨q.t.s.2.toArray⟩)∧w'.cell? ⟨w.heap.size,2,none⟩=some (.int .i64 q.t.k)∧w'.cell? ⟨w.heap.size,3,none⟩=some (.slice A1 q.t.b.length c1)∧w'.cell? ⟨w.heap.size,4,none⟩=some (.slice A2 q.a.length c2)) (first | exact⟨HK.o.cell 0,HK.o.cell 1,HK.o.cell 2,HK.o.cell 3,HK.o.cell 4⟩ | exact⟨(HK.o.alloc _).cell 0,(HK.o.alloc _).cell 1,(HK.o.alloc _).cell 2,(HK.o.alloc _).cell 3,(HK.o.alloc _).cell 4⟩) ((first
  |(go_at_call 253;(with_reducible refine Calls.mono (T1.o _ HB.o) ?_);rintro e w1 ⟨⟨g1,c1,rfl,hg1,hc1,hr1⟩,hb⟩;clear T1;have HR1:=I hr1;replace HK:=I (HK.o.below hb);replace HB:=HB.t hb;clear hb hr1 hg1 hc1)
  |(go_at_call 219;(with_reducible refine Calls.mono (T2.o _ HB.o) ?_);rintro e w2 ⟨⟨g2,c2,rfl,hg2,hc2,hr2⟩,hb⟩;clear T2;replace HR1:=I (AN HR1.o hb);have HR2:=I hr2;replace HK:=I (HK.o.below hb);replace HB:=HB.t hb;clear hb hr2 hg2 hc2)
  |(go_at_call 217;refine Calls.mono (Ck 110 [l1,l2] _ 2 2 (w2.heap.size+1) _ (Ki HR1.o HR2.o) rfl (by simp) HL.o (by simp)) ?_;rintro e wz ⟨⟨gz,cz,rfl,hgz,hcz,hrz⟩,hb⟩;have hal:=(Below.refl w2.heap.size w2).alloc (Nat.le_refl _) (.cells #[.slice (some ⟨g1,0,none⟩) l1.length c1,.slice (some ⟨g2,0,none⟩) l2.length c2] 30);have HG:=I (Bc (l:=elem 110 [l1,l2].flatten) ⟨⟨gz,cz,rfl,hgz,hcz,hrz⟩,hb⟩ (HB.o.trans (hal.mono HB.o.size)));rw[FK] at HG;replace HK:=I ((HK.o.alloc (.cells #[.slice (some ⟨g1,0,none⟩) l1.length c1,.slice (some ⟨g2,0,none⟩) l2.length c2] 30)).below hb);clear hal hgz hcz hrz hb)))
 go_wp2
 go_ret;exact HG.o
theorem RX (q:Fa) (w:World):Calls Tryz.prog 200 #[.agg #[.int .i64 q.e,.int .i64 q.no]] w (BE w (faE q)):=by
 have HB:=I ((Below.refl w.heap.size w).alloc (Nat.le_refl _) (.cells #[.int .i64 q.e,.int .i64 q.no] 91));have HK:=I (Blk.new w 91 #[.int .i64 q.e,.int .i64 q.no]);have b1:=AG q.e;have b2:=AG q.no;have T1:=I (fun w1=>Ca q.e w1);have T2:=I (fun w1=>Ca q.no w1);have HL:=I (show [encI q.e,encI q.no].flatten.length≤65535 by rw[FK];simp only[List.length_append];omega);have HE:=I (show faE q=elem 126 [encI q.e,encI q.no].flatten from rfl);obtain⟨l1,el1⟩:∃l,l=encI q.e:=⟨_,rfl⟩;obtain⟨l2,el2⟩:∃l,l=encI q.no:=⟨_,rfl⟩;rw[←el1] at T1 HL HE;rw[←el2] at T2 HL HE;rw[HE.o,FK];clear HE el1 el2 b1 b2;go_enter Tryz.func200,Tryz.ntmps200
 go_wp2
 obtain⟨W,eW⟩:∃W,W=w.alloc (.cells #[.int .i64 q.e,.int .i64 q.no] 91):=⟨_,rfl⟩;rw[←eW] at HB HK⊢;clear eW;replace HK:=I (show Blk W.drew _ _ _ from HK.o.drewN 1);replace HB:=I (show Below _ _ W.drew from below_drewN HB.o 1)
 go_region_held3 (fun w'=>w'.cell? ⟨w.heap.size,0,none⟩=some (.int .i64 q.e)∧w'.cell? ⟨w.heap.size,1,none⟩=some (.int .i64 q.no)) (first | exact⟨HK.o.cell 0,HK.o.cell 1⟩ | exact⟨(HK.o.alloc _).cell 0,(HK.o.alloc _).cell 1⟩) ((first
  |(go_at_call 221;(with_reducible refine Calls.mono (T1.o _) ?_);rintro e w1 ⟨⟨g1,c1,rfl,hg1,hc1,hr1⟩,hb⟩;clear T1;have HR1:=I hr1;replace HK:=I (HK.o.below hb);replace HB:=HB.t hb;clear hb hr1 hg1 hc1)
  |(go_at_call 221;(with_reducible refine Calls.mono (T2.o _) ?_);rintro e w2 ⟨⟨g2,c2,rfl,hg2,hc2,hr2⟩,hb⟩;clear T2;replace HR1:=I (AN HR1.o hb);have HR2:=I hr2;replace HK:=I (HK.o.below hb);replace HB:=HB.t hb;clear hb hr2 hg2 hc2)
  |(go_at_call 217;refine Calls.mono (Ck 126 [l1,l2] _ 2 2 (w2.heap.size+1) _ (Ki HR1.o HR2.o) rfl (by simp) HL.o (by simp)) ?_;rintro e wz ⟨⟨gz,cz,rfl,hgz,hcz,hrz⟩,hb⟩;have hal:=(Below.refl w2.heap.size w2).alloc (Nat.le_refl _) (.cells #[.slice (some ⟨g1,0,none⟩) l1.length c1,.slice (some ⟨g2,0,none⟩) l2.length c2] 30);have HG:=I (Bc (l:=elem 126 [l1,l2].flatten) ⟨⟨gz,cz,rfl,hgz,hcz,hrz⟩,hb⟩ (HB.o.trans (hal.mono HB.o.size)));rw[FK] at HG;replace HK:=I ((HK.o.alloc (.cells #[.slice (some ⟨g1,0,none⟩) l1.length c1,.slice (some ⟨g2,0,none⟩) l2.length c2] 30)).below hb);clear hal hgz hcz hrz hb)))
 go_wp2
 go_ret;exact HG.o
theorem Pq (p:Rp) (w:World) (hk:p.ss.length=32) (hx:rpB p=true):Calls Tryz.prog 158 #[.agg (rpC p).toArray] w (BE w (rpE p)):=by
 have HI:=I (show(Tryz.prog.info? 75).map (·.size)=some (rpC p).toArray.size by rw[FO hk];kernel_rfl);have CF:=I (show ∀w':World,Blk w' w.heap.size 75 (rpC p).toArray→w'.cell? ⟨w.heap.size,32,none⟩=some (.string ⟨p.s.1.toArray⟩)∧w'.cell? ⟨w.heap.size,33,none⟩=some (.string ⟨p.s.2.toArray⟩)∧w'.cell? ⟨w.heap.size,34,none⟩=some (.int .i64 p.st)∧w'.cell? ⟨w.heap.size,35,none⟩=some (.int .i64 p.en)∧w'.cell? ⟨w.heap.size,36,none⟩=some (.int .i64 p.no) from fun w' h=>Dl hk h);have T1:=I (fun w1 (h:Blk w1 w.heap.size 75 (rpC p).toArray)=>Cp p.ss (some ⟨w.heap.size,0,none⟩) 32 32 w1.heap.size w1 (UP hk h) hk.symm (Nat.le_refl _) (by omega));obtain⟨cs,ecs⟩:∃cs,cs=(rpC p).toArray:=⟨_,rfl⟩;rw[←ecs] at HI CF T1⊢;clear ecs;have HB:=I ((Below.refl w.heap.size w).alloc (Nat.le_refl _) (.cells cs 75));have HK:=I (Blk.new w 75 cs);have hp:prB p.s=true:=(show prB p.s=true∧tmB p.st=true∧tmB p.en=true∧tmB p.no=true by simpa [rpB] using hx).1;have b1:=(Bn hp).1;have b2:=AG p.st;have b3:=AG p.en;have b4:=AG p.no;have b5:=Av 4 p.ss;have T2:=I (fun w1=>BH p.s w1 hp);have T3:=I (fun w1=>Ca p.st w1);have T4:=I (fun w1=>Ca p.en w1);have T5:=I (fun w1=>Ca p.no w1);have HL:=I (show [elem 4 p.ss,prE p.s,encI p.st,encI p.en,encI p.no].flatten.length≤65535 by rw[DC];simp only[List.length_append];omega);have HE:=I (show rpE p=elem 122 [elem 4 p.ss,prE p.s,encI p.st,encI p.en,encI p.no].flatten from rfl);obtain⟨l1,el1⟩:∃l,l=elem 4 p.ss:=⟨_,rfl⟩;obtain⟨l2,el2⟩:∃l,l=prE p.s:=⟨_,rfl⟩;obtain⟨l3,el3⟩:∃l,l=encI p.st:=⟨_,rfl⟩;obtain⟨l4,el4⟩:∃l,l=encI p.en:=⟨_,rfl⟩;obtain⟨l5,el5⟩:∃l,l=encI p.no:=⟨_,rfl⟩;rw[←el1] at T1 HL HE;rw[←el2] at T2 HL HE;rw[←el3] at T3 HL HE;rw[←el4] at T4 HL HE;rw[←el5] at T5 HL HE;rw[HE.o,DC];clear HE el1 el2 el3 el4 el5 hp b1 b2 b3 b4 b5 hk hx;go_enter Tryz.func158,Tryz.ntmps158
 go_wp2
 obtain⟨W,eW⟩:∃W,W=w.alloc (.cells cs 75):=⟨_,rfl⟩;rw[←eW] at HB HK⊢;clear eW;replace HK:=I (show Blk W.drew _ _ _ from HK.o.drewN 1);replace HB:=I (show Below _ _ W.drew from below_drewN HB.o 1)
 go_region_held3 (fun w'=>w'.cell? ⟨w.heap.size,32,none⟩=some (.string ⟨p.s.1.toArray⟩)∧w'.cell? ⟨w.heap.size,33,none⟩=some (.string ⟨p.s.2.toArray⟩)∧w'.cell? ⟨w.heap.size,34,none⟩=some (.int .i64 p.st)∧w'.cell? ⟨w.heap.size,35,none⟩=some (.int .i64 p.en)∧w'.cell? ⟨w.heap.size,36,none⟩=some (.int .i64 p.no)) (first | exact CF.o _ HK.o | exact CF.o _ (HK.o.alloc _)) ((first
  |(go_at_call 219;(with_reducible refine Calls.mono (T1.o _ HK.o) ?_);rintro e w1 ⟨⟨g1,c1,rfl,hg1,hc1,hr1⟩,hb⟩;clear T1;have HR1:=I hr1;replace HK:=I (HK.o.below hb);replace HB:=HB.t hb;clear hb hr1 hg1 hc1)
  |(go_at_call 218;(with_reducible refine Calls.mono (T2.o _) ?_);rintro e w2 ⟨⟨g2,c2,rfl,hg2,hc2,hr2⟩,hb⟩;clear T2;replace HR1:=I (AN HR1.o hb);have HR2:=I hr2;replace HK:=I (HK.o.below hb);replace HB:=HB.t hb;clear hb hr2 hg2 hc2)
  |(go_at_call 221;(with_reducible refine Calls.mono (T3.o _) ?_);rintro e w3 ⟨⟨g3,c3,rfl,hg3,hc3,hr3⟩,hb⟩;clear T3;replace HR1:=I (AN HR1.o hb);replace HR2:=I (AN HR2.o hb);have HR3:=I hr3;replace HK:=I (HK.o.below hb);replace HB:=HB.t hb;clear hb hr3 hg3 hc3)
  |(go_at_call 221;(with_reducible refine Calls.mono (T4.o _) ?_);rintro e w4 ⟨⟨g4,c4,rfl,hg4,hc4,hr4⟩,hb⟩;clear T4;replace HR1:=I (AN HR1.o hb);replace HR2:=I (AN HR2.o hb);replace HR3:=I (AN HR3.o hb);have HR4:=I hr4;replace HK:=I (HK.o.below hb);replace HB:=HB.t hb;clear hb hr4 hg4 hc4)
  |(go_at_call 221;(with_reducible refine Calls.mono (T5.o _) ?_);rintro e w5 ⟨⟨g5,c5,rfl,hg5,hc5,hr5⟩,hb⟩;clear T5;replace HR1:=I (AN HR1.o hb);replace HR2:=I (AN HR2.o hb);replace HR3:=I (AN HR3.o hb);replace HR4:=I (AN HR4.o hb);have HR5:=I hr5;replace HK:=I (HK.o.below hb);replace HB:=HB.t hb;clear hb hr5 hg5 hc5)
  |(go_at_call 217;refine Calls.mono (Ck 122 [l1,l2,l3,l4,l5] _ 5 5 (w5.heap.size+1) _ (Gn HR1.o HR2.o HR3.o HR4.o HR5.o) rfl (by simp) HL.o (by simp)) ?_;rintro e wz ⟨⟨gz,cz,rfl,hgz,hcz,hrz⟩,hb⟩;have hal:=(Below.refl w5.heap.size w5).alloc (Nat.le_refl _) (.cells #[.slice (some ⟨g1,0,none⟩) l1.length c1,.slice (some ⟨g2,0,none⟩) l2.length c2,.slice (some ⟨g3,0,none⟩) l3.length c3,.slice (some ⟨g4,0,none⟩) l4.length c4,.slice (some ⟨g5,0,none⟩) l5.length c5] 30);have HG:=I (Bc (l:=elem 122 [l1,l2,l3,l4,l5].flatten) ⟨⟨gz,cz,rfl,hgz,hcz,hrz⟩,hb⟩ (HB.o.trans (hal.mono HB.o.size)));rw[DC] at HG;replace HK:=I ((HK.o.alloc (.cells #[.slice (some ⟨g1,0,none⟩) l1.length c1,.slice (some ⟨g2,0,none⟩) l2.length c2,.slice (some ⟨g3,0,none⟩) l3.length c3,.slice (some ⟨g4,0,none⟩) l4.length c4,.slice (some ⟨g5,0,none⟩) l5.length c5] 30)).below hb);clear hal hgz hcz hrz hb)))
 go_wp2
 go_ret;exact HG.o
theorem MD (p:Pt) (w:World) (hk:p.ss.length=32) (hx:ptB p=true):Calls Tryz.prog 156 #[.agg (ptC p).toArray] w (BE w (ptE p)):=by
 have HI:=I (show(Tryz.prog.info? 71).map (·.size)=some (ptC p).toArray.size by rw[EJ hk];kernel_rfl);have CF:=I (show ∀w':World,Blk w' w.heap.size 71 (ptC p).toArray→w'.cell? ⟨w.heap.size,0,none⟩=some (.string ⟨p.c.1.toArray⟩)∧w'.cell? ⟨w.heap.size,1,none⟩=some (.string ⟨p.c.2.toArray⟩)∧w'.cell? ⟨w.heap.size,34,none⟩=some (.string ⟨p.tr.toArray⟩)∧w'.cell? ⟨w.heap.size,35,none⟩=some (.int .i64 p.st)∧w'.cell? ⟨w.heap.size,36,none⟩=some (.int .i64 p.en) from fun w' h=>DY hk h);have T2:=I (fun w1 (h:Blk w1 w.heap.size 71 (ptC p).toArray)=>Cp p.ss (some ⟨w.heap.size,2,none⟩) 32 32 w1.heap.size w1 (NL h) hk.symm (Nat.le_refl _) (by omega));obtain⟨cs,ecs⟩:∃cs,cs=(ptC p).toArray:=⟨_,rfl⟩;rw[←ecs] at HI CF T2⊢;clear ecs;have HB:=I ((Below.refl w.heap.size w).alloc (Nat.le_refl _) (.cells cs 71));have HK:=I (Blk.new w 71 cs);have hp:=(Dh hx).2.1;have h3:=(Dh hx).2.2.1;have b1:=(Bn hp).1;have b2:=AG p.st;have b3:=AG p.en;have b4:=Av 27 p.tr;have b5:=Av 4 p.ss;have T1:=I (fun w1=>BH p.c w1 hp);have T3:=I (fun w1=>IU p.tr w1 (by omega));have T4:=I (fun w1=>Ca p.st w1);have T5:=I (fun w1=>Ca p.en w1);have HL:=I (show [prE p.c,elem 4 p.ss,elem 27 p.tr,encI p.st,encI p.en].flatten.length≤65535 by rw[DC];simp only[List.length_append];omega);have HE:=I (show ptE p=elem 99 [prE p.c,elem 4 p.ss,elem 27 p.tr,encI p.st,encI p.en].flatten from rfl);obtain⟨l1,el1⟩:∃l,l=prE p.c:=⟨_,rfl⟩;obtain⟨l2,el2⟩:∃l,l=elem 4 p.ss:=⟨_,rfl⟩;obtain⟨l3,el3⟩:∃l,l=elem 27 p.tr:=⟨_,rfl⟩;obtain⟨l4,el4⟩:∃l,l=encI p.st:=⟨_,rfl⟩;obtain⟨l5,el5⟩:∃l,l=encI p.en:=⟨_,rfl⟩;rw[←el1] at T1 HL HE;rw[←el2] at T2 HL HE;rw[←el3] at T3 HL HE;rw[←el4] at T4 HL HE;rw[←el5] at T5 HL HE;rw[HE.o,DC];clear HE el1 el2 el3 el4 el5 hp h3 b1 b2 b3 b4 b5 hk hx;go_enter Tryz.func156,Tryz.ntmps156
 go_wp2
 obtain⟨W,eW⟩:∃W,W=w.alloc (.cells cs 71):=⟨_,rfl⟩;rw[←eW] at HB HK⊢;clear eW;replace HK:=I (show Blk W.drew _ _ _ from HK.o.drewN 1);replace HB:=I (show Below _ _ W.drew from below_drewN HB.o 1)
 go_region_held3 (fun w'=>w'.cell? ⟨w.heap.size,0,none⟩=some (.string ⟨p.c.1.toArray⟩)∧w'.cell? ⟨w.heap.size,1,none⟩=some (.string ⟨p.c.2.toArray⟩)∧w'.cell? ⟨w.heap.size,34,none⟩=some (.string ⟨p.tr.toArray⟩)∧w'.cell? ⟨w.heap.size,35,none⟩=some (.int .i64 p.st)∧w'.cell? ⟨w.heap.size,36,none⟩=some (.int .i64 p.en)) (first | exact CF.o _ HK.o | exact CF.o _ (HK.o.alloc _)) ((first
  |(go_at_call 218;(with_reducible refine Calls.mono (T1.o _) ?_);rintro e w1 ⟨⟨g1,c1,rfl,hg1,hc1,hr1⟩,hb⟩;clear T1;have HR1:=I hr1;replace HK:=I (HK.o.below hb);replace HB:=HB.t hb;clear hb hr1 hg1 hc1)
  |(go_at_call 219;(with_reducible refine Calls.mono (T2.o _ HK.o) ?_);rintro e w2 ⟨⟨g2,c2,rfl,hg2,hc2,hr2⟩,hb⟩;clear T2;replace HR1:=I (AN HR1.o hb);have HR2:=I hr2;replace HK:=I (HK.o.below hb);replace HB:=HB.t hb;clear hb hr2 hg2 hc2)
  |(go_at_call 220;(with_reducible refine Calls.mono (T3.o _) ?_);rintro e w3 ⟨⟨g3,c3,rfl,hg3,hc3,hr3⟩,hb⟩;clear T3;replace HR1:=I (AN HR1.o hb);replace HR2:=I (AN HR2.o hb);have HR3:=I hr3;replace HK:=I (HK.o.below hb);replace HB:=HB.t hb;clear hb hr3 hg3 hc3)
  |(go_at_call 221;(with_reducible refine Calls.mono (T4.o _) ?_);rintro e w4 ⟨⟨g4,c4,rfl,hg4,hc4,hr4⟩,hb⟩;clear T4;replace HR1:=I (AN HR1.o hb);replace HR2:=I (AN HR2.o hb);replace HR3:=I (AN HR3.o hb);have HR4:=I hr4;replace HK:=I (HK.o.below hb);replace HB:=HB.t hb;clear hb hr4 hg4 hc4)
  |(go_at_call 221;(with_reducible refine Calls.mono (T5.o _) ?_);rintro e w5 ⟨⟨g5,c5,rfl,hg5,hc5,hr5⟩,hb⟩;clear T5;replace HR1:=I (AN HR1.o hb);replace HR2:=I (AN HR2.o hb);replace HR3:=I (AN HR3.o hb);replace HR4:=I (AN HR4.o hb);have HR5:=I hr5;replace HK:=I (HK.o.below hb);replace HB:=HB.t hb;clear hb hr5 hg5 hc5)
  |(go_at_call 217;refine Calls.mono (Ck 99 [l1,l2,l3,l4,l5] _ 5 5 (w5.heap.size+1) _ (Gn HR1.o HR2.o HR3.o HR4.o HR5.o) rfl (by simp) HL.o (by simp)) ?_;rintro e wz ⟨⟨gz,cz,rfl,hgz,hcz,hrz⟩,hb⟩;have hal:=(Below.refl w5.heap.size w5).alloc (Nat.le_refl _) (.cells #[.slice (some ⟨g1,0,none⟩) l1.length c1,.slice (some ⟨g2,0,none⟩) l2.length c2,.slice (some ⟨g3,0,none⟩) l3.length c3,.slice (some ⟨g4,0,none⟩) l4.length c4,.slice (some ⟨g5,0,none⟩) l5.length c5] 30);have HG:=I (Bc (l:=elem 99 [l1,l2,l3,l4,l5].flatten) ⟨⟨gz,cz,rfl,hgz,hcz,hrz⟩,hb⟩ (HB.o.trans (hal.mono HB.o.size)));rw[DC] at HG;replace HK:=I ((HK.o.alloc (.cells #[.slice (some ⟨g1,0,none⟩) l1.length c1,.slice (some ⟨g2,0,none⟩) l2.length c2,.slice (some ⟨g3,0,none⟩) l3.length c3,.slice (some ⟨g4,0,none⟩) l4.length c4,.slice (some ⟨g5,0,none⟩) l5.length c5] 30)).below hb);clear hal hgz hcz hrz hb)))
 go_wp2
 go_ret;exact HG.o
end Mc
end
end Go.Proofs.YtfcjeebnkigeaaaGreat
