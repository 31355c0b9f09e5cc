import Derived.Test.YtlchkbpffaclmaaGreatZKdcTills13
set_option maxHeartbeats 25600000
set_option maxRecDepth 100000
set_option linter.unusedVariables false
set_option linter.unusedSimpArgs false
namespace Go.Proofs.YtlchkbpffaclmaaGreat
namespace OpenQ
open Go.Joins Go.ChangeShapes Go.WideShapes Go.ChangeAt Go.RowKit Go.Deep Go.Proofs.YtlchkbpffaclmaaGreat Af Rg Se
structure Ac where
 k:Int
 p:Pr
 y:Nat->UInt8
 n:Int
def aC (a:Ac):List Value:=.int .i64 a.k :: .string ⟨a.p.1.toArray⟩ :: .string ⟨a.p.2.toArray⟩ :: ((AO a.y).toList++[.int .i64 a.n])
def RdAc (w:World) (B:Nat) (A:Option Addr) (l:List Ac):Prop:=
 l = []\/∃g o,A=some ⟨g,o,none⟩/\g<B/\∀i x,l[i]? = some x->w.rangeAt g (o+i*36) (aC x)
theorem RdAc.keep {w w':World} {B:Nat} {A:Option Addr} {l:List Ac} (h:RdAc w B A l) (hb:Below B w w'):RdAc w' B A l:=by
 rcases h with h | ⟨g,o,h1,h2,h3⟩
 ·exact .inl h
 ·exact .inr ⟨g,o,h1,h2,fun i x hx j v hv=>(hb.cell (p:=⟨g,_,none⟩) h2).trans (h3 i x hx j v hv)⟩
section
variable {H:Type} {enc:TypeId×Value->H} {W:World}
end
end OpenQ
namespace Rg
open Go.RowKit Af Se OpenQ
section
variable {w:World} {g:Nat} {t:TypeId} {x:Ac}
end
section
variable {w w':World} {B r q:Nat} {v v' dv dv':Value} {es es':List Ent} {l l':List It} {g:Nat}
def Ap (r:Nat) (v:Value) (es:List Ent) (q:Nat) (dv:Value):Prop:=∀k,DO q dv k->¬RO r v es k
theorem XO (h:Ap r v es q dv) (hd:DRing w B q dv l) (hn:∀k,RO r v' es' k->RO r v es k\/w.heap.size<=k):Ap r v' es' q dv:=fun k hk x=>by
 rcases hn k x with y | y
 ·exact h k hk y
 ·have:=hd.own_lt hk;omega
theorem ZG (h:Ap r v es q dv) (hr:Ring w B r v es) (hn:∀k,DO q dv' k->DO q dv k\/w.heap.size<=k):Ap r v es q dv':=fun k hk x=>by
 rcases hn k hk with y | y
 ·exact h k y x
 ·have:=hr.own_lt x;omega
theorem XP (h:Ap r v es q dv) (hd:DRing w B q dv l) (hc:Chg (AT r v) w w'):DRing w' B q dv l:=hd.chg hc (fun k hk x=>h k hk (XD x))
theorem UY (h:Ap r v es q dv) (hr:Ring w B r v es) (hc:Chg (DO q dv) w w'):Ring w' B r v es:=hr.chg hc (fun k hk x=>h k x hk)
end
end Rg
namespace Kd
open Go.RowKit Af Se
open Rg (It Ent Ring RO DRing DO Ap its addL addE addN Num Bw prB)
structure Sc (a:Bool) (w:World) (B r:Nat) (v:Value) (es:List Ent) (q:Nat) (dv:Value) (j:Nat) (G:Nat->Prop):Prop where
 c:Ring w B r v es
 d:DRing w B q dv ((itX a).take j)
 e:its es=(itX a).take j
 z:Cz es 0
 ap:Ap r v es q dv
 g:∀k,G k->k<w.heap.size/\¬RO r v es k/\¬DO q dv k
section
variable {a:Bool} {G:Nat->Prop} {w w':World} {B r q j:Nat} {v dv:Value} {es:List Ent}
theorem Sc.below (h:Sc a w B r v es q dv j G) (hb:Below w.heap.size w w'):Sc a w' B r v es q dv j G:=⟨h.c.below hb,h.d.below hb,h.e,h.z,h.ap,fun k hk=>⟨Nat.lt_of_lt_of_le (h.g k hk).1 hb.size,(h.g k hk).2⟩⟩
theorem Sc.more {G2:Nat->Prop} (h:Sc a w B r v es q dv j G) (hg:∀k,G2 k->G k\/(k<w.heap.size/\¬RO r v es k/\¬DO q dv k)):Sc a w B r v es q dv j G2:=⟨h.c,h.d,h.e,h.z,h.ap,fun k hk=>(hg k hk).elim (h.g k) id⟩
theorem Sc.put (h:Sc a w B r v es q dv j G) {g:Nat} (hG:G g) (hg:w.grownBy w' (some g)):Sc a w' B r v es q dv j G:=by
 have hc:Chg (fun k=>k=g) w w':=⟨hg.os,hg.tape,hg.output,hg.size,fun i hi hn=>hg.block i hi (fun e=>hn (by injection e))⟩;exact⟨h.c.chg hc (fun k hk e=>(h.g g hG).2.1 (e▸hk)),h.d.chg hc (fun k hk e=>(h.g g hG).2.2 (e▸hk)),h.e,h.z,h.ap,fun k hk=>⟨Nat.lt_of_lt_of_le (h.g k hk).1 hg.size,(h.g k hk).2⟩⟩
theorem take_len (h:Sc a w B r v es q dv j G):es.length<=5/\((itX a).take j).length<=5:=by
 have h1:(itX a).length<=5:=by cases a<;>decide
 have h2:((itX a).take j).length<=5:=by rw[List.length_take];omega
 have h3:=congrArg List.length h.e;rw[Rg.CU] at h3;omega
theorem Np {l:List It} {p:Ms.Pr} (h:addE l p=0) (k:Nat->UInt8):prB p=true/\l.length<40/\addL l p k=l++[⟨p,Bw l p+1,k⟩]:=by
 unfold addE at h
 split at h
 ·rename_i h1
  split at h
  ·rename_i h2
   refine⟨h1,h2,?_⟩;rw[addL,if_pos h1,if_pos h2]
  ·cases h
 ·cases h
theorem SJ (a:Bool) {i:It} (h:(itX a)[j]? = some i):i.p.1.length<=1000/\i.p.2.length<=1000:=by
 have h1:=Np (OE a h) i.k;have:=Ms.Fp (p:=i.p) h1.1;omega
theorem SK (h:Sc a w B r v es q dv j G) (hB:B<=w.heap.size) {i:It} (hi:(itX a)[j]? = some i) {cK:Array Value} (ecK:cK=AO i.k):Calls Tryz.prog 15 #[.pointer (some ⟨r,0,none⟩),prV i.p,.agg cK] w fun e w'=>
  (∃n:Int,e=.returned (.tuple #[.int .i64 n,.int .i64 0]))/\∃v' es',Ring w' B r v' es'/\DRing w' B q dv ((itX a).take j)/\its es'=(itX a).take (j+1)/\Cz es' 0/\Ap r v' es' q dv/\(∀k,G k->k<w'.heap.size/\¬RO r v' es' k/\¬DO q dv k)/\(∀k,G k->w'.heap[k]? = w.heap[k]?)/\Below B w w':=by
 subst ecK;have hp:=SJ a hi;have hl:=take_len h;refine(Rg.XC B r v es i.p i.k w h.c hB (by omega) (by omega) (by omega) (by rw[h.e];exact UQ (numX a) j)).mono ?_;rintro e w' ⟨rfl,v',es',h1,h2,h3,h4,h5⟩;rw[h.e,OE a hi];refine⟨⟨_,rfl⟩,v',es',h1,Rg.XP h.ap h.d h4,?_,?_,Rg.XO h.ap h.d h5,fun k hk=>⟨Nat.lt_of_lt_of_le (h.g k hk).1 h4.size,fun x=>?_,(h.g k hk).2.2⟩,fun k hk=>h4.block k (h.g k hk).1 (fun x=>(h.g k hk).2.1 (Rg.XD x)),h4.below hB (fun k _ x=>h.c.own_lo (Rg.XD x))⟩
 rotate_left 2
 ·rcases h5 k x with y | y
  ·exact(h.g k hk).2.1 y
  ·have:=(h.g k hk).1;omega
 ·rw[h2,h.e,(Np (OE a hi) i.k).2.2,Wa a hi]
 ·rcases h3 with rfl | ⟨x,rfl,z1,z2,z3⟩
  ·exact h.z
  ·intro j2 e2 he
   by_cases g:j2<es.length
   ·rw[List.getElem?_append_left g] at he
    exact h.z j2 e2 he
   ·rw[List.getElem?_append_right (by omega)] at he
    have:e2=x:=by
     rcases hk:j2 - es.length with _ | k
     ·rw[hk] at he;injection he with he;exact he.symm
     ·rw[hk] at he;simp at he
    subst this;omega
theorem We {v':Value} {es':List Ent} (hc:Ring w B r v' es') (hd:DRing w B q dv ((itX a).take j)) (he:its es'=(itX a).take (j+1)) (hz:Cz es' 0) (hap:Ap r v' es' q dv) (hg:∀k,G k->k<w.heap.size/\¬RO r v' es' k/\¬DO q dv k) (hB:B<=w.heap.size) {i:It} (hi:(itX a)[j]? = some i) {cK:Array Value} (ecK:cK=AO i.k):Calls Tryz.prog 16 #[.pointer (some ⟨q,0,none⟩),prV i.p,.agg cK] w fun e w'=>
  (∃n:Int,e=.returned (.tuple #[.int .i64 n,.int .i64 0]))/\∃dv',Sc a w' B r v' es' q dv' (j+1) G/\(∀k,G k->w'.heap[k]? = w.heap[k]?)/\Below B w w':=by
 subst ecK;have hp:=SJ a hi;have hk:=Np (OE a hi) i.k;have hn:=(VZ a hi).1;refine(Rg.XF B q dv _ i.p i.k w hd hB (by omega) (by omega) hk.1 hk.2.1 (by omega)).mono ?_;rintro e w' ⟨rfl,dv',h1,h2,h3⟩;refine⟨⟨_,rfl⟩,dv',⟨Rg.UY hap hc h2,by rw[Wa a hi];exact h1,he,hz,Rg.ZG hap hc h3,fun k hk=>⟨Nat.lt_of_lt_of_le (hg k hk).1 h2.size,(hg k hk).2.1,fun x=>?_⟩⟩,fun k hk=>h2.block k (hg k hk).1 (hg k hk).2.2,h2.below hB (fun k _ x=>hd.own_lo x)⟩;rcases h3 k x with y | y
 ·exact(hg k hk).2.2 y
 ·have:=(hg k hk).1;omega
end
end Kd
namespace Mc
open Go.RowKit Af DerP Ms
theorem AX (p:Pr) (w:World) (h1:p.1.length<=1000000000) (h2:p.2.length<=1000000000):Calls Tryz.prog 42 #[prV p] w fun e w'=>e=.returned (.bool (prB p))/\Below w.heap.size w w':=Nm.AX p.1 p.2 w h1 h2
theorem Eb (n a b:Int) (w:World):Calls Tryz.prog 192 #[.int .i64 n,.int .i64 a,.int .i64 b] w fun e w'=>e=.returned (.bool (inB n a b))/\w=w':=by
 cases h1:decide (a<=n) with
 |false=>
  go_enter Tryz.func192,Tryz.ntmps192
  go_wp2
  go_ret;exact⟨by rw[inB,h1];rfl,rfl⟩
 |true=>
  go_enter Tryz.func192,Tryz.ntmps192
  go_wp2
  go_ret;exact⟨by rw[inB,h1];rfl,rfl⟩
theorem Er (n:Int) (w:World):Calls Tryz.prog 174 #[.int .i64 n] w fun e w'=>e=.returned (.bool (tmB n))/\w=w':=by
 have c1:=Eb n 0 1073741824 w;rw[show inB n 0 1073741824=tmB n from rfl] at c1;go_enter Tryz.func174,Tryz.ntmps174
 go_wp2_with (go_at_call 192;refine Aj c1 ?_;rintro w1 rfl)
 go_ret;exact⟨rfl,rfl⟩
theorem FB (n:Int) (w:World):Calls Tryz.prog 180 #[.int .i64 n] w fun e w'=>e=.returned (.bool (tmB n))/\w=w':=by
 have c1:=Eb n 0 1073741824 w;rw[show inB n 0 1073741824=tmB n from rfl] at c1;go_enter Tryz.func180,Tryz.ntmps180
 go_wp2_with (go_at_call 192;refine Aj c1 ?_;rintro w1 rfl)
 go_ret;exact⟨rfl,rfl⟩
theorem FU (b:L) (A:Option Addr) (c:Nat) (w:World):Calls Tryz.prog 191 #[.slice A b.length c] w fun e w'=>e=.returned (.bool (Da b))/\w=w':=by
 have c1:=Eb (b.length:Int) 1 800 w;rw[Xt] at c1;go_enter Tryz.func191,Tryz.ntmps191
 go_wp2_with (go_at_call 192;refine Aj c1 ?_;rintro w1 rfl)
 go_ret;exact⟨rfl,rfl⟩
theorem FC (t:Tk) (A:Option Addr) (c:Nat) (w:World) (hs:pSm t.s):Calls Tryz.prog 190 #[.agg #[.string ⟨t.s.1.toArray⟩,.string ⟨t.s.2.toArray⟩,.int .i64 t.k,.slice A t.b.length c]] w fun e w'=>e=.returned (.bool (tkB t))/\Below w.heap.size w w':=by
 have hb0:=(Below.refl w.heap.size w).alloc Ag (.cells #[.string ⟨t.s.1.toArray⟩,.string ⟨t.s.2.toArray⟩,.int .i64 t.k,.slice A t.b.length c] 28);have HB:=I hb0;have HK:=I (Blk.new w 28 #[.string ⟨t.s.1.toArray⟩,.string ⟨t.s.2.toArray⟩,.int .i64 t.k,.slice A t.b.length c]);clear hb0;have T1:=I (fun w1=>AX t.s w1 hs.1 hs.2);have T2:=I (fun w1=>Eb t.k 1 255 w1);have T3:=I (fun w1=>FU t.b A c w1);cases h1:prB t.s with
 |false=>
  rw[h1] at T1;have E:=I (show tkB t=false by rw[tkB,h1];rfl);clear h1;go_enter Tryz.func190,Tryz.ntmps190
  go_wp2_with (go_at_call 42;(with_reducible refine Calls.mono (T1.o _) ?_);rintro e w1 ⟨rfl,hb⟩;replace HK:=I (HK.o.below hb);replace HB:=HB.t hb;clear hb T1;(try clear k0 k1 k2 k3);have k0:=HK.o.cell 0;have k1:=HK.o.cell 1;have k2:=HK.o.cell 2;have k3:=HK.o.cell 3;simp only[List.getElem?_toArray,List.getElem?_cons_zero,List.getElem?_cons_succ] at k0 k1 k2 k3)
  go_ret;exact⟨by rw[E.o];rfl,HB.o⟩
 |true=>
  rw[h1] at T1;cases h2:inB t.k 1 255 with
  |false=>
   rw[h2] at T2;have E:=I (show tkB t=false by rw[tkB,h1,h2];rfl);clear h1 h2;go_enter Tryz.func190,Tryz.ntmps190
   go_wp2_with (first
    |(go_at_call 42;(with_reducible refine Calls.mono (T1.o _) ?_);rintro e w1 ⟨rfl,hb⟩;replace HK:=I (HK.o.below hb);replace HB:=HB.t hb;clear hb T1;(try clear k0 k1 k2 k3);have k0:=HK.o.cell 0;have k1:=HK.o.cell 1;have k2:=HK.o.cell 2;have k3:=HK.o.cell 3;simp only[List.getElem?_toArray,List.getElem?_cons_zero,List.getElem?_cons_succ] at k0 k1 k2 k3)
    |(go_at_call 192;(with_reducible refine Calls.mono (T2.o _) ?_);rintro e w2 ⟨rfl,hw⟩;subst hw;clear T2))
   go_ret;exact⟨by rw[E.o];rfl,HB.o⟩
  |true=>
   rw[h2] at T2;have E:=I (show tkB t=Da t.b by rw[tkB,h1,h2];rfl);clear h1 h2;go_enter Tryz.func190,Tryz.ntmps190
   go_wp2_with (first
    |(go_at_call 42;(with_reducible refine Calls.mono (T1.o _) ?_);rintro e w1 ⟨rfl,hb⟩;replace HK:=I (HK.o.below hb);replace HB:=HB.t hb;clear hb T1;(try clear k0 k1 k2 k3);have k0:=HK.o.cell 0;have k1:=HK.o.cell 1;have k2:=HK.o.cell 2;have k3:=HK.o.cell 3;simp only[List.getElem?_toArray,List.getElem?_cons_zero,List.getElem?_cons_succ] at k0 k1 k2 k3)
    |(go_at_call 192;(with_reducible refine Calls.mono (T2.o _) ?_);rintro e w2 ⟨rfl,hw⟩;subst hw;clear T2)
    |(go_at_call 191;(with_reducible refine Calls.mono (T3.o _) ?_);rintro e w3 ⟨rfl,hw⟩;subst hw;clear T3))
   go_ret;exact⟨by rw[E.o];rfl,HB.o⟩
theorem Nq (a:An) (w:World) (hs:pSm a.c):Calls Tryz.prog 162 #[.agg #[.string ⟨a.c.1.toArray⟩,.string ⟨a.c.2.toArray⟩,.int .i64 a.t,.int .i64 a.q]] w fun e w'=>e=.returned (.bool (anB a))/\Below w.heap.size w w':=by
 have hb0:=(Below.refl w.heap.size w).alloc Ag (.cells #[.string ⟨a.c.1.toArray⟩,.string ⟨a.c.2.toArray⟩,.int .i64 a.t,.int .i64 a.q] 41);have HB:=I hb0;have HK:=I (Blk.new w 41 #[.string ⟨a.c.1.toArray⟩,.string ⟨a.c.2.toArray⟩,.int .i64 a.t,.int .i64 a.q]);clear hb0;have T1:=I (fun w1=>AX a.c w1 hs.1 hs.2);have T2:=I (fun w1=>Er a.t w1);have T3:=I (fun w1=>FB a.q w1);cases h1:prB a.c with
 |false=>
  rw[h1] at T1;have E:=I (show anB a=false by rw[anB,h1];rfl);clear h1;go_enter Tryz.func162,Tryz.ntmps162
  go_wp2_with (go_at_call 42;(with_reducible refine Calls.mono (T1.o _) ?_);rintro e w1 ⟨rfl,hb⟩;replace HK:=I (HK.o.below hb);replace HB:=HB.t hb;clear hb T1;(try clear k0 k1 k2 k3);have k0:=HK.o.cell 0;have k1:=HK.o.cell 1;have k2:=HK.o.cell 2;have k3:=HK.o.cell 3;simp only[List.getElem?_toArray,List.getElem?_cons_zero,List.getElem?_cons_succ] at k0 k1 k2 k3)
  go_ret;exact⟨by rw[E.o];rfl,HB.o⟩
 |true=>
  rw[h1] at T1;cases h2:tmB a.t with
  |false=>
   rw[h2] at T2;have E:=I (show anB a=false by rw[anB,h1,h2];rfl);clear h1 h2;go_enter Tryz.func162,Tryz.ntmps162
   go_wp2_with (first
    |(go_at_call 42;(with_reducible refine Calls.mono (T1.o _) ?_);rintro e w1 ⟨rfl,hb⟩;replace HK:=I (HK.o.below hb);replace HB:=HB.t hb;clear hb T1;(try clear k0 k1 k2 k3);have k0:=HK.o.cell 0;have k1:=HK.o.cell 1;have k2:=HK.o.cell 2;have k3:=HK.o.cell 3;simp only[List.getElem?_toArray,List.getElem?_cons_zero,List.getElem?_cons_succ] at k0 k1 k2 k3)
    |(go_at_call 174;(with_reducible refine Calls.mono (T2.o _) ?_);rintro e w2 ⟨rfl,hw⟩;subst hw;clear T2))
   go_ret;exact⟨by rw[E.o];rfl,HB.o⟩
  |true=>
   rw[h2] at T2;have E:=I (show anB a=tmB a.q by rw[anB,h1,h2];rfl);clear h1 h2;go_enter Tryz.func162,Tryz.ntmps162
   go_wp2_with (first
    |(go_at_call 42;(with_reducible refine Calls.mono (T1.o _) ?_);rintro e w1 ⟨rfl,hb⟩;replace HK:=I (HK.o.below hb);replace HB:=HB.t hb;clear hb T1;(try clear k0 k1 k2 k3);have k0:=HK.o.cell 0;have k1:=HK.o.cell 1;have k2:=HK.o.cell 2;have k3:=HK.o.cell 3;simp only[List.getElem?_toArray,List.getElem?_cons_zero,List.getElem?_cons_succ] at k0 k1 k2 k3)
    |(go_at_call 174;(with_reducible refine Calls.mono (T2.o _) ?_);rintro e w2 ⟨rfl,hw⟩;subst hw;clear T2)
    |(go_at_call 180;(with_reducible refine Calls.mono (T3.o _) ?_);rintro e w3 ⟨rfl,hw⟩;subst hw;clear T3))
   go_ret;exact⟨by rw[E.o];rfl,HB.o⟩
theorem UZ (q:As) (w:World) (hs:pSm q.c) (hs2:pSm q.s):Calls Tryz.prog 141 #[.agg #[.string ⟨q.c.1.toArray⟩,.string ⟨q.c.2.toArray⟩,.string ⟨q.s.1.toArray⟩,.string ⟨q.s.2.toArray⟩,.int .i64 q.t,.int .i64 q.no]] w fun e w'=>e=.returned (.bool (asB q))/\Below w.heap.size w w':=by
 have hb0:=(Below.refl w.heap.size w).alloc Ag (.cells #[.string ⟨q.c.1.toArray⟩,.string ⟨q.c.2.toArray⟩,.string ⟨q.s.1.toArray⟩,.string ⟨q.s.2.toArray⟩,.int .i64 q.t,.int .i64 q.no] 85);have HB:=I hb0;have HK:=I (Blk.new w 85 #[.string ⟨q.c.1.toArray⟩,.string ⟨q.c.2.toArray⟩,.string ⟨q.s.1.toArray⟩,.string ⟨q.s.2.toArray⟩,.int .i64 q.t,.int .i64 q.no]);clear hb0;have T1:=I (fun w1=>AX q.c w1 hs.1 hs.2);have T2:=I (fun w1=>AX q.s w1 hs2.1 hs2.2);have T3:=I (fun w1=>Er q.t w1);have T4:=I (fun w1=>FB q.no w1);cases h1:prB q.c with
 |false=>
  rw[h1] at T1;have E:=I (show asB q=false by rw[asB,h1];rfl);clear h1;go_enter Tryz.func141,Tryz.ntmps141
  go_wp2_with (go_at_call 42;(with_reducible refine Calls.mono (T1.o _) ?_);rintro e w1 ⟨rfl,hb⟩;replace HK:=I (HK.o.below hb);replace HB:=HB.t hb;clear hb T1;(try clear k0 k1 k2 k3 k4 k5);have k0:=HK.o.cell 0;have k1:=HK.o.cell 1;have k2:=HK.o.cell 2;have k3:=HK.o.cell 3;have k4:=HK.o.cell 4;have k5:=HK.o.cell 5;simp only[List.getElem?_toArray,List.getElem?_cons_zero,List.getElem?_cons_succ] at k0 k1 k2 k3 k4 k5)
  go_ret;exact⟨by rw[E.o];rfl,HB.o⟩
 |true=>
  rw[h1] at T1;cases h2:prB q.s with
  |false=>
   rw[h2] at T2;have E:=I (show asB q=false by rw[asB,h1,h2];rfl);clear h1 h2;go_enter Tryz.func141,Tryz.ntmps141
   go_wp2_with (first
    |(go_at_call 42;(with_reducible refine Calls.mono (T1.o _) ?_);rintro e w1 ⟨rfl,hb⟩;replace HK:=I (HK.o.below hb);replace HB:=HB.t hb;clear hb T1;(try clear k0 k1 k2 k3 k4 k5);have k0:=HK.o.cell 0;have k1:=HK.o.cell 1;have k2:=HK.o.cell 2;have k3:=HK.o.cell 3;have k4:=HK.o.cell 4;have k5:=HK.o.cell 5;simp only[List.getElem?_toArray,List.getElem?_cons_zero,List.getElem?_cons_succ] at k0 k1 k2 k3 k4 k5)
    |(go_at_call 42;(with_reducible refine Calls.mono (T2.o _) ?_);rintro e w2 ⟨rfl,hb⟩;replace HK:=I (HK.o.below hb);replace HB:=HB.t hb;clear hb T2;(try clear k0 k1 k2 k3 k4 k5);have k0:=HK.o.cell 0;have k1:=HK.o.cell 1;have k2:=HK.o.cell 2;have k3:=HK.o.cell 3;have k4:=HK.o.cell 4;have k5:=HK.o.cell 5;simp only[List.getElem?_toArray,List.getElem?_cons_zero,List.getElem?_cons_succ] at k0 k1 k2 k3 k4 k5))
   go_ret;exact⟨by rw[E.o];rfl,HB.o⟩
  |true=>
   rw[h2] at T2;cases h3:tmB q.t with
   |false=>
    rw[h3] at T3;have E:=I (show asB q=false by rw[asB,h1,h2,h3];rfl);clear h1 h2 h3;go_enter Tryz.func141,Tryz.ntmps141
    go_wp2_with (first
     |(go_at_call 42;(with_reducible refine Calls.mono (T1.o _) ?_);rintro e w1 ⟨rfl,hb⟩;replace HK:=I (HK.o.below hb);replace HB:=HB.t hb;clear hb T1;(try clear k0 k1 k2 k3 k4 k5);have k0:=HK.o.cell 0;have k1:=HK.o.cell 1;have k2:=HK.o.cell 2;have k3:=HK.o.cell 3;have k4:=HK.o.cell 4;have k5:=HK.o.cell 5;simp only[List.getElem?_toArray,List.getElem?_cons_zero,List.getElem?_cons_succ] at k0 k1 k2 k3 k4 k5)
     |(go_at_call 42;(with_reducible refine Calls.mono (T2.o _) ?_);rintro e w2 ⟨rfl,hb⟩;replace HK:=I (HK.o.below hb);replace HB:=HB.t hb;clear hb T2;(try clear k0 k1 k2 k3 k4 k5);have k0:=HK.o.cell 0;have k1:=HK.o.cell 1;have k2:=HK.o.cell 2;have k3:=HK.o.cell 3;have k4:=HK.o.cell 4;have k5:=HK.o.cell 5;simp only[List.getElem?_toArray,List.getElem?_cons_zero,List.getElem?_cons_succ] at k0 k1 k2 k3 k4 k5)
     |(go_at_call 174;(with_reducible refine Calls.mono (T3.o _) ?_);rintro e w3 ⟨rfl,hw⟩;subst hw;clear T3))
    go_ret;exact⟨by rw[E.o];rfl,HB.o⟩
   |true=>
    rw[h3] at T3;have E:=I (show asB q=tmB q.no by rw[asB,h1,h2,h3];rfl);clear h1 h2 h3;go_enter Tryz.func141,Tryz.ntmps141
    go_wp2_with (first
     |(go_at_call 42;(with_reducible refine Calls.mono (T1.o _) ?_);rintro e w1 ⟨rfl,hb⟩;replace HK:=I (HK.o.below hb);replace HB:=HB.t hb;clear hb T1;(try clear k0 k1 k2 k3 k4 k5);have k0:=HK.o.cell 0;have k1:=HK.o.cell 1;have k2:=HK.o.cell 2;have k3:=HK.o.cell 3;have k4:=HK.o.cell 4;have k5:=HK.o.cell 5;simp only[List.getElem?_toArray,List.getElem?_cons_zero,List.getElem?_cons_succ] at k0 k1 k2 k3 k4 k5)
     |(go_at_call 42;(with_reducible refine Calls.mono (T2.o _) ?_);rintro e w2 ⟨rfl,hb⟩;replace HK:=I (HK.o.below hb);replace HB:=HB.t hb;clear hb T2;(try clear k0 k1 k2 k3 k4 k5);have k0:=HK.o.cell 0;have k1:=HK.o.cell 1;have k2:=HK.o.cell 2;have k3:=HK.o.cell 3;have k4:=HK.o.cell 4;have k5:=HK.o.cell 5;simp only[List.getElem?_toArray,List.getElem?_cons_zero,List.getElem?_cons_succ] at k0 k1 k2 k3 k4 k5)
     |(go_at_call 174;(with_reducible refine Calls.mono (T3.o _) ?_);rintro e w3 ⟨rfl,hw⟩;subst hw;clear T3)
     |(go_at_call 180;(with_reducible refine Calls.mono (T4.o _) ?_);rintro e w4 ⟨rfl,hw⟩;subst hw;clear T4))
    go_ret;exact⟨by rw[E.o];rfl,HB.o⟩
theorem SL (q:Tg) (A1 A2:Option Addr) (c1 c2:Nat) (w:World) (hs:pSm q.t.s) (hs2:pSm q.s):Calls Tryz.prog 142 #[.agg #[.string ⟨q.t.s.1.toArray⟩,.string ⟨q.t.s.2.toArray⟩,.int .i64 q.t.k,.slice A1 q.t.b.length c1,.slice A2 q.a.length c2,.string ⟨q.s.1.toArray⟩,.string ⟨q.s.2.toArray⟩,.int .i64 q.u,.int .i64 q.no]] w fun e w'=>e=.returned (.bool (tgB q))/\Below w.heap.size w w':=by
 have hb0:=(Below.refl w.heap.size w).alloc Ag (.cells #[.string ⟨q.t.s.1.toArray⟩,.string ⟨q.t.s.2.toArray⟩,.int .i64 q.t.k,.slice A1 q.t.b.length c1,.slice A2 q.a.length c2,.string ⟨q.s.1.toArray⟩,.string ⟨q.s.2.toArray⟩,.int .i64 q.u,.int .i64 q.no] 30);have HB:=I hb0;have HK:=I (Blk.new w 30 #[.string ⟨q.t.s.1.toArray⟩,.string ⟨q.t.s.2.toArray⟩,.int .i64 q.t.k,.slice A1 q.t.b.length c1,.slice A2 q.a.length c2,.string ⟨q.s.1.toArray⟩,.string ⟨q.s.2.toArray⟩,.int .i64 q.u,.int .i64 q.no]);clear hb0;have T1:=I (fun w1=>FC q.t A1 c1 w1 hs);have T2:=I (fun w1=>FU q.a A2 c2 w1);have T3:=I (fun w1=>AX q.s w1 hs2.1 hs2.2);have T4:=I (fun w1=>Er q.u w1);have T5:=I (fun w1=>FB q.no w1);cases h1:tkB q.t with
 |false=>
  rw[h1] at T1;have E:=I (show tgB q=false by rw[tgB,h1];rfl);clear h1;go_enter Tryz.func142,Tryz.ntmps142
  go_wp2_with (go_at_call 190;(with_reducible refine Calls.mono (T1.o _) ?_);rintro e w1 ⟨rfl,hb⟩;replace HK:=I (HK.o.below hb);replace HB:=HB.t hb;clear hb T1;(try clear k0 k1 k2 k3 k4 k5 k6 k7 k8);have k0:=HK.o.cell 0;have k1:=HK.o.cell 1;have k2:=HK.o.cell 2;have k3:=HK.o.cell 3;have k4:=HK.o.cell 4;have k5:=HK.o.cell 5;have k6:=HK.o.cell 6;have k7:=HK.o.cell 7;have k8:=HK.o.cell 8;simp only[List.getElem?_toArray,List.getElem?_cons_zero,List.getElem?_cons_succ] at k0 k1 k2 k3 k4 k5 k6 k7 k8)
  go_ret;exact⟨by rw[E.o];rfl,HB.o⟩
 |true=>
  rw[h1] at T1;cases h2:Da q.a with
  |false=>
   rw[h2] at T2;have E:=I (show tgB q=false by rw[tgB,h1,h2];rfl);clear h1 h2;go_enter Tryz.func142,Tryz.ntmps142
   go_wp2_with (first
    |(go_at_call 190;(with_reducible refine Calls.mono (T1.o _) ?_);rintro e w1 ⟨rfl,hb⟩;replace HK:=I (HK.o.below hb);replace HB:=HB.t hb;clear hb T1;(try clear k0 k1 k2 k3 k4 k5 k6 k7 k8);have k0:=HK.o.cell 0;have k1:=HK.o.cell 1;have k2:=HK.o.cell 2;have k3:=HK.o.cell 3;have k4:=HK.o.cell 4;have k5:=HK.o.cell 5;have k6:=HK.o.cell 6;have k7:=HK.o.cell 7;have k8:=HK.o.cell 8;simp only[List.getElem?_toArray,List.getElem?_cons_zero,List.getElem?_cons_succ] at k0 k1 k2 k3 k4 k5 k6 k7 k8)
    |(go_at_call 191;(with_reducible refine Calls.mono (T2.o _) ?_);rintro e w2 ⟨rfl,hw⟩;subst hw;clear T2))
   go_ret;exact⟨by rw[E.o];rfl,HB.o⟩
  |true=>
   rw[h2] at T2;cases h3:prB q.s with
   |false=>
    rw[h3] at T3;have E:=I (show tgB q=false by rw[tgB,h1,h2,h3];rfl);clear h1 h2 h3;go_enter Tryz.func142,Tryz.ntmps142
    go_wp2_with (first
     |(go_at_call 190;(with_reducible refine Calls.mono (T1.o _) ?_);rintro e w1 ⟨rfl,hb⟩;replace HK:=I (HK.o.below hb);replace HB:=HB.t hb;clear hb T1;(try clear k0 k1 k2 k3 k4 k5 k6 k7 k8);have k0:=HK.o.cell 0;have k1:=HK.o.cell 1;have k2:=HK.o.cell 2;have k3:=HK.o.cell 3;have k4:=HK.o.cell 4;have k5:=HK.o.cell 5;have k6:=HK.o.cell 6;have k7:=HK.o.cell 7;have k8:=HK.o.cell 8;simp only[List.getElem?_toArray,List.getElem?_cons_zero,List.getElem?_cons_succ] at k0 k1 k2 k3 k4 k5 k6 k7 k8)
     |(go_at_call 191;(with_reducible refine Calls.mono (T2.o _) ?_);rintro e w2 ⟨rfl,hw⟩;subst hw;clear T2)
     |(go_at_call 42;(with_reducible refine Calls.mono (T3.o _) ?_);rintro e w3 ⟨rfl,hb⟩;replace HK:=I (HK.o.below hb);replace HB:=HB.t hb;clear hb T3;(try clear k0 k1 k2 k3 k4 k5 k6 k7 k8);have k0:=HK.o.cell 0;have k1:=HK.o.cell 1;have k2:=HK.o.cell 2;have k3:=HK.o.cell 3;have k4:=HK.o.cell 4;have k5:=HK.o.cell 5;have k6:=HK.o.cell 6;have k7:=HK.o.cell 7;have k8:=HK.o.cell 8;simp only[List.getElem?_toArray,List.getElem?_cons_zero,List.getElem?_cons_succ] at k0 k1 k2 k3 k4 k5 k6 k7 k8))
    go_ret;exact⟨by rw[E.o];rfl,HB.o⟩
   |true=>
    rw[h3] at T3;cases h4:tmB q.u with
    |false=>
     rw[h4] at T4;have E:=I (show tgB q=false by rw[tgB,h1,h2,h3,h4];rfl);clear h1 h2 h3 h4;go_enter Tryz.func142,Tryz.ntmps142
     go_wp2_with (first
      |(go_at_call 190;(with_reducible refine Calls.mono (T1.o _) ?_);rintro e w1 ⟨rfl,hb⟩;replace HK:=I (HK.o.below hb);replace HB:=HB.t hb;clear hb T1;(try clear k0 k1 k2 k3 k4 k5 k6 k7 k8);have k0:=HK.o.cell 0;have k1:=HK.o.cell 1;have k2:=HK.o.cell 2;have k3:=HK.o.cell 3;have k4:=HK.o.cell 4;have k5:=HK.o.cell 5;have k6:=HK.o.cell 6;have k7:=HK.o.cell 7;have k8:=HK.o.cell 8;simp only[List.getElem?_toArray,List.getElem?_cons_zero,List.getElem?_cons_succ] at k0 k1 k2 k3 k4 k5 k6 k7 k8)
      |(go_at_call 191;(with_reducible refine Calls.mono (T2.o _) ?_);rintro e w2 ⟨rfl,hw⟩;subst hw;clear T2)
      |(go_at_call 42;(with_reducible refine Calls.mono (T3.o _) ?_);rintro e w3 ⟨rfl,hb⟩;replace HK:=I (HK.o.below hb);replace HB:=HB.t hb;clear hb T3;(try clear k0 k1 k2 k3 k4 k5 k6 k7 k8);have k0:=HK.o.cell 0;have k1:=HK.o.cell 1;have k2:=HK.o.cell 2;have k3:=HK.o.cell 3;have k4:=HK.o.cell 4;have k5:=HK.o.cell 5;have k6:=HK.o.cell 6;have k7:=HK.o.cell 7;have k8:=HK.o.cell 8;simp only[List.getElem?_toArray,List.getElem?_cons_zero,List.getElem?_cons_succ] at k0 k1 k2 k3 k4 k5 k6 k7 k8)
      |(go_at_call 174;(with_reducible refine Calls.mono (T4.o _) ?_);rintro e w4 ⟨rfl,hw⟩;subst hw;clear T4))
     go_ret;exact⟨by rw[E.o];rfl,HB.o⟩
    |true=>
     rw[h4] at T4;have E:=I (show tgB q=tmB q.no by rw[tgB,h1,h2,h3,h4];rfl);clear h1 h2 h3 h4;go_enter Tryz.func142,Tryz.ntmps142
     go_wp2_with (first
      |(go_at_call 190;(with_reducible refine Calls.mono (T1.o _) ?_);rintro e w1 ⟨rfl,hb⟩;replace HK:=I (HK.o.below hb);replace HB:=HB.t hb;clear hb T1;(try clear k0 k1 k2 k3 k4 k5 k6 k7 k8);have k0:=HK.o.cell 0;have k1:=HK.o.cell 1;have k2:=HK.o.cell 2;have k3:=HK.o.cell 3;have k4:=HK.o.cell 4;have k5:=HK.o.cell 5;have k6:=HK.o.cell 6;have k7:=HK.o.cell 7;have k8:=HK.o.cell 8;simp only[List.getElem?_toArray,List.getElem?_cons_zero,List.getElem?_cons_succ] at k0 k1 k2 k3 k4 k5 k6 k7 k8)
      |(go_at_call 191;(with_reducible refine Calls.mono (T2.o _) ?_);rintro e w2 ⟨rfl,hw⟩;subst hw;clear T2)
      |(go_at_call 42;(with_reducible refine Calls.mono (T3.o _) ?_);rintro e w3 ⟨rfl,hb⟩;replace HK:=I (HK.o.below hb);replace HB:=HB.t hb;clear hb T3;(try clear k0 k1 k2 k3 k4 k5 k6 k7 k8);have k0:=HK.o.cell 0;have k1:=HK.o.cell 1;have k2:=HK.o.cell 2;have k3:=HK.o.cell 3;have k4:=HK.o.cell 4;have k5:=HK.o.cell 5;have k6:=HK.o.cell 6;have k7:=HK.o.cell 7;have k8:=HK.o.cell 8;simp only[List.getElem?_toArray,List.getElem?_cons_zero,List.getElem?_cons_succ] at k0 k1 k2 k3 k4 k5 k6 k7 k8)
      |(go_at_call 174;(with_reducible refine Calls.mono (T4.o _) ?_);rintro e w4 ⟨rfl,hw⟩;subst hw;clear T4)
      |(go_at_call 180;(with_reducible refine Calls.mono (T5.o _) ?_);rintro e w5 ⟨rfl,hw⟩;subst hw;clear T5))
     go_ret;exact⟨by rw[E.o];rfl,HB.o⟩
theorem Va (q:Re) (A1 A2:Option Addr) (c1 c2:Nat) (w:World) (hs:pSm q.t.s) (hs2:pSm q.c):Calls Tryz.prog 143 #[.agg #[.string ⟨q.c.1.toArray⟩,.string ⟨q.c.2.toArray⟩,.string ⟨q.t.s.1.toArray⟩,.string ⟨q.t.s.2.toArray⟩,.int .i64 q.t.k,.slice A1 q.t.b.length c1,.slice A2 q.b.length c2]] w fun e w'=>e=.returned (.bool (reB q))/\Below w.heap.size w w':=by
 have hb0:=(Below.refl w.heap.size w).alloc Ag (.cells #[.string ⟨q.c.1.toArray⟩,.string ⟨q.c.2.toArray⟩,.string ⟨q.t.s.1.toArray⟩,.string ⟨q.t.s.2.toArray⟩,.int .i64 q.t.k,.slice A1 q.t.b.length c1,.slice A2 q.b.length c2] 43);have HB:=I hb0;have HK:=I (Blk.new w 43 #[.string ⟨q.c.1.toArray⟩,.string ⟨q.c.2.toArray⟩,.string ⟨q.t.s.1.toArray⟩,.string ⟨q.t.s.2.toArray⟩,.int .i64 q.t.k,.slice A1 q.t.b.length c1,.slice A2 q.b.length c2]);clear hb0;have T1:=I (fun w1=>AX q.c w1 hs2.1 hs2.2);have T2:=I (fun w1=>FC q.t A1 c1 w1 hs);have T3:=I (fun w1=>FU q.b A2 c2 w1);cases h1:prB q.c with
 |false=>
  rw[h1] at T1;have E:=I (show reB q=false by rw[reB,h1];rfl);clear h1;go_enter Tryz.func143,Tryz.ntmps143
  go_wp2_with (go_at_call 42;(with_reducible refine Calls.mono (T1.o _) ?_);rintro e w1 ⟨rfl,hb⟩;replace HK:=I (HK.o.below hb);replace HB:=HB.t hb;clear hb T1;(try clear k0 k1 k2 k3 k4 k5 k6);have k0:=HK.o.cell 0;have k1:=HK.o.cell 1;have k2:=HK.o.cell 2;have k3:=HK.o.cell 3;have k4:=HK.o.cell 4;have k5:=HK.o.cell 5;have k6:=HK.o.cell 6;simp only[List.getElem?_toArray,List.getElem?_cons_zero,List.getElem?_cons_succ] at k0 k1 k2 k3 k4 k5 k6)
  go_ret;exact⟨by rw[E.o];rfl,HB.o⟩
 |true=>
  rw[h1] at T1;cases h2:tkB q.t with
  |false=>
   rw[h2] at T2;have E:=I (show reB q=false by rw[reB,h1,h2];rfl);clear h1 h2;go_enter Tryz.func143,Tryz.ntmps143
   go_wp2_with (first
    |(go_at_call 42;(with_reducible refine Calls.mono (T1.o _) ?_);rintro e w1 ⟨rfl,hb⟩;replace HK:=I (HK.o.below hb);replace HB:=HB.t hb;clear hb T1;(try clear k0 k1 k2 k3 k4 k5 k6);have k0:=HK.o.cell 0;have k1:=HK.o.cell 1;have k2:=HK.o.cell 2;have k3:=HK.o.cell 3;have k4:=HK.o.cell 4;have k5:=HK.o.cell 5;have k6:=HK.o.cell 6;simp only[List.getElem?_toArray,List.getElem?_cons_zero,List.getElem?_cons_succ] at k0 k1 k2 k3 k4 k5 k6)
    |(go_at_call 190;(with_reducible refine Calls.mono (T2.o _) ?_);rintro e w2 ⟨rfl,hb⟩;replace HK:=I (HK.o.below hb);replace HB:=HB.t hb;clear hb T2;(try clear k0 k1 k2 k3 k4 k5 k6);have k0:=HK.o.cell 0;have k1:=HK.o.cell 1;have k2:=HK.o.cell 2;have k3:=HK.o.cell 3;have k4:=HK.o.cell 4;have k5:=HK.o.cell 5;have k6:=HK.o.cell 6;simp only[List.getElem?_toArray,List.getElem?_cons_zero,List.getElem?_cons_succ] at k0 k1 k2 k3 k4 k5 k6))
   go_ret;exact⟨by rw[E.o];rfl,HB.o⟩
  |true=>
   rw[h2] at T2;have E:=I (show reB q=Da q.b by rw[reB,h1,h2];rfl);clear h1 h2;go_enter Tryz.func143,Tryz.ntmps143
   go_wp2_with (first
    |(go_at_call 42;(with_reducible refine Calls.mono (T1.o _) ?_);rintro e w1 ⟨rfl,hb⟩;replace HK:=I (HK.o.below hb);replace HB:=HB.t hb;clear hb T1;(try clear k0 k1 k2 k3 k4 k5 k6);have k0:=HK.o.cell 0;have k1:=HK.o.cell 1;have k2:=HK.o.cell 2;have k3:=HK.o.cell 3;have k4:=HK.o.cell 4;have k5:=HK.o.cell 5;have k6:=HK.o.cell 6;simp only[List.getElem?_toArray,List.getElem?_cons_zero,List.getElem?_cons_succ] at k0 k1 k2 k3 k4 k5 k6)
    |(go_at_call 190;(with_reducible refine Calls.mono (T2.o _) ?_);rintro e w2 ⟨rfl,hb⟩;replace HK:=I (HK.o.below hb);replace HB:=HB.t hb;clear hb T2;(try clear k0 k1 k2 k3 k4 k5 k6);have k0:=HK.o.cell 0;have k1:=HK.o.cell 1;have k2:=HK.o.cell 2;have k3:=HK.o.cell 3;have k4:=HK.o.cell 4;have k5:=HK.o.cell 5;have k6:=HK.o.cell 6;simp only[List.getElem?_toArray,List.getElem?_cons_zero,List.getElem?_cons_succ] at k0 k1 k2 k3 k4 k5 k6)
    |(go_at_call 191;(with_reducible refine Calls.mono (T3.o _) ?_);rintro e w3 ⟨rfl,hw⟩;subst hw;clear T3))
   go_ret;exact⟨by rw[E.o];rfl,HB.o⟩
theorem Vb (q:Ap) (A1 A2:Option Addr) (c1 c2:Nat) (w:World) (hs:pSm q.t.s):Calls Tryz.prog 144 #[.agg #[.string ⟨q.t.s.1.toArray⟩,.string ⟨q.t.s.2.toArray⟩,.int .i64 q.t.k,.slice A1 q.t.b.length c1,.slice A2 q.a.length c2]] w fun e w'=>e=.returned (.bool (apB q))/\Below w.heap.size w w':=by
 have hb0:=(Below.refl w.heap.size w).alloc Ag (.cells #[.string ⟨q.t.s.1.toArray⟩,.string ⟨q.t.s.2.toArray⟩,.int .i64 q.t.k,.slice A1 q.t.b.length c1,.slice A2 q.a.length c2] 87);have HB:=I hb0;have HK:=I (Blk.new w 87 #[.string ⟨q.t.s.1.toArray⟩,.string ⟨q.t.s.2.toArray⟩,.int .i64 q.t.k,.slice A1 q.t.b.length c1,.slice A2 q.a.length c2]);clear hb0;have T1:=I (fun w1=>FC q.t A1 c1 w1 hs);have T2:=I (fun w1=>FU q.a A2 c2 w1);cases h1:tkB q.t with
 |false=>
  rw[h1] at T1;have E:=I (show apB q=false by rw[apB,h1];rfl);clear h1;go_enter Tryz.func144,Tryz.ntmps144
  go_wp2_with (go_at_call 190;(with_reducible refine Calls.mono (T1.o _) ?_);rintro e w1 ⟨rfl,hb⟩;replace HK:=I (HK.o.below hb);replace HB:=HB.t hb;clear hb T1;(try clear k0 k1 k2 k3 k4);have k0:=HK.o.cell 0;have k1:=HK.o.cell 1;have k2:=HK.o.cell 2;have k3:=HK.o.cell 3;have k4:=HK.o.cell 4;simp only[List.getElem?_toArray,List.getElem?_cons_zero,List.getElem?_cons_succ] at k0 k1 k2 k3 k4)
  go_ret;exact⟨by rw[E.o];rfl,HB.o⟩
 |true=>
  rw[h1] at T1;have E:=I (show apB q=Da q.a by rw[apB,h1];rfl);clear h1;go_enter Tryz.func144,Tryz.ntmps144
  go_wp2_with (first
   |(go_at_call 190;(with_reducible refine Calls.mono (T1.o _) ?_);rintro e w1 ⟨rfl,hb⟩;replace HK:=I (HK.o.below hb);replace HB:=HB.t hb;clear hb T1;(try clear k0 k1 k2 k3 k4);have k0:=HK.o.cell 0;have k1:=HK.o.cell 1;have k2:=HK.o.cell 2;have k3:=HK.o.cell 3;have k4:=HK.o.cell 4;simp only[List.getElem?_toArray,List.getElem?_cons_zero,List.getElem?_cons_succ] at k0 k1 k2 k3 k4)
   |(go_at_call 191;(with_reducible refine Calls.mono (T2.o _) ?_);rintro e w2 ⟨rfl,hw⟩;subst hw;clear T2))
  go_ret;exact⟨by rw[E.o];rfl,HB.o⟩
theorem Vc (q:Fa) (w:World):Calls Tryz.prog 145 #[.agg #[.int .i64 q.e,.int .i64 q.no]] w fun e w'=>e=.returned (.bool (faB q))/\Below w.heap.size w w':=by
 have hb0:=(Below.refl w.heap.size w).alloc Ag (.cells #[.int .i64 q.e,.int .i64 q.no] 89);have HB:=I hb0;have HK:=I (Blk.new w 89 #[.int .i64 q.e,.int .i64 q.no]);clear hb0;have T1:=I (fun w1=>Eb q.e 1 255 w1);have T2:=I (fun w1=>FB q.no w1);cases h1:inB q.e 1 255 with
 |false=>
  rw[h1] at T1;have E:=I (show faB q=false by rw[faB,h1];rfl);clear h1;go_enter Tryz.func145,Tryz.ntmps145
  go_wp2_with (go_at_call 192;(with_reducible refine Calls.mono (T1.o _) ?_);rintro e w1 ⟨rfl,hw⟩;subst hw;clear T1)
  go_ret;exact⟨by rw[E.o];rfl,HB.o⟩
 |true=>
  rw[h1] at T1;have E:=I (show faB q=tmB q.no by rw[faB,h1];rfl);clear h1;go_enter Tryz.func145,Tryz.ntmps145
  go_wp2_with (first
   |(go_at_call 192;(with_reducible refine Calls.mono (T1.o _) ?_);rintro e w1 ⟨rfl,hw⟩;subst hw;clear T1)
   |(go_at_call 180;(with_reducible refine Calls.mono (T2.o _) ?_);rintro e w2 ⟨rfl,hw⟩;subst hw;clear T2))
  go_ret;exact⟨by rw[E.o];rfl,HB.o⟩
open DerR
theorem Iy (t:UInt8) (p:L):0<(elem t p).length:=by rw[Eg];omega
theorem Jw (l:L) (w:World) (hl:l.length<=65535):Calls Tryz.prog 178 #[.string ⟨l.toArray⟩] w (BS w (elem 27 l)):=
 (DerW.Eh l w hl).mono fun e w' h=>by obtain⟨v,rfl,h1,h2⟩:=h;exact Fk h1 (Iy _ _) h2
theorem BR (n:Int) (w:World):Calls Tryz.prog 179 #[.int .i64 n] w (BS w (encI n)):=
 (DerW.CR n w).mono fun e w' h=>by obtain⟨v,rfl,h1,h2⟩:=h;exact Fk h1 (Iy _ _) h2
theorem CV (l:L) (A:Option Addr) (n c B:Nat) (w:World) (hr:Rd w B A (bvs l)) (hn:n=l.length) (hB:B<=w.heap.size) (hl:l.length<=65535):Calls Tryz.prog 177 #[.slice A n c] w (BS w (elem 4 l)):=
 (DerW.DW l A n c B w hr hn hB hl).mono fun e w' h=>by obtain⟨v,rfl,h1,h2⟩:=h;exact Fk h1 (Iy _ _) h2
theorem Ck (t:UInt8) (ls:List L) (A:Option Addr) (m c B:Nat) (w:World) (hr:DerW.Rds w B A ls) (hm:m=ls.length) (hB:B<=w.heap.size) (hl:ls.flatten.length<=65535) (hc:ls.length<=1000000) :
  Calls Tryz.prog 175 #[.int .u8 t.toNat,.slice A m c] w (BS w (elem t ls.flatten)):=
 (DerW.DB t ls A m c B w hr hm hB hl hc).mono fun e w' h=>by obtain⟨v,rfl,h1,h2⟩:=h;exact Fk h1 (Iy _ _) h2
theorem BK (p:Pr) (w:World) (hp:prB p=true):Calls Tryz.prog 176 #[.agg #[.string ⟨p.1.toArray⟩,.string ⟨p.2.toArray⟩]] w (BS w (prE p)):=by
 have HB:=I ((Below.refl w.heap.size w).alloc Ag (.cells #[.string ⟨p.1.toArray⟩,.string ⟨p.2.toArray⟩] 25));have HK:=I (Blk.new w 25 #[.string ⟨p.1.toArray⟩,.string ⟨p.2.toArray⟩]);have b1:=Fp hp;have b2:=AD 27 p.1;have b3:=AD 27 p.2;have T1:=I (fun w1=>Jw p.1 w1 (by omega));have T2:=I (fun w1=>Jw p.2 w1 (by omega));have HL:=I (show [elem 27 p.1,elem 27 p.2].flatten.length<=65535 by rw[FY];simp only[List.length_append];omega);have HE:=I (show prE p=elem 48 [elem 27 p.1,elem 27 p.2].flatten from rfl);obtain⟨l1,el1⟩:∃l,l=elem 27 p.1:=⟨_,rfl⟩;obtain⟨l2,el2⟩:∃l,l=elem 27 p.2:=⟨_,rfl⟩;rw[<-el1] at T1 HL HE;rw[<-el2] at T2 HL HE;rw[HE.o,FY];clear HE el1 el2 b1 b2 b3 hp;go_enter Tryz.func176,Tryz.ntmps176
 go_wp2
 obtain⟨W,eW⟩:=Ak (w.alloc (.cells #[.string ⟨p.1.toArray⟩,.string ⟨p.2.toArray⟩] 25));rw[<-eW] at HB HK⊢;clear eW;replace HK:=I (show Blk W.drew _ _ _ from HK.o.drewN 1);replace HB:=I (show Below _ _ W.drew from below_drewN HB.o 1)
 go_region_held3 (fun w'=>w'.cell? ⟨w.heap.size,0,none⟩=some (.string ⟨p.1.toArray⟩)/\w'.cell? ⟨w.heap.size,1,none⟩=some (.string ⟨p.2.toArray⟩)) (first | exact⟨HK.o.cell 0,HK.o.cell 1⟩ | exact⟨(HK.o.alloc _).cell 0,(HK.o.alloc _).cell 1⟩) ((first
  |(go_at_call 178;(with_reducible refine Calls.mono (T1.o _) ?_);rintro e w1 ⟨⟨g1,c1,rfl,hg1,hc1,hr1⟩,hb⟩;clear T1;have HR1:=I hr1;replace HK:=I (HK.o.below hb);replace HB:=HB.t hb;clear hb hr1 hg1 hc1)
  |(go_at_call 178;(with_reducible refine Calls.mono (T2.o _) ?_);rintro e w2 ⟨⟨g2,c2,rfl,hg2,hc2,hr2⟩,hb⟩;clear T2;replace HR1:=I (AV HR1.o hb);have HR2:=I hr2;replace HK:=I (HK.o.below hb);replace HB:=HB.t hb;clear hb hr2 hg2 hc2)
  |(go_at_call 175;refine Calls.mono (Ck 48 [l1,l2] _ 2 2 (w2.heap.size+1) _ (KR HR1.o HR2.o) rfl (by simp) HL.o (by simp)) ?_;rintro e wz ⟨⟨gz,cz,rfl,hgz,hcz,hrz⟩,hb⟩;have hal:=(Below.refl w2.heap.size w2).alloc Ag (.cells #[.slice (some ⟨g1,0,none⟩) l1.length c1,.slice (some ⟨g2,0,none⟩) l2.length c2] 26);have HG:=I (AZ (l:=elem 48 [l1,l2].flatten) ⟨⟨gz,cz,rfl,hgz,hcz,hrz⟩,hb⟩ (HB.o.trans (hal.mono HB.o.size)));rw[FY] at HG;replace HK:=I ((HK.o.alloc (.cells #[.slice (some ⟨g1,0,none⟩) l1.length c1,.slice (some ⟨g2,0,none⟩) l2.length c2] 26)).below hb);clear hal hgz hcz hrz hb)))
 go_wp2
 go_ret;exact HG.o
theorem Es (t:Tk) (A:Option Addr) (c:Nat) (w:World) (ht:tkB t=true) (hr:Rd w w.heap.size A (bvs t.b)):Calls Tryz.prog 193 #[.agg #[.string ⟨t.s.1.toArray⟩,.string ⟨t.s.2.toArray⟩,.int .i64 t.k,.slice A t.b.length c]] w (BS w (tkE t)):=by
 have HB:=I ((Below.refl w.heap.size w).alloc Ag (.cells #[.string ⟨t.s.1.toArray⟩,.string ⟨t.s.2.toArray⟩,.int .i64 t.k,.slice A t.b.length c] 28));have HK:=I (Blk.new w 28 #[.string ⟨t.s.1.toArray⟩,.string ⟨t.s.2.toArray⟩,.int .i64 t.k,.slice A t.b.length c]);have hp:=Ob ht;have b1:=(Bb hp.1).1;have b2:=AF t.k;have b3:=AD 4 t.b;have T1:=I (fun w1=>BK t.s w1 hp.1);have T2:=I (fun w1=>BR t.k w1);have T3:=I (fun w1 (h:Below w.heap.size w w1)=>CV t.b A t.b.length c w1.heap.size w1 ((hr.below h).more h.size) rfl Ag (by omega));have HL:=I (show [prE t.s,encI t.k,elem 4 t.b].flatten.length<=65535 by rw[FZ];simp only[List.length_append];omega);have HE:=I (show tkE t=elem 97 [prE t.s,encI t.k,elem 4 t.b].flatten from rfl);obtain⟨l1,el1⟩:∃l,l=prE t.s:=⟨_,rfl⟩;obtain⟨l2,el2⟩:∃l,l=encI t.k:=⟨_,rfl⟩;obtain⟨l3,el3⟩:∃l,l=elem 4 t.b:=⟨_,rfl⟩;rw[<-el1] at T1 HL HE;rw[<-el2] at T2 HL HE;rw[<-el3] at T3 HL HE;rw[HE.o,FZ];clear HE el1 el2 el3 hp b1 b2 b3 ht hr;go_enter Tryz.func193,Tryz.ntmps193
 go_wp2
 obtain⟨W,eW⟩:=Ak (w.alloc (.cells #[.string ⟨t.s.1.toArray⟩,.string ⟨t.s.2.toArray⟩,.int .i64 t.k,.slice A t.b.length c] 28));rw[<-eW] at HB HK⊢;clear eW;replace HK:=I (show Blk W.drew _ _ _ from HK.o.drewN 1);replace HB:=I (show Below _ _ W.drew from below_drewN HB.o 1)
 go_region_held3 (fun w'=>w'.cell? ⟨w.heap.size,0,none⟩=some (.string ⟨t.s.1.toArray⟩)/\w'.cell? ⟨w.heap.size,1,none⟩=some (.string ⟨t.s.2.toArray⟩)/\w'.cell? ⟨w.heap.size,2,none⟩=some (.int .i64 t.k)/\w'.cell? ⟨w.heap.size,3,none⟩=some (.slice A t.b.length c)) (first | exact⟨HK.o.cell 0,HK.o.cell 1,HK.o.cell 2,HK.o.cell 3⟩ | exact⟨(HK.o.alloc _).cell 0,(HK.o.alloc _).cell 1,(HK.o.alloc _).cell 2,(HK.o.alloc _).cell 3⟩) ((first
  |(go_at_call 176;(with_reducible refine Calls.mono (T1.o _) ?_);rintro e w1 ⟨⟨g1,c1,rfl,hg1,hc1,hr1⟩,hb⟩;clear T1;have HR1:=I hr1;replace HK:=I (HK.o.below hb);replace HB:=HB.t hb;clear hb hr1 hg1 hc1)
  |(go_at_call 179;(with_reducible refine Calls.mono (T2.o _) ?_);rintro e w2 ⟨⟨g2,c2,rfl,hg2,hc2,hr2⟩,hb⟩;clear T2;replace HR1:=I (AV HR1.o hb);have HR2:=I hr2;replace HK:=I (HK.o.below hb);replace HB:=HB.t hb;clear hb hr2 hg2 hc2)
  |(go_at_call 177;(with_reducible refine Calls.mono (T3.o _ HB.o) ?_);rintro e w3 ⟨⟨g3,c3,rfl,hg3,hc3,hr3⟩,hb⟩;clear T3;replace HR1:=I (AV HR1.o hb);replace HR2:=I (AV HR2.o hb);have HR3:=I hr3;replace HK:=I (HK.o.below hb);replace HB:=HB.t hb;clear hb hr3 hg3 hc3)
  |(go_at_call 175;refine Calls.mono (Ck 97 [l1,l2,l3] _ 3 3 (w3.heap.size+1) _ (GO HR1.o HR2.o HR3.o) rfl (by simp) HL.o (by simp)) ?_;rintro e wz ⟨⟨gz,cz,rfl,hgz,hcz,hrz⟩,hb⟩;have hal:=(Below.refl w3.heap.size w3).alloc Ag (.cells #[.slice (some ⟨g1,0,none⟩) l1.length c1,.slice (some ⟨g2,0,none⟩) l2.length c2,.slice (some ⟨g3,0,none⟩) l3.length c3] 26);have HG:=I (AZ (l:=elem 97 [l1,l2,l3].flatten) ⟨⟨gz,cz,rfl,hgz,hcz,hrz⟩,hb⟩ (HB.o.trans (hal.mono HB.o.size)));rw[FZ] at HG;replace HK:=I ((HK.o.alloc (.cells #[.slice (some ⟨g1,0,none⟩) l1.length c1,.slice (some ⟨g2,0,none⟩) l2.length c2,.slice (some ⟨g3,0,none⟩) l3.length c3] 26)).below hb);clear hal hgz hcz hrz hb)))
 go_wp2
 go_ret;exact HG.o
theorem Mh (a:An) (w:World) (ha:anB a=true):Calls Tryz.prog 163 #[.agg #[.string ⟨a.c.1.toArray⟩,.string ⟨a.c.2.toArray⟩,.int .i64 a.t,.int .i64 a.q]] w (BS w (anE a)):=by
 have HB:=I ((Below.refl w.heap.size w).alloc Ag (.cells #[.string ⟨a.c.1.toArray⟩,.string ⟨a.c.2.toArray⟩,.int .i64 a.t,.int .i64 a.q] 41));have HK:=I (Blk.new w 41 #[.string ⟨a.c.1.toArray⟩,.string ⟨a.c.2.toArray⟩,.int .i64 a.t,.int .i64 a.q]);have hp:prB a.c=true/\tmB a.t=true/\tmB a.q=true:=by simpa [anB] using ha
 have b1:=(Bb hp.1).1;have b2:=AF a.t;have b3:=AF a.q;have T1:=I (fun w1=>BK a.c w1 hp.1);have T2:=I (fun w1=>BR a.t w1);have T3:=I (fun w1=>BR a.q w1);have HL:=I (show [prE a.c,encI a.t,encI a.q].flatten.length<=65535 by rw[FZ];simp only[List.length_append];omega);have HE:=I (show anE a=elem 98 [prE a.c,encI a.t,encI a.q].flatten from rfl);obtain⟨l1,el1⟩:∃l,l=prE a.c:=⟨_,rfl⟩;obtain⟨l2,el2⟩:∃l,l=encI a.t:=⟨_,rfl⟩;obtain⟨l3,el3⟩:∃l,l=encI a.q:=⟨_,rfl⟩;rw[<-el1] at T1 HL HE;rw[<-el2] at T2 HL HE;rw[<-el3] at T3 HL HE;rw[HE.o,FZ];clear HE el1 el2 el3 hp b1 b2 b3 ha;go_enter Tryz.func163,Tryz.ntmps163
 go_wp2
 obtain⟨W,eW⟩:=Ak (w.alloc (.cells #[.string ⟨a.c.1.toArray⟩,.string ⟨a.c.2.toArray⟩,.int .i64 a.t,.int .i64 a.q] 41));rw[<-eW] at HB HK⊢;clear eW;replace HK:=I (show Blk W.drew _ _ _ from HK.o.drewN 1);replace HB:=I (show Below _ _ W.drew from below_drewN HB.o 1)
 go_region_held3 (fun w'=>w'.cell? ⟨w.heap.size,0,none⟩=some (.string ⟨a.c.1.toArray⟩)/\w'.cell? ⟨w.heap.size,1,none⟩=some (.string ⟨a.c.2.toArray⟩)/\w'.cell? ⟨w.heap.size,2,none⟩=some (.int .i64 a.t)/\w'.cell? ⟨w.heap.size,3,none⟩=some (.int .i64 a.q)) (first | exact⟨HK.o.cell 0,HK.o.cell 1,HK.o.cell 2,HK.o.cell 3⟩ | exact⟨(HK.o.alloc _).cell 0,(HK.o.alloc _).cell 1,(HK.o.alloc _).cell 2,(HK.o.alloc _).cell 3⟩) ((first
  |(go_at_call 176;(with_reducible refine Calls.mono (T1.o _) ?_);rintro e w1 ⟨⟨g1,c1,rfl,hg1,hc1,hr1⟩,hb⟩;clear T1;have HR1:=I hr1;replace HK:=I (HK.o.below hb);replace HB:=HB.t hb;clear hb hr1 hg1 hc1)
  |(go_at_call 179;(with_reducible refine Calls.mono (T2.o _) ?_);rintro e w2 ⟨⟨g2,c2,rfl,hg2,hc2,hr2⟩,hb⟩;clear T2;replace HR1:=I (AV HR1.o hb);have HR2:=I hr2;replace HK:=I (HK.o.below hb);replace HB:=HB.t hb;clear hb hr2 hg2 hc2)
  |(go_at_call 179;(with_reducible refine Calls.mono (T3.o _) ?_);rintro e w3 ⟨⟨g3,c3,rfl,hg3,hc3,hr3⟩,hb⟩;clear T3;replace HR1:=I (AV HR1.o hb);replace HR2:=I (AV HR2.o hb);have HR3:=I hr3;replace HK:=I (HK.o.below hb);replace HB:=HB.t hb;clear hb hr3 hg3 hc3)
  |(go_at_call 175;refine Calls.mono (Ck 98 [l1,l2,l3] _ 3 3 (w3.heap.size+1) _ (GO HR1.o HR2.o HR3.o) rfl (by simp) HL.o (by simp)) ?_;rintro e wz ⟨⟨gz,cz,rfl,hgz,hcz,hrz⟩,hb⟩;have hal:=(Below.refl w3.heap.size w3).alloc Ag (.cells #[.slice (some ⟨g1,0,none⟩) l1.length c1,.slice (some ⟨g2,0,none⟩) l2.length c2,.slice (some ⟨g3,0,none⟩) l3.length c3] 26);have HG:=I (AZ (l:=elem 98 [l1,l2,l3].flatten) ⟨⟨gz,cz,rfl,hgz,hcz,hrz⟩,hb⟩ (HB.o.trans (hal.mono HB.o.size)));rw[FZ] at HG;replace HK:=I ((HK.o.alloc (.cells #[.slice (some ⟨g1,0,none⟩) l1.length c1,.slice (some ⟨g2,0,none⟩) l2.length c2,.slice (some ⟨g3,0,none⟩) l3.length c3] 26)).below hb);clear hal hgz hcz hrz hb)))
 go_wp2
 go_ret;exact HG.o
theorem SM (q:As) (w:World) (ha:asB q=true):Calls Tryz.prog 146 #[.agg #[.string ⟨q.c.1.toArray⟩,.string ⟨q.c.2.toArray⟩,.string ⟨q.s.1.toArray⟩,.string ⟨q.s.2.toArray⟩,.int .i64 q.t,.int .i64 q.no]] w (BS w (asE q)):=by
 have HB:=I ((Below.refl w.heap.size w).alloc Ag (.cells #[.string ⟨q.c.1.toArray⟩,.string ⟨q.c.2.toArray⟩,.string ⟨q.s.1.toArray⟩,.string ⟨q.s.2.toArray⟩,.int .i64 q.t,.int .i64 q.no] 85));have HK:=I (Blk.new w 85 #[.string ⟨q.c.1.toArray⟩,.string ⟨q.c.2.toArray⟩,.string ⟨q.s.1.toArray⟩,.string ⟨q.s.2.toArray⟩,.int .i64 q.t,.int .i64 q.no]);have hp:prB q.c=true/\prB q.s=true/\tmB q.t=true/\tmB q.no=true:=by simpa [asB] using ha
 have b1:=(Bb hp.1).1;have b2:=(Bb hp.2.1).1;have b3:=AF q.t;have b4:=AF q.no;have T1:=I (fun w1=>BK q.c w1 hp.1);have T2:=I (fun w1=>BK q.s w1 hp.2.1);have T3:=I (fun w1=>BR q.t w1);have T4:=I (fun w1=>BR q.no w1);have HL:=I (show [prE q.c,prE q.s,encI q.t,encI q.no].flatten.length<=65535 by rw[Um];simp only[List.length_append];omega);have HE:=I (show asE q=elem 106 [prE q.c,prE q.s,encI q.t,encI q.no].flatten from rfl);obtain⟨l1,el1⟩:∃l,l=prE q.c:=⟨_,rfl⟩;obtain⟨l2,el2⟩:∃l,l=prE q.s:=⟨_,rfl⟩;obtain⟨l3,el3⟩:∃l,l=encI q.t:=⟨_,rfl⟩;obtain⟨l4,el4⟩:∃l,l=encI q.no:=⟨_,rfl⟩;rw[<-el1] at T1 HL HE;rw[<-el2] at T2 HL HE;rw[<-el3] at T3 HL HE;rw[<-el4] at T4 HL HE;rw[HE.o,Um];clear HE el1 el2 el3 el4 hp b1 b2 b3 b4 ha;go_enter Tryz.func146,Tryz.ntmps146
 go_wp2
 obtain⟨W,eW⟩:=Ak (w.alloc (.cells #[.string ⟨q.c.1.toArray⟩,.string ⟨q.c.2.toArray⟩,.string ⟨q.s.1.toArray⟩,.string ⟨q.s.2.toArray⟩,.int .i64 q.t,.int .i64 q.no] 85));rw[<-eW] at HB HK⊢;clear eW;replace HK:=I (show Blk W.drew _ _ _ from HK.o.drewN 1);replace HB:=I (show Below _ _ W.drew from below_drewN HB.o 1)
 go_region_held3 (fun w'=>w'.cell? ⟨w.heap.size,0,none⟩=some (.string ⟨q.c.1.toArray⟩)/\w'.cell? ⟨w.heap.size,1,none⟩=some (.string ⟨q.c.2.toArray⟩)/\w'.cell? ⟨w.heap.size,2,none⟩=some (.string ⟨q.s.1.toArray⟩)/\w'.cell? ⟨w.heap.size,3,none⟩=some (.string ⟨q.s.2.toArray⟩)/\w'.cell? ⟨w.heap.size,4,none⟩=some (.int .i64 q.t)/\w'.cell? ⟨w.heap.size,5,none⟩=some (.int .i64 q.no)) (first | exact⟨HK.o.cell 0,HK.o.cell 1,HK.o.cell 2,HK.o.cell 3,HK.o.cell 4,HK.o.cell 5⟩ | exact⟨(HK.o.alloc _).cell 0,(HK.o.alloc _).cell 1,(HK.o.alloc _).cell 2,(HK.o.alloc _).cell 3,(HK.o.alloc _).cell 4,(HK.o.alloc _).cell 5⟩) ((first
  |(go_at_call 176;(with_reducible refine Calls.mono (T1.o _) ?_);rintro e w1 ⟨⟨g1,c1,rfl,hg1,hc1,hr1⟩,hb⟩;clear T1;have HR1:=I hr1;replace HK:=I (HK.o.below hb);replace HB:=HB.t hb;clear hb hr1 hg1 hc1)
  |(go_at_call 176;(with_reducible refine Calls.mono (T2.o _) ?_);rintro e w2 ⟨⟨g2,c2,rfl,hg2,hc2,hr2⟩,hb⟩;clear T2;replace HR1:=I (AV HR1.o hb);have HR2:=I hr2;replace HK:=I (HK.o.below hb);replace HB:=HB.t hb;clear hb hr2 hg2 hc2)
  |(go_at_call 179;(with_reducible refine Calls.mono (T3.o _) ?_);rintro e w3 ⟨⟨g3,c3,rfl,hg3,hc3,hr3⟩,hb⟩;clear T3;replace HR1:=I (AV HR1.o hb);replace HR2:=I (AV HR2.o hb);have HR3:=I hr3;replace HK:=I (HK.o.below hb);replace HB:=HB.t hb;clear hb hr3 hg3 hc3)
  |(go_at_call 179;(with_reducible refine Calls.mono (T4.o _) ?_);rintro e w4 ⟨⟨g4,c4,rfl,hg4,hc4,hr4⟩,hb⟩;clear T4;replace HR1:=I (AV HR1.o hb);replace HR2:=I (AV HR2.o hb);replace HR3:=I (AV HR3.o hb);have HR4:=I hr4;replace HK:=I (HK.o.below hb);replace HB:=HB.t hb;clear hb hr4 hg4 hc4)
  |(go_at_call 175;refine Calls.mono (Ck 106 [l1,l2,l3,l4] _ 4 4 (w4.heap.size+1) _ (UF HR1.o HR2.o HR3.o HR4.o) rfl (by simp) HL.o (by simp)) ?_;rintro e wz ⟨⟨gz,cz,rfl,hgz,hcz,hrz⟩,hb⟩;have hal:=(Below.refl w4.heap.size w4).alloc Ag (.cells #[.slice (some ⟨g1,0,none⟩) l1.length c1,.slice (some ⟨g2,0,none⟩) l2.length c2,.slice (some ⟨g3,0,none⟩) l3.length c3,.slice (some ⟨g4,0,none⟩) l4.length c4] 26);have HG:=I (AZ (l:=elem 106 [l1,l2,l3,l4].flatten) ⟨⟨gz,cz,rfl,hgz,hcz,hrz⟩,hb⟩ (HB.o.trans (hal.mono HB.o.size)));rw[Um] at HG;replace HK:=I ((HK.o.alloc (.cells #[.slice (some ⟨g1,0,none⟩) l1.length c1,.slice (some ⟨g2,0,none⟩) l2.length c2,.slice (some ⟨g3,0,none⟩) l3.length c3,.slice (some ⟨g4,0,none⟩) l4.length c4] 26)).below hb);clear hal hgz hcz hrz hb)))
 go_wp2
 go_ret;exact HG.o
theorem SN (q:Tg) (A1 A2:Option Addr) (c1 c2:Nat) (w:World) (ha:tgB q=true) (hr1:Rd w w.heap.size A1 (bvs q.t.b)) (hr2:Rd w w.heap.size A2 (bvs q.a)):Calls Tryz.prog 147 #[.agg #[.string ⟨q.t.s.1.toArray⟩,.string ⟨q.t.s.2.toArray⟩,.int .i64 q.t.k,.slice A1 q.t.b.length c1,.slice A2 q.a.length c2,.string ⟨q.s.1.toArray⟩,.string ⟨q.s.2.toArray⟩,.int .i64 q.u,.int .i64 q.no]] w (BS w (tgE q)):=by
 have HB:=I ((Below.refl w.heap.size w).alloc Ag (.cells #[.string ⟨q.t.s.1.toArray⟩,.string ⟨q.t.s.2.toArray⟩,.int .i64 q.t.k,.slice A1 q.t.b.length c1,.slice A2 q.a.length c2,.string ⟨q.s.1.toArray⟩,.string ⟨q.s.2.toArray⟩,.int .i64 q.u,.int .i64 q.no] 30));have HK:=I (Blk.new w 30 #[.string ⟨q.t.s.1.toArray⟩,.string ⟨q.t.s.2.toArray⟩,.int .i64 q.t.k,.slice A1 q.t.b.length c1,.slice A2 q.a.length c2,.string ⟨q.s.1.toArray⟩,.string ⟨q.s.2.toArray⟩,.int .i64 q.u,.int .i64 q.no]);have hp:tkB q.t=true/\Da q.a=true/\prB q.s=true/\tmB q.u=true/\tmB q.no=true:=by simpa [tgB] using ha
 have b1:=(Hk hp.1).1;have b2:=AD 4 q.a;have b3:=(Bb hp.2.2.1).1;have b4:=AF q.u;have b5:=AF q.no;have b6:=Dk hp.2.1;have T1:=I (fun w1 (h:Below w.heap.size w w1)=>Es q.t A1 c1 w1 hp.1 ((hr1.below h).more h.size));have T2:=I (fun w1 (h:Below w.heap.size w w1)=>CV q.a A2 q.a.length c2 w1.heap.size w1 ((hr2.below h).more h.size) rfl Ag (by omega));have T3:=I (fun w1=>BK q.s w1 hp.2.2.1);have T4:=I (fun w1=>BR q.u w1);have T5:=I (fun w1=>BR q.no w1);have HL:=I (show [tkE q.t,elem 4 q.a,prE q.s,encI q.u,encI q.no].flatten.length<=65535 by rw[Fq];simp only[List.length_append];omega);have HE:=I (show tgE q=elem 108 [tkE q.t,elem 4 q.a,prE q.s,encI q.u,encI q.no].flatten from rfl);obtain⟨l1,el1⟩:∃l,l=tkE q.t:=⟨_,rfl⟩;obtain⟨l2,el2⟩:∃l,l=elem 4 q.a:=⟨_,rfl⟩;obtain⟨l3,el3⟩:∃l,l=prE q.s:=⟨_,rfl⟩;obtain⟨l4,el4⟩:∃l,l=encI q.u:=⟨_,rfl⟩;obtain⟨l5,el5⟩:∃l,l=encI q.no:=⟨_,rfl⟩;rw[<-el1] at T1 HL HE;rw[<-el2] at T2 HL HE;rw[<-el3] at T3 HL HE;rw[<-el4] at T4 HL HE;rw[<-el5] at T5 HL HE;rw[HE.o,Fq];clear HE el1 el2 el3 el4 el5 hp b1 b2 b3 b4 b5 b6 ha hr1 hr2;go_enter Tryz.func147,Tryz.ntmps147
 go_wp2
 obtain⟨W,eW⟩:=Ak (w.alloc (.cells #[.string ⟨q.t.s.1.toArray⟩,.string ⟨q.t.s.2.toArray⟩,.int .i64 q.t.k,.slice A1 q.t.b.length c1,.slice A2 q.a.length c2,.string ⟨q.s.1.toArray⟩,.string ⟨q.s.2.toArray⟩,.int .i64 q.u,.int .i64 q.no] 30));rw[<-eW] at HB HK⊢;clear eW;replace HK:=I (show Blk W.drew _ _ _ from HK.o.drewN 1);replace HB:=I (show Below _ _ W.drew from below_drewN HB.o 1)
 go_region_held3 (fun w'=>w'.cell? ⟨w.heap.size,0,none⟩=some (.string ⟨q.t.s.1.toArray⟩)/\w'.cell? ⟨w.heap.size,1,none⟩=some (.string ⟨q.t.s.2.toArray⟩)/\w'.cell? ⟨w.heap.size,2,none⟩=some (.int .i64 q.t.k)/\w'.cell? ⟨w.heap.size,3,none⟩=some (.slice A1 q.t.b.length c1)/\w'.cell? ⟨w.heap.size,4,none⟩=some (.slice A2 q.a.length c2)/\w'.cell? ⟨w.heap.size,5,none⟩=some (.string ⟨q.s.1.toArray⟩)/\w'.cell? ⟨w.heap.size,6,none⟩=some (.string ⟨q.s.2.toArray⟩)/\w'.cell? ⟨w.heap.size,7,none⟩=some (.int .i64 q.u)/\w'.cell? ⟨w.heap.size,8,none⟩=some (.int .i64 q.no)) (first | exact⟨HK.o.cell 0,HK.o.cell 1,HK.o.cell 2,HK.o.cell 3,HK.o.cell 4,HK.o.cell 5,HK.o.cell 6,HK.o.cell 7,HK.o.cell 8⟩ | exact⟨(HK.o.alloc _).cell 0,(HK.o.alloc _).cell 1,(HK.o.alloc _).cell 2,(HK.o.alloc _).cell 3,(HK.o.alloc _).cell 4,(HK.o.alloc _).cell 5,(HK.o.alloc _).cell 6,(HK.o.alloc _).cell 7,(HK.o.alloc _).cell 8⟩) ((first
  |(go_at_call 193;(with_reducible refine Calls.mono (T1.o _ HB.o) ?_);rintro e w1 ⟨⟨g1,c1,rfl,hg1,hc1,hr1⟩,hb⟩;clear T1;have HR1:=I hr1;replace HK:=I (HK.o.below hb);replace HB:=HB.t hb;clear hb hr1 hg1 hc1)
  |(go_at_call 177;(with_reducible refine Calls.mono (T2.o _ HB.o) ?_);rintro e w2 ⟨⟨g2,c2,rfl,hg2,hc2,hr2⟩,hb⟩;clear T2;replace HR1:=I (AV HR1.o hb);have HR2:=I hr2;replace HK:=I (HK.o.below hb);replace HB:=HB.t hb;clear hb hr2 hg2 hc2)
  |(go_at_call 176;(with_reducible refine Calls.mono (T3.o _) ?_);rintro e w3 ⟨⟨g3,c3,rfl,hg3,hc3,hr3⟩,hb⟩;clear T3;replace HR1:=I (AV HR1.o hb);replace HR2:=I (AV HR2.o hb);have HR3:=I hr3;replace HK:=I (HK.o.below hb);replace HB:=HB.t hb;clear hb hr3 hg3 hc3)
  |(go_at_call 179;(with_reducible refine Calls.mono (T4.o _) ?_);rintro e w4 ⟨⟨g4,c4,rfl,hg4,hc4,hr4⟩,hb⟩;clear T4;replace HR1:=I (AV HR1.o hb);replace HR2:=I (AV HR2.o hb);replace HR3:=I (AV HR3.o hb);have HR4:=I hr4;replace HK:=I (HK.o.below hb);replace HB:=HB.t hb;clear hb hr4 hg4 hc4)
  |(go_at_call 179;(with_reducible refine Calls.mono (T5.o _) ?_);rintro e w5 ⟨⟨g5,c5,rfl,hg5,hc5,hr5⟩,hb⟩;clear T5;replace HR1:=I (AV HR1.o hb);replace HR2:=I (AV HR2.o hb);replace HR3:=I (AV HR3.o hb);replace HR4:=I (AV HR4.o hb);have HR5:=I hr5;replace HK:=I (HK.o.below hb);replace HB:=HB.t hb;clear hb hr5 hg5 hc5)
  |(go_at_call 175;refine Calls.mono (Ck 108 [l1,l2,l3,l4,l5] _ 5 5 (w5.heap.size+1) _ (Iw HR1.o HR2.o HR3.o HR4.o HR5.o) rfl (by simp) HL.o (by simp)) ?_;rintro e wz ⟨⟨gz,cz,rfl,hgz,hcz,hrz⟩,hb⟩;have hal:=(Below.refl w5.heap.size w5).alloc Ag (.cells #[.slice (some ⟨g1,0,none⟩) l1.length c1,.slice (some ⟨g2,0,none⟩) l2.length c2,.slice (some ⟨g3,0,none⟩) l3.length c3,.slice (some ⟨g4,0,none⟩) l4.length c4,.slice (some ⟨g5,0,none⟩) l5.length c5] 26);have HG:=I (AZ (l:=elem 108 [l1,l2,l3,l4,l5].flatten) ⟨⟨gz,cz,rfl,hgz,hcz,hrz⟩,hb⟩ (HB.o.trans (hal.mono HB.o.size)));rw[Fq] at HG;replace HK:=I ((HK.o.alloc (.cells #[.slice (some ⟨g1,0,none⟩) l1.length c1,.slice (some ⟨g2,0,none⟩) l2.length c2,.slice (some ⟨g3,0,none⟩) l3.length c3,.slice (some ⟨g4,0,none⟩) l4.length c4,.slice (some ⟨g5,0,none⟩) l5.length c5] 26)).below hb);clear hal hgz hcz hrz hb)))
 go_wp2
 go_ret;exact HG.o
theorem SP (q:Re) (A1 A2:Option Addr) (c1 c2:Nat) (w:World) (ha:reB q=true) (hr1:Rd w w.heap.size A1 (bvs q.t.b)) (hr2:Rd w w.heap.size A2 (bvs q.b)):Calls Tryz.prog 148 #[.agg #[.string ⟨q.c.1.toArray⟩,.string ⟨q.c.2.toArray⟩,.string ⟨q.t.s.1.toArray⟩,.string ⟨q.t.s.2.toArray⟩,.int .i64 q.t.k,.slice A1 q.t.b.length c1,.slice A2 q.b.length c2]] w (BS w (reE q)):=by
 have HB:=I ((Below.refl w.heap.size w).alloc Ag (.cells #[.string ⟨q.c.1.toArray⟩,.string ⟨q.c.2.toArray⟩,.string ⟨q.t.s.1.toArray⟩,.string ⟨q.t.s.2.toArray⟩,.int .i64 q.t.k,.slice A1 q.t.b.length c1,.slice A2 q.b.length c2] 43));have HK:=I (Blk.new w 43 #[.string ⟨q.c.1.toArray⟩,.string ⟨q.c.2.toArray⟩,.string ⟨q.t.s.1.toArray⟩,.string ⟨q.t.s.2.toArray⟩,.int .i64 q.t.k,.slice A1 q.t.b.length c1,.slice A2 q.b.length c2]);have hp:prB q.c=true/\tkB q.t=true/\Da q.b=true:=by simpa [reB] using ha
 have b1:=(Bb hp.1).1;have b2:=(Hk hp.2.1).1;have b3:=AD 4 q.b;have b6:=Dk hp.2.2;have T1:=I (fun w1=>BK q.c w1 hp.1);have T2:=I (fun w1 (h:Below w.heap.size w w1)=>Es q.t A1 c1 w1 hp.2.1 ((hr1.below h).more h.size));have T3:=I (fun w1 (h:Below w.heap.size w w1)=>CV q.b A2 q.b.length c2 w1.heap.size w1 ((hr2.below h).more h.size) rfl Ag (by omega));have HL:=I (show [prE q.c,tkE q.t,elem 4 q.b].flatten.length<=65535 by rw[FZ];simp only[List.length_append];omega);have HE:=I (show reE q=elem 107 [prE q.c,tkE q.t,elem 4 q.b].flatten from rfl);obtain⟨l1,el1⟩:∃l,l=prE q.c:=⟨_,rfl⟩;obtain⟨l2,el2⟩:∃l,l=tkE q.t:=⟨_,rfl⟩;obtain⟨l3,el3⟩:∃l,l=elem 4 q.b:=⟨_,rfl⟩;rw[<-el1] at T1 HL HE;rw[<-el2] at T2 HL HE;rw[<-el3] at T3 HL HE;rw[HE.o,FZ];clear HE el1 el2 el3 hp b1 b2 b3 b6 ha hr1 hr2;go_enter Tryz.func148,Tryz.ntmps148
 go_wp2
 obtain⟨W,eW⟩:=Ak (w.alloc (.cells #[.string ⟨q.c.1.toArray⟩,.string ⟨q.c.2.toArray⟩,.string ⟨q.t.s.1.toArray⟩,.string ⟨q.t.s.2.toArray⟩,.int .i64 q.t.k,.slice A1 q.t.b.length c1,.slice A2 q.b.length c2] 43));rw[<-eW] at HB HK⊢;clear eW;replace HK:=I (show Blk W.drew _ _ _ from HK.o.drewN 1);replace HB:=I (show Below _ _ W.drew from below_drewN HB.o 1)
 go_region_held3 (fun w'=>w'.cell? ⟨w.heap.size,0,none⟩=some (.string ⟨q.c.1.toArray⟩)/\w'.cell? ⟨w.heap.size,1,none⟩=some (.string ⟨q.c.2.toArray⟩)/\w'.cell? ⟨w.heap.size,2,none⟩=some (.string ⟨q.t.s.1.toArray⟩)/\w'.cell? ⟨w.heap.size,3,none⟩=some (.string ⟨q.t.s.2.toArray⟩)/\w'.cell? ⟨w.heap.size,4,none⟩=some (.int .i64 q.t.k)/\w'.cell? ⟨w.heap.size,5,none⟩=some (.slice A1 q.t.b.length c1)/\w'.cell? ⟨w.heap.size,6,none⟩=some (.slice A2 q.b.length c2)) (first | exact⟨HK.o.cell 0,HK.o.cell 1,HK.o.cell 2,HK.o.cell 3,HK.o.cell 4,HK.o.cell 5,HK.o.cell 6⟩ | exact⟨(HK.o.alloc _).cell 0,(HK.o.alloc _).cell 1,(HK.o.alloc _).cell 2,(HK.o.alloc _).cell 3,(HK.o.alloc _).cell 4,(HK.o.alloc _).cell 5,(HK.o.alloc _).cell 6⟩) ((first
  |(go_at_call 176;(with_reducible refine Calls.mono (T1.o _) ?_);rintro e w1 ⟨⟨g1,c1,rfl,hg1,hc1,hr1⟩,hb⟩;clear T1;have HR1:=I hr1;replace HK:=I (HK.o.below hb);replace HB:=HB.t hb;clear hb hr1 hg1 hc1)
  |(go_at_call 193;(with_reducible refine Calls.mono (T2.o _ HB.o) ?_);rintro e w2 ⟨⟨g2,c2,rfl,hg2,hc2,hr2⟩,hb⟩;clear T2;replace HR1:=I (AV HR1.o hb);have HR2:=I hr2;replace HK:=I (HK.o.below hb);replace HB:=HB.t hb;clear hb hr2 hg2 hc2)
  |(go_at_call 177;(with_reducible refine Calls.mono (T3.o _ HB.o) ?_);rintro e w3 ⟨⟨g3,c3,rfl,hg3,hc3,hr3⟩,hb⟩;clear T3;replace HR1:=I (AV HR1.o hb);replace HR2:=I (AV HR2.o hb);have HR3:=I hr3;replace HK:=I (HK.o.below hb);replace HB:=HB.t hb;clear hb hr3 hg3 hc3)
  |(go_at_call 175;refine Calls.mono (Ck 107 [l1,l2,l3] _ 3 3 (w3.heap.size+1) _ (GO HR1.o HR2.o HR3.o) rfl (by simp) HL.o (by simp)) ?_;rintro e wz ⟨⟨gz,cz,rfl,hgz,hcz,hrz⟩,hb⟩;have hal:=(Below.refl w3.heap.size w3).alloc Ag (.cells #[.slice (some ⟨g1,0,none⟩) l1.length c1,.slice (some ⟨g2,0,none⟩) l2.length c2,.slice (some ⟨g3,0,none⟩) l3.length c3] 26);have HG:=I (AZ (l:=elem 107 [l1,l2,l3].flatten) ⟨⟨gz,cz,rfl,hgz,hcz,hrz⟩,hb⟩ (HB.o.trans (hal.mono HB.o.size)));rw[FZ] at HG;replace HK:=I ((HK.o.alloc (.cells #[.slice (some ⟨g1,0,none⟩) l1.length c1,.slice (some ⟨g2,0,none⟩) l2.length c2,.slice (some ⟨g3,0,none⟩) l3.length c3] 26)).below hb);clear hal hgz hcz hrz hb)))
 go_wp2
 go_ret;exact HG.o
theorem SQ (q:Ap) (A1 A2:Option Addr) (c1 c2:Nat) (w:World) (ha:apB q=true) (hr1:Rd w w.heap.size A1 (bvs q.t.b)) (hr2:Rd w w.heap.size A2 (bvs q.a)):Calls Tryz.prog 149 #[.agg #[.string ⟨q.t.s.1.toArray⟩,.string ⟨q.t.s.2.toArray⟩,.int .i64 q.t.k,.slice A1 q.t.b.length c1,.slice A2 q.a.length c2]] w (BS w (apE q)):=by
 have HB:=I ((Below.refl w.heap.size w).alloc Ag (.cells #[.string ⟨q.t.s.1.toArray⟩,.string ⟨q.t.s.2.toArray⟩,.int .i64 q.t.k,.slice A1 q.t.b.length c1,.slice A2 q.a.length c2] 87));have HK:=I (Blk.new w 87 #[.string ⟨q.t.s.1.toArray⟩,.string ⟨q.t.s.2.toArray⟩,.int .i64 q.t.k,.slice A1 q.t.b.length c1,.slice A2 q.a.length c2]);have hp:tkB q.t=true/\Da q.a=true:=by simpa [apB] using ha
 have b2:=(Hk hp.1).1;have b3:=AD 4 q.a;have b6:=Dk hp.2;have T1:=I (fun w1 (h:Below w.heap.size w w1)=>Es q.t A1 c1 w1 hp.1 ((hr1.below h).more h.size));have T2:=I (fun w1 (h:Below w.heap.size w w1)=>CV q.a A2 q.a.length c2 w1.heap.size w1 ((hr2.below h).more h.size) rfl Ag (by omega));have HL:=I (show [tkE q.t,elem 4 q.a].flatten.length<=65535 by rw[FY];simp only[List.length_append];omega);have HE:=I (show apE q=elem 110 [tkE q.t,elem 4 q.a].flatten from rfl);obtain⟨l1,el1⟩:∃l,l=tkE q.t:=⟨_,rfl⟩;obtain⟨l2,el2⟩:∃l,l=elem 4 q.a:=⟨_,rfl⟩;rw[<-el1] at T1 HL HE;rw[<-el2] at T2 HL HE;rw[HE.o,FY];clear HE el1 el2 hp b2 b3 b6 ha hr1 hr2;go_enter Tryz.func149,Tryz.ntmps149
 go_wp2
 obtain⟨W,eW⟩:=Ak (w.alloc (.cells #[.string ⟨q.t.s.1.toArray⟩,.string ⟨q.t.s.2.toArray⟩,.int .i64 q.t.k,.slice A1 q.t.b.length c1,.slice A2 q.a.length c2] 87));rw[<-eW] at HB HK⊢;clear eW;replace HK:=I (show Blk W.drew _ _ _ from HK.o.drewN 1);replace HB:=I (show Below _ _ W.drew from below_drewN HB.o 1)
 go_region_held3 (fun w'=>w'.cell? ⟨w.heap.size,0,none⟩=some (.string ⟨q.t.s.1.toArray⟩)/\w'.cell? ⟨w.heap.size,1,none⟩=some (.string ⟨q.t.s.2.toArray⟩)/\w'.cell? ⟨w.heap.size,2,none⟩=some (.int .i64 q.t.k)/\w'.cell? ⟨w.heap.size,3,none⟩=some (.slice A1 q.t.b.length c1)/\w'.cell? ⟨w.heap.size,4,none⟩=some (.slice A2 q.a.length c2)) (first | exact⟨HK.o.cell 0,HK.o.cell 1,HK.o.cell 2,HK.o.cell 3,HK.o.cell 4⟩ | exact⟨(HK.o.alloc _).cell 0,(HK.o.alloc _).cell 1,(HK.o.alloc _).cell 2,(HK.o.alloc _).cell 3,(HK.o.alloc _).cell 4⟩) ((first
  |(go_at_call 193;(with_reducible refine Calls.mono (T1.o _ HB.o) ?_);rintro e w1 ⟨⟨g1,c1,rfl,hg1,hc1,hr1⟩,hb⟩;clear T1;have HR1:=I hr1;replace HK:=I (HK.o.below hb);replace HB:=HB.t hb;clear hb hr1 hg1 hc1)
  |(go_at_call 177;(with_reducible refine Calls.mono (T2.o _ HB.o) ?_);rintro e w2 ⟨⟨g2,c2,rfl,hg2,hc2,hr2⟩,hb⟩;clear T2;replace HR1:=I (AV HR1.o hb);have HR2:=I hr2;replace HK:=I (HK.o.below hb);replace HB:=HB.t hb;clear hb hr2 hg2 hc2)
  |(go_at_call 175;refine Calls.mono (Ck 110 [l1,l2] _ 2 2 (w2.heap.size+1) _ (KR HR1.o HR2.o) rfl (by simp) HL.o (by simp)) ?_;rintro e wz ⟨⟨gz,cz,rfl,hgz,hcz,hrz⟩,hb⟩;have hal:=(Below.refl w2.heap.size w2).alloc Ag (.cells #[.slice (some ⟨g1,0,none⟩) l1.length c1,.slice (some ⟨g2,0,none⟩) l2.length c2] 26);have HG:=I (AZ (l:=elem 110 [l1,l2].flatten) ⟨⟨gz,cz,rfl,hgz,hcz,hrz⟩,hb⟩ (HB.o.trans (hal.mono HB.o.size)));rw[FY] at HG;replace HK:=I ((HK.o.alloc (.cells #[.slice (some ⟨g1,0,none⟩) l1.length c1,.slice (some ⟨g2,0,none⟩) l2.length c2] 26)).below hb);clear hal hgz hcz hrz hb)))
 go_wp2
 go_ret;exact HG.o
theorem SR (q:Fa) (w:World):Calls Tryz.prog 150 #[.agg #[.int .i64 q.e,.int .i64 q.no]] w (BS w (faE q)):=by
 have HB:=I ((Below.refl w.heap.size w).alloc Ag (.cells #[.int .i64 q.e,.int .i64 q.no] 89));have HK:=I (Blk.new w 89 #[.int .i64 q.e,.int .i64 q.no]);have b1:=AF q.e;have b2:=AF q.no;have T1:=I (fun w1=>BR q.e w1);have T2:=I (fun w1=>BR q.no w1);have HL:=I (show [encI q.e,encI q.no].flatten.length<=65535 by rw[FY];simp only[List.length_append];omega);have HE:=I (show faE q=elem 126 [encI q.e,encI q.no].flatten from rfl);obtain⟨l1,el1⟩:∃l,l=encI q.e:=⟨_,rfl⟩;obtain⟨l2,el2⟩:∃l,l=encI q.no:=⟨_,rfl⟩;rw[<-el1] at T1 HL HE;rw[<-el2] at T2 HL HE;rw[HE.o,FY];clear HE el1 el2 b1 b2;go_enter Tryz.func150,Tryz.ntmps150
 go_wp2
 obtain⟨W,eW⟩:=Ak (w.alloc (.cells #[.int .i64 q.e,.int .i64 q.no] 89));rw[<-eW] at HB HK⊢;clear eW;replace HK:=I (show Blk W.drew _ _ _ from HK.o.drewN 1);replace HB:=I (show Below _ _ W.drew from below_drewN HB.o 1)
 go_region_held3 (fun w'=>w'.cell? ⟨w.heap.size,0,none⟩=some (.int .i64 q.e)/\w'.cell? ⟨w.heap.size,1,none⟩=some (.int .i64 q.no)) (first | exact⟨HK.o.cell 0,HK.o.cell 1⟩ | exact⟨(HK.o.alloc _).cell 0,(HK.o.alloc _).cell 1⟩) ((first
  |(go_at_call 179;(with_reducible refine Calls.mono (T1.o _) ?_);rintro e w1 ⟨⟨g1,c1,rfl,hg1,hc1,hr1⟩,hb⟩;clear T1;have HR1:=I hr1;replace HK:=I (HK.o.below hb);replace HB:=HB.t hb;clear hb hr1 hg1 hc1)
  |(go_at_call 179;(with_reducible refine Calls.mono (T2.o _) ?_);rintro e w2 ⟨⟨g2,c2,rfl,hg2,hc2,hr2⟩,hb⟩;clear T2;replace HR1:=I (AV HR1.o hb);have HR2:=I hr2;replace HK:=I (HK.o.below hb);replace HB:=HB.t hb;clear hb hr2 hg2 hc2)
  |(go_at_call 175;refine Calls.mono (Ck 126 [l1,l2] _ 2 2 (w2.heap.size+1) _ (KR HR1.o HR2.o) rfl (by simp) HL.o (by simp)) ?_;rintro e wz ⟨⟨gz,cz,rfl,hgz,hcz,hrz⟩,hb⟩;have hal:=(Below.refl w2.heap.size w2).alloc Ag (.cells #[.slice (some ⟨g1,0,none⟩) l1.length c1,.slice (some ⟨g2,0,none⟩) l2.length c2] 26);have HG:=I (AZ (l:=elem 126 [l1,l2].flatten) ⟨⟨gz,cz,rfl,hgz,hcz,hrz⟩,hb⟩ (HB.o.trans (hal.mono HB.o.size)));rw[FY] at HG;replace HK:=I ((HK.o.alloc (.cells #[.slice (some ⟨g1,0,none⟩) l1.length c1,.slice (some ⟨g2,0,none⟩) l2.length c2] 26)).below hb);clear hal hgz hcz hrz hb)))
 go_wp2
 go_ret;exact HG.o
theorem Qf (p:Rp) (w:World) (hk:p.ss.length=32) (hx:rpB p=true):Calls Tryz.prog 121 #[.agg (rpC p).toArray] w (BS w (rpE p)):=by
 have HI:=I (show(Tryz.prog.info? 180).map (·.size)=some (rpC p).toArray.size by rw[Ng hk];kernel_rfl);have CF:=I (show ∀w':World,Blk w' w.heap.size 180 (rpC p).toArray->w'.cell? ⟨w.heap.size,32,none⟩=some (.string ⟨p.s.1.toArray⟩)/\w'.cell? ⟨w.heap.size,33,none⟩=some (.string ⟨p.s.2.toArray⟩)/\w'.cell? ⟨w.heap.size,34,none⟩=some (.int .i64 p.st)/\w'.cell? ⟨w.heap.size,35,none⟩=some (.int .i64 p.en)/\w'.cell? ⟨w.heap.size,36,none⟩=some (.int .i64 p.no) from fun w' h=>Ox hk h);have T1:=I (fun w1 (h:Blk w1 w.heap.size 180 (rpC p).toArray)=>CV p.ss (some ⟨w.heap.size,0,none⟩) 32 32 w1.heap.size w1 (Zr hk h) hk.symm Ag (by omega));obtain⟨cs,ecs⟩:=Ak ((rpC p).toArray);rw[<-ecs] at HI CF T1⊢;clear ecs;have HB:=I ((Below.refl w.heap.size w).alloc Ag (.cells cs 180));have HK:=I (Blk.new w 180 cs);have hp:prB p.s=true:=(show prB p.s=true/\tmB p.st=true/\tmB p.en=true/\tmB p.no=true by simpa [rpB] using hx).1;have b1:=(Bb hp).1;have b2:=AF p.st;have b3:=AF p.en;have b4:=AF p.no;have b5:=AD 4 p.ss;have T2:=I (fun w1=>BK p.s w1 hp);have T3:=I (fun w1=>BR p.st w1);have T4:=I (fun w1=>BR p.en w1);have T5:=I (fun w1=>BR p.no w1);have HL:=I (show [elem 4 p.ss,prE p.s,encI p.st,encI p.en,encI p.no].flatten.length<=65535 by rw[Fq];simp only[List.length_append];omega);have HE:=I (show rpE p=elem 122 [elem 4 p.ss,prE p.s,encI p.st,encI p.en,encI p.no].flatten from rfl);obtain⟨l1,el1⟩:∃l,l=elem 4 p.ss:=⟨_,rfl⟩;obtain⟨l2,el2⟩:∃l,l=prE p.s:=⟨_,rfl⟩;obtain⟨l3,el3⟩:∃l,l=encI p.st:=⟨_,rfl⟩;obtain⟨l4,el4⟩:∃l,l=encI p.en:=⟨_,rfl⟩;obtain⟨l5,el5⟩:∃l,l=encI p.no:=⟨_,rfl⟩;rw[<-el1] at T1 HL HE;rw[<-el2] at T2 HL HE;rw[<-el3] at T3 HL HE;rw[<-el4] at T4 HL HE;rw[<-el5] at T5 HL HE;rw[HE.o,Fq];clear HE el1 el2 el3 el4 el5 hp b1 b2 b3 b4 b5 hk hx;go_enter Tryz.func121,Tryz.ntmps121
 go_wp2
 obtain⟨W,eW⟩:=Ak (w.alloc (.cells cs 180));rw[<-eW] at HB HK⊢;clear eW;replace HK:=I (show Blk W.drew _ _ _ from HK.o.drewN 1);replace HB:=I (show Below _ _ W.drew from below_drewN HB.o 1)
 go_region_held3 (fun w'=>w'.cell? ⟨w.heap.size,32,none⟩=some (.string ⟨p.s.1.toArray⟩)/\w'.cell? ⟨w.heap.size,33,none⟩=some (.string ⟨p.s.2.toArray⟩)/\w'.cell? ⟨w.heap.size,34,none⟩=some (.int .i64 p.st)/\w'.cell? ⟨w.heap.size,35,none⟩=some (.int .i64 p.en)/\w'.cell? ⟨w.heap.size,36,none⟩=some (.int .i64 p.no)) (first | exact CF.o _ HK.o | exact CF.o _ (HK.o.alloc _)) ((first
  |(go_at_call 177;(with_reducible refine Calls.mono (T1.o _ HK.o) ?_);rintro e w1 ⟨⟨g1,c1,rfl,hg1,hc1,hr1⟩,hb⟩;clear T1;have HR1:=I hr1;replace HK:=I (HK.o.below hb);replace HB:=HB.t hb;clear hb hr1 hg1 hc1)
  |(go_at_call 176;(with_reducible refine Calls.mono (T2.o _) ?_);rintro e w2 ⟨⟨g2,c2,rfl,hg2,hc2,hr2⟩,hb⟩;clear T2;replace HR1:=I (AV HR1.o hb);have HR2:=I hr2;replace HK:=I (HK.o.below hb);replace HB:=HB.t hb;clear hb hr2 hg2 hc2)
  |(go_at_call 179;(with_reducible refine Calls.mono (T3.o _) ?_);rintro e w3 ⟨⟨g3,c3,rfl,hg3,hc3,hr3⟩,hb⟩;clear T3;replace HR1:=I (AV HR1.o hb);replace HR2:=I (AV HR2.o hb);have HR3:=I hr3;replace HK:=I (HK.o.below hb);replace HB:=HB.t hb;clear hb hr3 hg3 hc3)
  |(go_at_call 179;(with_reducible refine Calls.mono (T4.o _) ?_);rintro e w4 ⟨⟨g4,c4,rfl,hg4,hc4,hr4⟩,hb⟩;clear T4;replace HR1:=I (AV HR1.o hb);replace HR2:=I (AV HR2.o hb);replace HR3:=I (AV HR3.o hb);have HR4:=I hr4;replace HK:=I (HK.o.below hb);replace HB:=HB.t hb;clear hb hr4 hg4 hc4)
  |(go_at_call 179;(with_reducible refine Calls.mono (T5.o _) ?_);rintro e w5 ⟨⟨g5,c5,rfl,hg5,hc5,hr5⟩,hb⟩;clear T5;replace HR1:=I (AV HR1.o hb);replace HR2:=I (AV HR2.o hb);replace HR3:=I (AV HR3.o hb);replace HR4:=I (AV HR4.o hb);have HR5:=I hr5;replace HK:=I (HK.o.below hb);replace HB:=HB.t hb;clear hb hr5 hg5 hc5)
  |(go_at_call 175;refine Calls.mono (Ck 122 [l1,l2,l3,l4,l5] _ 5 5 (w5.heap.size+1) _ (Iw HR1.o HR2.o HR3.o HR4.o HR5.o) rfl (by simp) HL.o (by simp)) ?_;rintro e wz ⟨⟨gz,cz,rfl,hgz,hcz,hrz⟩,hb⟩;have hal:=(Below.refl w5.heap.size w5).alloc Ag (.cells #[.slice (some ⟨g1,0,none⟩) l1.length c1,.slice (some ⟨g2,0,none⟩) l2.length c2,.slice (some ⟨g3,0,none⟩) l3.length c3,.slice (some ⟨g4,0,none⟩) l4.length c4,.slice (some ⟨g5,0,none⟩) l5.length c5] 26);have HG:=I (AZ (l:=elem 122 [l1,l2,l3,l4,l5].flatten) ⟨⟨gz,cz,rfl,hgz,hcz,hrz⟩,hb⟩ (HB.o.trans (hal.mono HB.o.size)));rw[Fq] at HG;replace HK:=I ((HK.o.alloc (.cells #[.slice (some ⟨g1,0,none⟩) l1.length c1,.slice (some ⟨g2,0,none⟩) l2.length c2,.slice (some ⟨g3,0,none⟩) l3.length c3,.slice (some ⟨g4,0,none⟩) l4.length c4,.slice (some ⟨g5,0,none⟩) l5.length c5] 26)).below hb);clear hal hgz hcz hrz hb)))
 go_wp2
 go_ret;exact HG.o
theorem Nr (p:Pt) (w:World) (hk:p.ss.length=32) (hx:ptB p=true):Calls Tryz.prog 119 #[.agg (ptC p).toArray] w (BS w (ptE p)):=by
 have HI:=I (show(Tryz.prog.info? 39).map (·.size)=some (ptC p).toArray.size by rw[Du hk];kernel_rfl);have CF:=I (show ∀w':World,Blk w' w.heap.size 39 (ptC p).toArray->w'.cell? ⟨w.heap.size,0,none⟩=some (.string ⟨p.c.1.toArray⟩)/\w'.cell? ⟨w.heap.size,1,none⟩=some (.string ⟨p.c.2.toArray⟩)/\w'.cell? ⟨w.heap.size,34,none⟩=some (.string ⟨p.tr.toArray⟩)/\w'.cell? ⟨w.heap.size,35,none⟩=some (.int .i64 p.st)/\w'.cell? ⟨w.heap.size,36,none⟩=some (.int .i64 p.en) from fun w' h=>Eo hk h);have T2:=I (fun w1 (h:Blk w1 w.heap.size 39 (ptC p).toArray)=>CV p.ss (some ⟨w.heap.size,2,none⟩) 32 32 w1.heap.size w1 (Ka h) hk.symm Ag (by omega));obtain⟨cs,ecs⟩:=Ak ((ptC p).toArray);rw[<-ecs] at HI CF T2⊢;clear ecs;have HB:=I ((Below.refl w.heap.size w).alloc Ag (.cells cs 39));have HK:=I (Blk.new w 39 cs);have hp:=(CY hx).2.1;have h3:=(CY hx).2.2.1;have b1:=(Bb hp).1;have b2:=AF p.st;have b3:=AF p.en;have b4:=AD 27 p.tr;have b5:=AD 4 p.ss;have T1:=I (fun w1=>BK p.c w1 hp);have T3:=I (fun w1=>Jw p.tr w1 (by omega));have T4:=I (fun w1=>BR p.st w1);have T5:=I (fun w1=>BR p.en w1);have HL:=I (show [prE p.c,elem 4 p.ss,elem 27 p.tr,encI p.st,encI p.en].flatten.length<=65535 by rw[Fq];simp only[List.length_append];omega);have HE:=I (show ptE p=elem 99 [prE p.c,elem 4 p.ss,elem 27 p.tr,encI p.st,encI p.en].flatten from rfl);obtain⟨l1,el1⟩:∃l,l=prE p.c:=⟨_,rfl⟩;obtain⟨l2,el2⟩:∃l,l=elem 4 p.ss:=⟨_,rfl⟩;obtain⟨l3,el3⟩:∃l,l=elem 27 p.tr:=⟨_,rfl⟩;obtain⟨l4,el4⟩:∃l,l=encI p.st:=⟨_,rfl⟩;obtain⟨l5,el5⟩:∃l,l=encI p.en:=⟨_,rfl⟩;rw[<-el1] at T1 HL HE;rw[<-el2] at T2 HL HE;rw[<-el3] at T3 HL HE;rw[<-el4] at T4 HL HE;rw[<-el5] at T5 HL HE;rw[HE.o,Fq];clear HE el1 el2 el3 el4 el5 hp h3 b1 b2 b3 b4 b5 hk hx;go_enter Tryz.func119,Tryz.ntmps119
 go_wp2
 obtain⟨W,eW⟩:=Ak (w.alloc (.cells cs 39));rw[<-eW] at HB HK⊢;clear eW;replace HK:=I (show Blk W.drew _ _ _ from HK.o.drewN 1);replace HB:=I (show Below _ _ W.drew from below_drewN HB.o 1)
 go_region_held3 (fun w'=>w'.cell? ⟨w.heap.size,0,none⟩=some (.string ⟨p.c.1.toArray⟩)/\w'.cell? ⟨w.heap.size,1,none⟩=some (.string ⟨p.c.2.toArray⟩)/\w'.cell? ⟨w.heap.size,34,none⟩=some (.string ⟨p.tr.toArray⟩)/\w'.cell? ⟨w.heap.size,35,none⟩=some (.int .i64 p.st)/\w'.cell? ⟨w.heap.size,36,none⟩=some (.int .i64 p.en)) (first | exact CF.o _ HK.o | exact CF.o _ (HK.o.alloc _)) ((first
  |(go_at_call 176;(with_reducible refine Calls.mono (T1.o _) ?_);rintro e w1 ⟨⟨g1,c1,rfl,hg1,hc1,hr1⟩,hb⟩;clear T1;have HR1:=I hr1;replace HK:=I (HK.o.below hb);replace HB:=HB.t hb;clear hb hr1 hg1 hc1)
  |(go_at_call 177;(with_reducible refine Calls.mono (T2.o _ HK.o) ?_);rintro e w2 ⟨⟨g2,c2,rfl,hg2,hc2,hr2⟩,hb⟩;clear T2;replace HR1:=I (AV HR1.o hb);have HR2:=I hr2;replace HK:=I (HK.o.below hb);replace HB:=HB.t hb;clear hb hr2 hg2 hc2)
  |(go_at_call 178;(with_reducible refine Calls.mono (T3.o _) ?_);rintro e w3 ⟨⟨g3,c3,rfl,hg3,hc3,hr3⟩,hb⟩;clear T3;replace HR1:=I (AV HR1.o hb);replace HR2:=I (AV HR2.o hb);have HR3:=I hr3;replace HK:=I (HK.o.below hb);replace HB:=HB.t hb;clear hb hr3 hg3 hc3)
  |(go_at_call 179;(with_reducible refine Calls.mono (T4.o _) ?_);rintro e w4 ⟨⟨g4,c4,rfl,hg4,hc4,hr4⟩,hb⟩;clear T4;replace HR1:=I (AV HR1.o hb);replace HR2:=I (AV HR2.o hb);replace HR3:=I (AV HR3.o hb);have HR4:=I hr4;replace HK:=I (HK.o.below hb);replace HB:=HB.t hb;clear hb hr4 hg4 hc4)
  |(go_at_call 179;(with_reducible refine Calls.mono (T5.o _) ?_);rintro e w5 ⟨⟨g5,c5,rfl,hg5,hc5,hr5⟩,hb⟩;clear T5;replace HR1:=I (AV HR1.o hb);replace HR2:=I (AV HR2.o hb);replace HR3:=I (AV HR3.o hb);replace HR4:=I (AV HR4.o hb);have HR5:=I hr5;replace HK:=I (HK.o.below hb);replace HB:=HB.t hb;clear hb hr5 hg5 hc5)
  |(go_at_call 175;refine Calls.mono (Ck 99 [l1,l2,l3,l4,l5] _ 5 5 (w5.heap.size+1) _ (Iw HR1.o HR2.o HR3.o HR4.o HR5.o) rfl (by simp) HL.o (by simp)) ?_;rintro e wz ⟨⟨gz,cz,rfl,hgz,hcz,hrz⟩,hb⟩;have hal:=(Below.refl w5.heap.size w5).alloc Ag (.cells #[.slice (some ⟨g1,0,none⟩) l1.length c1,.slice (some ⟨g2,0,none⟩) l2.length c2,.slice (some ⟨g3,0,none⟩) l3.length c3,.slice (some ⟨g4,0,none⟩) l4.length c4,.slice (some ⟨g5,0,none⟩) l5.length c5] 26);have HG:=I (AZ (l:=elem 99 [l1,l2,l3,l4,l5].flatten) ⟨⟨gz,cz,rfl,hgz,hcz,hrz⟩,hb⟩ (HB.o.trans (hal.mono HB.o.size)));rw[Fq] at HG;replace HK:=I ((HK.o.alloc (.cells #[.slice (some ⟨g1,0,none⟩) l1.length c1,.slice (some ⟨g2,0,none⟩) l2.length c2,.slice (some ⟨g3,0,none⟩) l3.length c3,.slice (some ⟨g4,0,none⟩) l4.length c4,.slice (some ⟨g5,0,none⟩) l5.length c5] 26)).below hb);clear hal hgz hcz hrz hb)))
 go_wp2
 go_ret;exact HG.o
end Mc
namespace Mc
open Go.RowKit Af DerP Ms
def trB (l:L):Bool:=decide (l.length<=300)&&txtB l
def ptB' (p:Pt):Bool:=prB p.c&&(trB p.tr&&(tmB p.st&&tmB p.en))
theorem ZH (p:Pt):ptB' p=ptB p:=by
 unfold ptB' ptB trB;cases txtB p.tr<;>cases prB p.c<;>cases decide (p.tr.length<=300)<;>rfl
theorem txtf {l:L} {k:Nat} (h:k<l.length) (hb:l[k].toNat<32\/126<l[k].toNat):txtB l=false:=Nh h hb
section
attribute [local go_sem] Ex List.getElem_cons_zero List.getElem_cons_succ
theorem La (l:L) (w:World) (ht:l.length<=1000000000):Calls Tryz.prog 173 #[.string ⟨l.toArray⟩] w fun e w'=>e=.returned (.bool (trB l))/\w=w':=by
 by_cases h3:l.length<=300
 ·have g3:decide ((300:Int)<(l.length:Int))=false:=decide_eq_false (by omega)
  have E3:=I (show trB l=txtB l by rw[trB,decide_eq_true h3];rfl);rw[E3.o];clear h3;go_enter Tryz.func173,Tryz.ntmps173
  go_wp2
  go_loop [9] (fun iv=>∃k:Nat,k<=l.length/\iv=.int .i64 (k:Int)/\FitT l k) (fun iv=>l.length - (intOf iv).toNat)
  case atStart=>exact⟨0,Nat.zero_le _,rfl,fun i _ h=>by omega⟩
  case round=>
   obtain⟨k,hk2,rfl,hf⟩:=hrel;have HF:=I hf;clear hf
   by_cases hlt:k<l.length
   ·have e1:(k:Int)<(l.length:Int):=by omega
    by_cases b1:l[k].toNat<32
    ·have E:=I (txtf hlt (Or.inl b1))
     have b1':decide ((l[k].toNat:Int)<32)=true:=by simp;omega
     clear b1
     go_wp2
     go_ret;exact⟨by rw[E.o];rfl,rfl⟩
    ·have b1':decide ((l[k].toNat:Int)<32)=false:=by simp;omega
     by_cases b2:126<l[k].toNat
     ·have E:=I (txtf hlt (Or.inr b2))
      have b2':decide (126<(l[k].toNat:Int))=true:=by simp;omega
      clear b1 b2
      go_wp2
      go_ret;exact⟨by rw[E.o];rfl,rfl⟩
     ·have b2':decide (126<(l[k].toNat:Int))=false:=by simp;omega
      have HP:=I (show 32<=l[k].toNat/\l[k].toNat<=126 from⟨by omega,by omega⟩);clear b1 b2
      go_wp2
      go_round
      case rel=>exact⟨k+1,by omega,by go_num,fun i hi hik=>by
       by_cases q:i=k
       ·subst q;exact HP.o
       ·exact HF.o i hi (by omega)⟩
      case measure=>simp [intOf];omega
   ·have HT:=I (Su (fun i hi _=>HF.o i hi (by omega)))
    have e1:¬(k:Int)<(l.length:Int):=by omega
    clear HF
    go_wp2
    go_ret;exact⟨by rw[HT.o];rfl,rfl⟩
 ·have g3:decide ((300:Int)<(l.length:Int))=true:=decide_eq_true (by omega)
  have E:=I (show trB l=false by rw[trB,decide_eq_false h3];rfl);clear h3;go_enter Tryz.func173,Tryz.ntmps173
  go_wp2
  go_ret;exact⟨by rw[E.o];rfl,rfl⟩
end
theorem SS (p:Rp) (w:World) (hk:p.ss.length=32) (hs:pSm p.s):Calls Tryz.prog 120 #[.agg (rpC p).toArray] w fun e w'=>e=.returned (.bool (rpB p))/\Below w.heap.size w w':=by
 have HI:=I (show(Tryz.prog.info? 180).map (·.size)=some (rpC p).toArray.size by rw[Ng hk];kernel_rfl);have CF:=I (show ∀w':World,Blk w' w.heap.size 180 (rpC p).toArray->w'.cell? ⟨w.heap.size,32,none⟩=some (.string ⟨p.s.1.toArray⟩)/\w'.cell? ⟨w.heap.size,33,none⟩=some (.string ⟨p.s.2.toArray⟩)/\w'.cell? ⟨w.heap.size,34,none⟩=some (.int .i64 p.st)/\w'.cell? ⟨w.heap.size,35,none⟩=some (.int .i64 p.en)/\w'.cell? ⟨w.heap.size,36,none⟩=some (.int .i64 p.no) from fun w' h=>Ox hk h);obtain⟨cs,ecs⟩:=Ak ((rpC p).toArray);rw[<-ecs] at HI CF⊢;clear ecs;have HB:=I ((Below.refl w.heap.size w).alloc Ag (.cells cs 180));have HK:=I (Blk.new w 180 cs);have T1:=I (fun w1=>AX p.s w1 hs.1 hs.2);have T2:=I (fun w1=>Er p.st w1);have T3:=I (fun w1=>Er p.en w1);have T4:=I (fun w1=>FB p.no w1);obtain⟨k0,k1,k2,k3,k4⟩:=CF.o _ HK.o;cases h1:prB p.s with
 |false=>
  rw[h1] at T1;have E:=I (show rpB p=false by rw[rpB,h1];rfl);clear h1;go_enter Tryz.func120,Tryz.ntmps120
  go_wp2_with (go_at_call 42;(with_reducible refine Calls.mono (T1.o _) ?_);rintro e w1 ⟨rfl,hb⟩;replace HK:=I (HK.o.below hb);replace HB:=HB.t hb;clear hb T1;(try clear k0 k1 k2 k3 k4);obtain⟨k0,k1,k2,k3,k4⟩:=CF.o _ HK.o)
  go_ret;exact⟨by rw[E.o];rfl,HB.o⟩
 |true=>
  rw[h1] at T1;cases h2:tmB p.st with
  |false=>
   rw[h2] at T2;have E:=I (show rpB p=false by rw[rpB,h1,h2];rfl);clear h1 h2;go_enter Tryz.func120,Tryz.ntmps120
   go_wp2_with (first
    |(go_at_call 42;(with_reducible refine Calls.mono (T1.o _) ?_);rintro e w1 ⟨rfl,hb⟩;replace HK:=I (HK.o.below hb);replace HB:=HB.t hb;clear hb T1;(try clear k0 k1 k2 k3 k4);obtain⟨k0,k1,k2,k3,k4⟩:=CF.o _ HK.o)
    |(go_at_call 174;(with_reducible refine Calls.mono (T2.o _) ?_);rintro e w2 ⟨rfl,hw⟩;subst hw;clear T2))
   go_ret;exact⟨by rw[E.o];rfl,HB.o⟩
  |true=>
   rw[h2] at T2;cases h3:tmB p.en with
   |false=>
    rw[h3] at T3;have E:=I (show rpB p=false by rw[rpB,h1,h2,h3];rfl);clear h1 h2 h3;go_enter Tryz.func120,Tryz.ntmps120
    go_wp2_with (first
     |(go_at_call 42;(with_reducible refine Calls.mono (T1.o _) ?_);rintro e w1 ⟨rfl,hb⟩;replace HK:=I (HK.o.below hb);replace HB:=HB.t hb;clear hb T1;(try clear k0 k1 k2 k3 k4);obtain⟨k0,k1,k2,k3,k4⟩:=CF.o _ HK.o)
     |(go_at_call 174;(with_reducible refine Calls.mono (T2.o _) ?_);rintro e w2 ⟨rfl,hw⟩;subst hw;clear T2)
     |(go_at_call 174;(with_reducible refine Calls.mono (T3.o _) ?_);rintro e w3 ⟨rfl,hw⟩;subst hw;clear T3))
    go_ret;exact⟨by rw[E.o];rfl,HB.o⟩
   |true=>
    rw[h3] at T3;have E:=I (show rpB p=tmB p.no by rw[rpB,h1,h2,h3];rfl);clear h1 h2 h3;go_enter Tryz.func120,Tryz.ntmps120
    go_wp2_with (first
     |(go_at_call 42;(with_reducible refine Calls.mono (T1.o _) ?_);rintro e w1 ⟨rfl,hb⟩;replace HK:=I (HK.o.below hb);replace HB:=HB.t hb;clear hb T1;(try clear k0 k1 k2 k3 k4);obtain⟨k0,k1,k2,k3,k4⟩:=CF.o _ HK.o)
     |(go_at_call 174;(with_reducible refine Calls.mono (T2.o _) ?_);rintro e w2 ⟨rfl,hw⟩;subst hw;clear T2)
     |(go_at_call 174;(with_reducible refine Calls.mono (T3.o _) ?_);rintro e w3 ⟨rfl,hw⟩;subst hw;clear T3)
     |(go_at_call 180;(with_reducible refine Calls.mono (T4.o _) ?_);rintro e w4 ⟨rfl,hw⟩;subst hw;clear T4))
    go_ret;exact⟨by rw[E.o];rfl,HB.o⟩
theorem Nt (p:Pt) (w:World) (hk:p.ss.length=32) (hs:pSm p.c) (ht:p.tr.length<=1000000000):Calls Tryz.prog 118 #[.agg (ptC p).toArray] w fun e w'=>e=.returned (.bool (ptB' p))/\Below w.heap.size w w':=by
 have HI:=I (show(Tryz.prog.info? 39).map (·.size)=some (ptC p).toArray.size by rw[Du hk];kernel_rfl);have CF:=I (show ∀w':World,Blk w' w.heap.size 39 (ptC p).toArray->w'.cell? ⟨w.heap.size,0,none⟩=some (.string ⟨p.c.1.toArray⟩)/\w'.cell? ⟨w.heap.size,1,none⟩=some (.string ⟨p.c.2.toArray⟩)/\w'.cell? ⟨w.heap.size,34,none⟩=some (.string ⟨p.tr.toArray⟩)/\w'.cell? ⟨w.heap.size,35,none⟩=some (.int .i64 p.st)/\w'.cell? ⟨w.heap.size,36,none⟩=some (.int .i64 p.en) from fun w' h=>Eo hk h);obtain⟨cs,ecs⟩:=Ak ((ptC p).toArray);rw[<-ecs] at HI CF⊢;clear ecs;have HB:=I ((Below.refl w.heap.size w).alloc Ag (.cells cs 39));have HK:=I (Blk.new w 39 cs);have T1:=I (fun w1=>AX p.c w1 hs.1 hs.2);have T2:=I (fun w1=>La p.tr w1 ht);have T3:=I (fun w1=>Er p.st w1);have T4:=I (fun w1=>Er p.en w1);obtain⟨k0,k1,k2,k3,k4⟩:=CF.o _ HK.o;cases h1:prB p.c with
 |false=>
  rw[h1] at T1;have E:=I (show ptB' p=false by rw[ptB',h1];rfl);clear h1;go_enter Tryz.func118,Tryz.ntmps118
  go_wp2_with (go_at_call 42;(with_reducible refine Calls.mono (T1.o _) ?_);rintro e w1 ⟨rfl,hb⟩;replace HK:=I (HK.o.below hb);replace HB:=HB.t hb;clear hb T1;(try clear k0 k1 k2 k3 k4);obtain⟨k0,k1,k2,k3,k4⟩:=CF.o _ HK.o)
  go_ret;exact⟨by rw[E.o];rfl,HB.o⟩
 |true=>
  rw[h1] at T1;cases h2:trB p.tr with
  |false=>
   rw[h2] at T2;have E:=I (show ptB' p=false by rw[ptB',h1,h2];rfl);clear h1 h2;go_enter Tryz.func118,Tryz.ntmps118
   go_wp2_with (first
    |(go_at_call 42;(with_reducible refine Calls.mono (T1.o _) ?_);rintro e w1 ⟨rfl,hb⟩;replace HK:=I (HK.o.below hb);replace HB:=HB.t hb;clear hb T1;(try clear k0 k1 k2 k3 k4);obtain⟨k0,k1,k2,k3,k4⟩:=CF.o _ HK.o)
    |(go_at_call 173;(with_reducible refine Calls.mono (T2.o _) ?_);rintro e w2 ⟨rfl,hw⟩;subst hw;clear T2))
   go_ret;exact⟨by rw[E.o];rfl,HB.o⟩
  |true=>
   rw[h2] at T2;cases h3:tmB p.st with
   |false=>
    rw[h3] at T3;have E:=I (show ptB' p=false by rw[ptB',h1,h2,h3];rfl);clear h1 h2 h3;go_enter Tryz.func118,Tryz.ntmps118
    go_wp2_with (first
     |(go_at_call 42;(with_reducible refine Calls.mono (T1.o _) ?_);rintro e w1 ⟨rfl,hb⟩;replace HK:=I (HK.o.below hb);replace HB:=HB.t hb;clear hb T1;(try clear k0 k1 k2 k3 k4);obtain⟨k0,k1,k2,k3,k4⟩:=CF.o _ HK.o)
     |(go_at_call 173;(with_reducible refine Calls.mono (T2.o _) ?_);rintro e w2 ⟨rfl,hw⟩;subst hw;clear T2)
     |(go_at_call 174;(with_reducible refine Calls.mono (T3.o _) ?_);rintro e w3 ⟨rfl,hw⟩;subst hw;clear T3))
    go_ret;exact⟨by rw[E.o];rfl,HB.o⟩
   |true=>
    rw[h3] at T3;have E:=I (show ptB' p=tmB p.en by rw[ptB',h1,h2,h3];rfl);clear h1 h2 h3;go_enter Tryz.func118,Tryz.ntmps118
    go_wp2_with (first
     |(go_at_call 42;(with_reducible refine Calls.mono (T1.o _) ?_);rintro e w1 ⟨rfl,hb⟩;replace HK:=I (HK.o.below hb);replace HB:=HB.t hb;clear hb T1;(try clear k0 k1 k2 k3 k4);obtain⟨k0,k1,k2,k3,k4⟩:=CF.o _ HK.o)
     |(go_at_call 173;(with_reducible refine Calls.mono (T2.o _) ?_);rintro e w2 ⟨rfl,hw⟩;subst hw;clear T2)
     |(go_at_call 174;(with_reducible refine Calls.mono (T3.o _) ?_);rintro e w3 ⟨rfl,hw⟩;subst hw;clear T3)
     |(go_at_call 174;(with_reducible refine Calls.mono (T4.o _) ?_);rintro e w4 ⟨rfl,hw⟩;subst hw;clear T4))
    go_ret;exact⟨by rw[E.o];rfl,HB.o⟩
theorem Qg (p:Pt) (w:World) (hk:p.ss.length=32) (hs:pSm p.c) (ht:p.tr.length<=1000000000):Calls Tryz.prog 118 #[.agg (ptC p).toArray] w fun e w'=>e=.returned (.bool (ptB p))/\Below w.heap.size w w':=by
 rw[<-ZH];exact Nt p w hk hs ht
open DerR
theorem FW (l:L) (A:Option Addr) (n c:Nat) (w:World) (hn:n=l.length) (h:l.length<=2000):Calls Tryz.prog 102 #[.slice A n c] w fun e w'=>e=.returned (.tuple #[.slice A n c,.int .i64 0])/\w=w':=by
 subst hn;have t1:decide ((2000:Int)<(l.length:Int))=false:=decide_eq_false (by omega);clear h;go_enter Tryz.func102,Tryz.ntmps102
 go_wp2
 go_ret2
 exact⟨rfl,rfl⟩
theorem ZI {a:An} (ha:anB a=true):(anE a).length<=2000:=by
 have hp:prB a.c=true/\tmB a.t=true/\tmB a.q=true:=by simpa [anB] using ha
 have b1:=(Bb hp.1).1;have b2:=AF a.t;have b3:=AF a.q;have:=AD 98 [prE a.c,encI a.t,encI a.q].flatten;rw[anE];rw[FZ] at this⊢;simp only[List.length_append] at this;omega
theorem ZJ {p:Rp} (hk:p.ss.length=32) (hx:rpB p=true):(rpE p).length<=2000:=by
 have hp:prB p.s=true:=(show prB p.s=true/\tmB p.st=true/\tmB p.en=true/\tmB p.no=true by simpa [rpB] using hx).1;have b1:=(Bb hp).1;have b2:=AF p.st;have b3:=AF p.en;have b4:=AF p.no;have b5:=AD 4 p.ss;have:=AD 122 [elem 4 p.ss,prE p.s,encI p.st,encI p.en,encI p.no].flatten;rw[rpE];rw[Fq] at this⊢;simp only[List.length_append] at this;omega
theorem ZK {p:Pt} (hk:p.ss.length=32) (hx:ptB p=true):(ptE p).length<=2000:=by
 have hp:=(CY hx).2.1;have h3:=(CY hx).2.2.1;have b1:=(Bb hp).1;have b2:=AF p.st;have b3:=AF p.en;have b4:=AD 27 p.tr;have b5:=AD 4 p.ss;have:=AD 99 [prE p.c,elem 4 p.ss,elem 27 p.tr,encI p.st,encI p.en].flatten;rw[ptE];rw[Fq] at this⊢;simp only[List.length_append] at this;omega
theorem Mi (a:An) (w:World) (hs:pSm a.c):Calls Tryz.prog 112 #[.agg #[.string ⟨a.c.1.toArray⟩,.string ⟨a.c.2.toArray⟩,.int .i64 a.t,.int .i64 a.q]] w (EncR w (anO a)):=by
 have HI:=I (show(Tryz.prog.info? 41).map (·.size)=some (#[.string ⟨a.c.1.toArray⟩,.string ⟨a.c.2.toArray⟩,.int .i64 a.t,.int .i64 a.q]:Array Value).size by kernel_rfl);have I1:=I (fun w1=>Nq a w1 hs);have T0:=I (fun(hx:anB a=true)=>fun w1=>Mh a w1 hx);have HLEN:=I (fun(hx:anB a=true)=>ZI hx);obtain⟨cs,ecs⟩:∃cs:Array Value,cs=#[.string ⟨a.c.1.toArray⟩,.string ⟨a.c.2.toArray⟩,.int .i64 a.t,.int .i64 a.q]:=⟨_,rfl⟩;rw[<-ecs] at HI I1 T0⊢;clear ecs;have HB:=I ((Below.refl w.heap.size w).alloc Ag (.cells cs 41));have HK:=I (Blk.new w 41 cs);cases hx:anB a with
 |false=>
  rw[hx] at I1;have E:=I (show anO a=none by unfold anO limO;rw[hx];rfl);rw[E.o];clear hx E T0 HLEN hs;go_enter Tryz.func112,Tryz.ntmps112
  go_wp2_with (first
   |(refine Am (by rfl) 41 (.tmp 1) (by rfl) w.heap.size 0 (by rfl) cs _ (Ae HK.o) Tryz.underlying41 (by rfl) HI.o ?_)
   |(go_at_call 162;refine Aj (I1.o _) ?_;rintro w1 hb;replace HB:=HB.t hb;clear hb I1)
   |fail)
  go_ret2
  exact FQ HB.o
 |true=>
  rw[hx] at I1;have T1:=I (T0.o hx);have hlm:=HLEN.o hx;have E:=I (show anO a=some (anE a) from CS.2 ⟨hx,hlm,rfl⟩);rw[E.o];obtain⟨l,el⟩:=Ak (anE a);rw[<-el] at T1 hlm⊢;have LM:=I (fun A c w1=>FW l A _ c w1 rfl hlm);clear hx E el hlm T0 HLEN hs;go_enter Tryz.func112,Tryz.ntmps112
  go_wp2_with (first
   |(refine Am (by rfl) 41 (.tmp 1) (by rfl) w.heap.size 0 (by rfl) cs _ (Ae HK.o) Tryz.underlying41 (by rfl) HI.o ?_)
   |(go_at_call 162;refine Aj (I1.o _) ?_;rintro w1 hb;replace HK:=I (HK.o.below hb);replace HB:=HB.t hb;clear hb I1)
   |(go_at_call 163;refine Calls.mono (T1.o _) ?_;rintro e w2 ⟨⟨g,c,rfl,h2,h3,h4⟩,hb⟩;have HG:=I (AZ (l:=l) ⟨⟨g,c,rfl,h2,h3,h4⟩,hb⟩ HB.o);clear h2 h3 h4 hb T1)
   |(go_at_call 102;refine Aj (LM.o _ _ _) ?_;rintro wy rfl;clear LM)
   |fail)
  go_ret2
  exact FR HG.o
theorem Qh (p:Rp) (w:World) (hk:p.ss.length=32) (hs:pSm p.s):Calls Tryz.prog 73 #[.agg (rpC p).toArray] w (EncR w (rpO p)):=by
 have HI:=I (show(Tryz.prog.info? 180).map (·.size)=some ((rpC p).toArray:Array Value).size by rw[Ng hk];kernel_rfl);have I1:=I (fun w1=>SS p w1 hk hs);have T0:=I (fun(hx:rpB p=true)=>fun w1=>Qf p w1 hk hx);have HLEN:=I (fun(hx:rpB p=true)=>ZJ hk hx);obtain⟨cs,ecs⟩:∃cs:Array Value,cs=(rpC p).toArray:=⟨_,rfl⟩;rw[<-ecs] at HI I1 T0⊢;clear ecs;have HB:=I ((Below.refl w.heap.size w).alloc Ag (.cells cs 180));have HK:=I (Blk.new w 180 cs);cases hx:rpB p with
 |false=>
  rw[hx] at I1;have E:=I (show rpO p=none by unfold rpO limO;rw[hx];rfl);rw[E.o];clear hx E T0 HLEN hs hk;go_enter Tryz.func73,Tryz.ntmps73
  go_wp2_with (first
   |(refine Am (by rfl) 180 (.tmp 1) (by rfl) w.heap.size 0 (by rfl) cs _ (Ae HK.o) Tryz.underlying180 (by rfl) HI.o ?_)
   |(go_at_call 120;refine Aj (I1.o _) ?_;rintro w1 hb;replace HB:=HB.t hb;clear hb I1)
   |fail)
  go_ret2
  exact FQ HB.o
 |true=>
  rw[hx] at I1;have T1:=I (T0.o hx);have hlm:=HLEN.o hx;have E:=I (show rpO p=some (rpE p) from CS.2 ⟨hx,hlm,rfl⟩);rw[E.o];obtain⟨l,el⟩:=Ak (rpE p);rw[<-el] at T1 hlm⊢;have LM:=I (fun A c w1=>FW l A _ c w1 rfl hlm);clear hx E el hlm T0 HLEN hs hk;go_enter Tryz.func73,Tryz.ntmps73
  go_wp2_with (first
   |(refine Am (by rfl) 180 (.tmp 1) (by rfl) w.heap.size 0 (by rfl) cs _ (Ae HK.o) Tryz.underlying180 (by rfl) HI.o ?_)
   |(go_at_call 120;refine Aj (I1.o _) ?_;rintro w1 hb;replace HK:=I (HK.o.below hb);replace HB:=HB.t hb;clear hb I1)
   |(go_at_call 121;refine Calls.mono (T1.o _) ?_;rintro e w2 ⟨⟨g,c,rfl,h2,h3,h4⟩,hb⟩;have HG:=I (AZ (l:=l) ⟨⟨g,c,rfl,h2,h3,h4⟩,hb⟩ HB.o);clear h2 h3 h4 hb T1)
   |(go_at_call 102;refine Aj (LM.o _ _ _) ?_;rintro wy rfl;clear LM)
   |fail)
  go_ret2
  exact FR HG.o
theorem Jx (p:Pt) (w:World) (hk:p.ss.length=32) (hs:pSm p.c) (ht:p.tr.length<=1000000000):Calls Tryz.prog 72 #[.agg (ptC p).toArray] w (EncR w (ptO p)):=by
 have HI:=I (show(Tryz.prog.info? 39).map (·.size)=some ((ptC p).toArray:Array Value).size by rw[Du hk];kernel_rfl);have I1:=I (fun w1=>Qg p w1 hk hs ht);have T0:=I (fun(hx:ptB p=true)=>fun w1=>Nr p w1 hk hx);have HLEN:=I (fun(hx:ptB p=true)=>ZK hk hx);obtain⟨cs,ecs⟩:∃cs:Array Value,cs=(ptC p).toArray:=⟨_,rfl⟩;rw[<-ecs] at HI I1 T0⊢;clear ecs;have HB:=I ((Below.refl w.heap.size w).alloc Ag (.cells cs 39));have HK:=I (Blk.new w 39 cs);cases hx:ptB p with
 |false=>
  rw[hx] at I1;have E:=I (show ptO p=none by unfold ptO limO;rw[hx];rfl);rw[E.o];clear hx E T0 HLEN hs hk ht;go_enter Tryz.func72,Tryz.ntmps72
  go_wp2_with (first
   |(refine Am (by rfl) 39 (.tmp 1) (by rfl) w.heap.size 0 (by rfl) cs _ (Ae HK.o) Tryz.underlying39 (by rfl) HI.o ?_)
   |(go_at_call 118;refine Aj (I1.o _) ?_;rintro w1 hb;replace HB:=HB.t hb;clear hb I1)
   |fail)
  go_ret2
  exact FQ HB.o
 |true=>
  rw[hx] at I1;have T1:=I (T0.o hx);have hlm:=HLEN.o hx;have E:=I (show ptO p=some (ptE p) from CS.2 ⟨hx,hlm,rfl⟩);rw[E.o];obtain⟨l,el⟩:=Ak (ptE p);rw[<-el] at T1 hlm⊢;have LM:=I (fun A c w1=>FW l A _ c w1 rfl hlm);clear hx E el hlm T0 HLEN hs hk ht;go_enter Tryz.func72,Tryz.ntmps72
  go_wp2_with (first
   |(refine Am (by rfl) 39 (.tmp 1) (by rfl) w.heap.size 0 (by rfl) cs _ (Ae HK.o) Tryz.underlying39 (by rfl) HI.o ?_)
   |(go_at_call 118;refine Aj (I1.o _) ?_;rintro w1 hb;replace HK:=I (HK.o.below hb);replace HB:=HB.t hb;clear hb I1)
   |(go_at_call 119;refine Calls.mono (T1.o _) ?_;rintro e w2 ⟨⟨g,c,rfl,h2,h3,h4⟩,hb⟩;have HG:=I (AZ (l:=l) ⟨⟨g,c,rfl,h2,h3,h4⟩,hb⟩ HB.o);clear h2 h3 h4 hb T1)
   |(go_at_call 102;refine Aj (LM.o _ _ _) ?_;rintro wy rfl;clear LM)
   |fail)
  go_ret2
  exact FR HG.o
end Mc
end Go.Proofs.YtlchkbpffaclmaaGreat
