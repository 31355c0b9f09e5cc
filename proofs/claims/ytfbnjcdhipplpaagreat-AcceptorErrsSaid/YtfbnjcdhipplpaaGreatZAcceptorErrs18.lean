import Derived.Test.YtfbnjcdhipplpaaGreatZAcceptorErrs17
set_option maxHeartbeats 25600000
set_option maxRecDepth 100000
set_option linter.unusedVariables false
set_option linter.unusedSimpArgs false
namespace Go.Proofs.YtfbnjcdhipplpaaGreat
namespace OpenQ
open Go.Joins Go.ChangeShapes Go.WideShapes Go.ChangeAt Go.RowKit Go.Deep Go.Proofs.YtfbnjcdhipplpaaGreat Af Rg Se
structure Ac where
 k:Int
 p:Pr
 y:Nat->UInt8
 n:Int
def aC (a:Ac):List Value:=.int .i64 a.k :: .string ⟨a.p.1.toArray⟩ :: .string ⟨a.p.2.toArray⟩ :: ((Be a.y).toList++[.int .i64 a.n])
def RdAc (w:World) (B:Nat) (A:Option Addr) (l:List Ac):Prop:=
 l = []\/∃g o,A=some ⟨g,o,none⟩/\g<B/\∀i x,l[i]? = some x->w.rangeAt g (o+i*36) (aC x)
theorem RdAc.keep {w w':World} {B:Nat} {A:Option Addr} {l:List Ac} (h:RdAc w B A l) (hb:Below B w w'):RdAc w' B A l:=by
 rcases h with h | ⟨g,o,Z,M,h3⟩
 ·exact .inl h
 ·exact .inr ⟨g,o,Z,M,fun i x hx j v O=>(hb.cell (p:=⟨g,_,none⟩) M).trans (h3 i x hx j v O)⟩
section
variable {H:Type} {enc:TypeId×Value->H} {W:World}
end
end OpenQ
namespace Rg
open Go.RowKit Af Se OpenQ
section
variable {w:World} {g:Nat} {t:TypeId} {x:Ac}
end
section
variable {w w':World} {B r q:Nat} {v v' dv dv':Value} {es es':List Ent} {l l':List It} {g:Nat}
def Ap (r:Nat) (v:Value) (es:List Ent) (q:Nat) (dv:Value):Prop:=∀k,DO q dv k->¬RO r v es k
theorem aB (h:Ap r v es q dv) (O:DRing w B q dv l) (M:∀k,RO r v' es' k->RO r v es k\/w.heap.size<=k):Ap r v' es' q dv:=fun k hk x=>by
 rcases M k x with y | y
 ·exact h k hk y
 ·have:=O.own_lt hk;omega
theorem dq (h:Ap r v es q dv) (O:Ring w B r v es) (M:∀k,DO q dv' k->DO q dv k\/w.heap.size<=k):Ap r v es q dv':=fun k hk x=>by
 rcases M k hk with y | y
 ·exact h k y x
 ·have:=O.own_lt x;omega
theorem aD (h:Ap r v es q dv) (O:DRing w B q dv l) (M:Chg (AT r v) w w'):DRing w' B q dv l:=O.chg M (fun k hk x=>h k hk (df x))
theorem WU (h:Ap r v es q dv) (O:Ring w B r v es) (M:Chg (DO q dv) w w'):Ring w' B r v es:=O.chg M (fun k hk x=>h k x hk)
end
end Rg
namespace Ac
open Go.RowKit Af Se Kd
open Rg (It Ent Ring RO DRing DO its addL addE addN Num Ci prB)
structure Sa (w:World) (B r:Nat) (v:Value) (es:List Ent) (q:Nat) (dv:Value) (l l2:List It):Prop where
 c:Ring w B r v es
 d:DRing w B q dv l2
 e:its es=l
 z:Cz es 0
 ap:Rg.Ap r v es q dv
section
variable {w w':World} {B r q:Nat} {v dv:Value} {es:List Ent} {l l2:List It} {k:Nat->UInt8}
theorem Sa.below (h:Sa w B r v es q dv l l2) (M:Below w.heap.size w w'):Sa w' B r v es q dv l l2:=⟨h.c.below M,h.d.below M,h.e,h.z,h.ap⟩
theorem IU:pSv.1.length<=1000000000/\pSv.2.length<=1000000000:=by decide
theorem Uq:prB pSv=true:=by decide +kernel
theorem Ur {cK:Array Value} (h:Sa w B r v es q dv l l2) (hB:B<=w.heap.size) (hl:l.length<10) (hn:Num l) (eK:cK=Be k):Calls Tryz.prog 32 #[.pointer (some ⟨r,0,none⟩),Kd.prV pSv,.agg cK] w fun e w'=>
  (∃n:Int,e=.returned (.tuple #[.int .i64 n,.int .i64 0]))/\∃v' es',Sa w' B r v' es' q dv (l++[⟨pSv,Ci l pSv+1,k⟩]) l2/\Below B w w':=by
 subst eK;have hlen:es.length=l.length:=by have:=congrArg List.length h.e;rwa [Rg.Dn] at this
 have he:addE l pSv=0:=by rw[addE,if_pos Uq,if_pos (by omega)]
 have hL:addL l pSv k=l++[⟨pSv,Ci l pSv+1,k⟩]:=by rw[addL,if_pos Uq,if_pos (by omega)]
 refine(Rg.ae B r v es pSv k w h.c hB IU.1 IU.2 (by omega) (by rw[h.e];exact hn)).mono ?_;rintro e w' ⟨rfl,v',es',h1,h2,h3,Z,h5⟩;rw[h.e,he];refine⟨⟨_,rfl⟩,v',es',⟨h1,Rg.aD h.ap h.d Z,by rw[h2,h.e,hL],?_,Rg.aB h.ap h.d h5⟩,Z.below hB (fun k _ x=>h.c.own_lo (Rg.df x))⟩;rcases h3 with rfl | ⟨x,rfl,z1,z2,z3⟩
 ·exact h.z
 ·intro M O he
  by_cases g:M<es.length
  ·rw[List.getElem?_append_left g] at he
   exact h.z M O he
  ·rw[List.getElem?_append_right (by omega)] at he
   have:O=x:=by
    rcases hk:M - es.length with _ | k
    ·rw[hk] at he;injection he with he;exact he.symm
    ·rw[hk] at he;simp at he
   subst this;omega
theorem Yj {cK:Array Value} (h:Sa w B r v es q dv l l2) (hB:B<=w.heap.size) (hl:l2.length<10) (hn:Ci l2 pSv<10) (O:cK=Be k):Calls Tryz.prog 33 #[.pointer (some ⟨q,0,none⟩),Kd.prV pSv,.agg cK] w fun e w'=>
  (∃n:Int,e=.returned (.tuple #[.int .i64 n,.int .i64 0]))/\∃dv',Sa w' B r v es q dv' l (l2++[⟨pSv,Ci l2 pSv+1,k⟩])/\Below B w w':=by
 subst O;refine(Rg.ag B q dv _ pSv k w h.d hB IU.1 IU.2 Uq (by omega) (by omega)).mono ?_;rintro e w' ⟨rfl,dv',Z,M,h3⟩;exact⟨⟨_,rfl⟩,dv',⟨Rg.WU h.ap h.c M,Z,h.e,h.z,Rg.dq h.ap h.c h3⟩,M.below hB (fun k _ x=>h.d.own_lo x)⟩
theorem num_0:Num ([]:List It):=by intro j i h;simp at h
theorem num_1:Num [⟨pSv,1,k⟩]:=by
 intro j i h
 match j,h with
 |0,h=>injection h with h;subst h;rfl
theorem dr:Ci [] pSv=0:=rfl
theorem Yk:Ci [⟨pSv,1,k⟩] pSv=1:=by
 unfold Ci Rg.Gc Rg.BV;simp [Rg.numO]
end
end Ac
namespace Kd
open Go.RowKit Af Se
open Rg (It Ent Ring RO its)
def KSO (p:KP) (es:List Ent) (s:Option Ss) (j:Nat):Prop:=KO p es j\/SO s j
section
variable {w0 w w':World} {B:Nat} {p:KP} {es0 es es':List Ent} {s0 s s':Option Ss} {n i c n' i' c':Nat}
def Out (w0:World) (p:KP) (es:List Ent) (s:Option Ss) (j:Nat):Prop:=j<w0.heap.size\/KSO p es s j
end
open SeL (Cw BK Ns)
def oI:Option Nm.L->Int
 |none=>1
 |some _=>0
theorem Us {w w':World} {o:Option Nm.L} {e:Ending} (h:Ms.EncR w o e w'):∃v,e=.returned (.tuple #[v,.int .i64 (oI o)])/\SlN (fun j=>j<w.heap.size) w' v (o.getD [])/\Below w.heap.size w w':=by
 obtain⟨⟨v,i,rfl,h1,h2⟩,Z⟩:=h;cases o with
 |none=>
  obtain⟨rfl,rfl⟩:=h1 rfl;exact⟨_,rfl,⟨none,0,rfl,Nat.le_refl _,.inl rfl⟩,Z⟩
 |some l=>
  obtain⟨rfl,g,c,rfl,h3,h4,O⟩:=h2 l rfl;refine⟨_,rfl,⟨_,c,rfl,h4,?_⟩,Z⟩;rcases O with O | ⟨b,o,M,h7,h8⟩
  ·exact .inl O
  ·injection M with M
   injection M with e1 e2 _;subst e1 e2;exact .inr ⟨_,_,rfl,h7,by omega,h8⟩
section
variable {w w':World} {B:Nat} {p:KP} {es:List Ent} {s:Option Ss} {n i c:Nat}
end
end Kd
namespace Mc
open Go.RowKit Af DerP Ms
theorem AV (p:Pr) (w:World) (M:p.1.length<=1000000000) (O:p.2.length<=1000000000):Calls Tryz.prog 66 #[prV p] w fun e w'=>e=.returned (.bool (prB p))/\Below w.heap.size w w':=Nm.AV p.1 p.2 w M O
theorem Eo (n a b:Int) (w:World):Calls Tryz.prog 258 #[.int .i64 n,.int .i64 a,.int .i64 b] w fun e w'=>e=.returned (.bool (inB n a b))/\w=w':=by
 cases h1:decide (a<=n) with
 |false=>
  go_enter Tryz.func258,Tryz.ntmps258
  go_wp2
  go_ret;exact⟨by rw[inB,h1];rfl,rfl⟩
 |true=>
  go_enter Tryz.func258,Tryz.ntmps258
  go_wp2
  go_ret;exact⟨by rw[inB,h1];rfl,rfl⟩
theorem Hh (n:Int) (w:World):Calls Tryz.prog 254 #[.int .i64 n] w fun e w'=>e=.returned (.bool (tmB n))/\w=w':=by
 have c1:=Eo n 0 1073741824 w;rw[show inB n 0 1073741824=tmB n from rfl] at c1;go_enter Tryz.func254,Tryz.ntmps254
 go_wp2_with (go_at_call 258;refine Aj c1 ?_;rintro w1 rfl)
 go_ret;exact⟨rfl,rfl⟩
theorem Hi (n:Int) (w:World):Calls Tryz.prog 255 #[.int .i64 n] w fun e w'=>e=.returned (.bool (tmB n))/\w=w':=by
 have c1:=Eo n 0 1073741824 w;rw[show inB n 0 1073741824=tmB n from rfl] at c1;go_enter Tryz.func255,Tryz.ntmps255
 go_wp2_with (go_at_call 258;refine Aj c1 ?_;rintro w1 rfl)
 go_ret;exact⟨rfl,rfl⟩
theorem Gb (b:L) (A:Option Addr) (c:Nat) (w:World):Calls Tryz.prog 257 #[.slice A b.length c] w fun e w'=>e=.returned (.bool (BQ b))/\w=w':=by
 have c1:=Eo (b.length:Int) 1 800 w;rw[TR] at c1;go_enter Tryz.func257,Tryz.ntmps257
 go_wp2_with (go_at_call 258;refine Aj c1 ?_;rintro w1 rfl)
 go_ret;exact⟨rfl,rfl⟩
theorem FH (t:Tk) (A:Option Addr) (c:Nat) (w:World) (hs:pSm t.s):Calls Tryz.prog 256 #[.agg #[.string ⟨t.s.1.toArray⟩,.string ⟨t.s.2.toArray⟩,.int .i64 t.k,.slice A t.b.length c]] w fun e w'=>e=.returned (.bool (tkB t))/\Below w.heap.size w w':=by
 have av:=(Below.refl w.heap.size w).alloc Ag (.cells #[.string ⟨t.s.1.toArray⟩,.string ⟨t.s.2.toArray⟩,.int .i64 t.k,.slice A t.b.length c] 83);have Z:=I av;have M:=I (Blk.new w 83 #[.string ⟨t.s.1.toArray⟩,.string ⟨t.s.2.toArray⟩,.int .i64 t.k,.slice A t.b.length c]);clear av;have T1:=I (fun w1=>AV t.s w1 hs.1 hs.2);have T2:=I (fun w1=>Eo t.k 1 255 w1);have T3:=I (fun w1=>Gb t.b A c w1);cases h1:prB t.s with
 |false=>
  rw[h1] at T1;have E:=I (show tkB t=false by rw[tkB,h1];rfl);clear h1;go_enter Tryz.func256,Tryz.ntmps256
  go_wp2_with (go_at_call 66;(with_reducible refine Calls.mono (T1.o _) ?_);rintro e w1 ⟨rfl,O⟩;replace M:=I (M.o.below O);replace Z:=Z.t O;clear O T1;(try clear k0 k1 k2 k3);have k0:=M.o.cell 0;have k1:=M.o.cell 1;have k2:=M.o.cell 2;have k3:=M.o.cell 3;simp only[List.getElem?_toArray,List.getElem?_cons_zero,List.getElem?_cons_succ] at k0 k1 k2 k3)
  go_ret;exact⟨by rw[E.o];rfl,Z.o⟩
 |true=>
  rw[h1] at T1;cases h2:inB t.k 1 255 with
  |false=>
   rw[h2] at T2;have E:=I (show tkB t=false by rw[tkB,h1,h2];rfl);clear h1 h2;go_enter Tryz.func256,Tryz.ntmps256
   go_wp2_with (first
    |(go_at_call 66;(with_reducible refine Calls.mono (T1.o _) ?_);rintro e w1 ⟨rfl,O⟩;replace M:=I (M.o.below O);replace Z:=Z.t O;clear O T1;(try clear k0 k1 k2 k3);have k0:=M.o.cell 0;have k1:=M.o.cell 1;have k2:=M.o.cell 2;have k3:=M.o.cell 3;simp only[List.getElem?_toArray,List.getElem?_cons_zero,List.getElem?_cons_succ] at k0 k1 k2 k3)
    |(go_at_call 258;(with_reducible refine Calls.mono (T2.o _) ?_);rintro e w2 ⟨rfl,hw⟩;subst hw;clear T2))
   go_ret;exact⟨by rw[E.o];rfl,Z.o⟩
  |true=>
   rw[h2] at T2;have E:=I (show tkB t=BQ t.b by rw[tkB,h1,h2];rfl);clear h1 h2;go_enter Tryz.func256,Tryz.ntmps256
   go_wp2_with (first
    |(go_at_call 66;(with_reducible refine Calls.mono (T1.o _) ?_);rintro e w1 ⟨rfl,O⟩;replace M:=I (M.o.below O);replace Z:=Z.t O;clear O T1;(try clear k0 k1 k2 k3);have k0:=M.o.cell 0;have k1:=M.o.cell 1;have k2:=M.o.cell 2;have k3:=M.o.cell 3;simp only[List.getElem?_toArray,List.getElem?_cons_zero,List.getElem?_cons_succ] at k0 k1 k2 k3)
    |(go_at_call 258;(with_reducible refine Calls.mono (T2.o _) ?_);rintro e w2 ⟨rfl,hw⟩;subst hw;clear T2)
    |(go_at_call 257;(with_reducible refine Calls.mono (T3.o _) ?_);rintro e w3 ⟨rfl,hw⟩;subst hw;clear T3))
   go_ret;exact⟨by rw[E.o];rfl,Z.o⟩
theorem OB (a:An) (w:World) (hs:pSm a.c):Calls Tryz.prog 232 #[.agg #[.string ⟨a.c.1.toArray⟩,.string ⟨a.c.2.toArray⟩,.int .i64 a.t,.int .i64 a.q]] w fun e w'=>e=.returned (.bool (anB a))/\Below w.heap.size w w':=by
 have av:=(Below.refl w.heap.size w).alloc Ag (.cells #[.string ⟨a.c.1.toArray⟩,.string ⟨a.c.2.toArray⟩,.int .i64 a.t,.int .i64 a.q] 33);have Z:=I av;have M:=I (Blk.new w 33 #[.string ⟨a.c.1.toArray⟩,.string ⟨a.c.2.toArray⟩,.int .i64 a.t,.int .i64 a.q]);clear av;have T1:=I (fun w1=>AV a.c w1 hs.1 hs.2);have T2:=I (fun w1=>Hh a.t w1);have T3:=I (fun w1=>Hi a.q w1);cases h1:prB a.c with
 |false=>
  rw[h1] at T1;have E:=I (show anB a=false by rw[anB,h1];rfl);clear h1;go_enter Tryz.func232,Tryz.ntmps232
  go_wp2_with (go_at_call 66;(with_reducible refine Calls.mono (T1.o _) ?_);rintro e w1 ⟨rfl,O⟩;replace M:=I (M.o.below O);replace Z:=Z.t O;clear O T1;(try clear k0 k1 k2 k3);have k0:=M.o.cell 0;have k1:=M.o.cell 1;have k2:=M.o.cell 2;have k3:=M.o.cell 3;simp only[List.getElem?_toArray,List.getElem?_cons_zero,List.getElem?_cons_succ] at k0 k1 k2 k3)
  go_ret;exact⟨by rw[E.o];rfl,Z.o⟩
 |true=>
  rw[h1] at T1;cases h2:tmB a.t with
  |false=>
   rw[h2] at T2;have E:=I (show anB a=false by rw[anB,h1,h2];rfl);clear h1 h2;go_enter Tryz.func232,Tryz.ntmps232
   go_wp2_with (first
    |(go_at_call 66;(with_reducible refine Calls.mono (T1.o _) ?_);rintro e w1 ⟨rfl,O⟩;replace M:=I (M.o.below O);replace Z:=Z.t O;clear O T1;(try clear k0 k1 k2 k3);have k0:=M.o.cell 0;have k1:=M.o.cell 1;have k2:=M.o.cell 2;have k3:=M.o.cell 3;simp only[List.getElem?_toArray,List.getElem?_cons_zero,List.getElem?_cons_succ] at k0 k1 k2 k3)
    |(go_at_call 254;(with_reducible refine Calls.mono (T2.o _) ?_);rintro e w2 ⟨rfl,hw⟩;subst hw;clear T2))
   go_ret;exact⟨by rw[E.o];rfl,Z.o⟩
  |true=>
   rw[h2] at T2;have E:=I (show anB a=tmB a.q by rw[anB,h1,h2];rfl);clear h1 h2;go_enter Tryz.func232,Tryz.ntmps232
   go_wp2_with (first
    |(go_at_call 66;(with_reducible refine Calls.mono (T1.o _) ?_);rintro e w1 ⟨rfl,O⟩;replace M:=I (M.o.below O);replace Z:=Z.t O;clear O T1;(try clear k0 k1 k2 k3);have k0:=M.o.cell 0;have k1:=M.o.cell 1;have k2:=M.o.cell 2;have k3:=M.o.cell 3;simp only[List.getElem?_toArray,List.getElem?_cons_zero,List.getElem?_cons_succ] at k0 k1 k2 k3)
    |(go_at_call 254;(with_reducible refine Calls.mono (T2.o _) ?_);rintro e w2 ⟨rfl,hw⟩;subst hw;clear T2)
    |(go_at_call 255;(with_reducible refine Calls.mono (T3.o _) ?_);rintro e w3 ⟨rfl,hw⟩;subst hw;clear T3))
   go_ret;exact⟨by rw[E.o];rfl,Z.o⟩
theorem WV (q:As) (w:World) (hs:pSm q.c) (aw:pSm q.s):Calls Tryz.prog 214 #[.agg #[.string ⟨q.c.1.toArray⟩,.string ⟨q.c.2.toArray⟩,.string ⟨q.s.1.toArray⟩,.string ⟨q.s.2.toArray⟩,.int .i64 q.t,.int .i64 q.no]] w fun e w'=>e=.returned (.bool (asB q))/\Below w.heap.size w w':=by
 have av:=(Below.refl w.heap.size w).alloc Ag (.cells #[.string ⟨q.c.1.toArray⟩,.string ⟨q.c.2.toArray⟩,.string ⟨q.s.1.toArray⟩,.string ⟨q.s.2.toArray⟩,.int .i64 q.t,.int .i64 q.no] 87);have HB:=I av;have M:=I (Blk.new w 87 #[.string ⟨q.c.1.toArray⟩,.string ⟨q.c.2.toArray⟩,.string ⟨q.s.1.toArray⟩,.string ⟨q.s.2.toArray⟩,.int .i64 q.t,.int .i64 q.no]);clear av;have T1:=I (fun w1=>AV q.c w1 hs.1 hs.2);have T2:=I (fun w1=>AV q.s w1 aw.1 aw.2);have T3:=I (fun w1=>Hh q.t w1);have T4:=I (fun w1=>Hi q.no w1);cases h1:prB q.c with
 |false=>
  rw[h1] at T1;have E:=I (show asB q=false by rw[asB,h1];rfl);clear h1;go_enter Tryz.func214,Tryz.ntmps214
  go_wp2_with (go_at_call 66;(with_reducible refine Calls.mono (T1.o _) ?_);rintro e w1 ⟨rfl,O⟩;replace M:=I (M.o.below O);replace HB:=HB.t O;clear O T1;(try clear k0 k1 k2 k3 k4 Z);have k0:=M.o.cell 0;have k1:=M.o.cell 1;have k2:=M.o.cell 2;have k3:=M.o.cell 3;have k4:=M.o.cell 4;have Z:=M.o.cell 5;simp only[List.getElem?_toArray,List.getElem?_cons_zero,List.getElem?_cons_succ] at k0 k1 k2 k3 k4 Z)
  go_ret;exact⟨by rw[E.o];rfl,HB.o⟩
 |true=>
  rw[h1] at T1;cases h2:prB q.s with
  |false=>
   rw[h2] at T2;have E:=I (show asB q=false by rw[asB,h1,h2];rfl);clear h1 h2;go_enter Tryz.func214,Tryz.ntmps214
   go_wp2_with (first
    |(go_at_call 66;(with_reducible refine Calls.mono (T1.o _) ?_);rintro e w1 ⟨rfl,O⟩;replace M:=I (M.o.below O);replace HB:=HB.t O;clear O T1;(try clear k0 k1 k2 k3 k4 Z);have k0:=M.o.cell 0;have k1:=M.o.cell 1;have k2:=M.o.cell 2;have k3:=M.o.cell 3;have k4:=M.o.cell 4;have Z:=M.o.cell 5;simp only[List.getElem?_toArray,List.getElem?_cons_zero,List.getElem?_cons_succ] at k0 k1 k2 k3 k4 Z)
    |(go_at_call 66;(with_reducible refine Calls.mono (T2.o _) ?_);rintro e w2 ⟨rfl,O⟩;replace M:=I (M.o.below O);replace HB:=HB.t O;clear O T2;(try clear k0 k1 k2 k3 k4 Z);have k0:=M.o.cell 0;have k1:=M.o.cell 1;have k2:=M.o.cell 2;have k3:=M.o.cell 3;have k4:=M.o.cell 4;have Z:=M.o.cell 5;simp only[List.getElem?_toArray,List.getElem?_cons_zero,List.getElem?_cons_succ] at k0 k1 k2 k3 k4 Z))
   go_ret;exact⟨by rw[E.o];rfl,HB.o⟩
  |true=>
   rw[h2] at T2;cases h3:tmB q.t with
   |false=>
    rw[h3] at T3;have E:=I (show asB q=false by rw[asB,h1,h2,h3];rfl);clear h1 h2 h3;go_enter Tryz.func214,Tryz.ntmps214
    go_wp2_with (first
     |(go_at_call 66;(with_reducible refine Calls.mono (T1.o _) ?_);rintro e w1 ⟨rfl,O⟩;replace M:=I (M.o.below O);replace HB:=HB.t O;clear O T1;(try clear k0 k1 k2 k3 k4 Z);have k0:=M.o.cell 0;have k1:=M.o.cell 1;have k2:=M.o.cell 2;have k3:=M.o.cell 3;have k4:=M.o.cell 4;have Z:=M.o.cell 5;simp only[List.getElem?_toArray,List.getElem?_cons_zero,List.getElem?_cons_succ] at k0 k1 k2 k3 k4 Z)
     |(go_at_call 66;(with_reducible refine Calls.mono (T2.o _) ?_);rintro e w2 ⟨rfl,O⟩;replace M:=I (M.o.below O);replace HB:=HB.t O;clear O T2;(try clear k0 k1 k2 k3 k4 Z);have k0:=M.o.cell 0;have k1:=M.o.cell 1;have k2:=M.o.cell 2;have k3:=M.o.cell 3;have k4:=M.o.cell 4;have Z:=M.o.cell 5;simp only[List.getElem?_toArray,List.getElem?_cons_zero,List.getElem?_cons_succ] at k0 k1 k2 k3 k4 Z)
     |(go_at_call 254;(with_reducible refine Calls.mono (T3.o _) ?_);rintro e w3 ⟨rfl,hw⟩;subst hw;clear T3))
    go_ret;exact⟨by rw[E.o];rfl,HB.o⟩
   |true=>
    rw[h3] at T3;have E:=I (show asB q=tmB q.no by rw[asB,h1,h2,h3];rfl);clear h1 h2 h3;go_enter Tryz.func214,Tryz.ntmps214
    go_wp2_with (first
     |(go_at_call 66;(with_reducible refine Calls.mono (T1.o _) ?_);rintro e w1 ⟨rfl,O⟩;replace M:=I (M.o.below O);replace HB:=HB.t O;clear O T1;(try clear k0 k1 k2 k3 k4 Z);have k0:=M.o.cell 0;have k1:=M.o.cell 1;have k2:=M.o.cell 2;have k3:=M.o.cell 3;have k4:=M.o.cell 4;have Z:=M.o.cell 5;simp only[List.getElem?_toArray,List.getElem?_cons_zero,List.getElem?_cons_succ] at k0 k1 k2 k3 k4 Z)
     |(go_at_call 66;(with_reducible refine Calls.mono (T2.o _) ?_);rintro e w2 ⟨rfl,O⟩;replace M:=I (M.o.below O);replace HB:=HB.t O;clear O T2;(try clear k0 k1 k2 k3 k4 Z);have k0:=M.o.cell 0;have k1:=M.o.cell 1;have k2:=M.o.cell 2;have k3:=M.o.cell 3;have k4:=M.o.cell 4;have Z:=M.o.cell 5;simp only[List.getElem?_toArray,List.getElem?_cons_zero,List.getElem?_cons_succ] at k0 k1 k2 k3 k4 Z)
     |(go_at_call 254;(with_reducible refine Calls.mono (T3.o _) ?_);rintro e w3 ⟨rfl,hw⟩;subst hw;clear T3)
     |(go_at_call 255;(with_reducible refine Calls.mono (T4.o _) ?_);rintro e w4 ⟨rfl,hw⟩;subst hw;clear T4))
    go_ret;exact⟨by rw[E.o];rfl,HB.o⟩
theorem Ut (q:Tg) (A1 A2:Option Addr) (c1 c2:Nat) (w:World) (hs:pSm q.t.s) (aw:pSm q.s):Calls Tryz.prog 215 #[.agg #[.string ⟨q.t.s.1.toArray⟩,.string ⟨q.t.s.2.toArray⟩,.int .i64 q.t.k,.slice A1 q.t.b.length c1,.slice A2 q.a.length c2,.string ⟨q.s.1.toArray⟩,.string ⟨q.s.2.toArray⟩,.int .i64 q.u,.int .i64 q.no]] w fun e w'=>e=.returned (.bool (tgB q))/\Below w.heap.size w w':=by
 have av:=(Below.refl w.heap.size w).alloc Ag (.cells #[.string ⟨q.t.s.1.toArray⟩,.string ⟨q.t.s.2.toArray⟩,.int .i64 q.t.k,.slice A1 q.t.b.length c1,.slice A2 q.a.length c2,.string ⟨q.s.1.toArray⟩,.string ⟨q.s.2.toArray⟩,.int .i64 q.u,.int .i64 q.no] 89);have HB:=I av;have M:=I (Blk.new w 89 #[.string ⟨q.t.s.1.toArray⟩,.string ⟨q.t.s.2.toArray⟩,.int .i64 q.t.k,.slice A1 q.t.b.length c1,.slice A2 q.a.length c2,.string ⟨q.s.1.toArray⟩,.string ⟨q.s.2.toArray⟩,.int .i64 q.u,.int .i64 q.no]);clear av;have T1:=I (fun w1=>FH q.t A1 c1 w1 hs);have T2:=I (fun w1=>Gb q.a A2 c2 w1);have T3:=I (fun w1=>AV q.s w1 aw.1 aw.2);have T4:=I (fun w1=>Hh q.u w1);have T5:=I (fun w1=>Hi q.no w1);cases h1:tkB q.t with
 |false=>
  rw[h1] at T1;have E:=I (show tgB q=false by rw[tgB,h1];rfl);clear h1;go_enter Tryz.func215,Tryz.ntmps215
  go_wp2_with (go_at_call 256;(with_reducible refine Calls.mono (T1.o _) ?_);rintro e w1 ⟨rfl,O⟩;replace M:=I (M.o.below O);replace HB:=HB.t O;clear O T1;(try clear k0 k1 k2 Z k4 k5 k6 k7 k8);have k0:=M.o.cell 0;have k1:=M.o.cell 1;have k2:=M.o.cell 2;have Z:=M.o.cell 3;have k4:=M.o.cell 4;have k5:=M.o.cell 5;have k6:=M.o.cell 6;have k7:=M.o.cell 7;have k8:=M.o.cell 8;simp only[List.getElem?_toArray,List.getElem?_cons_zero,List.getElem?_cons_succ] at k0 k1 k2 Z k4 k5 k6 k7 k8)
  go_ret;exact⟨by rw[E.o];rfl,HB.o⟩
 |true=>
  rw[h1] at T1;cases h2:BQ q.a with
  |false=>
   rw[h2] at T2;have E:=I (show tgB q=false by rw[tgB,h1,h2];rfl);clear h1 h2;go_enter Tryz.func215,Tryz.ntmps215
   go_wp2_with (first
    |(go_at_call 256;(with_reducible refine Calls.mono (T1.o _) ?_);rintro e w1 ⟨rfl,O⟩;replace M:=I (M.o.below O);replace HB:=HB.t O;clear O T1;(try clear k0 k1 k2 Z k4 k5 k6 k7 k8);have k0:=M.o.cell 0;have k1:=M.o.cell 1;have k2:=M.o.cell 2;have Z:=M.o.cell 3;have k4:=M.o.cell 4;have k5:=M.o.cell 5;have k6:=M.o.cell 6;have k7:=M.o.cell 7;have k8:=M.o.cell 8;simp only[List.getElem?_toArray,List.getElem?_cons_zero,List.getElem?_cons_succ] at k0 k1 k2 Z k4 k5 k6 k7 k8)
    |(go_at_call 257;(with_reducible refine Calls.mono (T2.o _) ?_);rintro e w2 ⟨rfl,hw⟩;subst hw;clear T2))
   go_ret;exact⟨by rw[E.o];rfl,HB.o⟩
  |true=>
   rw[h2] at T2;cases h3:prB q.s with
   |false=>
    rw[h3] at T3;have E:=I (show tgB q=false by rw[tgB,h1,h2,h3];rfl);clear h1 h2 h3;go_enter Tryz.func215,Tryz.ntmps215
    go_wp2_with (first
     |(go_at_call 256;(with_reducible refine Calls.mono (T1.o _) ?_);rintro e w1 ⟨rfl,O⟩;replace M:=I (M.o.below O);replace HB:=HB.t O;clear O T1;(try clear k0 k1 k2 Z k4 k5 k6 k7 k8);have k0:=M.o.cell 0;have k1:=M.o.cell 1;have k2:=M.o.cell 2;have Z:=M.o.cell 3;have k4:=M.o.cell 4;have k5:=M.o.cell 5;have k6:=M.o.cell 6;have k7:=M.o.cell 7;have k8:=M.o.cell 8;simp only[List.getElem?_toArray,List.getElem?_cons_zero,List.getElem?_cons_succ] at k0 k1 k2 Z k4 k5 k6 k7 k8)
     |(go_at_call 257;(with_reducible refine Calls.mono (T2.o _) ?_);rintro e w2 ⟨rfl,hw⟩;subst hw;clear T2)
     |(go_at_call 66;(with_reducible refine Calls.mono (T3.o _) ?_);rintro e w3 ⟨rfl,O⟩;replace M:=I (M.o.below O);replace HB:=HB.t O;clear O T3;(try clear k0 k1 k2 Z k4 k5 k6 k7 k8);have k0:=M.o.cell 0;have k1:=M.o.cell 1;have k2:=M.o.cell 2;have Z:=M.o.cell 3;have k4:=M.o.cell 4;have k5:=M.o.cell 5;have k6:=M.o.cell 6;have k7:=M.o.cell 7;have k8:=M.o.cell 8;simp only[List.getElem?_toArray,List.getElem?_cons_zero,List.getElem?_cons_succ] at k0 k1 k2 Z k4 k5 k6 k7 k8))
    go_ret;exact⟨by rw[E.o];rfl,HB.o⟩
   |true=>
    rw[h3] at T3;cases h4:tmB q.u with
    |false=>
     rw[h4] at T4;have E:=I (show tgB q=false by rw[tgB,h1,h2,h3,h4];rfl);clear h1 h2 h3 h4;go_enter Tryz.func215,Tryz.ntmps215
     go_wp2_with (first
      |(go_at_call 256;(with_reducible refine Calls.mono (T1.o _) ?_);rintro e w1 ⟨rfl,O⟩;replace M:=I (M.o.below O);replace HB:=HB.t O;clear O T1;(try clear k0 k1 k2 Z k4 k5 k6 k7 k8);have k0:=M.o.cell 0;have k1:=M.o.cell 1;have k2:=M.o.cell 2;have Z:=M.o.cell 3;have k4:=M.o.cell 4;have k5:=M.o.cell 5;have k6:=M.o.cell 6;have k7:=M.o.cell 7;have k8:=M.o.cell 8;simp only[List.getElem?_toArray,List.getElem?_cons_zero,List.getElem?_cons_succ] at k0 k1 k2 Z k4 k5 k6 k7 k8)
      |(go_at_call 257;(with_reducible refine Calls.mono (T2.o _) ?_);rintro e w2 ⟨rfl,hw⟩;subst hw;clear T2)
      |(go_at_call 66;(with_reducible refine Calls.mono (T3.o _) ?_);rintro e w3 ⟨rfl,O⟩;replace M:=I (M.o.below O);replace HB:=HB.t O;clear O T3;(try clear k0 k1 k2 Z k4 k5 k6 k7 k8);have k0:=M.o.cell 0;have k1:=M.o.cell 1;have k2:=M.o.cell 2;have Z:=M.o.cell 3;have k4:=M.o.cell 4;have k5:=M.o.cell 5;have k6:=M.o.cell 6;have k7:=M.o.cell 7;have k8:=M.o.cell 8;simp only[List.getElem?_toArray,List.getElem?_cons_zero,List.getElem?_cons_succ] at k0 k1 k2 Z k4 k5 k6 k7 k8)
      |(go_at_call 254;(with_reducible refine Calls.mono (T4.o _) ?_);rintro e w4 ⟨rfl,hw⟩;subst hw;clear T4))
     go_ret;exact⟨by rw[E.o];rfl,HB.o⟩
    |true=>
     rw[h4] at T4;have E:=I (show tgB q=tmB q.no by rw[tgB,h1,h2,h3,h4];rfl);clear h1 h2 h3 h4;go_enter Tryz.func215,Tryz.ntmps215
     go_wp2_with (first
      |(go_at_call 256;(with_reducible refine Calls.mono (T1.o _) ?_);rintro e w1 ⟨rfl,O⟩;replace M:=I (M.o.below O);replace HB:=HB.t O;clear O T1;(try clear k0 k1 k2 Z k4 k5 k6 k7 k8);have k0:=M.o.cell 0;have k1:=M.o.cell 1;have k2:=M.o.cell 2;have Z:=M.o.cell 3;have k4:=M.o.cell 4;have k5:=M.o.cell 5;have k6:=M.o.cell 6;have k7:=M.o.cell 7;have k8:=M.o.cell 8;simp only[List.getElem?_toArray,List.getElem?_cons_zero,List.getElem?_cons_succ] at k0 k1 k2 Z k4 k5 k6 k7 k8)
      |(go_at_call 257;(with_reducible refine Calls.mono (T2.o _) ?_);rintro e w2 ⟨rfl,hw⟩;subst hw;clear T2)
      |(go_at_call 66;(with_reducible refine Calls.mono (T3.o _) ?_);rintro e w3 ⟨rfl,O⟩;replace M:=I (M.o.below O);replace HB:=HB.t O;clear O T3;(try clear k0 k1 k2 Z k4 k5 k6 k7 k8);have k0:=M.o.cell 0;have k1:=M.o.cell 1;have k2:=M.o.cell 2;have Z:=M.o.cell 3;have k4:=M.o.cell 4;have k5:=M.o.cell 5;have k6:=M.o.cell 6;have k7:=M.o.cell 7;have k8:=M.o.cell 8;simp only[List.getElem?_toArray,List.getElem?_cons_zero,List.getElem?_cons_succ] at k0 k1 k2 Z k4 k5 k6 k7 k8)
      |(go_at_call 254;(with_reducible refine Calls.mono (T4.o _) ?_);rintro e w4 ⟨rfl,hw⟩;subst hw;clear T4)
      |(go_at_call 255;(with_reducible refine Calls.mono (T5.o _) ?_);rintro e w5 ⟨rfl,hw⟩;subst hw;clear T5))
     go_ret;exact⟨by rw[E.o];rfl,HB.o⟩
theorem WW (q:Re) (A1 A2:Option Addr) (c1 c2:Nat) (w:World) (hs:pSm q.t.s) (aw:pSm q.c):Calls Tryz.prog 216 #[.agg #[.string ⟨q.c.1.toArray⟩,.string ⟨q.c.2.toArray⟩,.string ⟨q.t.s.1.toArray⟩,.string ⟨q.t.s.2.toArray⟩,.int .i64 q.t.k,.slice A1 q.t.b.length c1,.slice A2 q.b.length c2]] w fun e w'=>e=.returned (.bool (reB q))/\Below w.heap.size w w':=by
 have av:=(Below.refl w.heap.size w).alloc Ag (.cells #[.string ⟨q.c.1.toArray⟩,.string ⟨q.c.2.toArray⟩,.string ⟨q.t.s.1.toArray⟩,.string ⟨q.t.s.2.toArray⟩,.int .i64 q.t.k,.slice A1 q.t.b.length c1,.slice A2 q.b.length c2] 91);have HB:=I av;have M:=I (Blk.new w 91 #[.string ⟨q.c.1.toArray⟩,.string ⟨q.c.2.toArray⟩,.string ⟨q.t.s.1.toArray⟩,.string ⟨q.t.s.2.toArray⟩,.int .i64 q.t.k,.slice A1 q.t.b.length c1,.slice A2 q.b.length c2]);clear av;have T1:=I (fun w1=>AV q.c w1 aw.1 aw.2);have T2:=I (fun w1=>FH q.t A1 c1 w1 hs);have T3:=I (fun w1=>Gb q.b A2 c2 w1);cases h1:prB q.c with
 |false=>
  rw[h1] at T1;have E:=I (show reB q=false by rw[reB,h1];rfl);clear h1;go_enter Tryz.func216,Tryz.ntmps216
  go_wp2_with (go_at_call 66;(with_reducible refine Calls.mono (T1.o _) ?_);rintro e w1 ⟨rfl,O⟩;replace M:=I (M.o.below O);replace HB:=HB.t O;clear O T1;(try clear k0 k1 k2 k3 k4 Z k6);have k0:=M.o.cell 0;have k1:=M.o.cell 1;have k2:=M.o.cell 2;have k3:=M.o.cell 3;have k4:=M.o.cell 4;have Z:=M.o.cell 5;have k6:=M.o.cell 6;simp only[List.getElem?_toArray,List.getElem?_cons_zero,List.getElem?_cons_succ] at k0 k1 k2 k3 k4 Z k6)
  go_ret;exact⟨by rw[E.o];rfl,HB.o⟩
 |true=>
  rw[h1] at T1;cases h2:tkB q.t with
  |false=>
   rw[h2] at T2;have E:=I (show reB q=false by rw[reB,h1,h2];rfl);clear h1 h2;go_enter Tryz.func216,Tryz.ntmps216
   go_wp2_with (first
    |(go_at_call 66;(with_reducible refine Calls.mono (T1.o _) ?_);rintro e w1 ⟨rfl,O⟩;replace M:=I (M.o.below O);replace HB:=HB.t O;clear O T1;(try clear k0 k1 k2 k3 k4 Z k6);have k0:=M.o.cell 0;have k1:=M.o.cell 1;have k2:=M.o.cell 2;have k3:=M.o.cell 3;have k4:=M.o.cell 4;have Z:=M.o.cell 5;have k6:=M.o.cell 6;simp only[List.getElem?_toArray,List.getElem?_cons_zero,List.getElem?_cons_succ] at k0 k1 k2 k3 k4 Z k6)
    |(go_at_call 256;(with_reducible refine Calls.mono (T2.o _) ?_);rintro e w2 ⟨rfl,O⟩;replace M:=I (M.o.below O);replace HB:=HB.t O;clear O T2;(try clear k0 k1 k2 k3 k4 Z k6);have k0:=M.o.cell 0;have k1:=M.o.cell 1;have k2:=M.o.cell 2;have k3:=M.o.cell 3;have k4:=M.o.cell 4;have Z:=M.o.cell 5;have k6:=M.o.cell 6;simp only[List.getElem?_toArray,List.getElem?_cons_zero,List.getElem?_cons_succ] at k0 k1 k2 k3 k4 Z k6))
   go_ret;exact⟨by rw[E.o];rfl,HB.o⟩
  |true=>
   rw[h2] at T2;have E:=I (show reB q=BQ q.b by rw[reB,h1,h2];rfl);clear h1 h2;go_enter Tryz.func216,Tryz.ntmps216
   go_wp2_with (first
    |(go_at_call 66;(with_reducible refine Calls.mono (T1.o _) ?_);rintro e w1 ⟨rfl,O⟩;replace M:=I (M.o.below O);replace HB:=HB.t O;clear O T1;(try clear k0 k1 k2 k3 k4 Z k6);have k0:=M.o.cell 0;have k1:=M.o.cell 1;have k2:=M.o.cell 2;have k3:=M.o.cell 3;have k4:=M.o.cell 4;have Z:=M.o.cell 5;have k6:=M.o.cell 6;simp only[List.getElem?_toArray,List.getElem?_cons_zero,List.getElem?_cons_succ] at k0 k1 k2 k3 k4 Z k6)
    |(go_at_call 256;(with_reducible refine Calls.mono (T2.o _) ?_);rintro e w2 ⟨rfl,O⟩;replace M:=I (M.o.below O);replace HB:=HB.t O;clear O T2;(try clear k0 k1 k2 k3 k4 Z k6);have k0:=M.o.cell 0;have k1:=M.o.cell 1;have k2:=M.o.cell 2;have k3:=M.o.cell 3;have k4:=M.o.cell 4;have Z:=M.o.cell 5;have k6:=M.o.cell 6;simp only[List.getElem?_toArray,List.getElem?_cons_zero,List.getElem?_cons_succ] at k0 k1 k2 k3 k4 Z k6)
    |(go_at_call 257;(with_reducible refine Calls.mono (T3.o _) ?_);rintro e w3 ⟨rfl,hw⟩;subst hw;clear T3))
   go_ret;exact⟨by rw[E.o];rfl,HB.o⟩
theorem WX (q:Ap) (A1 A2:Option Addr) (c1 c2:Nat) (w:World) (hs:pSm q.t.s):Calls Tryz.prog 217 #[.agg #[.string ⟨q.t.s.1.toArray⟩,.string ⟨q.t.s.2.toArray⟩,.int .i64 q.t.k,.slice A1 q.t.b.length c1,.slice A2 q.a.length c2]] w fun e w'=>e=.returned (.bool (apB q))/\Below w.heap.size w w':=by
 have av:=(Below.refl w.heap.size w).alloc Ag (.cells #[.string ⟨q.t.s.1.toArray⟩,.string ⟨q.t.s.2.toArray⟩,.int .i64 q.t.k,.slice A1 q.t.b.length c1,.slice A2 q.a.length c2] 85);have Z:=I av;have M:=I (Blk.new w 85 #[.string ⟨q.t.s.1.toArray⟩,.string ⟨q.t.s.2.toArray⟩,.int .i64 q.t.k,.slice A1 q.t.b.length c1,.slice A2 q.a.length c2]);clear av;have T1:=I (fun w1=>FH q.t A1 c1 w1 hs);have T2:=I (fun w1=>Gb q.a A2 c2 w1);cases h1:tkB q.t with
 |false=>
  rw[h1] at T1;have E:=I (show apB q=false by rw[apB,h1];rfl);clear h1;go_enter Tryz.func217,Tryz.ntmps217
  go_wp2_with (go_at_call 256;(with_reducible refine Calls.mono (T1.o _) ?_);rintro e w1 ⟨rfl,O⟩;replace M:=I (M.o.below O);replace Z:=Z.t O;clear O T1;(try clear k0 k1 k2 k3 k4);have k0:=M.o.cell 0;have k1:=M.o.cell 1;have k2:=M.o.cell 2;have k3:=M.o.cell 3;have k4:=M.o.cell 4;simp only[List.getElem?_toArray,List.getElem?_cons_zero,List.getElem?_cons_succ] at k0 k1 k2 k3 k4)
  go_ret;exact⟨by rw[E.o];rfl,Z.o⟩
 |true=>
  rw[h1] at T1;have E:=I (show apB q=BQ q.a by rw[apB,h1];rfl);clear h1;go_enter Tryz.func217,Tryz.ntmps217
  go_wp2_with (first
   |(go_at_call 256;(with_reducible refine Calls.mono (T1.o _) ?_);rintro e w1 ⟨rfl,O⟩;replace M:=I (M.o.below O);replace Z:=Z.t O;clear O T1;(try clear k0 k1 k2 k3 k4);have k0:=M.o.cell 0;have k1:=M.o.cell 1;have k2:=M.o.cell 2;have k3:=M.o.cell 3;have k4:=M.o.cell 4;simp only[List.getElem?_toArray,List.getElem?_cons_zero,List.getElem?_cons_succ] at k0 k1 k2 k3 k4)
   |(go_at_call 257;(with_reducible refine Calls.mono (T2.o _) ?_);rintro e w2 ⟨rfl,hw⟩;subst hw;clear T2))
  go_ret;exact⟨by rw[E.o];rfl,Z.o⟩
theorem WY (q:Fa) (w:World):Calls Tryz.prog 218 #[.agg #[.int .i64 q.e,.int .i64 q.no]] w fun e w'=>e=.returned (.bool (faB q))/\Below w.heap.size w w':=by
 have O:=(Below.refl w.heap.size w).alloc Ag (.cells #[.int .i64 q.e,.int .i64 q.no] 93);have HB:=I O;have HK:=I (Blk.new w 93 #[.int .i64 q.e,.int .i64 q.no]);clear O;have M:=I (fun w1=>Eo q.e 1 255 w1);have Z:=I (fun w1=>Hi q.no w1);cases h1:inB q.e 1 255 with
 |false=>
  rw[h1] at M;have E:=I (show faB q=false by rw[faB,h1];rfl);clear h1;go_enter Tryz.func218,Tryz.ntmps218
  go_wp2_with (go_at_call 258;(with_reducible refine Calls.mono (M.o _) ?_);rintro e w1 ⟨rfl,hw⟩;subst hw;clear M)
  go_ret;exact⟨by rw[E.o];rfl,HB.o⟩
 |true=>
  rw[h1] at M;have E:=I (show faB q=tmB q.no by rw[faB,h1];rfl);clear h1;go_enter Tryz.func218,Tryz.ntmps218
  go_wp2_with (first
   |(go_at_call 258;(with_reducible refine Calls.mono (M.o _) ?_);rintro e w1 ⟨rfl,hw⟩;subst hw;clear M)
   |(go_at_call 255;(with_reducible refine Calls.mono (Z.o _) ?_);rintro e w2 ⟨rfl,hw⟩;subst hw;clear Z))
  go_ret;exact⟨by rw[E.o];rfl,HB.o⟩
open DerR
theorem IV (t:UInt8) (p:L):0<(elem t p).length:=by rw[Ey];omega
theorem JP (l:L) (w:World) (M:l.length<=65535):Calls Tryz.prog 271 #[.string ⟨l.toArray⟩] w (BY w (elem 27 l)):=
 (DerW.Ez l w M).mono fun e w' h=>by obtain⟨v,rfl,Z,O⟩:=h;exact FA Z (IV _ _) O
theorem CZ (n:Int) (w:World):Calls Tryz.prog 261 #[.int .i64 n] w (BY w (encI n)):=
 (DerW.BO n w).mono fun e w' h=>by obtain⟨v,rfl,O,M⟩:=h;exact FA O (IV _ _) M
theorem DT (l:L) (A:Option Addr) (n c B:Nat) (w:World) (hr:Rd w B A (bvs l)) (M:n=l.length) (hB:B<=w.heap.size) (Z:l.length<=65535):Calls Tryz.prog 263 #[.slice A n c] w (BY w (elem 4 l)):=
 (DerW.Dj l A n c B w hr M hB Z).mono fun e w' h=>by obtain⟨v,rfl,h1,O⟩:=h;exact FA h1 (IV _ _) O
theorem Da (t:UInt8) (ls:List L) (A:Option Addr) (m c B:Nat) (w:World) (Z:DerW.Rds w B A ls) (hm:m=ls.length) (hB:B<=w.heap.size) (O:ls.flatten.length<=65535) (hc:ls.length<=1000000) :
  Calls Tryz.prog 259 #[.int .u8 t.toNat,.slice A m c] w (BY w (elem t ls.flatten)):=
 (DerW.Dt t ls A m c B w Z hm hB O hc).mono fun e w' h=>by obtain⟨v,rfl,h1,M⟩:=h;exact FA h1 (IV _ _) M
theorem Cf (p:Pr) (w:World) (hp:prB p=true):Calls Tryz.prog 260 #[.agg #[.string ⟨p.1.toArray⟩,.string ⟨p.2.toArray⟩]] w (BY w (prE p)):=by
 have Z:=I ((Below.refl w.heap.size w).alloc Ag (.cells #[.string ⟨p.1.toArray⟩,.string ⟨p.2.toArray⟩] 27));have M:=I (Blk.new w 27 #[.string ⟨p.1.toArray⟩,.string ⟨p.2.toArray⟩]);have b1:=GU hp;have b2:=AE 27 p.1;have b3:=AE 27 p.2;have T1:=I (fun w1=>JP p.1 w1 (by omega));have T2:=I (fun w1=>JP p.2 w1 (by omega));have HL:=I (show [elem 27 p.1,elem 27 p.2].flatten.length<=65535 by rw[Dk];simp only[List.length_append];omega);have HE:=I (show prE p=elem 48 [elem 27 p.1,elem 27 p.2].flatten from rfl);obtain⟨l1,bn⟩:∃l,l=elem 27 p.1:=⟨_,rfl⟩;obtain⟨l2,ca⟩:∃l,l=elem 27 p.2:=⟨_,rfl⟩;rw[<-bn] at T1 HL HE;rw[<-ca] at T2 HL HE;rw[HE.o,Dk];clear HE bn ca b1 b2 b3 hp;go_enter Tryz.func260,Tryz.ntmps260
 go_wp2
 obtain⟨W,eW⟩:=Ak (w.alloc (.cells #[.string ⟨p.1.toArray⟩,.string ⟨p.2.toArray⟩] 27));rw[<-eW] at Z M⊢;clear eW;replace M:=I (show Blk W.drew _ _ _ from M.o.drewN 1);replace Z:=I (show Below _ _ W.drew from below_drewN Z.o 1)
 go_region_held3 (fun w'=>w'.cell? ⟨w.heap.size,0,none⟩=some (.string ⟨p.1.toArray⟩)/\w'.cell? ⟨w.heap.size,1,none⟩=some (.string ⟨p.2.toArray⟩)) (first | exact⟨M.o.cell 0,M.o.cell 1⟩ | exact⟨(M.o.alloc _).cell 0,(M.o.alloc _).cell 1⟩) ((first
  |(go_at_call 271;(with_reducible refine Calls.mono (T1.o _) ?_);rintro e w1 ⟨⟨g1,c1,rfl,cd,cg,aw⟩,O⟩;clear T1;have av:=I aw;replace M:=I (M.o.below O);replace Z:=Z.t O;clear O aw cd cg)
  |(go_at_call 271;(with_reducible refine Calls.mono (T2.o _) ?_);rintro e w2 ⟨⟨g2,c2,rfl,cb,cc,bB⟩,O⟩;clear T2;replace av:=I (Bh av.o O);have cf:=I bB;replace M:=I (M.o.below O);replace Z:=Z.t O;clear O bB cb cc)
  |(go_at_call 259;refine Calls.mono (Da 48 [l1,l2] _ 2 2 (w2.heap.size+1) _ (JE av.o cf.o) rfl (by simp) HL.o (by simp)) ?_;rintro e wz ⟨⟨gz,cz,rfl,bq,bz,bx⟩,O⟩;have bb:=(Below.refl w2.heap.size w2).alloc Ag (.cells #[.slice (some ⟨g1,0,none⟩) l1.length c1,.slice (some ⟨g2,0,none⟩) l2.length c2] 34);have HG:=I (Bg (l:=elem 48 [l1,l2].flatten) ⟨⟨gz,cz,rfl,bq,bz,bx⟩,O⟩ (Z.o.trans (bb.mono Z.o.size)));rw[Dk] at HG;replace M:=I ((M.o.alloc (.cells #[.slice (some ⟨g1,0,none⟩) l1.length c1,.slice (some ⟨g2,0,none⟩) l2.length c2] 34)).below O);clear bb bq bz bx O)))
 go_wp2
 go_ret;exact HG.o
theorem Fl (t:Tk) (A:Option Addr) (c:Nat) (w:World) (ht:tkB t=true) (hr:Rd w w.heap.size A (bvs t.b)):Calls Tryz.prog 262 #[.agg #[.string ⟨t.s.1.toArray⟩,.string ⟨t.s.2.toArray⟩,.int .i64 t.k,.slice A t.b.length c]] w (BY w (tkE t)):=by
 have Z:=I ((Below.refl w.heap.size w).alloc Ag (.cells #[.string ⟨t.s.1.toArray⟩,.string ⟨t.s.2.toArray⟩,.int .i64 t.k,.slice A t.b.length c] 83));have M:=I (Blk.new w 83 #[.string ⟨t.s.1.toArray⟩,.string ⟨t.s.2.toArray⟩,.int .i64 t.k,.slice A t.b.length c]);have hp:=GV ht;have b1:=(AX hp.1).1;have b2:=AM t.k;have b3:=AE 4 t.b;have T1:=I (fun w1=>Cf t.s w1 hp.1);have T2:=I (fun w1=>CZ t.k w1);have T3:=I (fun w1 (h:Below w.heap.size w w1)=>DT t.b A t.b.length c w1.heap.size w1 ((hr.below h).more h.size) rfl Ag (by omega));have HL:=I (show [prE t.s,encI t.k,elem 4 t.b].flatten.length<=65535 by rw[DN];simp only[List.length_append];omega);have HE:=I (show tkE t=elem 97 [prE t.s,encI t.k,elem 4 t.b].flatten from rfl);obtain⟨l1,bx⟩:∃l,l=prE t.s:=⟨_,rfl⟩;obtain⟨l2,cd⟩:∃l,l=encI t.k:=⟨_,rfl⟩;obtain⟨l3,bq⟩:∃l,l=elem 4 t.b:=⟨_,rfl⟩;rw[<-bx] at T1 HL HE;rw[<-cd] at T2 HL HE;rw[<-bq] at T3 HL HE;rw[HE.o,DN];clear HE bx cd bq hp b1 b2 b3 ht hr;go_enter Tryz.func262,Tryz.ntmps262
 go_wp2
 obtain⟨W,eW⟩:=Ak (w.alloc (.cells #[.string ⟨t.s.1.toArray⟩,.string ⟨t.s.2.toArray⟩,.int .i64 t.k,.slice A t.b.length c] 83));rw[<-eW] at Z M⊢;clear eW;replace M:=I (show Blk W.drew _ _ _ from M.o.drewN 1);replace Z:=I (show Below _ _ W.drew from below_drewN Z.o 1)
 go_region_held3 (fun w'=>w'.cell? ⟨w.heap.size,0,none⟩=some (.string ⟨t.s.1.toArray⟩)/\w'.cell? ⟨w.heap.size,1,none⟩=some (.string ⟨t.s.2.toArray⟩)/\w'.cell? ⟨w.heap.size,2,none⟩=some (.int .i64 t.k)/\w'.cell? ⟨w.heap.size,3,none⟩=some (.slice A t.b.length c)) (first | exact⟨M.o.cell 0,M.o.cell 1,M.o.cell 2,M.o.cell 3⟩ | exact⟨(M.o.alloc _).cell 0,(M.o.alloc _).cell 1,(M.o.alloc _).cell 2,(M.o.alloc _).cell 3⟩) ((first
  |(go_at_call 260;(with_reducible refine Calls.mono (T1.o _) ?_);rintro e w1 ⟨⟨g1,c1,rfl,cm,cp,bb⟩,O⟩;clear T1;have av:=I bb;replace M:=I (M.o.below O);replace Z:=Z.t O;clear O bb cm cp)
  |(go_at_call 261;(with_reducible refine Calls.mono (T2.o _) ?_);rintro e w2 ⟨⟨g2,c2,rfl,cg,ck,cc⟩,O⟩;clear T2;replace av:=I (Bh av.o O);have aw:=I cc;replace M:=I (M.o.below O);replace Z:=Z.t O;clear O cc cg ck)
  |(go_at_call 263;(with_reducible refine Calls.mono (T3.o _ Z.o) ?_);rintro e w3 ⟨⟨g3,c3,rfl,cn,cf,bz⟩,O⟩;clear T3;replace av:=I (Bh av.o O);replace aw:=I (Bh aw.o O);have cj:=I bz;replace M:=I (M.o.below O);replace Z:=Z.t O;clear O bz cn cf)
  |(go_at_call 259;refine Calls.mono (Da 97 [l1,l2,l3] _ 3 3 (w3.heap.size+1) _ (FE av.o aw.o cj.o) rfl (by simp) HL.o (by simp)) ?_;rintro e wz ⟨⟨gz,cz,rfl,bB,cb,ca⟩,O⟩;have bn:=(Below.refl w3.heap.size w3).alloc Ag (.cells #[.slice (some ⟨g1,0,none⟩) l1.length c1,.slice (some ⟨g2,0,none⟩) l2.length c2,.slice (some ⟨g3,0,none⟩) l3.length c3] 34);have HG:=I (Bg (l:=elem 97 [l1,l2,l3].flatten) ⟨⟨gz,cz,rfl,bB,cb,ca⟩,O⟩ (Z.o.trans (bn.mono Z.o.size)));rw[DN] at HG;replace M:=I ((M.o.alloc (.cells #[.slice (some ⟨g1,0,none⟩) l1.length c1,.slice (some ⟨g2,0,none⟩) l2.length c2,.slice (some ⟨g3,0,none⟩) l3.length c3] 34)).below O);clear bn bB cb ca O)))
 go_wp2
 go_ret;exact HG.o
theorem MU (a:An) (w:World) (ha:anB a=true):Calls Tryz.prog 233 #[.agg #[.string ⟨a.c.1.toArray⟩,.string ⟨a.c.2.toArray⟩,.int .i64 a.t,.int .i64 a.q]] w (BY w (anE a)):=by
 have HB:=I ((Below.refl w.heap.size w).alloc Ag (.cells #[.string ⟨a.c.1.toArray⟩,.string ⟨a.c.2.toArray⟩,.int .i64 a.t,.int .i64 a.q] 33));have M:=I (Blk.new w 33 #[.string ⟨a.c.1.toArray⟩,.string ⟨a.c.2.toArray⟩,.int .i64 a.t,.int .i64 a.q]);have hp:prB a.c=true/\tmB a.t=true/\tmB a.q=true:=by simpa [anB] using ha
 have b1:=(AX hp.1).1;have b2:=AM a.t;have b3:=AM a.q;have T1:=I (fun w1=>Cf a.c w1 hp.1);have T2:=I (fun w1=>CZ a.t w1);have T3:=I (fun w1=>CZ a.q w1);have HL:=I (show [prE a.c,encI a.t,encI a.q].flatten.length<=65535 by rw[DN];simp only[List.length_append];omega);have HE:=I (show anE a=elem 98 [prE a.c,encI a.t,encI a.q].flatten from rfl);obtain⟨l1,bq⟩:∃l,l=prE a.c:=⟨_,rfl⟩;obtain⟨l2,cc⟩:∃l,l=encI a.t:=⟨_,rfl⟩;obtain⟨l3,bn⟩:∃l,l=encI a.q:=⟨_,rfl⟩;rw[<-bq] at T1 HL HE;rw[<-cc] at T2 HL HE;rw[<-bn] at T3 HL HE;rw[HE.o,DN];clear HE bq cc bn hp b1 b2 b3 ha;go_enter Tryz.func233,Tryz.ntmps233
 go_wp2
 obtain⟨W,eW⟩:=Ak (w.alloc (.cells #[.string ⟨a.c.1.toArray⟩,.string ⟨a.c.2.toArray⟩,.int .i64 a.t,.int .i64 a.q] 33));rw[<-eW] at HB M⊢;clear eW;replace M:=I (show Blk W.drew _ _ _ from M.o.drewN 1);replace HB:=I (show Below _ _ W.drew from below_drewN HB.o 1)
 go_region_held3 (fun w'=>w'.cell? ⟨w.heap.size,0,none⟩=some (.string ⟨a.c.1.toArray⟩)/\w'.cell? ⟨w.heap.size,1,none⟩=some (.string ⟨a.c.2.toArray⟩)/\w'.cell? ⟨w.heap.size,2,none⟩=some (.int .i64 a.t)/\w'.cell? ⟨w.heap.size,3,none⟩=some (.int .i64 a.q)) (first | exact⟨M.o.cell 0,M.o.cell 1,M.o.cell 2,M.o.cell 3⟩ | exact⟨(M.o.alloc _).cell 0,(M.o.alloc _).cell 1,(M.o.alloc _).cell 2,(M.o.alloc _).cell 3⟩) ((first
  |(go_at_call 260;(with_reducible refine Calls.mono (T1.o _) ?_);rintro e w1 ⟨⟨g1,c1,rfl,ck,cn,aw⟩,O⟩;clear T1;have Z:=I aw;replace M:=I (M.o.below O);replace HB:=HB.t O;clear O aw ck cn)
  |(go_at_call 261;(with_reducible refine Calls.mono (T2.o _) ?_);rintro e w2 ⟨⟨g2,c2,rfl,cf,cj,cb⟩,O⟩;clear T2;replace Z:=I (Bh Z.o O);have av:=I cb;replace M:=I (M.o.below O);replace HB:=HB.t O;clear O cb cf cj)
  |(go_at_call 261;(with_reducible refine Calls.mono (T3.o _) ?_);rintro e w3 ⟨⟨g3,c3,rfl,cm,cd,bx⟩,O⟩;clear T3;replace Z:=I (Bh Z.o O);replace av:=I (Bh av.o O);have cg:=I bx;replace M:=I (M.o.below O);replace HB:=HB.t O;clear O bx cm cd)
  |(go_at_call 259;refine Calls.mono (Da 98 [l1,l2,l3] _ 3 3 (w3.heap.size+1) _ (FE Z.o av.o cg.o) rfl (by simp) HL.o (by simp)) ?_;rintro e wz ⟨⟨gz,cz,rfl,bz,ca,bB⟩,O⟩;have bb:=(Below.refl w3.heap.size w3).alloc Ag (.cells #[.slice (some ⟨g1,0,none⟩) l1.length c1,.slice (some ⟨g2,0,none⟩) l2.length c2,.slice (some ⟨g3,0,none⟩) l3.length c3] 34);have HG:=I (Bg (l:=elem 98 [l1,l2,l3].flatten) ⟨⟨gz,cz,rfl,bz,ca,bB⟩,O⟩ (HB.o.trans (bb.mono HB.o.size)));rw[DN] at HG;replace M:=I ((M.o.alloc (.cells #[.slice (some ⟨g1,0,none⟩) l1.length c1,.slice (some ⟨g2,0,none⟩) l2.length c2,.slice (some ⟨g3,0,none⟩) l3.length c3] 34)).below O);clear bb bz ca bB O)))
 go_wp2
 go_ret;exact HG.o
theorem Uu (q:As) (w:World) (ha:asB q=true):Calls Tryz.prog 219 #[.agg #[.string ⟨q.c.1.toArray⟩,.string ⟨q.c.2.toArray⟩,.string ⟨q.s.1.toArray⟩,.string ⟨q.s.2.toArray⟩,.int .i64 q.t,.int .i64 q.no]] w (BY w (asE q)):=by
 have HB:=I ((Below.refl w.heap.size w).alloc Ag (.cells #[.string ⟨q.c.1.toArray⟩,.string ⟨q.c.2.toArray⟩,.string ⟨q.s.1.toArray⟩,.string ⟨q.s.2.toArray⟩,.int .i64 q.t,.int .i64 q.no] 87));have O:=I (Blk.new w 87 #[.string ⟨q.c.1.toArray⟩,.string ⟨q.c.2.toArray⟩,.string ⟨q.s.1.toArray⟩,.string ⟨q.s.2.toArray⟩,.int .i64 q.t,.int .i64 q.no]);have hp:prB q.c=true/\prB q.s=true/\tmB q.t=true/\tmB q.no=true:=by simpa [asB] using ha
 have b1:=(AX hp.1).1;have b2:=(AX hp.2.1).1;have b3:=AM q.t;have b4:=AM q.no;have T1:=I (fun w1=>Cf q.c w1 hp.1);have T2:=I (fun w1=>Cf q.s w1 hp.2.1);have T3:=I (fun w1=>CZ q.t w1);have T4:=I (fun w1=>CZ q.no w1);have HL:=I (show [prE q.c,prE q.s,encI q.t,encI q.no].flatten.length<=65535 by rw[Qs];simp only[List.length_append];omega);have HE:=I (show asE q=elem 106 [prE q.c,prE q.s,encI q.t,encI q.no].flatten from rfl);obtain⟨l1,bq⟩:∃l,l=prE q.c:=⟨_,rfl⟩;obtain⟨l2,ca⟩:∃l,l=prE q.s:=⟨_,rfl⟩;obtain⟨l3,bn⟩:∃l,l=encI q.t:=⟨_,rfl⟩;obtain⟨l4,cd⟩:∃l,l=encI q.no:=⟨_,rfl⟩;rw[<-bq] at T1 HL HE;rw[<-ca] at T2 HL HE;rw[<-bn] at T3 HL HE;rw[<-cd] at T4 HL HE;rw[HE.o,Qs];clear HE bq ca bn cd hp b1 b2 b3 b4 ha;go_enter Tryz.func219,Tryz.ntmps219
 go_wp2
 obtain⟨W,eW⟩:=Ak (w.alloc (.cells #[.string ⟨q.c.1.toArray⟩,.string ⟨q.c.2.toArray⟩,.string ⟨q.s.1.toArray⟩,.string ⟨q.s.2.toArray⟩,.int .i64 q.t,.int .i64 q.no] 87));rw[<-eW] at HB O⊢;clear eW;replace O:=I (show Blk W.drew _ _ _ from O.o.drewN 1);replace HB:=I (show Below _ _ W.drew from below_drewN HB.o 1)
 go_region_held3 (fun w'=>w'.cell? ⟨w.heap.size,0,none⟩=some (.string ⟨q.c.1.toArray⟩)/\w'.cell? ⟨w.heap.size,1,none⟩=some (.string ⟨q.c.2.toArray⟩)/\w'.cell? ⟨w.heap.size,2,none⟩=some (.string ⟨q.s.1.toArray⟩)/\w'.cell? ⟨w.heap.size,3,none⟩=some (.string ⟨q.s.2.toArray⟩)/\w'.cell? ⟨w.heap.size,4,none⟩=some (.int .i64 q.t)/\w'.cell? ⟨w.heap.size,5,none⟩=some (.int .i64 q.no)) (first | exact⟨O.o.cell 0,O.o.cell 1,O.o.cell 2,O.o.cell 3,O.o.cell 4,O.o.cell 5⟩ | exact⟨(O.o.alloc _).cell 0,(O.o.alloc _).cell 1,(O.o.alloc _).cell 2,(O.o.alloc _).cell 3,(O.o.alloc _).cell 4,(O.o.alloc _).cell 5⟩) ((first
  |(go_at_call 260;(with_reducible refine Calls.mono (T1.o _) ?_);rintro e w1 ⟨⟨g1,c1,rfl,cq,cu,bB⟩,M⟩;clear T1;have Z:=I bB;replace O:=I (O.o.below M);replace HB:=HB.t M;clear M bB cq cu)
  |(go_at_call 260;(with_reducible refine Calls.mono (T2.o _) ?_);rintro e w2 ⟨⟨g2,c2,rfl,cp,cm,cg⟩,M⟩;clear T2;replace Z:=I (Bh Z.o M);have av:=I cg;replace O:=I (O.o.below M);replace HB:=HB.t M;clear M cg cp cm)
  |(go_at_call 261;(with_reducible refine Calls.mono (T3.o _) ?_);rintro e w3 ⟨⟨g3,c3,rfl,ct,cj,bx⟩,M⟩;clear T3;replace Z:=I (Bh Z.o M);replace av:=I (Bh av.o M);have aw:=I bx;replace O:=I (O.o.below M);replace HB:=HB.t M;clear M bx ct cj)
  |(go_at_call 261;(with_reducible refine Calls.mono (T4.o _) ?_);rintro e w4 ⟨⟨g4,c4,rfl,cr,cn,cb⟩,M⟩;clear T4;replace Z:=I (Bh Z.o M);replace av:=I (Bh av.o M);replace aw:=I (Bh aw.o M);have ck:=I cb;replace O:=I (O.o.below M);replace HB:=HB.t M;clear M cb cr cn)
  |(go_at_call 259;refine Calls.mono (Da 106 [l1,l2,l3,l4] _ 4 4 (w4.heap.size+1) _ (Wu Z.o av.o aw.o ck.o) rfl (by simp) HL.o (by simp)) ?_;rintro e wz ⟨⟨gz,cz,rfl,cc,cf,bz⟩,M⟩;have bb:=(Below.refl w4.heap.size w4).alloc Ag (.cells #[.slice (some ⟨g1,0,none⟩) l1.length c1,.slice (some ⟨g2,0,none⟩) l2.length c2,.slice (some ⟨g3,0,none⟩) l3.length c3,.slice (some ⟨g4,0,none⟩) l4.length c4] 34);have HG:=I (Bg (l:=elem 106 [l1,l2,l3,l4].flatten) ⟨⟨gz,cz,rfl,cc,cf,bz⟩,M⟩ (HB.o.trans (bb.mono HB.o.size)));rw[Qs] at HG;replace O:=I ((O.o.alloc (.cells #[.slice (some ⟨g1,0,none⟩) l1.length c1,.slice (some ⟨g2,0,none⟩) l2.length c2,.slice (some ⟨g3,0,none⟩) l3.length c3,.slice (some ⟨g4,0,none⟩) l4.length c4] 34)).below M);clear bb cc cf bz M)))
 go_wp2
 go_ret;exact HG.o
theorem Uv (q:Tg) (A1 A2:Option Addr) (c1 c2:Nat) (w:World) (ha:tgB q=true) (aw:Rd w w.heap.size A1 (bvs q.t.b)) (bn:Rd w w.heap.size A2 (bvs q.a)):Calls Tryz.prog 220 #[.agg #[.string ⟨q.t.s.1.toArray⟩,.string ⟨q.t.s.2.toArray⟩,.int .i64 q.t.k,.slice A1 q.t.b.length c1,.slice A2 q.a.length c2,.string ⟨q.s.1.toArray⟩,.string ⟨q.s.2.toArray⟩,.int .i64 q.u,.int .i64 q.no]] w (BY w (tgE q)):=by
 have HB:=I ((Below.refl w.heap.size w).alloc Ag (.cells #[.string ⟨q.t.s.1.toArray⟩,.string ⟨q.t.s.2.toArray⟩,.int .i64 q.t.k,.slice A1 q.t.b.length c1,.slice A2 q.a.length c2,.string ⟨q.s.1.toArray⟩,.string ⟨q.s.2.toArray⟩,.int .i64 q.u,.int .i64 q.no] 89));have O:=I (Blk.new w 89 #[.string ⟨q.t.s.1.toArray⟩,.string ⟨q.t.s.2.toArray⟩,.int .i64 q.t.k,.slice A1 q.t.b.length c1,.slice A2 q.a.length c2,.string ⟨q.s.1.toArray⟩,.string ⟨q.s.2.toArray⟩,.int .i64 q.u,.int .i64 q.no]);have hp:tkB q.t=true/\BQ q.a=true/\prB q.s=true/\tmB q.u=true/\tmB q.no=true:=by simpa [tgB] using ha
 have b1:=(Cq hp.1).1;have b2:=AE 4 q.a;have b3:=(AX hp.2.2.1).1;have b4:=AM q.u;have b5:=AM q.no;have b6:=Bm hp.2.1;have T1:=I (fun w1 (h:Below w.heap.size w w1)=>Fl q.t A1 c1 w1 hp.1 ((aw.below h).more h.size));have T2:=I (fun w1 (h:Below w.heap.size w w1)=>DT q.a A2 q.a.length c2 w1.heap.size w1 ((bn.below h).more h.size) rfl Ag (by omega));have T3:=I (fun w1=>Cf q.s w1 hp.2.2.1);have T4:=I (fun w1=>CZ q.u w1);have T5:=I (fun w1=>CZ q.no w1);have HL:=I (show [tkE q.t,elem 4 q.a,prE q.s,encI q.u,encI q.no].flatten.length<=65535 by rw[Gs];simp only[List.length_append];omega);have HE:=I (show tgE q=elem 108 [tkE q.t,elem 4 q.a,prE q.s,encI q.u,encI q.no].flatten from rfl);obtain⟨l1,ca⟩:∃l,l=tkE q.t:=⟨_,rfl⟩;obtain⟨l2,cm⟩:∃l,l=elem 4 q.a:=⟨_,rfl⟩;obtain⟨l3,bB⟩:∃l,l=prE q.s:=⟨_,rfl⟩;obtain⟨l4,cj⟩:∃l,l=encI q.u:=⟨_,rfl⟩;obtain⟨l5,bx⟩:∃l,l=encI q.no:=⟨_,rfl⟩;rw[<-ca] at T1 HL HE;rw[<-cm] at T2 HL HE;rw[<-bB] at T3 HL HE;rw[<-cj] at T4 HL HE;rw[<-bx] at T5 HL HE;rw[HE.o,Gs];clear HE ca cm bB cj bx hp b1 b2 b3 b4 b5 b6 ha aw bn;go_enter Tryz.func220,Tryz.ntmps220
 go_wp2
 obtain⟨W,eW⟩:=Ak (w.alloc (.cells #[.string ⟨q.t.s.1.toArray⟩,.string ⟨q.t.s.2.toArray⟩,.int .i64 q.t.k,.slice A1 q.t.b.length c1,.slice A2 q.a.length c2,.string ⟨q.s.1.toArray⟩,.string ⟨q.s.2.toArray⟩,.int .i64 q.u,.int .i64 q.no] 89));rw[<-eW] at HB O⊢;clear eW;replace O:=I (show Blk W.drew _ _ _ from O.o.drewN 1);replace HB:=I (show Below _ _ W.drew from below_drewN HB.o 1)
 go_region_held3 (fun w'=>w'.cell? ⟨w.heap.size,0,none⟩=some (.string ⟨q.t.s.1.toArray⟩)/\w'.cell? ⟨w.heap.size,1,none⟩=some (.string ⟨q.t.s.2.toArray⟩)/\w'.cell? ⟨w.heap.size,2,none⟩=some (.int .i64 q.t.k)/\w'.cell? ⟨w.heap.size,3,none⟩=some (.slice A1 q.t.b.length c1)/\w'.cell? ⟨w.heap.size,4,none⟩=some (.slice A2 q.a.length c2)/\w'.cell? ⟨w.heap.size,5,none⟩=some (.string ⟨q.s.1.toArray⟩)/\w'.cell? ⟨w.heap.size,6,none⟩=some (.string ⟨q.s.2.toArray⟩)/\w'.cell? ⟨w.heap.size,7,none⟩=some (.int .i64 q.u)/\w'.cell? ⟨w.heap.size,8,none⟩=some (.int .i64 q.no)) (first | exact⟨O.o.cell 0,O.o.cell 1,O.o.cell 2,O.o.cell 3,O.o.cell 4,O.o.cell 5,O.o.cell 6,O.o.cell 7,O.o.cell 8⟩ | exact⟨(O.o.alloc _).cell 0,(O.o.alloc _).cell 1,(O.o.alloc _).cell 2,(O.o.alloc _).cell 3,(O.o.alloc _).cell 4,(O.o.alloc _).cell 5,(O.o.alloc _).cell 6,(O.o.alloc _).cell 7,(O.o.alloc _).cell 8⟩) ((first
  |(go_at_call 262;(with_reducible refine Calls.mono (T1.o _ HB.o) ?_);rintro e w1 ⟨⟨g1,c1,rfl,cw,cB,aw⟩,M⟩;clear T1;have Z:=I aw;replace O:=I (O.o.below M);replace HB:=HB.t M;clear M aw cw cB)
  |(go_at_call 263;(with_reducible refine Calls.mono (T2.o _ HB.o) ?_);rintro e w2 ⟨⟨g2,c2,rfl,cu,cq,bn⟩,M⟩;clear T2;replace Z:=I (Bh Z.o M);have av:=I bn;replace O:=I (O.o.below M);replace HB:=HB.t M;clear M bn cu cq)
  |(go_at_call 260;(with_reducible refine Calls.mono (T3.o _) ?_);rintro e w3 ⟨⟨g3,c3,rfl,cA,cn,cb⟩,M⟩;clear T3;replace Z:=I (Bh Z.o M);replace av:=I (Bh av.o M);have bb:=I cb;replace O:=I (O.o.below M);replace HB:=HB.t M;clear M cb cA cn)
  |(go_at_call 261;(with_reducible refine Calls.mono (T4.o _) ?_);rintro e w4 ⟨⟨g4,c4,rfl,cx,ct,cd⟩,M⟩;clear T4;replace Z:=I (Bh Z.o M);replace av:=I (Bh av.o M);replace bb:=I (Bh bb.o M);have bq:=I cd;replace O:=I (O.o.below M);replace HB:=HB.t M;clear M cd cx ct)
  |(go_at_call 261;(with_reducible refine Calls.mono (T5.o _) ?_);rintro e w5 ⟨⟨g5,c5,rfl,cy,cp,cf⟩,M⟩;clear T5;replace Z:=I (Bh Z.o M);replace av:=I (Bh av.o M);replace bb:=I (Bh bb.o M);replace bq:=I (Bh bq.o M);have cr:=I cf;replace O:=I (O.o.below M);replace HB:=HB.t M;clear M cf cy cp)
  |(go_at_call 259;refine Calls.mono (Da 108 [l1,l2,l3,l4,l5] _ 5 5 (w5.heap.size+1) _ (Lj Z.o av.o bb.o bq.o cr.o) rfl (by simp) HL.o (by simp)) ?_;rintro e wz ⟨⟨gz,cz,rfl,cg,ck,cc⟩,M⟩;have bz:=(Below.refl w5.heap.size w5).alloc Ag (.cells #[.slice (some ⟨g1,0,none⟩) l1.length c1,.slice (some ⟨g2,0,none⟩) l2.length c2,.slice (some ⟨g3,0,none⟩) l3.length c3,.slice (some ⟨g4,0,none⟩) l4.length c4,.slice (some ⟨g5,0,none⟩) l5.length c5] 34);have HG:=I (Bg (l:=elem 108 [l1,l2,l3,l4,l5].flatten) ⟨⟨gz,cz,rfl,cg,ck,cc⟩,M⟩ (HB.o.trans (bz.mono HB.o.size)));rw[Gs] at HG;replace O:=I ((O.o.alloc (.cells #[.slice (some ⟨g1,0,none⟩) l1.length c1,.slice (some ⟨g2,0,none⟩) l2.length c2,.slice (some ⟨g3,0,none⟩) l3.length c3,.slice (some ⟨g4,0,none⟩) l4.length c4,.slice (some ⟨g5,0,none⟩) l5.length c5] 34)).below M);clear bz cg ck cc M)))
 go_wp2
 go_ret;exact HG.o
theorem Uw (q:Re) (A1 A2:Option Addr) (c1 c2:Nat) (w:World) (ha:reB q=true) (av:Rd w w.heap.size A1 (bvs q.t.b)) (bb:Rd w w.heap.size A2 (bvs q.b)):Calls Tryz.prog 221 #[.agg #[.string ⟨q.c.1.toArray⟩,.string ⟨q.c.2.toArray⟩,.string ⟨q.t.s.1.toArray⟩,.string ⟨q.t.s.2.toArray⟩,.int .i64 q.t.k,.slice A1 q.t.b.length c1,.slice A2 q.b.length c2]] w (BY w (reE q)):=by
 have Z:=I ((Below.refl w.heap.size w).alloc Ag (.cells #[.string ⟨q.c.1.toArray⟩,.string ⟨q.c.2.toArray⟩,.string ⟨q.t.s.1.toArray⟩,.string ⟨q.t.s.2.toArray⟩,.int .i64 q.t.k,.slice A1 q.t.b.length c1,.slice A2 q.b.length c2] 91));have M:=I (Blk.new w 91 #[.string ⟨q.c.1.toArray⟩,.string ⟨q.c.2.toArray⟩,.string ⟨q.t.s.1.toArray⟩,.string ⟨q.t.s.2.toArray⟩,.int .i64 q.t.k,.slice A1 q.t.b.length c1,.slice A2 q.b.length c2]);have hp:prB q.c=true/\tkB q.t=true/\BQ q.b=true:=by simpa [reB] using ha
 have b1:=(AX hp.1).1;have b2:=(Cq hp.2.1).1;have b3:=AE 4 q.b;have b6:=Bm hp.2.2;have T1:=I (fun w1=>Cf q.c w1 hp.1);have T2:=I (fun w1 (h:Below w.heap.size w w1)=>Fl q.t A1 c1 w1 hp.2.1 ((av.below h).more h.size));have T3:=I (fun w1 (h:Below w.heap.size w w1)=>DT q.b A2 q.b.length c2 w1.heap.size w1 ((bb.below h).more h.size) rfl Ag (by omega));have HL:=I (show [prE q.c,tkE q.t,elem 4 q.b].flatten.length<=65535 by rw[DN];simp only[List.length_append];omega);have HE:=I (show reE q=elem 107 [prE q.c,tkE q.t,elem 4 q.b].flatten from rfl);obtain⟨l1,bz⟩:∃l,l=prE q.c:=⟨_,rfl⟩;obtain⟨l2,cd⟩:∃l,l=tkE q.t:=⟨_,rfl⟩;obtain⟨l3,bx⟩:∃l,l=elem 4 q.b:=⟨_,rfl⟩;rw[<-bz] at T1 HL HE;rw[<-cd] at T2 HL HE;rw[<-bx] at T3 HL HE;rw[HE.o,DN];clear HE bz cd bx hp b1 b2 b3 b6 ha av bb;go_enter Tryz.func221,Tryz.ntmps221
 go_wp2
 obtain⟨W,eW⟩:=Ak (w.alloc (.cells #[.string ⟨q.c.1.toArray⟩,.string ⟨q.c.2.toArray⟩,.string ⟨q.t.s.1.toArray⟩,.string ⟨q.t.s.2.toArray⟩,.int .i64 q.t.k,.slice A1 q.t.b.length c1,.slice A2 q.b.length c2] 91));rw[<-eW] at Z M⊢;clear eW;replace M:=I (show Blk W.drew _ _ _ from M.o.drewN 1);replace Z:=I (show Below _ _ W.drew from below_drewN Z.o 1)
 go_region_held3 (fun w'=>w'.cell? ⟨w.heap.size,0,none⟩=some (.string ⟨q.c.1.toArray⟩)/\w'.cell? ⟨w.heap.size,1,none⟩=some (.string ⟨q.c.2.toArray⟩)/\w'.cell? ⟨w.heap.size,2,none⟩=some (.string ⟨q.t.s.1.toArray⟩)/\w'.cell? ⟨w.heap.size,3,none⟩=some (.string ⟨q.t.s.2.toArray⟩)/\w'.cell? ⟨w.heap.size,4,none⟩=some (.int .i64 q.t.k)/\w'.cell? ⟨w.heap.size,5,none⟩=some (.slice A1 q.t.b.length c1)/\w'.cell? ⟨w.heap.size,6,none⟩=some (.slice A2 q.b.length c2)) (first | exact⟨M.o.cell 0,M.o.cell 1,M.o.cell 2,M.o.cell 3,M.o.cell 4,M.o.cell 5,M.o.cell 6⟩ | exact⟨(M.o.alloc _).cell 0,(M.o.alloc _).cell 1,(M.o.alloc _).cell 2,(M.o.alloc _).cell 3,(M.o.alloc _).cell 4,(M.o.alloc _).cell 5,(M.o.alloc _).cell 6⟩) ((first
  |(go_at_call 260;(with_reducible refine Calls.mono (T1.o _) ?_);rintro e w1 ⟨⟨g1,c1,rfl,cm,cp,av⟩,O⟩;clear T1;have aw:=I av;replace M:=I (M.o.below O);replace Z:=Z.t O;clear O av cm cp)
  |(go_at_call 262;(with_reducible refine Calls.mono (T2.o _ Z.o) ?_);rintro e w2 ⟨⟨g2,c2,rfl,cg,ck,bb⟩,O⟩;clear T2;replace aw:=I (Bh aw.o O);have bn:=I bb;replace M:=I (M.o.below O);replace Z:=Z.t O;clear O bb cg ck)
  |(go_at_call 263;(with_reducible refine Calls.mono (T3.o _ Z.o) ?_);rintro e w3 ⟨⟨g3,c3,rfl,cn,cf,bB⟩,O⟩;clear T3;replace aw:=I (Bh aw.o O);replace bn:=I (Bh bn.o O);have cj:=I bB;replace M:=I (M.o.below O);replace Z:=Z.t O;clear O bB cn cf)
  |(go_at_call 259;refine Calls.mono (Da 107 [l1,l2,l3] _ 3 3 (w3.heap.size+1) _ (FE aw.o bn.o cj.o) rfl (by simp) HL.o (by simp)) ?_;rintro e wz ⟨⟨gz,cz,rfl,ca,cc,cb⟩,O⟩;have bq:=(Below.refl w3.heap.size w3).alloc Ag (.cells #[.slice (some ⟨g1,0,none⟩) l1.length c1,.slice (some ⟨g2,0,none⟩) l2.length c2,.slice (some ⟨g3,0,none⟩) l3.length c3] 34);have HG:=I (Bg (l:=elem 107 [l1,l2,l3].flatten) ⟨⟨gz,cz,rfl,ca,cc,cb⟩,O⟩ (Z.o.trans (bq.mono Z.o.size)));rw[DN] at HG;replace M:=I ((M.o.alloc (.cells #[.slice (some ⟨g1,0,none⟩) l1.length c1,.slice (some ⟨g2,0,none⟩) l2.length c2,.slice (some ⟨g3,0,none⟩) l3.length c3] 34)).below O);clear bq ca cc cb O)))
 go_wp2
 go_ret;exact HG.o
theorem Ux (q:Ap) (A1 A2:Option Addr) (c1 c2:Nat) (w:World) (ha:apB q=true) (Z:Rd w w.heap.size A1 (bvs q.t.b)) (av:Rd w w.heap.size A2 (bvs q.a)):Calls Tryz.prog 222 #[.agg #[.string ⟨q.t.s.1.toArray⟩,.string ⟨q.t.s.2.toArray⟩,.int .i64 q.t.k,.slice A1 q.t.b.length c1,.slice A2 q.a.length c2]] w (BY w (apE q)):=by
 have HB:=I ((Below.refl w.heap.size w).alloc Ag (.cells #[.string ⟨q.t.s.1.toArray⟩,.string ⟨q.t.s.2.toArray⟩,.int .i64 q.t.k,.slice A1 q.t.b.length c1,.slice A2 q.a.length c2] 85));have M:=I (Blk.new w 85 #[.string ⟨q.t.s.1.toArray⟩,.string ⟨q.t.s.2.toArray⟩,.int .i64 q.t.k,.slice A1 q.t.b.length c1,.slice A2 q.a.length c2]);have hp:tkB q.t=true/\BQ q.a=true:=by simpa [apB] using ha
 have b2:=(Cq hp.1).1;have b3:=AE 4 q.a;have b6:=Bm hp.2;have T1:=I (fun w1 (h:Below w.heap.size w w1)=>Fl q.t A1 c1 w1 hp.1 ((Z.below h).more h.size));have T2:=I (fun w1 (h:Below w.heap.size w w1)=>DT q.a A2 q.a.length c2 w1.heap.size w1 ((av.below h).more h.size) rfl Ag (by omega));have HL:=I (show [tkE q.t,elem 4 q.a].flatten.length<=65535 by rw[Dk];simp only[List.length_append];omega);have HE:=I (show apE q=elem 110 [tkE q.t,elem 4 q.a].flatten from rfl);obtain⟨l1,bn⟩:∃l,l=tkE q.t:=⟨_,rfl⟩;obtain⟨l2,bB⟩:∃l,l=elem 4 q.a:=⟨_,rfl⟩;rw[<-bn] at T1 HL HE;rw[<-bB] at T2 HL HE;rw[HE.o,Dk];clear HE bn bB hp b2 b3 b6 ha Z av;go_enter Tryz.func222,Tryz.ntmps222
 go_wp2
 obtain⟨W,eW⟩:=Ak (w.alloc (.cells #[.string ⟨q.t.s.1.toArray⟩,.string ⟨q.t.s.2.toArray⟩,.int .i64 q.t.k,.slice A1 q.t.b.length c1,.slice A2 q.a.length c2] 85));rw[<-eW] at HB M⊢;clear eW;replace M:=I (show Blk W.drew _ _ _ from M.o.drewN 1);replace HB:=I (show Below _ _ W.drew from below_drewN HB.o 1)
 go_region_held3 (fun w'=>w'.cell? ⟨w.heap.size,0,none⟩=some (.string ⟨q.t.s.1.toArray⟩)/\w'.cell? ⟨w.heap.size,1,none⟩=some (.string ⟨q.t.s.2.toArray⟩)/\w'.cell? ⟨w.heap.size,2,none⟩=some (.int .i64 q.t.k)/\w'.cell? ⟨w.heap.size,3,none⟩=some (.slice A1 q.t.b.length c1)/\w'.cell? ⟨w.heap.size,4,none⟩=some (.slice A2 q.a.length c2)) (first | exact⟨M.o.cell 0,M.o.cell 1,M.o.cell 2,M.o.cell 3,M.o.cell 4⟩ | exact⟨(M.o.alloc _).cell 0,(M.o.alloc _).cell 1,(M.o.alloc _).cell 2,(M.o.alloc _).cell 3,(M.o.alloc _).cell 4⟩) ((first
  |(go_at_call 262;(with_reducible refine Calls.mono (T1.o _ HB.o) ?_);rintro e w1 ⟨⟨g1,c1,rfl,cc,cf,Z⟩,O⟩;clear T1;have aw:=I Z;replace M:=I (M.o.below O);replace HB:=HB.t O;clear O Z cc cf)
  |(go_at_call 263;(with_reducible refine Calls.mono (T2.o _ HB.o) ?_);rintro e w2 ⟨⟨g2,c2,rfl,ca,cb,av⟩,O⟩;clear T2;replace aw:=I (Bh aw.o O);have cd:=I av;replace M:=I (M.o.below O);replace HB:=HB.t O;clear O av ca cb)
  |(go_at_call 259;refine Calls.mono (Da 110 [l1,l2] _ 2 2 (w2.heap.size+1) _ (JE aw.o cd.o) rfl (by simp) HL.o (by simp)) ?_;rintro e wz ⟨⟨gz,cz,rfl,bq,bz,bx⟩,O⟩;have bb:=(Below.refl w2.heap.size w2).alloc Ag (.cells #[.slice (some ⟨g1,0,none⟩) l1.length c1,.slice (some ⟨g2,0,none⟩) l2.length c2] 34);have HG:=I (Bg (l:=elem 110 [l1,l2].flatten) ⟨⟨gz,cz,rfl,bq,bz,bx⟩,O⟩ (HB.o.trans (bb.mono HB.o.size)));rw[Dk] at HG;replace M:=I ((M.o.alloc (.cells #[.slice (some ⟨g1,0,none⟩) l1.length c1,.slice (some ⟨g2,0,none⟩) l2.length c2] 34)).below O);clear bb bq bz bx O)))
 go_wp2
 go_ret;exact HG.o
theorem Uy (q:Fa) (w:World):Calls Tryz.prog 223 #[.agg #[.int .i64 q.e,.int .i64 q.no]] w (BY w (faE q)):=by
 have Z:=I ((Below.refl w.heap.size w).alloc Ag (.cells #[.int .i64 q.e,.int .i64 q.no] 93));have M:=I (Blk.new w 93 #[.int .i64 q.e,.int .i64 q.no]);have b1:=AM q.e;have b2:=AM q.no;have T1:=I (fun w1=>CZ q.e w1);have T2:=I (fun w1=>CZ q.no w1);have HL:=I (show [encI q.e,encI q.no].flatten.length<=65535 by rw[Dk];simp only[List.length_append];omega);have HE:=I (show faE q=elem 126 [encI q.e,encI q.no].flatten from rfl);obtain⟨l1,bn⟩:∃l,l=encI q.e:=⟨_,rfl⟩;obtain⟨l2,ca⟩:∃l,l=encI q.no:=⟨_,rfl⟩;rw[<-bn] at T1 HL HE;rw[<-ca] at T2 HL HE;rw[HE.o,Dk];clear HE bn ca b1 b2;go_enter Tryz.func223,Tryz.ntmps223
 go_wp2
 obtain⟨W,eW⟩:=Ak (w.alloc (.cells #[.int .i64 q.e,.int .i64 q.no] 93));rw[<-eW] at Z M⊢;clear eW;replace M:=I (show Blk W.drew _ _ _ from M.o.drewN 1);replace Z:=I (show Below _ _ W.drew from below_drewN Z.o 1)
 go_region_held3 (fun w'=>w'.cell? ⟨w.heap.size,0,none⟩=some (.int .i64 q.e)/\w'.cell? ⟨w.heap.size,1,none⟩=some (.int .i64 q.no)) (first | exact⟨M.o.cell 0,M.o.cell 1⟩ | exact⟨(M.o.alloc _).cell 0,(M.o.alloc _).cell 1⟩) ((first
  |(go_at_call 261;(with_reducible refine Calls.mono (T1.o _) ?_);rintro e w1 ⟨⟨g1,c1,rfl,cd,cg,aw⟩,O⟩;clear T1;have av:=I aw;replace M:=I (M.o.below O);replace Z:=Z.t O;clear O aw cd cg)
  |(go_at_call 261;(with_reducible refine Calls.mono (T2.o _) ?_);rintro e w2 ⟨⟨g2,c2,rfl,cb,cc,bB⟩,O⟩;clear T2;replace av:=I (Bh av.o O);have cf:=I bB;replace M:=I (M.o.below O);replace Z:=Z.t O;clear O bB cb cc)
  |(go_at_call 259;refine Calls.mono (Da 126 [l1,l2] _ 2 2 (w2.heap.size+1) _ (JE av.o cf.o) rfl (by simp) HL.o (by simp)) ?_;rintro e wz ⟨⟨gz,cz,rfl,bq,bz,bx⟩,O⟩;have bb:=(Below.refl w2.heap.size w2).alloc Ag (.cells #[.slice (some ⟨g1,0,none⟩) l1.length c1,.slice (some ⟨g2,0,none⟩) l2.length c2] 34);have HG:=I (Bg (l:=elem 126 [l1,l2].flatten) ⟨⟨gz,cz,rfl,bq,bz,bx⟩,O⟩ (Z.o.trans (bb.mono Z.o.size)));rw[Dk] at HG;replace M:=I ((M.o.alloc (.cells #[.slice (some ⟨g1,0,none⟩) l1.length c1,.slice (some ⟨g2,0,none⟩) l2.length c2] 34)).below O);clear bb bq bz bx O)))
 go_wp2
 go_ret;exact HG.o
theorem OC (p:Pt) (w:World) (hk:p.ss.length=32) (hx:ptB p=true):Calls Tryz.prog 231 #[.agg (ptC p).toArray] w (BY w (ptE p)):=by
 have HI:=I (show(Tryz.prog.info? 31).map (·.size)=some (ptC p).toArray.size by rw[FF hk];kernel_rfl);have CF:=I (show ∀w':World,Blk w' w.heap.size 31 (ptC p).toArray->w'.cell? ⟨w.heap.size,0,none⟩=some (.string ⟨p.c.1.toArray⟩)/\w'.cell? ⟨w.heap.size,1,none⟩=some (.string ⟨p.c.2.toArray⟩)/\w'.cell? ⟨w.heap.size,34,none⟩=some (.string ⟨p.tr.toArray⟩)/\w'.cell? ⟨w.heap.size,35,none⟩=some (.int .i64 p.st)/\w'.cell? ⟨w.heap.size,36,none⟩=some (.int .i64 p.en) from fun w' h=>IN hk h);have T2:=I (fun w1 (h:Blk w1 w.heap.size 31 (ptC p).toArray)=>DT p.ss (some ⟨w.heap.size,2,none⟩) 32 32 w1.heap.size w1 (ML h) hk.symm Ag (by omega));obtain⟨cs,cc⟩:=Ak ((ptC p).toArray);rw[<-cc] at HI CF T2⊢;clear cc;have HB:=I ((Below.refl w.heap.size w).alloc Ag (.cells cs 31));have Z:=I (Blk.new w 31 cs);have hp:=(Dw hx).2.1;have h3:=(Dw hx).2.2.1;have b1:=(AX hp).1;have b2:=AM p.st;have b3:=AM p.en;have b4:=AE 27 p.tr;have b5:=AE 4 p.ss;have T1:=I (fun w1=>Cf p.c w1 hp);have T3:=I (fun w1=>JP p.tr w1 (by omega));have T4:=I (fun w1=>CZ p.st w1);have T5:=I (fun w1=>CZ p.en w1);have HL:=I (show [prE p.c,elem 4 p.ss,elem 27 p.tr,encI p.st,encI p.en].flatten.length<=65535 by rw[Gs];simp only[List.length_append];omega);have HE:=I (show ptE p=elem 99 [prE p.c,elem 4 p.ss,elem 27 p.tr,encI p.st,encI p.en].flatten from rfl);obtain⟨l1,bz⟩:∃l,l=prE p.c:=⟨_,rfl⟩;obtain⟨l2,cn⟩:∃l,l=elem 4 p.ss:=⟨_,rfl⟩;obtain⟨l3,bx⟩:∃l,l=elem 27 p.tr:=⟨_,rfl⟩;obtain⟨l4,cj⟩:∃l,l=encI p.st:=⟨_,rfl⟩;obtain⟨l5,bn⟩:∃l,l=encI p.en:=⟨_,rfl⟩;rw[<-bz] at T1 HL HE;rw[<-cn] at T2 HL HE;rw[<-bx] at T3 HL HE;rw[<-cj] at T4 HL HE;rw[<-bn] at T5 HL HE;rw[HE.o,Gs];clear HE bz cn bx cj bn hp h3 b1 b2 b3 b4 b5 hk hx;go_enter Tryz.func231,Tryz.ntmps231
 go_wp2
 obtain⟨W,eW⟩:=Ak (w.alloc (.cells cs 31));rw[<-eW] at HB Z⊢;clear eW;replace Z:=I (show Blk W.drew _ _ _ from Z.o.drewN 1);replace HB:=I (show Below _ _ W.drew from below_drewN HB.o 1)
 go_region_held3 (fun w'=>w'.cell? ⟨w.heap.size,0,none⟩=some (.string ⟨p.c.1.toArray⟩)/\w'.cell? ⟨w.heap.size,1,none⟩=some (.string ⟨p.c.2.toArray⟩)/\w'.cell? ⟨w.heap.size,34,none⟩=some (.string ⟨p.tr.toArray⟩)/\w'.cell? ⟨w.heap.size,35,none⟩=some (.int .i64 p.st)/\w'.cell? ⟨w.heap.size,36,none⟩=some (.int .i64 p.en)) (first | exact CF.o _ Z.o | exact CF.o _ (Z.o.alloc _)) ((first
  |(go_at_call 260;(with_reducible refine Calls.mono (T1.o _) ?_);rintro e w1 ⟨⟨g1,c1,rfl,cx,cL,cb⟩,M⟩;clear T1;have O:=I cb;replace Z:=I (Z.o.below M);replace HB:=HB.t M;clear M cb cx cL)
  |(go_at_call 263;(with_reducible refine Calls.mono (T2.o _ Z.o) ?_);rintro e w2 ⟨⟨g2,c2,rfl,cw,cr,cm⟩,M⟩;clear T2;replace O:=I (Bh O.o M);have av:=I cm;replace Z:=I (Z.o.below M);replace HB:=HB.t M;clear M cm cw cr)
  |(go_at_call 271;(with_reducible refine Calls.mono (T3.o _) ?_);rintro e w3 ⟨⟨g3,c3,rfl,cB,cp,bB⟩,M⟩;clear T3;replace O:=I (Bh O.o M);replace av:=I (Bh av.o M);have aw:=I bB;replace Z:=I (Z.o.below M);replace HB:=HB.t M;clear M bB cB cp)
  |(go_at_call 261;(with_reducible refine Calls.mono (T4.o _) ?_);rintro e w4 ⟨⟨g4,c4,rfl,cy,cu,cd⟩,M⟩;clear T4;replace O:=I (Bh O.o M);replace av:=I (Bh av.o M);replace aw:=I (Bh aw.o M);have bb:=I cd;replace Z:=I (Z.o.below M);replace HB:=HB.t M;clear M cd cy cu)
  |(go_at_call 261;(with_reducible refine Calls.mono (T5.o _) ?_);rintro e w5 ⟨⟨g5,c5,rfl,cA,cq,cf⟩,M⟩;clear T5;replace O:=I (Bh O.o M);replace av:=I (Bh av.o M);replace aw:=I (Bh aw.o M);replace bb:=I (Bh bb.o M);have ct:=I cf;replace Z:=I (Z.o.below M);replace HB:=HB.t M;clear M cf cA cq)
  |(go_at_call 259;refine Calls.mono (Da 99 [l1,l2,l3,l4,l5] _ 5 5 (w5.heap.size+1) _ (Lj O.o av.o aw.o bb.o ct.o) rfl (by simp) HL.o (by simp)) ?_;rintro e wz ⟨⟨gz,cz,rfl,cg,ck,ca⟩,M⟩;have bq:=(Below.refl w5.heap.size w5).alloc Ag (.cells #[.slice (some ⟨g1,0,none⟩) l1.length c1,.slice (some ⟨g2,0,none⟩) l2.length c2,.slice (some ⟨g3,0,none⟩) l3.length c3,.slice (some ⟨g4,0,none⟩) l4.length c4,.slice (some ⟨g5,0,none⟩) l5.length c5] 34);have HG:=I (Bg (l:=elem 99 [l1,l2,l3,l4,l5].flatten) ⟨⟨gz,cz,rfl,cg,ck,ca⟩,M⟩ (HB.o.trans (bq.mono HB.o.size)));rw[Gs] at HG;replace Z:=I ((Z.o.alloc (.cells #[.slice (some ⟨g1,0,none⟩) l1.length c1,.slice (some ⟨g2,0,none⟩) l2.length c2,.slice (some ⟨g3,0,none⟩) l3.length c3,.slice (some ⟨g4,0,none⟩) l4.length c4,.slice (some ⟨g5,0,none⟩) l5.length c5] 34)).below M);clear bq cg ck ca M)))
 go_wp2
 go_ret;exact HG.o
end Mc
namespace Mc
open Go.RowKit Af DerP Ms
def trB (l:L):Bool:=decide (l.length<=300)&&txtB l
def ptB' (p:Pt):Bool:=prB p.c&&(trB p.tr&&(tmB p.st&&tmB p.en))
theorem dt (p:Pt):ptB' p=ptB p:=by
 unfold ptB' ptB trB;cases txtB p.tr<;>cases prB p.c<;>cases decide (p.tr.length<=300)<;>rfl
theorem txtf {l:L} {k:Nat} (h:k<l.length) (M:l[k].toNat<32\/126<l[k].toNat):txtB l=false:=On h M
section
attribute [local go_sem] Er List.getElem_cons_zero List.getElem_cons_succ
theorem Lz (l:L) (w:World) (ht:l.length<=1000000000):Calls Tryz.prog 270 #[.string ⟨l.toArray⟩] w fun e w'=>e=.returned (.bool (trB l))/\w=w':=by
 by_cases h3:l.length<=300
 ·have g3:decide ((300:Int)<(l.length:Int))=false:=decide_eq_false (by omega)
  have E3:=I (show trB l=txtB l by rw[trB,decide_eq_true h3];rfl);rw[E3.o];clear h3;go_enter Tryz.func270,Tryz.ntmps270
  go_wp2
  go_loop [9] (fun M=>∃k:Nat,k<=l.length/\M=.int .i64 (k:Int)/\FitT l k) (fun M=>l.length - (intOf M).toNat)
  case atStart=>exact⟨0,Nat.zero_le _,rfl,fun i _ h=>by omega⟩
  case round=>
   obtain⟨k,aw,rfl,hf⟩:=hrel;have Z:=I hf;clear hf
   by_cases hlt:k<l.length
   ·have e1:(k:Int)<(l.length:Int):=by omega
    by_cases b1:l[k].toNat<32
    ·have E:=I (txtf hlt (Or.inl b1))
     have O:decide ((l[k].toNat:Int)<32)=true:=by simp;omega
     clear b1
     go_wp2
     go_ret;exact⟨by rw[E.o];rfl,rfl⟩
    ·have O:decide ((l[k].toNat:Int)<32)=false:=by simp;omega
     by_cases b2:126<l[k].toNat
     ·have E:=I (txtf hlt (Or.inr b2))
      have av:decide (126<(l[k].toNat:Int))=true:=by simp;omega
      clear b1 b2
      go_wp2
      go_ret;exact⟨by rw[E.o];rfl,rfl⟩
     ·have av:decide (126<(l[k].toNat:Int))=false:=by simp;omega
      have HP:=I (show 32<=l[k].toNat/\l[k].toNat<=126 from⟨by omega,by omega⟩);clear b1 b2
      go_wp2
      go_round
      case rel=>exact⟨k+1,by omega,by go_num,fun i hi bb=>by
       by_cases q:i=k
       ·subst q;exact HP.o
       ·exact Z.o i hi (by omega)⟩
      case measure=>simp [intOf];omega
   ·have HT:=I (TT (fun i hi _=>Z.o i hi (by omega)))
    have e1:¬(k:Int)<(l.length:Int):=by omega
    clear Z
    go_wp2
    go_ret;exact⟨by rw[HT.o];rfl,rfl⟩
 ·have g3:decide ((300:Int)<(l.length:Int))=true:=decide_eq_true (by omega)
  have E:=I (show trB l=false by rw[trB,decide_eq_false h3];rfl);clear h3;go_enter Tryz.func270,Tryz.ntmps270
  go_wp2
  go_ret;exact⟨by rw[E.o];rfl,rfl⟩
end
theorem OD (p:Pt) (w:World) (hk:p.ss.length=32) (hs:pSm p.c) (ht:p.tr.length<=1000000000):Calls Tryz.prog 230 #[.agg (ptC p).toArray] w fun e w'=>e=.returned (.bool (ptB' p))/\Below w.heap.size w w':=by
 have HI:=I (show(Tryz.prog.info? 31).map (·.size)=some (ptC p).toArray.size by rw[FF hk];kernel_rfl);have CF:=I (show ∀w':World,Blk w' w.heap.size 31 (ptC p).toArray->w'.cell? ⟨w.heap.size,0,none⟩=some (.string ⟨p.c.1.toArray⟩)/\w'.cell? ⟨w.heap.size,1,none⟩=some (.string ⟨p.c.2.toArray⟩)/\w'.cell? ⟨w.heap.size,34,none⟩=some (.string ⟨p.tr.toArray⟩)/\w'.cell? ⟨w.heap.size,35,none⟩=some (.int .i64 p.st)/\w'.cell? ⟨w.heap.size,36,none⟩=some (.int .i64 p.en) from fun w' h=>IN hk h);obtain⟨cs,av⟩:=Ak ((ptC p).toArray);rw[<-av] at HI CF⊢;clear av;have Z:=I ((Below.refl w.heap.size w).alloc Ag (.cells cs 31));have O:=I (Blk.new w 31 cs);have T1:=I (fun w1=>AV p.c w1 hs.1 hs.2);have T2:=I (fun w1=>Lz p.tr w1 ht);have T3:=I (fun w1=>Hh p.st w1);have T4:=I (fun w1=>Hh p.en w1);obtain⟨k0,k1,k2,k3,k4⟩:=CF.o _ O.o;cases h1:prB p.c with
 |false=>
  rw[h1] at T1;have E:=I (show ptB' p=false by rw[ptB',h1];rfl);clear h1;go_enter Tryz.func230,Tryz.ntmps230
  go_wp2_with (go_at_call 66;(with_reducible refine Calls.mono (T1.o _) ?_);rintro e w1 ⟨rfl,M⟩;replace O:=I (O.o.below M);replace Z:=Z.t M;clear M T1;(try clear k0 k1 k2 k3 k4);obtain⟨k0,k1,k2,k3,k4⟩:=CF.o _ O.o)
  go_ret;exact⟨by rw[E.o];rfl,Z.o⟩
 |true=>
  rw[h1] at T1;cases h2:trB p.tr with
  |false=>
   rw[h2] at T2;have E:=I (show ptB' p=false by rw[ptB',h1,h2];rfl);clear h1 h2;go_enter Tryz.func230,Tryz.ntmps230
   go_wp2_with (first
    |(go_at_call 66;(with_reducible refine Calls.mono (T1.o _) ?_);rintro e w1 ⟨rfl,M⟩;replace O:=I (O.o.below M);replace Z:=Z.t M;clear M T1;(try clear k0 k1 k2 k3 k4);obtain⟨k0,k1,k2,k3,k4⟩:=CF.o _ O.o)
    |(go_at_call 270;(with_reducible refine Calls.mono (T2.o _) ?_);rintro e w2 ⟨rfl,hw⟩;subst hw;clear T2))
   go_ret;exact⟨by rw[E.o];rfl,Z.o⟩
  |true=>
   rw[h2] at T2;cases h3:tmB p.st with
   |false=>
    rw[h3] at T3;have E:=I (show ptB' p=false by rw[ptB',h1,h2,h3];rfl);clear h1 h2 h3;go_enter Tryz.func230,Tryz.ntmps230
    go_wp2_with (first
     |(go_at_call 66;(with_reducible refine Calls.mono (T1.o _) ?_);rintro e w1 ⟨rfl,M⟩;replace O:=I (O.o.below M);replace Z:=Z.t M;clear M T1;(try clear k0 k1 k2 k3 k4);obtain⟨k0,k1,k2,k3,k4⟩:=CF.o _ O.o)
     |(go_at_call 270;(with_reducible refine Calls.mono (T2.o _) ?_);rintro e w2 ⟨rfl,hw⟩;subst hw;clear T2)
     |(go_at_call 254;(with_reducible refine Calls.mono (T3.o _) ?_);rintro e w3 ⟨rfl,hw⟩;subst hw;clear T3))
    go_ret;exact⟨by rw[E.o];rfl,Z.o⟩
   |true=>
    rw[h3] at T3;have E:=I (show ptB' p=tmB p.en by rw[ptB',h1,h2,h3];rfl);clear h1 h2 h3;go_enter Tryz.func230,Tryz.ntmps230
    go_wp2_with (first
     |(go_at_call 66;(with_reducible refine Calls.mono (T1.o _) ?_);rintro e w1 ⟨rfl,M⟩;replace O:=I (O.o.below M);replace Z:=Z.t M;clear M T1;(try clear k0 k1 k2 k3 k4);obtain⟨k0,k1,k2,k3,k4⟩:=CF.o _ O.o)
     |(go_at_call 270;(with_reducible refine Calls.mono (T2.o _) ?_);rintro e w2 ⟨rfl,hw⟩;subst hw;clear T2)
     |(go_at_call 254;(with_reducible refine Calls.mono (T3.o _) ?_);rintro e w3 ⟨rfl,hw⟩;subst hw;clear T3)
     |(go_at_call 254;(with_reducible refine Calls.mono (T4.o _) ?_);rintro e w4 ⟨rfl,hw⟩;subst hw;clear T4))
    go_ret;exact⟨by rw[E.o];rfl,Z.o⟩
theorem QU (p:Pt) (w:World) (hk:p.ss.length=32) (hs:pSm p.c) (M:p.tr.length<=1000000000):Calls Tryz.prog 230 #[.agg (ptC p).toArray] w fun e w'=>e=.returned (.bool (ptB p))/\Below w.heap.size w w':=by
 rw[<-dt];exact OD p w hk hs M
open DerR
theorem Ij (l:L) (A:Option Addr) (n c:Nat) (w:World) (M:n=l.length) (h:l.length<=2000):Calls Tryz.prog 178 #[.slice A n c] w fun e w'=>e=.returned (.tuple #[.slice A n c,.int .i64 0])/\w=w':=by
 subst M;have O:decide ((2000:Int)<(l.length:Int))=false:=decide_eq_false (by omega);clear h;go_enter Tryz.func178,Tryz.ntmps178
 go_wp2
 go_ret2
 exact⟨rfl,rfl⟩
theorem du {a:An} (M:anB a=true):(anE a).length<=2000:=by
 have hp:prB a.c=true/\tmB a.t=true/\tmB a.q=true:=by simpa [anB] using M
 have b1:=(AX hp.1).1;have b2:=AM a.t;have b3:=AM a.q;have:=AE 98 [prE a.c,encI a.t,encI a.q].flatten;rw[anE];rw[DN] at this⊢;simp only[List.length_append] at this;omega
theorem dw {p:Pt} (hk:p.ss.length=32) (M:ptB p=true):(ptE p).length<=2000:=by
 have hp:=(Dw M).2.1;have h3:=(Dw M).2.2.1;have b1:=(AX hp).1;have b2:=AM p.st;have b3:=AM p.en;have O:=AE 27 p.tr;have Z:=AE 4 p.ss;have:=AE 99 [prE p.c,elem 4 p.ss,elem 27 p.tr,encI p.st,encI p.en].flatten;rw[ptE];rw[Gs] at this⊢;simp only[List.length_append] at this;omega
theorem MV (a:An) (w:World) (hs:pSm a.c):Calls Tryz.prog 189 #[.agg #[.string ⟨a.c.1.toArray⟩,.string ⟨a.c.2.toArray⟩,.int .i64 a.t,.int .i64 a.q]] w (EncR w (anO a)):=by
 have HI:=I (show(Tryz.prog.info? 33).map (·.size)=some (#[.string ⟨a.c.1.toArray⟩,.string ⟨a.c.2.toArray⟩,.int .i64 a.t,.int .i64 a.q]:Array Value).size by kernel_rfl);have I1:=I (fun w1=>OB a w1 hs);have T0:=I (fun(M:anB a=true)=>fun w1=>MU a w1 M);have O:=I (fun(M:anB a=true)=>du M);obtain⟨cs,av⟩:∃cs:Array Value,cs=#[.string ⟨a.c.1.toArray⟩,.string ⟨a.c.2.toArray⟩,.int .i64 a.t,.int .i64 a.q]:=⟨_,rfl⟩;rw[<-av] at HI I1 T0⊢;clear av;have HB:=I ((Below.refl w.heap.size w).alloc Ag (.cells cs 33));have HK:=I (Blk.new w 33 cs);cases M:anB a with
 |false=>
  rw[M] at I1;have E:=I (show anO a=none by unfold anO limO;rw[M];rfl);rw[E.o];clear M E T0 O hs;go_enter Tryz.func189,Tryz.ntmps189
  go_wp2_with (first
   |(refine Am (by rfl) 33 (.tmp 1) (by rfl) w.heap.size 0 (by rfl) cs _ (Ad HK.o) Tryz.underlying33 (by rfl) HI.o ?_)
   |(go_at_call 232;refine Aj (I1.o _) ?_;rintro w1 hb;replace HB:=HB.t hb;clear hb I1)
   |fail)
  go_ret2
  exact FW HB.o
 |true=>
  rw[M] at I1;have T1:=I (T0.o M);have Z:=O.o M;have E:=I (show anO a=some (anE a) from BS.2 ⟨M,Z,rfl⟩);rw[E.o];obtain⟨l,el⟩:=Ak (anE a);rw[<-el] at T1 Z⊢;have LM:=I (fun A c w1=>Ij l A _ c w1 rfl Z);clear M E el Z T0 O hs;go_enter Tryz.func189,Tryz.ntmps189
  go_wp2_with (first
   |(refine Am (by rfl) 33 (.tmp 1) (by rfl) w.heap.size 0 (by rfl) cs _ (Ad HK.o) Tryz.underlying33 (by rfl) HI.o ?_)
   |(go_at_call 232;refine Aj (I1.o _) ?_;rintro w1 hb;replace HK:=I (HK.o.below hb);replace HB:=HB.t hb;clear hb I1)
   |(go_at_call 233;refine Calls.mono (T1.o _) ?_;rintro e w2 ⟨⟨g,c,rfl,h2,h3,h4⟩,hb⟩;have HG:=I (Bg (l:=l) ⟨⟨g,c,rfl,h2,h3,h4⟩,hb⟩ HB.o);clear h2 h3 h4 hb T1)
   |(go_at_call 178;refine Aj (LM.o _ _ _) ?_;rintro wy rfl;clear LM)
   |fail)
  go_ret2
  exact FX HG.o
theorem OE (p:Pt) (w:World) (hk:p.ss.length=32) (hs:pSm p.c) (ht:p.tr.length<=1000000000):Calls Tryz.prog 186 #[.agg (ptC p).toArray] w (EncR w (ptO p)):=by
 have HI:=I (show(Tryz.prog.info? 31).map (·.size)=some ((ptC p).toArray:Array Value).size by rw[FF hk];kernel_rfl);have I1:=I (fun w1=>QU p w1 hk hs ht);have T0:=I (fun(M:ptB p=true)=>fun w1=>OC p w1 hk M);have O:=I (fun(M:ptB p=true)=>dw hk M);obtain⟨cs,av⟩:∃cs:Array Value,cs=(ptC p).toArray:=⟨_,rfl⟩;rw[<-av] at HI I1 T0⊢;clear av;have HB:=I ((Below.refl w.heap.size w).alloc Ag (.cells cs 31));have HK:=I (Blk.new w 31 cs);cases M:ptB p with
 |false=>
  rw[M] at I1;have E:=I (show ptO p=none by unfold ptO limO;rw[M];rfl);rw[E.o];clear M E T0 O hs hk ht;go_enter Tryz.func186,Tryz.ntmps186
  go_wp2_with (first
   |(refine Am (by rfl) 31 (.tmp 1) (by rfl) w.heap.size 0 (by rfl) cs _ (Ad HK.o) Tryz.underlying31 (by rfl) HI.o ?_)
   |(go_at_call 230;refine Aj (I1.o _) ?_;rintro w1 hb;replace HB:=HB.t hb;clear hb I1)
   |fail)
  go_ret2
  exact FW HB.o
 |true=>
  rw[M] at I1;have T1:=I (T0.o M);have Z:=O.o M;have E:=I (show ptO p=some (ptE p) from BS.2 ⟨M,Z,rfl⟩);rw[E.o];obtain⟨l,el⟩:=Ak (ptE p);rw[<-el] at T1 Z⊢;have LM:=I (fun A c w1=>Ij l A _ c w1 rfl Z);clear M E el Z T0 O hs hk ht;go_enter Tryz.func186,Tryz.ntmps186
  go_wp2_with (first
   |(refine Am (by rfl) 31 (.tmp 1) (by rfl) w.heap.size 0 (by rfl) cs _ (Ad HK.o) Tryz.underlying31 (by rfl) HI.o ?_)
   |(go_at_call 230;refine Aj (I1.o _) ?_;rintro w1 hb;replace HK:=I (HK.o.below hb);replace HB:=HB.t hb;clear hb I1)
   |(go_at_call 231;refine Calls.mono (T1.o _) ?_;rintro e w2 ⟨⟨g,c,rfl,h2,h3,h4⟩,hb⟩;have HG:=I (Bg (l:=l) ⟨⟨g,c,rfl,h2,h3,h4⟩,hb⟩ HB.o);clear h2 h3 h4 hb T1)
   |(go_at_call 178;refine Aj (LM.o _ _ _) ?_;rintro wy rfl;clear LM)
   |fail)
  go_ret2
  exact FX HG.o
end Mc
namespace Mc
open DerP Ms
def prQ (c:Option L):Pr×Option L:=(prI (AP 48 c),Bb 48 c)
def tkQ (c:Option L):Tk×Option L:=(⟨(prQ (AP 97 c)).1,((intC (prQ (AP 97 c)).2).1:Int),ocC (intC (prQ (AP 97 c)).2).2⟩,Bb 97 c)
def keQ (c:Option L):L×Option L:=((ocC c++key0).take 32,Bb 4 c)
theorem Uz (c:Option L):(keQ c).1.length=32:=by
 show((ocC c++key0).take 32).length=32;rw[List.length_take,List.length_append,show key0.length=32 from rfl];omega
def ptQ (b:L):Pt×Option L:=
 let c1:=prQ (AP 99 (some b));let c2:=keQ c1.2;let c3:=Bb 27 c2.2;let c4:=nmP c3;let c5:=nmP c4.2
 (⟨c1.1,c2.1,txC c2.2,c4.1,c5.1⟩,c5.2)
def anQ (b:L):An×Option L:=
 let c1:=prQ (AP 98 (some b));let c2:=nmP c1.2;let c3:=nmP c2.2
 (⟨c1.1,c2.1,c3.1⟩,c3.2)
def asQ (c:Option L):As×Option L:=
 let c1:=prQ c;let c2:=prQ c1.2;let c3:=nmP c2.2;let c4:=nmP c3.2
 (⟨c1.1,c2.1,c3.1,c4.1⟩,c4.2)
def tgQ (c:Option L):Tg×Option L:=
 let c1:=tkQ c;let c2:=Bb 4 c1.2;let c3:=prQ c2;let c4:=nmP c3.2;let c5:=nmP c4.2
 (⟨c1.1,ocC c1.2,c3.1,c4.1,c5.1⟩,c5.2)
def reQ (c:Option L):Re×Option L:=
 let c1:=prQ c;let c2:=tkQ c1.2
 (⟨c1.1,c2.1,ocC c2.2⟩,Bb 4 c2.2)
def apQ (c:Option L):Ap×Option L:=
 let c1:=tkQ c
 (⟨c1.1,ocC c1.2⟩,Bb 4 c1.2)
def faQ (c:Option L):Fa×Option L:=
 let c1:=nmP c;let c2:=nmP c1.2
 (⟨c1.1,c2.1⟩,c2.2)
def mgQ (b:L):Mg:=
 match b with
 | []=>mg0
 |t :: _=>
  if t=106 then ⟨1,(asQ (AP 106 (some b))).1,tg0,re0,ap0,fa0⟩
  else if t=108 then ⟨2,as0,(tgQ (AP 108 (some b))).1,re0,ap0,fa0⟩
  else if t=107 then ⟨3,as0,tg0,(reQ (AP 107 (some b))).1,ap0,fa0⟩
  else if t=110 then ⟨4,as0,tg0,re0,(apQ (AP 110 (some b))).1,fa0⟩
  else if t=126 then ⟨5,as0,tg0,re0,ap0,(faQ (AP 126 (some b))).1⟩
  else mg0
theorem Fm {p:Pr} (h:prB p=true) (r:L):prQ (some (prE p++r))=(p,some r):=by
 have O:=GU h;have M:=(AX h).2;rw[prQ,prE,be (by omega),ne (by omega),Dk,prI,VW (by omega),ne (by omega),XL (by omega)]
theorem aE {n:Int} (O:0<=n) (M:n<=4611686018427387904) (r:L):((intC (some (encI n++r))).1:Int)=n/\(intC (some (encI n++r))).2=some r:=by
 have:=Dl O M r;rw[nmP] at this;injection this with a b;exact⟨a,b⟩
theorem LA {t:Tk} (h:tkB t=true) (r:L):tkQ (some (tkE t++r))=(t,some r):=by
 obtain⟨O,Z,h3⟩:=GV h;have h4:=(Cq h).2;have M:=aE (n:=t.k) (by omega) (by omega) (elem 4 t.b);rw[tkQ,tkE,be (by omega),ne (by omega),DN,Fm O,M.1,M.2,Kj (by omega)]
theorem WZ {k:L} (h:k.length=32) (r:L):keQ (some (elem 4 k++r))=(k,some r):=by
 rw[keQ,VX (by omega),ne (by omega),List.take_append_of_le_length (by omega),List.take_of_length_le (by omega)]
theorem Xa {p:Pt} (h:ptB p=true) (hk:p.ss.length=32):ptQ (ptE p)=(p,some []):=by
 obtain⟨_,M,h3,O,Z⟩:=Dw h;have t4:=Bl O;have t5:=Bl Z;have l1:=(AX M).1;have l2:=AE 4 p.ss;have l3:=AE 27 p.tr;have l4:=AM p.st;have l5:=AM p.en;have l6:[prE p.c,elem 4 p.ss,elem 27 p.tr,encI p.st,encI p.en].flatten.length<=65535:=by simp only[List.flatten_cons,List.flatten_nil,List.length_append,List.length_nil];omega
 rw[ptQ,ptE,be0 l6,Gs,Fm M];simp only;rw[WZ hk];simp only;rw[VW (by omega),ne (by omega),Dl (by omega) (by omega)];simp only;rw[Dv (by omega) (by omega)]
theorem Xb {a:An} (h:anB a=true):anQ (anE a)=(a,some []):=by
 have O:prB a.c=true/\tmB a.t=true/\tmB a.q=true:=by simpa [anB] using h
 obtain⟨M,h4,Z⟩:=O;have t4:=Bl h4;have t5:=Bl Z;have l1:=(AX M).1;have l4:=AM a.t;have l5:=AM a.q;have l6:[prE a.c,encI a.t,encI a.q].flatten.length<=65535:=by simp only[List.flatten_cons,List.flatten_nil,List.length_append,List.length_nil];omega
 rw[anQ,anE,be0 l6,DN,Fm M];simp only;rw[Dl (by omega) (by omega)];simp only;rw[Dv (by omega) (by omega)]
theorem Xc {q:As} (h:asB q=true):AP 106 (some (asE q))=some [prE q.c,prE q.s,encI q.t,encI q.no].flatten/\asQ (some [prE q.c,prE q.s,encI q.t,encI q.no].flatten)=(q,some []):=by
 have Z:prB q.c=true/\prB q.s=true/\tmB q.t=true/\tmB q.no=true:=by simpa [asB] using h
 obtain⟨O,M,h4,h5⟩:=Z;have t4:=Bl h4;have t5:=Bl h5;have l1:=(AX O).1;have l2:=(AX M).1;have l4:=AM q.t;have l5:=AM q.no;have l7:[prE q.c,prE q.s,encI q.t,encI q.no].flatten.length<=65535:=by simp only[List.flatten_cons,List.flatten_nil,List.length_append,List.length_nil];omega
 refine⟨by rw[asE,be0 l7],?_⟩;rw[Qs,asQ,Fm O];simp only;rw[Fm M];simp only;rw[Dl (by omega) (by omega)];simp only;rw[Dv (by omega) (by omega)]
theorem Xd {q:Tg} (h:tgB q=true):AP 108 (some (tgE q))=some [tkE q.t,elem 4 q.a,prE q.s,encI q.u,encI q.no].flatten/\tgQ (some [tkE q.t,elem 4 q.a,prE q.s,encI q.u,encI q.no].flatten)=(q,some []):=by
 have Z:tkB q.t=true/\BQ q.a=true/\prB q.s=true/\tmB q.u=true/\tmB q.no=true:=by simpa [tgB] using h
 obtain⟨O,h3,M,h4,h5⟩:=Z;have t4:=Bl h4;have t5:=Bl h5;have b3:=Bm h3;have l1:=(Cq O).1;have l2:=AE 4 q.a;have l3:=(AX M).1;have l4:=AM q.u;have l5:=AM q.no;have l7:[tkE q.t,elem 4 q.a,prE q.s,encI q.u,encI q.no].flatten.length<=65535:=by simp only[List.flatten_cons,List.flatten_nil,List.length_append,List.length_nil];omega
 refine⟨by rw[tgE,be0 l7],?_⟩;rw[Gs,tgQ,LA O];simp only;rw[VX (by omega),ne (by omega),Fm M];simp only;rw[Dl (by omega) (by omega)];simp only;rw[Dv (by omega) (by omega)]
theorem Xe {q:Re} (h:reB q=true):AP 107 (some (reE q))=some [prE q.c,tkE q.t,elem 4 q.b].flatten/\reQ (some [prE q.c,tkE q.t,elem 4 q.b].flatten)=(q,some []):=by
 have Z:prB q.c=true/\tkB q.t=true/\BQ q.b=true:=by simpa [reB] using h
 obtain⟨M,O,h4⟩:=Z;have b3:=Bm h4;have l1:=(AX M).1;have l2:=(Cq O).1;have l3:=AE 4 q.b;have l7:[prE q.c,tkE q.t,elem 4 q.b].flatten.length<=65535:=by simp only[List.flatten_cons,List.flatten_nil,List.length_append,List.length_nil];omega
 refine⟨by rw[reE,be0 l7],?_⟩;rw[DN,reQ,Fm M];simp only;rw[LA O];simp only;rw[Kj (by omega),ne0 (by omega)]
theorem Xf {q:Ap} (h:apB q=true):AP 110 (some (apE q))=some [tkE q.t,elem 4 q.a].flatten/\apQ (some [tkE q.t,elem 4 q.a].flatten)=(q,some []):=by
 have O:tkB q.t=true/\BQ q.a=true:=by simpa [apB] using h
 obtain⟨M,Z⟩:=O;have b3:=Bm Z;have l2:=(Cq M).1;have l3:=AE 4 q.a;have l7:[tkE q.t,elem 4 q.a].flatten.length<=65535:=by simp only[List.flatten_cons,List.flatten_nil,List.length_append,List.length_nil];omega
 refine⟨by rw[apE,be0 l7],?_⟩;rw[Dk,apQ,LA M];simp only;rw[Kj (by omega),ne0 (by omega)]
theorem Xg {q:Fa} (h:faB q=true):AP 126 (some (faE q))=some [encI q.e,encI q.no].flatten/\faQ (some [encI q.e,encI q.no].flatten)=(q,some []):=by
 have M:(1<=q.e/\q.e<=255)/\tmB q.no=true:=by simpa [faB,inB] using h
 obtain⟨h3,O⟩:=M;have t4:=Bl O;have l2:=AM q.e;have l3:=AM q.no;have Z:[encI q.e,encI q.no].flatten.length<=65535:=by simp only[List.flatten_cons,List.flatten_nil,List.length_append,List.length_nil];omega
 refine⟨by rw[faE,be0 Z],?_⟩;rw[Dk,faQ,Dl (by omega) (by omega)];simp only;rw[Dv (by omega) (by omega)]
theorem Xh {m:Mg} (h:mgB m=true):mgQ (mgE m)=m:=by
 rcases GW h with⟨O,e⟩ | ⟨O,e⟩ | ⟨O,e⟩ | ⟨O,e⟩ | ⟨O,e⟩
 ·have M:=Xc O
  have Z:mgE m=asE m.aq:=by rw[e];rfl
  rw[Z]
  conv=>rhs;rw[e]
  show(⟨1,(asQ (AP 106 (some (asE m.aq)))).1,tg0,re0,ap0,fa0⟩:Mg)=_;rw[M.1,M.2]
 ·have M:=Xd O
  have Z:mgE m=tgE m.tg:=by rw[e];rfl
  rw[Z]
  conv=>rhs;rw[e]
  show(⟨2,as0,(tgQ (AP 108 (some (tgE m.tg)))).1,re0,ap0,fa0⟩:Mg)=_;rw[M.1,M.2]
 ·have M:=Xe O
  have Z:mgE m=reE m.re:=by rw[e];rfl
  rw[Z]
  conv=>rhs;rw[e]
  show(⟨3,as0,tg0,(reQ (AP 107 (some (reE m.re)))).1,ap0,fa0⟩:Mg)=_;rw[M.1,M.2]
 ·have M:=Xf O
  have Z:mgE m=apE m.ap:=by rw[e];rfl
  rw[Z]
  conv=>rhs;rw[e]
  show(⟨4,as0,tg0,re0,(apQ (AP 110 (some (apE m.ap)))).1,fa0⟩:Mg)=_;rw[M.1,M.2]
 ·have M:=Xg O
  have Z:mgE m=faE m.fa:=by rw[e];rfl
  rw[Z]
  conv=>rhs;rw[e]
  show(⟨5,as0,tg0,re0,ap0,(faQ (AP 126 (some (faE m.fa)))).1⟩:Mg)=_;rw[M.1,M.2]
theorem aF (b:L):mgD b=if mgO (mgQ b)=some b then some (mgQ b) else none:=by
 split
 ·rename_i h;exact SE.2 h
 ·rename_i h
  cases hd:mgD b with
  |none=>rfl
  |some m=>
   exfalso
   have M:=SE.1 hd;have O:=BS.1 M;apply h;have e:mgQ b=m:=by rw[<-O.2.2];exact Xh O.1
   rw[e];exact M
theorem aG (b:L):anD b=if anO (anQ b).1=some b then some (anQ b).1 else none:=by
 split
 ·rename_i h;exact SF.2 h
 ·rename_i h
  cases hd:anD b with
  |none=>rfl
  |some m=>
   exfalso
   have M:=SF.1 hd;have O:=BS.1 M;apply h;have e:(anQ b).1=m:=by rw[<-O.2.2,Xb O.1]
   rw[e];exact M
theorem LD (b:L):(ptQ b).1.ss.length=32:=Uz _
theorem UA (b:L):ptD b=if ptO (ptQ b).1=some b then some (ptQ b).1 else none:=by
 split
 ·rename_i h;exact(bD (LD b)).2 h
 ·rename_i h
  cases hd:ptD b with
  |none=>rfl
  |some m=>
   exfalso
   have M:=(Zb hd).1;have O:=BS.1 M;apply h;have hk:m.ss.length=32:=by
    have:=(Zb hd).2;have e:(ptP b).1=m:=by rw[this]
    rw[<-e];exact XM _
   have e:(ptQ b).1=m:=by rw[<-O.2.2,Xa O.1 hk]
   rw[e];exact M
end Mc
end Go.Proofs.YtfbnjcdhipplpaaGreat
