import Derived.Test.YthgignaohimadaaGreatZKdcRoutes12
set_option maxHeartbeats 25600000
set_option maxRecDepth 100000
set_option linter.unusedVariables false
set_option linter.unusedSimpArgs false
namespace Go.Proofs.YthgignaohimadaaGreat
namespace Mc
open DerP Ms
def prQ (c:Option L):Pr×Option L:=(prI (Bp 48 c),BN 48 c)
def keQ (c:Option L):L×Option L:=((ocC c++key0).take 32,BN 4 c)
theorem UL (c:Option L):(keQ c).1.length=32:=by
 show((ocC c++key0).take 32).length=32;rw[List.length_take,List.length_append,show key0.length=32 from rfl];omega
def ptQ (b:L):Pt×Option L:=
 let c1:=prQ (Bp 99 (some b));let c2:=keQ c1.2;let c3:=BN 27 c2.2;let c4:=nmP c3;let c5:=nmP c4.2
 (⟨c1.1,c2.1,txC c2.2,c4.1,c5.1⟩,c5.2)
def anQ (b:L):An×Option L:=
 let c1:=prQ (Bp 98 (some b));let c2:=nmP c1.2;let c3:=nmP c2.2
 (⟨c1.1,c2.1,c3.1⟩,c3.2)
theorem Qk {p:Pr} (h:prB p=true) (r:L):prQ (some (prE p++r))=(p,some r):=by
 have D:=Ft h;have E:=(Bl h).2;rw[prQ,prE,be (by omega),ne (by omega),Gc,prI,Ww (by omega),ne (by omega),XX (by omega)]
theorem Xs {k:L} (h:k.length=32) (r:L):keQ (some (elem 4 k++r))=(k,some r):=by
 rw[keQ,bN (by omega),ne (by omega),List.take_append_of_le_length (by omega),List.take_of_length_le (by omega)]
theorem Xt {p:Pt} (h:ptB p=true) (hk:p.ss.length=32):ptQ (ptE p)=(p,some []):=by
 obtain⟨_,D,O,J,F⟩:=Dl h;have N:=DR J;have M:=DR F;have l1:=(Bl D).1;have l2:=AE 4 p.ss;have l3:=AE 27 p.tr;have l4:=AI p.st;have l5:=AI p.en;have E:[prE p.c,elem 4 p.ss,elem 27 p.tr,encI p.st,encI p.en].flatten.length<=65535:=by simp only[List.flatten_cons,List.flatten_nil,List.length_append,List.length_nil];omega
 rw[ptQ,ptE,be0 E,Fu,Qk D];simp only;rw[Xs hk];simp only;rw[Ww (by omega),ne (by omega),JE (by omega) (by omega)];simp only;rw[IZ (by omega) (by omega)]
theorem Xu {a:An} (h:anB a=true):anQ (anE a)=(a,some []):=by
 have J:prB a.c=true/\tmB a.t=true/\tmB a.q=true:=by simpa [anB] using h
 obtain⟨D,M,F⟩:=J;have O:=DR M;have N:=DR F;have l1:=(Bl D).1;have l4:=AI a.t;have l5:=AI a.q;have E:[prE a.c,encI a.t,encI a.q].flatten.length<=65535:=by simp only[List.flatten_cons,List.flatten_nil,List.length_append,List.length_nil];omega
 rw[anQ,anE,be0 E,Gd,Qk D];simp only;rw[JE (by omega) (by omega)];simp only;rw[IZ (by omega) (by omega)]
theorem aO (b:L):anD b=if anO (anQ b).1=some b then some (anQ b).1 else none:=by
 split
 ·rename_i h;exact XZ.2 h
 ·rename_i h
  cases hd:anD b with
  |none=>rfl
  |some m=>
   exfalso
   have E:=XZ.1 hd;have D:=Dg.1 E;apply h;have e:(anQ b).1=m:=by rw[<-D.2.2,Xu D.1]
   rw[e];exact E
theorem LO (b:L):(ptQ b).1.ss.length=32:=UL _
theorem UM (b:L):ptD b=if ptO (ptQ b).1=some b then some (ptQ b).1 else none:=by
 split
 ·rename_i h;exact(XY (LO b)).2 h
 ·rename_i h
  cases hd:ptD b with
  |none=>rfl
  |some m=>
   exfalso
   have E:=(bO hd).1;have D:=Dg.1 E;apply h;have hk:m.ss.length=32:=by
    have:=(bO hd).2;have e:(ptP b).1=m:=by rw[this]
    rw[<-e];exact Ya _
   have e:(ptQ b).1=m:=by rw[<-D.2.2,Xt D.1 hk]
   rw[e];exact E
open Go.RowKit Af
theorem dD (x y:Fa) (w:World):(Op.equalIn 10000 90 (.agg #[.int .i64 x.e,.int .i64 x.no]) (.agg #[.int .i64 y.e,.int .i64 y.no])).run Tryz.prog w=.ok (decide (x=y)) w:=by
 obtain⟨e,no⟩:=x;obtain⟨E,D⟩:=y;simp only
 by_cases h0:e=E
 ·subst h0
  by_cases h1:no=D
  ·subst h1
   rw[decide_eq_true rfl]
   go_simp
  ·rw[decide_eq_false (fun h=>h1 (congrArg (fun z=>z.no) h))]
   go_simp
 ·rw[decide_eq_false (fun h=>h0 (congrArg (fun z=>z.e) h))]
  go_simp
theorem dE (x y:As) (w:World):(Op.equalIn 10000 86 (.agg #[.string ⟨x.c.1.toArray⟩,.string ⟨x.c.2.toArray⟩,.string ⟨x.s.1.toArray⟩,.string ⟨x.s.2.toArray⟩,.int .i64 x.t,.int .i64 x.no]) (.agg #[.string ⟨y.c.1.toArray⟩,.string ⟨y.c.2.toArray⟩,.string ⟨y.s.1.toArray⟩,.string ⟨y.s.2.toArray⟩,.int .i64 y.t,.int .i64 y.no])).run Tryz.prog w=.ok (decide (x=y)) w:=by
 obtain⟨⟨a,b⟩,⟨c,d⟩,t,no⟩:=x;obtain⟨⟨F,b2⟩,⟨c2,d2⟩,E,D⟩:=y;simp only
 by_cases h0:a=F
 ·subst h0
  by_cases h1:b=b2
  ·subst h1
   by_cases h2:c=c2
   ·subst h2
    by_cases h3:d=d2
    ·subst h3
     by_cases h4:t=E
     ·subst h4
      by_cases h5:no=D
      ·subst h5
       rw[decide_eq_true rfl]
       go_simp
      ·rw[decide_eq_false (fun h=>h5 (congrArg (fun z=>z.no) h))]
       go_simp
     ·rw[decide_eq_false (fun h=>h4 (congrArg (fun z=>z.t) h))]
      go_simp
    ·rw[decide_eq_false (fun h=>h3 (congrArg (fun z=>z.s.2) h))]
     go_simp
   ·rw[decide_eq_false (fun h=>h2 (congrArg (fun z=>z.s.1) h))]
    go_simp
  ·rw[decide_eq_false (fun h=>h1 (congrArg (fun z=>z.c.2) h))]
   go_simp
 ·rw[decide_eq_false (fun h=>h0 (congrArg (fun z=>z.c.1) h))]
  go_simp
theorem Ik (a b:L) (A D:Option Addr) (c d B:Nat) (w:World) (h:Rd w B A (bvs a)) (g:Rd w B D (bvs b)):Calls Tryz.prog 146 #[.slice A a.length c,.slice D b.length d] w fun e w'=>e=.returned (.bool (decide (a=b)))/\w=w':=by
 have J:=Dt (P:=Tryz.prog) w 27 5 Tryz.underlying27 Tryz.underlying5 h a.length c rfl 9 Tryz.underlying9;have F:=Dt (P:=Tryz.prog) w 27 5 Tryz.underlying27 Tryz.underlying5 g b.length d rfl 9 Tryz.underlying9;clear h g
 by_cases e:a=b
 ·have M:(a==b)=true:=by simpa using e
  have E:=I (decide_eq_true e);clear e;go_enter Tryz.func146,Tryz.ntmps146
  go_wp2
  go_ret;exact⟨by rw[E.o];rfl,rfl⟩
 ·have M:(a==b)=false:=by simpa using e
  have E:=I (decide_eq_false e);clear e;go_enter Tryz.func146,Tryz.ntmps146
  go_wp2
  go_ret;exact⟨by rw[E.o];rfl,rfl⟩
theorem Il (x y:Tk) (A1 F:Option Addr) (c1 O:Nat) (w:World) (Z:Rd w w.heap.size A1 (bvs x.b)) (g1:Rd w w.heap.size F (bvs y.b)) :
  Calls Tryz.prog 206 #[.agg #[.string ⟨x.s.1.toArray⟩,.string ⟨x.s.2.toArray⟩,.int .i64 x.k,.slice A1 x.b.length c1],.agg #[.string ⟨y.s.1.toArray⟩,.string ⟨y.s.2.toArray⟩,.int .i64 y.k,.slice F y.b.length O]] w fun e w'=>e=.returned (.bool (decide (x=y)))/\Below w.heap.size w w':=by
 obtain⟨⟨r,n⟩,k,b⟩:=x;obtain⟨⟨N,J⟩,k2,b2⟩:=y;simp only at Z g1⊢;have D:=I (((Below.refl w.heap.size w).alloc Ag (.cells #[.string ⟨List.toArray r⟩,.string ⟨List.toArray n⟩,.int .i64 k,.slice A1 b.length c1] 29)).alloc (by simp) (.cells #[.string ⟨List.toArray N⟩,.string ⟨List.toArray J⟩,.int .i64 k2,.slice F b2.length O] 29));have HX:=I ((Blk.new w 29 #[.string ⟨List.toArray r⟩,.string ⟨List.toArray n⟩,.int .i64 k,.slice A1 b.length c1]).alloc (.cells #[.string ⟨List.toArray N⟩,.string ⟨List.toArray J⟩,.int .i64 k2,.slice F b2.length O] 29));have hy:=Blk.new (w.alloc (.cells #[.string ⟨List.toArray r⟩,.string ⟨List.toArray n⟩,.int .i64 k,.slice A1 b.length c1] 29)) 29 #[.string ⟨List.toArray N⟩,.string ⟨List.toArray J⟩,.int .i64 k2,.slice F b2.length O];rw[show(w.alloc (.cells #[.string ⟨List.toArray r⟩,.string ⟨List.toArray n⟩,.int .i64 k,.slice A1 b.length c1] 29)).heap.size=w.heap.size+1 by simp] at hy;have HY:=I hy;clear hy;have M:=I (fun w1 (h:Below w.heap.size w w1)=>Ik b b2 A1 F c1 O w.heap.size w1 (Z.below h) (g1.below h));clear Z g1
 by_cases e0a:r=N
 ·subst e0a
  by_cases e0b:n=J
  ·subst e0b
   by_cases e1:k=k2
   ·subst e1
    have t1:(k==k)=true:=by simp
    cases e2:decide (b=b2) with
    |false=>
     have E:=I (show decide ((⟨(r,n),k,b⟩:Tk)=⟨(r,n),k,b2⟩)=false from decide_eq_false (fun h=>of_decide_eq_false e2 (congrArg Tk.b h)));rw[e2] at M;clear e2;go_enter Tryz.func206,Tryz.ntmps206
     go_wp2_with (go_at_call 146;refine Calls.mono (M.o _ D.o) ?_;rintro e4 aw ⟨rfl,hw⟩;subst hw;clear M)
     go_ret;exact⟨by rw[E.o];rfl,D.o⟩
    |true=>
     rw[e2] at M;have bx:=of_decide_eq_true e2;clear e2;subst bx;have E:=I (show decide ((⟨(r,n),k,b⟩:Tk)=⟨(r,n),k,b⟩)=true from decide_eq_true rfl);go_enter Tryz.func206,Tryz.ntmps206
     go_wp2_with (go_at_call 146;refine Calls.mono (M.o _ D.o) ?_;rintro e4 aw ⟨rfl,hw⟩;subst hw;clear M)
     go_ret;exact⟨by rw[E.o];rfl,D.o⟩
   ·have t1:(k==k2)=false:=by simpa using e1
    have E:=I (show decide ((⟨(r,n),k,b⟩:Tk)=⟨(r,n),k2,b2⟩)=false from decide_eq_false (fun h=>e1 (congrArg Tk.k h)));go_enter Tryz.func206,Tryz.ntmps206
    go_wp2
    go_ret;exact⟨by rw[E.o];rfl,D.o⟩
  ·have E:=I (show decide ((⟨(r,n),k,b⟩:Tk)=⟨(r,J),k2,b2⟩)=false from decide_eq_false (fun h=>e0b (congrArg (fun t=>t.s.2) h)))
   go_enter Tryz.func206,Tryz.ntmps206
   go_wp2
   go_ret;exact⟨by rw[E.o];rfl,D.o⟩
 ·have E:=I (show decide ((⟨(r,n),k,b⟩:Tk)=⟨(N,J),k2,b2⟩)=false from decide_eq_false (fun h=>e0a (congrArg (fun t=>t.s.1) h)))
  go_enter Tryz.func206,Tryz.ntmps206
  go_wp2
  go_ret;exact⟨by rw[E.o];rfl,D.o⟩
theorem OP (x y:Tg) (A1 A2 D1 D2:Option Addr) (c1 c2 d1 d2:Nat) (w:World) (h1:Rd w w.heap.size A1 (bvs x.t.b)) (g1:Rd w w.heap.size D1 (bvs y.t.b)) (h2:Rd w w.heap.size A2 (bvs x.a)) (g2:Rd w w.heap.size D2 (bvs y.a)) :
  Calls Tryz.prog 176 #[.agg #[.string ⟨x.t.s.1.toArray⟩,.string ⟨x.t.s.2.toArray⟩,.int .i64 x.t.k,.slice A1 x.t.b.length c1,.slice A2 x.a.length c2,.string ⟨x.s.1.toArray⟩,.string ⟨x.s.2.toArray⟩,.int .i64 x.u,.int .i64 x.no],.agg #[.string ⟨y.t.s.1.toArray⟩,.string ⟨y.t.s.2.toArray⟩,.int .i64 y.t.k,.slice D1 y.t.b.length d1,.slice D2 y.a.length d2,.string ⟨y.s.1.toArray⟩,.string ⟨y.s.2.toArray⟩,.int .i64 y.u,.int .i64 y.no]] w fun e w'=>e=.returned (.bool (decide (x=y)))/\Below w.heap.size w w':=by
 obtain⟨t,a,⟨r,n⟩,u,no⟩:=x;obtain⟨Z,a2,⟨r2,n2⟩,u2,N⟩:=y;simp only at h1 g1 h2 g2⊢;have J:=I (((Below.refl w.heap.size w).alloc Ag (.cells #[.string ⟨t.s.1.toArray⟩,.string ⟨t.s.2.toArray⟩,.int .i64 t.k,.slice A1 t.b.length c1,.slice A2 a.length c2,.string ⟨List.toArray r⟩,.string ⟨List.toArray n⟩,.int .i64 u,.int .i64 no] 31)).alloc (by simp) (.cells #[.string ⟨Z.s.1.toArray⟩,.string ⟨Z.s.2.toArray⟩,.int .i64 Z.k,.slice D1 Z.b.length d1,.slice D2 a2.length d2,.string ⟨List.toArray r2⟩,.string ⟨List.toArray n2⟩,.int .i64 u2,.int .i64 N] 31));have F:=I ((Blk.new w 31 #[.string ⟨t.s.1.toArray⟩,.string ⟨t.s.2.toArray⟩,.int .i64 t.k,.slice A1 t.b.length c1,.slice A2 a.length c2,.string ⟨List.toArray r⟩,.string ⟨List.toArray n⟩,.int .i64 u,.int .i64 no]).alloc (.cells #[.string ⟨Z.s.1.toArray⟩,.string ⟨Z.s.2.toArray⟩,.int .i64 Z.k,.slice D1 Z.b.length d1,.slice D2 a2.length d2,.string ⟨List.toArray r2⟩,.string ⟨List.toArray n2⟩,.int .i64 u2,.int .i64 N] 31));have hy:=Blk.new (w.alloc (.cells #[.string ⟨t.s.1.toArray⟩,.string ⟨t.s.2.toArray⟩,.int .i64 t.k,.slice A1 t.b.length c1,.slice A2 a.length c2,.string ⟨List.toArray r⟩,.string ⟨List.toArray n⟩,.int .i64 u,.int .i64 no] 31)) 31 #[.string ⟨Z.s.1.toArray⟩,.string ⟨Z.s.2.toArray⟩,.int .i64 Z.k,.slice D1 Z.b.length d1,.slice D2 a2.length d2,.string ⟨List.toArray r2⟩,.string ⟨List.toArray n2⟩,.int .i64 u2,.int .i64 N];rw[show(w.alloc (.cells #[.string ⟨t.s.1.toArray⟩,.string ⟨t.s.2.toArray⟩,.int .i64 t.k,.slice A1 t.b.length c1,.slice A2 a.length c2,.string ⟨List.toArray r⟩,.string ⟨List.toArray n⟩,.int .i64 u,.int .i64 no] 31)).heap.size=w.heap.size+1 by simp] at hy;have D:=I hy;clear hy;have O:=I (fun w1 (h:Below w.heap.size w w1)=>Il t Z A1 D1 c1 d1 w1 ((h1.below h).more h.size) ((g1.below h).more h.size));have T2:=I (fun w1 (h:Below w.heap.size w w1)=>Ik a a2 A2 D2 c2 d2 w.heap.size w1 (h2.below h) (g2.below h));clear h1 g1 h2 g2;cases e0:decide (t=Z) with
 |false=>
  have E:=I (show decide ((⟨t,a,(r,n),u,no⟩:Tg)=⟨Z,a2,(r2,n2),u2,N⟩)=false from decide_eq_false (fun h=>of_decide_eq_false e0 (congrArg Tg.t h)));rw[e0] at O;clear e0;go_enter Tryz.func176,Tryz.ntmps176
  go_wp2_with (go_at_call 206;refine Calls.mono (O.o _ J.o) ?_;rintro e3 w1 ⟨rfl,M⟩;replace F:=I (F.o.below M);replace D:=I (D.o.below M);replace J:=J.t M;clear M O;have cc:=F.c4;have cf:=D.c4;have cb:=F.c5;have bB:=D.c5;have bz:=F.c6;have aw:=D.c6;have bx:=F.c7;have ca:=D.c7;have cg:=F.c8;have cd:=D.c8)
  go_ret;exact⟨by rw[E.o];rfl,J.o⟩
 |true=>
  rw[e0] at O;have cm:=of_decide_eq_true e0;clear e0;subst cm;cases e1:decide (a=a2) with
  |false=>
   have E:=I (show decide ((⟨t,a,(r,n),u,no⟩:Tg)=⟨t,a2,(r2,n2),u2,N⟩)=false from decide_eq_false (fun h=>of_decide_eq_false e1 (congrArg Tg.a h)));rw[e1] at T2;clear e1;go_enter Tryz.func176,Tryz.ntmps176
   go_wp2_with (first
    |(go_at_call 206;refine Calls.mono (O.o _ J.o) ?_;rintro e3 w1 ⟨rfl,M⟩;replace F:=I (F.o.below M);replace D:=I (D.o.below M);replace J:=J.t M;clear M O;have cc:=F.c4;have cf:=D.c4;have cb:=F.c5;have bB:=D.c5;have bz:=F.c6;have aw:=D.c6;have bx:=F.c7;have ca:=D.c7;have cg:=F.c8;have cd:=D.c8)
    |(go_at_call 146;refine Calls.mono (T2.o _ J.o) ?_;rintro e4 cj ⟨rfl,hw⟩;subst hw;clear T2))
   go_ret;exact⟨by rw[E.o];rfl,J.o⟩
  |true=>
   rw[e1] at T2;have ck:=of_decide_eq_true e1;clear e1;subst ck
   by_cases e2a:r=r2
   ·subst e2a
    by_cases e2b:n=n2
    ·subst e2b
     by_cases e3:u=u2
     ·subst e3
      have t3:(u==u)=true:=by simp
      by_cases e4:no=N
      ·subst e4
       have t4:(no==no)=true:=by simp
       have E:=I (show decide ((⟨t,a,(r,n),u,no⟩:Tg)=⟨t,a,(r,n),u,no⟩)=true from decide_eq_true rfl);go_enter Tryz.func176,Tryz.ntmps176
       go_wp2_with (first
        |(go_at_call 206;refine Calls.mono (O.o _ J.o) ?_;rintro e3 w1 ⟨rfl,M⟩;replace F:=I (F.o.below M);replace D:=I (D.o.below M);replace J:=J.t M;clear M O;have cc:=F.c4;have cf:=D.c4;have cb:=F.c5;have bB:=D.c5;have bz:=F.c6;have aw:=D.c6;have bx:=F.c7;have ca:=D.c7;have cg:=F.c8;have cd:=D.c8)
        |(go_at_call 146;refine Calls.mono (T2.o _ J.o) ?_;rintro e4 cj ⟨rfl,hw⟩;subst hw;clear T2))
       go_ret;exact⟨by rw[E.o];rfl,J.o⟩
      ·have t4:(no==N)=false:=by simpa using e4
       have E:=I (show decide ((⟨t,a,(r,n),u,no⟩:Tg)=⟨t,a,(r,n),u,N⟩)=false from decide_eq_false (fun h=>e4 (congrArg Tg.no h)));go_enter Tryz.func176,Tryz.ntmps176
       go_wp2_with (first
        |(go_at_call 206;refine Calls.mono (O.o _ J.o) ?_;rintro e3 w1 ⟨rfl,M⟩;replace F:=I (F.o.below M);replace D:=I (D.o.below M);replace J:=J.t M;clear M O;have cc:=F.c4;have cf:=D.c4;have cb:=F.c5;have bB:=D.c5;have bz:=F.c6;have aw:=D.c6;have bx:=F.c7;have ca:=D.c7;have cg:=F.c8;have cd:=D.c8)
        |(go_at_call 146;refine Calls.mono (T2.o _ J.o) ?_;rintro e4 cj ⟨rfl,hw⟩;subst hw;clear T2))
       go_ret;exact⟨by rw[E.o];rfl,J.o⟩
     ·have t3:(u==u2)=false:=by simpa using e3
      have E:=I (show decide ((⟨t,a,(r,n),u,no⟩:Tg)=⟨t,a,(r,n),u2,N⟩)=false from decide_eq_false (fun h=>e3 (congrArg Tg.u h)));go_enter Tryz.func176,Tryz.ntmps176
      go_wp2_with (first
       |(go_at_call 206;refine Calls.mono (O.o _ J.o) ?_;rintro e3 w1 ⟨rfl,M⟩;replace F:=I (F.o.below M);replace D:=I (D.o.below M);replace J:=J.t M;clear M O;have cc:=F.c4;have cf:=D.c4;have cb:=F.c5;have bB:=D.c5;have bz:=F.c6;have aw:=D.c6;have bx:=F.c7;have ca:=D.c7;have cg:=F.c8;have cd:=D.c8)
       |(go_at_call 146;refine Calls.mono (T2.o _ J.o) ?_;rintro e4 cj ⟨rfl,hw⟩;subst hw;clear T2))
      go_ret;exact⟨by rw[E.o];rfl,J.o⟩
    ·have E:=I (show decide ((⟨t,a,(r,n),u,no⟩:Tg)=⟨t,a,(r,n2),u2,N⟩)=false from decide_eq_false (fun h=>e2b (congrArg (fun t=>t.s.2) h)))
     go_enter Tryz.func176,Tryz.ntmps176
     go_wp2_with (first
      |(go_at_call 206;refine Calls.mono (O.o _ J.o) ?_;rintro e3 w1 ⟨rfl,M⟩;replace F:=I (F.o.below M);replace D:=I (D.o.below M);replace J:=J.t M;clear M O;have cc:=F.c4;have cf:=D.c4;have cb:=F.c5;have bB:=D.c5;have bz:=F.c6;have aw:=D.c6;have bx:=F.c7;have ca:=D.c7;have cg:=F.c8;have cd:=D.c8)
      |(go_at_call 146;refine Calls.mono (T2.o _ J.o) ?_;rintro e4 cj ⟨rfl,hw⟩;subst hw;clear T2))
     go_ret;exact⟨by rw[E.o];rfl,J.o⟩
   ·have E:=I (show decide ((⟨t,a,(r,n),u,no⟩:Tg)=⟨t,a,(r2,n2),u2,N⟩)=false from decide_eq_false (fun h=>e2a (congrArg (fun t=>t.s.1) h)))
    go_enter Tryz.func176,Tryz.ntmps176
    go_wp2_with (first
     |(go_at_call 206;refine Calls.mono (O.o _ J.o) ?_;rintro e3 w1 ⟨rfl,M⟩;replace F:=I (F.o.below M);replace D:=I (D.o.below M);replace J:=J.t M;clear M O;have cc:=F.c4;have cf:=D.c4;have cb:=F.c5;have bB:=D.c5;have bz:=F.c6;have aw:=D.c6;have bx:=F.c7;have ca:=D.c7;have cg:=F.c8;have cd:=D.c8)
     |(go_at_call 146;refine Calls.mono (T2.o _ J.o) ?_;rintro e4 cj ⟨rfl,hw⟩;subst hw;clear T2))
    go_ret;exact⟨by rw[E.o];rfl,J.o⟩
theorem OQ (x y:Re) (A1 A2 Z D2:Option Addr) (c1 c2 d1 d2:Nat) (w:World) (h1:Rd w w.heap.size A1 (bvs x.t.b)) (g1:Rd w w.heap.size Z (bvs y.t.b)) (h2:Rd w w.heap.size A2 (bvs x.b)) (g2:Rd w w.heap.size D2 (bvs y.b)) :
  Calls Tryz.prog 177 #[.agg #[.string ⟨x.c.1.toArray⟩,.string ⟨x.c.2.toArray⟩,.string ⟨x.t.s.1.toArray⟩,.string ⟨x.t.s.2.toArray⟩,.int .i64 x.t.k,.slice A1 x.t.b.length c1,.slice A2 x.b.length c2],.agg #[.string ⟨y.c.1.toArray⟩,.string ⟨y.c.2.toArray⟩,.string ⟨y.t.s.1.toArray⟩,.string ⟨y.t.s.2.toArray⟩,.int .i64 y.t.k,.slice Z y.t.b.length d1,.slice D2 y.b.length d2]] w fun e w'=>e=.returned (.bool (decide (x=y)))/\Below w.heap.size w w':=by
 obtain⟨⟨r,n⟩,t,b⟩:=x;obtain⟨⟨r2,n2⟩,D,b2⟩:=y;simp only at h1 g1 h2 g2⊢;have F:=I (((Below.refl w.heap.size w).alloc Ag (.cells #[.string ⟨List.toArray r⟩,.string ⟨List.toArray n⟩,.string ⟨t.s.1.toArray⟩,.string ⟨t.s.2.toArray⟩,.int .i64 t.k,.slice A1 t.b.length c1,.slice A2 b.length c2] 44)).alloc (by simp) (.cells #[.string ⟨List.toArray r2⟩,.string ⟨List.toArray n2⟩,.string ⟨D.s.1.toArray⟩,.string ⟨D.s.2.toArray⟩,.int .i64 D.k,.slice Z D.b.length d1,.slice D2 b2.length d2] 44));have N:=I ((Blk.new w 44 #[.string ⟨List.toArray r⟩,.string ⟨List.toArray n⟩,.string ⟨t.s.1.toArray⟩,.string ⟨t.s.2.toArray⟩,.int .i64 t.k,.slice A1 t.b.length c1,.slice A2 b.length c2]).alloc (.cells #[.string ⟨List.toArray r2⟩,.string ⟨List.toArray n2⟩,.string ⟨D.s.1.toArray⟩,.string ⟨D.s.2.toArray⟩,.int .i64 D.k,.slice Z D.b.length d1,.slice D2 b2.length d2] 44));have hy:=Blk.new (w.alloc (.cells #[.string ⟨List.toArray r⟩,.string ⟨List.toArray n⟩,.string ⟨t.s.1.toArray⟩,.string ⟨t.s.2.toArray⟩,.int .i64 t.k,.slice A1 t.b.length c1,.slice A2 b.length c2] 44)) 44 #[.string ⟨List.toArray r2⟩,.string ⟨List.toArray n2⟩,.string ⟨D.s.1.toArray⟩,.string ⟨D.s.2.toArray⟩,.int .i64 D.k,.slice Z D.b.length d1,.slice D2 b2.length d2];rw[show(w.alloc (.cells #[.string ⟨List.toArray r⟩,.string ⟨List.toArray n⟩,.string ⟨t.s.1.toArray⟩,.string ⟨t.s.2.toArray⟩,.int .i64 t.k,.slice A1 t.b.length c1,.slice A2 b.length c2] 44)).heap.size=w.heap.size+1 by simp] at hy;have M:=I hy;clear hy;have O:=I (fun w1 (h:Below w.heap.size w w1)=>Il t D A1 Z c1 d1 w1 ((h1.below h).more h.size) ((g1.below h).more h.size));have T2:=I (fun w1 (h:Below w.heap.size w w1)=>Ik b b2 A2 D2 c2 d2 w.heap.size w1 (h2.below h) (g2.below h));clear h1 g1 h2 g2
 by_cases e0a:r=r2
 ·subst e0a
  by_cases e0b:n=n2
  ·subst e0b
   cases e1:decide (t=D) with
   |false=>
    have E:=I (show decide ((⟨(r,n),t,b⟩:Re)=⟨(r,n),D,b2⟩)=false from decide_eq_false (fun h=>of_decide_eq_false e1 (congrArg Re.t h)));rw[e1] at O;clear e1;go_enter Tryz.func177,Tryz.ntmps177
    go_wp2_with (go_at_call 206;refine Calls.mono (O.o _ F.o) ?_;rintro e3 w1 ⟨rfl,J⟩;replace N:=I (N.o.below J);replace M:=I (M.o.below J);replace F:=F.t J;clear J O;have bx:=N.c6;have aw:=M.c6)
    go_ret;exact⟨by rw[E.o];rfl,F.o⟩
   |true=>
    rw[e1] at O;have bB:=of_decide_eq_true e1;clear e1;subst bB;cases e2:decide (b=b2) with
    |false=>
     have E:=I (show decide ((⟨(r,n),t,b⟩:Re)=⟨(r,n),t,b2⟩)=false from decide_eq_false (fun h=>of_decide_eq_false e2 (congrArg Re.b h)));rw[e2] at T2;clear e2;go_enter Tryz.func177,Tryz.ntmps177
     go_wp2_with (first
      |(go_at_call 206;refine Calls.mono (O.o _ F.o) ?_;rintro e3 w1 ⟨rfl,J⟩;replace N:=I (N.o.below J);replace M:=I (M.o.below J);replace F:=F.t J;clear J O;have bx:=N.c6;have aw:=M.c6)
      |(go_at_call 146;refine Calls.mono (T2.o _ F.o) ?_;rintro e4 bz ⟨rfl,hw⟩;subst hw;clear T2))
     go_ret;exact⟨by rw[E.o];rfl,F.o⟩
    |true=>
     rw[e2] at T2;have ca:=of_decide_eq_true e2;clear e2;subst ca;have E:=I (show decide ((⟨(r,n),t,b⟩:Re)=⟨(r,n),t,b⟩)=true from decide_eq_true rfl);go_enter Tryz.func177,Tryz.ntmps177
     go_wp2_with (first
      |(go_at_call 206;refine Calls.mono (O.o _ F.o) ?_;rintro e3 w1 ⟨rfl,J⟩;replace N:=I (N.o.below J);replace M:=I (M.o.below J);replace F:=F.t J;clear J O;have bx:=N.c6;have aw:=M.c6)
      |(go_at_call 146;refine Calls.mono (T2.o _ F.o) ?_;rintro e4 bz ⟨rfl,hw⟩;subst hw;clear T2))
     go_ret;exact⟨by rw[E.o];rfl,F.o⟩
  ·have E:=I (show decide ((⟨(r,n),t,b⟩:Re)=⟨(r,n2),D,b2⟩)=false from decide_eq_false (fun h=>e0b (congrArg (fun t=>t.c.2) h)))
   go_enter Tryz.func177,Tryz.ntmps177
   go_wp2
   go_ret;exact⟨by rw[E.o];rfl,F.o⟩
 ·have E:=I (show decide ((⟨(r,n),t,b⟩:Re)=⟨(r2,n2),D,b2⟩)=false from decide_eq_false (fun h=>e0a (congrArg (fun t=>t.c.1) h)))
  go_enter Tryz.func177,Tryz.ntmps177
  go_wp2
  go_ret;exact⟨by rw[E.o];rfl,F.o⟩
theorem OR (x y:Ap) (A1 A2 D1 D2:Option Addr) (c1 c2 d1 d2:Nat) (w:World) (h1:Rd w w.heap.size A1 (bvs x.t.b)) (g1:Rd w w.heap.size D1 (bvs y.t.b)) (h2:Rd w w.heap.size A2 (bvs x.a)) (g2:Rd w w.heap.size D2 (bvs y.a)) :
  Calls Tryz.prog 178 #[.agg #[.string ⟨x.t.s.1.toArray⟩,.string ⟨x.t.s.2.toArray⟩,.int .i64 x.t.k,.slice A1 x.t.b.length c1,.slice A2 x.a.length c2],.agg #[.string ⟨y.t.s.1.toArray⟩,.string ⟨y.t.s.2.toArray⟩,.int .i64 y.t.k,.slice D1 y.t.b.length d1,.slice D2 y.a.length d2]] w fun e w'=>e=.returned (.bool (decide (x=y)))/\Below w.heap.size w w':=by
 obtain⟨t,a⟩:=x;obtain⟨D,Z⟩:=y;simp only at h1 g1 h2 g2⊢;have F:=I (((Below.refl w.heap.size w).alloc Ag (.cells #[.string ⟨t.s.1.toArray⟩,.string ⟨t.s.2.toArray⟩,.int .i64 t.k,.slice A1 t.b.length c1,.slice A2 a.length c2] 88)).alloc (by simp) (.cells #[.string ⟨D.s.1.toArray⟩,.string ⟨D.s.2.toArray⟩,.int .i64 D.k,.slice D1 D.b.length d1,.slice D2 Z.length d2] 88));have N:=I ((Blk.new w 88 #[.string ⟨t.s.1.toArray⟩,.string ⟨t.s.2.toArray⟩,.int .i64 t.k,.slice A1 t.b.length c1,.slice A2 a.length c2]).alloc (.cells #[.string ⟨D.s.1.toArray⟩,.string ⟨D.s.2.toArray⟩,.int .i64 D.k,.slice D1 D.b.length d1,.slice D2 Z.length d2] 88));have hy:=Blk.new (w.alloc (.cells #[.string ⟨t.s.1.toArray⟩,.string ⟨t.s.2.toArray⟩,.int .i64 t.k,.slice A1 t.b.length c1,.slice A2 a.length c2] 88)) 88 #[.string ⟨D.s.1.toArray⟩,.string ⟨D.s.2.toArray⟩,.int .i64 D.k,.slice D1 D.b.length d1,.slice D2 Z.length d2];rw[show(w.alloc (.cells #[.string ⟨t.s.1.toArray⟩,.string ⟨t.s.2.toArray⟩,.int .i64 t.k,.slice A1 t.b.length c1,.slice A2 a.length c2] 88)).heap.size=w.heap.size+1 by simp] at hy;have M:=I hy;clear hy;have O:=I (fun w1 (h:Below w.heap.size w w1)=>Il t D A1 D1 c1 d1 w1 ((h1.below h).more h.size) ((g1.below h).more h.size));have T2:=I (fun w1 (h:Below w.heap.size w w1)=>Ik a Z A2 D2 c2 d2 w.heap.size w1 (h2.below h) (g2.below h));clear h1 g1 h2 g2;cases e0:decide (t=D) with
 |false=>
  have E:=I (show decide ((⟨t,a⟩:Ap)=⟨D,Z⟩)=false from decide_eq_false (fun h=>of_decide_eq_false e0 (congrArg Ap.t h)));rw[e0] at O;clear e0;go_enter Tryz.func178,Tryz.ntmps178
  go_wp2_with (go_at_call 206;refine Calls.mono (O.o _ F.o) ?_;rintro e3 w1 ⟨rfl,J⟩;replace N:=I (N.o.below J);replace M:=I (M.o.below J);replace F:=F.t J;clear J O;have aw:=N.c4;have bx:=M.c4)
  go_ret;exact⟨by rw[E.o];rfl,F.o⟩
 |true=>
  rw[e0] at O;have ca:=of_decide_eq_true e0;clear e0;subst ca;cases e1:decide (a=Z) with
  |false=>
   have E:=I (show decide ((⟨t,a⟩:Ap)=⟨t,Z⟩)=false from decide_eq_false (fun h=>of_decide_eq_false e1 (congrArg Ap.a h)));rw[e1] at T2;clear e1;go_enter Tryz.func178,Tryz.ntmps178
   go_wp2_with (first
    |(go_at_call 206;refine Calls.mono (O.o _ F.o) ?_;rintro e3 w1 ⟨rfl,J⟩;replace N:=I (N.o.below J);replace M:=I (M.o.below J);replace F:=F.t J;clear J O;have aw:=N.c4;have bx:=M.c4)
    |(go_at_call 146;refine Calls.mono (T2.o _ F.o) ?_;rintro e4 bz ⟨rfl,hw⟩;subst hw;clear T2))
   go_ret;exact⟨by rw[E.o];rfl,F.o⟩
  |true=>
   rw[e1] at T2;have bB:=of_decide_eq_true e1;clear e1;subst bB;have E:=I (show decide ((⟨t,a⟩:Ap)=⟨t,a⟩)=true from decide_eq_true rfl);go_enter Tryz.func178,Tryz.ntmps178
   go_wp2_with (first
    |(go_at_call 206;refine Calls.mono (O.o _ F.o) ?_;rintro e3 w1 ⟨rfl,J⟩;replace N:=I (N.o.below J);replace M:=I (M.o.below J);replace F:=F.t J;clear J O;have aw:=N.c4;have bx:=M.c4)
    |(go_at_call 146;refine Calls.mono (T2.o _ F.o) ?_;rintro e4 bz ⟨rfl,hw⟩;subst hw;clear T2))
   go_ret;exact⟨by rw[E.o];rfl,F.o⟩
end Mc
end Go.Proofs.YthgignaohimadaaGreat
