import Derived.Test.YtlccngianpfalaaGreatZClientRequests14
import Derived.Test.YtlccngianpfalaaGreatZClientRequests16
import Derived.Test.YtlccngianpfalaaGreatZClientRequests17
set_option maxHeartbeats 25600000
set_option maxRecDepth 100000
set_option linter.unusedVariables false
set_option linter.unusedSimpArgs false
namespace Go.Proofs.YtlccngianpfalaaGreat
namespace Mc
open Go.RowKit Ae DerP Ms
theorem Hm (a b:L) (A D:Option Addr) (c d B:Nat) (w:World) (h:Rd w B A (bvs a)) (g:Rd w B D (bvs b)):Calls Tryz.prog 90 #[.slice A a.length c,.slice D b.length d] w fun e w'=>e=.returned (.bool (decide (a=b)))/\w=w':=by
 have O:=AJ (P:=Tryz.prog) w 24 5 Tryz.underlying24 Tryz.underlying5 h a.length c rfl 9 Tryz.underlying9;have M:=AJ (P:=Tryz.prog) w 24 5 Tryz.underlying24 Tryz.underlying5 g b.length d rfl 9 Tryz.underlying9;clear h g
 by_cases e:a=b
 ·have X:(a==b)=true:=by simpa using e
  have E:=I (decide_eq_true e);clear e;go_enter Tryz.func90,Tryz.ntmps90
  go_wp2
  go_ret;exact⟨by rw[E.o];rfl,rfl⟩
 ·have X:(a==b)=false:=by simpa using e
  have E:=I (decide_eq_false e);clear e;go_enter Tryz.func90,Tryz.ntmps90
  go_wp2
  go_ret;exact⟨by rw[E.o];rfl,rfl⟩
theorem Hn (x y:Tk) (A1 O:Option Addr) (c1 Z:Nat) (w:World) (h1:Rd w w.heap.size A1 (bvs x.b)) (g1:Rd w w.heap.size O (bvs y.b)) :
  Calls Tryz.prog 194 #[.agg #[.string ⟨x.s.1.toArray⟩,.string ⟨x.s.2.toArray⟩,.int .i64 x.k,.slice A1 x.b.length c1],.agg #[.string ⟨y.s.1.toArray⟩,.string ⟨y.s.2.toArray⟩,.int .i64 y.k,.slice O y.b.length Z]] w fun e w'=>e=.returned (.bool (decide (x=y)))/\Below w.heap.size w w':=by
 obtain⟨⟨r,n⟩,k,b⟩:=x;obtain⟨⟨r2,Y⟩,k2,b2⟩:=y;simp only at h1 g1⊢;have M:=I (((Below.refl w.heap.size w).alloc Af (.cells #[.string ⟨List.toArray r⟩,.string ⟨List.toArray n⟩,.int .i64 k,.slice A1 b.length c1] 51)).alloc (by simp) (.cells #[.string ⟨List.toArray r2⟩,.string ⟨List.toArray Y⟩,.int .i64 k2,.slice O b2.length Z] 51));have HX:=I ((Blk.new w 51 #[.string ⟨List.toArray r⟩,.string ⟨List.toArray n⟩,.int .i64 k,.slice A1 b.length c1]).alloc (.cells #[.string ⟨List.toArray r2⟩,.string ⟨List.toArray Y⟩,.int .i64 k2,.slice O b2.length Z] 51));have hy:=Blk.new (w.alloc (.cells #[.string ⟨List.toArray r⟩,.string ⟨List.toArray n⟩,.int .i64 k,.slice A1 b.length c1] 51)) 51 #[.string ⟨List.toArray r2⟩,.string ⟨List.toArray Y⟩,.int .i64 k2,.slice O b2.length Z];rw[show(w.alloc (.cells #[.string ⟨List.toArray r⟩,.string ⟨List.toArray n⟩,.int .i64 k,.slice A1 b.length c1] 51)).heap.size=w.heap.size+1 by simp] at hy;have HY:=I hy;clear hy;have X:=I (fun w1 (h:Below w.heap.size w w1)=>Hm b b2 A1 O c1 Z w.heap.size w1 (h1.below h) (g1.below h));clear h1 g1
 by_cases e0a:r=r2
 ·subst e0a
  by_cases e0b:n=Y
  ·subst e0b
   by_cases e1:k=k2
   ·subst e1
    have t1:(k==k)=true:=by simp
    cases e2:decide (b=b2) with
    |false=>
     have E:=I (show decide ((⟨(r,n),k,b⟩:Tk)=⟨(r,n),k,b2⟩)=false from decide_eq_false (fun h=>of_decide_eq_false e2 (congrArg Tk.b h)));rw[e2] at X;clear e2;go_enter Tryz.func194,Tryz.ntmps194
     go_wp2_with (go_at_call 90;refine Calls.mono (X.o _ M.o) ?_;rintro e4 ab ⟨rfl,hw⟩;subst hw;clear X)
     go_ret;exact⟨by rw[E.o];rfl,M.o⟩
    |true=>
     rw[e2] at X;have aa:=of_decide_eq_true e2;clear e2;subst aa;have E:=I (show decide ((⟨(r,n),k,b⟩:Tk)=⟨(r,n),k,b⟩)=true from decide_eq_true rfl);go_enter Tryz.func194,Tryz.ntmps194
     go_wp2_with (go_at_call 90;refine Calls.mono (X.o _ M.o) ?_;rintro e4 ab ⟨rfl,hw⟩;subst hw;clear X)
     go_ret;exact⟨by rw[E.o];rfl,M.o⟩
   ·have t1:(k==k2)=false:=by simpa using e1
    have E:=I (show decide ((⟨(r,n),k,b⟩:Tk)=⟨(r,n),k2,b2⟩)=false from decide_eq_false (fun h=>e1 (congrArg Tk.k h)));go_enter Tryz.func194,Tryz.ntmps194
    go_wp2
    go_ret;exact⟨by rw[E.o];rfl,M.o⟩
  ·have E:=I (show decide ((⟨(r,n),k,b⟩:Tk)=⟨(r,Y),k2,b2⟩)=false from decide_eq_false (fun h=>e0b (congrArg (fun t=>t.s.2) h)))
   go_enter Tryz.func194,Tryz.ntmps194
   go_wp2
   go_ret;exact⟨by rw[E.o];rfl,M.o⟩
 ·have E:=I (show decide ((⟨(r,n),k,b⟩:Tk)=⟨(r2,Y),k2,b2⟩)=false from decide_eq_false (fun h=>e0a (congrArg (fun t=>t.s.1) h)))
  go_enter Tryz.func194,Tryz.ntmps194
  go_wp2
  go_ret;exact⟨by rw[E.o];rfl,M.o⟩
theorem Mv (x y:Tg) (A1 A2 D1 D2:Option Addr) (c1 c2 d1 d2:Nat) (w:World) (h1:Rd w w.heap.size A1 (bvs x.t.b)) (g1:Rd w w.heap.size D1 (bvs y.t.b)) (h2:Rd w w.heap.size A2 (bvs x.a)) (g2:Rd w w.heap.size D2 (bvs y.a)) :
  Calls Tryz.prog 172 #[.agg #[.string ⟨x.t.s.1.toArray⟩,.string ⟨x.t.s.2.toArray⟩,.int .i64 x.t.k,.slice A1 x.t.b.length c1,.slice A2 x.a.length c2,.string ⟨x.s.1.toArray⟩,.string ⟨x.s.2.toArray⟩,.int .i64 x.u,.int .i64 x.no],.agg #[.string ⟨y.t.s.1.toArray⟩,.string ⟨y.t.s.2.toArray⟩,.int .i64 y.t.k,.slice D1 y.t.b.length d1,.slice D2 y.a.length d2,.string ⟨y.s.1.toArray⟩,.string ⟨y.s.2.toArray⟩,.int .i64 y.u,.int .i64 y.no]] w fun e w'=>e=.returned (.bool (decide (x=y)))/\Below w.heap.size w w':=by
 obtain⟨t,a,⟨r,n⟩,u,no⟩:=x;obtain⟨t2,a2,⟨r2,n2⟩,u2,Z⟩:=y;simp only at h1 g1 h2 g2⊢;have Y:=I (((Below.refl w.heap.size w).alloc Af (.cells #[.string ⟨t.s.1.toArray⟩,.string ⟨t.s.2.toArray⟩,.int .i64 t.k,.slice A1 t.b.length c1,.slice A2 a.length c2,.string ⟨List.toArray r⟩,.string ⟨List.toArray n⟩,.int .i64 u,.int .i64 no] 53)).alloc (by simp) (.cells #[.string ⟨t2.s.1.toArray⟩,.string ⟨t2.s.2.toArray⟩,.int .i64 t2.k,.slice D1 t2.b.length d1,.slice D2 a2.length d2,.string ⟨List.toArray r2⟩,.string ⟨List.toArray n2⟩,.int .i64 u2,.int .i64 Z] 53));have M:=I ((Blk.new w 53 #[.string ⟨t.s.1.toArray⟩,.string ⟨t.s.2.toArray⟩,.int .i64 t.k,.slice A1 t.b.length c1,.slice A2 a.length c2,.string ⟨List.toArray r⟩,.string ⟨List.toArray n⟩,.int .i64 u,.int .i64 no]).alloc (.cells #[.string ⟨t2.s.1.toArray⟩,.string ⟨t2.s.2.toArray⟩,.int .i64 t2.k,.slice D1 t2.b.length d1,.slice D2 a2.length d2,.string ⟨List.toArray r2⟩,.string ⟨List.toArray n2⟩,.int .i64 u2,.int .i64 Z] 53));have hy:=Blk.new (w.alloc (.cells #[.string ⟨t.s.1.toArray⟩,.string ⟨t.s.2.toArray⟩,.int .i64 t.k,.slice A1 t.b.length c1,.slice A2 a.length c2,.string ⟨List.toArray r⟩,.string ⟨List.toArray n⟩,.int .i64 u,.int .i64 no] 53)) 53 #[.string ⟨t2.s.1.toArray⟩,.string ⟨t2.s.2.toArray⟩,.int .i64 t2.k,.slice D1 t2.b.length d1,.slice D2 a2.length d2,.string ⟨List.toArray r2⟩,.string ⟨List.toArray n2⟩,.int .i64 u2,.int .i64 Z];rw[show(w.alloc (.cells #[.string ⟨t.s.1.toArray⟩,.string ⟨t.s.2.toArray⟩,.int .i64 t.k,.slice A1 t.b.length c1,.slice A2 a.length c2,.string ⟨List.toArray r⟩,.string ⟨List.toArray n⟩,.int .i64 u,.int .i64 no] 53)).heap.size=w.heap.size+1 by simp] at hy;have O:=I hy;clear hy;have T1:=I (fun w1 (h:Below w.heap.size w w1)=>Hn t t2 A1 D1 c1 d1 w1 ((h1.below h).more h.size) ((g1.below h).more h.size));have T2:=I (fun w1 (h:Below w.heap.size w w1)=>Hm a a2 A2 D2 c2 d2 w.heap.size w1 (h2.below h) (g2.below h));clear h1 g1 h2 g2;cases e0:decide (t=t2) with
 |false=>
  have E:=I (show decide ((⟨t,a,(r,n),u,no⟩:Tg)=⟨t2,a2,(r2,n2),u2,Z⟩)=false from decide_eq_false (fun h=>of_decide_eq_false e0 (congrArg Tg.t h)));rw[e0] at T1;clear e0;go_enter Tryz.func172,Tryz.ntmps172
  go_wp2_with (go_at_call 194;refine Calls.mono (T1.o _ Y.o) ?_;rintro e3 w1 ⟨rfl,X⟩;replace M:=I (M.o.below X);replace O:=I (O.o.below X);replace Y:=Y.t X;clear X T1;have aj:=M.c4;have af:=O.c4;have ab:=M.c5;have ad:=O.c5;have aa:=M.c6;have ag:=O.c6;have ak:=M.c7;have ah:=O.c7;have ae:=M.c8;have ai:=O.c8)
  go_ret;exact⟨by rw[E.o];rfl,Y.o⟩
 |true=>
  rw[e0] at T1;have ao:=of_decide_eq_true e0;clear e0;subst ao;cases e1:decide (a=a2) with
  |false=>
   have E:=I (show decide ((⟨t,a,(r,n),u,no⟩:Tg)=⟨t,a2,(r2,n2),u2,Z⟩)=false from decide_eq_false (fun h=>of_decide_eq_false e1 (congrArg Tg.a h)));rw[e1] at T2;clear e1;go_enter Tryz.func172,Tryz.ntmps172
   go_wp2_with (first
    |(go_at_call 194;refine Calls.mono (T1.o _ Y.o) ?_;rintro e3 w1 ⟨rfl,X⟩;replace M:=I (M.o.below X);replace O:=I (O.o.below X);replace Y:=Y.t X;clear X T1;have aj:=M.c4;have af:=O.c4;have ab:=M.c5;have ad:=O.c5;have aa:=M.c6;have ag:=O.c6;have ak:=M.c7;have ah:=O.c7;have ae:=M.c8;have ai:=O.c8)
    |(go_at_call 90;refine Calls.mono (T2.o _ Y.o) ?_;rintro e4 al ⟨rfl,hw⟩;subst hw;clear T2))
   go_ret;exact⟨by rw[E.o];rfl,Y.o⟩
  |true=>
   rw[e1] at T2;have an:=of_decide_eq_true e1;clear e1;subst an
   by_cases e2a:r=r2
   ·subst e2a
    by_cases e2b:n=n2
    ·subst e2b
     by_cases e3:u=u2
     ·subst e3
      have t3:(u==u)=true:=by simp
      by_cases e4:no=Z
      ·subst e4
       have t4:(no==no)=true:=by simp
       have E:=I (show decide ((⟨t,a,(r,n),u,no⟩:Tg)=⟨t,a,(r,n),u,no⟩)=true from decide_eq_true rfl);go_enter Tryz.func172,Tryz.ntmps172
       go_wp2_with (first
        |(go_at_call 194;refine Calls.mono (T1.o _ Y.o) ?_;rintro e3 w1 ⟨rfl,X⟩;replace M:=I (M.o.below X);replace O:=I (O.o.below X);replace Y:=Y.t X;clear X T1;have aj:=M.c4;have af:=O.c4;have ab:=M.c5;have ad:=O.c5;have aa:=M.c6;have ag:=O.c6;have ak:=M.c7;have ah:=O.c7;have ae:=M.c8;have ai:=O.c8)
        |(go_at_call 90;refine Calls.mono (T2.o _ Y.o) ?_;rintro e4 al ⟨rfl,hw⟩;subst hw;clear T2))
       go_ret;exact⟨by rw[E.o];rfl,Y.o⟩
      ·have t4:(no==Z)=false:=by simpa using e4
       have E:=I (show decide ((⟨t,a,(r,n),u,no⟩:Tg)=⟨t,a,(r,n),u,Z⟩)=false from decide_eq_false (fun h=>e4 (congrArg Tg.no h)));go_enter Tryz.func172,Tryz.ntmps172
       go_wp2_with (first
        |(go_at_call 194;refine Calls.mono (T1.o _ Y.o) ?_;rintro e3 w1 ⟨rfl,X⟩;replace M:=I (M.o.below X);replace O:=I (O.o.below X);replace Y:=Y.t X;clear X T1;have aj:=M.c4;have af:=O.c4;have ab:=M.c5;have ad:=O.c5;have aa:=M.c6;have ag:=O.c6;have ak:=M.c7;have ah:=O.c7;have ae:=M.c8;have ai:=O.c8)
        |(go_at_call 90;refine Calls.mono (T2.o _ Y.o) ?_;rintro e4 al ⟨rfl,hw⟩;subst hw;clear T2))
       go_ret;exact⟨by rw[E.o];rfl,Y.o⟩
     ·have t3:(u==u2)=false:=by simpa using e3
      have E:=I (show decide ((⟨t,a,(r,n),u,no⟩:Tg)=⟨t,a,(r,n),u2,Z⟩)=false from decide_eq_false (fun h=>e3 (congrArg Tg.u h)));go_enter Tryz.func172,Tryz.ntmps172
      go_wp2_with (first
       |(go_at_call 194;refine Calls.mono (T1.o _ Y.o) ?_;rintro e3 w1 ⟨rfl,X⟩;replace M:=I (M.o.below X);replace O:=I (O.o.below X);replace Y:=Y.t X;clear X T1;have aj:=M.c4;have af:=O.c4;have ab:=M.c5;have ad:=O.c5;have aa:=M.c6;have ag:=O.c6;have ak:=M.c7;have ah:=O.c7;have ae:=M.c8;have ai:=O.c8)
       |(go_at_call 90;refine Calls.mono (T2.o _ Y.o) ?_;rintro e4 al ⟨rfl,hw⟩;subst hw;clear T2))
      go_ret;exact⟨by rw[E.o];rfl,Y.o⟩
    ·have E:=I (show decide ((⟨t,a,(r,n),u,no⟩:Tg)=⟨t,a,(r,n2),u2,Z⟩)=false from decide_eq_false (fun h=>e2b (congrArg (fun t=>t.s.2) h)))
     go_enter Tryz.func172,Tryz.ntmps172
     go_wp2_with (first
      |(go_at_call 194;refine Calls.mono (T1.o _ Y.o) ?_;rintro e3 w1 ⟨rfl,X⟩;replace M:=I (M.o.below X);replace O:=I (O.o.below X);replace Y:=Y.t X;clear X T1;have aj:=M.c4;have af:=O.c4;have ab:=M.c5;have ad:=O.c5;have aa:=M.c6;have ag:=O.c6;have ak:=M.c7;have ah:=O.c7;have ae:=M.c8;have ai:=O.c8)
      |(go_at_call 90;refine Calls.mono (T2.o _ Y.o) ?_;rintro e4 al ⟨rfl,hw⟩;subst hw;clear T2))
     go_ret;exact⟨by rw[E.o];rfl,Y.o⟩
   ·have E:=I (show decide ((⟨t,a,(r,n),u,no⟩:Tg)=⟨t,a,(r2,n2),u2,Z⟩)=false from decide_eq_false (fun h=>e2a (congrArg (fun t=>t.s.1) h)))
    go_enter Tryz.func172,Tryz.ntmps172
    go_wp2_with (first
     |(go_at_call 194;refine Calls.mono (T1.o _ Y.o) ?_;rintro e3 w1 ⟨rfl,X⟩;replace M:=I (M.o.below X);replace O:=I (O.o.below X);replace Y:=Y.t X;clear X T1;have aj:=M.c4;have af:=O.c4;have ab:=M.c5;have ad:=O.c5;have aa:=M.c6;have ag:=O.c6;have ak:=M.c7;have ah:=O.c7;have ae:=M.c8;have ai:=O.c8)
     |(go_at_call 90;refine Calls.mono (T2.o _ Y.o) ?_;rintro e4 al ⟨rfl,hw⟩;subst hw;clear T2))
    go_ret;exact⟨by rw[E.o];rfl,Y.o⟩
theorem Mw (x y:Re) (A1 A2 D1 D2:Option Addr) (c1 c2 d1 d2:Nat) (w:World) (h1:Rd w w.heap.size A1 (bvs x.t.b)) (g1:Rd w w.heap.size D1 (bvs y.t.b)) (h2:Rd w w.heap.size A2 (bvs x.b)) (g2:Rd w w.heap.size D2 (bvs y.b)) :
  Calls Tryz.prog 173 #[.agg #[.string ⟨x.c.1.toArray⟩,.string ⟨x.c.2.toArray⟩,.string ⟨x.t.s.1.toArray⟩,.string ⟨x.t.s.2.toArray⟩,.int .i64 x.t.k,.slice A1 x.t.b.length c1,.slice A2 x.b.length c2],.agg #[.string ⟨y.c.1.toArray⟩,.string ⟨y.c.2.toArray⟩,.string ⟨y.t.s.1.toArray⟩,.string ⟨y.t.s.2.toArray⟩,.int .i64 y.t.k,.slice D1 y.t.b.length d1,.slice D2 y.b.length d2]] w fun e w'=>e=.returned (.bool (decide (x=y)))/\Below w.heap.size w w':=by
 obtain⟨⟨r,n⟩,t,b⟩:=x;obtain⟨⟨r2,n2⟩,M,b2⟩:=y;simp only at h1 g1 h2 g2⊢;have O:=I (((Below.refl w.heap.size w).alloc Af (.cells #[.string ⟨List.toArray r⟩,.string ⟨List.toArray n⟩,.string ⟨t.s.1.toArray⟩,.string ⟨t.s.2.toArray⟩,.int .i64 t.k,.slice A1 t.b.length c1,.slice A2 b.length c2] 55)).alloc (by simp) (.cells #[.string ⟨List.toArray r2⟩,.string ⟨List.toArray n2⟩,.string ⟨M.s.1.toArray⟩,.string ⟨M.s.2.toArray⟩,.int .i64 M.k,.slice D1 M.b.length d1,.slice D2 b2.length d2] 55));have Y:=I ((Blk.new w 55 #[.string ⟨List.toArray r⟩,.string ⟨List.toArray n⟩,.string ⟨t.s.1.toArray⟩,.string ⟨t.s.2.toArray⟩,.int .i64 t.k,.slice A1 t.b.length c1,.slice A2 b.length c2]).alloc (.cells #[.string ⟨List.toArray r2⟩,.string ⟨List.toArray n2⟩,.string ⟨M.s.1.toArray⟩,.string ⟨M.s.2.toArray⟩,.int .i64 M.k,.slice D1 M.b.length d1,.slice D2 b2.length d2] 55));have hy:=Blk.new (w.alloc (.cells #[.string ⟨List.toArray r⟩,.string ⟨List.toArray n⟩,.string ⟨t.s.1.toArray⟩,.string ⟨t.s.2.toArray⟩,.int .i64 t.k,.slice A1 t.b.length c1,.slice A2 b.length c2] 55)) 55 #[.string ⟨List.toArray r2⟩,.string ⟨List.toArray n2⟩,.string ⟨M.s.1.toArray⟩,.string ⟨M.s.2.toArray⟩,.int .i64 M.k,.slice D1 M.b.length d1,.slice D2 b2.length d2];rw[show(w.alloc (.cells #[.string ⟨List.toArray r⟩,.string ⟨List.toArray n⟩,.string ⟨t.s.1.toArray⟩,.string ⟨t.s.2.toArray⟩,.int .i64 t.k,.slice A1 t.b.length c1,.slice A2 b.length c2] 55)).heap.size=w.heap.size+1 by simp] at hy;have Z:=I hy;clear hy;have T1:=I (fun w1 (h:Below w.heap.size w w1)=>Hn t M A1 D1 c1 d1 w1 ((h1.below h).more h.size) ((g1.below h).more h.size));have T2:=I (fun w1 (h:Below w.heap.size w w1)=>Hm b b2 A2 D2 c2 d2 w.heap.size w1 (h2.below h) (g2.below h));clear h1 g1 h2 g2
 by_cases e0a:r=r2
 ·subst e0a
  by_cases e0b:n=n2
  ·subst e0b
   cases e1:decide (t=M) with
   |false=>
    have E:=I (show decide ((⟨(r,n),t,b⟩:Re)=⟨(r,n),M,b2⟩)=false from decide_eq_false (fun h=>of_decide_eq_false e1 (congrArg Re.t h)));rw[e1] at T1;clear e1;go_enter Tryz.func173,Tryz.ntmps173
    go_wp2_with (go_at_call 194;refine Calls.mono (T1.o _ O.o) ?_;rintro e3 w1 ⟨rfl,X⟩;replace Y:=I (Y.o.below X);replace Z:=I (Z.o.below X);replace O:=O.t X;clear X T1;have aa:=Y.c6;have ab:=Z.c6)
    go_ret;exact⟨by rw[E.o];rfl,O.o⟩
   |true=>
    rw[e1] at T1;have ae:=of_decide_eq_true e1;clear e1;subst ae;cases e2:decide (b=b2) with
    |false=>
     have E:=I (show decide ((⟨(r,n),t,b⟩:Re)=⟨(r,n),t,b2⟩)=false from decide_eq_false (fun h=>of_decide_eq_false e2 (congrArg Re.b h)));rw[e2] at T2;clear e2;go_enter Tryz.func173,Tryz.ntmps173
     go_wp2_with (first
      |(go_at_call 194;refine Calls.mono (T1.o _ O.o) ?_;rintro e3 w1 ⟨rfl,X⟩;replace Y:=I (Y.o.below X);replace Z:=I (Z.o.below X);replace O:=O.t X;clear X T1;have aa:=Y.c6;have ab:=Z.c6)
      |(go_at_call 90;refine Calls.mono (T2.o _ O.o) ?_;rintro e4 af ⟨rfl,hw⟩;subst hw;clear T2))
     go_ret;exact⟨by rw[E.o];rfl,O.o⟩
    |true=>
     rw[e2] at T2;have ad:=of_decide_eq_true e2;clear e2;subst ad;have E:=I (show decide ((⟨(r,n),t,b⟩:Re)=⟨(r,n),t,b⟩)=true from decide_eq_true rfl);go_enter Tryz.func173,Tryz.ntmps173
     go_wp2_with (first
      |(go_at_call 194;refine Calls.mono (T1.o _ O.o) ?_;rintro e3 w1 ⟨rfl,X⟩;replace Y:=I (Y.o.below X);replace Z:=I (Z.o.below X);replace O:=O.t X;clear X T1;have aa:=Y.c6;have ab:=Z.c6)
      |(go_at_call 90;refine Calls.mono (T2.o _ O.o) ?_;rintro e4 af ⟨rfl,hw⟩;subst hw;clear T2))
     go_ret;exact⟨by rw[E.o];rfl,O.o⟩
  ·have E:=I (show decide ((⟨(r,n),t,b⟩:Re)=⟨(r,n2),M,b2⟩)=false from decide_eq_false (fun h=>e0b (congrArg (fun t=>t.c.2) h)))
   go_enter Tryz.func173,Tryz.ntmps173
   go_wp2
   go_ret;exact⟨by rw[E.o];rfl,O.o⟩
 ·have E:=I (show decide ((⟨(r,n),t,b⟩:Re)=⟨(r2,n2),M,b2⟩)=false from decide_eq_false (fun h=>e0a (congrArg (fun t=>t.c.1) h)))
  go_enter Tryz.func173,Tryz.ntmps173
  go_wp2
  go_ret;exact⟨by rw[E.o];rfl,O.o⟩
theorem Mx (x y:Ap) (A1 A2 D1 D2:Option Addr) (c1 c2 d1 d2:Nat) (w:World) (h1:Rd w w.heap.size A1 (bvs x.t.b)) (g1:Rd w w.heap.size D1 (bvs y.t.b)) (h2:Rd w w.heap.size A2 (bvs x.a)) (g2:Rd w w.heap.size D2 (bvs y.a)) :
  Calls Tryz.prog 174 #[.agg #[.string ⟨x.t.s.1.toArray⟩,.string ⟨x.t.s.2.toArray⟩,.int .i64 x.t.k,.slice A1 x.t.b.length c1,.slice A2 x.a.length c2],.agg #[.string ⟨y.t.s.1.toArray⟩,.string ⟨y.t.s.2.toArray⟩,.int .i64 y.t.k,.slice D1 y.t.b.length d1,.slice D2 y.a.length d2]] w fun e w'=>e=.returned (.bool (decide (x=y)))/\Below w.heap.size w w':=by
 obtain⟨t,a⟩:=x;obtain⟨M,a2⟩:=y;simp only at h1 g1 h2 g2⊢;have X:=I (((Below.refl w.heap.size w).alloc Af (.cells #[.string ⟨t.s.1.toArray⟩,.string ⟨t.s.2.toArray⟩,.int .i64 t.k,.slice A1 t.b.length c1,.slice A2 a.length c2] 57)).alloc (by simp) (.cells #[.string ⟨M.s.1.toArray⟩,.string ⟨M.s.2.toArray⟩,.int .i64 M.k,.slice D1 M.b.length d1,.slice D2 a2.length d2] 57));have Y:=I ((Blk.new w 57 #[.string ⟨t.s.1.toArray⟩,.string ⟨t.s.2.toArray⟩,.int .i64 t.k,.slice A1 t.b.length c1,.slice A2 a.length c2]).alloc (.cells #[.string ⟨M.s.1.toArray⟩,.string ⟨M.s.2.toArray⟩,.int .i64 M.k,.slice D1 M.b.length d1,.slice D2 a2.length d2] 57));have hy:=Blk.new (w.alloc (.cells #[.string ⟨t.s.1.toArray⟩,.string ⟨t.s.2.toArray⟩,.int .i64 t.k,.slice A1 t.b.length c1,.slice A2 a.length c2] 57)) 57 #[.string ⟨M.s.1.toArray⟩,.string ⟨M.s.2.toArray⟩,.int .i64 M.k,.slice D1 M.b.length d1,.slice D2 a2.length d2];rw[show(w.alloc (.cells #[.string ⟨t.s.1.toArray⟩,.string ⟨t.s.2.toArray⟩,.int .i64 t.k,.slice A1 t.b.length c1,.slice A2 a.length c2] 57)).heap.size=w.heap.size+1 by simp] at hy;have Z:=I hy;clear hy;have T1:=I (fun w1 (h:Below w.heap.size w w1)=>Hn t M A1 D1 c1 d1 w1 ((h1.below h).more h.size) ((g1.below h).more h.size));have T2:=I (fun w1 (h:Below w.heap.size w w1)=>Hm a a2 A2 D2 c2 d2 w.heap.size w1 (h2.below h) (g2.below h));clear h1 g1 h2 g2;cases e0:decide (t=M) with
 |false=>
  have E:=I (show decide ((⟨t,a⟩:Ap)=⟨M,a2⟩)=false from decide_eq_false (fun h=>of_decide_eq_false e0 (congrArg Ap.t h)));rw[e0] at T1;clear e0;go_enter Tryz.func174,Tryz.ntmps174
  go_wp2_with (go_at_call 194;refine Calls.mono (T1.o _ X.o) ?_;rintro e3 w1 ⟨rfl,O⟩;replace Y:=I (Y.o.below O);replace Z:=I (Z.o.below O);replace X:=X.t O;clear O T1;have ab:=Y.c4;have aa:=Z.c4)
  go_ret;exact⟨by rw[E.o];rfl,X.o⟩
 |true=>
  rw[e0] at T1;have af:=of_decide_eq_true e0;clear e0;subst af;cases e1:decide (a=a2) with
  |false=>
   have E:=I (show decide ((⟨t,a⟩:Ap)=⟨t,a2⟩)=false from decide_eq_false (fun h=>of_decide_eq_false e1 (congrArg Ap.a h)));rw[e1] at T2;clear e1;go_enter Tryz.func174,Tryz.ntmps174
   go_wp2_with (first
    |(go_at_call 194;refine Calls.mono (T1.o _ X.o) ?_;rintro e3 w1 ⟨rfl,O⟩;replace Y:=I (Y.o.below O);replace Z:=I (Z.o.below O);replace X:=X.t O;clear O T1;have ab:=Y.c4;have aa:=Z.c4)
    |(go_at_call 90;refine Calls.mono (T2.o _ X.o) ?_;rintro e4 ae ⟨rfl,hw⟩;subst hw;clear T2))
   go_ret;exact⟨by rw[E.o];rfl,X.o⟩
  |true=>
   rw[e1] at T2;have ad:=of_decide_eq_true e1;clear e1;subst ad;have E:=I (show decide ((⟨t,a⟩:Ap)=⟨t,a⟩)=true from decide_eq_true rfl);go_enter Tryz.func174,Tryz.ntmps174
   go_wp2_with (first
    |(go_at_call 194;refine Calls.mono (T1.o _ X.o) ?_;rintro e3 w1 ⟨rfl,O⟩;replace Y:=I (Y.o.below O);replace Z:=I (Z.o.below O);replace X:=X.t O;clear O T1;have ab:=Y.c4;have aa:=Z.c4)
    |(go_at_call 90;refine Calls.mono (T2.o _ X.o) ?_;rintro e4 ae ⟨rfl,hw⟩;subst hw;clear T2))
   go_ret;exact⟨by rw[E.o];rfl,X.o⟩
open DerC
theorem Bq (w:World) (t:TypeId) (lit cs:Array Value) (hs:lit.size=cs.size):Blk ((w.alloc (.cells lit t)).setCells w.heap.size 0 cs.toList) w.heap.size t cs/\Below w.heap.size w ((w.alloc (.cells lit t)).setCells w.heap.size 0 cs.toList):=
 ⟨AI (Blk.new w t lit) hs,Ak ((Below.refl w.heap.size w).alloc Af _) (AK _ _ _) (by simp) Af⟩
theorem GQ {c:Option L} (h:(c.getD []).length<=100000):pSm (prQ c).1:=by
 have M:=(BB 27 (Ax 48 c)).1;have X:=(BB 27 (Ax 48 c)).2;have O:=(BB 27 (AQ 27 (Ax 48 c))).1;have Y:=(BB 48 c).1;exact⟨by show((Ax 27 (Ax 48 c)).getD []).length<=1000000000;omega,by show((Ax 27 (AQ 27 (Ax 48 c))).getD []).length<=1000000000;omega⟩
def rpG (b:L):Rp:=(rpD b).getD rp0
def rpI (b:L):Int:=if (rpD b).isSome then 0 else 2
theorem Rv (b:L):(rpG b).ss.length=32:=by
 unfold rpG;rw[Rs]
 split
 ·exact Kn b
 ·rfl
theorem Rw (A:Option Addr) (b:L) (c:Nat) (w:World) (hr:Rd w w.heap.size A (bvs b)):Calls Tryz.prog 105 #[.slice A b.length c,.func (.func 106) #[] #[],.func (.func 107) #[] #[]] w fun e w'=>e=.returned (.tuple #[.agg (rpC (rpG b)).toArray,.int .i64 (rpI b)])/\Below w.heap.size w w':=by
 obtain⟨O,aa⟩:∃z:Array Value,z=#[.int .u8 0,.int .u8 0,.int .u8 0,.int .u8 0,.int .u8 0,.int .u8 0,.int .u8 0,.int .u8 0,.int .u8 0,.int .u8 0,.int .u8 0,.int .u8 0,.int .u8 0,.int .u8 0,.int .u8 0,.int .u8 0,.int .u8 0,.int .u8 0,.int .u8 0,.int .u8 0,.int .u8 0,.int .u8 0,.int .u8 0,.int .u8 0,.int .u8 0,.int .u8 0,.int .u8 0,.int .u8 0,.int .u8 0,.int .u8 0,.int .u8 0,.int .u8 0,.string ⟨#[]⟩,.string ⟨#[]⟩,.int .i64 0,.int .i64 0,.int .i64 0]:=⟨_,rfl⟩;have ag:(rpC rp0).toArray=O:=by rw[aa];rfl
 have av:O.size=37:=by rw[aa];simp
 have ay:O.all (·.oneCell')=true:=by rw[<-ag];exact Ko _ _ _ _ _
 obtain⟨W,eW⟩:=Aj ((w.alloc (.cells O 104)).alloc (.cells O 104));have aA:W.heap.size=w.heap.size+1+1:=by rw[eW];simp
 have hq:=Blk.new (w.alloc (.cells O 104)) 104 O;rw[show(w.alloc (.cells O 104)).heap.size=w.heap.size+1 by simp,<-eW] at hq;have Z:=I hq;clear hq;have X:=I (show Blk W w.heap.size 104 O by rw[eW];exact(Blk.new _ _ _).alloc _);have Y:=I (show Below w.heap.size w W by rw[eW];exact(Ag.alloc Af _).alloc (by simp) _);have aj:=I (fun w1 (h:Below w.heap.size w w1)=>(hr.below h).more h.size);have ad:=I (show(Tryz.prog.info? 104).map (·.size)=some O.size by rw[av];kernel_rfl);have ar:=I ay;have aB:=I av;have ED:=I (Rs b);have aC:=I aA;clear aA ay av
 by_cases hl:b.length<=2000
 ·have t1:decide ((2000:Int)<(b.length:Int))=false:=decide_eq_false (by omega)
  have an:b.length<=100000:=by omega
  have az:=EJ 122 (show((some b:Option L).getD []).length<=100000 from an);have ab:pSm (rpQ b).1.s:=GQ (Co 4 az);have T1:=I (fun w1 (h:Rd w1 w1.heap.size A (bvs b))=>(show Calls Tryz.prog 106 #[.slice A b.length c] w1 fun e w'=>e=.returned (.agg (rpC (rpQ b).1).toArray)/\Below w1.heap.size w1 w' from OZ A b c w1 h an));have EN:=I (fun w1=>(show Calls Tryz.prog 107 #[.agg (rpC (rpQ b).1).toArray] w1 (EncR w1 (rpO (rpQ b).1)) from OR (rpQ b).1 w1 (Kn b) ab));have ak:(rpC (rpQ b).1).toArray.size=37:=by exact FE (Kn b)
  have aw:(rpC (rpQ b).1).toArray.all (·.oneCell')=true:=Ko _ _ _ _ _;have BE:=I (fun(l:L) (g c2:Nat) (w1:World) (h:Rd w1 w1.heap.size (some ⟨g,0,none⟩) (bvs l)) (M:Below w.heap.size w w1)=>Hm l b (some ⟨g,0,none⟩) A c2 c w1.heap.size w1 h (aj.o w1 M));obtain⟨cs,ai⟩:=Aj ((rpC (rpQ b).1).toArray);rw[<-ai] at T1 EN ak aw;have af:=I (show(Tryz.prog.info? 104).map (·.size)=some cs.size by rw[ak];kernel_rfl);have al:=I aw;have ae:=I ak;clear ak aw hl an hr ab az;cases ho:rpO (rpQ b).1 with
  |none=>
   rw[ho] at EN;have hD:rpD b=none:=by rw[ED.o,ho];rfl
   have GE:=I (show(rpC (rpG b)).toArray=O by rw[rpG,hD];exact ag);have IE:=I (show rpI b=2 by rw[rpI,hD];rfl);clear ED ho hD ai ag BE;go_enter Tryz.func105,Tryz.ntmps105
   go_upto_region 2 with fail
   rw[<-aa,<-eW];clear aa eW
   go_wp2_with (first
    |(refine Ad (by rfl) 104 (.tmp 8) (by rfl) (w.heap.size+1) 0 (by rfl) O _ (Ac Z.o) Tryz.underlying104 (by rfl) ad.o ?_)
    |(refine wpList_store_mid (by rfl) 104 (.tmp 6) (.tmp 33) (by rfl) w.heap.size 0 O (by rfl) (by rfl) (Am X.o _ Af) ad.o ar.o ?_)
    |(go_at_call 106;refine Ah (T1.o _ (aj.o _ Y.o)) ?_;rintro w4 M;clear T1;replace Z:=I (Z.o.below M);replace X:=I (X.o.below M);replace Y:=Y.t M;clear M)
    |(refine wpList_store_mid (by rfl) 104 (.tmp 9) (.tmp 18) (by rfl) w4.heap.size 0 cs (by rfl) (by rfl) (Am (Blk.new w4 104 Au) _ (by have:=ae.o;simp;omega)) af.o al.o ?_;have hV:=Bq w4 104 Au cs (by have:=ae.o;simp;omega);generalize ((w4.alloc (.cells Au 104)).setCells w4.heap.size 0 cs.toList)=V at hV⊢;have HX:=I hV.1;replace Z:=I (Z.o.below hV.2);replace X:=I (X.o.below hV.2);replace Y:=I (Y.o.trans (hV.2.mono Y.o.size));clear hV)
    |(refine Ad (by rfl) 104 (.tmp 9) (by rfl) w4.heap.size 0 (by rfl) cs _ (Ac HX.o) Tryz.underlying104 (by rfl) af.o ?_)
    |(go_at_call 107;refine Calls.mono (EN.o _) ?_;rintro e we ⟨⟨v,i,rfl,hn,ab⟩,M⟩;obtain⟨rfl,rfl⟩:=hn rfl;clear EN;replace HX:=I (HX.o.below M);replace Z:=I (Z.o.below M);replace X:=I (X.o.below M);replace Y:=Y.t M;clear M hn ab)
    |fail)
   have hE:=AI (ds:=O) X.o (by rfl);have hp:=AK we w.heap.size O.toList;have hq:=Ao (P:=Tryz.prog) hE Tryz.underlying104 rfl ad.o;refine bodyPost_ret (v:=.tuple #[.agg O,.int .i64 2]) ?_ ?_ ?_
   ·exact AD (v:=.agg O) 6 7 104 ⟨w.heap.size,0,none⟩ Tryz.results105 rfl hq rfl
   ·rfl
   exact⟨by rw[GE.o,IE.o],Ak Y.o hp (by have:=X.o.lt;omega) Af⟩
  |some l=>
   rw[ho] at EN
   by_cases hlb:l=b
   ·have BF:=I (decide_eq_true hlb)
    have hD:rpD b=some (rpQ b).1:=by rw[ED.o,ho,if_pos (by rw[hlb])]
    have GE:=I (show(rpC (rpG b)).toArray=cs by rw[rpG,hD];exact ai.symm);have IE:=I (show rpI b=0 by rw[rpI,hD];rfl);clear ED ho hlb hD ai ag;go_enter Tryz.func105,Tryz.ntmps105
    go_upto_region 2 with fail
    rw[<-aa,<-eW];clear aa eW
    go_wp2_with (first
     |(refine Ad (by rfl) 104 (.tmp 8) (by rfl) (w.heap.size+1) 0 (by rfl) O _ (Ac Z.o) Tryz.underlying104 (by rfl) ad.o ?_)
     |(refine wpList_store_mid (by rfl) 104 (.tmp 6) (.tmp 34) (by rfl) w.heap.size 0 cs (by rfl) (by rfl) (Am X.o _ (by have:=aB.o;have:=ae.o;omega)) af.o al.o ?_)
     |(go_at_call 106;refine Ah (T1.o _ (aj.o _ Y.o)) ?_;rintro w4 M;clear T1;replace Z:=I (Z.o.below M);replace X:=I (X.o.below M);replace Y:=Y.t M;clear M)
     |(refine wpList_store_mid (by rfl) 104 (.tmp 9) (.tmp 18) (by rfl) w4.heap.size 0 cs (by rfl) (by rfl) (Am (Blk.new w4 104 Au) _ (by have:=ae.o;simp;omega)) af.o al.o ?_;have hV:=Bq w4 104 Au cs (by have:=ae.o;simp;omega);generalize ((w4.alloc (.cells Au 104)).setCells w4.heap.size 0 cs.toList)=V at hV⊢;have HX:=I hV.1;replace Z:=I (Z.o.below hV.2);replace X:=I (X.o.below hV.2);replace Y:=I (Y.o.trans (hV.2.mono Y.o.size));clear hV)
     |(refine Ad (by rfl) 104 (.tmp 9) (by rfl) w4.heap.size 0 (by rfl) cs _ (Ac HX.o) Tryz.underlying104 (by rfl) af.o ?_)
     |(go_at_call 107;refine Calls.mono (EN.o _) ?_;rintro e we ⟨⟨v,i,rfl,hn,ab⟩,M⟩;obtain⟨rfl,gx,cx,rfl,ao,ax,ah⟩:=ab l rfl;have au:=I ah;clear ao ax ah;clear EN;replace HX:=I (HX.o.below M);replace Z:=I (Z.o.below M);replace X:=I (X.o.below M);replace Y:=Y.t M;clear M hn ab)
     |(go_at_call 90;refine Calls.mono (BE.o l gx cx _ au.o Y.o) ?_;rw[BF.o];rintro e wb ⟨rfl,hw⟩;subst hw;clear BE)
     |fail)
    have hE:=AI (ds:=cs) X.o (by have:=aB.o;have:=ae.o;omega);have hp:=AK we w.heap.size cs.toList;have hq:=Ao (P:=Tryz.prog) hE Tryz.underlying104 rfl af.o;refine bodyPost_ret (v:=.tuple #[.agg cs,.int .i64 0]) ?_ ?_ ?_
    ·exact AD (v:=.agg cs) 6 7 104 ⟨w.heap.size,0,none⟩ Tryz.results105 rfl hq rfl
    ·rfl
    exact⟨by rw[GE.o,IE.o],Ak Y.o hp (by have:=X.o.lt;omega) Af⟩
   ·have BF:=I (decide_eq_false hlb)
    have hD:rpD b=none:=by rw[ED.o,ho,if_neg (fun h=>hlb (Option.some.inj h))]
    have GE:=I (show(rpC (rpG b)).toArray=O by rw[rpG,hD];exact ag);have IE:=I (show rpI b=2 by rw[rpI,hD];rfl);clear ED ho hlb hD ai ag;go_enter Tryz.func105,Tryz.ntmps105
    go_upto_region 2 with fail
    rw[<-aa,<-eW];clear aa eW
    go_wp2_with (first
     |(refine Ad (by rfl) 104 (.tmp 8) (by rfl) (w.heap.size+1) 0 (by rfl) O _ (Ac Z.o) Tryz.underlying104 (by rfl) ad.o ?_)
     |(refine wpList_store_mid (by rfl) 104 (.tmp 6) (.tmp 33) (by rfl) w.heap.size 0 O (by rfl) (by rfl) (Am X.o _ Af) ad.o ar.o ?_)
     |(go_at_call 106;refine Ah (T1.o _ (aj.o _ Y.o)) ?_;rintro w4 M;clear T1;replace Z:=I (Z.o.below M);replace X:=I (X.o.below M);replace Y:=Y.t M;clear M)
     |(refine wpList_store_mid (by rfl) 104 (.tmp 9) (.tmp 18) (by rfl) w4.heap.size 0 cs (by rfl) (by rfl) (Am (Blk.new w4 104 Au) _ (by have:=ae.o;simp;omega)) af.o al.o ?_;have hV:=Bq w4 104 Au cs (by have:=ae.o;simp;omega);generalize ((w4.alloc (.cells Au 104)).setCells w4.heap.size 0 cs.toList)=V at hV⊢;have HX:=I hV.1;replace Z:=I (Z.o.below hV.2);replace X:=I (X.o.below hV.2);replace Y:=I (Y.o.trans (hV.2.mono Y.o.size));clear hV)
     |(refine Ad (by rfl) 104 (.tmp 9) (by rfl) w4.heap.size 0 (by rfl) cs _ (Ac HX.o) Tryz.underlying104 (by rfl) af.o ?_)
     |(go_at_call 107;refine Calls.mono (EN.o _) ?_;rintro e we ⟨⟨v,i,rfl,hn,ab⟩,M⟩;obtain⟨rfl,gx,cx,rfl,ao,ax,ah⟩:=ab l rfl;have au:=I ah;clear ao ax ah;clear EN;replace HX:=I (HX.o.below M);replace Z:=I (Z.o.below M);replace X:=I (X.o.below M);replace Y:=Y.t M;clear M hn ab)
     |(go_at_call 90;refine Calls.mono (BE.o l gx cx _ au.o Y.o) ?_;rw[BF.o];rintro e wb ⟨rfl,hw⟩;subst hw;clear BE)
     |fail)
    have hE:=AI (ds:=O) X.o (by rfl);have hp:=AK we w.heap.size O.toList;have hq:=Ao (P:=Tryz.prog) hE Tryz.underlying104 rfl ad.o;refine bodyPost_ret (v:=.tuple #[.agg O,.int .i64 2]) ?_ ?_ ?_
    ·exact AD (v:=.agg O) 6 7 104 ⟨w.heap.size,0,none⟩ Tryz.results105 rfl hq rfl
    ·rfl
    exact⟨by rw[GE.o,IE.o],Ak Y.o hp (by have:=X.o.lt;omega) Af⟩
 ·have t1:decide ((2000:Int)<(b.length:Int))=true:=decide_eq_true (by omega)
  have hD:rpD b=none:=by
   rw[ED.o,if_neg];intro h;have h2:=Br.1 h;exact hl (by rw[<-h2.2.2];exact h2.2.1)
  have GE:=I (show(rpC (rpG b)).toArray=O by rw[rpG,hD];exact ag);have IE:=I (show rpI b=2 by rw[rpI,hD];rfl);clear ED hD hl ag hr aj;go_enter Tryz.func105,Tryz.ntmps105
  go_upto_region 2 with fail
  rw[<-aa,<-eW];clear aa eW
  go_wp2_with (first
   |(refine Ad (by rfl) 104 (.tmp 8) (by rfl) (w.heap.size+1) 0 (by rfl) O _ (Ac Z.o) Tryz.underlying104 (by rfl) ad.o ?_)
   |(refine wpList_store_mid (by rfl) 104 (.tmp 6) (.tmp 15) (by rfl) w.heap.size 0 O (by rfl) (by rfl) (Am X.o _ Af) ad.o ar.o ?_)
   |fail)
  have hE:=AI (ds:=O) X.o (by rfl);have hp:=AK W w.heap.size O.toList;have hq:=Ao (P:=Tryz.prog) hE Tryz.underlying104 rfl ad.o;refine bodyPost_ret (v:=.tuple #[.agg O,.int .i64 2]) ?_ ?_ ?_
  ·exact AD (v:=.agg O) 6 7 104 ⟨w.heap.size,0,none⟩ Tryz.results105 rfl hq rfl
  ·rfl
  exact⟨by rw[GE.o,IE.o],Ak Y.o hp (by have:=X.o.lt;omega) Af⟩
theorem Pb (A:Option Addr) (b:L) (c:Nat) (w:World) (hr:Rd w w.heap.size A (bvs b)):Calls Tryz.prog 58 #[.slice A b.length c] w fun e w'=>e=.returned (.tuple #[.agg (rpC (rpG b)).toArray,.int .i64 (rpI b)])/\Below w.heap.size w w':=by
 obtain⟨zz,X⟩:∃z:Array Value,z=#[.int .u8 0,.int .u8 0,.int .u8 0,.int .u8 0,.int .u8 0,.int .u8 0,.int .u8 0,.int .u8 0,.int .u8 0,.int .u8 0,.int .u8 0,.int .u8 0,.int .u8 0,.int .u8 0,.int .u8 0,.int .u8 0,.int .u8 0,.int .u8 0,.int .u8 0,.int .u8 0,.int .u8 0,.int .u8 0,.int .u8 0,.int .u8 0,.int .u8 0,.int .u8 0,.int .u8 0,.int .u8 0,.int .u8 0,.int .u8 0,.int .u8 0,.int .u8 0,.string ⟨#[]⟩,.string ⟨#[]⟩,.int .i64 0,.int .i64 0,.int .i64 0]:=⟨_,rfl⟩;have ab:zz.size=37:=by rw[X];simp
 have M:(rpC (rpG b)).toArray.size=37:=by exact FE (Rv b)
 have O:(rpC (rpG b)).toArray.all (·.oneCell')=true:=Ko _ _ _ _ _;have c1:=Rw A b c (w.alloc (.cells zz 104)) ((hr.alloc Af _).more (by simp));obtain⟨cs,Z⟩:=Aj ((rpC (rpG b)).toArray);rw[<-Z] at M O c1⊢;have HI:=I (show(Tryz.prog.info? 104).map (·.size)=some cs.size by rw[M];kernel_rfl);have HO:=I O;have Y:=I M;have aa:=I ab;have HR:=I (Blk.new w 104 zz);have HG:=I ((Below.refl w.heap.size w).alloc Af (.cells zz 104));clear M O ab Z hr;go_enter Tryz.func58,Tryz.ntmps58
 go_upto_region 1 with fail
 rw[<-X];clear X
 go_wp2_with (first
  |(go_at_call 105;refine Ah c1 ?_;rintro w1 hb;clear c1;replace HR:=I (HR.o.below hb);replace HG:=HG.t hb;clear hb)
  |(refine wpList_store_mid (by rfl) 104 (.tmp 2) (.tmp 6) (by rfl) w.heap.size 0 cs (by rfl) (by rfl) (Am HR.o _ (by have:=aa.o;have:=Y.o;omega)) HI.o HO.o ?_)
  |fail)
 have hE:=AI (ds:=cs) HR.o (by have:=aa.o;have:=Y.o;omega);have hp:=AK w1 w.heap.size cs.toList;have hq:=Ao (P:=Tryz.prog) hE Tryz.underlying104 rfl HI.o;refine bodyPost_ret (v:=.tuple #[.agg cs,.int .i64 (rpI b)]) ?_ ?_ ?_
 ·exact AD (v:=.agg cs) 2 3 104 ⟨w.heap.size,0,none⟩ Tryz.results58 rfl hq rfl
 ·rfl
 exact⟨rfl,Ak HG.o hp (by have:=HR.o.lt;omega) Af⟩
def zA:Array Value:=(asC as0).toArray
def zT:Array Value:=(tgC tg0 (.slice none 0 0) (.slice none 0 0)).toArray
def zR:Array Value:=(reC re0 (.slice none 0 0) (.slice none 0 0)).toArray
def zP:Array Value:=(apC ap0 (.slice none 0 0) (.slice none 0 0)).toArray
def zF:Array Value:=(faC fa0).toArray
theorem zA_v:AsV zA as0:=rfl
theorem zF_v:FaV zF fa0:=rfl
theorem zT_v (w:World) (B:Nat):TgV w B zT tg0:=⟨_,_,rfl,SlB.nil w B,SlB.nil w B⟩
theorem zR_v (w:World) (B:Nat):ReV w B zR re0:=⟨_,_,rfl,SlB.nil w B,SlB.nil w B⟩
theorem zP_v (w:World) (B:Nat):ApV w B zP ap0:=⟨_,_,rfl,SlB.nil w B,SlB.nil w B⟩
theorem zM_v (w:World) (B:Nat) (k:Int):MgP w B zA zT zR zP zF ⟨k,as0,tg0,re0,ap0,fa0⟩:=⟨zA_v,zT_v w B,zR_v w B,zP_v w B,zF_v⟩
def nm (m:Mg):Mg:=if m.k=1 then ⟨1,m.aq,tg0,re0,ap0,fa0⟩ else if m.k=2 then ⟨2,as0,m.tg,re0,ap0,fa0⟩ else if m.k=3 then ⟨3,as0,tg0,m.re,ap0,fa0⟩ else if m.k=4 then ⟨4,as0,tg0,re0,m.ap,fa0⟩ else if m.k=5 then ⟨5,as0,tg0,re0,ap0,m.fa⟩ else ⟨m.k,as0,tg0,re0,ap0,fa0⟩
theorem TX (k:Int):Tryz.prog.built 61 [(0,.int .i64 k)]=some (mgA k zA zT zR zP zF):=by kernel_rfl
theorem Rx (cs:Array Value) (m:Mg) (w:World) (h:MgV w w.heap.size cs m):Calls Tryz.prog 139 #[.agg cs] w fun e w'=>∃ds,e=.returned (.agg ds)/\MgV w' w'.heap.size ds (nm m)/\Below w.heap.size w w':=by
 obtain⟨pa,pt,pr,pp,pf,hc,hp⟩:=h;obtain⟨zz,aa⟩:∃z:Array Value,z=#[.int .i64 0,.string ⟨#[]⟩,.string ⟨#[]⟩,.string ⟨#[]⟩,.string ⟨#[]⟩,.int .i64 0,.int .i64 0,.string ⟨#[]⟩,.string ⟨#[]⟩,.int .i64 0,.slice none 0 0,.slice none 0 0,.string ⟨#[]⟩,.string ⟨#[]⟩,.int .i64 0,.int .i64 0,.string ⟨#[]⟩,.string ⟨#[]⟩,.string ⟨#[]⟩,.string ⟨#[]⟩,.int .i64 0,.slice none 0 0,.slice none 0 0,.string ⟨#[]⟩,.string ⟨#[]⟩,.int .i64 0,.slice none 0 0,.slice none 0 0,.int .i64 0,.int .i64 0]:=⟨_,rfl⟩;have aj:zz=mgA 0 zA zT zR zP zF:=by rw[aa];rfl
 have ai:zz.size=30:=by rw[aj];exact(zM_v w 0 0).size 0
 have ad:=I ai;obtain⟨W,eW⟩:=Aj ((w.alloc (.cells cs 61)).alloc (.cells zz 61));have ak:W.heap.size=w.heap.size+1+1:=by rw[eW];simp
 have HK:=I (show Blk W w.heap.size 61 (mgA m.k pa pt pr pp pf) by rw[eW,<-hc];exact(Blk.new _ _ _).alloc _);have hq:=Blk.new (w.alloc (.cells cs 61)) 61 zz;rw[show(w.alloc (.cells cs 61)).heap.size=w.heap.size+1 by simp,<-eW] at hq;have HR:=I hq;clear hq;have X:=I (show Below w.heap.size w W by rw[eW];exact(Ag.alloc Af _).alloc (by simp) _);have HA:=I (hp.at_ HK.o);have k0:=HA.o.k;have Z:=I hp;have ae:=I ak;have af:=I (TX m.k);obtain⟨c0,ag⟩:∃c,c=mgA m.k zA zT zR zP zF:=⟨_,rfl⟩;have ah:c0.size=30:=by rw[ag];exact(zM_v w 0 m.k).size m.k
 have HO:=I (show c0.all (·.oneCell')=true by rw[ag];exact(zM_v w 0 m.k).one m.k);have HI:=I (show(Tryz.prog.info? 61).map (·.size)=some c0.size by rw[ah];exact AT);have ab:=I ah;rw[<-ag] at af;have EC:=I ag;clear hc hp ak ai ah ag aj
 by_cases m1:m.k=1
 ·have y1:(m.k==1)=true:=by simpa using m1
  have y2:(m.k==2)=false:=by simp;omega
  have y3:(m.k==3)=false:=by simp;omega
  have y4:(m.k==4)=false:=by simp;omega
  have y5:(m.k==5)=false:=by simp;omega
  have EN:=I (show nm m=⟨m.k,m.aq,tg0,re0,ap0,fa0⟩ by rw[nm,if_pos m1,m1]);clear m1;have HM:=I (show MgP w w.heap.size pa zT zR zP zF ⟨m.k,m.aq,tg0,re0,ap0,fa0⟩ from⟨Z.o.a,zT_v w w.heap.size,zR_v w w.heap.size,zP_v w w.heap.size,zF_v⟩);have O:=I (show(Tryz.prog.info? 61).map (·.size)=some (mgA m.k pa zT zR zP zF).size by rw[HM.o.size];exact AT);go_enter Tryz.func139,Tryz.ntmps139
  go_upto_region 1 with fail
  rw[<-aa,<-eW];clear aa eW
  go_wp2_with (first
   |(refine Ay (by rfl) 61 #[(0,.tmp 5)] (by rfl) c0 (by simp only[List.map_toArray,List.map_cons,List.map_nil];exact af.o) ?_)
   |(refine wpList_store_mid (by rfl) 61 (.tmp 3) (.tmp 6) (by rfl) W.heap.size 0 c0 (by rfl) (by rfl) (Am (Blk.new W 61 Av) _ (by have:=ab.o;simp;omega)) HI.o HO.o ?_;have Y:=Bq W 61 Av c0 (by have:=ab.o;simp;omega);generalize ((W.alloc (.cells Av 61)).setCells W.heap.size 0 c0.toList)=V at Y⊢;have HX:=I (show Blk V W.heap.size 61 (mgA m.k zA zT zR zP zF) from EC.o▸Y.1);replace HK:=I (HK.o.below Y.2);replace HR:=I (HR.o.below Y.2);replace X:=I (X.o.trans (Y.2.mono X.o.size));clear Y HA k0;have HA:=I (Z.o.at_ HK.o);have k0:=HA.o.k)
   |(refine Ad (by rfl) 49 (.tmp 11) (by rfl) w.heap.size 1 (by rfl) pa _ HA.o.a Tryz.underlying49 (by rfl) (by rw[Z.o.a.size];exact Cw) ?_)
   |(refine wpList_store_mid (by rfl) 49 (.tmp 13) (.tmp 12) (by rfl) W.heap.size 1 pa (by rfl) (by rfl) (BZ HX.o 1 _ (by rw[(zM_v W 0 m.k).size m.k,Z.o.a.size];omega)) (by rw[Z.o.a.size];exact Cw) Z.o.a.one ?_;have hX:=IX (ps:=pa) (ds:=mgA m.k pa zT zR zP zF) (pre:=[.int .i64 m.k]) (mid:=zA.toList) (post:=zT.toList++zR.toList++zP.toList++zF.toList) (o:=1) HX.o (by simp [mgA]) (by rfl) (by rw[Z.o.a.size];rfl) (by simp [mgA]);have M:=DK V W.heap.size 1 pa.toList;generalize V.setCells W.heap.size 1 pa.toList=V2 at hX M⊢;replace HX:=I hX;replace HR:=I (HR.o.grown M (by intro e;injection e with e;have:=ae.o;omega));replace X:=I (Ak X.o M X.o.size (by have:=ae.o;omega));clear hX M HA HK k0)
   |(refine Ad (by rfl) 61 (.tmp 3) (by rfl) W.heap.size 0 (by rfl) (mgA m.k pa zT zR zP zF) _ (Ac HX.o) Tryz.underlying61 (by rfl) O.o ?_)
   |(refine wpList_store_mid (by rfl) 61 (.tmp 2) (.tmp 34) (by rfl) (w.heap.size+1) 0 (mgA m.k pa zT zR zP zF) (by rfl) (by rfl) (Am HR.o _ (by rw[HM.o.size];have:=ad.o;omega)) O.o (HM.o.one _) ?_)
   |fail)
  have hE:=AI (ds:=mgA m.k pa zT zR zP zF) HR.o (by rw[HM.o.size];have:=ad.o;omega);have hp:=AK V2 (w.heap.size+1) (mgA m.k pa zT zR zP zF).toList;have hq:=Ao (P:=Tryz.prog) hE Tryz.underlying61 rfl O.o;refine bodyPost_ret (v:=.agg (mgA m.k pa zT zR zP zF)) ?_ ?_ ?_
  ·exact Al 2 61 ⟨w.heap.size+1,0,none⟩ Tryz.results139 rfl hq
  ·rfl
  have hB:=Ak X.o hp X.o.size (by omega);refine⟨_,rfl,?_,hB⟩;rw[EN.o];exact⟨pa,zT,zR,zP,zF,rfl,(HM.o.keep hB).more hB.size⟩
 ·have ao:=m1
  by_cases m2:m.k=2
  ·have y1:(m.k==1)=false:=by simp;omega
   have y2:(m.k==2)=true:=by simpa using m2
   have y3:(m.k==3)=false:=by simp;omega
   have y4:(m.k==4)=false:=by simp;omega
   have y5:(m.k==5)=false:=by simp;omega
   have EN:=I (show nm m=⟨m.k,as0,m.tg,re0,ap0,fa0⟩ by rw[nm,if_neg m1,if_pos m2,m2]);clear m1 m2;have HM:=I (show MgP w w.heap.size zA pt zR zP zF ⟨m.k,as0,m.tg,re0,ap0,fa0⟩ from⟨zA_v,Z.o.t,zR_v w w.heap.size,zP_v w w.heap.size,zF_v⟩);have O:=I (show(Tryz.prog.info? 61).map (·.size)=some (mgA m.k zA pt zR zP zF).size by rw[HM.o.size];exact AT);go_enter Tryz.func139,Tryz.ntmps139
   go_upto_region 1 with fail
   rw[<-aa,<-eW];clear aa eW
   go_wp2_with (first
    |(refine Ay (by rfl) 61 #[(0,.tmp 5)] (by rfl) c0 (by simp only[List.map_toArray,List.map_cons,List.map_nil];exact af.o) ?_)
    |(refine wpList_store_mid (by rfl) 61 (.tmp 3) (.tmp 6) (by rfl) W.heap.size 0 c0 (by rfl) (by rfl) (Am (Blk.new W 61 Av) _ (by have:=ab.o;simp;omega)) HI.o HO.o ?_;have Y:=Bq W 61 Av c0 (by have:=ab.o;simp;omega);generalize ((W.alloc (.cells Av 61)).setCells W.heap.size 0 c0.toList)=V at Y⊢;have HX:=I (show Blk V W.heap.size 61 (mgA m.k zA zT zR zP zF) from EC.o▸Y.1);replace HK:=I (HK.o.below Y.2);replace HR:=I (HR.o.below Y.2);replace X:=I (X.o.trans (Y.2.mono X.o.size));clear Y HA k0;have HA:=I (Z.o.at_ HK.o);have k0:=HA.o.k)
    |(refine Ad (by rfl) 53 (.tmp 16) (by rfl) w.heap.size 7 (by rfl) pt _ HA.o.t Tryz.underlying53 (by rfl) (by rw[Z.o.t.size];exact BO) ?_)
    |(refine wpList_store_mid (by rfl) 53 (.tmp 18) (.tmp 17) (by rfl) W.heap.size 7 pt (by rfl) (by rfl) (BZ HX.o 7 _ (by rw[(zM_v W 0 m.k).size m.k,Z.o.t.size];omega)) (by rw[Z.o.t.size];exact BO) Z.o.t.one ?_;have hX:=IX (ps:=pt) (ds:=mgA m.k zA pt zR zP zF) (pre:=[.int .i64 m.k]++zA.toList) (mid:=zT.toList) (post:=zR.toList++zP.toList++zF.toList) (o:=7) HX.o (by simp [mgA]) (by rfl) (by rw[Z.o.t.size];rfl) (by simp [mgA]);have M:=DK V W.heap.size 7 pt.toList;generalize V.setCells W.heap.size 7 pt.toList=V2 at hX M⊢;replace HX:=I hX;replace HR:=I (HR.o.grown M (by intro e;injection e with e;have:=ae.o;omega));replace X:=I (Ak X.o M X.o.size (by have:=ae.o;omega));clear hX M HA HK k0)
    |(refine Ad (by rfl) 61 (.tmp 3) (by rfl) W.heap.size 0 (by rfl) (mgA m.k zA pt zR zP zF) _ (Ac HX.o) Tryz.underlying61 (by rfl) O.o ?_)
    |(refine wpList_store_mid (by rfl) 61 (.tmp 2) (.tmp 34) (by rfl) (w.heap.size+1) 0 (mgA m.k zA pt zR zP zF) (by rfl) (by rfl) (Am HR.o _ (by rw[HM.o.size];have:=ad.o;omega)) O.o (HM.o.one _) ?_)
    |fail)
   have hE:=AI (ds:=mgA m.k zA pt zR zP zF) HR.o (by rw[HM.o.size];have:=ad.o;omega);have hp:=AK V2 (w.heap.size+1) (mgA m.k zA pt zR zP zF).toList;have hq:=Ao (P:=Tryz.prog) hE Tryz.underlying61 rfl O.o;refine bodyPost_ret (v:=.agg (mgA m.k zA pt zR zP zF)) ?_ ?_ ?_
   ·exact Al 2 61 ⟨w.heap.size+1,0,none⟩ Tryz.results139 rfl hq
   ·rfl
   have hB:=Ak X.o hp X.o.size (by omega);refine⟨_,rfl,?_,hB⟩;rw[EN.o];exact⟨zA,pt,zR,zP,zF,rfl,(HM.o.keep hB).more hB.size⟩
  ·have au:=m2
   by_cases m3:m.k=3
   ·have y1:(m.k==1)=false:=by simp;omega
    have y2:(m.k==2)=false:=by simp;omega
    have y3:(m.k==3)=true:=by simpa using m3
    have y4:(m.k==4)=false:=by simp;omega
    have y5:(m.k==5)=false:=by simp;omega
    have EN:=I (show nm m=⟨m.k,as0,tg0,m.re,ap0,fa0⟩ by rw[nm,if_neg m1,if_neg m2,if_pos m3,m3]);clear m1 m2 m3;have HM:=I (show MgP w w.heap.size zA zT pr zP zF ⟨m.k,as0,tg0,m.re,ap0,fa0⟩ from⟨zA_v,zT_v w w.heap.size,Z.o.r,zP_v w w.heap.size,zF_v⟩);have O:=I (show(Tryz.prog.info? 61).map (·.size)=some (mgA m.k zA zT pr zP zF).size by rw[HM.o.size];exact AT);go_enter Tryz.func139,Tryz.ntmps139
    go_upto_region 1 with fail
    rw[<-aa,<-eW];clear aa eW
    go_wp2_with (first
     |(refine Ay (by rfl) 61 #[(0,.tmp 5)] (by rfl) c0 (by simp only[List.map_toArray,List.map_cons,List.map_nil];exact af.o) ?_)
     |(refine wpList_store_mid (by rfl) 61 (.tmp 3) (.tmp 6) (by rfl) W.heap.size 0 c0 (by rfl) (by rfl) (Am (Blk.new W 61 Av) _ (by have:=ab.o;simp;omega)) HI.o HO.o ?_;have Y:=Bq W 61 Av c0 (by have:=ab.o;simp;omega);generalize ((W.alloc (.cells Av 61)).setCells W.heap.size 0 c0.toList)=V at Y⊢;have HX:=I (show Blk V W.heap.size 61 (mgA m.k zA zT zR zP zF) from EC.o▸Y.1);replace HK:=I (HK.o.below Y.2);replace HR:=I (HR.o.below Y.2);replace X:=I (X.o.trans (Y.2.mono X.o.size));clear Y HA k0;have HA:=I (Z.o.at_ HK.o);have k0:=HA.o.k)
     |(refine Ad (by rfl) 55 (.tmp 21) (by rfl) w.heap.size 16 (by rfl) pr _ HA.o.r Tryz.underlying55 (by rfl) (by rw[Z.o.r.size];exact Dv) ?_)
     |(refine wpList_store_mid (by rfl) 55 (.tmp 23) (.tmp 22) (by rfl) W.heap.size 16 pr (by rfl) (by rfl) (BZ HX.o 16 _ (by rw[(zM_v W 0 m.k).size m.k,Z.o.r.size];omega)) (by rw[Z.o.r.size];exact Dv) Z.o.r.one ?_;have hX:=IX (ps:=pr) (ds:=mgA m.k zA zT pr zP zF) (pre:=[.int .i64 m.k]++zA.toList++zT.toList) (mid:=zR.toList) (post:=zP.toList++zF.toList) (o:=16) HX.o (by simp [mgA]) (by rfl) (by rw[Z.o.r.size];rfl) (by simp [mgA]);have M:=DK V W.heap.size 16 pr.toList;generalize V.setCells W.heap.size 16 pr.toList=V2 at hX M⊢;replace HX:=I hX;replace HR:=I (HR.o.grown M (by intro e;injection e with e;have:=ae.o;omega));replace X:=I (Ak X.o M X.o.size (by have:=ae.o;omega));clear hX M HA HK k0)
     |(refine Ad (by rfl) 61 (.tmp 3) (by rfl) W.heap.size 0 (by rfl) (mgA m.k zA zT pr zP zF) _ (Ac HX.o) Tryz.underlying61 (by rfl) O.o ?_)
     |(refine wpList_store_mid (by rfl) 61 (.tmp 2) (.tmp 34) (by rfl) (w.heap.size+1) 0 (mgA m.k zA zT pr zP zF) (by rfl) (by rfl) (Am HR.o _ (by rw[HM.o.size];have:=ad.o;omega)) O.o (HM.o.one _) ?_)
     |fail)
    have hE:=AI (ds:=mgA m.k zA zT pr zP zF) HR.o (by rw[HM.o.size];have:=ad.o;omega);have hp:=AK V2 (w.heap.size+1) (mgA m.k zA zT pr zP zF).toList;have hq:=Ao (P:=Tryz.prog) hE Tryz.underlying61 rfl O.o;refine bodyPost_ret (v:=.agg (mgA m.k zA zT pr zP zF)) ?_ ?_ ?_
    ·exact Al 2 61 ⟨w.heap.size+1,0,none⟩ Tryz.results139 rfl hq
    ·rfl
    have hB:=Ak X.o hp X.o.size (by omega);refine⟨_,rfl,?_,hB⟩;rw[EN.o];exact⟨zA,zT,pr,zP,zF,rfl,(HM.o.keep hB).more hB.size⟩
   ·have ar:=m3
    by_cases m4:m.k=4
    ·have y1:(m.k==1)=false:=by simp;omega
     have y2:(m.k==2)=false:=by simp;omega
     have y3:(m.k==3)=false:=by simp;omega
     have y4:(m.k==4)=true:=by simpa using m4
     have y5:(m.k==5)=false:=by simp;omega
     have EN:=I (show nm m=⟨m.k,as0,tg0,re0,m.ap,fa0⟩ by rw[nm,if_neg m1,if_neg m2,if_neg m3,if_pos m4,m4]);clear m1 m2 m3 m4;have HM:=I (show MgP w w.heap.size zA zT zR pp zF ⟨m.k,as0,tg0,re0,m.ap,fa0⟩ from⟨zA_v,zT_v w w.heap.size,zR_v w w.heap.size,Z.o.p,zF_v⟩);have O:=I (show(Tryz.prog.info? 61).map (·.size)=some (mgA m.k zA zT zR pp zF).size by rw[HM.o.size];exact AT);go_enter Tryz.func139,Tryz.ntmps139
     go_upto_region 1 with fail
     rw[<-aa,<-eW];clear aa eW
     go_wp2_with (first
      |(refine Ay (by rfl) 61 #[(0,.tmp 5)] (by rfl) c0 (by simp only[List.map_toArray,List.map_cons,List.map_nil];exact af.o) ?_)
      |(refine wpList_store_mid (by rfl) 61 (.tmp 3) (.tmp 6) (by rfl) W.heap.size 0 c0 (by rfl) (by rfl) (Am (Blk.new W 61 Av) _ (by have:=ab.o;simp;omega)) HI.o HO.o ?_;have Y:=Bq W 61 Av c0 (by have:=ab.o;simp;omega);generalize ((W.alloc (.cells Av 61)).setCells W.heap.size 0 c0.toList)=V at Y⊢;have HX:=I (show Blk V W.heap.size 61 (mgA m.k zA zT zR zP zF) from EC.o▸Y.1);replace HK:=I (HK.o.below Y.2);replace HR:=I (HR.o.below Y.2);replace X:=I (X.o.trans (Y.2.mono X.o.size));clear Y HA k0;have HA:=I (Z.o.at_ HK.o);have k0:=HA.o.k)
      |(refine Ad (by rfl) 57 (.tmp 26) (by rfl) w.heap.size 23 (by rfl) pp _ HA.o.p Tryz.underlying57 (by rfl) (by rw[Z.o.p.size];exact DZ) ?_)
      |(refine wpList_store_mid (by rfl) 57 (.tmp 28) (.tmp 27) (by rfl) W.heap.size 23 pp (by rfl) (by rfl) (BZ HX.o 23 _ (by rw[(zM_v W 0 m.k).size m.k,Z.o.p.size];omega)) (by rw[Z.o.p.size];exact DZ) Z.o.p.one ?_;have hX:=IX (ps:=pp) (ds:=mgA m.k zA zT zR pp zF) (pre:=[.int .i64 m.k]++zA.toList++zT.toList++zR.toList) (mid:=zP.toList) (post:=zF.toList) (o:=23) HX.o (by simp [mgA]) (by rfl) (by rw[Z.o.p.size];rfl) (by simp [mgA]);have M:=DK V W.heap.size 23 pp.toList;generalize V.setCells W.heap.size 23 pp.toList=V2 at hX M⊢;replace HX:=I hX;replace HR:=I (HR.o.grown M (by intro e;injection e with e;have:=ae.o;omega));replace X:=I (Ak X.o M X.o.size (by have:=ae.o;omega));clear hX M HA HK k0)
      |(refine Ad (by rfl) 61 (.tmp 3) (by rfl) W.heap.size 0 (by rfl) (mgA m.k zA zT zR pp zF) _ (Ac HX.o) Tryz.underlying61 (by rfl) O.o ?_)
      |(refine wpList_store_mid (by rfl) 61 (.tmp 2) (.tmp 34) (by rfl) (w.heap.size+1) 0 (mgA m.k zA zT zR pp zF) (by rfl) (by rfl) (Am HR.o _ (by rw[HM.o.size];have:=ad.o;omega)) O.o (HM.o.one _) ?_)
      |fail)
     have hE:=AI (ds:=mgA m.k zA zT zR pp zF) HR.o (by rw[HM.o.size];have:=ad.o;omega);have hp:=AK V2 (w.heap.size+1) (mgA m.k zA zT zR pp zF).toList;have hq:=Ao (P:=Tryz.prog) hE Tryz.underlying61 rfl O.o;refine bodyPost_ret (v:=.agg (mgA m.k zA zT zR pp zF)) ?_ ?_ ?_
     ·exact Al 2 61 ⟨w.heap.size+1,0,none⟩ Tryz.results139 rfl hq
     ·rfl
     have hB:=Ak X.o hp X.o.size (by omega);refine⟨_,rfl,?_,hB⟩;rw[EN.o];exact⟨zA,zT,zR,pp,zF,rfl,(HM.o.keep hB).more hB.size⟩
    ·have al:=m4
     by_cases m5:m.k=5
     ·have y1:(m.k==1)=false:=by simp;omega
      have y2:(m.k==2)=false:=by simp;omega
      have y3:(m.k==3)=false:=by simp;omega
      have y4:(m.k==4)=false:=by simp;omega
      have y5:(m.k==5)=true:=by simpa using m5
      have EN:=I (show nm m=⟨m.k,as0,tg0,re0,ap0,m.fa⟩ by rw[nm,if_neg m1,if_neg m2,if_neg m3,if_neg m4,if_pos m5,m5]);clear m1 m2 m3 m4 m5;have HM:=I (show MgP w w.heap.size zA zT zR zP pf ⟨m.k,as0,tg0,re0,ap0,m.fa⟩ from⟨zA_v,zT_v w w.heap.size,zR_v w w.heap.size,zP_v w w.heap.size,Z.o.f⟩);have O:=I (show(Tryz.prog.info? 61).map (·.size)=some (mgA m.k zA zT zR zP pf).size by rw[HM.o.size];exact AT);go_enter Tryz.func139,Tryz.ntmps139
      go_upto_region 1 with fail
      rw[<-aa,<-eW];clear aa eW
      go_wp2_with (first
       |(refine Ay (by rfl) 61 #[(0,.tmp 5)] (by rfl) c0 (by simp only[List.map_toArray,List.map_cons,List.map_nil];exact af.o) ?_)
       |(refine wpList_store_mid (by rfl) 61 (.tmp 3) (.tmp 6) (by rfl) W.heap.size 0 c0 (by rfl) (by rfl) (Am (Blk.new W 61 Av) _ (by have:=ab.o;simp;omega)) HI.o HO.o ?_;have Y:=Bq W 61 Av c0 (by have:=ab.o;simp;omega);generalize ((W.alloc (.cells Av 61)).setCells W.heap.size 0 c0.toList)=V at Y⊢;have HX:=I (show Blk V W.heap.size 61 (mgA m.k zA zT zR zP zF) from EC.o▸Y.1);replace HK:=I (HK.o.below Y.2);replace HR:=I (HR.o.below Y.2);replace X:=I (X.o.trans (Y.2.mono X.o.size));clear Y HA k0;have HA:=I (Z.o.at_ HK.o);have k0:=HA.o.k)
       |(refine Ad (by rfl) 59 (.tmp 31) (by rfl) w.heap.size 28 (by rfl) pf _ HA.o.f Tryz.underlying59 (by rfl) (by rw[Z.o.f.size];exact FH) ?_)
       |(refine wpList_store_mid (by rfl) 59 (.tmp 33) (.tmp 32) (by rfl) W.heap.size 28 pf (by rfl) (by rfl) (BZ HX.o 28 _ (by rw[(zM_v W 0 m.k).size m.k,Z.o.f.size];omega)) (by rw[Z.o.f.size];exact FH) Z.o.f.one ?_;have hX:=IX (ps:=pf) (ds:=mgA m.k zA zT zR zP pf) (pre:=[.int .i64 m.k]++zA.toList++zT.toList++zR.toList++zP.toList) (mid:=zF.toList) (post:=[]) (o:=28) HX.o (by simp [mgA]) (by rfl) (by rw[Z.o.f.size];rfl) (by simp [mgA]);have M:=DK V W.heap.size 28 pf.toList;generalize V.setCells W.heap.size 28 pf.toList=V2 at hX M⊢;replace HX:=I hX;replace HR:=I (HR.o.grown M (by intro e;injection e with e;have:=ae.o;omega));replace X:=I (Ak X.o M X.o.size (by have:=ae.o;omega));clear hX M HA HK k0)
       |(refine Ad (by rfl) 61 (.tmp 3) (by rfl) W.heap.size 0 (by rfl) (mgA m.k zA zT zR zP pf) _ (Ac HX.o) Tryz.underlying61 (by rfl) O.o ?_)
       |(refine wpList_store_mid (by rfl) 61 (.tmp 2) (.tmp 34) (by rfl) (w.heap.size+1) 0 (mgA m.k zA zT zR zP pf) (by rfl) (by rfl) (Am HR.o _ (by rw[HM.o.size];have:=ad.o;omega)) O.o (HM.o.one _) ?_)
       |fail)
      have hE:=AI (ds:=mgA m.k zA zT zR zP pf) HR.o (by rw[HM.o.size];have:=ad.o;omega);have hp:=AK V2 (w.heap.size+1) (mgA m.k zA zT zR zP pf).toList;have hq:=Ao (P:=Tryz.prog) hE Tryz.underlying61 rfl O.o;refine bodyPost_ret (v:=.agg (mgA m.k zA zT zR zP pf)) ?_ ?_ ?_
      ·exact Al 2 61 ⟨w.heap.size+1,0,none⟩ Tryz.results139 rfl hq
      ·rfl
      have hB:=Ak X.o hp X.o.size (by omega);refine⟨_,rfl,?_,hB⟩;rw[EN.o];exact⟨zA,zT,zR,zP,pf,rfl,(HM.o.keep hB).more hB.size⟩
     ·have an:=m5
      have y1:(m.k==1)=false:=by simp;omega
      have y2:(m.k==2)=false:=by simp;omega
      have y3:(m.k==3)=false:=by simp;omega
      have y4:(m.k==4)=false:=by simp;omega
      have y5:(m.k==5)=false:=by simp;omega
      have EN:=I (show nm m=⟨m.k,as0,tg0,re0,ap0,fa0⟩ by rw[nm,if_neg m1,if_neg m2,if_neg m3,if_neg m4,if_neg m5]);clear m1 m2 m3 m4 m5;have HM:=I (show MgP w w.heap.size zA zT zR zP zF ⟨m.k,as0,tg0,re0,ap0,fa0⟩ from⟨zA_v,zT_v w w.heap.size,zR_v w w.heap.size,zP_v w w.heap.size,zF_v⟩);have O:=I (show(Tryz.prog.info? 61).map (·.size)=some (mgA m.k zA zT zR zP zF).size by rw[HM.o.size];exact AT);go_enter Tryz.func139,Tryz.ntmps139
      go_upto_region 1 with fail
      rw[<-aa,<-eW];clear aa eW
      go_wp2_with (first
       |(refine Ay (by rfl) 61 #[(0,.tmp 5)] (by rfl) c0 (by simp only[List.map_toArray,List.map_cons,List.map_nil];exact af.o) ?_)
       |(refine wpList_store_mid (by rfl) 61 (.tmp 3) (.tmp 6) (by rfl) W.heap.size 0 c0 (by rfl) (by rfl) (Am (Blk.new W 61 Av) _ (by have:=ab.o;simp;omega)) HI.o HO.o ?_;have Y:=Bq W 61 Av c0 (by have:=ab.o;simp;omega);generalize ((W.alloc (.cells Av 61)).setCells W.heap.size 0 c0.toList)=V at Y⊢;have HX:=I (show Blk V W.heap.size 61 (mgA m.k zA zT zR zP zF) from EC.o▸Y.1);replace HK:=I (HK.o.below Y.2);replace HR:=I (HR.o.below Y.2);replace X:=I (X.o.trans (Y.2.mono X.o.size));clear Y HA k0;have HA:=I (Z.o.at_ HK.o);have k0:=HA.o.k)
       |(refine Ad (by rfl) 61 (.tmp 3) (by rfl) W.heap.size 0 (by rfl) (mgA m.k zA zT zR zP zF) _ (Ac HX.o) Tryz.underlying61 (by rfl) O.o ?_)
       |(refine wpList_store_mid (by rfl) 61 (.tmp 2) (.tmp 34) (by rfl) (w.heap.size+1) 0 (mgA m.k zA zT zR zP zF) (by rfl) (by rfl) (Am HR.o _ (by rw[HM.o.size];have:=ad.o;omega)) O.o (HM.o.one _) ?_)
       |fail)
      have hE:=AI (ds:=mgA m.k zA zT zR zP zF) HR.o (by rw[HM.o.size];have:=ad.o;omega);have hp:=AK V (w.heap.size+1) (mgA m.k zA zT zR zP zF).toList;have hq:=Ao (P:=Tryz.prog) hE Tryz.underlying61 rfl O.o;refine bodyPost_ret (v:=.agg (mgA m.k zA zT zR zP zF)) ?_ ?_ ?_
      ·exact Al 2 61 ⟨w.heap.size+1,0,none⟩ Tryz.results139 rfl hq
      ·rfl
      have hB:=Ak X.o hp X.o.size (by omega);refine⟨_,rfl,?_,hB⟩;rw[EN.o];exact⟨zA,zT,zR,zP,zF,rfl,(HM.o.keep hB).more hB.size⟩
theorem Ws {pa M:Array Value} {x y:As} (h:AsV pa x) (g:AsV M y) (w:World):(Op.equalIn 10000 49 (.agg pa) (.agg M)).run Tryz.prog w=.ok (decide (x=y)) w:=by rw[h,g];exact Yf x y w
theorem Wt {pa M:Array Value} {x y:Fa} (h:FaV pa x) (g:FaV M y) (w:World):(Op.equalIn 10000 59 (.agg pa) (.agg M)).run Tryz.prog w=.ok (decide (x=y)) w:=by rw[h,g];exact Ye x y w
theorem Ry {pa M:Array Value} {x y:Tg} (w:World) (h:TgV w w.heap.size pa x) (g:TgV w w.heap.size M y):Calls Tryz.prog 172 #[.agg pa,.agg M] w fun e w'=>e=.returned (.bool (decide (x=y)))/\Below w.heap.size w w':=by
 obtain⟨b,a,rfl,⟨A1,c1,rfl,_,X⟩,⟨A2,c2,rfl,_,Z⟩⟩:=h;obtain⟨b2,a2,rfl,⟨Y,d1,rfl,_,g1⟩,⟨D2,d2,rfl,_,O⟩⟩:=g;exact Mv x y A1 A2 Y D2 c1 c2 d1 d2 w X g1 Z O
theorem Rz {pa M:Array Value} {x y:Re} (w:World) (h:ReV w w.heap.size pa x) (g:ReV w w.heap.size M y):Calls Tryz.prog 173 #[.agg pa,.agg M] w fun e w'=>e=.returned (.bool (decide (x=y)))/\Below w.heap.size w w':=by
 obtain⟨b,a,rfl,⟨A1,c1,rfl,_,X⟩,⟨A2,c2,rfl,_,Z⟩⟩:=h;obtain⟨b2,a2,rfl,⟨Y,d1,rfl,_,g1⟩,⟨D2,d2,rfl,_,O⟩⟩:=g;exact Mw x y A1 A2 Y D2 c1 c2 d1 d2 w X g1 Z O
theorem RB {pa M:Array Value} {x y:Ap} (w:World) (h:ApV w w.heap.size pa x) (g:ApV w w.heap.size M y):Calls Tryz.prog 174 #[.agg pa,.agg M] w fun e w'=>e=.returned (.bool (decide (x=y)))/\Below w.heap.size w w':=by
 obtain⟨b,a,rfl,⟨A1,c1,rfl,_,X⟩,⟨A2,c2,rfl,_,Z⟩⟩:=h;obtain⟨b2,a2,rfl,⟨Y,d1,rfl,_,g1⟩,⟨D2,d2,rfl,_,O⟩⟩:=g;exact Mx x y A1 A2 Y D2 c1 c2 d1 d2 w X g1 Z O
theorem mg_eq (m o:Mg):decide (m=o)=(decide (m.k=o.k)&&(decide (m.aq=o.aq)&&(decide (m.tg=o.tg)&&(decide (m.re=o.re)&&(decide (m.ap=o.ap)&&decide (m.fa=o.fa)))))):=by
 obtain⟨k,a,t,r,p,f⟩:=m;obtain⟨k2,O,M,r2,Y,X⟩:=o;simp [Bool.decide_and]
theorem RE (cs ds:Array Value) (m o:Mg) (w:World) (h:MgV w w.heap.size cs m) (g:MgV w w.heap.size ds o):Calls Tryz.prog 138 #[.agg cs,.agg ds] w fun e w'=>e=.returned (.bool (decide (m=o)))/\Below w.heap.size w w':=by
 obtain⟨pa,pt,pr,pp,pf,hc,hp⟩:=h;obtain⟨qa,qt,qr,qp,qf,hd,hq⟩:=g;obtain⟨W,eW⟩:=Aj ((w.alloc (.cells cs 61)).alloc (.cells ds 61));have HK:=I (show Blk W w.heap.size 61 (mgA m.k pa pt pr pp pf) by rw[eW,<-hc];exact(Blk.new _ _ _).alloc _);have aa:=Blk.new (w.alloc (.cells cs 61)) 61 ds;rw[show(w.alloc (.cells cs 61)).heap.size=w.heap.size+1 by simp,<-eW,hd] at aa;have Z:=I aa;clear aa;have Y:=I (show Below w.heap.size w W by rw[eW];exact(Ag.alloc Af _).alloc (by simp) _);have HP:=I hp;have HQ:=I hq;have O:=I (hp.at_ HK.o);have X:=I (hq.at_ Z.o);have k0:=O.o.k;have k1:=X.o.k;have Tt:=I (fun w1 (h:Below w.heap.size w w1)=>Ry w1 ((hp.t.keep h).more h.size) ((hq.t.keep h).more h.size));have Tr:=I (fun w1 (h:Below w.heap.size w w1)=>Rz w1 ((hp.r.keep h).more h.size) ((hq.r.keep h).more h.size));have Tp:=I (fun w1 (h:Below w.heap.size w w1)=>RB w1 ((hp.p.keep h).more h.size) ((hq.p.keep h).more h.size));have EA:=I (fun w1=>Ws hp.a hq.a w1);have EF:=I (fun w1=>Wt hp.f hq.f w1);have ME:=I (mg_eq m o);clear hc hd hp hq;cases ek:decide (m.k=o.k) with
 |false=>
  have tk:(m.k==o.k)=false:=by simpa using ek
  have E:=I (show decide (m=o)=false by rw[ME.o,ek];rfl);clear ek;go_enter Tryz.func138,Tryz.ntmps138
  go_upto_region 1 with fail
  rw[<-eW];clear eW
  go_wp2
  go_ret;exact⟨by rw[E.o];rfl,Y.o⟩
 |true=>
  have tk:(m.k==o.k)=true:=by simpa using ek
  cases ea:decide (m.aq=o.aq) with
  |false=>
   rw[ea] at EA;have fa:=EA.o;have E:=I (show decide (m=o)=false by rw[ME.o,ek,ea];rfl);clear ek ea;go_enter Tryz.func138,Tryz.ntmps138
   go_upto_region 1 with fail
   rw[<-eW];clear eW
   go_wp2_with (first
    |(refine AG (by rfl) 49 (.tmp 11) (by rfl) w.heap.size 1 (by rfl) pa _ O.o.a Tryz.underlying49 (by rfl) (by rw[HP.o.a.size];exact Cw) ?_)
    |(refine AG (by rfl) 49 (.tmp 13) (by rfl) (w.heap.size+1) 1 (by rfl) qa _ X.o.a Tryz.underlying49 (by rfl) (by rw[HQ.o.a.size];exact Cw) ?_)
    |fail)
   go_ret;exact⟨by rw[E.o];rfl,Y.o⟩
  |true=>
   rw[ea] at EA;have fa:=EA.o;cases et:decide (m.tg=o.tg) with
   |false=>
    rw[et] at Tt;have E:=I (show decide (m=o)=false by rw[ME.o,ek,ea,et];rfl);clear ek ea et;go_enter Tryz.func138,Tryz.ntmps138
    go_upto_region 1 with fail
    rw[<-eW];clear eW
    go_wp2_with (first
     |(refine AG (by rfl) 49 (.tmp 11) (by rfl) w.heap.size 1 (by rfl) pa _ O.o.a Tryz.underlying49 (by rfl) (by rw[HP.o.a.size];exact Cw) ?_)
     |(refine AG (by rfl) 49 (.tmp 13) (by rfl) (w.heap.size+1) 1 (by rfl) qa _ X.o.a Tryz.underlying49 (by rfl) (by rw[HQ.o.a.size];exact Cw) ?_)
     |(refine AG (by rfl) 53 (.tmp 18) (by rfl) w.heap.size 7 (by rfl) pt _ O.o.t Tryz.underlying53 (by rfl) (by rw[HP.o.t.size];exact BO) ?_)
     |(refine AG (by rfl) 53 (.tmp 20) (by rfl) (w.heap.size+1) 7 (by rfl) qt _ X.o.t Tryz.underlying53 (by rfl) (by rw[HQ.o.t.size];exact BO) ?_)
     |(go_at_call 172;refine Ah (Tt.o _ Y.o) ?_;rintro wt M;clear O X;replace HK:=I (HK.o.below M);replace Z:=I (Z.o.below M);replace Y:=Y.t M;clear M Tt;have O:=I (HP.o.at_ HK.o);have X:=I (HQ.o.at_ Z.o))
     |fail)
    go_ret;exact⟨by rw[E.o];rfl,Y.o⟩
   |true=>
    rw[et] at Tt;cases er:decide (m.re=o.re) with
    |false=>
     rw[er] at Tr;have E:=I (show decide (m=o)=false by rw[ME.o,ek,ea,et,er];rfl);clear ek ea et er;go_enter Tryz.func138,Tryz.ntmps138
     go_upto_region 1 with fail
     rw[<-eW];clear eW
     go_wp2_with (first
      |(refine AG (by rfl) 49 (.tmp 11) (by rfl) w.heap.size 1 (by rfl) pa _ O.o.a Tryz.underlying49 (by rfl) (by rw[HP.o.a.size];exact Cw) ?_)
      |(refine AG (by rfl) 49 (.tmp 13) (by rfl) (w.heap.size+1) 1 (by rfl) qa _ X.o.a Tryz.underlying49 (by rfl) (by rw[HQ.o.a.size];exact Cw) ?_)
      |(refine AG (by rfl) 53 (.tmp 18) (by rfl) w.heap.size 7 (by rfl) pt _ O.o.t Tryz.underlying53 (by rfl) (by rw[HP.o.t.size];exact BO) ?_)
      |(refine AG (by rfl) 53 (.tmp 20) (by rfl) (w.heap.size+1) 7 (by rfl) qt _ X.o.t Tryz.underlying53 (by rfl) (by rw[HQ.o.t.size];exact BO) ?_)
      |(go_at_call 172;refine Ah (Tt.o _ Y.o) ?_;rintro wt M;clear O X;replace HK:=I (HK.o.below M);replace Z:=I (Z.o.below M);replace Y:=Y.t M;clear M Tt;have O:=I (HP.o.at_ HK.o);have X:=I (HQ.o.at_ Z.o))
      |(refine AG (by rfl) 55 (.tmp 25) (by rfl) w.heap.size 16 (by rfl) pr _ O.o.r Tryz.underlying55 (by rfl) (by rw[HP.o.r.size];exact Dv) ?_)
      |(refine AG (by rfl) 55 (.tmp 27) (by rfl) (w.heap.size+1) 16 (by rfl) qr _ X.o.r Tryz.underlying55 (by rfl) (by rw[HQ.o.r.size];exact Dv) ?_)
      |(go_at_call 173;refine Ah (Tr.o _ Y.o) ?_;rintro wr M;clear O X;replace HK:=I (HK.o.below M);replace Z:=I (Z.o.below M);replace Y:=Y.t M;clear M Tr;have O:=I (HP.o.at_ HK.o);have X:=I (HQ.o.at_ Z.o))
      |fail)
     go_ret;exact⟨by rw[E.o];rfl,Y.o⟩
    |true=>
     rw[er] at Tr;cases ep:decide (m.ap=o.ap) with
     |false=>
      rw[ep] at Tp;have E:=I (show decide (m=o)=false by rw[ME.o,ek,ea,et,er,ep];rfl);clear ek ea et er ep;go_enter Tryz.func138,Tryz.ntmps138
      go_upto_region 1 with fail
      rw[<-eW];clear eW
      go_wp2_with (first
       |(refine AG (by rfl) 49 (.tmp 11) (by rfl) w.heap.size 1 (by rfl) pa _ O.o.a Tryz.underlying49 (by rfl) (by rw[HP.o.a.size];exact Cw) ?_)
       |(refine AG (by rfl) 49 (.tmp 13) (by rfl) (w.heap.size+1) 1 (by rfl) qa _ X.o.a Tryz.underlying49 (by rfl) (by rw[HQ.o.a.size];exact Cw) ?_)
       |(refine AG (by rfl) 53 (.tmp 18) (by rfl) w.heap.size 7 (by rfl) pt _ O.o.t Tryz.underlying53 (by rfl) (by rw[HP.o.t.size];exact BO) ?_)
       |(refine AG (by rfl) 53 (.tmp 20) (by rfl) (w.heap.size+1) 7 (by rfl) qt _ X.o.t Tryz.underlying53 (by rfl) (by rw[HQ.o.t.size];exact BO) ?_)
       |(go_at_call 172;refine Ah (Tt.o _ Y.o) ?_;rintro wt M;clear O X;replace HK:=I (HK.o.below M);replace Z:=I (Z.o.below M);replace Y:=Y.t M;clear M Tt;have O:=I (HP.o.at_ HK.o);have X:=I (HQ.o.at_ Z.o))
       |(refine AG (by rfl) 55 (.tmp 25) (by rfl) w.heap.size 16 (by rfl) pr _ O.o.r Tryz.underlying55 (by rfl) (by rw[HP.o.r.size];exact Dv) ?_)
       |(refine AG (by rfl) 55 (.tmp 27) (by rfl) (w.heap.size+1) 16 (by rfl) qr _ X.o.r Tryz.underlying55 (by rfl) (by rw[HQ.o.r.size];exact Dv) ?_)
       |(go_at_call 173;refine Ah (Tr.o _ Y.o) ?_;rintro wr M;clear O X;replace HK:=I (HK.o.below M);replace Z:=I (Z.o.below M);replace Y:=Y.t M;clear M Tr;have O:=I (HP.o.at_ HK.o);have X:=I (HQ.o.at_ Z.o))
       |(refine AG (by rfl) 57 (.tmp 32) (by rfl) w.heap.size 23 (by rfl) pp _ O.o.p Tryz.underlying57 (by rfl) (by rw[HP.o.p.size];exact DZ) ?_)
       |(refine AG (by rfl) 57 (.tmp 34) (by rfl) (w.heap.size+1) 23 (by rfl) qp _ X.o.p Tryz.underlying57 (by rfl) (by rw[HQ.o.p.size];exact DZ) ?_)
       |(go_at_call 174;refine Ah (Tp.o _ Y.o) ?_;rintro wp M;clear O X;replace HK:=I (HK.o.below M);replace Z:=I (Z.o.below M);replace Y:=Y.t M;clear M Tp;have O:=I (HP.o.at_ HK.o);have X:=I (HQ.o.at_ Z.o))
       |fail)
      go_ret;exact⟨by rw[E.o];rfl,Y.o⟩
     |true=>
      rw[ep] at Tp;cases ef:decide (m.fa=o.fa) with
      |false=>
       rw[ef] at EF;have ff:=EF.o;have E:=I (show decide (m=o)=false by rw[ME.o,ek,ea,et,er,ep,ef];rfl);clear ek ea et er ep ef;go_enter Tryz.func138,Tryz.ntmps138
       go_upto_region 1 with fail
       rw[<-eW];clear eW
       go_wp2_with (first
        |(refine AG (by rfl) 49 (.tmp 11) (by rfl) w.heap.size 1 (by rfl) pa _ O.o.a Tryz.underlying49 (by rfl) (by rw[HP.o.a.size];exact Cw) ?_)
        |(refine AG (by rfl) 49 (.tmp 13) (by rfl) (w.heap.size+1) 1 (by rfl) qa _ X.o.a Tryz.underlying49 (by rfl) (by rw[HQ.o.a.size];exact Cw) ?_)
        |(refine AG (by rfl) 53 (.tmp 18) (by rfl) w.heap.size 7 (by rfl) pt _ O.o.t Tryz.underlying53 (by rfl) (by rw[HP.o.t.size];exact BO) ?_)
        |(refine AG (by rfl) 53 (.tmp 20) (by rfl) (w.heap.size+1) 7 (by rfl) qt _ X.o.t Tryz.underlying53 (by rfl) (by rw[HQ.o.t.size];exact BO) ?_)
        |(go_at_call 172;refine Ah (Tt.o _ Y.o) ?_;rintro wt M;clear O X;replace HK:=I (HK.o.below M);replace Z:=I (Z.o.below M);replace Y:=Y.t M;clear M Tt;have O:=I (HP.o.at_ HK.o);have X:=I (HQ.o.at_ Z.o))
        |(refine AG (by rfl) 55 (.tmp 25) (by rfl) w.heap.size 16 (by rfl) pr _ O.o.r Tryz.underlying55 (by rfl) (by rw[HP.o.r.size];exact Dv) ?_)
        |(refine AG (by rfl) 55 (.tmp 27) (by rfl) (w.heap.size+1) 16 (by rfl) qr _ X.o.r Tryz.underlying55 (by rfl) (by rw[HQ.o.r.size];exact Dv) ?_)
        |(go_at_call 173;refine Ah (Tr.o _ Y.o) ?_;rintro wr M;clear O X;replace HK:=I (HK.o.below M);replace Z:=I (Z.o.below M);replace Y:=Y.t M;clear M Tr;have O:=I (HP.o.at_ HK.o);have X:=I (HQ.o.at_ Z.o))
        |(refine AG (by rfl) 57 (.tmp 32) (by rfl) w.heap.size 23 (by rfl) pp _ O.o.p Tryz.underlying57 (by rfl) (by rw[HP.o.p.size];exact DZ) ?_)
        |(refine AG (by rfl) 57 (.tmp 34) (by rfl) (w.heap.size+1) 23 (by rfl) qp _ X.o.p Tryz.underlying57 (by rfl) (by rw[HQ.o.p.size];exact DZ) ?_)
        |(go_at_call 174;refine Ah (Tp.o _ Y.o) ?_;rintro wp M;clear O X;replace HK:=I (HK.o.below M);replace Z:=I (Z.o.below M);replace Y:=Y.t M;clear M Tp;have O:=I (HP.o.at_ HK.o);have X:=I (HQ.o.at_ Z.o))
        |(refine AG (by rfl) 59 (.tmp 39) (by rfl) w.heap.size 28 (by rfl) pf _ O.o.f Tryz.underlying59 (by rfl) (by rw[HP.o.f.size];exact FH) ?_)
        |(refine AG (by rfl) 59 (.tmp 41) (by rfl) (w.heap.size+1) 28 (by rfl) qf _ X.o.f Tryz.underlying59 (by rfl) (by rw[HQ.o.f.size];exact FH) ?_)
        |fail)
       go_ret;exact⟨by rw[E.o];rfl,Y.o⟩
      |true=>
       rw[ef] at EF;have ff:=EF.o;have E:=I (show decide (m=o)=true by rw[ME.o,ek,ea,et,er,ep,ef];rfl);clear ek ea et er ep ef;go_enter Tryz.func138,Tryz.ntmps138
       go_upto_region 1 with fail
       rw[<-eW];clear eW
       go_wp2_with (first
        |(refine AG (by rfl) 49 (.tmp 11) (by rfl) w.heap.size 1 (by rfl) pa _ O.o.a Tryz.underlying49 (by rfl) (by rw[HP.o.a.size];exact Cw) ?_)
        |(refine AG (by rfl) 49 (.tmp 13) (by rfl) (w.heap.size+1) 1 (by rfl) qa _ X.o.a Tryz.underlying49 (by rfl) (by rw[HQ.o.a.size];exact Cw) ?_)
        |(refine AG (by rfl) 53 (.tmp 18) (by rfl) w.heap.size 7 (by rfl) pt _ O.o.t Tryz.underlying53 (by rfl) (by rw[HP.o.t.size];exact BO) ?_)
        |(refine AG (by rfl) 53 (.tmp 20) (by rfl) (w.heap.size+1) 7 (by rfl) qt _ X.o.t Tryz.underlying53 (by rfl) (by rw[HQ.o.t.size];exact BO) ?_)
        |(go_at_call 172;refine Ah (Tt.o _ Y.o) ?_;rintro wt M;clear O X;replace HK:=I (HK.o.below M);replace Z:=I (Z.o.below M);replace Y:=Y.t M;clear M Tt;have O:=I (HP.o.at_ HK.o);have X:=I (HQ.o.at_ Z.o))
        |(refine AG (by rfl) 55 (.tmp 25) (by rfl) w.heap.size 16 (by rfl) pr _ O.o.r Tryz.underlying55 (by rfl) (by rw[HP.o.r.size];exact Dv) ?_)
        |(refine AG (by rfl) 55 (.tmp 27) (by rfl) (w.heap.size+1) 16 (by rfl) qr _ X.o.r Tryz.underlying55 (by rfl) (by rw[HQ.o.r.size];exact Dv) ?_)
        |(go_at_call 173;refine Ah (Tr.o _ Y.o) ?_;rintro wr M;clear O X;replace HK:=I (HK.o.below M);replace Z:=I (Z.o.below M);replace Y:=Y.t M;clear M Tr;have O:=I (HP.o.at_ HK.o);have X:=I (HQ.o.at_ Z.o))
        |(refine AG (by rfl) 57 (.tmp 32) (by rfl) w.heap.size 23 (by rfl) pp _ O.o.p Tryz.underlying57 (by rfl) (by rw[HP.o.p.size];exact DZ) ?_)
        |(refine AG (by rfl) 57 (.tmp 34) (by rfl) (w.heap.size+1) 23 (by rfl) qp _ X.o.p Tryz.underlying57 (by rfl) (by rw[HQ.o.p.size];exact DZ) ?_)
        |(go_at_call 174;refine Ah (Tp.o _ Y.o) ?_;rintro wp M;clear O X;replace HK:=I (HK.o.below M);replace Z:=I (Z.o.below M);replace Y:=Y.t M;clear M Tp;have O:=I (HP.o.at_ HK.o);have X:=I (HQ.o.at_ Z.o))
        |(refine AG (by rfl) 59 (.tmp 39) (by rfl) w.heap.size 28 (by rfl) pf _ O.o.f Tryz.underlying59 (by rfl) (by rw[HP.o.f.size];exact FH) ?_)
        |(refine AG (by rfl) 59 (.tmp 41) (by rfl) (w.heap.size+1) 28 (by rfl) qf _ X.o.f Tryz.underlying59 (by rfl) (by rw[HQ.o.f.size];exact FH) ?_)
        |fail)
       go_ret;exact⟨by rw[E.o];rfl,Y.o⟩
end Mc
end Go.Proofs.YtlccngianpfalaaGreat
