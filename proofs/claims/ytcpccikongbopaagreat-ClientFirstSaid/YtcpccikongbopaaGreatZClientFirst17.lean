import Derived.Test.YtcpccikongbopaaGreatZClientFirst15
import Derived.Test.YtcpccikongbopaaGreatZClientFirst16
set_option maxHeartbeats 25600000
set_option maxRecDepth 100000
set_option linter.unusedVariables false
set_option linter.unusedSimpArgs false
namespace Go.Proofs.YtcpccikongbopaaGreat
namespace Mc
open Go.RowKit Ad DerP Ms
theorem GP (a b:L) (A D:Option Addr) (c d B:Nat) (w:World) (h:Rd w B A (bvs a)) (g:Rd w B D (bvs b)):Calls F.prog 101 #[.slice A a.length c,.slice D b.length d] w fun e w'=>e=.returned (.bool (decide (a=b)))/\w=w':=by
 have O:=Bl (P:=F.prog) w 25 5 F.underlying25 F.underlying5 h a.length c rfl 9 F.underlying9;have M:=Bl (P:=F.prog) w 25 5 F.underlying25 F.underlying5 g b.length d rfl 9 F.underlying9;clear h g
 by_cases e:a=b
 ·have X:(a==b)=true:=by simpa using e
  have E:=I (decide_eq_true e);clear e;go_enter F.func101,F.ntmps101
  go_wp2
  go_ret;exact⟨by rw[E.o];rfl,rfl⟩
 ·have X:(a==b)=false:=by simpa using e
  have E:=I (decide_eq_false e);clear e;go_enter F.func101,F.ntmps101
  go_wp2
  go_ret;exact⟨by rw[E.o];rfl,rfl⟩
theorem GQ (x y:Tk) (A1 O:Option Addr) (c1 Y:Nat) (w:World) (Z:Rd w w.heap.size A1 (bvs x.b)) (g1:Rd w w.heap.size O (bvs y.b)) :
  Calls D.prog 207 #[.agg #[.string ⟨x.s.1.toArray⟩,.string ⟨x.s.2.toArray⟩,.int .i64 x.k,.slice A1 x.b.length c1],.agg #[.string ⟨y.s.1.toArray⟩,.string ⟨y.s.2.toArray⟩,.int .i64 y.k,.slice O y.b.length Y]] w fun e w'=>e=.returned (.bool (decide (x=y)))/\Below w.heap.size w w':=by
 obtain⟨⟨r,n⟩,k,b⟩:=x;obtain⟨⟨r2,X⟩,k2,b2⟩:=y;simp only at Z g1⊢;have F:=I (((Below.refl w.heap.size w).alloc Ae (.cells #[.string ⟨List.toArray r⟩,.string ⟨List.toArray n⟩,.int .i64 k,.slice A1 b.length c1] 53)).alloc (by simp) (.cells #[.string ⟨List.toArray r2⟩,.string ⟨List.toArray X⟩,.int .i64 k2,.slice O b2.length Y] 53));have HX:=I ((Blk.new w 53 #[.string ⟨List.toArray r⟩,.string ⟨List.toArray n⟩,.int .i64 k,.slice A1 b.length c1]).alloc (.cells #[.string ⟨List.toArray r2⟩,.string ⟨List.toArray X⟩,.int .i64 k2,.slice O b2.length Y] 53));have hy:=Blk.new (w.alloc (.cells #[.string ⟨List.toArray r⟩,.string ⟨List.toArray n⟩,.int .i64 k,.slice A1 b.length c1] 53)) 53 #[.string ⟨List.toArray r2⟩,.string ⟨List.toArray X⟩,.int .i64 k2,.slice O b2.length Y];rw[show(w.alloc (.cells #[.string ⟨List.toArray r⟩,.string ⟨List.toArray n⟩,.int .i64 k,.slice A1 b.length c1] 53)).heap.size=w.heap.size+1 by simp] at hy;have HY:=I hy;clear hy;have M:=I (fun w1 (h:Below w.heap.size w w1)=>GP b b2 A1 O c1 Y w.heap.size w1 (Z.below h) (g1.below h));clear Z g1
 by_cases e0a:r=r2
 ·subst e0a
  by_cases e0b:n=X
  ·subst e0b
   by_cases e1:k=k2
   ·subst e1
    have t1:(k==k)=true:=by simp
    cases e2:decide (b=b2) with
    |false=>
     have E:=I (show decide ((⟨(r,n),k,b⟩:Tk)=⟨(r,n),k,b2⟩)=false from decide_eq_false (fun h=>of_decide_eq_false e2 (congrArg Tk.b h)));rw[e2] at M;clear e2;go_enter D.func207,D.ntmps207
     go_wp2_with (go_at_call 101;refine Calls.mono (M.o _ F.o) ?_;rintro e4 ab ⟨rfl,hw⟩;subst hw;clear M)
     go_ret;exact⟨by rw[E.o];rfl,F.o⟩
    |true=>
     rw[e2] at M;have aa:=of_decide_eq_true e2;clear e2;subst aa;have E:=I (show decide ((⟨(r,n),k,b⟩:Tk)=⟨(r,n),k,b⟩)=true from decide_eq_true rfl);go_enter D.func207,D.ntmps207
     go_wp2_with (go_at_call 101;refine Calls.mono (M.o _ F.o) ?_;rintro e4 ab ⟨rfl,hw⟩;subst hw;clear M)
     go_ret;exact⟨by rw[E.o];rfl,F.o⟩
   ·have t1:(k==k2)=false:=by simpa using e1
    have E:=I (show decide ((⟨(r,n),k,b⟩:Tk)=⟨(r,n),k2,b2⟩)=false from decide_eq_false (fun h=>e1 (congrArg Tk.k h)));go_enter D.func207,D.ntmps207
    go_wp2
    go_ret;exact⟨by rw[E.o];rfl,F.o⟩
  ·have E:=I (show decide ((⟨(r,n),k,b⟩:Tk)=⟨(r,X),k2,b2⟩)=false from decide_eq_false (fun h=>e0b (congrArg (fun t=>t.s.2) h)))
   go_enter D.func207,D.ntmps207
   go_wp2
   go_ret;exact⟨by rw[E.o];rfl,F.o⟩
 ·have E:=I (show decide ((⟨(r,n),k,b⟩:Tk)=⟨(r2,X),k2,b2⟩)=false from decide_eq_false (fun h=>e0a (congrArg (fun t=>t.s.1) h)))
  go_enter D.func207,D.ntmps207
  go_wp2
  go_ret;exact⟨by rw[E.o];rfl,F.o⟩
theorem LP (x y:Tg) (A1 A2 D1 D2:Option Addr) (c1 c2 d1 d2:Nat) (w:World) (h1:Rd w w.heap.size A1 (bvs x.t.b)) (g1:Rd w w.heap.size D1 (bvs y.t.b)) (h2:Rd w w.heap.size A2 (bvs x.a)) (g2:Rd w w.heap.size D2 (bvs y.a)) :
  Calls O.prog 185 #[.agg #[.string ⟨x.t.s.1.toArray⟩,.string ⟨x.t.s.2.toArray⟩,.int .i64 x.t.k,.slice A1 x.t.b.length c1,.slice A2 x.a.length c2,.string ⟨x.s.1.toArray⟩,.string ⟨x.s.2.toArray⟩,.int .i64 x.u,.int .i64 x.no],.agg #[.string ⟨y.t.s.1.toArray⟩,.string ⟨y.t.s.2.toArray⟩,.int .i64 y.t.k,.slice D1 y.t.b.length d1,.slice D2 y.a.length d2,.string ⟨y.s.1.toArray⟩,.string ⟨y.s.2.toArray⟩,.int .i64 y.u,.int .i64 y.no]] w fun e w'=>e=.returned (.bool (decide (x=y)))/\Below w.heap.size w w':=by
 obtain⟨t,a,⟨r,n⟩,u,no⟩:=x;obtain⟨t2,a2,⟨r2,n2⟩,u2,X⟩:=y;simp only at h1 g1 h2 g2⊢;have Y:=I (((Below.refl w.heap.size w).alloc Ae (.cells #[.string ⟨t.s.1.toArray⟩,.string ⟨t.s.2.toArray⟩,.int .i64 t.k,.slice A1 t.b.length c1,.slice A2 a.length c2,.string ⟨List.toArray r⟩,.string ⟨List.toArray n⟩,.int .i64 u,.int .i64 no] 55)).alloc (by simp) (.cells #[.string ⟨t2.s.1.toArray⟩,.string ⟨t2.s.2.toArray⟩,.int .i64 t2.k,.slice D1 t2.b.length d1,.slice D2 a2.length d2,.string ⟨List.toArray r2⟩,.string ⟨List.toArray n2⟩,.int .i64 u2,.int .i64 X] 55));have F:=I ((Blk.new w 55 #[.string ⟨t.s.1.toArray⟩,.string ⟨t.s.2.toArray⟩,.int .i64 t.k,.slice A1 t.b.length c1,.slice A2 a.length c2,.string ⟨List.toArray r⟩,.string ⟨List.toArray n⟩,.int .i64 u,.int .i64 no]).alloc (.cells #[.string ⟨t2.s.1.toArray⟩,.string ⟨t2.s.2.toArray⟩,.int .i64 t2.k,.slice D1 t2.b.length d1,.slice D2 a2.length d2,.string ⟨List.toArray r2⟩,.string ⟨List.toArray n2⟩,.int .i64 u2,.int .i64 X] 55));have hy:=Blk.new (w.alloc (.cells #[.string ⟨t.s.1.toArray⟩,.string ⟨t.s.2.toArray⟩,.int .i64 t.k,.slice A1 t.b.length c1,.slice A2 a.length c2,.string ⟨List.toArray r⟩,.string ⟨List.toArray n⟩,.int .i64 u,.int .i64 no] 55)) 55 #[.string ⟨t2.s.1.toArray⟩,.string ⟨t2.s.2.toArray⟩,.int .i64 t2.k,.slice D1 t2.b.length d1,.slice D2 a2.length d2,.string ⟨List.toArray r2⟩,.string ⟨List.toArray n2⟩,.int .i64 u2,.int .i64 X];rw[show(w.alloc (.cells #[.string ⟨t.s.1.toArray⟩,.string ⟨t.s.2.toArray⟩,.int .i64 t.k,.slice A1 t.b.length c1,.slice A2 a.length c2,.string ⟨List.toArray r⟩,.string ⟨List.toArray n⟩,.int .i64 u,.int .i64 no] 55)).heap.size=w.heap.size+1 by simp] at hy;have M:=I hy;clear hy;have T1:=I (fun D (h:Below w.heap.size w D)=>GQ t t2 A1 D1 c1 d1 D ((h1.below h).more h.size) ((g1.below h).more h.size));have T2:=I (fun D (h:Below w.heap.size w D)=>GP a a2 A2 D2 c2 d2 w.heap.size D (h2.below h) (g2.below h));clear h1 g1 h2 g2;cases e0:decide (t=t2) with
 |false=>
  have E:=I (show decide ((⟨t,a,(r,n),u,no⟩:Tg)=⟨t2,a2,(r2,n2),u2,X⟩)=false from decide_eq_false (fun h=>of_decide_eq_false e0 (congrArg Tg.t h)));rw[e0] at T1;clear e0;go_enter O.func185,O.ntmps185
  go_wp2_with (go_at_call 207;refine Calls.mono (T1.o _ Y.o) ?_;rintro e3 D ⟨rfl,Z⟩;replace F:=I (F.o.below Z);replace M:=I (M.o.below Z);replace Y:=Y.t Z;clear Z T1;have ad:D.cell? ⟨w.heap.size,4,none⟩=some (.slice A2 a.length c2):=F.o.cell 4;have ag:D.cell? ⟨w.heap.size+1,4,none⟩=some (.slice D2 a2.length d2):=M.o.cell 4;have ab:D.cell? ⟨w.heap.size,5,none⟩=some (.string ⟨List.toArray r⟩):=F.o.cell 5;have ah:D.cell? ⟨w.heap.size+1,5,none⟩=some (.string ⟨List.toArray r2⟩):=M.o.cell 5;have ai:D.cell? ⟨w.heap.size,6,none⟩=some (.string ⟨List.toArray n⟩):=F.o.cell 6;have aj:D.cell? ⟨w.heap.size+1,6,none⟩=some (.string ⟨List.toArray n2⟩):=M.o.cell 6;have ae:D.cell? ⟨w.heap.size,7,none⟩=some (.int .i64 u):=F.o.cell 7;have ak:D.cell? ⟨w.heap.size+1,7,none⟩=some (.int .i64 u2):=M.o.cell 7;have aa:D.cell? ⟨w.heap.size,8,none⟩=some (.int .i64 no):=F.o.cell 8;have af:D.cell? ⟨w.heap.size+1,8,none⟩=some (.int .i64 X):=M.o.cell 8)
  go_ret;exact⟨by rw[E.o];rfl,Y.o⟩
 |true=>
  rw[e0] at T1;have an:=of_decide_eq_true e0;clear e0;subst an;cases e1:decide (a=a2) with
  |false=>
   have E:=I (show decide ((⟨t,a,(r,n),u,no⟩:Tg)=⟨t,a2,(r2,n2),u2,X⟩)=false from decide_eq_false (fun h=>of_decide_eq_false e1 (congrArg Tg.a h)));rw[e1] at T2;clear e1;go_enter O.func185,O.ntmps185
   go_wp2_with (first
    |(go_at_call 207;refine Calls.mono (T1.o _ Y.o) ?_;rintro e3 D ⟨rfl,Z⟩;replace F:=I (F.o.below Z);replace M:=I (M.o.below Z);replace Y:=Y.t Z;clear Z T1;have ad:D.cell? ⟨w.heap.size,4,none⟩=some (.slice A2 a.length c2):=F.o.cell 4;have ag:D.cell? ⟨w.heap.size+1,4,none⟩=some (.slice D2 a2.length d2):=M.o.cell 4;have ab:D.cell? ⟨w.heap.size,5,none⟩=some (.string ⟨List.toArray r⟩):=F.o.cell 5;have ah:D.cell? ⟨w.heap.size+1,5,none⟩=some (.string ⟨List.toArray r2⟩):=M.o.cell 5;have ai:D.cell? ⟨w.heap.size,6,none⟩=some (.string ⟨List.toArray n⟩):=F.o.cell 6;have aj:D.cell? ⟨w.heap.size+1,6,none⟩=some (.string ⟨List.toArray n2⟩):=M.o.cell 6;have ae:D.cell? ⟨w.heap.size,7,none⟩=some (.int .i64 u):=F.o.cell 7;have ak:D.cell? ⟨w.heap.size+1,7,none⟩=some (.int .i64 u2):=M.o.cell 7;have aa:D.cell? ⟨w.heap.size,8,none⟩=some (.int .i64 no):=F.o.cell 8;have af:D.cell? ⟨w.heap.size+1,8,none⟩=some (.int .i64 X):=M.o.cell 8)
    |(go_at_call 101;refine Calls.mono (T2.o _ Y.o) ?_;rintro e4 al ⟨rfl,hw⟩;subst hw;clear T2))
   go_ret;exact⟨by rw[E.o];rfl,Y.o⟩
  |true=>
   rw[e1] at T2;have ao:=of_decide_eq_true e1;clear e1;subst ao
   by_cases e2a:r=r2
   ·subst e2a
    by_cases e2b:n=n2
    ·subst e2b
     by_cases e3:u=u2
     ·subst e3
      have t3:(u==u)=true:=by simp
      by_cases e4:no=X
      ·subst e4
       have t4:(no==no)=true:=by simp
       have E:=I (show decide ((⟨t,a,(r,n),u,no⟩:Tg)=⟨t,a,(r,n),u,no⟩)=true from decide_eq_true rfl);go_enter O.func185,O.ntmps185
       go_wp2_with (first
        |(go_at_call 207;refine Calls.mono (T1.o _ Y.o) ?_;rintro e3 D ⟨rfl,Z⟩;replace F:=I (F.o.below Z);replace M:=I (M.o.below Z);replace Y:=Y.t Z;clear Z T1;have ad:D.cell? ⟨w.heap.size,4,none⟩=some (.slice A2 a.length c2):=F.o.cell 4;have ag:D.cell? ⟨w.heap.size+1,4,none⟩=some (.slice D2 a.length d2):=M.o.cell 4;have ab:D.cell? ⟨w.heap.size,5,none⟩=some (.string ⟨List.toArray r⟩):=F.o.cell 5;have ah:D.cell? ⟨w.heap.size+1,5,none⟩=some (.string ⟨List.toArray r⟩):=M.o.cell 5;have ai:D.cell? ⟨w.heap.size,6,none⟩=some (.string ⟨List.toArray n⟩):=F.o.cell 6;have aj:D.cell? ⟨w.heap.size+1,6,none⟩=some (.string ⟨List.toArray n⟩):=M.o.cell 6;have ae:D.cell? ⟨w.heap.size,7,none⟩=some (.int .i64 u):=F.o.cell 7;have ak:D.cell? ⟨w.heap.size+1,7,none⟩=some (.int .i64 u):=M.o.cell 7;have aa:D.cell? ⟨w.heap.size,8,none⟩=some (.int .i64 no):=F.o.cell 8;have af:D.cell? ⟨w.heap.size+1,8,none⟩=some (.int .i64 no):=M.o.cell 8)
        |(go_at_call 101;refine Calls.mono (T2.o _ Y.o) ?_;rintro e4 al ⟨rfl,hw⟩;subst hw;clear T2))
       go_ret;exact⟨by rw[E.o];rfl,Y.o⟩
      ·have t4:(no==X)=false:=by simpa using e4
       have E:=I (show decide ((⟨t,a,(r,n),u,no⟩:Tg)=⟨t,a,(r,n),u,X⟩)=false from decide_eq_false (fun h=>e4 (congrArg Tg.no h)));go_enter O.func185,O.ntmps185
       go_wp2_with (first
        |(go_at_call 207;refine Calls.mono (T1.o _ Y.o) ?_;rintro e3 D ⟨rfl,Z⟩;replace F:=I (F.o.below Z);replace M:=I (M.o.below Z);replace Y:=Y.t Z;clear Z T1;have ad:D.cell? ⟨w.heap.size,4,none⟩=some (.slice A2 a.length c2):=F.o.cell 4;have ag:D.cell? ⟨w.heap.size+1,4,none⟩=some (.slice D2 a.length d2):=M.o.cell 4;have ab:D.cell? ⟨w.heap.size,5,none⟩=some (.string ⟨List.toArray r⟩):=F.o.cell 5;have ah:D.cell? ⟨w.heap.size+1,5,none⟩=some (.string ⟨List.toArray r⟩):=M.o.cell 5;have ai:D.cell? ⟨w.heap.size,6,none⟩=some (.string ⟨List.toArray n⟩):=F.o.cell 6;have aj:D.cell? ⟨w.heap.size+1,6,none⟩=some (.string ⟨List.toArray n⟩):=M.o.cell 6;have ae:D.cell? ⟨w.heap.size,7,none⟩=some (.int .i64 u):=F.o.cell 7;have ak:D.cell? ⟨w.heap.size+1,7,none⟩=some (.int .i64 u):=M.o.cell 7;have aa:D.cell? ⟨w.heap.size,8,none⟩=some (.int .i64 no):=F.o.cell 8;have af:D.cell? ⟨w.heap.size+1,8,none⟩=some (.int .i64 X):=M.o.cell 8)
        |(go_at_call 101;refine Calls.mono (T2.o _ Y.o) ?_;rintro e4 al ⟨rfl,hw⟩;subst hw;clear T2))
       go_ret;exact⟨by rw[E.o];rfl,Y.o⟩
     ·have t3:(u==u2)=false:=by simpa using e3
      have E:=I (show decide ((⟨t,a,(r,n),u,no⟩:Tg)=⟨t,a,(r,n),u2,X⟩)=false from decide_eq_false (fun h=>e3 (congrArg Tg.u h)));go_enter O.func185,O.ntmps185
      go_wp2_with (first
       |(go_at_call 207;refine Calls.mono (T1.o _ Y.o) ?_;rintro e3 D ⟨rfl,Z⟩;replace F:=I (F.o.below Z);replace M:=I (M.o.below Z);replace Y:=Y.t Z;clear Z T1;have ad:D.cell? ⟨w.heap.size,4,none⟩=some (.slice A2 a.length c2):=F.o.cell 4;have ag:D.cell? ⟨w.heap.size+1,4,none⟩=some (.slice D2 a.length d2):=M.o.cell 4;have ab:D.cell? ⟨w.heap.size,5,none⟩=some (.string ⟨List.toArray r⟩):=F.o.cell 5;have ah:D.cell? ⟨w.heap.size+1,5,none⟩=some (.string ⟨List.toArray r⟩):=M.o.cell 5;have ai:D.cell? ⟨w.heap.size,6,none⟩=some (.string ⟨List.toArray n⟩):=F.o.cell 6;have aj:D.cell? ⟨w.heap.size+1,6,none⟩=some (.string ⟨List.toArray n⟩):=M.o.cell 6;have ae:D.cell? ⟨w.heap.size,7,none⟩=some (.int .i64 u):=F.o.cell 7;have ak:D.cell? ⟨w.heap.size+1,7,none⟩=some (.int .i64 u2):=M.o.cell 7;have aa:D.cell? ⟨w.heap.size,8,none⟩=some (.int .i64 no):=F.o.cell 8;have af:D.cell? ⟨w.heap.size+1,8,none⟩=some (.int .i64 X):=M.o.cell 8)
       |(go_at_call 101;refine Calls.mono (T2.o _ Y.o) ?_;rintro e4 al ⟨rfl,hw⟩;subst hw;clear T2))
      go_ret;exact⟨by rw[E.o];rfl,Y.o⟩
    ·have E:=I (show decide ((⟨t,a,(r,n),u,no⟩:Tg)=⟨t,a,(r,n2),u2,X⟩)=false from decide_eq_false (fun h=>e2b (congrArg (fun t=>t.s.2) h)))
     go_enter O.func185,O.ntmps185
     go_wp2_with (first
      |(go_at_call 207;refine Calls.mono (T1.o _ Y.o) ?_;rintro e3 D ⟨rfl,Z⟩;replace F:=I (F.o.below Z);replace M:=I (M.o.below Z);replace Y:=Y.t Z;clear Z T1;have ad:D.cell? ⟨w.heap.size,4,none⟩=some (.slice A2 a.length c2):=F.o.cell 4;have ag:D.cell? ⟨w.heap.size+1,4,none⟩=some (.slice D2 a.length d2):=M.o.cell 4;have ab:D.cell? ⟨w.heap.size,5,none⟩=some (.string ⟨List.toArray r⟩):=F.o.cell 5;have ah:D.cell? ⟨w.heap.size+1,5,none⟩=some (.string ⟨List.toArray r⟩):=M.o.cell 5;have ai:D.cell? ⟨w.heap.size,6,none⟩=some (.string ⟨List.toArray n⟩):=F.o.cell 6;have aj:D.cell? ⟨w.heap.size+1,6,none⟩=some (.string ⟨List.toArray n2⟩):=M.o.cell 6;have ae:D.cell? ⟨w.heap.size,7,none⟩=some (.int .i64 u):=F.o.cell 7;have ak:D.cell? ⟨w.heap.size+1,7,none⟩=some (.int .i64 u2):=M.o.cell 7;have aa:D.cell? ⟨w.heap.size,8,none⟩=some (.int .i64 no):=F.o.cell 8;have af:D.cell? ⟨w.heap.size+1,8,none⟩=some (.int .i64 X):=M.o.cell 8)
      |(go_at_call 101;refine Calls.mono (T2.o _ Y.o) ?_;rintro e4 al ⟨rfl,hw⟩;subst hw;clear T2))
     go_ret;exact⟨by rw[E.o];rfl,Y.o⟩
   ·have E:=I (show decide ((⟨t,a,(r,n),u,no⟩:Tg)=⟨t,a,(r2,n2),u2,X⟩)=false from decide_eq_false (fun h=>e2a (congrArg (fun t=>t.s.1) h)))
    go_enter O.func185,O.ntmps185
    go_wp2_with (first
     |(go_at_call 207;refine Calls.mono (T1.o _ Y.o) ?_;rintro e3 D ⟨rfl,Z⟩;replace F:=I (F.o.below Z);replace M:=I (M.o.below Z);replace Y:=Y.t Z;clear Z T1;have ad:D.cell? ⟨w.heap.size,4,none⟩=some (.slice A2 a.length c2):=F.o.cell 4;have ag:D.cell? ⟨w.heap.size+1,4,none⟩=some (.slice D2 a.length d2):=M.o.cell 4;have ab:D.cell? ⟨w.heap.size,5,none⟩=some (.string ⟨List.toArray r⟩):=F.o.cell 5;have ah:D.cell? ⟨w.heap.size+1,5,none⟩=some (.string ⟨List.toArray r2⟩):=M.o.cell 5;have ai:D.cell? ⟨w.heap.size,6,none⟩=some (.string ⟨List.toArray n⟩):=F.o.cell 6;have aj:D.cell? ⟨w.heap.size+1,6,none⟩=some (.string ⟨List.toArray n2⟩):=M.o.cell 6;have ae:D.cell? ⟨w.heap.size,7,none⟩=some (.int .i64 u):=F.o.cell 7;have ak:D.cell? ⟨w.heap.size+1,7,none⟩=some (.int .i64 u2):=M.o.cell 7;have aa:D.cell? ⟨w.heap.size,8,none⟩=some (.int .i64 no):=F.o.cell 8;have af:D.cell? ⟨w.heap.size+1,8,none⟩=some (.int .i64 X):=M.o.cell 8)
     |(go_at_call 101;refine Calls.mono (T2.o _ Y.o) ?_;rintro e4 al ⟨rfl,hw⟩;subst hw;clear T2))
    go_ret;exact⟨by rw[E.o];rfl,Y.o⟩
theorem LQ (x y:Re) (A1 A2 D1 Y:Option Addr) (c1 c2 d1 d2:Nat) (w:World) (h1:Rd w w.heap.size A1 (bvs x.t.b)) (g1:Rd w w.heap.size D1 (bvs y.t.b)) (h2:Rd w w.heap.size A2 (bvs x.b)) (g2:Rd w w.heap.size Y (bvs y.b)) :
  Calls D.prog 186 #[.agg #[.string ⟨x.c.1.toArray⟩,.string ⟨x.c.2.toArray⟩,.string ⟨x.t.s.1.toArray⟩,.string ⟨x.t.s.2.toArray⟩,.int .i64 x.t.k,.slice A1 x.t.b.length c1,.slice A2 x.b.length c2],.agg #[.string ⟨y.c.1.toArray⟩,.string ⟨y.c.2.toArray⟩,.string ⟨y.t.s.1.toArray⟩,.string ⟨y.t.s.2.toArray⟩,.int .i64 y.t.k,.slice D1 y.t.b.length d1,.slice Y y.b.length d2]] w fun e w'=>e=.returned (.bool (decide (x=y)))/\Below w.heap.size w w':=by
 obtain⟨⟨r,n⟩,t,b⟩:=x;obtain⟨⟨r2,n2⟩,F,b2⟩:=y;simp only at h1 g1 h2 g2⊢;have M:=I (((Below.refl w.heap.size w).alloc Ae (.cells #[.string ⟨List.toArray r⟩,.string ⟨List.toArray n⟩,.string ⟨t.s.1.toArray⟩,.string ⟨t.s.2.toArray⟩,.int .i64 t.k,.slice A1 t.b.length c1,.slice A2 b.length c2] 57)).alloc (by simp) (.cells #[.string ⟨List.toArray r2⟩,.string ⟨List.toArray n2⟩,.string ⟨F.s.1.toArray⟩,.string ⟨F.s.2.toArray⟩,.int .i64 F.k,.slice D1 F.b.length d1,.slice Y b2.length d2] 57));have Z:=I ((Blk.new w 57 #[.string ⟨List.toArray r⟩,.string ⟨List.toArray n⟩,.string ⟨t.s.1.toArray⟩,.string ⟨t.s.2.toArray⟩,.int .i64 t.k,.slice A1 t.b.length c1,.slice A2 b.length c2]).alloc (.cells #[.string ⟨List.toArray r2⟩,.string ⟨List.toArray n2⟩,.string ⟨F.s.1.toArray⟩,.string ⟨F.s.2.toArray⟩,.int .i64 F.k,.slice D1 F.b.length d1,.slice Y b2.length d2] 57));have hy:=Blk.new (w.alloc (.cells #[.string ⟨List.toArray r⟩,.string ⟨List.toArray n⟩,.string ⟨t.s.1.toArray⟩,.string ⟨t.s.2.toArray⟩,.int .i64 t.k,.slice A1 t.b.length c1,.slice A2 b.length c2] 57)) 57 #[.string ⟨List.toArray r2⟩,.string ⟨List.toArray n2⟩,.string ⟨F.s.1.toArray⟩,.string ⟨F.s.2.toArray⟩,.int .i64 F.k,.slice D1 F.b.length d1,.slice Y b2.length d2];rw[show(w.alloc (.cells #[.string ⟨List.toArray r⟩,.string ⟨List.toArray n⟩,.string ⟨t.s.1.toArray⟩,.string ⟨t.s.2.toArray⟩,.int .i64 t.k,.slice A1 t.b.length c1,.slice A2 b.length c2] 57)).heap.size=w.heap.size+1 by simp] at hy;have HY:=I hy;clear hy;have T1:=I (fun X (h:Below w.heap.size w X)=>GQ t F A1 D1 c1 d1 X ((h1.below h).more h.size) ((g1.below h).more h.size));have T2:=I (fun X (h:Below w.heap.size w X)=>GP b b2 A2 Y c2 d2 w.heap.size X (h2.below h) (g2.below h));clear h1 g1 h2 g2
 by_cases e0a:r=r2
 ·subst e0a
  by_cases e0b:n=n2
  ·subst e0b
   cases e1:decide (t=F) with
   |false=>
    have E:=I (show decide ((⟨(r,n),t,b⟩:Re)=⟨(r,n),F,b2⟩)=false from decide_eq_false (fun h=>of_decide_eq_false e1 (congrArg Re.t h)));rw[e1] at T1;clear e1;go_enter D.func186,D.ntmps186
    go_wp2_with (go_at_call 207;refine Calls.mono (T1.o _ M.o) ?_;rintro e3 X ⟨rfl,O⟩;replace Z:=I (Z.o.below O);replace HY:=I (HY.o.below O);replace M:=M.t O;clear O T1;have ab:X.cell? ⟨w.heap.size,6,none⟩=some (.slice A2 b.length c2):=Z.o.cell 6;have aa:X.cell? ⟨w.heap.size+1,6,none⟩=some (.slice Y b2.length d2):=HY.o.cell 6)
    go_ret;exact⟨by rw[E.o];rfl,M.o⟩
   |true=>
    rw[e1] at T1;have ae:=of_decide_eq_true e1;clear e1;subst ae;cases e2:decide (b=b2) with
    |false=>
     have E:=I (show decide ((⟨(r,n),t,b⟩:Re)=⟨(r,n),t,b2⟩)=false from decide_eq_false (fun h=>of_decide_eq_false e2 (congrArg Re.b h)));rw[e2] at T2;clear e2;go_enter D.func186,D.ntmps186
     go_wp2_with (first
      |(go_at_call 207;refine Calls.mono (T1.o _ M.o) ?_;rintro e3 X ⟨rfl,O⟩;replace Z:=I (Z.o.below O);replace HY:=I (HY.o.below O);replace M:=M.t O;clear O T1;have ab:X.cell? ⟨w.heap.size,6,none⟩=some (.slice A2 b.length c2):=Z.o.cell 6;have aa:X.cell? ⟨w.heap.size+1,6,none⟩=some (.slice Y b2.length d2):=HY.o.cell 6)
      |(go_at_call 101;refine Calls.mono (T2.o _ M.o) ?_;rintro e4 af ⟨rfl,hw⟩;subst hw;clear T2))
     go_ret;exact⟨by rw[E.o];rfl,M.o⟩
    |true=>
     rw[e2] at T2;have ad:=of_decide_eq_true e2;clear e2;subst ad;have E:=I (show decide ((⟨(r,n),t,b⟩:Re)=⟨(r,n),t,b⟩)=true from decide_eq_true rfl);go_enter D.func186,D.ntmps186
     go_wp2_with (first
      |(go_at_call 207;refine Calls.mono (T1.o _ M.o) ?_;rintro e3 X ⟨rfl,O⟩;replace Z:=I (Z.o.below O);replace HY:=I (HY.o.below O);replace M:=M.t O;clear O T1;have ab:X.cell? ⟨w.heap.size,6,none⟩=some (.slice A2 b.length c2):=Z.o.cell 6;have aa:X.cell? ⟨w.heap.size+1,6,none⟩=some (.slice Y b.length d2):=HY.o.cell 6)
      |(go_at_call 101;refine Calls.mono (T2.o _ M.o) ?_;rintro e4 af ⟨rfl,hw⟩;subst hw;clear T2))
     go_ret;exact⟨by rw[E.o];rfl,M.o⟩
  ·have E:=I (show decide ((⟨(r,n),t,b⟩:Re)=⟨(r,n2),F,b2⟩)=false from decide_eq_false (fun h=>e0b (congrArg (fun t=>t.c.2) h)))
   go_enter D.func186,D.ntmps186
   go_wp2
   go_ret;exact⟨by rw[E.o];rfl,M.o⟩
 ·have E:=I (show decide ((⟨(r,n),t,b⟩:Re)=⟨(r2,n2),F,b2⟩)=false from decide_eq_false (fun h=>e0a (congrArg (fun t=>t.c.1) h)))
  go_enter D.func186,D.ntmps186
  go_wp2
  go_ret;exact⟨by rw[E.o];rfl,M.o⟩
theorem LR (x y:Ap) (A1 A2 D1 Z:Option Addr) (c1 c2 d1 d2:Nat) (w:World) (h1:Rd w w.heap.size A1 (bvs x.t.b)) (g1:Rd w w.heap.size D1 (bvs y.t.b)) (h2:Rd w w.heap.size A2 (bvs x.a)) (g2:Rd w w.heap.size Z (bvs y.a)) :
  Calls D.prog 187 #[.agg #[.string ⟨x.t.s.1.toArray⟩,.string ⟨x.t.s.2.toArray⟩,.int .i64 x.t.k,.slice A1 x.t.b.length c1,.slice A2 x.a.length c2],.agg #[.string ⟨y.t.s.1.toArray⟩,.string ⟨y.t.s.2.toArray⟩,.int .i64 y.t.k,.slice D1 y.t.b.length d1,.slice Z y.a.length d2]] w fun e w'=>e=.returned (.bool (decide (x=y)))/\Below w.heap.size w w':=by
 obtain⟨t,a⟩:=x;obtain⟨F,Y⟩:=y;simp only at h1 g1 h2 g2⊢;have M:=I (((Below.refl w.heap.size w).alloc Ae (.cells #[.string ⟨t.s.1.toArray⟩,.string ⟨t.s.2.toArray⟩,.int .i64 t.k,.slice A1 t.b.length c1,.slice A2 a.length c2] 59)).alloc (by simp) (.cells #[.string ⟨F.s.1.toArray⟩,.string ⟨F.s.2.toArray⟩,.int .i64 F.k,.slice D1 F.b.length d1,.slice Z Y.length d2] 59));have HX:=I ((Blk.new w 59 #[.string ⟨t.s.1.toArray⟩,.string ⟨t.s.2.toArray⟩,.int .i64 t.k,.slice A1 t.b.length c1,.slice A2 a.length c2]).alloc (.cells #[.string ⟨F.s.1.toArray⟩,.string ⟨F.s.2.toArray⟩,.int .i64 F.k,.slice D1 F.b.length d1,.slice Z Y.length d2] 59));have hy:=Blk.new (w.alloc (.cells #[.string ⟨t.s.1.toArray⟩,.string ⟨t.s.2.toArray⟩,.int .i64 t.k,.slice A1 t.b.length c1,.slice A2 a.length c2] 59)) 59 #[.string ⟨F.s.1.toArray⟩,.string ⟨F.s.2.toArray⟩,.int .i64 F.k,.slice D1 F.b.length d1,.slice Z Y.length d2];rw[show(w.alloc (.cells #[.string ⟨t.s.1.toArray⟩,.string ⟨t.s.2.toArray⟩,.int .i64 t.k,.slice A1 t.b.length c1,.slice A2 a.length c2] 59)).heap.size=w.heap.size+1 by simp] at hy;have HY:=I hy;clear hy;have T1:=I (fun X (h:Below w.heap.size w X)=>GQ t F A1 D1 c1 d1 X ((h1.below h).more h.size) ((g1.below h).more h.size));have T2:=I (fun X (h:Below w.heap.size w X)=>GP a Y A2 Z c2 d2 w.heap.size X (h2.below h) (g2.below h));clear h1 g1 h2 g2;cases e0:decide (t=F) with
 |false=>
  have E:=I (show decide ((⟨t,a⟩:Ap)=⟨F,Y⟩)=false from decide_eq_false (fun h=>of_decide_eq_false e0 (congrArg Ap.t h)));rw[e0] at T1;clear e0;go_enter D.func187,D.ntmps187
  go_wp2_with (go_at_call 207;refine Calls.mono (T1.o _ M.o) ?_;rintro e3 X ⟨rfl,O⟩;replace HX:=I (HX.o.below O);replace HY:=I (HY.o.below O);replace M:=M.t O;clear O T1;have aa:X.cell? ⟨w.heap.size,4,none⟩=some (.slice A2 a.length c2):=HX.o.cell 4;have ab:X.cell? ⟨w.heap.size+1,4,none⟩=some (.slice Z Y.length d2):=HY.o.cell 4)
  go_ret;exact⟨by rw[E.o];rfl,M.o⟩
 |true=>
  rw[e0] at T1;have ad:=of_decide_eq_true e0;clear e0;subst ad;cases e1:decide (a=Y) with
  |false=>
   have E:=I (show decide ((⟨t,a⟩:Ap)=⟨t,Y⟩)=false from decide_eq_false (fun h=>of_decide_eq_false e1 (congrArg Ap.a h)));rw[e1] at T2;clear e1;go_enter D.func187,D.ntmps187
   go_wp2_with (first
    |(go_at_call 207;refine Calls.mono (T1.o _ M.o) ?_;rintro e3 X ⟨rfl,O⟩;replace HX:=I (HX.o.below O);replace HY:=I (HY.o.below O);replace M:=M.t O;clear O T1;have aa:X.cell? ⟨w.heap.size,4,none⟩=some (.slice A2 a.length c2):=HX.o.cell 4;have ab:X.cell? ⟨w.heap.size+1,4,none⟩=some (.slice Z Y.length d2):=HY.o.cell 4)
    |(go_at_call 101;refine Calls.mono (T2.o _ M.o) ?_;rintro e4 af ⟨rfl,hw⟩;subst hw;clear T2))
   go_ret;exact⟨by rw[E.o];rfl,M.o⟩
  |true=>
   rw[e1] at T2;have ae:=of_decide_eq_true e1;clear e1;subst ae;have E:=I (show decide ((⟨t,a⟩:Ap)=⟨t,a⟩)=true from decide_eq_true rfl);go_enter D.func187,D.ntmps187
   go_wp2_with (first
    |(go_at_call 207;refine Calls.mono (T1.o _ M.o) ?_;rintro e3 X ⟨rfl,O⟩;replace HX:=I (HX.o.below O);replace HY:=I (HY.o.below O);replace M:=M.t O;clear O T1;have aa:X.cell? ⟨w.heap.size,4,none⟩=some (.slice A2 a.length c2):=HX.o.cell 4;have ab:X.cell? ⟨w.heap.size+1,4,none⟩=some (.slice Z a.length d2):=HY.o.cell 4)
    |(go_at_call 101;refine Calls.mono (T2.o _ M.o) ?_;rintro e4 af ⟨rfl,hw⟩;subst hw;clear T2))
   go_ret;exact⟨by rw[E.o];rfl,M.o⟩
open DerC
theorem Bp (w:World) (t:TypeId) (lit cs:Array Value) (hs:lit.size=cs.size):Blk ((w.alloc (.cells lit t)).setCells w.heap.size 0 cs.toList) w.heap.size t cs/\Below w.heap.size w ((w.alloc (.cells lit t)).setCells w.heap.size 0 cs.toList):=
 ⟨AE (Blk.new w t lit) hs,Al ((Below.refl w.heap.size w).alloc Ae _) (AJ _ _ _) (by simp) Ae⟩
theorem Gq {c:Option L} (h:(c.getD []).length<=100000):pSm (prQ c).1:=by
 have F:=(Cq 27 (Ar 48 c)).1;have M:=(Cq 27 (Ar 48 c)).2;have D:=(Cq 27 (AK 27 (Ar 48 c))).1;have E:=(Cq 48 c).1;exact⟨by show((Ar 27 (Ar 48 c)).getD []).length<=1000000000;omega,by show((Ar 27 (AK 27 (Ar 48 c))).getD []).length<=1000000000;omega⟩
def rpG (b:L):Rp:=(rpD b).getD rp0
def rpI (b:L):Int:=if (rpD b).isSome then 0 else 2
theorem QH (b:L):(rpG b).ss.length=32:=by
 unfold rpG;rw[QF]
 split
 ·exact JJ b
 ·rfl
theorem QI (A:Option Addr) (b:L) (c:Nat) (w:World) (hr:Rd w w.heap.size A (bvs b)):Calls D.prog 116 #[.slice A b.length c,.func (.func 117) #[] #[],.func (.func 118) #[] #[]] w fun e w'=>e=.returned (.tuple #[.agg (rpC (rpG b)).toArray,.int .i64 (rpI b)])/\Below w.heap.size w w':=by
 obtain⟨F,Z⟩:∃z:Array Value,z=#[.int .u8 0,.int .u8 0,.int .u8 0,.int .u8 0,.int .u8 0,.int .u8 0,.int .u8 0,.int .u8 0,.int .u8 0,.int .u8 0,.int .u8 0,.int .u8 0,.int .u8 0,.int .u8 0,.int .u8 0,.int .u8 0,.int .u8 0,.int .u8 0,.int .u8 0,.int .u8 0,.int .u8 0,.int .u8 0,.int .u8 0,.int .u8 0,.int .u8 0,.int .u8 0,.int .u8 0,.int .u8 0,.int .u8 0,.int .u8 0,.int .u8 0,.int .u8 0,.string ⟨#[]⟩,.string ⟨#[]⟩,.int .i64 0,.int .i64 0,.int .i64 0]:=⟨_,rfl⟩;have ae:(rpC rp0).toArray=F:=by rw[Z];rfl
 have ar:F.size=37:=by rw[Z];simp
 have aw:F.all (·.oneCell')=true:=by rw[<-ae];exact JK _ _ _ _ _
 obtain⟨W,eW⟩:=Ah ((w.alloc (.cells F 110)).alloc (.cells F 110));have ay:W.heap.size=w.heap.size+1+1:=by rw[eW];simp
 have hq:=Blk.new (w.alloc (.cells F 110)) 110 F;rw[show(w.alloc (.cells F 110)).heap.size=w.heap.size+1 by simp,<-eW] at hq;have X:=I hq;clear hq;have O:=I (show Blk W w.heap.size 110 F by rw[eW];exact(Blk.new _ _ _).alloc _);have M:=I (show Below w.heap.size w W by rw[eW];exact(Af.alloc Ae _).alloc (by simp) _);have ag:=I (fun w1 (h:Below w.heap.size w w1)=>(hr.below h).more h.size);have Y:=I (show(D.prog.info? 110).map (·.size)=some F.size by rw[ar];kernel_rfl);have av:=I aw;have ax:=I ar;have ED:=I (QF b);have aA:=I ay;clear ay aw ar
 by_cases hl:b.length<=2000
 ·have t1:decide ((2000:Int)<(b.length:Int))=false:=decide_eq_false (by omega)
  have an:b.length<=100000:=by omega
  have az:=FD 122 (show((some b:Option L).getD []).length<=100000 from an);have aa:pSm (rpQ b).1.s:=Gq (Cn 4 az);have T1:=I (fun w1 (h:Rd w1 w1.heap.size A (bvs b))=>(show Calls D.prog 117 #[.slice A b.length c] w1 fun e w'=>e=.returned (.agg (rpC (rpQ b).1).toArray)/\Below w1.heap.size w1 w' from On A b c w1 h an));have EN:=I (fun w1=>(show Calls D.prog 118 #[.agg (rpC (rpQ b).1).toArray] w1 (EncR w1 (rpO (rpQ b).1)) from Og (rpQ b).1 w1 (JJ b) aa));have aj:(rpC (rpQ b).1).toArray.size=37:=by exact Fb (JJ b)
  have al:(rpC (rpQ b).1).toArray.all (·.oneCell')=true:=JK _ _ _ _ _;have BE:=I (fun(l:L) (g c2:Nat) (w1:World) (h:Rd w1 w1.heap.size (some ⟨g,0,none⟩) (bvs l)) (E:Below w.heap.size w w1)=>GP l b (some ⟨g,0,none⟩) A c2 c w1.heap.size w1 h (ag.o w1 E));obtain⟨cs,ah⟩:=Ah ((rpC (rpQ b).1).toArray);rw[<-ah] at T1 EN aj al;have ad:=I (show(D.prog.info? 110).map (·.size)=some cs.size by rw[aj];kernel_rfl);have ai:=I al;have ab:=I aj;clear aj al hl an hr aa az;cases ho:rpO (rpQ b).1 with
  |none=>
   rw[ho] at EN;have hD:rpD b=none:=by rw[ED.o,ho];rfl
   have GE:=I (show(rpC (rpG b)).toArray=F by rw[rpG,hD];exact ae);have IE:=I (show rpI b=2 by rw[rpI,hD];rfl);clear ED ho hD ah ae BE;go_enter D.func116,D.ntmps116
   go_upto_region 2 with fail
   rw[<-Z,<-eW];clear Z eW
   go_wp2_with (first
    |(refine Ac (by rfl) 110 (.tmp 8) (by rfl) (w.heap.size+1) 0 (by rfl) F _ (Ab X.o) D.underlying110 (by rfl) Y.o ?_)
    |(refine wpList_store_mid (by rfl) 110 (.tmp 6) (.tmp 33) (by rfl) w.heap.size 0 F (by rfl) (by rfl) (Ak O.o _ Ae) Y.o av.o ?_)
    |(go_at_call 117;refine Ag (T1.o _ (ag.o _ M.o)) ?_;rintro w4 E;clear T1;replace X:=I (X.o.below E);replace O:=I (O.o.below E);replace M:=M.t E;clear E)
    |(refine wpList_store_mid (by rfl) 110 (.tmp 9) (.tmp 18) (by rfl) w4.heap.size 0 cs (by rfl) (by rfl) (Ak (Blk.new w4 110 #[.int .u8 0,.int .u8 0,.int .u8 0,.int .u8 0,.int .u8 0,.int .u8 0,.int .u8 0,.int .u8 0,.int .u8 0,.int .u8 0,.int .u8 0,.int .u8 0,.int .u8 0,.int .u8 0,.int .u8 0,.int .u8 0,.int .u8 0,.int .u8 0,.int .u8 0,.int .u8 0,.int .u8 0,.int .u8 0,.int .u8 0,.int .u8 0,.int .u8 0,.int .u8 0,.int .u8 0,.int .u8 0,.int .u8 0,.int .u8 0,.int .u8 0,.int .u8 0,.string ⟨#[]⟩,.string ⟨#[]⟩,.int .i64 0,.int .i64 0,.int .i64 0]) _ (by have:=ab.o;simp;omega)) ad.o ai.o ?_;have hV:=Bp w4 110 #[.int .u8 0,.int .u8 0,.int .u8 0,.int .u8 0,.int .u8 0,.int .u8 0,.int .u8 0,.int .u8 0,.int .u8 0,.int .u8 0,.int .u8 0,.int .u8 0,.int .u8 0,.int .u8 0,.int .u8 0,.int .u8 0,.int .u8 0,.int .u8 0,.int .u8 0,.int .u8 0,.int .u8 0,.int .u8 0,.int .u8 0,.int .u8 0,.int .u8 0,.int .u8 0,.int .u8 0,.int .u8 0,.int .u8 0,.int .u8 0,.int .u8 0,.int .u8 0,.string ⟨#[]⟩,.string ⟨#[]⟩,.int .i64 0,.int .i64 0,.int .i64 0] cs (by have:=ab.o;simp;omega);generalize ((w4.alloc (.cells #[.int .u8 0,.int .u8 0,.int .u8 0,.int .u8 0,.int .u8 0,.int .u8 0,.int .u8 0,.int .u8 0,.int .u8 0,.int .u8 0,.int .u8 0,.int .u8 0,.int .u8 0,.int .u8 0,.int .u8 0,.int .u8 0,.int .u8 0,.int .u8 0,.int .u8 0,.int .u8 0,.int .u8 0,.int .u8 0,.int .u8 0,.int .u8 0,.int .u8 0,.int .u8 0,.int .u8 0,.int .u8 0,.int .u8 0,.int .u8 0,.int .u8 0,.int .u8 0,.string ⟨#[]⟩,.string ⟨#[]⟩,.int .i64 0,.int .i64 0,.int .i64 0] 110)).setCells w4.heap.size 0 cs.toList)=V at hV⊢;have HX:=I hV.1;replace X:=I (X.o.below hV.2);replace O:=I (O.o.below hV.2);replace M:=I (M.o.trans (hV.2.mono M.o.size));clear hV)
    |(refine Ac (by rfl) 110 (.tmp 9) (by rfl) w4.heap.size 0 (by rfl) cs _ (Ab HX.o) D.underlying110 (by rfl) ad.o ?_)
    |(go_at_call 118;refine Calls.mono (EN.o _) ?_;rintro e we ⟨⟨v,i,rfl,hn,aa⟩,E⟩;obtain⟨rfl,rfl⟩:=hn rfl;clear EN;replace HX:=I (HX.o.below E);replace X:=I (X.o.below E);replace O:=I (O.o.below E);replace M:=M.t E;clear E hn aa)
    |fail)
   have hE:=AE (ds:=F) O.o (by rfl);have hp:=AJ we w.heap.size F.toList;have hq:=Am (P:=D.prog) hE D.underlying110 rfl Y.o;refine bodyPost_ret (v:=.tuple #[.agg F,.int .i64 2]) ?_ ?_ ?_
   ·exact AD (v:=.agg F) 6 7 110 ⟨w.heap.size,0,none⟩ D.results116 rfl hq rfl
   ·rfl
   exact⟨by rw[GE.o,IE.o],Al M.o hp (by have:=O.o.lt;omega) Ae⟩
  |some l=>
   rw[ho] at EN
   by_cases hlb:l=b
   ·have BF:=I (decide_eq_true hlb)
    have hD:rpD b=some (rpQ b).1:=by rw[ED.o,ho,if_pos (by rw[hlb])]
    have GE:=I (show(rpC (rpG b)).toArray=cs by rw[rpG,hD];exact ah.symm);have IE:=I (show rpI b=0 by rw[rpI,hD];rfl);clear ED ho hlb hD ah ae;go_enter D.func116,D.ntmps116
    go_upto_region 2 with fail
    rw[<-Z,<-eW];clear Z eW
    go_wp2_with (first
     |(refine Ac (by rfl) 110 (.tmp 8) (by rfl) (w.heap.size+1) 0 (by rfl) F _ (Ab X.o) D.underlying110 (by rfl) Y.o ?_)
     |(refine wpList_store_mid (by rfl) 110 (.tmp 6) (.tmp 34) (by rfl) w.heap.size 0 cs (by rfl) (by rfl) (Ak O.o _ (by have:=ax.o;have:=ab.o;omega)) ad.o ai.o ?_)
     |(go_at_call 117;refine Ag (T1.o _ (ag.o _ M.o)) ?_;rintro w4 E;clear T1;replace X:=I (X.o.below E);replace O:=I (O.o.below E);replace M:=M.t E;clear E)
     |(refine wpList_store_mid (by rfl) 110 (.tmp 9) (.tmp 18) (by rfl) w4.heap.size 0 cs (by rfl) (by rfl) (Ak (Blk.new w4 110 #[.int .u8 0,.int .u8 0,.int .u8 0,.int .u8 0,.int .u8 0,.int .u8 0,.int .u8 0,.int .u8 0,.int .u8 0,.int .u8 0,.int .u8 0,.int .u8 0,.int .u8 0,.int .u8 0,.int .u8 0,.int .u8 0,.int .u8 0,.int .u8 0,.int .u8 0,.int .u8 0,.int .u8 0,.int .u8 0,.int .u8 0,.int .u8 0,.int .u8 0,.int .u8 0,.int .u8 0,.int .u8 0,.int .u8 0,.int .u8 0,.int .u8 0,.int .u8 0,.string ⟨#[]⟩,.string ⟨#[]⟩,.int .i64 0,.int .i64 0,.int .i64 0]) _ (by have:=ab.o;simp;omega)) ad.o ai.o ?_;have hV:=Bp w4 110 #[.int .u8 0,.int .u8 0,.int .u8 0,.int .u8 0,.int .u8 0,.int .u8 0,.int .u8 0,.int .u8 0,.int .u8 0,.int .u8 0,.int .u8 0,.int .u8 0,.int .u8 0,.int .u8 0,.int .u8 0,.int .u8 0,.int .u8 0,.int .u8 0,.int .u8 0,.int .u8 0,.int .u8 0,.int .u8 0,.int .u8 0,.int .u8 0,.int .u8 0,.int .u8 0,.int .u8 0,.int .u8 0,.int .u8 0,.int .u8 0,.int .u8 0,.int .u8 0,.string ⟨#[]⟩,.string ⟨#[]⟩,.int .i64 0,.int .i64 0,.int .i64 0] cs (by have:=ab.o;simp;omega);generalize ((w4.alloc (.cells #[.int .u8 0,.int .u8 0,.int .u8 0,.int .u8 0,.int .u8 0,.int .u8 0,.int .u8 0,.int .u8 0,.int .u8 0,.int .u8 0,.int .u8 0,.int .u8 0,.int .u8 0,.int .u8 0,.int .u8 0,.int .u8 0,.int .u8 0,.int .u8 0,.int .u8 0,.int .u8 0,.int .u8 0,.int .u8 0,.int .u8 0,.int .u8 0,.int .u8 0,.int .u8 0,.int .u8 0,.int .u8 0,.int .u8 0,.int .u8 0,.int .u8 0,.int .u8 0,.string ⟨#[]⟩,.string ⟨#[]⟩,.int .i64 0,.int .i64 0,.int .i64 0] 110)).setCells w4.heap.size 0 cs.toList)=V at hV⊢;have HX:=I hV.1;replace X:=I (X.o.below hV.2);replace O:=I (O.o.below hV.2);replace M:=I (M.o.trans (hV.2.mono M.o.size));clear hV)
     |(refine Ac (by rfl) 110 (.tmp 9) (by rfl) w4.heap.size 0 (by rfl) cs _ (Ab HX.o) D.underlying110 (by rfl) ad.o ?_)
     |(go_at_call 118;refine Calls.mono (EN.o _) ?_;rintro e we ⟨⟨v,i,rfl,hn,aa⟩,E⟩;obtain⟨rfl,gx,cx,rfl,ak,ao,af⟩:=aa l rfl;have au:=I af;clear ak ao af;clear EN;replace HX:=I (HX.o.below E);replace X:=I (X.o.below E);replace O:=I (O.o.below E);replace M:=M.t E;clear E hn aa)
     |(go_at_call 101;refine Calls.mono (BE.o l gx cx _ au.o M.o) ?_;rw[BF.o];rintro e wb ⟨rfl,hw⟩;subst hw;clear BE)
     |fail)
    have hE:=AE (ds:=cs) O.o (by have:=ax.o;have:=ab.o;omega);have hp:=AJ we w.heap.size cs.toList;have hq:=Am (P:=D.prog) hE D.underlying110 rfl ad.o;refine bodyPost_ret (v:=.tuple #[.agg cs,.int .i64 0]) ?_ ?_ ?_
    ·exact AD (v:=.agg cs) 6 7 110 ⟨w.heap.size,0,none⟩ D.results116 rfl hq rfl
    ·rfl
    exact⟨by rw[GE.o,IE.o],Al M.o hp (by have:=O.o.lt;omega) Ae⟩
   ·have BF:=I (decide_eq_false hlb)
    have hD:rpD b=none:=by rw[ED.o,ho,if_neg (fun h=>hlb (Option.some.inj h))]
    have GE:=I (show(rpC (rpG b)).toArray=F by rw[rpG,hD];exact ae);have IE:=I (show rpI b=2 by rw[rpI,hD];rfl);clear ED ho hlb hD ah ae;go_enter D.func116,D.ntmps116
    go_upto_region 2 with fail
    rw[<-Z,<-eW];clear Z eW
    go_wp2_with (first
     |(refine Ac (by rfl) 110 (.tmp 8) (by rfl) (w.heap.size+1) 0 (by rfl) F _ (Ab X.o) D.underlying110 (by rfl) Y.o ?_)
     |(refine wpList_store_mid (by rfl) 110 (.tmp 6) (.tmp 33) (by rfl) w.heap.size 0 F (by rfl) (by rfl) (Ak O.o _ Ae) Y.o av.o ?_)
     |(go_at_call 117;refine Ag (T1.o _ (ag.o _ M.o)) ?_;rintro w4 E;clear T1;replace X:=I (X.o.below E);replace O:=I (O.o.below E);replace M:=M.t E;clear E)
     |(refine wpList_store_mid (by rfl) 110 (.tmp 9) (.tmp 18) (by rfl) w4.heap.size 0 cs (by rfl) (by rfl) (Ak (Blk.new w4 110 #[.int .u8 0,.int .u8 0,.int .u8 0,.int .u8 0,.int .u8 0,.int .u8 0,.int .u8 0,.int .u8 0,.int .u8 0,.int .u8 0,.int .u8 0,.int .u8 0,.int .u8 0,.int .u8 0,.int .u8 0,.int .u8 0,.int .u8 0,.int .u8 0,.int .u8 0,.int .u8 0,.int .u8 0,.int .u8 0,.int .u8 0,.int .u8 0,.int .u8 0,.int .u8 0,.int .u8 0,.int .u8 0,.int .u8 0,.int .u8 0,.int .u8 0,.int .u8 0,.string ⟨#[]⟩,.string ⟨#[]⟩,.int .i64 0,.int .i64 0,.int .i64 0]) _ (by have:=ab.o;simp;omega)) ad.o ai.o ?_;have hV:=Bp w4 110 #[.int .u8 0,.int .u8 0,.int .u8 0,.int .u8 0,.int .u8 0,.int .u8 0,.int .u8 0,.int .u8 0,.int .u8 0,.int .u8 0,.int .u8 0,.int .u8 0,.int .u8 0,.int .u8 0,.int .u8 0,.int .u8 0,.int .u8 0,.int .u8 0,.int .u8 0,.int .u8 0,.int .u8 0,.int .u8 0,.int .u8 0,.int .u8 0,.int .u8 0,.int .u8 0,.int .u8 0,.int .u8 0,.int .u8 0,.int .u8 0,.int .u8 0,.int .u8 0,.string ⟨#[]⟩,.string ⟨#[]⟩,.int .i64 0,.int .i64 0,.int .i64 0] cs (by have:=ab.o;simp;omega);generalize ((w4.alloc (.cells #[.int .u8 0,.int .u8 0,.int .u8 0,.int .u8 0,.int .u8 0,.int .u8 0,.int .u8 0,.int .u8 0,.int .u8 0,.int .u8 0,.int .u8 0,.int .u8 0,.int .u8 0,.int .u8 0,.int .u8 0,.int .u8 0,.int .u8 0,.int .u8 0,.int .u8 0,.int .u8 0,.int .u8 0,.int .u8 0,.int .u8 0,.int .u8 0,.int .u8 0,.int .u8 0,.int .u8 0,.int .u8 0,.int .u8 0,.int .u8 0,.int .u8 0,.int .u8 0,.string ⟨#[]⟩,.string ⟨#[]⟩,.int .i64 0,.int .i64 0,.int .i64 0] 110)).setCells w4.heap.size 0 cs.toList)=V at hV⊢;have HX:=I hV.1;replace X:=I (X.o.below hV.2);replace O:=I (O.o.below hV.2);replace M:=I (M.o.trans (hV.2.mono M.o.size));clear hV)
     |(refine Ac (by rfl) 110 (.tmp 9) (by rfl) w4.heap.size 0 (by rfl) cs _ (Ab HX.o) D.underlying110 (by rfl) ad.o ?_)
     |(go_at_call 118;refine Calls.mono (EN.o _) ?_;rintro e we ⟨⟨v,i,rfl,hn,aa⟩,E⟩;obtain⟨rfl,gx,cx,rfl,ak,ao,af⟩:=aa l rfl;have au:=I af;clear ak ao af;clear EN;replace HX:=I (HX.o.below E);replace X:=I (X.o.below E);replace O:=I (O.o.below E);replace M:=M.t E;clear E hn aa)
     |(go_at_call 101;refine Calls.mono (BE.o l gx cx _ au.o M.o) ?_;rw[BF.o];rintro e wb ⟨rfl,hw⟩;subst hw;clear BE)
     |fail)
    have hE:=AE (ds:=F) O.o (by rfl);have hp:=AJ we w.heap.size F.toList;have hq:=Am (P:=D.prog) hE D.underlying110 rfl Y.o;refine bodyPost_ret (v:=.tuple #[.agg F,.int .i64 2]) ?_ ?_ ?_
    ·exact AD (v:=.agg F) 6 7 110 ⟨w.heap.size,0,none⟩ D.results116 rfl hq rfl
    ·rfl
    exact⟨by rw[GE.o,IE.o],Al M.o hp (by have:=O.o.lt;omega) Ae⟩
 ·have t1:decide ((2000:Int)<(b.length:Int))=true:=decide_eq_true (by omega)
  have hD:rpD b=none:=by
   rw[ED.o,if_neg];intro h;have h2:=BA.1 h;exact hl (by rw[<-h2.2.2];exact h2.2.1)
  have GE:=I (show(rpC (rpG b)).toArray=F by rw[rpG,hD];exact ae);have IE:=I (show rpI b=2 by rw[rpI,hD];rfl);clear ED hD hl ae hr ag;go_enter D.func116,D.ntmps116
  go_upto_region 2 with fail
  rw[<-Z,<-eW];clear Z eW
  go_wp2_with (first
   |(refine Ac (by rfl) 110 (.tmp 8) (by rfl) (w.heap.size+1) 0 (by rfl) F _ (Ab X.o) D.underlying110 (by rfl) Y.o ?_)
   |(refine wpList_store_mid (by rfl) 110 (.tmp 6) (.tmp 15) (by rfl) w.heap.size 0 F (by rfl) (by rfl) (Ak O.o _ Ae) Y.o av.o ?_)
   |fail)
  have hE:=AE (ds:=F) O.o (by rfl);have hp:=AJ W w.heap.size F.toList;have hq:=Am (P:=D.prog) hE D.underlying110 rfl Y.o;refine bodyPost_ret (v:=.tuple #[.agg F,.int .i64 2]) ?_ ?_ ?_
  ·exact AD (v:=.agg F) 6 7 110 ⟨w.heap.size,0,none⟩ D.results116 rfl hq rfl
  ·rfl
  exact⟨by rw[GE.o,IE.o],Al M.o hp (by have:=O.o.lt;omega) Ae⟩
theorem Oo (A:Option Addr) (b:L) (c:Nat) (w:World) (hr:Rd w w.heap.size A (bvs b)):Calls D.prog 68 #[.slice A b.length c] w fun e w'=>e=.returned (.tuple #[.agg (rpC (rpG b)).toArray,.int .i64 (rpI b)])/\Below w.heap.size w w':=by
 obtain⟨zz,F⟩:∃z:Array Value,z=#[.int .u8 0,.int .u8 0,.int .u8 0,.int .u8 0,.int .u8 0,.int .u8 0,.int .u8 0,.int .u8 0,.int .u8 0,.int .u8 0,.int .u8 0,.int .u8 0,.int .u8 0,.int .u8 0,.int .u8 0,.int .u8 0,.int .u8 0,.int .u8 0,.int .u8 0,.int .u8 0,.int .u8 0,.int .u8 0,.int .u8 0,.int .u8 0,.int .u8 0,.int .u8 0,.int .u8 0,.int .u8 0,.int .u8 0,.int .u8 0,.int .u8 0,.int .u8 0,.string ⟨#[]⟩,.string ⟨#[]⟩,.int .i64 0,.int .i64 0,.int .i64 0]:=⟨_,rfl⟩;have Y:zz.size=37:=by rw[F];simp
 have E:(rpC (rpG b)).toArray.size=37:=by exact Fb (QH b)
 have M:(rpC (rpG b)).toArray.all (·.oneCell')=true:=JK _ _ _ _ _;have c1:=QI A b c (w.alloc (.cells zz 110)) ((hr.alloc Ae _).more (by simp));obtain⟨cs,Z⟩:=Ah ((rpC (rpG b)).toArray);rw[<-Z] at E M c1⊢;have HI:=I (show(D.prog.info? 110).map (·.size)=some cs.size by rw[E];kernel_rfl);have HO:=I M;have aa:=I E;have O:=I Y;have X:=I (Blk.new w 110 zz);have HG:=I ((Below.refl w.heap.size w).alloc Ae (.cells zz 110));clear E M Y Z hr;go_enter D.func68,D.ntmps68
 go_upto_region 1 with fail
 rw[<-F];clear F
 go_wp2_with (first
  |(go_at_call 116;refine Ag c1 ?_;rintro w1 hb;clear c1;replace X:=I (X.o.below hb);replace HG:=HG.t hb;clear hb)
  |(refine wpList_store_mid (by rfl) 110 (.tmp 2) (.tmp 6) (by rfl) w.heap.size 0 cs (by rfl) (by rfl) (Ak X.o _ (by have:=O.o;have:=aa.o;omega)) HI.o HO.o ?_)
  |fail)
 have hE:=AE (ds:=cs) X.o (by have:=O.o;have:=aa.o;omega);have hp:=AJ w1 w.heap.size cs.toList;have hq:=Am (P:=D.prog) hE D.underlying110 rfl HI.o;refine bodyPost_ret (v:=.tuple #[.agg cs,.int .i64 (rpI b)]) ?_ ?_ ?_
 ·exact AD (v:=.agg cs) 2 3 110 ⟨w.heap.size,0,none⟩ D.results68 rfl hq rfl
 ·rfl
 exact⟨rfl,Al HG.o hp (by have:=X.o.lt;omega) Ae⟩
def zA:Array Value:=(asC as0).toArray
def zT:Array Value:=(tgC tg0 (.slice none 0 0) (.slice none 0 0)).toArray
def zR:Array Value:=(reC re0 (.slice none 0 0) (.slice none 0 0)).toArray
def zP:Array Value:=(apC ap0 (.slice none 0 0) (.slice none 0 0)).toArray
def zF:Array Value:=(faC fa0).toArray
theorem zA_v:AsV zA as0:=rfl
theorem zF_v:FaV zF fa0:=rfl
theorem zT_v (w:World) (B:Nat):TgV w B zT tg0:=⟨_,_,rfl,SlB.nil w B,SlB.nil w B⟩
theorem zR_v (w:World) (B:Nat):ReV w B zR re0:=⟨_,_,rfl,SlB.nil w B,SlB.nil w B⟩
theorem zP_v (w:World) (B:Nat):ApV w B zP ap0:=⟨_,_,rfl,SlB.nil w B,SlB.nil w B⟩
theorem zM_v (w:World) (B:Nat) (k:Int):MgP w B zA zT zR zP zF ⟨k,as0,tg0,re0,ap0,fa0⟩:=⟨zA_v,zT_v w B,zR_v w B,zP_v w B,zF_v⟩
def nm (m:Mg):Mg:=if m.k=1 then ⟨1,m.aq,tg0,re0,ap0,fa0⟩ else if m.k=2 then ⟨2,as0,m.tg,re0,ap0,fa0⟩ else if m.k=3 then ⟨3,as0,tg0,m.re,ap0,fa0⟩ else if m.k=4 then ⟨4,as0,tg0,re0,m.ap,fa0⟩ else if m.k=5 then ⟨5,as0,tg0,re0,ap0,m.fa⟩ else ⟨m.k,as0,tg0,re0,ap0,fa0⟩
theorem Tc (k:Int):Tryz.prog.built 63 [(0,.int .i64 k)]=some (mgA k zA zT zR zP zF):=by kernel_rfl
theorem QJ (cs:Array Value) (m:Mg) (w:World) (h:MgV w w.heap.size cs m):Calls D.prog 153 #[.agg cs] w fun e w'=>∃ds,e=.returned (.agg ds)/\MgV w' w'.heap.size ds (nm m)/\Below w.heap.size w w':=by
 obtain⟨pa,pt,pr,pp,pf,hc,hp⟩:=h;obtain⟨zz,aa⟩:∃z:Array Value,z=#[.int .i64 0,.string ⟨#[]⟩,.string ⟨#[]⟩,.string ⟨#[]⟩,.string ⟨#[]⟩,.int .i64 0,.int .i64 0,.string ⟨#[]⟩,.string ⟨#[]⟩,.int .i64 0,.slice none 0 0,.slice none 0 0,.string ⟨#[]⟩,.string ⟨#[]⟩,.int .i64 0,.int .i64 0,.string ⟨#[]⟩,.string ⟨#[]⟩,.string ⟨#[]⟩,.string ⟨#[]⟩,.int .i64 0,.slice none 0 0,.slice none 0 0,.string ⟨#[]⟩,.string ⟨#[]⟩,.int .i64 0,.slice none 0 0,.slice none 0 0,.int .i64 0,.int .i64 0]:=⟨_,rfl⟩;have ak:zz=mgA 0 zA zT zR zP zF:=by rw[aa];rfl
 have ai:zz.size=30:=by rw[ak];exact(zM_v w 0 0).size 0
 have ab:=I ai;obtain⟨W,eW⟩:=Ah ((w.alloc (.cells cs 63)).alloc (.cells zz 63));have aj:W.heap.size=w.heap.size+1+1:=by rw[eW];simp
 have HK:=I (show Blk W w.heap.size 63 (mgA m.k pa pt pr pp pf) by rw[eW,<-hc];exact(Blk.new _ _ _).alloc _);have hq:=Blk.new (w.alloc (.cells cs 63)) 63 zz;rw[show(w.alloc (.cells cs 63)).heap.size=w.heap.size+1 by simp,<-eW] at hq;have Z:=I hq;clear hq;have M:=I (show Below w.heap.size w W by rw[eW];exact(Af.alloc Ae _).alloc (by simp) _);have HA:=I (hp.at_ HK.o);have k0:=HA.o.k;have X:=I hp;have ae:=I aj;have af:=I (Tc m.k);obtain⟨c0,ag⟩:∃c,c=mgA m.k zA zT zR zP zF:=⟨_,rfl⟩;have ah:c0.size=30:=by rw[ag];exact(zM_v w 0 m.k).size m.k
 have HO:=I (show c0.all (·.oneCell')=true by rw[ag];exact(zM_v w 0 m.k).one m.k);have HI:=I (show(D.prog.info? 63).map (·.size)=some c0.size by rw[ah];exact AQ);have ad:=I ah;rw[<-ag] at af;have EC:=I ag;clear hc hp aj ai ah ag ak
 by_cases m1:m.k=1
 ·have y1:(m.k==1)=true:=by simpa using m1
  have y2:(m.k==2)=false:=by simp;omega
  have y3:(m.k==3)=false:=by simp;omega
  have y4:(m.k==4)=false:=by simp;omega
  have y5:(m.k==5)=false:=by simp;omega
  have EN:=I (show nm m=⟨m.k,m.aq,tg0,re0,ap0,fa0⟩ by rw[nm,if_pos m1,m1]);clear m1;have Y:=I (show MgP w w.heap.size pa zT zR zP zF ⟨m.k,m.aq,tg0,re0,ap0,fa0⟩ from⟨X.o.a,zT_v w w.heap.size,zR_v w w.heap.size,zP_v w w.heap.size,zF_v⟩);have F:=I (show(D.prog.info? 63).map (·.size)=some (mgA m.k pa zT zR zP zF).size by rw[Y.o.size];exact AQ);go_enter D.func153,D.ntmps153
  go_upto_region 1 with fail
  rw[<-aa,<-eW];clear aa eW
  go_wp2_with (first
   |(refine Au (by rfl) 63 #[(0,.tmp 5)] (by rfl) c0 (by simp only[List.map_toArray,List.map_cons,List.map_nil];exact af.o) ?_)
   |(refine wpList_store_mid (by rfl) 63 (.tmp 3) (.tmp 6) (by rfl) W.heap.size 0 c0 (by rfl) (by rfl) (Ak (Blk.new W 63 #[.int .i64 0,.string ⟨#[]⟩,.string ⟨#[]⟩,.string ⟨#[]⟩,.string ⟨#[]⟩,.int .i64 0,.int .i64 0,.string ⟨#[]⟩,.string ⟨#[]⟩,.int .i64 0,.slice none 0 0,.slice none 0 0,.string ⟨#[]⟩,.string ⟨#[]⟩,.int .i64 0,.int .i64 0,.string ⟨#[]⟩,.string ⟨#[]⟩,.string ⟨#[]⟩,.string ⟨#[]⟩,.int .i64 0,.slice none 0 0,.slice none 0 0,.string ⟨#[]⟩,.string ⟨#[]⟩,.int .i64 0,.slice none 0 0,.slice none 0 0,.int .i64 0,.int .i64 0]) _ (by have:=ad.o;simp;omega)) HI.o HO.o ?_;have O:=Bp W 63 #[.int .i64 0,.string ⟨#[]⟩,.string ⟨#[]⟩,.string ⟨#[]⟩,.string ⟨#[]⟩,.int .i64 0,.int .i64 0,.string ⟨#[]⟩,.string ⟨#[]⟩,.int .i64 0,.slice none 0 0,.slice none 0 0,.string ⟨#[]⟩,.string ⟨#[]⟩,.int .i64 0,.int .i64 0,.string ⟨#[]⟩,.string ⟨#[]⟩,.string ⟨#[]⟩,.string ⟨#[]⟩,.int .i64 0,.slice none 0 0,.slice none 0 0,.string ⟨#[]⟩,.string ⟨#[]⟩,.int .i64 0,.slice none 0 0,.slice none 0 0,.int .i64 0,.int .i64 0] c0 (by have:=ad.o;simp;omega);generalize ((W.alloc (.cells #[.int .i64 0,.string ⟨#[]⟩,.string ⟨#[]⟩,.string ⟨#[]⟩,.string ⟨#[]⟩,.int .i64 0,.int .i64 0,.string ⟨#[]⟩,.string ⟨#[]⟩,.int .i64 0,.slice none 0 0,.slice none 0 0,.string ⟨#[]⟩,.string ⟨#[]⟩,.int .i64 0,.int .i64 0,.string ⟨#[]⟩,.string ⟨#[]⟩,.string ⟨#[]⟩,.string ⟨#[]⟩,.int .i64 0,.slice none 0 0,.slice none 0 0,.string ⟨#[]⟩,.string ⟨#[]⟩,.int .i64 0,.slice none 0 0,.slice none 0 0,.int .i64 0,.int .i64 0] 63)).setCells W.heap.size 0 c0.toList)=V at O⊢;have HX:=I (show Blk V W.heap.size 63 (mgA m.k zA zT zR zP zF) from EC.o▸O.1);replace HK:=I (HK.o.below O.2);replace Z:=I (Z.o.below O.2);replace M:=I (M.o.trans (O.2.mono M.o.size));clear O HA k0;have HA:=I (X.o.at_ HK.o);have k0:=HA.o.k)
   |(refine Ac (by rfl) 51 (.tmp 11) (by rfl) w.heap.size 1 (by rfl) pa _ HA.o.a D.underlying51 (by rfl) (by rw[X.o.a.size];exact Ch) ?_)
   |(refine wpList_store_mid (by rfl) 51 (.tmp 13) (.tmp 12) (by rfl) W.heap.size 1 pa (by rfl) (by rfl) (BN HX.o 1 _ (by rw[(zM_v W 0 m.k).size m.k,X.o.a.size];omega)) (by rw[X.o.a.size];exact Ch) X.o.a.one ?_;have hX:=Iy (ps:=pa) (ds:=mgA m.k pa zT zR zP zF) (pre:=[.int .i64 m.k]) (mid:=zA.toList) (post:=zT.toList++zR.toList++zP.toList++zF.toList) (o:=1) HX.o (by simp [mgA]) (by rfl) (by rw[X.o.a.size];rfl) (by simp [mgA]);have E:=Du V W.heap.size 1 pa.toList;generalize V.setCells W.heap.size 1 pa.toList=V2 at hX E⊢;replace HX:=I hX;replace Z:=I (Z.o.grown E (by intro e;injection e with e;have:=ae.o;omega));replace M:=I (Al M.o E M.o.size (by have:=ae.o;omega));clear hX E HA HK k0)
   |(refine Ac (by rfl) 63 (.tmp 3) (by rfl) W.heap.size 0 (by rfl) (mgA m.k pa zT zR zP zF) _ (Ab HX.o) D.underlying63 (by rfl) F.o ?_)
   |(refine wpList_store_mid (by rfl) 63 (.tmp 2) (.tmp 34) (by rfl) (w.heap.size+1) 0 (mgA m.k pa zT zR zP zF) (by rfl) (by rfl) (Ak Z.o _ (by rw[Y.o.size];have:=ab.o;omega)) F.o (Y.o.one _) ?_)
   |fail)
  have hE:=AE (ds:=mgA m.k pa zT zR zP zF) Z.o (by rw[Y.o.size];have:=ab.o;omega);have hp:=AJ V2 (w.heap.size+1) (mgA m.k pa zT zR zP zF).toList;have hq:=Am (P:=D.prog) hE D.underlying63 rfl F.o;refine bodyPost_ret (v:=.agg (mgA m.k pa zT zR zP zF)) ?_ ?_ ?_
  ·exact Aj 2 63 ⟨w.heap.size+1,0,none⟩ D.results153 rfl hq
  ·rfl
  have hB:=Al M.o hp M.o.size (by omega);refine⟨_,rfl,?_,hB⟩;rw[EN.o];exact⟨pa,zT,zR,zP,zF,rfl,(Y.o.keep hB).more hB.size⟩
 ·have ao:=m1
  by_cases m2:m.k=2
  ·have y1:(m.k==1)=false:=by simp;omega
   have y2:(m.k==2)=true:=by simpa using m2
   have y3:(m.k==3)=false:=by simp;omega
   have y4:(m.k==4)=false:=by simp;omega
   have y5:(m.k==5)=false:=by simp;omega
   have EN:=I (show nm m=⟨m.k,as0,m.tg,re0,ap0,fa0⟩ by rw[nm,if_neg m1,if_pos m2,m2]);clear m1 m2;have Y:=I (show MgP w w.heap.size zA pt zR zP zF ⟨m.k,as0,m.tg,re0,ap0,fa0⟩ from⟨zA_v,X.o.t,zR_v w w.heap.size,zP_v w w.heap.size,zF_v⟩);have F:=I (show(D.prog.info? 63).map (·.size)=some (mgA m.k zA pt zR zP zF).size by rw[Y.o.size];exact AQ);go_enter D.func153,D.ntmps153
   go_upto_region 1 with fail
   rw[<-aa,<-eW];clear aa eW
   go_wp2_with (first
    |(refine Au (by rfl) 63 #[(0,.tmp 5)] (by rfl) c0 (by simp only[List.map_toArray,List.map_cons,List.map_nil];exact af.o) ?_)
    |(refine wpList_store_mid (by rfl) 63 (.tmp 3) (.tmp 6) (by rfl) W.heap.size 0 c0 (by rfl) (by rfl) (Ak (Blk.new W 63 #[.int .i64 0,.string ⟨#[]⟩,.string ⟨#[]⟩,.string ⟨#[]⟩,.string ⟨#[]⟩,.int .i64 0,.int .i64 0,.string ⟨#[]⟩,.string ⟨#[]⟩,.int .i64 0,.slice none 0 0,.slice none 0 0,.string ⟨#[]⟩,.string ⟨#[]⟩,.int .i64 0,.int .i64 0,.string ⟨#[]⟩,.string ⟨#[]⟩,.string ⟨#[]⟩,.string ⟨#[]⟩,.int .i64 0,.slice none 0 0,.slice none 0 0,.string ⟨#[]⟩,.string ⟨#[]⟩,.int .i64 0,.slice none 0 0,.slice none 0 0,.int .i64 0,.int .i64 0]) _ (by have:=ad.o;simp;omega)) HI.o HO.o ?_;have O:=Bp W 63 #[.int .i64 0,.string ⟨#[]⟩,.string ⟨#[]⟩,.string ⟨#[]⟩,.string ⟨#[]⟩,.int .i64 0,.int .i64 0,.string ⟨#[]⟩,.string ⟨#[]⟩,.int .i64 0,.slice none 0 0,.slice none 0 0,.string ⟨#[]⟩,.string ⟨#[]⟩,.int .i64 0,.int .i64 0,.string ⟨#[]⟩,.string ⟨#[]⟩,.string ⟨#[]⟩,.string ⟨#[]⟩,.int .i64 0,.slice none 0 0,.slice none 0 0,.string ⟨#[]⟩,.string ⟨#[]⟩,.int .i64 0,.slice none 0 0,.slice none 0 0,.int .i64 0,.int .i64 0] c0 (by have:=ad.o;simp;omega);generalize ((W.alloc (.cells #[.int .i64 0,.string ⟨#[]⟩,.string ⟨#[]⟩,.string ⟨#[]⟩,.string ⟨#[]⟩,.int .i64 0,.int .i64 0,.string ⟨#[]⟩,.string ⟨#[]⟩,.int .i64 0,.slice none 0 0,.slice none 0 0,.string ⟨#[]⟩,.string ⟨#[]⟩,.int .i64 0,.int .i64 0,.string ⟨#[]⟩,.string ⟨#[]⟩,.string ⟨#[]⟩,.string ⟨#[]⟩,.int .i64 0,.slice none 0 0,.slice none 0 0,.string ⟨#[]⟩,.string ⟨#[]⟩,.int .i64 0,.slice none 0 0,.slice none 0 0,.int .i64 0,.int .i64 0] 63)).setCells W.heap.size 0 c0.toList)=V at O⊢;have HX:=I (show Blk V W.heap.size 63 (mgA m.k zA zT zR zP zF) from EC.o▸O.1);replace HK:=I (HK.o.below O.2);replace Z:=I (Z.o.below O.2);replace M:=I (M.o.trans (O.2.mono M.o.size));clear O HA k0;have HA:=I (X.o.at_ HK.o);have k0:=HA.o.k)
    |(refine Ac (by rfl) 55 (.tmp 16) (by rfl) w.heap.size 7 (by rfl) pt _ HA.o.t D.underlying55 (by rfl) (by rw[X.o.t.size];exact BG) ?_)
    |(refine wpList_store_mid (by rfl) 55 (.tmp 18) (.tmp 17) (by rfl) W.heap.size 7 pt (by rfl) (by rfl) (BN HX.o 7 _ (by rw[(zM_v W 0 m.k).size m.k,X.o.t.size];omega)) (by rw[X.o.t.size];exact BG) X.o.t.one ?_;have hX:=Iy (ps:=pt) (ds:=mgA m.k zA pt zR zP zF) (pre:=[.int .i64 m.k]++zA.toList) (mid:=zT.toList) (post:=zR.toList++zP.toList++zF.toList) (o:=7) HX.o (by simp [mgA]) (by rfl) (by rw[X.o.t.size];rfl) (by simp [mgA]);have E:=Du V W.heap.size 7 pt.toList;generalize V.setCells W.heap.size 7 pt.toList=V2 at hX E⊢;replace HX:=I hX;replace Z:=I (Z.o.grown E (by intro e;injection e with e;have:=ae.o;omega));replace M:=I (Al M.o E M.o.size (by have:=ae.o;omega));clear hX E HA HK k0)
    |(refine Ac (by rfl) 63 (.tmp 3) (by rfl) W.heap.size 0 (by rfl) (mgA m.k zA pt zR zP zF) _ (Ab HX.o) D.underlying63 (by rfl) F.o ?_)
    |(refine wpList_store_mid (by rfl) 63 (.tmp 2) (.tmp 34) (by rfl) (w.heap.size+1) 0 (mgA m.k zA pt zR zP zF) (by rfl) (by rfl) (Ak Z.o _ (by rw[Y.o.size];have:=ab.o;omega)) F.o (Y.o.one _) ?_)
    |fail)
   have hE:=AE (ds:=mgA m.k zA pt zR zP zF) Z.o (by rw[Y.o.size];have:=ab.o;omega);have hp:=AJ V2 (w.heap.size+1) (mgA m.k zA pt zR zP zF).toList;have hq:=Am (P:=D.prog) hE D.underlying63 rfl F.o;refine bodyPost_ret (v:=.agg (mgA m.k zA pt zR zP zF)) ?_ ?_ ?_
   ·exact Aj 2 63 ⟨w.heap.size+1,0,none⟩ D.results153 rfl hq
   ·rfl
   have hB:=Al M.o hp M.o.size (by omega);refine⟨_,rfl,?_,hB⟩;rw[EN.o];exact⟨zA,pt,zR,zP,zF,rfl,(Y.o.keep hB).more hB.size⟩
  ·have au:=m2
   by_cases m3:m.k=3
   ·have y1:(m.k==1)=false:=by simp;omega
    have y2:(m.k==2)=false:=by simp;omega
    have y3:(m.k==3)=true:=by simpa using m3
    have y4:(m.k==4)=false:=by simp;omega
    have y5:(m.k==5)=false:=by simp;omega
    have EN:=I (show nm m=⟨m.k,as0,tg0,m.re,ap0,fa0⟩ by rw[nm,if_neg m1,if_neg m2,if_pos m3,m3]);clear m1 m2 m3;have Y:=I (show MgP w w.heap.size zA zT pr zP zF ⟨m.k,as0,tg0,m.re,ap0,fa0⟩ from⟨zA_v,zT_v w w.heap.size,X.o.r,zP_v w w.heap.size,zF_v⟩);have F:=I (show(D.prog.info? 63).map (·.size)=some (mgA m.k zA zT pr zP zF).size by rw[Y.o.size];exact AQ);go_enter D.func153,D.ntmps153
    go_upto_region 1 with fail
    rw[<-aa,<-eW];clear aa eW
    go_wp2_with (first
     |(refine Au (by rfl) 63 #[(0,.tmp 5)] (by rfl) c0 (by simp only[List.map_toArray,List.map_cons,List.map_nil];exact af.o) ?_)
     |(refine wpList_store_mid (by rfl) 63 (.tmp 3) (.tmp 6) (by rfl) W.heap.size 0 c0 (by rfl) (by rfl) (Ak (Blk.new W 63 #[.int .i64 0,.string ⟨#[]⟩,.string ⟨#[]⟩,.string ⟨#[]⟩,.string ⟨#[]⟩,.int .i64 0,.int .i64 0,.string ⟨#[]⟩,.string ⟨#[]⟩,.int .i64 0,.slice none 0 0,.slice none 0 0,.string ⟨#[]⟩,.string ⟨#[]⟩,.int .i64 0,.int .i64 0,.string ⟨#[]⟩,.string ⟨#[]⟩,.string ⟨#[]⟩,.string ⟨#[]⟩,.int .i64 0,.slice none 0 0,.slice none 0 0,.string ⟨#[]⟩,.string ⟨#[]⟩,.int .i64 0,.slice none 0 0,.slice none 0 0,.int .i64 0,.int .i64 0]) _ (by have:=ad.o;simp;omega)) HI.o HO.o ?_;have O:=Bp W 63 #[.int .i64 0,.string ⟨#[]⟩,.string ⟨#[]⟩,.string ⟨#[]⟩,.string ⟨#[]⟩,.int .i64 0,.int .i64 0,.string ⟨#[]⟩,.string ⟨#[]⟩,.int .i64 0,.slice none 0 0,.slice none 0 0,.string ⟨#[]⟩,.string ⟨#[]⟩,.int .i64 0,.int .i64 0,.string ⟨#[]⟩,.string ⟨#[]⟩,.string ⟨#[]⟩,.string ⟨#[]⟩,.int .i64 0,.slice none 0 0,.slice none 0 0,.string ⟨#[]⟩,.string ⟨#[]⟩,.int .i64 0,.slice none 0 0,.slice none 0 0,.int .i64 0,.int .i64 0] c0 (by have:=ad.o;simp;omega);generalize ((W.alloc (.cells #[.int .i64 0,.string ⟨#[]⟩,.string ⟨#[]⟩,.string ⟨#[]⟩,.string ⟨#[]⟩,.int .i64 0,.int .i64 0,.string ⟨#[]⟩,.string ⟨#[]⟩,.int .i64 0,.slice none 0 0,.slice none 0 0,.string ⟨#[]⟩,.string ⟨#[]⟩,.int .i64 0,.int .i64 0,.string ⟨#[]⟩,.string ⟨#[]⟩,.string ⟨#[]⟩,.string ⟨#[]⟩,.int .i64 0,.slice none 0 0,.slice none 0 0,.string ⟨#[]⟩,.string ⟨#[]⟩,.int .i64 0,.slice none 0 0,.slice none 0 0,.int .i64 0,.int .i64 0] 63)).setCells W.heap.size 0 c0.toList)=V at O⊢;have HX:=I (show Blk V W.heap.size 63 (mgA m.k zA zT zR zP zF) from EC.o▸O.1);replace HK:=I (HK.o.below O.2);replace Z:=I (Z.o.below O.2);replace M:=I (M.o.trans (O.2.mono M.o.size));clear O HA k0;have HA:=I (X.o.at_ HK.o);have k0:=HA.o.k)
     |(refine Ac (by rfl) 57 (.tmp 21) (by rfl) w.heap.size 16 (by rfl) pr _ HA.o.r D.underlying57 (by rfl) (by rw[X.o.r.size];exact Dh) ?_)
     |(refine wpList_store_mid (by rfl) 57 (.tmp 23) (.tmp 22) (by rfl) W.heap.size 16 pr (by rfl) (by rfl) (BN HX.o 16 _ (by rw[(zM_v W 0 m.k).size m.k,X.o.r.size];omega)) (by rw[X.o.r.size];exact Dh) X.o.r.one ?_;have hX:=Iy (ps:=pr) (ds:=mgA m.k zA zT pr zP zF) (pre:=[.int .i64 m.k]++zA.toList++zT.toList) (mid:=zR.toList) (post:=zP.toList++zF.toList) (o:=16) HX.o (by simp [mgA]) (by rfl) (by rw[X.o.r.size];rfl) (by simp [mgA]);have E:=Du V W.heap.size 16 pr.toList;generalize V.setCells W.heap.size 16 pr.toList=V2 at hX E⊢;replace HX:=I hX;replace Z:=I (Z.o.grown E (by intro e;injection e with e;have:=ae.o;omega));replace M:=I (Al M.o E M.o.size (by have:=ae.o;omega));clear hX E HA HK k0)
     |(refine Ac (by rfl) 63 (.tmp 3) (by rfl) W.heap.size 0 (by rfl) (mgA m.k zA zT pr zP zF) _ (Ab HX.o) D.underlying63 (by rfl) F.o ?_)
     |(refine wpList_store_mid (by rfl) 63 (.tmp 2) (.tmp 34) (by rfl) (w.heap.size+1) 0 (mgA m.k zA zT pr zP zF) (by rfl) (by rfl) (Ak Z.o _ (by rw[Y.o.size];have:=ab.o;omega)) F.o (Y.o.one _) ?_)
     |fail)
    have hE:=AE (ds:=mgA m.k zA zT pr zP zF) Z.o (by rw[Y.o.size];have:=ab.o;omega);have hp:=AJ V2 (w.heap.size+1) (mgA m.k zA zT pr zP zF).toList;have hq:=Am (P:=D.prog) hE D.underlying63 rfl F.o;refine bodyPost_ret (v:=.agg (mgA m.k zA zT pr zP zF)) ?_ ?_ ?_
    ·exact Aj 2 63 ⟨w.heap.size+1,0,none⟩ D.results153 rfl hq
    ·rfl
    have hB:=Al M.o hp M.o.size (by omega);refine⟨_,rfl,?_,hB⟩;rw[EN.o];exact⟨zA,zT,pr,zP,zF,rfl,(Y.o.keep hB).more hB.size⟩
   ·have ar:=m3
    by_cases m4:m.k=4
    ·have y1:(m.k==1)=false:=by simp;omega
     have y2:(m.k==2)=false:=by simp;omega
     have y3:(m.k==3)=false:=by simp;omega
     have y4:(m.k==4)=true:=by simpa using m4
     have y5:(m.k==5)=false:=by simp;omega
     have EN:=I (show nm m=⟨m.k,as0,tg0,re0,m.ap,fa0⟩ by rw[nm,if_neg m1,if_neg m2,if_neg m3,if_pos m4,m4]);clear m1 m2 m3 m4;have Y:=I (show MgP w w.heap.size zA zT zR pp zF ⟨m.k,as0,tg0,re0,m.ap,fa0⟩ from⟨zA_v,zT_v w w.heap.size,zR_v w w.heap.size,X.o.p,zF_v⟩);have F:=I (show(D.prog.info? 63).map (·.size)=some (mgA m.k zA zT zR pp zF).size by rw[Y.o.size];exact AQ);go_enter D.func153,D.ntmps153
     go_upto_region 1 with fail
     rw[<-aa,<-eW];clear aa eW
     go_wp2_with (first
      |(refine Au (by rfl) 63 #[(0,.tmp 5)] (by rfl) c0 (by simp only[List.map_toArray,List.map_cons,List.map_nil];exact af.o) ?_)
      |(refine wpList_store_mid (by rfl) 63 (.tmp 3) (.tmp 6) (by rfl) W.heap.size 0 c0 (by rfl) (by rfl) (Ak (Blk.new W 63 #[.int .i64 0,.string ⟨#[]⟩,.string ⟨#[]⟩,.string ⟨#[]⟩,.string ⟨#[]⟩,.int .i64 0,.int .i64 0,.string ⟨#[]⟩,.string ⟨#[]⟩,.int .i64 0,.slice none 0 0,.slice none 0 0,.string ⟨#[]⟩,.string ⟨#[]⟩,.int .i64 0,.int .i64 0,.string ⟨#[]⟩,.string ⟨#[]⟩,.string ⟨#[]⟩,.string ⟨#[]⟩,.int .i64 0,.slice none 0 0,.slice none 0 0,.string ⟨#[]⟩,.string ⟨#[]⟩,.int .i64 0,.slice none 0 0,.slice none 0 0,.int .i64 0,.int .i64 0]) _ (by have:=ad.o;simp;omega)) HI.o HO.o ?_;have O:=Bp W 63 #[.int .i64 0,.string ⟨#[]⟩,.string ⟨#[]⟩,.string ⟨#[]⟩,.string ⟨#[]⟩,.int .i64 0,.int .i64 0,.string ⟨#[]⟩,.string ⟨#[]⟩,.int .i64 0,.slice none 0 0,.slice none 0 0,.string ⟨#[]⟩,.string ⟨#[]⟩,.int .i64 0,.int .i64 0,.string ⟨#[]⟩,.string ⟨#[]⟩,.string ⟨#[]⟩,.string ⟨#[]⟩,.int .i64 0,.slice none 0 0,.slice none 0 0,.string ⟨#[]⟩,.string ⟨#[]⟩,.int .i64 0,.slice none 0 0,.slice none 0 0,.int .i64 0,.int .i64 0] c0 (by have:=ad.o;simp;omega);generalize ((W.alloc (.cells #[.int .i64 0,.string ⟨#[]⟩,.string ⟨#[]⟩,.string ⟨#[]⟩,.string ⟨#[]⟩,.int .i64 0,.int .i64 0,.string ⟨#[]⟩,.string ⟨#[]⟩,.int .i64 0,.slice none 0 0,.slice none 0 0,.string ⟨#[]⟩,.string ⟨#[]⟩,.int .i64 0,.int .i64 0,.string ⟨#[]⟩,.string ⟨#[]⟩,.string ⟨#[]⟩,.string ⟨#[]⟩,.int .i64 0,.slice none 0 0,.slice none 0 0,.string ⟨#[]⟩,.string ⟨#[]⟩,.int .i64 0,.slice none 0 0,.slice none 0 0,.int .i64 0,.int .i64 0] 63)).setCells W.heap.size 0 c0.toList)=V at O⊢;have HX:=I (show Blk V W.heap.size 63 (mgA m.k zA zT zR zP zF) from EC.o▸O.1);replace HK:=I (HK.o.below O.2);replace Z:=I (Z.o.below O.2);replace M:=I (M.o.trans (O.2.mono M.o.size));clear O HA k0;have HA:=I (X.o.at_ HK.o);have k0:=HA.o.k)
      |(refine Ac (by rfl) 59 (.tmp 26) (by rfl) w.heap.size 23 (by rfl) pp _ HA.o.p D.underlying59 (by rfl) (by rw[X.o.p.size];exact DE) ?_)
      |(refine wpList_store_mid (by rfl) 59 (.tmp 28) (.tmp 27) (by rfl) W.heap.size 23 pp (by rfl) (by rfl) (BN HX.o 23 _ (by rw[(zM_v W 0 m.k).size m.k,X.o.p.size];omega)) (by rw[X.o.p.size];exact DE) X.o.p.one ?_;have hX:=Iy (ps:=pp) (ds:=mgA m.k zA zT zR pp zF) (pre:=[.int .i64 m.k]++zA.toList++zT.toList++zR.toList) (mid:=zP.toList) (post:=zF.toList) (o:=23) HX.o (by simp [mgA]) (by rfl) (by rw[X.o.p.size];rfl) (by simp [mgA]);have E:=Du V W.heap.size 23 pp.toList;generalize V.setCells W.heap.size 23 pp.toList=V2 at hX E⊢;replace HX:=I hX;replace Z:=I (Z.o.grown E (by intro e;injection e with e;have:=ae.o;omega));replace M:=I (Al M.o E M.o.size (by have:=ae.o;omega));clear hX E HA HK k0)
      |(refine Ac (by rfl) 63 (.tmp 3) (by rfl) W.heap.size 0 (by rfl) (mgA m.k zA zT zR pp zF) _ (Ab HX.o) D.underlying63 (by rfl) F.o ?_)
      |(refine wpList_store_mid (by rfl) 63 (.tmp 2) (.tmp 34) (by rfl) (w.heap.size+1) 0 (mgA m.k zA zT zR pp zF) (by rfl) (by rfl) (Ak Z.o _ (by rw[Y.o.size];have:=ab.o;omega)) F.o (Y.o.one _) ?_)
      |fail)
     have hE:=AE (ds:=mgA m.k zA zT zR pp zF) Z.o (by rw[Y.o.size];have:=ab.o;omega);have hp:=AJ V2 (w.heap.size+1) (mgA m.k zA zT zR pp zF).toList;have hq:=Am (P:=D.prog) hE D.underlying63 rfl F.o;refine bodyPost_ret (v:=.agg (mgA m.k zA zT zR pp zF)) ?_ ?_ ?_
     ·exact Aj 2 63 ⟨w.heap.size+1,0,none⟩ D.results153 rfl hq
     ·rfl
     have hB:=Al M.o hp M.o.size (by omega);refine⟨_,rfl,?_,hB⟩;rw[EN.o];exact⟨zA,zT,zR,pp,zF,rfl,(Y.o.keep hB).more hB.size⟩
    ·have al:=m4
     by_cases m5:m.k=5
     ·have y1:(m.k==1)=false:=by simp;omega
      have y2:(m.k==2)=false:=by simp;omega
      have y3:(m.k==3)=false:=by simp;omega
      have y4:(m.k==4)=false:=by simp;omega
      have y5:(m.k==5)=true:=by simpa using m5
      have EN:=I (show nm m=⟨m.k,as0,tg0,re0,ap0,m.fa⟩ by rw[nm,if_neg m1,if_neg m2,if_neg m3,if_neg m4,if_pos m5,m5]);clear m1 m2 m3 m4 m5;have Y:=I (show MgP w w.heap.size zA zT zR zP pf ⟨m.k,as0,tg0,re0,ap0,m.fa⟩ from⟨zA_v,zT_v w w.heap.size,zR_v w w.heap.size,zP_v w w.heap.size,X.o.f⟩);have F:=I (show(D.prog.info? 63).map (·.size)=some (mgA m.k zA zT zR zP pf).size by rw[Y.o.size];exact AQ);go_enter D.func153,D.ntmps153
      go_upto_region 1 with fail
      rw[<-aa,<-eW];clear aa eW
      go_wp2_with (first
       |(refine Au (by rfl) 63 #[(0,.tmp 5)] (by rfl) c0 (by simp only[List.map_toArray,List.map_cons,List.map_nil];exact af.o) ?_)
       |(refine wpList_store_mid (by rfl) 63 (.tmp 3) (.tmp 6) (by rfl) W.heap.size 0 c0 (by rfl) (by rfl) (Ak (Blk.new W 63 #[.int .i64 0,.string ⟨#[]⟩,.string ⟨#[]⟩,.string ⟨#[]⟩,.string ⟨#[]⟩,.int .i64 0,.int .i64 0,.string ⟨#[]⟩,.string ⟨#[]⟩,.int .i64 0,.slice none 0 0,.slice none 0 0,.string ⟨#[]⟩,.string ⟨#[]⟩,.int .i64 0,.int .i64 0,.string ⟨#[]⟩,.string ⟨#[]⟩,.string ⟨#[]⟩,.string ⟨#[]⟩,.int .i64 0,.slice none 0 0,.slice none 0 0,.string ⟨#[]⟩,.string ⟨#[]⟩,.int .i64 0,.slice none 0 0,.slice none 0 0,.int .i64 0,.int .i64 0]) _ (by have:=ad.o;simp;omega)) HI.o HO.o ?_;have O:=Bp W 63 #[.int .i64 0,.string ⟨#[]⟩,.string ⟨#[]⟩,.string ⟨#[]⟩,.string ⟨#[]⟩,.int .i64 0,.int .i64 0,.string ⟨#[]⟩,.string ⟨#[]⟩,.int .i64 0,.slice none 0 0,.slice none 0 0,.string ⟨#[]⟩,.string ⟨#[]⟩,.int .i64 0,.int .i64 0,.string ⟨#[]⟩,.string ⟨#[]⟩,.string ⟨#[]⟩,.string ⟨#[]⟩,.int .i64 0,.slice none 0 0,.slice none 0 0,.string ⟨#[]⟩,.string ⟨#[]⟩,.int .i64 0,.slice none 0 0,.slice none 0 0,.int .i64 0,.int .i64 0] c0 (by have:=ad.o;simp;omega);generalize ((W.alloc (.cells #[.int .i64 0,.string ⟨#[]⟩,.string ⟨#[]⟩,.string ⟨#[]⟩,.string ⟨#[]⟩,.int .i64 0,.int .i64 0,.string ⟨#[]⟩,.string ⟨#[]⟩,.int .i64 0,.slice none 0 0,.slice none 0 0,.string ⟨#[]⟩,.string ⟨#[]⟩,.int .i64 0,.int .i64 0,.string ⟨#[]⟩,.string ⟨#[]⟩,.string ⟨#[]⟩,.string ⟨#[]⟩,.int .i64 0,.slice none 0 0,.slice none 0 0,.string ⟨#[]⟩,.string ⟨#[]⟩,.int .i64 0,.slice none 0 0,.slice none 0 0,.int .i64 0,.int .i64 0] 63)).setCells W.heap.size 0 c0.toList)=V at O⊢;have HX:=I (show Blk V W.heap.size 63 (mgA m.k zA zT zR zP zF) from EC.o▸O.1);replace HK:=I (HK.o.below O.2);replace Z:=I (Z.o.below O.2);replace M:=I (M.o.trans (O.2.mono M.o.size));clear O HA k0;have HA:=I (X.o.at_ HK.o);have k0:=HA.o.k)
       |(refine Ac (by rfl) 61 (.tmp 31) (by rfl) w.heap.size 28 (by rfl) pf _ HA.o.f D.underlying61 (by rfl) (by rw[X.o.f.size];exact Ff) ?_)
       |(refine wpList_store_mid (by rfl) 61 (.tmp 33) (.tmp 32) (by rfl) W.heap.size 28 pf (by rfl) (by rfl) (BN HX.o 28 _ (by rw[(zM_v W 0 m.k).size m.k,X.o.f.size];omega)) (by rw[X.o.f.size];exact Ff) X.o.f.one ?_;have hX:=Iy (ps:=pf) (ds:=mgA m.k zA zT zR zP pf) (pre:=[.int .i64 m.k]++zA.toList++zT.toList++zR.toList++zP.toList) (mid:=zF.toList) (post:=[]) (o:=28) HX.o (by simp [mgA]) (by rfl) (by rw[X.o.f.size];rfl) (by simp [mgA]);have E:=Du V W.heap.size 28 pf.toList;generalize V.setCells W.heap.size 28 pf.toList=V2 at hX E⊢;replace HX:=I hX;replace Z:=I (Z.o.grown E (by intro e;injection e with e;have:=ae.o;omega));replace M:=I (Al M.o E M.o.size (by have:=ae.o;omega));clear hX E HA HK k0)
       |(refine Ac (by rfl) 63 (.tmp 3) (by rfl) W.heap.size 0 (by rfl) (mgA m.k zA zT zR zP pf) _ (Ab HX.o) D.underlying63 (by rfl) F.o ?_)
       |(refine wpList_store_mid (by rfl) 63 (.tmp 2) (.tmp 34) (by rfl) (w.heap.size+1) 0 (mgA m.k zA zT zR zP pf) (by rfl) (by rfl) (Ak Z.o _ (by rw[Y.o.size];have:=ab.o;omega)) F.o (Y.o.one _) ?_)
       |fail)
      have hE:=AE (ds:=mgA m.k zA zT zR zP pf) Z.o (by rw[Y.o.size];have:=ab.o;omega);have hp:=AJ V2 (w.heap.size+1) (mgA m.k zA zT zR zP pf).toList;have hq:=Am (P:=D.prog) hE D.underlying63 rfl F.o;refine bodyPost_ret (v:=.agg (mgA m.k zA zT zR zP pf)) ?_ ?_ ?_
      ·exact Aj 2 63 ⟨w.heap.size+1,0,none⟩ D.results153 rfl hq
      ·rfl
      have hB:=Al M.o hp M.o.size (by omega);refine⟨_,rfl,?_,hB⟩;rw[EN.o];exact⟨zA,zT,zR,zP,pf,rfl,(Y.o.keep hB).more hB.size⟩
     ·have an:=m5
      have y1:(m.k==1)=false:=by simp;omega
      have y2:(m.k==2)=false:=by simp;omega
      have y3:(m.k==3)=false:=by simp;omega
      have y4:(m.k==4)=false:=by simp;omega
      have y5:(m.k==5)=false:=by simp;omega
      have EN:=I (show nm m=⟨m.k,as0,tg0,re0,ap0,fa0⟩ by rw[nm,if_neg m1,if_neg m2,if_neg m3,if_neg m4,if_neg m5]);clear m1 m2 m3 m4 m5;have Y:=I (show MgP w w.heap.size zA zT zR zP zF ⟨m.k,as0,tg0,re0,ap0,fa0⟩ from⟨zA_v,zT_v w w.heap.size,zR_v w w.heap.size,zP_v w w.heap.size,zF_v⟩);have F:=I (show(D.prog.info? 63).map (·.size)=some (mgA m.k zA zT zR zP zF).size by rw[Y.o.size];exact AQ);go_enter D.func153,D.ntmps153
      go_upto_region 1 with fail
      rw[<-aa,<-eW];clear aa eW
      go_wp2_with (first
       |(refine Au (by rfl) 63 #[(0,.tmp 5)] (by rfl) c0 (by simp only[List.map_toArray,List.map_cons,List.map_nil];exact af.o) ?_)
       |(refine wpList_store_mid (by rfl) 63 (.tmp 3) (.tmp 6) (by rfl) W.heap.size 0 c0 (by rfl) (by rfl) (Ak (Blk.new W 63 #[.int .i64 0,.string ⟨#[]⟩,.string ⟨#[]⟩,.string ⟨#[]⟩,.string ⟨#[]⟩,.int .i64 0,.int .i64 0,.string ⟨#[]⟩,.string ⟨#[]⟩,.int .i64 0,.slice none 0 0,.slice none 0 0,.string ⟨#[]⟩,.string ⟨#[]⟩,.int .i64 0,.int .i64 0,.string ⟨#[]⟩,.string ⟨#[]⟩,.string ⟨#[]⟩,.string ⟨#[]⟩,.int .i64 0,.slice none 0 0,.slice none 0 0,.string ⟨#[]⟩,.string ⟨#[]⟩,.int .i64 0,.slice none 0 0,.slice none 0 0,.int .i64 0,.int .i64 0]) _ (by have:=ad.o;simp;omega)) HI.o HO.o ?_;have O:=Bp W 63 #[.int .i64 0,.string ⟨#[]⟩,.string ⟨#[]⟩,.string ⟨#[]⟩,.string ⟨#[]⟩,.int .i64 0,.int .i64 0,.string ⟨#[]⟩,.string ⟨#[]⟩,.int .i64 0,.slice none 0 0,.slice none 0 0,.string ⟨#[]⟩,.string ⟨#[]⟩,.int .i64 0,.int .i64 0,.string ⟨#[]⟩,.string ⟨#[]⟩,.string ⟨#[]⟩,.string ⟨#[]⟩,.int .i64 0,.slice none 0 0,.slice none 0 0,.string ⟨#[]⟩,.string ⟨#[]⟩,.int .i64 0,.slice none 0 0,.slice none 0 0,.int .i64 0,.int .i64 0] c0 (by have:=ad.o;simp;omega);generalize ((W.alloc (.cells #[.int .i64 0,.string ⟨#[]⟩,.string ⟨#[]⟩,.string ⟨#[]⟩,.string ⟨#[]⟩,.int .i64 0,.int .i64 0,.string ⟨#[]⟩,.string ⟨#[]⟩,.int .i64 0,.slice none 0 0,.slice none 0 0,.string ⟨#[]⟩,.string ⟨#[]⟩,.int .i64 0,.int .i64 0,.string ⟨#[]⟩,.string ⟨#[]⟩,.string ⟨#[]⟩,.string ⟨#[]⟩,.int .i64 0,.slice none 0 0,.slice none 0 0,.string ⟨#[]⟩,.string ⟨#[]⟩,.int .i64 0,.slice none 0 0,.slice none 0 0,.int .i64 0,.int .i64 0] 63)).setCells W.heap.size 0 c0.toList)=V at O⊢;have HX:=I (show Blk V W.heap.size 63 (mgA m.k zA zT zR zP zF) from EC.o▸O.1);replace HK:=I (HK.o.below O.2);replace Z:=I (Z.o.below O.2);replace M:=I (M.o.trans (O.2.mono M.o.size));clear O HA k0;have HA:=I (X.o.at_ HK.o);have k0:=HA.o.k)
       |(refine Ac (by rfl) 63 (.tmp 3) (by rfl) W.heap.size 0 (by rfl) (mgA m.k zA zT zR zP zF) _ (Ab HX.o) D.underlying63 (by rfl) F.o ?_)
       |(refine wpList_store_mid (by rfl) 63 (.tmp 2) (.tmp 34) (by rfl) (w.heap.size+1) 0 (mgA m.k zA zT zR zP zF) (by rfl) (by rfl) (Ak Z.o _ (by rw[Y.o.size];have:=ab.o;omega)) F.o (Y.o.one _) ?_)
       |fail)
      have hE:=AE (ds:=mgA m.k zA zT zR zP zF) Z.o (by rw[Y.o.size];have:=ab.o;omega);have hp:=AJ V (w.heap.size+1) (mgA m.k zA zT zR zP zF).toList;have hq:=Am (P:=D.prog) hE D.underlying63 rfl F.o;refine bodyPost_ret (v:=.agg (mgA m.k zA zT zR zP zF)) ?_ ?_ ?_
      ·exact Aj 2 63 ⟨w.heap.size+1,0,none⟩ D.results153 rfl hq
      ·rfl
      have hB:=Al M.o hp M.o.size (by omega);refine⟨_,rfl,?_,hB⟩;rw[EN.o];exact⟨zA,zT,zR,zP,zF,rfl,(Y.o.keep hB).more hB.size⟩
theorem VJ {pa D:Array Value} {x y:As} (h:AsV pa x) (g:AsV D y) (w:World):(Op.equalIn 10000 51 (.agg pa) (.agg D)).run Tryz.prog w=.ok (decide (x=y)) w:=by rw[h,g];exact XA x y w
theorem VK {pa D:Array Value} {x y:Fa} (h:FaV pa x) (g:FaV D y) (w:World):(Op.equalIn 10000 61 (.agg pa) (.agg D)).run Tryz.prog w=.ok (decide (x=y)) w:=by rw[h,g];exact Xz x y w
theorem QK {pa D:Array Value} {x y:Tg} (w:World) (h:TgV w w.heap.size pa x) (g:TgV w w.heap.size D y):Calls Tryz.prog 185 #[.agg pa,.agg D] w fun e w'=>e=.returned (.bool (decide (x=y)))/\Below w.heap.size w w':=by
 obtain⟨b,a,rfl,⟨A1,c1,rfl,_,E⟩,⟨A2,c2,rfl,_,X⟩⟩:=h;obtain⟨b2,a2,rfl,⟨Y,M,rfl,_,O⟩,⟨Z,d2,rfl,_,F⟩⟩:=g;exact LP x y A1 A2 Y Z c1 c2 M d2 w E O X F
theorem QL {pa D:Array Value} {x y:Re} (w:World) (h:ReV w w.heap.size pa x) (g:ReV w w.heap.size D y):Calls Tryz.prog 186 #[.agg pa,.agg D] w fun e w'=>e=.returned (.bool (decide (x=y)))/\Below w.heap.size w w':=by
 obtain⟨b,a,rfl,⟨A1,c1,rfl,_,E⟩,⟨A2,c2,rfl,_,X⟩⟩:=h;obtain⟨b2,a2,rfl,⟨Y,M,rfl,_,O⟩,⟨Z,d2,rfl,_,F⟩⟩:=g;exact LQ x y A1 A2 Y Z c1 c2 M d2 w E O X F
theorem QM {pa D:Array Value} {x y:Ap} (w:World) (h:ApV w w.heap.size pa x) (g:ApV w w.heap.size D y):Calls Tryz.prog 187 #[.agg pa,.agg D] w fun e w'=>e=.returned (.bool (decide (x=y)))/\Below w.heap.size w w':=by
 obtain⟨b,a,rfl,⟨A1,c1,rfl,_,E⟩,⟨A2,c2,rfl,_,X⟩⟩:=h;obtain⟨b2,a2,rfl,⟨Y,M,rfl,_,O⟩,⟨Z,d2,rfl,_,F⟩⟩:=g;exact LR x y A1 A2 Y Z c1 c2 M d2 w E O X F
theorem mg_eq (m o:Mg):decide (m=o)=(decide (m.k=o.k)&&(decide (m.aq=o.aq)&&(decide (m.tg=o.tg)&&(decide (m.re=o.re)&&(decide (m.ap=o.ap)&&decide (m.fa=o.fa)))))):=by
 obtain⟨k,a,t,r,p,f⟩:=m;obtain⟨k2,E,D,r2,M,F⟩:=o;simp [Bool.decide_and]
theorem QN (cs ds:Array Value) (m o:Mg) (w:World) (h:MgV w w.heap.size cs m) (g:MgV w w.heap.size ds o):Calls D.prog 152 #[.agg cs,.agg ds] w fun e w'=>e=.returned (.bool (decide (m=o)))/\Below w.heap.size w w':=by
 obtain⟨pa,pt,pr,pp,pf,hc,hp⟩:=h;obtain⟨qa,qt,qr,qp,qf,hd,hq⟩:=g;obtain⟨W,eW⟩:=Ah ((w.alloc (.cells cs 63)).alloc (.cells ds 63));have Y:=I (show Blk W w.heap.size 63 (mgA m.k pa pt pr pp pf) by rw[eW,<-hc];exact(Blk.new _ _ _).alloc _);have aa:=Blk.new (w.alloc (.cells cs 63)) 63 ds;rw[show(w.alloc (.cells cs 63)).heap.size=w.heap.size+1 by simp,<-eW,hd] at aa;have Z:=I aa;clear aa;have X:=I (show Below w.heap.size w W by rw[eW];exact(Af.alloc Ae _).alloc (by simp) _);have HP:=I hp;have HQ:=I hq;have O:=I (hp.at_ Y.o);have M:=I (hq.at_ Z.o);have k0:=O.o.k;have k1:=M.o.k;have Tt:=I (fun w1 (h:Below w.heap.size w w1)=>QK w1 ((hp.t.keep h).more h.size) ((hq.t.keep h).more h.size));have Tr:=I (fun w1 (h:Below w.heap.size w w1)=>QL w1 ((hp.r.keep h).more h.size) ((hq.r.keep h).more h.size));have Tp:=I (fun w1 (h:Below w.heap.size w w1)=>QM w1 ((hp.p.keep h).more h.size) ((hq.p.keep h).more h.size));have EA:=I (fun w1=>VJ hp.a hq.a w1);have EF:=I (fun w1=>VK hp.f hq.f w1);have ME:=I (mg_eq m o);clear hc hd hp hq;cases ek:decide (m.k=o.k) with
 |false=>
  have tk:(m.k==o.k)=false:=by simpa using ek
  have E:=I (show decide (m=o)=false by rw[ME.o,ek];rfl);clear ek;go_enter D.func152,D.ntmps152
  go_upto_region 1 with fail
  rw[<-eW];clear eW
  go_wp2
  go_ret;exact⟨by rw[E.o];rfl,X.o⟩
 |true=>
  have tk:(m.k==o.k)=true:=by simpa using ek
  cases ea:decide (m.aq=o.aq) with
  |false=>
   rw[ea] at EA;have fa:=EA.o;have E:=I (show decide (m=o)=false by rw[ME.o,ek,ea];rfl);clear ek ea;go_enter D.func152,D.ntmps152
   go_upto_region 1 with fail
   rw[<-eW];clear eW
   go_wp2_with (first
    |(refine Az (by rfl) 51 (.tmp 11) (by rfl) w.heap.size 1 (by rfl) pa _ O.o.a D.underlying51 (by rfl) (by rw[HP.o.a.size];exact Ch) ?_)
    |(refine Az (by rfl) 51 (.tmp 13) (by rfl) (w.heap.size+1) 1 (by rfl) qa _ M.o.a D.underlying51 (by rfl) (by rw[HQ.o.a.size];exact Ch) ?_)
    |fail)
   go_ret;exact⟨by rw[E.o];rfl,X.o⟩
  |true=>
   rw[ea] at EA;have fa:=EA.o;cases et:decide (m.tg=o.tg) with
   |false=>
    rw[et] at Tt;have E:=I (show decide (m=o)=false by rw[ME.o,ek,ea,et];rfl);clear ek ea et;go_enter D.func152,D.ntmps152
    go_upto_region 1 with fail
    rw[<-eW];clear eW
    go_wp2_with (first
     |(refine Az (by rfl) 51 (.tmp 11) (by rfl) w.heap.size 1 (by rfl) pa _ O.o.a D.underlying51 (by rfl) (by rw[HP.o.a.size];exact Ch) ?_)
     |(refine Az (by rfl) 51 (.tmp 13) (by rfl) (w.heap.size+1) 1 (by rfl) qa _ M.o.a D.underlying51 (by rfl) (by rw[HQ.o.a.size];exact Ch) ?_)
     |(refine Az (by rfl) 55 (.tmp 18) (by rfl) w.heap.size 7 (by rfl) pt _ O.o.t D.underlying55 (by rfl) (by rw[HP.o.t.size];exact BG) ?_)
     |(refine Az (by rfl) 55 (.tmp 20) (by rfl) (w.heap.size+1) 7 (by rfl) qt _ M.o.t D.underlying55 (by rfl) (by rw[HQ.o.t.size];exact BG) ?_)
     |(go_at_call 185;refine Ag (Tt.o _ X.o) ?_;rintro wt F;clear O M;replace Y:=I (Y.o.below F);replace Z:=I (Z.o.below F);replace X:=X.t F;clear F Tt;have O:=I (HP.o.at_ Y.o);have M:=I (HQ.o.at_ Z.o))
     |fail)
    go_ret;exact⟨by rw[E.o];rfl,X.o⟩
   |true=>
    rw[et] at Tt;cases er:decide (m.re=o.re) with
    |false=>
     rw[er] at Tr;have E:=I (show decide (m=o)=false by rw[ME.o,ek,ea,et,er];rfl);clear ek ea et er;go_enter D.func152,D.ntmps152
     go_upto_region 1 with fail
     rw[<-eW];clear eW
     go_wp2_with (first
      |(refine Az (by rfl) 51 (.tmp 11) (by rfl) w.heap.size 1 (by rfl) pa _ O.o.a D.underlying51 (by rfl) (by rw[HP.o.a.size];exact Ch) ?_)
      |(refine Az (by rfl) 51 (.tmp 13) (by rfl) (w.heap.size+1) 1 (by rfl) qa _ M.o.a D.underlying51 (by rfl) (by rw[HQ.o.a.size];exact Ch) ?_)
      |(refine Az (by rfl) 55 (.tmp 18) (by rfl) w.heap.size 7 (by rfl) pt _ O.o.t D.underlying55 (by rfl) (by rw[HP.o.t.size];exact BG) ?_)
      |(refine Az (by rfl) 55 (.tmp 20) (by rfl) (w.heap.size+1) 7 (by rfl) qt _ M.o.t D.underlying55 (by rfl) (by rw[HQ.o.t.size];exact BG) ?_)
      |(go_at_call 185;refine Ag (Tt.o _ X.o) ?_;rintro wt F;clear O M;replace Y:=I (Y.o.below F);replace Z:=I (Z.o.below F);replace X:=X.t F;clear F Tt;have O:=I (HP.o.at_ Y.o);have M:=I (HQ.o.at_ Z.o))
      |(refine Az (by rfl) 57 (.tmp 25) (by rfl) w.heap.size 16 (by rfl) pr _ O.o.r D.underlying57 (by rfl) (by rw[HP.o.r.size];exact Dh) ?_)
      |(refine Az (by rfl) 57 (.tmp 27) (by rfl) (w.heap.size+1) 16 (by rfl) qr _ M.o.r D.underlying57 (by rfl) (by rw[HQ.o.r.size];exact Dh) ?_)
      |(go_at_call 186;refine Ag (Tr.o _ X.o) ?_;rintro wr F;clear O M;replace Y:=I (Y.o.below F);replace Z:=I (Z.o.below F);replace X:=X.t F;clear F Tr;have O:=I (HP.o.at_ Y.o);have M:=I (HQ.o.at_ Z.o))
      |fail)
     go_ret;exact⟨by rw[E.o];rfl,X.o⟩
    |true=>
     rw[er] at Tr;cases ep:decide (m.ap=o.ap) with
     |false=>
      rw[ep] at Tp;have E:=I (show decide (m=o)=false by rw[ME.o,ek,ea,et,er,ep];rfl);clear ek ea et er ep;go_enter D.func152,D.ntmps152
      go_upto_region 1 with fail
      rw[<-eW];clear eW
      go_wp2_with (first
       |(refine Az (by rfl) 51 (.tmp 11) (by rfl) w.heap.size 1 (by rfl) pa _ O.o.a D.underlying51 (by rfl) (by rw[HP.o.a.size];exact Ch) ?_)
       |(refine Az (by rfl) 51 (.tmp 13) (by rfl) (w.heap.size+1) 1 (by rfl) qa _ M.o.a D.underlying51 (by rfl) (by rw[HQ.o.a.size];exact Ch) ?_)
       |(refine Az (by rfl) 55 (.tmp 18) (by rfl) w.heap.size 7 (by rfl) pt _ O.o.t D.underlying55 (by rfl) (by rw[HP.o.t.size];exact BG) ?_)
       |(refine Az (by rfl) 55 (.tmp 20) (by rfl) (w.heap.size+1) 7 (by rfl) qt _ M.o.t D.underlying55 (by rfl) (by rw[HQ.o.t.size];exact BG) ?_)
       |(go_at_call 185;refine Ag (Tt.o _ X.o) ?_;rintro wt F;clear O M;replace Y:=I (Y.o.below F);replace Z:=I (Z.o.below F);replace X:=X.t F;clear F Tt;have O:=I (HP.o.at_ Y.o);have M:=I (HQ.o.at_ Z.o))
       |(refine Az (by rfl) 57 (.tmp 25) (by rfl) w.heap.size 16 (by rfl) pr _ O.o.r D.underlying57 (by rfl) (by rw[HP.o.r.size];exact Dh) ?_)
       |(refine Az (by rfl) 57 (.tmp 27) (by rfl) (w.heap.size+1) 16 (by rfl) qr _ M.o.r D.underlying57 (by rfl) (by rw[HQ.o.r.size];exact Dh) ?_)
       |(go_at_call 186;refine Ag (Tr.o _ X.o) ?_;rintro wr F;clear O M;replace Y:=I (Y.o.below F);replace Z:=I (Z.o.below F);replace X:=X.t F;clear F Tr;have O:=I (HP.o.at_ Y.o);have M:=I (HQ.o.at_ Z.o))
       |(refine Az (by rfl) 59 (.tmp 32) (by rfl) w.heap.size 23 (by rfl) pp _ O.o.p D.underlying59 (by rfl) (by rw[HP.o.p.size];exact DE) ?_)
       |(refine Az (by rfl) 59 (.tmp 34) (by rfl) (w.heap.size+1) 23 (by rfl) qp _ M.o.p D.underlying59 (by rfl) (by rw[HQ.o.p.size];exact DE) ?_)
       |(go_at_call 187;refine Ag (Tp.o _ X.o) ?_;rintro wp F;clear O M;replace Y:=I (Y.o.below F);replace Z:=I (Z.o.below F);replace X:=X.t F;clear F Tp;have O:=I (HP.o.at_ Y.o);have M:=I (HQ.o.at_ Z.o))
       |fail)
      go_ret;exact⟨by rw[E.o];rfl,X.o⟩
     |true=>
      rw[ep] at Tp;cases ef:decide (m.fa=o.fa) with
      |false=>
       rw[ef] at EF;have ff:=EF.o;have E:=I (show decide (m=o)=false by rw[ME.o,ek,ea,et,er,ep,ef];rfl);clear ek ea et er ep ef;go_enter D.func152,D.ntmps152
       go_upto_region 1 with fail
       rw[<-eW];clear eW
       go_wp2_with (first
        |(refine Az (by rfl) 51 (.tmp 11) (by rfl) w.heap.size 1 (by rfl) pa _ O.o.a D.underlying51 (by rfl) (by rw[HP.o.a.size];exact Ch) ?_)
        |(refine Az (by rfl) 51 (.tmp 13) (by rfl) (w.heap.size+1) 1 (by rfl) qa _ M.o.a D.underlying51 (by rfl) (by rw[HQ.o.a.size];exact Ch) ?_)
        |(refine Az (by rfl) 55 (.tmp 18) (by rfl) w.heap.size 7 (by rfl) pt _ O.o.t D.underlying55 (by rfl) (by rw[HP.o.t.size];exact BG) ?_)
        |(refine Az (by rfl) 55 (.tmp 20) (by rfl) (w.heap.size+1) 7 (by rfl) qt _ M.o.t D.underlying55 (by rfl) (by rw[HQ.o.t.size];exact BG) ?_)
        |(go_at_call 185;refine Ag (Tt.o _ X.o) ?_;rintro wt F;clear O M;replace Y:=I (Y.o.below F);replace Z:=I (Z.o.below F);replace X:=X.t F;clear F Tt;have O:=I (HP.o.at_ Y.o);have M:=I (HQ.o.at_ Z.o))
        |(refine Az (by rfl) 57 (.tmp 25) (by rfl) w.heap.size 16 (by rfl) pr _ O.o.r D.underlying57 (by rfl) (by rw[HP.o.r.size];exact Dh) ?_)
        |(refine Az (by rfl) 57 (.tmp 27) (by rfl) (w.heap.size+1) 16 (by rfl) qr _ M.o.r D.underlying57 (by rfl) (by rw[HQ.o.r.size];exact Dh) ?_)
        |(go_at_call 186;refine Ag (Tr.o _ X.o) ?_;rintro wr F;clear O M;replace Y:=I (Y.o.below F);replace Z:=I (Z.o.below F);replace X:=X.t F;clear F Tr;have O:=I (HP.o.at_ Y.o);have M:=I (HQ.o.at_ Z.o))
        |(refine Az (by rfl) 59 (.tmp 32) (by rfl) w.heap.size 23 (by rfl) pp _ O.o.p D.underlying59 (by rfl) (by rw[HP.o.p.size];exact DE) ?_)
        |(refine Az (by rfl) 59 (.tmp 34) (by rfl) (w.heap.size+1) 23 (by rfl) qp _ M.o.p D.underlying59 (by rfl) (by rw[HQ.o.p.size];exact DE) ?_)
        |(go_at_call 187;refine Ag (Tp.o _ X.o) ?_;rintro wp F;clear O M;replace Y:=I (Y.o.below F);replace Z:=I (Z.o.below F);replace X:=X.t F;clear F Tp;have O:=I (HP.o.at_ Y.o);have M:=I (HQ.o.at_ Z.o))
        |(refine Az (by rfl) 61 (.tmp 39) (by rfl) w.heap.size 28 (by rfl) pf _ O.o.f D.underlying61 (by rfl) (by rw[HP.o.f.size];exact Ff) ?_)
        |(refine Az (by rfl) 61 (.tmp 41) (by rfl) (w.heap.size+1) 28 (by rfl) qf _ M.o.f D.underlying61 (by rfl) (by rw[HQ.o.f.size];exact Ff) ?_)
        |fail)
       go_ret;exact⟨by rw[E.o];rfl,X.o⟩
      |true=>
       rw[ef] at EF;have ff:=EF.o;have E:=I (show decide (m=o)=true by rw[ME.o,ek,ea,et,er,ep,ef];rfl);clear ek ea et er ep ef;go_enter D.func152,D.ntmps152
       go_upto_region 1 with fail
       rw[<-eW];clear eW
       go_wp2_with (first
        |(refine Az (by rfl) 51 (.tmp 11) (by rfl) w.heap.size 1 (by rfl) pa _ O.o.a D.underlying51 (by rfl) (by rw[HP.o.a.size];exact Ch) ?_)
        |(refine Az (by rfl) 51 (.tmp 13) (by rfl) (w.heap.size+1) 1 (by rfl) qa _ M.o.a D.underlying51 (by rfl) (by rw[HQ.o.a.size];exact Ch) ?_)
        |(refine Az (by rfl) 55 (.tmp 18) (by rfl) w.heap.size 7 (by rfl) pt _ O.o.t D.underlying55 (by rfl) (by rw[HP.o.t.size];exact BG) ?_)
        |(refine Az (by rfl) 55 (.tmp 20) (by rfl) (w.heap.size+1) 7 (by rfl) qt _ M.o.t D.underlying55 (by rfl) (by rw[HQ.o.t.size];exact BG) ?_)
        |(go_at_call 185;refine Ag (Tt.o _ X.o) ?_;rintro wt F;clear O M;replace Y:=I (Y.o.below F);replace Z:=I (Z.o.below F);replace X:=X.t F;clear F Tt;have O:=I (HP.o.at_ Y.o);have M:=I (HQ.o.at_ Z.o))
        |(refine Az (by rfl) 57 (.tmp 25) (by rfl) w.heap.size 16 (by rfl) pr _ O.o.r D.underlying57 (by rfl) (by rw[HP.o.r.size];exact Dh) ?_)
        |(refine Az (by rfl) 57 (.tmp 27) (by rfl) (w.heap.size+1) 16 (by rfl) qr _ M.o.r D.underlying57 (by rfl) (by rw[HQ.o.r.size];exact Dh) ?_)
        |(go_at_call 186;refine Ag (Tr.o _ X.o) ?_;rintro wr F;clear O M;replace Y:=I (Y.o.below F);replace Z:=I (Z.o.below F);replace X:=X.t F;clear F Tr;have O:=I (HP.o.at_ Y.o);have M:=I (HQ.o.at_ Z.o))
        |(refine Az (by rfl) 59 (.tmp 32) (by rfl) w.heap.size 23 (by rfl) pp _ O.o.p D.underlying59 (by rfl) (by rw[HP.o.p.size];exact DE) ?_)
        |(refine Az (by rfl) 59 (.tmp 34) (by rfl) (w.heap.size+1) 23 (by rfl) qp _ M.o.p D.underlying59 (by rfl) (by rw[HQ.o.p.size];exact DE) ?_)
        |(go_at_call 187;refine Ag (Tp.o _ X.o) ?_;rintro wp F;clear O M;replace Y:=I (Y.o.below F);replace Z:=I (Z.o.below F);replace X:=X.t F;clear F Tp;have O:=I (HP.o.at_ Y.o);have M:=I (HQ.o.at_ Z.o))
        |(refine Az (by rfl) 61 (.tmp 39) (by rfl) w.heap.size 28 (by rfl) pf _ O.o.f D.underlying61 (by rfl) (by rw[HP.o.f.size];exact Ff) ?_)
        |(refine Az (by rfl) 61 (.tmp 41) (by rfl) (w.heap.size+1) 28 (by rfl) qf _ M.o.f D.underlying61 (by rfl) (by rw[HQ.o.f.size];exact Ff) ?_)
        |fail)
       go_ret;exact⟨by rw[E.o];rfl,X.o⟩
end Mc
end Go.Proofs.YtcpccikongbopaaGreat
