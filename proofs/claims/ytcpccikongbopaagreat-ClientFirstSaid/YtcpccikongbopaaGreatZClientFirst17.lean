import Derived.Test.YtcpccikongbopaaGreatZClientFirst15
import Derived.Test.YtcpccikongbopaaGreatZClientFirst16
set_option maxHeartbeats 25600000
set_option maxRecDepth 100000
set_option linter.unusedVariables false
set_option linter.unusedSimpArgs false
namespace Go.Proofs.YtcpccikongbopaaGreat
namespace Mc
open Go.RowKit Ad DerP Ms
theorem GP (a b:L) (A D:Option Addr) (c d B:Nat) (w:World) (h:Rd w B A (bvs a)) (g:Rd w B D (bvs b)):Calls Tryz.prog 101 #[.slice A a.length c,.slice D b.length d] w fun e w'=>e=.returned (.bool (decide (a=b)))/\w=w':=by
 have F:=Bl (P:=Tryz.prog) w 25 5 Tryz.underlying25 Tryz.underlying5 h a.length c rfl 9 Tryz.underlying9;have M:=Bl (P:=Tryz.prog) w 25 5 Tryz.underlying25 Tryz.underlying5 g b.length d rfl 9 Tryz.underlying9;clear h g
 by_cases e:a=b
 ·have O:(a==b)=true:=by simpa using e
  have E:=I (decide_eq_true e);clear e;go_enter Tryz.func101,Tryz.ntmps101
  go_wp2
  go_ret;exact⟨by rw[E.o];rfl,rfl⟩
 ·have O:(a==b)=false:=by simpa using e
  have E:=I (decide_eq_false e);clear e;go_enter Tryz.func101,Tryz.ntmps101
  go_wp2
  go_ret;exact⟨by rw[E.o];rfl,rfl⟩
theorem GQ (x y:Tk) (A1 O:Option Addr) (c1 X:Nat) (w:World) (h1:Rd w w.heap.size A1 (bvs x.b)) (Z:Rd w w.heap.size O (bvs y.b)) :
  Calls Tryz.prog 207 #[.agg #[.string ⟨x.s.1.toArray⟩,.string ⟨x.s.2.toArray⟩,.int .i64 x.k,.slice A1 x.b.length c1],.agg #[.string ⟨y.s.1.toArray⟩,.string ⟨y.s.2.toArray⟩,.int .i64 y.k,.slice O y.b.length X]] w fun e w'=>e=.returned (.bool (decide (x=y)))/\Below w.heap.size w w':=by
 obtain⟨⟨r,n⟩,k,b⟩:=x;obtain⟨⟨r2,F⟩,k2,b2⟩:=y;simp only at h1 Z⊢;have D:=I (((Below.refl w.heap.size w).alloc Ae (.cells #[.string ⟨List.toArray r⟩,.string ⟨List.toArray n⟩,.int .i64 k,.slice A1 b.length c1] 53)).alloc (by simp) (.cells #[.string ⟨List.toArray r2⟩,.string ⟨List.toArray F⟩,.int .i64 k2,.slice O b2.length X] 53));have HX:=I ((Blk.new w 53 #[.string ⟨List.toArray r⟩,.string ⟨List.toArray n⟩,.int .i64 k,.slice A1 b.length c1]).alloc (.cells #[.string ⟨List.toArray r2⟩,.string ⟨List.toArray F⟩,.int .i64 k2,.slice O b2.length X] 53));have hy:=Blk.new (w.alloc (.cells #[.string ⟨List.toArray r⟩,.string ⟨List.toArray n⟩,.int .i64 k,.slice A1 b.length c1] 53)) 53 #[.string ⟨List.toArray r2⟩,.string ⟨List.toArray F⟩,.int .i64 k2,.slice O b2.length X];rw[show(w.alloc (.cells #[.string ⟨List.toArray r⟩,.string ⟨List.toArray n⟩,.int .i64 k,.slice A1 b.length c1] 53)).heap.size=w.heap.size+1 by simp] at hy;have HY:=I hy;clear hy;have M:=I (fun w1 (h:Below w.heap.size w w1)=>GP b b2 A1 O c1 X w.heap.size w1 (h1.below h) (Z.below h));clear h1 Z
 by_cases e0a:r=r2
 ·subst e0a
  by_cases e0b:n=F
  ·subst e0b
   by_cases e1:k=k2
   ·subst e1
    have t1:(k==k)=true:=by simp
    cases e2:decide (b=b2) with
    |false=>
     have E:=I (show decide ((⟨(r,n),k,b⟩:Tk)=⟨(r,n),k,b2⟩)=false from decide_eq_false (fun h=>of_decide_eq_false e2 (congrArg Tk.b h)));rw[e2] at M;clear e2;go_enter Tryz.func207,Tryz.ntmps207
     go_wp2_with (go_at_call 101;refine Calls.mono (M.o _ D.o) ?_;rintro e4 aa ⟨rfl,hw⟩;subst hw;clear M)
     go_ret;exact⟨by rw[E.o];rfl,D.o⟩
    |true=>
     rw[e2] at M;have Y:=of_decide_eq_true e2;clear e2;subst Y;have E:=I (show decide ((⟨(r,n),k,b⟩:Tk)=⟨(r,n),k,b⟩)=true from decide_eq_true rfl);go_enter Tryz.func207,Tryz.ntmps207
     go_wp2_with (go_at_call 101;refine Calls.mono (M.o _ D.o) ?_;rintro e4 aa ⟨rfl,hw⟩;subst hw;clear M)
     go_ret;exact⟨by rw[E.o];rfl,D.o⟩
   ·have t1:(k==k2)=false:=by simpa using e1
    have E:=I (show decide ((⟨(r,n),k,b⟩:Tk)=⟨(r,n),k2,b2⟩)=false from decide_eq_false (fun h=>e1 (congrArg Tk.k h)));go_enter Tryz.func207,Tryz.ntmps207
    go_wp2
    go_ret;exact⟨by rw[E.o];rfl,D.o⟩
  ·have E:=I (show decide ((⟨(r,n),k,b⟩:Tk)=⟨(r,F),k2,b2⟩)=false from decide_eq_false (fun h=>e0b (congrArg (fun t=>t.s.2) h)))
   go_enter Tryz.func207,Tryz.ntmps207
   go_wp2
   go_ret;exact⟨by rw[E.o];rfl,D.o⟩
 ·have E:=I (show decide ((⟨(r,n),k,b⟩:Tk)=⟨(r2,F),k2,b2⟩)=false from decide_eq_false (fun h=>e0a (congrArg (fun t=>t.s.1) h)))
  go_enter Tryz.func207,Tryz.ntmps207
  go_wp2
  go_ret;exact⟨by rw[E.o];rfl,D.o⟩
theorem LP (x y:Tg) (A1 A2 D1 D2:Option Addr) (c1 c2 d1 d2:Nat) (w:World) (h1:Rd w w.heap.size A1 (bvs x.t.b)) (g1:Rd w w.heap.size D1 (bvs y.t.b)) (h2:Rd w w.heap.size A2 (bvs x.a)) (g2:Rd w w.heap.size D2 (bvs y.a)) :
  Calls Tryz.prog 185 #[.agg #[.string ⟨x.t.s.1.toArray⟩,.string ⟨x.t.s.2.toArray⟩,.int .i64 x.t.k,.slice A1 x.t.b.length c1,.slice A2 x.a.length c2,.string ⟨x.s.1.toArray⟩,.string ⟨x.s.2.toArray⟩,.int .i64 x.u,.int .i64 x.no],.agg #[.string ⟨y.t.s.1.toArray⟩,.string ⟨y.t.s.2.toArray⟩,.int .i64 y.t.k,.slice D1 y.t.b.length d1,.slice D2 y.a.length d2,.string ⟨y.s.1.toArray⟩,.string ⟨y.s.2.toArray⟩,.int .i64 y.u,.int .i64 y.no]] w fun e w'=>e=.returned (.bool (decide (x=y)))/\Below w.heap.size w w':=by
 obtain⟨t,a,⟨r,n⟩,u,no⟩:=x;obtain⟨t2,a2,⟨r2,n2⟩,u2,O⟩:=y;simp only at h1 g1 h2 g2⊢;have X:=I (((Below.refl w.heap.size w).alloc Ae (.cells #[.string ⟨t.s.1.toArray⟩,.string ⟨t.s.2.toArray⟩,.int .i64 t.k,.slice A1 t.b.length c1,.slice A2 a.length c2,.string ⟨List.toArray r⟩,.string ⟨List.toArray n⟩,.int .i64 u,.int .i64 no] 55)).alloc (by simp) (.cells #[.string ⟨t2.s.1.toArray⟩,.string ⟨t2.s.2.toArray⟩,.int .i64 t2.k,.slice D1 t2.b.length d1,.slice D2 a2.length d2,.string ⟨List.toArray r2⟩,.string ⟨List.toArray n2⟩,.int .i64 u2,.int .i64 O] 55));have F:=I ((Blk.new w 55 #[.string ⟨t.s.1.toArray⟩,.string ⟨t.s.2.toArray⟩,.int .i64 t.k,.slice A1 t.b.length c1,.slice A2 a.length c2,.string ⟨List.toArray r⟩,.string ⟨List.toArray n⟩,.int .i64 u,.int .i64 no]).alloc (.cells #[.string ⟨t2.s.1.toArray⟩,.string ⟨t2.s.2.toArray⟩,.int .i64 t2.k,.slice D1 t2.b.length d1,.slice D2 a2.length d2,.string ⟨List.toArray r2⟩,.string ⟨List.toArray n2⟩,.int .i64 u2,.int .i64 O] 55));have hy:=Blk.new (w.alloc (.cells #[.string ⟨t.s.1.toArray⟩,.string ⟨t.s.2.toArray⟩,.int .i64 t.k,.slice A1 t.b.length c1,.slice A2 a.length c2,.string ⟨List.toArray r⟩,.string ⟨List.toArray n⟩,.int .i64 u,.int .i64 no] 55)) 55 #[.string ⟨t2.s.1.toArray⟩,.string ⟨t2.s.2.toArray⟩,.int .i64 t2.k,.slice D1 t2.b.length d1,.slice D2 a2.length d2,.string ⟨List.toArray r2⟩,.string ⟨List.toArray n2⟩,.int .i64 u2,.int .i64 O];rw[show(w.alloc (.cells #[.string ⟨t.s.1.toArray⟩,.string ⟨t.s.2.toArray⟩,.int .i64 t.k,.slice A1 t.b.length c1,.slice A2 a.length c2,.string ⟨List.toArray r⟩,.string ⟨List.toArray n⟩,.int .i64 u,.int .i64 no] 55)).heap.size=w.heap.size+1 by simp] at hy;have M:=I hy;clear hy;have Z:=I (fun D (h:Below w.heap.size w D)=>GQ t t2 A1 D1 c1 d1 D ((h1.below h).more h.size) ((g1.below h).more h.size));have T2:=I (fun D (h:Below w.heap.size w D)=>GP a a2 A2 D2 c2 d2 w.heap.size D (h2.below h) (g2.below h));clear h1 g1 h2 g2;cases e0:decide (t=t2) with
 |false=>
  have E:=I (show decide ((⟨t,a,(r,n),u,no⟩:Tg)=⟨t2,a2,(r2,n2),u2,O⟩)=false from decide_eq_false (fun h=>of_decide_eq_false e0 (congrArg Tg.t h)));rw[e0] at Z;clear e0;go_enter Tryz.func185,Tryz.ntmps185
  go_wp2_with (go_at_call 207;refine Calls.mono (Z.o _ X.o) ?_;rintro e3 D ⟨rfl,Y⟩;replace F:=I (F.o.below Y);replace M:=I (M.o.below Y);replace X:=X.t Y;clear Y Z;have ai:D.cell? ⟨w.heap.size,4,none⟩=some (.slice A2 a.length c2):=F.o.cell 4;have ak:D.cell? ⟨w.heap.size+1,4,none⟩=some (.slice D2 a2.length d2):=M.o.cell 4;have aj:D.cell? ⟨w.heap.size,5,none⟩=some (.string ⟨List.toArray r⟩):=F.o.cell 5;have aa:D.cell? ⟨w.heap.size+1,5,none⟩=some (.string ⟨List.toArray r2⟩):=M.o.cell 5;have ae:D.cell? ⟨w.heap.size,6,none⟩=some (.string ⟨List.toArray n⟩):=F.o.cell 6;have ag:D.cell? ⟨w.heap.size+1,6,none⟩=some (.string ⟨List.toArray n2⟩):=M.o.cell 6;have ad:D.cell? ⟨w.heap.size,7,none⟩=some (.int .i64 u):=F.o.cell 7;have ah:D.cell? ⟨w.heap.size+1,7,none⟩=some (.int .i64 u2):=M.o.cell 7;have ab:D.cell? ⟨w.heap.size,8,none⟩=some (.int .i64 no):=F.o.cell 8;have af:D.cell? ⟨w.heap.size+1,8,none⟩=some (.int .i64 O):=M.o.cell 8)
  go_ret;exact⟨by rw[E.o];rfl,X.o⟩
 |true=>
  rw[e0] at Z;have ao:=of_decide_eq_true e0;clear e0;subst ao;cases e1:decide (a=a2) with
  |false=>
   have E:=I (show decide ((⟨t,a,(r,n),u,no⟩:Tg)=⟨t,a2,(r2,n2),u2,O⟩)=false from decide_eq_false (fun h=>of_decide_eq_false e1 (congrArg Tg.a h)));rw[e1] at T2;clear e1;go_enter Tryz.func185,Tryz.ntmps185
   go_wp2_with (first
    |(go_at_call 207;refine Calls.mono (Z.o _ X.o) ?_;rintro e3 D ⟨rfl,Y⟩;replace F:=I (F.o.below Y);replace M:=I (M.o.below Y);replace X:=X.t Y;clear Y Z;have ai:D.cell? ⟨w.heap.size,4,none⟩=some (.slice A2 a.length c2):=F.o.cell 4;have ak:D.cell? ⟨w.heap.size+1,4,none⟩=some (.slice D2 a2.length d2):=M.o.cell 4;have aj:D.cell? ⟨w.heap.size,5,none⟩=some (.string ⟨List.toArray r⟩):=F.o.cell 5;have aa:D.cell? ⟨w.heap.size+1,5,none⟩=some (.string ⟨List.toArray r2⟩):=M.o.cell 5;have ae:D.cell? ⟨w.heap.size,6,none⟩=some (.string ⟨List.toArray n⟩):=F.o.cell 6;have ag:D.cell? ⟨w.heap.size+1,6,none⟩=some (.string ⟨List.toArray n2⟩):=M.o.cell 6;have ad:D.cell? ⟨w.heap.size,7,none⟩=some (.int .i64 u):=F.o.cell 7;have ah:D.cell? ⟨w.heap.size+1,7,none⟩=some (.int .i64 u2):=M.o.cell 7;have ab:D.cell? ⟨w.heap.size,8,none⟩=some (.int .i64 no):=F.o.cell 8;have af:D.cell? ⟨w.heap.size+1,8,none⟩=some (.int .i64 O):=M.o.cell 8)
    |(go_at_call 101;refine Calls.mono (T2.o _ X.o) ?_;rintro e4 al ⟨rfl,hw⟩;subst hw;clear T2))
   go_ret;exact⟨by rw[E.o];rfl,X.o⟩
  |true=>
   rw[e1] at T2;have an:=of_decide_eq_true e1;clear e1;subst an
   by_cases e2a:r=r2
   ·subst e2a
    by_cases e2b:n=n2
    ·subst e2b
     by_cases e3:u=u2
     ·subst e3
      have t3:(u==u)=true:=by simp
      by_cases e4:no=O
      ·subst e4
       have t4:(no==no)=true:=by simp
       have E:=I (show decide ((⟨t,a,(r,n),u,no⟩:Tg)=⟨t,a,(r,n),u,no⟩)=true from decide_eq_true rfl);go_enter Tryz.func185,Tryz.ntmps185
       go_wp2_with (first
        |(go_at_call 207;refine Calls.mono (Z.o _ X.o) ?_;rintro e3 D ⟨rfl,Y⟩;replace F:=I (F.o.below Y);replace M:=I (M.o.below Y);replace X:=X.t Y;clear Y Z;have ai:D.cell? ⟨w.heap.size,4,none⟩=some (.slice A2 a.length c2):=F.o.cell 4;have ak:D.cell? ⟨w.heap.size+1,4,none⟩=some (.slice D2 a.length d2):=M.o.cell 4;have aj:D.cell? ⟨w.heap.size,5,none⟩=some (.string ⟨List.toArray r⟩):=F.o.cell 5;have aa:D.cell? ⟨w.heap.size+1,5,none⟩=some (.string ⟨List.toArray r⟩):=M.o.cell 5;have ae:D.cell? ⟨w.heap.size,6,none⟩=some (.string ⟨List.toArray n⟩):=F.o.cell 6;have ag:D.cell? ⟨w.heap.size+1,6,none⟩=some (.string ⟨List.toArray n⟩):=M.o.cell 6;have ad:D.cell? ⟨w.heap.size,7,none⟩=some (.int .i64 u):=F.o.cell 7;have ah:D.cell? ⟨w.heap.size+1,7,none⟩=some (.int .i64 u):=M.o.cell 7;have ab:D.cell? ⟨w.heap.size,8,none⟩=some (.int .i64 no):=F.o.cell 8;have af:D.cell? ⟨w.heap.size+1,8,none⟩=some (.int .i64 no):=M.o.cell 8)
        |(go_at_call 101;refine Calls.mono (T2.o _ X.o) ?_;rintro e4 al ⟨rfl,hw⟩;subst hw;clear T2))
       go_ret;exact⟨by rw[E.o];rfl,X.o⟩
      ·have t4:(no==O)=false:=by simpa using e4
       have E:=I (show decide ((⟨t,a,(r,n),u,no⟩:Tg)=⟨t,a,(r,n),u,O⟩)=false from decide_eq_false (fun h=>e4 (congrArg Tg.no h)));go_enter Tryz.func185,Tryz.ntmps185
       go_wp2_with (first
        |(go_at_call 207;refine Calls.mono (Z.o _ X.o) ?_;rintro e3 D ⟨rfl,Y⟩;replace F:=I (F.o.below Y);replace M:=I (M.o.below Y);replace X:=X.t Y;clear Y Z;have ai:D.cell? ⟨w.heap.size,4,none⟩=some (.slice A2 a.length c2):=F.o.cell 4;have ak:D.cell? ⟨w.heap.size+1,4,none⟩=some (.slice D2 a.length d2):=M.o.cell 4;have aj:D.cell? ⟨w.heap.size,5,none⟩=some (.string ⟨List.toArray r⟩):=F.o.cell 5;have aa:D.cell? ⟨w.heap.size+1,5,none⟩=some (.string ⟨List.toArray r⟩):=M.o.cell 5;have ae:D.cell? ⟨w.heap.size,6,none⟩=some (.string ⟨List.toArray n⟩):=F.o.cell 6;have ag:D.cell? ⟨w.heap.size+1,6,none⟩=some (.string ⟨List.toArray n⟩):=M.o.cell 6;have ad:D.cell? ⟨w.heap.size,7,none⟩=some (.int .i64 u):=F.o.cell 7;have ah:D.cell? ⟨w.heap.size+1,7,none⟩=some (.int .i64 u):=M.o.cell 7;have ab:D.cell? ⟨w.heap.size,8,none⟩=some (.int .i64 no):=F.o.cell 8;have af:D.cell? ⟨w.heap.size+1,8,none⟩=some (.int .i64 O):=M.o.cell 8)
        |(go_at_call 101;refine Calls.mono (T2.o _ X.o) ?_;rintro e4 al ⟨rfl,hw⟩;subst hw;clear T2))
       go_ret;exact⟨by rw[E.o];rfl,X.o⟩
     ·have t3:(u==u2)=false:=by simpa using e3
      have E:=I (show decide ((⟨t,a,(r,n),u,no⟩:Tg)=⟨t,a,(r,n),u2,O⟩)=false from decide_eq_false (fun h=>e3 (congrArg Tg.u h)));go_enter Tryz.func185,Tryz.ntmps185
      go_wp2_with (first
       |(go_at_call 207;refine Calls.mono (Z.o _ X.o) ?_;rintro e3 D ⟨rfl,Y⟩;replace F:=I (F.o.below Y);replace M:=I (M.o.below Y);replace X:=X.t Y;clear Y Z;have ai:D.cell? ⟨w.heap.size,4,none⟩=some (.slice A2 a.length c2):=F.o.cell 4;have ak:D.cell? ⟨w.heap.size+1,4,none⟩=some (.slice D2 a.length d2):=M.o.cell 4;have aj:D.cell? ⟨w.heap.size,5,none⟩=some (.string ⟨List.toArray r⟩):=F.o.cell 5;have aa:D.cell? ⟨w.heap.size+1,5,none⟩=some (.string ⟨List.toArray r⟩):=M.o.cell 5;have ae:D.cell? ⟨w.heap.size,6,none⟩=some (.string ⟨List.toArray n⟩):=F.o.cell 6;have ag:D.cell? ⟨w.heap.size+1,6,none⟩=some (.string ⟨List.toArray n⟩):=M.o.cell 6;have ad:D.cell? ⟨w.heap.size,7,none⟩=some (.int .i64 u):=F.o.cell 7;have ah:D.cell? ⟨w.heap.size+1,7,none⟩=some (.int .i64 u2):=M.o.cell 7;have ab:D.cell? ⟨w.heap.size,8,none⟩=some (.int .i64 no):=F.o.cell 8;have af:D.cell? ⟨w.heap.size+1,8,none⟩=some (.int .i64 O):=M.o.cell 8)
       |(go_at_call 101;refine Calls.mono (T2.o _ X.o) ?_;rintro e4 al ⟨rfl,hw⟩;subst hw;clear T2))
      go_ret;exact⟨by rw[E.o];rfl,X.o⟩
    ·have E:=I (show decide ((⟨t,a,(r,n),u,no⟩:Tg)=⟨t,a,(r,n2),u2,O⟩)=false from decide_eq_false (fun h=>e2b (congrArg (fun t=>t.s.2) h)))
     go_enter Tryz.func185,Tryz.ntmps185
     go_wp2_with (first
      |(go_at_call 207;refine Calls.mono (Z.o _ X.o) ?_;rintro e3 D ⟨rfl,Y⟩;replace F:=I (F.o.below Y);replace M:=I (M.o.below Y);replace X:=X.t Y;clear Y Z;have ai:D.cell? ⟨w.heap.size,4,none⟩=some (.slice A2 a.length c2):=F.o.cell 4;have ak:D.cell? ⟨w.heap.size+1,4,none⟩=some (.slice D2 a.length d2):=M.o.cell 4;have aj:D.cell? ⟨w.heap.size,5,none⟩=some (.string ⟨List.toArray r⟩):=F.o.cell 5;have aa:D.cell? ⟨w.heap.size+1,5,none⟩=some (.string ⟨List.toArray r⟩):=M.o.cell 5;have ae:D.cell? ⟨w.heap.size,6,none⟩=some (.string ⟨List.toArray n⟩):=F.o.cell 6;have ag:D.cell? ⟨w.heap.size+1,6,none⟩=some (.string ⟨List.toArray n2⟩):=M.o.cell 6;have ad:D.cell? ⟨w.heap.size,7,none⟩=some (.int .i64 u):=F.o.cell 7;have ah:D.cell? ⟨w.heap.size+1,7,none⟩=some (.int .i64 u2):=M.o.cell 7;have ab:D.cell? ⟨w.heap.size,8,none⟩=some (.int .i64 no):=F.o.cell 8;have af:D.cell? ⟨w.heap.size+1,8,none⟩=some (.int .i64 O):=M.o.cell 8)
      |(go_at_call 101;refine Calls.mono (T2.o _ X.o) ?_;rintro e4 al ⟨rfl,hw⟩;subst hw;clear T2))
     go_ret;exact⟨by rw[E.o];rfl,X.o⟩
   ·have E:=I (show decide ((⟨t,a,(r,n),u,no⟩:Tg)=⟨t,a,(r2,n2),u2,O⟩)=false from decide_eq_false (fun h=>e2a (congrArg (fun t=>t.s.1) h)))
    go_enter Tryz.func185,Tryz.ntmps185
    go_wp2_with (first
     |(go_at_call 207;refine Calls.mono (Z.o _ X.o) ?_;rintro e3 D ⟨rfl,Y⟩;replace F:=I (F.o.below Y);replace M:=I (M.o.below Y);replace X:=X.t Y;clear Y Z;have ai:D.cell? ⟨w.heap.size,4,none⟩=some (.slice A2 a.length c2):=F.o.cell 4;have ak:D.cell? ⟨w.heap.size+1,4,none⟩=some (.slice D2 a.length d2):=M.o.cell 4;have aj:D.cell? ⟨w.heap.size,5,none⟩=some (.string ⟨List.toArray r⟩):=F.o.cell 5;have aa:D.cell? ⟨w.heap.size+1,5,none⟩=some (.string ⟨List.toArray r2⟩):=M.o.cell 5;have ae:D.cell? ⟨w.heap.size,6,none⟩=some (.string ⟨List.toArray n⟩):=F.o.cell 6;have ag:D.cell? ⟨w.heap.size+1,6,none⟩=some (.string ⟨List.toArray n2⟩):=M.o.cell 6;have ad:D.cell? ⟨w.heap.size,7,none⟩=some (.int .i64 u):=F.o.cell 7;have ah:D.cell? ⟨w.heap.size+1,7,none⟩=some (.int .i64 u2):=M.o.cell 7;have ab:D.cell? ⟨w.heap.size,8,none⟩=some (.int .i64 no):=F.o.cell 8;have af:D.cell? ⟨w.heap.size+1,8,none⟩=some (.int .i64 O):=M.o.cell 8)
     |(go_at_call 101;refine Calls.mono (T2.o _ X.o) ?_;rintro e4 al ⟨rfl,hw⟩;subst hw;clear T2))
    go_ret;exact⟨by rw[E.o];rfl,X.o⟩
theorem LQ (x y:Re) (A1 A2 D1 X:Option Addr) (c1 c2 d1 d2:Nat) (w:World) (h1:Rd w w.heap.size A1 (bvs x.t.b)) (g1:Rd w w.heap.size D1 (bvs y.t.b)) (h2:Rd w w.heap.size A2 (bvs x.b)) (g2:Rd w w.heap.size X (bvs y.b)) :
  Calls Tryz.prog 186 #[.agg #[.string ⟨x.c.1.toArray⟩,.string ⟨x.c.2.toArray⟩,.string ⟨x.t.s.1.toArray⟩,.string ⟨x.t.s.2.toArray⟩,.int .i64 x.t.k,.slice A1 x.t.b.length c1,.slice A2 x.b.length c2],.agg #[.string ⟨y.c.1.toArray⟩,.string ⟨y.c.2.toArray⟩,.string ⟨y.t.s.1.toArray⟩,.string ⟨y.t.s.2.toArray⟩,.int .i64 y.t.k,.slice D1 y.t.b.length d1,.slice X y.b.length d2]] w fun e w'=>e=.returned (.bool (decide (x=y)))/\Below w.heap.size w w':=by
 obtain⟨⟨r,n⟩,t,b⟩:=x;obtain⟨⟨r2,n2⟩,D,b2⟩:=y;simp only at h1 g1 h2 g2⊢;have F:=I (((Below.refl w.heap.size w).alloc Ae (.cells #[.string ⟨List.toArray r⟩,.string ⟨List.toArray n⟩,.string ⟨t.s.1.toArray⟩,.string ⟨t.s.2.toArray⟩,.int .i64 t.k,.slice A1 t.b.length c1,.slice A2 b.length c2] 57)).alloc (by simp) (.cells #[.string ⟨List.toArray r2⟩,.string ⟨List.toArray n2⟩,.string ⟨D.s.1.toArray⟩,.string ⟨D.s.2.toArray⟩,.int .i64 D.k,.slice D1 D.b.length d1,.slice X b2.length d2] 57));have Y:=I ((Blk.new w 57 #[.string ⟨List.toArray r⟩,.string ⟨List.toArray n⟩,.string ⟨t.s.1.toArray⟩,.string ⟨t.s.2.toArray⟩,.int .i64 t.k,.slice A1 t.b.length c1,.slice A2 b.length c2]).alloc (.cells #[.string ⟨List.toArray r2⟩,.string ⟨List.toArray n2⟩,.string ⟨D.s.1.toArray⟩,.string ⟨D.s.2.toArray⟩,.int .i64 D.k,.slice D1 D.b.length d1,.slice X b2.length d2] 57));have hy:=Blk.new (w.alloc (.cells #[.string ⟨List.toArray r⟩,.string ⟨List.toArray n⟩,.string ⟨t.s.1.toArray⟩,.string ⟨t.s.2.toArray⟩,.int .i64 t.k,.slice A1 t.b.length c1,.slice A2 b.length c2] 57)) 57 #[.string ⟨List.toArray r2⟩,.string ⟨List.toArray n2⟩,.string ⟨D.s.1.toArray⟩,.string ⟨D.s.2.toArray⟩,.int .i64 D.k,.slice D1 D.b.length d1,.slice X b2.length d2];rw[show(w.alloc (.cells #[.string ⟨List.toArray r⟩,.string ⟨List.toArray n⟩,.string ⟨t.s.1.toArray⟩,.string ⟨t.s.2.toArray⟩,.int .i64 t.k,.slice A1 t.b.length c1,.slice A2 b.length c2] 57)).heap.size=w.heap.size+1 by simp] at hy;have Z:=I hy;clear hy;have T1:=I (fun M (h:Below w.heap.size w M)=>GQ t D A1 D1 c1 d1 M ((h1.below h).more h.size) ((g1.below h).more h.size));have T2:=I (fun M (h:Below w.heap.size w M)=>GP b b2 A2 X c2 d2 w.heap.size M (h2.below h) (g2.below h));clear h1 g1 h2 g2
 by_cases e0a:r=r2
 ·subst e0a
  by_cases e0b:n=n2
  ·subst e0b
   cases e1:decide (t=D) with
   |false=>
    have E:=I (show decide ((⟨(r,n),t,b⟩:Re)=⟨(r,n),D,b2⟩)=false from decide_eq_false (fun h=>of_decide_eq_false e1 (congrArg Re.t h)));rw[e1] at T1;clear e1;go_enter Tryz.func186,Tryz.ntmps186
    go_wp2_with (go_at_call 207;refine Calls.mono (T1.o _ F.o) ?_;rintro e3 M ⟨rfl,O⟩;replace Y:=I (Y.o.below O);replace Z:=I (Z.o.below O);replace F:=F.t O;clear O T1;have aa:M.cell? ⟨w.heap.size,6,none⟩=some (.slice A2 b.length c2):=Y.o.cell 6;have ab:M.cell? ⟨w.heap.size+1,6,none⟩=some (.slice X b2.length d2):=Z.o.cell 6)
    go_ret;exact⟨by rw[E.o];rfl,F.o⟩
   |true=>
    rw[e1] at T1;have ae:=of_decide_eq_true e1;clear e1;subst ae;cases e2:decide (b=b2) with
    |false=>
     have E:=I (show decide ((⟨(r,n),t,b⟩:Re)=⟨(r,n),t,b2⟩)=false from decide_eq_false (fun h=>of_decide_eq_false e2 (congrArg Re.b h)));rw[e2] at T2;clear e2;go_enter Tryz.func186,Tryz.ntmps186
     go_wp2_with (first
      |(go_at_call 207;refine Calls.mono (T1.o _ F.o) ?_;rintro e3 M ⟨rfl,O⟩;replace Y:=I (Y.o.below O);replace Z:=I (Z.o.below O);replace F:=F.t O;clear O T1;have aa:M.cell? ⟨w.heap.size,6,none⟩=some (.slice A2 b.length c2):=Y.o.cell 6;have ab:M.cell? ⟨w.heap.size+1,6,none⟩=some (.slice X b2.length d2):=Z.o.cell 6)
      |(go_at_call 101;refine Calls.mono (T2.o _ F.o) ?_;rintro e4 af ⟨rfl,hw⟩;subst hw;clear T2))
     go_ret;exact⟨by rw[E.o];rfl,F.o⟩
    |true=>
     rw[e2] at T2;have ad:=of_decide_eq_true e2;clear e2;subst ad;have E:=I (show decide ((⟨(r,n),t,b⟩:Re)=⟨(r,n),t,b⟩)=true from decide_eq_true rfl);go_enter Tryz.func186,Tryz.ntmps186
     go_wp2_with (first
      |(go_at_call 207;refine Calls.mono (T1.o _ F.o) ?_;rintro e3 M ⟨rfl,O⟩;replace Y:=I (Y.o.below O);replace Z:=I (Z.o.below O);replace F:=F.t O;clear O T1;have aa:M.cell? ⟨w.heap.size,6,none⟩=some (.slice A2 b.length c2):=Y.o.cell 6;have ab:M.cell? ⟨w.heap.size+1,6,none⟩=some (.slice X b.length d2):=Z.o.cell 6)
      |(go_at_call 101;refine Calls.mono (T2.o _ F.o) ?_;rintro e4 af ⟨rfl,hw⟩;subst hw;clear T2))
     go_ret;exact⟨by rw[E.o];rfl,F.o⟩
  ·have E:=I (show decide ((⟨(r,n),t,b⟩:Re)=⟨(r,n2),D,b2⟩)=false from decide_eq_false (fun h=>e0b (congrArg (fun t=>t.c.2) h)))
   go_enter Tryz.func186,Tryz.ntmps186
   go_wp2
   go_ret;exact⟨by rw[E.o];rfl,F.o⟩
 ·have E:=I (show decide ((⟨(r,n),t,b⟩:Re)=⟨(r2,n2),D,b2⟩)=false from decide_eq_false (fun h=>e0a (congrArg (fun t=>t.c.1) h)))
  go_enter Tryz.func186,Tryz.ntmps186
  go_wp2
  go_ret;exact⟨by rw[E.o];rfl,F.o⟩
theorem LR (x y:Ap) (A1 A2 D1 X:Option Addr) (c1 c2 d1 d2:Nat) (w:World) (h1:Rd w w.heap.size A1 (bvs x.t.b)) (g1:Rd w w.heap.size D1 (bvs y.t.b)) (h2:Rd w w.heap.size A2 (bvs x.a)) (g2:Rd w w.heap.size X (bvs y.a)) :
  Calls Tryz.prog 187 #[.agg #[.string ⟨x.t.s.1.toArray⟩,.string ⟨x.t.s.2.toArray⟩,.int .i64 x.t.k,.slice A1 x.t.b.length c1,.slice A2 x.a.length c2],.agg #[.string ⟨y.t.s.1.toArray⟩,.string ⟨y.t.s.2.toArray⟩,.int .i64 y.t.k,.slice D1 y.t.b.length d1,.slice X y.a.length d2]] w fun e w'=>e=.returned (.bool (decide (x=y)))/\Below w.heap.size w w':=by
 obtain⟨t,a⟩:=x;obtain⟨D,Y⟩:=y;simp only at h1 g1 h2 g2⊢;have F:=I (((Below.refl w.heap.size w).alloc Ae (.cells #[.string ⟨t.s.1.toArray⟩,.string ⟨t.s.2.toArray⟩,.int .i64 t.k,.slice A1 t.b.length c1,.slice A2 a.length c2] 59)).alloc (by simp) (.cells #[.string ⟨D.s.1.toArray⟩,.string ⟨D.s.2.toArray⟩,.int .i64 D.k,.slice D1 D.b.length d1,.slice X Y.length d2] 59));have Z:=I ((Blk.new w 59 #[.string ⟨t.s.1.toArray⟩,.string ⟨t.s.2.toArray⟩,.int .i64 t.k,.slice A1 t.b.length c1,.slice A2 a.length c2]).alloc (.cells #[.string ⟨D.s.1.toArray⟩,.string ⟨D.s.2.toArray⟩,.int .i64 D.k,.slice D1 D.b.length d1,.slice X Y.length d2] 59));have hy:=Blk.new (w.alloc (.cells #[.string ⟨t.s.1.toArray⟩,.string ⟨t.s.2.toArray⟩,.int .i64 t.k,.slice A1 t.b.length c1,.slice A2 a.length c2] 59)) 59 #[.string ⟨D.s.1.toArray⟩,.string ⟨D.s.2.toArray⟩,.int .i64 D.k,.slice D1 D.b.length d1,.slice X Y.length d2];rw[show(w.alloc (.cells #[.string ⟨t.s.1.toArray⟩,.string ⟨t.s.2.toArray⟩,.int .i64 t.k,.slice A1 t.b.length c1,.slice A2 a.length c2] 59)).heap.size=w.heap.size+1 by simp] at hy;have HY:=I hy;clear hy;have T1:=I (fun M (h:Below w.heap.size w M)=>GQ t D A1 D1 c1 d1 M ((h1.below h).more h.size) ((g1.below h).more h.size));have T2:=I (fun M (h:Below w.heap.size w M)=>GP a Y A2 X c2 d2 w.heap.size M (h2.below h) (g2.below h));clear h1 g1 h2 g2;cases e0:decide (t=D) with
 |false=>
  have E:=I (show decide ((⟨t,a⟩:Ap)=⟨D,Y⟩)=false from decide_eq_false (fun h=>of_decide_eq_false e0 (congrArg Ap.t h)));rw[e0] at T1;clear e0;go_enter Tryz.func187,Tryz.ntmps187
  go_wp2_with (go_at_call 207;refine Calls.mono (T1.o _ F.o) ?_;rintro e3 M ⟨rfl,O⟩;replace Z:=I (Z.o.below O);replace HY:=I (HY.o.below O);replace F:=F.t O;clear O T1;have aa:M.cell? ⟨w.heap.size,4,none⟩=some (.slice A2 a.length c2):=Z.o.cell 4;have ab:M.cell? ⟨w.heap.size+1,4,none⟩=some (.slice X Y.length d2):=HY.o.cell 4)
  go_ret;exact⟨by rw[E.o];rfl,F.o⟩
 |true=>
  rw[e0] at T1;have ae:=of_decide_eq_true e0;clear e0;subst ae;cases e1:decide (a=Y) with
  |false=>
   have E:=I (show decide ((⟨t,a⟩:Ap)=⟨t,Y⟩)=false from decide_eq_false (fun h=>of_decide_eq_false e1 (congrArg Ap.a h)));rw[e1] at T2;clear e1;go_enter Tryz.func187,Tryz.ntmps187
   go_wp2_with (first
    |(go_at_call 207;refine Calls.mono (T1.o _ F.o) ?_;rintro e3 M ⟨rfl,O⟩;replace Z:=I (Z.o.below O);replace HY:=I (HY.o.below O);replace F:=F.t O;clear O T1;have aa:M.cell? ⟨w.heap.size,4,none⟩=some (.slice A2 a.length c2):=Z.o.cell 4;have ab:M.cell? ⟨w.heap.size+1,4,none⟩=some (.slice X Y.length d2):=HY.o.cell 4)
    |(go_at_call 101;refine Calls.mono (T2.o _ F.o) ?_;rintro e4 af ⟨rfl,hw⟩;subst hw;clear T2))
   go_ret;exact⟨by rw[E.o];rfl,F.o⟩
  |true=>
   rw[e1] at T2;have ad:=of_decide_eq_true e1;clear e1;subst ad;have E:=I (show decide ((⟨t,a⟩:Ap)=⟨t,a⟩)=true from decide_eq_true rfl);go_enter Tryz.func187,Tryz.ntmps187
   go_wp2_with (first
    |(go_at_call 207;refine Calls.mono (T1.o _ F.o) ?_;rintro e3 M ⟨rfl,O⟩;replace Z:=I (Z.o.below O);replace HY:=I (HY.o.below O);replace F:=F.t O;clear O T1;have aa:M.cell? ⟨w.heap.size,4,none⟩=some (.slice A2 a.length c2):=Z.o.cell 4;have ab:M.cell? ⟨w.heap.size+1,4,none⟩=some (.slice X a.length d2):=HY.o.cell 4)
    |(go_at_call 101;refine Calls.mono (T2.o _ F.o) ?_;rintro e4 af ⟨rfl,hw⟩;subst hw;clear T2))
   go_ret;exact⟨by rw[E.o];rfl,F.o⟩
open DerC
theorem Bp (w:World) (t:TypeId) (lit cs:Array Value) (hs:lit.size=cs.size):Blk ((w.alloc (.cells lit t)).setCells w.heap.size 0 cs.toList) w.heap.size t cs/\Below w.heap.size w ((w.alloc (.cells lit t)).setCells w.heap.size 0 cs.toList):=
 ⟨AE (Blk.new w t lit) hs,Al ((Below.refl w.heap.size w).alloc Ae _) (AJ _ _ _) (by simp) Ae⟩
theorem Gq {c:Option L} (h:(c.getD []).length<=100000):pSm (prQ c).1:=by
 have F:=(Cq 27 (Ar 48 c)).1;have D:=(Cq 27 (Ar 48 c)).2;have E:=(Cq 27 (AK 27 (Ar 48 c))).1;have M:=(Cq 48 c).1;exact⟨by show((Ar 27 (Ar 48 c)).getD []).length<=1000000000;omega,by show((Ar 27 (AK 27 (Ar 48 c))).getD []).length<=1000000000;omega⟩
def rpG (b:L):Rp:=(rpD b).getD rp0
def rpI (b:L):Int:=if (rpD b).isSome then 0 else 2
theorem QH (b:L):(rpG b).ss.length=32:=by
 unfold rpG;rw[QF]
 split
 ·exact JJ b
 ·rfl
theorem QI (A:Option Addr) (b:L) (c:Nat) (w:World) (hr:Rd w w.heap.size A (bvs b)):Calls Tryz.prog 116 #[.slice A b.length c,.func (.func 117) #[] #[],.func (.func 118) #[] #[]] w fun e w'=>e=.returned (.tuple #[.agg (rpC (rpG b)).toArray,.int .i64 (rpI b)])/\Below w.heap.size w w':=by
 obtain⟨E,X⟩:∃z:Array Value,z=#[.int .u8 0,.int .u8 0,.int .u8 0,.int .u8 0,.int .u8 0,.int .u8 0,.int .u8 0,.int .u8 0,.int .u8 0,.int .u8 0,.int .u8 0,.int .u8 0,.int .u8 0,.int .u8 0,.int .u8 0,.int .u8 0,.int .u8 0,.int .u8 0,.int .u8 0,.int .u8 0,.int .u8 0,.int .u8 0,.int .u8 0,.int .u8 0,.int .u8 0,.int .u8 0,.int .u8 0,.int .u8 0,.int .u8 0,.int .u8 0,.int .u8 0,.int .u8 0,.string ⟨#[]⟩,.string ⟨#[]⟩,.int .i64 0,.int .i64 0,.int .i64 0]:=⟨_,rfl⟩;have aa:(rpC rp0).toArray=E:=by rw[X];rfl
 have au:E.size=37:=by rw[X];simp
 have ax:E.all (·.oneCell')=true:=by rw[<-aa];exact JK _ _ _ _ _
 obtain⟨W,eW⟩:=Ah ((w.alloc (.cells E 110)).alloc (.cells E 110));have ay:W.heap.size=w.heap.size+1+1:=by rw[eW];simp
 have hq:=Blk.new (w.alloc (.cells E 110)) 110 E;rw[show(w.alloc (.cells E 110)).heap.size=w.heap.size+1 by simp,<-eW] at hq;have O:=I hq;clear hq;have M:=I (show Blk W w.heap.size 110 E by rw[eW];exact(Blk.new _ _ _).alloc _);have F:=I (show Below w.heap.size w W by rw[eW];exact(Af.alloc Ae _).alloc (by simp) _);have af:=I (fun w1 (h:Below w.heap.size w w1)=>(hr.below h).more h.size);have Z:=I (show(Tryz.prog.info? 110).map (·.size)=some E.size by rw[au];kernel_rfl);have an:=I ax;have aw:=I au;have ED:=I (QF b);have az:=I ay;clear ay ax au
 by_cases hl:b.length<=2000
 ·have t1:decide ((2000:Int)<(b.length:Int))=false:=decide_eq_false (by omega)
  have ao:b.length<=100000:=by omega
  have av:=FD 122 (show((some b:Option L).getD []).length<=100000 from ao);have Y:pSm (rpQ b).1.s:=Gq (Cn 4 av);have T1:=I (fun w1 (h:Rd w1 w1.heap.size A (bvs b))=>(show Calls Tryz.prog 117 #[.slice A b.length c] w1 fun e w'=>e=.returned (.agg (rpC (rpQ b).1).toArray)/\Below w1.heap.size w1 w' from On A b c w1 h ao));have EN:=I (fun w1=>(show Calls Tryz.prog 118 #[.agg (rpC (rpQ b).1).toArray] w1 (EncR w1 (rpO (rpQ b).1)) from Og (rpQ b).1 w1 (JJ b) Y));have ah:(rpC (rpQ b).1).toArray.size=37:=by exact Fb (JJ b)
  have ak:(rpC (rpQ b).1).toArray.all (·.oneCell')=true:=JK _ _ _ _ _;have BE:=I (fun(l:L) (g c2:Nat) (w1:World) (h:Rd w1 w1.heap.size (some ⟨g,0,none⟩) (bvs l)) (D:Below w.heap.size w w1)=>GP l b (some ⟨g,0,none⟩) A c2 c w1.heap.size w1 h (af.o w1 D));obtain⟨cs,ae⟩:=Ah ((rpC (rpQ b).1).toArray);rw[<-ae] at T1 EN ah ak;have ab:=I (show(Tryz.prog.info? 110).map (·.size)=some cs.size by rw[ah];kernel_rfl);have ai:=I ak;have ad:=I ah;clear ah ak hl ao hr Y av;cases ho:rpO (rpQ b).1 with
  |none=>
   rw[ho] at EN;have hD:rpD b=none:=by rw[ED.o,ho];rfl
   have GE:=I (show(rpC (rpG b)).toArray=E by rw[rpG,hD];exact aa);have IE:=I (show rpI b=2 by rw[rpI,hD];rfl);clear ED ho hD ae aa BE;go_enter Tryz.func116,Tryz.ntmps116
   go_upto_region 2 with fail
   rw[<-X,<-eW];clear X eW
   go_wp2_with (first
    |(refine Ac (by rfl) 110 (.tmp 8) (by rfl) (w.heap.size+1) 0 (by rfl) E _ (Ab O.o) Tryz.underlying110 (by rfl) Z.o ?_)
    |(refine wpList_store_mid (by rfl) 110 (.tmp 6) (.tmp 33) (by rfl) w.heap.size 0 E (by rfl) (by rfl) (Ak M.o _ Ae) Z.o an.o ?_)
    |(go_at_call 117;refine Ag (T1.o _ (af.o _ F.o)) ?_;rintro w4 D;clear T1;replace O:=I (O.o.below D);replace M:=I (M.o.below D);replace F:=F.t D;clear D)
    |(refine wpList_store_mid (by rfl) 110 (.tmp 9) (.tmp 18) (by rfl) w4.heap.size 0 cs (by rfl) (by rfl) (Ak (Blk.new w4 110 #[.int .u8 0,.int .u8 0,.int .u8 0,.int .u8 0,.int .u8 0,.int .u8 0,.int .u8 0,.int .u8 0,.int .u8 0,.int .u8 0,.int .u8 0,.int .u8 0,.int .u8 0,.int .u8 0,.int .u8 0,.int .u8 0,.int .u8 0,.int .u8 0,.int .u8 0,.int .u8 0,.int .u8 0,.int .u8 0,.int .u8 0,.int .u8 0,.int .u8 0,.int .u8 0,.int .u8 0,.int .u8 0,.int .u8 0,.int .u8 0,.int .u8 0,.int .u8 0,.string ⟨#[]⟩,.string ⟨#[]⟩,.int .i64 0,.int .i64 0,.int .i64 0]) _ (by have:=ad.o;simp;omega)) ab.o ai.o ?_;have hV:=Bp w4 110 #[.int .u8 0,.int .u8 0,.int .u8 0,.int .u8 0,.int .u8 0,.int .u8 0,.int .u8 0,.int .u8 0,.int .u8 0,.int .u8 0,.int .u8 0,.int .u8 0,.int .u8 0,.int .u8 0,.int .u8 0,.int .u8 0,.int .u8 0,.int .u8 0,.int .u8 0,.int .u8 0,.int .u8 0,.int .u8 0,.int .u8 0,.int .u8 0,.int .u8 0,.int .u8 0,.int .u8 0,.int .u8 0,.int .u8 0,.int .u8 0,.int .u8 0,.int .u8 0,.string ⟨#[]⟩,.string ⟨#[]⟩,.int .i64 0,.int .i64 0,.int .i64 0] cs (by have:=ad.o;simp;omega);generalize ((w4.alloc (.cells #[.int .u8 0,.int .u8 0,.int .u8 0,.int .u8 0,.int .u8 0,.int .u8 0,.int .u8 0,.int .u8 0,.int .u8 0,.int .u8 0,.int .u8 0,.int .u8 0,.int .u8 0,.int .u8 0,.int .u8 0,.int .u8 0,.int .u8 0,.int .u8 0,.int .u8 0,.int .u8 0,.int .u8 0,.int .u8 0,.int .u8 0,.int .u8 0,.int .u8 0,.int .u8 0,.int .u8 0,.int .u8 0,.int .u8 0,.int .u8 0,.int .u8 0,.int .u8 0,.string ⟨#[]⟩,.string ⟨#[]⟩,.int .i64 0,.int .i64 0,.int .i64 0] 110)).setCells w4.heap.size 0 cs.toList)=V at hV⊢;have HX:=I hV.1;replace O:=I (O.o.below hV.2);replace M:=I (M.o.below hV.2);replace F:=I (F.o.trans (hV.2.mono F.o.size));clear hV)
    |(refine Ac (by rfl) 110 (.tmp 9) (by rfl) w4.heap.size 0 (by rfl) cs _ (Ab HX.o) Tryz.underlying110 (by rfl) ab.o ?_)
    |(go_at_call 118;refine Calls.mono (EN.o _) ?_;rintro e we ⟨⟨v,i,rfl,hn,Y⟩,D⟩;obtain⟨rfl,rfl⟩:=hn rfl;clear EN;replace HX:=I (HX.o.below D);replace O:=I (O.o.below D);replace M:=I (M.o.below D);replace F:=F.t D;clear D hn Y)
    |fail)
   have hE:=AE (ds:=E) M.o (by rfl);have hp:=AJ we w.heap.size E.toList;have hq:=Am (P:=Tryz.prog) hE Tryz.underlying110 rfl Z.o;refine bodyPost_ret (v:=.tuple #[.agg E,.int .i64 2]) ?_ ?_ ?_
   ·exact AD (v:=.agg E) 6 7 110 ⟨w.heap.size,0,none⟩ Tryz.results116 rfl hq rfl
   ·rfl
   exact⟨by rw[GE.o,IE.o],Al F.o hp (by have:=M.o.lt;omega) Ae⟩
  |some l=>
   rw[ho] at EN
   by_cases hlb:l=b
   ·have BF:=I (decide_eq_true hlb)
    have hD:rpD b=some (rpQ b).1:=by rw[ED.o,ho,if_pos (by rw[hlb])]
    have GE:=I (show(rpC (rpG b)).toArray=cs by rw[rpG,hD];exact ae.symm);have IE:=I (show rpI b=0 by rw[rpI,hD];rfl);clear ED ho hlb hD ae aa;go_enter Tryz.func116,Tryz.ntmps116
    go_upto_region 2 with fail
    rw[<-X,<-eW];clear X eW
    go_wp2_with (first
     |(refine Ac (by rfl) 110 (.tmp 8) (by rfl) (w.heap.size+1) 0 (by rfl) E _ (Ab O.o) Tryz.underlying110 (by rfl) Z.o ?_)
     |(refine wpList_store_mid (by rfl) 110 (.tmp 6) (.tmp 34) (by rfl) w.heap.size 0 cs (by rfl) (by rfl) (Ak M.o _ (by have:=aw.o;have:=ad.o;omega)) ab.o ai.o ?_)
     |(go_at_call 117;refine Ag (T1.o _ (af.o _ F.o)) ?_;rintro w4 D;clear T1;replace O:=I (O.o.below D);replace M:=I (M.o.below D);replace F:=F.t D;clear D)
     |(refine wpList_store_mid (by rfl) 110 (.tmp 9) (.tmp 18) (by rfl) w4.heap.size 0 cs (by rfl) (by rfl) (Ak (Blk.new w4 110 #[.int .u8 0,.int .u8 0,.int .u8 0,.int .u8 0,.int .u8 0,.int .u8 0,.int .u8 0,.int .u8 0,.int .u8 0,.int .u8 0,.int .u8 0,.int .u8 0,.int .u8 0,.int .u8 0,.int .u8 0,.int .u8 0,.int .u8 0,.int .u8 0,.int .u8 0,.int .u8 0,.int .u8 0,.int .u8 0,.int .u8 0,.int .u8 0,.int .u8 0,.int .u8 0,.int .u8 0,.int .u8 0,.int .u8 0,.int .u8 0,.int .u8 0,.int .u8 0,.string ⟨#[]⟩,.string ⟨#[]⟩,.int .i64 0,.int .i64 0,.int .i64 0]) _ (by have:=ad.o;simp;omega)) ab.o ai.o ?_;have hV:=Bp w4 110 #[.int .u8 0,.int .u8 0,.int .u8 0,.int .u8 0,.int .u8 0,.int .u8 0,.int .u8 0,.int .u8 0,.int .u8 0,.int .u8 0,.int .u8 0,.int .u8 0,.int .u8 0,.int .u8 0,.int .u8 0,.int .u8 0,.int .u8 0,.int .u8 0,.int .u8 0,.int .u8 0,.int .u8 0,.int .u8 0,.int .u8 0,.int .u8 0,.int .u8 0,.int .u8 0,.int .u8 0,.int .u8 0,.int .u8 0,.int .u8 0,.int .u8 0,.int .u8 0,.string ⟨#[]⟩,.string ⟨#[]⟩,.int .i64 0,.int .i64 0,.int .i64 0] cs (by have:=ad.o;simp;omega);generalize ((w4.alloc (.cells #[.int .u8 0,.int .u8 0,.int .u8 0,.int .u8 0,.int .u8 0,.int .u8 0,.int .u8 0,.int .u8 0,.int .u8 0,.int .u8 0,.int .u8 0,.int .u8 0,.int .u8 0,.int .u8 0,.int .u8 0,.int .u8 0,.int .u8 0,.int .u8 0,.int .u8 0,.int .u8 0,.int .u8 0,.int .u8 0,.int .u8 0,.int .u8 0,.int .u8 0,.int .u8 0,.int .u8 0,.int .u8 0,.int .u8 0,.int .u8 0,.int .u8 0,.int .u8 0,.string ⟨#[]⟩,.string ⟨#[]⟩,.int .i64 0,.int .i64 0,.int .i64 0] 110)).setCells w4.heap.size 0 cs.toList)=V at hV⊢;have HX:=I hV.1;replace O:=I (O.o.below hV.2);replace M:=I (M.o.below hV.2);replace F:=I (F.o.trans (hV.2.mono F.o.size));clear hV)
     |(refine Ac (by rfl) 110 (.tmp 9) (by rfl) w4.heap.size 0 (by rfl) cs _ (Ab HX.o) Tryz.underlying110 (by rfl) ab.o ?_)
     |(go_at_call 118;refine Calls.mono (EN.o _) ?_;rintro e we ⟨⟨v,i,rfl,hn,Y⟩,D⟩;obtain⟨rfl,gx,cx,rfl,al,ar,ag⟩:=Y l rfl;have aj:=I ag;clear al ar ag;clear EN;replace HX:=I (HX.o.below D);replace O:=I (O.o.below D);replace M:=I (M.o.below D);replace F:=F.t D;clear D hn Y)
     |(go_at_call 101;refine Calls.mono (BE.o l gx cx _ aj.o F.o) ?_;rw[BF.o];rintro e wb ⟨rfl,hw⟩;subst hw;clear BE)
     |fail)
    have hE:=AE (ds:=cs) M.o (by have:=aw.o;have:=ad.o;omega);have hp:=AJ we w.heap.size cs.toList;have hq:=Am (P:=Tryz.prog) hE Tryz.underlying110 rfl ab.o;refine bodyPost_ret (v:=.tuple #[.agg cs,.int .i64 0]) ?_ ?_ ?_
    ·exact AD (v:=.agg cs) 6 7 110 ⟨w.heap.size,0,none⟩ Tryz.results116 rfl hq rfl
    ·rfl
    exact⟨by rw[GE.o,IE.o],Al F.o hp (by have:=M.o.lt;omega) Ae⟩
   ·have BF:=I (decide_eq_false hlb)
    have hD:rpD b=none:=by rw[ED.o,ho,if_neg (fun h=>hlb (Option.some.inj h))]
    have GE:=I (show(rpC (rpG b)).toArray=E by rw[rpG,hD];exact aa);have IE:=I (show rpI b=2 by rw[rpI,hD];rfl);clear ED ho hlb hD ae aa;go_enter Tryz.func116,Tryz.ntmps116
    go_upto_region 2 with fail
    rw[<-X,<-eW];clear X eW
    go_wp2_with (first
     |(refine Ac (by rfl) 110 (.tmp 8) (by rfl) (w.heap.size+1) 0 (by rfl) E _ (Ab O.o) Tryz.underlying110 (by rfl) Z.o ?_)
     |(refine wpList_store_mid (by rfl) 110 (.tmp 6) (.tmp 33) (by rfl) w.heap.size 0 E (by rfl) (by rfl) (Ak M.o _ Ae) Z.o an.o ?_)
     |(go_at_call 117;refine Ag (T1.o _ (af.o _ F.o)) ?_;rintro w4 D;clear T1;replace O:=I (O.o.below D);replace M:=I (M.o.below D);replace F:=F.t D;clear D)
     |(refine wpList_store_mid (by rfl) 110 (.tmp 9) (.tmp 18) (by rfl) w4.heap.size 0 cs (by rfl) (by rfl) (Ak (Blk.new w4 110 #[.int .u8 0,.int .u8 0,.int .u8 0,.int .u8 0,.int .u8 0,.int .u8 0,.int .u8 0,.int .u8 0,.int .u8 0,.int .u8 0,.int .u8 0,.int .u8 0,.int .u8 0,.int .u8 0,.int .u8 0,.int .u8 0,.int .u8 0,.int .u8 0,.int .u8 0,.int .u8 0,.int .u8 0,.int .u8 0,.int .u8 0,.int .u8 0,.int .u8 0,.int .u8 0,.int .u8 0,.int .u8 0,.int .u8 0,.int .u8 0,.int .u8 0,.int .u8 0,.string ⟨#[]⟩,.string ⟨#[]⟩,.int .i64 0,.int .i64 0,.int .i64 0]) _ (by have:=ad.o;simp;omega)) ab.o ai.o ?_;have hV:=Bp w4 110 #[.int .u8 0,.int .u8 0,.int .u8 0,.int .u8 0,.int .u8 0,.int .u8 0,.int .u8 0,.int .u8 0,.int .u8 0,.int .u8 0,.int .u8 0,.int .u8 0,.int .u8 0,.int .u8 0,.int .u8 0,.int .u8 0,.int .u8 0,.int .u8 0,.int .u8 0,.int .u8 0,.int .u8 0,.int .u8 0,.int .u8 0,.int .u8 0,.int .u8 0,.int .u8 0,.int .u8 0,.int .u8 0,.int .u8 0,.int .u8 0,.int .u8 0,.int .u8 0,.string ⟨#[]⟩,.string ⟨#[]⟩,.int .i64 0,.int .i64 0,.int .i64 0] cs (by have:=ad.o;simp;omega);generalize ((w4.alloc (.cells #[.int .u8 0,.int .u8 0,.int .u8 0,.int .u8 0,.int .u8 0,.int .u8 0,.int .u8 0,.int .u8 0,.int .u8 0,.int .u8 0,.int .u8 0,.int .u8 0,.int .u8 0,.int .u8 0,.int .u8 0,.int .u8 0,.int .u8 0,.int .u8 0,.int .u8 0,.int .u8 0,.int .u8 0,.int .u8 0,.int .u8 0,.int .u8 0,.int .u8 0,.int .u8 0,.int .u8 0,.int .u8 0,.int .u8 0,.int .u8 0,.int .u8 0,.int .u8 0,.string ⟨#[]⟩,.string ⟨#[]⟩,.int .i64 0,.int .i64 0,.int .i64 0] 110)).setCells w4.heap.size 0 cs.toList)=V at hV⊢;have HX:=I hV.1;replace O:=I (O.o.below hV.2);replace M:=I (M.o.below hV.2);replace F:=I (F.o.trans (hV.2.mono F.o.size));clear hV)
     |(refine Ac (by rfl) 110 (.tmp 9) (by rfl) w4.heap.size 0 (by rfl) cs _ (Ab HX.o) Tryz.underlying110 (by rfl) ab.o ?_)
     |(go_at_call 118;refine Calls.mono (EN.o _) ?_;rintro e we ⟨⟨v,i,rfl,hn,Y⟩,D⟩;obtain⟨rfl,gx,cx,rfl,al,ar,ag⟩:=Y l rfl;have aj:=I ag;clear al ar ag;clear EN;replace HX:=I (HX.o.below D);replace O:=I (O.o.below D);replace M:=I (M.o.below D);replace F:=F.t D;clear D hn Y)
     |(go_at_call 101;refine Calls.mono (BE.o l gx cx _ aj.o F.o) ?_;rw[BF.o];rintro e wb ⟨rfl,hw⟩;subst hw;clear BE)
     |fail)
    have hE:=AE (ds:=E) M.o (by rfl);have hp:=AJ we w.heap.size E.toList;have hq:=Am (P:=Tryz.prog) hE Tryz.underlying110 rfl Z.o;refine bodyPost_ret (v:=.tuple #[.agg E,.int .i64 2]) ?_ ?_ ?_
    ·exact AD (v:=.agg E) 6 7 110 ⟨w.heap.size,0,none⟩ Tryz.results116 rfl hq rfl
    ·rfl
    exact⟨by rw[GE.o,IE.o],Al F.o hp (by have:=M.o.lt;omega) Ae⟩
 ·have t1:decide ((2000:Int)<(b.length:Int))=true:=decide_eq_true (by omega)
  have hD:rpD b=none:=by
   rw[ED.o,if_neg];intro h;have h2:=BA.1 h;exact hl (by rw[<-h2.2.2];exact h2.2.1)
  have GE:=I (show(rpC (rpG b)).toArray=E by rw[rpG,hD];exact aa);have IE:=I (show rpI b=2 by rw[rpI,hD];rfl);clear ED hD hl aa hr af;go_enter Tryz.func116,Tryz.ntmps116
  go_upto_region 2 with fail
  rw[<-X,<-eW];clear X eW
  go_wp2_with (first
   |(refine Ac (by rfl) 110 (.tmp 8) (by rfl) (w.heap.size+1) 0 (by rfl) E _ (Ab O.o) Tryz.underlying110 (by rfl) Z.o ?_)
   |(refine wpList_store_mid (by rfl) 110 (.tmp 6) (.tmp 15) (by rfl) w.heap.size 0 E (by rfl) (by rfl) (Ak M.o _ Ae) Z.o an.o ?_)
   |fail)
  have hE:=AE (ds:=E) M.o (by rfl);have hp:=AJ W w.heap.size E.toList;have hq:=Am (P:=Tryz.prog) hE Tryz.underlying110 rfl Z.o;refine bodyPost_ret (v:=.tuple #[.agg E,.int .i64 2]) ?_ ?_ ?_
  ·exact AD (v:=.agg E) 6 7 110 ⟨w.heap.size,0,none⟩ Tryz.results116 rfl hq rfl
  ·rfl
  exact⟨by rw[GE.o,IE.o],Al F.o hp (by have:=M.o.lt;omega) Ae⟩
theorem Oo (A:Option Addr) (b:L) (c:Nat) (w:World) (hr:Rd w w.heap.size A (bvs b)):Calls Tryz.prog 68 #[.slice A b.length c] w fun e w'=>e=.returned (.tuple #[.agg (rpC (rpG b)).toArray,.int .i64 (rpI b)])/\Below w.heap.size w w':=by
 obtain⟨zz,F⟩:∃z:Array Value,z=#[.int .u8 0,.int .u8 0,.int .u8 0,.int .u8 0,.int .u8 0,.int .u8 0,.int .u8 0,.int .u8 0,.int .u8 0,.int .u8 0,.int .u8 0,.int .u8 0,.int .u8 0,.int .u8 0,.int .u8 0,.int .u8 0,.int .u8 0,.int .u8 0,.int .u8 0,.int .u8 0,.int .u8 0,.int .u8 0,.int .u8 0,.int .u8 0,.int .u8 0,.int .u8 0,.int .u8 0,.int .u8 0,.int .u8 0,.int .u8 0,.int .u8 0,.int .u8 0,.string ⟨#[]⟩,.string ⟨#[]⟩,.int .i64 0,.int .i64 0,.int .i64 0]:=⟨_,rfl⟩;have Z:zz.size=37:=by rw[F];simp
 have D:(rpC (rpG b)).toArray.size=37:=by exact Fb (QH b)
 have E:(rpC (rpG b)).toArray.all (·.oneCell')=true:=JK _ _ _ _ _;have c1:=QI A b c (w.alloc (.cells zz 110)) ((hr.alloc Ae _).more (by simp));obtain⟨cs,X⟩:=Ah ((rpC (rpG b)).toArray);rw[<-X] at D E c1⊢;have HI:=I (show(Tryz.prog.info? 110).map (·.size)=some cs.size by rw[D];kernel_rfl);have HO:=I E;have O:=I D;have M:=I Z;have Y:=I (Blk.new w 110 zz);have HG:=I ((Below.refl w.heap.size w).alloc Ae (.cells zz 110));clear D E Z X hr;go_enter Tryz.func68,Tryz.ntmps68
 go_upto_region 1 with fail
 rw[<-F];clear F
 go_wp2_with (first
  |(go_at_call 116;refine Ag c1 ?_;rintro w1 hb;clear c1;replace Y:=I (Y.o.below hb);replace HG:=HG.t hb;clear hb)
  |(refine wpList_store_mid (by rfl) 110 (.tmp 2) (.tmp 6) (by rfl) w.heap.size 0 cs (by rfl) (by rfl) (Ak Y.o _ (by have:=M.o;have:=O.o;omega)) HI.o HO.o ?_)
  |fail)
 have hE:=AE (ds:=cs) Y.o (by have:=M.o;have:=O.o;omega);have hp:=AJ w1 w.heap.size cs.toList;have hq:=Am (P:=Tryz.prog) hE Tryz.underlying110 rfl HI.o;refine bodyPost_ret (v:=.tuple #[.agg cs,.int .i64 (rpI b)]) ?_ ?_ ?_
 ·exact AD (v:=.agg cs) 2 3 110 ⟨w.heap.size,0,none⟩ Tryz.results68 rfl hq rfl
 ·rfl
 exact⟨rfl,Al HG.o hp (by have:=Y.o.lt;omega) Ae⟩
def zA:Array Value:=(asC as0).toArray
def zT:Array Value:=(tgC tg0 (.slice none 0 0) (.slice none 0 0)).toArray
def zR:Array Value:=(reC re0 (.slice none 0 0) (.slice none 0 0)).toArray
def zP:Array Value:=(apC ap0 (.slice none 0 0) (.slice none 0 0)).toArray
def zF:Array Value:=(faC fa0).toArray
theorem zA_v:AsV zA as0:=rfl
theorem zF_v:FaV zF fa0:=rfl
theorem zT_v (w:World) (B:Nat):TgV w B zT tg0:=⟨_,_,rfl,SlB.nil w B,SlB.nil w B⟩
theorem zR_v (w:World) (B:Nat):ReV w B zR re0:=⟨_,_,rfl,SlB.nil w B,SlB.nil w B⟩
theorem zP_v (w:World) (B:Nat):ApV w B zP ap0:=⟨_,_,rfl,SlB.nil w B,SlB.nil w B⟩
theorem zM_v (w:World) (B:Nat) (k:Int):MgP w B zA zT zR zP zF ⟨k,as0,tg0,re0,ap0,fa0⟩:=⟨zA_v,zT_v w B,zR_v w B,zP_v w B,zF_v⟩
def nm (m:Mg):Mg:=if m.k=1 then ⟨1,m.aq,tg0,re0,ap0,fa0⟩ else if m.k=2 then ⟨2,as0,m.tg,re0,ap0,fa0⟩ else if m.k=3 then ⟨3,as0,tg0,m.re,ap0,fa0⟩ else if m.k=4 then ⟨4,as0,tg0,re0,m.ap,fa0⟩ else if m.k=5 then ⟨5,as0,tg0,re0,ap0,m.fa⟩ else ⟨m.k,as0,tg0,re0,ap0,fa0⟩
theorem Tc (k:Int):Tryz.prog.built 63 [(0,.int .i64 k)]=some (mgA k zA zT zR zP zF):=by kernel_rfl
theorem QJ (cs:Array Value) (m:Mg) (w:World) (h:MgV w w.heap.size cs m):Calls Tryz.prog 153 #[.agg cs] w fun e w'=>∃ds,e=.returned (.agg ds)/\MgV w' w'.heap.size ds (nm m)/\Below w.heap.size w w':=by
 obtain⟨pa,pt,pr,pp,pf,hc,hp⟩:=h;obtain⟨zz,aa⟩:∃z:Array Value,z=#[.int .i64 0,.string ⟨#[]⟩,.string ⟨#[]⟩,.string ⟨#[]⟩,.string ⟨#[]⟩,.int .i64 0,.int .i64 0,.string ⟨#[]⟩,.string ⟨#[]⟩,.int .i64 0,.slice none 0 0,.slice none 0 0,.string ⟨#[]⟩,.string ⟨#[]⟩,.int .i64 0,.int .i64 0,.string ⟨#[]⟩,.string ⟨#[]⟩,.string ⟨#[]⟩,.string ⟨#[]⟩,.int .i64 0,.slice none 0 0,.slice none 0 0,.string ⟨#[]⟩,.string ⟨#[]⟩,.int .i64 0,.slice none 0 0,.slice none 0 0,.int .i64 0,.int .i64 0]:=⟨_,rfl⟩;have ai:zz=mgA 0 zA zT zR zP zF:=by rw[aa];rfl
 have aj:zz.size=30:=by rw[ai];exact(zM_v w 0 0).size 0
 have ab:=I aj;obtain⟨W,eW⟩:=Ah ((w.alloc (.cells cs 63)).alloc (.cells zz 63));have ak:W.heap.size=w.heap.size+1+1:=by rw[eW];simp
 have HK:=I (show Blk W w.heap.size 63 (mgA m.k pa pt pr pp pf) by rw[eW,<-hc];exact(Blk.new _ _ _).alloc _);have hq:=Blk.new (w.alloc (.cells cs 63)) 63 zz;rw[show(w.alloc (.cells cs 63)).heap.size=w.heap.size+1 by simp,<-eW] at hq;have Y:=I hq;clear hq;have F:=I (show Below w.heap.size w W by rw[eW];exact(Af.alloc Ae _).alloc (by simp) _);have Z:=I (hp.at_ HK.o);have k0:=Z.o.k;have O:=I hp;have ae:=I ak;have af:=I (Tc m.k);obtain⟨c0,ag⟩:∃c,c=mgA m.k zA zT zR zP zF:=⟨_,rfl⟩;have ah:c0.size=30:=by rw[ag];exact(zM_v w 0 m.k).size m.k
 have HO:=I (show c0.all (·.oneCell')=true by rw[ag];exact(zM_v w 0 m.k).one m.k);have HI:=I (show(Tryz.prog.info? 63).map (·.size)=some c0.size by rw[ah];exact AQ);have ad:=I ah;rw[<-ag] at af;have EC:=I ag;clear hc hp ak aj ah ag ai
 by_cases m1:m.k=1
 ·have y1:(m.k==1)=true:=by simpa using m1
  have y2:(m.k==2)=false:=by simp;omega
  have y3:(m.k==3)=false:=by simp;omega
  have y4:(m.k==4)=false:=by simp;omega
  have y5:(m.k==5)=false:=by simp;omega
  have EN:=I (show nm m=⟨m.k,m.aq,tg0,re0,ap0,fa0⟩ by rw[nm,if_pos m1,m1]);clear m1;have X:=I (show MgP w w.heap.size pa zT zR zP zF ⟨m.k,m.aq,tg0,re0,ap0,fa0⟩ from⟨O.o.a,zT_v w w.heap.size,zR_v w w.heap.size,zP_v w w.heap.size,zF_v⟩);have E:=I (show(Tryz.prog.info? 63).map (·.size)=some (mgA m.k pa zT zR zP zF).size by rw[X.o.size];exact AQ);go_enter Tryz.func153,Tryz.ntmps153
  go_upto_region 1 with fail
  rw[<-aa,<-eW];clear aa eW
  go_wp2_with (first
   |(refine Au (by rfl) 63 #[(0,.tmp 5)] (by rfl) c0 (by simp only[List.map_toArray,List.map_cons,List.map_nil];exact af.o) ?_)
   |(refine wpList_store_mid (by rfl) 63 (.tmp 3) (.tmp 6) (by rfl) W.heap.size 0 c0 (by rfl) (by rfl) (Ak (Blk.new W 63 #[.int .i64 0,.string ⟨#[]⟩,.string ⟨#[]⟩,.string ⟨#[]⟩,.string ⟨#[]⟩,.int .i64 0,.int .i64 0,.string ⟨#[]⟩,.string ⟨#[]⟩,.int .i64 0,.slice none 0 0,.slice none 0 0,.string ⟨#[]⟩,.string ⟨#[]⟩,.int .i64 0,.int .i64 0,.string ⟨#[]⟩,.string ⟨#[]⟩,.string ⟨#[]⟩,.string ⟨#[]⟩,.int .i64 0,.slice none 0 0,.slice none 0 0,.string ⟨#[]⟩,.string ⟨#[]⟩,.int .i64 0,.slice none 0 0,.slice none 0 0,.int .i64 0,.int .i64 0]) _ (by have:=ad.o;simp;omega)) HI.o HO.o ?_;have M:=Bp W 63 #[.int .i64 0,.string ⟨#[]⟩,.string ⟨#[]⟩,.string ⟨#[]⟩,.string ⟨#[]⟩,.int .i64 0,.int .i64 0,.string ⟨#[]⟩,.string ⟨#[]⟩,.int .i64 0,.slice none 0 0,.slice none 0 0,.string ⟨#[]⟩,.string ⟨#[]⟩,.int .i64 0,.int .i64 0,.string ⟨#[]⟩,.string ⟨#[]⟩,.string ⟨#[]⟩,.string ⟨#[]⟩,.int .i64 0,.slice none 0 0,.slice none 0 0,.string ⟨#[]⟩,.string ⟨#[]⟩,.int .i64 0,.slice none 0 0,.slice none 0 0,.int .i64 0,.int .i64 0] c0 (by have:=ad.o;simp;omega);generalize ((W.alloc (.cells #[.int .i64 0,.string ⟨#[]⟩,.string ⟨#[]⟩,.string ⟨#[]⟩,.string ⟨#[]⟩,.int .i64 0,.int .i64 0,.string ⟨#[]⟩,.string ⟨#[]⟩,.int .i64 0,.slice none 0 0,.slice none 0 0,.string ⟨#[]⟩,.string ⟨#[]⟩,.int .i64 0,.int .i64 0,.string ⟨#[]⟩,.string ⟨#[]⟩,.string ⟨#[]⟩,.string ⟨#[]⟩,.int .i64 0,.slice none 0 0,.slice none 0 0,.string ⟨#[]⟩,.string ⟨#[]⟩,.int .i64 0,.slice none 0 0,.slice none 0 0,.int .i64 0,.int .i64 0] 63)).setCells W.heap.size 0 c0.toList)=V at M⊢;have HX:=I (show Blk V W.heap.size 63 (mgA m.k zA zT zR zP zF) from EC.o▸M.1);replace HK:=I (HK.o.below M.2);replace Y:=I (Y.o.below M.2);replace F:=I (F.o.trans (M.2.mono F.o.size));clear M Z k0;have Z:=I (O.o.at_ HK.o);have k0:=Z.o.k)
   |(refine Ac (by rfl) 51 (.tmp 11) (by rfl) w.heap.size 1 (by rfl) pa _ Z.o.a Tryz.underlying51 (by rfl) (by rw[O.o.a.size];exact Ch) ?_)
   |(refine wpList_store_mid (by rfl) 51 (.tmp 13) (.tmp 12) (by rfl) W.heap.size 1 pa (by rfl) (by rfl) (BN HX.o 1 _ (by rw[(zM_v W 0 m.k).size m.k,O.o.a.size];omega)) (by rw[O.o.a.size];exact Ch) O.o.a.one ?_;have hX:=Iy (ps:=pa) (ds:=mgA m.k pa zT zR zP zF) (pre:=[.int .i64 m.k]) (mid:=zA.toList) (post:=zT.toList++zR.toList++zP.toList++zF.toList) (o:=1) HX.o (by simp [mgA]) (by rfl) (by rw[O.o.a.size];rfl) (by simp [mgA]);have D:=Du V W.heap.size 1 pa.toList;generalize V.setCells W.heap.size 1 pa.toList=V2 at hX D⊢;replace HX:=I hX;replace Y:=I (Y.o.grown D (by intro e;injection e with e;have:=ae.o;omega));replace F:=I (Al F.o D F.o.size (by have:=ae.o;omega));clear hX D Z HK k0)
   |(refine Ac (by rfl) 63 (.tmp 3) (by rfl) W.heap.size 0 (by rfl) (mgA m.k pa zT zR zP zF) _ (Ab HX.o) Tryz.underlying63 (by rfl) E.o ?_)
   |(refine wpList_store_mid (by rfl) 63 (.tmp 2) (.tmp 34) (by rfl) (w.heap.size+1) 0 (mgA m.k pa zT zR zP zF) (by rfl) (by rfl) (Ak Y.o _ (by rw[X.o.size];have:=ab.o;omega)) E.o (X.o.one _) ?_)
   |fail)
  have hE:=AE (ds:=mgA m.k pa zT zR zP zF) Y.o (by rw[X.o.size];have:=ab.o;omega);have hp:=AJ V2 (w.heap.size+1) (mgA m.k pa zT zR zP zF).toList;have hq:=Am (P:=Tryz.prog) hE Tryz.underlying63 rfl E.o;refine bodyPost_ret (v:=.agg (mgA m.k pa zT zR zP zF)) ?_ ?_ ?_
  ·exact Aj 2 63 ⟨w.heap.size+1,0,none⟩ Tryz.results153 rfl hq
  ·rfl
  have hB:=Al F.o hp F.o.size (by omega);refine⟨_,rfl,?_,hB⟩;rw[EN.o];exact⟨pa,zT,zR,zP,zF,rfl,(X.o.keep hB).more hB.size⟩
 ·have al:=m1
  by_cases m2:m.k=2
  ·have y1:(m.k==1)=false:=by simp;omega
   have y2:(m.k==2)=true:=by simpa using m2
   have y3:(m.k==3)=false:=by simp;omega
   have y4:(m.k==4)=false:=by simp;omega
   have y5:(m.k==5)=false:=by simp;omega
   have EN:=I (show nm m=⟨m.k,as0,m.tg,re0,ap0,fa0⟩ by rw[nm,if_neg m1,if_pos m2,m2]);clear m1 m2;have X:=I (show MgP w w.heap.size zA pt zR zP zF ⟨m.k,as0,m.tg,re0,ap0,fa0⟩ from⟨zA_v,O.o.t,zR_v w w.heap.size,zP_v w w.heap.size,zF_v⟩);have E:=I (show(Tryz.prog.info? 63).map (·.size)=some (mgA m.k zA pt zR zP zF).size by rw[X.o.size];exact AQ);go_enter Tryz.func153,Tryz.ntmps153
   go_upto_region 1 with fail
   rw[<-aa,<-eW];clear aa eW
   go_wp2_with (first
    |(refine Au (by rfl) 63 #[(0,.tmp 5)] (by rfl) c0 (by simp only[List.map_toArray,List.map_cons,List.map_nil];exact af.o) ?_)
    |(refine wpList_store_mid (by rfl) 63 (.tmp 3) (.tmp 6) (by rfl) W.heap.size 0 c0 (by rfl) (by rfl) (Ak (Blk.new W 63 #[.int .i64 0,.string ⟨#[]⟩,.string ⟨#[]⟩,.string ⟨#[]⟩,.string ⟨#[]⟩,.int .i64 0,.int .i64 0,.string ⟨#[]⟩,.string ⟨#[]⟩,.int .i64 0,.slice none 0 0,.slice none 0 0,.string ⟨#[]⟩,.string ⟨#[]⟩,.int .i64 0,.int .i64 0,.string ⟨#[]⟩,.string ⟨#[]⟩,.string ⟨#[]⟩,.string ⟨#[]⟩,.int .i64 0,.slice none 0 0,.slice none 0 0,.string ⟨#[]⟩,.string ⟨#[]⟩,.int .i64 0,.slice none 0 0,.slice none 0 0,.int .i64 0,.int .i64 0]) _ (by have:=ad.o;simp;omega)) HI.o HO.o ?_;have M:=Bp W 63 #[.int .i64 0,.string ⟨#[]⟩,.string ⟨#[]⟩,.string ⟨#[]⟩,.string ⟨#[]⟩,.int .i64 0,.int .i64 0,.string ⟨#[]⟩,.string ⟨#[]⟩,.int .i64 0,.slice none 0 0,.slice none 0 0,.string ⟨#[]⟩,.string ⟨#[]⟩,.int .i64 0,.int .i64 0,.string ⟨#[]⟩,.string ⟨#[]⟩,.string ⟨#[]⟩,.string ⟨#[]⟩,.int .i64 0,.slice none 0 0,.slice none 0 0,.string ⟨#[]⟩,.string ⟨#[]⟩,.int .i64 0,.slice none 0 0,.slice none 0 0,.int .i64 0,.int .i64 0] c0 (by have:=ad.o;simp;omega);generalize ((W.alloc (.cells #[.int .i64 0,.string ⟨#[]⟩,.string ⟨#[]⟩,.string ⟨#[]⟩,.string ⟨#[]⟩,.int .i64 0,.int .i64 0,.string ⟨#[]⟩,.string ⟨#[]⟩,.int .i64 0,.slice none 0 0,.slice none 0 0,.string ⟨#[]⟩,.string ⟨#[]⟩,.int .i64 0,.int .i64 0,.string ⟨#[]⟩,.string ⟨#[]⟩,.string ⟨#[]⟩,.string ⟨#[]⟩,.int .i64 0,.slice none 0 0,.slice none 0 0,.string ⟨#[]⟩,.string ⟨#[]⟩,.int .i64 0,.slice none 0 0,.slice none 0 0,.int .i64 0,.int .i64 0] 63)).setCells W.heap.size 0 c0.toList)=V at M⊢;have HX:=I (show Blk V W.heap.size 63 (mgA m.k zA zT zR zP zF) from EC.o▸M.1);replace HK:=I (HK.o.below M.2);replace Y:=I (Y.o.below M.2);replace F:=I (F.o.trans (M.2.mono F.o.size));clear M Z k0;have Z:=I (O.o.at_ HK.o);have k0:=Z.o.k)
    |(refine Ac (by rfl) 55 (.tmp 16) (by rfl) w.heap.size 7 (by rfl) pt _ Z.o.t Tryz.underlying55 (by rfl) (by rw[O.o.t.size];exact BG) ?_)
    |(refine wpList_store_mid (by rfl) 55 (.tmp 18) (.tmp 17) (by rfl) W.heap.size 7 pt (by rfl) (by rfl) (BN HX.o 7 _ (by rw[(zM_v W 0 m.k).size m.k,O.o.t.size];omega)) (by rw[O.o.t.size];exact BG) O.o.t.one ?_;have hX:=Iy (ps:=pt) (ds:=mgA m.k zA pt zR zP zF) (pre:=[.int .i64 m.k]++zA.toList) (mid:=zT.toList) (post:=zR.toList++zP.toList++zF.toList) (o:=7) HX.o (by simp [mgA]) (by rfl) (by rw[O.o.t.size];rfl) (by simp [mgA]);have D:=Du V W.heap.size 7 pt.toList;generalize V.setCells W.heap.size 7 pt.toList=V2 at hX D⊢;replace HX:=I hX;replace Y:=I (Y.o.grown D (by intro e;injection e with e;have:=ae.o;omega));replace F:=I (Al F.o D F.o.size (by have:=ae.o;omega));clear hX D Z HK k0)
    |(refine Ac (by rfl) 63 (.tmp 3) (by rfl) W.heap.size 0 (by rfl) (mgA m.k zA pt zR zP zF) _ (Ab HX.o) Tryz.underlying63 (by rfl) E.o ?_)
    |(refine wpList_store_mid (by rfl) 63 (.tmp 2) (.tmp 34) (by rfl) (w.heap.size+1) 0 (mgA m.k zA pt zR zP zF) (by rfl) (by rfl) (Ak Y.o _ (by rw[X.o.size];have:=ab.o;omega)) E.o (X.o.one _) ?_)
    |fail)
   have hE:=AE (ds:=mgA m.k zA pt zR zP zF) Y.o (by rw[X.o.size];have:=ab.o;omega);have hp:=AJ V2 (w.heap.size+1) (mgA m.k zA pt zR zP zF).toList;have hq:=Am (P:=Tryz.prog) hE Tryz.underlying63 rfl E.o;refine bodyPost_ret (v:=.agg (mgA m.k zA pt zR zP zF)) ?_ ?_ ?_
   ·exact Aj 2 63 ⟨w.heap.size+1,0,none⟩ Tryz.results153 rfl hq
   ·rfl
   have hB:=Al F.o hp F.o.size (by omega);refine⟨_,rfl,?_,hB⟩;rw[EN.o];exact⟨zA,pt,zR,zP,zF,rfl,(X.o.keep hB).more hB.size⟩
  ·have an:=m2
   by_cases m3:m.k=3
   ·have y1:(m.k==1)=false:=by simp;omega
    have y2:(m.k==2)=false:=by simp;omega
    have y3:(m.k==3)=true:=by simpa using m3
    have y4:(m.k==4)=false:=by simp;omega
    have y5:(m.k==5)=false:=by simp;omega
    have EN:=I (show nm m=⟨m.k,as0,tg0,m.re,ap0,fa0⟩ by rw[nm,if_neg m1,if_neg m2,if_pos m3,m3]);clear m1 m2 m3;have X:=I (show MgP w w.heap.size zA zT pr zP zF ⟨m.k,as0,tg0,m.re,ap0,fa0⟩ from⟨zA_v,zT_v w w.heap.size,O.o.r,zP_v w w.heap.size,zF_v⟩);have E:=I (show(Tryz.prog.info? 63).map (·.size)=some (mgA m.k zA zT pr zP zF).size by rw[X.o.size];exact AQ);go_enter Tryz.func153,Tryz.ntmps153
    go_upto_region 1 with fail
    rw[<-aa,<-eW];clear aa eW
    go_wp2_with (first
     |(refine Au (by rfl) 63 #[(0,.tmp 5)] (by rfl) c0 (by simp only[List.map_toArray,List.map_cons,List.map_nil];exact af.o) ?_)
     |(refine wpList_store_mid (by rfl) 63 (.tmp 3) (.tmp 6) (by rfl) W.heap.size 0 c0 (by rfl) (by rfl) (Ak (Blk.new W 63 #[.int .i64 0,.string ⟨#[]⟩,.string ⟨#[]⟩,.string ⟨#[]⟩,.string ⟨#[]⟩,.int .i64 0,.int .i64 0,.string ⟨#[]⟩,.string ⟨#[]⟩,.int .i64 0,.slice none 0 0,.slice none 0 0,.string ⟨#[]⟩,.string ⟨#[]⟩,.int .i64 0,.int .i64 0,.string ⟨#[]⟩,.string ⟨#[]⟩,.string ⟨#[]⟩,.string ⟨#[]⟩,.int .i64 0,.slice none 0 0,.slice none 0 0,.string ⟨#[]⟩,.string ⟨#[]⟩,.int .i64 0,.slice none 0 0,.slice none 0 0,.int .i64 0,.int .i64 0]) _ (by have:=ad.o;simp;omega)) HI.o HO.o ?_;have M:=Bp W 63 #[.int .i64 0,.string ⟨#[]⟩,.string ⟨#[]⟩,.string ⟨#[]⟩,.string ⟨#[]⟩,.int .i64 0,.int .i64 0,.string ⟨#[]⟩,.string ⟨#[]⟩,.int .i64 0,.slice none 0 0,.slice none 0 0,.string ⟨#[]⟩,.string ⟨#[]⟩,.int .i64 0,.int .i64 0,.string ⟨#[]⟩,.string ⟨#[]⟩,.string ⟨#[]⟩,.string ⟨#[]⟩,.int .i64 0,.slice none 0 0,.slice none 0 0,.string ⟨#[]⟩,.string ⟨#[]⟩,.int .i64 0,.slice none 0 0,.slice none 0 0,.int .i64 0,.int .i64 0] c0 (by have:=ad.o;simp;omega);generalize ((W.alloc (.cells #[.int .i64 0,.string ⟨#[]⟩,.string ⟨#[]⟩,.string ⟨#[]⟩,.string ⟨#[]⟩,.int .i64 0,.int .i64 0,.string ⟨#[]⟩,.string ⟨#[]⟩,.int .i64 0,.slice none 0 0,.slice none 0 0,.string ⟨#[]⟩,.string ⟨#[]⟩,.int .i64 0,.int .i64 0,.string ⟨#[]⟩,.string ⟨#[]⟩,.string ⟨#[]⟩,.string ⟨#[]⟩,.int .i64 0,.slice none 0 0,.slice none 0 0,.string ⟨#[]⟩,.string ⟨#[]⟩,.int .i64 0,.slice none 0 0,.slice none 0 0,.int .i64 0,.int .i64 0] 63)).setCells W.heap.size 0 c0.toList)=V at M⊢;have HX:=I (show Blk V W.heap.size 63 (mgA m.k zA zT zR zP zF) from EC.o▸M.1);replace HK:=I (HK.o.below M.2);replace Y:=I (Y.o.below M.2);replace F:=I (F.o.trans (M.2.mono F.o.size));clear M Z k0;have Z:=I (O.o.at_ HK.o);have k0:=Z.o.k)
     |(refine Ac (by rfl) 57 (.tmp 21) (by rfl) w.heap.size 16 (by rfl) pr _ Z.o.r Tryz.underlying57 (by rfl) (by rw[O.o.r.size];exact Dh) ?_)
     |(refine wpList_store_mid (by rfl) 57 (.tmp 23) (.tmp 22) (by rfl) W.heap.size 16 pr (by rfl) (by rfl) (BN HX.o 16 _ (by rw[(zM_v W 0 m.k).size m.k,O.o.r.size];omega)) (by rw[O.o.r.size];exact Dh) O.o.r.one ?_;have hX:=Iy (ps:=pr) (ds:=mgA m.k zA zT pr zP zF) (pre:=[.int .i64 m.k]++zA.toList++zT.toList) (mid:=zR.toList) (post:=zP.toList++zF.toList) (o:=16) HX.o (by simp [mgA]) (by rfl) (by rw[O.o.r.size];rfl) (by simp [mgA]);have D:=Du V W.heap.size 16 pr.toList;generalize V.setCells W.heap.size 16 pr.toList=V2 at hX D⊢;replace HX:=I hX;replace Y:=I (Y.o.grown D (by intro e;injection e with e;have:=ae.o;omega));replace F:=I (Al F.o D F.o.size (by have:=ae.o;omega));clear hX D Z HK k0)
     |(refine Ac (by rfl) 63 (.tmp 3) (by rfl) W.heap.size 0 (by rfl) (mgA m.k zA zT pr zP zF) _ (Ab HX.o) Tryz.underlying63 (by rfl) E.o ?_)
     |(refine wpList_store_mid (by rfl) 63 (.tmp 2) (.tmp 34) (by rfl) (w.heap.size+1) 0 (mgA m.k zA zT pr zP zF) (by rfl) (by rfl) (Ak Y.o _ (by rw[X.o.size];have:=ab.o;omega)) E.o (X.o.one _) ?_)
     |fail)
    have hE:=AE (ds:=mgA m.k zA zT pr zP zF) Y.o (by rw[X.o.size];have:=ab.o;omega);have hp:=AJ V2 (w.heap.size+1) (mgA m.k zA zT pr zP zF).toList;have hq:=Am (P:=Tryz.prog) hE Tryz.underlying63 rfl E.o;refine bodyPost_ret (v:=.agg (mgA m.k zA zT pr zP zF)) ?_ ?_ ?_
    ·exact Aj 2 63 ⟨w.heap.size+1,0,none⟩ Tryz.results153 rfl hq
    ·rfl
    have hB:=Al F.o hp F.o.size (by omega);refine⟨_,rfl,?_,hB⟩;rw[EN.o];exact⟨zA,zT,pr,zP,zF,rfl,(X.o.keep hB).more hB.size⟩
   ·have ao:=m3
    by_cases m4:m.k=4
    ·have y1:(m.k==1)=false:=by simp;omega
     have y2:(m.k==2)=false:=by simp;omega
     have y3:(m.k==3)=false:=by simp;omega
     have y4:(m.k==4)=true:=by simpa using m4
     have y5:(m.k==5)=false:=by simp;omega
     have EN:=I (show nm m=⟨m.k,as0,tg0,re0,m.ap,fa0⟩ by rw[nm,if_neg m1,if_neg m2,if_neg m3,if_pos m4,m4]);clear m1 m2 m3 m4;have X:=I (show MgP w w.heap.size zA zT zR pp zF ⟨m.k,as0,tg0,re0,m.ap,fa0⟩ from⟨zA_v,zT_v w w.heap.size,zR_v w w.heap.size,O.o.p,zF_v⟩);have E:=I (show(Tryz.prog.info? 63).map (·.size)=some (mgA m.k zA zT zR pp zF).size by rw[X.o.size];exact AQ);go_enter Tryz.func153,Tryz.ntmps153
     go_upto_region 1 with fail
     rw[<-aa,<-eW];clear aa eW
     go_wp2_with (first
      |(refine Au (by rfl) 63 #[(0,.tmp 5)] (by rfl) c0 (by simp only[List.map_toArray,List.map_cons,List.map_nil];exact af.o) ?_)
      |(refine wpList_store_mid (by rfl) 63 (.tmp 3) (.tmp 6) (by rfl) W.heap.size 0 c0 (by rfl) (by rfl) (Ak (Blk.new W 63 #[.int .i64 0,.string ⟨#[]⟩,.string ⟨#[]⟩,.string ⟨#[]⟩,.string ⟨#[]⟩,.int .i64 0,.int .i64 0,.string ⟨#[]⟩,.string ⟨#[]⟩,.int .i64 0,.slice none 0 0,.slice none 0 0,.string ⟨#[]⟩,.string ⟨#[]⟩,.int .i64 0,.int .i64 0,.string ⟨#[]⟩,.string ⟨#[]⟩,.string ⟨#[]⟩,.string ⟨#[]⟩,.int .i64 0,.slice none 0 0,.slice none 0 0,.string ⟨#[]⟩,.string ⟨#[]⟩,.int .i64 0,.slice none 0 0,.slice none 0 0,.int .i64 0,.int .i64 0]) _ (by have:=ad.o;simp;omega)) HI.o HO.o ?_;have M:=Bp W 63 #[.int .i64 0,.string ⟨#[]⟩,.string ⟨#[]⟩,.string ⟨#[]⟩,.string ⟨#[]⟩,.int .i64 0,.int .i64 0,.string ⟨#[]⟩,.string ⟨#[]⟩,.int .i64 0,.slice none 0 0,.slice none 0 0,.string ⟨#[]⟩,.string ⟨#[]⟩,.int .i64 0,.int .i64 0,.string ⟨#[]⟩,.string ⟨#[]⟩,.string ⟨#[]⟩,.string ⟨#[]⟩,.int .i64 0,.slice none 0 0,.slice none 0 0,.string ⟨#[]⟩,.string ⟨#[]⟩,.int .i64 0,.slice none 0 0,.slice none 0 0,.int .i64 0,.int .i64 0] c0 (by have:=ad.o;simp;omega);generalize ((W.alloc (.cells #[.int .i64 0,.string ⟨#[]⟩,.string ⟨#[]⟩,.string ⟨#[]⟩,.string ⟨#[]⟩,.int .i64 0,.int .i64 0,.string ⟨#[]⟩,.string ⟨#[]⟩,.int .i64 0,.slice none 0 0,.slice none 0 0,.string ⟨#[]⟩,.string ⟨#[]⟩,.int .i64 0,.int .i64 0,.string ⟨#[]⟩,.string ⟨#[]⟩,.string ⟨#[]⟩,.string ⟨#[]⟩,.int .i64 0,.slice none 0 0,.slice none 0 0,.string ⟨#[]⟩,.string ⟨#[]⟩,.int .i64 0,.slice none 0 0,.slice none 0 0,.int .i64 0,.int .i64 0] 63)).setCells W.heap.size 0 c0.toList)=V at M⊢;have HX:=I (show Blk V W.heap.size 63 (mgA m.k zA zT zR zP zF) from EC.o▸M.1);replace HK:=I (HK.o.below M.2);replace Y:=I (Y.o.below M.2);replace F:=I (F.o.trans (M.2.mono F.o.size));clear M Z k0;have Z:=I (O.o.at_ HK.o);have k0:=Z.o.k)
      |(refine Ac (by rfl) 59 (.tmp 26) (by rfl) w.heap.size 23 (by rfl) pp _ Z.o.p Tryz.underlying59 (by rfl) (by rw[O.o.p.size];exact DE) ?_)
      |(refine wpList_store_mid (by rfl) 59 (.tmp 28) (.tmp 27) (by rfl) W.heap.size 23 pp (by rfl) (by rfl) (BN HX.o 23 _ (by rw[(zM_v W 0 m.k).size m.k,O.o.p.size];omega)) (by rw[O.o.p.size];exact DE) O.o.p.one ?_;have hX:=Iy (ps:=pp) (ds:=mgA m.k zA zT zR pp zF) (pre:=[.int .i64 m.k]++zA.toList++zT.toList++zR.toList) (mid:=zP.toList) (post:=zF.toList) (o:=23) HX.o (by simp [mgA]) (by rfl) (by rw[O.o.p.size];rfl) (by simp [mgA]);have D:=Du V W.heap.size 23 pp.toList;generalize V.setCells W.heap.size 23 pp.toList=V2 at hX D⊢;replace HX:=I hX;replace Y:=I (Y.o.grown D (by intro e;injection e with e;have:=ae.o;omega));replace F:=I (Al F.o D F.o.size (by have:=ae.o;omega));clear hX D Z HK k0)
      |(refine Ac (by rfl) 63 (.tmp 3) (by rfl) W.heap.size 0 (by rfl) (mgA m.k zA zT zR pp zF) _ (Ab HX.o) Tryz.underlying63 (by rfl) E.o ?_)
      |(refine wpList_store_mid (by rfl) 63 (.tmp 2) (.tmp 34) (by rfl) (w.heap.size+1) 0 (mgA m.k zA zT zR pp zF) (by rfl) (by rfl) (Ak Y.o _ (by rw[X.o.size];have:=ab.o;omega)) E.o (X.o.one _) ?_)
      |fail)
     have hE:=AE (ds:=mgA m.k zA zT zR pp zF) Y.o (by rw[X.o.size];have:=ab.o;omega);have hp:=AJ V2 (w.heap.size+1) (mgA m.k zA zT zR pp zF).toList;have hq:=Am (P:=Tryz.prog) hE Tryz.underlying63 rfl E.o;refine bodyPost_ret (v:=.agg (mgA m.k zA zT zR pp zF)) ?_ ?_ ?_
     ·exact Aj 2 63 ⟨w.heap.size+1,0,none⟩ Tryz.results153 rfl hq
     ·rfl
     have hB:=Al F.o hp F.o.size (by omega);refine⟨_,rfl,?_,hB⟩;rw[EN.o];exact⟨zA,zT,zR,pp,zF,rfl,(X.o.keep hB).more hB.size⟩
    ·have ar:=m4
     by_cases m5:m.k=5
     ·have y1:(m.k==1)=false:=by simp;omega
      have y2:(m.k==2)=false:=by simp;omega
      have y3:(m.k==3)=false:=by simp;omega
      have y4:(m.k==4)=false:=by simp;omega
      have y5:(m.k==5)=true:=by simpa using m5
      have EN:=I (show nm m=⟨m.k,as0,tg0,re0,ap0,m.fa⟩ by rw[nm,if_neg m1,if_neg m2,if_neg m3,if_neg m4,if_pos m5,m5]);clear m1 m2 m3 m4 m5;have X:=I (show MgP w w.heap.size zA zT zR zP pf ⟨m.k,as0,tg0,re0,ap0,m.fa⟩ from⟨zA_v,zT_v w w.heap.size,zR_v w w.heap.size,zP_v w w.heap.size,O.o.f⟩);have E:=I (show(Tryz.prog.info? 63).map (·.size)=some (mgA m.k zA zT zR zP pf).size by rw[X.o.size];exact AQ);go_enter Tryz.func153,Tryz.ntmps153
      go_upto_region 1 with fail
      rw[<-aa,<-eW];clear aa eW
      go_wp2_with (first
       |(refine Au (by rfl) 63 #[(0,.tmp 5)] (by rfl) c0 (by simp only[List.map_toArray,List.map_cons,List.map_nil];exact af.o) ?_)
       |(refine wpList_store_mid (by rfl) 63 (.tmp 3) (.tmp 6) (by rfl) W.heap.size 0 c0 (by rfl) (by rfl) (Ak (Blk.new W 63 #[.int .i64 0,.string ⟨#[]⟩,.string ⟨#[]⟩,.string ⟨#[]⟩,.string ⟨#[]⟩,.int .i64 0,.int .i64 0,.string ⟨#[]⟩,.string ⟨#[]⟩,.int .i64 0,.slice none 0 0,.slice none 0 0,.string ⟨#[]⟩,.string ⟨#[]⟩,.int .i64 0,.int .i64 0,.string ⟨#[]⟩,.string ⟨#[]⟩,.string ⟨#[]⟩,.string ⟨#[]⟩,.int .i64 0,.slice none 0 0,.slice none 0 0,.string ⟨#[]⟩,.string ⟨#[]⟩,.int .i64 0,.slice none 0 0,.slice none 0 0,.int .i64 0,.int .i64 0]) _ (by have:=ad.o;simp;omega)) HI.o HO.o ?_;have M:=Bp W 63 #[.int .i64 0,.string ⟨#[]⟩,.string ⟨#[]⟩,.string ⟨#[]⟩,.string ⟨#[]⟩,.int .i64 0,.int .i64 0,.string ⟨#[]⟩,.string ⟨#[]⟩,.int .i64 0,.slice none 0 0,.slice none 0 0,.string ⟨#[]⟩,.string ⟨#[]⟩,.int .i64 0,.int .i64 0,.string ⟨#[]⟩,.string ⟨#[]⟩,.string ⟨#[]⟩,.string ⟨#[]⟩,.int .i64 0,.slice none 0 0,.slice none 0 0,.string ⟨#[]⟩,.string ⟨#[]⟩,.int .i64 0,.slice none 0 0,.slice none 0 0,.int .i64 0,.int .i64 0] c0 (by have:=ad.o;simp;omega);generalize ((W.alloc (.cells #[.int .i64 0,.string ⟨#[]⟩,.string ⟨#[]⟩,.string ⟨#[]⟩,.string ⟨#[]⟩,.int .i64 0,.int .i64 0,.string ⟨#[]⟩,.string ⟨#[]⟩,.int .i64 0,.slice none 0 0,.slice none 0 0,.string ⟨#[]⟩,.string ⟨#[]⟩,.int .i64 0,.int .i64 0,.string ⟨#[]⟩,.string ⟨#[]⟩,.string ⟨#[]⟩,.string ⟨#[]⟩,.int .i64 0,.slice none 0 0,.slice none 0 0,.string ⟨#[]⟩,.string ⟨#[]⟩,.int .i64 0,.slice none 0 0,.slice none 0 0,.int .i64 0,.int .i64 0] 63)).setCells W.heap.size 0 c0.toList)=V at M⊢;have HX:=I (show Blk V W.heap.size 63 (mgA m.k zA zT zR zP zF) from EC.o▸M.1);replace HK:=I (HK.o.below M.2);replace Y:=I (Y.o.below M.2);replace F:=I (F.o.trans (M.2.mono F.o.size));clear M Z k0;have Z:=I (O.o.at_ HK.o);have k0:=Z.o.k)
       |(refine Ac (by rfl) 61 (.tmp 31) (by rfl) w.heap.size 28 (by rfl) pf _ Z.o.f Tryz.underlying61 (by rfl) (by rw[O.o.f.size];exact Ff) ?_)
       |(refine wpList_store_mid (by rfl) 61 (.tmp 33) (.tmp 32) (by rfl) W.heap.size 28 pf (by rfl) (by rfl) (BN HX.o 28 _ (by rw[(zM_v W 0 m.k).size m.k,O.o.f.size];omega)) (by rw[O.o.f.size];exact Ff) O.o.f.one ?_;have hX:=Iy (ps:=pf) (ds:=mgA m.k zA zT zR zP pf) (pre:=[.int .i64 m.k]++zA.toList++zT.toList++zR.toList++zP.toList) (mid:=zF.toList) (post:=[]) (o:=28) HX.o (by simp [mgA]) (by rfl) (by rw[O.o.f.size];rfl) (by simp [mgA]);have D:=Du V W.heap.size 28 pf.toList;generalize V.setCells W.heap.size 28 pf.toList=V2 at hX D⊢;replace HX:=I hX;replace Y:=I (Y.o.grown D (by intro e;injection e with e;have:=ae.o;omega));replace F:=I (Al F.o D F.o.size (by have:=ae.o;omega));clear hX D Z HK k0)
       |(refine Ac (by rfl) 63 (.tmp 3) (by rfl) W.heap.size 0 (by rfl) (mgA m.k zA zT zR zP pf) _ (Ab HX.o) Tryz.underlying63 (by rfl) E.o ?_)
       |(refine wpList_store_mid (by rfl) 63 (.tmp 2) (.tmp 34) (by rfl) (w.heap.size+1) 0 (mgA m.k zA zT zR zP pf) (by rfl) (by rfl) (Ak Y.o _ (by rw[X.o.size];have:=ab.o;omega)) E.o (X.o.one _) ?_)
       |fail)
      have hE:=AE (ds:=mgA m.k zA zT zR zP pf) Y.o (by rw[X.o.size];have:=ab.o;omega);have hp:=AJ V2 (w.heap.size+1) (mgA m.k zA zT zR zP pf).toList;have hq:=Am (P:=Tryz.prog) hE Tryz.underlying63 rfl E.o;refine bodyPost_ret (v:=.agg (mgA m.k zA zT zR zP pf)) ?_ ?_ ?_
      ·exact Aj 2 63 ⟨w.heap.size+1,0,none⟩ Tryz.results153 rfl hq
      ·rfl
      have hB:=Al F.o hp F.o.size (by omega);refine⟨_,rfl,?_,hB⟩;rw[EN.o];exact⟨zA,zT,zR,zP,pf,rfl,(X.o.keep hB).more hB.size⟩
     ·have au:=m5
      have y1:(m.k==1)=false:=by simp;omega
      have y2:(m.k==2)=false:=by simp;omega
      have y3:(m.k==3)=false:=by simp;omega
      have y4:(m.k==4)=false:=by simp;omega
      have y5:(m.k==5)=false:=by simp;omega
      have EN:=I (show nm m=⟨m.k,as0,tg0,re0,ap0,fa0⟩ by rw[nm,if_neg m1,if_neg m2,if_neg m3,if_neg m4,if_neg m5]);clear m1 m2 m3 m4 m5;have X:=I (show MgP w w.heap.size zA zT zR zP zF ⟨m.k,as0,tg0,re0,ap0,fa0⟩ from⟨zA_v,zT_v w w.heap.size,zR_v w w.heap.size,zP_v w w.heap.size,zF_v⟩);have E:=I (show(Tryz.prog.info? 63).map (·.size)=some (mgA m.k zA zT zR zP zF).size by rw[X.o.size];exact AQ);go_enter Tryz.func153,Tryz.ntmps153
      go_upto_region 1 with fail
      rw[<-aa,<-eW];clear aa eW
      go_wp2_with (first
       |(refine Au (by rfl) 63 #[(0,.tmp 5)] (by rfl) c0 (by simp only[List.map_toArray,List.map_cons,List.map_nil];exact af.o) ?_)
       |(refine wpList_store_mid (by rfl) 63 (.tmp 3) (.tmp 6) (by rfl) W.heap.size 0 c0 (by rfl) (by rfl) (Ak (Blk.new W 63 #[.int .i64 0,.string ⟨#[]⟩,.string ⟨#[]⟩,.string ⟨#[]⟩,.string ⟨#[]⟩,.int .i64 0,.int .i64 0,.string ⟨#[]⟩,.string ⟨#[]⟩,.int .i64 0,.slice none 0 0,.slice none 0 0,.string ⟨#[]⟩,.string ⟨#[]⟩,.int .i64 0,.int .i64 0,.string ⟨#[]⟩,.string ⟨#[]⟩,.string ⟨#[]⟩,.string ⟨#[]⟩,.int .i64 0,.slice none 0 0,.slice none 0 0,.string ⟨#[]⟩,.string ⟨#[]⟩,.int .i64 0,.slice none 0 0,.slice none 0 0,.int .i64 0,.int .i64 0]) _ (by have:=ad.o;simp;omega)) HI.o HO.o ?_;have M:=Bp W 63 #[.int .i64 0,.string ⟨#[]⟩,.string ⟨#[]⟩,.string ⟨#[]⟩,.string ⟨#[]⟩,.int .i64 0,.int .i64 0,.string ⟨#[]⟩,.string ⟨#[]⟩,.int .i64 0,.slice none 0 0,.slice none 0 0,.string ⟨#[]⟩,.string ⟨#[]⟩,.int .i64 0,.int .i64 0,.string ⟨#[]⟩,.string ⟨#[]⟩,.string ⟨#[]⟩,.string ⟨#[]⟩,.int .i64 0,.slice none 0 0,.slice none 0 0,.string ⟨#[]⟩,.string ⟨#[]⟩,.int .i64 0,.slice none 0 0,.slice none 0 0,.int .i64 0,.int .i64 0] c0 (by have:=ad.o;simp;omega);generalize ((W.alloc (.cells #[.int .i64 0,.string ⟨#[]⟩,.string ⟨#[]⟩,.string ⟨#[]⟩,.string ⟨#[]⟩,.int .i64 0,.int .i64 0,.string ⟨#[]⟩,.string ⟨#[]⟩,.int .i64 0,.slice none 0 0,.slice none 0 0,.string ⟨#[]⟩,.string ⟨#[]⟩,.int .i64 0,.int .i64 0,.string ⟨#[]⟩,.string ⟨#[]⟩,.string ⟨#[]⟩,.string ⟨#[]⟩,.int .i64 0,.slice none 0 0,.slice none 0 0,.string ⟨#[]⟩,.string ⟨#[]⟩,.int .i64 0,.slice none 0 0,.slice none 0 0,.int .i64 0,.int .i64 0] 63)).setCells W.heap.size 0 c0.toList)=V at M⊢;have HX:=I (show Blk V W.heap.size 63 (mgA m.k zA zT zR zP zF) from EC.o▸M.1);replace HK:=I (HK.o.below M.2);replace Y:=I (Y.o.below M.2);replace F:=I (F.o.trans (M.2.mono F.o.size));clear M Z k0;have Z:=I (O.o.at_ HK.o);have k0:=Z.o.k)
       |(refine Ac (by rfl) 63 (.tmp 3) (by rfl) W.heap.size 0 (by rfl) (mgA m.k zA zT zR zP zF) _ (Ab HX.o) Tryz.underlying63 (by rfl) E.o ?_)
       |(refine wpList_store_mid (by rfl) 63 (.tmp 2) (.tmp 34) (by rfl) (w.heap.size+1) 0 (mgA m.k zA zT zR zP zF) (by rfl) (by rfl) (Ak Y.o _ (by rw[X.o.size];have:=ab.o;omega)) E.o (X.o.one _) ?_)
       |fail)
      have hE:=AE (ds:=mgA m.k zA zT zR zP zF) Y.o (by rw[X.o.size];have:=ab.o;omega);have hp:=AJ V (w.heap.size+1) (mgA m.k zA zT zR zP zF).toList;have hq:=Am (P:=Tryz.prog) hE Tryz.underlying63 rfl E.o;refine bodyPost_ret (v:=.agg (mgA m.k zA zT zR zP zF)) ?_ ?_ ?_
      ·exact Aj 2 63 ⟨w.heap.size+1,0,none⟩ Tryz.results153 rfl hq
      ·rfl
      have hB:=Al F.o hp F.o.size (by omega);refine⟨_,rfl,?_,hB⟩;rw[EN.o];exact⟨zA,zT,zR,zP,zF,rfl,(X.o.keep hB).more hB.size⟩
theorem VJ {pa D:Array Value} {x y:As} (h:AsV pa x) (g:AsV D y) (w:World):(Op.equalIn 10000 51 (.agg pa) (.agg D)).run Tryz.prog w=.ok (decide (x=y)) w:=by rw[h,g];exact XA x y w
theorem VK {pa D:Array Value} {x y:Fa} (h:FaV pa x) (g:FaV D y) (w:World):(Op.equalIn 10000 61 (.agg pa) (.agg D)).run Tryz.prog w=.ok (decide (x=y)) w:=by rw[h,g];exact Xz x y w
theorem QK {pa D:Array Value} {x y:Tg} (w:World) (h:TgV w w.heap.size pa x) (g:TgV w w.heap.size D y):Calls Tryz.prog 185 #[.agg pa,.agg D] w fun e w'=>e=.returned (.bool (decide (x=y)))/\Below w.heap.size w w':=by
 obtain⟨b,a,rfl,⟨A1,c1,rfl,_,M⟩,⟨A2,c2,rfl,_,E⟩⟩:=h;obtain⟨b2,a2,rfl,⟨X,Y,rfl,_,O⟩,⟨F,d2,rfl,_,Z⟩⟩:=g;exact LP x y A1 A2 X F c1 c2 Y d2 w M O E Z
theorem QL {pa D:Array Value} {x y:Re} (w:World) (h:ReV w w.heap.size pa x) (g:ReV w w.heap.size D y):Calls Tryz.prog 186 #[.agg pa,.agg D] w fun e w'=>e=.returned (.bool (decide (x=y)))/\Below w.heap.size w w':=by
 obtain⟨b,a,rfl,⟨A1,c1,rfl,_,M⟩,⟨A2,c2,rfl,_,E⟩⟩:=h;obtain⟨b2,a2,rfl,⟨X,Y,rfl,_,O⟩,⟨F,d2,rfl,_,Z⟩⟩:=g;exact LQ x y A1 A2 X F c1 c2 Y d2 w M O E Z
theorem QM {pa D:Array Value} {x y:Ap} (w:World) (h:ApV w w.heap.size pa x) (g:ApV w w.heap.size D y):Calls Tryz.prog 187 #[.agg pa,.agg D] w fun e w'=>e=.returned (.bool (decide (x=y)))/\Below w.heap.size w w':=by
 obtain⟨b,a,rfl,⟨A1,c1,rfl,_,M⟩,⟨A2,c2,rfl,_,E⟩⟩:=h;obtain⟨b2,a2,rfl,⟨X,Y,rfl,_,O⟩,⟨F,d2,rfl,_,Z⟩⟩:=g;exact LR x y A1 A2 X F c1 c2 Y d2 w M O E Z
theorem mg_eq (m o:Mg):decide (m=o)=(decide (m.k=o.k)&&(decide (m.aq=o.aq)&&(decide (m.tg=o.tg)&&(decide (m.re=o.re)&&(decide (m.ap=o.ap)&&decide (m.fa=o.fa)))))):=by
 obtain⟨k,a,t,r,p,f⟩:=m;obtain⟨k2,E,M,r2,D,F⟩:=o;simp [Bool.decide_and]
theorem QN (cs ds:Array Value) (m o:Mg) (w:World) (h:MgV w w.heap.size cs m) (g:MgV w w.heap.size ds o):Calls Tryz.prog 152 #[.agg cs,.agg ds] w fun e w'=>e=.returned (.bool (decide (m=o)))/\Below w.heap.size w w':=by
 obtain⟨pa,pt,pr,pp,pf,hc,hp⟩:=h;obtain⟨qa,qt,qr,qp,qf,hd,hq⟩:=g;obtain⟨W,eW⟩:=Ah ((w.alloc (.cells cs 63)).alloc (.cells ds 63));have X:=I (show Blk W w.heap.size 63 (mgA m.k pa pt pr pp pf) by rw[eW,<-hc];exact(Blk.new _ _ _).alloc _);have aa:=Blk.new (w.alloc (.cells cs 63)) 63 ds;rw[show(w.alloc (.cells cs 63)).heap.size=w.heap.size+1 by simp,<-eW,hd] at aa;have Y:=I aa;clear aa;have O:=I (show Below w.heap.size w W by rw[eW];exact(Af.alloc Ae _).alloc (by simp) _);have HP:=I hp;have Z:=I hq;have F:=I (hp.at_ X.o);have M:=I (hq.at_ Y.o);have k0:=F.o.k;have k1:=M.o.k;have Tt:=I (fun w1 (h:Below w.heap.size w w1)=>QK w1 ((hp.t.keep h).more h.size) ((hq.t.keep h).more h.size));have Tr:=I (fun w1 (h:Below w.heap.size w w1)=>QL w1 ((hp.r.keep h).more h.size) ((hq.r.keep h).more h.size));have Tp:=I (fun w1 (h:Below w.heap.size w w1)=>QM w1 ((hp.p.keep h).more h.size) ((hq.p.keep h).more h.size));have EA:=I (fun w1=>VJ hp.a hq.a w1);have EF:=I (fun w1=>VK hp.f hq.f w1);have ME:=I (mg_eq m o);clear hc hd hp hq;cases ek:decide (m.k=o.k) with
 |false=>
  have tk:(m.k==o.k)=false:=by simpa using ek
  have E:=I (show decide (m=o)=false by rw[ME.o,ek];rfl);clear ek;go_enter Tryz.func152,Tryz.ntmps152
  go_upto_region 1 with fail
  rw[<-eW];clear eW
  go_wp2
  go_ret;exact⟨by rw[E.o];rfl,O.o⟩
 |true=>
  have tk:(m.k==o.k)=true:=by simpa using ek
  cases ea:decide (m.aq=o.aq) with
  |false=>
   rw[ea] at EA;have fa:=EA.o;have E:=I (show decide (m=o)=false by rw[ME.o,ek,ea];rfl);clear ek ea;go_enter Tryz.func152,Tryz.ntmps152
   go_upto_region 1 with fail
   rw[<-eW];clear eW
   go_wp2_with (first
    |(refine Az (by rfl) 51 (.tmp 11) (by rfl) w.heap.size 1 (by rfl) pa _ F.o.a Tryz.underlying51 (by rfl) (by rw[HP.o.a.size];exact Ch) ?_)
    |(refine Az (by rfl) 51 (.tmp 13) (by rfl) (w.heap.size+1) 1 (by rfl) qa _ M.o.a Tryz.underlying51 (by rfl) (by rw[Z.o.a.size];exact Ch) ?_)
    |fail)
   go_ret;exact⟨by rw[E.o];rfl,O.o⟩
  |true=>
   rw[ea] at EA;have fa:=EA.o;cases et:decide (m.tg=o.tg) with
   |false=>
    rw[et] at Tt;have E:=I (show decide (m=o)=false by rw[ME.o,ek,ea,et];rfl);clear ek ea et;go_enter Tryz.func152,Tryz.ntmps152
    go_upto_region 1 with fail
    rw[<-eW];clear eW
    go_wp2_with (first
     |(refine Az (by rfl) 51 (.tmp 11) (by rfl) w.heap.size 1 (by rfl) pa _ F.o.a Tryz.underlying51 (by rfl) (by rw[HP.o.a.size];exact Ch) ?_)
     |(refine Az (by rfl) 51 (.tmp 13) (by rfl) (w.heap.size+1) 1 (by rfl) qa _ M.o.a Tryz.underlying51 (by rfl) (by rw[Z.o.a.size];exact Ch) ?_)
     |(refine Az (by rfl) 55 (.tmp 18) (by rfl) w.heap.size 7 (by rfl) pt _ F.o.t Tryz.underlying55 (by rfl) (by rw[HP.o.t.size];exact BG) ?_)
     |(refine Az (by rfl) 55 (.tmp 20) (by rfl) (w.heap.size+1) 7 (by rfl) qt _ M.o.t Tryz.underlying55 (by rfl) (by rw[Z.o.t.size];exact BG) ?_)
     |(go_at_call 185;refine Ag (Tt.o _ O.o) ?_;rintro wt D;clear F M;replace X:=I (X.o.below D);replace Y:=I (Y.o.below D);replace O:=O.t D;clear D Tt;have F:=I (HP.o.at_ X.o);have M:=I (Z.o.at_ Y.o))
     |fail)
    go_ret;exact⟨by rw[E.o];rfl,O.o⟩
   |true=>
    rw[et] at Tt;cases er:decide (m.re=o.re) with
    |false=>
     rw[er] at Tr;have E:=I (show decide (m=o)=false by rw[ME.o,ek,ea,et,er];rfl);clear ek ea et er;go_enter Tryz.func152,Tryz.ntmps152
     go_upto_region 1 with fail
     rw[<-eW];clear eW
     go_wp2_with (first
      |(refine Az (by rfl) 51 (.tmp 11) (by rfl) w.heap.size 1 (by rfl) pa _ F.o.a Tryz.underlying51 (by rfl) (by rw[HP.o.a.size];exact Ch) ?_)
      |(refine Az (by rfl) 51 (.tmp 13) (by rfl) (w.heap.size+1) 1 (by rfl) qa _ M.o.a Tryz.underlying51 (by rfl) (by rw[Z.o.a.size];exact Ch) ?_)
      |(refine Az (by rfl) 55 (.tmp 18) (by rfl) w.heap.size 7 (by rfl) pt _ F.o.t Tryz.underlying55 (by rfl) (by rw[HP.o.t.size];exact BG) ?_)
      |(refine Az (by rfl) 55 (.tmp 20) (by rfl) (w.heap.size+1) 7 (by rfl) qt _ M.o.t Tryz.underlying55 (by rfl) (by rw[Z.o.t.size];exact BG) ?_)
      |(go_at_call 185;refine Ag (Tt.o _ O.o) ?_;rintro wt D;clear F M;replace X:=I (X.o.below D);replace Y:=I (Y.o.below D);replace O:=O.t D;clear D Tt;have F:=I (HP.o.at_ X.o);have M:=I (Z.o.at_ Y.o))
      |(refine Az (by rfl) 57 (.tmp 25) (by rfl) w.heap.size 16 (by rfl) pr _ F.o.r Tryz.underlying57 (by rfl) (by rw[HP.o.r.size];exact Dh) ?_)
      |(refine Az (by rfl) 57 (.tmp 27) (by rfl) (w.heap.size+1) 16 (by rfl) qr _ M.o.r Tryz.underlying57 (by rfl) (by rw[Z.o.r.size];exact Dh) ?_)
      |(go_at_call 186;refine Ag (Tr.o _ O.o) ?_;rintro wr D;clear F M;replace X:=I (X.o.below D);replace Y:=I (Y.o.below D);replace O:=O.t D;clear D Tr;have F:=I (HP.o.at_ X.o);have M:=I (Z.o.at_ Y.o))
      |fail)
     go_ret;exact⟨by rw[E.o];rfl,O.o⟩
    |true=>
     rw[er] at Tr;cases ep:decide (m.ap=o.ap) with
     |false=>
      rw[ep] at Tp;have E:=I (show decide (m=o)=false by rw[ME.o,ek,ea,et,er,ep];rfl);clear ek ea et er ep;go_enter Tryz.func152,Tryz.ntmps152
      go_upto_region 1 with fail
      rw[<-eW];clear eW
      go_wp2_with (first
       |(refine Az (by rfl) 51 (.tmp 11) (by rfl) w.heap.size 1 (by rfl) pa _ F.o.a Tryz.underlying51 (by rfl) (by rw[HP.o.a.size];exact Ch) ?_)
       |(refine Az (by rfl) 51 (.tmp 13) (by rfl) (w.heap.size+1) 1 (by rfl) qa _ M.o.a Tryz.underlying51 (by rfl) (by rw[Z.o.a.size];exact Ch) ?_)
       |(refine Az (by rfl) 55 (.tmp 18) (by rfl) w.heap.size 7 (by rfl) pt _ F.o.t Tryz.underlying55 (by rfl) (by rw[HP.o.t.size];exact BG) ?_)
       |(refine Az (by rfl) 55 (.tmp 20) (by rfl) (w.heap.size+1) 7 (by rfl) qt _ M.o.t Tryz.underlying55 (by rfl) (by rw[Z.o.t.size];exact BG) ?_)
       |(go_at_call 185;refine Ag (Tt.o _ O.o) ?_;rintro wt D;clear F M;replace X:=I (X.o.below D);replace Y:=I (Y.o.below D);replace O:=O.t D;clear D Tt;have F:=I (HP.o.at_ X.o);have M:=I (Z.o.at_ Y.o))
       |(refine Az (by rfl) 57 (.tmp 25) (by rfl) w.heap.size 16 (by rfl) pr _ F.o.r Tryz.underlying57 (by rfl) (by rw[HP.o.r.size];exact Dh) ?_)
       |(refine Az (by rfl) 57 (.tmp 27) (by rfl) (w.heap.size+1) 16 (by rfl) qr _ M.o.r Tryz.underlying57 (by rfl) (by rw[Z.o.r.size];exact Dh) ?_)
       |(go_at_call 186;refine Ag (Tr.o _ O.o) ?_;rintro wr D;clear F M;replace X:=I (X.o.below D);replace Y:=I (Y.o.below D);replace O:=O.t D;clear D Tr;have F:=I (HP.o.at_ X.o);have M:=I (Z.o.at_ Y.o))
       |(refine Az (by rfl) 59 (.tmp 32) (by rfl) w.heap.size 23 (by rfl) pp _ F.o.p Tryz.underlying59 (by rfl) (by rw[HP.o.p.size];exact DE) ?_)
       |(refine Az (by rfl) 59 (.tmp 34) (by rfl) (w.heap.size+1) 23 (by rfl) qp _ M.o.p Tryz.underlying59 (by rfl) (by rw[Z.o.p.size];exact DE) ?_)
       |(go_at_call 187;refine Ag (Tp.o _ O.o) ?_;rintro wp D;clear F M;replace X:=I (X.o.below D);replace Y:=I (Y.o.below D);replace O:=O.t D;clear D Tp;have F:=I (HP.o.at_ X.o);have M:=I (Z.o.at_ Y.o))
       |fail)
      go_ret;exact⟨by rw[E.o];rfl,O.o⟩
     |true=>
      rw[ep] at Tp;cases ef:decide (m.fa=o.fa) with
      |false=>
       rw[ef] at EF;have ff:=EF.o;have E:=I (show decide (m=o)=false by rw[ME.o,ek,ea,et,er,ep,ef];rfl);clear ek ea et er ep ef;go_enter Tryz.func152,Tryz.ntmps152
       go_upto_region 1 with fail
       rw[<-eW];clear eW
       go_wp2_with (first
        |(refine Az (by rfl) 51 (.tmp 11) (by rfl) w.heap.size 1 (by rfl) pa _ F.o.a Tryz.underlying51 (by rfl) (by rw[HP.o.a.size];exact Ch) ?_)
        |(refine Az (by rfl) 51 (.tmp 13) (by rfl) (w.heap.size+1) 1 (by rfl) qa _ M.o.a Tryz.underlying51 (by rfl) (by rw[Z.o.a.size];exact Ch) ?_)
        |(refine Az (by rfl) 55 (.tmp 18) (by rfl) w.heap.size 7 (by rfl) pt _ F.o.t Tryz.underlying55 (by rfl) (by rw[HP.o.t.size];exact BG) ?_)
        |(refine Az (by rfl) 55 (.tmp 20) (by rfl) (w.heap.size+1) 7 (by rfl) qt _ M.o.t Tryz.underlying55 (by rfl) (by rw[Z.o.t.size];exact BG) ?_)
        |(go_at_call 185;refine Ag (Tt.o _ O.o) ?_;rintro wt D;clear F M;replace X:=I (X.o.below D);replace Y:=I (Y.o.below D);replace O:=O.t D;clear D Tt;have F:=I (HP.o.at_ X.o);have M:=I (Z.o.at_ Y.o))
        |(refine Az (by rfl) 57 (.tmp 25) (by rfl) w.heap.size 16 (by rfl) pr _ F.o.r Tryz.underlying57 (by rfl) (by rw[HP.o.r.size];exact Dh) ?_)
        |(refine Az (by rfl) 57 (.tmp 27) (by rfl) (w.heap.size+1) 16 (by rfl) qr _ M.o.r Tryz.underlying57 (by rfl) (by rw[Z.o.r.size];exact Dh) ?_)
        |(go_at_call 186;refine Ag (Tr.o _ O.o) ?_;rintro wr D;clear F M;replace X:=I (X.o.below D);replace Y:=I (Y.o.below D);replace O:=O.t D;clear D Tr;have F:=I (HP.o.at_ X.o);have M:=I (Z.o.at_ Y.o))
        |(refine Az (by rfl) 59 (.tmp 32) (by rfl) w.heap.size 23 (by rfl) pp _ F.o.p Tryz.underlying59 (by rfl) (by rw[HP.o.p.size];exact DE) ?_)
        |(refine Az (by rfl) 59 (.tmp 34) (by rfl) (w.heap.size+1) 23 (by rfl) qp _ M.o.p Tryz.underlying59 (by rfl) (by rw[Z.o.p.size];exact DE) ?_)
        |(go_at_call 187;refine Ag (Tp.o _ O.o) ?_;rintro wp D;clear F M;replace X:=I (X.o.below D);replace Y:=I (Y.o.below D);replace O:=O.t D;clear D Tp;have F:=I (HP.o.at_ X.o);have M:=I (Z.o.at_ Y.o))
        |(refine Az (by rfl) 61 (.tmp 39) (by rfl) w.heap.size 28 (by rfl) pf _ F.o.f Tryz.underlying61 (by rfl) (by rw[HP.o.f.size];exact Ff) ?_)
        |(refine Az (by rfl) 61 (.tmp 41) (by rfl) (w.heap.size+1) 28 (by rfl) qf _ M.o.f Tryz.underlying61 (by rfl) (by rw[Z.o.f.size];exact Ff) ?_)
        |fail)
       go_ret;exact⟨by rw[E.o];rfl,O.o⟩
      |true=>
       rw[ef] at EF;have ff:=EF.o;have E:=I (show decide (m=o)=true by rw[ME.o,ek,ea,et,er,ep,ef];rfl);clear ek ea et er ep ef;go_enter Tryz.func152,Tryz.ntmps152
       go_upto_region 1 with fail
       rw[<-eW];clear eW
       go_wp2_with (first
        |(refine Az (by rfl) 51 (.tmp 11) (by rfl) w.heap.size 1 (by rfl) pa _ F.o.a Tryz.underlying51 (by rfl) (by rw[HP.o.a.size];exact Ch) ?_)
        |(refine Az (by rfl) 51 (.tmp 13) (by rfl) (w.heap.size+1) 1 (by rfl) qa _ M.o.a Tryz.underlying51 (by rfl) (by rw[Z.o.a.size];exact Ch) ?_)
        |(refine Az (by rfl) 55 (.tmp 18) (by rfl) w.heap.size 7 (by rfl) pt _ F.o.t Tryz.underlying55 (by rfl) (by rw[HP.o.t.size];exact BG) ?_)
        |(refine Az (by rfl) 55 (.tmp 20) (by rfl) (w.heap.size+1) 7 (by rfl) qt _ M.o.t Tryz.underlying55 (by rfl) (by rw[Z.o.t.size];exact BG) ?_)
        |(go_at_call 185;refine Ag (Tt.o _ O.o) ?_;rintro wt D;clear F M;replace X:=I (X.o.below D);replace Y:=I (Y.o.below D);replace O:=O.t D;clear D Tt;have F:=I (HP.o.at_ X.o);have M:=I (Z.o.at_ Y.o))
        |(refine Az (by rfl) 57 (.tmp 25) (by rfl) w.heap.size 16 (by rfl) pr _ F.o.r Tryz.underlying57 (by rfl) (by rw[HP.o.r.size];exact Dh) ?_)
        |(refine Az (by rfl) 57 (.tmp 27) (by rfl) (w.heap.size+1) 16 (by rfl) qr _ M.o.r Tryz.underlying57 (by rfl) (by rw[Z.o.r.size];exact Dh) ?_)
        |(go_at_call 186;refine Ag (Tr.o _ O.o) ?_;rintro wr D;clear F M;replace X:=I (X.o.below D);replace Y:=I (Y.o.below D);replace O:=O.t D;clear D Tr;have F:=I (HP.o.at_ X.o);have M:=I (Z.o.at_ Y.o))
        |(refine Az (by rfl) 59 (.tmp 32) (by rfl) w.heap.size 23 (by rfl) pp _ F.o.p Tryz.underlying59 (by rfl) (by rw[HP.o.p.size];exact DE) ?_)
        |(refine Az (by rfl) 59 (.tmp 34) (by rfl) (w.heap.size+1) 23 (by rfl) qp _ M.o.p Tryz.underlying59 (by rfl) (by rw[Z.o.p.size];exact DE) ?_)
        |(go_at_call 187;refine Ag (Tp.o _ O.o) ?_;rintro wp D;clear F M;replace X:=I (X.o.below D);replace Y:=I (Y.o.below D);replace O:=O.t D;clear D Tp;have F:=I (HP.o.at_ X.o);have M:=I (Z.o.at_ Y.o))
        |(refine Az (by rfl) 61 (.tmp 39) (by rfl) w.heap.size 28 (by rfl) pf _ F.o.f Tryz.underlying61 (by rfl) (by rw[HP.o.f.size];exact Ff) ?_)
        |(refine Az (by rfl) 61 (.tmp 41) (by rfl) (w.heap.size+1) 28 (by rfl) qf _ M.o.f Tryz.underlying61 (by rfl) (by rw[Z.o.f.size];exact Ff) ?_)
        |fail)
       go_ret;exact⟨by rw[E.o];rfl,O.o⟩
end Mc
end Go.Proofs.YtcpccikongbopaaGreat
