import Derived.Test.YtlfmicidppccnaaGreatZClientNew7
set_option maxHeartbeats 25600000
set_option maxRecDepth 100000
set_option linter.unusedVariables false
set_option linter.unusedSimpArgs false
namespace Go.Proofs.YtlfmicidppccnaaGreat
namespace Mc
open Go.RowKit Ad DerP Ms
theorem DP (a b:L) (A D:Option Addr) (c d B:Nat) (w:World) (h:Rd w B A (bvs a)) (g:Rd w B D (bvs b)):Calls Tryz.prog 131 #[.slice A a.length c,.slice D b.length d] w fun e w'=>e = .returned (.bool (decide (a=b)))∧w=w':=by
 have hcv1:=Ch (P:=Tryz.prog) w 27 5 Tryz.underlying27 Tryz.underlying5 h a.length c rfl 9 Tryz.underlying9;have hcv2:=Ch (P:=Tryz.prog) w 27 5 Tryz.underlying27 Tryz.underlying5 g b.length d rfl 9 Tryz.underlying9;clear h g
 by_cases e:a=b
 ·have t1:(a==b)=true:=by simpa using e
  have E:=I (decide_eq_true e);clear e;go_enter Tryz.func131,Tryz.ntmps131
  go_wp2
  go_ret;exact⟨by rw[E.o];rfl,rfl⟩
 ·have t1:(a==b)=false:=by simpa using e
  have E:=I (decide_eq_false e);clear e;go_enter Tryz.func131,Tryz.ntmps131
  go_wp2
  go_ret;exact⟨by rw[E.o];rfl,rfl⟩
theorem CL (x y:Tk) (A1 D1:Option Addr) (c1 d1:Nat) (w:World) (h1:Rd w w.heap.size A1 (bvs x.b)) (g1:Rd w w.heap.size D1 (bvs y.b)) :
  Calls Tryz.prog 228 #[.agg #[.string ⟨x.s.1.toArray⟩,.string ⟨x.s.2.toArray⟩,.int .i64 x.k,.slice A1 x.b.length c1],.agg #[.string ⟨y.s.1.toArray⟩,.string ⟨y.s.2.toArray⟩,.int .i64 y.k,.slice D1 y.b.length d1]] w fun e w'=>e = .returned (.bool (decide (x=y)))∧Below w.heap.size w w':=by
 obtain⟨⟨r,n⟩,k,b⟩:=x;obtain⟨⟨r2,n2⟩,k2,b2⟩:=y;simp only at h1 g1⊢;have HB:=I (((Below.refl w.heap.size w).alloc Ae (.cells #[.string ⟨List.toArray r⟩,.string ⟨List.toArray n⟩,.int .i64 k,.slice A1 b.length c1] 42)).alloc (by simp) (.cells #[.string ⟨List.toArray r2⟩,.string ⟨List.toArray n2⟩,.int .i64 k2,.slice D1 b2.length d1] 42));have HX:=I ((Blk.new w 42 #[.string ⟨List.toArray r⟩,.string ⟨List.toArray n⟩,.int .i64 k,.slice A1 b.length c1]).alloc (.cells #[.string ⟨List.toArray r2⟩,.string ⟨List.toArray n2⟩,.int .i64 k2,.slice D1 b2.length d1] 42));have hy:=Blk.new (w.alloc (.cells #[.string ⟨List.toArray r⟩,.string ⟨List.toArray n⟩,.int .i64 k,.slice A1 b.length c1] 42)) 42 #[.string ⟨List.toArray r2⟩,.string ⟨List.toArray n2⟩,.int .i64 k2,.slice D1 b2.length d1];rw[show(w.alloc (.cells #[.string ⟨List.toArray r⟩,.string ⟨List.toArray n⟩,.int .i64 k,.slice A1 b.length c1] 42)).heap.size=w.heap.size+1 by simp] at hy;have HY:=I hy;clear hy;have T1:=I (fun w1 (h:Below w.heap.size w w1)=>DP b b2 A1 D1 c1 d1 w.heap.size w1 (h1.below h) (g1.below h));clear h1 g1
 by_cases e0a:r=r2
 ·subst e0a
  by_cases e0b:n=n2
  ·subst e0b
   by_cases e1:k=k2
   ·subst e1
    have t1:(k==k)=true:=by simp
    cases e2:decide (b=b2) with
    |false=>
     have E:=I (show decide ((⟨(r,n),k,b⟩:Tk)=⟨(r,n),k,b2⟩)=false from decide_eq_false (fun h=>of_decide_eq_false e2 (congrArg Tk.b h)));rw[e2] at T1;clear e2;go_enter Tryz.func228,Tryz.ntmps228
     go_wp2_with (go_at_call 131;refine Calls.mono (T1.o _ HB.o) ?_;rintro e4 wb1 ⟨rfl,hw⟩;subst hw;clear T1)
     go_ret;exact⟨by rw[E.o];rfl,HB.o⟩
    |true=>
     rw[e2] at T1;have e2':=of_decide_eq_true e2;clear e2;subst e2';have E:=I (show decide ((⟨(r,n),k,b⟩:Tk)=⟨(r,n),k,b⟩)=true from decide_eq_true rfl);go_enter Tryz.func228,Tryz.ntmps228
     go_wp2_with (go_at_call 131;refine Calls.mono (T1.o _ HB.o) ?_;rintro e4 wb1 ⟨rfl,hw⟩;subst hw;clear T1)
     go_ret;exact⟨by rw[E.o];rfl,HB.o⟩
   ·have t1:(k==k2)=false:=by simpa using e1
    have E:=I (show decide ((⟨(r,n),k,b⟩:Tk)=⟨(r,n),k2,b2⟩)=false from decide_eq_false (fun h=>e1 (congrArg Tk.k h)));go_enter Tryz.func228,Tryz.ntmps228
    go_wp2
    go_ret;exact⟨by rw[E.o];rfl,HB.o⟩
  ·have E:=I (show decide ((⟨(r,n),k,b⟩:Tk)=⟨(r,n2),k2,b2⟩)=false from decide_eq_false (fun h=>e0b (congrArg (fun t=>t.s.2) h)))
   go_enter Tryz.func228,Tryz.ntmps228
   go_wp2
   go_ret;exact⟨by rw[E.o];rfl,HB.o⟩
 ·have E:=I (show decide ((⟨(r,n),k,b⟩:Tk)=⟨(r2,n2),k2,b2⟩)=false from decide_eq_false (fun h=>e0a (congrArg (fun t=>t.s.1) h)))
  go_enter Tryz.func228,Tryz.ntmps228
  go_wp2
  go_ret;exact⟨by rw[E.o];rfl,HB.o⟩
theorem EE (x y:Tg) (A1 A2 D1 D2:Option Addr) (c1 c2 d1 d2:Nat) (w:World) (h1:Rd w w.heap.size A1 (bvs x.t.b)) (g1:Rd w w.heap.size D1 (bvs y.t.b)) (h2:Rd w w.heap.size A2 (bvs x.a)) (g2:Rd w w.heap.size D2 (bvs y.a)) :
  Calls Tryz.prog 206 #[.agg #[.string ⟨x.t.s.1.toArray⟩,.string ⟨x.t.s.2.toArray⟩,.int .i64 x.t.k,.slice A1 x.t.b.length c1,.slice A2 x.a.length c2,.string ⟨x.s.1.toArray⟩,.string ⟨x.s.2.toArray⟩,.int .i64 x.u,.int .i64 x.no],.agg #[.string ⟨y.t.s.1.toArray⟩,.string ⟨y.t.s.2.toArray⟩,.int .i64 y.t.k,.slice D1 y.t.b.length d1,.slice D2 y.a.length d2,.string ⟨y.s.1.toArray⟩,.string ⟨y.s.2.toArray⟩,.int .i64 y.u,.int .i64 y.no]] w fun e w'=>e = .returned (.bool (decide (x=y)))∧Below w.heap.size w w':=by
 obtain⟨t,a,⟨r,n⟩,u,no⟩:=x;obtain⟨t2,a2,⟨r2,n2⟩,u2,no2⟩:=y;simp only at h1 g1 h2 g2⊢;have HB:=I (((Below.refl w.heap.size w).alloc Ae (.cells #[.string ⟨t.s.1.toArray⟩,.string ⟨t.s.2.toArray⟩,.int .i64 t.k,.slice A1 t.b.length c1,.slice A2 a.length c2,.string ⟨List.toArray r⟩,.string ⟨List.toArray n⟩,.int .i64 u,.int .i64 no] 68)).alloc (by simp) (.cells #[.string ⟨t2.s.1.toArray⟩,.string ⟨t2.s.2.toArray⟩,.int .i64 t2.k,.slice D1 t2.b.length d1,.slice D2 a2.length d2,.string ⟨List.toArray r2⟩,.string ⟨List.toArray n2⟩,.int .i64 u2,.int .i64 no2] 68));have HX:=I ((Blk.new w 68 #[.string ⟨t.s.1.toArray⟩,.string ⟨t.s.2.toArray⟩,.int .i64 t.k,.slice A1 t.b.length c1,.slice A2 a.length c2,.string ⟨List.toArray r⟩,.string ⟨List.toArray n⟩,.int .i64 u,.int .i64 no]).alloc (.cells #[.string ⟨t2.s.1.toArray⟩,.string ⟨t2.s.2.toArray⟩,.int .i64 t2.k,.slice D1 t2.b.length d1,.slice D2 a2.length d2,.string ⟨List.toArray r2⟩,.string ⟨List.toArray n2⟩,.int .i64 u2,.int .i64 no2] 68));have hy:=Blk.new (w.alloc (.cells #[.string ⟨t.s.1.toArray⟩,.string ⟨t.s.2.toArray⟩,.int .i64 t.k,.slice A1 t.b.length c1,.slice A2 a.length c2,.string ⟨List.toArray r⟩,.string ⟨List.toArray n⟩,.int .i64 u,.int .i64 no] 68)) 68 #[.string ⟨t2.s.1.toArray⟩,.string ⟨t2.s.2.toArray⟩,.int .i64 t2.k,.slice D1 t2.b.length d1,.slice D2 a2.length d2,.string ⟨List.toArray r2⟩,.string ⟨List.toArray n2⟩,.int .i64 u2,.int .i64 no2];rw[show(w.alloc (.cells #[.string ⟨t.s.1.toArray⟩,.string ⟨t.s.2.toArray⟩,.int .i64 t.k,.slice A1 t.b.length c1,.slice A2 a.length c2,.string ⟨List.toArray r⟩,.string ⟨List.toArray n⟩,.int .i64 u,.int .i64 no] 68)).heap.size=w.heap.size+1 by simp] at hy;have HY:=I hy;clear hy;have T1:=I (fun w1 (h:Below w.heap.size w w1)=>CL t t2 A1 D1 c1 d1 w1 ((h1.below h).more h.size) ((g1.below h).more h.size));have T2:=I (fun w1 (h:Below w.heap.size w w1)=>DP a a2 A2 D2 c2 d2 w.heap.size w1 (h2.below h) (g2.below h));clear h1 g1 h2 g2;cases e0:decide (t=t2) with
 |false=>
  have E:=I (show decide ((⟨t,a,(r,n),u,no⟩:Tg)=⟨t2,a2,(r2,n2),u2,no2⟩)=false from decide_eq_false (fun h=>of_decide_eq_false e0 (congrArg Tg.t h)));rw[e0] at T1;clear e0;go_enter Tryz.func206,Tryz.ntmps206
  go_wp2_with (go_at_call 228;refine Calls.mono (T1.o _ HB.o) ?_;rintro e3 w1 ⟨rfl,hb⟩;replace HX:=I (HX.o.below hb);replace HY:=I (HY.o.below hb);replace HB:=HB.t hb;clear hb T1;have kx4:w1.cell? ⟨w.heap.size,4,none⟩=some (.slice A2 a.length c2):=HX.o.cell 4;have ky4:w1.cell? ⟨w.heap.size+1,4,none⟩=some (.slice D2 a2.length d2):=HY.o.cell 4;have kx5:w1.cell? ⟨w.heap.size,5,none⟩=some (.string ⟨List.toArray r⟩):=HX.o.cell 5;have ky5:w1.cell? ⟨w.heap.size+1,5,none⟩=some (.string ⟨List.toArray r2⟩):=HY.o.cell 5;have kx6:w1.cell? ⟨w.heap.size,6,none⟩=some (.string ⟨List.toArray n⟩):=HX.o.cell 6;have ky6:w1.cell? ⟨w.heap.size+1,6,none⟩=some (.string ⟨List.toArray n2⟩):=HY.o.cell 6;have kx7:w1.cell? ⟨w.heap.size,7,none⟩=some (.int .i64 u):=HX.o.cell 7;have ky7:w1.cell? ⟨w.heap.size+1,7,none⟩=some (.int .i64 u2):=HY.o.cell 7;have kx8:w1.cell? ⟨w.heap.size,8,none⟩=some (.int .i64 no):=HX.o.cell 8;have ky8:w1.cell? ⟨w.heap.size+1,8,none⟩=some (.int .i64 no2):=HY.o.cell 8)
  go_ret;exact⟨by rw[E.o];rfl,HB.o⟩
 |true=>
  rw[e0] at T1;have e0':=of_decide_eq_true e0;clear e0;subst e0';cases e1:decide (a=a2) with
  |false=>
   have E:=I (show decide ((⟨t,a,(r,n),u,no⟩:Tg)=⟨t,a2,(r2,n2),u2,no2⟩)=false from decide_eq_false (fun h=>of_decide_eq_false e1 (congrArg Tg.a h)));rw[e1] at T2;clear e1;go_enter Tryz.func206,Tryz.ntmps206
   go_wp2_with (first
    |(go_at_call 228;refine Calls.mono (T1.o _ HB.o) ?_;rintro e3 w1 ⟨rfl,hb⟩;replace HX:=I (HX.o.below hb);replace HY:=I (HY.o.below hb);replace HB:=HB.t hb;clear hb T1;have kx4:w1.cell? ⟨w.heap.size,4,none⟩=some (.slice A2 a.length c2):=HX.o.cell 4;have ky4:w1.cell? ⟨w.heap.size+1,4,none⟩=some (.slice D2 a2.length d2):=HY.o.cell 4;have kx5:w1.cell? ⟨w.heap.size,5,none⟩=some (.string ⟨List.toArray r⟩):=HX.o.cell 5;have ky5:w1.cell? ⟨w.heap.size+1,5,none⟩=some (.string ⟨List.toArray r2⟩):=HY.o.cell 5;have kx6:w1.cell? ⟨w.heap.size,6,none⟩=some (.string ⟨List.toArray n⟩):=HX.o.cell 6;have ky6:w1.cell? ⟨w.heap.size+1,6,none⟩=some (.string ⟨List.toArray n2⟩):=HY.o.cell 6;have kx7:w1.cell? ⟨w.heap.size,7,none⟩=some (.int .i64 u):=HX.o.cell 7;have ky7:w1.cell? ⟨w.heap.size+1,7,none⟩=some (.int .i64 u2):=HY.o.cell 7;have kx8:w1.cell? ⟨w.heap.size,8,none⟩=some (.int .i64 no):=HX.o.cell 8;have ky8:w1.cell? ⟨w.heap.size+1,8,none⟩=some (.int .i64 no2):=HY.o.cell 8)
    |(go_at_call 131;refine Calls.mono (T2.o _ HB.o) ?_;rintro e4 wb2 ⟨rfl,hw⟩;subst hw;clear T2))
   go_ret;exact⟨by rw[E.o];rfl,HB.o⟩
  |true=>
   rw[e1] at T2;have e1':=of_decide_eq_true e1;clear e1;subst e1'
   by_cases e2a:r=r2
   ·subst e2a
    by_cases e2b:n=n2
    ·subst e2b
     by_cases e3:u=u2
     ·subst e3
      have t3:(u==u)=true:=by simp
      by_cases e4:no=no2
      ·subst e4
       have t4:(no==no)=true:=by simp
       have E:=I (show decide ((⟨t,a,(r,n),u,no⟩:Tg)=⟨t,a,(r,n),u,no⟩)=true from decide_eq_true rfl);go_enter Tryz.func206,Tryz.ntmps206
       go_wp2_with (first
        |(go_at_call 228;refine Calls.mono (T1.o _ HB.o) ?_;rintro e3 w1 ⟨rfl,hb⟩;replace HX:=I (HX.o.below hb);replace HY:=I (HY.o.below hb);replace HB:=HB.t hb;clear hb T1;have kx4:w1.cell? ⟨w.heap.size,4,none⟩=some (.slice A2 a.length c2):=HX.o.cell 4;have ky4:w1.cell? ⟨w.heap.size+1,4,none⟩=some (.slice D2 a.length d2):=HY.o.cell 4;have kx5:w1.cell? ⟨w.heap.size,5,none⟩=some (.string ⟨List.toArray r⟩):=HX.o.cell 5;have ky5:w1.cell? ⟨w.heap.size+1,5,none⟩=some (.string ⟨List.toArray r⟩):=HY.o.cell 5;have kx6:w1.cell? ⟨w.heap.size,6,none⟩=some (.string ⟨List.toArray n⟩):=HX.o.cell 6;have ky6:w1.cell? ⟨w.heap.size+1,6,none⟩=some (.string ⟨List.toArray n⟩):=HY.o.cell 6;have kx7:w1.cell? ⟨w.heap.size,7,none⟩=some (.int .i64 u):=HX.o.cell 7;have ky7:w1.cell? ⟨w.heap.size+1,7,none⟩=some (.int .i64 u):=HY.o.cell 7;have kx8:w1.cell? ⟨w.heap.size,8,none⟩=some (.int .i64 no):=HX.o.cell 8;have ky8:w1.cell? ⟨w.heap.size+1,8,none⟩=some (.int .i64 no):=HY.o.cell 8)
        |(go_at_call 131;refine Calls.mono (T2.o _ HB.o) ?_;rintro e4 wb2 ⟨rfl,hw⟩;subst hw;clear T2))
       go_ret;exact⟨by rw[E.o];rfl,HB.o⟩
      ·have t4:(no==no2)=false:=by simpa using e4
       have E:=I (show decide ((⟨t,a,(r,n),u,no⟩:Tg)=⟨t,a,(r,n),u,no2⟩)=false from decide_eq_false (fun h=>e4 (congrArg Tg.no h)));go_enter Tryz.func206,Tryz.ntmps206
       go_wp2_with (first
        |(go_at_call 228;refine Calls.mono (T1.o _ HB.o) ?_;rintro e3 w1 ⟨rfl,hb⟩;replace HX:=I (HX.o.below hb);replace HY:=I (HY.o.below hb);replace HB:=HB.t hb;clear hb T1;have kx4:w1.cell? ⟨w.heap.size,4,none⟩=some (.slice A2 a.length c2):=HX.o.cell 4;have ky4:w1.cell? ⟨w.heap.size+1,4,none⟩=some (.slice D2 a.length d2):=HY.o.cell 4;have kx5:w1.cell? ⟨w.heap.size,5,none⟩=some (.string ⟨List.toArray r⟩):=HX.o.cell 5;have ky5:w1.cell? ⟨w.heap.size+1,5,none⟩=some (.string ⟨List.toArray r⟩):=HY.o.cell 5;have kx6:w1.cell? ⟨w.heap.size,6,none⟩=some (.string ⟨List.toArray n⟩):=HX.o.cell 6;have ky6:w1.cell? ⟨w.heap.size+1,6,none⟩=some (.string ⟨List.toArray n⟩):=HY.o.cell 6;have kx7:w1.cell? ⟨w.heap.size,7,none⟩=some (.int .i64 u):=HX.o.cell 7;have ky7:w1.cell? ⟨w.heap.size+1,7,none⟩=some (.int .i64 u):=HY.o.cell 7;have kx8:w1.cell? ⟨w.heap.size,8,none⟩=some (.int .i64 no):=HX.o.cell 8;have ky8:w1.cell? ⟨w.heap.size+1,8,none⟩=some (.int .i64 no2):=HY.o.cell 8)
        |(go_at_call 131;refine Calls.mono (T2.o _ HB.o) ?_;rintro e4 wb2 ⟨rfl,hw⟩;subst hw;clear T2))
       go_ret;exact⟨by rw[E.o];rfl,HB.o⟩
     ·have t3:(u==u2)=false:=by simpa using e3
      have E:=I (show decide ((⟨t,a,(r,n),u,no⟩:Tg)=⟨t,a,(r,n),u2,no2⟩)=false from decide_eq_false (fun h=>e3 (congrArg Tg.u h)));go_enter Tryz.func206,Tryz.ntmps206
      go_wp2_with (first
       |(go_at_call 228;refine Calls.mono (T1.o _ HB.o) ?_;rintro e3 w1 ⟨rfl,hb⟩;replace HX:=I (HX.o.below hb);replace HY:=I (HY.o.below hb);replace HB:=HB.t hb;clear hb T1;have kx4:w1.cell? ⟨w.heap.size,4,none⟩=some (.slice A2 a.length c2):=HX.o.cell 4;have ky4:w1.cell? ⟨w.heap.size+1,4,none⟩=some (.slice D2 a.length d2):=HY.o.cell 4;have kx5:w1.cell? ⟨w.heap.size,5,none⟩=some (.string ⟨List.toArray r⟩):=HX.o.cell 5;have ky5:w1.cell? ⟨w.heap.size+1,5,none⟩=some (.string ⟨List.toArray r⟩):=HY.o.cell 5;have kx6:w1.cell? ⟨w.heap.size,6,none⟩=some (.string ⟨List.toArray n⟩):=HX.o.cell 6;have ky6:w1.cell? ⟨w.heap.size+1,6,none⟩=some (.string ⟨List.toArray n⟩):=HY.o.cell 6;have kx7:w1.cell? ⟨w.heap.size,7,none⟩=some (.int .i64 u):=HX.o.cell 7;have ky7:w1.cell? ⟨w.heap.size+1,7,none⟩=some (.int .i64 u2):=HY.o.cell 7;have kx8:w1.cell? ⟨w.heap.size,8,none⟩=some (.int .i64 no):=HX.o.cell 8;have ky8:w1.cell? ⟨w.heap.size+1,8,none⟩=some (.int .i64 no2):=HY.o.cell 8)
       |(go_at_call 131;refine Calls.mono (T2.o _ HB.o) ?_;rintro e4 wb2 ⟨rfl,hw⟩;subst hw;clear T2))
      go_ret;exact⟨by rw[E.o];rfl,HB.o⟩
    ·have E:=I (show decide ((⟨t,a,(r,n),u,no⟩:Tg)=⟨t,a,(r,n2),u2,no2⟩)=false from decide_eq_false (fun h=>e2b (congrArg (fun t=>t.s.2) h)))
     go_enter Tryz.func206,Tryz.ntmps206
     go_wp2_with (first
      |(go_at_call 228;refine Calls.mono (T1.o _ HB.o) ?_;rintro e3 w1 ⟨rfl,hb⟩;replace HX:=I (HX.o.below hb);replace HY:=I (HY.o.below hb);replace HB:=HB.t hb;clear hb T1;have kx4:w1.cell? ⟨w.heap.size,4,none⟩=some (.slice A2 a.length c2):=HX.o.cell 4;have ky4:w1.cell? ⟨w.heap.size+1,4,none⟩=some (.slice D2 a.length d2):=HY.o.cell 4;have kx5:w1.cell? ⟨w.heap.size,5,none⟩=some (.string ⟨List.toArray r⟩):=HX.o.cell 5;have ky5:w1.cell? ⟨w.heap.size+1,5,none⟩=some (.string ⟨List.toArray r⟩):=HY.o.cell 5;have kx6:w1.cell? ⟨w.heap.size,6,none⟩=some (.string ⟨List.toArray n⟩):=HX.o.cell 6;have ky6:w1.cell? ⟨w.heap.size+1,6,none⟩=some (.string ⟨List.toArray n2⟩):=HY.o.cell 6;have kx7:w1.cell? ⟨w.heap.size,7,none⟩=some (.int .i64 u):=HX.o.cell 7;have ky7:w1.cell? ⟨w.heap.size+1,7,none⟩=some (.int .i64 u2):=HY.o.cell 7;have kx8:w1.cell? ⟨w.heap.size,8,none⟩=some (.int .i64 no):=HX.o.cell 8;have ky8:w1.cell? ⟨w.heap.size+1,8,none⟩=some (.int .i64 no2):=HY.o.cell 8)
      |(go_at_call 131;refine Calls.mono (T2.o _ HB.o) ?_;rintro e4 wb2 ⟨rfl,hw⟩;subst hw;clear T2))
     go_ret;exact⟨by rw[E.o];rfl,HB.o⟩
   ·have E:=I (show decide ((⟨t,a,(r,n),u,no⟩:Tg)=⟨t,a,(r2,n2),u2,no2⟩)=false from decide_eq_false (fun h=>e2a (congrArg (fun t=>t.s.1) h)))
    go_enter Tryz.func206,Tryz.ntmps206
    go_wp2_with (first
     |(go_at_call 228;refine Calls.mono (T1.o _ HB.o) ?_;rintro e3 w1 ⟨rfl,hb⟩;replace HX:=I (HX.o.below hb);replace HY:=I (HY.o.below hb);replace HB:=HB.t hb;clear hb T1;have kx4:w1.cell? ⟨w.heap.size,4,none⟩=some (.slice A2 a.length c2):=HX.o.cell 4;have ky4:w1.cell? ⟨w.heap.size+1,4,none⟩=some (.slice D2 a.length d2):=HY.o.cell 4;have kx5:w1.cell? ⟨w.heap.size,5,none⟩=some (.string ⟨List.toArray r⟩):=HX.o.cell 5;have ky5:w1.cell? ⟨w.heap.size+1,5,none⟩=some (.string ⟨List.toArray r2⟩):=HY.o.cell 5;have kx6:w1.cell? ⟨w.heap.size,6,none⟩=some (.string ⟨List.toArray n⟩):=HX.o.cell 6;have ky6:w1.cell? ⟨w.heap.size+1,6,none⟩=some (.string ⟨List.toArray n2⟩):=HY.o.cell 6;have kx7:w1.cell? ⟨w.heap.size,7,none⟩=some (.int .i64 u):=HX.o.cell 7;have ky7:w1.cell? ⟨w.heap.size+1,7,none⟩=some (.int .i64 u2):=HY.o.cell 7;have kx8:w1.cell? ⟨w.heap.size,8,none⟩=some (.int .i64 no):=HX.o.cell 8;have ky8:w1.cell? ⟨w.heap.size+1,8,none⟩=some (.int .i64 no2):=HY.o.cell 8)
     |(go_at_call 131;refine Calls.mono (T2.o _ HB.o) ?_;rintro e4 wb2 ⟨rfl,hw⟩;subst hw;clear T2))
    go_ret;exact⟨by rw[E.o];rfl,HB.o⟩
theorem EG (x y:Re) (A1 A2 D1 D2:Option Addr) (c1 c2 d1 d2:Nat) (w:World) (h1:Rd w w.heap.size A1 (bvs x.t.b)) (g1:Rd w w.heap.size D1 (bvs y.t.b)) (h2:Rd w w.heap.size A2 (bvs x.b)) (g2:Rd w w.heap.size D2 (bvs y.b)) :
  Calls Tryz.prog 207 #[.agg #[.string ⟨x.c.1.toArray⟩,.string ⟨x.c.2.toArray⟩,.string ⟨x.t.s.1.toArray⟩,.string ⟨x.t.s.2.toArray⟩,.int .i64 x.t.k,.slice A1 x.t.b.length c1,.slice A2 x.b.length c2],.agg #[.string ⟨y.c.1.toArray⟩,.string ⟨y.c.2.toArray⟩,.string ⟨y.t.s.1.toArray⟩,.string ⟨y.t.s.2.toArray⟩,.int .i64 y.t.k,.slice D1 y.t.b.length d1,.slice D2 y.b.length d2]] w fun e w'=>e = .returned (.bool (decide (x=y)))∧Below w.heap.size w w':=by
 obtain⟨⟨r,n⟩,t,b⟩:=x;obtain⟨⟨r2,n2⟩,t2,b2⟩:=y;simp only at h1 g1 h2 g2⊢;have HB:=I (((Below.refl w.heap.size w).alloc Ae (.cells #[.string ⟨List.toArray r⟩,.string ⟨List.toArray n⟩,.string ⟨t.s.1.toArray⟩,.string ⟨t.s.2.toArray⟩,.int .i64 t.k,.slice A1 t.b.length c1,.slice A2 b.length c2] 70)).alloc (by simp) (.cells #[.string ⟨List.toArray r2⟩,.string ⟨List.toArray n2⟩,.string ⟨t2.s.1.toArray⟩,.string ⟨t2.s.2.toArray⟩,.int .i64 t2.k,.slice D1 t2.b.length d1,.slice D2 b2.length d2] 70));have HX:=I ((Blk.new w 70 #[.string ⟨List.toArray r⟩,.string ⟨List.toArray n⟩,.string ⟨t.s.1.toArray⟩,.string ⟨t.s.2.toArray⟩,.int .i64 t.k,.slice A1 t.b.length c1,.slice A2 b.length c2]).alloc (.cells #[.string ⟨List.toArray r2⟩,.string ⟨List.toArray n2⟩,.string ⟨t2.s.1.toArray⟩,.string ⟨t2.s.2.toArray⟩,.int .i64 t2.k,.slice D1 t2.b.length d1,.slice D2 b2.length d2] 70));have hy:=Blk.new (w.alloc (.cells #[.string ⟨List.toArray r⟩,.string ⟨List.toArray n⟩,.string ⟨t.s.1.toArray⟩,.string ⟨t.s.2.toArray⟩,.int .i64 t.k,.slice A1 t.b.length c1,.slice A2 b.length c2] 70)) 70 #[.string ⟨List.toArray r2⟩,.string ⟨List.toArray n2⟩,.string ⟨t2.s.1.toArray⟩,.string ⟨t2.s.2.toArray⟩,.int .i64 t2.k,.slice D1 t2.b.length d1,.slice D2 b2.length d2];rw[show(w.alloc (.cells #[.string ⟨List.toArray r⟩,.string ⟨List.toArray n⟩,.string ⟨t.s.1.toArray⟩,.string ⟨t.s.2.toArray⟩,.int .i64 t.k,.slice A1 t.b.length c1,.slice A2 b.length c2] 70)).heap.size=w.heap.size+1 by simp] at hy;have HY:=I hy;clear hy;have T1:=I (fun w1 (h:Below w.heap.size w w1)=>CL t t2 A1 D1 c1 d1 w1 ((h1.below h).more h.size) ((g1.below h).more h.size));have T2:=I (fun w1 (h:Below w.heap.size w w1)=>DP b b2 A2 D2 c2 d2 w.heap.size w1 (h2.below h) (g2.below h));clear h1 g1 h2 g2
 by_cases e0a:r=r2
 ·subst e0a
  by_cases e0b:n=n2
  ·subst e0b
   cases e1:decide (t=t2) with
   |false=>
    have E:=I (show decide ((⟨(r,n),t,b⟩:Re)=⟨(r,n),t2,b2⟩)=false from decide_eq_false (fun h=>of_decide_eq_false e1 (congrArg Re.t h)));rw[e1] at T1;clear e1;go_enter Tryz.func207,Tryz.ntmps207
    go_wp2_with (go_at_call 228;refine Calls.mono (T1.o _ HB.o) ?_;rintro e3 w1 ⟨rfl,hb⟩;replace HX:=I (HX.o.below hb);replace HY:=I (HY.o.below hb);replace HB:=HB.t hb;clear hb T1;have kx6:w1.cell? ⟨w.heap.size,6,none⟩=some (.slice A2 b.length c2):=HX.o.cell 6;have ky6:w1.cell? ⟨w.heap.size+1,6,none⟩=some (.slice D2 b2.length d2):=HY.o.cell 6)
    go_ret;exact⟨by rw[E.o];rfl,HB.o⟩
   |true=>
    rw[e1] at T1;have e1':=of_decide_eq_true e1;clear e1;subst e1';cases e2:decide (b=b2) with
    |false=>
     have E:=I (show decide ((⟨(r,n),t,b⟩:Re)=⟨(r,n),t,b2⟩)=false from decide_eq_false (fun h=>of_decide_eq_false e2 (congrArg Re.b h)));rw[e2] at T2;clear e2;go_enter Tryz.func207,Tryz.ntmps207
     go_wp2_with (first
      |(go_at_call 228;refine Calls.mono (T1.o _ HB.o) ?_;rintro e3 w1 ⟨rfl,hb⟩;replace HX:=I (HX.o.below hb);replace HY:=I (HY.o.below hb);replace HB:=HB.t hb;clear hb T1;have kx6:w1.cell? ⟨w.heap.size,6,none⟩=some (.slice A2 b.length c2):=HX.o.cell 6;have ky6:w1.cell? ⟨w.heap.size+1,6,none⟩=some (.slice D2 b2.length d2):=HY.o.cell 6)
      |(go_at_call 131;refine Calls.mono (T2.o _ HB.o) ?_;rintro e4 wb2 ⟨rfl,hw⟩;subst hw;clear T2))
     go_ret;exact⟨by rw[E.o];rfl,HB.o⟩
    |true=>
     rw[e2] at T2;have e2':=of_decide_eq_true e2;clear e2;subst e2';have E:=I (show decide ((⟨(r,n),t,b⟩:Re)=⟨(r,n),t,b⟩)=true from decide_eq_true rfl);go_enter Tryz.func207,Tryz.ntmps207
     go_wp2_with (first
      |(go_at_call 228;refine Calls.mono (T1.o _ HB.o) ?_;rintro e3 w1 ⟨rfl,hb⟩;replace HX:=I (HX.o.below hb);replace HY:=I (HY.o.below hb);replace HB:=HB.t hb;clear hb T1;have kx6:w1.cell? ⟨w.heap.size,6,none⟩=some (.slice A2 b.length c2):=HX.o.cell 6;have ky6:w1.cell? ⟨w.heap.size+1,6,none⟩=some (.slice D2 b.length d2):=HY.o.cell 6)
      |(go_at_call 131;refine Calls.mono (T2.o _ HB.o) ?_;rintro e4 wb2 ⟨rfl,hw⟩;subst hw;clear T2))
     go_ret;exact⟨by rw[E.o];rfl,HB.o⟩
  ·have E:=I (show decide ((⟨(r,n),t,b⟩:Re)=⟨(r,n2),t2,b2⟩)=false from decide_eq_false (fun h=>e0b (congrArg (fun t=>t.c.2) h)))
   go_enter Tryz.func207,Tryz.ntmps207
   go_wp2
   go_ret;exact⟨by rw[E.o];rfl,HB.o⟩
 ·have E:=I (show decide ((⟨(r,n),t,b⟩:Re)=⟨(r2,n2),t2,b2⟩)=false from decide_eq_false (fun h=>e0a (congrArg (fun t=>t.c.1) h)))
  go_enter Tryz.func207,Tryz.ntmps207
  go_wp2
  go_ret;exact⟨by rw[E.o];rfl,HB.o⟩
theorem EH (x y:Ap) (A1 A2 D1 D2:Option Addr) (c1 c2 d1 d2:Nat) (w:World) (h1:Rd w w.heap.size A1 (bvs x.t.b)) (g1:Rd w w.heap.size D1 (bvs y.t.b)) (h2:Rd w w.heap.size A2 (bvs x.a)) (g2:Rd w w.heap.size D2 (bvs y.a)) :
  Calls Tryz.prog 208 #[.agg #[.string ⟨x.t.s.1.toArray⟩,.string ⟨x.t.s.2.toArray⟩,.int .i64 x.t.k,.slice A1 x.t.b.length c1,.slice A2 x.a.length c2],.agg #[.string ⟨y.t.s.1.toArray⟩,.string ⟨y.t.s.2.toArray⟩,.int .i64 y.t.k,.slice D1 y.t.b.length d1,.slice D2 y.a.length d2]] w fun e w'=>e = .returned (.bool (decide (x=y)))∧Below w.heap.size w w':=by
 obtain⟨t,a⟩:=x;obtain⟨t2,a2⟩:=y;simp only at h1 g1 h2 g2⊢;have HB:=I (((Below.refl w.heap.size w).alloc Ae (.cells #[.string ⟨t.s.1.toArray⟩,.string ⟨t.s.2.toArray⟩,.int .i64 t.k,.slice A1 t.b.length c1,.slice A2 a.length c2] 72)).alloc (by simp) (.cells #[.string ⟨t2.s.1.toArray⟩,.string ⟨t2.s.2.toArray⟩,.int .i64 t2.k,.slice D1 t2.b.length d1,.slice D2 a2.length d2] 72));have HX:=I ((Blk.new w 72 #[.string ⟨t.s.1.toArray⟩,.string ⟨t.s.2.toArray⟩,.int .i64 t.k,.slice A1 t.b.length c1,.slice A2 a.length c2]).alloc (.cells #[.string ⟨t2.s.1.toArray⟩,.string ⟨t2.s.2.toArray⟩,.int .i64 t2.k,.slice D1 t2.b.length d1,.slice D2 a2.length d2] 72));have hy:=Blk.new (w.alloc (.cells #[.string ⟨t.s.1.toArray⟩,.string ⟨t.s.2.toArray⟩,.int .i64 t.k,.slice A1 t.b.length c1,.slice A2 a.length c2] 72)) 72 #[.string ⟨t2.s.1.toArray⟩,.string ⟨t2.s.2.toArray⟩,.int .i64 t2.k,.slice D1 t2.b.length d1,.slice D2 a2.length d2];rw[show(w.alloc (.cells #[.string ⟨t.s.1.toArray⟩,.string ⟨t.s.2.toArray⟩,.int .i64 t.k,.slice A1 t.b.length c1,.slice A2 a.length c2] 72)).heap.size=w.heap.size+1 by simp] at hy;have HY:=I hy;clear hy;have T1:=I (fun w1 (h:Below w.heap.size w w1)=>CL t t2 A1 D1 c1 d1 w1 ((h1.below h).more h.size) ((g1.below h).more h.size));have T2:=I (fun w1 (h:Below w.heap.size w w1)=>DP a a2 A2 D2 c2 d2 w.heap.size w1 (h2.below h) (g2.below h));clear h1 g1 h2 g2;cases e0:decide (t=t2) with
 |false=>
  have E:=I (show decide ((⟨t,a⟩:Ap)=⟨t2,a2⟩)=false from decide_eq_false (fun h=>of_decide_eq_false e0 (congrArg Ap.t h)));rw[e0] at T1;clear e0;go_enter Tryz.func208,Tryz.ntmps208
  go_wp2_with (go_at_call 228;refine Calls.mono (T1.o _ HB.o) ?_;rintro e3 w1 ⟨rfl,hb⟩;replace HX:=I (HX.o.below hb);replace HY:=I (HY.o.below hb);replace HB:=HB.t hb;clear hb T1;have kx4:w1.cell? ⟨w.heap.size,4,none⟩=some (.slice A2 a.length c2):=HX.o.cell 4;have ky4:w1.cell? ⟨w.heap.size+1,4,none⟩=some (.slice D2 a2.length d2):=HY.o.cell 4)
  go_ret;exact⟨by rw[E.o];rfl,HB.o⟩
 |true=>
  rw[e0] at T1;have e0':=of_decide_eq_true e0;clear e0;subst e0';cases e1:decide (a=a2) with
  |false=>
   have E:=I (show decide ((⟨t,a⟩:Ap)=⟨t,a2⟩)=false from decide_eq_false (fun h=>of_decide_eq_false e1 (congrArg Ap.a h)));rw[e1] at T2;clear e1;go_enter Tryz.func208,Tryz.ntmps208
   go_wp2_with (first
    |(go_at_call 228;refine Calls.mono (T1.o _ HB.o) ?_;rintro e3 w1 ⟨rfl,hb⟩;replace HX:=I (HX.o.below hb);replace HY:=I (HY.o.below hb);replace HB:=HB.t hb;clear hb T1;have kx4:w1.cell? ⟨w.heap.size,4,none⟩=some (.slice A2 a.length c2):=HX.o.cell 4;have ky4:w1.cell? ⟨w.heap.size+1,4,none⟩=some (.slice D2 a2.length d2):=HY.o.cell 4)
    |(go_at_call 131;refine Calls.mono (T2.o _ HB.o) ?_;rintro e4 wb2 ⟨rfl,hw⟩;subst hw;clear T2))
   go_ret;exact⟨by rw[E.o];rfl,HB.o⟩
  |true=>
   rw[e1] at T2;have e1':=of_decide_eq_true e1;clear e1;subst e1';have E:=I (show decide ((⟨t,a⟩:Ap)=⟨t,a⟩)=true from decide_eq_true rfl);go_enter Tryz.func208,Tryz.ntmps208
   go_wp2_with (first
    |(go_at_call 228;refine Calls.mono (T1.o _ HB.o) ?_;rintro e3 w1 ⟨rfl,hb⟩;replace HX:=I (HX.o.below hb);replace HY:=I (HY.o.below hb);replace HB:=HB.t hb;clear hb T1;have kx4:w1.cell? ⟨w.heap.size,4,none⟩=some (.slice A2 a.length c2):=HX.o.cell 4;have ky4:w1.cell? ⟨w.heap.size+1,4,none⟩=some (.slice D2 a.length d2):=HY.o.cell 4)
    |(go_at_call 131;refine Calls.mono (T2.o _ HB.o) ?_;rintro e4 wb2 ⟨rfl,hw⟩;subst hw;clear T2))
   go_ret;exact⟨by rw[E.o];rfl,HB.o⟩
open DerC
theorem Bm (w:World) (t:TypeId) (lit cs:Array Value) (hs:lit.size=cs.size):Blk ((w.alloc (.cells lit t)).setCells w.heap.size 0 cs.toList) w.heap.size t cs∧Below w.heap.size w ((w.alloc (.cells lit t)).setCells w.heap.size 0 cs.toList):=
 ⟨AN (Blk.new w t lit) hs,AV ((Below.refl w.heap.size w).alloc Ae _) (Bs _ _ _) (by simp) Ae⟩
def zA:Array Value:=(asC as0).toArray
def zT:Array Value:=(tgC tg0 (.slice none 0 0) (.slice none 0 0)).toArray
def zR:Array Value:=(reC re0 (.slice none 0 0) (.slice none 0 0)).toArray
def zP:Array Value:=(apC ap0 (.slice none 0 0) (.slice none 0 0)).toArray
def zF:Array Value:=(faC fa0).toArray
theorem zA_v:AsV zA as0:=rfl
theorem zF_v:FaV zF fa0:=rfl
theorem zT_v (w:World) (B:Nat):TgV w B zT tg0:=⟨_,_,rfl,SlB.nil w B,SlB.nil w B⟩
theorem zR_v (w:World) (B:Nat):ReV w B zR re0:=⟨_,_,rfl,SlB.nil w B,SlB.nil w B⟩
theorem zP_v (w:World) (B:Nat):ApV w B zP ap0:=⟨_,_,rfl,SlB.nil w B,SlB.nil w B⟩
theorem zM_v (w:World) (B:Nat) (k:Int):MgP w B zA zT zR zP zF ⟨k,as0,tg0,re0,ap0,fa0⟩:=⟨zA_v,zT_v w B,zR_v w B,zP_v w B,zF_v⟩
def nm (m:Mg):Mg:=if m.k=1 then ⟨1,m.aq,tg0,re0,ap0,fa0⟩ else if m.k=2 then ⟨2,as0,m.tg,re0,ap0,fa0⟩ else if m.k=3 then ⟨3,as0,tg0,m.re,ap0,fa0⟩ else if m.k=4 then ⟨4,as0,tg0,re0,m.ap,fa0⟩ else if m.k=5 then ⟨5,as0,tg0,re0,ap0,m.fa⟩ else ⟨m.k,as0,tg0,re0,ap0,fa0⟩
theorem Ii (k:Int):Tryz.prog.built 76 [(0,.int .i64 k)]=some (mgA k zA zT zR zP zF):=by kernel_rfl
theorem Gz (cs:Array Value) (m:Mg) (w:World) (h:MgV w w.heap.size cs m):Calls Tryz.prog 174 #[.agg cs] w fun e w'=>∃ds,e = .returned (.agg ds)∧MgV w' w'.heap.size ds (nm m)∧Below w.heap.size w w':=by
 obtain⟨pa,pt,pr,pp,pf,hc,hp⟩:=h;obtain⟨zz,ezz⟩:∃z:Array Value,z=#[.int .i64 0,.string ⟨#[]⟩,.string ⟨#[]⟩,.string ⟨#[]⟩,.string ⟨#[]⟩,.int .i64 0,.int .i64 0,.string ⟨#[]⟩,.string ⟨#[]⟩,.int .i64 0,.slice none 0 0,.slice none 0 0,.string ⟨#[]⟩,.string ⟨#[]⟩,.int .i64 0,.int .i64 0,.string ⟨#[]⟩,.string ⟨#[]⟩,.string ⟨#[]⟩,.string ⟨#[]⟩,.int .i64 0,.slice none 0 0,.slice none 0 0,.string ⟨#[]⟩,.string ⟨#[]⟩,.int .i64 0,.slice none 0 0,.slice none 0 0,.int .i64 0,.int .i64 0]:=⟨_,rfl⟩;have ez0:zz=mgA 0 zA zT zR zP zF:=by rw[ezz];rfl
 have hzs:zz.size=30:=by rw[ez0];exact(zM_v w 0 0).size 0
 have HZS:=I hzs;obtain⟨W,eW⟩:∃W,W=(w.alloc (.cells cs 76)).alloc (.cells zz 76):=⟨_,rfl⟩;have hWs:W.heap.size=w.heap.size+1+1:=by rw[eW];simp
 have HK:=I (show Blk W w.heap.size 76 (mgA m.k pa pt pr pp pf) by rw[eW,←hc];exact(Blk.new _ _ _).alloc _);have hq:=Blk.new (w.alloc (.cells cs 76)) 76 zz;rw[show(w.alloc (.cells cs 76)).heap.size=w.heap.size+1 by simp,←eW] at hq;have HR:=I hq;clear hq;have HG:=I (show Below w.heap.size w W by rw[eW];exact(Af.alloc Ae _).alloc (by simp) _);have HA:=I (hp.at_ HK.o);have k0:=HA.o.k;have HP:=I hp;have HWS:=I hWs;have HBT:=I (Ii m.k);obtain⟨c0,ec0⟩:∃c,c=mgA m.k zA zT zR zP zF:=⟨_,rfl⟩;have hc0:c0.size=30:=by rw[ec0];exact(zM_v w 0 m.k).size m.k
 have HO:=I (show c0.all (·.oneCell')=true by rw[ec0];exact(zM_v w 0 m.k).one m.k);have HI:=I (show(Tryz.prog.info? 76).map (·.size)=some c0.size by rw[hc0];exact Bt);have HCS:=I hc0;rw[←ec0] at HBT;have EC:=I ec0;clear hc hp hWs hzs hc0 ec0 ez0
 by_cases m1:m.k=1
 ·have y1:(m.k==1)=true:=by simpa using m1
  have y2:(m.k==2)=false:=by simp;omega
  have y3:(m.k==3)=false:=by simp;omega
  have y4:(m.k==4)=false:=by simp;omega
  have y5:(m.k==5)=false:=by simp;omega
  have EN:=I (show nm m=⟨m.k,m.aq,tg0,re0,ap0,fa0⟩ by rw[nm,if_pos m1,m1]);clear m1;have HM:=I (show MgP w w.heap.size pa zT zR zP zF ⟨m.k,m.aq,tg0,re0,ap0,fa0⟩ from⟨HP.o.a,zT_v w w.heap.size,zR_v w w.heap.size,zP_v w w.heap.size,zF_v⟩);have HDI:=I (show(Tryz.prog.info? 76).map (·.size)=some (mgA m.k pa zT zR zP zF).size by rw[HM.o.size];exact Bt);go_enter Tryz.func174,Tryz.ntmps174
  go_upto_region 1 with fail
  rw[←ezz,←eW];clear ezz eW
  go_wp2_with (first
   |(refine Ac (by rfl) 76 #[(0,.tmp 5)] (by rfl) c0 (by simp only[List.map_toArray,List.map_cons,List.map_nil];exact HBT.o) ?_)
   |(refine wpList_store_mid (by rfl) 76 (.tmp 3) (.tmp 6) (by rfl) W.heap.size 0 c0 (by rfl) (by rfl) (AI (Blk.new W 76 #[.int .i64 0,.string ⟨#[]⟩,.string ⟨#[]⟩,.string ⟨#[]⟩,.string ⟨#[]⟩,.int .i64 0,.int .i64 0,.string ⟨#[]⟩,.string ⟨#[]⟩,.int .i64 0,.slice none 0 0,.slice none 0 0,.string ⟨#[]⟩,.string ⟨#[]⟩,.int .i64 0,.int .i64 0,.string ⟨#[]⟩,.string ⟨#[]⟩,.string ⟨#[]⟩,.string ⟨#[]⟩,.int .i64 0,.slice none 0 0,.slice none 0 0,.string ⟨#[]⟩,.string ⟨#[]⟩,.int .i64 0,.slice none 0 0,.slice none 0 0,.int .i64 0,.int .i64 0]) _ (by have:=HCS.o;simp;omega)) HI.o HO.o ?_;have hV:=Bm W 76 #[.int .i64 0,.string ⟨#[]⟩,.string ⟨#[]⟩,.string ⟨#[]⟩,.string ⟨#[]⟩,.int .i64 0,.int .i64 0,.string ⟨#[]⟩,.string ⟨#[]⟩,.int .i64 0,.slice none 0 0,.slice none 0 0,.string ⟨#[]⟩,.string ⟨#[]⟩,.int .i64 0,.int .i64 0,.string ⟨#[]⟩,.string ⟨#[]⟩,.string ⟨#[]⟩,.string ⟨#[]⟩,.int .i64 0,.slice none 0 0,.slice none 0 0,.string ⟨#[]⟩,.string ⟨#[]⟩,.int .i64 0,.slice none 0 0,.slice none 0 0,.int .i64 0,.int .i64 0] c0 (by have:=HCS.o;simp;omega);generalize ((W.alloc (.cells #[.int .i64 0,.string ⟨#[]⟩,.string ⟨#[]⟩,.string ⟨#[]⟩,.string ⟨#[]⟩,.int .i64 0,.int .i64 0,.string ⟨#[]⟩,.string ⟨#[]⟩,.int .i64 0,.slice none 0 0,.slice none 0 0,.string ⟨#[]⟩,.string ⟨#[]⟩,.int .i64 0,.int .i64 0,.string ⟨#[]⟩,.string ⟨#[]⟩,.string ⟨#[]⟩,.string ⟨#[]⟩,.int .i64 0,.slice none 0 0,.slice none 0 0,.string ⟨#[]⟩,.string ⟨#[]⟩,.int .i64 0,.slice none 0 0,.slice none 0 0,.int .i64 0,.int .i64 0] 76)).setCells W.heap.size 0 c0.toList)=V at hV⊢;have HX:=I (show Blk V W.heap.size 76 (mgA m.k zA zT zR zP zF) from EC.o▸hV.1);replace HK:=I (HK.o.below hV.2);replace HR:=I (HR.o.below hV.2);replace HG:=I (HG.o.trans (hV.2.mono HG.o.size));clear hV HA k0;have HA:=I (HP.o.at_ HK.o);have k0:=HA.o.k)
   |(refine Aq (by rfl) 66 (.tmp 11) (by rfl) w.heap.size 1 (by rfl) pa _ HA.o.a Tryz.underlying66 (by rfl) (by rw[HP.o.a.size];exact AS) ?_)
   |(refine wpList_store_mid (by rfl) 66 (.tmp 13) (.tmp 12) (by rfl) W.heap.size 1 pa (by rfl) (by rfl) (AU HX.o 1 _ (by rw[(zM_v W 0 m.k).size m.k,HP.o.a.size];omega)) (by rw[HP.o.a.size];exact AS) HP.o.a.one ?_;have hX:=Dn (ps:=pa) (ds:=mgA m.k pa zT zR zP zF) (pre:=[.int .i64 m.k]) (mid:=zA.toList) (post:=zT.toList++zR.toList++zP.toList++zF.toList) (o:=1) HX.o (by simp [mgA]) (by rfl) (by rw[HP.o.a.size];rfl) (by simp [mgA]);have hpm:=By V W.heap.size 1 pa.toList;generalize V.setCells W.heap.size 1 pa.toList=V2 at hX hpm⊢;replace HX:=I hX;replace HR:=I (HR.o.grown hpm (by intro e;injection e with e;have:=HWS.o;omega));replace HG:=I (AV HG.o hpm HG.o.size (by have:=HWS.o;omega));clear hX hpm HA HK k0)
   |(refine Aq (by rfl) 76 (.tmp 3) (by rfl) W.heap.size 0 (by rfl) (mgA m.k pa zT zR zP zF) _ (Ak HX.o) Tryz.underlying76 (by rfl) HDI.o ?_)
   |(refine wpList_store_mid (by rfl) 76 (.tmp 2) (.tmp 34) (by rfl) (w.heap.size+1) 0 (mgA m.k pa zT zR zP zF) (by rfl) (by rfl) (AI HR.o _ (by rw[HM.o.size];have:=HZS.o;omega)) HDI.o (HM.o.one _) ?_)
   |fail)
  have hE:=AN (ds:=mgA m.k pa zT zR zP zF) HR.o (by rw[HM.o.size];have:=HZS.o;omega);have hp:=Bs V2 (w.heap.size+1) (mgA m.k pa zT zR zP zF).toList;have hq:=Ar (P:=Tryz.prog) hE Tryz.underlying76 rfl HDI.o;refine bodyPost_ret (v:=.agg (mgA m.k pa zT zR zP zF)) ?_ ?_ ?_
  ·exact An 2 76 ⟨w.heap.size+1,0,none⟩ Tryz.results174 rfl hq
  ·rfl
  have hB:=AV HG.o hp HG.o.size (by omega);refine⟨_,rfl,?_,hB⟩;rw[EN.o];exact⟨pa,zT,zR,zP,zF,rfl,(HM.o.keep hB).more hB.size⟩
 ·have nm1:=m1
  by_cases m2:m.k=2
  ·have y1:(m.k==1)=false:=by simp;omega
   have y2:(m.k==2)=true:=by simpa using m2
   have y3:(m.k==3)=false:=by simp;omega
   have y4:(m.k==4)=false:=by simp;omega
   have y5:(m.k==5)=false:=by simp;omega
   have EN:=I (show nm m=⟨m.k,as0,m.tg,re0,ap0,fa0⟩ by rw[nm,if_neg m1,if_pos m2,m2]);clear m1 m2;have HM:=I (show MgP w w.heap.size zA pt zR zP zF ⟨m.k,as0,m.tg,re0,ap0,fa0⟩ from⟨zA_v,HP.o.t,zR_v w w.heap.size,zP_v w w.heap.size,zF_v⟩);have HDI:=I (show(Tryz.prog.info? 76).map (·.size)=some (mgA m.k zA pt zR zP zF).size by rw[HM.o.size];exact Bt);go_enter Tryz.func174,Tryz.ntmps174
   go_upto_region 1 with fail
   rw[←ezz,←eW];clear ezz eW
   go_wp2_with (first
    |(refine Ac (by rfl) 76 #[(0,.tmp 5)] (by rfl) c0 (by simp only[List.map_toArray,List.map_cons,List.map_nil];exact HBT.o) ?_)
    |(refine wpList_store_mid (by rfl) 76 (.tmp 3) (.tmp 6) (by rfl) W.heap.size 0 c0 (by rfl) (by rfl) (AI (Blk.new W 76 #[.int .i64 0,.string ⟨#[]⟩,.string ⟨#[]⟩,.string ⟨#[]⟩,.string ⟨#[]⟩,.int .i64 0,.int .i64 0,.string ⟨#[]⟩,.string ⟨#[]⟩,.int .i64 0,.slice none 0 0,.slice none 0 0,.string ⟨#[]⟩,.string ⟨#[]⟩,.int .i64 0,.int .i64 0,.string ⟨#[]⟩,.string ⟨#[]⟩,.string ⟨#[]⟩,.string ⟨#[]⟩,.int .i64 0,.slice none 0 0,.slice none 0 0,.string ⟨#[]⟩,.string ⟨#[]⟩,.int .i64 0,.slice none 0 0,.slice none 0 0,.int .i64 0,.int .i64 0]) _ (by have:=HCS.o;simp;omega)) HI.o HO.o ?_;have hV:=Bm W 76 #[.int .i64 0,.string ⟨#[]⟩,.string ⟨#[]⟩,.string ⟨#[]⟩,.string ⟨#[]⟩,.int .i64 0,.int .i64 0,.string ⟨#[]⟩,.string ⟨#[]⟩,.int .i64 0,.slice none 0 0,.slice none 0 0,.string ⟨#[]⟩,.string ⟨#[]⟩,.int .i64 0,.int .i64 0,.string ⟨#[]⟩,.string ⟨#[]⟩,.string ⟨#[]⟩,.string ⟨#[]⟩,.int .i64 0,.slice none 0 0,.slice none 0 0,.string ⟨#[]⟩,.string ⟨#[]⟩,.int .i64 0,.slice none 0 0,.slice none 0 0,.int .i64 0,.int .i64 0] c0 (by have:=HCS.o;simp;omega);generalize ((W.alloc (.cells #[.int .i64 0,.string ⟨#[]⟩,.string ⟨#[]⟩,.string ⟨#[]⟩,.string ⟨#[]⟩,.int .i64 0,.int .i64 0,.string ⟨#[]⟩,.string ⟨#[]⟩,.int .i64 0,.slice none 0 0,.slice none 0 0,.string ⟨#[]⟩,.string ⟨#[]⟩,.int .i64 0,.int .i64 0,.string ⟨#[]⟩,.string ⟨#[]⟩,.string ⟨#[]⟩,.string ⟨#[]⟩,.int .i64 0,.slice none 0 0,.slice none 0 0,.string ⟨#[]⟩,.string ⟨#[]⟩,.int .i64 0,.slice none 0 0,.slice none 0 0,.int .i64 0,.int .i64 0] 76)).setCells W.heap.size 0 c0.toList)=V at hV⊢;have HX:=I (show Blk V W.heap.size 76 (mgA m.k zA zT zR zP zF) from EC.o▸hV.1);replace HK:=I (HK.o.below hV.2);replace HR:=I (HR.o.below hV.2);replace HG:=I (HG.o.trans (hV.2.mono HG.o.size));clear hV HA k0;have HA:=I (HP.o.at_ HK.o);have k0:=HA.o.k)
    |(refine Aq (by rfl) 68 (.tmp 16) (by rfl) w.heap.size 7 (by rfl) pt _ HA.o.t Tryz.underlying68 (by rfl) (by rw[HP.o.t.size];exact Ba) ?_)
    |(refine wpList_store_mid (by rfl) 68 (.tmp 18) (.tmp 17) (by rfl) W.heap.size 7 pt (by rfl) (by rfl) (AU HX.o 7 _ (by rw[(zM_v W 0 m.k).size m.k,HP.o.t.size];omega)) (by rw[HP.o.t.size];exact Ba) HP.o.t.one ?_;have hX:=Dn (ps:=pt) (ds:=mgA m.k zA pt zR zP zF) (pre:=[.int .i64 m.k]++zA.toList) (mid:=zT.toList) (post:=zR.toList++zP.toList++zF.toList) (o:=7) HX.o (by simp [mgA]) (by rfl) (by rw[HP.o.t.size];rfl) (by simp [mgA]);have hpm:=By V W.heap.size 7 pt.toList;generalize V.setCells W.heap.size 7 pt.toList=V2 at hX hpm⊢;replace HX:=I hX;replace HR:=I (HR.o.grown hpm (by intro e;injection e with e;have:=HWS.o;omega));replace HG:=I (AV HG.o hpm HG.o.size (by have:=HWS.o;omega));clear hX hpm HA HK k0)
    |(refine Aq (by rfl) 76 (.tmp 3) (by rfl) W.heap.size 0 (by rfl) (mgA m.k zA pt zR zP zF) _ (Ak HX.o) Tryz.underlying76 (by rfl) HDI.o ?_)
    |(refine wpList_store_mid (by rfl) 76 (.tmp 2) (.tmp 34) (by rfl) (w.heap.size+1) 0 (mgA m.k zA pt zR zP zF) (by rfl) (by rfl) (AI HR.o _ (by rw[HM.o.size];have:=HZS.o;omega)) HDI.o (HM.o.one _) ?_)
    |fail)
   have hE:=AN (ds:=mgA m.k zA pt zR zP zF) HR.o (by rw[HM.o.size];have:=HZS.o;omega);have hp:=Bs V2 (w.heap.size+1) (mgA m.k zA pt zR zP zF).toList;have hq:=Ar (P:=Tryz.prog) hE Tryz.underlying76 rfl HDI.o;refine bodyPost_ret (v:=.agg (mgA m.k zA pt zR zP zF)) ?_ ?_ ?_
   ·exact An 2 76 ⟨w.heap.size+1,0,none⟩ Tryz.results174 rfl hq
   ·rfl
   have hB:=AV HG.o hp HG.o.size (by omega);refine⟨_,rfl,?_,hB⟩;rw[EN.o];exact⟨zA,pt,zR,zP,zF,rfl,(HM.o.keep hB).more hB.size⟩
  ·have nm2:=m2
   by_cases m3:m.k=3
   ·have y1:(m.k==1)=false:=by simp;omega
    have y2:(m.k==2)=false:=by simp;omega
    have y3:(m.k==3)=true:=by simpa using m3
    have y4:(m.k==4)=false:=by simp;omega
    have y5:(m.k==5)=false:=by simp;omega
    have EN:=I (show nm m=⟨m.k,as0,tg0,m.re,ap0,fa0⟩ by rw[nm,if_neg m1,if_neg m2,if_pos m3,m3]);clear m1 m2 m3;have HM:=I (show MgP w w.heap.size zA zT pr zP zF ⟨m.k,as0,tg0,m.re,ap0,fa0⟩ from⟨zA_v,zT_v w w.heap.size,HP.o.r,zP_v w w.heap.size,zF_v⟩);have HDI:=I (show(Tryz.prog.info? 76).map (·.size)=some (mgA m.k zA zT pr zP zF).size by rw[HM.o.size];exact Bt);go_enter Tryz.func174,Tryz.ntmps174
    go_upto_region 1 with fail
    rw[←ezz,←eW];clear ezz eW
    go_wp2_with (first
     |(refine Ac (by rfl) 76 #[(0,.tmp 5)] (by rfl) c0 (by simp only[List.map_toArray,List.map_cons,List.map_nil];exact HBT.o) ?_)
     |(refine wpList_store_mid (by rfl) 76 (.tmp 3) (.tmp 6) (by rfl) W.heap.size 0 c0 (by rfl) (by rfl) (AI (Blk.new W 76 #[.int .i64 0,.string ⟨#[]⟩,.string ⟨#[]⟩,.string ⟨#[]⟩,.string ⟨#[]⟩,.int .i64 0,.int .i64 0,.string ⟨#[]⟩,.string ⟨#[]⟩,.int .i64 0,.slice none 0 0,.slice none 0 0,.string ⟨#[]⟩,.string ⟨#[]⟩,.int .i64 0,.int .i64 0,.string ⟨#[]⟩,.string ⟨#[]⟩,.string ⟨#[]⟩,.string ⟨#[]⟩,.int .i64 0,.slice none 0 0,.slice none 0 0,.string ⟨#[]⟩,.string ⟨#[]⟩,.int .i64 0,.slice none 0 0,.slice none 0 0,.int .i64 0,.int .i64 0]) _ (by have:=HCS.o;simp;omega)) HI.o HO.o ?_;have hV:=Bm W 76 #[.int .i64 0,.string ⟨#[]⟩,.string ⟨#[]⟩,.string ⟨#[]⟩,.string ⟨#[]⟩,.int .i64 0,.int .i64 0,.string ⟨#[]⟩,.string ⟨#[]⟩,.int .i64 0,.slice none 0 0,.slice none 0 0,.string ⟨#[]⟩,.string ⟨#[]⟩,.int .i64 0,.int .i64 0,.string ⟨#[]⟩,.string ⟨#[]⟩,.string ⟨#[]⟩,.string ⟨#[]⟩,.int .i64 0,.slice none 0 0,.slice none 0 0,.string ⟨#[]⟩,.string ⟨#[]⟩,.int .i64 0,.slice none 0 0,.slice none 0 0,.int .i64 0,.int .i64 0] c0 (by have:=HCS.o;simp;omega);generalize ((W.alloc (.cells #[.int .i64 0,.string ⟨#[]⟩,.string ⟨#[]⟩,.string ⟨#[]⟩,.string ⟨#[]⟩,.int .i64 0,.int .i64 0,.string ⟨#[]⟩,.string ⟨#[]⟩,.int .i64 0,.slice none 0 0,.slice none 0 0,.string ⟨#[]⟩,.string ⟨#[]⟩,.int .i64 0,.int .i64 0,.string ⟨#[]⟩,.string ⟨#[]⟩,.string ⟨#[]⟩,.string ⟨#[]⟩,.int .i64 0,.slice none 0 0,.slice none 0 0,.string ⟨#[]⟩,.string ⟨#[]⟩,.int .i64 0,.slice none 0 0,.slice none 0 0,.int .i64 0,.int .i64 0] 76)).setCells W.heap.size 0 c0.toList)=V at hV⊢;have HX:=I (show Blk V W.heap.size 76 (mgA m.k zA zT zR zP zF) from EC.o▸hV.1);replace HK:=I (HK.o.below hV.2);replace HR:=I (HR.o.below hV.2);replace HG:=I (HG.o.trans (hV.2.mono HG.o.size));clear hV HA k0;have HA:=I (HP.o.at_ HK.o);have k0:=HA.o.k)
     |(refine Aq (by rfl) 70 (.tmp 21) (by rfl) w.heap.size 16 (by rfl) pr _ HA.o.r Tryz.underlying70 (by rfl) (by rw[HP.o.r.size];exact Bh) ?_)
     |(refine wpList_store_mid (by rfl) 70 (.tmp 23) (.tmp 22) (by rfl) W.heap.size 16 pr (by rfl) (by rfl) (AU HX.o 16 _ (by rw[(zM_v W 0 m.k).size m.k,HP.o.r.size];omega)) (by rw[HP.o.r.size];exact Bh) HP.o.r.one ?_;have hX:=Dn (ps:=pr) (ds:=mgA m.k zA zT pr zP zF) (pre:=[.int .i64 m.k]++zA.toList++zT.toList) (mid:=zR.toList) (post:=zP.toList++zF.toList) (o:=16) HX.o (by simp [mgA]) (by rfl) (by rw[HP.o.r.size];rfl) (by simp [mgA]);have hpm:=By V W.heap.size 16 pr.toList;generalize V.setCells W.heap.size 16 pr.toList=V2 at hX hpm⊢;replace HX:=I hX;replace HR:=I (HR.o.grown hpm (by intro e;injection e with e;have:=HWS.o;omega));replace HG:=I (AV HG.o hpm HG.o.size (by have:=HWS.o;omega));clear hX hpm HA HK k0)
     |(refine Aq (by rfl) 76 (.tmp 3) (by rfl) W.heap.size 0 (by rfl) (mgA m.k zA zT pr zP zF) _ (Ak HX.o) Tryz.underlying76 (by rfl) HDI.o ?_)
     |(refine wpList_store_mid (by rfl) 76 (.tmp 2) (.tmp 34) (by rfl) (w.heap.size+1) 0 (mgA m.k zA zT pr zP zF) (by rfl) (by rfl) (AI HR.o _ (by rw[HM.o.size];have:=HZS.o;omega)) HDI.o (HM.o.one _) ?_)
     |fail)
    have hE:=AN (ds:=mgA m.k zA zT pr zP zF) HR.o (by rw[HM.o.size];have:=HZS.o;omega);have hp:=Bs V2 (w.heap.size+1) (mgA m.k zA zT pr zP zF).toList;have hq:=Ar (P:=Tryz.prog) hE Tryz.underlying76 rfl HDI.o;refine bodyPost_ret (v:=.agg (mgA m.k zA zT pr zP zF)) ?_ ?_ ?_
    ·exact An 2 76 ⟨w.heap.size+1,0,none⟩ Tryz.results174 rfl hq
    ·rfl
    have hB:=AV HG.o hp HG.o.size (by omega);refine⟨_,rfl,?_,hB⟩;rw[EN.o];exact⟨zA,zT,pr,zP,zF,rfl,(HM.o.keep hB).more hB.size⟩
   ·have nm3:=m3
    by_cases m4:m.k=4
    ·have y1:(m.k==1)=false:=by simp;omega
     have y2:(m.k==2)=false:=by simp;omega
     have y3:(m.k==3)=false:=by simp;omega
     have y4:(m.k==4)=true:=by simpa using m4
     have y5:(m.k==5)=false:=by simp;omega
     have EN:=I (show nm m=⟨m.k,as0,tg0,re0,m.ap,fa0⟩ by rw[nm,if_neg m1,if_neg m2,if_neg m3,if_pos m4,m4]);clear m1 m2 m3 m4;have HM:=I (show MgP w w.heap.size zA zT zR pp zF ⟨m.k,as0,tg0,re0,m.ap,fa0⟩ from⟨zA_v,zT_v w w.heap.size,zR_v w w.heap.size,HP.o.p,zF_v⟩);have HDI:=I (show(Tryz.prog.info? 76).map (·.size)=some (mgA m.k zA zT zR pp zF).size by rw[HM.o.size];exact Bt);go_enter Tryz.func174,Tryz.ntmps174
     go_upto_region 1 with fail
     rw[←ezz,←eW];clear ezz eW
     go_wp2_with (first
      |(refine Ac (by rfl) 76 #[(0,.tmp 5)] (by rfl) c0 (by simp only[List.map_toArray,List.map_cons,List.map_nil];exact HBT.o) ?_)
      |(refine wpList_store_mid (by rfl) 76 (.tmp 3) (.tmp 6) (by rfl) W.heap.size 0 c0 (by rfl) (by rfl) (AI (Blk.new W 76 #[.int .i64 0,.string ⟨#[]⟩,.string ⟨#[]⟩,.string ⟨#[]⟩,.string ⟨#[]⟩,.int .i64 0,.int .i64 0,.string ⟨#[]⟩,.string ⟨#[]⟩,.int .i64 0,.slice none 0 0,.slice none 0 0,.string ⟨#[]⟩,.string ⟨#[]⟩,.int .i64 0,.int .i64 0,.string ⟨#[]⟩,.string ⟨#[]⟩,.string ⟨#[]⟩,.string ⟨#[]⟩,.int .i64 0,.slice none 0 0,.slice none 0 0,.string ⟨#[]⟩,.string ⟨#[]⟩,.int .i64 0,.slice none 0 0,.slice none 0 0,.int .i64 0,.int .i64 0]) _ (by have:=HCS.o;simp;omega)) HI.o HO.o ?_;have hV:=Bm W 76 #[.int .i64 0,.string ⟨#[]⟩,.string ⟨#[]⟩,.string ⟨#[]⟩,.string ⟨#[]⟩,.int .i64 0,.int .i64 0,.string ⟨#[]⟩,.string ⟨#[]⟩,.int .i64 0,.slice none 0 0,.slice none 0 0,.string ⟨#[]⟩,.string ⟨#[]⟩,.int .i64 0,.int .i64 0,.string ⟨#[]⟩,.string ⟨#[]⟩,.string ⟨#[]⟩,.string ⟨#[]⟩,.int .i64 0,.slice none 0 0,.slice none 0 0,.string ⟨#[]⟩,.string ⟨#[]⟩,.int .i64 0,.slice none 0 0,.slice none 0 0,.int .i64 0,.int .i64 0] c0 (by have:=HCS.o;simp;omega);generalize ((W.alloc (.cells #[.int .i64 0,.string ⟨#[]⟩,.string ⟨#[]⟩,.string ⟨#[]⟩,.string ⟨#[]⟩,.int .i64 0,.int .i64 0,.string ⟨#[]⟩,.string ⟨#[]⟩,.int .i64 0,.slice none 0 0,.slice none 0 0,.string ⟨#[]⟩,.string ⟨#[]⟩,.int .i64 0,.int .i64 0,.string ⟨#[]⟩,.string ⟨#[]⟩,.string ⟨#[]⟩,.string ⟨#[]⟩,.int .i64 0,.slice none 0 0,.slice none 0 0,.string ⟨#[]⟩,.string ⟨#[]⟩,.int .i64 0,.slice none 0 0,.slice none 0 0,.int .i64 0,.int .i64 0] 76)).setCells W.heap.size 0 c0.toList)=V at hV⊢;have HX:=I (show Blk V W.heap.size 76 (mgA m.k zA zT zR zP zF) from EC.o▸hV.1);replace HK:=I (HK.o.below hV.2);replace HR:=I (HR.o.below hV.2);replace HG:=I (HG.o.trans (hV.2.mono HG.o.size));clear hV HA k0;have HA:=I (HP.o.at_ HK.o);have k0:=HA.o.k)
      |(refine Aq (by rfl) 72 (.tmp 26) (by rfl) w.heap.size 23 (by rfl) pp _ HA.o.p Tryz.underlying72 (by rfl) (by rw[HP.o.p.size];exact BB) ?_)
      |(refine wpList_store_mid (by rfl) 72 (.tmp 28) (.tmp 27) (by rfl) W.heap.size 23 pp (by rfl) (by rfl) (AU HX.o 23 _ (by rw[(zM_v W 0 m.k).size m.k,HP.o.p.size];omega)) (by rw[HP.o.p.size];exact BB) HP.o.p.one ?_;have hX:=Dn (ps:=pp) (ds:=mgA m.k zA zT zR pp zF) (pre:=[.int .i64 m.k]++zA.toList++zT.toList++zR.toList) (mid:=zP.toList) (post:=zF.toList) (o:=23) HX.o (by simp [mgA]) (by rfl) (by rw[HP.o.p.size];rfl) (by simp [mgA]);have hpm:=By V W.heap.size 23 pp.toList;generalize V.setCells W.heap.size 23 pp.toList=V2 at hX hpm⊢;replace HX:=I hX;replace HR:=I (HR.o.grown hpm (by intro e;injection e with e;have:=HWS.o;omega));replace HG:=I (AV HG.o hpm HG.o.size (by have:=HWS.o;omega));clear hX hpm HA HK k0)
      |(refine Aq (by rfl) 76 (.tmp 3) (by rfl) W.heap.size 0 (by rfl) (mgA m.k zA zT zR pp zF) _ (Ak HX.o) Tryz.underlying76 (by rfl) HDI.o ?_)
      |(refine wpList_store_mid (by rfl) 76 (.tmp 2) (.tmp 34) (by rfl) (w.heap.size+1) 0 (mgA m.k zA zT zR pp zF) (by rfl) (by rfl) (AI HR.o _ (by rw[HM.o.size];have:=HZS.o;omega)) HDI.o (HM.o.one _) ?_)
      |fail)
     have hE:=AN (ds:=mgA m.k zA zT zR pp zF) HR.o (by rw[HM.o.size];have:=HZS.o;omega);have hp:=Bs V2 (w.heap.size+1) (mgA m.k zA zT zR pp zF).toList;have hq:=Ar (P:=Tryz.prog) hE Tryz.underlying76 rfl HDI.o;refine bodyPost_ret (v:=.agg (mgA m.k zA zT zR pp zF)) ?_ ?_ ?_
     ·exact An 2 76 ⟨w.heap.size+1,0,none⟩ Tryz.results174 rfl hq
     ·rfl
     have hB:=AV HG.o hp HG.o.size (by omega);refine⟨_,rfl,?_,hB⟩;rw[EN.o];exact⟨zA,zT,zR,pp,zF,rfl,(HM.o.keep hB).more hB.size⟩
    ·have nm4:=m4
     by_cases m5:m.k=5
     ·have y1:(m.k==1)=false:=by simp;omega
      have y2:(m.k==2)=false:=by simp;omega
      have y3:(m.k==3)=false:=by simp;omega
      have y4:(m.k==4)=false:=by simp;omega
      have y5:(m.k==5)=true:=by simpa using m5
      have EN:=I (show nm m=⟨m.k,as0,tg0,re0,ap0,m.fa⟩ by rw[nm,if_neg m1,if_neg m2,if_neg m3,if_neg m4,if_pos m5,m5]);clear m1 m2 m3 m4 m5;have HM:=I (show MgP w w.heap.size zA zT zR zP pf ⟨m.k,as0,tg0,re0,ap0,m.fa⟩ from⟨zA_v,zT_v w w.heap.size,zR_v w w.heap.size,zP_v w w.heap.size,HP.o.f⟩);have HDI:=I (show(Tryz.prog.info? 76).map (·.size)=some (mgA m.k zA zT zR zP pf).size by rw[HM.o.size];exact Bt);go_enter Tryz.func174,Tryz.ntmps174
      go_upto_region 1 with fail
      rw[←ezz,←eW];clear ezz eW
      go_wp2_with (first
       |(refine Ac (by rfl) 76 #[(0,.tmp 5)] (by rfl) c0 (by simp only[List.map_toArray,List.map_cons,List.map_nil];exact HBT.o) ?_)
       |(refine wpList_store_mid (by rfl) 76 (.tmp 3) (.tmp 6) (by rfl) W.heap.size 0 c0 (by rfl) (by rfl) (AI (Blk.new W 76 #[.int .i64 0,.string ⟨#[]⟩,.string ⟨#[]⟩,.string ⟨#[]⟩,.string ⟨#[]⟩,.int .i64 0,.int .i64 0,.string ⟨#[]⟩,.string ⟨#[]⟩,.int .i64 0,.slice none 0 0,.slice none 0 0,.string ⟨#[]⟩,.string ⟨#[]⟩,.int .i64 0,.int .i64 0,.string ⟨#[]⟩,.string ⟨#[]⟩,.string ⟨#[]⟩,.string ⟨#[]⟩,.int .i64 0,.slice none 0 0,.slice none 0 0,.string ⟨#[]⟩,.string ⟨#[]⟩,.int .i64 0,.slice none 0 0,.slice none 0 0,.int .i64 0,.int .i64 0]) _ (by have:=HCS.o;simp;omega)) HI.o HO.o ?_;have hV:=Bm W 76 #[.int .i64 0,.string ⟨#[]⟩,.string ⟨#[]⟩,.string ⟨#[]⟩,.string ⟨#[]⟩,.int .i64 0,.int .i64 0,.string ⟨#[]⟩,.string ⟨#[]⟩,.int .i64 0,.slice none 0 0,.slice none 0 0,.string ⟨#[]⟩,.string ⟨#[]⟩,.int .i64 0,.int .i64 0,.string ⟨#[]⟩,.string ⟨#[]⟩,.string ⟨#[]⟩,.string ⟨#[]⟩,.int .i64 0,.slice none 0 0,.slice none 0 0,.string ⟨#[]⟩,.string ⟨#[]⟩,.int .i64 0,.slice none 0 0,.slice none 0 0,.int .i64 0,.int .i64 0] c0 (by have:=HCS.o;simp;omega);generalize ((W.alloc (.cells #[.int .i64 0,.string ⟨#[]⟩,.string ⟨#[]⟩,.string ⟨#[]⟩,.string ⟨#[]⟩,.int .i64 0,.int .i64 0,.string ⟨#[]⟩,.string ⟨#[]⟩,.int .i64 0,.slice none 0 0,.slice none 0 0,.string ⟨#[]⟩,.string ⟨#[]⟩,.int .i64 0,.int .i64 0,.string ⟨#[]⟩,.string ⟨#[]⟩,.string ⟨#[]⟩,.string ⟨#[]⟩,.int .i64 0,.slice none 0 0,.slice none 0 0,.string ⟨#[]⟩,.string ⟨#[]⟩,.int .i64 0,.slice none 0 0,.slice none 0 0,.int .i64 0,.int .i64 0] 76)).setCells W.heap.size 0 c0.toList)=V at hV⊢;have HX:=I (show Blk V W.heap.size 76 (mgA m.k zA zT zR zP zF) from EC.o▸hV.1);replace HK:=I (HK.o.below hV.2);replace HR:=I (HR.o.below hV.2);replace HG:=I (HG.o.trans (hV.2.mono HG.o.size));clear hV HA k0;have HA:=I (HP.o.at_ HK.o);have k0:=HA.o.k)
       |(refine Aq (by rfl) 74 (.tmp 31) (by rfl) w.heap.size 28 (by rfl) pf _ HA.o.f Tryz.underlying74 (by rfl) (by rw[HP.o.f.size];exact BY) ?_)
       |(refine wpList_store_mid (by rfl) 74 (.tmp 33) (.tmp 32) (by rfl) W.heap.size 28 pf (by rfl) (by rfl) (AU HX.o 28 _ (by rw[(zM_v W 0 m.k).size m.k,HP.o.f.size];omega)) (by rw[HP.o.f.size];exact BY) HP.o.f.one ?_;have hX:=Dn (ps:=pf) (ds:=mgA m.k zA zT zR zP pf) (pre:=[.int .i64 m.k]++zA.toList++zT.toList++zR.toList++zP.toList) (mid:=zF.toList) (post:=[]) (o:=28) HX.o (by simp [mgA]) (by rfl) (by rw[HP.o.f.size];rfl) (by simp [mgA]);have hpm:=By V W.heap.size 28 pf.toList;generalize V.setCells W.heap.size 28 pf.toList=V2 at hX hpm⊢;replace HX:=I hX;replace HR:=I (HR.o.grown hpm (by intro e;injection e with e;have:=HWS.o;omega));replace HG:=I (AV HG.o hpm HG.o.size (by have:=HWS.o;omega));clear hX hpm HA HK k0)
       |(refine Aq (by rfl) 76 (.tmp 3) (by rfl) W.heap.size 0 (by rfl) (mgA m.k zA zT zR zP pf) _ (Ak HX.o) Tryz.underlying76 (by rfl) HDI.o ?_)
       |(refine wpList_store_mid (by rfl) 76 (.tmp 2) (.tmp 34) (by rfl) (w.heap.size+1) 0 (mgA m.k zA zT zR zP pf) (by rfl) (by rfl) (AI HR.o _ (by rw[HM.o.size];have:=HZS.o;omega)) HDI.o (HM.o.one _) ?_)
       |fail)
      have hE:=AN (ds:=mgA m.k zA zT zR zP pf) HR.o (by rw[HM.o.size];have:=HZS.o;omega);have hp:=Bs V2 (w.heap.size+1) (mgA m.k zA zT zR zP pf).toList;have hq:=Ar (P:=Tryz.prog) hE Tryz.underlying76 rfl HDI.o;refine bodyPost_ret (v:=.agg (mgA m.k zA zT zR zP pf)) ?_ ?_ ?_
      ·exact An 2 76 ⟨w.heap.size+1,0,none⟩ Tryz.results174 rfl hq
      ·rfl
      have hB:=AV HG.o hp HG.o.size (by omega);refine⟨_,rfl,?_,hB⟩;rw[EN.o];exact⟨zA,zT,zR,zP,pf,rfl,(HM.o.keep hB).more hB.size⟩
     ·have nm5:=m5
      have y1:(m.k==1)=false:=by simp;omega
      have y2:(m.k==2)=false:=by simp;omega
      have y3:(m.k==3)=false:=by simp;omega
      have y4:(m.k==4)=false:=by simp;omega
      have y5:(m.k==5)=false:=by simp;omega
      have EN:=I (show nm m=⟨m.k,as0,tg0,re0,ap0,fa0⟩ by rw[nm,if_neg m1,if_neg m2,if_neg m3,if_neg m4,if_neg m5]);clear m1 m2 m3 m4 m5;have HM:=I (show MgP w w.heap.size zA zT zR zP zF ⟨m.k,as0,tg0,re0,ap0,fa0⟩ from⟨zA_v,zT_v w w.heap.size,zR_v w w.heap.size,zP_v w w.heap.size,zF_v⟩);have HDI:=I (show(Tryz.prog.info? 76).map (·.size)=some (mgA m.k zA zT zR zP zF).size by rw[HM.o.size];exact Bt);go_enter Tryz.func174,Tryz.ntmps174
      go_upto_region 1 with fail
      rw[←ezz,←eW];clear ezz eW
      go_wp2_with (first
       |(refine Ac (by rfl) 76 #[(0,.tmp 5)] (by rfl) c0 (by simp only[List.map_toArray,List.map_cons,List.map_nil];exact HBT.o) ?_)
       |(refine wpList_store_mid (by rfl) 76 (.tmp 3) (.tmp 6) (by rfl) W.heap.size 0 c0 (by rfl) (by rfl) (AI (Blk.new W 76 #[.int .i64 0,.string ⟨#[]⟩,.string ⟨#[]⟩,.string ⟨#[]⟩,.string ⟨#[]⟩,.int .i64 0,.int .i64 0,.string ⟨#[]⟩,.string ⟨#[]⟩,.int .i64 0,.slice none 0 0,.slice none 0 0,.string ⟨#[]⟩,.string ⟨#[]⟩,.int .i64 0,.int .i64 0,.string ⟨#[]⟩,.string ⟨#[]⟩,.string ⟨#[]⟩,.string ⟨#[]⟩,.int .i64 0,.slice none 0 0,.slice none 0 0,.string ⟨#[]⟩,.string ⟨#[]⟩,.int .i64 0,.slice none 0 0,.slice none 0 0,.int .i64 0,.int .i64 0]) _ (by have:=HCS.o;simp;omega)) HI.o HO.o ?_;have hV:=Bm W 76 #[.int .i64 0,.string ⟨#[]⟩,.string ⟨#[]⟩,.string ⟨#[]⟩,.string ⟨#[]⟩,.int .i64 0,.int .i64 0,.string ⟨#[]⟩,.string ⟨#[]⟩,.int .i64 0,.slice none 0 0,.slice none 0 0,.string ⟨#[]⟩,.string ⟨#[]⟩,.int .i64 0,.int .i64 0,.string ⟨#[]⟩,.string ⟨#[]⟩,.string ⟨#[]⟩,.string ⟨#[]⟩,.int .i64 0,.slice none 0 0,.slice none 0 0,.string ⟨#[]⟩,.string ⟨#[]⟩,.int .i64 0,.slice none 0 0,.slice none 0 0,.int .i64 0,.int .i64 0] c0 (by have:=HCS.o;simp;omega);generalize ((W.alloc (.cells #[.int .i64 0,.string ⟨#[]⟩,.string ⟨#[]⟩,.string ⟨#[]⟩,.string ⟨#[]⟩,.int .i64 0,.int .i64 0,.string ⟨#[]⟩,.string ⟨#[]⟩,.int .i64 0,.slice none 0 0,.slice none 0 0,.string ⟨#[]⟩,.string ⟨#[]⟩,.int .i64 0,.int .i64 0,.string ⟨#[]⟩,.string ⟨#[]⟩,.string ⟨#[]⟩,.string ⟨#[]⟩,.int .i64 0,.slice none 0 0,.slice none 0 0,.string ⟨#[]⟩,.string ⟨#[]⟩,.int .i64 0,.slice none 0 0,.slice none 0 0,.int .i64 0,.int .i64 0] 76)).setCells W.heap.size 0 c0.toList)=V at hV⊢;have HX:=I (show Blk V W.heap.size 76 (mgA m.k zA zT zR zP zF) from EC.o▸hV.1);replace HK:=I (HK.o.below hV.2);replace HR:=I (HR.o.below hV.2);replace HG:=I (HG.o.trans (hV.2.mono HG.o.size));clear hV HA k0;have HA:=I (HP.o.at_ HK.o);have k0:=HA.o.k)
       |(refine Aq (by rfl) 76 (.tmp 3) (by rfl) W.heap.size 0 (by rfl) (mgA m.k zA zT zR zP zF) _ (Ak HX.o) Tryz.underlying76 (by rfl) HDI.o ?_)
       |(refine wpList_store_mid (by rfl) 76 (.tmp 2) (.tmp 34) (by rfl) (w.heap.size+1) 0 (mgA m.k zA zT zR zP zF) (by rfl) (by rfl) (AI HR.o _ (by rw[HM.o.size];have:=HZS.o;omega)) HDI.o (HM.o.one _) ?_)
       |fail)
      have hE:=AN (ds:=mgA m.k zA zT zR zP zF) HR.o (by rw[HM.o.size];have:=HZS.o;omega);have hp:=Bs V (w.heap.size+1) (mgA m.k zA zT zR zP zF).toList;have hq:=Ar (P:=Tryz.prog) hE Tryz.underlying76 rfl HDI.o;refine bodyPost_ret (v:=.agg (mgA m.k zA zT zR zP zF)) ?_ ?_ ?_
      ·exact An 2 76 ⟨w.heap.size+1,0,none⟩ Tryz.results174 rfl hq
      ·rfl
      have hB:=AV HG.o hp HG.o.size (by omega);refine⟨_,rfl,?_,hB⟩;rw[EN.o];exact⟨zA,zT,zR,zP,zF,rfl,(HM.o.keep hB).more hB.size⟩
theorem Jr {pa qa:Array Value} {x y:As} (h:AsV pa x) (g:AsV qa y) (w:World):(Op.equalIn 10000 66 (.agg pa) (.agg qa)).run Tryz.prog w = .ok (decide (x=y)) w:=by rw[h,g];exact Kj x y w
theorem Js {pa qa:Array Value} {x y:Fa} (h:FaV pa x) (g:FaV qa y) (w:World):(Op.equalIn 10000 74 (.agg pa) (.agg qa)).run Tryz.prog w = .ok (decide (x=y)) w:=by rw[h,g];exact Ki x y w
theorem GA {pa qa:Array Value} {x y:Tg} (w:World) (h:TgV w w.heap.size pa x) (g:TgV w w.heap.size qa y):Calls Tryz.prog 206 #[.agg pa,.agg qa] w fun e w'=>e = .returned (.bool (decide (x=y)))∧Below w.heap.size w w':=by
 obtain⟨b,a,rfl,⟨A1,c1,rfl,_,h1⟩,⟨A2,c2,rfl,_,h2⟩⟩:=h;obtain⟨b2,a2,rfl,⟨D1,d1,rfl,_,g1⟩,⟨D2,d2,rfl,_,g2⟩⟩:=g;exact EE x y A1 A2 D1 D2 c1 c2 d1 d2 w h1 g1 h2 g2
theorem GB {pa qa:Array Value} {x y:Re} (w:World) (h:ReV w w.heap.size pa x) (g:ReV w w.heap.size qa y):Calls Tryz.prog 207 #[.agg pa,.agg qa] w fun e w'=>e = .returned (.bool (decide (x=y)))∧Below w.heap.size w w':=by
 obtain⟨b,a,rfl,⟨A1,c1,rfl,_,h1⟩,⟨A2,c2,rfl,_,h2⟩⟩:=h;obtain⟨b2,a2,rfl,⟨D1,d1,rfl,_,g1⟩,⟨D2,d2,rfl,_,g2⟩⟩:=g;exact EG x y A1 A2 D1 D2 c1 c2 d1 d2 w h1 g1 h2 g2
theorem GC {pa qa:Array Value} {x y:Ap} (w:World) (h:ApV w w.heap.size pa x) (g:ApV w w.heap.size qa y):Calls Tryz.prog 208 #[.agg pa,.agg qa] w fun e w'=>e = .returned (.bool (decide (x=y)))∧Below w.heap.size w w':=by
 obtain⟨b,a,rfl,⟨A1,c1,rfl,_,h1⟩,⟨A2,c2,rfl,_,h2⟩⟩:=h;obtain⟨b2,a2,rfl,⟨D1,d1,rfl,_,g1⟩,⟨D2,d2,rfl,_,g2⟩⟩:=g;exact EH x y A1 A2 D1 D2 c1 c2 d1 d2 w h1 g1 h2 g2
theorem mg_eq (m o:Mg):decide (m=o)=(decide (m.k=o.k)&&(decide (m.aq=o.aq)&&(decide (m.tg=o.tg)&&(decide (m.re=o.re)&&(decide (m.ap=o.ap)&&decide (m.fa=o.fa)))))):=by
 obtain⟨k,a,t,r,p,f⟩:=m;obtain⟨k2,a2,t2,r2,p2,f2⟩:=o;simp [Bool.decide_and]
theorem GD (cs ds:Array Value) (m o:Mg) (w:World) (h:MgV w w.heap.size cs m) (g:MgV w w.heap.size ds o):Calls Tryz.prog 173 #[.agg cs,.agg ds] w fun e w'=>e = .returned (.bool (decide (m=o)))∧Below w.heap.size w w':=by
 obtain⟨pa,pt,pr,pp,pf,hc,hp⟩:=h;obtain⟨qa,qt,qr,qp,qf,hd,hq⟩:=g;obtain⟨W,eW⟩:∃W,W=(w.alloc (.cells cs 76)).alloc (.cells ds 76):=⟨_,rfl⟩;have HK:=I (show Blk W w.heap.size 76 (mgA m.k pa pt pr pp pf) by rw[eW,←hc];exact(Blk.new _ _ _).alloc _);have hq1:=Blk.new (w.alloc (.cells cs 76)) 76 ds;rw[show(w.alloc (.cells cs 76)).heap.size=w.heap.size+1 by simp,←eW,hd] at hq1;have HL:=I hq1;clear hq1;have HB:=I (show Below w.heap.size w W by rw[eW];exact(Af.alloc Ae _).alloc (by simp) _);have HP:=I hp;have HQ:=I hq;have HA:=I (hp.at_ HK.o);have HC:=I (hq.at_ HL.o);have k0:=HA.o.k;have k1:=HC.o.k;have Tt:=I (fun w1 (h:Below w.heap.size w w1)=>GA w1 ((hp.t.keep h).more h.size) ((hq.t.keep h).more h.size));have Tr:=I (fun w1 (h:Below w.heap.size w w1)=>GB w1 ((hp.r.keep h).more h.size) ((hq.r.keep h).more h.size));have Tp:=I (fun w1 (h:Below w.heap.size w w1)=>GC w1 ((hp.p.keep h).more h.size) ((hq.p.keep h).more h.size));have EA:=I (fun w1=>Jr hp.a hq.a w1);have EF:=I (fun w1=>Js hp.f hq.f w1);have ME:=I (mg_eq m o);clear hc hd hp hq;cases ek:decide (m.k=o.k) with
 |false=>
  have tk:(m.k==o.k)=false:=by simpa using ek
  have E:=I (show decide (m=o)=false by rw[ME.o,ek];rfl);clear ek;go_enter Tryz.func173,Tryz.ntmps173
  go_upto_region 1 with fail
  rw[←eW];clear eW
  go_wp2
  go_ret;exact⟨by rw[E.o];rfl,HB.o⟩
 |true=>
  have tk:(m.k==o.k)=true:=by simpa using ek
  cases ea:decide (m.aq=o.aq) with
  |false=>
   rw[ea] at EA;have fa:=EA.o;have E:=I (show decide (m=o)=false by rw[ME.o,ek,ea];rfl);clear ek ea;go_enter Tryz.func173,Tryz.ntmps173
   go_upto_region 1 with fail
   rw[←eW];clear eW
   go_wp2_with (first
    |(refine Ab (by rfl) 66 (.tmp 11) (by rfl) w.heap.size 1 (by rfl) pa _ HA.o.a Tryz.underlying66 (by rfl) (by rw[HP.o.a.size];exact AS) ?_)
    |(refine Ab (by rfl) 66 (.tmp 13) (by rfl) (w.heap.size+1) 1 (by rfl) qa _ HC.o.a Tryz.underlying66 (by rfl) (by rw[HQ.o.a.size];exact AS) ?_)
    |fail)
   go_ret;exact⟨by rw[E.o];rfl,HB.o⟩
  |true=>
   rw[ea] at EA;have fa:=EA.o;cases et:decide (m.tg=o.tg) with
   |false=>
    rw[et] at Tt;have E:=I (show decide (m=o)=false by rw[ME.o,ek,ea,et];rfl);clear ek ea et;go_enter Tryz.func173,Tryz.ntmps173
    go_upto_region 1 with fail
    rw[←eW];clear eW
    go_wp2_with (first
     |(refine Ab (by rfl) 66 (.tmp 11) (by rfl) w.heap.size 1 (by rfl) pa _ HA.o.a Tryz.underlying66 (by rfl) (by rw[HP.o.a.size];exact AS) ?_)
     |(refine Ab (by rfl) 66 (.tmp 13) (by rfl) (w.heap.size+1) 1 (by rfl) qa _ HC.o.a Tryz.underlying66 (by rfl) (by rw[HQ.o.a.size];exact AS) ?_)
     |(refine Ab (by rfl) 68 (.tmp 18) (by rfl) w.heap.size 7 (by rfl) pt _ HA.o.t Tryz.underlying68 (by rfl) (by rw[HP.o.t.size];exact Ba) ?_)
     |(refine Ab (by rfl) 68 (.tmp 20) (by rfl) (w.heap.size+1) 7 (by rfl) qt _ HC.o.t Tryz.underlying68 (by rfl) (by rw[HQ.o.t.size];exact Ba) ?_)
     |(go_at_call 206;refine Calls.mono (Tt.o _ HB.o) ?_;rintro e wt ⟨rfl,hb⟩;clear HA HC;replace HK:=I (HK.o.below hb);replace HL:=I (HL.o.below hb);replace HB:=HB.t hb;clear hb Tt;have HA:=I (HP.o.at_ HK.o);have HC:=I (HQ.o.at_ HL.o))
     |fail)
    go_ret;exact⟨by rw[E.o];rfl,HB.o⟩
   |true=>
    rw[et] at Tt;cases er:decide (m.re=o.re) with
    |false=>
     rw[er] at Tr;have E:=I (show decide (m=o)=false by rw[ME.o,ek,ea,et,er];rfl);clear ek ea et er;go_enter Tryz.func173,Tryz.ntmps173
     go_upto_region 1 with fail
     rw[←eW];clear eW
     go_wp2_with (first
      |(refine Ab (by rfl) 66 (.tmp 11) (by rfl) w.heap.size 1 (by rfl) pa _ HA.o.a Tryz.underlying66 (by rfl) (by rw[HP.o.a.size];exact AS) ?_)
      |(refine Ab (by rfl) 66 (.tmp 13) (by rfl) (w.heap.size+1) 1 (by rfl) qa _ HC.o.a Tryz.underlying66 (by rfl) (by rw[HQ.o.a.size];exact AS) ?_)
      |(refine Ab (by rfl) 68 (.tmp 18) (by rfl) w.heap.size 7 (by rfl) pt _ HA.o.t Tryz.underlying68 (by rfl) (by rw[HP.o.t.size];exact Ba) ?_)
      |(refine Ab (by rfl) 68 (.tmp 20) (by rfl) (w.heap.size+1) 7 (by rfl) qt _ HC.o.t Tryz.underlying68 (by rfl) (by rw[HQ.o.t.size];exact Ba) ?_)
      |(go_at_call 206;refine Calls.mono (Tt.o _ HB.o) ?_;rintro e wt ⟨rfl,hb⟩;clear HA HC;replace HK:=I (HK.o.below hb);replace HL:=I (HL.o.below hb);replace HB:=HB.t hb;clear hb Tt;have HA:=I (HP.o.at_ HK.o);have HC:=I (HQ.o.at_ HL.o))
      |(refine Ab (by rfl) 70 (.tmp 25) (by rfl) w.heap.size 16 (by rfl) pr _ HA.o.r Tryz.underlying70 (by rfl) (by rw[HP.o.r.size];exact Bh) ?_)
      |(refine Ab (by rfl) 70 (.tmp 27) (by rfl) (w.heap.size+1) 16 (by rfl) qr _ HC.o.r Tryz.underlying70 (by rfl) (by rw[HQ.o.r.size];exact Bh) ?_)
      |(go_at_call 207;refine Calls.mono (Tr.o _ HB.o) ?_;rintro e wr ⟨rfl,hb⟩;clear HA HC;replace HK:=I (HK.o.below hb);replace HL:=I (HL.o.below hb);replace HB:=HB.t hb;clear hb Tr;have HA:=I (HP.o.at_ HK.o);have HC:=I (HQ.o.at_ HL.o))
      |fail)
     go_ret;exact⟨by rw[E.o];rfl,HB.o⟩
    |true=>
     rw[er] at Tr;cases ep:decide (m.ap=o.ap) with
     |false=>
      rw[ep] at Tp;have E:=I (show decide (m=o)=false by rw[ME.o,ek,ea,et,er,ep];rfl);clear ek ea et er ep;go_enter Tryz.func173,Tryz.ntmps173
      go_upto_region 1 with fail
      rw[←eW];clear eW
      go_wp2_with (first
       |(refine Ab (by rfl) 66 (.tmp 11) (by rfl) w.heap.size 1 (by rfl) pa _ HA.o.a Tryz.underlying66 (by rfl) (by rw[HP.o.a.size];exact AS) ?_)
       |(refine Ab (by rfl) 66 (.tmp 13) (by rfl) (w.heap.size+1) 1 (by rfl) qa _ HC.o.a Tryz.underlying66 (by rfl) (by rw[HQ.o.a.size];exact AS) ?_)
       |(refine Ab (by rfl) 68 (.tmp 18) (by rfl) w.heap.size 7 (by rfl) pt _ HA.o.t Tryz.underlying68 (by rfl) (by rw[HP.o.t.size];exact Ba) ?_)
       |(refine Ab (by rfl) 68 (.tmp 20) (by rfl) (w.heap.size+1) 7 (by rfl) qt _ HC.o.t Tryz.underlying68 (by rfl) (by rw[HQ.o.t.size];exact Ba) ?_)
       |(go_at_call 206;refine Calls.mono (Tt.o _ HB.o) ?_;rintro e wt ⟨rfl,hb⟩;clear HA HC;replace HK:=I (HK.o.below hb);replace HL:=I (HL.o.below hb);replace HB:=HB.t hb;clear hb Tt;have HA:=I (HP.o.at_ HK.o);have HC:=I (HQ.o.at_ HL.o))
       |(refine Ab (by rfl) 70 (.tmp 25) (by rfl) w.heap.size 16 (by rfl) pr _ HA.o.r Tryz.underlying70 (by rfl) (by rw[HP.o.r.size];exact Bh) ?_)
       |(refine Ab (by rfl) 70 (.tmp 27) (by rfl) (w.heap.size+1) 16 (by rfl) qr _ HC.o.r Tryz.underlying70 (by rfl) (by rw[HQ.o.r.size];exact Bh) ?_)
       |(go_at_call 207;refine Calls.mono (Tr.o _ HB.o) ?_;rintro e wr ⟨rfl,hb⟩;clear HA HC;replace HK:=I (HK.o.below hb);replace HL:=I (HL.o.below hb);replace HB:=HB.t hb;clear hb Tr;have HA:=I (HP.o.at_ HK.o);have HC:=I (HQ.o.at_ HL.o))
       |(refine Ab (by rfl) 72 (.tmp 32) (by rfl) w.heap.size 23 (by rfl) pp _ HA.o.p Tryz.underlying72 (by rfl) (by rw[HP.o.p.size];exact BB) ?_)
       |(refine Ab (by rfl) 72 (.tmp 34) (by rfl) (w.heap.size+1) 23 (by rfl) qp _ HC.o.p Tryz.underlying72 (by rfl) (by rw[HQ.o.p.size];exact BB) ?_)
       |(go_at_call 208;refine Calls.mono (Tp.o _ HB.o) ?_;rintro e wp ⟨rfl,hb⟩;clear HA HC;replace HK:=I (HK.o.below hb);replace HL:=I (HL.o.below hb);replace HB:=HB.t hb;clear hb Tp;have HA:=I (HP.o.at_ HK.o);have HC:=I (HQ.o.at_ HL.o))
       |fail)
      go_ret;exact⟨by rw[E.o];rfl,HB.o⟩
     |true=>
      rw[ep] at Tp;cases ef:decide (m.fa=o.fa) with
      |false=>
       rw[ef] at EF;have ff:=EF.o;have E:=I (show decide (m=o)=false by rw[ME.o,ek,ea,et,er,ep,ef];rfl);clear ek ea et er ep ef;go_enter Tryz.func173,Tryz.ntmps173
       go_upto_region 1 with fail
       rw[←eW];clear eW
       go_wp2_with (first
        |(refine Ab (by rfl) 66 (.tmp 11) (by rfl) w.heap.size 1 (by rfl) pa _ HA.o.a Tryz.underlying66 (by rfl) (by rw[HP.o.a.size];exact AS) ?_)
        |(refine Ab (by rfl) 66 (.tmp 13) (by rfl) (w.heap.size+1) 1 (by rfl) qa _ HC.o.a Tryz.underlying66 (by rfl) (by rw[HQ.o.a.size];exact AS) ?_)
        |(refine Ab (by rfl) 68 (.tmp 18) (by rfl) w.heap.size 7 (by rfl) pt _ HA.o.t Tryz.underlying68 (by rfl) (by rw[HP.o.t.size];exact Ba) ?_)
        |(refine Ab (by rfl) 68 (.tmp 20) (by rfl) (w.heap.size+1) 7 (by rfl) qt _ HC.o.t Tryz.underlying68 (by rfl) (by rw[HQ.o.t.size];exact Ba) ?_)
        |(go_at_call 206;refine Calls.mono (Tt.o _ HB.o) ?_;rintro e wt ⟨rfl,hb⟩;clear HA HC;replace HK:=I (HK.o.below hb);replace HL:=I (HL.o.below hb);replace HB:=HB.t hb;clear hb Tt;have HA:=I (HP.o.at_ HK.o);have HC:=I (HQ.o.at_ HL.o))
        |(refine Ab (by rfl) 70 (.tmp 25) (by rfl) w.heap.size 16 (by rfl) pr _ HA.o.r Tryz.underlying70 (by rfl) (by rw[HP.o.r.size];exact Bh) ?_)
        |(refine Ab (by rfl) 70 (.tmp 27) (by rfl) (w.heap.size+1) 16 (by rfl) qr _ HC.o.r Tryz.underlying70 (by rfl) (by rw[HQ.o.r.size];exact Bh) ?_)
        |(go_at_call 207;refine Calls.mono (Tr.o _ HB.o) ?_;rintro e wr ⟨rfl,hb⟩;clear HA HC;replace HK:=I (HK.o.below hb);replace HL:=I (HL.o.below hb);replace HB:=HB.t hb;clear hb Tr;have HA:=I (HP.o.at_ HK.o);have HC:=I (HQ.o.at_ HL.o))
        |(refine Ab (by rfl) 72 (.tmp 32) (by rfl) w.heap.size 23 (by rfl) pp _ HA.o.p Tryz.underlying72 (by rfl) (by rw[HP.o.p.size];exact BB) ?_)
        |(refine Ab (by rfl) 72 (.tmp 34) (by rfl) (w.heap.size+1) 23 (by rfl) qp _ HC.o.p Tryz.underlying72 (by rfl) (by rw[HQ.o.p.size];exact BB) ?_)
        |(go_at_call 208;refine Calls.mono (Tp.o _ HB.o) ?_;rintro e wp ⟨rfl,hb⟩;clear HA HC;replace HK:=I (HK.o.below hb);replace HL:=I (HL.o.below hb);replace HB:=HB.t hb;clear hb Tp;have HA:=I (HP.o.at_ HK.o);have HC:=I (HQ.o.at_ HL.o))
        |(refine Ab (by rfl) 74 (.tmp 39) (by rfl) w.heap.size 28 (by rfl) pf _ HA.o.f Tryz.underlying74 (by rfl) (by rw[HP.o.f.size];exact BY) ?_)
        |(refine Ab (by rfl) 74 (.tmp 41) (by rfl) (w.heap.size+1) 28 (by rfl) qf _ HC.o.f Tryz.underlying74 (by rfl) (by rw[HQ.o.f.size];exact BY) ?_)
        |fail)
       go_ret;exact⟨by rw[E.o];rfl,HB.o⟩
      |true=>
       rw[ef] at EF;have ff:=EF.o;have E:=I (show decide (m=o)=true by rw[ME.o,ek,ea,et,er,ep,ef];rfl);clear ek ea et er ep ef;go_enter Tryz.func173,Tryz.ntmps173
       go_upto_region 1 with fail
       rw[←eW];clear eW
       go_wp2_with (first
        |(refine Ab (by rfl) 66 (.tmp 11) (by rfl) w.heap.size 1 (by rfl) pa _ HA.o.a Tryz.underlying66 (by rfl) (by rw[HP.o.a.size];exact AS) ?_)
        |(refine Ab (by rfl) 66 (.tmp 13) (by rfl) (w.heap.size+1) 1 (by rfl) qa _ HC.o.a Tryz.underlying66 (by rfl) (by rw[HQ.o.a.size];exact AS) ?_)
        |(refine Ab (by rfl) 68 (.tmp 18) (by rfl) w.heap.size 7 (by rfl) pt _ HA.o.t Tryz.underlying68 (by rfl) (by rw[HP.o.t.size];exact Ba) ?_)
        |(refine Ab (by rfl) 68 (.tmp 20) (by rfl) (w.heap.size+1) 7 (by rfl) qt _ HC.o.t Tryz.underlying68 (by rfl) (by rw[HQ.o.t.size];exact Ba) ?_)
        |(go_at_call 206;refine Calls.mono (Tt.o _ HB.o) ?_;rintro e wt ⟨rfl,hb⟩;clear HA HC;replace HK:=I (HK.o.below hb);replace HL:=I (HL.o.below hb);replace HB:=HB.t hb;clear hb Tt;have HA:=I (HP.o.at_ HK.o);have HC:=I (HQ.o.at_ HL.o))
        |(refine Ab (by rfl) 70 (.tmp 25) (by rfl) w.heap.size 16 (by rfl) pr _ HA.o.r Tryz.underlying70 (by rfl) (by rw[HP.o.r.size];exact Bh) ?_)
        |(refine Ab (by rfl) 70 (.tmp 27) (by rfl) (w.heap.size+1) 16 (by rfl) qr _ HC.o.r Tryz.underlying70 (by rfl) (by rw[HQ.o.r.size];exact Bh) ?_)
        |(go_at_call 207;refine Calls.mono (Tr.o _ HB.o) ?_;rintro e wr ⟨rfl,hb⟩;clear HA HC;replace HK:=I (HK.o.below hb);replace HL:=I (HL.o.below hb);replace HB:=HB.t hb;clear hb Tr;have HA:=I (HP.o.at_ HK.o);have HC:=I (HQ.o.at_ HL.o))
        |(refine Ab (by rfl) 72 (.tmp 32) (by rfl) w.heap.size 23 (by rfl) pp _ HA.o.p Tryz.underlying72 (by rfl) (by rw[HP.o.p.size];exact BB) ?_)
        |(refine Ab (by rfl) 72 (.tmp 34) (by rfl) (w.heap.size+1) 23 (by rfl) qp _ HC.o.p Tryz.underlying72 (by rfl) (by rw[HQ.o.p.size];exact BB) ?_)
        |(go_at_call 208;refine Calls.mono (Tp.o _ HB.o) ?_;rintro e wp ⟨rfl,hb⟩;clear HA HC;replace HK:=I (HK.o.below hb);replace HL:=I (HL.o.below hb);replace HB:=HB.t hb;clear hb Tp;have HA:=I (HP.o.at_ HK.o);have HC:=I (HQ.o.at_ HL.o))
        |(refine Ab (by rfl) 74 (.tmp 39) (by rfl) w.heap.size 28 (by rfl) pf _ HA.o.f Tryz.underlying74 (by rfl) (by rw[HP.o.f.size];exact BY) ?_)
        |(refine Ab (by rfl) 74 (.tmp 41) (by rfl) (w.heap.size+1) 28 (by rfl) qf _ HC.o.f Tryz.underlying74 (by rfl) (by rw[HQ.o.f.size];exact BY) ?_)
        |fail)
       go_ret;exact⟨by rw[E.o];rfl,HB.o⟩
open DerR
theorem Kk {pa:Array Value} {x:As} (w:World) (h:AsV pa x) (s:pSm x.c∧pSm x.s):Calls Tryz.prog 175 #[.agg pa] w fun e w'=>e = .returned (.bool (asB x))∧Below w.heap.size w w':=by rw[h];exact Ic x w s.1 s.2
theorem Kl {pa:Array Value} {x:Tg} {w0:World} {B:Nat} (w:World) (h:TgV w0 B pa x) (s:pSm x.t.s∧pSm x.s):Calls Tryz.prog 176 #[.agg pa] w fun e w'=>e = .returned (.bool (tgB x))∧Below w.heap.size w w':=by
 obtain⟨b,a,rfl,⟨A1,c1,rfl,_,h1⟩,⟨A2,c2,rfl,_,h2⟩⟩:=h;exact Gy x A1 A2 c1 c2 w s.1 s.2
theorem Km {pa:Array Value} {x:Re} {w0:World} {B:Nat} (w:World) (h:ReV w0 B pa x) (s:pSm x.c∧pSm x.t.s):Calls Tryz.prog 177 #[.agg pa] w fun e w'=>e = .returned (.bool (reB x))∧Below w.heap.size w w':=by
 obtain⟨b,a,rfl,⟨A1,c1,rfl,_,h1⟩,⟨A2,c2,rfl,_,h2⟩⟩:=h;exact Ie x A1 A2 c1 c2 w s.2 s.1
theorem Kn {pa:Array Value} {x:Ap} {w0:World} {B:Nat} (w:World) (h:ApV w0 B pa x) (s:pSm x.t.s):Calls Tryz.prog 178 #[.agg pa] w fun e w'=>e = .returned (.bool (apB x))∧Below w.heap.size w w':=by
 obtain⟨b,a,rfl,⟨A1,c1,rfl,_,h1⟩,⟨A2,c2,rfl,_,h2⟩⟩:=h;exact Ig x A1 A2 c1 c2 w s
theorem Ko {pa:Array Value} {x:Fa} (w:World) (h:FaV pa x):Calls Tryz.prog 179 #[.agg pa] w fun e w'=>e = .returned (.bool (faB x))∧Below w.heap.size w w':=by rw[h];exact Ih x w
theorem Jt {pa:Array Value} {x:As} (w:World) (h:AsV pa x) (s:asB x=true):Calls Tryz.prog 180 #[.agg pa] w (BA w (asE x)):=by rw[h];exact Gt x w s
theorem Ju {pa:Array Value} {x:Tg} (w:World) (h:TgV w w.heap.size pa x) (s:tgB x=true):Calls Tryz.prog 181 #[.agg pa] w (BA w (tgE x)):=by
 obtain⟨b,a,rfl,⟨A1,c1,rfl,_,h1⟩,⟨A2,c2,rfl,_,h2⟩⟩:=h;exact Gu x A1 A2 c1 c2 w s h1 h2
theorem Jv {pa:Array Value} {x:Re} (w:World) (h:ReV w w.heap.size pa x) (s:reB x=true):Calls Tryz.prog 182 #[.agg pa] w (BA w (reE x)):=by
 obtain⟨b,a,rfl,⟨A1,c1,rfl,_,h1⟩,⟨A2,c2,rfl,_,h2⟩⟩:=h;exact Gv x A1 A2 c1 c2 w s h1 h2
theorem Jw {pa:Array Value} {x:Ap} (w:World) (h:ApV w w.heap.size pa x) (s:apB x=true):Calls Tryz.prog 183 #[.agg pa] w (BA w (apE x)):=by
 obtain⟨b,a,rfl,⟨A1,c1,rfl,_,h1⟩,⟨A2,c2,rfl,_,h2⟩⟩:=h;exact Gw x A1 A2 c1 c2 w s h1 h2
theorem Jx {pa:Array Value} {x:Fa} (w:World) (h:FaV pa x):Calls Tryz.prog 184 #[.agg pa] w (BA w (faE x)):=by rw[h];exact Gx x w
def kdB (m:Mg):Bool:=if m.k=1 then asB m.aq else if m.k=2 then tgB m.tg else if m.k=3 then reB m.re else if m.k=4 then apB m.ap else if m.k=5 then faB m.fa else false
theorem Kp (m:Mg):mgB m=(decide (m=nm m)&&kdB m):=by
 unfold mgB kdB nm
 by_cases h1:m.k=1
 ·simp only[if_pos h1];rw[Bool.and_comm]
 ·simp only[if_neg h1]
  by_cases h2:m.k=2
  ·simp only[if_pos h2];rw[Bool.and_comm]
  ·simp only[if_neg h2]
   by_cases h3:m.k=3
   ·simp only[if_pos h3];rw[Bool.and_comm]
   ·simp only[if_neg h3]
    by_cases h4:m.k=4
    ·simp only[if_pos h4];rw[Bool.and_comm]
    ·simp only[if_neg h4]
     by_cases h5:m.k=5
     ·simp only[if_pos h5];rw[Bool.and_comm]
     ·simp only[if_neg h5];rw[Bool.and_false]
section
variable {P:Program} {w:World} {o:Oper} {a:Act}
theorem Bq {w':World} {g:Nat} {t ty:TypeId} {cs:Array Value} {d:TypeDesc} (x:Operand) (ho:o.op = .load ty x) (hx:a.eval x = .pointer (some ⟨g,0,none⟩)) (h:Blk w' g t cs) (hu:P.underlying ty=some d) (hd:d.isRow=true) (hi:(P.info? ty).map (·.size)=some cs.size) :
  (execOp a.eval o).run P w' = .ok (.value (.agg cs)) w':=by
 unfold execOp;simp only[ho,hx,Instr.loadAt,Instr.sureAddr,Sem.run_bind,Sem.run_pure,Result.andThen_ok,Ar h hu hd hi]
end
theorem GF (cs:Array Value) (m:Mg) (w:World) (h:MgV w w.heap.size cs m) (hs:mSm m):Calls Tryz.prog 139 #[.agg cs] w fun e w'=>e = .returned (.bool (mgB m))∧Below w.heap.size w w':=by
 have hV:=h;obtain⟨pa,pt,pr,pp,pf,hc,hp⟩:=h;have hcs:cs.size=30:=by rw[hc];exact hp.size m.k
 have HI:=I (show(Tryz.prog.info? 76).map (·.size)=some cs.size by rw[hcs];exact Bt);obtain⟨W,eW⟩:∃W,W=w.alloc (.cells cs 76):=⟨_,rfl⟩;have HK:=I (show Blk W w.heap.size 76 cs by rw[eW];exact Blk.new _ _ _);have HB:=I (show Below w.heap.size w W by rw[eW];exact Af.alloc Ae _);have EC:=I hc;have HP:=I hp;have TN:=I (fun w1 (h:Below w.heap.size w w1)=>Gz cs m w1 ((hV.keep h).more h.size));have TE:=I (fun w1 ds (h:Below w.heap.size w w1) (g:MgV w1 w1.heap.size ds (nm m))=>GD cs ds m (nm m) w1 ((hV.keep h).more h.size) g);have T1:=I (fun w1=>Kk w1 hp.a hs.1);have T2:=I (fun w1=>Kl w1 hp.t hs.2.1);have T3:=I (fun w1=>Km w1 hp.r hs.2.2.1);have T4:=I (fun w1=>Kn w1 hp.p hs.2.2.2);have T5:=I (fun w1=>Ko w1 hp.f);have MB:=I (Kp m);clear hc hp hV hcs hs;cases en:decide (m=nm m) with
 |false=>
  rw[en] at TE;have E:=I (show mgB m=false by rw[MB.o,en];rfl);clear en;go_enter Tryz.func139,Tryz.ntmps139
  go_upto_region 1 with fail
  rw[←eW];clear eW;replace HK:=I (show Blk W.drew _ _ _ from HK.o.drewN 1);replace HB:=I (show Below _ _ W.drew from below_drewN HB.o 1);refine Reg.CU 5 rfl (by kernel_rfl) ?_;refine Reg.CD 0 (v:=.agg cs) rfl (by kernel_rfl) (by kernel_rfl) (by kernel_rfl) (fun _ _ _ h=>h) (by rfl) (fun w' hS=>Bq (.tmp 1) rfl rfl (HK.o.below hS) Tryz.underlying76 rfl HI.o) ?_;simp only[Act.put,J,U,Aa];refine Reg.CD 1 (v:=.agg cs) rfl (by kernel_rfl) (by kernel_rfl) (by kernel_rfl) (fun _ _ _ h=>h) (by rfl) (fun w' hS=>Bq (.tmp 1) rfl rfl (HK.o.below hS) Tryz.underlying76 rfl HI.o) ?_;simp only[Act.put,J,U,Aa];refine Reg.DO 2 rfl (by kernel_rfl) (by rfl) 174 #[.agg cs] (by go_simp) ?_;refine Calls.mono (TN.o _ HB.o) ?_;rintro e w1 ⟨ds,rfl,hds,hb⟩;refine⟨_,rfl,hb,?_⟩;replace HK:=I (HK.o.below hb);replace HB:=HB.t hb;have HD:=I hds;clear hb hds TN;simp only[Act.put,J,U,Aa];refine Reg.DO 3 rfl (by kernel_rfl) (by rfl) 173 #[.agg cs,.agg ds] (by go_simp) ?_;refine Calls.mono (TE.o _ ds HB.o HD.o) ?_;rintro e w2 ⟨rfl,hb⟩;refine⟨_,rfl,hb,?_⟩;replace HK:=I (HK.o.below hb);replace HB:=HB.t hb;clear hb TE HD;simp only[Act.put,J,U,Aa];refine Reg.CD 4 (v:=.bool true) rfl (by kernel_rfl) (by kernel_rfl) (by kernel_rfl) (fun _ _ _ h=>h) (by rfl) (fun w' hS=>by go_simp) ?_;simp only[Act.put,J,U,Aa];refine wpAnyH_done (by kernel_rfl) ?_ _
  go_wp2
  go_ret;exact⟨by rw[E.o];rfl,HB.o⟩
 |true=>
  rw[en] at TE;have MK:=I (show mgB m=kdB m by rw[MB.o,en];rfl);clear en;go_enter Tryz.func139,Tryz.ntmps139
  go_upto_region 1 with fail
  rw[←eW];clear eW;replace HK:=I (show Blk W.drew _ _ _ from HK.o.drewN 1);replace HB:=I (show Below _ _ W.drew from below_drewN HB.o 1);refine Reg.CU 5 rfl (by kernel_rfl) ?_;refine Reg.CD 0 (v:=.agg cs) rfl (by kernel_rfl) (by kernel_rfl) (by kernel_rfl) (fun _ _ _ h=>h) (by rfl) (fun w' hS=>Bq (.tmp 1) rfl rfl (HK.o.below hS) Tryz.underlying76 rfl HI.o) ?_;simp only[Act.put,J,U,Aa];refine Reg.CD 1 (v:=.agg cs) rfl (by kernel_rfl) (by kernel_rfl) (by kernel_rfl) (fun _ _ _ h=>h) (by rfl) (fun w' hS=>Bq (.tmp 1) rfl rfl (HK.o.below hS) Tryz.underlying76 rfl HI.o) ?_;simp only[Act.put,J,U,Aa];refine Reg.DO 2 rfl (by kernel_rfl) (by rfl) 174 #[.agg cs] (by go_simp) ?_;refine Calls.mono (TN.o _ HB.o) ?_;rintro e w1 ⟨ds,rfl,hds,hb⟩;refine⟨_,rfl,hb,?_⟩;replace HK:=I (HK.o.below hb);replace HB:=HB.t hb;have HD:=I hds;clear hb hds TN;simp only[Act.put,J,U,Aa];refine Reg.DO 3 rfl (by kernel_rfl) (by rfl) 173 #[.agg cs,.agg ds] (by go_simp) ?_;refine Calls.mono (TE.o _ ds HB.o HD.o) ?_;rintro e w2 ⟨rfl,hb⟩;refine⟨_,rfl,hb,?_⟩;replace HK:=I (HK.o.below hb);replace HB:=HB.t hb;clear hb TE HD;simp only[Act.put,J,U,Aa];refine Reg.CD 4 (v:=.bool false) rfl (by kernel_rfl) (by kernel_rfl) (by kernel_rfl) (fun _ _ _ h=>h) (by rfl) (fun w' hS=>by go_simp) ?_;simp only[Act.put,J,U,Aa];refine wpAnyH_done (by kernel_rfl) ?_ _;replace HK:=I (EC.o▸HK.o);have HA:=I (HP.o.at_ HK.o);have k0:=HA.o.k
  by_cases m1:m.k=1
  ·have y1:(m.k==1)=true:=by simpa using m1
   have y2:(m.k==2)=false:=by simp;omega
   have y3:(m.k==3)=false:=by simp;omega
   have y4:(m.k==4)=false:=by simp;omega
   have y5:(m.k==5)=false:=by simp;omega
   have E:=I (show mgB m=asB m.aq by rw[MK.o,kdB,if_pos m1]);clear m1
   go_wp2_with (first
    |(refine Ab (by rfl) 66 (.tmp 12) (by rfl) w.heap.size 1 (by rfl) pa _ HA.o.a Tryz.underlying66 (by rfl) (by rw[HP.o.a.size];exact AS) ?_)
    |(go_at_call 175;refine Calls.mono (T1.o _) ?_;rintro e w3 ⟨rfl,hb⟩;replace HB:=HB.t hb;clear hb T1)
    |fail)
   go_ret;exact⟨by rw[E.o];rfl,HB.o⟩
  ·have nm1:=m1
   by_cases m2:m.k=2
   ·have y1:(m.k==1)=false:=by simp;omega
    have y2:(m.k==2)=true:=by simpa using m2
    have y3:(m.k==3)=false:=by simp;omega
    have y4:(m.k==4)=false:=by simp;omega
    have y5:(m.k==5)=false:=by simp;omega
    have E:=I (show mgB m=tgB m.tg by rw[MK.o,kdB,if_neg m1,if_pos m2]);clear m1 m2
    go_wp2_with (first
     |(refine Ab (by rfl) 68 (.tmp 17) (by rfl) w.heap.size 7 (by rfl) pt _ HA.o.t Tryz.underlying68 (by rfl) (by rw[HP.o.t.size];exact Ba) ?_)
     |(go_at_call 176;refine Calls.mono (T2.o _) ?_;rintro e w3 ⟨rfl,hb⟩;replace HB:=HB.t hb;clear hb T2)
     |fail)
    go_ret;exact⟨by rw[E.o];rfl,HB.o⟩
   ·have nm2:=m2
    by_cases m3:m.k=3
    ·have y1:(m.k==1)=false:=by simp;omega
     have y2:(m.k==2)=false:=by simp;omega
     have y3:(m.k==3)=true:=by simpa using m3
     have y4:(m.k==4)=false:=by simp;omega
     have y5:(m.k==5)=false:=by simp;omega
     have E:=I (show mgB m=reB m.re by rw[MK.o,kdB,if_neg m1,if_neg m2,if_pos m3]);clear m1 m2 m3
     go_wp2_with (first
      |(refine Ab (by rfl) 70 (.tmp 22) (by rfl) w.heap.size 16 (by rfl) pr _ HA.o.r Tryz.underlying70 (by rfl) (by rw[HP.o.r.size];exact Bh) ?_)
      |(go_at_call 177;refine Calls.mono (T3.o _) ?_;rintro e w3 ⟨rfl,hb⟩;replace HB:=HB.t hb;clear hb T3)
      |fail)
     go_ret;exact⟨by rw[E.o];rfl,HB.o⟩
    ·have nm3:=m3
     by_cases m4:m.k=4
     ·have y1:(m.k==1)=false:=by simp;omega
      have y2:(m.k==2)=false:=by simp;omega
      have y3:(m.k==3)=false:=by simp;omega
      have y4:(m.k==4)=true:=by simpa using m4
      have y5:(m.k==5)=false:=by simp;omega
      have E:=I (show mgB m=apB m.ap by rw[MK.o,kdB,if_neg m1,if_neg m2,if_neg m3,if_pos m4]);clear m1 m2 m3 m4
      go_wp2_with (first
       |(refine Ab (by rfl) 72 (.tmp 27) (by rfl) w.heap.size 23 (by rfl) pp _ HA.o.p Tryz.underlying72 (by rfl) (by rw[HP.o.p.size];exact BB) ?_)
       |(go_at_call 178;refine Calls.mono (T4.o _) ?_;rintro e w3 ⟨rfl,hb⟩;replace HB:=HB.t hb;clear hb T4)
       |fail)
      go_ret;exact⟨by rw[E.o];rfl,HB.o⟩
     ·have nm4:=m4
      by_cases m5:m.k=5
      ·have y1:(m.k==1)=false:=by simp;omega
       have y2:(m.k==2)=false:=by simp;omega
       have y3:(m.k==3)=false:=by simp;omega
       have y4:(m.k==4)=false:=by simp;omega
       have y5:(m.k==5)=true:=by simpa using m5
       have E:=I (show mgB m=faB m.fa by rw[MK.o,kdB,if_neg m1,if_neg m2,if_neg m3,if_neg m4,if_pos m5]);clear m1 m2 m3 m4 m5
       go_wp2_with (first
        |(refine Ab (by rfl) 74 (.tmp 32) (by rfl) w.heap.size 28 (by rfl) pf _ HA.o.f Tryz.underlying74 (by rfl) (by rw[HP.o.f.size];exact BY) ?_)
        |(go_at_call 179;refine Calls.mono (T5.o _) ?_;rintro e w3 ⟨rfl,hb⟩;replace HB:=HB.t hb;clear hb T5)
        |fail)
       go_ret;exact⟨by rw[E.o];rfl,HB.o⟩
      ·have nm5:=m5
       have y1:(m.k==1)=false:=by simp;omega
       have y2:(m.k==2)=false:=by simp;omega
       have y3:(m.k==3)=false:=by simp;omega
       have y4:(m.k==4)=false:=by simp;omega
       have y5:(m.k==5)=false:=by simp;omega
       have E:=I (show mgB m=false by rw[MK.o,kdB,if_neg m1,if_neg m2,if_neg m3,if_neg m4,if_neg m5]);clear m1 m2 m3 m4 m5
       go_wp2
       go_ret;exact⟨by rw[E.o];rfl,HB.o⟩
theorem FE (cs:Array Value) (m:Mg) (w:World) (h:MgV w w.heap.size cs m) (hx:mgB m=true):Calls Tryz.prog 141 #[.agg cs] w (BA w (mgE m)):=by
 obtain⟨pa,pt,pr,pp,pf,hc,hp⟩:=h;obtain⟨W,eW⟩:∃W,W=w.alloc (.cells cs 76):=⟨_,rfl⟩;have HK:=I (show Blk W w.heap.size 76 (mgA m.k pa pt pr pp pf) by rw[eW,←hc];exact Blk.new _ _ _);have HB:=I (show Below w.heap.size w W by rw[eW];exact Af.alloc Ae _);have HA:=I (hp.at_ HK.o);have k0:=HA.o.k;have HP:=I hp;clear hc;rcases DM hx with⟨h1,e⟩ | ⟨h1,e⟩ | ⟨h1,e⟩ | ⟨h1,e⟩ | ⟨h1,e⟩
 ·have hk:m.k=1:=by rw[e]
  have y1:(m.k==1)=true:=by rw[hk];rfl
  have y2:(m.k==2)=false:=by rw[hk];rfl
  have y3:(m.k==3)=false:=by rw[hk];rfl
  have y4:(m.k==4)=false:=by rw[hk];rfl
  have y5:(m.k==5)=false:=by rw[hk];rfl
  have E:=I (show mgE m=asE m.aq by rw[e];rfl);have T1:=I (fun w1 (h:Below w.heap.size w w1)=>Jt w1 hp.a h1);rw[E.o];clear hx h1 e hk hp E;go_enter Tryz.func141,Tryz.ntmps141
  go_upto_region 1 with fail
  rw[←eW];clear eW
  go_wp2_with (first
   |(refine Ab (by rfl) 66 (.tmp 7) (by rfl) w.heap.size 1 (by rfl) pa _ HA.o.a Tryz.underlying66 (by rfl) (by rw[HP.o.a.size];exact AS) ?_)
   |(go_at_call 180;refine Calls.mono (T1.o _ HB.o) ?_;rintro e w3 ⟨⟨g,c,rfl,h2,h3,h4⟩,hb⟩;have HG:=I (AQ (l:=asE m.aq) ⟨⟨g,c,rfl,h2,h3,h4⟩,hb⟩ HB.o);clear h2 h3 h4 hb T1)
   |fail)
  go_ret;exact HG.o
 ·have hk:m.k=2:=by rw[e]
  have y1:(m.k==1)=false:=by rw[hk];rfl
  have y2:(m.k==2)=true:=by rw[hk];rfl
  have y3:(m.k==3)=false:=by rw[hk];rfl
  have y4:(m.k==4)=false:=by rw[hk];rfl
  have y5:(m.k==5)=false:=by rw[hk];rfl
  have E:=I (show mgE m=tgE m.tg by rw[e];rfl);have T1:=I (fun w1 (h:Below w.heap.size w w1)=>Ju w1 ((hp.t.keep h).more h.size) h1);rw[E.o];clear hx h1 e hk hp E;go_enter Tryz.func141,Tryz.ntmps141
  go_upto_region 1 with fail
  rw[←eW];clear eW
  go_wp2_with (first
   |(refine Ab (by rfl) 68 (.tmp 12) (by rfl) w.heap.size 7 (by rfl) pt _ HA.o.t Tryz.underlying68 (by rfl) (by rw[HP.o.t.size];exact Ba) ?_)
   |(go_at_call 181;refine Calls.mono (T1.o _ HB.o) ?_;rintro e w3 ⟨⟨g,c,rfl,h2,h3,h4⟩,hb⟩;have HG:=I (AQ (l:=tgE m.tg) ⟨⟨g,c,rfl,h2,h3,h4⟩,hb⟩ HB.o);clear h2 h3 h4 hb T1)
   |fail)
  go_ret;exact HG.o
 ·have hk:m.k=3:=by rw[e]
  have y1:(m.k==1)=false:=by rw[hk];rfl
  have y2:(m.k==2)=false:=by rw[hk];rfl
  have y3:(m.k==3)=true:=by rw[hk];rfl
  have y4:(m.k==4)=false:=by rw[hk];rfl
  have y5:(m.k==5)=false:=by rw[hk];rfl
  have E:=I (show mgE m=reE m.re by rw[e];rfl);have T1:=I (fun w1 (h:Below w.heap.size w w1)=>Jv w1 ((hp.r.keep h).more h.size) h1);rw[E.o];clear hx h1 e hk hp E;go_enter Tryz.func141,Tryz.ntmps141
  go_upto_region 1 with fail
  rw[←eW];clear eW
  go_wp2_with (first
   |(refine Ab (by rfl) 70 (.tmp 17) (by rfl) w.heap.size 16 (by rfl) pr _ HA.o.r Tryz.underlying70 (by rfl) (by rw[HP.o.r.size];exact Bh) ?_)
   |(go_at_call 182;refine Calls.mono (T1.o _ HB.o) ?_;rintro e w3 ⟨⟨g,c,rfl,h2,h3,h4⟩,hb⟩;have HG:=I (AQ (l:=reE m.re) ⟨⟨g,c,rfl,h2,h3,h4⟩,hb⟩ HB.o);clear h2 h3 h4 hb T1)
   |fail)
  go_ret;exact HG.o
 ·have hk:m.k=4:=by rw[e]
  have y1:(m.k==1)=false:=by rw[hk];rfl
  have y2:(m.k==2)=false:=by rw[hk];rfl
  have y3:(m.k==3)=false:=by rw[hk];rfl
  have y4:(m.k==4)=true:=by rw[hk];rfl
  have y5:(m.k==5)=false:=by rw[hk];rfl
  have E:=I (show mgE m=apE m.ap by rw[e];rfl);have T1:=I (fun w1 (h:Below w.heap.size w w1)=>Jw w1 ((hp.p.keep h).more h.size) h1);rw[E.o];clear hx h1 e hk hp E;go_enter Tryz.func141,Tryz.ntmps141
  go_upto_region 1 with fail
  rw[←eW];clear eW
  go_wp2_with (first
   |(refine Ab (by rfl) 72 (.tmp 22) (by rfl) w.heap.size 23 (by rfl) pp _ HA.o.p Tryz.underlying72 (by rfl) (by rw[HP.o.p.size];exact BB) ?_)
   |(go_at_call 183;refine Calls.mono (T1.o _ HB.o) ?_;rintro e w3 ⟨⟨g,c,rfl,h2,h3,h4⟩,hb⟩;have HG:=I (AQ (l:=apE m.ap) ⟨⟨g,c,rfl,h2,h3,h4⟩,hb⟩ HB.o);clear h2 h3 h4 hb T1)
   |fail)
  go_ret;exact HG.o
 ·have hk:m.k=5:=by rw[e]
  have y1:(m.k==1)=false:=by rw[hk];rfl
  have y2:(m.k==2)=false:=by rw[hk];rfl
  have y3:(m.k==3)=false:=by rw[hk];rfl
  have y4:(m.k==4)=false:=by rw[hk];rfl
  have y5:(m.k==5)=true:=by rw[hk];rfl
  have E:=I (show mgE m=faE m.fa by rw[e];rfl);have T1:=I (fun w1 (h:Below w.heap.size w w1)=>Jx w1 hp.f);rw[E.o];clear hx h1 e hk hp E;go_enter Tryz.func141,Tryz.ntmps141
  go_upto_region 1 with fail
  rw[←eW];clear eW
  go_wp2_with (first
   |(refine Ab (by rfl) 74 (.tmp 25) (by rfl) w.heap.size 28 (by rfl) pf _ HA.o.f Tryz.underlying74 (by rfl) (by rw[HP.o.f.size];exact BY) ?_)
   |(go_at_call 184;refine Calls.mono (T1.o _ HB.o) ?_;rintro e w3 ⟨⟨g,c,rfl,h2,h3,h4⟩,hb⟩;have HG:=I (AQ (l:=faE m.fa) ⟨⟨g,c,rfl,h2,h3,h4⟩,hb⟩ HB.o);clear h2 h3 h4 hb T1)
   |fail)
  go_ret;exact HG.o
theorem Kq {m:Mg} (hx:mgB m=true):(mgE m).length≤2000:=by
 rcases DM hx with⟨h1,e⟩ | ⟨h1,e⟩ | ⟨h1,e⟩ | ⟨h1,e⟩ | ⟨h1,e⟩
 ·have hE:mgE m=asE m.aq:=by rw[e];rfl
  have hp:prB m.aq.c=true∧prB m.aq.s=true∧tmB m.aq.t=true∧tmB m.aq.no=true:=by simpa [asB] using h1
  have b1:=(AM hp.1).1;have b2:=(AM hp.2.1).1;have b3:=Av m.aq.t;have b4:=Av m.aq.no;have:=Ao 106 [prE m.aq.c,prE m.aq.s,encI m.aq.t,encI m.aq.no].flatten;rw[hE,asE];rw[Gc] at this⊢;simp only[List.length_append] at this;omega
 ·have hE:mgE m=tgE m.tg:=by rw[e];rfl
  have hp:tkB m.tg.t=true∧Bi m.tg.a=true∧prB m.tg.s=true∧tmB m.tg.u=true∧tmB m.tg.no=true:=by simpa [tgB] using h1
  have b1:=(Bx hp.1).1;have b2:=Ao 4 m.tg.a;have b3:=(AM hp.2.2.1).1;have b4:=Av m.tg.u;have b5:=Av m.tg.no;have b6:=AP hp.2.1;have:=Ao 108 [tkE m.tg.t,elem 4 m.tg.a,prE m.tg.s,encI m.tg.u,encI m.tg.no].flatten;rw[hE,tgE];rw[Gd] at this⊢;simp only[List.length_append] at this;omega
 ·have hE:mgE m=reE m.re:=by rw[e];rfl
  have hp:prB m.re.c=true∧tkB m.re.t=true∧Bi m.re.b=true:=by simpa [reB] using h1
  have b1:=(AM hp.1).1;have b2:=(Bx hp.2.1).1;have b3:=Ao 4 m.re.b;have b6:=AP hp.2.2;have:=Ao 107 [prE m.re.c,tkE m.re.t,elem 4 m.re.b].flatten;rw[hE,reE];rw[DJ] at this⊢;simp only[List.length_append] at this;omega
 ·have hE:mgE m=apE m.ap:=by rw[e];rfl
  have hp:tkB m.ap.t=true∧Bi m.ap.a=true:=by simpa [apB] using h1
  have b2:=(Bx hp.1).1;have b3:=Ao 4 m.ap.a;have b6:=AP hp.2;have:=Ao 110 [tkE m.ap.t,elem 4 m.ap.a].flatten;rw[hE,apE];rw[Co] at this⊢;simp only[List.length_append] at this;omega
 ·have hE:mgE m=faE m.fa:=by rw[e];rfl
  have b2:=Av m.fa.e;have b3:=Av m.fa.no;have:=Ao 126 [encI m.fa.e,encI m.fa.no].flatten;rw[hE,faE];rw[Co] at this⊢;simp only[List.length_append] at this;omega
theorem Jy (cs0:Array Value) (m:Mg) (w:World) (h:MgV w w.heap.size cs0 m) (hs:mSm m):Calls Tryz.prog 94 #[.agg cs0] w (EncR w (mgO m)):=by
 have HI:=I (show(Tryz.prog.info? 76).map (·.size)=some cs0.size by obtain⟨pa,pt,pr,pp,pf,hc,hp⟩:=h;rw[hc,hp.size];exact Bt);have I1:=I (fun w1 (h1:Below w.heap.size w w1)=>GF cs0 m w1 ((h.keep h1).more h1.size) hs);have T0:=I (fun(hx:mgB m=true)=>fun w1 (h1:Below w.heap.size w w1)=>FE cs0 m w1 ((h.keep h1).more h1.size) hx);have HLEN:=I (fun(hx:mgB m=true)=>Kq hx);obtain⟨cs,ecs⟩:∃cs:Array Value,cs=cs0:=⟨_,rfl⟩;rw[←ecs] at HI I1 T0⊢;clear ecs;have HB:=I ((Below.refl w.heap.size w).alloc Ae (.cells cs 76));have HK:=I (Blk.new w 76 cs);cases hx:mgB m with
 |false=>
  rw[hx] at I1;have E:=I (show mgO m=none by unfold mgO limO;rw[hx];rfl);rw[E.o];clear hx E T0 HLEN hs h;go_enter Tryz.func94,Tryz.ntmps94
  go_wp2_with (first
   |(refine Aq (by rfl) 76 (.tmp 1) (by rfl) w.heap.size 0 (by rfl) cs _ (Ak HK.o) Tryz.underlying76 (by rfl) HI.o ?_)
   |(go_at_call 139;refine Calls.mono (I1.o _ HB.o) ?_;rintro e w1 ⟨rfl,hb⟩;replace HB:=HB.t hb;clear hb I1)
   |fail)
  go_ret2
  exact Ia HB.o
 |true=>
  rw[hx] at I1;have T1:=I (T0.o hx);have hlm:=HLEN.o hx;have E:=I (show mgO m=some (mgE m) from Ew.2 ⟨hx,hlm,rfl⟩);rw[E.o];obtain⟨l,el⟩:∃l,l=mgE m:=⟨_,rfl⟩;rw[←el] at T1 hlm⊢;have LM:=I (fun A c w1=>FD l A _ c w1 rfl hlm);clear hx E el hlm T0 HLEN hs h;go_enter Tryz.func94,Tryz.ntmps94
  go_wp2_with (first
   |(refine Aq (by rfl) 76 (.tmp 1) (by rfl) w.heap.size 0 (by rfl) cs _ (Ak HK.o) Tryz.underlying76 (by rfl) HI.o ?_)
   |(go_at_call 139;refine Calls.mono (I1.o _ HB.o) ?_;rintro e w1 ⟨rfl,hb⟩;replace HK:=I (HK.o.below hb);replace HB:=HB.t hb;clear hb I1)
   |(go_at_call 141;refine Calls.mono (T1.o _ HB.o) ?_;rintro e w2 ⟨⟨g,c,rfl,h2,h3,h4⟩,hb⟩;have HG:=I (AQ (l:=l) ⟨⟨g,c,rfl,h2,h3,h4⟩,hb⟩ HB.o);clear h2 h3 h4 hb T1)
   |(go_at_call 140;refine Calls.mono (LM.o _ _ _) ?_;rintro e wy ⟨rfl,rfl⟩;clear LM)
   |fail)
  go_ret2
  exact Ib HG.o
end Mc
end Go.Proofs.YtlfmicidppccnaaGreat
