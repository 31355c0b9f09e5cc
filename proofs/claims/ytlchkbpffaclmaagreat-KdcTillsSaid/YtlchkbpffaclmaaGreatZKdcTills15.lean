import Derived.Test.YtlchkbpffaclmaaGreatZKdcTills11
set_option maxHeartbeats 25600000
set_option maxRecDepth 100000
set_option linter.unusedVariables false
set_option linter.unusedSimpArgs false
namespace Go.Proofs.YtlchkbpffaclmaaGreat
namespace Mc
open DerP Ms
def prQ (c:Option L):Pr×Option L:=(prI (AJ 48 c),AQ 48 c)
def keQ (c:Option L):L×Option L:=((ocC c++key0).take 32,AQ 4 c)
theorem SU (c:Option L):(keQ c).1.length=32:=by
 show((ocC c++key0).take 32).length=32;rw[List.length_take,List.length_append,show key0.length=32 from rfl];omega
def ptQ (b:L):Pt×Option L:=
 let c1:=prQ (AJ 99 (some b));let c2:=keQ c1.2;let c3:=AQ 27 c2.2;let c4:=nmP c3;let c5:=nmP c4.2
 (⟨c1.1,c2.1,txC c2.2,c4.1,c5.1⟩,c5.2)
def anQ (b:L):An×Option L:=
 let c1:=prQ (AJ 98 (some b));let c2:=nmP c1.2;let c3:=nmP c2.2
 (⟨c1.1,c2.1,c3.1⟩,c3.2)
theorem OI {p:Pr} (h:prB p=true) (r:L):prQ (some (prE p++r))=(p,some r):=by
 have h1:=Fp h;have h2:=(Bb h).2;rw[prQ,prE,be (by omega),ne (by omega),FY,prI,Un (by omega),ne (by omega),VG (by omega)]
theorem Vd {k:L} (h:k.length=32) (r:L):keQ (some (elem 4 k++r))=(k,some r):=by
 rw[keQ,YE (by omega),ne (by omega),List.take_append_of_le_length (by omega),List.take_of_length_le (by omega)]
theorem Ve {p:Pt} (h:ptB p=true) (hk:p.ss.length=32):ptQ (ptE p)=(p,some []):=by
 obtain⟨_,h2,h3,h4,h5⟩:=CY h;have t4:=DD h4;have t5:=DD h5;have l1:=(Bb h2).1;have l2:=AD 4 p.ss;have l3:=AD 27 p.tr;have l4:=AF p.st;have l5:=AF p.en;have l6:[prE p.c,elem 4 p.ss,elem 27 p.tr,encI p.st,encI p.en].flatten.length<=65535:=by simp only[List.flatten_cons,List.flatten_nil,List.length_append,List.length_nil];omega
 rw[ptQ,ptE,be0 l6,Fq,OI h2];simp only;rw[Vd hk];simp only;rw[Un (by omega),ne (by omega),Jb (by omega) (by omega)];simp only;rw[Ip (by omega) (by omega)]
theorem Vf {a:An} (h:anB a=true):anQ (anE a)=(a,some []):=by
 have h':prB a.c=true/\tmB a.t=true/\tmB a.q=true:=by simpa [anB] using h
 obtain⟨h2,h4,h5⟩:=h';have t4:=DD h4;have t5:=DD h5;have l1:=(Bb h2).1;have l4:=AF a.t;have l5:=AF a.q;have l6:[prE a.c,encI a.t,encI a.q].flatten.length<=65535:=by simp only[List.flatten_cons,List.flatten_nil,List.length_append,List.length_nil];omega
 rw[anQ,anE,be0 l6,FZ,OI h2];simp only;rw[Jb (by omega) (by omega)];simp only;rw[Ip (by omega) (by omega)]
theorem XQ (b:L):anD b=if anO (anQ b).1=some b then some (anQ b).1 else none:=by
 split
 ·rename_i h;exact VI.2 h
 ·rename_i h
  cases hd:anD b with
  |none=>rfl
  |some m=>
   exfalso
   have h2:=VI.1 hd;have h3:=CS.1 h2;apply h;have e:(anQ b).1=m:=by rw[<-h3.2.2,Vf h3.1]
   rw[e];exact h2
theorem Lb (b:L):(ptQ b).1.ss.length=32:=SU _
theorem SV (b:L):ptD b=if ptO (ptQ b).1=some b then some (ptQ b).1 else none:=by
 split
 ·rename_i h;exact(VH (Lb b)).2 h
 ·rename_i h
  cases hd:ptD b with
  |none=>rfl
  |some m=>
   exfalso
   have h2:=(WO hd).1;have h3:=CS.1 h2;apply h;have hk:m.ss.length=32:=by
    have:=(WO hd).2;have e:(ptP b).1=m:=by rw[this]
    rw[<-e];exact QZ _
   have e:(ptQ b).1=m:=by rw[<-h3.2.2,Ve h3.1 hk]
   rw[e];exact h2
open Go.RowKit Af
theorem ZL (x y:Fa) (w:World):(Op.equalIn 10000 89 (.agg #[.int .i64 x.e,.int .i64 x.no]) (.agg #[.int .i64 y.e,.int .i64 y.no])).run Tryz.prog w=.ok (decide (x=y)) w:=by
 obtain⟨e,no⟩:=x;obtain⟨e2,no2⟩:=y;simp only
 by_cases h0:e=e2
 ·subst h0
  by_cases h1:no=no2
  ·subst h1
   rw[decide_eq_true rfl]
   go_simp
  ·rw[decide_eq_false (fun h=>h1 (congrArg (fun z=>z.no) h))]
   go_simp
 ·rw[decide_eq_false (fun h=>h0 (congrArg (fun z=>z.e) h))]
  go_simp
theorem ZM (x y:As) (w:World):(Op.equalIn 10000 85 (.agg #[.string ⟨x.c.1.toArray⟩,.string ⟨x.c.2.toArray⟩,.string ⟨x.s.1.toArray⟩,.string ⟨x.s.2.toArray⟩,.int .i64 x.t,.int .i64 x.no]) (.agg #[.string ⟨y.c.1.toArray⟩,.string ⟨y.c.2.toArray⟩,.string ⟨y.s.1.toArray⟩,.string ⟨y.s.2.toArray⟩,.int .i64 y.t,.int .i64 y.no])).run Tryz.prog w=.ok (decide (x=y)) w:=by
 obtain⟨⟨a,b⟩,⟨c,d⟩,t,no⟩:=x;obtain⟨⟨a2,b2⟩,⟨c2,d2⟩,t2,no2⟩:=y;simp only
 by_cases h0:a=a2
 ·subst h0
  by_cases h1:b=b2
  ·subst h1
   by_cases h2:c=c2
   ·subst h2
    by_cases h3:d=d2
    ·subst h3
     by_cases h4:t=t2
     ·subst h4
      by_cases h5:no=no2
      ·subst h5
       rw[decide_eq_true rfl]
       go_simp
      ·rw[decide_eq_false (fun h=>h5 (congrArg (fun z=>z.no) h))]
       go_simp
     ·rw[decide_eq_false (fun h=>h4 (congrArg (fun z=>z.t) h))]
      go_simp
    ·rw[decide_eq_false (fun h=>h3 (congrArg (fun z=>z.s.2) h))]
     go_simp
   ·rw[decide_eq_false (fun h=>h2 (congrArg (fun z=>z.s.1) h))]
    go_simp
  ·rw[decide_eq_false (fun h=>h1 (congrArg (fun z=>z.c.2) h))]
   go_simp
 ·rw[decide_eq_false (fun h=>h0 (congrArg (fun z=>z.c.1) h))]
  go_simp
theorem Ht (a b:L) (A D:Option Addr) (c d B:Nat) (w:World) (h:Rd w B A (bvs a)) (g:Rd w B D (bvs b)):Calls Tryz.prog 155 #[.slice A a.length c,.slice D b.length d] w fun e w'=>e=.returned (.bool (decide (a=b)))/\w=w':=by
 have hcv1:=AW (P:=Tryz.prog) w 26 5 Tryz.underlying26 Tryz.underlying5 h a.length c rfl 9 Tryz.underlying9;have hcv2:=AW (P:=Tryz.prog) w 26 5 Tryz.underlying26 Tryz.underlying5 g b.length d rfl 9 Tryz.underlying9;clear h g
 by_cases e:a=b
 ·have t1:(a==b)=true:=by simpa using e
  have E:=I (decide_eq_true e);clear e;go_enter Tryz.func155,Tryz.ntmps155
  go_wp2
  go_ret;exact⟨by rw[E.o];rfl,rfl⟩
 ·have t1:(a==b)=false:=by simpa using e
  have E:=I (decide_eq_false e);clear e;go_enter Tryz.func155,Tryz.ntmps155
  go_wp2
  go_ret;exact⟨by rw[E.o];rfl,rfl⟩
theorem Hu (x y:Tk) (A1 D1:Option Addr) (c1 d1:Nat) (w:World) (h1:Rd w w.heap.size A1 (bvs x.b)) (g1:Rd w w.heap.size D1 (bvs y.b)) :
  Calls Tryz.prog 217 #[.agg #[.string ⟨x.s.1.toArray⟩,.string ⟨x.s.2.toArray⟩,.int .i64 x.k,.slice A1 x.b.length c1],.agg #[.string ⟨y.s.1.toArray⟩,.string ⟨y.s.2.toArray⟩,.int .i64 y.k,.slice D1 y.b.length d1]] w fun e w'=>e=.returned (.bool (decide (x=y)))/\Below w.heap.size w w':=by
 obtain⟨⟨r,n⟩,k,b⟩:=x;obtain⟨⟨r2,n2⟩,k2,b2⟩:=y;simp only at h1 g1⊢;have HB:=I (((Below.refl w.heap.size w).alloc Ag (.cells #[.string ⟨List.toArray r⟩,.string ⟨List.toArray n⟩,.int .i64 k,.slice A1 b.length c1] 28)).alloc (by simp) (.cells #[.string ⟨List.toArray r2⟩,.string ⟨List.toArray n2⟩,.int .i64 k2,.slice D1 b2.length d1] 28));have HX:=I ((Blk.new w 28 #[.string ⟨List.toArray r⟩,.string ⟨List.toArray n⟩,.int .i64 k,.slice A1 b.length c1]).alloc (.cells #[.string ⟨List.toArray r2⟩,.string ⟨List.toArray n2⟩,.int .i64 k2,.slice D1 b2.length d1] 28));have hy:=Blk.new (w.alloc (.cells #[.string ⟨List.toArray r⟩,.string ⟨List.toArray n⟩,.int .i64 k,.slice A1 b.length c1] 28)) 28 #[.string ⟨List.toArray r2⟩,.string ⟨List.toArray n2⟩,.int .i64 k2,.slice D1 b2.length d1];rw[show(w.alloc (.cells #[.string ⟨List.toArray r⟩,.string ⟨List.toArray n⟩,.int .i64 k,.slice A1 b.length c1] 28)).heap.size=w.heap.size+1 by simp] at hy;have HY:=I hy;clear hy;have T1:=I (fun w1 (h:Below w.heap.size w w1)=>Ht b b2 A1 D1 c1 d1 w.heap.size w1 (h1.below h) (g1.below h));clear h1 g1
 by_cases e0a:r=r2
 ·subst e0a
  by_cases e0b:n=n2
  ·subst e0b
   by_cases e1:k=k2
   ·subst e1
    have t1:(k==k)=true:=by simp
    cases e2:decide (b=b2) with
    |false=>
     have E:=I (show decide ((⟨(r,n),k,b⟩:Tk)=⟨(r,n),k,b2⟩)=false from decide_eq_false (fun h=>of_decide_eq_false e2 (congrArg Tk.b h)));rw[e2] at T1;clear e2;go_enter Tryz.func217,Tryz.ntmps217
     go_wp2_with (go_at_call 155;refine Calls.mono (T1.o _ HB.o) ?_;rintro e4 wb1 ⟨rfl,hw⟩;subst hw;clear T1)
     go_ret;exact⟨by rw[E.o];rfl,HB.o⟩
    |true=>
     rw[e2] at T1;have e2':=of_decide_eq_true e2;clear e2;subst e2';have E:=I (show decide ((⟨(r,n),k,b⟩:Tk)=⟨(r,n),k,b⟩)=true from decide_eq_true rfl);go_enter Tryz.func217,Tryz.ntmps217
     go_wp2_with (go_at_call 155;refine Calls.mono (T1.o _ HB.o) ?_;rintro e4 wb1 ⟨rfl,hw⟩;subst hw;clear T1)
     go_ret;exact⟨by rw[E.o];rfl,HB.o⟩
   ·have t1:(k==k2)=false:=by simpa using e1
    have E:=I (show decide ((⟨(r,n),k,b⟩:Tk)=⟨(r,n),k2,b2⟩)=false from decide_eq_false (fun h=>e1 (congrArg Tk.k h)));go_enter Tryz.func217,Tryz.ntmps217
    go_wp2
    go_ret;exact⟨by rw[E.o];rfl,HB.o⟩
  ·have E:=I (show decide ((⟨(r,n),k,b⟩:Tk)=⟨(r,n2),k2,b2⟩)=false from decide_eq_false (fun h=>e0b (congrArg (fun t=>t.s.2) h)))
   go_enter Tryz.func217,Tryz.ntmps217
   go_wp2
   go_ret;exact⟨by rw[E.o];rfl,HB.o⟩
 ·have E:=I (show decide ((⟨(r,n),k,b⟩:Tk)=⟨(r2,n2),k2,b2⟩)=false from decide_eq_false (fun h=>e0a (congrArg (fun t=>t.s.1) h)))
  go_enter Tryz.func217,Tryz.ntmps217
  go_wp2
  go_ret;exact⟨by rw[E.o];rfl,HB.o⟩
theorem Nu (x y:Tg) (A1 A2 D1 D2:Option Addr) (c1 c2 d1 d2:Nat) (w:World) (h1:Rd w w.heap.size A1 (bvs x.t.b)) (g1:Rd w w.heap.size D1 (bvs y.t.b)) (h2:Rd w w.heap.size A2 (bvs x.a)) (g2:Rd w w.heap.size D2 (bvs y.a)) :
  Calls Tryz.prog 187 #[.agg #[.string ⟨x.t.s.1.toArray⟩,.string ⟨x.t.s.2.toArray⟩,.int .i64 x.t.k,.slice A1 x.t.b.length c1,.slice A2 x.a.length c2,.string ⟨x.s.1.toArray⟩,.string ⟨x.s.2.toArray⟩,.int .i64 x.u,.int .i64 x.no],.agg #[.string ⟨y.t.s.1.toArray⟩,.string ⟨y.t.s.2.toArray⟩,.int .i64 y.t.k,.slice D1 y.t.b.length d1,.slice D2 y.a.length d2,.string ⟨y.s.1.toArray⟩,.string ⟨y.s.2.toArray⟩,.int .i64 y.u,.int .i64 y.no]] w fun e w'=>e=.returned (.bool (decide (x=y)))/\Below w.heap.size w w':=by
 obtain⟨t,a,⟨r,n⟩,u,no⟩:=x;obtain⟨t2,a2,⟨r2,n2⟩,u2,no2⟩:=y;simp only at h1 g1 h2 g2⊢;have HB:=I (((Below.refl w.heap.size w).alloc Ag (.cells #[.string ⟨t.s.1.toArray⟩,.string ⟨t.s.2.toArray⟩,.int .i64 t.k,.slice A1 t.b.length c1,.slice A2 a.length c2,.string ⟨List.toArray r⟩,.string ⟨List.toArray n⟩,.int .i64 u,.int .i64 no] 30)).alloc (by simp) (.cells #[.string ⟨t2.s.1.toArray⟩,.string ⟨t2.s.2.toArray⟩,.int .i64 t2.k,.slice D1 t2.b.length d1,.slice D2 a2.length d2,.string ⟨List.toArray r2⟩,.string ⟨List.toArray n2⟩,.int .i64 u2,.int .i64 no2] 30));have HX:=I ((Blk.new w 30 #[.string ⟨t.s.1.toArray⟩,.string ⟨t.s.2.toArray⟩,.int .i64 t.k,.slice A1 t.b.length c1,.slice A2 a.length c2,.string ⟨List.toArray r⟩,.string ⟨List.toArray n⟩,.int .i64 u,.int .i64 no]).alloc (.cells #[.string ⟨t2.s.1.toArray⟩,.string ⟨t2.s.2.toArray⟩,.int .i64 t2.k,.slice D1 t2.b.length d1,.slice D2 a2.length d2,.string ⟨List.toArray r2⟩,.string ⟨List.toArray n2⟩,.int .i64 u2,.int .i64 no2] 30));have hy:=Blk.new (w.alloc (.cells #[.string ⟨t.s.1.toArray⟩,.string ⟨t.s.2.toArray⟩,.int .i64 t.k,.slice A1 t.b.length c1,.slice A2 a.length c2,.string ⟨List.toArray r⟩,.string ⟨List.toArray n⟩,.int .i64 u,.int .i64 no] 30)) 30 #[.string ⟨t2.s.1.toArray⟩,.string ⟨t2.s.2.toArray⟩,.int .i64 t2.k,.slice D1 t2.b.length d1,.slice D2 a2.length d2,.string ⟨List.toArray r2⟩,.string ⟨List.toArray n2⟩,.int .i64 u2,.int .i64 no2];rw[show(w.alloc (.cells #[.string ⟨t.s.1.toArray⟩,.string ⟨t.s.2.toArray⟩,.int .i64 t.k,.slice A1 t.b.length c1,.slice A2 a.length c2,.string ⟨List.toArray r⟩,.string ⟨List.toArray n⟩,.int .i64 u,.int .i64 no] 30)).heap.size=w.heap.size+1 by simp] at hy;have HY:=I hy;clear hy;have T1:=I (fun w1 (h:Below w.heap.size w w1)=>Hu t t2 A1 D1 c1 d1 w1 ((h1.below h).more h.size) ((g1.below h).more h.size));have T2:=I (fun w1 (h:Below w.heap.size w w1)=>Ht a a2 A2 D2 c2 d2 w.heap.size w1 (h2.below h) (g2.below h));clear h1 g1 h2 g2;cases e0:decide (t=t2) with
 |false=>
  have E:=I (show decide ((⟨t,a,(r,n),u,no⟩:Tg)=⟨t2,a2,(r2,n2),u2,no2⟩)=false from decide_eq_false (fun h=>of_decide_eq_false e0 (congrArg Tg.t h)));rw[e0] at T1;clear e0;go_enter Tryz.func187,Tryz.ntmps187
  go_wp2_with (go_at_call 217;refine Calls.mono (T1.o _ HB.o) ?_;rintro e3 w1 ⟨rfl,hb⟩;replace HX:=I (HX.o.below hb);replace HY:=I (HY.o.below hb);replace HB:=HB.t hb;clear hb T1;have kx4:w1.cell? ⟨w.heap.size,4,none⟩=some (.slice A2 a.length c2):=HX.o.cell 4;have ky4:w1.cell? ⟨w.heap.size+1,4,none⟩=some (.slice D2 a2.length d2):=HY.o.cell 4;have kx5:w1.cell? ⟨w.heap.size,5,none⟩=some (.string ⟨List.toArray r⟩):=HX.o.cell 5;have ky5:w1.cell? ⟨w.heap.size+1,5,none⟩=some (.string ⟨List.toArray r2⟩):=HY.o.cell 5;have kx6:w1.cell? ⟨w.heap.size,6,none⟩=some (.string ⟨List.toArray n⟩):=HX.o.cell 6;have ky6:w1.cell? ⟨w.heap.size+1,6,none⟩=some (.string ⟨List.toArray n2⟩):=HY.o.cell 6;have kx7:w1.cell? ⟨w.heap.size,7,none⟩=some (.int .i64 u):=HX.o.cell 7;have ky7:w1.cell? ⟨w.heap.size+1,7,none⟩=some (.int .i64 u2):=HY.o.cell 7;have kx8:w1.cell? ⟨w.heap.size,8,none⟩=some (.int .i64 no):=HX.o.cell 8;have ky8:w1.cell? ⟨w.heap.size+1,8,none⟩=some (.int .i64 no2):=HY.o.cell 8)
  go_ret;exact⟨by rw[E.o];rfl,HB.o⟩
 |true=>
  rw[e0] at T1;have e0':=of_decide_eq_true e0;clear e0;subst e0';cases e1:decide (a=a2) with
  |false=>
   have E:=I (show decide ((⟨t,a,(r,n),u,no⟩:Tg)=⟨t,a2,(r2,n2),u2,no2⟩)=false from decide_eq_false (fun h=>of_decide_eq_false e1 (congrArg Tg.a h)));rw[e1] at T2;clear e1;go_enter Tryz.func187,Tryz.ntmps187
   go_wp2_with (first
    |(go_at_call 217;refine Calls.mono (T1.o _ HB.o) ?_;rintro e3 w1 ⟨rfl,hb⟩;replace HX:=I (HX.o.below hb);replace HY:=I (HY.o.below hb);replace HB:=HB.t hb;clear hb T1;have kx4:w1.cell? ⟨w.heap.size,4,none⟩=some (.slice A2 a.length c2):=HX.o.cell 4;have ky4:w1.cell? ⟨w.heap.size+1,4,none⟩=some (.slice D2 a2.length d2):=HY.o.cell 4;have kx5:w1.cell? ⟨w.heap.size,5,none⟩=some (.string ⟨List.toArray r⟩):=HX.o.cell 5;have ky5:w1.cell? ⟨w.heap.size+1,5,none⟩=some (.string ⟨List.toArray r2⟩):=HY.o.cell 5;have kx6:w1.cell? ⟨w.heap.size,6,none⟩=some (.string ⟨List.toArray n⟩):=HX.o.cell 6;have ky6:w1.cell? ⟨w.heap.size+1,6,none⟩=some (.string ⟨List.toArray n2⟩):=HY.o.cell 6;have kx7:w1.cell? ⟨w.heap.size,7,none⟩=some (.int .i64 u):=HX.o.cell 7;have ky7:w1.cell? ⟨w.heap.size+1,7,none⟩=some (.int .i64 u2):=HY.o.cell 7;have kx8:w1.cell? ⟨w.heap.size,8,none⟩=some (.int .i64 no):=HX.o.cell 8;have ky8:w1.cell? ⟨w.heap.size+1,8,none⟩=some (.int .i64 no2):=HY.o.cell 8)
    |(go_at_call 155;refine Calls.mono (T2.o _ HB.o) ?_;rintro e4 wb2 ⟨rfl,hw⟩;subst hw;clear T2))
   go_ret;exact⟨by rw[E.o];rfl,HB.o⟩
  |true=>
   rw[e1] at T2;have e1':=of_decide_eq_true e1;clear e1;subst e1'
   by_cases e2a:r=r2
   ·subst e2a
    by_cases e2b:n=n2
    ·subst e2b
     by_cases e3:u=u2
     ·subst e3
      have t3:(u==u)=true:=by simp
      by_cases e4:no=no2
      ·subst e4
       have t4:(no==no)=true:=by simp
       have E:=I (show decide ((⟨t,a,(r,n),u,no⟩:Tg)=⟨t,a,(r,n),u,no⟩)=true from decide_eq_true rfl);go_enter Tryz.func187,Tryz.ntmps187
       go_wp2_with (first
        |(go_at_call 217;refine Calls.mono (T1.o _ HB.o) ?_;rintro e3 w1 ⟨rfl,hb⟩;replace HX:=I (HX.o.below hb);replace HY:=I (HY.o.below hb);replace HB:=HB.t hb;clear hb T1;have kx4:w1.cell? ⟨w.heap.size,4,none⟩=some (.slice A2 a.length c2):=HX.o.cell 4;have ky4:w1.cell? ⟨w.heap.size+1,4,none⟩=some (.slice D2 a.length d2):=HY.o.cell 4;have kx5:w1.cell? ⟨w.heap.size,5,none⟩=some (.string ⟨List.toArray r⟩):=HX.o.cell 5;have ky5:w1.cell? ⟨w.heap.size+1,5,none⟩=some (.string ⟨List.toArray r⟩):=HY.o.cell 5;have kx6:w1.cell? ⟨w.heap.size,6,none⟩=some (.string ⟨List.toArray n⟩):=HX.o.cell 6;have ky6:w1.cell? ⟨w.heap.size+1,6,none⟩=some (.string ⟨List.toArray n⟩):=HY.o.cell 6;have kx7:w1.cell? ⟨w.heap.size,7,none⟩=some (.int .i64 u):=HX.o.cell 7;have ky7:w1.cell? ⟨w.heap.size+1,7,none⟩=some (.int .i64 u):=HY.o.cell 7;have kx8:w1.cell? ⟨w.heap.size,8,none⟩=some (.int .i64 no):=HX.o.cell 8;have ky8:w1.cell? ⟨w.heap.size+1,8,none⟩=some (.int .i64 no):=HY.o.cell 8)
        |(go_at_call 155;refine Calls.mono (T2.o _ HB.o) ?_;rintro e4 wb2 ⟨rfl,hw⟩;subst hw;clear T2))
       go_ret;exact⟨by rw[E.o];rfl,HB.o⟩
      ·have t4:(no==no2)=false:=by simpa using e4
       have E:=I (show decide ((⟨t,a,(r,n),u,no⟩:Tg)=⟨t,a,(r,n),u,no2⟩)=false from decide_eq_false (fun h=>e4 (congrArg Tg.no h)));go_enter Tryz.func187,Tryz.ntmps187
       go_wp2_with (first
        |(go_at_call 217;refine Calls.mono (T1.o _ HB.o) ?_;rintro e3 w1 ⟨rfl,hb⟩;replace HX:=I (HX.o.below hb);replace HY:=I (HY.o.below hb);replace HB:=HB.t hb;clear hb T1;have kx4:w1.cell? ⟨w.heap.size,4,none⟩=some (.slice A2 a.length c2):=HX.o.cell 4;have ky4:w1.cell? ⟨w.heap.size+1,4,none⟩=some (.slice D2 a.length d2):=HY.o.cell 4;have kx5:w1.cell? ⟨w.heap.size,5,none⟩=some (.string ⟨List.toArray r⟩):=HX.o.cell 5;have ky5:w1.cell? ⟨w.heap.size+1,5,none⟩=some (.string ⟨List.toArray r⟩):=HY.o.cell 5;have kx6:w1.cell? ⟨w.heap.size,6,none⟩=some (.string ⟨List.toArray n⟩):=HX.o.cell 6;have ky6:w1.cell? ⟨w.heap.size+1,6,none⟩=some (.string ⟨List.toArray n⟩):=HY.o.cell 6;have kx7:w1.cell? ⟨w.heap.size,7,none⟩=some (.int .i64 u):=HX.o.cell 7;have ky7:w1.cell? ⟨w.heap.size+1,7,none⟩=some (.int .i64 u):=HY.o.cell 7;have kx8:w1.cell? ⟨w.heap.size,8,none⟩=some (.int .i64 no):=HX.o.cell 8;have ky8:w1.cell? ⟨w.heap.size+1,8,none⟩=some (.int .i64 no2):=HY.o.cell 8)
        |(go_at_call 155;refine Calls.mono (T2.o _ HB.o) ?_;rintro e4 wb2 ⟨rfl,hw⟩;subst hw;clear T2))
       go_ret;exact⟨by rw[E.o];rfl,HB.o⟩
     ·have t3:(u==u2)=false:=by simpa using e3
      have E:=I (show decide ((⟨t,a,(r,n),u,no⟩:Tg)=⟨t,a,(r,n),u2,no2⟩)=false from decide_eq_false (fun h=>e3 (congrArg Tg.u h)));go_enter Tryz.func187,Tryz.ntmps187
      go_wp2_with (first
       |(go_at_call 217;refine Calls.mono (T1.o _ HB.o) ?_;rintro e3 w1 ⟨rfl,hb⟩;replace HX:=I (HX.o.below hb);replace HY:=I (HY.o.below hb);replace HB:=HB.t hb;clear hb T1;have kx4:w1.cell? ⟨w.heap.size,4,none⟩=some (.slice A2 a.length c2):=HX.o.cell 4;have ky4:w1.cell? ⟨w.heap.size+1,4,none⟩=some (.slice D2 a.length d2):=HY.o.cell 4;have kx5:w1.cell? ⟨w.heap.size,5,none⟩=some (.string ⟨List.toArray r⟩):=HX.o.cell 5;have ky5:w1.cell? ⟨w.heap.size+1,5,none⟩=some (.string ⟨List.toArray r⟩):=HY.o.cell 5;have kx6:w1.cell? ⟨w.heap.size,6,none⟩=some (.string ⟨List.toArray n⟩):=HX.o.cell 6;have ky6:w1.cell? ⟨w.heap.size+1,6,none⟩=some (.string ⟨List.toArray n⟩):=HY.o.cell 6;have kx7:w1.cell? ⟨w.heap.size,7,none⟩=some (.int .i64 u):=HX.o.cell 7;have ky7:w1.cell? ⟨w.heap.size+1,7,none⟩=some (.int .i64 u2):=HY.o.cell 7;have kx8:w1.cell? ⟨w.heap.size,8,none⟩=some (.int .i64 no):=HX.o.cell 8;have ky8:w1.cell? ⟨w.heap.size+1,8,none⟩=some (.int .i64 no2):=HY.o.cell 8)
       |(go_at_call 155;refine Calls.mono (T2.o _ HB.o) ?_;rintro e4 wb2 ⟨rfl,hw⟩;subst hw;clear T2))
      go_ret;exact⟨by rw[E.o];rfl,HB.o⟩
    ·have E:=I (show decide ((⟨t,a,(r,n),u,no⟩:Tg)=⟨t,a,(r,n2),u2,no2⟩)=false from decide_eq_false (fun h=>e2b (congrArg (fun t=>t.s.2) h)))
     go_enter Tryz.func187,Tryz.ntmps187
     go_wp2_with (first
      |(go_at_call 217;refine Calls.mono (T1.o _ HB.o) ?_;rintro e3 w1 ⟨rfl,hb⟩;replace HX:=I (HX.o.below hb);replace HY:=I (HY.o.below hb);replace HB:=HB.t hb;clear hb T1;have kx4:w1.cell? ⟨w.heap.size,4,none⟩=some (.slice A2 a.length c2):=HX.o.cell 4;have ky4:w1.cell? ⟨w.heap.size+1,4,none⟩=some (.slice D2 a.length d2):=HY.o.cell 4;have kx5:w1.cell? ⟨w.heap.size,5,none⟩=some (.string ⟨List.toArray r⟩):=HX.o.cell 5;have ky5:w1.cell? ⟨w.heap.size+1,5,none⟩=some (.string ⟨List.toArray r⟩):=HY.o.cell 5;have kx6:w1.cell? ⟨w.heap.size,6,none⟩=some (.string ⟨List.toArray n⟩):=HX.o.cell 6;have ky6:w1.cell? ⟨w.heap.size+1,6,none⟩=some (.string ⟨List.toArray n2⟩):=HY.o.cell 6;have kx7:w1.cell? ⟨w.heap.size,7,none⟩=some (.int .i64 u):=HX.o.cell 7;have ky7:w1.cell? ⟨w.heap.size+1,7,none⟩=some (.int .i64 u2):=HY.o.cell 7;have kx8:w1.cell? ⟨w.heap.size,8,none⟩=some (.int .i64 no):=HX.o.cell 8;have ky8:w1.cell? ⟨w.heap.size+1,8,none⟩=some (.int .i64 no2):=HY.o.cell 8)
      |(go_at_call 155;refine Calls.mono (T2.o _ HB.o) ?_;rintro e4 wb2 ⟨rfl,hw⟩;subst hw;clear T2))
     go_ret;exact⟨by rw[E.o];rfl,HB.o⟩
   ·have E:=I (show decide ((⟨t,a,(r,n),u,no⟩:Tg)=⟨t,a,(r2,n2),u2,no2⟩)=false from decide_eq_false (fun h=>e2a (congrArg (fun t=>t.s.1) h)))
    go_enter Tryz.func187,Tryz.ntmps187
    go_wp2_with (first
     |(go_at_call 217;refine Calls.mono (T1.o _ HB.o) ?_;rintro e3 w1 ⟨rfl,hb⟩;replace HX:=I (HX.o.below hb);replace HY:=I (HY.o.below hb);replace HB:=HB.t hb;clear hb T1;have kx4:w1.cell? ⟨w.heap.size,4,none⟩=some (.slice A2 a.length c2):=HX.o.cell 4;have ky4:w1.cell? ⟨w.heap.size+1,4,none⟩=some (.slice D2 a.length d2):=HY.o.cell 4;have kx5:w1.cell? ⟨w.heap.size,5,none⟩=some (.string ⟨List.toArray r⟩):=HX.o.cell 5;have ky5:w1.cell? ⟨w.heap.size+1,5,none⟩=some (.string ⟨List.toArray r2⟩):=HY.o.cell 5;have kx6:w1.cell? ⟨w.heap.size,6,none⟩=some (.string ⟨List.toArray n⟩):=HX.o.cell 6;have ky6:w1.cell? ⟨w.heap.size+1,6,none⟩=some (.string ⟨List.toArray n2⟩):=HY.o.cell 6;have kx7:w1.cell? ⟨w.heap.size,7,none⟩=some (.int .i64 u):=HX.o.cell 7;have ky7:w1.cell? ⟨w.heap.size+1,7,none⟩=some (.int .i64 u2):=HY.o.cell 7;have kx8:w1.cell? ⟨w.heap.size,8,none⟩=some (.int .i64 no):=HX.o.cell 8;have ky8:w1.cell? ⟨w.heap.size+1,8,none⟩=some (.int .i64 no2):=HY.o.cell 8)
     |(go_at_call 155;refine Calls.mono (T2.o _ HB.o) ?_;rintro e4 wb2 ⟨rfl,hw⟩;subst hw;clear T2))
    go_ret;exact⟨by rw[E.o];rfl,HB.o⟩
theorem Nv (x y:Re) (A1 A2 D1 D2:Option Addr) (c1 c2 d1 d2:Nat) (w:World) (h1:Rd w w.heap.size A1 (bvs x.t.b)) (g1:Rd w w.heap.size D1 (bvs y.t.b)) (h2:Rd w w.heap.size A2 (bvs x.b)) (g2:Rd w w.heap.size D2 (bvs y.b)) :
  Calls Tryz.prog 188 #[.agg #[.string ⟨x.c.1.toArray⟩,.string ⟨x.c.2.toArray⟩,.string ⟨x.t.s.1.toArray⟩,.string ⟨x.t.s.2.toArray⟩,.int .i64 x.t.k,.slice A1 x.t.b.length c1,.slice A2 x.b.length c2],.agg #[.string ⟨y.c.1.toArray⟩,.string ⟨y.c.2.toArray⟩,.string ⟨y.t.s.1.toArray⟩,.string ⟨y.t.s.2.toArray⟩,.int .i64 y.t.k,.slice D1 y.t.b.length d1,.slice D2 y.b.length d2]] w fun e w'=>e=.returned (.bool (decide (x=y)))/\Below w.heap.size w w':=by
 obtain⟨⟨r,n⟩,t,b⟩:=x;obtain⟨⟨r2,n2⟩,t2,b2⟩:=y;simp only at h1 g1 h2 g2⊢;have HB:=I (((Below.refl w.heap.size w).alloc Ag (.cells #[.string ⟨List.toArray r⟩,.string ⟨List.toArray n⟩,.string ⟨t.s.1.toArray⟩,.string ⟨t.s.2.toArray⟩,.int .i64 t.k,.slice A1 t.b.length c1,.slice A2 b.length c2] 43)).alloc (by simp) (.cells #[.string ⟨List.toArray r2⟩,.string ⟨List.toArray n2⟩,.string ⟨t2.s.1.toArray⟩,.string ⟨t2.s.2.toArray⟩,.int .i64 t2.k,.slice D1 t2.b.length d1,.slice D2 b2.length d2] 43));have HX:=I ((Blk.new w 43 #[.string ⟨List.toArray r⟩,.string ⟨List.toArray n⟩,.string ⟨t.s.1.toArray⟩,.string ⟨t.s.2.toArray⟩,.int .i64 t.k,.slice A1 t.b.length c1,.slice A2 b.length c2]).alloc (.cells #[.string ⟨List.toArray r2⟩,.string ⟨List.toArray n2⟩,.string ⟨t2.s.1.toArray⟩,.string ⟨t2.s.2.toArray⟩,.int .i64 t2.k,.slice D1 t2.b.length d1,.slice D2 b2.length d2] 43));have hy:=Blk.new (w.alloc (.cells #[.string ⟨List.toArray r⟩,.string ⟨List.toArray n⟩,.string ⟨t.s.1.toArray⟩,.string ⟨t.s.2.toArray⟩,.int .i64 t.k,.slice A1 t.b.length c1,.slice A2 b.length c2] 43)) 43 #[.string ⟨List.toArray r2⟩,.string ⟨List.toArray n2⟩,.string ⟨t2.s.1.toArray⟩,.string ⟨t2.s.2.toArray⟩,.int .i64 t2.k,.slice D1 t2.b.length d1,.slice D2 b2.length d2];rw[show(w.alloc (.cells #[.string ⟨List.toArray r⟩,.string ⟨List.toArray n⟩,.string ⟨t.s.1.toArray⟩,.string ⟨t.s.2.toArray⟩,.int .i64 t.k,.slice A1 t.b.length c1,.slice A2 b.length c2] 43)).heap.size=w.heap.size+1 by simp] at hy;have HY:=I hy;clear hy;have T1:=I (fun w1 (h:Below w.heap.size w w1)=>Hu t t2 A1 D1 c1 d1 w1 ((h1.below h).more h.size) ((g1.below h).more h.size));have T2:=I (fun w1 (h:Below w.heap.size w w1)=>Ht b b2 A2 D2 c2 d2 w.heap.size w1 (h2.below h) (g2.below h));clear h1 g1 h2 g2
 by_cases e0a:r=r2
 ·subst e0a
  by_cases e0b:n=n2
  ·subst e0b
   cases e1:decide (t=t2) with
   |false=>
    have E:=I (show decide ((⟨(r,n),t,b⟩:Re)=⟨(r,n),t2,b2⟩)=false from decide_eq_false (fun h=>of_decide_eq_false e1 (congrArg Re.t h)));rw[e1] at T1;clear e1;go_enter Tryz.func188,Tryz.ntmps188
    go_wp2_with (go_at_call 217;refine Calls.mono (T1.o _ HB.o) ?_;rintro e3 w1 ⟨rfl,hb⟩;replace HX:=I (HX.o.below hb);replace HY:=I (HY.o.below hb);replace HB:=HB.t hb;clear hb T1;have kx6:w1.cell? ⟨w.heap.size,6,none⟩=some (.slice A2 b.length c2):=HX.o.cell 6;have ky6:w1.cell? ⟨w.heap.size+1,6,none⟩=some (.slice D2 b2.length d2):=HY.o.cell 6)
    go_ret;exact⟨by rw[E.o];rfl,HB.o⟩
   |true=>
    rw[e1] at T1;have e1':=of_decide_eq_true e1;clear e1;subst e1';cases e2:decide (b=b2) with
    |false=>
     have E:=I (show decide ((⟨(r,n),t,b⟩:Re)=⟨(r,n),t,b2⟩)=false from decide_eq_false (fun h=>of_decide_eq_false e2 (congrArg Re.b h)));rw[e2] at T2;clear e2;go_enter Tryz.func188,Tryz.ntmps188
     go_wp2_with (first
      |(go_at_call 217;refine Calls.mono (T1.o _ HB.o) ?_;rintro e3 w1 ⟨rfl,hb⟩;replace HX:=I (HX.o.below hb);replace HY:=I (HY.o.below hb);replace HB:=HB.t hb;clear hb T1;have kx6:w1.cell? ⟨w.heap.size,6,none⟩=some (.slice A2 b.length c2):=HX.o.cell 6;have ky6:w1.cell? ⟨w.heap.size+1,6,none⟩=some (.slice D2 b2.length d2):=HY.o.cell 6)
      |(go_at_call 155;refine Calls.mono (T2.o _ HB.o) ?_;rintro e4 wb2 ⟨rfl,hw⟩;subst hw;clear T2))
     go_ret;exact⟨by rw[E.o];rfl,HB.o⟩
    |true=>
     rw[e2] at T2;have e2':=of_decide_eq_true e2;clear e2;subst e2';have E:=I (show decide ((⟨(r,n),t,b⟩:Re)=⟨(r,n),t,b⟩)=true from decide_eq_true rfl);go_enter Tryz.func188,Tryz.ntmps188
     go_wp2_with (first
      |(go_at_call 217;refine Calls.mono (T1.o _ HB.o) ?_;rintro e3 w1 ⟨rfl,hb⟩;replace HX:=I (HX.o.below hb);replace HY:=I (HY.o.below hb);replace HB:=HB.t hb;clear hb T1;have kx6:w1.cell? ⟨w.heap.size,6,none⟩=some (.slice A2 b.length c2):=HX.o.cell 6;have ky6:w1.cell? ⟨w.heap.size+1,6,none⟩=some (.slice D2 b.length d2):=HY.o.cell 6)
      |(go_at_call 155;refine Calls.mono (T2.o _ HB.o) ?_;rintro e4 wb2 ⟨rfl,hw⟩;subst hw;clear T2))
     go_ret;exact⟨by rw[E.o];rfl,HB.o⟩
  ·have E:=I (show decide ((⟨(r,n),t,b⟩:Re)=⟨(r,n2),t2,b2⟩)=false from decide_eq_false (fun h=>e0b (congrArg (fun t=>t.c.2) h)))
   go_enter Tryz.func188,Tryz.ntmps188
   go_wp2
   go_ret;exact⟨by rw[E.o];rfl,HB.o⟩
 ·have E:=I (show decide ((⟨(r,n),t,b⟩:Re)=⟨(r2,n2),t2,b2⟩)=false from decide_eq_false (fun h=>e0a (congrArg (fun t=>t.c.1) h)))
  go_enter Tryz.func188,Tryz.ntmps188
  go_wp2
  go_ret;exact⟨by rw[E.o];rfl,HB.o⟩
theorem Nx (x y:Ap) (A1 A2 D1 D2:Option Addr) (c1 c2 d1 d2:Nat) (w:World) (h1:Rd w w.heap.size A1 (bvs x.t.b)) (g1:Rd w w.heap.size D1 (bvs y.t.b)) (h2:Rd w w.heap.size A2 (bvs x.a)) (g2:Rd w w.heap.size D2 (bvs y.a)) :
  Calls Tryz.prog 189 #[.agg #[.string ⟨x.t.s.1.toArray⟩,.string ⟨x.t.s.2.toArray⟩,.int .i64 x.t.k,.slice A1 x.t.b.length c1,.slice A2 x.a.length c2],.agg #[.string ⟨y.t.s.1.toArray⟩,.string ⟨y.t.s.2.toArray⟩,.int .i64 y.t.k,.slice D1 y.t.b.length d1,.slice D2 y.a.length d2]] w fun e w'=>e=.returned (.bool (decide (x=y)))/\Below w.heap.size w w':=by
 obtain⟨t,a⟩:=x;obtain⟨t2,a2⟩:=y;simp only at h1 g1 h2 g2⊢;have HB:=I (((Below.refl w.heap.size w).alloc Ag (.cells #[.string ⟨t.s.1.toArray⟩,.string ⟨t.s.2.toArray⟩,.int .i64 t.k,.slice A1 t.b.length c1,.slice A2 a.length c2] 87)).alloc (by simp) (.cells #[.string ⟨t2.s.1.toArray⟩,.string ⟨t2.s.2.toArray⟩,.int .i64 t2.k,.slice D1 t2.b.length d1,.slice D2 a2.length d2] 87));have HX:=I ((Blk.new w 87 #[.string ⟨t.s.1.toArray⟩,.string ⟨t.s.2.toArray⟩,.int .i64 t.k,.slice A1 t.b.length c1,.slice A2 a.length c2]).alloc (.cells #[.string ⟨t2.s.1.toArray⟩,.string ⟨t2.s.2.toArray⟩,.int .i64 t2.k,.slice D1 t2.b.length d1,.slice D2 a2.length d2] 87));have hy:=Blk.new (w.alloc (.cells #[.string ⟨t.s.1.toArray⟩,.string ⟨t.s.2.toArray⟩,.int .i64 t.k,.slice A1 t.b.length c1,.slice A2 a.length c2] 87)) 87 #[.string ⟨t2.s.1.toArray⟩,.string ⟨t2.s.2.toArray⟩,.int .i64 t2.k,.slice D1 t2.b.length d1,.slice D2 a2.length d2];rw[show(w.alloc (.cells #[.string ⟨t.s.1.toArray⟩,.string ⟨t.s.2.toArray⟩,.int .i64 t.k,.slice A1 t.b.length c1,.slice A2 a.length c2] 87)).heap.size=w.heap.size+1 by simp] at hy;have HY:=I hy;clear hy;have T1:=I (fun w1 (h:Below w.heap.size w w1)=>Hu t t2 A1 D1 c1 d1 w1 ((h1.below h).more h.size) ((g1.below h).more h.size));have T2:=I (fun w1 (h:Below w.heap.size w w1)=>Ht a a2 A2 D2 c2 d2 w.heap.size w1 (h2.below h) (g2.below h));clear h1 g1 h2 g2;cases e0:decide (t=t2) with
 |false=>
  have E:=I (show decide ((⟨t,a⟩:Ap)=⟨t2,a2⟩)=false from decide_eq_false (fun h=>of_decide_eq_false e0 (congrArg Ap.t h)));rw[e0] at T1;clear e0;go_enter Tryz.func189,Tryz.ntmps189
  go_wp2_with (go_at_call 217;refine Calls.mono (T1.o _ HB.o) ?_;rintro e3 w1 ⟨rfl,hb⟩;replace HX:=I (HX.o.below hb);replace HY:=I (HY.o.below hb);replace HB:=HB.t hb;clear hb T1;have kx4:w1.cell? ⟨w.heap.size,4,none⟩=some (.slice A2 a.length c2):=HX.o.cell 4;have ky4:w1.cell? ⟨w.heap.size+1,4,none⟩=some (.slice D2 a2.length d2):=HY.o.cell 4)
  go_ret;exact⟨by rw[E.o];rfl,HB.o⟩
 |true=>
  rw[e0] at T1;have e0':=of_decide_eq_true e0;clear e0;subst e0';cases e1:decide (a=a2) with
  |false=>
   have E:=I (show decide ((⟨t,a⟩:Ap)=⟨t,a2⟩)=false from decide_eq_false (fun h=>of_decide_eq_false e1 (congrArg Ap.a h)));rw[e1] at T2;clear e1;go_enter Tryz.func189,Tryz.ntmps189
   go_wp2_with (first
    |(go_at_call 217;refine Calls.mono (T1.o _ HB.o) ?_;rintro e3 w1 ⟨rfl,hb⟩;replace HX:=I (HX.o.below hb);replace HY:=I (HY.o.below hb);replace HB:=HB.t hb;clear hb T1;have kx4:w1.cell? ⟨w.heap.size,4,none⟩=some (.slice A2 a.length c2):=HX.o.cell 4;have ky4:w1.cell? ⟨w.heap.size+1,4,none⟩=some (.slice D2 a2.length d2):=HY.o.cell 4)
    |(go_at_call 155;refine Calls.mono (T2.o _ HB.o) ?_;rintro e4 wb2 ⟨rfl,hw⟩;subst hw;clear T2))
   go_ret;exact⟨by rw[E.o];rfl,HB.o⟩
  |true=>
   rw[e1] at T2;have e1':=of_decide_eq_true e1;clear e1;subst e1';have E:=I (show decide ((⟨t,a⟩:Ap)=⟨t,a⟩)=true from decide_eq_true rfl);go_enter Tryz.func189,Tryz.ntmps189
   go_wp2_with (first
    |(go_at_call 217;refine Calls.mono (T1.o _ HB.o) ?_;rintro e3 w1 ⟨rfl,hb⟩;replace HX:=I (HX.o.below hb);replace HY:=I (HY.o.below hb);replace HB:=HB.t hb;clear hb T1;have kx4:w1.cell? ⟨w.heap.size,4,none⟩=some (.slice A2 a.length c2):=HX.o.cell 4;have ky4:w1.cell? ⟨w.heap.size+1,4,none⟩=some (.slice D2 a.length d2):=HY.o.cell 4)
    |(go_at_call 155;refine Calls.mono (T2.o _ HB.o) ?_;rintro e4 wb2 ⟨rfl,hw⟩;subst hw;clear T2))
   go_ret;exact⟨by rw[E.o];rfl,HB.o⟩
end Mc
end Go.Proofs.YtlchkbpffaclmaaGreat
