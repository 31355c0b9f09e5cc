import Derived.Test.YtfbnjcdhipplpaaGreatZAcceptorErrs12
set_option maxHeartbeats 25600000
set_option maxRecDepth 100000
set_option linter.unusedVariables false
set_option linter.unusedSimpArgs false
namespace Go.Proofs.YtfbnjcdhipplpaaGreat
namespace Mc
open Go.RowKit Af DerP Ms
theorem Gx (a b:L) (A D:Option Addr) (c d B:Nat) (w:World) (h:Rd w B A (bvs a)) (g:Rd w B D (bvs b)):Calls Tryz.prog 169 #[.slice A a.length c,.slice D b.length d] w fun e w'=>e=.returned (.bool (decide (a=b)))/\w=w':=by
 have M:=Es (P:=Tryz.prog) w 34 5 Tryz.underlying34 Tryz.underlying5 h a.length c rfl 9 Tryz.underlying9;have O:=Es (P:=Tryz.prog) w 34 5 Tryz.underlying34 Tryz.underlying5 g b.length d rfl 9 Tryz.underlying9;clear h g
 by_cases e:a=b
 ·have Z:(a==b)=true:=by simpa using e
  have E:=I (decide_eq_true e);clear e;go_enter Tryz.func169,Tryz.ntmps169
  go_wp2
  go_ret;exact⟨by rw[E.o];rfl,rfl⟩
 ·have Z:(a==b)=false:=by simpa using e
  have E:=I (decide_eq_false e);clear e;go_enter Tryz.func169,Tryz.ntmps169
  go_wp2
  go_ret;exact⟨by rw[E.o];rfl,rfl⟩
theorem Ik (x y:Tk) (A1 Z:Option Addr) (c1 d1:Nat) (w:World) (h1:Rd w w.heap.size A1 (bvs x.b)) (g1:Rd w w.heap.size Z (bvs y.b)) :
  Calls Tryz.prog 278 #[.agg #[.string ⟨x.s.1.toArray⟩,.string ⟨x.s.2.toArray⟩,.int .i64 x.k,.slice A1 x.b.length c1],.agg #[.string ⟨y.s.1.toArray⟩,.string ⟨y.s.2.toArray⟩,.int .i64 y.k,.slice Z y.b.length d1]] w fun e w'=>e=.returned (.bool (decide (x=y)))/\Below w.heap.size w w':=by
 obtain⟨⟨r,n⟩,k,b⟩:=x;obtain⟨⟨r2,O⟩,k2,b2⟩:=y;simp only at h1 g1⊢;have M:=I (((Below.refl w.heap.size w).alloc Ag (.cells #[.string ⟨List.toArray r⟩,.string ⟨List.toArray n⟩,.int .i64 k,.slice A1 b.length c1] 83)).alloc (by simp) (.cells #[.string ⟨List.toArray r2⟩,.string ⟨List.toArray O⟩,.int .i64 k2,.slice Z b2.length d1] 83));have HX:=I ((Blk.new w 83 #[.string ⟨List.toArray r⟩,.string ⟨List.toArray n⟩,.int .i64 k,.slice A1 b.length c1]).alloc (.cells #[.string ⟨List.toArray r2⟩,.string ⟨List.toArray O⟩,.int .i64 k2,.slice Z b2.length d1] 83));have hy:=Blk.new (w.alloc (.cells #[.string ⟨List.toArray r⟩,.string ⟨List.toArray n⟩,.int .i64 k,.slice A1 b.length c1] 83)) 83 #[.string ⟨List.toArray r2⟩,.string ⟨List.toArray O⟩,.int .i64 k2,.slice Z b2.length d1];rw[show(w.alloc (.cells #[.string ⟨List.toArray r⟩,.string ⟨List.toArray n⟩,.int .i64 k,.slice A1 b.length c1] 83)).heap.size=w.heap.size+1 by simp] at hy;have HY:=I hy;clear hy;have T1:=I (fun w1 (h:Below w.heap.size w w1)=>Gx b b2 A1 Z c1 d1 w.heap.size w1 (h1.below h) (g1.below h));clear h1 g1
 by_cases e0a:r=r2
 ·subst e0a
  by_cases e0b:n=O
  ·subst e0b
   by_cases e1:k=k2
   ·subst e1
    have t1:(k==k)=true:=by simp
    cases e2:decide (b=b2) with
    |false=>
     have E:=I (show decide ((⟨(r,n),k,b⟩:Tk)=⟨(r,n),k,b2⟩)=false from decide_eq_false (fun h=>of_decide_eq_false e2 (congrArg Tk.b h)));rw[e2] at T1;clear e2;go_enter Tryz.func278,Tryz.ntmps278
     go_wp2_with (go_at_call 169;refine Calls.mono (T1.o _ M.o) ?_;rintro e4 aw ⟨rfl,hw⟩;subst hw;clear T1)
     go_ret;exact⟨by rw[E.o];rfl,M.o⟩
    |true=>
     rw[e2] at T1;have av:=of_decide_eq_true e2;clear e2;subst av;have E:=I (show decide ((⟨(r,n),k,b⟩:Tk)=⟨(r,n),k,b⟩)=true from decide_eq_true rfl);go_enter Tryz.func278,Tryz.ntmps278
     go_wp2_with (go_at_call 169;refine Calls.mono (T1.o _ M.o) ?_;rintro e4 aw ⟨rfl,hw⟩;subst hw;clear T1)
     go_ret;exact⟨by rw[E.o];rfl,M.o⟩
   ·have t1:(k==k2)=false:=by simpa using e1
    have E:=I (show decide ((⟨(r,n),k,b⟩:Tk)=⟨(r,n),k2,b2⟩)=false from decide_eq_false (fun h=>e1 (congrArg Tk.k h)));go_enter Tryz.func278,Tryz.ntmps278
    go_wp2
    go_ret;exact⟨by rw[E.o];rfl,M.o⟩
  ·have E:=I (show decide ((⟨(r,n),k,b⟩:Tk)=⟨(r,O),k2,b2⟩)=false from decide_eq_false (fun h=>e0b (congrArg (fun t=>t.s.2) h)))
   go_enter Tryz.func278,Tryz.ntmps278
   go_wp2
   go_ret;exact⟨by rw[E.o];rfl,M.o⟩
 ·have E:=I (show decide ((⟨(r,n),k,b⟩:Tk)=⟨(r2,O),k2,b2⟩)=false from decide_eq_false (fun h=>e0a (congrArg (fun t=>t.s.1) h)))
  go_enter Tryz.func278,Tryz.ntmps278
  go_wp2
  go_ret;exact⟨by rw[E.o];rfl,M.o⟩
theorem OF (x y:Tg) (A1 A2 D1 D2:Option Addr) (c1 c2 d1 d2:Nat) (w:World) (h1:Rd w w.heap.size A1 (bvs x.t.b)) (g1:Rd w w.heap.size D1 (bvs y.t.b)) (h2:Rd w w.heap.size A2 (bvs x.a)) (g2:Rd w w.heap.size D2 (bvs y.a)) :
  Calls Tryz.prog 251 #[.agg #[.string ⟨x.t.s.1.toArray⟩,.string ⟨x.t.s.2.toArray⟩,.int .i64 x.t.k,.slice A1 x.t.b.length c1,.slice A2 x.a.length c2,.string ⟨x.s.1.toArray⟩,.string ⟨x.s.2.toArray⟩,.int .i64 x.u,.int .i64 x.no],.agg #[.string ⟨y.t.s.1.toArray⟩,.string ⟨y.t.s.2.toArray⟩,.int .i64 y.t.k,.slice D1 y.t.b.length d1,.slice D2 y.a.length d2,.string ⟨y.s.1.toArray⟩,.string ⟨y.s.2.toArray⟩,.int .i64 y.u,.int .i64 y.no]] w fun e w'=>e=.returned (.bool (decide (x=y)))/\Below w.heap.size w w':=by
 obtain⟨t,a,⟨r,n⟩,u,no⟩:=x;obtain⟨t2,a2,⟨r2,n2⟩,u2,av⟩:=y;simp only at h1 g1 h2 g2⊢;have HB:=I (((Below.refl w.heap.size w).alloc Ag (.cells #[.string ⟨t.s.1.toArray⟩,.string ⟨t.s.2.toArray⟩,.int .i64 t.k,.slice A1 t.b.length c1,.slice A2 a.length c2,.string ⟨List.toArray r⟩,.string ⟨List.toArray n⟩,.int .i64 u,.int .i64 no] 89)).alloc (by simp) (.cells #[.string ⟨t2.s.1.toArray⟩,.string ⟨t2.s.2.toArray⟩,.int .i64 t2.k,.slice D1 t2.b.length d1,.slice D2 a2.length d2,.string ⟨List.toArray r2⟩,.string ⟨List.toArray n2⟩,.int .i64 u2,.int .i64 av] 89));have O:=I ((Blk.new w 89 #[.string ⟨t.s.1.toArray⟩,.string ⟨t.s.2.toArray⟩,.int .i64 t.k,.slice A1 t.b.length c1,.slice A2 a.length c2,.string ⟨List.toArray r⟩,.string ⟨List.toArray n⟩,.int .i64 u,.int .i64 no]).alloc (.cells #[.string ⟨t2.s.1.toArray⟩,.string ⟨t2.s.2.toArray⟩,.int .i64 t2.k,.slice D1 t2.b.length d1,.slice D2 a2.length d2,.string ⟨List.toArray r2⟩,.string ⟨List.toArray n2⟩,.int .i64 u2,.int .i64 av] 89));have hy:=Blk.new (w.alloc (.cells #[.string ⟨t.s.1.toArray⟩,.string ⟨t.s.2.toArray⟩,.int .i64 t.k,.slice A1 t.b.length c1,.slice A2 a.length c2,.string ⟨List.toArray r⟩,.string ⟨List.toArray n⟩,.int .i64 u,.int .i64 no] 89)) 89 #[.string ⟨t2.s.1.toArray⟩,.string ⟨t2.s.2.toArray⟩,.int .i64 t2.k,.slice D1 t2.b.length d1,.slice D2 a2.length d2,.string ⟨List.toArray r2⟩,.string ⟨List.toArray n2⟩,.int .i64 u2,.int .i64 av];rw[show(w.alloc (.cells #[.string ⟨t.s.1.toArray⟩,.string ⟨t.s.2.toArray⟩,.int .i64 t.k,.slice A1 t.b.length c1,.slice A2 a.length c2,.string ⟨List.toArray r⟩,.string ⟨List.toArray n⟩,.int .i64 u,.int .i64 no] 89)).heap.size=w.heap.size+1 by simp] at hy;have M:=I hy;clear hy;have T1:=I (fun w1 (h:Below w.heap.size w w1)=>Ik t t2 A1 D1 c1 d1 w1 ((h1.below h).more h.size) ((g1.below h).more h.size));have T2:=I (fun w1 (h:Below w.heap.size w w1)=>Gx a a2 A2 D2 c2 d2 w.heap.size w1 (h2.below h) (g2.below h));clear h1 g1 h2 g2;cases e0:decide (t=t2) with
 |false=>
  have E:=I (show decide ((⟨t,a,(r,n),u,no⟩:Tg)=⟨t2,a2,(r2,n2),u2,av⟩)=false from decide_eq_false (fun h=>of_decide_eq_false e0 (congrArg Tg.t h)));rw[e0] at T1;clear e0;go_enter Tryz.func251,Tryz.ntmps251
  go_wp2_with (go_at_call 278;refine Calls.mono (T1.o _ HB.o) ?_;rintro e3 w1 ⟨rfl,Z⟩;replace O:=I (O.o.below Z);replace M:=I (M.o.below Z);replace HB:=HB.t Z;clear Z T1;have bB:=O.c4;have bn:=M.c4;have cb:=O.c5;have aw:=M.c5;have cc:=O.c6;have bz:=M.c6;have ca:=O.c7;have bq:=M.c7;have bb:=O.c8;have bx:=M.c8)
  go_ret;exact⟨by rw[E.o];rfl,HB.o⟩
 |true=>
  rw[e0] at T1;have cg:=of_decide_eq_true e0;clear e0;subst cg;cases e1:decide (a=a2) with
  |false=>
   have E:=I (show decide ((⟨t,a,(r,n),u,no⟩:Tg)=⟨t,a2,(r2,n2),u2,av⟩)=false from decide_eq_false (fun h=>of_decide_eq_false e1 (congrArg Tg.a h)));rw[e1] at T2;clear e1;go_enter Tryz.func251,Tryz.ntmps251
   go_wp2_with (first
    |(go_at_call 278;refine Calls.mono (T1.o _ HB.o) ?_;rintro e3 w1 ⟨rfl,Z⟩;replace O:=I (O.o.below Z);replace M:=I (M.o.below Z);replace HB:=HB.t Z;clear Z T1;have bB:=O.c4;have bn:=M.c4;have cb:=O.c5;have aw:=M.c5;have cc:=O.c6;have bz:=M.c6;have ca:=O.c7;have bq:=M.c7;have bb:=O.c8;have bx:=M.c8)
    |(go_at_call 169;refine Calls.mono (T2.o _ HB.o) ?_;rintro e4 cd ⟨rfl,hw⟩;subst hw;clear T2))
   go_ret;exact⟨by rw[E.o];rfl,HB.o⟩
  |true=>
   rw[e1] at T2;have cf:=of_decide_eq_true e1;clear e1;subst cf
   by_cases e2a:r=r2
   ·subst e2a
    by_cases e2b:n=n2
    ·subst e2b
     by_cases e3:u=u2
     ·subst e3
      have t3:(u==u)=true:=by simp
      by_cases e4:no=av
      ·subst e4
       have t4:(no==no)=true:=by simp
       have E:=I (show decide ((⟨t,a,(r,n),u,no⟩:Tg)=⟨t,a,(r,n),u,no⟩)=true from decide_eq_true rfl);go_enter Tryz.func251,Tryz.ntmps251
       go_wp2_with (first
        |(go_at_call 278;refine Calls.mono (T1.o _ HB.o) ?_;rintro e3 w1 ⟨rfl,Z⟩;replace O:=I (O.o.below Z);replace M:=I (M.o.below Z);replace HB:=HB.t Z;clear Z T1;have bB:=O.c4;have bn:=M.c4;have cb:=O.c5;have aw:=M.c5;have cc:=O.c6;have bz:=M.c6;have ca:=O.c7;have bq:=M.c7;have bb:=O.c8;have bx:=M.c8)
        |(go_at_call 169;refine Calls.mono (T2.o _ HB.o) ?_;rintro e4 cd ⟨rfl,hw⟩;subst hw;clear T2))
       go_ret;exact⟨by rw[E.o];rfl,HB.o⟩
      ·have t4:(no==av)=false:=by simpa using e4
       have E:=I (show decide ((⟨t,a,(r,n),u,no⟩:Tg)=⟨t,a,(r,n),u,av⟩)=false from decide_eq_false (fun h=>e4 (congrArg Tg.no h)));go_enter Tryz.func251,Tryz.ntmps251
       go_wp2_with (first
        |(go_at_call 278;refine Calls.mono (T1.o _ HB.o) ?_;rintro e3 w1 ⟨rfl,Z⟩;replace O:=I (O.o.below Z);replace M:=I (M.o.below Z);replace HB:=HB.t Z;clear Z T1;have bB:=O.c4;have bn:=M.c4;have cb:=O.c5;have aw:=M.c5;have cc:=O.c6;have bz:=M.c6;have ca:=O.c7;have bq:=M.c7;have bb:=O.c8;have bx:=M.c8)
        |(go_at_call 169;refine Calls.mono (T2.o _ HB.o) ?_;rintro e4 cd ⟨rfl,hw⟩;subst hw;clear T2))
       go_ret;exact⟨by rw[E.o];rfl,HB.o⟩
     ·have t3:(u==u2)=false:=by simpa using e3
      have E:=I (show decide ((⟨t,a,(r,n),u,no⟩:Tg)=⟨t,a,(r,n),u2,av⟩)=false from decide_eq_false (fun h=>e3 (congrArg Tg.u h)));go_enter Tryz.func251,Tryz.ntmps251
      go_wp2_with (first
       |(go_at_call 278;refine Calls.mono (T1.o _ HB.o) ?_;rintro e3 w1 ⟨rfl,Z⟩;replace O:=I (O.o.below Z);replace M:=I (M.o.below Z);replace HB:=HB.t Z;clear Z T1;have bB:=O.c4;have bn:=M.c4;have cb:=O.c5;have aw:=M.c5;have cc:=O.c6;have bz:=M.c6;have ca:=O.c7;have bq:=M.c7;have bb:=O.c8;have bx:=M.c8)
       |(go_at_call 169;refine Calls.mono (T2.o _ HB.o) ?_;rintro e4 cd ⟨rfl,hw⟩;subst hw;clear T2))
      go_ret;exact⟨by rw[E.o];rfl,HB.o⟩
    ·have E:=I (show decide ((⟨t,a,(r,n),u,no⟩:Tg)=⟨t,a,(r,n2),u2,av⟩)=false from decide_eq_false (fun h=>e2b (congrArg (fun t=>t.s.2) h)))
     go_enter Tryz.func251,Tryz.ntmps251
     go_wp2_with (first
      |(go_at_call 278;refine Calls.mono (T1.o _ HB.o) ?_;rintro e3 w1 ⟨rfl,Z⟩;replace O:=I (O.o.below Z);replace M:=I (M.o.below Z);replace HB:=HB.t Z;clear Z T1;have bB:=O.c4;have bn:=M.c4;have cb:=O.c5;have aw:=M.c5;have cc:=O.c6;have bz:=M.c6;have ca:=O.c7;have bq:=M.c7;have bb:=O.c8;have bx:=M.c8)
      |(go_at_call 169;refine Calls.mono (T2.o _ HB.o) ?_;rintro e4 cd ⟨rfl,hw⟩;subst hw;clear T2))
     go_ret;exact⟨by rw[E.o];rfl,HB.o⟩
   ·have E:=I (show decide ((⟨t,a,(r,n),u,no⟩:Tg)=⟨t,a,(r2,n2),u2,av⟩)=false from decide_eq_false (fun h=>e2a (congrArg (fun t=>t.s.1) h)))
    go_enter Tryz.func251,Tryz.ntmps251
    go_wp2_with (first
     |(go_at_call 278;refine Calls.mono (T1.o _ HB.o) ?_;rintro e3 w1 ⟨rfl,Z⟩;replace O:=I (O.o.below Z);replace M:=I (M.o.below Z);replace HB:=HB.t Z;clear Z T1;have bB:=O.c4;have bn:=M.c4;have cb:=O.c5;have aw:=M.c5;have cc:=O.c6;have bz:=M.c6;have ca:=O.c7;have bq:=M.c7;have bb:=O.c8;have bx:=M.c8)
     |(go_at_call 169;refine Calls.mono (T2.o _ HB.o) ?_;rintro e4 cd ⟨rfl,hw⟩;subst hw;clear T2))
    go_ret;exact⟨by rw[E.o];rfl,HB.o⟩
theorem OG (x y:Re) (A1 A2 D1 D2:Option Addr) (c1 c2 d1 d2:Nat) (w:World) (h1:Rd w w.heap.size A1 (bvs x.t.b)) (g1:Rd w w.heap.size D1 (bvs y.t.b)) (h2:Rd w w.heap.size A2 (bvs x.b)) (g2:Rd w w.heap.size D2 (bvs y.b)) :
  Calls Tryz.prog 252 #[.agg #[.string ⟨x.c.1.toArray⟩,.string ⟨x.c.2.toArray⟩,.string ⟨x.t.s.1.toArray⟩,.string ⟨x.t.s.2.toArray⟩,.int .i64 x.t.k,.slice A1 x.t.b.length c1,.slice A2 x.b.length c2],.agg #[.string ⟨y.c.1.toArray⟩,.string ⟨y.c.2.toArray⟩,.string ⟨y.t.s.1.toArray⟩,.string ⟨y.t.s.2.toArray⟩,.int .i64 y.t.k,.slice D1 y.t.b.length d1,.slice D2 y.b.length d2]] w fun e w'=>e=.returned (.bool (decide (x=y)))/\Below w.heap.size w w':=by
 obtain⟨⟨r,n⟩,t,b⟩:=x;obtain⟨⟨r2,n2⟩,M,b2⟩:=y;simp only at h1 g1 h2 g2⊢;have O:=I (((Below.refl w.heap.size w).alloc Ag (.cells #[.string ⟨List.toArray r⟩,.string ⟨List.toArray n⟩,.string ⟨t.s.1.toArray⟩,.string ⟨t.s.2.toArray⟩,.int .i64 t.k,.slice A1 t.b.length c1,.slice A2 b.length c2] 91)).alloc (by simp) (.cells #[.string ⟨List.toArray r2⟩,.string ⟨List.toArray n2⟩,.string ⟨M.s.1.toArray⟩,.string ⟨M.s.2.toArray⟩,.int .i64 M.k,.slice D1 M.b.length d1,.slice D2 b2.length d2] 91));have HX:=I ((Blk.new w 91 #[.string ⟨List.toArray r⟩,.string ⟨List.toArray n⟩,.string ⟨t.s.1.toArray⟩,.string ⟨t.s.2.toArray⟩,.int .i64 t.k,.slice A1 t.b.length c1,.slice A2 b.length c2]).alloc (.cells #[.string ⟨List.toArray r2⟩,.string ⟨List.toArray n2⟩,.string ⟨M.s.1.toArray⟩,.string ⟨M.s.2.toArray⟩,.int .i64 M.k,.slice D1 M.b.length d1,.slice D2 b2.length d2] 91));have hy:=Blk.new (w.alloc (.cells #[.string ⟨List.toArray r⟩,.string ⟨List.toArray n⟩,.string ⟨t.s.1.toArray⟩,.string ⟨t.s.2.toArray⟩,.int .i64 t.k,.slice A1 t.b.length c1,.slice A2 b.length c2] 91)) 91 #[.string ⟨List.toArray r2⟩,.string ⟨List.toArray n2⟩,.string ⟨M.s.1.toArray⟩,.string ⟨M.s.2.toArray⟩,.int .i64 M.k,.slice D1 M.b.length d1,.slice D2 b2.length d2];rw[show(w.alloc (.cells #[.string ⟨List.toArray r⟩,.string ⟨List.toArray n⟩,.string ⟨t.s.1.toArray⟩,.string ⟨t.s.2.toArray⟩,.int .i64 t.k,.slice A1 t.b.length c1,.slice A2 b.length c2] 91)).heap.size=w.heap.size+1 by simp] at hy;have HY:=I hy;clear hy;have T1:=I (fun w1 (h:Below w.heap.size w w1)=>Ik t M A1 D1 c1 d1 w1 ((h1.below h).more h.size) ((g1.below h).more h.size));have T2:=I (fun w1 (h:Below w.heap.size w w1)=>Gx b b2 A2 D2 c2 d2 w.heap.size w1 (h2.below h) (g2.below h));clear h1 g1 h2 g2
 by_cases e0a:r=r2
 ·subst e0a
  by_cases e0b:n=n2
  ·subst e0b
   cases e1:decide (t=M) with
   |false=>
    have E:=I (show decide ((⟨(r,n),t,b⟩:Re)=⟨(r,n),M,b2⟩)=false from decide_eq_false (fun h=>of_decide_eq_false e1 (congrArg Re.t h)));rw[e1] at T1;clear e1;go_enter Tryz.func252,Tryz.ntmps252
    go_wp2_with (go_at_call 278;refine Calls.mono (T1.o _ O.o) ?_;rintro e3 w1 ⟨rfl,Z⟩;replace HX:=I (HX.o.below Z);replace HY:=I (HY.o.below Z);replace O:=O.t Z;clear Z T1;have aw:=HX.c6;have av:=HY.c6)
    go_ret;exact⟨by rw[E.o];rfl,O.o⟩
   |true=>
    rw[e1] at T1;have bn:=of_decide_eq_true e1;clear e1;subst bn;cases e2:decide (b=b2) with
    |false=>
     have E:=I (show decide ((⟨(r,n),t,b⟩:Re)=⟨(r,n),t,b2⟩)=false from decide_eq_false (fun h=>of_decide_eq_false e2 (congrArg Re.b h)));rw[e2] at T2;clear e2;go_enter Tryz.func252,Tryz.ntmps252
     go_wp2_with (first
      |(go_at_call 278;refine Calls.mono (T1.o _ O.o) ?_;rintro e3 w1 ⟨rfl,Z⟩;replace HX:=I (HX.o.below Z);replace HY:=I (HY.o.below Z);replace O:=O.t Z;clear Z T1;have aw:=HX.c6;have av:=HY.c6)
      |(go_at_call 169;refine Calls.mono (T2.o _ O.o) ?_;rintro e4 bb ⟨rfl,hw⟩;subst hw;clear T2))
     go_ret;exact⟨by rw[E.o];rfl,O.o⟩
    |true=>
     rw[e2] at T2;have bq:=of_decide_eq_true e2;clear e2;subst bq;have E:=I (show decide ((⟨(r,n),t,b⟩:Re)=⟨(r,n),t,b⟩)=true from decide_eq_true rfl);go_enter Tryz.func252,Tryz.ntmps252
     go_wp2_with (first
      |(go_at_call 278;refine Calls.mono (T1.o _ O.o) ?_;rintro e3 w1 ⟨rfl,Z⟩;replace HX:=I (HX.o.below Z);replace HY:=I (HY.o.below Z);replace O:=O.t Z;clear Z T1;have aw:=HX.c6;have av:=HY.c6)
      |(go_at_call 169;refine Calls.mono (T2.o _ O.o) ?_;rintro e4 bb ⟨rfl,hw⟩;subst hw;clear T2))
     go_ret;exact⟨by rw[E.o];rfl,O.o⟩
  ·have E:=I (show decide ((⟨(r,n),t,b⟩:Re)=⟨(r,n2),M,b2⟩)=false from decide_eq_false (fun h=>e0b (congrArg (fun t=>t.c.2) h)))
   go_enter Tryz.func252,Tryz.ntmps252
   go_wp2
   go_ret;exact⟨by rw[E.o];rfl,O.o⟩
 ·have E:=I (show decide ((⟨(r,n),t,b⟩:Re)=⟨(r2,n2),M,b2⟩)=false from decide_eq_false (fun h=>e0a (congrArg (fun t=>t.c.1) h)))
  go_enter Tryz.func252,Tryz.ntmps252
  go_wp2
  go_ret;exact⟨by rw[E.o];rfl,O.o⟩
theorem OH (x y:Ap) (A1 A2 D1 D2:Option Addr) (c1 c2 d1 d2:Nat) (w:World) (h1:Rd w w.heap.size A1 (bvs x.t.b)) (g1:Rd w w.heap.size D1 (bvs y.t.b)) (h2:Rd w w.heap.size A2 (bvs x.a)) (g2:Rd w w.heap.size D2 (bvs y.a)) :
  Calls Tryz.prog 253 #[.agg #[.string ⟨x.t.s.1.toArray⟩,.string ⟨x.t.s.2.toArray⟩,.int .i64 x.t.k,.slice A1 x.t.b.length c1,.slice A2 x.a.length c2],.agg #[.string ⟨y.t.s.1.toArray⟩,.string ⟨y.t.s.2.toArray⟩,.int .i64 y.t.k,.slice D1 y.t.b.length d1,.slice D2 y.a.length d2]] w fun e w'=>e=.returned (.bool (decide (x=y)))/\Below w.heap.size w w':=by
 obtain⟨t,a⟩:=x;obtain⟨M,a2⟩:=y;simp only at h1 g1 h2 g2⊢;have Z:=I (((Below.refl w.heap.size w).alloc Ag (.cells #[.string ⟨t.s.1.toArray⟩,.string ⟨t.s.2.toArray⟩,.int .i64 t.k,.slice A1 t.b.length c1,.slice A2 a.length c2] 85)).alloc (by simp) (.cells #[.string ⟨M.s.1.toArray⟩,.string ⟨M.s.2.toArray⟩,.int .i64 M.k,.slice D1 M.b.length d1,.slice D2 a2.length d2] 85));have HX:=I ((Blk.new w 85 #[.string ⟨t.s.1.toArray⟩,.string ⟨t.s.2.toArray⟩,.int .i64 t.k,.slice A1 t.b.length c1,.slice A2 a.length c2]).alloc (.cells #[.string ⟨M.s.1.toArray⟩,.string ⟨M.s.2.toArray⟩,.int .i64 M.k,.slice D1 M.b.length d1,.slice D2 a2.length d2] 85));have hy:=Blk.new (w.alloc (.cells #[.string ⟨t.s.1.toArray⟩,.string ⟨t.s.2.toArray⟩,.int .i64 t.k,.slice A1 t.b.length c1,.slice A2 a.length c2] 85)) 85 #[.string ⟨M.s.1.toArray⟩,.string ⟨M.s.2.toArray⟩,.int .i64 M.k,.slice D1 M.b.length d1,.slice D2 a2.length d2];rw[show(w.alloc (.cells #[.string ⟨t.s.1.toArray⟩,.string ⟨t.s.2.toArray⟩,.int .i64 t.k,.slice A1 t.b.length c1,.slice A2 a.length c2] 85)).heap.size=w.heap.size+1 by simp] at hy;have HY:=I hy;clear hy;have T1:=I (fun w1 (h:Below w.heap.size w w1)=>Ik t M A1 D1 c1 d1 w1 ((h1.below h).more h.size) ((g1.below h).more h.size));have T2:=I (fun w1 (h:Below w.heap.size w w1)=>Gx a a2 A2 D2 c2 d2 w.heap.size w1 (h2.below h) (g2.below h));clear h1 g1 h2 g2;cases e0:decide (t=M) with
 |false=>
  have E:=I (show decide ((⟨t,a⟩:Ap)=⟨M,a2⟩)=false from decide_eq_false (fun h=>of_decide_eq_false e0 (congrArg Ap.t h)));rw[e0] at T1;clear e0;go_enter Tryz.func253,Tryz.ntmps253
  go_wp2_with (go_at_call 278;refine Calls.mono (T1.o _ Z.o) ?_;rintro e3 w1 ⟨rfl,O⟩;replace HX:=I (HX.o.below O);replace HY:=I (HY.o.below O);replace Z:=Z.t O;clear O T1;have aw:=HX.c4;have av:=HY.c4)
  go_ret;exact⟨by rw[E.o];rfl,Z.o⟩
 |true=>
  rw[e0] at T1;have bq:=of_decide_eq_true e0;clear e0;subst bq;cases e1:decide (a=a2) with
  |false=>
   have E:=I (show decide ((⟨t,a⟩:Ap)=⟨t,a2⟩)=false from decide_eq_false (fun h=>of_decide_eq_false e1 (congrArg Ap.a h)));rw[e1] at T2;clear e1;go_enter Tryz.func253,Tryz.ntmps253
   go_wp2_with (first
    |(go_at_call 278;refine Calls.mono (T1.o _ Z.o) ?_;rintro e3 w1 ⟨rfl,O⟩;replace HX:=I (HX.o.below O);replace HY:=I (HY.o.below O);replace Z:=Z.t O;clear O T1;have aw:=HX.c4;have av:=HY.c4)
    |(go_at_call 169;refine Calls.mono (T2.o _ Z.o) ?_;rintro e4 bb ⟨rfl,hw⟩;subst hw;clear T2))
   go_ret;exact⟨by rw[E.o];rfl,Z.o⟩
  |true=>
   rw[e1] at T2;have bn:=of_decide_eq_true e1;clear e1;subst bn;have E:=I (show decide ((⟨t,a⟩:Ap)=⟨t,a⟩)=true from decide_eq_true rfl);go_enter Tryz.func253,Tryz.ntmps253
   go_wp2_with (first
    |(go_at_call 278;refine Calls.mono (T1.o _ Z.o) ?_;rintro e3 w1 ⟨rfl,O⟩;replace HX:=I (HX.o.below O);replace HY:=I (HY.o.below O);replace Z:=Z.t O;clear O T1;have aw:=HX.c4;have av:=HY.c4)
    |(go_at_call 169;refine Calls.mono (T2.o _ Z.o) ?_;rintro e4 bb ⟨rfl,hw⟩;subst hw;clear T2))
   go_ret;exact⟨by rw[E.o];rfl,Z.o⟩
theorem dx (x y:Fa) (w:World):(Op.equalIn 10000 93 (.agg #[.int .i64 x.e,.int .i64 x.no]) (.agg #[.int .i64 y.e,.int .i64 y.no])).run Tryz.prog w=.ok (decide (x=y)) w:=by
 obtain⟨e,no⟩:=x;obtain⟨O,M⟩:=y;simp only
 by_cases h0:e=O
 ·subst h0
  by_cases h1:no=M
  ·subst h1
   rw[decide_eq_true rfl]
   go_simp
  ·rw[decide_eq_false (fun h=>h1 (congrArg (fun z=>z.no) h))]
   go_simp
 ·rw[decide_eq_false (fun h=>h0 (congrArg (fun z=>z.e) h))]
  go_simp
theorem dy (x y:As) (w:World):(Op.equalIn 10000 87 (.agg #[.string ⟨x.c.1.toArray⟩,.string ⟨x.c.2.toArray⟩,.string ⟨x.s.1.toArray⟩,.string ⟨x.s.2.toArray⟩,.int .i64 x.t,.int .i64 x.no]) (.agg #[.string ⟨y.c.1.toArray⟩,.string ⟨y.c.2.toArray⟩,.string ⟨y.s.1.toArray⟩,.string ⟨y.s.2.toArray⟩,.int .i64 y.t,.int .i64 y.no])).run Tryz.prog w=.ok (decide (x=y)) w:=by
 obtain⟨⟨a,b⟩,⟨c,d⟩,t,no⟩:=x;obtain⟨⟨Z,b2⟩,⟨c2,d2⟩,O,M⟩:=y;simp only
 by_cases h0:a=Z
 ·subst h0
  by_cases h1:b=b2
  ·subst h1
   by_cases h2:c=c2
   ·subst h2
    by_cases h3:d=d2
    ·subst h3
     by_cases h4:t=O
     ·subst h4
      by_cases h5:no=M
      ·subst h5
       rw[decide_eq_true rfl]
       go_simp
      ·rw[decide_eq_false (fun h=>h5 (congrArg (fun z=>z.no) h))]
       go_simp
     ·rw[decide_eq_false (fun h=>h4 (congrArg (fun z=>z.t) h))]
      go_simp
    ·rw[decide_eq_false (fun h=>h3 (congrArg (fun z=>z.s.2) h))]
     go_simp
   ·rw[decide_eq_false (fun h=>h2 (congrArg (fun z=>z.s.1) h))]
    go_simp
  ·rw[decide_eq_false (fun h=>h1 (congrArg (fun z=>z.c.2) h))]
   go_simp
 ·rw[decide_eq_false (fun h=>h0 (congrArg (fun z=>z.c.1) h))]
  go_simp
end Mc
end Go.Proofs.YtfbnjcdhipplpaaGreat
