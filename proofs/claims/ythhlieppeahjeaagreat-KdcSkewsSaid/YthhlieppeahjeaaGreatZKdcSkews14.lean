import Derived.Test.YthhlieppeahjeaaGreatZKdcSkews13
set_option maxHeartbeats 25600000
set_option maxRecDepth 100000
set_option linter.unusedVariables false
set_option linter.unusedSimpArgs false
namespace Go.Proofs.YthhlieppeahjeaaGreat
namespace Mc
open Go.RowKit Af DerP DerR Ms
theorem Fp (l:L) (A:Option Addr) (n c:Nat) (w:World) (hn:n=l.length) (h:l.length≤2000):Calls Tryz.prog 92 #[.slice A n c] w fun e w'=>e = .returned (.tuple #[.slice A n c,.int .i64 0])∧w=w':=by
 subst hn;have t1:decide ((2000:Int)<(l.length:Int))=false:=decide_eq_false (by omega);clear h;go_enter Tryz.func92,Tryz.ntmps92
 go_wp2
 go_ret2
 exact⟨rfl,rfl⟩
theorem Yc {a:An} (ha:anB a=true):(anE a).length≤2000:=by
 have hp:prB a.c=true∧tmB a.t=true∧tmB a.q=true:=by simpa [anB] using ha
 have b1:=(Bd hp.1).1;have b2:=AD a.t;have b3:=AD a.q;have:=Az 98 [prE a.c,encI a.t,encI a.q].flatten;rw[anE];rw[Ft] at this⊢;simp only[List.length_append] at this;omega
theorem Yd {p:Rp} (hk:p.ss.length=32) (hx:rpB p=true):(rpE p).length≤2000:=by
 have hp:prB p.s=true:=(show prB p.s=true∧tmB p.st=true∧tmB p.en=true∧tmB p.no=true by simpa [rpB] using hx).1;have b1:=(Bd hp).1;have b2:=AD p.st;have b3:=AD p.en;have b4:=AD p.no;have b5:=Az 4 p.ss;have:=Az 122 [elem 4 p.ss,prE p.s,encI p.st,encI p.en,encI p.no].flatten;rw[rpE];rw[Es] at this⊢;simp only[List.length_append] at this;omega
theorem Ye {p:Pt} (hk:p.ss.length=32) (hx:ptB p=true):(ptE p).length≤2000:=by
 have hp:=(CE hx).2.1;have h3:=(CE hx).2.2.1;have b1:=(Bd hp).1;have b2:=AD p.st;have b3:=AD p.en;have b4:=Az 27 p.tr;have b5:=Az 4 p.ss;have:=Az 99 [prE p.c,elem 4 p.ss,elem 27 p.tr,encI p.st,encI p.en].flatten;rw[ptE];rw[Es] at this⊢;simp only[List.length_append] at this;omega
theorem Lc (a:An) (w:World) (hs:pSm a.c):Calls Tryz.prog 102 #[.agg #[.string ⟨a.c.1.toArray⟩,.string ⟨a.c.2.toArray⟩,.int .i64 a.t,.int .i64 a.q]] w (EncR w (anO a)):=by
 have HI:=I (show(Tryz.prog.info? 28).map (·.size)=some (#[.string ⟨a.c.1.toArray⟩,.string ⟨a.c.2.toArray⟩,.int .i64 a.t,.int .i64 a.q]:Array Value).size by kernel_rfl);have I1:=I (fun w1=>Mn a w1 hs);have T0:=I (fun(hx:anB a=true)=>fun w1=>Lb a w1 hx);have HLEN:=I (fun(hx:anB a=true)=>Yc hx);obtain⟨cs,ecs⟩:∃cs:Array Value,cs=#[.string ⟨a.c.1.toArray⟩,.string ⟨a.c.2.toArray⟩,.int .i64 a.t,.int .i64 a.q]:=⟨_,rfl⟩;rw[←ecs] at HI I1 T0⊢;clear ecs;have HB:=I ((Below.refl w.heap.size w).alloc Ag (.cells cs 28));have HK:=I (Blk.new w 28 cs);cases hx:anB a with
 |false=>
  rw[hx] at I1;have E:=I (show anO a=none by unfold anO limO;rw[hx];rfl);rw[E.o];clear hx E T0 HLEN hs;go_enter Tryz.func102,Tryz.ntmps102
  go_wp2_with (first
   |(refine Al (by rfl) 28 (.tmp 1) (by rfl) w.heap.size 0 (by rfl) cs _ (Aj HK.o) Tryz.underlying28 (by rfl) HI.o ?_)
   |(go_at_call 151;refine Calls.mono (I1.o _) ?_;rintro e w1 ⟨rfl,hb⟩;replace HB:=HB.t hb;clear hb I1)
   |fail)
  go_ret2
  exact Fk HB.o
 |true=>
  rw[hx] at I1;have T1:=I (T0.o hx);have hlm:=HLEN.o hx;have E:=I (show anO a=some (anE a) from Cu.2 ⟨hx,hlm,rfl⟩);rw[E.o];obtain⟨l,el⟩:∃l,l=anE a:=⟨_,rfl⟩;rw[←el] at T1 hlm⊢;have LM:=I (fun A c w1=>Fp l A _ c w1 rfl hlm);clear hx E el hlm T0 HLEN hs;go_enter Tryz.func102,Tryz.ntmps102
  go_wp2_with (first
   |(refine Al (by rfl) 28 (.tmp 1) (by rfl) w.heap.size 0 (by rfl) cs _ (Aj HK.o) Tryz.underlying28 (by rfl) HI.o ?_)
   |(go_at_call 151;refine Calls.mono (I1.o _) ?_;rintro e w1 ⟨rfl,hb⟩;replace HK:=I (HK.o.below hb);replace HB:=HB.t hb;clear hb I1)
   |(go_at_call 152;refine Calls.mono (T1.o _) ?_;rintro e w2 ⟨⟨g,c,rfl,h2,h3,h4⟩,hb⟩;have HG:=I (Ba (l:=l) ⟨⟨g,c,rfl,h2,h3,h4⟩,hb⟩ HB.o);clear h2 h3 h4 hb T1)
   |(go_at_call 92;refine Calls.mono (LM.o _ _ _) ?_;rintro e wy ⟨rfl,rfl⟩;clear LM)
   |fail)
  go_ret2
  exact Fl HG.o
theorem OK (p:Rp) (w:World) (hk:p.ss.length=32) (hs:pSm p.s):Calls Tryz.prog 66 #[.agg (rpC p).toArray] w (EncR w (rpO p)):=by
 have HI:=I (show(Tryz.prog.info? 170).map (·.size)=some ((rpC p).toArray:Array Value).size by rw[Me hk];kernel_rfl);have I1:=I (fun w1=>Rk p w1 hk hs);have T0:=I (fun(hx:rpB p=true)=>fun w1=>OI p w1 hk hx);have HLEN:=I (fun(hx:rpB p=true)=>Yd hk hx);obtain⟨cs,ecs⟩:∃cs:Array Value,cs=(rpC p).toArray:=⟨_,rfl⟩;rw[←ecs] at HI I1 T0⊢;clear ecs;have HB:=I ((Below.refl w.heap.size w).alloc Ag (.cells cs 170));have HK:=I (Blk.new w 170 cs);cases hx:rpB p with
 |false=>
  rw[hx] at I1;have E:=I (show rpO p=none by unfold rpO limO;rw[hx];rfl);rw[E.o];clear hx E T0 HLEN hs hk;go_enter Tryz.func66,Tryz.ntmps66
  go_wp2_with (first
   |(refine Al (by rfl) 170 (.tmp 1) (by rfl) w.heap.size 0 (by rfl) cs _ (Aj HK.o) Tryz.underlying170 (by rfl) HI.o ?_)
   |(go_at_call 110;refine Calls.mono (I1.o _) ?_;rintro e w1 ⟨rfl,hb⟩;replace HB:=HB.t hb;clear hb I1)
   |fail)
  go_ret2
  exact Fk HB.o
 |true=>
  rw[hx] at I1;have T1:=I (T0.o hx);have hlm:=HLEN.o hx;have E:=I (show rpO p=some (rpE p) from Cu.2 ⟨hx,hlm,rfl⟩);rw[E.o];obtain⟨l,el⟩:∃l,l=rpE p:=⟨_,rfl⟩;rw[←el] at T1 hlm⊢;have LM:=I (fun A c w1=>Fp l A _ c w1 rfl hlm);clear hx E el hlm T0 HLEN hs hk;go_enter Tryz.func66,Tryz.ntmps66
  go_wp2_with (first
   |(refine Al (by rfl) 170 (.tmp 1) (by rfl) w.heap.size 0 (by rfl) cs _ (Aj HK.o) Tryz.underlying170 (by rfl) HI.o ?_)
   |(go_at_call 110;refine Calls.mono (I1.o _) ?_;rintro e w1 ⟨rfl,hb⟩;replace HK:=I (HK.o.below hb);replace HB:=HB.t hb;clear hb I1)
   |(go_at_call 111;refine Calls.mono (T1.o _) ?_;rintro e w2 ⟨⟨g,c,rfl,h2,h3,h4⟩,hb⟩;have HG:=I (Ba (l:=l) ⟨⟨g,c,rfl,h2,h3,h4⟩,hb⟩ HB.o);clear h2 h3 h4 hb T1)
   |(go_at_call 92;refine Calls.mono (LM.o _ _ _) ?_;rintro e wy ⟨rfl,rfl⟩;clear LM)
   |fail)
  go_ret2
  exact Fl HG.o
theorem IG (p:Pt) (w:World) (hk:p.ss.length=32) (hs:pSm p.c) (ht:p.tr.length≤1000000000):Calls Tryz.prog 65 #[.agg (ptC p).toArray] w (EncR w (ptO p)):=by
 have HI:=I (show(Tryz.prog.info? 41).map (·.size)=some ((ptC p).toArray:Array Value).size by rw[Ez hk];kernel_rfl);have I1:=I (fun w1=>OJ p w1 hk hs ht);have T0:=I (fun(hx:ptB p=true)=>fun w1=>Mo p w1 hk hx);have HLEN:=I (fun(hx:ptB p=true)=>Ye hk hx);obtain⟨cs,ecs⟩:∃cs:Array Value,cs=(ptC p).toArray:=⟨_,rfl⟩;rw[←ecs] at HI I1 T0⊢;clear ecs;have HB:=I ((Below.refl w.heap.size w).alloc Ag (.cells cs 41));have HK:=I (Blk.new w 41 cs);cases hx:ptB p with
 |false=>
  rw[hx] at I1;have E:=I (show ptO p=none by unfold ptO limO;rw[hx];rfl);rw[E.o];clear hx E T0 HLEN hs hk ht;go_enter Tryz.func65,Tryz.ntmps65
  go_wp2_with (first
   |(refine Al (by rfl) 41 (.tmp 1) (by rfl) w.heap.size 0 (by rfl) cs _ (Aj HK.o) Tryz.underlying41 (by rfl) HI.o ?_)
   |(go_at_call 108;refine Calls.mono (I1.o _) ?_;rintro e w1 ⟨rfl,hb⟩;replace HB:=HB.t hb;clear hb I1)
   |fail)
  go_ret2
  exact Fk HB.o
 |true=>
  rw[hx] at I1;have T1:=I (T0.o hx);have hlm:=HLEN.o hx;have E:=I (show ptO p=some (ptE p) from Cu.2 ⟨hx,hlm,rfl⟩);rw[E.o];obtain⟨l,el⟩:∃l,l=ptE p:=⟨_,rfl⟩;rw[←el] at T1 hlm⊢;have LM:=I (fun A c w1=>Fp l A _ c w1 rfl hlm);clear hx E el hlm T0 HLEN hs hk ht;go_enter Tryz.func65,Tryz.ntmps65
  go_wp2_with (first
   |(refine Al (by rfl) 41 (.tmp 1) (by rfl) w.heap.size 0 (by rfl) cs _ (Aj HK.o) Tryz.underlying41 (by rfl) HI.o ?_)
   |(go_at_call 108;refine Calls.mono (I1.o _) ?_;rintro e w1 ⟨rfl,hb⟩;replace HK:=I (HK.o.below hb);replace HB:=HB.t hb;clear hb I1)
   |(go_at_call 109;refine Calls.mono (T1.o _) ?_;rintro e w2 ⟨⟨g,c,rfl,h2,h3,h4⟩,hb⟩;have HG:=I (Ba (l:=l) ⟨⟨g,c,rfl,h2,h3,h4⟩,hb⟩ HB.o);clear h2 h3 h4 hb T1)
   |(go_at_call 92;refine Calls.mono (LM.o _ _ _) ?_;rintro e wy ⟨rfl,rfl⟩;clear LM)
   |fail)
  go_ret2
  exact Fl HG.o
end Mc
namespace Mc
open DerP Ms
def prQ (c:Option L):Pr×Option L:=(prI (Bh 48 c),BD 48 c)
def keQ (c:Option L):L×Option L:=((ocC c++key0).take 32,BD 4 c)
theorem Rl (c:Option L):(keQ c).1.length=32:=by
 show((ocC c++key0).take 32).length=32;rw[List.length_take,List.length_append,show key0.length=32 from rfl];omega
def ptQ (b:L):Pt×Option L:=
 let c1:=prQ (Bh 99 (some b));let c2:=keQ c1.2;let c3:=BD 27 c2.2;let c4:=nmP c3;let c5:=nmP c4.2
 (⟨c1.1,c2.1,txC c2.2,c4.1,c5.1⟩,c5.2)
def anQ (b:L):An×Option L:=
 let c1:=prQ (Bh 98 (some b));let c2:=nmP c1.2;let c3:=nmP c2.2
 (⟨c1.1,c2.1,c3.1⟩,c3.2)
theorem Nz {p:Pr} (h:prB p=true) (r:L):prQ (some (prE p++r))=(p,some r):=by
 have h1:=Er h;have h2:=(Bd h).2;rw[prQ,prE,be (by omega),ne (by omega),Fs,prI,SF (by omega),ne (by omega),Ue (by omega)]
theorem TF {k:L} (h:k.length=32) (r:L):keQ (some (elem 4 k++r))=(k,some r):=by
 rw[keQ,WY (by omega),ne (by omega),List.take_append_of_le_length (by omega),List.take_of_length_le (by omega)]
theorem TH {p:Pt} (h:ptB p=true) (hk:p.ss.length=32):ptQ (ptE p)=(p,some []):=by
 obtain⟨_,h2,h3,h4,h5⟩:=CE h;have t4:=Dr h4;have t5:=Dr h5;have l1:=(Bd h2).1;have l2:=Az 4 p.ss;have l3:=Az 27 p.tr;have l4:=AD p.st;have l5:=AD p.en;have l6:[prE p.c,elem 4 p.ss,elem 27 p.tr,encI p.st,encI p.en].flatten.length≤65535:=by simp only[List.flatten_cons,List.flatten_nil,List.length_append,List.length_nil];omega
 rw[ptQ,ptE,be0 l6,Es,Nz h2];simp only;rw[TF hk];simp only;rw[SF (by omega),ne (by omega),Ie (by omega) (by omega)];simp only;rw[He (by omega) (by omega)]
theorem TI {a:An} (h:anB a=true):anQ (anE a)=(a,some []):=by
 have h':prB a.c=true∧tmB a.t=true∧tmB a.q=true:=by simpa [anB] using h
 obtain⟨h2,h4,h5⟩:=h';have t4:=Dr h4;have t5:=Dr h5;have l1:=(Bd h2).1;have l4:=AD a.t;have l5:=AD a.q;have l6:[prE a.c,encI a.t,encI a.q].flatten.length≤65535:=by simp only[List.flatten_cons,List.flatten_nil,List.length_append,List.length_nil];omega
 rw[anQ,anE,be0 l6,Ft,Nz h2];simp only;rw[Ie (by omega) (by omega)];simp only;rw[He (by omega) (by omega)]
theorem Wm (b:L):anD b=if anO (anQ b).1=some b then some (anQ b).1 else none:=by
 split
 ·rename_i h;exact Ug.2 h
 ·rename_i h
  cases hd:anD b with
  |none=>rfl
  |some m=>
   exfalso
   have h2:=Ug.1 hd;have h3:=Cu.1 h2;apply h;have e:(anQ b).1=m:=by rw[←h3.2.2,TI h3.1]
   rw[e];exact h2
theorem JW (b:L):(ptQ b).1.ss.length=32:=Rl _
theorem Rm (b:L):ptD b=if ptO (ptQ b).1=some b then some (ptQ b).1 else none:=by
 split
 ·rename_i h;exact(Uf (JW b)).2 h
 ·rename_i h
  cases hd:ptD b with
  |none=>rfl
  |some m=>
   exfalso
   have h2:=(WZ hd).1;have h3:=Cu.1 h2;apply h;have hk:m.ss.length=32:=by
    have:=(WZ hd).2;have e:(ptP b).1=m:=by rw[this]
    rw[←e];exact Uh _
   have e:(ptQ b).1=m:=by rw[←h3.2.2,TH h3.1 hk]
   rw[e];exact h2
open Go.RowKit Af
theorem Yf (x y:Fa) (w:World):(Op.equalIn 10000 87 (.agg #[.int .i64 x.e,.int .i64 x.no]) (.agg #[.int .i64 y.e,.int .i64 y.no])).run Tryz.prog w = .ok (decide (x=y)) w:=by
 obtain⟨e,no⟩:=x;obtain⟨e2,no2⟩:=y;simp only
 by_cases h0:e=e2
 ·subst h0
  by_cases h1:no=no2
  ·subst h1
   rw[decide_eq_true rfl]
   go_simp
  ·rw[decide_eq_false (fun h=>h1 (congrArg (fun z=>z.no) h))]
   go_simp
 ·rw[decide_eq_false (fun h=>h0 (congrArg (fun z=>z.e) h))]
  go_simp
theorem Yg (x y:As) (w:World):(Op.equalIn 10000 83 (.agg #[.string ⟨x.c.1.toArray⟩,.string ⟨x.c.2.toArray⟩,.string ⟨x.s.1.toArray⟩,.string ⟨x.s.2.toArray⟩,.int .i64 x.t,.int .i64 x.no]) (.agg #[.string ⟨y.c.1.toArray⟩,.string ⟨y.c.2.toArray⟩,.string ⟨y.s.1.toArray⟩,.string ⟨y.s.2.toArray⟩,.int .i64 y.t,.int .i64 y.no])).run Tryz.prog w = .ok (decide (x=y)) w:=by
 obtain⟨⟨a,b⟩,⟨c,d⟩,t,no⟩:=x;obtain⟨⟨a2,b2⟩,⟨c2,d2⟩,t2,no2⟩:=y;simp only
 by_cases h0:a=a2
 ·subst h0
  by_cases h1:b=b2
  ·subst h1
   by_cases h2:c=c2
   ·subst h2
    by_cases h3:d=d2
    ·subst h3
     by_cases h4:t=t2
     ·subst h4
      by_cases h5:no=no2
      ·subst h5
       rw[decide_eq_true rfl]
       go_simp
      ·rw[decide_eq_false (fun h=>h5 (congrArg (fun z=>z.no) h))]
       go_simp
     ·rw[decide_eq_false (fun h=>h4 (congrArg (fun z=>z.t) h))]
      go_simp
    ·rw[decide_eq_false (fun h=>h3 (congrArg (fun z=>z.s.2) h))]
     go_simp
   ·rw[decide_eq_false (fun h=>h2 (congrArg (fun z=>z.s.1) h))]
    go_simp
  ·rw[decide_eq_false (fun h=>h1 (congrArg (fun z=>z.c.2) h))]
   go_simp
 ·rw[decide_eq_false (fun h=>h0 (congrArg (fun z=>z.c.1) h))]
  go_simp
theorem GK (a b:L) (A D:Option Addr) (c d B:Nat) (w:World) (h:Rd w B A (bvs a)) (g:Rd w B D (bvs b)):Calls Tryz.prog 144 #[.slice A a.length c,.slice D b.length d] w fun e w'=>e = .returned (.bool (decide (a=b)))∧w=w':=by
 have hcv1:=DI (P:=Tryz.prog) w 29 5 Tryz.underlying29 Tryz.underlying5 h a.length c rfl 9 Tryz.underlying9;have hcv2:=DI (P:=Tryz.prog) w 29 5 Tryz.underlying29 Tryz.underlying5 g b.length d rfl 9 Tryz.underlying9;clear h g
 by_cases e:a=b
 ·have t1:(a==b)=true:=by simpa using e
  have E:=I (decide_eq_true e);clear e;go_enter Tryz.func144,Tryz.ntmps144
  go_wp2
  go_ret;exact⟨by rw[E.o];rfl,rfl⟩
 ·have t1:(a==b)=false:=by simpa using e
  have E:=I (decide_eq_false e);clear e;go_enter Tryz.func144,Tryz.ntmps144
  go_wp2
  go_ret;exact⟨by rw[E.o];rfl,rfl⟩
theorem GM (x y:Tk) (A1 D1:Option Addr) (c1 d1:Nat) (w:World) (h1:Rd w w.heap.size A1 (bvs x.b)) (g1:Rd w w.heap.size D1 (bvs y.b)) :
  Calls Tryz.prog 206 #[.agg #[.string ⟨x.s.1.toArray⟩,.string ⟨x.s.2.toArray⟩,.int .i64 x.k,.slice A1 x.b.length c1],.agg #[.string ⟨y.s.1.toArray⟩,.string ⟨y.s.2.toArray⟩,.int .i64 y.k,.slice D1 y.b.length d1]] w fun e w'=>e = .returned (.bool (decide (x=y)))∧Below w.heap.size w w':=by
 obtain⟨⟨r,n⟩,k,b⟩:=x;obtain⟨⟨r2,n2⟩,k2,b2⟩:=y;simp only at h1 g1⊢;have HB:=I (((Below.refl w.heap.size w).alloc Ag (.cells #[.string ⟨List.toArray r⟩,.string ⟨List.toArray n⟩,.int .i64 k,.slice A1 b.length c1] 31)).alloc (by simp) (.cells #[.string ⟨List.toArray r2⟩,.string ⟨List.toArray n2⟩,.int .i64 k2,.slice D1 b2.length d1] 31));have HX:=I ((Blk.new w 31 #[.string ⟨List.toArray r⟩,.string ⟨List.toArray n⟩,.int .i64 k,.slice A1 b.length c1]).alloc (.cells #[.string ⟨List.toArray r2⟩,.string ⟨List.toArray n2⟩,.int .i64 k2,.slice D1 b2.length d1] 31));have hy:=Blk.new (w.alloc (.cells #[.string ⟨List.toArray r⟩,.string ⟨List.toArray n⟩,.int .i64 k,.slice A1 b.length c1] 31)) 31 #[.string ⟨List.toArray r2⟩,.string ⟨List.toArray n2⟩,.int .i64 k2,.slice D1 b2.length d1];rw[show(w.alloc (.cells #[.string ⟨List.toArray r⟩,.string ⟨List.toArray n⟩,.int .i64 k,.slice A1 b.length c1] 31)).heap.size=w.heap.size+1 by simp] at hy;have HY:=I hy;clear hy;have T1:=I (fun w1 (h:Below w.heap.size w w1)=>GK b b2 A1 D1 c1 d1 w.heap.size w1 (h1.below h) (g1.below h));clear h1 g1
 by_cases e0a:r=r2
 ·subst e0a
  by_cases e0b:n=n2
  ·subst e0b
   by_cases e1:k=k2
   ·subst e1
    have t1:(k==k)=true:=by simp
    cases e2:decide (b=b2) with
    |false=>
     have E:=I (show decide ((⟨(r,n),k,b⟩:Tk)=⟨(r,n),k,b2⟩)=false from decide_eq_false (fun h=>of_decide_eq_false e2 (congrArg Tk.b h)));rw[e2] at T1;clear e2;go_enter Tryz.func206,Tryz.ntmps206
     go_wp2_with (go_at_call 144;refine Calls.mono (T1.o _ HB.o) ?_;rintro e4 wb1 ⟨rfl,hw⟩;subst hw;clear T1)
     go_ret;exact⟨by rw[E.o];rfl,HB.o⟩
    |true=>
     rw[e2] at T1;have e2':=of_decide_eq_true e2;clear e2;subst e2';have E:=I (show decide ((⟨(r,n),k,b⟩:Tk)=⟨(r,n),k,b⟩)=true from decide_eq_true rfl);go_enter Tryz.func206,Tryz.ntmps206
     go_wp2_with (go_at_call 144;refine Calls.mono (T1.o _ HB.o) ?_;rintro e4 wb1 ⟨rfl,hw⟩;subst hw;clear T1)
     go_ret;exact⟨by rw[E.o];rfl,HB.o⟩
   ·have t1:(k==k2)=false:=by simpa using e1
    have E:=I (show decide ((⟨(r,n),k,b⟩:Tk)=⟨(r,n),k2,b2⟩)=false from decide_eq_false (fun h=>e1 (congrArg Tk.k h)));go_enter Tryz.func206,Tryz.ntmps206
    go_wp2
    go_ret;exact⟨by rw[E.o];rfl,HB.o⟩
  ·have E:=I (show decide ((⟨(r,n),k,b⟩:Tk)=⟨(r,n2),k2,b2⟩)=false from decide_eq_false (fun h=>e0b (congrArg (fun t=>t.s.2) h)))
   go_enter Tryz.func206,Tryz.ntmps206
   go_wp2
   go_ret;exact⟨by rw[E.o];rfl,HB.o⟩
 ·have E:=I (show decide ((⟨(r,n),k,b⟩:Tk)=⟨(r2,n2),k2,b2⟩)=false from decide_eq_false (fun h=>e0a (congrArg (fun t=>t.s.1) h)))
  go_enter Tryz.func206,Tryz.ntmps206
  go_wp2
  go_ret;exact⟨by rw[E.o];rfl,HB.o⟩
theorem Mq (x y:Tg) (A1 A2 D1 D2:Option Addr) (c1 c2 d1 d2:Nat) (w:World) (h1:Rd w w.heap.size A1 (bvs x.t.b)) (g1:Rd w w.heap.size D1 (bvs y.t.b)) (h2:Rd w w.heap.size A2 (bvs x.a)) (g2:Rd w w.heap.size D2 (bvs y.a)) :
  Calls Tryz.prog 176 #[.agg #[.string ⟨x.t.s.1.toArray⟩,.string ⟨x.t.s.2.toArray⟩,.int .i64 x.t.k,.slice A1 x.t.b.length c1,.slice A2 x.a.length c2,.string ⟨x.s.1.toArray⟩,.string ⟨x.s.2.toArray⟩,.int .i64 x.u,.int .i64 x.no],.agg #[.string ⟨y.t.s.1.toArray⟩,.string ⟨y.t.s.2.toArray⟩,.int .i64 y.t.k,.slice D1 y.t.b.length d1,.slice D2 y.a.length d2,.string ⟨y.s.1.toArray⟩,.string ⟨y.s.2.toArray⟩,.int .i64 y.u,.int .i64 y.no]] w fun e w'=>e = .returned (.bool (decide (x=y)))∧Below w.heap.size w w':=by
 obtain⟨t,a,⟨r,n⟩,u,no⟩:=x;obtain⟨t2,a2,⟨r2,n2⟩,u2,no2⟩:=y;simp only at h1 g1 h2 g2⊢;have HB:=I (((Below.refl w.heap.size w).alloc Ag (.cells #[.string ⟨t.s.1.toArray⟩,.string ⟨t.s.2.toArray⟩,.int .i64 t.k,.slice A1 t.b.length c1,.slice A2 a.length c2,.string ⟨List.toArray r⟩,.string ⟨List.toArray n⟩,.int .i64 u,.int .i64 no] 33)).alloc (by simp) (.cells #[.string ⟨t2.s.1.toArray⟩,.string ⟨t2.s.2.toArray⟩,.int .i64 t2.k,.slice D1 t2.b.length d1,.slice D2 a2.length d2,.string ⟨List.toArray r2⟩,.string ⟨List.toArray n2⟩,.int .i64 u2,.int .i64 no2] 33));have HX:=I ((Blk.new w 33 #[.string ⟨t.s.1.toArray⟩,.string ⟨t.s.2.toArray⟩,.int .i64 t.k,.slice A1 t.b.length c1,.slice A2 a.length c2,.string ⟨List.toArray r⟩,.string ⟨List.toArray n⟩,.int .i64 u,.int .i64 no]).alloc (.cells #[.string ⟨t2.s.1.toArray⟩,.string ⟨t2.s.2.toArray⟩,.int .i64 t2.k,.slice D1 t2.b.length d1,.slice D2 a2.length d2,.string ⟨List.toArray r2⟩,.string ⟨List.toArray n2⟩,.int .i64 u2,.int .i64 no2] 33));have hy:=Blk.new (w.alloc (.cells #[.string ⟨t.s.1.toArray⟩,.string ⟨t.s.2.toArray⟩,.int .i64 t.k,.slice A1 t.b.length c1,.slice A2 a.length c2,.string ⟨List.toArray r⟩,.string ⟨List.toArray n⟩,.int .i64 u,.int .i64 no] 33)) 33 #[.string ⟨t2.s.1.toArray⟩,.string ⟨t2.s.2.toArray⟩,.int .i64 t2.k,.slice D1 t2.b.length d1,.slice D2 a2.length d2,.string ⟨List.toArray r2⟩,.string ⟨List.toArray n2⟩,.int .i64 u2,.int .i64 no2];rw[show(w.alloc (.cells #[.string ⟨t.s.1.toArray⟩,.string ⟨t.s.2.toArray⟩,.int .i64 t.k,.slice A1 t.b.length c1,.slice A2 a.length c2,.string ⟨List.toArray r⟩,.string ⟨List.toArray n⟩,.int .i64 u,.int .i64 no] 33)).heap.size=w.heap.size+1 by simp] at hy;have HY:=I hy;clear hy;have T1:=I (fun w1 (h:Below w.heap.size w w1)=>GM t t2 A1 D1 c1 d1 w1 ((h1.below h).more h.size) ((g1.below h).more h.size));have T2:=I (fun w1 (h:Below w.heap.size w w1)=>GK a a2 A2 D2 c2 d2 w.heap.size w1 (h2.below h) (g2.below h));clear h1 g1 h2 g2;cases e0:decide (t=t2) with
 |false=>
  have E:=I (show decide ((⟨t,a,(r,n),u,no⟩:Tg)=⟨t2,a2,(r2,n2),u2,no2⟩)=false from decide_eq_false (fun h=>of_decide_eq_false e0 (congrArg Tg.t h)));rw[e0] at T1;clear e0;go_enter Tryz.func176,Tryz.ntmps176
  go_wp2_with (go_at_call 206;refine Calls.mono (T1.o _ HB.o) ?_;rintro e3 w1 ⟨rfl,hb⟩;replace HX:=I (HX.o.below hb);replace HY:=I (HY.o.below hb);replace HB:=HB.t hb;clear hb T1;have kx4:w1.cell? ⟨w.heap.size,4,none⟩=some (.slice A2 a.length c2):=HX.o.cell 4;have ky4:w1.cell? ⟨w.heap.size+1,4,none⟩=some (.slice D2 a2.length d2):=HY.o.cell 4;have kx5:w1.cell? ⟨w.heap.size,5,none⟩=some (.string ⟨List.toArray r⟩):=HX.o.cell 5;have ky5:w1.cell? ⟨w.heap.size+1,5,none⟩=some (.string ⟨List.toArray r2⟩):=HY.o.cell 5;have kx6:w1.cell? ⟨w.heap.size,6,none⟩=some (.string ⟨List.toArray n⟩):=HX.o.cell 6;have ky6:w1.cell? ⟨w.heap.size+1,6,none⟩=some (.string ⟨List.toArray n2⟩):=HY.o.cell 6;have kx7:w1.cell? ⟨w.heap.size,7,none⟩=some (.int .i64 u):=HX.o.cell 7;have ky7:w1.cell? ⟨w.heap.size+1,7,none⟩=some (.int .i64 u2):=HY.o.cell 7;have kx8:w1.cell? ⟨w.heap.size,8,none⟩=some (.int .i64 no):=HX.o.cell 8;have ky8:w1.cell? ⟨w.heap.size+1,8,none⟩=some (.int .i64 no2):=HY.o.cell 8)
  go_ret;exact⟨by rw[E.o];rfl,HB.o⟩
 |true=>
  rw[e0] at T1;have e0':=of_decide_eq_true e0;clear e0;subst e0';cases e1:decide (a=a2) with
  |false=>
   have E:=I (show decide ((⟨t,a,(r,n),u,no⟩:Tg)=⟨t,a2,(r2,n2),u2,no2⟩)=false from decide_eq_false (fun h=>of_decide_eq_false e1 (congrArg Tg.a h)));rw[e1] at T2;clear e1;go_enter Tryz.func176,Tryz.ntmps176
   go_wp2_with (first
    |(go_at_call 206;refine Calls.mono (T1.o _ HB.o) ?_;rintro e3 w1 ⟨rfl,hb⟩;replace HX:=I (HX.o.below hb);replace HY:=I (HY.o.below hb);replace HB:=HB.t hb;clear hb T1;have kx4:w1.cell? ⟨w.heap.size,4,none⟩=some (.slice A2 a.length c2):=HX.o.cell 4;have ky4:w1.cell? ⟨w.heap.size+1,4,none⟩=some (.slice D2 a2.length d2):=HY.o.cell 4;have kx5:w1.cell? ⟨w.heap.size,5,none⟩=some (.string ⟨List.toArray r⟩):=HX.o.cell 5;have ky5:w1.cell? ⟨w.heap.size+1,5,none⟩=some (.string ⟨List.toArray r2⟩):=HY.o.cell 5;have kx6:w1.cell? ⟨w.heap.size,6,none⟩=some (.string ⟨List.toArray n⟩):=HX.o.cell 6;have ky6:w1.cell? ⟨w.heap.size+1,6,none⟩=some (.string ⟨List.toArray n2⟩):=HY.o.cell 6;have kx7:w1.cell? ⟨w.heap.size,7,none⟩=some (.int .i64 u):=HX.o.cell 7;have ky7:w1.cell? ⟨w.heap.size+1,7,none⟩=some (.int .i64 u2):=HY.o.cell 7;have kx8:w1.cell? ⟨w.heap.size,8,none⟩=some (.int .i64 no):=HX.o.cell 8;have ky8:w1.cell? ⟨w.heap.size+1,8,none⟩=some (.int .i64 no2):=HY.o.cell 8)
    |(go_at_call 144;refine Calls.mono (T2.o _ HB.o) ?_;rintro e4 wb2 ⟨rfl,hw⟩;subst hw;clear T2))
   go_ret;exact⟨by rw[E.o];rfl,HB.o⟩
  |true=>
   rw[e1] at T2;have e1':=of_decide_eq_true e1;clear e1;subst e1'
   by_cases e2a:r=r2
   ·subst e2a
    by_cases e2b:n=n2
    ·subst e2b
     by_cases e3:u=u2
     ·subst e3
      have t3:(u==u)=true:=by simp
      by_cases e4:no=no2
      ·subst e4
       have t4:(no==no)=true:=by simp
       have E:=I (show decide ((⟨t,a,(r,n),u,no⟩:Tg)=⟨t,a,(r,n),u,no⟩)=true from decide_eq_true rfl);go_enter Tryz.func176,Tryz.ntmps176
       go_wp2_with (first
        |(go_at_call 206;refine Calls.mono (T1.o _ HB.o) ?_;rintro e3 w1 ⟨rfl,hb⟩;replace HX:=I (HX.o.below hb);replace HY:=I (HY.o.below hb);replace HB:=HB.t hb;clear hb T1;have kx4:w1.cell? ⟨w.heap.size,4,none⟩=some (.slice A2 a.length c2):=HX.o.cell 4;have ky4:w1.cell? ⟨w.heap.size+1,4,none⟩=some (.slice D2 a.length d2):=HY.o.cell 4;have kx5:w1.cell? ⟨w.heap.size,5,none⟩=some (.string ⟨List.toArray r⟩):=HX.o.cell 5;have ky5:w1.cell? ⟨w.heap.size+1,5,none⟩=some (.string ⟨List.toArray r⟩):=HY.o.cell 5;have kx6:w1.cell? ⟨w.heap.size,6,none⟩=some (.string ⟨List.toArray n⟩):=HX.o.cell 6;have ky6:w1.cell? ⟨w.heap.size+1,6,none⟩=some (.string ⟨List.toArray n⟩):=HY.o.cell 6;have kx7:w1.cell? ⟨w.heap.size,7,none⟩=some (.int .i64 u):=HX.o.cell 7;have ky7:w1.cell? ⟨w.heap.size+1,7,none⟩=some (.int .i64 u):=HY.o.cell 7;have kx8:w1.cell? ⟨w.heap.size,8,none⟩=some (.int .i64 no):=HX.o.cell 8;have ky8:w1.cell? ⟨w.heap.size+1,8,none⟩=some (.int .i64 no):=HY.o.cell 8)
        |(go_at_call 144;refine Calls.mono (T2.o _ HB.o) ?_;rintro e4 wb2 ⟨rfl,hw⟩;subst hw;clear T2))
       go_ret;exact⟨by rw[E.o];rfl,HB.o⟩
      ·have t4:(no==no2)=false:=by simpa using e4
       have E:=I (show decide ((⟨t,a,(r,n),u,no⟩:Tg)=⟨t,a,(r,n),u,no2⟩)=false from decide_eq_false (fun h=>e4 (congrArg Tg.no h)));go_enter Tryz.func176,Tryz.ntmps176
       go_wp2_with (first
        |(go_at_call 206;refine Calls.mono (T1.o _ HB.o) ?_;rintro e3 w1 ⟨rfl,hb⟩;replace HX:=I (HX.o.below hb);replace HY:=I (HY.o.below hb);replace HB:=HB.t hb;clear hb T1;have kx4:w1.cell? ⟨w.heap.size,4,none⟩=some (.slice A2 a.length c2):=HX.o.cell 4;have ky4:w1.cell? ⟨w.heap.size+1,4,none⟩=some (.slice D2 a.length d2):=HY.o.cell 4;have kx5:w1.cell? ⟨w.heap.size,5,none⟩=some (.string ⟨List.toArray r⟩):=HX.o.cell 5;have ky5:w1.cell? ⟨w.heap.size+1,5,none⟩=some (.string ⟨List.toArray r⟩):=HY.o.cell 5;have kx6:w1.cell? ⟨w.heap.size,6,none⟩=some (.string ⟨List.toArray n⟩):=HX.o.cell 6;have ky6:w1.cell? ⟨w.heap.size+1,6,none⟩=some (.string ⟨List.toArray n⟩):=HY.o.cell 6;have kx7:w1.cell? ⟨w.heap.size,7,none⟩=some (.int .i64 u):=HX.o.cell 7;have ky7:w1.cell? ⟨w.heap.size+1,7,none⟩=some (.int .i64 u):=HY.o.cell 7;have kx8:w1.cell? ⟨w.heap.size,8,none⟩=some (.int .i64 no):=HX.o.cell 8;have ky8:w1.cell? ⟨w.heap.size+1,8,none⟩=some (.int .i64 no2):=HY.o.cell 8)
        |(go_at_call 144;refine Calls.mono (T2.o _ HB.o) ?_;rintro e4 wb2 ⟨rfl,hw⟩;subst hw;clear T2))
       go_ret;exact⟨by rw[E.o];rfl,HB.o⟩
     ·have t3:(u==u2)=false:=by simpa using e3
      have E:=I (show decide ((⟨t,a,(r,n),u,no⟩:Tg)=⟨t,a,(r,n),u2,no2⟩)=false from decide_eq_false (fun h=>e3 (congrArg Tg.u h)));go_enter Tryz.func176,Tryz.ntmps176
      go_wp2_with (first
       |(go_at_call 206;refine Calls.mono (T1.o _ HB.o) ?_;rintro e3 w1 ⟨rfl,hb⟩;replace HX:=I (HX.o.below hb);replace HY:=I (HY.o.below hb);replace HB:=HB.t hb;clear hb T1;have kx4:w1.cell? ⟨w.heap.size,4,none⟩=some (.slice A2 a.length c2):=HX.o.cell 4;have ky4:w1.cell? ⟨w.heap.size+1,4,none⟩=some (.slice D2 a.length d2):=HY.o.cell 4;have kx5:w1.cell? ⟨w.heap.size,5,none⟩=some (.string ⟨List.toArray r⟩):=HX.o.cell 5;have ky5:w1.cell? ⟨w.heap.size+1,5,none⟩=some (.string ⟨List.toArray r⟩):=HY.o.cell 5;have kx6:w1.cell? ⟨w.heap.size,6,none⟩=some (.string ⟨List.toArray n⟩):=HX.o.cell 6;have ky6:w1.cell? ⟨w.heap.size+1,6,none⟩=some (.string ⟨List.toArray n⟩):=HY.o.cell 6;have kx7:w1.cell? ⟨w.heap.size,7,none⟩=some (.int .i64 u):=HX.o.cell 7;have ky7:w1.cell? ⟨w.heap.size+1,7,none⟩=some (.int .i64 u2):=HY.o.cell 7;have kx8:w1.cell? ⟨w.heap.size,8,none⟩=some (.int .i64 no):=HX.o.cell 8;have ky8:w1.cell? ⟨w.heap.size+1,8,none⟩=some (.int .i64 no2):=HY.o.cell 8)
       |(go_at_call 144;refine Calls.mono (T2.o _ HB.o) ?_;rintro e4 wb2 ⟨rfl,hw⟩;subst hw;clear T2))
      go_ret;exact⟨by rw[E.o];rfl,HB.o⟩
    ·have E:=I (show decide ((⟨t,a,(r,n),u,no⟩:Tg)=⟨t,a,(r,n2),u2,no2⟩)=false from decide_eq_false (fun h=>e2b (congrArg (fun t=>t.s.2) h)))
     go_enter Tryz.func176,Tryz.ntmps176
     go_wp2_with (first
      |(go_at_call 206;refine Calls.mono (T1.o _ HB.o) ?_;rintro e3 w1 ⟨rfl,hb⟩;replace HX:=I (HX.o.below hb);replace HY:=I (HY.o.below hb);replace HB:=HB.t hb;clear hb T1;have kx4:w1.cell? ⟨w.heap.size,4,none⟩=some (.slice A2 a.length c2):=HX.o.cell 4;have ky4:w1.cell? ⟨w.heap.size+1,4,none⟩=some (.slice D2 a.length d2):=HY.o.cell 4;have kx5:w1.cell? ⟨w.heap.size,5,none⟩=some (.string ⟨List.toArray r⟩):=HX.o.cell 5;have ky5:w1.cell? ⟨w.heap.size+1,5,none⟩=some (.string ⟨List.toArray r⟩):=HY.o.cell 5;have kx6:w1.cell? ⟨w.heap.size,6,none⟩=some (.string ⟨List.toArray n⟩):=HX.o.cell 6;have ky6:w1.cell? ⟨w.heap.size+1,6,none⟩=some (.string ⟨List.toArray n2⟩):=HY.o.cell 6;have kx7:w1.cell? ⟨w.heap.size,7,none⟩=some (.int .i64 u):=HX.o.cell 7;have ky7:w1.cell? ⟨w.heap.size+1,7,none⟩=some (.int .i64 u2):=HY.o.cell 7;have kx8:w1.cell? ⟨w.heap.size,8,none⟩=some (.int .i64 no):=HX.o.cell 8;have ky8:w1.cell? ⟨w.heap.size+1,8,none⟩=some (.int .i64 no2):=HY.o.cell 8)
      |(go_at_call 144;refine Calls.mono (T2.o _ HB.o) ?_;rintro e4 wb2 ⟨rfl,hw⟩;subst hw;clear T2))
     go_ret;exact⟨by rw[E.o];rfl,HB.o⟩
   ·have E:=I (show decide ((⟨t,a,(r,n),u,no⟩:Tg)=⟨t,a,(r2,n2),u2,no2⟩)=false from decide_eq_false (fun h=>e2a (congrArg (fun t=>t.s.1) h)))
    go_enter Tryz.func176,Tryz.ntmps176
    go_wp2_with (first
     |(go_at_call 206;refine Calls.mono (T1.o _ HB.o) ?_;rintro e3 w1 ⟨rfl,hb⟩;replace HX:=I (HX.o.below hb);replace HY:=I (HY.o.below hb);replace HB:=HB.t hb;clear hb T1;have kx4:w1.cell? ⟨w.heap.size,4,none⟩=some (.slice A2 a.length c2):=HX.o.cell 4;have ky4:w1.cell? ⟨w.heap.size+1,4,none⟩=some (.slice D2 a.length d2):=HY.o.cell 4;have kx5:w1.cell? ⟨w.heap.size,5,none⟩=some (.string ⟨List.toArray r⟩):=HX.o.cell 5;have ky5:w1.cell? ⟨w.heap.size+1,5,none⟩=some (.string ⟨List.toArray r2⟩):=HY.o.cell 5;have kx6:w1.cell? ⟨w.heap.size,6,none⟩=some (.string ⟨List.toArray n⟩):=HX.o.cell 6;have ky6:w1.cell? ⟨w.heap.size+1,6,none⟩=some (.string ⟨List.toArray n2⟩):=HY.o.cell 6;have kx7:w1.cell? ⟨w.heap.size,7,none⟩=some (.int .i64 u):=HX.o.cell 7;have ky7:w1.cell? ⟨w.heap.size+1,7,none⟩=some (.int .i64 u2):=HY.o.cell 7;have kx8:w1.cell? ⟨w.heap.size,8,none⟩=some (.int .i64 no):=HX.o.cell 8;have ky8:w1.cell? ⟨w.heap.size+1,8,none⟩=some (.int .i64 no2):=HY.o.cell 8)
     |(go_at_call 144;refine Calls.mono (T2.o _ HB.o) ?_;rintro e4 wb2 ⟨rfl,hw⟩;subst hw;clear T2))
    go_ret;exact⟨by rw[E.o];rfl,HB.o⟩
theorem Mr (x y:Re) (A1 A2 D1 D2:Option Addr) (c1 c2 d1 d2:Nat) (w:World) (h1:Rd w w.heap.size A1 (bvs x.t.b)) (g1:Rd w w.heap.size D1 (bvs y.t.b)) (h2:Rd w w.heap.size A2 (bvs x.b)) (g2:Rd w w.heap.size D2 (bvs y.b)) :
  Calls Tryz.prog 177 #[.agg #[.string ⟨x.c.1.toArray⟩,.string ⟨x.c.2.toArray⟩,.string ⟨x.t.s.1.toArray⟩,.string ⟨x.t.s.2.toArray⟩,.int .i64 x.t.k,.slice A1 x.t.b.length c1,.slice A2 x.b.length c2],.agg #[.string ⟨y.c.1.toArray⟩,.string ⟨y.c.2.toArray⟩,.string ⟨y.t.s.1.toArray⟩,.string ⟨y.t.s.2.toArray⟩,.int .i64 y.t.k,.slice D1 y.t.b.length d1,.slice D2 y.b.length d2]] w fun e w'=>e = .returned (.bool (decide (x=y)))∧Below w.heap.size w w':=by
 obtain⟨⟨r,n⟩,t,b⟩:=x;obtain⟨⟨r2,n2⟩,t2,b2⟩:=y;simp only at h1 g1 h2 g2⊢;have HB:=I (((Below.refl w.heap.size w).alloc Ag (.cells #[.string ⟨List.toArray r⟩,.string ⟨List.toArray n⟩,.string ⟨t.s.1.toArray⟩,.string ⟨t.s.2.toArray⟩,.int .i64 t.k,.slice A1 t.b.length c1,.slice A2 b.length c2] 43)).alloc (by simp) (.cells #[.string ⟨List.toArray r2⟩,.string ⟨List.toArray n2⟩,.string ⟨t2.s.1.toArray⟩,.string ⟨t2.s.2.toArray⟩,.int .i64 t2.k,.slice D1 t2.b.length d1,.slice D2 b2.length d2] 43));have HX:=I ((Blk.new w 43 #[.string ⟨List.toArray r⟩,.string ⟨List.toArray n⟩,.string ⟨t.s.1.toArray⟩,.string ⟨t.s.2.toArray⟩,.int .i64 t.k,.slice A1 t.b.length c1,.slice A2 b.length c2]).alloc (.cells #[.string ⟨List.toArray r2⟩,.string ⟨List.toArray n2⟩,.string ⟨t2.s.1.toArray⟩,.string ⟨t2.s.2.toArray⟩,.int .i64 t2.k,.slice D1 t2.b.length d1,.slice D2 b2.length d2] 43));have hy:=Blk.new (w.alloc (.cells #[.string ⟨List.toArray r⟩,.string ⟨List.toArray n⟩,.string ⟨t.s.1.toArray⟩,.string ⟨t.s.2.toArray⟩,.int .i64 t.k,.slice A1 t.b.length c1,.slice A2 b.length c2] 43)) 43 #[.string ⟨List.toArray r2⟩,.string ⟨List.toArray n2⟩,.string ⟨t2.s.1.toArray⟩,.string ⟨t2.s.2.toArray⟩,.int .i64 t2.k,.slice D1 t2.b.length d1,.slice D2 b2.length d2];rw[show(w.alloc (.cells #[.string ⟨List.toArray r⟩,.string ⟨List.toArray n⟩,.string ⟨t.s.1.toArray⟩,.string ⟨t.s.2.toArray⟩,.int .i64 t.k,.slice A1 t.b.length c1,.slice A2 b.length c2] 43)).heap.size=w.heap.size+1 by simp] at hy;have HY:=I hy;clear hy;have T1:=I (fun w1 (h:Below w.heap.size w w1)=>GM t t2 A1 D1 c1 d1 w1 ((h1.below h).more h.size) ((g1.below h).more h.size));have T2:=I (fun w1 (h:Below w.heap.size w w1)=>GK b b2 A2 D2 c2 d2 w.heap.size w1 (h2.below h) (g2.below h));clear h1 g1 h2 g2
 by_cases e0a:r=r2
 ·subst e0a
  by_cases e0b:n=n2
  ·subst e0b
   cases e1:decide (t=t2) with
   |false=>
    have E:=I (show decide ((⟨(r,n),t,b⟩:Re)=⟨(r,n),t2,b2⟩)=false from decide_eq_false (fun h=>of_decide_eq_false e1 (congrArg Re.t h)));rw[e1] at T1;clear e1;go_enter Tryz.func177,Tryz.ntmps177
    go_wp2_with (go_at_call 206;refine Calls.mono (T1.o _ HB.o) ?_;rintro e3 w1 ⟨rfl,hb⟩;replace HX:=I (HX.o.below hb);replace HY:=I (HY.o.below hb);replace HB:=HB.t hb;clear hb T1;have kx6:w1.cell? ⟨w.heap.size,6,none⟩=some (.slice A2 b.length c2):=HX.o.cell 6;have ky6:w1.cell? ⟨w.heap.size+1,6,none⟩=some (.slice D2 b2.length d2):=HY.o.cell 6)
    go_ret;exact⟨by rw[E.o];rfl,HB.o⟩
   |true=>
    rw[e1] at T1;have e1':=of_decide_eq_true e1;clear e1;subst e1';cases e2:decide (b=b2) with
    |false=>
     have E:=I (show decide ((⟨(r,n),t,b⟩:Re)=⟨(r,n),t,b2⟩)=false from decide_eq_false (fun h=>of_decide_eq_false e2 (congrArg Re.b h)));rw[e2] at T2;clear e2;go_enter Tryz.func177,Tryz.ntmps177
     go_wp2_with (first
      |(go_at_call 206;refine Calls.mono (T1.o _ HB.o) ?_;rintro e3 w1 ⟨rfl,hb⟩;replace HX:=I (HX.o.below hb);replace HY:=I (HY.o.below hb);replace HB:=HB.t hb;clear hb T1;have kx6:w1.cell? ⟨w.heap.size,6,none⟩=some (.slice A2 b.length c2):=HX.o.cell 6;have ky6:w1.cell? ⟨w.heap.size+1,6,none⟩=some (.slice D2 b2.length d2):=HY.o.cell 6)
      |(go_at_call 144;refine Calls.mono (T2.o _ HB.o) ?_;rintro e4 wb2 ⟨rfl,hw⟩;subst hw;clear T2))
     go_ret;exact⟨by rw[E.o];rfl,HB.o⟩
    |true=>
     rw[e2] at T2;have e2':=of_decide_eq_true e2;clear e2;subst e2';have E:=I (show decide ((⟨(r,n),t,b⟩:Re)=⟨(r,n),t,b⟩)=true from decide_eq_true rfl);go_enter Tryz.func177,Tryz.ntmps177
     go_wp2_with (first
      |(go_at_call 206;refine Calls.mono (T1.o _ HB.o) ?_;rintro e3 w1 ⟨rfl,hb⟩;replace HX:=I (HX.o.below hb);replace HY:=I (HY.o.below hb);replace HB:=HB.t hb;clear hb T1;have kx6:w1.cell? ⟨w.heap.size,6,none⟩=some (.slice A2 b.length c2):=HX.o.cell 6;have ky6:w1.cell? ⟨w.heap.size+1,6,none⟩=some (.slice D2 b.length d2):=HY.o.cell 6)
      |(go_at_call 144;refine Calls.mono (T2.o _ HB.o) ?_;rintro e4 wb2 ⟨rfl,hw⟩;subst hw;clear T2))
     go_ret;exact⟨by rw[E.o];rfl,HB.o⟩
  ·have E:=I (show decide ((⟨(r,n),t,b⟩:Re)=⟨(r,n2),t2,b2⟩)=false from decide_eq_false (fun h=>e0b (congrArg (fun t=>t.c.2) h)))
   go_enter Tryz.func177,Tryz.ntmps177
   go_wp2
   go_ret;exact⟨by rw[E.o];rfl,HB.o⟩
 ·have E:=I (show decide ((⟨(r,n),t,b⟩:Re)=⟨(r2,n2),t2,b2⟩)=false from decide_eq_false (fun h=>e0a (congrArg (fun t=>t.c.1) h)))
  go_enter Tryz.func177,Tryz.ntmps177
  go_wp2
  go_ret;exact⟨by rw[E.o];rfl,HB.o⟩
theorem Mt (x y:Ap) (A1 A2 D1 D2:Option Addr) (c1 c2 d1 d2:Nat) (w:World) (h1:Rd w w.heap.size A1 (bvs x.t.b)) (g1:Rd w w.heap.size D1 (bvs y.t.b)) (h2:Rd w w.heap.size A2 (bvs x.a)) (g2:Rd w w.heap.size D2 (bvs y.a)) :
  Calls Tryz.prog 178 #[.agg #[.string ⟨x.t.s.1.toArray⟩,.string ⟨x.t.s.2.toArray⟩,.int .i64 x.t.k,.slice A1 x.t.b.length c1,.slice A2 x.a.length c2],.agg #[.string ⟨y.t.s.1.toArray⟩,.string ⟨y.t.s.2.toArray⟩,.int .i64 y.t.k,.slice D1 y.t.b.length d1,.slice D2 y.a.length d2]] w fun e w'=>e = .returned (.bool (decide (x=y)))∧Below w.heap.size w w':=by
 obtain⟨t,a⟩:=x;obtain⟨t2,a2⟩:=y;simp only at h1 g1 h2 g2⊢;have HB:=I (((Below.refl w.heap.size w).alloc Ag (.cells #[.string ⟨t.s.1.toArray⟩,.string ⟨t.s.2.toArray⟩,.int .i64 t.k,.slice A1 t.b.length c1,.slice A2 a.length c2] 85)).alloc (by simp) (.cells #[.string ⟨t2.s.1.toArray⟩,.string ⟨t2.s.2.toArray⟩,.int .i64 t2.k,.slice D1 t2.b.length d1,.slice D2 a2.length d2] 85));have HX:=I ((Blk.new w 85 #[.string ⟨t.s.1.toArray⟩,.string ⟨t.s.2.toArray⟩,.int .i64 t.k,.slice A1 t.b.length c1,.slice A2 a.length c2]).alloc (.cells #[.string ⟨t2.s.1.toArray⟩,.string ⟨t2.s.2.toArray⟩,.int .i64 t2.k,.slice D1 t2.b.length d1,.slice D2 a2.length d2] 85));have hy:=Blk.new (w.alloc (.cells #[.string ⟨t.s.1.toArray⟩,.string ⟨t.s.2.toArray⟩,.int .i64 t.k,.slice A1 t.b.length c1,.slice A2 a.length c2] 85)) 85 #[.string ⟨t2.s.1.toArray⟩,.string ⟨t2.s.2.toArray⟩,.int .i64 t2.k,.slice D1 t2.b.length d1,.slice D2 a2.length d2];rw[show(w.alloc (.cells #[.string ⟨t.s.1.toArray⟩,.string ⟨t.s.2.toArray⟩,.int .i64 t.k,.slice A1 t.b.length c1,.slice A2 a.length c2] 85)).heap.size=w.heap.size+1 by simp] at hy;have HY:=I hy;clear hy;have T1:=I (fun w1 (h:Below w.heap.size w w1)=>GM t t2 A1 D1 c1 d1 w1 ((h1.below h).more h.size) ((g1.below h).more h.size));have T2:=I (fun w1 (h:Below w.heap.size w w1)=>GK a a2 A2 D2 c2 d2 w.heap.size w1 (h2.below h) (g2.below h));clear h1 g1 h2 g2;cases e0:decide (t=t2) with
 |false=>
  have E:=I (show decide ((⟨t,a⟩:Ap)=⟨t2,a2⟩)=false from decide_eq_false (fun h=>of_decide_eq_false e0 (congrArg Ap.t h)));rw[e0] at T1;clear e0;go_enter Tryz.func178,Tryz.ntmps178
  go_wp2_with (go_at_call 206;refine Calls.mono (T1.o _ HB.o) ?_;rintro e3 w1 ⟨rfl,hb⟩;replace HX:=I (HX.o.below hb);replace HY:=I (HY.o.below hb);replace HB:=HB.t hb;clear hb T1;have kx4:w1.cell? ⟨w.heap.size,4,none⟩=some (.slice A2 a.length c2):=HX.o.cell 4;have ky4:w1.cell? ⟨w.heap.size+1,4,none⟩=some (.slice D2 a2.length d2):=HY.o.cell 4)
  go_ret;exact⟨by rw[E.o];rfl,HB.o⟩
 |true=>
  rw[e0] at T1;have e0':=of_decide_eq_true e0;clear e0;subst e0';cases e1:decide (a=a2) with
  |false=>
   have E:=I (show decide ((⟨t,a⟩:Ap)=⟨t,a2⟩)=false from decide_eq_false (fun h=>of_decide_eq_false e1 (congrArg Ap.a h)));rw[e1] at T2;clear e1;go_enter Tryz.func178,Tryz.ntmps178
   go_wp2_with (first
    |(go_at_call 206;refine Calls.mono (T1.o _ HB.o) ?_;rintro e3 w1 ⟨rfl,hb⟩;replace HX:=I (HX.o.below hb);replace HY:=I (HY.o.below hb);replace HB:=HB.t hb;clear hb T1;have kx4:w1.cell? ⟨w.heap.size,4,none⟩=some (.slice A2 a.length c2):=HX.o.cell 4;have ky4:w1.cell? ⟨w.heap.size+1,4,none⟩=some (.slice D2 a2.length d2):=HY.o.cell 4)
    |(go_at_call 144;refine Calls.mono (T2.o _ HB.o) ?_;rintro e4 wb2 ⟨rfl,hw⟩;subst hw;clear T2))
   go_ret;exact⟨by rw[E.o];rfl,HB.o⟩
  |true=>
   rw[e1] at T2;have e1':=of_decide_eq_true e1;clear e1;subst e1';have E:=I (show decide ((⟨t,a⟩:Ap)=⟨t,a⟩)=true from decide_eq_true rfl);go_enter Tryz.func178,Tryz.ntmps178
   go_wp2_with (first
    |(go_at_call 206;refine Calls.mono (T1.o _ HB.o) ?_;rintro e3 w1 ⟨rfl,hb⟩;replace HX:=I (HX.o.below hb);replace HY:=I (HY.o.below hb);replace HB:=HB.t hb;clear hb T1;have kx4:w1.cell? ⟨w.heap.size,4,none⟩=some (.slice A2 a.length c2):=HX.o.cell 4;have ky4:w1.cell? ⟨w.heap.size+1,4,none⟩=some (.slice D2 a.length d2):=HY.o.cell 4)
    |(go_at_call 144;refine Calls.mono (T2.o _ HB.o) ?_;rintro e4 wb2 ⟨rfl,hw⟩;subst hw;clear T2))
   go_ret;exact⟨by rw[E.o];rfl,HB.o⟩
end Mc
end Go.Proofs.YthhlieppeahjeaaGreat
