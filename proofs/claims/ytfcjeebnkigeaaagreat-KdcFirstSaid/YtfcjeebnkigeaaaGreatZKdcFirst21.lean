import Derived.Test.YtfcjeebnkigeaaaGreatZKdcFirst20
set_option maxHeartbeats 25600000
set_option maxRecDepth 100000
set_option linter.unusedVariables false
set_option linter.unusedSimpArgs false
namespace Go.Proofs.YtfcjeebnkigeaaaGreat
section
namespace Mc
open Go.RowKit Af DerP DerC Ms
theorem WG {pa qa:Array Value} {x y:As} (h:AsV pa x) (g:AsV qa y) (w:World):(Op.equalIn 10000 29 (.agg pa) (.agg qa)).run Tryz.prog w = .ok (decide (x=y)) w:=by rw[h,g];exact Yj x y w
theorem WI {pa qa:Array Value} {x y:Fa} (h:FaV pa x) (g:FaV qa y) (w:World):(Op.equalIn 10000 91 (.agg pa) (.agg qa)).run Tryz.prog w = .ok (decide (x=y)) w:=by rw[h,g];exact Yi x y w
theorem Sj {pa qa:Array Value} {x y:Tg} (w:World) (h:TgV w w.heap.size pa x) (g:TgV w w.heap.size qa y):Calls Tryz.prog 247 #[.agg pa,.agg qa] w fun e w'=>e = .returned (.bool (decide (x=y)))∧Below w.heap.size w w':=by
 obtain⟨b,a,rfl,⟨A1,c1,rfl,_,h1⟩,⟨A2,c2,rfl,_,h2⟩⟩:=h;obtain⟨b2,a2,rfl,⟨D1,d1,rfl,_,g1⟩,⟨D2,d2,rfl,_,g2⟩⟩:=g;exact MH x y A1 A2 D1 D2 c1 c2 d1 d2 w h1 g1 h2 g2
theorem Sk {pa qa:Array Value} {x y:Re} (w:World) (h:ReV w w.heap.size pa x) (g:ReV w w.heap.size qa y):Calls Tryz.prog 248 #[.agg pa,.agg qa] w fun e w'=>e = .returned (.bool (decide (x=y)))∧Below w.heap.size w w':=by
 obtain⟨b,a,rfl,⟨A1,c1,rfl,_,h1⟩,⟨A2,c2,rfl,_,h2⟩⟩:=h;obtain⟨b2,a2,rfl,⟨D1,d1,rfl,_,g1⟩,⟨D2,d2,rfl,_,g2⟩⟩:=g;exact MI x y A1 A2 D1 D2 c1 c2 d1 d2 w h1 g1 h2 g2
theorem Sl {pa qa:Array Value} {x y:Ap} (w:World) (h:ApV w w.heap.size pa x) (g:ApV w w.heap.size qa y):Calls Tryz.prog 249 #[.agg pa,.agg qa] w fun e w'=>e = .returned (.bool (decide (x=y)))∧Below w.heap.size w w':=by
 obtain⟨b,a,rfl,⟨A1,c1,rfl,_,h1⟩,⟨A2,c2,rfl,_,h2⟩⟩:=h;obtain⟨b2,a2,rfl,⟨D1,d1,rfl,_,g1⟩,⟨D2,d2,rfl,_,g2⟩⟩:=g;exact MJ x y A1 A2 D1 D2 c1 c2 d1 d2 w h1 g1 h2 g2
theorem mg_eq (m o:Mg):decide (m=o)=(decide (m.k=o.k)&&(decide (m.aq=o.aq)&&(decide (m.tg=o.tg)&&(decide (m.re=o.re)&&(decide (m.ap=o.ap)&&decide (m.fa=o.fa)))))):=by
 obtain⟨k,a,t,r,p,f⟩:=m;obtain⟨k2,a2,t2,r2,p2,f2⟩:=o;simp [Bool.decide_and]
theorem Sn (cs ds:Array Value) (m o:Mg) (w:World) (h:MgV w w.heap.size cs m) (g:MgV w w.heap.size ds o):Calls Tryz.prog 189 #[.agg cs,.agg ds] w fun e w'=>e = .returned (.bool (decide (m=o)))∧Below w.heap.size w w':=by
 obtain⟨pa,pt,pr,pp,pf,hc,hp⟩:=h;obtain⟨qa,qt,qr,qp,qf,hd,hq⟩:=g;obtain⟨W,eW⟩:∃W,W=(w.alloc (.cells cs 93)).alloc (.cells ds 93):=⟨_,rfl⟩;have HK:=I (show Blk W w.heap.size 93 (mgA m.k pa pt pr pp pf) by rw[eW,←hc];exact(Blk.new _ _ _).alloc _);have hq1:=Blk.new (w.alloc (.cells cs 93)) 93 ds;rw[show(w.alloc (.cells cs 93)).heap.size=w.heap.size+1 by simp,←eW,hd] at hq1;have HL:=I hq1;clear hq1;have HB:=I (show Below w.heap.size w W by rw[eW];exact((Below.refl _ _).alloc (Nat.le_refl _) _).alloc (by simp) _);have HP:=I hp;have HQ:=I hq;have HA:=I (hp.at_ HK.o);have HC:=I (hq.at_ HL.o);have k0:=HA.o.k;have k1:=HC.o.k;have Tt:=I (fun w1 (h:Below w.heap.size w w1)=>Sj w1 ((hp.t.keep h).more h.size) ((hq.t.keep h).more h.size));have Tr:=I (fun w1 (h:Below w.heap.size w w1)=>Sk w1 ((hp.r.keep h).more h.size) ((hq.r.keep h).more h.size));have Tp:=I (fun w1 (h:Below w.heap.size w w1)=>Sl w1 ((hp.p.keep h).more h.size) ((hq.p.keep h).more h.size));have EA:=I (fun w1=>WG hp.a hq.a w1);have EF:=I (fun w1=>WI hp.f hq.f w1);have ME:=I (mg_eq m o);clear hc hd hp hq;cases ek:decide (m.k=o.k) with
 |false=>
  have tk:(m.k==o.k)=false:=by simpa using ek
  have E:=I (show decide (m=o)=false by rw[ME.o,ek];rfl);clear ek;go_enter Tryz.func189,Tryz.ntmps189
  go_upto_region 1 with fail
  rw[←eW];clear eW
  go_wp2
  go_ret;exact⟨by rw[E.o];rfl,HB.o⟩
 |true=>
  have tk:(m.k==o.k)=true:=by simpa using ek
  cases ea:decide (m.aq=o.aq) with
  |false=>
   rw[ea] at EA;have fa:=EA.o;have E:=I (show decide (m=o)=false by rw[ME.o,ek,ea];rfl);clear ek ea;go_enter Tryz.func189,Tryz.ntmps189
   go_upto_region 1 with fail
   rw[←eW];clear eW
   go_wp2_with (first
    |(refine AA (by rfl) 29 (.tmp 11) (by rfl) w.heap.size 1 (by rfl) pa _ HA.o.a Tryz.underlying29 (by rfl) (by rw[HP.o.a.size];exact BR) ?_)
    |(refine AA (by rfl) 29 (.tmp 13) (by rfl) (w.heap.size+1) 1 (by rfl) qa _ HC.o.a Tryz.underlying29 (by rfl) (by rw[HQ.o.a.size];exact BR) ?_)
    |fail)
   go_ret;exact⟨by rw[E.o];rfl,HB.o⟩
  |true=>
   rw[ea] at EA;have fa:=EA.o;cases et:decide (m.tg=o.tg) with
   |false=>
    rw[et] at Tt;have E:=I (show decide (m=o)=false by rw[ME.o,ek,ea,et];rfl);clear ek ea et;go_enter Tryz.func189,Tryz.ntmps189
    go_upto_region 1 with fail
    rw[←eW];clear eW
    go_wp2_with (first
     |(refine AA (by rfl) 29 (.tmp 11) (by rfl) w.heap.size 1 (by rfl) pa _ HA.o.a Tryz.underlying29 (by rfl) (by rw[HP.o.a.size];exact BR) ?_)
     |(refine AA (by rfl) 29 (.tmp 13) (by rfl) (w.heap.size+1) 1 (by rfl) qa _ HC.o.a Tryz.underlying29 (by rfl) (by rw[HQ.o.a.size];exact BR) ?_)
     |(refine AA (by rfl) 34 (.tmp 18) (by rfl) w.heap.size 7 (by rfl) pt _ HA.o.t Tryz.underlying34 (by rfl) (by rw[HP.o.t.size];exact Cd) ?_)
     |(refine AA (by rfl) 34 (.tmp 20) (by rfl) (w.heap.size+1) 7 (by rfl) qt _ HC.o.t Tryz.underlying34 (by rfl) (by rw[HQ.o.t.size];exact Cd) ?_)
     |(go_at_call 247;refine Calls.mono (Tt.o _ HB.o) ?_;rintro e wt ⟨rfl,hb⟩;clear HA HC;replace HK:=I (HK.o.below hb);replace HL:=I (HL.o.below hb);replace HB:=HB.t hb;clear hb Tt;have HA:=I (HP.o.at_ HK.o);have HC:=I (HQ.o.at_ HL.o))
     |fail)
    go_ret;exact⟨by rw[E.o];rfl,HB.o⟩
   |true=>
    rw[et] at Tt;cases er:decide (m.re=o.re) with
    |false=>
     rw[er] at Tr;have E:=I (show decide (m=o)=false by rw[ME.o,ek,ea,et,er];rfl);clear ek ea et er;go_enter Tryz.func189,Tryz.ntmps189
     go_upto_region 1 with fail
     rw[←eW];clear eW
     go_wp2_with (first
      |(refine AA (by rfl) 29 (.tmp 11) (by rfl) w.heap.size 1 (by rfl) pa _ HA.o.a Tryz.underlying29 (by rfl) (by rw[HP.o.a.size];exact BR) ?_)
      |(refine AA (by rfl) 29 (.tmp 13) (by rfl) (w.heap.size+1) 1 (by rfl) qa _ HC.o.a Tryz.underlying29 (by rfl) (by rw[HQ.o.a.size];exact BR) ?_)
      |(refine AA (by rfl) 34 (.tmp 18) (by rfl) w.heap.size 7 (by rfl) pt _ HA.o.t Tryz.underlying34 (by rfl) (by rw[HP.o.t.size];exact Cd) ?_)
      |(refine AA (by rfl) 34 (.tmp 20) (by rfl) (w.heap.size+1) 7 (by rfl) qt _ HC.o.t Tryz.underlying34 (by rfl) (by rw[HQ.o.t.size];exact Cd) ?_)
      |(go_at_call 247;refine Calls.mono (Tt.o _ HB.o) ?_;rintro e wt ⟨rfl,hb⟩;clear HA HC;replace HK:=I (HK.o.below hb);replace HL:=I (HL.o.below hb);replace HB:=HB.t hb;clear hb Tt;have HA:=I (HP.o.at_ HK.o);have HC:=I (HQ.o.at_ HL.o))
      |(refine AA (by rfl) 38 (.tmp 25) (by rfl) w.heap.size 16 (by rfl) pr _ HA.o.r Tryz.underlying38 (by rfl) (by rw[HP.o.r.size];exact AI) ?_)
      |(refine AA (by rfl) 38 (.tmp 27) (by rfl) (w.heap.size+1) 16 (by rfl) qr _ HC.o.r Tryz.underlying38 (by rfl) (by rw[HQ.o.r.size];exact AI) ?_)
      |(go_at_call 248;refine Calls.mono (Tr.o _ HB.o) ?_;rintro e wr ⟨rfl,hb⟩;clear HA HC;replace HK:=I (HK.o.below hb);replace HL:=I (HL.o.below hb);replace HB:=HB.t hb;clear hb Tr;have HA:=I (HP.o.at_ HK.o);have HC:=I (HQ.o.at_ HL.o))
      |fail)
     go_ret;exact⟨by rw[E.o];rfl,HB.o⟩
    |true=>
     rw[er] at Tr;cases ep:decide (m.ap=o.ap) with
     |false=>
      rw[ep] at Tp;have E:=I (show decide (m=o)=false by rw[ME.o,ek,ea,et,er,ep];rfl);clear ek ea et er ep;go_enter Tryz.func189,Tryz.ntmps189
      go_upto_region 1 with fail
      rw[←eW];clear eW
      go_wp2_with (first
       |(refine AA (by rfl) 29 (.tmp 11) (by rfl) w.heap.size 1 (by rfl) pa _ HA.o.a Tryz.underlying29 (by rfl) (by rw[HP.o.a.size];exact BR) ?_)
       |(refine AA (by rfl) 29 (.tmp 13) (by rfl) (w.heap.size+1) 1 (by rfl) qa _ HC.o.a Tryz.underlying29 (by rfl) (by rw[HQ.o.a.size];exact BR) ?_)
       |(refine AA (by rfl) 34 (.tmp 18) (by rfl) w.heap.size 7 (by rfl) pt _ HA.o.t Tryz.underlying34 (by rfl) (by rw[HP.o.t.size];exact Cd) ?_)
       |(refine AA (by rfl) 34 (.tmp 20) (by rfl) (w.heap.size+1) 7 (by rfl) qt _ HC.o.t Tryz.underlying34 (by rfl) (by rw[HQ.o.t.size];exact Cd) ?_)
       |(go_at_call 247;refine Calls.mono (Tt.o _ HB.o) ?_;rintro e wt ⟨rfl,hb⟩;clear HA HC;replace HK:=I (HK.o.below hb);replace HL:=I (HL.o.below hb);replace HB:=HB.t hb;clear hb Tt;have HA:=I (HP.o.at_ HK.o);have HC:=I (HQ.o.at_ HL.o))
       |(refine AA (by rfl) 38 (.tmp 25) (by rfl) w.heap.size 16 (by rfl) pr _ HA.o.r Tryz.underlying38 (by rfl) (by rw[HP.o.r.size];exact AI) ?_)
       |(refine AA (by rfl) 38 (.tmp 27) (by rfl) (w.heap.size+1) 16 (by rfl) qr _ HC.o.r Tryz.underlying38 (by rfl) (by rw[HQ.o.r.size];exact AI) ?_)
       |(go_at_call 248;refine Calls.mono (Tr.o _ HB.o) ?_;rintro e wr ⟨rfl,hb⟩;clear HA HC;replace HK:=I (HK.o.below hb);replace HL:=I (HL.o.below hb);replace HB:=HB.t hb;clear hb Tr;have HA:=I (HP.o.at_ HK.o);have HC:=I (HQ.o.at_ HL.o))
       |(refine AA (by rfl) 89 (.tmp 32) (by rfl) w.heap.size 23 (by rfl) pp _ HA.o.p Tryz.underlying89 (by rfl) (by rw[HP.o.p.size];exact Dv) ?_)
       |(refine AA (by rfl) 89 (.tmp 34) (by rfl) (w.heap.size+1) 23 (by rfl) qp _ HC.o.p Tryz.underlying89 (by rfl) (by rw[HQ.o.p.size];exact Dv) ?_)
       |(go_at_call 249;refine Calls.mono (Tp.o _ HB.o) ?_;rintro e wp ⟨rfl,hb⟩;clear HA HC;replace HK:=I (HK.o.below hb);replace HL:=I (HL.o.below hb);replace HB:=HB.t hb;clear hb Tp;have HA:=I (HP.o.at_ HK.o);have HC:=I (HQ.o.at_ HL.o))
       |fail)
      go_ret;exact⟨by rw[E.o];rfl,HB.o⟩
     |true=>
      rw[ep] at Tp;cases ef:decide (m.fa=o.fa) with
      |false=>
       rw[ef] at EF;have ff:=EF.o;have E:=I (show decide (m=o)=false by rw[ME.o,ek,ea,et,er,ep,ef];rfl);clear ek ea et er ep ef;go_enter Tryz.func189,Tryz.ntmps189
       go_upto_region 1 with fail
       rw[←eW];clear eW
       go_wp2_with (first
        |(refine AA (by rfl) 29 (.tmp 11) (by rfl) w.heap.size 1 (by rfl) pa _ HA.o.a Tryz.underlying29 (by rfl) (by rw[HP.o.a.size];exact BR) ?_)
        |(refine AA (by rfl) 29 (.tmp 13) (by rfl) (w.heap.size+1) 1 (by rfl) qa _ HC.o.a Tryz.underlying29 (by rfl) (by rw[HQ.o.a.size];exact BR) ?_)
        |(refine AA (by rfl) 34 (.tmp 18) (by rfl) w.heap.size 7 (by rfl) pt _ HA.o.t Tryz.underlying34 (by rfl) (by rw[HP.o.t.size];exact Cd) ?_)
        |(refine AA (by rfl) 34 (.tmp 20) (by rfl) (w.heap.size+1) 7 (by rfl) qt _ HC.o.t Tryz.underlying34 (by rfl) (by rw[HQ.o.t.size];exact Cd) ?_)
        |(go_at_call 247;refine Calls.mono (Tt.o _ HB.o) ?_;rintro e wt ⟨rfl,hb⟩;clear HA HC;replace HK:=I (HK.o.below hb);replace HL:=I (HL.o.below hb);replace HB:=HB.t hb;clear hb Tt;have HA:=I (HP.o.at_ HK.o);have HC:=I (HQ.o.at_ HL.o))
        |(refine AA (by rfl) 38 (.tmp 25) (by rfl) w.heap.size 16 (by rfl) pr _ HA.o.r Tryz.underlying38 (by rfl) (by rw[HP.o.r.size];exact AI) ?_)
        |(refine AA (by rfl) 38 (.tmp 27) (by rfl) (w.heap.size+1) 16 (by rfl) qr _ HC.o.r Tryz.underlying38 (by rfl) (by rw[HQ.o.r.size];exact AI) ?_)
        |(go_at_call 248;refine Calls.mono (Tr.o _ HB.o) ?_;rintro e wr ⟨rfl,hb⟩;clear HA HC;replace HK:=I (HK.o.below hb);replace HL:=I (HL.o.below hb);replace HB:=HB.t hb;clear hb Tr;have HA:=I (HP.o.at_ HK.o);have HC:=I (HQ.o.at_ HL.o))
        |(refine AA (by rfl) 89 (.tmp 32) (by rfl) w.heap.size 23 (by rfl) pp _ HA.o.p Tryz.underlying89 (by rfl) (by rw[HP.o.p.size];exact Dv) ?_)
        |(refine AA (by rfl) 89 (.tmp 34) (by rfl) (w.heap.size+1) 23 (by rfl) qp _ HC.o.p Tryz.underlying89 (by rfl) (by rw[HQ.o.p.size];exact Dv) ?_)
        |(go_at_call 249;refine Calls.mono (Tp.o _ HB.o) ?_;rintro e wp ⟨rfl,hb⟩;clear HA HC;replace HK:=I (HK.o.below hb);replace HL:=I (HL.o.below hb);replace HB:=HB.t hb;clear hb Tp;have HA:=I (HP.o.at_ HK.o);have HC:=I (HQ.o.at_ HL.o))
        |(refine AA (by rfl) 91 (.tmp 39) (by rfl) w.heap.size 28 (by rfl) pf _ HA.o.f Tryz.underlying91 (by rfl) (by rw[HP.o.f.size];exact Fc) ?_)
        |(refine AA (by rfl) 91 (.tmp 41) (by rfl) (w.heap.size+1) 28 (by rfl) qf _ HC.o.f Tryz.underlying91 (by rfl) (by rw[HQ.o.f.size];exact Fc) ?_)
        |fail)
       go_ret;exact⟨by rw[E.o];rfl,HB.o⟩
      |true=>
       rw[ef] at EF;have ff:=EF.o;have E:=I (show decide (m=o)=true by rw[ME.o,ek,ea,et,er,ep,ef];rfl);clear ek ea et er ep ef;go_enter Tryz.func189,Tryz.ntmps189
       go_upto_region 1 with fail
       rw[←eW];clear eW
       go_wp2_with (first
        |(refine AA (by rfl) 29 (.tmp 11) (by rfl) w.heap.size 1 (by rfl) pa _ HA.o.a Tryz.underlying29 (by rfl) (by rw[HP.o.a.size];exact BR) ?_)
        |(refine AA (by rfl) 29 (.tmp 13) (by rfl) (w.heap.size+1) 1 (by rfl) qa _ HC.o.a Tryz.underlying29 (by rfl) (by rw[HQ.o.a.size];exact BR) ?_)
        |(refine AA (by rfl) 34 (.tmp 18) (by rfl) w.heap.size 7 (by rfl) pt _ HA.o.t Tryz.underlying34 (by rfl) (by rw[HP.o.t.size];exact Cd) ?_)
        |(refine AA (by rfl) 34 (.tmp 20) (by rfl) (w.heap.size+1) 7 (by rfl) qt _ HC.o.t Tryz.underlying34 (by rfl) (by rw[HQ.o.t.size];exact Cd) ?_)
        |(go_at_call 247;refine Calls.mono (Tt.o _ HB.o) ?_;rintro e wt ⟨rfl,hb⟩;clear HA HC;replace HK:=I (HK.o.below hb);replace HL:=I (HL.o.below hb);replace HB:=HB.t hb;clear hb Tt;have HA:=I (HP.o.at_ HK.o);have HC:=I (HQ.o.at_ HL.o))
        |(refine AA (by rfl) 38 (.tmp 25) (by rfl) w.heap.size 16 (by rfl) pr _ HA.o.r Tryz.underlying38 (by rfl) (by rw[HP.o.r.size];exact AI) ?_)
        |(refine AA (by rfl) 38 (.tmp 27) (by rfl) (w.heap.size+1) 16 (by rfl) qr _ HC.o.r Tryz.underlying38 (by rfl) (by rw[HQ.o.r.size];exact AI) ?_)
        |(go_at_call 248;refine Calls.mono (Tr.o _ HB.o) ?_;rintro e wr ⟨rfl,hb⟩;clear HA HC;replace HK:=I (HK.o.below hb);replace HL:=I (HL.o.below hb);replace HB:=HB.t hb;clear hb Tr;have HA:=I (HP.o.at_ HK.o);have HC:=I (HQ.o.at_ HL.o))
        |(refine AA (by rfl) 89 (.tmp 32) (by rfl) w.heap.size 23 (by rfl) pp _ HA.o.p Tryz.underlying89 (by rfl) (by rw[HP.o.p.size];exact Dv) ?_)
        |(refine AA (by rfl) 89 (.tmp 34) (by rfl) (w.heap.size+1) 23 (by rfl) qp _ HC.o.p Tryz.underlying89 (by rfl) (by rw[HQ.o.p.size];exact Dv) ?_)
        |(go_at_call 249;refine Calls.mono (Tp.o _ HB.o) ?_;rintro e wp ⟨rfl,hb⟩;clear HA HC;replace HK:=I (HK.o.below hb);replace HL:=I (HL.o.below hb);replace HB:=HB.t hb;clear hb Tp;have HA:=I (HP.o.at_ HK.o);have HC:=I (HQ.o.at_ HL.o))
        |(refine AA (by rfl) 91 (.tmp 39) (by rfl) w.heap.size 28 (by rfl) pf _ HA.o.f Tryz.underlying91 (by rfl) (by rw[HP.o.f.size];exact Fc) ?_)
        |(refine AA (by rfl) 91 (.tmp 41) (by rfl) (w.heap.size+1) 28 (by rfl) qf _ HC.o.f Tryz.underlying91 (by rfl) (by rw[HQ.o.f.size];exact Fc) ?_)
        |fail)
       go_ret;exact⟨by rw[E.o];rfl,HB.o⟩
end Mc
end
section
namespace Mc
open Go.RowKit Af DerP DerC DerR Ms
theorem Ym {pa:Array Value} {x:As} (w:World) (h:AsV pa x) (s:pSm x.c∧pSm x.s):Calls Tryz.prog 191 #[.agg pa] w fun e w'=>e = .returned (.bool (asB x))∧Below w.heap.size w w':=by rw[h];exact Ug x w s.1 s.2
theorem Yn {pa:Array Value} {x:Tg} {w0:World} {B:Nat} (w:World) (h:TgV w0 B pa x) (s:pSm x.t.s∧pSm x.s):Calls Tryz.prog 192 #[.agg pa] w fun e w'=>e = .returned (.bool (tgB x))∧Below w.heap.size w w':=by
 obtain⟨b,a,rfl,⟨A1,c1,rfl,_,h1⟩,⟨A2,c2,rfl,_,h2⟩⟩:=h;exact RQ x A1 A2 c1 c2 w s.1 s.2
theorem Yo {pa:Array Value} {x:Re} {w0:World} {B:Nat} (w:World) (h:ReV w0 B pa x) (s:pSm x.c∧pSm x.t.s):Calls Tryz.prog 193 #[.agg pa] w fun e w'=>e = .returned (.bool (reB x))∧Below w.heap.size w w':=by
 obtain⟨b,a,rfl,⟨A1,c1,rfl,_,h1⟩,⟨A2,c2,rfl,_,h2⟩⟩:=h;exact Uh x A1 A2 c1 c2 w s.2 s.1
theorem Yp {pa:Array Value} {x:Ap} {w0:World} {B:Nat} (w:World) (h:ApV w0 B pa x) (s:pSm x.t.s):Calls Tryz.prog 194 #[.agg pa] w fun e w'=>e = .returned (.bool (apB x))∧Below w.heap.size w w':=by
 obtain⟨b,a,rfl,⟨A1,c1,rfl,_,h1⟩,⟨A2,c2,rfl,_,h2⟩⟩:=h;exact Ui x A1 A2 c1 c2 w s
theorem Yq {pa:Array Value} {x:Fa} (w:World) (h:FaV pa x):Calls Tryz.prog 195 #[.agg pa] w fun e w'=>e = .returned (.bool (faB x))∧Below w.heap.size w w':=by rw[h];exact Uj x w
theorem WJ {pa:Array Value} {x:As} (w:World) (h:AsV pa x) (s:asB x=true):Calls Tryz.prog 196 #[.agg pa] w (BE w (asE x)):=by rw[h];exact RR x w s
theorem WK {pa:Array Value} {x:Tg} (w:World) (h:TgV w w.heap.size pa x) (s:tgB x=true):Calls Tryz.prog 197 #[.agg pa] w (BE w (tgE x)):=by
 obtain⟨b,a,rfl,⟨A1,c1,rfl,_,h1⟩,⟨A2,c2,rfl,_,h2⟩⟩:=h;exact RU x A1 A2 c1 c2 w s h1 h2
theorem WL {pa:Array Value} {x:Re} (w:World) (h:ReV w w.heap.size pa x) (s:reB x=true):Calls Tryz.prog 198 #[.agg pa] w (BE w (reE x)):=by
 obtain⟨b,a,rfl,⟨A1,c1,rfl,_,h1⟩,⟨A2,c2,rfl,_,h2⟩⟩:=h;exact RV x A1 A2 c1 c2 w s h1 h2
theorem WM {pa:Array Value} {x:Ap} (w:World) (h:ApV w w.heap.size pa x) (s:apB x=true):Calls Tryz.prog 199 #[.agg pa] w (BE w (apE x)):=by
 obtain⟨b,a,rfl,⟨A1,c1,rfl,_,h1⟩,⟨A2,c2,rfl,_,h2⟩⟩:=h;exact RW x A1 A2 c1 c2 w s h1 h2
theorem WN {pa:Array Value} {x:Fa} (w:World) (h:FaV pa x):Calls Tryz.prog 200 #[.agg pa] w (BE w (faE x)):=by rw[h];exact RX x w
def kdB (m:Mg):Bool:=if m.k=1 then asB m.aq else if m.k=2 then tgB m.tg else if m.k=3 then reB m.re else if m.k=4 then apB m.ap else if m.k=5 then faB m.fa else false
theorem Yr (m:Mg):mgB m=(decide (m=nm m)&&kdB m):=by
 unfold mgB kdB nm
 by_cases h1:m.k=1
 ·simp only[if_pos h1];rw[Bool.and_comm]
 ·simp only[if_neg h1]
  by_cases h2:m.k=2
  ·simp only[if_pos h2];rw[Bool.and_comm]
  ·simp only[if_neg h2]
   by_cases h3:m.k=3
   ·simp only[if_pos h3];rw[Bool.and_comm]
   ·simp only[if_neg h3]
    by_cases h4:m.k=4
    ·simp only[if_pos h4];rw[Bool.and_comm]
    ·simp only[if_neg h4]
     by_cases h5:m.k=5
     ·simp only[if_pos h5];rw[Bool.and_comm]
     ·simp only[if_neg h5];rw[Bool.and_false]
section
variable {P:Program} {w:World} {o:Oper} {a:Act}
theorem AS {w':World} {g:Nat} {t ty:TypeId} {cs:Array Value} {d:TypeDesc} (x:Operand) (ho:o.op = .load ty x) (hx:a.eval x = .pointer (some ⟨g,0,none⟩)) (h:Blk w' g t cs) (hu:P.underlying ty=some d) (hd:d.isRow=true) (hi:(P.info? ty).map (·.size)=some cs.size) :
  (execOp a.eval o).run P w' = .ok (.value (.agg cs)) w':=by
 unfold execOp;simp only[ho,hx,Instr.loadAt,Instr.sureAddr,Sem.run_bind,Sem.run_pure,Result.andThen_ok,Ak h hu hd hi]
end
theorem So (cs:Array Value) (m:Mg) (w:World) (h:MgV w w.heap.size cs m) (hs:mSm m):Calls Tryz.prog 127 #[.agg cs] w fun e w'=>e = .returned (.bool (mgB m))∧Below w.heap.size w w':=by
 have hV:=h;obtain⟨pa,pt,pr,pp,pf,hc,hp⟩:=h;have hcs:cs.size=30:=by rw[hc];exact hp.size m.k
 have HI:=I (show(Tryz.prog.info? 93).map (·.size)=some cs.size by rw[hcs];exact Db);obtain⟨W,eW⟩:∃W,W=w.alloc (.cells cs 93):=⟨_,rfl⟩;have HK:=I (show Blk W w.heap.size 93 cs by rw[eW];exact Blk.new _ _ _);have HB:=I (show Below w.heap.size w W by rw[eW];exact(Below.refl _ _).alloc (Nat.le_refl _) _);have EC:=I hc;have HP:=I hp;have TN:=I (fun w1 (h:Below w.heap.size w w1)=>Sh cs m w1 ((hV.keep h).more h.size));have TE:=I (fun w1 ds (h:Below w.heap.size w w1) (g:MgV w1 w1.heap.size ds (nm m))=>Sn cs ds m (nm m) w1 ((hV.keep h).more h.size) g);have T1:=I (fun w1=>Ym w1 hp.a hs.1);have T2:=I (fun w1=>Yn w1 hp.t hs.2.1);have T3:=I (fun w1=>Yo w1 hp.r hs.2.2.1);have T4:=I (fun w1=>Yp w1 hp.p hs.2.2.2);have T5:=I (fun w1=>Yq w1 hp.f);have MB:=I (Yr m);clear hc hp hV hcs hs;cases en:decide (m=nm m) with
 |false=>
  rw[en] at TE;have E:=I (show mgB m=false by rw[MB.o,en];rfl);clear en;go_enter Tryz.func127,Tryz.ntmps127
  go_upto_region 1 with fail
  rw[←eW];clear eW;replace HK:=I (show Blk W.drew _ _ _ from HK.o.drewN 1);replace HB:=I (show Below _ _ W.drew from below_drewN HB.o 1);refine Reg.Cf 5 rfl (by kernel_rfl) ?_;refine Reg.Ax 0 (v:=.agg cs) rfl (by kernel_rfl) (by kernel_rfl) (by kernel_rfl) (fun _ _ _ h=>h) (by rfl) (fun w' hS=>AS (.tmp 1) rfl rfl (HK.o.below hS) Tryz.underlying93 rfl HI.o) ?_;simp only[Act.put,U,Aa,Ab];refine Reg.Ax 1 (v:=.agg cs) rfl (by kernel_rfl) (by kernel_rfl) (by kernel_rfl) (fun _ _ _ h=>h) (by rfl) (fun w' hS=>AS (.tmp 1) rfl rfl (HK.o.below hS) Tryz.underlying93 rfl HI.o) ?_;simp only[Act.put,U,Aa,Ab];refine Reg.Dr 2 rfl (by kernel_rfl) (by rfl) 190 #[.agg cs] (by go_simp) ?_;refine Calls.mono (TN.o _ HB.o) ?_;rintro e w1 ⟨ds,rfl,hds,hb⟩;refine⟨_,rfl,hb,?_⟩;replace HK:=I (HK.o.below hb);replace HB:=HB.t hb;have HD:=I hds;clear hb hds TN;simp only[Act.put,U,Aa,Ab];refine Reg.Dr 3 rfl (by kernel_rfl) (by rfl) 189 #[.agg cs,.agg ds] (by go_simp) ?_;refine Calls.mono (TE.o _ ds HB.o HD.o) ?_;rintro e w2 ⟨rfl,hb⟩;refine⟨_,rfl,hb,?_⟩;replace HK:=I (HK.o.below hb);replace HB:=HB.t hb;clear hb TE HD;simp only[Act.put,U,Aa,Ab];refine Reg.Ax 4 (v:=.bool true) rfl (by kernel_rfl) (by kernel_rfl) (by kernel_rfl) (fun _ _ _ h=>h) (by rfl) (fun w' hS=>by go_simp) ?_;simp only[Act.put,U,Aa,Ab];refine wpAnyH_done (by kernel_rfl) ?_ _
  go_wp2
  go_ret;exact⟨by rw[E.o];rfl,HB.o⟩
 |true=>
  rw[en] at TE;have MK:=I (show mgB m=kdB m by rw[MB.o,en];rfl);clear en;go_enter Tryz.func127,Tryz.ntmps127
  go_upto_region 1 with fail
  rw[←eW];clear eW;replace HK:=I (show Blk W.drew _ _ _ from HK.o.drewN 1);replace HB:=I (show Below _ _ W.drew from below_drewN HB.o 1);refine Reg.Cf 5 rfl (by kernel_rfl) ?_;refine Reg.Ax 0 (v:=.agg cs) rfl (by kernel_rfl) (by kernel_rfl) (by kernel_rfl) (fun _ _ _ h=>h) (by rfl) (fun w' hS=>AS (.tmp 1) rfl rfl (HK.o.below hS) Tryz.underlying93 rfl HI.o) ?_;simp only[Act.put,U,Aa,Ab];refine Reg.Ax 1 (v:=.agg cs) rfl (by kernel_rfl) (by kernel_rfl) (by kernel_rfl) (fun _ _ _ h=>h) (by rfl) (fun w' hS=>AS (.tmp 1) rfl rfl (HK.o.below hS) Tryz.underlying93 rfl HI.o) ?_;simp only[Act.put,U,Aa,Ab];refine Reg.Dr 2 rfl (by kernel_rfl) (by rfl) 190 #[.agg cs] (by go_simp) ?_;refine Calls.mono (TN.o _ HB.o) ?_;rintro e w1 ⟨ds,rfl,hds,hb⟩;refine⟨_,rfl,hb,?_⟩;replace HK:=I (HK.o.below hb);replace HB:=HB.t hb;have HD:=I hds;clear hb hds TN;simp only[Act.put,U,Aa,Ab];refine Reg.Dr 3 rfl (by kernel_rfl) (by rfl) 189 #[.agg cs,.agg ds] (by go_simp) ?_;refine Calls.mono (TE.o _ ds HB.o HD.o) ?_;rintro e w2 ⟨rfl,hb⟩;refine⟨_,rfl,hb,?_⟩;replace HK:=I (HK.o.below hb);replace HB:=HB.t hb;clear hb TE HD;simp only[Act.put,U,Aa,Ab];refine Reg.Ax 4 (v:=.bool false) rfl (by kernel_rfl) (by kernel_rfl) (by kernel_rfl) (fun _ _ _ h=>h) (by rfl) (fun w' hS=>by go_simp) ?_;simp only[Act.put,U,Aa,Ab];refine wpAnyH_done (by kernel_rfl) ?_ _;replace HK:=I (EC.o▸HK.o);have HA:=I (HP.o.at_ HK.o);have k0:=HA.o.k
  by_cases m1:m.k=1
  ·have y1:(m.k==1)=true:=by simpa using m1
   have y2:(m.k==2)=false:=by simp;omega
   have y3:(m.k==3)=false:=by simp;omega
   have y4:(m.k==4)=false:=by simp;omega
   have y5:(m.k==5)=false:=by simp;omega
   have E:=I (show mgB m=asB m.aq by rw[MK.o,kdB,if_pos m1]);clear m1
   go_wp2_with (first
    |(refine AA (by rfl) 29 (.tmp 12) (by rfl) w.heap.size 1 (by rfl) pa _ HA.o.a Tryz.underlying29 (by rfl) (by rw[HP.o.a.size];exact BR) ?_)
    |(go_at_call 191;refine Calls.mono (T1.o _) ?_;rintro e w3 ⟨rfl,hb⟩;replace HB:=HB.t hb;clear hb T1)
    |fail)
   go_ret;exact⟨by rw[E.o];rfl,HB.o⟩
  ·have nm1:=m1
   by_cases m2:m.k=2
   ·have y1:(m.k==1)=false:=by simp;omega
    have y2:(m.k==2)=true:=by simpa using m2
    have y3:(m.k==3)=false:=by simp;omega
    have y4:(m.k==4)=false:=by simp;omega
    have y5:(m.k==5)=false:=by simp;omega
    have E:=I (show mgB m=tgB m.tg by rw[MK.o,kdB,if_neg m1,if_pos m2]);clear m1 m2
    go_wp2_with (first
     |(refine AA (by rfl) 34 (.tmp 17) (by rfl) w.heap.size 7 (by rfl) pt _ HA.o.t Tryz.underlying34 (by rfl) (by rw[HP.o.t.size];exact Cd) ?_)
     |(go_at_call 192;refine Calls.mono (T2.o _) ?_;rintro e w3 ⟨rfl,hb⟩;replace HB:=HB.t hb;clear hb T2)
     |fail)
    go_ret;exact⟨by rw[E.o];rfl,HB.o⟩
   ·have nm2:=m2
    by_cases m3:m.k=3
    ·have y1:(m.k==1)=false:=by simp;omega
     have y2:(m.k==2)=false:=by simp;omega
     have y3:(m.k==3)=true:=by simpa using m3
     have y4:(m.k==4)=false:=by simp;omega
     have y5:(m.k==5)=false:=by simp;omega
     have E:=I (show mgB m=reB m.re by rw[MK.o,kdB,if_neg m1,if_neg m2,if_pos m3]);clear m1 m2 m3
     go_wp2_with (first
      |(refine AA (by rfl) 38 (.tmp 22) (by rfl) w.heap.size 16 (by rfl) pr _ HA.o.r Tryz.underlying38 (by rfl) (by rw[HP.o.r.size];exact AI) ?_)
      |(go_at_call 193;refine Calls.mono (T3.o _) ?_;rintro e w3 ⟨rfl,hb⟩;replace HB:=HB.t hb;clear hb T3)
      |fail)
     go_ret;exact⟨by rw[E.o];rfl,HB.o⟩
    ·have nm3:=m3
     by_cases m4:m.k=4
     ·have y1:(m.k==1)=false:=by simp;omega
      have y2:(m.k==2)=false:=by simp;omega
      have y3:(m.k==3)=false:=by simp;omega
      have y4:(m.k==4)=true:=by simpa using m4
      have y5:(m.k==5)=false:=by simp;omega
      have E:=I (show mgB m=apB m.ap by rw[MK.o,kdB,if_neg m1,if_neg m2,if_neg m3,if_pos m4]);clear m1 m2 m3 m4
      go_wp2_with (first
       |(refine AA (by rfl) 89 (.tmp 27) (by rfl) w.heap.size 23 (by rfl) pp _ HA.o.p Tryz.underlying89 (by rfl) (by rw[HP.o.p.size];exact Dv) ?_)
       |(go_at_call 194;refine Calls.mono (T4.o _) ?_;rintro e w3 ⟨rfl,hb⟩;replace HB:=HB.t hb;clear hb T4)
       |fail)
      go_ret;exact⟨by rw[E.o];rfl,HB.o⟩
     ·have nm4:=m4
      by_cases m5:m.k=5
      ·have y1:(m.k==1)=false:=by simp;omega
       have y2:(m.k==2)=false:=by simp;omega
       have y3:(m.k==3)=false:=by simp;omega
       have y4:(m.k==4)=false:=by simp;omega
       have y5:(m.k==5)=true:=by simpa using m5
       have E:=I (show mgB m=faB m.fa by rw[MK.o,kdB,if_neg m1,if_neg m2,if_neg m3,if_neg m4,if_pos m5]);clear m1 m2 m3 m4 m5
       go_wp2_with (first
        |(refine AA (by rfl) 91 (.tmp 32) (by rfl) w.heap.size 28 (by rfl) pf _ HA.o.f Tryz.underlying91 (by rfl) (by rw[HP.o.f.size];exact Fc) ?_)
        |(go_at_call 195;refine Calls.mono (T5.o _) ?_;rintro e w3 ⟨rfl,hb⟩;replace HB:=HB.t hb;clear hb T5)
        |fail)
       go_ret;exact⟨by rw[E.o];rfl,HB.o⟩
      ·have nm5:=m5
       have y1:(m.k==1)=false:=by simp;omega
       have y2:(m.k==2)=false:=by simp;omega
       have y3:(m.k==3)=false:=by simp;omega
       have y4:(m.k==4)=false:=by simp;omega
       have y5:(m.k==5)=false:=by simp;omega
       have E:=I (show mgB m=false by rw[MK.o,kdB,if_neg m1,if_neg m2,if_neg m3,if_neg m4,if_neg m5]);clear m1 m2 m3 m4 m5
       go_wp2
       go_ret;exact⟨by rw[E.o];rfl,HB.o⟩
theorem Px (cs:Array Value) (m:Mg) (w:World) (h:MgV w w.heap.size cs m) (hx:mgB m=true):Calls Tryz.prog 129 #[.agg cs] w (BE w (mgE m)):=by
 obtain⟨pa,pt,pr,pp,pf,hc,hp⟩:=h;obtain⟨W,eW⟩:∃W,W=w.alloc (.cells cs 93):=⟨_,rfl⟩;have HK:=I (show Blk W w.heap.size 93 (mgA m.k pa pt pr pp pf) by rw[eW,←hc];exact Blk.new _ _ _);have HB:=I (show Below w.heap.size w W by rw[eW];exact(Below.refl _ _).alloc (Nat.le_refl _) _);have HA:=I (hp.at_ HK.o);have k0:=HA.o.k;have HP:=I hp;clear hc;rcases Nq hx with⟨h1,e⟩ | ⟨h1,e⟩ | ⟨h1,e⟩ | ⟨h1,e⟩ | ⟨h1,e⟩
 ·have hk:m.k=1:=by rw[e]
  have y1:(m.k==1)=true:=by rw[hk];rfl
  have y2:(m.k==2)=false:=by rw[hk];rfl
  have y3:(m.k==3)=false:=by rw[hk];rfl
  have y4:(m.k==4)=false:=by rw[hk];rfl
  have y5:(m.k==5)=false:=by rw[hk];rfl
  have E:=I (show mgE m=asE m.aq by rw[e];rfl);have T1:=I (fun w1 (h:Below w.heap.size w w1)=>WJ w1 hp.a h1);rw[E.o];clear hx h1 e hk hp E;go_enter Tryz.func129,Tryz.ntmps129
  go_upto_region 1 with fail
  rw[←eW];clear eW
  go_wp2_with (first
   |(refine AA (by rfl) 29 (.tmp 7) (by rfl) w.heap.size 1 (by rfl) pa _ HA.o.a Tryz.underlying29 (by rfl) (by rw[HP.o.a.size];exact BR) ?_)
   |(go_at_call 196;refine Calls.mono (T1.o _ HB.o) ?_;rintro e w3 ⟨⟨g,c,rfl,h2,h3,h4⟩,hb⟩;have HG:=I (Bc (l:=asE m.aq) ⟨⟨g,c,rfl,h2,h3,h4⟩,hb⟩ HB.o);clear h2 h3 h4 hb T1)
   |fail)
  go_ret;exact HG.o
 ·have hk:m.k=2:=by rw[e]
  have y1:(m.k==1)=false:=by rw[hk];rfl
  have y2:(m.k==2)=true:=by rw[hk];rfl
  have y3:(m.k==3)=false:=by rw[hk];rfl
  have y4:(m.k==4)=false:=by rw[hk];rfl
  have y5:(m.k==5)=false:=by rw[hk];rfl
  have E:=I (show mgE m=tgE m.tg by rw[e];rfl);have T1:=I (fun w1 (h:Below w.heap.size w w1)=>WK w1 ((hp.t.keep h).more h.size) h1);rw[E.o];clear hx h1 e hk hp E;go_enter Tryz.func129,Tryz.ntmps129
  go_upto_region 1 with fail
  rw[←eW];clear eW
  go_wp2_with (first
   |(refine AA (by rfl) 34 (.tmp 12) (by rfl) w.heap.size 7 (by rfl) pt _ HA.o.t Tryz.underlying34 (by rfl) (by rw[HP.o.t.size];exact Cd) ?_)
   |(go_at_call 197;refine Calls.mono (T1.o _ HB.o) ?_;rintro e w3 ⟨⟨g,c,rfl,h2,h3,h4⟩,hb⟩;have HG:=I (Bc (l:=tgE m.tg) ⟨⟨g,c,rfl,h2,h3,h4⟩,hb⟩ HB.o);clear h2 h3 h4 hb T1)
   |fail)
  go_ret;exact HG.o
 ·have hk:m.k=3:=by rw[e]
  have y1:(m.k==1)=false:=by rw[hk];rfl
  have y2:(m.k==2)=false:=by rw[hk];rfl
  have y3:(m.k==3)=true:=by rw[hk];rfl
  have y4:(m.k==4)=false:=by rw[hk];rfl
  have y5:(m.k==5)=false:=by rw[hk];rfl
  have E:=I (show mgE m=reE m.re by rw[e];rfl);have T1:=I (fun w1 (h:Below w.heap.size w w1)=>WL w1 ((hp.r.keep h).more h.size) h1);rw[E.o];clear hx h1 e hk hp E;go_enter Tryz.func129,Tryz.ntmps129
  go_upto_region 1 with fail
  rw[←eW];clear eW
  go_wp2_with (first
   |(refine AA (by rfl) 38 (.tmp 17) (by rfl) w.heap.size 16 (by rfl) pr _ HA.o.r Tryz.underlying38 (by rfl) (by rw[HP.o.r.size];exact AI) ?_)
   |(go_at_call 198;refine Calls.mono (T1.o _ HB.o) ?_;rintro e w3 ⟨⟨g,c,rfl,h2,h3,h4⟩,hb⟩;have HG:=I (Bc (l:=reE m.re) ⟨⟨g,c,rfl,h2,h3,h4⟩,hb⟩ HB.o);clear h2 h3 h4 hb T1)
   |fail)
  go_ret;exact HG.o
 ·have hk:m.k=4:=by rw[e]
  have y1:(m.k==1)=false:=by rw[hk];rfl
  have y2:(m.k==2)=false:=by rw[hk];rfl
  have y3:(m.k==3)=false:=by rw[hk];rfl
  have y4:(m.k==4)=true:=by rw[hk];rfl
  have y5:(m.k==5)=false:=by rw[hk];rfl
  have E:=I (show mgE m=apE m.ap by rw[e];rfl);have T1:=I (fun w1 (h:Below w.heap.size w w1)=>WM w1 ((hp.p.keep h).more h.size) h1);rw[E.o];clear hx h1 e hk hp E;go_enter Tryz.func129,Tryz.ntmps129
  go_upto_region 1 with fail
  rw[←eW];clear eW
  go_wp2_with (first
   |(refine AA (by rfl) 89 (.tmp 22) (by rfl) w.heap.size 23 (by rfl) pp _ HA.o.p Tryz.underlying89 (by rfl) (by rw[HP.o.p.size];exact Dv) ?_)
   |(go_at_call 199;refine Calls.mono (T1.o _ HB.o) ?_;rintro e w3 ⟨⟨g,c,rfl,h2,h3,h4⟩,hb⟩;have HG:=I (Bc (l:=apE m.ap) ⟨⟨g,c,rfl,h2,h3,h4⟩,hb⟩ HB.o);clear h2 h3 h4 hb T1)
   |fail)
  go_ret;exact HG.o
 ·have hk:m.k=5:=by rw[e]
  have y1:(m.k==1)=false:=by rw[hk];rfl
  have y2:(m.k==2)=false:=by rw[hk];rfl
  have y3:(m.k==3)=false:=by rw[hk];rfl
  have y4:(m.k==4)=false:=by rw[hk];rfl
  have y5:(m.k==5)=true:=by rw[hk];rfl
  have E:=I (show mgE m=faE m.fa by rw[e];rfl);have T1:=I (fun w1 (h:Below w.heap.size w w1)=>WN w1 hp.f);rw[E.o];clear hx h1 e hk hp E;go_enter Tryz.func129,Tryz.ntmps129
  go_upto_region 1 with fail
  rw[←eW];clear eW
  go_wp2_with (first
   |(refine AA (by rfl) 91 (.tmp 25) (by rfl) w.heap.size 28 (by rfl) pf _ HA.o.f Tryz.underlying91 (by rfl) (by rw[HP.o.f.size];exact Fc) ?_)
   |(go_at_call 200;refine Calls.mono (T1.o _ HB.o) ?_;rintro e w3 ⟨⟨g,c,rfl,h2,h3,h4⟩,hb⟩;have HG:=I (Bc (l:=faE m.fa) ⟨⟨g,c,rfl,h2,h3,h4⟩,hb⟩ HB.o);clear h2 h3 h4 hb T1)
   |fail)
  go_ret;exact HG.o
theorem UY {m:Mg} (hx:mgB m=true):(mgE m).length≤2000:=by
 rcases Nq hx with⟨h1,e⟩ | ⟨h1,e⟩ | ⟨h1,e⟩ | ⟨h1,e⟩ | ⟨h1,e⟩
 ·have hE:mgE m=asE m.aq:=by rw[e];rfl
  have hp:prB m.aq.c=true∧prB m.aq.s=true∧tmB m.aq.t=true∧tmB m.aq.no=true:=by simpa [asB] using h1
  have b1:=(Bn hp.1).1;have b2:=(Bn hp.2.1).1;have b3:=AG m.aq.t;have b4:=AG m.aq.no;have:=Av 106 [prE m.aq.c,prE m.aq.s,encI m.aq.t,encI m.aq.no].flatten;rw[hE,asE];rw[Tu] at this⊢;simp only[List.length_append] at this;omega
 ·have hE:mgE m=tgE m.tg:=by rw[e];rfl
  have hp:tkB m.tg.t=true∧DB m.tg.a=true∧prB m.tg.s=true∧tmB m.tg.u=true∧tmB m.tg.no=true:=by simpa [tgB] using h1
  have b1:=(GJ hp.1).1;have b2:=Av 4 m.tg.a;have b3:=(Bn hp.2.2.1).1;have b4:=AG m.tg.u;have b5:=AG m.tg.no;have b6:=CQ hp.2.1;have:=Av 108 [tkE m.tg.t,elem 4 m.tg.a,prE m.tg.s,encI m.tg.u,encI m.tg.no].flatten;rw[hE,tgE];rw[DC] at this⊢;simp only[List.length_append] at this;omega
 ·have hE:mgE m=reE m.re:=by rw[e];rfl
  have hp:prB m.re.c=true∧tkB m.re.t=true∧DB m.re.b=true:=by simpa [reB] using h1
  have b1:=(Bn hp.1).1;have b2:=(GJ hp.2.1).1;have b3:=Av 4 m.re.b;have b6:=CQ hp.2.2;have:=Av 107 [prE m.re.c,tkE m.re.t,elem 4 m.re.b].flatten;rw[hE,reE];rw[LX] at this⊢;simp only[List.length_append] at this;omega
 ·have hE:mgE m=apE m.ap:=by rw[e];rfl
  have hp:tkB m.ap.t=true∧DB m.ap.a=true:=by simpa [apB] using h1
  have b2:=(GJ hp.1).1;have b3:=Av 4 m.ap.a;have b6:=CQ hp.2;have:=Av 110 [tkE m.ap.t,elem 4 m.ap.a].flatten;rw[hE,apE];rw[FK] at this⊢;simp only[List.length_append] at this;omega
 ·have hE:mgE m=faE m.fa:=by rw[e];rfl
  have b2:=AG m.fa.e;have b3:=AG m.fa.no;have:=Av 126 [encI m.fa.e,encI m.fa.no].flatten;rw[hE,faE];rw[FK] at this⊢;simp only[List.length_append] at this;omega
theorem WO (cs0:Array Value) (m:Mg) (w:World) (h:MgV w w.heap.size cs0 m) (hs:mSm m):Calls Tryz.prog 68 #[.agg cs0] w (EncR w (mgO m)):=by
 have HI:=I (show(Tryz.prog.info? 93).map (·.size)=some cs0.size by obtain⟨pa,pt,pr,pp,pf,hc,hp⟩:=h;rw[hc,hp.size];exact Db);have I1:=I (fun w1 (h1:Below w.heap.size w w1)=>So cs0 m w1 ((h.keep h1).more h1.size) hs);have T0:=I (fun(hx:mgB m=true)=>fun w1 (h1:Below w.heap.size w w1)=>Px cs0 m w1 ((h.keep h1).more h1.size) hx);have HLEN:=I (fun(hx:mgB m=true)=>UY hx);obtain⟨cs,ecs⟩:∃cs:Array Value,cs=cs0:=⟨_,rfl⟩;rw[←ecs] at HI I1 T0⊢;clear ecs;have HB:=I ((Below.refl w.heap.size w).alloc (Nat.le_refl _) (.cells cs 93));have HK:=I (Blk.new w 93 cs);cases hx:mgB m with
 |false=>
  rw[hx] at I1;have E:=I (show mgO m=none by unfold mgO limO;rw[hx];rfl);rw[E.o];clear hx E T0 HLEN hs h;go_enter Tryz.func68,Tryz.ntmps68
  go_wp2_with (first
   |(refine Ae (by rfl) 93 (.tmp 1) (by rfl) w.heap.size 0 (by rfl) cs _ (Ag HK.o) Tryz.underlying93 (by rfl) HI.o ?_)
   |(go_at_call 127;refine Calls.mono (I1.o _ HB.o) ?_;rintro e w1 ⟨rfl,hb⟩;replace HB:=HB.t hb;clear hb I1)
   |fail)
  go_ret2
  exact Gp HB.o
 |true=>
  rw[hx] at I1;have T1:=I (T0.o hx);have hlm:=HLEN.o hx;have E:=I (show mgO m=some (mgE m) from FL.2 ⟨hx,hlm,rfl⟩);rw[E.o];obtain⟨l,el⟩:∃l,l=mgE m:=⟨_,rfl⟩;rw[←el] at T1 hlm⊢;have LM:=I (fun A c w1=>GU l A _ c w1 rfl hlm);clear hx E el hlm T0 HLEN hs h;go_enter Tryz.func68,Tryz.ntmps68
  go_wp2_with (first
   |(refine Ae (by rfl) 93 (.tmp 1) (by rfl) w.heap.size 0 (by rfl) cs _ (Ag HK.o) Tryz.underlying93 (by rfl) HI.o ?_)
   |(go_at_call 127;refine Calls.mono (I1.o _ HB.o) ?_;rintro e w1 ⟨rfl,hb⟩;replace HK:=I (HK.o.below hb);replace HB:=HB.t hb;clear hb I1)
   |(go_at_call 129;refine Calls.mono (T1.o _ HB.o) ?_;rintro e w2 ⟨⟨g,c,rfl,h2,h3,h4⟩,hb⟩;have HG:=I (Bc (l:=l) ⟨⟨g,c,rfl,h2,h3,h4⟩,hb⟩ HB.o);clear h2 h3 h4 hb T1)
   |(go_at_call 128;refine Calls.mono (LM.o _ _ _) ?_;rintro e wy ⟨rfl,rfl⟩;clear LM)
   |fail)
  go_ret2
  exact Gq HG.o
end Mc
end
section
namespace Mc
open Go.RowKit Af DerP DerC Ms
theorem FC:pSm pr0:=⟨by decide,by decide⟩
end Mc
end
section
namespace Mc
open Go.RowKit Af DerP Ms
theorem NZ {α β:Type} (g:α→Option β) (h:α→β):∀l:List α,(∀i∈l,g i=some (h i))→l.mapM g=some (l.map h)
 | [],_=>rfl
 |a :: l,hh=>by
  rw[List.mapM_cons,hh a (by simp),NZ g h l (fun i hi=>hh i (by simp [hi]))]
  rfl
theorem Kj {α β:Type} (g:α→β):∀l:List α,(l.map fun i=>[g i]).flatten=l.map g
 | []=>rfl
 |a :: l=>by rw[List.map_cons,List.flatten_cons,Kj g l,List.map_cons];rfl
def WQ (k:L):List Lit:=(List.range 32).map fun i=>Lit.int .u8 ((k.getD i 0).toNat:Int)
theorem Oa (k:L) (hk:k.length=32):Tryz.prog.keyLits 5 47 (bvs k)=some (WQ k):=by
 have hu26:=Tryz.underlying47;have hu5:=Tryz.underlying5;have c26:Tryz.prog.cellsOf 47=32:=by kernel_rfl
 have c5:Tryz.prog.cellsOf 5=1:=by kernel_rfl
 have one:∀b:UInt8,Tryz.prog.keyLits 4 5 [bv b]=some [Lit.int .u8 (b.toNat:Int)]:=fun b=>by
  have hw:(Lit.int .u8 (b.toNat:Int)).wf=true:=by
   have:=b.toNat_lt;simp [Lit.wf,IntKind.min,IntKind.max,IntKind.signed,IntKind.bits];omega
  unfold Program.keyLits bv;simp only[hu5,hw,and_self,if_true]
 unfold Program.keyLits;simp only[hu26];have hl:(bvs k).length=Tryz.prog.cellsOf 47:=by rw[c26,Aj,hk]
 rw[if_pos hl];have hm:=NZ (fun i=>Tryz.prog.keyLits 4 5 (((bvs k).drop (i*Tryz.prog.cellsOf 5)).take (Tryz.prog.cellsOf 5))) (fun i=>[Lit.int .u8 ((k.getD i 0).toNat:Int)]) (List.range 32) (fun i hi=>by
  have h32:i<32:=List.mem_range.1 hi;have hlt:i<(bvs k).length:=by rw[Aj,hk];exact h32
  rw[c5,Nat.mul_one,List.drop_eq_getElem_cons hlt,List.take_succ_cons,List.take_zero];have hlk:i<k.length:=by omega
  have e:(bvs k)[i]=bv (k.getD i 0):=by simp [bvs,List.getD,hlk]
  rw[e];exact one _)
 rw[hm];show some ((List.range 32).map fun i=>[Lit.int .u8 ((k.getD i 0).toNat:Int)]).flatten=_;rw[Kj];rfl
theorem Sq (k:L) (hk:k.length=32) (w:World):(Op.equalIn 9999 47 (.agg (bvs k).toArray) (.agg (bvs k).toArray)).run Tryz.prog w = .ok true w:=by
 have h:=run_equalIn_deep (P:=Tryz.prog) 9997 2 47 (by kernel_rfl);have c26:Tryz.prog.cellsOf 47=32:=by kernel_rfl
 have hf:(Value.agg (bvs k).toArray).formed Tryz.prog 47=true:=by
  obtain⟨k0,k1,k2,k3,k4,k5,k6,k7,k8,k9,k10,k11,k12,k13,k14,k15,k16,k17,k18,k19,k20,k21,k22,k23,k24,k25,k26,k27,k28,k29,k30,k31,rfl⟩:=Un hk
  kernel_rfl
 obtain⟨r,h1,h2⟩:=h w 5 5 (.agg (bvs k).toArray) (.agg (bvs k).toArray) (WQ k) (WQ k) hf hf (Oa k hk) (Oa k hk);rw[h2.2 rfl] at h1;exact h1
theorem Ys (p:Pt) (hk:p.ss.length=32) (w:World):(Op.equalIn 10000 71 (.agg (ptC p).toArray) (.agg (ptC p).toArray)).run Tryz.prog w = .ok true w:=by
 obtain⟨c,k,tr,st,en⟩:=p;simp only at hk;have hq:=Sq k hk w;obtain⟨k0,k1,k2,k3,k4,k5,k6,k7,k8,k9,k10,k11,k12,k13,k14,k15,k16,k17,k18,k19,k20,k21,k22,k23,k24,k25,k26,k27,k28,k29,k30,k31,rfl⟩:=Un hk;replace hq:(Op.equalIn 9999 47 (.agg #[.int .u8 (k0.toNat:Int),.int .u8 (k1.toNat:Int),.int .u8 (k2.toNat:Int),.int .u8 (k3.toNat:Int),.int .u8 (k4.toNat:Int),.int .u8 (k5.toNat:Int),.int .u8 (k6.toNat:Int),.int .u8 (k7.toNat:Int),.int .u8 (k8.toNat:Int),.int .u8 (k9.toNat:Int),.int .u8 (k10.toNat:Int),.int .u8 (k11.toNat:Int),.int .u8 (k12.toNat:Int),.int .u8 (k13.toNat:Int),.int .u8 (k14.toNat:Int),.int .u8 (k15.toNat:Int),.int .u8 (k16.toNat:Int),.int .u8 (k17.toNat:Int),.int .u8 (k18.toNat:Int),.int .u8 (k19.toNat:Int),.int .u8 (k20.toNat:Int),.int .u8 (k21.toNat:Int),.int .u8 (k22.toNat:Int),.int .u8 (k23.toNat:Int),.int .u8 (k24.toNat:Int),.int .u8 (k25.toNat:Int),.int .u8 (k26.toNat:Int),.int .u8 (k27.toNat:Int),.int .u8 (k28.toNat:Int),.int .u8 (k29.toNat:Int),.int .u8 (k30.toNat:Int),.int .u8 (k31.toNat:Int)]) (.agg #[.int .u8 (k0.toNat:Int),.int .u8 (k1.toNat:Int),.int .u8 (k2.toNat:Int),.int .u8 (k3.toNat:Int),.int .u8 (k4.toNat:Int),.int .u8 (k5.toNat:Int),.int .u8 (k6.toNat:Int),.int .u8 (k7.toNat:Int),.int .u8 (k8.toNat:Int),.int .u8 (k9.toNat:Int),.int .u8 (k10.toNat:Int),.int .u8 (k11.toNat:Int),.int .u8 (k12.toNat:Int),.int .u8 (k13.toNat:Int),.int .u8 (k14.toNat:Int),.int .u8 (k15.toNat:Int),.int .u8 (k16.toNat:Int),.int .u8 (k17.toNat:Int),.int .u8 (k18.toNat:Int),.int .u8 (k19.toNat:Int),.int .u8 (k20.toNat:Int),.int .u8 (k21.toNat:Int),.int .u8 (k22.toNat:Int),.int .u8 (k23.toNat:Int),.int .u8 (k24.toNat:Int),.int .u8 (k25.toNat:Int),.int .u8 (k26.toNat:Int),.int .u8 (k27.toNat:Int),.int .u8 (k28.toNat:Int),.int .u8 (k29.toNat:Int),.int .u8 (k30.toNat:Int),.int .u8 (k31.toNat:Int)])).run Tryz.prog w = .ok true w:=hq;show(Op.equalIn 10000 71 (.agg #[.string ⟨c.1.toArray⟩,.string ⟨c.2.toArray⟩,.int .u8 (k0.toNat:Int),.int .u8 (k1.toNat:Int),.int .u8 (k2.toNat:Int),.int .u8 (k3.toNat:Int),.int .u8 (k4.toNat:Int),.int .u8 (k5.toNat:Int),.int .u8 (k6.toNat:Int),.int .u8 (k7.toNat:Int),.int .u8 (k8.toNat:Int),.int .u8 (k9.toNat:Int),.int .u8 (k10.toNat:Int),.int .u8 (k11.toNat:Int),.int .u8 (k12.toNat:Int),.int .u8 (k13.toNat:Int),.int .u8 (k14.toNat:Int),.int .u8 (k15.toNat:Int),.int .u8 (k16.toNat:Int),.int .u8 (k17.toNat:Int),.int .u8 (k18.toNat:Int),.int .u8 (k19.toNat:Int),.int .u8 (k20.toNat:Int),.int .u8 (k21.toNat:Int),.int .u8 (k22.toNat:Int),.int .u8 (k23.toNat:Int),.int .u8 (k24.toNat:Int),.int .u8 (k25.toNat:Int),.int .u8 (k26.toNat:Int),.int .u8 (k27.toNat:Int),.int .u8 (k28.toNat:Int),.int .u8 (k29.toNat:Int),.int .u8 (k30.toNat:Int),.int .u8 (k31.toNat:Int),.string ⟨tr.toArray⟩,.int .i64 st,.int .i64 en]) (.agg #[.string ⟨c.1.toArray⟩,.string ⟨c.2.toArray⟩,.int .u8 (k0.toNat:Int),.int .u8 (k1.toNat:Int),.int .u8 (k2.toNat:Int),.int .u8 (k3.toNat:Int),.int .u8 (k4.toNat:Int),.int .u8 (k5.toNat:Int),.int .u8 (k6.toNat:Int),.int .u8 (k7.toNat:Int),.int .u8 (k8.toNat:Int),.int .u8 (k9.toNat:Int),.int .u8 (k10.toNat:Int),.int .u8 (k11.toNat:Int),.int .u8 (k12.toNat:Int),.int .u8 (k13.toNat:Int),.int .u8 (k14.toNat:Int),.int .u8 (k15.toNat:Int),.int .u8 (k16.toNat:Int),.int .u8 (k17.toNat:Int),.int .u8 (k18.toNat:Int),.int .u8 (k19.toNat:Int),.int .u8 (k20.toNat:Int),.int .u8 (k21.toNat:Int),.int .u8 (k22.toNat:Int),.int .u8 (k23.toNat:Int),.int .u8 (k24.toNat:Int),.int .u8 (k25.toNat:Int),.int .u8 (k26.toNat:Int),.int .u8 (k27.toNat:Int),.int .u8 (k28.toNat:Int),.int .u8 (k29.toNat:Int),.int .u8 (k30.toNat:Int),.int .u8 (k31.toNat:Int),.string ⟨tr.toArray⟩,.int .i64 st,.int .i64 en])).run Tryz.prog w = .ok true w
 go_simp
theorem Yt (p:Rp) (hk:p.ss.length=32) (w:World):(Op.equalIn 10000 75 (.agg (rpC p).toArray) (.agg (rpC p).toArray)).run Tryz.prog w = .ok true w:=by
 obtain⟨k,c,st,en,no⟩:=p;simp only at hk;have hq:=Sq k hk w;obtain⟨k0,k1,k2,k3,k4,k5,k6,k7,k8,k9,k10,k11,k12,k13,k14,k15,k16,k17,k18,k19,k20,k21,k22,k23,k24,k25,k26,k27,k28,k29,k30,k31,rfl⟩:=Un hk;replace hq:(Op.equalIn 9999 47 (.agg #[.int .u8 (k0.toNat:Int),.int .u8 (k1.toNat:Int),.int .u8 (k2.toNat:Int),.int .u8 (k3.toNat:Int),.int .u8 (k4.toNat:Int),.int .u8 (k5.toNat:Int),.int .u8 (k6.toNat:Int),.int .u8 (k7.toNat:Int),.int .u8 (k8.toNat:Int),.int .u8 (k9.toNat:Int),.int .u8 (k10.toNat:Int),.int .u8 (k11.toNat:Int),.int .u8 (k12.toNat:Int),.int .u8 (k13.toNat:Int),.int .u8 (k14.toNat:Int),.int .u8 (k15.toNat:Int),.int .u8 (k16.toNat:Int),.int .u8 (k17.toNat:Int),.int .u8 (k18.toNat:Int),.int .u8 (k19.toNat:Int),.int .u8 (k20.toNat:Int),.int .u8 (k21.toNat:Int),.int .u8 (k22.toNat:Int),.int .u8 (k23.toNat:Int),.int .u8 (k24.toNat:Int),.int .u8 (k25.toNat:Int),.int .u8 (k26.toNat:Int),.int .u8 (k27.toNat:Int),.int .u8 (k28.toNat:Int),.int .u8 (k29.toNat:Int),.int .u8 (k30.toNat:Int),.int .u8 (k31.toNat:Int)]) (.agg #[.int .u8 (k0.toNat:Int),.int .u8 (k1.toNat:Int),.int .u8 (k2.toNat:Int),.int .u8 (k3.toNat:Int),.int .u8 (k4.toNat:Int),.int .u8 (k5.toNat:Int),.int .u8 (k6.toNat:Int),.int .u8 (k7.toNat:Int),.int .u8 (k8.toNat:Int),.int .u8 (k9.toNat:Int),.int .u8 (k10.toNat:Int),.int .u8 (k11.toNat:Int),.int .u8 (k12.toNat:Int),.int .u8 (k13.toNat:Int),.int .u8 (k14.toNat:Int),.int .u8 (k15.toNat:Int),.int .u8 (k16.toNat:Int),.int .u8 (k17.toNat:Int),.int .u8 (k18.toNat:Int),.int .u8 (k19.toNat:Int),.int .u8 (k20.toNat:Int),.int .u8 (k21.toNat:Int),.int .u8 (k22.toNat:Int),.int .u8 (k23.toNat:Int),.int .u8 (k24.toNat:Int),.int .u8 (k25.toNat:Int),.int .u8 (k26.toNat:Int),.int .u8 (k27.toNat:Int),.int .u8 (k28.toNat:Int),.int .u8 (k29.toNat:Int),.int .u8 (k30.toNat:Int),.int .u8 (k31.toNat:Int)])).run Tryz.prog w = .ok true w:=hq;show(Op.equalIn 10000 75 (.agg #[.int .u8 (k0.toNat:Int),.int .u8 (k1.toNat:Int),.int .u8 (k2.toNat:Int),.int .u8 (k3.toNat:Int),.int .u8 (k4.toNat:Int),.int .u8 (k5.toNat:Int),.int .u8 (k6.toNat:Int),.int .u8 (k7.toNat:Int),.int .u8 (k8.toNat:Int),.int .u8 (k9.toNat:Int),.int .u8 (k10.toNat:Int),.int .u8 (k11.toNat:Int),.int .u8 (k12.toNat:Int),.int .u8 (k13.toNat:Int),.int .u8 (k14.toNat:Int),.int .u8 (k15.toNat:Int),.int .u8 (k16.toNat:Int),.int .u8 (k17.toNat:Int),.int .u8 (k18.toNat:Int),.int .u8 (k19.toNat:Int),.int .u8 (k20.toNat:Int),.int .u8 (k21.toNat:Int),.int .u8 (k22.toNat:Int),.int .u8 (k23.toNat:Int),.int .u8 (k24.toNat:Int),.int .u8 (k25.toNat:Int),.int .u8 (k26.toNat:Int),.int .u8 (k27.toNat:Int),.int .u8 (k28.toNat:Int),.int .u8 (k29.toNat:Int),.int .u8 (k30.toNat:Int),.int .u8 (k31.toNat:Int),.string ⟨c.1.toArray⟩,.string ⟨c.2.toArray⟩,.int .i64 st,.int .i64 en,.int .i64 no]) (.agg #[.int .u8 (k0.toNat:Int),.int .u8 (k1.toNat:Int),.int .u8 (k2.toNat:Int),.int .u8 (k3.toNat:Int),.int .u8 (k4.toNat:Int),.int .u8 (k5.toNat:Int),.int .u8 (k6.toNat:Int),.int .u8 (k7.toNat:Int),.int .u8 (k8.toNat:Int),.int .u8 (k9.toNat:Int),.int .u8 (k10.toNat:Int),.int .u8 (k11.toNat:Int),.int .u8 (k12.toNat:Int),.int .u8 (k13.toNat:Int),.int .u8 (k14.toNat:Int),.int .u8 (k15.toNat:Int),.int .u8 (k16.toNat:Int),.int .u8 (k17.toNat:Int),.int .u8 (k18.toNat:Int),.int .u8 (k19.toNat:Int),.int .u8 (k20.toNat:Int),.int .u8 (k21.toNat:Int),.int .u8 (k22.toNat:Int),.int .u8 (k23.toNat:Int),.int .u8 (k24.toNat:Int),.int .u8 (k25.toNat:Int),.int .u8 (k26.toNat:Int),.int .u8 (k27.toNat:Int),.int .u8 (k28.toNat:Int),.int .u8 (k29.toNat:Int),.int .u8 (k30.toNat:Int),.int .u8 (k31.toNat:Int),.string ⟨c.1.toArray⟩,.string ⟨c.2.toArray⟩,.int .i64 st,.int .i64 en,.int .i64 no])).run Tryz.prog w = .ok true w
 go_simp
end Mc
end
end Go.Proofs.YtfcjeebnkigeaaaGreat
