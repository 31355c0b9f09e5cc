import Derived.Test.YtlfmicidppccnaaGreatZClientFails12
set_option maxHeartbeats 25600000
set_option maxRecDepth 100000
set_option linter.unusedVariables false
set_option linter.unusedSimpArgs false
namespace Go.Proofs.YtlfmicidppccnaaGreat
namespace Mc
open Go.RowKit Ad DerP DerC Ms
theorem Nz {pa qa:Array Value} {x y:As} (h:AsV pa x) (g:AsV qa y) (w:World):(Op.equalIn 10000 66 (.agg pa) (.agg qa)).run Tryz.prog w = .ok (decide (x=y)) w:=by rw[h,g];exact OC x y w
theorem NA {pa qa:Array Value} {x y:Fa} (h:FaV pa x) (g:FaV qa y) (w:World):(Op.equalIn 10000 74 (.agg pa) (.agg qa)).run Tryz.prog w = .ok (decide (x=y)) w:=by rw[h,g];exact OB x y w
theorem Kr {pa qa:Array Value} {x y:Tg} (w:World) (h:TgV w w.heap.size pa x) (g:TgV w w.heap.size qa y):Calls Tryz.prog 206 #[.agg pa,.agg qa] w fun e w'=>e = .returned (.bool (decide (x=y)))∧Below w.heap.size w w':=by
 obtain⟨b,a,rfl,⟨A1,c1,rfl,_,h1⟩,⟨A2,c2,rfl,_,h2⟩⟩:=h;obtain⟨b2,a2,rfl,⟨D1,d1,rfl,_,g1⟩,⟨D2,d2,rfl,_,g2⟩⟩:=g;exact Hl x y A1 A2 D1 D2 c1 c2 d1 d2 w h1 g1 h2 g2
theorem Ks {pa qa:Array Value} {x y:Re} (w:World) (h:ReV w w.heap.size pa x) (g:ReV w w.heap.size qa y):Calls Tryz.prog 207 #[.agg pa,.agg qa] w fun e w'=>e = .returned (.bool (decide (x=y)))∧Below w.heap.size w w':=by
 obtain⟨b,a,rfl,⟨A1,c1,rfl,_,h1⟩,⟨A2,c2,rfl,_,h2⟩⟩:=h;obtain⟨b2,a2,rfl,⟨D1,d1,rfl,_,g1⟩,⟨D2,d2,rfl,_,g2⟩⟩:=g;exact Hm x y A1 A2 D1 D2 c1 c2 d1 d2 w h1 g1 h2 g2
theorem Kt {pa qa:Array Value} {x y:Ap} (w:World) (h:ApV w w.heap.size pa x) (g:ApV w w.heap.size qa y):Calls Tryz.prog 208 #[.agg pa,.agg qa] w fun e w'=>e = .returned (.bool (decide (x=y)))∧Below w.heap.size w w':=by
 obtain⟨b,a,rfl,⟨A1,c1,rfl,_,h1⟩,⟨A2,c2,rfl,_,h2⟩⟩:=h;obtain⟨b2,a2,rfl,⟨D1,d1,rfl,_,g1⟩,⟨D2,d2,rfl,_,g2⟩⟩:=g;exact Hn x y A1 A2 D1 D2 c1 c2 d1 d2 w h1 g1 h2 g2
theorem mg_eq (m o:Mg):decide (m=o)=(decide (m.k=o.k)&&(decide (m.aq=o.aq)&&(decide (m.tg=o.tg)&&(decide (m.re=o.re)&&(decide (m.ap=o.ap)&&decide (m.fa=o.fa)))))):=by
 obtain⟨k,a,t,r,p,f⟩:=m;obtain⟨k2,a2,t2,r2,p2,f2⟩:=o;simp [Bool.decide_and]
theorem Ku (cs ds:Array Value) (m o:Mg) (w:World) (h:MgV w w.heap.size cs m) (g:MgV w w.heap.size ds o):Calls Tryz.prog 173 #[.agg cs,.agg ds] w fun e w'=>e = .returned (.bool (decide (m=o)))∧Below w.heap.size w w':=by
 obtain⟨pa,pt,pr,pp,pf,hc,hp⟩:=h;obtain⟨qa,qt,qr,qp,qf,hd,hq⟩:=g;obtain⟨W,eW⟩:∃W,W=(w.alloc (.cells cs 76)).alloc (.cells ds 76):=⟨_,rfl⟩;have HK:=I (show Blk W w.heap.size 76 (mgA m.k pa pt pr pp pf) by rw[eW,←hc];exact(Blk.new _ _ _).alloc _);have hq1:=Blk.new (w.alloc (.cells cs 76)) 76 ds;rw[show(w.alloc (.cells cs 76)).heap.size=w.heap.size+1 by simp,←eW,hd] at hq1;have HL:=I hq1;clear hq1;have HB:=I (show Below w.heap.size w W by rw[eW];exact(Af.alloc Ae _).alloc (by simp) _);have HP:=I hp;have HQ:=I hq;have HA:=I (hp.at_ HK.o);have HC:=I (hq.at_ HL.o);have k0:=HA.o.k;have k1:=HC.o.k;have Tt:=I (fun w1 (h:Below w.heap.size w w1)=>Kr w1 ((hp.t.keep h).more h.size) ((hq.t.keep h).more h.size));have Tr:=I (fun w1 (h:Below w.heap.size w w1)=>Ks w1 ((hp.r.keep h).more h.size) ((hq.r.keep h).more h.size));have Tp:=I (fun w1 (h:Below w.heap.size w w1)=>Kt w1 ((hp.p.keep h).more h.size) ((hq.p.keep h).more h.size));have EA:=I (fun w1=>Nz hp.a hq.a w1);have EF:=I (fun w1=>NA hp.f hq.f w1);have ME:=I (mg_eq m o);clear hc hd hp hq;cases ek:decide (m.k=o.k) with
 |false=>
  have tk:(m.k==o.k)=false:=by simpa using ek
  have E:=I (show decide (m=o)=false by rw[ME.o,ek];rfl);clear ek;go_enter Tryz.func173,Tryz.ntmps173
  go_upto_region 1 with fail
  rw[←eW];clear eW
  go_wp2
  go_ret;exact⟨by rw[E.o];rfl,HB.o⟩
 |true=>
  have tk:(m.k==o.k)=true:=by simpa using ek
  cases ea:decide (m.aq=o.aq) with
  |false=>
   rw[ea] at EA;have fa:=EA.o;have E:=I (show decide (m=o)=false by rw[ME.o,ek,ea];rfl);clear ek ea;go_enter Tryz.func173,Tryz.ntmps173
   go_upto_region 1 with fail
   rw[←eW];clear eW
   go_wp2_with (first
    |(refine Aq (by rfl) 66 (.tmp 11) (by rfl) w.heap.size 1 (by rfl) pa _ HA.o.a Tryz.underlying66 (by rfl) (by rw[HP.o.a.size];exact Bt) ?_)
    |(refine Aq (by rfl) 66 (.tmp 13) (by rfl) (w.heap.size+1) 1 (by rfl) qa _ HC.o.a Tryz.underlying66 (by rfl) (by rw[HQ.o.a.size];exact Bt) ?_)
    |fail)
   go_ret;exact⟨by rw[E.o];rfl,HB.o⟩
  |true=>
   rw[ea] at EA;have fa:=EA.o;cases et:decide (m.tg=o.tg) with
   |false=>
    rw[et] at Tt;have E:=I (show decide (m=o)=false by rw[ME.o,ek,ea,et];rfl);clear ek ea et;go_enter Tryz.func173,Tryz.ntmps173
    go_upto_region 1 with fail
    rw[←eW];clear eW
    go_wp2_with (first
     |(refine Aq (by rfl) 66 (.tmp 11) (by rfl) w.heap.size 1 (by rfl) pa _ HA.o.a Tryz.underlying66 (by rfl) (by rw[HP.o.a.size];exact Bt) ?_)
     |(refine Aq (by rfl) 66 (.tmp 13) (by rfl) (w.heap.size+1) 1 (by rfl) qa _ HC.o.a Tryz.underlying66 (by rfl) (by rw[HQ.o.a.size];exact Bt) ?_)
     |(refine Aq (by rfl) 68 (.tmp 18) (by rfl) w.heap.size 7 (by rfl) pt _ HA.o.t Tryz.underlying68 (by rfl) (by rw[HP.o.t.size];exact BD) ?_)
     |(refine Aq (by rfl) 68 (.tmp 20) (by rfl) (w.heap.size+1) 7 (by rfl) qt _ HC.o.t Tryz.underlying68 (by rfl) (by rw[HQ.o.t.size];exact BD) ?_)
     |(go_at_call 206;refine Calls.mono (Tt.o _ HB.o) ?_;rintro e wt ⟨rfl,hb⟩;clear HA HC;replace HK:=I (HK.o.below hb);replace HL:=I (HL.o.below hb);replace HB:=HB.t hb;clear hb Tt;have HA:=I (HP.o.at_ HK.o);have HC:=I (HQ.o.at_ HL.o))
     |fail)
    go_ret;exact⟨by rw[E.o];rfl,HB.o⟩
   |true=>
    rw[et] at Tt;cases er:decide (m.re=o.re) with
    |false=>
     rw[er] at Tr;have E:=I (show decide (m=o)=false by rw[ME.o,ek,ea,et,er];rfl);clear ek ea et er;go_enter Tryz.func173,Tryz.ntmps173
     go_upto_region 1 with fail
     rw[←eW];clear eW
     go_wp2_with (first
      |(refine Aq (by rfl) 66 (.tmp 11) (by rfl) w.heap.size 1 (by rfl) pa _ HA.o.a Tryz.underlying66 (by rfl) (by rw[HP.o.a.size];exact Bt) ?_)
      |(refine Aq (by rfl) 66 (.tmp 13) (by rfl) (w.heap.size+1) 1 (by rfl) qa _ HC.o.a Tryz.underlying66 (by rfl) (by rw[HQ.o.a.size];exact Bt) ?_)
      |(refine Aq (by rfl) 68 (.tmp 18) (by rfl) w.heap.size 7 (by rfl) pt _ HA.o.t Tryz.underlying68 (by rfl) (by rw[HP.o.t.size];exact BD) ?_)
      |(refine Aq (by rfl) 68 (.tmp 20) (by rfl) (w.heap.size+1) 7 (by rfl) qt _ HC.o.t Tryz.underlying68 (by rfl) (by rw[HQ.o.t.size];exact BD) ?_)
      |(go_at_call 206;refine Calls.mono (Tt.o _ HB.o) ?_;rintro e wt ⟨rfl,hb⟩;clear HA HC;replace HK:=I (HK.o.below hb);replace HL:=I (HL.o.below hb);replace HB:=HB.t hb;clear hb Tt;have HA:=I (HP.o.at_ HK.o);have HC:=I (HQ.o.at_ HL.o))
      |(refine Aq (by rfl) 70 (.tmp 25) (by rfl) w.heap.size 16 (by rfl) pr _ HA.o.r Tryz.underlying70 (by rfl) (by rw[HP.o.r.size];exact BT) ?_)
      |(refine Aq (by rfl) 70 (.tmp 27) (by rfl) (w.heap.size+1) 16 (by rfl) qr _ HC.o.r Tryz.underlying70 (by rfl) (by rw[HQ.o.r.size];exact BT) ?_)
      |(go_at_call 207;refine Calls.mono (Tr.o _ HB.o) ?_;rintro e wr ⟨rfl,hb⟩;clear HA HC;replace HK:=I (HK.o.below hb);replace HL:=I (HL.o.below hb);replace HB:=HB.t hb;clear hb Tr;have HA:=I (HP.o.at_ HK.o);have HC:=I (HQ.o.at_ HL.o))
      |fail)
     go_ret;exact⟨by rw[E.o];rfl,HB.o⟩
    |true=>
     rw[er] at Tr;cases ep:decide (m.ap=o.ap) with
     |false=>
      rw[ep] at Tp;have E:=I (show decide (m=o)=false by rw[ME.o,ek,ea,et,er,ep];rfl);clear ek ea et er ep;go_enter Tryz.func173,Tryz.ntmps173
      go_upto_region 1 with fail
      rw[←eW];clear eW
      go_wp2_with (first
       |(refine Aq (by rfl) 66 (.tmp 11) (by rfl) w.heap.size 1 (by rfl) pa _ HA.o.a Tryz.underlying66 (by rfl) (by rw[HP.o.a.size];exact Bt) ?_)
       |(refine Aq (by rfl) 66 (.tmp 13) (by rfl) (w.heap.size+1) 1 (by rfl) qa _ HC.o.a Tryz.underlying66 (by rfl) (by rw[HQ.o.a.size];exact Bt) ?_)
       |(refine Aq (by rfl) 68 (.tmp 18) (by rfl) w.heap.size 7 (by rfl) pt _ HA.o.t Tryz.underlying68 (by rfl) (by rw[HP.o.t.size];exact BD) ?_)
       |(refine Aq (by rfl) 68 (.tmp 20) (by rfl) (w.heap.size+1) 7 (by rfl) qt _ HC.o.t Tryz.underlying68 (by rfl) (by rw[HQ.o.t.size];exact BD) ?_)
       |(go_at_call 206;refine Calls.mono (Tt.o _ HB.o) ?_;rintro e wt ⟨rfl,hb⟩;clear HA HC;replace HK:=I (HK.o.below hb);replace HL:=I (HL.o.below hb);replace HB:=HB.t hb;clear hb Tt;have HA:=I (HP.o.at_ HK.o);have HC:=I (HQ.o.at_ HL.o))
       |(refine Aq (by rfl) 70 (.tmp 25) (by rfl) w.heap.size 16 (by rfl) pr _ HA.o.r Tryz.underlying70 (by rfl) (by rw[HP.o.r.size];exact BT) ?_)
       |(refine Aq (by rfl) 70 (.tmp 27) (by rfl) (w.heap.size+1) 16 (by rfl) qr _ HC.o.r Tryz.underlying70 (by rfl) (by rw[HQ.o.r.size];exact BT) ?_)
       |(go_at_call 207;refine Calls.mono (Tr.o _ HB.o) ?_;rintro e wr ⟨rfl,hb⟩;clear HA HC;replace HK:=I (HK.o.below hb);replace HL:=I (HL.o.below hb);replace HB:=HB.t hb;clear hb Tr;have HA:=I (HP.o.at_ HK.o);have HC:=I (HQ.o.at_ HL.o))
       |(refine Aq (by rfl) 72 (.tmp 32) (by rfl) w.heap.size 23 (by rfl) pp _ HA.o.p Tryz.underlying72 (by rfl) (by rw[HP.o.p.size];exact Cg) ?_)
       |(refine Aq (by rfl) 72 (.tmp 34) (by rfl) (w.heap.size+1) 23 (by rfl) qp _ HC.o.p Tryz.underlying72 (by rfl) (by rw[HQ.o.p.size];exact Cg) ?_)
       |(go_at_call 208;refine Calls.mono (Tp.o _ HB.o) ?_;rintro e wp ⟨rfl,hb⟩;clear HA HC;replace HK:=I (HK.o.below hb);replace HL:=I (HL.o.below hb);replace HB:=HB.t hb;clear hb Tp;have HA:=I (HP.o.at_ HK.o);have HC:=I (HQ.o.at_ HL.o))
       |fail)
      go_ret;exact⟨by rw[E.o];rfl,HB.o⟩
     |true=>
      rw[ep] at Tp;cases ef:decide (m.fa=o.fa) with
      |false=>
       rw[ef] at EF;have ff:=EF.o;have E:=I (show decide (m=o)=false by rw[ME.o,ek,ea,et,er,ep,ef];rfl);clear ek ea et er ep ef;go_enter Tryz.func173,Tryz.ntmps173
       go_upto_region 1 with fail
       rw[←eW];clear eW
       go_wp2_with (first
        |(refine Aq (by rfl) 66 (.tmp 11) (by rfl) w.heap.size 1 (by rfl) pa _ HA.o.a Tryz.underlying66 (by rfl) (by rw[HP.o.a.size];exact Bt) ?_)
        |(refine Aq (by rfl) 66 (.tmp 13) (by rfl) (w.heap.size+1) 1 (by rfl) qa _ HC.o.a Tryz.underlying66 (by rfl) (by rw[HQ.o.a.size];exact Bt) ?_)
        |(refine Aq (by rfl) 68 (.tmp 18) (by rfl) w.heap.size 7 (by rfl) pt _ HA.o.t Tryz.underlying68 (by rfl) (by rw[HP.o.t.size];exact BD) ?_)
        |(refine Aq (by rfl) 68 (.tmp 20) (by rfl) (w.heap.size+1) 7 (by rfl) qt _ HC.o.t Tryz.underlying68 (by rfl) (by rw[HQ.o.t.size];exact BD) ?_)
        |(go_at_call 206;refine Calls.mono (Tt.o _ HB.o) ?_;rintro e wt ⟨rfl,hb⟩;clear HA HC;replace HK:=I (HK.o.below hb);replace HL:=I (HL.o.below hb);replace HB:=HB.t hb;clear hb Tt;have HA:=I (HP.o.at_ HK.o);have HC:=I (HQ.o.at_ HL.o))
        |(refine Aq (by rfl) 70 (.tmp 25) (by rfl) w.heap.size 16 (by rfl) pr _ HA.o.r Tryz.underlying70 (by rfl) (by rw[HP.o.r.size];exact BT) ?_)
        |(refine Aq (by rfl) 70 (.tmp 27) (by rfl) (w.heap.size+1) 16 (by rfl) qr _ HC.o.r Tryz.underlying70 (by rfl) (by rw[HQ.o.r.size];exact BT) ?_)
        |(go_at_call 207;refine Calls.mono (Tr.o _ HB.o) ?_;rintro e wr ⟨rfl,hb⟩;clear HA HC;replace HK:=I (HK.o.below hb);replace HL:=I (HL.o.below hb);replace HB:=HB.t hb;clear hb Tr;have HA:=I (HP.o.at_ HK.o);have HC:=I (HQ.o.at_ HL.o))
        |(refine Aq (by rfl) 72 (.tmp 32) (by rfl) w.heap.size 23 (by rfl) pp _ HA.o.p Tryz.underlying72 (by rfl) (by rw[HP.o.p.size];exact Cg) ?_)
        |(refine Aq (by rfl) 72 (.tmp 34) (by rfl) (w.heap.size+1) 23 (by rfl) qp _ HC.o.p Tryz.underlying72 (by rfl) (by rw[HQ.o.p.size];exact Cg) ?_)
        |(go_at_call 208;refine Calls.mono (Tp.o _ HB.o) ?_;rintro e wp ⟨rfl,hb⟩;clear HA HC;replace HK:=I (HK.o.below hb);replace HL:=I (HL.o.below hb);replace HB:=HB.t hb;clear hb Tp;have HA:=I (HP.o.at_ HK.o);have HC:=I (HQ.o.at_ HL.o))
        |(refine Aq (by rfl) 74 (.tmp 39) (by rfl) w.heap.size 28 (by rfl) pf _ HA.o.f Tryz.underlying74 (by rfl) (by rw[HP.o.f.size];exact Dk) ?_)
        |(refine Aq (by rfl) 74 (.tmp 41) (by rfl) (w.heap.size+1) 28 (by rfl) qf _ HC.o.f Tryz.underlying74 (by rfl) (by rw[HQ.o.f.size];exact Dk) ?_)
        |fail)
       go_ret;exact⟨by rw[E.o];rfl,HB.o⟩
      |true=>
       rw[ef] at EF;have ff:=EF.o;have E:=I (show decide (m=o)=true by rw[ME.o,ek,ea,et,er,ep,ef];rfl);clear ek ea et er ep ef;go_enter Tryz.func173,Tryz.ntmps173
       go_upto_region 1 with fail
       rw[←eW];clear eW
       go_wp2_with (first
        |(refine Aq (by rfl) 66 (.tmp 11) (by rfl) w.heap.size 1 (by rfl) pa _ HA.o.a Tryz.underlying66 (by rfl) (by rw[HP.o.a.size];exact Bt) ?_)
        |(refine Aq (by rfl) 66 (.tmp 13) (by rfl) (w.heap.size+1) 1 (by rfl) qa _ HC.o.a Tryz.underlying66 (by rfl) (by rw[HQ.o.a.size];exact Bt) ?_)
        |(refine Aq (by rfl) 68 (.tmp 18) (by rfl) w.heap.size 7 (by rfl) pt _ HA.o.t Tryz.underlying68 (by rfl) (by rw[HP.o.t.size];exact BD) ?_)
        |(refine Aq (by rfl) 68 (.tmp 20) (by rfl) (w.heap.size+1) 7 (by rfl) qt _ HC.o.t Tryz.underlying68 (by rfl) (by rw[HQ.o.t.size];exact BD) ?_)
        |(go_at_call 206;refine Calls.mono (Tt.o _ HB.o) ?_;rintro e wt ⟨rfl,hb⟩;clear HA HC;replace HK:=I (HK.o.below hb);replace HL:=I (HL.o.below hb);replace HB:=HB.t hb;clear hb Tt;have HA:=I (HP.o.at_ HK.o);have HC:=I (HQ.o.at_ HL.o))
        |(refine Aq (by rfl) 70 (.tmp 25) (by rfl) w.heap.size 16 (by rfl) pr _ HA.o.r Tryz.underlying70 (by rfl) (by rw[HP.o.r.size];exact BT) ?_)
        |(refine Aq (by rfl) 70 (.tmp 27) (by rfl) (w.heap.size+1) 16 (by rfl) qr _ HC.o.r Tryz.underlying70 (by rfl) (by rw[HQ.o.r.size];exact BT) ?_)
        |(go_at_call 207;refine Calls.mono (Tr.o _ HB.o) ?_;rintro e wr ⟨rfl,hb⟩;clear HA HC;replace HK:=I (HK.o.below hb);replace HL:=I (HL.o.below hb);replace HB:=HB.t hb;clear hb Tr;have HA:=I (HP.o.at_ HK.o);have HC:=I (HQ.o.at_ HL.o))
        |(refine Aq (by rfl) 72 (.tmp 32) (by rfl) w.heap.size 23 (by rfl) pp _ HA.o.p Tryz.underlying72 (by rfl) (by rw[HP.o.p.size];exact Cg) ?_)
        |(refine Aq (by rfl) 72 (.tmp 34) (by rfl) (w.heap.size+1) 23 (by rfl) qp _ HC.o.p Tryz.underlying72 (by rfl) (by rw[HQ.o.p.size];exact Cg) ?_)
        |(go_at_call 208;refine Calls.mono (Tp.o _ HB.o) ?_;rintro e wp ⟨rfl,hb⟩;clear HA HC;replace HK:=I (HK.o.below hb);replace HL:=I (HL.o.below hb);replace HB:=HB.t hb;clear hb Tp;have HA:=I (HP.o.at_ HK.o);have HC:=I (HQ.o.at_ HL.o))
        |(refine Aq (by rfl) 74 (.tmp 39) (by rfl) w.heap.size 28 (by rfl) pf _ HA.o.f Tryz.underlying74 (by rfl) (by rw[HP.o.f.size];exact Dk) ?_)
        |(refine Aq (by rfl) 74 (.tmp 41) (by rfl) (w.heap.size+1) 28 (by rfl) qf _ HC.o.f Tryz.underlying74 (by rfl) (by rw[HQ.o.f.size];exact Dk) ?_)
        |fail)
       go_ret;exact⟨by rw[E.o];rfl,HB.o⟩
open DerR
theorem OD {pa:Array Value} {x:As} (w:World) (h:AsV pa x) (s:pSm x.c∧pSm x.s):Calls Tryz.prog 175 #[.agg pa] w fun e w'=>e = .returned (.bool (asB x))∧Below w.heap.size w w':=by rw[h];exact LB x w s.1 s.2
theorem OE {pa:Array Value} {x:Tg} {w0:World} {B:Nat} (w:World) (h:TgV w0 B pa x) (s:pSm x.t.s∧pSm x.s):Calls Tryz.prog 176 #[.agg pa] w fun e w'=>e = .returned (.bool (tgB x))∧Below w.heap.size w w':=by
 obtain⟨b,a,rfl,⟨A1,c1,rfl,_,h1⟩,⟨A2,c2,rfl,_,h2⟩⟩:=h;exact Kp x A1 A2 c1 c2 w s.1 s.2
theorem OF {pa:Array Value} {x:Re} {w0:World} {B:Nat} (w:World) (h:ReV w0 B pa x) (s:pSm x.c∧pSm x.t.s):Calls Tryz.prog 177 #[.agg pa] w fun e w'=>e = .returned (.bool (reB x))∧Below w.heap.size w w':=by
 obtain⟨b,a,rfl,⟨A1,c1,rfl,_,h1⟩,⟨A2,c2,rfl,_,h2⟩⟩:=h;exact LC x A1 A2 c1 c2 w s.2 s.1
theorem OG {pa:Array Value} {x:Ap} {w0:World} {B:Nat} (w:World) (h:ApV w0 B pa x) (s:pSm x.t.s):Calls Tryz.prog 178 #[.agg pa] w fun e w'=>e = .returned (.bool (apB x))∧Below w.heap.size w w':=by
 obtain⟨b,a,rfl,⟨A1,c1,rfl,_,h1⟩,⟨A2,c2,rfl,_,h2⟩⟩:=h;exact LD x A1 A2 c1 c2 w s
theorem OH {pa:Array Value} {x:Fa} (w:World) (h:FaV pa x):Calls Tryz.prog 179 #[.agg pa] w fun e w'=>e = .returned (.bool (faB x))∧Below w.heap.size w w':=by rw[h];exact LF x w
theorem NB {pa:Array Value} {x:As} (w:World) (h:AsV pa x) (s:asB x=true):Calls Tryz.prog 180 #[.agg pa] w (Bq w (asE x)):=by rw[h];exact Kk x w s
theorem ND {pa:Array Value} {x:Tg} (w:World) (h:TgV w w.heap.size pa x) (s:tgB x=true):Calls Tryz.prog 181 #[.agg pa] w (Bq w (tgE x)):=by
 obtain⟨b,a,rfl,⟨A1,c1,rfl,_,h1⟩,⟨A2,c2,rfl,_,h2⟩⟩:=h;exact Kl x A1 A2 c1 c2 w s h1 h2
theorem NF {pa:Array Value} {x:Re} (w:World) (h:ReV w w.heap.size pa x) (s:reB x=true):Calls Tryz.prog 182 #[.agg pa] w (Bq w (reE x)):=by
 obtain⟨b,a,rfl,⟨A1,c1,rfl,_,h1⟩,⟨A2,c2,rfl,_,h2⟩⟩:=h;exact Km x A1 A2 c1 c2 w s h1 h2
theorem NH {pa:Array Value} {x:Ap} (w:World) (h:ApV w w.heap.size pa x) (s:apB x=true):Calls Tryz.prog 183 #[.agg pa] w (Bq w (apE x)):=by
 obtain⟨b,a,rfl,⟨A1,c1,rfl,_,h1⟩,⟨A2,c2,rfl,_,h2⟩⟩:=h;exact Kn x A1 A2 c1 c2 w s h1 h2
theorem NI {pa:Array Value} {x:Fa} (w:World) (h:FaV pa x):Calls Tryz.prog 184 #[.agg pa] w (Bq w (faE x)):=by rw[h];exact Ko x w
def kdB (m:Mg):Bool:=if m.k=1 then asB m.aq else if m.k=2 then tgB m.tg else if m.k=3 then reB m.re else if m.k=4 then apB m.ap else if m.k=5 then faB m.fa else false
theorem OI (m:Mg):mgB m=(decide (m=nm m)&&kdB m):=by
 unfold mgB kdB nm
 by_cases h1:m.k=1
 ·simp only[if_pos h1];rw[Bool.and_comm]
 ·simp only[if_neg h1]
  by_cases h2:m.k=2
  ·simp only[if_pos h2];rw[Bool.and_comm]
  ·simp only[if_neg h2]
   by_cases h3:m.k=3
   ·simp only[if_pos h3];rw[Bool.and_comm]
   ·simp only[if_neg h3]
    by_cases h4:m.k=4
    ·simp only[if_pos h4];rw[Bool.and_comm]
    ·simp only[if_neg h4]
     by_cases h5:m.k=5
     ·simp only[if_pos h5];rw[Bool.and_comm]
     ·simp only[if_neg h5];rw[Bool.and_false]
section
variable {P:Program} {w:World} {o:Oper} {a:Act}
theorem Cb {w':World} {g:Nat} {t ty:TypeId} {cs:Array Value} {d:TypeDesc} (x:Operand) (ho:o.op = .load ty x) (hx:a.eval x = .pointer (some ⟨g,0,none⟩)) (h:Blk w' g t cs) (hu:P.underlying ty=some d) (hd:d.isRow=true) (hi:(P.info? ty).map (·.size)=some cs.size) :
  (execOp a.eval o).run P w' = .ok (.value (.agg cs)) w':=by
 unfold execOp;simp only[ho,hx,Instr.loadAt,Instr.sureAddr,Sem.run_bind,Sem.run_pure,Result.andThen_ok,Al h hu hd hi]
end
theorem Kv (cs:Array Value) (m:Mg) (w:World) (h:MgV w w.heap.size cs m) (hs:mSm m):Calls Tryz.prog 139 #[.agg cs] w fun e w'=>e = .returned (.bool (mgB m))∧Below w.heap.size w w':=by
 have hV:=h;obtain⟨pa,pt,pr,pp,pf,hc,hp⟩:=h;have hcs:cs.size=30:=by rw[hc];exact hp.size m.k
 have HI:=I (show(Tryz.prog.info? 76).map (·.size)=some cs.size by rw[hcs];exact AA);obtain⟨W,eW⟩:∃W,W=w.alloc (.cells cs 76):=⟨_,rfl⟩;have HK:=I (show Blk W w.heap.size 76 cs by rw[eW];exact Blk.new _ _ _);have HB:=I (show Below w.heap.size w W by rw[eW];exact Af.alloc Ae _);have EC:=I hc;have HP:=I hp;have TN:=I (fun w1 (h:Below w.heap.size w w1)=>Kq cs m w1 ((hV.keep h).more h.size));have TE:=I (fun w1 ds (h:Below w.heap.size w w1) (g:MgV w1 w1.heap.size ds (nm m))=>Ku cs ds m (nm m) w1 ((hV.keep h).more h.size) g);have T1:=I (fun w1=>OD w1 hp.a hs.1);have T2:=I (fun w1=>OE w1 hp.t hs.2.1);have T3:=I (fun w1=>OF w1 hp.r hs.2.2.1);have T4:=I (fun w1=>OG w1 hp.p hs.2.2.2);have T5:=I (fun w1=>OH w1 hp.f);have MB:=I (OI m);clear hc hp hV hcs hs;cases en:decide (m=nm m) with
 |false=>
  rw[en] at TE;have E:=I (show mgB m=false by rw[MB.o,en];rfl);clear en;go_enter Tryz.func139,Tryz.ntmps139
  go_upto_region 1 with fail
  rw[←eW];clear eW;replace HK:=I (show Blk W.drew _ _ _ from HK.o.drewN 1);replace HB:=I (show Below _ _ W.drew from below_drewN HB.o 1);refine Reg.AF 5 rfl (by kernel_rfl) ?_;refine Reg.Ab 0 (v:=.agg cs) rfl (by kernel_rfl) (by kernel_rfl) (by kernel_rfl) (fun _ _ _ h=>h) (by rfl) (fun w' hS=>Cb (.tmp 1) rfl rfl (HK.o.below hS) Tryz.underlying76 rfl HI.o) ?_;simp only[Act.put,J,U,Aa];refine Reg.Ab 1 (v:=.agg cs) rfl (by kernel_rfl) (by kernel_rfl) (by kernel_rfl) (fun _ _ _ h=>h) (by rfl) (fun w' hS=>Cb (.tmp 1) rfl rfl (HK.o.below hS) Tryz.underlying76 rfl HI.o) ?_;simp only[Act.put,J,U,Aa];refine Reg.Bj 2 rfl (by kernel_rfl) (by rfl) 174 #[.agg cs] (by go_simp) ?_;refine Calls.mono (TN.o _ HB.o) ?_;rintro e w1 ⟨ds,rfl,hds,hb⟩;refine⟨_,rfl,hb,?_⟩;replace HK:=I (HK.o.below hb);replace HB:=HB.t hb;have HD:=I hds;clear hb hds TN;simp only[Act.put,J,U,Aa];refine Reg.Bj 3 rfl (by kernel_rfl) (by rfl) 173 #[.agg cs,.agg ds] (by go_simp) ?_;refine Calls.mono (TE.o _ ds HB.o HD.o) ?_;rintro e w2 ⟨rfl,hb⟩;refine⟨_,rfl,hb,?_⟩;replace HK:=I (HK.o.below hb);replace HB:=HB.t hb;clear hb TE HD;simp only[Act.put,J,U,Aa];refine Reg.Ab 4 (v:=.bool true) rfl (by kernel_rfl) (by kernel_rfl) (by kernel_rfl) (fun _ _ _ h=>h) (by rfl) (fun w' hS=>by go_simp) ?_;simp only[Act.put,J,U,Aa];refine wpAnyH_done (by kernel_rfl) ?_ _
  go_wp2
  go_ret;exact⟨by rw[E.o];rfl,HB.o⟩
 |true=>
  rw[en] at TE;have MK:=I (show mgB m=kdB m by rw[MB.o,en];rfl);clear en;go_enter Tryz.func139,Tryz.ntmps139
  go_upto_region 1 with fail
  rw[←eW];clear eW;replace HK:=I (show Blk W.drew _ _ _ from HK.o.drewN 1);replace HB:=I (show Below _ _ W.drew from below_drewN HB.o 1);refine Reg.AF 5 rfl (by kernel_rfl) ?_;refine Reg.Ab 0 (v:=.agg cs) rfl (by kernel_rfl) (by kernel_rfl) (by kernel_rfl) (fun _ _ _ h=>h) (by rfl) (fun w' hS=>Cb (.tmp 1) rfl rfl (HK.o.below hS) Tryz.underlying76 rfl HI.o) ?_;simp only[Act.put,J,U,Aa];refine Reg.Ab 1 (v:=.agg cs) rfl (by kernel_rfl) (by kernel_rfl) (by kernel_rfl) (fun _ _ _ h=>h) (by rfl) (fun w' hS=>Cb (.tmp 1) rfl rfl (HK.o.below hS) Tryz.underlying76 rfl HI.o) ?_;simp only[Act.put,J,U,Aa];refine Reg.Bj 2 rfl (by kernel_rfl) (by rfl) 174 #[.agg cs] (by go_simp) ?_;refine Calls.mono (TN.o _ HB.o) ?_;rintro e w1 ⟨ds,rfl,hds,hb⟩;refine⟨_,rfl,hb,?_⟩;replace HK:=I (HK.o.below hb);replace HB:=HB.t hb;have HD:=I hds;clear hb hds TN;simp only[Act.put,J,U,Aa];refine Reg.Bj 3 rfl (by kernel_rfl) (by rfl) 173 #[.agg cs,.agg ds] (by go_simp) ?_;refine Calls.mono (TE.o _ ds HB.o HD.o) ?_;rintro e w2 ⟨rfl,hb⟩;refine⟨_,rfl,hb,?_⟩;replace HK:=I (HK.o.below hb);replace HB:=HB.t hb;clear hb TE HD;simp only[Act.put,J,U,Aa];refine Reg.Ab 4 (v:=.bool false) rfl (by kernel_rfl) (by kernel_rfl) (by kernel_rfl) (fun _ _ _ h=>h) (by rfl) (fun w' hS=>by go_simp) ?_;simp only[Act.put,J,U,Aa];refine wpAnyH_done (by kernel_rfl) ?_ _;replace HK:=I (EC.o▸HK.o);have HA:=I (HP.o.at_ HK.o);have k0:=HA.o.k
  by_cases m1:m.k=1
  ·have y1:(m.k==1)=true:=by simpa using m1
   have y2:(m.k==2)=false:=by simp;omega
   have y3:(m.k==3)=false:=by simp;omega
   have y4:(m.k==4)=false:=by simp;omega
   have y5:(m.k==5)=false:=by simp;omega
   have E:=I (show mgB m=asB m.aq by rw[MK.o,kdB,if_pos m1]);clear m1
   go_wp2_with (first
    |(refine Aq (by rfl) 66 (.tmp 12) (by rfl) w.heap.size 1 (by rfl) pa _ HA.o.a Tryz.underlying66 (by rfl) (by rw[HP.o.a.size];exact Bt) ?_)
    |(go_at_call 175;refine Calls.mono (T1.o _) ?_;rintro e w3 ⟨rfl,hb⟩;replace HB:=HB.t hb;clear hb T1)
    |fail)
   go_ret;exact⟨by rw[E.o];rfl,HB.o⟩
  ·have nm1:=m1
   by_cases m2:m.k=2
   ·have y1:(m.k==1)=false:=by simp;omega
    have y2:(m.k==2)=true:=by simpa using m2
    have y3:(m.k==3)=false:=by simp;omega
    have y4:(m.k==4)=false:=by simp;omega
    have y5:(m.k==5)=false:=by simp;omega
    have E:=I (show mgB m=tgB m.tg by rw[MK.o,kdB,if_neg m1,if_pos m2]);clear m1 m2
    go_wp2_with (first
     |(refine Aq (by rfl) 68 (.tmp 17) (by rfl) w.heap.size 7 (by rfl) pt _ HA.o.t Tryz.underlying68 (by rfl) (by rw[HP.o.t.size];exact BD) ?_)
     |(go_at_call 176;refine Calls.mono (T2.o _) ?_;rintro e w3 ⟨rfl,hb⟩;replace HB:=HB.t hb;clear hb T2)
     |fail)
    go_ret;exact⟨by rw[E.o];rfl,HB.o⟩
   ·have nm2:=m2
    by_cases m3:m.k=3
    ·have y1:(m.k==1)=false:=by simp;omega
     have y2:(m.k==2)=false:=by simp;omega
     have y3:(m.k==3)=true:=by simpa using m3
     have y4:(m.k==4)=false:=by simp;omega
     have y5:(m.k==5)=false:=by simp;omega
     have E:=I (show mgB m=reB m.re by rw[MK.o,kdB,if_neg m1,if_neg m2,if_pos m3]);clear m1 m2 m3
     go_wp2_with (first
      |(refine Aq (by rfl) 70 (.tmp 22) (by rfl) w.heap.size 16 (by rfl) pr _ HA.o.r Tryz.underlying70 (by rfl) (by rw[HP.o.r.size];exact BT) ?_)
      |(go_at_call 177;refine Calls.mono (T3.o _) ?_;rintro e w3 ⟨rfl,hb⟩;replace HB:=HB.t hb;clear hb T3)
      |fail)
     go_ret;exact⟨by rw[E.o];rfl,HB.o⟩
    ·have nm3:=m3
     by_cases m4:m.k=4
     ·have y1:(m.k==1)=false:=by simp;omega
      have y2:(m.k==2)=false:=by simp;omega
      have y3:(m.k==3)=false:=by simp;omega
      have y4:(m.k==4)=true:=by simpa using m4
      have y5:(m.k==5)=false:=by simp;omega
      have E:=I (show mgB m=apB m.ap by rw[MK.o,kdB,if_neg m1,if_neg m2,if_neg m3,if_pos m4]);clear m1 m2 m3 m4
      go_wp2_with (first
       |(refine Aq (by rfl) 72 (.tmp 27) (by rfl) w.heap.size 23 (by rfl) pp _ HA.o.p Tryz.underlying72 (by rfl) (by rw[HP.o.p.size];exact Cg) ?_)
       |(go_at_call 178;refine Calls.mono (T4.o _) ?_;rintro e w3 ⟨rfl,hb⟩;replace HB:=HB.t hb;clear hb T4)
       |fail)
      go_ret;exact⟨by rw[E.o];rfl,HB.o⟩
     ·have nm4:=m4
      by_cases m5:m.k=5
      ·have y1:(m.k==1)=false:=by simp;omega
       have y2:(m.k==2)=false:=by simp;omega
       have y3:(m.k==3)=false:=by simp;omega
       have y4:(m.k==4)=false:=by simp;omega
       have y5:(m.k==5)=true:=by simpa using m5
       have E:=I (show mgB m=faB m.fa by rw[MK.o,kdB,if_neg m1,if_neg m2,if_neg m3,if_neg m4,if_pos m5]);clear m1 m2 m3 m4 m5
       go_wp2_with (first
        |(refine Aq (by rfl) 74 (.tmp 32) (by rfl) w.heap.size 28 (by rfl) pf _ HA.o.f Tryz.underlying74 (by rfl) (by rw[HP.o.f.size];exact Dk) ?_)
        |(go_at_call 179;refine Calls.mono (T5.o _) ?_;rintro e w3 ⟨rfl,hb⟩;replace HB:=HB.t hb;clear hb T5)
        |fail)
       go_ret;exact⟨by rw[E.o];rfl,HB.o⟩
      ·have nm5:=m5
       have y1:(m.k==1)=false:=by simp;omega
       have y2:(m.k==2)=false:=by simp;omega
       have y3:(m.k==3)=false:=by simp;omega
       have y4:(m.k==4)=false:=by simp;omega
       have y5:(m.k==5)=false:=by simp;omega
       have E:=I (show mgB m=false by rw[MK.o,kdB,if_neg m1,if_neg m2,if_neg m3,if_neg m4,if_neg m5]);clear m1 m2 m3 m4 m5
       go_wp2
       go_ret;exact⟨by rw[E.o];rfl,HB.o⟩
theorem Jl (cs:Array Value) (m:Mg) (w:World) (h:MgV w w.heap.size cs m) (hx:mgB m=true):Calls Tryz.prog 141 #[.agg cs] w (Bq w (mgE m)):=by
 obtain⟨pa,pt,pr,pp,pf,hc,hp⟩:=h;obtain⟨W,eW⟩:∃W,W=w.alloc (.cells cs 76):=⟨_,rfl⟩;have HK:=I (show Blk W w.heap.size 76 (mgA m.k pa pt pr pp pf) by rw[eW,←hc];exact Blk.new _ _ _);have HB:=I (show Below w.heap.size w W by rw[eW];exact Af.alloc Ae _);have HA:=I (hp.at_ HK.o);have k0:=HA.o.k;have HP:=I hp;clear hc;rcases DN hx with⟨h1,e⟩ | ⟨h1,e⟩ | ⟨h1,e⟩ | ⟨h1,e⟩ | ⟨h1,e⟩
 ·have hk:m.k=1:=by rw[e]
  have y1:(m.k==1)=true:=by rw[hk];rfl
  have y2:(m.k==2)=false:=by rw[hk];rfl
  have y3:(m.k==3)=false:=by rw[hk];rfl
  have y4:(m.k==4)=false:=by rw[hk];rfl
  have y5:(m.k==5)=false:=by rw[hk];rfl
  have E:=I (show mgE m=asE m.aq by rw[e];rfl);have T1:=I (fun w1 (h:Below w.heap.size w w1)=>NB w1 hp.a h1);rw[E.o];clear hx h1 e hk hp E;go_enter Tryz.func141,Tryz.ntmps141
  go_upto_region 1 with fail
  rw[←eW];clear eW
  go_wp2_with (first
   |(refine Aq (by rfl) 66 (.tmp 7) (by rfl) w.heap.size 1 (by rfl) pa _ HA.o.a Tryz.underlying66 (by rfl) (by rw[HP.o.a.size];exact Bt) ?_)
   |(go_at_call 180;refine Calls.mono (T1.o _ HB.o) ?_;rintro e w3 ⟨⟨g,c,rfl,h2,h3,h4⟩,hb⟩;have HG:=I (AN (l:=asE m.aq) ⟨⟨g,c,rfl,h2,h3,h4⟩,hb⟩ HB.o);clear h2 h3 h4 hb T1)
   |fail)
  go_ret;exact HG.o
 ·have hk:m.k=2:=by rw[e]
  have y1:(m.k==1)=false:=by rw[hk];rfl
  have y2:(m.k==2)=true:=by rw[hk];rfl
  have y3:(m.k==3)=false:=by rw[hk];rfl
  have y4:(m.k==4)=false:=by rw[hk];rfl
  have y5:(m.k==5)=false:=by rw[hk];rfl
  have E:=I (show mgE m=tgE m.tg by rw[e];rfl);have T1:=I (fun w1 (h:Below w.heap.size w w1)=>ND w1 ((hp.t.keep h).more h.size) h1);rw[E.o];clear hx h1 e hk hp E;go_enter Tryz.func141,Tryz.ntmps141
  go_upto_region 1 with fail
  rw[←eW];clear eW
  go_wp2_with (first
   |(refine Aq (by rfl) 68 (.tmp 12) (by rfl) w.heap.size 7 (by rfl) pt _ HA.o.t Tryz.underlying68 (by rfl) (by rw[HP.o.t.size];exact BD) ?_)
   |(go_at_call 181;refine Calls.mono (T1.o _ HB.o) ?_;rintro e w3 ⟨⟨g,c,rfl,h2,h3,h4⟩,hb⟩;have HG:=I (AN (l:=tgE m.tg) ⟨⟨g,c,rfl,h2,h3,h4⟩,hb⟩ HB.o);clear h2 h3 h4 hb T1)
   |fail)
  go_ret;exact HG.o
 ·have hk:m.k=3:=by rw[e]
  have y1:(m.k==1)=false:=by rw[hk];rfl
  have y2:(m.k==2)=false:=by rw[hk];rfl
  have y3:(m.k==3)=true:=by rw[hk];rfl
  have y4:(m.k==4)=false:=by rw[hk];rfl
  have y5:(m.k==5)=false:=by rw[hk];rfl
  have E:=I (show mgE m=reE m.re by rw[e];rfl);have T1:=I (fun w1 (h:Below w.heap.size w w1)=>NF w1 ((hp.r.keep h).more h.size) h1);rw[E.o];clear hx h1 e hk hp E;go_enter Tryz.func141,Tryz.ntmps141
  go_upto_region 1 with fail
  rw[←eW];clear eW
  go_wp2_with (first
   |(refine Aq (by rfl) 70 (.tmp 17) (by rfl) w.heap.size 16 (by rfl) pr _ HA.o.r Tryz.underlying70 (by rfl) (by rw[HP.o.r.size];exact BT) ?_)
   |(go_at_call 182;refine Calls.mono (T1.o _ HB.o) ?_;rintro e w3 ⟨⟨g,c,rfl,h2,h3,h4⟩,hb⟩;have HG:=I (AN (l:=reE m.re) ⟨⟨g,c,rfl,h2,h3,h4⟩,hb⟩ HB.o);clear h2 h3 h4 hb T1)
   |fail)
  go_ret;exact HG.o
 ·have hk:m.k=4:=by rw[e]
  have y1:(m.k==1)=false:=by rw[hk];rfl
  have y2:(m.k==2)=false:=by rw[hk];rfl
  have y3:(m.k==3)=false:=by rw[hk];rfl
  have y4:(m.k==4)=true:=by rw[hk];rfl
  have y5:(m.k==5)=false:=by rw[hk];rfl
  have E:=I (show mgE m=apE m.ap by rw[e];rfl);have T1:=I (fun w1 (h:Below w.heap.size w w1)=>NH w1 ((hp.p.keep h).more h.size) h1);rw[E.o];clear hx h1 e hk hp E;go_enter Tryz.func141,Tryz.ntmps141
  go_upto_region 1 with fail
  rw[←eW];clear eW
  go_wp2_with (first
   |(refine Aq (by rfl) 72 (.tmp 22) (by rfl) w.heap.size 23 (by rfl) pp _ HA.o.p Tryz.underlying72 (by rfl) (by rw[HP.o.p.size];exact Cg) ?_)
   |(go_at_call 183;refine Calls.mono (T1.o _ HB.o) ?_;rintro e w3 ⟨⟨g,c,rfl,h2,h3,h4⟩,hb⟩;have HG:=I (AN (l:=apE m.ap) ⟨⟨g,c,rfl,h2,h3,h4⟩,hb⟩ HB.o);clear h2 h3 h4 hb T1)
   |fail)
  go_ret;exact HG.o
 ·have hk:m.k=5:=by rw[e]
  have y1:(m.k==1)=false:=by rw[hk];rfl
  have y2:(m.k==2)=false:=by rw[hk];rfl
  have y3:(m.k==3)=false:=by rw[hk];rfl
  have y4:(m.k==4)=false:=by rw[hk];rfl
  have y5:(m.k==5)=true:=by rw[hk];rfl
  have E:=I (show mgE m=faE m.fa by rw[e];rfl);have T1:=I (fun w1 (h:Below w.heap.size w w1)=>NI w1 hp.f);rw[E.o];clear hx h1 e hk hp E;go_enter Tryz.func141,Tryz.ntmps141
  go_upto_region 1 with fail
  rw[←eW];clear eW
  go_wp2_with (first
   |(refine Aq (by rfl) 74 (.tmp 25) (by rfl) w.heap.size 28 (by rfl) pf _ HA.o.f Tryz.underlying74 (by rfl) (by rw[HP.o.f.size];exact Dk) ?_)
   |(go_at_call 184;refine Calls.mono (T1.o _ HB.o) ?_;rintro e w3 ⟨⟨g,c,rfl,h2,h3,h4⟩,hb⟩;have HG:=I (AN (l:=faE m.fa) ⟨⟨g,c,rfl,h2,h3,h4⟩,hb⟩ HB.o);clear h2 h3 h4 hb T1)
   |fail)
  go_ret;exact HG.o
theorem OJ {m:Mg} (hx:mgB m=true):(mgE m).length≤2000:=by
 rcases DN hx with⟨h1,e⟩ | ⟨h1,e⟩ | ⟨h1,e⟩ | ⟨h1,e⟩ | ⟨h1,e⟩
 ·have hE:mgE m=asE m.aq:=by rw[e];rfl
  have hp:prB m.aq.c=true∧prB m.aq.s=true∧tmB m.aq.t=true∧tmB m.aq.no=true:=by simpa [asB] using h1
  have b1:=(AS hp.1).1;have b2:=(AS hp.2.1).1;have b3:=Ay m.aq.t;have b4:=Ay m.aq.no;have:=An 106 [prE m.aq.c,prE m.aq.s,encI m.aq.t,encI m.aq.no].flatten;rw[hE,asE];rw[Ft] at this⊢;simp only[List.length_append] at this;omega
 ·have hE:mgE m=tgE m.tg:=by rw[e];rfl
  have hp:tkB m.tg.t=true∧Bd m.tg.a=true∧prB m.tg.s=true∧tmB m.tg.u=true∧tmB m.tg.no=true:=by simpa [tgB] using h1
  have b1:=(Bi hp.1).1;have b2:=An 4 m.tg.a;have b3:=(AS hp.2.2.1).1;have b4:=Ay m.tg.u;have b5:=Ay m.tg.no;have b6:=AM hp.2.1;have:=An 108 [tkE m.tg.t,elem 4 m.tg.a,prE m.tg.s,encI m.tg.u,encI m.tg.no].flatten;rw[hE,tgE];rw[Fu] at this⊢;simp only[List.length_append] at this;omega
 ·have hE:mgE m=reE m.re:=by rw[e];rfl
  have hp:prB m.re.c=true∧tkB m.re.t=true∧Bd m.re.b=true:=by simpa [reB] using h1
  have b1:=(AS hp.1).1;have b2:=(Bi hp.2.1).1;have b3:=An 4 m.re.b;have b6:=AM hp.2.2;have:=An 107 [prE m.re.c,tkE m.re.t,elem 4 m.re.b].flatten;rw[hE,reE];rw[CJ] at this⊢;simp only[List.length_append] at this;omega
 ·have hE:mgE m=apE m.ap:=by rw[e];rfl
  have hp:tkB m.ap.t=true∧Bd m.ap.a=true:=by simpa [apB] using h1
  have b2:=(Bi hp.1).1;have b3:=An 4 m.ap.a;have b6:=AM hp.2;have:=An 110 [tkE m.ap.t,elem 4 m.ap.a].flatten;rw[hE,apE];rw[BA] at this⊢;simp only[List.length_append] at this;omega
 ·have hE:mgE m=faE m.fa:=by rw[e];rfl
  have b2:=Ay m.fa.e;have b3:=Ay m.fa.no;have:=An 126 [encI m.fa.e,encI m.fa.no].flatten;rw[hE,faE];rw[BA] at this⊢;simp only[List.length_append] at this;omega
theorem Kw (cs0:Array Value) (m:Mg) (w:World) (h:MgV w w.heap.size cs0 m) (hs:mSm m):Calls Tryz.prog 94 #[.agg cs0] w (EncR w (mgO m)):=by
 have HI:=I (show(Tryz.prog.info? 76).map (·.size)=some cs0.size by obtain⟨pa,pt,pr,pp,pf,hc,hp⟩:=h;rw[hc,hp.size];exact AA);have I1:=I (fun w1 (h1:Below w.heap.size w w1)=>Kv cs0 m w1 ((h.keep h1).more h1.size) hs);have T0:=I (fun(hx:mgB m=true)=>fun w1 (h1:Below w.heap.size w w1)=>Jl cs0 m w1 ((h.keep h1).more h1.size) hx);have HLEN:=I (fun(hx:mgB m=true)=>OJ hx);obtain⟨cs,ecs⟩:∃cs:Array Value,cs=cs0:=⟨_,rfl⟩;rw[←ecs] at HI I1 T0⊢;clear ecs;have HB:=I ((Below.refl w.heap.size w).alloc Ae (.cells cs 76));have HK:=I (Blk.new w 76 cs);cases hx:mgB m with
 |false=>
  rw[hx] at I1;have E:=I (show mgO m=none by unfold mgO limO;rw[hx];rfl);rw[E.o];clear hx E T0 HLEN hs h;go_enter Tryz.func94,Tryz.ntmps94
  go_wp2_with (first
   |(refine Ak (by rfl) 76 (.tmp 1) (by rfl) w.heap.size 0 (by rfl) cs _ (Aj HK.o) Tryz.underlying76 (by rfl) HI.o ?_)
   |(go_at_call 139;refine Calls.mono (I1.o _ HB.o) ?_;rintro e w1 ⟨rfl,hb⟩;replace HB:=HB.t hb;clear hb I1)
   |fail)
  go_ret2
  exact Gl HB.o
 |true=>
  rw[hx] at I1;have T1:=I (T0.o hx);have hlm:=HLEN.o hx;have E:=I (show mgO m=some (mgE m) from BM.2 ⟨hx,hlm,rfl⟩);rw[E.o];obtain⟨l,el⟩:∃l,l=mgE m:=⟨_,rfl⟩;rw[←el] at T1 hlm⊢;have LM:=I (fun A c w1=>Jg l A _ c w1 rfl hlm);clear hx E el hlm T0 HLEN hs h;go_enter Tryz.func94,Tryz.ntmps94
  go_wp2_with (first
   |(refine Ak (by rfl) 76 (.tmp 1) (by rfl) w.heap.size 0 (by rfl) cs _ (Aj HK.o) Tryz.underlying76 (by rfl) HI.o ?_)
   |(go_at_call 139;refine Calls.mono (I1.o _ HB.o) ?_;rintro e w1 ⟨rfl,hb⟩;replace HK:=I (HK.o.below hb);replace HB:=HB.t hb;clear hb I1)
   |(go_at_call 141;refine Calls.mono (T1.o _ HB.o) ?_;rintro e w2 ⟨⟨g,c,rfl,h2,h3,h4⟩,hb⟩;have HG:=I (AN (l:=l) ⟨⟨g,c,rfl,h2,h3,h4⟩,hb⟩ HB.o);clear h2 h3 h4 hb T1)
   |(go_at_call 140;refine Calls.mono (LM.o _ _ _) ?_;rintro e wy ⟨rfl,rfl⟩;clear LM)
   |fail)
  go_ret2
  exact Dq HG.o
end Mc
namespace Mc
open Go.RowKit Ad DerP DerC Ms
theorem Jm (g:Nat) (c:Option L) (w:World) (h:Cur w g c) (hs:(c.getD []).length≤100000):Calls Tryz.prog 135 #[.pointer (some ⟨g,0,none⟩)] w fun e w'=>∃z1,∃z2,e = .returned (.agg #[.string ⟨(tgQ c).1.t.s.1.toArray⟩,.string ⟨(tgQ c).1.t.s.2.toArray⟩,.int .i64 (tgQ c).1.t.k,z1,z2,.string ⟨(tgQ c).1.s.1.toArray⟩,.string ⟨(tgQ c).1.s.2.toArray⟩,.int .i64 (tgQ c).1.u,.int .i64 (tgQ c).1.no])∧OwnB w' w.heap.size z1 (tgQ c).1.t.b∧OwnB w' w.heap.size z2 (tgQ c).1.a∧Cur w' g (tgQ c).2∧w.grownBy w' (some g):=by
 obtain⟨W,eW⟩:∃W,W=w.alloc (.cells #[.string ⟨#[]⟩,.string ⟨#[]⟩,.int .i64 0,.slice none 0 0,.slice none 0 0,.string ⟨#[]⟩,.string ⟨#[]⟩,.int .i64 0,.int .i64 0] 68):=⟨_,rfl⟩;have hWs:W.heap.size=w.heap.size+1:=by rw[eW];simp
 have HR:=I (show Blk W w.heap.size 68 #[.string ⟨#[]⟩,.string ⟨#[]⟩,.int .i64 0,.slice none 0 0,.slice none 0 0,.string ⟨#[]⟩,.string ⟨#[]⟩,.int .i64 0,.int .i64 0] by rw[eW];exact Blk.new _ _ _);have hlt:=Cd h;have HC:=I (show Cur W g c by rw[eW];exact h.alloc _);have HG:=I (show w.grownBy W (some g) by rw[eW];exact BL (World.grownBy.refl _ _) _);have hs0:=hs;obtain⟨s0,es0⟩:∃s,s=c:=⟨_,rfl⟩;rw[←es0] at HC hs0;have HLT:=I hlt;have HDL:=I (show w.heap.size<W.heap.size by omega);have hs1:(((tkQ s0).2).getD []).length≤100000:=BI 97 hs0;have T1:=I (fun g w h=>Ch g s0 w h hs0);obtain⟨v1,ev1⟩:∃x:Tk,x=(tkQ s0).1:=⟨_,rfl⟩;obtain⟨s1,es1⟩:∃s,s=(tkQ s0).2:=⟨_,rfl⟩;rw[←ev1,←es1] at T1;rw[←es1] at hs1;have hs2:((Az 4 s1).getD []).length≤100000:=BI 4 hs1;have T2:=I (fun g w h=>CG g s1 w h (by omega));obtain⟨v2,ev2⟩:∃x:L,x=ocC s1:=⟨_,rfl⟩;obtain⟨s2,es2⟩:∃s,s=Az 4 s1:=⟨_,rfl⟩;rw[←ev2,←es2] at T2;rw[←es2] at hs2;have hs3:(((prQ s2).2).getD []).length≤100000:=BI 48 hs2;have T3:=I (fun g w h=>BG g s2 w h hs2);obtain⟨v3,ev3⟩:∃x:Pr,x=(prQ s2).1:=⟨_,rfl⟩;obtain⟨s3,es3⟩:∃s,s=(prQ s2).2:=⟨_,rfl⟩;rw[←ev3,←es3] at T3;rw[←es3] at hs3;have hs4:(((intC s3).2).getD []).length≤100000:=DW hs3;have T4:=I (fun g w h=>AZ g s3 w h (by omega));obtain⟨v4,ev4⟩:∃x:Int,x=((intC s3).1:Int):=⟨_,rfl⟩;obtain⟨s4,es4⟩:∃s,s=(intC s3).2:=⟨_,rfl⟩;rw[←ev4,←es4] at T4;rw[←es4] at hs4;have hs5:(((intC s4).2).getD []).length≤100000:=DW hs4;have T5:=I (fun g w h=>AZ g s4 w h (by omega));obtain⟨v5,ev5⟩:∃x:Int,x=((intC s4).1:Int):=⟨_,rfl⟩;obtain⟨s5,es5⟩:∃s,s=(intC s4).2:=⟨_,rfl⟩;rw[←ev5,←es5] at T5;rw[←es5] at hs5;have FV1:=I (show(tgQ c).1.t=v1 by rw[ev1,es0];rfl);have FV2:=I (show(tgQ c).1.a=v2 by rw[ev2,es1,es0];rfl);have FV3:=I (show(tgQ c).1.s=v3 by rw[ev3,es2,es1,es0];rfl);have FV4:=I (show(tgQ c).1.u=v4 by rw[ev4,es3,es2,es1,es0];rfl);have FV5:=I (show(tgQ c).1.no=v5 by rw[ev5,es4,es3,es2,es1,es0];rfl);have FS:=I (show(tgQ c).2=s5 by rw[es5,es4,es3,es2,es1,es0];rfl);rw[FV1.o,FV2.o,FV3.o,FV4.o,FV5.o,FS.o];clear h hs hs0 hs1 hs2 hs3 hs4 hs5 FV1 ev1 es1 FV2 ev2 es2 FV3 ev3 es3 FV4 ev4 es4 FV5 ev5 es5 es0 FS hlt;have HWS:=I hWs;clear hWs;subst eW;go_enter Tryz.func135,Tryz.ntmps135
 go_wp2_with (first
  |(go_at_call 171;(with_reducible refine Calls.mono (T1.o _ _ HC.o) ?_);rintro e w1 ⟨y,rfl,ho,hd,hg⟩;clear T1;replace ho:=ho.less (show w.heap.size+1≤_ from HDL.o);obtain⟨b1,c1,rfl,x1,x2,x3,x4⟩:=ho;have HO1:Hid (OwnB w1 (w.heap.size+1) (.slice (some ⟨b1,0,none⟩) _ c1) _):=I ⟨b1,c1,rfl,x1,x2,x3,x4⟩;clear x1 x2 x3 x4;replace HC:=I hd;replace HR:=I (HR.o.grown hg (by intro e;injection e with e;have:=HLT.o;omega));replace HG:=I (BC HG.o hg);replace HDL:=I (Nat.lt_of_lt_of_le HDL.o hg.size);clear hd hg)
  |(go_at_call 172;(with_reducible refine Calls.mono (T2.o _ _ HC.o) ?_);rintro e w2 ⟨⟨y,rfl,ho⟩,hd,hg⟩;clear T2;replace ho:=ho.less (show w.heap.size+1≤_ from HDL.o);obtain⟨b2,c2,rfl,x1,x2,x3,x4⟩:=ho;have HO2:Hid (OwnB w2 (w.heap.size+1) (.slice (some ⟨b2,0,none⟩) _ c2) _):=I ⟨b2,c2,rfl,x1,x2,x3,x4⟩;clear x1 x2 x3 x4;replace HC:=I hd;replace HO1:=I (HO1.o.keep hg (by have:=HLT.o;omega));replace HR:=I (HR.o.grown hg (by intro e;injection e with e;have:=HLT.o;omega));replace HG:=I (BC HG.o hg);replace HDL:=I (Nat.lt_of_lt_of_le HDL.o hg.size);clear hd hg)
  |(go_at_call 169;(with_reducible refine Calls.mono (T3.o _ _ HC.o) ?_);rintro e w3 ⟨rfl,hd,hg⟩;clear T3;replace HC:=I hd;replace HO1:=I (HO1.o.keep hg (by have:=HLT.o;omega));replace HO2:=I (HO2.o.keep hg (by have:=HLT.o;omega));replace HR:=I (HR.o.grown hg (by intro e;injection e with e;have:=HLT.o;omega));replace HG:=I (BC HG.o hg);replace HDL:=I (Nat.lt_of_lt_of_le HDL.o hg.size);clear hd hg)
  |(go_at_call 170;(with_reducible refine Calls.mono (T4.o _ _ HC.o) ?_);rintro e w4 ⟨rfl,hd,hg⟩;clear T4;replace HC:=I hd;replace HO1:=I (HO1.o.keep hg (by have:=HLT.o;omega));replace HO2:=I (HO2.o.keep hg (by have:=HLT.o;omega));replace HR:=I (HR.o.grown hg (by intro e;injection e with e;have:=HLT.o;omega));replace HG:=I (BC HG.o hg);replace HDL:=I (Nat.lt_of_lt_of_le HDL.o hg.size);clear hd hg)
  |(go_at_call 170;(with_reducible refine Calls.mono (T5.o _ _ HC.o) ?_);rintro e w5 ⟨rfl,hd,hg⟩;clear T5;replace HC:=I hd;replace HO1:=I (HO1.o.keep hg (by have:=HLT.o;omega));replace HO2:=I (HO2.o.keep hg (by have:=HLT.o;omega));replace HR:=I (HR.o.grown hg (by intro e;injection e with e;have:=HLT.o;omega));replace HG:=I (BC HG.o hg);replace HDL:=I (Nat.lt_of_lt_of_le HDL.o hg.size);clear hd hg;have n0:w5.cell? ⟨w.heap.size,0,none⟩=some (.string ⟨#[]⟩):=HR.o.cell 0;have y0:=HR.o.frozen 0;have n1:w5.cell? ⟨w.heap.size,1,none⟩=some (.string ⟨#[]⟩):=HR.o.cell 1;have y1:=HR.o.frozen 1;have n2:w5.cell? ⟨w.heap.size,2,none⟩=some (.int .i64 0):=HR.o.cell 2;have y2:=HR.o.frozen 2;have n3:w5.cell? ⟨w.heap.size,3,none⟩=some (.slice none 0 0):=HR.o.cell 3;have y3:=HR.o.frozen 3;have n4:w5.cell? ⟨w.heap.size,4,none⟩=some (.slice none 0 0):=HR.o.cell 4;have y4:=HR.o.frozen 4;have n5:w5.cell? ⟨w.heap.size,5,none⟩=some (.string ⟨#[]⟩):=HR.o.cell 5;have y5:=HR.o.frozen 5;have n6:w5.cell? ⟨w.heap.size,6,none⟩=some (.string ⟨#[]⟩):=HR.o.cell 6;have y6:=HR.o.frozen 6;have n7:w5.cell? ⟨w.heap.size,7,none⟩=some (.int .i64 0):=HR.o.cell 7;have y7:=HR.o.frozen 7;have n8:w5.cell? ⟨w.heap.size,8,none⟩=some (.int .i64 0):=HR.o.cell 8;have y8:=HR.o.frozen 8)
  |fail)
 have hE:Blk (((((((((w5.setCell ⟨w.heap.size,0,none⟩ (.string ⟨v1.s.1.toArray⟩)).setCell ⟨w.heap.size,1,none⟩ (.string ⟨v1.s.2.toArray⟩)).setCell ⟨w.heap.size,2,none⟩ (.int .i64 v1.k)).setCell ⟨w.heap.size,3,none⟩ (.slice (some ⟨b1,0,none⟩) v1.b.length c1)).setCell ⟨w.heap.size,4,none⟩ (.slice (some ⟨b2,0,none⟩) v2.length c2)).setCell ⟨w.heap.size,5,none⟩ (.string ⟨v3.1.toArray⟩)).setCell ⟨w.heap.size,6,none⟩ (.string ⟨v3.2.toArray⟩)).setCell ⟨w.heap.size,7,none⟩ (.int .i64 v4)).setCell ⟨w.heap.size,8,none⟩ (.int .i64 v5)) w.heap.size 68 #[.string ⟨v1.s.1.toArray⟩,.string ⟨v1.s.2.toArray⟩,.int .i64 v1.k,.slice (some ⟨b1,0,none⟩) v1.b.length c1,.slice (some ⟨b2,0,none⟩) v2.length c2,.string ⟨v3.1.toArray⟩,.string ⟨v3.2.toArray⟩,.int .i64 v4,.int .i64 v5]:=(((((((((HR.o.set 0 (.string ⟨v1.s.1.toArray⟩)).set 1 (.string ⟨v1.s.2.toArray⟩)).set 2 (.int .i64 v1.k)).set 3 (.slice (some ⟨b1,0,none⟩) v1.b.length c1)).set 4 (.slice (some ⟨b2,0,none⟩) v2.length c2)).set 5 (.string ⟨v3.1.toArray⟩)).set 6 (.string ⟨v3.2.toArray⟩)).set 7 (.int .i64 v4)).set 8 (.int .i64 v5));have hp:=(Av (Av (Av (Av (Av (Av (Av (Av (Av (World.grownBy.refl w5 (some w.heap.size)) (p:=⟨w.heap.size,0,none⟩) (.inl rfl) (.string ⟨v1.s.1.toArray⟩)) (p:=⟨w.heap.size,1,none⟩) (.inl rfl) (.string ⟨v1.s.2.toArray⟩)) (p:=⟨w.heap.size,2,none⟩) (.inl rfl) (.int .i64 v1.k)) (p:=⟨w.heap.size,3,none⟩) (.inl rfl) (.slice (some ⟨b1,0,none⟩) v1.b.length c1)) (p:=⟨w.heap.size,4,none⟩) (.inl rfl) (.slice (some ⟨b2,0,none⟩) v2.length c2)) (p:=⟨w.heap.size,5,none⟩) (.inl rfl) (.string ⟨v3.1.toArray⟩)) (p:=⟨w.heap.size,6,none⟩) (.inl rfl) (.string ⟨v3.2.toArray⟩)) (p:=⟨w.heap.size,7,none⟩) (.inl rfl) (.int .i64 v4)) (p:=⟨w.heap.size,8,none⟩) (.inl rfl) (.int .i64 v5));have hq:=Al (P:=Tryz.prog) hE Tryz.underlying68 rfl (by kernel_rfl);refine bodyPost_ret (v:=.agg #[.string ⟨v1.s.1.toArray⟩,.string ⟨v1.s.2.toArray⟩,.int .i64 v1.k,.slice (some ⟨b1,0,none⟩) v1.b.length c1,.slice (some ⟨b2,0,none⟩) v2.length c2,.string ⟨v3.1.toArray⟩,.string ⟨v3.2.toArray⟩,.int .i64 v4,.int .i64 v5]) ?_ ?_ ?_
 ·exact Ag 2 68 ⟨w.heap.size,0,none⟩ Tryz.results135 rfl hq
 ·rfl
 exact⟨_,_,rfl,(HO1.o.keep hp (by omega)).less (by omega),(HO2.o.keep hp (by omega)).less (by omega),BS HC.o hp (by have:=HLT.o;omega),DU HG.o hp Ae⟩
def OwnN (w:World) (base:Nat) (v:Value) (l:L):Prop:=(v = .slice none 0 0∧l = [])∨OwnB w base v l
section
variable {w w':World} {base base' g:Nat} {v:Value} {l:L} {cs:Array Value}
theorem OwnN.keep (h:OwnN w base v l) (hg:w.grownBy w' (some g)) (hlt:g<base):OwnN w' base v l:=h.imp id fun h=>h.keep hg hlt
theorem OwnN.below (h:OwnN w base v l) (hb:Below w.heap.size w w'):OwnN w' base v l:=h.imp id fun h=>h.below hb
theorem OwnN.less (h:OwnN w base v l) (hb:base'≤base):OwnN w base' v l:=h.imp id fun h=>h.less hb
theorem OwnN.slb (h:OwnN w base v l):SlB w w.heap.size v l:=by
 rcases h with⟨rfl,rfl⟩ | h
 ·exact SlB.nil _ _
 ·exact h.slb
def TgO (w:World) (B:Nat) (cs:Array Value) (q:Tg):Prop:=∃b a,cs=(tgC q b a).toArray∧OwnN w B b q.t.b∧OwnN w B a q.a
def ReO (w:World) (B:Nat) (cs:Array Value) (q:Re):Prop:=∃b a,cs=(reC q b a).toArray∧OwnN w B b q.t.b∧OwnN w B a q.b
def ApO (w:World) (B:Nat) (cs:Array Value) (q:Ap):Prop:=∃b a,cs=(apC q b a).toArray∧OwnN w B b q.t.b∧OwnN w B a q.a
theorem TgO.keep {q:Tg} (h:TgO w base cs q) (hg:w.grownBy w' (some g)) (hlt:g<base):TgO w' base cs q:=by obtain⟨b,a,h1,h2,h3⟩:=h;exact⟨b,a,h1,h2.keep hg hlt,h3.keep hg hlt⟩
theorem TgO.below {q:Tg} (h:TgO w base cs q) (hb:Below w.heap.size w w'):TgO w' base cs q:=by obtain⟨b,a,h1,h2,h3⟩:=h;exact⟨b,a,h1,h2.below hb,h3.below hb⟩
theorem TgO.less {q:Tg} (h:TgO w base cs q) (hb:base'≤base):TgO w base' cs q:=by obtain⟨b,a,h1,h2,h3⟩:=h;exact⟨b,a,h1,h2.less hb,h3.less hb⟩
theorem TgO.toV {q:Tg} (h:TgO w base cs q):TgV w w.heap.size cs q:=by obtain⟨b,a,h1,h2,h3⟩:=h;exact⟨b,a,h1,h2.slb,h3.slb⟩
theorem ReO.keep {q:Re} (h:ReO w base cs q) (hg:w.grownBy w' (some g)) (hlt:g<base):ReO w' base cs q:=by obtain⟨b,a,h1,h2,h3⟩:=h;exact⟨b,a,h1,h2.keep hg hlt,h3.keep hg hlt⟩
theorem ReO.below {q:Re} (h:ReO w base cs q) (hb:Below w.heap.size w w'):ReO w' base cs q:=by obtain⟨b,a,h1,h2,h3⟩:=h;exact⟨b,a,h1,h2.below hb,h3.below hb⟩
theorem ReO.less {q:Re} (h:ReO w base cs q) (hb:base'≤base):ReO w base' cs q:=by obtain⟨b,a,h1,h2,h3⟩:=h;exact⟨b,a,h1,h2.less hb,h3.less hb⟩
theorem ReO.toV {q:Re} (h:ReO w base cs q):ReV w w.heap.size cs q:=by obtain⟨b,a,h1,h2,h3⟩:=h;exact⟨b,a,h1,h2.slb,h3.slb⟩
theorem ApO.keep {q:Ap} (h:ApO w base cs q) (hg:w.grownBy w' (some g)) (hlt:g<base):ApO w' base cs q:=by obtain⟨b,a,h1,h2,h3⟩:=h;exact⟨b,a,h1,h2.keep hg hlt,h3.keep hg hlt⟩
theorem ApO.below {q:Ap} (h:ApO w base cs q) (hb:Below w.heap.size w w'):ApO w' base cs q:=by obtain⟨b,a,h1,h2,h3⟩:=h;exact⟨b,a,h1,h2.below hb,h3.below hb⟩
theorem ApO.less {q:Ap} (h:ApO w base cs q) (hb:base'≤base):ApO w base' cs q:=by obtain⟨b,a,h1,h2,h3⟩:=h;exact⟨b,a,h1,h2.less hb,h3.less hb⟩
theorem ApO.toV {q:Ap} (h:ApO w base cs q):ApV w w.heap.size cs q:=by obtain⟨b,a,h1,h2,h3⟩:=h;exact⟨b,a,h1,h2.slb,h3.slb⟩
structure MpO (w:World) (B:Nat) (pa pt pr pp pf:Array Value) (m:Mg):Prop where
 a:AsV pa m.aq
 t:TgO w B pt m.tg
 r:ReO w B pr m.re
 p:ApO w B pp m.ap
 f:FaV pf m.fa
def MgO (w:World) (B:Nat) (cs:Array Value) (m:Mg):Prop:=∃pa pt pr pp pf,cs=mgA m.k pa pt pr pp pf∧MpO w B pa pt pr pp pf m
variable {pa pt pr pp pf:Array Value} {m:Mg}
theorem MpO.toV (h:MpO w base pa pt pr pp pf m):MgP w w.heap.size pa pt pr pp pf m:=⟨h.a,h.t.toV,h.r.toV,h.p.toV,h.f⟩
theorem MpO.keep (h:MpO w base pa pt pr pp pf m) (hg:w.grownBy w' (some g)) (hlt:g<base):MpO w' base pa pt pr pp pf m:=⟨h.a,h.t.keep hg hlt,h.r.keep hg hlt,h.p.keep hg hlt,h.f⟩
theorem MpO.below (h:MpO w base pa pt pr pp pf m) (hb:Below w.heap.size w w'):MpO w' base pa pt pr pp pf m:=⟨h.a,h.t.below hb,h.r.below hb,h.p.below hb,h.f⟩
theorem MpO.less (h:MpO w base pa pt pr pp pf m) (hb:base'≤base):MpO w base' pa pt pr pp pf m:=⟨h.a,h.t.less hb,h.r.less hb,h.p.less hb,h.f⟩
theorem MgO.toV (h:MgO w base cs m):MgV w w.heap.size cs m:=by obtain⟨pa,pt,pr,pp,pf,h1,h2⟩:=h;exact⟨pa,pt,pr,pp,pf,h1,h2.toV⟩
theorem MgO.keep (h:MgO w base cs m) (hg:w.grownBy w' (some g)) (hlt:g<base):MgO w' base cs m:=by obtain⟨pa,pt,pr,pp,pf,h1,h2⟩:=h;exact⟨pa,pt,pr,pp,pf,h1,h2.keep hg hlt⟩
theorem MgO.below (h:MgO w base cs m) (hb:Below w.heap.size w w'):MgO w' base cs m:=by obtain⟨pa,pt,pr,pp,pf,h1,h2⟩:=h;exact⟨pa,pt,pr,pp,pf,h1,h2.below hb⟩
theorem MgO.less (h:MgO w base cs m) (hb:base'≤base):MgO w base' cs m:=by obtain⟨pa,pt,pr,pp,pf,h1,h2⟩:=h;exact⟨pa,pt,pr,pp,pf,h1,h2.less hb⟩
theorem MgO.size (h:MgO w base cs m):cs.size=30:=by obtain⟨pa,pt,pr,pp,pf,h1,h2⟩:=h;rw[h1];exact h2.toV.size m.k
theorem MgO.one (h:MgO w base cs m):One cs:=by obtain⟨pa,pt,pr,pp,pf,h1,h2⟩:=h;rw[h1];exact h2.toV.one m.k
end
theorem zT_o (w:World) (B:Nat):TgO w B zT tg0:=⟨_,_,rfl,.inl ⟨rfl,rfl⟩,.inl ⟨rfl,rfl⟩⟩
theorem zR_o (w:World) (B:Nat):ReO w B zR re0:=⟨_,_,rfl,.inl ⟨rfl,rfl⟩,.inl ⟨rfl,rfl⟩⟩
theorem zP_o (w:World) (B:Nat):ApO w B zP ap0:=⟨_,_,rfl,.inl ⟨rfl,rfl⟩,.inl ⟨rfl,rfl⟩⟩
theorem zM_o (w:World) (B:Nat) (k:Int):MpO w B zA zT zR zP zF ⟨k,as0,tg0,re0,ap0,fa0⟩:=⟨zA_v,zT_o w B,zR_o w B,zP_o w B,zF_v⟩
section
variable (g:Nat) (c:Option L) (w:World) (h:Cur w g c) (hs:(c.getD []).length≤100000)
include h hs
theorem LO:Calls Tryz.prog 134 #[.pointer (some ⟨g,0,none⟩)] w fun e w'=>∃ps,e = .returned (.agg ps)∧AsV ps (asQ c).1∧w.grownBy w' (some g):=
 (Jh g c w h hs).mono fun e w' hh=>by obtain⟨rfl,_,h2⟩:=hh;exact⟨_,rfl,rfl,h2⟩
theorem LP:Calls Tryz.prog 135 #[.pointer (some ⟨g,0,none⟩)] w fun e w'=>∃ps,e = .returned (.agg ps)∧TgO w' w.heap.size ps (tgQ c).1∧w.grownBy w' (some g):=
 (Jm g c w h hs).mono fun e w' hh=>by obtain⟨z1,z2,rfl,o1,o2,_,h2⟩:=hh;exact⟨_,rfl,⟨_,_,rfl,.inr o1,.inr o2⟩,h2⟩
theorem LQ:Calls Tryz.prog 136 #[.pointer (some ⟨g,0,none⟩)] w fun e w'=>∃ps,e = .returned (.agg ps)∧ReO w' w.heap.size ps (reQ c).1∧w.grownBy w' (some g):=
 (Ji g c w h hs).mono fun e w' hh=>by obtain⟨z1,z2,rfl,o1,o2,_,h2⟩:=hh;exact⟨_,rfl,⟨_,_,rfl,.inr o1,.inr o2⟩,h2⟩
theorem LR:Calls Tryz.prog 137 #[.pointer (some ⟨g,0,none⟩)] w fun e w'=>∃ps,e = .returned (.agg ps)∧ApO w' w.heap.size ps (apQ c).1∧w.grownBy w' (some g):=
 (Jj g c w h hs).mono fun e w' hh=>by obtain⟨z1,z2,rfl,o1,o2,_,h2⟩:=hh;exact⟨_,rfl,⟨_,_,rfl,.inr o1,.inr o2⟩,h2⟩
theorem LS:Calls Tryz.prog 138 #[.pointer (some ⟨g,0,none⟩)] w fun e w'=>∃ps,e = .returned (.agg ps)∧FaV ps (faQ c).1∧w.grownBy w' (some g):=
 (Jk g c w h hs).mono fun e w' hh=>by obtain⟨rfl,_,h2⟩:=hh;exact⟨_,rfl,rfl,h2⟩
end
theorem Iu {ps:Array Value} {q:As} (h:AsV ps q):Tryz.prog.built 76 [(0,.int .i64 1),(1,.agg ps)]=some (mgA 1 ps zT zR zP zF):=by rw[h];kernel_rfl
theorem LU {w:World} {B:Nat} {ps:Array Value} {q:Tg} (h:TgO w B ps q):Tryz.prog.built 76 [(0,.int .i64 2),(2,.agg ps)]=some (mgA 2 zA ps zR zP zF):=by obtain⟨b,a,rfl,_⟩:=h;kernel_rfl
theorem LV {w:World} {B:Nat} {ps:Array Value} {q:Re} (h:ReO w B ps q):Tryz.prog.built 76 [(0,.int .i64 3),(3,.agg ps)]=some (mgA 3 zA zT ps zP zF):=by obtain⟨b,a,rfl,_⟩:=h;kernel_rfl
theorem LW {w:World} {B:Nat} {ps:Array Value} {q:Ap} (h:ApO w B ps q):Tryz.prog.built 76 [(0,.int .i64 4),(4,.agg ps)]=some (mgA 4 zA zT zR ps zF):=by obtain⟨b,a,rfl,_⟩:=h;kernel_rfl
theorem LX {ps:Array Value} {q:Fa} (h:FaV ps q):Tryz.prog.built 76 [(0,.int .i64 5),(5,.agg ps)]=some (mgA 5 zA zT zR zP ps):=by rw[h];kernel_rfl
theorem Eo:Tryz.prog.built 76 []=some (mgA 0 zA zT zR zP zF):=by kernel_rfl
theorem Ho (A:Option Addr) (b:L) (cap:Nat) (w:World) (h:Rd w w.heap.size A (bvs b)) (hs:b.length≤100000):Calls Tryz.prog 93 #[.slice A b.length cap] w fun e w'=>∃ds,e = .returned (.agg ds)∧MgO w' w.heap.size ds (mgQ b)∧Below w.heap.size w w':=by
 obtain⟨zz,ezz⟩:∃z:Array Value,z=#[.int .i64 0,.string ⟨#[]⟩,.string ⟨#[]⟩,.string ⟨#[]⟩,.string ⟨#[]⟩,.int .i64 0,.int .i64 0,.string ⟨#[]⟩,.string ⟨#[]⟩,.int .i64 0,.slice none 0 0,.slice none 0 0,.string ⟨#[]⟩,.string ⟨#[]⟩,.int .i64 0,.int .i64 0,.string ⟨#[]⟩,.string ⟨#[]⟩,.string ⟨#[]⟩,.string ⟨#[]⟩,.int .i64 0,.slice none 0 0,.slice none 0 0,.string ⟨#[]⟩,.string ⟨#[]⟩,.int .i64 0,.slice none 0 0,.slice none 0 0,.int .i64 0,.int .i64 0]:=⟨_,rfl⟩;have ez0:zz=mgA 0 zA zT zR zP zF:=by rw[ezz];rfl
 have HZS:=I (show zz.size=30 by rw[ez0];exact(zM_v w 0 0).size 0);obtain⟨W,eW⟩:∃W,W=w.alloc (.cells zz 76):=⟨_,rfl⟩;have HWS:=I (show W.heap.size=w.heap.size+1 by rw[eW];simp);have HR:=I (show Blk W w.heap.size 76 zz by rw[eW];exact Blk.new _ _ _);have HG:=I (show Below w.heap.size w W by rw[eW];exact Af.alloc Ae _);clear ez0;cases b with
 |nil=>
  have EQ:=I (show mgQ []=⟨0,as0,tg0,re0,ap0,fa0⟩ from rfl);have HMS:=I ((zM_v w 0 0).size 0);have HMO:=I ((zM_v w 0 0).one 0);clear h hs;go_enter Tryz.func93,Tryz.ntmps93
  go_upto_region 1 with fail
  rw[←ezz,←eW];clear ezz eW
  go_wp2_with (first
   |(refine Am (by rfl) 76 #[] (by rfl) (mgA 0 zA zT zR zP zF) Eo ?_)
   |(refine wpList_store_mid (by rfl) 76 (.tmp 2) (.tmp 7) (by rfl) w.heap.size 0 (mgA 0 zA zT zR zP zF) (by rfl) (by rfl) (Ao HR.o _ (by rw[HMS.o];have:=HZS.o;omega)) (by rw[HMS.o];exact AA) HMO.o ?_)
   |fail)
  have hE:=Ax (ds:=mgA 0 zA zT zR zP zF) HR.o (by rw[HMS.o];exact HZS.o);have hp:=AD W w.heap.size (mgA 0 zA zT zR zP zF).toList;have hq:=Al (P:=Tryz.prog) hE Tryz.underlying76 rfl (by rw[HMS.o];exact AA);refine bodyPost_ret (v:=.agg (mgA 0 zA zT zR zP zF)) ?_ ?_ ?_
  ·exact Ag 2 76 ⟨w.heap.size,0,none⟩ Tryz.results93 rfl hq
  ·rfl
  refine⟨_,rfl,?_,Ac HG.o hp (by have:=HR.o.lt;omega) Ae⟩;rw[EQ.o];exact⟨zA,zT,zR,zP,zF,rfl,⟨zA_v,zT_o _ _,zR_o _ _,zP_o _ _,zF_v⟩⟩
 |cons t r=>
  obtain⟨bb,oo,rfl,hbb,hcell⟩:∃bb oo,A=some ⟨bb,oo,none⟩∧bb<w.heap.size∧w.cell? ⟨bb,oo,none⟩=some (.int .u8 (t.toNat:Int)):=by
   obtain⟨bb,oo,rfl,h1,h2⟩:=h.at_ (i:=0) (u:=bv t) rfl;exact⟨bb,oo,rfl,h1,h2⟩
  have HRD:=I (fun w1 (h1:Below w.heap.size w w1)=>show w1.cell? ⟨bb,oo,none⟩=some (.int .u8 (t.toNat:Int)) from(h1.cell (p:=⟨bb,oo,none⟩) hbb).trans hcell);have hu:=Ba t;have c0:=I (fun w1 (h1:Below w.heap.size w w1)=>Lr w1.heap.size (some ⟨bb,oo,none⟩) (t :: r) (t :: r).length cap w1 ((h.below h1).more h1.size) rfl);have hl0:((some (t :: r):Option L).getD []).length≤100000:=hs;have c1:=I (fun g w1 h=>Gf t g (some (t :: r)) w1 h (by omega));have hl1:=Ey t hl0;have HL:=I (show(0:Int)<(((t :: r).length:Nat):Int) by simp)
  by_cases m1:t=106
  ·have d1:((t.toNat:Int)==106)=true:=by rw[m1];rfl
   have EQ:=I (show mgQ (t :: r)=⟨1,(asQ (Ah t (some (t :: r)))).1,tg0,re0,ap0,fa0⟩ by subst m1;rfl);obtain⟨s0,es0⟩:∃s,s=Ah t (some (t :: r)):=⟨_,rfl⟩;rw[←es0] at c1 hl1 EQ;have T1:=I (fun g w1 h=>LO g s0 w1 h hl1);clear es0 hl1 hl0 hs h hcell hu m1;go_enter Tryz.func93,Tryz.ntmps93
   go_upto_region 1 with fail
   rw[←ezz,←eW];clear ezz eW
   go_upto_region 3 with fail
   replace HR:=I (show Blk W.drew _ _ _ from HR.o.drewN 1);replace HG:=I (show Below _ _ W.drew from below_drewN HG.o 1)
   go_region_held3 (fun w'=>w'.cell? ⟨bb,oo,none⟩=some (.int .u8 (t.toNat:Int))) (exact HRD.o _ HG.o) ((first
    |(go_at_call 132;refine Calls.mono (c0.o _ HG.o) ?_;rintro e wo ⟨go,rfl,hgo,hco,hb⟩;clear c0;have HC:=I hco;have HGO:=I (show w.heap.size+1≤go by have:=HWS.o;have:W.drew.heap.size=W.heap.size:=rfl;omega);replace HR:=I (HR.o.below hb);replace HG:=HG.t hb;have HWO:=I (show w.heap.size+1≤wo.heap.size by have:=hb.size;have:=HWS.o;have:W.drew.heap.size=W.heap.size:=rfl;omega);clear hgo hco hb)
    |(go_at_call 133;refine Calls.mono (c1.o _ _ HC.o) ?_;rintro e wi ⟨⟨gd,rfl,hgd,hd⟩,hc,hg⟩;clear c1 HC;have HD:=I hd;have HGD:=I (show w.heap.size+1≤gd by have:=HWO.o;omega);have HDL:=I (Cd hd);replace HR:=I (HR.o.grown hg (by intro e;injection e with e;have:=HGO.o;omega));replace HG:=I (Ac HG.o hg HG.o.size (by have:=HGO.o;omega));clear hgd hd hc hg HWO HGO)))
   have k9:=HRD.o _ HG.o
   go_wp2_with (first
    |(go_at_call 134;refine Calls.mono (T1.o _ _ HD.o) ?_;rintro e w3 ⟨ps,rfl,ho,hg⟩;clear T1 HD;replace HR:=I (HR.o.grown hg (by intro e;injection e with e;have:=HGD.o;omega));replace HG:=I (Ac HG.o hg HG.o.size (by have:=HGD.o;omega));have HBT:=I (Iu ho);have HM:=I (show MpO w3 (gd+1) ps zT zR zP zF ⟨1,(asQ s0).1,tg0,re0,ap0,fa0⟩ from⟨ho,zT_o _ _,zR_o _ _,zP_o _ _,zF_v⟩);have HMS:=I (HM.o.toV.size 1);have HMO:=I (HM.o.toV.one 1);clear hg ho)
    |(refine Am (by rfl) 76 #[(0,.const (.int .i64 1)),(1,.tmp 20)] (by rfl) (mgA 1 ps zT zR zP zF) (by simp only[List.map_toArray,List.map_cons,List.map_nil];exact HBT.o) ?_)
    |(refine wpList_store_mid (by rfl) 76 (.tmp 2) (.tmp 21) (by rfl) w.heap.size 0 (mgA 1 ps zT zR zP zF) (by rfl) (by rfl) (Ao HR.o _ (by rw[HMS.o];have:=HZS.o;omega)) (by rw[HMS.o];exact AA) HMO.o ?_)
    |fail)
   have hE:=Ax (ds:=mgA 1 ps zT zR zP zF) HR.o (by rw[HMS.o];exact HZS.o);have hp:=AD w3 w.heap.size (mgA 1 ps zT zR zP zF).toList;have hq:=Al (P:=Tryz.prog) hE Tryz.underlying76 rfl (by rw[HMS.o];exact AA);refine bodyPost_ret (v:=.agg (mgA 1 ps zT zR zP zF)) ?_ ?_ ?_
   ·exact Ag 2 76 ⟨w.heap.size,0,none⟩ Tryz.results93 rfl hq
   ·rfl
   refine⟨_,rfl,?_,Ac HG.o hp (by have:=HR.o.lt;omega) Ae⟩;rw[EQ.o];exact⟨ps,zT,zR,zP,zF,rfl,(HM.o.keep hp (by have:=HGD.o;omega)).less (by have:=HGD.o;omega)⟩
  ·have d1:((t.toNat:Int)==106)=false:=by simp;intro e;exact m1 (UInt8.toNat_inj.1 (by rw[show(106:UInt8).toNat=106 from rfl];omega))
   by_cases m2:t=108
   ·have d2:((t.toNat:Int)==108)=true:=by rw[m2];rfl
    have EQ:=I (show mgQ (t :: r)=⟨2,as0,(tgQ (Ah t (some (t :: r)))).1,re0,ap0,fa0⟩ by subst m2;rfl);obtain⟨s0,es0⟩:∃s,s=Ah t (some (t :: r)):=⟨_,rfl⟩;rw[←es0] at c1 hl1 EQ;have T1:=I (fun g w1 h=>LP g s0 w1 h hl1);clear es0 hl1 hl0 hs h hcell hu m1 m2;go_enter Tryz.func93,Tryz.ntmps93
    go_upto_region 1 with fail
    rw[←ezz,←eW];clear ezz eW
    go_upto_region 3 with fail
    replace HR:=I (show Blk W.drew _ _ _ from HR.o.drewN 1);replace HG:=I (show Below _ _ W.drew from below_drewN HG.o 1)
    go_region_held3 (fun w'=>w'.cell? ⟨bb,oo,none⟩=some (.int .u8 (t.toNat:Int))) (exact HRD.o _ HG.o) ((first
     |(go_at_call 132;refine Calls.mono (c0.o _ HG.o) ?_;rintro e wo ⟨go,rfl,hgo,hco,hb⟩;clear c0;have HC:=I hco;have HGO:=I (show w.heap.size+1≤go by have:=HWS.o;have:W.drew.heap.size=W.heap.size:=rfl;omega);replace HR:=I (HR.o.below hb);replace HG:=HG.t hb;have HWO:=I (show w.heap.size+1≤wo.heap.size by have:=hb.size;have:=HWS.o;have:W.drew.heap.size=W.heap.size:=rfl;omega);clear hgo hco hb)
     |(go_at_call 133;refine Calls.mono (c1.o _ _ HC.o) ?_;rintro e wi ⟨⟨gd,rfl,hgd,hd⟩,hc,hg⟩;clear c1 HC;have HD:=I hd;have HGD:=I (show w.heap.size+1≤gd by have:=HWO.o;omega);have HDL:=I (Cd hd);replace HR:=I (HR.o.grown hg (by intro e;injection e with e;have:=HGO.o;omega));replace HG:=I (Ac HG.o hg HG.o.size (by have:=HGO.o;omega));clear hgd hd hc hg HWO HGO)))
    have k9:=HRD.o _ HG.o
    go_wp2_with (first
     |(go_at_call 135;refine Calls.mono (T1.o _ _ HD.o) ?_;rintro e w3 ⟨ps,rfl,ho,hg⟩;clear T1 HD;replace ho:=ho.less (show gd+1≤_ from HDL.o);replace HR:=I (HR.o.grown hg (by intro e;injection e with e;have:=HGD.o;omega));replace HG:=I (Ac HG.o hg HG.o.size (by have:=HGD.o;omega));have HBT:=I (LU ho);have HM:=I (show MpO w3 (gd+1) zA ps zR zP zF ⟨2,as0,(tgQ s0).1,re0,ap0,fa0⟩ from⟨zA_v,ho,zR_o _ _,zP_o _ _,zF_v⟩);have HMS:=I (HM.o.toV.size 2);have HMO:=I (HM.o.toV.one 2);clear hg ho)
     |(refine Am (by rfl) 76 #[(0,.const (.int .i64 2)),(2,.tmp 25)] (by rfl) (mgA 2 zA ps zR zP zF) (by simp only[List.map_toArray,List.map_cons,List.map_nil];exact HBT.o) ?_)
     |(refine wpList_store_mid (by rfl) 76 (.tmp 2) (.tmp 26) (by rfl) w.heap.size 0 (mgA 2 zA ps zR zP zF) (by rfl) (by rfl) (Ao HR.o _ (by rw[HMS.o];have:=HZS.o;omega)) (by rw[HMS.o];exact AA) HMO.o ?_)
     |fail)
    have hE:=Ax (ds:=mgA 2 zA ps zR zP zF) HR.o (by rw[HMS.o];exact HZS.o);have hp:=AD w3 w.heap.size (mgA 2 zA ps zR zP zF).toList;have hq:=Al (P:=Tryz.prog) hE Tryz.underlying76 rfl (by rw[HMS.o];exact AA);refine bodyPost_ret (v:=.agg (mgA 2 zA ps zR zP zF)) ?_ ?_ ?_
    ·exact Ag 2 76 ⟨w.heap.size,0,none⟩ Tryz.results93 rfl hq
    ·rfl
    refine⟨_,rfl,?_,Ac HG.o hp (by have:=HR.o.lt;omega) Ae⟩;rw[EQ.o];exact⟨zA,ps,zR,zP,zF,rfl,(HM.o.keep hp (by have:=HGD.o;omega)).less (by have:=HGD.o;omega)⟩
   ·have d2:((t.toNat:Int)==108)=false:=by simp;intro e;exact m2 (UInt8.toNat_inj.1 (by rw[show(108:UInt8).toNat=108 from rfl];omega))
    by_cases m3:t=107
    ·have d3:((t.toNat:Int)==107)=true:=by rw[m3];rfl
     have EQ:=I (show mgQ (t :: r)=⟨3,as0,tg0,(reQ (Ah t (some (t :: r)))).1,ap0,fa0⟩ by subst m3;rfl);obtain⟨s0,es0⟩:∃s,s=Ah t (some (t :: r)):=⟨_,rfl⟩;rw[←es0] at c1 hl1 EQ;have T1:=I (fun g w1 h=>LQ g s0 w1 h hl1);clear es0 hl1 hl0 hs h hcell hu m1 m2 m3;go_enter Tryz.func93,Tryz.ntmps93
     go_upto_region 1 with fail
     rw[←ezz,←eW];clear ezz eW
     go_upto_region 3 with fail
     replace HR:=I (show Blk W.drew _ _ _ from HR.o.drewN 1);replace HG:=I (show Below _ _ W.drew from below_drewN HG.o 1)
     go_region_held3 (fun w'=>w'.cell? ⟨bb,oo,none⟩=some (.int .u8 (t.toNat:Int))) (exact HRD.o _ HG.o) ((first
      |(go_at_call 132;refine Calls.mono (c0.o _ HG.o) ?_;rintro e wo ⟨go,rfl,hgo,hco,hb⟩;clear c0;have HC:=I hco;have HGO:=I (show w.heap.size+1≤go by have:=HWS.o;have:W.drew.heap.size=W.heap.size:=rfl;omega);replace HR:=I (HR.o.below hb);replace HG:=HG.t hb;have HWO:=I (show w.heap.size+1≤wo.heap.size by have:=hb.size;have:=HWS.o;have:W.drew.heap.size=W.heap.size:=rfl;omega);clear hgo hco hb)
      |(go_at_call 133;refine Calls.mono (c1.o _ _ HC.o) ?_;rintro e wi ⟨⟨gd,rfl,hgd,hd⟩,hc,hg⟩;clear c1 HC;have HD:=I hd;have HGD:=I (show w.heap.size+1≤gd by have:=HWO.o;omega);have HDL:=I (Cd hd);replace HR:=I (HR.o.grown hg (by intro e;injection e with e;have:=HGO.o;omega));replace HG:=I (Ac HG.o hg HG.o.size (by have:=HGO.o;omega));clear hgd hd hc hg HWO HGO)))
     have k9:=HRD.o _ HG.o
     go_wp2_with (first
      |(go_at_call 136;refine Calls.mono (T1.o _ _ HD.o) ?_;rintro e w3 ⟨ps,rfl,ho,hg⟩;clear T1 HD;replace ho:=ho.less (show gd+1≤_ from HDL.o);replace HR:=I (HR.o.grown hg (by intro e;injection e with e;have:=HGD.o;omega));replace HG:=I (Ac HG.o hg HG.o.size (by have:=HGD.o;omega));have HBT:=I (LV ho);have HM:=I (show MpO w3 (gd+1) zA zT ps zP zF ⟨3,as0,tg0,(reQ s0).1,ap0,fa0⟩ from⟨zA_v,zT_o _ _,ho,zP_o _ _,zF_v⟩);have HMS:=I (HM.o.toV.size 3);have HMO:=I (HM.o.toV.one 3);clear hg ho)
      |(refine Am (by rfl) 76 #[(0,.const (.int .i64 3)),(3,.tmp 30)] (by rfl) (mgA 3 zA zT ps zP zF) (by simp only[List.map_toArray,List.map_cons,List.map_nil];exact HBT.o) ?_)
      |(refine wpList_store_mid (by rfl) 76 (.tmp 2) (.tmp 31) (by rfl) w.heap.size 0 (mgA 3 zA zT ps zP zF) (by rfl) (by rfl) (Ao HR.o _ (by rw[HMS.o];have:=HZS.o;omega)) (by rw[HMS.o];exact AA) HMO.o ?_)
      |fail)
     have hE:=Ax (ds:=mgA 3 zA zT ps zP zF) HR.o (by rw[HMS.o];exact HZS.o);have hp:=AD w3 w.heap.size (mgA 3 zA zT ps zP zF).toList;have hq:=Al (P:=Tryz.prog) hE Tryz.underlying76 rfl (by rw[HMS.o];exact AA);refine bodyPost_ret (v:=.agg (mgA 3 zA zT ps zP zF)) ?_ ?_ ?_
     ·exact Ag 2 76 ⟨w.heap.size,0,none⟩ Tryz.results93 rfl hq
     ·rfl
     refine⟨_,rfl,?_,Ac HG.o hp (by have:=HR.o.lt;omega) Ae⟩;rw[EQ.o];exact⟨zA,zT,ps,zP,zF,rfl,(HM.o.keep hp (by have:=HGD.o;omega)).less (by have:=HGD.o;omega)⟩
    ·have d3:((t.toNat:Int)==107)=false:=by simp;intro e;exact m3 (UInt8.toNat_inj.1 (by rw[show(107:UInt8).toNat=107 from rfl];omega))
     by_cases m4:t=110
     ·have d4:((t.toNat:Int)==110)=true:=by rw[m4];rfl
      have EQ:=I (show mgQ (t :: r)=⟨4,as0,tg0,re0,(apQ (Ah t (some (t :: r)))).1,fa0⟩ by subst m4;rfl);obtain⟨s0,es0⟩:∃s,s=Ah t (some (t :: r)):=⟨_,rfl⟩;rw[←es0] at c1 hl1 EQ;have T1:=I (fun g w1 h=>LR g s0 w1 h hl1);clear es0 hl1 hl0 hs h hcell hu m1 m2 m3 m4;go_enter Tryz.func93,Tryz.ntmps93
      go_upto_region 1 with fail
      rw[←ezz,←eW];clear ezz eW
      go_upto_region 3 with fail
      replace HR:=I (show Blk W.drew _ _ _ from HR.o.drewN 1);replace HG:=I (show Below _ _ W.drew from below_drewN HG.o 1)
      go_region_held3 (fun w'=>w'.cell? ⟨bb,oo,none⟩=some (.int .u8 (t.toNat:Int))) (exact HRD.o _ HG.o) ((first
       |(go_at_call 132;refine Calls.mono (c0.o _ HG.o) ?_;rintro e wo ⟨go,rfl,hgo,hco,hb⟩;clear c0;have HC:=I hco;have HGO:=I (show w.heap.size+1≤go by have:=HWS.o;have:W.drew.heap.size=W.heap.size:=rfl;omega);replace HR:=I (HR.o.below hb);replace HG:=HG.t hb;have HWO:=I (show w.heap.size+1≤wo.heap.size by have:=hb.size;have:=HWS.o;have:W.drew.heap.size=W.heap.size:=rfl;omega);clear hgo hco hb)
       |(go_at_call 133;refine Calls.mono (c1.o _ _ HC.o) ?_;rintro e wi ⟨⟨gd,rfl,hgd,hd⟩,hc,hg⟩;clear c1 HC;have HD:=I hd;have HGD:=I (show w.heap.size+1≤gd by have:=HWO.o;omega);have HDL:=I (Cd hd);replace HR:=I (HR.o.grown hg (by intro e;injection e with e;have:=HGO.o;omega));replace HG:=I (Ac HG.o hg HG.o.size (by have:=HGO.o;omega));clear hgd hd hc hg HWO HGO)))
      have k9:=HRD.o _ HG.o
      go_wp2_with (first
       |(go_at_call 137;refine Calls.mono (T1.o _ _ HD.o) ?_;rintro e w3 ⟨ps,rfl,ho,hg⟩;clear T1 HD;replace ho:=ho.less (show gd+1≤_ from HDL.o);replace HR:=I (HR.o.grown hg (by intro e;injection e with e;have:=HGD.o;omega));replace HG:=I (Ac HG.o hg HG.o.size (by have:=HGD.o;omega));have HBT:=I (LW ho);have HM:=I (show MpO w3 (gd+1) zA zT zR ps zF ⟨4,as0,tg0,re0,(apQ s0).1,fa0⟩ from⟨zA_v,zT_o _ _,zR_o _ _,ho,zF_v⟩);have HMS:=I (HM.o.toV.size 4);have HMO:=I (HM.o.toV.one 4);clear hg ho)
       |(refine Am (by rfl) 76 #[(0,.const (.int .i64 4)),(4,.tmp 35)] (by rfl) (mgA 4 zA zT zR ps zF) (by simp only[List.map_toArray,List.map_cons,List.map_nil];exact HBT.o) ?_)
       |(refine wpList_store_mid (by rfl) 76 (.tmp 2) (.tmp 36) (by rfl) w.heap.size 0 (mgA 4 zA zT zR ps zF) (by rfl) (by rfl) (Ao HR.o _ (by rw[HMS.o];have:=HZS.o;omega)) (by rw[HMS.o];exact AA) HMO.o ?_)
       |fail)
      have hE:=Ax (ds:=mgA 4 zA zT zR ps zF) HR.o (by rw[HMS.o];exact HZS.o);have hp:=AD w3 w.heap.size (mgA 4 zA zT zR ps zF).toList;have hq:=Al (P:=Tryz.prog) hE Tryz.underlying76 rfl (by rw[HMS.o];exact AA);refine bodyPost_ret (v:=.agg (mgA 4 zA zT zR ps zF)) ?_ ?_ ?_
      ·exact Ag 2 76 ⟨w.heap.size,0,none⟩ Tryz.results93 rfl hq
      ·rfl
      refine⟨_,rfl,?_,Ac HG.o hp (by have:=HR.o.lt;omega) Ae⟩;rw[EQ.o];exact⟨zA,zT,zR,ps,zF,rfl,(HM.o.keep hp (by have:=HGD.o;omega)).less (by have:=HGD.o;omega)⟩
     ·have d4:((t.toNat:Int)==110)=false:=by simp;intro e;exact m4 (UInt8.toNat_inj.1 (by rw[show(110:UInt8).toNat=110 from rfl];omega))
      by_cases m5:t=126
      ·have d5:((t.toNat:Int)==126)=true:=by rw[m5];rfl
       have EQ:=I (show mgQ (t :: r)=⟨5,as0,tg0,re0,ap0,(faQ (Ah t (some (t :: r)))).1⟩ by subst m5;rfl);obtain⟨s0,es0⟩:∃s,s=Ah t (some (t :: r)):=⟨_,rfl⟩;rw[←es0] at c1 hl1 EQ;have T1:=I (fun g w1 h=>LS g s0 w1 h hl1);clear es0 hl1 hl0 hs h hcell hu m1 m2 m3 m4 m5;go_enter Tryz.func93,Tryz.ntmps93
       go_upto_region 1 with fail
       rw[←ezz,←eW];clear ezz eW
       go_upto_region 3 with fail
       replace HR:=I (show Blk W.drew _ _ _ from HR.o.drewN 1);replace HG:=I (show Below _ _ W.drew from below_drewN HG.o 1)
       go_region_held3 (fun w'=>w'.cell? ⟨bb,oo,none⟩=some (.int .u8 (t.toNat:Int))) (exact HRD.o _ HG.o) ((first
        |(go_at_call 132;refine Calls.mono (c0.o _ HG.o) ?_;rintro e wo ⟨go,rfl,hgo,hco,hb⟩;clear c0;have HC:=I hco;have HGO:=I (show w.heap.size+1≤go by have:=HWS.o;have:W.drew.heap.size=W.heap.size:=rfl;omega);replace HR:=I (HR.o.below hb);replace HG:=HG.t hb;have HWO:=I (show w.heap.size+1≤wo.heap.size by have:=hb.size;have:=HWS.o;have:W.drew.heap.size=W.heap.size:=rfl;omega);clear hgo hco hb)
        |(go_at_call 133;refine Calls.mono (c1.o _ _ HC.o) ?_;rintro e wi ⟨⟨gd,rfl,hgd,hd⟩,hc,hg⟩;clear c1 HC;have HD:=I hd;have HGD:=I (show w.heap.size+1≤gd by have:=HWO.o;omega);have HDL:=I (Cd hd);replace HR:=I (HR.o.grown hg (by intro e;injection e with e;have:=HGO.o;omega));replace HG:=I (Ac HG.o hg HG.o.size (by have:=HGO.o;omega));clear hgd hd hc hg HWO HGO)))
       have k9:=HRD.o _ HG.o
       go_wp2_with (first
        |(go_at_call 138;refine Calls.mono (T1.o _ _ HD.o) ?_;rintro e w3 ⟨ps,rfl,ho,hg⟩;clear T1 HD;replace HR:=I (HR.o.grown hg (by intro e;injection e with e;have:=HGD.o;omega));replace HG:=I (Ac HG.o hg HG.o.size (by have:=HGD.o;omega));have HBT:=I (LX ho);have HM:=I (show MpO w3 (gd+1) zA zT zR zP ps ⟨5,as0,tg0,re0,ap0,(faQ s0).1⟩ from⟨zA_v,zT_o _ _,zR_o _ _,zP_o _ _,ho⟩);have HMS:=I (HM.o.toV.size 5);have HMO:=I (HM.o.toV.one 5);clear hg ho)
        |(refine Am (by rfl) 76 #[(0,.const (.int .i64 5)),(5,.tmp 40)] (by rfl) (mgA 5 zA zT zR zP ps) (by simp only[List.map_toArray,List.map_cons,List.map_nil];exact HBT.o) ?_)
        |(refine wpList_store_mid (by rfl) 76 (.tmp 2) (.tmp 41) (by rfl) w.heap.size 0 (mgA 5 zA zT zR zP ps) (by rfl) (by rfl) (Ao HR.o _ (by rw[HMS.o];have:=HZS.o;omega)) (by rw[HMS.o];exact AA) HMO.o ?_)
        |fail)
       have hE:=Ax (ds:=mgA 5 zA zT zR zP ps) HR.o (by rw[HMS.o];exact HZS.o);have hp:=AD w3 w.heap.size (mgA 5 zA zT zR zP ps).toList;have hq:=Al (P:=Tryz.prog) hE Tryz.underlying76 rfl (by rw[HMS.o];exact AA);refine bodyPost_ret (v:=.agg (mgA 5 zA zT zR zP ps)) ?_ ?_ ?_
       ·exact Ag 2 76 ⟨w.heap.size,0,none⟩ Tryz.results93 rfl hq
       ·rfl
       refine⟨_,rfl,?_,Ac HG.o hp (by have:=HR.o.lt;omega) Ae⟩;rw[EQ.o];exact⟨zA,zT,zR,zP,ps,rfl,(HM.o.keep hp (by have:=HGD.o;omega)).less (by have:=HGD.o;omega)⟩
      ·have d5:((t.toNat:Int)==126)=false:=by simp;intro e;exact m5 (UInt8.toNat_inj.1 (by rw[show(126:UInt8).toNat=126 from rfl];omega))
       have EQ:=I (show mgQ (t :: r)=⟨0,as0,tg0,re0,ap0,fa0⟩ by simp only[mgQ,if_neg m1,if_neg m2,if_neg m3,if_neg m4,if_neg m5];rfl);have HMS:=I ((zM_v w 0 0).size 0);have HMO:=I ((zM_v w 0 0).one 0);clear m1 m2 m3 m4 m5 hl1 hl0 hs h hcell hu;go_enter Tryz.func93,Tryz.ntmps93
       go_upto_region 1 with fail
       rw[←ezz,←eW];clear ezz eW
       go_upto_region 3 with fail
       replace HR:=I (show Blk W.drew _ _ _ from HR.o.drewN 1);replace HG:=I (show Below _ _ W.drew from below_drewN HG.o 1)
       go_region_held3 (fun w'=>w'.cell? ⟨bb,oo,none⟩=some (.int .u8 (t.toNat:Int))) (exact HRD.o _ HG.o) ((first
        |(go_at_call 132;refine Calls.mono (c0.o _ HG.o) ?_;rintro e wo ⟨go,rfl,hgo,hco,hb⟩;clear c0;have HC:=I hco;have HGO:=I (show w.heap.size+1≤go by have:=HWS.o;have:W.drew.heap.size=W.heap.size:=rfl;omega);replace HR:=I (HR.o.below hb);replace HG:=HG.t hb;have HWO:=I (show w.heap.size+1≤wo.heap.size by have:=hb.size;have:=HWS.o;have:W.drew.heap.size=W.heap.size:=rfl;omega);clear hgo hco hb)
        |(go_at_call 133;refine Calls.mono (c1.o _ _ HC.o) ?_;rintro e wi ⟨⟨gd,rfl,hgd,hd⟩,hc,hg⟩;clear c1 HC;have HD:=I hd;have HGD:=I (show w.heap.size+1≤gd by have:=HWO.o;omega);have HDL:=I (Cd hd);replace HR:=I (HR.o.grown hg (by intro e;injection e with e;have:=HGO.o;omega));replace HG:=I (Ac HG.o hg HG.o.size (by have:=HGO.o;omega));clear hgd hd hc hg HWO HGO)))
       have k9:=HRD.o _ HG.o
       go_wp2_with (first
        |(refine Am (by rfl) 76 #[] (by rfl) (mgA 0 zA zT zR zP zF) Eo ?_)
        |(refine wpList_store_mid (by rfl) 76 (.tmp 2) (.tmp 42) (by rfl) w.heap.size 0 (mgA 0 zA zT zR zP zF) (by rfl) (by rfl) (Ao HR.o _ (by rw[HMS.o];have:=HZS.o;omega)) (by rw[HMS.o];exact AA) HMO.o ?_)
        |fail)
       have hE:=Ax (ds:=mgA 0 zA zT zR zP zF) HR.o (by rw[HMS.o];exact HZS.o);have hp:=AD wi w.heap.size (mgA 0 zA zT zR zP zF).toList;have hq:=Al (P:=Tryz.prog) hE Tryz.underlying76 rfl (by rw[HMS.o];exact AA);refine bodyPost_ret (v:=.agg (mgA 0 zA zT zR zP zF)) ?_ ?_ ?_
       ·exact Ag 2 76 ⟨w.heap.size,0,none⟩ Tryz.results93 rfl hq
       ·rfl
       refine⟨_,rfl,?_,Ac HG.o hp (by have:=HR.o.lt;omega) Ae⟩;rw[EQ.o];exact⟨zA,zT,zR,zP,zF,rfl,⟨zA_v,zT_o _ _,zR_o _ _,zP_o _ _,zF_v⟩⟩
def mgG (b:L):Mg:=(mgD b).getD mg0
def mgI (b:L):Int:=if (mgD b).isSome then 0 else 2
theorem BJ:pSm pr0:=⟨by decide,by decide⟩
theorem OK {b:L} (hl:b.length≤100000):mSm (mgQ b):=by
 have z:=BJ;have hz:mSm ⟨0,as0,tg0,re0,ap0,fa0⟩:=⟨⟨z,z⟩,⟨z,z⟩,⟨z,z⟩,z⟩;cases b with
 |nil=>exact hz
 |cons t r=>
  have h0:∀u,((Ah u (some (t :: r))).getD []).length≤100000:=fun u=>Ey u (show((some (t :: r):Option L).getD []).length≤100000 from hl)
  simp only[mgQ]
  split
  ·exact⟨⟨Ez (h0 _),Ez (BI 48 (h0 _))⟩,⟨z,z⟩,⟨z,z⟩,z⟩
  ·split
   ·exact⟨⟨z,z⟩,⟨Ez (Ey 97 (h0 _)),Ez (BI 4 (BI 97 (h0 _)))⟩,⟨z,z⟩,z⟩
   ·split
    ·exact⟨⟨z,z⟩,⟨z,z⟩,⟨Ez (h0 _),Ez (Ey 97 (BI 48 (h0 _)))⟩,z⟩
    ·split
     ·exact⟨⟨z,z⟩,⟨z,z⟩,⟨z,z⟩,Ez (Ey 97 (h0 _))⟩
     ·split
      ·exact⟨⟨z,z⟩,⟨z,z⟩,⟨z,z⟩,z⟩
      ·exact hz
theorem zz_o (w:World) (B:Nat):MgO w B (mgA 0 zA zT zR zP zF) mg0:=⟨_,_,_,_,_,rfl,zM_o w B 0⟩
theorem Kx (A:Option Addr) (b:L) (c:Nat) (w:World) (hr:Rd w w.heap.size A (bvs b)):Calls Tryz.prog 92 #[.slice A b.length c,.func (.func 93) #[] #[],.func (.func 94) #[] #[]] w fun e w'=>∃ds,e = .returned (.tuple #[.agg ds,.int .i64 (mgI b)])∧MgO w' w.heap.size ds (mgG b)∧Below w.heap.size w w':=by
 obtain⟨zz,ezz⟩:∃z:Array Value,z=#[.int .i64 0,.string ⟨#[]⟩,.string ⟨#[]⟩,.string ⟨#[]⟩,.string ⟨#[]⟩,.int .i64 0,.int .i64 0,.string ⟨#[]⟩,.string ⟨#[]⟩,.int .i64 0,.slice none 0 0,.slice none 0 0,.string ⟨#[]⟩,.string ⟨#[]⟩,.int .i64 0,.int .i64 0,.string ⟨#[]⟩,.string ⟨#[]⟩,.string ⟨#[]⟩,.string ⟨#[]⟩,.int .i64 0,.slice none 0 0,.slice none 0 0,.string ⟨#[]⟩,.string ⟨#[]⟩,.int .i64 0,.slice none 0 0,.slice none 0 0,.int .i64 0,.int .i64 0]:=⟨_,rfl⟩;have ez0:zz=mgA 0 zA zT zR zP zF:=by rw[ezz];rfl
 have hz:∀(w1:World) (B:Nat),MgO w1 B zz mg0:=fun w1 B=>by rw[ez0];exact zz_o w1 B
 have hzs:zz.size=30:=(hz w 0).size;obtain⟨W,eW⟩:∃W,W=(w.alloc (.cells zz 76)).alloc (.cells zz 76):=⟨_,rfl⟩;have hWs:W.heap.size=w.heap.size+1+1:=by rw[eW];simp
 have hq:=Blk.new (w.alloc (.cells zz 76)) 76 zz;rw[show(w.alloc (.cells zz 76)).heap.size=w.heap.size+1 by simp,←eW] at hq;have HZ:=I hq;clear hq;have HR:=I (show Blk W w.heap.size 76 zz by rw[eW];exact(Blk.new _ _ _).alloc _);have HG:=I (show Below w.heap.size w W by rw[eW];exact(Af.alloc Ae _).alloc (by simp) _);have HRD:=I (fun w1 (h:Below w.heap.size w w1)=>(hr.below h).more h.size);have HIZ:=I (show(Tryz.prog.info? 76).map (·.size)=some zz.size by rw[hzs];exact AA);have HZO:=I (show zz.all (·.oneCell')=true from(hz w 0).one);have HZS:=I hzs;have HZM:=I hz;have ED:=I (Ny b);have HWS:=I hWs;clear hWs hzs ez0 hz
 by_cases hl:b.length≤2000
 ·have t1:decide ((2000:Int)<(b.length:Int))=false:=decide_eq_false (by omega)
  have hl1:b.length≤100000:=by omega
  have hsm:=OK hl1;have T1:=I (fun w1 (h:Rd w1 w1.heap.size A (bvs b))=>Ho A b c w1 h hl1);have EN:=I (fun w1 cs (h:MgV w1 w1.heap.size cs (mgQ b))=>Kw cs (mgQ b) w1 h hsm);have BE:=I (fun(l:L) (g c2:Nat) (w1:World) (h:Rd w1 w1.heap.size (some ⟨g,0,none⟩) (bvs l)) (hb:Below w.heap.size w w1)=>Fq l b (some ⟨g,0,none⟩) A c2 c w1.heap.size w1 h (HRD.o w1 hb));clear hl hl1 hr hsm;cases ho:mgO (mgQ b) with
  |none=>
   rw[ho] at EN;have hD:mgD b=none:=by rw[ED.o,ho];rfl
   have GE:=I (show mgG b=mg0 by rw[mgG,hD];rfl);have IE:=I (show mgI b=2 by rw[mgI,hD];rfl);clear ED ho hD BE;go_enter Tryz.func92,Tryz.ntmps92
   go_upto_region 2 with fail
   rw[←ezz,←eW];clear ezz eW
   go_wp2_with (first
    |(refine Ak (by rfl) 76 (.tmp 8) (by rfl) (w.heap.size+1) 0 (by rfl) zz _ (Aj HZ.o) Tryz.underlying76 (by rfl) HIZ.o ?_)
    |(refine wpList_store_mid (by rfl) 76 (.tmp 6) (.tmp 33) (by rfl) w.heap.size 0 zz (by rfl) (by rfl) (Ao HR.o _ Ae) HIZ.o HZO.o ?_)
    |(go_at_call 93;refine Calls.mono (T1.o _ (HRD.o _ HG.o)) ?_;rintro e w4 ⟨cs,rfl,hv,hb⟩;clear T1;have HV:=I (hv.less (show w.heap.size+1≤_ by have:=HR.o.lt;omega));have HCI:=I (show(Tryz.prog.info? 76).map (·.size)=some cs.size by rw[hv.size];exact AA);have HCO:=I (show cs.all (·.oneCell')=true from hv.one);have HCS:=I hv.size;clear hv;replace HZ:=I (HZ.o.below hb);replace HR:=I (HR.o.below hb);replace HG:=HG.t hb;clear hb)
    |(refine wpList_store_mid (by rfl) 76 (.tmp 9) (.tmp 18) (by rfl) w4.heap.size 0 cs (by rfl) (by rfl) (Ao (Blk.new w4 76 #[.int .i64 0,.string ⟨#[]⟩,.string ⟨#[]⟩,.string ⟨#[]⟩,.string ⟨#[]⟩,.int .i64 0,.int .i64 0,.string ⟨#[]⟩,.string ⟨#[]⟩,.int .i64 0,.slice none 0 0,.slice none 0 0,.string ⟨#[]⟩,.string ⟨#[]⟩,.int .i64 0,.int .i64 0,.string ⟨#[]⟩,.string ⟨#[]⟩,.string ⟨#[]⟩,.string ⟨#[]⟩,.int .i64 0,.slice none 0 0,.slice none 0 0,.string ⟨#[]⟩,.string ⟨#[]⟩,.int .i64 0,.slice none 0 0,.slice none 0 0,.int .i64 0,.int .i64 0]) _ (by have:=HCS.o;simp;omega)) HCI.o HCO.o ?_;have hV:=AV w4 76 #[.int .i64 0,.string ⟨#[]⟩,.string ⟨#[]⟩,.string ⟨#[]⟩,.string ⟨#[]⟩,.int .i64 0,.int .i64 0,.string ⟨#[]⟩,.string ⟨#[]⟩,.int .i64 0,.slice none 0 0,.slice none 0 0,.string ⟨#[]⟩,.string ⟨#[]⟩,.int .i64 0,.int .i64 0,.string ⟨#[]⟩,.string ⟨#[]⟩,.string ⟨#[]⟩,.string ⟨#[]⟩,.int .i64 0,.slice none 0 0,.slice none 0 0,.string ⟨#[]⟩,.string ⟨#[]⟩,.int .i64 0,.slice none 0 0,.slice none 0 0,.int .i64 0,.int .i64 0] cs (by have:=HCS.o;simp;omega);generalize ((w4.alloc (.cells #[.int .i64 0,.string ⟨#[]⟩,.string ⟨#[]⟩,.string ⟨#[]⟩,.string ⟨#[]⟩,.int .i64 0,.int .i64 0,.string ⟨#[]⟩,.string ⟨#[]⟩,.int .i64 0,.slice none 0 0,.slice none 0 0,.string ⟨#[]⟩,.string ⟨#[]⟩,.int .i64 0,.int .i64 0,.string ⟨#[]⟩,.string ⟨#[]⟩,.string ⟨#[]⟩,.string ⟨#[]⟩,.int .i64 0,.slice none 0 0,.slice none 0 0,.string ⟨#[]⟩,.string ⟨#[]⟩,.int .i64 0,.slice none 0 0,.slice none 0 0,.int .i64 0,.int .i64 0] 76)).setCells w4.heap.size 0 cs.toList)=V at hV⊢;have HX:=I hV.1;replace HV:=I (HV.o.below hV.2);replace HZ:=I (HZ.o.below hV.2);replace HR:=I (HR.o.below hV.2);replace HG:=I (HG.o.trans (hV.2.mono HG.o.size));clear hV)
    |(refine Ak (by rfl) 76 (.tmp 9) (by rfl) w4.heap.size 0 (by rfl) cs _ (Aj HX.o) Tryz.underlying76 (by rfl) HCI.o ?_)
    |(go_at_call 94;refine Calls.mono (EN.o _ _ HV.o.toV) ?_;rintro e we ⟨⟨v,i,rfl,hn,hsm⟩,hb⟩;obtain⟨rfl,rfl⟩:=hn rfl;clear EN;replace HV:=I (HV.o.below hb);replace HX:=I (HX.o.below hb);replace HZ:=I (HZ.o.below hb);replace HR:=I (HR.o.below hb);replace HG:=HG.t hb;clear hb hn hsm)
    |fail)
   have hE:=Ax (ds:=zz) HR.o (by rfl);have hp:=AD we w.heap.size zz.toList;have hq:=Al (P:=Tryz.prog) hE Tryz.underlying76 rfl HIZ.o;refine bodyPost_ret (v:=.tuple #[.agg zz,.int .i64 2]) ?_ ?_ ?_
   ·exact AJ (v:=.agg zz) 6 7 76 ⟨w.heap.size,0,none⟩ Tryz.results92 rfl hq rfl
   ·rfl
   refine⟨_,by rw[IE.o],?_,Ac HG.o hp (by have:=HR.o.lt;omega) Ae⟩;rw[GE.o];exact HZM.o _ _
  |some l=>
   rw[ho] at EN
   by_cases hlb:l=b
   ·have BF:=I (decide_eq_true hlb)
    have hD:mgD b=some (mgQ b):=by rw[ED.o,ho,if_pos (by rw[hlb])]
    have GE:=I (show mgG b=mgQ b by rw[mgG,hD];rfl);have IE:=I (show mgI b=0 by rw[mgI,hD];rfl);clear ED ho hlb hD;go_enter Tryz.func92,Tryz.ntmps92
    go_upto_region 2 with fail
    rw[←ezz,←eW];clear ezz eW
    go_wp2_with (first
     |(refine Ak (by rfl) 76 (.tmp 8) (by rfl) (w.heap.size+1) 0 (by rfl) zz _ (Aj HZ.o) Tryz.underlying76 (by rfl) HIZ.o ?_)
     |(refine wpList_store_mid (by rfl) 76 (.tmp 6) (.tmp 34) (by rfl) w.heap.size 0 cs (by rfl) (by rfl) (Ao HR.o _ (by have:=HZS.o;have:=HCS.o;omega)) HCI.o HCO.o ?_)
     |(go_at_call 93;refine Calls.mono (T1.o _ (HRD.o _ HG.o)) ?_;rintro e w4 ⟨cs,rfl,hv,hb⟩;clear T1;have HV:=I (hv.less (show w.heap.size+1≤_ by have:=HR.o.lt;omega));have HCI:=I (show(Tryz.prog.info? 76).map (·.size)=some cs.size by rw[hv.size];exact AA);have HCO:=I (show cs.all (·.oneCell')=true from hv.one);have HCS:=I hv.size;clear hv;replace HZ:=I (HZ.o.below hb);replace HR:=I (HR.o.below hb);replace HG:=HG.t hb;clear hb)
     |(refine wpList_store_mid (by rfl) 76 (.tmp 9) (.tmp 18) (by rfl) w4.heap.size 0 cs (by rfl) (by rfl) (Ao (Blk.new w4 76 #[.int .i64 0,.string ⟨#[]⟩,.string ⟨#[]⟩,.string ⟨#[]⟩,.string ⟨#[]⟩,.int .i64 0,.int .i64 0,.string ⟨#[]⟩,.string ⟨#[]⟩,.int .i64 0,.slice none 0 0,.slice none 0 0,.string ⟨#[]⟩,.string ⟨#[]⟩,.int .i64 0,.int .i64 0,.string ⟨#[]⟩,.string ⟨#[]⟩,.string ⟨#[]⟩,.string ⟨#[]⟩,.int .i64 0,.slice none 0 0,.slice none 0 0,.string ⟨#[]⟩,.string ⟨#[]⟩,.int .i64 0,.slice none 0 0,.slice none 0 0,.int .i64 0,.int .i64 0]) _ (by have:=HCS.o;simp;omega)) HCI.o HCO.o ?_;have hV:=AV w4 76 #[.int .i64 0,.string ⟨#[]⟩,.string ⟨#[]⟩,.string ⟨#[]⟩,.string ⟨#[]⟩,.int .i64 0,.int .i64 0,.string ⟨#[]⟩,.string ⟨#[]⟩,.int .i64 0,.slice none 0 0,.slice none 0 0,.string ⟨#[]⟩,.string ⟨#[]⟩,.int .i64 0,.int .i64 0,.string ⟨#[]⟩,.string ⟨#[]⟩,.string ⟨#[]⟩,.string ⟨#[]⟩,.int .i64 0,.slice none 0 0,.slice none 0 0,.string ⟨#[]⟩,.string ⟨#[]⟩,.int .i64 0,.slice none 0 0,.slice none 0 0,.int .i64 0,.int .i64 0] cs (by have:=HCS.o;simp;omega);generalize ((w4.alloc (.cells #[.int .i64 0,.string ⟨#[]⟩,.string ⟨#[]⟩,.string ⟨#[]⟩,.string ⟨#[]⟩,.int .i64 0,.int .i64 0,.string ⟨#[]⟩,.string ⟨#[]⟩,.int .i64 0,.slice none 0 0,.slice none 0 0,.string ⟨#[]⟩,.string ⟨#[]⟩,.int .i64 0,.int .i64 0,.string ⟨#[]⟩,.string ⟨#[]⟩,.string ⟨#[]⟩,.string ⟨#[]⟩,.int .i64 0,.slice none 0 0,.slice none 0 0,.string ⟨#[]⟩,.string ⟨#[]⟩,.int .i64 0,.slice none 0 0,.slice none 0 0,.int .i64 0,.int .i64 0] 76)).setCells w4.heap.size 0 cs.toList)=V at hV⊢;have HX:=I hV.1;replace HV:=I (HV.o.below hV.2);replace HZ:=I (HZ.o.below hV.2);replace HR:=I (HR.o.below hV.2);replace HG:=I (HG.o.trans (hV.2.mono HG.o.size));clear hV)
     |(refine Ak (by rfl) 76 (.tmp 9) (by rfl) w4.heap.size 0 (by rfl) cs _ (Aj HX.o) Tryz.underlying76 (by rfl) HCI.o ?_)
     |(go_at_call 94;refine Calls.mono (EN.o _ _ HV.o.toV) ?_;rintro e we ⟨⟨v,i,rfl,hn,hsm⟩,hb⟩;obtain⟨rfl,gx,cx,rfl,hgx,hcx,hrx⟩:=hsm l rfl;have HRX:=I hrx;clear hgx hcx hrx;clear EN;replace HV:=I (HV.o.below hb);replace HX:=I (HX.o.below hb);replace HZ:=I (HZ.o.below hb);replace HR:=I (HR.o.below hb);replace HG:=HG.t hb;clear hb hn hsm)
     |(go_at_call 131;refine Calls.mono (BE.o l gx cx _ HRX.o HG.o) ?_;rw[BF.o];rintro e wb ⟨rfl,hw⟩;subst hw;clear BE)
     |fail)
    have hE:=Ax (ds:=cs) HR.o (by have:=HZS.o;have:=HCS.o;omega);have hp:=AD we w.heap.size cs.toList;have hq:=Al (P:=Tryz.prog) hE Tryz.underlying76 rfl HCI.o;refine bodyPost_ret (v:=.tuple #[.agg cs,.int .i64 0]) ?_ ?_ ?_
    ·exact AJ (v:=.agg cs) 6 7 76 ⟨w.heap.size,0,none⟩ Tryz.results92 rfl hq rfl
    ·rfl
    refine⟨_,by rw[IE.o],?_,Ac HG.o hp (by have:=HR.o.lt;omega) Ae⟩;rw[GE.o];exact(HV.o.keep hp (by omega)).less (by omega)
   ·have BF:=I (decide_eq_false hlb)
    have hD:mgD b=none:=by rw[ED.o,ho,if_neg (fun h=>hlb (Option.some.inj h))]
    have GE:=I (show mgG b=mg0 by rw[mgG,hD];rfl);have IE:=I (show mgI b=2 by rw[mgI,hD];rfl);clear ED ho hlb hD;go_enter Tryz.func92,Tryz.ntmps92
    go_upto_region 2 with fail
    rw[←ezz,←eW];clear ezz eW
    go_wp2_with (first
     |(refine Ak (by rfl) 76 (.tmp 8) (by rfl) (w.heap.size+1) 0 (by rfl) zz _ (Aj HZ.o) Tryz.underlying76 (by rfl) HIZ.o ?_)
     |(refine wpList_store_mid (by rfl) 76 (.tmp 6) (.tmp 33) (by rfl) w.heap.size 0 zz (by rfl) (by rfl) (Ao HR.o _ Ae) HIZ.o HZO.o ?_)
     |(go_at_call 93;refine Calls.mono (T1.o _ (HRD.o _ HG.o)) ?_;rintro e w4 ⟨cs,rfl,hv,hb⟩;clear T1;have HV:=I (hv.less (show w.heap.size+1≤_ by have:=HR.o.lt;omega));have HCI:=I (show(Tryz.prog.info? 76).map (·.size)=some cs.size by rw[hv.size];exact AA);have HCO:=I (show cs.all (·.oneCell')=true from hv.one);have HCS:=I hv.size;clear hv;replace HZ:=I (HZ.o.below hb);replace HR:=I (HR.o.below hb);replace HG:=HG.t hb;clear hb)
     |(refine wpList_store_mid (by rfl) 76 (.tmp 9) (.tmp 18) (by rfl) w4.heap.size 0 cs (by rfl) (by rfl) (Ao (Blk.new w4 76 #[.int .i64 0,.string ⟨#[]⟩,.string ⟨#[]⟩,.string ⟨#[]⟩,.string ⟨#[]⟩,.int .i64 0,.int .i64 0,.string ⟨#[]⟩,.string ⟨#[]⟩,.int .i64 0,.slice none 0 0,.slice none 0 0,.string ⟨#[]⟩,.string ⟨#[]⟩,.int .i64 0,.int .i64 0,.string ⟨#[]⟩,.string ⟨#[]⟩,.string ⟨#[]⟩,.string ⟨#[]⟩,.int .i64 0,.slice none 0 0,.slice none 0 0,.string ⟨#[]⟩,.string ⟨#[]⟩,.int .i64 0,.slice none 0 0,.slice none 0 0,.int .i64 0,.int .i64 0]) _ (by have:=HCS.o;simp;omega)) HCI.o HCO.o ?_;have hV:=AV w4 76 #[.int .i64 0,.string ⟨#[]⟩,.string ⟨#[]⟩,.string ⟨#[]⟩,.string ⟨#[]⟩,.int .i64 0,.int .i64 0,.string ⟨#[]⟩,.string ⟨#[]⟩,.int .i64 0,.slice none 0 0,.slice none 0 0,.string ⟨#[]⟩,.string ⟨#[]⟩,.int .i64 0,.int .i64 0,.string ⟨#[]⟩,.string ⟨#[]⟩,.string ⟨#[]⟩,.string ⟨#[]⟩,.int .i64 0,.slice none 0 0,.slice none 0 0,.string ⟨#[]⟩,.string ⟨#[]⟩,.int .i64 0,.slice none 0 0,.slice none 0 0,.int .i64 0,.int .i64 0] cs (by have:=HCS.o;simp;omega);generalize ((w4.alloc (.cells #[.int .i64 0,.string ⟨#[]⟩,.string ⟨#[]⟩,.string ⟨#[]⟩,.string ⟨#[]⟩,.int .i64 0,.int .i64 0,.string ⟨#[]⟩,.string ⟨#[]⟩,.int .i64 0,.slice none 0 0,.slice none 0 0,.string ⟨#[]⟩,.string ⟨#[]⟩,.int .i64 0,.int .i64 0,.string ⟨#[]⟩,.string ⟨#[]⟩,.string ⟨#[]⟩,.string ⟨#[]⟩,.int .i64 0,.slice none 0 0,.slice none 0 0,.string ⟨#[]⟩,.string ⟨#[]⟩,.int .i64 0,.slice none 0 0,.slice none 0 0,.int .i64 0,.int .i64 0] 76)).setCells w4.heap.size 0 cs.toList)=V at hV⊢;have HX:=I hV.1;replace HV:=I (HV.o.below hV.2);replace HZ:=I (HZ.o.below hV.2);replace HR:=I (HR.o.below hV.2);replace HG:=I (HG.o.trans (hV.2.mono HG.o.size));clear hV)
     |(refine Ak (by rfl) 76 (.tmp 9) (by rfl) w4.heap.size 0 (by rfl) cs _ (Aj HX.o) Tryz.underlying76 (by rfl) HCI.o ?_)
     |(go_at_call 94;refine Calls.mono (EN.o _ _ HV.o.toV) ?_;rintro e we ⟨⟨v,i,rfl,hn,hsm⟩,hb⟩;obtain⟨rfl,gx,cx,rfl,hgx,hcx,hrx⟩:=hsm l rfl;have HRX:=I hrx;clear hgx hcx hrx;clear EN;replace HV:=I (HV.o.below hb);replace HX:=I (HX.o.below hb);replace HZ:=I (HZ.o.below hb);replace HR:=I (HR.o.below hb);replace HG:=HG.t hb;clear hb hn hsm)
     |(go_at_call 131;refine Calls.mono (BE.o l gx cx _ HRX.o HG.o) ?_;rw[BF.o];rintro e wb ⟨rfl,hw⟩;subst hw;clear BE)
     |fail)
    have hE:=Ax (ds:=zz) HR.o (by rfl);have hp:=AD we w.heap.size zz.toList;have hq:=Al (P:=Tryz.prog) hE Tryz.underlying76 rfl HIZ.o;refine bodyPost_ret (v:=.tuple #[.agg zz,.int .i64 2]) ?_ ?_ ?_
    ·exact AJ (v:=.agg zz) 6 7 76 ⟨w.heap.size,0,none⟩ Tryz.results92 rfl hq rfl
    ·rfl
    refine⟨_,by rw[IE.o],?_,Ac HG.o hp (by have:=HR.o.lt;omega) Ae⟩;rw[GE.o];exact HZM.o _ _
 ·have t1:decide ((2000:Int)<(b.length:Int))=true:=decide_eq_true (by omega)
  have hD:mgD b=none:=by
   rw[ED.o,if_neg];intro h;have h2:=BM.1 h;exact hl (by rw[←h2.2.2];exact h2.2.1)
  have GE:=I (show mgG b=mg0 by rw[mgG,hD];rfl);have IE:=I (show mgI b=2 by rw[mgI,hD];rfl);clear ED hD hl hr HRD;go_enter Tryz.func92,Tryz.ntmps92
  go_upto_region 2 with fail
  rw[←ezz,←eW];clear ezz eW
  go_wp2_with (first
   |(refine Ak (by rfl) 76 (.tmp 8) (by rfl) (w.heap.size+1) 0 (by rfl) zz _ (Aj HZ.o) Tryz.underlying76 (by rfl) HIZ.o ?_)
   |(refine wpList_store_mid (by rfl) 76 (.tmp 6) (.tmp 15) (by rfl) w.heap.size 0 zz (by rfl) (by rfl) (Ao HR.o _ Ae) HIZ.o HZO.o ?_)
   |fail)
  have hE:=Ax (ds:=zz) HR.o (by rfl);have hp:=AD W w.heap.size zz.toList;have hq:=Al (P:=Tryz.prog) hE Tryz.underlying76 rfl HIZ.o;refine bodyPost_ret (v:=.tuple #[.agg zz,.int .i64 2]) ?_ ?_ ?_
  ·exact AJ (v:=.agg zz) 6 7 76 ⟨w.heap.size,0,none⟩ Tryz.results92 rfl hq rfl
  ·rfl
  refine⟨_,by rw[IE.o],?_,Ac HG.o hp (by have:=HR.o.lt;omega) Ae⟩;rw[GE.o];exact HZM.o _ _
theorem NJ (A:Option Addr) (b:L) (c:Nat) (w:World) (hr:Rd w w.heap.size A (bvs b)):Calls Tryz.prog 47 #[.slice A b.length c] w fun e w'=>∃ds,e = .returned (.tuple #[.agg ds,.int .i64 (mgI b)])∧MgO w' w.heap.size ds (mgG b)∧Below w.heap.size w w':=by
 obtain⟨zz,ezz⟩:∃z:Array Value,z=#[.int .i64 0,.string ⟨#[]⟩,.string ⟨#[]⟩,.string ⟨#[]⟩,.string ⟨#[]⟩,.int .i64 0,.int .i64 0,.string ⟨#[]⟩,.string ⟨#[]⟩,.int .i64 0,.slice none 0 0,.slice none 0 0,.string ⟨#[]⟩,.string ⟨#[]⟩,.int .i64 0,.int .i64 0,.string ⟨#[]⟩,.string ⟨#[]⟩,.string ⟨#[]⟩,.string ⟨#[]⟩,.int .i64 0,.slice none 0 0,.slice none 0 0,.string ⟨#[]⟩,.string ⟨#[]⟩,.int .i64 0,.slice none 0 0,.slice none 0 0,.int .i64 0,.int .i64 0]:=⟨_,rfl⟩;have HZS:=I (show zz.size=30 by rw[ezz];simp);have c1:=Kx A b c (w.alloc (.cells zz 76)) ((hr.alloc Ae _).more (by simp));have HR:=I (Blk.new w 76 zz);have HG:=I ((Below.refl w.heap.size w).alloc Ae (.cells zz 76));have HWS:=I (show(w.alloc (.cells zz 76)).heap.size=w.heap.size+1 by simp);clear hr;go_enter Tryz.func47,Tryz.ntmps47
 go_upto_region 1 with fail
 rw[←ezz];clear ezz
 go_wp2_with (first
  |(go_at_call 92;refine Calls.mono c1 ?_;rintro e w1 ⟨cs,rfl,hv,hb⟩;clear c1;have HV:=I (hv.less (show w.heap.size+1≤_ by have:=HWS.o;omega));have HI:=I (show(Tryz.prog.info? 76).map (·.size)=some cs.size by rw[hv.size];exact AA);have HO:=I (show cs.all (·.oneCell')=true from hv.one);have HCS:=I hv.size;clear hv;replace HR:=I (HR.o.below hb);replace HG:=HG.t hb;clear hb)
  |(refine wpList_store_mid (by rfl) 76 (.tmp 2) (.tmp 6) (by rfl) w.heap.size 0 cs (by rfl) (by rfl) (Ao HR.o _ (by have:=HZS.o;have:=HCS.o;omega)) HI.o HO.o ?_)
  |fail)
 have hE:=Ax (ds:=cs) HR.o (by have:=HZS.o;have:=HCS.o;omega);have hp:=AD w1 w.heap.size cs.toList;have hq:=Al (P:=Tryz.prog) hE Tryz.underlying76 rfl HI.o;refine bodyPost_ret (v:=.tuple #[.agg cs,.int .i64 (mgI b)]) ?_ ?_ ?_
 ·exact AJ (v:=.agg cs) 2 3 76 ⟨w.heap.size,0,none⟩ Tryz.results47 rfl hq rfl
 ·rfl
 exact⟨_,rfl,(HV.o.keep hp (by omega)).less (by omega),Ac HG.o hp (by have:=HR.o.lt;omega) Ae⟩
end Mc
end Go.Proofs.YtlfmicidppccnaaGreat
