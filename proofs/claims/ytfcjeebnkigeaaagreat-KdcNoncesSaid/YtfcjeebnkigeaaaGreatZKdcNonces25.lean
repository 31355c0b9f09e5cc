import Derived.Deep.LoopGhost
import Derived.Deep.RegionHeld3
import Derived.StillTailTactics
import Derived.BigQuiet
import Derived.Deep.QuietTactic
import Derived.DeepKeys
import Derived.Laws.StructEq
import Derived.Laws.OwnMore
import Derived.Test.YtfcjeebnkigeaaaGreatZKdcNonces1
import Derived.Test.YtfcjeebnkigeaaaGreatZKdcNonces2
import Derived.Test.YtfcjeebnkigeaaaGreatZKdcNonces3
import Derived.Test.YtfcjeebnkigeaaaGreatZKdcNonces4
import Derived.Test.YtfcjeebnkigeaaaGreatZKdcNonces5
import Derived.Test.YtfcjeebnkigeaaaGreatZKdcNonces6
import Derived.Test.YtfcjeebnkigeaaaGreatZKdcNonces7
import Derived.Test.YtfcjeebnkigeaaaGreatZKdcNonces8
import Derived.Test.YtfcjeebnkigeaaaGreatZKdcNonces9
import Derived.Test.YtfcjeebnkigeaaaGreatZKdcNonces11
import Derived.Test.YtfcjeebnkigeaaaGreatZKdcNonces12
import Derived.Test.YtfcjeebnkigeaaaGreatZKdcNonces13
import Derived.Test.YtfcjeebnkigeaaaGreatZKdcNonces14
import Derived.Test.YtfcjeebnkigeaaaGreatZKdcNonces15
import Derived.Test.YtfcjeebnkigeaaaGreatZKdcNonces16
import Derived.Test.YtfcjeebnkigeaaaGreatZKdcNonces17
import Derived.Test.YtfcjeebnkigeaaaGreatZKdcNonces22
import Derived.Test.YtfcjeebnkigeaaaGreatZKdcNonces23
import Derived.Test.YtfcjeebnkigeaaaGreatZKdcNonces24
section
set_option linter.unusedVariables false
set_option linter.unusedSimpArgs false
namespace Go.Proofs.YtfcjeebnkigeaaaGreat.Mc
open Go.RowKit Go.Proofs.YtfcjeebnkigeaaaGreat.Mem Go.Proofs.YtfcjeebnkigeaaaGreat.DerP Go.Proofs.YtfcjeebnkigeaaaGreat.DerC Go.Proofs.YtfcjeebnkigeaaaGreat.Ms
theorem eql_asV {pa qa:Array Value} {x y:As} (h:AsV pa x) (g:AsV qa y) (w:World):(Op.equalIn 10000 29 (.agg pa) (.agg qa)).run Tryz.prog w = .ok (decide (x=y)) w:=by rw[h,g];exact eql_as x y w
theorem eql_faV {pa qa:Array Value} {x y:Fa} (h:FaV pa x) (g:FaV qa y) (w:World):(Op.equalIn 10000 91 (.agg pa) (.agg qa)).run Tryz.prog w = .ok (decide (x=y)) w:=by rw[h,g];exact eql_fa x y w
theorem equaltg_v {pa qa:Array Value} {x y:Tg} (w:World) (h:TgV w w.heap.size pa x) (g:TgV w w.heap.size qa y):Calls Tryz.prog 247 #[.agg pa,.agg qa] w fun e w'=>e = .returned (.bool (decide (x=y)))∧Below w.heap.size w w':=by
 obtain⟨b,a,rfl,⟨A1,c1,rfl,_,h1⟩,⟨A2,c2,rfl,_,h2⟩⟩:=h
 obtain⟨b2,a2,rfl,⟨D1,d1,rfl,_,g1⟩,⟨D2,d2,rfl,_,g2⟩⟩:=g
 exact equaltg_any x y A1 A2 D1 D2 c1 c2 d1 d2 w h1 g1 h2 g2
theorem equalre_v {pa qa:Array Value} {x y:Re} (w:World) (h:ReV w w.heap.size pa x) (g:ReV w w.heap.size qa y):Calls Tryz.prog 248 #[.agg pa,.agg qa] w fun e w'=>e = .returned (.bool (decide (x=y)))∧Below w.heap.size w w':=by
 obtain⟨b,a,rfl,⟨A1,c1,rfl,_,h1⟩,⟨A2,c2,rfl,_,h2⟩⟩:=h
 obtain⟨b2,a2,rfl,⟨D1,d1,rfl,_,g1⟩,⟨D2,d2,rfl,_,g2⟩⟩:=g
 exact equalre_any x y A1 A2 D1 D2 c1 c2 d1 d2 w h1 g1 h2 g2
theorem equalap_v {pa qa:Array Value} {x y:Ap} (w:World) (h:ApV w w.heap.size pa x) (g:ApV w w.heap.size qa y):Calls Tryz.prog 249 #[.agg pa,.agg qa] w fun e w'=>e = .returned (.bool (decide (x=y)))∧Below w.heap.size w w':=by
 obtain⟨b,a,rfl,⟨A1,c1,rfl,_,h1⟩,⟨A2,c2,rfl,_,h2⟩⟩:=h
 obtain⟨b2,a2,rfl,⟨D1,d1,rfl,_,g1⟩,⟨D2,d2,rfl,_,g2⟩⟩:=g
 exact equalap_any x y A1 A2 D1 D2 c1 c2 d1 d2 w h1 g1 h2 g2
theorem mg_eq (m o:Mg):decide (m=o)=(decide (m.k=o.k)&&(decide (m.aq=o.aq)&&(decide (m.tg=o.tg)&&(decide (m.re=o.re)&&(decide (m.ap=o.ap)&&decide (m.fa=o.fa)))))):=by
 obtain⟨k,a,t,r,p,f⟩:=m
 obtain⟨k2,a2,t2,r2,p2,f2⟩:=o
 simp [Bool.decide_and]
set_option maxHeartbeats 12800000 in
theorem equal_any (cs ds:Array Value) (m o:Mg) (w:World) (h:MgV w w.heap.size cs m) (g:MgV w w.heap.size ds o):Calls Tryz.prog 189 #[.agg cs,.agg ds] w fun e w'=>e = .returned (.bool (decide (m=o)))∧Below w.heap.size w w':=by
 obtain⟨pa,pt,pr,pp,pf,hc,hp⟩:=h
 obtain⟨qa,qt,qr,qp,qf,hd,hq⟩:=g
 obtain⟨W,eW⟩:∃W,W=(w.alloc (.cells cs 93)).alloc (.cells ds 93):=⟨_,rfl⟩
 have HK:=Lib.hid (show Blk W w.heap.size 93 (mgA m.k pa pt pr pp pf) by rw[eW,←hc];exact(Blk.new _ _ _).alloc _)
 have hq1:=Blk.new (w.alloc (.cells cs 93)) 93 ds
 rw[show(w.alloc (.cells cs 93)).heap.size=w.heap.size+1 by simp,←eW,hd] at hq1
 have HL:=Lib.hid hq1
 clear hq1
 have HB:=Lib.hid (show Below w.heap.size w W by rw[eW];exact((Below.refl _ _).alloc (Nat.le_refl _) _).alloc (by simp) _)
 have HP:=Lib.hid hp
 have HQ:=Lib.hid hq
 have HA:=Lib.hid (hp.at_ HK.out)
 have HC:=Lib.hid (hq.at_ HL.out)
 have k0:=HA.out.k
 have k1:=HC.out.k
 have Tt:=Lib.hid (fun w1 (h:Below w.heap.size w w1)=>equaltg_v w1 ((hp.t.keep h).more h.size) ((hq.t.keep h).more h.size))
 have Tr:=Lib.hid (fun w1 (h:Below w.heap.size w w1)=>equalre_v w1 ((hp.r.keep h).more h.size) ((hq.r.keep h).more h.size))
 have Tp:=Lib.hid (fun w1 (h:Below w.heap.size w w1)=>equalap_v w1 ((hp.p.keep h).more h.size) ((hq.p.keep h).more h.size))
 have EA:=Lib.hid (fun w1=>eql_asV hp.a hq.a w1)
 have EF:=Lib.hid (fun w1=>eql_faV hp.f hq.f w1)
 have ME:=Lib.hid (mg_eq m o)
 clear hc hd hp hq
 cases ek:decide (m.k=o.k) with
 |false=>
  have tk:(m.k==o.k)=false:=by simpa using ek
  have E:=Lib.hid (show decide (m=o)=false by rw[ME.out,ek];rfl)
  clear ek
  go_enter Tryz.func189,Tryz.ntmps189
  go_upto_region 1 with fail
  rw[←eW]
  clear eW
  go_wp2
  go_ret
  exact⟨by rw[E.out];rfl,HB.out⟩
 |true=>
  have tk:(m.k==o.k)=true:=by simpa using ek
  cases ea:decide (m.aq=o.aq) with
  |false=>
   rw[ea] at EA
   have fa:=EA.out
   have E:=Lib.hid (show decide (m=o)=false by rw[ME.out,ek,ea];rfl)
   clear ek ea
   go_enter Tryz.func189,Tryz.ntmps189
   go_upto_region 1 with fail
   rw[←eW]
   clear eW
   go_wp2_with (first
    |(refine load_g (by rfl) 29 (.tmp 11) (by rfl) w.heap.size 1 (by rfl) pa _ HA.out.a Tryz.underlying29 (by rfl) (by rw[HP.out.a.size];exact as_info) ?_)
    |(refine load_g (by rfl) 29 (.tmp 13) (by rfl) (w.heap.size+1) 1 (by rfl) qa _ HC.out.a Tryz.underlying29 (by rfl) (by rw[HQ.out.a.size];exact as_info) ?_)
    |fail)
   go_ret
   exact⟨by rw[E.out];rfl,HB.out⟩
  |true=>
   rw[ea] at EA
   have fa:=EA.out
   cases et:decide (m.tg=o.tg) with
   |false=>
    rw[et] at Tt
    have E:=Lib.hid (show decide (m=o)=false by rw[ME.out,ek,ea,et];rfl)
    clear ek ea et
    go_enter Tryz.func189,Tryz.ntmps189
    go_upto_region 1 with fail
    rw[←eW]
    clear eW
    go_wp2_with (first
     |(refine load_g (by rfl) 29 (.tmp 11) (by rfl) w.heap.size 1 (by rfl) pa _ HA.out.a Tryz.underlying29 (by rfl) (by rw[HP.out.a.size];exact as_info) ?_)
     |(refine load_g (by rfl) 29 (.tmp 13) (by rfl) (w.heap.size+1) 1 (by rfl) qa _ HC.out.a Tryz.underlying29 (by rfl) (by rw[HQ.out.a.size];exact as_info) ?_)
     |(refine load_g (by rfl) 34 (.tmp 18) (by rfl) w.heap.size 7 (by rfl) pt _ HA.out.t Tryz.underlying34 (by rfl) (by rw[HP.out.t.size];exact tg_info) ?_)
     |(refine load_g (by rfl) 34 (.tmp 20) (by rfl) (w.heap.size+1) 7 (by rfl) qt _ HC.out.t Tryz.underlying34 (by rfl) (by rw[HQ.out.t.size];exact tg_info) ?_)
     |(go_at_call 247;refine Calls.mono (Tt.out _ HB.out) ?_;rintro e wt ⟨rfl,hb⟩;clear HA HC;replace HK:=Lib.hid (HK.out.below hb);replace HL:=Lib.hid (HL.out.below hb);replace HB:=Lib.hid (HB.out.trans (hb.mono HB.out.size));clear hb Tt;have HA:=Lib.hid (HP.out.at_ HK.out);have HC:=Lib.hid (HQ.out.at_ HL.out))
     |fail)
    go_ret
    exact⟨by rw[E.out];rfl,HB.out⟩
   |true=>
    rw[et] at Tt
    cases er:decide (m.re=o.re) with
    |false=>
     rw[er] at Tr
     have E:=Lib.hid (show decide (m=o)=false by rw[ME.out,ek,ea,et,er];rfl)
     clear ek ea et er
     go_enter Tryz.func189,Tryz.ntmps189
     go_upto_region 1 with fail
     rw[←eW]
     clear eW
     go_wp2_with (first
      |(refine load_g (by rfl) 29 (.tmp 11) (by rfl) w.heap.size 1 (by rfl) pa _ HA.out.a Tryz.underlying29 (by rfl) (by rw[HP.out.a.size];exact as_info) ?_)
      |(refine load_g (by rfl) 29 (.tmp 13) (by rfl) (w.heap.size+1) 1 (by rfl) qa _ HC.out.a Tryz.underlying29 (by rfl) (by rw[HQ.out.a.size];exact as_info) ?_)
      |(refine load_g (by rfl) 34 (.tmp 18) (by rfl) w.heap.size 7 (by rfl) pt _ HA.out.t Tryz.underlying34 (by rfl) (by rw[HP.out.t.size];exact tg_info) ?_)
      |(refine load_g (by rfl) 34 (.tmp 20) (by rfl) (w.heap.size+1) 7 (by rfl) qt _ HC.out.t Tryz.underlying34 (by rfl) (by rw[HQ.out.t.size];exact tg_info) ?_)
      |(go_at_call 247;refine Calls.mono (Tt.out _ HB.out) ?_;rintro e wt ⟨rfl,hb⟩;clear HA HC;replace HK:=Lib.hid (HK.out.below hb);replace HL:=Lib.hid (HL.out.below hb);replace HB:=Lib.hid (HB.out.trans (hb.mono HB.out.size));clear hb Tt;have HA:=Lib.hid (HP.out.at_ HK.out);have HC:=Lib.hid (HQ.out.at_ HL.out))
      |(refine load_g (by rfl) 38 (.tmp 25) (by rfl) w.heap.size 16 (by rfl) pr _ HA.out.r Tryz.underlying38 (by rfl) (by rw[HP.out.r.size];exact re_info) ?_)
      |(refine load_g (by rfl) 38 (.tmp 27) (by rfl) (w.heap.size+1) 16 (by rfl) qr _ HC.out.r Tryz.underlying38 (by rfl) (by rw[HQ.out.r.size];exact re_info) ?_)
      |(go_at_call 248;refine Calls.mono (Tr.out _ HB.out) ?_;rintro e wr ⟨rfl,hb⟩;clear HA HC;replace HK:=Lib.hid (HK.out.below hb);replace HL:=Lib.hid (HL.out.below hb);replace HB:=Lib.hid (HB.out.trans (hb.mono HB.out.size));clear hb Tr;have HA:=Lib.hid (HP.out.at_ HK.out);have HC:=Lib.hid (HQ.out.at_ HL.out))
      |fail)
     go_ret
     exact⟨by rw[E.out];rfl,HB.out⟩
    |true=>
     rw[er] at Tr
     cases ep:decide (m.ap=o.ap) with
     |false=>
      rw[ep] at Tp
      have E:=Lib.hid (show decide (m=o)=false by rw[ME.out,ek,ea,et,er,ep];rfl)
      clear ek ea et er ep
      go_enter Tryz.func189,Tryz.ntmps189
      go_upto_region 1 with fail
      rw[←eW]
      clear eW
      go_wp2_with (first
       |(refine load_g (by rfl) 29 (.tmp 11) (by rfl) w.heap.size 1 (by rfl) pa _ HA.out.a Tryz.underlying29 (by rfl) (by rw[HP.out.a.size];exact as_info) ?_)
       |(refine load_g (by rfl) 29 (.tmp 13) (by rfl) (w.heap.size+1) 1 (by rfl) qa _ HC.out.a Tryz.underlying29 (by rfl) (by rw[HQ.out.a.size];exact as_info) ?_)
       |(refine load_g (by rfl) 34 (.tmp 18) (by rfl) w.heap.size 7 (by rfl) pt _ HA.out.t Tryz.underlying34 (by rfl) (by rw[HP.out.t.size];exact tg_info) ?_)
       |(refine load_g (by rfl) 34 (.tmp 20) (by rfl) (w.heap.size+1) 7 (by rfl) qt _ HC.out.t Tryz.underlying34 (by rfl) (by rw[HQ.out.t.size];exact tg_info) ?_)
       |(go_at_call 247;refine Calls.mono (Tt.out _ HB.out) ?_;rintro e wt ⟨rfl,hb⟩;clear HA HC;replace HK:=Lib.hid (HK.out.below hb);replace HL:=Lib.hid (HL.out.below hb);replace HB:=Lib.hid (HB.out.trans (hb.mono HB.out.size));clear hb Tt;have HA:=Lib.hid (HP.out.at_ HK.out);have HC:=Lib.hid (HQ.out.at_ HL.out))
       |(refine load_g (by rfl) 38 (.tmp 25) (by rfl) w.heap.size 16 (by rfl) pr _ HA.out.r Tryz.underlying38 (by rfl) (by rw[HP.out.r.size];exact re_info) ?_)
       |(refine load_g (by rfl) 38 (.tmp 27) (by rfl) (w.heap.size+1) 16 (by rfl) qr _ HC.out.r Tryz.underlying38 (by rfl) (by rw[HQ.out.r.size];exact re_info) ?_)
       |(go_at_call 248;refine Calls.mono (Tr.out _ HB.out) ?_;rintro e wr ⟨rfl,hb⟩;clear HA HC;replace HK:=Lib.hid (HK.out.below hb);replace HL:=Lib.hid (HL.out.below hb);replace HB:=Lib.hid (HB.out.trans (hb.mono HB.out.size));clear hb Tr;have HA:=Lib.hid (HP.out.at_ HK.out);have HC:=Lib.hid (HQ.out.at_ HL.out))
       |(refine load_g (by rfl) 89 (.tmp 32) (by rfl) w.heap.size 23 (by rfl) pp _ HA.out.p Tryz.underlying89 (by rfl) (by rw[HP.out.p.size];exact ap_info) ?_)
       |(refine load_g (by rfl) 89 (.tmp 34) (by rfl) (w.heap.size+1) 23 (by rfl) qp _ HC.out.p Tryz.underlying89 (by rfl) (by rw[HQ.out.p.size];exact ap_info) ?_)
       |(go_at_call 249;refine Calls.mono (Tp.out _ HB.out) ?_;rintro e wp ⟨rfl,hb⟩;clear HA HC;replace HK:=Lib.hid (HK.out.below hb);replace HL:=Lib.hid (HL.out.below hb);replace HB:=Lib.hid (HB.out.trans (hb.mono HB.out.size));clear hb Tp;have HA:=Lib.hid (HP.out.at_ HK.out);have HC:=Lib.hid (HQ.out.at_ HL.out))
       |fail)
      go_ret
      exact⟨by rw[E.out];rfl,HB.out⟩
     |true=>
      rw[ep] at Tp
      cases ef:decide (m.fa=o.fa) with
      |false=>
       rw[ef] at EF
       have ff:=EF.out
       have E:=Lib.hid (show decide (m=o)=false by rw[ME.out,ek,ea,et,er,ep,ef];rfl)
       clear ek ea et er ep ef
       go_enter Tryz.func189,Tryz.ntmps189
       go_upto_region 1 with fail
       rw[←eW]
       clear eW
       go_wp2_with (first
        |(refine load_g (by rfl) 29 (.tmp 11) (by rfl) w.heap.size 1 (by rfl) pa _ HA.out.a Tryz.underlying29 (by rfl) (by rw[HP.out.a.size];exact as_info) ?_)
        |(refine load_g (by rfl) 29 (.tmp 13) (by rfl) (w.heap.size+1) 1 (by rfl) qa _ HC.out.a Tryz.underlying29 (by rfl) (by rw[HQ.out.a.size];exact as_info) ?_)
        |(refine load_g (by rfl) 34 (.tmp 18) (by rfl) w.heap.size 7 (by rfl) pt _ HA.out.t Tryz.underlying34 (by rfl) (by rw[HP.out.t.size];exact tg_info) ?_)
        |(refine load_g (by rfl) 34 (.tmp 20) (by rfl) (w.heap.size+1) 7 (by rfl) qt _ HC.out.t Tryz.underlying34 (by rfl) (by rw[HQ.out.t.size];exact tg_info) ?_)
        |(go_at_call 247;refine Calls.mono (Tt.out _ HB.out) ?_;rintro e wt ⟨rfl,hb⟩;clear HA HC;replace HK:=Lib.hid (HK.out.below hb);replace HL:=Lib.hid (HL.out.below hb);replace HB:=Lib.hid (HB.out.trans (hb.mono HB.out.size));clear hb Tt;have HA:=Lib.hid (HP.out.at_ HK.out);have HC:=Lib.hid (HQ.out.at_ HL.out))
        |(refine load_g (by rfl) 38 (.tmp 25) (by rfl) w.heap.size 16 (by rfl) pr _ HA.out.r Tryz.underlying38 (by rfl) (by rw[HP.out.r.size];exact re_info) ?_)
        |(refine load_g (by rfl) 38 (.tmp 27) (by rfl) (w.heap.size+1) 16 (by rfl) qr _ HC.out.r Tryz.underlying38 (by rfl) (by rw[HQ.out.r.size];exact re_info) ?_)
        |(go_at_call 248;refine Calls.mono (Tr.out _ HB.out) ?_;rintro e wr ⟨rfl,hb⟩;clear HA HC;replace HK:=Lib.hid (HK.out.below hb);replace HL:=Lib.hid (HL.out.below hb);replace HB:=Lib.hid (HB.out.trans (hb.mono HB.out.size));clear hb Tr;have HA:=Lib.hid (HP.out.at_ HK.out);have HC:=Lib.hid (HQ.out.at_ HL.out))
        |(refine load_g (by rfl) 89 (.tmp 32) (by rfl) w.heap.size 23 (by rfl) pp _ HA.out.p Tryz.underlying89 (by rfl) (by rw[HP.out.p.size];exact ap_info) ?_)
        |(refine load_g (by rfl) 89 (.tmp 34) (by rfl) (w.heap.size+1) 23 (by rfl) qp _ HC.out.p Tryz.underlying89 (by rfl) (by rw[HQ.out.p.size];exact ap_info) ?_)
        |(go_at_call 249;refine Calls.mono (Tp.out _ HB.out) ?_;rintro e wp ⟨rfl,hb⟩;clear HA HC;replace HK:=Lib.hid (HK.out.below hb);replace HL:=Lib.hid (HL.out.below hb);replace HB:=Lib.hid (HB.out.trans (hb.mono HB.out.size));clear hb Tp;have HA:=Lib.hid (HP.out.at_ HK.out);have HC:=Lib.hid (HQ.out.at_ HL.out))
        |(refine load_g (by rfl) 91 (.tmp 39) (by rfl) w.heap.size 28 (by rfl) pf _ HA.out.f Tryz.underlying91 (by rfl) (by rw[HP.out.f.size];exact fa_info) ?_)
        |(refine load_g (by rfl) 91 (.tmp 41) (by rfl) (w.heap.size+1) 28 (by rfl) qf _ HC.out.f Tryz.underlying91 (by rfl) (by rw[HQ.out.f.size];exact fa_info) ?_)
        |fail)
       go_ret
       exact⟨by rw[E.out];rfl,HB.out⟩
      |true=>
       rw[ef] at EF
       have ff:=EF.out
       have E:=Lib.hid (show decide (m=o)=true by rw[ME.out,ek,ea,et,er,ep,ef];rfl)
       clear ek ea et er ep ef
       go_enter Tryz.func189,Tryz.ntmps189
       go_upto_region 1 with fail
       rw[←eW]
       clear eW
       go_wp2_with (first
        |(refine load_g (by rfl) 29 (.tmp 11) (by rfl) w.heap.size 1 (by rfl) pa _ HA.out.a Tryz.underlying29 (by rfl) (by rw[HP.out.a.size];exact as_info) ?_)
        |(refine load_g (by rfl) 29 (.tmp 13) (by rfl) (w.heap.size+1) 1 (by rfl) qa _ HC.out.a Tryz.underlying29 (by rfl) (by rw[HQ.out.a.size];exact as_info) ?_)
        |(refine load_g (by rfl) 34 (.tmp 18) (by rfl) w.heap.size 7 (by rfl) pt _ HA.out.t Tryz.underlying34 (by rfl) (by rw[HP.out.t.size];exact tg_info) ?_)
        |(refine load_g (by rfl) 34 (.tmp 20) (by rfl) (w.heap.size+1) 7 (by rfl) qt _ HC.out.t Tryz.underlying34 (by rfl) (by rw[HQ.out.t.size];exact tg_info) ?_)
        |(go_at_call 247;refine Calls.mono (Tt.out _ HB.out) ?_;rintro e wt ⟨rfl,hb⟩;clear HA HC;replace HK:=Lib.hid (HK.out.below hb);replace HL:=Lib.hid (HL.out.below hb);replace HB:=Lib.hid (HB.out.trans (hb.mono HB.out.size));clear hb Tt;have HA:=Lib.hid (HP.out.at_ HK.out);have HC:=Lib.hid (HQ.out.at_ HL.out))
        |(refine load_g (by rfl) 38 (.tmp 25) (by rfl) w.heap.size 16 (by rfl) pr _ HA.out.r Tryz.underlying38 (by rfl) (by rw[HP.out.r.size];exact re_info) ?_)
        |(refine load_g (by rfl) 38 (.tmp 27) (by rfl) (w.heap.size+1) 16 (by rfl) qr _ HC.out.r Tryz.underlying38 (by rfl) (by rw[HQ.out.r.size];exact re_info) ?_)
        |(go_at_call 248;refine Calls.mono (Tr.out _ HB.out) ?_;rintro e wr ⟨rfl,hb⟩;clear HA HC;replace HK:=Lib.hid (HK.out.below hb);replace HL:=Lib.hid (HL.out.below hb);replace HB:=Lib.hid (HB.out.trans (hb.mono HB.out.size));clear hb Tr;have HA:=Lib.hid (HP.out.at_ HK.out);have HC:=Lib.hid (HQ.out.at_ HL.out))
        |(refine load_g (by rfl) 89 (.tmp 32) (by rfl) w.heap.size 23 (by rfl) pp _ HA.out.p Tryz.underlying89 (by rfl) (by rw[HP.out.p.size];exact ap_info) ?_)
        |(refine load_g (by rfl) 89 (.tmp 34) (by rfl) (w.heap.size+1) 23 (by rfl) qp _ HC.out.p Tryz.underlying89 (by rfl) (by rw[HQ.out.p.size];exact ap_info) ?_)
        |(go_at_call 249;refine Calls.mono (Tp.out _ HB.out) ?_;rintro e wp ⟨rfl,hb⟩;clear HA HC;replace HK:=Lib.hid (HK.out.below hb);replace HL:=Lib.hid (HL.out.below hb);replace HB:=Lib.hid (HB.out.trans (hb.mono HB.out.size));clear hb Tp;have HA:=Lib.hid (HP.out.at_ HK.out);have HC:=Lib.hid (HQ.out.at_ HL.out))
        |(refine load_g (by rfl) 91 (.tmp 39) (by rfl) w.heap.size 28 (by rfl) pf _ HA.out.f Tryz.underlying91 (by rfl) (by rw[HP.out.f.size];exact fa_info) ?_)
        |(refine load_g (by rfl) 91 (.tmp 41) (by rfl) (w.heap.size+1) 28 (by rfl) qf _ HC.out.f Tryz.underlying91 (by rfl) (by rw[HQ.out.f.size];exact fa_info) ?_)
        |fail)
       go_ret
       exact⟨by rw[E.out];rfl,HB.out⟩
end Go.Proofs.YtfcjeebnkigeaaaGreat.Mc
end

section
set_option linter.unusedVariables false
set_option linter.unusedSimpArgs false
namespace Go.Proofs.YtfcjeebnkigeaaaGreat.Mc
open Go.RowKit Go.Proofs.YtfcjeebnkigeaaaGreat.Mem Go.Proofs.YtfcjeebnkigeaaaGreat.DerP Go.Proofs.YtfcjeebnkigeaaaGreat.DerC Go.Proofs.YtfcjeebnkigeaaaGreat.DerR Go.Proofs.YtfcjeebnkigeaaaGreat.Ms
theorem isas_v {pa:Array Value} {x:As} (w:World) (h:AsV pa x) (s:pSm x.c∧pSm x.s):Calls Tryz.prog 191 #[.agg pa] w fun e w'=>e = .returned (.bool (asB x))∧Below w.heap.size w w':=by rw[h];exact isas_any x w s.1 s.2
theorem istg_v {pa:Array Value} {x:Tg} {w0:World} {B:Nat} (w:World) (h:TgV w0 B pa x) (s:pSm x.t.s∧pSm x.s):Calls Tryz.prog 192 #[.agg pa] w fun e w'=>e = .returned (.bool (tgB x))∧Below w.heap.size w w':=by
 obtain⟨b,a,rfl,⟨A1,c1,rfl,_,h1⟩,⟨A2,c2,rfl,_,h2⟩⟩:=h
 exact istgs_any x A1 A2 c1 c2 w s.1 s.2
theorem isre_v {pa:Array Value} {x:Re} {w0:World} {B:Nat} (w:World) (h:ReV w0 B pa x) (s:pSm x.c∧pSm x.t.s):Calls Tryz.prog 193 #[.agg pa] w fun e w'=>e = .returned (.bool (reB x))∧Below w.heap.size w w':=by
 obtain⟨b,a,rfl,⟨A1,c1,rfl,_,h1⟩,⟨A2,c2,rfl,_,h2⟩⟩:=h
 exact isre_any x A1 A2 c1 c2 w s.2 s.1
theorem isap_v {pa:Array Value} {x:Ap} {w0:World} {B:Nat} (w:World) (h:ApV w0 B pa x) (s:pSm x.t.s):Calls Tryz.prog 194 #[.agg pa] w fun e w'=>e = .returned (.bool (apB x))∧Below w.heap.size w w':=by
 obtain⟨b,a,rfl,⟨A1,c1,rfl,_,h1⟩,⟨A2,c2,rfl,_,h2⟩⟩:=h
 exact isap_any x A1 A2 c1 c2 w s
theorem isfa_v {pa:Array Value} {x:Fa} (w:World) (h:FaV pa x):Calls Tryz.prog 195 #[.agg pa] w fun e w'=>e = .returned (.bool (faB x))∧Below w.heap.size w w':=by rw[h];exact isfa_any x w
theorem layas_v {pa:Array Value} {x:As} (w:World) (h:AsV pa x) (s:asB x=true):Calls Tryz.prog 196 #[.agg pa] w (Gives w (asE x)):=by rw[h];exact layas_any x w s
theorem laytg_v {pa:Array Value} {x:Tg} (w:World) (h:TgV w w.heap.size pa x) (s:tgB x=true):Calls Tryz.prog 197 #[.agg pa] w (Gives w (tgE x)):=by
 obtain⟨b,a,rfl,⟨A1,c1,rfl,_,h1⟩,⟨A2,c2,rfl,_,h2⟩⟩:=h
 exact laytg_any x A1 A2 c1 c2 w s h1 h2
theorem layre_v {pa:Array Value} {x:Re} (w:World) (h:ReV w w.heap.size pa x) (s:reB x=true):Calls Tryz.prog 198 #[.agg pa] w (Gives w (reE x)):=by
 obtain⟨b,a,rfl,⟨A1,c1,rfl,_,h1⟩,⟨A2,c2,rfl,_,h2⟩⟩:=h
 exact layre_any x A1 A2 c1 c2 w s h1 h2
theorem layap_v {pa:Array Value} {x:Ap} (w:World) (h:ApV w w.heap.size pa x) (s:apB x=true):Calls Tryz.prog 199 #[.agg pa] w (Gives w (apE x)):=by
 obtain⟨b,a,rfl,⟨A1,c1,rfl,_,h1⟩,⟨A2,c2,rfl,_,h2⟩⟩:=h
 exact layap_any x A1 A2 c1 c2 w s h1 h2
theorem layfa_v {pa:Array Value} {x:Fa} (w:World) (h:FaV pa x):Calls Tryz.prog 200 #[.agg pa] w (Gives w (faE x)):=by rw[h];exact layfa_any x w
def kdB (m:Mg):Bool:=if m.k=1 then asB m.aq else if m.k=2 then tgB m.tg else if m.k=3 then reB m.re else if m.k=4 then apB m.ap else if m.k=5 then faB m.fa else false
theorem mgB_nm (m:Mg):mgB m=(decide (m=nm m)&&kdB m):=by
 unfold mgB kdB nm
 by_cases h1:m.k=1
 ·simp only[if_pos h1];rw[Bool.and_comm]
 ·simp only[if_neg h1]
  by_cases h2:m.k=2
  ·simp only[if_pos h2];rw[Bool.and_comm]
  ·simp only[if_neg h2]
   by_cases h3:m.k=3
   ·simp only[if_pos h3];rw[Bool.and_comm]
   ·simp only[if_neg h3]
    by_cases h4:m.k=4
    ·simp only[if_pos h4];rw[Bool.and_comm]
    ·simp only[if_neg h4]
     by_cases h5:m.k=5
     ·simp only[if_pos h5];rw[Bool.and_comm]
     ·simp only[if_neg h5];rw[Bool.and_false]
section
variable {P:Program} {w:World} {o:Oper} {a:Act}
theorem exec_load {w':World} {g:Nat} {t ty:TypeId} {cs:Array Value} {d:TypeDesc} (x:Operand) (ho:o.op = .load ty x) (hx:a.eval x = .pointer (some ⟨g,0,none⟩)) (h:Blk w' g t cs) (hu:P.underlying ty=some d) (hd:d.isRow=true) (hi:(P.info? ty).map (·.size)=some cs.size) :
  (execOp a.eval o).run P w' = .ok (.value (.agg cs)) w':=by
 unfold execOp
 simp only[ho,hx,Instr.loadAt,Instr.sureAddr,Sem.run_bind,Sem.run_pure,Result.andThen_ok,load_blk h hu hd hi]
end
set_option maxHeartbeats 6400000 in
theorem ismsg_any (cs:Array Value) (m:Mg) (w:World) (h:MgV w w.heap.size cs m) (hs:mSm m):Calls Tryz.prog 127 #[.agg cs] w fun e w'=>e = .returned (.bool (mgB m))∧Below w.heap.size w w':=by
 have hV:=h
 obtain⟨pa,pt,pr,pp,pf,hc,hp⟩:=h
 have hcs:cs.size=30:=by rw[hc];exact hp.size m.k
 have HI:=Lib.hid (show(Tryz.prog.info? 93).map (·.size)=some cs.size by rw[hcs];exact mg_info)
 obtain⟨W,eW⟩:∃W,W=w.alloc (.cells cs 93):=⟨_,rfl⟩
 have HK:=Lib.hid (show Blk W w.heap.size 93 cs by rw[eW];exact Blk.new _ _ _)
 have HB:=Lib.hid (show Below w.heap.size w W by rw[eW];exact(Below.refl _ _).alloc (Nat.le_refl _) _)
 have EC:=Lib.hid hc
 have HP:=Lib.hid hp
 have TN:=Lib.hid (fun w1 (h:Below w.heap.size w w1)=>named_any cs m w1 ((hV.keep h).more h.size))
 have TE:=Lib.hid (fun w1 ds (h:Below w.heap.size w w1) (g:MgV w1 w1.heap.size ds (nm m))=>equal_any cs ds m (nm m) w1 ((hV.keep h).more h.size) g)
 have T1:=Lib.hid (fun w1=>isas_v w1 hp.a hs.1)
 have T2:=Lib.hid (fun w1=>istg_v w1 hp.t hs.2.1)
 have T3:=Lib.hid (fun w1=>isre_v w1 hp.r hs.2.2.1)
 have T4:=Lib.hid (fun w1=>isap_v w1 hp.p hs.2.2.2)
 have T5:=Lib.hid (fun w1=>isfa_v w1 hp.f)
 have MB:=Lib.hid (mgB_nm m)
 clear hc hp hV hcs hs
 cases en:decide (m=nm m) with
 |false=>
  rw[en] at TE
  have E:=Lib.hid (show mgB m=false by rw[MB.out,en];rfl)
  clear en
  go_enter Tryz.func127,Tryz.ntmps127
  go_upto_region 1 with fail
  rw[←eW]
  clear eW
  replace HK:=Lib.hid (show Blk W.drew _ _ _ from HK.out.drewN 1)
  replace HB:=Lib.hid (show Below _ _ W.drew from below_drewN HB.out 1)
  refine Reg.region_begin 5 rfl (by kernel_rfl) ?_
  refine Reg.take_op 0 (v:=.agg cs) rfl (by kernel_rfl) (by kernel_rfl) (by kernel_rfl) (fun _ _ _ h=>h) (by rfl) (fun w' hS=>exec_load (.tmp 1) rfl rfl (HK.out.below hS) Tryz.underlying93 rfl HI.out) ?_
  simp only[Act.put,List.setIfInBounds_toArray,List.set_cons_zero,List.set_cons_succ]
  refine Reg.take_op 1 (v:=.agg cs) rfl (by kernel_rfl) (by kernel_rfl) (by kernel_rfl) (fun _ _ _ h=>h) (by rfl) (fun w' hS=>exec_load (.tmp 1) rfl rfl (HK.out.below hS) Tryz.underlying93 rfl HI.out) ?_
  simp only[Act.put,List.setIfInBounds_toArray,List.set_cons_zero,List.set_cons_succ]
  refine Reg.call_op 2 rfl (by kernel_rfl) (by rfl) 190 #[.agg cs] (by go_simp) ?_
  refine Calls.mono (TN.out _ HB.out) ?_
  rintro e w1 ⟨ds,rfl,hds,hb⟩
  refine⟨_,rfl,hb,?_⟩
  replace HK:=Lib.hid (HK.out.below hb);replace HB:=Lib.hid (HB.out.trans (hb.mono HB.out.size));have HD:=Lib.hid hds;clear hb hds TN
  simp only[Act.put,List.setIfInBounds_toArray,List.set_cons_zero,List.set_cons_succ]
  refine Reg.call_op 3 rfl (by kernel_rfl) (by rfl) 189 #[.agg cs,.agg ds] (by go_simp) ?_
  refine Calls.mono (TE.out _ ds HB.out HD.out) ?_
  rintro e w2 ⟨rfl,hb⟩
  refine⟨_,rfl,hb,?_⟩
  replace HK:=Lib.hid (HK.out.below hb);replace HB:=Lib.hid (HB.out.trans (hb.mono HB.out.size));clear hb TE HD
  simp only[Act.put,List.setIfInBounds_toArray,List.set_cons_zero,List.set_cons_succ]
  refine Reg.take_op 4 (v:=.bool true) rfl (by kernel_rfl) (by kernel_rfl) (by kernel_rfl) (fun _ _ _ h=>h) (by rfl) (fun w' hS=>by go_simp) ?_
  simp only[Act.put,List.setIfInBounds_toArray,List.set_cons_zero,List.set_cons_succ]
  refine wpAnyH_done (by kernel_rfl) ?_ _
  go_wp2
  go_ret
  exact⟨by rw[E.out];rfl,HB.out⟩
 |true=>
  rw[en] at TE
  have MK:=Lib.hid (show mgB m=kdB m by rw[MB.out,en];rfl)
  clear en
  go_enter Tryz.func127,Tryz.ntmps127
  go_upto_region 1 with fail
  rw[←eW]
  clear eW
  replace HK:=Lib.hid (show Blk W.drew _ _ _ from HK.out.drewN 1)
  replace HB:=Lib.hid (show Below _ _ W.drew from below_drewN HB.out 1)
  refine Reg.region_begin 5 rfl (by kernel_rfl) ?_
  refine Reg.take_op 0 (v:=.agg cs) rfl (by kernel_rfl) (by kernel_rfl) (by kernel_rfl) (fun _ _ _ h=>h) (by rfl) (fun w' hS=>exec_load (.tmp 1) rfl rfl (HK.out.below hS) Tryz.underlying93 rfl HI.out) ?_
  simp only[Act.put,List.setIfInBounds_toArray,List.set_cons_zero,List.set_cons_succ]
  refine Reg.take_op 1 (v:=.agg cs) rfl (by kernel_rfl) (by kernel_rfl) (by kernel_rfl) (fun _ _ _ h=>h) (by rfl) (fun w' hS=>exec_load (.tmp 1) rfl rfl (HK.out.below hS) Tryz.underlying93 rfl HI.out) ?_
  simp only[Act.put,List.setIfInBounds_toArray,List.set_cons_zero,List.set_cons_succ]
  refine Reg.call_op 2 rfl (by kernel_rfl) (by rfl) 190 #[.agg cs] (by go_simp) ?_
  refine Calls.mono (TN.out _ HB.out) ?_
  rintro e w1 ⟨ds,rfl,hds,hb⟩
  refine⟨_,rfl,hb,?_⟩
  replace HK:=Lib.hid (HK.out.below hb);replace HB:=Lib.hid (HB.out.trans (hb.mono HB.out.size));have HD:=Lib.hid hds;clear hb hds TN
  simp only[Act.put,List.setIfInBounds_toArray,List.set_cons_zero,List.set_cons_succ]
  refine Reg.call_op 3 rfl (by kernel_rfl) (by rfl) 189 #[.agg cs,.agg ds] (by go_simp) ?_
  refine Calls.mono (TE.out _ ds HB.out HD.out) ?_
  rintro e w2 ⟨rfl,hb⟩
  refine⟨_,rfl,hb,?_⟩
  replace HK:=Lib.hid (HK.out.below hb);replace HB:=Lib.hid (HB.out.trans (hb.mono HB.out.size));clear hb TE HD
  simp only[Act.put,List.setIfInBounds_toArray,List.set_cons_zero,List.set_cons_succ]
  refine Reg.take_op 4 (v:=.bool false) rfl (by kernel_rfl) (by kernel_rfl) (by kernel_rfl) (fun _ _ _ h=>h) (by rfl) (fun w' hS=>by go_simp) ?_
  simp only[Act.put,List.setIfInBounds_toArray,List.set_cons_zero,List.set_cons_succ]
  refine wpAnyH_done (by kernel_rfl) ?_ _
  replace HK:=Lib.hid (EC.out▸HK.out)
  have HA:=Lib.hid (HP.out.at_ HK.out)
  have k0:=HA.out.k
  by_cases m1:m.k=1
  ·have y1:(m.k==1)=true:=by simpa using m1
   have y2:(m.k==2)=false:=by simp;omega
   have y3:(m.k==3)=false:=by simp;omega
   have y4:(m.k==4)=false:=by simp;omega
   have y5:(m.k==5)=false:=by simp;omega
   have E:=Lib.hid (show mgB m=asB m.aq by rw[MK.out,kdB,if_pos m1])
   clear m1
   go_wp2_with (first
    |(refine load_g (by rfl) 29 (.tmp 12) (by rfl) w.heap.size 1 (by rfl) pa _ HA.out.a Tryz.underlying29 (by rfl) (by rw[HP.out.a.size];exact as_info) ?_)
    |(go_at_call 191;refine Calls.mono (T1.out _) ?_;rintro e w3 ⟨rfl,hb⟩;replace HB:=Lib.hid (HB.out.trans (hb.mono HB.out.size));clear hb T1)
    |fail)
   go_ret
   exact⟨by rw[E.out];rfl,HB.out⟩
  ·have nm1:=m1
   by_cases m2:m.k=2
   ·have y1:(m.k==1)=false:=by simp;omega
    have y2:(m.k==2)=true:=by simpa using m2
    have y3:(m.k==3)=false:=by simp;omega
    have y4:(m.k==4)=false:=by simp;omega
    have y5:(m.k==5)=false:=by simp;omega
    have E:=Lib.hid (show mgB m=tgB m.tg by rw[MK.out,kdB,if_neg m1,if_pos m2])
    clear m1 m2
    go_wp2_with (first
     |(refine load_g (by rfl) 34 (.tmp 17) (by rfl) w.heap.size 7 (by rfl) pt _ HA.out.t Tryz.underlying34 (by rfl) (by rw[HP.out.t.size];exact tg_info) ?_)
     |(go_at_call 192;refine Calls.mono (T2.out _) ?_;rintro e w3 ⟨rfl,hb⟩;replace HB:=Lib.hid (HB.out.trans (hb.mono HB.out.size));clear hb T2)
     |fail)
    go_ret
    exact⟨by rw[E.out];rfl,HB.out⟩
   ·have nm2:=m2
    by_cases m3:m.k=3
    ·have y1:(m.k==1)=false:=by simp;omega
     have y2:(m.k==2)=false:=by simp;omega
     have y3:(m.k==3)=true:=by simpa using m3
     have y4:(m.k==4)=false:=by simp;omega
     have y5:(m.k==5)=false:=by simp;omega
     have E:=Lib.hid (show mgB m=reB m.re by rw[MK.out,kdB,if_neg m1,if_neg m2,if_pos m3])
     clear m1 m2 m3
     go_wp2_with (first
      |(refine load_g (by rfl) 38 (.tmp 22) (by rfl) w.heap.size 16 (by rfl) pr _ HA.out.r Tryz.underlying38 (by rfl) (by rw[HP.out.r.size];exact re_info) ?_)
      |(go_at_call 193;refine Calls.mono (T3.out _) ?_;rintro e w3 ⟨rfl,hb⟩;replace HB:=Lib.hid (HB.out.trans (hb.mono HB.out.size));clear hb T3)
      |fail)
     go_ret
     exact⟨by rw[E.out];rfl,HB.out⟩
    ·have nm3:=m3
     by_cases m4:m.k=4
     ·have y1:(m.k==1)=false:=by simp;omega
      have y2:(m.k==2)=false:=by simp;omega
      have y3:(m.k==3)=false:=by simp;omega
      have y4:(m.k==4)=true:=by simpa using m4
      have y5:(m.k==5)=false:=by simp;omega
      have E:=Lib.hid (show mgB m=apB m.ap by rw[MK.out,kdB,if_neg m1,if_neg m2,if_neg m3,if_pos m4])
      clear m1 m2 m3 m4
      go_wp2_with (first
       |(refine load_g (by rfl) 89 (.tmp 27) (by rfl) w.heap.size 23 (by rfl) pp _ HA.out.p Tryz.underlying89 (by rfl) (by rw[HP.out.p.size];exact ap_info) ?_)
       |(go_at_call 194;refine Calls.mono (T4.out _) ?_;rintro e w3 ⟨rfl,hb⟩;replace HB:=Lib.hid (HB.out.trans (hb.mono HB.out.size));clear hb T4)
       |fail)
      go_ret
      exact⟨by rw[E.out];rfl,HB.out⟩
     ·have nm4:=m4
      by_cases m5:m.k=5
      ·have y1:(m.k==1)=false:=by simp;omega
       have y2:(m.k==2)=false:=by simp;omega
       have y3:(m.k==3)=false:=by simp;omega
       have y4:(m.k==4)=false:=by simp;omega
       have y5:(m.k==5)=true:=by simpa using m5
       have E:=Lib.hid (show mgB m=faB m.fa by rw[MK.out,kdB,if_neg m1,if_neg m2,if_neg m3,if_neg m4,if_pos m5])
       clear m1 m2 m3 m4 m5
       go_wp2_with (first
        |(refine load_g (by rfl) 91 (.tmp 32) (by rfl) w.heap.size 28 (by rfl) pf _ HA.out.f Tryz.underlying91 (by rfl) (by rw[HP.out.f.size];exact fa_info) ?_)
        |(go_at_call 195;refine Calls.mono (T5.out _) ?_;rintro e w3 ⟨rfl,hb⟩;replace HB:=Lib.hid (HB.out.trans (hb.mono HB.out.size));clear hb T5)
        |fail)
       go_ret
       exact⟨by rw[E.out];rfl,HB.out⟩
      ·have nm5:=m5
       have y1:(m.k==1)=false:=by simp;omega
       have y2:(m.k==2)=false:=by simp;omega
       have y3:(m.k==3)=false:=by simp;omega
       have y4:(m.k==4)=false:=by simp;omega
       have y5:(m.k==5)=false:=by simp;omega
       have E:=Lib.hid (show mgB m=false by rw[MK.out,kdB,if_neg m1,if_neg m2,if_neg m3,if_neg m4,if_neg m5])
       clear m1 m2 m3 m4 m5
       go_wp2
       go_ret
       exact⟨by rw[E.out];rfl,HB.out⟩
set_option maxHeartbeats 6400000 in
theorem laymsg_any (cs:Array Value) (m:Mg) (w:World) (h:MgV w w.heap.size cs m) (hx:mgB m=true):Calls Tryz.prog 129 #[.agg cs] w (Gives w (mgE m)):=by
 obtain⟨pa,pt,pr,pp,pf,hc,hp⟩:=h
 obtain⟨W,eW⟩:∃W,W=w.alloc (.cells cs 93):=⟨_,rfl⟩
 have HK:=Lib.hid (show Blk W w.heap.size 93 (mgA m.k pa pt pr pp pf) by rw[eW,←hc];exact Blk.new _ _ _)
 have HB:=Lib.hid (show Below w.heap.size w W by rw[eW];exact(Below.refl _ _).alloc (Nat.le_refl _) _)
 have HA:=Lib.hid (hp.at_ HK.out)
 have k0:=HA.out.k
 have HP:=Lib.hid hp
 clear hc
 rcases mg_cases hx with⟨h1,e⟩ | ⟨h1,e⟩ | ⟨h1,e⟩ | ⟨h1,e⟩ | ⟨h1,e⟩
 ·have hk:m.k=1:=by rw[e]
  have y1:(m.k==1)=true:=by rw[hk];rfl
  have y2:(m.k==2)=false:=by rw[hk];rfl
  have y3:(m.k==3)=false:=by rw[hk];rfl
  have y4:(m.k==4)=false:=by rw[hk];rfl
  have y5:(m.k==5)=false:=by rw[hk];rfl
  have E:=Lib.hid (show mgE m=asE m.aq by rw[e];rfl)
  have T1:=Lib.hid (fun w1 (h:Below w.heap.size w w1)=>layas_v w1 hp.a h1)
  rw[E.out]
  clear hx h1 e hk hp E
  go_enter Tryz.func129,Tryz.ntmps129
  go_upto_region 1 with fail
  rw[←eW]
  clear eW
  go_wp2_with (first
   |(refine load_g (by rfl) 29 (.tmp 7) (by rfl) w.heap.size 1 (by rfl) pa _ HA.out.a Tryz.underlying29 (by rfl) (by rw[HP.out.a.size];exact as_info) ?_)
   |(go_at_call 196;refine Calls.mono (T1.out _ HB.out) ?_;rintro e w3 ⟨⟨g,c,rfl,h2,h3,h4⟩,hb⟩;have HG:=Lib.hid (gives_on (l:=asE m.aq) ⟨⟨g,c,rfl,h2,h3,h4⟩,hb⟩ HB.out);clear h2 h3 h4 hb T1)
   |fail)
  go_ret
  exact HG.out
 ·have hk:m.k=2:=by rw[e]
  have y1:(m.k==1)=false:=by rw[hk];rfl
  have y2:(m.k==2)=true:=by rw[hk];rfl
  have y3:(m.k==3)=false:=by rw[hk];rfl
  have y4:(m.k==4)=false:=by rw[hk];rfl
  have y5:(m.k==5)=false:=by rw[hk];rfl
  have E:=Lib.hid (show mgE m=tgE m.tg by rw[e];rfl)
  have T1:=Lib.hid (fun w1 (h:Below w.heap.size w w1)=>laytg_v w1 ((hp.t.keep h).more h.size) h1)
  rw[E.out]
  clear hx h1 e hk hp E
  go_enter Tryz.func129,Tryz.ntmps129
  go_upto_region 1 with fail
  rw[←eW]
  clear eW
  go_wp2_with (first
   |(refine load_g (by rfl) 34 (.tmp 12) (by rfl) w.heap.size 7 (by rfl) pt _ HA.out.t Tryz.underlying34 (by rfl) (by rw[HP.out.t.size];exact tg_info) ?_)
   |(go_at_call 197;refine Calls.mono (T1.out _ HB.out) ?_;rintro e w3 ⟨⟨g,c,rfl,h2,h3,h4⟩,hb⟩;have HG:=Lib.hid (gives_on (l:=tgE m.tg) ⟨⟨g,c,rfl,h2,h3,h4⟩,hb⟩ HB.out);clear h2 h3 h4 hb T1)
   |fail)
  go_ret
  exact HG.out
 ·have hk:m.k=3:=by rw[e]
  have y1:(m.k==1)=false:=by rw[hk];rfl
  have y2:(m.k==2)=false:=by rw[hk];rfl
  have y3:(m.k==3)=true:=by rw[hk];rfl
  have y4:(m.k==4)=false:=by rw[hk];rfl
  have y5:(m.k==5)=false:=by rw[hk];rfl
  have E:=Lib.hid (show mgE m=reE m.re by rw[e];rfl)
  have T1:=Lib.hid (fun w1 (h:Below w.heap.size w w1)=>layre_v w1 ((hp.r.keep h).more h.size) h1)
  rw[E.out]
  clear hx h1 e hk hp E
  go_enter Tryz.func129,Tryz.ntmps129
  go_upto_region 1 with fail
  rw[←eW]
  clear eW
  go_wp2_with (first
   |(refine load_g (by rfl) 38 (.tmp 17) (by rfl) w.heap.size 16 (by rfl) pr _ HA.out.r Tryz.underlying38 (by rfl) (by rw[HP.out.r.size];exact re_info) ?_)
   |(go_at_call 198;refine Calls.mono (T1.out _ HB.out) ?_;rintro e w3 ⟨⟨g,c,rfl,h2,h3,h4⟩,hb⟩;have HG:=Lib.hid (gives_on (l:=reE m.re) ⟨⟨g,c,rfl,h2,h3,h4⟩,hb⟩ HB.out);clear h2 h3 h4 hb T1)
   |fail)
  go_ret
  exact HG.out
 ·have hk:m.k=4:=by rw[e]
  have y1:(m.k==1)=false:=by rw[hk];rfl
  have y2:(m.k==2)=false:=by rw[hk];rfl
  have y3:(m.k==3)=false:=by rw[hk];rfl
  have y4:(m.k==4)=true:=by rw[hk];rfl
  have y5:(m.k==5)=false:=by rw[hk];rfl
  have E:=Lib.hid (show mgE m=apE m.ap by rw[e];rfl)
  have T1:=Lib.hid (fun w1 (h:Below w.heap.size w w1)=>layap_v w1 ((hp.p.keep h).more h.size) h1)
  rw[E.out]
  clear hx h1 e hk hp E
  go_enter Tryz.func129,Tryz.ntmps129
  go_upto_region 1 with fail
  rw[←eW]
  clear eW
  go_wp2_with (first
   |(refine load_g (by rfl) 89 (.tmp 22) (by rfl) w.heap.size 23 (by rfl) pp _ HA.out.p Tryz.underlying89 (by rfl) (by rw[HP.out.p.size];exact ap_info) ?_)
   |(go_at_call 199;refine Calls.mono (T1.out _ HB.out) ?_;rintro e w3 ⟨⟨g,c,rfl,h2,h3,h4⟩,hb⟩;have HG:=Lib.hid (gives_on (l:=apE m.ap) ⟨⟨g,c,rfl,h2,h3,h4⟩,hb⟩ HB.out);clear h2 h3 h4 hb T1)
   |fail)
  go_ret
  exact HG.out
 ·have hk:m.k=5:=by rw[e]
  have y1:(m.k==1)=false:=by rw[hk];rfl
  have y2:(m.k==2)=false:=by rw[hk];rfl
  have y3:(m.k==3)=false:=by rw[hk];rfl
  have y4:(m.k==4)=false:=by rw[hk];rfl
  have y5:(m.k==5)=true:=by rw[hk];rfl
  have E:=Lib.hid (show mgE m=faE m.fa by rw[e];rfl)
  have T1:=Lib.hid (fun w1 (h:Below w.heap.size w w1)=>layfa_v w1 hp.f)
  rw[E.out]
  clear hx h1 e hk hp E
  go_enter Tryz.func129,Tryz.ntmps129
  go_upto_region 1 with fail
  rw[←eW]
  clear eW
  go_wp2_with (first
   |(refine load_g (by rfl) 91 (.tmp 25) (by rfl) w.heap.size 28 (by rfl) pf _ HA.out.f Tryz.underlying91 (by rfl) (by rw[HP.out.f.size];exact fa_info) ?_)
   |(go_at_call 200;refine Calls.mono (T1.out _ HB.out) ?_;rintro e w3 ⟨⟨g,c,rfl,h2,h3,h4⟩,hb⟩;have HG:=Lib.hid (gives_on (l:=faE m.fa) ⟨⟨g,c,rfl,h2,h3,h4⟩,hb⟩ HB.out);clear h2 h3 h4 hb T1)
   |fail)
  go_ret
  exact HG.out
theorem mg_len {m:Mg} (hx:mgB m=true):(mgE m).length≤2000:=by
 rcases mg_cases hx with⟨h1,e⟩ | ⟨h1,e⟩ | ⟨h1,e⟩ | ⟨h1,e⟩ | ⟨h1,e⟩
 ·have hE:mgE m=asE m.aq:=by rw[e];rfl
  have hp:prB m.aq.c=true∧prB m.aq.s=true∧tmB m.aq.t=true∧tmB m.aq.no=true:=by simpa [asB] using h1
  have b1:=(prE_len hp.1).1;have b2:=(prE_len hp.2.1).1;have b3:=encI_le m.aq.t;have b4:=encI_le m.aq.no
  have:=elem_len 106 [prE m.aq.c,prE m.aq.s,encI m.aq.t,encI m.aq.no].flatten
  rw[hE,asE];rw[flat4] at this⊢;simp only[List.length_append] at this;omega
 ·have hE:mgE m=tgE m.tg:=by rw[e];rfl
  have hp:tkB m.tg.t=true∧blobB m.tg.a=true∧prB m.tg.s=true∧tmB m.tg.u=true∧tmB m.tg.no=true:=by simpa [tgB] using h1
  have b1:=(tkE_len hp.1).1;have b2:=elem_len 4 m.tg.a;have b3:=(prE_len hp.2.2.1).1;have b4:=encI_le m.tg.u;have b5:=encI_le m.tg.no;have b6:=blob_parts hp.2.1
  have:=elem_len 108 [tkE m.tg.t,elem 4 m.tg.a,prE m.tg.s,encI m.tg.u,encI m.tg.no].flatten
  rw[hE,tgE];rw[flat5] at this⊢;simp only[List.length_append] at this;omega
 ·have hE:mgE m=reE m.re:=by rw[e];rfl
  have hp:prB m.re.c=true∧tkB m.re.t=true∧blobB m.re.b=true:=by simpa [reB] using h1
  have b1:=(prE_len hp.1).1;have b2:=(tkE_len hp.2.1).1;have b3:=elem_len 4 m.re.b;have b6:=blob_parts hp.2.2
  have:=elem_len 107 [prE m.re.c,tkE m.re.t,elem 4 m.re.b].flatten
  rw[hE,reE];rw[flat3] at this⊢;simp only[List.length_append] at this;omega
 ·have hE:mgE m=apE m.ap:=by rw[e];rfl
  have hp:tkB m.ap.t=true∧blobB m.ap.a=true:=by simpa [apB] using h1
  have b2:=(tkE_len hp.1).1;have b3:=elem_len 4 m.ap.a;have b6:=blob_parts hp.2
  have:=elem_len 110 [tkE m.ap.t,elem 4 m.ap.a].flatten
  rw[hE,apE];rw[flat2] at this⊢;simp only[List.length_append] at this;omega
 ·have hE:mgE m=faE m.fa:=by rw[e];rfl
  have b2:=encI_le m.fa.e;have b3:=encI_le m.fa.no
  have:=elem_len 126 [encI m.fa.e,encI m.fa.no].flatten
  rw[hE,faE];rw[flat2] at this⊢;simp only[List.length_append] at this;omega
set_option maxHeartbeats 3200000 in
theorem enc_any (cs0:Array Value) (m:Mg) (w:World) (h:MgV w w.heap.size cs0 m) (hs:mSm m):Calls Tryz.prog 68 #[.agg cs0] w (EncR w (mgO m)):=by
 have HI:=Lib.hid (show(Tryz.prog.info? 93).map (·.size)=some cs0.size by obtain⟨pa,pt,pr,pp,pf,hc,hp⟩:=h;rw[hc,hp.size];exact mg_info)
 have I1:=Lib.hid (fun w1 (h1:Below w.heap.size w w1)=>ismsg_any cs0 m w1 ((h.keep h1).more h1.size) hs)
 have T0:=Lib.hid (fun(hx:mgB m=true)=>fun w1 (h1:Below w.heap.size w w1)=>laymsg_any cs0 m w1 ((h.keep h1).more h1.size) hx)
 have HLEN:=Lib.hid (fun(hx:mgB m=true)=>mg_len hx)
 obtain⟨cs,ecs⟩:∃cs:Array Value,cs=cs0:=⟨_,rfl⟩
 rw[←ecs] at HI I1 T0⊢
 clear ecs
 have HB:=Lib.hid ((Below.refl w.heap.size w).alloc (Nat.le_refl _) (.cells cs 93))
 have HK:=Lib.hid (Blk.new w 93 cs)
 cases hx:mgB m with
 |false=>
  rw[hx] at I1
  have E:=Lib.hid (show mgO m=none by unfold mgO limO;rw[hx];rfl)
  rw[E.out]
  clear hx E T0 HLEN hs h
  go_enter Tryz.func68,Tryz.ntmps68
  go_wp2_with (first
   |(refine load_cells (by rfl) 93 (.tmp 1) (by rfl) w.heap.size 0 (by rfl) cs _ (range_blk HK.out) Tryz.underlying93 (by rfl) HI.out ?_)
   |(go_at_call 127;refine Calls.mono (I1.out _ HB.out) ?_;rintro e w1 ⟨rfl,hb⟩;replace HB:=Lib.hid (HB.out.trans (hb.mono HB.out.size));clear hb I1)
   |fail)
  go_ret2
  exact enc_none HB.out
 |true=>
  rw[hx] at I1
  have T1:=Lib.hid (T0.out hx)
  have hlm:=HLEN.out hx
  have E:=Lib.hid (show mgO m=some (mgE m) from lim_iff.2 ⟨hx,hlm,rfl⟩)
  rw[E.out]
  obtain⟨l,el⟩:∃l,l=mgE m:=⟨_,rfl⟩
  rw[←el] at T1 hlm⊢
  have LM:=Lib.hid (fun A c w1=>bounded_ok l A _ c w1 rfl hlm)
  clear hx E el hlm T0 HLEN hs h
  go_enter Tryz.func68,Tryz.ntmps68
  go_wp2_with (first
   |(refine load_cells (by rfl) 93 (.tmp 1) (by rfl) w.heap.size 0 (by rfl) cs _ (range_blk HK.out) Tryz.underlying93 (by rfl) HI.out ?_)
   |(go_at_call 127;refine Calls.mono (I1.out _ HB.out) ?_;rintro e w1 ⟨rfl,hb⟩;replace HK:=Lib.hid (HK.out.below hb);replace HB:=Lib.hid (HB.out.trans (hb.mono HB.out.size));clear hb I1)
   |(go_at_call 129;refine Calls.mono (T1.out _ HB.out) ?_;rintro e w2 ⟨⟨g,c,rfl,h2,h3,h4⟩,hb⟩;have HG:=Lib.hid (gives_on (l:=l) ⟨⟨g,c,rfl,h2,h3,h4⟩,hb⟩ HB.out);clear h2 h3 h4 hb T1)
   |(go_at_call 128;refine Calls.mono (LM.out _ _ _) ?_;rintro e wy ⟨rfl,rfl⟩;clear LM)
   |fail)
  go_ret2
  exact enc_some HG.out
end Go.Proofs.YtfcjeebnkigeaaaGreat.Mc
end

section
set_option linter.unusedVariables false
set_option linter.unusedSimpArgs false
namespace Go.Proofs.YtfcjeebnkigeaaaGreat.Mc
open Go.RowKit Go.Proofs.YtfcjeebnkigeaaaGreat.Mem Go.Proofs.YtfcjeebnkigeaaaGreat.DerP Go.Proofs.YtfcjeebnkigeaaaGreat.DerC Go.Proofs.YtfcjeebnkigeaaaGreat.Ms
theorem pr0_sm:pSm pr0:=⟨by decide,by decide⟩
end Go.Proofs.YtfcjeebnkigeaaaGreat.Mc
end

section
set_option linter.unusedVariables false
set_option linter.unusedSimpArgs false
namespace Go.Proofs.YtfcjeebnkigeaaaGreat.Kd
open Go.RowKit Go.Proofs.YtfcjeebnkigeaaaGreat.Mem Go.Proofs.YtfcjeebnkigeaaaGreat.Se
open Go.Proofs.YtfcjeebnkigeaaaGreat.Rg (It Ent Ring RO its results_pair lastI lastN)
open Go.Proofs.YtfcjeebnkigeaaaGreat.SeL (sealR)
open Go.Proofs.YtfcjeebnkigeaaaGreat.Ms (Pt Rp Re Tk As Tg Mg Ap Fa pSm mSm mgO mgB asB tgB limO mgE asC tgC reC as0 tg0 re0 ap0 fa0 EncR)
set_option maxHeartbeats 1600000 in
theorem kmaybe_any (cs0:Array Value) (m:Mg) (w:World) (h:Mc.MgV w w.heap.size cs0 m) (hs:mSm m):Calls Tryz.prog 48 #[.agg cs0] w fun e w'=>e = .returned (.bool (mgO m).isSome)∧Below w.heap.size w w':=by
 have HI:=Lib.hid (show(Tryz.prog.info? 93).map (·.size)=some cs0.size by obtain⟨pa,pt,pr,pp,pf,hc,hp⟩:=h;rw[hc,hp.size];exact Mc.mg_info)
 have hb:=(Below.refl w.heap.size w).alloc (Nat.le_refl _) (.cells cs0 93)
 have HX:=Lib.hid (Blk.new w 93 cs0)
 have c1:=Mc.enc_any cs0 m _ ((h.keep hb).more hb.size) hs
 have HB:=Lib.hid hb
 obtain⟨o,eo⟩:∃o,o=mgO m:=⟨_,rfl⟩
 rw[←eo] at c1⊢
 clear h hb hs eo
 cases o with
 |none=>
  go_enter Tryz.func48,Tryz.ntmps48
  go_wp2_with (first
   |(refine Wh.load_g (by rfl) 93 (.tmp 1) (by rfl) w.heap.size 0 (by rfl) cs0 _ (Wh.range_blk HX.out) Tryz.underlying93 (by rfl) HI.out ?_;clear HI)
   |(go_at_call 68;refine Calls.mono c1 ?_;rintro e w2 he;obtain⟨v1,rfl,hb2⟩:=enc_none_to he;replace HB:=Lib.hid (HB.out.trans (hb2.mono HB.out.size));clear he hb2 c1)
   |fail)
  go_ret
  exact⟨rfl,HB.out⟩
 |some l=>
  go_enter Tryz.func48,Tryz.ntmps48
  go_wp2_with (first
   |(refine Wh.load_g (by rfl) 93 (.tmp 1) (by rfl) w.heap.size 0 (by rfl) cs0 _ (Wh.range_blk HX.out) Tryz.underlying93 (by rfl) HI.out ?_;clear HI)
   |(go_at_call 68;refine Calls.mono c1 ?_;rintro e w2 he;obtain⟨v1,rfl,_,hb2⟩:=enc_some_to he;replace HB:=Lib.hid (HB.out.trans (hb2.mono HB.out.size));clear he hb2 c1)
   |fail)
  go_ret
  exact⟨rfl,HB.out⟩
theorem built_g {P:Program} {ops:Array Oper} {rest:List Oper} {o:Oper} {a:Act} {w:World} {Q:Exit→Act→World→Prop} (hg:Region.wanted o (yielded ops a.tmps)=true) (t:TypeId) (parts:Array (Nat×Operand)) (ho:o.op = .build t parts)
  (cells:Array Value) (hc:P.built t (parts.map fun(i,x)=>(i,a.eval x)).toList=some cells) (h:wpList P ops Q rest (a.put o.dst (.agg cells)) w):wpList P ops Q (o :: rest) a w:=
 BigFrame.wpList_want hg fun _ hK=>wp_build t parts ho (by rw[hc];rfl) (by rw[hc];exact hK _ _ h)
def mAs (q:As):Mg:=⟨1,q,tg0,re0,ap0,fa0⟩
theorem mgO_is {m:Mg}:(mgO m).isSome=mgB m:=by
 cases h:mgB m with
 |true=>rw[mgO,limO,if_pos ⟨h,Mc.mg_len h⟩];rfl
 |false=>rw[mgO,limO,h];rfl
theorem mAs_is (q:As):(mgO (mAs q)).isSome=asB q:=by rw[mgO_is];unfold mgB mAs;simp
abbrev asA (q:As):Array Value:=#[.string ⟨q.c.1.toArray⟩,.string ⟨q.c.2.toArray⟩,.string ⟨q.s.1.toArray⟩,.string ⟨q.s.2.toArray⟩,.int .i64 q.t,.int .i64 q.no]
theorem as_mg (w:World) (q:As):Mc.MgV w w.heap.size (Mc.mgA 1 (asA q) Mc.zT Mc.zR Mc.zP Mc.zF) (mAs q):=
 ⟨_,_,_,_,_,rfl,⟨rfl,Mc.zT_v _ _,Mc.zR_v _ _,Mc.zP_v _ _,Mc.zF_v⟩⟩
theorem built_mas (q:As):Tryz.prog.built 93 [(0,.int .i64 1),(1,.agg (asA q))]=some (Mc.mgA 1 (asA q) Mc.zT Mc.zR Mc.zP Mc.zF):=Mc.built_as rfl
theorem ansL_eq {l:List It} {n:Nat} {s:Ms.Pr} {P:Pt} {no:Int} {ks:Nat→UInt8} {u:Int}:ansL l n P.c s P no ks u=ansK n (keyL l s) (lastN l s) s P no ks u:=rfl
theorem keyL_hit {es:List Ent} {q:Rg.Pr} {j:Nat} {x:Ent} (hf:lastI (its es) q=some j) (hj:es[j]? = some x):keyL (its es) q=x.it.k∧lastN (its es) q=x.it.n∧hasL (its es) q=true:=by
 have h1:=Rg.its_at hj
 refine⟨?_,?_,?_⟩
 ·simp [keyL,hf,keyO,h1]
 ·simp [lastN,hf,Rg.numO,h1]
 ·simp [hasL,hf]
section
variable {X:Nat→Prop} {p:KP} {es:List Ent} {s:Option Ss} {w w':World} {v:Value} {l:Nm.L}
theorem SlX.over (h:SlX X p es s w v l) {g:Nat} (hx:X g) (hg:w.grownBy w' (some g)):SlX X p es s w' v l:=h.keep (Chg.of_grown (S:=fun j=>j=g) hg rfl) (fun j _ x=>.inr (x▸hx)) (fun _ _ x=>x)
theorem last_of {es:List Ent} {q:Rg.Pr} {j:Nat} (h:lastI (its es) q=some j):∃x,es[j]? = some x:=by
 obtain⟨_,y,h1,_⟩:=Rg.lastTo_some h
 obtain⟨e,he,_⟩:=Rg.its_of h1
 exact⟨e,he⟩
theorem reA_facts {cs:Array Value} {x:Re} {S:Nat→Prop} (h:ReN S w cs x):cs.size=7∧cs.all (·.oneCell')=true∧(Tryz.prog.info? 38).map (·.size)=some cs.size:=by
 obtain⟨b,a,rfl,⟨A,m,rfl,_,_⟩,⟨A2,m2,rfl,_,_⟩⟩:=h
 refine⟨rfl,by simp [reC,Ms.prC,Ms.tkC,Value.oneCell'],?_⟩
 rw[show((reC x (.slice A x.t.b.length m) (.slice A2 x.b.length m2)).toArray).size=7 from rfl]
 exact re_info
theorem ReN.over {a w1:World} {cs:Array Value} {x:Re} (h:ReN (Out w1 p es s) w cs x) (ha:a.heap.size≤w1.heap.size) {g:Nat} (hx:g<w1.heap.size) (hg:w.grownBy w' (some g)):ReN (Out a p es s) w' cs x:=by
 obtain⟨b,d,h1,h2,h3⟩:=h
 refine⟨b,d,h1,?_,?_⟩
 ·exact((SlX.of_out (X:=fun j=>j<w1.heap.size) h2 (fun _ y=>y)).over hx hg).out (fun j y=>by omega)
 ·exact((SlX.of_out (X:=fun j=>j<w1.heap.size) h3 (fun _ y=>y)).over hx hg).out (fun j y=>by omega)
end
end Go.Proofs.YtfcjeebnkigeaaaGreat.Kd
end

section
set_option linter.unusedVariables false
set_option linter.unusedSimpArgs false
namespace Go.Proofs.YtfcjeebnkigeaaaGreat.Kd
open Go.RowKit Go.Proofs.YtfcjeebnkigeaaaGreat.Mem Go.Proofs.YtfcjeebnkigeaaaGreat.Se
open Go.Proofs.YtfcjeebnkigeaaaGreat.Rg (It Ent Ring RO its results_pair)
open Go.Proofs.YtfcjeebnkigeaaaGreat.SeL (sealR)
open Go.Proofs.YtfcjeebnkigeaaaGreat.Ms (Pt Rp Re Tk ptO rpO pSm reC tkC prC)
open Go.Proofs.YtfcjeebnkigeaaaGreat.Nm (krb)
theorem Kn.over {w0 w w':World} {B:Nat} {p:KP} {es0 es:List Ent} {s0 s:Option Ss} {n i c:Nat} (h:Kn w0 w B p es0 s0 es s n i c) {g:Nat} (hg:w0.heap.size≤g) (hk:Off p es s g) (hw:w.grownBy w' (some g)):Kn w0 w' B p es0 s0 es s n i c:=by
 have hc:Chg (fun j=>j=g) w w':=Chg.of_grown hw rfl
 exact⟨h.st.chg hc hk,h.eq,h.sq,h.chg.trans hc (fun j hj x=>by omega),h.nw⟩
section
variable {w:World} {B:Nat} {p:KP} {es:List Ent} {s:Option Ss} {n i c:Nat}
end
end Go.Proofs.YtfcjeebnkigeaaaGreat.Kd
end
