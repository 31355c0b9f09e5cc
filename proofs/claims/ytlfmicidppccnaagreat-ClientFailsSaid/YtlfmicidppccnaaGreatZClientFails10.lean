import Derived.Test.YtlfmicidppccnaaGreatZClientFails9
set_option maxHeartbeats 25600000
set_option maxRecDepth 100000
set_option linter.unusedVariables false
set_option linter.unusedSimpArgs false
namespace Go.Proofs.YtlfmicidppccnaaGreat
namespace Ms
open Go.RowKit Ad DerP DerR
theorem Kj (l:L) (A:Option Addr) (n c:Nat) (w:World) (hn:n=l.length) (h:¬l.length≤2000):Calls Tryz.prog 70 #[.slice A n c] w fun e w'=>e = .returned (.tuple #[.slice none 0 0,.int .i64 1])∧w=w':=by
 have:=FN l A n c w hn
 rwa [if_neg h] at this
theorem GJ (m:Mg) (A1 A2 A3 A4 A5 A6:Option Addr) (c1 c2 c3 c4 c5 c6:Nat) (w:World) (hs:mSm m) (r1:Rd w w.heap.size A1 (bvs m.tg.t.b)) (r2:Rd w w.heap.size A2 (bvs m.tg.a)) (r3:Rd w w.heap.size A3 (bvs m.re.t.b)) (r4:Rd w w.heap.size A4 (bvs m.re.b)) (r5:Rd w w.heap.size A5 (bvs m.ap.t.b)) (r6:Rd w w.heap.size A6 (bvs m.ap.a)) :
  Calls Tryz.prog 36 #[.agg #[.int .i64 m.k,.string ⟨m.aq.c.1.toArray⟩,.string ⟨m.aq.c.2.toArray⟩,.string ⟨m.aq.s.1.toArray⟩,.string ⟨m.aq.s.2.toArray⟩,.int .i64 m.aq.t,.int .i64 m.aq.no,.string ⟨m.tg.t.s.1.toArray⟩,.string ⟨m.tg.t.s.2.toArray⟩,.int .i64 m.tg.t.k,.slice A1 m.tg.t.b.length c1,.slice A2 m.tg.a.length c2,.string ⟨m.tg.s.1.toArray⟩,.string ⟨m.tg.s.2.toArray⟩,.int .i64 m.tg.u,.int .i64 m.tg.no,.string ⟨m.re.c.1.toArray⟩,.string ⟨m.re.c.2.toArray⟩,.string ⟨m.re.t.s.1.toArray⟩,.string ⟨m.re.t.s.2.toArray⟩,.int .i64 m.re.t.k,.slice A3 m.re.t.b.length c3,.slice A4 m.re.b.length c4,.string ⟨m.ap.t.s.1.toArray⟩,.string ⟨m.ap.t.s.2.toArray⟩,.int .i64 m.ap.t.k,.slice A5 m.ap.t.b.length c5,.slice A6 m.ap.a.length c6,.int .i64 m.fa.e,.int .i64 m.fa.no]] w (EncR w (mgO m)):=by
 have I1:=I (fun w1=>LA m A1 A2 A3 A4 A5 A6 c1 c2 c3 c4 c5 c6 w1 hs);have HI:=I (show(Tryz.prog.info? 76).map (·.size)=some (#[.int .i64 m.k,.string ⟨m.aq.c.1.toArray⟩,.string ⟨m.aq.c.2.toArray⟩,.string ⟨m.aq.s.1.toArray⟩,.string ⟨m.aq.s.2.toArray⟩,.int .i64 m.aq.t,.int .i64 m.aq.no,.string ⟨m.tg.t.s.1.toArray⟩,.string ⟨m.tg.t.s.2.toArray⟩,.int .i64 m.tg.t.k,.slice A1 m.tg.t.b.length c1,.slice A2 m.tg.a.length c2,.string ⟨m.tg.s.1.toArray⟩,.string ⟨m.tg.s.2.toArray⟩,.int .i64 m.tg.u,.int .i64 m.tg.no,.string ⟨m.re.c.1.toArray⟩,.string ⟨m.re.c.2.toArray⟩,.string ⟨m.re.t.s.1.toArray⟩,.string ⟨m.re.t.s.2.toArray⟩,.int .i64 m.re.t.k,.slice A3 m.re.t.b.length c3,.slice A4 m.re.b.length c4,.string ⟨m.ap.t.s.1.toArray⟩,.string ⟨m.ap.t.s.2.toArray⟩,.int .i64 m.ap.t.k,.slice A5 m.ap.t.b.length c5,.slice A6 m.ap.a.length c6,.int .i64 m.fa.e,.int .i64 m.fa.no]:Array Value).size by kernel_rfl);obtain⟨cs,ecs⟩:∃cs:Array Value,cs=#[.int .i64 m.k,.string ⟨m.aq.c.1.toArray⟩,.string ⟨m.aq.c.2.toArray⟩,.string ⟨m.aq.s.1.toArray⟩,.string ⟨m.aq.s.2.toArray⟩,.int .i64 m.aq.t,.int .i64 m.aq.no,.string ⟨m.tg.t.s.1.toArray⟩,.string ⟨m.tg.t.s.2.toArray⟩,.int .i64 m.tg.t.k,.slice A1 m.tg.t.b.length c1,.slice A2 m.tg.a.length c2,.string ⟨m.tg.s.1.toArray⟩,.string ⟨m.tg.s.2.toArray⟩,.int .i64 m.tg.u,.int .i64 m.tg.no,.string ⟨m.re.c.1.toArray⟩,.string ⟨m.re.c.2.toArray⟩,.string ⟨m.re.t.s.1.toArray⟩,.string ⟨m.re.t.s.2.toArray⟩,.int .i64 m.re.t.k,.slice A3 m.re.t.b.length c3,.slice A4 m.re.b.length c4,.string ⟨m.ap.t.s.1.toArray⟩,.string ⟨m.ap.t.s.2.toArray⟩,.int .i64 m.ap.t.k,.slice A5 m.ap.t.b.length c5,.slice A6 m.ap.a.length c6,.int .i64 m.fa.e,.int .i64 m.fa.no]:=⟨_,rfl⟩;rw[←ecs] at I1 HI⊢;have EC:=I ecs;clear ecs;have HB:=I ((Below.refl w.heap.size w).alloc Ae (.cells cs 76));have HK:=I (Blk.new w 76 cs);cases hx:mgB m with
 |false=>
  rw[hx] at I1;have E:=I (show mgO m=none by unfold mgO limO;rw[hx];rfl);rw[E.o];clear hx E hs r1 r2 r3 r4 r5 r6;go_enter Tryz.func36,Tryz.ntmps36
  go_wp2_with (first
   |(refine Ak (by rfl) 76 (.tmp 1) (by rfl) w.heap.size 0 (by rfl) cs _ (Aj (Blk.new w 76 cs)) Tryz.underlying76 (by rfl) HI.o ?_)
   |(go_at_call 69;refine Calls.mono (I1.o _) ?_;rintro e w1 ⟨rfl,hb⟩;replace HB:=HB.t hb;clear hb I1)
   |fail)
  go_ret2
  exact Gl HB.o
 |true=>
  rw[hx] at I1;rcases DN hx with⟨h1,e⟩ | ⟨h1,e⟩ | ⟨h1,e⟩ | ⟨h1,e⟩ | ⟨h1,e⟩
  ·have h':prB m.aq.c=true∧prB m.aq.s=true∧tmB m.aq.t=true∧tmB m.aq.no=true:=by simpa [asB] using h1
   have b1:=Dc h'.1;have b2:=Dc h'.2.1;have b3:=(AS h'.1).1;have b4:=(AS h'.2.1).1;have b5:=Ay m.aq.t;have b6:=Ay m.aq.no;have hk:m.k=1:=by rw[e]
   have y1:(m.k==1)=true:=by rw[hk];rfl
   have y2:(m.k==2)=false:=by rw[hk];rfl
   have y3:(m.k==3)=false:=by rw[hk];rfl
   have y4:(m.k==4)=false:=by rw[hk];rfl
   have y5:(m.k==5)=false:=by rw[hk];rfl
   have hE0:mgE m=elem 106 [prE m.aq.c,prE m.aq.s,encI m.aq.t,encI m.aq.no].flatten:=by rw[e];rfl
   have hO:∀l,mgE m=l→l.length≤2000→mgO m=some l:=fun l e2 h2=>BM.2 ⟨hx,by rw[e2];exact h2,e2⟩
   have hN:∀l,mgE m=l→¬l.length≤2000→mgO m=none:=fun l e2 h2=>by unfold mgO limO;rw[e2,if_neg (fun h=>h2 h.2)]
   have HO:=I (hO _ hE0);have HN:=I (hN _ hE0);have T1:=I (fun w1=>Co m.aq.c w1 (by omega) (by omega));have T2:=I (fun w1=>Co m.aq.s w1 (by omega) (by omega));have T3:=I (fun w1=>DerR.AZ m.aq.t w1);have T4:=I (fun w1=>DerR.AZ m.aq.no w1);have hl:[prE m.aq.c,prE m.aq.s,encI m.aq.t,encI m.aq.no].flatten.length≤60000:=by rw[Ft];simp only[List.length_append];omega
   have hl2:[prE m.aq.c,prE m.aq.s,encI m.aq.t,encI m.aq.no].flatten.length≤1990:=by rw[Ft];simp only[List.length_append];omega
   have HL:=I (show [prE m.aq.c,prE m.aq.s,encI m.aq.t,encI m.aq.no].flatten.length≤65535 by omega);have hE:=An 106 [prE m.aq.c,prE m.aq.s,encI m.aq.t,encI m.aq.no].flatten;rw[Ft] at hE hl HO HN hl2;obtain⟨l1,el1⟩:∃l,l=prE m.aq.c:=⟨_,rfl⟩;obtain⟨l2,el2⟩:∃l,l=prE m.aq.s:=⟨_,rfl⟩;obtain⟨l3,el3⟩:∃l,l=encI m.aq.t:=⟨_,rfl⟩;obtain⟨l4,el4⟩:∃l,l=encI m.aq.no:=⟨_,rfl⟩;rw[←el1] at T1 HL hE hl HO HN hl2;rw[←el2] at T2 HL hE hl HO HN hl2;rw[←el3] at T3 HL hE hl HO HN hl2;rw[←el4] at T4 HL hE hl HO HN hl2;have hlm:(elem 106 (l1++(l2++(l3++l4)))).length≤2000:=by omega
   have LM:=I (fun A c w1=>Di (elem 106 (l1++(l2++(l3++l4)))) A _ c w1 rfl hlm);rw[HO.o hlm];clear h1 e h' hx hE0 hO hN hk hs r1 r2 r3 r4 r5 r6 hE hl hl2 b1 b2 b3 b4 b5 b6 el1 el2 el3 el4 HO HN hlm;go_enter Tryz.func36,Tryz.ntmps36
   go_wp2_with (first
    |(refine Ak (by rfl) 76 (.tmp 1) (by rfl) w.heap.size 0 (by rfl) cs _ (Aj (Blk.new w 76 cs)) Tryz.underlying76 (by rfl) HI.o ?_)
    |(go_at_call 69;refine Calls.mono (I1.o _) ?_;rintro e w0 ⟨rfl,hb⟩;replace HK:=I (HK.o.below hb);replace HB:=HB.t hb;clear hb I1;replace HK:=I (EC.o▸HK.o);have k0:w0.cell? ⟨w.heap.size,0,none⟩=some (.int .i64 m.k):=HK.o.cell 0;have k1:w0.cell? ⟨w.heap.size,1,none⟩=some (.string ⟨m.aq.c.1.toArray⟩):=HK.o.cell 1;have k2:w0.cell? ⟨w.heap.size,2,none⟩=some (.string ⟨m.aq.c.2.toArray⟩):=HK.o.cell 2;have k3:w0.cell? ⟨w.heap.size,3,none⟩=some (.string ⟨m.aq.s.1.toArray⟩):=HK.o.cell 3;have k4:w0.cell? ⟨w.heap.size,4,none⟩=some (.string ⟨m.aq.s.2.toArray⟩):=HK.o.cell 4;have k5:w0.cell? ⟨w.heap.size,5,none⟩=some (.int .i64 m.aq.t):=HK.o.cell 5;have k6:w0.cell? ⟨w.heap.size,6,none⟩=some (.int .i64 m.aq.no):=HK.o.cell 6)
    |fail)
   clear k0 k1 k2 k3 k4 k5 k6;replace HB:=I (HB.o.alloc HB.o.size (.cells #[.string ⟨m.aq.c.1.toArray⟩,.string ⟨m.aq.c.2.toArray⟩,.string ⟨m.aq.s.1.toArray⟩,.string ⟨m.aq.s.2.toArray⟩,.int .i64 m.aq.t,.int .i64 m.aq.no] 66));replace HK:=I (Blk.new w0 66 #[.string ⟨m.aq.c.1.toArray⟩,.string ⟨m.aq.c.2.toArray⟩,.string ⟨m.aq.s.1.toArray⟩,.string ⟨m.aq.s.2.toArray⟩,.int .i64 m.aq.t,.int .i64 m.aq.no]);obtain⟨W,eW⟩:∃W,W=w0.alloc (.cells #[.string ⟨m.aq.c.1.toArray⟩,.string ⟨m.aq.c.2.toArray⟩,.string ⟨m.aq.s.1.toArray⟩,.string ⟨m.aq.s.2.toArray⟩,.int .i64 m.aq.t,.int .i64 m.aq.no] 66):=⟨_,rfl⟩;rw[←eW] at HB HK⊢;clear eW;replace HK:=I (show Blk W.drew _ _ _ from HK.o.drewN 1);replace HB:=I (show Below _ _ W.drew from below_drewN HB.o 1)
   go_region_held3 (fun w'=>w'.cell? ⟨w0.heap.size,0,none⟩=some (.string ⟨m.aq.c.1.toArray⟩)∧w'.cell? ⟨w0.heap.size,1,none⟩=some (.string ⟨m.aq.c.2.toArray⟩)∧w'.cell? ⟨w0.heap.size,2,none⟩=some (.string ⟨m.aq.s.1.toArray⟩)∧w'.cell? ⟨w0.heap.size,3,none⟩=some (.string ⟨m.aq.s.2.toArray⟩)∧w'.cell? ⟨w0.heap.size,4,none⟩=some (.int .i64 m.aq.t)∧w'.cell? ⟨w0.heap.size,5,none⟩=some (.int .i64 m.aq.no)) (first | exact⟨HK.o.cell 0,HK.o.cell 1,HK.o.cell 2,HK.o.cell 3,HK.o.cell 4,HK.o.cell 5⟩ | exact⟨(HK.o.alloc _).cell 0,(HK.o.alloc _).cell 1,(HK.o.alloc _).cell 2,(HK.o.alloc _).cell 3,(HK.o.alloc _).cell 4,(HK.o.alloc _).cell 5⟩) ((first
    |(go_at_call 72;(with_reducible refine Calls.mono (T1.o _) ?_);rintro e w1 ⟨⟨g1,c1,rfl,hg1,hc1,hr1⟩,hb⟩;clear T1;have HR1:=I hr1;replace HK:=I (HK.o.below hb);replace HB:=HB.t hb;clear hb hr1 hg1 hc1)
    |(go_at_call 72;(with_reducible refine Calls.mono (T2.o _) ?_);rintro e w2 ⟨⟨g2,c2,rfl,hg2,hc2,hr2⟩,hb⟩;clear T2;replace HR1:=I (AG HR1.o hb);have HR2:=I hr2;replace HK:=I (HK.o.below hb);replace HB:=HB.t hb;clear hb hr2 hg2 hc2)
    |(go_at_call 73;(with_reducible refine Calls.mono (T3.o _) ?_);rintro e w3 ⟨⟨g3,c3,rfl,hg3,hc3,hr3⟩,hb⟩;clear T3;replace HR1:=I (AG HR1.o hb);replace HR2:=I (AG HR2.o hb);have HR3:=I hr3;replace HK:=I (HK.o.below hb);replace HB:=HB.t hb;clear hb hr3 hg3 hc3)
    |(go_at_call 73;(with_reducible refine Calls.mono (T4.o _) ?_);rintro e w4 ⟨⟨g4,c4,rfl,hg4,hc4,hr4⟩,hb⟩;clear T4;replace HR1:=I (AG HR1.o hb);replace HR2:=I (AG HR2.o hb);replace HR3:=I (AG HR3.o hb);have HR4:=I hr4;replace HK:=I (HK.o.below hb);replace HB:=HB.t hb;clear hb hr4 hg4 hc4)
    |(go_at_call 71;refine Calls.mono (Bp 106 [l1,l2,l3,l4] _ 4 4 (w4.heap.size+1) _ (Ir HR1.o HR2.o HR3.o HR4.o) rfl (by simp) HL.o (by simp)) ?_;rintro e wz ⟨⟨gz,cz,rfl,hgz,hcz,hrz⟩,hb⟩;have hal:=(Below.refl w4.heap.size w4).alloc Ae (.cells #[.slice (some ⟨g1,0,none⟩) l1.length c1,.slice (some ⟨g2,0,none⟩) l2.length c2,.slice (some ⟨g3,0,none⟩) l3.length c3,.slice (some ⟨g4,0,none⟩) l4.length c4] 27);have HG:=I (AN (l:=elem 106 [l1,l2,l3,l4].flatten) ⟨⟨gz,cz,rfl,hgz,hcz,hrz⟩,hb⟩ (HB.o.trans (hal.mono HB.o.size)));rw[Ft] at HG;replace HK:=I ((HK.o.alloc (.cells #[.slice (some ⟨g1,0,none⟩) l1.length c1,.slice (some ⟨g2,0,none⟩) l2.length c2,.slice (some ⟨g3,0,none⟩) l3.length c3,.slice (some ⟨g4,0,none⟩) l4.length c4] 27)).below hb);clear hal hgz hcz hrz hb)
    |(go_at_call 70;refine Calls.mono (LM.o _ _ _) ?_;rintro e wy ⟨rfl,rfl⟩)))
   go_wp2
   go_ret2
   exact Dq HG.o
  ·have h':tkB m.tg.t=true∧Bd m.tg.a=true∧prB m.tg.s=true∧tmB m.tg.u=true∧tmB m.tg.no=true:=by simpa [tgB] using h1
   have b1:=Cu h'.1;have b2:=Dc b1.1;have b3:=(Bi h'.1).1;have b4:=AM h'.2.1;have b5:=An 4 m.tg.a;have b6:=Dc h'.2.2.1;have b7:=(AS h'.2.2.1).1;have b8:=Ay m.tg.u;have b9:=Ay m.tg.no;have hk:m.k=2:=by rw[e]
   have y1:(m.k==1)=false:=by rw[hk];rfl
   have y2:(m.k==2)=true:=by rw[hk];rfl
   have y3:(m.k==3)=false:=by rw[hk];rfl
   have y4:(m.k==4)=false:=by rw[hk];rfl
   have y5:(m.k==5)=false:=by rw[hk];rfl
   have hE0:mgE m=elem 108 [tkE m.tg.t,elem 4 m.tg.a,prE m.tg.s,encI m.tg.u,encI m.tg.no].flatten:=by rw[e];rfl
   have hO:∀l,mgE m=l→l.length≤2000→mgO m=some l:=fun l e2 h2=>BM.2 ⟨hx,by rw[e2];exact h2,e2⟩
   have hN:∀l,mgE m=l→¬l.length≤2000→mgO m=none:=fun l e2 h2=>by unfold mgO limO;rw[e2,if_neg (fun h=>h2 h.2)]
   have HO:=I (hO _ hE0);have HN:=I (hN _ hE0);have T1:=I (fun w1 (h:Below w.heap.size w w1)=>Fl m.tg.t A1 c1 w1.heap.size w1 (by omega) (by omega) (by omega) ((r1.below h).more h.size) Ae);have T2:=I (fun w1 (h:Below w.heap.size w w1)=>DerR.Bz m.tg.a A2 m.tg.a.length c2 w1.heap.size w1 ((r2.below h).more h.size) rfl Ae (by omega));have T3:=I (fun w1=>Co m.tg.s w1 (by omega) (by omega));have T4:=I (fun w1=>DerR.AZ m.tg.u w1);have T5:=I (fun w1=>DerR.AZ m.tg.no w1);have hl:[tkE m.tg.t,elem 4 m.tg.a,prE m.tg.s,encI m.tg.u,encI m.tg.no].flatten.length≤60000:=by rw[Fu];simp only[List.length_append];omega
   have hl2:True:=by trivial
   have HL:=I (show [tkE m.tg.t,elem 4 m.tg.a,prE m.tg.s,encI m.tg.u,encI m.tg.no].flatten.length≤65535 by omega);have hE:=An 108 [tkE m.tg.t,elem 4 m.tg.a,prE m.tg.s,encI m.tg.u,encI m.tg.no].flatten;rw[Fu] at hE hl HO HN;obtain⟨l1,el1⟩:∃l,l=tkE m.tg.t:=⟨_,rfl⟩;obtain⟨l2,el2⟩:∃l,l=elem 4 m.tg.a:=⟨_,rfl⟩;obtain⟨l3,el3⟩:∃l,l=prE m.tg.s:=⟨_,rfl⟩;obtain⟨l4,el4⟩:∃l,l=encI m.tg.u:=⟨_,rfl⟩;obtain⟨l5,el5⟩:∃l,l=encI m.tg.no:=⟨_,rfl⟩;rw[←el1] at T1 HL hE hl HO HN;rw[←el2] at T2 HL hE hl HO HN;rw[←el3] at T3 HL hE hl HO HN;rw[←el4] at T4 HL hE hl HO HN;rw[←el5] at T5 HL hE hl HO HN
   by_cases hlim:(elem 108 (l1++(l2++(l3++(l4++l5))))).length≤2000
   ·have hlm:(elem 108 (l1++(l2++(l3++(l4++l5))))).length≤2000:=hlim
    have LM:=I (fun A c w1=>Di (elem 108 (l1++(l2++(l3++(l4++l5))))) A _ c w1 rfl hlm);rw[HO.o hlm];clear h1 e h' hx hE0 hO hN hk hs r1 r2 r3 r4 r5 r6 hE hl hl2 b1 b2 b3 b4 b5 b6 b7 b8 b9 el1 el2 el3 el4 el5 HO HN hlm hlim;go_enter Tryz.func36,Tryz.ntmps36
    go_wp2_with (first
     |(refine Ak (by rfl) 76 (.tmp 1) (by rfl) w.heap.size 0 (by rfl) cs _ (Aj (Blk.new w 76 cs)) Tryz.underlying76 (by rfl) HI.o ?_)
     |(go_at_call 69;refine Calls.mono (I1.o _) ?_;rintro e w0 ⟨rfl,hb⟩;replace HK:=I (HK.o.below hb);replace HB:=HB.t hb;clear hb I1;replace HK:=I (EC.o▸HK.o);have k0:w0.cell? ⟨w.heap.size,0,none⟩=some (.int .i64 m.k):=HK.o.cell 0;have k7:w0.cell? ⟨w.heap.size,7,none⟩=some (.string ⟨m.tg.t.s.1.toArray⟩):=HK.o.cell 7;have k8:w0.cell? ⟨w.heap.size,8,none⟩=some (.string ⟨m.tg.t.s.2.toArray⟩):=HK.o.cell 8;have k9:w0.cell? ⟨w.heap.size,9,none⟩=some (.int .i64 m.tg.t.k):=HK.o.cell 9;have k10:w0.cell? ⟨w.heap.size,10,none⟩=some (.slice A1 m.tg.t.b.length c1):=HK.o.cell 10;have k11:w0.cell? ⟨w.heap.size,11,none⟩=some (.slice A2 m.tg.a.length c2):=HK.o.cell 11;have k12:w0.cell? ⟨w.heap.size,12,none⟩=some (.string ⟨m.tg.s.1.toArray⟩):=HK.o.cell 12;have k13:w0.cell? ⟨w.heap.size,13,none⟩=some (.string ⟨m.tg.s.2.toArray⟩):=HK.o.cell 13;have k14:w0.cell? ⟨w.heap.size,14,none⟩=some (.int .i64 m.tg.u):=HK.o.cell 14;have k15:w0.cell? ⟨w.heap.size,15,none⟩=some (.int .i64 m.tg.no):=HK.o.cell 15)
     |fail)
    clear k0 k7 k8 k9 k10 k11 k12 k13 k14 k15;replace HB:=I (HB.o.alloc HB.o.size (.cells #[.string ⟨m.tg.t.s.1.toArray⟩,.string ⟨m.tg.t.s.2.toArray⟩,.int .i64 m.tg.t.k,.slice A1 m.tg.t.b.length c1,.slice A2 m.tg.a.length c2,.string ⟨m.tg.s.1.toArray⟩,.string ⟨m.tg.s.2.toArray⟩,.int .i64 m.tg.u,.int .i64 m.tg.no] 68));replace HK:=I (Blk.new w0 68 #[.string ⟨m.tg.t.s.1.toArray⟩,.string ⟨m.tg.t.s.2.toArray⟩,.int .i64 m.tg.t.k,.slice A1 m.tg.t.b.length c1,.slice A2 m.tg.a.length c2,.string ⟨m.tg.s.1.toArray⟩,.string ⟨m.tg.s.2.toArray⟩,.int .i64 m.tg.u,.int .i64 m.tg.no]);obtain⟨W,eW⟩:∃W,W=w0.alloc (.cells #[.string ⟨m.tg.t.s.1.toArray⟩,.string ⟨m.tg.t.s.2.toArray⟩,.int .i64 m.tg.t.k,.slice A1 m.tg.t.b.length c1,.slice A2 m.tg.a.length c2,.string ⟨m.tg.s.1.toArray⟩,.string ⟨m.tg.s.2.toArray⟩,.int .i64 m.tg.u,.int .i64 m.tg.no] 68):=⟨_,rfl⟩;rw[←eW] at HB HK⊢;clear eW;replace HK:=I (show Blk W.drew _ _ _ from HK.o.drewN 1);replace HB:=I (show Below _ _ W.drew from below_drewN HB.o 1)
    go_region_held3 (fun w'=>w'.cell? ⟨w0.heap.size,0,none⟩=some (.string ⟨m.tg.t.s.1.toArray⟩)∧w'.cell? ⟨w0.heap.size,1,none⟩=some (.string ⟨m.tg.t.s.2.toArray⟩)∧w'.cell? ⟨w0.heap.size,2,none⟩=some (.int .i64 m.tg.t.k)∧w'.cell? ⟨w0.heap.size,3,none⟩=some (.slice A1 m.tg.t.b.length c1)∧w'.cell? ⟨w0.heap.size,4,none⟩=some (.slice A2 m.tg.a.length c2)∧w'.cell? ⟨w0.heap.size,5,none⟩=some (.string ⟨m.tg.s.1.toArray⟩)∧w'.cell? ⟨w0.heap.size,6,none⟩=some (.string ⟨m.tg.s.2.toArray⟩)∧w'.cell? ⟨w0.heap.size,7,none⟩=some (.int .i64 m.tg.u)∧w'.cell? ⟨w0.heap.size,8,none⟩=some (.int .i64 m.tg.no)) (first | exact⟨HK.o.cell 0,HK.o.cell 1,HK.o.cell 2,HK.o.cell 3,HK.o.cell 4,HK.o.cell 5,HK.o.cell 6,HK.o.cell 7,HK.o.cell 8⟩ | exact⟨(HK.o.alloc _).cell 0,(HK.o.alloc _).cell 1,(HK.o.alloc _).cell 2,(HK.o.alloc _).cell 3,(HK.o.alloc _).cell 4,(HK.o.alloc _).cell 5,(HK.o.alloc _).cell 6,(HK.o.alloc _).cell 7,(HK.o.alloc _).cell 8⟩) ((first
     |(go_at_call 74;(with_reducible refine Calls.mono (T1.o _ HB.o) ?_);rintro e w1 ⟨⟨g1,c1,rfl,hg1,hc1,hr1⟩,hb⟩;clear T1;have HR1:=I hr1;replace HK:=I (HK.o.below hb);replace HB:=HB.t hb;clear hb hr1 hg1 hc1)
     |(go_at_call 75;(with_reducible refine Calls.mono (T2.o _ HB.o) ?_);rintro e w2 ⟨⟨g2,c2,rfl,hg2,hc2,hr2⟩,hb⟩;clear T2;replace HR1:=I (AG HR1.o hb);have HR2:=I hr2;replace HK:=I (HK.o.below hb);replace HB:=HB.t hb;clear hb hr2 hg2 hc2)
     |(go_at_call 72;(with_reducible refine Calls.mono (T3.o _) ?_);rintro e w3 ⟨⟨g3,c3,rfl,hg3,hc3,hr3⟩,hb⟩;clear T3;replace HR1:=I (AG HR1.o hb);replace HR2:=I (AG HR2.o hb);have HR3:=I hr3;replace HK:=I (HK.o.below hb);replace HB:=HB.t hb;clear hb hr3 hg3 hc3)
     |(go_at_call 73;(with_reducible refine Calls.mono (T4.o _) ?_);rintro e w4 ⟨⟨g4,c4,rfl,hg4,hc4,hr4⟩,hb⟩;clear T4;replace HR1:=I (AG HR1.o hb);replace HR2:=I (AG HR2.o hb);replace HR3:=I (AG HR3.o hb);have HR4:=I hr4;replace HK:=I (HK.o.below hb);replace HB:=HB.t hb;clear hb hr4 hg4 hc4)
     |(go_at_call 73;(with_reducible refine Calls.mono (T5.o _) ?_);rintro e w5 ⟨⟨g5,c5,rfl,hg5,hc5,hr5⟩,hb⟩;clear T5;replace HR1:=I (AG HR1.o hb);replace HR2:=I (AG HR2.o hb);replace HR3:=I (AG HR3.o hb);replace HR4:=I (AG HR4.o hb);have HR5:=I hr5;replace HK:=I (HK.o.below hb);replace HB:=HB.t hb;clear hb hr5 hg5 hc5)
     |(go_at_call 71;refine Calls.mono (Bp 108 [l1,l2,l3,l4,l5] _ 5 5 (w5.heap.size+1) _ (Gj HR1.o HR2.o HR3.o HR4.o HR5.o) rfl (by simp) HL.o (by simp)) ?_;rintro e wz ⟨⟨gz,cz,rfl,hgz,hcz,hrz⟩,hb⟩;have hal:=(Below.refl w5.heap.size w5).alloc Ae (.cells #[.slice (some ⟨g1,0,none⟩) l1.length c1,.slice (some ⟨g2,0,none⟩) l2.length c2,.slice (some ⟨g3,0,none⟩) l3.length c3,.slice (some ⟨g4,0,none⟩) l4.length c4,.slice (some ⟨g5,0,none⟩) l5.length c5] 27);have HG:=I (AN (l:=elem 108 [l1,l2,l3,l4,l5].flatten) ⟨⟨gz,cz,rfl,hgz,hcz,hrz⟩,hb⟩ (HB.o.trans (hal.mono HB.o.size)));rw[Fu] at HG;replace HK:=I ((HK.o.alloc (.cells #[.slice (some ⟨g1,0,none⟩) l1.length c1,.slice (some ⟨g2,0,none⟩) l2.length c2,.slice (some ⟨g3,0,none⟩) l3.length c3,.slice (some ⟨g4,0,none⟩) l4.length c4,.slice (some ⟨g5,0,none⟩) l5.length c5] 27)).below hb);clear hal hgz hcz hrz hb)
     |(go_at_call 70;refine Calls.mono (LM.o _ _ _) ?_;rintro e wy ⟨rfl,rfl⟩)))
    go_wp2
    go_ret2
    exact Dq HG.o
   ·have hlm:¬(elem 108 (l1++(l2++(l3++(l4++l5))))).length≤2000:=hlim
    have LM:=I (fun A c w1=>Kj (elem 108 (l1++(l2++(l3++(l4++l5))))) A _ c w1 rfl hlm);rw[HN.o hlm];clear h1 e h' hx hE0 hO hN hk hs r1 r2 r3 r4 r5 r6 hE hl hl2 b1 b2 b3 b4 b5 b6 b7 b8 b9 el1 el2 el3 el4 el5 HO HN hlm hlim;go_enter Tryz.func36,Tryz.ntmps36
    go_wp2_with (first
     |(refine Ak (by rfl) 76 (.tmp 1) (by rfl) w.heap.size 0 (by rfl) cs _ (Aj (Blk.new w 76 cs)) Tryz.underlying76 (by rfl) HI.o ?_)
     |(go_at_call 69;refine Calls.mono (I1.o _) ?_;rintro e w0 ⟨rfl,hb⟩;replace HK:=I (HK.o.below hb);replace HB:=HB.t hb;clear hb I1;replace HK:=I (EC.o▸HK.o);have k0:w0.cell? ⟨w.heap.size,0,none⟩=some (.int .i64 m.k):=HK.o.cell 0;have k7:w0.cell? ⟨w.heap.size,7,none⟩=some (.string ⟨m.tg.t.s.1.toArray⟩):=HK.o.cell 7;have k8:w0.cell? ⟨w.heap.size,8,none⟩=some (.string ⟨m.tg.t.s.2.toArray⟩):=HK.o.cell 8;have k9:w0.cell? ⟨w.heap.size,9,none⟩=some (.int .i64 m.tg.t.k):=HK.o.cell 9;have k10:w0.cell? ⟨w.heap.size,10,none⟩=some (.slice A1 m.tg.t.b.length c1):=HK.o.cell 10;have k11:w0.cell? ⟨w.heap.size,11,none⟩=some (.slice A2 m.tg.a.length c2):=HK.o.cell 11;have k12:w0.cell? ⟨w.heap.size,12,none⟩=some (.string ⟨m.tg.s.1.toArray⟩):=HK.o.cell 12;have k13:w0.cell? ⟨w.heap.size,13,none⟩=some (.string ⟨m.tg.s.2.toArray⟩):=HK.o.cell 13;have k14:w0.cell? ⟨w.heap.size,14,none⟩=some (.int .i64 m.tg.u):=HK.o.cell 14;have k15:w0.cell? ⟨w.heap.size,15,none⟩=some (.int .i64 m.tg.no):=HK.o.cell 15)
     |fail)
    clear k0 k7 k8 k9 k10 k11 k12 k13 k14 k15;replace HB:=I (HB.o.alloc HB.o.size (.cells #[.string ⟨m.tg.t.s.1.toArray⟩,.string ⟨m.tg.t.s.2.toArray⟩,.int .i64 m.tg.t.k,.slice A1 m.tg.t.b.length c1,.slice A2 m.tg.a.length c2,.string ⟨m.tg.s.1.toArray⟩,.string ⟨m.tg.s.2.toArray⟩,.int .i64 m.tg.u,.int .i64 m.tg.no] 68));replace HK:=I (Blk.new w0 68 #[.string ⟨m.tg.t.s.1.toArray⟩,.string ⟨m.tg.t.s.2.toArray⟩,.int .i64 m.tg.t.k,.slice A1 m.tg.t.b.length c1,.slice A2 m.tg.a.length c2,.string ⟨m.tg.s.1.toArray⟩,.string ⟨m.tg.s.2.toArray⟩,.int .i64 m.tg.u,.int .i64 m.tg.no]);obtain⟨W,eW⟩:∃W,W=w0.alloc (.cells #[.string ⟨m.tg.t.s.1.toArray⟩,.string ⟨m.tg.t.s.2.toArray⟩,.int .i64 m.tg.t.k,.slice A1 m.tg.t.b.length c1,.slice A2 m.tg.a.length c2,.string ⟨m.tg.s.1.toArray⟩,.string ⟨m.tg.s.2.toArray⟩,.int .i64 m.tg.u,.int .i64 m.tg.no] 68):=⟨_,rfl⟩;rw[←eW] at HB HK⊢;clear eW;replace HK:=I (show Blk W.drew _ _ _ from HK.o.drewN 1);replace HB:=I (show Below _ _ W.drew from below_drewN HB.o 1)
    go_region_held3 (fun w'=>w'.cell? ⟨w0.heap.size,0,none⟩=some (.string ⟨m.tg.t.s.1.toArray⟩)∧w'.cell? ⟨w0.heap.size,1,none⟩=some (.string ⟨m.tg.t.s.2.toArray⟩)∧w'.cell? ⟨w0.heap.size,2,none⟩=some (.int .i64 m.tg.t.k)∧w'.cell? ⟨w0.heap.size,3,none⟩=some (.slice A1 m.tg.t.b.length c1)∧w'.cell? ⟨w0.heap.size,4,none⟩=some (.slice A2 m.tg.a.length c2)∧w'.cell? ⟨w0.heap.size,5,none⟩=some (.string ⟨m.tg.s.1.toArray⟩)∧w'.cell? ⟨w0.heap.size,6,none⟩=some (.string ⟨m.tg.s.2.toArray⟩)∧w'.cell? ⟨w0.heap.size,7,none⟩=some (.int .i64 m.tg.u)∧w'.cell? ⟨w0.heap.size,8,none⟩=some (.int .i64 m.tg.no)) (first | exact⟨HK.o.cell 0,HK.o.cell 1,HK.o.cell 2,HK.o.cell 3,HK.o.cell 4,HK.o.cell 5,HK.o.cell 6,HK.o.cell 7,HK.o.cell 8⟩ | exact⟨(HK.o.alloc _).cell 0,(HK.o.alloc _).cell 1,(HK.o.alloc _).cell 2,(HK.o.alloc _).cell 3,(HK.o.alloc _).cell 4,(HK.o.alloc _).cell 5,(HK.o.alloc _).cell 6,(HK.o.alloc _).cell 7,(HK.o.alloc _).cell 8⟩) ((first
     |(go_at_call 74;(with_reducible refine Calls.mono (T1.o _ HB.o) ?_);rintro e w1 ⟨⟨g1,c1,rfl,hg1,hc1,hr1⟩,hb⟩;clear T1;have HR1:=I hr1;replace HK:=I (HK.o.below hb);replace HB:=HB.t hb;clear hb hr1 hg1 hc1)
     |(go_at_call 75;(with_reducible refine Calls.mono (T2.o _ HB.o) ?_);rintro e w2 ⟨⟨g2,c2,rfl,hg2,hc2,hr2⟩,hb⟩;clear T2;replace HR1:=I (AG HR1.o hb);have HR2:=I hr2;replace HK:=I (HK.o.below hb);replace HB:=HB.t hb;clear hb hr2 hg2 hc2)
     |(go_at_call 72;(with_reducible refine Calls.mono (T3.o _) ?_);rintro e w3 ⟨⟨g3,c3,rfl,hg3,hc3,hr3⟩,hb⟩;clear T3;replace HR1:=I (AG HR1.o hb);replace HR2:=I (AG HR2.o hb);have HR3:=I hr3;replace HK:=I (HK.o.below hb);replace HB:=HB.t hb;clear hb hr3 hg3 hc3)
     |(go_at_call 73;(with_reducible refine Calls.mono (T4.o _) ?_);rintro e w4 ⟨⟨g4,c4,rfl,hg4,hc4,hr4⟩,hb⟩;clear T4;replace HR1:=I (AG HR1.o hb);replace HR2:=I (AG HR2.o hb);replace HR3:=I (AG HR3.o hb);have HR4:=I hr4;replace HK:=I (HK.o.below hb);replace HB:=HB.t hb;clear hb hr4 hg4 hc4)
     |(go_at_call 73;(with_reducible refine Calls.mono (T5.o _) ?_);rintro e w5 ⟨⟨g5,c5,rfl,hg5,hc5,hr5⟩,hb⟩;clear T5;replace HR1:=I (AG HR1.o hb);replace HR2:=I (AG HR2.o hb);replace HR3:=I (AG HR3.o hb);replace HR4:=I (AG HR4.o hb);have HR5:=I hr5;replace HK:=I (HK.o.below hb);replace HB:=HB.t hb;clear hb hr5 hg5 hc5)
     |(go_at_call 71;refine Calls.mono (Bp 108 [l1,l2,l3,l4,l5] _ 5 5 (w5.heap.size+1) _ (Gj HR1.o HR2.o HR3.o HR4.o HR5.o) rfl (by simp) HL.o (by simp)) ?_;rintro e wz ⟨⟨gz,cz,rfl,hgz,hcz,hrz⟩,hb⟩;have hal:=(Below.refl w5.heap.size w5).alloc Ae (.cells #[.slice (some ⟨g1,0,none⟩) l1.length c1,.slice (some ⟨g2,0,none⟩) l2.length c2,.slice (some ⟨g3,0,none⟩) l3.length c3,.slice (some ⟨g4,0,none⟩) l4.length c4,.slice (some ⟨g5,0,none⟩) l5.length c5] 27);have HG:=I (AN (l:=elem 108 [l1,l2,l3,l4,l5].flatten) ⟨⟨gz,cz,rfl,hgz,hcz,hrz⟩,hb⟩ (HB.o.trans (hal.mono HB.o.size)));rw[Fu] at HG;replace HK:=I ((HK.o.alloc (.cells #[.slice (some ⟨g1,0,none⟩) l1.length c1,.slice (some ⟨g2,0,none⟩) l2.length c2,.slice (some ⟨g3,0,none⟩) l3.length c3,.slice (some ⟨g4,0,none⟩) l4.length c4,.slice (some ⟨g5,0,none⟩) l5.length c5] 27)).below hb);clear hal hgz hcz hrz hb)
     |(go_at_call 70;refine Calls.mono (LM.o _ _ _) ?_;rintro e wy ⟨rfl,rfl⟩)))
    go_wp2
    go_ret2
    exact Gl HG.o.2
  ·have h':prB m.re.c=true∧tkB m.re.t=true∧Bd m.re.b=true:=by simpa [reB] using h1
   have b1:=Cu h'.2.1;have b2:=Dc b1.1;have b3:=(Bi h'.2.1).1;have b4:=AM h'.2.2;have b5:=An 4 m.re.b;have b6:=Dc h'.1;have b7:=(AS h'.1).1;have hk:m.k=3:=by rw[e]
   have y1:(m.k==1)=false:=by rw[hk];rfl
   have y2:(m.k==2)=false:=by rw[hk];rfl
   have y3:(m.k==3)=true:=by rw[hk];rfl
   have y4:(m.k==4)=false:=by rw[hk];rfl
   have y5:(m.k==5)=false:=by rw[hk];rfl
   have hE0:mgE m=elem 107 [prE m.re.c,tkE m.re.t,elem 4 m.re.b].flatten:=by rw[e];rfl
   have hO:∀l,mgE m=l→l.length≤2000→mgO m=some l:=fun l e2 h2=>BM.2 ⟨hx,by rw[e2];exact h2,e2⟩
   have hN:∀l,mgE m=l→¬l.length≤2000→mgO m=none:=fun l e2 h2=>by unfold mgO limO;rw[e2,if_neg (fun h=>h2 h.2)]
   have HO:=I (hO _ hE0);have HN:=I (hN _ hE0);have T1:=I (fun w1=>Co m.re.c w1 (by omega) (by omega));have T2:=I (fun w1 (h:Below w.heap.size w w1)=>Fl m.re.t A3 c3 w1.heap.size w1 (by omega) (by omega) (by omega) ((r3.below h).more h.size) Ae);have T3:=I (fun w1 (h:Below w.heap.size w w1)=>DerR.Bz m.re.b A4 m.re.b.length c4 w1.heap.size w1 ((r4.below h).more h.size) rfl Ae (by omega));have hl:[prE m.re.c,tkE m.re.t,elem 4 m.re.b].flatten.length≤60000:=by rw[CJ];simp only[List.length_append];omega
   have hl2:[prE m.re.c,tkE m.re.t,elem 4 m.re.b].flatten.length≤1990:=by rw[CJ];simp only[List.length_append];omega
   have HL:=I (show [prE m.re.c,tkE m.re.t,elem 4 m.re.b].flatten.length≤65535 by omega);have hE:=An 107 [prE m.re.c,tkE m.re.t,elem 4 m.re.b].flatten;rw[CJ] at hE hl HO HN hl2;obtain⟨l1,el1⟩:∃l,l=prE m.re.c:=⟨_,rfl⟩;obtain⟨l2,el2⟩:∃l,l=tkE m.re.t:=⟨_,rfl⟩;obtain⟨l3,el3⟩:∃l,l=elem 4 m.re.b:=⟨_,rfl⟩;rw[←el1] at T1 HL hE hl HO HN hl2;rw[←el2] at T2 HL hE hl HO HN hl2;rw[←el3] at T3 HL hE hl HO HN hl2;have hlm:(elem 107 (l1++(l2++l3))).length≤2000:=by omega
   have LM:=I (fun A c w1=>Di (elem 107 (l1++(l2++l3))) A _ c w1 rfl hlm);rw[HO.o hlm];clear h1 e h' hx hE0 hO hN hk hs r1 r2 r3 r4 r5 r6 hE hl hl2 b1 b2 b3 b4 b5 b6 b7 el1 el2 el3 HO HN hlm;go_enter Tryz.func36,Tryz.ntmps36
   go_wp2_with (first
    |(refine Ak (by rfl) 76 (.tmp 1) (by rfl) w.heap.size 0 (by rfl) cs _ (Aj (Blk.new w 76 cs)) Tryz.underlying76 (by rfl) HI.o ?_)
    |(go_at_call 69;refine Calls.mono (I1.o _) ?_;rintro e w0 ⟨rfl,hb⟩;replace HK:=I (HK.o.below hb);replace HB:=HB.t hb;clear hb I1;replace HK:=I (EC.o▸HK.o);have k0:w0.cell? ⟨w.heap.size,0,none⟩=some (.int .i64 m.k):=HK.o.cell 0)
    |fail)
   clear k0;replace HK:=I (show Blk w0.drew _ _ _ from HK.o.drewN 1);replace HB:=I (show Below _ _ w0.drew from below_drewN HB.o 1)
   go_region_held3 (fun w'=>w'.cell? ⟨w.heap.size,16,none⟩=some (.string ⟨m.re.c.1.toArray⟩)∧w'.cell? ⟨w.heap.size,17,none⟩=some (.string ⟨m.re.c.2.toArray⟩)∧w'.cell? ⟨w.heap.size,18,none⟩=some (.string ⟨m.re.t.s.1.toArray⟩)∧w'.cell? ⟨w.heap.size,19,none⟩=some (.string ⟨m.re.t.s.2.toArray⟩)∧w'.cell? ⟨w.heap.size,20,none⟩=some (.int .i64 m.re.t.k)∧w'.cell? ⟨w.heap.size,21,none⟩=some (.slice A3 m.re.t.b.length c3)∧w'.cell? ⟨w.heap.size,22,none⟩=some (.slice A4 m.re.b.length c4)) (first | exact⟨HK.o.cell 16,HK.o.cell 17,HK.o.cell 18,HK.o.cell 19,HK.o.cell 20,HK.o.cell 21,HK.o.cell 22⟩ | exact⟨(HK.o.alloc _).cell 16,(HK.o.alloc _).cell 17,(HK.o.alloc _).cell 18,(HK.o.alloc _).cell 19,(HK.o.alloc _).cell 20,(HK.o.alloc _).cell 21,(HK.o.alloc _).cell 22⟩) ((first
    |(go_at_call 72;(with_reducible refine Calls.mono (T1.o _) ?_);rintro e w1 ⟨⟨g1,c1,rfl,hg1,hc1,hr1⟩,hb⟩;clear T1;have HR1:=I hr1;replace HK:=I (HK.o.below hb);replace HB:=HB.t hb;clear hb hr1 hg1 hc1)
    |(go_at_call 74;(with_reducible refine Calls.mono (T2.o _ HB.o) ?_);rintro e w2 ⟨⟨g2,c2,rfl,hg2,hc2,hr2⟩,hb⟩;clear T2;replace HR1:=I (AG HR1.o hb);have HR2:=I hr2;replace HK:=I (HK.o.below hb);replace HB:=HB.t hb;clear hb hr2 hg2 hc2)
    |(go_at_call 75;(with_reducible refine Calls.mono (T3.o _ HB.o) ?_);rintro e w3 ⟨⟨g3,c3,rfl,hg3,hc3,hr3⟩,hb⟩;clear T3;replace HR1:=I (AG HR1.o hb);replace HR2:=I (AG HR2.o hb);have HR3:=I hr3;replace HK:=I (HK.o.below hb);replace HB:=HB.t hb;clear hb hr3 hg3 hc3)
    |(go_at_call 71;refine Calls.mono (Bp 107 [l1,l2,l3] _ 3 3 (w3.heap.size+1) _ (DS HR1.o HR2.o HR3.o) rfl (by simp) HL.o (by simp)) ?_;rintro e wz ⟨⟨gz,cz,rfl,hgz,hcz,hrz⟩,hb⟩;have hal:=(Below.refl w3.heap.size w3).alloc Ae (.cells #[.slice (some ⟨g1,0,none⟩) l1.length c1,.slice (some ⟨g2,0,none⟩) l2.length c2,.slice (some ⟨g3,0,none⟩) l3.length c3] 27);have HG:=I (AN (l:=elem 107 [l1,l2,l3].flatten) ⟨⟨gz,cz,rfl,hgz,hcz,hrz⟩,hb⟩ (HB.o.trans (hal.mono HB.o.size)));rw[CJ] at HG;replace HK:=I ((HK.o.alloc (.cells #[.slice (some ⟨g1,0,none⟩) l1.length c1,.slice (some ⟨g2,0,none⟩) l2.length c2,.slice (some ⟨g3,0,none⟩) l3.length c3] 27)).below hb);clear hal hgz hcz hrz hb)
    |(go_at_call 70;refine Calls.mono (LM.o _ _ _) ?_;rintro e wy ⟨rfl,rfl⟩)))
   go_wp2
   go_ret2
   exact Dq HG.o
  ·have h':tkB m.ap.t=true∧Bd m.ap.a=true:=by simpa [apB] using h1
   have b1:=Cu h'.1;have b2:=Dc b1.1;have b3:=(Bi h'.1).1;have b4:=AM h'.2;have b5:=An 4 m.ap.a;have hk:m.k=4:=by rw[e]
   have y1:(m.k==1)=false:=by rw[hk];rfl
   have y2:(m.k==2)=false:=by rw[hk];rfl
   have y3:(m.k==3)=false:=by rw[hk];rfl
   have y4:(m.k==4)=true:=by rw[hk];rfl
   have y5:(m.k==5)=false:=by rw[hk];rfl
   have hE0:mgE m=elem 110 [tkE m.ap.t,elem 4 m.ap.a].flatten:=by rw[e];rfl
   have hO:∀l,mgE m=l→l.length≤2000→mgO m=some l:=fun l e2 h2=>BM.2 ⟨hx,by rw[e2];exact h2,e2⟩
   have hN:∀l,mgE m=l→¬l.length≤2000→mgO m=none:=fun l e2 h2=>by unfold mgO limO;rw[e2,if_neg (fun h=>h2 h.2)]
   have HO:=I (hO _ hE0);have HN:=I (hN _ hE0);have T1:=I (fun w1 (h:Below w.heap.size w w1)=>Fl m.ap.t A5 c5 w1.heap.size w1 (by omega) (by omega) (by omega) ((r5.below h).more h.size) Ae);have T2:=I (fun w1 (h:Below w.heap.size w w1)=>DerR.Bz m.ap.a A6 m.ap.a.length c6 w1.heap.size w1 ((r6.below h).more h.size) rfl Ae (by omega));have hl:[tkE m.ap.t,elem 4 m.ap.a].flatten.length≤60000:=by rw[BA];simp only[List.length_append];omega
   have hl2:[tkE m.ap.t,elem 4 m.ap.a].flatten.length≤1990:=by rw[BA];simp only[List.length_append];omega
   have HL:=I (show [tkE m.ap.t,elem 4 m.ap.a].flatten.length≤65535 by omega);have hE:=An 110 [tkE m.ap.t,elem 4 m.ap.a].flatten;rw[BA] at hE hl HO HN hl2;obtain⟨l1,el1⟩:∃l,l=tkE m.ap.t:=⟨_,rfl⟩;obtain⟨l2,el2⟩:∃l,l=elem 4 m.ap.a:=⟨_,rfl⟩;rw[←el1] at T1 HL hE hl HO HN hl2;rw[←el2] at T2 HL hE hl HO HN hl2;have hlm:(elem 110 (l1++l2)).length≤2000:=by omega
   have LM:=I (fun A c w1=>Di (elem 110 (l1++l2)) A _ c w1 rfl hlm);rw[HO.o hlm];clear h1 e h' hx hE0 hO hN hk hs r1 r2 r3 r4 r5 r6 hE hl hl2 b1 b2 b3 b4 b5 el1 el2 HO HN hlm;go_enter Tryz.func36,Tryz.ntmps36
   go_wp2_with (first
    |(refine Ak (by rfl) 76 (.tmp 1) (by rfl) w.heap.size 0 (by rfl) cs _ (Aj (Blk.new w 76 cs)) Tryz.underlying76 (by rfl) HI.o ?_)
    |(go_at_call 69;refine Calls.mono (I1.o _) ?_;rintro e w0 ⟨rfl,hb⟩;replace HK:=I (HK.o.below hb);replace HB:=HB.t hb;clear hb I1;replace HK:=I (EC.o▸HK.o);have k0:w0.cell? ⟨w.heap.size,0,none⟩=some (.int .i64 m.k):=HK.o.cell 0)
    |fail)
   clear k0;replace HK:=I (show Blk w0.drew _ _ _ from HK.o.drewN 1);replace HB:=I (show Below _ _ w0.drew from below_drewN HB.o 1)
   go_region_held3 (fun w'=>w'.cell? ⟨w.heap.size,23,none⟩=some (.string ⟨m.ap.t.s.1.toArray⟩)∧w'.cell? ⟨w.heap.size,24,none⟩=some (.string ⟨m.ap.t.s.2.toArray⟩)∧w'.cell? ⟨w.heap.size,25,none⟩=some (.int .i64 m.ap.t.k)∧w'.cell? ⟨w.heap.size,26,none⟩=some (.slice A5 m.ap.t.b.length c5)∧w'.cell? ⟨w.heap.size,27,none⟩=some (.slice A6 m.ap.a.length c6)) (first | exact⟨HK.o.cell 23,HK.o.cell 24,HK.o.cell 25,HK.o.cell 26,HK.o.cell 27⟩ | exact⟨(HK.o.alloc _).cell 23,(HK.o.alloc _).cell 24,(HK.o.alloc _).cell 25,(HK.o.alloc _).cell 26,(HK.o.alloc _).cell 27⟩) ((first
    |(go_at_call 74;(with_reducible refine Calls.mono (T1.o _ HB.o) ?_);rintro e w1 ⟨⟨g1,c1,rfl,hg1,hc1,hr1⟩,hb⟩;clear T1;have HR1:=I hr1;replace HK:=I (HK.o.below hb);replace HB:=HB.t hb;clear hb hr1 hg1 hc1)
    |(go_at_call 75;(with_reducible refine Calls.mono (T2.o _ HB.o) ?_);rintro e w2 ⟨⟨g2,c2,rfl,hg2,hc2,hr2⟩,hb⟩;clear T2;replace HR1:=I (AG HR1.o hb);have HR2:=I hr2;replace HK:=I (HK.o.below hb);replace HB:=HB.t hb;clear hb hr2 hg2 hc2)
    |(go_at_call 71;refine Calls.mono (Bp 110 [l1,l2] _ 2 2 (w2.heap.size+1) _ (Ek HR1.o HR2.o) rfl (by simp) HL.o (by simp)) ?_;rintro e wz ⟨⟨gz,cz,rfl,hgz,hcz,hrz⟩,hb⟩;have hal:=(Below.refl w2.heap.size w2).alloc Ae (.cells #[.slice (some ⟨g1,0,none⟩) l1.length c1,.slice (some ⟨g2,0,none⟩) l2.length c2] 27);have HG:=I (AN (l:=elem 110 [l1,l2].flatten) ⟨⟨gz,cz,rfl,hgz,hcz,hrz⟩,hb⟩ (HB.o.trans (hal.mono HB.o.size)));rw[BA] at HG;replace HK:=I ((HK.o.alloc (.cells #[.slice (some ⟨g1,0,none⟩) l1.length c1,.slice (some ⟨g2,0,none⟩) l2.length c2] 27)).below hb);clear hal hgz hcz hrz hb)
    |(go_at_call 70;refine Calls.mono (LM.o _ _ _) ?_;rintro e wy ⟨rfl,rfl⟩)))
   go_wp2
   go_ret2
   exact Dq HG.o
  ·have h':=h1
   have b1:=Ay m.fa.e;have b2:=Ay m.fa.no;have hk:m.k=5:=by rw[e]
   have y1:(m.k==1)=false:=by rw[hk];rfl
   have y2:(m.k==2)=false:=by rw[hk];rfl
   have y3:(m.k==3)=false:=by rw[hk];rfl
   have y4:(m.k==4)=false:=by rw[hk];rfl
   have y5:(m.k==5)=true:=by rw[hk];rfl
   have hE0:mgE m=elem 126 [encI m.fa.e,encI m.fa.no].flatten:=by rw[e];rfl
   have hO:∀l,mgE m=l→l.length≤2000→mgO m=some l:=fun l e2 h2=>BM.2 ⟨hx,by rw[e2];exact h2,e2⟩
   have hN:∀l,mgE m=l→¬l.length≤2000→mgO m=none:=fun l e2 h2=>by unfold mgO limO;rw[e2,if_neg (fun h=>h2 h.2)]
   have HO:=I (hO _ hE0);have HN:=I (hN _ hE0);have T1:=I (fun w1=>DerR.AZ m.fa.e w1);have T2:=I (fun w1=>DerR.AZ m.fa.no w1);have hl:[encI m.fa.e,encI m.fa.no].flatten.length≤60000:=by rw[BA];simp only[List.length_append];omega
   have hl2:[encI m.fa.e,encI m.fa.no].flatten.length≤1990:=by rw[BA];simp only[List.length_append];omega
   have HL:=I (show [encI m.fa.e,encI m.fa.no].flatten.length≤65535 by omega);have hE:=An 126 [encI m.fa.e,encI m.fa.no].flatten;rw[BA] at hE hl HO HN hl2;obtain⟨l1,el1⟩:∃l,l=encI m.fa.e:=⟨_,rfl⟩;obtain⟨l2,el2⟩:∃l,l=encI m.fa.no:=⟨_,rfl⟩;rw[←el1] at T1 HL hE hl HO HN hl2;rw[←el2] at T2 HL hE hl HO HN hl2;have hlm:(elem 126 (l1++l2)).length≤2000:=by omega
   have LM:=I (fun A c w1=>Di (elem 126 (l1++l2)) A _ c w1 rfl hlm);rw[HO.o hlm];clear h1 e h' hx hE0 hO hN hk hs r1 r2 r3 r4 r5 r6 hE hl hl2 b1 b2 el1 el2 HO HN hlm;go_enter Tryz.func36,Tryz.ntmps36
   go_wp2_with (first
    |(refine Ak (by rfl) 76 (.tmp 1) (by rfl) w.heap.size 0 (by rfl) cs _ (Aj (Blk.new w 76 cs)) Tryz.underlying76 (by rfl) HI.o ?_)
    |(go_at_call 69;refine Calls.mono (I1.o _) ?_;rintro e w0 ⟨rfl,hb⟩;replace HK:=I (HK.o.below hb);replace HB:=HB.t hb;clear hb I1;replace HK:=I (EC.o▸HK.o);have k0:w0.cell? ⟨w.heap.size,0,none⟩=some (.int .i64 m.k):=HK.o.cell 0)
    |fail)
   clear k0;replace HK:=I (show Blk w0.drew _ _ _ from HK.o.drewN 1);replace HB:=I (show Below _ _ w0.drew from below_drewN HB.o 1)
   go_region_held3 (fun w'=>w'.cell? ⟨w.heap.size,28,none⟩=some (.int .i64 m.fa.e)∧w'.cell? ⟨w.heap.size,29,none⟩=some (.int .i64 m.fa.no)) (first | exact⟨HK.o.cell 28,HK.o.cell 29⟩ | exact⟨(HK.o.alloc _).cell 28,(HK.o.alloc _).cell 29⟩) ((first
    |(go_at_call 73;(with_reducible refine Calls.mono (T1.o _) ?_);rintro e w1 ⟨⟨g1,c1,rfl,hg1,hc1,hr1⟩,hb⟩;clear T1;have HR1:=I hr1;replace HK:=I (HK.o.below hb);replace HB:=HB.t hb;clear hb hr1 hg1 hc1)
    |(go_at_call 73;(with_reducible refine Calls.mono (T2.o _) ?_);rintro e w2 ⟨⟨g2,c2,rfl,hg2,hc2,hr2⟩,hb⟩;clear T2;replace HR1:=I (AG HR1.o hb);have HR2:=I hr2;replace HK:=I (HK.o.below hb);replace HB:=HB.t hb;clear hb hr2 hg2 hc2)
    |(go_at_call 71;refine Calls.mono (Bp 126 [l1,l2] _ 2 2 (w2.heap.size+1) _ (Ek HR1.o HR2.o) rfl (by simp) HL.o (by simp)) ?_;rintro e wz ⟨⟨gz,cz,rfl,hgz,hcz,hrz⟩,hb⟩;have hal:=(Below.refl w2.heap.size w2).alloc Ae (.cells #[.slice (some ⟨g1,0,none⟩) l1.length c1,.slice (some ⟨g2,0,none⟩) l2.length c2] 27);have HG:=I (AN (l:=elem 126 [l1,l2].flatten) ⟨⟨gz,cz,rfl,hgz,hcz,hrz⟩,hb⟩ (HB.o.trans (hal.mono HB.o.size)));rw[BA] at HG;replace HK:=I ((HK.o.alloc (.cells #[.slice (some ⟨g1,0,none⟩) l1.length c1,.slice (some ⟨g2,0,none⟩) l2.length c2] 27)).below hb);clear hal hgz hcz hrz hb)
    |(go_at_call 70;refine Calls.mono (LM.o _ _ _) ?_;rintro e wy ⟨rfl,rfl⟩)))
   go_wp2
   go_ret2
   exact Dq HG.o
end Ms
end Go.Proofs.YtlfmicidppccnaaGreat
