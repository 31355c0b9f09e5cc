import Derived.Test.YtfcjeebnkigeaaaGreatZKdcFirst22
set_option maxHeartbeats 25600000
set_option maxRecDepth 100000
set_option linter.unusedVariables false
set_option linter.unusedSimpArgs false
namespace Go.Proofs.YtfcjeebnkigeaaaGreat
section
namespace Kd
open Go.RowKit Af Se
open Rg (It Ent Ring RO its Ah Cc BB Co DG)
open SeL (Bz Cm)
open Ms (Pt Rp Re Tk As pSm tmB asB)
open Nm (krb)
section
variable {w:World} {B:Nat} {p:KP} {es:List Ent} {n i c:Nat}
theorem as_1 {q:As} {d:Nm.L} {now:Int} (h:KS w B p es none n i c) (hc:c<800000) (hn:n<800000) (hi:i<800000) (hl:es.length≤1000) (hR:p.R.length≤1000) (hd:d.length=32) (hs1:pSm q.c) (hs2:pSm q.s) (ht:tmB now=false) :
  Calls Tryz.prog 17 #[.pointer (some ⟨p.k,0,none⟩),.agg (asA q),.int .i64 now,.agg (keyA d)] w (AnsR w B p es none n i (c+4) (1,Ms.re0)):=by
 obtain⟨csD,ecsD⟩:∃z,z=keyA d:=⟨_,rfl⟩;rw[←ecsD];obtain⟨W,eW⟩:∃W,W=((w.alloc (.cells (asA q) 29)).alloc (.cells csD 47)).alloc (.cells reZ 38):=⟨_,rfl⟩;have hb:Below w.heap.size w W:=eW▸(((Below.refl _ _).alloc (Nat.le_refl _) _).alloc (by simp) _).alloc (by simp;omega) _;have HQ:=I (show Blk W w.heap.size 29 (asA q) from eW▸((Blk.new w _ _).alloc _).alloc _);have HD:=I (show Blk W (w.heap.size+1) 47 csD by have:=(Blk.new (w.alloc (.cells (asA q) 29)) 47 csD).alloc (.cells reZ 38);simp only[World.size_alloc] at this;exact eW▸this);have HR:=I (show Blk W (w.heap.size+1+1) 38 reZ by have:=Blk.new ((w.alloc (.cells (asA q) 29)).alloc (.cells csD 47)) 38 reZ;simp only[World.size_alloc] at this;exact eW▸this);have HK:=I (Kn.start h hb);have HOR:=I (h.offs (show w.heap.size≤w.heap.size+1+1 by omega));have HDI:=I (show(Tryz.prog.info? 47).map (·.size)=some csD.size by rw[ecsD];exact Cr hd);have HC:=I hc;have HNN:=I hn;have HII:=I hi;have CT:=I (fun(w1:World)=>IV now w1);rw[ht] at CT;clear ht;clear h hb hc hn hi hl hR hs1 hs2 hd ecsD;go_enter Tryz.func17,Tryz.ntmps17
 go_upto_region 1 with fail
 rw[←eW];clear eW;have kq0:W.cell? ⟨w.heap.size,0,none⟩=some (.string ⟨q.c.1.toArray⟩):=HQ.o.cell 0;have kq1:W.cell? ⟨w.heap.size,1,none⟩=some (.string ⟨q.c.2.toArray⟩):=HQ.o.cell 1;have kq2:W.cell? ⟨w.heap.size,2,none⟩=some (.string ⟨q.s.1.toArray⟩):=HQ.o.cell 2;have kq3:W.cell? ⟨w.heap.size,3,none⟩=some (.string ⟨q.s.2.toArray⟩):=HQ.o.cell 3;have kq4:W.cell? ⟨w.heap.size,4,none⟩=some (.int .i64 q.t):=HQ.o.cell 4;have kq5:W.cell? ⟨w.heap.size,5,none⟩=some (.int .i64 q.no):=HQ.o.cell 5;have kr0:=HR.o.cell 0;have kr1:=HR.o.cell 1;have kr2:=HR.o.cell 2;have kr3:=HR.o.cell 3;have kr4:=HR.o.cell 4;have kr5:=HR.o.cell 5;have kr6:=HR.o.cell 6;have fz:=HR.o.frozen
 go_wp2_with (first
  |(go_at_call 47;refine Calls.mono (CT.o _) ?_;rintro e wt ⟨rfl,hw⟩;have hw:=hw.symm;subst hw;clear CT)
  |fail)
 refine bodyPost_ret (v:=.tuple #[.agg reZ,.int .i64 1]) ?_ ?_ ?_
 ·exact Ah (v:=.agg reZ) 8 9 38 ⟨w.heap.size+1+1,0,none⟩ Tryz.results17 rfl (Wh.Ak (set7 HR.o _ _ _ _ _ _ _) Tryz.underlying38 (by rfl) AI) rfl
 ·rfl
 ·exact Ec ((HK.o.put7 (by omega) HOR.o _ _ _ _ _ _ _).more (by omega)) (by decide)
theorem as_2 {q:As} {d:Nm.L} {now:Int} (h:KS w B p es none n i c) (hc:c<800000) (hn:n<800000) (hi:i<800000) (hl:es.length≤1000) (hR:p.R.length≤1000) (hd:d.length=32) (hs1:pSm q.c) (hs2:pSm q.s) (ht:tmB now=true) (ha:asB q=false) :
  Calls Tryz.prog 17 #[.pointer (some ⟨p.k,0,none⟩),.agg (asA q),.int .i64 now,.agg (keyA d)] w (AnsR w B p es none n i (c+4) (1,Ms.re0)):=by
 obtain⟨csD,ecsD⟩:∃z,z=keyA d:=⟨_,rfl⟩;rw[←ecsD];obtain⟨W,eW⟩:∃W,W=((w.alloc (.cells (asA q) 29)).alloc (.cells csD 47)).alloc (.cells reZ 38):=⟨_,rfl⟩;have hb:Below w.heap.size w W:=eW▸(((Below.refl _ _).alloc (Nat.le_refl _) _).alloc (by simp) _).alloc (by simp;omega) _;have HQ:=I (show Blk W w.heap.size 29 (asA q) from eW▸((Blk.new w _ _).alloc _).alloc _);have HD:=I (show Blk W (w.heap.size+1) 47 csD by have:=(Blk.new (w.alloc (.cells (asA q) 29)) 47 csD).alloc (.cells reZ 38);simp only[World.size_alloc] at this;exact eW▸this);have HR:=I (show Blk W (w.heap.size+1+1) 38 reZ by have:=Blk.new ((w.alloc (.cells (asA q) 29)).alloc (.cells csD 47)) 38 reZ;simp only[World.size_alloc] at this;exact eW▸this);have HK:=I (Kn.start h hb);have HOR:=I (h.offs (show w.heap.size≤w.heap.size+1+1 by omega));have HDI:=I (show(Tryz.prog.info? 47).map (·.size)=some csD.size by rw[ecsD];exact Cr hd);have HC:=I hc;have HNN:=I hn;have HII:=I hi;have CT:=I (fun(w1:World)=>IV now w1);rw[ht] at CT;have CM:=I (fun(w1:World)=>JD _ (mAs q) w1 (Yw w1 q) ⟨⟨hs1,hs2⟩,⟨Mc.FC,Mc.FC⟩,⟨Mc.FC,Mc.FC⟩,Mc.FC⟩);have HBM:=I (Lu q);obtain⟨csM,ecsM⟩:∃z,z=Mc.mgA 1 (asA q) Mc.zT Mc.zR Mc.zP Mc.zF:=⟨_,rfl⟩;rw[←ecsM] at CM HBM;clear ecsM;rw[Vb] at CM;rw[ha] at CM;clear ht ha;clear h hb hc hn hi hl hR hs1 hs2 hd ecsD;go_enter Tryz.func17,Tryz.ntmps17
 go_upto_region 1 with fail
 rw[←eW];clear eW;have kq0:W.cell? ⟨w.heap.size,0,none⟩=some (.string ⟨q.c.1.toArray⟩):=HQ.o.cell 0;have kq1:W.cell? ⟨w.heap.size,1,none⟩=some (.string ⟨q.c.2.toArray⟩):=HQ.o.cell 1;have kq2:W.cell? ⟨w.heap.size,2,none⟩=some (.string ⟨q.s.1.toArray⟩):=HQ.o.cell 2;have kq3:W.cell? ⟨w.heap.size,3,none⟩=some (.string ⟨q.s.2.toArray⟩):=HQ.o.cell 3;have kq4:W.cell? ⟨w.heap.size,4,none⟩=some (.int .i64 q.t):=HQ.o.cell 4;have kq5:W.cell? ⟨w.heap.size,5,none⟩=some (.int .i64 q.no):=HQ.o.cell 5
 go_upto_region 2 with(first
  |(go_at_call 47;refine Calls.mono (CT.o _) ?_;rintro e wt ⟨rfl,hw⟩;have hw:=hw.symm;subst hw;clear CT)
  |(refine Su (by rfl) 93 #[(0,.const (.int .i64 1)),(1,.tmp 22)] (by rfl) csM (by simp only[List.map_toArray,List.map_cons,List.map_nil];exact HBM.o) ?_;clear HBM)
  |(go_at_call 48;refine Calls.mono (CM.o _) ?_;rintro e wm ⟨rfl,hb⟩;clear CM;clear kq0 kq1 kq2 kq3 kq4 kq5;replace HQ:=I (HQ.o.below hb);replace HD:=I (HD.o.below hb);replace HR:=I (HR.o.below hb);replace HK:=I (HK.o.below hb);have kq0:wm.cell? ⟨w.heap.size,0,none⟩=some (.string ⟨q.c.1.toArray⟩):=HQ.o.cell 0;have kq1:wm.cell? ⟨w.heap.size,1,none⟩=some (.string ⟨q.c.2.toArray⟩):=HQ.o.cell 1;have kq2:wm.cell? ⟨w.heap.size,2,none⟩=some (.string ⟨q.s.1.toArray⟩):=HQ.o.cell 2;have kq3:wm.cell? ⟨w.heap.size,3,none⟩=some (.string ⟨q.s.2.toArray⟩):=HQ.o.cell 3;have kq4:wm.cell? ⟨w.heap.size,4,none⟩=some (.int .i64 q.t):=HQ.o.cell 4;have kq5:wm.cell? ⟨w.heap.size,5,none⟩=some (.int .i64 q.no):=HQ.o.cell 5;clear hb)
  |fail)
 have kr0:=HR.o.cell 0;have kr1:=HR.o.cell 1;have kr2:=HR.o.cell 2;have kr3:=HR.o.cell 3;have kr4:=HR.o.cell 4;have kr5:=HR.o.cell 5;have kr6:=HR.o.cell 6;have fz:=HR.o.frozen
 go_wp2_with (first
  |fail)
 refine bodyPost_ret (v:=.tuple #[.agg reZ,.int .i64 1]) ?_ ?_ ?_
 ·exact Ah (v:=.agg reZ) 8 9 38 ⟨w.heap.size+1+1,0,none⟩ Tryz.results17 rfl (Wh.Ak (set7 HR.o _ _ _ _ _ _ _) Tryz.underlying38 (by rfl) AI) rfl
 ·rfl
 ·exact Ec ((HK.o.put7 (by omega) HOR.o _ _ _ _ _ _ _).more (by omega)) (by decide)
theorem WS {q:As} {d:Nm.L} {now:Int} (h:KS w B p es none n i c) (hc:c<800000) (hn:n<800000) (hi:i<800000) (hl:es.length≤1000) (hR:p.R.length≤1000) (hd:d.length=32) (hs1:pSm q.c) (hs2:pSm q.s) {r:Int×Re} (ht:tmB now=true) (ha:asB q=true) (hrr:asL p.R (its es) n q now d=r) :
  Calls Tryz.prog 17 #[.pointer (some ⟨p.k,0,none⟩),.agg (asA q),.int .i64 now,.agg (keyA d)] w (AnsR w B p es none n i (c+4) r):=by
 obtain⟨csD,ecsD⟩:∃z,z=keyA d:=⟨_,rfl⟩;rw[←ecsD];obtain⟨W,eW⟩:∃W,W=((w.alloc (.cells (asA q) 29)).alloc (.cells csD 47)).alloc (.cells reZ 38):=⟨_,rfl⟩;have hb:Below w.heap.size w W:=eW▸(((Below.refl _ _).alloc (Nat.le_refl _) _).alloc (by simp) _).alloc (by simp;omega) _;have HQ:=I (show Blk W w.heap.size 29 (asA q) from eW▸((Blk.new w _ _).alloc _).alloc _);have HD:=I (show Blk W (w.heap.size+1) 47 csD by have:=(Blk.new (w.alloc (.cells (asA q) 29)) 47 csD).alloc (.cells reZ 38);simp only[World.size_alloc] at this;exact eW▸this);have HR:=I (show Blk W (w.heap.size+1+1) 38 reZ by have:=Blk.new ((w.alloc (.cells (asA q) 29)).alloc (.cells csD 47)) 38 reZ;simp only[World.size_alloc] at this;exact eW▸this);have HK:=I (Kn.start h hb);have HOR:=I (h.offs (show w.heap.size≤w.heap.size+1+1 by omega));have HDI:=I (show(Tryz.prog.info? 47).map (·.size)=some csD.size by rw[ecsD];exact Cr hd);have HC:=I hc;have HNN:=I hn;have HII:=I hi;have CT:=I (fun(w1:World)=>IV now w1);rw[ht] at CT;have CM:=I (fun(w1:World)=>JD _ (mAs q) w1 (Yw w1 q) ⟨⟨hs1,hs2⟩,⟨Mc.FC,Mc.FC⟩,⟨Mc.FC,Mc.FC⟩,Mc.FC⟩);have HBM:=I (Lu q);obtain⟨csM,ecsM⟩:∃z,z=Mc.mgA 1 (asA q) Mc.zT Mc.zR Mc.zP Mc.zF:=⟨_,rfl⟩;rw[←ecsM] at CM HBM;clear ecsM;rw[Vb] at CM;rw[ha] at CM;have HRL:=I (show(if q.c.1=p.R∧hasL (its es) q.c=true then if q.s=kr p.R p.R∧hasL (its es) q.s=true then if q.t<now then (7,Ms.re0) else ansL (its es) n q.c q.s ⟨q.c,d,[],now,min q.t (now+mxL)⟩ q.no (keyL (its es) q.c) 3 else (6,Ms.re0) else (5,Ms.re0))=r by rw[←hrr];unfold asL;rw[ht,ha];rfl);have HHL:=I hl;have HHR:=I hR;have HHD:=I hd;have HS1:=I hs1;have HS2:=I hs2;have HTA:=I (And.intro ht ha);have EDD:=I ecsD;clear ht ha hrr;clear h hb hc hn hi hl hR hs1 hs2 hd ecsD;go_enter Tryz.func17,Tryz.ntmps17
 go_upto_region 1 with fail
 rw[←eW];clear eW;have kq0:W.cell? ⟨w.heap.size,0,none⟩=some (.string ⟨q.c.1.toArray⟩):=HQ.o.cell 0;have kq1:W.cell? ⟨w.heap.size,1,none⟩=some (.string ⟨q.c.2.toArray⟩):=HQ.o.cell 1;have kq2:W.cell? ⟨w.heap.size,2,none⟩=some (.string ⟨q.s.1.toArray⟩):=HQ.o.cell 2;have kq3:W.cell? ⟨w.heap.size,3,none⟩=some (.string ⟨q.s.2.toArray⟩):=HQ.o.cell 3;have kq4:W.cell? ⟨w.heap.size,4,none⟩=some (.int .i64 q.t):=HQ.o.cell 4;have kq5:W.cell? ⟨w.heap.size,5,none⟩=some (.int .i64 q.no):=HQ.o.cell 5
 go_upto_region 3 with(first
  |(go_at_call 47;refine Calls.mono (CT.o _) ?_;rintro e wt ⟨rfl,hw⟩;have hw:=hw.symm;subst hw;clear CT)
  |(refine Su (by rfl) 93 #[(0,.const (.int .i64 1)),(1,.tmp 22)] (by rfl) csM (by simp only[List.map_toArray,List.map_cons,List.map_nil];exact HBM.o) ?_;clear HBM)
  |(go_at_call 48;refine Calls.mono (CM.o _) ?_;rintro e wm ⟨rfl,hb⟩;clear CM;clear kq0 kq1 kq2 kq3 kq4 kq5;replace HQ:=I (HQ.o.below hb);replace HD:=I (HD.o.below hb);replace HR:=I (HR.o.below hb);replace HK:=I (HK.o.below hb);have kq0:wm.cell? ⟨w.heap.size,0,none⟩=some (.string ⟨q.c.1.toArray⟩):=HQ.o.cell 0;have kq1:wm.cell? ⟨w.heap.size,1,none⟩=some (.string ⟨q.c.2.toArray⟩):=HQ.o.cell 1;have kq2:wm.cell? ⟨w.heap.size,2,none⟩=some (.string ⟨q.s.1.toArray⟩):=HQ.o.cell 2;have kq3:wm.cell? ⟨w.heap.size,3,none⟩=some (.string ⟨q.s.2.toArray⟩):=HQ.o.cell 3;have kq4:wm.cell? ⟨w.heap.size,4,none⟩=some (.int .i64 q.t):=HQ.o.cell 4;have kq5:wm.cell? ⟨w.heap.size,5,none⟩=some (.int .i64 q.no):=HQ.o.cell 5;clear hb)
  |fail)
 cases hf1:Cc (its es) q.c with
 |none=>
  have er:r=(5,Ms.re0):=by rw[←HRL.o];rw[if_neg (fun x=>by simp [hasL,hf1] at x)]
  subst er;have CF1:=I (fun(w1:World) (h1:KD w1 B p es n i)=>Lr h1 HHL.o hf1);clear hf1
  go_upto_region 4 with(first
   |(go_at_call 49;refine Calls.mono (CF1.o _ HK.o.st.k) ?_;rintro e w3 ⟨rfl,hb⟩;clear CF1;(try clear kq0 kq1 kq2 kq3 kq4 kq5);replace HQ:=I (HQ.o.below hb);replace HD:=I (HD.o.below hb);replace HR:=I (HR.o.below hb);replace HK:=I (HK.o.below hb);have kq0:w3.cell? ⟨w.heap.size,0,none⟩=some (.string ⟨q.c.1.toArray⟩):=HQ.o.cell 0;have kq1:w3.cell? ⟨w.heap.size,1,none⟩=some (.string ⟨q.c.2.toArray⟩):=HQ.o.cell 1;have kq2:w3.cell? ⟨w.heap.size,2,none⟩=some (.string ⟨q.s.1.toArray⟩):=HQ.o.cell 2;have kq3:w3.cell? ⟨w.heap.size,3,none⟩=some (.string ⟨q.s.2.toArray⟩):=HQ.o.cell 3;have kq4:w3.cell? ⟨w.heap.size,4,none⟩=some (.int .i64 q.t):=HQ.o.cell 4;have kq5:w3.cell? ⟨w.heap.size,5,none⟩=some (.int .i64 q.no):=HQ.o.cell 5;clear hb)
   |fail)
  obtain⟨W4,eW4⟩:∃z,z=w3.alloc (.cells #[.string ⟨#[]⟩,.string ⟨#[]⟩,.pointer none,.int .i64 0] 127):=⟨_,rfl⟩;have hn:Blk W4 w3.heap.size 127 #[.string ⟨#[]⟩,.string ⟨#[]⟩,.pointer none,.int .i64 0]:=eW4▸Blk.new _ _ _;replace HQ:=I (show Blk W4 _ _ _ from eW4▸HQ.o.alloc _);replace HD:=I (show Blk W4 _ _ _ from eW4▸HD.o.alloc _);replace HR:=I (show Blk W4 _ _ _ from eW4▸HR.o.alloc _);replace HK:=I (show Kn w W4 B p es none es none n i c from eW4▸HK.o.alloc _);rw[←eW4];clear eW4 kq0 kq1 kq2 kq3 kq4 kq5;obtain⟨PN1,ePN1⟩:∃z,z=w3.heap.size:=⟨_,rfl⟩;rw[←ePN1] at hn⊢;have HN1:=I hn;clear ePN1 hn;have kq0:W4.cell? ⟨w.heap.size,0,none⟩=some (.string ⟨q.c.1.toArray⟩):=HQ.o.cell 0;have kq1:W4.cell? ⟨w.heap.size,1,none⟩=some (.string ⟨q.c.2.toArray⟩):=HQ.o.cell 1;have kq2:W4.cell? ⟨w.heap.size,2,none⟩=some (.string ⟨q.s.1.toArray⟩):=HQ.o.cell 2;have kq3:W4.cell? ⟨w.heap.size,3,none⟩=some (.string ⟨q.s.2.toArray⟩):=HQ.o.cell 3;have kq4:W4.cell? ⟨w.heap.size,4,none⟩=some (.int .i64 q.t):=HQ.o.cell 4;have kq5:W4.cell? ⟨w.heap.size,5,none⟩=some (.int .i64 q.no):=HQ.o.cell 5;have kk0:W4.cell? ⟨p.k,0,none⟩=some (.string ⟨p.R.toArray⟩):=HK.o.st.k.blk.cell 0
  go_quiet (fail)
  obtain⟨W5,eW5⟩:∃z,z=W4.drewN nq:=⟨_,rfl⟩;replace HQ:=I (show Blk W5 _ _ _ from eW5▸HQ.o.drewN nq);replace HD:=I (show Blk W5 _ _ _ from eW5▸HD.o.drewN nq);replace HR:=I (show Blk W5 _ _ _ from eW5▸HR.o.drewN nq);replace HN1:=I (show Blk W5 _ _ _ from eW5▸HN1.o.drewN nq);replace HK:=I (show Kn w W5 B p es none es none n i c from eW5▸HK.o.below (below_drewN (Below.refl _ _) nq));rw[←eW5];clear eW5 kq0 kq1 kq2 kq3 kq4 kq5;have kr0:=HR.o.cell 0;have kr1:=HR.o.cell 1;have kr2:=HR.o.cell 2;have kr3:=HR.o.cell 3;have kr4:=HR.o.cell 4;have kr5:=HR.o.cell 5;have kr6:=HR.o.cell 6;have fz:=HR.o.frozen;clear kk0
  go_wp2_with (first
   |fail)
  refine bodyPost_ret (v:=.tuple #[.agg reZ,.int .i64 5]) ?_ ?_ ?_
  ·exact Ah (v:=.agg reZ) 8 9 38 ⟨w.heap.size+1+1,0,none⟩ Tryz.results17 rfl (Wh.Ak (set7 HR.o _ _ _ _ _ _ _) Tryz.underlying38 (by rfl) AI) rfl
  ·rfl
  ·exact Ec ((HK.o.put7 (by omega) HOR.o _ _ _ _ _ _ _).more (by omega)) (by decide)
 |some j1=>
  obtain⟨x1,hj1⟩:=Sv hf1;have hk1:=Od hf1 hj1;have CF1:=I (fun(w1:World) (h1:KD w1 B p es n i)=>NU h1 HHL.o hf1 hj1);have HJ1:=I hj1;have HK1:=I hk1;clear hf1 hj1 hk1
  go_upto_region 4 with(first
   |(go_at_call 49;refine Calls.mono (CF1.o _ HK.o.st.k) ?_;rintro e w3 ⟨rfl,hb⟩;clear CF1;(try clear kq0 kq1 kq2 kq3 kq4 kq5);replace HQ:=I (HQ.o.below hb);replace HD:=I (HD.o.below hb);replace HR:=I (HR.o.below hb);replace HK:=I (HK.o.below hb);have kq0:w3.cell? ⟨w.heap.size,0,none⟩=some (.string ⟨q.c.1.toArray⟩):=HQ.o.cell 0;have kq1:w3.cell? ⟨w.heap.size,1,none⟩=some (.string ⟨q.c.2.toArray⟩):=HQ.o.cell 1;have kq2:w3.cell? ⟨w.heap.size,2,none⟩=some (.string ⟨q.s.1.toArray⟩):=HQ.o.cell 2;have kq3:w3.cell? ⟨w.heap.size,3,none⟩=some (.string ⟨q.s.2.toArray⟩):=HQ.o.cell 3;have kq4:w3.cell? ⟨w.heap.size,4,none⟩=some (.int .i64 q.t):=HQ.o.cell 4;have kq5:w3.cell? ⟨w.heap.size,5,none⟩=some (.int .i64 q.no):=HQ.o.cell 5;clear hb)
   |fail)
  obtain⟨W4,eW4⟩:∃z,z=w3.alloc (.cells #[.string ⟨(q.c).1.toArray⟩,.string ⟨(q.c).2.toArray⟩,.pointer (some ⟨x1.b,0,none⟩),.int .i64 (x1.it.n:Int)] 127):=⟨_,rfl⟩;have hn:Blk W4 w3.heap.size 127 #[.string ⟨(q.c).1.toArray⟩,.string ⟨(q.c).2.toArray⟩,.pointer (some ⟨x1.b,0,none⟩),.int .i64 (x1.it.n:Int)]:=eW4▸Blk.new _ _ _;replace HQ:=I (show Blk W4 _ _ _ from eW4▸HQ.o.alloc _);replace HD:=I (show Blk W4 _ _ _ from eW4▸HD.o.alloc _);replace HR:=I (show Blk W4 _ _ _ from eW4▸HR.o.alloc _);replace HK:=I (show Kn w W4 B p es none es none n i c from eW4▸HK.o.alloc _);rw[←eW4];clear eW4 kq0 kq1 kq2 kq3 kq4 kq5;obtain⟨PN1,ePN1⟩:∃z,z=w3.heap.size:=⟨_,rfl⟩;rw[←ePN1] at hn⊢;have HN1:=I hn;clear ePN1 hn
  by_cases hr:q.c.1=p.R
  ·skip
   replace HRL:=I (show(if q.s=kr p.R p.R∧hasL (its es) q.s=true then if q.t<now then (7,Ms.re0) else ansL (its es) n q.c q.s ⟨q.c,d,[],now,min q.t (now+mxL)⟩ q.no (keyL (its es) q.c) 3 else (6,Ms.re0))=r by have:=HRL.o;rw[if_pos ⟨hr,HK1.o.2.2⟩] at this;exact this);have t1:(q.c.1==p.R)=true:=by rw[hr];simp
   clear hr;have kq0:W4.cell? ⟨w.heap.size,0,none⟩=some (.string ⟨q.c.1.toArray⟩):=HQ.o.cell 0;have kq1:W4.cell? ⟨w.heap.size,1,none⟩=some (.string ⟨q.c.2.toArray⟩):=HQ.o.cell 1;have kq2:W4.cell? ⟨w.heap.size,2,none⟩=some (.string ⟨q.s.1.toArray⟩):=HQ.o.cell 2;have kq3:W4.cell? ⟨w.heap.size,3,none⟩=some (.string ⟨q.s.2.toArray⟩):=HQ.o.cell 3;have kq4:W4.cell? ⟨w.heap.size,4,none⟩=some (.int .i64 q.t):=HQ.o.cell 4;have kq5:W4.cell? ⟨w.heap.size,5,none⟩=some (.int .i64 q.no):=HQ.o.cell 5;have kk0:W4.cell? ⟨p.k,0,none⟩=some (.string ⟨p.R.toArray⟩):=HK.o.st.k.blk.cell 0
   go_quiet (fail)
   obtain⟨W5,eW5⟩:∃z,z=W4.drewN nq:=⟨_,rfl⟩;replace HQ:=I (show Blk W5 _ _ _ from eW5▸HQ.o.drewN nq);replace HD:=I (show Blk W5 _ _ _ from eW5▸HD.o.drewN nq);replace HR:=I (show Blk W5 _ _ _ from eW5▸HR.o.drewN nq);replace HN1:=I (show Blk W5 _ _ _ from eW5▸HN1.o.drewN nq);replace HK:=I (show Kn w W5 B p es none es none n i c from eW5▸HK.o.below (below_drewN (Below.refl _ _) nq));rw[←eW5];clear eW5 kq0 kq1 kq2 kq3 kq4 kq5;clear kk0 t1;have kq0:W5.cell? ⟨w.heap.size,0,none⟩=some (.string ⟨q.c.1.toArray⟩):=HQ.o.cell 0;have kq1:W5.cell? ⟨w.heap.size,1,none⟩=some (.string ⟨q.c.2.toArray⟩):=HQ.o.cell 1;have kq2:W5.cell? ⟨w.heap.size,2,none⟩=some (.string ⟨q.s.1.toArray⟩):=HQ.o.cell 2;have kq3:W5.cell? ⟨w.heap.size,3,none⟩=some (.string ⟨q.s.2.toArray⟩):=HQ.o.cell 3;have kq4:W5.cell? ⟨w.heap.size,4,none⟩=some (.int .i64 q.t):=HQ.o.cell 4;have kq5:W5.cell? ⟨w.heap.size,5,none⟩=some (.int .i64 q.no):=HQ.o.cell 5;cases hf2:Cc (its es) q.s with
   |none=>
    have er:r=(6,Ms.re0):=by rw[←HRL.o];rw[if_neg (fun x=>by simp [hasL,hf2] at x)]
    subst er;have CF2:=I (fun(w1:World) (h1:KD w1 B p es n i)=>Lr h1 HHL.o hf2);clear hf2
    go_upto_region 7 with(first
     |(go_at_call 49;refine Calls.mono (CF2.o _ HK.o.st.k) ?_;rintro e w6 ⟨rfl,hb⟩;clear CF2;(try clear kq0 kq1 kq2 kq3 kq4 kq5);replace HQ:=I (HQ.o.below hb);replace HD:=I (HD.o.below hb);replace HR:=I (HR.o.below hb);replace HN1:=I (HN1.o.below hb);replace HK:=I (HK.o.below hb);have kq0:w6.cell? ⟨w.heap.size,0,none⟩=some (.string ⟨q.c.1.toArray⟩):=HQ.o.cell 0;have kq1:w6.cell? ⟨w.heap.size,1,none⟩=some (.string ⟨q.c.2.toArray⟩):=HQ.o.cell 1;have kq2:w6.cell? ⟨w.heap.size,2,none⟩=some (.string ⟨q.s.1.toArray⟩):=HQ.o.cell 2;have kq3:w6.cell? ⟨w.heap.size,3,none⟩=some (.string ⟨q.s.2.toArray⟩):=HQ.o.cell 3;have kq4:w6.cell? ⟨w.heap.size,4,none⟩=some (.int .i64 q.t):=HQ.o.cell 4;have kq5:w6.cell? ⟨w.heap.size,5,none⟩=some (.int .i64 q.no):=HQ.o.cell 5;clear hb)
     |fail)
    obtain⟨W7,eW7⟩:∃z,z=w6.alloc (.cells #[.string ⟨#[]⟩,.string ⟨#[]⟩,.pointer none,.int .i64 0] 127):=⟨_,rfl⟩;have hn:Blk W7 w6.heap.size 127 #[.string ⟨#[]⟩,.string ⟨#[]⟩,.pointer none,.int .i64 0]:=eW7▸Blk.new _ _ _;replace HQ:=I (show Blk W7 _ _ _ from eW7▸HQ.o.alloc _);replace HD:=I (show Blk W7 _ _ _ from eW7▸HD.o.alloc _);replace HR:=I (show Blk W7 _ _ _ from eW7▸HR.o.alloc _);replace HN1:=I (show Blk W7 _ _ _ from eW7▸HN1.o.alloc _);replace HK:=I (show Kn w W7 B p es none es none n i c from eW7▸HK.o.alloc _);rw[←eW7];clear eW7 kq0 kq1 kq2 kq3 kq4 kq5;obtain⟨PN2,ePN2⟩:∃z,z=w6.heap.size:=⟨_,rfl⟩;rw[←ePN2] at hn⊢;have HN2:=I hn;clear ePN2 hn;have kq0:W7.cell? ⟨w.heap.size,0,none⟩=some (.string ⟨q.c.1.toArray⟩):=HQ.o.cell 0;have kq1:W7.cell? ⟨w.heap.size,1,none⟩=some (.string ⟨q.c.2.toArray⟩):=HQ.o.cell 1;have kq2:W7.cell? ⟨w.heap.size,2,none⟩=some (.string ⟨q.s.1.toArray⟩):=HQ.o.cell 2;have kq3:W7.cell? ⟨w.heap.size,3,none⟩=some (.string ⟨q.s.2.toArray⟩):=HQ.o.cell 3;have kq4:W7.cell? ⟨w.heap.size,4,none⟩=some (.int .i64 q.t):=HQ.o.cell 4;have kq5:W7.cell? ⟨w.heap.size,5,none⟩=some (.int .i64 q.no):=HQ.o.cell 5;have kk0:W7.cell? ⟨p.k,0,none⟩=some (.string ⟨p.R.toArray⟩):=HK.o.st.k.blk.cell 0
    go_quiet (fail)
    obtain⟨W8,eW8⟩:∃z,z=W7.drewN nq:=⟨_,rfl⟩;replace HQ:=I (show Blk W8 _ _ _ from eW8▸HQ.o.drewN nq);replace HD:=I (show Blk W8 _ _ _ from eW8▸HD.o.drewN nq);replace HR:=I (show Blk W8 _ _ _ from eW8▸HR.o.drewN nq);replace HN1:=I (show Blk W8 _ _ _ from eW8▸HN1.o.drewN nq);replace HN2:=I (show Blk W8 _ _ _ from eW8▸HN2.o.drewN nq);replace HK:=I (show Kn w W8 B p es none es none n i c from eW8▸HK.o.below (below_drewN (Below.refl _ _) nq));rw[←eW8];clear eW8 kq0 kq1 kq2 kq3 kq4 kq5;clear kk0;have kr0:=HR.o.cell 0;have kr1:=HR.o.cell 1;have kr2:=HR.o.cell 2;have kr3:=HR.o.cell 3;have kr4:=HR.o.cell 4;have kr5:=HR.o.cell 5;have kr6:=HR.o.cell 6;have fz:=HR.o.frozen
    go_wp2_with (first
     |fail)
    refine bodyPost_ret (v:=.tuple #[.agg reZ,.int .i64 6]) ?_ ?_ ?_
    ·exact Ah (v:=.agg reZ) 8 9 38 ⟨w.heap.size+1+1,0,none⟩ Tryz.results17 rfl (Wh.Ak (set7 HR.o _ _ _ _ _ _ _) Tryz.underlying38 (by rfl) AI) rfl
    ·rfl
    ·exact Ec ((HK.o.put7 (by omega) HOR.o _ _ _ _ _ _ _).more (by omega)) (by decide)
   |some j2=>
    obtain⟨x2,hj2⟩:=Sv hf2;have hk2:=Od hf2 hj2;have CF2:=I (fun(w1:World) (h1:KD w1 B p es n i)=>NU h1 HHL.o hf2 hj2);have CK:=I (fun(w1:World) (h1:KD w1 B p es n i)=>Uk (r:=p.R) h1 (by have:=HHR.o;omega));have HJ2:=I hj2;have HK2:=I hk2;clear hf2 hj2 hk2
    go_upto_region 7 with(first
     |(go_at_call 49;refine Calls.mono (CF2.o _ HK.o.st.k) ?_;rintro e w6 ⟨rfl,hb⟩;clear CF2;(try clear kq0 kq1 kq2 kq3 kq4 kq5);replace HQ:=I (HQ.o.below hb);replace HD:=I (HD.o.below hb);replace HR:=I (HR.o.below hb);replace HN1:=I (HN1.o.below hb);replace HK:=I (HK.o.below hb);have kq0:w6.cell? ⟨w.heap.size,0,none⟩=some (.string ⟨q.c.1.toArray⟩):=HQ.o.cell 0;have kq1:w6.cell? ⟨w.heap.size,1,none⟩=some (.string ⟨q.c.2.toArray⟩):=HQ.o.cell 1;have kq2:w6.cell? ⟨w.heap.size,2,none⟩=some (.string ⟨q.s.1.toArray⟩):=HQ.o.cell 2;have kq3:w6.cell? ⟨w.heap.size,3,none⟩=some (.string ⟨q.s.2.toArray⟩):=HQ.o.cell 3;have kq4:w6.cell? ⟨w.heap.size,4,none⟩=some (.int .i64 q.t):=HQ.o.cell 4;have kq5:w6.cell? ⟨w.heap.size,5,none⟩=some (.int .i64 q.no):=HQ.o.cell 5;clear hb)
     |fail)
    by_cases hne:q.s=kr p.R p.R
    ·skip
     have q1:=Co hne;replace HRL:=I (show(if q.t<now then (7,Ms.re0) else ansL (its es) n q.c q.s ⟨q.c,d,[],now,min q.t (now+mxL)⟩ q.no (keyL (its es) q.c) 3)=r by have:=HRL.o;rw[if_pos ⟨hne,HK2.o.2.2⟩] at this;exact this);clear hne;obtain⟨W7,eW7⟩:∃z,z=w6.alloc (.cells #[.string ⟨(q.s).1.toArray⟩,.string ⟨(q.s).2.toArray⟩,.pointer (some ⟨x2.b,0,none⟩),.int .i64 (x2.it.n:Int)] 127):=⟨_,rfl⟩;have hn:Blk W7 w6.heap.size 127 #[.string ⟨(q.s).1.toArray⟩,.string ⟨(q.s).2.toArray⟩,.pointer (some ⟨x2.b,0,none⟩),.int .i64 (x2.it.n:Int)]:=eW7▸Blk.new _ _ _;replace HQ:=I (show Blk W7 _ _ _ from eW7▸HQ.o.alloc _);replace HD:=I (show Blk W7 _ _ _ from eW7▸HD.o.alloc _);replace HR:=I (show Blk W7 _ _ _ from eW7▸HR.o.alloc _);replace HN1:=I (show Blk W7 _ _ _ from eW7▸HN1.o.alloc _);replace HK:=I (show Kn w W7 B p es none es none n i c from eW7▸HK.o.alloc _);rw[←eW7];clear eW7 kq0 kq1 kq2 kq3 kq4 kq5;obtain⟨PN2,ePN2⟩:∃z,z=w6.heap.size:=⟨_,rfl⟩;rw[←ePN2] at hn⊢;have HN2:=I hn;clear ePN2 hn;replace HQ:=I (show Blk W7.drew _ _ _ from HQ.o.drewN 1);replace HD:=I (show Blk W7.drew _ _ _ from HD.o.drewN 1);replace HR:=I (show Blk W7.drew _ _ _ from HR.o.drewN 1);replace HN1:=I (show Blk W7.drew _ _ _ from HN1.o.drewN 1);replace HN2:=I (show Blk W7.drew _ _ _ from HN2.o.drewN 1);replace HK:=I HK.o.drew
     go_region_held3 (fun w'=>w'.cell? ⟨p.k,0,none⟩=some (.string ⟨p.R.toArray⟩)∧w'.cell? ⟨w.heap.size,2,none⟩=some (.string ⟨q.s.1.toArray⟩)∧w'.cell? ⟨w.heap.size,3,none⟩=some (.string ⟨q.s.2.toArray⟩)) (exact⟨HK.o.st.k.blk.cell 0,HQ.o.cell 2,HQ.o.cell 3⟩) ((go_at_call 50;refine Calls.mono (CK.o _ HK.o.st.k) ?_;rintro e w8 ⟨rfl,hb⟩;clear CK;replace HQ:=I (HQ.o.below hb);replace HD:=I (HD.o.below hb);replace HR:=I (HR.o.below hb);replace HN1:=I (HN1.o.below hb);replace HN2:=I (HN2.o.below hb);replace HK:=I (HK.o.below hb);clear hb))
     clear q1;have kq0:w8.cell? ⟨w.heap.size,0,none⟩=some (.string ⟨q.c.1.toArray⟩):=HQ.o.cell 0;have kq1:w8.cell? ⟨w.heap.size,1,none⟩=some (.string ⟨q.c.2.toArray⟩):=HQ.o.cell 1;have kq2:w8.cell? ⟨w.heap.size,2,none⟩=some (.string ⟨q.s.1.toArray⟩):=HQ.o.cell 2;have kq3:w8.cell? ⟨w.heap.size,3,none⟩=some (.string ⟨q.s.2.toArray⟩):=HQ.o.cell 3;have kq4:w8.cell? ⟨w.heap.size,4,none⟩=some (.int .i64 q.t):=HQ.o.cell 4;have kq5:w8.cell? ⟨w.heap.size,5,none⟩=some (.int .i64 q.no):=HQ.o.cell 5
     by_cases hti:q.t<now
     ·skip
      have er:r=(7,Ms.re0):=by rw[←HRL.o];rw[if_pos hti]
      subst er;have d1:decide (q.t<now)=true:=decide_eq_true hti;clear hti;have kr0:=HR.o.cell 0;have kr1:=HR.o.cell 1;have kr2:=HR.o.cell 2;have kr3:=HR.o.cell 3;have kr4:=HR.o.cell 4;have kr5:=HR.o.cell 5;have kr6:=HR.o.cell 6;have fz:=HR.o.frozen
      go_wp2_with (first
       |fail)
      refine bodyPost_ret (v:=.tuple #[.agg reZ,.int .i64 7]) ?_ ?_ ?_
      ·exact Ah (v:=.agg reZ) 8 9 38 ⟨w.heap.size+1+1,0,none⟩ Tryz.results17 rfl (Wh.Ak (set7 HR.o _ _ _ _ _ _ _) Tryz.underlying38 (by rfl) AI) rfl
      ·rfl
      ·exact Ec ((HK.o.put7 (by omega) HOR.o _ _ _ _ _ _ _).more (by omega)) (by decide)
     ·skip
      have d1:decide (q.t<now)=false:=decide_eq_false hti;have hd:=HHD.o;have ecsD:=EDD.o;have hs1:=HS1.o;have hs2:=HS2.o;have hj1:=HJ1.o;have hj2:=HJ2.o;have ht:=HTA.o.1;have ha:=HTA.o.2;have hc:=HC.o;have hn:=HNN.o;have hi:=HII.o;have hP32:(⟨q.c,d,[],now,min q.t (now+1000)⟩:Pt).ss.length=32:=hd;have HBP:=I (Gs hd q.c now (min q.t (now+1000)));obtain⟨csP,ecsP⟩:∃z,z=ptA ⟨q.c,d,[],now,min q.t (now+1000)⟩:=⟨_,rfl⟩;have HPS:=I (show csP.size=37 by rw[ecsP];exact Km hP32);have HPI:=I (show(Tryz.prog.info? 71).map (·.size)=some csP.size by rw[ecsP];exact MA hP32);have HPO:=I (show csP.all (·.oneCell')=true by rw[ecsP];exact RJ _);obtain⟨rr,err⟩:∃z,z=ansK n x2.it.k x2.it.n q.s ⟨q.c,d,[],now,min q.t (now+1000)⟩ q.no x1.it.k 3:=⟨_,rfl⟩;have CA:=I (fun(w1:World) (h1:KS w1 B p es none n i c)=>ans_k (no:=q.no) (u:=3) (sv:=q.s) (kv:=x2.it.n) (P:=⟨q.c,d,[],now,min q.t (now+1000)⟩) h1 (.inl ⟨j2,x2,hj2,rfl,rfl⟩) (.inl ⟨j1,x1,hj1,rfl,rfl⟩) (by omega) (by omega) (by omega) hP32 hs1 hs2 (by simp));rw[←ecsP] at HBP;simp only[←ecsP,←err] at CA;rw[show keyA d=csD from ecsD.symm] at HBP;obtain⟨en,een⟩:∃z,z=min q.t (now+1000):=⟨_,rfl⟩;rw[←een] at HBP;have een3:min q.t (now+1000)=en:=een.symm;clear een;have hnow:0≤now∧now≤1073741824:=by simpa [tmB,Ms.inB] using ht
      have hn0:=hnow.1;have hn9:=hnow.2;have hqt:0≤q.t∧q.t≤1073741824:=by
       have:Ms.prB q.c=true∧Ms.prB q.s=true∧tmB q.t=true∧tmB q.no=true:=by simpa [asB] using ha
       simpa [tmB,Ms.inB] using this.2.2.1
      have hq0:=hqt.1;have hq9:=hqt.2;clear hP32 ecsP hnow hqt;have er:r=rr:=by rw[←HRL.o,if_neg hti,show ansL (its es) n q.c q.s ⟨q.c,d,[],now,min q.t (now+mxL)⟩ q.no (keyL (its es) q.c) 3=ansK n (keyL (its es) q.s) (BB (its es) q.s) q.s ⟨q.c,d,[],now,min q.t (now+mxL)⟩ q.no (keyL (its es) q.c) 3 from WR,HK1.o.1,HK2.o.1,HK2.o.2.1];exact err.symm
      subst er;clear hti err hd ecsD hs1 hs2 hj1 hj2 ht ha hc hn hi
      go_upto_region 12 with(first
       |(refine Mc.Az (by rfl) 71 #[(0,.tmp 75),(1,.tmp 76),(3,.tmp 77),(4,.tmp 82)] (by rfl) csP (by simp only[List.map_toArray,List.map_cons,List.map_nil];exact HBP.o) ?_;clear HBP)
       |(refine Wh.AA (by rfl) 47 (.tmp 7) (by rfl) (w.heap.size+1) 0 (by rfl) csD _ (Wh.Ag HD.o) Tryz.underlying47 (by rfl) HDI.o ?_;clear HDI)
       |(refine Wh.BY (by rfl) 71 (.tmp 13) (.tmp 83) (by rfl) 71 rfl csP (by rfl) (by rfl) (by rw[HPS.o];rfl) HPI.o HPO.o ?_;rintro V hV hb;have HV:=I hV;clear kq0 kq1 kq2 kq3 kq4 kq5;replace HQ:=I (HQ.o.below hb);replace HD:=I (HD.o.below hb);replace HR:=I (HR.o.below hb);replace HN1:=I (HN1.o.below hb);replace HN2:=I (HN2.o.below hb);replace HK:=I (HK.o.below hb);have kq0:V.cell? ⟨w.heap.size,0,none⟩=some (.string ⟨q.c.1.toArray⟩):=HQ.o.cell 0;have kq1:V.cell? ⟨w.heap.size,1,none⟩=some (.string ⟨q.c.2.toArray⟩):=HQ.o.cell 1;have kq2:V.cell? ⟨w.heap.size,2,none⟩=some (.string ⟨q.s.1.toArray⟩):=HQ.o.cell 2;have kq3:V.cell? ⟨w.heap.size,3,none⟩=some (.string ⟨q.s.2.toArray⟩):=HQ.o.cell 3;have kq4:V.cell? ⟨w.heap.size,4,none⟩=some (.int .i64 q.t):=HQ.o.cell 4;have kq5:V.cell? ⟨w.heap.size,5,none⟩=some (.int .i64 q.no):=HQ.o.cell 5;clear hb hV HPS HPO;have kb2:V.cell? ⟨PN1,2,none⟩=some (.pointer (some ⟨x1.b,0,none⟩)):=HN1.o.cell 2;have kn0:V.cell? ⟨PN2,0,none⟩=some (.string ⟨(q.s).1.toArray⟩):=HN2.o.cell 0;have kn1:V.cell? ⟨PN2,1,none⟩=some (.string ⟨(q.s).2.toArray⟩):=HN2.o.cell 1;have kn2:V.cell? ⟨PN2,2,none⟩=some (.pointer (some ⟨x2.b,0,none⟩)):=HN2.o.cell 2;have kn3:V.cell? ⟨PN2,3,none⟩=some (.int .i64 (x2.it.n:Int)):=HN2.o.cell 3)
       |fail)
      go_wp2_with (first
       |(refine Wh.AA (by rfl) 71 (.tmp 13) (by rfl) w8.heap.size 0 (by rfl) csP _ (Wh.Ag HV.o) Tryz.underlying71 (by rfl) HPI.o ?_;clear HPI)
       |(go_at_call 51;refine Calls.mono (CA.o _ HK.o.st) ?_;rintro e wa ⟨csL,es9,s9,rfl,hre,hka⟩;clear CA kb2 kn0 kn1 kn2 kn3 kq0 kq1 kq2 kq3 kq4 kq5;have hf:=Sw hre;have HCS:=I hf.1;have HCO:=I hf.2.1;have HCI:=I hf.2.2;have hrr:=hka.blk HR.o HOR.o.no;have hoo:=hka.off HOR.o HR.o.lt;have HLT:=I HR.o.lt;have HSZ:=I HK.o.size;replace HR:=I hrr;replace HOR:=I hoo;replace HK:=I (HK.o.trans hka);have HRE:=I hre;clear hf hrr hoo hre hka HQ HD HN1 HN2 HV)
       |(refine Wh.CU (by rfl) 38 (.tmp 8) (.tmp 92) (by rfl) (w.heap.size+1+1) 38 _ HR.o csL (by rfl) (by rfl) (by rw[HCS.o];rfl) HCI.o HCO.o ?_;rintro V2 hV2 hg;replace HR:=I hV2;have HG:=I hg;clear hV2 hg HCS)
       |fail)
      refine bodyPost_ret (v:=.tuple #[.agg csL,.int .i64 r.1]) ?_ ?_ ?_
      ·exact Ah (v:=.agg csL) 8 9 38 ⟨w.heap.size+1+1,0,none⟩ Tryz.results17 rfl (Wh.Ak HR.o Tryz.underlying38 (by rfl) HCI.o) rfl
      ·rfl
      ·exact⟨csL,es9,s9,rfl,HRE.o.over HSZ.o HLT.o HG.o,(HK.o.over (by omega) HOR.o HG.o).more (by omega)⟩
    ·skip
     have er:r=(6,Ms.re0):=by rw[←HRL.o];rw[if_neg (fun x=>hne x.1)]
     subst er;have q1:=DG hne;clear hne;obtain⟨W7,eW7⟩:∃z,z=w6.alloc (.cells #[.string ⟨(q.s).1.toArray⟩,.string ⟨(q.s).2.toArray⟩,.pointer (some ⟨x2.b,0,none⟩),.int .i64 (x2.it.n:Int)] 127):=⟨_,rfl⟩;have hn:Blk W7 w6.heap.size 127 #[.string ⟨(q.s).1.toArray⟩,.string ⟨(q.s).2.toArray⟩,.pointer (some ⟨x2.b,0,none⟩),.int .i64 (x2.it.n:Int)]:=eW7▸Blk.new _ _ _;replace HQ:=I (show Blk W7 _ _ _ from eW7▸HQ.o.alloc _);replace HD:=I (show Blk W7 _ _ _ from eW7▸HD.o.alloc _);replace HR:=I (show Blk W7 _ _ _ from eW7▸HR.o.alloc _);replace HN1:=I (show Blk W7 _ _ _ from eW7▸HN1.o.alloc _);replace HK:=I (show Kn w W7 B p es none es none n i c from eW7▸HK.o.alloc _);rw[←eW7];clear eW7 kq0 kq1 kq2 kq3 kq4 kq5;obtain⟨PN2,ePN2⟩:∃z,z=w6.heap.size:=⟨_,rfl⟩;rw[←ePN2] at hn⊢;have HN2:=I hn;clear ePN2 hn;replace HQ:=I (show Blk W7.drew _ _ _ from HQ.o.drewN 1);replace HD:=I (show Blk W7.drew _ _ _ from HD.o.drewN 1);replace HR:=I (show Blk W7.drew _ _ _ from HR.o.drewN 1);replace HN1:=I (show Blk W7.drew _ _ _ from HN1.o.drewN 1);replace HN2:=I (show Blk W7.drew _ _ _ from HN2.o.drewN 1);replace HK:=I HK.o.drew
     go_region_held3 (fun w'=>w'.cell? ⟨p.k,0,none⟩=some (.string ⟨p.R.toArray⟩)∧w'.cell? ⟨w.heap.size,2,none⟩=some (.string ⟨q.s.1.toArray⟩)∧w'.cell? ⟨w.heap.size,3,none⟩=some (.string ⟨q.s.2.toArray⟩)) (exact⟨HK.o.st.k.blk.cell 0,HQ.o.cell 2,HQ.o.cell 3⟩) ((go_at_call 50;refine Calls.mono (CK.o _ HK.o.st.k) ?_;rintro e w8 ⟨rfl,hb⟩;clear CK;replace HQ:=I (HQ.o.below hb);replace HD:=I (HD.o.below hb);replace HR:=I (HR.o.below hb);replace HN1:=I (HN1.o.below hb);replace HN2:=I (HN2.o.below hb);replace HK:=I (HK.o.below hb);clear hb))
     clear q1;have kr0:=HR.o.cell 0;have kr1:=HR.o.cell 1;have kr2:=HR.o.cell 2;have kr3:=HR.o.cell 3;have kr4:=HR.o.cell 4;have kr5:=HR.o.cell 5;have kr6:=HR.o.cell 6;have fz:=HR.o.frozen
     go_wp2_with (first
      |fail)
     refine bodyPost_ret (v:=.tuple #[.agg reZ,.int .i64 6]) ?_ ?_ ?_
     ·exact Ah (v:=.agg reZ) 8 9 38 ⟨w.heap.size+1+1,0,none⟩ Tryz.results17 rfl (Wh.Ak (set7 HR.o _ _ _ _ _ _ _) Tryz.underlying38 (by rfl) AI) rfl
     ·rfl
     ·exact Ec ((HK.o.put7 (by omega) HOR.o _ _ _ _ _ _ _).more (by omega)) (by decide)
  ·skip
   have er:r=(5,Ms.re0):=by rw[←HRL.o];rw[if_neg (fun x=>hr x.1)]
   subst er;have t1:(q.c.1==p.R)=false:=by simpa using hr
   clear hr;have kq0:W4.cell? ⟨w.heap.size,0,none⟩=some (.string ⟨q.c.1.toArray⟩):=HQ.o.cell 0;have kq1:W4.cell? ⟨w.heap.size,1,none⟩=some (.string ⟨q.c.2.toArray⟩):=HQ.o.cell 1;have kq2:W4.cell? ⟨w.heap.size,2,none⟩=some (.string ⟨q.s.1.toArray⟩):=HQ.o.cell 2;have kq3:W4.cell? ⟨w.heap.size,3,none⟩=some (.string ⟨q.s.2.toArray⟩):=HQ.o.cell 3;have kq4:W4.cell? ⟨w.heap.size,4,none⟩=some (.int .i64 q.t):=HQ.o.cell 4;have kq5:W4.cell? ⟨w.heap.size,5,none⟩=some (.int .i64 q.no):=HQ.o.cell 5;have kk0:W4.cell? ⟨p.k,0,none⟩=some (.string ⟨p.R.toArray⟩):=HK.o.st.k.blk.cell 0
   go_quiet (fail)
   obtain⟨W5,eW5⟩:∃z,z=W4.drewN nq:=⟨_,rfl⟩;replace HQ:=I (show Blk W5 _ _ _ from eW5▸HQ.o.drewN nq);replace HD:=I (show Blk W5 _ _ _ from eW5▸HD.o.drewN nq);replace HR:=I (show Blk W5 _ _ _ from eW5▸HR.o.drewN nq);replace HN1:=I (show Blk W5 _ _ _ from eW5▸HN1.o.drewN nq);replace HK:=I (show Kn w W5 B p es none es none n i c from eW5▸HK.o.below (below_drewN (Below.refl _ _) nq));rw[←eW5];clear eW5 kq0 kq1 kq2 kq3 kq4 kq5;clear kk0;have kr0:=HR.o.cell 0;have kr1:=HR.o.cell 1;have kr2:=HR.o.cell 2;have kr3:=HR.o.cell 3;have kr4:=HR.o.cell 4;have kr5:=HR.o.cell 5;have kr6:=HR.o.cell 6;have fz:=HR.o.frozen
   go_wp2_with (first
    |fail)
   refine bodyPost_ret (v:=.tuple #[.agg reZ,.int .i64 5]) ?_ ?_ ?_
   ·exact Ah (v:=.agg reZ) 8 9 38 ⟨w.heap.size+1+1,0,none⟩ Tryz.results17 rfl (Wh.Ak (set7 HR.o _ _ _ _ _ _ _) Tryz.underlying38 (by rfl) AI) rfl
   ·rfl
   ·exact Ec ((HK.o.put7 (by omega) HOR.o _ _ _ _ _ _ _).more (by omega)) (by decide)
theorem Yx {q:As} {d:Nm.L} {now:Int} (h:KS w B p es none n i c) (hc:c<800000) (hn:n<800000) (hi:i<800000) (hl:es.length≤1000) (hR:p.R.length≤1000) (hd:d.length=32) (hs1:pSm q.c) (hs2:pSm q.s) :
  Calls Tryz.prog 17 #[.pointer (some ⟨p.k,0,none⟩),.agg (asA q),.int .i64 now,.agg (keyA d)] w (AnsR w B p es none n i (c+4) (asL p.R (its es) n q now d)):=by
 cases ht:tmB now with
 |false=>unfold asL;rw[ht];exact as_1 h hc hn hi hl hR hd hs1 hs2 ht
 |true=>
  cases ha:asB q with
  |false=>unfold asL;rw[ht,ha];exact as_2 h hc hn hi hl hR hd hs1 hs2 ht ha
  |true=>exact WS h hc hn hi hl hR hd hs1 hs2 ht ha rfl
end
end Kd
end
section
namespace Kd
open Go.RowKit Af Se
open Rg (It Ent Ring RO DRing DO Ap its)
open Ms (Re As Tg pSm reC)
theorem Ja {w V:World} {g:Nat} (hg:w.grownBy V (some g)):Chg (fun j=>j=g) w V:=⟨hg.os,hg.tape,hg.output,hg.size,fun i hi hn=>hg.block i hi (fun e=>hn (by injection e))⟩
section
variable {w0 w1 w w' V:World} {B:Nat} {p:KP} {es0 es es':List Ent} {s0 s:Option Ss} {n i c g PT:Nat} {cs:Array Value} {x:Re}
theorem Kn.grown (h:Kn w0 w B p es0 s0 es s n i c) (hg:w.grownBy V (some g)) (hl:w0.heap.size≤g) (hk:Off p es s g):Kn w0 V B p es0 s0 es s n i c:=
 ⟨h.st.chg (Ja hg) (fun j hj e=>hk j hj e),h.eq,h.sq,h.chg.trans (Ja hg) (fun j hj x=>by omega),h.nw⟩
theorem BO {S:Nat→Prop} (h:ReN S w cs x):cs.size=7∧cs.all (·.oneCell')=true:=by
 obtain⟨b,a,rfl,⟨A1,c1,rfl,_⟩,⟨A2,c2,rfl,_⟩⟩:=h;exact⟨rfl,by simp [reC,Ms.prC,Ms.tkC,Value.oneCell']⟩
def VarS (w1:World) (p:KP) (es:List Ent) (PT:Nat) (j:Nat):Prop:=Out w1 p es none j∨j=PT
theorem FD {s:Option Ss} (h:ReN (Out w p es s) w' cs x) (h1:w1.heap.size≤w.heap.size) (h2:PT<w.heap.size):ReN (VarS w1 p es PT) w' cs x:=
 h.keep (Chg.refl (fun _=>False) w') (fun _ _ x=>x.elim) (fun j _ y=>by
  rcases y with(y | y | ⟨z,hz,_⟩) | y
  ·exact .inl (by omega)
  ·exact .inr (.inl y)
  ·cases hz
  ·exact .inl (by omega))
theorem Sx {s:Option Ss} (h:ReN (Out w p es s) w' cs x) (h1:w1.heap.size≤w.heap.size) (h2:w'.heap.size≤PT) (hb:Below w'.heap.size w' V):ReN (VarS w1 p es PT) V cs x:=
 (h.keep (S':=VarS w1 p es PT) (Chg.refl (fun _=>False) w') (fun _ _ x=>x.elim) (fun j hj y=>by
  rcases y with(y | y | ⟨z,hz,_⟩) | y
  ·exact .inl (by omega)
  ·exact .inr (.inl y)
  ·cases hz
  ·omega)).below hb
theorem Yy (h:ReN (VarS w1 p es PT) w cs x) (hg:w.grownBy V (some PT)):ReN (VarS w1 p es PT) V cs x:=h.keep (Ja hg) (fun j _ e=>.inr e) (fun _ _ x=>x)
structure Got (w1 w:World) (B:Nat) (p:KP) (es0 es:List Ent) (n i c PT:Nat) (cs:Array Value) (x:Re):Prop where
 kn:Kn w1 w B p es0 none es none n i c
 blk:Blk w PT 38 cs
 re:ReN (VarS w1 p es PT) w cs x
 off:Off p es none PT
 lo:w1.heap.size≤PT
theorem DI (hk:Kn w1 w B p es0 none es none n i c) (hr:ReN (VarS w1 p es PT) w cs x) (ho:Off p es none PT) (hl:w1.heap.size≤PT) (hv:Blk V PT 38 cs) (hg:w.grownBy V (some PT)):Got w1 V B p es0 es n i c PT cs x:=
 ⟨hk.grown hg hl ho,hv,Yy hr hg,ho,hl⟩
theorem Sy {q:As} {d:Nm.L} {now:Int} {csQ csD:Array Value} {l:List It} {R:Nm.L} {r:Int×Re} (eQ:csQ=asA q) (eD:csD=keyA d) (eR:p.R=R) (el:its es=l) (er:asL R l n q now d=r) (h:KS w B p es none n i c) (hc:c<800000) (hn:n<800000) (hi:i<800000) (hl:l.length≤1000) (hR:R.length≤1000) (hd:d.length=32) (hs1:pSm q.c) (hs2:pSm q.s) :
  Calls Tryz.prog 17 #[.pointer (some ⟨p.k,0,none⟩),.agg csQ,.int .i64 now,.agg csD] w fun e w'=>∃cs es',e = .returned (.tuple #[.agg cs,.int .i64 r.1])∧ReN (Out w p es' none) w' cs r.2∧Kn w w' B p es none es' none (n+2*cnt r.1) (i+cnt r.1) (c+4):=by
 subst eQ eD eR el er;refine(Yx h hc hn hi (by rw[Rg.DF] at hl;exact hl) hR hd hs1 hs2).mono ?_;rintro e w' ⟨cs,es',s',h1,h2,h3⟩;exact⟨cs,es',h1,h2.keep (Chg.refl (fun _=>False) w') (fun _ _ x=>x.elim) (fun j _ y=>y.imp id (fun y=>y.elim .inl (fun⟨z,hz,_⟩=>by cases hz))),h3.drop⟩
end
theorem Ht (c s:Nm.L×Nm.L) (t no:Int):Tryz.prog.built 29 [(0,prV c),(1,prV s),(2,.int .i64 t),(3,.int .i64 no)]=some (asA ⟨c,s,t,no⟩):=by kernel_rfl
theorem Sz (c s:Nm.L×Nm.L) (t:Int):Tryz.prog.built 29 [(0,prV c),(1,prV s),(2,.int .i64 t)]=some (asA ⟨c,s,t,0⟩):=by kernel_rfl
def k1L:Nm.L:=1 :: List.replicate 31 0
theorem Vc:k1L.length=32:=rfl
theorem Up:Tryz.prog.built 47 [(0,.int .u8 1)]=some (keyA k1L):=by kernel_rfl
theorem WT (n:UInt8):AP (kq n)=keyA (kb n):=(Jz n).symm
end Kd
end
section
namespace Kd
open Go.RowKit Af Se
open Rg (It Ent Ring RO its Ah)
section
variable {w:World} {B:Nat} {p:KP} {es:List Ent} {n i c:Nat}
theorem SA (h:KD w B p es n i) (hi:i<1000000000):Calls Tryz.prog 25 #[.pointer (some ⟨p.k,0,none⟩)] w fun e w'=>e = .returned (.int .i64 (i:Int))∧w=w':=by
 have k6:w.cell? ⟨p.k,6,none⟩=some (.int .i64 (i:Int)):=h.blk.cell 6;have c1:=Se.Pe ⟨p.k,6,none⟩ i w k6;clear h;go_enter Tryz.func25,Tryz.ntmps25
 go_wp2_with (first
  |(go_at_call 70;refine Calls.mono c1 ?_;rintro e w1 ⟨rfl,hw⟩;clear c1;have hw:=hw.symm;subst hw)
  |fail)
 go_ret;exact⟨by go_num,rfl⟩
end
end Kd
end
end Go.Proofs.YtfcjeebnkigeaaaGreat
