import Derived.Test.YthgignaohimadaaGreatZKdcRoutes20
set_option maxHeartbeats 25600000
set_option maxRecDepth 100000
set_option linter.unusedVariables false
set_option linter.unusedSimpArgs false
namespace Go.Proofs.YthgignaohimadaaGreat
namespace Kd
open Go.RowKit Af Se
open Rg (It Ent Ring RO its Ad BA BH AQ Bd)
open SeL (Bn Bc)
open Ms (Pt Rp Re Tk As pSm tmB asB)
open Nm (krb)
section
variable {w:World} {B:Nat} {p:KP} {es:List Ent} {n i c:Nat}
theorem as_1 {q:As} {d:Nm.L} {now:Int} (h:KS w B p es none n i c) (hc:c<800000) (hn:n<800000) (hi:i<800000) (hl:es.length<=1000) (hR:p.R.length<=1000) (hd:d.length=32) (Z:pSm q.c) (O:pSm q.s) (ht:tmB now=false) :
  Calls Tryz.prog 33 #[.pointer (some ⟨p.k,0,none⟩),.agg (asA q),.int .i64 now,.agg (keyA d)] w (AnsR w B p es none n i (c+4) (1,Ms.re0)):=by
 obtain⟨E,D⟩:=Ak (keyA d);rw[<-D];obtain⟨W,M⟩:=Ak (((w.alloc (.cells (asA q) 86)).alloc (.cells E 36)).alloc (.cells reZ 44));have hb:Below w.heap.size w W:=M▸((Ah.alloc Ag _).alloc (by simp) _).alloc (by simp;omega) _;have J:=I (show Blk W w.heap.size 86 (asA q) from M▸((Blk.new w _ _).alloc _).alloc _);have HD:=I (show Blk W (w.heap.size+1) 36 E by have:=(Blk.new (w.alloc (.cells (asA q) 86)) 36 E).alloc (.cells reZ 44);simp only[World.size_alloc] at this;exact M▸this);have F:=I (show Blk W (w.heap.size+1+1) 44 reZ by have:=Blk.new ((w.alloc (.cells (asA q) 86)).alloc (.cells E 36)) 44 reZ;simp only[World.size_alloc] at this;exact M▸this);have HK:=I (Kn.start h hb);have N:=I (h.offs (show w.heap.size<=w.heap.size+1+1 by omega));have cp:=I (show(Tryz.prog.info? 36).map (·.size)=some E.size by rw[D];exact CZ hd);have HC:=I hc;have cg:=I hn;have cj:=I hi;have CT:=I (fun(w1:World)=>Ei now w1);rw[ht] at CT;clear ht;clear h hb hc hn hi hl hR Z O hd D;go_enter Tryz.func33,Tryz.ntmps33
 go_upto_region 1 with fail
 rw[<-M];clear M;have aw:=J.c0;have bz:=J.c1;have cn:=J.c2;have cf:=J.c3;have ck:=J.c4;have cc:=J.c5;have bx:=F.o.cell 0;have ca:=F.o.cell 1;have cd:=F.o.cell 2;have cm:=F.o.cell 3;have cb:=F.o.cell 4;have cq:=F.o.cell 5;have bB:=F.o.cell 6;have fz:=F.o.frozen
 go_wp2_with (first
  |(go_at_call 25;refine Aj (CT.o _) ?_;rintro wt hw;have hw:=hw.symm;subst hw;clear CT)
  |fail)
 refine bodyPost_ret (v:=.tuple #[.agg reZ,.int .i64 1]) ?_ ?_ ?_
 ·exact Ad (v:=.agg reZ) 8 9 44 ⟨w.heap.size+1+1,0,none⟩ Tryz.results33 rfl (Wh.Al (set7 F.o _ _ _ _ _ _ _) Tryz.underlying44 (by rfl) AM) rfl
 ·rfl
 ·exact Cm ((HK.o.put7 (by omega) N.o _ _ _ _ _ _ _).more (by omega)) (by decide)
theorem as_2 {q:As} {d:Nm.L} {now:Int} (h:KS w B p es none n i c) (hc:c<800000) (hn:n<800000) (hi:i<800000) (hl:es.length<=1000) (hR:p.R.length<=1000) (hd:d.length=32) (bB:pSm q.c) (bz:pSm q.s) (ht:tmB now=true) (ha:asB q=false) :
  Calls Tryz.prog 33 #[.pointer (some ⟨p.k,0,none⟩),.agg (asA q),.int .i64 now,.agg (keyA d)] w (AnsR w B p es none n i (c+4) (1,Ms.re0)):=by
 obtain⟨J,F⟩:=Ak (keyA d);rw[<-F];obtain⟨W,Z⟩:=Ak (((w.alloc (.cells (asA q) 86)).alloc (.cells J 36)).alloc (.cells reZ 44));have N:Below w.heap.size w W:=Z▸((Ah.alloc Ag _).alloc (by simp) _).alloc (by simp;omega) _;have D:=I (show Blk W w.heap.size 86 (asA q) from Z▸((Blk.new w _ _).alloc _).alloc _);have HD:=I (show Blk W (w.heap.size+1) 36 J by have:=(Blk.new (w.alloc (.cells (asA q) 86)) 36 J).alloc (.cells reZ 44);simp only[World.size_alloc] at this;exact Z▸this);have E:=I (show Blk W (w.heap.size+1+1) 44 reZ by have:=Blk.new ((w.alloc (.cells (asA q) 86)).alloc (.cells J 36)) 44 reZ;simp only[World.size_alloc] at this;exact Z▸this);have HK:=I (Kn.start h N);have cf:=I (h.offs (show w.heap.size<=w.heap.size+1+1 by omega));have cu:=I (show(Tryz.prog.info? 36).map (·.size)=some J.size by rw[F];exact CZ hd);have HC:=I hc;have cq:=I hn;have cr:=I hi;have CT:=I (fun(w1:World)=>Ei now w1);rw[ht] at CT;have CM:=I (fun(w1:World)=>Gb _ (mAs q) w1 (dO w1 q) ⟨⟨bB,bz⟩,⟨Mc.Cj,Mc.Cj⟩,⟨Mc.Cj,Mc.Cj⟩,Mc.Cj⟩);have O:=I (Nq q);obtain⟨cg,M⟩:=Ak (Mc.mgA 1 (asA q) Mc.zT Mc.zR Mc.zP Mc.zF);rw[<-M] at CM O;clear M;rw[YC] at CM;rw[ha] at CM;clear ht ha;clear h N hc hn hi hl hR bB bz hd F;go_enter Tryz.func33,Tryz.ntmps33
 go_upto_region 1 with fail
 rw[<-Z];clear Z;have aw:=D.c0;have bx:=D.c1;have cd:=D.c2;have cb:=D.c3;have cc:=D.c4;have ca:=D.c5
 go_upto_region 2 with(first
  |(go_at_call 25;refine Aj (CT.o _) ?_;rintro wt hw;have hw:=hw.symm;subst hw;clear CT)
  |(refine LU (by rfl) 92 #[(0,.const (.int .i64 1)),(1,.tmp 22)] (by rfl) cg (by simp only[List.map_toArray,List.map_cons,List.map_nil];exact O.o) ?_;clear O)
  |(go_at_call 26;refine Aj (CM.o _) ?_;rintro wm N;clear CM;clear aw bx cd cb cc ca;replace D:=I (D.o.below N);replace HD:=I (HD.o.below N);replace E:=I (E.o.below N);replace HK:=I (HK.o.below N);have aw:=D.c0;have bx:=D.c1;have cd:=D.c2;have cb:=D.c3;have cc:=D.c4;have ca:=D.c5;clear N)
  |fail)
 have cj:=E.o.cell 0;have cm:=E.o.cell 1;have cp:=E.o.cell 2;have ct:=E.o.cell 3;have cn:=E.o.cell 4;have cw:=E.o.cell 5;have ck:=E.o.cell 6;have fz:=E.o.frozen
 go_wp2_with (first
  |fail)
 refine bodyPost_ret (v:=.tuple #[.agg reZ,.int .i64 1]) ?_ ?_ ?_
 ·exact Ad (v:=.agg reZ) 8 9 44 ⟨w.heap.size+1+1,0,none⟩ Tryz.results33 rfl (Wh.Al (set7 E.o _ _ _ _ _ _ _) Tryz.underlying44 (by rfl) AM) rfl
 ·rfl
 ·exact Cm ((HK.o.put7 (by omega) cf.o _ _ _ _ _ _ _).more (by omega)) (by decide)
theorem bg {q:As} {d:Nm.L} {now:Int} (h:KS w B p es none n i c) (hc:c<800000) (hn:n<800000) (hi:i<800000) (hl:es.length<=1000) (hR:p.R.length<=1000) (hd:d.length=32) (cy:pSm q.c) (cx:pSm q.s) {r:Int×Re} (ht:tmB now=true) (ha:asB q=true) (cB:asL p.R (its es) n q now d=r) :
  Calls Tryz.prog 33 #[.pointer (some ⟨p.k,0,none⟩),.agg (asA q),.int .i64 now,.agg (keyA d)] w (AnsR w B p es none n i (c+4) r):=by
 obtain⟨ct,cf⟩:=Ak (keyA d);rw[<-cf];obtain⟨W,eW⟩:=Ak (((w.alloc (.cells (asA q) 86)).alloc (.cells ct 36)).alloc (.cells reZ 44));have M:Below w.heap.size w W:=eW▸((Ah.alloc Ag _).alloc (by simp) _).alloc (by simp;omega) _;have D:=I (show Blk W w.heap.size 86 (asA q) from eW▸((Blk.new w _ _).alloc _).alloc _);have HD:=I (show Blk W (w.heap.size+1) 36 ct by have:=(Blk.new (w.alloc (.cells (asA q) 86)) 36 ct).alloc (.cells reZ 44);simp only[World.size_alloc] at this;exact eW▸this);have E:=I (show Blk W (w.heap.size+1+1) 44 reZ by have:=Blk.new ((w.alloc (.cells (asA q) 86)).alloc (.cells ct 36)) 44 reZ;simp only[World.size_alloc] at this;exact eW▸this);have J:=I (Kn.start h M);have ck:=I (h.offs (show w.heap.size<=w.heap.size+1+1 by omega));have eH:=I (show(Tryz.prog.info? 36).map (·.size)=some ct.size by rw[cf];exact CZ hd);have HC:=I hc;have eX:=I hn;have fF:=I hi;have CT:=I (fun(w1:World)=>Ei now w1);rw[ht] at CT;have CM:=I (fun(w1:World)=>Gb _ (mAs q) w1 (dO w1 q) ⟨⟨cy,cx⟩,⟨Mc.Cj,Mc.Cj⟩,⟨Mc.Cj,Mc.Cj⟩,Mc.Cj⟩);have et:=I (Nq q);obtain⟨fy,eo⟩:=Ak (Mc.mgA 1 (asA q) Mc.zT Mc.zR Mc.zP Mc.zF);rw[<-eo] at CM et;clear eo;rw[YC] at CM;rw[ha] at CM;have cg:=I (show(if q.c.1=p.R/\hasL (its es) q.c=true then if q.s=kr p.R p.R/\hasL (its es) q.s=true then if q.t<now then (7,Ms.re0) else ansL (its es) n q.c q.s ⟨q.c,d,[],now,min q.t (now+mxL)⟩ q.no (keyL (its es) q.c) 3 else (6,Ms.re0) else (5,Ms.re0))=r by rw[<-cB];unfold asL;rw[ht,ha];rfl);have ea:=I hl;have eV:=I hR;have fH:=I hd;have fb:=I cy;have fG:=I cx;have eD:=I (And.intro ht ha);have eT:=I cf;clear ht ha cB;clear h M hc hn hi hl hR cy cx hd cf;go_enter Tryz.func33,Tryz.ntmps33
 go_upto_region 1 with fail
 rw[<-eW];clear eW;have Z:=D.c0;have N:=D.c1;have bx:=D.c2;have bz:=D.c3;have aw:=D.c4;have O:=D.c5
 go_upto_region 3 with(first
  |(go_at_call 25;refine Aj (CT.o _) ?_;rintro wt hw;have hw:=hw.symm;subst hw;clear CT)
  |(refine LU (by rfl) 92 #[(0,.const (.int .i64 1)),(1,.tmp 22)] (by rfl) fy (by simp only[List.map_toArray,List.map_cons,List.map_nil];exact et.o) ?_;clear et)
  |(go_at_call 26;refine Aj (CM.o _) ?_;rintro wm M;clear CM;clear Z N bx bz aw O;replace D:=I (D.o.below M);replace HD:=I (HD.o.below M);replace E:=I (E.o.below M);replace J:=I (J.o.below M);have Z:=D.c0;have N:=D.c1;have bx:=D.c2;have bz:=D.c3;have aw:=D.c4;have O:=D.c5;clear M)
  |fail)
 cases hf1:BA (its es) q.c with
 |none=>
  have er:r=(5,Ms.re0):=by rw[<-cg.o];rw[if_neg (fun x=>by simp [hasL,hf1] at x)]
  subst er;have cP:=I (fun(w1:World) (h1:KD w1 B p es n i)=>Hk h1 ea.o hf1);clear hf1
  go_upto_region 4 with(first
   |(go_at_call 63;refine Aj (cP.o _ J.o.st.k) ?_;rintro w3 M;clear cP;(try clear Z N bx bz aw O);replace D:=I (D.o.below M);replace HD:=I (HD.o.below M);replace E:=I (E.o.below M);replace J:=I (J.o.below M);have Z:=D.c0;have N:=D.c1;have bx:=D.c2;have bz:=D.c3;have aw:=D.c4;have O:=D.c5;clear M)
   |fail)
  obtain⟨W4,cc⟩:=Ak (w3.alloc (.cells #[.string ⟨#[]⟩,.string ⟨#[]⟩,.pointer none,.int .i64 0] 99));have hn:Blk W4 w3.heap.size 99 #[.string ⟨#[]⟩,.string ⟨#[]⟩,.pointer none,.int .i64 0]:=cc▸Blk.new _ _ _;replace D:=I (show Blk W4 _ _ _ from cc▸D.o.alloc _);replace HD:=I (show Blk W4 _ _ _ from cc▸HD.o.alloc _);replace E:=I (show Blk W4 _ _ _ from cc▸E.o.alloc _);replace J:=I (show Kn w W4 B p es none es none n i c from cc▸J.o.alloc _);rw[<-cc];clear cc Z N bx bz aw O;obtain⟨fj,cn⟩:=Ak (w3.heap.size);rw[<-cn] at hn⊢;have F:=I hn;clear cn hn;have Z:=D.c0;have N:=D.c1;have bx:=D.c2;have bz:=D.c3;have aw:=D.c4;have O:=D.c5;have cp:W4.cell? ⟨p.k,0,none⟩=some (.string ⟨p.R.toArray⟩):=J.o.st.k.blk.cell 0
  go_quiet (fail)
  obtain⟨W5,ca⟩:=Ak (W4.drewN nq);replace D:=I (show Blk W5 _ _ _ from ca▸D.o.drewN nq);replace HD:=I (show Blk W5 _ _ _ from ca▸HD.o.drewN nq);replace E:=I (show Blk W5 _ _ _ from ca▸E.o.drewN nq);replace F:=I (show Blk W5 _ _ _ from ca▸F.o.drewN nq);replace J:=I (show Kn w W5 B p es none es none n i c from ca▸J.o.below (below_drewN Ah nq));rw[<-ca];clear ca Z N bx bz aw O;have ef:=E.o.cell 0;have eb:=E.o.cell 1;have ei:=E.o.cell 2;have ed:=E.o.cell 3;have ec:=E.o.cell 4;have ej:=E.o.cell 5;have eg:=E.o.cell 6;have fz:=E.o.frozen;clear cp
  go_wp2_with (first
   |fail)
  refine bodyPost_ret (v:=.tuple #[.agg reZ,.int .i64 5]) ?_ ?_ ?_
  ·exact Ad (v:=.agg reZ) 8 9 44 ⟨w.heap.size+1+1,0,none⟩ Tryz.results33 rfl (Wh.Al (set7 E.o _ _ _ _ _ _ _) Tryz.underlying44 (by rfl) AM) rfl
  ·rfl
  ·exact Cm ((J.o.put7 (by omega) ck.o _ _ _ _ _ _ _).more (by omega)) (by decide)
 |some j1=>
  obtain⟨x1,cr⟩:=LX hf1;have eN:=LW hf1 cr;have cP:=I (fun(w1:World) (h1:KD w1 B p es n i)=>Jj h1 ea.o hf1 cr);have fL:=I cr;have eL:=I eN;clear hf1 cr eN
  go_upto_region 4 with(first
   |(go_at_call 63;refine Aj (cP.o _ J.o.st.k) ?_;rintro w3 M;clear cP;(try clear Z N bx bz aw O);replace D:=I (D.o.below M);replace HD:=I (HD.o.below M);replace E:=I (E.o.below M);replace J:=I (J.o.below M);have Z:=D.c0;have N:=D.c1;have bx:=D.c2;have bz:=D.c3;have aw:=D.c4;have O:=D.c5;clear M)
   |fail)
  obtain⟨W4,cc⟩:=Ak (w3.alloc (.cells #[.string ⟨(q.c).1.toArray⟩,.string ⟨(q.c).2.toArray⟩,.pointer (some ⟨x1.b,0,none⟩),.int .i64 (x1.it.n:Int)] 99));have hn:Blk W4 w3.heap.size 99 #[.string ⟨(q.c).1.toArray⟩,.string ⟨(q.c).2.toArray⟩,.pointer (some ⟨x1.b,0,none⟩),.int .i64 (x1.it.n:Int)]:=cc▸Blk.new _ _ _;replace D:=I (show Blk W4 _ _ _ from cc▸D.o.alloc _);replace HD:=I (show Blk W4 _ _ _ from cc▸HD.o.alloc _);replace E:=I (show Blk W4 _ _ _ from cc▸E.o.alloc _);replace J:=I (show Kn w W4 B p es none es none n i c from cc▸J.o.alloc _);rw[<-cc];clear cc Z N bx bz aw O;obtain⟨fj,cn⟩:=Ak (w3.heap.size);rw[<-cn] at hn⊢;have F:=I hn;clear cn hn
  by_cases hr:q.c.1=p.R
  ·skip
   replace cg:=I (show(if q.s=kr p.R p.R/\hasL (its es) q.s=true then if q.t<now then (7,Ms.re0) else ansL (its es) n q.c q.s ⟨q.c,d,[],now,min q.t (now+mxL)⟩ q.no (keyL (its es) q.c) 3 else (6,Ms.re0))=r by have:=cg.o;rw[if_pos ⟨hr,eL.o.2.2⟩] at this;exact this);have t1:(q.c.1==p.R)=true:=by rw[hr];simp
   clear hr;have Z:=D.c0;have N:=D.c1;have bx:=D.c2;have bz:=D.c3;have aw:=D.c4;have O:=D.c5;have cp:W4.cell? ⟨p.k,0,none⟩=some (.string ⟨p.R.toArray⟩):=J.o.st.k.blk.cell 0
   go_quiet (fail)
   obtain⟨W5,ca⟩:=Ak (W4.drewN nq);replace D:=I (show Blk W5 _ _ _ from ca▸D.o.drewN nq);replace HD:=I (show Blk W5 _ _ _ from ca▸HD.o.drewN nq);replace E:=I (show Blk W5 _ _ _ from ca▸E.o.drewN nq);replace F:=I (show Blk W5 _ _ _ from ca▸F.o.drewN nq);replace J:=I (show Kn w W5 B p es none es none n i c from ca▸J.o.below (below_drewN Ah nq));rw[<-ca];clear ca Z N bx bz aw O;clear cp t1;have Z:=D.c0;have N:=D.c1;have bx:=D.c2;have bz:=D.c3;have aw:=D.c4;have O:=D.c5;cases hf2:BA (its es) q.s with
   |none=>
    have er:r=(6,Ms.re0):=by rw[<-cg.o];rw[if_neg (fun x=>by simp [hasL,hf2] at x)]
    subst er;have cQ:=I (fun(w1:World) (h1:KD w1 B p es n i)=>Hk h1 ea.o hf2);clear hf2
    go_upto_region 7 with(first
     |(go_at_call 63;refine Aj (cQ.o _ J.o.st.k) ?_;rintro w6 M;clear cQ;(try clear Z N bx bz aw O);replace D:=I (D.o.below M);replace HD:=I (HD.o.below M);replace E:=I (E.o.below M);replace F:=I (F.o.below M);replace J:=I (J.o.below M);have Z:=D.c0;have N:=D.c1;have bx:=D.c2;have bz:=D.c3;have aw:=D.c4;have O:=D.c5;clear M)
     |fail)
    obtain⟨W7,bB⟩:=Ak (w6.alloc (.cells #[.string ⟨#[]⟩,.string ⟨#[]⟩,.pointer none,.int .i64 0] 99));have hn:Blk W7 w6.heap.size 99 #[.string ⟨#[]⟩,.string ⟨#[]⟩,.pointer none,.int .i64 0]:=bB▸Blk.new _ _ _;replace D:=I (show Blk W7 _ _ _ from bB▸D.o.alloc _);replace HD:=I (show Blk W7 _ _ _ from bB▸HD.o.alloc _);replace E:=I (show Blk W7 _ _ _ from bB▸E.o.alloc _);replace F:=I (show Blk W7 _ _ _ from bB▸F.o.alloc _);replace J:=I (show Kn w W7 B p es none es none n i c from bB▸J.o.alloc _);rw[<-bB];clear bB Z N bx bz aw O;obtain⟨eQ,cd⟩:=Ak (w6.heap.size);rw[<-cd] at hn⊢;have cb:=I hn;clear cd hn;have Z:=D.c0;have N:=D.c1;have bx:=D.c2;have bz:=D.c3;have aw:=D.c4;have O:=D.c5;have cp:W7.cell? ⟨p.k,0,none⟩=some (.string ⟨p.R.toArray⟩):=J.o.st.k.blk.cell 0
    go_quiet (fail)
    obtain⟨W8,cm⟩:=Ak (W7.drewN nq);replace D:=I (show Blk W8 _ _ _ from cm▸D.o.drewN nq);replace HD:=I (show Blk W8 _ _ _ from cm▸HD.o.drewN nq);replace E:=I (show Blk W8 _ _ _ from cm▸E.o.drewN nq);replace F:=I (show Blk W8 _ _ _ from cm▸F.o.drewN nq);replace cb:=I (show Blk W8 _ _ _ from cm▸cb.o.drewN nq);replace J:=I (show Kn w W8 B p es none es none n i c from cm▸J.o.below (below_drewN Ah nq));rw[<-cm];clear cm Z N bx bz aw O;clear cp;have ef:=E.o.cell 0;have eb:=E.o.cell 1;have ei:=E.o.cell 2;have ed:=E.o.cell 3;have ec:=E.o.cell 4;have ej:=E.o.cell 5;have eg:=E.o.cell 6;have fz:=E.o.frozen
    go_wp2_with (first
     |fail)
    refine bodyPost_ret (v:=.tuple #[.agg reZ,.int .i64 6]) ?_ ?_ ?_
    ·exact Ad (v:=.agg reZ) 8 9 44 ⟨w.heap.size+1+1,0,none⟩ Tryz.results33 rfl (Wh.Al (set7 E.o _ _ _ _ _ _ _) Tryz.underlying44 (by rfl) AM) rfl
    ·rfl
    ·exact Cm ((J.o.put7 (by omega) ck.o _ _ _ _ _ _ _).more (by omega)) (by decide)
   |some j2=>
    obtain⟨x2,cq⟩:=LX hf2;have eM:=LW hf2 cq;have cQ:=I (fun(w1:World) (h1:KD w1 B p es n i)=>Jj h1 ea.o hf2 cq);have CK:=I (fun(w1:World) (h1:KD w1 B p es n i)=>LP (r:=p.R) h1 (by have:=eV.o;omega));have fI:=I cq;have ep:=I eM;clear hf2 cq eM
    go_upto_region 7 with(first
     |(go_at_call 63;refine Aj (cQ.o _ J.o.st.k) ?_;rintro w6 M;clear cQ;(try clear Z N bx bz aw O);replace D:=I (D.o.below M);replace HD:=I (HD.o.below M);replace E:=I (E.o.below M);replace F:=I (F.o.below M);replace J:=I (J.o.below M);have Z:=D.c0;have N:=D.c1;have bx:=D.c2;have bz:=D.c3;have aw:=D.c4;have O:=D.c5;clear M)
     |fail)
    by_cases hne:q.s=kr p.R p.R
    ·skip
     have q1:=AQ hne;replace cg:=I (show(if q.t<now then (7,Ms.re0) else ansL (its es) n q.c q.s ⟨q.c,d,[],now,min q.t (now+mxL)⟩ q.no (keyL (its es) q.c) 3)=r by have:=cg.o;rw[if_pos ⟨hne,ep.o.2.2⟩] at this;exact this);clear hne;obtain⟨W7,bB⟩:=Ak (w6.alloc (.cells #[.string ⟨(q.s).1.toArray⟩,.string ⟨(q.s).2.toArray⟩,.pointer (some ⟨x2.b,0,none⟩),.int .i64 (x2.it.n:Int)] 99));have hn:Blk W7 w6.heap.size 99 #[.string ⟨(q.s).1.toArray⟩,.string ⟨(q.s).2.toArray⟩,.pointer (some ⟨x2.b,0,none⟩),.int .i64 (x2.it.n:Int)]:=bB▸Blk.new _ _ _;replace D:=I (show Blk W7 _ _ _ from bB▸D.o.alloc _);replace HD:=I (show Blk W7 _ _ _ from bB▸HD.o.alloc _);replace E:=I (show Blk W7 _ _ _ from bB▸E.o.alloc _);replace F:=I (show Blk W7 _ _ _ from bB▸F.o.alloc _);replace J:=I (show Kn w W7 B p es none es none n i c from bB▸J.o.alloc _);rw[<-bB];clear bB Z N bx bz aw O;obtain⟨eQ,cd⟩:=Ak (w6.heap.size);rw[<-cd] at hn⊢;have cb:=I hn;clear cd hn;replace D:=I (show Blk W7.drew _ _ _ from D.o.drewN 1);replace HD:=I (show Blk W7.drew _ _ _ from HD.o.drewN 1);replace E:=I (show Blk W7.drew _ _ _ from E.o.drewN 1);replace F:=I (show Blk W7.drew _ _ _ from F.o.drewN 1);replace cb:=I (show Blk W7.drew _ _ _ from cb.o.drewN 1);replace J:=I J.o.drew
     go_region_held3 (fun w'=>w'.cell? ⟨p.k,0,none⟩=some (.string ⟨p.R.toArray⟩)/\w'.cell? ⟨w.heap.size,2,none⟩=some (.string ⟨q.s.1.toArray⟩)/\w'.cell? ⟨w.heap.size,3,none⟩=some (.string ⟨q.s.2.toArray⟩)) (exact⟨J.o.st.k.blk.cell 0,D.o.cell 2,D.o.cell 3⟩) ((go_at_call 65;refine Aj (CK.o _ J.o.st.k) ?_;rintro w8 M;clear CK;replace D:=I (D.o.below M);replace HD:=I (HD.o.below M);replace E:=I (E.o.below M);replace F:=I (F.o.below M);replace cb:=I (cb.o.below M);replace J:=I (J.o.below M);clear M))
     clear q1;have Z:=D.c0;have N:=D.c1;have bx:=D.c2;have bz:=D.c3;have aw:=D.c4;have O:=D.c5
     by_cases hti:q.t<now
     ·skip
      have er:r=(7,Ms.re0):=by rw[<-cg.o];rw[if_pos hti]
      subst er;have d1:decide (q.t<now)=true:=decide_eq_true hti;clear hti;have ef:=E.o.cell 0;have eb:=E.o.cell 1;have ei:=E.o.cell 2;have ed:=E.o.cell 3;have ec:=E.o.cell 4;have ej:=E.o.cell 5;have eg:=E.o.cell 6;have fz:=E.o.frozen
      go_wp2_with (first
       |fail)
      refine bodyPost_ret (v:=.tuple #[.agg reZ,.int .i64 7]) ?_ ?_ ?_
      ·exact Ad (v:=.agg reZ) 8 9 44 ⟨w.heap.size+1+1,0,none⟩ Tryz.results33 rfl (Wh.Al (set7 E.o _ _ _ _ _ _ _) Tryz.underlying44 (by rfl) AM) rfl
      ·rfl
      ·exact Cm ((J.o.put7 (by omega) ck.o _ _ _ _ _ _ _).more (by omega)) (by decide)
     ·skip
      have d1:decide (q.t<now)=false:=decide_eq_false hti;have hd:=fH.o;have cf:=eT.o;have cy:=fb.o;have cx:=fG.o;have cr:=fL.o;have cq:=fI.o;have ht:=eD.o.1;have ha:=eD.o.2;have hc:=HC.o;have hn:=eX.o;have hi:=fF.o;have cu:(⟨q.c,d,[],now,min q.t (now+1000)⟩:Pt).ss.length=32:=hd;have cA:=I (Nk hd q.c now (min q.t (now+1000)));obtain⟨cw,cj⟩:=Ak (ptA ⟨q.c,d,[],now,min q.t (now+1000)⟩);have eB:=I (show cw.size=37 by rw[cj];exact EH cu);have ey:=I (show(Tryz.prog.info? 40).map (·.size)=some cw.size by rw[cj];exact GA cu);have eP:=I (show cw.all (·.oneCell')=true by rw[cj];exact Ij _);obtain⟨rr,err⟩:=Ak (ansK n x2.it.k x2.it.n q.s ⟨q.c,d,[],now,min q.t (now+1000)⟩ q.no x1.it.k 3);have CA:=I (fun(w1:World) (h1:KS w1 B p es none n i c)=>dN (no:=q.no) (u:=3) (sv:=q.s) (kv:=x2.it.n) (P:=⟨q.c,d,[],now,min q.t (now+1000)⟩) h1 (.inl ⟨j2,x2,cq,rfl,rfl⟩) (.inl ⟨j1,x1,cr,rfl,rfl⟩) (by omega) (by omega) (by omega) cu cy cx (by simp));rw[<-cj] at cA;simp only[<-cj,<-err] at CA;rw[show keyA d=ct from cf.symm] at cA;obtain⟨en,eu⟩:=Ak (min q.t (now+1000));rw[<-eu] at cA;have fN:min q.t (now+1000)=en:=eu.symm;clear eu;have cL:0<=now/\now<=1073741824:=by simpa [tmB,Ms.inB] using ht
      have fP:=cL.1;have fO:=cL.2;have ew:0<=q.t/\q.t<=1073741824:=by
       have:Ms.prB q.c=true/\Ms.prB q.s=true/\tmB q.t=true/\tmB q.no=true:=by simpa [asB] using ha
       simpa [tmB,Ms.inB] using this.2.2.1
      have fR:=ew.1;have fQ:=ew.2;clear cu cj cL ew;have er:r=rr:=by rw[<-cg.o,if_neg hti,show ansL (its es) n q.c q.s ⟨q.c,d,[],now,min q.t (now+mxL)⟩ q.no (keyL (its es) q.c) 3=ansK n (keyL (its es) q.s) (BH (its es) q.s) q.s ⟨q.c,d,[],now,min q.t (now+mxL)⟩ q.no (keyL (its es) q.c) 3 from aZ,eL.o.1,ep.o.1,ep.o.2.1];exact err.symm
      subst er;clear hti err hd cf cy cx cr cq ht ha hc hn hi
      go_upto_region 12 with(first
       |(refine Mc.AN (by rfl) 40 #[(0,.tmp 75),(1,.tmp 76),(3,.tmp 77),(4,.tmp 82)] (by rfl) cw (by simp only[List.map_toArray,List.map_cons,List.map_nil];exact cA.o) ?_;clear cA)
       |(refine Wh.Au (by rfl) 36 (.tmp 7) (by rfl) (w.heap.size+1) 0 (by rfl) ct _ (Wh.Ae HD.o) Tryz.underlying36 (by rfl) eH.o ?_;clear eH)
       |(refine Wh.By (by rfl) 40 (.tmp 13) (.tmp 83) (by rfl) 40 rfl cw (by rfl) (by rfl) (by rw[eB.o];rfl) ey.o eP.o ?_;rintro V hV M;have HV:=I hV;clear Z N bx bz aw O;replace D:=I (D.o.below M);replace HD:=I (HD.o.below M);replace E:=I (E.o.below M);replace F:=I (F.o.below M);replace cb:=I (cb.o.below M);replace J:=I (J.o.below M);have Z:=D.c0;have N:=D.c1;have bx:=D.c2;have bz:=D.c3;have aw:=D.c4;have O:=D.c5;clear M hV eB eP;have ff:=F.c2;have fK:=cb.c0;have fJ:=cb.c1;have fv:=cb.c2;have fi:=cb.c3)
       |fail)
      go_wp2_with (first
       |(refine Wh.Au (by rfl) 40 (.tmp 13) (by rfl) w8.heap.size 0 (by rfl) cw _ (Wh.Ae HV.o) Tryz.underlying40 (by rfl) ey.o ?_;clear ey)
       |(go_at_call 32;refine Calls.mono (CA.o _ J.o.st) ?_;rintro e wa ⟨cR,fM,s9,rfl,ev,ek⟩;clear CA ff fK fJ fv fi Z N bx bz aw O;have hf:=Nr ev;have ez:=I hf.1;have fu:=I hf.2.1;have eJ:=I hf.2.2;have cB:=ek.blk E.o ck.o.no;have eF:=ek.off ck.o E.o.lt;have eS:=I E.o.lt;have fs:=I J.o.size;replace E:=I cB;replace ck:=I eF;replace J:=I (J.o.trans ek);have eR:=I ev;clear hf cB eF ev ek D HD F cb HV)
       |(refine Wh.Bo (by rfl) 44 (.tmp 8) (.tmp 92) (by rfl) (w.heap.size+1+1) 44 _ E.o cR (by rfl) (by rfl) (by rw[ez.o];rfl) eJ.o fu.o ?_;rintro V2 eK hg;replace E:=I eK;have HG:=I hg;clear eK hg ez)
       |fail)
      refine bodyPost_ret (v:=.tuple #[.agg cR,.int .i64 r.1]) ?_ ?_ ?_
      ·exact Ad (v:=.agg cR) 8 9 44 ⟨w.heap.size+1+1,0,none⟩ Tryz.results33 rfl (Wh.Al E.o Tryz.underlying44 (by rfl) eJ.o) rfl
      ·rfl
      ·exact⟨cR,fM,s9,rfl,eR.o.over fs.o eS.o HG.o,(J.o.over (by omega) ck.o HG.o).more (by omega)⟩
    ·skip
     have er:r=(6,Ms.re0):=by rw[<-cg.o];rw[if_neg (fun x=>hne x.1)]
     subst er;have q1:=Bd hne;clear hne;obtain⟨W7,bB⟩:=Ak (w6.alloc (.cells #[.string ⟨(q.s).1.toArray⟩,.string ⟨(q.s).2.toArray⟩,.pointer (some ⟨x2.b,0,none⟩),.int .i64 (x2.it.n:Int)] 99));have hn:Blk W7 w6.heap.size 99 #[.string ⟨(q.s).1.toArray⟩,.string ⟨(q.s).2.toArray⟩,.pointer (some ⟨x2.b,0,none⟩),.int .i64 (x2.it.n:Int)]:=bB▸Blk.new _ _ _;replace D:=I (show Blk W7 _ _ _ from bB▸D.o.alloc _);replace HD:=I (show Blk W7 _ _ _ from bB▸HD.o.alloc _);replace E:=I (show Blk W7 _ _ _ from bB▸E.o.alloc _);replace F:=I (show Blk W7 _ _ _ from bB▸F.o.alloc _);replace J:=I (show Kn w W7 B p es none es none n i c from bB▸J.o.alloc _);rw[<-bB];clear bB Z N bx bz aw O;obtain⟨eQ,cd⟩:=Ak (w6.heap.size);rw[<-cd] at hn⊢;have cb:=I hn;clear cd hn;replace D:=I (show Blk W7.drew _ _ _ from D.o.drewN 1);replace HD:=I (show Blk W7.drew _ _ _ from HD.o.drewN 1);replace E:=I (show Blk W7.drew _ _ _ from E.o.drewN 1);replace F:=I (show Blk W7.drew _ _ _ from F.o.drewN 1);replace cb:=I (show Blk W7.drew _ _ _ from cb.o.drewN 1);replace J:=I J.o.drew
     go_region_held3 (fun w'=>w'.cell? ⟨p.k,0,none⟩=some (.string ⟨p.R.toArray⟩)/\w'.cell? ⟨w.heap.size,2,none⟩=some (.string ⟨q.s.1.toArray⟩)/\w'.cell? ⟨w.heap.size,3,none⟩=some (.string ⟨q.s.2.toArray⟩)) (exact⟨J.o.st.k.blk.cell 0,D.o.cell 2,D.o.cell 3⟩) ((go_at_call 65;refine Aj (CK.o _ J.o.st.k) ?_;rintro w8 M;clear CK;replace D:=I (D.o.below M);replace HD:=I (HD.o.below M);replace E:=I (E.o.below M);replace F:=I (F.o.below M);replace cb:=I (cb.o.below M);replace J:=I (J.o.below M);clear M))
     clear q1;have ef:=E.o.cell 0;have eb:=E.o.cell 1;have ei:=E.o.cell 2;have ed:=E.o.cell 3;have ec:=E.o.cell 4;have ej:=E.o.cell 5;have eg:=E.o.cell 6;have fz:=E.o.frozen
     go_wp2_with (first
      |fail)
     refine bodyPost_ret (v:=.tuple #[.agg reZ,.int .i64 6]) ?_ ?_ ?_
     ·exact Ad (v:=.agg reZ) 8 9 44 ⟨w.heap.size+1+1,0,none⟩ Tryz.results33 rfl (Wh.Al (set7 E.o _ _ _ _ _ _ _) Tryz.underlying44 (by rfl) AM) rfl
     ·rfl
     ·exact Cm ((J.o.put7 (by omega) ck.o _ _ _ _ _ _ _).more (by omega)) (by decide)
  ·skip
   have er:r=(5,Ms.re0):=by rw[<-cg.o];rw[if_neg (fun x=>hr x.1)]
   subst er;have t1:(q.c.1==p.R)=false:=by simpa using hr
   clear hr;have Z:=D.c0;have N:=D.c1;have bx:=D.c2;have bz:=D.c3;have aw:=D.c4;have O:=D.c5;have cp:W4.cell? ⟨p.k,0,none⟩=some (.string ⟨p.R.toArray⟩):=J.o.st.k.blk.cell 0
   go_quiet (fail)
   obtain⟨W5,ca⟩:=Ak (W4.drewN nq);replace D:=I (show Blk W5 _ _ _ from ca▸D.o.drewN nq);replace HD:=I (show Blk W5 _ _ _ from ca▸HD.o.drewN nq);replace E:=I (show Blk W5 _ _ _ from ca▸E.o.drewN nq);replace F:=I (show Blk W5 _ _ _ from ca▸F.o.drewN nq);replace J:=I (show Kn w W5 B p es none es none n i c from ca▸J.o.below (below_drewN Ah nq));rw[<-ca];clear ca Z N bx bz aw O;clear cp;have ef:=E.o.cell 0;have eb:=E.o.cell 1;have ei:=E.o.cell 2;have ed:=E.o.cell 3;have ec:=E.o.cell 4;have ej:=E.o.cell 5;have eg:=E.o.cell 6;have fz:=E.o.frozen
   go_wp2_with (first
    |fail)
   refine bodyPost_ret (v:=.tuple #[.agg reZ,.int .i64 5]) ?_ ?_ ?_
   ·exact Ad (v:=.agg reZ) 8 9 44 ⟨w.heap.size+1+1,0,none⟩ Tryz.results33 rfl (Wh.Al (set7 E.o _ _ _ _ _ _ _) Tryz.underlying44 (by rfl) AM) rfl
   ·rfl
   ·exact Cm ((J.o.put7 (by omega) ck.o _ _ _ _ _ _ _).more (by omega)) (by decide)
theorem fe {q:As} {d:Nm.L} {now:Int} (h:KS w B p es none n i c) (O:c<800000) (M:n<800000) (hi:i<800000) (J:es.length<=1000) (F:p.R.length<=1000) (N:d.length=32) (E:pSm q.c) (D:pSm q.s) :
  Calls Tryz.prog 33 #[.pointer (some ⟨p.k,0,none⟩),.agg (asA q),.int .i64 now,.agg (keyA d)] w (AnsR w B p es none n i (c+4) (asL p.R (its es) n q now d)):=by
 cases ht:tmB now with
 |false=>unfold asL;rw[ht];exact as_1 h O M hi J F N E D ht
 |true=>
  cases ha:asB q with
  |false=>unfold asL;rw[ht,ha];exact as_2 h O M hi J F N E D ht ha
  |true=>exact bg h O M hi J F N E D ht ha rfl
end
end Kd
namespace Kd
open Go.RowKit Af Se
open Rg (It Ent Ring RO DRing DO Ap its)
open Ms (Re As Tg pSm reC)
theorem Bf {w V:World} {g:Nat} (D:w.grownBy V (some g)):Chg (fun j=>j=g) w V:=⟨D.os,D.tape,D.output,D.size,fun i hi E=>D.block i hi (fun e=>E (by injection e))⟩
section
variable {w0 w1 w w' V:World} {B:Nat} {p:KP} {es0 es es':List Ent} {s0 s:Option Ss} {n i c g PT:Nat} {cs:Array Value} {x:Re}
theorem Kn.grown (h:Kn w0 w B p es0 s0 es s n i c) (D:w.grownBy V (some g)) (F:w0.heap.size<=g) (hk:Off p es s g):Kn w0 V B p es0 s0 es s n i c:=
 ⟨h.st.chg (Bf D) (fun j E e=>hk j E e),h.eq,h.sq,h.chg.trans (Bf D) (fun j E x=>by omega),h.nw⟩
theorem Da {S:Nat->Prop} (h:ReN S w cs x):cs.size=7/\cs.all (·.oneCell')=true:=by
 obtain⟨b,a,rfl,⟨A1,c1,rfl,_⟩,⟨A2,c2,rfl,_⟩⟩:=h;exact⟨rfl,by simp [reC,Ms.prC,Ms.tkC,Value.oneCell']⟩
def VarS (w1:World) (p:KP) (es:List Ent) (PT:Nat) (j:Nat):Prop:=Out w1 p es none j\/j=PT
theorem IG {s:Option Ss} (h:ReN (Out w p es s) w' cs x) (E:w1.heap.size<=w.heap.size) (F:PT<w.heap.size):ReN (VarS w1 p es PT) w' cs x:=
 h.keep (Chg.refl (fun _=>False) w') (fun _ _ x=>x.elim) (fun j _ y=>by
  rcases y with(y | y | ⟨z,D,_⟩) | y
  ·exact .inl (by omega)
  ·exact .inr (.inl y)
  ·cases D
  ·exact .inl (by omega))
theorem Vd {s:Option Ss} (h:ReN (Out w p es s) w' cs x) (F:w1.heap.size<=w.heap.size) (J:w'.heap.size<=PT) (D:Below w'.heap.size w' V):ReN (VarS w1 p es PT) V cs x:=
 (h.keep (S':=VarS w1 p es PT) (Chg.refl (fun _=>False) w') (fun _ _ x=>x.elim) (fun j M y=>by
  rcases y with(y | y | ⟨z,E,_⟩) | y
  ·exact .inl (by omega)
  ·exact .inr (.inl y)
  ·cases E
  ·omega)).below D
theorem fg (h:ReN (VarS w1 p es PT) w cs x) (D:w.grownBy V (some PT)):ReN (VarS w1 p es PT) V cs x:=h.keep (Bf D) (fun j _ e=>.inr e) (fun _ _ x=>x)
structure Got (w1 w:World) (B:Nat) (p:KP) (es0 es:List Ent) (n i c PT:Nat) (cs:Array Value) (x:Re):Prop where
 kn:Kn w1 w B p es0 none es none n i c
 blk:Blk w PT 44 cs
 re:ReN (VarS w1 p es PT) w cs x
 off:Off p es none PT
 lo:w1.heap.size<=PT
theorem FI (hk:Kn w1 w B p es0 none es none n i c) (M:ReN (VarS w1 p es PT) w cs x) (D:Off p es none PT) (F:w1.heap.size<=PT) (J:Blk V PT 44 cs) (E:w.grownBy V (some PT)):Got w1 V B p es0 es n i c PT cs x:=
 ⟨hk.grown E F D,J,fg M E,D,F⟩
theorem YE {q:As} {d:Nm.L} {now:Int} {E D:Array Value} {l:List It} {R:Nm.L} {r:Int×Re} (eQ:E=asA q) (eD:D=keyA d) (eR:p.R=R) (el:its es=l) (er:asL R l n q now d=r) (h:KS w B p es none n i c) (hc:c<800000) (O:n<800000) (hi:i<800000) (M:l.length<=1000) (hR:R.length<=1000) (hd:d.length=32) (J:pSm q.c) (F:pSm q.s) :
  Calls Tryz.prog 33 #[.pointer (some ⟨p.k,0,none⟩),.agg E,.int .i64 now,.agg D] w fun e w'=>∃cs es',e=.returned (.tuple #[.agg cs,.int .i64 r.1])/\ReN (Out w p es' none) w' cs r.2/\Kn w w' B p es none es' none (n+2*cnt r.1) (i+cnt r.1) (c+4):=by
 subst eQ eD eR el er;refine(fe h hc O hi (by rw[Rg.Dh] at M;exact M) hR hd J F).mono ?_;rintro e w' ⟨cs,es',s',N,Z,h3⟩;exact⟨cs,es',N,Z.keep (Chg.refl (fun _=>False) w') (fun _ _ x=>x.elim) (fun j _ y=>y.imp id (fun y=>y.elim .inl (fun⟨z,hz,_⟩=>by cases hz))),h3.drop⟩
theorem bh {q:Tg} {bv av:Value} {d:Nm.L} {now:Int} {E D:Array Value} {l:List It} {R:Nm.L} {T:Rt.Tp} {r:Int×Re} (eQ:E=tgA q bv av) (eD:D=keyA d) (eR:p.R=R) (eT:p.T=T) (el:its es=l) (er:tgsL R T l n q now d=r) (h:KS w B p es none n i c) (hc:c<800000) (hn:n<800000) (hi:i<800000) (O:l.length<=1000) (hR:R.length<=1000) (hT:Rt.Sm T) (hd:d.length=32) (N:SlN (KSO p es none) w bv q.t.b) (F:SlN (KSO p es none) w av q.a) (M:pSm q.t.s) (J:pSm q.s) :
  Calls Tryz.prog 10 #[.pointer (some ⟨p.k,0,none⟩),.agg E,.int .i64 now,.agg D] w fun e w'=>∃cs es',e=.returned (.tuple #[.agg cs,.int .i64 r.1])/\ReN (Out w p es' none) w' cs r.2/\Kn w w' B p es none es' none (n+2*cnt r.1) (i+cnt r.1) (c+6):=by
 subst eQ eD eR eT el er;refine(bf h hc hn hi (by rw[Rg.Dh] at O;exact O) hR hT hd N F M J).mono ?_;rintro e w' ⟨cs,es',s',Z,h2,h3⟩;exact⟨cs,es',Z,h2.keep (Chg.refl (fun _=>False) w') (fun _ _ x=>x.elim) (fun j _ y=>y.imp id (fun y=>y.elim .inl (fun⟨z,hz,_⟩=>by cases hz))),h3.drop⟩
end
theorem LR (c s:Nm.L×Nm.L) (t no:Int):Tryz.prog.built 86 [(0,prV c),(1,prV s),(2,.int .i64 t),(3,.int .i64 no)]=some (asA ⟨c,s,t,no⟩):=by kernel_rfl
theorem Ve (c s:Nm.L×Nm.L) (t:Int):Tryz.prog.built 86 [(0,prV c),(1,prV s),(2,.int .i64 t)]=some (asA ⟨c,s,t,0⟩):=by kernel_rfl
def k1L:Nm.L:=1 :: List.replicate 31 0
theorem YF:k1L.length=32:=rfl
theorem XF:Tryz.prog.built 36 [(0,.int .u8 1)]=some (keyA k1L):=by kernel_rfl
theorem Vf (n:UInt8):AY (kq n)=keyA (kb n):=(Qa n).symm
end Kd
namespace Kd
open Go.RowKit Af Se
open Nm (krb strs)
open Rt (SlV SlP RdP kl)
abbrev z2:Array Value:=#[.string ⟨#[]⟩,.string ⟨#[]⟩]
theorem Mb (w:World):Calls Tryz.prog 9 #[] w fun e w'=>e=.returned (prV pAnn)/\Below w.heap.size w w':=by
 obtain⟨W,E⟩:=Ak (w.alloc (.cells z2 23));have D:=I (show Blk W w.heap.size 23 z2 from E▸Blk.new w _ _);have F:=I (show Below w.heap.size w W from E▸Ah.alloc Ag _);go_enter Tryz.func9,Tryz.ntmps9
 go_upto_region 1 with fail
 rw[<-E];clear E;have J:=D.o.cell 0;have M:=D.o.cell 1;have O:=D.o.frozen
 go_wp2
 have N:Blk _ w.heap.size 23 #[.string ⟨pAnn.1.toArray⟩,.string ⟨pAnn.2.toArray⟩]:=(D.o.set 0 (.string ⟨pAnn.1.toArray⟩)).set 1 (.string ⟨pAnn.2.toArray⟩);refine bodyPost_ret (v:=prV pAnn) ?_ ?_ ?_
 ·exact Wh.AD (v:=prV pAnn) 0 23 ⟨w.heap.size,0,none⟩ Tryz.results9 (by rfl) (Wh.Al N Tryz.underlying23 (by rfl) AO)
 ·rfl
 ·exact⟨rfl,Si.Az (Si.Az F.o (by simp) _) (by simp) _⟩
theorem Kf (w:World):Calls Tryz.prog 11 #[] w fun e w'=>e=.returned (prV Cy)/\Below w.heap.size w w':=by
 obtain⟨W,E⟩:=Ak (w.alloc (.cells z2 23));have D:=I (show Blk W w.heap.size 23 z2 from E▸Blk.new w _ _);have F:=I (show Below w.heap.size w W from E▸Ah.alloc Ag _);go_enter Tryz.func11,Tryz.ntmps11
 go_upto_region 1 with fail
 rw[<-E];clear E;have J:=D.o.cell 0;have M:=D.o.cell 1;have O:=D.o.frozen
 go_wp2
 have N:Blk _ w.heap.size 23 #[.string ⟨Cy.1.toArray⟩,.string ⟨Cy.2.toArray⟩]:=(D.o.set 0 (.string ⟨Cy.1.toArray⟩)).set 1 (.string ⟨Cy.2.toArray⟩);refine bodyPost_ret (v:=prV Cy) ?_ ?_ ?_
 ·exact Wh.AD (v:=prV Cy) 0 23 ⟨w.heap.size,0,none⟩ Tryz.results11 (by rfl) (Wh.Al N Tryz.underlying23 (by rfl) AO)
 ·rfl
 ·exact⟨rfl,Si.Az (Si.Az F.o (by simp) _) (by simp) _⟩
theorem OZ (a b:Nm.L) (M:b.length<=1000000) (w:World):Calls Tryz.prog 7 #[.string ⟨a.toArray⟩,.string ⟨b.toArray⟩] w fun e w'=>e=.returned (prV (kr a b))/\Below w.heap.size w w':=by
 have c1:=fun w1=>Nm.NF b w1 (by omega)
 have F:=I c1;obtain⟨W,E⟩:=Ak (w.alloc (.cells z2 23));have D:=I (show Blk W w.heap.size 23 z2 from E▸Blk.new w _ _);have J:=I (show Below w.heap.size w W from E▸Ah.alloc Ag _);clear M c1;go_enter Tryz.func7,Tryz.ntmps7
 go_upto_region 1 with fail
 rw[<-E];clear E;have N:=D.o.cell 0;have O:=D.o.cell 1;have fz:=D.o.frozen
 go_wp2_with (first
  |(go_at_call 24;refine Aj (F.o _) ?_;rintro w1 hw;clear F;subst hw)
  |fail)
 have Z:Blk _ w.heap.size 23 #[.string ⟨(kr a b).1.toArray⟩,.string ⟨(kr a b).2.toArray⟩]:=(D.o.set 0 (.string ⟨(kr a b).1.toArray⟩)).set 1 (.string ⟨(kr a b).2.toArray⟩);refine bodyPost_ret (v:=prV (kr a b)) ?_ ?_ ?_
 ·exact Wh.AD (v:=prV (kr a b)) 4 23 ⟨w.heap.size,0,none⟩ Tryz.results7 (by rfl) (Wh.Al Z Tryz.underlying23 (by rfl) AO)
 ·rfl
 ·exact⟨rfl,Si.Az (Si.Az J.o (by simp) _) (by simp) _⟩
theorem Vg (n:UInt8):Tryz.prog.built 36 [(0,.int .u8 (n.toNat:Int)),(1,.int .u8 7)]=some (AY (kq n)):=by kernel_rfl
theorem Vh (n:UInt8) (w:World):Calls Tryz.prog 8 #[.int .u8 (n.toNat:Int)] w fun e w'=>e=.returned (.agg (AY (kq n)))/\Below w.heap.size w w':=by
 have E:=I (Vg n);have hi:=Gm (kq n);obtain⟨cs,D⟩:=Ak (AY (kq n));have HS:=I (show cs.size=32 by rw[D];exact DB _);have HO:=I (show cs.all (·.oneCell')=true by rw[D,<-Qa];exact Hh (Br _));rw[<-D] at hi E⊢;have HI:=I hi;clear D hi;obtain⟨W,J⟩:=Ak (w.alloc (.cells #[.int .u8 0,.int .u8 0,.int .u8 0,.int .u8 0,.int .u8 0,.int .u8 0,.int .u8 0,.int .u8 0,.int .u8 0,.int .u8 0,.int .u8 0,.int .u8 0,.int .u8 0,.int .u8 0,.int .u8 0,.int .u8 0,.int .u8 0,.int .u8 0,.int .u8 0,.int .u8 0,.int .u8 0,.int .u8 0,.int .u8 0,.int .u8 0,.int .u8 0,.int .u8 0,.int .u8 0,.int .u8 0,.int .u8 0,.int .u8 0,.int .u8 0,.int .u8 0] 36));have Z:=I (show ∃z:Array Value,z.size=32/\Blk W w.heap.size 36 z from⟨_,by rfl,J▸Blk.new w _ _⟩);have O:=I (show Below w.heap.size w W from J▸Ah.alloc Ag _);go_enter Tryz.func8,Tryz.ntmps8
 go_upto_region 1 with fail
 rw[<-J];clear J;obtain⟨zz,N,F⟩:=Z.o;have M:=I F;clear Z F
 go_wp2_with (first
  |(refine Mc.AN (by rfl) 36 #[(0,.tmp 3),(1,.const (.int .u8 7))] (by rfl) cs (by simp only[List.map_toArray,List.map_cons,List.map_nil];exact E.o) ?_;clear E)
  |(refine Wh.Bo (by rfl) 36 (.tmp 2) (.tmp 4) (by rfl) w.heap.size 36 _ M.o cs (by rfl) (by rfl) (by rw[HS.o,N]) HI.o HO.o ?_;rintro V hV hg;have HV:=I hV;have HG:=I (O.o.grown hg O.o.size (fun k hk=>by injection hk with hk;omega));clear hV hg)
  |fail)
 refine bodyPost_ret (v:=.agg cs) ?_ ?_ ?_
 ·exact Wh.AD (v:=.agg cs) 2 36 ⟨w.heap.size,0,none⟩ Tryz.results8 (by rfl) (Wh.Al HV.o Tryz.underlying36 (by rfl) HI.o)
 ·rfl
 ·exact⟨rfl,HG.o⟩
end Kd
namespace Kd
open Go.RowKit Af Se
open Rg (It Ad)
open Ms (Re As Tg Pt An pSm reC ptO anO)
open SeL (Bn)
abbrev tgZ:Array Value:=#[.string ⟨#[]⟩,.string ⟨#[]⟩,.int .i64 0,.slice none 0 0,.slice none 0 0,.string ⟨#[]⟩,.string ⟨#[]⟩,.int .i64 0,.int .i64 0]
theorem bj (a:An):(Tryz.prog.info? 42).map (·.size)=some (anA a).size:=by
 show _=some 4
 kernel_rfl
theorem XG (s t:Nm.L×Nm.L) (A3 A4:Option Addr) (D c3 E c4:Nat) (u:Int):Tryz.prog.built 31 [(0,.agg #[.string ⟨s.1.toArray⟩,.string ⟨s.2.toArray⟩,.int .i64 1,.slice A3 D c3]),(1,.slice A4 E c4),(2,prV t),(3,.int .i64 u),(4,.int .i64 4)]=some #[.string ⟨s.1.toArray⟩,.string ⟨s.2.toArray⟩,.int .i64 1,.slice A3 D c3,.slice A4 E c4,.string ⟨t.1.toArray⟩,.string ⟨t.2.toArray⟩,.int .i64 u,.int .i64 4]:=by kernel_rfl
theorem Qn {ks:Nat->UInt8} {u N:Int} {p x:Nm.L} {cK:Array Value} {v:Value} {w:World} {S:Nat->Prop} (J:cK=AY ks) (ex:Bn ks u N p=(x,0)) (E:SlN S w v p) :
  Calls Tryz.prog 23 #[.agg cK,.int .i64 u,.int .i64 N,v] w fun e w'=>∃v2,e=.returned (.tuple #[v2,.int .i64 0])/\SlN (fun j=>j<w.heap.size) w' v2 x/\Below w.heap.size w w':=by
 subst J;obtain⟨A,c,rfl,O,F⟩:=E.sl;refine(dx ks u N A p.length c p w rfl F).mono ?_;rintro e w' ⟨v2,rfl,D,M⟩;rw[ex] at D⊢;exact⟨v2,rfl,D,M⟩
theorem fh (s t:Nm.L×Nm.L) {ks:Nat->UInt8} {p:Pt} {a:An} (u:Int) (w:World) (hk:p.ss.length=32) (cj:pSm p.c) (cq:p.tr.length<=1000000) (cd:pSm a.c) {cK E F:Array Value} (eK:cK=AY ks) (eP:E=ptA p) (eA:F=anA a) {b1 b2 x1 x2:Nm.L} (hp:ptO p=some b1) (ha:anO a=some b2) (h1:Bn ks 2 77 b1=(x1,0)) (h2:Bn (ksOf p.ss) 7 78 b2=(x2,0)) :
  Calls Tryz.prog 6 #[prV s,.agg cK,.agg E,.agg F,prV t,.int .i64 u] w fun e w'=>∃v1 v2,e=.returned (.tuple #[.agg #[.string ⟨s.1.toArray⟩,.string ⟨s.2.toArray⟩,.int .i64 1,v1,v2,.string ⟨t.1.toArray⟩,.string ⟨t.2.toArray⟩,.int .i64 u,.int .i64 4],.bool true])/\SlN (fun j=>j<w.heap.size) w' v1 x1/\SlN (fun j=>j<w.heap.size) w' v2 x2/\Below w.heap.size w w':=by
 obtain⟨W,eW⟩:=Ak (((((((w.alloc (.cells #[.string ⟨s.1.toArray⟩,.string ⟨s.2.toArray⟩] 23)).alloc (.cells cK 36)).alloc (.cells E 40)).alloc (.cells F 42)).alloc (.cells #[.string ⟨t.1.toArray⟩,.string ⟨t.2.toArray⟩] 23)).alloc (.cells tgZ 31)));have D:Below w.heap.size w W:=eW▸((((((Below.refl w.heap.size w).alloc (by first | exact Nat.le_refl _ | (simp;done) | (simp;omega)) _).alloc (by first | exact Nat.le_refl _ | (simp;done) | (simp;omega)) _).alloc (by first | exact Nat.le_refl _ | (simp;done) | (simp;omega)) _).alloc (by first | exact Nat.le_refl _ | (simp;done) | (simp;omega)) _).alloc (by first | exact Nat.le_refl _ | (simp;done) | (simp;omega)) _).alloc (by first | exact Nat.le_refl _ | (simp;done) | (simp;omega)) _;have O:=I (show Blk W (w.heap.size) 23 #[.string ⟨s.1.toArray⟩,.string ⟨s.2.toArray⟩] by have:=((((((Blk.new w 23 #[.string ⟨s.1.toArray⟩,.string ⟨s.2.toArray⟩]).alloc (.cells cK 36)).alloc (.cells E 40)).alloc (.cells F 42)).alloc (.cells #[.string ⟨t.1.toArray⟩,.string ⟨t.2.toArray⟩] 23)).alloc (.cells tgZ 31));(try simp only[World.size_alloc] at this);exact eW▸this);have HK:=I (show Blk W (w.heap.size+1) 36 cK by have:=(((((Blk.new (w.alloc (.cells #[.string ⟨s.1.toArray⟩,.string ⟨s.2.toArray⟩] 23)) 36 cK).alloc (.cells E 40)).alloc (.cells F 42)).alloc (.cells #[.string ⟨t.1.toArray⟩,.string ⟨t.2.toArray⟩] 23)).alloc (.cells tgZ 31));(try simp only[World.size_alloc] at this);exact eW▸this);have Z:=I (show Blk W (w.heap.size+1+1) 40 E by have:=((((Blk.new ((w.alloc (.cells #[.string ⟨s.1.toArray⟩,.string ⟨s.2.toArray⟩] 23)).alloc (.cells cK 36)) 40 E).alloc (.cells F 42)).alloc (.cells #[.string ⟨t.1.toArray⟩,.string ⟨t.2.toArray⟩] 23)).alloc (.cells tgZ 31));(try simp only[World.size_alloc] at this);exact eW▸this);have HA:=I (show Blk W (w.heap.size+1+1+1) 42 F by have:=(((Blk.new (((w.alloc (.cells #[.string ⟨s.1.toArray⟩,.string ⟨s.2.toArray⟩] 23)).alloc (.cells cK 36)).alloc (.cells E 40)) 42 F).alloc (.cells #[.string ⟨t.1.toArray⟩,.string ⟨t.2.toArray⟩] 23)).alloc (.cells tgZ 31));(try simp only[World.size_alloc] at this);exact eW▸this);have M:=I (show Blk W (w.heap.size+1+1+1+1) 23 #[.string ⟨t.1.toArray⟩,.string ⟨t.2.toArray⟩] by have:=((Blk.new ((((w.alloc (.cells #[.string ⟨s.1.toArray⟩,.string ⟨s.2.toArray⟩] 23)).alloc (.cells cK 36)).alloc (.cells E 40)).alloc (.cells F 42)) 23 #[.string ⟨t.1.toArray⟩,.string ⟨t.2.toArray⟩]).alloc (.cells tgZ 31));(try simp only[World.size_alloc] at this);exact eW▸this);have J:=I (show Blk W (w.heap.size+1+1+1+1+1) 31 tgZ by have:=(Blk.new (((((w.alloc (.cells #[.string ⟨s.1.toArray⟩,.string ⟨s.2.toArray⟩] 23)).alloc (.cells cK 36)).alloc (.cells E 40)).alloc (.cells F 42)).alloc (.cells #[.string ⟨t.1.toArray⟩,.string ⟨t.2.toArray⟩] 23)) 31 tgZ);(try simp only[World.size_alloc] at this);exact eW▸this);have N:=I D;clear D;have C1:=I (show ∀w1:World,Calls Tryz.prog 21 #[.agg E] w1 fun e w'=>∃v,e=.returned (.tuple #[v,.int .i64 0])/\SlN (fun j=>j<w1.heap.size) w' v b1/\Below w1.heap.size w1 w' from by intro w1;rw[eP];exact(Ms.Nd p w1 hk cj (by omega)).mono fun e w' h=>GB (hp▸h));have C2:=I (show ∀w1:World,Calls Tryz.prog 22 #[.agg F] w1 fun e w'=>∃v,e=.returned (.tuple #[v,.int .i64 0])/\SlN (fun j=>j<w1.heap.size) w' v b2/\Below w1.heap.size w1 w' from by intro w1;rw[eA];exact(Ms.LF a w1 cd).mono fun e w' h=>GB (ha▸h));have S1:=I (fun(w1:World) (v:Value) (S:Nat->Prop) (h:SlN S w1 v b1)=>Qn (cK:=cK) eK h1 h);have S2:=I (fun(w1:World) (v:Value) (S:Nat->Prop) (h:SlN S w1 v b2)=>Qn (cK:=keyA p.ss) (JX hk).symm h2 h);have cp:=I (show(Tryz.prog.info? 36).map (·.size)=some cK.size by rw[eK];exact Gm _);have cn:=I (show(Tryz.prog.info? 40).map (·.size)=some E.size by rw[eP];exact GA hk);have ct:=I (show(Tryz.prog.info? 42).map (·.size)=some F.size by rw[eA];exact bj a);have cf:=I (show(Tryz.prog.info? 36).map (·.size)=some (keyA p.ss).size from CZ hk)
 have cc:=I (fun(w1:World) (h:Blk w1 (w.heap.size+1+1) 40 E)=>KK hk (eP▸h));obtain⟨cQ,ck⟩:=Ak (keyA p.ss);rw[<-ck] at S2 cf cc;clear hk cj cq cd eK eP eA hp ha h1 h2 ck;go_enter Tryz.func6,Tryz.ntmps6
 go_upto_region 1 with fail
 rw[<-eW];clear eW
 go_upto_region 5 with(first
  |(refine Wh.Au (by rfl) 40 (.tmp 8) (by rfl) (w.heap.size+1+1) 0 (by rfl) E _ (Wh.Ae Z.o) Tryz.underlying40 (by rfl) cn.o ?_)
  |(go_at_call 21;refine Calls.mono (C1.o _) ?_;rintro e w1 ⟨v1,rfl,hs,D⟩;clear C1;replace O:=I (O.o.below D);replace HK:=I (HK.o.below D);replace Z:=I (Z.o.below D);replace HA:=I (HA.o.below D);replace M:=I (M.o.below D);replace J:=I (J.o.below D);replace N:=N.t D;have V1:=I hs;clear hs D)
  |(refine Wh.Au (by rfl) 42 (.tmp 9) (by rfl) (w.heap.size+1+1+1) 0 (by rfl) F _ (Wh.Ae HA.o) Tryz.underlying42 (by rfl) ct.o ?_)
  |(go_at_call 22;refine Calls.mono (C2.o _) ?_;rintro e w2 ⟨v2,rfl,hs,D⟩;clear C2;replace O:=I (O.o.below D);replace HK:=I (HK.o.below D);replace Z:=I (Z.o.below D);replace HA:=I (HA.o.below D);replace M:=I (M.o.below D);replace J:=I (J.o.below D);replace V1:=I (V1.o.below D);replace N:=N.t D;have V2:=I hs;clear hs D)
  |(refine Wh.Au (by rfl) 36 (.tmp 7) (by rfl) (w.heap.size+1) 0 (by rfl) cK _ (Wh.Ae HK.o) Tryz.underlying36 (by rfl) cp.o ?_)
  |(go_at_call 23;refine Calls.mono (S1.o _ _ _ V1.o) ?_;rintro e w3 ⟨v3,rfl,hs,D⟩;clear S1;have cb:=J.o.lt;have V3:=I (hs.mono (S':=fun j=>j<w.heap.size+6) (fun j _ x=>by omega));clear cb;replace O:=I (O.o.below D);replace HK:=I (HK.o.below D);replace Z:=I (Z.o.below D);replace HA:=I (HA.o.below D);replace M:=I (M.o.below D);replace J:=I (J.o.below D);replace V2:=I (V2.o.below D);replace N:=N.t D;clear hs D V1)
  |(refine Wh.Au (by rfl) 36 (.tmp 39) (by rfl) (w.heap.size+1+1) 2 (by rfl) cQ _ (cc.o _ Z.o) Tryz.underlying36 (by rfl) cf.o ?_)
  |(go_at_call 23;refine Calls.mono (S2.o _ _ _ V2.o) ?_;rintro e w4 ⟨v4,rfl,hs,D⟩;clear S2;have cb:=J.o.lt;have V4:=I (hs.mono (S':=fun j=>j<w.heap.size+6) (fun j _ x=>by omega));clear cb;replace O:=I (O.o.below D);replace HK:=I (HK.o.below D);replace Z:=I (Z.o.below D);replace HA:=I (HA.o.below D);replace M:=I (M.o.below D);replace J:=I (J.o.below D);replace V3:=I (V3.o.below D);replace N:=N.t D;clear hs D V2)
  |fail)
 have cx:=O.o.cell 0;have cw:=O.o.cell 1;have cB:=M.o.cell 0;have cu:=M.o.cell 1;obtain⟨A3,c3,e3,_⟩:=V3.o.sl;obtain⟨A4,c4,e4,_⟩:=V4.o.sl;subst e3 e4;obtain⟨n3,bB⟩:=Ak (x1.length);obtain⟨n4,ca⟩:=Ak (x2.length);rw[<-bB] at V3⊢;rw[<-ca] at V4⊢;have cm:=I bB;have cg:=I ca;clear bB ca;obtain⟨cR,aw⟩:∃z:Array Value,z=#[.string ⟨s.1.toArray⟩,.string ⟨s.2.toArray⟩,.int .i64 1,.slice A3 n3 c3,.slice A4 n4 c4,.string ⟨t.1.toArray⟩,.string ⟨t.2.toArray⟩,.int .i64 u,.int .i64 4]:=⟨_,rfl⟩;have bz:=I (XG s t A3 A4 n3 c3 n4 c4 u);rw[<-aw] at bz;have bx:=I (show cR.size=9/\cR.all (·.oneCell')=true by rw[aw];exact⟨rfl,by simp [Value.oneCell']⟩);have cr:=I aw;clear aw
 go_wp2_with (first
  |(refine Mc.AN (by rfl) 31 #[(0,.tmp 47),(1,.tmp 48),(2,.tmp 49),(3,.tmp 50),(4,.const (.int .i64 4))] (by rfl) cR (by simp only[List.map_toArray,List.map_cons,List.map_nil];exact bz.o) ?_;clear bz)
  |(refine Wh.Bo (by rfl) 31 (.tmp 12) (.tmp 51) (by rfl) _ 31 _ J.o cR (by rfl) (by rfl) (by rw[bx.o.1];rfl) (by rw[bx.o.1];exact Bh) bx.o.2 ?_;rintro V hV hg;have HV:=I hV;have HG:=I hg;clear hV hg)
  |fail)
 refine bodyPost_ret (v:=.tuple #[.agg cR,.bool true]) ?_ ?_ ?_
 ·exact Ad (v:=.agg cR) 12 13 31 ⟨w.heap.size+1+1+1+1+1,0,none⟩ Tryz.results6 rfl (Wh.Al HV.o Tryz.underlying31 (by rfl) (by rw[bx.o.1];exact Bh)) rfl
 ·rfl
 ·rw[cr.o]
  have cy:w.heap.size<=w.heap.size+1+1+1+1+1:=by omega
  rw[cm.o] at V3;rw[cg.o] at V4;refine⟨_,_,rfl,?_,?_,N.o.grown HG.o N.o.size (fun k hk=>by injection hk with hk;omega)⟩
  ·rw[cm.o];exact V3.o.keep (Bf HG.o) (fun j hj e=>by omega) (fun j hj x=>by omega)
  ·rw[cg.o];exact V4.o.keep (Bf HG.o) (fun j hj e=>by omega) (fun j hj x=>by omega)
end Kd
namespace Kd
open Go.RowKit Af Se
open Nm (krb strs)
open Rt (SlV SlP RdP kl)
theorem YG (w:World):Calls Tryz.prog 19 #[] w fun e w'=>∃v1 v2,e=.returned (.agg (tpA v1 v2))/\TpK (fun b=>w.heap.size<=b/\b<w'.heap.size) w' v1 v2 (.slice none 0 0) tT/\Below w.heap.size w w':=by
 obtain⟨W,O⟩:=Ak (w.alloc (.cells (tpA (.slice none 0 0) (.slice none 0 0)) 74));have E:=I (show Blk W w.heap.size 74 (tpA (.slice none 0 0) (.slice none 0 0)) from O▸Blk.new w _ _);have HB:=I (show Below w.heap.size w W from O▸Ah.alloc Ag _);have ca:=I (show W.heap.size=w.heap.size+1 by rw[O];simp);go_enter Tryz.func19,Tryz.ntmps19
 go_upto_region 1 with fail
 rw[<-O];clear O;have aw:=E.o.cell 0;have bx:=E.o.cell 1;have bz:=E.o.cell 2;have fz:=E.o.frozen;have lz:=E.o.lt;have bB:w.heap.size<W.heap.size+1:=by omega
 go_wp2
 obtain⟨X,F⟩:=Ak (((W.setCell ⟨w.heap.size,0,none⟩ (.slice (some ⟨W.heap.size,0,none⟩) 3 3)).setCell ⟨w.heap.size,1,none⟩ (.slice (some ⟨W.heap.size+1,0,none⟩) 4 4)).setCell ⟨w.heap.size,2,none⟩ (.slice none 0 0));have hx:Blk X w.heap.size 74 (tpA (.slice (some ⟨W.heap.size,0,none⟩) 3 3) (.slice (some ⟨W.heap.size+1,0,none⟩) 4 4)):=F▸((E.o.set 0 (.slice (some ⟨W.heap.size,0,none⟩) 3 3)).set 1 (.slice (some ⟨W.heap.size+1,0,none⟩) 4 4)).set 2 (.slice none 0 0);have M:X.heap.size=W.heap.size:=by rw[F];simp
 have N:Below w.heap.size w X:=F▸Si.Az (Si.Az (Si.Az HB.o (by simp) _) (by simp) _) (by simp) _;rw[<-F];clear F aw bx bz fz;obtain⟨V,J⟩:=Ak ((X.alloc (.cells #[.string ⟨#[65,46,69,68,85]⟩,.string ⟨#[69,68,85]⟩,.string ⟨#[66,46,69,68,85]⟩] 9)).alloc (.cells #[.string ⟨#[65,46,69,68,85]⟩,.string ⟨#[69,68,85]⟩,.string ⟨#[69,68,85]⟩,.string ⟨#[65,46,69,68,85]⟩,.string ⟨#[69,68,85]⟩,.string ⟨#[66,46,69,68,85]⟩,.string ⟨#[66,46,69,68,85]⟩,.string ⟨#[69,68,85]⟩] 128));have hb:Below X.heap.size X V:=J▸(Ah.alloc Ag _).alloc (by simp) _;have Z:Blk V W.heap.size 9 #[.string ⟨#[65,46,69,68,85]⟩,.string ⟨#[69,68,85]⟩,.string ⟨#[66,46,69,68,85]⟩]:=by rw[<-M];exact J▸(Blk.new X _ _).alloc _
 have D:Blk V (W.heap.size+1) 128 #[.string ⟨#[65,46,69,68,85]⟩,.string ⟨#[69,68,85]⟩,.string ⟨#[69,68,85]⟩,.string ⟨#[65,46,69,68,85]⟩,.string ⟨#[69,68,85]⟩,.string ⟨#[66,46,69,68,85]⟩,.string ⟨#[66,46,69,68,85]⟩,.string ⟨#[69,68,85]⟩]:=by have:=Blk.new (X.alloc (.cells #[.string ⟨#[65,46,69,68,85]⟩,.string ⟨#[69,68,85]⟩,.string ⟨#[66,46,69,68,85]⟩] 9)) 128 #[.string ⟨#[65,46,69,68,85]⟩,.string ⟨#[69,68,85]⟩,.string ⟨#[69,68,85]⟩,.string ⟨#[65,46,69,68,85]⟩,.string ⟨#[69,68,85]⟩,.string ⟨#[66,46,69,68,85]⟩,.string ⟨#[66,46,69,68,85]⟩,.string ⟨#[69,68,85]⟩];simp only[World.size_alloc] at this;rw[<-M];exact J▸this
 have hz:=hx.below hb;rw[<-J];clear J;refine bodyPost_ret (v:=.agg (tpA (.slice (some ⟨W.heap.size,0,none⟩) 3 3) (.slice (some ⟨W.heap.size+1,0,none⟩) 4 4))) ?_ ?_ ?_
 ·exact Wh.AD (v:=.agg (tpA (.slice (some ⟨W.heap.size,0,none⟩) 3 3) (.slice (some ⟨W.heap.size+1,0,none⟩) 4 4))) 0 74 ⟨w.heap.size,0,none⟩ Tryz.results19 (by rfl) (Wh.Al hz Tryz.underlying74 (by rfl) (by kernel_rfl))
 ·rfl
 ·have h1:=Z.lt
  have h2:=D.lt;refine⟨_,_,rfl,⟨⟨_,3,rfl,Nat.le_refl _,.inr ⟨_,0,rfl,⟨by omega,h1⟩,fun i u hu=>?_⟩⟩,⟨_,4,rfl,Nat.le_refl _,.inr ⟨_,0,rfl,⟨by omega,h2⟩,fun i hi=>?_⟩⟩,rfl,rfl⟩,N.trans (hb.mono N.size)⟩
  ·rw[Nat.zero_add,Z.cell]
   have e:(strs tT.R)[i]? = (strs tT.R).toArray[i]?:=by simp
   rw[e] at hu;exact hu
  ·have hi:i<4:=hi
   rw[Nat.zero_add]
   match i,hi with
   |0,_=>exact⟨D.cell 0,D.cell 1⟩
   |1,_=>exact⟨D.cell 2,D.cell 3⟩
   |2,_=>exact⟨D.cell 4,D.cell 5⟩
   |3,_=>exact⟨D.cell 6,D.cell 7⟩
theorem tT_kt:∀x∈tT.K,x.1.length<=3000/\x.2.length<=3000:=by decide
end Kd
namespace Kd
open Go.RowKit Af Se
open Rg (It Ent Ring RO its Ad)
section
variable {w:World} {B:Nat} {p:KP} {es:List Ent} {n i c:Nat}
theorem bk (h:KD w B p es n i) (hi:i<1000000000):Calls Tryz.prog 34 #[.pointer (some ⟨p.k,0,none⟩)] w fun e w'=>e=.returned (.int .i64 (i:Int))/\w=w':=by
 have D:w.cell? ⟨p.k,6,none⟩=some (.int .i64 (i:Int)):=h.blk.cell 6;have c1:=Se.Rk ⟨p.k,6,none⟩ i w D;clear h;go_enter Tryz.func34,Tryz.ntmps34
 go_wp2_with (first
  |(go_at_call 72;refine Aj c1 ?_;rintro w1 hw;clear c1;have hw:=hw.symm;subst hw)
  |fail)
 go_ret;exact⟨by go_num,rfl⟩
end
end Kd
end Go.Proofs.YthgignaohimadaaGreat
