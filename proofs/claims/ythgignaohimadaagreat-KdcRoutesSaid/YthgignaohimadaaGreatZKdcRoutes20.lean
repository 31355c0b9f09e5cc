import Derived.Test.YthgignaohimadaaGreatZKdcRoutes19
set_option maxHeartbeats 25600000
set_option maxRecDepth 100000
set_option linter.unusedVariables false
set_option linter.unusedSimpArgs false
namespace Go.Proofs.YthgignaohimadaaGreat
namespace Kd
open Go.RowKit Af Se
open Rg (It Ent Ring RO its Ad BA BH)
open Ms (Pt Re Tk Tg pSm ptC)
open Nm (krb strs)
open Rt (Tp Sm nxS nxB MD)
open Tr (insL)
theorem LY {T:Tp} {a b:Nm.L} (hs:Sm T) (E:a.length<=1000000) (D:b.length<=1000000):(nxS T a b).length<=1000000:=by
 unfold nxS;cases h:MD T a b with
 |none=>simp
 |some x=>
  unfold MD at h
  split at h
  ·cases h
  ·exact Rt.JF hs E D (List.mem_of_find?_eq_some h)
theorem Ke {l:List It} {q:Rg.Pr} (h:BA l q=none):hasL l q=false:=by unfold hasL;rw[h];rfl
theorem Nu {l:List It} {q:Rg.Pr} {j:Nat} (h:BA l q=some j):hasL l q=true:=by unfold hasL;rw[h];rfl
section
variable {w:World} {B:Nat} {p:KP} {es:List Ent} {s:Option Ss} {n i c:Nat}
theorem LZ (h:KD w B p es n i) (E:Sm p.T) {A1:Option Addr} {c1:Nat} (M:p.v1=.slice A1 p.T.R.length c1) (r:Nm.L) :
  Calls Tryz.prog 41 #[.slice A1 p.T.R.length c1,.string ⟨r.toArray⟩] w fun e w'=>e=.returned (.bool (decide (r∈p.T.R)))/\w=w':=by
 obtain⟨A,c,D,N,J⟩:=h.tp.r.slv (B:=w.heap.size) (fun b F=>by have:=F.2;have:=h.hi;omega);rw[M] at D;injection D with ea _ ec;subst ea ec;exact Tr.BP p.T.R A1 c1 w.heap.size r w (by have:=E.r;omega) J
theorem Ma (h:KD w B p es n i) (F:Sm p.T) {A1 A2:Option Addr} {c1 c2:Nat} (N:p.v1=.slice A1 p.T.R.length c1) (M:p.v2=.slice A2 p.T.K.length c2) (J:p.v3=.slice none 0 0) (r:Nm.L) (O:p.R.length<=1000) (Z:r.length<=1000) :
  Calls Tryz.prog 64 #[.agg #[.slice A1 p.T.R.length c1,.slice A2 p.T.K.length c2,.slice none 0 0],.string ⟨p.R.toArray⟩,.string ⟨r.toArray⟩] w fun e w'=>e=.returned (.tuple #[.string ⟨(nxS p.T p.R r).toArray⟩,.bool (nxB p.T p.R r)])/\Below w.heap.size w w':=by
 have D:=h.tp.tpv (B:=w.heap.size) (fun b E=>by have:=E.2;have:=h.hi;omega);rw[N,M,J] at D;exact Rt.WD p.T _ w.heap.size p.R r w F D Ag (by omega) (by omega)
theorem dX {q:Rg.Pr} (h:KD w B p es n i) (hl:es.length<=1000) (hR:p.R.length<=1000) (hq:q.1.length<=1000) (hT:Sm p.T) (hx:q.1=p.R) {j:Nat} {x:Ent} (hf:BA (its es) q=some j) (hj:es[j]? = some x) :
  Calls Tryz.prog 30 #[.pointer (some ⟨p.k,0,none⟩),prV q] w fun e w'=>e=.returned (.tuple #[.agg (hoA q (some ⟨x.b,0,none⟩) (x.it.n:Int)),.int .i64 0])/\Below w.heap.size w w':=by
 obtain⟨W,eW⟩:=Ak ((w.alloc (.cells #[.string ⟨q.1.toArray⟩,.string ⟨q.2.toArray⟩] 23)).alloc (.cells #[.string ⟨#[]⟩,.string ⟨#[]⟩,.pointer none,.int .i64 0] 99));have J:Below w.heap.size w W:=eW▸(Ah.alloc Ag _).alloc (by simp) _;have O:=I (show Blk W w.heap.size 23 #[.string ⟨q.1.toArray⟩,.string ⟨q.2.toArray⟩] from eW▸(Blk.new w _ _).alloc _);have D:=I (show Blk W (w.heap.size+1) 99 #[.string ⟨#[]⟩,.string ⟨#[]⟩,.pointer none,.int .i64 0] by have:=Blk.new (w.alloc (.cells #[.string ⟨q.1.toArray⟩,.string ⟨q.2.toArray⟩] 23)) 99 #[.string ⟨#[]⟩,.string ⟨#[]⟩,.pointer none,.int .i64 0];simp only[World.size_alloc] at this;exact eW▸this);have M:=I J;have HK:=I (h.below J);have cc:W.cell? ⟨p.k,0,none⟩=some (.string ⟨p.R.toArray⟩):=HK.o.blk.cell 0;have N:=O.c0;have t1:(q.1==p.R)=true:=by rw[hx];simp
 have CF:=I (fun(w1:World) (h1:KD w1 B p es n i)=>Jj h1 hl hf hj);clear hf hj hx;clear h hl hR hq hT J;go_enter Tryz.func30,Tryz.ntmps30
 go_upto_region 1 with fail
 rw[<-eW];clear eW
 go_quiet (fail)
 obtain⟨W1,E⟩:=Ak (W.drewN nq);replace O:=I (show Blk W1 _ _ _ from E▸O.o.drewN nq);replace D:=I (show Blk W1 _ _ _ from E▸D.o.drewN nq);replace M:=I (show Below w.heap.size w W1 from E▸below_drewN M.o nq);replace HK:=I (show KD W1 B p es n i from E▸HK.o.below (below_drewN Ah nq));rw[<-E];clear E cc N;have N:=O.c0;have cd:=O.c1
 go_upto_region 3 with(first
  |(go_at_call 63;refine Aj (CF.o _ HK.o) ?_;rintro w2 J;clear CF;(try clear N cd);replace O:=I (O.o.below J);replace D:=I (D.o.below J);replace M:=M.t J;replace HK:=I (HK.o.below J);have cb:=D.c0;have bB:=D.c1;have aw:=D.c2;have bz:=D.c3;have fz:=D.o.frozen;have ca:=D.o.lt;clear J)
  |fail)
 obtain⟨W5,F⟩:=Ak (w2.alloc (.cells #[.string ⟨(q).1.toArray⟩,.string ⟨(q).2.toArray⟩,.pointer (some ⟨x.b,0,none⟩),.int .i64 (x.it.n:Int)] 99));have Z:Blk W5 w2.heap.size 99 #[.string ⟨(q).1.toArray⟩,.string ⟨(q).2.toArray⟩,.pointer (some ⟨x.b,0,none⟩),.int .i64 (x.it.n:Int)]:=F▸Blk.new _ _ _;replace D:=I (show Blk W5 _ _ _ from F▸D.o.alloc _);replace M:=I (show Below w.heap.size w W5 from F▸M.o.alloc M.o.size _);rw[<-F];clear F cb bB aw bz fz ca;obtain⟨PN,bx⟩:=Ak (w2.heap.size);rw[<-bx] at Z⊢;clear bx;have cb:=D.c0;have bB:=D.c1;have aw:=D.c2;have bz:=D.c3;have fz:=D.o.frozen;have ca:=D.o.lt;have ck:=Z.c0;have cj:=Z.c1;have cf:=Z.c2;have cg:=Z.c3;clear Z
 go_wp2
 refine bodyPost_ret (v:=.tuple #[.agg #[.string ⟨(q).1.toArray⟩,.string ⟨(q).2.toArray⟩,.pointer (some ⟨x.b,0,none⟩),.int .i64 (x.it.n:Int)],.int .i64 0]) ?_ ?_ ?_
 ·exact Ad (v:=.agg #[.string ⟨(q).1.toArray⟩,.string ⟨(q).2.toArray⟩,.pointer (some ⟨x.b,0,none⟩),.int .i64 (x.it.n:Int)]) 4 5 99 ⟨w.heap.size+1,0,none⟩ Tryz.results30 rfl (Wh.Al (set4 D.o (.string ⟨(q).1.toArray⟩) (.string ⟨(q).2.toArray⟩) (.pointer (some ⟨x.b,0,none⟩)) (.int .i64 (x.it.n:Int))) Tryz.underlying99 (by rfl) FF) rfl
 ·rfl
 ·exact⟨rfl,IF M.o (by omega) _ _ _ _⟩
theorem dY {q:Rg.Pr} (h:KD w B p es n i) (hl:es.length<=1000) (hR:p.R.length<=1000) (hq:q.1.length<=1000) (hT:Sm p.T) (hx:q.1=p.R) (hf:BA (its es) q=none) :
  Calls Tryz.prog 30 #[.pointer (some ⟨p.k,0,none⟩),prV q] w fun e w'=>e=.returned (.tuple #[.agg (hoA ([],[]) none 0),.int .i64 6])/\Below w.heap.size w w':=by
 obtain⟨W,eW⟩:=Ak ((w.alloc (.cells #[.string ⟨q.1.toArray⟩,.string ⟨q.2.toArray⟩] 23)).alloc (.cells #[.string ⟨#[]⟩,.string ⟨#[]⟩,.pointer none,.int .i64 0] 99));have J:Below w.heap.size w W:=eW▸(Ah.alloc Ag _).alloc (by simp) _;have O:=I (show Blk W w.heap.size 23 #[.string ⟨q.1.toArray⟩,.string ⟨q.2.toArray⟩] from eW▸(Blk.new w _ _).alloc _);have D:=I (show Blk W (w.heap.size+1) 99 #[.string ⟨#[]⟩,.string ⟨#[]⟩,.pointer none,.int .i64 0] by have:=Blk.new (w.alloc (.cells #[.string ⟨q.1.toArray⟩,.string ⟨q.2.toArray⟩] 23)) 99 #[.string ⟨#[]⟩,.string ⟨#[]⟩,.pointer none,.int .i64 0];simp only[World.size_alloc] at this;exact eW▸this);have M:=I J;have Z:=I (h.below J);have cc:W.cell? ⟨p.k,0,none⟩=some (.string ⟨p.R.toArray⟩):=Z.o.blk.cell 0;have N:=O.c0;have t1:(q.1==p.R)=true:=by rw[hx];simp
 have CF:=I (fun(w1:World) (h1:KD w1 B p es n i)=>Hk h1 hl hf);clear hf hx;clear h hl hR hq hT J;go_enter Tryz.func30,Tryz.ntmps30
 go_upto_region 1 with fail
 rw[<-eW];clear eW
 go_quiet (fail)
 obtain⟨W1,E⟩:=Ak (W.drewN nq);replace O:=I (show Blk W1 _ _ _ from E▸O.o.drewN nq);replace D:=I (show Blk W1 _ _ _ from E▸D.o.drewN nq);replace M:=I (show Below w.heap.size w W1 from E▸below_drewN M.o nq);replace Z:=I (show KD W1 B p es n i from E▸Z.o.below (below_drewN Ah nq));rw[<-E];clear E cc N;have N:=O.c0;have cd:=O.c1
 go_upto_region 3 with(first
  |(go_at_call 63;refine Aj (CF.o _ Z.o) ?_;rintro w2 J;clear CF;(try clear N cd);replace O:=I (O.o.below J);replace D:=I (D.o.below J);replace M:=M.t J;replace Z:=I (Z.o.below J);have cb:=D.c0;have bB:=D.c1;have aw:=D.c2;have bz:=D.c3;have fz:=D.o.frozen;have ca:=D.o.lt;clear J)
  |fail)
 obtain⟨W5,F⟩:=Ak (w2.alloc (.cells #[.string ⟨#[]⟩,.string ⟨#[]⟩,.pointer none,.int .i64 0] 99));have hn:Blk W5 w2.heap.size 99 #[.string ⟨#[]⟩,.string ⟨#[]⟩,.pointer none,.int .i64 0]:=F▸Blk.new _ _ _;replace D:=I (show Blk W5 _ _ _ from F▸D.o.alloc _);replace M:=I (show Below w.heap.size w W5 from F▸M.o.alloc M.o.size _);rw[<-F];clear F cb bB aw bz fz ca;obtain⟨PN,bx⟩:=Ak (w2.heap.size);rw[<-bx] at hn⊢;clear bx;have cb:=D.c0;have bB:=D.c1;have aw:=D.c2;have bz:=D.c3;have fz:=D.o.frozen;have ca:=D.o.lt;clear hn
 go_wp2
 refine bodyPost_ret (v:=.tuple #[.agg #[.string ⟨#[]⟩,.string ⟨#[]⟩,.pointer none,.int .i64 0],.int .i64 6]) ?_ ?_ ?_
 ·exact Ad (v:=.agg #[.string ⟨#[]⟩,.string ⟨#[]⟩,.pointer none,.int .i64 0]) 4 5 99 ⟨w.heap.size+1,0,none⟩ Tryz.results30 rfl (Wh.Al (set4 D.o (.string ⟨#[]⟩) (.string ⟨#[]⟩) (.pointer none) (.int .i64 0)) Tryz.underlying99 (by rfl) FF) rfl
 ·rfl
 ·exact⟨rfl,IF M.o (by omega) _ _ _ _⟩
theorem dZ {q:Rg.Pr} (h:KD w B p es n i) (hl:es.length<=1000) (hR:p.R.length<=1000) (hq:q.1.length<=1000) (hT:Sm p.T) (hx:q.1≠p.R) (hm:q.1∉p.T.R) :
  Calls Tryz.prog 30 #[.pointer (some ⟨p.k,0,none⟩),prV q] w fun e w'=>e=.returned (.tuple #[.agg (hoA ([],[]) none 0),.int .i64 10])/\Below w.heap.size w w':=by
 obtain⟨W,eW⟩:=Ak ((w.alloc (.cells #[.string ⟨q.1.toArray⟩,.string ⟨q.2.toArray⟩] 23)).alloc (.cells #[.string ⟨#[]⟩,.string ⟨#[]⟩,.pointer none,.int .i64 0] 99));have hb:Below w.heap.size w W:=eW▸(Ah.alloc Ag _).alloc (by simp) _;have HQ:=I (show Blk W w.heap.size 23 #[.string ⟨q.1.toArray⟩,.string ⟨q.2.toArray⟩] from eW▸(Blk.new w _ _).alloc _);have F:=I (show Blk W (w.heap.size+1) 99 #[.string ⟨#[]⟩,.string ⟨#[]⟩,.pointer none,.int .i64 0] by have:=Blk.new (w.alloc (.cells #[.string ⟨q.1.toArray⟩,.string ⟨q.2.toArray⟩] 23)) 99 #[.string ⟨#[]⟩,.string ⟨#[]⟩,.pointer none,.int .i64 0];simp only[World.size_alloc] at this;exact eW▸this);have HB:=I hb;have O:=I (h.below hb);have bB:W.cell? ⟨p.k,0,none⟩=some (.string ⟨p.R.toArray⟩):=O.o.blk.cell 0;have N:=HQ.c0;have t1:(q.1==p.R)=false:=by simpa using hx
 obtain⟨A1,c1,A2,c2,J,M,Z⟩:=h.tp.sizes;have CC:=I (fun(w1:World) (h1:KD w1 B p es n i)=>LZ h1 hT J q.1);have CN:=I (fun(w1:World) (h1:KD w1 B p es n i)=>Ma h1 hT J M Z q.1 hR hq);obtain⟨N1,bx⟩:=Ak (p.T.R.length);obtain⟨N2,aw⟩:=Ak (p.T.K.length);rw[<-bx] at J CC CN;rw[<-aw] at M CN;have bz:=I J;have cd:=I M;have cb:=I Z;clear J M Z bx aw;rw[decide_eq_false hm] at CC;clear hx hm CN;clear h hl hR hq hT hb;go_enter Tryz.func30,Tryz.ntmps30
 go_upto_region 1 with fail
 rw[<-eW];clear eW
 go_quiet (fail)
 obtain⟨W1,E⟩:=Ak (W.drewN nq);replace HQ:=I (show Blk W1 _ _ _ from E▸HQ.o.drewN nq);replace F:=I (show Blk W1 _ _ _ from E▸F.o.drewN nq);replace HB:=I (show Below w.heap.size w W1 from E▸below_drewN HB.o nq);replace O:=I (show KD W1 B p es n i from E▸O.o.below (below_drewN Ah nq));rw[<-E];clear E bB N
 go_upto_region 6 with fail
 have ca:W1.cell? ⟨p.k,1,none⟩=some (.slice A1 N1 c1):=bz.o▸O.o.blk.cell 1;have N:=HQ.c0
 go_quiet ((go_at_call 41;exact Calls.quiet_of_same ((CC.o _ (O.o.below (below_drewN Ah _))).mono (fun _ _ h=>⟨h.1,h.2.symm⟩))))
 obtain⟨W2,D⟩:=Ak (W1.drewN nq);replace HQ:=I (show Blk W2 _ _ _ from D▸HQ.o.drewN nq);replace F:=I (show Blk W2 _ _ _ from D▸F.o.drewN nq);replace HB:=I (show Below w.heap.size w W2 from D▸below_drewN HB.o nq);replace O:=I (show KD W2 B p es n i from D▸O.o.below (below_drewN Ah nq));rw[<-D];clear D ca N CC;have ck:=F.c0;have cg:=F.c1;have cc:=F.c2;have cf:=F.c3;have fz:=F.o.frozen;have cj:=F.o.lt
 go_wp2_with (first
  |fail)
 refine bodyPost_ret (v:=.tuple #[.agg #[.string ⟨#[]⟩,.string ⟨#[]⟩,.pointer none,.int .i64 0],.int .i64 10]) ?_ ?_ ?_
 ·exact Ad (v:=.agg #[.string ⟨#[]⟩,.string ⟨#[]⟩,.pointer none,.int .i64 0]) 4 5 99 ⟨w.heap.size+1,0,none⟩ Tryz.results30 rfl (Wh.Al (set4 F.o (.string ⟨#[]⟩) (.string ⟨#[]⟩) (.pointer none) (.int .i64 0)) Tryz.underlying99 (by rfl) FF) rfl
 ·rfl
 ·exact⟨rfl,IF HB.o (by omega) _ _ _ _⟩
theorem ee {q:Rg.Pr} (h:KD w B p es n i) (hl:es.length<=1000) (hR:p.R.length<=1000) (hq:q.1.length<=1000) (hT:Sm p.T) (hx:q.1≠p.R) (hm:q.1∈p.T.R) (hn:nxB p.T p.R q.1=false) :
  Calls Tryz.prog 30 #[.pointer (some ⟨p.k,0,none⟩),prV q] w fun e w'=>e=.returned (.tuple #[.agg (hoA ([],[]) none 0),.int .i64 10])/\Below w.heap.size w w':=by
 obtain⟨W,eW⟩:=Ak ((w.alloc (.cells #[.string ⟨q.1.toArray⟩,.string ⟨q.2.toArray⟩] 23)).alloc (.cells #[.string ⟨#[]⟩,.string ⟨#[]⟩,.pointer none,.int .i64 0] 99));have Z:Below w.heap.size w W:=eW▸(Ah.alloc Ag _).alloc (by simp) _;have N:=I (show Blk W w.heap.size 23 #[.string ⟨q.1.toArray⟩,.string ⟨q.2.toArray⟩] from eW▸(Blk.new w _ _).alloc _);have E:=I (show Blk W (w.heap.size+1) 99 #[.string ⟨#[]⟩,.string ⟨#[]⟩,.pointer none,.int .i64 0] by have:=Blk.new (w.alloc (.cells #[.string ⟨q.1.toArray⟩,.string ⟨q.2.toArray⟩] 23)) 99 #[.string ⟨#[]⟩,.string ⟨#[]⟩,.pointer none,.int .i64 0];simp only[World.size_alloc] at this;exact eW▸this);have O:=I Z;have D:=I (h.below Z);have cd:W.cell? ⟨p.k,0,none⟩=some (.string ⟨p.R.toArray⟩):=D.o.blk.cell 0;have bx:=N.c0;have t1:(q.1==p.R)=false:=by simpa using hx
 obtain⟨A1,c1,A2,c2,M,aw,bz⟩:=h.tp.sizes;have CC:=I (fun(w1:World) (h1:KD w1 B p es n i)=>LZ h1 hT M q.1);have CN:=I (fun(w1:World) (h1:KD w1 B p es n i)=>Ma h1 hT M aw bz q.1 hR hq);obtain⟨N1,cb⟩:=Ak (p.T.R.length);obtain⟨N2,ca⟩:=Ak (p.T.K.length);rw[<-cb] at M CC CN;rw[<-ca] at aw CN;have bB:=I M;have cf:=I aw;have cc:=I bz;clear M aw bz cb ca;rw[decide_eq_true hm] at CC;rw[hn] at CN;clear hx hm hn;clear h hl hR hq hT Z;go_enter Tryz.func30,Tryz.ntmps30
 go_upto_region 1 with fail
 rw[<-eW];clear eW
 go_quiet (fail)
 obtain⟨W1,J⟩:=Ak (W.drewN nq);replace N:=I (show Blk W1 _ _ _ from J▸N.o.drewN nq);replace E:=I (show Blk W1 _ _ _ from J▸E.o.drewN nq);replace O:=I (show Below w.heap.size w W1 from J▸below_drewN O.o nq);replace D:=I (show KD W1 B p es n i from J▸D.o.below (below_drewN Ah nq));rw[<-J];clear J cd bx
 go_upto_region 6 with fail
 have cg:W1.cell? ⟨p.k,1,none⟩=some (.slice A1 N1 c1):=bB.o▸D.o.blk.cell 1;have bx:=N.c0
 go_quiet ((go_at_call 41;exact Calls.quiet_of_same ((CC.o _ (D.o.below (below_drewN Ah _))).mono (fun _ _ h=>⟨h.1,h.2.symm⟩))))
 obtain⟨W2,F⟩:=Ak (W1.drewN nq);replace N:=I (show Blk W2 _ _ _ from F▸N.o.drewN nq);replace E:=I (show Blk W2 _ _ _ from F▸E.o.drewN nq);replace O:=I (show Below w.heap.size w W2 from F▸below_drewN O.o nq);replace D:=I (show KD W2 B p es n i from F▸D.o.below (below_drewN Ah nq));rw[<-F];clear F cg bx CC
 go_upto_region 8 with fail
 replace N:=I (show Blk W2.drew _ _ _ from N.o.drewN 1);replace E:=I (show Blk W2.drew _ _ _ from E.o.drewN 1);replace O:=I (show Below w.heap.size w W2.drew from below_drewN O.o 1);replace D:=I D.o.drew
 go_region_held3 (fun w'=>w'.cell? ⟨p.k,0,none⟩=some (.string ⟨p.R.toArray⟩)/\w'.cell? ⟨p.k,1,none⟩=some (.slice A1 N1 c1)/\w'.cell? ⟨p.k,2,none⟩=some (.slice A2 N2 c2)/\w'.cell? ⟨p.k,3,none⟩=some (.slice none 0 0)/\w'.cell? ⟨w.heap.size,0,none⟩=some (.string ⟨q.1.toArray⟩)) (exact⟨D.o.blk.cell 0,bB.o▸D.o.blk.cell 1,cf.o▸D.o.blk.cell 2,cc.o▸D.o.blk.cell 3,N.o.cell 0⟩) ((go_at_call 64;refine Aj (CN.o _ D.o) ?_;rintro w3 Z;clear CN;replace N:=I (N.o.below Z);replace E:=I (E.o.below Z);replace O:=O.t Z;replace D:=I (D.o.below Z);clear Z))
 have cp:=E.c0;have cm:=E.c1;have cj:=E.c2;have ck:=E.c3;have fz:=E.o.frozen;have cn:=E.o.lt
 go_wp2_with (first
  |fail)
 refine bodyPost_ret (v:=.tuple #[.agg #[.string ⟨#[]⟩,.string ⟨#[]⟩,.pointer none,.int .i64 0],.int .i64 10]) ?_ ?_ ?_
 ·exact Ad (v:=.agg #[.string ⟨#[]⟩,.string ⟨#[]⟩,.pointer none,.int .i64 0]) 4 5 99 ⟨w.heap.size+1,0,none⟩ Tryz.results30 rfl (Wh.Al (set4 E.o (.string ⟨#[]⟩) (.string ⟨#[]⟩) (.pointer none) (.int .i64 0)) Tryz.underlying99 (by rfl) FF) rfl
 ·rfl
 ·exact⟨rfl,IF O.o (by omega) _ _ _ _⟩
theorem eh {q:Rg.Pr} (h:KD w B p es n i) (hl:es.length<=1000) (hR:p.R.length<=1000) (hq:q.1.length<=1000) (hT:Sm p.T) (hx:q.1≠p.R) (hm:q.1∈p.T.R) (hn:nxB p.T p.R q.1=true) (hf:BA (its es) (kr p.R (nxS p.T p.R q.1))=none) :
  Calls Tryz.prog 30 #[.pointer (some ⟨p.k,0,none⟩),prV q] w fun e w'=>e=.returned (.tuple #[.agg (hoA ([],[]) none 0),.int .i64 10])/\Below w.heap.size w w':=by
 obtain⟨W,eW⟩:=Ak ((w.alloc (.cells #[.string ⟨q.1.toArray⟩,.string ⟨q.2.toArray⟩] 23)).alloc (.cells #[.string ⟨#[]⟩,.string ⟨#[]⟩,.pointer none,.int .i64 0] 99));have F:Below w.heap.size w W:=eW▸(Ah.alloc Ag _).alloc (by simp) _;have M:=I (show Blk W w.heap.size 23 #[.string ⟨q.1.toArray⟩,.string ⟨q.2.toArray⟩] from eW▸(Blk.new w _ _).alloc _);have D:=I (show Blk W (w.heap.size+1) 99 #[.string ⟨#[]⟩,.string ⟨#[]⟩,.pointer none,.int .i64 0] by have:=Blk.new (w.alloc (.cells #[.string ⟨q.1.toArray⟩,.string ⟨q.2.toArray⟩] 23)) 99 #[.string ⟨#[]⟩,.string ⟨#[]⟩,.pointer none,.int .i64 0];simp only[World.size_alloc] at this;exact eW▸this);have J:=I F;have E:=I (h.below F);have cr:W.cell? ⟨p.k,0,none⟩=some (.string ⟨p.R.toArray⟩):=E.o.blk.cell 0;have bx:=M.c0;have t1:(q.1==p.R)=false:=by simpa using hx
 obtain⟨A1,c1,A2,c2,aw,bz,ca⟩:=h.tp.sizes;have CC:=I (fun(w1:World) (h1:KD w1 B p es n i)=>LZ h1 hT aw q.1);have CN:=I (fun(w1:World) (h1:KD w1 B p es n i)=>Ma h1 hT aw bz ca q.1 hR hq);obtain⟨N1,cd⟩:=Ak (p.T.R.length);obtain⟨N2,cp⟩:=Ak (p.T.K.length);rw[<-cd] at aw CC CN;rw[<-cp] at bz CN;have cg:=I aw;have ct:=I bz;have cq:=I ca;clear aw bz ca cd cp;have bB:=LY hT (a:=p.R) (b:=q.1) (by omega) (by omega);obtain⟨nx,cb⟩:=Ak (nxS p.T p.R q.1);rw[<-cb] at CN bB;have CK:=I (fun(w1:World) (h1:KD w1 B p es n i)=>LP h1 bB);rw[<-cb] at hf;rw[decide_eq_true hm] at CC;rw[hn] at CN;have CF:=I (fun(w1:World) (h1:KD w1 B p es n i)=>Hk h1 hl hf);clear hx hm hn hf bB cb;clear h hl hR hq hT F;go_enter Tryz.func30,Tryz.ntmps30
 go_upto_region 1 with fail
 rw[<-eW];clear eW
 go_quiet (fail)
 obtain⟨W1,O⟩:=Ak (W.drewN nq);replace M:=I (show Blk W1 _ _ _ from O▸M.o.drewN nq);replace D:=I (show Blk W1 _ _ _ from O▸D.o.drewN nq);replace J:=I (show Below w.heap.size w W1 from O▸below_drewN J.o nq);replace E:=I (show KD W1 B p es n i from O▸E.o.below (below_drewN Ah nq));rw[<-O];clear O cr bx
 go_upto_region 6 with fail
 have cu:W1.cell? ⟨p.k,1,none⟩=some (.slice A1 N1 c1):=cg.o▸E.o.blk.cell 1;have bx:=M.c0
 go_quiet ((go_at_call 41;exact Calls.quiet_of_same ((CC.o _ (E.o.below (below_drewN Ah _))).mono (fun _ _ h=>⟨h.1,h.2.symm⟩))))
 obtain⟨W2,N⟩:=Ak (W1.drewN nq);replace M:=I (show Blk W2 _ _ _ from N▸M.o.drewN nq);replace D:=I (show Blk W2 _ _ _ from N▸D.o.drewN nq);replace J:=I (show Below w.heap.size w W2 from N▸below_drewN J.o nq);replace E:=I (show KD W2 B p es n i from N▸E.o.below (below_drewN Ah nq));rw[<-N];clear N cu bx CC
 go_upto_region 8 with fail
 replace M:=I (show Blk W2.drew _ _ _ from M.o.drewN 1);replace D:=I (show Blk W2.drew _ _ _ from D.o.drewN 1);replace J:=I (show Below w.heap.size w W2.drew from below_drewN J.o 1);replace E:=I E.o.drew
 go_region_held3 (fun w'=>w'.cell? ⟨p.k,0,none⟩=some (.string ⟨p.R.toArray⟩)/\w'.cell? ⟨p.k,1,none⟩=some (.slice A1 N1 c1)/\w'.cell? ⟨p.k,2,none⟩=some (.slice A2 N2 c2)/\w'.cell? ⟨p.k,3,none⟩=some (.slice none 0 0)/\w'.cell? ⟨w.heap.size,0,none⟩=some (.string ⟨q.1.toArray⟩)) (exact⟨E.o.blk.cell 0,cg.o▸E.o.blk.cell 1,ct.o▸E.o.blk.cell 2,cq.o▸E.o.blk.cell 3,M.o.cell 0⟩) ((go_at_call 64;refine Aj (CN.o _ E.o) ?_;rintro w3 F;clear CN;replace M:=I (M.o.below F);replace D:=I (D.o.below F);replace J:=J.t F;replace E:=I (E.o.below F);clear F))
 go_upto_region 12 with(first
  |(go_at_call 65;refine Aj (CK.o _ E.o) ?_;rintro w4 F;clear CK;replace M:=I (M.o.below F);replace D:=I (D.o.below F);replace J:=J.t F;replace E:=I (E.o.below F);clear F)
  |(go_at_call 63;refine Aj (CF.o _ E.o) ?_;rintro w5 F;clear CF;(try clear bx kq1);replace M:=I (M.o.below F);replace D:=I (D.o.below F);replace J:=J.t F;replace E:=I (E.o.below F);have cf:=D.c0;have cc:=D.c1;have cj:=D.c2;have cm:=D.c3;have fz:=D.o.frozen;have cn:=D.o.lt;clear F)
  |fail)
 obtain⟨W5,Z⟩:=Ak (w5.alloc (.cells #[.string ⟨#[]⟩,.string ⟨#[]⟩,.pointer none,.int .i64 0] 99));have hn:Blk W5 w5.heap.size 99 #[.string ⟨#[]⟩,.string ⟨#[]⟩,.pointer none,.int .i64 0]:=Z▸Blk.new _ _ _;replace D:=I (show Blk W5 _ _ _ from Z▸D.o.alloc _);replace J:=I (show Below w.heap.size w W5 from Z▸J.o.alloc J.o.size _);rw[<-Z];clear Z cf cc cj cm fz cn;obtain⟨PN,ck⟩:=Ak (w5.heap.size);rw[<-ck] at hn⊢;clear ck;have cf:=D.c0;have cc:=D.c1;have cj:=D.c2;have cm:=D.c3;have fz:=D.o.frozen;have cn:=D.o.lt;clear hn
 go_wp2
 refine bodyPost_ret (v:=.tuple #[.agg #[.string ⟨#[]⟩,.string ⟨#[]⟩,.pointer none,.int .i64 0],.int .i64 10]) ?_ ?_ ?_
 ·exact Ad (v:=.agg #[.string ⟨#[]⟩,.string ⟨#[]⟩,.pointer none,.int .i64 0]) 4 5 99 ⟨w.heap.size+1,0,none⟩ Tryz.results30 rfl (Wh.Al (set4 D.o (.string ⟨#[]⟩) (.string ⟨#[]⟩) (.pointer none) (.int .i64 0)) Tryz.underlying99 (by rfl) FF) rfl
 ·rfl
 ·exact⟨rfl,IF J.o (by omega) _ _ _ _⟩
theorem eE {q:Rg.Pr} (h:KD w B p es n i) (hl:es.length<=1000) (hR:p.R.length<=1000) (hq:q.1.length<=1000) (hT:Sm p.T) (hx:q.1≠p.R) (hm:q.1∈p.T.R) (hn:nxB p.T p.R q.1=true) {tg:Rg.Pr} (cb:tg=kr p.R (nxS p.T p.R q.1)) {j:Nat} {x:Ent} (hf:BA (its es) tg=some j) (hj:es[j]? = some x) :
  Calls Tryz.prog 30 #[.pointer (some ⟨p.k,0,none⟩),prV q] w fun e w'=>e=.returned (.tuple #[.agg (hoA tg (some ⟨x.b,0,none⟩) (x.it.n:Int)),.int .i64 0])/\Below w.heap.size w w':=by
 obtain⟨W,eW⟩:=Ak ((w.alloc (.cells #[.string ⟨q.1.toArray⟩,.string ⟨q.2.toArray⟩] 23)).alloc (.cells #[.string ⟨#[]⟩,.string ⟨#[]⟩,.pointer none,.int .i64 0] 99));have F:Below w.heap.size w W:=eW▸(Ah.alloc Ag _).alloc (by simp) _;have M:=I (show Blk W w.heap.size 23 #[.string ⟨q.1.toArray⟩,.string ⟨q.2.toArray⟩] from eW▸(Blk.new w _ _).alloc _);have D:=I (show Blk W (w.heap.size+1) 99 #[.string ⟨#[]⟩,.string ⟨#[]⟩,.pointer none,.int .i64 0] by have:=Blk.new (w.alloc (.cells #[.string ⟨q.1.toArray⟩,.string ⟨q.2.toArray⟩] 23)) 99 #[.string ⟨#[]⟩,.string ⟨#[]⟩,.pointer none,.int .i64 0];simp only[World.size_alloc] at this;exact eW▸this);have J:=I F;have E:=I (h.below F);have ct:W.cell? ⟨p.k,0,none⟩=some (.string ⟨p.R.toArray⟩):=E.o.blk.cell 0;have bx:=M.c0;have t1:(q.1==p.R)=false:=by simpa using hx
 obtain⟨A1,c1,A2,c2,aw,bz,ca⟩:=h.tp.sizes;have CC:=I (fun(w1:World) (h1:KD w1 B p es n i)=>LZ h1 hT aw q.1);have CN:=I (fun(w1:World) (h1:KD w1 B p es n i)=>Ma h1 hT aw bz ca q.1 hR hq);obtain⟨N1,cf⟩:=Ak (p.T.R.length);obtain⟨N2,cq⟩:=Ak (p.T.K.length);rw[<-cf] at aw CC CN;rw[<-cq] at bz CN;have cj:=I aw;have cu:=I bz;have cr:=I ca;clear aw bz ca cf cq;have bB:=LY hT (a:=p.R) (b:=q.1) (by omega) (by omega);obtain⟨nx,cc⟩:=Ak (nxS p.T p.R q.1);rw[<-cc] at CN bB;have CK:=I (fun(w1:World) (h1:KD w1 B p es n i)=>LP h1 bB);rw[<-cc] at cb;rw[<-cb] at CK;rw[decide_eq_true hm] at CC;rw[hn] at CN;have CF:=I (fun(w1:World) (h1:KD w1 B p es n i)=>Jj h1 hl hf hj);clear hx hm hn hf hj bB cc cb;clear h hl hR hq hT F;go_enter Tryz.func30,Tryz.ntmps30
 go_upto_region 1 with fail
 rw[<-eW];clear eW
 go_quiet (fail)
 obtain⟨W1,O⟩:=Ak (W.drewN nq);replace M:=I (show Blk W1 _ _ _ from O▸M.o.drewN nq);replace D:=I (show Blk W1 _ _ _ from O▸D.o.drewN nq);replace J:=I (show Below w.heap.size w W1 from O▸below_drewN J.o nq);replace E:=I (show KD W1 B p es n i from O▸E.o.below (below_drewN Ah nq));rw[<-O];clear O ct bx
 go_upto_region 6 with fail
 have cw:W1.cell? ⟨p.k,1,none⟩=some (.slice A1 N1 c1):=cj.o▸E.o.blk.cell 1;have bx:=M.c0
 go_quiet ((go_at_call 41;exact Calls.quiet_of_same ((CC.o _ (E.o.below (below_drewN Ah _))).mono (fun _ _ h=>⟨h.1,h.2.symm⟩))))
 obtain⟨W2,N⟩:=Ak (W1.drewN nq);replace M:=I (show Blk W2 _ _ _ from N▸M.o.drewN nq);replace D:=I (show Blk W2 _ _ _ from N▸D.o.drewN nq);replace J:=I (show Below w.heap.size w W2 from N▸below_drewN J.o nq);replace E:=I (show KD W2 B p es n i from N▸E.o.below (below_drewN Ah nq));rw[<-N];clear N cw bx CC
 go_upto_region 8 with fail
 replace M:=I (show Blk W2.drew _ _ _ from M.o.drewN 1);replace D:=I (show Blk W2.drew _ _ _ from D.o.drewN 1);replace J:=I (show Below w.heap.size w W2.drew from below_drewN J.o 1);replace E:=I E.o.drew
 go_region_held3 (fun w'=>w'.cell? ⟨p.k,0,none⟩=some (.string ⟨p.R.toArray⟩)/\w'.cell? ⟨p.k,1,none⟩=some (.slice A1 N1 c1)/\w'.cell? ⟨p.k,2,none⟩=some (.slice A2 N2 c2)/\w'.cell? ⟨p.k,3,none⟩=some (.slice none 0 0)/\w'.cell? ⟨w.heap.size,0,none⟩=some (.string ⟨q.1.toArray⟩)) (exact⟨E.o.blk.cell 0,cj.o▸E.o.blk.cell 1,cu.o▸E.o.blk.cell 2,cr.o▸E.o.blk.cell 3,M.o.cell 0⟩) ((go_at_call 64;refine Aj (CN.o _ E.o) ?_;rintro w3 F;clear CN;replace M:=I (M.o.below F);replace D:=I (D.o.below F);replace J:=J.t F;replace E:=I (E.o.below F);clear F))
 go_upto_region 12 with(first
  |(go_at_call 65;refine Aj (CK.o _ E.o) ?_;rintro w4 F;clear CK;replace M:=I (M.o.below F);replace D:=I (D.o.below F);replace J:=J.t F;replace E:=I (E.o.below F);clear F)
  |(go_at_call 63;refine Aj (CF.o _ E.o) ?_;rintro w5 F;clear CF;(try clear bx kq1);replace M:=I (M.o.below F);replace D:=I (D.o.below F);replace J:=J.t F;replace E:=I (E.o.below F);have cg:=D.c0;have cd:=D.c1;have ck:=D.c2;have cn:=D.c3;have fz:=D.o.frozen;have cp:=D.o.lt;clear F)
  |fail)
 obtain⟨W5,Z⟩:=Ak (w5.alloc (.cells #[.string ⟨(tg).1.toArray⟩,.string ⟨(tg).2.toArray⟩,.pointer (some ⟨x.b,0,none⟩),.int .i64 (x.it.n:Int)] 99));have hn:Blk W5 w5.heap.size 99 #[.string ⟨(tg).1.toArray⟩,.string ⟨(tg).2.toArray⟩,.pointer (some ⟨x.b,0,none⟩),.int .i64 (x.it.n:Int)]:=Z▸Blk.new _ _ _;replace D:=I (show Blk W5 _ _ _ from Z▸D.o.alloc _);replace J:=I (show Below w.heap.size w W5 from Z▸J.o.alloc J.o.size _);rw[<-Z];clear Z cg cd ck cn fz cp;obtain⟨PN,cm⟩:=Ak (w5.heap.size);rw[<-cm] at hn⊢;clear cm;have cg:=D.c0;have cd:=D.c1;have ck:=D.c2;have cn:=D.c3;have fz:=D.o.frozen;have cp:=D.o.lt;have cB:=hn.c0;have cA:=hn.c1;have cx:=hn.c2;have cy:=hn.c3;clear hn
 go_wp2
 refine bodyPost_ret (v:=.tuple #[.agg #[.string ⟨(tg).1.toArray⟩,.string ⟨(tg).2.toArray⟩,.pointer (some ⟨x.b,0,none⟩),.int .i64 (x.it.n:Int)],.int .i64 0]) ?_ ?_ ?_
 ·exact Ad (v:=.agg #[.string ⟨(tg).1.toArray⟩,.string ⟨(tg).2.toArray⟩,.pointer (some ⟨x.b,0,none⟩),.int .i64 (x.it.n:Int)]) 4 5 99 ⟨w.heap.size+1,0,none⟩ Tryz.results30 rfl (Wh.Al (set4 D.o (.string ⟨(tg).1.toArray⟩) (.string ⟨(tg).2.toArray⟩) (.pointer (some ⟨x.b,0,none⟩)) (.int .i64 (x.it.n:Int))) Tryz.underlying99 (by rfl) FF) rfl
 ·rfl
 ·exact⟨rfl,IF J.o (by omega) _ _ _ _⟩
end
end Kd
namespace Kd
open Go.RowKit Af Se
open Rg (It Ent Ring RO its Ad BA BH)
open Ms (Pt Re Tk Tg pSm ptC)
open Nm (krb strs)
open Tr (insL)
section
variable {w:World} {B:Nat} {p:KP} {es:List Ent} {s:Option Ss} {n i c:Nat}
theorem trs_a {P:Pt} {y:Tg} {bv av:Value} (h:KD w B p es n i) (hk:P.ss.length=32) (bz:P.tr.length<=90000) (hc:P.c.1.length<=1000000) (h1:y.t.s.1.length<=1000000) (h2:y.s.1.length<=1000000) (hx:y.t.s.1=p.R) :
  Calls Tryz.prog 31 #[.pointer (some ⟨p.k,0,none⟩),.agg (ptA P),.agg #[.string ⟨y.t.s.1.toArray⟩,.string ⟨y.t.s.2.toArray⟩,.int .i64 y.t.k,bv,av,.string ⟨y.s.1.toArray⟩,.string ⟨y.s.2.toArray⟩,.int .i64 y.u,.int .i64 y.no]] w fun e w'=>e=.returned (.tuple #[.string ⟨(P.tr).toArray⟩,.int .i64 0])/\Below w.heap.size w w':=by
 obtain⟨O,E⟩:=Ak (ptA P);obtain⟨M,D⟩:=Ak (#[.string ⟨y.t.s.1.toArray⟩,.string ⟨y.t.s.2.toArray⟩,.int .i64 y.t.k,bv,av,.string ⟨y.s.1.toArray⟩,.string ⟨y.s.2.toArray⟩,.int .i64 y.u,.int .i64 y.no]);rw[<-E,<-D];obtain⟨W,eW⟩:=Ak ((w.alloc (.cells O 40)).alloc (.cells M 31));have N:Below w.heap.size w W:=eW▸(Ah.alloc Ag _).alloc (by simp) _;have hp:Blk W w.heap.size 40 O:=eW▸(Blk.new w _ _).alloc _;have ht:Blk W (w.heap.size+1) 31 M:=by have:=Blk.new (w.alloc (.cells O 40)) 31 M;simp only[World.size_alloc] at this;exact eW▸this
 have HB:=I N;have HK:=I (h.below N);have Z:=I hp;have J:=I ht;have bx:=I (fun(w1:World) (g:Nat) (N:Blk w1 g 40 O)=>And.intro (pt_0 (E▸N)) (aI hk (E▸N)));have aw:=I (fun(w1:World) (g:Nat) (N:Blk w1 g 31 M)=>(show w1.cell? ⟨g,0,none⟩=some (.string ⟨y.t.s.1.toArray⟩)/\w1.cell? ⟨g,5,none⟩=some (.string ⟨y.s.1.toArray⟩) from⟨by rw[N.cell,D];rfl,by rw[N.cell,D];rfl⟩));have ca:=(bx.o _ _ Z.o).1;have bB:=(aw.o _ _ J.o).1;have t1:(y.t.s.1==p.R)=true:=by rw[hx];simp
 clear hx;clear h hk bz hc h1 h2 N hp ht E D;go_enter Tryz.func31,Tryz.ntmps31
 go_upto_region 1 with fail
 rw[<-eW];clear eW
 go_quiet (fail)
 obtain⟨W1,F⟩:=Ak (W.drewN nq);replace Z:=I (show Blk W1 _ _ _ from F▸Z.o.drewN nq);replace J:=I (show Blk W1 _ _ _ from F▸J.o.drewN nq);replace HB:=I (show Below w.heap.size w W1 from F▸below_drewN HB.o nq);replace HK:=I (show KD W1 B p es n i from F▸HK.o.below (below_drewN Ah nq));rw[<-F];clear F ca bB;have cd:W1.cell? ⟨p.k,0,none⟩=some (.string ⟨p.R.toArray⟩):=HK.o.blk.cell 0;have cb:=(bx.o _ _ Z.o).2;have cc:=(aw.o _ _ J.o).2
 go_wp2
 go_ret2
 exact⟨rfl,HB.o⟩
theorem trs_b {P:Pt} {y:Tg} {bv av:Value} (h:KD w B p es n i) (hk:P.ss.length=32) (bB:P.tr.length<=90000) (hc:P.c.1.length<=1000000) (h1:y.t.s.1.length<=1000000) (h2:y.s.1.length<=1000000) (hx:y.t.s.1≠p.R) (bz:y.t.s.1=P.c.1) :
  Calls Tryz.prog 31 #[.pointer (some ⟨p.k,0,none⟩),.agg (ptA P),.agg #[.string ⟨y.t.s.1.toArray⟩,.string ⟨y.t.s.2.toArray⟩,.int .i64 y.t.k,bv,av,.string ⟨y.s.1.toArray⟩,.string ⟨y.s.2.toArray⟩,.int .i64 y.u,.int .i64 y.no]] w fun e w'=>e=.returned (.tuple #[.string ⟨(P.tr).toArray⟩,.int .i64 0])/\Below w.heap.size w w':=by
 obtain⟨O,E⟩:=Ak (ptA P);obtain⟨M,D⟩:=Ak (#[.string ⟨y.t.s.1.toArray⟩,.string ⟨y.t.s.2.toArray⟩,.int .i64 y.t.k,bv,av,.string ⟨y.s.1.toArray⟩,.string ⟨y.s.2.toArray⟩,.int .i64 y.u,.int .i64 y.no]);rw[<-E,<-D];obtain⟨W,eW⟩:=Ak ((w.alloc (.cells O 40)).alloc (.cells M 31));have N:Below w.heap.size w W:=eW▸(Ah.alloc Ag _).alloc (by simp) _;have hp:Blk W w.heap.size 40 O:=eW▸(Blk.new w _ _).alloc _;have ht:Blk W (w.heap.size+1) 31 M:=by have:=Blk.new (w.alloc (.cells O 40)) 31 M;simp only[World.size_alloc] at this;exact eW▸this
 have HB:=I N;have HK:=I (h.below N);have Z:=I hp;have J:=I ht;have bx:=I (fun(w1:World) (g:Nat) (N:Blk w1 g 40 O)=>And.intro (pt_0 (E▸N)) (aI hk (E▸N)));have aw:=I (fun(w1:World) (g:Nat) (N:Blk w1 g 31 M)=>(show w1.cell? ⟨g,0,none⟩=some (.string ⟨y.t.s.1.toArray⟩)/\w1.cell? ⟨g,5,none⟩=some (.string ⟨y.s.1.toArray⟩) from⟨by rw[N.cell,D];rfl,by rw[N.cell,D];rfl⟩));have cb:=(bx.o _ _ Z.o).1;have ca:=(aw.o _ _ J.o).1;have t1:(y.t.s.1==p.R)=false:=by simpa using hx
 have t2:(y.t.s.1==P.c.1)=true:=by rw[bz];simp
 clear hx bz;clear h hk bB hc h1 h2 N hp ht E D;go_enter Tryz.func31,Tryz.ntmps31
 go_upto_region 1 with fail
 rw[<-eW];clear eW
 go_quiet (fail)
 obtain⟨W1,F⟩:=Ak (W.drewN nq);replace Z:=I (show Blk W1 _ _ _ from F▸Z.o.drewN nq);replace J:=I (show Blk W1 _ _ _ from F▸J.o.drewN nq);replace HB:=I (show Below w.heap.size w W1 from F▸below_drewN HB.o nq);replace HK:=I (show KD W1 B p es n i from F▸HK.o.below (below_drewN Ah nq));rw[<-F];clear F cb ca;have cf:W1.cell? ⟨p.k,0,none⟩=some (.string ⟨p.R.toArray⟩):=HK.o.blk.cell 0;have cc:=(bx.o _ _ Z.o).2;have cd:=(aw.o _ _ J.o).2
 go_wp2
 go_ret2
 exact⟨rfl,HB.o⟩
theorem trs_c {P:Pt} {y:Tg} {bv av:Value} (h:KD w B p es n i) (hk:P.ss.length=32) (aw:P.tr.length<=90000) (hc:P.c.1.length<=1000000) (h1:y.t.s.1.length<=1000000) (h2:y.s.1.length<=1000000) (hx:y.t.s.1≠p.R) (ca:y.t.s.1≠P.c.1) :
  Calls Tryz.prog 31 #[.pointer (some ⟨p.k,0,none⟩),.agg (ptA P),.agg #[.string ⟨y.t.s.1.toArray⟩,.string ⟨y.t.s.2.toArray⟩,.int .i64 y.t.k,bv,av,.string ⟨y.s.1.toArray⟩,.string ⟨y.s.2.toArray⟩,.int .i64 y.u,.int .i64 y.no]] w fun e w'=>e=.returned (.tuple #[.string ⟨((insL P.tr P.c.1 y.s.1 y.t.s.1).1).toArray⟩,.int .i64 ((insL P.tr P.c.1 y.s.1 y.t.s.1).2:Int)])/\Below w.heap.size w w':=by
 obtain⟨O,E⟩:=Ak (ptA P);obtain⟨N,D⟩:=Ak (#[.string ⟨y.t.s.1.toArray⟩,.string ⟨y.t.s.2.toArray⟩,.int .i64 y.t.k,bv,av,.string ⟨y.s.1.toArray⟩,.string ⟨y.s.2.toArray⟩,.int .i64 y.u,.int .i64 y.no]);rw[<-E,<-D];obtain⟨W,eW⟩:=Ak ((w.alloc (.cells O 40)).alloc (.cells N 31));have J:Below w.heap.size w W:=eW▸(Ah.alloc Ag _).alloc (by simp) _;have hp:Blk W w.heap.size 40 O:=eW▸(Blk.new w _ _).alloc _;have ht:Blk W (w.heap.size+1) 31 N:=by have:=Blk.new (w.alloc (.cells O 40)) 31 N;simp only[World.size_alloc] at this;exact eW▸this
 have HB:=I J;have HK:=I (h.below J);have Z:=I hp;have M:=I ht;have bB:=I (fun(w1:World) (g:Nat) (J:Blk w1 g 40 O)=>And.intro (pt_0 (E▸J)) (aI hk (E▸J)));have bx:=I (fun(w1:World) (g:Nat) (J:Blk w1 g 31 N)=>(show w1.cell? ⟨g,0,none⟩=some (.string ⟨y.t.s.1.toArray⟩)/\w1.cell? ⟨g,5,none⟩=some (.string ⟨y.s.1.toArray⟩) from⟨by rw[J.cell,D];rfl,by rw[J.cell,D];rfl⟩));have cc:=(bB.o _ _ Z.o).1;have cb:=(bx.o _ _ M.o).1;have t1:(y.t.s.1==p.R)=false:=by simpa using hx
 have t2:(y.t.s.1==P.c.1)=false:=by simpa using ca
 have CI:=I (fun(w1:World)=>Tr.Zu P.tr P.c.1 y.s.1 y.t.s.1 w1 aw (by omega) (by omega) (by omega));obtain⟨ri,bz⟩:=Ak (insL P.tr P.c.1 y.s.1 y.t.s.1);rw[<-bz] at CI⊢;clear hx ca bz;clear h hk aw hc h1 h2 J hp ht E D;go_enter Tryz.func31,Tryz.ntmps31
 go_upto_region 1 with fail
 rw[<-eW];clear eW
 go_quiet (fail)
 obtain⟨W1,F⟩:=Ak (W.drewN nq);replace Z:=I (show Blk W1 _ _ _ from F▸Z.o.drewN nq);replace M:=I (show Blk W1 _ _ _ from F▸M.o.drewN nq);replace HB:=I (show Below w.heap.size w W1 from F▸below_drewN HB.o nq);replace HK:=I (show KD W1 B p es n i from F▸HK.o.below (below_drewN Ah nq));rw[<-F];clear F cc cb;have cg:W1.cell? ⟨p.k,0,none⟩=some (.string ⟨p.R.toArray⟩):=HK.o.blk.cell 0;have cd:=(bB.o _ _ Z.o).2;have cf:=(bx.o _ _ M.o).2
 go_wp2_with (first
  |(go_at_call 66;refine Aj (CI.o _) ?_;rintro w5 J;clear CI;replace HB:=HB.t J;clear J)
  |fail)
 go_ret2
 exact⟨rfl,HB.o⟩
theorem ba {P:Pt} {y:Tg} {bv av:Value} (h:KD w B p es n i) (hk:P.ss.length=32) (D:P.tr.length<=90000) (E:P.c.1.length<=1000000) (F:y.t.s.1.length<=1000000) (J:y.s.1.length<=1000000) :
  Calls Tryz.prog 31 #[.pointer (some ⟨p.k,0,none⟩),.agg (ptA P),.agg #[.string ⟨y.t.s.1.toArray⟩,.string ⟨y.t.s.2.toArray⟩,.int .i64 y.t.k,bv,av,.string ⟨y.s.1.toArray⟩,.string ⟨y.s.2.toArray⟩,.int .i64 y.u,.int .i64 y.no]] w fun e w'=>e=.returned (.tuple #[.string ⟨(trsL p.R P y.t.s.1 y.s).1.toArray⟩,.int .i64 ((trsL p.R P y.t.s.1 y.s).2:Int)])/\Below w.heap.size w w':=by
 by_cases hx:y.t.s.1=p.R
 ·rw[show trsL p.R P y.t.s.1 y.s=(P.tr,0) by unfold trsL;rw[if_pos (.inl hx)]]
  exact trs_a h hk D E F J hx
 ·by_cases hx2:y.t.s.1=P.c.1
  ·rw[show trsL p.R P y.t.s.1 y.s=(P.tr,0) by unfold trsL;rw[if_pos (.inr hx2)]]
   exact trs_b h hk D E F J hx hx2
  ·rw[show trsL p.R P y.t.s.1 y.s=insL P.tr P.c.1 y.s.1 y.t.s.1 by unfold trsL;rw[if_neg (by rintro(g | g);exact hx g;exact hx2 g)]]
   exact trs_c h hk D E F J hx hx2
end
end Kd
namespace Kd
open Go.RowKit Af Se
open Rg (It Ent Ring RO its BA BH Cv)
open SeL (Bn Bc)
open Ms (Pt Rp Re Tk As Tg pSm tmB asB tgB ptB ptD ptO tgC mgO)
open Nm (krb isL)
open Tr (insL expL Hx IH)
open Rt (nxB nxS Sm)
theorem Va {b:Nm.L} {P:Pt} (h:ptD b=some P):P.ss.length=32/\ptB P=true:=by
 have D:P.ss.length=32:=by have:=Mc.OW b;unfold Mc.ptG at this;rw[h] at this;exact this
 refine⟨D,?_⟩;have E:=(Ms.XY D).1 h;cases hb:ptB P with
 |true=>rfl
 |false=>
  rw[ptO,Ms.limO,hb] at E;simp at E
theorem Hm (R:Nm.L) (l:List It) (t:Tk) (now:Int):(opnL R l t now).2.ss.length=32/\((opnL R l t now).1=0->ptB (opnL R l t now).2=true):=by
 unfold opnL
 split
 ·split
  ·exact⟨rfl,fun h=>absurd h (by decide)⟩
  ·split
   ·split
    ·exact⟨rfl,fun h=>absurd h (by decide)⟩
    ·rename_i P hP
     have D:=Va hP
     split
     ·exact⟨rfl,fun h=>absurd h (by decide)⟩
     ·split
      ·exact⟨rfl,fun h=>absurd h (by decide)⟩
      ·exact⟨D.1,fun _=>D.2⟩
   ·exact⟨rfl,fun h=>absurd h (by decide)⟩
 ·exact⟨rfl,fun h=>absurd h (by decide)⟩
theorem Vb (m:List Nm.L):(Hx m).1.length<=400:=by
 unfold Hx
 split
 ·rename_i h
  split
  ·simp
  ·have:=Tr.Pv h
   show(IH m).length<=400;omega
 ·simp
theorem XA (s c sv r:Nm.L):(insL s c sv r).1.length<=s.length+400:=by
 unfold insL
 split
 ·simp
 ·split
  ·split
   ·simp
   ·have:=Vb ((expL s c sv).1++[r]);omega
  ·simp
theorem XC (R:Nm.L) (P:Pt) (b:Nm.L) (s:Ms.Pr):(trsL R P b s).1.length<=P.tr.length+400:=by
 unfold trsL
 split
 ·simp
 ·exact XA _ _ _ _
theorem Hn {P:Pt} (h:ptB P=true):P.tr.length<=300/\P.c.1.length<=200/\pSm P.c/\tmB P.st=true/\tmB P.en=true:=by
 obtain⟨_,E,D,F,J⟩:=Ms.Dl h;have:=Ms.Ft E;exact⟨D,by omega,⟨by omega,by omega⟩,F,J⟩
abbrev tgA (q:Tg) (b a:Value):Array Value:=#[.string ⟨q.t.s.1.toArray⟩,.string ⟨q.t.s.2.toArray⟩,.int .i64 q.t.k,b,a,.string ⟨q.s.1.toArray⟩,.string ⟨q.s.2.toArray⟩,.int .i64 q.u,.int .i64 q.no]
theorem eG {w:World} {q:Tg} {b a:Value} {S S':Nat->Prop} (D:SlN S w b q.t.b) (E:SlN S' w a q.a):Mc.MgV w w.heap.size (Mc.mgA 2 Mc.zA (tgA q b a) Mc.zR Mc.zP Mc.zF) (mTg q):=
 ⟨_,_,_,_,_,rfl,⟨Mc.zA_v,⟨b,a,rfl,D.sl,E.sl⟩,Mc.zR_v _ _,Mc.zP_v _ _,Mc.zF_v⟩⟩
theorem Nv (q:Tg) (b a:Value):Tryz.prog.built 92 [(0,.int .i64 2),(2,.agg (tgA q b a))]=some (Mc.mgA 2 Mc.zA (tgA q b a) Mc.zR Mc.zP Mc.zF):=by kernel_rfl
theorem Bh:(Tryz.prog.info? 31).map (·.size)=some 9:=by kernel_rfl
theorem OY:(Tryz.prog.info? 29).map (·.size)=some 4:=by kernel_rfl
section
variable {w:World} {B:Nat} {p:KP} {es:List Ent} {s:Option Ss} {n i c:Nat}
def TarP (w:World) (es:List Ent) (r:Int×Rg.Pr) (e:Ending) (w':World):Prop:=
 ∃cs,e=.returned (.tuple #[.agg cs,.int .i64 r.1])/\Below w.heap.size w w'/\(∃y z m,cs=hoA y z m)/\(r.1=0->∃j x,BA (its es) r.2=some j/\es[j]? = some x/\cs=hoA r.2 (some ⟨x.b,0,none⟩) (x.it.n:Int))
theorem bb {q:Rg.Pr} (h:KD w B p es n i) (M:es.length<=1000) (J:p.R.length<=1000) (F:q.1.length<=1000) (N:Sm p.T) (D:q.1=p.R) :
  Calls Tryz.prog 30 #[.pointer (some ⟨p.k,0,none⟩),prV q] w (TarP w es (tarL p.R p.T (its es) q)):=by
 unfold tarL;rw[if_pos D];cases hf:BA (its es) q with
 |none=>
  rw[if_neg (by rw[Ke hf];decide)];exact(dY h M J F N D hf).mono (by rintro e w' ⟨rfl,E⟩;exact⟨_,rfl,E,⟨_,_,_,rfl⟩,fun z=>absurd z (by decide)⟩)
 |some j=>
  obtain⟨x,O⟩:=LX hf;rw[if_pos (Nu hf)];exact(dX h M J F N D hf O).mono (by rintro e w' ⟨rfl,E⟩;exact⟨_,rfl,E,⟨_,_,_,rfl⟩,fun _=>⟨j,x,hf,O,rfl⟩⟩)
theorem bc {q:Rg.Pr} (h:KD w B p es n i) (J:es.length<=1000) (F:p.R.length<=1000) (E:q.1.length<=1000) (M:Sm p.T) :
  Calls Tryz.prog 30 #[.pointer (some ⟨p.k,0,none⟩),prV q] w (TarP w es (tarL p.R p.T (its es) q)):=by
 by_cases hx:q.1=p.R
 ·exact bb h J F E M hx
 ·unfold tarL
  rw[if_neg hx]
  by_cases hm:q.1∈p.T.R
  ·cases hn:nxB p.T p.R q.1 with
   |false=>
    rw[if_neg (by rintro⟨_,z,_⟩;cases z)];exact(ee h J F E M hx hm hn).mono (by rintro e w' ⟨rfl,D⟩;exact⟨_,rfl,D,⟨_,_,_,rfl⟩,fun z=>absurd z (by decide)⟩)
   |true=>
    cases hf:BA (its es) (kr p.R (nxS p.T p.R q.1)) with
    |none=>
     rw[if_neg (by rintro⟨_,_,z⟩;rw[Ke hf] at z;cases z)];exact(eh h J F E M hx hm hn hf).mono (by rintro e w' ⟨rfl,D⟩;exact⟨_,rfl,D,⟨_,_,_,rfl⟩,fun z=>absurd z (by decide)⟩)
    |some j=>
     obtain⟨x,N⟩:=LX hf;rw[if_pos ⟨hm,rfl,Nu hf⟩];exact(eE h J F E M hx hm hn rfl hf N).mono (by rintro e w' ⟨rfl,D⟩;exact⟨_,rfl,D,⟨_,_,_,rfl⟩,fun _=>⟨j,x,hf,N,rfl⟩⟩)
  ·rw[if_neg (fun z=>hm z.1)]
   exact(dZ h J F E M hx hm).mono (by rintro e w' ⟨rfl,D⟩;exact⟨_,rfl,D,⟨_,_,_,rfl⟩,fun z=>absurd z (by decide)⟩)
theorem XD {t:Tk} {bv:Value} {now D:Int} {P:Pt} (O:opnL p.R (its es) t now=(D,P)) (h:KS w B p es none n i c) (Z:c<900000) (N:es.length<=1000) (E:p.R.length<=1000000) (h0:0<=now) (F:now<=1073741824) (J:SlN (KSO p es none) w bv t.b) :
  Calls Tryz.prog 27 #[.pointer (some ⟨p.k,0,none⟩),.agg #[.string ⟨t.s.1.toArray⟩,.string ⟨t.s.2.toArray⟩,.int .i64 t.k,bv],.int .i64 now] w fun e w'=>∃es',e=.returned (.tuple #[.agg (ptA P),.int .i64 D])/\Kn w w' B p es none es' none n i (c+1):=by
 have hk:=UZ (now:=now) h Z N E h0 F J;rw[O] at hk;exact hk.mono (by rintro e w' ⟨es',s',rfl,M⟩;exact⟨es',rfl,M.drop⟩)
theorem bd {x:Nat} {ss a:Nm.L} {cl:Rg.Pr} {av:Value} {now D:Int} (M:autL ss a cl now=D) (h:KS w B p es s n i c) (N:c<900000) (J:Hdl es s x (ksOf ss)) (O:0<=now) (E:now<=1073741824) (F:SlN (KSO p es s) w av a) :
  Calls Tryz.prog 29 #[.pointer (some ⟨x,0,none⟩),av,prV cl,.int .i64 now] w fun e w'=>∃es' s',e=.returned (.int .i64 D)/\Kn w w' B p es s es' s' n i (c+1):=by
 have hk:=Xz (cl:=cl) h N J O E F;rw[M] at hk;exact hk
theorem eI {d:Nm.L} (J:d.length=32) (h:KS w B p es none n i c):Calls Tryz.prog 28 #[.agg (keyA d)] w fun e w'=>∃b,e=.returned (.pointer (some ⟨b,0,none⟩))/\Kn w w' B p es none es (some ⟨b,ksOf d,none,0,0,0⟩) n i c:=by
 have hk:=Se.Lw (ksOf d) w;rw[JX J] at hk;exact hk.mono (by rintro e w' ⟨b,rfl,D,E,F⟩;exact⟨b,rfl,(Kn.refl h).with_s D E F⟩)
theorem eO {es0:List Ent} {q:Rg.Pr} {D:Int} {Y:Rg.Pr} (hk:Calls Tryz.prog 30 #[.pointer (some ⟨p.k,0,none⟩),prV q] w (TarP w es (tarL p.R p.T (its es) q))) (E:tarL p.R p.T (its es0) q=(D,Y)) (he:bts es=bts es0) :
  Calls Tryz.prog 30 #[.pointer (some ⟨p.k,0,none⟩),prV q] w fun e w'=>∃cs,e=.returned (.tuple #[.agg cs,.int .i64 D])/\Below w.heap.size w w'/\(cs.size=4/\cs.all (·.oneCell')=true/\(Tryz.prog.info? 99).map (·.size)=some cs.size)/\(D=0->∃j x,BA (its es) Y=some j/\es[j]? = some x/\cs=hoA Y (some ⟨x.b,0,none⟩) (x.it.n:Int)):=by
 rw[LK he,E] at hk;refine hk.mono ?_;rintro e w' ⟨cs,rfl,F,⟨y,z,m,J⟩,M⟩;refine⟨cs,rfl,F,?_,M⟩;subst J;exact⟨rfl,by simp [hoA,Value.oneCell'],by kernel_rfl⟩
theorem eU {es0:List Ent} {q:Rg.Pr} {D:Int} {Y:Rg.Pr} (M:tarL p.R p.T (its es0) q=(D,Y)) (he:bts es=bts es0) (J:es0.length<=1000) (F:p.R.length<=1000) (E:q.1.length<=1000) (N:Sm p.T) (h:KD w B p es n i) :
  Calls Tryz.prog 30 #[.pointer (some ⟨p.k,0,none⟩),prV q] w fun e w'=>∃cs,e=.returned (.tuple #[.agg cs,.int .i64 D])/\Below w.heap.size w w'/\(cs.size=4/\cs.all (·.oneCell')=true/\(Tryz.prog.info? 99).map (·.size)=some cs.size)/\(D=0->∃j x,BA (its es) Y=some j/\es[j]? = some x/\cs=hoA Y (some ⟨x.b,0,none⟩) (x.it.n:Int)):=
 eO (bc (q:=q) h (by rw[aD he];exact J) F E N) M he
theorem eY {P:Pt} {y:Tg} {bv av:Value} {tr:Nm.L} {E:Nat} (F:trsL p.R P y.t.s.1 y.s=(tr,E)) (hk:P.ss.length=32) (D:P.tr.length<=90000) (N:P.c.1.length<=1000000) (J:y.t.s.1.length<=1000000) (M:y.s.1.length<=1000000) (h:KD w B p es n i) :
  Calls Tryz.prog 31 #[.pointer (some ⟨p.k,0,none⟩),.agg (ptA P),.agg (tgA y bv av)] w fun e w'=>e=.returned (.tuple #[.string ⟨tr.toArray⟩,.int .i64 (E:Int)])/\Below w.heap.size w w':=by
 have:=ba (bv:=bv) (av:=av) h hk D N J M;rw[F] at this;exact this
end
end Kd
namespace Kd
open Go.RowKit Af Se
open Rg (It Ent Ring RO its Ad BA BH AQ Bd)
open SeL (Bn Bc)
open Ms (Pt Rp Re Tk As Tg pSm tmB asB tgB ptB)
open Nm (krb)
open Rt (nxB nxS Sm)
section
variable {w:World} {B:Nat} {p:KP} {es:List Ent} {n i c:Nat}
theorem eZ {D:List Ent} {s2:Option Ss} {N O kv:Nat} {k1 ks:Nat->UInt8} {l:List It} {Y:Ms.Pr} {P:Pt} {no:Int} {rr:Int×Re} (M:ansK n (keyL l Y) (BH l Y) Y P no ks 8=rr) (h:KS w B p D s2 n i c) (Z:Hdl D s2 N k1) (h2:Hdl D s2 O ks) (e1:keyL l Y=k1) (e2:BH l Y=kv) (hc:c<900000) (hn:n<900000) (hi:i<900000) (hk:P.ss.length=32) (J:pSm P.c) (F:pSm Y) (E:P.tr.length<=1000000000) :
  Calls Tryz.prog 32 #[.pointer (some ⟨p.k,0,none⟩),.agg (hoA Y (some ⟨N,0,none⟩) (kv:Int)),.agg (ptA P),.int .i64 no,.pointer (some ⟨O,0,none⟩),.int .i64 8] w (AnsR w B p D s2 n i (c+2) rr):=by
 subst e1 e2 M;exact dN h Z h2 hc hn hi hk J F E
theorem Vc {q:Tg} (h:tgB q=true):q.t.s.1.length<=1000000/\q.s.1.length<=1000:=by
 have D:Ms.tkB q.t=true/\Ms.Dm q.a=true/\Ms.prB q.s=true/\tmB q.u=true/\tmB q.no=true:=by simpa [tgB] using h
 have E:Ms.prB q.t.s=true/\Ms.inB q.t.k 1 255=true/\Ms.Dm q.t.b=true:=by simpa [Ms.tkB] using D.1
 have a1:=Ms.Ft E.1;have F:=Ms.Ft D.2.2.1;exact⟨by omega,by omega⟩
theorem tgs_1 {q:Tg} {bv av:Value} {d:Nm.L} {now:Int} (h:KS w B p es none n i c) (hc:c<800000) (hn:n<800000) (hi:i<800000) (hl:es.length<=1000) (hR:p.R.length<=1000) (hT:Sm p.T) (hd:d.length=32) (bz:SlN (KSO p es none) w bv q.t.b) (aw:SlN (KSO p es none) w av q.a) (cb:pSm q.t.s) (ca:pSm q.s) (ht:tmB now=false) :
  Calls Tryz.prog 10 #[.pointer (some ⟨p.k,0,none⟩),.agg (tgA q bv av),.int .i64 now,.agg (keyA d)] w (AnsR w B p es none n i (c+6) (1,Ms.re0)):=by
 obtain⟨M,J⟩:=Ak (keyA d);obtain⟨E,D⟩:=Ak (tgA q bv av);rw[<-J,<-D];obtain⟨W,Z⟩:=Ak (((w.alloc (.cells E 31)).alloc (.cells M 36)).alloc (.cells reZ 44));have F:Below w.heap.size w W:=Z▸((Ah.alloc Ag _).alloc (by simp) _).alloc (by simp;omega) _;have HQ:=I (show Blk W w.heap.size 31 E from Z▸((Blk.new w _ _).alloc _).alloc _);have HD:=I (show Blk W (w.heap.size+1) 36 M by have:=(Blk.new (w.alloc (.cells E 31)) 36 M).alloc (.cells reZ 44);simp only[World.size_alloc] at this;exact Z▸this);have O:=I (show Blk W (w.heap.size+1+1) 44 reZ by have:=Blk.new ((w.alloc (.cells E 31)).alloc (.cells M 36)) 44 reZ;simp only[World.size_alloc] at this;exact Z▸this);have HK:=I (Kn.start h F);have cd:=I (bz.below F);have cq:=I (aw.below F);have cw:=I (h.offs (show w.heap.size<=w.heap.size by omega));have cm:=I (h.offs (show w.heap.size<=w.heap.size+1 by omega));have bB:=I (h.offs (show w.heap.size<=w.heap.size+1+1 by omega));have cL:=I (show(Tryz.prog.info? 36).map (·.size)=some M.size by rw[J];exact CZ hd);have cx:=I (show(Tryz.prog.info? 31).map (·.size)=some E.size by rw[D];exact Bh);have cA:=I (fun(w1:World) (F:Blk w1 w.heap.size 31 E)=>(show w1.cell? ⟨w.heap.size,4,none⟩=some (av) by rw[F.cell,D];rfl));have cn:=I (fun(w1:World) (F:Blk w1 w.heap.size 31 E)=>(show w1.cell? ⟨w.heap.size,5,none⟩=some (.string ⟨q.s.1.toArray⟩) by rw[F.cell,D];rfl));have cr:=I (fun(w1:World) (F:Blk w1 w.heap.size 31 E)=>(show w1.cell? ⟨w.heap.size,6,none⟩=some (.string ⟨q.s.2.toArray⟩) by rw[F.cell,D];rfl));have cc:=I (fun(w1:World) (F:Blk w1 w.heap.size 31 E)=>(show w1.cell? ⟨w.heap.size,7,none⟩=some (.int .i64 q.u) by rw[F.cell,D];rfl));have cB:=I (fun(w1:World) (F:Blk w1 w.heap.size 31 E)=>(show w1.cell? ⟨w.heap.size,8,none⟩=some (.int .i64 q.no) by rw[F.cell,D];rfl));obtain⟨bx,N⟩:=Ak ((#[.string ⟨q.t.s.1.toArray⟩,.string ⟨q.t.s.2.toArray⟩,.int .i64 q.t.k,bv]:Array Value));have cg:=I (fun(w1:World) (F:Blk w1 w.heap.size 31 E)=>(show w1.rangeAt w.heap.size 0 bx.toList from Wh.CU (pre:=[]) (post:=[av,.string ⟨q.s.1.toArray⟩,.string ⟨q.s.2.toArray⟩,.int .i64 q.u,.int .i64 q.no]) F (by rw[D,N];rfl) 0 rfl));have cu:=I (show(Tryz.prog.info? 29).map (·.size)=some bx.size by rw[N];exact OY);have CT:=I (fun(w1:World)=>Ei now w1);rw[ht] at CT;clear h F hc hn hi hl hR hT cb ca hd bz aw J D N ht
 (try clear ha)
 (try clear ecsO)
 (try clear ecsK)
 (try clear hnow)
 (try clear hn0)
 (try clear hn9)
 (try clear hP)
 (try clear hql)
 (try clear hpo)
 (try clear hps)
 (try clear ho)
 (try clear h1a)
 (try clear h2a)
 (try clear h3a)
 (try clear hY)
 go_enter Tryz.func10,Tryz.ntmps10
 go_upto_region 1 with fail
 rw[<-Z];clear Z;have cf:=O.o.cell 0;have ck:=O.o.cell 1;have ct:=O.o.cell 2;have cy:=O.o.cell 3;have cp:=O.o.cell 4;have cP:=O.o.cell 5;have cj:=O.o.cell 6;have fz:=O.o.frozen
 go_wp2_with (first
  |(go_at_call 25;refine Aj (CT.o _) ?_;rintro wt hw;have hw:=hw.symm;subst hw;clear CT)
  |fail)
 refine bodyPost_ret (v:=.tuple #[.agg reZ,.int .i64 1]) ?_ ?_ ?_
 ·exact Ad (v:=.agg reZ) 8 9 44 ⟨w.heap.size+1+1,0,none⟩ Tryz.results10 rfl (Wh.Al (set7 O.o _ _ _ _ _ _ _) Tryz.underlying44 (by rfl) AM) rfl
 ·rfl
 ·exact Cm ((HK.o.put7 (by omega) bB.o _ _ _ _ _ _ _).more (by omega)) (by decide)
theorem tgs_2 {q:Tg} {bv av:Value} {d:Nm.L} {now:Int} (h:KS w B p es none n i c) (hc:c<800000) (hn:n<800000) (hi:i<800000) (hl:es.length<=1000) (hR:p.R.length<=1000) (hT:Sm p.T) (hd:d.length=32) (cd:SlN (KSO p es none) w bv q.t.b) (bB:SlN (KSO p es none) w av q.a) (cc:pSm q.t.s) (ca:pSm q.s) (ht:tmB now=true) (ha:tgB q=false) :
  Calls Tryz.prog 10 #[.pointer (some ⟨p.k,0,none⟩),.agg (tgA q bv av),.int .i64 now,.agg (keyA d)] w (AnsR w B p es none n i (c+6) (1,Ms.re0)):=by
 obtain⟨O,N⟩:=Ak (keyA d);obtain⟨E,D⟩:=Ak (tgA q bv av);rw[<-N,<-D];obtain⟨W,eW⟩:=Ak (((w.alloc (.cells E 31)).alloc (.cells O 36)).alloc (.cells reZ 44));have F:Below w.heap.size w W:=eW▸((Ah.alloc Ag _).alloc (by simp) _).alloc (by simp;omega) _;have HQ:=I (show Blk W w.heap.size 31 E from eW▸((Blk.new w _ _).alloc _).alloc _);have HD:=I (show Blk W (w.heap.size+1) 36 O by have:=(Blk.new (w.alloc (.cells E 31)) 36 O).alloc (.cells reZ 44);simp only[World.size_alloc] at this;exact eW▸this);have J:=I (show Blk W (w.heap.size+1+1) 44 reZ by have:=Blk.new ((w.alloc (.cells E 31)).alloc (.cells O 36)) 44 reZ;simp only[World.size_alloc] at this;exact eW▸this);have HK:=I (Kn.start h F);have bz:=I (cd.below F);have bx:=I (bB.below F);have cL:=I (h.offs (show w.heap.size<=w.heap.size by omega));have cx:=I (h.offs (show w.heap.size<=w.heap.size+1 by omega));have cj:=I (h.offs (show w.heap.size<=w.heap.size+1+1 by omega));have cQ:=I (show(Tryz.prog.info? 36).map (·.size)=some O.size by rw[N];exact CZ hd);have cg:=I (show(Tryz.prog.info? 31).map (·.size)=some E.size by rw[D];exact Bh);have cP:=I (fun(w1:World) (F:Blk w1 w.heap.size 31 E)=>(show w1.cell? ⟨w.heap.size,4,none⟩=some (av) by rw[F.cell,D];rfl));have cy:=I (fun(w1:World) (F:Blk w1 w.heap.size 31 E)=>(show w1.cell? ⟨w.heap.size,5,none⟩=some (.string ⟨q.s.1.toArray⟩) by rw[F.cell,D];rfl));have cq:=I (fun(w1:World) (F:Blk w1 w.heap.size 31 E)=>(show w1.cell? ⟨w.heap.size,6,none⟩=some (.string ⟨q.s.2.toArray⟩) by rw[F.cell,D];rfl));have ck:=I (fun(w1:World) (F:Blk w1 w.heap.size 31 E)=>(show w1.cell? ⟨w.heap.size,7,none⟩=some (.int .i64 q.u) by rw[F.cell,D];rfl));have ct:=I (fun(w1:World) (F:Blk w1 w.heap.size 31 E)=>(show w1.cell? ⟨w.heap.size,8,none⟩=some (.int .i64 q.no) by rw[F.cell,D];rfl));obtain⟨cb,M⟩:=Ak ((#[.string ⟨q.t.s.1.toArray⟩,.string ⟨q.t.s.2.toArray⟩,.int .i64 q.t.k,bv]:Array Value));have cm:=I (fun(w1:World) (F:Blk w1 w.heap.size 31 E)=>(show w1.rangeAt w.heap.size 0 cb.toList from Wh.CU (pre:=[]) (post:=[av,.string ⟨q.s.1.toArray⟩,.string ⟨q.s.2.toArray⟩,.int .i64 q.u,.int .i64 q.no]) F (by rw[D,M];rfl) 0 rfl));have cB:=I (show(Tryz.prog.info? 29).map (·.size)=some cb.size by rw[M];exact OY);have CT:=I (fun(w1:World)=>Ei now w1);rw[ht] at CT;have CM:=I (fun(w1:World) (a1:SlN (KSO p es none) w1 bv q.t.b) (a2:SlN (KSO p es none) w1 av q.a)=>Gb _ (mTg q) w1 (eG a1 a2) ⟨⟨Mc.Cj,Mc.Cj⟩,⟨cc,ca⟩,⟨Mc.Cj,Mc.Cj⟩,Mc.Cj⟩);have Z:=I (Nv q bv av);obtain⟨cf,aw⟩:=Ak (Mc.mgA 2 Mc.zA (tgA q bv av) Mc.zR Mc.zP Mc.zF);rw[<-aw] at CM Z;rw[<-D] at Z;clear aw;rw[YD,ha] at CM;clear h F hc hn hi hl hR hT cc ca hd cd bB N D M ht
 (try clear ha)
 (try clear ecsO)
 (try clear ecsK)
 (try clear hnow)
 (try clear hn0)
 (try clear hn9)
 (try clear hP)
 (try clear hql)
 (try clear hpo)
 (try clear hps)
 (try clear ho)
 (try clear h1a)
 (try clear h2a)
 (try clear h3a)
 (try clear hY)
 go_enter Tryz.func10,Tryz.ntmps10
 go_upto_region 1 with fail
 rw[<-eW];clear eW
 go_upto_region 2 with(first
  |(go_at_call 25;refine Aj (CT.o _) ?_;rintro wt hw;have hw:=hw.symm;subst hw;clear CT)
  |(refine Wh.Au (by rfl) 31 (.tmp 5) (by rfl) (w.heap.size) 0 (by rfl) E _ (Wh.Ae HQ.o) Tryz.underlying31 (by rfl) cg.o ?_)
  |(refine LU (by rfl) 92 #[(0,.const (.int .i64 2)),(2,.tmp 25)] (by rfl) cf (by simp only[List.map_toArray,List.map_cons,List.map_nil];exact Z.o) ?_;clear Z)
  |(go_at_call 26;refine Aj (CM.o _ bz.o bx.o) ?_;rintro wm F;clear CM;replace HQ:=I (HQ.o.below F);replace HD:=I (HD.o.below F);replace J:=I (J.o.below F);replace HK:=I (HK.o.below F);replace bz:=I (bz.o.below F);replace bx:=I (bx.o.below F);clear F)
  |fail)
 have cu:=J.o.cell 0;have cn:=J.o.cell 1;have cA:=J.o.cell 2;have cr:=J.o.cell 3;have cp:=J.o.cell 4;have cR:=J.o.cell 5;have cw:=J.o.cell 6;have fz:=J.o.frozen
 go_wp2_with (first
  |fail
  |fail)
 refine bodyPost_ret (v:=.tuple #[.agg reZ,.int .i64 1]) ?_ ?_ ?_
 ·exact Ad (v:=.agg reZ) 8 9 44 ⟨w.heap.size+1+1,0,none⟩ Tryz.results10 rfl (Wh.Al (set7 J.o _ _ _ _ _ _ _) Tryz.underlying44 (by rfl) AM) rfl
 ·rfl
 ·exact Cm ((HK.o.put7 (by omega) cj.o _ _ _ _ _ _ _).more (by omega)) (by decide)
theorem XE {q:Tg} {bv av:Value} {d:Nm.L} {now:Int} (h:KS w B p es none n i c) (hc:c<800000) (hn:n<800000) (hi:i<800000) (hl:es.length<=1000) (hR:p.R.length<=1000) (hT:Sm p.T) (hd:d.length=32) (fG:SlN (KSO p es none) w bv q.t.b) (eR:SlN (KSO p es none) w av q.a) (fP:pSm q.t.s) (fI:pSm q.s) (ht:tmB now=true) (ha:tgB q=true) {e0 e1 e2:Int} {e3:Nat} {P:Pt} {Y:Ms.Pr} {tr:Nm.L} {r:Int×Re} (ho:opnL p.R (its es) q.t now=(e0,P)) (eS:autL P.ss q.a P.c now=e1) (hY:pSm Y) (fF:e0=0->tr.length<=1000000000)
  (eX:∀(w1:World) (ca:List Ent),bts ca=bts es->KD w1 B p ca n i->Calls Tryz.prog 30 #[.pointer (some ⟨p.k,0,none⟩),prV q.s] w1 fun e w'=>∃cs,e=.returned (.tuple #[.agg cs,.int .i64 e2])/\Below w1.heap.size w1 w'/\(cs.size=4/\cs.all (·.oneCell')=true/\(Tryz.prog.info? 99).map (·.size)=some cs.size)/\(e2=0->∃j x,BA (its ca) Y=some j/\ca[j]? = some x/\cs=hoA Y (some ⟨x.b,0,none⟩) (x.it.n:Int)))
  (fv:e0=0->∀(w1:World) (ca:List Ent),KD w1 B p ca n i->Calls Tryz.prog 31 #[.pointer (some ⟨p.k,0,none⟩),.agg (ptA P),.agg (tgA q bv av)] w1 fun e w'=>e=.returned (.tuple #[.string ⟨tr.toArray⟩,.int .i64 (e3:Int)])/\Below w1.heap.size w1 w')
  (hr:(if e0=0 then (if e1=0 then (if e2=0 then (if e3=0 then (if q.u<now then ((7:Int),Ms.re0) else ansK n (keyL (its es) Y) (BH (its es) Y) Y ⟨P.c,d,tr,now,min q.u P.en⟩ q.no (ksOf P.ss) 8) else ((e3:Int),Ms.re0)) else (e2,Ms.re0)) else (e1,Ms.re0)) else (e0,Ms.re0))=r) :
  Calls Tryz.prog 10 #[.pointer (some ⟨p.k,0,none⟩),.agg (tgA q bv av),.int .i64 now,.agg (keyA d)] w (AnsR w B p es none n i (c+6) r):=by
 obtain⟨cr,cw⟩:=Ak (keyA d);obtain⟨cb,Z⟩:=Ak (tgA q bv av);rw[<-cw,<-Z];obtain⟨W,eW⟩:=Ak (((w.alloc (.cells cb 31)).alloc (.cells cr 36)).alloc (.cells reZ 44));have D:Below w.heap.size w W:=eW▸((Ah.alloc Ag _).alloc (by simp) _).alloc (by simp;omega) _;have HQ:=I (show Blk W w.heap.size 31 cb from eW▸((Blk.new w _ _).alloc _).alloc _);have HD:=I (show Blk W (w.heap.size+1) 36 cr by have:=(Blk.new (w.alloc (.cells cb 31)) 36 cr).alloc (.cells reZ 44);simp only[World.size_alloc] at this;exact eW▸this);have E:=I (show Blk W (w.heap.size+1+1) 44 reZ by have:=Blk.new ((w.alloc (.cells cb 31)).alloc (.cells cr 36)) 44 reZ;simp only[World.size_alloc] at this;exact eW▸this);have N:=I (Kn.start h D);have M:=I (fG.below D);have J:=I (eR.below D);have cm:=I (h.offs (show w.heap.size<=w.heap.size by omega));have cn:=I (h.offs (show w.heap.size<=w.heap.size+1 by omega));have O:=I (h.offs (show w.heap.size<=w.heap.size+1+1 by omega));have fZ:=I (show(Tryz.prog.info? 36).map (·.size)=some cr.size by rw[cw];exact CZ hd);have fj:=I (show(Tryz.prog.info? 31).map (·.size)=some cb.size by rw[Z];exact Bh);have gu:=I (fun(w1:World) (D:Blk w1 w.heap.size 31 cb)=>(show w1.cell? ⟨w.heap.size,4,none⟩=some (av) by rw[D.cell,Z];rfl));have gp:=I (fun(w1:World) (D:Blk w1 w.heap.size 31 cb)=>(show w1.cell? ⟨w.heap.size,5,none⟩=some (.string ⟨q.s.1.toArray⟩) by rw[D.cell,Z];rfl));have gi:=I (fun(w1:World) (D:Blk w1 w.heap.size 31 cb)=>(show w1.cell? ⟨w.heap.size,6,none⟩=some (.string ⟨q.s.2.toArray⟩) by rw[D.cell,Z];rfl));have gb:=I (fun(w1:World) (D:Blk w1 w.heap.size 31 cb)=>(show w1.cell? ⟨w.heap.size,7,none⟩=some (.int .i64 q.u) by rw[D.cell,Z];rfl));have fN:=I (fun(w1:World) (D:Blk w1 w.heap.size 31 cb)=>(show w1.cell? ⟨w.heap.size,8,none⟩=some (.int .i64 q.no) by rw[D.cell,Z];rfl));obtain⟨ev,ct⟩:=Ak ((#[.string ⟨q.t.s.1.toArray⟩,.string ⟨q.t.s.2.toArray⟩,.int .i64 q.t.k,bv]:Array Value));have gf:=I (fun(w1:World) (D:Blk w1 w.heap.size 31 cb)=>(show w1.rangeAt w.heap.size 0 ev.toList from Wh.CU (pre:=[]) (post:=[av,.string ⟨q.s.1.toArray⟩,.string ⟨q.s.2.toArray⟩,.int .i64 q.u,.int .i64 q.no]) D (by rw[Z,ct];rfl) 0 rfl));have gr:=I (show(Tryz.prog.info? 29).map (·.size)=some ev.size by rw[ct];exact OY);have CT:=I (fun(w1:World)=>Ei now w1);rw[ht] at CT;have CM:=I (fun(w1:World) (a1:SlN (KSO p es none) w1 bv q.t.b) (a2:SlN (KSO p es none) w1 av q.a)=>Gb _ (mTg q) w1 (eG a1 a2) ⟨⟨Mc.Cj,Mc.Cj⟩,⟨fP,fI⟩,⟨Mc.Cj,Mc.Cj⟩,Mc.Cj⟩);have ec:=I (Nv q bv av);obtain⟨gh,ep⟩:=Ak (Mc.mgA 2 Mc.zA (tgA q bv av) Mc.zR Mc.zP Mc.zF);rw[<-ep] at CM ec;rw[<-Z] at ec;clear ep;rw[YD,ha] at CM;have cL:0<=now/\now<=1073741824:=by simpa [tmB,Ms.inB] using ht
 have eu:=cL.1;have et:=cL.2;have hP:P.ss.length=32:=by have:=(Hm p.R (its es) q.t now).1;rw[ho] at this;exact this
 have CO:=I (fun(w1:World) (h1:KS w1 B p es none n i c) (a1:SlN (KSO p es none) w1 bv q.t.b)=>XD (es:=es) ho h1 (by omega) hl (by omega) eu et a1);obtain⟨ck,bz⟩:=Ak (ptA P);rw[<-ct,<-bz] at CO;have gj:=I (show ck.size=37 by rw[bz];exact EH hP);have fK:=I (show(Tryz.prog.info? 40).map (·.size)=some ck.size by rw[bz];exact GA hP);have fJ:=I (show ck.all (·.oneCell')=true by rw[bz];exact Ij _);have fL:=I (fun(w1:World) (g:Nat) (D:Blk w1 g 40 ck)=>pt_0 (P:=P) (bz▸D));have fi:=I (fun(w1:World) (g:Nat) (D:Blk w1 g 40 ck)=>pt_1 (P:=P) (bz▸D));have fM:=I (fun(w1:World) (g:Nat) (D:Blk w1 g 40 ck)=>Xh (P:=P) hP (bz▸D));obtain⟨eB,cu⟩:=Ak (keyA P.ss);have fQ:=I (fun(w1:World) (g:Nat) (D:Blk w1 g 40 ck)=>(show w1.rangeAt g 2 eB.toList from cu▸KK (P:=P) hP (bz▸D)));have gg:=I (show(Tryz.prog.info? 36).map (·.size)=some eB.size by rw[cu];exact CZ hP);have CN:=I (fun(w1:World) (ca:List Ent) (h1:KS w1 B p ca none n i (c+1))=>eI hP h1);rw[<-cu] at CN;have CC:=I (fun(w1:World) (ca:List Ent) (s1:Option Ss) (x:Nat) (h1:KS w1 B p ca s1 n i (c+1)) (hh:Hdl ca s1 x (ksOf P.ss)) (a2:SlN (KSO p ca s1) w1 av q.a)=>bd eS h1 (by omega) hh eu et a2);have CG:=I eX;have eM:=fun(hz:e0=0)=>Hn (show ptB P=true by have:=(Hm p.R (its es) q.t now).2;rw[ho] at this;exact this hz)
 have CX:=I fv;rw[<-bz,<-Z] at CX;have cA:=I (Xj hd P.c tr now (min q.u P.en));have cR:(⟨P.c,d,tr,now,min q.u P.en⟩:Pt).ss.length=32:=hd;have fs:pSm Y:=hY;obtain⟨rr,err⟩:∃r,r=ansK n (keyL (its es) Y) (BH (its es) Y) Y ⟨P.c,d,tr,now,min q.u P.en⟩ q.no (ksOf P.ss) 8:=⟨_,rfl⟩;rw[<-err] at hr;have CA:=I (fun(hz:e0=0) (w1:World) (ek:List Ent) (s2:Option Ss) (x1 x2 kv:Nat) (k1:Nat->UInt8) (h1:KS w1 B p ek s2 n i (c+1+1)) (fW:Hdl ek s2 x1 k1) (fT:Hdl ek s2 x2 (ksOf P.ss)) (e1:keyL (its es) Y=k1) (e2:BH (its es) Y=kv)=>eZ (P:=⟨P.c,d,tr,now,min q.u P.en⟩) (no:=q.no) (rr:=rr) err.symm h1 fW fT e1 e2 (by omega) (by omega) (by omega) cR (eM hz).2.2.1 fs (fF hz));obtain⟨cx,cj⟩:=Ak (ptA ⟨P.c,d,tr,now,min q.u P.en⟩);have fU:=I (show cx.size=37 by rw[cj];exact EH cR);have eJ:=I (show(Tryz.prog.info? 40).map (·.size)=some cx.size by rw[cj];exact GA cR);have gq:=I (show cx.all (·.oneCell')=true by rw[cj];exact Ij _);rw[<-cj] at CA;rw[<-cj] at cA;rw[show keyA d=cr from cw.symm] at cA;obtain⟨en,eD⟩:=Ak (min q.u P.en);rw[<-eD] at cA;have gw:min q.u P.en=en:=eD.symm;clear eD err cj cR fs fF;have F:=I hr;clear hr eM eX fv;clear h D hc hn hi hl hR hT fP fI hd fG eR cw Z ct ht
 (try clear ha)
 (try clear bz)
 (try clear cu)
 (try clear cL)
 (try clear eu)
 (try clear et)
 (try clear hP)
 (try clear hql)
 (try clear hpo)
 (try clear eM)
 (try clear ho)
 (try clear eS)
 (try clear h2a)
 (try clear h3a)
 (try clear hY)
 go_enter Tryz.func10,Tryz.ntmps10
 go_upto_region 1 with fail
 rw[<-eW];clear eW
 go_upto_region 3 with(first
  |(go_at_call 25;refine Aj (CT.o _) ?_;rintro wt hw;have hw:=hw.symm;subst hw;clear CT)
  |(refine Wh.Au (by rfl) 31 (.tmp 5) (by rfl) (w.heap.size) 0 (by rfl) cb _ (Wh.Ae HQ.o) Tryz.underlying31 (by rfl) fj.o ?_)
  |(refine LU (by rfl) 92 #[(0,.const (.int .i64 2)),(2,.tmp 25)] (by rfl) gh (by simp only[List.map_toArray,List.map_cons,List.map_nil];exact ec.o) ?_;clear ec)
  |(go_at_call 26;refine Aj (CM.o _ M.o J.o) ?_;rintro wm D;clear CM;replace HQ:=I (HQ.o.below D);replace HD:=I (HD.o.below D);replace E:=I (E.o.below D);replace N:=I (N.o.below D);replace M:=I (M.o.below D);replace J:=I (J.o.below D);clear D)
  |fail)
 go_upto_region 4 with(first
  |(refine Wh.Au (by rfl) 29 (.tmp 33) (by rfl) (w.heap.size) 0 (by rfl) ev _ (gf.o _ HQ.o) Tryz.underlying29 (by rfl) gr.o ?_)
  |(go_at_call 27;refine Calls.mono (CO.o _ N.o.st M.o) ?_;rintro e wo ⟨ca,rfl,hk⟩;clear CO;have cc:=hk.blk HQ.o cm.o.no;have cg:=hk.off cm.o HQ.o.lt;have cf:=hk.blk HD.o cn.o.no;have cd:=hk.off cn.o HD.o.lt;have bx:=hk.blk E.o O.o.no;have aw:=hk.off O.o E.o.lt;have h3:=hk.sl M.o;have h4:=hk.sl J.o;replace HQ:=I cc;replace cm:=I cg;clear cc cg;replace HD:=I cf;replace cn:=I cd;clear cf cd;replace E:=I bx;replace O:=I aw;clear bx aw;replace M:=I h3;replace J:=I h4;clear h3 h4;replace N:=I (N.o.trans hk);clear hk)
  |(refine Wh.By (by rfl) 40 (.tmp 10) (.tmp 37) (by rfl) 40 rfl ck (by rfl) (by rfl) (by rw[gj.o];rfl) fK.o fJ.o ?_;rintro V1 hV D;have HP:=I hV;have cy:=I (N.o.st.offs (Nat.le_refl wo.heap.size));clear hV;replace HQ:=I (HQ.o.below D);replace HD:=I (HD.o.below D);replace E:=I (E.o.below D);replace N:=I (N.o.below D);replace M:=I (M.o.below D);replace J:=I (J.o.below D);clear D)
  |fail)
 by_cases hz:e0=0
 ·subst hz
  replace CX:=I (CX.o rfl);replace CA:=I (CA.o rfl);have bB:=F.o;rw[if_pos rfl] at bB;replace F:=I bB;clear bB
  go_upto_region 7 with(first
   |(refine Wh.Au (by rfl) 36 (.tmp 43) (by rfl) (wo.heap.size) 2 (by rfl) eB _ (fQ.o _ _ HP.o) Tryz.underlying36 (by rfl) gg.o ?_)
   |(go_at_call 28;refine Calls.mono (CN.o _ _ N.o.st) ?_;rintro e wn ⟨xb,rfl,hk⟩;clear CN;have cB:=I (show Hdl ca (some ⟨xb,ksOf P.ss,none,0,0,0⟩) xb (ksOf P.ss) from .inr ⟨_,rfl,rfl,rfl⟩);have cc:=hk.blk HQ.o cm.o.no;have cg:=hk.off cm.o HQ.o.lt;have cf:=hk.blk HD.o cn.o.no;have cd:=hk.off cn.o HD.o.lt;have bx:=hk.blk E.o O.o.no;have aw:=hk.off O.o E.o.lt;have cq:=hk.blk HP.o cy.o.no;have cp:=hk.off cy.o HP.o.lt;have h3:=hk.sl M.o;have h4:=hk.sl J.o;replace HQ:=I cc;replace cm:=I cg;clear cc cg;replace HD:=I cf;replace cn:=I cd;clear cf cd;replace E:=I bx;replace O:=I aw;clear bx aw;replace HP:=I cq;replace cy:=I cp;clear cq cp;replace M:=I h3;replace J:=I h4;clear h3 h4;replace N:=I (N.o.trans hk);clear hk)
   |fail)
  have fX:=gu.o _ HQ.o;have eL:=fL.o _ _ HP.o;have ew:=fi.o _ _ HP.o
  go_upto_region 8 with(first
   |(go_at_call 29;refine Calls.mono (CC.o _ _ _ _ N.o.st cB.o J.o) ?_;rintro e wu ⟨ek,s2,rfl,hk⟩;clear CC;have hx:=hk.hdl cB.o;replace cB:=I hx;clear hx;have cc:=hk.blk HQ.o cm.o.no;have cg:=hk.off cm.o HQ.o.lt;have cf:=hk.blk HD.o cn.o.no;have cd:=hk.off cn.o HD.o.lt;have bx:=hk.blk E.o O.o.no;have aw:=hk.off O.o E.o.lt;have cq:=hk.blk HP.o cy.o.no;have cp:=hk.off cy.o HP.o.lt;have h3:=hk.sl M.o;have h4:=hk.sl J.o;replace HQ:=I cc;replace cm:=I cg;clear cc cg;replace HD:=I cf;replace cn:=I cd;clear cf cd;replace E:=I bx;replace O:=I aw;clear bx aw;replace HP:=I cq;replace cy:=I cp;clear cq cp;replace M:=I h3;replace J:=I h4;clear h3 h4;replace N:=I (N.o.trans hk);clear hk)
   |fail)
  clear fX eL ew
  by_cases hz:e1=0
  ·subst hz
   have bB:=F.o;rw[if_pos rfl] at bB;replace F:=I bB;clear bB
   go_upto_region 10 with(first
    |fail
    |fail)
   have fb:=gp.o _ HQ.o;have eP:=gi.o _ HQ.o
   go_upto_region 11 with(first
    |(go_at_call 30;refine Calls.mono (CG.o _ _ N.o.eq N.o.st.k) ?_;rintro e wr ⟨fy,rfl,D,eo,eT⟩;clear CG;have gn:=I eo.1;have gl:=I eo.2.1;have ey:=I eo.2.2;have fu:=I eT;clear eo eT;(try clear fb eP);replace HQ:=I (HQ.o.below D);replace HD:=I (HD.o.below D);replace E:=I (E.o.below D);replace HP:=I (HP.o.below D);replace N:=I (N.o.below D);replace M:=I (M.o.below D);replace J:=I (J.o.below D);clear D)
    |(refine Wh.By (by rfl) 99 (.tmp 14) (.tmp 62) (by rfl) 99 rfl fy (by rfl) (by rfl) (by rw[gn.o];rfl) ey.o gl.o ?_;rintro V2 hV D;have HT:=I hV;have gy:=I (N.o.st.offs (Nat.le_refl wr.heap.size));clear hV;replace HQ:=I (HQ.o.below D);replace HD:=I (HD.o.below D);replace E:=I (E.o.below D);replace HP:=I (HP.o.below D);replace N:=I (N.o.below D);replace M:=I (M.o.below D);replace J:=I (J.o.below D);clear D)
    |fail)
   (try clear fb eP)
   by_cases hz:e2=0
   ·subst hz
    have bB:=F.o;rw[if_pos rfl] at bB;replace F:=I bB;clear bB
    go_upto_region 13 with(first
     |fail
     |fail)
    go_upto_region 14 with(first
     |(refine Wh.Au (by rfl) 40 (.tmp 10) (by rfl) (wo.heap.size) 0 (by rfl) ck _ (Wh.Ae HP.o) Tryz.underlying40 (by rfl) fK.o ?_)
     |(refine Wh.Au (by rfl) 31 (.tmp 5) (by rfl) (w.heap.size) 0 (by rfl) cb _ (Wh.Ae HQ.o) Tryz.underlying31 (by rfl) fj.o ?_)
     |(go_at_call 31;refine Aj (CX.o _ _ N.o.st.k) ?_;rintro wx D;clear CX;replace HQ:=I (HQ.o.below D);replace HD:=I (HD.o.below D);replace E:=I (E.o.below D);replace HP:=I (HP.o.below D);replace HT:=I (HT.o.below D);replace N:=I (N.o.below D);replace M:=I (M.o.below D);replace J:=I (J.o.below D);clear D)
     |fail)
    by_cases hz:e3=0
    ·subst hz
     have bB:=F.o;rw[if_pos rfl] at bB;replace F:=I bB;clear bB
     go_upto_region 16 with(first
      |fail
      |fail)
     have fV:=gb.o _ HQ.o;have eK:=fN.o _ HQ.o
     by_cases hti:q.u<now
     ·skip
      have er:r=(7,Ms.re0):=by rw[<-F.o,if_pos hti]
      subst er;have d1:decide (q.u<now)=true:=decide_eq_true hti;clear hti;have ed:=E.o.cell 0;have cQ:=E.o.cell 1;have ei:=E.o.cell 2;have eb:=E.o.cell 3;have ea:=E.o.cell 4;have ej:=E.o.cell 5;have ef:=E.o.cell 6;have fz:=E.o.frozen
      go_wp2_with (first
       |fail
       |fail)
      refine bodyPost_ret (v:=.tuple #[.agg reZ,.int .i64 7]) ?_ ?_ ?_
      ·exact Ad (v:=.agg reZ) 8 9 44 ⟨w.heap.size+1+1,0,none⟩ Tryz.results10 rfl (Wh.Al (set7 E.o _ _ _ _ _ _ _) Tryz.underlying44 (by rfl) AM) rfl
      ·rfl
      ·exact Cm ((N.o.put7 (by omega) O.o _ _ _ _ _ _ _).more (by omega)) (by decide)
     ·skip
      have er:rr=r:=by rw[<-F.o,if_neg hti]
      subst er;have d1:decide (q.u<now)=false:=decide_eq_false hti;clear hti
      go_upto_region 18 with(first
       |fail
       |fail)
      have eL:=fL.o _ _ HP.o;have ew:=fi.o _ _ HP.o;have eV:=fM.o _ _ HP.o
      go_upto_region 19 with(first
       |(refine Wh.Au (by rfl) 36 (.tmp 7) (by rfl) (w.heap.size+1) 0 (by rfl) cr _ (Wh.Ae HD.o) Tryz.underlying36 (by rfl) fZ.o ?_)
       |(refine Mc.AN (by rfl) 40 #[(0,.tmp 85),(1,.tmp 86),(2,.tmp 87),(3,.tmp 88),(4,.tmp 93)] (by rfl) cx (by simp only[List.map_toArray,List.map_cons,List.map_nil];exact cA.o) ?_;clear cA)
       |(refine Wh.By (by rfl) 40 (.tmp 16) (.tmp 94) (by rfl) 40 rfl cx (by rfl) (by rfl) (by rw[fU.o];rfl) eJ.o gq.o ?_;rintro V3 hV D;have HV:=I hV;have gx:=I (N.o.st.offs (Nat.le_refl wx.heap.size));clear hV;(try clear fV eK eL ew eV);replace HQ:=I (HQ.o.below D);replace HD:=I (HD.o.below D);replace E:=I (E.o.below D);replace HP:=I (HP.o.below D);replace HT:=I (HT.o.below D);replace N:=I (N.o.below D);replace M:=I (M.o.below D);replace J:=I (J.o.below D);clear D)
       |fail)
      have eK:=fN.o _ HQ.o
      go_wp2_with (first
       |(refine Wh.Au (by rfl) 99 (.tmp 14) (by rfl) (wr.heap.size) 0 (by rfl) fy _ (Wh.Ae HT.o) Tryz.underlying99 (by rfl) ey.o ?_)
       |(refine Wh.Au (by rfl) 40 (.tmp 16) (by rfl) (wx.heap.size) 0 (by rfl) cx _ (Wh.Ae HV.o) Tryz.underlying40 (by rfl) eJ.o ?_)
       |(obtain⟨j3,x3,fO,eN,eH⟩:=fu.o (by simp);have eg:=LW fO eN;rw[LK N.o.eq] at eg;subst eH;go_at_call 32;refine Calls.mono (CA.o _ _ _ _ _ _ _ N.o.st (.inl ⟨j3,x3,eN,rfl,rfl⟩) cB.o eg.1 eg.2.1) ?_;rintro e wa ⟨cP,gv,s9,rfl,eF,hk⟩;clear CA eK eg fO eN fu cB;have hf:=Nr eF;have ff:=I hf.1;have ga:=I hf.2.1;have fH:=I hf.2.2;have fS:=I E.o.lt;have fY:=I N.o.size;have fR:=I eF;clear hf eF HQ HD HP HT HV ey eJ;have bx:=hk.blk E.o O.o.no;have aw:=hk.off O.o E.o.lt;replace E:=I bx;replace O:=I aw;clear bx aw;replace N:=I (N.o.trans hk);clear hk)
       |(refine Wh.Bo (by rfl) 44 (.tmp 8) (.tmp 102) (by rfl) (w.heap.size+1+1) 44 _ E.o cP (by rfl) (by rfl) (by rw[ff.o];rfl) fH.o ga.o ?_;rintro V4 eQ hg;replace E:=I eQ;have HG:=I hg;clear eQ hg ff)
       |fail)
      refine bodyPost_ret (v:=.tuple #[.agg cP,.int .i64 rr.1]) ?_ ?_ ?_
      ·exact Ad (v:=.agg cP) 8 9 44 ⟨w.heap.size+1+1,0,none⟩ Tryz.results10 rfl (Wh.Al E.o Tryz.underlying44 (by rfl) fH.o) rfl
      ·rfl
      ·exact⟨cP,gv,s9,rfl,fR.o.over fY.o fS.o HG.o,(N.o.over (by omega) O.o HG.o).more (by omega)⟩
    ·skip
     have er:r=((e3:Int),Ms.re0):=by rw[<-F.o,if_neg hz]
     subst er;have hz:(e3:Int)≠0:=by omega
     obtain⟨e4,ez⟩:=Ak ((e3:Int));rw[<-ez] at hz;simp only[<-ez];have ed:=E.o.cell 0;have cQ:=E.o.cell 1;have ei:=E.o.cell 2;have eb:=E.o.cell 3;have ea:=E.o.cell 4;have ej:=E.o.cell 5;have ef:=E.o.cell 6;have fz:=E.o.frozen
     go_wp2_with (first
      |fail
      |fail)
     subst ez;refine bodyPost_ret (v:=.tuple #[.agg reZ,.int .i64 (e3:Int)]) ?_ ?_ ?_
     ·exact Ad (v:=.agg reZ) 8 9 44 ⟨w.heap.size+1+1,0,none⟩ Tryz.results10 rfl (Wh.Al (set7 E.o _ _ _ _ _ _ _) Tryz.underlying44 (by rfl) AM) rfl
     ·rfl
     ·exact Cm ((N.o.put7 (by omega) O.o _ _ _ _ _ _ _).more (by omega)) hz
   ·skip
    have er:r=(e2,Ms.re0):=by rw[<-F.o,if_neg hz]
    subst er;have ed:=E.o.cell 0;have cQ:=E.o.cell 1;have ei:=E.o.cell 2;have eb:=E.o.cell 3;have ea:=E.o.cell 4;have ej:=E.o.cell 5;have ef:=E.o.cell 6;have fz:=E.o.frozen
    go_wp2_with (first
     |fail
     |fail)
    refine bodyPost_ret (v:=.tuple #[.agg reZ,.int .i64 e2]) ?_ ?_ ?_
    ·exact Ad (v:=.agg reZ) 8 9 44 ⟨w.heap.size+1+1,0,none⟩ Tryz.results10 rfl (Wh.Al (set7 E.o _ _ _ _ _ _ _) Tryz.underlying44 (by rfl) AM) rfl
    ·rfl
    ·exact Cm ((N.o.put7 (by omega) O.o _ _ _ _ _ _ _).more (by omega)) hz
  ·skip
   have er:r=(e1,Ms.re0):=by rw[<-F.o,if_neg hz]
   subst er;have ed:=E.o.cell 0;have cQ:=E.o.cell 1;have ei:=E.o.cell 2;have eb:=E.o.cell 3;have ea:=E.o.cell 4;have ej:=E.o.cell 5;have ef:=E.o.cell 6;have fz:=E.o.frozen
   go_wp2_with (first
    |fail
    |fail)
   refine bodyPost_ret (v:=.tuple #[.agg reZ,.int .i64 e1]) ?_ ?_ ?_
   ·exact Ad (v:=.agg reZ) 8 9 44 ⟨w.heap.size+1+1,0,none⟩ Tryz.results10 rfl (Wh.Al (set7 E.o _ _ _ _ _ _ _) Tryz.underlying44 (by rfl) AM) rfl
   ·rfl
   ·exact Cm ((N.o.put7 (by omega) O.o _ _ _ _ _ _ _).more (by omega)) hz
 ·skip
  have er:r=(e0,Ms.re0):=by rw[<-F.o,if_neg hz]
  subst er;have ed:=E.o.cell 0;have cQ:=E.o.cell 1;have ei:=E.o.cell 2;have eb:=E.o.cell 3;have ea:=E.o.cell 4;have ej:=E.o.cell 5;have ef:=E.o.cell 6;have fz:=E.o.frozen
  go_wp2_with (first
   |fail
   |fail)
  refine bodyPost_ret (v:=.tuple #[.agg reZ,.int .i64 e0]) ?_ ?_ ?_
  ·exact Ad (v:=.agg reZ) 8 9 44 ⟨w.heap.size+1+1,0,none⟩ Tryz.results10 rfl (Wh.Al (set7 E.o _ _ _ _ _ _ _) Tryz.underlying44 (by rfl) AM) rfl
  ·rfl
  ·exact Cm ((N.o.put7 (by omega) O.o _ _ _ _ _ _ _).more (by omega)) hz
theorem fc {l:List It} {q Y:Ms.Pr} {E:Int} {T:Rt.Tp} {R:Nm.L} (hs:pSm q) (F:R.length<=1000) (D:Sm T) (h:tarL R T l q=(E,Y)):pSm Y:=by
 unfold tarL at h
 split at h
 ·split at h
  ·injection h with _ h;subst h;exact hs
  ·injection h with _ h;subst h;exact Mc.Cj
 ·split at h
  ·rename_i hx
   injection h with _ h;subst h;refine⟨show R.length<=1000000000 by omega,?_⟩;show(krb++nxS T R q.1).length<=1000000000;have hm:=D.rt _ hx.1;have:=LY (a:=R) (b:=q.1) D (by omega) (by omega);have hk:krb.length=7:=by decide
   rw[List.length_append];omega
  ·injection h with _ h;subst h;exact Mc.Cj
theorem bf {q:Tg} {bv av:Value} {d:Nm.L} {now:Int} (h:KS w B p es none n i c) (hc:c<800000) (hn:n<800000) (hi:i<800000) (hl:es.length<=1000) (hR:p.R.length<=1000) (Z:Sm p.T) (hd:d.length=32) (M:SlN (KSO p es none) w bv q.t.b) (F:SlN (KSO p es none) w av q.a) (J:pSm q.t.s) (D:pSm q.s) :
  Calls Tryz.prog 10 #[.pointer (some ⟨p.k,0,none⟩),.agg (tgA q bv av),.int .i64 now,.agg (keyA d)] w (AnsR w B p es none n i (c+6) (tgsL p.R p.T (its es) n q now d)):=by
 unfold tgsL;cases ht:tmB now with
 |false=>exact tgs_1 h hc hn hi hl hR Z hd M F J D ht
 |true=>
  cases ha:tgB q with
  |false=>exact tgs_2 h hc hn hi hl hR Z hd M F J D ht ha
  |true=>
   rw[if_pos (show(true&&true)=true from rfl)];obtain⟨⟨e0,P⟩,ho⟩:∃z,opnL p.R (its es) q.t now=z:=⟨_,rfl⟩;obtain⟨e1,O⟩:∃z,autL P.ss q.a P.c now=z:=⟨_,rfl⟩;obtain⟨⟨e2,Y⟩,E⟩:∃z,tarL p.R p.T (its es) q.s=z:=⟨_,rfl⟩;obtain⟨⟨tr,e3⟩,N⟩:∃z,trsL p.R P q.t.s.1 q.s=z:=⟨_,rfl⟩;have bx:=fun(hz:e0=0)=>(show ptB P=true by have:=(Hm p.R (its es) q.t now).2;rw[ho] at this;exact this hz)
   have hP:P.ss.length=32:=by have:=(Hm p.R (its es) q.t now).1;rw[ho] at this;exact this
   have aw:=Vc ha;have bz:e0=0->tr.length<=1000000000:=fun hz=>by
    have ca:=Hn (bx hz);have:=XC p.R P q.t.s.1 q.s;rw[N] at this;have:tr.length<=P.tr.length+400:=this;omega
   refine XE h hc hn hi hl hR Z hd M F J D ht ha ho O (fc D hR Z E) bz (fun w1 bB he h1=>eU E he hl hR aw.2 Z h1) (fun hz w1 bB h1=>by
    have ca:=Hn (bx hz);exact eY (bv:=bv) (av:=av) N hP (by omega) (by omega) aw.1 (by omega) h1) ?_
   rw[ho];simp only[O,E,N]
   all_goals rfl
end
end Kd
namespace Kd
open Go.RowKit Af Se
open Rg (It Ent Ring RO its BA BH Cv)
open SeL (Bn Bc)
open Ms (Pt Rp Re Tk As Tg Mg Fa pSm mSm tmB asB tgB ptB mgO tgC asC reC as0 tg0 re0 ap0 fa0)
open Nm (krb)
open Rt (nxB nxS Sm)
section
variable {w:World} {B:Nat} {p:KP} {es:List Ent} {s:Option Ss} {n i c:Nat}
def MgK (S:Nat->Prop) (w:World) (ds:Array Value) (m:Mg):Prop:=
 ∃bv av pr pp pf,ds=Mc.mgA m.k (asA m.aq) (tgA m.tg bv av) pr pp pf/\SlN S w bv m.tg.t.b/\SlN S w av m.tg.a/\Mc.MgP w w.heap.size (asA m.aq) (tgA m.tg bv av) pr pp pf m
theorem MgK.size {S:Nat->Prop} {ds:Array Value} {m:Mg} (h:MgK S w ds m):ds.size=30/\ds.all (·.oneCell')=true/\(Tryz.prog.info? 92).map (·.size)=some ds.size:=by
 obtain⟨bv,av,pr,pp,pf,D,_,_,E⟩:=h;have hs:ds.size=30:=by rw[D];exact E.size m.k
 refine⟨hs,by rw[D];exact E.one m.k,by rw[hs];exact Mc.DJ⟩
end
end Kd
end Go.Proofs.YthgignaohimadaaGreat
