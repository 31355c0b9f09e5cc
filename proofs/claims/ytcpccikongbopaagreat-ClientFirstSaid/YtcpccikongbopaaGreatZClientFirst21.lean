import Derived.Test.YtcpccikongbopaaGreatZClientFirst20
set_option maxHeartbeats 25600000
set_option maxRecDepth 100000
set_option linter.unusedVariables false
set_option linter.unusedSimpArgs false
namespace Go.Proofs.YtcpccikongbopaaGreat
namespace Cl
open Go.RowKit Ad Se
open Nm (L krb tgL tgR)
open Ms (Pr tmB pSm mSm mgO mgD mgB An Mg As Tg Re Rp)
open Rg (prV Bh Bt)
open Ca (Cr It crA putL putE)
section
variable {w w' w0:World} {B:Nat} {p:CP} {m m' m0:CM} {s:St} {c:Nat} {r:L}
theorem Ec {P:Program} {fn:Func} {tmps:Array Value} {w:World} {a b c:Value} (i j k:Nat) (D:fn.results=#[.tmp i,.tmp j,.tmp k]) (X:tmps.getD i undef=a) (O:tmps.getD j undef=b) (Y:tmps.getD k undef=c) :
  (results fn tmps).run P w=.ok (.tuple #[a,b,c]) w:=by
 have F:tmps[i]?.getD undef=a:=by simpa using X
 have E:tmps[j]?.getD undef=b:=by simpa using O
 have M:tmps[k]?.getD undef=c:=by simpa using Y
 simp [results,D,F,E,M]
theorem Cl.began (h:Cl w B p m s c) {t:Pr} (E:Chg (fun j=>j=p.k) w w') (O:Blk w' p.k 94 (clA p {m with vv:=.slice none 0 0,ov:=.pointer none,x:=none} (begS s t))):Tu w w' B p m {m with vv:=.slice none 0 0,ov:=.pointer none,x:=none} (begS s t) c:=by
 have M:∀i,i≠0->∀j,Pt p m i j->¬j=p.k:=fun i X j D e=>h.not (i':=0) D X e
 have F:∀i j,Pt p {m with vv:=.slice none 0 0,ov:=.pointer none,x:=none} i j->Pt p m i j:=fun i j D=>by
  match i,D with
  |0,D=>exact D
  |1,D=>exact D
  |2,D=>exact D
  |3,D=>cases D
  |4,D=>obtain⟨z,Y,_⟩:=D;cases Y
  |5,D=>exact D
 refine⟨⟨⟨fun i i' j a b=>h.pa.dis i i' j (F i j a) (F i' j b),fun i j a=>h.pa.lo i j (F i j a),fun i j a=>Nat.lt_of_lt_of_le (h.pa.lt i j (F i j a)) E.size,Nat.le_trans h.pa.hB E.size⟩,O,h.ca.chg E (M 2 (by decide)),h.li,h.box.chg E (M 1 (by decide)),h.bc,Nm.Own.nil _ _,SxR.none,h.sy.chg E (M 5 (by decide)),.inl ⟨rfl,fun _=>rfl⟩⟩,E.mono (fun j _ x=>⟨0,x⟩),fun j D=>by
  obtain⟨i,D⟩:=D;exact .inl ⟨i,F i j D⟩⟩
def ChP (w:World) (B:Nat) (p:CP) (m:CM) (c:Nat) (r:St×(L×L)×Int) (e:Ending) (w':World):Prop:=
 ∃v m',e=.returned (.tuple #[.string ⟨r.2.1.1.toArray⟩,v,.int .i64 r.2.2])/\SlN (Out w p m') w' v r.2.1.2/\Tu w w' B p m m' r.1 c
theorem XQ {t:Pr} (D:Sz p s c) (F:pSm t):Sz p (begS s t) c:=⟨D.nn,D.ss,D.qq,⟨Int.le_refl _,by show(0:Int)<=c;omega⟩,⟨Nat.zero_le _,fun v E=>by cases E⟩,F,D.l,D.x,D.pp⟩
theorem cha_1 {t:Pr} {now:Int} (h:Cl w B p m s c) (hz:Sz p s c) (Z:c<=700000) (hs:pSm t) (F:s.st=1) :
  Calls Tryz.prog 11 #[pv p.k,prV t,.int .i64 now] w (ChP w B p m (c+2) (s,([],[]),16)):=by
 obtain⟨W,D⟩:=Ah (w.alloc (.cells #[.string ⟨t.1.toArray⟩,.string ⟨t.2.toArray⟩] 36));have O:Below w.heap.size w W:=D▸Af.alloc Ae _;have HQ:=I (show Blk W w.heap.size 36 #[.string ⟨t.1.toArray⟩,.string ⟨t.2.toArray⟩] from D▸Blk.new w _ _);have NQ:=I (h.fresh (Nat.le_refl w.heap.size));have M:=I (Tu.start h O);have X:W.cell? ⟨p.k,7,none⟩=some (.int .i64 s.st):=M.o.cl.blk.cell 7;have Y:=I (fun(E:World)=>GS t E hs);have CT:=I (fun(E:World)=>Cp now E);rw[F] at X;clear h hz Z hs O F;go_enter Tryz.func11,Tryz.ntmps11
 go_upto_region 1 with fail
 rw[<-D];clear D
 go_wp2_with fail
 refine bodyPost_ret (v:=.tuple #[.string ⟨#[]⟩,.slice none 0 0,.int .i64 16]) (Ec 6 7 8 Tryz.results11 rfl rfl rfl) (by rfl) ?_;exact⟨.slice none 0 0,_,rfl,SlN.nil _ _,M.o.more (by omega)⟩
theorem cha_4 {t:Pr} {now:Int} (h:Cl w B p m s c) (hz:Sz p s c) (hc:c<=700000) (hs:pSm t) (h1:s.st≠1) (h2:Jt t=true) (h3:tmB now=true) {R:St×(L×L)} (ah:∀(M:World) (m1:CM),Cl M B p m1 (begS s t) c->Calls Tryz.prog 30 #[pv p.k,.int .i64 now] M fun e w2=>∃v m2,e=.returned (.tuple #[.string ⟨p.P.1.toArray⟩,v])/\R.2.1=p.P.1/\SlN (Out M p m2) w2 v R.2.2/\Tu M w2 B p m1 m2 R.1 (c+2)) :
  Calls Tryz.prog 11 #[pv p.k,prV t,.int .i64 now] w (ChP w B p m (c+2) (R.1,R.2,0)):=by
 obtain⟨W,eW⟩:=Ah (w.alloc (.cells #[.string ⟨t.1.toArray⟩,.string ⟨t.2.toArray⟩] 36));have O:Below w.heap.size w W:=eW▸Af.alloc Ae _;have X:=I (show Blk W w.heap.size 36 #[.string ⟨t.1.toArray⟩,.string ⟨t.2.toArray⟩] from eW▸Blk.new w _ _);have NQ:=I (h.fresh (Nat.le_refl w.heap.size));have E:=I (Tu.start h O);have k7:W.cell? ⟨p.k,7,none⟩=some (.int .i64 s.st):=E.o.cl.blk.cell 7;have ab:=I (fun(M:World)=>GS t M hs);have CT:=I (fun(M:World)=>Cp now M);have t1:decide (s.st=1)=false:=decide_eq_false h1;have ax:(s.st==1)=false:=by simp [h1]
 rw[h2] at ab;have CC:=I (fun(M:World)=>MS t M (Nat.le_trans hs.1 (by decide)) (Nat.le_trans hs.2 (by decide)));have CF:=I ah;rw[h3] at CT;clear h hz hc hs O h1 h2 h3 ah;go_enter Tryz.func11,Tryz.ntmps11
 go_upto_region 1 with fail
 rw[<-eW];clear eW;have q0:W.cell? ⟨w.heap.size,0,none⟩=some (.string ⟨t.1.toArray⟩):=X.o.cell 0;have q1:W.cell? ⟨w.heap.size,1,none⟩=some (.string ⟨t.2.toArray⟩):=X.o.cell 1
 go_upto_region 7 with(first
  |(go_at_call 27;refine Ag (ab.o _) ?_;rintro F O;clear ab q0 q1 k7;replace X:=I (X.o.below O);replace E:=I (E.o.below O);clear O)
  |(go_at_call 28;refine Ag (CT.o _) ?_;rintro wt hw;subst hw;clear CT)
  |fail)
 have k7:F.cell? ⟨p.k,7,none⟩=some (.int .i64 s.st):=E.o.cl.blk.cell 7;have k8:F.cell? ⟨p.k,8,none⟩=some (.int .i64 s.er):=E.o.cl.blk.cell 8;have k9:F.cell? ⟨p.k,9,none⟩=some (.int .i64 s.sn):=E.o.cl.blk.cell 9;have fz:=E.o.cl.blk.frozen
 go_upto_region 8 with fail
 obtain⟨V,eV⟩:=Ah (((F.setCell ⟨p.k,7,none⟩ (.int .i64 1)).setCell ⟨p.k,8,none⟩ (.int .i64 0)).setCell ⟨p.k,9,none⟩ (.int .i64 0));have aa:Chg (fun j=>j=p.k) F V:=eV▸(((Chg.refl (fun j=>j=p.k) F).set (p:=⟨p.k,7,none⟩) (.inl rfl) _).set (p:=⟨p.k,8,none⟩) (.inl rfl) _).set (p:=⟨p.k,9,none⟩) (.inl rfl) _;have ad:Blk V p.k 94 #[.string ⟨p.P.1.toArray⟩,.string ⟨p.P.2.toArray⟩,pv p.b,pv p.r,.int .i64 (s.n:Int),.int .i64 (s.s:Int),.int .i64 (s.q:Int),.int .i64 1,.int .i64 0,.int .i64 0,.string ⟨s.tg.1.toArray⟩,.string ⟨s.tg.2.toArray⟩,m.vv,.int .i64 s.ou.no,m.ov,.int .i64 s.ou.u]:=by
  have:=((E.o.cl.blk.set 7 (.int .i64 1)).set 8 (.int .i64 0)).set 9 (.int .i64 0);simp only[List.setIfInBounds_toArray,List.set_cons_zero,List.set_cons_succ] at this;rw[eV];exact this
 have D:=I ad;have ag:=I aa;have aw:=I E.o.cl.blk.lt;replace X:=I (aa.blk X.o (fun x=>NQ.o ⟨0,x⟩));rw[<-eV];clear eV aa ad k7 k8 k9 fz;have q0:V.cell? ⟨w.heap.size,0,none⟩=some (.string ⟨t.1.toArray⟩):=X.o.cell 0;have q1:V.cell? ⟨w.heap.size,1,none⟩=some (.string ⟨t.2.toArray⟩):=X.o.cell 1
 go_upto_region 9 with(first
  |(go_at_call 29;refine Ag (CC.o _) ?_;rintro Y O;clear CC q0 q1;have ai:=I O;replace D:=I (D.o.below O);have au:Y.cell? ⟨p.k,10,none⟩=some (.string ⟨s.tg.1.toArray⟩):=D.o.cell 10;have an:Y.cell? ⟨p.k,11,none⟩=some (.string ⟨s.tg.2.toArray⟩):=D.o.cell 11;have al:Y.cell? ⟨p.k,12,none⟩=some m.vv:=D.o.cell 12;have ar:Y.cell? ⟨p.k,13,none⟩=some (.int .i64 s.ou.no):=D.o.cell 13;have av:Y.cell? ⟨p.k,14,none⟩=some m.ov:=D.o.cell 14;have ao:Y.cell? ⟨p.k,15,none⟩=some (.int .i64 s.ou.u):=D.o.cell 15;have fz:=D.o.frozen;clear O)
  |fail)
 obtain⟨V2,Z⟩:=Ah ((((((Y.setCell ⟨p.k,10,none⟩ (.string ⟨t.1.toArray⟩)).setCell ⟨p.k,11,none⟩ (.string ⟨t.2.toArray⟩)).setCell ⟨p.k,12,none⟩ (.slice none 0 0)).setCell ⟨p.k,13,none⟩ (.int .i64 0)).setCell ⟨p.k,14,none⟩ (.pointer none)).setCell ⟨p.k,15,none⟩ (.int .i64 0));have ae:Chg (fun j=>j=p.k) Y V2:=Z▸((((((Chg.refl (fun j=>j=p.k) Y).set (p:=⟨p.k,10,none⟩) (.inl rfl) _).set (p:=⟨p.k,11,none⟩) (.inl rfl) _).set (p:=⟨p.k,12,none⟩) (.inl rfl) _).set (p:=⟨p.k,13,none⟩) (.inl rfl) _).set (p:=⟨p.k,14,none⟩) (.inl rfl) _).set (p:=⟨p.k,15,none⟩) (.inl rfl) _;have af:Chg (fun j=>j=p.k) F V2:=(ag.o.trans (Chg.of_below ai.o) (fun _ _ x=>x)).trans ae (fun _ _ x=>x);have aj:Blk V2 p.k 94 (clA p {m with vv:=.slice none 0 0,ov:=.pointer none,x:=none} (begS s t)):=by
  have:=(((((D.o.set 10 (.string ⟨t.1.toArray⟩)).set 11 (.string ⟨t.2.toArray⟩)).set 12 (.slice none 0 0)).set 13 (.int .i64 0)).set 14 (.pointer none)).set 15 (.int .i64 0);simp only[List.setIfInBounds_toArray,List.set_cons_zero,List.set_cons_succ] at this;rw[Z];exact this
 have hk:=E.o.cl.began af aj;replace E:=I (E.o.trans hk);rw[<-Z];clear Z ae af aj hk au an al ar av ao fz D ag ai X
 go_wp2_with (first
  |(go_at_call 30;refine Calls.mono (CF.o _ _ E.o.cl) ?_;rintro e w6 ⟨v,m6,rfl,hr,hs,hk⟩;clear CF;have HV:=I (Out.old E.o.size hs);replace E:=I (E.o.trans hk);have ak:=I hr;clear hs hk hr)
  |fail)
 refine bodyPost_ret (v:=.tuple #[.string ⟨p.P.1.toArray⟩,v,.int .i64 0]) (Ec 6 7 8 Tryz.results11 rfl rfl rfl) (by rfl) ?_;exact⟨v,m6,by rw[ak.o],HV.o,E.o⟩
theorem LX (h:Cl w B p m s c):Calls Tryz.prog 17 #[pv p.k] w fun e w'=>e=.returned (.tuple #[.int .i64 s.st,.int .i64 s.er,.int .i64 s.sn])/\Below w.heap.size w w':=by
 have D:w.cell? ⟨p.k,7,none⟩=some (.int .i64 s.st):=h.blk.cell 7;have E:w.cell? ⟨p.k,8,none⟩=some (.int .i64 s.er):=h.blk.cell 8;have k9:w.cell? ⟨p.k,9,none⟩=some (.int .i64 s.sn):=h.blk.cell 9;clear h;go_enter Tryz.func17,Tryz.ntmps17
 go_upto_region 3 with fail
 go_quiet (fail)
 go_wp2
 refine bodyPost_ret (v:=.tuple #[.int .i64 s.st,.int .i64 s.er,.int .i64 s.sn]) (Ec 2 3 4 Tryz.results17 rfl rfl rfl) (by rfl) ?_;exact⟨rfl,below_drewN Af nq⟩
end
open Ms (reB tkB)
section
variable {w w' w0:World} {B:Nat} {p:CP} {m m' m0:CM} {s:St} {c:Nat} {r:L}
theorem Un {S:Nat->Prop} {base:Nat} {v:Value} {l:L} (h:Mc.OwnN w base v l) (hS:∀j,base<=j->¬S j):SlN S w v l:=by
 rcases h with⟨rfl,rfl⟩ | ⟨b,c,rfl,M,E,D,F⟩
 ·exact⟨none,0,rfl,Nat.le_refl _,.inl rfl⟩
 ·exact⟨_,c,rfl,M,.inr ⟨b,0,rfl,D,hS b E,fun i u hu=>by rw[Nat.zero_add];exact F i u hu⟩⟩
theorem XR {b:L} {g:Mg} (h:mgD b=some g) (D:b.length<=100000):mSm g:=by
 rw[Mc.QE] at h
 split at h
 ·injection h with h;subst h;exact Mc.Uk D
 ·cases h
theorem mgD_B {b:L} {g:Mg} (h:mgD b=some g):mgB g=true:=(Ms.BA.1 (Ms.IT.1 h)).1
theorem re_of {b:L} {g:Mg} (h:mgD b=some g) (hk:g.k=3):reB g.re=true:=by
 have D:=mgD_B h;unfold mgB at D;rw[hk] at D;simp only[show ¬(3:Int)=1 by decide,show ¬(3:Int)=2 by decide,if_false,if_true,Bool.and_eq_true] at D;exact D.1
theorem ope_x {q:Re} {x:Cr} (h:opeL p.P s q=some x):x.s=q.t.s/\x.b=q.t.b:=by
 unfold opeL at h
 split at h
 ·split at h
  ·split at h
   ·cases h
   ·split at h
    ·injection h with h;subst h;exact⟨rfl,rfl⟩
    ·cases h
  ·cases h
 ·cases h
theorem Sz.more {c':Nat} (h:Sz p s c) (D:c<=c'):Sz p s c':=⟨Nat.le_trans h.nn D,Nat.le_trans h.ss D,Nat.le_trans h.qq D,⟨h.sn.1,by have:=h.sn.2;omega⟩,⟨Nat.le_trans h.vs.1 D,h.vs.2⟩,h.tg,h.l,h.x,h.pp⟩
def MgK (w0 w:World) (ds:Array Value) (g:Mg):Prop:=
 ∃bv av,SlN (fun j=>j<w0.heap.size) w bv g.re.t.b/\SlN (fun j=>j<w0.heap.size) w av g.re.b/\ds.size=30/\ds.all (·.oneCell')=true/\(Tryz.prog.info? 63).map (·.size)=some ds.size/\
  ∀(w1:World) (b:Nat) (t:TypeId),Blk w1 b t ds->w1.cell? ⟨b,0,none⟩=some (.int .i64 g.k)/\w1.rangeAt b 16 (reA g.re bv av).toList/\w1.cell? ⟨b,28,none⟩=some (.int .i64 g.fa.e)/\w1.cell? ⟨b,29,none⟩=some (.int .i64 g.fa.no)
theorem Je {v:Value} {b:L} {S:Nat->Prop} (Y:SlN S w v b):Calls Tryz.prog 31 #[v] w fun e w'=>∃ds,e=.returned (.tuple #[.agg ds,.int .i64 (Mc.mgI b)])/\MgK w w' ds (Mc.mgG b)/\Below w.heap.size w w':=by
 obtain⟨A,c,rfl,hc,hr⟩:=Y;refine(Mc.VQ A b c w hr.rd).mono ?_;rintro e w' ⟨ds,rfl,⟨pa,pt,pr,pp,pf,D,M⟩,hb⟩;obtain⟨bv,X,Z,h4,h5⟩:=M.r;have h6:pf=#[.int .i64 (Mc.mgG b).fa.e,.int .i64 (Mc.mgG b).fa.no]:=M.f;have h7:pr=reA (Mc.mgG b).re bv X:=Z;subst h6 h7;have E:=M.toV;refine⟨ds,rfl,⟨bv,X,Un h4 (fun j hj=>by omega),Un h5 (fun j hj=>by omega),by rw[D];exact E.size _,by rw[D];exact E.one _,by rw[D,E.size];exact Mc.AQ,fun w1 gb t O=>?_⟩,hb⟩;rw[D] at O;have F:=E.at_ O;exact⟨F.k,F.r,F.f 0 _ rfl,F.f 1 _ rfl⟩
theorem tak_1 {b:L} {v:Value} {now:Int} (h:Cl w B p m s c) (hz:Sz p s c) (Z:c<=700000) (X:b.length<=100000) (M:SlN (AO p m) w v b) (D:s.st≠1) :
  Calls Tryz.prog 14 #[pv p.k,v,.int .i64 now] w (StP w B p m (c+4) (s,([],[]))):=by
 have Y:=I (Tu.refl h);have k7:w.cell? ⟨p.k,7,none⟩=some (.int .i64 s.st):=h.blk.cell 7;have E:=I (fun(F:World)=>Cp now F);have t1:decide (s.st=1)=false:=decide_eq_false D;have O:(s.st != 1)=true:=by simp [D]
 clear h hz Z X M D;go_enter Tryz.func14,Tryz.ntmps14
 go_wp2_with (first
  |(go_at_call 28;refine Ag (E.o _) ?_;rintro wt hw;subst hw;clear E)
  |fail)
 go_ret2
 exact⟨.slice none 0 0,_,rfl,SlN.nil _ _,Y.o.more (by omega)⟩
theorem tak_2 {b:L} {v:Value} {now:Int} (h:Cl w B p m s c) (hz:Sz p s c) (hc:c<=700000) (Y:b.length<=100000) (X:SlN (AO p m) w v b) (F:s.st=1) (E:tmB now=false) :
  Calls Tryz.prog 14 #[pv p.k,v,.int .i64 now] w (StP w B p m (c+4) (s,([],[]))):=by
 have Z:=I (Tu.refl h);have M:w.cell? ⟨p.k,7,none⟩=some (.int .i64 s.st):=h.blk.cell 7;have D:=I (fun(O:World)=>Cp now O);rw[F] at M;rw[E] at D;clear h hz hc Y X F E;go_enter Tryz.func14,Tryz.ntmps14
 go_wp2_with (first
  |(go_at_call 28;refine Ag (D.o _) ?_;rintro wt hw;subst hw;clear D)
  |fail)
 go_ret2
 exact⟨.slice none 0 0,_,rfl,SlN.nil _ _,Z.o.more (by omega)⟩
theorem tak_3 {b:L} {v:Value} {now:Int} (h:Cl w B p m s c) (hz:Sz p s c) (hc:c<=700000) (hl:b.length<=100000) (hv:SlN (AO p m) w v b) (h1:s.st=1) (h2:tmB now=true) (h3:mgD b=none) :
  Calls Tryz.prog 14 #[pv p.k,v,.int .i64 now] w (StP w B p m (c+4) (s,([],[]))):=by
 have D:=I (Tu.refl h);have k7:w.cell? ⟨p.k,7,none⟩=some (.int .i64 s.st):=h.blk.cell 7;have Z:=I (fun(w1:World)=>Cp now w1);rw[h1] at k7;rw[h2] at Z;have Y:=I (Je (S:=AO p m) hv);have F:Mc.mgI b=2:=by unfold Mc.mgI;rw[h3];rfl
 rw[F] at Y;clear h hz hc hl hv h1 h2 h3 F;go_enter Tryz.func14,Tryz.ntmps14
 go_wp2_with (first
  |(go_at_call 28;refine Ag (Z.o _) ?_;rintro wt hw;subst hw;clear Z)
  |(go_at_call 31;refine Calls.mono Y.o ?_;rintro e wd ⟨ds,rfl,⟨bv,av,_,_,hs,ho,F,_⟩,E⟩;clear Y k7;replace D:=I (D.o.below E);have O:=I hs;have M:=I ho;have X:=I F;clear E hs ho F)
  |(refine Wh.Bs (by rfl) 63 (.tmp 8) (.tmp 29) (by rfl) 63 rfl ds (by rfl) (by rfl) (by rw[O.o];rfl) X.o M.o ?_;rintro V1 hV E;replace D:=I (D.o.below E);clear hV E)
  |fail)
 go_ret2
 exact⟨.slice none 0 0,_,rfl,SlN.nil _ _,D.o.more (by omega)⟩
theorem tak_4 {b:L} {v:Value} {now:Int} (h:Cl w B p m s c) (hz:Sz p s c) (hc:c<=700000) (hl:b.length<=100000) (hv:SlN (AO p m) w v b) {g:Mg} (h1:s.st=1) (h2:tmB now=true) (h3:mgD b=some g) (h4:g.k=5) (h5:g.fa.no=s.ou.no) :
  Calls Tryz.prog 14 #[pv p.k,v,.int .i64 now] w (StP w B p m (c+4) (endS mC s 3 g.fa.e,([],[]))):=by
 have D:=I (Tu.refl h);have k7:w.cell? ⟨p.k,7,none⟩=some (.int .i64 s.st):=h.blk.cell 7;have CT:=I (fun(w1:World)=>Cp now w1);rw[h1] at k7;rw[h2] at CT;have CD:=I (Je (S:=AO p m) hv);have Y:Mc.mgI b=0:=by unfold Mc.mgI;rw[h3];rfl
 have hg:Mc.mgG b=g:=by unfold Mc.mgG;rw[h3];rfl
 rw[Y,hg] at CD;have t5:decide (g.fa.no=s.ou.no)=true:=decide_eq_true h5;have aj:(g.fa.no==s.ou.no)=true:=by simp [h5]
 have CE:=I (fun(w1:World) (h1:Cl w1 B p m s c)=>Hq (st:=3) (er:=g.fa.e) h1 (by decide));clear h hz hc hl hv h1 h2 h3 Y hg h5;go_enter Tryz.func14,Tryz.ntmps14
 go_upto_region 6 with(first
  |(go_at_call 28;refine Ag (CT.o _) ?_;rintro wt hw;subst hw;clear CT)
  |(go_at_call 31;refine Calls.mono CD.o ?_;rintro e wd ⟨ds,rfl,⟨bv,av,M,X,hs,ho,Y,Z⟩,E⟩;clear CD k7;have SB:=I (D.o.made M);have SA:=I (D.o.made X);replace D:=I (D.o.below E);have af:=I hs;have ae:=I ho;have ag:=I Y;have O:=I Z;clear E hs ho Y Z M X)
  |(refine Wh.Bs (by rfl) 63 (.tmp 8) (.tmp 29) (by rfl) 63 rfl ds (by rfl) (by rfl) (by rw[af.o];rfl) ag.o ae.o ?_;rintro V1 hV E;have F:=I hV;replace D:=I (D.o.below E);replace SB:=I (SB.o.below E);replace SA:=I (SA.o.below E);clear hV E)
  |fail)
 obtain⟨gm,aa⟩:=Ah (wd.heap.size);rw[<-aa] at F⊢;clear aa;obtain⟨q0,ab,ad,ah⟩:=O.o _ _ _ F.o;have ak:=I ab;clear ab;rw[h4] at q0;have ai:V1.cell? ⟨p.k,13,none⟩=some (.int .i64 s.ou.no):=D.o.cl.blk.cell 13
 go_upto_region 8 with fail
 go_quiet (fail)
 have hd:=below_drewN (Below.refl V1.heap.size V1) nq;replace F:=I (F.o.below hd);replace D:=I (D.o.below hd);clear hd ai q0 ad ah;generalize V1.drewN nq=V3 at F D⊢;have ad:=(O.o _ _ _ F.o).2.2.1
 go_wp2_with (first
  |(go_at_call 32;refine Ag (CE.o _ D.o.cl) ?_;rintro we ⟨me,hk⟩;clear CE;replace D:=I (D.o.trans hk);clear hk)
  |fail)
 go_ret2
 exact⟨.slice none 0 0,_,rfl,SlN.nil _ _,D.o.more (by omega)⟩
theorem tak_5 {b:L} {v:Value} {now:Int} (h:Cl w B p m s c) (hz:Sz p s c) (hc:c<=700000) (hl:b.length<=100000) (hv:SlN (AO p m) w v b) {g:Mg} (h1:s.st=1) (h2:tmB now=true) (h3:mgD b=some g) (h4:g.k=5) (h5:g.fa.no≠s.ou.no) :
  Calls Tryz.prog 14 #[pv p.k,v,.int .i64 now] w (StP w B p m (c+4) (s,([],[]))):=by
 have D:=I (Tu.refl h);have k7:w.cell? ⟨p.k,7,none⟩=some (.int .i64 s.st):=h.blk.cell 7;have CT:=I (fun(w1:World)=>Cp now w1);rw[h1] at k7;rw[h2] at CT;have CD:=I (Je (S:=AO p m) hv);have Y:Mc.mgI b=0:=by unfold Mc.mgI;rw[h3];rfl
 have hg:Mc.mgG b=g:=by unfold Mc.mgG;rw[h3];rfl
 rw[Y,hg] at CD;have t5:decide (g.fa.no=s.ou.no)=false:=decide_eq_false h5;have aj:(g.fa.no==s.ou.no)=false:=by simp [h5]
 clear h hz hc hl hv h1 h2 h3 Y hg h5;go_enter Tryz.func14,Tryz.ntmps14
 go_upto_region 6 with(first
  |(go_at_call 28;refine Ag (CT.o _) ?_;rintro wt hw;subst hw;clear CT)
  |(go_at_call 31;refine Calls.mono CD.o ?_;rintro e wd ⟨ds,rfl,⟨bv,av,M,X,hs,ho,Y,Z⟩,E⟩;clear CD k7;have SB:=I (D.o.made M);have SA:=I (D.o.made X);replace D:=I (D.o.below E);have af:=I hs;have ae:=I ho;have ag:=I Y;have O:=I Z;clear E hs ho Y Z M X)
  |(refine Wh.Bs (by rfl) 63 (.tmp 8) (.tmp 29) (by rfl) 63 rfl ds (by rfl) (by rfl) (by rw[af.o];rfl) ag.o ae.o ?_;rintro V1 hV E;have F:=I hV;replace D:=I (D.o.below E);replace SB:=I (SB.o.below E);replace SA:=I (SA.o.below E);clear hV E)
  |fail)
 obtain⟨gm,aa⟩:=Ah (wd.heap.size);rw[<-aa] at F⊢;clear aa;obtain⟨q0,ab,ad,ah⟩:=O.o _ _ _ F.o;have ak:=I ab;clear ab;rw[h4] at q0;have ai:V1.cell? ⟨p.k,13,none⟩=some (.int .i64 s.ou.no):=D.o.cl.blk.cell 13
 go_upto_region 8 with fail
 go_quiet (fail)
 have hd:=below_drewN (Below.refl V1.heap.size V1) nq;replace F:=I (F.o.below hd);replace D:=I (D.o.below hd);clear hd ai q0 ad ah;generalize V1.drewN nq=V3 at F D⊢;have ad:=(O.o _ _ _ F.o).2.2.1
 go_wp2_with fail
 go_ret2
 exact⟨.slice none 0 0,_,rfl,SlN.nil _ _,D.o.more (by omega)⟩
theorem tak_8 {b:L} {v:Value} {now:Int} (h:Cl w B p m s c) (hz:Sz p s c) (hc:c<=700000) (hl:b.length<=100000) (hv:SlN (AO p m) w v b) {g:Mg} (h1:s.st=1) (h2:tmB now=true) (h3:mgD b=some g) (h4:g.k≠5) (h5:g.k≠3) :
  Calls Tryz.prog 14 #[pv p.k,v,.int .i64 now] w (StP w B p m (c+4) (s,([],[]))):=by
 have D:=I (Tu.refl h);have k7:w.cell? ⟨p.k,7,none⟩=some (.int .i64 s.st):=h.blk.cell 7;have CT:=I (fun(w1:World)=>Cp now w1);rw[h1] at k7;rw[h2] at CT;have CD:=I (Je (S:=AO p m) hv);have O:Mc.mgI b=0:=by unfold Mc.mgI;rw[h3];rfl
 have hg:Mc.mgG b=g:=by unfold Mc.mgG;rw[h3];rfl
 rw[O,hg] at CD;have t4:decide (g.k=5)=false:=decide_eq_false h4;have t5:decide (g.k=3)=false:=decide_eq_false h5;have ah:(g.k==5)=false:=by simp [h4]
 have ai:(g.k==3)=false:=by simp [h5]
 clear h hz hc hl hv h1 h2 h3 O hg h4 h5;go_enter Tryz.func14,Tryz.ntmps14
 go_upto_region 6 with(first
  |(go_at_call 28;refine Ag (CT.o _) ?_;rintro wt hw;subst hw;clear CT)
  |(go_at_call 31;refine Calls.mono CD.o ?_;rintro e wd ⟨ds,rfl,⟨bv,av,F,M,hs,ho,O,X⟩,E⟩;clear CD k7;have SB:=I (D.o.made F);have SA:=I (D.o.made M);replace D:=I (D.o.below E);have ad:=I hs;have aa:=I ho;have ae:=I O;have ab:=I X;clear E hs ho O X F M)
  |(refine Wh.Bs (by rfl) 63 (.tmp 8) (.tmp 29) (by rfl) 63 rfl ds (by rfl) (by rfl) (by rw[ad.o];rfl) ae.o aa.o ?_;rintro V1 hV E;have HM:=I hV;replace D:=I (D.o.below E);replace SB:=I (SB.o.below E);replace SA:=I (SA.o.below E);clear hV E)
  |fail)
 obtain⟨gm,Y⟩:=Ah (wd.heap.size);rw[<-Y] at HM⊢;clear Y;obtain⟨q0,Z,ag,af⟩:=ab.o _ _ _ HM.o;have aj:=I Z;clear Z;clear ag af
 go_wp2_with fail
 go_ret2
 exact⟨.slice none 0 0,_,rfl,SlN.nil _ _,D.o.more (by omega)⟩
theorem tak_6 {b:L} {v:Value} {now:Int} (h:Cl w B p m s c) (hz:Sz p s c) (hc:c<=700000) (hl:b.length<=100000) (hv:SlN (AO p m) w v b) {g:Mg} (h1:s.st=1) (h2:tmB now=true) (h3:mgD b=some g) (hu:s.st=1->s.ou.u≠0) (h4:g.k=3) (h5:opeL p.P s g.re=none) :
  Calls Tryz.prog 14 #[pv p.k,v,.int .i64 now] w (StP w B p m (c+4) (s,([],[]))):=by
 have D:=I (Tu.refl h);have k7:w.cell? ⟨p.k,7,none⟩=some (.int .i64 s.st):=h.blk.cell 7;have CT:=I (fun(M:World)=>Cp now M);rw[h1] at k7;rw[h2] at CT;have CD:=I (Je (S:=AO p m) hv);have F:Mc.mgI b=0:=by unfold Mc.mgI;rw[h3];rfl
 have hg:Mc.mgG b=g:=by unfold Mc.mgG;rw[h3];rfl
 rw[F,hg] at CD;have CO:=I (fun(M:World) (bv av:Value) (ah:Cl M B p m s c) (s1:SlN (AO p m) M bv g.re.t.b) (s2:SlN (AO p m) M av g.re.b)=>QY ah ⟨h1,hu h1⟩ (by omega) s1 s2);rw[h5] at CO;clear h hz hc hl hv h1 h2 h3 F hg h5;go_enter Tryz.func14,Tryz.ntmps14
 go_upto_region 6 with(first
  |(go_at_call 28;refine Ag (CT.o _) ?_;rintro wt hw;subst hw;clear CT)
  |(go_at_call 31;refine Calls.mono CD.o ?_;rintro e wd ⟨ds,rfl,⟨bv,av,Y,O,hs,ho,F,Z⟩,E⟩;clear CD k7;have SB:=I (D.o.made Y);have SA:=I (D.o.made O);replace D:=I (D.o.below E);have ad:=I hs;have ai:=I ho;have al:=I F;have aj:=I Z;clear E hs ho F Z Y O)
  |(refine Wh.Bs (by rfl) 63 (.tmp 8) (.tmp 29) (by rfl) 63 rfl ds (by rfl) (by rfl) (by rw[ad.o];rfl) al.o ai.o ?_;rintro V1 hV E;have HM:=I hV;replace D:=I (D.o.below E);replace SB:=I (SB.o.below E);replace SA:=I (SA.o.below E);clear hV E)
  |fail)
 obtain⟨gm,aa⟩:=Ah (wd.heap.size);rw[<-aa] at HM⊢;clear aa;obtain⟨q0,X,an,ag⟩:=aj.o _ _ _ HM.o;have ae:=I X;clear X;rw[h4] at q0;clear an ag
 go_wp2_with (first
  |(refine Wh.Az (by rfl) 57 (.tmp 56) (by rfl) gm 16 (by rfl) (reA g.re bv av) _ ae.o Tryz.underlying57 (by rfl) (by kernel_rfl) ?_)
  |(go_at_call 33;refine Calls.mono (CO.o _ _ _ D.o.cl SB.o SA.o) ?_;rintro e wo ⟨cs,m4,rfl,hs,ho,F,hx,hk⟩;clear CO q0;have ak:=I hs;have af:=I ho;have ab:=I F;have HX:=I hx;replace D:=I (D.o.trans hk);clear hs ho F hx hk)
  |(refine Wh.Bs (by rfl) 102 (.tmp 10) (.tmp 59) (by rfl) 102 rfl cs (by rfl) (by rfl) (by rw[ak.o];rfl) ab.o af.o ?_;rintro V2 hV E;have HC:=I hV;replace D:=I (D.o.below E);clear hV E)
  |fail)
 go_ret2
 exact⟨.slice none 0 0,_,rfl,SlN.nil _ _,D.o.more (by omega)⟩
theorem tak_7 {b:L} {v:Value} {now:Int} (h:Cl w B p m s c) (hz:Sz p s c) (hc:c<=700000) (hl:b.length<=100000) (hv:SlN (AO p m) w v b) {g:Mg} (h1:s.st=1) (h2:tmB now=true) (h3:mgD b=some g) {x:Cr} (hu:s.st=1->s.ou.u≠0) (h4:g.k=3) (h5:opeL p.P s g.re=some x) :
  Calls Tryz.prog 14 #[pv p.k,v,.int .i64 now] w (StP w B p m (c+4) (goL mC p.P s x now)):=by
 have D:=I (Tu.refl h);have k7:w.cell? ⟨p.k,7,none⟩=some (.int .i64 s.st):=h.blk.cell 7;have CT:=I (fun(F:World)=>Cp now F);rw[h1] at k7;rw[h2] at CT;have CD:=I (Je (S:=AO p m) hv);have M:Mc.mgI b=0:=by unfold Mc.mgI;rw[h3];rfl
 have hg:Mc.mgG b=g:=by unfold Mc.mgG;rw[h3];rfl
 rw[M,hg] at CD;have CO:=I (fun(F:World) (bv av:Value) (O:Cl F B p m s c) (s1:SlN (AO p m) F bv g.re.t.b) (s2:SlN (AO p m) F av g.re.b)=>QY O ⟨h1,hu h1⟩ (by omega) s1 s2);rw[h5] at CO;have ae:=re_of h3 h4;have Z:Okx x:=by
  have e:=ope_x h5;have h6:Ms.prB g.re.c=true/\tkB g.re.t=true/\Ms.Bv g.re.b=true:=by simpa [reB] using ae
  have h7:=Ms.Fj h6.2.1;exact⟨by rw[e.1];exact(XR h3 hl).2.2.1.2,by rw[e.2];omega⟩
 have CG:=I (fun(F:World) (m1:CM) (bv:Value) (O:Cl F B p m1 s (c+1)) (s1:SlN (AO p m1) F bv x.b)=>XP (now:=now) O (hz.more (by omega)) (by omega) Z h2 s1);obtain⟨R,eR⟩:=Ah (goL mC p.P s x now);rw[<-eR] at CG⊢;clear h hz hc hl hv h1 h2 h3 M hg h5 ae Z eR;go_enter Tryz.func14,Tryz.ntmps14
 go_upto_region 6 with(first
  |(go_at_call 28;refine Ag (CT.o _) ?_;rintro wt hw;subst hw;clear CT)
  |(go_at_call 31;refine Calls.mono CD.o ?_;rintro e wd ⟨ds,rfl,⟨bv,av,af,aa,hs,ho,M,ag⟩,E⟩;clear CD k7;have SB:=I (D.o.made af);have SA:=I (D.o.made aa);replace D:=I (D.o.below E);have aj:=I hs;have ao:=I ho;have aw:=I M;have ar:=I ag;clear E hs ho M ag af aa)
  |(refine Wh.Bs (by rfl) 63 (.tmp 8) (.tmp 29) (by rfl) 63 rfl ds (by rfl) (by rfl) (by rw[aj.o];rfl) aw.o ao.o ?_;rintro V1 hV E;have HM:=I hV;replace D:=I (D.o.below E);replace SB:=I (SB.o.below E);replace SA:=I (SA.o.below E);clear hV E)
  |fail)
 obtain⟨gm,ah⟩:=Ah (wd.heap.size);rw[<-ah] at HM⊢;clear ah;obtain⟨q0,ad,ax,an⟩:=ar.o _ _ _ HM.o;have ak:=I ad;clear ad;rw[h4] at q0;clear ax an
 go_upto_region 13 with(first
  |(refine Wh.Az (by rfl) 57 (.tmp 56) (by rfl) gm 16 (by rfl) (reA g.re bv av) _ ak.o Tryz.underlying57 (by rfl) (by kernel_rfl) ?_)
  |(go_at_call 33;refine Calls.mono (CO.o _ _ _ D.o.cl SB.o SA.o) ?_;rintro e wo ⟨cs,m4,rfl,hs,ho,M,Z,hk⟩;clear CO q0;have au:=I hs;have al:=I ho;have X:=I M;have HX:=I Z;replace D:=I (D.o.trans hk);clear hs ho M Z hk)
  |(refine Wh.Bs (by rfl) 102 (.tmp 10) (.tmp 59) (by rfl) 102 rfl cs (by rfl) (by rfl) (by rw[au.o];rfl) X.o al.o ?_;rintro V2 hV E;have HC:=I hV;obtain⟨ab,s1⟩:=HX.o x rfl;replace SB:=I (s1.below E);have ai:=I ab;clear ab s1;replace D:=I (D.o.below E);clear hV E)
  |fail)
 have cg:=CG.o V2 m4 bv D.o.cl SB.o;rw[<-ai.o] at cg;clear CG;obtain⟨gc,Y⟩:=Ah (wo.heap.size);rw[<-Y] at HC⊢;clear Y
 go_wp2_with (first
  |(refine Wh.Az (by rfl) 102 (.tmp 10) (by rfl) gc 0 (by rfl) cs _ (Wh.Ab HC.o) Tryz.underlying102 (by rfl) X.o ?_)
  |(go_at_call 34;refine Calls.mono cg ?_;rintro e w6 ⟨v,m6,rfl,hs,hk⟩;clear cg;have HV:=I (Out.old D.o.size hs);replace D:=I (D.o.trans hk);clear hs hk)
  |fail)
 go_ret2
 exact⟨v,m6,rfl,HV.o,D.o⟩
theorem Wb {b:L} {v:Value} {now:Int} (h:Cl w B p m s c) (hu:s.st=1->s.ou.u≠0) (M:Sz p s c) (F:c<=700000) (E:b.length<=100000) (D:SlN (AO p m) w v b) :
  Calls Tryz.prog 14 #[pv p.k,v,.int .i64 now] w (StP w B p m (c+4) (takL mC p.P s b now)):=by
 unfold takL
 by_cases h1:s.st=1
 ·cases h2:tmB now with
  |false=>rw[if_neg (fun x=>by simp at x)];exact tak_2 h M F E D h1 h2
  |true=>
   rw[if_pos ⟨h1,rfl⟩];cases h3:mgD b with
   |none=>exact tak_3 h M F E D h1 h2 h3
   |some g=>
    simp only
    by_cases h4:g.k=5
    ·rw[if_pos h4]
     by_cases h5:g.fa.no=s.ou.no
     ·rw[if_pos h5];exact tak_4 h M F E D h1 h2 h3 h4 h5
     ·rw[if_neg h5];exact tak_5 h M F E D h1 h2 h3 h4 h5
    ·rw[if_neg h4]
     by_cases h5:g.k=3
     ·rw[if_pos h5]
      cases h6:opeL p.P s g.re with
      |none=>exact tak_6 h M F E D h1 h2 h3 hu h5 h6
      |some x=>exact tak_7 h M F E D h1 h2 h3 hu h5 h6
     ·rw[if_neg h5];exact tak_8 h M F E D h1 h2 h3 h4 h5
 ·rw[if_neg (fun x=>h1 x.1)];exact tak_1 h M F E D h1
end
end Cl
namespace Cl
open Go.RowKit Ad Se
open Nm (L krb tgL tgR)
open Ms (Pr tmB pSm mSm mgO mgD mgB mgE An Mg As Tg Re Rp Tk asB tgB reB tkB prB Bv tmB rpO rpD rpE rpB)
open Ca (Cr It putL putE)
open SeL (BR Ck)
def annP:Pr:=([65],[97,110,110])
def DQ:Pr:=([83],[109,97,105,108])
def k9:Nat->UInt8:=fun i=>if i=0 then 9 else 0
def GU (n:Nat):Nat->UInt8:=fun i=>if i=0 then UInt8.ofNat n else if i=1 then UInt8.ofNat (n / 256) else if i=2 then 3 else 0
structure Pq where
 no:Int
 ks:Nat->UInt8
 u:Int
def pq0:Pq:=⟨0,k9,3⟩
def repP (q:Pq) (s:Pr) (no:Int):Rp:=⟨(List.range 32).map (GU q.no.toNat),s,0,500,no⟩
def repR (q:Pq) (s:Pr) (who:Pr) (no:Int):Re:=⟨who,⟨s,1,[1,2]⟩,(BR q.ks q.u 55 (lO (rpO (repP q s no)))).1⟩
def repL (q:Pq) (s:Pr) (who:Pr) (no:Int):L:=lO (mgO (mRe (repR q s who no)))
theorem krb_7:krb.length=7:=by decide
theorem Uo {q:As} (h:asB q=true):mgO (mAs q)=some (mgE (mAs q))/\mgD (mgE (mAs q))=some (mAs q):=by
 have hB:mgB (mAs q)=true:=by unfold mgB mAs;simp [h]
 have E:prB q.c=true/\prB q.s=true/\tmB q.t=true/\tmB q.no=true:=by simpa [asB] using h
 have O:=(Ms.AP E.1).1;have F:=(Ms.AP E.2.1).1;have Y:=Ms.AB q.t;have Z:=Ms.AB q.no;have X:=Ms.Ax 106 [Ms.prE q.c,Ms.prE q.s,DerP.encI q.t,DerP.encI q.no].flatten;have M:[Ms.prE q.c,Ms.prE q.s,DerP.encI q.t,DerP.encI q.no].flatten.length=(Ms.prE q.c).length+((Ms.prE q.s).length+((DerP.encI q.t).length+(DerP.encI q.no).length)):=by simp
 have D:mgO (mAs q)=some (mgE (mAs q)):=Ms.BA.2 ⟨hB,by show(Ms.asE q).length<=2000;rw[Ms.asE];omega,rfl⟩;exact⟨D,Ms.IT.2 D⟩
theorem XS {q:Tg} (h:tgB q=true):mgO (mTg q)=some (mgE (mTg q))/\mgD (mgE (mTg q))=some (mTg q):=by
 have hB:mgB (mTg q)=true:=by unfold mgB mTg;simp [h]
 have D:tkB q.t=true/\Bv q.a=true/\prB q.s=true/\tmB q.u=true/\tmB q.no=true:=by simpa [tgB] using h
 have Y:=(Ms.BU D.1).1;have X:=Ms.Bc D.2.1;have F:=Ms.Ax 4 q.a;have h3:=(Ms.AP D.2.2.1).1;have h4:=Ms.AB q.u;have Z:=Ms.AB q.no;have O:=Ms.Ax 108 [Ms.tkE q.t,DerP.elem 4 q.a,Ms.prE q.s,DerP.encI q.u,DerP.encI q.no].flatten;have M:[Ms.tkE q.t,DerP.elem 4 q.a,Ms.prE q.s,DerP.encI q.u,DerP.encI q.no].flatten.length=(Ms.tkE q.t).length+((DerP.elem 4 q.a).length+((Ms.prE q.s).length+((DerP.encI q.u).length+(DerP.encI q.no).length))):=by simp
 have E:mgO (mTg q)=some (mgE (mTg q)):=Ms.BA.2 ⟨hB,by show(Ms.tgE q).length<=2000;rw[Ms.tgE];omega,rfl⟩;exact⟨E,Ms.IT.2 E⟩
theorem Ra {q:Re} (h:reB q=true):mgO (mRe q)=some (mgE (mRe q))/\mgD (mgE (mRe q))=some (mRe q):=by
 have hB:mgB (mRe q)=true:=by unfold mgB mRe;simp [h]
 have D:prB q.c=true/\tkB q.t=true/\Bv q.b=true:=by simpa [reB] using h
 have Y:=(Ms.AP D.1).1;have F:=(Ms.BU D.2.1).1;have X:=Ms.Bc D.2.2;have Z:=Ms.Ax 4 q.b;have O:=Ms.Ax 107 [Ms.prE q.c,Ms.tkE q.t,DerP.elem 4 q.b].flatten;have M:[Ms.prE q.c,Ms.tkE q.t,DerP.elem 4 q.b].flatten.length=(Ms.prE q.c).length+((Ms.tkE q.t).length+(DerP.elem 4 q.b).length):=by simp
 have E:mgO (mRe q)=some (mgE (mRe q)):=Ms.BA.2 ⟨hB,by show(Ms.reE q).length<=2000;rw[Ms.reE];omega,rfl⟩;exact⟨E,Ms.IT.2 E⟩
theorem Wc {ks:Nat->UInt8} {u:Int} {N:Nat} {a:An} (E:Ms.anB a=true) (hu:0<=u) (D:u<=255) (F:N<=1000000):Bv (seaL ks u N a)=true:=by
 have h:=Kd.QR E;unfold seaL;rw[Kd.VR E];show Bv (BR ks u (N:Int) (Ms.anE a)).1=true;rw[Kd.JL (by omega) (by omega) (by omega) hu D];show Bv (Dg ks u.toNat _ _)=true;unfold Bv;rw[BJ];simp;omega
theorem XT {P:Pr} {s:St} {x:Cr} {now:Int} (O:prB P=true) (X:tkB (tkOf x)=true) (M:prB s.tg=true) (D:tmB now=true) (h1:s.n<1000000) (h2:s.s<1000000):tgB (furQ P s x now)=true:=by
 have Y:Ms.anB ⟨P,now,0⟩=true:=by unfold Ms.anB;rw[O,D];rfl
 have F:=Wc (ks:=x.k) (u:=7) (N:=s.s+1) Y (by decide) (by decide) (by omega);have h':0<=now/\now<=1073741824:=by simpa [tmB,Ms.inB] using D
 have E:tmB (GH now)=true:=by unfold GH tmB Ms.inB;simp;omega
 have Z:tmB ((s.n+1:Nat):Int)=true:=by unfold tmB Ms.inB;simp;omega
 unfold tgB furQ;simp only;rw[X,F,M,E,Z]
 rfl
theorem Up {P:Pr} {s:St} {now:Int} (F:prB P=true) (D:prB (own P)=true) (E:tmB now=true) (X:s.n<1000000):asB (firQ P s now)=true:=by
 have Y:0<=now/\now<=1073741824:=by simpa [tmB,Ms.inB] using E
 have M:tmB (GH now)=true:=by unfold GH tmB Ms.inB;simp;omega
 have O:tmB ((s.n+1:Nat):Int)=true:=by unfold tmB Ms.inB;simp;omega
 unfold asB firQ;simp only;rw[F,D,M,O]
 rfl
theorem Uq {q:Pq} {s:Pr} {no:Int} (hs:prB s=true) (D:tmB no=true):rpB (repP q s no)=true/\(repP q s no).ss.length=32:=by
 refine⟨?_,by simp [repP]⟩;unfold rpB repP;simp only;rw[hs,D]
 rfl
theorem Rb {q:Pq} {s who:Pr} {no:Int} (hs:prB s=true) (hw:prB who=true) (E:tmB no=true) (hu:0<=q.u) (D:q.u<=255):reB (repR q s who no)=true:=by
 have h:=Uq (q:=q) hs E;have M:=Kd.LU h.2 h.1;have F:Bv (BR q.ks q.u 55 (lO (rpO (repP q s no)))).1=true:=by
  rw[Kd.LV h.2 h.1];show Bv (BR q.ks q.u 55 (rpE (repP q s no))).1=true;rw[Kd.JL (by omega) (by decide) (by decide) hu D];show Bv (Dg _ _ _ _)=true;unfold Bv;rw[BJ];simp;omega
 unfold reB repR;simp only;rw[hw,F];unfold tkB;simp only;rw[hs]
 rfl
theorem XU (n:Nat):∀i,i<32->ksOf ((List.range 32).map (GU n)) i=GU n i:=by
 intro i D;unfold ksOf;rw[List.getD_eq_getElem?_getD,List.getElem?_map,List.getElem?_range D]
 rfl
theorem XV (n:Nat):ksOf ((List.range 32).map (GU n))=GU n:=by
 funext i
 by_cases h:i<32
 ·exact XU n i h
 ·unfold ksOf
  rw[List.getD_eq_getElem?_getD,List.getElem?_eq_none (by simp;omega)];unfold GU;rw[if_neg (by omega),if_neg (by omega),if_neg (by omega)]
  rfl
def gotX (q:Pq) (s:Pr):Cr:=⟨s,1,[1,2],GU q.no.toNat,500⟩
theorem Rc {P:Pr} {s:St} {q:Pq} {v:Pr} (M:q.no=s.ou.no) (E:q.ks=s.ou.ks) (O:q.u=s.ou.u) (hs:prB v=true) (F:tmB q.no=true) (hu:0<=q.u) (D:q.u<=255):opeL P s (repR q v P q.no)=some (gotX q v):=by
 have h:=Uq (q:=q) hs F;have X:=Kd.LU h.2 h.1;unfold opeL;rw[if_pos (show(repR q v P q.no).c=P from rfl)];have e:Ck s.ou.ks s.ou.u (repR q v P q.no).b=(rpE (repP q v q.no),0):=by
  unfold repR;simp only;rw[Kd.LV h.2 h.1,<-E,<-O];exact Kd.Ik (by show(rpE (repP q v q.no)).length<=784;omega) (by decide) (by decide) hu D
 rw[e];simp only[if_true];rw[Kd.VS h.2 h.1];simp only;rw[if_pos (show(repP q v q.no).no=s.ou.no/\(repP q v q.no).s=(repR q v P q.no).t.s from⟨M,rfl⟩)];unfold gotX repR repP;simp only[XV]
theorem Rf {m:Md} {P:Pr} {s:St} {q:Pq} {v:Pr} {now:Int} (E:s.st=1) (Y:tmB now=true) (X:q.no=s.ou.no) (O:q.ks=s.ou.ks) (h3:q.u=s.ou.u) (Z:prB P=true) (hs:prB v=true) (F:tmB q.no=true) (hu:0<=q.u) (D:q.u<=255) :
  takL m P s (repL q v P q.no) now=goL m P s (gotX q v) now:=by
 have M:=Rb (q:=q) hs Z F hu D;unfold takL;rw[if_pos ⟨E,Y⟩];unfold repL;rw[(Ra M).1];show(match mgD (mgE (mRe (repR q v P q.no))) with | none=>_ | some g=>_)=_;rw[(Ra M).2];simp only;rw[if_neg (show ¬(mRe (repR q v P q.no)).k=5 by show ¬(3:Int)=5;decide),if_pos (show(mRe (repR q v P q.no)).k=3 from rfl),show(mRe (repR q v P q.no)).re=repR q v P q.no from rfl,Rc X O h3 hs F hu D]
theorem We {q:Pq} {v who:Pr} {no:Int} (h:prB v=false):repL q v who no = []:=by
 unfold repL mgO Ms.limO;have:mgB (mRe (repR q v who no))=false:=by
  unfold mgB mRe repR;simp [reB,tkB,h]
 rw[this]
 rfl
theorem GV:prB annP=true:=by decide
theorem TA:prB DQ=true:=by decide
theorem Rh:prB (own annP)=true:=by decide
theorem Ov:Jt DQ=true:=by decide
theorem KQ:Jt annP=true:=by decide
def s1 (n:Nat):St:=firS k9 (begS {st0 with n:=n} DQ)
end Cl
namespace Cl
open Go.RowKit Ad Se
open Nm (L krb tgL tgR FF Ev BM)
open Ms (Pr tmB pSm mSm)
open Rg (prV)
open Ca (Ca)
theorem XW (w:World):Calls Tryz.prog 24 #[] w fun e w'=>e=.returned (prV annP)/\Below w.heap.size w w':=by
 obtain⟨W,D⟩:=Ah (w.alloc (.cells #[.string ⟨#[]⟩,.string ⟨#[]⟩] 36));have E:=I (show Blk W w.heap.size 36 #[.string ⟨#[]⟩,.string ⟨#[]⟩] from D▸Blk.new w _ _);have F:=I (show Below w.heap.size w W from D▸Af.alloc Ae _);go_enter Tryz.func24,Tryz.ntmps24
 go_upto_region 1 with fail
 rw[<-D];clear D;have O:=E.o.cell 0;have M:=E.o.cell 1;have Y:=E.o.frozen
 go_wp2
 have X:Blk _ w.heap.size 36 #[.string ⟨annP.1.toArray⟩,.string ⟨annP.2.toArray⟩]:=(E.o.set 0 (.string ⟨annP.1.toArray⟩)).set 1 (.string ⟨annP.2.toArray⟩);refine bodyPost_ret (v:=prV annP) ?_ ?_ ?_
 ·exact Wh.Aj (v:=prV annP) 0 36 ⟨w.heap.size,0,none⟩ Tryz.results24 (by rfl) (Wh.Am X Tryz.underlying36 (by rfl) Rg.AY)
 ·rfl
 ·exact⟨rfl,Si.AS (Si.AS F.o Ae _) Ae _⟩
theorem KR (w:World):Calls Tryz.prog 12 #[] w fun e w'=>e=.returned (prV DQ)/\Below w.heap.size w w':=by
 obtain⟨W,D⟩:=Ah (w.alloc (.cells #[.string ⟨#[]⟩,.string ⟨#[]⟩] 36));have E:=I (show Blk W w.heap.size 36 #[.string ⟨#[]⟩,.string ⟨#[]⟩] from D▸Blk.new w _ _);have F:=I (show Below w.heap.size w W from D▸Af.alloc Ae _);go_enter Tryz.func12,Tryz.ntmps12
 go_upto_region 1 with fail
 rw[<-D];clear D;have O:=E.o.cell 0;have M:=E.o.cell 1;have Y:=E.o.frozen
 go_wp2
 have X:Blk _ w.heap.size 36 #[.string ⟨DQ.1.toArray⟩,.string ⟨DQ.2.toArray⟩]:=(E.o.set 0 (.string ⟨DQ.1.toArray⟩)).set 1 (.string ⟨DQ.2.toArray⟩);refine bodyPost_ret (v:=prV DQ) ?_ ?_ ?_
 ·exact Wh.Aj (v:=prV DQ) 0 36 ⟨w.heap.size,0,none⟩ Tryz.results12 (by rfl) (Wh.Am X Tryz.underlying36 (by rfl) Rg.AY)
 ·rfl
 ·exact⟨rfl,Si.AS (Si.AS F.o Ae _) Ae _⟩
theorem Ri (n:Nat):Tryz.prog.built 31 [(0,.int .u8 ((UInt8.ofNat n).toNat:Int)),(1,.int .u8 ((UInt8.ofNat (n / 256)).toNat:Int)),(2,.int .u8 3)]=some (AT (GU n)):=by kernel_rfl
theorem MW:Tryz.prog.built 31 [(0,.int .u8 9)]=some (AT k9):=by kernel_rfl
theorem Rj (ks:Nat->UInt8):(AT ks).all (·.oneCell')=true:=Se.Vj ks
theorem Rk (n:Nat):IntKind.u8.wrap (n:Int)=((UInt8.ofNat n).toNat:Int):=by
 rw[IntKind.wrap_u8];simp
theorem l_ses (n:Nat) (hn:n<=1000000000000) (w:World):Calls Tryz.prog 22 #[.int .i64 (n:Int)] w fun e w'=>e=.returned (.agg (AT (GU n)))/\Below w.heap.size w w':=by
 have E:=I (Ri n);have hi:(Tryz.prog.info? 31).map (·.size)=some (AT (GU n)).size:=by rw[AR];kernel_rfl
 have O:=I hi;have s1:IntKind.u8.wrap (n:Int)=((UInt8.ofNat n).toNat:Int):=Rk n;have s2:IntKind.u8.wrap ((n:Int) / 256)=((UInt8.ofNat (n / 256)).toNat:Int):=by rw[<-Rk (n / 256)];congr 1
 have s3:IntKind.i64.wrap ((n:Int) / 256)=(n:Int) / 256:=by rw[IntKind.wrap_i64];omega
 obtain⟨cs,D⟩:=Ah (AT (GU n));have HS:=I (show cs.size=32 by rw[D];exact AR _);have HO:=I (show cs.all (·.oneCell')=true by rw[D];exact Rj _);rw[<-D] at O E⊢;clear D hi;obtain⟨W,M⟩:=Ah (w.alloc (.cells #[.int .u8 0,.int .u8 0,.int .u8 0,.int .u8 0,.int .u8 0,.int .u8 0,.int .u8 0,.int .u8 0,.int .u8 0,.int .u8 0,.int .u8 0,.int .u8 0,.int .u8 0,.int .u8 0,.int .u8 0,.int .u8 0,.int .u8 0,.int .u8 0,.int .u8 0,.int .u8 0,.int .u8 0,.int .u8 0,.int .u8 0,.int .u8 0,.int .u8 0,.int .u8 0,.int .u8 0,.int .u8 0,.int .u8 0,.int .u8 0,.int .u8 0,.int .u8 0] 31));have HZ:=I (show ∃z:Array Value,z.size=32/\Blk W w.heap.size 31 z from⟨_,by rfl,M▸Blk.new w _ _⟩);have X:=I (show Below w.heap.size w W from M▸Af.alloc Ae _);go_enter Tryz.func22,Tryz.ntmps22
 go_upto_region 1 with fail
 rw[<-M];clear M;obtain⟨zz,Z,F⟩:=HZ.o;have Y:=I F;clear HZ F
 go_wp2_with (first
  |(refine Mc.Au (by rfl) 31 #[(0,.tmp 4),(1,.tmp 7),(2,.const (.int .u8 3))] (by rfl) cs (by simp only[List.map_toArray,List.map_cons,List.map_nil];exact E.o) ?_;clear E)
  |(refine Wh.BO (by rfl) 31 (.tmp 2) (.tmp 8) (by rfl) w.heap.size 31 zz Y.o cs (by rfl) (by rfl) (by rw[Z,HS.o]) O.o HO.o ?_;rintro V hV hg;have HV:=I hV;replace X:=I (btg X.o hg Ae);clear hV hg)
  |fail)
 refine bodyPost_ret (v:=.agg cs) ?_ ?_ ?_
 ·exact Wh.Aj (v:=.agg cs) 2 31 ⟨w.heap.size,0,none⟩ Tryz.results22 (by rfl) (Wh.Am HV.o Tryz.underlying31 (by rfl) O.o)
 ·rfl
 ·exact⟨rfl,X.o⟩
theorem XX {O w2 M X:World} {B b r k:Nat} {P:Pr} {ks:Nat->UInt8} (hB:B<=O.heap.size) (h1:O.heap.size<=b) (Z:Box w2 b ks none 0 0 0) (hr:Ca M B r (.slice none 0 0) []) (h2:w2.heap.size<=r) (F:Below w2.heap.size w2 M) (E:Below M.heap.size M X) (h3:M.heap.size<=k)
  (hk:Blk X k 94 (clA ⟨k,b,r,P,ks⟩ ⟨.slice none 0 0,[],none,0,0,0,.slice none 0 0,.pointer none,none,none⟩ st0)) (hs:O.heap.size<=w2.heap.size):Cl X B ⟨k,b,r,P,ks⟩ ⟨.slice none 0 0,[],none,0,0,0,.slice none 0 0,.pointer none,none,none⟩ st0 0:=by
 have aa:=Z.lt;have af:=hr.lt;have ad:=F.size;have p1:∀j,Ow b none j->j=b:=fun j D=>by
  rcases D with D | D
  ·exact D
  ·cases D
 have p2:∀j,Ca.CO r (.slice none 0 0) [] j->j=r:=fun j D=>Ca.Xr D
 have key:∀i j,Pt ⟨k,b,r,P,ks⟩ ⟨.slice none 0 0,[],none,0,0,0,.slice none 0 0,.pointer none,none,none⟩ i j->(i=0/\j=k)\/(i=1/\j=b)\/(i=2/\j=r):=fun i j D=>by
  match i,D with
  |0,D=>exact .inl ⟨rfl,D⟩
  |1,D=>exact .inr (.inl ⟨rfl,p1 j D⟩)
  |2,D=>exact .inr (.inr ⟨rfl,p2 j D⟩)
  |3,D=>cases D
  |4,D=>obtain⟨z,Y,_⟩:=D;cases Y
  |5,D=>obtain⟨z,Y,_⟩:=D;cases Y
 have ae:=hk.lt;have ab:=E.size;refine⟨⟨fun i i' j a c=>?_,fun i j a=>?_,fun i j a=>?_,by omega⟩,hk,hr.below E,rfl,(Z.below F).below E,⟨Nat.le_refl _,Nat.le_refl _,Nat.le_refl _⟩,Nm.Own.nil _ _,SxR.none,SxR.none,.inl ⟨rfl,fun e=>by cases e⟩⟩
 ·have:=key i j a
  have:=key i' j c;omega
 ·have:=key i j a
  omega
 ·have:=key i j a
  omega
theorem TB (P:Pr) (b r:Nat) (ks:Nat->UInt8) (k:Nat):Tryz.prog.built 94 [(0,prV P),(1,pv b),(2,pv r)]=some (clA ⟨k,b,r,P,ks⟩ ⟨.slice none 0 0,[],none,0,0,0,.slice none 0 0,.pointer none,none,none⟩ st0):=by kernel_rfl
theorem TC (P:Pr) (ks:Nat->UInt8) (w:World) (hs:pSm P) (hp:Jt P=true):Calls Tryz.prog 25 #[prV P,.agg (AT ks)] w fun e w'=>∃p m,e=.returned (.tuple #[pv p.k,.int .i64 0])/\p.P=P/\p.ks=ks/\Cl w' w.heap.size p m st0 0/\Below w.heap.size w w':=by
 obtain⟨W,eW⟩:=Ah ((w.alloc (.cells #[.string ⟨P.1.toArray⟩,.string ⟨P.2.toArray⟩] 36)).alloc (.cells (AT ks) 31));have E:Below w.heap.size w W:=eW▸(Af.alloc Ae _).alloc (by simp) _;have F:=I (show Blk W w.heap.size 36 #[.string ⟨P.1.toArray⟩,.string ⟨P.2.toArray⟩] from eW▸(Blk.new w _ _).alloc _);have M:=I (show Blk W (w.heap.size+1) 31 (AT ks) by have:=Blk.new (w.alloc (.cells #[.string ⟨P.1.toArray⟩,.string ⟨P.2.toArray⟩] 36)) 31 (AT ks);simp only[World.size_alloc] at this;exact eW▸this);have ag:=I (show(Tryz.prog.info? 31).map (·.size)=some (AT ks).size by rw[AR];kernel_rfl);have X:=I E;have C1:=I (fun(Y:World)=>GS P Y hs);rw[hp] at C1;have C2:=I (fun(Y:World)=>MS P Y (Nat.le_trans hs.1 (by decide)) (Nat.le_trans hs.2 (by decide)));have C3:=I (fun(Y:World)=>Jp ks Y);have C4:=I (fun(Y:World) (h:w.heap.size<=Y.heap.size)=>Ca.Xp w.heap.size Y h);obtain⟨cy,af⟩:=Ah (AT ks);rw[<-af] at C3 M ag eW⊢;have q0:W.cell? ⟨w.heap.size,0,none⟩=some (.string ⟨P.1.toArray⟩):=F.o.cell 0;have q1:W.cell? ⟨w.heap.size,1,none⟩=some (.string ⟨P.2.toArray⟩):=F.o.cell 1;clear E hs hp af;go_enter Tryz.func25,Tryz.ntmps25
 go_upto_region 1 with fail
 rw[<-eW];clear eW
 go_upto_region 3 with(first
  |(go_at_call 27;refine Ag (C1.o _) ?_;rintro Y E;clear C1 q0 q1;replace F:=I (F.o.below E);replace M:=I (M.o.below E);replace X:=X.t E;clear E)
  |fail)
 have Z:Below Y.heap.size Y Y.drew:=below_drewN Af 1;replace F:=I (F.o.below Z);replace M:=I (M.o.below Z);replace X:=X.t Z;clear Z;refine Reg.AN (fun w'=>Blk w' w.heap.size 36 #[.string ⟨P.1.toArray⟩,.string ⟨P.2.toArray⟩]/\Blk w' (w.heap.size+1) 31 cy) 9 rfl (by kernel_rfl) ⟨F.o,M.o⟩ ?_;refine Reg.tw 0 rfl ⟨F.o,M.o⟩ (fun w' hS=>by obtain⟨hQ,hY⟩:=hS;have q0:=hQ.cell 0;have q1:=hQ.cell 1;go_simp<;>rfl) ?_;refine Reg.tw 2 (v:=.agg cy) rfl ⟨F.o,M.o⟩ (fun w' hS=>by obtain⟨hQ,hY⟩:=hS;exact Wh.Cy (.tmp 3) rfl rfl hY Tryz.underlying31 (by rfl) ag.o) ?_;refine Reg.b1 1 ?_
 right
 refine⟨_,_,_,_,_,_,29,#[prV P],rfl,by rfl,(by go_simp<;>first | rfl | exact⟨rfl,rfl⟩),?_⟩;refine Ag (C2.o _) ?_;rintro aw E;replace F:=I (F.o.below E);replace M:=I (M.o.below E);replace X:=X.t E;clear E;clear C2;refine⟨_,rfl,⟨F.o,M.o⟩,?_⟩;simp only[Act.put,J,U,Aa];refine Reg.b1 3 ?_
 right
 have ar:=I X.o.size;refine⟨_,_,_,_,_,_,51,#[.agg cy],rfl,by rfl,(by go_simp<;>first | rfl | exact⟨rfl,rfl⟩),?_⟩;refine Calls.mono (C3.o _) ?_;rintro e O ⟨xb,rfl,h1,hx,E⟩;replace F:=I (F.o.below E);replace M:=I (M.o.below E);replace X:=X.t E;have aj:=I h1;have ak:=I hx;have al:=I E.size;have ae:=I (Below.refl O.heap.size O);clear E;clear C3 h1 hx;refine⟨_,rfl,⟨F.o,M.o⟩,?_⟩;simp only[Act.put,J,U,Aa];refine Reg.b1 4 ?_
 right
 refine⟨_,_,_,_,_,_,54,#[],rfl,by rfl,(by go_simp<;>first | rfl | exact⟨rfl,rfl⟩),?_⟩;refine Ag (C4.o _ X.o.size) ?_;rintro D ⟨ai,E,_⟩;replace F:=I (F.o.below E);replace M:=I (M.o.below E);replace X:=X.t E;replace ae:=ae.t E;have au:=I ai;have aa:=I (Below.refl D.heap.size D);clear E;clear C4 ai;obtain⟨CC,ad⟩:=Ah (clA ⟨D.heap.size,xb,O.heap.size,P,ks⟩ ⟨.slice none 0 0,[],none,0,0,0,.slice none 0 0,.pointer none,none,none⟩ st0);have ao:=I ad;have av:=I (show Tryz.prog.built 94 [(0,prV P),(1,pv xb),(2,pv O.heap.size)]=some CC by rw[ad];exact TB _ _ _ _ _);have an:=I ae.o;clear ad;refine⟨_,rfl,⟨F.o,M.o⟩,?_⟩;simp only[Act.put,J,U,Aa];refine Reg.tw 5 (v:=.agg CC) rfl ⟨F.o,M.o⟩ (fun w' hS=>by obtain⟨hQ,hY⟩:=hS;refine Cd (t:=94) (by rfl) (by simp only[List.map_toArray,List.map_cons,List.map_nil];exact av.o)) ?_;refine Reg.b1 6 ?_
 left
 have E:Below D.heap.size D (D.alloc (.cells CC 94)):=Af.alloc Ae _;have ab:=Blk.new D 94 CC;refine⟨_,_,_,_,_,_,pv D.heap.size,D.alloc (.cells CC 94),rfl,by rfl,(by go_simp<;>rfl),⟨F.o.below E,M.o.below E⟩,?_⟩;simp only[Act.put,J,U,Aa];obtain⟨w9,ah⟩:=Ah (D.alloc (.cells CC 94));rw[<-ah] at E ab⊢;clear ah;replace F:=I (F.o.below E);replace M:=I (M.o.below E);replace X:=X.t E;replace aa:=aa.t E;have HC:=I ab;have H9:=I (aa.o);obtain⟨ax,ek⟩:=Ah (D.heap.size);rw[<-ek] at HC⊢;have EK:=I ek;clear ek E ab;refine Reg.ty 7 rfl ⟨F.o,M.o⟩ ?_;refine Reg.ty 8 rfl ⟨F.o,M.o⟩ ?_;refine wpAnyH_done (by kernel_rfl) ?_ _
 go_wp2
 go_ret2
 have hk:=HC.o;rw[ao.o,EK.o] at hk;exact⟨⟨D.heap.size,xb,O.heap.size,P,ks⟩,_,(by first | rfl | (rw[EK.o];rfl)),rfl,rfl,XX (Nat.le_trans ar.o Ae) aj.o ak.o au.o Ae an.o H9.o Ae hk al.o,X.o⟩
theorem TD (P:Pr) (ks:Nat->UInt8) (w:World) (hs:pSm P) (hp:Jt P=true):Calls Tryz.prog 26 #[prV P,.agg (AT ks)] w fun e w'=>∃x CC,e=.returned (.tuple #[pv x,.int .i64 0])/\w.heap.size<=x/\Tryz.prog.built 140 [(0,prV P),(1,.agg (AT ks))]=some CC/\Blk w' x 140 CC/\Below w.heap.size w w':=by
 obtain⟨W,Y⟩:=Ah ((w.alloc (.cells #[.string ⟨P.1.toArray⟩,.string ⟨P.2.toArray⟩] 36)).alloc (.cells (AT ks) 31));have D:Below w.heap.size w W:=Y▸(Af.alloc Ae _).alloc (by simp) _;have E:=I (show Blk W w.heap.size 36 #[.string ⟨P.1.toArray⟩,.string ⟨P.2.toArray⟩] from Y▸(Blk.new w _ _).alloc _);have Z:=I (show Blk W (w.heap.size+1) 31 (AT ks) by have:=Blk.new (w.alloc (.cells #[.string ⟨P.1.toArray⟩,.string ⟨P.2.toArray⟩] 36)) 31 (AT ks);simp only[World.size_alloc] at this;exact Y▸this);have ad:=I (show(Tryz.prog.info? 31).map (·.size)=some (AT ks).size by rw[AR];kernel_rfl);have F:=I D;have C1:=I (fun(X:World)=>FF P.2 X hs.2);have C2:=I (fun(X:World)=>Ev P.1 P.2 X hs.1 hs.2);have O:BM P.1 P.2=true/\tgL P.2=false:=by
  unfold Jt at hp;rw[Bool.and_eq_true] at hp;exact⟨hp.1,by simpa using hp.2⟩
 rw[O.2] at C1;rw[O.1] at C2;have aa:(Tryz.prog.built 140 [(0,prV P),(1,.agg (AT ks))]).isSome=true:=by kernel_rfl
 obtain⟨CC,ae⟩:=Option.isSome_iff_exists.1 aa;have M:=I ae;clear aa ae;obtain⟨cy,ab⟩:=Ah (AT ks);rw[<-ab] at Z ad Y M⊢;have q1:W.cell? ⟨w.heap.size,1,none⟩=some (.string ⟨P.2.toArray⟩):=E.o.cell 1;clear D hs hp O ab;go_enter Tryz.func26,Tryz.ntmps26
 go_upto_region 1 with fail
 rw[<-Y];clear Y
 go_wp2_with (first
  |(go_at_call 55;refine Ag (C1.o _) ?_;rintro X D;clear C1 q1;replace E:=I (E.o.below D);replace Z:=I (Z.o.below D);replace F:=F.t D;have q0:X.cell? ⟨w.heap.size,0,none⟩=some (.string ⟨P.1.toArray⟩):=E.o.cell 0;have q1:X.cell? ⟨w.heap.size,1,none⟩=some (.string ⟨P.2.toArray⟩):=E.o.cell 1;clear D)
  |(go_at_call 56;refine Ag (C2.o _) ?_;rintro w2 D;clear C2 q0 q1;replace E:=I (E.o.below D);replace Z:=I (Z.o.below D);replace F:=F.t D;have q0:w2.cell? ⟨w.heap.size,0,none⟩=some (.string ⟨P.1.toArray⟩):=E.o.cell 0;have q1:w2.cell? ⟨w.heap.size,1,none⟩=some (.string ⟨P.2.toArray⟩):=E.o.cell 1;clear D)
  |(refine Wh.Az (by rfl) 31 (.tmp 3) (by rfl) (w.heap.size+1) 0 (by rfl) cy _ (Wh.Ab Z.o) Tryz.underlying31 (by rfl) ad.o ?_)
  |(refine Mc.Au (by rfl) 140 #[(0,.tmp 20),(1,.tmp 21)] (by rfl) CC (by simp only[List.map_toArray,List.map_cons,List.map_nil];exact M.o) ?_)
  |fail)
 go_ret2
 exact⟨w2.heap.size,CC,rfl,F.o.size,M.o,Blk.new w2 _ _,F.o.alloc F.o.size _⟩
theorem XY {w:World} {B B':Nat} {p:CP} {m:CM} {s:St} {c:Nat} (h:Cl w B p m s c) (hB:B'<=B):Cl w B' p m s c:=
 ⟨⟨h.pa.dis,fun i j a=>Nat.le_trans hB (h.pa.lo i j a),h.pa.lt,Nat.le_trans hB h.pa.hB⟩,h.blk,⟨h.ca.blk,Ca.Sy h.ca.row hB,Nat.le_trans hB h.ca.lo,h.ca.vr,h.ca.rd,fun e he a D=>have q:=h.ca.off e he a D;⟨Nat.le_trans hB q.1,q.2⟩⟩,h.li,h.box,h.bc,h.vis.from_ hB,h.sx,h.sy,h.ou⟩
abbrev prA (c x:Nat) (q:Pq):Array Value:=(pv c :: pv x :: .int .i64 q.no :: ((AT q.ks).toList++[.int .i64 q.u])).toArray
theorem TG (c x:Nat):Tryz.prog.built 33 [(0,pv c),(1,pv x),(3,.agg (AT k9)),(4,.int .i64 3)]=some (prA c x pq0):=by kernel_rfl
theorem JM (w:World):Calls Tryz.prog 10 #[] w fun e w'=>∃g x p m,e=.returned (pv g)/\p.P=annP/\p.ks=k9/\Cl w' w.heap.size p m st0 0/\¬AO p m g/\Blk w' g 33 (prA p.k x pq0)/\w.heap.size<=g/\Below w.heap.size w w':=by
 have F:pSm annP:=⟨by decide,by decide⟩;have L1:=I (fun(O:World)=>XW O);have C1:=I (fun(O:World)=>TC annP k9 O F KQ);have C2:=I (fun(O:World)=>TD annP k9 O F KQ);have M:=I MW;have ab:=I TG;obtain⟨cy,Y⟩:=Ah (AT k9);rw[<-Y] at C1 C2 M ab;have E:=I (Below.refl w.heap.size w);clear F Y;go_enter Tryz.func10,Tryz.ntmps10
 go_upto_region 2 with(first
  |(go_at_call 24;refine Ag (L1.o _) ?_;rintro O D;replace E:=E.t D;clear D)
  |(refine Mc.Au (by rfl) 31 #[(0,.const (.int .u8 9))] (by rfl) cy (by simp only[List.map_toArray,List.map_cons,List.map_nil];exact M.o) ?_)
  |(go_at_call 25;refine Calls.mono (C1.o _) ?_;rintro e w2 ⟨p,m,rfl,hp,aa,hk,D⟩;clear C1;have HP:=I hp;have ae:=I aa;have X:=I hk;have ad:=I E.o.size;replace E:=E.t D;clear hp aa hk D)
  |fail)
 go_wp2_with (first
  |(go_at_call 24;refine Ag (L1.o _) ?_;rintro w3 D;clear L1;replace E:=E.t D;replace X:=I (X.o.below D);clear D)
  |(refine Mc.Au (by rfl) 31 #[(0,.const (.int .u8 9))] (by rfl) cy (by simp only[List.map_toArray,List.map_cons,List.map_nil];exact M.o) ?_)
  |(go_at_call 26;refine Calls.mono (C2.o _) ?_;rintro e Z ⟨x,CC,rfl,_,_,_,D⟩;clear C2;replace E:=E.t D;replace X:=I (X.o.below D);clear D)
  |(refine Mc.Au (by rfl) 33 #[(0,.tmp 23),(1,.tmp 24),(3,.tmp 25),(4,.const (.int .i64 3))] (by rfl) (prA p.k x pq0) (by simp only[List.map_toArray,List.map_cons,List.map_nil];exact ab.o _ _) ?_)
  |fail)
 go_ret;have D:Below Z.heap.size Z (Z.alloc (.cells (prA p.k x pq0) 33)):=Af.alloc Ae _;exact⟨Z.heap.size,x,p,m,rfl,HP.o,ae.o,(XY X.o ad.o).below D,X.o.fresh Ae,Blk.new Z _ _,E.o.size,E.o.trans (D.mono E.o.size)⟩
end Cl
end Go.Proofs.YtcpccikongbopaaGreat
