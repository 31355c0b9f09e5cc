import Derived.Test.YtlccngianpfalaaGreatZClientRequests21
set_option maxHeartbeats 25600000
set_option maxRecDepth 100000
set_option linter.unusedVariables false
set_option linter.unusedSimpArgs false
namespace Go.Proofs.YtlccngianpfalaaGreat
namespace Cl
open Go.RowKit Ae Se
open Nm (L krb tgL tgR)
open Ms (Pr tmB pSm mSm mgO mgD mgB An Mg As Tg Re Rp)
open Rg (prV Bb BA)
open Ca (Cr It crA putL putE)
section
variable {w w' w0:World} {B:Nat} {p:CP} {m m' m0:CM} {s:St} {c:Nat} {r:L}
theorem EH {P:Program} {fn:Func} {tmps:Array Value} {w:World} {a b c:Value} (i j k:Nat) (M:fn.results=#[.tmp i,.tmp j,.tmp k]) (ha:tmps.getD i undef=a) (Z:tmps.getD j undef=b) (hc:tmps.getD k undef=c) :
  (results fn tmps).run P w=.ok (.tuple #[a,b,c]) w:=by
 have Y:tmps[i]?.getD undef=a:=by simpa using ha
 have O:tmps[j]?.getD undef=b:=by simpa using Z
 have X:tmps[k]?.getD undef=c:=by simpa using hc
 simp [results,M,Y,O,X]
theorem Cl.began (h:Cl w B p m s c) {t:Pr} (O:Chg (fun j=>j=p.k) w w') (hb:Blk w' p.k 88 (clA p {m with vv:=.slice none 0 0,ov:=.pointer none,x:=none} (begS s t))):Tu w w' B p m {m with vv:=.slice none 0 0,ov:=.pointer none,x:=none} (begS s t) c:=by
 have Y:∀i,i≠0->∀j,Pt p m i j->¬j=p.k:=fun i hi j M e=>h.not (i':=0) M hi e
 have X:∀i j,Pt p {m with vv:=.slice none 0 0,ov:=.pointer none,x:=none} i j->Pt p m i j:=fun i j M=>by
  match i,M with
  |0,M=>exact M
  |1,M=>exact M
  |2,M=>exact M
  |3,M=>cases M
  |4,M=>obtain⟨z,Z,_⟩:=M;cases Z
  |5,M=>exact M
 refine⟨⟨⟨fun i i' j a b=>h.pa.dis i i' j (X i j a) (X i' j b),fun i j a=>h.pa.lo i j (X i j a),fun i j a=>Nat.lt_of_lt_of_le (h.pa.lt i j (X i j a)) O.size,Nat.le_trans h.pa.hB O.size⟩,hb,h.ca.chg O (Y 2 (by decide)),h.li,h.box.chg O (Y 1 (by decide)),h.bc,Nm.Own.nil _ _,SxR.none,h.sy.chg O (Y 5 (by decide)),.inl ⟨rfl,fun _=>rfl⟩⟩,O.mono (fun j _ x=>⟨0,x⟩),fun j M=>by
  obtain⟨i,M⟩:=M;exact .inl ⟨i,X i j M⟩⟩
def ChP (w:World) (B:Nat) (p:CP) (m:CM) (c:Nat) (r:St×(L×L)×Int) (e:Ending) (w':World):Prop:=
 ∃v m',e=.returned (.tuple #[.string ⟨r.2.1.1.toArray⟩,v,.int .i64 r.2.2])/\SlN (Out w p m') w' v r.2.1.2/\Tu w w' B p m m' r.1 c
theorem Yu {t:Pr} (M:Sz p s c) (O:pSm t):Sz p (begS s t) c:=⟨M.nn,M.ss,M.qq,⟨Int.le_refl _,by show(0:Int)<=c;omega⟩,⟨Nat.zero_le _,fun v X=>by cases X⟩,O,M.l,M.x,M.pp⟩
theorem cha_1 {t:Pr} {now:Int} (h:Cl w B p m s c) (hz:Sz p s c) (hc:c<=700000) (hs:pSm t) (Z:s.st=1) :
  Calls Tryz.prog 6 #[pv p.k,prV t,.int .i64 now] w (ChP w B p m (c+2) (s,([],[]),16)):=by
 obtain⟨W,M⟩:=Aj (w.alloc (.cells #[.string ⟨t.1.toArray⟩,.string ⟨t.2.toArray⟩] 35));have Y:Below w.heap.size w W:=M▸Ag.alloc Af _;have HQ:=I (show Blk W w.heap.size 35 #[.string ⟨t.1.toArray⟩,.string ⟨t.2.toArray⟩] from M▸Blk.new w _ _);have NQ:=I (h.fresh (Nat.le_refl w.heap.size));have X:=I (Tu.start h Y);have k7:W.cell? ⟨p.k,7,none⟩=some (.int .i64 s.st):=X.o.cl.blk.cell 7;have aa:=I (fun(O:World)=>Ho t O hs);have CT:=I (fun(O:World)=>CK now O);rw[Z] at k7;clear h hz hc hs Y Z;go_enter Tryz.func6,Tryz.ntmps6
 go_upto_region 1 with fail
 rw[<-M];clear M
 go_wp2_with fail
 refine bodyPost_ret (v:=.tuple #[.string ⟨#[]⟩,.slice none 0 0,.int .i64 16]) (EH 6 7 8 Tryz.results6 rfl rfl rfl) (by rfl) ?_;exact⟨.slice none 0 0,_,rfl,SlN.nil _ _,X.o.more (by omega)⟩
theorem cha_4 {t:Pr} {now:Int} (h:Cl w B p m s c) (hz:Sz p s c) (hc:c<=700000) (hs:pSm t) (h1:s.st≠1) (h2:JU t=true) (h3:tmB now=true) {R:St×(L×L)} (ae:∀(Z:World) (m1:CM),Cl Z B p m1 (begS s t) c->Calls Tryz.prog 23 #[pv p.k,.int .i64 now] Z fun e w2=>∃v m2,e=.returned (.tuple #[.string ⟨p.P.1.toArray⟩,v])/\R.2.1=p.P.1/\SlN (Out Z p m2) w2 v R.2.2/\Tu Z w2 B p m1 m2 R.1 (c+2)) :
  Calls Tryz.prog 6 #[pv p.k,prV t,.int .i64 now] w (ChP w B p m (c+2) (R.1,R.2,0)):=by
 obtain⟨W,eW⟩:=Aj (w.alloc (.cells #[.string ⟨t.1.toArray⟩,.string ⟨t.2.toArray⟩] 35));have Y:Below w.heap.size w W:=eW▸Ag.alloc Af _;have HQ:=I (show Blk W w.heap.size 35 #[.string ⟨t.1.toArray⟩,.string ⟨t.2.toArray⟩] from eW▸Blk.new w _ _);have NQ:=I (h.fresh (Nat.le_refl w.heap.size));have O:=I (Tu.start h Y);have k7:W.cell? ⟨p.k,7,none⟩=some (.int .i64 s.st):=O.o.cl.blk.cell 7;have ab:=I (fun(Z:World)=>Ho t Z hs);have CT:=I (fun(Z:World)=>CK now Z);have t1:decide (s.st=1)=false:=decide_eq_false h1;have ay:(s.st==1)=false:=by simp [h1]
 rw[h2] at ab;have CC:=I (fun(Z:World)=>Nx t Z (Nat.le_trans hs.1 (by decide)) (Nat.le_trans hs.2 (by decide)));have CF:=I ae;rw[h3] at CT;clear h hz hc hs Y h1 h2 h3 ae;go_enter Tryz.func6,Tryz.ntmps6
 go_upto_region 1 with fail
 rw[<-eW];clear eW;have q0:=HQ.c0;have q1:=HQ.c1
 go_upto_region 7 with(first
  |(go_at_call 20;refine Ah (ab.o _) ?_;rintro X Y;clear ab q0 q1 k7;replace HQ:=I (HQ.o.below Y);replace O:=I (O.o.below Y);clear Y)
  |(go_at_call 21;refine Ah (CT.o _) ?_;rintro wt hw;subst hw;clear CT)
  |fail)
 have k7:X.cell? ⟨p.k,7,none⟩=some (.int .i64 s.st):=O.o.cl.blk.cell 7;have k8:X.cell? ⟨p.k,8,none⟩=some (.int .i64 s.er):=O.o.cl.blk.cell 8;have k9:X.cell? ⟨p.k,9,none⟩=some (.int .i64 s.sn):=O.o.cl.blk.cell 9;have fz:=O.o.cl.blk.frozen
 go_upto_region 8 with fail
 obtain⟨V,eV⟩:=Aj (((X.setCell ⟨p.k,7,none⟩ (.int .i64 1)).setCell ⟨p.k,8,none⟩ (.int .i64 0)).setCell ⟨p.k,9,none⟩ (.int .i64 0));have ad:Chg (fun j=>j=p.k) X V:=eV▸(((Chg.refl (fun j=>j=p.k) X).set (p:=⟨p.k,7,none⟩) (.inl rfl) _).set (p:=⟨p.k,8,none⟩) (.inl rfl) _).set (p:=⟨p.k,9,none⟩) (.inl rfl) _;have aj:Blk V p.k 88 #[.string ⟨p.P.1.toArray⟩,.string ⟨p.P.2.toArray⟩,pv p.b,pv p.r,.int .i64 (s.n:Int),.int .i64 (s.s:Int),.int .i64 (s.q:Int),.int .i64 1,.int .i64 0,.int .i64 0,.string ⟨s.tg.1.toArray⟩,.string ⟨s.tg.2.toArray⟩,m.vv,.int .i64 s.ou.no,m.ov,.int .i64 s.ou.u]:=by
  have:=((O.o.cl.blk.set 7 (.int .i64 1)).set 8 (.int .i64 0)).set 9 (.int .i64 0);simp only[List.setIfInBounds_toArray,List.set_cons_zero,List.set_cons_succ] at this;rw[eV];exact this
 have M:=I aj;have ah:=I ad;have ax:=I O.o.cl.blk.lt;replace HQ:=I (ad.blk HQ.o (fun x=>NQ.o ⟨0,x⟩));rw[<-eV];clear eV ad aj k7 k8 k9 fz;have q0:=HQ.c0;have q1:=HQ.c1
 go_upto_region 9 with(first
  |(go_at_call 22;refine Ah (CC.o _) ?_;rintro wc Y;clear CC q0 q1;have ai:=I Y;replace M:=I (M.o.below Y);have ar:=M.c10;have av:=M.c11;have au:wc.cell? ⟨p.k,12,none⟩=some m.vv:=M.o.cell 12;have aw:=M.c13;have al:wc.cell? ⟨p.k,14,none⟩=some m.ov:=M.o.cell 14;have ao:=M.c15;have fz:=M.o.frozen;clear Y)
  |fail)
 obtain⟨V2,aa⟩:=Aj ((((((wc.setCell ⟨p.k,10,none⟩ (.string ⟨t.1.toArray⟩)).setCell ⟨p.k,11,none⟩ (.string ⟨t.2.toArray⟩)).setCell ⟨p.k,12,none⟩ (.slice none 0 0)).setCell ⟨p.k,13,none⟩ (.int .i64 0)).setCell ⟨p.k,14,none⟩ (.pointer none)).setCell ⟨p.k,15,none⟩ (.int .i64 0));have ak:Chg (fun j=>j=p.k) wc V2:=aa▸((((((Chg.refl (fun j=>j=p.k) wc).set (p:=⟨p.k,10,none⟩) (.inl rfl) _).set (p:=⟨p.k,11,none⟩) (.inl rfl) _).set (p:=⟨p.k,12,none⟩) (.inl rfl) _).set (p:=⟨p.k,13,none⟩) (.inl rfl) _).set (p:=⟨p.k,14,none⟩) (.inl rfl) _).set (p:=⟨p.k,15,none⟩) (.inl rfl) _;have af:Chg (fun j=>j=p.k) X V2:=(ah.o.trans (Chg.of_below ai.o) (fun _ _ x=>x)).trans ak (fun _ _ x=>x);have ag:Blk V2 p.k 88 (clA p {m with vv:=.slice none 0 0,ov:=.pointer none,x:=none} (begS s t)):=by
  have:=(((((M.o.set 10 (.string ⟨t.1.toArray⟩)).set 11 (.string ⟨t.2.toArray⟩)).set 12 (.slice none 0 0)).set 13 (.int .i64 0)).set 14 (.pointer none)).set 15 (.int .i64 0);simp only[List.setIfInBounds_toArray,List.set_cons_zero,List.set_cons_succ] at this;rw[aa];exact this
 have hk:=O.o.cl.began af ag;replace O:=I (O.o.trans hk);rw[<-aa];clear aa ak af ag hk ar av au aw al ao fz M ah ai HQ
 go_wp2_with (first
  |(go_at_call 23;refine Calls.mono (CF.o _ _ O.o.cl) ?_;rintro e w6 ⟨v,m6,rfl,hr,hs,hk⟩;clear CF;have HV:=I (Out.old O.o.size hs);replace O:=I (O.o.trans hk);have an:=I hr;clear hs hk hr)
  |fail)
 refine bodyPost_ret (v:=.tuple #[.string ⟨p.P.1.toArray⟩,v,.int .i64 0]) (EH 6 7 8 Tryz.results6 rfl rfl rfl) (by rfl) ?_;exact⟨v,m6,by rw[an.o],HV.o,O.o⟩
theorem WM (h:Cl w B p m s c):Calls Tryz.prog 11 #[pv p.k] w fun e w'=>e=.returned (.tuple #[.int .i64 s.st,.int .i64 s.er,.int .i64 s.sn])/\Below w.heap.size w w':=by
 have O:w.cell? ⟨p.k,7,none⟩=some (.int .i64 s.st):=h.blk.cell 7;have M:w.cell? ⟨p.k,8,none⟩=some (.int .i64 s.er):=h.blk.cell 8;have k9:w.cell? ⟨p.k,9,none⟩=some (.int .i64 s.sn):=h.blk.cell 9;clear h;go_enter Tryz.func11,Tryz.ntmps11
 go_upto_region 3 with fail
 go_quiet (fail)
 go_wp2
 refine bodyPost_ret (v:=.tuple #[.int .i64 s.st,.int .i64 s.er,.int .i64 s.sn]) (EH 2 3 4 Tryz.results11 rfl rfl rfl) (by rfl) ?_;exact⟨rfl,below_drewN Ag nq⟩
end
open Ms (reB tkB)
section
variable {w w' w0:World} {B:Nat} {p:CP} {m m' m0:CM} {s:St} {c:Nat} {r:L}
theorem Vd {S:Nat->Prop} {base:Nat} {v:Value} {l:L} (h:Mc.OwnN w base v l) (hS:∀j,base<=j->¬S j):SlN S w v l:=by
 rcases h with⟨rfl,rfl⟩ | ⟨b,c,rfl,X,O,Y,M⟩
 ·exact⟨none,0,rfl,Nat.le_refl _,.inl rfl⟩
 ·exact⟨_,c,rfl,X,.inr ⟨b,0,rfl,Y,hS b O,fun i u hu=>by rw[Nat.zero_add];exact M i u hu⟩⟩
theorem Yv {b:L} {g:Mg} (h:mgD b=some g) (M:b.length<=100000):mSm g:=by
 rw[Mc.Rr] at h
 split at h
 ·injection h with h;subst h;exact Mc.Va M
 ·cases h
theorem mgD_B {b:L} {g:Mg} (h:mgD b=some g):mgB g=true:=(Ms.Br.1 (Ms.Jp.1 h)).1
theorem re_of {b:L} {g:Mg} (h:mgD b=some g) (hk:g.k=3):reB g.re=true:=by
 have M:=mgD_B h;unfold mgB at M;rw[hk] at M;simp only[show ¬(3:Int)=1 by decide,show ¬(3:Int)=2 by decide,if_false,if_true,Bool.and_eq_true] at M;exact M.1
theorem ope_x {q:Re} {x:Cr} (h:opeL p.P s q=some x):x.s=q.t.s/\x.b=q.t.b:=by
 unfold opeL at h
 split at h
 ·split at h
  ·split at h
   ·cases h
   ·split at h
    ·injection h with h;subst h;exact⟨rfl,rfl⟩
    ·cases h
  ·cases h
 ·cases h
theorem Sz.more {c':Nat} (h:Sz p s c) (M:c<=c'):Sz p s c':=⟨Nat.le_trans h.nn M,Nat.le_trans h.ss M,Nat.le_trans h.qq M,⟨h.sn.1,by have:=h.sn.2;omega⟩,⟨Nat.le_trans h.vs.1 M,h.vs.2⟩,h.tg,h.l,h.x,h.pp⟩
def MgK (w0 w:World) (ds:Array Value) (g:Mg):Prop:=
 ∃bv av,SlN (fun j=>j<w0.heap.size) w bv g.re.t.b/\SlN (fun j=>j<w0.heap.size) w av g.re.b/\ds.size=30/\ds.all (·.oneCell')=true/\(Tryz.prog.info? 61).map (·.size)=some ds.size/\
  ∀(w1:World) (b:Nat) (t:TypeId),Blk w1 b t ds->w1.cell? ⟨b,0,none⟩=some (.int .i64 g.k)/\w1.rangeAt b 16 (reA g.re bv av).toList/\w1.cell? ⟨b,28,none⟩=some (.int .i64 g.fa.e)/\w1.cell? ⟨b,29,none⟩=some (.int .i64 g.fa.no)
theorem JE {v:Value} {b:L} {S:Nat->Prop} (hv:SlN S w v b):Calls Tryz.prog 24 #[v] w fun e w'=>∃ds,e=.returned (.tuple #[.agg ds,.int .i64 (Mc.mgI b)])/\MgK w w' ds (Mc.mgG b)/\Below w.heap.size w w':=by
 obtain⟨A,c,rfl,hc,hr⟩:=hv;refine(Mc.Wz A b c w hr.rd).mono ?_;rintro e w' ⟨ds,rfl,⟨pa,pt,pr,pp,pf,O,Y⟩,hb⟩;obtain⟨bv,av,h3,h4,h5⟩:=Y.r;have h6:pf=#[.int .i64 (Mc.mgG b).fa.e,.int .i64 (Mc.mgG b).fa.no]:=Y.f;have h7:pr=reA (Mc.mgG b).re bv av:=h3;subst h6 h7;have M:=Y.toV;refine⟨ds,rfl,⟨bv,av,Vd h4 (fun j hj=>by omega),Vd h5 (fun j hj=>by omega),by rw[O];exact M.size _,by rw[O];exact M.one _,by rw[O,M.size];exact Mc.AT,fun w1 gb t Z=>?_⟩,hb⟩;rw[O] at Z;have X:=M.at_ Z;exact⟨X.k,X.r,X.f 0 _ rfl,X.f 1 _ rfl⟩
theorem tak_1 {b:L} {v:Value} {now:Int} (h:Cl w B p m s c) (Z:Sz p s c) (hc:c<=700000) (hl:b.length<=100000) (Y:SlN (AO p m) w v b) (M:s.st≠1) :
  Calls Tryz.prog 9 #[pv p.k,v,.int .i64 now] w (StP w B p m (c+4) (s,([],[]))):=by
 have X:=I (Tu.refl h);have k7:w.cell? ⟨p.k,7,none⟩=some (.int .i64 s.st):=h.blk.cell 7;have O:=I (fun(w1:World)=>CK now w1);have t1:decide (s.st=1)=false:=decide_eq_false M;have aa:(s.st != 1)=true:=by simp [M]
 clear h Z hc hl Y M;go_enter Tryz.func9,Tryz.ntmps9
 go_wp2_with (first
  |(go_at_call 21;refine Ah (O.o _) ?_;rintro wt hw;subst hw;clear O)
  |fail)
 go_ret2
 exact⟨.slice none 0 0,_,rfl,SlN.nil _ _,X.o.more (by omega)⟩
theorem tak_2 {b:L} {v:Value} {now:Int} (h:Cl w B p m s c) (hz:Sz p s c) (hc:c<=700000) (hl:b.length<=100000) (Z:SlN (AO p m) w v b) (O:s.st=1) (X:tmB now=false) :
  Calls Tryz.prog 9 #[pv p.k,v,.int .i64 now] w (StP w B p m (c+4) (s,([],[]))):=by
 have Y:=I (Tu.refl h);have k7:w.cell? ⟨p.k,7,none⟩=some (.int .i64 s.st):=h.blk.cell 7;have M:=I (fun(w1:World)=>CK now w1);rw[O] at k7;rw[X] at M;clear h hz hc hl Z O X;go_enter Tryz.func9,Tryz.ntmps9
 go_wp2_with (first
  |(go_at_call 21;refine Ah (M.o _) ?_;rintro wt hw;subst hw;clear M)
  |fail)
 go_ret2
 exact⟨.slice none 0 0,_,rfl,SlN.nil _ _,Y.o.more (by omega)⟩
theorem tak_3 {b:L} {v:Value} {now:Int} (h:Cl w B p m s c) (hz:Sz p s c) (hc:c<=700000) (hl:b.length<=100000) (hv:SlN (AO p m) w v b) (h1:s.st=1) (h2:tmB now=true) (h3:mgD b=none) :
  Calls Tryz.prog 9 #[pv p.k,v,.int .i64 now] w (StP w B p m (c+4) (s,([],[]))):=by
 have M:=I (Tu.refl h);have k7:w.cell? ⟨p.k,7,none⟩=some (.int .i64 s.st):=h.blk.cell 7;have CT:=I (fun(w1:World)=>CK now w1);rw[h1] at k7;rw[h2] at CT;have Z:=I (JE (S:=AO p m) hv);have X:Mc.mgI b=2:=by unfold Mc.mgI;rw[h3];rfl
 rw[X] at Z;clear h hz hc hl hv h1 h2 h3 X;go_enter Tryz.func9,Tryz.ntmps9
 go_wp2_with (first
  |(go_at_call 21;refine Ah (CT.o _) ?_;rintro wt hw;subst hw;clear CT)
  |(go_at_call 24;refine Calls.mono Z.o ?_;rintro e wd ⟨ds,rfl,⟨bv,av,_,_,hs,ho,X,_⟩,O⟩;clear Z k7;replace M:=I (M.o.below O);have ab:=I hs;have Y:=I ho;have aa:=I X;clear O hs ho X)
  |(refine Wh.Bh (by rfl) 61 (.tmp 8) (.tmp 29) (by rfl) 61 rfl ds (by rfl) (by rfl) (by rw[ab.o];rfl) aa.o Y.o ?_;rintro V1 hV O;replace M:=I (M.o.below O);clear hV O)
  |fail)
 go_ret2
 exact⟨.slice none 0 0,_,rfl,SlN.nil _ _,M.o.more (by omega)⟩
theorem tak_4 {b:L} {v:Value} {now:Int} (h:Cl w B p m s c) (hz:Sz p s c) (hc:c<=700000) (hl:b.length<=100000) (hv:SlN (AO p m) w v b) {g:Mg} (h1:s.st=1) (h2:tmB now=true) (h3:mgD b=some g) (h4:g.k=5) (h5:g.fa.no=s.ou.no) :
  Calls Tryz.prog 9 #[pv p.k,v,.int .i64 now] w (StP w B p m (c+4) (endS mC s 3 g.fa.e,([],[]))):=by
 have M:=I (Tu.refl h);have k7:w.cell? ⟨p.k,7,none⟩=some (.int .i64 s.st):=h.blk.cell 7;have CT:=I (fun(w1:World)=>CK now w1);rw[h1] at k7;rw[h2] at CT;have CD:=I (JE (S:=AO p m) hv);have hi:Mc.mgI b=0:=by unfold Mc.mgI;rw[h3];rfl
 have hg:Mc.mgG b=g:=by unfold Mc.mgG;rw[h3];rfl
 rw[hi,hg] at CD;have t5:decide (g.fa.no=s.ou.no)=true:=decide_eq_true h5;have al:(g.fa.no==s.ou.no)=true:=by simp [h5]
 have CE:=I (fun(w1:World) (h1:Cl w1 B p m s c)=>Il (st:=3) (er:=g.fa.e) h1 (by decide));clear h hz hc hl hv h1 h2 h3 hi hg h5;go_enter Tryz.func9,Tryz.ntmps9
 go_upto_region 6 with(first
  |(go_at_call 21;refine Ah (CT.o _) ?_;rintro wt hw;subst hw;clear CT)
  |(go_at_call 24;refine Calls.mono CD.o ?_;rintro e wd ⟨ds,rfl,⟨bv,av,af,ab,hs,ho,hi,Y⟩,O⟩;clear CD k7;have SB:=I (M.o.made af);have SA:=I (M.o.made ab);replace M:=I (M.o.below O);have ai:=I hs;have ag:=I ho;have ah:=I hi;have aa:=I Y;clear O hs ho hi Y af ab)
  |(refine Wh.Bh (by rfl) 61 (.tmp 8) (.tmp 29) (by rfl) 61 rfl ds (by rfl) (by rfl) (by rw[ai.o];rfl) ah.o ag.o ?_;rintro V1 hV O;have X:=I hV;replace M:=I (M.o.below O);replace SB:=I (SB.o.below O);replace SA:=I (SA.o.below O);clear hV O)
  |fail)
 obtain⟨gm,Z⟩:=Aj (wd.heap.size);rw[<-Z] at X⊢;clear Z;obtain⟨q0,ad,ae,aj⟩:=aa.o _ _ _ X.o;have an:=I ad;clear ad;rw[h4] at q0;have ak:V1.cell? ⟨p.k,13,none⟩=some (.int .i64 s.ou.no):=M.o.cl.blk.cell 13
 go_upto_region 8 with fail
 go_quiet (fail)
 have hd:=below_drewN (Below.refl V1.heap.size V1) nq;replace X:=I (X.o.below hd);replace M:=I (M.o.below hd);clear hd ak q0 ae aj;generalize V1.drewN nq=V3 at X M⊢;have ae:=(aa.o _ _ _ X.o).2.2.1
 go_wp2_with (first
  |(go_at_call 25;refine Ah (CE.o _ M.o.cl) ?_;rintro we ⟨me,hk⟩;clear CE;replace M:=I (M.o.trans hk);clear hk)
  |fail)
 go_ret2
 exact⟨.slice none 0 0,_,rfl,SlN.nil _ _,M.o.more (by omega)⟩
theorem tak_5 {b:L} {v:Value} {now:Int} (h:Cl w B p m s c) (hz:Sz p s c) (hc:c<=700000) (hl:b.length<=100000) (hv:SlN (AO p m) w v b) {g:Mg} (h1:s.st=1) (h2:tmB now=true) (h3:mgD b=some g) (h4:g.k=5) (h5:g.fa.no≠s.ou.no) :
  Calls Tryz.prog 9 #[pv p.k,v,.int .i64 now] w (StP w B p m (c+4) (s,([],[]))):=by
 have M:=I (Tu.refl h);have k7:w.cell? ⟨p.k,7,none⟩=some (.int .i64 s.st):=h.blk.cell 7;have CT:=I (fun(w1:World)=>CK now w1);rw[h1] at k7;rw[h2] at CT;have CD:=I (JE (S:=AO p m) hv);have hi:Mc.mgI b=0:=by unfold Mc.mgI;rw[h3];rfl
 have hg:Mc.mgG b=g:=by unfold Mc.mgG;rw[h3];rfl
 rw[hi,hg] at CD;have t5:decide (g.fa.no=s.ou.no)=false:=decide_eq_false h5;have al:(g.fa.no==s.ou.no)=false:=by simp [h5]
 clear h hz hc hl hv h1 h2 h3 hi hg h5;go_enter Tryz.func9,Tryz.ntmps9
 go_upto_region 6 with(first
  |(go_at_call 21;refine Ah (CT.o _) ?_;rintro wt hw;subst hw;clear CT)
  |(go_at_call 24;refine Calls.mono CD.o ?_;rintro e wd ⟨ds,rfl,⟨bv,av,af,ab,hs,ho,hi,Y⟩,O⟩;clear CD k7;have SB:=I (M.o.made af);have SA:=I (M.o.made ab);replace M:=I (M.o.below O);have ai:=I hs;have ag:=I ho;have ah:=I hi;have aa:=I Y;clear O hs ho hi Y af ab)
  |(refine Wh.Bh (by rfl) 61 (.tmp 8) (.tmp 29) (by rfl) 61 rfl ds (by rfl) (by rfl) (by rw[ai.o];rfl) ah.o ag.o ?_;rintro V1 hV O;have X:=I hV;replace M:=I (M.o.below O);replace SB:=I (SB.o.below O);replace SA:=I (SA.o.below O);clear hV O)
  |fail)
 obtain⟨gm,Z⟩:=Aj (wd.heap.size);rw[<-Z] at X⊢;clear Z;obtain⟨q0,ad,ae,aj⟩:=aa.o _ _ _ X.o;have an:=I ad;clear ad;rw[h4] at q0;have ak:V1.cell? ⟨p.k,13,none⟩=some (.int .i64 s.ou.no):=M.o.cl.blk.cell 13
 go_upto_region 8 with fail
 go_quiet (fail)
 have hd:=below_drewN (Below.refl V1.heap.size V1) nq;replace X:=I (X.o.below hd);replace M:=I (M.o.below hd);clear hd ak q0 ae aj;generalize V1.drewN nq=V3 at X M⊢;have ae:=(aa.o _ _ _ X.o).2.2.1
 go_wp2_with fail
 go_ret2
 exact⟨.slice none 0 0,_,rfl,SlN.nil _ _,M.o.more (by omega)⟩
theorem tak_8 {b:L} {v:Value} {now:Int} (h:Cl w B p m s c) (hz:Sz p s c) (hc:c<=700000) (hl:b.length<=100000) (hv:SlN (AO p m) w v b) {g:Mg} (h1:s.st=1) (h2:tmB now=true) (h3:mgD b=some g) (h4:g.k≠5) (h5:g.k≠3) :
  Calls Tryz.prog 9 #[pv p.k,v,.int .i64 now] w (StP w B p m (c+4) (s,([],[]))):=by
 have M:=I (Tu.refl h);have k7:w.cell? ⟨p.k,7,none⟩=some (.int .i64 s.st):=h.blk.cell 7;have CT:=I (fun(w1:World)=>CK now w1);rw[h1] at k7;rw[h2] at CT;have CD:=I (JE (S:=AO p m) hv);have hi:Mc.mgI b=0:=by unfold Mc.mgI;rw[h3];rfl
 have hg:Mc.mgG b=g:=by unfold Mc.mgG;rw[h3];rfl
 rw[hi,hg] at CD;have t4:decide (g.k=5)=false:=decide_eq_false h4;have t5:decide (g.k=3)=false:=decide_eq_false h5;have aj:(g.k==5)=false:=by simp [h4]
 have ak:(g.k==3)=false:=by simp [h5]
 clear h hz hc hl hv h1 h2 h3 hi hg h4 h5;go_enter Tryz.func9,Tryz.ntmps9
 go_upto_region 6 with(first
  |(go_at_call 21;refine Ah (CT.o _) ?_;rintro wt hw;subst hw;clear CT)
  |(go_at_call 24;refine Calls.mono CD.o ?_;rintro e wd ⟨ds,rfl,⟨bv,av,ab,Z,hs,ho,hi,X⟩,O⟩;clear CD k7;have SB:=I (M.o.made ab);have SA:=I (M.o.made Z);replace M:=I (M.o.below O);have ah:=I hs;have ae:=I ho;have ag:=I hi;have ad:=I X;clear O hs ho hi X ab Z)
  |(refine Wh.Bh (by rfl) 61 (.tmp 8) (.tmp 29) (by rfl) 61 rfl ds (by rfl) (by rfl) (by rw[ah.o];rfl) ag.o ae.o ?_;rintro V1 hV O;have HM:=I hV;replace M:=I (M.o.below O);replace SB:=I (SB.o.below O);replace SA:=I (SA.o.below O);clear hV O)
  |fail)
 obtain⟨gm,Y⟩:=Aj (wd.heap.size);rw[<-Y] at HM⊢;clear Y;obtain⟨q0,aa,af,ai⟩:=ad.o _ _ _ HM.o;have al:=I aa;clear aa;clear af ai
 go_wp2_with fail
 go_ret2
 exact⟨.slice none 0 0,_,rfl,SlN.nil _ _,M.o.more (by omega)⟩
theorem tak_6 {b:L} {v:Value} {now:Int} (h:Cl w B p m s c) (hz:Sz p s c) (hc:c<=700000) (hl:b.length<=100000) (hv:SlN (AO p m) w v b) {g:Mg} (h1:s.st=1) (h2:tmB now=true) (h3:mgD b=some g) (hu:s.st=1->s.ou.u≠0) (h4:g.k=3) (h5:opeL p.P s g.re=none) :
  Calls Tryz.prog 9 #[pv p.k,v,.int .i64 now] w (StP w B p m (c+4) (s,([],[]))):=by
 have M:=I (Tu.refl h);have k7:w.cell? ⟨p.k,7,none⟩=some (.int .i64 s.st):=h.blk.cell 7;have CT:=I (fun(w1:World)=>CK now w1);rw[h1] at k7;rw[h2] at CT;have CD:=I (JE (S:=AO p m) hv);have X:Mc.mgI b=0:=by unfold Mc.mgI;rw[h3];rfl
 have hg:Mc.mgG b=g:=by unfold Mc.mgG;rw[h3];rfl
 rw[X,hg] at CD;have CO:=I (fun(w1:World) (bv av:Value) (ai:Cl w1 B p m s c) (s1:SlN (AO p m) w1 bv g.re.t.b) (s2:SlN (AO p m) w1 av g.re.b)=>RP ai ⟨h1,hu h1⟩ (by omega) s1 s2);rw[h5] at CO;clear h hz hc hl hv h1 h2 h3 X hg h5;go_enter Tryz.func9,Tryz.ntmps9
 go_upto_region 6 with(first
  |(go_at_call 21;refine Ah (CT.o _) ?_;rintro wt hw;subst hw;clear CT)
  |(go_at_call 24;refine Calls.mono CD.o ?_;rintro e wd ⟨ds,rfl,⟨bv,av,ad,aa,hs,ho,X,Y⟩,O⟩;clear CD k7;have SB:=I (M.o.made ad);have SA:=I (M.o.made aa);replace M:=I (M.o.below O);have ag:=I hs;have aj:=I ho;have an:=I X;have ah:=I Y;clear O hs ho X Y ad aa)
  |(refine Wh.Bh (by rfl) 61 (.tmp 8) (.tmp 29) (by rfl) 61 rfl ds (by rfl) (by rfl) (by rw[ag.o];rfl) an.o aj.o ?_;rintro V1 hV O;have HM:=I hV;replace M:=I (M.o.below O);replace SB:=I (SB.o.below O);replace SA:=I (SA.o.below O);clear hV O)
  |fail)
 obtain⟨gm,Z⟩:=Aj (wd.heap.size);rw[<-Z] at HM⊢;clear Z;obtain⟨q0,ab,ak,ao⟩:=ah.o _ _ _ HM.o;have al:=I ab;clear ab;rw[h4] at q0;clear ak ao
 go_wp2_with (first
  |(refine Wh.AG (by rfl) 55 (.tmp 56) (by rfl) gm 16 (by rfl) (reA g.re bv av) _ al.o Tryz.underlying55 (by rfl) (by kernel_rfl) ?_)
  |(go_at_call 26;refine Calls.mono (CO.o _ _ _ M.o.cl SB.o SA.o) ?_;rintro e wo ⟨cs,m4,rfl,hs,ho,X,hx,hk⟩;clear CO q0;have ae:=I hs;have ar:=I ho;have af:=I X;have HX:=I hx;replace M:=I (M.o.trans hk);clear hs ho X hx hk)
  |(refine Wh.Bh (by rfl) 96 (.tmp 10) (.tmp 59) (by rfl) 96 rfl cs (by rfl) (by rfl) (by rw[ae.o];rfl) af.o ar.o ?_;rintro V2 hV O;have HC:=I hV;replace M:=I (M.o.below O);clear hV O)
  |fail)
 go_ret2
 exact⟨.slice none 0 0,_,rfl,SlN.nil _ _,M.o.more (by omega)⟩
theorem tak_7 {b:L} {v:Value} {now:Int} (h:Cl w B p m s c) (hz:Sz p s c) (hc:c<=700000) (hl:b.length<=100000) (hv:SlN (AO p m) w v b) {g:Mg} (h1:s.st=1) (h2:tmB now=true) (h3:mgD b=some g) {x:Cr} (hu:s.st=1->s.ou.u≠0) (h4:g.k=3) (h5:opeL p.P s g.re=some x) :
  Calls Tryz.prog 9 #[pv p.k,v,.int .i64 now] w (StP w B p m (c+4) (goL mC p.P s x now)):=by
 have M:=I (Tu.refl h);have k7:w.cell? ⟨p.k,7,none⟩=some (.int .i64 s.st):=h.blk.cell 7;have CT:=I (fun(X:World)=>CK now X);rw[h1] at k7;rw[h2] at CT;have CD:=I (JE (S:=AO p m) hv);have Y:Mc.mgI b=0:=by unfold Mc.mgI;rw[h3];rfl
 have hg:Mc.mgG b=g:=by unfold Mc.mgG;rw[h3];rfl
 rw[Y,hg] at CD;have CO:=I (fun(X:World) (bv av:Value) (Z:Cl X B p m s c) (s1:SlN (AO p m) X bv g.re.t.b) (s2:SlN (AO p m) X av g.re.b)=>RP Z ⟨h1,hu h1⟩ (by omega) s1 s2);rw[h5] at CO;have af:=re_of h3 h4;have hx:Okx x:=by
  have e:=ope_x h5;have h6:Ms.prB g.re.c=true/\tkB g.re.t=true/\Ms.Bv g.re.b=true:=by simpa [reB] using af
  have h7:=Ms.DS h6.2.1;exact⟨by rw[e.1];exact(Yv h3 hl).2.2.1.2,by rw[e.2];omega⟩
 have CG:=I (fun(X:World) (m1:CM) (bv:Value) (Z:Cl X B p m1 s (c+1)) (s1:SlN (AO p m1) X bv x.b)=>Yt (now:=now) Z (hz.more (by omega)) (by omega) hx h2 s1);obtain⟨R,eR⟩:=Aj (goL mC p.P s x now);rw[<-eR] at CG⊢;clear h hz hc hl hv h1 h2 h3 Y hg h5 af hx eR;go_enter Tryz.func9,Tryz.ntmps9
 go_upto_region 6 with(first
  |(go_at_call 21;refine Ah (CT.o _) ?_;rintro wt hw;subst hw;clear CT)
  |(go_at_call 24;refine Calls.mono CD.o ?_;rintro e wd ⟨ds,rfl,⟨bv,av,aj,ad,hs,ho,Y,aa⟩,O⟩;clear CD k7;have SB:=I (M.o.made aj);have SA:=I (M.o.made ad);replace M:=I (M.o.below O);have an:=I hs;have ar:=I ho;have ax:=I Y;have ao:=I aa;clear O hs ho Y aa aj ad)
  |(refine Wh.Bh (by rfl) 61 (.tmp 8) (.tmp 29) (by rfl) 61 rfl ds (by rfl) (by rfl) (by rw[an.o];rfl) ax.o ar.o ?_;rintro V1 hV O;have HM:=I hV;replace M:=I (M.o.below O);replace SB:=I (SB.o.below O);replace SA:=I (SA.o.below O);clear hV O)
  |fail)
 obtain⟨gm,ab⟩:=Aj (wd.heap.size);rw[<-ab] at HM⊢;clear ab;obtain⟨q0,ae,au,ay⟩:=ao.o _ _ _ HM.o;have aw:=I ae;clear ae;rw[h4] at q0;clear au ay
 go_upto_region 13 with(first
  |(refine Wh.AG (by rfl) 55 (.tmp 56) (by rfl) gm 16 (by rfl) (reA g.re bv av) _ aw.o Tryz.underlying55 (by rfl) (by kernel_rfl) ?_)
  |(go_at_call 26;refine Calls.mono (CO.o _ _ _ M.o.cl SB.o SA.o) ?_;rintro e wo ⟨cs,m4,rfl,hs,ho,Y,hx,hk⟩;clear CO q0;have ak:=I hs;have az:=I ho;have ag:=I Y;have HX:=I hx;replace M:=I (M.o.trans hk);clear hs ho Y hx hk)
  |(refine Wh.Bh (by rfl) 96 (.tmp 10) (.tmp 59) (by rfl) 96 rfl cs (by rfl) (by rfl) (by rw[ak.o];rfl) ag.o az.o ?_;rintro V2 hV O;have HC:=I hV;obtain⟨ah,s1⟩:=HX.o x rfl;replace SB:=I (s1.below O);have al:=I ah;clear ah s1;replace M:=I (M.o.below O);clear hV O)
  |fail)
 have cg:=CG.o V2 m4 bv M.o.cl SB.o;rw[<-al.o] at cg;clear CG;obtain⟨gc,ai⟩:=Aj (wo.heap.size);rw[<-ai] at HC⊢;clear ai
 go_wp2_with (first
  |(refine Wh.AG (by rfl) 96 (.tmp 10) (by rfl) gc 0 (by rfl) cs _ (Wh.Ac HC.o) Tryz.underlying96 (by rfl) ag.o ?_)
  |(go_at_call 27;refine Calls.mono cg ?_;rintro e w6 ⟨v,m6,rfl,hs,hk⟩;clear cg;have HV:=I (Out.old M.o.size hs);replace M:=I (M.o.trans hk);clear hs hk)
  |fail)
 go_ret2
 exact⟨v,m6,rfl,HV.o,M.o⟩
theorem WN {b:L} {v:Value} {now:Int} (h:Cl w B p m s c) (hu:s.st=1->s.ou.u≠0) (M:Sz p s c) (O:c<=700000) (X:b.length<=100000) (Y:SlN (AO p m) w v b) :
  Calls Tryz.prog 9 #[pv p.k,v,.int .i64 now] w (StP w B p m (c+4) (takL mC p.P s b now)):=by
 unfold takL
 by_cases h1:s.st=1
 ·cases h2:tmB now with
  |false=>rw[if_neg (fun x=>by simp at x)];exact tak_2 h M O X Y h1 h2
  |true=>
   rw[if_pos ⟨h1,rfl⟩];cases h3:mgD b with
   |none=>exact tak_3 h M O X Y h1 h2 h3
   |some g=>
    simp only
    by_cases h4:g.k=5
    ·rw[if_pos h4]
     by_cases h5:g.fa.no=s.ou.no
     ·rw[if_pos h5];exact tak_4 h M O X Y h1 h2 h3 h4 h5
     ·rw[if_neg h5];exact tak_5 h M O X Y h1 h2 h3 h4 h5
    ·rw[if_neg h4]
     by_cases h5:g.k=3
     ·rw[if_pos h5]
      cases h6:opeL p.P s g.re with
      |none=>exact tak_6 h M O X Y h1 h2 h3 hu h5 h6
      |some x=>exact tak_7 h M O X Y h1 h2 h3 hu h5 h6
     ·rw[if_neg h5];exact tak_8 h M O X Y h1 h2 h3 h4 h5
 ·rw[if_neg (fun x=>h1 x.1)];exact tak_1 h M O X Y h1
end
end Cl
namespace Cl
open Go.RowKit Ae Se
open Nm (L krb tgL tgR)
open Ms (Pr tmB pSm mSm mgO mgD mgB mgE An Mg As Tg Re Rp Tk asB tgB reB tkB prB Bv tmB rpO rpD rpE rpB)
open Ca (Cr It putL putE)
open SeL (Ce BX)
def annP:Pr:=([65],[97,110,110])
def DP:Pr:=([83],[109,97,105,108])
def k9:Nat->UInt8:=fun i=>if i=0 then 9 else 0
def FI (n:Nat):Nat->UInt8:=fun i=>if i=0 then UInt8.ofNat n else if i=1 then UInt8.ofNat (n / 256) else if i=2 then 3 else 0
structure Pq where
 no:Int
 ks:Nat->UInt8
 u:Int
def pq0:Pq:=⟨0,k9,3⟩
def repP (q:Pq) (s:Pr) (no:Int):Rp:=⟨(List.range 32).map (FI q.no.toNat),s,0,500,no⟩
def repR (q:Pq) (s:Pr) (who:Pr) (no:Int):Re:=⟨who,⟨s,1,[1,2]⟩,(Ce q.ks q.u 55 (lO (rpO (repP q s no)))).1⟩
def repL (q:Pq) (s:Pr) (who:Pr) (no:Int):L:=lO (mgO (mRe (repR q s who no)))
theorem krb_7:krb.length=7:=by decide
theorem RU {q:As} (h:asB q=true):mgO (mAs q)=some (mgE (mAs q))/\mgD (mgE (mAs q))=some (mAs q):=by
 have hB:mgB (mAs q)=true:=by unfold mgB mAs;simp [h]
 have M:prB q.c=true/\prB q.s=true/\tmB q.t=true/\tmB q.no=true:=by simpa [asB] using h
 have X:=(Ms.AV M.1).1;have h2:=(Ms.AV M.2.1).1;have Z:=Ms.AE q.t;have h4:=Ms.AE q.no;have h5:=Ms.Az 106 [Ms.prE q.c,Ms.prE q.s,DerP.encI q.t,DerP.encI q.no].flatten;have Y:[Ms.prE q.c,Ms.prE q.s,DerP.encI q.t,DerP.encI q.no].flatten.length=(Ms.prE q.c).length+((Ms.prE q.s).length+((DerP.encI q.t).length+(DerP.encI q.no).length)):=by simp
 have O:mgO (mAs q)=some (mgE (mAs q)):=Ms.Br.2 ⟨hB,by show(Ms.asE q).length<=2000;rw[Ms.asE];omega,rfl⟩;exact⟨O,Ms.Jp.2 O⟩
theorem Yw {q:Tg} (h:tgB q=true):mgO (mTg q)=some (mgE (mTg q))/\mgD (mgE (mTg q))=some (mTg q):=by
 have hB:mgB (mTg q)=true:=by unfold mgB mTg;simp [h]
 have M:tkB q.t=true/\Bv q.a=true/\prB q.s=true/\tmB q.u=true/\tmB q.no=true:=by simpa [tgB] using h
 have X:=(Ms.BU M.1).1;have hb:=Ms.Bd M.2.1;have h2:=Ms.Az 4 q.a;have Z:=(Ms.AV M.2.2.1).1;have h4:=Ms.AE q.u;have h5:=Ms.AE q.no;have Y:=Ms.Az 108 [Ms.tkE q.t,DerP.elem 4 q.a,Ms.prE q.s,DerP.encI q.u,DerP.encI q.no].flatten;have h7:[Ms.tkE q.t,DerP.elem 4 q.a,Ms.prE q.s,DerP.encI q.u,DerP.encI q.no].flatten.length=(Ms.tkE q.t).length+((DerP.elem 4 q.a).length+((Ms.prE q.s).length+((DerP.encI q.u).length+(DerP.encI q.no).length))):=by simp
 have O:mgO (mTg q)=some (mgE (mTg q)):=Ms.Br.2 ⟨hB,by show(Ms.tgE q).length<=2000;rw[Ms.tgE];omega,rfl⟩;exact⟨O,Ms.Jp.2 O⟩
theorem Ve {q:Re} (h:reB q=true):mgO (mRe q)=some (mgE (mRe q))/\mgD (mgE (mRe q))=some (mRe q):=by
 have hB:mgB (mRe q)=true:=by unfold mgB mRe;simp [h]
 have M:prB q.c=true/\tkB q.t=true/\Bv q.b=true:=by simpa [reB] using h
 have X:=(Ms.AV M.1).1;have h2:=(Ms.BU M.2.1).1;have hb:=Ms.Bd M.2.2;have Z:=Ms.Az 4 q.b;have Y:=Ms.Az 107 [Ms.prE q.c,Ms.tkE q.t,DerP.elem 4 q.b].flatten;have h7:[Ms.prE q.c,Ms.tkE q.t,DerP.elem 4 q.b].flatten.length=(Ms.prE q.c).length+((Ms.tkE q.t).length+(DerP.elem 4 q.b).length):=by simp
 have O:mgO (mRe q)=some (mgE (mRe q)):=Ms.Br.2 ⟨hB,by show(Ms.reE q).length<=2000;rw[Ms.reE];omega,rfl⟩;exact⟨O,Ms.Jp.2 O⟩
theorem WO {ks:Nat->UInt8} {u:Int} {N:Nat} {a:An} (O:Ms.anB a=true) (hu:0<=u) (M:u<=255) (X:N<=1000000):Bv (seaL ks u N a)=true:=by
 have h:=Kd.Kq O;unfold seaL;rw[Kd.MA O];show Bv (Ce ks u (N:Int) (Ms.anE a)).1=true;rw[Kd.Kp (by omega) (by omega) (by omega) hu M];show Bv (Du ks u.toNat _ _)=true;unfold Bv;rw[BS];simp;omega
theorem Yx {P:Pr} {s:St} {x:Cr} {now:Int} (Z:prB P=true) (X:tkB (tkOf x)=true) (O:prB s.tg=true) (M:tmB now=true) (h1:s.n<1000000) (h2:s.s<1000000):tgB (furQ P s x now)=true:=by
 have ha:Ms.anB ⟨P,now,0⟩=true:=by unfold Ms.anB;rw[Z,M];rfl
 have hb:=WO (ks:=x.k) (u:=7) (N:=s.s+1) ha (by decide) (by decide) (by omega);have h':0<=now/\now<=1073741824:=by simpa [tmB,Ms.inB] using M
 have Y:tmB (Gk now)=true:=by unfold Gk tmB Ms.inB;simp;omega
 have h4:tmB ((s.n+1:Nat):Int)=true:=by unfold tmB Ms.inB;simp;omega
 unfold tgB furQ;simp only;rw[X,hb,O,Y,h4]
 rfl
theorem RV {P:Pr} {s:St} {now:Int} (O:prB P=true) (Y:prB (own P)=true) (Z:tmB now=true) (h1:s.n<1000000):asB (firQ P s now)=true:=by
 have h':0<=now/\now<=1073741824:=by simpa [tmB,Ms.inB] using Z
 have M:tmB (Gk now)=true:=by unfold Gk tmB Ms.inB;simp;omega
 have X:tmB ((s.n+1:Nat):Int)=true:=by unfold tmB Ms.inB;simp;omega
 unfold asB firQ;simp only;rw[O,Y,M,X]
 rfl
theorem Vf {q:Pq} {s:Pr} {no:Int} (hs:prB s=true) (M:tmB no=true):rpB (repP q s no)=true/\(repP q s no).ss.length=32:=by
 refine⟨?_,by simp [repP]⟩;unfold rpB repP;simp only;rw[hs,M]
 rfl
theorem Yy {q:Pq} {s M:Pr} {no:Int} (hs:prB s=true) (hw:prB M=true) (X:tmB no=true) (hu:0<=q.u) (O:q.u<=255):reB (repR q s M no)=true:=by
 have h:=Vf (q:=q) hs X;have Z:=Kd.Mz h.2 h.1;have Y:Bv (Ce q.ks q.u 55 (lO (rpO (repP q s no)))).1=true:=by
  rw[Kd.MC h.2 h.1];show Bv (Ce q.ks q.u 55 (rpE (repP q s no))).1=true;rw[Kd.Kp (by omega) (by decide) (by decide) hu O];show Bv (Du _ _ _ _)=true;unfold Bv;rw[BS];simp;omega
 unfold reB repR;simp only;rw[hw,Y];unfold tkB;simp only;rw[hs]
 rfl
theorem Yz (n:Nat):∀i,i<32->ksOf ((List.range 32).map (FI n)) i=FI n i:=by
 intro i M;unfold ksOf;rw[List.getD_eq_getElem?_getD,List.getElem?_map,List.getElem?_range M]
 rfl
theorem YA (n:Nat):ksOf ((List.range 32).map (FI n))=FI n:=by
 funext i
 by_cases h:i<32
 ·exact Yz n i h
 ·unfold ksOf
  rw[List.getD_eq_getElem?_getD,List.getElem?_eq_none (by simp;omega)];unfold FI;rw[if_neg (by omega),if_neg (by omega),if_neg (by omega)]
  rfl
def gotX (q:Pq) (s:Pr):Cr:=⟨s,1,[1,2],FI q.no.toNat,500⟩
theorem RW {P:Pr} {s:St} {q:Pq} {v:Pr} (O:q.no=s.ou.no) (Y:q.ks=s.ou.ks) (X:q.u=s.ou.u) (hs:prB v=true) (Z:tmB q.no=true) (hu:0<=q.u) (M:q.u<=255):opeL P s (repR q v P q.no)=some (gotX q v):=by
 have h:=Vf (q:=q) hs Z;have hl:=Kd.Mz h.2 h.1;unfold opeL;rw[if_pos (show(repR q v P q.no).c=P from rfl)];have e:BX s.ou.ks s.ou.u (repR q v P q.no).b=(rpE (repP q v q.no),0):=by
  unfold repR;simp only;rw[Kd.MC h.2 h.1,<-Y,<-X];exact Kd.GH (by show(rpE (repP q v q.no)).length<=784;omega) (by decide) (by decide) hu M
 rw[e];simp only[if_true];rw[Kd.WB h.2 h.1];simp only;rw[if_pos (show(repP q v q.no).no=s.ou.no/\(repP q v q.no).s=(repR q v P q.no).t.s from⟨O,rfl⟩)];unfold gotX repR repP;simp only[YA]
theorem RX {m:Md} {P:Pr} {s:St} {q:Pq} {v:Pr} {now:Int} (O:s.st=1) (Z:tmB now=true) (h1:q.no=s.ou.no) (h2:q.ks=s.ou.ks) (h3:q.u=s.ou.u) (hP:prB P=true) (hs:prB v=true) (X:tmB q.no=true) (hu:0<=q.u) (M:q.u<=255) :
  takL m P s (repL q v P q.no) now=goL m P s (gotX q v) now:=by
 have Y:=Yy (q:=q) hs hP X hu M;unfold takL;rw[if_pos ⟨O,Z⟩];unfold repL;rw[(Ve Y).1];show(match mgD (mgE (mRe (repR q v P q.no))) with | none=>_ | some g=>_)=_;rw[(Ve Y).2];simp only;rw[if_neg (show ¬(mRe (repR q v P q.no)).k=5 by show ¬(3:Int)=5;decide),if_pos (show(mRe (repR q v P q.no)).k=3 from rfl),show(mRe (repR q v P q.no)).re=repR q v P q.no from rfl,RW h1 h2 h3 hs X hu M]
theorem Hp:prB annP=true:=by decide
theorem Up:prB DP=true:=by decide
theorem Kr:prB (own annP)=true:=by decide
theorem Pe:JU DP=true:=by decide
theorem Ls:JU annP=true:=by decide
def s1 (n:Nat):St:=firS k9 (begS {st0 with n:=n} DP)
end Cl
namespace Cl
open Go.RowKit Ae Se
open Nm (L krb tgL tgR Gf Fs Cg)
open Ms (Pr tmB pSm mSm)
open Rg (prV)
open Ca (Ca)
theorem WQ (w:World):Calls Tryz.prog 14 #[] w fun e w'=>e=.returned (prV annP)/\Below w.heap.size w w':=by
 obtain⟨W,O⟩:=Aj (w.alloc (.cells #[.string ⟨#[]⟩,.string ⟨#[]⟩] 35));have M:=I (show Blk W w.heap.size 35 #[.string ⟨#[]⟩,.string ⟨#[]⟩] from O▸Blk.new w _ _);have Z:=I (show Below w.heap.size w W from O▸Ag.alloc Af _);go_enter Tryz.func14,Tryz.ntmps14
 go_upto_region 1 with fail
 rw[<-O];clear O;have aa:=M.o.cell 0;have Y:=M.o.cell 1;have fz:=M.o.frozen
 go_wp2
 have X:Blk _ w.heap.size 35 #[.string ⟨annP.1.toArray⟩,.string ⟨annP.2.toArray⟩]:=(M.o.set 0 (.string ⟨annP.1.toArray⟩)).set 1 (.string ⟨annP.2.toArray⟩);refine bodyPost_ret (v:=prV annP) ?_ ?_ ?_
 ·exact Wh.Al (v:=prV annP) 0 35 ⟨w.heap.size,0,none⟩ Tryz.results14 (by rfl) (Wh.Ao X Tryz.underlying35 (by rfl) Rg.AZ)
 ·rfl
 ·exact⟨rfl,Si.AY (Si.AY Z.o Af _) Af _⟩
theorem RY (w:World):Calls Tryz.prog 7 #[] w fun e w'=>e=.returned (prV DP)/\Below w.heap.size w w':=by
 obtain⟨W,O⟩:=Aj (w.alloc (.cells #[.string ⟨#[]⟩,.string ⟨#[]⟩] 35));have M:=I (show Blk W w.heap.size 35 #[.string ⟨#[]⟩,.string ⟨#[]⟩] from O▸Blk.new w _ _);have Z:=I (show Below w.heap.size w W from O▸Ag.alloc Af _);go_enter Tryz.func7,Tryz.ntmps7
 go_upto_region 1 with fail
 rw[<-O];clear O;have aa:=M.o.cell 0;have Y:=M.o.cell 1;have fz:=M.o.frozen
 go_wp2
 have X:Blk _ w.heap.size 35 #[.string ⟨DP.1.toArray⟩,.string ⟨DP.2.toArray⟩]:=(M.o.set 0 (.string ⟨DP.1.toArray⟩)).set 1 (.string ⟨DP.2.toArray⟩);refine bodyPost_ret (v:=prV DP) ?_ ?_ ?_
 ·exact Wh.Al (v:=prV DP) 0 35 ⟨w.heap.size,0,none⟩ Tryz.results7 (by rfl) (Wh.Ao X Tryz.underlying35 (by rfl) Rg.AZ)
 ·rfl
 ·exact⟨rfl,Si.AY (Si.AY Z.o Af _) Af _⟩
theorem RZ (n:Nat):Tryz.prog.built 30 [(0,.int .u8 ((UInt8.ofNat n).toNat:Int)),(1,.int .u8 ((UInt8.ofNat (n / 256)).toNat:Int)),(2,.int .u8 3)]=some (AX (FI n)):=by kernel_rfl
theorem ND:Tryz.prog.built 30 [(0,.int .u8 9)]=some (AX k9):=by kernel_rfl
theorem MF (ks:Nat->UInt8):(AX ks).all (·.oneCell')=true:=Se.VU ks
theorem Sa (n:Nat):IntKind.u8.wrap (n:Int)=((UInt8.ofNat n).toNat:Int):=by
 rw[IntKind.wrap_u8];simp
theorem YB (n:Nat) (hn:n<=1000000000000) (w:World):Calls Tryz.prog 15 #[.int .i64 (n:Int)] w fun e w'=>e=.returned (.agg (AX (FI n)))/\Below w.heap.size w w':=by
 have O:=I (RZ n);have hi:(Tryz.prog.info? 30).map (·.size)=some (AX (FI n)).size:=by rw[AU];kernel_rfl
 have HI:=I hi;have s1:IntKind.u8.wrap (n:Int)=((UInt8.ofNat n).toNat:Int):=Sa n;have s2:IntKind.u8.wrap ((n:Int) / 256)=((UInt8.ofNat (n / 256)).toNat:Int):=by rw[<-Sa (n / 256)];congr 1
 have s3:IntKind.i64.wrap ((n:Int) / 256)=(n:Int) / 256:=by rw[IntKind.wrap_i64];omega
 obtain⟨cs,M⟩:=Aj (AX (FI n));have HS:=I (show cs.size=32 by rw[M];exact AU _);have HO:=I (show cs.all (·.oneCell')=true by rw[M];exact MF _);rw[<-M] at HI O⊢;clear M hi;obtain⟨W,Y⟩:=Aj (w.alloc (.cells #[.int .u8 0,.int .u8 0,.int .u8 0,.int .u8 0,.int .u8 0,.int .u8 0,.int .u8 0,.int .u8 0,.int .u8 0,.int .u8 0,.int .u8 0,.int .u8 0,.int .u8 0,.int .u8 0,.int .u8 0,.int .u8 0,.int .u8 0,.int .u8 0,.int .u8 0,.int .u8 0,.int .u8 0,.int .u8 0,.int .u8 0,.int .u8 0,.int .u8 0,.int .u8 0,.int .u8 0,.int .u8 0,.int .u8 0,.int .u8 0,.int .u8 0,.int .u8 0] 30));have HZ:=I (show ∃z:Array Value,z.size=32/\Blk W w.heap.size 30 z from⟨_,by rfl,Y▸Blk.new w _ _⟩);have HB:=I (show Below w.heap.size w W from Y▸Ag.alloc Af _);go_enter Tryz.func15,Tryz.ntmps15
 go_upto_region 1 with fail
 rw[<-Y];clear Y;obtain⟨zz,aa,X⟩:=HZ.o;have Z:=I X;clear HZ X
 go_wp2_with (first
  |(refine Mc.Ay (by rfl) 30 #[(0,.tmp 4),(1,.tmp 7),(2,.const (.int .u8 3))] (by rfl) cs (by simp only[List.map_toArray,List.map_cons,List.map_nil];exact O.o) ?_;clear O)
  |(refine Wh.Cb (by rfl) 30 (.tmp 2) (.tmp 8) (by rfl) w.heap.size 30 zz Z.o cs (by rfl) (by rfl) (by rw[aa,HS.o]) HI.o HO.o ?_;rintro V hV hg;have HV:=I hV;replace HB:=I (btg HB.o hg Af);clear hV hg)
  |fail)
 refine bodyPost_ret (v:=.agg cs) ?_ ?_ ?_
 ·exact Wh.Al (v:=.agg cs) 2 30 ⟨w.heap.size,0,none⟩ Tryz.results15 (by rfl) (Wh.Ao HV.o Tryz.underlying30 (by rfl) HI.o)
 ·rfl
 ·exact⟨rfl,HB.o⟩
theorem YC {w1 w2 X w4:World} {B b r k:Nat} {P:Pr} {ks:Nat->UInt8} (hB:B<=w1.heap.size) (h1:w1.heap.size<=b) (hx:Box w2 b ks none 0 0 0) (hr:Ca X B r (.slice none 0 0) []) (h2:w2.heap.size<=r) (Y:Below w2.heap.size w2 X) (O:Below X.heap.size X w4) (h3:X.heap.size<=k)
  (hk:Blk w4 k 88 (clA ⟨k,b,r,P,ks⟩ ⟨.slice none 0 0,[],none,0,0,0,.slice none 0 0,.pointer none,none,none⟩ st0)) (hs:w1.heap.size<=w2.heap.size):Cl w4 B ⟨k,b,r,P,ks⟩ ⟨.slice none 0 0,[],none,0,0,0,.slice none 0 0,.pointer none,none,none⟩ st0 0:=by
 have aa:=hx.lt;have ab:=hr.lt;have af:=Y.size;have p1:∀j,Ow b none j->j=b:=fun j M=>by
  rcases M with M | M
  ·exact M
  ·cases M
 have p2:∀j,Ca.CO r (.slice none 0 0) [] j->j=r:=fun j M=>Ca.XW M
 have key:∀i j,Pt ⟨k,b,r,P,ks⟩ ⟨.slice none 0 0,[],none,0,0,0,.slice none 0 0,.pointer none,none,none⟩ i j->(i=0/\j=k)\/(i=1/\j=b)\/(i=2/\j=r):=fun i j M=>by
  match i,M with
  |0,M=>exact .inl ⟨rfl,M⟩
  |1,M=>exact .inr (.inl ⟨rfl,p1 j M⟩)
  |2,M=>exact .inr (.inr ⟨rfl,p2 j M⟩)
  |3,M=>cases M
  |4,M=>obtain⟨z,Z,_⟩:=M;cases Z
  |5,M=>obtain⟨z,Z,_⟩:=M;cases Z
 have ae:=hk.lt;have ad:=O.size;refine⟨⟨fun i i' j a c=>?_,fun i j a=>?_,fun i j a=>?_,by omega⟩,hk,hr.below O,rfl,(hx.below Y).below O,⟨Nat.le_refl _,Nat.le_refl _,Nat.le_refl _⟩,Nm.Own.nil _ _,SxR.none,SxR.none,.inl ⟨rfl,fun e=>by cases e⟩⟩
 ·have:=key i j a
  have:=key i' j c;omega
 ·have:=key i j a
  omega
 ·have:=key i j a
  omega
theorem Uq (P:Pr) (b r:Nat) (ks:Nat->UInt8) (k:Nat):Tryz.prog.built 88 [(0,prV P),(1,pv b),(2,pv r)]=some (clA ⟨k,b,r,P,ks⟩ ⟨.slice none 0 0,[],none,0,0,0,.slice none 0 0,.pointer none,none,none⟩ st0):=by kernel_rfl
theorem Ur (P:Pr) (ks:Nat->UInt8) (w:World) (hs:pSm P) (hp:JU P=true):Calls Tryz.prog 18 #[prV P,.agg (AX ks)] w fun e w'=>∃p m,e=.returned (.tuple #[pv p.k,.int .i64 0])/\p.P=P/\p.ks=ks/\Cl w' w.heap.size p m st0 0/\Below w.heap.size w w':=by
 obtain⟨W,eW⟩:=Aj ((w.alloc (.cells #[.string ⟨P.1.toArray⟩,.string ⟨P.2.toArray⟩] 35)).alloc (.cells (AX ks) 30));have O:Below w.heap.size w W:=eW▸(Ag.alloc Af _).alloc (by simp) _;have X:=I (show Blk W w.heap.size 35 #[.string ⟨P.1.toArray⟩,.string ⟨P.2.toArray⟩] from eW▸(Blk.new w _ _).alloc _);have Y:=I (show Blk W (w.heap.size+1) 30 (AX ks) by have:=Blk.new (w.alloc (.cells #[.string ⟨P.1.toArray⟩,.string ⟨P.2.toArray⟩] 35)) 30 (AX ks);simp only[World.size_alloc] at this;exact eW▸this);have ah:=I (show(Tryz.prog.info? 30).map (·.size)=some (AX ks).size by rw[AU];kernel_rfl);have HB:=I O;have C1:=I (fun(w1:World)=>Ho P w1 hs);rw[hp] at C1;have C2:=I (fun(w1:World)=>Nx P w1 (Nat.le_trans hs.1 (by decide)) (Nat.le_trans hs.2 (by decide)));have C3:=I (fun(w1:World)=>JP ks w1);have C4:=I (fun(w1:World) (h:w.heap.size<=w1.heap.size)=>Ca.XU w.heap.size w1 h);obtain⟨cy,ai⟩:=Aj (AX ks);rw[<-ai] at C3 Y ah eW⊢;have q0:=X.c0;have q1:=X.c1;clear O hs hp ai;go_enter Tryz.func18,Tryz.ntmps18
 go_upto_region 1 with fail
 rw[<-eW];clear eW
 go_upto_region 3 with(first
  |(go_at_call 20;refine Ah (C1.o _) ?_;rintro w1 O;clear C1 q0 q1;replace X:=I (X.o.below O);replace Y:=I (Y.o.below O);replace HB:=HB.t O;clear O)
  |fail)
 have aa:Below w1.heap.size w1 w1.drew:=below_drewN Ag 1;replace X:=I (X.o.below aa);replace Y:=I (Y.o.below aa);replace HB:=HB.t aa;clear aa;refine Reg.AW (fun w'=>Blk w' w.heap.size 35 #[.string ⟨P.1.toArray⟩,.string ⟨P.2.toArray⟩]/\Blk w' (w.heap.size+1) 30 cy) 9 rfl (by kernel_rfl) ⟨X.o,Y.o⟩ ?_;refine Reg.tw 0 rfl ⟨X.o,Y.o⟩ (fun w' hS=>by obtain⟨hQ,hY⟩:=hS;have q0:=hQ.cell 0;have q1:=hQ.cell 1;go_simp<;>rfl) ?_;refine Reg.tw 2 (v:=.agg cy) rfl ⟨X.o,Y.o⟩ (fun w' hS=>by obtain⟨hQ,hY⟩:=hS;exact Wh.Cz (.tmp 3) rfl rfl hY Tryz.underlying30 (by rfl) ah.o) ?_;refine Reg.b1 1 ?_
 right
 refine⟨_,_,_,_,_,_,22,#[prV P],rfl,by rfl,(by go_simp<;>first | rfl | exact⟨rfl,rfl⟩),?_⟩;refine Ah (C2.o _) ?_;rintro ax O;replace X:=I (X.o.below O);replace Y:=I (Y.o.below O);replace HB:=HB.t O;clear O;clear C2;refine⟨_,rfl,⟨X.o,Y.o⟩,?_⟩;simp only[Act.put,J,U,Aa];refine Reg.b1 3 ?_
 right
 have al:=I HB.o.size;refine⟨_,_,_,_,_,_,41,#[.agg cy],rfl,by rfl,(by go_simp<;>first | rfl | exact⟨rfl,rfl⟩),?_⟩;refine Calls.mono (C3.o _) ?_;rintro e Z ⟨xb,rfl,h1,hx,O⟩;replace X:=I (X.o.below O);replace Y:=I (Y.o.below O);replace HB:=HB.t O;have au:=I h1;have av:=I hx;have ak:=I O.size;have af:=I (Below.refl Z.heap.size Z);clear O;clear C3 h1 hx;refine⟨_,rfl,⟨X.o,Y.o⟩,?_⟩;simp only[Act.put,J,U,Aa];refine Reg.b1 4 ?_
 right
 refine⟨_,_,_,_,_,_,42,#[],rfl,by rfl,(by go_simp<;>first | rfl | exact⟨rfl,rfl⟩),?_⟩;refine Ah (C4.o _ HB.o.size) ?_;rintro M ⟨aj,O,_⟩;replace X:=I (X.o.below O);replace Y:=I (Y.o.below O);replace HB:=HB.t O;replace af:=af.t O;have an:=I aj;have ab:=I (Below.refl M.heap.size M);clear O;clear C4 aj;obtain⟨CC,ae⟩:=Aj (clA ⟨M.heap.size,xb,Z.heap.size,P,ks⟩ ⟨.slice none 0 0,[],none,0,0,0,.slice none 0 0,.pointer none,none,none⟩ st0);have aw:=I ae;have ar:=I (show Tryz.prog.built 88 [(0,prV P),(1,pv xb),(2,pv Z.heap.size)]=some CC by rw[ae];exact Uq _ _ _ _ _);have ao:=I af.o;clear ae;refine⟨_,rfl,⟨X.o,Y.o⟩,?_⟩;simp only[Act.put,J,U,Aa];refine Reg.tw 5 (v:=.agg CC) rfl ⟨X.o,Y.o⟩ (fun w' hS=>by obtain⟨hQ,hY⟩:=hS;refine BP (t:=88) (by rfl) (by simp only[List.map_toArray,List.map_cons,List.map_nil];exact ar.o)) ?_;refine Reg.b1 6 ?_
 left
 have O:Below M.heap.size M (M.alloc (.cells CC 88)):=Ag.alloc Af _;have ad:=Blk.new M 88 CC;refine⟨_,_,_,_,_,_,pv M.heap.size,M.alloc (.cells CC 88),rfl,by rfl,(by go_simp<;>rfl),⟨X.o.below O,Y.o.below O⟩,?_⟩;simp only[Act.put,J,U,Aa];obtain⟨w9,ag⟩:=Aj (M.alloc (.cells CC 88));rw[<-ag] at O ad⊢;clear ag;replace X:=I (X.o.below O);replace Y:=I (Y.o.below O);replace HB:=HB.t O;replace ab:=ab.t O;have HC:=I ad;have H9:=I (ab.o);obtain⟨ay,ek⟩:=Aj (M.heap.size);rw[<-ek] at HC⊢;have EK:=I ek;clear ek O ad;refine Reg.ty 7 rfl ⟨X.o,Y.o⟩ ?_;refine Reg.ty 8 rfl ⟨X.o,Y.o⟩ ?_;refine wpAnyH_done (by kernel_rfl) ?_ _
 go_wp2
 go_ret2
 have hk:=HC.o;rw[aw.o,EK.o] at hk;exact⟨⟨M.heap.size,xb,Z.heap.size,P,ks⟩,_,(by first | rfl | (rw[EK.o];rfl)),rfl,rfl,YC (Nat.le_trans al.o Af) au.o av.o an.o Af ao.o H9.o Af hk ak.o,HB.o⟩
theorem Us (P:Pr) (ks:Nat->UInt8) (w:World) (hs:pSm P) (hp:JU P=true):Calls Tryz.prog 19 #[prV P,.agg (AX ks)] w fun e w'=>∃x CC,e=.returned (.tuple #[pv x,.int .i64 0])/\w.heap.size<=x/\Tryz.prog.built 128 [(0,prV P),(1,.agg (AX ks))]=some CC/\Blk w' x 128 CC/\Below w.heap.size w w':=by
 obtain⟨W,eW⟩:=Aj ((w.alloc (.cells #[.string ⟨P.1.toArray⟩,.string ⟨P.2.toArray⟩] 35)).alloc (.cells (AX ks) 30));have M:Below w.heap.size w W:=eW▸(Ag.alloc Af _).alloc (by simp) _;have O:=I (show Blk W w.heap.size 35 #[.string ⟨P.1.toArray⟩,.string ⟨P.2.toArray⟩] from eW▸(Blk.new w _ _).alloc _);have HY:=I (show Blk W (w.heap.size+1) 30 (AX ks) by have:=Blk.new (w.alloc (.cells #[.string ⟨P.1.toArray⟩,.string ⟨P.2.toArray⟩] 35)) 30 (AX ks);simp only[World.size_alloc] at this;exact eW▸this);have ab:=I (show(Tryz.prog.info? 30).map (·.size)=some (AX ks).size by rw[AU];kernel_rfl);have Z:=I M;have C1:=I (fun(w1:World)=>Gf P.2 w1 hs.2);have C2:=I (fun(w1:World)=>Fs P.1 P.2 w1 hs.1 hs.2);have Y:Cg P.1 P.2=true/\tgL P.2=false:=by
  unfold JU at hp;rw[Bool.and_eq_true] at hp;exact⟨hp.1,by simpa using hp.2⟩
 rw[Y.2] at C1;rw[Y.1] at C2;have aa:(Tryz.prog.built 128 [(0,prV P),(1,.agg (AX ks))]).isSome=true:=by kernel_rfl
 obtain⟨CC,ad⟩:=Option.isSome_iff_exists.1 aa;have X:=I ad;clear aa ad;obtain⟨cy,ae⟩:=Aj (AX ks);rw[<-ae] at HY ab eW X⊢;have q1:=O.c1;clear M hs hp Y ae;go_enter Tryz.func19,Tryz.ntmps19
 go_upto_region 1 with fail
 rw[<-eW];clear eW
 go_wp2_with (first
  |(go_at_call 43;refine Ah (C1.o _) ?_;rintro w1 M;clear C1 q1;replace O:=I (O.o.below M);replace HY:=I (HY.o.below M);replace Z:=Z.t M;have q0:=O.c0;have q1:=O.c1;clear M)
  |(go_at_call 44;refine Ah (C2.o _) ?_;rintro w2 M;clear C2 q0 q1;replace O:=I (O.o.below M);replace HY:=I (HY.o.below M);replace Z:=Z.t M;have q0:=O.c0;have q1:=O.c1;clear M)
  |(refine Wh.AG (by rfl) 30 (.tmp 3) (by rfl) (w.heap.size+1) 0 (by rfl) cy _ (Wh.Ac HY.o) Tryz.underlying30 (by rfl) ab.o ?_)
  |(refine Mc.Ay (by rfl) 128 #[(0,.tmp 20),(1,.tmp 21)] (by rfl) CC (by simp only[List.map_toArray,List.map_cons,List.map_nil];exact X.o) ?_)
  |fail)
 go_ret2
 exact⟨w2.heap.size,CC,rfl,Z.o.size,X.o,Blk.new w2 _ _,Z.o.alloc Z.o.size _⟩
theorem YD {w:World} {B B':Nat} {p:CP} {m:CM} {s:St} {c:Nat} (h:Cl w B p m s c) (hB:B'<=B):Cl w B' p m s c:=
 ⟨⟨h.pa.dis,fun i j a=>Nat.le_trans hB (h.pa.lo i j a),h.pa.lt,Nat.le_trans hB h.pa.hB⟩,h.blk,⟨h.ca.blk,Ca.Tx h.ca.row hB,Nat.le_trans hB h.ca.lo,h.ca.vr,h.ca.rd,fun e he a M=>have q:=h.ca.off e he a M;⟨Nat.le_trans hB q.1,q.2⟩⟩,h.li,h.box,h.bc,h.vis.from_ hB,h.sx,h.sy,h.ou⟩
abbrev prA (c x:Nat) (q:Pq):Array Value:=(pv c :: pv x :: .int .i64 q.no :: ((AX q.ks).toList++[.int .i64 q.u])).toArray
theorem Ut (c x:Nat):Tryz.prog.built 32 [(0,pv c),(1,pv x),(3,.agg (AX k9)),(4,.int .i64 3)]=some (prA c x pq0):=by kernel_rfl
theorem Sb (w:World):Calls Tryz.prog 5 #[] w fun e w'=>∃g x p m,e=.returned (pv g)/\p.P=annP/\p.ks=k9/\Cl w' w.heap.size p m st0 0/\¬AO p m g/\Blk w' g 32 (prA p.k x pq0)/\w.heap.size<=g/\Below w.heap.size w w':=by
 have Y:pSm annP:=⟨by decide,by decide⟩;have L1:=I (fun(w1:World)=>WQ w1);have C1:=I (fun(w1:World)=>Ur annP k9 w1 Y Ls);have C2:=I (fun(w1:World)=>Us annP k9 w1 Y Ls);have X:=I ND;have ab:=I Ut;obtain⟨cy,ad⟩:=Aj (AX k9);rw[<-ad] at C1 C2 X ab;have O:=I (Below.refl w.heap.size w);clear Y ad;go_enter Tryz.func5,Tryz.ntmps5
 go_upto_region 2 with(first
  |(go_at_call 14;refine Ah (L1.o _) ?_;rintro w1 M;replace O:=O.t M;clear M)
  |(refine Mc.Ay (by rfl) 30 #[(0,.const (.int .u8 9))] (by rfl) cy (by simp only[List.map_toArray,List.map_cons,List.map_nil];exact X.o) ?_)
  |(go_at_call 18;refine Calls.mono (C1.o _) ?_;rintro e w2 ⟨p,m,rfl,hp,aa,hk,M⟩;clear C1;have HP:=I hp;have af:=I aa;have Z:=I hk;have ae:=I O.o.size;replace O:=O.t M;clear hp aa hk M)
  |fail)
 go_wp2_with (first
  |(go_at_call 14;refine Ah (L1.o _) ?_;rintro w3 M;clear L1;replace O:=O.t M;replace Z:=I (Z.o.below M);clear M)
  |(refine Mc.Ay (by rfl) 30 #[(0,.const (.int .u8 9))] (by rfl) cy (by simp only[List.map_toArray,List.map_cons,List.map_nil];exact X.o) ?_)
  |(go_at_call 19;refine Calls.mono (C2.o _) ?_;rintro e w4 ⟨x,CC,rfl,_,_,_,M⟩;clear C2;replace O:=O.t M;replace Z:=I (Z.o.below M);clear M)
  |(refine Mc.Ay (by rfl) 32 #[(0,.tmp 23),(1,.tmp 24),(3,.tmp 25),(4,.const (.int .i64 3))] (by rfl) (prA p.k x pq0) (by simp only[List.map_toArray,List.map_cons,List.map_nil];exact ab.o _ _) ?_)
  |fail)
 go_ret;have M:Below w4.heap.size w4 (w4.alloc (.cells (prA p.k x pq0) 32)):=Ag.alloc Af _;exact⟨w4.heap.size,x,p,m,rfl,HP.o,af.o,(YD Z.o ae.o).below M,Z.o.fresh Af,Blk.new w4 _ _,O.o.size,O.o.trans (M.mono O.o.size)⟩
end Cl
end Go.Proofs.YtlccngianpfalaaGreat
