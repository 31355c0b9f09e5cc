import Derived.Test.YtlccngianpfalaaGreatZClientLoops21
set_option maxHeartbeats 25600000
set_option maxRecDepth 100000
set_option linter.unusedVariables false
set_option linter.unusedSimpArgs false
namespace Go.Proofs.YtlccngianpfalaaGreat
namespace Cl
open Go.RowKit Ae Se
open Nm (L krb tgL tgR)
open Ms (Pr tmB pSm mSm mgO mgD mgB An Mg As Tg Re Rp)
open Rg (prV Bn BC)
open Ca (Cr It crA putL putE)
section
variable {w w' w0:World} {B:Nat} {p:CP} {m m' m0:CM} {s:St} {c:Nat} {r:L}
theorem Er {P:Program} {fn:Func} {tmps:Array Value} {w:World} {a b c:Value} (i j k:Nat) (M:fn.results=#[.tmp i,.tmp j,.tmp k]) (Z:tmps.getD i undef=a) (hb:tmps.getD j undef=b) (hc:tmps.getD k undef=c) :
  (results fn tmps).run P w=.ok (.tuple #[a,b,c]) w:=by
 have Y:tmps[i]?.getD undef=a:=by simpa using Z
 have O:tmps[j]?.getD undef=b:=by simpa using hb
 have X:tmps[k]?.getD undef=c:=by simpa using hc
 simp [results,M,Y,O,X]
theorem Cl.began (h:Cl w B p m s c) {t:Pr} (O:Chg (fun j=>j=p.k) w w') (hb:Blk w' p.k 88 (clA p {m with vv:=.slice none 0 0,ov:=.pointer none,x:=none} (begS s t))):Tu w w' B p m {m with vv:=.slice none 0 0,ov:=.pointer none,x:=none} (begS s t) c:=by
 have Y:∀i,i≠0->∀j,Pt p m i j->¬j=p.k:=fun i Z j M e=>h.not (i':=0) M Z e
 have X:∀i j,Pt p {m with vv:=.slice none 0 0,ov:=.pointer none,x:=none} i j->Pt p m i j:=fun i j M=>by
  match i,M with
  |0,M=>exact M
  |1,M=>exact M
  |2,M=>exact M
  |3,M=>cases M
  |4,M=>obtain⟨z,hz,_⟩:=M;cases hz
  |5,M=>exact M
 refine⟨⟨⟨fun i i' j a b=>h.pa.dis i i' j (X i j a) (X i' j b),fun i j a=>h.pa.lo i j (X i j a),fun i j a=>Nat.lt_of_lt_of_le (h.pa.lt i j (X i j a)) O.size,Nat.le_trans h.pa.hB O.size⟩,hb,h.ca.chg O (Y 2 (by decide)),h.li,h.box.chg O (Y 1 (by decide)),h.bc,Nm.Own.nil _ _,SxR.none,h.sy.chg O (Y 5 (by decide)),.inl ⟨rfl,fun _=>rfl⟩⟩,O.mono (fun j _ x=>⟨0,x⟩),fun j M=>by
  obtain⟨i,M⟩:=M;exact .inl ⟨i,X i j M⟩⟩
def ChP (w:World) (B:Nat) (p:CP) (m:CM) (c:Nat) (r:St×(L×L)×Int) (e:Ending) (w':World):Prop:=
 ∃v m',e=.returned (.tuple #[.string ⟨r.2.1.1.toArray⟩,v,.int .i64 r.2.2])/\SlN (Out w p m') w' v r.2.1.2/\Tu w w' B p m m' r.1 c
theorem Yi {t:Pr} (M:Sz p s c) (X:pSm t):Sz p (begS s t) c:=⟨M.nn,M.ss,M.qq,⟨Int.le_refl _,by show(0:Int)<=c;omega⟩,⟨Nat.zero_le _,fun v O=>by cases O⟩,X,M.l,M.x,M.pp⟩
theorem cha_1 {t:Pr} {now:Int} (h:Cl w B p m s c) (hz:Sz p s c) (hc:c<=700000) (hs:pSm t) (X:s.st=1) :
  Calls Tryz.prog 6 #[pv p.k,prV t,.int .i64 now] w (ChP w B p m (c+2) (s,([],[]),16)):=by
 obtain⟨W,M⟩:=Aj (w.alloc (.cells #[.string ⟨t.1.toArray⟩,.string ⟨t.2.toArray⟩] 35));have Z:Below w.heap.size w W:=M▸Ag.alloc Af _;have HQ:=I (show Blk W w.heap.size 35 #[.string ⟨t.1.toArray⟩,.string ⟨t.2.toArray⟩] from M▸Blk.new w _ _);have NQ:=I (h.fresh (Nat.le_refl w.heap.size));have Y:=I (Tu.start h Z);have k7:W.cell? ⟨p.k,7,none⟩=some (.int .i64 s.st):=Y.o.cl.blk.cell 7;have aa:=I (fun(O:World)=>Hm t O hs);have CT:=I (fun(O:World)=>CJ now O);rw[X] at k7;clear h hz hc hs Z X;go_enter Tryz.func6,Tryz.ntmps6
 go_upto_region 1 with fail
 rw[<-M];clear M
 go_wp2_with fail
 refine bodyPost_ret (v:=.tuple #[.string ⟨#[]⟩,.slice none 0 0,.int .i64 16]) (Er 6 7 8 Tryz.results6 rfl rfl rfl) (by rfl) ?_;exact⟨.slice none 0 0,_,rfl,SlN.nil _ _,Y.o.more (by omega)⟩
theorem cha_4 {t:Pr} {now:Int} (h:Cl w B p m s c) (hz:Sz p s c) (hc:c<=700000) (hs:pSm t) (h1:s.st≠1) (h2:JN t=true) (h3:tmB now=true) {R:St×(L×L)} (af:∀(Y:World) (m1:CM),Cl Y B p m1 (begS s t) c->Calls Tryz.prog 23 #[pv p.k,.int .i64 now] Y fun e w2=>∃v m2,e=.returned (.tuple #[.string ⟨p.P.1.toArray⟩,v])/\R.2.1=p.P.1/\SlN (Out Y p m2) w2 v R.2.2/\Tu Y w2 B p m1 m2 R.1 (c+2)) :
  Calls Tryz.prog 6 #[pv p.k,prV t,.int .i64 now] w (ChP w B p m (c+2) (R.1,R.2,0)):=by
 obtain⟨W,eW⟩:=Aj (w.alloc (.cells #[.string ⟨t.1.toArray⟩,.string ⟨t.2.toArray⟩] 35));have Z:Below w.heap.size w W:=eW▸Ag.alloc Af _;have HQ:=I (show Blk W w.heap.size 35 #[.string ⟨t.1.toArray⟩,.string ⟨t.2.toArray⟩] from eW▸Blk.new w _ _);have NQ:=I (h.fresh (Nat.le_refl w.heap.size));have O:=I (Tu.start h Z);have k7:W.cell? ⟨p.k,7,none⟩=some (.int .i64 s.st):=O.o.cl.blk.cell 7;have ab:=I (fun(Y:World)=>Hm t Y hs);have CT:=I (fun(Y:World)=>CJ now Y);have t1:decide (s.st=1)=false:=decide_eq_false h1;have ay:(s.st==1)=false:=by simp [h1]
 rw[h2] at ab;have CC:=I (fun(Y:World)=>Nl t Y (Nat.le_trans hs.1 (by decide)) (Nat.le_trans hs.2 (by decide)));have CF:=I af;rw[h3] at CT;clear h hz hc hs Z h1 h2 h3 af;go_enter Tryz.func6,Tryz.ntmps6
 go_upto_region 1 with fail
 rw[<-eW];clear eW;have q0:=HQ.c0;have q1:=HQ.c1
 go_upto_region 7 with(first
  |(go_at_call 20;refine Ah (ab.o _) ?_;rintro X Z;clear ab q0 q1 k7;replace HQ:=I (HQ.o.below Z);replace O:=I (O.o.below Z);clear Z)
  |(go_at_call 21;refine Ah (CT.o _) ?_;rintro wt hw;subst hw;clear CT)
  |fail)
 have k7:X.cell? ⟨p.k,7,none⟩=some (.int .i64 s.st):=O.o.cl.blk.cell 7;have k8:X.cell? ⟨p.k,8,none⟩=some (.int .i64 s.er):=O.o.cl.blk.cell 8;have k9:X.cell? ⟨p.k,9,none⟩=some (.int .i64 s.sn):=O.o.cl.blk.cell 9;have fz:=O.o.cl.blk.frozen
 go_upto_region 8 with fail
 obtain⟨V,eV⟩:=Aj (((X.setCell ⟨p.k,7,none⟩ (.int .i64 1)).setCell ⟨p.k,8,none⟩ (.int .i64 0)).setCell ⟨p.k,9,none⟩ (.int .i64 0));have ad:Chg (fun j=>j=p.k) X V:=eV▸(((Chg.refl (fun j=>j=p.k) X).set (p:=⟨p.k,7,none⟩) (.inl rfl) _).set (p:=⟨p.k,8,none⟩) (.inl rfl) _).set (p:=⟨p.k,9,none⟩) (.inl rfl) _;have ai:Blk V p.k 88 #[.string ⟨p.P.1.toArray⟩,.string ⟨p.P.2.toArray⟩,pv p.b,pv p.r,.int .i64 (s.n:Int),.int .i64 (s.s:Int),.int .i64 (s.q:Int),.int .i64 1,.int .i64 0,.int .i64 0,.string ⟨s.tg.1.toArray⟩,.string ⟨s.tg.2.toArray⟩,m.vv,.int .i64 s.ou.no,m.ov,.int .i64 s.ou.u]:=by
  have:=((O.o.cl.blk.set 7 (.int .i64 1)).set 8 (.int .i64 0)).set 9 (.int .i64 0);simp only[List.setIfInBounds_toArray,List.set_cons_zero,List.set_cons_succ] at this;rw[eV];exact this
 have M:=I ai;have ag:=I ad;have az:=I O.o.cl.blk.lt;replace HQ:=I (ad.blk HQ.o (fun x=>NQ.o ⟨0,x⟩));rw[<-eV];clear eV ad ai k7 k8 k9 fz;have q0:=HQ.c0;have q1:=HQ.c1
 go_upto_region 9 with(first
  |(go_at_call 22;refine Ah (CC.o _) ?_;rintro wc Z;clear CC q0 q1;have aj:=I Z;replace M:=I (M.o.below Z);have ax:=M.c10;have av:=M.c11;have an:wc.cell? ⟨p.k,12,none⟩=some m.vv:=M.o.cell 12;have au:=M.c13;have aw:wc.cell? ⟨p.k,14,none⟩=some m.ov:=M.o.cell 14;have ar:=M.c15;have fz:=M.o.frozen;clear Z)
  |fail)
 obtain⟨V2,aa⟩:=Aj ((((((wc.setCell ⟨p.k,10,none⟩ (.string ⟨t.1.toArray⟩)).setCell ⟨p.k,11,none⟩ (.string ⟨t.2.toArray⟩)).setCell ⟨p.k,12,none⟩ (.slice none 0 0)).setCell ⟨p.k,13,none⟩ (.int .i64 0)).setCell ⟨p.k,14,none⟩ (.pointer none)).setCell ⟨p.k,15,none⟩ (.int .i64 0));have ae:Chg (fun j=>j=p.k) wc V2:=aa▸((((((Chg.refl (fun j=>j=p.k) wc).set (p:=⟨p.k,10,none⟩) (.inl rfl) _).set (p:=⟨p.k,11,none⟩) (.inl rfl) _).set (p:=⟨p.k,12,none⟩) (.inl rfl) _).set (p:=⟨p.k,13,none⟩) (.inl rfl) _).set (p:=⟨p.k,14,none⟩) (.inl rfl) _).set (p:=⟨p.k,15,none⟩) (.inl rfl) _;have ah:Chg (fun j=>j=p.k) X V2:=(ag.o.trans (Chg.of_below aj.o) (fun _ _ x=>x)).trans ae (fun _ _ x=>x);have ak:Blk V2 p.k 88 (clA p {m with vv:=.slice none 0 0,ov:=.pointer none,x:=none} (begS s t)):=by
  have:=(((((M.o.set 10 (.string ⟨t.1.toArray⟩)).set 11 (.string ⟨t.2.toArray⟩)).set 12 (.slice none 0 0)).set 13 (.int .i64 0)).set 14 (.pointer none)).set 15 (.int .i64 0);simp only[List.setIfInBounds_toArray,List.set_cons_zero,List.set_cons_succ] at this;rw[aa];exact this
 have hk:=O.o.cl.began ah ak;replace O:=I (O.o.trans hk);rw[<-aa];clear aa ae ah ak hk ax av an au aw ar fz M ag aj HQ
 go_wp2_with (first
  |(go_at_call 23;refine Calls.mono (CF.o _ _ O.o.cl) ?_;rintro e w6 ⟨v,m6,rfl,hr,hs,hk⟩;clear CF;have HV:=I (Out.old O.o.size hs);replace O:=I (O.o.trans hk);have ao:=I hr;clear hs hk hr)
  |fail)
 refine bodyPost_ret (v:=.tuple #[.string ⟨p.P.1.toArray⟩,v,.int .i64 0]) (Er 6 7 8 Tryz.results6 rfl rfl rfl) (by rfl) ?_;exact⟨v,m6,by rw[ao.o],HV.o,O.o⟩
theorem IV (h:Cl w B p m s c):Calls Tryz.prog 11 #[pv p.k] w fun e w'=>e=.returned (.tuple #[.int .i64 s.st,.int .i64 s.er,.int .i64 s.sn])/\Below w.heap.size w w':=by
 have O:w.cell? ⟨p.k,7,none⟩=some (.int .i64 s.st):=h.blk.cell 7;have M:w.cell? ⟨p.k,8,none⟩=some (.int .i64 s.er):=h.blk.cell 8;have k9:w.cell? ⟨p.k,9,none⟩=some (.int .i64 s.sn):=h.blk.cell 9;clear h;go_enter Tryz.func11,Tryz.ntmps11
 go_upto_region 3 with fail
 go_quiet (fail)
 go_wp2
 refine bodyPost_ret (v:=.tuple #[.int .i64 s.st,.int .i64 s.er,.int .i64 s.sn]) (Er 2 3 4 Tryz.results11 rfl rfl rfl) (by rfl) ?_;exact⟨rfl,below_drewN Ag nq⟩
end
open Ms (reB tkB)
section
variable {w w' w0:World} {B:Nat} {p:CP} {m m' m0:CM} {s:St} {c:Nat} {r:L}
theorem UM {S:Nat->Prop} {base:Nat} {v:Value} {l:L} (h:Mc.OwnN w base v l) (hS:∀j,base<=j->¬S j):SlN S w v l:=by
 rcases h with⟨rfl,rfl⟩ | ⟨b,c,rfl,Y,X,O,M⟩
 ·exact⟨none,0,rfl,Nat.le_refl _,.inl rfl⟩
 ·exact⟨_,c,rfl,Y,.inr ⟨b,0,rfl,O,hS b X,fun i u hu=>by rw[Nat.zero_add];exact M i u hu⟩⟩
theorem Yj {b:L} {g:Mg} (h:mgD b=some g) (M:b.length<=100000):mSm g:=by
 rw[Mc.Rf] at h
 split at h
 ·injection h with h;subst h;exact Mc.UJ M
 ·cases h
theorem mgD_B {b:L} {g:Mg} (h:mgD b=some g):mgB g=true:=(Ms.Bw.1 (Ms.Jk.1 h)).1
theorem re_of {b:L} {g:Mg} (h:mgD b=some g) (hk:g.k=3):reB g.re=true:=by
 have M:=mgD_B h;unfold mgB at M;rw[hk] at M;simp only[show ¬(3:Int)=1 by decide,show ¬(3:Int)=2 by decide,if_false,if_true,Bool.and_eq_true] at M;exact M.1
theorem ope_x {q:Re} {x:Cr} (h:opeL p.P s q=some x):x.s=q.t.s/\x.b=q.t.b:=by
 unfold opeL at h
 split at h
 ·split at h
  ·split at h
   ·cases h
   ·split at h
    ·injection h with h;subst h;exact⟨rfl,rfl⟩
    ·cases h
  ·cases h
 ·cases h
theorem Sz.more {c':Nat} (h:Sz p s c) (M:c<=c'):Sz p s c':=⟨Nat.le_trans h.nn M,Nat.le_trans h.ss M,Nat.le_trans h.qq M,⟨h.sn.1,by have:=h.sn.2;omega⟩,⟨Nat.le_trans h.vs.1 M,h.vs.2⟩,h.tg,h.l,h.x,h.pp⟩
def MgK (w0 w:World) (ds:Array Value) (g:Mg):Prop:=
 ∃bv av,SlN (fun j=>j<w0.heap.size) w bv g.re.t.b/\SlN (fun j=>j<w0.heap.size) w av g.re.b/\ds.size=30/\ds.all (·.oneCell')=true/\(Tryz.prog.info? 61).map (·.size)=some ds.size/\
  ∀(w1:World) (b:Nat) (t:TypeId),Blk w1 b t ds->w1.cell? ⟨b,0,none⟩=some (.int .i64 g.k)/\w1.rangeAt b 16 (reA g.re bv av).toList/\w1.cell? ⟨b,28,none⟩=some (.int .i64 g.fa.e)/\w1.cell? ⟨b,29,none⟩=some (.int .i64 g.fa.no)
theorem Jy {v:Value} {b:L} {S:Nat->Prop} (hv:SlN S w v b):Calls Tryz.prog 24 #[v] w fun e w'=>∃ds,e=.returned (.tuple #[.agg ds,.int .i64 (Mc.mgI b)])/\MgK w w' ds (Mc.mgG b)/\Below w.heap.size w w':=by
 obtain⟨A,c,rfl,hc,hr⟩:=hv;refine(Mc.Wp A b c w hr.rd).mono ?_;rintro e w' ⟨ds,rfl,⟨pa,pt,pr,pp,pf,M,Y⟩,hb⟩;obtain⟨bv,Z,h3,h4,h5⟩:=Y.r;have h6:pf=#[.int .i64 (Mc.mgG b).fa.e,.int .i64 (Mc.mgG b).fa.no]:=Y.f;have h7:pr=reA (Mc.mgG b).re bv Z:=h3;subst h6 h7;have O:=Y.toV;refine⟨ds,rfl,⟨bv,Z,UM h4 (fun j hj=>by omega),UM h5 (fun j hj=>by omega),by rw[M];exact O.size _,by rw[M];exact O.one _,by rw[M,O.size];exact Mc.AT,fun w1 gb t hx=>?_⟩,hb⟩;rw[M] at hx;have X:=O.at_ hx;exact⟨X.k,X.r,X.f 0 _ rfl,X.f 1 _ rfl⟩
theorem tak_1 {b:L} {v:Value} {now:Int} (h:Cl w B p m s c) (hz:Sz p s c) (hc:c<=700000) (Y:b.length<=100000) (hv:SlN (AO p m) w v b) (M:s.st≠1) :
  Calls Tryz.prog 9 #[pv p.k,v,.int .i64 now] w (StP w B p m (c+4) (s,([],[]))):=by
 have Z:=I (Tu.refl h);have k7:w.cell? ⟨p.k,7,none⟩=some (.int .i64 s.st):=h.blk.cell 7;have O:=I (fun(w1:World)=>CJ now w1);have t1:decide (s.st=1)=false:=decide_eq_false M;have X:(s.st != 1)=true:=by simp [M]
 clear h hz hc Y hv M;go_enter Tryz.func9,Tryz.ntmps9
 go_wp2_with (first
  |(go_at_call 21;refine Ah (O.o _) ?_;rintro wt hw;subst hw;clear O)
  |fail)
 go_ret2
 exact⟨.slice none 0 0,_,rfl,SlN.nil _ _,Z.o.more (by omega)⟩
theorem tak_2 {b:L} {v:Value} {now:Int} (h:Cl w B p m s c) (hz:Sz p s c) (hc:c<=700000) (Y:b.length<=100000) (hv:SlN (AO p m) w v b) (O:s.st=1) (X:tmB now=false) :
  Calls Tryz.prog 9 #[pv p.k,v,.int .i64 now] w (StP w B p m (c+4) (s,([],[]))):=by
 have Z:=I (Tu.refl h);have k7:w.cell? ⟨p.k,7,none⟩=some (.int .i64 s.st):=h.blk.cell 7;have M:=I (fun(w1:World)=>CJ now w1);rw[O] at k7;rw[X] at M;clear h hz hc Y hv O X;go_enter Tryz.func9,Tryz.ntmps9
 go_wp2_with (first
  |(go_at_call 21;refine Ah (M.o _) ?_;rintro wt hw;subst hw;clear M)
  |fail)
 go_ret2
 exact⟨.slice none 0 0,_,rfl,SlN.nil _ _,Z.o.more (by omega)⟩
theorem tak_3 {b:L} {v:Value} {now:Int} (h:Cl w B p m s c) (hz:Sz p s c) (hc:c<=700000) (hl:b.length<=100000) (hv:SlN (AO p m) w v b) (h1:s.st=1) (h2:tmB now=true) (h3:mgD b=none) :
  Calls Tryz.prog 9 #[pv p.k,v,.int .i64 now] w (StP w B p m (c+4) (s,([],[]))):=by
 have M:=I (Tu.refl h);have k7:w.cell? ⟨p.k,7,none⟩=some (.int .i64 s.st):=h.blk.cell 7;have Z:=I (fun(w1:World)=>CJ now w1);rw[h1] at k7;rw[h2] at Z;have CD:=I (Jy (S:=AO p m) hv);have O:Mc.mgI b=2:=by unfold Mc.mgI;rw[h3];rfl
 rw[O] at CD;clear h hz hc hl hv h1 h2 h3 O;go_enter Tryz.func9,Tryz.ntmps9
 go_wp2_with (first
  |(go_at_call 21;refine Ah (Z.o _) ?_;rintro wt hw;subst hw;clear Z)
  |(go_at_call 24;refine Calls.mono CD.o ?_;rintro e wd ⟨ds,rfl,⟨bv,av,_,_,hs,ho,O,_⟩,X⟩;clear CD k7;replace M:=I (M.o.below X);have aa:=I hs;have Y:=I ho;have ab:=I O;clear X hs ho O)
  |(refine Wh.Bv (by rfl) 61 (.tmp 8) (.tmp 29) (by rfl) 61 rfl ds (by rfl) (by rfl) (by rw[aa.o];rfl) ab.o Y.o ?_;rintro V1 hV X;replace M:=I (M.o.below X);clear hV X)
  |fail)
 go_ret2
 exact⟨.slice none 0 0,_,rfl,SlN.nil _ _,M.o.more (by omega)⟩
theorem tak_4 {b:L} {v:Value} {now:Int} (h:Cl w B p m s c) (hz:Sz p s c) (hc:c<=700000) (hl:b.length<=100000) (hv:SlN (AO p m) w v b) {g:Mg} (h1:s.st=1) (h2:tmB now=true) (h3:mgD b=some g) (h4:g.k=5) (h5:g.fa.no=s.ou.no) :
  Calls Tryz.prog 9 #[pv p.k,v,.int .i64 now] w (StP w B p m (c+4) (endS mC s 3 g.fa.e,([],[]))):=by
 have M:=I (Tu.refl h);have k7:w.cell? ⟨p.k,7,none⟩=some (.int .i64 s.st):=h.blk.cell 7;have CT:=I (fun(w1:World)=>CJ now w1);rw[h1] at k7;rw[h2] at CT;have CD:=I (Jy (S:=AO p m) hv);have hi:Mc.mgI b=0:=by unfold Mc.mgI;rw[h3];rfl
 have hg:Mc.mgG b=g:=by unfold Mc.mgG;rw[h3];rfl
 rw[hi,hg] at CD;have t5:decide (g.fa.no=s.ou.no)=true:=decide_eq_true h5;have ao:(g.fa.no==s.ou.no)=true:=by simp [h5]
 have CE:=I (fun(w1:World) (h1:Cl w1 B p m s c)=>Il (st:=3) (er:=g.fa.e) h1 (by decide));clear h hz hc hl hv h1 h2 h3 hi hg h5;go_enter Tryz.func9,Tryz.ntmps9
 go_upto_region 6 with(first
  |(go_at_call 21;refine Ah (CT.o _) ?_;rintro wt hw;subst hw;clear CT)
  |(go_at_call 24;refine Calls.mono CD.o ?_;rintro e wd ⟨ds,rfl,⟨bv,av,Y,ab,hs,ho,hi,ae⟩,O⟩;clear CD k7;have SB:=I (M.o.made Y);have SA:=I (M.o.made ab);replace M:=I (M.o.below O);have ah:=I hs;have ag:=I ho;have ai:=I hi;have ad:=I ae;clear O hs ho hi ae Y ab)
  |(refine Wh.Bv (by rfl) 61 (.tmp 8) (.tmp 29) (by rfl) 61 rfl ds (by rfl) (by rfl) (by rw[ah.o];rfl) ai.o ag.o ?_;rintro V1 hV O;have X:=I hV;replace M:=I (M.o.below O);replace SB:=I (SB.o.below O);replace SA:=I (SA.o.below O);clear hV O)
  |fail)
 obtain⟨gm,af⟩:=Aj (wd.heap.size);rw[<-af] at X⊢;clear af;obtain⟨q0,Z,aa,ak⟩:=ad.o _ _ _ X.o;have an:=I Z;clear Z;rw[h4] at q0;have aj:V1.cell? ⟨p.k,13,none⟩=some (.int .i64 s.ou.no):=M.o.cl.blk.cell 13
 go_upto_region 8 with fail
 go_quiet (fail)
 have hd:=below_drewN (Below.refl V1.heap.size V1) nq;replace X:=I (X.o.below hd);replace M:=I (M.o.below hd);clear hd aj q0 aa ak;generalize V1.drewN nq=V3 at X M⊢;have aa:=(ad.o _ _ _ X.o).2.2.1
 go_wp2_with (first
  |(go_at_call 25;refine Ah (CE.o _ M.o.cl) ?_;rintro we ⟨me,hk⟩;clear CE;replace M:=I (M.o.trans hk);clear hk)
  |fail)
 go_ret2
 exact⟨.slice none 0 0,_,rfl,SlN.nil _ _,M.o.more (by omega)⟩
theorem tak_5 {b:L} {v:Value} {now:Int} (h:Cl w B p m s c) (hz:Sz p s c) (hc:c<=700000) (hl:b.length<=100000) (hv:SlN (AO p m) w v b) {g:Mg} (h1:s.st=1) (h2:tmB now=true) (h3:mgD b=some g) (h4:g.k=5) (h5:g.fa.no≠s.ou.no) :
  Calls Tryz.prog 9 #[pv p.k,v,.int .i64 now] w (StP w B p m (c+4) (s,([],[]))):=by
 have M:=I (Tu.refl h);have k7:w.cell? ⟨p.k,7,none⟩=some (.int .i64 s.st):=h.blk.cell 7;have CT:=I (fun(w1:World)=>CJ now w1);rw[h1] at k7;rw[h2] at CT;have CD:=I (Jy (S:=AO p m) hv);have hi:Mc.mgI b=0:=by unfold Mc.mgI;rw[h3];rfl
 have hg:Mc.mgG b=g:=by unfold Mc.mgG;rw[h3];rfl
 rw[hi,hg] at CD;have t5:decide (g.fa.no=s.ou.no)=false:=decide_eq_false h5;have ao:(g.fa.no==s.ou.no)=false:=by simp [h5]
 clear h hz hc hl hv h1 h2 h3 hi hg h5;go_enter Tryz.func9,Tryz.ntmps9
 go_upto_region 6 with(first
  |(go_at_call 21;refine Ah (CT.o _) ?_;rintro wt hw;subst hw;clear CT)
  |(go_at_call 24;refine Calls.mono CD.o ?_;rintro e wd ⟨ds,rfl,⟨bv,av,Y,ab,hs,ho,hi,ae⟩,O⟩;clear CD k7;have SB:=I (M.o.made Y);have SA:=I (M.o.made ab);replace M:=I (M.o.below O);have ah:=I hs;have ag:=I ho;have ai:=I hi;have ad:=I ae;clear O hs ho hi ae Y ab)
  |(refine Wh.Bv (by rfl) 61 (.tmp 8) (.tmp 29) (by rfl) 61 rfl ds (by rfl) (by rfl) (by rw[ah.o];rfl) ai.o ag.o ?_;rintro V1 hV O;have X:=I hV;replace M:=I (M.o.below O);replace SB:=I (SB.o.below O);replace SA:=I (SA.o.below O);clear hV O)
  |fail)
 obtain⟨gm,af⟩:=Aj (wd.heap.size);rw[<-af] at X⊢;clear af;obtain⟨q0,Z,aa,ak⟩:=ad.o _ _ _ X.o;have an:=I Z;clear Z;rw[h4] at q0;have aj:V1.cell? ⟨p.k,13,none⟩=some (.int .i64 s.ou.no):=M.o.cl.blk.cell 13
 go_upto_region 8 with fail
 go_quiet (fail)
 have hd:=below_drewN (Below.refl V1.heap.size V1) nq;replace X:=I (X.o.below hd);replace M:=I (M.o.below hd);clear hd aj q0 aa ak;generalize V1.drewN nq=V3 at X M⊢;have aa:=(ad.o _ _ _ X.o).2.2.1
 go_wp2_with fail
 go_ret2
 exact⟨.slice none 0 0,_,rfl,SlN.nil _ _,M.o.more (by omega)⟩
theorem tak_8 {b:L} {v:Value} {now:Int} (h:Cl w B p m s c) (hz:Sz p s c) (hc:c<=700000) (hl:b.length<=100000) (hv:SlN (AO p m) w v b) {g:Mg} (h1:s.st=1) (h2:tmB now=true) (h3:mgD b=some g) (h4:g.k≠5) (h5:g.k≠3) :
  Calls Tryz.prog 9 #[pv p.k,v,.int .i64 now] w (StP w B p m (c+4) (s,([],[]))):=by
 have M:=I (Tu.refl h);have k7:w.cell? ⟨p.k,7,none⟩=some (.int .i64 s.st):=h.blk.cell 7;have CT:=I (fun(w1:World)=>CJ now w1);rw[h1] at k7;rw[h2] at CT;have CD:=I (Jy (S:=AO p m) hv);have Y:Mc.mgI b=0:=by unfold Mc.mgI;rw[h3];rfl
 have hg:Mc.mgG b=g:=by unfold Mc.mgG;rw[h3];rfl
 rw[Y,hg] at CD;have t4:decide (g.k=5)=false:=decide_eq_false h4;have t5:decide (g.k=3)=false:=decide_eq_false h5;have ao:(g.k==5)=false:=by simp [h4]
 have an:(g.k==3)=false:=by simp [h5]
 clear h hz hc hl hv h1 h2 h3 Y hg h4 h5;go_enter Tryz.func9,Tryz.ntmps9
 go_upto_region 6 with(first
  |(go_at_call 21;refine Ah (CT.o _) ?_;rintro wt hw;subst hw;clear CT)
  |(go_at_call 24;refine Calls.mono CD.o ?_;rintro e wd ⟨ds,rfl,⟨bv,av,ad,Z,hs,ho,Y,aa⟩,O⟩;clear CD k7;have SB:=I (M.o.made ad);have SA:=I (M.o.made Z);replace M:=I (M.o.below O);have af:=I hs;have ae:=I ho;have ag:=I Y;have aj:=I aa;clear O hs ho Y aa ad Z)
  |(refine Wh.Bv (by rfl) 61 (.tmp 8) (.tmp 29) (by rfl) 61 rfl ds (by rfl) (by rfl) (by rw[af.o];rfl) ag.o ae.o ?_;rintro V1 hV O;have HM:=I hV;replace M:=I (M.o.below O);replace SB:=I (SB.o.below O);replace SA:=I (SA.o.below O);clear hV O)
  |fail)
 obtain⟨gm,ab⟩:=Aj (wd.heap.size);rw[<-ab] at HM⊢;clear ab;obtain⟨q0,X,ah,ai⟩:=aj.o _ _ _ HM.o;have ak:=I X;clear X;clear ah ai
 go_wp2_with fail
 go_ret2
 exact⟨.slice none 0 0,_,rfl,SlN.nil _ _,M.o.more (by omega)⟩
theorem tak_6 {b:L} {v:Value} {now:Int} (h:Cl w B p m s c) (hz:Sz p s c) (hc:c<=700000) (hl:b.length<=100000) (hv:SlN (AO p m) w v b) {g:Mg} (h1:s.st=1) (h2:tmB now=true) (h3:mgD b=some g) (hu:s.st=1->s.ou.u≠0) (h4:g.k=3) (h5:opeL p.P s g.re=none) :
  Calls Tryz.prog 9 #[pv p.k,v,.int .i64 now] w (StP w B p m (c+4) (s,([],[]))):=by
 have M:=I (Tu.refl h);have k7:w.cell? ⟨p.k,7,none⟩=some (.int .i64 s.st):=h.blk.cell 7;have CT:=I (fun(w1:World)=>CJ now w1);rw[h1] at k7;rw[h2] at CT;have CD:=I (Jy (S:=AO p m) hv);have X:Mc.mgI b=0:=by unfold Mc.mgI;rw[h3];rfl
 have hg:Mc.mgG b=g:=by unfold Mc.mgG;rw[h3];rfl
 rw[X,hg] at CD;have CO:=I (fun(w1:World) (bv av:Value) (aj:Cl w1 B p m s c) (s1:SlN (AO p m) w1 bv g.re.t.b) (s2:SlN (AO p m) w1 av g.re.b)=>RE aj ⟨h1,hu h1⟩ (by omega) s1 s2);rw[h5] at CO;clear h hz hc hl hv h1 h2 h3 X hg h5;go_enter Tryz.func9,Tryz.ntmps9
 go_upto_region 6 with(first
  |(go_at_call 21;refine Ah (CT.o _) ?_;rintro wt hw;subst hw;clear CT)
  |(go_at_call 24;refine Calls.mono CD.o ?_;rintro e wd ⟨ds,rfl,⟨bv,av,ae,aa,hs,Z,X,ad⟩,O⟩;clear CD k7;have SB:=I (M.o.made ae);have SA:=I (M.o.made aa);replace M:=I (M.o.below O);have af:=I hs;have ao:=I Z;have ag:=I X;have ak:=I ad;clear O hs Z X ad ae aa)
  |(refine Wh.Bv (by rfl) 61 (.tmp 8) (.tmp 29) (by rfl) 61 rfl ds (by rfl) (by rfl) (by rw[af.o];rfl) ag.o ao.o ?_;rintro V1 hV O;have HM:=I hV;replace M:=I (M.o.below O);replace SB:=I (SB.o.below O);replace SA:=I (SA.o.below O);clear hV O)
  |fail)
 obtain⟨gm,ab⟩:=Aj (wd.heap.size);rw[<-ab] at HM⊢;clear ab;obtain⟨q0,Y,ar,ah⟩:=ak.o _ _ _ HM.o;have ai:=I Y;clear Y;rw[h4] at q0;clear ar ah
 go_wp2_with (first
  |(refine Wh.AE (by rfl) 55 (.tmp 56) (by rfl) gm 16 (by rfl) (reA g.re bv av) _ ai.o Tryz.underlying55 (by rfl) (by kernel_rfl) ?_)
  |(go_at_call 26;refine Calls.mono (CO.o _ _ _ M.o.cl SB.o SA.o) ?_;rintro e wo ⟨cs,m4,rfl,hs,Z,X,hx,hk⟩;clear CO q0;have au:=I hs;have an:=I Z;have aw:=I X;have HX:=I hx;replace M:=I (M.o.trans hk);clear hs Z X hx hk)
  |(refine Wh.Bv (by rfl) 96 (.tmp 10) (.tmp 59) (by rfl) 96 rfl cs (by rfl) (by rfl) (by rw[au.o];rfl) aw.o an.o ?_;rintro V2 hV O;have HC:=I hV;replace M:=I (M.o.below O);clear hV O)
  |fail)
 go_ret2
 exact⟨.slice none 0 0,_,rfl,SlN.nil _ _,M.o.more (by omega)⟩
theorem tak_7 {b:L} {v:Value} {now:Int} (h:Cl w B p m s c) (hz:Sz p s c) (hc:c<=700000) (hl:b.length<=100000) (hv:SlN (AO p m) w v b) {g:Mg} (h1:s.st=1) (h2:tmB now=true) (h3:mgD b=some g) {x:Cr} (hu:s.st=1->s.ou.u≠0) (h4:g.k=3) (h5:opeL p.P s g.re=some x) :
  Calls Tryz.prog 9 #[pv p.k,v,.int .i64 now] w (StP w B p m (c+4) (goL mC p.P s x now)):=by
 have M:=I (Tu.refl h);have k7:w.cell? ⟨p.k,7,none⟩=some (.int .i64 s.st):=h.blk.cell 7;have CT:=I (fun(Y:World)=>CJ now Y);rw[h1] at k7;rw[h2] at CT;have CD:=I (Jy (S:=AO p m) hv);have X:Mc.mgI b=0:=by unfold Mc.mgI;rw[h3];rfl
 have hg:Mc.mgG b=g:=by unfold Mc.mgG;rw[h3];rfl
 rw[X,hg] at CD;have CO:=I (fun(Y:World) (bv av:Value) (Z:Cl Y B p m s c) (s1:SlN (AO p m) Y bv g.re.t.b) (s2:SlN (AO p m) Y av g.re.b)=>RE Z ⟨h1,hu h1⟩ (by omega) s1 s2);rw[h5] at CO;have ag:=re_of h3 h4;have hx:Okx x:=by
  have e:=ope_x h5;have h6:Ms.prB g.re.c=true/\tkB g.re.t=true/\Ms.Bu g.re.b=true:=by simpa [reB] using ag
  have h7:=Ms.DK h6.2.1;exact⟨by rw[e.1];exact(Yj h3 hl).2.2.1.2,by rw[e.2];omega⟩
 have CG:=I (fun(Y:World) (m1:CM) (bv:Value) (Z:Cl Y B p m1 s (c+1)) (s1:SlN (AO p m1) Y bv x.b)=>Yh (now:=now) Z (hz.more (by omega)) (by omega) hx h2 s1);obtain⟨R,eR⟩:=Aj (goL mC p.P s x now);rw[<-eR] at CG⊢;clear h hz hc hl hv h1 h2 h3 X hg h5 ag hx eR;go_enter Tryz.func9,Tryz.ntmps9
 go_upto_region 6 with(first
  |(go_at_call 21;refine Ah (CT.o _) ?_;rintro wt hw;subst hw;clear CT)
  |(go_at_call 24;refine Calls.mono CD.o ?_;rintro e wd ⟨ds,rfl,⟨bv,av,aj,ad,hs,ho,X,ah⟩,O⟩;clear CD k7;have SB:=I (M.o.made aj);have SA:=I (M.o.made ad);replace M:=I (M.o.below O);have ak:=I hs;have ay:=I ho;have an:=I X;have aw:=I ah;clear O hs ho X ah aj ad)
  |(refine Wh.Bv (by rfl) 61 (.tmp 8) (.tmp 29) (by rfl) 61 rfl ds (by rfl) (by rfl) (by rw[ak.o];rfl) an.o ay.o ?_;rintro V1 hV O;have HM:=I hV;replace M:=I (M.o.below O);replace SB:=I (SB.o.below O);replace SA:=I (SA.o.below O);clear hV O)
  |fail)
 obtain⟨gm,af⟩:=Aj (wd.heap.size);rw[<-af] at HM⊢;clear af;obtain⟨q0,ab,az,ar⟩:=aw.o _ _ _ HM.o;have au:=I ab;clear ab;rw[h4] at q0;clear az ar
 go_upto_region 13 with(first
  |(refine Wh.AE (by rfl) 55 (.tmp 56) (by rfl) gm 16 (by rfl) (reA g.re bv av) _ au.o Tryz.underlying55 (by rfl) (by kernel_rfl) ?_)
  |(go_at_call 26;refine Calls.mono (CO.o _ _ _ M.o.cl SB.o SA.o) ?_;rintro e wo ⟨cs,m4,rfl,hs,ho,X,hx,hk⟩;clear CO q0;have aA:=I hs;have ax:=I ho;have ai:=I X;have HX:=I hx;replace M:=I (M.o.trans hk);clear hs ho X hx hk)
  |(refine Wh.Bv (by rfl) 96 (.tmp 10) (.tmp 59) (by rfl) 96 rfl cs (by rfl) (by rfl) (by rw[aA.o];rfl) ai.o ax.o ?_;rintro V2 hV O;have HC:=I hV;obtain⟨ae,s1⟩:=HX.o x rfl;replace SB:=I (s1.below O);have ao:=I ae;clear ae s1;replace M:=I (M.o.below O);clear hV O)
  |fail)
 have cg:=CG.o V2 m4 bv M.o.cl SB.o;rw[<-ao.o] at cg;clear CG;obtain⟨gc,aa⟩:=Aj (wo.heap.size);rw[<-aa] at HC⊢;clear aa
 go_wp2_with (first
  |(refine Wh.AE (by rfl) 96 (.tmp 10) (by rfl) gc 0 (by rfl) cs _ (Wh.Ac HC.o) Tryz.underlying96 (by rfl) ai.o ?_)
  |(go_at_call 27;refine Calls.mono cg ?_;rintro e w6 ⟨v,m6,rfl,hs,hk⟩;clear cg;have HV:=I (Out.old M.o.size hs);replace M:=I (M.o.trans hk);clear hs hk)
  |fail)
 go_ret2
 exact⟨v,m6,rfl,HV.o,M.o⟩
theorem WA {b:L} {v:Value} {now:Int} (h:Cl w B p m s c) (hu:s.st=1->s.ou.u≠0) (X:Sz p s c) (Y:c<=700000) (O:b.length<=100000) (M:SlN (AO p m) w v b) :
  Calls Tryz.prog 9 #[pv p.k,v,.int .i64 now] w (StP w B p m (c+4) (takL mC p.P s b now)):=by
 unfold takL
 by_cases h1:s.st=1
 ·cases h2:tmB now with
  |false=>rw[if_neg (fun x=>by simp at x)];exact tak_2 h X Y O M h1 h2
  |true=>
   rw[if_pos ⟨h1,rfl⟩];cases h3:mgD b with
   |none=>exact tak_3 h X Y O M h1 h2 h3
   |some g=>
    simp only
    by_cases h4:g.k=5
    ·rw[if_pos h4]
     by_cases h5:g.fa.no=s.ou.no
     ·rw[if_pos h5];exact tak_4 h X Y O M h1 h2 h3 h4 h5
     ·rw[if_neg h5];exact tak_5 h X Y O M h1 h2 h3 h4 h5
    ·rw[if_neg h4]
     by_cases h5:g.k=3
     ·rw[if_pos h5]
      cases h6:opeL p.P s g.re with
      |none=>exact tak_6 h X Y O M h1 h2 h3 hu h5 h6
      |some x=>exact tak_7 h X Y O M h1 h2 h3 hu h5 h6
     ·rw[if_neg h5];exact tak_8 h X Y O M h1 h2 h3 h4 h5
 ·rw[if_neg (fun x=>h1 x.1)];exact tak_1 h X Y O M h1
end
end Cl
namespace Cl
open Go.RowKit Ae Se
open Nm (L krb tgL tgR)
open Ms (Pr tmB pSm mSm mgO mgD mgB mgE An Mg As Tg Re Rp Tk asB tgB reB tkB prB Bu tmB rpO rpD rpE rpB)
open Ca (Cr It putL putE)
open SeL (BZ Cy)
def annP:Pr:=([65],[97,110,110])
def Bc:Pr:=([83],[109,97,105,108])
def k9:Nat->UInt8:=fun i=>if i=0 then 9 else 0
def Ex (n:Nat):Nat->UInt8:=fun i=>if i=0 then UInt8.ofNat n else if i=1 then UInt8.ofNat (n / 256) else if i=2 then 3 else 0
structure Pq where
 no:Int
 ks:Nat->UInt8
 u:Int
def pq0:Pq:=⟨0,k9,3⟩
def repP (q:Pq) (s:Pr) (no:Int):Rp:=⟨(List.range 32).map (Ex q.no.toNat),s,0,500,no⟩
def repR (q:Pq) (s:Pr) (who:Pr) (no:Int):Re:=⟨who,⟨s,1,[1,2]⟩,(BZ q.ks q.u 55 (lO (rpO (repP q s no)))).1⟩
def repL (q:Pq) (s:Pr) (who:Pr) (no:Int):L:=lO (mgO (mRe (repR q s who no)))
theorem krb_7:krb.length=7:=by decide
theorem UN {q:As} (h:asB q=true):mgO (mAs q)=some (mgE (mAs q))/\mgD (mgE (mAs q))=some (mAs q):=by
 have hB:mgB (mAs q)=true:=by unfold mgB mAs;simp [h]
 have O:prB q.c=true/\prB q.s=true/\tmB q.t=true/\tmB q.no=true:=by simpa [asB] using h
 have X:=(Ms.AV O.1).1;have h2:=(Ms.AV O.2.1).1;have h3:=Ms.AF q.t;have Y:=Ms.AF q.no;have Z:=Ms.Ay 106 [Ms.prE q.c,Ms.prE q.s,DerP.encI q.t,DerP.encI q.no].flatten;have h6:[Ms.prE q.c,Ms.prE q.s,DerP.encI q.t,DerP.encI q.no].flatten.length=(Ms.prE q.c).length+((Ms.prE q.s).length+((DerP.encI q.t).length+(DerP.encI q.no).length)):=by simp
 have M:mgO (mAs q)=some (mgE (mAs q)):=Ms.Bw.2 ⟨hB,by show(Ms.asE q).length<=2000;rw[Ms.asE];omega,rfl⟩;exact⟨M,Ms.Jk.2 M⟩
theorem Yk {q:Tg} (h:tgB q=true):mgO (mTg q)=some (mgE (mTg q))/\mgD (mgE (mTg q))=some (mTg q):=by
 have hB:mgB (mTg q)=true:=by unfold mgB mTg;simp [h]
 have M:tkB q.t=true/\Bu q.a=true/\prB q.s=true/\tmB q.u=true/\tmB q.no=true:=by simpa [tgB] using h
 have X:=(Ms.BV M.1).1;have hb:=Ms.Bd M.2.1;have h2:=Ms.Ay 4 q.a;have h3:=(Ms.AV M.2.2.1).1;have Y:=Ms.AF q.u;have Z:=Ms.AF q.no;have h6:=Ms.Ay 108 [Ms.tkE q.t,DerP.elem 4 q.a,Ms.prE q.s,DerP.encI q.u,DerP.encI q.no].flatten;have h7:[Ms.tkE q.t,DerP.elem 4 q.a,Ms.prE q.s,DerP.encI q.u,DerP.encI q.no].flatten.length=(Ms.tkE q.t).length+((DerP.elem 4 q.a).length+((Ms.prE q.s).length+((DerP.encI q.u).length+(DerP.encI q.no).length))):=by simp
 have O:mgO (mTg q)=some (mgE (mTg q)):=Ms.Bw.2 ⟨hB,by show(Ms.tgE q).length<=2000;rw[Ms.tgE];omega,rfl⟩;exact⟨O,Ms.Jk.2 O⟩
theorem UO {q:Re} (h:reB q=true):mgO (mRe q)=some (mgE (mRe q))/\mgD (mgE (mRe q))=some (mRe q):=by
 have hB:mgB (mRe q)=true:=by unfold mgB mRe;simp [h]
 have M:prB q.c=true/\tkB q.t=true/\Bu q.b=true:=by simpa [reB] using h
 have X:=(Ms.AV M.1).1;have Y:=(Ms.BV M.2.1).1;have hb:=Ms.Bd M.2.2;have Z:=Ms.Ay 4 q.b;have h6:=Ms.Ay 107 [Ms.prE q.c,Ms.tkE q.t,DerP.elem 4 q.b].flatten;have h7:[Ms.prE q.c,Ms.tkE q.t,DerP.elem 4 q.b].flatten.length=(Ms.prE q.c).length+((Ms.tkE q.t).length+(DerP.elem 4 q.b).length):=by simp
 have O:mgO (mRe q)=some (mgE (mRe q)):=Ms.Bw.2 ⟨hB,by show(Ms.reE q).length<=2000;rw[Ms.reE];omega,rfl⟩;exact⟨O,Ms.Jk.2 O⟩
theorem WB {ks:Nat->UInt8} {u:Int} {N:Nat} {a:An} (O:Ms.anB a=true) (hu:0<=u) (M:u<=255) (X:N<=1000000):Bu (seaL ks u N a)=true:=by
 have h:=Kd.Rv O;unfold seaL;rw[Kd.Wq O];show Bu (BZ ks u (N:Int) (Ms.anE a)).1=true;rw[Kd.Kf (by omega) (by omega) (by omega) hu M];show Bu (Dm ks u.toNat _ _)=true;unfold Bu;rw[BT];simp;omega
theorem Yl {P:Pr} {s:St} {x:Cr} {now:Int} (X:prB P=true) (hx:tkB (tkOf x)=true) (Z:prB s.tg=true) (M:tmB now=true) (h1:s.n<1000000) (h2:s.s<1000000):tgB (furQ P s x now)=true:=by
 have ha:Ms.anB ⟨P,now,0⟩=true:=by unfold Ms.anB;rw[X,M];rfl
 have hb:=WB (ks:=x.k) (u:=7) (N:=s.s+1) ha (by decide) (by decide) (by omega);have h':0<=now/\now<=1073741824:=by simpa [tmB,Ms.inB] using M
 have Y:tmB (Hc now)=true:=by unfold Hc tmB Ms.inB;simp;omega
 have O:tmB ((s.n+1:Nat):Int)=true:=by unfold tmB Ms.inB;simp;omega
 unfold tgB furQ;simp only;rw[hx,hb,Z,Y,O]
 rfl
theorem UP {P:Pr} {s:St} {now:Int} (O:prB P=true) (Z:prB (own P)=true) (X:tmB now=true) (h1:s.n<1000000):asB (firQ P s now)=true:=by
 have h':0<=now/\now<=1073741824:=by simpa [tmB,Ms.inB] using X
 have Y:tmB (Hc now)=true:=by unfold Hc tmB Ms.inB;simp;omega
 have M:tmB ((s.n+1:Nat):Int)=true:=by unfold tmB Ms.inB;simp;omega
 unfold asB firQ;simp only;rw[O,Z,Y,M]
 rfl
theorem UQ {q:Pq} {s:Pr} {no:Int} (hs:prB s=true) (M:tmB no=true):rpB (repP q s no)=true/\(repP q s no).ss.length=32:=by
 refine⟨?_,by simp [repP]⟩;unfold rpB repP;simp only;rw[hs,M]
 rfl
theorem Ym {q:Pq} {s M:Pr} {no:Int} (hs:prB s=true) (hw:prB M=true) (X:tmB no=true) (hu:0<=q.u) (O:q.u<=255):reB (repR q s M no)=true:=by
 have h:=UQ (q:=q) hs X;have Z:=Kd.Mp h.2 h.1;have Y:Bu (BZ q.ks q.u 55 (lO (rpO (repP q s no)))).1=true:=by
  rw[Kd.Mq h.2 h.1];show Bu (BZ q.ks q.u 55 (rpE (repP q s no))).1=true;rw[Kd.Kf (by omega) (by decide) (by decide) hu O];show Bu (Dm _ _ _ _)=true;unfold Bu;rw[BT];simp;omega
 unfold reB repR;simp only;rw[hw,Y];unfold tkB;simp only;rw[hs]
 rfl
theorem Yn (n:Nat):∀i,i<32->ksOf ((List.range 32).map (Ex n)) i=Ex n i:=by
 intro i M;unfold ksOf;rw[List.getD_eq_getElem?_getD,List.getElem?_map,List.getElem?_range M]
 rfl
theorem Yo (n:Nat):ksOf ((List.range 32).map (Ex n))=Ex n:=by
 funext i
 by_cases h:i<32
 ·exact Yn n i h
 ·unfold ksOf
  rw[List.getD_eq_getElem?_getD,List.getElem?_eq_none (by simp;omega)];unfold Ex;rw[if_neg (by omega),if_neg (by omega),if_neg (by omega)]
  rfl
def gotX (q:Pq) (s:Pr):Cr:=⟨s,1,[1,2],Ex q.no.toNat,500⟩
theorem RH {P:Pr} {s:St} {q:Pq} {v:Pr} (O:q.no=s.ou.no) (Y:q.ks=s.ou.ks) (Z:q.u=s.ou.u) (hs:prB v=true) (X:tmB q.no=true) (hu:0<=q.u) (M:q.u<=255):opeL P s (repR q v P q.no)=some (gotX q v):=by
 have h:=UQ (q:=q) hs X;have hl:=Kd.Mp h.2 h.1;unfold opeL;rw[if_pos (show(repR q v P q.no).c=P from rfl)];have e:Cy s.ou.ks s.ou.u (repR q v P q.no).b=(rpE (repP q v q.no),0):=by
  unfold repR;simp only;rw[Kd.Mq h.2 h.1,<-Y,<-Z];exact Kd.IF (by show(rpE (repP q v q.no)).length<=784;omega) (by decide) (by decide) hu M
 rw[e];simp only[if_true];rw[Kd.Wr h.2 h.1];simp only;rw[if_pos (show(repP q v q.no).no=s.ou.no/\(repP q v q.no).s=(repR q v P q.no).t.s from⟨O,rfl⟩)];unfold gotX repR repP;simp only[Yo]
theorem RI {m:Md} {P:Pr} {s:St} {q:Pq} {v:Pr} {now:Int} (O:s.st=1) (ht:tmB now=true) (Z:q.no=s.ou.no) (h2:q.ks=s.ou.ks) (h3:q.u=s.ou.u) (hP:prB P=true) (hs:prB v=true) (Y:tmB q.no=true) (hu:0<=q.u) (M:q.u<=255) :
  takL m P s (repL q v P q.no) now=goL m P s (gotX q v) now:=by
 have X:=Ym (q:=q) hs hP Y hu M;unfold takL;rw[if_pos ⟨O,ht⟩];unfold repL;rw[(UO X).1];show(match mgD (mgE (mRe (repR q v P q.no))) with | none=>_ | some g=>_)=_;rw[(UO X).2];simp only;rw[if_neg (show ¬(mRe (repR q v P q.no)).k=5 by show ¬(3:Int)=5;decide),if_pos (show(mRe (repR q v P q.no)).k=3 from rfl),show(mRe (repR q v P q.no)).re=repR q v P q.no from rfl,RH Z h2 h3 hs Y hu M]
theorem Kg:prB annP=true:=by decide
theorem Np:prB Bc=true:=by decide
theorem RJ:prB (own annP)=true:=by decide
theorem OS:JN Bc=true:=by decide
theorem Lj:JN annP=true:=by decide
def s1 (n:Nat):St:=firS k9 (begS {st0 with n:=n} Bc)
end Cl
namespace Cl
open Go.RowKit Ae Se
open Nm (L krb tgL tgR FY Fg BY)
open Ms (Pr tmB pSm mSm)
open Rg (prV)
open Ca (Ca)
theorem WC (w:World):Calls Tryz.prog 14 #[] w fun e w'=>e=.returned (prV annP)/\Below w.heap.size w w':=by
 obtain⟨W,M⟩:=Aj (w.alloc (.cells #[.string ⟨#[]⟩,.string ⟨#[]⟩] 35));have O:=I (show Blk W w.heap.size 35 #[.string ⟨#[]⟩,.string ⟨#[]⟩] from M▸Blk.new w _ _);have HB:=I (show Below w.heap.size w W from M▸Ag.alloc Af _);go_enter Tryz.func14,Tryz.ntmps14
 go_upto_region 1 with fail
 rw[<-M];clear M;have Z:=O.o.cell 0;have Y:=O.o.cell 1;have fz:=O.o.frozen
 go_wp2
 have X:Blk _ w.heap.size 35 #[.string ⟨annP.1.toArray⟩,.string ⟨annP.2.toArray⟩]:=(O.o.set 0 (.string ⟨annP.1.toArray⟩)).set 1 (.string ⟨annP.2.toArray⟩);refine bodyPost_ret (v:=prV annP) ?_ ?_ ?_
 ·exact Wh.Al (v:=prV annP) 0 35 ⟨w.heap.size,0,none⟩ Tryz.results14 (by rfl) (Wh.Ao X Tryz.underlying35 (by rfl) Rg.AZ)
 ·rfl
 ·exact⟨rfl,Si.AX (Si.AX HB.o Af _) Af _⟩
theorem Nq (w:World):Calls Tryz.prog 7 #[] w fun e w'=>e=.returned (prV Bc)/\Below w.heap.size w w':=by
 obtain⟨W,M⟩:=Aj (w.alloc (.cells #[.string ⟨#[]⟩,.string ⟨#[]⟩] 35));have O:=I (show Blk W w.heap.size 35 #[.string ⟨#[]⟩,.string ⟨#[]⟩] from M▸Blk.new w _ _);have HB:=I (show Below w.heap.size w W from M▸Ag.alloc Af _);go_enter Tryz.func7,Tryz.ntmps7
 go_upto_region 1 with fail
 rw[<-M];clear M;have Z:=O.o.cell 0;have Y:=O.o.cell 1;have fz:=O.o.frozen
 go_wp2
 have X:Blk _ w.heap.size 35 #[.string ⟨Bc.1.toArray⟩,.string ⟨Bc.2.toArray⟩]:=(O.o.set 0 (.string ⟨Bc.1.toArray⟩)).set 1 (.string ⟨Bc.2.toArray⟩);refine bodyPost_ret (v:=prV Bc) ?_ ?_ ?_
 ·exact Wh.Al (v:=prV Bc) 0 35 ⟨w.heap.size,0,none⟩ Tryz.results7 (by rfl) (Wh.Ao X Tryz.underlying35 (by rfl) Rg.AZ)
 ·rfl
 ·exact⟨rfl,Si.AX (Si.AX HB.o Af _) Af _⟩
theorem RK (n:Nat):Tryz.prog.built 30 [(0,.int .u8 ((UInt8.ofNat n).toNat:Int)),(1,.int .u8 ((UInt8.ofNat (n / 256)).toNat:Int)),(2,.int .u8 3)]=some (AW (Ex n)):=by kernel_rfl
theorem Nr:Tryz.prog.built 30 [(0,.int .u8 9)]=some (AW k9):=by kernel_rfl
theorem Mt (ks:Nat->UInt8):(AW ks).all (·.oneCell')=true:=Se.VJ ks
theorem RL (n:Nat):IntKind.u8.wrap (n:Int)=((UInt8.ofNat n).toNat:Int):=by
 rw[IntKind.wrap_u8];simp
theorem WD (n:Nat) (hn:n<=1000000000000) (w:World):Calls Tryz.prog 15 #[.int .i64 (n:Int)] w fun e w'=>e=.returned (.agg (AW (Ex n)))/\Below w.heap.size w w':=by
 have O:=I (RK n);have hi:(Tryz.prog.info? 30).map (·.size)=some (AW (Ex n)).size:=by rw[AQ];kernel_rfl
 have Z:=I hi;have s1:IntKind.u8.wrap (n:Int)=((UInt8.ofNat n).toNat:Int):=RL n;have s2:IntKind.u8.wrap ((n:Int) / 256)=((UInt8.ofNat (n / 256)).toNat:Int):=by rw[<-RL (n / 256)];congr 1
 have s3:IntKind.i64.wrap ((n:Int) / 256)=(n:Int) / 256:=by rw[IntKind.wrap_i64];omega
 obtain⟨cs,M⟩:=Aj (AW (Ex n));have HS:=I (show cs.size=32 by rw[M];exact AQ _);have HO:=I (show cs.all (·.oneCell')=true by rw[M];exact Mt _);rw[<-M] at Z O⊢;clear M hi;obtain⟨W,Y⟩:=Aj (w.alloc (.cells #[.int .u8 0,.int .u8 0,.int .u8 0,.int .u8 0,.int .u8 0,.int .u8 0,.int .u8 0,.int .u8 0,.int .u8 0,.int .u8 0,.int .u8 0,.int .u8 0,.int .u8 0,.int .u8 0,.int .u8 0,.int .u8 0,.int .u8 0,.int .u8 0,.int .u8 0,.int .u8 0,.int .u8 0,.int .u8 0,.int .u8 0,.int .u8 0,.int .u8 0,.int .u8 0,.int .u8 0,.int .u8 0,.int .u8 0,.int .u8 0,.int .u8 0,.int .u8 0] 30));have HZ:=I (show ∃z:Array Value,z.size=32/\Blk W w.heap.size 30 z from⟨_,by rfl,Y▸Blk.new w _ _⟩);have HB:=I (show Below w.heap.size w W from Y▸Ag.alloc Af _);go_enter Tryz.func15,Tryz.ntmps15
 go_upto_region 1 with fail
 rw[<-Y];clear Y;obtain⟨zz,aa,X⟩:=HZ.o;have ab:=I X;clear HZ X
 go_wp2_with (first
  |(refine Mc.Ax (by rfl) 30 #[(0,.tmp 4),(1,.tmp 7),(2,.const (.int .u8 3))] (by rfl) cs (by simp only[List.map_toArray,List.map_cons,List.map_nil];exact O.o) ?_;clear O)
  |(refine Wh.BP (by rfl) 30 (.tmp 2) (.tmp 8) (by rfl) w.heap.size 30 zz ab.o cs (by rfl) (by rfl) (by rw[aa,HS.o]) Z.o HO.o ?_;rintro V hV hg;have HV:=I hV;replace HB:=I (btg HB.o hg Af);clear hV hg)
  |fail)
 refine bodyPost_ret (v:=.agg cs) ?_ ?_ ?_
 ·exact Wh.Al (v:=.agg cs) 2 30 ⟨w.heap.size,0,none⟩ Tryz.results15 (by rfl) (Wh.Ao HV.o Tryz.underlying30 (by rfl) Z.o)
 ·rfl
 ·exact⟨rfl,HB.o⟩
theorem Yp {Z w2 Y w4:World} {B b r k:Nat} {P:Pr} {ks:Nat->UInt8} (hB:B<=Z.heap.size) (h1:Z.heap.size<=b) (hx:Box w2 b ks none 0 0 0) (hr:Ca Y B r (.slice none 0 0) []) (h2:w2.heap.size<=r) (X:Below w2.heap.size w2 Y) (O:Below Y.heap.size Y w4) (h3:Y.heap.size<=k)
  (hk:Blk w4 k 88 (clA ⟨k,b,r,P,ks⟩ ⟨.slice none 0 0,[],none,0,0,0,.slice none 0 0,.pointer none,none,none⟩ st0)) (hs:Z.heap.size<=w2.heap.size):Cl w4 B ⟨k,b,r,P,ks⟩ ⟨.slice none 0 0,[],none,0,0,0,.slice none 0 0,.pointer none,none,none⟩ st0 0:=by
 have ae:=hx.lt;have aa:=hr.lt;have ab:=X.size;have p1:∀j,Ow b none j->j=b:=fun j M=>by
  rcases M with M | M
  ·exact M
  ·cases M
 have p2:∀j,Ca.CO r (.slice none 0 0) [] j->j=r:=fun j M=>Ca.XK M
 have key:∀i j,Pt ⟨k,b,r,P,ks⟩ ⟨.slice none 0 0,[],none,0,0,0,.slice none 0 0,.pointer none,none,none⟩ i j->(i=0/\j=k)\/(i=1/\j=b)\/(i=2/\j=r):=fun i j M=>by
  match i,M with
  |0,M=>exact .inl ⟨rfl,M⟩
  |1,M=>exact .inr (.inl ⟨rfl,p1 j M⟩)
  |2,M=>exact .inr (.inr ⟨rfl,p2 j M⟩)
  |3,M=>cases M
  |4,M=>obtain⟨z,hz,_⟩:=M;cases hz
  |5,M=>obtain⟨z,hz,_⟩:=M;cases hz
 have ad:=hk.lt;have af:=O.size;refine⟨⟨fun i i' j a c=>?_,fun i j a=>?_,fun i j a=>?_,by omega⟩,hk,hr.below O,rfl,(hx.below X).below O,⟨Nat.le_refl _,Nat.le_refl _,Nat.le_refl _⟩,Nm.Own.nil _ _,SxR.none,SxR.none,.inl ⟨rfl,fun e=>by cases e⟩⟩
 ·have:=key i j a
  have:=key i' j c;omega
 ·have:=key i j a
  omega
 ·have:=key i j a
  omega
theorem Ud (P:Pr) (b r:Nat) (ks:Nat->UInt8) (k:Nat):Tryz.prog.built 88 [(0,prV P),(1,pv b),(2,pv r)]=some (clA ⟨k,b,r,P,ks⟩ ⟨.slice none 0 0,[],none,0,0,0,.slice none 0 0,.pointer none,none,none⟩ st0):=by kernel_rfl
theorem Ue (P:Pr) (ks:Nat->UInt8) (w:World) (hs:pSm P) (hp:JN P=true):Calls Tryz.prog 18 #[prV P,.agg (AW ks)] w fun e w'=>∃p m,e=.returned (.tuple #[pv p.k,.int .i64 0])/\p.P=P/\p.ks=ks/\Cl w' w.heap.size p m st0 0/\Below w.heap.size w w':=by
 obtain⟨W,eW⟩:=Aj ((w.alloc (.cells #[.string ⟨P.1.toArray⟩,.string ⟨P.2.toArray⟩] 35)).alloc (.cells (AW ks) 30));have O:Below w.heap.size w W:=eW▸(Ag.alloc Af _).alloc (by simp) _;have X:=I (show Blk W w.heap.size 35 #[.string ⟨P.1.toArray⟩,.string ⟨P.2.toArray⟩] from eW▸(Blk.new w _ _).alloc _);have Y:=I (show Blk W (w.heap.size+1) 30 (AW ks) by have:=Blk.new (w.alloc (.cells #[.string ⟨P.1.toArray⟩,.string ⟨P.2.toArray⟩] 35)) 30 (AW ks);simp only[World.size_alloc] at this;exact eW▸this);have ag:=I (show(Tryz.prog.info? 30).map (·.size)=some (AW ks).size by rw[AQ];kernel_rfl);have HB:=I O;have C1:=I (fun(w1:World)=>Hm P w1 hs);rw[hp] at C1;have C2:=I (fun(w1:World)=>Nl P w1 (Nat.le_trans hs.1 (by decide)) (Nat.le_trans hs.2 (by decide)));have C3:=I (fun(w1:World)=>JJ ks w1);have C4:=I (fun(w1:World) (h:w.heap.size<=w1.heap.size)=>Ca.XI w.heap.size w1 h);obtain⟨cy,aj⟩:=Aj (AW ks);rw[<-aj] at C3 Y ag eW⊢;have q0:=X.c0;have q1:=X.c1;clear O hs hp aj;go_enter Tryz.func18,Tryz.ntmps18
 go_upto_region 1 with fail
 rw[<-eW];clear eW
 go_upto_region 3 with(first
  |(go_at_call 20;refine Ah (C1.o _) ?_;rintro w1 O;clear C1 q0 q1;replace X:=I (X.o.below O);replace Y:=I (Y.o.below O);replace HB:=HB.t O;clear O)
  |fail)
 have aa:Below w1.heap.size w1 w1.drew:=below_drewN Ag 1;replace X:=I (X.o.below aa);replace Y:=I (Y.o.below aa);replace HB:=HB.t aa;clear aa;refine Reg.AM (fun w'=>Blk w' w.heap.size 35 #[.string ⟨P.1.toArray⟩,.string ⟨P.2.toArray⟩]/\Blk w' (w.heap.size+1) 30 cy) 9 rfl (by kernel_rfl) ⟨X.o,Y.o⟩ ?_;refine Reg.tw 0 rfl ⟨X.o,Y.o⟩ (fun w' hS=>by obtain⟨hQ,hY⟩:=hS;have q0:=hQ.cell 0;have q1:=hQ.cell 1;go_simp<;>rfl) ?_;refine Reg.tw 2 (v:=.agg cy) rfl ⟨X.o,Y.o⟩ (fun w' hS=>by obtain⟨hQ,hY⟩:=hS;exact Wh.Da (.tmp 3) rfl rfl hY Tryz.underlying30 (by rfl) ag.o) ?_;refine Reg.b1 1 ?_
 right
 refine⟨_,_,_,_,_,_,22,#[prV P],rfl,by rfl,(by go_simp<;>first | rfl | exact⟨rfl,rfl⟩),?_⟩;refine Ah (C2.o _) ?_;rintro ay O;replace X:=I (X.o.below O);replace Y:=I (Y.o.below O);replace HB:=HB.t O;clear O;clear C2;refine⟨_,rfl,⟨X.o,Y.o⟩,?_⟩;simp only[Act.put,J,U,Aa];refine Reg.b1 3 ?_
 right
 have au:=I HB.o.size;refine⟨_,_,_,_,_,_,41,#[.agg cy],rfl,by rfl,(by go_simp<;>first | rfl | exact⟨rfl,rfl⟩),?_⟩;refine Calls.mono (C3.o _) ?_;rintro e Z ⟨xb,rfl,h1,hx,O⟩;replace X:=I (X.o.below O);replace Y:=I (Y.o.below O);replace HB:=HB.t O;have av:=I h1;have ar:=I hx;have ao:=I O.size;have af:=I (Below.refl Z.heap.size Z);clear O;clear C3 h1 hx;refine⟨_,rfl,⟨X.o,Y.o⟩,?_⟩;simp only[Act.put,J,U,Aa];refine Reg.b1 4 ?_
 right
 refine⟨_,_,_,_,_,_,42,#[],rfl,by rfl,(by go_simp<;>first | rfl | exact⟨rfl,rfl⟩),?_⟩;refine Ah (C4.o _ HB.o.size) ?_;rintro M ⟨ah,O,_⟩;replace X:=I (X.o.below O);replace Y:=I (Y.o.below O);replace HB:=HB.t O;replace af:=af.t O;have an:=I ah;have ae:=I (Below.refl M.heap.size M);clear O;clear C4 ah;obtain⟨CC,ad⟩:=Aj (clA ⟨M.heap.size,xb,Z.heap.size,P,ks⟩ ⟨.slice none 0 0,[],none,0,0,0,.slice none 0 0,.pointer none,none,none⟩ st0);have ax:=I ad;have aw:=I (show Tryz.prog.built 88 [(0,prV P),(1,pv xb),(2,pv Z.heap.size)]=some CC by rw[ad];exact Ud _ _ _ _ _);have ak:=I af.o;clear ad;refine⟨_,rfl,⟨X.o,Y.o⟩,?_⟩;simp only[Act.put,J,U,Aa];refine Reg.tw 5 (v:=.agg CC) rfl ⟨X.o,Y.o⟩ (fun w' hS=>by obtain⟨hQ,hY⟩:=hS;refine Bq (t:=88) (by rfl) (by simp only[List.map_toArray,List.map_cons,List.map_nil];exact aw.o)) ?_;refine Reg.b1 6 ?_
 left
 have O:Below M.heap.size M (M.alloc (.cells CC 88)):=Ag.alloc Af _;have ab:=Blk.new M 88 CC;refine⟨_,_,_,_,_,_,pv M.heap.size,M.alloc (.cells CC 88),rfl,by rfl,(by go_simp<;>rfl),⟨X.o.below O,Y.o.below O⟩,?_⟩;simp only[Act.put,J,U,Aa];obtain⟨w9,ai⟩:=Aj (M.alloc (.cells CC 88));rw[<-ai] at O ab⊢;clear ai;replace X:=I (X.o.below O);replace Y:=I (Y.o.below O);replace HB:=HB.t O;replace ae:=ae.t O;have HC:=I ab;have H9:=I (ae.o);obtain⟨az,ek⟩:=Aj (M.heap.size);rw[<-ek] at HC⊢;have EK:=I ek;clear ek O ab;refine Reg.ty 7 rfl ⟨X.o,Y.o⟩ ?_;refine Reg.ty 8 rfl ⟨X.o,Y.o⟩ ?_;refine wpAnyH_done (by kernel_rfl) ?_ _
 go_wp2
 go_ret2
 have hk:=HC.o;rw[ax.o,EK.o] at hk;exact⟨⟨M.heap.size,xb,Z.heap.size,P,ks⟩,_,(by first | rfl | (rw[EK.o];rfl)),rfl,rfl,Yp (Nat.le_trans au.o Af) av.o ar.o an.o Af ak.o H9.o Af hk ao.o,HB.o⟩
theorem Uf (P:Pr) (ks:Nat->UInt8) (w:World) (hs:pSm P) (hp:JN P=true):Calls Tryz.prog 19 #[prV P,.agg (AW ks)] w fun e w'=>∃x CC,e=.returned (.tuple #[pv x,.int .i64 0])/\w.heap.size<=x/\Tryz.prog.built 128 [(0,prV P),(1,.agg (AW ks))]=some CC/\Blk w' x 128 CC/\Below w.heap.size w w':=by
 obtain⟨W,eW⟩:=Aj ((w.alloc (.cells #[.string ⟨P.1.toArray⟩,.string ⟨P.2.toArray⟩] 35)).alloc (.cells (AW ks) 30));have M:Below w.heap.size w W:=eW▸(Ag.alloc Af _).alloc (by simp) _;have O:=I (show Blk W w.heap.size 35 #[.string ⟨P.1.toArray⟩,.string ⟨P.2.toArray⟩] from eW▸(Blk.new w _ _).alloc _);have HY:=I (show Blk W (w.heap.size+1) 30 (AW ks) by have:=Blk.new (w.alloc (.cells #[.string ⟨P.1.toArray⟩,.string ⟨P.2.toArray⟩] 35)) 30 (AW ks);simp only[World.size_alloc] at this;exact eW▸this);have ad:=I (show(Tryz.prog.info? 30).map (·.size)=some (AW ks).size by rw[AQ];kernel_rfl);have X:=I M;have C1:=I (fun(w1:World)=>FY P.2 w1 hs.2);have C2:=I (fun(w1:World)=>Fg P.1 P.2 w1 hs.1 hs.2);have Z:BY P.1 P.2=true/\tgL P.2=false:=by
  unfold JN at hp;rw[Bool.and_eq_true] at hp;exact⟨hp.1,by simpa using hp.2⟩
 rw[Z.2] at C1;rw[Z.1] at C2;have aa:(Tryz.prog.built 128 [(0,prV P),(1,.agg (AW ks))]).isSome=true:=by kernel_rfl
 obtain⟨CC,ab⟩:=Option.isSome_iff_exists.1 aa;have Y:=I ab;clear aa ab;obtain⟨cy,ae⟩:=Aj (AW ks);rw[<-ae] at HY ad eW Y⊢;have q1:=O.c1;clear M hs hp Z ae;go_enter Tryz.func19,Tryz.ntmps19
 go_upto_region 1 with fail
 rw[<-eW];clear eW
 go_wp2_with (first
  |(go_at_call 43;refine Ah (C1.o _) ?_;rintro w1 M;clear C1 q1;replace O:=I (O.o.below M);replace HY:=I (HY.o.below M);replace X:=X.t M;have q0:=O.c0;have q1:=O.c1;clear M)
  |(go_at_call 44;refine Ah (C2.o _) ?_;rintro w2 M;clear C2 q0 q1;replace O:=I (O.o.below M);replace HY:=I (HY.o.below M);replace X:=X.t M;have q0:=O.c0;have q1:=O.c1;clear M)
  |(refine Wh.AE (by rfl) 30 (.tmp 3) (by rfl) (w.heap.size+1) 0 (by rfl) cy _ (Wh.Ac HY.o) Tryz.underlying30 (by rfl) ad.o ?_)
  |(refine Mc.Ax (by rfl) 128 #[(0,.tmp 20),(1,.tmp 21)] (by rfl) CC (by simp only[List.map_toArray,List.map_cons,List.map_nil];exact Y.o) ?_)
  |fail)
 go_ret2
 exact⟨w2.heap.size,CC,rfl,X.o.size,Y.o,Blk.new w2 _ _,X.o.alloc X.o.size _⟩
theorem Yq {w:World} {B B':Nat} {p:CP} {m:CM} {s:St} {c:Nat} (h:Cl w B p m s c) (hB:B'<=B):Cl w B' p m s c:=
 ⟨⟨h.pa.dis,fun i j a=>Nat.le_trans hB (h.pa.lo i j a),h.pa.lt,Nat.le_trans hB h.pa.hB⟩,h.blk,⟨h.ca.blk,Ca.Tf h.ca.row hB,Nat.le_trans hB h.ca.lo,h.ca.vr,h.ca.rd,fun e he a M=>have q:=h.ca.off e he a M;⟨Nat.le_trans hB q.1,q.2⟩⟩,h.li,h.box,h.bc,h.vis.from_ hB,h.sx,h.sy,h.ou⟩
abbrev prA (c x:Nat) (q:Pq):Array Value:=(pv c :: pv x :: .int .i64 q.no :: ((AW q.ks).toList++[.int .i64 q.u])).toArray
theorem Ug (c x:Nat):Tryz.prog.built 32 [(0,pv c),(1,pv x),(3,.agg (AW k9)),(4,.int .i64 3)]=some (prA c x pq0):=by kernel_rfl
theorem RM (w:World):Calls Tryz.prog 5 #[] w fun e w'=>∃g x p m,e=.returned (pv g)/\p.P=annP/\p.ks=k9/\Cl w' w.heap.size p m st0 0/\¬AO p m g/\Blk w' g 32 (prA p.k x pq0)/\w.heap.size<=g/\Below w.heap.size w w':=by
 have Y:pSm annP:=⟨by decide,by decide⟩;have L1:=I (fun(Z:World)=>WC Z);have C1:=I (fun(Z:World)=>Ue annP k9 Z Y Lj);have C2:=I (fun(Z:World)=>Uf annP k9 Z Y Lj);have X:=I Nr;have ab:=I Ug;obtain⟨cy,ad⟩:=Aj (AW k9);rw[<-ad] at C1 C2 X ab;have O:=I (Below.refl w.heap.size w);clear Y ad;go_enter Tryz.func5,Tryz.ntmps5
 go_upto_region 2 with(first
  |(go_at_call 14;refine Ah (L1.o _) ?_;rintro Z M;replace O:=O.t M;clear M)
  |(refine Mc.Ax (by rfl) 30 #[(0,.const (.int .u8 9))] (by rfl) cy (by simp only[List.map_toArray,List.map_cons,List.map_nil];exact X.o) ?_)
  |(go_at_call 18;refine Calls.mono (C1.o _) ?_;rintro e w2 ⟨p,m,rfl,hp,aa,hk,M⟩;clear C1;have HP:=I hp;have af:=I aa;have HK:=I hk;have ae:=I O.o.size;replace O:=O.t M;clear hp aa hk M)
  |fail)
 go_wp2_with (first
  |(go_at_call 14;refine Ah (L1.o _) ?_;rintro w3 M;clear L1;replace O:=O.t M;replace HK:=I (HK.o.below M);clear M)
  |(refine Mc.Ax (by rfl) 30 #[(0,.const (.int .u8 9))] (by rfl) cy (by simp only[List.map_toArray,List.map_cons,List.map_nil];exact X.o) ?_)
  |(go_at_call 19;refine Calls.mono (C2.o _) ?_;rintro e w4 ⟨x,CC,rfl,_,_,_,M⟩;clear C2;replace O:=O.t M;replace HK:=I (HK.o.below M);clear M)
  |(refine Mc.Ax (by rfl) 32 #[(0,.tmp 23),(1,.tmp 24),(3,.tmp 25),(4,.const (.int .i64 3))] (by rfl) (prA p.k x pq0) (by simp only[List.map_toArray,List.map_cons,List.map_nil];exact ab.o _ _) ?_)
  |fail)
 go_ret;have M:Below w4.heap.size w4 (w4.alloc (.cells (prA p.k x pq0) 32)):=Ag.alloc Af _;exact⟨w4.heap.size,x,p,m,rfl,HP.o,af.o,(Yq HK.o ae.o).below M,HK.o.fresh Af,Blk.new w4 _ _,O.o.size,O.o.trans (M.mono O.o.size)⟩
end Cl
end Go.Proofs.YtlccngianpfalaaGreat
