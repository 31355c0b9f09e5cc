import Derived.Test.YtlccngianpfalaaGreatZClientRequests13
set_option maxHeartbeats 25600000
set_option maxRecDepth 100000
set_option linter.unusedVariables false
set_option linter.unusedSimpArgs false
namespace Go.Proofs.YtlccngianpfalaaGreat
namespace Ms
open Go.RowKit Ae DerP DerR
theorem BK {B:Nat} {w w2:World} {g j:Nat} {u:Value} (h:Below B w w2) (O:B<=g):Below B w (w2.setCell ⟨g,j,none⟩ u):=
 ⟨h.os,h.tape,h.output,by simpa [World.setCell] using h.size,fun i M=>(Below.heap_setCell w2 _ u i (by simp only;omega)).trans (h.block i M)⟩
theorem AD {P:Program} {fn:Func} {tmps:Array Value} {w:World} {v u:Value} (t q:Nat) (ty:TypeId) (a:Addr) (M:fn.results=#[.cell t ty,.tmp q]) (Y:tmps.getD t undef=.pointer (some a)) (hl:(loadVar ty a).run P w=.ok v w) (Z:tmps.getD q undef=u) :
  (results fn tmps).run P w=.ok (.tuple #[v,u]) w:=by
 have X:tmps[t]?.getD undef=.pointer (some a):=by simpa using Y
 have O:tmps[q]?.getD undef=u:=by simpa using Z
 simp [results,M,X,O,asAddr,hl]
def anG (b:L):An:=(anD b).getD an0
def anI (b:L):Int:=if (anD b).isSome then 0 else 2
theorem Kl (b:L) (A:Option Addr) (c:Nat) (w:World) (hr:Rd w w.heap.size A (bvs b)) (hc:b.length<=c) (hl:b.length<=3000) :
  Calls Tryz.prog 17 #[.slice A b.length c] w fun e w'=>e=.returned (.tuple #[.agg #[.string ⟨(anG b).c.1.toArray⟩,.string ⟨(anG b).c.2.toArray⟩,.int .i64 (anG b).t,.int .i64 (anG b).q],.int .i64 (anI b)])/\Below w.heap.size w w':=by
 obtain⟨W,eW⟩:=Aj ((w.alloc (.cells #[.string ⟨#[]⟩,.string ⟨#[]⟩,.int .i64 0,.int .i64 0] 68)).alloc (.cells #[.slice A b.length c,.bool false] 108));have aC:W.heap.size=w.heap.size+1+1:=by rw[eW];simp
 have ak:Below w.heap.size w W:=by rw[eW];exact(Ag.alloc Af _).alloc (by simp) _
 have aj:=Blk.new (w.alloc (.cells #[.string ⟨#[]⟩,.string ⟨#[]⟩,.int .i64 0,.int .i64 0] 68)) 108 #[.slice A b.length c,.bool false];rw[show(w.alloc (.cells #[.string ⟨#[]⟩,.string ⟨#[]⟩,.int .i64 0,.int .i64 0] 68)).heap.size=w.heap.size+1 by simp,<-eW] at aj;have au:RC W w.heap.size (w.heap.size+1) (some b):=⟨A,b.length,c,false,aj,rfl,rfl,hc,hr.below ak⟩;have Z:=I ak;have X:=I (show Blk W w.heap.size 68 #[.string ⟨#[]⟩,.string ⟨#[]⟩,.int .i64 0,.int .i64 0] by rw[eW];exact(Blk.new _ _ _).alloc _);have c1:=FD 98 w.heap.size (w.heap.size+1) (some b) W au (by omega) (by omega) (by show b.length<=100000;omega);have O:=I (show w.heap.size<=W.heap.size by omega);have aF:=I aC;have az:=I (fun w1 (h:Below w.heap.size w w1)=>hr.below h);have al:=(BB 98 (some b)).1;have aH:((some b:Option L).getD []).length=b.length:=rfl;have EP:=I (show(anP b).1=⟨(prP (Ax 98 (some b))).1,((intC (prP (Ax 98 (some b))).2).1:Int),((intC (intC (prP (Ax 98 (some b))).2).2).1:Int)⟩ from rfl);obtain⟨d,ed⟩:=Aj (Ax 98 (some b));rw[<-ed] at c1 al EP;have aM:=Mr d;have aI:=Kj (prP d).2;have aK:=(BB 48 d).1;have av:=I (show(d.getD []).length<=100000 by omega);have aw:=I (show((prP d).2.getD []).length<=100000 by omega);have aA:=I (show((intC (prP d).2).2.getD []).length<=100000 by omega);have T1:=I (fun B g w h h1 h2=>(Dr B g d w h h1 h2 av.o));have T2:=I (fun B g w h h1 h2=>(Ex B g (prP d).2 w h h1 h2 aw.o));have T3:=I (fun B g w h h1 h2=>(Ex B g (intC (prP d).2).2 w h h1 h2 aA.o));unfold Ints at T2 T3;have ah:pSm (prP d).1:=by
  have e1:(prP d).1=(txC (Ax 48 d),txC (AQ 27 (Ax 48 d))):=rfl;have e2:=(BB 27 (Ax 48 d)).1;have e3:=(BB 27 (Ax 48 d)).2;have e4:=(BB 27 (AQ 27 (Ax 48 d))).1;rw[e1];exact⟨by show((Ax 27 (Ax 48 d)).getD []).length<=1000000000;omega,by show((Ax 27 (AQ 27 (Ax 48 d))).getD []).length<=1000000000;omega⟩
 obtain⟨t1,an⟩:∃t,t=(prP d).1:=⟨_,rfl⟩;obtain⟨t2,aB⟩:∃t:Int,t=((intC (prP d).2).1:Int):=⟨_,rfl⟩;obtain⟨t3,ar⟩:∃t:Int,t=((intC (intC (prP d).2).2).1:Int):=⟨_,rfl⟩;rw[<-an] at T1 EP ah;rw[<-aB] at T2 EP;rw[<-ar] at T3 EP;have EN:=I (fun w1=>Ki ⟨t1,t2,t3⟩ w1 ah);have ED:=I (show anD b=if anO (anP b).1=some b then some (anP b).1 else none from rfl);rw[EP.o] at ED;clear hr aC ak aj au al aH aM aI aK ah av aw aA EP ed an aB ar;subst eW;go_enter Tryz.func17,Tryz.ntmps17
 go_upto_region 4 with(first
  |(go_at_call 32;refine Calls.mono c1 ?_;rintro e w2 ⟨⟨gd,rfl,aL,hd⟩,aG,ag⟩;clear c1;have HD:=I hd;have aa:=I (show w.heap.size+2<=gd by have:=aF.o;omega);replace X:=I (X.o.grown ag (by intro e;injection e with e;omega));replace Z:=I (Ak Z.o ag O.o (by omega));replace O:=I (Nat.le_trans O.o ag.size);have ao:=I (Jj hd);clear aL hd aG ag)
  |(go_at_call 33;refine Ah (T1.o w.heap.size gd _ HD.o O.o (by have:=aa.o;omega)) ?_;rintro w3 ⟨hd,Y⟩;clear T1;replace HD:=I hd;replace X:=I (X.o.grown Y (by intro e;injection e with e;have:=aa.o;omega));replace Z:=I (Ak Z.o Y O.o (by have:=aa.o;omega));replace O:=I (Nat.le_trans O.o Y.size);replace ao:=I (Jj hd);clear hd Y))
 obtain⟨P,eP⟩:=Aj (w3.heap.size);obtain⟨W4,e4⟩:=Aj (w3.alloc (.cells #[.string ⟨t1.1.toArray⟩,.string ⟨t1.2.toArray⟩,.int .i64 0,.int .i64 0] 68));have M:=I (show Blk W4 P 68 #[.string ⟨t1.1.toArray⟩,.string ⟨t1.2.toArray⟩,.int .i64 0,.int .i64 0] by rw[e4,eP];exact Blk.new _ _ _);have aE:W4.heap.size=P+1:=by rw[e4,eP];simp
 have af:=I (show gd<P by rw[eP];exact ao.o);have ad:=I (show w.heap.size<P by have:=af.o;have:=aa.o;omega);replace HD:=I (show RC W4 w.heap.size gd _ by rw[e4];exact Ez HD.o O.o _);replace X:=I (show Blk W4 w.heap.size 68 _ by rw[e4];exact X.o.alloc _);replace Z:=I (show Below w.heap.size w W4 by rw[e4];exact Z.o.alloc O.o _);replace O:=I (show w.heap.size<=W4.heap.size by have:=ad.o;omega);rw[<-e4,<-eP];clear e4 eP aE
 go_upto_region 5 with(go_at_call 34;refine Ah (T2.o w.heap.size gd _ HD.o O.o (by have:=aa.o;omega)) ?_;rintro w5 ⟨hd,Y⟩;clear T2;replace HD:=I hd;replace X:=I (X.o.grown Y (by intro e;injection e with e;have:=aa.o;omega));replace Z:=I (Ak Z.o Y O.o (by have:=aa.o;omega));replace O:=I (Nat.le_trans O.o Y.size);replace M:=I (M.o.grown Y (by intro e;injection e with e;have:=af.o;omega));have f0:=M.o.frozen 2;have k9:=M.c2;clear hd Y)
 have H1:=I (show Blk (w5.setCell ⟨P,2,none⟩ (.int .i64 t2)) P 68 #[.string ⟨t1.1.toArray⟩,.string ⟨t1.2.toArray⟩,.int .i64 t2,.int .i64 0] from M.o.set 2 (.int .i64 t2));have H2:=I (DV (j:=2) (u:=.int .i64 t2) HD.o (q:=P) (by have:=af.o;omega) O.o (by have:=ad.o;omega));have H4:=I (show Blk (w5.setCell ⟨P,2,none⟩ (.int .i64 t2)) w.heap.size 68 _ from(Below.heap_setCell w5 _ _ w.heap.size (fun e=>by have:=ad.o;simp only at e;omega)).trans X.o);have H5:=I (BK (j:=2) (u:=.int .i64 t2) Z.o (show w.heap.size<=P by have:=ad.o;omega));have H6:=I (show w.heap.size<=(w5.setCell ⟨P,2,none⟩ (.int .i64 t2)).heap.size from Nat.le_trans O.o (Ar (World.grownBy.refl w5 (some P)) (p:=⟨P,2,none⟩) (.inl rfl) (.int .i64 t2)).size);obtain⟨V,eV⟩:=Aj (w5.setCell ⟨P,2,none⟩ (.int .i64 t2));rw[<-eV] at H1 H2 H4 H5 H6⊢;clear eV k9 f0 M HD X Z O;have M:=H1;have HD:=H2;have X:=H4;have Z:=H5;have O:=H6;clear H1 H2 H4 H5 H6
 go_upto_region 6 with(go_at_call 34;refine Ah (T3.o w.heap.size gd _ HD.o O.o (by have:=aa.o;omega)) ?_;rintro w6 ⟨hd,Y⟩;clear T3;replace HD:=I hd;replace X:=I (X.o.grown Y (by intro e;injection e with e;have:=aa.o;omega));replace Z:=I (Ak Z.o Y O.o (by have:=aa.o;omega));replace O:=I (Nat.le_trans O.o Y.size);replace M:=I (M.o.grown Y (by intro e;injection e with e;have:=af.o;omega));have f0:=M.o.frozen 3;have k9:=M.c3;clear hd Y)
 have H1:=I (show Blk (w6.setCell ⟨P,3,none⟩ (.int .i64 t3)) P 68 #[.string ⟨t1.1.toArray⟩,.string ⟨t1.2.toArray⟩,.int .i64 t2,.int .i64 t3] from M.o.set 3 (.int .i64 t3));have H2:=I (DV (j:=3) (u:=.int .i64 t3) HD.o (q:=P) (by have:=af.o;omega) O.o (by have:=ad.o;omega));have H4:=I (show Blk (w6.setCell ⟨P,3,none⟩ (.int .i64 t3)) w.heap.size 68 _ from(Below.heap_setCell w6 _ _ w.heap.size (fun e=>by have:=ad.o;simp only at e;omega)).trans X.o);have H5:=I (BK (j:=3) (u:=.int .i64 t3) Z.o (show w.heap.size<=P by have:=ad.o;omega));have H6:=I (show w.heap.size<=(w6.setCell ⟨P,3,none⟩ (.int .i64 t3)).heap.size from Nat.le_trans O.o (Ar (World.grownBy.refl w6 (some P)) (p:=⟨P,3,none⟩) (.inl rfl) (.int .i64 t3)).size);obtain⟨V,eV⟩:=Aj (w6.setCell ⟨P,3,none⟩ (.int .i64 t3));rw[<-eV] at H1 H2 H4 H5 H6⊢;clear eV k9 f0 M HD X Z O;have M:=H1;have HD:=H2;have X:=H4;have Z:=H5;have O:=H6;clear H1 H2 H4 H5 H6;have p0:=M.c0;have p1:=M.c1;have p2:=M.c2;have p3:=M.c3;cases ho:anO ⟨t1,t2,t3⟩ with
 |none=>
  rw[ho] at EN;have ab:=I (show anD b=none by rw[ED.o,ho]<;>rfl);clear ED ho;have GE:=I (show anG b=an0 by rw[anG,ab.o];rfl);have IE:=I (show anI b=2 by rw[anI,ab.o];rfl)
  go_wp2_with (go_at_call 40;refine Calls.mono (EN.o _) ?_;rintro e we ⟨⟨v,i,rfl,hn,ae⟩,hb⟩;obtain⟨rfl,rfl⟩:=hn rfl;clear EN p0 p1 p2 p3;replace M:=I (M.o.below hb);replace X:=I (X.o.below hb);replace Z:=I (Z.o.trans (hb.mono O.o));clear hb hn ae;have p0:=M.c0;have n0:=X.c0;have z0:=X.o.frozen 0;have p1:=M.c1;have n1:=X.c1;have z1:=X.o.frozen 1;have p2:=M.c2;have n2:=X.c2;have z2:=X.o.frozen 2;have p3:=M.c3;have n3:=X.c3;have z3:=X.o.frozen 3)
  have hE:Blk ((((we.setCell ⟨w.heap.size,0,none⟩ (.string ⟨#[]⟩)).setCell ⟨w.heap.size,1,none⟩ (.string ⟨#[]⟩)).setCell ⟨w.heap.size,2,none⟩ (.int .i64 0)).setCell ⟨w.heap.size,3,none⟩ (.int .i64 0)) w.heap.size 68 #[.string ⟨#[]⟩,.string ⟨#[]⟩,.int .i64 0,.int .i64 0]:=((((X.o.set 0 _).set 1 _).set 2 _).set 3 _);have hq:=Ao (P:=Tryz.prog) hE Tryz.underlying68 rfl (by kernel_rfl);refine bodyPost_ret (v:=.tuple #[.agg #[.string ⟨#[]⟩,.string ⟨#[]⟩,.int .i64 0,.int .i64 0],.int .i64 2]) ?_ ?_ ?_
  ·exact AD (v:=.agg #[.string ⟨#[]⟩,.string ⟨#[]⟩,.int .i64 0,.int .i64 0]) 2 3 68 ⟨w.heap.size,0,none⟩ Tryz.results17 rfl hq rfl
  ·rfl
  exact⟨by rw[GE.o,IE.o]<;>rfl,(BK (BK (BK (BK Z.o Af) Af) Af) Af)⟩
 |some l=>
  rw[ho] at EN
  by_cases hlb:l=b
  ·have tb:(l==b)=true:=by simpa using hlb
   have ab:=I (show anD b=some ⟨t1,t2,t3⟩ by rw[ED.o,ho,if_pos (by rw[hlb])]);clear ED ho hlb;have GE:=I (show anG b=⟨t1,t2,t3⟩ by rw[anG,ab.o];rfl);have IE:=I (show anI b=0 by rw[anI,ab.o];rfl)
   go_wp2_with (go_at_call 40;refine Calls.mono (EN.o _) ?_;rintro e we ⟨⟨v,i,rfl,hn,ae⟩,hb⟩;obtain⟨rfl,gx,cx,rfl,aD,aJ,ai⟩:=ae l rfl;clear EN p0 p1 p2 p3;replace M:=I (M.o.below hb);replace X:=I (X.o.below hb);replace Z:=I (Z.o.trans (hb.mono O.o));clear hb hn ae;have p0:=M.c0;have n0:=X.c0;have z0:=X.o.frozen 0;have p1:=M.c1;have n1:=X.c1;have z1:=X.o.frozen 1;have p2:=M.c2;have n2:=X.c2;have z2:=X.o.frozen 2;have p3:=M.c3;have n3:=X.c3;have z3:=X.o.frozen 3;have ax:=AJ (P:=Tryz.prog) we 24 5 Tryz.underlying24 Tryz.underlying5 ai l.length cx rfl 9 Tryz.underlying9;have ay:=AJ (P:=Tryz.prog) we 24 5 Tryz.underlying24 Tryz.underlying5 (az.o we Z.o) b.length c rfl 9 Tryz.underlying9)
   have hE:Blk ((((we.setCell ⟨w.heap.size,0,none⟩ (.string ⟨t1.1.toArray⟩)).setCell ⟨w.heap.size,1,none⟩ (.string ⟨t1.2.toArray⟩)).setCell ⟨w.heap.size,2,none⟩ (.int .i64 t2)).setCell ⟨w.heap.size,3,none⟩ (.int .i64 t3)) w.heap.size 68 #[.string ⟨t1.1.toArray⟩,.string ⟨t1.2.toArray⟩,.int .i64 t2,.int .i64 t3]:=((((X.o.set 0 _).set 1 _).set 2 _).set 3 _);have hq:=Ao (P:=Tryz.prog) hE Tryz.underlying68 rfl (by kernel_rfl);refine bodyPost_ret (v:=.tuple #[.agg #[.string ⟨t1.1.toArray⟩,.string ⟨t1.2.toArray⟩,.int .i64 t2,.int .i64 t3],.int .i64 0]) ?_ ?_ ?_
   ·exact AD (v:=.agg #[.string ⟨t1.1.toArray⟩,.string ⟨t1.2.toArray⟩,.int .i64 t2,.int .i64 t3]) 2 3 68 ⟨w.heap.size,0,none⟩ Tryz.results17 rfl hq rfl
   ·rfl
   exact⟨by rw[GE.o,IE.o]<;>rfl,(BK (BK (BK (BK Z.o Af) Af) Af) Af)⟩
  ·have tb:(l==b)=false:=by simpa using hlb
   have ab:=I (show anD b=none by rw[ED.o,ho,if_neg (fun h=>hlb (Option.some.inj h))]);clear ED ho hlb;have GE:=I (show anG b=an0 by rw[anG,ab.o];rfl);have IE:=I (show anI b=2 by rw[anI,ab.o];rfl)
   go_wp2_with (go_at_call 40;refine Calls.mono (EN.o _) ?_;rintro e we ⟨⟨v,i,rfl,hn,ae⟩,hb⟩;obtain⟨rfl,gx,cx,rfl,aD,aJ,ai⟩:=ae l rfl;clear EN p0 p1 p2 p3;replace M:=I (M.o.below hb);replace X:=I (X.o.below hb);replace Z:=I (Z.o.trans (hb.mono O.o));clear hb hn ae;have p0:=M.c0;have n0:=X.c0;have z0:=X.o.frozen 0;have p1:=M.c1;have n1:=X.c1;have z1:=X.o.frozen 1;have p2:=M.c2;have n2:=X.c2;have z2:=X.o.frozen 2;have p3:=M.c3;have n3:=X.c3;have z3:=X.o.frozen 3;have ax:=AJ (P:=Tryz.prog) we 24 5 Tryz.underlying24 Tryz.underlying5 ai l.length cx rfl 9 Tryz.underlying9;have ay:=AJ (P:=Tryz.prog) we 24 5 Tryz.underlying24 Tryz.underlying5 (az.o we Z.o) b.length c rfl 9 Tryz.underlying9)
   have hE:Blk ((((we.setCell ⟨w.heap.size,0,none⟩ (.string ⟨#[]⟩)).setCell ⟨w.heap.size,1,none⟩ (.string ⟨#[]⟩)).setCell ⟨w.heap.size,2,none⟩ (.int .i64 0)).setCell ⟨w.heap.size,3,none⟩ (.int .i64 0)) w.heap.size 68 #[.string ⟨#[]⟩,.string ⟨#[]⟩,.int .i64 0,.int .i64 0]:=((((X.o.set 0 _).set 1 _).set 2 _).set 3 _);have hq:=Ao (P:=Tryz.prog) hE Tryz.underlying68 rfl (by kernel_rfl);refine bodyPost_ret (v:=.tuple #[.agg #[.string ⟨#[]⟩,.string ⟨#[]⟩,.int .i64 0,.int .i64 0],.int .i64 2]) ?_ ?_ ?_
   ·exact AD (v:=.agg #[.string ⟨#[]⟩,.string ⟨#[]⟩,.int .i64 0,.int .i64 0]) 2 3 68 ⟨w.heap.size,0,none⟩ Tryz.results17 rfl hq rfl
   ·rfl
   exact⟨by rw[GE.o,IE.o]<;>rfl,(BK (BK (BK (BK Z.o Af) Af) Af) Af)⟩
end Ms
namespace Ms
open Go.RowKit Ae DerP
theorem TH (m:Mg) (A1 A2 A3 A4 A5 A6:Option Addr) (c1 c2 c3 c4 c5 c6:Nat) (w:World) (hs:mSm m) :
  Calls Tryz.prog 61 #[.agg #[.int .i64 m.k,.string ⟨m.aq.c.1.toArray⟩,.string ⟨m.aq.c.2.toArray⟩,.string ⟨m.aq.s.1.toArray⟩,.string ⟨m.aq.s.2.toArray⟩,.int .i64 m.aq.t,.int .i64 m.aq.no,.string ⟨m.tg.t.s.1.toArray⟩,.string ⟨m.tg.t.s.2.toArray⟩,.int .i64 m.tg.t.k,.slice A1 m.tg.t.b.length c1,.slice A2 m.tg.a.length c2,.string ⟨m.tg.s.1.toArray⟩,.string ⟨m.tg.s.2.toArray⟩,.int .i64 m.tg.u,.int .i64 m.tg.no,.string ⟨m.re.c.1.toArray⟩,.string ⟨m.re.c.2.toArray⟩,.string ⟨m.re.t.s.1.toArray⟩,.string ⟨m.re.t.s.2.toArray⟩,.int .i64 m.re.t.k,.slice A3 m.re.t.b.length c3,.slice A4 m.re.b.length c4,.string ⟨m.ap.t.s.1.toArray⟩,.string ⟨m.ap.t.s.2.toArray⟩,.int .i64 m.ap.t.k,.slice A5 m.ap.t.b.length c5,.slice A6 m.ap.a.length c6,.int .i64 m.fa.e,.int .i64 m.fa.no]] w fun e w'=>e=.returned (.bool (mgB m))/\Below w.heap.size w w':=by
 have X:=I ((Below.refl w.heap.size w).alloc Af (.cells #[.int .i64 m.k,.string ⟨m.aq.c.1.toArray⟩,.string ⟨m.aq.c.2.toArray⟩,.string ⟨m.aq.s.1.toArray⟩,.string ⟨m.aq.s.2.toArray⟩,.int .i64 m.aq.t,.int .i64 m.aq.no,.string ⟨m.tg.t.s.1.toArray⟩,.string ⟨m.tg.t.s.2.toArray⟩,.int .i64 m.tg.t.k,.slice A1 m.tg.t.b.length c1,.slice A2 m.tg.a.length c2,.string ⟨m.tg.s.1.toArray⟩,.string ⟨m.tg.s.2.toArray⟩,.int .i64 m.tg.u,.int .i64 m.tg.no,.string ⟨m.re.c.1.toArray⟩,.string ⟨m.re.c.2.toArray⟩,.string ⟨m.re.t.s.1.toArray⟩,.string ⟨m.re.t.s.2.toArray⟩,.int .i64 m.re.t.k,.slice A3 m.re.t.b.length c3,.slice A4 m.re.b.length c4,.string ⟨m.ap.t.s.1.toArray⟩,.string ⟨m.ap.t.s.2.toArray⟩,.int .i64 m.ap.t.k,.slice A5 m.ap.t.b.length c5,.slice A6 m.ap.a.length c6,.int .i64 m.fa.e,.int .i64 m.fa.no] 61));have M:=I (Blk.new w 61 #[.int .i64 m.k,.string ⟨m.aq.c.1.toArray⟩,.string ⟨m.aq.c.2.toArray⟩,.string ⟨m.aq.s.1.toArray⟩,.string ⟨m.aq.s.2.toArray⟩,.int .i64 m.aq.t,.int .i64 m.aq.no,.string ⟨m.tg.t.s.1.toArray⟩,.string ⟨m.tg.t.s.2.toArray⟩,.int .i64 m.tg.t.k,.slice A1 m.tg.t.b.length c1,.slice A2 m.tg.a.length c2,.string ⟨m.tg.s.1.toArray⟩,.string ⟨m.tg.s.2.toArray⟩,.int .i64 m.tg.u,.int .i64 m.tg.no,.string ⟨m.re.c.1.toArray⟩,.string ⟨m.re.c.2.toArray⟩,.string ⟨m.re.t.s.1.toArray⟩,.string ⟨m.re.t.s.2.toArray⟩,.int .i64 m.re.t.k,.slice A3 m.re.t.b.length c3,.slice A4 m.re.b.length c4,.string ⟨m.ap.t.s.1.toArray⟩,.string ⟨m.ap.t.s.2.toArray⟩,.int .i64 m.ap.t.k,.slice A5 m.ap.t.b.length c5,.slice A6 m.ap.a.length c6,.int .i64 m.fa.e,.int .i64 m.fa.no]);have N1:=I (fun w1=>IW m.tg.t A1 c1 w1);have N2:=I (fun w1=>IW m.re.t A3 c3 w1);have N3:=I (fun w1=>IW m.ap.t A5 c5 w1);have HZ:=I hs;clear hs;go_enter Tryz.func61,Tryz.ntmps61
 go_upto_region 2 with fail
 obtain⟨W,eW⟩:=Aj (w.alloc (.cells #[.int .i64 m.k,.string ⟨m.aq.c.1.toArray⟩,.string ⟨m.aq.c.2.toArray⟩,.string ⟨m.aq.s.1.toArray⟩,.string ⟨m.aq.s.2.toArray⟩,.int .i64 m.aq.t,.int .i64 m.aq.no,.string ⟨m.tg.t.s.1.toArray⟩,.string ⟨m.tg.t.s.2.toArray⟩,.int .i64 m.tg.t.k,.slice A1 m.tg.t.b.length c1,.slice A2 m.tg.a.length c2,.string ⟨m.tg.s.1.toArray⟩,.string ⟨m.tg.s.2.toArray⟩,.int .i64 m.tg.u,.int .i64 m.tg.no,.string ⟨m.re.c.1.toArray⟩,.string ⟨m.re.c.2.toArray⟩,.string ⟨m.re.t.s.1.toArray⟩,.string ⟨m.re.t.s.2.toArray⟩,.int .i64 m.re.t.k,.slice A3 m.re.t.b.length c3,.slice A4 m.re.b.length c4,.string ⟨m.ap.t.s.1.toArray⟩,.string ⟨m.ap.t.s.2.toArray⟩,.int .i64 m.ap.t.k,.slice A5 m.ap.t.b.length c5,.slice A6 m.ap.a.length c6,.int .i64 m.fa.e,.int .i64 m.fa.no] 61));rw[<-eW] at X M⊢;clear eW
 go_cut [4,5] from 11 to 44 (fun av tv wx=>av=.bool (decide (m.aq=as0))/\tv=.bool (decide (m.tg=tg0))/\Below w.heap.size w wx/\Blk wx w.heap.size 61 #[.int .i64 m.k,.string ⟨m.aq.c.1.toArray⟩,.string ⟨m.aq.c.2.toArray⟩,.string ⟨m.aq.s.1.toArray⟩,.string ⟨m.aq.s.2.toArray⟩,.int .i64 m.aq.t,.int .i64 m.aq.no,.string ⟨m.tg.t.s.1.toArray⟩,.string ⟨m.tg.t.s.2.toArray⟩,.int .i64 m.tg.t.k,.slice A1 m.tg.t.b.length c1,.slice A2 m.tg.a.length c2,.string ⟨m.tg.s.1.toArray⟩,.string ⟨m.tg.s.2.toArray⟩,.int .i64 m.tg.u,.int .i64 m.tg.no,.string ⟨m.re.c.1.toArray⟩,.string ⟨m.re.c.2.toArray⟩,.string ⟨m.re.t.s.1.toArray⟩,.string ⟨m.re.t.s.2.toArray⟩,.int .i64 m.re.t.k,.slice A3 m.re.t.b.length c3,.slice A4 m.re.b.length c4,.string ⟨m.ap.t.s.1.toArray⟩,.string ⟨m.ap.t.s.2.toArray⟩,.int .i64 m.ap.t.k,.slice A5 m.ap.t.b.length c5,.slice A6 m.ap.a.length c6,.int .i64 m.fa.e,.int .i64 m.fa.no])
 case first=>
  have TF:=I (Wm m.tg);replace M:=I (show Blk W.drew _ _ _ from M.o.drewN 1);replace X:=I (show Below _ _ W.drew from below_drewN X.o 1);obtain⟨b1,q1⟩:∃b,b=decide (m.tg.t=tk0):=⟨_,rfl⟩;rw[<-q1] at N1;have Q1:=I q1;clear q1;refine Reg.BJ 36 rfl (by kernel_rfl) ?_;refine Reg.tz 0 rfl ?_;refine Reg.tx 1 rfl (fun w' hS=>by have hk:=M.o.below hS;have k1:=hk.c1;have k2:=hk.c2;have k3:=hk.c3;have k4:=hk.c4;have k5:=hk.c5;have k6:=hk.c6;go_simp;rfl) ?_;refine Reg.tz 2 rfl ?_;refine Reg.tx 3 (v:=.bool (decide (m.aq=as0))) rfl (fun w' hS=>by go_simp;exact Ya m.aq (fun b=>Result.ok (Next.value (.bool b)) w')) ?_;refine Reg.tz 4 rfl ?_;refine Reg.tz 5 rfl ?_;refine Reg.tx 6 rfl (fun w' hS=>by have hk:=M.o.below hS;have k7:=hk.c7;have k8:=hk.c8;have k9:=hk.c9;have aw:=hk.c10;go_simp;rfl) ?_;refine Reg.Di 7 rfl (by kernel_rfl) (by rfl) 111 #[.agg #[.string ⟨m.tg.t.s.1.toArray⟩,.string ⟨m.tg.t.s.2.toArray⟩,.int .i64 m.tg.t.k,.slice A1 m.tg.t.b.length c1]] (by go_simp) ?_;refine Ah (N1.o _) ?_;rintro wn O;refine⟨_,rfl,O,?_⟩;replace M:=I (M.o.below O);replace X:=X.t O;clear O;simp only[Act.put,J,U,Aa];refine Reg.tz 8 rfl ?_;cases b1 with
  |false=>
   have E:=I (show decide (m.tg=tg0)=false by rw[TF.o,<-Q1.o];rfl);refine Reg.sk 9 rfl ?_;refine Reg.sk 10 rfl ?_;refine Reg.sk 11 rfl ?_;refine Reg.sk 12 rfl ?_;refine Reg.sk 13 rfl ?_;refine Reg.tz 14 rfl ?_;refine Reg.tz 15 rfl ?_;refine Reg.sk 16 rfl ?_;refine Reg.sk 17 rfl ?_;refine Reg.sk 18 rfl ?_;refine Reg.sk 19 rfl ?_;refine Reg.sk 20 rfl ?_;refine Reg.tz 21 rfl ?_;refine Reg.tz 22 rfl ?_;refine Reg.sk 23 rfl ?_;refine Reg.sk 24 rfl ?_;refine Reg.sk 25 rfl ?_;refine Reg.sk 26 rfl ?_;refine Reg.tz 27 rfl ?_;refine Reg.tz 28 rfl ?_;refine Reg.sk 29 rfl ?_;refine Reg.sk 30 rfl ?_;refine Reg.sk 31 rfl ?_;refine Reg.sk 32 rfl ?_;refine Reg.tz 33 rfl ?_;refine Reg.tz 34 rfl ?_;refine Reg.tz 35 rfl ?_;refine wpAnyH_done (by kernel_rfl) ?_ _
   go_wp2_with fail
   go_meet
   exact⟨rfl,by rw[E.o],X.o,M.o⟩
  |true=>
   cases q2:decide (m.tg.a = []) with
   |false=>
    have t2:((m.tg.a.length:Int)==0)=false:=by simpa using q2
    have E:=I (show decide (m.tg=tg0)=false by rw[TF.o,<-Q1.o,q2];rfl);clear q2;refine Reg.tz 9 rfl ?_;refine Reg.tz 10 rfl ?_;refine Reg.tx 11 rfl (fun w' hS=>by have hk:=M.o.below hS;have an:=hk.c11;go_simp;rfl) ?_;refine Reg.tz 12 rfl ?_;refine Reg.tz 13 rfl ?_;refine Reg.tz 14 rfl ?_;refine Reg.tz 15 rfl ?_;refine Reg.sk 16 rfl ?_;refine Reg.sk 17 rfl ?_;refine Reg.sk 18 rfl ?_;refine Reg.sk 19 rfl ?_;refine Reg.sk 20 rfl ?_;refine Reg.tz 21 rfl ?_;refine Reg.tz 22 rfl ?_;refine Reg.sk 23 rfl ?_;refine Reg.sk 24 rfl ?_;refine Reg.sk 25 rfl ?_;refine Reg.sk 26 rfl ?_;refine Reg.tz 27 rfl ?_;refine Reg.tz 28 rfl ?_;refine Reg.sk 29 rfl ?_;refine Reg.sk 30 rfl ?_;refine Reg.sk 31 rfl ?_;refine Reg.sk 32 rfl ?_;refine Reg.tz 33 rfl ?_;refine Reg.tz 34 rfl ?_;refine Reg.tz 35 rfl ?_;refine wpAnyH_done (by kernel_rfl) ?_ _
    go_wp2_with fail
    go_meet
    exact⟨rfl,by rw[E.o],X.o,M.o⟩
   |true=>
    have t2:((m.tg.a.length:Int)==0)=true:=by simpa using q2
    have Q2:=I q2;clear q2;refine Reg.tz 9 rfl ?_;refine Reg.tz 10 rfl ?_;refine Reg.tx 11 rfl (fun w' hS=>by have hk:=M.o.below hS;have an:=hk.c11;go_simp;rfl) ?_;refine Reg.tz 12 rfl ?_;refine Reg.tz 13 rfl ?_;refine Reg.tz 14 rfl ?_;refine Reg.tz 15 rfl ?_;cases q3:decide (m.tg.s=pr0) with
    |false=>
     have SQ:=I q3;have E:=I (show decide (m.tg=tg0)=false by rw[TF.o,<-Q1.o,Q2.o,q3];rfl);clear q3;refine Reg.tz 16 rfl ?_;refine Reg.tz 17 rfl ?_;refine Reg.tx 18 rfl (fun w' hS=>by have hk:=M.o.below hS;have ar:=hk.c12;have au:=hk.c13;go_simp;rfl) ?_;refine Reg.tz 19 rfl ?_;refine Reg.tx 20 (v:=.bool false) rfl (fun w' hS=>by go_simp;exact fun h1 h2=>by have h3:=SQ.o;rw[show m.tg.s=pr0 from Prod.ext h1 h2] at h3;cases h3) ?_;refine Reg.tz 21 rfl ?_;refine Reg.tz 22 rfl ?_;refine Reg.sk 23 rfl ?_;refine Reg.sk 24 rfl ?_;refine Reg.sk 25 rfl ?_;refine Reg.sk 26 rfl ?_;refine Reg.tz 27 rfl ?_;refine Reg.tz 28 rfl ?_;refine Reg.sk 29 rfl ?_;refine Reg.sk 30 rfl ?_;refine Reg.sk 31 rfl ?_;refine Reg.sk 32 rfl ?_;refine Reg.tz 33 rfl ?_;refine Reg.tz 34 rfl ?_;refine Reg.tz 35 rfl ?_;refine wpAnyH_done (by kernel_rfl) ?_ _
     go_wp2_with fail
     go_meet
     exact⟨rfl,by rw[E.o],X.o,M.o⟩
    |true=>
     have SQ:=I q3;clear q3;refine Reg.tz 16 rfl ?_;refine Reg.tz 17 rfl ?_;refine Reg.tx 18 rfl (fun w' hS=>by have hk:=M.o.below hS;have ar:=hk.c12;have au:=hk.c13;go_simp;rfl) ?_;refine Reg.tz 19 rfl ?_;refine Reg.tx 20 (v:=.bool true) rfl (fun w' hS=>by go_simp;exact(Yb m.tg.s (fun b=>Result.ok (Next.value (.bool b)) w')).trans (by rw[SQ.o])) ?_;refine Reg.tz 21 rfl ?_;refine Reg.tz 22 rfl ?_;cases q4:decide (m.tg.u=0) with
     |false=>
      have t4:(m.tg.u==0)=false:=by simpa using q4
      have E:=I (show decide (m.tg=tg0)=false by rw[TF.o,<-Q1.o,Q2.o,SQ.o,q4];rfl);clear q4;refine Reg.tz 23 rfl ?_;refine Reg.tz 24 rfl ?_;refine Reg.tx 25 rfl (fun w' hS=>by have hk:=M.o.below hS;have al:=hk.c14;go_simp;rfl) ?_;refine Reg.tz 26 rfl ?_;refine Reg.tz 27 rfl ?_;refine Reg.tz 28 rfl ?_;refine Reg.sk 29 rfl ?_;refine Reg.sk 30 rfl ?_;refine Reg.sk 31 rfl ?_;refine Reg.sk 32 rfl ?_;refine Reg.tz 33 rfl ?_;refine Reg.tz 34 rfl ?_;refine Reg.tz 35 rfl ?_;refine wpAnyH_done (by kernel_rfl) ?_ _
      go_wp2_with fail
      go_meet
      exact⟨rfl,by rw[E.o],X.o,M.o⟩
     |true=>
      have t4:(m.tg.u==0)=true:=by simpa using q4
      have Q4:=I q4;clear q4;refine Reg.tz 23 rfl ?_;refine Reg.tz 24 rfl ?_;refine Reg.tx 25 rfl (fun w' hS=>by have hk:=M.o.below hS;have al:=hk.c14;go_simp;rfl) ?_;refine Reg.tz 26 rfl ?_;refine Reg.tz 27 rfl ?_;refine Reg.tz 28 rfl ?_;cases q5:decide (m.tg.no=0) with
      |false=>
       have t5:(m.tg.no==0)=false:=by simpa using q5
       have E:=I (show decide (m.tg=tg0)=false by rw[TF.o,<-Q1.o,Q2.o,SQ.o,Q4.o,q5];rfl);clear q5;refine Reg.tz 29 rfl ?_;refine Reg.tz 30 rfl ?_;refine Reg.tx 31 rfl (fun w' hS=>by have hk:=M.o.below hS;have ao:=hk.c15;go_simp;rfl) ?_;refine Reg.tz 32 rfl ?_;refine Reg.tz 33 rfl ?_;refine Reg.tz 34 rfl ?_;refine Reg.tz 35 rfl ?_;refine wpAnyH_done (by kernel_rfl) ?_ _
       go_wp2_with fail
       go_meet
       exact⟨rfl,by rw[E.o],X.o,M.o⟩
      |true=>
       have t5:(m.tg.no==0)=true:=by simpa using q5
       have E:=I (show decide (m.tg=tg0)=true by rw[TF.o,<-Q1.o,Q2.o,SQ.o,Q4.o,q5];rfl);clear q5;refine Reg.tz 29 rfl ?_;refine Reg.tz 30 rfl ?_;refine Reg.tx 31 rfl (fun w' hS=>by have hk:=M.o.below hS;have ao:=hk.c15;go_simp;rfl) ?_;refine Reg.tz 32 rfl ?_;refine Reg.tz 33 rfl ?_;refine Reg.tz 34 rfl ?_;refine Reg.tz 35 rfl ?_;refine wpAnyH_done (by kernel_rfl) ?_ _
       go_wp2_with fail
       go_meet
       exact⟨rfl,by rw[E.o],X.o,M.o⟩
 case rest=>
  obtain⟨rfl,rfl,O,hk⟩:=hcut;replace X:=I O;replace M:=I hk;clear O hk;obtain⟨zA,eA⟩:=Aj (decide (m.aq=as0));obtain⟨zT,eT⟩:=Aj (decide (m.tg=tg0));rw[<-eA,<-eT];have EA:=I eA;have ET:=I eT;clear eA eT;obtain⟨v0,az⟩:∃v:Value,v=.agg #[.int .i64 m.k,.string ⟨m.aq.c.1.toArray⟩,.string ⟨m.aq.c.2.toArray⟩,.string ⟨m.aq.s.1.toArray⟩,.string ⟨m.aq.s.2.toArray⟩,.int .i64 m.aq.t,.int .i64 m.aq.no,.string ⟨m.tg.t.s.1.toArray⟩,.string ⟨m.tg.t.s.2.toArray⟩,.int .i64 m.tg.t.k,.slice A1 m.tg.t.b.length c1,.slice A2 m.tg.a.length c2,.string ⟨m.tg.s.1.toArray⟩,.string ⟨m.tg.s.2.toArray⟩,.int .i64 m.tg.u,.int .i64 m.tg.no,.string ⟨m.re.c.1.toArray⟩,.string ⟨m.re.c.2.toArray⟩,.string ⟨m.re.t.s.1.toArray⟩,.string ⟨m.re.t.s.2.toArray⟩,.int .i64 m.re.t.k,.slice A3 m.re.t.b.length c3,.slice A4 m.re.b.length c4,.string ⟨m.ap.t.s.1.toArray⟩,.string ⟨m.ap.t.s.2.toArray⟩,.int .i64 m.ap.t.k,.slice A5 m.ap.t.b.length c5,.slice A6 m.ap.a.length c6,.int .i64 m.fa.e,.int .i64 m.fa.no]:=⟨_,rfl⟩;rw[<-az];clear az
  go_upto_region 3 with fail
  go_cut [6] from 45 to 62 (fun rv wx=>rv=.bool (decide (m.re=re0))/\Below w.heap.size w wx/\Blk wx w.heap.size 61 #[.int .i64 m.k,.string ⟨m.aq.c.1.toArray⟩,.string ⟨m.aq.c.2.toArray⟩,.string ⟨m.aq.s.1.toArray⟩,.string ⟨m.aq.s.2.toArray⟩,.int .i64 m.aq.t,.int .i64 m.aq.no,.string ⟨m.tg.t.s.1.toArray⟩,.string ⟨m.tg.t.s.2.toArray⟩,.int .i64 m.tg.t.k,.slice A1 m.tg.t.b.length c1,.slice A2 m.tg.a.length c2,.string ⟨m.tg.s.1.toArray⟩,.string ⟨m.tg.s.2.toArray⟩,.int .i64 m.tg.u,.int .i64 m.tg.no,.string ⟨m.re.c.1.toArray⟩,.string ⟨m.re.c.2.toArray⟩,.string ⟨m.re.t.s.1.toArray⟩,.string ⟨m.re.t.s.2.toArray⟩,.int .i64 m.re.t.k,.slice A3 m.re.t.b.length c3,.slice A4 m.re.b.length c4,.string ⟨m.ap.t.s.1.toArray⟩,.string ⟨m.ap.t.s.2.toArray⟩,.int .i64 m.ap.t.k,.slice A5 m.ap.t.b.length c5,.slice A6 m.ap.a.length c6,.int .i64 m.fa.e,.int .i64 m.fa.no])
  case first=>
   have k16:=M.c16;have ad:=M.c17;have aa:=M.c18;have Z:=M.c19;have ae:=M.c20;have af:=M.c21;have ab:=M.c22;have RF:=I (Wn m.re);cases q1:decide (m.re.c=pr0) with
   |false=>
    have E:=I (show decide (m.re=re0)=false by rw[RF.o,q1];rfl)
    by_cases a1:m.re.c.1 = []
    ·have a2:¬m.re.c.2 = []:=fun h=>by rw[show m.re.c=pr0 from Prod.ext a1 h] at q1;cases q1
     clear q1
     go_wp2_with fail
     go_meet
     exact⟨by rw[E.o],X.o,M.o⟩
    ·clear q1
     go_wp2_with fail
     go_meet
     exact⟨by rw[E.o],X.o,M.o⟩
   |true=>
    have a0:m.re.c=pr0:=of_decide_eq_true q1;have a1:m.re.c.1 = []:=by rw[a0];rfl
    have a2:m.re.c.2 = []:=by rw[a0];rfl
    clear a0;cases q2:decide (m.re.t=tk0) with
    |false=>
     rw[q2] at N2;have E:=I (show decide (m.re=re0)=false by rw[RF.o,q1,q2];rfl);clear q1 q2
     go_wp2_with (go_at_call 111;refine Ah (N2.o _) ?_;rintro wn O;replace M:=I (M.o.below O);replace X:=X.t O;clear O;clear k16 ad aa Z ae af ab;have k16:=M.c16;have ad:=M.c17;have aa:=M.c18;have Z:=M.c19;have ae:=M.c20;have af:=M.c21;have ab:=M.c22)
     go_meet
     exact⟨by rw[E.o],X.o,M.o⟩
    |true=>
     rw[q2] at N2;cases q3:decide (m.re.b = []) with
     |false=>
      have t2:((m.re.b.length:Int)==0)=false:=by simpa using q3
      have E:=I (show decide (m.re=re0)=false by rw[RF.o,q1,q2,q3];rfl);clear q1 q2 q3
      go_wp2_with (go_at_call 111;refine Ah (N2.o _) ?_;rintro wn O;replace M:=I (M.o.below O);replace X:=X.t O;clear O;clear k16 ad aa Z ae af ab;have k16:=M.c16;have ad:=M.c17;have aa:=M.c18;have Z:=M.c19;have ae:=M.c20;have af:=M.c21;have ab:=M.c22)
      go_meet
      exact⟨by rw[E.o],X.o,M.o⟩
     |true=>
      have t2:((m.re.b.length:Int)==0)=true:=by simpa using q3
      have E:=I (show decide (m.re=re0)=true by rw[RF.o,q1,q2,q3];rfl);clear q1 q2 q3
      go_wp2_with (go_at_call 111;refine Ah (N2.o _) ?_;rintro wn O;replace M:=I (M.o.below O);replace X:=X.t O;clear O;clear k16 ad aa Z ae af ab;have k16:=M.c16;have ad:=M.c17;have aa:=M.c18;have Z:=M.c19;have ae:=M.c20;have af:=M.c21;have ab:=M.c22)
      go_meet
      exact⟨by rw[E.o],X.o,M.o⟩
  case rest=>
   obtain⟨rfl,O,hk⟩:=hcut;replace X:=I O;replace M:=I hk;clear O hk;obtain⟨zR,eR⟩:=Aj (decide (m.re=re0));rw[<-eR];have ER:=I eR;clear eR
   go_upto_region 4 with fail
   go_cut [7,8] from 63 to 77 (fun av fv wx=>av=.bool (decide (m.ap=ap0))/\fv=.bool (decide (m.fa=fa0))/\Below w.heap.size w wx/\Blk wx w.heap.size 61 #[.int .i64 m.k,.string ⟨m.aq.c.1.toArray⟩,.string ⟨m.aq.c.2.toArray⟩,.string ⟨m.aq.s.1.toArray⟩,.string ⟨m.aq.s.2.toArray⟩,.int .i64 m.aq.t,.int .i64 m.aq.no,.string ⟨m.tg.t.s.1.toArray⟩,.string ⟨m.tg.t.s.2.toArray⟩,.int .i64 m.tg.t.k,.slice A1 m.tg.t.b.length c1,.slice A2 m.tg.a.length c2,.string ⟨m.tg.s.1.toArray⟩,.string ⟨m.tg.s.2.toArray⟩,.int .i64 m.tg.u,.int .i64 m.tg.no,.string ⟨m.re.c.1.toArray⟩,.string ⟨m.re.c.2.toArray⟩,.string ⟨m.re.t.s.1.toArray⟩,.string ⟨m.re.t.s.2.toArray⟩,.int .i64 m.re.t.k,.slice A3 m.re.t.b.length c3,.slice A4 m.re.b.length c4,.string ⟨m.ap.t.s.1.toArray⟩,.string ⟨m.ap.t.s.2.toArray⟩,.int .i64 m.ap.t.k,.slice A5 m.ap.t.b.length c5,.slice A6 m.ap.a.length c6,.int .i64 m.fa.e,.int .i64 m.fa.no])
   case first=>
    have PF:=I (Wo m.ap);replace M:=I (show Blk wc.drew _ _ _ from M.o.drewN 1);replace X:=I (show Below _ _ wc.drew from below_drewN X.o 1);cases q1:decide (m.ap.t=tk0) with
    |false=>
     rw[q1] at N3;have E:=I (show decide (m.ap=ap0)=false by rw[PF.o,q1];rfl);clear q1;refine Reg.BJ 17 rfl (by kernel_rfl) ?_;refine Reg.tz 0 rfl ?_;refine Reg.tz 1 rfl ?_;refine Reg.tx 2 rfl (fun w' hS=>by have hk:=M.o.below hS;have ag:=hk.c23;have ah:=hk.c24;have ai:=hk.c25;have aj:=hk.c26;go_simp;rfl) ?_;refine Reg.tz 11 rfl ?_;refine Reg.tx 12 rfl (fun w' hS=>by have hk:=M.o.below hS;have ax:=hk.c28;have ay:=hk.c29;go_simp;rfl) ?_;refine Reg.tz 13 rfl ?_;refine Reg.tx 14 (v:=.bool (decide (m.fa=fa0))) rfl (fun w' hS=>by go_simp;exact Rf m.fa (fun b=>Result.ok (Next.value (.bool b)) w')) ?_;refine Reg.Di 3 rfl (by kernel_rfl) (by rfl) 111 #[.agg #[.string ⟨m.ap.t.s.1.toArray⟩,.string ⟨m.ap.t.s.2.toArray⟩,.int .i64 m.ap.t.k,.slice A5 m.ap.t.b.length c5]] (by go_simp) ?_;refine Ah (N3.o _) ?_;rintro wn O;refine⟨_,rfl,O,?_⟩;replace M:=I (M.o.below O);replace X:=X.t O;clear O;simp only[Act.put,J,U,Aa];refine Reg.tz 4 rfl ?_;refine Reg.sk 5 rfl ?_;refine Reg.sk 6 rfl ?_;refine Reg.sk 7 rfl ?_;refine Reg.sk 8 rfl ?_;refine Reg.sk 9 rfl ?_;refine Reg.tz 10 rfl ?_;refine Reg.tz 15 rfl ?_;refine Reg.tz 16 rfl ?_;refine wpAnyH_done (by kernel_rfl) ?_ _
     go_wp2_with fail
     go_meet
     exact⟨by rw[E.o],rfl,X.o,M.o⟩
    |true=>
     rw[q1] at N3;cases q2:decide (m.ap.a = []) with
     |false=>
      have t2:((m.ap.a.length:Int)==0)=false:=by simpa using q2
      have E:=I (show decide (m.ap=ap0)=false by rw[PF.o,q1,q2];rfl);clear q1 q2;refine Reg.BJ 17 rfl (by kernel_rfl) ?_;refine Reg.tz 0 rfl ?_;refine Reg.tz 1 rfl ?_;refine Reg.tx 2 rfl (fun w' hS=>by have hk:=M.o.below hS;have ag:=hk.c23;have ah:=hk.c24;have ai:=hk.c25;have aj:=hk.c26;go_simp;rfl) ?_;refine Reg.tz 11 rfl ?_;refine Reg.tx 12 rfl (fun w' hS=>by have hk:=M.o.below hS;have ax:=hk.c28;have ay:=hk.c29;go_simp;rfl) ?_;refine Reg.tz 13 rfl ?_;refine Reg.tx 14 (v:=.bool (decide (m.fa=fa0))) rfl (fun w' hS=>by go_simp;exact Rf m.fa (fun b=>Result.ok (Next.value (.bool b)) w')) ?_;refine Reg.Di 3 rfl (by kernel_rfl) (by rfl) 111 #[.agg #[.string ⟨m.ap.t.s.1.toArray⟩,.string ⟨m.ap.t.s.2.toArray⟩,.int .i64 m.ap.t.k,.slice A5 m.ap.t.b.length c5]] (by go_simp) ?_;refine Ah (N3.o _) ?_;rintro wn O;refine⟨_,rfl,O,?_⟩;replace M:=I (M.o.below O);replace X:=X.t O;clear O;simp only[Act.put,J,U,Aa];refine Reg.tz 4 rfl ?_;refine Reg.tz 5 rfl ?_;refine Reg.tz 6 rfl ?_;refine Reg.tx 7 rfl (fun w' hS=>by have hk:=M.o.below hS;have ak:=hk.c27;go_simp;rfl) ?_;refine Reg.tz 8 rfl ?_;refine Reg.tz 9 rfl ?_;refine Reg.tz 10 rfl ?_;refine Reg.tz 15 rfl ?_;refine Reg.tz 16 rfl ?_;refine wpAnyH_done (by kernel_rfl) ?_ _
      go_wp2_with fail
      go_meet
      exact⟨by rw[E.o],rfl,X.o,M.o⟩
     |true=>
      have t2:((m.ap.a.length:Int)==0)=true:=by simpa using q2
      have E:=I (show decide (m.ap=ap0)=true by rw[PF.o,q1,q2];rfl);clear q1 q2;refine Reg.BJ 17 rfl (by kernel_rfl) ?_;refine Reg.tz 0 rfl ?_;refine Reg.tz 1 rfl ?_;refine Reg.tx 2 rfl (fun w' hS=>by have hk:=M.o.below hS;have ag:=hk.c23;have ah:=hk.c24;have ai:=hk.c25;have aj:=hk.c26;go_simp;rfl) ?_;refine Reg.tz 11 rfl ?_;refine Reg.tx 12 rfl (fun w' hS=>by have hk:=M.o.below hS;have ax:=hk.c28;have ay:=hk.c29;go_simp;rfl) ?_;refine Reg.tz 13 rfl ?_;refine Reg.tx 14 (v:=.bool (decide (m.fa=fa0))) rfl (fun w' hS=>by go_simp;exact Rf m.fa (fun b=>Result.ok (Next.value (.bool b)) w')) ?_;refine Reg.Di 3 rfl (by kernel_rfl) (by rfl) 111 #[.agg #[.string ⟨m.ap.t.s.1.toArray⟩,.string ⟨m.ap.t.s.2.toArray⟩,.int .i64 m.ap.t.k,.slice A5 m.ap.t.b.length c5]] (by go_simp) ?_;refine Ah (N3.o _) ?_;rintro wn O;refine⟨_,rfl,O,?_⟩;replace M:=I (M.o.below O);replace X:=X.t O;clear O;simp only[Act.put,J,U,Aa];refine Reg.tz 4 rfl ?_;refine Reg.tz 5 rfl ?_;refine Reg.tz 6 rfl ?_;refine Reg.tx 7 rfl (fun w' hS=>by have hk:=M.o.below hS;have ak:=hk.c27;go_simp;rfl) ?_;refine Reg.tz 8 rfl ?_;refine Reg.tz 9 rfl ?_;refine Reg.tz 10 rfl ?_;refine Reg.tz 15 rfl ?_;refine Reg.tz 16 rfl ?_;refine wpAnyH_done (by kernel_rfl) ?_ _
      go_wp2_with fail
      go_meet
      exact⟨by rw[E.o],rfl,X.o,M.o⟩
   case rest=>
    obtain⟨rfl,rfl,O,hk⟩:=hcut;replace X:=I O;replace M:=I hk;clear O hk;obtain⟨zP,eP⟩:=Aj (decide (m.ap=ap0));obtain⟨zF,eF⟩:=Aj (decide (m.fa=fa0));rw[<-eP,<-eF];have HF:=I (Wp m);rw[<-EA.o,<-ET.o,<-ER.o,<-eP,<-eF] at HF;clear eP eF EA ET ER N1 N2 N3
    by_cases m1:m.k=1
    ·have y1:(m.k==1)=true:=by simpa using m1
     have y2:(m.k==2)=false:=by simp;omega
     have y3:(m.k==3)=false:=by simp;omega
     have y4:(m.k==4)=false:=by simp;omega
     have y5:(m.k==5)=false:=by simp;omega
     have Y:=I (fun w1=>Ra m.aq w1 HZ.o.1.1 HZ.o.1.2);have k1:=M.c1;have k2:=M.c2;have k3:=M.c3;have k4:=M.c4;have k5:=M.c5;have k6:=M.c6;rw[if_pos m1] at HF;clear m1;cases g1:asB m.aq with
     |false=>
      rw[g1] at Y;have E:=I (show mgB m=false by rw[HF.o,g1];rfl);clear g1
      go_wp2_with (go_at_call 112;(with_reducible refine Calls.mono (Y.o _) ?_);rintro e u1 ⟨rfl,O⟩;replace M:=I (M.o.below O);replace X:=X.t O;clear O Y;clear k1 k2 k3 k4 k5 k6;have k1:=M.c1;have k2:=M.c2;have k3:=M.c3;have k4:=M.c4;have k5:=M.c5;have k6:=M.c6)
      go_ret;exact⟨by rw[E.o];rfl,X.o⟩
     |true=>
      rw[g1] at Y;cases zT with
      |false=>
       have E:=I (show mgB m=false by rw[HF.o,g1];rfl);clear g1
       go_wp2_with (go_at_call 112;(with_reducible refine Calls.mono (Y.o _) ?_);rintro e u1 ⟨rfl,O⟩;replace M:=I (M.o.below O);replace X:=X.t O;clear O Y;clear k1 k2 k3 k4 k5 k6;have k1:=M.c1;have k2:=M.c2;have k3:=M.c3;have k4:=M.c4;have k5:=M.c5;have k6:=M.c6)
       go_ret;exact⟨by rw[E.o];rfl,X.o⟩
      |true=>
       cases zR with
       |false=>
        have E:=I (show mgB m=false by rw[HF.o,g1];rfl);clear g1
        go_wp2_with (go_at_call 112;(with_reducible refine Calls.mono (Y.o _) ?_);rintro e u1 ⟨rfl,O⟩;replace M:=I (M.o.below O);replace X:=X.t O;clear O Y;clear k1 k2 k3 k4 k5 k6;have k1:=M.c1;have k2:=M.c2;have k3:=M.c3;have k4:=M.c4;have k5:=M.c5;have k6:=M.c6)
        go_ret;exact⟨by rw[E.o];rfl,X.o⟩
       |true=>
        cases zP with
        |false=>
         have E:=I (show mgB m=false by rw[HF.o,g1];rfl);clear g1
         go_wp2_with (go_at_call 112;(with_reducible refine Calls.mono (Y.o _) ?_);rintro e u1 ⟨rfl,O⟩;replace M:=I (M.o.below O);replace X:=X.t O;clear O Y;clear k1 k2 k3 k4 k5 k6;have k1:=M.c1;have k2:=M.c2;have k3:=M.c3;have k4:=M.c4;have k5:=M.c5;have k6:=M.c6)
         go_ret;exact⟨by rw[E.o];rfl,X.o⟩
        |true=>
         have E:=I (show mgB m=zF by rw[HF.o,g1];rfl);clear g1
         go_wp2_with (go_at_call 112;(with_reducible refine Calls.mono (Y.o _) ?_);rintro e u1 ⟨rfl,O⟩;replace M:=I (M.o.below O);replace X:=X.t O;clear O Y;clear k1 k2 k3 k4 k5 k6;have k1:=M.c1;have k2:=M.c2;have k3:=M.c3;have k4:=M.c4;have k5:=M.c5;have k6:=M.c6)
         go_ret;exact⟨by rw[E.o];rfl,X.o⟩
    ·have aC:=m1
     by_cases m2:m.k=2
     ·have y1:(m.k==1)=false:=by simp;omega
      have y2:(m.k==2)=true:=by simpa using m2
      have y3:(m.k==3)=false:=by simp;omega
      have y4:(m.k==4)=false:=by simp;omega
      have y5:(m.k==5)=false:=by simp;omega
      have Y:=I (fun w1=>OO m.tg A1 A2 c1 c2 w1 HZ.o.2.1.1 HZ.o.2.1.2);have k7:=M.c7;have k8:=M.c8;have k9:=M.c9;have aw:=M.c10;have an:=M.c11;have ar:=M.c12;have au:=M.c13;have al:=M.c14;have ao:=M.c15;rw[if_neg m1,if_pos m2] at HF;clear m1 m2;cases g1:tgB m.tg with
      |false=>
       rw[g1] at Y;have E:=I (show mgB m=false by rw[HF.o,g1];rfl);clear g1
       go_wp2_with (go_at_call 113;(with_reducible refine Calls.mono (Y.o _) ?_);rintro e u1 ⟨rfl,O⟩;replace M:=I (M.o.below O);replace X:=X.t O;clear O Y;clear k7 k8 k9 aw an ar au al ao;have k7:=M.c7;have k8:=M.c8;have k9:=M.c9;have aw:=M.c10;have an:=M.c11;have ar:=M.c12;have au:=M.c13;have al:=M.c14;have ao:=M.c15)
       go_ret;exact⟨by rw[E.o];rfl,X.o⟩
      |true=>
       rw[g1] at Y;cases zA with
       |false=>
        have E:=I (show mgB m=false by rw[HF.o,g1];rfl);clear g1
        go_wp2_with (go_at_call 113;(with_reducible refine Calls.mono (Y.o _) ?_);rintro e u1 ⟨rfl,O⟩;replace M:=I (M.o.below O);replace X:=X.t O;clear O Y;clear k7 k8 k9 aw an ar au al ao;have k7:=M.c7;have k8:=M.c8;have k9:=M.c9;have aw:=M.c10;have an:=M.c11;have ar:=M.c12;have au:=M.c13;have al:=M.c14;have ao:=M.c15)
        go_ret;exact⟨by rw[E.o];rfl,X.o⟩
       |true=>
        cases zR with
        |false=>
         have E:=I (show mgB m=false by rw[HF.o,g1];rfl);clear g1
         go_wp2_with (go_at_call 113;(with_reducible refine Calls.mono (Y.o _) ?_);rintro e u1 ⟨rfl,O⟩;replace M:=I (M.o.below O);replace X:=X.t O;clear O Y;clear k7 k8 k9 aw an ar au al ao;have k7:=M.c7;have k8:=M.c8;have k9:=M.c9;have aw:=M.c10;have an:=M.c11;have ar:=M.c12;have au:=M.c13;have al:=M.c14;have ao:=M.c15)
         go_ret;exact⟨by rw[E.o];rfl,X.o⟩
        |true=>
         cases zP with
         |false=>
          have E:=I (show mgB m=false by rw[HF.o,g1];rfl);clear g1
          go_wp2_with (go_at_call 113;(with_reducible refine Calls.mono (Y.o _) ?_);rintro e u1 ⟨rfl,O⟩;replace M:=I (M.o.below O);replace X:=X.t O;clear O Y;clear k7 k8 k9 aw an ar au al ao;have k7:=M.c7;have k8:=M.c8;have k9:=M.c9;have aw:=M.c10;have an:=M.c11;have ar:=M.c12;have au:=M.c13;have al:=M.c14;have ao:=M.c15)
          go_ret;exact⟨by rw[E.o];rfl,X.o⟩
         |true=>
          have E:=I (show mgB m=zF by rw[HF.o,g1];rfl);clear g1
          go_wp2_with (go_at_call 113;(with_reducible refine Calls.mono (Y.o _) ?_);rintro e u1 ⟨rfl,O⟩;replace M:=I (M.o.below O);replace X:=X.t O;clear O Y;clear k7 k8 k9 aw an ar au al ao;have k7:=M.c7;have k8:=M.c8;have k9:=M.c9;have aw:=M.c10;have an:=M.c11;have ar:=M.c12;have au:=M.c13;have al:=M.c14;have ao:=M.c15)
          go_ret;exact⟨by rw[E.o];rfl,X.o⟩
     ·have aE:=m2
      by_cases m3:m.k=3
      ·have y1:(m.k==1)=false:=by simp;omega
       have y2:(m.k==2)=false:=by simp;omega
       have y3:(m.k==3)=true:=by simpa using m3
       have y4:(m.k==4)=false:=by simp;omega
       have y5:(m.k==5)=false:=by simp;omega
       have Y:=I (fun w1=>AS m.re.c w1 HZ.o.2.2.1.1.1 HZ.o.2.2.1.1.2);have T2:=I (fun w1=>Gn m.re.t A3 c3 w1 HZ.o.2.2.1.2);have T3:=I (fun w1=>GO m.re.b A4 c4 w1);have k16:=M.c16;have ad:=M.c17;have aa:=M.c18;have Z:=M.c19;have ae:=M.c20;have af:=M.c21;have ab:=M.c22;rw[if_neg m1,if_neg m2,if_pos m3] at HF;clear m1 m2 m3;cases g1:prB m.re.c with
       |false=>
        rw[g1] at Y;have E:=I (show mgB m=false by rw[HF.o,g1];rfl);clear g1
        go_wp2_with (go_at_call 44;(with_reducible refine Calls.mono (Y.o _) ?_);rintro e u1 ⟨rfl,O⟩;replace M:=I (M.o.below O);replace X:=X.t O;clear O Y;clear k16 ad aa Z ae af ab;have k16:=M.c16;have ad:=M.c17;have aa:=M.c18;have Z:=M.c19;have ae:=M.c20;have af:=M.c21;have ab:=M.c22)
        go_ret;exact⟨by rw[E.o];rfl,X.o⟩
       |true=>
        rw[g1] at Y;cases g2:tkB m.re.t with
        |false=>
         rw[g2] at T2;have E:=I (show mgB m=false by rw[HF.o,g1,g2];rfl);clear g1 g2
         go_wp2_with (first
          |(go_at_call 44;(with_reducible refine Calls.mono (Y.o _) ?_);rintro e u1 ⟨rfl,O⟩;replace M:=I (M.o.below O);replace X:=X.t O;clear O Y;clear k16 ad aa Z ae af ab;have k16:=M.c16;have ad:=M.c17;have aa:=M.c18;have Z:=M.c19;have ae:=M.c20;have af:=M.c21;have ab:=M.c22)
          |(go_at_call 114;(with_reducible refine Calls.mono (T2.o _) ?_);rintro e u2 ⟨rfl,O⟩;replace M:=I (M.o.below O);replace X:=X.t O;clear O T2;clear k16 ad aa Z ae af ab;have k16:=M.c16;have ad:=M.c17;have aa:=M.c18;have Z:=M.c19;have ae:=M.c20;have af:=M.c21;have ab:=M.c22))
         go_ret;exact⟨by rw[E.o];rfl,X.o⟩
        |true=>
         rw[g2] at T2;cases g3:Bv m.re.b with
         |false=>
          rw[g3] at T3;have E:=I (show mgB m=false by rw[HF.o,g1,g2,g3];rfl);clear g1 g2 g3
          go_wp2_with (first
           |(go_at_call 44;(with_reducible refine Calls.mono (Y.o _) ?_);rintro e u1 ⟨rfl,O⟩;replace M:=I (M.o.below O);replace X:=X.t O;clear O Y;clear k16 ad aa Z ae af ab;have k16:=M.c16;have ad:=M.c17;have aa:=M.c18;have Z:=M.c19;have ae:=M.c20;have af:=M.c21;have ab:=M.c22)
           |(go_at_call 114;(with_reducible refine Calls.mono (T2.o _) ?_);rintro e u2 ⟨rfl,O⟩;replace M:=I (M.o.below O);replace X:=X.t O;clear O T2;clear k16 ad aa Z ae af ab;have k16:=M.c16;have ad:=M.c17;have aa:=M.c18;have Z:=M.c19;have ae:=M.c20;have af:=M.c21;have ab:=M.c22)
           |(go_at_call 115;(with_reducible refine Calls.mono (T3.o _) ?_);rintro e u3 ⟨rfl,hw⟩;subst hw;clear T3))
          go_ret;exact⟨by rw[E.o];rfl,X.o⟩
         |true=>
          rw[g3] at T3;cases zA with
          |false=>
           have E:=I (show mgB m=false by rw[HF.o,g1,g2,g3];rfl);clear g1 g2 g3
           go_wp2_with (first
            |(go_at_call 44;(with_reducible refine Calls.mono (Y.o _) ?_);rintro e u1 ⟨rfl,O⟩;replace M:=I (M.o.below O);replace X:=X.t O;clear O Y;clear k16 ad aa Z ae af ab;have k16:=M.c16;have ad:=M.c17;have aa:=M.c18;have Z:=M.c19;have ae:=M.c20;have af:=M.c21;have ab:=M.c22)
            |(go_at_call 114;(with_reducible refine Calls.mono (T2.o _) ?_);rintro e u2 ⟨rfl,O⟩;replace M:=I (M.o.below O);replace X:=X.t O;clear O T2;clear k16 ad aa Z ae af ab;have k16:=M.c16;have ad:=M.c17;have aa:=M.c18;have Z:=M.c19;have ae:=M.c20;have af:=M.c21;have ab:=M.c22)
            |(go_at_call 115;(with_reducible refine Calls.mono (T3.o _) ?_);rintro e u3 ⟨rfl,hw⟩;subst hw;clear T3))
           go_ret;exact⟨by rw[E.o];rfl,X.o⟩
          |true=>
           cases zT with
           |false=>
            have E:=I (show mgB m=false by rw[HF.o,g1,g2,g3];rfl);clear g1 g2 g3
            go_wp2_with (first
             |(go_at_call 44;(with_reducible refine Calls.mono (Y.o _) ?_);rintro e u1 ⟨rfl,O⟩;replace M:=I (M.o.below O);replace X:=X.t O;clear O Y;clear k16 ad aa Z ae af ab;have k16:=M.c16;have ad:=M.c17;have aa:=M.c18;have Z:=M.c19;have ae:=M.c20;have af:=M.c21;have ab:=M.c22)
             |(go_at_call 114;(with_reducible refine Calls.mono (T2.o _) ?_);rintro e u2 ⟨rfl,O⟩;replace M:=I (M.o.below O);replace X:=X.t O;clear O T2;clear k16 ad aa Z ae af ab;have k16:=M.c16;have ad:=M.c17;have aa:=M.c18;have Z:=M.c19;have ae:=M.c20;have af:=M.c21;have ab:=M.c22)
             |(go_at_call 115;(with_reducible refine Calls.mono (T3.o _) ?_);rintro e u3 ⟨rfl,hw⟩;subst hw;clear T3))
            go_ret;exact⟨by rw[E.o];rfl,X.o⟩
           |true=>
            cases zP with
            |false=>
             have E:=I (show mgB m=false by rw[HF.o,g1,g2,g3];rfl);clear g1 g2 g3
             go_wp2_with (first
              |(go_at_call 44;(with_reducible refine Calls.mono (Y.o _) ?_);rintro e u1 ⟨rfl,O⟩;replace M:=I (M.o.below O);replace X:=X.t O;clear O Y;clear k16 ad aa Z ae af ab;have k16:=M.c16;have ad:=M.c17;have aa:=M.c18;have Z:=M.c19;have ae:=M.c20;have af:=M.c21;have ab:=M.c22)
              |(go_at_call 114;(with_reducible refine Calls.mono (T2.o _) ?_);rintro e u2 ⟨rfl,O⟩;replace M:=I (M.o.below O);replace X:=X.t O;clear O T2;clear k16 ad aa Z ae af ab;have k16:=M.c16;have ad:=M.c17;have aa:=M.c18;have Z:=M.c19;have ae:=M.c20;have af:=M.c21;have ab:=M.c22)
              |(go_at_call 115;(with_reducible refine Calls.mono (T3.o _) ?_);rintro e u3 ⟨rfl,hw⟩;subst hw;clear T3))
             go_ret;exact⟨by rw[E.o];rfl,X.o⟩
            |true=>
             have E:=I (show mgB m=zF by rw[HF.o,g1,g2,g3];rfl);clear g1 g2 g3
             go_wp2_with (first
              |(go_at_call 44;(with_reducible refine Calls.mono (Y.o _) ?_);rintro e u1 ⟨rfl,O⟩;replace M:=I (M.o.below O);replace X:=X.t O;clear O Y;clear k16 ad aa Z ae af ab;have k16:=M.c16;have ad:=M.c17;have aa:=M.c18;have Z:=M.c19;have ae:=M.c20;have af:=M.c21;have ab:=M.c22)
              |(go_at_call 114;(with_reducible refine Calls.mono (T2.o _) ?_);rintro e u2 ⟨rfl,O⟩;replace M:=I (M.o.below O);replace X:=X.t O;clear O T2;clear k16 ad aa Z ae af ab;have k16:=M.c16;have ad:=M.c17;have aa:=M.c18;have Z:=M.c19;have ae:=M.c20;have af:=M.c21;have ab:=M.c22)
              |(go_at_call 115;(with_reducible refine Calls.mono (T3.o _) ?_);rintro e u3 ⟨rfl,hw⟩;subst hw;clear T3))
             go_ret;exact⟨by rw[E.o];rfl,X.o⟩
      ·have aD:=m3
       by_cases m4:m.k=4
       ·have y1:(m.k==1)=false:=by simp;omega
        have y2:(m.k==2)=false:=by simp;omega
        have y3:(m.k==3)=false:=by simp;omega
        have y4:(m.k==4)=true:=by simpa using m4
        have y5:(m.k==5)=false:=by simp;omega
        have Y:=I (fun w1=>Gn m.ap.t A5 c5 w1 HZ.o.2.2.2);have T2:=I (fun w1=>GO m.ap.a A6 c6 w1);have ag:=M.c23;have ah:=M.c24;have ai:=M.c25;have aj:=M.c26;have ak:=M.c27;rw[if_neg m1,if_neg m2,if_neg m3,if_pos m4] at HF;clear m1 m2 m3 m4;cases g1:tkB m.ap.t with
        |false=>
         rw[g1] at Y;have E:=I (show mgB m=false by rw[HF.o,g1];rfl);clear g1
         go_wp2_with (go_at_call 114;(with_reducible refine Calls.mono (Y.o _) ?_);rintro e u1 ⟨rfl,O⟩;replace M:=I (M.o.below O);replace X:=X.t O;clear O Y;clear ag ah ai aj ak;have ag:=M.c23;have ah:=M.c24;have ai:=M.c25;have aj:=M.c26;have ak:=M.c27)
         go_ret;exact⟨by rw[E.o];rfl,X.o⟩
        |true=>
         rw[g1] at Y;cases g2:Bv m.ap.a with
         |false=>
          rw[g2] at T2;have E:=I (show mgB m=false by rw[HF.o,g1,g2];rfl);clear g1 g2
          go_wp2_with (first
           |(go_at_call 114;(with_reducible refine Calls.mono (Y.o _) ?_);rintro e u1 ⟨rfl,O⟩;replace M:=I (M.o.below O);replace X:=X.t O;clear O Y;clear ag ah ai aj ak;have ag:=M.c23;have ah:=M.c24;have ai:=M.c25;have aj:=M.c26;have ak:=M.c27)
           |(go_at_call 115;(with_reducible refine Calls.mono (T2.o _) ?_);rintro e u2 ⟨rfl,hw⟩;subst hw;clear T2))
          go_ret;exact⟨by rw[E.o];rfl,X.o⟩
         |true=>
          rw[g2] at T2;cases zA with
          |false=>
           have E:=I (show mgB m=false by rw[HF.o,g1,g2];rfl);clear g1 g2
           go_wp2_with (first
            |(go_at_call 114;(with_reducible refine Calls.mono (Y.o _) ?_);rintro e u1 ⟨rfl,O⟩;replace M:=I (M.o.below O);replace X:=X.t O;clear O Y;clear ag ah ai aj ak;have ag:=M.c23;have ah:=M.c24;have ai:=M.c25;have aj:=M.c26;have ak:=M.c27)
            |(go_at_call 115;(with_reducible refine Calls.mono (T2.o _) ?_);rintro e u2 ⟨rfl,hw⟩;subst hw;clear T2))
           go_ret;exact⟨by rw[E.o];rfl,X.o⟩
          |true=>
           cases zT with
           |false=>
            have E:=I (show mgB m=false by rw[HF.o,g1,g2];rfl);clear g1 g2
            go_wp2_with (first
             |(go_at_call 114;(with_reducible refine Calls.mono (Y.o _) ?_);rintro e u1 ⟨rfl,O⟩;replace M:=I (M.o.below O);replace X:=X.t O;clear O Y;clear ag ah ai aj ak;have ag:=M.c23;have ah:=M.c24;have ai:=M.c25;have aj:=M.c26;have ak:=M.c27)
             |(go_at_call 115;(with_reducible refine Calls.mono (T2.o _) ?_);rintro e u2 ⟨rfl,hw⟩;subst hw;clear T2))
            go_ret;exact⟨by rw[E.o];rfl,X.o⟩
           |true=>
            cases zR with
            |false=>
             have E:=I (show mgB m=false by rw[HF.o,g1,g2];rfl);clear g1 g2
             go_wp2_with (first
              |(go_at_call 114;(with_reducible refine Calls.mono (Y.o _) ?_);rintro e u1 ⟨rfl,O⟩;replace M:=I (M.o.below O);replace X:=X.t O;clear O Y;clear ag ah ai aj ak;have ag:=M.c23;have ah:=M.c24;have ai:=M.c25;have aj:=M.c26;have ak:=M.c27)
              |(go_at_call 115;(with_reducible refine Calls.mono (T2.o _) ?_);rintro e u2 ⟨rfl,hw⟩;subst hw;clear T2))
             go_ret;exact⟨by rw[E.o];rfl,X.o⟩
            |true=>
             have E:=I (show mgB m=zF by rw[HF.o,g1,g2];rfl);clear g1 g2
             go_wp2_with (first
              |(go_at_call 114;(with_reducible refine Calls.mono (Y.o _) ?_);rintro e u1 ⟨rfl,O⟩;replace M:=I (M.o.below O);replace X:=X.t O;clear O Y;clear ag ah ai aj ak;have ag:=M.c23;have ah:=M.c24;have ai:=M.c25;have aj:=M.c26;have ak:=M.c27)
              |(go_at_call 115;(with_reducible refine Calls.mono (T2.o _) ?_);rintro e u2 ⟨rfl,hw⟩;subst hw;clear T2))
             go_ret;exact⟨by rw[E.o];rfl,X.o⟩
       ·have aA:=m4
        by_cases m5:m.k=5
        ·have y1:(m.k==1)=false:=by simp;omega
         have y2:(m.k==2)=false:=by simp;omega
         have y3:(m.k==3)=false:=by simp;omega
         have y4:(m.k==4)=false:=by simp;omega
         have y5:(m.k==5)=true:=by simpa using m5
         have Y:=I (fun w1=>Kh m.fa.e 1 255 w1);have T2:=I (fun w1=>DY m.fa.no w1);have ax:=M.c28;have ay:=M.c29;rw[if_neg m1,if_neg m2,if_neg m3,if_neg m4,if_pos m5] at HF;clear m1 m2 m3 m4 m5;cases g1:inB m.fa.e 1 255 with
         |false=>
          rw[g1] at Y;have E:=I (show mgB m=false by rw[HF.o,g1];rfl);clear g1
          go_wp2_with (go_at_call 116;(with_reducible refine Calls.mono (Y.o _) ?_);rintro e u1 ⟨rfl,hw⟩;subst hw;clear Y)
          go_ret;exact⟨by rw[E.o];rfl,X.o⟩
         |true=>
          rw[g1] at Y;cases g2:tmB m.fa.no with
          |false=>
           rw[g2] at T2;have E:=I (show mgB m=false by rw[HF.o,g1,g2];rfl);clear g1 g2
           go_wp2_with (first
            |(go_at_call 116;(with_reducible refine Calls.mono (Y.o _) ?_);rintro e u1 ⟨rfl,hw⟩;subst hw;clear Y)
            |(go_at_call 116;(with_reducible refine Calls.mono (T2.o _) ?_);rintro e u2 ⟨rfl,hw⟩;subst hw;clear T2))
           go_ret;exact⟨by rw[E.o];rfl,X.o⟩
          |true=>
           rw[g2] at T2;cases zA with
           |false=>
            have E:=I (show mgB m=false by rw[HF.o,g1,g2];rfl);clear g1 g2
            go_wp2_with (first
             |(go_at_call 116;(with_reducible refine Calls.mono (Y.o _) ?_);rintro e u1 ⟨rfl,hw⟩;subst hw;clear Y)
             |(go_at_call 116;(with_reducible refine Calls.mono (T2.o _) ?_);rintro e u2 ⟨rfl,hw⟩;subst hw;clear T2))
            go_ret;exact⟨by rw[E.o];rfl,X.o⟩
           |true=>
            cases zT with
            |false=>
             have E:=I (show mgB m=false by rw[HF.o,g1,g2];rfl);clear g1 g2
             go_wp2_with (first
              |(go_at_call 116;(with_reducible refine Calls.mono (Y.o _) ?_);rintro e u1 ⟨rfl,hw⟩;subst hw;clear Y)
              |(go_at_call 116;(with_reducible refine Calls.mono (T2.o _) ?_);rintro e u2 ⟨rfl,hw⟩;subst hw;clear T2))
             go_ret;exact⟨by rw[E.o];rfl,X.o⟩
            |true=>
             cases zR with
             |false=>
              have E:=I (show mgB m=false by rw[HF.o,g1,g2];rfl);clear g1 g2
              go_wp2_with (first
               |(go_at_call 116;(with_reducible refine Calls.mono (Y.o _) ?_);rintro e u1 ⟨rfl,hw⟩;subst hw;clear Y)
               |(go_at_call 116;(with_reducible refine Calls.mono (T2.o _) ?_);rintro e u2 ⟨rfl,hw⟩;subst hw;clear T2))
              go_ret;exact⟨by rw[E.o];rfl,X.o⟩
             |true=>
              have E:=I (show mgB m=zP by rw[HF.o,g1,g2];rfl);clear g1 g2
              go_wp2_with (first
               |(go_at_call 116;(with_reducible refine Calls.mono (Y.o _) ?_);rintro e u1 ⟨rfl,hw⟩;subst hw;clear Y)
               |(go_at_call 116;(with_reducible refine Calls.mono (T2.o _) ?_);rintro e u2 ⟨rfl,hw⟩;subst hw;clear T2))
              go_ret;exact⟨by rw[E.o];rfl,X.o⟩
        ·have aB:=m5
         have y1:(m.k==1)=false:=by simp;omega
         have y2:(m.k==2)=false:=by simp;omega
         have y3:(m.k==3)=false:=by simp;omega
         have y4:(m.k==4)=false:=by simp;omega
         have y5:(m.k==5)=false:=by simp;omega
         have E:=I (show mgB m=false by rw[HF.o,if_neg m1,if_neg m2,if_neg m3,if_neg m4,if_neg m5]);clear m1 m2 m3 m4 m5 aC aE aD aA aB
         go_wp2
         go_ret;exact⟨by rw[E.o];rfl,X.o⟩
end Ms
end Go.Proofs.YtlccngianpfalaaGreat
