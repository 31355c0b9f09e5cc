import Derived.Test.YtlccngianpfalaaGreatZClientRequests22
import Derived.Test.YtlccngianpfalaaGreatZClientRequests23
set_option maxHeartbeats 25600000
set_option maxRecDepth 100000
set_option linter.unusedVariables false
set_option linter.unusedSimpArgs false
namespace Go.Proofs.YtlccngianpfalaaGreat
namespace Cl
open Go.RowKit Ae Se
open Nm (L krb tgL tgR)
open Ms (Pr tmB pSm mSm mgD mgO mgE Mg)
open Rg (prV)
theorem Im {w0 w w':World} {p:CP} {m m':CM} {s s':St} {c c':Nat} (hB:Below w0.heap.size w0 w) (M:Cl w w0.heap.size p m s c) (hk:Tu w w' w0.heap.size p m m' s' c'):Below w0.heap.size w0 w':=hB.trans (hk.chg.below hB.size (fun j _ x=>M.lo x))
theorem low_g {w0 w w':World} {g:Nat} (hB:Below w0.heap.size w0 w) (O:w0.heap.size<=g) (M:Chg (fun j=>j=g) w w'):Below w0.heap.size w0 w':=hB.trans (M.below hB.size (fun j _ x=>by omega))
theorem sz0 {p:CP} (O:p.P=annP):Sz p st0 0:=by
 refine⟨Nat.le_refl _,Nat.le_refl _,Nat.le_refl _,⟨Int.le_refl _,Int.le_refl _⟩,⟨Nat.le_refl _,fun v M=>by cases M⟩,⟨by decide,by decide⟩,by decide,fun i X=>(by cases X),?_⟩;rw[O];exact⟨⟨by decide,by decide⟩,by decide⟩
theorem Kt:pSm DP:=⟨by decide,by decide⟩
section
variable {w w' w0:World} {B:Nat} {p:CP} {m m' m0:CM} {s:St} {c:Nat} {r:L}
theorem Sc (h:Cl w B p m st0 0) (M:p.P=annP) (O:p.ks=k9) (now:Int) (Y:tmB now=true):Calls Tryz.prog 6 #[pv p.k,prV DP,.int .i64 now] w fun e w'=>∃v m',e=.returned (.tuple #[.string ⟨#[65]⟩,v,.int .i64 0])/\SlN (Out w p m') w' v (lO (mgO (mAs (firQ annP st0 now))))/\Tu w w' B p m m' (s1 0) 2:=by
 have:=cha_4 (R:=(s1 0,([65],lO (mgO (mAs (firQ annP st0 now)))))) h (sz0 M) (by decide) Kt (by decide) Pe Y (fun w1 m1 X=>by
  have Z:=Um (o:=none) X (by decide) (Yu (sz0 M) Kt) Y rfl rfl;rw[M,O] at Z;refine Z.mono ?_;rintro e w2 ⟨v,m2,rfl,a1,a2⟩;exact⟨v,m2,by rw[M],by rw[M];rfl,a1,a2.more (by decide)⟩)
 exact this
theorem Uw (h:Cl w B p m s c) (O:Sz p s c) (X:c<=700000) (now:Int) (M:s.st=1):Calls Tryz.prog 6 #[pv p.k,prV DP,.int .i64 now] w fun e w'=>∃v m',e=.returned (.tuple #[.string ⟨#[]⟩,v,.int .i64 16])/\SlN (Out w p m') w' v []/\Tu w w' B p m m' s (c+2):=by
 exact cha_1 (t:=DP) (now:=now) h O X Kt M
theorem sz1 {p:CP} (O:p.P=annP):Sz p (s1 0) 2:=by
 refine⟨by decide,by decide,by decide,⟨by decide,by decide⟩,⟨by decide,fun v M=>by cases M⟩,Kt,by decide,fun i X=>(by cases X),?_⟩;rw[O];exact⟨⟨by decide,by decide⟩,by decide⟩
theorem WU (now:Int) (M:tmB now=true):0<(lO (mgO (mAs (firQ annP st0 now)))).length:=by
 have O:=RV (s:=st0) Hp Kr M (by decide);rw[(RU O).1];show 0<(mgE (mAs (firQ annP st0 now))).length;have:mgE (mAs (firQ annP st0 now))=Ms.asE (firQ annP st0 now):=rfl;rw[this,Ms.asE];have h:=DerP.DH 106 [Ms.prE (firQ annP st0 now).c,Ms.prE (firQ annP st0 now).s,DerP.encI (firQ annP st0 now).t,DerP.encI (firQ annP st0 now).no].flatten;rw[h];omega
theorem YE {c x:Nat} {q:Pq}:(prA c x q)[35]? = some (.int .i64 q.u):=by kernel_rfl
theorem YF {c x:Nat} {q:Pq} {g:Nat} {t:TypeId} (h:Blk w g t (prA c x q)):w.cell? ⟨g,35,none⟩=some (.int .i64 q.u):=by
 have e:(prA c x q)[35]? = some (.int .i64 q.u):=by kernel_rfl
 exact(h.cell 35).trans e
theorem YG {c x:Nat} {q:Pq} {g:Nat} {t:TypeId} {no:Int} {O:Array Value} {ks:Nat->UInt8} (X:Blk w g t ((prA c x q).setIfInBounds 2 (.int .i64 no))) (Y:O=AX ks):Blk (w.setCells g 3 O.toList) g t (prA c x ⟨no,ks,q.u⟩):=by
 subst Y;have M:=Se.Blk.setCells (AX ks).toList 3 _ _ X;have e:(Nc ((prA c x q).setIfInBounds 2 (.int .i64 no)) 3 (AX ks).toList)=prA c x ⟨no,ks,q.u⟩:=by kernel_rfl
 rw[e] at M;exact M
theorem WV {c x:Nat} {q:Pq} {g:Nat} {t:TypeId} (h:Blk w g t (prA c x q)) (u:Int):Blk (w.setCell ⟨g,35,none⟩ (.int .i64 u)) g t (prA c x ⟨q.no,q.ks,u⟩):=by
 have M:=h.set 35 (.int .i64 u);have e:(prA c x q).setIfInBounds 35 (.int .i64 u)=prA c x ⟨q.no,q.ks,u⟩:=by kernel_rfl
 rw[e] at M;exact M
theorem YH (w:World) (g:Nat) (a u:Value) (vs:List Value):Chg (fun j=>j=g) w (((w.setCell ⟨g,2,none⟩ a).setCells g 3 vs).setCell ⟨g,35,none⟩ u):=by
 have M:Chg (fun j=>j=g) w (w.setCell ⟨g,2,none⟩ a):=IY _ _ _ _;have O:Chg (fun j=>j=g) (w.setCell ⟨g,2,none⟩ a) ((w.setCell ⟨g,2,none⟩ a).setCells g 3 vs):=Chg.of_grown (Wh.DK _ _ _ _) rfl;exact(M.trans O (fun _ _ x=>x)).trans (IY _ _ _ _) (fun _ _ x=>x)
abbrev RdP (w:World) (b:L) (e:Ending) (w':World):Prop:=∃ds,e=.returned (.tuple #[.agg ds,.int .i64 (Mc.mgI b)])/\Mc.MgV w' w.heap.size ds (Mc.mgG b)/\Below w.heap.size w w'
abbrev RdQ (w:World) (b:L) (e:Ending) (w':World):Prop:=∃ds,e=.returned (.tuple #[.agg ds,.int .i64 (Mc.mgI b)])/\(ds.size=30/\ds.all (·.oneCell')=true/\(Tryz.prog.info? 61).map (·.size)=some ds.size)/\
 (∀(w1:World) (gb:Nat) (t:TypeId),Blk w1 gb t ds->w1.cell? ⟨gb,0,none⟩=some (.int .i64 (Mc.mgG b).k)/\w1.rangeAt gb 1 (asA (Mc.mgG b).aq).toList/\w1.cell? ⟨gb,15,none⟩=some (.int .i64 (Mc.mgG b).tg.no))/\Mc.MgV w' w.heap.size ds (Mc.mgG b)/\Below w.heap.size w w'
theorem Sd {v:Value} {b:L} (h:Calls Tryz.prog 13 #[v] w (RdP w b)):Calls Tryz.prog 13 #[v] w (RdQ w b):=by
 refine h.mono ?_;rintro e w' ⟨ds,rfl,hm,hb⟩;have X:=hm;obtain⟨pa,pt,pr,pp,pf,O,M⟩:=hm;have h6:pa=asA (Mc.mgG b).aq:=M.a;obtain⟨bv,av,h7,_,_⟩:=M.t;subst h6;refine⟨ds,rfl,⟨by rw[O];exact M.size _,by rw[O];exact M.one _,by rw[O,M.size];exact Mc.AT⟩,fun w1 gb t hx=>?_,X,hb⟩;rw[O] at hx;have Y:=M.at_ hx;have Z:=Y.t;rw[h7] at Z;exact⟨Y.k,Y.a,Z 8 _ rfl⟩
theorem YI {b:L} {G:Mg} (h:mgD b=some G):Ms.mgP b=G:=by
 unfold Ms.mgD at h
 split at h
 ·injection h
 ·cases h
theorem WW {b:L} {G:Mg} (h:mgD b=some G) (hk:G.k=1):∃r,b=106 :: r:=by
 have M:=YI h;cases b with
 |nil=>rw[<-M] at hk;exact absurd hk (by decide)
 |cons t r=>
  by_cases e:t=106
  ·exact⟨r,by rw[e]⟩
  ·unfold Ms.mgP at M
   simp only[if_neg e] at M
   exfalso
   split at M
   ·rw[<-M] at hk;exact absurd hk (by show ¬(2:Int)=1;decide)
   ·split at M
    ·rw[<-M] at hk;exact absurd hk (by show ¬(3:Int)=1;decide)
    ·split at M
     ·rw[<-M] at hk;exact absurd hk (by show ¬(4:Int)=1;decide)
     ·split at M
      ·rw[<-M] at hk;exact absurd hk (by show ¬(5:Int)=1;decide)
      ·rw[<-M] at hk;exact absurd hk (by decide)
theorem WX {b:L} {G:Mg} (h:mgD b=some G) (hk:G.k=2):∃r,b=108 :: r:=by
 have M:=YI h;cases b with
 |nil=>rw[<-M] at hk;exact absurd hk (by decide)
 |cons t r=>
  by_cases e:t=108
  ·exact⟨r,by rw[e]⟩
  ·unfold Ms.mgP at M
   simp only[if_neg e] at M
   exfalso
   split at M
   ·rw[<-M] at hk;exact absurd hk (by show ¬(1:Int)=2;decide)
   ·split at M
    ·rw[<-M] at hk;exact absurd hk (by show ¬(3:Int)=2;decide)
    ·split at M
     ·rw[<-M] at hk;exact absurd hk (by show ¬(4:Int)=2;decide)
     ·split at M
      ·rw[<-M] at hk;exact absurd hk (by show ¬(5:Int)=2;decide)
      ·rw[<-M] at hk;exact absurd hk (by decide)
theorem Sf {v:Value} {b:L} {S:Nat->Prop} {G:Mg} (M:SlN S w v b) (Z:b.length<=20000) (h:mgD b=some G) (hk:G.k=1):Calls Tryz.prog 13 #[v] w (RdQ w b):=by
 obtain⟨r,rfl⟩:=WW h hk;obtain⟨A,Y,rfl,X,O⟩:=M;exact Sd (Mc.WS 106 r A Y w O.rd X Z rfl)
theorem WY {v:Value} {b:L} {S:Nat->Prop} {G:Mg} (M:SlN S w v b) (Z:b.length<=20000) (h:mgD b=some G) (hk:G.k=2):Calls Tryz.prog 13 #[v] w (RdQ w b):=by
 obtain⟨r,rfl⟩:=WX h hk;obtain⟨A,Y,rfl,X,O⟩:=M;exact Sd (Mc.WT 108 r A Y w O.rd X Z rfl (by decide))
def SenP (w:World) (g c x:Nat) (q:Pq) (e:Ending) (w':World):Prop:=e=.returned (.tuple #[])/\Blk w' g 32 (prA c x q)/\Chg (fun j=>j=g) w w'
theorem YJ {b:L} {v:Value} {g k x:Nat} {q:Pq} {S:Nat->Prop} (h:Blk w g 32 (prA k x q)) (hl:b.length<=20000) (hv:SlN S w v b) {G:Mg} (h3:mgD b=some G) (h4:G.k=1) :
  Calls Tryz.prog 8 #[pv g,v] w (SenP w g k x ⟨G.aq.no,k9,3⟩):=by
 have CD:=I (Sf hv hl h3 h4);have Y:=I h;have HB:=I (Chg.refl (fun j=>j=g) w);have hi:Mc.mgI b=0:=by unfold Mc.mgI;rw[h3];rfl
 have hg:Mc.mgG b=G:=by unfold Mc.mgG;rw[h3];rfl
 unfold RdQ at CD;rw[hi,hg] at CD;have ar:=I (fun(ks:Nat->UInt8)=>(show(Tryz.prog.info? 30).map (·.size)=some (AX ks).size by rw[AU];kernel_rfl));have ay:=I MF;have ag:=I ND;clear h hl hv h3 hi hg;go_enter Tryz.func8,Tryz.ntmps8
 go_upto_region 2 with(first
  |(go_at_call 13;refine Calls.mono CD.o ?_;rintro e wd ⟨ds,rfl,⟨hs,ho,hi⟩,ab,_,hb⟩;clear CD;have ai:=I hs;have av:=I ho;have aw:=I hi;have af:=I ab;replace Y:=I (Y.o.below hb);replace HB:=I (HB.o.trans (Chg.of_below hb) (fun _ _ x=>x));clear hs ho hi ab hb)
  |(refine Wh.Bh (by rfl) 61 (.tmp 4) (.tmp 9) (by rfl) 61 rfl ds (by rfl) (by rfl) (by rw[ai.o];rfl) aw.o av.o ?_;rintro V1 hV hb;have HM:=I hV;replace Y:=I (Y.o.below hb);replace HB:=I (HB.o.trans (Chg.of_below hb) (fun _ _ x=>x));clear hV hb)
  |fail)
 obtain⟨gm,ae⟩:=Aj (wd.heap.size);rw[<-ae] at HM⊢;clear ae;obtain⟨m0,m1,_⟩:=af.o _ _ _ HM.o;rw[h4] at m0;have m6:V1.cell? ⟨gm,6,none⟩=some (.int .i64 G.aq.no):=m1 5 _ rfl;have M1:=I m1;clear m1;have p2:=Y.c2;have fz:=Y.o.frozen
 go_upto_region 4 with fail
 obtain⟨W1,O⟩:=Aj (V1.setCell ⟨g,2,none⟩ (.int .i64 G.aq.no));have ah:=I (show Blk W1 g 32 ((prA k x q).setIfInBounds 2 (.int .i64 G.aq.no)) by rw[O];exact Y.o.set 2 _);have ak:=I O;rw[<-O];clear O m0 m6 p2 fz;have al:=I (show gm≠g by have:=HM.o;have h1:=Y.o.cell 35;have h2:=HM.o.cell 35;intro e;rw[e] at h2;have h3:=h1.symm.trans h2;exact absurd (congrArg Option.isSome h3) (by rw[show(prA k x q)[35]? = some (.int .i64 q.u) from YE,show ds[35]? = none from by rw[Array.getElem?_eq_none];rw[ai.o];decide];simp));obtain⟨Z,M⟩:=Aj (AX k9);have aj:=I (show(Tryz.prog.info? 30).map (·.size)=some Z.size by rw[M];exact ar.o _);have ad:=I (show Z.all (·.oneCell')=true by rw[M];exact ay.o _);rw[<-M] at ag;have au:=I (show W1.there g 3 Z.size from Wh.BZ ah.o 3 _ (by rw[M,AU];simp [AU]));have an:=I M;clear M
 go_upto_region 5 with(first
  |(refine Mc.Ay (by rfl) 30 #[(0,.const (.int .u8 9))] (by rfl) Z (by simp only[List.map_toArray,List.map_cons,List.map_nil];exact ag.o) ?_)
  |(refine wpList_store_mid (by rfl) 30 (.tmp 26) (.tmp 24) (by rfl) g 3 Z (by rfl) (by rfl) au.o aj.o ad.o ?_;have HQ:=I (YG ah.o an.o);have ax:(W1.setCells g 3 Z.toList).cell? ⟨g,35,none⟩=some (.int .i64 q.u):=(by have h:=YF HQ.o;exact h);have fz:=HQ.o.frozen)
  |fail)
 obtain⟨V9,X⟩:=Aj ((W1.setCells g 3 Z.toList).setCell ⟨g,35,none⟩ (.int .i64 3));have H9:=I (show Blk V9 g 32 (prA k x ⟨G.aq.no,k9,3⟩) by rw[X];exact WV HQ.o 3);have aa:Chg (fun j=>j=g) V1 V9:=by rw[X,ak.o];exact YH _ _ _ _ _
 have m0:V9.cell? ⟨gm,0,none⟩=some (.int .i64 1):=by
  have:=(af.o _ _ _ (aa.blk HM.o al.o)).1;rw[h4] at this;exact this
 have ao:=I (HB.o.trans aa (fun _ _ x=>x));rw[<-X];clear X aa ax fz
 go_wp2_with fail
 go_end0
 exact⟨rfl,H9.o,ao.o⟩
end
theorem WZ (w:World):Calls Tryz.prog 12 #[] w fun e w'=>e=.returned (.bool true)/\Below w.heap.size w w':=by
 have CB:=I (Sb w);have L1:=I (fun(w1:World)=>RY w1);go_enter Tryz.func12,Tryz.ntmps12
 go_upto_region 4 with(first
  |(go_at_call 5;refine Calls.mono CB.o ?_;rintro e w1 ⟨g,x,p,m,rfl,hp,al,hc,hn,hg,au,Z⟩;clear CB;have Y:=I hc;have NG:=I hn;have ak:=I hg;have X:=I Z;clear hc hn hg Z)
  |fail)
 obtain⟨cg,ad⟩:=Aj (prA p.k x pq0);have M:=I (show Blk w1 g 32 cg by rw[ad];exact ak.o);have ae:=I (show cg[0]? = some (pv p.k) by rw[ad];rfl);have CC:=I (fun(w2:World) (m2:CM) (h:Cl w2 w.heap.size p m2 st0 0)=>Sc h hp al 1 (by decide));have ah:=I (fun(w2:World) (m2:CM) (h:Cl w2 w.heap.size p m2 (s1 0) 2)=>Uw h (sz1 hp) (by decide) 1 rfl);have CS:=I (fun(w2:World) (m2:CM) (h:Cl w2 w.heap.size p m2 (s1 0) (2+2))=>(show Calls Tryz.prog 11 #[pv p.k] w2 fun e w'=>e=.returned (.tuple #[.int .i64 1,.int .i64 0,.int .i64 1])/\Below w2.heap.size w2 w' from WM h));have ar:=WU 1 (by decide);obtain⟨b0,ao⟩:=Aj (lO (mgO (mAs (firQ annP st0 1))));rw[<-ao] at CC ar;clear ak hp al au ad ao;have O:Below w1.heap.size w1 w1.drew:=below_drewN Ag 1;replace Y:=I (Y.o.below O);replace X:=X.t O;replace M:=I (M.o.below O);clear O;refine Reg.AW (fun w'=>Blk w' g 32 cg) 13 rfl (by kernel_rfl) M.o ?_;refine Reg.ty 0 rfl M.o ?_;refine Reg.ty 1 rfl M.o ?_;refine Reg.ty 2 rfl M.o ?_;refine Reg.tw 3 (v:=pv p.k) rfl M.o (fun w' hS=>by have q0:=(hS.cell 0).trans ae.o;go_simp<;>rfl) ?_;refine Reg.b1 4 ?_
 right
 refine⟨_,_,_,_,_,_,7,#[],rfl,by rfl,(by go_simp<;>first | rfl | exact⟨rfl,rfl⟩),?_⟩;refine Ah (L1.o _) ?_;rintro aw Z;replace Y:=I (Y.o.below Z);replace X:=X.t Z;replace M:=I (M.o.below Z);clear Z;refine⟨_,rfl,M.o,?_⟩;simp only[Act.put,J,U,Aa];refine Reg.b1 5 ?_
 right
 refine⟨_,_,_,_,_,_,6,#[pv p.k,prV DP,.int .i64 1],rfl,by rfl,(by go_simp<;>first | rfl | exact⟨rfl,rfl⟩),?_⟩;refine Calls.mono (CC.o _ _ Y.o) ?_;rintro e an ⟨v1,m1,rfl,hs,hk⟩;have aa:=hk.blk M.o NG.o;replace NG:=I (hk.not NG.o M.o.lt);replace M:=I aa;clear aa;replace X:=I (Im X.o Y.o hk);replace Y:=I hk.cl;obtain⟨A1,c1,ab,_⟩:=hs;have ai:=I ab;clear ab;clear hk;clear CC;refine⟨_,rfl,M.o,?_⟩;simp only[Act.put,J,U,Aa];refine Reg.ty 6 rfl M.o ?_;refine Reg.ty 7 rfl M.o ?_;refine Reg.ty 8 rfl M.o ?_;refine Reg.ty 9 rfl M.o ?_;refine Reg.ty 10 rfl M.o ?_;refine Reg.ty 11 rfl M.o ?_;refine Reg.ty 12 rfl M.o ?_;refine wpAnyH_done (by kernel_rfl) ?_ _
 go_upto_region 5 with fail
 obtain⟨w5,aj⟩:=Aj (an);rw[<-aj] at Y M X⊢;clear aj;have O:Below w5.heap.size w5 w5.drew:=below_drewN Ag 1;replace Y:=I (Y.o.below O);replace X:=X.t O;replace M:=I (M.o.below O);clear O;refine Reg.AW (fun w'=>Blk w' g 32 cg) 13 rfl (by kernel_rfl) M.o ?_;refine Reg.ty 0 rfl M.o ?_;refine Reg.ty 1 rfl M.o ?_;refine Reg.ty 2 rfl M.o ?_;refine Reg.tw 3 (v:=pv p.k) rfl M.o (fun w' hS=>by have q0:=(hS.cell 0).trans ae.o;go_simp<;>rfl) ?_;refine Reg.b1 4 ?_
 right
 refine⟨_,_,_,_,_,_,7,#[],rfl,by rfl,(by go_simp<;>first | rfl | exact⟨rfl,rfl⟩),?_⟩;refine Ah (L1.o _) ?_;rintro av Z;replace Y:=I (Y.o.below Z);replace X:=X.t Z;replace M:=I (M.o.below Z);clear Z;refine⟨_,rfl,M.o,?_⟩;simp only[Act.put,J,U,Aa];refine Reg.b1 5 ?_
 right
 refine⟨_,_,_,_,_,_,6,#[pv p.k,prV DP,.int .i64 1],rfl,by rfl,(by go_simp<;>first | rfl | exact⟨rfl,rfl⟩),?_⟩;refine Calls.mono (ah.o _ _ Y.o) ?_;rintro e af ⟨v2,m2,rfl,_,hk⟩;have aa:=hk.blk M.o NG.o;replace NG:=I (hk.not NG.o M.o.lt);replace M:=I aa;clear aa;replace X:=I (Im X.o Y.o hk);replace Y:=I hk.cl;clear hk;clear ah;refine⟨_,rfl,M.o,?_⟩;simp only[Act.put,J,U,Aa];refine Reg.ty 6 rfl M.o ?_;refine Reg.ty 7 rfl M.o ?_;refine Reg.ty 8 rfl M.o ?_;refine Reg.ty 9 rfl M.o ?_;refine Reg.ty 10 rfl M.o ?_;refine Reg.ty 11 rfl M.o ?_;refine Reg.ty 12 rfl M.o ?_;refine wpAnyH_done (by kernel_rfl) ?_ _;have q0:af.cell? ⟨g,0,none⟩=some (pv p.k):=(M.o.cell 0).trans ae.o;have ab:=ai.o;subst ab;clear ai;obtain⟨nb,ag⟩:=Aj (b0.length);rw[<-ag] at ar⊢;have t1:decide ((0:Int)<(nb:Int))=true:=decide_eq_true (by omega);clear ag
 go_wp2_with (first
  |(go_at_call 11;refine Ah (CS.o _ _ Y.o) ?_;rintro w9 Z;clear CS q0;replace X:=X.t Z;clear Z)
  |fail)
 go_ret;exact⟨rfl,X.o⟩
open Nm (Iw)
open Ms (Re Rp rpC rpO EncR)
open SeL (Ce BX)
theorem YK:pSm annP:=⟨by decide,by decide⟩
abbrev acA (k wy:Int) (r x:L) (n:Int) (b:Value) (now:Int):Array Value:=#[.int .i64 k,.int .i64 wy,.string ⟨r.toArray⟩,.string ⟨x.toArray⟩,.int .i64 n,b,.int .i64 now]
theorem Sg (q:Pq) (s:Pr) (no:Int):Tryz.prog.built 104 [(0,.agg (AX (FI q.no.toNat))),(1,.agg #[.string ⟨s.1.toArray⟩,.string ⟨s.2.toArray⟩]),(2,.int .i64 0),(3,.int .i64 500),(4,.int .i64 no)]=some (rpC (repP q s no)).toArray:=by kernel_rfl
theorem Sh (q:Re) (b a:Value):Tryz.prog.built 61 [(0,.int .i64 3),(3,.agg (reA q b a))]=some (Mc.mgA 3 Mc.zA Mc.zT (reA q b a) Mc.zP Mc.zF):=by kernel_rfl
section
variable {w w' w0:World}
theorem Xa {q:Re} {A1 A2:Option Addr} {c1 c2:Nat} (hs:mSm (mRe q)) (r1:Rd w w.heap.size A1 (bvs q.t.b)) (r2:Rd w w.heap.size A2 (bvs q.b)):Calls Tryz.prog 29 #[.agg (Mc.mgA 3 Mc.zA Mc.zT (reA q (.slice A1 q.t.b.length c1) (.slice A2 q.b.length c2)) Mc.zP Mc.zF)] w (EncR w (mgO (mRe q))):=
 Ms.Nu (mRe q) none none A1 A2 none none 0 0 c1 c2 0 0 w hs (.inr rfl) rfl rfl (.inl rfl) (.inl rfl) r1 r2 (.inl rfl) (.inl rfl)
theorem ans_0 {g k x n:Nat} {q:Pq} {kd N now:Int} {r nx:L} {bv:Value} (h:Blk w g 32 (prA k x q)) (hq:q.no=(n:Int)) (hn:n<=1000000) (hr:r.length<=1000000) (hx:nx.length<=1000000) :
  Calls Tryz.prog 10 #[pv g,.agg (acA kd 0 r nx N bv now)] w fun e w'=>∃v,e=.returned v/\SlN (fun j=>j<w.heap.size) w' v (repL q (r,krb++nx) annP q.no)/\Below w.heap.size w w':=by
 obtain⟨W,eW⟩:=Aj (w.alloc (.cells (acA kd 0 r nx N bv now) 43));have X:Below w.heap.size w W:=eW▸Ag.alloc Af _;have M:=I (show Blk W w.heap.size 43 (acA kd 0 r nx N bv now) from eW▸Blk.new w _ _);have O:=I (h.below X);have HB:=I X;have C1:=I (fun(w1:World)=>Iw nx w1 (by omega));have L1:=I (fun(w1:World)=>RY w1);have L2:=I (fun(w1:World)=>WQ w1);have C2:=I (fun(w1:World)=>YB n (by omega) w1);have ay:pSm (r,krb++nx):=⟨Nat.le_trans hr (by decide),by show(krb++nx).length<=1000000000;rw[List.length_append,krb_7];omega⟩;have C3:=I (fun(w1:World)=>Ms.Mq (repP q (r,krb++nx) q.no) w1 (by simp [repP]) ay);have al:=I (Sg q (r,krb++nx) q.no);have aI:q.no.toNat=n:=by omega
 rw[aI] at al;have aO:(prA k x q)[2]? = some (.int .i64 (n:Int)):=by rw[<-hq];rfl
 have aF:=I (fun(w1:World) (hx:Blk w1 g 32 (prA k x q))=>(show w1.rangeAt g 3 (AX q.ks).toList from Wh.Dk (pre:=[pv k,pv x,.int .i64 q.no]) (post:=[.int .i64 q.u]) hx (by simp) 3 rfl));have ba:=I (show(Tryz.prog.info? 30).map (·.size)=some (AX q.ks).size by rw[AU];kernel_rfl);have av:=I (fun(w1:World) (hx:Blk w1 g 32 (prA k x q))=>YF hx);have aC:=I (fun(w1:World) (hx:Blk w1 g 32 (prA k x q))=>(hx.cell 2).trans aO);have C4:=I (fun(w1:World) (A:Option Addr) (l c:Nat) (hl:l=(lO (rpO (repP q (r,krb++nx) q.no))).length) (bl:Rd w1 w1.heap.size A (bvs (lO (rpO (repP q (r,krb++nx) q.no)))))=>SeL.QC q.ks q.u 55 A l c (lO (rpO (repP q (r,krb++nx) q.no))) w1 hl bl);have aW:mSm (mRe (repR q (r,krb++nx) annP q.no)):=⟨⟨Mc.BT,Mc.BT⟩,⟨Mc.BT,Mc.BT⟩,⟨YK,ay⟩,Mc.BT⟩;have C5:=I (fun(w1:World) (A1 A2:Option Addr) (c1 c2 l2:Nat) (hl:l2=(repR q (r,krb++nx) annP q.no).b.length) (r1:Rd w1 w1.heap.size A1 (bvs [1,2])) (r2:Rd w1 w1.heap.size A2 (bvs (repR q (r,krb++nx) annP q.no).b))=>(show Calls Tryz.prog 29 #[.agg (Mc.mgA 3 Mc.zA Mc.zT (reA (repR q (r,krb++nx) annP q.no) (.slice A1 2 c1) (.slice A2 l2 c2)) Mc.zP Mc.zF)] w1 (EncR w1 (mgO (mRe (repR q (r,krb++nx) annP q.no)))) by rw[hl];exact Xa aW r1 r2));have EL:=I (show repL q (r,krb++nx) annP q.no=lO (mgO (mRe (repR q (r,krb++nx) annP q.no))) from rfl);rw[EL.o];have EB:=I (show(repR q (r,krb++nx) annP q.no).b=(Ce q.ks q.u 55 (lO (rpO (repP q (r,krb++nx) q.no)))).1 from rfl);have aE:=I (fun(b a:Value)=>Sh (repR q (r,krb++nx) annP q.no) b a);have bb:=I (fun(b a:Value)=>(show reA (repR q (r,krb++nx) annP q.no) b a=#[.string ⟨annP.1.toArray⟩,.string ⟨annP.2.toArray⟩,.string ⟨(r,krb++nx).1.toArray⟩,.string ⟨(r,krb++nx).2.toArray⟩,.int .i64 1,b,a] from rfl));obtain⟨RR,aN⟩:=Aj (repR q (r,krb++nx) annP q.no);rw[<-aN] at C5 EB aE bb⊢;obtain⟨lb,aH⟩:=Aj (lO (rpO (repP q (r,krb++nx) q.no)));have aD:=I aH;rw[<-aH] at C4 EB;obtain⟨bf,aw⟩:=Aj (rpO (repP q (r,krb++nx) q.no));rw[<-aw] at C3 aD;obtain⟨cr,aX⟩:=Aj ((rpC (repP q (r,krb++nx) q.no)).toArray);rw[<-aX] at C3 al;rw[hq] at al;obtain⟨sb,aM⟩:=Aj (Ce q.ks q.u 55 lb);rw[<-aM] at C4 EB;obtain⟨cg,aL⟩:=Aj (prA k x q);rw[<-aL] at O aF av aC;obtain⟨cy,aT⟩:=Aj (AX q.ks);rw[<-aT] at aF ba C4;obtain⟨cz,aZ⟩:=Aj (AX (FI n));rw[<-aZ] at C2 al;clear h X hq hn hr hx ay aW aI aO aN aH aw aX aM aL aT aZ;go_enter Tryz.func10,Tryz.ntmps10
 go_upto_region 1 with fail
 rw[<-eW];clear eW;obtain⟨ga,aA⟩:=Aj (w.heap.size);have bE:=I aA;rw[<-aA] at M⊢;clear aA
 go_cut [5] from 16 to 21 (fun tv wx=>∃(PT:Nat),tv=.pointer (some ⟨PT,0,none⟩)/\Blk wx PT 35 #[.string ⟨(r,krb++nx).1.toArray⟩,.string ⟨(r,krb++nx).2.toArray⟩]/\Blk wx ga 43 (acA kd 0 r nx N bv now)/\Blk wx g 32 cg/\Below w.heap.size w wx)
 case first=>
  have Z:Below W.heap.size W W.drew:=below_drewN Ag 1;replace HB:=HB.t Z;replace M:=I (M.o.below Z);replace O:=I (O.o.below Z);clear Z;refine Reg.AW (fun w'=>Blk w' ga 43 (acA kd 0 r nx N bv now)/\Blk w' g 32 cg) 8 rfl (by kernel_rfl) ⟨M.o,O.o⟩ ?_;refine Reg.ty 0 rfl ⟨M.o,O.o⟩ ?_;refine Reg.tw 1 (v:=.string ⟨r.toArray⟩) rfl ⟨M.o,O.o⟩ (fun w' hS=>by obtain⟨hA,hG⟩:=hS;have q2:=hA.cell 2;go_simp<;>rfl) ?_;refine Reg.ty 2 rfl ⟨M.o,O.o⟩ ?_;refine Reg.tw 3 (v:=.string ⟨nx.toArray⟩) rfl ⟨M.o,O.o⟩ (fun w' hS=>by obtain⟨hA,hG⟩:=hS;have q3:=hA.cell 3;go_simp<;>rfl) ?_;refine Reg.b2 4 6 ?_ ?_
  ·right
   refine⟨_,_,_,_,_,_,28,#[.string ⟨nx.toArray⟩],rfl,by rfl,(by go_simp<;>first | rfl | exact⟨rfl,rfl⟩),?_⟩;refine Ah (C1.o _) ?_;rintro bC hw;subst hw;clear C1;refine⟨_,rfl,⟨M.o,O.o⟩,?_⟩;simp only[Act.put,J,U,Aa];refine Reg.tw 5 (v:=.agg #[.string ⟨(r,krb++nx).1.toArray⟩,.string ⟨(r,krb++nx).2.toArray⟩]) rfl ⟨M.o,O.o⟩ (fun w' hS=>by obtain⟨hA,hG⟩:=hS;go_simp<;>rfl) ?_;refine Reg.b1 6 ?_
   left
   have X:Below W.drew.heap.size W.drew (W.drew.alloc (.cells #[.string ⟨#[]⟩,.string ⟨#[]⟩] 35)):=Ag.alloc Af _;have ae:=Blk.new W.drew 35 #[.string ⟨#[]⟩,.string ⟨#[]⟩];have LT:=I HB.o.size;have ab:=I (Nat.ne_of_lt M.o.lt);have aa:=I (Nat.ne_of_lt O.o.lt);refine⟨_,_,_,_,_,_,.pointer (some ⟨W.drew.heap.size,0,none⟩),W.drew.alloc (.cells #[.string ⟨#[]⟩,.string ⟨#[]⟩] 35),rfl,by rfl,(by go_simp<;>rfl),⟨(M.o.below X),(O.o.below X)⟩,?_⟩;simp only[Act.put,J,U,Aa];obtain⟨bB,aj⟩:=Aj (W.drew.alloc (.cells #[.string ⟨#[]⟩,.string ⟨#[]⟩] 35));rw[<-aj] at X ae⊢;clear aj;replace HB:=HB.t X;replace M:=I (M.o.below X);replace O:=I (O.o.below X);have HT:=I ae;clear ae X;obtain⟨PT,ag⟩:=Aj (W.drew.heap.size);rw[<-ag] at HT LT ab aa⊢;clear ag;refine Reg.AP 7 rfl (by kernel_rfl) (by rfl) PT 35 _ #[.string ⟨(r,krb++nx).1.toArray⟩,.string ⟨(r,krb++nx).2.toArray⟩] HT.o (by rfl) (by rfl) (by rfl) Rg.AZ (by simp [Value.oneCell']) ?_;intro bD hV hg;replace HT:=I hV;replace HB:=I (btg HB.o hg LT.o);replace M:=I (M.o.grown hg (fun e=>by injection e with e;exact ab.o e.symm));replace O:=I (O.o.grown hg (fun e=>by injection e with e;exact aa.o e.symm));clear hV hg ab aa;refine⟨⟨M.o,O.o⟩,?_⟩;simp only[Act.put,J,U,Aa];refine wpAnyH_done (by kernel_rfl) ?_ _
   go_wp2_with fail
   go_meet
   exact⟨PT,rfl,HT.o,M.o,O.o,HB.o⟩
  ·left
   have X:Below W.drew.heap.size W.drew (W.drew.alloc (.cells #[.string ⟨#[]⟩,.string ⟨#[]⟩] 35)):=Ag.alloc Af _;have ae:=Blk.new W.drew 35 #[.string ⟨#[]⟩,.string ⟨#[]⟩];have LT:=I HB.o.size;have ab:=I (Nat.ne_of_lt M.o.lt);have aa:=I (Nat.ne_of_lt O.o.lt);refine⟨_,_,_,_,_,_,.pointer (some ⟨W.drew.heap.size,0,none⟩),W.drew.alloc (.cells #[.string ⟨#[]⟩,.string ⟨#[]⟩] 35),rfl,by rfl,(by go_simp<;>rfl),⟨(M.o.below X),(O.o.below X)⟩,?_⟩;simp only[Act.put,J,U,Aa];obtain⟨bw,ak⟩:=Aj (W.drew.alloc (.cells #[.string ⟨#[]⟩,.string ⟨#[]⟩] 35));rw[<-ak] at X ae⊢;clear ak;replace HB:=HB.t X;replace M:=I (M.o.below X);replace O:=I (O.o.below X);have HT:=I ae;clear ae X;obtain⟨PT,ag⟩:=Aj (W.drew.heap.size);rw[<-ag] at HT LT ab aa⊢;clear ag;refine Reg.b1 4 ?_
   right
   refine⟨_,_,_,_,_,_,28,#[.string ⟨nx.toArray⟩],rfl,by rfl,(by go_simp<;>first | rfl | exact⟨rfl,rfl⟩),?_⟩;refine Ah (C1.o _) ?_;rintro bo hw;subst hw;clear C1;refine⟨_,rfl,⟨M.o,O.o⟩,?_⟩;simp only[Act.put,J,U,Aa];refine Reg.tw 5 (v:=.agg #[.string ⟨(r,krb++nx).1.toArray⟩,.string ⟨(r,krb++nx).2.toArray⟩]) rfl ⟨M.o,O.o⟩ (fun w' hS=>by obtain⟨hA,hG⟩:=hS;go_simp<;>rfl) ?_;refine Reg.AP 7 rfl (by kernel_rfl) (by rfl) PT 35 _ #[.string ⟨(r,krb++nx).1.toArray⟩,.string ⟨(r,krb++nx).2.toArray⟩] HT.o (by rfl) (by rfl) (by rfl) Rg.AZ (by simp [Value.oneCell']) ?_;intro br hV hg;replace HT:=I hV;replace HB:=I (btg HB.o hg LT.o);replace M:=I (M.o.grown hg (fun e=>by injection e with e;exact ab.o e.symm));replace O:=I (O.o.grown hg (fun e=>by injection e with e;exact aa.o e.symm));clear hV hg ab aa;refine⟨⟨M.o,O.o⟩,?_⟩;simp only[Act.put,J,U,Aa];refine wpAnyH_done (by kernel_rfl) ?_ _
   go_wp2_with fail
   go_meet
   exact⟨PT,rfl,HT.o,M.o,O.o,HB.o⟩
 case rest=>
  obtain⟨PT,rfl,ht,ha,hg,X⟩:=hcut;have bg:=I ht;replace M:=I ha;replace O:=I hg;replace HB:=I X;clear ht ha hg X C1;have a1:=M.c1;have Y:=I bg.o;clear bg L1
  go_upto_region 9 with fail
  clear a1;obtain⟨gq,aU⟩:=Aj (PT);rw[<-aU] at Y⊢;clear aU
  go_cut [8,9] from 50 to 54 (fun nv wv wx=>∃(PT:Nat),nv=.int .i64 (n:Int)/\wv=.pointer (some ⟨PT,0,none⟩)/\Blk wx PT 35 #[.string ⟨annP.1.toArray⟩,.string ⟨annP.2.toArray⟩]/\Blk wx ga 43 (acA kd 0 r nx N bv now)/\Blk wx g 32 cg/\Blk wx gq 35 #[.string ⟨(r,krb++nx).1.toArray⟩,.string ⟨(r,krb++nx).2.toArray⟩]/\Below w.heap.size w wx)
  case first=>
   have Z:Below wc.heap.size wc wc.drew:=below_drewN Ag 1;replace HB:=HB.t Z;replace M:=I (M.o.below Z);replace O:=I (O.o.below Z);replace Y:=I (Y.o.below Z);clear Z;refine Reg.AW (fun w'=>Blk w' ga 43 (acA kd 0 r nx N bv now)/\Blk w' g 32 cg/\Blk w' gq 35 #[.string ⟨(r,krb++nx).1.toArray⟩,.string ⟨(r,krb++nx).2.toArray⟩]) 8 rfl (by kernel_rfl) ⟨M.o,O.o,Y.o⟩ ?_;refine Reg.ty 0 rfl ⟨M.o,O.o,Y.o⟩ ?_;refine Reg.ty 1 rfl ⟨M.o,O.o,Y.o⟩ ?_;refine Reg.ty 2 rfl ⟨M.o,O.o,Y.o⟩ ?_;refine Reg.tw 3 (v:=.int .i64 (n:Int)) rfl ⟨M.o,O.o,Y.o⟩ (fun w' hS=>by obtain⟨hA,hG,hQ⟩:=hS;have q2:=aC.o _ hG;go_simp<;>rfl) ?_;refine Reg.b2 4 5 ?_ ?_
   ·right
    refine⟨_,_,_,_,_,_,14,#[],rfl,by rfl,(by go_simp<;>first | rfl | exact⟨rfl,rfl⟩),?_⟩;refine Ah (L2.o _) ?_;rintro ad X;replace HB:=HB.t X;replace M:=I (M.o.below X);replace O:=I (O.o.below X);replace Y:=I (Y.o.below X);clear X;clear L2;refine⟨_,rfl,⟨M.o,O.o,Y.o⟩,?_⟩;simp only[Act.put,J,U,Aa];refine Reg.b1 5 ?_
    left
    have X:Below ad.heap.size ad (ad.alloc (.cells #[.string ⟨#[]⟩,.string ⟨#[]⟩] 35)):=Ag.alloc Af _;have ae:=Blk.new ad 35 #[.string ⟨#[]⟩,.string ⟨#[]⟩];have LT:=I HB.o.size;have ab:=I (Nat.ne_of_lt M.o.lt);have aa:=I (Nat.ne_of_lt O.o.lt);have af:=I (Nat.ne_of_lt Y.o.lt);refine⟨_,_,_,_,_,_,.pointer (some ⟨ad.heap.size,0,none⟩),ad.alloc (.cells #[.string ⟨#[]⟩,.string ⟨#[]⟩] 35),rfl,by rfl,(by go_simp<;>rfl),⟨(M.o.below X),(O.o.below X),(Y.o.below X)⟩,?_⟩;simp only[Act.put,J,U,Aa];obtain⟨bh,ah⟩:=Aj (ad.alloc (.cells #[.string ⟨#[]⟩,.string ⟨#[]⟩] 35));rw[<-ah] at X ae⊢;clear ah;replace HB:=HB.t X;replace M:=I (M.o.below X);replace O:=I (O.o.below X);replace Y:=I (Y.o.below X);have HT:=I ae;clear ae X;obtain⟨PT,ag⟩:=Aj (ad.heap.size);rw[<-ag] at HT LT ab aa af⊢;clear ag;refine Reg.ty 6 rfl ⟨M.o,O.o,Y.o⟩ ?_;refine Reg.AP 7 rfl (by kernel_rfl) (by rfl) PT 35 _ #[.string ⟨annP.1.toArray⟩,.string ⟨annP.2.toArray⟩] HT.o (by rfl) (by rfl) (by rfl) Rg.AZ (by simp [Value.oneCell']) ?_;intro bp hV hg;replace HT:=I hV;replace HB:=I (btg HB.o hg LT.o);replace M:=I (M.o.grown hg (fun e=>by injection e with e;exact ab.o e.symm));replace O:=I (O.o.grown hg (fun e=>by injection e with e;exact aa.o e.symm));replace Y:=I (Y.o.grown hg (fun e=>by injection e with e;exact af.o e.symm));clear hV hg ab aa af;refine⟨⟨M.o,O.o,Y.o⟩,?_⟩;simp only[Act.put,J,U,Aa];refine wpAnyH_done (by kernel_rfl) ?_ _
    go_wp2_with fail
    go_meet
    exact⟨PT,rfl,rfl,HT.o,M.o,O.o,Y.o,HB.o⟩
   ·left
    have X:Below wc.drew.heap.size wc.drew (wc.drew.alloc (.cells #[.string ⟨#[]⟩,.string ⟨#[]⟩] 35)):=Ag.alloc Af _;have ae:=Blk.new wc.drew 35 #[.string ⟨#[]⟩,.string ⟨#[]⟩];have LT:=I HB.o.size;have ab:=I (Nat.ne_of_lt M.o.lt);have aa:=I (Nat.ne_of_lt O.o.lt);have af:=I (Nat.ne_of_lt Y.o.lt);refine⟨_,_,_,_,_,_,.pointer (some ⟨wc.drew.heap.size,0,none⟩),wc.drew.alloc (.cells #[.string ⟨#[]⟩,.string ⟨#[]⟩] 35),rfl,by rfl,(by go_simp<;>rfl),⟨(M.o.below X),(O.o.below X),(Y.o.below X)⟩,?_⟩;simp only[Act.put,J,U,Aa];obtain⟨bj,ai⟩:=Aj (wc.drew.alloc (.cells #[.string ⟨#[]⟩,.string ⟨#[]⟩] 35));rw[<-ai] at X ae⊢;clear ai;replace HB:=HB.t X;replace M:=I (M.o.below X);replace O:=I (O.o.below X);replace Y:=I (Y.o.below X);have HT:=I ae;clear ae X;obtain⟨PT,ag⟩:=Aj (wc.drew.heap.size);rw[<-ag] at HT LT ab aa af⊢;clear ag;refine Reg.b1 4 ?_
    right
    refine⟨_,_,_,_,_,_,14,#[],rfl,by rfl,(by go_simp<;>first | rfl | exact⟨rfl,rfl⟩),?_⟩;refine Ah (L2.o _) ?_;rintro bA X;replace HB:=HB.t X;replace M:=I (M.o.below X);replace O:=I (O.o.below X);replace Y:=I (Y.o.below X);replace HT:=I (HT.o.below X);clear X;clear L2;refine⟨_,rfl,⟨M.o,O.o,Y.o⟩,?_⟩;simp only[Act.put,J,U,Aa];refine Reg.ty 6 rfl ⟨M.o,O.o,Y.o⟩ ?_;refine Reg.AP 7 rfl (by kernel_rfl) (by rfl) PT 35 _ #[.string ⟨annP.1.toArray⟩,.string ⟨annP.2.toArray⟩] HT.o (by rfl) (by rfl) (by rfl) Rg.AZ (by simp [Value.oneCell']) ?_;intro bs hV hg;replace HT:=I hV;replace HB:=I (btg HB.o hg LT.o);replace M:=I (M.o.grown hg (fun e=>by injection e with e;exact ab.o e.symm));replace O:=I (O.o.grown hg (fun e=>by injection e with e;exact aa.o e.symm));replace Y:=I (Y.o.grown hg (fun e=>by injection e with e;exact af.o e.symm));clear hV hg ab aa af;refine⟨⟨M.o,O.o,Y.o⟩,?_⟩;simp only[Act.put,J,U,Aa];refine wpAnyH_done (by kernel_rfl) ?_ _
    go_wp2_with fail
    go_meet
    exact⟨PT,rfl,rfl,HT.o,M.o,O.o,Y.o,HB.o⟩
  case rest=>
   obtain⟨PW,rfl,rfl,ht,ha,hg,hq,X⟩:=hcut;have HW:=I ht;replace M:=I ha;replace O:=I hg;replace Y:=I hq;replace HB:=I X;clear ht ha hg hq X;have a1:=M.c1
   go_upto_region 14 with fail
   clear a1;have Z:Below wc.heap.size wc wc.drew:=below_drewN Ag 1;replace HB:=HB.t Z;replace M:=I (M.o.below Z);replace O:=I (O.o.below Z);replace Y:=I (Y.o.below Z);replace HW:=I (HW.o.below Z);clear Z;refine Reg.AW (fun w'=>Blk w' ga 43 (acA kd 0 r nx N bv now)/\Blk w' g 32 cg/\Blk w' gq 35 #[.string ⟨(r,krb++nx).1.toArray⟩,.string ⟨(r,krb++nx).2.toArray⟩]/\Blk w' PW 35 #[.string ⟨annP.1.toArray⟩,.string ⟨annP.2.toArray⟩]) 14 rfl (by kernel_rfl) ⟨M.o,O.o,Y.o,HW.o⟩ ?_;refine Reg.ty 0 rfl ⟨M.o,O.o,Y.o,HW.o⟩ ?_;refine Reg.ty 1 rfl ⟨M.o,O.o,Y.o,HW.o⟩ ?_;refine Reg.ty 2 rfl ⟨M.o,O.o,Y.o,HW.o⟩ ?_;refine Reg.tw 3 (v:=.int .i64 (n:Int)) rfl ⟨M.o,O.o,Y.o,HW.o⟩ (fun w' hS=>by obtain⟨hA,hG,hQ,hW⟩:=hS;have q2:=aC.o _ hG;go_simp<;>rfl) ?_;refine Reg.tw 5 (v:=.agg #[.string ⟨(r,krb++nx).1.toArray⟩,.string ⟨(r,krb++nx).2.toArray⟩]) rfl ⟨M.o,O.o,Y.o,HW.o⟩ (fun w' hS=>by obtain⟨hA,hG,hQ,hW⟩:=hS;have q0:=hQ.cell 0;have q1:=hQ.cell 1;go_simp<;>rfl) ?_;refine Reg.ty 6 rfl ⟨M.o,O.o,Y.o,HW.o⟩ ?_;refine Reg.b1 4 ?_
   right
   refine⟨_,_,_,_,_,_,15,#[.int .i64 (n:Int)],rfl,by rfl,(by go_simp<;>first | rfl | exact⟨rfl,rfl⟩),?_⟩;refine Ah (C2.o _) ?_;rintro bz X;replace HB:=HB.t X;replace M:=I (M.o.below X);replace O:=I (O.o.below X);replace Y:=I (Y.o.below X);replace HW:=I (HW.o.below X);clear X;clear C2;refine⟨_,rfl,⟨M.o,O.o,Y.o,HW.o⟩,?_⟩;simp only[Act.put,J,U,Aa];refine Reg.tw 7 (v:=.agg cr) rfl ⟨M.o,O.o,Y.o,HW.o⟩ (fun w' hS=>by obtain⟨hA,hG,hQ,hW⟩:=hS;refine BP (t:=104) (by rfl) (by simp only[List.map_toArray,List.map_cons,List.map_nil];exact al.o)) ?_;refine Reg.b1 8 ?_
   right
   refine⟨_,_,_,_,_,_,30,#[.agg cr],rfl,by rfl,(by go_simp<;>first | rfl | exact⟨rfl,rfl⟩),?_⟩;refine Calls.mono (C3.o _) ?_;rintro e ax he;obtain⟨v1,rfl,bq,X⟩:=Ny he;clear he;replace HB:=HB.t X;replace M:=I (M.o.below X);replace O:=I (O.o.below X);replace Y:=I (Y.o.below X);replace HW:=I (HW.o.below X);have S1:=I bq;clear X;clear C3;refine⟨_,rfl,⟨M.o,O.o,Y.o,HW.o⟩,?_⟩;simp only[Act.put,J,U,Aa];refine Reg.ty 9 rfl ⟨M.o,O.o,Y.o,HW.o⟩ ?_;refine Reg.ty 10 rfl ⟨M.o,O.o,Y.o,HW.o⟩ ?_;refine Reg.ty 11 rfl ⟨M.o,O.o,Y.o,HW.o⟩ ?_;refine Reg.ty 12 rfl ⟨M.o,O.o,Y.o,HW.o⟩ ?_;refine Reg.ty 13 rfl ⟨M.o,O.o,Y.o,HW.o⟩ ?_;refine wpAnyH_done (by kernel_rfl) ?_ _;obtain⟨W5,aY⟩:=Aj (ax);rw[<-aY] at M O Y HW HB S1⊢;clear aY;obtain⟨A1,c1,bm,bu,aK⟩:=S1.o;subst bm;have c4:=fun(w1:World) (X:Below W5.heap.size W5 w1)=>C4.o w1 A1 (lO bf).length c1 (by rw[aD.o]) (by rw[aD.o];exact(aK.rd.below X).more X.size)
   have az:=I c4;obtain⟨l1,aV⟩:=Aj ((lO bf).length);rw[<-aV] at az⊢;clear S1 bu aK c4 C4 aV
   go_upto_region 15 with fail
   have Z:Below W5.heap.size W5 W5.drew:=below_drewN Ag 1;replace HB:=HB.t Z;replace M:=I (M.o.below Z);replace O:=I (O.o.below Z);replace Y:=I (Y.o.below Z);replace HW:=I (HW.o.below Z);clear Z;refine Reg.AW (fun w'=>Blk w' ga 43 (acA kd 0 r nx N bv now)/\Blk w' g 32 cg/\Blk w' gq 35 #[.string ⟨(r,krb++nx).1.toArray⟩,.string ⟨(r,krb++nx).2.toArray⟩]/\Blk w' PW 35 #[.string ⟨annP.1.toArray⟩,.string ⟨annP.2.toArray⟩]) 15 rfl (by kernel_rfl) ⟨M.o,O.o,Y.o,HW.o⟩ ?_;refine Reg.ty 0 rfl ⟨M.o,O.o,Y.o,HW.o⟩ ?_;refine Reg.ty 1 rfl ⟨M.o,O.o,Y.o,HW.o⟩ ?_;refine Reg.ty 2 rfl ⟨M.o,O.o,Y.o,HW.o⟩ ?_;refine Reg.tw 3 (v:=.agg cy) rfl ⟨M.o,O.o,Y.o,HW.o⟩ (fun w' hS=>by obtain⟨hA,hG,hQ,hW⟩:=hS;exact IZ (.tmp 79) rfl rfl (aF.o _ hG) Tryz.underlying30 (by rfl) ba.o) ?_;refine Reg.ty 4 rfl ⟨M.o,O.o,Y.o,HW.o⟩ ?_;refine Reg.ty 5 rfl ⟨M.o,O.o,Y.o,HW.o⟩ ?_;refine Reg.ty 6 rfl ⟨M.o,O.o,Y.o,HW.o⟩ ?_;refine Reg.tw 7 (v:=.int .i64 q.u) rfl ⟨M.o,O.o,Y.o,HW.o⟩ (fun w' hS=>by obtain⟨hA,hG,hQ,hW⟩:=hS;have bF:=av.o _ hG;go_simp<;>rfl) ?_;refine Reg.ty 8 rfl ⟨M.o,O.o,Y.o,HW.o⟩ ?_;refine Reg.b1 9 ?_
   right
   refine⟨_,_,_,_,_,_,31,#[.agg cy,.int .i64 q.u,.int .i64 55,.slice A1 l1 c1],rfl,by rfl,(by go_simp<;>first | rfl | exact⟨rfl,rfl⟩),?_⟩;refine Calls.mono (az.o _ (below_drewN Ag 1)) ?_;rintro e aG ⟨A2,c2,rfl,aJ,X⟩;replace HB:=HB.t X;replace M:=I (M.o.below X);replace O:=I (O.o.below X);replace Y:=I (Y.o.below X);replace HW:=I (HW.o.below X);have S2:=I aJ.rd;clear aJ;clear X;clear az;refine⟨_,rfl,⟨M.o,O.o,Y.o,HW.o⟩,?_⟩;simp only[Act.put,J,U,Aa];refine Reg.ty 10 rfl ⟨M.o,O.o,Y.o,HW.o⟩ ?_;refine Reg.ty 11 rfl ⟨M.o,O.o,Y.o,HW.o⟩ ?_;refine Reg.ty 12 rfl ⟨M.o,O.o,Y.o,HW.o⟩ ?_;refine Reg.ty 13 rfl ⟨M.o,O.o,Y.o,HW.o⟩ ?_;refine Reg.ty 14 rfl ⟨M.o,O.o,Y.o,HW.o⟩ ?_;refine wpAnyH_done (by kernel_rfl) ?_ _;obtain⟨W6,bd⟩:=Aj (aG);rw[<-bd] at M O Y HW HB S2⊢;clear bd;obtain⟨l2,aB⟩:=Aj (sb.1.length);have bn:=I aB;rw[<-aB] at⊢;clear aB;have a1:=M.c1
   go_upto_region 18 with fail
   clear a1;have b0:=HW.c0;have b1:=HW.c1;have b2:=Y.c0;have b3:=Y.c1;obtain⟨W7,ar⟩:=Aj (W6.alloc (.cells #[.int .u8 1,.int .u8 2] 5));have au:Below W6.heap.size W6 W7:=ar▸Ag.alloc Af _;have H7:=I (show Rd W7 W7.heap.size (some ⟨W6.heap.size,0,none⟩) (bvs [1,2]) by
    have aP:Blk W7 W6.heap.size 5 #[.int .u8 1,.int .u8 2]:=ar▸Blk.new W6 _ _;refine .inr ⟨_,0,rfl,aP.lt,fun i u hu=>?_⟩;rw[aP.cell];rcases i with _ | _ | i
    ·exact hu
    ·exact hu
    ·simp [bvs] at hu)
   have c5:=C5.o W7 (some ⟨W6.heap.size,0,none⟩) A2 2 c2 l2 (by rw[EB.o,bn.o]) H7.o (by rw[EB.o];exact(S2.o.below au).more au.size);have an:=aE.o (.slice (some ⟨W6.heap.size,0,none⟩) 2 2) (.slice A2 l2 c2);rw[bb.o] at c5 an;obtain⟨cm,aS⟩:=Aj (Mc.mgA 3 Mc.zA Mc.zT #[.string ⟨annP.1.toArray⟩,.string ⟨annP.2.toArray⟩,.string ⟨(r,krb++nx).1.toArray⟩,.string ⟨(r,krb++nx).2.toArray⟩,.int .i64 1,.slice (some ⟨W6.heap.size,0,none⟩) 2 2,.slice A2 l2 c2] Mc.zP Mc.zF);rw[<-aS] at c5 an;have aR:=I an;have bx:=I ar;have ao:=HB.t au;clear aS an aE C5 ar au
   go_wp2_with (first
    |(refine Mc.Ay (by rfl) 61 #[(0,.const (.int .i64 3)),(3,.tmp 114)] (by rfl) cm (by simp only[List.map_toArray,List.map_cons,List.map_nil];exact aR.o) ?_)
    |(rw[<-bx.o];go_at_call 29;refine Calls.mono c5 ?_;rintro e w9 he;obtain⟨v9,rfl,aQ,X⟩:=Ny he;clear c5 he b0 b1 b2 b3;have HV:=I (aQ.mono (S':=fun j=>j<w.heap.size) (fun j _ x=>by have:=ao.o.size;omega));replace ao:=ao.t X;clear X aQ)
    |fail)
   go_ret;exact⟨v9,rfl,HV.o,ao.o⟩
end
end Cl
namespace Cl
open Go.RowKit Ae Se
open Nm (L krb tgL tgR)
open Ms (Pr tmB pSm mSm mgO mgD mgB mgE An Mg As Tg Re Rp Tk asB tgB reB tkB prB Bv)
open Ca (Cr It putL putE)
def pq1:Pq:=⟨1,k9,3⟩
theorem Ux {g:Mg}:(lO (mgO g)).length<=2000:=by
 cases e:mgO g with
 |none=>exact Nat.zero_le _
 |some b=>exact(Ms.Br.1 e).2.2▸(Ms.Br.1 e).2.1
theorem Sj (now:Int):goL mC annP (s1 0) (gotX pq1 (own annP)) now=furL annP (putS mC (s1 0) (gotX pq1 (own annP)) now) [65] (gotX pq1 (own annP)) now:=by
 have M:refL annP (s1 0) (own annP)=([65],0):=by decide
 unfold goL;rw[if_pos (show mC.err (s1 0).l (gotX pq1 (own annP)).s now=0 from rfl),if_neg (show ¬(gotX pq1 (own annP)).s=(s1 0).tg by decide),show(gotX pq1 (own annP)).s=own annP from rfl,M]
 rfl
def x1:Cr:=gotX pq1 (own annP)
def s2 (now:Int):St:=furS (putS mC (s1 0) x1 now) [65] x1
theorem tk_x1:tkB (tkOf x1)=true:=by decide
theorem Xb (now:Int) (M:tmB now=true):tgB (furQ annP (putS mC (s1 0) x1 now) x1 now)=true:=Yx Hp tk_x1 Up M (show 1<1000000 by decide) (show 0<1000000 by decide)
end Cl
namespace Cl
open Go.RowKit Ae Se
open Nm (L krb tgL tgR)
open Ms (Pr tmB pSm mSm mgO mgD mgB mgE An Mg As Tg Re Rp Tk prB)
open Rg (prV)
open Ca (Cr It putL putE)
theorem Uy {w:World} {now:Int} (M:tmB now=true) {g k x:Nat} {q:Pq} {v:Value} {S:Nat->Prop} (h:Blk w g 32 (prA k x q)) (X:SlN S w v (lO (mgO (mAs (firQ annP st0 now))))):Calls Tryz.prog 8 #[pv g,v] w (SenP w g k x pq1):=by
 have O:=RV (s:=st0) Hp Kr M (by decide);have hm:=RU O;exact YJ (G:=mAs (firQ annP st0 now)) h (Nat.le_trans Ux (by decide)) X (by rw[hm.1];exact hm.2) rfl
theorem YL {w:World} {B:Nat} {p:CP} {m:CM} {b:L} {v:Value} {now:Int} (h:Cl w B p m (s1 0) 2) (M:p.P=annP) (O:b.length<=100000) (X:SlN (AO p m) w v b):Calls Tryz.prog 9 #[pv p.k,v,.int .i64 now] w (StP w B p m 6 (takL mC annP (s1 0) b now)):=by
 have:=WN (now:=now) h (fun _=>by decide) (sz1 M) (by decide) O X;rw[M] at this;exact this
theorem YM {v:Pr} {now:Int} (M:tmB now=true) (O:prB v=true):takL mC annP (s1 0) (repL pq1 v annP 1) now=goL mC annP (s1 0) (gotX pq1 v) now:=RX (q:=pq1) rfl M rfl rfl rfl Hp O (by decide) (by decide) (by decide)
end Cl
namespace Cl
open Go.RowKit Ae Se
open Nm (L krb tgL tgR)
open Ms (Pr tmB pSm mSm mgO mgD mgB mgE An Mg As Tg Re Rp Tk prB tgC)
open Rg (prV)
open SeL (BX Ce LW Gj)
theorem GR {w:World} {g o:Nat} {pre mid post:List Value} (h:w.rangeAt g o (pre++(mid++post))):w.rangeAt g (o+pre.length) mid:=fun j v M=>by
 have O:j<mid.length:=(List.getElem?_eq_some_iff.1 M).1;have:=h (pre.length+j) v (by rw[List.getElem?_append_right (by omega),Nat.add_sub_cancel_left,List.getElem?_append_left O];exact M)
 rwa [<-Nat.add_assoc] at this
theorem de_as {w:World} {v:Value} {q:As} {S:Nat->Prop} (ha:Ms.asB q=true) (hv:SlN S w v (lO (mgO (mAs q)))):Calls Tryz.prog 13 #[v] w fun e w'=>∃ds,e=.returned (.tuple #[.agg ds,.int .i64 0])/\(ds.size=30/\ds.all (·.oneCell')=true/\(Tryz.prog.info? 61).map (·.size)=some ds.size)/\
  (∀(X:World) (M:Nat) (t:TypeId),Blk X M t ds->X.cell? ⟨M,0,none⟩=some (.int .i64 1)/\X.rangeAt M 1 [.string ⟨q.c.1.toArray⟩,.string ⟨q.c.2.toArray⟩]/\X.rangeAt M 3 [.string ⟨q.s.1.toArray⟩,.string ⟨q.s.2.toArray⟩]/\X.cell? ⟨M,3,none⟩=some (.string ⟨q.s.1.toArray⟩)/\X.cell? ⟨M,5,none⟩=some (.int .i64 q.t))/\Below w.heap.size w w':=by
 have hm:=RU ha;have Z:mgD (lO (mgO (mAs q)))=some (mAs q):=by rw[hm.1];exact hm.2
 have hi:Mc.mgI (lO (mgO (mAs q)))=0:=by unfold Mc.mgI;rw[Z];rfl
 have hg:Mc.mgG (lO (mgO (mAs q)))=mAs q:=by unfold Mc.mgG;rw[Z];rfl
 have h:=Sf hv (Nat.le_trans Ux (by decide)) Z rfl;unfold RdQ at h;rw[hi,hg] at h;refine h.mono ?_;rintro e w' ⟨ds,rfl,hs,Y,_,hb⟩;refine⟨ds,rfl,hs,fun X M t hx=>?_,hb⟩;obtain⟨h1,h2,_⟩:=Y X M t hx;have O:X.rangeAt M 1 [.string ⟨q.c.1.toArray⟩,.string ⟨q.c.2.toArray⟩,.string ⟨q.s.1.toArray⟩,.string ⟨q.s.2.toArray⟩,.int .i64 q.t,.int .i64 q.no]:=h2;exact⟨h1,GR (pre:=[]) (mid:=[_,_]) (post:=[_,_,_,_]) O,GR (pre:=[_,_]) (mid:=[_,_]) (post:=[_,_]) O,O 2 _ rfl,O 4 _ rfl⟩
theorem de_tg {w:World} {v:Value} {q:Tg} {S:Nat->Prop} (Z:Ms.tgB q=true) (hv:SlN S w v (lO (mgO (mTg q)))):Calls Tryz.prog 13 #[v] w fun e w'=>∃ds bv Y,e=.returned (.tuple #[.agg ds,.int .i64 0])/\(ds.size=30/\ds.all (·.oneCell')=true/\(Tryz.prog.info? 61).map (·.size)=some ds.size)/\
  (∀(X:World) (O:Nat) (t:TypeId),Blk X O t ds->X.cell? ⟨O,0,none⟩=some (.int .i64 2)/\X.rangeAt O 7 [.string ⟨q.t.s.1.toArray⟩,.string ⟨q.t.s.2.toArray⟩]/\X.rangeAt O 12 [.string ⟨q.s.1.toArray⟩,.string ⟨q.s.2.toArray⟩]/\X.cell? ⟨O,10,none⟩=some bv/\X.cell? ⟨O,11,none⟩=some Y)/\
  SlN (fun _=>False) w' bv q.t.b/\SlN (fun _=>False) w' Y q.a/\Below w.heap.size w w':=by
 have hm:=Yw Z;have h3:mgD (lO (mgO (mTg q)))=some (mTg q):=by rw[hm.1];exact hm.2
 have hi:Mc.mgI (lO (mgO (mTg q)))=0:=by unfold Mc.mgI;rw[h3];rfl
 have hg:Mc.mgG (lO (mgO (mTg q)))=mTg q:=by unfold Mc.mgG;rw[h3];rfl
 have h:=WY hv (Nat.le_trans Ux (by decide)) h3 rfl;unfold RdQ at h;rw[hi,hg] at h;refine h.mono ?_;rintro e w' ⟨ds,rfl,hs,_,hm,hb⟩;obtain⟨pa,pt,pr,pp,pf,h1,h2⟩:=hm;obtain⟨bv,Y,h7,s1,s2⟩:=h2.t;have hz:=hb.size;have sl:∀{v:Value} {l:L},Ms.SlB w' w.heap.size v l->SlN (fun _=>False) w' v l:=fun h=>by
  obtain⟨A,c,rfl,hc,hr⟩:=h;exact SlN.of_rd hr hc hz (fun _ x=>x.elim)
 refine⟨ds,bv,Y,rfl,hs,fun X O t hx=>?_,sl s1,sl s2,hb⟩;rw[h1] at hx;have Z:=h2.at_ hx;have ht:=Z.t;rw[h7] at ht;have M:X.rangeAt O 7 [.string ⟨q.t.s.1.toArray⟩,.string ⟨q.t.s.2.toArray⟩,.int .i64 q.t.k,bv,Y,.string ⟨q.s.1.toArray⟩,.string ⟨q.s.2.toArray⟩,.int .i64 q.u,.int .i64 q.no]:=ht;exact⟨Z.k,GR (pre:=[]) (mid:=[_,_]) (post:=[_,_,_,_,_,_,_]) M,GR (pre:=[_,_,_,_,_]) (mid:=[_,_]) (post:=[_,_]) M,M 3 _ rfl,M 4 _ rfl⟩
theorem Uz {ks:Nat->UInt8} {u:Nat} {x y:L} {v:Value} {w:World} {S:Nat->Prop} (hu:u<=255) (ex:BX ks (u:Int) y=(x,0)) (Y:SlN S w v y) :
  Calls Tryz.prog 16 #[.agg (AX ks),.int .i64 (u:Int),v] w fun e w'=>∃v2,e=.returned (.tuple #[v2,.int .i64 0])/\SlN (fun _=>False) w' v2 x/\Below w.heap.size w w':=by
 obtain⟨A,c,rfl,Z,hr⟩:=Y.sl;cases hi:isL ks u y with
 |true=>
  have e:BX ks (u:Int) y=(mixL ks u (n8 y) (midL y),0):=by rw[BX,if_pos (by omega)];show(if isL ks u y=true then _ else _)=_;rw[if_pos hi];rfl
  have M:=LW hi;have X:(mixL ks u (n8 y) (midL y)).length=y.length - 16:=by rw[Bs,Gj y M.1]
  rw[e] at ex;have e3:mixL ks u (n8 y) (midL y)=x:=(Prod.mk.inj ex).1;refine(LV ks u A y.length c y w (by omega) rfl Z hr M.1 M.2.1 M.2.2.1).mono ?_;rintro e w' ⟨O,h2⟩;rw[if_pos M.2.2.2] at O;obtain⟨A2,c2,rfl,h3,h4,h5⟩:=O;subst e3;exact⟨.slice A2 (y.length - 16) c2,rfl,by rw[<-X];exact SlN.of_rd h5 (by rw[X];exact h3) Af (fun _ x=>x.elim),h2⟩
 |false=>
  exfalso
  have e:BX ks (u:Int) y=([],3):=by rw[BX,if_pos (by omega)];show(if isL ks u y=true then _ else _)=_;rw[hi];rfl
  rw[e] at ex;simp at ex
theorem YN {w:World} {v:Value} {S:Nat->Prop} {a:An} (O:Ms.anB a=true) (Z:SlN S w v (Ms.anE a)) :
  Calls Tryz.prog 17 #[v] w fun e w'=>e=.returned (.tuple #[.agg #[.string ⟨a.c.1.toArray⟩,.string ⟨a.c.2.toArray⟩,.int .i64 a.t,.int .i64 a.q],.int .i64 0])/\Below w.heap.size w w':=by
 obtain⟨A,c,rfl,Y,X⟩:=Z.sl;have M:=Ms.Kl (Ms.anE a) A c w X Y (by have:=Kd.Kq O;omega);have h:=Kd.WA O;rw[show Ms.anG (Ms.anE a)=a by rw[Ms.anG,h];rfl,show Ms.anI (Ms.anE a)=0 by simp [Ms.anI,h]] at M;exact M
theorem UA {ks:Nat->UInt8} {u:Int} {N:Nat} {a:An} (O:Ms.anB a=true) (hu:0<=u) (M:u<=255) (X:N<=1000000):BX ks u (seaL ks u N a)=(Ms.anE a,0):=by
 unfold seaL;rw[Kd.MA O];exact Kd.GH (by have:=Kd.Kq O;show(Ms.anE a).length<=784;omega) (by omega) (by omega) hu M
theorem Xc {S:Nat->Prop} {w:World} {v:Value} {l:L} (h:SlN S w v l):(convert 24 9 v).run Tryz.prog w=.ok (.string ⟨l.toArray⟩) w:=by
 obtain⟨A,c,rfl,O,M⟩:=h.sl;exact AJ w 24 5 Tryz.underlying24 Tryz.underlying5 M _ c rfl 9 Tryz.underlying9
theorem Sk {P:Program} {w:World} {a:Act} {o:Oper} {src dst:TypeId} {v u:Value} (x:Operand) (M:o.op=.convert src dst x) (O:a.eval x=v) (h:(convert src dst v).run P w=.ok u w):(execOp a.eval o).run P w=.ok (.value u) w:=by
 unfold execOp;simp only[M,O,Sem.run_bind,Sem.run_pure,Result.andThen_ok,h]
end Cl
namespace Cl
open Go.RowKit Ae Se
open Nm (L krb tgL tgR)
open Ms (Pr tmB pSm mSm mgO mgD mgB mgE An Mg As Tg Re Rp Tk prB)
open Rg (prV AZ Bb)
open Ca (Cr It putL putE)
abbrev rqA (now:Int):Array Value:=#[.string ⟨annP.1.toArray⟩,.string ⟨annP.2.toArray⟩,.int .i64 now,.int .i64 0]
theorem Sl:Tryz.prog.built 43 [(2,.string ⟨#[65]⟩),(3,.string ⟨#[65]⟩)]=some (acA 0 0 [65] [65] 0 (.slice none 0 0) 0):=by kernel_rfl
theorem UB (now:Int):Tryz.prog.built 68 [(0,.agg #[.string ⟨annP.1.toArray⟩,.string ⟨annP.2.toArray⟩]),(1,.int .i64 now)]=some (rqA now):=by kernel_rfl
theorem YO (now:Int) (w:World):(Op.equalIn 10000 68 (.agg (rqA now)) (.agg (rqA now))).run Tryz.prog w=.ok true w:=by
 go_simp
theorem DB {P:Program} {w':World} {a:Act} {o:Oper} {g off:Nat} {ty:TypeId} {cs:Array Value} {d:TypeDesc} (x:Operand) (M:o.op=.load ty x) (X:a.eval x=.pointer (some ⟨g,off,none⟩)) (h:w'.rangeAt g off cs.toList) (hu:P.underlying ty=some d) (O:d.isRow=true) (Y:(P.info? ty).map (·.size)=some cs.size) :
  (execOp a.eval o).run P w'=.ok (.value (.agg cs)) w':=by
 have:=run_loadVar_mid (P:=P) w' g off ty cs.toList d h hu O (by simpa using Y);simp only[Array.toArray_toList] at this;unfold execOp;simp only[M,X,Instr.loadAt,Instr.sureAddr,Sem.run_bind,Sem.run_pure,Result.andThen_ok,this]
theorem UC:(Tryz.prog.info? 68).map (·.size)=some 4:=by kernel_rfl
theorem Lt (a0:Int) (w:World):Calls Tryz.prog 4 #[.int .i64 a0] w fun e w'=>e=.returned (.bool true)/\Below w.heap.size w w':=by
  by_cases g0:a0<0
  · have t0 : decide (a0 < 0) = true := decide_eq_true g0
    go_enter Tryz.func4,Tryz.ntmps4
    go_wp2
    go_ret;exact⟨rfl,Below.refl _ _⟩
  · have t0 : decide (a0 < 0) = false := decide_eq_false g0
    by_cases g1:400<a0
    · have t1 : decide (400 < a0) = true := decide_eq_true g1
      go_enter Tryz.func4,Tryz.ntmps4
      go_wp2
      go_ret;exact⟨rfl,Below.refl _ _⟩
    · have t1 : decide (400 < a0) = false := decide_eq_false g1
      have ht:tmB a0=true:=by unfold tmB Ms.inB;simp only[Bool.and_eq_true,decide_eq_true_eq];omega
      have aZ:Gk a0=a0+1000:=by unfold Gk;omega
      have bo:IntKind.i64.wrap (a0+1000)=a0+1000:=by rw[IntKind.wrap_i64];omega
      have CB:=I (Sb w);have L1:=I (fun(w1:World)=>RY w1);have LA:=I (fun(w1:World)=>WQ w1);have KN:=I (fun(w1:World)=>WZ w1);have LS:=I (fun(w1:World)=>YB 1 (by decide) w1);have CC:=I (fun(w2:World) (B:Nat) (p:CP) (m2:CM) (h:Cl w2 B p m2 st0 0) (hp:p.P=annP) (ax:p.ks=k9)=>Sc h hp ax a0 ht);have CS:=I (fun(w2:World) (g k x:Nat) (v:Value) (S:Nat->Prop) (h:Blk w2 g 32 (prA k x pq0)) (hv:SlN S w2 v (lO (mgO (mAs (firQ annP st0 a0)))))=>Uy ht h hv);have CD:=I (fun(w2:World) (S:Nat->Prop) (v:Value) (hv:SlN S w2 v (lO (mgO (mAs (firQ annP st0 a0)))))=>de_as (RV (s:=st0) Hp Kr ht (by decide)) hv);have CA:=I (fun(w2:World) (g k x:Nat) (h:Blk w2 g 32 (prA k x pq1))=>ans_0 (r:=[65]) (nx:=[65]) (kd:=0) (N:=0) (now:=0) (bv:=.slice none 0 0) h (n:=1) rfl (by decide) (by decide) (by decide));have hle:(repL pq1 (own annP) annP pq1.no).length<=100000:=Nat.le_trans Ux (by decide);have hT:takL mC annP (s1 0) (repL pq1 (own annP) annP pq1.no) a0=(furL annP (putS mC (s1 0) (gotX pq1 (own annP)) a0) [65] (gotX pq1 (own annP)) a0):=(YM ht Kr).trans (Sj a0);have CT:=I (fun(w2:World) (B:Nat) (p:CP) (m2:CM) (v:Value) (h:Cl w2 B p m2 (s1 0) 2) (hp:p.P=annP) (hv:SlN (AO p m2) w2 v (repL pq1 (own annP) annP pq1.no))=>YL (now:=a0) h hp hle hv);rw[hT] at CT;have CE:=I (fun(w2:World) (S:Nat->Prop) (v:Value) (hv:SlN S w2 v (lO (mgO (mTg (furQ annP (putS mC (s1 0) (gotX pq1 (own annP)) a0) (gotX pq1 (own annP)) a0)))))=>de_tg (Xb a0 ht) hv);have aC:Ms.anB ⟨annP,a0,0⟩=true:=by
        unfold Ms.anB;rw[Hp,ht]
        rfl
      have CO:=I (fun(w2:World) (S:Nat->Prop) (v:Value) (hv:SlN S w2 v (seaL (FI 1) 7 1 ⟨annP,a0,0⟩))=>Uz (u:=7) (by decide) (UA aC (by decide) (by decide) (by decide)) hv);have CN:=I (fun(w2:World) (S:Nat->Prop) (v:Value) (hv:SlN S w2 v (Ms.anE ⟨annP,a0,0⟩))=>YN aC hv);obtain⟨sR,aQ⟩:=Aj ((furL annP (putS mC (s1 0) (gotX pq1 (own annP)) a0) [65] (gotX pq1 (own annP)) a0).1);obtain⟨b5,az⟩:=Aj (lO (mgO (mTg (furQ annP (putS mC (s1 0) (gotX pq1 (own annP)) a0) (gotX pq1 (own annP)) a0))));rw[show(furL annP (putS mC (s1 0) (gotX pq1 (own annP)) a0) [65] (gotX pq1 (own annP)) a0)=(sR,([65],b5)) by rw[aQ,az];rfl] at CT;rw[<-az] at CE;have CE := I (fun (w2 : World) (S : Nat -> Prop) (v : Value) (hv : SlN S w2 v b5) => (show Calls Tryz.prog 13 #[v] w2 fun e w' => ∃ ds bv av, e=.returned (.tuple #[.agg ds, .int .i64 0]) /\ (ds.size = 30 /\ ds.all (·.oneCell') = true /\ (Tryz.prog.info? 61).map (·.size) = some ds.size) /\
          (∀(w1:World) (gb:Nat) (t:TypeId),Blk w1 gb t ds->w1.cell? ⟨gb,0,none⟩=some (.int .i64 2)/\w1.rangeAt gb 7 [.string ⟨(own annP).1.toArray⟩,.string ⟨(own annP).2.toArray⟩]/\w1.rangeAt gb 12 [.string ⟨DP.1.toArray⟩,.string ⟨DP.2.toArray⟩]/\w1.cell? ⟨gb,10,none⟩=some bv/\w1.cell? ⟨gb,11,none⟩=some av)/\
          SlN (fun _=>False) w' bv [1,2]/\SlN (fun _=>False) w' av (seaL (FI 1) 7 1 ⟨annP,a0,0⟩)/\Below w2.heap.size w2 w' from CE.o w2 S v hv))
      have CD := I (fun (w2 : World) (S : Nat -> Prop) (v : Value) (hv : SlN S w2 v (lO (mgO (mAs (firQ annP st0 a0))))) => (show Calls Tryz.prog 13 #[v] w2 fun e w' => ∃ ds, e=.returned (.tuple #[.agg ds, .int .i64 0]) /\ (ds.size = 30 /\ ds.all (·.oneCell') = true /\ (Tryz.prog.info? 61).map (·.size) = some ds.size) /\
          (∀(w1:World) (gb:Nat) (t:TypeId),Blk w1 gb t ds->w1.cell? ⟨gb,0,none⟩=some (.int .i64 1)/\w1.rangeAt gb 1 [.string ⟨annP.1.toArray⟩,.string ⟨annP.2.toArray⟩]/\w1.rangeAt gb 3 [.string ⟨(own annP).1.toArray⟩,.string ⟨(own annP).2.toArray⟩]/\w1.cell? ⟨gb,3,none⟩=some (.string ⟨#[65]⟩)/\w1.cell? ⟨gb,5,none⟩=some (.int .i64 (a0+1000)))/\Below w2.heap.size w2 w' from(by have h:=CD.o w2 S v hv;rw[show(firQ annP st0 a0).t=a0+1000 from aZ] at h;exact h)))
      obtain⟨bR,aB⟩:=Aj (repL pq1 (own annP) annP pq1.no);have CA:=I (fun(w2:World) (g k x:Nat) (h:Blk w2 g 32 (prA k x pq1))=>(by have:=CA.o w2 g k x h;rw[show([65],krb++[65])=own annP from rfl,<-aB] at this;exact this));rw[<-aB] at CT;obtain⟨b0,aN⟩:=Aj (lO (mgO (mAs (firQ annP st0 a0))));rw[<-aN] at CC CS CD;obtain⟨bS,aH⟩:=Aj (seaL (FI 1) 7 1 ⟨annP,a0,0⟩);rw[<-aH] at CE CO;obtain⟨bN,bb⟩:=Aj (Ms.anE ⟨annP,a0,0⟩);rw[<-bb] at CO CN;obtain⟨cA,af⟩:=Aj (rqA a0);have CN:=I (fun(w2:World) (S:Nat->Prop) (v:Value) (hv:SlN S w2 v bN)=>(show Calls Tryz.prog 17 #[v] w2 fun e w'=>e=.returned (.tuple #[.agg cA,.int .i64 0])/\Below w2.heap.size w2 w' from(by rw[af];exact CN.o w2 S v hv)));have aL:=I (show(Tryz.prog.info? 68).map (·.size)=some cA.size by rw[af];exact UC);have bh:=I (show cA.all (·.oneCell')=true by rw[af];kernel_rfl);have bj:=I (show cA.size=4 by rw[af];rfl);have aF:=I af;clear af;clear ht aZ hle hT aC aQ az aB aN aH bb;go_enter Tryz.func4,Tryz.ntmps4
      go_upto_region 6 with(first
        |(go_at_call 5;refine Calls.mono CB.o ?_;rintro e w1 ⟨g,x,p,m,rfl,hp,ax,hc,hn,hg,aT,X⟩;clear CB;have HP:=I hp;have bl:=I ax;have HC:=I hc;have NG:=I hn;have Y:=I hg;have bm:=I aT;have HB:=I X;clear hp ax hc hn hg aT X)
        |fail)
      have aa:Below w1.heap.size w1 w1.drew:=below_drewN Ag 1;replace HC:=I (HC.o.below aa);replace HB:=HB.t aa;replace Y:=I (Y.o.below aa);clear aa;refine Reg.AW (fun w'=>Blk w' g 32 (prA p.k x pq0)) 14 rfl (by kernel_rfl) Y.o ?_;refine Reg.ty 0 rfl Y.o ?_;refine Reg.ty 1 rfl Y.o ?_;refine Reg.ty 2 rfl Y.o ?_;refine Reg.tw 3 (v:=pv p.k) rfl Y.o (fun w' hS=>by have q0:=hS.c0;go_simp<;>rfl) ?_;refine Reg.ty 5 rfl Y.o ?_;refine Reg.b1 4 ?_
      right
      refine⟨_,_,_,_,_,_,7,#[],rfl,by rfl,(by go_simp<;>first | rfl | exact⟨rfl,rfl⟩),?_⟩;refine Ah (L1.o _) ?_;rintro bg X;replace HC:=I (HC.o.below X);replace HB:=HB.t X;replace Y:=I (Y.o.below X);clear X;refine⟨_,rfl,Y.o,?_⟩;simp only[Act.put,J,U,Aa];refine Reg.b1 6 ?_
      right
      refine⟨_,_,_,_,_,_,6,#[pv p.k,prV DP,.int .i64 a0],rfl,by rfl,(by go_simp<;>first | rfl | exact⟨rfl,rfl⟩),?_⟩;refine Calls.mono (CC.o _ _ _ _ HC.o HP.o bl.o) ?_;rintro e aA ⟨v1,m1,rfl,hs,hk⟩;have ab:=hk.blk Y.o NG.o;replace NG:=I (hk.not NG.o Y.o.lt);replace Y:=I ab;clear ab;replace HB:=I (Im HB.o HC.o hk);replace HC:=I hk.cl;have S1:=I (JD hs);clear hs;clear hk;clear CC;refine⟨_,rfl,Y.o,?_⟩;simp only[Act.put,J,U,Aa];refine Reg.ty 7 rfl Y.o ?_;refine Reg.ty 8 rfl Y.o ?_;refine Reg.ty 9 rfl Y.o ?_;refine Reg.ty 10 rfl Y.o ?_;refine Reg.ty 11 rfl Y.o ?_;refine Reg.ty 12 rfl Y.o ?_;refine Reg.ty 13 rfl Y.o ?_;refine wpAnyH_done (by kernel_rfl) ?_ _;obtain⟨w2,aK⟩:=Aj (aA);rw[<-aK] at HC HB Y S1⊢;clear aK
      go_upto_region 8 with(first
        |(go_at_call 13;refine Calls.mono (CD.o _ _ _ S1.o) ?_;rintro e wd ⟨ds,rfl,⟨hs,ho,hi⟩,an,X⟩;clear CD;have ag:=I hs;have ai:=I ho;have aj:=I hi;have ah:=I an;replace HC:=I (HC.o.below X);replace HB:=HB.t X;replace Y:=I (Y.o.below X);replace S1:=I (S1.o.below X);have aP:=I (Nat.ne_of_gt Y.o.lt);have NM:=I (HC.o.fresh Af);clear hs ho hi an X)
        |(refine Wh.Bh (by rfl) 61 (.tmp 7) (.tmp 41) (by rfl) 61 rfl ds (by rfl) (by rfl) (by rw[ag.o];rfl) aj.o ai.o ?_;rintro V hV X;have O:=I hV;replace HC:=I (HC.o.below X);replace HB:=HB.t X;replace Y:=I (Y.o.below X);replace S1:=I (S1.o.below X);clear hV X)
        |fail)
      obtain⟨gm,aE⟩:=Aj (wd.heap.size);rw[<-aE] at O aP NM⊢;clear aE ag ai aj
      go_upto_region 9 with(first
        |(go_at_call 8;refine Ah (CS.o _ _ _ _ _ _ Y.o S1.o) ?_;rintro w3 ⟨aG,aw⟩;replace O:=I (aw.blk O.o (fun y=>aP.o y));replace Y:=I aG;replace HB:=I (low_g HB.o bm.o aw);replace HC:=I (HC.o.chg aw (fun j hj y=>NG.o (y▸hj)));clear CS S1 aG aw)
        |fail)
      have aa:Below w3.heap.size w3 w3.drew:=below_drewN Ag 1;replace HC:=I (HC.o.below aa);replace HB:=HB.t aa;replace Y:=I (Y.o.below aa);replace O:=I (O.o.below aa);clear aa;refine Reg.AW (fun w'=>Blk w' gm 61 ds) 29 rfl (by kernel_rfl) O.o ?_;refine Reg.ty 0 rfl O.o ?_;refine Reg.ty 1 (v:=.bool false) rfl O.o ?_;refine Reg.ty 2 rfl O.o ?_;refine Reg.ty 3 rfl O.o ?_;refine Reg.tw 4 (v:=.int .i64 1) rfl O.o (fun w' hS=>by obtain⟨k0,k1,k3,ay,k5⟩:=ah.o w' gm _ hS;go_simp<;>rfl) ?_;refine Reg.ty 5 (v:=.bool false) rfl O.o ?_;refine Reg.ty 6 (v:=.bool false) rfl O.o ?_;refine Reg.ty 7 rfl O.o ?_;refine Reg.ty 8 rfl O.o ?_;refine Reg.ty 9 rfl O.o ?_;refine Reg.tw 10 (v:=.agg #[.string ⟨annP.1.toArray⟩,.string ⟨annP.2.toArray⟩]) rfl O.o (fun w' hS=>by obtain⟨k0,k1,k3,ay,k5⟩:=ah.o w' gm _ hS;exact DB (.tmp 55) rfl rfl k1 Tryz.underlying35 rfl AZ) ?_;refine Reg.b1 11 ?_
      right
      refine⟨_,_,_,_,_,_,14,#[],rfl,by rfl,(by go_simp<;>first | rfl | exact⟨rfl,rfl⟩),?_⟩;refine Ah (LA.o _) ?_;rintro au X;replace HC:=I (HC.o.below X);replace HB:=HB.t X;replace Y:=I (Y.o.below X);replace O:=I (O.o.below X);clear X;refine⟨_,rfl,O.o,?_⟩;simp only[Act.put,J,U,Aa];refine Reg.tw 12 (v:=.bool false) rfl O.o (fun w' hS=>by have z:=Bb (x:=annP) (y:=annP) rfl w';go_simp) ?_;refine Reg.ty 13 (v:=.bool false) rfl O.o ?_;refine Reg.ty 14 rfl O.o ?_;refine Reg.ty 15 rfl O.o ?_;refine Reg.ty 16 rfl O.o ?_;refine Reg.ty 17 rfl O.o ?_;refine Reg.tw 18 (v:=.string ⟨#[65]⟩) rfl O.o (fun w' hS=>by obtain⟨k0,k1,k3,ay,k5⟩:=ah.o w' gm _ hS;go_simp<;>rfl) ?_;refine Reg.ty 19 (v:=.bool false) rfl O.o ?_;refine Reg.ty 20 (v:=.bool false) rfl O.o ?_;refine Reg.ty 21 rfl O.o ?_;refine Reg.ty 22 rfl O.o ?_;refine Reg.ty 23 rfl O.o ?_;refine Reg.tw 24 (v:=.int .i64 (a0+1000)) rfl O.o (fun w' hS=>by obtain⟨k0,k1,k3,ay,k5⟩:=ah.o w' gm _ hS;go_simp<;>rfl) ?_;refine Reg.ty 25 rfl O.o ?_;refine Reg.ty 26 (v:=.int .i64 (a0+1000)) rfl O.o ?_;refine Reg.ty 27 (v:=.bool false) rfl O.o ?_;refine Reg.ty 28 (v:=.bool false) rfl O.o ?_;refine wpAnyH_done (by kernel_rfl) ?_ _;obtain⟨w4,bf⟩:=Aj (au);rw[<-bf] at HB HC Y O⊢;clear bf;have p2:=Y.c2;obtain⟨cy,ak⟩:=Aj (AX (FI 1));have ba:=I (show(Tryz.prog.info? 30).map (·.size)=some cy.size by rw[ak,AU];kernel_rfl);have bn:=I (show cy.all (·.oneCell')=true by rw[ak];exact MF _);have aM:=I (show cy.size=32 by rw[ak];exact AU _);rw[<-ak] at LS CO;clear ak
      go_upto_region 12 with(first
        |(go_at_call 15;refine Ah (LS.o _) ?_;rintro ws X;clear LS p2;replace HC:=I (HC.o.below X);replace HB:=HB.t X;replace Y:=I (Y.o.below X);replace O:=I (O.o.below X);have NK:=I (HC.o.fresh Af);clear X)
        |(refine Wh.Bh (by rfl) 30 (.tmp 9) (.tmp 79) (by rfl) 30 rfl cy (by rfl) (by rfl) (by rw[aM.o];rfl) ba.o bn.o ?_;rintro V2 hV X;have HK:=I hV;replace HC:=I (HC.o.below X);replace HB:=HB.t X;replace Y:=I (Y.o.below X);replace O:=I (O.o.below X);clear hV X)
        |fail)
      obtain⟨gk,aO⟩:=Aj (ws.heap.size);rw[<-aO] at HK NK⊢;clear aO;have aa:Below V2.heap.size V2 V2.drew:=below_drewN Ag 1;replace HC:=I (HC.o.below aa);replace HB:=HB.t aa;replace Y:=I (Y.o.below aa);replace O:=I (O.o.below aa);replace HK:=I (HK.o.below aa);clear aa;refine Reg.AW (fun w'=>Blk w' g 32 (prA p.k x pq1)) 14 rfl (by kernel_rfl) Y.o ?_;refine Reg.ty 0 rfl Y.o ?_;refine Reg.ty 1 rfl Y.o ?_;refine Reg.ty 2 rfl Y.o ?_;refine Reg.tw 3 (v:=pv p.k) rfl Y.o (fun w' hS=>by have q0:=hS.c0;go_simp<;>rfl) ?_;refine Reg.ty 4 rfl Y.o ?_;refine Reg.tw 5 (v:=.agg (acA 0 0 [65] [65] 0 (.slice none 0 0) 0)) rfl Y.o (fun w' hS=>by exact BP (t:=43) (by rfl) (by simp only[List.map_toArray,List.map_cons,List.map_nil];exact Sl)) ?_;refine Reg.ty 7 rfl Y.o ?_;refine Reg.b1 6 ?_
      right
      refine⟨_,_,_,_,_,_,10,#[pv g,.agg (acA 0 0 [65] [65] 0 (.slice none 0 0) 0)],rfl,by rfl,(by go_simp<;>first | rfl | exact⟨rfl,rfl⟩),?_⟩;refine Calls.mono (CA.o _ _ _ _ Y.o) ?_;rintro e aR ⟨v2,rfl,hs,X⟩;have S2:=I (hs.mono (S':=AO p _) (fun j _ y=>HC.o.lt y));replace HC:=I (HC.o.below X);replace HB:=HB.t X;replace Y:=I (Y.o.below X);replace O:=I (O.o.below X);replace HK:=I (HK.o.below X);clear hs;clear X;clear CA;refine⟨_,rfl,Y.o,?_⟩;simp only[Act.put,J,U,Aa];refine Reg.b1 8 ?_
      right
      refine⟨_,_,_,_,_,_,9,#[pv p.k,v2,.int .i64 a0],rfl,by rfl,(by go_simp<;>first | rfl | exact⟨rfl,rfl⟩),?_⟩;refine Calls.mono (CT.o _ _ _ _ _ HC.o HP.o S2.o) ?_;rintro e al ⟨v5,m5,rfl,hs,hk⟩;have ab:=hk.blk Y.o NG.o;replace NG:=I (hk.not NG.o Y.o.lt);replace Y:=I ab;clear ab;have ab:=hk.blk O.o NM.o;replace NM:=I (hk.not NM.o O.o.lt);replace O:=I ab;clear ab;have ab:=hk.blk HK.o NK.o;replace NK:=I (hk.not NK.o HK.o.lt);replace HK:=I ab;clear ab;replace HB:=I (Im HB.o HC.o hk);replace HC:=I hk.cl;have S5:=I (JD hs);clear hs S2;clear hk;clear CT;refine⟨_,rfl,Y.o,?_⟩;simp only[Act.put,J,U,Aa];refine Reg.ty 9 rfl Y.o ?_;refine Reg.ty 10 rfl Y.o ?_;refine Reg.ty 11 rfl Y.o ?_;refine Reg.ty 12 rfl Y.o ?_;refine Reg.ty 13 rfl Y.o ?_;refine wpAnyH_done (by kernel_rfl) ?_ _;obtain⟨w5,aY⟩:=Aj (al);rw[<-aY] at HB HC Y O HK S5⊢;clear aY
      go_upto_region 14 with(first
        |(go_at_call 13;refine Calls.mono (CE.o _ _ _ S5.o) ?_;rintro e we ⟨aU,bv,av,rfl,⟨hs,ho,hi⟩,an,aJ,aV,X⟩;clear CE S5;have ag:=I hs;have ai:=I ho;have aj:=I hi;have ad:=I an;replace HC:=I (HC.o.below X);replace HB:=HB.t X;replace Y:=I (Y.o.below X);replace O:=I (O.o.below X);replace HK:=I (HK.o.below X);have Z:=I aJ;have SA:=I aV;clear hs ho hi an X aJ aV)
        |(refine Wh.Bh (by rfl) 61 (.tmp 12) (.tmp 95) (by rfl) 61 rfl aU (by rfl) (by rfl) (by rw[ag.o];rfl) aj.o ai.o ?_;rintro V3 hV X;have M:=I hV;replace HC:=I (HC.o.below X);replace HB:=HB.t X;replace Y:=I (Y.o.below X);replace O:=I (O.o.below X);replace HK:=I (HK.o.below X);replace Z:=I (Z.o.below X);replace SA:=I (SA.o.below X);clear hV X)
        |fail)
      obtain⟨gn,aX⟩:=Aj (we.heap.size);rw[<-aX] at M⊢;clear aX ag ai aj;obtain⟨n0,n7,ae,ao,ar⟩:=ad.o _ _ _ M.o;have kr:V3.rangeAt gk 0 cy.toList:=fun j v hv=>by rw[Nat.zero_add,HK.o.cell,<-Array.getElem?_toList];exact hv
      go_upto_region 15 with(first
        |(refine Mc.AG (by rfl) 30 (.tmp 9) (by rfl) gk 0 (by rfl) cy _ kr Tryz.underlying30 (by rfl) ba.o ?_)
        |(go_at_call 16;refine Calls.mono (CO.o _ _ _ SA.o) ?_;rintro e wo ⟨v6,rfl,aW,X⟩;clear CO SA kr n0 n7 ae ao ar;replace HC:=I (HC.o.below X);replace HB:=HB.t X;replace Y:=I (Y.o.below X);replace O:=I (O.o.below X);replace M:=I (M.o.below X);replace Z:=I (Z.o.below X);have S6:=I aW;clear aW X)
        |fail)
      go_upto_region 16 with(first
        |(go_at_call 17;refine Ah (CN.o _ _ _ S6.o) ?_;rintro wn X;clear CN S6;replace HC:=I (HC.o.below X);replace HB:=HB.t X;replace Y:=I (Y.o.below X);replace O:=I (O.o.below X);replace M:=I (M.o.below X);replace Z:=I (Z.o.below X);clear X)
        |(refine Wh.Bh (by rfl) 68 (.tmp 16) (.tmp 108) (by rfl) 68 rfl cA (by rfl) (by rfl) (by rw[bj.o];rfl) aL.o bh.o ?_;rintro V4 hV X;have HA:=I hV;replace HC:=I (HC.o.below X);replace HB:=HB.t X;replace Y:=I (Y.o.below X);replace O:=I (O.o.below X);replace M:=I (M.o.below X);replace Z:=I (Z.o.below X);clear hV X)
        |fail)
      obtain⟨ga,aI⟩:=Aj (wn.heap.size);rw[<-aI] at HA⊢;clear aI;have aa:Below V4.heap.size V4 V4.drew:=below_drewN Ag 1;replace HC:=I (HC.o.below aa);replace HB:=HB.t aa;replace Y:=I (Y.o.below aa);replace M:=I (M.o.below aa);replace O:=I (O.o.below aa);replace HA:=I (HA.o.below aa);replace Z:=I (Z.o.below aa);clear aa;refine Reg.AW (fun w'=>Blk w' gn 61 aU/\Blk w' gm 61 ds/\Blk w' ga 68 cA/\SlN (fun _=>False) w' bv [1,2]) 47 rfl (by kernel_rfl) ⟨M.o,O.o,HA.o,Z.o⟩ ?_;refine Reg.ty 0 rfl ⟨M.o,O.o,HA.o,Z.o⟩ ?_;refine Reg.ty 1 rfl ⟨M.o,O.o,HA.o,Z.o⟩ ?_;refine Reg.ty 2 (v:=.int .i64 0) rfl ⟨M.o,O.o,HA.o,Z.o⟩ ?_;refine Reg.ty 3 rfl ⟨M.o,O.o,HA.o,Z.o⟩ ?_;refine Reg.ty 4 (v:=.int .i64 0) rfl ⟨M.o,O.o,HA.o,Z.o⟩ ?_;refine Reg.ty 5 (v:=.bool true) rfl ⟨M.o,O.o,HA.o,Z.o⟩ ?_;refine Reg.ty 6 rfl ⟨M.o,O.o,HA.o,Z.o⟩ ?_;refine Reg.ty 7 rfl ⟨M.o,O.o,HA.o,Z.o⟩ ?_;refine Reg.tw 8 (v:=.int .i64 2) rfl ⟨M.o,O.o,HA.o,Z.o⟩ (fun w' hS=>by obtain⟨n0,n7,ae,ao,ar⟩:=ad.o w' gn _ hS.1;go_simp<;>rfl) ?_;refine Reg.ty 9 (v:=.bool true) rfl ⟨M.o,O.o,HA.o,Z.o⟩ ?_;refine Reg.ty 10 (v:=.bool true) rfl ⟨M.o,O.o,HA.o,Z.o⟩ ?_;refine Reg.ty 11 rfl ⟨M.o,O.o,HA.o,Z.o⟩ ?_;refine Reg.ty 12 rfl ⟨M.o,O.o,HA.o,Z.o⟩ ?_;refine Reg.ty 13 rfl ⟨M.o,O.o,HA.o,Z.o⟩ ?_;refine Reg.tw 14 (v:=.agg #[.string ⟨(DP).1.toArray⟩,.string ⟨(DP).2.toArray⟩]) rfl ⟨M.o,O.o,HA.o,Z.o⟩ (fun w' hS=>by obtain⟨n0,n7,ae,ao,ar⟩:=ad.o w' gn _ hS.1;exact DB (.tmp 123) rfl rfl ae Tryz.underlying35 rfl AZ) ?_;refine Reg.b1 15 ?_
      right
      refine⟨_,_,_,_,_,_,7,#[],rfl,by rfl,(by go_simp<;>first | rfl | exact⟨rfl,rfl⟩),?_⟩;refine Ah (L1.o _) ?_;rintro bd X;replace HC:=I (HC.o.below X);replace HB:=HB.t X;replace Y:=I (Y.o.below X);replace M:=I (M.o.below X);replace O:=I (O.o.below X);replace HA:=I (HA.o.below X);replace Z:=I (Z.o.below X);clear X;refine⟨_,rfl,⟨M.o,O.o,HA.o,Z.o⟩,?_⟩;simp only[Act.put,J,U,Aa];refine Reg.tw 16 (v:=.bool true) rfl ⟨M.o,O.o,HA.o,Z.o⟩ (fun w' hS=>by have z:=Bb (x:=DP) (y:=DP) rfl w';go_simp) ?_;refine Reg.ty 17 (v:=.bool true) rfl ⟨M.o,O.o,HA.o,Z.o⟩ ?_;refine Reg.ty 18 rfl ⟨M.o,O.o,HA.o,Z.o⟩ ?_;refine Reg.ty 19 rfl ⟨M.o,O.o,HA.o,Z.o⟩ ?_;refine Reg.ty 20 rfl ⟨M.o,O.o,HA.o,Z.o⟩ ?_;refine Reg.ty 21 rfl ⟨M.o,O.o,HA.o,Z.o⟩ ?_;refine Reg.tw 22 (v:=.agg #[.string ⟨(own annP).1.toArray⟩,.string ⟨(own annP).2.toArray⟩]) rfl ⟨M.o,O.o,HA.o,Z.o⟩ (fun w' hS=>by obtain⟨n0,n7,ae,ao,ar⟩:=ad.o w' gn _ hS.1;exact DB (.tmp 131) rfl rfl n7 Tryz.underlying35 rfl AZ) ?_;refine Reg.ty 23 rfl ⟨M.o,O.o,HA.o,Z.o⟩ ?_;refine Reg.ty 24 rfl ⟨M.o,O.o,HA.o,Z.o⟩ ?_;refine Reg.tw 25 (v:=.agg #[.string ⟨(own annP).1.toArray⟩,.string ⟨(own annP).2.toArray⟩]) rfl ⟨M.o,O.o,HA.o,Z.o⟩ (fun w' hS=>by obtain⟨k0,k1,k3,ay,k5⟩:=ah.o w' gm _ hS.2.1;exact DB (.tmp 134) rfl rfl k3 Tryz.underlying35 rfl AZ) ?_;refine Reg.tw 26 (v:=.bool true) rfl ⟨M.o,O.o,HA.o,Z.o⟩ (fun w' hS=>by have z:=Bb (x:=own annP) (y:=own annP) rfl w';go_simp) ?_;refine Reg.ty 27 (v:=.bool true) rfl ⟨M.o,O.o,HA.o,Z.o⟩ ?_;refine Reg.ty 28 rfl ⟨M.o,O.o,HA.o,Z.o⟩ ?_;refine Reg.ty 29 rfl ⟨M.o,O.o,HA.o,Z.o⟩ ?_;refine Reg.ty 30 rfl ⟨M.o,O.o,HA.o,Z.o⟩ ?_;refine Reg.ty 31 rfl ⟨M.o,O.o,HA.o,Z.o⟩ ?_;refine Reg.tw 32 (v:=bv) rfl ⟨M.o,O.o,HA.o,Z.o⟩ (fun w' hS=>by obtain⟨n0,n7,ae,ao,ar⟩:=ad.o w' gn _ hS.1;go_simp<;>rfl) ?_;refine Reg.tw 33 (v:=.string ⟨#[1,2]⟩) rfl ⟨M.o,O.o,HA.o,Z.o⟩ (fun w' hS=>by exact Sk (.tmp 142) rfl rfl (Xc hS.2.2.2)) ?_;refine Reg.ty 34 (v:=.bool true) rfl ⟨M.o,O.o,HA.o,Z.o⟩ ?_;refine Reg.ty 35 (v:=.bool true) rfl ⟨M.o,O.o,HA.o,Z.o⟩ ?_;refine Reg.ty 36 rfl ⟨M.o,O.o,HA.o,Z.o⟩ ?_;refine Reg.tw 37 (v:=.agg cA) rfl ⟨M.o,O.o,HA.o,Z.o⟩ (fun w' hS=>by exact Wh.Cz (.tmp 16) rfl rfl hS.2.2.1 Tryz.underlying68 (by rfl) aL.o) ?_;refine Reg.ty 39 rfl ⟨M.o,O.o,HA.o,Z.o⟩ ?_;refine Reg.b1 38 ?_
      right
      refine⟨_,_,_,_,_,_,14,#[],rfl,by rfl,(by go_simp<;>first | rfl | exact⟨rfl,rfl⟩),?_⟩;refine Ah (LA.o _) ?_;rintro aS X;replace HC:=I (HC.o.below X);replace HB:=HB.t X;replace Y:=I (Y.o.below X);replace M:=I (M.o.below X);replace O:=I (O.o.below X);replace HA:=I (HA.o.below X);replace Z:=I (Z.o.below X);clear X;refine⟨_,rfl,⟨M.o,O.o,HA.o,Z.o⟩,?_⟩;simp only[Act.put,J,U,Aa];refine Reg.tw 40 (v:=.agg cA) rfl ⟨M.o,O.o,HA.o,Z.o⟩ (fun w' hS=>by exact BP (t:=68) (by rfl) (by simp only[List.map_toArray,List.map_cons,List.map_nil];rw[aF.o];exact UB a0)) ?_;refine Reg.tw 41 (v:=.bool true) rfl ⟨M.o,O.o,HA.o,Z.o⟩ (fun w' hS=>by have e:=aF.o;subst e;have z:=YO a0 w';go_simp) ?_;refine Reg.ty 42 (v:=.bool true) rfl ⟨M.o,O.o,HA.o,Z.o⟩ ?_;refine Reg.ty 43 rfl ⟨M.o,O.o,HA.o,Z.o⟩ ?_;refine Reg.b1 44 ?_
      right
      refine⟨_,_,_,_,_,_,12,#[],rfl,by rfl,(by go_simp<;>first | rfl | exact⟨rfl,rfl⟩),?_⟩;refine Ah (KN.o _) ?_;rintro aD X;replace HC:=I (HC.o.below X);replace HB:=HB.t X;replace Y:=I (Y.o.below X);replace M:=I (M.o.below X);replace O:=I (O.o.below X);replace HA:=I (HA.o.below X);replace Z:=I (Z.o.below X);clear X;refine⟨_,rfl,⟨M.o,O.o,HA.o,Z.o⟩,?_⟩;simp only[Act.put,J,U,Aa];refine Reg.ty 45 (v:=.bool true) rfl ⟨M.o,O.o,HA.o,Z.o⟩ ?_;refine Reg.ty 46 rfl ⟨M.o,O.o,HA.o,Z.o⟩ ?_;refine wpAnyH_done (by kernel_rfl) ?_ _
      go_wp2
      go_ret;exact⟨rfl,HB.o⟩
end Cl
end Go.Proofs.YtlccngianpfalaaGreat
