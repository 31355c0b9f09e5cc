import Derived.Test.YtlccngianpfalaaGreatZClientLoops22
import Derived.Test.YtlccngianpfalaaGreatZClientLoops23
set_option maxHeartbeats 25600000
set_option maxRecDepth 100000
set_option linter.unusedVariables false
set_option linter.unusedSimpArgs false
namespace Go.Proofs.YtlccngianpfalaaGreat
namespace Cl
open Go.RowKit Ae Se
open Nm (L krb tgL tgR)
open Ms (Pr tmB pSm mSm mgD mgO mgE Mg)
open Rg (prV)
theorem Es {w0 w w':World} {p:CP} {m m':CM} {s s':St} {c c':Nat} (hB:Below w0.heap.size w0 w) (M:Cl w w0.heap.size p m s c) (hk:Tu w w' w0.heap.size p m m' s' c'):Below w0.heap.size w0 w':=hB.trans (hk.chg.below hB.size (fun j _ x=>M.lo x))
theorem Yr {w0 w w':World} {g:Nat} (hB:Below w0.heap.size w0 w) (O:w0.heap.size<=g) (M:Chg (fun j=>j=g) w w'):Below w0.heap.size w0 w':=hB.trans (M.below hB.size (fun j _ x=>by omega))
theorem sz0 {p:CP} (O:p.P=annP):Sz p st0 0:=by
 refine⟨Nat.le_refl _,Nat.le_refl _,Nat.le_refl _,⟨Int.le_refl _,Int.le_refl _⟩,⟨Nat.le_refl _,fun v M=>by cases M⟩,⟨by decide,by decide⟩,by decide,fun i X=>(by cases X),?_⟩;rw[O];exact⟨⟨by decide,by decide⟩,by decide⟩
theorem Ho:pSm Bc:=⟨by decide,by decide⟩
section
variable {w w' w0:World} {B:Nat} {p:CP} {m m' m0:CM} {s:St} {c:Nat} {r:L}
theorem RN (h:Cl w B p m st0 0) (M:p.P=annP) (O:p.ks=k9) (now:Int) (Y:tmB now=true):Calls Tryz.prog 6 #[pv p.k,prV Bc,.int .i64 now] w fun e w'=>∃v m',e=.returned (.tuple #[.string ⟨#[65]⟩,v,.int .i64 0])/\SlN (Out w p m') w' v (lO (mgO (mAs (firQ annP st0 now))))/\Tu w w' B p m m' (s1 0) 2:=by
 have:=cha_4 (R:=(s1 0,([65],lO (mgO (mAs (firQ annP st0 now)))))) h (sz0 M) (by decide) Ho (by decide) OS Y (fun w1 m1 X=>by
  have Z:=Ua (o:=none) X (by decide) (Yi (sz0 M) Ho) Y rfl rfl;rw[M,O] at Z;refine Z.mono ?_;rintro e w2 ⟨v,m2,rfl,a1,a2⟩;exact⟨v,m2,by rw[M],by rw[M];rfl,a1,a2.more (by decide)⟩)
 exact this
theorem Uj (h:Cl w B p m s c) (O:Sz p s c) (X:c<=700000) (now:Int) (M:s.st=1):Calls Tryz.prog 6 #[pv p.k,prV Bc,.int .i64 now] w fun e w'=>∃v m',e=.returned (.tuple #[.string ⟨#[]⟩,v,.int .i64 16])/\SlN (Out w p m') w' v []/\Tu w w' B p m m' s (c+2):=by
 exact cha_1 (t:=Bc) (now:=now) h O X Ho M
theorem sz1 {p:CP} (O:p.P=annP):Sz p (s1 0) 2:=by
 refine⟨by decide,by decide,by decide,⟨by decide,by decide⟩,⟨by decide,fun v M=>by cases M⟩,Ho,by decide,fun i X=>(by cases X),?_⟩;rw[O];exact⟨⟨by decide,by decide⟩,by decide⟩
theorem WJ (now:Int) (M:tmB now=true):0<(lO (mgO (mAs (firQ annP st0 now)))).length:=by
 have O:=UP (s:=st0) Kg RJ M (by decide);rw[(UN O).1];show 0<(mgE (mAs (firQ annP st0 now))).length;have:mgE (mAs (firQ annP st0 now))=Ms.asE (firQ annP st0 now):=rfl;rw[this,Ms.asE];have h:=DerP.DC 106 [Ms.prE (firQ annP st0 now).c,Ms.prE (firQ annP st0 now).s,DerP.encI (firQ annP st0 now).t,DerP.encI (firQ annP st0 now).no].flatten;rw[h];omega
theorem Ys {c x:Nat} {q:Pq}:(prA c x q)[35]? = some (.int .i64 q.u):=by kernel_rfl
theorem Uk {c x:Nat} {q:Pq} {g:Nat} {t:TypeId} (h:Blk w g t (prA c x q)):w.cell? ⟨g,35,none⟩=some (.int .i64 q.u):=by
 have e:(prA c x q)[35]? = some (.int .i64 q.u):=by kernel_rfl
 exact(h.cell 35).trans e
theorem UR {c x:Nat} {q:Pq} {g:Nat} {t:TypeId} {no:Int} {O:Array Value} {ks:Nat->UInt8} (X:Blk w g t ((prA c x q).setIfInBounds 2 (.int .i64 no))) (Y:O=AW ks):Blk (w.setCells g 3 O.toList) g t (prA c x ⟨no,ks,q.u⟩):=by
 subst Y;have M:=Se.Blk.setCells (AW ks).toList 3 _ _ X;have e:(MR ((prA c x q).setIfInBounds 2 (.int .i64 no)) 3 (AW ks).toList)=prA c x ⟨no,ks,q.u⟩:=by kernel_rfl
 rw[e] at M;exact M
theorem RO {c x:Nat} {q:Pq} {g:Nat} {t:TypeId} (h:Blk w g t (prA c x q)) (u:Int):Blk (w.setCell ⟨g,35,none⟩ (.int .i64 u)) g t (prA c x ⟨q.no,q.ks,u⟩):=by
 have M:=h.set 35 (.int .i64 u);have e:(prA c x q).setIfInBounds 35 (.int .i64 u)=prA c x ⟨q.no,q.ks,u⟩:=by kernel_rfl
 rw[e] at M;exact M
theorem Yt (w:World) (g:Nat) (a u:Value) (vs:List Value):Chg (fun j=>j=g) w (((w.setCell ⟨g,2,none⟩ a).setCells g 3 vs).setCell ⟨g,35,none⟩ u):=by
 have M:Chg (fun j=>j=g) w (w.setCell ⟨g,2,none⟩ a):=Gf _ _ _ _;have O:Chg (fun j=>j=g) (w.setCell ⟨g,2,none⟩ a) ((w.setCell ⟨g,2,none⟩ a).setCells g 3 vs):=Chg.of_grown (Wh.Dp _ _ _ _) rfl;exact(M.trans O (fun _ _ x=>x)).trans (Gf _ _ _ _) (fun _ _ x=>x)
abbrev RdP (w:World) (b:L) (e:Ending) (w':World):Prop:=∃ds,e=.returned (.tuple #[.agg ds,.int .i64 (Mc.mgI b)])/\Mc.MgV w' w.heap.size ds (Mc.mgG b)/\Below w.heap.size w w'
abbrev RdQ (w:World) (b:L) (e:Ending) (w':World):Prop:=∃ds,e=.returned (.tuple #[.agg ds,.int .i64 (Mc.mgI b)])/\(ds.size=30/\ds.all (·.oneCell')=true/\(Tryz.prog.info? 61).map (·.size)=some ds.size)/\
 (∀(w1:World) (gb:Nat) (t:TypeId),Blk w1 gb t ds->w1.cell? ⟨gb,0,none⟩=some (.int .i64 (Mc.mgG b).k)/\w1.rangeAt gb 1 (asA (Mc.mgG b).aq).toList/\w1.cell? ⟨gb,15,none⟩=some (.int .i64 (Mc.mgG b).tg.no))/\Mc.MgV w' w.heap.size ds (Mc.mgG b)/\Below w.heap.size w w'
theorem RP {v:Value} {b:L} (h:Calls Tryz.prog 13 #[v] w (RdP w b)):Calls Tryz.prog 13 #[v] w (RdQ w b):=by
 refine h.mono ?_;rintro e w' ⟨ds,rfl,hm,hb⟩;have X:=hm;obtain⟨pa,pt,pr,pp,pf,O,M⟩:=hm;have h6:pa=asA (Mc.mgG b).aq:=M.a;obtain⟨bv,av,h7,_,_⟩:=M.t;subst h6;refine⟨ds,rfl,⟨by rw[O];exact M.size _,by rw[O];exact M.one _,by rw[O,M.size];exact Mc.AT⟩,fun w1 gb t Z=>?_,X,hb⟩;rw[O] at Z;have Y:=M.at_ Z;have ht:=Y.t;rw[h7] at ht;exact⟨Y.k,Y.a,ht 8 _ rfl⟩
theorem Yu {b:L} {G:Mg} (h:mgD b=some G):Ms.mgP b=G:=by
 unfold Ms.mgD at h
 split at h
 ·injection h
 ·cases h
theorem WK {b:L} {G:Mg} (h:mgD b=some G) (hk:G.k=1):∃r,b=106 :: r:=by
 have M:=Yu h;cases b with
 |nil=>rw[<-M] at hk;exact absurd hk (by decide)
 |cons t r=>
  by_cases e:t=106
  ·exact⟨r,by rw[e]⟩
  ·unfold Ms.mgP at M
   simp only[if_neg e] at M
   exfalso
   split at M
   ·rw[<-M] at hk;exact absurd hk (by show ¬(2:Int)=1;decide)
   ·split at M
    ·rw[<-M] at hk;exact absurd hk (by show ¬(3:Int)=1;decide)
    ·split at M
     ·rw[<-M] at hk;exact absurd hk (by show ¬(4:Int)=1;decide)
     ·split at M
      ·rw[<-M] at hk;exact absurd hk (by show ¬(5:Int)=1;decide)
      ·rw[<-M] at hk;exact absurd hk (by decide)
theorem WL {b:L} {G:Mg} (h:mgD b=some G) (hk:G.k=2):∃r,b=108 :: r:=by
 have M:=Yu h;cases b with
 |nil=>rw[<-M] at hk;exact absurd hk (by decide)
 |cons t r=>
  by_cases e:t=108
  ·exact⟨r,by rw[e]⟩
  ·unfold Ms.mgP at M
   simp only[if_neg e] at M
   exfalso
   split at M
   ·rw[<-M] at hk;exact absurd hk (by show ¬(1:Int)=2;decide)
   ·split at M
    ·rw[<-M] at hk;exact absurd hk (by show ¬(3:Int)=2;decide)
    ·split at M
     ·rw[<-M] at hk;exact absurd hk (by show ¬(4:Int)=2;decide)
     ·split at M
      ·rw[<-M] at hk;exact absurd hk (by show ¬(5:Int)=2;decide)
      ·rw[<-M] at hk;exact absurd hk (by decide)
theorem WM {v:Value} {b:L} {S:Nat->Prop} {G:Mg} (O:SlN S w v b) (X:b.length<=20000) (h:mgD b=some G) (hk:G.k=1):Calls Tryz.prog 13 #[v] w (RdQ w b):=by
 obtain⟨r,rfl⟩:=WK h hk;obtain⟨A,Y,rfl,Z,M⟩:=O;exact RP (Mc.WG 106 r A Y w M.rd Z X rfl)
theorem WN {v:Value} {b:L} {S:Nat->Prop} {G:Mg} (O:SlN S w v b) (X:b.length<=20000) (h:mgD b=some G) (hk:G.k=2):Calls Tryz.prog 13 #[v] w (RdQ w b):=by
 obtain⟨r,rfl⟩:=WL h hk;obtain⟨A,Y,rfl,Z,M⟩:=O;exact RP (Mc.WI 108 r A Y w M.rd Z X rfl (by decide))
def SenP (w:World) (g c x:Nat) (q:Pq) (e:Ending) (w':World):Prop:=e=.returned (.tuple #[])/\Blk w' g 32 (prA c x q)/\Chg (fun j=>j=g) w w'
theorem Yv {b:L} {v:Value} {g k x:Nat} {q:Pq} {S:Nat->Prop} (h:Blk w g 32 (prA k x q)) (hl:b.length<=20000) (hv:SlN S w v b) {G:Mg} (h3:mgD b=some G) (h4:G.k=1) :
  Calls Tryz.prog 8 #[pv g,v] w (SenP w g k x ⟨G.aq.no,k9,3⟩):=by
 have CD:=I (WM hv hl h3 h4);have Y:=I h;have HB:=I (Chg.refl (fun j=>j=g) w);have hi:Mc.mgI b=0:=by unfold Mc.mgI;rw[h3];rfl
 have hg:Mc.mgG b=G:=by unfold Mc.mgG;rw[h3];rfl
 unfold RdQ at CD;rw[hi,hg] at CD;have ay:=I (fun(ks:Nat->UInt8)=>(show(Tryz.prog.info? 30).map (·.size)=some (AW ks).size by rw[AQ];kernel_rfl));have ak:=I Mt;have ae:=I Nr;clear h hl hv h3 hi hg;go_enter Tryz.func8,Tryz.ntmps8
 go_upto_region 2 with(first
  |(go_at_call 13;refine Calls.mono CD.o ?_;rintro e wd ⟨ds,rfl,⟨hs,ho,hi⟩,ah,_,hb⟩;clear CD;have ab:=I hs;have aj:=I ho;have ar:=I hi;have af:=I ah;replace Y:=I (Y.o.below hb);replace HB:=I (HB.o.trans (Chg.of_below hb) (fun _ _ x=>x));clear hs ho hi ah hb)
  |(refine Wh.Bv (by rfl) 61 (.tmp 4) (.tmp 9) (by rfl) 61 rfl ds (by rfl) (by rfl) (by rw[ab.o];rfl) ar.o aj.o ?_;rintro V1 hV hb;have HM:=I hV;replace Y:=I (Y.o.below hb);replace HB:=I (HB.o.trans (Chg.of_below hb) (fun _ _ x=>x));clear hV hb)
  |fail)
 obtain⟨gm,ai⟩:=Aj (wd.heap.size);rw[<-ai] at HM⊢;clear ai;obtain⟨m0,m1,_⟩:=af.o _ _ _ HM.o;rw[h4] at m0;have m6:V1.cell? ⟨gm,6,none⟩=some (.int .i64 G.aq.no):=m1 5 _ rfl;have M1:=I m1;clear m1;have p2:=Y.c2;have fz:=Y.o.frozen
 go_upto_region 4 with fail
 obtain⟨W1,X⟩:=Aj (V1.setCell ⟨g,2,none⟩ (.int .i64 G.aq.no));have aa:=I (show Blk W1 g 32 ((prA k x q).setIfInBounds 2 (.int .i64 G.aq.no)) by rw[X];exact Y.o.set 2 _);have av:=I X;rw[<-X];clear X m0 m6 p2 fz;have an:=I (show gm≠g by have:=HM.o;have h1:=Y.o.cell 35;have h2:=HM.o.cell 35;intro e;rw[e] at h2;have h3:=h1.symm.trans h2;exact absurd (congrArg Option.isSome h3) (by rw[show(prA k x q)[35]? = some (.int .i64 q.u) from Ys,show ds[35]? = none from by rw[Array.getElem?_eq_none];rw[ab.o];decide];simp));obtain⟨cy,M⟩:=Aj (AW k9);have ad:=I (show(Tryz.prog.info? 30).map (·.size)=some cy.size by rw[M];exact ay.o _);have ag:=I (show cy.all (·.oneCell')=true by rw[M];exact ak.o _);rw[<-M] at ae;have aw:=I (show W1.there g 3 cy.size from Wh.BO aa.o 3 _ (by rw[M,AQ];simp [AQ]));have ao:=I M;clear M
 go_upto_region 5 with(first
  |(refine Mc.Ax (by rfl) 30 #[(0,.const (.int .u8 9))] (by rfl) cy (by simp only[List.map_toArray,List.map_cons,List.map_nil];exact ae.o) ?_)
  |(refine wpList_store_mid (by rfl) 30 (.tmp 26) (.tmp 24) (by rfl) g 3 cy (by rfl) (by rfl) aw.o ad.o ag.o ?_;have HQ:=I (UR aa.o ao.o);have ax:(W1.setCells g 3 cy.toList).cell? ⟨g,35,none⟩=some (.int .i64 q.u):=(by have h:=Uk HQ.o;exact h);have fz:=HQ.o.frozen)
  |fail)
 obtain⟨V9,O⟩:=Aj ((W1.setCells g 3 cy.toList).setCell ⟨g,35,none⟩ (.int .i64 3));have H9:=I (show Blk V9 g 32 (prA k x ⟨G.aq.no,k9,3⟩) by rw[O];exact RO HQ.o 3);have Z:Chg (fun j=>j=g) V1 V9:=by rw[O,av.o];exact Yt _ _ _ _ _
 have m0:V9.cell? ⟨gm,0,none⟩=some (.int .i64 1):=by
  have:=(af.o _ _ _ (Z.blk HM.o an.o)).1;rw[h4] at this;exact this
 have au:=I (HB.o.trans Z (fun _ _ x=>x));rw[<-O];clear O Z ax fz
 go_wp2_with fail
 go_end0
 exact⟨rfl,H9.o,au.o⟩
theorem Yw {b:L} {v:Value} {g k x:Nat} {q:Pq} {S:Nat->Prop} (h:Blk w g 32 (prA k x q)) (hl:b.length<=20000) (hv:SlN S w v b) {G:Mg} {n:Nat} (h3:mgD b=some G) (h4:G.k=2) (h5:G.tg.no=((n+1:Nat):Int)) (h6:n<=1000000) :
  Calls Tryz.prog 8 #[pv g,v] w (SenP w g k x ⟨((n+1:Nat):Int),Ex n,8⟩):=by
 have CD:=I (WN hv hl h3 h4);have Z:=I h;have HB:=I (Chg.refl (fun j=>j=g) w);have hi:Mc.mgI b=0:=by unfold Mc.mgI;rw[h3];rfl
 have hg:Mc.mgG b=G:=by unfold Mc.mgG;rw[h3];rfl
 unfold RdQ at CD;rw[hi,hg] at CD;have ay:=I (fun(ks:Nat->UInt8)=>(show(Tryz.prog.info? 30).map (·.size)=some (AW ks).size by rw[AQ];kernel_rfl));have aw:=I Mt;have CS:=I (fun(w1:World)=>WD n (by omega) w1);have ae:IntKind.i64.wrap (((n+1:Nat):Int) - 1)=(n:Int):=by rw[IntKind.wrap_i64];omega
 clear h hl hv h3 hi hg h6;go_enter Tryz.func8,Tryz.ntmps8
 go_upto_region 2 with(first
  |(go_at_call 13;refine Calls.mono CD.o ?_;rintro e wd ⟨ds,rfl,⟨hs,ho,hi⟩,ai,_,X⟩;clear CD;have aj:=I hs;have av:=I ho;have an:=I hi;have ao:=I ai;replace Z:=I (Z.o.below X);replace HB:=I (HB.o.trans (Chg.of_below X) (fun _ _ x=>x));clear hs ho hi ai X)
  |(refine Wh.Bv (by rfl) 61 (.tmp 4) (.tmp 9) (by rfl) 61 rfl ds (by rfl) (by rfl) (by rw[aj.o];rfl) an.o av.o ?_;rintro V1 hV X;have HM:=I hV;replace Z:=I (Z.o.below X);replace HB:=I (HB.o.trans (Chg.of_below X) (fun _ _ x=>x));clear hV X)
  |fail)
 obtain⟨gm,ah⟩:=Aj (wd.heap.size);rw[<-ah] at HM⊢;clear ah;obtain⟨m0,_,ab⟩:=ao.o _ _ _ HM.o;rw[h4] at m0;rw[h5] at ab;obtain⟨NN,aa⟩:∃z:Int,z=((n+1:Nat):Int):=⟨_,rfl⟩;rw[<-aa] at ab ae⊢;have p2:=Z.c2;have fz:=Z.o.frozen;have ax:=I aa;clear h5 h4 aa
 go_upto_region 7 with fail
 obtain⟨W1,Y⟩:=Aj (V1.setCell ⟨g,2,none⟩ (.int .i64 NN));have O:=I (show Blk W1 g 32 ((prA k x q).setIfInBounds 2 (.int .i64 NN)) by rw[Y];exact Z.o.set 2 _);have ad:=I (show Chg (fun j=>j=g) w W1 by rw[Y];exact HB.o.trans (Gf _ _ _ _) (fun _ _ x=>x));rw[<-Y];clear Y m0 ab p2 fz Z HB HM;have p2:=O.c2;obtain⟨cy,M⟩:=Aj (AW (Ex n));have af:=I (show(Tryz.prog.info? 30).map (·.size)=some cy.size by rw[M];exact ay.o _);have ag:=I (show cy.all (·.oneCell')=true by rw[M];exact aw.o _);rw[<-M] at CS;have ak:=I M;have au:=I (show cy.size=32 by rw[M];exact AQ _);clear M
 go_wp2_with (first
  |(go_at_call 15;refine Ah (CS.o _) ?_;rintro ws X;clear CS p2;replace O:=I (O.o.below X);replace ad:=I (ad.o.trans (Chg.of_below X) (fun _ _ x=>x));clear X;have ar:=I (show ws.there g 3 cy.size from Wh.BO O.o 3 _ (by rw[au.o];simp [AQ])))
  |(refine wpList_store_mid (by rfl) 30 (.tmp 47) (.tmp 45) (by rfl) g 3 cy (by rfl) (by rfl) ar.o af.o ag.o ?_;have HQ:=I (UR O.o ak.o);have az:(ws.setCells g 3 cy.toList).cell? ⟨g,35,none⟩=some (.int .i64 q.u):=(by have h:=Uk HQ.o;exact h);have fz:=HQ.o.frozen)
  |fail)
 go_end0
 refine⟨rfl,?_,?_⟩
 ·rw[<-ax.o];exact RO HQ.o 8
 ·have h2:Chg (fun j=>j=g) ws (ws.setCells g 3 cy.toList):=Chg.of_grown (Wh.Dp _ _ _ _) rfl
  exact(ad.o.trans h2 (fun _ _ x=>x)).trans (Gf _ _ _ _) (fun _ _ x=>x)
end
theorem WO (w:World):Calls Tryz.prog 12 #[] w fun e w'=>e=.returned (.bool true)/\Below w.heap.size w w':=by
 have CB:=I (RM w);have L1:=I (fun(w1:World)=>Nq w1);go_enter Tryz.func12,Tryz.ntmps12
 go_upto_region 4 with(first
  |(go_at_call 5;refine Calls.mono CB.o ?_;rintro e w1 ⟨g,x,p,m,rfl,hp,ai,hc,hn,hg,aw,Z⟩;clear CB;have X:=I hc;have NG:=I hn;have an:=I hg;have Y:=I Z;clear hc hn hg Z)
  |fail)
 obtain⟨cg,af⟩:=Aj (prA p.k x pq0);have M:=I (show Blk w1 g 32 cg by rw[af];exact an.o);have ae:=I (show cg[0]? = some (pv p.k) by rw[af];rfl);have CC:=I (fun(w2:World) (m2:CM) (h:Cl w2 w.heap.size p m2 st0 0)=>RN h hp ai 1 (by decide));have ar:=I (fun(w2:World) (m2:CM) (h:Cl w2 w.heap.size p m2 (s1 0) 2)=>Uj h (sz1 hp) (by decide) 1 rfl);have CS:=I (fun(w2:World) (m2:CM) (h:Cl w2 w.heap.size p m2 (s1 0) (2+2))=>(show Calls Tryz.prog 11 #[pv p.k] w2 fun e w'=>e=.returned (.tuple #[.int .i64 1,.int .i64 0,.int .i64 1])/\Below w2.heap.size w2 w' from IV h));have ao:=WJ 1 (by decide);obtain⟨b0,ah⟩:=Aj (lO (mgO (mAs (firQ annP st0 1))));rw[<-ah] at CC ao;clear an hp ai aw af ah;have O:Below w1.heap.size w1 w1.drew:=below_drewN Ag 1;replace X:=I (X.o.below O);replace Y:=Y.t O;replace M:=I (M.o.below O);clear O;refine Reg.AM (fun w'=>Blk w' g 32 cg) 13 rfl (by kernel_rfl) M.o ?_;refine Reg.ty 0 rfl M.o ?_;refine Reg.ty 1 rfl M.o ?_;refine Reg.ty 2 rfl M.o ?_;refine Reg.tw 3 (v:=pv p.k) rfl M.o (fun w' hS=>by have q0:=(hS.cell 0).trans ae.o;go_simp<;>rfl) ?_;refine Reg.b1 4 ?_
 right
 refine⟨_,_,_,_,_,_,7,#[],rfl,by rfl,(by go_simp<;>first | rfl | exact⟨rfl,rfl⟩),?_⟩;refine Ah (L1.o _) ?_;rintro ax Z;replace X:=I (X.o.below Z);replace Y:=Y.t Z;replace M:=I (M.o.below Z);clear Z;refine⟨_,rfl,M.o,?_⟩;simp only[Act.put,J,U,Aa];refine Reg.b1 5 ?_
 right
 refine⟨_,_,_,_,_,_,6,#[pv p.k,prV Bc,.int .i64 1],rfl,by rfl,(by go_simp<;>first | rfl | exact⟨rfl,rfl⟩),?_⟩;refine Calls.mono (CC.o _ _ X.o) ?_;rintro e au ⟨v1,m1,rfl,hs,hk⟩;have aa:=hk.blk M.o NG.o;replace NG:=I (hk.not NG.o M.o.lt);replace M:=I aa;clear aa;replace Y:=I (Es Y.o X.o hk);replace X:=I hk.cl;obtain⟨A1,c1,ab,_⟩:=hs;have aj:=I ab;clear ab;clear hk;clear CC;refine⟨_,rfl,M.o,?_⟩;simp only[Act.put,J,U,Aa];refine Reg.ty 6 rfl M.o ?_;refine Reg.ty 7 rfl M.o ?_;refine Reg.ty 8 rfl M.o ?_;refine Reg.ty 9 rfl M.o ?_;refine Reg.ty 10 rfl M.o ?_;refine Reg.ty 11 rfl M.o ?_;refine Reg.ty 12 rfl M.o ?_;refine wpAnyH_done (by kernel_rfl) ?_ _
 go_upto_region 5 with fail
 obtain⟨w5,ag⟩:=Aj (au);rw[<-ag] at X M Y⊢;clear ag;have O:Below w5.heap.size w5 w5.drew:=below_drewN Ag 1;replace X:=I (X.o.below O);replace Y:=Y.t O;replace M:=I (M.o.below O);clear O;refine Reg.AM (fun w'=>Blk w' g 32 cg) 13 rfl (by kernel_rfl) M.o ?_;refine Reg.ty 0 rfl M.o ?_;refine Reg.ty 1 rfl M.o ?_;refine Reg.ty 2 rfl M.o ?_;refine Reg.tw 3 (v:=pv p.k) rfl M.o (fun w' hS=>by have q0:=(hS.cell 0).trans ae.o;go_simp<;>rfl) ?_;refine Reg.b1 4 ?_
 right
 refine⟨_,_,_,_,_,_,7,#[],rfl,by rfl,(by go_simp<;>first | rfl | exact⟨rfl,rfl⟩),?_⟩;refine Ah (L1.o _) ?_;rintro av Z;replace X:=I (X.o.below Z);replace Y:=Y.t Z;replace M:=I (M.o.below Z);clear Z;refine⟨_,rfl,M.o,?_⟩;simp only[Act.put,J,U,Aa];refine Reg.b1 5 ?_
 right
 refine⟨_,_,_,_,_,_,6,#[pv p.k,prV Bc,.int .i64 1],rfl,by rfl,(by go_simp<;>first | rfl | exact⟨rfl,rfl⟩),?_⟩;refine Calls.mono (ar.o _ _ X.o) ?_;rintro e ad ⟨v2,m2,rfl,_,hk⟩;have aa:=hk.blk M.o NG.o;replace NG:=I (hk.not NG.o M.o.lt);replace M:=I aa;clear aa;replace Y:=I (Es Y.o X.o hk);replace X:=I hk.cl;clear hk;clear ar;refine⟨_,rfl,M.o,?_⟩;simp only[Act.put,J,U,Aa];refine Reg.ty 6 rfl M.o ?_;refine Reg.ty 7 rfl M.o ?_;refine Reg.ty 8 rfl M.o ?_;refine Reg.ty 9 rfl M.o ?_;refine Reg.ty 10 rfl M.o ?_;refine Reg.ty 11 rfl M.o ?_;refine Reg.ty 12 rfl M.o ?_;refine wpAnyH_done (by kernel_rfl) ?_ _;have q0:ad.cell? ⟨g,0,none⟩=some (pv p.k):=(M.o.cell 0).trans ae.o;have ab:=aj.o;subst ab;clear aj;obtain⟨nb,ak⟩:=Aj (b0.length);rw[<-ak] at ao⊢;have t1:decide ((0:Int)<(nb:Int))=true:=decide_eq_true (by omega);clear ak
 go_wp2_with (first
  |(go_at_call 11;refine Ah (CS.o _ _ X.o) ?_;rintro w9 Z;clear CS q0;replace Y:=Y.t Z;clear Z)
  |fail)
 go_ret;exact⟨rfl,Y.o⟩
open Nm (FX)
open Ms (Re Rp rpC rpO EncR)
open SeL (BZ Cy)
theorem US:pSm annP:=⟨by decide,by decide⟩
abbrev acA (k wy:Int) (r x:L) (n:Int) (b:Value) (now:Int):Array Value:=#[.int .i64 k,.int .i64 wy,.string ⟨r.toArray⟩,.string ⟨x.toArray⟩,.int .i64 n,b,.int .i64 now]
theorem Lk (q:Pq) (s:Pr) (no:Int):Tryz.prog.built 104 [(0,.agg (AW (Ex q.no.toNat))),(1,.agg #[.string ⟨s.1.toArray⟩,.string ⟨s.2.toArray⟩]),(2,.int .i64 0),(3,.int .i64 500),(4,.int .i64 no)]=some (rpC (repP q s no)).toArray:=by kernel_rfl
theorem Ll (q:Re) (b a:Value):Tryz.prog.built 61 [(0,.int .i64 3),(3,.agg (reA q b a))]=some (Mc.mgA 3 Mc.zA Mc.zT (reA q b a) Mc.zP Mc.zF):=by kernel_rfl
section
variable {w w' w0:World}
theorem RQ {q:Re} {A1 A2:Option Addr} {c1 c2:Nat} (hs:mSm (mRe q)) (r1:Rd w w.heap.size A1 (bvs q.t.b)) (r2:Rd w w.heap.size A2 (bvs q.b)):Calls Tryz.prog 29 #[.agg (Mc.mgA 3 Mc.zA Mc.zT (reA q (.slice A1 q.t.b.length c1) (.slice A2 q.b.length c2)) Mc.zP Mc.zF)] w (EncR w (mgO (mRe q))):=
 Ms.Nj (mRe q) none none A1 A2 none none 0 0 c1 c2 0 0 w hs (.inr rfl) rfl rfl (.inl rfl) (.inl rfl) r1 r2 (.inl rfl) (.inl rfl)
theorem Yx {g k x n:Nat} {q:Pq} {kd N now:Int} {r nx:L} {bv:Value} (h:Blk w g 32 (prA k x q)) (hq:q.no=(n:Int)) (hn:n<=1000000) (hr:r.length<=1000000) (hx:nx.length<=1000000) :
  Calls Tryz.prog 10 #[pv g,.agg (acA kd 0 r nx N bv now)] w fun e w'=>∃v,e=.returned v/\SlN (fun j=>j<w.heap.size) w' v (repL q (r,krb++nx) annP q.no)/\Below w.heap.size w w':=by
 obtain⟨W,eW⟩:=Aj (w.alloc (.cells (acA kd 0 r nx N bv now) 43));have X:Below w.heap.size w W:=eW▸Ag.alloc Af _;have M:=I (show Blk W w.heap.size 43 (acA kd 0 r nx N bv now) from eW▸Blk.new w _ _);have O:=I (h.below X);have HB:=I X;have C1:=I (fun(w1:World)=>FX nx w1 (by omega));have L1:=I (fun(w1:World)=>Nq w1);have L2:=I (fun(w1:World)=>WC w1);have C2:=I (fun(w1:World)=>WD n (by omega) w1);have aD:pSm (r,krb++nx):=⟨Nat.le_trans hr (by decide),by show(krb++nx).length<=1000000000;rw[List.length_append,krb_7];omega⟩;have C3:=I (fun(w1:World)=>Ms.IS (repP q (r,krb++nx) q.no) w1 (by simp [repP]) aD);have an:=I (Lk q (r,krb++nx) q.no);have ba:q.no.toNat=n:=by omega
 rw[ba] at an;have aW:(prA k x q)[2]? = some (.int .i64 (n:Int)):=by rw[<-hq];rfl
 have ay:=I (fun(w1:World) (hx:Blk w1 g 32 (prA k x q))=>(show w1.rangeAt g 3 (AW q.ks).toList from Wh.CY (pre:=[pv k,pv x,.int .i64 q.no]) (post:=[.int .i64 q.u]) hx (by simp) 3 rfl));have bh:=I (show(Tryz.prog.info? 30).map (·.size)=some (AW q.ks).size by rw[AQ];kernel_rfl);have ax:=I (fun(w1:World) (hx:Blk w1 g 32 (prA k x q))=>Uk hx);have aH:=I (fun(w1:World) (hx:Blk w1 g 32 (prA k x q))=>(hx.cell 2).trans aW);have C4:=I (fun(w1:World) (A:Option Addr) (l c:Nat) (hl:l=(lO (rpO (repP q (r,krb++nx) q.no))).length) (bu:Rd w1 w1.heap.size A (bvs (lO (rpO (repP q (r,krb++nx) q.no)))))=>SeL.KJ q.ks q.u 55 A l c (lO (rpO (repP q (r,krb++nx) q.no))) w1 hl bu);have aS:mSm (mRe (repR q (r,krb++nx) annP q.no)):=⟨⟨Mc.BD,Mc.BD⟩,⟨Mc.BD,Mc.BD⟩,⟨US,aD⟩,Mc.BD⟩;have C5:=I (fun(w1:World) (A1 A2:Option Addr) (c1 c2 l2:Nat) (hl:l2=(repR q (r,krb++nx) annP q.no).b.length) (r1:Rd w1 w1.heap.size A1 (bvs [1,2])) (r2:Rd w1 w1.heap.size A2 (bvs (repR q (r,krb++nx) annP q.no).b))=>(show Calls Tryz.prog 29 #[.agg (Mc.mgA 3 Mc.zA Mc.zT (reA (repR q (r,krb++nx) annP q.no) (.slice A1 2 c1) (.slice A2 l2 c2)) Mc.zP Mc.zF)] w1 (EncR w1 (mgO (mRe (repR q (r,krb++nx) annP q.no)))) by rw[hl];exact RQ aS r1 r2));have EL:=I (show repL q (r,krb++nx) annP q.no=lO (mgO (mRe (repR q (r,krb++nx) annP q.no))) from rfl);rw[EL.o];have EB:=I (show(repR q (r,krb++nx) annP q.no).b=(BZ q.ks q.u 55 (lO (rpO (repP q (r,krb++nx) q.no)))).1 from rfl);have aC:=I (fun(b a:Value)=>Ll (repR q (r,krb++nx) annP q.no) b a);have bd:=I (fun(b a:Value)=>(show reA (repR q (r,krb++nx) annP q.no) b a=#[.string ⟨annP.1.toArray⟩,.string ⟨annP.2.toArray⟩,.string ⟨(r,krb++nx).1.toArray⟩,.string ⟨(r,krb++nx).2.toArray⟩,.int .i64 1,b,a] from rfl));obtain⟨RR,aZ⟩:=Aj (repR q (r,krb++nx) annP q.no);rw[<-aZ] at C5 EB aC bd⊢;obtain⟨lb,aA⟩:=Aj (lO (rpO (repP q (r,krb++nx) q.no)));have aB:=I aA;rw[<-aA] at C4 EB;obtain⟨aR,aw⟩:=Aj (rpO (repP q (r,krb++nx) q.no));rw[<-aw] at C3 aB;obtain⟨cr,aJ⟩:=Aj ((rpC (repP q (r,krb++nx) q.no)).toArray);rw[<-aJ] at C3 an;rw[hq] at an;obtain⟨sb,aM⟩:=Aj (BZ q.ks q.u 55 lb);rw[<-aM] at C4 EB;obtain⟨cg,aU⟩:=Aj (prA k x q);rw[<-aU] at O ay ax aH;obtain⟨cy,bg⟩:=Aj (AW q.ks);rw[<-bg] at ay bh C4;obtain⟨cz,bf⟩:=Aj (AW (Ex n));rw[<-bf] at C2 an;clear h X hq hn hr hx aD aS ba aW aZ aA aw aJ aM aU bg bf;go_enter Tryz.func10,Tryz.ntmps10
 go_upto_region 1 with fail
 rw[<-eW];clear eW;obtain⟨ga,aE⟩:=Aj (w.heap.size);have bF:=I aE;rw[<-aE] at M⊢;clear aE
 go_cut [5] from 16 to 21 (fun tv wx=>∃(PT:Nat),tv=.pointer (some ⟨PT,0,none⟩)/\Blk wx PT 35 #[.string ⟨(r,krb++nx).1.toArray⟩,.string ⟨(r,krb++nx).2.toArray⟩]/\Blk wx ga 43 (acA kd 0 r nx N bv now)/\Blk wx g 32 cg/\Below w.heap.size w wx)
 case first=>
  have Z:Below W.heap.size W W.drew:=below_drewN Ag 1;replace HB:=HB.t Z;replace M:=I (M.o.below Z);replace O:=I (O.o.below Z);clear Z;refine Reg.AM (fun w'=>Blk w' ga 43 (acA kd 0 r nx N bv now)/\Blk w' g 32 cg) 8 rfl (by kernel_rfl) ⟨M.o,O.o⟩ ?_;refine Reg.ty 0 rfl ⟨M.o,O.o⟩ ?_;refine Reg.tw 1 (v:=.string ⟨r.toArray⟩) rfl ⟨M.o,O.o⟩ (fun w' hS=>by obtain⟨hA,hG⟩:=hS;have q2:=hA.cell 2;go_simp<;>rfl) ?_;refine Reg.ty 2 rfl ⟨M.o,O.o⟩ ?_;refine Reg.tw 3 (v:=.string ⟨nx.toArray⟩) rfl ⟨M.o,O.o⟩ (fun w' hS=>by obtain⟨hA,hG⟩:=hS;have q3:=hA.cell 3;go_simp<;>rfl) ?_;refine Reg.b2 4 6 ?_ ?_
  ·right
   refine⟨_,_,_,_,_,_,28,#[.string ⟨nx.toArray⟩],rfl,by rfl,(by go_simp<;>first | rfl | exact⟨rfl,rfl⟩),?_⟩;refine Ah (C1.o _) ?_;rintro bE hw;subst hw;clear C1;refine⟨_,rfl,⟨M.o,O.o⟩,?_⟩;simp only[Act.put,J,U,Aa];refine Reg.tw 5 (v:=.agg #[.string ⟨(r,krb++nx).1.toArray⟩,.string ⟨(r,krb++nx).2.toArray⟩]) rfl ⟨M.o,O.o⟩ (fun w' hS=>by obtain⟨hA,hG⟩:=hS;go_simp<;>rfl) ?_;refine Reg.b1 6 ?_
   left
   have X:Below W.drew.heap.size W.drew (W.drew.alloc (.cells #[.string ⟨#[]⟩,.string ⟨#[]⟩] 35)):=Ag.alloc Af _;have ae:=Blk.new W.drew 35 #[.string ⟨#[]⟩,.string ⟨#[]⟩];have LT:=I HB.o.size;have aa:=I (Nat.ne_of_lt M.o.lt);have ab:=I (Nat.ne_of_lt O.o.lt);refine⟨_,_,_,_,_,_,.pointer (some ⟨W.drew.heap.size,0,none⟩),W.drew.alloc (.cells #[.string ⟨#[]⟩,.string ⟨#[]⟩] 35),rfl,by rfl,(by go_simp<;>rfl),⟨(M.o.below X),(O.o.below X)⟩,?_⟩;simp only[Act.put,J,U,Aa];obtain⟨bq,aj⟩:=Aj (W.drew.alloc (.cells #[.string ⟨#[]⟩,.string ⟨#[]⟩] 35));rw[<-aj] at X ae⊢;clear aj;replace HB:=HB.t X;replace M:=I (M.o.below X);replace O:=I (O.o.below X);have HT:=I ae;clear ae X;obtain⟨PT,af⟩:=Aj (W.drew.heap.size);rw[<-af] at HT LT aa ab⊢;clear af;refine Reg.AI 7 rfl (by kernel_rfl) (by rfl) PT 35 _ #[.string ⟨(r,krb++nx).1.toArray⟩,.string ⟨(r,krb++nx).2.toArray⟩] HT.o (by rfl) (by rfl) (by rfl) Rg.AZ (by simp [Value.oneCell']) ?_;intro bD hV hg;replace HT:=I hV;replace HB:=I (btg HB.o hg LT.o);replace M:=I (M.o.grown hg (fun e=>by injection e with e;exact aa.o e.symm));replace O:=I (O.o.grown hg (fun e=>by injection e with e;exact ab.o e.symm));clear hV hg aa ab;refine⟨⟨M.o,O.o⟩,?_⟩;simp only[Act.put,J,U,Aa];refine wpAnyH_done (by kernel_rfl) ?_ _
   go_wp2_with fail
   go_meet
   exact⟨PT,rfl,HT.o,M.o,O.o,HB.o⟩
  ·left
   have X:Below W.drew.heap.size W.drew (W.drew.alloc (.cells #[.string ⟨#[]⟩,.string ⟨#[]⟩] 35)):=Ag.alloc Af _;have ae:=Blk.new W.drew 35 #[.string ⟨#[]⟩,.string ⟨#[]⟩];have LT:=I HB.o.size;have aa:=I (Nat.ne_of_lt M.o.lt);have ab:=I (Nat.ne_of_lt O.o.lt);refine⟨_,_,_,_,_,_,.pointer (some ⟨W.drew.heap.size,0,none⟩),W.drew.alloc (.cells #[.string ⟨#[]⟩,.string ⟨#[]⟩] 35),rfl,by rfl,(by go_simp<;>rfl),⟨(M.o.below X),(O.o.below X)⟩,?_⟩;simp only[Act.put,J,U,Aa];obtain⟨br,ak⟩:=Aj (W.drew.alloc (.cells #[.string ⟨#[]⟩,.string ⟨#[]⟩] 35));rw[<-ak] at X ae⊢;clear ak;replace HB:=HB.t X;replace M:=I (M.o.below X);replace O:=I (O.o.below X);have HT:=I ae;clear ae X;obtain⟨PT,af⟩:=Aj (W.drew.heap.size);rw[<-af] at HT LT aa ab⊢;clear af;refine Reg.b1 4 ?_
   right
   refine⟨_,_,_,_,_,_,28,#[.string ⟨nx.toArray⟩],rfl,by rfl,(by go_simp<;>first | rfl | exact⟨rfl,rfl⟩),?_⟩;refine Ah (C1.o _) ?_;rintro bw hw;subst hw;clear C1;refine⟨_,rfl,⟨M.o,O.o⟩,?_⟩;simp only[Act.put,J,U,Aa];refine Reg.tw 5 (v:=.agg #[.string ⟨(r,krb++nx).1.toArray⟩,.string ⟨(r,krb++nx).2.toArray⟩]) rfl ⟨M.o,O.o⟩ (fun w' hS=>by obtain⟨hA,hG⟩:=hS;go_simp<;>rfl) ?_;refine Reg.AI 7 rfl (by kernel_rfl) (by rfl) PT 35 _ #[.string ⟨(r,krb++nx).1.toArray⟩,.string ⟨(r,krb++nx).2.toArray⟩] HT.o (by rfl) (by rfl) (by rfl) Rg.AZ (by simp [Value.oneCell']) ?_;intro bn hV hg;replace HT:=I hV;replace HB:=I (btg HB.o hg LT.o);replace M:=I (M.o.grown hg (fun e=>by injection e with e;exact aa.o e.symm));replace O:=I (O.o.grown hg (fun e=>by injection e with e;exact ab.o e.symm));clear hV hg aa ab;refine⟨⟨M.o,O.o⟩,?_⟩;simp only[Act.put,J,U,Aa];refine wpAnyH_done (by kernel_rfl) ?_ _
   go_wp2_with fail
   go_meet
   exact⟨PT,rfl,HT.o,M.o,O.o,HB.o⟩
 case rest=>
  obtain⟨PT,rfl,ht,ha,hg,X⟩:=hcut;have aL:=I ht;replace M:=I ha;replace O:=I hg;replace HB:=I X;clear ht ha hg X C1;have a1:=M.c1;have Y:=I aL.o;clear aL L1
  go_upto_region 9 with fail
  clear a1;obtain⟨gq,aK⟩:=Aj (PT);rw[<-aK] at Y⊢;clear aK
  go_cut [8,9] from 50 to 54 (fun nv wv wx=>∃(PT:Nat),nv=.int .i64 (n:Int)/\wv=.pointer (some ⟨PT,0,none⟩)/\Blk wx PT 35 #[.string ⟨annP.1.toArray⟩,.string ⟨annP.2.toArray⟩]/\Blk wx ga 43 (acA kd 0 r nx N bv now)/\Blk wx g 32 cg/\Blk wx gq 35 #[.string ⟨(r,krb++nx).1.toArray⟩,.string ⟨(r,krb++nx).2.toArray⟩]/\Below w.heap.size w wx)
  case first=>
   have Z:Below wc.heap.size wc wc.drew:=below_drewN Ag 1;replace HB:=HB.t Z;replace M:=I (M.o.below Z);replace O:=I (O.o.below Z);replace Y:=I (Y.o.below Z);clear Z;refine Reg.AM (fun w'=>Blk w' ga 43 (acA kd 0 r nx N bv now)/\Blk w' g 32 cg/\Blk w' gq 35 #[.string ⟨(r,krb++nx).1.toArray⟩,.string ⟨(r,krb++nx).2.toArray⟩]) 8 rfl (by kernel_rfl) ⟨M.o,O.o,Y.o⟩ ?_;refine Reg.ty 0 rfl ⟨M.o,O.o,Y.o⟩ ?_;refine Reg.ty 1 rfl ⟨M.o,O.o,Y.o⟩ ?_;refine Reg.ty 2 rfl ⟨M.o,O.o,Y.o⟩ ?_;refine Reg.tw 3 (v:=.int .i64 (n:Int)) rfl ⟨M.o,O.o,Y.o⟩ (fun w' hS=>by obtain⟨hA,hG,hQ⟩:=hS;have q2:=aH.o _ hG;go_simp<;>rfl) ?_;refine Reg.b2 4 5 ?_ ?_
   ·right
    refine⟨_,_,_,_,_,_,14,#[],rfl,by rfl,(by go_simp<;>first | rfl | exact⟨rfl,rfl⟩),?_⟩;refine Ah (L2.o _) ?_;rintro ad X;replace HB:=HB.t X;replace M:=I (M.o.below X);replace O:=I (O.o.below X);replace Y:=I (Y.o.below X);clear X;clear L2;refine⟨_,rfl,⟨M.o,O.o,Y.o⟩,?_⟩;simp only[Act.put,J,U,Aa];refine Reg.b1 5 ?_
    left
    have X:Below ad.heap.size ad (ad.alloc (.cells #[.string ⟨#[]⟩,.string ⟨#[]⟩] 35)):=Ag.alloc Af _;have ae:=Blk.new ad 35 #[.string ⟨#[]⟩,.string ⟨#[]⟩];have LT:=I HB.o.size;have aa:=I (Nat.ne_of_lt M.o.lt);have ab:=I (Nat.ne_of_lt O.o.lt);have ag:=I (Nat.ne_of_lt Y.o.lt);refine⟨_,_,_,_,_,_,.pointer (some ⟨ad.heap.size,0,none⟩),ad.alloc (.cells #[.string ⟨#[]⟩,.string ⟨#[]⟩] 35),rfl,by rfl,(by go_simp<;>rfl),⟨(M.o.below X),(O.o.below X),(Y.o.below X)⟩,?_⟩;simp only[Act.put,J,U,Aa];obtain⟨bl,ai⟩:=Aj (ad.alloc (.cells #[.string ⟨#[]⟩,.string ⟨#[]⟩] 35));rw[<-ai] at X ae⊢;clear ai;replace HB:=HB.t X;replace M:=I (M.o.below X);replace O:=I (O.o.below X);replace Y:=I (Y.o.below X);have HT:=I ae;clear ae X;obtain⟨PT,af⟩:=Aj (ad.heap.size);rw[<-af] at HT LT aa ab ag⊢;clear af;refine Reg.ty 6 rfl ⟨M.o,O.o,Y.o⟩ ?_;refine Reg.AI 7 rfl (by kernel_rfl) (by rfl) PT 35 _ #[.string ⟨annP.1.toArray⟩,.string ⟨annP.2.toArray⟩] HT.o (by rfl) (by rfl) (by rfl) Rg.AZ (by simp [Value.oneCell']) ?_;intro bm hV hg;replace HT:=I hV;replace HB:=I (btg HB.o hg LT.o);replace M:=I (M.o.grown hg (fun e=>by injection e with e;exact aa.o e.symm));replace O:=I (O.o.grown hg (fun e=>by injection e with e;exact ab.o e.symm));replace Y:=I (Y.o.grown hg (fun e=>by injection e with e;exact ag.o e.symm));clear hV hg aa ab ag;refine⟨⟨M.o,O.o,Y.o⟩,?_⟩;simp only[Act.put,J,U,Aa];refine wpAnyH_done (by kernel_rfl) ?_ _
    go_wp2_with fail
    go_meet
    exact⟨PT,rfl,rfl,HT.o,M.o,O.o,Y.o,HB.o⟩
   ·left
    have X:Below wc.drew.heap.size wc.drew (wc.drew.alloc (.cells #[.string ⟨#[]⟩,.string ⟨#[]⟩] 35)):=Ag.alloc Af _;have ae:=Blk.new wc.drew 35 #[.string ⟨#[]⟩,.string ⟨#[]⟩];have LT:=I HB.o.size;have aa:=I (Nat.ne_of_lt M.o.lt);have ab:=I (Nat.ne_of_lt O.o.lt);have ag:=I (Nat.ne_of_lt Y.o.lt);refine⟨_,_,_,_,_,_,.pointer (some ⟨wc.drew.heap.size,0,none⟩),wc.drew.alloc (.cells #[.string ⟨#[]⟩,.string ⟨#[]⟩] 35),rfl,by rfl,(by go_simp<;>rfl),⟨(M.o.below X),(O.o.below X),(Y.o.below X)⟩,?_⟩;simp only[Act.put,J,U,Aa];obtain⟨bj,ah⟩:=Aj (wc.drew.alloc (.cells #[.string ⟨#[]⟩,.string ⟨#[]⟩] 35));rw[<-ah] at X ae⊢;clear ah;replace HB:=HB.t X;replace M:=I (M.o.below X);replace O:=I (O.o.below X);replace Y:=I (Y.o.below X);have HT:=I ae;clear ae X;obtain⟨PT,af⟩:=Aj (wc.drew.heap.size);rw[<-af] at HT LT aa ab ag⊢;clear af;refine Reg.b1 4 ?_
    right
    refine⟨_,_,_,_,_,_,14,#[],rfl,by rfl,(by go_simp<;>first | rfl | exact⟨rfl,rfl⟩),?_⟩;refine Ah (L2.o _) ?_;rintro bA X;replace HB:=HB.t X;replace M:=I (M.o.below X);replace O:=I (O.o.below X);replace Y:=I (Y.o.below X);replace HT:=I (HT.o.below X);clear X;clear L2;refine⟨_,rfl,⟨M.o,O.o,Y.o⟩,?_⟩;simp only[Act.put,J,U,Aa];refine Reg.ty 6 rfl ⟨M.o,O.o,Y.o⟩ ?_;refine Reg.AI 7 rfl (by kernel_rfl) (by rfl) PT 35 _ #[.string ⟨annP.1.toArray⟩,.string ⟨annP.2.toArray⟩] HT.o (by rfl) (by rfl) (by rfl) Rg.AZ (by simp [Value.oneCell']) ?_;intro bo hV hg;replace HT:=I hV;replace HB:=I (btg HB.o hg LT.o);replace M:=I (M.o.grown hg (fun e=>by injection e with e;exact aa.o e.symm));replace O:=I (O.o.grown hg (fun e=>by injection e with e;exact ab.o e.symm));replace Y:=I (Y.o.grown hg (fun e=>by injection e with e;exact ag.o e.symm));clear hV hg aa ab ag;refine⟨⟨M.o,O.o,Y.o⟩,?_⟩;simp only[Act.put,J,U,Aa];refine wpAnyH_done (by kernel_rfl) ?_ _
    go_wp2_with fail
    go_meet
    exact⟨PT,rfl,rfl,HT.o,M.o,O.o,Y.o,HB.o⟩
  case rest=>
   obtain⟨PW,rfl,rfl,ht,ha,hg,hq,X⟩:=hcut;have HW:=I ht;replace M:=I ha;replace O:=I hg;replace Y:=I hq;replace HB:=I X;clear ht ha hg hq X;have a1:=M.c1
   go_upto_region 14 with fail
   clear a1;have Z:Below wc.heap.size wc wc.drew:=below_drewN Ag 1;replace HB:=HB.t Z;replace M:=I (M.o.below Z);replace O:=I (O.o.below Z);replace Y:=I (Y.o.below Z);replace HW:=I (HW.o.below Z);clear Z;refine Reg.AM (fun w'=>Blk w' ga 43 (acA kd 0 r nx N bv now)/\Blk w' g 32 cg/\Blk w' gq 35 #[.string ⟨(r,krb++nx).1.toArray⟩,.string ⟨(r,krb++nx).2.toArray⟩]/\Blk w' PW 35 #[.string ⟨annP.1.toArray⟩,.string ⟨annP.2.toArray⟩]) 14 rfl (by kernel_rfl) ⟨M.o,O.o,Y.o,HW.o⟩ ?_;refine Reg.ty 0 rfl ⟨M.o,O.o,Y.o,HW.o⟩ ?_;refine Reg.ty 1 rfl ⟨M.o,O.o,Y.o,HW.o⟩ ?_;refine Reg.ty 2 rfl ⟨M.o,O.o,Y.o,HW.o⟩ ?_;refine Reg.tw 3 (v:=.int .i64 (n:Int)) rfl ⟨M.o,O.o,Y.o,HW.o⟩ (fun w' hS=>by obtain⟨hA,hG,hQ,hW⟩:=hS;have q2:=aH.o _ hG;go_simp<;>rfl) ?_;refine Reg.tw 5 (v:=.agg #[.string ⟨(r,krb++nx).1.toArray⟩,.string ⟨(r,krb++nx).2.toArray⟩]) rfl ⟨M.o,O.o,Y.o,HW.o⟩ (fun w' hS=>by obtain⟨hA,hG,hQ,hW⟩:=hS;have q0:=hQ.cell 0;have q1:=hQ.cell 1;go_simp<;>rfl) ?_;refine Reg.ty 6 rfl ⟨M.o,O.o,Y.o,HW.o⟩ ?_;refine Reg.b1 4 ?_
   right
   refine⟨_,_,_,_,_,_,15,#[.int .i64 (n:Int)],rfl,by rfl,(by go_simp<;>first | rfl | exact⟨rfl,rfl⟩),?_⟩;refine Ah (C2.o _) ?_;rintro bp X;replace HB:=HB.t X;replace M:=I (M.o.below X);replace O:=I (O.o.below X);replace Y:=I (Y.o.below X);replace HW:=I (HW.o.below X);clear X;clear C2;refine⟨_,rfl,⟨M.o,O.o,Y.o,HW.o⟩,?_⟩;simp only[Act.put,J,U,Aa];refine Reg.tw 7 (v:=.agg cr) rfl ⟨M.o,O.o,Y.o,HW.o⟩ (fun w' hS=>by obtain⟨hA,hG,hQ,hW⟩:=hS;refine Bq (t:=104) (by rfl) (by simp only[List.map_toArray,List.map_cons,List.map_nil];exact an.o)) ?_;refine Reg.b1 8 ?_
   right
   refine⟨_,_,_,_,_,_,30,#[.agg cr],rfl,by rfl,(by go_simp<;>first | rfl | exact⟨rfl,rfl⟩),?_⟩;refine Calls.mono (C3.o _) ?_;rintro e aF he;obtain⟨v1,rfl,bC,X⟩:=Jx he;clear he;replace HB:=HB.t X;replace M:=I (M.o.below X);replace O:=I (O.o.below X);replace Y:=I (Y.o.below X);replace HW:=I (HW.o.below X);have S1:=I bC;clear X;clear C3;refine⟨_,rfl,⟨M.o,O.o,Y.o,HW.o⟩,?_⟩;simp only[Act.put,J,U,Aa];refine Reg.ty 9 rfl ⟨M.o,O.o,Y.o,HW.o⟩ ?_;refine Reg.ty 10 rfl ⟨M.o,O.o,Y.o,HW.o⟩ ?_;refine Reg.ty 11 rfl ⟨M.o,O.o,Y.o,HW.o⟩ ?_;refine Reg.ty 12 rfl ⟨M.o,O.o,Y.o,HW.o⟩ ?_;refine Reg.ty 13 rfl ⟨M.o,O.o,Y.o,HW.o⟩ ?_;refine wpAnyH_done (by kernel_rfl) ?_ _;obtain⟨W5,aP⟩:=Aj (aF);rw[<-aP] at M O Y HW HB S1⊢;clear aP;obtain⟨A1,c1,bs,bx,aV⟩:=S1.o;subst bs;have c4:=fun(w1:World) (X:Below W5.heap.size W5 w1)=>C4.o w1 A1 (lO aR).length c1 (by rw[aB.o]) (by rw[aB.o];exact(aV.rd.below X).more X.size)
   have az:=I c4;obtain⟨l1,aT⟩:=Aj ((lO aR).length);rw[<-aT] at az⊢;clear S1 bx aV c4 C4 aT
   go_upto_region 15 with fail
   have Z:Below W5.heap.size W5 W5.drew:=below_drewN Ag 1;replace HB:=HB.t Z;replace M:=I (M.o.below Z);replace O:=I (O.o.below Z);replace Y:=I (Y.o.below Z);replace HW:=I (HW.o.below Z);clear Z;refine Reg.AM (fun w'=>Blk w' ga 43 (acA kd 0 r nx N bv now)/\Blk w' g 32 cg/\Blk w' gq 35 #[.string ⟨(r,krb++nx).1.toArray⟩,.string ⟨(r,krb++nx).2.toArray⟩]/\Blk w' PW 35 #[.string ⟨annP.1.toArray⟩,.string ⟨annP.2.toArray⟩]) 15 rfl (by kernel_rfl) ⟨M.o,O.o,Y.o,HW.o⟩ ?_;refine Reg.ty 0 rfl ⟨M.o,O.o,Y.o,HW.o⟩ ?_;refine Reg.ty 1 rfl ⟨M.o,O.o,Y.o,HW.o⟩ ?_;refine Reg.ty 2 rfl ⟨M.o,O.o,Y.o,HW.o⟩ ?_;refine Reg.tw 3 (v:=.agg cy) rfl ⟨M.o,O.o,Y.o,HW.o⟩ (fun w' hS=>by obtain⟨hA,hG,hQ,hW⟩:=hS;exact Hn (.tmp 79) rfl rfl (ay.o _ hG) Tryz.underlying30 (by rfl) bh.o) ?_;refine Reg.ty 4 rfl ⟨M.o,O.o,Y.o,HW.o⟩ ?_;refine Reg.ty 5 rfl ⟨M.o,O.o,Y.o,HW.o⟩ ?_;refine Reg.ty 6 rfl ⟨M.o,O.o,Y.o,HW.o⟩ ?_;refine Reg.tw 7 (v:=.int .i64 q.u) rfl ⟨M.o,O.o,Y.o,HW.o⟩ (fun w' hS=>by obtain⟨hA,hG,hQ,hW⟩:=hS;have bG:=ax.o _ hG;go_simp<;>rfl) ?_;refine Reg.ty 8 rfl ⟨M.o,O.o,Y.o,HW.o⟩ ?_;refine Reg.b1 9 ?_
   right
   refine⟨_,_,_,_,_,_,31,#[.agg cy,.int .i64 q.u,.int .i64 55,.slice A1 l1 c1],rfl,by rfl,(by go_simp<;>first | rfl | exact⟨rfl,rfl⟩),?_⟩;refine Calls.mono (az.o _ (below_drewN Ag 1)) ?_;rintro e aG ⟨A2,c2,rfl,aX,X⟩;replace HB:=HB.t X;replace M:=I (M.o.below X);replace O:=I (O.o.below X);replace Y:=I (Y.o.below X);replace HW:=I (HW.o.below X);have S2:=I aX.rd;clear aX;clear X;clear az;refine⟨_,rfl,⟨M.o,O.o,Y.o,HW.o⟩,?_⟩;simp only[Act.put,J,U,Aa];refine Reg.ty 10 rfl ⟨M.o,O.o,Y.o,HW.o⟩ ?_;refine Reg.ty 11 rfl ⟨M.o,O.o,Y.o,HW.o⟩ ?_;refine Reg.ty 12 rfl ⟨M.o,O.o,Y.o,HW.o⟩ ?_;refine Reg.ty 13 rfl ⟨M.o,O.o,Y.o,HW.o⟩ ?_;refine Reg.ty 14 rfl ⟨M.o,O.o,Y.o,HW.o⟩ ?_;refine wpAnyH_done (by kernel_rfl) ?_ _;obtain⟨W6,bb⟩:=Aj (aG);rw[<-bb] at M O Y HW HB S2⊢;clear bb;obtain⟨l2,aI⟩:=Aj (sb.1.length);have bz:=I aI;rw[<-aI] at⊢;clear aI;have a1:=M.c1
   go_upto_region 18 with fail
   clear a1;have b0:=HW.c0;have b1:=HW.c1;have b2:=Y.c0;have b3:=Y.c1;obtain⟨W7,au⟩:=Aj (W6.alloc (.cells #[.int .u8 1,.int .u8 2] 5));have av:Below W6.heap.size W6 W7:=au▸Ag.alloc Af _;have H7:=I (show Rd W7 W7.heap.size (some ⟨W6.heap.size,0,none⟩) (bvs [1,2]) by
    have aQ:Blk W7 W6.heap.size 5 #[.int .u8 1,.int .u8 2]:=au▸Blk.new W6 _ _;refine .inr ⟨_,0,rfl,aQ.lt,fun i u hu=>?_⟩;rw[aQ.cell];rcases i with _ | _ | i
    ·exact hu
    ·exact hu
    ·simp [bvs] at hu)
   have c5:=C5.o W7 (some ⟨W6.heap.size,0,none⟩) A2 2 c2 l2 (by rw[EB.o,bz.o]) H7.o (by rw[EB.o];exact(S2.o.below av).more av.size);have ao:=aC.o (.slice (some ⟨W6.heap.size,0,none⟩) 2 2) (.slice A2 l2 c2);rw[bd.o] at c5 ao;obtain⟨cm,aY⟩:=Aj (Mc.mgA 3 Mc.zA Mc.zT #[.string ⟨annP.1.toArray⟩,.string ⟨annP.2.toArray⟩,.string ⟨(r,krb++nx).1.toArray⟩,.string ⟨(r,krb++nx).2.toArray⟩,.int .i64 1,.slice (some ⟨W6.heap.size,0,none⟩) 2 2,.slice A2 l2 c2] Mc.zP Mc.zF);rw[<-aY] at c5 ao;have aN:=I ao;have bB:=I au;have ar:=HB.t av;clear aY ao aC C5 au av
   go_wp2_with (first
    |(refine Mc.Ax (by rfl) 61 #[(0,.const (.int .i64 3)),(3,.tmp 114)] (by rfl) cm (by simp only[List.map_toArray,List.map_cons,List.map_nil];exact aN.o) ?_)
    |(rw[<-bB.o];go_at_call 29;refine Calls.mono c5 ?_;rintro e w9 he;obtain⟨v9,rfl,aO,X⟩:=Jx he;clear c5 he b0 b1 b2 b3;have HV:=I (aO.mono (S':=fun j=>j<w.heap.size) (fun j _ x=>by have:=ar.o.size;omega));replace ar:=ar.t X;clear X aO)
    |fail)
   go_ret;exact⟨v9,rfl,HV.o,ar.o⟩
theorem ans_1 {g k x n:Nat} {q:Pq} {kd N now:Int} {r nx:L} {bv:Value} (h:Blk w g 32 (prA k x q)) (hq:q.no=(n:Int)) (hn:n<=1000000) (hr:r.length<=1000000) (hx:nx.length<=1000000) :
  Calls Tryz.prog 10 #[pv g,.agg (acA kd 1 r nx N bv now)] w fun e w'=>∃v,e=.returned v/\SlN (fun j=>j<w.heap.size) w' v (repL q Bc annP q.no)/\Below w.heap.size w w':=by
 obtain⟨W,eW⟩:=Aj (w.alloc (.cells (acA kd 1 r nx N bv now) 43));have X:Below w.heap.size w W:=eW▸Ag.alloc Af _;have M:=I (show Blk W w.heap.size 43 (acA kd 1 r nx N bv now) from eW▸Blk.new w _ _);have O:=I (h.below X);have Z:=I X;have C1:=I (fun(w1:World)=>FX nx w1 (by omega));have L1:=I (fun(w1:World)=>Nq w1);have L2:=I (fun(w1:World)=>WC w1);have C2:=I (fun(w1:World)=>WD n (by omega) w1);have aG:pSm Bc:=Ho;have C3:=I (fun(w1:World)=>Ms.IS (repP q Bc q.no) w1 (by simp [repP]) aG);have ar:=I (Lk q Bc q.no);have bg:q.no.toNat=n:=by omega
 rw[bg] at ar;have aZ:(prA k x q)[2]? = some (.int .i64 (n:Int)):=by rw[<-hq];rfl
 have aB:=I (fun(w1:World) (hx:Blk w1 g 32 (prA k x q))=>(show w1.rangeAt g 3 (AW q.ks).toList from Wh.CY (pre:=[pv k,pv x,.int .i64 q.no]) (post:=[.int .i64 q.u]) hx (by simp) 3 rfl));have bn:=I (show(Tryz.prog.info? 30).map (·.size)=some (AW q.ks).size by rw[AQ];kernel_rfl);have aA:=I (fun(w1:World) (hx:Blk w1 g 32 (prA k x q))=>Uk hx);have aK:=I (fun(w1:World) (hx:Blk w1 g 32 (prA k x q))=>(hx.cell 2).trans aZ);have C4:=I (fun(w1:World) (A:Option Addr) (l c:Nat) (hl:l=(lO (rpO (repP q Bc q.no))).length) (bx:Rd w1 w1.heap.size A (bvs (lO (rpO (repP q Bc q.no)))))=>SeL.KJ q.ks q.u 55 A l c (lO (rpO (repP q Bc q.no))) w1 hl bx);have aU:mSm (mRe (repR q Bc annP q.no)):=⟨⟨Mc.BD,Mc.BD⟩,⟨Mc.BD,Mc.BD⟩,⟨US,aG⟩,Mc.BD⟩;have C5:=I (fun(w1:World) (A1 A2:Option Addr) (c1 c2 l2:Nat) (hl:l2=(repR q Bc annP q.no).b.length) (r1:Rd w1 w1.heap.size A1 (bvs [1,2])) (r2:Rd w1 w1.heap.size A2 (bvs (repR q Bc annP q.no).b))=>(show Calls Tryz.prog 29 #[.agg (Mc.mgA 3 Mc.zA Mc.zT (reA (repR q Bc annP q.no) (.slice A1 2 c1) (.slice A2 l2 c2)) Mc.zP Mc.zF)] w1 (EncR w1 (mgO (mRe (repR q Bc annP q.no)))) by rw[hl];exact RQ aU r1 r2));have EL:=I (show repL q Bc annP q.no=lO (mgO (mRe (repR q Bc annP q.no))) from rfl);rw[EL.o];have EB:=I (show(repR q Bc annP q.no).b=(BZ q.ks q.u 55 (lO (rpO (repP q Bc q.no)))).1 from rfl);have aF:=I (fun(b a:Value)=>Ll (repR q Bc annP q.no) b a);have bj:=I (fun(b a:Value)=>(show reA (repR q Bc annP q.no) b a=#[.string ⟨annP.1.toArray⟩,.string ⟨annP.2.toArray⟩,.string ⟨Bc.1.toArray⟩,.string ⟨Bc.2.toArray⟩,.int .i64 1,b,a] from rfl));obtain⟨RR,bf⟩:=Aj (repR q Bc annP q.no);rw[<-bf] at C5 EB aF bj⊢;obtain⟨lb,aD⟩:=Aj (lO (rpO (repP q Bc q.no)));have aE:=I aD;rw[<-aD] at C4 EB;obtain⟨aT,az⟩:=Aj (rpO (repP q Bc q.no));rw[<-az] at C3 aE;obtain⟨cr,aM⟩:=Aj ((rpC (repP q Bc q.no)).toArray);rw[<-aM] at C3 ar;rw[hq] at ar;obtain⟨sb,aO⟩:=Aj (BZ q.ks q.u 55 lb);rw[<-aO] at C4 EB;obtain⟨cg,aW⟩:=Aj (prA k x q);rw[<-aW] at O aB aA aK;obtain⟨cy,bm⟩:=Aj (AW q.ks);rw[<-bm] at aB bn C4;obtain⟨cz,bl⟩:=Aj (AW (Ex n));rw[<-bl] at C2 ar;clear h X hq hn hr hx aG aU bg aZ bf aD az aM aO aW bm bl;go_enter Tryz.func10,Tryz.ntmps10
 go_upto_region 1 with fail
 rw[<-eW];clear eW;obtain⟨ga,aH⟩:=Aj (w.heap.size);have bK:=I aH;rw[<-aH] at M⊢;clear aH
 go_cut [5] from 16 to 21 (fun tv wx=>∃(PT:Nat),tv=.pointer (some ⟨PT,0,none⟩)/\(ga≠PT/\g≠PT/\w.heap.size<=PT)/\Blk wx PT 35 #[.string ⟨(r,krb++nx).1.toArray⟩,.string ⟨(r,krb++nx).2.toArray⟩]/\Blk wx ga 43 (acA kd 1 r nx N bv now)/\Blk wx g 32 cg/\Below w.heap.size w wx)
 case first=>
  have aa:Below W.heap.size W W.drew:=below_drewN Ag 1;replace Z:=Z.t aa;replace M:=I (M.o.below aa);replace O:=I (O.o.below aa);clear aa;refine Reg.AM (fun w'=>Blk w' ga 43 (acA kd 1 r nx N bv now)/\Blk w' g 32 cg) 8 rfl (by kernel_rfl) ⟨M.o,O.o⟩ ?_;refine Reg.ty 0 rfl ⟨M.o,O.o⟩ ?_;refine Reg.tw 1 (v:=.string ⟨r.toArray⟩) rfl ⟨M.o,O.o⟩ (fun w' hS=>by obtain⟨hA,hG⟩:=hS;have q2:=hA.cell 2;go_simp<;>rfl) ?_;refine Reg.ty 2 rfl ⟨M.o,O.o⟩ ?_;refine Reg.tw 3 (v:=.string ⟨nx.toArray⟩) rfl ⟨M.o,O.o⟩ (fun w' hS=>by obtain⟨hA,hG⟩:=hS;have q3:=hA.cell 3;go_simp<;>rfl) ?_;refine Reg.b2 4 6 ?_ ?_
  ·right
   refine⟨_,_,_,_,_,_,28,#[.string ⟨nx.toArray⟩],rfl,by rfl,(by go_simp<;>first | rfl | exact⟨rfl,rfl⟩),?_⟩;refine Ah (C1.o _) ?_;rintro bB hw;subst hw;clear C1;refine⟨_,rfl,⟨M.o,O.o⟩,?_⟩;simp only[Act.put,J,U,Aa];refine Reg.tw 5 (v:=.agg #[.string ⟨(r,krb++nx).1.toArray⟩,.string ⟨(r,krb++nx).2.toArray⟩]) rfl ⟨M.o,O.o⟩ (fun w' hS=>by obtain⟨hA,hG⟩:=hS;go_simp<;>rfl) ?_;refine Reg.b1 6 ?_
   left
   have X:Below W.drew.heap.size W.drew (W.drew.alloc (.cells #[.string ⟨#[]⟩,.string ⟨#[]⟩] 35)):=Ag.alloc Af _;have af:=Blk.new W.drew 35 #[.string ⟨#[]⟩,.string ⟨#[]⟩];have LT:=I Z.o.size;have ab:=I (Nat.ne_of_lt M.o.lt);have ad:=I (Nat.ne_of_lt O.o.lt);refine⟨_,_,_,_,_,_,.pointer (some ⟨W.drew.heap.size,0,none⟩),W.drew.alloc (.cells #[.string ⟨#[]⟩,.string ⟨#[]⟩] 35),rfl,by rfl,(by go_simp<;>rfl),⟨(M.o.below X),(O.o.below X)⟩,?_⟩;simp only[Act.put,J,U,Aa];obtain⟨bp,an⟩:=Aj (W.drew.alloc (.cells #[.string ⟨#[]⟩,.string ⟨#[]⟩] 35));rw[<-an] at X af⊢;clear an;replace Z:=Z.t X;replace M:=I (M.o.below X);replace O:=I (O.o.below X);have HT:=I af;clear af X;obtain⟨PT,ag⟩:=Aj (W.drew.heap.size);rw[<-ag] at HT LT ab ad⊢;clear ag;refine Reg.AI 7 rfl (by kernel_rfl) (by rfl) PT 35 _ #[.string ⟨(r,krb++nx).1.toArray⟩,.string ⟨(r,krb++nx).2.toArray⟩] HT.o (by rfl) (by rfl) (by rfl) Rg.AZ (by simp [Value.oneCell']) ?_;intro bu hV hg;replace HT:=I hV;replace Z:=I (btg Z.o hg LT.o);replace M:=I (M.o.grown hg (fun e=>by injection e with e;exact ab.o e.symm));replace O:=I (O.o.grown hg (fun e=>by injection e with e;exact ad.o e.symm));clear hV hg;refine⟨⟨M.o,O.o⟩,?_⟩;simp only[Act.put,J,U,Aa];refine wpAnyH_done (by kernel_rfl) ?_ _
   go_wp2_with fail
   go_meet
   exact⟨PT,rfl,⟨ab.o,ad.o,LT.o⟩,HT.o,M.o,O.o,Z.o⟩
  ·left
   have X:Below W.drew.heap.size W.drew (W.drew.alloc (.cells #[.string ⟨#[]⟩,.string ⟨#[]⟩] 35)):=Ag.alloc Af _;have af:=Blk.new W.drew 35 #[.string ⟨#[]⟩,.string ⟨#[]⟩];have LT:=I Z.o.size;have ab:=I (Nat.ne_of_lt M.o.lt);have ad:=I (Nat.ne_of_lt O.o.lt);refine⟨_,_,_,_,_,_,.pointer (some ⟨W.drew.heap.size,0,none⟩),W.drew.alloc (.cells #[.string ⟨#[]⟩,.string ⟨#[]⟩] 35),rfl,by rfl,(by go_simp<;>rfl),⟨(M.o.below X),(O.o.below X)⟩,?_⟩;simp only[Act.put,J,U,Aa];obtain⟨br,aj⟩:=Aj (W.drew.alloc (.cells #[.string ⟨#[]⟩,.string ⟨#[]⟩] 35));rw[<-aj] at X af⊢;clear aj;replace Z:=Z.t X;replace M:=I (M.o.below X);replace O:=I (O.o.below X);have HT:=I af;clear af X;obtain⟨PT,ag⟩:=Aj (W.drew.heap.size);rw[<-ag] at HT LT ab ad⊢;clear ag;refine Reg.b1 4 ?_
   right
   refine⟨_,_,_,_,_,_,28,#[.string ⟨nx.toArray⟩],rfl,by rfl,(by go_simp<;>first | rfl | exact⟨rfl,rfl⟩),?_⟩;refine Ah (C1.o _) ?_;rintro bC hw;subst hw;clear C1;refine⟨_,rfl,⟨M.o,O.o⟩,?_⟩;simp only[Act.put,J,U,Aa];refine Reg.tw 5 (v:=.agg #[.string ⟨(r,krb++nx).1.toArray⟩,.string ⟨(r,krb++nx).2.toArray⟩]) rfl ⟨M.o,O.o⟩ (fun w' hS=>by obtain⟨hA,hG⟩:=hS;go_simp<;>rfl) ?_;refine Reg.AI 7 rfl (by kernel_rfl) (by rfl) PT 35 _ #[.string ⟨(r,krb++nx).1.toArray⟩,.string ⟨(r,krb++nx).2.toArray⟩] HT.o (by rfl) (by rfl) (by rfl) Rg.AZ (by simp [Value.oneCell']) ?_;intro bF hV hg;replace HT:=I hV;replace Z:=I (btg Z.o hg LT.o);replace M:=I (M.o.grown hg (fun e=>by injection e with e;exact ab.o e.symm));replace O:=I (O.o.grown hg (fun e=>by injection e with e;exact ad.o e.symm));clear hV hg;refine⟨⟨M.o,O.o⟩,?_⟩;simp only[Act.put,J,U,Aa];refine wpAnyH_done (by kernel_rfl) ?_ _
   go_wp2_with fail
   go_meet
   exact⟨PT,rfl,⟨ab.o,ad.o,LT.o⟩,HT.o,M.o,O.o,Z.o⟩
 case rest=>
  obtain⟨PT,rfl,aY,ht,ha,hg,X⟩:=hcut;have NP:=I aY;clear aY;have ao:=I ht;replace M:=I ha;replace O:=I hg;replace Z:=I X;clear ht ha hg X C1;have a1:=M.c1;have c0:=ao.c0;have c1:=ao.c1
  go_upto_region 4 with(first
   |(go_at_call 7;refine Ah (L1.o _) ?_;rintro wm X;clear L1 c0 c1 a1;replace ao:=I (ao.o.below X);replace M:=I (M.o.below X);replace O:=I (O.o.below X);replace Z:=Z.t X;clear X)
   |(refine Wh.BP (by rfl) 35 (.tmp 5) (.tmp 25) (by rfl) PT 35 _ ao.o #[.string ⟨Bc.1.toArray⟩,.string ⟨Bc.2.toArray⟩] (by rfl) (by rfl) (by rfl) Rg.AZ (by simp [Value.oneCell']) ?_;rintro bA hV hg;have aJ:=I hV;replace M:=I (M.o.grown hg (fun e=>by injection e with e;exact NP.o.1 e.symm));replace O:=I (O.o.grown hg (fun e=>by injection e with e;exact NP.o.2.1 e.symm));replace Z:=I (btg Z.o hg NP.o.2.2);clear hV hg)
   |fail)
  obtain⟨W4,bb⟩:=Aj (bA);rw[<-bb] at aJ M O Z⊢;clear bb;have Y:=I aJ.o;clear aJ ao;have a1:=M.c1
  go_upto_region 9 with fail
  clear a1;obtain⟨gq,aN⟩:=Aj (PT);rw[<-aN] at Y⊢;clear aN
  go_cut [8,9] from 50 to 54 (fun nv wv wx=>∃(PT:Nat),nv=.int .i64 (n:Int)/\wv=.pointer (some ⟨PT,0,none⟩)/\Blk wx PT 35 #[.string ⟨annP.1.toArray⟩,.string ⟨annP.2.toArray⟩]/\Blk wx ga 43 (acA kd 1 r nx N bv now)/\Blk wx g 32 cg/\Blk wx gq 35 #[.string ⟨Bc.1.toArray⟩,.string ⟨Bc.2.toArray⟩]/\Below w.heap.size w wx)
  case first=>
   have aa:Below W4.heap.size W4 W4.drew:=below_drewN Ag 1;replace Z:=Z.t aa;replace M:=I (M.o.below aa);replace O:=I (O.o.below aa);replace Y:=I (Y.o.below aa);clear aa;refine Reg.AM (fun w'=>Blk w' ga 43 (acA kd 1 r nx N bv now)/\Blk w' g 32 cg/\Blk w' gq 35 #[.string ⟨Bc.1.toArray⟩,.string ⟨Bc.2.toArray⟩]) 8 rfl (by kernel_rfl) ⟨M.o,O.o,Y.o⟩ ?_;refine Reg.ty 0 rfl ⟨M.o,O.o,Y.o⟩ ?_;refine Reg.ty 1 rfl ⟨M.o,O.o,Y.o⟩ ?_;refine Reg.ty 2 rfl ⟨M.o,O.o,Y.o⟩ ?_;refine Reg.tw 3 (v:=.int .i64 (n:Int)) rfl ⟨M.o,O.o,Y.o⟩ (fun w' hS=>by obtain⟨hA,hG,hQ⟩:=hS;have q2:=aK.o _ hG;go_simp<;>rfl) ?_;refine Reg.b2 4 5 ?_ ?_
   ·right
    refine⟨_,_,_,_,_,_,14,#[],rfl,by rfl,(by go_simp<;>first | rfl | exact⟨rfl,rfl⟩),?_⟩;refine Ah (L2.o _) ?_;rintro ae X;replace Z:=Z.t X;replace M:=I (M.o.below X);replace O:=I (O.o.below X);replace Y:=I (Y.o.below X);clear X;clear L2;refine⟨_,rfl,⟨M.o,O.o,Y.o⟩,?_⟩;simp only[Act.put,J,U,Aa];refine Reg.b1 5 ?_
    left
    have X:Below ae.heap.size ae (ae.alloc (.cells #[.string ⟨#[]⟩,.string ⟨#[]⟩] 35)):=Ag.alloc Af _;have af:=Blk.new ae 35 #[.string ⟨#[]⟩,.string ⟨#[]⟩];have LT:=I Z.o.size;have ab:=I (Nat.ne_of_lt M.o.lt);have ad:=I (Nat.ne_of_lt O.o.lt);have ah:=I (Nat.ne_of_lt Y.o.lt);refine⟨_,_,_,_,_,_,.pointer (some ⟨ae.heap.size,0,none⟩),ae.alloc (.cells #[.string ⟨#[]⟩,.string ⟨#[]⟩] 35),rfl,by rfl,(by go_simp<;>rfl),⟨(M.o.below X),(O.o.below X),(Y.o.below X)⟩,?_⟩;simp only[Act.put,J,U,Aa];obtain⟨bq,ai⟩:=Aj (ae.alloc (.cells #[.string ⟨#[]⟩,.string ⟨#[]⟩] 35));rw[<-ai] at X af⊢;clear ai;replace Z:=Z.t X;replace M:=I (M.o.below X);replace O:=I (O.o.below X);replace Y:=I (Y.o.below X);have HT:=I af;clear af X;obtain⟨PT,ag⟩:=Aj (ae.heap.size);rw[<-ag] at HT LT ab ad ah⊢;clear ag;refine Reg.ty 6 rfl ⟨M.o,O.o,Y.o⟩ ?_;refine Reg.AI 7 rfl (by kernel_rfl) (by rfl) PT 35 _ #[.string ⟨annP.1.toArray⟩,.string ⟨annP.2.toArray⟩] HT.o (by rfl) (by rfl) (by rfl) Rg.AZ (by simp [Value.oneCell']) ?_;intro bI hV hg;replace HT:=I hV;replace Z:=I (btg Z.o hg LT.o);replace M:=I (M.o.grown hg (fun e=>by injection e with e;exact ab.o e.symm));replace O:=I (O.o.grown hg (fun e=>by injection e with e;exact ad.o e.symm));replace Y:=I (Y.o.grown hg (fun e=>by injection e with e;exact ah.o e.symm));clear hV hg ab ad ah;refine⟨⟨M.o,O.o,Y.o⟩,?_⟩;simp only[Act.put,J,U,Aa];refine wpAnyH_done (by kernel_rfl) ?_ _
    go_wp2_with fail
    go_meet
    exact⟨PT,rfl,rfl,HT.o,M.o,O.o,Y.o,Z.o⟩
   ·left
    have X:Below W4.drew.heap.size W4.drew (W4.drew.alloc (.cells #[.string ⟨#[]⟩,.string ⟨#[]⟩] 35)):=Ag.alloc Af _;have af:=Blk.new W4.drew 35 #[.string ⟨#[]⟩,.string ⟨#[]⟩];have LT:=I Z.o.size;have ab:=I (Nat.ne_of_lt M.o.lt);have ad:=I (Nat.ne_of_lt O.o.lt);have ah:=I (Nat.ne_of_lt Y.o.lt);refine⟨_,_,_,_,_,_,.pointer (some ⟨W4.drew.heap.size,0,none⟩),W4.drew.alloc (.cells #[.string ⟨#[]⟩,.string ⟨#[]⟩] 35),rfl,by rfl,(by go_simp<;>rfl),⟨(M.o.below X),(O.o.below X),(Y.o.below X)⟩,?_⟩;simp only[Act.put,J,U,Aa];obtain⟨bo,ak⟩:=Aj (W4.drew.alloc (.cells #[.string ⟨#[]⟩,.string ⟨#[]⟩] 35));rw[<-ak] at X af⊢;clear ak;replace Z:=Z.t X;replace M:=I (M.o.below X);replace O:=I (O.o.below X);replace Y:=I (Y.o.below X);have HT:=I af;clear af X;obtain⟨PT,ag⟩:=Aj (W4.drew.heap.size);rw[<-ag] at HT LT ab ad ah⊢;clear ag;refine Reg.b1 4 ?_
    right
    refine⟨_,_,_,_,_,_,14,#[],rfl,by rfl,(by go_simp<;>first | rfl | exact⟨rfl,rfl⟩),?_⟩;refine Ah (L2.o _) ?_;rintro bs X;replace Z:=Z.t X;replace M:=I (M.o.below X);replace O:=I (O.o.below X);replace Y:=I (Y.o.below X);replace HT:=I (HT.o.below X);clear X;clear L2;refine⟨_,rfl,⟨M.o,O.o,Y.o⟩,?_⟩;simp only[Act.put,J,U,Aa];refine Reg.ty 6 rfl ⟨M.o,O.o,Y.o⟩ ?_;refine Reg.AI 7 rfl (by kernel_rfl) (by rfl) PT 35 _ #[.string ⟨annP.1.toArray⟩,.string ⟨annP.2.toArray⟩] HT.o (by rfl) (by rfl) (by rfl) Rg.AZ (by simp [Value.oneCell']) ?_;intro bG hV hg;replace HT:=I hV;replace Z:=I (btg Z.o hg LT.o);replace M:=I (M.o.grown hg (fun e=>by injection e with e;exact ab.o e.symm));replace O:=I (O.o.grown hg (fun e=>by injection e with e;exact ad.o e.symm));replace Y:=I (Y.o.grown hg (fun e=>by injection e with e;exact ah.o e.symm));clear hV hg ab ad ah;refine⟨⟨M.o,O.o,Y.o⟩,?_⟩;simp only[Act.put,J,U,Aa];refine wpAnyH_done (by kernel_rfl) ?_ _
    go_wp2_with fail
    go_meet
    exact⟨PT,rfl,rfl,HT.o,M.o,O.o,Y.o,Z.o⟩
  case rest=>
   obtain⟨PW,rfl,rfl,ht,ha,hg,hq,X⟩:=hcut;have HW:=I ht;replace M:=I ha;replace O:=I hg;replace Y:=I hq;replace Z:=I X;clear ht ha hg hq X;have a1:=M.c1
   go_upto_region 14 with fail
   clear a1;have aa:Below wc.heap.size wc wc.drew:=below_drewN Ag 1;replace Z:=Z.t aa;replace M:=I (M.o.below aa);replace O:=I (O.o.below aa);replace Y:=I (Y.o.below aa);replace HW:=I (HW.o.below aa);clear aa;refine Reg.AM (fun w'=>Blk w' ga 43 (acA kd 1 r nx N bv now)/\Blk w' g 32 cg/\Blk w' gq 35 #[.string ⟨Bc.1.toArray⟩,.string ⟨Bc.2.toArray⟩]/\Blk w' PW 35 #[.string ⟨annP.1.toArray⟩,.string ⟨annP.2.toArray⟩]) 14 rfl (by kernel_rfl) ⟨M.o,O.o,Y.o,HW.o⟩ ?_;refine Reg.ty 0 rfl ⟨M.o,O.o,Y.o,HW.o⟩ ?_;refine Reg.ty 1 rfl ⟨M.o,O.o,Y.o,HW.o⟩ ?_;refine Reg.ty 2 rfl ⟨M.o,O.o,Y.o,HW.o⟩ ?_;refine Reg.tw 3 (v:=.int .i64 (n:Int)) rfl ⟨M.o,O.o,Y.o,HW.o⟩ (fun w' hS=>by obtain⟨hA,hG,hQ,hW⟩:=hS;have q2:=aK.o _ hG;go_simp<;>rfl) ?_;refine Reg.tw 5 (v:=.agg #[.string ⟨Bc.1.toArray⟩,.string ⟨Bc.2.toArray⟩]) rfl ⟨M.o,O.o,Y.o,HW.o⟩ (fun w' hS=>by obtain⟨hA,hG,hQ,hW⟩:=hS;have q0:=hQ.cell 0;have q1:=hQ.cell 1;go_simp<;>rfl) ?_;refine Reg.ty 6 rfl ⟨M.o,O.o,Y.o,HW.o⟩ ?_;refine Reg.b1 4 ?_
   right
   refine⟨_,_,_,_,_,_,15,#[.int .i64 (n:Int)],rfl,by rfl,(by go_simp<;>first | rfl | exact⟨rfl,rfl⟩),?_⟩;refine Ah (C2.o _) ?_;rintro bz X;replace Z:=Z.t X;replace M:=I (M.o.below X);replace O:=I (O.o.below X);replace Y:=I (Y.o.below X);replace HW:=I (HW.o.below X);clear X;clear C2;refine⟨_,rfl,⟨M.o,O.o,Y.o,HW.o⟩,?_⟩;simp only[Act.put,J,U,Aa];refine Reg.tw 7 (v:=.agg cr) rfl ⟨M.o,O.o,Y.o,HW.o⟩ (fun w' hS=>by obtain⟨hA,hG,hQ,hW⟩:=hS;refine Bq (t:=104) (by rfl) (by simp only[List.map_toArray,List.map_cons,List.map_nil];exact ar.o)) ?_;refine Reg.b1 8 ?_
   right
   refine⟨_,_,_,_,_,_,30,#[.agg cr],rfl,by rfl,(by go_simp<;>first | rfl | exact⟨rfl,rfl⟩),?_⟩;refine Calls.mono (C3.o _) ?_;rintro e aI he;obtain⟨v1,rfl,bJ,X⟩:=Jx he;clear he;replace Z:=Z.t X;replace M:=I (M.o.below X);replace O:=I (O.o.below X);replace Y:=I (Y.o.below X);replace HW:=I (HW.o.below X);have S1:=I bJ;clear X;clear C3;refine⟨_,rfl,⟨M.o,O.o,Y.o,HW.o⟩,?_⟩;simp only[Act.put,J,U,Aa];refine Reg.ty 9 rfl ⟨M.o,O.o,Y.o,HW.o⟩ ?_;refine Reg.ty 10 rfl ⟨M.o,O.o,Y.o,HW.o⟩ ?_;refine Reg.ty 11 rfl ⟨M.o,O.o,Y.o,HW.o⟩ ?_;refine Reg.ty 12 rfl ⟨M.o,O.o,Y.o,HW.o⟩ ?_;refine Reg.ty 13 rfl ⟨M.o,O.o,Y.o,HW.o⟩ ?_;refine wpAnyH_done (by kernel_rfl) ?_ _;obtain⟨W5,aR⟩:=Aj (aI);rw[<-aR] at M O Y HW Z S1⊢;clear aR;obtain⟨A1,c1,bw,bD,aX⟩:=S1.o;subst bw;have c4:=fun(w1:World) (X:Below W5.heap.size W5 w1)=>C4.o w1 A1 (lO aT).length c1 (by rw[aE.o]) (by rw[aE.o];exact(aX.rd.below X).more X.size)
   have aC:=I c4;obtain⟨l1,aV⟩:=Aj ((lO aT).length);rw[<-aV] at aC⊢;clear S1 bD aX c4 C4 aV
   go_upto_region 15 with fail
   have aa:Below W5.heap.size W5 W5.drew:=below_drewN Ag 1;replace Z:=Z.t aa;replace M:=I (M.o.below aa);replace O:=I (O.o.below aa);replace Y:=I (Y.o.below aa);replace HW:=I (HW.o.below aa);clear aa;refine Reg.AM (fun w'=>Blk w' ga 43 (acA kd 1 r nx N bv now)/\Blk w' g 32 cg/\Blk w' gq 35 #[.string ⟨Bc.1.toArray⟩,.string ⟨Bc.2.toArray⟩]/\Blk w' PW 35 #[.string ⟨annP.1.toArray⟩,.string ⟨annP.2.toArray⟩]) 15 rfl (by kernel_rfl) ⟨M.o,O.o,Y.o,HW.o⟩ ?_;refine Reg.ty 0 rfl ⟨M.o,O.o,Y.o,HW.o⟩ ?_;refine Reg.ty 1 rfl ⟨M.o,O.o,Y.o,HW.o⟩ ?_;refine Reg.ty 2 rfl ⟨M.o,O.o,Y.o,HW.o⟩ ?_;refine Reg.tw 3 (v:=.agg cy) rfl ⟨M.o,O.o,Y.o,HW.o⟩ (fun w' hS=>by obtain⟨hA,hG,hQ,hW⟩:=hS;exact Hn (.tmp 79) rfl rfl (aB.o _ hG) Tryz.underlying30 (by rfl) bn.o) ?_;refine Reg.ty 4 rfl ⟨M.o,O.o,Y.o,HW.o⟩ ?_;refine Reg.ty 5 rfl ⟨M.o,O.o,Y.o,HW.o⟩ ?_;refine Reg.ty 6 rfl ⟨M.o,O.o,Y.o,HW.o⟩ ?_;refine Reg.tw 7 (v:=.int .i64 q.u) rfl ⟨M.o,O.o,Y.o,HW.o⟩ (fun w' hS=>by obtain⟨hA,hG,hQ,hW⟩:=hS;have bL:=aA.o _ hG;go_simp<;>rfl) ?_;refine Reg.ty 8 rfl ⟨M.o,O.o,Y.o,HW.o⟩ ?_;refine Reg.b1 9 ?_
   right
   refine⟨_,_,_,_,_,_,31,#[.agg cy,.int .i64 q.u,.int .i64 55,.slice A1 l1 c1],rfl,by rfl,(by go_simp<;>first | rfl | exact⟨rfl,rfl⟩),?_⟩;refine Calls.mono (aC.o _ (below_drewN Ag 1)) ?_;rintro e au ⟨A2,c2,rfl,ba,X⟩;replace Z:=Z.t X;replace M:=I (M.o.below X);replace O:=I (O.o.below X);replace Y:=I (Y.o.below X);replace HW:=I (HW.o.below X);have S2:=I ba.rd;clear ba;clear X;clear aC;refine⟨_,rfl,⟨M.o,O.o,Y.o,HW.o⟩,?_⟩;simp only[Act.put,J,U,Aa];refine Reg.ty 10 rfl ⟨M.o,O.o,Y.o,HW.o⟩ ?_;refine Reg.ty 11 rfl ⟨M.o,O.o,Y.o,HW.o⟩ ?_;refine Reg.ty 12 rfl ⟨M.o,O.o,Y.o,HW.o⟩ ?_;refine Reg.ty 13 rfl ⟨M.o,O.o,Y.o,HW.o⟩ ?_;refine Reg.ty 14 rfl ⟨M.o,O.o,Y.o,HW.o⟩ ?_;refine wpAnyH_done (by kernel_rfl) ?_ _;obtain⟨W6,bh⟩:=Aj (au);rw[<-bh] at M O Y HW Z S2⊢;clear bh;obtain⟨l2,aL⟩:=Aj (sb.1.length);have bE:=I aL;rw[<-aL] at⊢;clear aL;have a1:=M.c1
   go_upto_region 18 with fail
   clear a1;have b0:=HW.c0;have b1:=HW.c1;have b2:=Y.c0;have b3:=Y.c1;obtain⟨W7,ax⟩:=Aj (W6.alloc (.cells #[.int .u8 1,.int .u8 2] 5));have ay:Below W6.heap.size W6 W7:=ax▸Ag.alloc Af _;have H7:=I (show Rd W7 W7.heap.size (some ⟨W6.heap.size,0,none⟩) (bvs [1,2]) by
    have aS:Blk W7 W6.heap.size 5 #[.int .u8 1,.int .u8 2]:=ax▸Blk.new W6 _ _;refine .inr ⟨_,0,rfl,aS.lt,fun i u hu=>?_⟩;rw[aS.cell];rcases i with _ | _ | i
    ·exact hu
    ·exact hu
    ·simp [bvs] at hu)
   have c5:=C5.o W7 (some ⟨W6.heap.size,0,none⟩) A2 2 c2 l2 (by rw[EB.o,bE.o]) H7.o (by rw[EB.o];exact(S2.o.below ay).more ay.size);have av:=aF.o (.slice (some ⟨W6.heap.size,0,none⟩) 2 2) (.slice A2 l2 c2);rw[bj.o] at c5 av;obtain⟨cm,bd⟩:=Aj (Mc.mgA 3 Mc.zA Mc.zT #[.string ⟨annP.1.toArray⟩,.string ⟨annP.2.toArray⟩,.string ⟨Bc.1.toArray⟩,.string ⟨Bc.2.toArray⟩,.int .i64 1,.slice (some ⟨W6.heap.size,0,none⟩) 2 2,.slice A2 l2 c2] Mc.zP Mc.zF);rw[<-bd] at c5 av;have aP:=I av;have bH:=I ax;have aw:=Z.t ay;clear bd av aF C5 ax ay
   go_wp2_with (first
    |(refine Mc.Ax (by rfl) 61 #[(0,.const (.int .i64 3)),(3,.tmp 114)] (by rfl) cm (by simp only[List.map_toArray,List.map_cons,List.map_nil];exact aP.o) ?_)
    |(rw[<-bH.o];go_at_call 29;refine Calls.mono c5 ?_;rintro e w9 he;obtain⟨v9,rfl,aQ,X⟩:=Jx he;clear c5 he b0 b1 b2 b3;have HV:=I (aQ.mono (S':=fun j=>j<w.heap.size) (fun j _ x=>by have:=aw.o.size;omega));replace aw:=aw.t X;clear X aQ)
    |fail)
   go_ret;exact⟨v9,rfl,HV.o,aw.o⟩
end
end Cl
namespace Cl
open Go.RowKit Ae Se
open Nm (L krb tgL tgR)
open Ms (Pr tmB pSm mSm mgO mgD mgB mgE An Mg As Tg Re Rp Tk asB tgB reB tkB prB Bu)
open Ca (Cr It putL putE)
def pq1:Pq:=⟨1,k9,3⟩
theorem WQ {g:Mg}:(lO (mgO g)).length<=2000:=by
 cases e:mgO g with
 |none=>exact Nat.zero_le _
 |some b=>exact(Ms.Bw.1 e).2.2▸(Ms.Bw.1 e).2.1
theorem RT {r x:L} (h:prB (r,krb++x)=true):tgL (krb++x)=true/\tgR (krb++x)=x:=by
 have O:tgL (krb++x)=true:=by
  unfold prB Nm.BY at h;rw[Bool.and_eq_true,Bool.or_eq_true] at h;rcases h.2 with h | h
  ·exact h
  ·have:=(Nm.DU _ _).1 h
   have M:(47:UInt8)∈(krb++x):=List.mem_append_left _ (by decide);exact absurd ((List.all_eq_true.1 this.2.2) 47 M) (by decide)
 exact⟨O,by rw[Nm.tgR,O];rfl⟩
theorem Ki {r x:L}:(r,krb++x)≠Bc:=fun e=>by
 have M:krb++x = [109,97,105,108]:=congrArg (fun p:Pr=>p.2) e;have O:=congrArg (fun l:L=>l[0]?) M;exact absurd (show some (107:UInt8)=some 109 from O) (by decide)
def x1:Cr:=gotX pq1 (own annP)
def s2 (now:Int):St:=furS (putS mC (s1 0) x1 now) [65] x1
end Cl
namespace Cl
open Go.RowKit Ae Se
open Nm (L krb tgL tgR)
open Ms (Pr tmB pSm mSm mgO mgD mgB mgE An Mg As Tg Re Rp Tk prB)
open Rg (prV)
open Ca (Cr It putL putE)
theorem Ul {w:World} {now:Int} (X:tmB now=true) {g k x:Nat} {q:Pq} {v:Value} {S:Nat->Prop} (h:Blk w g 32 (prA k x q)) (M:SlN S w v (lO (mgO (mAs (firQ annP st0 now))))):Calls Tryz.prog 8 #[pv g,v] w (SenP w g k x pq1):=by
 have O:=UP (s:=st0) Kg RJ X (by decide);have hm:=UN O;exact Yv (G:=mAs (firQ annP st0 now)) h (Nat.le_trans WQ (by decide)) M (by rw[hm.1];exact hm.2) rfl
end Cl
namespace Cl
open Go.RowKit Ae Se
open Nm (L krb tgL tgR)
open Ms (Pr tmB pSm mSm mgO mgD mgB mgE An Mg As Tg Re Rp Tk asB tgB reB tkB prB Bu)
open Ca (Cr It putL putE rest)
def hopQ (i:Nat):Pq:=⟨((i+1:Nat):Int),if i=0 then k9 else Ex i,if i=0 then 3 else 8⟩
theorem RU (i:Nat):0<=(hopQ i).u/\(hopQ i).u<=255/\(hopQ i).u≠0:=by
 unfold hopQ
 by_cases h:i=0
 ·simp [h]
 ·simp [h]
structure Hop (i:Nat) (vs:List L) (s:St):Prop where
 n:s.n=i+1
 us:s.s=i
 q:s.q=0
 st:s.st=1
 er:s.er=0
 sn:s.sn=((i+1:Nat):Int)
 tg:s.tg=Bc
 vs:s.vs=vs
 ou:s.ou=⟨((i+1:Nat):Int),(hopQ i).ks,(hopQ i).u⟩
 l:s.l.length<=i
 x:∀e∈s.l,Okx e.2
theorem hop_0:Hop 0 [] (s1 0):=⟨rfl,rfl,rfl,rfl,rfl,rfl,rfl,rfl,rfl,Nat.le_refl _,fun e he=>by cases he⟩
section
variable {i:Nat} {vs:List L} {s:St} {v:Pr} {r x:L} {now:Int}
theorem RV (l:List It) (p:Pr) (t:Int):(rest l p t).length<=l.length:=List.length_filter_le _ _
theorem Yy (l:List It) (p:Pr) (x:Cr) (t:Int):(putL l p x t).length<=l.length+1:=by
 have:=RV l p t;unfold putL
 split
 ·simp;omega
 ·omega
theorem Yz {l:List It} {p:Pr} {x:Cr} {t:Int} {e:It} (h:e∈putL l p x t):e∈l\/e=(p,x):=by
 unfold putL at h
 split at h
 ·rcases List.mem_append.1 h with h | h
  ·exact .inl (List.mem_filter.1 h).1
  ·exact .inr (by simpa using h)
 ·exact .inl (List.mem_filter.1 h).1
theorem QC {l:List It} {p:Pr} {t:Int} (h:l.length<10):putE l p t=0:=by
 have:=RV l p t;unfold putE;rw[if_pos (by omega)]
theorem WR (q:Pq) (M:prB v=true):Okx (gotX q v):=by
 have:=Ms.DV M;exact⟨⟨by show v.1.length<=1000000000;omega,by show v.2.length<=1000000000;omega⟩,by show([1,2]:L).length<=100000;decide⟩
theorem YA (q:Pq) (M:prB v=true):tkB (tkOf (gotX q v))=true:=by
 unfold tkB tkOf gotX;simp only;rw[M]
 rfl
theorem Hop.next (h:Hop i vs s) (O:i<8) (M:prB (r,krb++x)=true):Hop (i+1) (vs++[x]) (furS (putS mC s (gotX (hopQ i) (r,krb++x)) now) x (gotX (hopQ i) (r,krb++x))):=by
 refine⟨?_,?_,h.q,h.st,h.er,?_,h.tg,?_,?_,?_,?_⟩
 ·show s.n+1=_;rw[h.n]
 ·show s.s+1=_;rw[h.us]
 ·show s.sn+1=_;rw[h.sn];simp
 ·show s.vs++[x]=_;rw[h.vs]
 ·show(⟨((s.n+1:Nat):Int),(gotX (hopQ i) (r,krb++x)).k,8⟩:Ou)=_
  rw[h.n];unfold hopQ gotX;simp
 ·have:=Yy s.l (r,krb++x) (gotX (hopQ i) (r,krb++x)) now
  have:=h.l;show(putL s.l (r,krb++x) (gotX (hopQ i) (r,krb++x)) now).length<=i+1;omega
 ·intro e he
  rcases Yz (show e∈putL s.l (r,krb++x) (gotX (hopQ i) (r,krb++x)) now from he) with he | rfl
  ·exact h.x e he
  ·exact WR _ M
theorem Hop.err (h:Hop i vs s) (M:i<8):mC.err s.l v now=0:=QC (by have:=h.l;omega)
theorem Hop.go (h:Hop i vs s) (hi:i<6) (hl:vs.length=i) (Y:prB (r,krb++x)=true) (Z:i=0->(r,krb++x)=own annP) (hn:¬x∈vs) :
  goL mC annP s (gotX (hopQ i) (r,krb++x)) now=furL annP (putS mC s (gotX (hopQ i) (r,krb++x)) now) x (gotX (hopQ i) (r,krb++x)) now:=by
 have O:=RT Y;have X:refL annP s (r,krb++x)=(x,0):=by
  unfold refL;rw[if_pos O.1,if_neg,if_neg,if_neg,O.2]
  ·rw[h.vs,hl];omega
  ·rw[h.vs,O.2];exact hn
  ·rintro⟨M,h2⟩
   rw[h.ou] at M
   by_cases g:i=0
   ·exact h2 (Z g)
   ·have:(hopQ i).u=8:=by unfold hopQ;simp [g]
    simp only at M;rw[this] at M;exact absurd M (by decide)
 unfold goL;rw[if_pos (show mC.err s.l (gotX (hopQ i) (r,krb++x)).s now=0 from h.err (by omega)),if_neg (show ¬(gotX (hopQ i) (r,krb++x)).s=s.tg by rw[h.tg];exact Ki),show(gotX (hopQ i) (r,krb++x)).s=(r,krb++x) from rfl,X]
 rfl
theorem Hop.over (h:Hop i vs s) (hi:i<8) (aa:6<=i) (Z:vs.length=i) (Y:prB (r,krb++x)=true) (hn:¬x∈vs) :
  goL mC annP s (gotX (hopQ i) (r,krb++x)) now=(endS mC (putS mC s (gotX (hopQ i) (r,krb++x)) now) 3 15,([],[])):=by
 have O:=RT Y;have X:refL annP s (r,krb++x)=([],15):=by
  unfold refL;rw[if_pos O.1,if_neg,if_neg,if_pos]
  ·rw[h.vs,Z];omega
  ·rw[h.vs,O.2];exact hn
  ·rintro⟨M,h2⟩
   rw[h.ou] at M;have:(hopQ i).u=8:=by unfold hopQ;simp;omega
   simp only at M;rw[this] at M;exact absurd M (by decide)
 unfold goL;rw[if_pos (show mC.err s.l (gotX (hopQ i) (r,krb++x)).s now=0 from h.err (by omega)),if_neg (show ¬(gotX (hopQ i) (r,krb++x)).s=s.tg by rw[h.tg];exact Ki),show(gotX (hopQ i) (r,krb++x)).s=(r,krb++x) from rfl,X]
 rfl
theorem Hop.loop (h:Hop i vs s) (Z:i<8) (h1:1<=i) (Y:prB (r,krb++x)=true) (hn:x∈vs) :
  goL mC annP s (gotX (hopQ i) (r,krb++x)) now=(endS mC (putS mC s (gotX (hopQ i) (r,krb++x)) now) 3 14,([],[])):=by
 have O:=RT Y;have X:refL annP s (r,krb++x)=([],14):=by
  unfold refL;rw[if_pos O.1,if_neg,if_pos]
  ·rw[h.vs,O.2];exact hn
  ·rintro⟨M,h3⟩
   rw[h.ou] at M;have:(hopQ i).u=8:=by unfold hopQ;simp;omega
   simp only at M;rw[this] at M;exact absurd M (by decide)
 unfold goL;rw[if_pos (show mC.err s.l (gotX (hopQ i) (r,krb++x)).s now=0 from h.err Z),if_neg (show ¬(gotX (hopQ i) (r,krb++x)).s=s.tg by rw[h.tg];exact Ki),show(gotX (hopQ i) (r,krb++x)).s=(r,krb++x) from rfl,X]
 rfl
theorem Hop.done (h:Hop i vs s) (M:i<8):goL mC annP s (gotX (hopQ i) Bc) now=(endS mC (putS mC s (gotX (hopQ i) Bc) now) 2 0,([],[])):=by
 unfold goL;rw[if_pos (show mC.err s.l (gotX (hopQ i) Bc).s now=0 from h.err M),if_pos (show(gotX (hopQ i) Bc).s=s.tg by rw[h.tg];rfl)]
theorem Hop.sz {p:CP} {c:Nat} (h:Hop i vs s) (O:p.P=annP) (Y:i<8) (Z:vs.length=i) (M:∀v∈vs,v.length<=1000000) (X:i+1<=c):Sz p s c:=
 ⟨by rw[h.n];exact X,by rw[h.us];omega,by rw[h.q];omega,by rw[h.sn];omega,by rw[h.vs];exact⟨by omega,M⟩,by rw[h.tg];exact Ho,by have:=h.l;omega,h.x,by
  rw[O];exact⟨⟨by decide,by decide⟩,by decide⟩⟩
theorem Hop.tak (h:Hop i vs s) (O:tmB now=true) (M:prB v=true) (X:i<8):takL mC annP s (repL (hopQ i) v annP ((i+1:Nat):Int)) now=goL mC annP s (gotX (hopQ i) v) now:=
 RI (q:=hopQ i) h.st O (by rw[h.ou];rfl) (by rw[h.ou]) (by rw[h.ou]) Kg M (by unfold hopQ tmB Ms.inB;simp;omega) (RU i).1 (RU i).2.1
theorem Hop.may (h:Hop i vs s) (X:i<8) (O:tmB now=true) (M:prB v=true):tgB (furQ annP (putS mC s (gotX (hopQ i) v) now) (gotX (hopQ i) v) now)=true:=
 Yl Kg (YA _ M) (show prB s.tg=true by rw[h.tg];exact Np) O (show s.n<1000000 by rw[h.n];omega) (show s.s<1000000 by rw[h.us];omega)
end
theorem YB (i:Nat):hopQ (i+1)=⟨((i+1+1:Nat):Int),Ex (i+1),8⟩:=by
 unfold hopQ;simp
def lv (i:Nat):L:=[UInt8.ofNat (65+i)]
def lvs (i:Nat):List L:=(List.range i).map lv
theorem lvs_s (i:Nat):lvs (i+1)=lvs i++[lv i]:=by simp [lvs,List.range_succ]
theorem Hp (i:Nat):(lvs i).length=i:=by simp [lvs]
theorem GK (i:Nat):∀v∈lvs i,v.length<=1000000:=by
 intro v M;obtain⟨j,_,rfl⟩:=List.mem_map.1 M;exact(show([UInt8.ofNat (65+j)]:L).length<=1000000 by simp)
theorem UT:∀j,j<7->∀i,i<7->prB (lv j,krb++lv i)=true:=by decide +kernel
theorem UU:∀i,i<7->¬lv i∈lvs i:=by decide +kernel
theorem YC:∀i,i<8->∀j,j<i->lv j∈lvs i:=by decide +kernel
theorem YD:(lv 0,krb++lv 0)=own annP:=by decide
section
variable {w:World} {B i c:Nat} {p:CP} {m:CM} {s:St} {vs:List L} {v:Pr} {bv:Value} {R:St×(L×L)}
theorem Kj (h:Cl w B p m s c) (Y:p.P=annP) (O:Hop i vs s) (Z:i<8) (hl:vs.length=i) (M:∀v∈vs,v.length<=1000000) (hc:i+1<=c) (X:c<=700000) (hv:prB v=true) (hR:goL mC annP s (gotX (hopQ i) v) 1=R) (hs:SlN (AO p m) w bv (repL (hopQ i) v annP (hopQ i).no)) :
  Calls Tryz.prog 9 #[pv p.k,bv,.int .i64 1] w (StP w B p m (c+4) R):=by
 have hz:(repL (hopQ i) v annP (hopQ i).no).length<=100000:=Nat.le_trans WQ (by decide);have:=WA (now:=1) h (fun _=>by rw[O.ou];exact(RU i).2.2) (O.sz Y Z hl M hc) X hz hs;rw[Y,show(hopQ i).no=((i+1:Nat):Int) from rfl,O.tak (by decide) hv Z,hR] at this;exact this
theorem WS {g k x:Nat} {q:Pq} {S:Nat->Prop} (h:Blk w g 32 (prA k x q)) (M:Hop i vs s) (X:i<8) (O:prB v=true) (hs:SlN S w bv (lO (mgO (mTg (furQ annP (putS mC s (gotX (hopQ i) v) 1) (gotX (hopQ i) v) 1))))) :
  Calls Tryz.prog 8 #[pv g,bv] w (SenP w g k x (hopQ (i+1))):=by
 have hm:=Yk (M.may X (now:=1) (by decide) O);rw[YB];exact Yw (G:=mTg (furQ annP (putS mC s (gotX (hopQ i) v) 1) (gotX (hopQ i) v) 1)) h (Nat.le_trans WQ (by decide)) hs (by rw[hm.1];exact hm.2) rfl (by show((s.n+1:Nat):Int)=_;rw[M.n]) (by omega)
end
end Cl
end Go.Proofs.YtlccngianpfalaaGreat
