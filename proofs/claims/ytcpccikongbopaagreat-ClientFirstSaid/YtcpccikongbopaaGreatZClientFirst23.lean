import Derived.Test.YtcpccikongbopaaGreatZClientFirst21
import Derived.Test.YtcpccikongbopaaGreatZClientFirst22
set_option maxHeartbeats 25600000
set_option maxRecDepth 100000
set_option linter.unusedVariables false
set_option linter.unusedSimpArgs false
namespace Go.Proofs.YtcpccikongbopaaGreat
namespace Cl
open Go.RowKit Ad Se
open Nm (L krb tgL tgR)
open Ms (Pr tmB pSm mSm mgD mgO mgE Mg)
open Rg (prV)
theorem Ed {w0 w w':World} {p:CP} {m m':CM} {s s':St} {c c':Nat} (hB:Below w0.heap.size w0 w) (D:Cl w w0.heap.size p m s c) (hk:Tu w w' w0.heap.size p m m' s' c'):Below w0.heap.size w0 w':=hB.trans (hk.chg.below hB.size (fun j _ x=>D.lo x))
theorem Wg {w0 w w':World} {g:Nat} (hB:Below w0.heap.size w0 w) (E:w0.heap.size<=g) (D:Chg (fun j=>j=g) w w'):Below w0.heap.size w0 w':=hB.trans (D.below hB.size (fun j _ x=>by omega))
theorem sz0 {p:CP} (E:p.P=annP):Sz p st0 0:=by
 refine⟨Nat.le_refl _,Nat.le_refl _,Nat.le_refl _,⟨Int.le_refl _,Int.le_refl _⟩,⟨Nat.le_refl _,fun v D=>by cases D⟩,⟨by decide,by decide⟩,by decide,fun i F=>(by cases F),?_⟩;rw[E];exact⟨⟨by decide,by decide⟩,by decide⟩
theorem JN:pSm DQ:=⟨by decide,by decide⟩
section
variable {w w' w0:World} {B:Nat} {p:CP} {m m' m0:CM} {s:St} {c:Nat} {r:L}
theorem JO (h:Cl w B p m st0 0) (D:p.P=annP) (F:p.ks=k9) (now:Int) (O:tmB now=true):Calls Tryz.prog 11 #[pv p.k,prV DQ,.int .i64 now] w fun e w'=>∃v m',e=.returned (.tuple #[.string ⟨#[65]⟩,v,.int .i64 0])/\SlN (Out w p m') w' v (lO (mgO (mAs (firQ annP st0 now))))/\Tu w w' B p m m' (s1 0) 2:=by
 have:=cha_4 (R:=(s1 0,([65],lO (mgO (mAs (firQ annP st0 now)))))) h (sz0 D) (by decide) JN (by decide) Ov O (fun Z m1 E=>by
  have M:=Tx (o:=none) E (by decide) (XQ (sz0 D) JN) O rfl rfl;rw[D,F] at M;refine M.mono ?_;rintro e w2 ⟨v,X,rfl,a1,Y⟩;exact⟨v,X,by rw[D],by rw[D];rfl,a1,Y.more (by decide)⟩)
 exact this
theorem TI (h:Cl w B p m s c) (F:Sz p s c) (E:c<=700000) (now:Int) (D:s.st=1):Calls Tryz.prog 11 #[pv p.k,prV DQ,.int .i64 now] w fun e w'=>∃v m',e=.returned (.tuple #[.string ⟨#[]⟩,v,.int .i64 16])/\SlN (Out w p m') w' v []/\Tu w w' B p m m' s (c+2):=by
 exact cha_1 (t:=DQ) (now:=now) h F E JN D
theorem sz1 {p:CP} (E:p.P=annP):Sz p (s1 0) 2:=by
 refine⟨by decide,by decide,by decide,⟨by decide,by decide⟩,⟨by decide,fun v D=>by cases D⟩,JN,by decide,fun i F=>(by cases F),?_⟩;rw[E];exact⟨⟨by decide,by decide⟩,by decide⟩
theorem Wi (now:Int) (E:tmB now=true):0<(lO (mgO (mAs (firQ annP st0 now)))).length:=by
 have D:=Up (s:=st0) GV Rh E (by decide);rw[(Uo D).1];show 0<(mgE (mAs (firQ annP st0 now))).length;have:mgE (mAs (firQ annP st0 now))=Ms.asE (firQ annP st0 now):=rfl;rw[this,Ms.asE];have h:=DerP.CN 106 [Ms.prE (firQ annP st0 now).c,Ms.prE (firQ annP st0 now).s,DerP.encI (firQ annP st0 now).t,DerP.encI (firQ annP st0 now).no].flatten;rw[h];omega
theorem XZ {c x:Nat} {q:Pq}:(prA c x q)[35]? = some (.int .i64 q.u):=by kernel_rfl
theorem Ya {c x:Nat} {q:Pq} {g:Nat} {t:TypeId} (h:Blk w g t (prA c x q)):w.cell? ⟨g,35,none⟩=some (.int .i64 q.u):=by
 have e:(prA c x q)[35]? = some (.int .i64 q.u):=by kernel_rfl
 exact(h.cell 35).trans e
theorem Yb {c x:Nat} {q:Pq} {g:Nat} {t:TypeId} {no:Int} {E:Array Value} {ks:Nat->UInt8} (F:Blk w g t ((prA c x q).setIfInBounds 2 (.int .i64 no))) (M:E=AT ks):Blk (w.setCells g 3 E.toList) g t (prA c x ⟨no,ks,q.u⟩):=by
 subst M;have D:=Se.Blk.setCells (AT ks).toList 3 _ _ F;have e:(Mx ((prA c x q).setIfInBounds 2 (.int .i64 no)) 3 (AT ks).toList)=prA c x ⟨no,ks,q.u⟩:=by kernel_rfl
 rw[e] at D;exact D
theorem Wj {c x:Nat} {q:Pq} {g:Nat} {t:TypeId} (h:Blk w g t (prA c x q)) (u:Int):Blk (w.setCell ⟨g,35,none⟩ (.int .i64 u)) g t (prA c x ⟨q.no,q.ks,u⟩):=by
 have D:=h.set 35 (.int .i64 u);have e:(prA c x q).setIfInBounds 35 (.int .i64 u)=prA c x ⟨q.no,q.ks,u⟩:=by kernel_rfl
 rw[e] at D;exact D
theorem Yc (w:World) (g:Nat) (a u:Value) (vs:List Value):Chg (fun j=>j=g) w (((w.setCell ⟨g,2,none⟩ a).setCells g 3 vs).setCell ⟨g,35,none⟩ u):=by
 have E:Chg (fun j=>j=g) w (w.setCell ⟨g,2,none⟩ a):=Iz _ _ _ _;have D:Chg (fun j=>j=g) (w.setCell ⟨g,2,none⟩ a) ((w.setCell ⟨g,2,none⟩ a).setCells g 3 vs):=Chg.of_grown (Wh.Du _ _ _ _) rfl;exact(E.trans D (fun _ _ x=>x)).trans (Iz _ _ _ _) (fun _ _ x=>x)
abbrev RdP (w:World) (b:L) (e:Ending) (w':World):Prop:=∃ds,e=.returned (.tuple #[.agg ds,.int .i64 (Mc.mgI b)])/\Mc.MgV w' w.heap.size ds (Mc.mgG b)/\Below w.heap.size w w'
abbrev RdQ (w:World) (b:L) (e:Ending) (w':World):Prop:=∃ds,e=.returned (.tuple #[.agg ds,.int .i64 (Mc.mgI b)])/\(ds.size=30/\ds.all (·.oneCell')=true/\(Tryz.prog.info? 63).map (·.size)=some ds.size)/\
 (∀(w1:World) (gb:Nat) (t:TypeId),Blk w1 gb t ds->w1.cell? ⟨gb,0,none⟩=some (.int .i64 (Mc.mgG b).k)/\w1.rangeAt gb 1 (asA (Mc.mgG b).aq).toList/\w1.cell? ⟨gb,15,none⟩=some (.int .i64 (Mc.mgG b).tg.no))/\Mc.MgV w' w.heap.size ds (Mc.mgG b)/\Below w.heap.size w w'
theorem Wk {v:Value} {b:L} (h:Calls Tryz.prog 19 #[v] w (RdP w b)):Calls Tryz.prog 19 #[v] w (RdQ w b):=by
 refine h.mono ?_;rintro e w' ⟨ds,rfl,hm,hb⟩;have F:=hm;obtain⟨pa,pt,pr,pp,pf,E,D⟩:=hm;have Z:pa=asA (Mc.mgG b).aq:=D.a;obtain⟨bv,av,Y,_,_⟩:=D.t;subst Z;refine⟨ds,rfl,⟨by rw[E];exact D.size _,by rw[E];exact D.one _,by rw[E,D.size];exact Mc.AQ⟩,fun w1 gb t O=>?_,F,hb⟩;rw[E] at O;have M:=D.at_ O;have X:=M.t;rw[Y] at X;exact⟨M.k,M.a,X 8 _ rfl⟩
theorem mgD_p {b:L} {G:Mg} (h:mgD b=some G):Ms.mgP b=G:=by
 unfold Ms.mgD at h
 split at h
 ·injection h
 ·cases h
theorem Wl {b:L} {G:Mg} (h:mgD b=some G) (hk:G.k=1):∃r,b=106 :: r:=by
 have D:=mgD_p h;cases b with
 |nil=>rw[<-D] at hk;exact absurd hk (by decide)
 |cons t r=>
  by_cases e:t=106
  ·exact⟨r,by rw[e]⟩
  ·unfold Ms.mgP at D
   simp only[if_neg e] at D
   exfalso
   split at D
   ·rw[<-D] at hk;exact absurd hk (by show ¬(2:Int)=1;decide)
   ·split at D
    ·rw[<-D] at hk;exact absurd hk (by show ¬(3:Int)=1;decide)
    ·split at D
     ·rw[<-D] at hk;exact absurd hk (by show ¬(4:Int)=1;decide)
     ·split at D
      ·rw[<-D] at hk;exact absurd hk (by show ¬(5:Int)=1;decide)
      ·rw[<-D] at hk;exact absurd hk (by decide)
theorem Wm {v:Value} {b:L} {S:Nat->Prop} {G:Mg} (D:SlN S w v b) (F:b.length<=20000) (h:mgD b=some G) (hk:G.k=1):Calls Tryz.prog 19 #[v] w (RdQ w b):=by
 obtain⟨r,rfl⟩:=Wl h hk;obtain⟨A,E,rfl,O,M⟩:=D;exact Wk (Mc.Wf 106 r A E w M.rd O F rfl)
def SenP (w:World) (g c x:Nat) (q:Pq) (e:Ending) (w':World):Prop:=e=.returned (.tuple #[])/\Blk w' g 33 (prA c x q)/\Chg (fun j=>j=g) w w'
theorem Yd {b:L} {v:Value} {g k x:Nat} {q:Pq} {S:Nat->Prop} (h:Blk w g 33 (prA k x q)) (hl:b.length<=20000) (hv:SlN S w v b) {G:Mg} (Z:mgD b=some G) (h4:G.k=1) :
  Calls Tryz.prog 13 #[pv g,v] w (SenP w g k x ⟨G.aq.no,k9,3⟩):=by
 have CD:=I (Wm hv hl Z h4);have M:=I h;have HB:=I (Chg.refl (fun j=>j=g) w);have hi:Mc.mgI b=0:=by unfold Mc.mgI;rw[Z];rfl
 have hg:Mc.mgG b=G:=by unfold Mc.mgG;rw[Z];rfl
 unfold RdQ at CD;rw[hi,hg] at CD;have ax:=I (fun(ks:Nat->UInt8)=>(show(Tryz.prog.info? 31).map (·.size)=some (AT ks).size by rw[AR];kernel_rfl));have ao:=I Rj;have ai:=I MW;clear h hl hv Z hi hg;go_enter Tryz.func13,Tryz.ntmps13
 go_upto_region 2 with(first
  |(go_at_call 19;refine Calls.mono CD.o ?_;rintro e wd ⟨ds,rfl,⟨hs,ho,hi⟩,ad,_,X⟩;clear CD;have af:=I hs;have ak:=I ho;have au:=I hi;have aa:=I ad;replace M:=I (M.o.below X);replace HB:=I (HB.o.trans (Chg.of_below X) (fun _ _ x=>x));clear hs ho hi ad X)
  |(refine Wh.Bs (by rfl) 63 (.tmp 4) (.tmp 9) (by rfl) 63 rfl ds (by rfl) (by rfl) (by rw[af.o];rfl) au.o ak.o ?_;rintro V1 hV X;have HM:=I hV;replace M:=I (M.o.below X);replace HB:=I (HB.o.trans (Chg.of_below X) (fun _ _ x=>x));clear hV X)
  |fail)
 obtain⟨gm,ag⟩:=Ah (wd.heap.size);rw[<-ag] at HM⊢;clear ag;obtain⟨m0,m1,_⟩:=aa.o _ _ _ HM.o;rw[h4] at m0;have m6:V1.cell? ⟨gm,6,none⟩=some (.int .i64 G.aq.no):=m1 5 _ rfl;have M1:=I m1;clear m1;have p2:V1.cell? ⟨g,2,none⟩=some (.int .i64 q.no):=M.o.cell 2;have fz:=M.o.frozen
 go_upto_region 4 with fail
 obtain⟨W1,F⟩:=Ah (V1.setCell ⟨g,2,none⟩ (.int .i64 G.aq.no));have ah:=I (show Blk W1 g 33 ((prA k x q).setIfInBounds 2 (.int .i64 G.aq.no)) by rw[F];exact M.o.set 2 _);have an:=I F;rw[<-F];clear F m0 m6 p2 fz;have av:=I (show gm≠g by have:=HM.o;have h1:=M.o.cell 35;have h2:=HM.o.cell 35;intro e;rw[e] at h2;have Z:=h1.symm.trans h2;exact absurd (congrArg Option.isSome Z) (by rw[show(prA k x q)[35]? = some (.int .i64 q.u) from XZ,show ds[35]? = none from by rw[Array.getElem?_eq_none];rw[af.o];decide];simp));obtain⟨Y,D⟩:=Ah (AT k9);have ae:=I (show(Tryz.prog.info? 31).map (·.size)=some Y.size by rw[D];exact ax.o _);have ab:=I (show Y.all (·.oneCell')=true by rw[D];exact ao.o _);rw[<-D] at ai;have aj:=I (show W1.there g 3 Y.size from Wh.BN ah.o 3 _ (by rw[D,AR];simp [AR]));have al:=I D;clear D
 go_upto_region 5 with(first
  |(refine Mc.Au (by rfl) 31 #[(0,.const (.int .u8 9))] (by rfl) Y (by simp only[List.map_toArray,List.map_cons,List.map_nil];exact ai.o) ?_)
  |(refine wpList_store_mid (by rfl) 31 (.tmp 26) (.tmp 24) (by rfl) g 3 Y (by rfl) (by rfl) aj.o ae.o ab.o ?_;have HQ:=I (Yb ah.o al.o);have aw:(W1.setCells g 3 Y.toList).cell? ⟨g,35,none⟩=some (.int .i64 q.u):=(by have h:=Ya HQ.o;exact h);have fz:=HQ.o.frozen)
  |fail)
 obtain⟨V9,E⟩:=Ah ((W1.setCells g 3 Y.toList).setCell ⟨g,35,none⟩ (.int .i64 3));have H9:=I (show Blk V9 g 33 (prA k x ⟨G.aq.no,k9,3⟩) by rw[E];exact Wj HQ.o 3);have O:Chg (fun j=>j=g) V1 V9:=by rw[E,an.o];exact Yc _ _ _ _ _
 have m0:V9.cell? ⟨gm,0,none⟩=some (.int .i64 1):=by
  have:=(aa.o _ _ _ (O.blk HM.o av.o)).1;rw[h4] at this;exact this
 have ar:=I (HB.o.trans O (fun _ _ x=>x));rw[<-E];clear E O aw fz
 go_wp2_with fail
 go_end0
 exact⟨rfl,H9.o,ar.o⟩
end
theorem LY (w:World):Calls Tryz.prog 18 #[] w fun e w'=>e=.returned (.bool true)/\Below w.heap.size w w':=by
 have CB:=I (JM w);have L1:=I (fun(w1:World)=>KR w1);go_enter Tryz.func18,Tryz.ntmps18
 go_upto_region 4 with(first
  |(go_at_call 10;refine Calls.mono CB.o ?_;rintro e w1 ⟨g,x,p,m,rfl,hp,aj,hc,hn,hg,ao,O⟩;clear CB;have M:=I hc;have NG:=I hn;have al:=I hg;have F:=I O;clear hc hn hg O)
  |fail)
 obtain⟨cg,ab⟩:=Ah (prA p.k x pq0);have D:=I (show Blk w1 g 33 cg by rw[ab];exact al.o);have Z:=I (show cg[0]? = some (pv p.k) by rw[ab];rfl);have CC:=I (fun(w2:World) (m2:CM) (h:Cl w2 w.heap.size p m2 st0 0)=>JO h hp aj 1 (by decide));have ag:=I (fun(w2:World) (m2:CM) (h:Cl w2 w.heap.size p m2 (s1 0) 2)=>TI h (sz1 hp) (by decide) 1 rfl);have CS:=I (fun(w2:World) (m2:CM) (h:Cl w2 w.heap.size p m2 (s1 0) (2+2))=>(show Calls Tryz.prog 17 #[pv p.k] w2 fun e w'=>e=.returned (.tuple #[.int .i64 1,.int .i64 0,.int .i64 1])/\Below w2.heap.size w2 w' from LX h));have ak:=Wi 1 (by decide);obtain⟨b0,ah⟩:=Ah (lO (mgO (mAs (firQ annP st0 1))));rw[<-ah] at CC ak;clear al hp aj ao ab ah;have E:Below w1.heap.size w1 w1.drew:=below_drewN Af 1;replace M:=I (M.o.below E);replace F:=F.t E;replace D:=I (D.o.below E);clear E;refine Reg.AN (fun w'=>Blk w' g 33 cg) 13 rfl (by kernel_rfl) D.o ?_;refine Reg.ty 0 rfl D.o ?_;refine Reg.ty 1 rfl D.o ?_;refine Reg.ty 2 rfl D.o ?_;refine Reg.tw 3 (v:=pv p.k) rfl D.o (fun w' hS=>by have q0:=(hS.cell 0).trans Z.o;go_simp<;>rfl) ?_;refine Reg.b1 4 ?_
 right
 refine⟨_,_,_,_,_,_,12,#[],rfl,by rfl,(by go_simp<;>first | rfl | exact⟨rfl,rfl⟩),?_⟩;refine Ag (L1.o _) ?_;rintro ar O;replace M:=I (M.o.below O);replace F:=F.t O;replace D:=I (D.o.below O);clear O;refine⟨_,rfl,D.o,?_⟩;simp only[Act.put,J,U,Aa];refine Reg.b1 5 ?_
 right
 refine⟨_,_,_,_,_,_,11,#[pv p.k,prV DQ,.int .i64 1],rfl,by rfl,(by go_simp<;>first | rfl | exact⟨rfl,rfl⟩),?_⟩;refine Calls.mono (CC.o _ _ M.o) ?_;rintro e af ⟨v1,m1,rfl,hs,hk⟩;have X:=hk.blk D.o NG.o;replace NG:=I (hk.not NG.o D.o.lt);replace D:=I X;clear X;replace F:=I (Ed F.o M.o hk);replace M:=I hk.cl;obtain⟨A1,c1,Y,_⟩:=hs;have ae:=I Y;clear Y;clear hk;clear CC;refine⟨_,rfl,D.o,?_⟩;simp only[Act.put,J,U,Aa];refine Reg.ty 6 rfl D.o ?_;refine Reg.ty 7 rfl D.o ?_;refine Reg.ty 8 rfl D.o ?_;refine Reg.ty 9 rfl D.o ?_;refine Reg.ty 10 rfl D.o ?_;refine Reg.ty 11 rfl D.o ?_;refine Reg.ty 12 rfl D.o ?_;refine wpAnyH_done (by kernel_rfl) ?_ _
 go_upto_region 5 with fail
 obtain⟨w5,ai⟩:=Ah (af);rw[<-ai] at M D F⊢;clear ai;have E:Below w5.heap.size w5 w5.drew:=below_drewN Af 1;replace M:=I (M.o.below E);replace F:=F.t E;replace D:=I (D.o.below E);clear E;refine Reg.AN (fun w'=>Blk w' g 33 cg) 13 rfl (by kernel_rfl) D.o ?_;refine Reg.ty 0 rfl D.o ?_;refine Reg.ty 1 rfl D.o ?_;refine Reg.ty 2 rfl D.o ?_;refine Reg.tw 3 (v:=pv p.k) rfl D.o (fun w' hS=>by have q0:=(hS.cell 0).trans Z.o;go_simp<;>rfl) ?_;refine Reg.b1 4 ?_
 right
 refine⟨_,_,_,_,_,_,12,#[],rfl,by rfl,(by go_simp<;>first | rfl | exact⟨rfl,rfl⟩),?_⟩;refine Ag (L1.o _) ?_;rintro an O;replace M:=I (M.o.below O);replace F:=F.t O;replace D:=I (D.o.below O);clear O;refine⟨_,rfl,D.o,?_⟩;simp only[Act.put,J,U,Aa];refine Reg.b1 5 ?_
 right
 refine⟨_,_,_,_,_,_,11,#[pv p.k,prV DQ,.int .i64 1],rfl,by rfl,(by go_simp<;>first | rfl | exact⟨rfl,rfl⟩),?_⟩;refine Calls.mono (ag.o _ _ M.o) ?_;rintro e aa ⟨v2,m2,rfl,_,hk⟩;have X:=hk.blk D.o NG.o;replace NG:=I (hk.not NG.o D.o.lt);replace D:=I X;clear X;replace F:=I (Ed F.o M.o hk);replace M:=I hk.cl;clear hk;clear ag;refine⟨_,rfl,D.o,?_⟩;simp only[Act.put,J,U,Aa];refine Reg.ty 6 rfl D.o ?_;refine Reg.ty 7 rfl D.o ?_;refine Reg.ty 8 rfl D.o ?_;refine Reg.ty 9 rfl D.o ?_;refine Reg.ty 10 rfl D.o ?_;refine Reg.ty 11 rfl D.o ?_;refine Reg.ty 12 rfl D.o ?_;refine wpAnyH_done (by kernel_rfl) ?_ _;have q0:aa.cell? ⟨g,0,none⟩=some (pv p.k):=(D.o.cell 0).trans Z.o;have Y:=ae.o;subst Y;clear ae;obtain⟨nb,ad⟩:=Ah (b0.length);rw[<-ad] at ak⊢;have t1:decide ((0:Int)<(nb:Int))=true:=decide_eq_true (by omega);clear ad
 go_wp2_with (first
  |(go_at_call 17;refine Ag (CS.o _ _ M.o) ?_;rintro w9 O;clear CS q0;replace F:=F.t O;clear O)
  |fail)
 go_ret;exact⟨rfl,F.o⟩
open Nm (Hy)
open Ms (Re Rp rpC rpO EncR)
open SeL (BR Ck)
theorem Ye:pSm annP:=⟨by decide,by decide⟩
abbrev acA (k wy:Int) (r x:L) (n:Int) (b:Value) (now:Int):Array Value:=#[.int .i64 k,.int .i64 wy,.string ⟨r.toArray⟩,.string ⟨x.toArray⟩,.int .i64 n,b,.int .i64 now]
theorem Rl (q:Pq) (s:Pr) (no:Int):Tryz.prog.built 110 [(0,.agg (AT (GU q.no.toNat))),(1,.agg #[.string ⟨s.1.toArray⟩,.string ⟨s.2.toArray⟩]),(2,.int .i64 0),(3,.int .i64 500),(4,.int .i64 no)]=some (rpC (repP q s no)).toArray:=by kernel_rfl
theorem Rm (q:Re) (b a:Value):Tryz.prog.built 63 [(0,.int .i64 3),(3,.agg (reA q b a))]=some (Mc.mgA 3 Mc.zA Mc.zT (reA q b a) Mc.zP Mc.zF):=by kernel_rfl
section
variable {w w' w0:World}
theorem Wn {q:Re} {A1 A2:Option Addr} {c1 c2:Nat} (hs:mSm (mRe q)) (r1:Rd w w.heap.size A1 (bvs q.t.b)) (r2:Rd w w.heap.size A2 (bvs q.b)):Calls Tryz.prog 36 #[.agg (Mc.mgA 3 Mc.zA Mc.zT (reA q (.slice A1 q.t.b.length c1) (.slice A2 q.b.length c2)) Mc.zP Mc.zF)] w (EncR w (mgO (mRe q))):=
 Ms.MQ (mRe q) none none A1 A2 none none 0 0 c1 c2 0 0 w hs (.inr rfl) rfl rfl (.inl rfl) (.inl rfl) r1 r2 (.inl rfl) (.inl rfl)
theorem Wo {g k x n:Nat} {q:Pq} {kd N now:Int} {r O:L} {bv:Value} (h:Blk w g 33 (prA k x q)) (hq:q.no=(n:Int)) (hn:n<=1000000) (hr:r.length<=1000000) (hx:O.length<=1000000) :
  Calls Tryz.prog 15 #[pv g,.agg (acA kd 0 r O N bv now)] w fun e w'=>∃v,e=.returned v/\SlN (fun j=>j<w.heap.size) w' v (repL q (r,krb++O) annP q.no)/\Below w.heap.size w w':=by
 obtain⟨W,eW⟩:=Ah (w.alloc (.cells (acA kd 0 r O N bv now) 43));have F:Below w.heap.size w W:=eW▸Af.alloc Ae _;have D:=I (show Blk W w.heap.size 43 (acA kd 0 r O N bv now) from eW▸Blk.new w _ _);have E:=I (h.below F);have Y:=I F;have C1:=I (fun(w1:World)=>Hy O w1 (by omega));have L1:=I (fun(w1:World)=>KR w1);have L2:=I (fun(w1:World)=>XW w1);have C2:=I (fun(w1:World)=>l_ses n (by omega) w1);have aE:pSm (r,krb++O):=⟨Nat.le_trans hr (by decide),by show(krb++O).length<=1000000000;rw[List.length_append,krb_7];omega⟩;have C3:=I (fun(w1:World)=>Ms.LK (repP q (r,krb++O) q.no) w1 (by simp [repP]) aE);have ak:=I (Rl q (r,krb++O) q.no);have aS:q.no.toNat=n:=by omega
 rw[aS] at ak;have bd:(prA k x q)[2]? = some (.int .i64 (n:Int)):=by rw[<-hq];rfl
 have aB:=I (fun(w1:World) (hx:Blk w1 g 33 (prA k x q))=>(show w1.rangeAt g 3 (AT q.ks).toList from Wh.CV (pre:=[pv k,pv x,.int .i64 q.no]) (post:=[.int .i64 q.u]) hx (by simp) 3 rfl));have aW:=I (show(Tryz.prog.info? 31).map (·.size)=some (AT q.ks).size by rw[AR];kernel_rfl);have av:=I (fun(w1:World) (hx:Blk w1 g 33 (prA k x q))=>Ya hx);have aA:=I (fun(w1:World) (hx:Blk w1 g 33 (prA k x q))=>(hx.cell 2).trans bd);have C4:=I (fun(w1:World) (A:Option Addr) (l c:Nat) (hl:l=(lO (rpO (repP q (r,krb++O) q.no))).length) (br:Rd w1 w1.heap.size A (bvs (lO (rpO (repP q (r,krb++O) q.no)))))=>SeL.PS q.ks q.u 55 A l c (lO (rpO (repP q (r,krb++O) q.no))) w1 hl br);have bb:mSm (mRe (repR q (r,krb++O) annP q.no)):=⟨⟨Mc.Co,Mc.Co⟩,⟨Mc.Co,Mc.Co⟩,⟨Ye,aE⟩,Mc.Co⟩;have C5:=I (fun(w1:World) (A1 A2:Option Addr) (c1 c2 l2:Nat) (hl:l2=(repR q (r,krb++O) annP q.no).b.length) (r1:Rd w1 w1.heap.size A1 (bvs [1,2])) (r2:Rd w1 w1.heap.size A2 (bvs (repR q (r,krb++O) annP q.no).b))=>(show Calls Tryz.prog 36 #[.agg (Mc.mgA 3 Mc.zA Mc.zT (reA (repR q (r,krb++O) annP q.no) (.slice A1 2 c1) (.slice A2 l2 c2)) Mc.zP Mc.zF)] w1 (EncR w1 (mgO (mRe (repR q (r,krb++O) annP q.no)))) by rw[hl];exact Wn bb r1 r2));have EL:=I (show repL q (r,krb++O) annP q.no=lO (mgO (mRe (repR q (r,krb++O) annP q.no))) from rfl);rw[EL.o];have EB:=I (show(repR q (r,krb++O) annP q.no).b=(BR q.ks q.u 55 (lO (rpO (repP q (r,krb++O) q.no)))).1 from rfl);have ax:=I (fun(b a:Value)=>Rm (repR q (r,krb++O) annP q.no) b a);have bf:=I (fun(b a:Value)=>(show reA (repR q (r,krb++O) annP q.no) b a=#[.string ⟨annP.1.toArray⟩,.string ⟨annP.2.toArray⟩,.string ⟨(r,krb++O).1.toArray⟩,.string ⟨(r,krb++O).2.toArray⟩,.int .i64 1,b,a] from rfl));obtain⟨RR,aV⟩:=Ah (repR q (r,krb++O) annP q.no);rw[<-aV] at C5 EB ax bf⊢;obtain⟨lb,aG⟩:=Ah (lO (rpO (repP q (r,krb++O) q.no)));have ay:=I aG;rw[<-aG] at C4 EB;obtain⟨aI,au⟩:=Ah (rpO (repP q (r,krb++O) q.no));rw[<-au] at C3 ay;obtain⟨cr,aU⟩:=Ah ((rpC (repP q (r,krb++O) q.no)).toArray);rw[<-aU] at C3 ak;rw[hq] at ak;obtain⟨sb,aT⟩:=Ah (BR q.ks q.u 55 lb);rw[<-aT] at C4 EB;obtain⟨cg,aJ⟩:=Ah (prA k x q);rw[<-aJ] at E aB av aA;obtain⟨cy,aN⟩:=Ah (AT q.ks);rw[<-aN] at aB aW C4;obtain⟨cz,aM⟩:=Ah (AT (GU n));rw[<-aM] at C2 ak;clear h F hq hn hr hx aE bb aS bd aV aG au aU aT aJ aN aM;go_enter Tryz.func15,Tryz.ntmps15
 go_upto_region 1 with fail
 rw[<-eW];clear eW;obtain⟨ga,aD⟩:=Ah (w.heap.size);have bE:=I aD;rw[<-aD] at D⊢;clear aD
 go_cut [5] from 16 to 21 (fun tv wx=>∃(PT:Nat),tv=.pointer (some ⟨PT,0,none⟩)/\Blk wx PT 36 #[.string ⟨(r,krb++O).1.toArray⟩,.string ⟨(r,krb++O).2.toArray⟩]/\Blk wx ga 43 (acA kd 0 r O N bv now)/\Blk wx g 33 cg/\Below w.heap.size w wx)
 case first=>
  have X:Below W.heap.size W W.drew:=below_drewN Af 1;replace Y:=Y.t X;replace D:=I (D.o.below X);replace E:=I (E.o.below X);clear X;refine Reg.AN (fun w'=>Blk w' ga 43 (acA kd 0 r O N bv now)/\Blk w' g 33 cg) 8 rfl (by kernel_rfl) ⟨D.o,E.o⟩ ?_;refine Reg.ty 0 rfl ⟨D.o,E.o⟩ ?_;refine Reg.tw 1 (v:=.string ⟨r.toArray⟩) rfl ⟨D.o,E.o⟩ (fun w' hS=>by obtain⟨hA,hG⟩:=hS;have q2:=hA.cell 2;go_simp<;>rfl) ?_;refine Reg.ty 2 rfl ⟨D.o,E.o⟩ ?_;refine Reg.tw 3 (v:=.string ⟨O.toArray⟩) rfl ⟨D.o,E.o⟩ (fun w' hS=>by obtain⟨hA,hG⟩:=hS;have q3:=hA.cell 3;go_simp<;>rfl) ?_;refine Reg.b2 4 6 ?_ ?_
  ·right
   refine⟨_,_,_,_,_,_,35,#[.string ⟨O.toArray⟩],rfl,by rfl,(by go_simp<;>first | rfl | exact⟨rfl,rfl⟩),?_⟩;refine Ag (C1.o _) ?_;rintro bB hw;subst hw;clear C1;refine⟨_,rfl,⟨D.o,E.o⟩,?_⟩;simp only[Act.put,J,U,Aa];refine Reg.tw 5 (v:=.agg #[.string ⟨(r,krb++O).1.toArray⟩,.string ⟨(r,krb++O).2.toArray⟩]) rfl ⟨D.o,E.o⟩ (fun w' hS=>by obtain⟨hA,hG⟩:=hS;go_simp<;>rfl) ?_;refine Reg.b1 6 ?_
   left
   have F:Below W.drew.heap.size W.drew (W.drew.alloc (.cells #[.string ⟨#[]⟩,.string ⟨#[]⟩] 36)):=Af.alloc Ae _;have ad:=Blk.new W.drew 36 #[.string ⟨#[]⟩,.string ⟨#[]⟩];have LT:=I Y.o.size;have Z:=I (Nat.ne_of_lt D.o.lt);have aa:=I (Nat.ne_of_lt E.o.lt);refine⟨_,_,_,_,_,_,.pointer (some ⟨W.drew.heap.size,0,none⟩),W.drew.alloc (.cells #[.string ⟨#[]⟩,.string ⟨#[]⟩] 36),rfl,by rfl,(by go_simp<;>rfl),⟨(D.o.below F),(E.o.below F)⟩,?_⟩;simp only[Act.put,J,U,Aa];obtain⟨bj,aj⟩:=Ah (W.drew.alloc (.cells #[.string ⟨#[]⟩,.string ⟨#[]⟩] 36));rw[<-aj] at F ad⊢;clear aj;replace Y:=Y.t F;replace D:=I (D.o.below F);replace E:=I (E.o.below F);have HT:=I ad;clear ad F;obtain⟨PT,af⟩:=Ah (W.drew.heap.size);rw[<-af] at HT LT Z aa⊢;clear af;refine Reg.AI 7 rfl (by kernel_rfl) (by rfl) PT 36 _ #[.string ⟨(r,krb++O).1.toArray⟩,.string ⟨(r,krb++O).2.toArray⟩] HT.o (by rfl) (by rfl) (by rfl) Rg.AY (by simp [Value.oneCell']) ?_;intro bC hV hg;replace HT:=I hV;replace Y:=I (btg Y.o hg LT.o);replace D:=I (D.o.grown hg (fun e=>by injection e with e;exact Z.o e.symm));replace E:=I (E.o.grown hg (fun e=>by injection e with e;exact aa.o e.symm));clear hV hg Z aa;refine⟨⟨D.o,E.o⟩,?_⟩;simp only[Act.put,J,U,Aa];refine wpAnyH_done (by kernel_rfl) ?_ _
   go_wp2_with fail
   go_meet
   exact⟨PT,rfl,HT.o,D.o,E.o,Y.o⟩
  ·left
   have F:Below W.drew.heap.size W.drew (W.drew.alloc (.cells #[.string ⟨#[]⟩,.string ⟨#[]⟩] 36)):=Af.alloc Ae _;have ad:=Blk.new W.drew 36 #[.string ⟨#[]⟩,.string ⟨#[]⟩];have LT:=I Y.o.size;have Z:=I (Nat.ne_of_lt D.o.lt);have aa:=I (Nat.ne_of_lt E.o.lt);refine⟨_,_,_,_,_,_,.pointer (some ⟨W.drew.heap.size,0,none⟩),W.drew.alloc (.cells #[.string ⟨#[]⟩,.string ⟨#[]⟩] 36),rfl,by rfl,(by go_simp<;>rfl),⟨(D.o.below F),(E.o.below F)⟩,?_⟩;simp only[Act.put,J,U,Aa];obtain⟨bo,ai⟩:=Ah (W.drew.alloc (.cells #[.string ⟨#[]⟩,.string ⟨#[]⟩] 36));rw[<-ai] at F ad⊢;clear ai;replace Y:=Y.t F;replace D:=I (D.o.below F);replace E:=I (E.o.below F);have HT:=I ad;clear ad F;obtain⟨PT,af⟩:=Ah (W.drew.heap.size);rw[<-af] at HT LT Z aa⊢;clear af;refine Reg.b1 4 ?_
   right
   refine⟨_,_,_,_,_,_,35,#[.string ⟨O.toArray⟩],rfl,by rfl,(by go_simp<;>first | rfl | exact⟨rfl,rfl⟩),?_⟩;refine Ag (C1.o _) ?_;rintro bu hw;subst hw;clear C1;refine⟨_,rfl,⟨D.o,E.o⟩,?_⟩;simp only[Act.put,J,U,Aa];refine Reg.tw 5 (v:=.agg #[.string ⟨(r,krb++O).1.toArray⟩,.string ⟨(r,krb++O).2.toArray⟩]) rfl ⟨D.o,E.o⟩ (fun w' hS=>by obtain⟨hA,hG⟩:=hS;go_simp<;>rfl) ?_;refine Reg.AI 7 rfl (by kernel_rfl) (by rfl) PT 36 _ #[.string ⟨(r,krb++O).1.toArray⟩,.string ⟨(r,krb++O).2.toArray⟩] HT.o (by rfl) (by rfl) (by rfl) Rg.AY (by simp [Value.oneCell']) ?_;intro bp hV hg;replace HT:=I hV;replace Y:=I (btg Y.o hg LT.o);replace D:=I (D.o.grown hg (fun e=>by injection e with e;exact Z.o e.symm));replace E:=I (E.o.grown hg (fun e=>by injection e with e;exact aa.o e.symm));clear hV hg Z aa;refine⟨⟨D.o,E.o⟩,?_⟩;simp only[Act.put,J,U,Aa];refine wpAnyH_done (by kernel_rfl) ?_ _
   go_wp2_with fail
   go_meet
   exact⟨PT,rfl,HT.o,D.o,E.o,Y.o⟩
 case rest=>
  obtain⟨PT,rfl,ht,ha,hg,F⟩:=hcut;have aK:=I ht;replace D:=I ha;replace E:=I hg;replace Y:=I F;clear ht ha hg F C1;have a1:wc.cell? ⟨ga,1,none⟩=some (.int .i64 0):=D.o.cell 1;have M:=I aK.o;clear aK L1
  go_upto_region 9 with fail
  clear a1;obtain⟨gq,aP⟩:=Ah (PT);rw[<-aP] at M⊢;clear aP
  go_cut [8,9] from 50 to 54 (fun nv wv wx=>∃(PT:Nat),nv=.int .i64 (n:Int)/\wv=.pointer (some ⟨PT,0,none⟩)/\Blk wx PT 36 #[.string ⟨annP.1.toArray⟩,.string ⟨annP.2.toArray⟩]/\Blk wx ga 43 (acA kd 0 r O N bv now)/\Blk wx g 33 cg/\Blk wx gq 36 #[.string ⟨(r,krb++O).1.toArray⟩,.string ⟨(r,krb++O).2.toArray⟩]/\Below w.heap.size w wx)
  case first=>
   have X:Below wc.heap.size wc wc.drew:=below_drewN Af 1;replace Y:=Y.t X;replace D:=I (D.o.below X);replace E:=I (E.o.below X);replace M:=I (M.o.below X);clear X;refine Reg.AN (fun w'=>Blk w' ga 43 (acA kd 0 r O N bv now)/\Blk w' g 33 cg/\Blk w' gq 36 #[.string ⟨(r,krb++O).1.toArray⟩,.string ⟨(r,krb++O).2.toArray⟩]) 8 rfl (by kernel_rfl) ⟨D.o,E.o,M.o⟩ ?_;refine Reg.ty 0 rfl ⟨D.o,E.o,M.o⟩ ?_;refine Reg.ty 1 rfl ⟨D.o,E.o,M.o⟩ ?_;refine Reg.ty 2 rfl ⟨D.o,E.o,M.o⟩ ?_;refine Reg.tw 3 (v:=.int .i64 (n:Int)) rfl ⟨D.o,E.o,M.o⟩ (fun w' hS=>by obtain⟨hA,hG,hQ⟩:=hS;have q2:=aA.o _ hG;go_simp<;>rfl) ?_;refine Reg.b2 4 5 ?_ ?_
   ·right
    refine⟨_,_,_,_,_,_,24,#[],rfl,by rfl,(by go_simp<;>first | rfl | exact⟨rfl,rfl⟩),?_⟩;refine Ag (L2.o _) ?_;rintro ab F;replace Y:=Y.t F;replace D:=I (D.o.below F);replace E:=I (E.o.below F);replace M:=I (M.o.below F);clear F;clear L2;refine⟨_,rfl,⟨D.o,E.o,M.o⟩,?_⟩;simp only[Act.put,J,U,Aa];refine Reg.b1 5 ?_
    left
    have F:Below ab.heap.size ab (ab.alloc (.cells #[.string ⟨#[]⟩,.string ⟨#[]⟩] 36)):=Af.alloc Ae _;have ad:=Blk.new ab 36 #[.string ⟨#[]⟩,.string ⟨#[]⟩];have LT:=I Y.o.size;have Z:=I (Nat.ne_of_lt D.o.lt);have aa:=I (Nat.ne_of_lt E.o.lt);have ae:=I (Nat.ne_of_lt M.o.lt);refine⟨_,_,_,_,_,_,.pointer (some ⟨ab.heap.size,0,none⟩),ab.alloc (.cells #[.string ⟨#[]⟩,.string ⟨#[]⟩] 36),rfl,by rfl,(by go_simp<;>rfl),⟨(D.o.below F),(E.o.below F),(M.o.below F)⟩,?_⟩;simp only[Act.put,J,U,Aa];obtain⟨bh,ah⟩:=Ah (ab.alloc (.cells #[.string ⟨#[]⟩,.string ⟨#[]⟩] 36));rw[<-ah] at F ad⊢;clear ah;replace Y:=Y.t F;replace D:=I (D.o.below F);replace E:=I (E.o.below F);replace M:=I (M.o.below F);have HT:=I ad;clear ad F;obtain⟨PT,af⟩:=Ah (ab.heap.size);rw[<-af] at HT LT Z aa ae⊢;clear af;refine Reg.ty 6 rfl ⟨D.o,E.o,M.o⟩ ?_;refine Reg.AI 7 rfl (by kernel_rfl) (by rfl) PT 36 _ #[.string ⟨annP.1.toArray⟩,.string ⟨annP.2.toArray⟩] HT.o (by rfl) (by rfl) (by rfl) Rg.AY (by simp [Value.oneCell']) ?_;intro bl hV hg;replace HT:=I hV;replace Y:=I (btg Y.o hg LT.o);replace D:=I (D.o.grown hg (fun e=>by injection e with e;exact Z.o e.symm));replace E:=I (E.o.grown hg (fun e=>by injection e with e;exact aa.o e.symm));replace M:=I (M.o.grown hg (fun e=>by injection e with e;exact ae.o e.symm));clear hV hg Z aa ae;refine⟨⟨D.o,E.o,M.o⟩,?_⟩;simp only[Act.put,J,U,Aa];refine wpAnyH_done (by kernel_rfl) ?_ _
    go_wp2_with fail
    go_meet
    exact⟨PT,rfl,rfl,HT.o,D.o,E.o,M.o,Y.o⟩
   ·left
    have F:Below wc.drew.heap.size wc.drew (wc.drew.alloc (.cells #[.string ⟨#[]⟩,.string ⟨#[]⟩] 36)):=Af.alloc Ae _;have ad:=Blk.new wc.drew 36 #[.string ⟨#[]⟩,.string ⟨#[]⟩];have LT:=I Y.o.size;have Z:=I (Nat.ne_of_lt D.o.lt);have aa:=I (Nat.ne_of_lt E.o.lt);have ae:=I (Nat.ne_of_lt M.o.lt);refine⟨_,_,_,_,_,_,.pointer (some ⟨wc.drew.heap.size,0,none⟩),wc.drew.alloc (.cells #[.string ⟨#[]⟩,.string ⟨#[]⟩] 36),rfl,by rfl,(by go_simp<;>rfl),⟨(D.o.below F),(E.o.below F),(M.o.below F)⟩,?_⟩;simp only[Act.put,J,U,Aa];obtain⟨bg,ag⟩:=Ah (wc.drew.alloc (.cells #[.string ⟨#[]⟩,.string ⟨#[]⟩] 36));rw[<-ag] at F ad⊢;clear ag;replace Y:=Y.t F;replace D:=I (D.o.below F);replace E:=I (E.o.below F);replace M:=I (M.o.below F);have HT:=I ad;clear ad F;obtain⟨PT,af⟩:=Ah (wc.drew.heap.size);rw[<-af] at HT LT Z aa ae⊢;clear af;refine Reg.b1 4 ?_
    right
    refine⟨_,_,_,_,_,_,24,#[],rfl,by rfl,(by go_simp<;>first | rfl | exact⟨rfl,rfl⟩),?_⟩;refine Ag (L2.o _) ?_;rintro bA F;replace Y:=Y.t F;replace D:=I (D.o.below F);replace E:=I (E.o.below F);replace M:=I (M.o.below F);replace HT:=I (HT.o.below F);clear F;clear L2;refine⟨_,rfl,⟨D.o,E.o,M.o⟩,?_⟩;simp only[Act.put,J,U,Aa];refine Reg.ty 6 rfl ⟨D.o,E.o,M.o⟩ ?_;refine Reg.AI 7 rfl (by kernel_rfl) (by rfl) PT 36 _ #[.string ⟨annP.1.toArray⟩,.string ⟨annP.2.toArray⟩] HT.o (by rfl) (by rfl) (by rfl) Rg.AY (by simp [Value.oneCell']) ?_;intro bm hV hg;replace HT:=I hV;replace Y:=I (btg Y.o hg LT.o);replace D:=I (D.o.grown hg (fun e=>by injection e with e;exact Z.o e.symm));replace E:=I (E.o.grown hg (fun e=>by injection e with e;exact aa.o e.symm));replace M:=I (M.o.grown hg (fun e=>by injection e with e;exact ae.o e.symm));clear hV hg Z aa ae;refine⟨⟨D.o,E.o,M.o⟩,?_⟩;simp only[Act.put,J,U,Aa];refine wpAnyH_done (by kernel_rfl) ?_ _
    go_wp2_with fail
    go_meet
    exact⟨PT,rfl,rfl,HT.o,D.o,E.o,M.o,Y.o⟩
  case rest=>
   obtain⟨PW,rfl,rfl,ht,ha,hg,hq,F⟩:=hcut;have HW:=I ht;replace D:=I ha;replace E:=I hg;replace M:=I hq;replace Y:=I F;clear ht ha hg hq F;have a1:wc.cell? ⟨ga,1,none⟩=some (.int .i64 0):=D.o.cell 1
   go_upto_region 14 with fail
   clear a1;have X:Below wc.heap.size wc wc.drew:=below_drewN Af 1;replace Y:=Y.t X;replace D:=I (D.o.below X);replace E:=I (E.o.below X);replace M:=I (M.o.below X);replace HW:=I (HW.o.below X);clear X;refine Reg.AN (fun w'=>Blk w' ga 43 (acA kd 0 r O N bv now)/\Blk w' g 33 cg/\Blk w' gq 36 #[.string ⟨(r,krb++O).1.toArray⟩,.string ⟨(r,krb++O).2.toArray⟩]/\Blk w' PW 36 #[.string ⟨annP.1.toArray⟩,.string ⟨annP.2.toArray⟩]) 14 rfl (by kernel_rfl) ⟨D.o,E.o,M.o,HW.o⟩ ?_;refine Reg.ty 0 rfl ⟨D.o,E.o,M.o,HW.o⟩ ?_;refine Reg.ty 1 rfl ⟨D.o,E.o,M.o,HW.o⟩ ?_;refine Reg.ty 2 rfl ⟨D.o,E.o,M.o,HW.o⟩ ?_;refine Reg.tw 3 (v:=.int .i64 (n:Int)) rfl ⟨D.o,E.o,M.o,HW.o⟩ (fun w' hS=>by obtain⟨hA,hG,hQ,hW⟩:=hS;have q2:=aA.o _ hG;go_simp<;>rfl) ?_;refine Reg.tw 5 (v:=.agg #[.string ⟨(r,krb++O).1.toArray⟩,.string ⟨(r,krb++O).2.toArray⟩]) rfl ⟨D.o,E.o,M.o,HW.o⟩ (fun w' hS=>by obtain⟨hA,hG,hQ,hW⟩:=hS;have q0:=hQ.cell 0;have q1:=hQ.cell 1;go_simp<;>rfl) ?_;refine Reg.ty 6 rfl ⟨D.o,E.o,M.o,HW.o⟩ ?_;refine Reg.b1 4 ?_
   right
   refine⟨_,_,_,_,_,_,22,#[.int .i64 (n:Int)],rfl,by rfl,(by go_simp<;>first | rfl | exact⟨rfl,rfl⟩),?_⟩;refine Ag (C2.o _) ?_;rintro bw F;replace Y:=Y.t F;replace D:=I (D.o.below F);replace E:=I (E.o.below F);replace M:=I (M.o.below F);replace HW:=I (HW.o.below F);clear F;clear C2;refine⟨_,rfl,⟨D.o,E.o,M.o,HW.o⟩,?_⟩;simp only[Act.put,J,U,Aa];refine Reg.tw 7 (v:=.agg cr) rfl ⟨D.o,E.o,M.o,HW.o⟩ (fun w' hS=>by obtain⟨hA,hG,hQ,hW⟩:=hS;refine Cd (t:=110) (by rfl) (by simp only[List.map_toArray,List.map_cons,List.map_nil];exact ak.o)) ?_;refine Reg.b1 8 ?_
   right
   refine⟨_,_,_,_,_,_,37,#[.agg cr],rfl,by rfl,(by go_simp<;>first | rfl | exact⟨rfl,rfl⟩),?_⟩;refine Calls.mono (C3.o _) ?_;rintro e aC he;obtain⟨v1,rfl,bq,F⟩:=MT he;clear he;replace Y:=Y.t F;replace D:=I (D.o.below F);replace E:=I (E.o.below F);replace M:=I (M.o.below F);replace HW:=I (HW.o.below F);have S1:=I bq;clear F;clear C3;refine⟨_,rfl,⟨D.o,E.o,M.o,HW.o⟩,?_⟩;simp only[Act.put,J,U,Aa];refine Reg.ty 9 rfl ⟨D.o,E.o,M.o,HW.o⟩ ?_;refine Reg.ty 10 rfl ⟨D.o,E.o,M.o,HW.o⟩ ?_;refine Reg.ty 11 rfl ⟨D.o,E.o,M.o,HW.o⟩ ?_;refine Reg.ty 12 rfl ⟨D.o,E.o,M.o,HW.o⟩ ?_;refine Reg.ty 13 rfl ⟨D.o,E.o,M.o,HW.o⟩ ?_;refine wpAnyH_done (by kernel_rfl) ?_ _;obtain⟨W5,aZ⟩:=Ah (aC);rw[<-aZ] at D E M HW Y S1⊢;clear aZ;obtain⟨A1,c1,bx,bs,aQ⟩:=S1.o;subst bx;have c4:=fun(w1:World) (F:Below W5.heap.size W5 w1)=>C4.o w1 A1 (lO aI).length c1 (by rw[ay.o]) (by rw[ay.o];exact(aQ.rd.below F).more F.size)
   have az:=I c4;obtain⟨l1,aX⟩:=Ah ((lO aI).length);rw[<-aX] at az⊢;clear S1 bs aQ c4 C4 aX
   go_upto_region 15 with fail
   have X:Below W5.heap.size W5 W5.drew:=below_drewN Af 1;replace Y:=Y.t X;replace D:=I (D.o.below X);replace E:=I (E.o.below X);replace M:=I (M.o.below X);replace HW:=I (HW.o.below X);clear X;refine Reg.AN (fun w'=>Blk w' ga 43 (acA kd 0 r O N bv now)/\Blk w' g 33 cg/\Blk w' gq 36 #[.string ⟨(r,krb++O).1.toArray⟩,.string ⟨(r,krb++O).2.toArray⟩]/\Blk w' PW 36 #[.string ⟨annP.1.toArray⟩,.string ⟨annP.2.toArray⟩]) 15 rfl (by kernel_rfl) ⟨D.o,E.o,M.o,HW.o⟩ ?_;refine Reg.ty 0 rfl ⟨D.o,E.o,M.o,HW.o⟩ ?_;refine Reg.ty 1 rfl ⟨D.o,E.o,M.o,HW.o⟩ ?_;refine Reg.ty 2 rfl ⟨D.o,E.o,M.o,HW.o⟩ ?_;refine Reg.tw 3 (v:=.agg cy) rfl ⟨D.o,E.o,M.o,HW.o⟩ (fun w' hS=>by obtain⟨hA,hG,hQ,hW⟩:=hS;exact IA (.tmp 79) rfl rfl (aB.o _ hG) Tryz.underlying31 (by rfl) aW.o) ?_;refine Reg.ty 4 rfl ⟨D.o,E.o,M.o,HW.o⟩ ?_;refine Reg.ty 5 rfl ⟨D.o,E.o,M.o,HW.o⟩ ?_;refine Reg.ty 6 rfl ⟨D.o,E.o,M.o,HW.o⟩ ?_;refine Reg.tw 7 (v:=.int .i64 q.u) rfl ⟨D.o,E.o,M.o,HW.o⟩ (fun w' hS=>by obtain⟨hA,hG,hQ,hW⟩:=hS;have bD:=av.o _ hG;go_simp<;>rfl) ?_;refine Reg.ty 8 rfl ⟨D.o,E.o,M.o,HW.o⟩ ?_;refine Reg.b1 9 ?_
   right
   refine⟨_,_,_,_,_,_,38,#[.agg cy,.int .i64 q.u,.int .i64 55,.slice A1 l1 c1],rfl,by rfl,(by go_simp<;>first | rfl | exact⟨rfl,rfl⟩),?_⟩;refine Calls.mono (az.o _ (below_drewN Af 1)) ?_;rintro e aw ⟨A2,c2,rfl,aR,F⟩;replace Y:=Y.t F;replace D:=I (D.o.below F);replace E:=I (E.o.below F);replace M:=I (M.o.below F);replace HW:=I (HW.o.below F);have S2:=I aR.rd;clear aR;clear F;clear az;refine⟨_,rfl,⟨D.o,E.o,M.o,HW.o⟩,?_⟩;simp only[Act.put,J,U,Aa];refine Reg.ty 10 rfl ⟨D.o,E.o,M.o,HW.o⟩ ?_;refine Reg.ty 11 rfl ⟨D.o,E.o,M.o,HW.o⟩ ?_;refine Reg.ty 12 rfl ⟨D.o,E.o,M.o,HW.o⟩ ?_;refine Reg.ty 13 rfl ⟨D.o,E.o,M.o,HW.o⟩ ?_;refine Reg.ty 14 rfl ⟨D.o,E.o,M.o,HW.o⟩ ?_;refine wpAnyH_done (by kernel_rfl) ?_ _;obtain⟨W6,aY⟩:=Ah (aw);rw[<-aY] at D E M HW Y S2⊢;clear aY;obtain⟨l2,aF⟩:=Ah (sb.1.length);have bz:=I aF;rw[<-aF] at⊢;clear aF;have a1:W6.cell? ⟨ga,1,none⟩=some (.int .i64 0):=D.o.cell 1
   go_upto_region 18 with fail
   clear a1;have b0:W6.cell? ⟨PW,0,none⟩=some (.string ⟨annP.1.toArray⟩):=HW.o.cell 0;have b1:W6.cell? ⟨PW,1,none⟩=some (.string ⟨annP.2.toArray⟩):=HW.o.cell 1;have b2:W6.cell? ⟨gq,0,none⟩=some (.string ⟨(r,krb++O).1.toArray⟩):=M.o.cell 0;have b3:W6.cell? ⟨gq,1,none⟩=some (.string ⟨(r,krb++O).2.toArray⟩):=M.o.cell 1;obtain⟨W7,an⟩:=Ah (W6.alloc (.cells #[.int .u8 1,.int .u8 2] 5));have al:Below W6.heap.size W6 W7:=an▸Af.alloc Ae _;have H7:=I (show Rd W7 W7.heap.size (some ⟨W6.heap.size,0,none⟩) (bvs [1,2]) by
    have aH:Blk W7 W6.heap.size 5 #[.int .u8 1,.int .u8 2]:=an▸Blk.new W6 _ _;refine .inr ⟨_,0,rfl,aH.lt,fun i u hu=>?_⟩;rw[aH.cell];rcases i with _ | _ | i
    ·exact hu
    ·exact hu
    ·simp [bvs] at hu)
   have c5:=C5.o W7 (some ⟨W6.heap.size,0,none⟩) A2 2 c2 l2 (by rw[EB.o,bz.o]) H7.o (by rw[EB.o];exact(S2.o.below al).more al.size);have ao:=ax.o (.slice (some ⟨W6.heap.size,0,none⟩) 2 2) (.slice A2 l2 c2);rw[bf.o] at c5 ao;obtain⟨cm,aL⟩:=Ah (Mc.mgA 3 Mc.zA Mc.zT #[.string ⟨annP.1.toArray⟩,.string ⟨annP.2.toArray⟩,.string ⟨(r,krb++O).1.toArray⟩,.string ⟨(r,krb++O).2.toArray⟩,.int .i64 1,.slice (some ⟨W6.heap.size,0,none⟩) 2 2,.slice A2 l2 c2] Mc.zP Mc.zF);rw[<-aL] at c5 ao;have ba:=I ao;have bn:=I an;have ar:=Y.t al;clear aL ao ax C5 an al
   go_wp2_with (first
    |(refine Mc.Au (by rfl) 63 #[(0,.const (.int .i64 3)),(3,.tmp 114)] (by rfl) cm (by simp only[List.map_toArray,List.map_cons,List.map_nil];exact ba.o) ?_)
    |(rw[<-bn.o];go_at_call 36;refine Calls.mono c5 ?_;rintro e w9 he;obtain⟨v9,rfl,aO,F⟩:=MT he;clear c5 he b0 b1 b2 b3;have HV:=I (aO.mono (S':=fun j=>j<w.heap.size) (fun j _ x=>by have:=ar.o.size;omega));replace ar:=ar.t F;clear F aO)
    |fail)
   go_ret;exact⟨v9,rfl,HV.o,ar.o⟩
end
end Cl
namespace Cl
open Go.RowKit Ad Se
open Nm (L krb tgL tgR)
open Ms (Pr tmB pSm mSm mgO mgD mgB mgE An Mg As Tg Re Rp Tk asB tgB reB tkB prB Bv)
open Ca (Cr It putL putE)
def pq1:Pq:=⟨1,k9,3⟩
theorem Wp {g:Mg}:(lO (mgO g)).length<=2000:=by
 cases e:mgO g with
 |none=>exact Nat.zero_le _
 |some b=>exact(Ms.BA.1 e).2.2▸(Ms.BA.1 e).2.1
theorem Ea (t:UInt8) (l:L):0<(DerP.elem t l).length:=by rw[DerP.CN];omega
theorem Yf {q:Tg} (h:tgB q=true):0<(lO (mgO (mTg q))).length:=by
 rw[(XS h).1];show 0<(Ms.tgE q).length;exact Ea _ _
theorem Us {q:Re} (h:reB q=true):0<(lO (mgO (mRe q))).length:=by
 rw[(Ra h).1];show 0<(Ms.reE q).length;exact Ea _ _
theorem Yg {r x:L} (h:prB (r,krb++x)=true):tgL (krb++x)=true/\tgR (krb++x)=x:=by
 have E:tgL (krb++x)=true:=by
  unfold prB Nm.BM at h;rw[Bool.and_eq_true,Bool.or_eq_true] at h;rcases h.2 with h | h
  ·exact h
  ·have:=(Nm.DI _ _).1 h
   have D:(47:UInt8)∈(krb++x):=List.mem_append_left _ (by decide);exact absurd ((List.all_eq_true.1 this.2.2) 47 D) (by decide)
 exact⟨E,by rw[Nm.tgR,E];rfl⟩
theorem TJ {r x:L}:(r,krb++x)≠DQ:=fun e=>by
 have D:krb++x = [109,97,105,108]:=congrArg (fun p:Pr=>p.2) e;have E:=congrArg (fun l:L=>l[0]?) D;exact absurd (show some (107:UInt8)=some 109 from E) (by decide)
theorem Wq {r x:L}:((r,krb++x)=own annP)↔(r = [65]/\x = [65]):=by
 constructor
 ·intro e
  injection e with e1 e2;refine⟨e1,?_⟩;have:=List.append_cancel_left e2;exact this
 ·rintro⟨rfl,rfl⟩
  rfl
theorem Rn (now:Int):goL mC annP (s1 0) (gotX pq1 (own annP)) now=furL annP (putS mC (s1 0) (gotX pq1 (own annP)) now) [65] (gotX pq1 (own annP)) now:=by
 have D:refL annP (s1 0) (own annP)=([65],0):=by decide
 unfold goL;rw[if_pos (show mC.err (s1 0).l (gotX pq1 (own annP)).s now=0 from rfl),if_neg (show ¬(gotX pq1 (own annP)).s=(s1 0).tg by decide),show(gotX pq1 (own annP)).s=own annP from rfl,D]
 rfl
theorem Ro {v:Pr} {x:L} {r:L} (D:v=(r,krb++x)) (h:prB v=true) (E:v≠own annP) (now:Int):goL mC annP (s1 0) (gotX pq1 v) now=(endS mC (putS mC (s1 0) (gotX pq1 v) now) 3 9,([],[])):=by
 have F:tgL v.2=true:=by subst D;exact(Yg h).1
 have M:refL annP (s1 0) v=([],9):=by
  unfold refL;rw[if_pos F,if_pos ⟨rfl,E⟩]
 unfold goL;rw[if_pos (show mC.err (s1 0).l (gotX pq1 v).s now=0 from rfl),if_neg (show ¬(gotX pq1 v).s=(s1 0).tg by subst D;exact TJ),show(gotX pq1 v).s=v from rfl,M,if_neg (show ¬(([]:L),(9:Int)).2=0 by decide)]
def x1:Cr:=gotX pq1 (own annP)
def s2 (now:Int):St:=furS (putS mC (s1 0) x1 now) [65] x1
theorem tk_x1:tkB (tkOf x1)=true:=by decide
theorem Wr (now:Int) (D:tmB now=true):tgB (furQ annP (putS mC (s1 0) x1 now) x1 now)=true:=XT GV tk_x1 TA D (show 1<1000000 by decide) (show 0<1000000 by decide)
end Cl
namespace Cl
open Go.RowKit Ad Se
open Nm (L krb tgL tgR)
open Ms (Pr tmB pSm mSm mgO mgD mgB mgE An Mg As Tg Re Rp Tk prB)
open Rg (prV)
open Ca (Cr It putL putE)
theorem JP {w:World} {now:Int} (E:tmB now=true) {g k x:Nat} {q:Pq} {v:Value} {S:Nat->Prop} (h:Blk w g 33 (prA k x q)) (D:SlN S w v (lO (mgO (mAs (firQ annP st0 now))))):Calls Tryz.prog 13 #[pv g,v] w (SenP w g k x pq1):=by
 have F:=Up (s:=st0) GV Rh E (by decide);have hm:=Uo F;exact Yd (G:=mAs (firQ annP st0 now)) h (Nat.le_trans Wp (by decide)) D (by rw[hm.1];exact hm.2) rfl
theorem Ut {w:World} {B:Nat} {p:CP} {m:CM} {b:L} {v:Value} {now:Int} (h:Cl w B p m (s1 0) 2) (D:p.P=annP) (F:b.length<=100000) (E:SlN (AO p m) w v b):Calls Tryz.prog 14 #[pv p.k,v,.int .i64 now] w (StP w B p m 6 (takL mC annP (s1 0) b now)):=by
 have:=Wb (now:=now) h (fun _=>by decide) (sz1 D) (by decide) F E;rw[D] at this;exact this
theorem Uu {v:Pr} {now:Int} (E:tmB now=true) (D:prB v=true):takL mC annP (s1 0) (repL pq1 v annP 1) now=goL mC annP (s1 0) (gotX pq1 v) now:=Rf (q:=pq1) rfl E rfl rfl rfl GV D (by decide) (by decide) (by decide)
theorem Ws (r D:L) (w:World) (h:100<r.length+D.length) (F:r.length<=140737488351232) (E:D.length<=140737488351232):Calls Tryz.prog 8 #[.string ⟨r.toArray⟩,.string ⟨D.toArray⟩] w fun e w'=>e=.returned (.bool true)/\Below w.heap.size w w':=by
 have M:IntKind.i64.wrap ((r.length:Int)+(D.length:Int))=(r.length:Int)+(D.length:Int):=IntWalk.i64_in _ (by omega);have O:decide ((100:Int)<(r.length:Int)+(D.length:Int))=true:=decide_eq_true (by omega);clear h F E;go_enter Tryz.func8,Tryz.ntmps8
 go_wp2
 go_ret;exact⟨rfl,Below.refl _ _⟩
theorem Wt (r Y:L) (w:World) (hl:r.length+Y.length<=100) (hv:prB (r,krb++Y)=false):Calls Tryz.prog 8 #[.string ⟨r.toArray⟩,.string ⟨Y.toArray⟩] w fun e w'=>e=.returned (.bool true)/\Below w.heap.size w w':=by
 have au:IntKind.i64.wrap ((r.length:Int)+(Y.length:Int))=(r.length:Int)+(Y.length:Int):=IntWalk.i64_in _ (by omega);have t0:decide ((100:Int)<(r.length:Int)+(Y.length:Int))=false:=decide_eq_false (by omega);have CB:=I (JM w);have L1:=I (fun(Z:World)=>KR Z);have KN:=I (fun(Z:World)=>LY Z);have ak:r.length<=1000000:=by omega
 have ad:Y.length<=1000000:=by omega
 have CC:=I (fun(w2:World) (B:Nat) (p:CP) (m2:CM) (h:Cl w2 B p m2 st0 0) (hp:p.P=annP) (X:p.ks=k9)=>JO h hp X 1 (by decide));have CS:=I (fun(w2:World) (g k x:Nat) (v:Value) (S:Nat->Prop) (h:Blk w2 g 33 (prA k x pq0)) (hv:SlN S w2 v (lO (mgO (mAs (firQ annP st0 1)))))=>JP (by decide) h hv);have CA:=I (fun(w2:World) (g k x:Nat) (h:Blk w2 g 33 (prA k x pq1))=>Wo (kd:=0) (N:=0) (now:=0) (bv:=.slice none 0 0) h (n:=1) rfl (by decide) ak ad);obtain⟨b0,ag⟩:=Ah (lO (mgO (mAs (firQ annP st0 1))));rw[<-ag] at CC CS;have ae:repL pq1 (r,krb++Y) annP pq1.no = []:=We hv;rw[ae] at CA;clear ak ad ag ae hl hv;go_enter Tryz.func8,Tryz.ntmps8
 go_upto_region 6 with(first
  |(go_at_call 10;refine Calls.mono CB.o ?_;rintro e Z ⟨g,x,p,m,rfl,hp,X,hc,hn,hg,ai,M⟩;clear CB;have HP:=I hp;have an:=I X;have E:=I hc;have NG:=I hn;have D:=I hg;have ar:=I ai;have F:=I M;clear hp X hc hn hg ai M)
  |fail)
 have O:Below Z.heap.size Z Z.drew:=below_drewN Af 1;replace E:=I (E.o.below O);replace F:=F.t O;replace D:=I (D.o.below O);clear O;refine Reg.AN (fun w'=>Blk w' g 33 (prA p.k x pq0)) 13 rfl (by kernel_rfl) D.o ?_;refine Reg.ty 0 rfl D.o ?_;refine Reg.ty 1 rfl D.o ?_;refine Reg.ty 2 rfl D.o ?_;refine Reg.tw 3 (v:=pv p.k) rfl D.o (fun w' hS=>by have q0:w'.cell? ⟨g,0,none⟩=some (pv p.k):=hS.cell 0;go_simp<;>rfl) ?_;refine Reg.b1 4 ?_
 right
 refine⟨_,_,_,_,_,_,12,#[],rfl,by rfl,(by go_simp<;>first | rfl | exact⟨rfl,rfl⟩),?_⟩;refine Ag (L1.o _) ?_;rintro al M;replace E:=I (E.o.below M);replace F:=F.t M;replace D:=I (D.o.below M);clear M;refine⟨_,rfl,D.o,?_⟩;simp only[Act.put,J,U,Aa];refine Reg.b1 5 ?_
 right
 refine⟨_,_,_,_,_,_,11,#[pv p.k,prV DQ,.int .i64 1],rfl,by rfl,(by go_simp<;>first | rfl | exact⟨rfl,rfl⟩),?_⟩;refine Calls.mono (CC.o _ _ _ _ E.o HP.o an.o) ?_;rintro e ab ⟨v1,m1,rfl,hs,hk⟩;have af:=hk.blk D.o NG.o;replace NG:=I (hk.not NG.o D.o.lt);replace D:=I af;clear af;replace F:=I (Ed F.o E.o hk);replace E:=I hk.cl;have S1:=I (IB hs);clear hk;clear CC hs;refine⟨_,rfl,D.o,?_⟩;simp only[Act.put,J,U,Aa];refine Reg.ty 6 rfl D.o ?_;refine Reg.ty 7 rfl D.o ?_;refine Reg.ty 8 rfl D.o ?_;refine Reg.ty 9 rfl D.o ?_;refine Reg.ty 10 rfl D.o ?_;refine Reg.ty 11 rfl D.o ?_;refine Reg.ty 12 rfl D.o ?_;refine wpAnyH_done (by kernel_rfl) ?_ _;obtain⟨w2,ah⟩:=Ah (ab);rw[<-ah] at E F D S1⊢;clear ah
 go_upto_region 9 with(first
  |(go_at_call 13;refine Ag (CS.o _ _ _ _ _ _ D.o S1.o) ?_;rintro w3 ⟨aj,aa⟩;replace D:=I aj;replace F:=I (Wg F.o ar.o aa);replace E:=I (E.o.chg aa (fun j hj y=>NG.o (y▸hj)));clear aj aa)
  |(go_at_call 15;refine Calls.mono (CA.o _ _ _ _ D.o) ?_;rintro e w4 ⟨v2,rfl,hs,M⟩;clear CA S1 CS;have S2:=I (hs.mono (S':=AO p m1) (fun j _ y=>E.o.lt y));replace E:=I (E.o.below M);replace F:=F.t M;replace D:=I (D.o.below M);clear hs M)
  |fail)
 obtain⟨A2,c2,ao,_⟩:=S2.o;subst ao
 go_wp2
 go_ret;exact⟨rfl,F.o⟩
theorem Wu (r nx:L) (w:World) (hl:r.length+nx.length<=100) (hv:prB (r,krb++nx)=true) (he:r = [65]/\nx = [65]):Calls Tryz.prog 8 #[.string ⟨r.toArray⟩,.string ⟨nx.toArray⟩] w fun e w'=>e=.returned (.bool true)/\Below w.heap.size w w':=by
 have az:IntKind.i64.wrap ((r.length:Int)+(nx.length:Int))=(r.length:Int)+(nx.length:Int):=IntWalk.i64_in _ (by omega);have t0:decide ((100:Int)<(r.length:Int)+(nx.length:Int))=false:=decide_eq_false (by omega);have CB:=I (JM w);have L1:=I (fun(w1:World)=>KR w1);have KN:=I (fun(w1:World)=>LY w1);have ao:r.length<=1000000:=by omega
 have af:nx.length<=1000000:=by omega
 have CC:=I (fun(w2:World) (B:Nat) (p:CP) (m2:CM) (h:Cl w2 B p m2 st0 0) (hp:p.P=annP) (Z:p.ks=k9)=>JO h hp Z 1 (by decide));have CS:=I (fun(w2:World) (g k x:Nat) (v:Value) (S:Nat->Prop) (h:Blk w2 g 33 (prA k x pq0)) (hv:SlN S w2 v (lO (mgO (mAs (firQ annP st0 1)))))=>JP (by decide) h hv);have CA:=I (fun(w2:World) (g k x:Nat) (h:Blk w2 g 33 (prA k x pq1))=>Wo (kd:=0) (N:=0) (now:=0) (bv:=.slice none 0 0) h (n:=1) rfl (by decide) ao af);obtain⟨b0,ah⟩:=Ah (lO (mgO (mAs (firQ annP st0 1))));rw[<-ah] at CC CS;obtain⟨er,ex⟩:=he;subst er ex;have O:=Us (q:=repR pq1 ([65],krb++[65]) annP 1) (Rb (q:=pq1) (who:=annP) (no:=1) hv GV (by decide) (by decide) (by decide));have O:0<(repL pq1 ([65],krb++[65]) annP pq1.no).length:=O;have hle:(repL pq1 ([65],krb++[65]) annP pq1.no).length<=100000:=Nat.le_trans Wp (by decide);have hT:takL mC annP (s1 0) (repL pq1 ([65],krb++[65]) annP pq1.no) 1=furL annP (putS mC (s1 0) x1 1) [65] x1 1:=(Uu (by decide) hv).trans (Rn 1);have C5:=I (fun(w2:World) (B:Nat) (p:CP) (m2:CM) (v:Value) (h:Cl w2 B p m2 (s1 0) 2) (hp:p.P=annP) (hv:SlN (AO p m2) w2 v (repL pq1 ([65],krb++[65]) annP pq1.no))=>Ut (now:=1) h hp hle hv);rw[hT] at C5;have C6:=I (fun(w2:World) (B:Nat) (p:CP) (m2:CM) (h:Cl w2 B p m2 (s2 1) 6)=>(show Calls Tryz.prog 17 #[pv p.k] w2 fun e w'=>e=.returned (.tuple #[.int .i64 1,.int .i64 0,.int .i64 2])/\Below w2.heap.size w2 w' from LX h));obtain⟨bR,al⟩:=Ah (repL pq1 ([65],krb++[65]) annP pq1.no);rw[<-al] at CA C5 O;have ad:0<(furL annP (putS mC (s1 0) x1 1) [65] x1 1).2.2.length:=Yf (Wr 1 (by decide));have EF:=I (show furL annP (putS mC (s1 0) x1 1) [65] x1 1=(s2 1,([65],(furL annP (putS mC (s1 0) x1 1) [65] x1 1).2.2)) from rfl);obtain⟨fb,ag⟩:=Ah ((furL annP (putS mC (s1 0) x1 1) [65] x1 1).2.2);rw[EF.o] at C5;rw[<-ag] at C5 ad;clear EF;clear ao af ah hl hv hle hT al ag;go_enter Tryz.func8,Tryz.ntmps8
 go_upto_region 6 with(first
  |(go_at_call 10;refine Calls.mono CB.o ?_;rintro e w1 ⟨g,x,p,m,rfl,hp,Z,hc,hn,hg,aj,F⟩;clear CB;have HP:=I hp;have au:=I Z;have M:=I hc;have NG:=I hn;have D:=I hg;have aw:=I aj;have E:=I F;clear hp Z hc hn hg aj F)
  |fail)
 have Y:Below w1.heap.size w1 w1.drew:=below_drewN Af 1;replace M:=I (M.o.below Y);replace E:=E.t Y;replace D:=I (D.o.below Y);clear Y;refine Reg.AN (fun w'=>Blk w' g 33 (prA p.k x pq0)) 13 rfl (by kernel_rfl) D.o ?_;refine Reg.ty 0 rfl D.o ?_;refine Reg.ty 1 rfl D.o ?_;refine Reg.ty 2 rfl D.o ?_;refine Reg.tw 3 (v:=pv p.k) rfl D.o (fun w' hS=>by have q0:w'.cell? ⟨g,0,none⟩=some (pv p.k):=hS.cell 0;go_simp<;>rfl) ?_;refine Reg.b1 4 ?_
 right
 refine⟨_,_,_,_,_,_,12,#[],rfl,by rfl,(by go_simp<;>first | rfl | exact⟨rfl,rfl⟩),?_⟩;refine Ag (L1.o _) ?_;rintro ar F;replace M:=I (M.o.below F);replace E:=E.t F;replace D:=I (D.o.below F);clear F;refine⟨_,rfl,D.o,?_⟩;simp only[Act.put,J,U,Aa];refine Reg.b1 5 ?_
 right
 refine⟨_,_,_,_,_,_,11,#[pv p.k,prV DQ,.int .i64 1],rfl,by rfl,(by go_simp<;>first | rfl | exact⟨rfl,rfl⟩),?_⟩;refine Calls.mono (CC.o _ _ _ _ M.o HP.o au.o) ?_;rintro e aa ⟨v1,m1,rfl,hs,hk⟩;have X:=hk.blk D.o NG.o;replace NG:=I (hk.not NG.o D.o.lt);replace D:=I X;clear X;replace E:=I (Ed E.o M.o hk);replace M:=I hk.cl;have S1:=I (IB hs);clear hk;clear CC hs;refine⟨_,rfl,D.o,?_⟩;simp only[Act.put,J,U,Aa];refine Reg.ty 6 rfl D.o ?_;refine Reg.ty 7 rfl D.o ?_;refine Reg.ty 8 rfl D.o ?_;refine Reg.ty 9 rfl D.o ?_;refine Reg.ty 10 rfl D.o ?_;refine Reg.ty 11 rfl D.o ?_;refine Reg.ty 12 rfl D.o ?_;refine wpAnyH_done (by kernel_rfl) ?_ _;obtain⟨w2,ai⟩:=Ah (aa);rw[<-ai] at M E D S1⊢;clear ai
 go_upto_region 9 with(first
  |(go_at_call 13;refine Ag (CS.o _ _ _ _ _ _ D.o S1.o) ?_;rintro w3 ⟨ak,ab⟩;replace D:=I ak;replace E:=I (Wg E.o aw.o ab);replace M:=I (M.o.chg ab (fun j hj y=>NG.o (y▸hj)));clear ak ab)
  |(go_at_call 15;refine Calls.mono (CA.o _ _ _ _ D.o) ?_;rintro e w4 ⟨v2,rfl,hs,F⟩;clear CA S1 CS;have S2:=I (hs.mono (S':=AO p m1) (fun j _ y=>M.o.lt y));replace M:=I (M.o.below F);replace E:=E.t F;replace D:=I (D.o.below F);clear hs F)
  |fail)
 obtain⟨A2,c2,av,_⟩:=S2.o;subst av;have c5:=C5.o w4 _ _ _ (.slice A2 bR.length c2) M.o HP.o S2.o;obtain⟨nR,an⟩:=Ah (bR.length);rw[<-an] at c5 O⊢;have q0:w4.cell? ⟨g,0,none⟩=some (pv p.k):=D.o.cell 0;have tp:¬nR=0:=by omega
 clear C5 S2 an
 go_upto_region 13 with(first
  |(go_at_call 14;refine Calls.mono c5 ?_;rintro e w5 ⟨v5,m5,rfl,hs,hk⟩;clear c5 q0;have X:=hk.blk D.o NG.o;replace D:=I X;replace E:=I (Ed E.o M.o hk);have S5:=I hs;replace M:=I hk.cl;clear X hs hk;have q0:w5.cell? ⟨g,0,none⟩=some (pv p.k):=D.o.cell 0;have c6:=C6.o _ _ _ _ M.o)
  |(go_at_call 17;refine Ag c6 ?_;rintro w6 F;clear c6 q0 C6;replace E:=E.t F;clear F)
  |fail)
 obtain⟨A5,c5,ax,_⟩:=S5.o;subst ax;obtain⟨nf,ae⟩:=Ah (fb.length);have ay:0<nf:=by rw[ae];exact ad
 have t1:decide ((0:Int)<(nf:Int))=true:=decide_eq_true (by omega);rw[<-ae];clear ae ad
 go_wp2_with (first
  |(go_at_call 18;refine Ag (KN.o _) ?_;rintro w9 F;clear KN;replace E:=E.t F;clear F)
  |fail)
 go_ret;exact⟨rfl,E.o⟩
theorem Wv (r M:L) (w:World) (hl:r.length+M.length<=100) (hv:prB (r,krb++M)=true) (he:¬(r = [65]/\M = [65])):Calls Tryz.prog 8 #[.string ⟨r.toArray⟩,.string ⟨M.toArray⟩] w fun e w'=>e=.returned (.bool true)/\Below w.heap.size w w':=by
 have aw:IntKind.i64.wrap ((r.length:Int)+(M.length:Int))=(r.length:Int)+(M.length:Int):=IntWalk.i64_in _ (by omega);have t0:decide ((100:Int)<(r.length:Int)+(M.length:Int))=false:=decide_eq_false (by omega);have CB:=I (JM w);have L1:=I (fun(w1:World)=>KR w1);have KN:=I (fun(w1:World)=>LY w1);have al:r.length<=1000000:=by omega
 have ae:M.length<=1000000:=by omega
 have CC:=I (fun(w2:World) (B:Nat) (p:CP) (m2:CM) (h:Cl w2 B p m2 st0 0) (hp:p.P=annP) (ab:p.ks=k9)=>JO h hp ab 1 (by decide));have CS:=I (fun(w2:World) (g k x:Nat) (v:Value) (S:Nat->Prop) (h:Blk w2 g 33 (prA k x pq0)) (hv:SlN S w2 v (lO (mgO (mAs (firQ annP st0 1)))))=>JP (by decide) h hv);have CA:=I (fun(w2:World) (g k x:Nat) (h:Blk w2 g 33 (prA k x pq1))=>Wo (kd:=0) (N:=0) (now:=0) (bv:=.slice none 0 0) h (n:=1) rfl (by decide) al ae);obtain⟨b0,af⟩:=Ah (lO (mgO (mAs (firQ annP st0 1))));rw[<-af] at CC CS;have X:=Us (q:=repR pq1 (r,krb++M) annP 1) (Rb (q:=pq1) (who:=annP) (no:=1) hv GV (by decide) (by decide) (by decide));have X:0<(repL pq1 (r,krb++M) annP pq1.no).length:=X;have hle:(repL pq1 (r,krb++M) annP pq1.no).length<=100000:=Nat.le_trans Wp (by decide);have hT:takL mC annP (s1 0) (repL pq1 (r,krb++M) annP pq1.no) 1=(endS mC (putS mC (s1 0) (gotX pq1 (r,krb++M)) 1) 3 9,([],[])):=(Uu (by decide) hv).trans (Ro rfl hv (fun e=>he (Wq.1 e)) 1);have C5:=I (fun(w2:World) (B:Nat) (p:CP) (m2:CM) (v:Value) (h:Cl w2 B p m2 (s1 0) 2) (hp:p.P=annP) (hv:SlN (AO p m2) w2 v (repL pq1 (r,krb++M) annP pq1.no))=>Ut (now:=1) h hp hle hv);rw[hT] at C5;have C6:=I (fun(w2:World) (B:Nat) (p:CP) (m2:CM) (h:Cl w2 B p m2 (endS mC (putS mC (s1 0) (gotX pq1 (r,krb++M)) 1) 3 9) 6)=>(show Calls Tryz.prog 17 #[pv p.k] w2 fun e w'=>e=.returned (.tuple #[.int .i64 3,.int .i64 9,.int .i64 1])/\Below w2.heap.size w2 w' from LX h));obtain⟨bR,aj⟩:=Ah (repL pq1 (r,krb++M) annP pq1.no);rw[<-aj] at CA C5 X;clear al ae af hl hv hle hT aj;go_enter Tryz.func8,Tryz.ntmps8
 go_upto_region 6 with(first
  |(go_at_call 10;refine Calls.mono CB.o ?_;rintro e w1 ⟨g,x,p,m,rfl,hp,ab,hc,hn,hg,ah,F⟩;clear CB;have HP:=I hp;have ao:=I ab;have O:=I hc;have NG:=I hn;have D:=I hg;have au:=I ah;have E:=I F;clear hp ab hc hn hg ah F)
  |fail)
 have Z:Below w1.heap.size w1 w1.drew:=below_drewN Af 1;replace O:=I (O.o.below Z);replace E:=E.t Z;replace D:=I (D.o.below Z);clear Z;refine Reg.AN (fun w'=>Blk w' g 33 (prA p.k x pq0)) 13 rfl (by kernel_rfl) D.o ?_;refine Reg.ty 0 rfl D.o ?_;refine Reg.ty 1 rfl D.o ?_;refine Reg.ty 2 rfl D.o ?_;refine Reg.tw 3 (v:=pv p.k) rfl D.o (fun w' hS=>by have q0:w'.cell? ⟨g,0,none⟩=some (pv p.k):=hS.cell 0;go_simp<;>rfl) ?_;refine Reg.b1 4 ?_
 right
 refine⟨_,_,_,_,_,_,12,#[],rfl,by rfl,(by go_simp<;>first | rfl | exact⟨rfl,rfl⟩),?_⟩;refine Ag (L1.o _) ?_;rintro an F;replace O:=I (O.o.below F);replace E:=E.t F;replace D:=I (D.o.below F);clear F;refine⟨_,rfl,D.o,?_⟩;simp only[Act.put,J,U,Aa];refine Reg.b1 5 ?_
 right
 refine⟨_,_,_,_,_,_,11,#[pv p.k,prV DQ,.int .i64 1],rfl,by rfl,(by go_simp<;>first | rfl | exact⟨rfl,rfl⟩),?_⟩;refine Calls.mono (CC.o _ _ _ _ O.o HP.o ao.o) ?_;rintro e aa ⟨v1,m1,rfl,hs,hk⟩;have Y:=hk.blk D.o NG.o;replace NG:=I (hk.not NG.o D.o.lt);replace D:=I Y;clear Y;replace E:=I (Ed E.o O.o hk);replace O:=I hk.cl;have S1:=I (IB hs);clear hk;clear CC hs;refine⟨_,rfl,D.o,?_⟩;simp only[Act.put,J,U,Aa];refine Reg.ty 6 rfl D.o ?_;refine Reg.ty 7 rfl D.o ?_;refine Reg.ty 8 rfl D.o ?_;refine Reg.ty 9 rfl D.o ?_;refine Reg.ty 10 rfl D.o ?_;refine Reg.ty 11 rfl D.o ?_;refine Reg.ty 12 rfl D.o ?_;refine wpAnyH_done (by kernel_rfl) ?_ _;obtain⟨w2,ag⟩:=Ah (aa);rw[<-ag] at O E D S1⊢;clear ag
 go_upto_region 9 with(first
  |(go_at_call 13;refine Ag (CS.o _ _ _ _ _ _ D.o S1.o) ?_;rintro w3 ⟨ai,ad⟩;replace D:=I ai;replace E:=I (Wg E.o au.o ad);replace O:=I (O.o.chg ad (fun j hj y=>NG.o (y▸hj)));clear ai ad)
  |(go_at_call 15;refine Calls.mono (CA.o _ _ _ _ D.o) ?_;rintro e w4 ⟨v2,rfl,hs,F⟩;clear CA S1 CS;have S2:=I (hs.mono (S':=AO p m1) (fun j _ y=>O.o.lt y));replace O:=I (O.o.below F);replace E:=E.t F;replace D:=I (D.o.below F);clear hs F)
  |fail)
 obtain⟨A2,c2,ar,_⟩:=S2.o;subst ar;have c5:=C5.o w4 _ _ _ (.slice A2 bR.length c2) O.o HP.o S2.o;obtain⟨nR,ak⟩:=Ah (bR.length);rw[<-ak] at c5 X⊢;have q0:w4.cell? ⟨g,0,none⟩=some (pv p.k):=D.o.cell 0;have tp:¬nR=0:=by omega
 clear C5 S2 ak
 go_upto_region 13 with(first
  |(go_at_call 14;refine Calls.mono c5 ?_;rintro e w5 ⟨v5,m5,rfl,hs,hk⟩;clear c5 q0;have Y:=hk.blk D.o NG.o;replace D:=I Y;replace E:=I (Ed E.o O.o hk);have S5:=I hs;replace O:=I hk.cl;clear Y hs hk;have q0:w5.cell? ⟨g,0,none⟩=some (pv p.k):=D.o.cell 0;have c6:=C6.o _ _ _ _ O.o)
  |(go_at_call 17;refine Ag c6 ?_;rintro w6 F;clear c6 q0 C6;replace E:=E.t F;clear F)
  |fail)
 obtain⟨A5,c5,av,_⟩:=S5.o;subst av
 by_cases h1:r = [65]
 ·have h2:(M == [65])=false:=by
   cases hh:(M == [65]) with
   |false=>rfl
   |true=>exact absurd ⟨h1,eq_of_beq hh⟩ he
  have h3:M≠[65]:=fun e=>he ⟨h1,e⟩
  clear he
  go_wp2_with (first
   |(go_at_call 18;refine Ag (KN.o _) ?_;rintro w9 F;clear KN;replace E:=E.t F;clear F)
   |fail)
  go_ret;exact⟨rfl,E.o⟩
 ·have h2:(r == [65])=false:=by
   cases hh:(r == [65]) with
   |false=>rfl
   |true=>exact absurd (eq_of_beq hh) h1
  clear he
  go_wp2_with (first
   |(go_at_call 18;refine Ag (KN.o _) ?_;rintro w9 F;clear KN;replace E:=E.t F;clear F)
   |fail)
  go_ret;exact⟨rfl,E.o⟩
theorem Rq (r D:L) (w:World) (E:r.length<=140737488351232) (F:D.length<=140737488351232):Calls Tryz.prog 8 #[.string ⟨r.toArray⟩,.string ⟨D.toArray⟩] w fun e w'=>e=.returned (.bool true)/\Below w.heap.size w w':=by
 by_cases h:100<r.length+D.length
 ·exact Ws r D w h E F
 ·cases hv:prB (r,krb++D) with
  |false=>exact Wt r D w (by omega) hv
  |true=>
   by_cases he:r = [65]/\D = [65]
   ·exact Wu r D w (by omega) hv he
   ·exact Wv r D w (by omega) hv he
theorem Ww (a b:ByteArray) (w:World) (D:a.data.toList.length<=reachBytes) (E:b.data.toList.length<=reachBytes):Calls Tryz.prog 8 #[.string a,.string b] w fun e w'=>e=.returned (.bool true)/\Below w.heap.size w w':=by
 have:=Rq a.data.toList b.data.toList w D E
 rwa [<-JR a,<-JR b] at this
end Cl
end Go.Proofs.YtcpccikongbopaaGreat
