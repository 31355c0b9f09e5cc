import Derived.Test.YthgignaohimadaaGreatZKdcRoutes17
set_option maxHeartbeats 25600000
set_option maxRecDepth 100000
set_option linter.unusedVariables false
set_option linter.unusedSimpArgs false
namespace Go.Proofs.YthgignaohimadaaGreat
namespace Mc
open Go.RowKit Af DerP DerC Ms
def zA:Array Value:=(asC as0).toArray
def zT:Array Value:=(tgC tg0 (.slice none 0 0) (.slice none 0 0)).toArray
def zR:Array Value:=(reC re0 (.slice none 0 0) (.slice none 0 0)).toArray
def zP:Array Value:=(apC ap0 (.slice none 0 0) (.slice none 0 0)).toArray
def zF:Array Value:=(faC fa0).toArray
theorem zA_v:AsV zA as0:=rfl
theorem zF_v:FaV zF fa0:=rfl
theorem zT_v (w:World) (B:Nat):TgV w B zT tg0:=⟨_,_,rfl,SlB.nil w B,SlB.nil w B⟩
theorem zR_v (w:World) (B:Nat):ReV w B zR re0:=⟨_,_,rfl,SlB.nil w B,SlB.nil w B⟩
theorem zP_v (w:World) (B:Nat):ApV w B zP ap0:=⟨_,_,rfl,SlB.nil w B,SlB.nil w B⟩
theorem zM_v (w:World) (B:Nat) (k:Int):MgP w B zA zT zR zP zF ⟨k,as0,tg0,re0,ap0,fa0⟩:=⟨zA_v,zT_v w B,zR_v w B,zP_v w B,zF_v⟩
def nm (m:Mg):Mg:=if m.k=1 then ⟨1,m.aq,tg0,re0,ap0,fa0⟩ else if m.k=2 then ⟨2,as0,m.tg,re0,ap0,fa0⟩ else if m.k=3 then ⟨3,as0,tg0,m.re,ap0,fa0⟩ else if m.k=4 then ⟨4,as0,tg0,re0,m.ap,fa0⟩ else if m.k=5 then ⟨5,as0,tg0,re0,ap0,m.fa⟩ else ⟨m.k,as0,tg0,re0,ap0,fa0⟩
theorem Xw (k:Int):Tryz.prog.built 92 [(0,.int .i64 k)]=some (mgA k zA zT zR zP zF):=by kernel_rfl
theorem UR (cs:Array Value) (m:Mg) (w:World) (h:MgV w w.heap.size cs m):Calls Tryz.prog 131 #[.agg cs] w fun e w'=>∃ds,e=.returned (.agg ds)/\MgV w' w'.heap.size ds (nm m)/\Below w.heap.size w w':=by
 obtain⟨pa,pt,pr,pp,pf,hc,hp⟩:=h;obtain⟨zz,aw⟩:∃z:Array Value,z=#[.int .i64 0,.string ⟨#[]⟩,.string ⟨#[]⟩,.string ⟨#[]⟩,.string ⟨#[]⟩,.int .i64 0,.int .i64 0,.string ⟨#[]⟩,.string ⟨#[]⟩,.int .i64 0,.slice none 0 0,.slice none 0 0,.string ⟨#[]⟩,.string ⟨#[]⟩,.int .i64 0,.int .i64 0,.string ⟨#[]⟩,.string ⟨#[]⟩,.string ⟨#[]⟩,.string ⟨#[]⟩,.int .i64 0,.slice none 0 0,.slice none 0 0,.string ⟨#[]⟩,.string ⟨#[]⟩,.int .i64 0,.slice none 0 0,.slice none 0 0,.int .i64 0,.int .i64 0]:=⟨_,rfl⟩;have cf:zz=mgA 0 zA zT zR zP zF:=by rw[aw];rfl
 have cd:zz.size=30:=by rw[cf];exact(zM_v w 0 0).size 0
 have bx:=I cd;obtain⟨W,eW⟩:=Ak ((w.alloc (.cells cs 92)).alloc (.cells zz 92));have cg:W.heap.size=w.heap.size+1+1:=by rw[eW];simp
 have HK:=I (show Blk W w.heap.size 92 (mgA m.k pa pt pr pp pf) by rw[eW,<-hc];exact(Blk.new _ _ _).alloc _);have hq:=Blk.new (w.alloc (.cells cs 92)) 92 zz;rw[show(w.alloc (.cells cs 92)).heap.size=w.heap.size+1 by simp,<-eW] at hq;have O:=I hq;clear hq;have F:=I (show Below w.heap.size w W by rw[eW];exact(Ah.alloc Ag _).alloc (by simp) _);have Z:=I (hp.at_ HK.o);have k0:=Z.o.k;have M:=I hp;have bB:=I cg;have ca:=I (Xw m.k);obtain⟨c0,cb⟩:∃c,c=mgA m.k zA zT zR zP zF:=⟨_,rfl⟩;have cc:c0.size=30:=by rw[cb];exact(zM_v w 0 m.k).size m.k
 have HO:=I (show c0.all (·.oneCell')=true by rw[cb];exact(zM_v w 0 m.k).one m.k);have HI:=I (show(Tryz.prog.info? 92).map (·.size)=some c0.size by rw[cc];exact DJ);have bz:=I cc;rw[<-cb] at ca;have EC:=I cb;clear hc hp cg cd cc cb cf
 by_cases m1:m.k=1
 ·have y1:(m.k==1)=true:=by simpa using m1
  have y2:(m.k==2)=false:=by simp;omega
  have y3:(m.k==3)=false:=by simp;omega
  have y4:(m.k==4)=false:=by simp;omega
  have y5:(m.k==5)=false:=by simp;omega
  have EN:=I (show nm m=⟨m.k,m.aq,tg0,re0,ap0,fa0⟩ by rw[nm,if_pos m1,m1]);clear m1;have N:=I (show MgP w w.heap.size pa zT zR zP zF ⟨m.k,m.aq,tg0,re0,ap0,fa0⟩ from⟨M.o.a,zT_v w w.heap.size,zR_v w w.heap.size,zP_v w w.heap.size,zF_v⟩);have E:=I (show(Tryz.prog.info? 92).map (·.size)=some (mgA m.k pa zT zR zP zF).size by rw[N.o.size];exact DJ);go_enter Tryz.func131,Tryz.ntmps131
  go_upto_region 1 with fail
  rw[<-aw,<-eW];clear aw eW
  go_wp2_with (first
   |(refine AN (by rfl) 92 #[(0,.tmp 5)] (by rfl) c0 (by simp only[List.map_toArray,List.map_cons,List.map_nil];exact ca.o) ?_)
   |(refine wpList_store_mid (by rfl) 92 (.tmp 3) (.tmp 6) (by rfl) W.heap.size 0 c0 (by rfl) (by rfl) (Ao (Blk.new W 92 Ax) _ (by have:=bz.o;simp;omega)) HI.o HO.o ?_;have J:=BD W 92 Ax c0 (by have:=bz.o;simp;omega);generalize ((W.alloc (.cells Ax 92)).setCells W.heap.size 0 c0.toList)=V at J⊢;have HX:=I (show Blk V W.heap.size 92 (mgA m.k zA zT zR zP zF) from EC.o▸J.1);replace HK:=I (HK.o.below J.2);replace O:=I (O.o.below J.2);replace F:=I (F.o.trans (J.2.mono F.o.size));clear J Z k0;have Z:=I (M.o.at_ HK.o);have k0:=Z.o.k)
   |(refine Am (by rfl) 86 (.tmp 11) (by rfl) w.heap.size 1 (by rfl) pa _ Z.o.a Tryz.underlying86 (by rfl) (by rw[M.o.a.size];exact Cl) ?_)
   |(refine wpList_store_mid (by rfl) 86 (.tmp 13) (.tmp 12) (by rfl) W.heap.size 1 pa (by rfl) (by rfl) (CV HX.o 1 _ (by rw[(zM_v W 0 m.k).size m.k,M.o.a.size];omega)) (by rw[M.o.a.size];exact Cl) M.o.a.one ?_;have hX:=Kb (ps:=pa) (ds:=mgA m.k pa zT zR zP zF) (pre:=[.int .i64 m.k]) (mid:=zA.toList) (post:=zT.toList++zR.toList++zP.toList++zF.toList) (o:=1) HX.o (by simp [mgA]) (by rfl) (by rw[M.o.a.size];rfl) (by simp [mgA]);have D:=EE V W.heap.size 1 pa.toList;generalize V.setCells W.heap.size 1 pa.toList=V2 at hX D⊢;replace HX:=I hX;replace O:=I (O.o.grown D (by intro e;injection e with e;have:=bB.o;omega));replace F:=I (AJ F.o D F.o.size (by have:=bB.o;omega));clear hX D Z HK k0)
   |(refine Am (by rfl) 92 (.tmp 3) (by rfl) W.heap.size 0 (by rfl) (mgA m.k pa zT zR zP zF) _ (Ae HX.o) Tryz.underlying92 (by rfl) E.o ?_)
   |(refine wpList_store_mid (by rfl) 92 (.tmp 2) (.tmp 34) (by rfl) (w.heap.size+1) 0 (mgA m.k pa zT zR zP zF) (by rfl) (by rfl) (Ao O.o _ (by rw[N.o.size];have:=bx.o;omega)) E.o (N.o.one _) ?_)
   |fail)
  have hE:=AS (ds:=mgA m.k pa zT zR zP zF) O.o (by rw[N.o.size];have:=bx.o;omega);have hp:=Be V2 (w.heap.size+1) (mgA m.k pa zT zR zP zF).toList;have hq:=Al (P:=Tryz.prog) hE Tryz.underlying92 rfl E.o;refine bodyPost_ret (v:=.agg (mgA m.k pa zT zR zP zF)) ?_ ?_ ?_
  ·exact AD 2 92 ⟨w.heap.size+1,0,none⟩ Tryz.results131 rfl hq
  ·rfl
  have hB:=AJ F.o hp F.o.size (by omega);refine⟨_,rfl,?_,hB⟩;rw[EN.o];exact⟨pa,zT,zR,zP,zF,rfl,(N.o.keep hB).more hB.size⟩
 ·have cn:=m1
  by_cases m2:m.k=2
  ·have y1:(m.k==1)=false:=by simp;omega
   have y2:(m.k==2)=true:=by simpa using m2
   have y3:(m.k==3)=false:=by simp;omega
   have y4:(m.k==4)=false:=by simp;omega
   have y5:(m.k==5)=false:=by simp;omega
   have EN:=I (show nm m=⟨m.k,as0,m.tg,re0,ap0,fa0⟩ by rw[nm,if_neg m1,if_pos m2,m2]);clear m1 m2;have N:=I (show MgP w w.heap.size zA pt zR zP zF ⟨m.k,as0,m.tg,re0,ap0,fa0⟩ from⟨zA_v,M.o.t,zR_v w w.heap.size,zP_v w w.heap.size,zF_v⟩);have E:=I (show(Tryz.prog.info? 92).map (·.size)=some (mgA m.k zA pt zR zP zF).size by rw[N.o.size];exact DJ);go_enter Tryz.func131,Tryz.ntmps131
   go_upto_region 1 with fail
   rw[<-aw,<-eW];clear aw eW
   go_wp2_with (first
    |(refine AN (by rfl) 92 #[(0,.tmp 5)] (by rfl) c0 (by simp only[List.map_toArray,List.map_cons,List.map_nil];exact ca.o) ?_)
    |(refine wpList_store_mid (by rfl) 92 (.tmp 3) (.tmp 6) (by rfl) W.heap.size 0 c0 (by rfl) (by rfl) (Ao (Blk.new W 92 Ax) _ (by have:=bz.o;simp;omega)) HI.o HO.o ?_;have J:=BD W 92 Ax c0 (by have:=bz.o;simp;omega);generalize ((W.alloc (.cells Ax 92)).setCells W.heap.size 0 c0.toList)=V at J⊢;have HX:=I (show Blk V W.heap.size 92 (mgA m.k zA zT zR zP zF) from EC.o▸J.1);replace HK:=I (HK.o.below J.2);replace O:=I (O.o.below J.2);replace F:=I (F.o.trans (J.2.mono F.o.size));clear J Z k0;have Z:=I (M.o.at_ HK.o);have k0:=Z.o.k)
    |(refine Am (by rfl) 31 (.tmp 16) (by rfl) w.heap.size 7 (by rfl) pt _ Z.o.t Tryz.underlying31 (by rfl) (by rw[M.o.t.size];exact Bh) ?_)
    |(refine wpList_store_mid (by rfl) 31 (.tmp 18) (.tmp 17) (by rfl) W.heap.size 7 pt (by rfl) (by rfl) (CV HX.o 7 _ (by rw[(zM_v W 0 m.k).size m.k,M.o.t.size];omega)) (by rw[M.o.t.size];exact Bh) M.o.t.one ?_;have hX:=Kb (ps:=pt) (ds:=mgA m.k zA pt zR zP zF) (pre:=[.int .i64 m.k]++zA.toList) (mid:=zT.toList) (post:=zR.toList++zP.toList++zF.toList) (o:=7) HX.o (by simp [mgA]) (by rfl) (by rw[M.o.t.size];rfl) (by simp [mgA]);have D:=EE V W.heap.size 7 pt.toList;generalize V.setCells W.heap.size 7 pt.toList=V2 at hX D⊢;replace HX:=I hX;replace O:=I (O.o.grown D (by intro e;injection e with e;have:=bB.o;omega));replace F:=I (AJ F.o D F.o.size (by have:=bB.o;omega));clear hX D Z HK k0)
    |(refine Am (by rfl) 92 (.tmp 3) (by rfl) W.heap.size 0 (by rfl) (mgA m.k zA pt zR zP zF) _ (Ae HX.o) Tryz.underlying92 (by rfl) E.o ?_)
    |(refine wpList_store_mid (by rfl) 92 (.tmp 2) (.tmp 34) (by rfl) (w.heap.size+1) 0 (mgA m.k zA pt zR zP zF) (by rfl) (by rfl) (Ao O.o _ (by rw[N.o.size];have:=bx.o;omega)) E.o (N.o.one _) ?_)
    |fail)
   have hE:=AS (ds:=mgA m.k zA pt zR zP zF) O.o (by rw[N.o.size];have:=bx.o;omega);have hp:=Be V2 (w.heap.size+1) (mgA m.k zA pt zR zP zF).toList;have hq:=Al (P:=Tryz.prog) hE Tryz.underlying92 rfl E.o;refine bodyPost_ret (v:=.agg (mgA m.k zA pt zR zP zF)) ?_ ?_ ?_
   ·exact AD 2 92 ⟨w.heap.size+1,0,none⟩ Tryz.results131 rfl hq
   ·rfl
   have hB:=AJ F.o hp F.o.size (by omega);refine⟨_,rfl,?_,hB⟩;rw[EN.o];exact⟨zA,pt,zR,zP,zF,rfl,(N.o.keep hB).more hB.size⟩
  ·have cm:=m2
   by_cases m3:m.k=3
   ·have y1:(m.k==1)=false:=by simp;omega
    have y2:(m.k==2)=false:=by simp;omega
    have y3:(m.k==3)=true:=by simpa using m3
    have y4:(m.k==4)=false:=by simp;omega
    have y5:(m.k==5)=false:=by simp;omega
    have EN:=I (show nm m=⟨m.k,as0,tg0,m.re,ap0,fa0⟩ by rw[nm,if_neg m1,if_neg m2,if_pos m3,m3]);clear m1 m2 m3;have N:=I (show MgP w w.heap.size zA zT pr zP zF ⟨m.k,as0,tg0,m.re,ap0,fa0⟩ from⟨zA_v,zT_v w w.heap.size,M.o.r,zP_v w w.heap.size,zF_v⟩);have E:=I (show(Tryz.prog.info? 92).map (·.size)=some (mgA m.k zA zT pr zP zF).size by rw[N.o.size];exact DJ);go_enter Tryz.func131,Tryz.ntmps131
    go_upto_region 1 with fail
    rw[<-aw,<-eW];clear aw eW
    go_wp2_with (first
     |(refine AN (by rfl) 92 #[(0,.tmp 5)] (by rfl) c0 (by simp only[List.map_toArray,List.map_cons,List.map_nil];exact ca.o) ?_)
     |(refine wpList_store_mid (by rfl) 92 (.tmp 3) (.tmp 6) (by rfl) W.heap.size 0 c0 (by rfl) (by rfl) (Ao (Blk.new W 92 Ax) _ (by have:=bz.o;simp;omega)) HI.o HO.o ?_;have J:=BD W 92 Ax c0 (by have:=bz.o;simp;omega);generalize ((W.alloc (.cells Ax 92)).setCells W.heap.size 0 c0.toList)=V at J⊢;have HX:=I (show Blk V W.heap.size 92 (mgA m.k zA zT zR zP zF) from EC.o▸J.1);replace HK:=I (HK.o.below J.2);replace O:=I (O.o.below J.2);replace F:=I (F.o.trans (J.2.mono F.o.size));clear J Z k0;have Z:=I (M.o.at_ HK.o);have k0:=Z.o.k)
     |(refine Am (by rfl) 44 (.tmp 21) (by rfl) w.heap.size 16 (by rfl) pr _ Z.o.r Tryz.underlying44 (by rfl) (by rw[M.o.r.size];exact AM) ?_)
     |(refine wpList_store_mid (by rfl) 44 (.tmp 23) (.tmp 22) (by rfl) W.heap.size 16 pr (by rfl) (by rfl) (CV HX.o 16 _ (by rw[(zM_v W 0 m.k).size m.k,M.o.r.size];omega)) (by rw[M.o.r.size];exact AM) M.o.r.one ?_;have hX:=Kb (ps:=pr) (ds:=mgA m.k zA zT pr zP zF) (pre:=[.int .i64 m.k]++zA.toList++zT.toList) (mid:=zR.toList) (post:=zP.toList++zF.toList) (o:=16) HX.o (by simp [mgA]) (by rfl) (by rw[M.o.r.size];rfl) (by simp [mgA]);have D:=EE V W.heap.size 16 pr.toList;generalize V.setCells W.heap.size 16 pr.toList=V2 at hX D⊢;replace HX:=I hX;replace O:=I (O.o.grown D (by intro e;injection e with e;have:=bB.o;omega));replace F:=I (AJ F.o D F.o.size (by have:=bB.o;omega));clear hX D Z HK k0)
     |(refine Am (by rfl) 92 (.tmp 3) (by rfl) W.heap.size 0 (by rfl) (mgA m.k zA zT pr zP zF) _ (Ae HX.o) Tryz.underlying92 (by rfl) E.o ?_)
     |(refine wpList_store_mid (by rfl) 92 (.tmp 2) (.tmp 34) (by rfl) (w.heap.size+1) 0 (mgA m.k zA zT pr zP zF) (by rfl) (by rfl) (Ao O.o _ (by rw[N.o.size];have:=bx.o;omega)) E.o (N.o.one _) ?_)
     |fail)
    have hE:=AS (ds:=mgA m.k zA zT pr zP zF) O.o (by rw[N.o.size];have:=bx.o;omega);have hp:=Be V2 (w.heap.size+1) (mgA m.k zA zT pr zP zF).toList;have hq:=Al (P:=Tryz.prog) hE Tryz.underlying92 rfl E.o;refine bodyPost_ret (v:=.agg (mgA m.k zA zT pr zP zF)) ?_ ?_ ?_
    ·exact AD 2 92 ⟨w.heap.size+1,0,none⟩ Tryz.results131 rfl hq
    ·rfl
    have hB:=AJ F.o hp F.o.size (by omega);refine⟨_,rfl,?_,hB⟩;rw[EN.o];exact⟨zA,zT,pr,zP,zF,rfl,(N.o.keep hB).more hB.size⟩
   ·have ck:=m3
    by_cases m4:m.k=4
    ·have y1:(m.k==1)=false:=by simp;omega
     have y2:(m.k==2)=false:=by simp;omega
     have y3:(m.k==3)=false:=by simp;omega
     have y4:(m.k==4)=true:=by simpa using m4
     have y5:(m.k==5)=false:=by simp;omega
     have EN:=I (show nm m=⟨m.k,as0,tg0,re0,m.ap,fa0⟩ by rw[nm,if_neg m1,if_neg m2,if_neg m3,if_pos m4,m4]);clear m1 m2 m3 m4;have N:=I (show MgP w w.heap.size zA zT zR pp zF ⟨m.k,as0,tg0,re0,m.ap,fa0⟩ from⟨zA_v,zT_v w w.heap.size,zR_v w w.heap.size,M.o.p,zF_v⟩);have E:=I (show(Tryz.prog.info? 92).map (·.size)=some (mgA m.k zA zT zR pp zF).size by rw[N.o.size];exact DJ);go_enter Tryz.func131,Tryz.ntmps131
     go_upto_region 1 with fail
     rw[<-aw,<-eW];clear aw eW
     go_wp2_with (first
      |(refine AN (by rfl) 92 #[(0,.tmp 5)] (by rfl) c0 (by simp only[List.map_toArray,List.map_cons,List.map_nil];exact ca.o) ?_)
      |(refine wpList_store_mid (by rfl) 92 (.tmp 3) (.tmp 6) (by rfl) W.heap.size 0 c0 (by rfl) (by rfl) (Ao (Blk.new W 92 Ax) _ (by have:=bz.o;simp;omega)) HI.o HO.o ?_;have J:=BD W 92 Ax c0 (by have:=bz.o;simp;omega);generalize ((W.alloc (.cells Ax 92)).setCells W.heap.size 0 c0.toList)=V at J⊢;have HX:=I (show Blk V W.heap.size 92 (mgA m.k zA zT zR zP zF) from EC.o▸J.1);replace HK:=I (HK.o.below J.2);replace O:=I (O.o.below J.2);replace F:=I (F.o.trans (J.2.mono F.o.size));clear J Z k0;have Z:=I (M.o.at_ HK.o);have k0:=Z.o.k)
      |(refine Am (by rfl) 88 (.tmp 26) (by rfl) w.heap.size 23 (by rfl) pp _ Z.o.p Tryz.underlying88 (by rfl) (by rw[M.o.p.size];exact DZ) ?_)
      |(refine wpList_store_mid (by rfl) 88 (.tmp 28) (.tmp 27) (by rfl) W.heap.size 23 pp (by rfl) (by rfl) (CV HX.o 23 _ (by rw[(zM_v W 0 m.k).size m.k,M.o.p.size];omega)) (by rw[M.o.p.size];exact DZ) M.o.p.one ?_;have hX:=Kb (ps:=pp) (ds:=mgA m.k zA zT zR pp zF) (pre:=[.int .i64 m.k]++zA.toList++zT.toList++zR.toList) (mid:=zP.toList) (post:=zF.toList) (o:=23) HX.o (by simp [mgA]) (by rfl) (by rw[M.o.p.size];rfl) (by simp [mgA]);have D:=EE V W.heap.size 23 pp.toList;generalize V.setCells W.heap.size 23 pp.toList=V2 at hX D⊢;replace HX:=I hX;replace O:=I (O.o.grown D (by intro e;injection e with e;have:=bB.o;omega));replace F:=I (AJ F.o D F.o.size (by have:=bB.o;omega));clear hX D Z HK k0)
      |(refine Am (by rfl) 92 (.tmp 3) (by rfl) W.heap.size 0 (by rfl) (mgA m.k zA zT zR pp zF) _ (Ae HX.o) Tryz.underlying92 (by rfl) E.o ?_)
      |(refine wpList_store_mid (by rfl) 92 (.tmp 2) (.tmp 34) (by rfl) (w.heap.size+1) 0 (mgA m.k zA zT zR pp zF) (by rfl) (by rfl) (Ao O.o _ (by rw[N.o.size];have:=bx.o;omega)) E.o (N.o.one _) ?_)
      |fail)
     have hE:=AS (ds:=mgA m.k zA zT zR pp zF) O.o (by rw[N.o.size];have:=bx.o;omega);have hp:=Be V2 (w.heap.size+1) (mgA m.k zA zT zR pp zF).toList;have hq:=Al (P:=Tryz.prog) hE Tryz.underlying92 rfl E.o;refine bodyPost_ret (v:=.agg (mgA m.k zA zT zR pp zF)) ?_ ?_ ?_
     ·exact AD 2 92 ⟨w.heap.size+1,0,none⟩ Tryz.results131 rfl hq
     ·rfl
     have hB:=AJ F.o hp F.o.size (by omega);refine⟨_,rfl,?_,hB⟩;rw[EN.o];exact⟨zA,zT,zR,pp,zF,rfl,(N.o.keep hB).more hB.size⟩
    ·have cp:=m4
     by_cases m5:m.k=5
     ·have y1:(m.k==1)=false:=by simp;omega
      have y2:(m.k==2)=false:=by simp;omega
      have y3:(m.k==3)=false:=by simp;omega
      have y4:(m.k==4)=false:=by simp;omega
      have y5:(m.k==5)=true:=by simpa using m5
      have EN:=I (show nm m=⟨m.k,as0,tg0,re0,ap0,m.fa⟩ by rw[nm,if_neg m1,if_neg m2,if_neg m3,if_neg m4,if_pos m5,m5]);clear m1 m2 m3 m4 m5;have N:=I (show MgP w w.heap.size zA zT zR zP pf ⟨m.k,as0,tg0,re0,ap0,m.fa⟩ from⟨zA_v,zT_v w w.heap.size,zR_v w w.heap.size,zP_v w w.heap.size,M.o.f⟩);have E:=I (show(Tryz.prog.info? 92).map (·.size)=some (mgA m.k zA zT zR zP pf).size by rw[N.o.size];exact DJ);go_enter Tryz.func131,Tryz.ntmps131
      go_upto_region 1 with fail
      rw[<-aw,<-eW];clear aw eW
      go_wp2_with (first
       |(refine AN (by rfl) 92 #[(0,.tmp 5)] (by rfl) c0 (by simp only[List.map_toArray,List.map_cons,List.map_nil];exact ca.o) ?_)
       |(refine wpList_store_mid (by rfl) 92 (.tmp 3) (.tmp 6) (by rfl) W.heap.size 0 c0 (by rfl) (by rfl) (Ao (Blk.new W 92 Ax) _ (by have:=bz.o;simp;omega)) HI.o HO.o ?_;have J:=BD W 92 Ax c0 (by have:=bz.o;simp;omega);generalize ((W.alloc (.cells Ax 92)).setCells W.heap.size 0 c0.toList)=V at J⊢;have HX:=I (show Blk V W.heap.size 92 (mgA m.k zA zT zR zP zF) from EC.o▸J.1);replace HK:=I (HK.o.below J.2);replace O:=I (O.o.below J.2);replace F:=I (F.o.trans (J.2.mono F.o.size));clear J Z k0;have Z:=I (M.o.at_ HK.o);have k0:=Z.o.k)
       |(refine Am (by rfl) 90 (.tmp 31) (by rfl) w.heap.size 28 (by rfl) pf _ Z.o.f Tryz.underlying90 (by rfl) (by rw[M.o.f.size];exact FH) ?_)
       |(refine wpList_store_mid (by rfl) 90 (.tmp 33) (.tmp 32) (by rfl) W.heap.size 28 pf (by rfl) (by rfl) (CV HX.o 28 _ (by rw[(zM_v W 0 m.k).size m.k,M.o.f.size];omega)) (by rw[M.o.f.size];exact FH) M.o.f.one ?_;have hX:=Kb (ps:=pf) (ds:=mgA m.k zA zT zR zP pf) (pre:=[.int .i64 m.k]++zA.toList++zT.toList++zR.toList++zP.toList) (mid:=zF.toList) (post:=[]) (o:=28) HX.o (by simp [mgA]) (by rfl) (by rw[M.o.f.size];rfl) (by simp [mgA]);have D:=EE V W.heap.size 28 pf.toList;generalize V.setCells W.heap.size 28 pf.toList=V2 at hX D⊢;replace HX:=I hX;replace O:=I (O.o.grown D (by intro e;injection e with e;have:=bB.o;omega));replace F:=I (AJ F.o D F.o.size (by have:=bB.o;omega));clear hX D Z HK k0)
       |(refine Am (by rfl) 92 (.tmp 3) (by rfl) W.heap.size 0 (by rfl) (mgA m.k zA zT zR zP pf) _ (Ae HX.o) Tryz.underlying92 (by rfl) E.o ?_)
       |(refine wpList_store_mid (by rfl) 92 (.tmp 2) (.tmp 34) (by rfl) (w.heap.size+1) 0 (mgA m.k zA zT zR zP pf) (by rfl) (by rfl) (Ao O.o _ (by rw[N.o.size];have:=bx.o;omega)) E.o (N.o.one _) ?_)
       |fail)
      have hE:=AS (ds:=mgA m.k zA zT zR zP pf) O.o (by rw[N.o.size];have:=bx.o;omega);have hp:=Be V2 (w.heap.size+1) (mgA m.k zA zT zR zP pf).toList;have hq:=Al (P:=Tryz.prog) hE Tryz.underlying92 rfl E.o;refine bodyPost_ret (v:=.agg (mgA m.k zA zT zR zP pf)) ?_ ?_ ?_
      ·exact AD 2 92 ⟨w.heap.size+1,0,none⟩ Tryz.results131 rfl hq
      ·rfl
      have hB:=AJ F.o hp F.o.size (by omega);refine⟨_,rfl,?_,hB⟩;rw[EN.o];exact⟨zA,zT,zR,zP,pf,rfl,(N.o.keep hB).more hB.size⟩
     ·have cj:=m5
      have y1:(m.k==1)=false:=by simp;omega
      have y2:(m.k==2)=false:=by simp;omega
      have y3:(m.k==3)=false:=by simp;omega
      have y4:(m.k==4)=false:=by simp;omega
      have y5:(m.k==5)=false:=by simp;omega
      have EN:=I (show nm m=⟨m.k,as0,tg0,re0,ap0,fa0⟩ by rw[nm,if_neg m1,if_neg m2,if_neg m3,if_neg m4,if_neg m5]);clear m1 m2 m3 m4 m5;have N:=I (show MgP w w.heap.size zA zT zR zP zF ⟨m.k,as0,tg0,re0,ap0,fa0⟩ from⟨zA_v,zT_v w w.heap.size,zR_v w w.heap.size,zP_v w w.heap.size,zF_v⟩);have E:=I (show(Tryz.prog.info? 92).map (·.size)=some (mgA m.k zA zT zR zP zF).size by rw[N.o.size];exact DJ);go_enter Tryz.func131,Tryz.ntmps131
      go_upto_region 1 with fail
      rw[<-aw,<-eW];clear aw eW
      go_wp2_with (first
       |(refine AN (by rfl) 92 #[(0,.tmp 5)] (by rfl) c0 (by simp only[List.map_toArray,List.map_cons,List.map_nil];exact ca.o) ?_)
       |(refine wpList_store_mid (by rfl) 92 (.tmp 3) (.tmp 6) (by rfl) W.heap.size 0 c0 (by rfl) (by rfl) (Ao (Blk.new W 92 Ax) _ (by have:=bz.o;simp;omega)) HI.o HO.o ?_;have J:=BD W 92 Ax c0 (by have:=bz.o;simp;omega);generalize ((W.alloc (.cells Ax 92)).setCells W.heap.size 0 c0.toList)=V at J⊢;have HX:=I (show Blk V W.heap.size 92 (mgA m.k zA zT zR zP zF) from EC.o▸J.1);replace HK:=I (HK.o.below J.2);replace O:=I (O.o.below J.2);replace F:=I (F.o.trans (J.2.mono F.o.size));clear J Z k0;have Z:=I (M.o.at_ HK.o);have k0:=Z.o.k)
       |(refine Am (by rfl) 92 (.tmp 3) (by rfl) W.heap.size 0 (by rfl) (mgA m.k zA zT zR zP zF) _ (Ae HX.o) Tryz.underlying92 (by rfl) E.o ?_)
       |(refine wpList_store_mid (by rfl) 92 (.tmp 2) (.tmp 34) (by rfl) (w.heap.size+1) 0 (mgA m.k zA zT zR zP zF) (by rfl) (by rfl) (Ao O.o _ (by rw[N.o.size];have:=bx.o;omega)) E.o (N.o.one _) ?_)
       |fail)
      have hE:=AS (ds:=mgA m.k zA zT zR zP zF) O.o (by rw[N.o.size];have:=bx.o;omega);have hp:=Be V (w.heap.size+1) (mgA m.k zA zT zR zP zF).toList;have hq:=Al (P:=Tryz.prog) hE Tryz.underlying92 rfl E.o;refine bodyPost_ret (v:=.agg (mgA m.k zA zT zR zP zF)) ?_ ?_ ?_
      ·exact AD 2 92 ⟨w.heap.size+1,0,none⟩ Tryz.results131 rfl hq
      ·rfl
      have hB:=AJ F.o hp F.o.size (by omega);refine⟨_,rfl,?_,hB⟩;rw[EN.o];exact⟨zA,zT,zR,zP,zF,rfl,(N.o.keep hB).more hB.size⟩
def OwnN (w:World) (base:Nat) (v:Value) (l:L):Prop:=(v=.slice none 0 0/\l = [])\/OwnB w base v l
section
variable {w w':World} {base base' g:Nat} {v:Value} {l:L} {cs:Array Value}
theorem OwnN.keep (h:OwnN w base v l) (E:w.grownBy w' (some g)) (D:g<base):OwnN w' base v l:=h.imp id fun h=>h.keep E D
theorem OwnN.slb (h:OwnN w base v l):SlB w w.heap.size v l:=by
 rcases h with⟨rfl,rfl⟩ | h
 ·exact SlB.nil _ _
 ·exact h.slb
def TgO (w:World) (B:Nat) (cs:Array Value) (q:Tg):Prop:=∃b a,cs=(tgC q b a).toArray/\OwnN w B b q.t.b/\OwnN w B a q.a
def ReO (w:World) (B:Nat) (cs:Array Value) (q:Re):Prop:=∃b a,cs=(reC q b a).toArray/\OwnN w B b q.t.b/\OwnN w B a q.b
def ApO (w:World) (B:Nat) (cs:Array Value) (q:Ap):Prop:=∃b a,cs=(apC q b a).toArray/\OwnN w B b q.t.b/\OwnN w B a q.a
theorem TgO.keep {q:Tg} (h:TgO w base cs q) (E:w.grownBy w' (some g)) (D:g<base):TgO w' base cs q:=by obtain⟨b,a,F,J,M⟩:=h;exact⟨b,a,F,J.keep E D,M.keep E D⟩
theorem TgO.toV {q:Tg} (h:TgO w base cs q):TgV w w.heap.size cs q:=by obtain⟨b,a,D,E,F⟩:=h;exact⟨b,a,D,E.slb,F.slb⟩
theorem ReO.keep {q:Re} (h:ReO w base cs q) (E:w.grownBy w' (some g)) (D:g<base):ReO w' base cs q:=by obtain⟨b,a,F,J,M⟩:=h;exact⟨b,a,F,J.keep E D,M.keep E D⟩
theorem ReO.toV {q:Re} (h:ReO w base cs q):ReV w w.heap.size cs q:=by obtain⟨b,a,D,E,F⟩:=h;exact⟨b,a,D,E.slb,F.slb⟩
theorem ApO.keep {q:Ap} (h:ApO w base cs q) (E:w.grownBy w' (some g)) (D:g<base):ApO w' base cs q:=by obtain⟨b,a,F,J,M⟩:=h;exact⟨b,a,F,J.keep E D,M.keep E D⟩
theorem ApO.toV {q:Ap} (h:ApO w base cs q):ApV w w.heap.size cs q:=by obtain⟨b,a,D,E,F⟩:=h;exact⟨b,a,D,E.slb,F.slb⟩
structure MpO (w:World) (B:Nat) (pa pt pr pp pf:Array Value) (m:Mg):Prop where
 a:AsV pa m.aq
 t:TgO w B pt m.tg
 r:ReO w B pr m.re
 p:ApO w B pp m.ap
 f:FaV pf m.fa
def MgO (w:World) (B:Nat) (cs:Array Value) (m:Mg):Prop:=∃pa pt pr pp pf,cs=mgA m.k pa pt pr pp pf/\MpO w B pa pt pr pp pf m
variable {pa pt pr pp pf:Array Value} {m:Mg}
theorem MpO.toV (h:MpO w base pa pt pr pp pf m):MgP w w.heap.size pa pt pr pp pf m:=⟨h.a,h.t.toV,h.r.toV,h.p.toV,h.f⟩
theorem MpO.keep (h:MpO w base pa pt pr pp pf m) (E:w.grownBy w' (some g)) (D:g<base):MpO w' base pa pt pr pp pf m:=⟨h.a,h.t.keep E D,h.r.keep E D,h.p.keep E D,h.f⟩
theorem MgO.toV (h:MgO w base cs m):MgV w w.heap.size cs m:=by obtain⟨pa,pt,pr,pp,pf,D,E⟩:=h;exact⟨pa,pt,pr,pp,pf,D,E.toV⟩
theorem MgO.keep (h:MgO w base cs m) (J:w.grownBy w' (some g)) (D:g<base):MgO w' base cs m:=by obtain⟨pa,pt,pr,pp,pf,E,F⟩:=h;exact⟨pa,pt,pr,pp,pf,E,F.keep J D⟩
theorem MgO.size (h:MgO w base cs m):cs.size=30:=by obtain⟨pa,pt,pr,pp,pf,D,E⟩:=h;rw[D];exact E.toV.size m.k
theorem MgO.one (h:MgO w base cs m):One cs:=by obtain⟨pa,pt,pr,pp,pf,D,E⟩:=h;rw[D];exact E.toV.one m.k
end
section
variable (g:Nat) (c:Option L) (w:World) (h:Cur w g c) (hs:(c.getD []).length<=100000)
include h hs
end
theorem LR {ps:Array Value} {q:As} (h:AsV ps q):Tryz.prog.built 92 [(0,.int .i64 1),(1,.agg ps)]=some (mgA 1 ps zT zR zP zF):=by rw[h];kernel_rfl
theorem aQ {pa D:Array Value} {x y:As} (h:AsV pa x) (g:AsV D y) (w:World):(Op.equalIn 10000 86 (.agg pa) (.agg D)).run Tryz.prog w=.ok (decide (x=y)) w:=by rw[h,g];exact dE x y w
theorem aR {pa D:Array Value} {x y:Fa} (h:FaV pa x) (g:FaV D y) (w:World):(Op.equalIn 10000 90 (.agg pa) (.agg D)).run Tryz.prog w=.ok (decide (x=y)) w:=by rw[h,g];exact dD x y w
theorem US {pa D:Array Value} {x y:Tg} (w:World) (h:TgV w w.heap.size pa x) (g:TgV w w.heap.size D y):Calls Tryz.prog 176 #[.agg pa,.agg D] w fun e w'=>e=.returned (.bool (decide (x=y)))/\Below w.heap.size w w':=by
 obtain⟨b,a,rfl,⟨A1,c1,rfl,_,N⟩,⟨A2,c2,rfl,_,Z⟩⟩:=h;obtain⟨b2,a2,rfl,⟨M,J,rfl,_,E⟩,⟨F,d2,rfl,_,O⟩⟩:=g;exact OP x y A1 A2 M F c1 c2 J d2 w N E Z O
theorem UT {pa D:Array Value} {x y:Re} (w:World) (h:ReV w w.heap.size pa x) (g:ReV w w.heap.size D y):Calls Tryz.prog 177 #[.agg pa,.agg D] w fun e w'=>e=.returned (.bool (decide (x=y)))/\Below w.heap.size w w':=by
 obtain⟨b,a,rfl,⟨A1,c1,rfl,_,N⟩,⟨A2,c2,rfl,_,Z⟩⟩:=h;obtain⟨b2,a2,rfl,⟨M,J,rfl,_,E⟩,⟨F,d2,rfl,_,O⟩⟩:=g;exact OQ x y A1 A2 M F c1 c2 J d2 w N E Z O
theorem UU {pa D:Array Value} {x y:Ap} (w:World) (h:ApV w w.heap.size pa x) (g:ApV w w.heap.size D y):Calls Tryz.prog 178 #[.agg pa,.agg D] w fun e w'=>e=.returned (.bool (decide (x=y)))/\Below w.heap.size w w':=by
 obtain⟨b,a,rfl,⟨A1,c1,rfl,_,N⟩,⟨A2,c2,rfl,_,Z⟩⟩:=h;obtain⟨b2,a2,rfl,⟨M,J,rfl,_,E⟩,⟨F,d2,rfl,_,O⟩⟩:=g;exact OR x y A1 A2 M F c1 c2 J d2 w N E Z O
theorem mg_eq (m o:Mg):decide (m=o)=(decide (m.k=o.k)&&(decide (m.aq=o.aq)&&(decide (m.tg=o.tg)&&(decide (m.re=o.re)&&(decide (m.ap=o.ap)&&decide (m.fa=o.fa)))))):=by
 obtain⟨k,a,t,r,p,f⟩:=m;obtain⟨k2,M,F,D,J,E⟩:=o;simp [Bool.decide_and]
theorem UW (cs ds:Array Value) (m o:Mg) (w:World) (h:MgV w w.heap.size cs m) (g:MgV w w.heap.size ds o):Calls Tryz.prog 130 #[.agg cs,.agg ds] w fun e w'=>e=.returned (.bool (decide (m=o)))/\Below w.heap.size w w':=by
 obtain⟨pa,pt,pr,pp,pf,hc,hp⟩:=h;obtain⟨qa,qt,qr,qp,qf,hd,hq⟩:=g;obtain⟨W,eW⟩:=Ak ((w.alloc (.cells cs 92)).alloc (.cells ds 92));have O:=I (show Blk W w.heap.size 92 (mgA m.k pa pt pr pp pf) by rw[eW,<-hc];exact(Blk.new _ _ _).alloc _);have aw:=Blk.new (w.alloc (.cells cs 92)) 92 ds;rw[show(w.alloc (.cells cs 92)).heap.size=w.heap.size+1 by simp,<-eW,hd] at aw;have N:=I aw;clear aw;have M:=I (show Below w.heap.size w W by rw[eW];exact(Ah.alloc Ag _).alloc (by simp) _);have Z:=I hp;have HQ:=I hq;have F:=I (hp.at_ O.o);have J:=I (hq.at_ N.o);have k0:=F.o.k;have k1:=J.o.k;have Tt:=I (fun w1 (h:Below w.heap.size w w1)=>US w1 ((hp.t.keep h).more h.size) ((hq.t.keep h).more h.size));have Tr:=I (fun w1 (h:Below w.heap.size w w1)=>UT w1 ((hp.r.keep h).more h.size) ((hq.r.keep h).more h.size));have Tp:=I (fun w1 (h:Below w.heap.size w w1)=>UU w1 ((hp.p.keep h).more h.size) ((hq.p.keep h).more h.size));have EA:=I (fun w1=>aQ hp.a hq.a w1);have EF:=I (fun w1=>aR hp.f hq.f w1);have ME:=I (mg_eq m o);clear hc hd hp hq;cases ek:decide (m.k=o.k) with
 |false=>
  have tk:(m.k==o.k)=false:=by simpa using ek
  have E:=I (show decide (m=o)=false by rw[ME.o,ek];rfl);clear ek;go_enter Tryz.func130,Tryz.ntmps130
  go_upto_region 1 with fail
  rw[<-eW];clear eW
  go_wp2
  go_ret;exact⟨by rw[E.o];rfl,M.o⟩
 |true=>
  have tk:(m.k==o.k)=true:=by simpa using ek
  cases ea:decide (m.aq=o.aq) with
  |false=>
   rw[ea] at EA;have fa:=EA.o;have E:=I (show decide (m=o)=false by rw[ME.o,ek,ea];rfl);clear ek ea;go_enter Tryz.func130,Tryz.ntmps130
   go_upto_region 1 with fail
   rw[<-eW];clear eW
   go_wp2_with (first
    |(refine Au (by rfl) 86 (.tmp 11) (by rfl) w.heap.size 1 (by rfl) pa _ F.o.a Tryz.underlying86 (by rfl) (by rw[Z.o.a.size];exact Cl) ?_)
    |(refine Au (by rfl) 86 (.tmp 13) (by rfl) (w.heap.size+1) 1 (by rfl) qa _ J.o.a Tryz.underlying86 (by rfl) (by rw[HQ.o.a.size];exact Cl) ?_)
    |fail)
   go_ret;exact⟨by rw[E.o];rfl,M.o⟩
  |true=>
   rw[ea] at EA;have fa:=EA.o;cases et:decide (m.tg=o.tg) with
   |false=>
    rw[et] at Tt;have E:=I (show decide (m=o)=false by rw[ME.o,ek,ea,et];rfl);clear ek ea et;go_enter Tryz.func130,Tryz.ntmps130
    go_upto_region 1 with fail
    rw[<-eW];clear eW
    go_wp2_with (first
     |(refine Au (by rfl) 86 (.tmp 11) (by rfl) w.heap.size 1 (by rfl) pa _ F.o.a Tryz.underlying86 (by rfl) (by rw[Z.o.a.size];exact Cl) ?_)
     |(refine Au (by rfl) 86 (.tmp 13) (by rfl) (w.heap.size+1) 1 (by rfl) qa _ J.o.a Tryz.underlying86 (by rfl) (by rw[HQ.o.a.size];exact Cl) ?_)
     |(refine Au (by rfl) 31 (.tmp 18) (by rfl) w.heap.size 7 (by rfl) pt _ F.o.t Tryz.underlying31 (by rfl) (by rw[Z.o.t.size];exact Bh) ?_)
     |(refine Au (by rfl) 31 (.tmp 20) (by rfl) (w.heap.size+1) 7 (by rfl) qt _ J.o.t Tryz.underlying31 (by rfl) (by rw[HQ.o.t.size];exact Bh) ?_)
     |(go_at_call 176;refine Aj (Tt.o _ M.o) ?_;rintro wt D;clear F J;replace O:=I (O.o.below D);replace N:=I (N.o.below D);replace M:=M.t D;clear D Tt;have F:=I (Z.o.at_ O.o);have J:=I (HQ.o.at_ N.o))
     |fail)
    go_ret;exact⟨by rw[E.o];rfl,M.o⟩
   |true=>
    rw[et] at Tt;cases er:decide (m.re=o.re) with
    |false=>
     rw[er] at Tr;have E:=I (show decide (m=o)=false by rw[ME.o,ek,ea,et,er];rfl);clear ek ea et er;go_enter Tryz.func130,Tryz.ntmps130
     go_upto_region 1 with fail
     rw[<-eW];clear eW
     go_wp2_with (first
      |(refine Au (by rfl) 86 (.tmp 11) (by rfl) w.heap.size 1 (by rfl) pa _ F.o.a Tryz.underlying86 (by rfl) (by rw[Z.o.a.size];exact Cl) ?_)
      |(refine Au (by rfl) 86 (.tmp 13) (by rfl) (w.heap.size+1) 1 (by rfl) qa _ J.o.a Tryz.underlying86 (by rfl) (by rw[HQ.o.a.size];exact Cl) ?_)
      |(refine Au (by rfl) 31 (.tmp 18) (by rfl) w.heap.size 7 (by rfl) pt _ F.o.t Tryz.underlying31 (by rfl) (by rw[Z.o.t.size];exact Bh) ?_)
      |(refine Au (by rfl) 31 (.tmp 20) (by rfl) (w.heap.size+1) 7 (by rfl) qt _ J.o.t Tryz.underlying31 (by rfl) (by rw[HQ.o.t.size];exact Bh) ?_)
      |(go_at_call 176;refine Aj (Tt.o _ M.o) ?_;rintro wt D;clear F J;replace O:=I (O.o.below D);replace N:=I (N.o.below D);replace M:=M.t D;clear D Tt;have F:=I (Z.o.at_ O.o);have J:=I (HQ.o.at_ N.o))
      |(refine Au (by rfl) 44 (.tmp 25) (by rfl) w.heap.size 16 (by rfl) pr _ F.o.r Tryz.underlying44 (by rfl) (by rw[Z.o.r.size];exact AM) ?_)
      |(refine Au (by rfl) 44 (.tmp 27) (by rfl) (w.heap.size+1) 16 (by rfl) qr _ J.o.r Tryz.underlying44 (by rfl) (by rw[HQ.o.r.size];exact AM) ?_)
      |(go_at_call 177;refine Aj (Tr.o _ M.o) ?_;rintro wr D;clear F J;replace O:=I (O.o.below D);replace N:=I (N.o.below D);replace M:=M.t D;clear D Tr;have F:=I (Z.o.at_ O.o);have J:=I (HQ.o.at_ N.o))
      |fail)
     go_ret;exact⟨by rw[E.o];rfl,M.o⟩
    |true=>
     rw[er] at Tr;cases ep:decide (m.ap=o.ap) with
     |false=>
      rw[ep] at Tp;have E:=I (show decide (m=o)=false by rw[ME.o,ek,ea,et,er,ep];rfl);clear ek ea et er ep;go_enter Tryz.func130,Tryz.ntmps130
      go_upto_region 1 with fail
      rw[<-eW];clear eW
      go_wp2_with (first
       |(refine Au (by rfl) 86 (.tmp 11) (by rfl) w.heap.size 1 (by rfl) pa _ F.o.a Tryz.underlying86 (by rfl) (by rw[Z.o.a.size];exact Cl) ?_)
       |(refine Au (by rfl) 86 (.tmp 13) (by rfl) (w.heap.size+1) 1 (by rfl) qa _ J.o.a Tryz.underlying86 (by rfl) (by rw[HQ.o.a.size];exact Cl) ?_)
       |(refine Au (by rfl) 31 (.tmp 18) (by rfl) w.heap.size 7 (by rfl) pt _ F.o.t Tryz.underlying31 (by rfl) (by rw[Z.o.t.size];exact Bh) ?_)
       |(refine Au (by rfl) 31 (.tmp 20) (by rfl) (w.heap.size+1) 7 (by rfl) qt _ J.o.t Tryz.underlying31 (by rfl) (by rw[HQ.o.t.size];exact Bh) ?_)
       |(go_at_call 176;refine Aj (Tt.o _ M.o) ?_;rintro wt D;clear F J;replace O:=I (O.o.below D);replace N:=I (N.o.below D);replace M:=M.t D;clear D Tt;have F:=I (Z.o.at_ O.o);have J:=I (HQ.o.at_ N.o))
       |(refine Au (by rfl) 44 (.tmp 25) (by rfl) w.heap.size 16 (by rfl) pr _ F.o.r Tryz.underlying44 (by rfl) (by rw[Z.o.r.size];exact AM) ?_)
       |(refine Au (by rfl) 44 (.tmp 27) (by rfl) (w.heap.size+1) 16 (by rfl) qr _ J.o.r Tryz.underlying44 (by rfl) (by rw[HQ.o.r.size];exact AM) ?_)
       |(go_at_call 177;refine Aj (Tr.o _ M.o) ?_;rintro wr D;clear F J;replace O:=I (O.o.below D);replace N:=I (N.o.below D);replace M:=M.t D;clear D Tr;have F:=I (Z.o.at_ O.o);have J:=I (HQ.o.at_ N.o))
       |(refine Au (by rfl) 88 (.tmp 32) (by rfl) w.heap.size 23 (by rfl) pp _ F.o.p Tryz.underlying88 (by rfl) (by rw[Z.o.p.size];exact DZ) ?_)
       |(refine Au (by rfl) 88 (.tmp 34) (by rfl) (w.heap.size+1) 23 (by rfl) qp _ J.o.p Tryz.underlying88 (by rfl) (by rw[HQ.o.p.size];exact DZ) ?_)
       |(go_at_call 178;refine Aj (Tp.o _ M.o) ?_;rintro wp D;clear F J;replace O:=I (O.o.below D);replace N:=I (N.o.below D);replace M:=M.t D;clear D Tp;have F:=I (Z.o.at_ O.o);have J:=I (HQ.o.at_ N.o))
       |fail)
      go_ret;exact⟨by rw[E.o];rfl,M.o⟩
     |true=>
      rw[ep] at Tp;cases ef:decide (m.fa=o.fa) with
      |false=>
       rw[ef] at EF;have ff:=EF.o;have E:=I (show decide (m=o)=false by rw[ME.o,ek,ea,et,er,ep,ef];rfl);clear ek ea et er ep ef;go_enter Tryz.func130,Tryz.ntmps130
       go_upto_region 1 with fail
       rw[<-eW];clear eW
       go_wp2_with (first
        |(refine Au (by rfl) 86 (.tmp 11) (by rfl) w.heap.size 1 (by rfl) pa _ F.o.a Tryz.underlying86 (by rfl) (by rw[Z.o.a.size];exact Cl) ?_)
        |(refine Au (by rfl) 86 (.tmp 13) (by rfl) (w.heap.size+1) 1 (by rfl) qa _ J.o.a Tryz.underlying86 (by rfl) (by rw[HQ.o.a.size];exact Cl) ?_)
        |(refine Au (by rfl) 31 (.tmp 18) (by rfl) w.heap.size 7 (by rfl) pt _ F.o.t Tryz.underlying31 (by rfl) (by rw[Z.o.t.size];exact Bh) ?_)
        |(refine Au (by rfl) 31 (.tmp 20) (by rfl) (w.heap.size+1) 7 (by rfl) qt _ J.o.t Tryz.underlying31 (by rfl) (by rw[HQ.o.t.size];exact Bh) ?_)
        |(go_at_call 176;refine Aj (Tt.o _ M.o) ?_;rintro wt D;clear F J;replace O:=I (O.o.below D);replace N:=I (N.o.below D);replace M:=M.t D;clear D Tt;have F:=I (Z.o.at_ O.o);have J:=I (HQ.o.at_ N.o))
        |(refine Au (by rfl) 44 (.tmp 25) (by rfl) w.heap.size 16 (by rfl) pr _ F.o.r Tryz.underlying44 (by rfl) (by rw[Z.o.r.size];exact AM) ?_)
        |(refine Au (by rfl) 44 (.tmp 27) (by rfl) (w.heap.size+1) 16 (by rfl) qr _ J.o.r Tryz.underlying44 (by rfl) (by rw[HQ.o.r.size];exact AM) ?_)
        |(go_at_call 177;refine Aj (Tr.o _ M.o) ?_;rintro wr D;clear F J;replace O:=I (O.o.below D);replace N:=I (N.o.below D);replace M:=M.t D;clear D Tr;have F:=I (Z.o.at_ O.o);have J:=I (HQ.o.at_ N.o))
        |(refine Au (by rfl) 88 (.tmp 32) (by rfl) w.heap.size 23 (by rfl) pp _ F.o.p Tryz.underlying88 (by rfl) (by rw[Z.o.p.size];exact DZ) ?_)
        |(refine Au (by rfl) 88 (.tmp 34) (by rfl) (w.heap.size+1) 23 (by rfl) qp _ J.o.p Tryz.underlying88 (by rfl) (by rw[HQ.o.p.size];exact DZ) ?_)
        |(go_at_call 178;refine Aj (Tp.o _ M.o) ?_;rintro wp D;clear F J;replace O:=I (O.o.below D);replace N:=I (N.o.below D);replace M:=M.t D;clear D Tp;have F:=I (Z.o.at_ O.o);have J:=I (HQ.o.at_ N.o))
        |(refine Au (by rfl) 90 (.tmp 39) (by rfl) w.heap.size 28 (by rfl) pf _ F.o.f Tryz.underlying90 (by rfl) (by rw[Z.o.f.size];exact FH) ?_)
        |(refine Au (by rfl) 90 (.tmp 41) (by rfl) (w.heap.size+1) 28 (by rfl) qf _ J.o.f Tryz.underlying90 (by rfl) (by rw[HQ.o.f.size];exact FH) ?_)
        |fail)
       go_ret;exact⟨by rw[E.o];rfl,M.o⟩
      |true=>
       rw[ef] at EF;have ff:=EF.o;have E:=I (show decide (m=o)=true by rw[ME.o,ek,ea,et,er,ep,ef];rfl);clear ek ea et er ep ef;go_enter Tryz.func130,Tryz.ntmps130
       go_upto_region 1 with fail
       rw[<-eW];clear eW
       go_wp2_with (first
        |(refine Au (by rfl) 86 (.tmp 11) (by rfl) w.heap.size 1 (by rfl) pa _ F.o.a Tryz.underlying86 (by rfl) (by rw[Z.o.a.size];exact Cl) ?_)
        |(refine Au (by rfl) 86 (.tmp 13) (by rfl) (w.heap.size+1) 1 (by rfl) qa _ J.o.a Tryz.underlying86 (by rfl) (by rw[HQ.o.a.size];exact Cl) ?_)
        |(refine Au (by rfl) 31 (.tmp 18) (by rfl) w.heap.size 7 (by rfl) pt _ F.o.t Tryz.underlying31 (by rfl) (by rw[Z.o.t.size];exact Bh) ?_)
        |(refine Au (by rfl) 31 (.tmp 20) (by rfl) (w.heap.size+1) 7 (by rfl) qt _ J.o.t Tryz.underlying31 (by rfl) (by rw[HQ.o.t.size];exact Bh) ?_)
        |(go_at_call 176;refine Aj (Tt.o _ M.o) ?_;rintro wt D;clear F J;replace O:=I (O.o.below D);replace N:=I (N.o.below D);replace M:=M.t D;clear D Tt;have F:=I (Z.o.at_ O.o);have J:=I (HQ.o.at_ N.o))
        |(refine Au (by rfl) 44 (.tmp 25) (by rfl) w.heap.size 16 (by rfl) pr _ F.o.r Tryz.underlying44 (by rfl) (by rw[Z.o.r.size];exact AM) ?_)
        |(refine Au (by rfl) 44 (.tmp 27) (by rfl) (w.heap.size+1) 16 (by rfl) qr _ J.o.r Tryz.underlying44 (by rfl) (by rw[HQ.o.r.size];exact AM) ?_)
        |(go_at_call 177;refine Aj (Tr.o _ M.o) ?_;rintro wr D;clear F J;replace O:=I (O.o.below D);replace N:=I (N.o.below D);replace M:=M.t D;clear D Tr;have F:=I (Z.o.at_ O.o);have J:=I (HQ.o.at_ N.o))
        |(refine Au (by rfl) 88 (.tmp 32) (by rfl) w.heap.size 23 (by rfl) pp _ F.o.p Tryz.underlying88 (by rfl) (by rw[Z.o.p.size];exact DZ) ?_)
        |(refine Au (by rfl) 88 (.tmp 34) (by rfl) (w.heap.size+1) 23 (by rfl) qp _ J.o.p Tryz.underlying88 (by rfl) (by rw[HQ.o.p.size];exact DZ) ?_)
        |(go_at_call 178;refine Aj (Tp.o _ M.o) ?_;rintro wp D;clear F J;replace O:=I (O.o.below D);replace N:=I (N.o.below D);replace M:=M.t D;clear D Tp;have F:=I (Z.o.at_ O.o);have J:=I (HQ.o.at_ N.o))
        |(refine Au (by rfl) 90 (.tmp 39) (by rfl) w.heap.size 28 (by rfl) pf _ F.o.f Tryz.underlying90 (by rfl) (by rw[Z.o.f.size];exact FH) ?_)
        |(refine Au (by rfl) 90 (.tmp 41) (by rfl) (w.heap.size+1) 28 (by rfl) qf _ J.o.f Tryz.underlying90 (by rfl) (by rw[HQ.o.f.size];exact FH) ?_)
        |fail)
       go_ret;exact⟨by rw[E.o];rfl,M.o⟩
open DerR
theorem dG {pa:Array Value} {x:As} (w:World) (h:AsV pa x) (s:pSm x.c/\pSm x.s):Calls Tryz.prog 132 #[.agg pa] w fun e w'=>e=.returned (.bool (asB x))/\Below w.heap.size w w':=by rw[h];exact Xo x w s.1 s.2
theorem dH {pa:Array Value} {x:Tg} {w0:World} {B:Nat} (w:World) (h:TgV w0 B pa x) (s:pSm x.t.s/\pSm x.s):Calls Tryz.prog 133 #[.agg pa] w fun e w'=>e=.returned (.bool (tgB x))/\Below w.heap.size w w':=by
 obtain⟨b,a,rfl,⟨A1,c1,rfl,_,D⟩,⟨A2,c2,rfl,_,E⟩⟩:=h;exact UE x A1 A2 c1 c2 w s.1 s.2
theorem dI {pa:Array Value} {x:Re} {w0:World} {B:Nat} (w:World) (h:ReV w0 B pa x) (s:pSm x.c/\pSm x.t.s):Calls Tryz.prog 134 #[.agg pa] w fun e w'=>e=.returned (.bool (reB x))/\Below w.heap.size w w':=by
 obtain⟨b,a,rfl,⟨A1,c1,rfl,_,D⟩,⟨A2,c2,rfl,_,E⟩⟩:=h;exact Xp x A1 A2 c1 c2 w s.2 s.1
theorem dJ {pa:Array Value} {x:Ap} {w0:World} {B:Nat} (w:World) (h:ApV w0 B pa x) (s:pSm x.t.s):Calls Tryz.prog 135 #[.agg pa] w fun e w'=>e=.returned (.bool (apB x))/\Below w.heap.size w w':=by
 obtain⟨b,a,rfl,⟨A1,c1,rfl,_,D⟩,⟨A2,c2,rfl,_,E⟩⟩:=h;exact Xq x A1 A2 c1 c2 w s
theorem dK {pa:Array Value} {x:Fa} (w:World) (h:FaV pa x):Calls Tryz.prog 136 #[.agg pa] w fun e w'=>e=.returned (.bool (faB x))/\Below w.heap.size w w':=by rw[h];exact Xr x w
theorem aS {pa:Array Value} {x:As} (w:World) (h:AsV pa x) (s:asB x=true):Calls Tryz.prog 137 #[.agg pa] w (Cc w (asE x)):=by rw[h];exact UF x w s
theorem aT {pa:Array Value} {x:Tg} (w:World) (h:TgV w w.heap.size pa x) (s:tgB x=true):Calls Tryz.prog 138 #[.agg pa] w (Cc w (tgE x)):=by
 obtain⟨b,a,rfl,⟨A1,c1,rfl,_,D⟩,⟨A2,c2,rfl,_,E⟩⟩:=h;exact UG x A1 A2 c1 c2 w s D E
theorem aU {pa:Array Value} {x:Re} (w:World) (h:ReV w w.heap.size pa x) (s:reB x=true):Calls Tryz.prog 139 #[.agg pa] w (Cc w (reE x)):=by
 obtain⟨b,a,rfl,⟨A1,c1,rfl,_,D⟩,⟨A2,c2,rfl,_,E⟩⟩:=h;exact UH x A1 A2 c1 c2 w s D E
theorem aV {pa:Array Value} {x:Ap} (w:World) (h:ApV w w.heap.size pa x) (s:apB x=true):Calls Tryz.prog 140 #[.agg pa] w (Cc w (apE x)):=by
 obtain⟨b,a,rfl,⟨A1,c1,rfl,_,D⟩,⟨A2,c2,rfl,_,E⟩⟩:=h;exact UI x A1 A2 c1 c2 w s D E
theorem aW {pa:Array Value} {x:Fa} (w:World) (h:FaV pa x):Calls Tryz.prog 141 #[.agg pa] w (Cc w (faE x)):=by rw[h];exact UJ x w
def kdB (m:Mg):Bool:=if m.k=1 then asB m.aq else if m.k=2 then tgB m.tg else if m.k=3 then reB m.re else if m.k=4 then apB m.ap else if m.k=5 then faB m.fa else false
theorem dL (m:Mg):mgB m=(decide (m=nm m)&&kdB m):=by
 unfold mgB kdB nm
 by_cases h1:m.k=1
 ·simp only[if_pos h1];rw[Bool.and_comm]
 ·simp only[if_neg h1]
  by_cases h2:m.k=2
  ·simp only[if_pos h2];rw[Bool.and_comm]
  ·simp only[if_neg h2]
   by_cases h3:m.k=3
   ·simp only[if_pos h3];rw[Bool.and_comm]
   ·simp only[if_neg h3]
    by_cases h4:m.k=4
    ·simp only[if_pos h4];rw[Bool.and_comm]
    ·simp only[if_neg h4]
     by_cases h5:m.k=5
     ·simp only[if_pos h5];rw[Bool.and_comm]
     ·simp only[if_neg h5];rw[Bool.and_false]
section
variable {P:Program} {w:World} {o:Oper} {a:Act}
theorem Ar {w':World} {g:Nat} {t ty:TypeId} {cs:Array Value} {d:TypeDesc} (x:Operand) (E:o.op=.load ty x) (D:a.eval x=.pointer (some ⟨g,0,none⟩)) (h:Blk w' g t cs) (hu:P.underlying ty=some d) (F:d.isRow=true) (hi:(P.info? ty).map (·.size)=some cs.size) :
  (execOp a.eval o).run P w'=.ok (.value (.agg cs)) w':=by
 unfold execOp;simp only[E,D,Instr.loadAt,Instr.sureAddr,Sem.run_bind,Sem.run_pure,Result.andThen_ok,Al h hu F hi]
end
theorem UX (cs:Array Value) (m:Mg) (w:World) (h:MgV w w.heap.size cs m) (hs:mSm m):Calls Tryz.prog 93 #[.agg cs] w fun e w'=>e=.returned (.bool (mgB m))/\Below w.heap.size w w':=by
 have hV:=h;obtain⟨pa,pt,pr,pp,pf,hc,hp⟩:=h;have aw:cs.size=30:=by rw[hc];exact hp.size m.k
 have HI:=I (show(Tryz.prog.info? 92).map (·.size)=some cs.size by rw[aw];exact DJ);obtain⟨W,eW⟩:=Ak (w.alloc (.cells cs 92));have J:=I (show Blk W w.heap.size 92 cs by rw[eW];exact Blk.new _ _ _);have F:=I (show Below w.heap.size w W by rw[eW];exact Ah.alloc Ag _);have EC:=I hc;have O:=I hp;have TN:=I (fun w1 (h:Below w.heap.size w w1)=>UR cs m w1 ((hV.keep h).more h.size));have TE:=I (fun w1 ds (h:Below w.heap.size w w1) (g:MgV w1 w1.heap.size ds (nm m))=>UW cs ds m (nm m) w1 ((hV.keep h).more h.size) g);have T1:=I (fun w1=>dG w1 hp.a hs.1);have T2:=I (fun w1=>dH w1 hp.t hs.2.1);have T3:=I (fun w1=>dI w1 hp.r hs.2.2.1);have T4:=I (fun w1=>dJ w1 hp.p hs.2.2.2);have T5:=I (fun w1=>dK w1 hp.f);have MB:=I (dL m);clear hc hp hV aw hs;cases en:decide (m=nm m) with
 |false=>
  rw[en] at TE;have E:=I (show mgB m=false by rw[MB.o,en];rfl);clear en;go_enter Tryz.func93,Tryz.ntmps93
  go_upto_region 1 with fail
  rw[<-eW];clear eW;replace J:=I (show Blk W.drew _ _ _ from J.o.drewN 1);replace F:=I (show Below _ _ W.drew from below_drewN F.o 1);refine Reg.FA 5 rfl (by kernel_rfl) ?_;refine Reg.tx 0 (v:=.agg cs) rfl (fun w' hS=>Ar (.tmp 1) rfl rfl (J.o.below hS) Tryz.underlying92 rfl HI.o) ?_;refine Reg.tx 1 (v:=.agg cs) rfl (fun w' hS=>Ar (.tmp 1) rfl rfl (J.o.below hS) Tryz.underlying92 rfl HI.o) ?_;refine Reg.JP 2 rfl (by kernel_rfl) (by rfl) 131 #[.agg cs] (by go_simp) ?_;refine Calls.mono (TN.o _ F.o) ?_;rintro e w1 ⟨ds,rfl,M,D⟩;refine⟨_,rfl,D,?_⟩;replace J:=I (J.o.below D);replace F:=F.t D;have HD:=I M;clear D M TN;simp only[Act.put,U,Aa,Ab];refine Reg.JP 3 rfl (by kernel_rfl) (by rfl) 130 #[.agg cs,.agg ds] (by go_simp) ?_;refine Aj (TE.o _ ds F.o HD.o) ?_;rintro w2 D;refine⟨_,rfl,D,?_⟩;replace J:=I (J.o.below D);replace F:=F.t D;clear D TE HD;simp only[Act.put,U,Aa,Ab];refine Reg.tx 4 (v:=.bool true) rfl (fun w' hS=>by go_simp) ?_;refine wpAnyH_done (by kernel_rfl) ?_ _
  go_wp2
  go_ret;exact⟨by rw[E.o];rfl,F.o⟩
 |true=>
  rw[en] at TE;have Z:=I (show mgB m=kdB m by rw[MB.o,en];rfl);clear en;go_enter Tryz.func93,Tryz.ntmps93
  go_upto_region 1 with fail
  rw[<-eW];clear eW;replace J:=I (show Blk W.drew _ _ _ from J.o.drewN 1);replace F:=I (show Below _ _ W.drew from below_drewN F.o 1);refine Reg.FA 5 rfl (by kernel_rfl) ?_;refine Reg.tx 0 (v:=.agg cs) rfl (fun w' hS=>Ar (.tmp 1) rfl rfl (J.o.below hS) Tryz.underlying92 rfl HI.o) ?_;refine Reg.tx 1 (v:=.agg cs) rfl (fun w' hS=>Ar (.tmp 1) rfl rfl (J.o.below hS) Tryz.underlying92 rfl HI.o) ?_;refine Reg.JP 2 rfl (by kernel_rfl) (by rfl) 131 #[.agg cs] (by go_simp) ?_;refine Calls.mono (TN.o _ F.o) ?_;rintro e w1 ⟨ds,rfl,M,D⟩;refine⟨_,rfl,D,?_⟩;replace J:=I (J.o.below D);replace F:=F.t D;have HD:=I M;clear D M TN;simp only[Act.put,U,Aa,Ab];refine Reg.JP 3 rfl (by kernel_rfl) (by rfl) 130 #[.agg cs,.agg ds] (by go_simp) ?_;refine Aj (TE.o _ ds F.o HD.o) ?_;rintro w2 D;refine⟨_,rfl,D,?_⟩;replace J:=I (J.o.below D);replace F:=F.t D;clear D TE HD;simp only[Act.put,U,Aa,Ab];refine Reg.tx 4 (v:=.bool false) rfl (fun w' hS=>by go_simp) ?_;refine wpAnyH_done (by kernel_rfl) ?_ _;replace J:=I (EC.o▸J.o);have N:=I (O.o.at_ J.o);have k0:=N.o.k
  by_cases m1:m.k=1
  ·have y1:(m.k==1)=true:=by simpa using m1
   have y2:(m.k==2)=false:=by simp;omega
   have y3:(m.k==3)=false:=by simp;omega
   have y4:(m.k==4)=false:=by simp;omega
   have y5:(m.k==5)=false:=by simp;omega
   have E:=I (show mgB m=asB m.aq by rw[Z.o,kdB,if_pos m1]);clear m1
   go_wp2_with (first
    |(refine Au (by rfl) 86 (.tmp 12) (by rfl) w.heap.size 1 (by rfl) pa _ N.o.a Tryz.underlying86 (by rfl) (by rw[O.o.a.size];exact Cl) ?_)
    |(go_at_call 132;refine Aj (T1.o _) ?_;rintro w3 D;replace F:=F.t D;clear D T1)
    |fail)
   go_ret;exact⟨by rw[E.o];rfl,F.o⟩
  ·have bx:=m1
   by_cases m2:m.k=2
   ·have y1:(m.k==1)=false:=by simp;omega
    have y2:(m.k==2)=true:=by simpa using m2
    have y3:(m.k==3)=false:=by simp;omega
    have y4:(m.k==4)=false:=by simp;omega
    have y5:(m.k==5)=false:=by simp;omega
    have E:=I (show mgB m=tgB m.tg by rw[Z.o,kdB,if_neg m1,if_pos m2]);clear m1 m2
    go_wp2_with (first
     |(refine Au (by rfl) 31 (.tmp 17) (by rfl) w.heap.size 7 (by rfl) pt _ N.o.t Tryz.underlying31 (by rfl) (by rw[O.o.t.size];exact Bh) ?_)
     |(go_at_call 133;refine Aj (T2.o _) ?_;rintro w3 D;replace F:=F.t D;clear D T2)
     |fail)
    go_ret;exact⟨by rw[E.o];rfl,F.o⟩
   ·have ca:=m2
    by_cases m3:m.k=3
    ·have y1:(m.k==1)=false:=by simp;omega
     have y2:(m.k==2)=false:=by simp;omega
     have y3:(m.k==3)=true:=by simpa using m3
     have y4:(m.k==4)=false:=by simp;omega
     have y5:(m.k==5)=false:=by simp;omega
     have E:=I (show mgB m=reB m.re by rw[Z.o,kdB,if_neg m1,if_neg m2,if_pos m3]);clear m1 m2 m3
     go_wp2_with (first
      |(refine Au (by rfl) 44 (.tmp 22) (by rfl) w.heap.size 16 (by rfl) pr _ N.o.r Tryz.underlying44 (by rfl) (by rw[O.o.r.size];exact AM) ?_)
      |(go_at_call 134;refine Aj (T3.o _) ?_;rintro w3 D;replace F:=F.t D;clear D T3)
      |fail)
     go_ret;exact⟨by rw[E.o];rfl,F.o⟩
    ·have bB:=m3
     by_cases m4:m.k=4
     ·have y1:(m.k==1)=false:=by simp;omega
      have y2:(m.k==2)=false:=by simp;omega
      have y3:(m.k==3)=false:=by simp;omega
      have y4:(m.k==4)=true:=by simpa using m4
      have y5:(m.k==5)=false:=by simp;omega
      have E:=I (show mgB m=apB m.ap by rw[Z.o,kdB,if_neg m1,if_neg m2,if_neg m3,if_pos m4]);clear m1 m2 m3 m4
      go_wp2_with (first
       |(refine Au (by rfl) 88 (.tmp 27) (by rfl) w.heap.size 23 (by rfl) pp _ N.o.p Tryz.underlying88 (by rfl) (by rw[O.o.p.size];exact DZ) ?_)
       |(go_at_call 135;refine Aj (T4.o _) ?_;rintro w3 D;replace F:=F.t D;clear D T4)
       |fail)
      go_ret;exact⟨by rw[E.o];rfl,F.o⟩
     ·have cb:=m4
      by_cases m5:m.k=5
      ·have y1:(m.k==1)=false:=by simp;omega
       have y2:(m.k==2)=false:=by simp;omega
       have y3:(m.k==3)=false:=by simp;omega
       have y4:(m.k==4)=false:=by simp;omega
       have y5:(m.k==5)=true:=by simpa using m5
       have E:=I (show mgB m=faB m.fa by rw[Z.o,kdB,if_neg m1,if_neg m2,if_neg m3,if_neg m4,if_pos m5]);clear m1 m2 m3 m4 m5
       go_wp2_with (first
        |(refine Au (by rfl) 90 (.tmp 32) (by rfl) w.heap.size 28 (by rfl) pf _ N.o.f Tryz.underlying90 (by rfl) (by rw[O.o.f.size];exact FH) ?_)
        |(go_at_call 136;refine Aj (T5.o _) ?_;rintro w3 D;replace F:=F.t D;clear D T5)
        |fail)
       go_ret;exact⟨by rw[E.o];rfl,F.o⟩
      ·have bz:=m5
       have y1:(m.k==1)=false:=by simp;omega
       have y2:(m.k==2)=false:=by simp;omega
       have y3:(m.k==3)=false:=by simp;omega
       have y4:(m.k==4)=false:=by simp;omega
       have y5:(m.k==5)=false:=by simp;omega
       have E:=I (show mgB m=false by rw[Z.o,kdB,if_neg m1,if_neg m2,if_neg m3,if_neg m4,if_neg m5]);clear m1 m2 m3 m4 m5
       go_wp2
       go_ret;exact⟨by rw[E.o];rfl,F.o⟩
theorem RB (cs:Array Value) (m:Mg) (w:World) (h:MgV w w.heap.size cs m) (hx:mgB m=true):Calls Tryz.prog 95 #[.agg cs] w (Cc w (mgE m)):=by
 obtain⟨pa,pt,pr,pp,pf,hc,hp⟩:=h;obtain⟨W,Z⟩:=Ak (w.alloc (.cells cs 92));have HK:=I (show Blk W w.heap.size 92 (mgA m.k pa pt pr pp pf) by rw[Z,<-hc];exact Blk.new _ _ _);have HB:=I (show Below w.heap.size w W by rw[Z];exact Ah.alloc Ag _);have HA:=I (hp.at_ HK.o);have k0:=HA.o.k;have HP:=I hp;clear hc;rcases Pz hx with⟨O,e⟩ | ⟨O,e⟩ | ⟨O,e⟩ | ⟨O,e⟩ | ⟨O,e⟩
 ·have hk:m.k=1:=by rw[e]
  have y1:(m.k==1)=true:=by rw[hk];rfl
  have y2:(m.k==2)=false:=by rw[hk];rfl
  have y3:(m.k==3)=false:=by rw[hk];rfl
  have y4:(m.k==4)=false:=by rw[hk];rfl
  have y5:(m.k==5)=false:=by rw[hk];rfl
  have E:=I (show mgE m=asE m.aq by rw[e];rfl);have N:=I (fun w1 (h:Below w.heap.size w w1)=>aS w1 hp.a O);rw[E.o];clear hx O e hk hp E;go_enter Tryz.func95,Tryz.ntmps95
  go_upto_region 1 with fail
  rw[<-Z];clear Z
  go_wp2_with (first
   |(refine Au (by rfl) 86 (.tmp 7) (by rfl) w.heap.size 1 (by rfl) pa _ HA.o.a Tryz.underlying86 (by rfl) (by rw[HP.o.a.size];exact Cl) ?_)
   |(go_at_call 137;refine Calls.mono (N.o _ HB.o) ?_;rintro e w3 ⟨⟨g,c,rfl,F,M,D⟩,J⟩;have HG:=I (Bi (l:=asE m.aq) ⟨⟨g,c,rfl,F,M,D⟩,J⟩ HB.o);clear F M D J N)
   |fail)
  go_ret;exact HG.o
 ·have hk:m.k=2:=by rw[e]
  have y1:(m.k==1)=false:=by rw[hk];rfl
  have y2:(m.k==2)=true:=by rw[hk];rfl
  have y3:(m.k==3)=false:=by rw[hk];rfl
  have y4:(m.k==4)=false:=by rw[hk];rfl
  have y5:(m.k==5)=false:=by rw[hk];rfl
  have E:=I (show mgE m=tgE m.tg by rw[e];rfl);have N:=I (fun w1 (h:Below w.heap.size w w1)=>aT w1 ((hp.t.keep h).more h.size) O);rw[E.o];clear hx O e hk hp E;go_enter Tryz.func95,Tryz.ntmps95
  go_upto_region 1 with fail
  rw[<-Z];clear Z
  go_wp2_with (first
   |(refine Au (by rfl) 31 (.tmp 12) (by rfl) w.heap.size 7 (by rfl) pt _ HA.o.t Tryz.underlying31 (by rfl) (by rw[HP.o.t.size];exact Bh) ?_)
   |(go_at_call 138;refine Calls.mono (N.o _ HB.o) ?_;rintro e w3 ⟨⟨g,c,rfl,F,M,D⟩,J⟩;have HG:=I (Bi (l:=tgE m.tg) ⟨⟨g,c,rfl,F,M,D⟩,J⟩ HB.o);clear F M D J N)
   |fail)
  go_ret;exact HG.o
 ·have hk:m.k=3:=by rw[e]
  have y1:(m.k==1)=false:=by rw[hk];rfl
  have y2:(m.k==2)=false:=by rw[hk];rfl
  have y3:(m.k==3)=true:=by rw[hk];rfl
  have y4:(m.k==4)=false:=by rw[hk];rfl
  have y5:(m.k==5)=false:=by rw[hk];rfl
  have E:=I (show mgE m=reE m.re by rw[e];rfl);have N:=I (fun w1 (h:Below w.heap.size w w1)=>aU w1 ((hp.r.keep h).more h.size) O);rw[E.o];clear hx O e hk hp E;go_enter Tryz.func95,Tryz.ntmps95
  go_upto_region 1 with fail
  rw[<-Z];clear Z
  go_wp2_with (first
   |(refine Au (by rfl) 44 (.tmp 17) (by rfl) w.heap.size 16 (by rfl) pr _ HA.o.r Tryz.underlying44 (by rfl) (by rw[HP.o.r.size];exact AM) ?_)
   |(go_at_call 139;refine Calls.mono (N.o _ HB.o) ?_;rintro e w3 ⟨⟨g,c,rfl,F,M,D⟩,J⟩;have HG:=I (Bi (l:=reE m.re) ⟨⟨g,c,rfl,F,M,D⟩,J⟩ HB.o);clear F M D J N)
   |fail)
  go_ret;exact HG.o
 ·have hk:m.k=4:=by rw[e]
  have y1:(m.k==1)=false:=by rw[hk];rfl
  have y2:(m.k==2)=false:=by rw[hk];rfl
  have y3:(m.k==3)=false:=by rw[hk];rfl
  have y4:(m.k==4)=true:=by rw[hk];rfl
  have y5:(m.k==5)=false:=by rw[hk];rfl
  have E:=I (show mgE m=apE m.ap by rw[e];rfl);have N:=I (fun w1 (h:Below w.heap.size w w1)=>aV w1 ((hp.p.keep h).more h.size) O);rw[E.o];clear hx O e hk hp E;go_enter Tryz.func95,Tryz.ntmps95
  go_upto_region 1 with fail
  rw[<-Z];clear Z
  go_wp2_with (first
   |(refine Au (by rfl) 88 (.tmp 22) (by rfl) w.heap.size 23 (by rfl) pp _ HA.o.p Tryz.underlying88 (by rfl) (by rw[HP.o.p.size];exact DZ) ?_)
   |(go_at_call 140;refine Calls.mono (N.o _ HB.o) ?_;rintro e w3 ⟨⟨g,c,rfl,F,M,D⟩,J⟩;have HG:=I (Bi (l:=apE m.ap) ⟨⟨g,c,rfl,F,M,D⟩,J⟩ HB.o);clear F M D J N)
   |fail)
  go_ret;exact HG.o
 ·have hk:m.k=5:=by rw[e]
  have y1:(m.k==1)=false:=by rw[hk];rfl
  have y2:(m.k==2)=false:=by rw[hk];rfl
  have y3:(m.k==3)=false:=by rw[hk];rfl
  have y4:(m.k==4)=false:=by rw[hk];rfl
  have y5:(m.k==5)=true:=by rw[hk];rfl
  have E:=I (show mgE m=faE m.fa by rw[e];rfl);have N:=I (fun w1 (h:Below w.heap.size w w1)=>aW w1 hp.f);rw[E.o];clear hx O e hk hp E;go_enter Tryz.func95,Tryz.ntmps95
  go_upto_region 1 with fail
  rw[<-Z];clear Z
  go_wp2_with (first
   |(refine Au (by rfl) 90 (.tmp 25) (by rfl) w.heap.size 28 (by rfl) pf _ HA.o.f Tryz.underlying90 (by rfl) (by rw[HP.o.f.size];exact FH) ?_)
   |(go_at_call 141;refine Calls.mono (N.o _ HB.o) ?_;rintro e w3 ⟨⟨g,c,rfl,F,M,D⟩,J⟩;have HG:=I (Bi (l:=faE m.fa) ⟨⟨g,c,rfl,F,M,D⟩,J⟩ HB.o);clear F M D J N)
   |fail)
  go_ret;exact HG.o
theorem YA {m:Mg} (M:mgB m=true):(mgE m).length<=2000:=by
 rcases Pz M with⟨E,e⟩ | ⟨E,e⟩ | ⟨E,e⟩ | ⟨E,e⟩ | ⟨E,e⟩
 ·have D:mgE m=asE m.aq:=by rw[e];rfl
  have hp:prB m.aq.c=true/\prB m.aq.s=true/\tmB m.aq.t=true/\tmB m.aq.no=true:=by simpa [asB] using E
  have b1:=(Bl hp.1).1;have b2:=(Bl hp.2.1).1;have b3:=AI m.aq.t;have J:=AI m.aq.no;have:=AE 106 [prE m.aq.c,prE m.aq.s,encI m.aq.t,encI m.aq.no].flatten;rw[D,asE];rw[Wv] at this⊢;simp only[List.length_append] at this;omega
 ·have D:mgE m=tgE m.tg:=by rw[e];rfl
  have hp:tkB m.tg.t=true/\Dm m.tg.a=true/\prB m.tg.s=true/\tmB m.tg.u=true/\tmB m.tg.no=true:=by simpa [tgB] using E
  have b1:=(Hy hp.1).1;have b2:=AE 4 m.tg.a;have b3:=(Bl hp.2.2.1).1;have J:=AI m.tg.u;have N:=AI m.tg.no;have F:=Dy hp.2.1;have:=AE 108 [tkE m.tg.t,elem 4 m.tg.a,prE m.tg.s,encI m.tg.u,encI m.tg.no].flatten;rw[D,tgE];rw[Fu] at this⊢;simp only[List.length_append] at this;omega
 ·have D:mgE m=reE m.re:=by rw[e];rfl
  have hp:prB m.re.c=true/\tkB m.re.t=true/\Dm m.re.b=true:=by simpa [reB] using E
  have b1:=(Bl hp.1).1;have b2:=(Hy hp.2.1).1;have b3:=AE 4 m.re.b;have F:=Dy hp.2.2;have:=AE 107 [prE m.re.c,tkE m.re.t,elem 4 m.re.b].flatten;rw[D,reE];rw[Gd] at this⊢;simp only[List.length_append] at this;omega
 ·have D:mgE m=apE m.ap:=by rw[e];rfl
  have hp:tkB m.ap.t=true/\Dm m.ap.a=true:=by simpa [apB] using E
  have b2:=(Hy hp.1).1;have b3:=AE 4 m.ap.a;have F:=Dy hp.2;have:=AE 110 [tkE m.ap.t,elem 4 m.ap.a].flatten;rw[D,apE];rw[Gc] at this⊢;simp only[List.length_append] at this;omega
 ·have D:mgE m=faE m.fa:=by rw[e];rfl
  have b2:=AI m.fa.e;have b3:=AI m.fa.no;have:=AE 126 [encI m.fa.e,encI m.fa.no].flatten;rw[D,faE];rw[Gc] at this⊢;simp only[List.length_append] at this;omega
theorem aX (D:Array Value) (m:Mg) (w:World) (h:MgV w w.heap.size D m) (hs:mSm m):Calls Tryz.prog 57 #[.agg D] w (EncR w (mgO m)):=by
 have HI:=I (show(Tryz.prog.info? 92).map (·.size)=some D.size by obtain⟨pa,pt,pr,pp,pf,hc,hp⟩:=h;rw[hc,hp.size];exact DJ);have Z:=I (fun w1 (h1:Below w.heap.size w w1)=>UX D m w1 ((h.keep h1).more h1.size) hs);have T0:=I (fun(F:mgB m=true)=>fun w1 (h1:Below w.heap.size w w1)=>RB D m w1 ((h.keep h1).more h1.size) F);have J:=I (fun(F:mgB m=true)=>YA F);obtain⟨cs,aw⟩:∃cs:Array Value,cs=D:=⟨_,rfl⟩;rw[<-aw] at HI Z T0⊢;clear aw;have M:=I ((Below.refl w.heap.size w).alloc Ag (.cells cs 92));have HK:=I (Blk.new w 92 cs);cases F:mgB m with
 |false=>
  rw[F] at Z;have E:=I (show mgO m=none by unfold mgO limO;rw[F];rfl);rw[E.o];clear F E T0 J hs h;go_enter Tryz.func57,Tryz.ntmps57
  go_wp2_with (first
   |(refine Am (by rfl) 92 (.tmp 1) (by rfl) w.heap.size 0 (by rfl) cs _ (Ae HK.o) Tryz.underlying92 (by rfl) HI.o ?_)
   |(go_at_call 93;refine Aj (Z.o _ M.o) ?_;rintro w1 O;replace M:=M.t O;clear O Z)
   |fail)
  go_ret2
  exact FW M.o
 |true=>
  rw[F] at Z;have T1:=I (T0.o F);have N:=J.o F;have E:=I (show mgO m=some (mgE m) from Dg.2 ⟨F,N,rfl⟩);rw[E.o];obtain⟨l,el⟩:=Ak (mgE m);rw[<-el] at T1 N⊢;have LM:=I (fun A c w1=>Ga l A _ c w1 rfl N);clear F E el N T0 J hs h;go_enter Tryz.func57,Tryz.ntmps57
  go_wp2_with (first
   |(refine Am (by rfl) 92 (.tmp 1) (by rfl) w.heap.size 0 (by rfl) cs _ (Ae HK.o) Tryz.underlying92 (by rfl) HI.o ?_)
   |(go_at_call 93;refine Aj (Z.o _ M.o) ?_;rintro w1 O;replace HK:=I (HK.o.below O);replace M:=M.t O;clear O Z)
   |(go_at_call 95;refine Calls.mono (T1.o _ M.o) ?_;rintro e w2 ⟨⟨g,c,rfl,h2,h3,h4⟩,O⟩;have HG:=I (Bi (l:=l) ⟨⟨g,c,rfl,h2,h3,h4⟩,O⟩ M.o);clear h2 h3 h4 O T1)
   |(go_at_call 94;refine Aj (LM.o _ _ _) ?_;rintro wy rfl;clear LM)
   |fail)
  go_ret2
  exact FX HG.o
end Mc
namespace Mc
open Go.RowKit Af DerP DerC Ms
theorem Cj:pSm pr0:=⟨by decide,by decide⟩
end Mc
end Go.Proofs.YthgignaohimadaaGreat
