import Derived.Deep.LoopGhost
import Derived.Deep.RegionHeld3
import Derived.Test.YtfcjeebnkigeaaaGreatZKdcNonces1
import Derived.Test.YtfcjeebnkigeaaaGreatZKdcNonces2
import Derived.Test.YtfcjeebnkigeaaaGreatZKdcNonces7
import Derived.Test.YtfcjeebnkigeaaaGreatZKdcNonces8
import Derived.Test.YtfcjeebnkigeaaaGreatZKdcNonces9
import Derived.Test.YtfcjeebnkigeaaaGreatZKdcNonces12
import Derived.Test.YtfcjeebnkigeaaaGreatZKdcNonces13
import Derived.Test.YtfcjeebnkigeaaaGreatZKdcNonces14
import Derived.Test.YtfcjeebnkigeaaaGreatZKdcNonces15
import Derived.Test.YtfcjeebnkigeaaaGreatZKdcNonces16
import Derived.Test.YtfcjeebnkigeaaaGreatZKdcNonces17
import Derived.Test.YtfcjeebnkigeaaaGreatZKdcNonces22
import Derived.Test.YtfcjeebnkigeaaaGreatZKdcNonces23
section
set_option linter.unusedVariables false
set_option linter.unusedSimpArgs false
namespace Go.Proofs.YtfcjeebnkigeaaaGreat.Mc
open Go.RowKit Go.Proofs.YtfcjeebnkigeaaaGreat.Mem Go.Proofs.YtfcjeebnkigeaaaGreat.DerP Go.Proofs.YtfcjeebnkigeaaaGreat.DerC Go.Proofs.YtfcjeebnkigeaaaGreat.Ms
def zA:Array Value:=(asC as0).toArray
def zT:Array Value:=(tgC tg0 (.slice none 0 0) (.slice none 0 0)).toArray
def zR:Array Value:=(reC re0 (.slice none 0 0) (.slice none 0 0)).toArray
def zP:Array Value:=(apC ap0 (.slice none 0 0) (.slice none 0 0)).toArray
def zF:Array Value:=(faC fa0).toArray
theorem zA_v:AsV zA as0:=rfl
theorem zF_v:FaV zF fa0:=rfl
theorem zT_v (w:World) (B:Nat):TgV w B zT tg0:=⟨_,_,rfl,SlB.nil w B,SlB.nil w B⟩
theorem zR_v (w:World) (B:Nat):ReV w B zR re0:=⟨_,_,rfl,SlB.nil w B,SlB.nil w B⟩
theorem zP_v (w:World) (B:Nat):ApV w B zP ap0:=⟨_,_,rfl,SlB.nil w B,SlB.nil w B⟩
theorem zM_v (w:World) (B:Nat) (k:Int):MgP w B zA zT zR zP zF ⟨k,as0,tg0,re0,ap0,fa0⟩:=⟨zA_v,zT_v w B,zR_v w B,zP_v w B,zF_v⟩
def nm (m:Mg):Mg:=if m.k=1 then ⟨1,m.aq,tg0,re0,ap0,fa0⟩ else if m.k=2 then ⟨2,as0,m.tg,re0,ap0,fa0⟩ else if m.k=3 then ⟨3,as0,tg0,m.re,ap0,fa0⟩ else if m.k=4 then ⟨4,as0,tg0,re0,m.ap,fa0⟩ else if m.k=5 then ⟨5,as0,tg0,re0,ap0,m.fa⟩ else ⟨m.k,as0,tg0,re0,ap0,fa0⟩
theorem built_mg (k:Int):Tryz.prog.built 93 [(0,.int .i64 k)]=some (mgA k zA zT zR zP zF):=by kernel_rfl
set_option maxHeartbeats 12800000 in
set_option maxRecDepth 10000 in
theorem named_any (cs:Array Value) (m:Mg) (w:World) (h:MgV w w.heap.size cs m):Calls Tryz.prog 190 #[.agg cs] w fun e w'=>∃ds,e = .returned (.agg ds)∧MgV w' w'.heap.size ds (nm m)∧Below w.heap.size w w':=by
 obtain⟨pa,pt,pr,pp,pf,hc,hp⟩:=h
 obtain⟨zz,ezz⟩:∃z:Array Value,z=#[.int .i64 0,.string ⟨#[]⟩,.string ⟨#[]⟩,.string ⟨#[]⟩,.string ⟨#[]⟩,.int .i64 0,.int .i64 0,.string ⟨#[]⟩,.string ⟨#[]⟩,.int .i64 0,.slice none 0 0,.slice none 0 0,.string ⟨#[]⟩,.string ⟨#[]⟩,.int .i64 0,.int .i64 0,.string ⟨#[]⟩,.string ⟨#[]⟩,.string ⟨#[]⟩,.string ⟨#[]⟩,.int .i64 0,.slice none 0 0,.slice none 0 0,.string ⟨#[]⟩,.string ⟨#[]⟩,.int .i64 0,.slice none 0 0,.slice none 0 0,.int .i64 0,.int .i64 0]:=⟨_,rfl⟩
 have ez0:zz=mgA 0 zA zT zR zP zF:=by rw[ezz];rfl
 have hzs:zz.size=30:=by rw[ez0];exact(zM_v w 0 0).size 0
 have HZS:=Lib.hid hzs
 obtain⟨W,eW⟩:∃W,W=(w.alloc (.cells cs 93)).alloc (.cells zz 93):=⟨_,rfl⟩
 have hWs:W.heap.size=w.heap.size+1+1:=by rw[eW];simp
 have HK:=Lib.hid (show Blk W w.heap.size 93 (mgA m.k pa pt pr pp pf) by rw[eW,←hc];exact(Blk.new _ _ _).alloc _)
 have hq:=Blk.new (w.alloc (.cells cs 93)) 93 zz
 rw[show(w.alloc (.cells cs 93)).heap.size=w.heap.size+1 by simp,←eW] at hq
 have HR:=Lib.hid hq
 clear hq
 have HG:=Lib.hid (show Below w.heap.size w W by rw[eW];exact((Below.refl _ _).alloc (Nat.le_refl _) _).alloc (by simp) _)
 have HA:=Lib.hid (hp.at_ HK.out)
 have k0:=HA.out.k
 have HP:=Lib.hid hp
 have HWS:=Lib.hid hWs
 have HBT:=Lib.hid (built_mg m.k)
 obtain⟨c0,ec0⟩:∃c,c=mgA m.k zA zT zR zP zF:=⟨_,rfl⟩
 have hc0:c0.size=30:=by rw[ec0];exact(zM_v w 0 m.k).size m.k
 have HO:=Lib.hid (show c0.all (·.oneCell')=true by rw[ec0];exact(zM_v w 0 m.k).one m.k)
 have HI:=Lib.hid (show(Tryz.prog.info? 93).map (·.size)=some c0.size by rw[hc0];exact mg_info)
 have HCS:=Lib.hid hc0
 rw[←ec0] at HBT
 have EC:=Lib.hid ec0
 clear hc hp hWs hzs hc0 ec0 ez0
 by_cases m1:m.k=1
 ·have y1:(m.k==1)=true:=by simpa using m1
  have y2:(m.k==2)=false:=by simp;omega
  have y3:(m.k==3)=false:=by simp;omega
  have y4:(m.k==4)=false:=by simp;omega
  have y5:(m.k==5)=false:=by simp;omega
  have EN:=Lib.hid (show nm m=⟨m.k,m.aq,tg0,re0,ap0,fa0⟩ by rw[nm,if_pos m1,m1])
  clear m1
  have HM:=Lib.hid (show MgP w w.heap.size pa zT zR zP zF ⟨m.k,m.aq,tg0,re0,ap0,fa0⟩ from⟨HP.out.a,zT_v w w.heap.size,zR_v w w.heap.size,zP_v w w.heap.size,zF_v⟩)
  have HDI:=Lib.hid (show(Tryz.prog.info? 93).map (·.size)=some (mgA m.k pa zT zR zP zF).size by rw[HM.out.size];exact mg_info)
  go_enter Tryz.func190,Tryz.ntmps190
  go_upto_region 1 with fail
  rw[←ezz,←eW]
  clear ezz eW
  go_wp2_with (first
   |(refine wpList_built (by rfl) 93 #[(0,.tmp 5)] (by rfl) c0 (by simp only[List.map_toArray,List.map_cons,List.map_nil];exact HBT.out) ?_)
   |(refine wpList_store_mid (by rfl) 93 (.tmp 3) (.tmp 6) (by rfl) W.heap.size 0 c0 (by rfl) (by rfl) (there_blk (Blk.new W 93 #[.int .i64 0,.string ⟨#[]⟩,.string ⟨#[]⟩,.string ⟨#[]⟩,.string ⟨#[]⟩,.int .i64 0,.int .i64 0,.string ⟨#[]⟩,.string ⟨#[]⟩,.int .i64 0,.slice none 0 0,.slice none 0 0,.string ⟨#[]⟩,.string ⟨#[]⟩,.int .i64 0,.int .i64 0,.string ⟨#[]⟩,.string ⟨#[]⟩,.string ⟨#[]⟩,.string ⟨#[]⟩,.int .i64 0,.slice none 0 0,.slice none 0 0,.string ⟨#[]⟩,.string ⟨#[]⟩,.int .i64 0,.slice none 0 0,.slice none 0 0,.int .i64 0,.int .i64 0]) _ (by have:=HCS.out;simp;omega)) HI.out HO.out ?_;have hV:=stored_new W 93 #[.int .i64 0,.string ⟨#[]⟩,.string ⟨#[]⟩,.string ⟨#[]⟩,.string ⟨#[]⟩,.int .i64 0,.int .i64 0,.string ⟨#[]⟩,.string ⟨#[]⟩,.int .i64 0,.slice none 0 0,.slice none 0 0,.string ⟨#[]⟩,.string ⟨#[]⟩,.int .i64 0,.int .i64 0,.string ⟨#[]⟩,.string ⟨#[]⟩,.string ⟨#[]⟩,.string ⟨#[]⟩,.int .i64 0,.slice none 0 0,.slice none 0 0,.string ⟨#[]⟩,.string ⟨#[]⟩,.int .i64 0,.slice none 0 0,.slice none 0 0,.int .i64 0,.int .i64 0] c0 (by have:=HCS.out;simp;omega);generalize ((W.alloc (.cells #[.int .i64 0,.string ⟨#[]⟩,.string ⟨#[]⟩,.string ⟨#[]⟩,.string ⟨#[]⟩,.int .i64 0,.int .i64 0,.string ⟨#[]⟩,.string ⟨#[]⟩,.int .i64 0,.slice none 0 0,.slice none 0 0,.string ⟨#[]⟩,.string ⟨#[]⟩,.int .i64 0,.int .i64 0,.string ⟨#[]⟩,.string ⟨#[]⟩,.string ⟨#[]⟩,.string ⟨#[]⟩,.int .i64 0,.slice none 0 0,.slice none 0 0,.string ⟨#[]⟩,.string ⟨#[]⟩,.int .i64 0,.slice none 0 0,.slice none 0 0,.int .i64 0,.int .i64 0] 93)).setCells W.heap.size 0 c0.toList)=V at hV⊢;have HX:=Lib.hid (show Blk V W.heap.size 93 (mgA m.k zA zT zR zP zF) from EC.out▸hV.1);replace HK:=Lib.hid (HK.out.below hV.2);replace HR:=Lib.hid (HR.out.below hV.2);replace HG:=Lib.hid (HG.out.trans (hV.2.mono HG.out.size));clear hV HA k0;have HA:=Lib.hid (HP.out.at_ HK.out);have k0:=HA.out.k)
   |(refine load_cells (by rfl) 29 (.tmp 11) (by rfl) w.heap.size 1 (by rfl) pa _ HA.out.a Tryz.underlying29 (by rfl) (by rw[HP.out.a.size];exact as_info) ?_)
   |(refine wpList_store_mid (by rfl) 29 (.tmp 13) (.tmp 12) (by rfl) W.heap.size 1 pa (by rfl) (by rfl) (there_mid HX.out 1 _ (by rw[(zM_v W 0 m.k).size m.k,HP.out.a.size];omega)) (by rw[HP.out.a.size];exact as_info) HP.out.a.one ?_;have hX:=blk_mid (ps:=pa) (ds:=mgA m.k pa zT zR zP zF) (pre:=[.int .i64 m.k]) (mid:=zA.toList) (post:=zT.toList++zR.toList++zP.toList++zF.toList) (o:=1) HX.out (by simp [mgA]) (by rfl) (by rw[HP.out.a.size];rfl) (by simp [mgA]);have hpm:=put_mid V W.heap.size 1 pa.toList;generalize V.setCells W.heap.size 1 pa.toList=V2 at hX hpm⊢;replace HX:=Lib.hid hX;replace HR:=Lib.hid (HR.out.grown hpm (by intro e;injection e with e;have:=HWS.out;omega));replace HG:=Lib.hid (below_g HG.out hpm HG.out.size (by have:=HWS.out;omega));clear hX hpm HA HK k0)
   |(refine load_cells (by rfl) 93 (.tmp 3) (by rfl) W.heap.size 0 (by rfl) (mgA m.k pa zT zR zP zF) _ (range_blk HX.out) Tryz.underlying93 (by rfl) HDI.out ?_)
   |(refine wpList_store_mid (by rfl) 93 (.tmp 2) (.tmp 34) (by rfl) (w.heap.size+1) 0 (mgA m.k pa zT zR zP zF) (by rfl) (by rfl) (there_blk HR.out _ (by rw[HM.out.size];have:=HZS.out;omega)) HDI.out (HM.out.one _) ?_)
   |fail)
  have hE:=blk_cells (ds:=mgA m.k pa zT zR zP zF) HR.out (by rw[HM.out.size];have:=HZS.out;omega)
  have hp:=put_cells V2 (w.heap.size+1) (mgA m.k pa zT zR zP zF).toList
  have hq:=load_blk (P:=Tryz.prog) hE Tryz.underlying93 rfl HDI.out
  refine bodyPost_ret (v:=.agg (mgA m.k pa zT zR zP zF)) ?_ ?_ ?_
  ·exact results_cell 2 93 ⟨w.heap.size+1,0,none⟩ Tryz.results190 rfl hq
  ·rfl
  have hB:=below_g HG.out hp HG.out.size (by omega)
  refine⟨_,rfl,?_,hB⟩
  rw[EN.out]
  exact⟨pa,zT,zR,zP,zF,rfl,(HM.out.keep hB).more hB.size⟩
 ·have nm1:=m1
  by_cases m2:m.k=2
  ·have y1:(m.k==1)=false:=by simp;omega
   have y2:(m.k==2)=true:=by simpa using m2
   have y3:(m.k==3)=false:=by simp;omega
   have y4:(m.k==4)=false:=by simp;omega
   have y5:(m.k==5)=false:=by simp;omega
   have EN:=Lib.hid (show nm m=⟨m.k,as0,m.tg,re0,ap0,fa0⟩ by rw[nm,if_neg m1,if_pos m2,m2])
   clear m1 m2
   have HM:=Lib.hid (show MgP w w.heap.size zA pt zR zP zF ⟨m.k,as0,m.tg,re0,ap0,fa0⟩ from⟨zA_v,HP.out.t,zR_v w w.heap.size,zP_v w w.heap.size,zF_v⟩)
   have HDI:=Lib.hid (show(Tryz.prog.info? 93).map (·.size)=some (mgA m.k zA pt zR zP zF).size by rw[HM.out.size];exact mg_info)
   go_enter Tryz.func190,Tryz.ntmps190
   go_upto_region 1 with fail
   rw[←ezz,←eW]
   clear ezz eW
   go_wp2_with (first
    |(refine wpList_built (by rfl) 93 #[(0,.tmp 5)] (by rfl) c0 (by simp only[List.map_toArray,List.map_cons,List.map_nil];exact HBT.out) ?_)
    |(refine wpList_store_mid (by rfl) 93 (.tmp 3) (.tmp 6) (by rfl) W.heap.size 0 c0 (by rfl) (by rfl) (there_blk (Blk.new W 93 #[.int .i64 0,.string ⟨#[]⟩,.string ⟨#[]⟩,.string ⟨#[]⟩,.string ⟨#[]⟩,.int .i64 0,.int .i64 0,.string ⟨#[]⟩,.string ⟨#[]⟩,.int .i64 0,.slice none 0 0,.slice none 0 0,.string ⟨#[]⟩,.string ⟨#[]⟩,.int .i64 0,.int .i64 0,.string ⟨#[]⟩,.string ⟨#[]⟩,.string ⟨#[]⟩,.string ⟨#[]⟩,.int .i64 0,.slice none 0 0,.slice none 0 0,.string ⟨#[]⟩,.string ⟨#[]⟩,.int .i64 0,.slice none 0 0,.slice none 0 0,.int .i64 0,.int .i64 0]) _ (by have:=HCS.out;simp;omega)) HI.out HO.out ?_;have hV:=stored_new W 93 #[.int .i64 0,.string ⟨#[]⟩,.string ⟨#[]⟩,.string ⟨#[]⟩,.string ⟨#[]⟩,.int .i64 0,.int .i64 0,.string ⟨#[]⟩,.string ⟨#[]⟩,.int .i64 0,.slice none 0 0,.slice none 0 0,.string ⟨#[]⟩,.string ⟨#[]⟩,.int .i64 0,.int .i64 0,.string ⟨#[]⟩,.string ⟨#[]⟩,.string ⟨#[]⟩,.string ⟨#[]⟩,.int .i64 0,.slice none 0 0,.slice none 0 0,.string ⟨#[]⟩,.string ⟨#[]⟩,.int .i64 0,.slice none 0 0,.slice none 0 0,.int .i64 0,.int .i64 0] c0 (by have:=HCS.out;simp;omega);generalize ((W.alloc (.cells #[.int .i64 0,.string ⟨#[]⟩,.string ⟨#[]⟩,.string ⟨#[]⟩,.string ⟨#[]⟩,.int .i64 0,.int .i64 0,.string ⟨#[]⟩,.string ⟨#[]⟩,.int .i64 0,.slice none 0 0,.slice none 0 0,.string ⟨#[]⟩,.string ⟨#[]⟩,.int .i64 0,.int .i64 0,.string ⟨#[]⟩,.string ⟨#[]⟩,.string ⟨#[]⟩,.string ⟨#[]⟩,.int .i64 0,.slice none 0 0,.slice none 0 0,.string ⟨#[]⟩,.string ⟨#[]⟩,.int .i64 0,.slice none 0 0,.slice none 0 0,.int .i64 0,.int .i64 0] 93)).setCells W.heap.size 0 c0.toList)=V at hV⊢;have HX:=Lib.hid (show Blk V W.heap.size 93 (mgA m.k zA zT zR zP zF) from EC.out▸hV.1);replace HK:=Lib.hid (HK.out.below hV.2);replace HR:=Lib.hid (HR.out.below hV.2);replace HG:=Lib.hid (HG.out.trans (hV.2.mono HG.out.size));clear hV HA k0;have HA:=Lib.hid (HP.out.at_ HK.out);have k0:=HA.out.k)
    |(refine load_cells (by rfl) 34 (.tmp 16) (by rfl) w.heap.size 7 (by rfl) pt _ HA.out.t Tryz.underlying34 (by rfl) (by rw[HP.out.t.size];exact tg_info) ?_)
    |(refine wpList_store_mid (by rfl) 34 (.tmp 18) (.tmp 17) (by rfl) W.heap.size 7 pt (by rfl) (by rfl) (there_mid HX.out 7 _ (by rw[(zM_v W 0 m.k).size m.k,HP.out.t.size];omega)) (by rw[HP.out.t.size];exact tg_info) HP.out.t.one ?_;have hX:=blk_mid (ps:=pt) (ds:=mgA m.k zA pt zR zP zF) (pre:=[.int .i64 m.k]++zA.toList) (mid:=zT.toList) (post:=zR.toList++zP.toList++zF.toList) (o:=7) HX.out (by simp [mgA]) (by rfl) (by rw[HP.out.t.size];rfl) (by simp [mgA]);have hpm:=put_mid V W.heap.size 7 pt.toList;generalize V.setCells W.heap.size 7 pt.toList=V2 at hX hpm⊢;replace HX:=Lib.hid hX;replace HR:=Lib.hid (HR.out.grown hpm (by intro e;injection e with e;have:=HWS.out;omega));replace HG:=Lib.hid (below_g HG.out hpm HG.out.size (by have:=HWS.out;omega));clear hX hpm HA HK k0)
    |(refine load_cells (by rfl) 93 (.tmp 3) (by rfl) W.heap.size 0 (by rfl) (mgA m.k zA pt zR zP zF) _ (range_blk HX.out) Tryz.underlying93 (by rfl) HDI.out ?_)
    |(refine wpList_store_mid (by rfl) 93 (.tmp 2) (.tmp 34) (by rfl) (w.heap.size+1) 0 (mgA m.k zA pt zR zP zF) (by rfl) (by rfl) (there_blk HR.out _ (by rw[HM.out.size];have:=HZS.out;omega)) HDI.out (HM.out.one _) ?_)
    |fail)
   have hE:=blk_cells (ds:=mgA m.k zA pt zR zP zF) HR.out (by rw[HM.out.size];have:=HZS.out;omega)
   have hp:=put_cells V2 (w.heap.size+1) (mgA m.k zA pt zR zP zF).toList
   have hq:=load_blk (P:=Tryz.prog) hE Tryz.underlying93 rfl HDI.out
   refine bodyPost_ret (v:=.agg (mgA m.k zA pt zR zP zF)) ?_ ?_ ?_
   ·exact results_cell 2 93 ⟨w.heap.size+1,0,none⟩ Tryz.results190 rfl hq
   ·rfl
   have hB:=below_g HG.out hp HG.out.size (by omega)
   refine⟨_,rfl,?_,hB⟩
   rw[EN.out]
   exact⟨zA,pt,zR,zP,zF,rfl,(HM.out.keep hB).more hB.size⟩
  ·have nm2:=m2
   by_cases m3:m.k=3
   ·have y1:(m.k==1)=false:=by simp;omega
    have y2:(m.k==2)=false:=by simp;omega
    have y3:(m.k==3)=true:=by simpa using m3
    have y4:(m.k==4)=false:=by simp;omega
    have y5:(m.k==5)=false:=by simp;omega
    have EN:=Lib.hid (show nm m=⟨m.k,as0,tg0,m.re,ap0,fa0⟩ by rw[nm,if_neg m1,if_neg m2,if_pos m3,m3])
    clear m1 m2 m3
    have HM:=Lib.hid (show MgP w w.heap.size zA zT pr zP zF ⟨m.k,as0,tg0,m.re,ap0,fa0⟩ from⟨zA_v,zT_v w w.heap.size,HP.out.r,zP_v w w.heap.size,zF_v⟩)
    have HDI:=Lib.hid (show(Tryz.prog.info? 93).map (·.size)=some (mgA m.k zA zT pr zP zF).size by rw[HM.out.size];exact mg_info)
    go_enter Tryz.func190,Tryz.ntmps190
    go_upto_region 1 with fail
    rw[←ezz,←eW]
    clear ezz eW
    go_wp2_with (first
     |(refine wpList_built (by rfl) 93 #[(0,.tmp 5)] (by rfl) c0 (by simp only[List.map_toArray,List.map_cons,List.map_nil];exact HBT.out) ?_)
     |(refine wpList_store_mid (by rfl) 93 (.tmp 3) (.tmp 6) (by rfl) W.heap.size 0 c0 (by rfl) (by rfl) (there_blk (Blk.new W 93 #[.int .i64 0,.string ⟨#[]⟩,.string ⟨#[]⟩,.string ⟨#[]⟩,.string ⟨#[]⟩,.int .i64 0,.int .i64 0,.string ⟨#[]⟩,.string ⟨#[]⟩,.int .i64 0,.slice none 0 0,.slice none 0 0,.string ⟨#[]⟩,.string ⟨#[]⟩,.int .i64 0,.int .i64 0,.string ⟨#[]⟩,.string ⟨#[]⟩,.string ⟨#[]⟩,.string ⟨#[]⟩,.int .i64 0,.slice none 0 0,.slice none 0 0,.string ⟨#[]⟩,.string ⟨#[]⟩,.int .i64 0,.slice none 0 0,.slice none 0 0,.int .i64 0,.int .i64 0]) _ (by have:=HCS.out;simp;omega)) HI.out HO.out ?_;have hV:=stored_new W 93 #[.int .i64 0,.string ⟨#[]⟩,.string ⟨#[]⟩,.string ⟨#[]⟩,.string ⟨#[]⟩,.int .i64 0,.int .i64 0,.string ⟨#[]⟩,.string ⟨#[]⟩,.int .i64 0,.slice none 0 0,.slice none 0 0,.string ⟨#[]⟩,.string ⟨#[]⟩,.int .i64 0,.int .i64 0,.string ⟨#[]⟩,.string ⟨#[]⟩,.string ⟨#[]⟩,.string ⟨#[]⟩,.int .i64 0,.slice none 0 0,.slice none 0 0,.string ⟨#[]⟩,.string ⟨#[]⟩,.int .i64 0,.slice none 0 0,.slice none 0 0,.int .i64 0,.int .i64 0] c0 (by have:=HCS.out;simp;omega);generalize ((W.alloc (.cells #[.int .i64 0,.string ⟨#[]⟩,.string ⟨#[]⟩,.string ⟨#[]⟩,.string ⟨#[]⟩,.int .i64 0,.int .i64 0,.string ⟨#[]⟩,.string ⟨#[]⟩,.int .i64 0,.slice none 0 0,.slice none 0 0,.string ⟨#[]⟩,.string ⟨#[]⟩,.int .i64 0,.int .i64 0,.string ⟨#[]⟩,.string ⟨#[]⟩,.string ⟨#[]⟩,.string ⟨#[]⟩,.int .i64 0,.slice none 0 0,.slice none 0 0,.string ⟨#[]⟩,.string ⟨#[]⟩,.int .i64 0,.slice none 0 0,.slice none 0 0,.int .i64 0,.int .i64 0] 93)).setCells W.heap.size 0 c0.toList)=V at hV⊢;have HX:=Lib.hid (show Blk V W.heap.size 93 (mgA m.k zA zT zR zP zF) from EC.out▸hV.1);replace HK:=Lib.hid (HK.out.below hV.2);replace HR:=Lib.hid (HR.out.below hV.2);replace HG:=Lib.hid (HG.out.trans (hV.2.mono HG.out.size));clear hV HA k0;have HA:=Lib.hid (HP.out.at_ HK.out);have k0:=HA.out.k)
     |(refine load_cells (by rfl) 38 (.tmp 21) (by rfl) w.heap.size 16 (by rfl) pr _ HA.out.r Tryz.underlying38 (by rfl) (by rw[HP.out.r.size];exact re_info) ?_)
     |(refine wpList_store_mid (by rfl) 38 (.tmp 23) (.tmp 22) (by rfl) W.heap.size 16 pr (by rfl) (by rfl) (there_mid HX.out 16 _ (by rw[(zM_v W 0 m.k).size m.k,HP.out.r.size];omega)) (by rw[HP.out.r.size];exact re_info) HP.out.r.one ?_;have hX:=blk_mid (ps:=pr) (ds:=mgA m.k zA zT pr zP zF) (pre:=[.int .i64 m.k]++zA.toList++zT.toList) (mid:=zR.toList) (post:=zP.toList++zF.toList) (o:=16) HX.out (by simp [mgA]) (by rfl) (by rw[HP.out.r.size];rfl) (by simp [mgA]);have hpm:=put_mid V W.heap.size 16 pr.toList;generalize V.setCells W.heap.size 16 pr.toList=V2 at hX hpm⊢;replace HX:=Lib.hid hX;replace HR:=Lib.hid (HR.out.grown hpm (by intro e;injection e with e;have:=HWS.out;omega));replace HG:=Lib.hid (below_g HG.out hpm HG.out.size (by have:=HWS.out;omega));clear hX hpm HA HK k0)
     |(refine load_cells (by rfl) 93 (.tmp 3) (by rfl) W.heap.size 0 (by rfl) (mgA m.k zA zT pr zP zF) _ (range_blk HX.out) Tryz.underlying93 (by rfl) HDI.out ?_)
     |(refine wpList_store_mid (by rfl) 93 (.tmp 2) (.tmp 34) (by rfl) (w.heap.size+1) 0 (mgA m.k zA zT pr zP zF) (by rfl) (by rfl) (there_blk HR.out _ (by rw[HM.out.size];have:=HZS.out;omega)) HDI.out (HM.out.one _) ?_)
     |fail)
    have hE:=blk_cells (ds:=mgA m.k zA zT pr zP zF) HR.out (by rw[HM.out.size];have:=HZS.out;omega)
    have hp:=put_cells V2 (w.heap.size+1) (mgA m.k zA zT pr zP zF).toList
    have hq:=load_blk (P:=Tryz.prog) hE Tryz.underlying93 rfl HDI.out
    refine bodyPost_ret (v:=.agg (mgA m.k zA zT pr zP zF)) ?_ ?_ ?_
    ·exact results_cell 2 93 ⟨w.heap.size+1,0,none⟩ Tryz.results190 rfl hq
    ·rfl
    have hB:=below_g HG.out hp HG.out.size (by omega)
    refine⟨_,rfl,?_,hB⟩
    rw[EN.out]
    exact⟨zA,zT,pr,zP,zF,rfl,(HM.out.keep hB).more hB.size⟩
   ·have nm3:=m3
    by_cases m4:m.k=4
    ·have y1:(m.k==1)=false:=by simp;omega
     have y2:(m.k==2)=false:=by simp;omega
     have y3:(m.k==3)=false:=by simp;omega
     have y4:(m.k==4)=true:=by simpa using m4
     have y5:(m.k==5)=false:=by simp;omega
     have EN:=Lib.hid (show nm m=⟨m.k,as0,tg0,re0,m.ap,fa0⟩ by rw[nm,if_neg m1,if_neg m2,if_neg m3,if_pos m4,m4])
     clear m1 m2 m3 m4
     have HM:=Lib.hid (show MgP w w.heap.size zA zT zR pp zF ⟨m.k,as0,tg0,re0,m.ap,fa0⟩ from⟨zA_v,zT_v w w.heap.size,zR_v w w.heap.size,HP.out.p,zF_v⟩)
     have HDI:=Lib.hid (show(Tryz.prog.info? 93).map (·.size)=some (mgA m.k zA zT zR pp zF).size by rw[HM.out.size];exact mg_info)
     go_enter Tryz.func190,Tryz.ntmps190
     go_upto_region 1 with fail
     rw[←ezz,←eW]
     clear ezz eW
     go_wp2_with (first
      |(refine wpList_built (by rfl) 93 #[(0,.tmp 5)] (by rfl) c0 (by simp only[List.map_toArray,List.map_cons,List.map_nil];exact HBT.out) ?_)
      |(refine wpList_store_mid (by rfl) 93 (.tmp 3) (.tmp 6) (by rfl) W.heap.size 0 c0 (by rfl) (by rfl) (there_blk (Blk.new W 93 #[.int .i64 0,.string ⟨#[]⟩,.string ⟨#[]⟩,.string ⟨#[]⟩,.string ⟨#[]⟩,.int .i64 0,.int .i64 0,.string ⟨#[]⟩,.string ⟨#[]⟩,.int .i64 0,.slice none 0 0,.slice none 0 0,.string ⟨#[]⟩,.string ⟨#[]⟩,.int .i64 0,.int .i64 0,.string ⟨#[]⟩,.string ⟨#[]⟩,.string ⟨#[]⟩,.string ⟨#[]⟩,.int .i64 0,.slice none 0 0,.slice none 0 0,.string ⟨#[]⟩,.string ⟨#[]⟩,.int .i64 0,.slice none 0 0,.slice none 0 0,.int .i64 0,.int .i64 0]) _ (by have:=HCS.out;simp;omega)) HI.out HO.out ?_;have hV:=stored_new W 93 #[.int .i64 0,.string ⟨#[]⟩,.string ⟨#[]⟩,.string ⟨#[]⟩,.string ⟨#[]⟩,.int .i64 0,.int .i64 0,.string ⟨#[]⟩,.string ⟨#[]⟩,.int .i64 0,.slice none 0 0,.slice none 0 0,.string ⟨#[]⟩,.string ⟨#[]⟩,.int .i64 0,.int .i64 0,.string ⟨#[]⟩,.string ⟨#[]⟩,.string ⟨#[]⟩,.string ⟨#[]⟩,.int .i64 0,.slice none 0 0,.slice none 0 0,.string ⟨#[]⟩,.string ⟨#[]⟩,.int .i64 0,.slice none 0 0,.slice none 0 0,.int .i64 0,.int .i64 0] c0 (by have:=HCS.out;simp;omega);generalize ((W.alloc (.cells #[.int .i64 0,.string ⟨#[]⟩,.string ⟨#[]⟩,.string ⟨#[]⟩,.string ⟨#[]⟩,.int .i64 0,.int .i64 0,.string ⟨#[]⟩,.string ⟨#[]⟩,.int .i64 0,.slice none 0 0,.slice none 0 0,.string ⟨#[]⟩,.string ⟨#[]⟩,.int .i64 0,.int .i64 0,.string ⟨#[]⟩,.string ⟨#[]⟩,.string ⟨#[]⟩,.string ⟨#[]⟩,.int .i64 0,.slice none 0 0,.slice none 0 0,.string ⟨#[]⟩,.string ⟨#[]⟩,.int .i64 0,.slice none 0 0,.slice none 0 0,.int .i64 0,.int .i64 0] 93)).setCells W.heap.size 0 c0.toList)=V at hV⊢;have HX:=Lib.hid (show Blk V W.heap.size 93 (mgA m.k zA zT zR zP zF) from EC.out▸hV.1);replace HK:=Lib.hid (HK.out.below hV.2);replace HR:=Lib.hid (HR.out.below hV.2);replace HG:=Lib.hid (HG.out.trans (hV.2.mono HG.out.size));clear hV HA k0;have HA:=Lib.hid (HP.out.at_ HK.out);have k0:=HA.out.k)
      |(refine load_cells (by rfl) 89 (.tmp 26) (by rfl) w.heap.size 23 (by rfl) pp _ HA.out.p Tryz.underlying89 (by rfl) (by rw[HP.out.p.size];exact ap_info) ?_)
      |(refine wpList_store_mid (by rfl) 89 (.tmp 28) (.tmp 27) (by rfl) W.heap.size 23 pp (by rfl) (by rfl) (there_mid HX.out 23 _ (by rw[(zM_v W 0 m.k).size m.k,HP.out.p.size];omega)) (by rw[HP.out.p.size];exact ap_info) HP.out.p.one ?_;have hX:=blk_mid (ps:=pp) (ds:=mgA m.k zA zT zR pp zF) (pre:=[.int .i64 m.k]++zA.toList++zT.toList++zR.toList) (mid:=zP.toList) (post:=zF.toList) (o:=23) HX.out (by simp [mgA]) (by rfl) (by rw[HP.out.p.size];rfl) (by simp [mgA]);have hpm:=put_mid V W.heap.size 23 pp.toList;generalize V.setCells W.heap.size 23 pp.toList=V2 at hX hpm⊢;replace HX:=Lib.hid hX;replace HR:=Lib.hid (HR.out.grown hpm (by intro e;injection e with e;have:=HWS.out;omega));replace HG:=Lib.hid (below_g HG.out hpm HG.out.size (by have:=HWS.out;omega));clear hX hpm HA HK k0)
      |(refine load_cells (by rfl) 93 (.tmp 3) (by rfl) W.heap.size 0 (by rfl) (mgA m.k zA zT zR pp zF) _ (range_blk HX.out) Tryz.underlying93 (by rfl) HDI.out ?_)
      |(refine wpList_store_mid (by rfl) 93 (.tmp 2) (.tmp 34) (by rfl) (w.heap.size+1) 0 (mgA m.k zA zT zR pp zF) (by rfl) (by rfl) (there_blk HR.out _ (by rw[HM.out.size];have:=HZS.out;omega)) HDI.out (HM.out.one _) ?_)
      |fail)
     have hE:=blk_cells (ds:=mgA m.k zA zT zR pp zF) HR.out (by rw[HM.out.size];have:=HZS.out;omega)
     have hp:=put_cells V2 (w.heap.size+1) (mgA m.k zA zT zR pp zF).toList
     have hq:=load_blk (P:=Tryz.prog) hE Tryz.underlying93 rfl HDI.out
     refine bodyPost_ret (v:=.agg (mgA m.k zA zT zR pp zF)) ?_ ?_ ?_
     ·exact results_cell 2 93 ⟨w.heap.size+1,0,none⟩ Tryz.results190 rfl hq
     ·rfl
     have hB:=below_g HG.out hp HG.out.size (by omega)
     refine⟨_,rfl,?_,hB⟩
     rw[EN.out]
     exact⟨zA,zT,zR,pp,zF,rfl,(HM.out.keep hB).more hB.size⟩
    ·have nm4:=m4
     by_cases m5:m.k=5
     ·have y1:(m.k==1)=false:=by simp;omega
      have y2:(m.k==2)=false:=by simp;omega
      have y3:(m.k==3)=false:=by simp;omega
      have y4:(m.k==4)=false:=by simp;omega
      have y5:(m.k==5)=true:=by simpa using m5
      have EN:=Lib.hid (show nm m=⟨m.k,as0,tg0,re0,ap0,m.fa⟩ by rw[nm,if_neg m1,if_neg m2,if_neg m3,if_neg m4,if_pos m5,m5])
      clear m1 m2 m3 m4 m5
      have HM:=Lib.hid (show MgP w w.heap.size zA zT zR zP pf ⟨m.k,as0,tg0,re0,ap0,m.fa⟩ from⟨zA_v,zT_v w w.heap.size,zR_v w w.heap.size,zP_v w w.heap.size,HP.out.f⟩)
      have HDI:=Lib.hid (show(Tryz.prog.info? 93).map (·.size)=some (mgA m.k zA zT zR zP pf).size by rw[HM.out.size];exact mg_info)
      go_enter Tryz.func190,Tryz.ntmps190
      go_upto_region 1 with fail
      rw[←ezz,←eW]
      clear ezz eW
      go_wp2_with (first
       |(refine wpList_built (by rfl) 93 #[(0,.tmp 5)] (by rfl) c0 (by simp only[List.map_toArray,List.map_cons,List.map_nil];exact HBT.out) ?_)
       |(refine wpList_store_mid (by rfl) 93 (.tmp 3) (.tmp 6) (by rfl) W.heap.size 0 c0 (by rfl) (by rfl) (there_blk (Blk.new W 93 #[.int .i64 0,.string ⟨#[]⟩,.string ⟨#[]⟩,.string ⟨#[]⟩,.string ⟨#[]⟩,.int .i64 0,.int .i64 0,.string ⟨#[]⟩,.string ⟨#[]⟩,.int .i64 0,.slice none 0 0,.slice none 0 0,.string ⟨#[]⟩,.string ⟨#[]⟩,.int .i64 0,.int .i64 0,.string ⟨#[]⟩,.string ⟨#[]⟩,.string ⟨#[]⟩,.string ⟨#[]⟩,.int .i64 0,.slice none 0 0,.slice none 0 0,.string ⟨#[]⟩,.string ⟨#[]⟩,.int .i64 0,.slice none 0 0,.slice none 0 0,.int .i64 0,.int .i64 0]) _ (by have:=HCS.out;simp;omega)) HI.out HO.out ?_;have hV:=stored_new W 93 #[.int .i64 0,.string ⟨#[]⟩,.string ⟨#[]⟩,.string ⟨#[]⟩,.string ⟨#[]⟩,.int .i64 0,.int .i64 0,.string ⟨#[]⟩,.string ⟨#[]⟩,.int .i64 0,.slice none 0 0,.slice none 0 0,.string ⟨#[]⟩,.string ⟨#[]⟩,.int .i64 0,.int .i64 0,.string ⟨#[]⟩,.string ⟨#[]⟩,.string ⟨#[]⟩,.string ⟨#[]⟩,.int .i64 0,.slice none 0 0,.slice none 0 0,.string ⟨#[]⟩,.string ⟨#[]⟩,.int .i64 0,.slice none 0 0,.slice none 0 0,.int .i64 0,.int .i64 0] c0 (by have:=HCS.out;simp;omega);generalize ((W.alloc (.cells #[.int .i64 0,.string ⟨#[]⟩,.string ⟨#[]⟩,.string ⟨#[]⟩,.string ⟨#[]⟩,.int .i64 0,.int .i64 0,.string ⟨#[]⟩,.string ⟨#[]⟩,.int .i64 0,.slice none 0 0,.slice none 0 0,.string ⟨#[]⟩,.string ⟨#[]⟩,.int .i64 0,.int .i64 0,.string ⟨#[]⟩,.string ⟨#[]⟩,.string ⟨#[]⟩,.string ⟨#[]⟩,.int .i64 0,.slice none 0 0,.slice none 0 0,.string ⟨#[]⟩,.string ⟨#[]⟩,.int .i64 0,.slice none 0 0,.slice none 0 0,.int .i64 0,.int .i64 0] 93)).setCells W.heap.size 0 c0.toList)=V at hV⊢;have HX:=Lib.hid (show Blk V W.heap.size 93 (mgA m.k zA zT zR zP zF) from EC.out▸hV.1);replace HK:=Lib.hid (HK.out.below hV.2);replace HR:=Lib.hid (HR.out.below hV.2);replace HG:=Lib.hid (HG.out.trans (hV.2.mono HG.out.size));clear hV HA k0;have HA:=Lib.hid (HP.out.at_ HK.out);have k0:=HA.out.k)
       |(refine load_cells (by rfl) 91 (.tmp 31) (by rfl) w.heap.size 28 (by rfl) pf _ HA.out.f Tryz.underlying91 (by rfl) (by rw[HP.out.f.size];exact fa_info) ?_)
       |(refine wpList_store_mid (by rfl) 91 (.tmp 33) (.tmp 32) (by rfl) W.heap.size 28 pf (by rfl) (by rfl) (there_mid HX.out 28 _ (by rw[(zM_v W 0 m.k).size m.k,HP.out.f.size];omega)) (by rw[HP.out.f.size];exact fa_info) HP.out.f.one ?_;have hX:=blk_mid (ps:=pf) (ds:=mgA m.k zA zT zR zP pf) (pre:=[.int .i64 m.k]++zA.toList++zT.toList++zR.toList++zP.toList) (mid:=zF.toList) (post:=[]) (o:=28) HX.out (by simp [mgA]) (by rfl) (by rw[HP.out.f.size];rfl) (by simp [mgA]);have hpm:=put_mid V W.heap.size 28 pf.toList;generalize V.setCells W.heap.size 28 pf.toList=V2 at hX hpm⊢;replace HX:=Lib.hid hX;replace HR:=Lib.hid (HR.out.grown hpm (by intro e;injection e with e;have:=HWS.out;omega));replace HG:=Lib.hid (below_g HG.out hpm HG.out.size (by have:=HWS.out;omega));clear hX hpm HA HK k0)
       |(refine load_cells (by rfl) 93 (.tmp 3) (by rfl) W.heap.size 0 (by rfl) (mgA m.k zA zT zR zP pf) _ (range_blk HX.out) Tryz.underlying93 (by rfl) HDI.out ?_)
       |(refine wpList_store_mid (by rfl) 93 (.tmp 2) (.tmp 34) (by rfl) (w.heap.size+1) 0 (mgA m.k zA zT zR zP pf) (by rfl) (by rfl) (there_blk HR.out _ (by rw[HM.out.size];have:=HZS.out;omega)) HDI.out (HM.out.one _) ?_)
       |fail)
      have hE:=blk_cells (ds:=mgA m.k zA zT zR zP pf) HR.out (by rw[HM.out.size];have:=HZS.out;omega)
      have hp:=put_cells V2 (w.heap.size+1) (mgA m.k zA zT zR zP pf).toList
      have hq:=load_blk (P:=Tryz.prog) hE Tryz.underlying93 rfl HDI.out
      refine bodyPost_ret (v:=.agg (mgA m.k zA zT zR zP pf)) ?_ ?_ ?_
      ·exact results_cell 2 93 ⟨w.heap.size+1,0,none⟩ Tryz.results190 rfl hq
      ·rfl
      have hB:=below_g HG.out hp HG.out.size (by omega)
      refine⟨_,rfl,?_,hB⟩
      rw[EN.out]
      exact⟨zA,zT,zR,zP,pf,rfl,(HM.out.keep hB).more hB.size⟩
     ·have nm5:=m5
      have y1:(m.k==1)=false:=by simp;omega
      have y2:(m.k==2)=false:=by simp;omega
      have y3:(m.k==3)=false:=by simp;omega
      have y4:(m.k==4)=false:=by simp;omega
      have y5:(m.k==5)=false:=by simp;omega
      have EN:=Lib.hid (show nm m=⟨m.k,as0,tg0,re0,ap0,fa0⟩ by rw[nm,if_neg m1,if_neg m2,if_neg m3,if_neg m4,if_neg m5])
      clear m1 m2 m3 m4 m5
      have HM:=Lib.hid (show MgP w w.heap.size zA zT zR zP zF ⟨m.k,as0,tg0,re0,ap0,fa0⟩ from⟨zA_v,zT_v w w.heap.size,zR_v w w.heap.size,zP_v w w.heap.size,zF_v⟩)
      have HDI:=Lib.hid (show(Tryz.prog.info? 93).map (·.size)=some (mgA m.k zA zT zR zP zF).size by rw[HM.out.size];exact mg_info)
      go_enter Tryz.func190,Tryz.ntmps190
      go_upto_region 1 with fail
      rw[←ezz,←eW]
      clear ezz eW
      go_wp2_with (first
       |(refine wpList_built (by rfl) 93 #[(0,.tmp 5)] (by rfl) c0 (by simp only[List.map_toArray,List.map_cons,List.map_nil];exact HBT.out) ?_)
       |(refine wpList_store_mid (by rfl) 93 (.tmp 3) (.tmp 6) (by rfl) W.heap.size 0 c0 (by rfl) (by rfl) (there_blk (Blk.new W 93 #[.int .i64 0,.string ⟨#[]⟩,.string ⟨#[]⟩,.string ⟨#[]⟩,.string ⟨#[]⟩,.int .i64 0,.int .i64 0,.string ⟨#[]⟩,.string ⟨#[]⟩,.int .i64 0,.slice none 0 0,.slice none 0 0,.string ⟨#[]⟩,.string ⟨#[]⟩,.int .i64 0,.int .i64 0,.string ⟨#[]⟩,.string ⟨#[]⟩,.string ⟨#[]⟩,.string ⟨#[]⟩,.int .i64 0,.slice none 0 0,.slice none 0 0,.string ⟨#[]⟩,.string ⟨#[]⟩,.int .i64 0,.slice none 0 0,.slice none 0 0,.int .i64 0,.int .i64 0]) _ (by have:=HCS.out;simp;omega)) HI.out HO.out ?_;have hV:=stored_new W 93 #[.int .i64 0,.string ⟨#[]⟩,.string ⟨#[]⟩,.string ⟨#[]⟩,.string ⟨#[]⟩,.int .i64 0,.int .i64 0,.string ⟨#[]⟩,.string ⟨#[]⟩,.int .i64 0,.slice none 0 0,.slice none 0 0,.string ⟨#[]⟩,.string ⟨#[]⟩,.int .i64 0,.int .i64 0,.string ⟨#[]⟩,.string ⟨#[]⟩,.string ⟨#[]⟩,.string ⟨#[]⟩,.int .i64 0,.slice none 0 0,.slice none 0 0,.string ⟨#[]⟩,.string ⟨#[]⟩,.int .i64 0,.slice none 0 0,.slice none 0 0,.int .i64 0,.int .i64 0] c0 (by have:=HCS.out;simp;omega);generalize ((W.alloc (.cells #[.int .i64 0,.string ⟨#[]⟩,.string ⟨#[]⟩,.string ⟨#[]⟩,.string ⟨#[]⟩,.int .i64 0,.int .i64 0,.string ⟨#[]⟩,.string ⟨#[]⟩,.int .i64 0,.slice none 0 0,.slice none 0 0,.string ⟨#[]⟩,.string ⟨#[]⟩,.int .i64 0,.int .i64 0,.string ⟨#[]⟩,.string ⟨#[]⟩,.string ⟨#[]⟩,.string ⟨#[]⟩,.int .i64 0,.slice none 0 0,.slice none 0 0,.string ⟨#[]⟩,.string ⟨#[]⟩,.int .i64 0,.slice none 0 0,.slice none 0 0,.int .i64 0,.int .i64 0] 93)).setCells W.heap.size 0 c0.toList)=V at hV⊢;have HX:=Lib.hid (show Blk V W.heap.size 93 (mgA m.k zA zT zR zP zF) from EC.out▸hV.1);replace HK:=Lib.hid (HK.out.below hV.2);replace HR:=Lib.hid (HR.out.below hV.2);replace HG:=Lib.hid (HG.out.trans (hV.2.mono HG.out.size));clear hV HA k0;have HA:=Lib.hid (HP.out.at_ HK.out);have k0:=HA.out.k)
       |(refine load_cells (by rfl) 93 (.tmp 3) (by rfl) W.heap.size 0 (by rfl) (mgA m.k zA zT zR zP zF) _ (range_blk HX.out) Tryz.underlying93 (by rfl) HDI.out ?_)
       |(refine wpList_store_mid (by rfl) 93 (.tmp 2) (.tmp 34) (by rfl) (w.heap.size+1) 0 (mgA m.k zA zT zR zP zF) (by rfl) (by rfl) (there_blk HR.out _ (by rw[HM.out.size];have:=HZS.out;omega)) HDI.out (HM.out.one _) ?_)
       |fail)
      have hE:=blk_cells (ds:=mgA m.k zA zT zR zP zF) HR.out (by rw[HM.out.size];have:=HZS.out;omega)
      have hp:=put_cells V (w.heap.size+1) (mgA m.k zA zT zR zP zF).toList
      have hq:=load_blk (P:=Tryz.prog) hE Tryz.underlying93 rfl HDI.out
      refine bodyPost_ret (v:=.agg (mgA m.k zA zT zR zP zF)) ?_ ?_ ?_
      ·exact results_cell 2 93 ⟨w.heap.size+1,0,none⟩ Tryz.results190 rfl hq
      ·rfl
      have hB:=below_g HG.out hp HG.out.size (by omega)
      refine⟨_,rfl,?_,hB⟩
      rw[EN.out]
      exact⟨zA,zT,zR,zP,zF,rfl,(HM.out.keep hB).more hB.size⟩
end Go.Proofs.YtfcjeebnkigeaaaGreat.Mc
end

section
set_option linter.unusedVariables false
set_option linter.unusedSimpArgs false
namespace Go.Proofs.YtfcjeebnkigeaaaGreat.Mc
open Go.RowKit Go.Proofs.YtfcjeebnkigeaaaGreat.Mem Go.Proofs.YtfcjeebnkigeaaaGreat.DerP Go.Proofs.YtfcjeebnkigeaaaGreat.DerC Go.Proofs.YtfcjeebnkigeaaaGreat.Ms
def OwnN (w:World) (base:Nat) (v:Value) (l:L):Prop:=(v = .slice none 0 0∧l = [])∨OwnB w base v l
section
variable {w w':World} {base base' g:Nat} {v:Value} {l:L} {cs:Array Value}
theorem OwnN.keep (h:OwnN w base v l) (hg:w.grownBy w' (some g)) (hlt:g<base):OwnN w' base v l:=h.imp id fun h=>h.keep hg hlt
theorem OwnN.below (h:OwnN w base v l) (hb:Below w.heap.size w w'):OwnN w' base v l:=h.imp id fun h=>h.below hb
theorem OwnN.less (h:OwnN w base v l) (hb:base'≤base):OwnN w base' v l:=h.imp id fun h=>h.less hb
theorem OwnN.slb (h:OwnN w base v l):SlB w w.heap.size v l:=by
 rcases h with⟨rfl,rfl⟩ | h
 ·exact SlB.nil _ _
 ·exact h.slb
def TgO (w:World) (B:Nat) (cs:Array Value) (q:Tg):Prop:=∃b a,cs=(tgC q b a).toArray∧OwnN w B b q.t.b∧OwnN w B a q.a
def ReO (w:World) (B:Nat) (cs:Array Value) (q:Re):Prop:=∃b a,cs=(reC q b a).toArray∧OwnN w B b q.t.b∧OwnN w B a q.b
def ApO (w:World) (B:Nat) (cs:Array Value) (q:Ap):Prop:=∃b a,cs=(apC q b a).toArray∧OwnN w B b q.t.b∧OwnN w B a q.a
theorem TgO.keep {q:Tg} (h:TgO w base cs q) (hg:w.grownBy w' (some g)) (hlt:g<base):TgO w' base cs q:=by obtain⟨b,a,h1,h2,h3⟩:=h;exact⟨b,a,h1,h2.keep hg hlt,h3.keep hg hlt⟩
theorem TgO.below {q:Tg} (h:TgO w base cs q) (hb:Below w.heap.size w w'):TgO w' base cs q:=by obtain⟨b,a,h1,h2,h3⟩:=h;exact⟨b,a,h1,h2.below hb,h3.below hb⟩
theorem TgO.less {q:Tg} (h:TgO w base cs q) (hb:base'≤base):TgO w base' cs q:=by obtain⟨b,a,h1,h2,h3⟩:=h;exact⟨b,a,h1,h2.less hb,h3.less hb⟩
theorem TgO.toV {q:Tg} (h:TgO w base cs q):TgV w w.heap.size cs q:=by obtain⟨b,a,h1,h2,h3⟩:=h;exact⟨b,a,h1,h2.slb,h3.slb⟩
theorem ReO.keep {q:Re} (h:ReO w base cs q) (hg:w.grownBy w' (some g)) (hlt:g<base):ReO w' base cs q:=by obtain⟨b,a,h1,h2,h3⟩:=h;exact⟨b,a,h1,h2.keep hg hlt,h3.keep hg hlt⟩
theorem ReO.below {q:Re} (h:ReO w base cs q) (hb:Below w.heap.size w w'):ReO w' base cs q:=by obtain⟨b,a,h1,h2,h3⟩:=h;exact⟨b,a,h1,h2.below hb,h3.below hb⟩
theorem ReO.less {q:Re} (h:ReO w base cs q) (hb:base'≤base):ReO w base' cs q:=by obtain⟨b,a,h1,h2,h3⟩:=h;exact⟨b,a,h1,h2.less hb,h3.less hb⟩
theorem ReO.toV {q:Re} (h:ReO w base cs q):ReV w w.heap.size cs q:=by obtain⟨b,a,h1,h2,h3⟩:=h;exact⟨b,a,h1,h2.slb,h3.slb⟩
theorem ApO.keep {q:Ap} (h:ApO w base cs q) (hg:w.grownBy w' (some g)) (hlt:g<base):ApO w' base cs q:=by obtain⟨b,a,h1,h2,h3⟩:=h;exact⟨b,a,h1,h2.keep hg hlt,h3.keep hg hlt⟩
theorem ApO.below {q:Ap} (h:ApO w base cs q) (hb:Below w.heap.size w w'):ApO w' base cs q:=by obtain⟨b,a,h1,h2,h3⟩:=h;exact⟨b,a,h1,h2.below hb,h3.below hb⟩
theorem ApO.less {q:Ap} (h:ApO w base cs q) (hb:base'≤base):ApO w base' cs q:=by obtain⟨b,a,h1,h2,h3⟩:=h;exact⟨b,a,h1,h2.less hb,h3.less hb⟩
theorem ApO.toV {q:Ap} (h:ApO w base cs q):ApV w w.heap.size cs q:=by obtain⟨b,a,h1,h2,h3⟩:=h;exact⟨b,a,h1,h2.slb,h3.slb⟩
structure MpO (w:World) (B:Nat) (pa pt pr pp pf:Array Value) (m:Mg):Prop where
 a:AsV pa m.aq
 t:TgO w B pt m.tg
 r:ReO w B pr m.re
 p:ApO w B pp m.ap
 f:FaV pf m.fa
def MgO (w:World) (B:Nat) (cs:Array Value) (m:Mg):Prop:=∃pa pt pr pp pf,cs=mgA m.k pa pt pr pp pf∧MpO w B pa pt pr pp pf m
variable {pa pt pr pp pf:Array Value} {m:Mg}
theorem MpO.toV (h:MpO w base pa pt pr pp pf m):MgP w w.heap.size pa pt pr pp pf m:=⟨h.a,h.t.toV,h.r.toV,h.p.toV,h.f⟩
theorem MpO.keep (h:MpO w base pa pt pr pp pf m) (hg:w.grownBy w' (some g)) (hlt:g<base):MpO w' base pa pt pr pp pf m:=⟨h.a,h.t.keep hg hlt,h.r.keep hg hlt,h.p.keep hg hlt,h.f⟩
theorem MpO.below (h:MpO w base pa pt pr pp pf m) (hb:Below w.heap.size w w'):MpO w' base pa pt pr pp pf m:=⟨h.a,h.t.below hb,h.r.below hb,h.p.below hb,h.f⟩
theorem MpO.less (h:MpO w base pa pt pr pp pf m) (hb:base'≤base):MpO w base' pa pt pr pp pf m:=⟨h.a,h.t.less hb,h.r.less hb,h.p.less hb,h.f⟩
theorem MgO.toV (h:MgO w base cs m):MgV w w.heap.size cs m:=by obtain⟨pa,pt,pr,pp,pf,h1,h2⟩:=h;exact⟨pa,pt,pr,pp,pf,h1,h2.toV⟩
theorem MgO.keep (h:MgO w base cs m) (hg:w.grownBy w' (some g)) (hlt:g<base):MgO w' base cs m:=by obtain⟨pa,pt,pr,pp,pf,h1,h2⟩:=h;exact⟨pa,pt,pr,pp,pf,h1,h2.keep hg hlt⟩
theorem MgO.below (h:MgO w base cs m) (hb:Below w.heap.size w w'):MgO w' base cs m:=by obtain⟨pa,pt,pr,pp,pf,h1,h2⟩:=h;exact⟨pa,pt,pr,pp,pf,h1,h2.below hb⟩
theorem MgO.less (h:MgO w base cs m) (hb:base'≤base):MgO w base' cs m:=by obtain⟨pa,pt,pr,pp,pf,h1,h2⟩:=h;exact⟨pa,pt,pr,pp,pf,h1,h2.less hb⟩
theorem MgO.size (h:MgO w base cs m):cs.size=30:=by obtain⟨pa,pt,pr,pp,pf,h1,h2⟩:=h;rw[h1];exact h2.toV.size m.k
theorem MgO.one (h:MgO w base cs m):One cs:=by obtain⟨pa,pt,pr,pp,pf,h1,h2⟩:=h;rw[h1];exact h2.toV.one m.k
end
section
variable (g:Nat) (c:Option L) (w:World) (h:Cur w g c) (hs:(c.getD []).length≤100000)
include h hs
end
theorem built_as {ps:Array Value} {q:As} (h:AsV ps q):Tryz.prog.built 93 [(0,.int .i64 1),(1,.agg ps)]=some (mgA 1 ps zT zR zP zF):=by rw[h];kernel_rfl
end Go.Proofs.YtfcjeebnkigeaaaGreat.Mc
end
