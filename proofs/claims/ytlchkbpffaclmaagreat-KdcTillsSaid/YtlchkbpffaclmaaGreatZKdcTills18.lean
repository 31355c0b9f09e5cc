import Derived.Test.YtlchkbpffaclmaaGreatZKdcTills17
set_option maxHeartbeats 25600000
set_option maxRecDepth 100000
set_option linter.unusedVariables false
set_option linter.unusedSimpArgs false
namespace Go.Proofs.YtlchkbpffaclmaaGreat
namespace Mc
open Go.RowKit Af DerP DerC Ms
def zA:Array Value:=(asC as0).toArray
def zT:Array Value:=(tgC tg0 (.slice none 0 0) (.slice none 0 0)).toArray
def zR:Array Value:=(reC re0 (.slice none 0 0) (.slice none 0 0)).toArray
def zP:Array Value:=(apC ap0 (.slice none 0 0) (.slice none 0 0)).toArray
def zF:Array Value:=(faC fa0).toArray
theorem zA_v:AsV zA as0:=rfl
theorem zF_v:FaV zF fa0:=rfl
theorem zT_v (w:World) (B:Nat):TgV w B zT tg0:=⟨_,_,rfl,SlB.nil w B,SlB.nil w B⟩
theorem zR_v (w:World) (B:Nat):ReV w B zR re0:=⟨_,_,rfl,SlB.nil w B,SlB.nil w B⟩
theorem zP_v (w:World) (B:Nat):ApV w B zP ap0:=⟨_,_,rfl,SlB.nil w B,SlB.nil w B⟩
theorem zM_v (w:World) (B:Nat) (k:Int):MgP w B zA zT zR zP zF ⟨k,as0,tg0,re0,ap0,fa0⟩:=⟨zA_v,zT_v w B,zR_v w B,zP_v w B,zF_v⟩
def nm (m:Mg):Mg:=if m.k=1 then ⟨1,m.aq,tg0,re0,ap0,fa0⟩ else if m.k=2 then ⟨2,as0,m.tg,re0,ap0,fa0⟩ else if m.k=3 then ⟨3,as0,tg0,m.re,ap0,fa0⟩ else if m.k=4 then ⟨4,as0,tg0,re0,m.ap,fa0⟩ else if m.k=5 then ⟨5,as0,tg0,re0,ap0,m.fa⟩ else ⟨m.k,as0,tg0,re0,ap0,fa0⟩
theorem Vj (k:Int):Tryz.prog.built 91 [(0,.int .i64 k)]=some (mgA k zA zT zR zP zF):=by kernel_rfl
theorem Te (cs:Array Value) (m:Mg) (w:World) (h:MgV w w.heap.size cs m):Calls Tryz.prog 140 #[.agg cs] w fun e w'=>∃ds,e=.returned (.agg ds)/\MgV w' w'.heap.size ds (nm m)/\Below w.heap.size w w':=by
 obtain⟨pa,pt,pr,pp,pf,hc,hp⟩:=h;obtain⟨zz,ezz⟩:∃z:Array Value,z=#[.int .i64 0,.string ⟨#[]⟩,.string ⟨#[]⟩,.string ⟨#[]⟩,.string ⟨#[]⟩,.int .i64 0,.int .i64 0,.string ⟨#[]⟩,.string ⟨#[]⟩,.int .i64 0,.slice none 0 0,.slice none 0 0,.string ⟨#[]⟩,.string ⟨#[]⟩,.int .i64 0,.int .i64 0,.string ⟨#[]⟩,.string ⟨#[]⟩,.string ⟨#[]⟩,.string ⟨#[]⟩,.int .i64 0,.slice none 0 0,.slice none 0 0,.string ⟨#[]⟩,.string ⟨#[]⟩,.int .i64 0,.slice none 0 0,.slice none 0 0,.int .i64 0,.int .i64 0]:=⟨_,rfl⟩;have ez0:zz=mgA 0 zA zT zR zP zF:=by rw[ezz];rfl
 have hzs:zz.size=30:=by rw[ez0];exact(zM_v w 0 0).size 0
 have HZS:=I hzs;obtain⟨W,eW⟩:=Ak ((w.alloc (.cells cs 91)).alloc (.cells zz 91));have hWs:W.heap.size=w.heap.size+1+1:=by rw[eW];simp
 have HK:=I (show Blk W w.heap.size 91 (mgA m.k pa pt pr pp pf) by rw[eW,<-hc];exact(Blk.new _ _ _).alloc _);have hq:=Blk.new (w.alloc (.cells cs 91)) 91 zz;rw[show(w.alloc (.cells cs 91)).heap.size=w.heap.size+1 by simp,<-eW] at hq;have HR:=I hq;clear hq;have HG:=I (show Below w.heap.size w W by rw[eW];exact(Ah.alloc Ag _).alloc (by simp) _);have HA:=I (hp.at_ HK.o);have k0:=HA.o.k;have HP:=I hp;have HWS:=I hWs;have HBT:=I (Vj m.k);obtain⟨c0,ec0⟩:∃c,c=mgA m.k zA zT zR zP zF:=⟨_,rfl⟩;have hc0:c0.size=30:=by rw[ec0];exact(zM_v w 0 m.k).size m.k
 have HO:=I (show c0.all (·.oneCell')=true by rw[ec0];exact(zM_v w 0 m.k).one m.k);have HI:=I (show(Tryz.prog.info? 91).map (·.size)=some c0.size by rw[hc0];exact Dv);have HCS:=I hc0;rw[<-ec0] at HBT;have EC:=I ec0;clear hc hp hWs hzs hc0 ec0 ez0
 by_cases m1:m.k=1
 ·have y1:(m.k==1)=true:=by simpa using m1
  have y2:(m.k==2)=false:=by simp;omega
  have y3:(m.k==3)=false:=by simp;omega
  have y4:(m.k==4)=false:=by simp;omega
  have y5:(m.k==5)=false:=by simp;omega
  have EN:=I (show nm m=⟨m.k,m.aq,tg0,re0,ap0,fa0⟩ by rw[nm,if_pos m1,m1]);clear m1;have HM:=I (show MgP w w.heap.size pa zT zR zP zF ⟨m.k,m.aq,tg0,re0,ap0,fa0⟩ from⟨HP.o.a,zT_v w w.heap.size,zR_v w w.heap.size,zP_v w w.heap.size,zF_v⟩);have HDI:=I (show(Tryz.prog.info? 91).map (·.size)=some (mgA m.k pa zT zR zP zF).size by rw[HM.o.size];exact Dv);go_enter Tryz.func140,Tryz.ntmps140
  go_upto_region 1 with fail
  rw[<-ezz,<-eW];clear ezz eW
  go_wp2_with (first
   |(refine AA (by rfl) 91 #[(0,.tmp 5)] (by rfl) c0 (by simp only[List.map_toArray,List.map_cons,List.map_nil];exact HBT.o) ?_)
   |(refine wpList_store_mid (by rfl) 91 (.tmp 3) (.tmp 6) (by rfl) W.heap.size 0 c0 (by rfl) (by rfl) (Ar (Blk.new W 91 #[.int .i64 0,.string ⟨#[]⟩,.string ⟨#[]⟩,.string ⟨#[]⟩,.string ⟨#[]⟩,.int .i64 0,.int .i64 0,.string ⟨#[]⟩,.string ⟨#[]⟩,.int .i64 0,.slice none 0 0,.slice none 0 0,.string ⟨#[]⟩,.string ⟨#[]⟩,.int .i64 0,.int .i64 0,.string ⟨#[]⟩,.string ⟨#[]⟩,.string ⟨#[]⟩,.string ⟨#[]⟩,.int .i64 0,.slice none 0 0,.slice none 0 0,.string ⟨#[]⟩,.string ⟨#[]⟩,.int .i64 0,.slice none 0 0,.slice none 0 0,.int .i64 0,.int .i64 0]) _ (by have:=HCS.o;simp;omega)) HI.o HO.o ?_;have hV:=Bc W 91 #[.int .i64 0,.string ⟨#[]⟩,.string ⟨#[]⟩,.string ⟨#[]⟩,.string ⟨#[]⟩,.int .i64 0,.int .i64 0,.string ⟨#[]⟩,.string ⟨#[]⟩,.int .i64 0,.slice none 0 0,.slice none 0 0,.string ⟨#[]⟩,.string ⟨#[]⟩,.int .i64 0,.int .i64 0,.string ⟨#[]⟩,.string ⟨#[]⟩,.string ⟨#[]⟩,.string ⟨#[]⟩,.int .i64 0,.slice none 0 0,.slice none 0 0,.string ⟨#[]⟩,.string ⟨#[]⟩,.int .i64 0,.slice none 0 0,.slice none 0 0,.int .i64 0,.int .i64 0] c0 (by have:=HCS.o;simp;omega);generalize ((W.alloc (.cells #[.int .i64 0,.string ⟨#[]⟩,.string ⟨#[]⟩,.string ⟨#[]⟩,.string ⟨#[]⟩,.int .i64 0,.int .i64 0,.string ⟨#[]⟩,.string ⟨#[]⟩,.int .i64 0,.slice none 0 0,.slice none 0 0,.string ⟨#[]⟩,.string ⟨#[]⟩,.int .i64 0,.int .i64 0,.string ⟨#[]⟩,.string ⟨#[]⟩,.string ⟨#[]⟩,.string ⟨#[]⟩,.int .i64 0,.slice none 0 0,.slice none 0 0,.string ⟨#[]⟩,.string ⟨#[]⟩,.int .i64 0,.slice none 0 0,.slice none 0 0,.int .i64 0,.int .i64 0] 91)).setCells W.heap.size 0 c0.toList)=V at hV⊢;have HX:=I (show Blk V W.heap.size 91 (mgA m.k zA zT zR zP zF) from EC.o▸hV.1);replace HK:=I (HK.o.below hV.2);replace HR:=I (HR.o.below hV.2);replace HG:=I (HG.o.trans (hV.2.mono HG.o.size));clear hV HA k0;have HA:=I (HP.o.at_ HK.o);have k0:=HA.o.k)
   |(refine Am (by rfl) 85 (.tmp 11) (by rfl) w.heap.size 1 (by rfl) pa _ HA.o.a Tryz.underlying85 (by rfl) (by rw[HP.o.a.size];exact Cd) ?_)
   |(refine wpList_store_mid (by rfl) 85 (.tmp 13) (.tmp 12) (by rfl) W.heap.size 1 pa (by rfl) (by rfl) (Ci HX.o 1 _ (by rw[(zM_v W 0 m.k).size m.k,HP.o.a.size];omega)) (by rw[HP.o.a.size];exact Cd) HP.o.a.one ?_;have hX:=Et (ps:=pa) (ds:=mgA m.k pa zT zR zP zF) (pre:=[.int .i64 m.k]) (mid:=zA.toList) (post:=zT.toList++zR.toList++zP.toList++zF.toList) (o:=1) HX.o (by simp [mgA]) (by rfl) (by rw[HP.o.a.size];rfl) (by simp [mgA]);have hpm:=DR V W.heap.size 1 pa.toList;generalize V.setCells W.heap.size 1 pa.toList=V2 at hX hpm⊢;replace HX:=I hX;replace HR:=I (HR.o.grown hpm (by intro e;injection e with e;have:=HWS.o;omega));replace HG:=I (Av HG.o hpm HG.o.size (by have:=HWS.o;omega));clear hX hpm HA HK k0)
   |(refine Am (by rfl) 91 (.tmp 3) (by rfl) W.heap.size 0 (by rfl) (mgA m.k pa zT zR zP zF) _ (Ae HX.o) Tryz.underlying91 (by rfl) HDI.o ?_)
   |(refine wpList_store_mid (by rfl) 91 (.tmp 2) (.tmp 34) (by rfl) (w.heap.size+1) 0 (mgA m.k pa zT zR zP zF) (by rfl) (by rfl) (Ar HR.o _ (by rw[HM.o.size];have:=HZS.o;omega)) HDI.o (HM.o.one _) ?_)
   |fail)
  have hE:=AG (ds:=mgA m.k pa zT zR zP zF) HR.o (by rw[HM.o.size];have:=HZS.o;omega);have hp:=AM V2 (w.heap.size+1) (mgA m.k pa zT zR zP zF).toList;have hq:=Al (P:=Tryz.prog) hE Tryz.underlying91 rfl HDI.o;refine bodyPost_ret (v:=.agg (mgA m.k pa zT zR zP zF)) ?_ ?_ ?_
  ·exact Au 2 91 ⟨w.heap.size+1,0,none⟩ Tryz.results140 rfl hq
  ·rfl
  have hB:=Av HG.o hp HG.o.size (by omega);refine⟨_,rfl,?_,hB⟩;rw[EN.o];exact⟨pa,zT,zR,zP,zF,rfl,(HM.o.keep hB).more hB.size⟩
 ·have nm1:=m1
  by_cases m2:m.k=2
  ·have y1:(m.k==1)=false:=by simp;omega
   have y2:(m.k==2)=true:=by simpa using m2
   have y3:(m.k==3)=false:=by simp;omega
   have y4:(m.k==4)=false:=by simp;omega
   have y5:(m.k==5)=false:=by simp;omega
   have EN:=I (show nm m=⟨m.k,as0,m.tg,re0,ap0,fa0⟩ by rw[nm,if_neg m1,if_pos m2,m2]);clear m1 m2;have HM:=I (show MgP w w.heap.size zA pt zR zP zF ⟨m.k,as0,m.tg,re0,ap0,fa0⟩ from⟨zA_v,HP.o.t,zR_v w w.heap.size,zP_v w w.heap.size,zF_v⟩);have HDI:=I (show(Tryz.prog.info? 91).map (·.size)=some (mgA m.k zA pt zR zP zF).size by rw[HM.o.size];exact Dv);go_enter Tryz.func140,Tryz.ntmps140
   go_upto_region 1 with fail
   rw[<-ezz,<-eW];clear ezz eW
   go_wp2_with (first
    |(refine AA (by rfl) 91 #[(0,.tmp 5)] (by rfl) c0 (by simp only[List.map_toArray,List.map_cons,List.map_nil];exact HBT.o) ?_)
    |(refine wpList_store_mid (by rfl) 91 (.tmp 3) (.tmp 6) (by rfl) W.heap.size 0 c0 (by rfl) (by rfl) (Ar (Blk.new W 91 #[.int .i64 0,.string ⟨#[]⟩,.string ⟨#[]⟩,.string ⟨#[]⟩,.string ⟨#[]⟩,.int .i64 0,.int .i64 0,.string ⟨#[]⟩,.string ⟨#[]⟩,.int .i64 0,.slice none 0 0,.slice none 0 0,.string ⟨#[]⟩,.string ⟨#[]⟩,.int .i64 0,.int .i64 0,.string ⟨#[]⟩,.string ⟨#[]⟩,.string ⟨#[]⟩,.string ⟨#[]⟩,.int .i64 0,.slice none 0 0,.slice none 0 0,.string ⟨#[]⟩,.string ⟨#[]⟩,.int .i64 0,.slice none 0 0,.slice none 0 0,.int .i64 0,.int .i64 0]) _ (by have:=HCS.o;simp;omega)) HI.o HO.o ?_;have hV:=Bc W 91 #[.int .i64 0,.string ⟨#[]⟩,.string ⟨#[]⟩,.string ⟨#[]⟩,.string ⟨#[]⟩,.int .i64 0,.int .i64 0,.string ⟨#[]⟩,.string ⟨#[]⟩,.int .i64 0,.slice none 0 0,.slice none 0 0,.string ⟨#[]⟩,.string ⟨#[]⟩,.int .i64 0,.int .i64 0,.string ⟨#[]⟩,.string ⟨#[]⟩,.string ⟨#[]⟩,.string ⟨#[]⟩,.int .i64 0,.slice none 0 0,.slice none 0 0,.string ⟨#[]⟩,.string ⟨#[]⟩,.int .i64 0,.slice none 0 0,.slice none 0 0,.int .i64 0,.int .i64 0] c0 (by have:=HCS.o;simp;omega);generalize ((W.alloc (.cells #[.int .i64 0,.string ⟨#[]⟩,.string ⟨#[]⟩,.string ⟨#[]⟩,.string ⟨#[]⟩,.int .i64 0,.int .i64 0,.string ⟨#[]⟩,.string ⟨#[]⟩,.int .i64 0,.slice none 0 0,.slice none 0 0,.string ⟨#[]⟩,.string ⟨#[]⟩,.int .i64 0,.int .i64 0,.string ⟨#[]⟩,.string ⟨#[]⟩,.string ⟨#[]⟩,.string ⟨#[]⟩,.int .i64 0,.slice none 0 0,.slice none 0 0,.string ⟨#[]⟩,.string ⟨#[]⟩,.int .i64 0,.slice none 0 0,.slice none 0 0,.int .i64 0,.int .i64 0] 91)).setCells W.heap.size 0 c0.toList)=V at hV⊢;have HX:=I (show Blk V W.heap.size 91 (mgA m.k zA zT zR zP zF) from EC.o▸hV.1);replace HK:=I (HK.o.below hV.2);replace HR:=I (HR.o.below hV.2);replace HG:=I (HG.o.trans (hV.2.mono HG.o.size));clear hV HA k0;have HA:=I (HP.o.at_ HK.o);have k0:=HA.o.k)
    |(refine Am (by rfl) 30 (.tmp 16) (by rfl) w.heap.size 7 (by rfl) pt _ HA.o.t Tryz.underlying30 (by rfl) (by rw[HP.o.t.size];exact Bs) ?_)
    |(refine wpList_store_mid (by rfl) 30 (.tmp 18) (.tmp 17) (by rfl) W.heap.size 7 pt (by rfl) (by rfl) (Ci HX.o 7 _ (by rw[(zM_v W 0 m.k).size m.k,HP.o.t.size];omega)) (by rw[HP.o.t.size];exact Bs) HP.o.t.one ?_;have hX:=Et (ps:=pt) (ds:=mgA m.k zA pt zR zP zF) (pre:=[.int .i64 m.k]++zA.toList) (mid:=zT.toList) (post:=zR.toList++zP.toList++zF.toList) (o:=7) HX.o (by simp [mgA]) (by rfl) (by rw[HP.o.t.size];rfl) (by simp [mgA]);have hpm:=DR V W.heap.size 7 pt.toList;generalize V.setCells W.heap.size 7 pt.toList=V2 at hX hpm⊢;replace HX:=I hX;replace HR:=I (HR.o.grown hpm (by intro e;injection e with e;have:=HWS.o;omega));replace HG:=I (Av HG.o hpm HG.o.size (by have:=HWS.o;omega));clear hX hpm HA HK k0)
    |(refine Am (by rfl) 91 (.tmp 3) (by rfl) W.heap.size 0 (by rfl) (mgA m.k zA pt zR zP zF) _ (Ae HX.o) Tryz.underlying91 (by rfl) HDI.o ?_)
    |(refine wpList_store_mid (by rfl) 91 (.tmp 2) (.tmp 34) (by rfl) (w.heap.size+1) 0 (mgA m.k zA pt zR zP zF) (by rfl) (by rfl) (Ar HR.o _ (by rw[HM.o.size];have:=HZS.o;omega)) HDI.o (HM.o.one _) ?_)
    |fail)
   have hE:=AG (ds:=mgA m.k zA pt zR zP zF) HR.o (by rw[HM.o.size];have:=HZS.o;omega);have hp:=AM V2 (w.heap.size+1) (mgA m.k zA pt zR zP zF).toList;have hq:=Al (P:=Tryz.prog) hE Tryz.underlying91 rfl HDI.o;refine bodyPost_ret (v:=.agg (mgA m.k zA pt zR zP zF)) ?_ ?_ ?_
   ·exact Au 2 91 ⟨w.heap.size+1,0,none⟩ Tryz.results140 rfl hq
   ·rfl
   have hB:=Av HG.o hp HG.o.size (by omega);refine⟨_,rfl,?_,hB⟩;rw[EN.o];exact⟨zA,pt,zR,zP,zF,rfl,(HM.o.keep hB).more hB.size⟩
  ·have nm2:=m2
   by_cases m3:m.k=3
   ·have y1:(m.k==1)=false:=by simp;omega
    have y2:(m.k==2)=false:=by simp;omega
    have y3:(m.k==3)=true:=by simpa using m3
    have y4:(m.k==4)=false:=by simp;omega
    have y5:(m.k==5)=false:=by simp;omega
    have EN:=I (show nm m=⟨m.k,as0,tg0,m.re,ap0,fa0⟩ by rw[nm,if_neg m1,if_neg m2,if_pos m3,m3]);clear m1 m2 m3;have HM:=I (show MgP w w.heap.size zA zT pr zP zF ⟨m.k,as0,tg0,m.re,ap0,fa0⟩ from⟨zA_v,zT_v w w.heap.size,HP.o.r,zP_v w w.heap.size,zF_v⟩);have HDI:=I (show(Tryz.prog.info? 91).map (·.size)=some (mgA m.k zA zT pr zP zF).size by rw[HM.o.size];exact Dv);go_enter Tryz.func140,Tryz.ntmps140
    go_upto_region 1 with fail
    rw[<-ezz,<-eW];clear ezz eW
    go_wp2_with (first
     |(refine AA (by rfl) 91 #[(0,.tmp 5)] (by rfl) c0 (by simp only[List.map_toArray,List.map_cons,List.map_nil];exact HBT.o) ?_)
     |(refine wpList_store_mid (by rfl) 91 (.tmp 3) (.tmp 6) (by rfl) W.heap.size 0 c0 (by rfl) (by rfl) (Ar (Blk.new W 91 #[.int .i64 0,.string ⟨#[]⟩,.string ⟨#[]⟩,.string ⟨#[]⟩,.string ⟨#[]⟩,.int .i64 0,.int .i64 0,.string ⟨#[]⟩,.string ⟨#[]⟩,.int .i64 0,.slice none 0 0,.slice none 0 0,.string ⟨#[]⟩,.string ⟨#[]⟩,.int .i64 0,.int .i64 0,.string ⟨#[]⟩,.string ⟨#[]⟩,.string ⟨#[]⟩,.string ⟨#[]⟩,.int .i64 0,.slice none 0 0,.slice none 0 0,.string ⟨#[]⟩,.string ⟨#[]⟩,.int .i64 0,.slice none 0 0,.slice none 0 0,.int .i64 0,.int .i64 0]) _ (by have:=HCS.o;simp;omega)) HI.o HO.o ?_;have hV:=Bc W 91 #[.int .i64 0,.string ⟨#[]⟩,.string ⟨#[]⟩,.string ⟨#[]⟩,.string ⟨#[]⟩,.int .i64 0,.int .i64 0,.string ⟨#[]⟩,.string ⟨#[]⟩,.int .i64 0,.slice none 0 0,.slice none 0 0,.string ⟨#[]⟩,.string ⟨#[]⟩,.int .i64 0,.int .i64 0,.string ⟨#[]⟩,.string ⟨#[]⟩,.string ⟨#[]⟩,.string ⟨#[]⟩,.int .i64 0,.slice none 0 0,.slice none 0 0,.string ⟨#[]⟩,.string ⟨#[]⟩,.int .i64 0,.slice none 0 0,.slice none 0 0,.int .i64 0,.int .i64 0] c0 (by have:=HCS.o;simp;omega);generalize ((W.alloc (.cells #[.int .i64 0,.string ⟨#[]⟩,.string ⟨#[]⟩,.string ⟨#[]⟩,.string ⟨#[]⟩,.int .i64 0,.int .i64 0,.string ⟨#[]⟩,.string ⟨#[]⟩,.int .i64 0,.slice none 0 0,.slice none 0 0,.string ⟨#[]⟩,.string ⟨#[]⟩,.int .i64 0,.int .i64 0,.string ⟨#[]⟩,.string ⟨#[]⟩,.string ⟨#[]⟩,.string ⟨#[]⟩,.int .i64 0,.slice none 0 0,.slice none 0 0,.string ⟨#[]⟩,.string ⟨#[]⟩,.int .i64 0,.slice none 0 0,.slice none 0 0,.int .i64 0,.int .i64 0] 91)).setCells W.heap.size 0 c0.toList)=V at hV⊢;have HX:=I (show Blk V W.heap.size 91 (mgA m.k zA zT zR zP zF) from EC.o▸hV.1);replace HK:=I (HK.o.below hV.2);replace HR:=I (HR.o.below hV.2);replace HG:=I (HG.o.trans (hV.2.mono HG.o.size));clear hV HA k0;have HA:=I (HP.o.at_ HK.o);have k0:=HA.o.k)
     |(refine Am (by rfl) 43 (.tmp 21) (by rfl) w.heap.size 16 (by rfl) pr _ HA.o.r Tryz.underlying43 (by rfl) (by rw[HP.o.r.size];exact AK) ?_)
     |(refine wpList_store_mid (by rfl) 43 (.tmp 23) (.tmp 22) (by rfl) W.heap.size 16 pr (by rfl) (by rfl) (Ci HX.o 16 _ (by rw[(zM_v W 0 m.k).size m.k,HP.o.r.size];omega)) (by rw[HP.o.r.size];exact AK) HP.o.r.one ?_;have hX:=Et (ps:=pr) (ds:=mgA m.k zA zT pr zP zF) (pre:=[.int .i64 m.k]++zA.toList++zT.toList) (mid:=zR.toList) (post:=zP.toList++zF.toList) (o:=16) HX.o (by simp [mgA]) (by rfl) (by rw[HP.o.r.size];rfl) (by simp [mgA]);have hpm:=DR V W.heap.size 16 pr.toList;generalize V.setCells W.heap.size 16 pr.toList=V2 at hX hpm⊢;replace HX:=I hX;replace HR:=I (HR.o.grown hpm (by intro e;injection e with e;have:=HWS.o;omega));replace HG:=I (Av HG.o hpm HG.o.size (by have:=HWS.o;omega));clear hX hpm HA HK k0)
     |(refine Am (by rfl) 91 (.tmp 3) (by rfl) W.heap.size 0 (by rfl) (mgA m.k zA zT pr zP zF) _ (Ae HX.o) Tryz.underlying91 (by rfl) HDI.o ?_)
     |(refine wpList_store_mid (by rfl) 91 (.tmp 2) (.tmp 34) (by rfl) (w.heap.size+1) 0 (mgA m.k zA zT pr zP zF) (by rfl) (by rfl) (Ar HR.o _ (by rw[HM.o.size];have:=HZS.o;omega)) HDI.o (HM.o.one _) ?_)
     |fail)
    have hE:=AG (ds:=mgA m.k zA zT pr zP zF) HR.o (by rw[HM.o.size];have:=HZS.o;omega);have hp:=AM V2 (w.heap.size+1) (mgA m.k zA zT pr zP zF).toList;have hq:=Al (P:=Tryz.prog) hE Tryz.underlying91 rfl HDI.o;refine bodyPost_ret (v:=.agg (mgA m.k zA zT pr zP zF)) ?_ ?_ ?_
    ·exact Au 2 91 ⟨w.heap.size+1,0,none⟩ Tryz.results140 rfl hq
    ·rfl
    have hB:=Av HG.o hp HG.o.size (by omega);refine⟨_,rfl,?_,hB⟩;rw[EN.o];exact⟨zA,zT,pr,zP,zF,rfl,(HM.o.keep hB).more hB.size⟩
   ·have nm3:=m3
    by_cases m4:m.k=4
    ·have y1:(m.k==1)=false:=by simp;omega
     have y2:(m.k==2)=false:=by simp;omega
     have y3:(m.k==3)=false:=by simp;omega
     have y4:(m.k==4)=true:=by simpa using m4
     have y5:(m.k==5)=false:=by simp;omega
     have EN:=I (show nm m=⟨m.k,as0,tg0,re0,m.ap,fa0⟩ by rw[nm,if_neg m1,if_neg m2,if_neg m3,if_pos m4,m4]);clear m1 m2 m3 m4;have HM:=I (show MgP w w.heap.size zA zT zR pp zF ⟨m.k,as0,tg0,re0,m.ap,fa0⟩ from⟨zA_v,zT_v w w.heap.size,zR_v w w.heap.size,HP.o.p,zF_v⟩);have HDI:=I (show(Tryz.prog.info? 91).map (·.size)=some (mgA m.k zA zT zR pp zF).size by rw[HM.o.size];exact Dv);go_enter Tryz.func140,Tryz.ntmps140
     go_upto_region 1 with fail
     rw[<-ezz,<-eW];clear ezz eW
     go_wp2_with (first
      |(refine AA (by rfl) 91 #[(0,.tmp 5)] (by rfl) c0 (by simp only[List.map_toArray,List.map_cons,List.map_nil];exact HBT.o) ?_)
      |(refine wpList_store_mid (by rfl) 91 (.tmp 3) (.tmp 6) (by rfl) W.heap.size 0 c0 (by rfl) (by rfl) (Ar (Blk.new W 91 #[.int .i64 0,.string ⟨#[]⟩,.string ⟨#[]⟩,.string ⟨#[]⟩,.string ⟨#[]⟩,.int .i64 0,.int .i64 0,.string ⟨#[]⟩,.string ⟨#[]⟩,.int .i64 0,.slice none 0 0,.slice none 0 0,.string ⟨#[]⟩,.string ⟨#[]⟩,.int .i64 0,.int .i64 0,.string ⟨#[]⟩,.string ⟨#[]⟩,.string ⟨#[]⟩,.string ⟨#[]⟩,.int .i64 0,.slice none 0 0,.slice none 0 0,.string ⟨#[]⟩,.string ⟨#[]⟩,.int .i64 0,.slice none 0 0,.slice none 0 0,.int .i64 0,.int .i64 0]) _ (by have:=HCS.o;simp;omega)) HI.o HO.o ?_;have hV:=Bc W 91 #[.int .i64 0,.string ⟨#[]⟩,.string ⟨#[]⟩,.string ⟨#[]⟩,.string ⟨#[]⟩,.int .i64 0,.int .i64 0,.string ⟨#[]⟩,.string ⟨#[]⟩,.int .i64 0,.slice none 0 0,.slice none 0 0,.string ⟨#[]⟩,.string ⟨#[]⟩,.int .i64 0,.int .i64 0,.string ⟨#[]⟩,.string ⟨#[]⟩,.string ⟨#[]⟩,.string ⟨#[]⟩,.int .i64 0,.slice none 0 0,.slice none 0 0,.string ⟨#[]⟩,.string ⟨#[]⟩,.int .i64 0,.slice none 0 0,.slice none 0 0,.int .i64 0,.int .i64 0] c0 (by have:=HCS.o;simp;omega);generalize ((W.alloc (.cells #[.int .i64 0,.string ⟨#[]⟩,.string ⟨#[]⟩,.string ⟨#[]⟩,.string ⟨#[]⟩,.int .i64 0,.int .i64 0,.string ⟨#[]⟩,.string ⟨#[]⟩,.int .i64 0,.slice none 0 0,.slice none 0 0,.string ⟨#[]⟩,.string ⟨#[]⟩,.int .i64 0,.int .i64 0,.string ⟨#[]⟩,.string ⟨#[]⟩,.string ⟨#[]⟩,.string ⟨#[]⟩,.int .i64 0,.slice none 0 0,.slice none 0 0,.string ⟨#[]⟩,.string ⟨#[]⟩,.int .i64 0,.slice none 0 0,.slice none 0 0,.int .i64 0,.int .i64 0] 91)).setCells W.heap.size 0 c0.toList)=V at hV⊢;have HX:=I (show Blk V W.heap.size 91 (mgA m.k zA zT zR zP zF) from EC.o▸hV.1);replace HK:=I (HK.o.below hV.2);replace HR:=I (HR.o.below hV.2);replace HG:=I (HG.o.trans (hV.2.mono HG.o.size));clear hV HA k0;have HA:=I (HP.o.at_ HK.o);have k0:=HA.o.k)
      |(refine Am (by rfl) 87 (.tmp 26) (by rfl) w.heap.size 23 (by rfl) pp _ HA.o.p Tryz.underlying87 (by rfl) (by rw[HP.o.p.size];exact DU) ?_)
      |(refine wpList_store_mid (by rfl) 87 (.tmp 28) (.tmp 27) (by rfl) W.heap.size 23 pp (by rfl) (by rfl) (Ci HX.o 23 _ (by rw[(zM_v W 0 m.k).size m.k,HP.o.p.size];omega)) (by rw[HP.o.p.size];exact DU) HP.o.p.one ?_;have hX:=Et (ps:=pp) (ds:=mgA m.k zA zT zR pp zF) (pre:=[.int .i64 m.k]++zA.toList++zT.toList++zR.toList) (mid:=zP.toList) (post:=zF.toList) (o:=23) HX.o (by simp [mgA]) (by rfl) (by rw[HP.o.p.size];rfl) (by simp [mgA]);have hpm:=DR V W.heap.size 23 pp.toList;generalize V.setCells W.heap.size 23 pp.toList=V2 at hX hpm⊢;replace HX:=I hX;replace HR:=I (HR.o.grown hpm (by intro e;injection e with e;have:=HWS.o;omega));replace HG:=I (Av HG.o hpm HG.o.size (by have:=HWS.o;omega));clear hX hpm HA HK k0)
      |(refine Am (by rfl) 91 (.tmp 3) (by rfl) W.heap.size 0 (by rfl) (mgA m.k zA zT zR pp zF) _ (Ae HX.o) Tryz.underlying91 (by rfl) HDI.o ?_)
      |(refine wpList_store_mid (by rfl) 91 (.tmp 2) (.tmp 34) (by rfl) (w.heap.size+1) 0 (mgA m.k zA zT zR pp zF) (by rfl) (by rfl) (Ar HR.o _ (by rw[HM.o.size];have:=HZS.o;omega)) HDI.o (HM.o.one _) ?_)
      |fail)
     have hE:=AG (ds:=mgA m.k zA zT zR pp zF) HR.o (by rw[HM.o.size];have:=HZS.o;omega);have hp:=AM V2 (w.heap.size+1) (mgA m.k zA zT zR pp zF).toList;have hq:=Al (P:=Tryz.prog) hE Tryz.underlying91 rfl HDI.o;refine bodyPost_ret (v:=.agg (mgA m.k zA zT zR pp zF)) ?_ ?_ ?_
     ·exact Au 2 91 ⟨w.heap.size+1,0,none⟩ Tryz.results140 rfl hq
     ·rfl
     have hB:=Av HG.o hp HG.o.size (by omega);refine⟨_,rfl,?_,hB⟩;rw[EN.o];exact⟨zA,zT,zR,pp,zF,rfl,(HM.o.keep hB).more hB.size⟩
    ·have nm4:=m4
     by_cases m5:m.k=5
     ·have y1:(m.k==1)=false:=by simp;omega
      have y2:(m.k==2)=false:=by simp;omega
      have y3:(m.k==3)=false:=by simp;omega
      have y4:(m.k==4)=false:=by simp;omega
      have y5:(m.k==5)=true:=by simpa using m5
      have EN:=I (show nm m=⟨m.k,as0,tg0,re0,ap0,m.fa⟩ by rw[nm,if_neg m1,if_neg m2,if_neg m3,if_neg m4,if_pos m5,m5]);clear m1 m2 m3 m4 m5;have HM:=I (show MgP w w.heap.size zA zT zR zP pf ⟨m.k,as0,tg0,re0,ap0,m.fa⟩ from⟨zA_v,zT_v w w.heap.size,zR_v w w.heap.size,zP_v w w.heap.size,HP.o.f⟩);have HDI:=I (show(Tryz.prog.info? 91).map (·.size)=some (mgA m.k zA zT zR zP pf).size by rw[HM.o.size];exact Dv);go_enter Tryz.func140,Tryz.ntmps140
      go_upto_region 1 with fail
      rw[<-ezz,<-eW];clear ezz eW
      go_wp2_with (first
       |(refine AA (by rfl) 91 #[(0,.tmp 5)] (by rfl) c0 (by simp only[List.map_toArray,List.map_cons,List.map_nil];exact HBT.o) ?_)
       |(refine wpList_store_mid (by rfl) 91 (.tmp 3) (.tmp 6) (by rfl) W.heap.size 0 c0 (by rfl) (by rfl) (Ar (Blk.new W 91 #[.int .i64 0,.string ⟨#[]⟩,.string ⟨#[]⟩,.string ⟨#[]⟩,.string ⟨#[]⟩,.int .i64 0,.int .i64 0,.string ⟨#[]⟩,.string ⟨#[]⟩,.int .i64 0,.slice none 0 0,.slice none 0 0,.string ⟨#[]⟩,.string ⟨#[]⟩,.int .i64 0,.int .i64 0,.string ⟨#[]⟩,.string ⟨#[]⟩,.string ⟨#[]⟩,.string ⟨#[]⟩,.int .i64 0,.slice none 0 0,.slice none 0 0,.string ⟨#[]⟩,.string ⟨#[]⟩,.int .i64 0,.slice none 0 0,.slice none 0 0,.int .i64 0,.int .i64 0]) _ (by have:=HCS.o;simp;omega)) HI.o HO.o ?_;have hV:=Bc W 91 #[.int .i64 0,.string ⟨#[]⟩,.string ⟨#[]⟩,.string ⟨#[]⟩,.string ⟨#[]⟩,.int .i64 0,.int .i64 0,.string ⟨#[]⟩,.string ⟨#[]⟩,.int .i64 0,.slice none 0 0,.slice none 0 0,.string ⟨#[]⟩,.string ⟨#[]⟩,.int .i64 0,.int .i64 0,.string ⟨#[]⟩,.string ⟨#[]⟩,.string ⟨#[]⟩,.string ⟨#[]⟩,.int .i64 0,.slice none 0 0,.slice none 0 0,.string ⟨#[]⟩,.string ⟨#[]⟩,.int .i64 0,.slice none 0 0,.slice none 0 0,.int .i64 0,.int .i64 0] c0 (by have:=HCS.o;simp;omega);generalize ((W.alloc (.cells #[.int .i64 0,.string ⟨#[]⟩,.string ⟨#[]⟩,.string ⟨#[]⟩,.string ⟨#[]⟩,.int .i64 0,.int .i64 0,.string ⟨#[]⟩,.string ⟨#[]⟩,.int .i64 0,.slice none 0 0,.slice none 0 0,.string ⟨#[]⟩,.string ⟨#[]⟩,.int .i64 0,.int .i64 0,.string ⟨#[]⟩,.string ⟨#[]⟩,.string ⟨#[]⟩,.string ⟨#[]⟩,.int .i64 0,.slice none 0 0,.slice none 0 0,.string ⟨#[]⟩,.string ⟨#[]⟩,.int .i64 0,.slice none 0 0,.slice none 0 0,.int .i64 0,.int .i64 0] 91)).setCells W.heap.size 0 c0.toList)=V at hV⊢;have HX:=I (show Blk V W.heap.size 91 (mgA m.k zA zT zR zP zF) from EC.o▸hV.1);replace HK:=I (HK.o.below hV.2);replace HR:=I (HR.o.below hV.2);replace HG:=I (HG.o.trans (hV.2.mono HG.o.size));clear hV HA k0;have HA:=I (HP.o.at_ HK.o);have k0:=HA.o.k)
       |(refine Am (by rfl) 89 (.tmp 31) (by rfl) w.heap.size 28 (by rfl) pf _ HA.o.f Tryz.underlying89 (by rfl) (by rw[HP.o.f.size];exact FE) ?_)
       |(refine wpList_store_mid (by rfl) 89 (.tmp 33) (.tmp 32) (by rfl) W.heap.size 28 pf (by rfl) (by rfl) (Ci HX.o 28 _ (by rw[(zM_v W 0 m.k).size m.k,HP.o.f.size];omega)) (by rw[HP.o.f.size];exact FE) HP.o.f.one ?_;have hX:=Et (ps:=pf) (ds:=mgA m.k zA zT zR zP pf) (pre:=[.int .i64 m.k]++zA.toList++zT.toList++zR.toList++zP.toList) (mid:=zF.toList) (post:=[]) (o:=28) HX.o (by simp [mgA]) (by rfl) (by rw[HP.o.f.size];rfl) (by simp [mgA]);have hpm:=DR V W.heap.size 28 pf.toList;generalize V.setCells W.heap.size 28 pf.toList=V2 at hX hpm⊢;replace HX:=I hX;replace HR:=I (HR.o.grown hpm (by intro e;injection e with e;have:=HWS.o;omega));replace HG:=I (Av HG.o hpm HG.o.size (by have:=HWS.o;omega));clear hX hpm HA HK k0)
       |(refine Am (by rfl) 91 (.tmp 3) (by rfl) W.heap.size 0 (by rfl) (mgA m.k zA zT zR zP pf) _ (Ae HX.o) Tryz.underlying91 (by rfl) HDI.o ?_)
       |(refine wpList_store_mid (by rfl) 91 (.tmp 2) (.tmp 34) (by rfl) (w.heap.size+1) 0 (mgA m.k zA zT zR zP pf) (by rfl) (by rfl) (Ar HR.o _ (by rw[HM.o.size];have:=HZS.o;omega)) HDI.o (HM.o.one _) ?_)
       |fail)
      have hE:=AG (ds:=mgA m.k zA zT zR zP pf) HR.o (by rw[HM.o.size];have:=HZS.o;omega);have hp:=AM V2 (w.heap.size+1) (mgA m.k zA zT zR zP pf).toList;have hq:=Al (P:=Tryz.prog) hE Tryz.underlying91 rfl HDI.o;refine bodyPost_ret (v:=.agg (mgA m.k zA zT zR zP pf)) ?_ ?_ ?_
      ·exact Au 2 91 ⟨w.heap.size+1,0,none⟩ Tryz.results140 rfl hq
      ·rfl
      have hB:=Av HG.o hp HG.o.size (by omega);refine⟨_,rfl,?_,hB⟩;rw[EN.o];exact⟨zA,zT,zR,zP,pf,rfl,(HM.o.keep hB).more hB.size⟩
     ·have nm5:=m5
      have y1:(m.k==1)=false:=by simp;omega
      have y2:(m.k==2)=false:=by simp;omega
      have y3:(m.k==3)=false:=by simp;omega
      have y4:(m.k==4)=false:=by simp;omega
      have y5:(m.k==5)=false:=by simp;omega
      have EN:=I (show nm m=⟨m.k,as0,tg0,re0,ap0,fa0⟩ by rw[nm,if_neg m1,if_neg m2,if_neg m3,if_neg m4,if_neg m5]);clear m1 m2 m3 m4 m5;have HM:=I (show MgP w w.heap.size zA zT zR zP zF ⟨m.k,as0,tg0,re0,ap0,fa0⟩ from⟨zA_v,zT_v w w.heap.size,zR_v w w.heap.size,zP_v w w.heap.size,zF_v⟩);have HDI:=I (show(Tryz.prog.info? 91).map (·.size)=some (mgA m.k zA zT zR zP zF).size by rw[HM.o.size];exact Dv);go_enter Tryz.func140,Tryz.ntmps140
      go_upto_region 1 with fail
      rw[<-ezz,<-eW];clear ezz eW
      go_wp2_with (first
       |(refine AA (by rfl) 91 #[(0,.tmp 5)] (by rfl) c0 (by simp only[List.map_toArray,List.map_cons,List.map_nil];exact HBT.o) ?_)
       |(refine wpList_store_mid (by rfl) 91 (.tmp 3) (.tmp 6) (by rfl) W.heap.size 0 c0 (by rfl) (by rfl) (Ar (Blk.new W 91 #[.int .i64 0,.string ⟨#[]⟩,.string ⟨#[]⟩,.string ⟨#[]⟩,.string ⟨#[]⟩,.int .i64 0,.int .i64 0,.string ⟨#[]⟩,.string ⟨#[]⟩,.int .i64 0,.slice none 0 0,.slice none 0 0,.string ⟨#[]⟩,.string ⟨#[]⟩,.int .i64 0,.int .i64 0,.string ⟨#[]⟩,.string ⟨#[]⟩,.string ⟨#[]⟩,.string ⟨#[]⟩,.int .i64 0,.slice none 0 0,.slice none 0 0,.string ⟨#[]⟩,.string ⟨#[]⟩,.int .i64 0,.slice none 0 0,.slice none 0 0,.int .i64 0,.int .i64 0]) _ (by have:=HCS.o;simp;omega)) HI.o HO.o ?_;have hV:=Bc W 91 #[.int .i64 0,.string ⟨#[]⟩,.string ⟨#[]⟩,.string ⟨#[]⟩,.string ⟨#[]⟩,.int .i64 0,.int .i64 0,.string ⟨#[]⟩,.string ⟨#[]⟩,.int .i64 0,.slice none 0 0,.slice none 0 0,.string ⟨#[]⟩,.string ⟨#[]⟩,.int .i64 0,.int .i64 0,.string ⟨#[]⟩,.string ⟨#[]⟩,.string ⟨#[]⟩,.string ⟨#[]⟩,.int .i64 0,.slice none 0 0,.slice none 0 0,.string ⟨#[]⟩,.string ⟨#[]⟩,.int .i64 0,.slice none 0 0,.slice none 0 0,.int .i64 0,.int .i64 0] c0 (by have:=HCS.o;simp;omega);generalize ((W.alloc (.cells #[.int .i64 0,.string ⟨#[]⟩,.string ⟨#[]⟩,.string ⟨#[]⟩,.string ⟨#[]⟩,.int .i64 0,.int .i64 0,.string ⟨#[]⟩,.string ⟨#[]⟩,.int .i64 0,.slice none 0 0,.slice none 0 0,.string ⟨#[]⟩,.string ⟨#[]⟩,.int .i64 0,.int .i64 0,.string ⟨#[]⟩,.string ⟨#[]⟩,.string ⟨#[]⟩,.string ⟨#[]⟩,.int .i64 0,.slice none 0 0,.slice none 0 0,.string ⟨#[]⟩,.string ⟨#[]⟩,.int .i64 0,.slice none 0 0,.slice none 0 0,.int .i64 0,.int .i64 0] 91)).setCells W.heap.size 0 c0.toList)=V at hV⊢;have HX:=I (show Blk V W.heap.size 91 (mgA m.k zA zT zR zP zF) from EC.o▸hV.1);replace HK:=I (HK.o.below hV.2);replace HR:=I (HR.o.below hV.2);replace HG:=I (HG.o.trans (hV.2.mono HG.o.size));clear hV HA k0;have HA:=I (HP.o.at_ HK.o);have k0:=HA.o.k)
       |(refine Am (by rfl) 91 (.tmp 3) (by rfl) W.heap.size 0 (by rfl) (mgA m.k zA zT zR zP zF) _ (Ae HX.o) Tryz.underlying91 (by rfl) HDI.o ?_)
       |(refine wpList_store_mid (by rfl) 91 (.tmp 2) (.tmp 34) (by rfl) (w.heap.size+1) 0 (mgA m.k zA zT zR zP zF) (by rfl) (by rfl) (Ar HR.o _ (by rw[HM.o.size];have:=HZS.o;omega)) HDI.o (HM.o.one _) ?_)
       |fail)
      have hE:=AG (ds:=mgA m.k zA zT zR zP zF) HR.o (by rw[HM.o.size];have:=HZS.o;omega);have hp:=AM V (w.heap.size+1) (mgA m.k zA zT zR zP zF).toList;have hq:=Al (P:=Tryz.prog) hE Tryz.underlying91 rfl HDI.o;refine bodyPost_ret (v:=.agg (mgA m.k zA zT zR zP zF)) ?_ ?_ ?_
      ·exact Au 2 91 ⟨w.heap.size+1,0,none⟩ Tryz.results140 rfl hq
      ·rfl
      have hB:=Av HG.o hp HG.o.size (by omega);refine⟨_,rfl,?_,hB⟩;rw[EN.o];exact⟨zA,zT,zR,zP,zF,rfl,(HM.o.keep hB).more hB.size⟩
def OwnN (w:World) (base:Nat) (v:Value) (l:L):Prop:=(v=.slice none 0 0/\l = [])\/OwnB w base v l
section
variable {w w':World} {base base' g:Nat} {v:Value} {l:L} {cs:Array Value}
theorem OwnN.keep (h:OwnN w base v l) (hg:w.grownBy w' (some g)) (hlt:g<base):OwnN w' base v l:=h.imp id fun h=>h.keep hg hlt
theorem OwnN.slb (h:OwnN w base v l):SlB w w.heap.size v l:=by
 rcases h with⟨rfl,rfl⟩ | h
 ·exact SlB.nil _ _
 ·exact h.slb
def TgO (w:World) (B:Nat) (cs:Array Value) (q:Tg):Prop:=∃b a,cs=(tgC q b a).toArray/\OwnN w B b q.t.b/\OwnN w B a q.a
def ReO (w:World) (B:Nat) (cs:Array Value) (q:Re):Prop:=∃b a,cs=(reC q b a).toArray/\OwnN w B b q.t.b/\OwnN w B a q.b
def ApO (w:World) (B:Nat) (cs:Array Value) (q:Ap):Prop:=∃b a,cs=(apC q b a).toArray/\OwnN w B b q.t.b/\OwnN w B a q.a
theorem TgO.keep {q:Tg} (h:TgO w base cs q) (hg:w.grownBy w' (some g)) (hlt:g<base):TgO w' base cs q:=by obtain⟨b,a,h1,h2,h3⟩:=h;exact⟨b,a,h1,h2.keep hg hlt,h3.keep hg hlt⟩
theorem TgO.toV {q:Tg} (h:TgO w base cs q):TgV w w.heap.size cs q:=by obtain⟨b,a,h1,h2,h3⟩:=h;exact⟨b,a,h1,h2.slb,h3.slb⟩
theorem ReO.keep {q:Re} (h:ReO w base cs q) (hg:w.grownBy w' (some g)) (hlt:g<base):ReO w' base cs q:=by obtain⟨b,a,h1,h2,h3⟩:=h;exact⟨b,a,h1,h2.keep hg hlt,h3.keep hg hlt⟩
theorem ReO.toV {q:Re} (h:ReO w base cs q):ReV w w.heap.size cs q:=by obtain⟨b,a,h1,h2,h3⟩:=h;exact⟨b,a,h1,h2.slb,h3.slb⟩
theorem ApO.keep {q:Ap} (h:ApO w base cs q) (hg:w.grownBy w' (some g)) (hlt:g<base):ApO w' base cs q:=by obtain⟨b,a,h1,h2,h3⟩:=h;exact⟨b,a,h1,h2.keep hg hlt,h3.keep hg hlt⟩
theorem ApO.toV {q:Ap} (h:ApO w base cs q):ApV w w.heap.size cs q:=by obtain⟨b,a,h1,h2,h3⟩:=h;exact⟨b,a,h1,h2.slb,h3.slb⟩
structure MpO (w:World) (B:Nat) (pa pt pr pp pf:Array Value) (m:Mg):Prop where
 a:AsV pa m.aq
 t:TgO w B pt m.tg
 r:ReO w B pr m.re
 p:ApO w B pp m.ap
 f:FaV pf m.fa
def MgO (w:World) (B:Nat) (cs:Array Value) (m:Mg):Prop:=∃pa pt pr pp pf,cs=mgA m.k pa pt pr pp pf/\MpO w B pa pt pr pp pf m
variable {pa pt pr pp pf:Array Value} {m:Mg}
theorem MpO.toV (h:MpO w base pa pt pr pp pf m):MgP w w.heap.size pa pt pr pp pf m:=⟨h.a,h.t.toV,h.r.toV,h.p.toV,h.f⟩
theorem MpO.keep (h:MpO w base pa pt pr pp pf m) (hg:w.grownBy w' (some g)) (hlt:g<base):MpO w' base pa pt pr pp pf m:=⟨h.a,h.t.keep hg hlt,h.r.keep hg hlt,h.p.keep hg hlt,h.f⟩
theorem MgO.toV (h:MgO w base cs m):MgV w w.heap.size cs m:=by obtain⟨pa,pt,pr,pp,pf,h1,h2⟩:=h;exact⟨pa,pt,pr,pp,pf,h1,h2.toV⟩
theorem MgO.keep (h:MgO w base cs m) (hg:w.grownBy w' (some g)) (hlt:g<base):MgO w' base cs m:=by obtain⟨pa,pt,pr,pp,pf,h1,h2⟩:=h;exact⟨pa,pt,pr,pp,pf,h1,h2.keep hg hlt⟩
theorem MgO.size (h:MgO w base cs m):cs.size=30:=by obtain⟨pa,pt,pr,pp,pf,h1,h2⟩:=h;rw[h1];exact h2.toV.size m.k
theorem MgO.one (h:MgO w base cs m):One cs:=by obtain⟨pa,pt,pr,pp,pf,h1,h2⟩:=h;rw[h1];exact h2.toV.one m.k
end
section
variable (g:Nat) (c:Option L) (w:World) (h:Cur w g c) (hs:(c.getD []).length<=100000)
include h hs
end
theorem Le {ps:Array Value} {q:As} (h:AsV ps q):Tryz.prog.built 91 [(0,.int .i64 1),(1,.agg ps)]=some (mgA 1 ps zT zR zP zF):=by rw[h];kernel_rfl
theorem XU {pa qa:Array Value} {x y:As} (h:AsV pa x) (g:AsV qa y) (w:World):(Op.equalIn 10000 85 (.agg pa) (.agg qa)).run Tryz.prog w=.ok (decide (x=y)) w:=by rw[h,g];exact ZM x y w
theorem XV {pa qa:Array Value} {x y:Fa} (h:FaV pa x) (g:FaV qa y) (w:World):(Op.equalIn 10000 89 (.agg pa) (.agg qa)).run Tryz.prog w=.ok (decide (x=y)) w:=by rw[h,g];exact ZL x y w
theorem Tf {pa qa:Array Value} {x y:Tg} (w:World) (h:TgV w w.heap.size pa x) (g:TgV w w.heap.size qa y):Calls Tryz.prog 187 #[.agg pa,.agg qa] w fun e w'=>e=.returned (.bool (decide (x=y)))/\Below w.heap.size w w':=by
 obtain⟨b,a,rfl,⟨A1,c1,rfl,_,h1⟩,⟨A2,c2,rfl,_,h2⟩⟩:=h;obtain⟨b2,a2,rfl,⟨D1,d1,rfl,_,g1⟩,⟨D2,d2,rfl,_,g2⟩⟩:=g;exact Nu x y A1 A2 D1 D2 c1 c2 d1 d2 w h1 g1 h2 g2
theorem Th {pa qa:Array Value} {x y:Re} (w:World) (h:ReV w w.heap.size pa x) (g:ReV w w.heap.size qa y):Calls Tryz.prog 188 #[.agg pa,.agg qa] w fun e w'=>e=.returned (.bool (decide (x=y)))/\Below w.heap.size w w':=by
 obtain⟨b,a,rfl,⟨A1,c1,rfl,_,h1⟩,⟨A2,c2,rfl,_,h2⟩⟩:=h;obtain⟨b2,a2,rfl,⟨D1,d1,rfl,_,g1⟩,⟨D2,d2,rfl,_,g2⟩⟩:=g;exact Nv x y A1 A2 D1 D2 c1 c2 d1 d2 w h1 g1 h2 g2
theorem Ti {pa qa:Array Value} {x y:Ap} (w:World) (h:ApV w w.heap.size pa x) (g:ApV w w.heap.size qa y):Calls Tryz.prog 189 #[.agg pa,.agg qa] w fun e w'=>e=.returned (.bool (decide (x=y)))/\Below w.heap.size w w':=by
 obtain⟨b,a,rfl,⟨A1,c1,rfl,_,h1⟩,⟨A2,c2,rfl,_,h2⟩⟩:=h;obtain⟨b2,a2,rfl,⟨D1,d1,rfl,_,g1⟩,⟨D2,d2,rfl,_,g2⟩⟩:=g;exact Nx x y A1 A2 D1 D2 c1 c2 d1 d2 w h1 g1 h2 g2
theorem mg_eq (m o:Mg):decide (m=o)=(decide (m.k=o.k)&&(decide (m.aq=o.aq)&&(decide (m.tg=o.tg)&&(decide (m.re=o.re)&&(decide (m.ap=o.ap)&&decide (m.fa=o.fa)))))):=by
 obtain⟨k,a,t,r,p,f⟩:=m;obtain⟨k2,a2,t2,r2,p2,f2⟩:=o;simp [Bool.decide_and]
theorem Tj (cs ds:Array Value) (m o:Mg) (w:World) (h:MgV w w.heap.size cs m) (g:MgV w w.heap.size ds o):Calls Tryz.prog 139 #[.agg cs,.agg ds] w fun e w'=>e=.returned (.bool (decide (m=o)))/\Below w.heap.size w w':=by
 obtain⟨pa,pt,pr,pp,pf,hc,hp⟩:=h;obtain⟨qa,qt,qr,qp,qf,hd,hq⟩:=g;obtain⟨W,eW⟩:=Ak ((w.alloc (.cells cs 91)).alloc (.cells ds 91));have HK:=I (show Blk W w.heap.size 91 (mgA m.k pa pt pr pp pf) by rw[eW,<-hc];exact(Blk.new _ _ _).alloc _);have hq1:=Blk.new (w.alloc (.cells cs 91)) 91 ds;rw[show(w.alloc (.cells cs 91)).heap.size=w.heap.size+1 by simp,<-eW,hd] at hq1;have HL:=I hq1;clear hq1;have HB:=I (show Below w.heap.size w W by rw[eW];exact(Ah.alloc Ag _).alloc (by simp) _);have HP:=I hp;have HQ:=I hq;have HA:=I (hp.at_ HK.o);have HC:=I (hq.at_ HL.o);have k0:=HA.o.k;have k1:=HC.o.k;have Tt:=I (fun w1 (h:Below w.heap.size w w1)=>Tf w1 ((hp.t.keep h).more h.size) ((hq.t.keep h).more h.size));have Tr:=I (fun w1 (h:Below w.heap.size w w1)=>Th w1 ((hp.r.keep h).more h.size) ((hq.r.keep h).more h.size));have Tp:=I (fun w1 (h:Below w.heap.size w w1)=>Ti w1 ((hp.p.keep h).more h.size) ((hq.p.keep h).more h.size));have EA:=I (fun w1=>XU hp.a hq.a w1);have EF:=I (fun w1=>XV hp.f hq.f w1);have ME:=I (mg_eq m o);clear hc hd hp hq;cases ek:decide (m.k=o.k) with
 |false=>
  have tk:(m.k==o.k)=false:=by simpa using ek
  have E:=I (show decide (m=o)=false by rw[ME.o,ek];rfl);clear ek;go_enter Tryz.func139,Tryz.ntmps139
  go_upto_region 1 with fail
  rw[<-eW];clear eW
  go_wp2
  go_ret;exact⟨by rw[E.o];rfl,HB.o⟩
 |true=>
  have tk:(m.k==o.k)=true:=by simpa using ek
  cases ea:decide (m.aq=o.aq) with
  |false=>
   rw[ea] at EA;have fa:=EA.o;have E:=I (show decide (m=o)=false by rw[ME.o,ek,ea];rfl);clear ek ea;go_enter Tryz.func139,Tryz.ntmps139
   go_upto_region 1 with fail
   rw[<-eW];clear eW
   go_wp2_with (first
    |(refine Ax (by rfl) 85 (.tmp 11) (by rfl) w.heap.size 1 (by rfl) pa _ HA.o.a Tryz.underlying85 (by rfl) (by rw[HP.o.a.size];exact Cd) ?_)
    |(refine Ax (by rfl) 85 (.tmp 13) (by rfl) (w.heap.size+1) 1 (by rfl) qa _ HC.o.a Tryz.underlying85 (by rfl) (by rw[HQ.o.a.size];exact Cd) ?_)
    |fail)
   go_ret;exact⟨by rw[E.o];rfl,HB.o⟩
  |true=>
   rw[ea] at EA;have fa:=EA.o;cases et:decide (m.tg=o.tg) with
   |false=>
    rw[et] at Tt;have E:=I (show decide (m=o)=false by rw[ME.o,ek,ea,et];rfl);clear ek ea et;go_enter Tryz.func139,Tryz.ntmps139
    go_upto_region 1 with fail
    rw[<-eW];clear eW
    go_wp2_with (first
     |(refine Ax (by rfl) 85 (.tmp 11) (by rfl) w.heap.size 1 (by rfl) pa _ HA.o.a Tryz.underlying85 (by rfl) (by rw[HP.o.a.size];exact Cd) ?_)
     |(refine Ax (by rfl) 85 (.tmp 13) (by rfl) (w.heap.size+1) 1 (by rfl) qa _ HC.o.a Tryz.underlying85 (by rfl) (by rw[HQ.o.a.size];exact Cd) ?_)
     |(refine Ax (by rfl) 30 (.tmp 18) (by rfl) w.heap.size 7 (by rfl) pt _ HA.o.t Tryz.underlying30 (by rfl) (by rw[HP.o.t.size];exact Bs) ?_)
     |(refine Ax (by rfl) 30 (.tmp 20) (by rfl) (w.heap.size+1) 7 (by rfl) qt _ HC.o.t Tryz.underlying30 (by rfl) (by rw[HQ.o.t.size];exact Bs) ?_)
     |(go_at_call 187;refine Aj (Tt.o _ HB.o) ?_;rintro wt hb;clear HA HC;replace HK:=I (HK.o.below hb);replace HL:=I (HL.o.below hb);replace HB:=HB.t hb;clear hb Tt;have HA:=I (HP.o.at_ HK.o);have HC:=I (HQ.o.at_ HL.o))
     |fail)
    go_ret;exact⟨by rw[E.o];rfl,HB.o⟩
   |true=>
    rw[et] at Tt;cases er:decide (m.re=o.re) with
    |false=>
     rw[er] at Tr;have E:=I (show decide (m=o)=false by rw[ME.o,ek,ea,et,er];rfl);clear ek ea et er;go_enter Tryz.func139,Tryz.ntmps139
     go_upto_region 1 with fail
     rw[<-eW];clear eW
     go_wp2_with (first
      |(refine Ax (by rfl) 85 (.tmp 11) (by rfl) w.heap.size 1 (by rfl) pa _ HA.o.a Tryz.underlying85 (by rfl) (by rw[HP.o.a.size];exact Cd) ?_)
      |(refine Ax (by rfl) 85 (.tmp 13) (by rfl) (w.heap.size+1) 1 (by rfl) qa _ HC.o.a Tryz.underlying85 (by rfl) (by rw[HQ.o.a.size];exact Cd) ?_)
      |(refine Ax (by rfl) 30 (.tmp 18) (by rfl) w.heap.size 7 (by rfl) pt _ HA.o.t Tryz.underlying30 (by rfl) (by rw[HP.o.t.size];exact Bs) ?_)
      |(refine Ax (by rfl) 30 (.tmp 20) (by rfl) (w.heap.size+1) 7 (by rfl) qt _ HC.o.t Tryz.underlying30 (by rfl) (by rw[HQ.o.t.size];exact Bs) ?_)
      |(go_at_call 187;refine Aj (Tt.o _ HB.o) ?_;rintro wt hb;clear HA HC;replace HK:=I (HK.o.below hb);replace HL:=I (HL.o.below hb);replace HB:=HB.t hb;clear hb Tt;have HA:=I (HP.o.at_ HK.o);have HC:=I (HQ.o.at_ HL.o))
      |(refine Ax (by rfl) 43 (.tmp 25) (by rfl) w.heap.size 16 (by rfl) pr _ HA.o.r Tryz.underlying43 (by rfl) (by rw[HP.o.r.size];exact AK) ?_)
      |(refine Ax (by rfl) 43 (.tmp 27) (by rfl) (w.heap.size+1) 16 (by rfl) qr _ HC.o.r Tryz.underlying43 (by rfl) (by rw[HQ.o.r.size];exact AK) ?_)
      |(go_at_call 188;refine Aj (Tr.o _ HB.o) ?_;rintro wr hb;clear HA HC;replace HK:=I (HK.o.below hb);replace HL:=I (HL.o.below hb);replace HB:=HB.t hb;clear hb Tr;have HA:=I (HP.o.at_ HK.o);have HC:=I (HQ.o.at_ HL.o))
      |fail)
     go_ret;exact⟨by rw[E.o];rfl,HB.o⟩
    |true=>
     rw[er] at Tr;cases ep:decide (m.ap=o.ap) with
     |false=>
      rw[ep] at Tp;have E:=I (show decide (m=o)=false by rw[ME.o,ek,ea,et,er,ep];rfl);clear ek ea et er ep;go_enter Tryz.func139,Tryz.ntmps139
      go_upto_region 1 with fail
      rw[<-eW];clear eW
      go_wp2_with (first
       |(refine Ax (by rfl) 85 (.tmp 11) (by rfl) w.heap.size 1 (by rfl) pa _ HA.o.a Tryz.underlying85 (by rfl) (by rw[HP.o.a.size];exact Cd) ?_)
       |(refine Ax (by rfl) 85 (.tmp 13) (by rfl) (w.heap.size+1) 1 (by rfl) qa _ HC.o.a Tryz.underlying85 (by rfl) (by rw[HQ.o.a.size];exact Cd) ?_)
       |(refine Ax (by rfl) 30 (.tmp 18) (by rfl) w.heap.size 7 (by rfl) pt _ HA.o.t Tryz.underlying30 (by rfl) (by rw[HP.o.t.size];exact Bs) ?_)
       |(refine Ax (by rfl) 30 (.tmp 20) (by rfl) (w.heap.size+1) 7 (by rfl) qt _ HC.o.t Tryz.underlying30 (by rfl) (by rw[HQ.o.t.size];exact Bs) ?_)
       |(go_at_call 187;refine Aj (Tt.o _ HB.o) ?_;rintro wt hb;clear HA HC;replace HK:=I (HK.o.below hb);replace HL:=I (HL.o.below hb);replace HB:=HB.t hb;clear hb Tt;have HA:=I (HP.o.at_ HK.o);have HC:=I (HQ.o.at_ HL.o))
       |(refine Ax (by rfl) 43 (.tmp 25) (by rfl) w.heap.size 16 (by rfl) pr _ HA.o.r Tryz.underlying43 (by rfl) (by rw[HP.o.r.size];exact AK) ?_)
       |(refine Ax (by rfl) 43 (.tmp 27) (by rfl) (w.heap.size+1) 16 (by rfl) qr _ HC.o.r Tryz.underlying43 (by rfl) (by rw[HQ.o.r.size];exact AK) ?_)
       |(go_at_call 188;refine Aj (Tr.o _ HB.o) ?_;rintro wr hb;clear HA HC;replace HK:=I (HK.o.below hb);replace HL:=I (HL.o.below hb);replace HB:=HB.t hb;clear hb Tr;have HA:=I (HP.o.at_ HK.o);have HC:=I (HQ.o.at_ HL.o))
       |(refine Ax (by rfl) 87 (.tmp 32) (by rfl) w.heap.size 23 (by rfl) pp _ HA.o.p Tryz.underlying87 (by rfl) (by rw[HP.o.p.size];exact DU) ?_)
       |(refine Ax (by rfl) 87 (.tmp 34) (by rfl) (w.heap.size+1) 23 (by rfl) qp _ HC.o.p Tryz.underlying87 (by rfl) (by rw[HQ.o.p.size];exact DU) ?_)
       |(go_at_call 189;refine Aj (Tp.o _ HB.o) ?_;rintro wp hb;clear HA HC;replace HK:=I (HK.o.below hb);replace HL:=I (HL.o.below hb);replace HB:=HB.t hb;clear hb Tp;have HA:=I (HP.o.at_ HK.o);have HC:=I (HQ.o.at_ HL.o))
       |fail)
      go_ret;exact⟨by rw[E.o];rfl,HB.o⟩
     |true=>
      rw[ep] at Tp;cases ef:decide (m.fa=o.fa) with
      |false=>
       rw[ef] at EF;have ff:=EF.o;have E:=I (show decide (m=o)=false by rw[ME.o,ek,ea,et,er,ep,ef];rfl);clear ek ea et er ep ef;go_enter Tryz.func139,Tryz.ntmps139
       go_upto_region 1 with fail
       rw[<-eW];clear eW
       go_wp2_with (first
        |(refine Ax (by rfl) 85 (.tmp 11) (by rfl) w.heap.size 1 (by rfl) pa _ HA.o.a Tryz.underlying85 (by rfl) (by rw[HP.o.a.size];exact Cd) ?_)
        |(refine Ax (by rfl) 85 (.tmp 13) (by rfl) (w.heap.size+1) 1 (by rfl) qa _ HC.o.a Tryz.underlying85 (by rfl) (by rw[HQ.o.a.size];exact Cd) ?_)
        |(refine Ax (by rfl) 30 (.tmp 18) (by rfl) w.heap.size 7 (by rfl) pt _ HA.o.t Tryz.underlying30 (by rfl) (by rw[HP.o.t.size];exact Bs) ?_)
        |(refine Ax (by rfl) 30 (.tmp 20) (by rfl) (w.heap.size+1) 7 (by rfl) qt _ HC.o.t Tryz.underlying30 (by rfl) (by rw[HQ.o.t.size];exact Bs) ?_)
        |(go_at_call 187;refine Aj (Tt.o _ HB.o) ?_;rintro wt hb;clear HA HC;replace HK:=I (HK.o.below hb);replace HL:=I (HL.o.below hb);replace HB:=HB.t hb;clear hb Tt;have HA:=I (HP.o.at_ HK.o);have HC:=I (HQ.o.at_ HL.o))
        |(refine Ax (by rfl) 43 (.tmp 25) (by rfl) w.heap.size 16 (by rfl) pr _ HA.o.r Tryz.underlying43 (by rfl) (by rw[HP.o.r.size];exact AK) ?_)
        |(refine Ax (by rfl) 43 (.tmp 27) (by rfl) (w.heap.size+1) 16 (by rfl) qr _ HC.o.r Tryz.underlying43 (by rfl) (by rw[HQ.o.r.size];exact AK) ?_)
        |(go_at_call 188;refine Aj (Tr.o _ HB.o) ?_;rintro wr hb;clear HA HC;replace HK:=I (HK.o.below hb);replace HL:=I (HL.o.below hb);replace HB:=HB.t hb;clear hb Tr;have HA:=I (HP.o.at_ HK.o);have HC:=I (HQ.o.at_ HL.o))
        |(refine Ax (by rfl) 87 (.tmp 32) (by rfl) w.heap.size 23 (by rfl) pp _ HA.o.p Tryz.underlying87 (by rfl) (by rw[HP.o.p.size];exact DU) ?_)
        |(refine Ax (by rfl) 87 (.tmp 34) (by rfl) (w.heap.size+1) 23 (by rfl) qp _ HC.o.p Tryz.underlying87 (by rfl) (by rw[HQ.o.p.size];exact DU) ?_)
        |(go_at_call 189;refine Aj (Tp.o _ HB.o) ?_;rintro wp hb;clear HA HC;replace HK:=I (HK.o.below hb);replace HL:=I (HL.o.below hb);replace HB:=HB.t hb;clear hb Tp;have HA:=I (HP.o.at_ HK.o);have HC:=I (HQ.o.at_ HL.o))
        |(refine Ax (by rfl) 89 (.tmp 39) (by rfl) w.heap.size 28 (by rfl) pf _ HA.o.f Tryz.underlying89 (by rfl) (by rw[HP.o.f.size];exact FE) ?_)
        |(refine Ax (by rfl) 89 (.tmp 41) (by rfl) (w.heap.size+1) 28 (by rfl) qf _ HC.o.f Tryz.underlying89 (by rfl) (by rw[HQ.o.f.size];exact FE) ?_)
        |fail)
       go_ret;exact⟨by rw[E.o];rfl,HB.o⟩
      |true=>
       rw[ef] at EF;have ff:=EF.o;have E:=I (show decide (m=o)=true by rw[ME.o,ek,ea,et,er,ep,ef];rfl);clear ek ea et er ep ef;go_enter Tryz.func139,Tryz.ntmps139
       go_upto_region 1 with fail
       rw[<-eW];clear eW
       go_wp2_with (first
        |(refine Ax (by rfl) 85 (.tmp 11) (by rfl) w.heap.size 1 (by rfl) pa _ HA.o.a Tryz.underlying85 (by rfl) (by rw[HP.o.a.size];exact Cd) ?_)
        |(refine Ax (by rfl) 85 (.tmp 13) (by rfl) (w.heap.size+1) 1 (by rfl) qa _ HC.o.a Tryz.underlying85 (by rfl) (by rw[HQ.o.a.size];exact Cd) ?_)
        |(refine Ax (by rfl) 30 (.tmp 18) (by rfl) w.heap.size 7 (by rfl) pt _ HA.o.t Tryz.underlying30 (by rfl) (by rw[HP.o.t.size];exact Bs) ?_)
        |(refine Ax (by rfl) 30 (.tmp 20) (by rfl) (w.heap.size+1) 7 (by rfl) qt _ HC.o.t Tryz.underlying30 (by rfl) (by rw[HQ.o.t.size];exact Bs) ?_)
        |(go_at_call 187;refine Aj (Tt.o _ HB.o) ?_;rintro wt hb;clear HA HC;replace HK:=I (HK.o.below hb);replace HL:=I (HL.o.below hb);replace HB:=HB.t hb;clear hb Tt;have HA:=I (HP.o.at_ HK.o);have HC:=I (HQ.o.at_ HL.o))
        |(refine Ax (by rfl) 43 (.tmp 25) (by rfl) w.heap.size 16 (by rfl) pr _ HA.o.r Tryz.underlying43 (by rfl) (by rw[HP.o.r.size];exact AK) ?_)
        |(refine Ax (by rfl) 43 (.tmp 27) (by rfl) (w.heap.size+1) 16 (by rfl) qr _ HC.o.r Tryz.underlying43 (by rfl) (by rw[HQ.o.r.size];exact AK) ?_)
        |(go_at_call 188;refine Aj (Tr.o _ HB.o) ?_;rintro wr hb;clear HA HC;replace HK:=I (HK.o.below hb);replace HL:=I (HL.o.below hb);replace HB:=HB.t hb;clear hb Tr;have HA:=I (HP.o.at_ HK.o);have HC:=I (HQ.o.at_ HL.o))
        |(refine Ax (by rfl) 87 (.tmp 32) (by rfl) w.heap.size 23 (by rfl) pp _ HA.o.p Tryz.underlying87 (by rfl) (by rw[HP.o.p.size];exact DU) ?_)
        |(refine Ax (by rfl) 87 (.tmp 34) (by rfl) (w.heap.size+1) 23 (by rfl) qp _ HC.o.p Tryz.underlying87 (by rfl) (by rw[HQ.o.p.size];exact DU) ?_)
        |(go_at_call 189;refine Aj (Tp.o _ HB.o) ?_;rintro wp hb;clear HA HC;replace HK:=I (HK.o.below hb);replace HL:=I (HL.o.below hb);replace HB:=HB.t hb;clear hb Tp;have HA:=I (HP.o.at_ HK.o);have HC:=I (HQ.o.at_ HL.o))
        |(refine Ax (by rfl) 89 (.tmp 39) (by rfl) w.heap.size 28 (by rfl) pf _ HA.o.f Tryz.underlying89 (by rfl) (by rw[HP.o.f.size];exact FE) ?_)
        |(refine Ax (by rfl) 89 (.tmp 41) (by rfl) (w.heap.size+1) 28 (by rfl) qf _ HC.o.f Tryz.underlying89 (by rfl) (by rw[HQ.o.f.size];exact FE) ?_)
        |fail)
       go_ret;exact⟨by rw[E.o];rfl,HB.o⟩
open DerR
theorem ZN {pa:Array Value} {x:As} (w:World) (h:AsV pa x) (s:pSm x.c/\pSm x.s):Calls Tryz.prog 141 #[.agg pa] w fun e w'=>e=.returned (.bool (asB x))/\Below w.heap.size w w':=by rw[h];exact UZ x w s.1 s.2
theorem ZO {pa:Array Value} {x:Tg} {w0:World} {B:Nat} (w:World) (h:TgV w0 B pa x) (s:pSm x.t.s/\pSm x.s):Calls Tryz.prog 142 #[.agg pa] w fun e w'=>e=.returned (.bool (tgB x))/\Below w.heap.size w w':=by
 obtain⟨b,a,rfl,⟨A1,c1,rfl,_,h1⟩,⟨A2,c2,rfl,_,h2⟩⟩:=h;exact SL x A1 A2 c1 c2 w s.1 s.2
theorem ZP {pa:Array Value} {x:Re} {w0:World} {B:Nat} (w:World) (h:ReV w0 B pa x) (s:pSm x.c/\pSm x.t.s):Calls Tryz.prog 143 #[.agg pa] w fun e w'=>e=.returned (.bool (reB x))/\Below w.heap.size w w':=by
 obtain⟨b,a,rfl,⟨A1,c1,rfl,_,h1⟩,⟨A2,c2,rfl,_,h2⟩⟩:=h;exact Va x A1 A2 c1 c2 w s.2 s.1
theorem ZQ {pa:Array Value} {x:Ap} {w0:World} {B:Nat} (w:World) (h:ApV w0 B pa x) (s:pSm x.t.s):Calls Tryz.prog 144 #[.agg pa] w fun e w'=>e=.returned (.bool (apB x))/\Below w.heap.size w w':=by
 obtain⟨b,a,rfl,⟨A1,c1,rfl,_,h1⟩,⟨A2,c2,rfl,_,h2⟩⟩:=h;exact Vb x A1 A2 c1 c2 w s
theorem ZR {pa:Array Value} {x:Fa} (w:World) (h:FaV pa x):Calls Tryz.prog 145 #[.agg pa] w fun e w'=>e=.returned (.bool (faB x))/\Below w.heap.size w w':=by rw[h];exact Vc x w
theorem XW {pa:Array Value} {x:As} (w:World) (h:AsV pa x) (s:asB x=true):Calls Tryz.prog 146 #[.agg pa] w (BS w (asE x)):=by rw[h];exact SM x w s
theorem XX {pa:Array Value} {x:Tg} (w:World) (h:TgV w w.heap.size pa x) (s:tgB x=true):Calls Tryz.prog 147 #[.agg pa] w (BS w (tgE x)):=by
 obtain⟨b,a,rfl,⟨A1,c1,rfl,_,h1⟩,⟨A2,c2,rfl,_,h2⟩⟩:=h;exact SN x A1 A2 c1 c2 w s h1 h2
theorem XY {pa:Array Value} {x:Re} (w:World) (h:ReV w w.heap.size pa x) (s:reB x=true):Calls Tryz.prog 148 #[.agg pa] w (BS w (reE x)):=by
 obtain⟨b,a,rfl,⟨A1,c1,rfl,_,h1⟩,⟨A2,c2,rfl,_,h2⟩⟩:=h;exact SP x A1 A2 c1 c2 w s h1 h2
theorem XZ {pa:Array Value} {x:Ap} (w:World) (h:ApV w w.heap.size pa x) (s:apB x=true):Calls Tryz.prog 149 #[.agg pa] w (BS w (apE x)):=by
 obtain⟨b,a,rfl,⟨A1,c1,rfl,_,h1⟩,⟨A2,c2,rfl,_,h2⟩⟩:=h;exact SQ x A1 A2 c1 c2 w s h1 h2
theorem Ya {pa:Array Value} {x:Fa} (w:World) (h:FaV pa x):Calls Tryz.prog 150 #[.agg pa] w (BS w (faE x)):=by rw[h];exact SR x w
def kdB (m:Mg):Bool:=if m.k=1 then asB m.aq else if m.k=2 then tgB m.tg else if m.k=3 then reB m.re else if m.k=4 then apB m.ap else if m.k=5 then faB m.fa else false
theorem ZS (m:Mg):mgB m=(decide (m=nm m)&&kdB m):=by
 unfold mgB kdB nm
 by_cases h1:m.k=1
 ·simp only[if_pos h1];rw[Bool.and_comm]
 ·simp only[if_neg h1]
  by_cases h2:m.k=2
  ·simp only[if_pos h2];rw[Bool.and_comm]
  ·simp only[if_neg h2]
   by_cases h3:m.k=3
   ·simp only[if_pos h3];rw[Bool.and_comm]
   ·simp only[if_neg h3]
    by_cases h4:m.k=4
    ·simp only[if_pos h4];rw[Bool.and_comm]
    ·simp only[if_neg h4]
     by_cases h5:m.k=5
     ·simp only[if_pos h5];rw[Bool.and_comm]
     ·simp only[if_neg h5];rw[Bool.and_false]
section
variable {P:Program} {w:World} {o:Oper} {a:Act}
theorem Bq {w':World} {g:Nat} {t ty:TypeId} {cs:Array Value} {d:TypeDesc} (x:Operand) (ho:o.op=.load ty x) (hx:a.eval x=.pointer (some ⟨g,0,none⟩)) (h:Blk w' g t cs) (hu:P.underlying ty=some d) (hd:d.isRow=true) (hi:(P.info? ty).map (·.size)=some cs.size) :
  (execOp a.eval o).run P w'=.ok (.value (.agg cs)) w':=by
 unfold execOp;simp only[ho,hx,Instr.loadAt,Instr.sureAddr,Sem.run_bind,Sem.run_pure,Result.andThen_ok,Al h hu hd hi]
end
theorem Tl (cs:Array Value) (m:Mg) (w:World) (h:MgV w w.heap.size cs m) (hs:mSm m):Calls Tryz.prog 101 #[.agg cs] w fun e w'=>e=.returned (.bool (mgB m))/\Below w.heap.size w w':=by
 have hV:=h;obtain⟨pa,pt,pr,pp,pf,hc,hp⟩:=h;have hcs:cs.size=30:=by rw[hc];exact hp.size m.k
 have HI:=I (show(Tryz.prog.info? 91).map (·.size)=some cs.size by rw[hcs];exact Dv);obtain⟨W,eW⟩:=Ak (w.alloc (.cells cs 91));have HK:=I (show Blk W w.heap.size 91 cs by rw[eW];exact Blk.new _ _ _);have HB:=I (show Below w.heap.size w W by rw[eW];exact Ah.alloc Ag _);have EC:=I hc;have HP:=I hp;have TN:=I (fun w1 (h:Below w.heap.size w w1)=>Te cs m w1 ((hV.keep h).more h.size));have TE:=I (fun w1 ds (h:Below w.heap.size w w1) (g:MgV w1 w1.heap.size ds (nm m))=>Tj cs ds m (nm m) w1 ((hV.keep h).more h.size) g);have T1:=I (fun w1=>ZN w1 hp.a hs.1);have T2:=I (fun w1=>ZO w1 hp.t hs.2.1);have T3:=I (fun w1=>ZP w1 hp.r hs.2.2.1);have T4:=I (fun w1=>ZQ w1 hp.p hs.2.2.2);have T5:=I (fun w1=>ZR w1 hp.f);have MB:=I (ZS m);clear hc hp hV hcs hs;cases en:decide (m=nm m) with
 |false=>
  rw[en] at TE;have E:=I (show mgB m=false by rw[MB.o,en];rfl);clear en;go_enter Tryz.func101,Tryz.ntmps101
  go_upto_region 1 with fail
  rw[<-eW];clear eW;replace HK:=I (show Blk W.drew _ _ _ from HK.o.drewN 1);replace HB:=I (show Below _ _ W.drew from below_drewN HB.o 1);refine Reg.Cq 5 rfl (by kernel_rfl) ?_;refine Reg.tx 0 (v:=.agg cs) rfl (fun w' hS=>Bq (.tmp 1) rfl rfl (HK.o.below hS) Tryz.underlying91 rfl HI.o) ?_;refine Reg.tx 1 (v:=.agg cs) rfl (fun w' hS=>Bq (.tmp 1) rfl rfl (HK.o.below hS) Tryz.underlying91 rfl HI.o) ?_;refine Reg.DQ 2 rfl (by kernel_rfl) (by rfl) 140 #[.agg cs] (by go_simp) ?_;refine Calls.mono (TN.o _ HB.o) ?_;rintro e w1 ⟨ds,rfl,hds,hb⟩;refine⟨_,rfl,hb,?_⟩;replace HK:=I (HK.o.below hb);replace HB:=HB.t hb;have HD:=I hds;clear hb hds TN;simp only[Act.put,U,Aa,Ab];refine Reg.DQ 3 rfl (by kernel_rfl) (by rfl) 139 #[.agg cs,.agg ds] (by go_simp) ?_;refine Aj (TE.o _ ds HB.o HD.o) ?_;rintro w2 hb;refine⟨_,rfl,hb,?_⟩;replace HK:=I (HK.o.below hb);replace HB:=HB.t hb;clear hb TE HD;simp only[Act.put,U,Aa,Ab];refine Reg.tx 4 (v:=.bool true) rfl (fun w' hS=>by go_simp) ?_;refine wpAnyH_done (by kernel_rfl) ?_ _
  go_wp2
  go_ret;exact⟨by rw[E.o];rfl,HB.o⟩
 |true=>
  rw[en] at TE;have MK:=I (show mgB m=kdB m by rw[MB.o,en];rfl);clear en;go_enter Tryz.func101,Tryz.ntmps101
  go_upto_region 1 with fail
  rw[<-eW];clear eW;replace HK:=I (show Blk W.drew _ _ _ from HK.o.drewN 1);replace HB:=I (show Below _ _ W.drew from below_drewN HB.o 1);refine Reg.Cq 5 rfl (by kernel_rfl) ?_;refine Reg.tx 0 (v:=.agg cs) rfl (fun w' hS=>Bq (.tmp 1) rfl rfl (HK.o.below hS) Tryz.underlying91 rfl HI.o) ?_;refine Reg.tx 1 (v:=.agg cs) rfl (fun w' hS=>Bq (.tmp 1) rfl rfl (HK.o.below hS) Tryz.underlying91 rfl HI.o) ?_;refine Reg.DQ 2 rfl (by kernel_rfl) (by rfl) 140 #[.agg cs] (by go_simp) ?_;refine Calls.mono (TN.o _ HB.o) ?_;rintro e w1 ⟨ds,rfl,hds,hb⟩;refine⟨_,rfl,hb,?_⟩;replace HK:=I (HK.o.below hb);replace HB:=HB.t hb;have HD:=I hds;clear hb hds TN;simp only[Act.put,U,Aa,Ab];refine Reg.DQ 3 rfl (by kernel_rfl) (by rfl) 139 #[.agg cs,.agg ds] (by go_simp) ?_;refine Aj (TE.o _ ds HB.o HD.o) ?_;rintro w2 hb;refine⟨_,rfl,hb,?_⟩;replace HK:=I (HK.o.below hb);replace HB:=HB.t hb;clear hb TE HD;simp only[Act.put,U,Aa,Ab];refine Reg.tx 4 (v:=.bool false) rfl (fun w' hS=>by go_simp) ?_;refine wpAnyH_done (by kernel_rfl) ?_ _;replace HK:=I (EC.o▸HK.o);have HA:=I (HP.o.at_ HK.o);have k0:=HA.o.k
  by_cases m1:m.k=1
  ·have y1:(m.k==1)=true:=by simpa using m1
   have y2:(m.k==2)=false:=by simp;omega
   have y3:(m.k==3)=false:=by simp;omega
   have y4:(m.k==4)=false:=by simp;omega
   have y5:(m.k==5)=false:=by simp;omega
   have E:=I (show mgB m=asB m.aq by rw[MK.o,kdB,if_pos m1]);clear m1
   go_wp2_with (first
    |(refine Ax (by rfl) 85 (.tmp 12) (by rfl) w.heap.size 1 (by rfl) pa _ HA.o.a Tryz.underlying85 (by rfl) (by rw[HP.o.a.size];exact Cd) ?_)
    |(go_at_call 141;refine Aj (T1.o _) ?_;rintro w3 hb;replace HB:=HB.t hb;clear hb T1)
    |fail)
   go_ret;exact⟨by rw[E.o];rfl,HB.o⟩
  ·have nm1:=m1
   by_cases m2:m.k=2
   ·have y1:(m.k==1)=false:=by simp;omega
    have y2:(m.k==2)=true:=by simpa using m2
    have y3:(m.k==3)=false:=by simp;omega
    have y4:(m.k==4)=false:=by simp;omega
    have y5:(m.k==5)=false:=by simp;omega
    have E:=I (show mgB m=tgB m.tg by rw[MK.o,kdB,if_neg m1,if_pos m2]);clear m1 m2
    go_wp2_with (first
     |(refine Ax (by rfl) 30 (.tmp 17) (by rfl) w.heap.size 7 (by rfl) pt _ HA.o.t Tryz.underlying30 (by rfl) (by rw[HP.o.t.size];exact Bs) ?_)
     |(go_at_call 142;refine Aj (T2.o _) ?_;rintro w3 hb;replace HB:=HB.t hb;clear hb T2)
     |fail)
    go_ret;exact⟨by rw[E.o];rfl,HB.o⟩
   ·have nm2:=m2
    by_cases m3:m.k=3
    ·have y1:(m.k==1)=false:=by simp;omega
     have y2:(m.k==2)=false:=by simp;omega
     have y3:(m.k==3)=true:=by simpa using m3
     have y4:(m.k==4)=false:=by simp;omega
     have y5:(m.k==5)=false:=by simp;omega
     have E:=I (show mgB m=reB m.re by rw[MK.o,kdB,if_neg m1,if_neg m2,if_pos m3]);clear m1 m2 m3
     go_wp2_with (first
      |(refine Ax (by rfl) 43 (.tmp 22) (by rfl) w.heap.size 16 (by rfl) pr _ HA.o.r Tryz.underlying43 (by rfl) (by rw[HP.o.r.size];exact AK) ?_)
      |(go_at_call 143;refine Aj (T3.o _) ?_;rintro w3 hb;replace HB:=HB.t hb;clear hb T3)
      |fail)
     go_ret;exact⟨by rw[E.o];rfl,HB.o⟩
    ·have nm3:=m3
     by_cases m4:m.k=4
     ·have y1:(m.k==1)=false:=by simp;omega
      have y2:(m.k==2)=false:=by simp;omega
      have y3:(m.k==3)=false:=by simp;omega
      have y4:(m.k==4)=true:=by simpa using m4
      have y5:(m.k==5)=false:=by simp;omega
      have E:=I (show mgB m=apB m.ap by rw[MK.o,kdB,if_neg m1,if_neg m2,if_neg m3,if_pos m4]);clear m1 m2 m3 m4
      go_wp2_with (first
       |(refine Ax (by rfl) 87 (.tmp 27) (by rfl) w.heap.size 23 (by rfl) pp _ HA.o.p Tryz.underlying87 (by rfl) (by rw[HP.o.p.size];exact DU) ?_)
       |(go_at_call 144;refine Aj (T4.o _) ?_;rintro w3 hb;replace HB:=HB.t hb;clear hb T4)
       |fail)
      go_ret;exact⟨by rw[E.o];rfl,HB.o⟩
     ·have nm4:=m4
      by_cases m5:m.k=5
      ·have y1:(m.k==1)=false:=by simp;omega
       have y2:(m.k==2)=false:=by simp;omega
       have y3:(m.k==3)=false:=by simp;omega
       have y4:(m.k==4)=false:=by simp;omega
       have y5:(m.k==5)=true:=by simpa using m5
       have E:=I (show mgB m=faB m.fa by rw[MK.o,kdB,if_neg m1,if_neg m2,if_neg m3,if_neg m4,if_pos m5]);clear m1 m2 m3 m4 m5
       go_wp2_with (first
        |(refine Ax (by rfl) 89 (.tmp 32) (by rfl) w.heap.size 28 (by rfl) pf _ HA.o.f Tryz.underlying89 (by rfl) (by rw[HP.o.f.size];exact FE) ?_)
        |(go_at_call 145;refine Aj (T5.o _) ?_;rintro w3 hb;replace HB:=HB.t hb;clear hb T5)
        |fail)
       go_ret;exact⟨by rw[E.o];rfl,HB.o⟩
      ·have nm5:=m5
       have y1:(m.k==1)=false:=by simp;omega
       have y2:(m.k==2)=false:=by simp;omega
       have y3:(m.k==3)=false:=by simp;omega
       have y4:(m.k==4)=false:=by simp;omega
       have y5:(m.k==5)=false:=by simp;omega
       have E:=I (show mgB m=false by rw[MK.o,kdB,if_neg m1,if_neg m2,if_neg m3,if_neg m4,if_neg m5]);clear m1 m2 m3 m4 m5
       go_wp2
       go_ret;exact⟨by rw[E.o];rfl,HB.o⟩
theorem Qp (cs:Array Value) (m:Mg) (w:World) (h:MgV w w.heap.size cs m) (hx:mgB m=true):Calls Tryz.prog 103 #[.agg cs] w (BS w (mgE m)):=by
 obtain⟨pa,pt,pr,pp,pf,hc,hp⟩:=h;obtain⟨W,eW⟩:=Ak (w.alloc (.cells cs 91));have HK:=I (show Blk W w.heap.size 91 (mgA m.k pa pt pr pp pf) by rw[eW,<-hc];exact Blk.new _ _ _);have HB:=I (show Below w.heap.size w W by rw[eW];exact Ah.alloc Ag _);have HA:=I (hp.at_ HK.o);have k0:=HA.o.k;have HP:=I hp;clear hc;rcases Oc hx with⟨h1,e⟩ | ⟨h1,e⟩ | ⟨h1,e⟩ | ⟨h1,e⟩ | ⟨h1,e⟩
 ·have hk:m.k=1:=by rw[e]
  have y1:(m.k==1)=true:=by rw[hk];rfl
  have y2:(m.k==2)=false:=by rw[hk];rfl
  have y3:(m.k==3)=false:=by rw[hk];rfl
  have y4:(m.k==4)=false:=by rw[hk];rfl
  have y5:(m.k==5)=false:=by rw[hk];rfl
  have E:=I (show mgE m=asE m.aq by rw[e];rfl);have T1:=I (fun w1 (h:Below w.heap.size w w1)=>XW w1 hp.a h1);rw[E.o];clear hx h1 e hk hp E;go_enter Tryz.func103,Tryz.ntmps103
  go_upto_region 1 with fail
  rw[<-eW];clear eW
  go_wp2_with (first
   |(refine Ax (by rfl) 85 (.tmp 7) (by rfl) w.heap.size 1 (by rfl) pa _ HA.o.a Tryz.underlying85 (by rfl) (by rw[HP.o.a.size];exact Cd) ?_)
   |(go_at_call 146;refine Calls.mono (T1.o _ HB.o) ?_;rintro e w3 ⟨⟨g,c,rfl,h2,h3,h4⟩,hb⟩;have HG:=I (AZ (l:=asE m.aq) ⟨⟨g,c,rfl,h2,h3,h4⟩,hb⟩ HB.o);clear h2 h3 h4 hb T1)
   |fail)
  go_ret;exact HG.o
 ·have hk:m.k=2:=by rw[e]
  have y1:(m.k==1)=false:=by rw[hk];rfl
  have y2:(m.k==2)=true:=by rw[hk];rfl
  have y3:(m.k==3)=false:=by rw[hk];rfl
  have y4:(m.k==4)=false:=by rw[hk];rfl
  have y5:(m.k==5)=false:=by rw[hk];rfl
  have E:=I (show mgE m=tgE m.tg by rw[e];rfl);have T1:=I (fun w1 (h:Below w.heap.size w w1)=>XX w1 ((hp.t.keep h).more h.size) h1);rw[E.o];clear hx h1 e hk hp E;go_enter Tryz.func103,Tryz.ntmps103
  go_upto_region 1 with fail
  rw[<-eW];clear eW
  go_wp2_with (first
   |(refine Ax (by rfl) 30 (.tmp 12) (by rfl) w.heap.size 7 (by rfl) pt _ HA.o.t Tryz.underlying30 (by rfl) (by rw[HP.o.t.size];exact Bs) ?_)
   |(go_at_call 147;refine Calls.mono (T1.o _ HB.o) ?_;rintro e w3 ⟨⟨g,c,rfl,h2,h3,h4⟩,hb⟩;have HG:=I (AZ (l:=tgE m.tg) ⟨⟨g,c,rfl,h2,h3,h4⟩,hb⟩ HB.o);clear h2 h3 h4 hb T1)
   |fail)
  go_ret;exact HG.o
 ·have hk:m.k=3:=by rw[e]
  have y1:(m.k==1)=false:=by rw[hk];rfl
  have y2:(m.k==2)=false:=by rw[hk];rfl
  have y3:(m.k==3)=true:=by rw[hk];rfl
  have y4:(m.k==4)=false:=by rw[hk];rfl
  have y5:(m.k==5)=false:=by rw[hk];rfl
  have E:=I (show mgE m=reE m.re by rw[e];rfl);have T1:=I (fun w1 (h:Below w.heap.size w w1)=>XY w1 ((hp.r.keep h).more h.size) h1);rw[E.o];clear hx h1 e hk hp E;go_enter Tryz.func103,Tryz.ntmps103
  go_upto_region 1 with fail
  rw[<-eW];clear eW
  go_wp2_with (first
   |(refine Ax (by rfl) 43 (.tmp 17) (by rfl) w.heap.size 16 (by rfl) pr _ HA.o.r Tryz.underlying43 (by rfl) (by rw[HP.o.r.size];exact AK) ?_)
   |(go_at_call 148;refine Calls.mono (T1.o _ HB.o) ?_;rintro e w3 ⟨⟨g,c,rfl,h2,h3,h4⟩,hb⟩;have HG:=I (AZ (l:=reE m.re) ⟨⟨g,c,rfl,h2,h3,h4⟩,hb⟩ HB.o);clear h2 h3 h4 hb T1)
   |fail)
  go_ret;exact HG.o
 ·have hk:m.k=4:=by rw[e]
  have y1:(m.k==1)=false:=by rw[hk];rfl
  have y2:(m.k==2)=false:=by rw[hk];rfl
  have y3:(m.k==3)=false:=by rw[hk];rfl
  have y4:(m.k==4)=true:=by rw[hk];rfl
  have y5:(m.k==5)=false:=by rw[hk];rfl
  have E:=I (show mgE m=apE m.ap by rw[e];rfl);have T1:=I (fun w1 (h:Below w.heap.size w w1)=>XZ w1 ((hp.p.keep h).more h.size) h1);rw[E.o];clear hx h1 e hk hp E;go_enter Tryz.func103,Tryz.ntmps103
  go_upto_region 1 with fail
  rw[<-eW];clear eW
  go_wp2_with (first
   |(refine Ax (by rfl) 87 (.tmp 22) (by rfl) w.heap.size 23 (by rfl) pp _ HA.o.p Tryz.underlying87 (by rfl) (by rw[HP.o.p.size];exact DU) ?_)
   |(go_at_call 149;refine Calls.mono (T1.o _ HB.o) ?_;rintro e w3 ⟨⟨g,c,rfl,h2,h3,h4⟩,hb⟩;have HG:=I (AZ (l:=apE m.ap) ⟨⟨g,c,rfl,h2,h3,h4⟩,hb⟩ HB.o);clear h2 h3 h4 hb T1)
   |fail)
  go_ret;exact HG.o
 ·have hk:m.k=5:=by rw[e]
  have y1:(m.k==1)=false:=by rw[hk];rfl
  have y2:(m.k==2)=false:=by rw[hk];rfl
  have y3:(m.k==3)=false:=by rw[hk];rfl
  have y4:(m.k==4)=false:=by rw[hk];rfl
  have y5:(m.k==5)=true:=by rw[hk];rfl
  have E:=I (show mgE m=faE m.fa by rw[e];rfl);have T1:=I (fun w1 (h:Below w.heap.size w w1)=>Ya w1 hp.f);rw[E.o];clear hx h1 e hk hp E;go_enter Tryz.func103,Tryz.ntmps103
  go_upto_region 1 with fail
  rw[<-eW];clear eW
  go_wp2_with (first
   |(refine Ax (by rfl) 89 (.tmp 25) (by rfl) w.heap.size 28 (by rfl) pf _ HA.o.f Tryz.underlying89 (by rfl) (by rw[HP.o.f.size];exact FE) ?_)
   |(go_at_call 150;refine Calls.mono (T1.o _ HB.o) ?_;rintro e w3 ⟨⟨g,c,rfl,h2,h3,h4⟩,hb⟩;have HG:=I (AZ (l:=faE m.fa) ⟨⟨g,c,rfl,h2,h3,h4⟩,hb⟩ HB.o);clear h2 h3 h4 hb T1)
   |fail)
  go_ret;exact HG.o
theorem Wg {m:Mg} (hx:mgB m=true):(mgE m).length<=2000:=by
 rcases Oc hx with⟨h1,e⟩ | ⟨h1,e⟩ | ⟨h1,e⟩ | ⟨h1,e⟩ | ⟨h1,e⟩
 ·have hE:mgE m=asE m.aq:=by rw[e];rfl
  have hp:prB m.aq.c=true/\prB m.aq.s=true/\tmB m.aq.t=true/\tmB m.aq.no=true:=by simpa [asB] using h1
  have b1:=(Bb hp.1).1;have b2:=(Bb hp.2.1).1;have b3:=AF m.aq.t;have b4:=AF m.aq.no;have:=AD 106 [prE m.aq.c,prE m.aq.s,encI m.aq.t,encI m.aq.no].flatten;rw[hE,asE];rw[Um] at this⊢;simp only[List.length_append] at this;omega
 ·have hE:mgE m=tgE m.tg:=by rw[e];rfl
  have hp:tkB m.tg.t=true/\Da m.tg.a=true/\prB m.tg.s=true/\tmB m.tg.u=true/\tmB m.tg.no=true:=by simpa [tgB] using h1
  have b1:=(Hk hp.1).1;have b2:=AD 4 m.tg.a;have b3:=(Bb hp.2.2.1).1;have b4:=AF m.tg.u;have b5:=AF m.tg.no;have b6:=Dk hp.2.1;have:=AD 108 [tkE m.tg.t,elem 4 m.tg.a,prE m.tg.s,encI m.tg.u,encI m.tg.no].flatten;rw[hE,tgE];rw[Fq] at this⊢;simp only[List.length_append] at this;omega
 ·have hE:mgE m=reE m.re:=by rw[e];rfl
  have hp:prB m.re.c=true/\tkB m.re.t=true/\Da m.re.b=true:=by simpa [reB] using h1
  have b1:=(Bb hp.1).1;have b2:=(Hk hp.2.1).1;have b3:=AD 4 m.re.b;have b6:=Dk hp.2.2;have:=AD 107 [prE m.re.c,tkE m.re.t,elem 4 m.re.b].flatten;rw[hE,reE];rw[FZ] at this⊢;simp only[List.length_append] at this;omega
 ·have hE:mgE m=apE m.ap:=by rw[e];rfl
  have hp:tkB m.ap.t=true/\Da m.ap.a=true:=by simpa [apB] using h1
  have b2:=(Hk hp.1).1;have b3:=AD 4 m.ap.a;have b6:=Dk hp.2;have:=AD 110 [tkE m.ap.t,elem 4 m.ap.a].flatten;rw[hE,apE];rw[FY] at this⊢;simp only[List.length_append] at this;omega
 ·have hE:mgE m=faE m.fa:=by rw[e];rfl
  have b2:=AF m.fa.e;have b3:=AF m.fa.no;have:=AD 126 [encI m.fa.e,encI m.fa.no].flatten;rw[hE,faE];rw[FY] at this⊢;simp only[List.length_append] at this;omega
theorem Yb (cs0:Array Value) (m:Mg) (w:World) (h:MgV w w.heap.size cs0 m) (hs:mSm m):Calls Tryz.prog 62 #[.agg cs0] w (EncR w (mgO m)):=by
 have HI:=I (show(Tryz.prog.info? 91).map (·.size)=some cs0.size by obtain⟨pa,pt,pr,pp,pf,hc,hp⟩:=h;rw[hc,hp.size];exact Dv);have I1:=I (fun w1 (h1:Below w.heap.size w w1)=>Tl cs0 m w1 ((h.keep h1).more h1.size) hs);have T0:=I (fun(hx:mgB m=true)=>fun w1 (h1:Below w.heap.size w w1)=>Qp cs0 m w1 ((h.keep h1).more h1.size) hx);have HLEN:=I (fun(hx:mgB m=true)=>Wg hx);obtain⟨cs,ecs⟩:∃cs:Array Value,cs=cs0:=⟨_,rfl⟩;rw[<-ecs] at HI I1 T0⊢;clear ecs;have HB:=I ((Below.refl w.heap.size w).alloc Ag (.cells cs 91));have HK:=I (Blk.new w 91 cs);cases hx:mgB m with
 |false=>
  rw[hx] at I1;have E:=I (show mgO m=none by unfold mgO limO;rw[hx];rfl);rw[E.o];clear hx E T0 HLEN hs h;go_enter Tryz.func62,Tryz.ntmps62
  go_wp2_with (first
   |(refine Am (by rfl) 91 (.tmp 1) (by rfl) w.heap.size 0 (by rfl) cs _ (Ae HK.o) Tryz.underlying91 (by rfl) HI.o ?_)
   |(go_at_call 101;refine Aj (I1.o _ HB.o) ?_;rintro w1 hb;replace HB:=HB.t hb;clear hb I1)
   |fail)
  go_ret2
  exact FQ HB.o
 |true=>
  rw[hx] at I1;have T1:=I (T0.o hx);have hlm:=HLEN.o hx;have E:=I (show mgO m=some (mgE m) from CS.2 ⟨hx,hlm,rfl⟩);rw[E.o];obtain⟨l,el⟩:=Ak (mgE m);rw[<-el] at T1 hlm⊢;have LM:=I (fun A c w1=>FW l A _ c w1 rfl hlm);clear hx E el hlm T0 HLEN hs h;go_enter Tryz.func62,Tryz.ntmps62
  go_wp2_with (first
   |(refine Am (by rfl) 91 (.tmp 1) (by rfl) w.heap.size 0 (by rfl) cs _ (Ae HK.o) Tryz.underlying91 (by rfl) HI.o ?_)
   |(go_at_call 101;refine Aj (I1.o _ HB.o) ?_;rintro w1 hb;replace HK:=I (HK.o.below hb);replace HB:=HB.t hb;clear hb I1)
   |(go_at_call 103;refine Calls.mono (T1.o _ HB.o) ?_;rintro e w2 ⟨⟨g,c,rfl,h2,h3,h4⟩,hb⟩;have HG:=I (AZ (l:=l) ⟨⟨g,c,rfl,h2,h3,h4⟩,hb⟩ HB.o);clear h2 h3 h4 hb T1)
   |(go_at_call 102;refine Aj (LM.o _ _ _) ?_;rintro wy rfl;clear LM)
   |fail)
  go_ret2
  exact FR HG.o
end Mc
namespace Mc
open Go.RowKit Af DerP DerC Ms
theorem Cl:pSm pr0:=⟨by decide,by decide⟩
end Mc
end Go.Proofs.YtlchkbpffaclmaaGreat
